"""Ports that admit: a switch, a directory and the net between them. See portadmit.ports."""
