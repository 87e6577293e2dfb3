import PyProof.Rows.All
import Wide.All
import OpenK.AllK
import Wide.FinOn
import PyProof.EqAt
import PyProof.EqKinds
import PyProof.TupleCall
import KE.BitLaws
import Open.SpecLaws
import KE.OsHead
import KE.OsGo
import PyProof.ZipIter
import PyProof.WalksMore
import PyProof.DictWalks
import PyProof.ListRange
import PyProof.DictTruth
import VbcnadSpec
import PyVbcnad
import PySem.Challenge.RW_portadmit_s01_answers
section
open PySem PySem.W PyProof.Rows
local macro_rules | `(command| lay_quick $_) => do
  let mut c := #[]
  let mut n : List Lean.Name := [`PySem.Challenge.pw_portadmit_s01_answers, `PySem.Challenge.rw_portadmit_s01_answers, `s01_head.heap_1, `s01_head.heap_11, `s01_head.heap_883, `s01_head.view_2]
  for i in [13, 18, 79, 105, 131, 157, 183, 209, 235, 261, 313, 402, 491, 578, 665, 752, 844, 881] do n := .mkStr `s01_head s!"tree_{i}" :: .mkStr `s01_head s!"sts_{i + 2}" :: n
  for i in [0:884] do n := .mkStr `s01_head s!"o_{i}" :: n
  for x in n do c := c.push (← `(theorem $(Lean.mkIdent (.mkStr `PySem.W.Fast s!"tw{x.hash}")) : True := trivial))
  return Lean.mkNullNode c
lay_quick x
local macro_rules | `(tactic| o_law) => `(tactic| skip)
local macro_rules | `(tactic| k_head) => `(tactic| k_headS)
local macro_rules | `(tactic| w_witness2) => `(tactic| exact ⟨[.list [.int 27]], by decide +kernel, by decide +kernel⟩)
set_option maxRecDepth 100000 in
set_option maxHeartbeats 0 in
open_top s01_head for PySem.Challenge.rw_portadmit_s01_answers
end
set_option bootstrap.genMatcherCode false
section
set_option Elab.async false
set_option linter.all false
set_option maxRecDepth 100000
namespace L2
open PySem PySem.Spec PyProof.Rows
noncomputable abbrev Key:=Sum Int Str
noncomputable def keyIs:Key→Value→Bool
 | .inl k,v=>Value.isInt k v
 | .inr x,v=>Value.isStrOf x v
noncomputable def keyH (w:World):Key→Int
 | .inl k=>hashInt k
 | .inr x=>hashStr w x
theorem jak:∀ {k:Key} {v:Value},keyIs k v=true→(∃ i t,k=Sum.inl i∧v=Value.int i t)∨(∃ x t,k=Sum.inr x∧v=Value.str x t)
 | .inl i,v,h=>by
  obtain ⟨t,e⟩:=Value.isInt_shape (k:=i) (v:=v) h
  exact .inl ⟨i,t,rfl,e⟩
 | .inr x,v,h=>by
  obtain ⟨t,e⟩:=Value.isStrOf_shape (x:=x) (v:=v) h
  exact .inr ⟨x,t,rfl,e⟩
theorem keyIs_int (i:Int) (t:Tok):keyIs (.inl i) (.int i t)=true:=by simp [keyIs,Value.isInt]
theorem keyIs_str (x:Str) (t:Tok):keyIs (.inr x) (.str x t)=true:=by simp [keyIs,Value.isStrOf]
theorem key_ll (a b:Int):decide ((Sum.inl a:Key)=Sum.inl b)=(a == b):=by
 by_cases e:a=b
 ·subst e; simp
 ·have h:¬ (Sum.inl a:Key)=Sum.inl b:=fun q=>e (Sum.inl.inj q)
  rw [decide_eq_false h]
  exact (beq_eq_false_iff_ne.mpr e).symm
theorem key_rr (a b:Str):decide ((Sum.inr a:Key)=Sum.inr b)=decide (a=b):=by
 by_cases e:a=b
 ·subst e; simp
 ·have h:¬ (Sum.inr a:Key)=Sum.inr b:=fun q=>e (Sum.inr.inj q)
  rw [decide_eq_false h,decide_eq_false e]
theorem key_lr (a:Int) (b:Str):decide ((Sum.inl a:Key)=Sum.inr b)=false:=decide_eq_false (fun q=>nomatch q)
theorem key_rl (a:Str) (b:Int):decide ((Sum.inr a:Key)=Sum.inl b)=false:=decide_eq_false (fun q=>nomatch q)
noncomputable def mixKind (prog:Program) (w:World):PySem.KeyKind prog w Key where
 is:=keyIs
 hash:=keyH w
 inj:=fun v a b ha hb=>by
  rcases jak ha with ⟨i,t,rfl,rfl⟩ | ⟨x,t,rfl,rfl⟩
  ·rcases jak hb with ⟨j,u,rfl,e⟩ | ⟨y,u,rfl,e⟩
   ·injection e with e1 _; rw [e1]
   ·exact nomatch e
  ·rcases jak hb with ⟨j,u,rfl,e⟩ | ⟨y,u,rfl,e⟩
   ·exact nomatch e
   ·injection e with e1 _; rw [e1]
 byValue:=fun k v h=>by
  rcases jak h with ⟨i,t,rfl,rfl⟩ | ⟨x,t,rfl,rfl⟩ <;> rfl
 pyHash:=fun hv h=>by
  rcases jak hv with ⟨i,t,rfl,rfl⟩ | ⟨x,t,rfl,rfl⟩
  ·exact wpAny_pyHash_int h
  ·exact wpAny_pyHash_str h
 eqBool:=fun hu hv h=>by
  rcases jak hu with ⟨i,t,rfl,rfl⟩ | ⟨x,t,rfl,rfl⟩
  ·rcases jak hv with ⟨j,u,rfl,rfl⟩ | ⟨y,u,rfl,rfl⟩
   ·rw [key_ll] at h; exact wpAny_eqBool_int h
   ·rw [key_lr] at h; exact SeqAt.EqAt.int_str i t y u _ _ _ _ h
  ·rcases jak hv with ⟨j,u,rfl,rfl⟩ | ⟨y,u,rfl,rfl⟩
   ·rw [key_rl] at h; exact SeqAt.EqAt.str_int x t j u _ _ _ _ h
   ·rw [key_rr] at h; exact wpAny_eqBool_str h
 «strs»:=fun k x t v h=>by
  rcases jak h with ⟨i,u,rfl,e⟩ | ⟨y,u,rfl,e⟩
  ·exact nomatch e
  ·injection e with e1 _
   subst e1
   cases v <;> rfl
theorem mixKind_int (prog:Program) (w:World) (i:Int) (t:Tok):(mixKind prog w).is (.inl i) (.int i t)=true:=keyIs_int i t
theorem mixKind_str (prog:Program) (w:World) (x:Str) (t:Tok):(mixKind prog w).is (.inr x) (.str x t)=true:=keyIs_str x t
end L2
namespace L2
open PySem PySem.Spec PyProof.Rows
inductive V where
 | non | bl (b:Bool) | int (i:Int) | str (x:Str) | byt (b:Array UInt8) | flt (b:UInt64) | ref (a:Addr) | ty (n:String)
 deriving DecidableEq
noncomputable def RelV:V→Value→Prop
 | .non,u=>u=Value.none
 | .bl b,u=>u=Value.bool b
 | .int i,u=>∃ t,u=Value.int i t
 | .str x,u=>∃ t,u=Value.str x t
 | .byt b,u=>∃ t,u=Value.bytes b t
 | .flt b,u=>∃ t,u=Value.float b t
 | .ref a,u=>u=Value.ref a
 | .ty n,u=>u=Value.type n
noncomputable abbrev Vals:List V→List Value→Prop:=Paired RelV
theorem Vals.length {xs:List V} {us:List Value} (r:Vals xs us):xs.length=us.length:=Paired.length r
theorem Vals.get:∀ {xs:List V} {us:List Value} {i:Nat} {x:V},Vals xs us→xs[i]? = some x→∃ u,us[i]? = some u∧RelV x u
 | _,_,_,_,.nil,e=>by simp at e
 | _,_,0,_,.cons r _,e=>by simp at e; subst e; exact ⟨_,rfl,r⟩
 | _,_,i+1,x,.cons _ t,e=>by
  obtain ⟨u,h1,h2⟩:=Vals.get (i:=i) (x:=x) t (by simpa using e)
  exact ⟨u,by simpa using h1,h2⟩
theorem Vals.set {x:V} {u:Value} (r:RelV x u):∀ {xs:List V} {us:List Value} (i:Nat),Vals xs us→Vals (xs.set i x) (us.set i u)
 | _,_,_,.nil=>.nil
 | _,_,0,.cons _ t=>.cons r t
 | _,_,i+1,.cons q t=>.cons q (Vals.set r i t)
theorem Vals.append:∀ {xs ys:List V} {us ws:List Value},Vals xs us→Vals ys ws→Vals (xs ++ ys) (us ++ ws)
 | _,_,_,_,.nil,s=>s
 | _,_,_,_,.cons r t,s=>.cons r (Vals.append t s)
theorem Vals.take:∀ {xs:List V} {us:List Value} (n:Nat),Vals xs us→Vals (xs.take n) (us.take n)
 | _,_,0,_=>.nil
 | _,_,_+1,.nil=>.nil
 | _,_,n+1,.cons r t=>.cons r (Vals.take n t)
theorem Vals.drop:∀ {xs:List V} {us:List Value} (n:Nat),Vals xs us→Vals (xs.drop n) (us.drop n)
 | _,_,0,r=>r
 | _,_,_+1,.nil=>.nil
 | _,_,n+1,.cons _ t=>Vals.drop n t
noncomputable def RelO:Option V→Option Value→Prop
 | some v,some u=>RelV v u
 | none,none=>True
 | _,_=>False
noncomputable def KV {κ:Type}:List (κ×V)→List (κ×Value)→Prop:=Paired fun (p:κ×V) (q:κ×Value)=>p.1=q.1∧RelV p.2 q.2
noncomputable def kV:Key→V
 | .inl i=>.int i
 | .inr x=>.str x
inductive HO where
 | lst (xs:List V)
 | tup (xs:List V)
 | dK (kvs:List (Key×V)) | dT (kvs:List (List Key×V))
 | set (S:Int→Bool) (n:Nat)
 | ins (C dx:Addr) (fs:List (Str×V))
 | own (x:Addr)
 | xd (fs:List (Str×V))
 | met (f x:Addr)
 | rng (lo hi:Int)
 | frz (o:Obj) (u:HO)
 | tbl (ps:Array Value)
 | ext (φ:Heap→Prop)
noncomputable abbrev Hp:=Addr→Option HO
noncomputable def upd (H:Hp) (a:Addr) (o:HO):Hp:=fun b=>if b=a then some o else H b
theorem jaa {H:Hp} {a:Addr} {o:HO}:upd H a o a=some o:=by unfold upd; rw [if_pos rfl]
theorem upd_ne {H:Hp} {a b:Addr} {o:HO} (h:b≠a):upd H a o b=H b:=by unfold upd; rw [if_neg h]
theorem jbb {H:Hp} {a:Addr} {o u:HO}:upd (upd H a o) a u=upd H a u:=by
 funext b; unfold upd; split <;> rfl
theorem ne_of {H:Hp} {a b:Addr} {o u:HO} (h:H a=some o) (h':H b=some u) (d:o≠u):a≠b:=by
 intro e; subst e; rw [h] at h'; exact d (Option.some.inj h')
theorem jab {H:Hp} {a b:Addr} {o:HO} (h:H a=some o) (h':H b=none):a≠b:=by
 intro e; subst e; rw [h] at h'; cases h'
section
variable (P:Program) (w:World)
noncomputable def ObjOk (H:Hp) (h:Heap) (a:Addr):HO→Prop
 | .lst xs=>xs.length≤sizeLine∧∃ (its:List Value) (n:Nat),Vals xs its∧h.get? a=some { cls:=.type "list",data:=.seq its.toArray n }
 | .tup xs=>xs.length≤sizeLine∧∃ its:List Value,Vals xs its∧IsTup h a its.toArray
 | .dK kvs=>kvs.length≤sizeLine∧(a == sysModules)=false∧∃ vs,KV kvs vs∧h.DictOf (mixKind P w) a vs
 | .dT kvs=>kvs.length≤sizeLine∧(a == sysModules)=false∧∃ xs:List (List Key×Addr×Value),
   Paired (fun (p:List Key×V) (q:List Key×Addr×Value)=>p.1=q.1∧H q.2.1=some (.tup (p.1.map kV))∧RelV p.2 q.2.2) kvs xs ∧
   ∃ o es ep,h.get? a=some o∧o.ExactDict∧o.data=.dict es ep∧es.toList=xs.map (entryOfKey (tupleKind (mixKind P w)))∧(xs.map (·.1)).Nodup
 | .set S n=>h.SetOf (intKind P w) a S n
 | .ins C dx fs=>H dx=some (.own a)∧fs.length≤1000∧dx≠a∧h.get? a=some (PySem.W.instObj C dx) ∧
   ∃ mA,h.Ns1 dx mA∧(∀ f,RelO (fs.lookup f) (mA f))∧PySem.Within mA (fs.map (·.1))
 | .own _=>∃ o,h.get? a=some o
 | .xd fs=>∃ mA,h.Ns1 a mA∧∀ f,RelO (fs.lookup f) (mA f)
 | .rng lo hi=>∃ t u v,h.get? a=some { cls:=.type "range",data:=.fields #[.int lo t,.int hi u,.int 1 v] }
 | .frz o u=>h.get? a=some o∧ObjOk H h a u
 | .tbl ps=>h.get? a=some { cls:=.none,data:=.fields ps }
 | .met f x=>h.get? a=some (PySem.W.methodObj (.ref f) (.ref x))
 | .ext φ=>φ h∧(∃ o,h.get? a=some o)∧∀ h1 h2:Heap,φ h1→(∀ o,h1.get? a=some o→h2.get? a=some o)→φ h2
noncomputable def HOk (H:Hp) (h:Heap):Prop:=∀ a o,H a=some o→ObjOk P w H h a o
end
section
variable {P:Program} {w:World} {H H':Hp} {h h':Heap} {a:Addr} {o:HO}
theorem ObjOk.lt (x:ObjOk P w H h a o):a < h.objs.size:=by
 cases o with
 | lst xs=>obtain ⟨_,_,_,_,e⟩:=x; exact Heap.lt_size e
 | tup xs=>obtain ⟨_,_,_,p⟩:=x; exact p.lt
 | dK kvs=>obtain ⟨_,_,_,_,o,_,_,e,_⟩:=x; exact Heap.lt_size e
 | dT kvs=>obtain ⟨_,_,_,_,o,_,_,e,_⟩:=x; exact Heap.lt_size e
 | set S n=>obtain ⟨o,_,_,_,e,_⟩:=x; exact Heap.lt_size e
 | ins C dx fs=>obtain ⟨_,_,_,e,_⟩:=x; exact Heap.lt_size e
 | own y=>obtain ⟨_,e⟩:=x; exact Heap.lt_size e
 | xd fs=>obtain ⟨_,⟨_,_,_,e,_⟩,_⟩:=x; exact Heap.lt_size e
 | rng lo hi=>obtain ⟨_,_,_,e⟩:=x; exact Heap.lt_size e
 | frz ob u=>obtain ⟨e,_⟩:=x; exact Heap.lt_size e
 | tbl ps=>exact Heap.lt_size (show h.get? a=some _ from x)
 | met f y=>exact Heap.lt_size (show h.get? a=some _ from x)
 | ext φ=>obtain ⟨_,⟨_,e⟩,_⟩:=x; exact Heap.lt_size e
theorem Paired.mapP {α β:Type} {F G:α→β→Prop}:∀ {l₁:List α} {l₂:List β},Paired F l₁ l₂→(∀ a b,F a b→G a b)→Paired G l₁ l₂
 | _,_,.nil,_=>.nil
 | _,_,.cons r t,f=>.cons (f _ _ r) (Paired.mapP t f)
theorem ObjOk.stay (x:ObjOk P w H h a o) (k:∀ b u,(b=a∨H b=some (.own a))→h.get? b=some u→h'.get? b=some u)
  (ho:∀ b,H b=some (.own a)→H' b=some (.own a)) (ht:∀ b xs,H b=some (.tup xs)→H' b=some (.tup xs)):ObjOk P w H' h' a o:=by
 induction o with
 | lst xs=>obtain ⟨z,its,n,r,e⟩:=x; exact ⟨z,its,n,r,k _ _ (.inl rfl) e⟩
 | tup xs=>obtain ⟨z,its,r,ob,e,c⟩:=x; exact ⟨z,its,r,ob,k _ _ (.inl rfl) e,c⟩
 | dK kvs=>obtain ⟨z,y,vs,r,ob,es,ep,e,c⟩:=x; exact ⟨z,y,vs,r,ob,es,ep,k _ _ (.inl rfl) e,c⟩
 | dT kvs =>
  obtain ⟨z,y,xs,r,ob,es,ep,e,c⟩:=x
  exact ⟨z,y,xs,Paired.mapP r fun p q z=>⟨z.1,ht _ _ z.2.1,z.2.2⟩,ob,es,ep,k _ _ (.inl rfl) e,c⟩
 | set S n=>obtain ⟨ob,es,ep,t,e,c⟩:=x; exact ⟨ob,es,ep,t,k _ _ (.inl rfl) e,c⟩
 | ins C dx fs =>
  obtain ⟨d,z,ne,e,mA,⟨od,es,ep,e2,c⟩,r⟩:=x
  exact ⟨ho _ d,z,ne,k _ _ (.inl rfl) e,mA,⟨od,es,ep,k _ _ (.inr d) e2,c⟩,r⟩
 | own y=>obtain ⟨ob,e⟩:=x; exact ⟨ob,k _ _ (.inl rfl) e⟩
 | xd fs=>obtain ⟨mA,⟨od,es,ep,e,c⟩,r⟩:=x; exact ⟨mA,⟨od,es,ep,k _ _ (.inl rfl) e,c⟩,r⟩
 | rng lo hi=>obtain ⟨t,u,v,e⟩:=x; exact ⟨t,u,v,k _ _ (.inl rfl) e⟩
 | frz ob u ih=>obtain ⟨e,q⟩:=x; exact ⟨k _ _ (.inl rfl) e,ih q⟩
 | tbl ps =>
  have e:h.get? a=some { cls:=.none,data:=.fields ps }:=x
  show h'.get? a=some { cls:=.none,data:=.fields ps }
  exact k a _ (.inl rfl) e
 | met f y =>
  have e:h.get? a=some (PySem.W.methodObj (.ref f) (.ref y)):=x
  show h'.get? a=some (PySem.W.methodObj (.ref f) (.ref y))
  exact k a _ (.inl rfl) e
 | ext φ=>obtain ⟨p,⟨o,e⟩,st⟩:=x; exact ⟨st _ _ p fun o q=>k _ _ (.inl rfl) q,⟨o,k _ _ (.inl rfl) e⟩,st⟩
theorem HOk.lt (x:HOk P w H h) (e:H a=some o):a < h.objs.size:=(x a o e).lt
theorem HOk.fresh (x:HOk P w H h) (e:h.objs.size≤a):H a=none:=by
 cases q:H a with
 | none=>rfl
 | some u=>exact absurd (Nat.lt_of_lt_of_le (x.lt q) e) (Nat.lt_irrefl _)
theorem HOk.kept (x:HOk P w H h) (k:∀ b u,h.get? b=some u→h'.get? b=some u):HOk P w H h':=fun a o e =>
 (x a o e).stay (fun b u _ q=>k b u q) (fun _ q=>q) fun _ _ q=>q
theorem HOk.laid (x:HOk P w H h) (k:∀ b u,h.get? b=some u→h'.get? b=some u) (hp:h.objs.size≤a) (new:ObjOk P w (upd H a o) h' a o):HOk P w (upd H a o) h':=fun b u e=>by
 have hn:=x.fresh hp
 by_cases hb:b=a
 ·subst hb; rw [jaa] at e; cases e; exact new
 ·rw [upd_ne hb] at e
  exact (x b u e).stay (fun c v _ q=>k c v q) (fun c q=>by rw [upd_ne (jab q hn)]; exact q) fun c xs q=>by rw [upd_ne (jab q hn)]; exact q
end
noncomputable def Rd (H:Hp) (a:Addr) (u:HO):Prop:=H a=some u∨∃ o,H a=some (.frz o u)
theorem Rd.ok {P:Program} {w:World} {H:Hp} {h:Heap} {a:Addr} {u:HO} (r:Rd H a u) (x:HOk P w H h):ObjOk P w H h a u:=by
 rcases r with r | ⟨o,r⟩
 ·exact x a u r
 ·obtain ⟨_,q⟩:=x a _ r
  exact q
noncomputable def Mut:Option HO→Prop
 | some (.lst _)=>True
 | some (.dK _)=>True
 | some (.dT _)=>True
 | some (.set _ _)=>True
 | some (.ins _ _ _)=>True
 | some (.ext _)=>True
 | _=>False
section
variable {P:Program} {w:World} {H:Hp} {h h':Heap} {x e:Addr} {o':HO}
theorem HOk.write (ok:HOk P w H h) (mu:Mut (H x)) (he:e=x∨H e=some (.own x)) (k:∀ b u,b≠e→h.get? b=some u→h'.get? b=some u) (heo:∃ u,h'.get? e=some u)
  (new:ObjOk P w (upd H x o') h' x o'):HOk P w (upd H x o') h':=fun b u q=>by
 have nown:∀ c y,H c=some (.own y)→c≠x:=fun c y r z=>by subst z; rw [r] at mu; exact mu
 have ntup:∀ c xs,H c=some (.tup xs)→c≠x:=fun c xs r z=>by subst z; rw [r] at mu; exact mu
 by_cases hb:b=x
 ·subst hb; rw [jaa] at q; cases q; exact new
 ·rw [upd_ne hb] at q
  by_cases hbe:b=e
  ·have q':H b=some (.own x):=by
    rcases he with z | z
    ·exact absurd (hbe.trans z) hb
    ·rw [hbe]; exact z
   rw [q] at q'; cases q'
   obtain ⟨v,hv⟩:=heo
   exact ⟨v,by rw [hbe]; exact hv⟩
  ·refine (ok b u q).stay (fun c v hc r=>k c v ?_ r) (fun c r=>by rw [upd_ne (nown c b r)]; exact r) fun c xs r=>by rw [upd_ne (ntup c xs r)]; exact r
   rcases hc with rfl | hc
   ·exact hbe
   ·rintro rfl
    rcases he with z | z
    ·exact nown c b hc z
    ·rw [hc] at z; cases z; exact hb rfl
end
structure Un (fs ex:List Addr) (H H':Hp) (h h':Heap):Prop where
 keep:∀ b o,h.get? b=some o→H b=none→b ∉ fs→b ∉ ex→h'.get? b=some o
 slot:∀ b o,h.get? b=some o→H b=none→b ∈ fs→b ∉ ex→∃ sl,h'.get? b=some { o with slots:=sl }
 free:∀ b o,h.get? b=some o→H b=none→b ∉ ex→H' b=none
 there:∀ b o,h.get? b=some o→b ∉ ex→∃ o',h'.get? b=some o'
 tups:∀ b xs,H b=some (.tup xs)→H' b=some (.tup xs)
 frzs:∀ b o u,H b=some (.frz o u)→H' b=some (.frz o u)
 tbls:∀ b ps,H b=some (.tbl ps)→∃ more,H' b=some (.tbl (ps ++ more))
section
variable {fs fs' ex ex':List Addr} {H H1 H2:Hp} {h h1 h2 h':Heap} {a x e:Addr} {o:HO}
theorem Un.any (u:Un fs ex H H1 h h1) {b:Addr} {ob:Obj} (q:h.get? b=some ob) (n:H b=none) (hx:b ∉ ex):∃ sl,h1.get? b=some { ob with slots:=sl }:=by
 by_cases hb:b ∈ fs
 ·exact u.slot b ob q n hb hx
 ·exact ⟨ob.slots,u.keep b ob q n hb hx⟩
theorem Un.kept (k:∀ b u,h.get? b=some u→h'.get? b=some u):Un fs ex H H h h' :=
 ⟨fun b ob q _ _ _=>k b ob q,fun b ob q _ _ _=>⟨ob.slots,k b ob q⟩,fun _ _ _ n _=>n,fun b ob q _=>⟨ob,k b ob q⟩,fun _ _ q=>q,fun _ _ _ q=>q,fun _ ps q=>⟨#[],by rw [q]; simp⟩⟩
theorem Un.refl:Un fs ex H H h h:=Un.kept fun _ _ q=>q
theorem Un.laid (k:∀ b u,h.get? b=some u→h'.get? b=some u) (hp:h.objs.size≤a) (hn:H a=none):Un fs ex H (upd H a o) h h' where
 keep:=fun b u q _ _ _=>k b u q
 slot:=fun b u q _ _ _=>⟨u.slots,k b u q⟩
 free:=fun b u q n _=>by rw [upd_ne (Nat.ne_of_lt (Nat.lt_of_lt_of_le (Heap.lt_size q) hp))]; exact n
 there:=fun b u q _=>⟨u,k b u q⟩
 tups:=fun b xs q=>by rw [upd_ne (jab q hn)]; exact q
 frzs:=fun b u xs q=>by rw [upd_ne (jab q hn)]; exact q
 tbls:=fun b ps q=>⟨#[],by rw [upd_ne (jab q hn),q]; simp⟩
theorem Un.write (mu:Mut (H x)) (he:e=x∨H e=some (.own x)) (k:∀ b u,b≠e→h.get? b=some u→h'.get? b=some u) (heo:∃ u,h'.get? e=some u):Un fs ex H (upd H x o) h h':=by
 have hx:∀ b,H b=none→b≠x:=fun b n z=>by subst z; rw [n] at mu; exact mu
 have hb:∀ b,H b=none→b≠e:=fun b n z=>by
  subst z
  rcases he with r | r
  ·exact hx b n r
  ·rw [n] at r; cases r
 have hm:∀ b u,H b=some u→¬ Mut (some u)→b≠x:=fun b u q nm z=>by subst z; rw [q] at mu; exact nm mu
 refine ⟨fun b u q n _ _=>k b u (hb b n) q,fun b u q n _ _=>⟨u.slots,k b u (hb b n) q⟩,fun b u q n _=>by rw [upd_ne (hx b n)]; exact n,fun b u q _=>?_,
  fun b xs q=>by rw [upd_ne (hm b _ q fun z=>z)]; exact q,fun b u xs q=>by rw [upd_ne (hm b _ q fun z=>z)]; exact q,fun b ps q=>⟨#[],by rw [upd_ne (hm b _ q fun z=>z),q]; simp⟩⟩
 by_cases hbe:b=e
 ·subst hbe; exact heo
 ·exact ⟨u,k b u hbe q⟩
end
noncomputable def trk (h:Heap) (H:Hp):List Addr:=(List.range h.objs.size).filter fun a=>(H a).isSome
noncomputable def hidT (h:Heap) (H:Hp):Heap:=PySem.W.hideAll h (trk h H)
theorem hidT_size (h:Heap) (H:Hp):(hidT h H).objs.size=h.objs.size:=PySem.W.hideAll_size _ _
theorem hidT_get {h:Heap} {H:Hp} {b:Addr} {o:Obj} (e:h.get? b=some o) (n:H b=none):(hidT h H).get? b=some o :=
 PySem.W.hideAll_get _ e fun hm=>by
  have q:(H b).isSome=true:=(List.mem_filter.mp hm).2
  rw [n] at q; simp at q
theorem of_hidT {h:Heap} {H:Hp} {b:Addr} {o:Obj} (e:(hidT h H).get? b=some o):h.get? b=some o∧H b=none:=by
 have e':h.get? b=some o:=PySem.W.of_hideAll (trk h H) e
 refine ⟨e',?_⟩
 cases q:H b with
 | none=>rfl
 | some x =>
  have hm:b ∈ trk h H:=List.mem_filter.mpr ⟨List.mem_range.mpr (Heap.lt_size e'),by simp [q]⟩
  have z:(hidT h H).get? b=none:=PySem.W.hideAll_none (trk h H) hm
  rw [z] at e; cases e
noncomputable def allNews (g h:Heap) (L:Addr):List (Addr×Obj):=(List.range h.objs.size).filterMap fun a=>if a=L∨(g.get? a).isSome=true then none else (h.get? a).map fun o=>(a,o)
noncomputable def rest (g h:Heap) (L d:Addr):List (Addr×Obj):=(allNews g h L).filter fun p=>decide (p.1≠d)
end L2
namespace L2
open PySem PySem.Spec PyProof.Rows
structure Mod (K:W.Frag) (mg:Str→Option Value) (base:Heap):Prop where
 kin:K.In base
 glob:base.Ns mainGlobals mg
 blt:∃ mb,base.Ns builtinsNs mb∧∀ x:Str,x≠"__name__"→mb x=bootBuiltins x
 nolimit:base.NoLimit
structure Cx where
 prog:Program
 w:World
 K:W.Frag
 mg:Str→Option Value
 base:Heap
 A:Around
 N:List Str
 s_0:Shared
 H_0:Hp
 env:Env
 outer:List Env
 stack:List Env
 ex:List Addr
 fn:Str→Bool
 calm:Bool
 pn:List (Addr×Obj)
 xe:Value→Shared→Prop
noncomputable def frs (l:List Env):List Addr:=l.filterMap (·.frame)
noncomputable abbrev Cx.fs (X:Cx):List Addr:=frs X.outer
noncomputable def Vis (sc:Scope) (x:Str):Prop:=sc.names.lookup x=some .local∨sc.names.lookup x=some .cell∨sc.names.lookup x=some .free
noncomputable def Loc (sc:Scope) (x:Str):Prop:=sc.names.lookup x=some .local∨sc.names.lookup x=some .cell
noncomputable def Look (env:Env) (h:Heap) (m:Str→Option Value) (x:Str) (u:Value):Prop :=
 (env.kindOf x=some .local∧m x=some u)∨((env.kindOf x=some .cell∨env.kindOf x=some .free)∧∃ c,env.cells.lookup x=some c∧h.IsCell c (some u))
structure Cx.Ok (X:Cx):Prop where
 mod:Mod X.K X.mg X.base
 kind:X.env.scope.kind=.function
 glob:X.env.globals=mainGlobals
 blt:X.env.builtins=builtinsNs
 above:X.s_0.heap.objs.size≤X.env.locals
 inj:∀ x y c,X.env.cells.lookup x=some c→X.env.cells.lookup y=some c→x=y
 has:∀ x,(X.env.kindOf x=some .cell∨X.env.kindOf x=some .free)→∃ c,X.env.cells.lookup x=some c
 cab:∀ x c,X.fn x=true→X.env.cells.lookup x=some c→X.s_0.heap.objs.size≤c
 hd:X.calm=true→X.A.handled=none
 frames:X.A.frames=some X.stack
 stk:X.stack=X.outer∨(X.stack=X.env :: X.outer∧X.env.frame=some X.env.locals)
 exf:∀ b ∈ X.ex,b≠X.env.locals∧∀ x c,X.env.cells.lookup x=some c→c≠b
 bs:∀ b o,X.base.get? b=some o→X.s_0.heap.get? b=some o∧X.H_0 b=none
 bsz:X.base.objs.size≤X.s_0.heap.objs.size
 noex:∀ b o,X.base.get? b=some o→b ∉ X.ex
 exfs:∀ b ∈ X.ex,b ∉ X.fs
 funs:X.s_0.heap.FunFrames X.base X.outer
 frf:∀ b ∈ X.fs,X.H_0 b=none
structure Inv (X:Cx) (pins:List (Addr×Obj)) (σ:List (Option V)) (H:Hp) (s:Shared):Prop where
 ok:X.Ok
 os:s.os=X.s_0.os
 bare:AllBare s.gens
 base:Un X.fs X.ex X.H_0 H X.s_0.heap s.heap
 loc:∃ m,s.heap.Ns X.env.locals m∧∀ (i:Nat) (x:Str) (v:V),X.N[i]? = some x→σ[i]? = some (some v)→Vis X.env.scope x→∃ u,RelV v u∧Look X.env s.heap m x u
 cell:∀ x c,X.env.cells.lookup x=some c→∃ v,s.heap.IsCell c v
 free:H X.env.locals=none
 freeC:∀ x c,X.env.cells.lookup x=some c→H c=none
 pin:∀ p ∈ X.pn ++ pins,s.heap.get? p.1=some p.2∧H p.1=none∧p.1≠X.env.locals∧p.1 ∉ X.fs∧∀ v,p.2.data≠.cell v
 hok:HOk X.prog X.w H s.heap
 len:σ.length=X.N.length
section
variable {X:Cx} {pins:List (Addr×Obj)} {σ:List (Option V)} {H H':Hp} {s:Shared} {h':Heap}
theorem Cx.Ok.nofr (ok:X.Ok) {b:Addr} {o:Obj} (e:X.base.get? b=some o):b ∉ X.fs:=fun hb=>by
 have:=(ok.funs.mem hb).1
 rw [e] at this; cases this
theorem Inv.bs (I:Inv X pins σ H s):∀ b o,X.base.get? b=some o→s.heap.get? b=some o∧H b=none:=fun b o e =>
 ⟨I.base.keep b o (I.ok.bs b o e).1 (I.ok.bs b o e).2 (I.ok.nofr e) (I.ok.noex b o e),I.base.free b o (I.ok.bs b o e).1 (I.ok.bs b o e).2 (I.ok.noex b o e)⟩
theorem Inv.bk (I:Inv X pins σ H s):∀ b o,X.base.get? b=some o→s.heap.get? b=some o:=fun b o e=>(I.bs b o e).1
theorem Inv.mod (I:Inv X pins σ H s):Mod X.K X.mg X.base:=I.ok.mod
theorem Inv.kIn (I:Inv X pins σ H s):X.K.In s.heap:=I.ok.mod.kin.keeps I.bk
theorem Inv.lt (I:Inv X pins σ H s):X.env.locals < s.heap.objs.size:=let ⟨_,hn,_⟩:=I.loc; hn.lt
theorem Inv.sz (I:Inv X pins σ H s):X.s_0.heap.objs.size≤s.heap.objs.size:=Nat.le_trans I.ok.above (Nat.le_of_lt I.lt)
theorem Inv.nofs (I:Inv X pins σ H s) {a:Addr} (h:s.heap.objs.size≤a):a ∉ X.fs:=fun hb=>by
 obtain ⟨_,o,ho,_⟩:=I.ok.funs.mem hb
 exact absurd (Nat.lt_of_lt_of_le (Heap.lt_size ho) (Nat.le_trans I.sz h)) (Nat.lt_irrefl _)
theorem Inv.cne (I:Inv X pins σ H s):∀ x c,X.env.cells.lookup x=some c→c≠X.env.locals:=fun x c e z=>by
 obtain ⟨v,o,ho,hd⟩:=I.cell x c e
 obtain ⟨m,⟨o',es,ep,ho',hd',_⟩,_⟩:=I.loc
 rw [z,ho'] at ho; cases ho; rw [hd'] at hd; cases hd
theorem Inv.funs (I:Inv X pins σ H s):s.heap.FunFrames X.base X.outer:=by
 have all:∀ (l:List Env),(∀ b ∈ frs l,b ∈ X.fs)→X.s_0.heap.FunFrames X.base l→s.heap.FunFrames X.base l:=by
  intro l
  induction l with
  | nil=>intro _ _; trivial
  | cons env r ih =>
   intro hs hl
   obtain ⟨hk,⟨L,o,hf,hn,ho,hd⟩,hr⟩:=hl
   have hL:L ∈ X.fs:=hs L (by unfold frs; rw [List.filterMap_cons,hf]; exact List.mem_cons_self)
   obtain ⟨sl,e⟩:=I.base.slot L o ho (I.ok.frf L hL) hL fun z=>I.ok.exfs L z hL
   exact ⟨hk,⟨L,_,hf,hn,e,hd⟩,ih (fun b hb=>hs b (by unfold frs; rw [List.filterMap_cons,hf]; exact List.mem_cons_of_mem _ hb)) hr⟩
 exact all X.outer (fun _ hb=>hb) I.ok.funs
theorem Inv.stack (I:Inv X pins σ H s):s.heap.FunFrames X.base X.stack:=by
 rcases I.ok.stk with e | ⟨e,hf⟩
 ·rw [e]; exact I.funs
 ·rw [e]
  obtain ⟨m,hn,_⟩:=I.loc
  refine .cons (by rw [I.ok.kind]; decide) hf hn ?_ I.funs
  exact Heap.get?_none_of_le (Nat.le_trans I.ok.bsz I.ok.above)
theorem Inv.stkSub (I:Inv X pins σ H s):∀ b ∈ frs X.stack,b ∈ X.env.locals :: X.fs:=fun b hb=>by
 rcases I.ok.stk with e | ⟨e,hf⟩
 ·rw [e] at hb; exact List.mem_cons_of_mem _ hb
 ·rw [e] at hb
  unfold frs at hb
  rw [List.filterMap_cons,hf] at hb
  exact hb
theorem Inv.stkFree (I:Inv X pins σ H s):∀ b ∈ frs X.stack,H b=none:=fun b hb=>by
 rcases List.mem_cons.mp (I.stkSub b hb) with e | hb
 ·rw [e]; exact I.free
 ·obtain ⟨_,o,ho,_⟩:=I.ok.funs.mem hb
  exact I.base.free b o ho (I.ok.frf b hb) fun z=>I.ok.exfs b z hb
theorem Inv.step {g':Array GenState} {t':Nat} {d':Drawn} {ch:List Addr} (I:Inv X pins σ H s)
  (hch:∀ b ∈ ch,(b ∈ X.ex∨X.s_0.heap.objs.size≤b)∧b≠X.env.locals∧(∀ x c,X.env.cells.lookup x=some c→c≠b)∧∀ p ∈ X.pn ++ pins,p.1≠b)
  (keep:∀ b o,b≠X.env.locals→b ∉ X.fs→b ∉ ch→s.heap.get? b=some o→H b=none→h'.get? b=some o)
  (slot:∀ b o,b≠X.env.locals→b ∈ X.fs→b ∉ ch→s.heap.get? b=some o→H b=none→∃ sl,h'.get? b=some { o with slots:=sl }) (free:∀ b o,b ∉ ch→s.heap.get? b=some o→H b=none→H' b=none)
  (there:∀ b o,b ∉ ch→s.heap.get? b=some o→∃ o',h'.get? b=some o')
  (tups:∀ b xs,H b=some (.tup xs)→H' b=some (.tup xs)) (frzs:∀ b o u,H b=some (.frz o u)→H' b=some (.frz o u)) (tbls:∀ b ps,H b=some (.tbl ps)→∃ more,H' b=some (.tbl (ps ++ more)))
  (ns:∀ m,s.heap.Ns X.env.locals m→h'.Ns X.env.locals m) (hok:HOk X.prog X.w H' h') (hg:AllBare g') :
  Inv X pins σ H' { s with heap:=h',gens:=g',drawn:=d',toks:=t' }:=by
 have neL:∀ b o,X.s_0.heap.get? b=some o→b≠X.env.locals:=fun b o e=>Nat.ne_of_lt (Nat.lt_of_lt_of_le (Heap.lt_size e) I.ok.above)
 have neC:∀ b o,X.s_0.heap.get? b=some o→b ∉ X.ex→b ∉ ch:=fun b o e hx hb=>by
  rcases (hch b hb).1 with z | z
  ·exact hx z
  ·exact absurd (Nat.lt_of_lt_of_le (Heap.lt_size e) z) (Nat.lt_irrefl _)
 have cellK:∀ x c,X.env.cells.lookup x=some c→∀ v,s.heap.IsCell c v→h'.IsCell c v:=fun x c e v ⟨o,ho,hd⟩=>by
  have nch:c ∉ ch:=fun z=>(hch c z).2.2.1 x c e rfl
  by_cases hc:c ∈ X.fs
  ·obtain ⟨sl,q⟩:=slot c o (I.cne x c e) hc nch ho (I.freeC x c e)
   exact ⟨_,q,hd⟩
  ·exact ⟨o,keep c o (I.cne x c e) hc nch ho (I.freeC x c e),hd⟩
 refine ⟨I.ok,I.os,hg,⟨fun b o e n hb hx=>?_,fun b o e n hb hx=>?_,fun b o e n hx=>?_,fun b o e hx=>?_,fun b xs e=>tups b xs (I.base.tups b xs e),fun b o xs e=>frzs b o xs (I.base.frzs b o xs e),fun b ps e=>?_⟩,?_,fun x c e=>?_,?_,fun x c e=>?_,fun p hp=>?_,hok,I.len⟩
 ·exact keep b o (neL b o e) hb (neC b o e hx) (I.base.keep b o e n hb hx) (I.base.free b o e n hx)
 ·obtain ⟨sl,e1⟩:=I.base.slot b o e n hb hx
  obtain ⟨sl',e2⟩:=slot b _ (neL b o e) hb (neC b o e hx) e1 (I.base.free b o e n hx)
  exact ⟨sl',e2⟩
 ·obtain ⟨o',e1⟩:=I.base.there b o e hx
  exact free b o' (neC b o e hx) e1 (I.base.free b o e n hx)
 ·obtain ⟨o',e1⟩:=I.base.there b o e hx
  exact there b o' (neC b o e hx) e1
 ·obtain ⟨m1,e1⟩:=I.base.tbls b ps e
  obtain ⟨m2,e2⟩:=tbls b _ e1
  exact ⟨m1 ++ m2,by rw [e2,Array.append_assoc]⟩
 ·obtain ⟨m,hn,hl⟩:=I.loc
  refine ⟨m,ns m hn,fun i x v e1 e2 e3=>?_⟩
  obtain ⟨u,r,l⟩:=hl i x v e1 e2 e3
  refine ⟨u,r,?_⟩
  rcases l with l | ⟨k,c,e,z⟩
  ·exact .inl l
  ·exact .inr ⟨k,c,e,cellK x c e _ z⟩
 ·obtain ⟨v,z⟩:=I.cell x c e
  exact ⟨v,cellK x c e v z⟩
 ·obtain ⟨m,⟨o,_,_,ho,_⟩,_⟩:=I.loc
  exact free _ o (fun z=>(hch _ z).2.1 rfl) ho I.free
 ·obtain ⟨v,o,ho,hd⟩:=I.cell x c e
  exact free c o (fun z=>(hch c z).2.2.1 x c e rfl) ho (I.freeC x c e)
 ·obtain ⟨e,n,ne,nf,d⟩:=I.pin p hp
  have nch:p.1 ∉ ch:=fun z=>(hch p.1 z).2.2.2 p hp rfl
  exact ⟨keep p.1 p.2 ne nf nch e n,free p.1 p.2 nch e n,ne,nf,d⟩
theorem Inv.un {t':Nat} (I:Inv X pins σ H s) (u:Un X.fs [] H H' s.heap h') (hok:HOk X.prog X.w H' h'):Inv X pins σ H' { s with heap:=h',toks:=t' }:=by
 obtain ⟨m,⟨o,es,ep,ho,r⟩,_⟩:=id I.loc
 obtain ⟨sl,hL⟩:=u.any ho I.free (by simp)
 exact I.step (g':=s.gens) (d':=s.drawn) (ch:=[]) (fun _ z=>nomatch z) (fun b o _ hb _ e n=>u.keep b o e n hb (by simp)) (fun b o _ hb _ e n=>u.slot b o e n hb (by simp)) (fun b o _ e n=>u.free b o e n (by simp)) (fun b o _ e=>u.there b o e (by simp)) u.tups u.frzs u.tbls (fun m' hm=>by
  obtain ⟨o',es',ep',ho',r'⟩:=hm
  rw [ho] at ho'; cases ho'
  exact ⟨_,es',ep',hL,r'⟩) hok I.bare
theorem Inv.call {g':Array GenState} {t':Nat} {d':Drawn} {ch:List Addr} (I:Inv X pins σ H s) (u:Un (frs X.stack) ch H H' s.heap h') (hok:HOk X.prog X.w H' h') (hg:AllBare g')
  (hch:∀ b ∈ ch,(b ∈ X.ex∨X.s_0.heap.objs.size≤b)∧b≠X.env.locals∧(∀ x c,X.env.cells.lookup x=some c→c≠b)∧∀ p ∈ X.pn ++ pins,p.1≠b) :
  Inv X pins σ H' { s with heap:=h',gens:=g',drawn:=d',toks:=t' }:=by
 obtain ⟨m,⟨o,es,ep,ho,r⟩,_⟩:=id I.loc
 obtain ⟨sl,hL⟩:=u.any ho I.free fun z=>(hch _ z).2.1 rfl
 exact I.step (ch:=ch) hch (fun b o hL hb hc e n=>u.keep b o e n (fun z=>(List.mem_cons.mp (I.stkSub b z)).elim hL hb) hc) (fun b o _ _ hc e n=>u.any e n hc) (fun b o hc e n=>u.free b o e n hc) (fun b o hc e=>u.there b o e hc) u.tups u.frzs u.tbls (fun m' hm=>by
  obtain ⟨o',es',ep',ho',r'⟩:=hm
  rw [ho] at ho'; cases ho'
  exact ⟨_,es',ep',hL,r'⟩) hok hg
theorem Inv.turned {t':Nat} {it:Addr} (I:Inv X pins σ H s) (k:∀ b o,b≠it→s.heap.get? b=some o→h'.get? b=some o) (hn:H it=none) (hL:it≠X.env.locals)
  (h1:it ∈ X.ex∨X.s_0.heap.objs.size≤it) (h2:∀ x c,X.env.cells.lookup x=some c→c≠it) (h3:∀ p ∈ X.pn ++ pins,p.1≠it):Inv X pins σ H { s with heap:=h',toks:=t' }:=by
 have nit:∀ b u,H b=some u→b≠it:=fun b u e z=>by rw [z,hn] at e; cases e
 refine I.step (g':=s.gens) (d':=s.drawn) (ch:=[it]) (fun b hb=>?_) (fun b o _ _ hc e _=>k b o (fun z=>hc (by simp [z])) e) (fun b o _ _ hc e _=>⟨o.slots,k b o (fun z=>hc (by simp [z])) e⟩) (fun _ _ _ _ n=>n)
  (fun b o hc e=>⟨o,k b o (fun z=>hc (by simp [z])) e⟩) (fun _ _ e=>e) (fun _ _ _ e=>e) (fun b ps e=>⟨#[],by rw [e]; simp⟩) (fun m hm=>?_) (fun b u e=>?_) I.bare
 ·have e:b=it:=by simpa using hb
  subst e
  exact ⟨h1,hL,h2,h3⟩
 ·obtain ⟨o,es,ep,ho,r⟩:=hm
  exact ⟨o,es,ep,k _ o (Ne.symm hL) ho,r⟩
 ·refine (I.hok b u e).stay (fun c v hc q=>k c v ?_ q) (fun _ q=>q) fun _ _ q=>q
  rcases hc with z | z
  ·rw [z]; exact nit b u e
  ·exact nit c _ z
theorem Inv.tok (I:Inv X pins σ H s) (t:Nat):Inv X pins σ H { s with toks:=t }:=I.un (h':=s.heap) (t':=t) Un.refl I.hok
theorem Inv.kept {t':Nat} (I:Inv X pins σ H s) (k:∀ b u,s.heap.get? b=some u→h'.get? b=some u):Inv X pins σ H { s with heap:=h',toks:=t' }:=I.un (Un.kept k) (I.hok.kept k)
theorem Inv.laid {a:Addr} {o:HO} {t':Nat} (I:Inv X pins σ H s) (k:∀ b u,s.heap.get? b=some u→h'.get? b=some u) (hp:s.heap.objs.size≤a) (new:ObjOk X.prog X.w (upd H a o) h' a o) :
  Inv X pins σ (upd H a o) { s with heap:=h',toks:=t' }:=I.un (Un.laid k hp (I.hok.fresh hp)) (I.hok.laid k hp new)
theorem Inv.write {x e:Addr} {o:HO} {t':Nat} (I:Inv X pins σ H s) (mu:Mut (H x)) (he:e=x∨H e=some (.own x)) (k:∀ b u,b≠e→s.heap.get? b=some u→h'.get? b=some u) (heo:∃ u,h'.get? e=some u)
  (new:ObjOk X.prog X.w (upd H x o) h' x o):Inv X pins σ (upd H x o) { s with heap:=h',toks:=t' }:=I.un (Un.write mu he k heo) (I.hok.write mu he k heo new)
theorem Inv.weak {σ':List (Option V)} (I:Inv X pins σ H s) (hl:σ'.length=σ.length) (w:∀ (i:Nat) v,σ'[i]? = some (some v)→σ[i]? = some (some v)):Inv X pins σ' H s :=
 ⟨I.ok,I.os,I.bare,I.base,let ⟨m,hn,hl'⟩:=I.loc; ⟨m,hn,fun i x v e1 e2 e3=>hl' i x v e1 (w i v e2) e3⟩,I.cell,I.free,I.freeC,I.pin,I.hok,hl.trans I.len⟩
theorem Inv.pins_of {pins':List (Addr×Obj)} (I:Inv X pins σ H s) (h:∀ p ∈ pins',s.heap.get? p.1=some p.2∧H p.1=none∧p.1≠X.env.locals∧p.1 ∉ X.fs∧∀ v,p.2.data≠.cell v):Inv X pins' σ H s :=
 ⟨I.ok,I.os,I.bare,I.base,I.loc,I.cell,I.free,I.freeC,fun p hp=>(List.mem_append.mp hp).elim (fun z=>I.pin p (List.mem_append_left _ z)) (h p),I.hok,I.len⟩
theorem nodup_ix {N:List Str} (hN:N.Nodup) {i j:Nat} {x:Str} (a:N[i]? = some x) (b:N[j]? = some x):i=j:=by
 obtain ⟨h1,e1⟩:=List.getElem?_eq_some_iff.mp a
 obtain ⟨h2,e2⟩:=List.getElem?_eq_some_iff.mp b
 exact (List.getElem_inj hN).mp (e1.trans e2.symm)
theorem store_ok2 {M:Model} {A:Around} {E:Value→Shared→Prop} {i:Nat} {x:Str} {v:V} {u:Value} {Q:Unit→Shared→Prop} (I:Inv X pins σ H s) (hN:X.N.Nodup) (hi:X.N[i]? = some x) (hx:Loc X.env.scope x) (r:RelV v u)
  (h:∀ s',Inv X pins (σ.set i (some v)) H s'→(∃ a,Heap.SameBut a s.heap s'.heap∧(a=X.env.locals∨X.env.cells.lookup x=some a))→Q () s') (hf:X.fn x=true∨X.env.scope.names.lookup x=some .local):wpAny M A (storeName X.env x u) Q E s:=by
 obtain ⟨m,hn,hl⟩:=id I.loc
 have hcls:(X.env.scope.kind == .class || (X.env.scope.kind == .module && X.env.locals != X.env.globals))=false:=by rw [I.ok.kind]; rfl
 have hiσ:i < σ.length:=by rw [I.len]; exact (List.getElem?_eq_some_iff.mp hi).1
 have cne:=I.cne
 have tracked:∀ {a:Addr} {h':Heap},(∃ o,s.heap.get? a=some o∧H a=none)→Heap.SameBut a s.heap h'→HOk X.prog X.w H h':=fun {a h'} ha hs b ob e=>by
  obtain ⟨_,_,hfree⟩:=ha
  refine (I.hok b ob e).stay (fun c w' hc q=>(hs.2 c ?_).trans q) (fun _ q=>q) fun _ _ q=>q
  rintro rfl
  rcases hc with rfl | hc
  ·rw [hfree] at e; cases e
  ·rw [hfree] at hc; cases hc
 rcases hx with hk | hk
 ·refine wpAny_storeName_local hk hn (fun h' hn' hs=>?_) hcls
  obtain ⟨oL,_,_,hoL,_⟩:=id hn
  refine h _ ⟨I.ok,I.os,I.bare,⟨fun b o e n hb hx=>?_,fun b o e n hb hx=>?_,I.base.free,fun b o e hx=>?_,I.base.tups,I.base.frzs,I.base.tbls⟩,⟨_,hn',fun j y v' e1 e2 e3=>?_⟩,fun y c e=>?_,I.free,I.freeC,fun p hp=>?_,tracked ⟨oL,hoL,I.free⟩ hs,by simpa using I.len⟩ ⟨_,hs,.inl rfl⟩
  ·exact (hs.2 b (Nat.ne_of_lt (Nat.lt_of_lt_of_le (Heap.lt_size e) I.ok.above))).trans (I.base.keep b o e n hb hx)
  ·obtain ⟨sl,e1⟩:=I.base.slot b o e n hb hx
   exact ⟨sl,(hs.2 b (Nat.ne_of_lt (Nat.lt_of_lt_of_le (Heap.lt_size e) I.ok.above))).trans e1⟩
  ·obtain ⟨o',e1⟩:=I.base.there b o e hx
   exact ⟨o',(hs.2 b (Nat.ne_of_lt (Nat.lt_of_lt_of_le (Heap.lt_size e) I.ok.above))).trans e1⟩
  ·by_cases hj:j=i
   ·subst hj
    rw [hi] at e1; cases e1
    rw [List.getElem?_set_self hiσ] at e2
    cases e2
    exact ⟨u,r,.inl ⟨hk,by simp⟩⟩
   ·rw [List.getElem?_set_ne (Ne.symm hj)] at e2
    obtain ⟨u',r',q⟩:=hl j y v' e1 e2 e3
    refine ⟨u',r',?_⟩
    rcases q with ⟨k,e⟩ | ⟨k,c,e,z⟩
    ·refine .inl ⟨k,?_⟩
     have:y≠x:=fun e=>hj (nodup_ix hN e1 (e ▸ hi))
     simp [this,e]
    ·exact .inr ⟨k,c,e,z.sameBut hs (cne y c e)⟩
  ·obtain ⟨w',z⟩:=I.cell y c e
   exact ⟨w',z.sameBut hs (cne y c e)⟩
  ·obtain ⟨e,n,ne,nf,d⟩:=I.pin p hp
   exact ⟨(hs.2 p.1 ne).trans e,n,ne,nf,d⟩
 ·have hfn:X.fn x=true:=by
   rcases hf with z | z
   ·exact z
   ·rw [z] at hk; cases hk
  obtain ⟨c,hc⟩:=I.ok.has x (.inl hk)
  obtain ⟨w',z⟩:=I.cell x c hc
  refine wpAny_storeName_cell I.ok.kind hk hc z (fun h' hc' hs=>?_)
  obtain ⟨oc,hoc,hocd⟩:=id z
  refine h { s with heap:=h' } ⟨I.ok,I.os,I.bare,⟨fun b o e n hb hx=>?_,fun b o e n hb hx=>?_,I.base.free,fun b o e hx=>?_,I.base.tups,I.base.frzs,I.base.tbls⟩,⟨m,hn.sameBut hs (Ne.symm (cne x c hc)),fun j y v' e1 e2 e3=>?_⟩,fun y c' e=>?_,I.free,I.freeC,fun p hp=>?_,tracked ⟨oc,hoc,I.freeC x c hc⟩ hs,by simpa using I.len⟩ ⟨c,hs,.inr hc⟩
  ·exact (hs.2 b (Nat.ne_of_lt (Nat.lt_of_lt_of_le (Heap.lt_size e) (I.ok.cab x c hfn hc)))).trans (I.base.keep b o e n hb hx)
  ·obtain ⟨sl,e1⟩:=I.base.slot b o e n hb hx
   exact ⟨sl,(hs.2 b (Nat.ne_of_lt (Nat.lt_of_lt_of_le (Heap.lt_size e) (I.ok.cab x c hfn hc)))).trans e1⟩
  ·obtain ⟨o',e1⟩:=I.base.there b o e hx
   exact ⟨o',(hs.2 b (Nat.ne_of_lt (Nat.lt_of_lt_of_le (Heap.lt_size e) (I.ok.cab x c hfn hc)))).trans e1⟩
  ·by_cases hj:j=i
   ·subst hj
    rw [hi] at e1; cases e1
    rw [List.getElem?_set_self hiσ] at e2
    cases e2
    exact ⟨u,r,.inr ⟨.inl hk,c,hc,hc'⟩⟩
   ·rw [List.getElem?_set_ne (Ne.symm hj)] at e2
    obtain ⟨u',r',q⟩:=hl j y v' e1 e2 e3
    refine ⟨u',r',?_⟩
    rcases q with q | ⟨k,c',e,z'⟩
    ·exact .inl q
    ·refine .inr ⟨k,c',e,z'.sameBut hs ?_⟩
     rintro rfl
     exact hj (nodup_ix hN e1 (I.ok.inj _ _ _ e hc ▸ hi))
  ·by_cases hcc:c'=c
   ·subst hcc; exact ⟨_,hc'⟩
   ·obtain ⟨w2,z2⟩:=I.cell y c' e
    exact ⟨w2,z2.sameBut hs hcc⟩
  ·obtain ⟨e,n,ne,nf,d⟩:=I.pin p hp
   refine ⟨(hs.2 p.1 ?_).trans e,n,ne,nf,d⟩
   intro q
   rw [q,hoc] at e
   have q':oc=p.2:=Option.some.inj e
   exact d w' (by rw [← q']; exact hocd)
theorem store_ok {M:Model} {A:Around} {E:Value→Shared→Prop} {i:Nat} {x:Str} {v:V} {u:Value} {Q:Unit→Shared→Prop} (I:Inv X pins σ H s) (hN:X.N.Nodup) (hi:X.N[i]? = some x) (hx:Loc X.env.scope x) (r:RelV v u)
  (h:∀ s',Inv X pins (σ.set i (some v)) H s'→Q () s') (hf:X.fn x=true∨X.env.scope.names.lookup x=some .local):wpAny M A (storeName X.env x u) Q E s :=
 store_ok2 I hN hi hx r (fun s' I' _=>h s' I') hf
theorem Inv.call' {s':Shared} {ch:List Addr} (I:Inv X pins σ H s) (ho:s'.os=s.os) (u:Un (frs X.stack) ch H H' s.heap s'.heap) (hok:HOk X.prog X.w H' s'.heap) (hg:AllBare s'.gens)
  (hch:∀ b ∈ ch,(b ∈ X.ex∨X.s_0.heap.objs.size≤b)∧b≠X.env.locals∧(∀ x c,X.env.cells.lookup x=some c→c≠b)∧∀ p ∈ X.pn ++ pins,p.1≠b):Inv X pins σ H' s':=by
 obtain ⟨h',g',d',t',o'⟩:=s'
 have e:o'=s.os:=ho
 subst e
 exact I.call (g':=g') (t':=t') (d':=d') u hok hg hch
end
noncomputable abbrev XK:=Value→Option Addr→Hp→Prop
noncomputable abbrev St:=List (Option V)
noncomputable abbrev VK:=V→Hp→Prop
noncomputable abbrev TE:=St→Hp→VK→Prop
noncomputable abbrev TT:=St→Hp→(Bool→Hp→Prop)→Prop
noncomputable abbrev TA:=St→Hp→(List V→Hp→Prop)→Prop
structure Ends where
 nx:St→Hp→Prop
 rt:VK
 bk:St→Hp→Prop:=fun _ _=>False
 ct:St→Hp→Prop:=fun _ _=>False
noncomputable abbrev TS:=Ends→St→Hp→Prop
noncomputable def EP (X:Cx) (pins:List (Addr×Obj)) (σ:St) (Q:VK) (u:Value) (s':Shared):Prop:=∃ v H',Inv X pins σ H' s'∧RelV v u∧Q v H'
noncomputable def TP (X:Cx) (pins:List (Addr×Obj)) (σ:St) (Q:Bool→Hp→Prop) (b:Bool) (s':Shared):Prop:=∃ H',Inv X pins σ H' s'∧Q b H'
noncomputable def AP (X:Cx) (pins:List (Addr×Obj)) (σ:St) (Q:List V→Hp→Prop) (us:List Value) (s':Shared):Prop:=∃ vs H',Inv X pins σ H' s'∧Vals vs us∧Q vs H'
noncomputable def SP (X:Cx) (pins:List (Addr×Obj)) (D:Ends) (f:Flow) (s':Shared):Prop :=
 match f with
 | .next=>∃ σ' H',Inv X pins σ' H' s'∧D.nx σ' H'
 | .brk=>∃ σ' H',Inv X pins σ' H' s'∧D.bk σ' H'
 | .cont=>∃ σ' H',Inv X pins σ' H' s'∧D.ct σ' H'
 | .ret u=>∃ v σ' H',Inv X pins σ' H' s'∧RelV v u∧D.rt v H'
noncomputable def PE (X:Cx) (e:Expr) (t:TE):Prop :=
 ∀ (pins:List (Addr×Obj)) (s:Shared) (σ:St) (H:Hp) (Q:VK),Inv X pins σ H s→t σ H Q→wpAny (model X.prog X.w) X.A (eval e X.env) (EP X pins σ Q) X.xe s
noncomputable def PT (X:Cx) (e:Expr) (t:TT):Prop :=
 ∀ (pins:List (Addr×Obj)) (s:Shared) (σ:St) (H:Hp) (Q:Bool→Hp→Prop),Inv X pins σ H s→t σ H Q→wpAny (model X.prog X.w) X.A (isTrue e X.env (eval e X.env)) (TP X pins σ Q) X.xe s
noncomputable def PW (X:Cx) (e:Expr) (t:TT):Prop :=
 ∀ (whole:Sem Value) (pins:List (Addr×Obj)) (s:Shared) (σ:St) (H:Hp) (Q:Bool→Hp→Prop),Inv X pins σ H s→t σ H Q→wpAny (model X.prog X.w) X.A (isTrue e X.env whole) (TP X pins σ Q) X.xe s
theorem PW.pt {X:Cx} {e:Expr} {t:TT} (h:PW X e t):PT X e t:=h _
noncomputable def PA (X:Cx) (es:List Expr) (t:TA):Prop :=
 ∀ (pos:Pos) (pins:List (Addr×Obj)) (s:Shared) (σ:St) (H:Hp) (Q:List V→Hp→Prop),Inv X pins σ H s→t σ H Q→wpAny (model X.prog X.w) X.A (spliced (backTo pos (starEach es X.env))) (AP X pins σ Q) X.xe s
noncomputable def PS (X:Cx) (st:Stmt) (t:TS):Prop :=
 ∀ (pins:List (Addr×Obj)) (s:Shared) (σ:St) (H:Hp) (D:Ends),Inv X pins σ H s→t D σ H→wpAny (model X.prog X.w) X.A (exec st X.env) (SP X pins D) X.xe s
noncomputable def PSs (X:Cx) (st:List Stmt) (t:TS):Prop :=
 ∀ (pins:List (Addr×Obj)) (s:Shared) (σ:St) (H:Hp) (D:Ends),Inv X pins σ H s→t D σ H→wpAny (model X.prog X.w) X.A (execs st X.env) (SP X pins D) X.xe s
theorem thn {α:Type} {t:Sem α} {Q Q':α→Shared→Prop} {M:Model} {A:Around} {E:Value→Shared→Prop} {s:Shared} (h:wpAny M A t Q E s) (hQ:∀ a s,Q a s→Q' a s):wpAny M A t Q' E s:=wpAny_mono h hQ fun _ _ x=>x
end L2
namespace L2
open PySem PySem.Spec PyProof.Rows
section
variable {X:Cx}
noncomputable def kzV (o:Option (Option V)) (k:V→Prop):Prop:=match o with | some (some a)=>k a | _=>False
noncomputable def kzS {α:Type} (o:Option α) (k:α→Prop):Prop:=match o with | some a=>k a | none=>False
noncomputable def kzE {α:Type} (o:Option α) (k:α→Prop):Prop:=match o with | some a=>k a | none=>False
noncomputable def kzR (x:V) (k:Addr→Prop):Prop:=match x with | .ref a=>k a | _=>False
noncomputable def kzI (x:V) (k:Int→Prop):Prop:=match x with | .int a=>k a | _=>False
noncomputable def kzB (x:V) (k:Bool→Prop):Prop:=match x with | .bl a=>k a | _=>False
noncomputable def kzL (x:Option HO) (k:List V→Prop):Prop:=match x with | some (.lst a)=>k a | _=>False
noncomputable def kzU (x:Option HO) (k:List V→Prop):Prop:=match x with | some (.tup a)=>k a | _=>False
noncomputable def kzD (x:Option HO) (k:List (Key×V)→Prop):Prop:=match x with | some (.dK a)=>k a | _=>False
noncomputable def kzO (x:List V) (k:V→Prop):Prop:=match x with | [a]=>k a | _=>False
noncomputable def kzP (x:List V) (k:Addr→Prop):Prop:=match x with | [.ref a]=>k a | _=>False
noncomputable def kzQ (x:List V) (k:Int→Prop):Prop:=match x with | [.int a]=>k a | _=>False
noncomputable def kzW (x:List V) (k:Int→Int→Int→Prop):Prop:=match x with | [.int a,.int b,.int c]=>k a b c | _=>False
noncomputable def kzA (x:List V) (k:Addr→Int→Prop):Prop:=match x with | [.ref a,.int b]=>k a b | _=>False
section
variable {x:V} {k:V→Prop} {kR:Addr→Prop} {kI:Int→Prop} {kB:Bool→Prop} {kL:List V→Prop} {kD:List (Key×V)→Prop} {u:Option HO} {vs:List V}
theorem kzV_m {o:Option (Option V)}:(match o with | some (some a)=>k a | _=>False)=∃ a,o=some (some a)∧k a:=by split <;> simp_all
theorem kzS_m {α:Type} {o:Option α} {k:α→Prop}:(match o with | some a=>k a | none=>False)=∃ a,o=some a∧k a:=by split <;> simp
theorem kzR_m:(match x with | .ref a=>kR a | _=>False)=∃ a,x=.ref a∧kR a:=by split <;> simp_all
theorem kzI_m:(match x with | .int a=>kI a | _=>False)=∃ a,x=.int a∧kI a:=by split <;> simp_all
theorem kzB_m:(match x with | .bl a=>kB a | _=>False)=∃ a,x=.bl a∧kB a:=by split <;> simp_all
theorem kzL_m:(match u with | some (.lst a)=>kL a | _=>False)=∃ a,u=some (.lst a)∧kL a:=by split <;> simp_all
theorem kzU_m:(match u with | some (.tup a)=>kL a | _=>False)=∃ a,u=some (.tup a)∧kL a:=by split <;> simp_all
theorem kzD_m:(match u with | some (.dK a)=>kD a | _=>False)=∃ a,u=some (.dK a)∧kD a:=by split <;> simp_all
theorem kzO_m:(match vs with | [a]=>k a | _=>False)=∃ a,vs=[a]∧k a:=by split <;> simp_all
theorem kzP_m:(match vs with | [.ref a]=>kR a | _=>False)=∃ a,vs=[.ref a]∧kR a:=by split <;> simp_all
theorem kzW_m {k:Int→Int→Int→Prop}:(match vs with | [.int a,.int b,.int c]=>k a b c | _=>False)=∃ a b c,vs=[.int a,.int b,.int c]∧k a b c:=by
 split
 ·exact propext ⟨fun h=>⟨_,_,_,rfl,h⟩,fun ⟨_,_,_,e,h⟩=>by simp at e; obtain ⟨e1,e2,e3⟩:=e; subst e1 e2 e3; exact h⟩
 ·simp_all
theorem kzA_m {k:Addr→Int→Prop}:(match vs with | [.ref a,.int b]=>k a b | _=>False)=∃ a b,vs=[.ref a,.int b]∧k a b:=by
 split
 ·exact propext ⟨fun h=>⟨_,_,rfl,h⟩,fun ⟨_,_,e,h⟩=>by simp at e; obtain ⟨e1,e2⟩:=e; subst e1 e2; exact h⟩
 ·simp_all
theorem kzQ_m:(match vs with | [.int a]=>kI a | _=>False)=∃ a,vs=[.int a]∧kI a:=by split <;> simp_all
end
noncomputable def tVar (i:Nat):TE:=fun σ H Q=>kzV σ[i]? fun v=>Q v H
noncomputable def tC (v:V):TE:=fun _ H Q=>Q v H
theorem pe_var {i:Nat} {x:Str} {pos:Pos} (hN:X.N[i]? = some x) (hv:Vis X.env.scope x) (hd:(x == ("__debug__" : Str))=false) (hcd:(x == ("__classdict__" : Str))=false):PE X (.Name x pos) (tVar i):=by
 intro pins s σ H Q I h
 obtain ⟨v,e,h⟩:=kzV_m.mp h
 obtain ⟨m,hn,hl⟩:=I.loc
 obtain ⟨u,r,l⟩:=hl i x v hN e hv
 have fin:EP X pins σ Q u s:=⟨v,H,I,r,h⟩
 rcases l with ⟨hk,hm⟩ | ⟨hk,c,hc,hcell⟩
 ·exact wpAny_Name (wpAny_loadName_local I.ok.kind hk hn hm fin) hd
 ·rcases hk with hk | hk
  ·exact wpAny_Name (wpAny_loadName_cell I.ok.kind hk hc hcell fin) hd
  ·exact wpAny_Name (wpAny_loadName_free I.ok.kind hk hc hcell fin hcd) hd
theorem pe_int {i j pos}:PE X (.Constant (.int i) j pos) (tC (.int i)):=fun _ _ _ H _ I h=>wpAny_Constant_int ⟨.int i,H,I.tok _,⟨_,rfl⟩,h⟩
theorem pe_bl {b j pos}:PE X (.Constant (.bool b) j pos) (tC (.bl b)):=fun _ _ _ H _ I h=>Constant_bool ⟨.bl b,H,I,rfl,h⟩
theorem pe_non {j pos}:PE X (.Constant .none j pos) (tC .non):=fun _ _ _ H _ I h=>Constant_none ⟨.non,H,I,rfl,h⟩
noncomputable def Gl (X:Cx) (x:Str):Prop:=X.env.kindOf x=some .globalImplicit
theorem jcw {E:Value→Shared→Prop} {pins:List (Addr×Obj)} {s:Shared} {σ:St} {H:Hp} {x:Str} {u:Value} {pos:Pos} {Q:Value→Shared→Prop} (I:Inv X pins σ H s) (hg:Gl X x) (hm:X.mg x=some u) (h:Q u s)
  (hd:(x == ("__debug__" : Str))=false:=by decide):wpAny (model X.prog X.w) X.A (eval (.Name x pos) X.env) Q E s :=
 Calls.Name_function_global I.ok.kind hg (Calls.loadGlobal_global (by rw [I.ok.glob]; exact I.mod.glob.keeps I.bk) hm h) hd
theorem ld_blt {E:Value→Shared→Prop} {pins:List (Addr×Obj)} {s:Shared} {σ:St} {H:Hp} {x:Str} {u:Value} {pos:Pos} {Q:Value→Shared→Prop} (I:Inv X pins σ H s) (hg:Gl X x) (hm:X.mg x=none) (hv:bootBuiltins x=some u) (h:Q u s)
  (hn:x≠"__name__" := by decide) (hd:(x == ("__debug__" : Str))=false:=by decide):wpAny (model X.prog X.w) X.A (eval (.Name x pos) X.env) Q E s:=by
 obtain ⟨mb,h1,h2⟩:=I.mod.blt
 exact Calls.Name_function_global I.ok.kind hg (Calls.loadGlobal_builtin (by rw [I.ok.glob]; exact I.mod.glob.keeps I.bk) hm (by rw [I.ok.blt]; exact h1.keeps I.bk) ((h2 x hn).trans hv) h) hd
theorem pe_glob {x:Str} {v:V} {u:Value} {pos:Pos} (hg:Gl X x) (hm:X.mg x=some u) (r:RelV v u) (hd:(x == ("__debug__" : Str))=false:=by decide):PE X (.Name x pos) (tC v) :=
 fun _ _ _ H _ I h=>jcw I hg hm ⟨v,H,I,r,h⟩ hd
variable {a b:Expr} {ta tb:TE} {pos:Pos}
noncomputable def PC (X:Cx) (op:CmpOp) (a b:Expr) (t:TE):Prop :=
 ∀ (pins:List (Addr×Obj)) (s:Shared) (σ:St) (H:Hp) (Q:VK),Inv X pins σ H s→t σ H Q →
  wpAny (model X.prog X.w) X.A (eval a X.env) (fun v s₁=>wpAny (model X.prog X.w) X.A (eval b X.env) (fun u s₂=>wpAny (model X.prog X.w) X.A (compareOp op v u) (EP X pins σ Q) X.xe s₂) X.xe s₁) X.xe s
theorem nobehind (b:Expr) {op:CmpOp} (h:op≠.In) (h2:op≠.NotIn):behindInMarks op b=false:=by
 have e1:(op == CmpOp.In)=false:=by cases op <;> first | rfl | exact absurd rfl h
 have e2:(op == CmpOp.NotIn)=false:=by cases op <;> first | rfl | exact absurd rfl h2
 cases b <;> simp [behindInMarks,e1,e2]
noncomputable def tB (t:TE):TT:=fun σ H Q=>t σ H fun x H1=>kzB x fun c=>Q c H1
theorem pe_cmp {op:CmpOp} {t:TE} (h:PC X op a b t) (h1:behindInMarks op b=false):PE X (.Compare a [op] [b] pos) t:=fun pins s σ H Q I hw=>wpAny_Compare1 (h pins s σ H Q I hw) h1
theorem pt_cmp {op:CmpOp} {t:TE} (h:PC X op a b t) (h1:behindInMarks op b=false):PT X (.Compare a [op] [b] pos) (tB t):=by
 intro pins s σ H Q I hw
 refine wpAny_isTrue_Compare1 (thn (h pins s σ H _ I hw) fun v s1 h1=>thn h1 fun u s2 h2=>thn h2 fun c s3 ⟨x,H1,I1,r1,q1⟩=>?_) h1
 obtain ⟨d,rfl,q⟩:=kzB_m.mp q1
 cases r1
 exact wpAny_truthy_bool ⟨H1,I1,q⟩
theorem pt_val {e:Expr} {t:TE} (h:PE X e t) (he:∀ whole,isTrue e X.env whole=(do let v ← whole; standAt e.pos; holding [v] (truthy v))):PT X e (tB t):=by
 intro pins s σ H Q I hw
 refine isTrue_plain (thn (h pins s σ H _ I hw) fun v s1 ⟨x,H1,I1,r1,q1⟩=>?_) (he _)
 obtain ⟨d,rfl,q⟩:=kzB_m.mp q1
 cases r1
 exact wpAny_truthy_bool ⟨H1,I1,q⟩
variable {tA tB':TT} {rest:List Expr}
noncomputable def tAnd (t u:TT):TT:=fun σ H Q=>t σ H fun c H1=>if c=true then u σ H1 Q else Q false H1
noncomputable def tOr (t u:TT):TT:=fun σ H Q=>t σ H fun c H1=>if c=true then Q true H1 else u σ H1 Q
noncomputable def tNot (t:TT):TT:=fun σ H Q=>t σ H fun c H1=>Q (!c) H1
theorem pw_and1 (ha:PT X a tA):PW X (.BoolOp .And [a] pos) tA:=by
 intro wh pins s σ H Q I h
 refine isTrue_and (thn (ha pins s σ H Q I h) fun c s1 e=>?_)
 cases c with
 | true=>exact isTrue_and_nil e
 | false=>exact e
theorem pw_or1 (ha:PT X a tA):PW X (.BoolOp .Or [a] pos) tA:=by
 intro wh pins s σ H Q I h
 refine isTrue_or (thn (ha pins s σ H Q I h) fun c s1 e=>?_)
 cases c with
 | false=>exact isTrue_or_nil e
 | true=>exact e
theorem pw_and (ha:PT X a tA) (hb:PW X (.BoolOp .And (b :: rest) pos) tB'):PW X (.BoolOp .And (a :: b :: rest) pos) (tAnd tA tB'):=by
 intro wh pins s σ H Q I h
 refine isTrue_and (thn (ha pins s σ H _ I h) fun c s1 ⟨H1,I1,q1⟩=>?_)
 cases c with
 | true=>exact hb wh pins s1 σ H1 Q I1 q1
 | false=>exact ⟨H1,I1,q1⟩
theorem pw_or (ha:PT X a tA) (hb:PW X (.BoolOp .Or (b :: rest) pos) tB'):PW X (.BoolOp .Or (a :: b :: rest) pos) (tOr tA tB'):=by
 intro wh pins s σ H Q I h
 refine isTrue_or (thn (ha pins s σ H _ I h) fun c s1 ⟨H1,I1,q1⟩=>?_)
 cases c with
 | true=>exact ⟨H1,I1,q1⟩
 | false=>exact hb wh pins s1 σ H1 Q I1 q1
theorem pt_not (ha:PT X a tA):PT X (.UnaryOp .Not a pos) (tNot tA):=by
 intro pins s σ H Q I h
 exact isTrue_not (ha pins s σ H (fun c H1=>Q (!c) H1) I h)
noncomputable def tAndV (ta tb:TE):TE:=fun σ H Q=>ta σ H fun x H1=>kzB x fun c=>if c=true then tb σ H1 Q else Q (.bl false) H1
noncomputable def tOrV (ta tb:TE):TE:=fun σ H Q=>ta σ H fun x H1=>kzB x fun c=>if c=true then Q (.bl true) H1 else tb σ H1 Q
noncomputable def tNotV (ta:TE):TE:=fun σ H Q=>ta σ H fun x H1=>kzB x fun c=>Q (.bl (!c)) H1
theorem pe_one {op} {t:TE} (h:PE X a t):PE X (.BoolOp op [a] pos) t:=fun pins s σ H Q I hw=>BoolOp_one (h pins s σ H Q I hw)
theorem pe_and (ha:PE X a ta) (hb:PE X (.BoolOp .And (b :: rest) pos) tb):PE X (.BoolOp .And (a :: b :: rest) pos) (tAndV ta tb):=by
 intro pins s σ H Q I h
 refine BoolOp_and (thn (ha pins s σ H _ I h) fun v s1 ⟨x,H1,I1,r1,q1⟩=>?_)
 obtain ⟨c,rfl,q1⟩:=kzB_m.mp q1
 cases r1
 refine wpAny_truthy_bool ?_
 cases c with
 | true=>exact hb pins s1 σ H1 Q I1 q1
 | false=>exact ⟨.bl false,H1,I1,rfl,q1⟩
theorem pe_or (ha:PE X a ta) (hb:PE X (.BoolOp .Or (b :: rest) pos) tb):PE X (.BoolOp .Or (a :: b :: rest) pos) (tOrV ta tb):=by
 intro pins s σ H Q I h
 refine BoolOp_or (thn (ha pins s σ H _ I h) fun v s1 ⟨x,H1,I1,r1,q1⟩=>?_)
 obtain ⟨c,rfl,q1⟩:=kzB_m.mp q1
 cases r1
 refine wpAny_truthy_bool ?_
 cases c with
 | false=>exact hb pins s1 σ H1 Q I1 q1
 | true=>exact ⟨.bl true,H1,I1,rfl,q1⟩
theorem pe_not (ha:PE X a ta):PE X (.UnaryOp .Not a pos) (tNotV ta):=by
 intro pins s σ H Q I h
 refine UnaryOp_ (thn (ha pins s σ H _ I h) fun v s1 ⟨x,H1,I1,r1,q1⟩=>?_)
 obtain ⟨c,rfl,q1⟩:=kzB_m.mp q1
 cases r1
 exact not_of (wpAny_truthy_bool ⟨.bl (!c),H1,I1,rfl,q1⟩)
noncomputable def tIf (t:TT) (ta tb:TE):TE:=fun σ H Q=>t σ H fun c H1=>if c=true then ta σ H1 Q else tb σ H1 Q
theorem pe_ifExp {c:Expr} (hc:PT X c tA) (ha:PE X a ta) (hb:PE X b tb):PE X (.IfExp c a b pos) (tIf tA ta tb):=by
 intro pins s σ H Q I h
 refine wpAny_IfExp (thn (hc pins s σ H _ I h) fun d s1 ⟨H1,I1,q1⟩=>?_)
 cases d with
 | true=>exact ha pins s1 σ H1 Q I1 q1
 | false=>exact hb pins s1 σ H1 Q I1 q1
end
end L2
namespace L2
open PySem PySem.Spec PyProof.Rows
noncomputable def SqL (K:W.Frag) (H:Hp) (a:Addr) (xs:List V):Prop :=
 Rd H a (.lst xs) ∨
  ∃ (o:Obj) (its:Array Value) (n:Nat),K.lookup a=some o∧o.cls=.type "list"∧o.dict=none∧o.data=.seq its n∧its.size≤sizeLine∧Vals xs its.toList
noncomputable def SqT (K:W.Frag) (H:Hp) (a:Addr) (xs:List V):Prop :=
 Rd H a (.tup xs) ∨
  ∃ (o:Obj) (its:Array Value) (n:Nat),K.lookup a=some o∧o.cls=.type "tuple"∧o.data=.seq its n∧its.size≤sizeLine∧Vals xs its.toList
noncomputable def absV:Value→Option V
 | .none=>some .non
 | .bool b=>some (.bl b)
 | .int i _=>some (.int i)
 | .str x _=>some (.str x)
 | .bytes b _=>some (.byt b)
 | .float b _=>some (.flt b)
 | .ref a=>some (.ref a)
 | .type n=>some (.ty n)
 | _=>none
theorem RelV.abs {x:V} {u:Value} (r:RelV x u):absV u=some x:=by
 cases x with
 | non=>cases r; rfl
 | bl _=>cases r; rfl
 | int _=>obtain ⟨t,rfl⟩:=r; rfl
 | str _=>obtain ⟨t,rfl⟩:=r; rfl
 | byt _=>obtain ⟨t,rfl⟩:=r; rfl
 | flt _=>obtain ⟨t,rfl⟩:=r; rfl
 | ref _=>cases r; rfl
 | ty _=>cases r; rfl
theorem RelV.inj {x y:V} {u:Value} (r:RelV x u) (q:RelV y u):x=y:=Option.some.inj (r.abs.symm.trans q.abs)
theorem Vals.inj:∀ {xs ys:List V} {us:List Value},Vals xs us→Vals ys us→xs=ys
 | _,_,_,.nil,.nil=>rfl
 | _,_,_,.cons r t,.cons r' t'=>by rw [r.inj r',Vals.inj t t']
section
variable {X:Cx} {pins:List (Addr×Obj)} {σ:St} {H:Hp} {s:Shared} {a:Addr} {xs ys:List V}
theorem SqL.of {K:W.Frag} (h:H a=some (.lst xs)):SqL K H a xs:=.inl (.inl h)
theorem Inv.list (I:Inv X pins σ H s) (h:SqL X.K H a xs):∃ its:List Value,Vals xs its∧PlainL s.heap a its.toArray∧xs.length≤sizeLine:=by
 rcases h with h | ⟨o,its,n,hk,hc,hd,hs,hz,r⟩
 ·obtain ⟨z,its,n,r,e⟩:=h.ok I.hok
  exact ⟨its,r,⟨_,n,e,rfl,rfl,rfl⟩,z⟩
 ·refine ⟨its.toList,r,⟨o,n,I.kIn a o hk,hc,hd,by simpa using hs⟩,?_⟩
  have e:=r.length
  simp only [Array.length_toList] at e
  omega
theorem Inv.tuple (I:Inv X pins σ H s) (h:SqT X.K H a xs):∃ its:List Value,Vals xs its∧IsTup s.heap a its.toArray∧xs.length≤sizeLine:=by
 rcases h with h | ⟨o,its,n,hk,hc,hs,hz,r⟩
 ·obtain ⟨z,its,r,p⟩:=h.ok I.hok
  exact ⟨its,r,p,z⟩
 ·refine ⟨its.toList,r,⟨o,I.kIn a o hk,hc,n,by simpa using hs⟩,?_⟩
  have e:=r.length
  simp only [Array.length_toList] at e
  omega
theorem Inv.list_inj (I:Inv X pins σ H s) (h:SqL X.K H a xs) (h':SqL X.K H a ys):xs=ys:=by
 obtain ⟨its,r,⟨o,n,e,_,_,d⟩,_⟩:=I.list h
 obtain ⟨its',r',⟨o',n',e',_,_,d'⟩,_⟩:=I.list h'
 rw [e] at e'; cases e'
 rw [d] at d'
 injection d' with d1 _
 have:its=its':=by simpa using congrArg Array.toList d1
 subst this
 exact r.inj r'
theorem Inv.tuple_inj (I:Inv X pins σ H s) (h:SqT X.K H a xs) (h':SqT X.K H a ys):xs=ys:=by
 obtain ⟨its,r,⟨o,e,_,n,d⟩,_⟩:=I.tuple h
 obtain ⟨its',r',⟨o',e',_,n',d'⟩,_⟩:=I.tuple h'
 rw [e] at e'; cases e'
 rw [d] at d'
 injection d' with d1 _
 have:its=its':=by simpa using congrArg Array.toList d1
 subst this
 exact r.inj r'
end
noncomputable abbrev Cx.wish (X:Cx) (E:Value→Shared→Prop):Cx:={ X with xe:=E }
noncomputable abbrev Cx.nox (X:Cx):Cx:=X.wish fun _ _=>False
theorem Cx.Ok.wish {X:Cx} (ok:X.Ok) (E:Value→Shared→Prop):(X.wish E).Ok :=
 ⟨ok.mod,ok.kind,ok.glob,ok.blt,ok.above,ok.inj,ok.has,ok.cab,ok.hd,ok.frames,ok.stk,ok.exf,ok.bs,ok.bsz,ok.noex,ok.exfs,ok.funs,ok.frf⟩
theorem Cx.Ok.unwish {X:Cx} {E:Value→Shared→Prop} (ok:(X.wish E).Ok):X.Ok :=
 ⟨ok.mod,ok.kind,ok.glob,ok.blt,ok.above,ok.inj,ok.has,ok.cab,ok.hd,ok.frames,ok.stk,ok.exf,ok.bs,ok.bsz,ok.noex,ok.exfs,ok.funs,ok.frf⟩
section
variable {X:Cx} {pins:List (Addr×Obj)} {σ:St} {H:Hp} {s:Shared} {E:Value→Shared→Prop}
theorem Inv.wish (I:Inv X pins σ H s) (E:Value→Shared→Prop):Inv (X.wish E) pins σ H s:=⟨I.ok.wish E,I.os,I.bare,I.base,I.loc,I.cell,I.free,I.freeC,I.pin,I.hok,I.len⟩
theorem Inv.unwish (I:Inv (X.wish E) pins σ H s):Inv X pins σ H s:=⟨I.ok.unwish,I.os,I.bare,I.base,I.loc,I.cell,I.free,I.freeC,I.pin,I.hok,I.len⟩
theorem SP.unwish {D:Ends} {f:Flow} {s':Shared} (h:SP (X.wish E) pins D f s'):SP X pins D f s':=by
 cases f with
 | next=>obtain ⟨σ',H',I,q⟩:=h; exact ⟨σ',H',I.unwish,q⟩
 | brk=>obtain ⟨σ',H',I,q⟩:=h; exact ⟨σ',H',I.unwish,q⟩
 | cont=>obtain ⟨σ',H',I,q⟩:=h; exact ⟨σ',H',I.unwish,q⟩
 | ret u=>obtain ⟨v,σ',H',I,r,q⟩:=h; exact ⟨v,σ',H',I.unwish,r,q⟩
theorem PSs.nox {st:List Stmt} {t:TS} (h:PSs X.nox st t):PSs X st t:=fun pins s σ H D I hw =>
 wpAny_mono (h pins s σ H D (I.wish _) hw) (fun _ _ q=>q.unwish) fun _ _ z=>False.elim z
end
section
variable {X:Cx} {st:Stmt} {rest:List Stmt} {t u:TS} {e:Expr} {te:TE} {pos:Pos}
noncomputable def tNext:TS:=fun D σ H=>D.nx σ H
noncomputable def tSeq (t u:TS):TS:=fun D σ H=>t { D with nx:=u D } σ H
theorem pss_nil:PSs X [] tNext:=fun _ _ σ H _ I h=>wpAny_execs_nil ⟨σ,H,I,h⟩
theorem pss_cons (h1:PS X st t) (h2:PSs X rest u):PSs X (st :: rest) (tSeq t u):=by
 intro pins s σ H D I h
 refine wpAny_execs_cons (thn (h1 pins s σ H { D with nx:=u D } I h) fun f s1 q=>?_)
 cases f with
 | next =>
  obtain ⟨σ',H',I',q⟩:=q
  exact h2 pins s1 σ' H' D I' q
 | ret v=>exact q
 | brk=>exact q
 | cont=>exact q
noncomputable def tBreak:TS:=fun D σ H=>D.bk σ H
noncomputable def tCont:TS:=fun D σ H=>D.ct σ H
theorem ps_pass:PS X (.Pass pos) tNext:=fun _ _ σ H _ I h=>wpAny_Pass ⟨σ,H,I,h⟩
theorem ps_break:PS X (.Break pos) tBreak:=fun _ _ σ H _ I h=>wpAny_Break ⟨σ,H,I,h⟩
theorem ps_continue:PS X (.Continue pos) tCont:=fun _ _ σ H _ I h=>wpAny_Continue ⟨σ,H,I,h⟩
theorem Inv.quiet {pins:List (Addr×Obj)} {σ:St} {H:Hp} {s:Shared} (I:Inv X pins σ H s):interactive X.env=false:=by simp [interactive,I.ok.kind]
noncomputable def tDrop (te:TE):TS:=fun D σ H=>te σ H fun _ H1=>D.nx σ H1
theorem ps_expr (he:PE X e te) (hs:swapsWith e none pos.line X.env=pure false:=by rfl):PS X (.Expr e pos) (tDrop te):=by
 intro pins s σ H D I h
 exact wpAny_Expr_any (thn (he pins s σ H _ I h) fun v s1 ⟨x,H1,I1,r1,q1⟩=>⟨σ,H1,I1,q1⟩) I.quiet hs
noncomputable def tRet (te:TE):TS:=fun D σ H=>te σ H D.rt
theorem ps_ret (he:PE X e te):PS X (.Return (some e) pos) (tRet te):=by
 intro pins s σ H D I h
 exact wpAny_Return_some (thn (he pins s σ H _ I h) fun v s1 ⟨x,H1,I1,r1,q1⟩=>⟨x,σ,H1,I1,r1,q1⟩)
noncomputable def tRetN:TS:=fun D _ H=>D.rt .non H
theorem ps_retN:PS X (.Return none pos) tRetN:=fun _ _ σ H _ I h=>wpAny_Return_none ⟨.non,σ,H,I,rfl,h⟩
noncomputable def tIfS (c:TT) (t u:TS):TS:=fun D σ H=>c σ H fun b H1=>if b=true then t D σ H1 else u D σ H1
theorem ps_if {c:Expr} {a b:List Stmt} {tc:TT} (hc:PT X c tc) (ha:PSs X a t) (hb:PSs X b u):PS X (.If c a b pos) (tIfS tc t u):=by
 intro pins s σ H D I h
 refine wpAny_If (thn (hc pins s σ H _ I h) fun d s1 ⟨H1,I1,q1⟩=>?_)
 cases d with
 | true=>exact ha pins s1 σ H1 D I1 q1
 | false=>exact hb pins s1 σ H1 D I1 q1
end
noncomputable abbrev TG:=V→St→Hp→(St→Hp→Prop)→Prop
noncomputable abbrev TGs:=List V→St→Hp→(St→Hp→Prop)→Prop
noncomputable def PG (X:Cx) (target:Expr) (t:TG):Prop :=
 ∀ (pins:List (Addr×Obj)) (s:Shared) (σ:St) (H:Hp) (v:V) (u:Value) (Q:St→Hp→Prop),Inv X pins σ H s→RelV v u→t v σ H Q →
  wpAny (model X.prog X.w) X.A (assign target X.env u) (fun _ s'=>∃ σ' H',Inv X pins σ' H' s'∧Q σ' H') X.xe s
noncomputable def PGs (X:Cx) (ts:List Expr) (t:TGs):Prop :=
 ∀ (pins:List (Addr×Obj)) (s:Shared) (σ:St) (H:Hp) (vs:List V) (us:List Value) (Q:St→Hp→Prop),Inv X pins σ H s→Vals vs us→t vs σ H Q →
  wpAny (model X.prog X.w) X.A (assignInOrder ((assignEach ts X.env).map (·.2)) us) (fun _ s'=>∃ σ' H',Inv X pins σ' H' s'∧Q σ' H') X.xe s
noncomputable abbrev TSet:=V→V→V→Hp→(Hp→Prop)→Prop
noncomputable def PSet (X:Cx) (t:TSet):Prop :=
 ∀ (pins:List (Addr×Obj)) (s:Shared) (σ:St) (H:Hp) (o i v:V) (ov iv u:Value) (Q:Hp→Prop),Inv X pins σ H s→RelV o ov→RelV i iv→RelV v u→t o i v H Q →
  wpAny (model X.prog X.w) X.A (setItem ov iv u) (fun _ s'=>∃ H',Inv X pins σ H' s'∧Q H') X.xe s
noncomputable abbrev TIp:=V→V→Hp→VK→Prop
noncomputable def PIp (X:Cx) (op:Operator) (t:TIp):Prop :=
 ∀ (pins:List (Addr×Obj)) (s:Shared) (σ:St) (H:Hp) (x y:V) (v u:Value) (Q:VK),Inv X pins σ H s→RelV x v→RelV y u→t x y H Q →
  wpAny (model X.prog X.w) X.A (inplaceOp op v u) (EP X pins σ Q) X.xe s
section
variable {X:Cx} {pos:Pos}
noncomputable def gName (i:Nat):TG:=fun v σ H Q=>Q (σ.set i (some v)) H
theorem pg_name {i:Nat} {x:Str} (hN:X.N.Nodup) (hi:X.N[i]? = some x) (hx:Loc X.env.scope x) (hf:X.fn x=true∨X.env.scope.names.lookup x=some .local):PG X (.Name x pos) (gName i):=by
 intro pins s σ H v u Q I r h
 exact wpAny_assign_Name (store_ok I hN hi hx r (fun s' I'=>⟨_,H,I',h⟩) hf)
noncomputable def gNil:TGs:=fun vs σ H Q=>vs=[]∧Q σ H
noncomputable def gCons (t:TG) (u:TGs):TGs:=fun vs σ H Q=>∃ v r,vs=v :: r∧t v σ H fun σ' H'=>u r σ' H' Q
theorem pgs_nil:PGs X [] gNil:=by
 intro pins s σ H vs us Q I r h
 obtain ⟨e,h⟩:=h
 subst e
 cases r
 exact assignInOrder_nil ⟨σ,H,I,h⟩
theorem jci {e:Expr} {es:List Expr} {t:TG} {u:TGs} (h1:PG X e t) (h2:PGs X es u)
  (hs:(assignEach (e :: es) X.env).map (·.2)=assign e X.env :: (assignEach es X.env).map (·.2):=by rfl):PGs X (e :: es) (gCons t u):=by
 intro pins s σ H vs us Q I r h
 obtain ⟨v,vr,e1,h⟩:=h
 subst e1
 cases r with
 | cons r rr =>
  rw [hs]
  refine assignInOrder_cons (thn (h1 pins s σ H _ _ _ I r h) fun _ s1 ⟨σ1,H1,I1,q1⟩=>?_)
  exact h2 pins s1 σ1 H1 _ _ Q I1 rr q1
noncomputable def gTup (K:W.Frag) (n:Nat) (t:TGs):TG:=fun v σ H Q=>∃ a xs,v=.ref a∧SqT K H a xs∧xs.length=n∧t xs σ H Q
theorem pg_tup {es:List Expr} {k:Nat} {t:TGs} {n:Nat} (hc:X.calm=true) (h:PGs X es t)
  (hn:(assignEach es X.env).length=n:=by rfl) (hst:(assignEach es X.env).findIdx? (·.1)=none:=by rfl):PG X (.Tuple es k pos) (gTup X.K n t):=by
 intro pins s σ H v u Q I r hw
 obtain ⟨a,xs,e1,hq,hl,hw⟩:=hw
 subst e1
 cases r
 obtain ⟨its,rv,ht,hz⟩:=I.tuple hq
 refine assign_Tuple_tuple (I.ok.hd hc) ht (by simp [hn,← hl,rv.length]) hst fun h' hx=>?_
 have I1:Inv X pins σ H { s with heap:=h' }:=I.kept (t':=s.toks) fun b o e=>hx b o (Nat.ne_of_lt (Heap.lt_size e)) e
 exact h pins _ σ H xs _ Q I1 (by simpa using rv) hw
noncomputable def gSub (to ti:TE) (t:TSet):TG:=fun v σ H Q=>to σ H fun o H1=>ti σ H1 fun i H2=>t o i v H2 fun H3=>Q σ H3
theorem pg_sub {o i:Expr} {to ti:TE} {t:TSet} (ho:PE X o to) (hi:PE X i ti) (hs:PSet X t)
  (ha:∀ v,assign (.Subscript o i pos) X.env v=(do
   let ov ← holding [v] (eval o X.env)
   let iv ← holding [v,ov] (eval i X.env)
   standAt pos
   holding [v,ov,iv] (setItem ov iv v)
   release [v,ov,iv] []):=by intro _; rfl):PG X (.Subscript o i pos) (gSub to ti t):=by
 intro pins s σ H v u Q I r h
 rw [ha]
 refine wpAny_bind (wpAny_holding (thn (ho pins s σ H _ I h) fun ov s1 ⟨x,H1,I1,r1,q1⟩=>?_))
 refine wpAny_bind (wpAny_holding (thn (hi pins s1 σ H1 _ I1 q1) fun iv s2 ⟨y,H2,I2,r2,q2⟩=>?_))
 refine wpAny_bind (wpAny_standAt (wpAny_bind (wpAny_holding (thn (hs pins s2 σ H2 x y v ov iv u _ I2 r1 r2 r q2) fun _ s3 ⟨H3,I3,q3⟩=>?_))))
 exact wpAny_release ⟨σ,H3,I3,q3⟩
noncomputable def tAsg (te:TE) (g:TG):TS:=fun D σ H=>te σ H fun x H1=>g x σ H1 D.nx
theorem ps_asg {tg e:Expr} {te:TE} {g:TG} (he:PE X e te) (hg:PG X tg g) (hs:swapsWithSole [tg] e pos.line X.env=pure false:=by rfl) (hw:swappedStores [tg] e X.env=pure none:=by rfl)
  (h1:(assignEach [tg] X.env).map (·.2)=[assign tg X.env]:=by rfl):PS X (.Assign [tg] e pos) (tAsg te g):=by
 intro pins s σ H D I h
 refine wpAny_Assign_stores (thn (he pins s σ H _ I h) fun v s1 ⟨x,H1,I1,r1,q1⟩=>?_) hs hw
 rw [h1]
 exact thn (hg pins s1 σ H1 x v _ I1 r1 q1) fun _ s2 q=>q
theorem ps_set {i:Nat} {x:Str} {e:Expr} {te:TE} {pos':Pos} (hN:X.N.Nodup) (hi:X.N[i]? = some x) (hx:Loc X.env.scope x) (he:PE X e te) (hs:swapsWith e (some (.Name x pos')) pos.line X.env=pure false) (hf:X.fn x=true∨X.env.scope.names.lookup x=some .local) :
  PS X (.Assign [.Name x pos'] e pos) (tAsg te (gName i)):=by
 intro pins s σ H D I h
 refine wpAny_Assign_Name (thn (he pins s σ H _ I h) fun v s1 ⟨y,H1,I1,r1,q1⟩=>?_) hs
 exact store_ok I1 hN hi hx r1 (fun s2 I2=>⟨_,H1,I2,q1⟩) hf
noncomputable def tAug (i:Nat) (te:TE) (ti:TIp):TS:=fun D σ H=>kzV σ[i]? fun x=>te σ H fun y H1=>ti x y H1 fun z H2=>D.nx (σ.set i (some z)) H2
theorem ps_aug {i:Nat} {x:Str} {e:Expr} {te:TE} {op:Operator} {ti:TIp} {pos':Pos} (hN:X.N.Nodup) (hi:X.N[i]? = some x) (hx:Loc X.env.scope x) (he:PE X e te) (ho:PIp X op ti) (hf:X.fn x=true∨X.env.scope.names.lookup x=some .local) :
  PS X (.AugAssign (.Name x pos') op e pos) (tAug i te ti):=by
 intro pins s σ H D I h
 obtain ⟨v,e1,h⟩:=kzV_m.mp h
 obtain ⟨m,hn,hl⟩:=I.loc
 have vis:Vis X.env.scope x:=by rcases hx with k | k; exact .inl k; exact .inr (.inl k)
 obtain ⟨u,r,l⟩:=hl i x v hi e1 vis
 refine wpAny_AugAssign_Name ?_
 have go:wpAny (model X.prog X.w) X.A (eval e X.env) (fun w s₂=>wpAny (model X.prog X.w) X.A (inplaceOp op u w) (fun r s₃=>wpAny (model X.prog X.w) X.A (storeName X.env x r) (fun _=>SP X pins D .next) X.xe s₃) X.xe s₂) X.xe s:=by
  refine thn (he pins s σ H _ I h) fun w s1 ⟨y,H1,I1,r1,q1⟩=>?_
  refine thn (ho pins s1 σ H1 v y u w _ I1 r r1 q1) fun z s2 ⟨zv,H2,I2,r2,q2⟩=>?_
  exact store_ok I2 hN hi hx r2 (fun s3 I3=>⟨_,H2,I3,q2⟩) hf
 rcases l with ⟨hk,hm⟩ | ⟨hk,c,hc,hcell⟩
 ·exact wpAny_loadName_local I.ok.kind hk hn hm go
 ·rcases hk with hk | hk
  ·exact wpAny_loadName_cell I.ok.kind hk hc hcell go
  ·rcases hx with k | k
   ·have:X.env.scope.names.lookup x=some .free:=hk
    rw [k] at this; cases this
   ·have:X.env.scope.names.lookup x=some .free:=hk
    rw [k] at this; cases this
noncomputable def ipI (f:Int→Int→Int):TIp:=fun x y H Q=>kzI x fun i=>kzI y fun j=>Q (.int (f i j)) H
end
section
variable {X:Cx} {pos:Pos}
noncomputable def tWhile (c:TT) (tb:TS):TS:=fun D σ H=>∃ W:Nat→St→Hp→Prop,(∃ m,W m σ H)∧∀ m σ H,W m σ H →
 c σ H fun b H1=>if b=true then ∃ N:St→Hp→Prop,(∀ σ' H',N σ' H'→∃ m',m' < m∧W m' σ' H')∧tb { D with nx:=N,ct:=N,bk:=D.nx } σ H1 else D.nx σ H1
theorem ps_while {c:Expr} {body:List Stmt} {tc:TT} {tb:TS} (hp:PassesOwn (model X.prog X.w) X.A X.env X.xe) (hc:PT X c tc) (hb:PSs X body tb):PS X (.While c body [] pos) (tWhile tc tb):=by
 intro pins s σ H D I h
 obtain ⟨W,⟨m0,w0⟩,turn⟩:=h
 refine wpAny_While (codeAny_whileLoop (fun n s'=>∃ σ' H',Inv X pins σ' H' s'∧W n σ' H') ?_ m0 ⟨σ,H,I,w0⟩)
 rintro n s1 ⟨σ1,H1,I1,w1⟩
 refine wpAny_passesOwn hp (thn (hc pins s1 σ1 H1 _ I1 (turn n σ1 H1 w1)) fun b s2 ⟨H2,I2,q2⟩=>?_)
 cases b with
 | true =>
  obtain ⟨N,hN,q2⟩:=q2
  rw [if_pos rfl]
  refine wpAny_passesOwn hp (thn (hb pins s2 σ1 H2 _ I2 q2) fun f s3 q3=>?_)
  cases f with
  | next =>
   obtain ⟨σ3,H3,I3,n3⟩:=q3
   obtain ⟨m',hm,w3⟩:=hN σ3 H3 n3
   exact ⟨m',hm,σ3,H3,I3,w3⟩
  | cont =>
   obtain ⟨σ3,H3,I3,n3⟩:=q3
   obtain ⟨m',hm,w3⟩:=hN σ3 H3 n3
   exact ⟨m',hm,σ3,H3,I3,w3⟩
  | brk=>exact q3
  | ret v=>exact q3
 | false =>
  rw [if_neg Bool.false_ne_true]
  exact wpAny_execs_nil ⟨σ1,H2,I2,q2⟩
end
structure It where
 go:Nat→Hp→Prop
 yld:Nat→Hp→V→Hp→Prop
 stop:Nat→Hp→Prop
noncomputable def FpOk (X:Cx) (pins:List (Addr×Obj)) (H:Hp) (b:Addr):Prop :=
 H b=none∧b≠X.env.locals∧b ∉ X.fs∧(b ∈ X.ex∨X.s_0.heap.objs.size≤b)∧(∀ x c,X.env.cells.lookup x=some c→c≠b)∧∀ p ∈ X.pn ++ pins,p.1≠b
theorem Inv.fpOk {X:Cx} {pins:List (Addr×Obj)} {σ:St} {H H':Hp} {s:Shared} {b:Addr} (I:Inv X pins σ H s) (hb:s.heap.objs.size≤b) (hn:H' b=none):FpOk X pins H' b:=by
 refine ⟨hn,Nat.ne_of_gt (Nat.lt_of_lt_of_le I.lt hb),I.nofs hb,.inr (Nat.le_trans I.sz hb),fun x c e z=>?_,fun p hp z=>?_⟩
 ·obtain ⟨v,q⟩:=I.cell x c e
  exact absurd (Nat.lt_of_lt_of_le q.lt (by rw [z]; exact hb)) (Nat.lt_irrefl _)
 ·exact absurd (Nat.lt_of_lt_of_le (Heap.lt_size (I.pin p hp).1) (by rw [z]; exact hb)) (Nat.lt_irrefl _)
structure Turn (P:Program) (w:World) (K:W.Frag) (tg:Expr) (J:It) (fp:List Addr) (it:Addr) (tn:Nat→Heap→Prop):Prop where
 mem:it ∈ fp
 obj:∀ i h,tn i h→∀ b ∈ fp,∃ o,h.get? b=some o∧∀ v,o.data≠.cell v
 keep:∀ i h h',tn i h→(∀ b ∈ fp,∀ o,h.get? b=some o→h'.get? b=some o)→tn i h'
 item:∀ (X:Cx),X.prog=P→X.w=w→X.K=K→X.calm=true→∀ (i:Nat) (pins:List (Addr×Obj)) (s:Shared) (σ:St) (H:Hp) (E:Value→Shared→Prop),Inv X pins σ H s→(∀ b ∈ fp,FpOk X pins H b)→tn i s.heap→J.go i H →
  wpAny (model P w) X.A (pyNext (.ref it)) (fun r s1=>∃ u,r=some u ∧
   wpAny (model P w) X.A (letOwnedTupleGo tg (.ref it) u) (fun _ s2=>∃ x H',Inv X pins σ H' s2∧RelV x u∧J.yld i H x H'∧tn (i+1) s2.heap∧∀ b ∈ fp,H' b=none) E s1) E s
 done:∀ (X:Cx),X.prog=P→X.w=w→X.K=K→X.calm=true→∀ (i:Nat) (pins:List (Addr×Obj)) (s:Shared) (σ:St) (H:Hp) (E:Value→Shared→Prop),Inv X pins σ H s→(∀ b ∈ fp,FpOk X pins H b)→tn i s.heap→J.stop i H →
  wpAny (model P w) X.A (pyNext (.ref it)) (fun r s1=>r=none∧Inv X pins σ H s1) E s
 self:∀ (A:Around) (i:Nat) (s:Shared) (Q:Value→Shared→Prop) (E:Value→Shared→Prop),tn i s.heap→Q (.ref it) s→wpAny (model P w) A (pyIter (.ref it)) Q E s
noncomputable abbrev TI:=St→Hp→(It→Hp→Prop)→Prop
noncomputable def PIE (X:Cx) (pins:List (Addr×Obj)) (σ:St) (tg:Expr) (R:It→Hp→Prop) (itv:Value) (s2:Shared):Prop :=
 ∃ (it:Addr) (fp:List Addr) (tn:Nat→Heap→Prop) (J:It) (H':Hp),itv=.ref it∧Inv X pins σ H' s2∧Turn X.prog X.w X.K tg J fp it tn∧tn 0 s2.heap∧(∀ b ∈ fp,FpOk X pins H' b)∧R J H'
noncomputable def PI (X:Cx) (tg iter:Expr) (wi:TI):Prop :=
 ∀ (pins:List (Addr×Obj)) (s:Shared) (σ:St) (H:Hp) (R:It→Hp→Prop),Inv X pins σ H s→wi σ H R →
  wpAny (model X.prog X.w) X.A (eval iter X.env) (fun v s1=>wpAny (model X.prog X.w) X.A (pyIter v) (PIE X pins σ tg R) X.xe s1) X.xe s
theorem go_of {M:Model} {A:Around} {E:Value→Shared→Prop} {s:Shared} {tg:Expr} {it:Addr} {u:Value} {o:Obj} {n:String} {vs:Array Value} {Q:Unit→Shared→Prop} (ho:s.heap.get? it=some o) (hc:o.cls=.type n) (hd:o.data=.fields vs)
  (hn:["enumerate", "zip", "dict_itemiterator", "dict_reverseitemiterator", "odict_iterator", "itertools.zip_longest", "itertools.pairwise"].contains n=false) (hQ:Q () s):wpAny M A (letOwnedTupleGo tg (.ref it) u) Q E s:=by
 unfold letOwnedTupleGo
 cases tg <;> first
  | exact wpAny_pure hQ
  | (cases u <;> first
    | exact wpAny_pure hQ
    | (refine wpAny_bind (wpAny_load ho ?_)
       rw [hc,hd]
       show wpAny M A (if (["enumerate", "zip", "dict_itemiterator", "dict_reverseitemiterator", "odict_iterator", "itertools.zip_longest", "itertools.pairwise"].contains n && vs[0]? == some (rawInt _))=true then _ else _) Q E s
       rw [if_neg (by intro h; rw [hn,Bool.false_and] at h; cases h)]
       exact wpAny_pure hQ))
noncomputable def Itl (K:W.Frag) (a:Addr):It :=
 ⟨fun i H=>∃ xs x,SqL K H a xs∧xs[i]? = some x,fun i H x H'=>H'=H∧∀ xs,SqL K H a xs→xs[i]? = some x,fun i H=>∃ xs,SqL K H a xs∧xs.length≤i⟩
noncomputable def Itt (K:W.Frag) (a:Addr):It :=
 ⟨fun i H=>∃ xs x,SqT K H a xs∧xs[i]? = some x,fun i H x H'=>H'=H∧∀ xs,SqT K H a xs→xs[i]? = some x,fun i H=>∃ xs,SqT K H a xs∧xs.length≤i⟩
noncomputable def Itr (lo:Int) (n:Nat):It:=⟨fun i _=>i < n,fun i H x H'=>H'=H∧x=.int (lo+i),fun i _=>n≤i⟩
theorem turn_list {P:Program} {w:World} {K:W.Frag} {tg:Expr} (a it:Addr):Turn P w K tg (Itl K a) [it] it (fun i h=>h.IsListIter it a i) where
 mem:=by simp
 obj:=fun i h st b hb=>by
  have e:b=it:=by simpa using hb
  subst e
  obtain ⟨o,e,c,d⟩:=st
  exact ⟨o,e,fun v z=>by rw [d] at z; cases z⟩
 keep:=fun i h h' st k=>st.at fun o e=>k it (by simp) o e
 item:=by
  intro X hP hw hK hc i pins s σ H E I hf st hg
  subst hP hw hK
  obtain ⟨xs,x,hq,hx⟩:=hg
  obtain ⟨its,rv,p,hz⟩:=I.list hq
  obtain ⟨u,hu,ru⟩:=rv.get hx
  obtain ⟨f0,f1,f2,f3,f4,f5⟩:=hf it (by simp)
  refine wpAny_pyNext_list_item st p.isList (x:=u) (by simpa using hu) fun h' st' sb=>?_
  have I1:Inv X pins σ H { s with heap:=h' }:=I.turned (t':=s.toks) (fun b o hb e=>(sb.2 b hb).trans e) f0 f1 f3 f4 f5
  obtain ⟨o,e,c,d⟩:=id st'
  exact ⟨u,rfl,go_of (s:={ s with heap:=h' }) e c d (by decide) ⟨x,H,I1,ru,⟨rfl,fun ys hy=>by rw [I.list_inj hy hq]; exact hx⟩,st',fun b hb=>(hf b hb).1⟩⟩
 done:=by
  intro X hP hw hK hc i pins s σ H E I hf st hg
  subst hP hw hK
  obtain ⟨xs,hq,hx⟩:=hg
  obtain ⟨its,rv,p,hz⟩:=I.list hq
  obtain ⟨f0,f1,f2,f3,f4,f5⟩:=hf it (by simp)
  have hl:=rv.length
  exact wpAny_pyNext_list_end (I.ok.hd hc) st p.isList (by simp; omega) fun h' eb=>⟨rfl,I.turned (t':=s.toks) (fun b o hb e=>eb b o hb e) f0 f1 f3 f4 f5⟩
 self:=fun _ _ _ _ _ st h=>wpAny_pyIter_listiter st h
theorem turn_tuple {P:Program} {w:World} {K:W.Frag} {tg:Expr} (a it:Addr):Turn P w K tg (Itt K a) [it] it (fun i h=>h.IsTupleIter it a i) where
 mem:=by simp
 obj:=fun i h st b hb=>by
  have e:b=it:=by simpa using hb
  subst e
  obtain ⟨o,e,c,d⟩:=st
  exact ⟨o,e,fun v z=>by rw [d] at z; cases z⟩
 keep:=fun i h h' st k=>st.at fun o e=>k it (by simp) o e
 item:=by
  intro X hP hw hK hc i pins s σ H E I hf st hg
  subst hP hw hK
  obtain ⟨xs,x,hq,hx⟩:=hg
  obtain ⟨its,rv,p,hz⟩:=I.tuple hq
  obtain ⟨u,hu,ru⟩:=rv.get hx
  obtain ⟨f0,f1,f2,f3,f4,f5⟩:=hf it (by simp)
  refine wpAny_pyNext_tuple_item st (show s.heap.IsTuple a its.toArray from p) (x:=u) (by simpa using hu) fun h' st' sb=>?_
  have I1:Inv X pins σ H { s with heap:=h' }:=I.turned (t':=s.toks) (fun b o hb e=>(sb.2 b hb).trans e) f0 f1 f3 f4 f5
  obtain ⟨o,e,c,d⟩:=id st'
  exact ⟨u,rfl,go_of (s:={ s with heap:=h' }) e c d (by decide) ⟨x,H,I1,ru,⟨rfl,fun ys hy=>by rw [I.tuple_inj hy hq]; exact hx⟩,st',fun b hb=>(hf b hb).1⟩⟩
 done:=by
  intro X hP hw hK hc i pins s σ H E I hf st hg
  subst hP hw hK
  obtain ⟨xs,hq,hx⟩:=hg
  obtain ⟨its,rv,p,hz⟩:=I.tuple hq
  obtain ⟨f0,f1,f2,f3,f4,f5⟩:=hf it (by simp)
  have hl:=rv.length
  exact wpAny_pyNext_tuple_end (I.ok.hd hc) st (show s.heap.IsTuple a its.toArray from p) (by simp; omega) fun h' eb=>⟨rfl,I.turned (t':=s.toks) (fun b o hb e=>eb b o hb e) f0 f1 f3 f4 f5⟩
 self:=fun _ _ _ _ _ st h=>wpAny_pyIter_tupleiter st h
theorem turn_range {P:Program} {w:World} {K:W.Frag} {tg:Expr} (it:Addr) (lo:Int) (n:Nat):Turn P w K tg (Itr lo n) [it] it (fun i h=>IsRangeIter h it (lo+(i:Nat) * 1) ((n:Int) - (i:Nat)) 1) where
 mem:=by simp
 obj:=fun i h st b hb=>by
  have e:b=it:=by simpa using hb
  subst e
  exact ⟨_,st,fun v z=>by
   have z':Data.fields _=Data.cell v:=z
   cases z'⟩
 keep:=fun i h h' st k=>k it (by simp) _ st
 item:=by
  intro X hP hw hK hc i pins s σ H E I hf st hg
  subst hP hw hK
  obtain ⟨f0,f1,f2,f3,f4,f5⟩:=hf it (by simp)
  have W:=Walks.range (prog:=X.prog) (w:=X.w) (I.ok.hd hc) it lo 1 n
  refine W.item i s _ _ hg st fun v h' tk hv st' kk=>?_
  obtain ⟨t,rfl⟩:=hv
  have I1:Inv X pins σ H { s with heap:=h',toks:=tk }:=I.turned (fun b o hb e=>kk b o (by simpa using hb) e) f0 f1 f3 f4 f5
  refine ⟨_,rfl,go_of (s:={ s with heap:=h',toks:=tk }) (n := "range_iterator") st' rfl rfl (by decide) ⟨.int (lo+i),H,I1,⟨t,?_⟩,⟨rfl,rfl⟩,st',fun b hb=>(hf b hb).1⟩⟩
  rw [Int.mul_one]
 done:=by
  intro X hP hw hK hc i pins s σ H E I hf st hg
  subst hP hw hK
  obtain ⟨f0,f1,f2,f3,f4,f5⟩:=hf it (by simp)
  exact wpAny_pyNext_range_end (I.ok.hd hc) st (by have:n≤i:=hg; omega) fun h' eb=>⟨rfl,I.turned (t':=s.toks) (fun b o hb e=>eb b o hb e) f0 f1 f3 f4 f5⟩
 self:=fun _ _ _ _ _ st h=>wpAny_pyIter_rangeiter st h
end L2
namespace L2
open PySem PySem.Spec PyProof.Rows
section
variable {X:Cx} {tg:Expr}
noncomputable def iList (K:W.Frag) (tl:TE):TI:=fun σ H R=>tl σ H fun x H1=>kzR x fun a=>(∃ xs,SqL K H1 a xs)∧R (Itl K a) H1
noncomputable def iTup (K:W.Frag) (tl:TE):TI:=fun σ H R=>tl σ H fun x H1=>kzR x fun a=>(∃ xs,SqT K H1 a xs)∧R (Itt K a) H1
theorem pi_list {l:Expr} {tl:TE} (hl:PE X l tl):PI X tg l (iList X.K tl):=by
 intro pins s σ H R I h
 refine thn (hl pins s σ H _ I h) fun v s1 ⟨x,H1,I1,r1,q1⟩=>?_
 obtain ⟨a,e,⟨xs,hq⟩,q⟩:=kzR_m.mp q1
 subst e
 cases r1
 obtain ⟨its,rv,p,hz⟩:=I1.list hq
 refine wpAny_pyIter_list p.isList ?_
 refine ⟨s1.heap.objs.size,[s1.heap.objs.size],_,_,H1,rfl,I1.kept (t':=s1.toks) fun b o e=>Heap.get?_push_of_some _ e,turn_list a _,⟨_,Heap.get?_push_size _ rfl,rfl,rfl⟩,fun b hb=>?_,q⟩
 have e:b=s1.heap.objs.size:=by simpa using hb
 subst e
 exact I1.fpOk (Nat.le_refl _) (I1.hok.fresh (Nat.le_refl _))
theorem pi_tup {l:Expr} {tl:TE} (hl:PE X l tl):PI X tg l (iTup X.K tl):=by
 intro pins s σ H R I h
 refine thn (hl pins s σ H _ I h) fun v s1 ⟨x,H1,I1,r1,q1⟩=>?_
 obtain ⟨a,e,⟨xs,hq⟩,q⟩:=kzR_m.mp q1
 subst e
 cases r1
 obtain ⟨its,rv,p,hz⟩:=I1.tuple hq
 refine wpAny_pyIter_tuple (show s1.heap.IsTuple a its.toArray from p) ?_
 refine ⟨s1.heap.objs.size,[s1.heap.objs.size],_,_,H1,rfl,I1.kept (t':=s1.toks) fun b o e=>Heap.get?_push_of_some _ e,turn_tuple a _,⟨_,Heap.get?_push_size _ rfl,rfl,rfl⟩,fun b hb=>?_,q⟩
 have e:b=s1.heap.objs.size:=by simpa using hb
 subst e
 exact I1.fpOk (Nat.le_refl _) (I1.hok.fresh (Nat.le_refl _))
theorem range_it {pins:List (Addr×Obj)} {σ:St} {H:Hp} {s:Shared} {R:It→Hp→Prop} {E:Value→Shared→Prop} {lo hi:Int} {t u v:Tok} {tk:Nat} (I:Inv X pins σ H s) (h1:-(2 ^ 62)≤lo) (h2:lo < 2 ^ 62) (h3:-(2 ^ 62)≤hi) (h4:hi < 2 ^ 62)
  (q:R (Itr lo (hi - lo).toNat) H):wpAny (model X.prog X.w) X.A (pyIter (.ref s.heap.objs.size)) (PIE X pins σ tg R) E { s with heap:=s.heap.push { cls:=.type "range",data:=.fields #[.int lo t,.int hi u,.int 1 v] },toks:=tk }:=by
 refine wpAny_pyIter_range (IsRange.new ..) (small_one h1 h2 h3 h4) ?_
 have I1:Inv X pins σ H { s with heap:=s.heap.push { cls:=.type "range",data:=.fields #[.int lo t,.int hi u,.int 1 v] },toks:=tk }:=I.kept fun b o e=>Heap.get?_push_of_some _ e
 refine ⟨(s.heap.push { cls:=.type "range",data:=.fields #[.int lo t,.int hi u,.int 1 v] }).objs.size,[(s.heap.push { cls:=.type "range",data:=.fields #[.int lo t,.int hi u,.int 1 v] }).objs.size],_,_,H,rfl,
  I1.kept (t':=tk) fun b o e=>Heap.get?_push_of_some _ e,turn_range _ lo (hi - lo).toNat,?_,fun b hb=>?_,q⟩
 ·have e1:lo+((0:Nat):Int) * 1=lo:=by simp
  have e2:(((hi - lo).toNat:Nat):Int) - ((0:Nat):Int)=Builtin.Range.rangeSize lo hi 1:=by rw [rangeSize_one]; split <;> omega
  show IsRangeIter _ _ (lo+((0:Nat):Int) * 1) ((((hi - lo).toNat:Nat):Int) - ((0:Nat):Int)) 1
  rw [e1,e2]
  exact Heap.get?_push_size _ rfl
 ·have e:b=(s.heap.push { cls:=.type "range",data:=.fields #[.int lo t,.int hi u,.int 1 v] }).objs.size:=by simpa using hb
  subst e
  exact I1.fpOk (Nat.le_refl _) (I1.hok.fresh (Nat.le_refl _))
noncomputable def iRng1 (ta:TA):TI:=fun σ H R=>ta σ H fun vs H1=>kzQ vs fun j=>-(2 ^ 62)≤j∧j < 2 ^ 62∧R (Itr 0 j.toNat) H1
noncomputable def iRng2 (ta:TA):TI:=fun σ H R=>ta σ H fun vs H1=>∃ i j:Int,vs=[.int i,.int j]∧(-(2 ^ 62)≤i∧i < 2 ^ 62∧-(2 ^ 62)≤j∧j < 2 ^ 62)∧R (Itr i (j - i).toNat) H1
theorem pi_range1 {a:Expr} {ta:TA} {p pos:Pos} (hg:Gl X "range") (hm:X.mg "range" = none) (ha:PA X [a] ta) (hs:starEach [a] X.env=[(false,eval a X.env)]:=by rfl):PI X tg (.Call (.Name "range" p) [a] [] pos) (iRng1 ta):=by
 intro pins s σ H R I h
 refine Call_ (ld_blt I hg hm boot_range (PyProof.Rows.callWith_type1 (thn (ha pos pins s σ H _ I h) fun us s1 ⟨vs,H1,I1,r1,q1⟩=>?_) hs rfl))
 obtain ⟨j,e,q3,q4,q⟩:=kzQ_m.mp q1
 subst e
 cases r1 with
 | cons r rr =>
  cases rr
  obtain ⟨t,rfl⟩:=r
  exact call_range_1 (range_it I1 (by omega) (by omega) q3 q4 (by simpa using q))
theorem pi_range2 {a b:Expr} {ta:TA} {p pos:Pos} (hg:Gl X "range") (hm:X.mg "range" = none) (ha:PA X [a,b] ta) (hs:starEach [a,b] X.env=[(false,eval a X.env),(false,eval b X.env)]:=by rfl) (hs2:starEach [b] X.env=[(false,eval b X.env)]:=by rfl) :
  PI X tg (.Call (.Name "range" p) [a,b] [] pos) (iRng2 ta):=by
 intro pins s σ H R I h
 refine Call_ (ld_blt I hg hm boot_range (PyProof.Rows.callWith_type1 (thn (ha pos pins s σ H _ I h) fun us s1 ⟨vs,H1,I1,r1,q1⟩=>?_) (by rw [hs,hs2]) (by rw [hs2]; rfl)))
 obtain ⟨i,j,e,⟨q1,q2,q3,q4⟩,q⟩:=q1
 subst e
 cases r1 with
 | cons r rr =>
  cases rr with
  | cons r' rr =>
   cases rr
   obtain ⟨t,rfl⟩:=r
   obtain ⟨t',rfl⟩:=r'
   exact call_range_2 (range_it I1 q1 q2 q3 q4 q)
noncomputable abbrev forP (J:It) (g:TG) (tb:TS) (D:Ends) (σ:St) (H1:Hp):Prop:=∃ W:Nat→Nat→St→Hp→Prop,(∃ m,W 0 m σ H1)∧∀ i m σ H,W i m σ H →
 (J.stop i H∧D.nx σ H)∨(J.go i H∧∃ N:St→Hp→Prop,(∀ σ' H',N σ' H'→∃ m',m' < m∧W (i+1) m' σ' H')∧∀ x H',J.yld i H x H'→g x σ H' fun σ2 H2=>tb { D with nx:=N,ct:=N,bk:=D.nx } σ2 H2)
noncomputable def tFor (wi:TI) (g:TG) (tb:TS):TS:=fun D σ H=>wi σ H fun J H1=>forP J g tb D σ H1
noncomputable def pinsAt (fp:List Addr) (h:Heap):List (Addr×Obj):=fp.filterMap fun b=>(h.get? b).map fun o=>(b,o)
theorem jb7 {fp:List Addr} {h:Heap} {b:Addr} {o:Obj} (hb:b ∈ fp) (e:h.get? b=some o):(b,o) ∈ pinsAt fp h:=List.mem_filterMap.mpr ⟨b,hb,by rw [e]; rfl⟩
theorem of_pinsAt {fp:List Addr} {h:Heap} {p:Addr×Obj} (hp:p ∈ pinsAt fp h):p.1 ∈ fp∧h.get? p.1=some p.2:=by
 obtain ⟨b,hb,e⟩:=List.mem_filterMap.mp hp
 cases q:h.get? b with
 | none=>rw [q] at e; cases e
 | some o =>
  rw [q] at e
  have e':(b,o)=p:=Option.some.inj e
  subst e'
  exact ⟨hb,q⟩
theorem Inv.pinned {pins:List (Addr×Obj)} {σ:St} {H:Hp} {s:Shared} {fp:List Addr} (I:Inv X pins σ H s) (hf:∀ b ∈ fp,FpOk X pins H b) (ho:∀ b ∈ fp,∃ o,s.heap.get? b=some o∧∀ v,o.data≠.cell v):Inv X (pins ++ pinsAt fp s.heap) σ H s :=
 I.pins_of fun p hp=>(List.mem_append.mp hp).elim (fun z=>I.pin p (List.mem_append_right _ z)) fun z=>by
  obtain ⟨hb,e⟩:=of_pinsAt z
  obtain ⟨f0,f1,f2,_⟩:=hf p.1 hb
  obtain ⟨o,e',d⟩:=ho p.1 hb
  rw [e] at e'; cases e'
  exact ⟨e,f0,f1,f2,d⟩
theorem Inv.unpinned {pins pl:List (Addr×Obj)} {σ:St} {H:Hp} {s:Shared} (I:Inv X (pins ++ pl) σ H s):Inv X pins σ H s:=I.pins_of fun p hp=>I.pin p (List.mem_append_right _ (List.mem_append_left _ hp))
theorem ps_for {iter:Expr} {body:List Stmt} {wi:TI} {g:TG} {tb:TS} {pos:Pos} (hp:PassesOwn (model X.prog X.w) X.A X.env X.xe) (hc:X.calm=true) (hi:PI X tg iter wi) (hg:PG X tg g) (hb:PSs X body tb)
  (hs:∀ x,foldedSetIterable iter X.env x=pure x):PS X (.For tg iter body [] pos) (tFor wi g tb):=by
 intro pins s σ H D I h
 refine wpAny_For (thn (hi pins s σ H _ I h) fun v s1 h1=>thn h1 fun itv s2 h2=>?_) hs
 obtain ⟨it,fp,tn,J,H2,e,I2,T,st2,f2,W,⟨m0,w0⟩,turn⟩:=h2
 subst e
 have stat:∀ {H':Hp},(∀ b ∈ fp,H' b=none)→∀ b ∈ fp,FpOk X pins H' b:=fun hn b hb=>⟨hn b hb,(f2 b hb).2⟩
 refine codeAny_forLoop_any (fun n s'=>∃ i σ' H',Inv X pins σ' H' s'∧tn i s'.heap∧(∀ b ∈ fp,H' b=none)∧W i n σ' H') ?_ m0 ⟨0,σ,H2,I2,st2,fun b hb=>(f2 b hb).1,w0⟩
 rintro n s3 ⟨i,σ3,H3,I3,st3,fr3,w3⟩
 rcases turn i n σ3 H3 w3 with ⟨stop,qn⟩ | ⟨go,N,hN,step⟩
 ·refine wpAny_passesOwn hp (thn (T.done X rfl rfl rfl hc i pins s3 σ3 H3 X.xe I3 (stat fr3) st3 stop) fun r s4 ⟨hr,I4⟩=>?_)
  subst hr
  exact wpAny_execs_nil ⟨σ3,H3,I4,qn⟩
 ·refine wpAny_passesOwn hp (thn (T.item X rfl rfl rfl hc i pins s3 σ3 H3 X.xe I3 (stat fr3) st3 go) fun r s4 ⟨u,hr,h4⟩=>?_)
  subst hr
  refine wpAny_passesOwn hp (thn h4 fun _ s5 ⟨x,H5,I5,r5,y5,st5,fr5⟩=>?_)
  have I5':=I5.pinned (stat fr5) (T.obj _ _ st5)
  refine wpAny_passesOwn hp (thn (hg _ s5 σ3 H5 x u _ I5' r5 (step x H5 y5)) fun _ s6 ⟨σ6,H6,I6,q6⟩=>?_)
  refine wpAny_passesOwn hp (thn (hb _ s6 σ6 H6 _ I6 q6) fun f s7 q7=>?_)
  have again:∀ {σ7:St} {H7:Hp},Inv X (pins ++ pinsAt fp s5.heap) σ7 H7 s7→N σ7 H7→∃ m,m < n∧∃ i σ' H',Inv X pins σ' H' s7∧tn i s7.heap∧(∀ b ∈ fp,H' b=none)∧W i m σ' H':=fun {σ7 H7} I7 n7=>by
   obtain ⟨m',hm,w7⟩:=hN σ7 H7 n7
   refine ⟨m',hm,i+1,σ7,H7,I7.unpinned,T.keep _ _ _ st5 fun b hb o e=>(I7.pin (b,o) (List.mem_append_right _ (List.mem_append_right _ (jb7 hb e)))).1,fun b hb=>?_,w7⟩
   obtain ⟨o,e,d⟩:=T.obj _ _ st5 b hb
   exact (I7.pin (b,o) (List.mem_append_right _ (List.mem_append_right _ (jb7 hb e)))).2.1
  cases f with
  | next=>obtain ⟨σ7,H7,I7,n7⟩:=q7; exact again I7 n7
  | cont=>obtain ⟨σ7,H7,I7,n7⟩:=q7; exact again I7 n7
  | brk=>obtain ⟨σ7,H7,I7,q7⟩:=q7; exact ⟨σ7,H7,I7.unpinned,q7⟩
  | ret v=>obtain ⟨x7,σ7,H7,I7,r7,q7⟩:=q7; exact ⟨x7,σ7,H7,I7.unpinned,r7,q7⟩
end
end L2
namespace L2
open PySem PySem.Spec PyProof.Rows
noncomputable abbrev R2:=V→V→Hp→VK→Prop
noncomputable def OpR (X:Cx) (f:Value→Value→Sem Value) (r:R2):Prop :=
 ∀ (pins:List (Addr×Obj)) (s:Shared) (σ:St) (H:Hp) (x y:V) (v u:Value) (Q:VK),Inv X pins σ H s→RelV x v→RelV y u→r x y H Q →
  wpAny (model X.prog X.w) X.A (f v u) (EP X pins σ Q) X.xe s
noncomputable def UnR (X:Cx) (f:Value→Sem Value) (r:V→Hp→VK→Prop):Prop :=
 ∀ (pins:List (Addr×Obj)) (s:Shared) (σ:St) (H:Hp) (x:V) (v:Value) (Q:VK),Inv X pins σ H s→RelV x v→r x H Q →
  wpAny (model X.prog X.w) X.A (f v) (EP X pins σ Q) X.xe s
noncomputable def CallR (X:Cx) (f:Value) (r:List V→Hp→VK→Prop):Prop :=
 ∀ (pins:List (Addr×Obj)) (s:Shared) (σ:St) (H:Hp) (xs:List V) (us:List Value) (Q:VK),Inv X pins σ H s→Vals xs us→r xs H Q →
  wpAny (model X.prog X.w) X.A (call f us) (EP X pins σ Q) X.xe s
noncomputable def tOp (r:R2) (ta tb:TE):TE:=fun σ H Q=>ta σ H fun x H1=>tb σ H1 fun y H2=>r x y H2 Q
noncomputable def tUn (r:V→Hp→VK→Prop) (ta:TE):TE:=fun σ H Q=>ta σ H fun x H1=>r x H1 Q
noncomputable def rI (C:Int→Int→Prop) (g:Int→Int→V):R2:=fun x y H Q=>kzI x fun i=>kzI y fun j=>C i j∧Q (g i j) H
noncomputable def rI0 (g:Int→Int→V):R2:=fun x y H Q=>kzI x fun i=>kzI y fun j=>Q (g i j) H
noncomputable def rU (g:Int→V):V→Hp→VK→Prop:=fun x H Q=>∃ i,x=.int i∧Q (g i) H
section
variable {X:Cx} {a b c:Expr} {ta tb tc:TE} {pos:Pos}
theorem binT (ha:PE X a ta) (hb:PE X b tb) {pins:List (Addr×Obj)} {s:Shared} {σ:St} {H:Hp} {R:V→V→Hp→Prop} (I:Inv X pins σ H s)
  (h:ta σ H fun x H1=>tb σ H1 fun y H2=>R x y H2) {Q:Value→Shared→Prop} {f:Value→Value→Sem Value}
  (hf:∀ v u s2 x y H2,Inv X pins σ H2 s2→RelV x v→RelV y u→R x y H2→wpAny (model X.prog X.w) X.A (f v u) Q X.xe s2) :
  wpAny (model X.prog X.w) X.A (eval a X.env) (fun v s₁=>wpAny (model X.prog X.w) X.A (eval b X.env) (fun u s₂=>wpAny (model X.prog X.w) X.A (f v u) Q X.xe s₂) X.xe s₁) X.xe s:=by
 refine thn (ha pins s σ H _ I h) fun v s1 ⟨x,H1,I1,r1,q1⟩=>?_
 refine thn (hb pins s1 σ H1 _ I1 q1) fun u s2 ⟨y,H2,I2,r2,q2⟩=>?_
 exact hf v u s2 x y H2 I2 r1 r2 q2
theorem pe_op {op:Operator} {r:R2} (ho:OpR X (binaryOp op) r) (ha:PE X a ta) (hb:PE X b tb):PE X (.BinOp a op b pos) (tOp r ta tb):=by
 intro pins s σ H Q I h
 exact wpAny_BinOp (binT ha hb I h fun v u s2 x y H2 I2 rx ry q=>ho pins s2 σ H2 x y v u Q I2 rx ry q)
theorem pe_un {op:UnaryOp} {r:V→Hp→VK→Prop} (ho:UnR X (unaryOp op) r) (ha:PE X a ta):PE X (.UnaryOp op a pos) (tUn r ta):=by
 intro pins s σ H Q I h
 exact UnaryOp_ (thn (ha pins s σ H _ I h) fun v s1 ⟨x,H1,I1,r1,q1⟩=>ho pins s1 σ H1 x v Q I1 r1 q1)
theorem opI {f:Value→Value→Sem Value} {C:Int→Int→Prop} {g:Int→Int→Int}
  (rule:∀ (i j:Int) (t u:Tok) (s:Shared) (Q:Value→Shared→Prop) (E:Value→Shared→Prop),C i j→Q (.int (g i j) s.toks) { s with toks:=s.toks+1 }→wpAny (model X.prog X.w) X.A (f (.int i t) (.int j u)) Q E s) :
  OpR X f (rI C fun i j=>.int (g i j)):=by
 intro pins s σ H x y v u Q I rx ry h
 obtain ⟨i,rfl,h⟩:=kzI_m.mp h
 obtain ⟨j,rfl,hc,q⟩:=kzI_m.mp h
 obtain ⟨t,rfl⟩:=rx
 obtain ⟨t',rfl⟩:=ry
 exact rule i j t t' s _ _ hc ⟨.int (g i j),H,I.tok _,⟨_,rfl⟩,q⟩
theorem opI0 {f:Value→Value→Sem Value} {g:Int→Int→Int}
  (rule:∀ (i j:Int) (t u:Tok) (s:Shared) (Q:Value→Shared→Prop) (E:Value→Shared→Prop),Q (.int (g i j) s.toks) { s with toks:=s.toks+1 }→wpAny (model X.prog X.w) X.A (f (.int i t) (.int j u)) Q E s) :
  OpR X f (rI0 fun i j=>.int (g i j)):=by
 intro pins s σ H x y v u Q I rx ry h
 obtain ⟨i,rfl,h⟩:=kzI_m.mp h
 obtain ⟨j,rfl,q⟩:=kzI_m.mp h
 obtain ⟨t,rfl⟩:=rx
 obtain ⟨t',rfl⟩:=ry
 exact rule i j t t' s _ _ ⟨.int (g i j),H,I.tok _,⟨_,rfl⟩,q⟩
theorem opB0 {f:Value→Value→Sem Value} {g:Int→Int→Bool}
  (rule:∀ (i j:Int) (t u:Tok) (s:Shared) (Q:Value→Shared→Prop) (E:Value→Shared→Prop),Q (.bool (g i j)) s→wpAny (model X.prog X.w) X.A (f (.int i t) (.int j u)) Q E s) :
  OpR X f (rI0 fun i j=>.bl (g i j)):=by
 intro pins s σ H x y v u Q I rx ry h
 obtain ⟨i,rfl,h⟩:=kzI_m.mp h
 obtain ⟨j,rfl,q⟩:=kzI_m.mp h
 obtain ⟨t,rfl⟩:=rx
 obtain ⟨t',rfl⟩:=ry
 exact rule i j t t' s _ _ ⟨.bl (g i j),H,I,rfl,q⟩
noncomputable def CMul (i j:Int):Prop:=(-(2 ^ 64) < i∧i < 2 ^ 64)∨(-(2 ^ 64) < j∧j < 2 ^ 64)
theorem CMul.ok {i j:Int} (h:CMul i j):IntMulOk i j:=by
 rcases h with ⟨h1,h2⟩ | ⟨h1,h2⟩
 ·exact .of_left (intBits_le_64 h1 h2)
 ·exact .of_right (intBits_le_64 h1 h2)
theorem op_add:OpR X (binaryOp .Add) (rI0 fun i j=>.int (i+j)):=opI0 fun _ _ _ _ _ _ _ q=>add_int q
theorem op_sub:OpR X (binaryOp .Sub) (rI0 fun i j=>.int (i - j)):=opI0 fun _ _ _ _ _ _ _ q=>sub_int q
theorem op_mul:OpR X (binaryOp .Mult) (rI CMul fun i j=>.int (i * j)):=opI fun _ _ _ _ _ _ _ hc q=>mul_int q hc.ok
theorem op_mod:OpR X (binaryOp .Mod) (rI (fun _ j=>0 < j) fun i j=>.int (i % j)):=opI fun i j _ _ _ _ _ hc q=>by
 have h1:(0:Int) < j:=hc
 exact mod_int' (by omega) (by rw [Int.fmod_eq_emod_of_nonneg i (by omega)]; exact q)
theorem unI {f:Value→Sem Value} {g:Int→Int}
  (rule:∀ (i:Int) (t:Tok) (s:Shared) (Q:Value→Shared→Prop) (E:Value→Shared→Prop),Q (.int (g i) s.toks) { s with toks:=s.toks+1 }→wpAny (model X.prog X.w) X.A (f (.int i t)) Q E s) :
  UnR X f (rU fun i=>.int (g i)):=by
 intro pins s σ H x v Q I rx h
 obtain ⟨i,rfl,q⟩:=h
 obtain ⟨t,rfl⟩:=rx
 exact rule i t s _ _ ⟨.int (g i),H,I.tok _,⟨_,rfl⟩,q⟩
theorem un_neg:UnR X (unaryOp .USub) (rU fun i=>.int (-i)):=unI fun _ _ _ _ _ q=>neg_int q
end
noncomputable def scal:V→V→Bool
 | .non,.non=>true | .non,.int _=>true | .int _,.non=>true | .non,.bl _=>true | .bl _,.non=>true | .non,.str _=>true | .str _,.non=>true
 | .int _,.int _=>true | .bl _,.bl _=>true | .str _,.str _=>true | .byt _,.byt _=>true
 | .int _,.str _=>true | .str _,.int _=>true | .bl _,.str _=>true | .str _,.bl _=>true
 | _,_=>false
noncomputable def rEq:R2:=fun x y H Q=>scal x y=true∧Q (.bl (decide (x=y))) H
noncomputable def rNe:R2:=fun x y H Q=>scal x y=true∧Q (.bl (!decide (x=y))) H
theorem dec_int {i j:Int}:decide (V.int i=V.int j)=(i == j):=by
 rw [Bool.eq_iff_iff]
 simp
theorem dec_bl {i j:Bool}:decide (V.bl i=V.bl j)=(i == j):=by
 rw [Bool.eq_iff_iff]
 simp
theorem dec_str {i j:Str}:decide (V.str i=V.str j)=(i == j):=by
 rw [Bool.eq_iff_iff]
 simp
theorem dec_byt {i j:Array UInt8}:decide (V.byt i=V.byt j)=(i.toList == j.toList):=by
 rw [Bool.eq_iff_iff]
 cases i
 cases j
 simp
section
variable {X:Cx} {a b c:Expr} {ta tb tc:TE} {pos:Pos}
theorem fin_bl {pins:List (Addr×Obj)} {σ:St} {H:Hp} {s:Shared} {Q:VK} {k k':Bool} (I:Inv X pins σ H s) (q:Q (.bl k) H) (e:k=k'):EP X pins σ Q (.bool k') s:=by
 subst e
 exact ⟨.bl k,H,I,rfl,q⟩
theorem op_eq:OpR X (compareOp .Eq) rEq:=by
 intro pins s σ H x y v u Q I rx ry h
 obtain ⟨hs,q⟩:=h
 cases x with
 | non =>
  cases rx
  cases y with
  | non=>cases ry; exact PySem.EqNone.eq_none_none (fin_bl I q (by simp))
  | bl j=>cases ry; exact PySem.EqNone.eq_none_bool (fin_bl I q (by simp))
  | int j=>obtain ⟨t',rfl⟩:=ry; exact PySem.EqNone.eq_none_int (fin_bl I q (by simp))
  | str j=>obtain ⟨t',rfl⟩:=ry; exact PySem.EqNone.eq_none_str (fin_bl I q (by simp))
  | _=>exact absurd (show false=true from hs) Bool.false_ne_true
 | bl i =>
  cases rx
  cases y with
  | non=>cases ry; exact PySem.EqNone.eq_bool_none (fin_bl I q (by simp))
  | bl j=>cases ry; exact eq_bool (fin_bl I q dec_bl)
  | str j=>obtain ⟨t',rfl⟩:=ry; exact PySem.EqMixed.eq_bool_str (fin_bl I q (by simp))
  | _=>exact absurd (show false=true from hs) Bool.false_ne_true
 | int i =>
  obtain ⟨t,rfl⟩:=rx
  cases y with
  | non=>cases ry; exact PySem.EqNone.eq_int_none (fin_bl I q (by simp))
  | int j=>obtain ⟨t',rfl⟩:=ry; exact eq_int (fin_bl I q dec_int)
  | str j=>obtain ⟨t',rfl⟩:=ry; exact PySem.EqMixed.eq_int_str (fin_bl I q (by simp))
  | _=>exact absurd (show false=true from hs) Bool.false_ne_true
 | str i =>
  obtain ⟨t,rfl⟩:=rx
  cases y with
  | non=>cases ry; exact PySem.EqNone.eq_str_none (fin_bl I q (by simp))
  | bl j=>cases ry; exact PySem.EqMixed.eq_str_bool (fin_bl I q (by simp))
  | int j=>obtain ⟨t',rfl⟩:=ry; exact PySem.EqMixed.eq_str_int (fin_bl I q (by simp))
  | str j=>obtain ⟨t',rfl⟩:=ry; exact eq_str (fin_bl I q dec_str)
  | _=>exact absurd (show false=true from hs) Bool.false_ne_true
 | byt i =>
  obtain ⟨t,rfl⟩:=rx
  cases y with
  | byt j=>obtain ⟨t',rfl⟩:=ry; exact PySem.W.eq_bytes (fin_bl I q dec_byt)
  | _=>exact absurd (show false=true from hs) Bool.false_ne_true
 | _=>cases y <;> exact absurd (show false=true from hs) Bool.false_ne_true
theorem op_ne:OpR X (compareOp .NotEq) rNe:=by
 intro pins s σ H x y v u Q I rx ry h
 obtain ⟨hs,q⟩:=h
 cases x with
 | non =>
  cases rx
  cases y with
  | non=>cases ry; exact PySem.EqNone.ne_none_none (fin_bl I q (by simp))
  | bl j=>cases ry; exact PySem.EqNone.ne_none_bool (fin_bl I q (by simp))
  | int j=>obtain ⟨t',rfl⟩:=ry; exact PySem.EqNone.ne_none_int (fin_bl I q (by simp))
  | str j=>obtain ⟨t',rfl⟩:=ry; exact PySem.EqNone.ne_none_str (fin_bl I q (by simp))
  | _=>exact absurd (show false=true from hs) Bool.false_ne_true
 | bl i =>
  cases rx
  cases y with
  | non=>cases ry; exact PySem.EqNone.ne_bool_none (fin_bl I q (by simp))
  | bl j=>cases ry; exact ne_bool (fin_bl I q (congrArg not dec_bl))
  | str j=>obtain ⟨t',rfl⟩:=ry; exact PySem.EqMixed.ne_bool_str (fin_bl I q (by simp))
  | _=>exact absurd (show false=true from hs) Bool.false_ne_true
 | int i =>
  obtain ⟨t,rfl⟩:=rx
  cases y with
  | non=>cases ry; exact PySem.EqNone.ne_int_none (fin_bl I q (by simp))
  | int j=>obtain ⟨t',rfl⟩:=ry; exact ne_int (fin_bl I q (congrArg not dec_int))
  | str j=>obtain ⟨t',rfl⟩:=ry; exact PySem.EqMixed.ne_int_str (fin_bl I q (by simp))
  | _=>exact absurd (show false=true from hs) Bool.false_ne_true
 | str i =>
  obtain ⟨t,rfl⟩:=rx
  cases y with
  | non=>cases ry; exact PySem.EqNone.ne_str_none (fin_bl I q (by simp))
  | bl j=>cases ry; exact PySem.EqMixed.ne_str_bool (fin_bl I q (by simp))
  | int j=>obtain ⟨t',rfl⟩:=ry; exact PySem.EqMixed.ne_str_int (fin_bl I q (by simp))
  | str j=>obtain ⟨t',rfl⟩:=ry; exact ne_str (fin_bl I q (congrArg not dec_str))
  | _=>exact absurd (show false=true from hs) Bool.false_ne_true
 | byt i =>
  obtain ⟨t,rfl⟩:=rx
  cases y with
  | byt j=>obtain ⟨t',rfl⟩:=ry; exact PySem.W.ne_bytes (fin_bl I q (congrArg not dec_byt))
  | _=>exact absurd (show false=true from hs) Bool.false_ne_true
 | _=>cases y <;> exact absurd (show false=true from hs) Bool.false_ne_true
theorem op_lt:OpR X (compareOp .Lt) (rI0 fun i j=>.bl (decide (i < j))):=opB0 fun _ _ _ _ _ _ _ q=>lt_int q
theorem op_le:OpR X (compareOp .LtE) (rI0 fun i j=>.bl (decide (i≤j))):=opB0 fun _ _ _ _ _ _ _ q=>le_int q
theorem op_gt:OpR X (compareOp .Gt) (rI0 fun i j=>.bl (decide (j < i))):=opB0 fun _ _ _ _ _ _ _ q=>gt_int q
theorem op_ge:OpR X (compareOp .GtE) (rI0 fun i j=>.bl (decide (j≤i))):=opB0 fun _ _ _ _ _ _ _ q=>ge_int q
theorem op_isN:OpR X (compareOp .Is) (fun x y H Q=>y=.non∧Q (.bl (decide (x=.non))) H):=by
 intro pins s σ H x y v u Q I rx ry h
 obtain ⟨rfl,q⟩:=h
 cases ry
 refine is_none_gen (fin_bl I q ?_)
 cases x <;> first
  | (cases rx; rfl)
  | (obtain ⟨t,rfl⟩:=rx; rfl)
theorem jat:OpR X (compareOp .IsNot) (fun x y H Q=>y=.non∧Q (.bl (!decide (x=.non))) H):=by
 intro pins s σ H x y v u Q I rx ry h
 obtain ⟨rfl,q⟩:=h
 cases ry
 refine isnot_none_gen (fin_bl I q ?_)
 cases x <;> first
  | (cases rx; rfl)
  | (obtain ⟨t,rfl⟩:=rx; rfl)
theorem pe_cmpR {op:CmpOp} {r:R2} (ho:OpR X (compareOp op) r) (ha:PE X a ta) (hb:PE X b tb) (hm:behindInMarks op b=false):PE X (.Compare a [op] [b] pos) (tOp r ta tb):=by
 intro pins s σ H Q I h
 exact wpAny_Compare1 (binT ha hb I h fun v u s2 x y H2 I2 rx ry q=>ho pins s2 σ H2 x y v u Q I2 rx ry q) hm
noncomputable def tTest (t:TE):TT:=fun σ H Q=>t σ H fun x H'=>kzB x fun k=>Q k H'
theorem pt_cmpR {op:CmpOp} {r:R2} (ho:OpR X (compareOp op) r) (ha:PE X a ta) (hb:PE X b tb) (hm:behindInMarks op b=false):PT X (.Compare a [op] [b] pos) (tTest (tOp r ta tb)):=by
 intro pins s σ H Q I h
 refine wpAny_isTrue_Compare1 (thn (ha pins s σ H _ I h) fun v s1 ⟨x,H1,I1,r1,q1⟩=>thn (hb pins s1 σ H1 _ I1 q1) fun u s2 ⟨y,H2,I2,r2,q2⟩ =>
  thn (ho pins s2 σ H2 x y v u _ I2 r1 r2 q2) fun c s3 ⟨z,H3,I3,r3,q0⟩=>?_) hm
 obtain ⟨k,e,q3⟩:=kzB_m.mp q0
 subst e
 cases r3
 exact wpAny_truthy_bool ⟨H3,I3,q3⟩
noncomputable def tChain (r r':R2) (ta tb tc:TE):TE:=fun σ H Q=>ta σ H fun x H1=>tb σ H1 fun y H2=>r x y H2 fun z H3=>kzB z fun k =>
 (if k=true then tc σ H3 fun w' H4=>r' y w' H4 Q else Q (.bl false) H3)
theorem pe_chain {op op':CmpOp} {r r':R2} (ho:OpR X (compareOp op) r) (ho':OpR X (compareOp op') r') (ha:PE X a ta) (hb:PE X b tb) (hc:PE X c tc)
  (hm:lastMarks [op,op'] [b,c]=false):PE X (.Compare a [op,op'] [b,c] pos) (tChain r r' ta tb tc):=by
 intro pins s σ H Q I h
 refine Compare_chain (thn (ha pins s σ H _ I h) fun v s1 ⟨x,H1,I1,r1,q1⟩=>chain_link (thn (hb pins s1 σ H1 _ I1 q1) fun u s2 ⟨y,H2,I2,r2,q2⟩ =>
  thn (ho pins s2 σ H2 x y v u _ I2 r1 r2 q2) fun d s3 ⟨z,H3,I3,r3,q0⟩=>?_)) hm
 obtain ⟨k,e,q3⟩:=kzB_m.mp q0
 subst e
 cases r3
 refine wpAny_truthy_bool ?_
 cases k with
 | false=>exact ite_ff ⟨.bl false,H3,I3,rfl,q3⟩
 | true=>exact ite_tt (chain_last (thn (hc pins s3 σ H3 _ I3 q3) fun w' s4 ⟨z',H4,I4,r4,q4⟩=>ho' pins s4 σ H4 y z' u w' Q I4 r2 r4 q4))
theorem pt_chain {op op':CmpOp} {r r':R2} (ho:OpR X (compareOp op) r) (ho':OpR X (compareOp op') r') (ha:PE X a ta) (hb:PE X b tb) (hc:PE X c tc)
  (hm:lastMarks [op,op'] [b,c]=false):PT X (.Compare a [op,op'] [b,c] pos) (tTest (tChain r r' ta tb tc)):=by
 intro pins s σ H Q I h
 refine isTrue_chain (thn (ha pins s σ H _ I h) fun v s1 ⟨x,H1,I1,r1,q1⟩=>test_link (thn (hb pins s1 σ H1 _ I1 q1) fun u s2 ⟨y,H2,I2,r2,q2⟩ =>
  thn (ho pins s2 σ H2 x y v u _ I2 r1 r2 q2) fun d s3 ⟨z,H3,I3,r3,q0⟩=>?_)) hm
 obtain ⟨k,e,q3⟩:=kzB_m.mp q0
 subst e
 cases r3
 refine wpAny_truthy_bool ?_
 cases k with
 | false =>
  exact ite_ff ⟨H3,I3,q3⟩
 | true =>
  refine ite_tt (test_last (thn (hc pins s3 σ H3 _ I3 q3) fun w' s4 ⟨z',H4,I4,r4,q4⟩=>thn (ho' pins s4 σ H4 y z' u w' _ I4 r2 r4 q4) fun d' s5 ⟨z2,H5,I5,r5,q0⟩=>?_))
  obtain ⟨k2,e2,q5⟩:=kzB_m.mp q0
  subst e2
  cases r5
  exact wpAny_truthy_bool ⟨H5,I5,q5⟩
theorem line63:(sizeLine:Nat) < 2 ^ 63:=by rw [sizeLine_eq]; decide
theorem vals1 {x:V} {us:List Value} (r:Vals [x] us):∃ u,us=[u]∧RelV x u:=by
 cases r with
 | cons r1 r2=>cases r2; exact ⟨_,rfl,r1⟩
theorem vals2 {x y:V} {us:List Value} (r:Vals [x,y] us):∃ u w',us=[u,w']∧RelV x u∧RelV y w':=by
 cases r with
 | cons r1 r2 =>
  cases r2 with
  | cons r3 r4=>cases r4; exact ⟨_,_,rfl,r1,r3⟩
theorem jc2 (hc:X.calm=true):CallR X (.builtin "max") (fun xs H Q=>∃ i j,xs=[.int i,.int j]∧Q (.int (if j > i then j else i)) H):=by
 intro pins s σ H xs us Q I r h
 obtain ⟨i,j,rfl,q⟩:=h
 obtain ⟨u,w',rfl,⟨t,rfl⟩,⟨t',rfl⟩⟩:=vals2 r
 refine max_two_ints (I.ok.hd hc) fun h' tk k=>⟨_,H,I.kept k,?_,q⟩
 by_cases hj:j > i
 ·rw [if_pos hj,if_pos hj]; exact ⟨_,rfl⟩
 ·rw [if_neg hj,if_neg hj]; exact ⟨_,rfl⟩
end
end L2
namespace L2
open PySem PySem.Spec PyProof.Rows
structure ObjM (h:Heap) (x dx C:Addr) (mA:Str→Option Value):Prop where
 obj:h.get? x=some (PySem.W.instObj C dx)
 ns:h.Ns1 dx mA
 ne:dx≠x
theorem lookIn_ns {h:Heap} {dx:Addr} {mA:Str→Option Value} (n:h.Ns1 dx mA):∃ od,h.get? dx=some od∧∀ name,PySem.W.lookIn name od=some (mA name):=by
 obtain ⟨o,es,ep,ho,hd,hk,_,hm⟩:=n
 refine ⟨o,ho,fun name=>?_⟩
 have e:=hm name
 unfold nsFind findBy at e
 rw [← Array.find?_toList] at e
 unfold PySem.W.lookIn
 rw [hd]
 dsimp only
 split
 ·rename_i y q
  rw [q] at e
  exact congrArg some e
 ·rename_i q
  rw [q] at e
  have a:es.toList.any (·.refKey)=false:=by
   rw [List.any_eq_false]
   intro y hy
   obtain ⟨z,t,hkey⟩:=hk y (Array.mem_toList_iff.mp hy)
   simp [DictEntry.refKey,hkey]
  have a':¬ es.toList.any (·.refKey)=true:=by rw [a]; exact Bool.false_ne_true
  rw [if_neg a']
  exact congrArg some e
theorem ObjM.look {h:Heap} {x dx C:Addr} {mA:Str→Option Value} (I:ObjM h x dx C mA):∃ od,PySem.W.InstAt h x (PySem.W.instObj C dx) C (some od)∧∀ name,PySem.W.lookIn name od=some (mA name) :=
 let ⟨od,ho,hl⟩:=lookIn_ns I.ns
 ⟨od,⟨I.obj,rfl,rfl,ho⟩,hl⟩
section
variable {prog:Program} {w:World} {A:Around} {E:Value→Shared→Prop} {s:Shared} {K:W.Frag} {x dx C f:Addr} {mA:Str→Option Value} {name:Str} {v:Value}
theorem get_map {expr:Bool} {Q:Value→Shared→Prop} (X:K.In s.heap) (I:ObjM s.heap x dx C mA) (hg:PySem.W.plainGet K C name=true) (hh:PySem.W.hasDictIn K C=true)
  (ha:PySem.W.findIn K (.ref C) name=some none) (hv:mA name=some v) (hv':PySem.W.handedIn v=true) (h:Q v { s with toks:=s.toks+1 }) :
  wpAny (model prog w) A (getAttr (.ref x) name expr) Q E s:=by
 obtain ⟨od,J,hl⟩:=I.look
 exact PySem.W.get_value X J (PySem.W.plainGet_of hg).1 (PySem.W.findObj_own hh ha rfl (by rw [hl,hv])) hv' h
theorem set_map {ns:List Str} {Q:Unit→Shared→Prop} (X:K.In s.heap) (I:ObjM s.heap x dx C mA)
  (hs:PySem.W.findIn K (.ref C) "__setattr__" = some (some (.builtin "object.__setattr__"))) (hp:PySem.W.plainOver K C=true) (ht:PySem.W.takerIn K C name=some none) (hh:PySem.W.hasDictIn K C=true)
  (hw:PySem.Within mA ns) (hsz:ns.length≤sizeLine)
  (h:∀ h',ObjM h' x dx C (fun y=>if y=name then some v else mA y)→Heap.SameBut dx s.heap h'→Q () { s with heap:=h',toks:=s.toks+2 }) :
  wpAny (model prog w) A (setAttr (.ref x) name v) Q E s:=by
 obtain ⟨od,J,hl⟩:=I.look
 refine PySem.W.set_plain X J hs (PySem.W.osa_open (s:={ s with toks:=s.toks+1 }) (r:=none) X J hp ht fun b=>?_)
 obtain ⟨cd,hc,hd'⟩:=PySem.W.any_some hh
 have hx:s.heap.get? x=some ⟨.ref C,some dx,.plain,#[]⟩:=I.obj
 refine wpAny_bind (wpAny_pure (wpAny_bind (wpAny_bind (wpAny_loadPart hx (wpAny_bind (PySem.W.Looks.here (s:={ s with toks:=s.toks+1 }) (PySem.W.looks_clsIn X hc) ?_))))))
 rw [hd']
 refine wpAny_pure (a:=some dx) (wpAny_bind (wpAny_pure (wpAny_bind ?_)))
 refine wpAny_nsSet1 (s:={ s with toks:=s.toks+1 }) I.ns fun h' hn2 hs2=>?_
 obtain ⟨oD,esD,epD,hoD,hdD,hcD⟩:=hn2.count (PySem.Within.cons name v hw)
 refine wpAny_bind (wpAny_lookBehind hoD (by rw [hdD]; exact pastItsLine_dict (Nat.le_trans hcD (by rw [List.length_cons]; omega))) ?_)
 exact wpAny_pure (h _ ⟨(hs2.2 _ (Ne.symm I.ne)).trans I.obj,hn2,I.ne⟩ hs2)
theorem make_map {R:Result→Shared→Prop} {vs:List Value} {kw:List (Str×Value)} (X:K.In s.heap) (hm:PySem.W.makesIn K C=true)
  (hi:PySem.W.findIn K (.ref C) "__init__" = some (some (.ref f))) (hf:PySem.W.typeIn K (.ref f)=some (.type "function"))
  (h:codeAny (model prog w) (A.under (.builtin "type.__call__" ⟨.ref C :: vs,kw⟩)) (.call (.ref f) ⟨.ref (s.heap.objs.size+1) :: vs,kw⟩) (PySem.W.InitBack (s.heap.objs.size+1) R)
   { s with heap:=(s.heap.push PySem.W.emptyDict).push (PySem.W.instObj C s.heap.objs.size) }) :
  codeAny (model prog w) A (.call (.ref C) ⟨vs,kw⟩) R s:=by
 obtain ⟨hh,g,d,t,os⟩:=s
 exact PySem.W.make_core (PySem.W.makes_of X hm) (PySem.W.looks_findIn X hi) (fun self=>PySem.W.bind_fn X self hf) (.inl rfl) h
end
noncomputable def putF (f:Str) (v:V):List (Str×V)→List (Str×V)
 | []=>[(f,v)]
 | (g,x) :: r=>if g=f then (g,v) :: r else (g,x) :: putF f v r
theorem jcs (f g:Str) (v:V):∀ fs:List (Str×V),(putF f v fs).lookup g=if g=f then some v else fs.lookup g
 | []=>by
  show List.lookup g [(f,v)]=_
  by_cases h:g=f
  ·have hb:(g == f)=true:=beq_iff_eq.mpr h
   simp only [List.lookup,hb,if_pos h]
  ·have hb:(g == f)=false:=beq_eq_false_iff_ne.mpr h
   simp only [List.lookup,hb,if_neg h]
 | (k,x) :: r=>by
  have ih:=jcs f g v r
  rw [show putF f v ((k,x) :: r)=(if k=f then (k,v) :: r else (k,x) :: putF f v r) from rfl]
  by_cases hk:k=f
  ·rw [if_pos hk]
   by_cases h:g=k
   ·have hb:(g == k)=true:=beq_iff_eq.mpr h
    simp only [List.lookup,hb,if_pos (h.trans hk)]
   ·have hb:(g == k)=false:=beq_eq_false_iff_ne.mpr h
    simp only [List.lookup,hb,if_neg (fun e:g=f=>h (e.trans hk.symm))]
  ·rw [if_neg hk]
   by_cases h:g=k
   ·have hb:(g == k)=true:=beq_iff_eq.mpr h
    simp only [List.lookup,hb,if_neg (fun e:g=f=>hk (h.symm.trans e))]
   ·have hb:(g == k)=false:=beq_eq_false_iff_ne.mpr h
    simp only [List.lookup,hb]
    exact ih
theorem jcx (f:Str) (v:V):∀ fs:List (Str×V),f ∈ (putF f v fs).map (·.1)∧∀ g,g ∈ fs.map (·.1)→g ∈ (putF f v fs).map (·.1)
 | []=>⟨by simp [putF],fun g h=>by simp at h⟩
 | (k,x) :: r=>by
  obtain ⟨i1,i2⟩:=jcx f v r
  rw [show putF f v ((k,x) :: r)=(if k=f then (k,v) :: r else (k,x) :: putF f v r) from rfl]
  by_cases hk:k=f
  ·rw [if_pos hk]
   subst hk
   exact ⟨by simp,fun g h=>by simpa using h⟩
  ·rw [if_neg hk]
   refine ⟨?_,fun g h=>?_⟩
   ·rw [List.map_cons]
    exact List.mem_cons_of_mem _ i1
   ·rw [List.map_cons] at h ⊢
    rcases List.mem_cons.mp h with e | e
    ·exact List.mem_cons.mpr (.inl e)
    ·exact List.mem_cons_of_mem _ (i2 g e)
theorem jcv (f:Str) (v:V):∀ fs:List (Str×V),(putF f v fs).length≤fs.length+1
 | []=>by simp [putF]
 | (k,x) :: r=>by
  have ih:=jcv f v r
  rw [show putF f v ((k,x) :: r)=(if k=f then (k,v) :: r else (k,x) :: putF f v r) from rfl]
  by_cases hk:k=f
  ·rw [if_pos hk,List.length_cons,List.length_cons]; omega
  ·rw [if_neg hk,List.length_cons,List.length_cons]; omega
theorem RelO.some_of {v:V} {o:Option Value} (r:RelO (some v) o):∃ u,o=some u∧RelV v u:=by
 cases o with
 | none=>exact (show False from r).elim
 | some u=>exact ⟨u,rfl,r⟩
theorem handed_of {v:V} {u:Value} (r:RelV v u):PySem.W.handedIn u=true:=by
 cases v with
 | non=>cases (show u=Value.none from r); rfl
 | bl b=>cases (show u=Value.bool b from r); rfl
 | int i=>obtain ⟨t,e⟩:=(show ∃ t,u=Value.int i t from r); cases e; rfl
 | str x=>obtain ⟨t,e⟩:=(show ∃ t,u=Value.str x t from r); cases e; rfl
 | byt b=>obtain ⟨t,e⟩:=(show ∃ t,u=Value.bytes b t from r); cases e; rfl
 | flt b=>obtain ⟨t,e⟩:=(show ∃ t,u=Value.float b t from r); cases e; rfl
 | ref a=>cases (show u=Value.ref a from r); rfl
 | ty n=>cases (show u=Value.type n from r); rfl
section
variable {P:Program} {w:World} {H H':Hp} {h h':Heap} {a C dx:Addr} {fs fs':List (Str×V)}
theorem ins_get (hok:HOk P w H h) (e:H a=some (.ins C dx fs)):∃ mA,ObjM h a dx C mA∧(∀ f,RelO (fs.lookup f) (mA f))∧PySem.Within mA (fs.map (·.1))∧fs.length≤1000∧H dx=some (.own a):=by
 obtain ⟨d,z,ne,ob,mA,n,r,q⟩:=(show ObjOk P w H h a (.ins C dx fs) from hok a _ e)
 exact ⟨mA,⟨ob,n,ne⟩,r,q,z,d⟩
end
structure Cls (K:W.Frag) (C:Addr):Prop where
 pg:PySem.W.plainGet K C Str.empty=true
 hd:PySem.W.hasDictIn K C=true
 po:PySem.W.plainOver K C=true
 sa:PySem.W.findIn K (.ref C) "__setattr__" = some (some (.builtin "object.__setattr__"))
theorem Cls.get {K:W.Frag} {C:Addr} (c:Cls K C) (f:Str):PySem.W.plainGet K C f=true:=c.pg
noncomputable def NoAttr (K:W.Frag) (C:Addr) (f:Str):Prop:=PySem.W.findIn K (.ref C) f=some none
theorem NoAttr.taker {K:W.Frag} {C:Addr} {f:Str} (n:NoAttr K C f):PySem.W.takerIn K C f=some none:=by
 unfold PySem.W.takerIn
 rw [show PySem.W.findIn K (.ref C) f=some none from n]
 rfl
section
variable {X:Cx} {pins:List (Addr×Obj)} {σ:St} {H:Hp} {s:Shared} {a C dx:Addr} {fs:List (Str×V)} {f:Str} {v:V} {A:Around} {E:Value→Shared→Prop}
theorem getattr_ok {b:Bool} {Q:Value→Shared→Prop} (I:Inv X pins σ H s) (e:H a=some (.ins C dx fs)) (c:Cls X.K C) (n:NoAttr X.K C f) (l:fs.lookup f=some v)
  (h:∀ u s',Inv X pins σ H s'→RelV v u→Q u s'):wpAny (model X.prog X.w) A (getAttr (.ref a) f b) Q E s:=by
 obtain ⟨mA,O,r,_,_,_⟩:=ins_get I.hok e
 obtain ⟨u,hu,ru⟩:=RelO.some_of (v:=v) (o:=mA f) (by rw [← l]; exact r f)
 exact get_map I.kIn O (c.get f) c.hd n hu (handed_of ru) (h u _ (I.tok _) ru)
theorem setattr_ok {y:V} {u:Value} {Q:Unit→Shared→Prop} (I:Inv X pins σ H s) (e:H a=some (.ins C dx fs)) (c:Cls X.K C) (n:NoAttr X.K C f) (hl:fs.length < 1000) (ry:RelV y u)
  (h:∀ s',Inv X pins σ (upd H a (.ins C dx (putF f y fs))) s'→Q () s'):wpAny (model X.prog X.w) A (setAttr (.ref a) f u) Q E s:=by
 obtain ⟨mA,O,r,wi,_,ho⟩:=ins_get I.hok e
 have hz:(fs.map (·.1)).length≤sizeLine:=by rw [List.length_map,sizeLine_eq]; omega
 refine set_map I.kIn O c.sa c.po n.taker c.hd wi hz fun h' O' sb=>h _ ?_
 have hd:∃ o,h'.get? dx=some o:=let ⟨o,_,_,e',_⟩:=O'.ns; ⟨o,e'⟩
 refine I.write (x:=a) (e:=dx) (by rw [e]; exact True.intro) (.inr ho) (fun b q hb z=>(sb.2 b hb).trans z) hd ?_
 refine ⟨by rw [upd_ne O.ne]; exact ho,?_,O.ne,O'.obj,_,O'.ns,fun g=>?_,fun g hg=>?_⟩
 ·have:=jcv f y fs; omega
 ·show RelO ((putF f y fs).lookup g) (if g=f then some u else mA g)
  rw [jcs]
  by_cases q:g=f
  ·rw [if_pos q,if_pos q]; exact ry
  ·rw [if_neg q,if_neg q]; exact r g
 ·by_cases q:g=f
  ·rw [q]; exact (jcx f y fs).1
  ·refine (jcx f y fs).2 g (wi g fun z=>hg ?_)
   show (if g=f then some u else mA g)=none
   rw [if_neg q]; exact z
theorem Inv.made (I:Inv X pins σ H s):Inv X pins σ (upd (upd H s.heap.objs.size (.own (s.heap.objs.size+1))) (s.heap.objs.size+1) (.ins C s.heap.objs.size []))
  { s with heap:=(s.heap.push PySem.W.emptyDict).push (PySem.W.instObj C s.heap.objs.size) }:=by
 have e1:(s.heap.push PySem.W.emptyDict).get? s.heap.objs.size=some PySem.W.emptyDict:=Heap.get?_push_size s.heap rfl
 have e2:((s.heap.push PySem.W.emptyDict).push (PySem.W.instObj C s.heap.objs.size)).get? (s.heap.objs.size+1)=some (PySem.W.instObj C s.heap.objs.size):=by
  have:=Heap.get?_push_size (s.heap.push PySem.W.emptyDict) (o:=PySem.W.instObj C s.heap.objs.size) rfl
  rwa [Heap.size_push] at this
 have e3:(s.heap.push PySem.W.emptyDict).Ns s.heap.objs.size (fun _=>none):=⟨PySem.W.emptyDict,#[],_,e1,rfl,(fun e he=>absurd he (by simp)),fun _=>rfl⟩
 have I1:=I.laid (a:=s.heap.objs.size) (o:=.own (s.heap.objs.size+1)) (h':=s.heap.push PySem.W.emptyDict) (t':=s.toks) (fun b u q=>Heap.get?_push_of_some _ q) (Nat.le_refl _) ⟨_,e1⟩
 refine I1.laid (a:=s.heap.objs.size+1) (o:=.ins C s.heap.objs.size []) (t':=s.toks) (fun b u q=>Heap.get?_push_of_some _ q) (Nat.le_of_eq (Heap.size_push _ _)) ?_
 have ne:s.heap.objs.size≠s.heap.objs.size+1:=Nat.ne_of_lt (Nat.lt_succ_self _)
 refine ⟨by rw [upd_ne ne,jaa],Nat.zero_le _,ne,e2,fun _=>none,(Heap.Ns1.of_empty e3).at fun o q=>Heap.get?_push_of_some _ q,fun _=>True.intro,fun y hy=>absurd rfl hy⟩
theorem attr_of {prog:Program} {w:World} {env:Env} {e:Expr} {f:Str} {pos:Pos} {s:Shared} {Q:Value→Shared→Prop} (hb:attributeBase e f env (eval e env)=eval e env)
  (h:wpAny (model prog w) A (eval e env) (fun o s₁=>wpAny (model prog w) A (getAttr o f true) Q E s₁) E s):wpAny (model prog w) A (eval (.Attribute e f pos) env) Q E s :=
 Attribute_any_ h (by rw [arm_eval_Attribute,hb])
end
noncomputable def InOp (X:Cx) (op:Operator) (rd:V→V→Hp→VK→Prop):Prop :=
 ∀ (pins:List (Addr×Obj)) (s:Shared) (σ:St) (H:Hp) (x y:V) (u v:Value) (Q:VK),Inv X pins σ H s→RelV x u→RelV y v→rd x y H Q→wpAny (model X.prog X.w) X.A (inplaceOp op u v) (EP X pins σ Q) X.xe s
section
variable {X:Cx} {o e value:Expr} {f:Str} {pos pos' tpos:Pos} {ta tv:TE}
noncomputable def rAdd:V→V→Hp→VK→Prop:=fun x y H Q=>kzI x fun i=>kzI y fun j=>Q (.int (i+j)) H
noncomputable def rSub:V→V→Hp→VK→Prop:=fun x y H Q=>kzI x fun i=>kzI y fun j=>Q (.int (i - j)) H
theorem in_add:InOp X .Add rAdd:=by
 intro pins s σ H x y u v Q I rx ry h
 obtain ⟨i,rfl,h⟩:=kzI_m.mp h
 obtain ⟨j,rfl,q⟩:=kzI_m.mp h
 obtain ⟨t,rfl⟩:=(show ∃ t,u=Value.int i t from rx)
 obtain ⟨t',rfl⟩:=(show ∃ t',v=Value.int j t' from ry)
 exact PyProof.Rows.iadd_int ⟨.int (i+j),H,I.tok _,⟨_,rfl⟩,q⟩
theorem in_sub:InOp X .Sub rSub:=by
 intro pins s σ H x y u v Q I rx ry h
 obtain ⟨i,rfl,h⟩:=kzI_m.mp h
 obtain ⟨j,rfl,q⟩:=kzI_m.mp h
 obtain ⟨t,rfl⟩:=(show ∃ t,u=Value.int i t from rx)
 obtain ⟨t',rfl⟩:=(show ∃ t',v=Value.int j t' from ry)
 exact PyProof.Rows.isub_int ⟨.int (i - j),H,I.tok _,⟨_,rfl⟩,q⟩
end
section
variable {X:Cx} {pins:List (Addr×Obj)} {σ:St} {H:Hp} {s:Shared} {A:Around} {E:Value→Shared→Prop} {Q:Value→Shared→Prop} {c:Value} {b:Bool}
end
end L2
namespace L2
open PySem PySem.Spec PyProof.Rows
structure Room (k:Nat) (A:Around):Prop where
 hd:A.handled=none
 dp:A.depth+3 * k+5 < recursionLimit
 un:A.units+16 * k+200 < cLine
theorem Room.mono {j k:Nat} {A:Around} (r:Room k A) (h:j≤k):Room j A:=⟨r.hd,by have:=r.dp; omega,by have:=r.un; omega⟩
theorem Room.deeper {k:Nat} {A:Around} (r:Room (k+1) A) (env:Env):Room k (A.deeper env) :=
 ⟨r.hd,by have:=r.dp; show A.depth+1+3 * k+5 < _; omega,by have:=r.un; show A.units+3+16 * k+200 < _; omega⟩
theorem make_depth {A:Around} {C:Addr} {us:List Value} {kw:List (Str×Value)}:(A.under (.builtin "type.__call__" ⟨.ref C :: us,kw⟩)).depth=A.depth+1:=by
 first | rfl | simp [Around.under,Code.weight,Code.isCreation,Code.isGuard,Code.isCaller,Code.frames,Code.isFrame,guardIds]
theorem make_units {A:Around} {C:Addr} {us:List Value} {kw:List (Str×Value)}:(A.under (.builtin "type.__call__" ⟨.ref C :: us,kw⟩)).units=A.units+1:=by
 first | rfl | simp [Around.under,Code.cUnits,Code.frames,Code.isFrame]
theorem Room.make {k:Nat} {A:Around} (r:Room (k+1) A) (C:Addr) (us:List Value) (kw:List (Str×Value)):Room k (A.under (.builtin "type.__call__" ⟨.ref C :: us,kw⟩)) :=
 ⟨r.hd,by have:=r.dp; rw [make_depth]; omega,by have:=r.un; rw [make_units]; omega⟩
theorem Room.depth {k:Nat} {A:Around} (r:Room k A):A.depth < recursionLimit:=by have:=r.dp; omega
theorem Room.units {k:Nat} {A:Around} (r:Room k A):A.units+64 < cLine:=by have:=r.un; omega
noncomputable def tNil:TA:=fun _ H Q=>Q [] H
noncomputable def tCons (ta:TE) (tr:TA):TA:=fun σ H Q=>ta σ H fun x H1=>tr σ H1 fun xs H2=>Q (x :: xs) H2
section
variable {X:Cx} {e:Expr} {es:List Expr} {te:TE} {t:TA} {pos:Pos}
theorem pa_nil:PA X [] tNil:=fun _ _ _ _ H Q I h=>Calls.spliced_nil ⟨[],H,I,.nil,h⟩
theorem jbn (ha:PE X e te) (hr:PA X es t) (hs:starEach (e :: es) X.env=(false,eval e X.env) :: starEach es X.env:=by rfl):PA X (e :: es) (tCons te t):=by
 intro pos pins s σ H Q I h
 rw [hs]
 show wpAny _ _ (spliced ((false,eval e X.env) :: backTo pos (starEach es X.env))) _ _ s
 refine Calls.spliced_cons (thn (ha pins s σ H _ I h) fun u s1 ⟨x,H1,I1,r1,q1⟩=>?_)
 exact thn (hr pos pins s1 σ H1 _ I1 q1) fun us s2 ⟨xs,H2,I2,r2,q2⟩=>⟨x :: xs,H2,I2,.cons r1 r2,q2⟩
noncomputable def tTup (t:TA):TE:=fun σ H Q=>t σ H fun xs H1=>xs.length≤sizeLine∧∀ p,H1 p=none→Q (.ref p) (upd H1 p (.tup xs))
noncomputable def tLst (t:TA):TE:=fun σ H Q=>t σ H fun xs H1=>xs.length≤sizeLine∧∀ p,H1 p=none→Q (.ref p) (upd H1 p (.lst xs))
theorem pe_tup {x1} (h:PA X es t):PE X (.Tuple es x1 pos) (tTup t):=by
 intro pins s σ H Q I hq
 refine wpAny_Tuple_spliced (thn (h pos pins s σ H _ I hq) fun us s1 ⟨xs,H1,I1,r,z,q⟩=>⟨by rw [← r.length]; exact z,?_⟩)
 have hf:H1 s1.heap.objs.size=none:=I1.hok.fresh (Nat.le_refl _)
 refine ⟨.ref s1.heap.objs.size,upd H1 s1.heap.objs.size (.tup xs),I1.laid (t':=s1.toks) (fun b u e=>Heap.get?_push_of_some _ e) (Nat.le_refl _) ?_,rfl,q _ hf⟩
 exact ⟨z,us,r,⟨_,Heap.get?_push_size _ rfl,rfl,_,rfl⟩⟩
theorem pe_lst (h:PA X es t):PE X (.List es pos) (tLst t):=by
 intro pins s σ H Q I hq
 refine wpAny_List_spliced (thn (h pos pins s σ H _ I hq) fun us s1 ⟨xs,H1,I1,r,z,q⟩=>⟨by rw [← r.length]; exact z,?_⟩)
 have hf:H1 s1.heap.objs.size=none:=I1.hok.fresh (Nat.le_refl _)
 refine ⟨.ref s1.heap.objs.size,upd H1 s1.heap.objs.size (.lst xs),I1.laid (t':=s1.toks) (fun b u e=>Heap.get?_push_of_some _ e) (Nat.le_refl _) ?_,rfl,q _ hf⟩
 exact ⟨z,us,0,r,Heap.get?_push_size _ rfl⟩
end
noncomputable abbrev Sp:=List V→Hp→VK→XK→Prop
noncomputable abbrev CXT:=List Env→Hp→Shared→XK→Value→Shared→Prop
structure Env0 (P:Program) (w:World) (K:W.Frag) (mg:Str→Option Value) (base:Heap) (A:Around) (outer:List Env) (s:Shared) (H:Hp):Prop where
 frames:A.frames=some outer
 mod:Mod K mg base
 bs:∀ b o,base.get? b=some o→s.heap.get? b=some o∧H b=none
 bsz:base.objs.size≤s.heap.objs.size
 funs:s.heap.FunFrames base outer
 frf:∀ b ∈ frs outer,H b=none
 hok:HOk P w H s.heap
 bare:AllBare s.gens
noncomputable def CE (outer:List Env) (P:Program) (w:World) (H:Hp) (s:Shared) (Q:VK) (u:Value) (s':Shared):Prop :=
 ∃ v H',s'.os=s.os∧AllBare s'.gens∧Un (frs outer) [] H H' s.heap s'.heap∧HOk P w H' s'.heap∧RelV v u∧Q v H'
noncomputable def CR (CX:CXT) (outer:List Env) (P:Program) (w:World) (H:Hp) (s:Shared) (Q:VK) (E:XK) (r:Result) (s':Shared):Prop :=
 match r with
 | .ok (.ret u)=>CE outer P w H s Q u s'
 | .ok _=>False
 | .error e=>CX outer H s E e s'
structure FnOk (P:Program) (w:World) (K:W.Frag) (mg:Str→Option Value) (base:Heap) (CX:CXT) (k:Nat) (f:Addr) (fd:FuncData) (ps:List Str) (sp:Sp):Prop where
 len:∀ vs H Q E,sp vs H Q E→vs.length=ps.length
 run:∀ (A:Around) (outer:List Env) (s:Shared) (H:Hp) (args:Args) (us:List Value) (vs:List V) (Q:VK) (E:XK),Room k A→Env0 P w K mg base A outer s H→BindsTo s fd args (ps.zip us)→Vals vs us→sp vs H Q E →
  codeAny (model P w) A (.call (.ref f) args) (CR CX outer P w H s Q E) s
theorem FnOk.mono {P:Program} {w:World} {K:W.Frag} {mg:Str→Option Value} {base:Heap} {CX:CXT} {j k:Nat} {f:Addr} {fd:FuncData} {ps:List Str} {sp:Sp} (F:FnOk P w K mg base CX j f fd ps sp) (h:j≤k) :
  FnOk P w K mg base CX k f fd ps sp:=⟨F.len,fun A outer s H args us vs Q E hr=>F.run A outer s H args us vs Q E (hr.mono h)⟩
theorem Env0.make {P:Program} {w:World} {K:W.Frag} {mg:Str→Option Value} {base:Heap} {A:Around} {outer:List Env} {s:Shared} {H:Hp} (e:Env0 P w K mg base A outer s H) (C:Addr) (us:List Value) (kw:List (Str×Value)) :
  Env0 P w K mg base (A.under (.builtin "type.__call__" ⟨.ref C :: us,kw⟩)) outer s H:=⟨by first | exact e.frames | (simpa [Around.under,Code.envs,Code.isFrame,pushEnvs] using e.frames),e.mod,e.bs,e.bsz,e.funs,e.frf,e.hok,e.bare⟩
section
variable {X:Cx} {pins:List (Addr×Obj)} {σ:St} {H:Hp} {s s':Shared}
theorem Inv.env0 (I:Inv X pins σ H s):Env0 X.prog X.w X.K X.mg X.base X.A X.stack s H :=
 ⟨I.ok.frames,I.ok.mod,I.bs,Nat.le_trans I.ok.bsz I.sz,I.stack,I.stkFree,I.hok,I.bare⟩
theorem Inv.after {Q:VK} {u:Value} (I:Inv X pins σ H s) (h:CE X.stack X.prog X.w H s Q u s'):EP X pins σ Q u s':=by
 obtain ⟨v,H',os,bare,un,hok,r,q⟩:=h
 obtain ⟨hh,g,d,t,os'⟩:=s'
 obtain rfl:os'=s.os:=os
 exact ⟨v,H',I.call (h':=hh) (g':=g) (d':=d) (t':=t) (ch:=[]) un hok bare (fun b z=>absurd z (by simp)),r,q⟩
end
inductive Tg:VK→Type | mk (Q:VK):Tg Q
noncomputable def callP (sp:Sp) (vs:List V) (H:Hp) (E:XK) (Q:VK) (_:Tg Q):Prop:=sp vs H Q E
theorem callP_eq {sp:Sp} {vs:List V} {H:Hp} {E:XK} {Q:VK} {t:Tg Q}:callP sp vs H E Q t=sp vs H Q E:=rfl
noncomputable def tCall (sp:Sp) (dvs:List V) (E:XK) (t:TA):TE:=fun σ H Q=>t σ H fun vs H1=>callP sp (vs ++ dvs) H1 E Q (.mk Q)
noncomputable def tMake (C:Addr) (sp:Sp) (dvs:List V) (E:XK) (t:TA):TE:=fun σ H Q=>t σ H fun vs H1=>∀ x dx,H1 x=none→H1 dx=none→dx≠x →
 callP sp (.ref x :: (vs ++ dvs)) (upd (upd H1 dx (.own x)) x (.ins C dx [])) E (fun v H2=>v=.non∧Q (.ref x) H2) (.mk _)
noncomputable def Binds (K:W.Frag) (fd:FuncData) (ps:List Str) (ds:List Value):Prop :=
 ∀ (s:Shared) (us:List Value),K.In s.heap→(us ++ ds).length=ps.length→BindsTo s fd ⟨us,[]⟩ (ps.zip (us ++ ds))
theorem Binds.all {K:W.Frag} {fd:FuncData} {ps:List Str} (h:∀ us:List Value,us.length=ps.length→bindArgs fd ⟨us,[]⟩=pure (ps.zip us)):Binds K fd ps []:=fun s us _ hl=>by
 rw [List.append_nil] at hl ⊢
 exact .of_eq (h us hl)
noncomputable def Passes (CX:CXT) (X:Cx) (E:XK):Prop:=∀ (pins:List (Addr×Obj)) (σ:St) (H:Hp) (s:Shared) (e:Value) (s':Shared),Inv X pins σ H s→CX X.stack H s E e s'→X.xe e s'
section
variable {X:Cx} {CX:CXT} {k:Nat} {f C:Addr} {fd:FuncData} {ps:List Str} {sp:Sp} {dvs:List V} {ds:List Value} {E:XK} {x m:Str} {p pos apos:Pos} {e o:Expr} {es:List Expr} {ta:TE} {t:TA}
theorem run_fn {pins:List (Addr×Obj)} {σ:St} {H:Hp} {s:Shared} {Q:VK} {us:List Value} {vs:List V} (F:FnOk X.prog X.w X.K X.mg X.base CX k f fd ps sp) (hr:Room k X.A) (hb:Binds X.K fd ps ds) (hd:Vals dvs ds) (hx:Passes CX X E)
  (I:Inv X pins σ H s) (r:Vals vs us) (h:sp (vs ++ dvs) H Q E):wpAny (model X.prog X.w) X.A (call (.ref f) us) (EP X pins σ Q) X.xe s:=by
 have r2:Vals (vs ++ dvs) (us ++ ds):=r.append hd
 have hl:(us ++ ds).length=ps.length:=by rw [← r2.length]; exact F.len _ _ _ _ h
 refine wpAny_call (codeAny_mono (F.run X.A X.stack s H ⟨us,[]⟩ (us ++ ds) (vs ++ dvs) Q E hr I.env0 (hb s us I.kIn hl) r2 h) fun r s' hq=>?_)
 cases r with
 | error e=>exact hx pins σ H s e s' I hq
 | ok fl =>
  cases fl with
  | ret u=>exact I.after hq
  | next=>exact False.elim hq
  | brk=>exact False.elim hq
  | cont=>exact False.elim hq
theorem pe_call (F:FnOk X.prog X.w X.K X.mg X.base CX k f fd ps sp) (hr:Room k X.A) (hg:Gl X x) (hm:X.mg x=some (.ref f)) (hk:PySem.W.keepIn X.K (.ref f)=true) (hb:Binds X.K fd ps ds) (hd:Vals dvs ds) (hx:Passes CX X E)
  (ha:PA X (e :: es) t) (hdb:(x == ("__debug__" : Str))=false:=by decide) (he:starEach (e :: es) X.env=(false,eval e X.env) :: starEach es X.env:=by rfl) (hpl:(backTo pos (starEach es X.env)).any (·.1)=false:=by rfl) :
  PE X (.Call (.Name x p) (e :: es) [] pos) (tCall sp dvs E t):=by
 intro pins s σ H Q I h
 refine wpAny_Call_Name_kw (jcw I hg hm ?_ hdb)
 refine PySem.W.callWith_K (h₀:=X.base) I.ok.mod.kin hk (thn (ha pos pins s σ H _ I h) fun us s1 ⟨vs,H1,I1,r,q⟩=>⟨I1.kIn,?_⟩) he hpl
 exact run_fn F hr hb hd hx I1 r q
theorem pe_call0 (F:FnOk X.prog X.w X.K X.mg X.base CX k f fd ps sp) (hr:Room k X.A) (hg:Gl X x) (hm:X.mg x=some (.ref f)) (hk:PySem.W.keepIn X.K (.ref f)=true) (hb:Binds X.K fd ps ds) (hd:Vals dvs ds) (hx:Passes CX X E)
  (hdb:(x == ("__debug__" : Str))=false:=by decide):PE X (.Call (.Name x p) [] [] pos) (tCall sp dvs E tNil):=by
 intro pins s σ H Q I h
 refine wpAny_Call_Name_kw (jcw I hg hm ?_ hdb)
 exact PySem.W.callWith_K0 I.kIn hk (run_fn (us:=[]) F hr hb hd hx I .nil h)
structure Mk (K:W.Frag) (C f:Addr):Prop where
 makes:PySem.W.makesIn K C=true
 init:PySem.W.findIn K (.ref C) "__init__" = some (some (.ref f))
 fn:PySem.W.isFn K (.ref f)=true
 kp:PySem.W.keepIn K (.ref C)=true
theorem run_make {pins:List (Addr×Obj)} {σ:St} {H:Hp} {s:Shared} {Q:VK} {us:List Value} {vs:List V} (M:Mk X.K C f) (F:FnOk X.prog X.w X.K X.mg X.base CX k f fd ps sp) (hr:Room (k+1) X.A) (hb:Binds X.K fd ps ds) (hd:Vals dvs ds)
  (hx:Passes CX X E) (I:Inv X pins σ H s) (r:Vals vs us)
  (h:∀ x dx,H x=none→H dx=none→dx≠x→sp (.ref x :: (vs ++ dvs)) (upd (upd H dx (.own x)) x (.ins C dx [])) (fun v H2=>v=.non∧Q (.ref x) H2) E) :
  wpAny (model X.prog X.w) X.A (call (.ref C) us) (EP X pins σ Q) X.xe s:=by
 have hq:=h (s.heap.objs.size+1) s.heap.objs.size (I.hok.fresh (Nat.le_succ _)) (I.hok.fresh (Nat.le_refl _)) (Nat.ne_of_lt (Nat.lt_succ_self _))
 have I2:=Inv.made (C:=C) I
 have r2:Vals (V.ref (s.heap.objs.size+1) :: (vs ++ dvs)) (Value.ref (s.heap.objs.size+1) :: (us ++ ds)):=.cons rfl (r.append hd)
 have hl:(Value.ref (s.heap.objs.size+1) :: us ++ ds).length=ps.length:=by
  have e:=r2.length
  rw [F.len _ _ _ _ hq] at e
  exact e.symm
 refine wpAny_call (make_map (f:=f) I.kIn M.makes M.init (beq_iff_eq.mp M.fn) (codeAny_mono (F.run _ X.stack _ _ ⟨Value.ref (s.heap.objs.size+1) :: us,[]⟩ (Value.ref (s.heap.objs.size+1) :: (us ++ ds)) _ _ E (hr.make C us [])
  (I2.env0.make C us []) (hb _ (Value.ref (s.heap.objs.size+1) :: us) I2.kIn hl) r2 hq) fun r s' hq'=>?_))
 cases r with
 | error e=>exact hx pins σ _ _ e s' I2 hq'
 | ok fl =>
  cases fl with
  | ret u =>
   obtain ⟨v,H',I3,rv,ev,q3⟩:=I2.after hq'
   subst ev
   exact ⟨rv,⟨V.ref (s.heap.objs.size+1),H',I3,rfl,q3⟩⟩
  | next=>exact False.elim hq'
  | brk=>exact False.elim hq'
  | cont=>exact False.elim hq'
theorem pe_make (M:Mk X.K C f) (F:FnOk X.prog X.w X.K X.mg X.base CX k f fd ps sp) (hr:Room (k+1) X.A) (hg:Gl X x) (hm:X.mg x=some (.ref C)) (hb:Binds X.K fd ps ds) (hd:Vals dvs ds) (hx:Passes CX X E)
  (ha:PA X (e :: es) t) (hdb:(x == ("__debug__" : Str))=false:=by decide) (he:starEach (e :: es) X.env=(false,eval e X.env) :: starEach es X.env:=by rfl) (hpl:(backTo pos (starEach es X.env)).any (·.1)=false:=by rfl) :
  PE X (.Call (.Name x p) (e :: es) [] pos) (tMake C sp dvs E t):=by
 intro pins s σ H Q I h
 refine wpAny_Call_Name_kw (jcw I hg hm ?_ hdb)
 refine PySem.W.callWith_K (h₀:=X.base) I.ok.mod.kin M.kp (thn (ha pos pins s σ H _ I h) fun us s1 ⟨vs,H1,I1,r,q⟩=>⟨I1.kIn,?_⟩) he hpl
 exact run_make M F hr hb hd hx I1 r q
theorem pe_make0 (M:Mk X.K C f) (F:FnOk X.prog X.w X.K X.mg X.base CX k f fd ps sp) (hr:Room (k+1) X.A) (hg:Gl X x) (hm:X.mg x=some (.ref C)) (hb:Binds X.K fd ps ds) (hd:Vals dvs ds) (hx:Passes CX X E)
  (hdb:(x == ("__debug__" : Str))=false:=by decide):PE X (.Call (.Name x p) [] [] pos) (tMake C sp dvs E tNil):=by
 intro pins s σ H Q I h
 refine wpAny_Call_Name_kw (jcw I hg hm ?_ hdb)
 exact PySem.W.callWith_K0 I.kIn M.kp (run_make (us:=[]) M F hr hb hd hx I .nil h)
end
section
variable {X:Cx} {CX:CXT} {k:Nat} {f C:Addr} {fd:FuncData} {ps ks:List Str} {sp:Sp} {E:XK} {x m:Str} {p pos apos kpos:Pos} {e o:Expr} {es:List Expr} {kws:List Keyword} {te ta:TE} {t tk:TA} {nm:Option Str}
variable {g:List Value→List Value→List Value} {gV:List V→List V→List V}
end
structure FnScope (N P:List Str) (sc:Scope):Prop where
 kind:sc.kind=.function
 co:sc.isCoroutine=false
 gen:sc.isGenerator=false
 nd:N.Nodup
 pre:N.take P.length=P
 par:∀ x ∈ P,sc.names.lookup x=some .local∨sc.names.lookup x=some .cell
 nofree:∀ y ∈ sc.names,y.2≠.free
theorem bindL_out {kindOf:Str→Option NameKind} {x:Str}:∀ {binds:List (Str×Value)} {m:Str→Option Value},(∀ v,(x,v) ∉ binds)→bindL kindOf binds m x=m x
 | [],_,_=>rfl
 | (n,v) :: r,m,h=>by
  unfold bindL
  rw [bindL_out fun w hw=>h w (List.mem_cons_of_mem _ hw)]
  split
  ·have:x≠n:=by rintro rfl; exact h v List.mem_cons_self
   simp [this]
  ·rfl
theorem bindC_out {kindOf:Str→Option NameKind} {x:Str}:∀ {binds:List (Str×Value)} {m:Str→Option Value},(∀ v,(x,v) ∉ binds)→bindC kindOf binds m x=m x
 | [],_,_=>rfl
 | (n,v) :: r,m,h=>by
  unfold bindC
  rw [bindC_out fun w hw=>h w (List.mem_cons_of_mem _ hw)]
  split
  ·rfl
  ·have:x≠n:=by rintro rfl; exact h v List.mem_cons_self
   simp [this]
theorem bindL_get {kindOf:Str→Option NameKind} {x:Str} {v:Value}:∀ {P:List Str} {vs:List Value} {i:Nat} {m:Str→Option Value},P.Nodup→P[i]? = some x→vs[i]? = some v→kindOf x=some .local →
  bindL kindOf (P.zip vs) m x=some v
 | [],_,_,_,_,h,_,_=>by simp at h
 | _ :: _,[],_,_,_,_,h,_=>by simp at h
 | p :: P,w :: vs,0,m,nd,h1,h2,hk=>by
  simp at h1 h2; subst h1; subst h2
  show bindL kindOf ((p,w) :: P.zip vs) m p=_
  unfold bindL
  rw [bindL_out fun v hv=>(List.nodup_cons.mp nd).1 (List.of_mem_zip hv).1,if_pos hk]
  simp
 | p :: P,w :: vs,i+1,m,nd,h1,h2,hk=>by
  show bindL kindOf ((p,w) :: P.zip vs) m x=_
  unfold bindL
  exact bindL_get (i:=i) (List.nodup_cons.mp nd).2 (by simpa using h1) (by simpa using h2) hk
theorem bindC_get {kindOf:Str→Option NameKind} {x:Str} {v:Value}:∀ {P:List Str} {vs:List Value} {i:Nat} {m:Str→Option Value},P.Nodup→P[i]? = some x→vs[i]? = some v→kindOf x≠some .local →
  bindC kindOf (P.zip vs) m x=some v
 | [],_,_,_,_,h,_,_=>by simp at h
 | _ :: _,[],_,_,_,_,h,_=>by simp at h
 | p :: P,w :: vs,0,m,nd,h1,h2,hk=>by
  simp at h1 h2; subst h1; subst h2
  show bindC kindOf ((p,w) :: P.zip vs) m p=_
  unfold bindC
  rw [bindC_out fun v hv=>(List.nodup_cons.mp nd).1 (List.of_mem_zip hv).1,if_neg hk]
  simp
 | p :: P,w :: vs,i+1,m,nd,h1,h2,hk=>by
  show bindC kindOf ((p,w) :: P.zip vs) m x=_
  unfold bindC
  exact bindC_get (i:=i) (List.nodup_cons.mp nd).2 (by simpa using h1) (by simpa using h2) hk
noncomputable def start (N:List Str) (vs:List V):St:=vs.map some ++ List.replicate (N.length - vs.length) none
noncomputable def cxOf (CX:CXT) (P:Program) (w:World) (K:W.Frag) (mg:Str→Option Value) (base:Heap) (N:List Str) (qual:Str) (scope:Scope) (f:Addr) (cd:Value) (A:Around) (outer:List Env) (s:Shared) (H:Hp) (E:XK):Cx where
 prog:=P
 w:=w
 K:=K
 mg:=mg
 base:=base
 A:=A.deeper (envOfC qual scope s.heap.objs.size f cd)
 N:=N
 s_0:=s
 H_0:=H
 env:=envOfC qual scope s.heap.objs.size f cd
 outer:=outer
 stack:=envOfC qual scope s.heap.objs.size f cd :: outer
 ex:=[]
 calm:=true
 fn:=fun _=>true
 pn:=[]
 xe:=fun e s'=>wpAny (model P w) (A.deeper (envOfC qual scope s.heap.objs.size f cd)) (leaving (envOfC qual scope s.heap.objs.size f cd) e) (fun _ s''=>CX outer H s E e s'') (fun e' s''=>CX outer H s E e' s'') s'
theorem cell_has {sc:Scope} {n:Nat} {x:Str} (h:sc.names.lookup x=some .cell):∃ c,(cellsFrom n sc.names []).lookup x=some c:=by
 have q:=PySem.W.cellsFrom_some sc.names n [] (.inl h)
 exact Option.isSome_iff_exists.mp q
theorem inv_start {CX:CXT} {P:Program} {w:World} {K:W.Frag} {mg:Str→Option Value} {base:Heap} {N ps:List Str} {qual:Str} {scope:Scope} {f:Addr} {cd:Value} {A:Around} {outer:List Env} {s s1:Shared} {H:Hp} {E:XK} {us:List Value} {vs:List V}
  (S:FnScope N ps scope) (hd:A.handled=none) (e0:Env0 P w K mg base A outer s H) (hl:vs.length=ps.length) (r:Vals vs us)
  (x:InCallC s s.heap.objs.size (bindL (envOfC qual scope s.heap.objs.size f cd).kindOf (ps.zip us) fun _=>none) (cellsFrom (s.heap.objs.size+1) scope.names []) (bindC (envOfC qual scope s.heap.objs.size f cd).kindOf (ps.zip us) fun _=>none) s1) :
  Inv (cxOf CX P w K mg base N qual scope f cd A outer s H E) [] (start N vs) H s1:=by
 have hpl:ps.length≤N.length:=by have:=congrArg List.length S.pre; rw [List.length_take] at this; omega
 obtain ⟨h1,tk,rfl,hk⟩:=x.done
 have noA:∀ b:Addr,b ∉ (cxOf CX P w K mg base N qual scope f cd A outer s H E).ex:=fun b z=>absurd (show b ∈ ([]:List Addr) from z) (by simp)
 refine ⟨⟨e0.mod,S.kind,rfl,rfl,Nat.le_refl _,fun y z c h1 h2=>?_,fun y hy=>?_,fun y c _ h=>?_,fun _=>hd,Around.frames_deeper e0.frames,.inr ⟨rfl,rfl⟩,fun b z=>absurd z (noA b),e0.bs,e0.bsz,fun b _ _=>noA b,fun b z=>absurd z (noA b),e0.funs,e0.frf⟩,
  rfl,e0.bare,Un.kept hk,⟨_,x.toInCall.ns,fun i y v h1 h2 h3=>?_⟩,fun y c h=>⟨_,x.cell y c h⟩,e0.hok.fresh (Nat.le_refl _),fun y c h=>?_,fun p hp=>absurd (show p ∈ ([]:List (Addr×Obj)) from hp) (by simp),e0.hok.kept hk,?_⟩
 ·exact name_of_addr x.apart (PySem.mem_of_lookup h1) (PySem.mem_of_lookup h2)
 ·have hy:scope.names.lookup y=some .cell∨scope.names.lookup y=some .free:=hy
  rcases hy with hy | hy
  ·exact cell_has hy
  ·exact absurd rfl (S.nofree _ (PySem.mem_of_lookup hy))
 ·exact Nat.le_of_lt (x.above y c (PySem.mem_of_lookup h))
 ·have hi:i < vs.length:=by
   unfold start at h2
   by_cases hi:i < vs.length
   ·exact hi
   ·rw [List.getElem?_append_right (by simpa using hi)] at h2
    rw [List.getElem?_replicate] at h2
    split at h2 <;> cases h2
  have ha:vs[i]? = some v:=by
   unfold start at h2
   rw [List.getElem?_append_left (by simpa using hi),List.getElem?_map] at h2
   cases e:vs[i]? with
   | none=>rw [e] at h2; cases h2
   | some a=>rw [e] at h2; cases h2; rfl
  obtain ⟨u,hu,rv⟩:=r.get ha
  have hp:ps[i]? = some y:=by
   rw [← S.pre,List.getElem?_take_of_lt (by omega)]; exact h1
  have ndP:ps.Nodup:=by rw [← S.pre]; exact S.nd.sublist (List.take_sublist _ _)
  refine ⟨u,rv,?_⟩
  rcases S.par y (List.mem_of_getElem? hp) with k | k
  ·exact .inl ⟨k,bindL_get ndP hp hu k⟩
  ·obtain ⟨c,e⟩:=cell_has (n:=s.heap.objs.size+1) k
   refine .inr ⟨.inl k,c,e,?_⟩
   have q:=x.cell y c e
   rw [bindC_get ndP hp hu (by show scope.names.lookup y≠_; rw [k]; decide)] at q
   exact q
 ·exact e0.hok.fresh (Nat.le_of_lt (x.above y c (PySem.mem_of_lookup h)))
 ·unfold start
  show _=N.length
  rw [List.length_append,List.length_map,List.length_replicate]
  omega
theorem fn_of {CX:CXT} {P:Program} {w:World} {K:W.Frag} {mg:Str→Option Value} {base:Heap} {k:Nat} {f:Addr} {name qual:Str} {params:Arguments} {body:List Stmt} {scope:Scope} {dV kV doc pm cdv ct oc:Value} {an od:Option Addr}
  {osl:Array (Option Value)} {N ps:List Str} {sp:Sp} (lk:K.lookup f=some ⟨oc,od,.func (PySem.W.fnOf name qual params body scope dV kV doc pm an cdv ct),osl⟩) (hcd:PySem.W.codeIn K cdv qual=true) (S:FnScope N ps scope)
  (len:∀ vs H Q E,sp vs H Q E→vs.length=ps.length)
  (hbody:∀ (A:Around) (outer:List Env) (s:Shared) (H:Hp) (vs:List V) (Q:VK) (E:XK),Room k (A.deeper (envOfC qual scope s.heap.objs.size f cdv))→sp vs H Q E →
   ∃ t,PSs (cxOf CX P w K mg base N qual scope f cdv A outer s H E) body t∧t { nx:=fun _ H'=>Q .non H',rt:=Q } (start N vs) H) :
  FnOk P w K mg base CX (k+1) f (PySem.W.fnOf name qual params body scope dV kV doc pm an cdv ct) ps sp:=by
 refine ⟨len,fun A outer s H args us vs Q E hr e0 hb r hsp=>?_⟩
 have hl:=len _ _ _ _ hsp
 have KX:K.In s.heap:=e0.mod.kin.keeps fun b o e=>(e0.bs b o e).1
 have lim:s.heap.NoLimit:=e0.mod.nolimit.keeps fun b o e=>(e0.bs b o e).1
 have hkind:∀ y ∈ ps.zip us,scope.names.lookup y.1=some .local∨(scope.names.lookup y.1=some .cell∧((cellsFrom (s.heap.objs.size+1) scope.names []).lookup y.1).isSome=true):=fun ⟨n,v⟩ hy=>by
  rcases S.par n (List.of_mem_zip hy).1 with q | q
  ·exact .inl q
  ·exact .inr ⟨q,PySem.W.cellsFrom_some _ _ _ (.inl q)⟩
 refine codeAny_call_function hr.depth (KX _ _ lk) rfl S.co S.gen rfl (PySem.W.codeRec_of KX hcd) (hb _ _ _ _ ?_)
 refine wpAny_newFunctionEnv_cells S.kind hkind fun env he s1 x=>?_
 subst he
 refine ⟨lim.keeps x.toInCall.keep,codeAny_func ?_⟩
 obtain ⟨t,ht,hq⟩:=hbody A outer s H vs Q E (hr.deeper _) hsp
 have I:Inv (cxOf CX P w K mg base N qual scope f cdv A outer s H E) [] (start N vs) H s1:=inv_start S hr.hd e0 hl r x
 refine wpAny_mono (ht [] s1 (start N vs) H _ I hq) (fun fl s' hs=>?_) fun e s' hs=>hs
 have fin:∀ {σ':St} {H':Hp} {v:V} {u:Value},Inv (cxOf CX P w K mg base N qual scope f cdv A outer s H E) [] σ' H' s'→RelV v u→Q v H'→CE outer P w H s Q u s' :=
  fun {σ' H' v u} J rv q=>⟨v,H',J.os,J.bare,J.base,J.hok,rv,q⟩
 cases fl with
 | ret u =>
  obtain ⟨v,σ',H',J,rv,q⟩:=hs
  exact fin J rv q
 | next =>
  obtain ⟨σ',H',J,q⟩:=hs
  exact fin (v:=V.non) (u:=Value.none) J rfl q
 | brk =>
  obtain ⟨_,_,_,q⟩:=hs
  exact False.elim q
 | cont =>
  obtain ⟨_,_,_,q⟩:=hs
  exact False.elim q
end L2
namespace L2
open PySem PySem.Spec PyProof.Rows
section
variable {X:Cx} {x:Str} {p pos:Pos} {e:Expr} {es:List Expr} {t:TA} {id T:String} {r:List V→Hp→VK→Prop}
noncomputable def tCB (r:List V→Hp→VK→Prop) (t:TA):TE:=fun σ H Q=>t σ H fun vs H1=>r vs H1 Q
theorem pe_callB (hc:CallR X (.builtin id) r) (hg:Gl X x) (hm:X.mg x=none) (hv:bootBuiltins x=some (.builtin id)) (ha:PA X (e :: es) t) (hn:x≠"__name__" := by decide) (hdb:(x == ("__debug__" : Str))=false:=by decide)
  (he:starEach (e :: es) X.env=(false,eval e X.env) :: starEach es X.env:=by rfl) (hpl:(backTo pos (starEach es X.env)).any (·.1)=false:=by rfl):PE X (.Call (.Name x p) (e :: es) [] pos) (tCB r t):=by
 intro pins s σ H Q I h
 refine wpAny_Call_Name_kw (ld_blt I hg hm hv ?_ hn hdb)
 exact PyProof.Rows.callWith_builtin1 (thn (ha pos pins s σ H _ I h) fun us s1 ⟨vs,H1,I1,r1,q1⟩=>hc pins s1 σ H1 vs us Q I1 r1 q1) he hpl
theorem pe_callTy (hc:CallR X (.type T) r) (hg:Gl X x) (hm:X.mg x=none) (hv:bootBuiltins x=some (.type T)) (ha:PA X (e :: es) t) (hn:x≠"__name__" := by decide) (hdb:(x == ("__debug__" : Str))=false:=by decide)
  (he:starEach (e :: es) X.env=(false,eval e X.env) :: starEach es X.env:=by rfl) (hpl:(backTo pos (starEach es X.env)).any (·.1)=false:=by rfl):PE X (.Call (.Name x p) (e :: es) [] pos) (tCB r t):=by
 intro pins s σ H Q I h
 refine wpAny_Call_Name_kw (ld_blt I hg hm hv ?_ hn hdb)
 exact PyProof.Rows.callWith_type1 (thn (ha pos pins s σ H _ I h) fun us s1 ⟨vs,H1,I1,r1,q1⟩=>hc pins s1 σ H1 vs us Q I1 r1 q1) he hpl
end
end L2
namespace HT
open PySem PyProof.Rows
section
open PySem.SeqAt
open PySem.AutoSeq1 (wpAny_loadPart')
open PySem.MeetsSeq PySem.MeetsSeq2 PySem.MeetsSeq3
end
section
variable {prog:Program} {w:World} {A:Around} {E:Value→Shared→Prop} {s:Shared}
noncomputable def sIx (n d:Nat):Option Int→Nat
 | none=>d
 | some v=>if v < 0 then (v+(n:Int)).toNat else min v.toNat n
theorem sIx_nat (n d k:Nat):sIx n d (some (k:Int))=min k n:=by
 show (if (k:Int) < 0 then ((k:Int)+(n:Int)).toNat else min (k:Int).toNat n)=min k n
 rw [if_neg (by omega),Int.toNat_natCast]
end
end HT
namespace L2
open PySem PySem.Spec PyProof.Rows
noncomputable abbrev TO:=St→Hp→(Option Int→Hp→Prop)→Prop
noncomputable def PO (X:Cx) (e:Option Expr) (t:TO):Prop :=
 ∀ (pins:List (Addr×Obj)) (s:Shared) (σ:St) (H:Hp) (Q:Option Int→Hp→Prop),Inv X pins σ H s→t σ H Q →
  wpAny (model X.prog X.w) X.A (evalPart e X.env) (fun u s'=>∃ o H',Inv X pins σ H' s'∧IsPart u o∧Q o H') X.xe s
noncomputable def tPart (t:TE):TO:=fun σ H Q=>t σ H fun x H1=>kzI x fun i=>Q (some i) H1
section
variable {X:Cx} {e:Expr} {te:TE} {lo hi:Option Expr} {tl th:TO} {pos p2:Pos}
theorem po_some (h:PE X e te):PO X (some e) (tPart te):=by
 intro pins s σ H Q I hw
 rw [evalPart_some]
 refine thn (h pins s σ H _ I hw) fun u s1 ⟨x,H1,I1,r1,q1⟩=>?_
 obtain ⟨i,rfl,q⟩:=kzI_m.mp q1
 obtain ⟨t,rfl⟩:=r1
 exact ⟨some i,H1,I1,.int i t,q⟩
noncomputable def SlR (X:Cx) (r:V→Option Int→Option Int→Hp→VK→Prop):Prop :=
 ∀ (pins:List (Addr×Obj)) (s:Shared) (σ:St) (H:Hp) (x:V) (v vl vu:Value) (lo hi:Option Int) (sl:Addr) (Q:VK),Inv X pins σ H s→RelV x v→s.heap.IsSliceOf sl vl vu .none→IsPart vl lo→IsPart vu hi→r x lo hi H Q →
  ∃ T id,typeLookup (.type T) "__getitem__" = pure (some (.builtin id))∧s.TypeIs v T∧wpAny (model X.prog X.w) X.A (getItem v (.ref sl)) (EP X pins σ Q) X.xe s
noncomputable def tSl (r:V→Option Int→Option Int→Hp→VK→Prop) (te:TE) (tl th:TO):TE:=fun σ H Q=>te σ H fun x H1=>tl σ H1 fun l H2=>th σ H2 fun u H3=>r x l u H3 Q
theorem pe_slice {r:V→Option Int→Option Int→Hp→VK→Prop} (hr:SlR X r) (he:PE X e te) (hl:PO X lo tl) (hu:PO X hi th):PE X (.Subscript e (.Slice lo hi none p2) pos) (tSl r te tl th):=by
 intro pins s σ H Q I h
 refine Subscript_ (thn (he pins s σ H _ I h) fun v s1 ⟨x,H1,I1,r1,q1⟩=>?_)
 refine wpAny_Slice (thn (hl pins s1 σ H1 _ I1 q1) fun vl s2 ⟨l,H2,I2,pl,q2⟩=>thn (hu pins s2 σ H2 _ I2 q2) fun vu s3 ⟨u,H3,I3,pu,q3⟩=>?_)
 rw [evalPart_none]
 refine wpAny_pure ?_
 have I4:Inv X pins σ H3 { s3 with heap:=s3.heap.push { cls:=.type "slice",data:=.fields #[vl,vu,.none] } }:=I3.kept (t':=s3.toks) fun b ob q=>Heap.get?_push_of_some _ q
 obtain ⟨T,id,hT,ht,hg⟩:=hr pins { s3 with heap:=s3.heap.push { cls:=.type "slice",data:=.fields #[vl,vu,.none] } } σ H3 x v vl vu l u s3.heap.objs.size Q I4 r1 (Heap.IsSliceOf.new ..) pl pu q3
 show wpAny (model X.prog X.w) X.A (subscriptTail e (.Slice lo hi none p2) v (.ref s3.heap.objs.size)) (EP X pins σ Q) X.xe { s3 with heap:=s3.heap.push { cls:=.type "slice",data:=.fields #[vl,vu,.none] } }
 exact tail_any (ops:=[.ref s3.heap.objs.size,v]) ht hT hg (by with_unfolding_all rfl)
noncomputable def cutV (xs:List V) (lo hi:Option Int):List V:=(xs.drop (HT.sIx xs.length 0 lo)).take (HT.sIx xs.length xs.length hi - HT.sIx xs.length 0 lo)
theorem cutV_length (xs:List V) (lo hi:Option Int):(cutV xs lo hi).length≤xs.length:=by
 unfold cutV
 rw [List.length_take,List.length_drop]
 omega
end
end L2
namespace L2
open PySem PySem.Spec PyProof.Rows
noncomputable def ixN (n:Nat) (i:Int):Option Nat:=if 0≤i then (if i < n then some i.toNat else none) else if -(n:Int)≤i then some (i+n).toNat else none
noncomputable def atI {α:Type} (xs:List α) (i:Int):Option α:=(ixN xs.length i).bind fun j=>xs[j]?
theorem ixN_seq {n:Nat} {i:Int} {j:Nat} (h:ixN n i=some j):seqIndex? i n=some j∧j < n∧-(n:Int)≤i∧i < n:=by
 unfold ixN at h
 by_cases h0:0≤i
 ·rw [if_pos h0] at h
  by_cases h1:i < n
  ·rw [if_pos h1] at h
   have e:i.toNat=j:=Option.some.inj h
   exact ⟨by rw [seqIndex_of h0 h1,e],by omega,by omega,h1⟩
  ·rw [if_neg h1] at h; cases h
 ·rw [if_neg h0] at h
  by_cases h1:-(n:Int)≤i
  ·rw [if_pos h1] at h
   have e:(i+n).toNat=j:=Option.some.inj h
   exact ⟨by rw [seqIndex_neg (by omega) h1,e],by omega,h1,by omega⟩
  ·rw [if_neg h1] at h; cases h
theorem atI_get {α:Type} {xs:List α} {i:Int} {v:α} (h:atI xs i=some v):∃ j,seqIndex? i xs.length=some j∧xs[j]? = some v∧j < xs.length∧-(xs.length:Int)≤i∧i < xs.length:=by
 unfold atI at h
 cases e:ixN xs.length i with
 | none=>rw [e] at h; cases h
 | some j =>
  rw [e] at h
  obtain ⟨h1,h2,h3,h4⟩:=ixN_seq e
  exact ⟨j,h1,h,h2,h3,h4⟩
noncomputable def PlainIx (b:Expr):Prop:=∀ o i,subscripted b false o i=operate [o,i] (getItem o i)
noncomputable def IxR (X:Cx) (r:R2):Prop :=
 ∀ (value slice:Expr) (pins:List (Addr×Obj)) (s:Shared) (σ:St) (H:Hp) (x y:V) (v u:Value) (Q:VK),Inv X pins σ H s→RelV x v→RelV y u→r x y H Q →
  subscripted slice false v u=operate [v,u] (getItem v u)→wpAny (model X.prog X.w) X.A (subscriptTail value slice v u) (EP X pins σ Q) X.xe s
noncomputable def MtR (X:Cx) (id:String) (r:V→List V→Hp→VK→Prop):Prop :=
 ∀ (pins:List (Addr×Obj)) (s:Shared) (σ:St) (H:Hp) (x:V) (xs:List V) (v:Value) (us:List Value) (Q:VK),Inv X pins σ H s→RelV x v→Vals xs us→r x xs H Q →
  wpAny (model X.prog X.w) X.A (call (.builtin id) (v :: us)) (EP X pins σ Q) X.xe s
section
variable {X:Cx} {a b:Expr} {ta tb:TE} {pos:Pos}
theorem pe_ix {r:R2} (hr:IxR X r) (ha:PE X a ta) (hb:PE X b tb) (hs:PlainIx b):PE X (.Subscript a b pos) (tOp r ta tb):=by
 intro pins s σ H Q I h
 exact Subscript_ (binT ha hb I h fun v u s2 x y H2 I2 rx ry q=>hr a b pins s2 σ H2 x y v u Q I2 rx ry q (hs _ _))
noncomputable def rIxL (K:W.Frag):R2:=fun x y H Q=>∃ p xs i v,x=.ref p∧y=.int i∧SqL K H p xs∧atI xs i=some v∧Q v H
noncomputable def rIxT (K:W.Frag):R2:=fun x y H Q=>∃ p xs i v,x=.ref p∧y=.int i∧SqT K H p xs∧atI xs i=some v∧Q v H
theorem ix_list:IxR X (rIxL X.K):=by
 intro value slice pins s σ H x y v u Q I rx ry h hs
 obtain ⟨p,xs,i,z,rfl,rfl,hq,he,q⟩:=h
 cases rx
 obtain ⟨t,rfl⟩:=ry
 obtain ⟨its,r,pl,hz⟩:=I.list hq
 obtain ⟨j,h1,h2,h3,h4,h5⟩:=atI_get he
 obtain ⟨w,ew,rw'⟩:=r.get h2
 have hl:=r.length
 have hn:=line63
 have fin:EP X pins σ Q w s:=⟨z,H,I,rw',q⟩
 by_cases h0:0≤i
 ·have hj:i.toNat=j:=by
   rw [seqIndex_of h0 h5] at h1
   exact Option.some.inj h1
  exact item_listR pl.isList h0 (by omega) (by rw [hj]; simpa using ew) fin hs
 ·have hj:(i+(its.toArray.size:Int)).toNat=j:=by
   rw [seqIndex_neg (by omega) h4] at h1
   rw [List.size_toArray,← hl]
   exact Option.some.inj h1
  exact subscriptTail_builtinR (x:=w) pl.isList.typeIs slot_list_getitem.lookup
   (wpAny_getItem_list_neg (Q:=fun r s'=>r=w∧EP X pins σ Q r s') pl.isList (by omega) (by rw [List.size_toArray] <;> omega) (by omega) (by rw [hj]; simpa using ew) ⟨rfl,fin⟩) hs
theorem ix_tup:IxR X (rIxT X.K):=by
 intro value slice pins s σ H x y v u Q I rx ry h hs
 obtain ⟨p,xs,i,z,rfl,rfl,hq,he,q⟩:=h
 cases rx
 obtain ⟨t,rfl⟩:=ry
 obtain ⟨its,r,pl,hz⟩:=I.tuple hq
 obtain ⟨j,h1,h2,h3,h4,h5⟩:=atI_get he
 obtain ⟨w,ew,rw'⟩:=r.get h2
 have hl:=r.length
 have hn:=line63
 have fin:EP X pins σ Q w s:=⟨z,H,I,rw',q⟩
 exact subscriptTail_builtinR (x:=w) pl.typeIs slot_tuple_getitem.lookup
  (getItem_tuple (j:=j) (Q:=fun r s'=>r=w∧EP X pins σ Q r s') pl (by omega) (by omega) (by rw [List.size_toArray,← hl]; exact h1) (by simpa using ew) ⟨rfl,fin⟩) hs
theorem mapSeq_set (its:List Value) (n j:Nat) (u:Value):Obj.mapSeq (·.setIfInBounds j u) { cls:=.type "list",data:=.seq its.toArray n }={ cls:=.type "list",data:=.seq (its.set j u).toArray n }:=by
 simp [Obj.mapSeq]
theorem Inv.lst {pins:List (Addr×Obj)} {σ:St} {H:Hp} {s:Shared} {p:Addr} {xs:List V} (I:Inv X pins σ H s) (h:H p=some (.lst xs)) :
  ∃ (its:List Value) (n:Nat),Vals xs its∧s.heap.get? p=some { cls:=.type "list",data:=.seq its.toArray n }∧xs.length≤sizeLine:=by
 obtain ⟨z,its,n,r,e⟩:=I.hok p _ h
 exact ⟨its,n,r,e,z⟩
theorem Inv.lstUpd {pins:List (Addr×Obj)} {σ:St} {H:Hp} {s:Shared} {p:Addr} {xs ys:List V} {its its':List Value} {n n':Nat} {f:Obj→Obj} (I:Inv X pins σ H s) (h:H p=some (.lst xs))
  (ho:s.heap.get? p=some { cls:=.type "list",data:=.seq its.toArray n }) (hf:f { cls:=.type "list",data:=.seq its.toArray n }={ cls:=.type "list",data:=.seq its'.toArray n' }) (r:Vals ys its') (hz:ys.length≤sizeLine) (t:Nat) :
  Inv X pins σ (upd H p (.lst ys)) { s with heap:=s.heap.update p f,toks:=t }:=by
 have e:(s.heap.update p f).get? p=some { cls:=.type "list",data:=.seq its'.toArray n' }:=by
  rw [Heap.get?_update_self f ho (by rw [hf] <;> rfl),hf]
 refine I.write (x:=p) (e:=p) (by rw [h]; trivial) (.inl rfl) (fun b u hb q=>(Heap.get?_update_other _ _ (Ne.symm hb)).trans q) ⟨_,e⟩ ?_
 exact ⟨hz,its',n',r,e⟩
noncomputable def rSetL:V→V→V→Hp→(Hp→Prop)→Prop:=fun o i v H Q=>kzR o fun p=>kzI i fun k=>kzL (H p) fun xs=>kzS (ixN xs.length k) fun j=>Q (upd H p (.lst (xs.set j v)))
theorem set_list:PSet X rSetL:=by
 intro pins s σ H o i v ov iv u Q I ro ri rv h
 obtain ⟨p,rfl,h⟩:=kzR_m.mp h
 obtain ⟨k,rfl,h⟩:=kzI_m.mp h
 obtain ⟨xs,hp,h⟩:=kzL_m.mp h
 obtain ⟨j,hj,q⟩:=kzS_m.mp h
 cases ro
 obtain ⟨t,rfl⟩:=ri
 obtain ⟨its,n,r,ho,hz⟩:=I.lst hp
 obtain ⟨h1,h2,h3,h4⟩:=ixN_seq hj
 have hl:=r.length
 have hn:=line63
 have I':Inv X pins σ (upd H p (.lst (xs.set j v))) { s with heap:=s.heap.update p (Obj.mapSeq (·.setIfInBounds j u)) } :=
  I.lstUpd hp ho (mapSeq_set its n j u) (r.set rv j) (by rw [List.length_set]; exact hz) s.toks
 by_cases h0:0≤k
 ·have hk:k.toNat=j:=by
   rw [seqIndex_of h0 h4] at h1
   exact Option.some.inj h1
  exact PySem.W.ki_setAt ho h0 (by omega) (by rw [List.size_toArray,← hl]; exact h4) (by rw [hk]; exact ⟨_,I',q⟩)
 ·have hk:(k+(its.toArray.size:Int)).toNat=j:=by
   rw [seqIndex_neg (by omega) h3] at h1
   rw [List.size_toArray,← hl]
   exact Option.some.inj h1
  exact PySem.W.ki_setBack ho (by omega) (by rw [List.size_toArray,← hl]; exact h3) (by omega) (by rw [hk]; exact ⟨_,I',q⟩)
theorem slice_bounds (lo hi:Option Int) (n:Nat):(sliceBounds lo hi none n).1=((HT.sIx n 0 lo:Nat):Int)∧(sliceBounds lo hi none n).2.1=((HT.sIx n n hi:Nat):Int)∧(sliceBounds lo hi none n).2.2=1:=by
 refine ⟨?_,?_,rfl⟩
 ·cases lo with
  | none=>simp [sliceBounds,HT.sIx]
  | some i =>
   simp only [sliceBounds,HT.sIx,Option.getD_none,show (1:Int) > 0 by decide,if_true]
   by_cases h:i < 0
   ·simp only [h,if_true] <;> omega
   ·simp only [h,if_false] <;> omega
 ·cases hi with
  | none=>simp [sliceBounds,HT.sIx]
  | some i =>
   simp only [sliceBounds,HT.sIx,Option.getD_none,show (1:Int) > 0 by decide,if_true]
   by_cases h:i < 0
   ·simp only [h,if_true] <;> omega
   ·simp only [h,if_false] <;> omega
theorem slicePick_cut (its:List Value) (lo hi:Option Int):slicePick its.toArray lo hi none=((its.drop (HT.sIx its.length 0 lo)).take (HT.sIx its.length its.length hi - HT.sIx its.length 0 lo)).toArray:=by
 obtain ⟨h1,h2,h3⟩:=slice_bounds lo hi its.toArray.size
 unfold slicePick
 rw [h1,h2,h3]
 simp only [sliceRange_one,pick_run,List.size_toArray] <;> rfl
noncomputable def rSlL (K:W.Frag):V→Option Int→Option Int→Hp→VK→Prop:=fun x lo hi H Q=>∃ a xs,x=.ref a∧SqL K H a xs∧∀ p,H p=none→Q (.ref p) (upd H p (.lst (cutV xs lo hi)))
theorem sl_list:SlR X (rSlL X.K):=by
 intro pins s σ H x v vl vu lo hi sl Q I rx hs pl pu h
 obtain ⟨a,xs,rfl,hx,q⟩:=h
 cases rx
 obtain ⟨its,r,ht,hz⟩:=I.list hx
 have hlen:=r.length
 refine ⟨"list",_,slot_list_getitem.lookup,ht.isList.typeIs,?_⟩
 refine wpAny_getItem_list_slice ht.isList hs pl pu .none (by simp) ?_ (by rw [List.size_toArray] <;> omega)
 rw [slicePick_cut,← hlen]
 refine ⟨.ref s.heap.objs.size,_,I.laid (t':=s.toks) (o:=.lst (cutV xs lo hi)) (fun b ob q=>Heap.get?_push_of_some _ q) (Nat.le_refl _) ?_,rfl,q _ (I.hok.fresh (Nat.le_refl _))⟩
 exact ⟨Nat.le_trans (cutV_length xs lo hi) hz,_,0,(r.drop (HT.sIx xs.length 0 lo)).take (HT.sIx xs.length xs.length hi - HT.sIx xs.length 0 lo),Heap.get?_push_size _ rfl⟩
noncomputable def flatV:V→Bool
 | .non=>true
 | .bl _=>true
 | .int _=>true
 | .str _=>true
 | _=>false
noncomputable def eqV:V→V→Bool
 | .non,.non=>true
 | .bl a,.bl b=>a == b
 | .bl a,.int b=>(if a then 1 else 0) == b
 | .int a,.bl b=>a == (if b then 1 else 0)
 | .int a,.int b=>a == b
 | .str a,.str b=>a == b
 | _,_=>false
theorem eqAt_V {A:Around} {s:Shared} {y x:V} {u v:Value} (ry:RelV y u) (rx:RelV x v) (fy:flatV y=true) (fx:flatV x=true):SeqAt.EqAt A s u v (eqV y x):=by
 cases y with
 | non =>
  cases ry
  cases x with
  | non=>cases rx; exact SeqAt.EqAt.same _
  | bl b=>cases rx; exact SeqAt.EqAt.none_bool b
  | int b=>obtain ⟨t,rfl⟩:=rx; exact SeqAt.EqAt.none_int b t
  | str b=>obtain ⟨t,rfl⟩:=rx; exact SeqAt.EqAt.none_str b t
  | _=>exact absurd (show false=true from fx) Bool.false_ne_true
 | bl a =>
  cases ry
  cases x with
  | non=>cases rx; exact SeqAt.EqAt.bool_none a
  | bl b=>cases rx; exact SeqAt.EqAt.bool_bool a b
  | int b=>obtain ⟨t,rfl⟩:=rx; exact SeqAt.EqAt.bool_int a b t
  | str b=>obtain ⟨t,rfl⟩:=rx; exact SeqAt.EqAt.bool_str a b t
  | _=>exact absurd (show false=true from fx) Bool.false_ne_true
 | int a =>
  obtain ⟨t',rfl⟩:=ry
  cases x with
  | non=>cases rx; exact SeqAt.EqAt.int_none a t'
  | bl b=>cases rx; exact SeqAt.EqAt.int_bool a t' b
  | int b=>obtain ⟨t,rfl⟩:=rx; exact SeqAt.EqAt.int_int a t' b t
  | str b=>obtain ⟨t,rfl⟩:=rx; exact SeqAt.EqAt.int_str a t' b t
  | _=>exact absurd (show false=true from fx) Bool.false_ne_true
 | str a =>
  obtain ⟨t',rfl⟩:=ry
  cases x with
  | non=>cases rx; exact SeqAt.EqAt.str_none a t'
  | bl b=>cases rx; exact SeqAt.EqAt.str_bool a t' b
  | int b=>obtain ⟨t,rfl⟩:=rx; exact SeqAt.EqAt.str_int a t' b t
  | str b=>obtain ⟨t,rfl⟩:=rx; exact SeqAt.EqAt.str_str a t' b t
  | _=>exact absurd (show false=true from fx) Bool.false_ne_true
 | _=>exact absurd (show false=true from fy) Bool.false_ne_true
noncomputable def eqU (x:V) (u:Value):Bool:=match u with
 | .none=>eqV .non x
 | .bool b=>eqV (.bl b) x
 | .int i _=>eqV (.int i) x
 | .str z _=>eqV (.str z) x
 | _=>false
theorem eqU_of {x y:V} {u:Value} (r:RelV y u) (f:flatV y=true):eqU x u=eqV y x:=by
 cases y with
 | non=>cases r; rfl
 | bl b=>cases r; rfl
 | int i=>obtain ⟨t,rfl⟩:=r; rfl
 | str z=>obtain ⟨t,rfl⟩:=r; rfl
 | _=>exact absurd (show false=true from f) Bool.false_ne_true
theorem any_eqU {x:V}:∀ {xs:List V} {us:List Value},Vals xs us→xs.all flatV=true→us.any (eqU x)=xs.any fun y=>eqV y x
 | _,_,.nil,_=>rfl
 | y :: xs,u :: us,.cons r t,f=>by
  rw [List.all_cons,Bool.and_eq_true] at f
  rw [List.any_cons,List.any_cons,eqU_of r f.1,any_eqU t f.2]
theorem mem_eqAt {A:Around} {s:Shared} {x:V} {v:Value} (rx:RelV x v) (fx:flatV x=true):∀ {xs:List V} {us:List Value},Vals xs us→xs.all flatV=true→∀ u ∈ us,SeqAt.EqAt A s u v (eqU x u)
 | _,_,.nil,_=>fun u hu=>by cases hu
 | y :: xs,u :: us,.cons r t,f=>fun u' hu=>by
  rw [List.all_cons,Bool.and_eq_true] at f
  rcases List.mem_cons.mp hu with rfl | hu
  ·rw [eqU_of r f.1]; exact eqAt_V r rx f.1 fx
  ·exact mem_eqAt rx fx t f.2 u' hu
noncomputable def inV (x:V) (xs:List V):Bool:=xs.any fun y=>eqV y x
noncomputable def rIn (K:W.Frag) (neg:Bool):R2:=fun x y H Q=>∃ p xs,y=.ref p∧(SqL K H p xs∨SqT K H p xs)∧flatV x=true∧xs.all flatV=true∧Q (.bl (if neg then !inV x xs else inV x xs)) H
theorem op_in_seq:OpR X (compareOp .In) (rIn X.K false):=by
 intro pins s σ H x y v u Q I rx ry h
 obtain ⟨p,xs,rfl,hq,fx,fs,q⟩:=h
 cases ry
 rcases hq with hq | hq
 ·obtain ⟨its,r,pl,hz⟩:=I.list hq
  refine SeqAt.in_listAt (eqU x) pl.isList (fun w hw=>mem_eqAt rx fx r fs w (by simpa using hw)) ⟨.bl _,H,I,rfl,?_⟩
  rw [show its.toArray.any (eqU x)=its.any (eqU x) by simp,any_eqU r fs]
  exact q
 ·obtain ⟨its,r,pl,hz⟩:=I.tuple hq
  refine SeqAt.in_tupleAt (eqU x) pl (fun w hw=>mem_eqAt rx fx r fs w (by simpa using hw)) ⟨.bl _,H,I,rfl,?_⟩
  rw [show its.toArray.any (eqU x)=its.any (eqU x) by simp,any_eqU r fs]
  exact q
theorem jce:CallR X (.builtin "len") (fun xs H Q=>∃ p ys,xs=[.ref p]∧(SqL X.K H p ys∨SqT X.K H p ys)∧Q (.int ys.length) H):=by
 intro pins s σ H xs us Q I r h
 obtain ⟨p,ys,rfl,hq,q⟩:=h
 obtain ⟨u,rfl,rx⟩:=vals1 r
 cases rx
 have hn:=line63
 rcases hq with hq | hq
 ·obtain ⟨its,r',pl,hz⟩:=I.list hq
  have hlen:=r'.length
  exact Calls.call_len_list pl.isList (by simp only [List.size_toArray] <;> omega) ⟨.int ys.length,H,I.tok _,⟨s.toks+1,by rw [List.size_toArray,hlen]⟩,q⟩
 ·obtain ⟨its,r',pl,hz⟩:=I.tuple hq
  have hlen:=r'.length
  exact len_tuple pl (by simp only [List.size_toArray] <;> omega) ⟨.int ys.length,H,I.tok _,⟨s.toks+1,by rw [List.size_toArray,hlen]⟩,q⟩
noncomputable def tyV (K:W.Frag) (T:String) (x:V) (H:Hp):Prop:=match x with
 | .str _=>T = "str"
 | .int _=>T = "int"
 | .ref p=>(T = "list"∧∃ xs,SqL K H p xs)∨(T = "tuple"∧∃ o,K.lookup p=some o∧o.cls=.type "tuple"∧o.dict=none) ∨
   (T = "dict"∧((∃ kvs,H p=some (.dK kvs))∨∃ kvs,H p=some (.dT kvs)))∨(T = "set"∧∃ S n,H p=some (.set S n))
 | _=>False
theorem tyV_is {pins:List (Addr×Obj)} {σ:St} {H:Hp} {s:Shared} {T:String} {x:V} {v:Value} (I:Inv X pins σ H s) (r:RelV x v) (ty:tyV X.K T x H) :
  s.TypeIs v T∧∀ a,v=.ref a→∃ ob,s.heap.get? a=some ob∧ob.dict=none:=by
 cases x with
 | str z =>
  obtain ⟨t,rfl⟩:=r
  cases (show T = "str" from ty)
  exact ⟨typeIs_str s z t,fun _ e=>nomatch e⟩
 | int i =>
  obtain ⟨t,rfl⟩:=r
  cases (show T = "int" from ty)
  exact ⟨typeIs_int s i t,fun _ e=>nomatch e⟩
 | ref p =>
  cases r
  rcases ty with ⟨rfl,xs,hq⟩ | ⟨rfl,o,hk,hc,hd⟩ | ⟨rfl,hk⟩ | ⟨rfl,S,n,hk⟩
  ·obtain ⟨its,_,pl,_⟩:=I.list hq
   refine ⟨pl.isList.typeIs,fun a e=>?_⟩
   cases e
   obtain ⟨o,n,e,c,hd,_⟩:=pl
   exact ⟨o,e,hd⟩
  ·refine ⟨⟨o,I.kIn p o hk,hc⟩,fun a e=>?_⟩
   cases e
   exact ⟨o,I.kIn _ o hk,hd⟩
  ·have z:∃ o,s.heap.get? p=some o∧o.ExactDict:=by
    rcases hk with ⟨kvs,hk⟩ | ⟨kvs,hk⟩
    ·obtain ⟨_,_,_,_,o,_,_,e,ex,_⟩:=I.hok p _ hk
     exact ⟨o,e,ex⟩
    ·obtain ⟨_,_,_,_,o,_,_,e,ex,_⟩:=I.hok p _ hk
     exact ⟨o,e,ex⟩
   obtain ⟨o,e,ex⟩:=z
   refine ⟨⟨o,e,ex.1⟩,fun a e2=>?_⟩
   cases e2
   exact ⟨o,e,ex.2.1⟩
  ·obtain ⟨o,_,_,_,e,ex,_⟩:=I.hok p _ hk
   refine ⟨⟨o,e,ex.1⟩,fun a e2=>?_⟩
   cases e2
   exact ⟨o,e,ex.2.1⟩
 | _=>exact False.elim ty
noncomputable def tBM0 (K:W.Frag) (T:String) (r:V→List V→Hp→VK→Prop) (to:TE):TE:=fun σ H Q=>to σ H fun x H1=>tyV K T x H1∧r x [] H1 Q
noncomputable def tBM (K:W.Frag) (T:String) (r:V→List V→Hp→VK→Prop) (to:TE) (t:TA):TE:=fun σ H Q=>to σ H fun x H1=>tyV K T x H1∧t σ H1 fun xs H2=>r x xs H2 Q
variable {o e:Expr} {es:List Expr} {to:TE} {t:TA} {name:Str} {apos cpos:Pos} {T id:String} {r:V→List V→Hp→VK→Prop}
theorem pe_bm0 (pa:PlainAttrs T) (slot:Slot T name id) (hty:typeOf (.builtin id)=pure (.type "method_descriptor")) (hm:MtR X id r) (ho:PE X o to)
  (hbase:attributeBase o name X.env (eval o X.env)=eval o X.env:=by rfl) (hline:(apos.endLine == cpos.line)=true:=by rfl):PE X (.Call (.Attribute o name apos) [] [] cpos) (tBM0 X.K T r to):=by
 intro pins s σ H Q I h
 refine wpAny_Call_method0_late hbase hline (thn (ho pins s σ H _ I h) fun v s1 ⟨x,H1,I1,r1,ty,q1⟩=>?_)
 obtain ⟨h1,h2⟩:=tyV_is I1 r1 ty
 exact ⟨T,id,pa,slot,hty,h1,h2,Calls.callWith_builtin rfl (PySem.evalArgs_none (hm pins s1 σ H1 x [] v [] Q I1 r1 .nil q1))⟩
theorem pe_bm (pa:PlainAttrs T) (slot:Slot T name id) (hty:typeOf (.builtin id)=pure (.type "method_descriptor")) (hm:MtR X id r) (ho:PE X o to) (ha:PA X (e :: es) t)
  (hbase:attributeBase o name X.env (eval o X.env)=eval o X.env:=by rfl)
  (hfew:((backTo cpos (starEach (e :: es) X.env)).all (fun x=>!x.1) && (backToKw cpos (keywordEach [] X.env)).all (fun x=>x.1.isSome)
   && decide ((e :: es).length+([]:List Keyword).length+(if ([]:List Keyword).isEmpty then 0 else 1) < 30))=true:=by rfl)
  (hline:(apos.endLine == cpos.line)=true:=by rfl) (hs:starEach (e :: es) X.env=(false,eval e X.env) :: starEach es X.env:=by rfl) (hplain:(backTo cpos (starEach es X.env)).any (·.1)=false:=by rfl) :
  PE X (.Call (.Attribute o name apos) (e :: es) [] cpos) (tBM X.K T r to t):=by
 intro pins s σ H Q I h
 refine wpAny_Call_method_late hbase hfew hline rfl (thn (ho pins s σ H _ I h) fun v s1 ⟨x,H1,I1,r1,ty,q1⟩=>?_)
 obtain ⟨h1,h2⟩:=tyV_is I1 r1 ty
 refine ⟨T,id,pa,slot,hty,h1,h2,?_⟩
 have hA:=ha cpos pins s1 σ H1 _ I1 q1
 rw [hs] at hA ⊢
 refine Calls.callWith_builtin (by show (false || (backTo cpos (starEach es X.env)).any (·.1))=false; rw [hplain] <;> rfl) (Calls.evalArgs_plain ?_)
 exact thn hA fun us s2 ⟨vs,H2,I2,r2,q2⟩=>hm pins s2 σ H2 x vs v us Q I2 r1 r2 q2
end
end L2
namespace L2
open PySem PySem.Spec PyProof.Rows
noncomputable def MtM (X:Cx) (id:String) (r:V→List V→Hp→VK→Prop):Prop :=
 ∀ (pins:List (Addr×Obj)) (s:Shared) (σ:St) (H:Hp) (x:V) (xs:List V) (v:Value) (us:List Value) (Q:VK),Inv X pins σ H s→RelV x v→Vals xs us→r x xs H Q →
  wpAny (model X.prog X.w) X.A (call (.builtin id) (v :: us)) (EP X pins σ Q) X.xe s
theorem Vals.one:∀ {x:V} {us:List Value},Vals [x] us→∃ u,us=[u]∧RelV x u
 | _,_,.cons r .nil=>⟨_,rfl,r⟩
theorem Vals.eraseIdx:∀ {xs:List V} {us:List Value} (i:Nat),Vals xs us→Vals (xs.eraseIdx i) (us.eraseIdx i)
 | _,_,_,.nil=>.nil
 | _,_,0,.cons _ t=>t
 | _,_,i+1,.cons r t=>.cons r (Vals.eraseIdx i t)
theorem Vals.rep {xs:List V} {us:List Value} (h:Vals xs us):∀ k:Nat,Vals (List.replicate k xs).flatten (List.replicate k us).flatten
 | 0=>.nil
 | k+1=>by
  rw [List.replicate_succ,List.replicate_succ,List.flatten_cons,List.flatten_cons]
  exact Vals.append h (Vals.rep h k)
theorem len_erase {α:Type}:∀ (l:List α) (i:Nat),(l.eraseIdx i).length≤l.length
 | [],_=>Nat.le_refl _
 | _ :: _,0=>Nat.le_succ _
 | _ :: r,i+1=>Nat.succ_le_succ (len_erase r i)
theorem foldl_rep (its:List Value):∀ (k:Nat) (acc:List Value),
  List.foldl (fun x1 x2=>x1 ++ x2) acc.toArray (List.replicate k its.toArray)=(acc ++ (List.replicate k its).flatten).toArray
 | 0,acc=>by simp
 | k+1,acc=>by
  have e:acc.toArray ++ its.toArray=(acc ++ its).toArray:=by simp
  have e2:(acc ++ its) ++ (List.replicate k its).flatten=acc ++ (List.replicate (k+1) its).flatten:=by
   rw [List.replicate_succ,List.flatten_cons,List.append_assoc]
  rw [← e2,← foldl_rep its k (acc ++ its),← e,List.replicate_succ,List.foldl_cons]
section
variable {X:Cx} {pins:List (Addr×Obj)} {σ:St} {H:Hp} {s:Shared} {l b:Addr} {xs ys zs:List V}
theorem Inv.lset {its its':List Value} {n:Nat} {f:Array Value→Array Value} {t':Nat} (I:Inv X pins σ H s) (hH:H l=some (.lst xs))
  (e:s.heap.get? l=some { cls:=.type "list",data:=.seq its.toArray n }) (hf:f its.toArray=its'.toArray) (hv:Vals ys its') (hz:ys.length≤sizeLine) :
  Inv X pins σ (upd H l (.lst ys)) { s with heap:=s.heap.update l (Obj.mapSeq f),toks:=t' }:=by
 have q:=PySem.IsL.update e f
 rw [hf] at q
 refine I.write (x:=l) (e:=l) (by rw [hH]; exact trivial) (.inl rfl) (fun b' u hb hu=>(Heap.get?_update_other s.heap (Obj.mapSeq f) (Ne.symm hb)).trans hu) ⟨_,q⟩ ?_
 exact ⟨hz,its',_,hv,q⟩
theorem Inv.lnew {its:List Value} {t':Nat} (I:Inv X pins σ H s) (hv:Vals ys its) (hz:ys.length≤sizeLine) :
  Inv X pins σ (upd H s.heap.objs.size (.lst ys)) { s with heap:=s.heap.push { cls:=.type "list",data:=.seq its.toArray },toks:=t' } :=
 I.laid (fun _ _ q=>Heap.get?_push_of_some _ q) (Nat.le_refl _) ⟨hz,its,0,hv,Heap.get?_push_size _ rfl⟩
theorem Inv.fresh (I:Inv X pins σ H s):H s.heap.objs.size=none:=I.hok.fresh (Nat.le_refl _)
theorem Inv.lstM (I:Inv X pins σ H s) (hH:H l=some (.lst xs)):xs.length≤sizeLine∧∃ (its:List Value) (n:Nat),Vals xs its∧xs.length=its.length∧s.heap.get? l=some { cls:=.type "list",data:=.seq its.toArray n }:=by
 obtain ⟨z,its,n,r,e⟩:=I.hok l _ hH
 exact ⟨z,its,n,r,r.length,e⟩
theorem notLongL {n:Nat} (h:n≤sizeLine):Builtin.List.listTooLong n=false:=by
 unfold Builtin.List.listTooLong
 exact decide_eq_false (by omega)
end
section
variable {X:Cx}
noncomputable def rAppend:V→List V→Hp→VK→Prop:=fun x vs H Q=>kzR x fun l=>kzO vs fun y=>kzL (H l) fun xs=>xs.length < sizeLine∧Q .non (upd H l (.lst (xs ++ [y])))
theorem ja5:MtM X "list.append" rAppend:=by
 intro pins s σ H x vs v us Q I rx rv h
 obtain ⟨l,rfl,h⟩:=kzR_m.mp h
 obtain ⟨y,rfl,h⟩:=kzO_m.mp h
 obtain ⟨xs,hH,hz,q⟩:=kzL_m.mp h
 cases rx
 obtain ⟨u,rfl,ru⟩:=rv.one
 obtain ⟨z,its,n,r,hl,e⟩:=I.lstM hH
 refine call_meets F.slot_list_append ⟨_,e,rfl⟩ F.entry_list_append (F.args_list_append_2 _ _) (PySem.list_append l its.toArray n u (by rw [List.size_toArray]; omega)) ⟨e,?_⟩
 refine ⟨.non,_,I.lset (its':=its ++ [u]) hH e (by simp) (r.append (.cons ru .nil)) ?_,rfl,q⟩
 rw [List.length_append,List.length_singleton]
 omega
noncomputable def rExtend:V→List V→Hp→VK→Prop:=fun x vs H Q=>kzR x fun l=>kzP vs fun b=>kzL (H l) fun xs=>kzL (H b) fun zs=>xs.length+zs.length≤sizeLine∧Q .non (upd H l (.lst (xs ++ zs)))
theorem mt_extend:MtM X "list.extend" rExtend:=by
 intro pins s σ H x vs v us Q I rx rv h
 obtain ⟨l,rfl,h⟩:=kzR_m.mp h
 obtain ⟨b,rfl,h⟩:=kzP_m.mp h
 obtain ⟨xs,hH,h⟩:=kzL_m.mp h
 obtain ⟨zs,hB,hz,q⟩:=kzL_m.mp h
 cases rx
 obtain ⟨u,rfl,ru⟩:=rv.one
 cases ru
 obtain ⟨z,its,n,r,hl,e⟩:=I.lstM hH
 obtain ⟨z2,its2,n2,r2,hl2,e2⟩:=I.lstM hB
 have hsz:its.toArray.size+its2.toArray.size≤sizeLine:=by rw [List.size_toArray,List.size_toArray]; omega
 have hlong:¬ (!its.toArray.isEmpty && Builtin.List.listTooLong (its.toArray.size+its2.toArray.size))=true:=by
  rw [notLongL hsz,Bool.and_false]
  exact Bool.false_ne_true
 refine call_meets F.slot_list_extend ⟨_,e,rfl⟩ F.entry_list_extend (F.args_list_extend_2 _ _)
  (AutoSeq1.list_extend_list_list_0 l its.toArray n b its2.toArray n2 hlong (by rw [List.size_toArray]; omega) (by omega)) ⟨e,e2,?_⟩
 refine ⟨.non,_,I.lset (its':=its ++ its2) hH e (by simp) (r.append r2) ?_,rfl,q⟩
 rw [List.length_append]
 omega
noncomputable def rPopAt:V→List V→Hp→VK→Prop:=fun x vs H Q=>∃ l xs i k y,x=.ref l∧vs=[.int i]∧H l=some (.lst xs)∧-(2 ^ 63)≤i∧i < 2 ^ 63∧seqIndex? i xs.length=some k∧xs[k]? = some y∧Q y (upd H l (.lst (xs.eraseIdx k)))
theorem mt_popAt:MtM X "list.pop" rPopAt:=by
 intro pins s σ H x vs v us Q I rx rv h
 obtain ⟨l,xs,i,k,y,rfl,rfl,hH,h1,h2,hk,hy,q⟩:=h
 cases rx
 obtain ⟨u,rfl,ru⟩:=rv.one
 obtain ⟨t,rfl⟩:=ru
 obtain ⟨z,its,n,r,hl,e⟩:=I.lstM hH
 obtain ⟨w,hw,rw'⟩:=r.get hy
 refine call_meets F.slot_list_pop ⟨_,e,rfl⟩ F.entry_list_pop (F.args_list_pop_2 _ _)
  (MeetsSeq.list_pop_at l its.toArray n i t k w (fitsIndex_both h1 h2) (by rw [List.size_toArray,← hl]; exact hk) (by rw [← Array.getElem?_toList]; exact hw) (by rw [List.size_toArray]; omega)) ⟨e,?_⟩
 refine ⟨y,_,I.lset (its':=its.eraseIdx k) hH e ?_ (r.eraseIdx k) ?_,rw',q⟩
 ·show its.toArray.eraseIdxIfInBounds k=(its.eraseIdx k).toArray
  rw [List.eraseIdxIfInBounds_toArray]
 ·have:=len_erase xs k
  omega
noncomputable def rCat:R2:=fun x y H Q=>kzR x fun l=>kzR y fun b=>kzL (H l) fun xs=>kzL (H b) fun zs=>xs.length+zs.length≤sizeLine∧∀ p,H p=none→Q (.ref p) (upd H p (.lst (xs ++ zs)))
theorem op_cat:OpR X (binaryOp .Add) rCat:=by
 intro pins s σ H x y v u Q I rx ry h
 obtain ⟨l,rfl,h⟩:=kzR_m.mp h
 obtain ⟨b,rfl,h⟩:=kzR_m.mp h
 obtain ⟨xs,hH,h⟩:=kzL_m.mp h
 obtain ⟨zs,hB,hz,q⟩:=kzL_m.mp h
 cases rx
 cases ry
 obtain ⟨z,its,n,r,hl,e⟩:=I.lstM hH
 obtain ⟨z2,its2,n2,r2,hl2,e2⟩:=I.lstM hB
 refine PySem.P.add_list e e2 ?_ (by rw [List.size_toArray,List.size_toArray]; omega)
 have ea:its.toArray ++ its2.toArray=(its ++ its2).toArray:=by simp
 rw [ea]
 exact ⟨.ref _,_,I.lnew (t':=s.toks) (r.append r2) (by rw [List.length_append]; omega),rfl,q _ I.fresh⟩
noncomputable def rRep:R2:=fun x y H Q=>∃ l k xs,x=.ref l∧y=.int k∧H l=some (.lst xs)∧-(2 ^ 63)≤k∧k < 2 ^ 63∧xs.length * k.toNat≤sizeLine ∧
 ∀ p,H p=none→Q (.ref p) (upd H p (.lst (List.replicate k.toNat xs).flatten))
theorem len_rep {α:Type} (xs:List α) (k:Nat):(List.replicate k xs).flatten.length=k * xs.length:=by
 induction k with
 | zero=>simp
 | succ k ih=>rw [List.replicate_succ,List.flatten_cons,List.length_append,ih,Nat.succ_mul,Nat.add_comm]
theorem op_rep:OpR X (binaryOp .Mult) rRep:=by
 intro pins s σ H x y v u Q I rx ry h
 obtain ⟨l,k,xs,rfl,rfl,hH,h1,h2,hz,q⟩:=h
 cases rx
 obtain ⟨t,rfl⟩:=ry
 obtain ⟨z,its,n,r,hl,e⟩:=I.lstM hH
 have hlen:its.toArray.size * k.toNat≤sizeLine:=by rw [List.size_toArray,← hl]; exact hz
 have hcap:¬ its.toArray.size * k.toNat > (2 ^ 63 - 1) / 8:=by
  have:(sizeLine:Nat)≤(2 ^ 63 - 1) / 8:=by decide
  omega
 have hfit:¬ (!Builtin.List.listFitsIndex k)=true:=by
  rw [fitsIndex_both h1 h2]
  exact Bool.false_ne_true
 have hlong:¬ Builtin.List.listTooLong (its.toArray.size * k.toNat)=true:=by
  rw [notLongL hlen]
  exact Bool.false_ne_true
 have hnew:List.foldl (fun x1 x2=>x1 ++ x2) #[] (List.replicate (if its.toArray.isEmpty=true then 0 else k.toNat) its.toArray)=(List.replicate k.toNat its).flatten.toArray:=by
  have f0:∀ m:Nat,List.foldl (fun x1 x2=>x1 ++ x2) #[] (List.replicate m its.toArray)=(List.replicate m its).flatten.toArray:=fun m=>by
   have:=foldl_rep its m []
   rw [List.nil_append] at this
   exact this
  rw [f0]
  cases its with
  | nil=>simp
  | cons a r'=>rw [if_neg (by simp)]
 refine wpAny_binaryOp_repeat_ref (T := "list") (U := "int") (by decide) ⟨_,e,rfl⟩ (fun s'=>typeIs_int s' k t) noFill_list_mul F.fills_int_mul F.slot_int_rmul repeat_list F.slot_int_index.lookup
  (call_meets F.slot_int_rmul (typeIs_int s k t) F.entry_int_rmul (F.args_int_rmul_2 _ _) (int___rmul___int_list k t l its.toArray n)
   ⟨e,rfl,⟨_,e,rfl⟩,call_meets F.slot_list_mul ⟨_,e,rfl⟩ F.entry_list_mul (F.args_list_mul_2 _ _) (AutoListH.list___mul___list_int_3 l its.toArray n k t hfit hcap hlong) ⟨e,?_⟩⟩)
 rw [hnew]
 exact ⟨.ref _,_,I.lnew (t':=s.toks) (r.rep k.toNat) (by rw [len_rep,Nat.mul_comm]; exact hz),rfl,q _ I.fresh⟩
end
section
variable {prog:Program} {w:World} {A:Around} {E:Value→Shared→Prop} {s:Shared}
set_option maxRecDepth 100000 in
end
section
variable {X:Cx}
end
end L2
namespace L2
open PySem PySem.Spec PyProof.Rows
theorem Vals.bls:∀ {bs:List Bool} {us:List Value},Vals (bs.map V.bl) us→us=bs.map Value.bool
 | [],us,h=>by
  rw [List.map_nil] at h
  cases h
  rfl
 | b :: bs,us,h=>by
  rw [List.map_cons] at h
  cases h with
  | cons r t =>
   cases r
   rw [Vals.bls t,List.map_cons]
theorem Vals.ref1 {a:Addr} {us:List Value} (r:Vals [V.ref a] us):us=[Value.ref a]:=by
 cases r with
 | cons r t =>
  cases t
  cases r
  rfl
section
variable {prog:Program} {w:World} {A:Around} {E:Value→Shared→Prop} {s:Shared} {l:Addr} {its:List Value} {ns:List Int} {Q:Value→Shared→Prop}
end
section
variable {X:Cx}
end
section
variable {X:Cx}
end
section
variable {X:Cx}
end
theorem iter_any {prog:Program} {w:World} {A:Around} {E:Value→Shared→Prop} {s:Shared} {l:Addr} {items:Array Value} {Q:Value→Shared→Prop} (hl:s.heap.IsList l items)
  (h:∀ s₂:Shared,s₂={ s with heap:=s.heap.push { cls:=.type "list_iterator",data:=.fields #[.ref l,.int 0 0] } } →
   (s₂.heap.IsListIter s.heap.objs.size l 0∧s₂.heap.IsList l items)→l≠s.heap.objs.size→Q (.ref s.heap.objs.size) s₂):wpAny (model prog w) A (pyIter (.ref l)) Q E s:=by
 have hlt:l < s.heap.objs.size:=by obtain ⟨_,e,_⟩:=hl; exact Heap.lt_size e
 exact wpAny_pyIter_list hl (h _ rfl ⟨⟨_,Heap.get?_push_size _ rfl,rfl,rfl⟩,hl.push _⟩ (Nat.ne_of_lt hlt))
theorem truth_bools {prog:Program} {w:World} {A:Around} {bs:List Bool} {its:List Value} (e:its=bs.map Value.bool) :
  TruthOf prog w A (fun i v=>its.toArray[i]? = some v) (fun i=>bs.getD i false):=fun i v s Q E hv hq=>by
 have hv':its[i]? = some v:=by simpa using hv
 rw [e,List.getElem?_map] at hv'
 obtain ⟨b,hb,rfl⟩:=Option.map_eq_some_iff.mp hv'
 have hg:bs.getD i false=b:=by rw [List.getD_eq_getElem?_getD,hb] <;> rfl
 have hq':Q (bs.getD i false) s:=hq
 rw [hg] at hq'
 exact wpAny_truthy_bool hq'
theorem any_range:∀ bs:List Bool,(List.range bs.length).any (fun i=>bs.getD i false)=bs.any id
 | []=>rfl
 | b :: bs=>by
  rw [List.length_cons,List.range_succ_eq_map,List.any_cons,List.any_map,List.any_cons,← any_range bs]
  all_goals rfl
section
variable {X:Cx}
noncomputable def rAny (K:W.Frag):List V→Hp→VK→Prop:=fun vs H Q=>∃ (a:Addr) (bs:List Bool),vs=[V.ref a]∧SqL K H a (bs.map V.bl)∧Q (.bl (bs.any id)) H
theorem cr_any (hc:X.calm=true):CallR X (.builtin "any") (rAny X.K):=by
 intro pins s σ H vs us Q I r h
 obtain ⟨a,bs,rfl,hs,q⟩:=h
 obtain ⟨its,rv,hl,_⟩:=I.list hs
 rw [Vals.ref1 r]
 have hb:=rv.bls
 refine call_any_walk (iter_any hl.isList fun s₂ e2 st hne=>?_)
 subst e2
 refine ⟨_,_,_,_,_,_,_,rfl,Walks.list (A:=X.A.in1) (I.ok.hd hc) _ a hne its.toArray,st,truth_bools hb,fun h' tk hk=>?_⟩
 refine ⟨.bl _,H,I.kept fun b o eo=>hk b o (fun hmem=>?_) (Heap.get?_push_of_some _ eo),?_,q⟩
 ·rcases List.mem_cons.mp hmem with e1 | hmem
  ·exact absurd (e1 ▸ Heap.lt_size eo) (Nat.lt_irrefl _)
  ·cases hmem
 ·show Value.bool _=Value.bool _
  rw [← any_range,hb,List.size_toArray,List.length_map]
end
mutual
inductive Dp (K:W.Frag) (H:Hp):V→PyData→Prop
 | non:Dp K H .non .none
 | bl (b:Bool):Dp K H (.bl b) (.bool b)
 | int (i:Int):Dp K H (.int i) (.int i)
 | str (x:Str):Dp K H (.str x) (.str x)
 | lst {a:Addr} {xs:List V} {ds:List PyData}:SqL K H a xs→DpAll K H xs ds→Dp K H (.ref a) (.list ds)
 | tup {a:Addr} {xs:List V} {ds:List PyData}:SqT K H a xs→DpAll K H xs ds→Dp K H (.ref a) (.tuple ds)
inductive DpAll (K:W.Frag) (H:Hp):List V→List PyData→Prop
 | nil:DpAll K H [] []
 | cons {v:V} {vs:List V} {d:PyData} {ds:List PyData}:Dp K H v d→DpAll K H vs ds→DpAll K H (v :: vs) (d :: ds)
end
section
variable {X:Cx} {pins:List (Addr×Obj)} {σ:St} {H:Hp} {s:Shared}
mutual
theorem Dp.reads (I:Inv X pins σ H s):∀ (d:PyData) (v:V) (u:Value),Dp X.K H v d→RelV v u→∃ as,Reads s.heap u d as
 | .none,_,_,h,r=>by
  cases h
  cases r
  exact ⟨_,Reads.none⟩
 | .bool b,_,_,h,r=>by
  cases h
  cases r
  exact ⟨_,Reads.bool b⟩
 | .int i,_,_,h,r=>by
  cases h
  obtain ⟨t,rfl⟩:=r
  exact ⟨_,Reads.int i t⟩
 | .str x,_,_,h,r=>by
  cases h
  obtain ⟨t,rfl⟩:=r
  exact ⟨_,Reads.str x t⟩
 | .list ds,_,_,h,r=>by
  cases h with
  | lst hs ha =>
   cases r
   obtain ⟨its,rv,⟨o,n,ho,hc,_,hd⟩,_⟩:=I.list hs
   obtain ⟨as,hr⟩:=Dp.readsAll I ds _ its ha rv
   exact ⟨_,Reads.list ho hc hd hr⟩
 | .tuple ds,_,_,h,r=>by
  cases h with
  | tup hs ha =>
   cases r
   obtain ⟨its,rv,⟨o,ho,hc,n,hd⟩,_⟩:=I.tuple hs
   obtain ⟨as,hr⟩:=Dp.readsAll I ds _ its ha rv
   exact ⟨_,Reads.tuple ho hc hd hr⟩
 | .dict _,_,_,h,_=>by cases h
theorem Dp.readsAll (I:Inv X pins σ H s):∀ (ds:List PyData) (vs:List V) (us:List Value),DpAll X.K H vs ds→Vals vs us→∃ as,ReadsAll s.heap us ds as
 | [],_,_,h,r=>by
  cases h
  cases r
  exact ⟨_,ReadsAll.nil⟩
 | d :: ds,_,_,h,r=>by
  cases h with
  | cons h1 h2 =>
   cases r with
   | cons r1 r2 =>
    obtain ⟨as,q1⟩:=Dp.reads I d _ _ h1 r1
    obtain ⟨bs,q2⟩:=Dp.readsAll I ds _ _ h2 r2
    exact ⟨_,ReadsAll.cons q1 q2⟩
end
end
section
variable {X:Cx}
noncomputable def rNeD (K:W.Frag):R2:=fun x y H Q=>∃ d e,Dp K H x d∧Dp K H y e∧SeqAt.shaped d=true∧SeqAt.shaped e=true∧Q (.bl (!PyData.eqv d e)) H
theorem op_neD (hu:X.A.units+64 < cLine):OpR X (compareOp .NotEq) (rNeD X.K):=by
 intro pins s σ H x y v u Q I rx ry h
 obtain ⟨d,e,hd,he,sd,se,q⟩:=h
 obtain ⟨as,r1⟩:=Dp.reads I d x v hd rx
 obtain ⟨bs,r2⟩:=Dp.reads I e y u he ry
 exact SeqAt.compareNe_shaped r1 r2 sd se hu ⟨.bl _,H,I,rfl,q⟩
end
end L2
namespace L2
open PySem PySem.Spec PyProof.Rows
noncomputable abbrev CellAt (h:Heap) (c:Addr) (v:Option Value):Prop:=h.IsCell c v
noncomputable def relS (scope sc:Scope):Scope :=
 { scope with names:=scope.names.map fun (n,k)=>if (k == .free && sc.kind == .function && sc.names.lookup n == some .cell) then (n,.cell) else (n,k) }
noncomputable def cloFrom (cells:List (Str×Addr)):List (Str×NameKind)→List (Str×Addr)→List (Str×Addr)
 | [],acc=>acc
 | (n,k) :: r,acc=>if k == .free then cloFrom cells r ((n,(cells.lookup n).getD 0) :: acc) else cloFrom cells r acc
theorem jcd (env:Env) (f:Str×NameKind→List (Str×Addr)→Sem (ForInStep (List (Str×Addr))))
  (hf:∀ n k c,f (n,k) c=if k == .free then (do let a ← cellOf env n; pure (.yield ((n,a) :: c))) else pure (.yield c)) :
  ∀ (names:List (Str×NameKind)) (acc:List (Str×Addr)),(∀ y ∈ names,y.2=.free→∃ c,env.cells.lookup y.1=some c)→forIn names acc f=pure (cloFrom env.cells names acc)
 | [],acc,_=>by rw [List.forIn_nil]; rfl
 | (n,k) :: r,acc,h=>by
  rw [List.forIn_cons,hf]
  have ih:=fun acc=>jcd env f hf r acc fun y hy=>h y (List.mem_cons_of_mem _ hy)
  unfold cloFrom
  by_cases hk:(k == NameKind.free)=true
  ·rw [if_pos hk,if_pos hk]
   obtain ⟨c,hc⟩:=h (n,k) List.mem_cons_self (by simpa using hk)
   have e:cellOf env n=pure c:=by unfold cellOf; rw [hc]
   rw [e]
   have e2:(env.cells.lookup n).getD 0=c:=by rw [hc]; rfl
   rw [e2]
   exact ih _
  ·rw [if_neg hk,if_neg hk]
   exact ih _
theorem closure_ok {scope:Scope} {env:Env} (h:∀ y ∈ scope.names,y.2=.free→∃ c,env.cells.lookup y.1=some c):closureFor scope env=pure (cloFrom env.cells scope.names []):=by
 simp only [closureFor]
 rw [jcd env _ (fun n k c=>rfl) scope.names [] h]
 rfl
theorem jb8 {α:Type}:∀ {l:List (Str×α)} {n:Str} {c:α},(n,c) ∈ l→∃ c',l.lookup n=some c'
 | (k,v) :: r,n,c,h=>by
  rw [List.lookup_cons]
  cases hb:n == k with
  | true=>exact ⟨_,rfl⟩
  | false =>
   rcases List.mem_cons.mp h with e | h
   ·cases e; simp at hb
   ·exact jb8 h
theorem jba {cells:List (Str×Addr)}:∀ {names:List (Str×NameKind)} {acc:List (Str×Addr)} {n:Str} {c:Addr},(n,c) ∈ cloFrom cells names acc→(n,c) ∈ acc∨((n,.free) ∈ names∧c=(cells.lookup n).getD 0)
 | [],_,_,_,h=>.inl h
 | (m,k) :: r,acc,n,c,h=>by
  unfold cloFrom at h
  split at h
  ·rename_i hk
   have hk:k=.free:=by simpa using hk
   rcases jba h with h | ⟨h1,h2⟩
   ·rcases List.mem_cons.mp h with e | h
    ·cases e; exact .inr ⟨hk ▸ List.mem_cons_self,rfl⟩
    ·exact .inl h
   ·exact .inr ⟨List.mem_cons_of_mem _ h1,h2⟩
  ·rcases jba h with h | ⟨h1,h2⟩
   ·exact .inl h
   ·exact .inr ⟨List.mem_cons_of_mem _ h1,h2⟩
theorem jbu {cells:List (Str×Addr)}:∀ {names:List (Str×NameKind)} {acc:List (Str×Addr)} {p:Str×Addr},p ∈ acc→p ∈ cloFrom cells names acc
 | [],_,_,h=>h
 | (m,k) :: r,acc,p,h=>by
  unfold cloFrom
  split
  ·exact jbu (List.mem_cons_of_mem _ h)
  ·exact jbu h
theorem jbt {cells:List (Str×Addr)}:∀ {names:List (Str×NameKind)} {acc:List (Str×Addr)} {n:Str},(n,.free) ∈ names→(n,(cells.lookup n).getD 0) ∈ cloFrom cells names acc
 | (m,k) :: r,acc,n,h=>by
  unfold cloFrom
  rcases List.mem_cons.mp h with e | h
  ·cases e
   exact jbu List.mem_cons_self
  ·split
   ·exact jbt h
   ·exact jbt h
theorem jbh:∀ {names:List (Str×NameKind)} {h:Heap} {acc:List (Str×Addr)} {x:Str} {c:Addr},(x,c) ∈ cellsFrom h.objs.size names acc →
  (x,c) ∈ acc∨((x,.cell) ∈ names∧h.objs.size≤c∧CellAt (pushCells h names) c none)
 | [],_,_,_,_,h=>.inl h
 | (n,k) :: r,h,acc,x,c,hm=>by
  unfold cellsFrom at hm
  unfold pushCells
  split at hm
  ·rename_i hk
   rw [if_pos hk]
   have hk:k=.cell:=by simpa using hk
   rw [← Heap.size_push h { cls:=.type "cell",data:=.cell none }] at hm
   rcases jbh hm with hm | ⟨h1,h2,h3⟩
   ·rcases List.mem_cons.mp hm with e | hm
    ·cases e
     exact .inr ⟨hk ▸ List.mem_cons_self,Nat.le_refl _,_,pushCells_keeps r _ _ _ (Heap.get?_push_size _ rfl),rfl⟩
    ·exact .inl hm
   ·rw [Heap.size_push] at h2
    exact .inr ⟨List.mem_cons_of_mem _ h1,Nat.le_of_succ_le h2,h3⟩
  ·rename_i hk
   rw [if_neg hk]
   rcases jbh hm with hm | ⟨h1,h2,h3⟩
   ·exact .inl hm
   ·exact .inr ⟨List.mem_cons_of_mem _ h1,h2,h3⟩
theorem jb2:∀ {names:List (Str×NameKind)} {n:Nat} {acc:List (Str×Addr)} {p:Str×Addr},p ∈ acc→p ∈ cellsFrom n names acc
 | [],_,_,_,h=>h
 | (m,k) :: r,n,acc,p,h=>by
  unfold cellsFrom
  split
  ·exact jb2 (List.mem_cons_of_mem _ h)
  ·exact jb2 h
theorem jc1:∀ {names:List (Str×NameKind)} {n:Nat} {acc:List (Str×Addr)} {x:Str},(x,.cell) ∈ names→∃ c,(x,c) ∈ cellsFrom n names acc
 | (m,k) :: r,n,acc,x,h=>by
  unfold cellsFrom
  rcases List.mem_cons.mp h with e | h
  ·cases e
   exact ⟨n,jb2 List.mem_cons_self⟩
  ·split
   ·exact jc1 h
   ·exact jc1 h
theorem jc0:∀ {names:List (Str×NameKind)} {h:Heap} {acc:List (Str×Addr)} {x y:Str} {c:Addr},(∀ p ∈ acc,p.2 < h.objs.size)→(∀ x y c,(x,c) ∈ acc→(y,c) ∈ acc→x=y) →
  (x,c) ∈ cellsFrom h.objs.size names acc→(y,c) ∈ cellsFrom h.objs.size names acc→x=y
 | [],_,_,_,_,_,_,hi,h1,h2=>hi _ _ _ h1 h2
 | (n,k) :: r,h,acc,x,y,c,hl,hi,h1,h2=>by
  unfold cellsFrom at h1 h2
  split at h1
  ·rename_i hk
   rw [if_pos hk] at h2
   rw [← Heap.size_push h { cls:=.type "cell",data:=.cell none }] at h1 h2
   refine jc0 (h:=h.push _) (fun p hp=>?_) (fun x y c a b=>?_) h1 h2
   ·rw [Heap.size_push]
    rcases List.mem_cons.mp hp with rfl | hp
    ·exact Nat.lt_succ_self _
    ·exact Nat.lt_succ_of_lt (hl p hp)
   ·rcases List.mem_cons.mp a with e | a <;> rcases List.mem_cons.mp b with e' | b
    ·cases e; cases e'; rfl
    ·cases e; exact absurd (hl _ b) (Nat.lt_irrefl _)
    ·cases e'; exact absurd (hl _ a) (Nat.lt_irrefl _)
    ·exact hi _ _ _ a b
  ·rename_i hk
   rw [if_neg hk] at h2
   exact jc0 hl hi h1 h2
theorem newEnv_comp {M:Model} {A:Around} {E:Value→Shared→Prop} {s:Shared} {scope:Scope} {globals:Addr} {closure:List (Str×Addr)} {qual:Str} {func:Option Addr} {code:Value} {around:Env} {builtins:Addr} {Q:Env→Shared→Prop}
  (h:Q (newEnv scope s.heap.objs.size globals (cellsFrom (s.heap.objs.size+1) scope.names closure) qual func code (some around) builtins)
   { s with heap:=pushCells (s.heap.push { cls:=.type "dict",data:=.dict #[] }) scope.names }) :
  wpAny M A (newFunctionEnv scope globals closure [] qual func code (some around) builtins) Q E s:=by
 simp only [newFunctionEnv,Option.isSome_some,if_true]
 refine wpAny_bind (wpAny_alloc ?_)
 refine wpAny_bind (wpAny_layCells _ (fun n k c=>rfl) scope.names closure _ _ ?_)
 rw [show ({ s with heap:=s.heap.push { cls:=.type "dict",data:=.dict #[] } }:Shared).heap.objs.size=s.heap.objs.size+1 from Heap.size_push ..]
 rw [List.forIn_nil]
 exact wpAny_bind (wpAny_pure (wpAny_pure h))
theorem jbp {sc:Scope}:∀ {names:List (Str×NameKind)} {x:Str} {k:NameKind},
  (names.map fun (n,k)=>if (k == NameKind.free && sc.kind == .function && sc.names.lookup n == some .cell) then (n,NameKind.cell) else (n,k)).lookup x=some k →
  ∃ k',names.lookup x=some k'∧(k=k'∨(k'=.free∧k=.cell))
 | [],_,_,h=>by simp at h
 | (n,k₀) :: r,x,k,h=>by
  have ih:=@jbp sc r x k
  have h':List.lookup x ((if (k₀ == NameKind.free && sc.kind == .function && sc.names.lookup n == some .cell)=true then (n,NameKind.cell) else (n,k₀)) :: (r.map _))=some k:=h
  cases hx:x == n with
  | true =>
   simp only [List.lookup_cons,hx]
   by_cases hc:(k₀ == NameKind.free && sc.kind == .function && sc.names.lookup n == some .cell)=true
   ·rw [if_pos hc] at h'
    simp only [List.lookup_cons,hx] at h'
    cases h'
    simp only [Bool.and_eq_true,beq_iff_eq] at hc
    exact ⟨k₀,rfl,.inr ⟨hc.1.1,rfl⟩⟩
   ·rw [if_neg hc] at h'
    simp only [List.lookup_cons,hx] at h'
    cases h'
    exact ⟨_,rfl,.inl rfl⟩
  | false =>
   simp only [List.lookup_cons,hx]
   by_cases hc:(k₀ == NameKind.free && sc.kind == .function && sc.names.lookup n == some .cell)=true
   ·rw [if_pos hc] at h'
    simp only [List.lookup_cons,hx] at h'
    exact ih h'
   ·rw [if_neg hc] at h'
    simp only [List.lookup_cons,hx] at h'
    exact ih h'
structure BlkOk (N:List Str) (sc scope:Scope) (own:List (Str×Nat)):Prop where
 kind:scope.kind=.function
 uniq:∀ y ∈ scope.names,scope.names.lookup y.1=some y.2
 ix:∀ p ∈ own,N[p.2]? = some p.1
 free:∀ y ∈ scope.names,y.2=.free→sc.names.lookup y.1=some .cell∨sc.names.lookup y.1=some .free
 own:∀ y ∈ scope.names,y.2=.local∨y.2=.cell→y.1 ∈ own.map (·.1)∨y.1 ∉ N
noncomputable def wipe (σ:St):List Nat→St
 | []=>σ
 | v :: vs=>(wipe σ vs).set v none
theorem jbl (σ:St):∀ vs:List Nat,(wipe σ vs).length=σ.length
 | []=>rfl
 | v :: vs=>by unfold wipe; rw [List.length_set,jbl σ vs]
theorem jcm {σ:St} {i:Nat} {x:V}:∀ {vs:List Nat},(wipe σ vs)[i]? = some (some x)→σ[i]? = some (some x)∧i ∉ vs
 | [],h=>⟨h,by simp⟩
 | v :: vs,h=>by
  unfold wipe at h
  by_cases hi:v=i
  ·subst hi
   by_cases hv:v < (wipe σ vs).length
   ·rw [List.getElem?_set_self hv] at h; cases h
   ·rw [List.getElem?_eq_none (by simpa using hv)] at h; cases h
  ·rw [List.getElem?_set_ne hi] at h
   obtain ⟨h1,h2⟩:=jcm h
   exact ⟨h1,by simp only [List.mem_cons,not_or]; exact ⟨fun e=>hi e.symm,h2⟩⟩
noncomputable abbrev Cx.blk (X:Cx) (s:Shared) (H:Hp) (scope:Scope) (cenv:Env) (fp:List Addr):Cx:={ X with s_0:=s,H_0:=H,env:=cenv,outer:=X.stack,ex:=fp,fn:=fun x=>scope.names.lookup x == some .cell,pn:=[],xe:=fun _ _=>False }
section
variable {X:Cx} {pins:List (Addr×Obj)} {σ:St} {H:Hp} {s:Shared}
theorem block_start {scope:Scope} {own:List (Str×Nat)} {fp:List Addr} (I:Inv X pins σ H s) (ok:BlkOk X.N X.env.scope scope own) (hN:X.N.Nodup) (hfp:∀ b ∈ fp,FpOk X pins H b∧b < s.heap.objs.size) :
  Inv (X.blk s H scope (compEnvC scope (cellsFrom (s.heap.objs.size+1) scope.names (cloFrom X.env.cells scope.names [])) s.heap.objs.size X.env) fp) [] (wipe σ (own.map (·.2))) H { s with heap:=pushCells (s.heap.push { cls:=.type "dict",data:=.dict #[] }) scope.names }:=by
 have hfree:∀ y ∈ scope.names,y.2=.free→∃ c,X.env.cells.lookup y.1=some c:=fun y hy e=>by
  rcases ok.free y hy e with k | k
  ·exact I.ok.has _ (.inl k)
  ·exact I.ok.has _ (.inr k)
 generalize hcenv:compEnvC scope (cellsFrom (s.heap.objs.size+1) scope.names (cloFrom X.env.cells scope.names [])) s.heap.objs.size X.env=cenv
 have kp:∀ b o,s.heap.get? b=some o→(pushCells (s.heap.push { cls:=.type "dict",data:=.dict #[] }) scope.names).get? b=some o:=fun b o e=>pushCells_keeps _ _ _ _ (Heap.get?_push_of_some _ e)
 have hL:cenv.locals=s.heap.objs.size:=by rw [← hcenv]; rfl
 have hcl:cenv.cells=cellsFrom (s.heap.objs.size+1) scope.names (cloFrom X.env.cells scope.names []):=by rw [← hcenv]; rfl
 have hsc:cenv.scope=relS scope X.env.scope:=by rw [← hcenv]; rfl
 rw [← Heap.size_push s.heap { cls:=.type "dict",data:=.dict #[] }] at hcl
 have cm:∀ {y c},(y,c) ∈ cloFrom X.env.cells scope.names []→X.env.cells.lookup y=some c∧c < s.heap.objs.size:=fun {y c} hm=>by
  rcases jba hm with hm | ⟨h1,rfl⟩
  ·cases hm
  ·obtain ⟨c,hc⟩:=hfree _ h1 rfl
   rw [hc]
   obtain ⟨w,z⟩:=I.cell _ _ hc
   exact ⟨rfl,z.lt⟩
 have mem:∀ {y c},cenv.cells.lookup y=some c→(X.env.cells.lookup y=some c∧c < s.heap.objs.size)∨(s.heap.objs.size+1≤c∧CellAt (pushCells (s.heap.push { cls:=.type "dict",data:=.dict #[] }) scope.names) c none):=fun {y c} e=>by
  rw [hcl] at e
  rcases jbh (PySem.mem_of_lookup e) with hm | ⟨_,h2,h3⟩
  ·exact .inl (cm hm)
  ·rw [Heap.size_push] at h2; exact .inr ⟨h2,h3⟩
 have look:∀ {y},scope.names.lookup y=some .free→∃ c,cenv.cells.lookup y=some c∧X.env.cells.lookup y=some c:=fun {y} hl=>by
  have hy:(y,NameKind.free) ∈ scope.names:=PySem.mem_of_lookup hl
  obtain ⟨c',e'⟩:=jb8 (jb2 (names:=scope.names) (n:=(s.heap.push { cls:=.type "dict",data:=.dict #[] }).objs.size) (jbt (cells:=X.env.cells) (acc:=[]) hy))
  rw [← hcl] at e'
  refine ⟨c',e',?_⟩
  rw [hcl] at e'
  rcases jbh (PySem.mem_of_lookup e') with hm | ⟨h1,_,_⟩
  ·exact (cm hm).1
  ·have:=ok.uniq _ h1
   rw [hl] at this; cases this
 have okB:(X.blk s H scope cenv fp).Ok:=by
  refine ⟨I.ok.mod,by show cenv.scope.kind=_; rw [hsc]; exact ok.kind,by show cenv.globals=_; rw [← hcenv]; exact I.ok.glob,by show cenv.builtins=_; rw [← hcenv]; exact I.ok.blt,by show s.heap.objs.size≤cenv.locals; rw [hL]; exact Nat.le_refl _,
   fun y z c e1 e2=>?_,fun y hy=>?_,fun y c z e=>?_,I.ok.hd,I.ok.frames,.inl rfl,fun b hb=>⟨?_,fun y c e z=>?_⟩,I.bs,Nat.le_trans I.ok.bsz I.sz,fun b o e hb=>?_,fun b hb z=>?_,I.stack,I.stkFree⟩
  ·have e1:cenv.cells.lookup y=some c:=e1
   have e2:cenv.cells.lookup z=some c:=e2
   rw [hcl] at e1 e2
   refine jc0 (fun p hp=>?_) (fun y z c a b=>I.ok.inj y z c (cm a).1 (cm b).1) (PySem.mem_of_lookup e1) (PySem.mem_of_lookup e2)
   rw [Heap.size_push]
   exact Nat.lt_succ_of_lt (cm (y:=p.1) (c:=p.2) hp).2
  ·show ∃ c,cenv.cells.lookup y=some c
   have key:∀ k,cenv.kindOf y=some k→(k=.cell∨k=.free)→∃ c,cenv.cells.lookup y=some c:=fun k hk hk'=>by
    unfold Env.kindOf at hk
    rw [hsc] at hk
    obtain ⟨k',e,r⟩:=jbp hk
    have:k'=.cell∨k'=.free:=by
     rcases r with rfl | ⟨rfl,_⟩
     ·exact hk'
     ·exact .inr rfl
    rcases this with rfl | rfl
    ·obtain ⟨c,hm⟩:=jc1 (n:=(s.heap.push { cls:=.type "dict",data:=.dict #[] }).objs.size) (acc:=cloFrom X.env.cells scope.names []) (PySem.mem_of_lookup e)
     obtain ⟨c',e'⟩:=jb8 hm
     exact ⟨c',by rw [hcl]; exact e'⟩
    ·obtain ⟨c,h1,_⟩:=look e
     exact ⟨c,h1⟩
   rcases hy with hy | hy
   ·exact key _ hy (.inl rfl)
   ·exact key _ hy (.inr rfl)
  ·have z:(scope.names.lookup y == some NameKind.cell)=true:=z
   have z:scope.names.lookup y=some .cell:=by simpa using z
   have e:cenv.cells.lookup y=some c:=e
   rw [hcl] at e
   rcases jbh (PySem.mem_of_lookup e) with hm | ⟨_,h2,_⟩
   ·rcases jba hm with hm | ⟨h1,_⟩
    ·cases hm
    ·have q:=ok.uniq _ h1
     rw [z] at q; cases q
   ·rw [Heap.size_push] at h2
    exact Nat.le_of_succ_le h2
  ·show b≠cenv.locals
   rw [hL]; exact Nat.ne_of_lt (hfp b hb).2
  ·have e:cenv.cells.lookup y=some c:=e
   rcases mem e with ⟨h1,_⟩ | ⟨h1,_⟩
   ·exact (hfp b hb).1.2.2.2.2.1 y c h1 z
   ·have h2:s.heap.objs.size+1≤b:=by rw [← z]; exact h1
    exact absurd (Nat.lt_of_lt_of_le (hfp b hb).2 (Nat.le_of_succ_le h2)) (Nat.lt_irrefl _)
  ·rcases (hfp b hb).1.2.2.2.1 with z | z
   ·exact I.ok.noex b o e z
   ·exact absurd (Nat.lt_of_lt_of_le (Heap.lt_size e) (Nat.le_trans I.ok.bsz z)) (Nat.lt_irrefl _)
  ·rcases List.mem_cons.mp (I.stkSub b z) with z | z
   ·exact (hfp b hb).1.2.1 z
   ·exact (hfp b hb).1.2.2.1 z
 refine ⟨okB,rfl,I.bare,Un.kept kp,⟨fun _=>none,?_,fun i y av e1 e2 e3=>?_⟩,fun y c e=>?_,?_,fun y c e=>?_,fun p hp=>?_,I.hok.kept kp,by rw [jbl]; exact I.len⟩
 ·show Heap.Ns _ cenv.locals _
  rw [hL]
  exact Heap.Ns.keeps (Heap.Ns.new ..) fun b o e=>pushCells_keeps _ _ _ _ e
 ·obtain ⟨e2,hne⟩:=jcm e2
  have hfr:scope.names.lookup y=some .free∧(cenv.kindOf y=some .cell∨cenv.kindOf y=some .free):=by
   have key:∀ k,cenv.scope.names.lookup y=some k→k=.local∨k=.cell∨k=.free→scope.names.lookup y=some .free∧(cenv.kindOf y=some .cell∨cenv.kindOf y=some .free):=fun k hk hk'=>by
    have hk0:=hk
    rw [hsc] at hk
    obtain ⟨k',e,r⟩:=jbp hk
    have no:¬ (k'=.local∨k'=.cell):=fun hh=>by
     rcases ok.own _ (PySem.mem_of_lookup e) hh with e' | e'
     ·obtain ⟨p,hp,hpy⟩:=List.mem_map.mp e'
      have e3:=ok.ix p hp
      have:p.1=y:=hpy
      rw [this] at e3
      exact hne (List.mem_map.mpr ⟨p,hp,nodup_ix hN e3 e1⟩)
     ·exact e' (List.mem_of_getElem? e1)
    rcases r with rfl | ⟨rfl,rfl⟩
    ·rcases hk' with rfl | rfl | rfl
     ·exact absurd (.inl rfl) no
     ·exact absurd (.inr rfl) no
     ·exact ⟨e,.inr hk0⟩
    ·exact ⟨e,.inl hk0⟩
   have e3:Vis cenv.scope y:=e3
   rcases e3 with e3 | e3 | e3
   ·exact key _ e3 (.inl rfl)
   ·exact key _ e3 (.inr (.inl rfl))
   ·exact key _ e3 (.inr (.inr rfl))
  obtain ⟨m,hn,hl⟩:=I.loc
  have hvis:Vis X.env.scope y:=(ok.free _ (PySem.mem_of_lookup hfr.1) rfl).elim (fun k=>.inr (.inl k)) (fun k=>.inr (.inr k))
  obtain ⟨w,r,q⟩:=hl i y av e1 e2 hvis
  refine ⟨w,r,.inr ⟨hfr.2,?_⟩⟩
  obtain ⟨c,h1,h2⟩:=look hfr.1
  rcases q with ⟨k,_⟩ | ⟨_,c',e',z⟩
  ·have k:X.env.scope.names.lookup y=some .local:=k
   rcases ok.free _ (PySem.mem_of_lookup hfr.1) rfl with k' | k' <;> rw [show X.env.scope.names.lookup y=_ from k'] at k <;> cases k
  ·rw [h2] at e'; cases e'
   exact ⟨c,h1,z.keeps kp⟩
 ·have e:cenv.cells.lookup y=some c:=e
  rcases mem e with ⟨h1,_⟩ | ⟨_,z⟩
  ·obtain ⟨w,z⟩:=I.cell y c h1
   exact ⟨w,z.keeps kp⟩
  ·exact ⟨_,z⟩
 ·show H cenv.locals=none
  rw [hL]; exact I.hok.fresh (Nat.le_refl _)
 ·have e:cenv.cells.lookup y=some c:=e
  rcases mem e with ⟨h1,_⟩ | ⟨h1,_⟩
  ·exact I.freeC y c h1
  ·exact I.hok.fresh (Nat.le_of_succ_le h1)
 ·exact absurd (show p ∈ ([]:List (Addr×Obj)) ++ [] from hp) (by simp)
theorem app_ok {E:Value→Shared→Prop} {D:Addr} {xs:List V} {y:V} {v:Value} {Q:Value→Shared→Prop} (I:Inv X pins σ H s) (hD:H D=some (.lst xs)) (hz:xs.length < sizeLine) (r:RelV y v)
  (h:∀ s',Inv X pins σ (upd H D (.lst (xs ++ [y]))) s'→Q .none s'):wpAny (model X.prog X.w) X.A (call (.builtin "list.append") [.ref D,v]) Q E s:=by
 obtain ⟨hz',its,n,ri,e⟩:=I.hok D _ hD
 have hl:=ri.length
 refine append_at (hsz:=by rw [List.size_toArray]; omega) e fun h' sb ho'=>?_
 refine h { s with heap:=h' } (I.write (t':=s.toks) (by rw [hD]; trivial) (.inl rfl) (fun b u hb q=>(sb.2 b hb).trans q) ⟨_,ho'⟩ ⟨by rw [List.length_append]; exact hz,its ++ [v],n+1,ri.append (.cons r .nil),?_⟩)
 rw [ho']
 simp
noncomputable def PTs (X:Cx) (ifs:List Expr) (t:TT):Prop :=
 ∀ (pins:List (Addr×Obj)) (s:Shared) (σ:St) (H:Hp) (Q:Bool→Hp→Prop),Inv X pins σ H s→t σ H Q →
  wpAny (model X.prog X.w) X.A (forIn ifs true fun c r=>if r=true then do let ok ← isTrue c X.env (eval c X.env); pure (ForInStep.yield ok) else pure (ForInStep.yield r)) (TP X pins σ Q) X.xe s
noncomputable def tYes:TT:=fun _ H Q=>Q true H
theorem pts_nil:PTs X [] tYes:=fun _ _ _ H _ I h=>wpAny_tests_nil ⟨H,I,h⟩
theorem pts_one {c:Expr} {t:TT} (h:PT X c t):PTs X [c] t:=fun pins s σ H Q I hw=>wpAny_tests_one (h pins s σ H Q I hw)
end
theorem thnF {α:Type} {t:Sem α} {Q Q':α→Shared→Prop} {M:Model} {A:Around} {E:Value→Shared→Prop} {s:Shared} (h:wpAny M A t Q (fun _ _=>False) s) (hQ:∀ a s,Q a s→Q' a s):wpAny M A t Q' E s:=wpAny_mono h hQ fun _ _ z=>False.elim z
theorem compLoop_any {prog:Program} {w:World} {A:Around} {R:Result→Shared→Prop} {s:Shared} {elt target iter:Expr} {ifs:List Expr} {scope:Scope} {pos:Pos} {it acc:Value} {env:Env} (I:Nat→Shared→Prop)
  (turn:∀ n s,I n s→wpAny (model prog w) A (pyNext it) (fun r s₁=>match r with
   | none=>R (.ok .next) s₁
   | some v=>wpAny (model prog w) A (letOwnedTupleGo target it v) (fun _ s₁'=>wpAny (model prog w) A (assign target env v) (fun _ s₂ =>
     wpAny (model prog w) A (forIn ifs true fun c r=>if r=true then do let ok ← isTrue c env (eval c env); pure (ForInStep.yield ok) else pure (ForInStep.yield r)) (fun ok s₃ =>
      if ok=true then wpAny (model prog w) A (eval elt env) (fun x s₄ =>
       wpAny (model prog w) A (call (.builtin "list.append") [acc,x]) (fun _ s₅=>∃ m,m < n∧I m s₅) (notedBy (model prog w) A env fun e s'=>R (.error e) s') s₄) (notedBy (model prog w) A env fun e s'=>R (.error e) s') s₃
      else ∃ m,m < n∧I m s₃) (notedBy (model prog w) A env fun e s'=>R (.error e) s') s₂) (notedBy (model prog w) A env fun e s'=>R (.error e) s') s₁') (notedBy (model prog w) A env fun e s'=>R (.error e) s') s₁) (notedBy (model prog w) A env fun e s'=>R (.error e) s') s)
  (n:Nat) (h:I n s) :
  codeAny (model prog w) A (.compLoop (.ListComp elt [⟨target,iter,ifs,0⟩] scope pos) 0 it acc env) R s:=by
 refine codeAny_loop rfl I (fun n s hI=>?_) n h
 show wpAny _ A ((compTurn (.ListComp elt [⟨target,iter,ifs,0⟩] scope pos) 0 it acc env).onRaise (fun x=>do noteFrame x env; theTreesLotGoes x)) _ _ s
 refine wpAny_noted ?_
 rw [compTurn_list]
 refine wpAny_bind (wpAny_standAt (wpAny_bind (wpAny_mono (turn n s hI) (fun r s₁ h₁=>?_) fun _ _ h'=>h')))
 cases r with
 | none=>exact wpAny_pure h₁
 | some v =>
  refine wpAny_bind (wpAny_mono h₁ (fun _ s₁' h₁'=>?_) fun _ _ h'=>h')
  refine wpAny_bind (wpAny_mono h₁' (fun _ s₂ h₂=>wpAny_bind (wpAny_mono h₂ (fun ok s₃ h₃=>?_) fun _ _ h'=>h')) fun _ _ h'=>h')
  cases ok with
  | false=>exact wpAny_pure ⟨rfl,h₃⟩
  | true =>
   exact wpAny_bind (wpAny_bind (wpAny_mono h₃ (fun x s₄ h₄=>wpAny_bind (wpAny_mono h₄ (fun _ s₅ h₅=>wpAny_pure (wpAny_pure ⟨rfl,h₅⟩)) fun _ _ h'=>h')) fun _ _ h'=>h'))
section
variable {X:Cx}
noncomputable abbrev lcP (J:It) (g:TG) (tt:TT) (te:TE) (vs:List Nat) (σ:St) (H1:Hp) (Q:VK) (D:Addr):Prop:=∃ W:Nat→Nat→Hp→Prop,(∃ m,W 0 m (upd H1 D (.lst [])))∧∀ i m H,W i m H →
 (J.stop i H∧Q (.ref D) H)∨(J.go i H∧∃ Nx:Hp→Prop,(∀ H',Nx H'→∃ m',m' < m∧W (i+1) m' H')∧∀ x H',J.yld i H x H'→g x (wipe σ vs) H' fun σ2 H2=>wipe σ2 vs=wipe σ vs∧tt σ2 H2 fun b H3 =>
  if b=true then te σ2 H3 fun y H4=>∃ acc,H4 D=some (.lst acc)∧acc.length < sizeLine∧Nx (upd H4 D (.lst (acc ++ [y]))) else Nx H3)
noncomputable def tLc (wi:TI) (g:TG) (tt:TT) (te:TE) (vs:List Nat):TE:=fun σ H Q=>wi σ H fun J H1=>∀ D,H1 D=none→lcP J g tt te vs σ H1 Q D
theorem lc_core {pins:List (Addr×Obj)} {s:Shared} {σ:St} {H:Hp} {Q:VK} {elt tg iter:Expr} {ifs:List Expr} {scope:Scope} {own:List (Str×Nat)} {pos pos':Pos} {wi:TI} {g:TG} {tt:TT} {te:TE} {use:Option (Value→Sem Unit)} {Qf:Value→Shared→Prop}
  (hc:X.calm=true) (hN:X.N.Nodup) (I:Inv X pins σ H s) (hi:PI X tg iter wi) (ok:BlkOk X.N X.env.scope scope own)
  (hg:∀ (s:Shared) (H:Hp) (C:Addr) (cl:List (Str×Addr)) (fp:List Addr),PG (X.blk s H scope (compEnvC scope cl C X.env) fp) tg g) (ht:∀ (s:Shared) (H:Hp) (C:Addr) (cl:List (Str×Addr)) (fp:List Addr),PTs (X.blk s H scope (compEnvC scope cl C X.env) fp) ifs tt)
  (he:∀ (s:Shared) (H:Hp) (C:Addr) (cl:List (Str×Addr)) (fp:List Addr),PE (X.blk s H scope (compEnvC scope cl C X.env) fp) elt te) (hs:∀ x,foldedSetIterable iter X.env x=pure x)
  (h:tLc wi g tt te (own.map (·.2)) σ H Q)
  (hRR:∀ D C s' m H',Inv X pins σ H' s'→Q (.ref D) H'→s'.heap.Ns C m→FpOk X pins H' C→compPost (model X.prog X.w) X.A X.xe use Qf (.ref D) C (.ok .next) s') :
  wpAny (model X.prog X.w) X.A (comprehension (.ListComp elt [⟨tg,iter,ifs,0⟩] scope pos) scope X.env pos' (newList []) false (eval iter X.env) use) Qf X.xe s:=by
 have hfree:∀ y ∈ scope.names,y.2=.free→∃ c,X.env.cells.lookup y.1=some c:=fun y hy e=>by
  rcases ok.free y hy e with k | k
  ·exact I.ok.has _ (.inl k)
  ·exact I.ok.has _ (.inr k)
 refine wpAny_comprehension_free (use:=use) rfl hs (closure_ok hfree) ok.kind (fun y hy e=>by rw [ok.uniq y hy,e])
  (thn (hi pins s σ H _ I h) fun xv s1 hx=>thn hx fun itv s2 h2=>?_)
 obtain ⟨it,fp,tn,J,H2,e,I2,T,st2,f2,q⟩:=h2
 subst e
 refine wpAny_newObj_type (newEnv_comp ?_) (by show 0≤sizeLine; decide)
 generalize hD:s2.heap.objs.size=D
 have hDn:H2 D=none:=I2.hok.fresh (Nat.le_of_eq hD)
 obtain ⟨W,⟨m0,w0⟩,turn⟩:=q D hDn
 generalize hs3:({ s2 with heap:=s2.heap.push { cls:=.type "list",data:=.seq ([]:List Value).toArray } }:Shared)=s3
 have I3:Inv X pins σ (upd H2 D (.lst [])) s3:=by
  rw [← hs3]
  refine I2.laid (t':=s2.toks) (fun b o e=>Heap.get?_push_of_some _ e) (Nat.le_of_eq hD) ⟨Nat.zero_le _,[],0,.nil,?_⟩
  rw [← hD]
  exact Heap.get?_push_size _ rfl
 have h3:s3.heap=s2.heap.push { cls:=.type "list",data:=.seq ([]:List Value).toArray }:=by rw [← hs3]
 have sz:∀ b ∈ fp,b < s2.heap.objs.size:=fun b hb=>by
  obtain ⟨o,e,_⟩:=T.obj _ _ st2 b hb
  exact Heap.lt_size e
 have f3:∀ b ∈ fp,FpOk X pins (upd H2 D (.lst [])) b∧b < s3.heap.objs.size:=fun b hb=>by
  have hlt:=sz b hb
  refine ⟨⟨?_,(f2 b hb).2⟩,by rw [h3,Heap.size_push]; exact Nat.lt_succ_of_lt hlt⟩
  rw [upd_ne (by rw [← hD]; exact Nat.ne_of_lt hlt)]
  exact (f2 b hb).1
 have st3:tn 0 s3.heap:=T.keep _ _ _ st2 fun b _ o e=>by rw [h3]; exact Heap.get?_push_of_some _ e
 have I4:=block_start I3 ok hN f3
 have pg:=hg s3 (upd H2 D (.lst [])) s3.heap.objs.size (cellsFrom (s3.heap.objs.size+1) scope.names (cloFrom X.env.cells scope.names [])) fp
 have pt:=ht s3 (upd H2 D (.lst [])) s3.heap.objs.size (cellsFrom (s3.heap.objs.size+1) scope.names (cloFrom X.env.cells scope.names [])) fp
 have pe:=he s3 (upd H2 D (.lst [])) s3.heap.objs.size (cellsFrom (s3.heap.objs.size+1) scope.names (cloFrom X.env.cells scope.names [])) fp
 show codeAny _ _ (.compStart (.ListComp elt [⟨tg,iter,ifs,0⟩] scope pos) 0 (.ref it) (.ref D) (compEnvC scope (cellsFrom (s3.heap.objs.size+1) scope.names (cloFrom X.env.cells scope.names [])) s3.heap.objs.size X.env)) (compPost (model X.prog X.w) X.A X.xe use Qf (.ref D) s3.heap.objs.size) { s3 with heap:=pushCells (s3.heap.push { cls:=.type "dict",data:=.dict #[] }) scope.names }
 have nfp:∀ b ∈ fp,(upd H2 D (.lst [])) b=none:=fun b hb=>(f3 b hb).1.1
 generalize hce:compEnvC scope (cellsFrom (s3.heap.objs.size+1) scope.names (cloFrom X.env.cells scope.names [])) s3.heap.objs.size X.env=ce at I4 pg pt pe ⊢
 have cL:ce.locals=s3.heap.objs.size:=by subst hce; rfl
 generalize hH3:upd H2 D (.lst [])=H3 at I3 I4 pg pt pe w0 nfp f3
 generalize hs4:({ s3 with heap:=pushCells (s3.heap.push { cls:=.type "dict",data:=.dict #[] }) scope.names }:Shared)=s4 at I4 ⊢
 have st4:tn 0 s4.heap:=T.keep _ _ _ st3 fun b _ o e=>by rw [← hs4]; exact pushCells_keeps _ _ _ _ (Heap.get?_push_of_some _ e)
 have stat:∀ {σ':St} {H':Hp} {s':Shared},Inv (X.blk s3 H3 scope ce fp) [] σ' H' s'→(∀ b ∈ fp,H' b=none)→∀ b ∈ fp,FpOk (X.blk s3 H3 scope ce fp) [] H' b:=fun {σ' H' s'} I' hn b hb =>
  ⟨hn b hb,(I'.ok.exf b hb).1,I'.ok.exfs b hb,.inl hb,fun x c e=>(I'.ok.exf b hb).2 x c e,fun p hp=>absurd (show p ∈ ([]:List (Addr×Obj)) ++ [] from hp) (by simp)⟩
 have loop:codeAny (model X.prog X.w) X.A (.compLoop (.ListComp elt [⟨tg,iter,ifs,0⟩] scope pos) 0 (.ref it) (.ref D) ce) (compPost (model X.prog X.w) X.A X.xe use Qf (.ref D) s3.heap.objs.size) s4:=by
  refine compLoop_any (fun n s'=>∃ i H',Inv (X.blk s3 H3 scope ce fp) [] (wipe σ (own.map (·.2))) H' s'∧tn i s'.heap∧(∀ b ∈ fp,H' b=none)∧W i n H') ?_ m0 ⟨0,H3,I4,st4,nfp,w0⟩
  rintro n s5 ⟨i,H5,I5,st5,n5,w5⟩
  rcases turn i n H5 w5 with ⟨stop,qq⟩ | ⟨go,Nx,hNx,step⟩
  ·have td:=T.done (X.blk s3 H3 scope ce fp) rfl rfl rfl hc i [] s5 _ H5 (fun _ _=>False) I5 (stat I5 n5) st5 stop
   refine thnF td fun r s6 ⟨hr,I6⟩=>?_
   subst hr
   have I7:Inv X pins σ H5 s6:=I3.call' (ch:=fp) I6.os I6.base I6.hok I6.bare fun b hb=>⟨(f3 b hb).1.2.2.2.1,(f3 b hb).1.2.1,(f3 b hb).1.2.2.2.2.1,(f3 b hb).1.2.2.2.2.2⟩
   have nC:H5 s3.heap.objs.size=none:=by
    have z:H5 ce.locals=none:=I6.free
    rw [cL] at z
    exact z
   obtain ⟨m,hn,_⟩:=I6.loc
   have hn:s6.heap.Ns ce.locals m:=hn
   rw [cL] at hn
   exact hRR D s3.heap.objs.size s6 m H5 I7 qq hn (I3.fpOk (Nat.le_refl _) nC)
  ·have ti:=T.item (X.blk s3 H3 scope ce fp) rfl rfl rfl hc i [] s5 _ H5 (fun _ _=>False) I5 (stat I5 n5) st5 go
   refine thnF ti fun r s6 ⟨u,hr,h6⟩=>?_
   subst hr
   refine thnF h6 fun _ s7 ⟨x,H7,I7,r7,y7,st7,n7⟩=>?_
   have I7':=I7.pinned (stat I7 n7) (T.obj _ _ st7)
   refine thnF (pg _ s7 _ H7 x u _ I7' r7 (step x H7 y7)) fun _ s8 ⟨σ8,H8,I8,hw8,q8⟩=>?_
   refine thnF (pt _ s8 σ8 H8 _ I8 q8) fun b s9 ⟨H9,I9,q9⟩=>?_
   have fin:∀ {s':Shared} {H':Hp},Inv (X.blk s3 H3 scope ce fp) ([] ++ pinsAt fp s7.heap) σ8 H' s'→Nx H'→∃ m,m < n∧∃ i H',Inv (X.blk s3 H3 scope ce fp) [] (wipe σ (own.map (·.2))) H' s'∧tn i s'.heap∧(∀ b ∈ fp,H' b=none)∧W i m H':=fun {s' H'} I' nx=>by
    obtain ⟨m',hm,w'⟩:=hNx H' nx
    have pin':∀ b ∈ fp,∀ o,s7.heap.get? b=some o→s'.heap.get? b=some o∧H' b=none:=fun b hb o e =>
     let z:=I'.pin (b,o) (List.mem_append_right _ (List.mem_append_right _ (jb7 hb e)))
     ⟨z.1,z.2.1⟩
    have hl:(wipe σ (own.map (·.2))).length=σ8.length:=by rw [← hw8,jbl]
    refine ⟨m',hm,i+1,H',(I'.unpinned (pins:=[])).weak hl (fun j v e=>?_),T.keep _ _ _ st7 fun b hb o e=>(pin' b hb o e).1,fun b hb=>?_,w'⟩
    ·rw [← hw8] at e
     exact (jcm e).1
    ·obtain ⟨o,e,_⟩:=T.obj _ _ st7 b hb
     exact (pin' b hb o e).2
   cases b with
   | false =>
    simp only [Bool.false_eq_true,if_false] at q9 ⊢
    exact fin I9 q9
   | true =>
    simp only [if_true] at q9 ⊢
    refine thnF (pe _ s9 σ8 H9 _ I9 q9) fun z s10 ⟨yv,H10,I10,r10,acc,hD10,hz10,nx⟩=>?_
    exact app_ok (X:=X.blk s3 H3 scope ce fp) I10 hD10 hz10 r10 fun s11 I11=>fin I11 nx
 exact codeAny_compStart_list loop (T.self X.A 0 _ _ _ st4 loop)
theorem pe_lc {elt tg iter:Expr} {ifs:List Expr} {scope:Scope} {own:List (Str×Nat)} {pos:Pos} {wi:TI} {g:TG} {tt:TT} {te:TE} (hc:X.calm=true) (hN:X.N.Nodup) (hi:PI X tg iter wi) (ok:BlkOk X.N X.env.scope scope own)
  (hg:∀ (s:Shared) (H:Hp) (C:Addr) (cl:List (Str×Addr)) (fp:List Addr),PG (X.blk s H scope (compEnvC scope cl C X.env) fp) tg g) (ht:∀ (s:Shared) (H:Hp) (C:Addr) (cl:List (Str×Addr)) (fp:List Addr),PTs (X.blk s H scope (compEnvC scope cl C X.env) fp) ifs tt)
  (he:∀ (s:Shared) (H:Hp) (C:Addr) (cl:List (Str×Addr)) (fp:List Addr),PE (X.blk s H scope (compEnvC scope cl C X.env) fp) elt te) (hs:∀ x,foldedSetIterable iter X.env x=pure x:=by intro _; rfl) :
  PE X (.ListComp elt [⟨tg,iter,ifs,0⟩] scope pos) (tLc wi g tt te (own.map (·.2))):=by
 intro pins s σ H Q I h
 rw [eval_ListComp]
 refine lc_core hc hN I hi ok hg ht he hs h fun D C s' m H' I' q hn f=>⟨m,hn,fun h'' sb=>?_⟩
 obtain ⟨f0,f1,f2,f3,f4,f5⟩:=f
 exact ⟨.ref D,H',I'.turned (t':=s'.toks) (fun b o hb e=>(sb.2 b hb).trans e) f0 f1 f3 f4 f5,rfl,q⟩
theorem ps_setLc {i:Nat} {y:Str} {py:Pos} {elt tg iter:Expr} {ifs:List Expr} {scope:Scope} {own:List (Str×Nat)} {pos spos:Pos} {wi:TI} {g:TG} {tt:TT} {te:TE} (hc:X.calm=true) (hN:X.N.Nodup) (hy:X.N[i]? = some y) (hyl:X.env.scope.names.lookup y=some .local)
  (hsw:swapsWith (.ListComp elt [⟨tg,iter,ifs,0⟩] scope pos) (some (.Name y py)) spos.line X.env=pure true) (hi:PI X tg iter wi) (ok:BlkOk X.N X.env.scope scope own)
  (hg:∀ (s:Shared) (H:Hp) (C:Addr) (cl:List (Str×Addr)) (fp:List Addr),PG (X.blk s H scope (compEnvC scope cl C X.env) fp) tg g) (ht:∀ (s:Shared) (H:Hp) (C:Addr) (cl:List (Str×Addr)) (fp:List Addr),PTs (X.blk s H scope (compEnvC scope cl C X.env) fp) ifs tt)
  (he:∀ (s:Shared) (H:Hp) (C:Addr) (cl:List (Str×Addr)) (fp:List Addr),PE (X.blk s H scope (compEnvC scope cl C X.env) fp) elt te) (hs:∀ x,foldedSetIterable iter X.env x=pure x) :
  PS X (.Assign [.Name y py] (.ListComp elt [⟨tg,iter,ifs,0⟩] scope pos) spos) (tAsg (tLc wi g tt te (own.map (·.2))) (gName i)):=by
 intro pins s σ H D I h
 rw [exec_Assign_Name_used _ _ _ _ hsw]
 refine wpAny_bind (wpAny_standAt (wpAny_bind ?_))
 show wpAny _ X.A (do let _ ← comprehension (.ListComp elt [⟨tg,iter,ifs,0⟩] scope pos) scope X.env (firstIterPos [⟨tg,iter,ifs,0⟩] pos) (newList []) false (eval iter X.env) (some (assign (.Name y py) X.env))) _ _ s
 have h:tLc wi g tt te (own.map (·.2)) σ H (fun x H1=>gName i x σ H1 D.nx):=h
 refine wpAny_bind (thn (lc_core (Qf:=fun _ s'=>SP X pins D .next s') hc hN I hi ok hg ht he hs h fun L C s' m H' I' q hn f=>?_) fun _ s' hq=>wpAny_pure (wpAny_pure hq))
 show wpAny _ _ (assign (.Name y py) X.env (.ref L)) _ _ _
 refine wpAny_assign_Name (store_ok2 (v:=V.ref L) I' hN hy (.inl hyl) rfl (fun s2 I2 ⟨a,sb,ha⟩=>?_) (.inr hyl))
 obtain ⟨f0,f1,f2,f3,f4,f5⟩:=f
 have haC:C≠a:=by
  rcases ha with z | z
  ·rw [z]; exact f1
  ·exact fun e=>f4 y a z e.symm
 refine ⟨m,hn.sameBut sb haC,fun h3 sb3=>?_⟩
 exact ⟨_,H',I2.turned (t':=s2.toks) (fun b o hb e=>(sb3.2 b hb).trans e) f0 f1 f3 f4 f5,q⟩
theorem sw_true {elt:Expr} {gs:List Comprehension} {scope:Scope} {pos py:Pos} {y:Str} {l:Nat} {env:Env} (hk:env.scope.kind=.function) (hy:env.scope.names.lookup y=some .local) (hl:(py.line == pos.line)=true)
  (ha:(scope.names.any fun (n,k)=>n == y && (k == .local || k == .cell))=false):swapsWith (.ListComp elt gs scope pos) (some (.Name y py)) l env=pure true:=by
 have ky:env.kindOf y=some .local:=hy
 have hb:env.blockKind=.function:=by unfold Env.blockKind; rw [hk]; rfl
 unfold swapsWith
 unfold Expr.pos
 simp only [hb,ky,ha,hl]
 rfl
end
noncomputable def blkC (N:List Str) (sc scope:Scope) (own:List (Str×Nat)):Bool :=
 (match scope.kind with | .function=>true | _=>false) && (scope.names.all fun y=>decide (scope.names.lookup y.1=some y.2)) && (own.all fun p=>decide (N[p.2]? = some p.1)) &&
  (scope.names.all fun y=>match y.2 with
   | .free=>(match sc.names.lookup y.1 with | some .cell=>true | some .free=>true | _=>false)
   | .local=>decide (y.1 ∈ own.map (·.1)) || decide (y.1 ∉ N)
   | .cell=>decide (y.1 ∈ own.map (·.1)) || decide (y.1 ∉ N)
   | _=>true)
theorem blkOk_by {N:List Str} {sc scope:Scope} {own:List (Str×Nat)} (h:blkC N sc scope own=true):BlkOk N sc scope own:=by
 unfold blkC at h
 simp only [Bool.and_eq_true,List.all_eq_true,decide_eq_true_eq] at h
 obtain ⟨⟨⟨h1,h2⟩,h3⟩,h4⟩:=h
 refine ⟨?_,h2,h3,fun y hy e=>?_,fun y hy e=>?_⟩
 ·split at h1
  ·assumption
  ·cases h1
 ·have q:=h4 y hy
  simp only [e] at q
  split at q <;> first | exact .inl (by assumption) | exact .inr (by assumption) | cases q
 ·have q:=h4 y hy
  rcases e with e | e <;> (simp only [e,Bool.or_eq_true,decide_eq_true_eq] at q; exact q)
end L2
namespace L2
open PySem PySem.Spec PyProof.Rows
section
variable {prog:Program} {w:World} {A:Around} {R:Result→Shared→Prop} {s:Shared} {elt t0 i0 t1 i1:Expr} {ifs0 ifs1:List Expr} {scope:Scope} {pos:Pos} {it acc:Value} {env:Env}
end
section
variable {X:Cx}
end
end L2
namespace L2
open PySem PySem.Spec PyProof.Rows
section
variable {κ:Type} [DecidableEq κ]
noncomputable def valV (kvs:List (κ×V)) (k:κ):Option V:=(kvs.find? fun kv=>decide (kv.1=k)).map (·.2)
noncomputable def putK (kvs:List (κ×V)) (k:κ) (v:V):List (κ×V) :=
 if (kvs.any fun kv=>decide (kv.1=k))=true then kvs.map (fun kv=>if kv.1=k then (kv.1,v) else kv) else kvs ++ [(k,v)]
noncomputable def dropK (kvs:List (κ×V)) (k:κ):List (κ×V):=kvs.filter fun kv=>decide (kv.1≠k)
theorem valV_pos {p:κ×V} {r:List (κ×V)} {k:κ} (e:p.1=k):valV (p :: r) k=some p.2:=by simp [valV,List.find?_cons,e]
theorem valV_neg {p:κ×V} {r:List (κ×V)} {k:κ} (e:¬ p.1=k):valV (p :: r) k=valV r k:=by simp [valV,List.find?_cons,e]
theorem jcf (k:κ):∀ kvs:List (κ×V),(kvs.any fun kv=>decide (kv.1=k))=(valV kvs k).isSome
 | []=>rfl
 | p :: r=>by
  rw [List.any_cons]
  by_cases e:p.1=k
  ·simp only [valV_pos e,decide_eq_true e,Bool.true_or,Option.isSome_some]
  ·rw [valV_neg e,decide_eq_false e,Bool.false_or]; exact jcf k r
theorem jcu (kvs:List (κ×V)) (k:κ) (v:V):(putK kvs k v).length≤kvs.length+1:=by
 unfold putK
 split
 ·rw [List.length_map]; omega
 ·rw [List.length_append,List.length_cons,List.length_nil]; omega
theorem putK_new {kvs:List (κ×V)} {k:κ} (v:V) (h:valV kvs k=none):putK kvs k v=kvs ++ [(k,v)]:=by
 unfold putK
 rw [jcf,h]
 exact if_neg (by decide)
theorem RelO.isSome_eq {o:Option V} {u:Option Value} (r:RelO o u):o.isSome=u.isSome:=by
 cases o with
 | none=>cases u with
  | none=>rfl
  | some _=>exact (show False from r).elim
 | some _=>cases u with
  | none=>exact (show False from r).elim
  | some _=>rfl
theorem RelO.getD {o:Option V} {u:Option Value} {d:V} {d':Value} (r:RelO o u) (rd:RelV d d'):RelV (o.getD d) (u.getD d'):=by
 cases o with
 | none=>cases u with
  | none=>exact rd
  | some _=>exact (show False from r).elim
 | some _=>cases u with
  | none=>exact (show False from r).elim
  | some _=>exact r
theorem KV.val {kvs:List (κ×V)} {vs:List (κ×Value)} (r:KV kvs vs) (k:κ):RelO (valV kvs k) (valueAt vs k):=by
 unfold KV at r
 induction r with
 | nil=>exact True.intro
 | @cons p q ps qs h t ih =>
  obtain ⟨h1,h2⟩:=h
  by_cases e:p.1=k
  ·have e':q.1=k:=h1.symm.trans e
   have b:valueAt (q :: qs) k=some q.2:=by simp [valueAt,List.find?_cons,e']
   rw [valV_pos e,b]; exact h2
  ·have e':¬ q.1=k:=fun z=>e (h1.trans z)
   have b:valueAt (q :: qs) k=valueAt qs k:=by simp [valueAt,List.find?_cons,e']
   rw [valV_neg e,b]; exact ih
theorem KV.any {kvs:List (κ×V)} {vs:List (κ×Value)} (r:KV kvs vs) (k:κ):(kvs.any fun kv=>decide (kv.1=k))=vs.any fun kv=>decide (kv.1=k):=by
 unfold KV at r
 induction r with
 | nil=>rfl
 | cons h t ih=>rw [List.any_cons,List.any_cons,ih,h.1]
theorem KV.repl {kvs:List (κ×V)} {vs:List (κ×Value)} (r:KV kvs vs) (k:κ) {y:V} {u:Value} (ry:RelV y u) :
  KV (kvs.map fun kv=>if kv.1=k then (kv.1,y) else kv) (vs.map fun kv=>if kv.1=k then (kv.1,u) else kv):=by
 unfold KV at r ⊢
 induction r with
 | nil=>exact .nil
 | @cons p q ps qs h t ih =>
  rw [List.map_cons,List.map_cons]
  refine .cons ?_ ih
  obtain ⟨h1,h2⟩:=h
  by_cases e:p.1=k
  ·rw [if_pos e,if_pos (h1.symm.trans e)]; exact ⟨h1,ry⟩
  ·rw [if_neg e,if_neg (fun z=>e (h1.trans z))]; exact ⟨h1,h2⟩
theorem KV.put {kvs:List (κ×V)} {vs:List (κ×Value)} (r:KV kvs vs) (k:κ) {y:V} {u:Value} (ry:RelV y u):KV (putK kvs k y) (stored vs k u):=by
 unfold putK stored
 rw [r.any k]
 by_cases e:(vs.any fun kv=>decide (kv.1=k))=true
 ·rw [if_pos e,if_pos e]; exact r.repl k ry
 ·rw [if_neg e,if_neg e]; exact Paired.snoc r ⟨rfl,ry⟩
theorem KV.drop {kvs:List (κ×V)} {vs:List (κ×Value)} (r:KV kvs vs) (k:κ):KV (dropK kvs k) (without vs k):=by
 unfold KV at r ⊢
 unfold dropK without
 induction r with
 | nil=>exact .nil
 | @cons p q ps qs h t ih =>
  obtain ⟨h1,h2⟩:=h
  rw [List.filter_cons,List.filter_cons]
  by_cases e:p.1=k
  ·have a:¬ decide (p.1≠k)=true:=by simp [e]
   have b:¬ decide (q.1≠k)=true:=by simp [h1.symm.trans e]
   rw [if_neg a,if_neg b]; exact ih
  ·have e':¬ q.1=k:=fun z=>e (h1.trans z)
   have a:decide (p.1≠k)=true:=by simp [e]
   have b:decide (q.1≠k)=true:=by simp [e']
   rw [if_pos a,if_pos b]; exact .cons ⟨h1,h2⟩ ih
theorem KV.length {kvs:List (κ×V)} {vs:List (κ×Value)} (r:KV kvs vs):kvs.length=vs.length:=Paired.length r
theorem dropK_le (kvs:List (κ×V)) (k:κ):(dropK kvs k).length≤kvs.length:=List.length_filter_le _ _
end
theorem kV_is {P:Program} {w:World} {k:Key} {u:Value} (r:RelV (kV k) u):(mixKind P w).is k u=true:=by
 cases k with
 | inl i=>obtain ⟨t,e⟩:=(show ∃ t,u=Value.int i t from r); subst e; exact mixKind_int P w i t
 | inr x=>obtain ⟨t,e⟩:=(show ∃ t,u=Value.str x t from r); subst e; exact mixKind_str P w x t
theorem items_are {P:Program} {w:World}:∀ {ks:List Key} {us:List Value},Vals (ks.map kV) us→ItemsAre (mixKind P w) ks us
 | [],_,r=>by rw [List.map_nil] at r; cases r; exact .nil
 | k :: ks,_,r=>by
  rw [List.map_cons] at r
  cases r with
  | cons h t=>exact .cons (kV_is h) (items_are t)
noncomputable abbrev KT (H:Hp):List (List Key×V)→List (List Key×Addr×Value)→Prop:=Paired fun p q=>p.1=q.1∧H q.2.1=some (.tup (p.1.map kV))∧RelV p.2 q.2.2
theorem KT.val {H:Hp} {kvs:List (List Key×V)} {xs:List (List Key×Addr×Value)} (r:KT H kvs xs) (k:List Key):RelO (valV kvs k) ((atKey xs k).map (·.2)):=by
 induction r with
 | nil=>exact True.intro
 | @cons p q ps qs h t ih =>
  obtain ⟨h1,_,h2⟩:=h
  by_cases e:p.1=k
  ·have e':q.1=k:=h1.symm.trans e
   have b:atKey (q :: qs) k=some q.2:=by simp [atKey,List.find?_cons,e']
   rw [valV_pos e,b]; exact h2
  ·have e':¬ q.1=k:=fun z=>e (h1.trans z)
   have b:atKey (q :: qs) k=atKey qs k:=by simp [atKey,List.find?_cons,e']
   rw [valV_neg e,b]; exact ih
theorem KT.repl {H:Hp} {kvs:List (List Key×V)} {xs:List (List Key×Addr×Value)} (r:KT H kvs xs) (k:List Key) {y:V} {u:Value} (ry:RelV y u) :
  KT H (kvs.map fun kv=>if kv.1=k then (kv.1,y) else kv) (xs.map (putAt k u)):=by
 induction r with
 | nil=>exact .nil
 | @cons p q ps qs h t ih =>
  rw [List.map_cons,List.map_cons]
  refine .cons ?_ ih
  obtain ⟨h1,h2,h3⟩:=h
  unfold putAt
  by_cases e:p.1=k
  ·rw [if_pos e,if_pos (h1.symm.trans e)]; exact ⟨h1,h2,ry⟩
  ·rw [if_neg e,if_neg (fun z=>e (h1.trans z))]; exact ⟨h1,h2,h3⟩
theorem KT.put {H:Hp} {kvs:List (List Key×V)} {xs:List (List Key×Addr×Value)} (r:KT H kvs xs) (k:List Key) {b:Addr} {y:V} {u:Value} (hb:H b=some (.tup (k.map kV))) (ry:RelV y u) :
  KT H (putK kvs k y) (storedH xs k b u):=by
 have e:(kvs.any fun kv=>decide (kv.1=k))=(atKey xs k).isSome:=by
  rw [jcf,(r.val k).isSome_eq,Option.isSome_map]
 unfold putK storedH
 rw [e]
 by_cases q:(atKey xs k).isSome=true
 ·rw [if_pos q,if_pos q]; exact r.repl k ry
 ·rw [if_neg q,if_neg q]; exact Paired.snoc r ⟨rfl,hb,ry⟩
theorem KT.keeps {H H':Hp} {kvs:List (List Key×V)} {xs:List (List Key×Addr×Value)} (r:KT H kvs xs) (ht:∀ b ys,H b=some (.tup ys)→H' b=some (.tup ys)):KT H' kvs xs :=
 Paired.mapP r fun _ _ z=>⟨z.1,ht _ _ z.2.1,z.2.2⟩
section
variable {P:Program} {w:World} {H:Hp} {h:Heap} {a:Addr}
theorem rd_of {u:HO} (ok:HOk P w H h) (e:Rd H a u):ObjOk P w H h a u:=e.ok ok
theorem dk_rd {kvs:List (Key×V)} (ok:HOk P w H h) (e:Rd H a (.dK kvs)):kvs.length≤sizeLine∧(a == sysModules)=false∧∃ vs,KV kvs vs∧h.DictOf (mixKind P w) a vs :=
 show ObjOk P w H h a (.dK kvs) from rd_of ok e
theorem dk_of {kvs:List (Key×V)} (ok:HOk P w H h) (e:H a=some (.dK kvs)):kvs.length≤sizeLine∧(a == sysModules)=false∧∃ vs,KV kvs vs∧h.DictOf (mixKind P w) a vs:=dk_rd ok (.inl e)
theorem key_of {ks:List Key} (ok:HOk P w H h) (e:H a=some (.tup (ks.map kV))):(tupleKind (mixKind P w)).is h ks a:=by
 obtain ⟨_,its,r,o,h1,h2,n,h3⟩:=(show ObjOk P w H h a (.tup (ks.map kV)) from ok a _ e)
 exact ⟨o,its.toArray,n,h1,h2,h3,by simpa using items_are r⟩
theorem dt_rd {kvs:List (List Key×V)} (ok:HOk P w H h) (e:Rd H a (.dT kvs)):kvs.length≤sizeLine∧(a == sysModules)=false ∧
  ∃ xs,KT H kvs xs∧h.DictOfH (tupleKind (mixKind P w)) a xs:=by
 obtain ⟨z,y,xs,r,o,es,ep,h1,h2,h3,h4,h5⟩:=(show ObjOk P w H h a (.dT kvs) from rd_of ok e)
 refine ⟨z,y,xs,r,o,es,ep,h1,h2,h3,h4,fun x hx=>?_,h5⟩
 have all:∀ {l:List (List Key×V)} {m:List (List Key×Addr×Value)},KT H l m→∀ x ∈ m,(tupleKind (mixKind P w)).is h x.1 x.2.1:=by
  intro l m q
  induction q with
  | nil=>intro x hx; exact nomatch hx
  | @cons p q ps qs hq t ih =>
   intro x hx
   rcases List.mem_cons.mp hx with e | hx
   ·subst e
    exact key_of ok (by rw [← hq.1]; exact hq.2.1)
   ·exact ih x hx
 exact all r x hx
theorem dt_of {kvs:List (List Key×V)} (ok:HOk P w H h) (e:H a=some (.dT kvs)):kvs.length≤sizeLine∧(a == sysModules)=false ∧
  ∃ xs,KT H kvs xs∧h.DictOfH (tupleKind (mixKind P w)) a xs:=dt_rd ok (.inl e)
end
noncomputable def DGet (H:Hp) (a:Addr) (y:V) (r:Option V):Prop :=
 (∃ kvs k,Rd H a (.dK kvs)∧y=kV k∧r=valV kvs k)∨∃ kvs k b,Rd H a (.dT kvs)∧y=.ref b∧H b=some (.tup (k.map kV))∧r=valV kvs k
noncomputable def DPut (H:Hp) (a:Addr) (y v:V) (H':Hp):Prop :=
 (∃ kvs k,H a=some (.dK kvs)∧y=kV k∧kvs.length < sizeLine∧H'=upd H a (.dK (putK kvs k v))) ∨
 ∃ kvs k b,H a=some (.dT kvs)∧y=.ref b∧H b=some (.tup (k.map kV))∧kvs.length < sizeLine∧H'=upd H a (.dT (putK kvs k v))
theorem DGet.k {H:Hp} {a:Addr} {kvs:List (Key×V)} {k:Key} (e:H a=some (.dK kvs)):DGet H a (kV k) (valV kvs k):=.inl ⟨kvs,k,.inl e,rfl,rfl⟩
theorem DPut.k {H:Hp} {a:Addr} {kvs:List (Key×V)} {k:Key} {v:V} (e:H a=some (.dK kvs)) (hl:kvs.length < sizeLine):DPut H a (kV k) v (upd H a (.dK (putK kvs k v))):=.inl ⟨kvs,k,e,rfl,hl,rfl⟩
section
variable {X:Cx} {pins:List (Addr×Obj)} {σ:St} {H:Hp} {s:Shared} {a:Addr} {y v:V} {u r:Value} {o:Option V} {A:Around} {E:Value→Shared→Prop}
theorem Inv.big (I:Inv X pins σ H s):sysModules < s.heap.objs.size:=by
 have h:mainGlobals < s.heap.objs.size:=(I.mod.glob.keeps I.bk).lt
 exact Nat.lt_trans (by decide) h
theorem d_getItem {Q:Value→Shared→Prop} (hu:A.units+1 < cLine) (I:Inv X pins σ H s) (g:DGet H a y (some v)) (ry:RelV y u) (h:∀ w' s',Inv X pins σ H s'→RelV v w'→Q w' s') :
  wpAny (model X.prog X.w) A (getItem (.ref a) u) Q E s:=by
 rcases g with ⟨kvs,k,e,ey,l⟩ | ⟨kvs,k,b,e,ey,eb,l⟩
 ·subst ey
  obtain ⟨z,hd,vs,rel,dd⟩:=dk_rd I.hok e
  obtain ⟨w',hw,rw'⟩:=RelO.some_of (v:=v) (o:=valueAt vs k) (by rw [l]; exact rel.val k)
  exact wpAny_getItem_of (kV_is ry) dd.mapOf hw (h w' _ (I.tok _) rw')
 ·subst ey
  cases (show u=Value.ref b from ry)
  obtain ⟨z,hd,xs,rel,dd⟩:=dt_rd I.hok e
  obtain ⟨w',hw,rw'⟩:=RelO.some_of (v:=v) (o:=(atKey xs k).map (·.2)) (by rw [l]; exact rel.val k)
  obtain ⟨p,hp,hp2⟩:=Option.map_eq_some_iff.mp hw
  refine wpAny_getItem_heap (tupleKind_room_in1 hu) (key_of I.hok eb) dd hp ?_
  rw [hp2]
  exact h w' _ (I.tok _) rw'
theorem d_in {Q:Value→Shared→Prop} (hu:A.units+1 < cLine) (I:Inv X pins σ H s) (g:DGet H a y o) (ry:RelV y u) (h:∀ s',Inv X pins σ H s'→Q (.bool o.isSome) s') :
  wpAny (model X.prog X.w) A (compareOp .In u (.ref a)) Q E s:=by
 rcases g with ⟨kvs,k,e,ey,l⟩ | ⟨kvs,k,b,e,ey,eb,l⟩
 ·subst ey
  obtain ⟨z,hd,vs,rel,dd⟩:=dk_rd I.hok e
  refine wpAny_in_of (kV_is ry) hd dd.mapOf ?_
  rw [← (rel.val k).isSome_eq,← l]
  exact h _ (I.tok _)
 ·subst ey
  cases (show u=Value.ref b from ry)
  obtain ⟨z,hd,xs,rel,dd⟩:=dt_rd I.hok e
  refine wpAny_in_heap (tupleKind_room_in1 hu) (key_of I.hok eb) hd dd ?_
  have q:=(rel.val k).isSome_eq
  rw [Option.isSome_map] at q
  rw [← q,← l]
  exact h _ (I.tok _)
theorem d_notIn {Q:Value→Shared→Prop} (hu:A.units+1 < cLine) (I:Inv X pins σ H s) (g:DGet H a y o) (ry:RelV y u) (h:∀ s',Inv X pins σ H s'→Q (.bool (!o.isSome)) s') :
  wpAny (model X.prog X.w) A (compareOp .NotIn u (.ref a)) Q E s:=by
 rcases g with ⟨kvs,k,e,ey,l⟩ | ⟨kvs,k,b,e,ey,eb,l⟩
 ·subst ey
  obtain ⟨z,hd,vs,rel,dd⟩:=dk_rd I.hok e
  refine wpAny_notIn_of (kV_is ry) hd dd.mapOf ?_
  rw [← (rel.val k).isSome_eq,← l]
  exact h _ (I.tok _)
 ·subst ey
  cases (show u=Value.ref b from ry)
  obtain ⟨z,hd,xs,rel,dd⟩:=dt_rd I.hok e
  refine wpAny_notIn_heap (tupleKind_room_in1 hu) (key_of I.hok eb) hd dd ?_
  have q:=(rel.val k).isSome_eq
  rw [Option.isSome_map] at q
  rw [← q,← l]
  exact h _ (I.tok _)
theorem d_write {h':Heap} {t':Nat} {ob:HO} (I:Inv X pins σ H s) (mu:Mut (H a)) (hs:Heap.SameBut a s.heap h') (he:∃ q,h'.get? a=some q) (new:ObjOk X.prog X.w (upd H a ob) h' a ob) :
  Inv X pins σ (upd H a ob) { s with heap:=h',toks:=t' } :=
 I.write (x:=a) (e:=a) mu (.inl rfl) (fun b q hb z=>(hs.2 b hb).trans z) he new
theorem dk_new {P:Program} {w:World} {H':Hp} {h':Heap} {kvs:List (Key×V)} {vs:List (Key×Value)} (z:kvs.length≤sizeLine) (hd:(a == sysModules)=false) (rel:KV kvs vs) (dd:h'.DictOf (mixKind P w) a vs) :
  ObjOk P w H' h' a (.dK kvs):=⟨z,hd,vs,rel,dd⟩
theorem d_setItem {H':Hp} {Q:Unit→Shared→Prop} (hu:A.units+1 < cLine) (I:Inv X pins σ H s) (g:DPut H a y v H') (ry:RelV y u) (rv:RelV v r) (h:∀ s',Inv X pins σ H' s'→Q () s') :
  wpAny (model X.prog X.w) A (setItem (.ref a) u r) Q E s:=by
 rcases g with ⟨kvs,k,e,ey,l,eH⟩ | ⟨kvs,k,b,e,ey,eb,l,eH⟩
 ·subst ey eH
  obtain ⟨z,hd,vs,rel,dd⟩:=dk_of I.hok e
  have hz:vs.length≤sizeLine:=by rw [← rel.length]; exact z
  have hl:(putK kvs k v).length≤sizeLine:=by have:=jcu kvs k v; omega
  refine wpAny_setItem_pairs (hsz:=hz) (kV_is ry) dd fun h' dd' hs=>h _ ?_
  have he:∃ q,h'.get? a=some q:=let ⟨q,_,_,hq,_⟩:=dd'; ⟨q,hq⟩
  exact d_write I (by rw [e]; exact True.intro) hs he (dk_new hl hd (rel.put k rv) dd')
 ·subst ey eH
  cases (show u=Value.ref b from ry)
  obtain ⟨z,hd,xs,rel,dd⟩:=dt_of I.hok e
  have hz:xs.length≤sizeLine:=by rw [← Paired.length rel]; exact z
  have hl:(putK kvs k v).length≤sizeLine:=by have:=jcu kvs k v; omega
  refine wpAny_setItem_heap (hsz:=hz) (tupleKind_room_in1 hu) (key_of I.hok eb) dd fun h' dd' hs=>h _ ?_
  obtain ⟨q,es,ep,hq,h2,h3,h4,_,h5⟩:=dd'
  refine d_write I (by rw [e]; exact True.intro) hs ⟨q,hq⟩ ⟨hl,hd,_,(rel.put k eb rv).keeps fun c ys ec=>?_,q,es,ep,hq,h2,h3,h4,h5⟩
  rw [upd_ne (ne_of ec e (fun z=>nomatch z))]
  exact ec
end
section
variable {X:Cx} {pins:List (Addr×Obj)} {σ:St} {H:Hp} {s:Shared} {a:Addr} {kvs:List (Key×V)} {k:Key} {u:Value} {A:Around} {E:Value→Shared→Prop}
theorem d_pop {v:V} {more:List Value} {Q:Value→Shared→Prop} (I:Inv X pins σ H s) (e:H a=some (.dK kvs)) (ry:RelV (kV k) u) (l:valV kvs k=some v) (hm:more=[]∨∃ x,more=[x])
  (h:∀ w' s',Inv X pins σ (upd H a (.dK (dropK kvs k))) s'→RelV v w'→Q w' s'):wpAny (model X.prog X.w) A (call (.builtin "dict.pop") (.ref a :: u :: more)) Q E s:=by
 obtain ⟨z,hd,vs,rel,dd⟩:=dk_of I.hok e
 obtain ⟨w',hw,rw'⟩:=RelO.some_of (v:=v) (o:=valueAt vs k) (by rw [← l]; exact rel.val k)
 have hp:(keyPart u).isSome=true:=by
  cases k with
  | inl i=>obtain ⟨t,q⟩:=(show ∃ t,u=Value.int i t from ry); subst q; rfl
  | inr x=>obtain ⟨t,q⟩:=(show ∃ t,u=Value.str x t from ry); subst q; rfl
 have ha:argsOk "dict.pop" ⟨.ref a :: u :: more,[]⟩:=by
  rcases hm with q | ⟨x,q⟩
  ·subst q; exact PySem.F.args_dict_pop_2 _ _
  ·subst q; exact PySem.F.args_dict_pop_3 _ _ _
 refine call_meetsIn PySem.F.slot_dict_pop dd.typeIs PySem.F.entry_dict_pop ha (meets_dict_pop_there (mixKind X.prog X.w) a (kV_is ry) more hm hp)
  ⟨vs,w',dd,by rw [← rel.length]; exact z,hw,fun h' dd' hs=>h w' _ ?_ rw'⟩
 have he:∃ q,h'.get? a=some q:=let ⟨q,_,_,hq,_⟩:=dd'; ⟨q,hq⟩
 exact d_write I (by rw [e]; exact True.intro) hs he (dk_new (Nat.le_trans (dropK_le kvs k) z) hd (rel.drop k) dd')
theorem d_len {Q:Value→Shared→Prop} (I:Inv X pins σ H s) (e:Rd H a (.dK kvs)) (h:∀ t s',Inv X pins σ H s'→Q (.int kvs.length t) s'):wpAny (model X.prog X.w) A (call (.builtin "len") [.ref a]) Q E s:=by
 obtain ⟨z,hd,vs,rel,dd⟩:=dk_rd I.hok e
 refine call_len_dict hd dd (by rw [← rel.length]; rw [sizeLine_eq] at z; omega) ?_
 rw [← rel.length]
 exact h _ _ (I.tok _)
end
noncomputable def NoSl (i:Expr):Prop:=∀ ov iv,subscripted i false ov iv=operate [ov,iv] (getItem ov iv)
theorem subD_of {prog:Program} {w:World} {A:Around} {E:Value→Shared→Prop} {s:Shared} {env:Env} {value slice:Expr} {pos:Pos} {T id:String} {Q:Value→Shared→Prop}
  (hl:typeLookup (.type T) "__getitem__" = pure (some (.builtin id))) (hs:NoSl slice)
  (h:wpAny (model prog w) A (eval value env) (fun o s₁=>wpAny (model prog w) A (eval slice env) (fun i s₂=>s₂.TypeIs o T∧wpAny (model prog w) A (getItem o i) Q E s₂) E s₁) E s) :
  wpAny (model prog w) A (eval (.Subscript value slice pos) env) Q E s:=by
 refine Subscript_ (wpAny_mono h (fun o s₁ h₁=>wpAny_mono h₁ (fun i s₂ h₂=>?_) fun _ _ x=>x) fun _ _ x=>x)
 obtain ⟨hT,h₂⟩:=h₂
 unfold subscriptTail
 refine wpAny_bind ?_
 rw [getitemInPython_of_ne hT.not_modules]
 refine wpAny_bind (wpAny_specialOf hT hl ?_)
 have fin:wpAny (model prog w) A (subscripted slice false o i) (fun r s₃=>wpAny (model prog w) A (letTemporaryGo value o r >>= fun _=>pure r) Q E s₃) E s₂:=by
  rw [hs o i]
  exact wpAny_operating (wpAny_mono h₂ (fun r s₃ h₃=>wpAny_bind (wpAny_letTemporaryGo (wpAny_pure h₃))) fun _ _ x=>x)
 first
  | exact wpAny_pure (wpAny_bind fin)
  | exact wpAny_bind (wpAny_pure (wpAny_bind fin))
  | exact wpAny_bind fin
theorem dict_typeIs {X:Cx} {pins:List (Addr×Obj)} {σ:St} {H:Hp} {s:Shared} {a:Addr} {y:V} {o:Option V} (I:Inv X pins σ H s) (g:DGet H a y o):s.TypeIs (.ref a) "dict" := by
 rcases g with ⟨kvs,k,e,_,_⟩ | ⟨kvs,k,b,e,_,_,_⟩
 ·obtain ⟨_,_,vs,_,dd⟩:=dk_rd I.hok e
  exact dd.typeIs
 ·obtain ⟨_,_,xs,_,dd⟩:=dt_rd I.hok e
  exact dd.typeIs
noncomputable def tDGet (td ty:TE):TE:=fun σ H Q=>td σ H fun x H1=>ty σ H1 fun y H2=>kzR x fun a=>∃ v,DGet H2 a y (some v)∧Q v H2
noncomputable def tDIn (ty td:TE):TE:=fun σ H Q=>ty σ H fun y H1=>td σ H1 fun x H2=>kzR x fun a=>∃ o,DGet H2 a y o∧Q (.bl o.isSome) H2
noncomputable def tDNotIn (ty td:TE):TE:=fun σ H Q=>ty σ H fun y H1=>td σ H1 fun x H2=>kzR x fun a=>∃ o,DGet H2 a y o∧Q (.bl (!o.isSome)) H2
noncomputable def sDPut (td ty tv:TE):TS:=fun D σ H=>tv σ H fun v H1=>td σ H1 fun x H2=>ty σ H2 fun y H3=>kzR x fun a=>∃ H4,DPut H3 a y v H4∧D.nx σ H4
section
variable {X:Cx} {o i e value:Expr} {pos pos' tpos:Pos} {td ty tv:TE}
theorem pe_dget (hu:X.A.units+1 < cLine) (ho:PE X o td) (hi:PE X i ty) (hs:NoSl i):PE X (.Subscript o i pos) (tDGet td ty):=by
 intro pins s σ H Q I h
 refine subD_of PySem.F.slot_dict_getitem.lookup hs (thn (ho pins s σ H _ I h) fun u s1 ⟨x,H1,I1,rx,q1⟩=>thn (hi pins s1 σ H1 _ I1 q1) fun iv s2 ⟨y,H2,I2,ry,q0⟩=>?_)
 obtain ⟨a,ex,v,g,q2⟩:=kzR_m.mp q0
 subst ex
 obtain rfl:u=Value.ref a:=rx
 exact ⟨dict_typeIs I2 g,d_getItem hu I2 g ry fun w' s3 I3 rw'=>⟨v,H2,I3,rw',q2⟩⟩
theorem pc_din (hu:X.A.units+1 < cLine) (hi:PE X i ty) (ho:PE X o td):PC X .In i o (tDIn ty td):=by
 intro pins s σ H Q I h
 refine thn (hi pins s σ H _ I h) fun iv s1 ⟨y,H1,I1,ry,q1⟩=>thn (ho pins s1 σ H1 _ I1 q1) fun u s2 ⟨x,H2,I2,rx,q0⟩=>?_
 obtain ⟨a,ex,ov,g,q2⟩:=kzR_m.mp q0
 subst ex
 obtain rfl:u=Value.ref a:=rx
 exact d_in hu I2 g ry fun s3 I3=>⟨.bl ov.isSome,H2,I3,rfl,q2⟩
theorem pc_dnotin (hu:X.A.units+1 < cLine) (hi:PE X i ty) (ho:PE X o td):PC X .NotIn i o (tDNotIn ty td):=by
 intro pins s σ H Q I h
 refine thn (hi pins s σ H _ I h) fun iv s1 ⟨y,H1,I1,ry,q1⟩=>thn (ho pins s1 σ H1 _ I1 q1) fun u s2 ⟨x,H2,I2,rx,q0⟩=>?_
 obtain ⟨a,ex,ov,g,q2⟩:=kzR_m.mp q0
 subst ex
 obtain rfl:u=Value.ref a:=rx
 exact d_notIn hu I2 g ry fun s3 I3=>⟨.bl (!ov.isSome),H2,I3,rfl,q2⟩
theorem ps_dput (hu:X.A.units+1 < cLine) (ho:PE X o td) (hi:PE X i ty) (hv:PE X value tv) (hs:swapsWith value (some (.Subscript o i pos')) pos.line X.env=pure false) :
  PS X (.Assign [.Subscript o i pos'] value pos) (sDPut td ty tv):=by
 intro pins s σ H D I h
 refine wpAny_Assign_Subscript (thn (hv pins s σ H _ I h) fun r s1 ⟨v,H1,I1,rv,q1⟩=>thn (ho pins s1 σ H1 _ I1 q1) fun u s2 ⟨x,H2,I2,rx,q2⟩=>thn (hi pins s2 σ H2 _ I2 q2) fun iv s3 ⟨y,H3,I3,ry,q0⟩=>?_) hs
 obtain ⟨a,ex,H4,g,q3⟩:=kzR_m.mp q0
 subst ex
 obtain rfl:u=Value.ref a:=rx
 exact d_setItem hu I3 g ry rv fun s4 I4=>⟨σ,H4,I4,q3⟩
end
theorem dk_empty {P:Program} {w:World} {H:Hp} (h:Heap) (hb:sysModules < h.objs.size):ObjOk P w H (h.push { cls:=.type "dict",data:=.dict #[] }) h.objs.size (.dK []) :=
 ⟨Nat.zero_le _,beq_eq_false_iff_ne.mpr (Ne.symm (Nat.ne_of_lt hb)),[],.nil,Heap.DictOf.new h⟩
noncomputable def tDNewK:TE:=fun _ H Q=>∀ p,H p=none→Q (.ref p) (upd H p (.dK []))
section
variable {X:Cx} {pos:Pos}
theorem pe_dnewK:PE X (.Dict [] [] pos) tDNewK:=fun pins s σ H Q I h =>
 wpAny_Dict_empty ⟨.ref s.heap.objs.size,_,I.laid (a:=s.heap.objs.size) (o:=.dK []) (t':=s.toks) (fun _ _ q=>Heap.get?_push_of_some _ q) (Nat.le_refl _) (dk_empty s.heap I.big),rfl,h _ (I.hok.fresh (Nat.le_refl _))⟩
end
structure M1 (X:Cx) (o:Expr) (m:Str) (apos:Pos) (e:Expr) (cpos:Pos):Prop where
 base:attributeBase o m X.env (eval o X.env)=eval o X.env
 few:((backTo cpos (starEach [e] X.env)).all (fun x=>!x.1) && (backToKw cpos (keywordEach [] X.env)).all (fun x=>x.1.isSome)
  && decide (([e]:List Expr).length+([]:List Keyword).length+(if ([]:List Keyword).isEmpty then 0 else 1) < 30))=true
 line:(apos.endLine == cpos.line)=true
 trees:backTo cpos (starEach [e] X.env)=[(false,eval e X.env)]
structure M2 (X:Cx) (o:Expr) (m:Str) (apos:Pos) (e f:Expr) (cpos:Pos):Prop where
 base:attributeBase o m X.env (eval o X.env)=eval o X.env
 few:((backTo cpos (starEach [e,f] X.env)).all (fun x=>!x.1) && (backToKw cpos (keywordEach [] X.env)).all (fun x=>x.1.isSome)
  && decide (([e,f]:List Expr).length+([]:List Keyword).length+(if ([]:List Keyword).isEmpty then 0 else 1) < 30))=true
 line:(apos.endLine == cpos.line)=true
 trees:backTo cpos (starEach [e,f] X.env)=[(false,eval e X.env),(false,eval f X.env)]
noncomputable def IsD (H:Hp) (a:Addr):Prop:=(∃ kvs,Rd H a (.dK kvs))∨∃ kvs,Rd H a (.dT kvs)
theorem isD_at {X:Cx} {pins:List (Addr×Obj)} {σ:St} {H:Hp} {s:Shared} {a:Addr} (I:Inv X pins σ H s) (d:IsD H a) :
  s.TypeIs (.ref a) "dict"∧(∀ b,Value.ref a=.ref b→∃ ob,s.heap.get? b=some ob∧ob.dict=none)∧(a == sysModules)=false:=by
 rcases d with ⟨kvs,e⟩ | ⟨kvs,e⟩
 ·obtain ⟨_,hd,vs,_,dd⟩:=dk_rd I.hok e
  refine ⟨dd.typeIs,fun b q=>?_,hd⟩
  cases q
  obtain ⟨ob,_,_,h1,h2,_⟩:=dd
  exact ⟨ob,h1,h2.2.1⟩
 ·obtain ⟨_,hd,xs,_,dd⟩:=dt_rd I.hok e
  refine ⟨dd.typeIs,fun b q=>?_,hd⟩
  cases q
  obtain ⟨ob,_,_,h1,h2,_⟩:=dd
  exact ⟨ob,h1,h2.2.1⟩
section
variable {X:Cx} {pins:List (Addr×Obj)} {σ:St} {H:Hp} {s:Shared} {a:Addr} {y d:V} {u r:Value} {o:Option V} {A:Around} {E:Value→Shared→Prop}
theorem d_get1 {Q:Value→Shared→Prop} (hu:A.units+1 < cLine) (I:Inv X pins σ H s) (g:DGet H a y o) (ry:RelV y u) (h:∀ w' s',Inv X pins σ H s'→RelV (o.getD .non) w'→Q w' s') :
  wpAny (model X.prog X.w) A (call (.builtin "dict.get") [.ref a,u]) Q E s:=by
 rcases g with ⟨kvs,k,e,ey,l⟩ | ⟨kvs,k,b,e,ey,eb,l⟩
 ·subst ey
  obtain ⟨z,hd,vs,rel,dd⟩:=dk_rd I.hok e
  refine call_meetsIn PySem.F.slot_dict_get dd.typeIs PySem.F.entry_dict_get (PySem.F.args_dict_get_2 _ _) (meets_dict_get (mixKind X.prog X.w) a (kV_is ry) hd) ⟨_,dd.mapOf,h _ _ (I.tok _) ?_⟩
  rw [l]
  exact (rel.val k).getD rfl
 ·subst ey
  cases (show u=Value.ref b from ry)
  obtain ⟨z,hd,xs,rel,dd⟩:=dt_rd I.hok e
  refine call_meetsIn PySem.F.slot_dict_get dd.typeIs PySem.F.entry_dict_get (PySem.F.args_dict_get_2 _ _) (meetsH_dict_get (tupleKind (mixKind X.prog X.w)) a b hd) ⟨tupleKind_room_in1 hu,k,xs,key_of I.hok eb,dd,h _ _ (I.tok _) ?_⟩
  rw [l]
  exact (rel.val k).getD rfl
theorem d_get2 {Q:Value→Shared→Prop} (hu:A.units+1 < cLine) (I:Inv X pins σ H s) (g:DGet H a y o) (ry:RelV y u) (rd:RelV d r) (h:∀ w' s',Inv X pins σ H s'→RelV (o.getD d) w'→Q w' s') :
  wpAny (model X.prog X.w) A (call (.builtin "dict.get") [.ref a,u,r]) Q E s:=by
 rcases g with ⟨kvs,k,e,ey,l⟩ | ⟨kvs,k,b,e,ey,eb,l⟩
 ·subst ey
  obtain ⟨z,hd,vs,rel,dd⟩:=dk_rd I.hok e
  refine call_meetsIn PySem.F.slot_dict_get dd.typeIs PySem.F.entry_dict_get (PySem.F.args_dict_get_3 _ _ _) (meets_dict_get_default (mixKind X.prog X.w) a (kV_is ry) hd r) ⟨_,dd.mapOf,h _ _ (I.tok _) ?_⟩
  rw [l]
  exact (rel.val k).getD rd
 ·subst ey
  cases (show u=Value.ref b from ry)
  obtain ⟨z,hd,xs,rel,dd⟩:=dt_rd I.hok e
  refine call_meetsIn PySem.F.slot_dict_get dd.typeIs PySem.F.entry_dict_get (PySem.F.args_dict_get_3 _ _ _) (meetsH_dict_get_default (tupleKind (mixKind X.prog X.w)) a b hd r) ⟨tupleKind_room_in1 hu,k,xs,key_of I.hok eb,dd,h _ _ (I.tok _) ?_⟩
  rw [l]
  exact (rel.val k).getD rd
end
noncomputable def tDGet1 (td ty:TE):TE:=fun σ H Q=>td σ H fun x H1=>kzR x fun a=>IsD H1 a∧ty σ H1 fun y H2=>∃ o,DGet H2 a y o∧Q (o.getD .non) H2
noncomputable def tDGet2 (td ty tx:TE):TE:=fun σ H Q=>td σ H fun x H1=>kzR x fun a=>IsD H1 a∧ty σ H1 fun y H2=>tx σ H2 fun z H3=>∃ o,DGet H3 a y o∧Q (o.getD z) H3
noncomputable def tDPop1 (td ty:TE):TE:=fun σ H Q=>td σ H fun x H1=>kzR x fun a=>IsD H1 a∧ty σ H1 fun y H2=>∃ kvs k v,H2 a=some (.dK kvs)∧y=kV k∧valV kvs k=some v∧Q v (upd H2 a (.dK (dropK kvs k)))
section
variable {X:Cx} {o e f:Expr} {apos cpos:Pos} {td ty tx:TE}
theorem pe_dget1 (hu:X.A.units+1 < cLine) (ho:PE X o td) (he:PE X e ty) (m:M1 X o "get" apos e cpos):PE X (.Call (.Attribute o "get" apos) [e] [] cpos) (tDGet1 td ty):=by
 intro pins s σ H Q I h
 refine wpAny_Call_method m.base m.few m.line PySem.F.plainAttrs_dict PySem.F.slot_dict_get PySem.F.type_dict_get (thn (ho pins s σ H _ I h) fun u s1 ⟨x,H1,I1,rx,q0⟩=>?_)
 obtain ⟨a,ex,d,q1⟩:=kzR_m.mp q0
 subst ex
 obtain rfl:u=Value.ref a:=rx
 obtain ⟨t1,t2,_⟩:=isD_at I1 d
 refine ⟨t1,t2,?_⟩
 rw [m.trees]
 refine Calls.callWith_builtin rfl (Calls.evalArgs_plain (Calls.spliced_cons (thn (he pins s1 σ H1 _ I1 q1) fun iv s2 ⟨y,H2,I2,ry,ov,g,q2⟩=>Calls.spliced_nil ?_)))
 exact d_get1 hu I2 g ry fun w' s3 I3 rw'=>⟨_,H2,I3,rw',q2⟩
theorem pe_dget2 (hu:X.A.units+1 < cLine) (ho:PE X o td) (he:PE X e ty) (hf:PE X f tx) (m:M2 X o "get" apos e f cpos):PE X (.Call (.Attribute o "get" apos) [e,f] [] cpos) (tDGet2 td ty tx):=by
 intro pins s σ H Q I h
 refine wpAny_Call_method m.base m.few m.line PySem.F.plainAttrs_dict PySem.F.slot_dict_get PySem.F.type_dict_get (thn (ho pins s σ H _ I h) fun u s1 ⟨x,H1,I1,rx,q0⟩=>?_)
 obtain ⟨a,ex,d,q1⟩:=kzR_m.mp q0
 subst ex
 obtain rfl:u=Value.ref a:=rx
 obtain ⟨t1,t2,_⟩:=isD_at I1 d
 refine ⟨t1,t2,?_⟩
 rw [m.trees]
 refine Calls.callWith_builtin rfl (Calls.evalArgs_plain (Calls.spliced_cons (thn (he pins s1 σ H1 _ I1 q1) fun iv s2 ⟨y,H2,I2,ry,q2⟩ =>
  Calls.spliced_cons (thn (hf pins s2 σ H2 _ I2 q2) fun fv s3 ⟨z,H3,I3,rz,ov,g,q3⟩=>Calls.spliced_nil ?_))))
 exact d_get2 hu I3 g ry rz fun w' s4 I4 rw'=>⟨_,H3,I4,rw',q3⟩
theorem pe_dpop1 (ho:PE X o td) (he:PE X e ty) (m:M1 X o "pop" apos e cpos):PE X (.Call (.Attribute o "pop" apos) [e] [] cpos) (tDPop1 td ty):=by
 intro pins s σ H Q I h
 refine wpAny_Call_method m.base m.few m.line PySem.F.plainAttrs_dict PySem.F.slot_dict_pop PySem.F.type_dict_pop (thn (ho pins s σ H _ I h) fun u s1 ⟨x,H1,I1,rx,q0⟩=>?_)
 obtain ⟨a,ex,d,q1⟩:=kzR_m.mp q0
 subst ex
 obtain rfl:u=Value.ref a:=rx
 obtain ⟨t1,t2,_⟩:=isD_at I1 d
 refine ⟨t1,t2,?_⟩
 rw [m.trees]
 refine Calls.callWith_builtin rfl (Calls.evalArgs_plain (Calls.spliced_cons (thn (he pins s1 σ H1 _ I1 q1) fun iv s2 ⟨y,H2,I2,ry,kvs,k,v,ea,ey,l,q2⟩=>Calls.spliced_nil ?_)))
 subst ey
 exact d_pop I2 ea ry l (.inl rfl) fun w' s3 I3 rw'=>⟨v,_,I3,rw',q2⟩
end
section
variable {X:Cx} {pins:List (Addr×Obj)} {σ:St} {H:Hp} {s:Shared} {a:Addr} {kvs:List (Key×V)} {A:Around} {E:Value→Shared→Prop}
end
section
variable {X:Cx} {pins:List (Addr×Obj)} {σ:St} {H:Hp} {s:Shared} {a:Addr} {y:V} {u:Value} {A:Around} {E:Value→Shared→Prop}
end
end L2
namespace L2
open PySem PySem.Spec PyProof.Rows
section
variable {prog:Program} {w:World} {A:Around} {E:Value→Shared→Prop}
end
section
variable {X:Cx}
theorem pairs_of {pins:List (Addr×Obj)} {σ:St} {H:Hp} {s:Shared} (I:Inv X pins σ H s):∀ {ps:List Addr} {kvs:List (Key×V)},Paired (fun p kv=>SqT X.K H p [kV kv.1,kv.2]) ps kvs →
  ∃ prs:List (Key×Value),KV kvs prs∧prs.length=ps.length∧∀ (j:Nat) (q:Key×Value),prs[j]? = some q→∃ (b:Addr) (u:Value),ps[j]? = some b∧IsTup s.heap b #[u,q.2]∧keyIs q.1 u=true
 | _,_,.nil=>⟨[],.nil,rfl,fun j q e=>by simp at e⟩
 | _,_,.cons (a:=p) (b:=kv) h t=>by
  obtain ⟨prs,r,hl,hp⟩:=pairs_of I t
  obtain ⟨its,rv,ht,_⟩:=I.tuple h
  obtain ⟨u,y,ei,ru,ry⟩:=vals2 rv
  subst ei
  refine ⟨(kv.1,y) :: prs,.cons ⟨rfl,ry⟩ r,by rw [List.length_cons,List.length_cons,hl],fun j q e=>?_⟩
  cases j with
  | zero =>
   have e':(kv.1,y)=q:=Option.some.inj e
   subst e'
   exact ⟨p,u,rfl,ht,kV_is (P:=X.prog) (w:=X.w) ru⟩
  | succ j =>
   obtain ⟨b,u',e1,e2,e3⟩:=hp j q (by simpa using e)
   exact ⟨b,u',by simpa using e1,e2,e3⟩
end
end L2
namespace L2
open PySem PySem.Spec PyProof.Rows
section
variable {X:Cx} {pins:List (Addr×Obj)} {σ:St} {H:Hp} {s:Shared} {h':Heap}
theorem Inv.turnedL {t':Nat} {ch:List Addr} (I:Inv X pins σ H s) (k:∀ b o,b ∉ ch→s.heap.get? b=some o→h'.get? b=some o) (hf:∀ b ∈ ch,FpOk X pins H b):Inv X pins σ H { s with heap:=h',toks:=t' }:=by
 have nit:∀ b u,H b=some u→b ∉ ch:=fun b u e z=>by
  have q:=(hf b z).1
  rw [q] at e; cases e
 refine I.step (g':=s.gens) (d':=s.drawn) (ch:=ch) (fun b hb=>⟨(hf b hb).2.2.2.1,(hf b hb).2.1,(hf b hb).2.2.2.2.1,(hf b hb).2.2.2.2.2⟩) (fun b o _ _ hc e _=>k b o hc e) (fun b o _ _ hc e _=>⟨o.slots,k b o hc e⟩)
  (fun _ _ _ _ n=>n) (fun b o hc e=>⟨o,k b o hc e⟩) (fun _ _ e=>e) (fun _ _ _ e=>e) (fun b ps e=>⟨#[],by rw [e]; simp⟩) (fun m hm=>?_) (fun b u e=>?_) I.bare
 ·obtain ⟨o,es,ep,ho,r⟩:=hm
  exact ⟨o,es,ep,k _ o (fun z=>(hf _ z).2.1 rfl) ho,r⟩
 ·refine (I.hok b u e).stay (fun c v hc q=>k c v ?_ q) (fun _ q=>q) fun _ _ q=>q
  rcases hc with z | z
  ·rw [z]; exact nit b u e
  ·exact nit c _ z
theorem Inv.turnedNew {t':Nat} {ch:List Addr} {T:Addr} {ob:HO} (I:Inv X pins σ H s) (k:∀ b o,b ∉ ch→s.heap.get? b=some o→h'.get? b=some o) (hf:∀ b ∈ ch,FpOk X pins H b) (hT:s.heap.objs.size≤T)
  (new:ObjOk X.prog X.w (upd H T ob) h' T ob):Inv X pins σ (upd H T ob) { s with heap:=h',toks:=t' }:=by
 have hn:H T=none:=I.hok.fresh hT
 have nit:∀ b u,H b=some u→b ∉ ch:=fun b u e z=>by
  have q:=(hf b z).1
  rw [q] at e; cases e
 refine I.step (g':=s.gens) (d':=s.drawn) (ch:=ch) (fun b hb=>⟨(hf b hb).2.2.2.1,(hf b hb).2.1,(hf b hb).2.2.2.2.1,(hf b hb).2.2.2.2.2⟩) (fun b o _ _ hc e _=>k b o hc e) (fun b o _ _ hc e _=>⟨o.slots,k b o hc e⟩)
  (fun b o _ e n=>?_) (fun b o hc e=>⟨o,k b o hc e⟩) (fun b xs e=>?_) (fun b o u e=>?_) (fun b ps e=>⟨#[],?_⟩) (fun m hm=>?_) (fun b u e=>?_) I.bare
 ·rw [upd_ne (Nat.ne_of_lt (Nat.lt_of_lt_of_le (Heap.lt_size e) hT))]; exact n
 ·rw [upd_ne (jab e hn)]; exact e
 ·rw [upd_ne (jab e hn)]; exact e
 ·rw [upd_ne (jab e hn),e]; simp
 ·obtain ⟨o,es,ep,ho,r⟩:=hm
  exact ⟨o,es,ep,k _ o (fun z=>(hf _ z).2.1 rfl) ho,r⟩
 ·by_cases hb:b=T
  ·subst hb
   rw [jaa] at e
   cases e
   exact new
  ·rw [upd_ne hb] at e
   refine (I.hok b u e).stay (fun c v hc q=>k c v ?_ q) (fun c q=>by rw [upd_ne (jab q hn)]; exact q) fun c xs q=>by rw [upd_ne (jab q hn)]; exact q
   rcases hc with z | z
   ·rw [z]; exact nit b u e
   ·exact nit c _ z
theorem Inv.lock {d:Addr} {u:HO} (I:Inv X pins σ H s) (h:H d=some u) (mu:Mut (some u)):∃ od,Inv X pins σ (upd H d (.frz od u)) s:=by
 have x:=I.hok d u h
 have ex:∃ od,s.heap.get? d=some od:=by
  cases u with
  | lst xs=>obtain ⟨_,_,_,_,e⟩:=x; exact ⟨_,e⟩
  | dK kvs=>obtain ⟨_,_,_,_,o,_,_,e,_⟩:=x; exact ⟨o,e⟩
  | dT kvs=>obtain ⟨_,_,_,_,o,_,_,e,_⟩:=x; exact ⟨o,e⟩
  | set S n=>obtain ⟨o,_,_,_,e,_⟩:=x; exact ⟨o,e⟩
  | ins C dx fs=>obtain ⟨_,_,_,e,_⟩:=x; exact ⟨_,e⟩
  | ext φ=>obtain ⟨_,⟨_,e⟩,_⟩:=x; exact ⟨_,e⟩
  | _=>exact False.elim mu
 obtain ⟨od,e⟩:=ex
 have new:ObjOk X.prog X.w (upd H d (.frz od u)) s.heap d (.frz od u):=by
  refine ⟨e,x.stay (fun b v _ q=>q) (fun b q=>?_) fun b xs q=>?_⟩
  ·rw [upd_ne (fun z=>by rw [z,h] at q; cases q; exact mu)]; exact q
  ·rw [upd_ne (fun z=>by rw [z,h] at q; cases q; exact mu)]; exact q
 exact ⟨od,I.write (x:=d) (e:=d) (t':=s.toks) (h':=s.heap) (by rw [h]; exact mu) (.inl rfl) (fun b v _ q=>q) ⟨od,e⟩ new⟩
theorem Inv.nofrz {d:Addr} {u:HO} (I:Inv X pins σ H s) (h:H d=some u) (mu:Mut (some u)):∀ o' u',X.H_0 d≠some (.frz o' u'):=fun o' u' e=>by
 have q:=I.base.frzs d o' u' e
 rw [h] at q
 cases q
 exact mu
theorem Inv.unlock {d:Addr} {od:Obj} {u:HO} (I:Inv X pins σ H s) (h:H d=some (.frz od u)) (hn:∀ o' u',X.H_0 d≠some (.frz o' u')):Inv X pins σ (upd H d u) s:=by
 have neH:∀ b o,H b=some o→(∀ o' u',o≠.frz o' u')→b≠d:=fun b o e hne z=>by
  rw [z,h] at e
  cases e
  exact hne _ _ rfl
 have neN:∀ b,H b=none→b≠d:=fun b e z=>by rw [z,h] at e; cases e
 refine ⟨I.ok,I.os,I.bare,⟨I.base.keep,I.base.slot,fun b o e n hx=>?_,I.base.there,fun b xs e=>?_,fun b o x e=>?_,fun b ps e=>?_⟩,I.loc,I.cell,?_,fun x c e=>?_,fun p hp=>?_,fun b o e=>?_,I.len⟩
 ·rw [upd_ne (neN b (I.base.free b o e n hx))]; exact I.base.free b o e n hx
 ·have q:=I.base.tups b xs e
  rw [upd_ne (neH b _ q (fun _ _ z=>nomatch z))]; exact q
 ·have q:=I.base.frzs b o x e
  rw [upd_ne (fun z=>by rw [z] at e; exact hn _ _ e)]; exact q
 ·obtain ⟨m,q⟩:=I.base.tbls b ps e
  exact ⟨m,by rw [upd_ne (neH b _ q (fun _ _ z=>nomatch z))]; exact q⟩
 ·rw [upd_ne (neN _ I.free)]; exact I.free
 ·rw [upd_ne (neN c (I.freeC x c e))]; exact I.freeC x c e
 ·obtain ⟨e,n,r⟩:=I.pin p hp
  exact ⟨e,by rw [upd_ne (neN _ n)]; exact n,r⟩
 ·by_cases hb:b=d
  ·rw [hb,jaa] at e
   cases e
   rw [hb]
   obtain ⟨_,x⟩:=I.hok d _ h
   exact x.stay (fun c v _ q=>q) (fun c q=>by rw [upd_ne (neH c _ q (fun _ _ z=>nomatch z))]; exact q) fun c xs q=>by rw [upd_ne (neH c _ q (fun _ _ z=>nomatch z))]; exact q
  ·rw [upd_ne hb] at e
   exact (I.hok b o e).stay (fun c v _ q=>q) (fun c q=>by rw [upd_ne (neH c _ q (fun _ _ z=>nomatch z))]; exact q) fun c xs q=>by rw [upd_ne (neH c _ q (fun _ _ z=>nomatch z))]; exact q
end
noncomputable def tLock (t:TS):TS:=fun D σ H=>∃ d u,H d=some u∧Mut (some u)∧∀ od,t ⟨fun σ' H'=>H' d=some (.frz od u)∧D.nx σ' (upd H' d u),fun v H'=>H' d=some (.frz od u)∧D.rt v (upd H' d u),fun σ' H'=>H' d=some (.frz od u)∧D.bk σ' (upd H' d u),fun σ' H'=>H' d=some (.frz od u)∧D.ct σ' (upd H' d u)⟩ σ (upd H d (.frz od u))
noncomputable def tLockE (t:TE):TE:=fun σ H Q=>∃ d u,H d=some u∧Mut (some u)∧∀ od,t σ (upd H d (.frz od u)) fun v H'=>H' d=some (.frz od u)∧Q v (upd H' d u)
section
variable {X:Cx}
theorem ps_lock {st:Stmt} {t:TS} (h:PS X st t):PS X st (tLock t):=by
 intro pins s σ H D I hw
 obtain ⟨d,u,hd,mu,hw⟩:=hw
 obtain ⟨od,I1⟩:=I.lock hd mu
 refine thn (h pins s σ _ _ I1 (hw od)) fun f s1 q=>?_
 cases f with
 | next=>obtain ⟨σ',H',I2,e,q⟩:=q; exact ⟨σ',_,I2.unlock e (I.nofrz hd mu),q⟩
 | brk=>obtain ⟨σ',H',I2,e,q⟩:=q; exact ⟨σ',_,I2.unlock e (I.nofrz hd mu),q⟩
 | cont=>obtain ⟨σ',H',I2,e,q⟩:=q; exact ⟨σ',_,I2.unlock e (I.nofrz hd mu),q⟩
 | ret v=>obtain ⟨x,σ',H',I2,r,e,q⟩:=q; exact ⟨x,σ',_,I2.unlock e (I.nofrz hd mu),r,q⟩
theorem pe_lock {e:Expr} {t:TE} (h:PE X e t):PE X e (tLockE t):=by
 intro pins s σ H Q I hw
 obtain ⟨d,u,hd,mu,hw⟩:=hw
 obtain ⟨od,I1⟩:=I.lock hd mu
 refine thn (h pins s σ _ _ I1 (hw od)) fun v s1 ⟨x,H1,I2,r,e2,q⟩=>?_
 exact ⟨x,_,I2.unlock e2 (I.nofrz hd mu),r,q⟩
theorem pi_one {tg:Expr} {pins:List (Addr×Obj)} {σ:St} {H:Hp} {s:Shared} {R:It→Hp→Prop} {J:It} {tn:Nat→Heap→Prop} {tk:Nat} (I:Inv X pins σ H s) (o:Obj)
  (T:Turn X.prog X.w X.K tg J [s.heap.objs.size] s.heap.objs.size tn) (st:tn 0 (s.heap.push o)) (q:R J H):PIE X pins σ tg R (.ref s.heap.objs.size) { s with heap:=s.heap.push o,toks:=tk }:=by
 refine ⟨s.heap.objs.size,[s.heap.objs.size],tn,J,H,rfl,I.kept fun b ob e=>Heap.get?_push_of_some _ e,T,st,fun b hb=>?_,q⟩
 have e:b=s.heap.objs.size:=by simpa using hb
 subst e
 exact I.fpOk (Nat.le_refl _) (I.hok.fresh (Nat.le_refl _))
end
section
variable {X:Cx} {tg:Expr}
end
section
variable {X:Cx} {tg:Expr}
end
section
variable {prog:Program} {w:World} {A:Around} {E:Value→Shared→Prop} {s:Shared}
end
theorem kv_get {κ:Type} {kvs:List (κ×V)} {vs:List (κ×Value)} (h:KV kvs vs):∀ {i:Nat} {k:κ} {v:V},kvs[i]? = some (k,v)→∃ u,vs[i]? = some (k,u)∧RelV v u:=by
 unfold KV at h
 induction h with
 | nil=>intro i k v e; simp at e
 | @cons a b l₁ l₂ r t ih =>
  intro i k v e
  cases i with
  | zero =>
   simp only [List.getElem?_cons_zero,Option.some.injEq] at e
   subst e
   refine ⟨b.2,?_,r.2⟩
   simp only [List.getElem?_cons_zero]
   exact congrArg some (Prod.ext r.1.symm rfl)
  | succ j =>
   simp only [List.getElem?_cons_succ] at e ⊢
   exact ih e
theorem relV_key {k:Key} {u:Value} (h:keyIs k u=true):RelV (kV k) u:=by
 rcases jak h with ⟨i,t,rfl,rfl⟩ | ⟨x,t,rfl,rfl⟩
 ·exact ⟨t,rfl⟩
 ·exact ⟨t,rfl⟩
section
variable {X:Cx} {pins:List (Addr×Obj)} {σ:St} {H:Hp} {s:Shared} {d:Addr} {o:Obj}
theorem Inv.frzK {kvs:List (Key×V)} (I:Inv X pins σ H s) (h:H d=some (.frz o (.dK kvs))) :
  (d == sysModules)=false∧s.heap.get? d=some o∧o.ExactDict∧∃ (es:Array DictEntry) (ep:Nat) (vs:List (Key×Value)),o.data=.dict es ep∧es.size=kvs.length∧KV kvs vs∧s.heap.DictAt (mixKind X.prog X.w) d vs ep:=by
 obtain ⟨hd,z,hs,vs,kv,o',es,ep,ho,hx,hdt,r⟩:=I.hok d _ h
 rw [hd] at ho
 cases ho
 refine ⟨hs,hd,hx,es,ep,vs,hdt,?_,kv,o,es,hd,hx,hdt,r⟩
 have l1:=r.2.1.length
 have l2:kvs.length=vs.length:=Paired.length kv
 rw [Array.length_toList] at l1
 omega
end
noncomputable def Itd (d:Addr) (o:Obj) (kvs:List (Key×V)):It :=
 ⟨fun i H=>H d=some (.frz o (.dK kvs))∧i < kvs.length,fun i H x H'=>H'=H∧∃ k,kvs[i]? = some (k,x),fun i H=>H d=some (.frz o (.dK kvs))∧kvs.length≤i⟩
theorem dict_ep {o:Obj} {es es':Array DictEntry} {ep ep':Nat} (h:o.data=.dict es ep) (h':o.data=.dict es' ep'):es'=es∧ep'=ep:=by
 rw [h] at h'
 cases h'
 exact ⟨rfl,rfl⟩
section
variable {P:Program} {w:World} {K:W.Frag} {tg:Expr} {d:Addr} {o:Obj} {es:Array DictEntry} {ep:Nat}
theorem turn_vals {kvs:List (Key×V)} (it:Addr) (hod:o.data=.dict es ep):Turn P w K tg (Itd d o kvs) [it] it (fun i h=>h.IsValIter it d i kvs.length ep) where
 mem:=by simp
 obj:=fun i h st b hb=>by
  have e:b=it:=by simpa using hb
  subst e
  obtain ⟨oi,e,c,dd⟩:=st
  exact ⟨oi,e,fun v z=>by rw [dd] at z; cases z⟩
 keep:=fun i h h' st k=>st.at fun oi e=>k it (by simp) oi e
 item:=by
  intro X hP hw hK hc i pins s σ H E I hf st hg
  subst hP hw hK
  obtain ⟨hd,hi⟩:=hg
  obtain ⟨f0,f1,f2,f3,f4,f5⟩:=hf it (by simp)
  obtain ⟨hs,hgd,hx,es',ep',vs,hdt,hsz,kv,hm⟩:=I.frzK hd
  obtain ⟨rfl,rfl⟩:=dict_ep hod hdt
  obtain ⟨⟨k,v⟩,hkv⟩:∃ p,kvs[i]? = some p:=⟨kvs[i],List.getElem?_eq_getElem hi⟩
  obtain ⟨u,hu,ru⟩:=kv_get kv hkv
  have hl:kvs.length=vs.length:=Paired.length kv
  rw [hl] at st
  refine wpAny_pyNext_values_item st hm hu fun h' st' sb=>?_
  have I1:Inv X pins σ H { s with heap:=h' }:=I.turned (t':=s.toks) (fun b ob hb e=>(sb.2 b hb).trans e) f0 f1 f3 f4 f5
  obtain ⟨oi,e,c,dd⟩:=id st'
  refine ⟨u,rfl,go_of (s:={ s with heap:=h' }) e c dd (by decide) ⟨v,H,I1,ru,⟨rfl,k,hkv⟩,?_,fun b hb=>(hf b hb).1⟩⟩
  show h'.IsValIter it d (i+1) kvs.length _
  rw [hl]
  exact st'
 done:=by
  intro X hP hw hK hc i pins s σ H E I hf st hg
  subst hP hw hK
  obtain ⟨hd,hi⟩:=hg
  obtain ⟨f0,f1,f2,f3,f4,f5⟩:=hf it (by simp)
  obtain ⟨hs,hgd,hx,es',ep',vs,hdt,hsz,kv,hm⟩:=I.frzK hd
  obtain ⟨rfl,rfl⟩:=dict_ep hod hdt
  have hl:kvs.length=vs.length:=Paired.length kv
  rw [hl] at st
  exact wpAny_pyNext_values_end (I.ok.hd hc) st hm (List.getElem?_eq_none (by omega)) fun h' eb=>⟨rfl,I.turned (t':=s.toks) (fun b ob hb e=>eb b ob hb e) f0 f1 f3 f4 f5⟩
 self:=fun A i s Q E st h=>wpAny_pyIter_valiter st h
end
noncomputable def iVals (td:TE):TI:=fun σ H R=>td σ H fun x H1=>∃ d o kvs,x=.ref d∧H1 d=some (.frz o (.dK kvs))∧R (Itd d o kvs) H1
section
variable {X:Cx} {tg e:Expr} {td:TE} {apos cpos:Pos}
theorem pi_values (he:PE X e td) (hbase:attributeBase e "values" X.env (eval e X.env)=eval e X.env:=by rfl) (hline:(apos.endLine == cpos.line)=true:=by rfl):PI X tg (.Call (.Attribute e "values" apos) [] [] cpos) (iVals td):=by
 intro pins s σ H R I h
 refine wpAny_Call_method (T := "dict") (id := "dict.values") hbase rfl hline F.plainAttrs_dict F.slot_dict_values F.type_dict_values (thn (he pins s σ H _ I h) fun u s1 ⟨x,H1,I1,rx,d,o,kvs,ex,hd,q⟩=>?_)
 subst ex
 obtain rfl:u=Value.ref d:=rx
 obtain ⟨hs,hgd,hx,es,ep,vs,hdt,hsz,kv,hm⟩:=I1.frzK hd
 have hl:kvs.length=vs.length:=Paired.length kv
 refine ⟨hm.dictOf.typeIs,hm.dictOf.mapOf.noDict,?_⟩
 have I2:Inv X pins σ H1 { s1 with heap:=s1.heap.push { cls:=.type "dict_values",data:=.fields #[.ref d] } }:=I1.kept (t':=s1.toks) fun b ob q=>Heap.get?_push_of_some _ q
 have fin:wpAny (model X.prog X.w) X.A (pyIter (.ref s1.heap.objs.size)) (PIE X pins σ tg R) X.xe { s1 with heap:=s1.heap.push { cls:=.type "dict_values",data:=.fields #[.ref d] } }:=by
  refine wpAny_pyIter_values (d:=d) (knd:=mixKind X.prog X.w) ⟨_,Heap.get?_push_size _ rfl,rfl,rfl⟩ (hm.push _) (pi_one (tk:=s1.toks) I2 _ (turn_vals _ hdt) ⟨_,Heap.get?_push_size _ rfl,rfl,?_⟩ q)
  rw [hl] <;> rfl
 show wpAny _ _ (callWith cpos (.builtin "dict.values") [.ref d] [] []) _ X.xe s1
 exact method_meetsIn F.slot_dict_values F.entry_dict_values rfl (PySem.evalArgs_none ⟨rfl,hm.dictOf.typeIs,F.args_dict_values_1 _,_,meets_dict_values (mixKind X.prog X.w) d hs,⟨vs,hm.dictOf⟩,fin⟩)
end
noncomputable def Ite (K:W.Frag) (a:Addr):It :=
 ⟨fun i H=>∃ (xs:List V) (x:V),SqL K H a xs∧xs[i]? = some x,fun i H v H'=>∃ T x,v=.ref T∧H T=none∧H'=upd H T (.tup [.int (i:Nat),x])∧∀ xs,SqL K H a xs→xs[i]? = some x,fun i H=>∃ xs:List V,SqL K H a xs∧xs.length≤i⟩
theorem turn_enum {P:Program} {w:World} {K:W.Frag} {elts:List Expr} {kk:Nat} {tpos:Pos} (a e it:Addr) :
  Turn P w K (.Tuple elts kk tpos) (Ite K a) [e,it] e (fun i h=>(∃ old,IsEnum h e it ((i:Nat):Int) old)∧h.IsListIter it a i∧e≠it) where
 mem:=by simp
 obj:=fun i h st b hb=>by
  obtain ⟨⟨old,he⟩,⟨o,ho,hc,hd⟩,_⟩:=st
  have e':b=e∨b=it:=by simpa using hb
  rcases e' with z | z
  ·rw [z]; exact ⟨_,he,fun v q=>nomatch q⟩
  ·rw [z]; exact ⟨o,ho,fun v q=>by rw [hd] at q; cases q⟩
 keep:=fun i h h' st k=>let ⟨⟨old,he⟩,hi,hne⟩:=st; ⟨⟨old,k e (by simp) _ he⟩,hi.at fun o q=>k it (by simp) o q,hne⟩
 item:=by
  intro X hP hw hK hc i pins s σ H E I hf st hg
  subst hP hw hK
  obtain ⟨⟨old,he⟩,hit,hne⟩:=st
  obtain ⟨xs,x,hq,hx⟩:=hg
  obtain ⟨its,rv,p,hz⟩:=I.list hq
  obtain ⟨u,hu,ru⟩:=rv.get hx
  have hel:e < s.heap.objs.size:=Heap.lt_size he
  have hil:it < s.heap.objs.size:=by obtain ⟨_,q,_⟩:=hit; exact Heap.lt_size q
  refine wpAny_pyNext_enum_item he hit p.isList (x:=u) (by simpa using hu) hne fun h' ho hit' hT hsz hk=>?_
  refine ⟨_,rfl,wpAny_letOwnedTupleGo_enum (s:={ s with heap:=h',toks:=s.toks+1 }) ho fun h'' he' sb=>?_⟩
  have hT2:h''.get? s.heap.objs.size=some { cls:=.type "tuple",data:=.seq #[.int i s.toks,u] }:=(sb.2 _ (Nat.ne_of_gt hel)).trans hT
  have new:ObjOk X.prog X.w (upd H s.heap.objs.size (.tup [.int (i:Nat),x])) h'' s.heap.objs.size (.tup [.int (i:Nat),x]) :=
   ⟨by show 2≤sizeLine; decide,[.int i s.toks,u],.cons ⟨_,rfl⟩ (.cons ru .nil),⟨_,hT2,rfl,_,rfl⟩⟩
  have I1:Inv X pins σ (upd H s.heap.objs.size (.tup [.int (i:Nat),x])) { s with heap:=h'',toks:=s.toks+1 } :=
   I.turnedNew (ch:=[e,it]) (fun b ob hb q=>(sb.2 b (fun z=>hb (by simp [z]))).trans (hk b ob (fun z=>hb (by simp [z])) (fun z=>hb (by simp [z])) q)) hf (Nat.le_refl _) new
  refine ⟨.ref s.heap.objs.size,_,I1,rfl,⟨_,x,rfl,I.hok.fresh (Nat.le_refl _),rfl,fun ys hy=>by rw [I.list_inj hy hq]; exact hx⟩,⟨⟨u,?_⟩,hit'.at fun o q=>(sb.2 it (Ne.symm hne)).trans q,hne⟩,fun b hb=>?_⟩
  ·have e1:((i+1:Nat):Int)=(i:Int)+1:=by omega
   rw [e1]; exact he'
  ·have hb':b < s.heap.objs.size:=by
    have e':b=e∨b=it:=by simpa using hb
    rcases e' with z | z
    ·rw [z]; exact hel
    ·rw [z]; exact hil
   rw [upd_ne (Nat.ne_of_lt hb')]
   exact (hf b hb).1
 done:=by
  intro X hP hw hK hc i pins s σ H E I hf st hg
  subst hP hw hK
  obtain ⟨⟨old,he⟩,hit,hne⟩:=st
  obtain ⟨xs,hq,hx⟩:=hg
  obtain ⟨its,rv,p,hz⟩:=I.list hq
  obtain ⟨f0,f1,f2,f3,f4,f5⟩:=hf it (by simp)
  have hl:=rv.length
  exact wpAny_pyNext_enum_end (I.ok.hd hc) he hit p.isList (by simp; omega) fun h' eb=>⟨rfl,I.turned (t':=s.toks) (fun b o hb q=>eb b o hb q) f0 f1 f3 f4 f5⟩
 self:=fun A i s Q E st h=>let ⟨⟨_,he⟩,_⟩:=st; wpAny_pyIter_enum he h
noncomputable def iEnum (K:W.Frag) (ta:TA):TI:=fun σ H R=>ta σ H fun vs H1=>∃ a xs,vs=[.ref a]∧SqL K H1 a xs∧R (Ite K a) H1
theorem pi_enum {X:Cx} {e:Expr} {ta:TA} {p pos tpos:Pos} {elts:List Expr} {kk:Nat} (hg:Gl X "enumerate") (hm:X.mg "enumerate" = none) (ha:PA X [e] ta) (hs:starEach [e] X.env=[(false,eval e X.env)]:=by rfl) :
  PI X (.Tuple elts kk tpos) (.Call (.Name "enumerate" p) [e] [] pos) (iEnum X.K ta):=by
 intro pins s σ H R I h
 refine Call_ (ld_blt I hg hm boot_enumerate (PyProof.Rows.callWith_type1 (thn (ha pos pins s σ H _ I h) fun us s1 ⟨vs,H1,I1,r1,q1⟩=>?_) hs rfl))
 obtain ⟨a,xs,ex,hq,q⟩:=q1
 subst ex
 cases r1 with
 | cons r rr =>
  cases rr
  cases r
  obtain ⟨its,rv,p',hz⟩:=I1.list hq
  refine call_enumerate_list p'.isList fun h' he hit hsz hk=>wpAny_pyIter_enum he ?_
  have I2:Inv X pins σ H1 { s1 with heap:=h' }:=I1.kept (t':=s1.toks) hk
  refine ⟨s1.heap.objs.size+1,[s1.heap.objs.size+1,s1.heap.objs.size],_,_,H1,rfl,I2,turn_enum a (s1.heap.objs.size+1) s1.heap.objs.size,⟨⟨.none,he⟩,hit,Nat.succ_ne_self _⟩,fun b hb=>?_,q⟩
  have e':b=s1.heap.objs.size+1∨b=s1.heap.objs.size:=by simpa using hb
  have hle:s1.heap.objs.size≤b:=by
   rcases e' with z | z
   ·rw [z]; exact Nat.le_add_right _ _
   ·rw [z]; exact Nat.le_refl _
  exact I1.fpOk hle (I1.hok.fresh hle)
theorem boot_zip5:bootBuiltins "zip" = some (.type "zip"):=by decide +kernel
end L2
section
namespace Bits
open PySem PyProof.Rows
end Bits
end
section
namespace TL
open PySem PySem.Builtin PySem.Builtin.Str PySem.StrLaws
noncomputable abbrev tl (x:Str):List Nat:=x.cps.toList
noncomputable def pre (S l:List Nat):Bool:=l.take S.length == S
noncomputable def par (S:List Nat):List Nat→List Nat→Option (List Nat×List Nat)
 | _,[]=>none
 | acc,c :: r=>if pre S (c :: r)=true then some (acc,(c :: r).drop S.length) else par S (acc ++ [c]) r
end TL
end
namespace L2
open PySem PySem.Spec PyProof.Rows
section
variable {X:Cx} {pins:List (Addr×Obj)} {σ:St} {H:Hp} {s:Shared} {Q:VK}
end
section
variable {X:Cx}
end
section
variable {X:Cx} {o e:Expr} {to te:TE}
end
end L2
namespace L2
open PySem PySem.Spec PyProof.Rows
section
variable {X:Cx}
end
end L2
namespace Att
open PySem PySem.W PySem.Calls PyProof.Rows
section
variable {prog:Program} {w:World} {A:Around} {E:Value→Shared→Prop} {s:Shared} {K:Frag}
end
end Att
namespace L2
open PySem PySem.Spec PyProof.Rows
end L2
namespace L2
open PySem PySem.Spec PyProof.Rows
end L2
namespace L2
open PySem PySem.Spec PyProof.Rows
noncomputable def inClass (s:Stmt) (j:Nat):Stmt:=match s with
 | .ClassDef _ _ _ body _ _ _ _ _ _ _=>body.getD j (.Pass ⟨0,0,0,0⟩)
 | _=>.Pass ⟨0,0,0,0⟩
noncomputable def defArgs (s:Stmt):Arguments:=match s with
 | .FunctionDef _ a _ _ _ _ _ _ _ _=>a
 | _=>{ posonlyargs:=[],args:=[],vararg:=none,kwonlyargs:=[],kw_defaults:=[],kwarg:=none,defaults:=[] }
noncomputable def defBody (s:Stmt):List Stmt:=match s with
 | .FunctionDef _ _ b _ _ _ _ _ _ _=>b
 | _=>[]
noncomputable def defScope (s:Stmt):Scope:=match s with
 | .FunctionDef _ _ _ _ _ _ sc _ _ _=>sc
 | _=>{ kind:=.function,names:=[],isGenerator:=false,isCoroutine:=false }
noncomputable abbrev CX0:CXT:=fun _ _ _ _ _ _=>False
noncomputable abbrev E0:XK:=fun _ _ _=>False
theorem pass0 {X:Cx}:Passes CX0 X E0:=fun _ _ _ _ _ _ _ h=>h.elim
structure Fun (K:W.Frag) (x qual:Str) (st:Stmt) (f:Addr) (fd:FuncData):Prop where
 ex:∃ (oc:Value) (od:Option Addr) (kV doc pm:Value) (an:Option Addr) (cdv ct:Value) (osl:Array (Option Value)),
  fd=PySem.W.fnOf x qual (defArgs st) (defBody st) (defScope st) .none kV doc pm an cdv ct∧K.lookup f=some ⟨oc,od,.func fd,osl⟩∧PySem.W.codeIn K cdv qual=true
 kp:PySem.W.keepIn K (.ref f)=true
section
variable {P:Program} {w:World} {K:W.Frag} {mg:Str→Option Value} {base:Heap}
theorem Fun.ok {x qual:Str} {st:Stmt} {f:Addr} {fd:FuncData} {N ps:List Str} {k:Nat} {sp:Sp} (F:Fun K x qual st f fd) (S:FnScope N ps (defScope st)) (len:∀ vs H Q E,sp vs H Q E→vs.length=ps.length)
  (hbody:∀ (cdv:Value) (A:Around) (outer:List Env) (s:Shared) (H:Hp) (vs:List V) (Q:VK) (E:XK),Room k (A.deeper (envOfC qual (defScope st) s.heap.objs.size f cdv))→sp vs H Q E →
   ∃ t,PSs (cxOf CX0 P w K mg base N qual (defScope st) f cdv A outer s H E).nox (defBody st) t∧t { nx:=fun _ H'=>Q .non H',rt:=Q } (start N vs) H):FnOk P w K mg base CX0 (k+1) f fd ps sp:=by
 obtain ⟨oc,od,kV,doc,pm,an,cdv,ct,osl,rfl,lk,hcd⟩:=F.ex
 refine fn_of lk hcd S len fun A outer s H vs Q E hr hsp=>?_
 obtain ⟨t,h,q⟩:=hbody cdv A outer s H vs Q E hr hsp
 exact ⟨t,h.nox,q⟩
theorem Fun.binds {x qual:Str} {st:Stmt} {f:Addr} {fd:FuncData} {ps:List Str} (F:Fun K x qual st f fd)
  (h:∀ (kV doc pm:Value) (an:Option Addr) (cdv ct:Value) (us:List Value),us.length=ps.length→bindArgs (PySem.W.fnOf x qual (defArgs st) (defBody st) (defScope st) .none kV doc pm an cdv ct) ⟨us,[]⟩=pure (ps.zip us)):Binds K fd ps []:=by
 obtain ⟨oc,od,kV,doc,pm,an,cdv,ct,osl,rfl,lk,hcd⟩:=F.ex
 exact .all (h kV doc pm an cdv ct)
end
theorem hu_of {A:Around} {k:Nat} (hr:Room k A):A.units+1 < cLine:=Nat.lt_of_le_of_lt (Nat.add_le_add_left (by decide:1≤64) _) hr.units
section
variable {X:Cx}
theorem call_lenD:CallR X (.builtin "len") (fun xs H Q=>∃ a kvs,xs=[V.ref a]∧H a=some (.dK kvs)∧Q (.int kvs.length) H):=by
 intro pins s σ H xs us Q I r h
 obtain ⟨a,kvs,rfl,ha,q⟩:=h
 obtain ⟨u,rfl,ru⟩:=vals1 r
 cases ru
 exact d_len I (.inl ha) fun t s' I'=>⟨.int kvs.length,H,I',⟨t,rfl⟩,q⟩
end
noncomputable def Same (H H':Hp):Prop:=∀ b o,H b=some o→H' b=some o
theorem Same.trans {H H1 H2:Hp} (a:Same H H1) (b:Same H1 H2):Same H H2:=fun c o h=>b c o (a c o h)
theorem Same.free {H H':Hp} (e:Same H H') {l:Addr} (h:H' l=Option.none):H l=Option.none:=by
 cases q:H l with
 | none=>rfl
 | some o =>
  rw [e l o q] at h
  cases h
theorem Same.seq {K:W.Frag} {H H':Hp} {a:Addr} {xs:List V} (e:Same H H') (h:SqL K H a xs):SqL K H' a xs:=by
 rcases h with (h | ⟨o,h⟩) | h
 ·exact .inl (.inl (e _ _ h))
 ·exact .inl (.inr ⟨o,e _ _ h⟩)
 ·exact .inr h
section
variable {κ:Type} [DecidableEq κ]
end
theorem nd_ix {α:Type} {l:List α} (hN:l.Nodup) {i j:Nat} {x:α} (a:l[i]? = some x) (b:l[j]? = some x):i=j:=by
 obtain ⟨h1,e1⟩:=List.getElem?_eq_some_iff.mp a
 obtain ⟨h2,e2⟩:=List.getElem?_eq_some_iff.mp b
 exact (List.getElem_inj hN).mp (e1.trans e2.symm)
end L2
section
set_option Elab.async false
set_option linter.all false
set_option maxRecDepth 100000
set_option maxHeartbeats 2000000
namespace L2
open PySem PySem.Spec PyProof.Rows
open PySem.W (WData Codec OpenSpec Well WellAll ReadsW ReadsAllW)
mutual
inductive Dw (K:W.Frag) (H:Hp):V→WData→Prop
 | non:Dw K H .non .none
 | bl (b:Bool):Dw K H (.bl b) (.bool b)
 | int (i:Int):Dw K H (.int i) (.int i)
 | str (x:Str):Dw K H (.str x) (.str x)
 | byt (b:Array UInt8):Dw K H (.byt b) (.bytes b.toList)
 | lst {a:Addr} {xs:List V} {ds:List WData}:SqL K H a xs→DwAll K H xs ds→Dw K H (.ref a) (.list ds)
 | tup {a:Addr} {xs:List V} {ds:List WData}:SqT K H a xs→DwAll K H xs ds→Dw K H (.ref a) (.tuple ds)
inductive DwAll (K:W.Frag) (H:Hp):List V→List WData→Prop
 | nil:DwAll K H [] []
 | cons {v:V} {vs:List V} {d:WData} {ds:List WData}:Dw K H v d→DwAll K H vs ds→DwAll K H (v :: vs) (d :: ds)
end
theorem dw_ints {K:W.Frag} {H:Hp}:∀ ns:List Int,DwAll K H (ns.map V.int) (ns.map WData.int)
 | []=>.nil
 | n :: r=>.cons (.int n) (dw_ints r)
theorem ints_dw {K:W.Frag} {H:Hp}:∀ (ns:List Int) (xs:List V),DwAll K H xs (ns.map WData.int)→xs=ns.map V.int
 | [],xs,h=>by
  cases h
  rfl
 | n :: r,xs,h=>by
  cases h with
  | cons h1 h2 =>
   cases h1
   rw [ints_dw r _ h2] <;> rfl
section
variable {P:Program} {w:World} {K:W.Frag} {H:Hp} {h:Heap} {R:PySem.W.WRecords} {cl:Str→Option Addr}
theorem sqL_at {a:Addr} {xs:List V} (hok:HOk P w H h) (KX:K.In h) (q:SqL K H a xs):∃ (its:List Value) (o:Obj) (n:Nat),Vals xs its∧h.get? a=some o∧o.cls=.type "list"∧o.data=.seq its.toArray n:=by
 rcases q with q | ⟨o,its,n,e,hc,_,hd,_,hv⟩
 ·obtain ⟨_,its,n,hv,e⟩:=(show ObjOk P w H h a (.lst xs) from q.ok hok)
  exact ⟨its,_,n,hv,e,rfl,rfl⟩
 ·exact ⟨its.toList,o,n,hv,KX _ _ e,hc,by simp [hd]⟩
theorem sqT_at {a:Addr} {xs:List V} (hok:HOk P w H h) (KX:K.In h) (q:SqT K H a xs):∃ (its:List Value) (o:Obj) (n:Nat),Vals xs its∧h.get? a=some o∧o.cls=.type "tuple"∧o.data=.seq its.toArray n:=by
 rcases q with q | ⟨o,its,n,e,hc,hd,_,hv⟩
 ·obtain ⟨_,its,hv,o,e,hc,n,hd⟩:=(show ObjOk P w H h a (.tup xs) from q.ok hok)
  exact ⟨its,o,n,hv,e,hc,hd⟩
 ·exact ⟨its.toList,o,n,hv,KX _ _ e,hc,by simp [hd]⟩
mutual
theorem Dw.reads (hok:HOk P w H h) (KX:K.In h):∀ (d:WData) (v:V) (u:Value),Dw K H v d→RelV v u→∃ as,ReadsW R cl h u d as
 | .none,_,_,x,r=>by
  cases x
  cases r
  exact ⟨_,ReadsW.none⟩
 | .bool b,_,_,x,r=>by
  cases x
  cases r
  exact ⟨_,ReadsW.bool b⟩
 | .int i,_,_,x,r=>by
  cases x
  obtain ⟨t,rfl⟩:=r
  exact ⟨_,ReadsW.int i t⟩
 | .str s,_,_,x,r=>by
  cases x
  obtain ⟨t,rfl⟩:=r
  exact ⟨_,ReadsW.str s t⟩
 | .bytes b,_,_,x,r=>by
  cases x
  obtain ⟨t,rfl⟩:=r
  exact ⟨_,ReadsW.bytes _ t⟩
 | .list ds,_,_,x,r=>by
  cases x with
  | lst hs ha =>
   cases r
   obtain ⟨its,o,n,rv,ho,hc,hd⟩:=sqL_at hok KX hs
   obtain ⟨as,hr⟩:=Dw.readsAll hok KX ds _ its ha rv
   exact ⟨_,ReadsW.list ho hc hd hr⟩
 | .tuple ds,_,_,x,r=>by
  cases x with
  | tup hs ha =>
   cases r
   obtain ⟨its,o,n,rv,ho,hc,hd⟩:=sqT_at hok KX hs
   obtain ⟨as,hr⟩:=Dw.readsAll hok KX ds _ its ha rv
   exact ⟨_,ReadsW.tuple ho hc hd hr⟩
 | .float _,_,_,x,_=>by cases x
 | .dict _,_,_,x,_=>by cases x
 | .bytearray _,_,_,x,_=>by cases x
 | .set _,_,_,x,_=>by cases x
 | .frozenset _,_,_,x,_=>by cases x
 | .obj _ _,_,_,x,_=>by cases x
theorem Dw.readsAll (hok:HOk P w H h) (KX:K.In h):∀ (ds:List WData) (vs:List V) (us:List Value),DwAll K H vs ds→Vals vs us→∃ as,ReadsAllW R cl h us ds as
 | [],_,_,x,r=>by
  cases x
  cases r
  exact ⟨_,ReadsAllW.nil⟩
 | d :: ds,_,_,x,r=>by
  cases x with
  | cons h1 h2 =>
   cases r with
   | cons r1 r2 =>
    obtain ⟨as,q1⟩:=Dw.reads hok KX d _ _ h1 r1
    obtain ⟨bs,q2⟩:=Dw.readsAll hok KX ds _ _ h2 r2
    exact ⟨_,ReadsAllW.cons q1 q2⟩
end
end
mutual
noncomputable def plW:WData→Bool
 | .none=>true
 | .bool _=>true
 | .int _=>true
 | .str _=>true
 | .bytes _=>true
 | .list xs=>plWs xs
 | .tuple xs=>plWs xs
 | _=>false
noncomputable def plWs:List WData→Bool
 | []=>true
 | x :: r=>plW x && plWs r
end
theorem plWs_map {α:Type} {f:α→WData} (h:∀ a,plW (f a)=true):∀ l:List α,plWs (l.map f)=true
 | []=>rfl
 | x :: r=>by
  show (plW (f x) && plWs (r.map f))=true
  rw [h x,plWs_map h r] <;> rfl
theorem pl_enc:∀ (c:Codec) (a:c.denote),plW (c.enc a)=true
 | .unit,_=>rfl
 | .bool,_=>rfl
 | .int _ _,_=>rfl
 | .nat _ _,_=>rfl
 | .u8,_=>rfl
 | .bytes _ _,_=>rfl
 | .text _ _ _ _,_=>rfl
 | .list _ _ c,a=>plWs_map (fun x=>pl_enc c x) a
 | .pair c d,a=>by
  show (plW (c.enc a.1) && (plW (d.enc a.2) && true))=true
  rw [pl_enc c a.1,pl_enc d a.2] <;> rfl
 | .triple c d e,a=>by
  show (plW (c.enc a.1) && (plW (d.enc a.2.1) && (plW (e.enc a.2.2) && true)))=true
  rw [pl_enc c a.1,pl_enc d a.2.1,pl_enc e a.2.2] <;> rfl
 | .option c,none=>rfl
 | .option c,some x=>pl_enc c x
theorem pl_encAll:∀ (cs:List Codec) (a:Codec.denoteAll cs),plWs (Codec.encAll cs a)=true
 | [],_=>rfl
 | c :: cs,a=>by
  show (plW (c.enc a.1) && plWs (Codec.encAll cs a.2))=true
  rw [pl_enc c a.1,pl_encAll cs a.2] <;> rfl
theorem jb5:∀ {xs:List WData} {d:WData},d ∈ xs→d.weight≤WData.weightAll xs
 | [],d,h=>absurd h (by simp)
 | x :: r,d,h=>by
  show d.weight≤x.weight+1+WData.weightAll r
  rcases List.mem_cons.mp h with e | m
  ·rw [e]
   omega
  ·have z:=jb5 m
   omega
noncomputable def toV:Value→V
 | .none=>.non
 | .bool b=>.bl b
 | .int i _=>.int i
 | .str x _=>.str x
 | .bytes b _=>.byt b
 | .ref a=>.ref a
 | _=>.non
noncomputable def OkU (A:List Addr):Value→Prop
 | .none=>True
 | .bool _=>True
 | .int _ _=>True
 | .str _ _=>True
 | .bytes _ _=>True
 | .ref a=>a ∈ A
 | _=>False
theorem OkU.mono {A B:List Addr} (h:∀ a ∈ A,a ∈ B):∀ {u:Value},OkU A u→OkU B u:=fun {u} x=>by
 cases u with
 | ref a=>exact h a x
 | none=>trivial
 | bool b=>trivial
 | int i t=>trivial
 | str s t=>trivial
 | bytes b t=>trivial
 | _=>exact False.elim x
theorem relV_toV {A:List Addr} {u:Value} (x:OkU A u):RelV (toV u) u:=by
 cases u with
 | ref a=>rfl
 | none=>rfl
 | bool b=>rfl
 | int i t=>exact ⟨t,rfl⟩
 | str s t=>exact ⟨t,rfl⟩
 | bytes b t=>exact ⟨t,rfl⟩
 | _=>exact False.elim x
theorem jbi {A:List Addr}:∀ {vs:List Value},(∀ u ∈ vs,OkU A u)→Vals (vs.map toV) vs
 | [],_=>.nil
 | u :: r,h=>.cons (relV_toV (h u (List.mem_cons_self ..))) (jbi fun x hx=>h x (List.mem_cons_of_mem _ hx))
noncomputable def ArgOb (h:Heap) (A:List Addr) (a:Addr):Prop:=∃ vs:List Value,vs.length≤sizeLine∧(∀ u ∈ vs,OkU A u) ∧
 (h.get? a=some { cls:=.type "list",data:=.seq vs.toArray }∨h.get? a=some { cls:=.type "tuple",data:=.seq vs.toArray })
theorem ArgOb.mono {h:Heap} {A B:List Addr} {a:Addr} (k:∀ a ∈ A,a ∈ B) (x:ArgOb h A a):ArgOb h B a:=by
 obtain ⟨vs,h1,h2,h3⟩:=x
 exact ⟨vs,h1,fun u hu=>(h2 u hu).mono k,h3⟩
theorem ja8 {P:Params} {h:Heap}:∀ {vs:List Value} {ds:List WData},WellAll P h vs ds→vs.length=ds.length
 | _,_,.nil=>rfl
 | _,_,.cons _ b=>by
  show _+1=_+1
  rw [ja8 b]
theorem well_list {P:Params} {h:Heap} {v:Value} {ds:List WData} (x:Well P h v (.list ds)):∃ (a:Addr) (vs:List Value),v=.ref a∧h.get? a=some { cls:=.type "list",data:=.seq vs.toArray }∧WellAll P h vs ds:=by
 cases x with
 | list ho hall=>exact ⟨_,_,rfl,ho,hall⟩
theorem well_tuple {P:Params} {h:Heap} {v:Value} {ds:List WData} (x:Well P h v (.tuple ds)):∃ (a:Addr) (vs:List Value),v=.ref a∧h.get? a=some { cls:=.type "tuple",data:=.seq vs.toArray }∧WellAll P h vs ds:=by
 cases x with
 | tuple ho hall=>exact ⟨_,_,rfl,ho,hall⟩
theorem well_cons {P:Params} {h:Heap} {us:List Value} {d:WData} {ds:List WData} (x:WellAll P h us (d :: ds)):∃ (v:Value) (vs:List Value),us=v :: vs∧Well P h v d∧WellAll P h vs ds:=by
 cases x with
 | cons a b=>exact ⟨_,_,rfl,a,b⟩
theorem line_of {n:Nat} (h:n≤1048576):n≤sizeLine:=Nat.le_trans h (by decide)
section
variable {P:Params} {h:Heap}
mutual
theorem area_one:∀ (d:WData) (v:Value),Well P h v d→plW d=true→d.weight≤1048576→∃ A:List Addr,OkU A v∧∀ a ∈ A,ArgOb h A a
 | .none,_,x,_,_=>by
  cases x
  exact ⟨[],trivial,fun a m=>absurd m (by simp)⟩
 | .bool b,_,x,_,_=>by
  cases x
  exact ⟨[],trivial,fun a m=>absurd m (by simp)⟩
 | .int i,_,x,_,_=>by
  cases x
  exact ⟨[],trivial,fun a m=>absurd m (by simp)⟩
 | .str s,_,x,_,_=>by
  cases x
  exact ⟨[],trivial,fun a m=>absurd m (by simp)⟩
 | .bytes b,_,x,_,_=>by
  cases x
  exact ⟨[],trivial,fun a m=>absurd m (by simp)⟩
 | .list ds,_,x,p,z=>by
  obtain ⟨a,vs,rfl,ho,hall⟩:=well_list x
  have z2:WData.weightAll ds≤1048576:=z
  obtain ⟨A,h1,h2⟩:=jcl ds _ hall p fun d hd=>Nat.le_trans (jb5 hd) z2
  have k:∀ b ∈ A,b ∈ a :: A:=fun b hb=>List.mem_cons_of_mem _ hb
  refine ⟨a :: A,List.mem_cons_self ..,fun b hb=>?_⟩
  rcases List.mem_cons.mp hb with e | m
  ·rw [e]
   exact ⟨vs,line_of (by rw [ja8 hall]; exact Nat.le_trans (PySem.W.length_le_weightAllW ds) z2),fun u hu=>(h1 u hu).mono k,.inl ho⟩
  ·exact (h2 b m).mono k
 | .tuple ds,_,x,p,z=>by
  obtain ⟨a,vs,rfl,ho,hall⟩:=well_tuple x
  have z2:WData.weightAll ds≤1048576:=z
  obtain ⟨A,h1,h2⟩:=jcl ds _ hall p fun d hd=>Nat.le_trans (jb5 hd) z2
  have k:∀ b ∈ A,b ∈ a :: A:=fun b hb=>List.mem_cons_of_mem _ hb
  refine ⟨a :: A,List.mem_cons_self ..,fun b hb=>?_⟩
  rcases List.mem_cons.mp hb with e | m
  ·rw [e]
   exact ⟨vs,line_of (by rw [ja8 hall]; exact Nat.le_trans (PySem.W.length_le_weightAllW ds) z2),fun u hu=>(h1 u hu).mono k,.inr ho⟩
  ·exact (h2 b m).mono k
 | .float _,_,_,p,_=>Bool.noConfusion (show false=true from p)
 | .dict _,_,_,p,_=>Bool.noConfusion (show false=true from p)
 | .bytearray _,_,_,p,_=>Bool.noConfusion (show false=true from p)
 | .set _,_,_,p,_=>Bool.noConfusion (show false=true from p)
 | .frozenset _,_,_,p,_=>Bool.noConfusion (show false=true from p)
 | .obj _ _,_,_,p,_=>Bool.noConfusion (show false=true from p)
theorem jcl:∀ (ds:List WData) (vs:List Value),WellAll P h vs ds→plWs ds=true→(∀ d ∈ ds,d.weight≤1048576)→∃ A:List Addr,(∀ u ∈ vs,OkU A u)∧∀ a ∈ A,ArgOb h A a
 | [],_,x,_,_=>by
  cases x
  exact ⟨[],fun u m=>absurd m (by simp),fun a m=>absurd m (by simp)⟩
 | d :: ds,_,x,p,z=>by
  obtain ⟨v,vs,rfl,x1,x2⟩:=well_cons x
  have q:plW d=true∧plWs ds=true:=Bool.and_eq_true_iff.mp p
  obtain ⟨A,a1,a2⟩:=area_one d v x1 q.1 (z d (List.mem_cons_self ..))
  obtain ⟨B,b1,b2⟩:=jcl ds vs x2 q.2 fun e he=>z e (List.mem_cons_of_mem _ he)
  have kA:∀ b ∈ A,b ∈ A ++ B:=fun b hb=>List.mem_append.mpr (.inl hb)
  have kB:∀ b ∈ B,b ∈ A ++ B:=fun b hb=>List.mem_append.mpr (.inr hb)
  refine ⟨A ++ B,fun u hu=>?_,fun b hb=>?_⟩
  ·rcases List.mem_cons.mp hu with e | m
   ·rw [e]
    exact a1.mono kA
   ·exact (b1 u m).mono kB
  ·rcases List.mem_append.mp hb with m | m
   ·exact (a2 b m).mono kA
   ·exact (b2 b m).mono kB
end
end
noncomputable def hoOf (o:Obj):Option HO:=match o.data with
 | .seq vs _=>if (o.cls == Value.type "list")=true then some (.frz o (.lst (vs.toList.map toV))) else some (.frz o (.tup (vs.toList.map toV)))
 | _=>none
noncomputable def argH (K:W.Frag) (h:Heap) (A:List Addr):Hp:=fun b=>if b ∈ A then (if (K.lookup b).isNone=true then (h.get? b).bind hoOf else none) else none
noncomputable def OnlyF (H:Hp):Prop:=∀ b,H b=none∨∃ o u,H b=some (.frz o u)
theorem hoOf_lst (vs:List Value):hoOf { cls:=.type "list",data:=.seq vs.toArray }=some (.frz { cls:=.type "list",data:=.seq vs.toArray } (.lst (vs.map toV))):=by
 show (if (Value.type "list" == Value.type "list")=true then some (HO.frz { cls:=.type "list",data:=.seq vs.toArray } (.lst (vs.toArray.toList.map toV))) else some (HO.frz { cls:=.type "list",data:=.seq vs.toArray } (.tup (vs.toArray.toList.map toV))))=_
 rw [if_pos (beq_self_eq_true _)]
theorem hoOf_tup (vs:List Value):hoOf { cls:=.type "tuple",data:=.seq vs.toArray }=some (.frz { cls:=.type "tuple",data:=.seq vs.toArray } (.tup (vs.map toV))):=by
 show (if (Value.type "tuple" == Value.type "list")=true then some (HO.frz { cls:=.type "tuple",data:=.seq vs.toArray } (.lst (vs.toArray.toList.map toV))) else some (HO.frz { cls:=.type "tuple",data:=.seq vs.toArray } (.tup (vs.toArray.toList.map toV))))=_
 rw [if_neg (by decide)]
section
variable {P:Program} {w:World} {K:W.Frag} {h:Heap} {A:List Addr}
theorem argH_at {b:Addr} {o:Obj} (hb:b ∈ A) (hk:K.lookup b=none) (e:h.get? b=some o):argH K h A b=hoOf o:=by
 unfold argH
 rw [if_pos hb,hk,if_pos (show (none:Option Obj).isNone=true from rfl),e] <;> rfl
theorem of_argH {b:Addr} {u:HO} (q:argH K h A b=some u):b ∈ A∧K.lookup b=none:=by
 unfold argH at q
 by_cases hb:b ∈ A
 ·rw [if_pos hb] at q
  cases hk:K.lookup b with
  | none=>exact ⟨hb,rfl⟩
  | some o =>
   rw [hk,if_neg (by simp)] at q
   cases q
 ·rw [if_neg hb] at q
  cases q
theorem argH_is (ar:∀ a ∈ A,ArgOb h A a) {b:Addr} {u:HO} (q:argH K h A b=some u):K.lookup b=none∧∃ vs:List Value,vs.length≤sizeLine∧(∀ u ∈ vs,OkU A u) ∧
  ((h.get? b=some { cls:=.type "list",data:=.seq vs.toArray }∧u=.frz { cls:=.type "list",data:=.seq vs.toArray } (.lst (vs.map toV))) ∨
    (h.get? b=some { cls:=.type "tuple",data:=.seq vs.toArray }∧u=.frz { cls:=.type "tuple",data:=.seq vs.toArray } (.tup (vs.map toV)))):=by
 obtain ⟨hb,hk⟩:=of_argH q
 obtain ⟨vs,h1,h2,h3⟩:=ar b hb
 refine ⟨hk,vs,h1,h2,?_⟩
 rcases h3 with e | e
 ·rw [argH_at hb hk e,hoOf_lst] at q
  exact .inl ⟨e,(Option.some.inj q).symm⟩
 ·rw [argH_at hb hk e,hoOf_tup] at q
  exact .inr ⟨e,(Option.some.inj q).symm⟩
theorem argH_only (ar:∀ a ∈ A,ArgOb h A a):OnlyF (argH K h A):=fun b=>by
 cases q:argH K h A b with
 | none=>exact .inl rfl
 | some u =>
  obtain ⟨_,vs,_,_,⟨_,e⟩ | ⟨_,e⟩⟩:=argH_is ar q
  ·exact .inr ⟨_,_,by rw [e]⟩
  ·exact .inr ⟨_,_,by rw [e]⟩
theorem argH_ok (ar:∀ a ∈ A,ArgOb h A a):HOk P w (argH K h A) h:=fun b u q=>by
 obtain ⟨_,vs,h1,h2,⟨e,rfl⟩ | ⟨e,rfl⟩⟩:=argH_is ar q
 ·exact ⟨e,by rw [List.length_map]; exact h1,vs,_,jbi h2,e⟩
 ·exact ⟨e,by rw [List.length_map]; exact h1,vs,jbi h2,_,e,rfl,_,rfl⟩
theorem seq_inj {c c':Value} {vs us:List Value} (e:(some { cls:=c,data:=.seq vs.toArray }:Option Obj)=some { cls:=c',data:=.seq us.toArray }):c=c'∧vs=us:=by
 have e1:=Option.some.inj e
 have e2:c=c':=congrArg Obj.cls e1
 have e3:Data.seq vs.toArray=Data.seq us.toArray:=congrArg Obj.data e1
 injection e3 with e4
 refine ⟨e2,?_⟩
 have e5:=congrArg Array.toList e4
 simpa using e5
theorem argL (KX:K.In h) (ar:∀ a ∈ A,ArgOb h A a) {a:Addr} {vs:List Value} (ha:a ∈ A) (e:h.get? a=some { cls:=.type "list",data:=.seq vs.toArray }):(∀ u ∈ vs,OkU A u)∧SqL K (argH K h A) a (vs.map toV):=by
 obtain ⟨us,h1,h2,h3⟩:=ar a ha
 have hu:us=vs:=by
  rcases h3 with q | q
  ·rw [e] at q
   exact (seq_inj q).2.symm
  ·rw [e] at q
   exact absurd (Value.type.inj (seq_inj q).1) (by decide)
 subst hu
 refine ⟨h2,?_⟩
 cases hk:K.lookup a with
 | none=>exact .inl (.inr ⟨_,by rw [argH_at ha hk e,hoOf_lst]⟩)
 | some o =>
  have e2:=KX a o hk
  rw [e] at e2
  obtain rfl:=Option.some.inj e2
  exact .inr ⟨_,us.toArray,_,hk,rfl,rfl,rfl,by rw [List.size_toArray]; exact h1,by simpa using jbi h2⟩
theorem argT (KX:K.In h) (ar:∀ a ∈ A,ArgOb h A a) {a:Addr} {vs:List Value} (ha:a ∈ A) (e:h.get? a=some { cls:=.type "tuple",data:=.seq vs.toArray }):(∀ u ∈ vs,OkU A u)∧SqT K (argH K h A) a (vs.map toV):=by
 obtain ⟨us,h1,h2,h3⟩:=ar a ha
 have hu:us=vs:=by
  rcases h3 with q | q
  ·rw [e] at q
   exact absurd (Value.type.inj (seq_inj q).1) (by decide)
  ·rw [e] at q
   exact (seq_inj q).2.symm
 subst hu
 refine ⟨h2,?_⟩
 cases hk:K.lookup a with
 | none=>exact .inl (.inr ⟨_,by rw [argH_at ha hk e,hoOf_tup]⟩)
 | some o =>
  have e2:=KX a o hk
  rw [e] at e2
  obtain rfl:=Option.some.inj e2
  exact .inr ⟨_,us.toArray,_,hk,rfl,rfl,by rw [List.size_toArray]; exact h1,by simpa using jbi h2⟩
mutual
theorem dw_one {Pm:Params} (KX:K.In h) (ar:∀ a ∈ A,ArgOb h A a):∀ (d:WData) (v:Value),Well Pm h v d→plW d=true→OkU A v→Dw K (argH K h A) (toV v) d
 | .none,_,x,_,_=>by
  cases x
  exact .non
 | .bool b,_,x,_,_=>by
  cases x
  exact .bl b
 | .int i,_,x,_,_=>by
  cases x
  exact .int i
 | .str s,_,x,_,_=>by
  cases x
  exact .str s
 | .bytes b,_,x,_,_=>by
  cases x
  have z:=Dw.byt (K:=K) (H:=argH K h A) b.toArray
  exact z
 | .list ds,_,x,p,hu=>by
  obtain ⟨a,vs,rfl,ho,hall⟩:=well_list x
  obtain ⟨h2,hs⟩:=argL KX ar hu ho
  exact .lst hs (dw_all KX ar ds _ hall p h2)
 | .tuple ds,_,x,p,hu=>by
  obtain ⟨a,vs,rfl,ho,hall⟩:=well_tuple x
  obtain ⟨h2,hs⟩:=argT KX ar hu ho
  exact .tup hs (dw_all KX ar ds _ hall p h2)
 | .float _,_,_,p,_=>Bool.noConfusion (show false=true from p)
 | .dict _,_,_,p,_=>Bool.noConfusion (show false=true from p)
 | .bytearray _,_,_,p,_=>Bool.noConfusion (show false=true from p)
 | .set _,_,_,p,_=>Bool.noConfusion (show false=true from p)
 | .frozenset _,_,_,p,_=>Bool.noConfusion (show false=true from p)
 | .obj _ _,_,_,p,_=>Bool.noConfusion (show false=true from p)
theorem dw_all {Pm:Params} (KX:K.In h) (ar:∀ a ∈ A,ArgOb h A a):∀ (ds:List WData) (vs:List Value),WellAll Pm h vs ds→plWs ds=true→(∀ u ∈ vs,OkU A u)→DwAll K (argH K h A) (vs.map toV) ds
 | [],_,x,_,_=>by
  cases x
  exact .nil
 | d :: ds,_,x,p,hu=>by
  obtain ⟨v,vs,rfl,x1,x2⟩:=well_cons x
  have q:plW d=true∧plWs ds=true:=Bool.and_eq_true_iff.mp p
  exact .cons (dw_one KX ar d v x1 q.1 (hu _ (List.mem_cons_self ..))) (dw_all KX ar ds vs x2 q.2 fun u m=>hu u (List.mem_cons_of_mem _ m))
end
end
theorem spec_call {P:Program} {w:World} {K:W.Frag} {mg mb:Str→Option Value} {CX:CXT} {k:Nat} {fa:Addr} {fd:FuncData} {ps:List Str} {sp:Sp} {s₁:Shared} {vals:List Value} {ds:List WData} {R:PySem.W.WRecords} {cl:Str→Option Addr} {d0:WData}
  (KX:K.In s₁.heap) (hns:s₁.heap.Ns mainGlobals mg) (hb:s₁.heap.Ns builtinsNs mb) (hbb:∀ x:Str,x≠"__name__"→mb x=bootBuiltins x) (hlim:s₁.heap.NoLimit) (hg:s₁.gens=#[])
  (hwl:WellAll w.params s₁.heap vals ds) (hpl:plWs ds=true) (hwt:∀ d ∈ ds,d.weight≤1048576) (hr:Room k callerA)
  (F:∀ base:Heap,K.In base→base.Ns mainGlobals mg→FnOk P w K mg base CX k fa fd ps sp) (hbind:∀ (s:Shared) (us:List Value),us.length=ps.length→BindsTo s fd ⟨us,[]⟩ (ps.zip us)) (hlen:ds.length=ps.length)
  (hsp:∀ (H:Hp) (xs:List V),OnlyF H→DwAll K H xs ds→sp xs H (fun v H'=>Dw K H' v d0) fun _ _ _=>False)
  (hCX:∀ H e s',CX [] H s₁ (fun _ _ _=>False) e s'→False) :
  codeAny (model P w) callerA (.call (.ref fa) ⟨vals,[]⟩) (fun r s'=>∃ u as,r=.ok (.ret u)∧ReadsW R cl s'.heap u d0 as∧OldK s₁.heap s'.heap∧s'.os=s₁.os∧AllBare s'.gens) s₁:=by
 obtain ⟨A,ho,ar⟩:=jcl ds vals hwl hpl hwt
 have hO:OnlyF (argH K s₁.heap A):=argH_only ar
 have hok:HOk P w (argH K s₁.heap A) s₁.heap:=argH_ok ar
 have hS:=dw_all KX ar ds vals hwl hpl ho
 have hV:=jbi ho
 have hK:∀ b u,argH K s₁.heap A b=some u→K.lookup b=none:=fun b u q=>(argH_is ar q).1
 have noA:∀ {b:Addr} {o:Obj} {es:Array DictEntry} {ep:Nat},s₁.heap.get? b=some o→o.data=.dict es ep→argH K s₁.heap A b=none:=fun {b o es ep} e d=>by
  cases q:argH K s₁.heap A b with
  | none=>rfl
  | some u =>
   obtain ⟨_,vs,_,_,⟨e2,_⟩ | ⟨e2,_⟩⟩:=argH_is ar q
   ·rw [e2] at e
    cases e
    have d':Data.seq vs.toArray _=Data.dict es ep:=d
    cases d'
   ·rw [e2] at e
    cases e
    have d':Data.seq vs.toArray _=Data.dict es ep:=d
    cases d'
 generalize argH K s₁.heap A=H at hO hok hS hK noA
 have ja3:∀ {b:Addr} {o:Obj},s₁.heap.get? b=some o→H b=none→(hidT s₁.heap H).get? b=some o:=fun e n=>hidT_get e n
 have nsK:∀ {b:Addr} {m:Str→Option Value},s₁.heap.Ns b m→(hidT s₁.heap H).Ns b m:=fun {b m} ⟨o,es,ep,e,d,r⟩=>⟨o,es,ep,ja3 e (noA e d),d,r⟩
 have nK:∀ b o,K.lookup b=some o→H b=none:=fun b o e=>by
  cases q:H b with
  | none=>rfl
  | some u =>
   rw [hK b u q] at e
   cases e
 have hKb:K.In (hidT s₁.heap H):=fun b o e=>ja3 (KX b o e) (nK b o e)
 have hM:Mod K mg (hidT s₁.heap H):=⟨hKb,nsK hns,⟨mb,nsK hb,hbb⟩,let ⟨mc,h1,h2⟩:=hlim; ⟨mc,nsK h1,h2⟩⟩
 have e0:Env0 P w K mg (hidT s₁.heap H) callerA [] s₁ H:=⟨rfl,hM,fun b o e=>of_hidT e,Nat.le_of_eq (hidT_size _ _),trivial,fun b hb=>absurd (show b ∈ ([]:List Addr) from hb) (by simp),hok,.of_eq hg⟩
 have hl:vals.length=ps.length:=by rw [ja8 hwl]; exact hlen
 refine codeAny_mono ((F _ hKb (nsK hns)).run callerA [] s₁ H ⟨vals,[]⟩ vals (vals.map toV) _ _ hr e0 (hbind s₁ vals hl) hV (hsp H _ hO hS)) fun r s' x=>?_
 cases r with
 | error e=>exact (hCX H e s' x).elim
 | ok fl =>
  cases fl with
  | next=>exact False.elim x
  | brk=>exact False.elim x
  | cont=>exact False.elim x
  | ret u =>
   obtain ⟨v,H',os,bare,un,hok',r',q⟩:=x
   have kept:∀ b o,s₁.heap.get? b=some o→s'.heap.get? b=some o:=fun b o e=>by
    cases q2:H b with
    | none=>exact un.keep b o e q2 (by intro z; exact absurd (show b ∈ ([]:List Addr) from z) (by simp)) (by simp)
    | some u2 =>
     rcases hO b with z | ⟨ob,u3,z⟩
     ·rw [q2] at z
      cases z
     ·have z2:=un.frzs b ob _ z
      obtain ⟨e1,_⟩:=hok b _ z
      obtain ⟨e2,_⟩:=hok' b _ z2
      rw [e] at e1
      cases e1
      exact e2
   have KX':K.In s'.heap:=fun b o e=>kept b o (KX b o e)
   obtain ⟨as,hrd⟩:=Dw.reads (R:=R) (cl:=cl) hok' KX' d0 v u q r'
   exact ⟨u,as,rfl,hrd,OldK.of_keep kept,os,bare⟩
theorem layable_weight {ds:List WData} (h:WData.layableAll ds=true):∀ d ∈ ds,d.weight≤1048576:=fun d hd =>
 (PySem.W.layableW_iff.mp (List.all_eq_true.mp h d hd)).2.2
theorem encAll_len:∀ (cs:List Codec) (a:Codec.denoteAll cs),(Codec.encAll cs a).length=cs.length
 | [],_=>rfl
 | c :: cs,a=>by
  show (Codec.encAll cs a.2).length+1=cs.length+1
  rw [encAll_len cs a.2]
theorem walk_spec {r:OpenSpec} {k:Nat} {q:Program} {loose:List Str} {XP:(Str→Option Value)→Heap→Prop} {YP:World→Heap→Prop} {d:DefRec} {K:Params→W.Frag} {CX:World→CXT} {ps:List Str} {sp:World→Sp}
  (hwell:r.wellSaid=true) (hdf:d.params.defaults=[]) (hlen:r.args.length=ps.length) (hr:Room k callerA)
  (hY:∀ (w:World) (h:Heap),YP w h→(K w.params).In h)
  (F:∀ (w:World) (mg:Str→Option Value) (fa:Addr) (h:Heap),YP w h→(K w.params).In h→h.Ns mainGlobals mg→mg d.name=some (.ref fa) →
   ∃ fd:FuncData,(∀ (s:Shared) (us:List Value),us.length=ps.length→BindsTo s fd ⟨us,[]⟩ (ps.zip us)) ∧
    ∀ base:Heap,(K w.params).In base→base.Ns mainGlobals mg→FnOk r.prog w (K w.params) mg base (CX w) k fa fd ps (sp w))
  (hsp:∀ (w:World) (H:Hp) (xs:List V) (a:Codec.denoteAll r.args),OnlyF H→Codec.withinAll r.args a=true→Codec.app r.args r.asked a=true→DwAll (K w.params) H xs (Codec.encAll r.args a) →
   sp w xs H (fun v H'=>Dw (K w.params) H' v (r.ret.enc (Codec.app r.args r.f a))) fun _ _ _=>False)
  (hCX:∀ (w:World) (H:Hp) (s:Shared) (e:Value) (s':Shared),CX w [] H s (fun _ _ _=>False) e s'→False) :
  PySem.W.WalkOS q loose XP YP r d [] (fun f vs=>PySem.call f vs):=by
 intro w s_0 s₁ mg mb G Y fa o pm cd doc dV kV ho hd hcd hD hmg hg args vals as hpre hlay hrd hwl hlo
 obtain ⟨a,e1,e2⟩:=PySem.W.os_pre_some hpre
 obtain ⟨e3,hwi⟩:=Codec.encAll_of_decAll r.args args a e1
 subst e3
 have KX:=hY w _ Y
 obtain ⟨fd,hb,hF⟩:=F w mg fa _ Y KX G.T.g hmg
 refine PySem.W.enter_call (codeAny_mono (spec_call (R:=[]) (cl:=classAt s_0.heap) (d0:=r.ret.enc (Codec.app r.args r.f a)) KX G.T.g G.T.b G.T.builtins G.T.nolimit hg hwl (pl_encAll _ _) (layable_weight hlay) hr hF hb (by rw [encAll_len]; exact hlen)
  (fun H xs hO hS=>hsp w H xs a hO hwi e2 hS) fun H e s'=>hCX w H s₁ e s') fun r' s' hq=>?_)
 obtain ⟨u,as',rfl,h1,h2,h3,h4⟩:=hq
 exact ⟨.inl ⟨u,_,as',rfl,fun _=>rfl,h1,(OpenSpec.post_iff hwell hwi _ _).mpr rfl,fun z=>Bool.noConfusion (show false=true from z)⟩,h2,h3,h4⟩
theorem walk_specK {r:OpenSpec} {k:Nat} {q:Program} {loose:List Str} {XP:(Str→Option Value)→Heap→Prop} {YP:World→Heap→Prop} {d:DefRec} {K:Params→W.Frag} {CX:CXT} {ps:List Str} {sp:W.Frag→Sp}
  (hwell:r.wellSaid=true) (hdf:d.params.defaults=[]) (hlen:r.args.length=ps.length) (hr:Room k callerA)
  (hY:∀ (w:World) (h:Heap),YP w h→(K w.params).In h)
  (F:∀ (w:World) (mg:Str→Option Value) (fa:Addr) (h:Heap),YP w h→(K w.params).In h→h.Ns mainGlobals mg→mg d.name=some (.ref fa) →
   ∃ fd:FuncData,(∀ (s:Shared) (us:List Value),us.length=ps.length→BindsTo s fd ⟨us,[]⟩ (ps.zip us)) ∧
    ∀ base:Heap,(K w.params).In base→base.Ns mainGlobals mg→FnOk r.prog w (K w.params) mg base CX k fa fd ps (sp (K w.params)))
  (hsp:∀ (K:W.Frag) (H:Hp) (xs:List V) (a:Codec.denoteAll r.args),OnlyF H→Codec.withinAll r.args a=true→Codec.app r.args r.asked a=true→DwAll K H xs (Codec.encAll r.args a) →
   sp K xs H (fun v H'=>Dw K H' v (r.ret.enc (Codec.app r.args r.f a))) fun _ _ _=>False)
  (hCX:∀ (H:Hp) (s:Shared) (e:Value) (s':Shared),CX [] H s (fun _ _ _=>False) e s'→False) :
  PySem.W.WalkOS q loose XP YP r d [] (fun f vs=>PySem.call f vs) :=
 walk_spec (K:=K) (CX:=fun _=>CX) (sp:=fun w=>sp (K w.params)) hwell hdf hlen hr hY F (fun w H xs a h1 h2 h3 h4=>hsp (K w.params) H xs a h1 h2 h3 h4) fun _ H s e s'=>hCX H s e s'
end L2
end
end
section
set_option Elab.async false
set_option linter.all false
set_option maxHeartbeats 2000000
set_option maxRecDepth 100000
namespace ZL
open PySem
open Sem (wp)
section
variable {prog:Program} {w:World} {A:Around} {E:Value→Shared→Prop} {s:Shared}
theorem tup_item {it t:Addr} {i:Nat} {items:Array Value} {x:Value} {Q:Value→Shared→Prop} (hit:s.heap.IsTupleIter it t i) (ht:s.heap.IsTuple t items) (hx:items[i]? = some x)
  (hQ:∀ h',h'.IsTupleIter it t (i+1)→Heap.SameBut it s.heap h'→Q x { s with heap:=h' }):wpAny (model prog w) A (Builtin.SmallTypes.nextOf (.ref it)) Q E s:=by
 obtain ⟨o,ho,hc,hd⟩:=id hit
 obtain ⟨ol,hol,_,nl,hdl⟩:=ht
 unfold Builtin.SmallTypes.nextOf
 refine wpAny_bind (wpAny_callSpecial?_slot (name:=Str.ofString "__next__") hit.typeIs F.slot_tuple_iterator_next (wpAny_call_entry F.slot_tuple_iterator_next hit.typeIs F.entry_tuple_iterator_next ?_ (F.args_tuple_iterator_next_1 _)))
 show wpAny _ _ (field (.ref it) 0 >>= _) _ _ s
 refine wpAny_bind (wpAny_field ho hd (x:=.ref t) rfl ?_)
 show wpAny _ _ (if (Value.ref t == Value.none)=true then _ else _) _ _ s
 rw [if_neg (show ¬ ((Value.ref t == Value.none)=true) from Bool.false_ne_true)]
 show wpAny _ _ (field (.ref it) 1 >>= _) _ _ s
 refine wpAny_bind (wpAny_field ho hd (x:=.int i 0) rfl ?_)
 show wpAny _ _ (seqItems? (.ref t) >>= _) _ _ s
 refine wpAny_bind (wpAny_seqItems hol hdl ?_)
 simp only [Int.toNat_natCast,hx]
 refine wpAny_bind (wpAny_setField ho hd (by simp) (wpAny_pure ⟨x,rfl,wpAny_pure (hQ _ ?_ (Heap.SameBut.update ..))⟩))
 exact ⟨_,Heap.get?_update_self _ ho (Obj.isFreed_of_fields (Obj.data_mapFields hd _)),(Obj.cls_mapFields ..).trans hc,by rw [Obj.data_mapFields hd]; simp [rawInt]⟩
theorem tup_end {it t:Addr} {i:Nat} {items:Array Value} {Q:Value→Shared→Prop} (hh:A.handled=none) (hit:s.heap.IsTupleIter it t i) (ht:s.heap.IsTuple t items) (hx:items[i]? = none)
  (hE:∀ h' e,Heap.ExtBut it s.heap h'→(∃ o,h'.get? e=some o∧o.cls=.type "StopIteration")→E (.ref e) { s with heap:=h' }):wpAny (model prog w) A (Builtin.SmallTypes.nextOf (.ref it)) Q E s:=by
 obtain ⟨o,ho,hc,hd⟩:=id hit
 obtain ⟨ol,hol,_,nl,hdl⟩:=ht
 unfold Builtin.SmallTypes.nextOf
 refine wpAny_bind (wpAny_callSpecial?_slot (name:=Str.ofString "__next__") hit.typeIs F.slot_tuple_iterator_next (wpAny_call_entry F.slot_tuple_iterator_next hit.typeIs F.entry_tuple_iterator_next ?_ (F.args_tuple_iterator_next_1 _)))
 show wpAny _ _ (field (.ref it) 0 >>= _) _ _ s
 refine wpAny_bind (wpAny_field ho hd (x:=.ref t) rfl ?_)
 show wpAny _ _ (if (Value.ref t == Value.none)=true then _ else _) _ _ s
 rw [if_neg (show ¬ ((Value.ref t == Value.none)=true) from Bool.false_ne_true)]
 show wpAny _ _ (field (.ref it) 1 >>= _) _ _ s
 refine wpAny_bind (wpAny_field ho hd (x:=.int i 0) rfl ?_)
 show wpAny _ _ (seqItems? (.ref t) >>= _) _ _ s
 refine wpAny_bind (wpAny_seqItems hol hdl ?_)
 simp only [Int.toNat_natCast,hx]
 refine wpAny_bind (wpAny_rule (wpAny_bind (wpAny_setField ho hd (by simp) ?_)))
 show wpAny _ _ (newExc (.type "StopIteration") [] >>= _) _ _ _
 refine wpAny_bind ?_
 simp only [newExc,newTuple]
 refine wpAny_bind (wpAny_newObj_type ?_ (by size_fits))
 refine wpAny_bind (m:=firstArgMember _ _) (wpAny_of_eq (a:=Value.none) (by first | rfl | (simp only [firstArgMember]; rfl)) ?_)
 refine wpAny_newObj_type ?_ (by size_fits)
 simp only [raiseNew]
 refine wpAny_bind (wpAny_handled ?_)
 first | rw [show A.in1.handled=none from hh] | rw [hh]
 refine wpAny_bind (wpAny_pure (wpAny_throw ?_))
 exact hE _ _ (((Heap.SameBut.update ..).extBut.push _).push _) ⟨_,Heap.get?_push_size _ rfl,rfl⟩
theorem zip_item {z TI TO i1 i2 l1 l2:Addr} {k1 k2:Nat} {xs ys:Array Value} {x y a b:Value} {Q:Option Value→Shared→Prop} (D:ZipApart z TI TO i1 i2 l1 l2)
  (hz:IsZip s.heap z TI TO .none) (hTI:IsPair s.heap TI (.ref i1) (.ref i2)) (hTO:IsPair s.heap TO a b)
  (h1:s.heap.IsListIter i1 l1 k1) (h2:s.heap.IsTupleIter i2 l2 k2) (hl1:s.heap.IsList l1 xs) (hl2:s.heap.IsTuple l2 ys) (hx:xs[k1]? = some x) (hy:ys[k2]? = some y)
  (hQ:∀ h',IsZip h' z TI TO (rawInt s.heap.objs.size)→IsPair h' TO x y→h'.IsListIter i1 l1 (k1+1)→h'.IsTupleIter i2 l2 (k2+1)→IsPair h' s.heap.objs.size x y→h'.objs.size=s.heap.objs.size+1 →
   (∀ c o,c≠z→c≠TO→c≠i1→c≠i2→s.heap.get? c=some o→h'.get? c=some o)→Q (some (.ref s.heap.objs.size)) { s with heap:=h' }) :
  wpAny (model prog w) A (pyNext (.ref z)) Q E s:=by
 have hT:s.TypeIs (.ref z) "zip" := ⟨_,hz,rfl⟩
 unfold pyNext
 refine wpAny_bind (wpAny_attempt (wpAny_callSpecial?_slot (name:=Str.ofString "__next__") hT F.slot_zip_next (wpAny_call_entry F.slot_zip_next hT F.entry_zip_next ?_ (F.args_zip_next_1 _))))
 show wpAny _ _ (field (.ref z) 2 >>= _) _ _ _
 refine wpAny_bind (wpAny_field hz rfl (x:=.bool false) rfl ?_); show wpAny _ _ (field (.ref z) 3 >>= _) _ _ _
 refine wpAny_bind (wpAny_field hz rfl (x:=.ref TI) rfl ?_); refine wpAny_bind (wpAny_seqItems hTI rfl ?_)
 show wpAny _ _ (Builtin.SmallTypes.ownedTupleIsFree (.ref z) >>= _) _ _ _
 refine wpAny_bind ?_
 unfold Builtin.SmallTypes.ownedTupleIsFree
 refine wpAny_bind (wpAny_field hz rfl (x:=.none) rfl (wpAny_pure ?_))
 simp only [if_true]
 refine wpAny_bind (wpAny_rule ?_); refine wpAny_bind (wpAny_field hz rfl (x:=.ref TO) rfl ?_)
 refine wpAny_bind (wpAny_setField_rec hz (by simp) fun j1 hz1 e1=>?_)
 replace hz1:IsZip j1 z TI TO .ellipsis:=hz1
 refine wpAny_bind ?_
 simp only [List.zipIdx_cons,List.zipIdx_nil,List.forIn_cons,List.forIn_nil]
 refine wpAny_bind (wpAny_bind (wpAny_onRaise ?_)); show wpAny _ _ (Builtin.SmallTypes.nextOf (.ref i1) >>= _) _ _ _
 refine wpAny_bind (wpAny_nextOf_list_item (h1.extBut e1.extBut D.i1z) (hl1.extBut e1.extBut D.l1z) hx fun j2 q1 e2=>wpAny_pure ?_)
 have t2:IsPair j2 TO a b:=e2.extBut _ _ D.TOi1 (e1.extBut _ _ D.TOz hTO)
 refine wpAny_bind (wpAny_seqItems t2 rfl ?_); refine wpAny_bind (wpAny_updateSeq_pair t2 fun j3 t3 e3=>?_)
 replace t3:IsPair j3 TO x b:=t3
 refine wpAny_bind (wpAny_letGo (wpAny_pure ?_)); refine wpAny_bind (wpAny_bind (wpAny_onRaise ?_))
 show wpAny _ _ (Builtin.SmallTypes.nextOf (.ref i2) >>= _) _ _ _
 refine wpAny_bind (tup_item (((h2.extBut e1.extBut D.i2z).extBut e2.extBut D.i12.symm).extBut e3.extBut D.TOi2.symm) (((hl2.extBut e1.extBut D.l2z).extBut e2.extBut D.l2i1).extBut e3.extBut D.l2TO) hy fun j4 q2 e4=>wpAny_pure ?_)
 have t4:IsPair j4 TO x b:=e4.extBut _ _ D.TOi2 t3
 refine wpAny_bind (wpAny_seqItems t4 rfl ?_); refine wpAny_bind (wpAny_updateSeq_pair t4 fun j5 t5 e5=>?_)
 replace t5:IsPair j5 TO x y:=t5
 refine wpAny_bind (wpAny_letGo (wpAny_pure (wpAny_pure ?_))); refine wpAny_bind (wpAny_seqItems t5 rfl ?_); refine wpAny_bind (wpAny_newTuple ?_)
 have hsz:j5.objs.size=s.heap.objs.size:=by rw [e5.1,e4.1,e3.1,e2.1,e1.1]
 have z5:IsZip j5 z TI TO .ellipsis:=e5.extBut _ _ D.TOz.symm (e4.extBut _ _ D.i2z.symm (e3.extBut _ _ D.TOz.symm (e2.extBut _ _ D.i1z.symm hz1)))
 have k5:∀ c o,c≠z→c≠TO→c≠i1→c≠i2→s.heap.get? c=some o→j5.get? c=some o:=fun c o c1 c2 c3 c4 e=>e5.extBut _ _ c2 (e4.extBut _ _ c4 (e3.extBut _ _ c2 (e2.extBut _ _ c3 (e1.extBut _ _ c1 e))))
 have p1:j5.IsListIter i1 l1 (k1+1):=((q1.extBut e3.extBut D.TOi1.symm).extBut e4.extBut D.i12).extBut e5.extBut D.TOi1.symm
 have p2:j5.IsTupleIter i2 l2 (k2+1):=q2.extBut e5.extBut D.TOi2.symm
 have zl:z < j5.objs.size:=Heap.lt_size z5
 show wpAny _ _ (Builtin.SmallTypes.ownedTupleHandOut (.ref z) (.ref j5.objs.size) >>= _) _ _ _
 refine wpAny_bind ?_
 unfold Builtin.SmallTypes.ownedTupleHandOut
 have z6:IsZip (j5.push { cls:=.type "tuple",data:=.seq #[x,y] }) z TI TO .ellipsis:=Heap.get?_push_of_some _ z5
 refine wpAny_bind (wpAny_setField_rec z6 (by simp) fun j7 z7 e7=>?_)
 replace z7:IsZip j7 z TI TO (rawInt j5.objs.size):=z7
 refine wpAny_setField_rec z7 (by simp) fun j8 z8 e8=>?_
 replace z8:IsZip j8 z TI TO (rawInt j5.objs.size):=z8
 have up:∀ c o,c≠z→j5.get? c=some o→j8.get? c=some o:=fun c o c1 e=>e8.extBut _ _ c1 (e7.extBut _ _ c1 (Heap.get?_push_of_some _ e))
 have t8:IsPair j8 j5.objs.size x y:=e8.extBut _ _ (Nat.ne_of_gt zl) (e7.extBut _ _ (Nat.ne_of_gt zl) (Heap.get?_push_size _ rfl))
 have s8:j8.objs.size=j5.objs.size+1:=by rw [e8.1,e7.1,Heap.size_push]
 rw [hsz] at z8 t8 s8
 refine wpAny_pure ⟨_,rfl,wpAny_pure ?_⟩
 show Q (some (.ref j5.objs.size)) _
 rw [hsz]
 exact hQ j8 z8 (up _ _ D.TOz t5) (p1.at fun o e=>up _ o D.i1z e) (p2.at fun o e=>up _ o D.i2z e) t8 s8 fun c o c1 c2 c3 c4 e=>up c o c1 (k5 c o c1 c2 c3 c4 e)
theorem zip_end {z TI TO i1 i2 l1 l2:Addr} {k1 k2:Nat} {xs ys:Array Value} {a b:Value} {Q:Option Value→Shared→Prop} (hh:A.handled=none) (D:ZipApart z TI TO i1 i2 l1 l2)
  (hz:IsZip s.heap z TI TO .none) (hTI:IsPair s.heap TI (.ref i1) (.ref i2)) (hTO:IsPair s.heap TO a b)
  (h1:s.heap.IsListIter i1 l1 k1) (h2:s.heap.IsTupleIter i2 l2 k2) (hl1:s.heap.IsList l1 xs) (hl2:s.heap.IsTuple l2 ys) (hend:xs[k1]? = none∨ys[k2]? = none)
  (hQ:∀ h',(∀ c o,c≠z→c≠TO→c≠i1→c≠i2→s.heap.get? c=some o→h'.get? c=some o)→Q none { s with heap:=h' }):wpAny (model prog w) A (pyNext (.ref z)) Q E s:=by
 have hT:s.TypeIs (.ref z) "zip" := ⟨_,hz,rfl⟩
 have fin:∀ (h':Heap) (e:Addr),(∀ c o,c≠z→c≠TO→c≠i1→c≠i2→s.heap.get? c=some o→h'.get? c=some o)→(∃ o,h'.get? e=some o∧o.cls=.type "StopIteration") →
   wpAny (model prog w) A (do if ← isInstance (.ref e) (.type "StopIteration") then pure none else throw (.ref e)) Q E { s with heap:=h' }:=fun h' e hk he=>by
  obtain ⟨o,ho,hc⟩:=he
  refine wpAny_bind (wpAny_isInstance (T := "StopIteration") (b:=true) ⟨o,ho,hc⟩ isSubtype_stop ?_)
  exact wpAny_pure (hQ _ hk)
 unfold pyNext
 refine wpAny_bind (wpAny_attempt (wpAny_callSpecial?_slot (name:=Str.ofString "__next__") hT F.slot_zip_next (wpAny_call_entry F.slot_zip_next hT F.entry_zip_next ?_ (F.args_zip_next_1 _))))
 show wpAny _ _ (field (.ref z) 2 >>= _) _ _ _
 refine wpAny_bind (wpAny_field hz rfl (x:=.bool false) rfl ?_); show wpAny _ _ (field (.ref z) 3 >>= _) _ _ _
 refine wpAny_bind (wpAny_field hz rfl (x:=.ref TI) rfl ?_); refine wpAny_bind (wpAny_seqItems hTI rfl ?_)
 show wpAny _ _ (Builtin.SmallTypes.ownedTupleIsFree (.ref z) >>= _) _ _ _
 refine wpAny_bind ?_
 unfold Builtin.SmallTypes.ownedTupleIsFree
 refine wpAny_bind (wpAny_field hz rfl (x:=.none) rfl (wpAny_pure ?_))
 simp only [if_true]
 refine wpAny_bind (wpAny_rule ?_); refine wpAny_bind (wpAny_field hz rfl (x:=.ref TO) rfl ?_)
 refine wpAny_bind (wpAny_setField_rec hz (by simp) fun j1 hz1 e1=>?_)
 replace hz1:IsZip j1 z TI TO .ellipsis:=hz1
 refine wpAny_bind ?_
 simp only [List.zipIdx_cons,List.zipIdx_nil,List.forIn_cons,List.forIn_nil]
 refine wpAny_bind (wpAny_bind (wpAny_onRaise ?_)); show wpAny _ _ (Builtin.SmallTypes.nextOf (.ref i1) >>= _) _ _ _
 cases hx:xs[k1]? with
 | none =>
  refine wpAny_bind (wpAny_nextOf_list_end hh (h1.extBut e1.extBut D.i1z) (hl1.extBut e1.extBut D.l1z) hx fun j2 e e2 he=>?_)
  obtain ⟨oe,hoe,hce⟩:=he
  have z2:IsZip j2 z TI TO .ellipsis:=e2 _ _ D.i1z.symm hz1
  have hez:e≠z:=fun q=>by subst q; rw [z2] at hoe; cases hoe; simp at hce
  exact wpAny_setField_rec z2 (by simp) fun j3 _ e3=>fin j3 e (fun c o c1 _ c3 _ q=>e3.extBut _ _ c1 (e2 _ _ c3 (e1.extBut _ _ c1 q))) ⟨oe,e3.extBut _ _ hez hoe,hce⟩
 | some x =>
  have hy:ys[k2]? = none:=by rcases hend with h | h; rw [hx] at h; cases h; exact h
  refine wpAny_bind (wpAny_nextOf_list_item (h1.extBut e1.extBut D.i1z) (hl1.extBut e1.extBut D.l1z) hx fun j2 q1 e2=>wpAny_pure ?_)
  have t2:IsPair j2 TO a b:=e2.extBut _ _ D.TOi1 (e1.extBut _ _ D.TOz hTO)
  refine wpAny_bind (wpAny_seqItems t2 rfl ?_); refine wpAny_bind (wpAny_updateSeq_pair t2 fun j3 t3 e3=>?_)
  refine wpAny_bind (wpAny_letGo (wpAny_pure ?_)); refine wpAny_bind (wpAny_bind (wpAny_onRaise ?_))
  show wpAny _ _ (Builtin.SmallTypes.nextOf (.ref i2) >>= _) _ _ _
  refine wpAny_bind (tup_end hh (((h2.extBut e1.extBut D.i2z).extBut e2.extBut D.i12.symm).extBut e3.extBut D.TOi2.symm) (((hl2.extBut e1.extBut D.l2z).extBut e2.extBut D.l2i1).extBut e3.extBut D.l2TO) hy fun j4 e e4 he=>?_)
  obtain ⟨oe,hoe,hce⟩:=he
  have z4:IsZip j4 z TI TO .ellipsis:=e4 _ _ D.i2z.symm (e3.extBut _ _ D.TOz.symm (e2.extBut _ _ D.i1z.symm hz1))
  have hez:e≠z:=fun q=>by subst q; rw [z4] at hoe; cases hoe; simp at hce
  exact wpAny_setField_rec z4 (by simp) fun j5 _ e5=>fin j5 e (fun c o c1 c2 c3 c4 q=>e5.extBut _ _ c1 (e4 _ _ c4 (e3.extBut _ _ c2 (e2.extBut _ _ c3 (e1.extBut _ _ c1 q))))) ⟨oe,e5.extBut _ _ hez hoe,hce⟩
end
noncomputable abbrev hp1 (h:Heap) (a:Addr):Heap:=h.push { cls:=.type "list_iterator",data:=.fields #[.ref a,.int 0 0] }
noncomputable abbrev hp2 (h:Heap) (a b:Addr):Heap:=(hp1 h a).push { cls:=.type "tuple_iterator",data:=.fields #[.ref b,.int 0 0] }
noncomputable abbrev hp3 (h:Heap) (a b:Addr):Heap:=(hp2 h a b).push { cls:=.type "tuple",data:=.seq #[.ref h.objs.size,.ref (hp1 h a).objs.size] }
noncomputable abbrev hp4 (h:Heap) (a b:Addr):Heap:=(hp3 h a b).push { cls:=.type "tuple",data:=.seq #[.none,.none] }
noncomputable abbrev hp5 (h:Heap) (a b:Addr):Heap:=(hp4 h a b).push { cls:=.type "zip",data:=.fields #[.none,.bool false,.bool false,.ref (hp2 h a b).objs.size,.ref (hp3 h a b).objs.size] }
theorem zip_new (a b:Addr) (xs ys:Array Value) :
  Meets (Builtin.«zip.__new__» ⟨[.type "zip",.ref a,.ref b],[]⟩) (fun _ R s=>s.heap.IsList a xs∧s.heap.IsTuple b ys∧R (.ok (.ret (.ref (hp4 s.heap a b).objs.size))) { s with heap:=hp5 s.heap a b }) :=
 .of_wp fun prog w A R s h=>by
  obtain ⟨hp,g,d,tk,os⟩:=s
  obtain ⟨h1,h2,h⟩:=h
  have hsub:=sub_zip
  have q1:Heap.IsList (Shared.heap ⟨hp,g,d,tk,os⟩) a xs:=h1
  have q2:Heap.IsTuple (Shared.heap ⟨hp.push { cls:=.type "list_iterator",data:=.fields #[.ref a,.int 0 0] },g,d,tk,os⟩) b ys:=Heap.IsTuple.push h2 _
  wp_walk using wpAny_pyIter_list q1,wpAny_pyIter_tuple q2
  exact ⟨_,rfl,h⟩
section
variable {prog:Program} {w:World} {A:Around} {E:Value→Shared→Prop} {s:Shared}
theorem call_zip {a b:Addr} {xs ys:Array Value} {Q:Value→Shared→Prop} (h1:s.heap.IsList a xs) (h2:s.heap.IsTuple b ys)
  (h:∀ h',IsZip h' (s.heap.objs.size+4) (s.heap.objs.size+2) (s.heap.objs.size+3) .none→IsPair h' (s.heap.objs.size+2) (.ref s.heap.objs.size) (.ref (s.heap.objs.size+1)) →
   IsPair h' (s.heap.objs.size+3) .none .none→h'.IsListIter s.heap.objs.size a 0→h'.IsTupleIter (s.heap.objs.size+1) b 0→h'.objs.size=s.heap.objs.size+5 →
   (∀ c o,s.heap.get? c=some o→h'.get? c=some o)→Q (.ref (s.heap.objs.size+4)) { s with heap:=h' }):wpAny (model prog w) A (call (.type "zip") [.ref a,.ref b]) Q E s:=by
 refine callType_new F.called_zip (by decide) (F.typeCall_zip_2 _ _) (F.newCall_zip_2 _ _) (fun obj=>F.args_object_init_3 obj _ _) F.entry_zip_new (zip_new a b xs ys) ⟨h1,h2,?_⟩
 have z1:(hp1 s.heap a).objs.size=s.heap.objs.size+1:=Heap.size_push ..
 have z2:(hp2 s.heap a b).objs.size=s.heap.objs.size+2:=by rw [Heap.size_push,z1]
 have z3:(hp3 s.heap a b).objs.size=s.heap.objs.size+3:=by rw [Heap.size_push,z2]
 have z4:(hp4 s.heap a b).objs.size=s.heap.objs.size+4:=by rw [Heap.size_push,z3]
 have z5:(hp5 s.heap a b).objs.size=s.heap.objs.size+5:=by rw [Heap.size_push,z4]
 have g5:(hp5 s.heap a b).get? (hp4 s.heap a b).objs.size=some _:=Heap.get?_push_size _ rfl
 have g4:(hp5 s.heap a b).get? (hp3 s.heap a b).objs.size=some _:=Heap.get?_push_of_some _ (Heap.get?_push_size _ rfl)
 have g3:(hp5 s.heap a b).get? (hp2 s.heap a b).objs.size=some _:=Heap.get?_push_of_some _ (Heap.get?_push_of_some _ (Heap.get?_push_size _ rfl))
 have g2:(hp5 s.heap a b).get? (hp1 s.heap a).objs.size=some _:=Heap.get?_push_of_some _ (Heap.get?_push_of_some _ (Heap.get?_push_of_some _ (Heap.get?_push_size _ rfl)))
 have g1:(hp5 s.heap a b).get? s.heap.objs.size=some _:=Heap.get?_push_of_some _ (Heap.get?_push_of_some _ (Heap.get?_push_of_some _ (Heap.get?_push_of_some _ (Heap.get?_push_size _ rfl))))
 show _∧_
 rw [z2,z3,z4] at g5
 rw [z1,z2] at g3
 rw [z3] at g4
 rw [z1] at g2
 rw [z4]
 exact ⟨⟨_,g5,rfl⟩,h _ g5 g3 g4 ⟨_,g1,rfl,rfl⟩ ⟨_,g2,rfl,rfl⟩ z5 fun c o x =>
  Heap.get?_push_of_some _ (Heap.get?_push_of_some _ (Heap.get?_push_of_some _ (Heap.get?_push_of_some _ (Heap.get?_push_of_some _ x))))⟩
end
end ZL
namespace L2
open PySem PySem.Spec PyProof.Rows
noncomputable def ItzT (K:W.Frag) (a b:Addr):It :=
 ⟨fun i H=>∃ (xs ys:List V) (x y:V),SqL K H a xs∧SqT K H b ys∧xs[i]? = some x∧ys[i]? = some y,
  fun i H v H'=>∃ t x y,v=.ref t∧H t=none∧H'=upd H t (.tup [x,y])∧(∀ xs,SqL K H a xs→xs[i]? = some x)∧∀ ys,SqT K H b ys→ys[i]? = some y,
  fun i H=>∃ xs ys:List V,SqL K H a xs∧SqT K H b ys∧(xs.length≤i∨ys.length≤i)⟩
theorem jca {h:Heap} {a:Addr} {its:Array Value} (p:IsTup h a its):h.IsTuple a its:=by
 obtain ⟨o,e,c,n,d⟩:=p
 exact ⟨o,e,c,n,d⟩
theorem turn_zipT {P:Program} {w:World} {K:W.Frag} {elts:List Expr} {kk:Nat} {tpos:Pos} {a b z TI TO i1 i2:Addr} (D:ZipApart z TI TO i1 i2 a b) :
  Turn P w K (.Tuple elts kk tpos) (ItzT K a b) [z,TI,TO,i1,i2] z (fun i h=>IsZip h z TI TO .none∧IsPair h TI (.ref i1) (.ref i2)∧(∃ x y,IsPair h TO x y)∧h.IsListIter i1 a i∧h.IsTupleIter i2 b i) where
 mem:=by simp
 obj:=fun i h st c hc=>by
  obtain ⟨hz,hTI,⟨x,y,hTO⟩,⟨o1,e1,_,d1⟩,⟨o2,e2,_,d2⟩⟩:=st
  have e':c=z∨c=TI∨c=TO∨c=i1∨c=i2:=by simpa using hc
  rcases e' with q | q | q | q | q
  ·rw [q]; exact ⟨_,hz,fun v q=>nomatch q⟩
  ·rw [q]; exact ⟨_,hTI,fun v q=>nomatch q⟩
  ·rw [q]; exact ⟨_,hTO,fun v q=>nomatch q⟩
  ·rw [q]; exact ⟨o1,e1,fun v q=>by rw [d1] at q; cases q⟩
  ·rw [q]; exact ⟨o2,e2,fun v q=>by rw [d2] at q; cases q⟩
 keep:=fun i h h' st k=>by
  obtain ⟨hz,hTI,⟨x,y,hTO⟩,h1,h2⟩:=st
  exact ⟨k z (by simp) _ hz,k TI (by simp) _ hTI,⟨x,y,k TO (by simp) _ hTO⟩,h1.at fun o q=>k i1 (by simp) o q,h2.at fun o q=>k i2 (by simp) o q⟩
 item:=by
  intro X hP hw hK hc i pins s σ H E I hf st hg
  subst hP hw hK
  obtain ⟨hz,hTI,⟨x0,y0,hTO⟩,h1,h2⟩:=st
  obtain ⟨xs,ys,x,y,hqx,hqy,hx,hy⟩:=hg
  obtain ⟨its,rv,p,_⟩:=I.list hqx
  obtain ⟨its2,rv2,p2,_⟩:=I.tuple hqy
  obtain ⟨u,hu,ru⟩:=rv.get hx
  obtain ⟨u2,hu2,ru2⟩:=rv2.get hy
  have hzl:z < s.heap.objs.size:=Heap.lt_size hz
  refine ZL.zip_item D hz hTI hTO h1 h2 p.isList (jca p2) (x:=u) (y:=u2) (by simpa using hu) (by simpa using hu2) fun h' z' TO' h1' h2' hT hsz hk=>?_
  refine ⟨_,rfl,wpAny_letOwnedTupleGo_zip (s:={ s with heap:=h' }) z' fun h'' z'' sb=>?_⟩
  have hT2:h''.get? s.heap.objs.size=some { cls:=.type "tuple",data:=.seq #[u,u2] }:=(sb.2 _ (Nat.ne_of_gt hzl)).trans hT
  have new:ObjOk X.prog X.w (upd H s.heap.objs.size (.tup [x,y])) h'' s.heap.objs.size (.tup [x,y]) :=
   ⟨by show 2≤sizeLine; decide,[u,u2],.cons ru (.cons ru2 .nil),⟨_,hT2,rfl,_,rfl⟩⟩
  have I1:Inv X pins σ (upd H s.heap.objs.size (.tup [x,y])) { s with heap:=h'' } :=
   I.turnedNew (t':=s.toks) (ch:=[z,TI,TO,i1,i2]) (fun c o hb q=>(sb.2 c (fun q'=>hb (by simp [q']))).trans (hk c o (fun q'=>hb (by simp [q'])) (fun q'=>hb (by simp [q'])) (fun q'=>hb (by simp [q'])) (fun q'=>hb (by simp [q'])) q)) hf (Nat.le_refl _) new
  refine ⟨.ref s.heap.objs.size,_,I1,rfl,⟨_,x,y,rfl,I.hok.fresh (Nat.le_refl _),rfl,fun l hl=>by rw [I.list_inj hl hqx]; exact hx,fun l hl=>by rw [I.tuple_inj hl hqy]; exact hy⟩,⟨z'',?_,⟨u,u2,?_⟩,?_,?_⟩,fun c hcm=>?_⟩
  ·exact (sb.2 _ D.TIz).trans (hk _ _ D.TIz D.TITO D.TIi1 D.TIi2 hTI)
  ·exact (sb.2 _ D.TOz).trans TO'
  ·exact h1'.at fun o q=>(sb.2 _ D.i1z).trans q
  ·exact h2'.at fun o q=>(sb.2 _ D.i2z).trans q
  ·have hlt:c < s.heap.objs.size:=by
    have e':c=z∨c=TI∨c=TO∨c=i1∨c=i2:=by simpa using hcm
    rcases e' with q | q | q | q | q
    ·rw [q]; exact hzl
    ·rw [q]; exact Heap.lt_size hTI
    ·rw [q]; exact Heap.lt_size hTO
    ·rw [q]; obtain ⟨_,e1,_⟩:=h1; exact Heap.lt_size e1
    ·rw [q]; obtain ⟨_,e2,_⟩:=h2; exact Heap.lt_size e2
   rw [upd_ne (Nat.ne_of_lt hlt)]
   exact (hf c hcm).1
 done:=by
  intro X hP hw hK hc i pins s σ H E I hf st hg
  subst hP hw hK
  obtain ⟨hz,hTI,⟨x0,y0,hTO⟩,h1,h2⟩:=st
  obtain ⟨xs,ys,hqx,hqy,hend⟩:=hg
  obtain ⟨its,rv,p,_⟩:=I.list hqx
  obtain ⟨its2,rv2,p2,_⟩:=I.tuple hqy
  have l1:=rv.length
  have l2:=rv2.length
  have he:its.toArray[i]? = none∨its2.toArray[i]? = none:=by
   rcases hend with q | q
   ·exact .inl (by simp; omega)
   ·exact .inr (by simp; omega)
  exact ZL.zip_end (I.ok.hd hc) D hz hTI hTO h1 h2 p.isList (jca p2) he fun h' hk=>⟨rfl,I.turnedL (t':=s.toks) (ch:=[z,TI,TO,i1,i2]) (fun c o hb q =>
   hk c o (fun q'=>hb (by simp [q'])) (fun q'=>hb (by simp [q'])) (fun q'=>hb (by simp [q'])) (fun q'=>hb (by simp [q'])) q) hf⟩
 self:=fun A i s Q E st h=>wpAny_pyIter_zip st.1 h
noncomputable def iZipT (K:W.Frag) (ta:TA):TI:=fun σ H R=>ta σ H fun vs H1=>∃ a b xs ys,vs=[.ref a,.ref b]∧SqL K H1 a xs∧SqT K H1 b ys∧R (ItzT K a b) H1
theorem pi_zipT {X:Cx} {e e2:Expr} {ta:TA} {p pos tpos:Pos} {elts:List Expr} {kk:Nat} (hg:Gl X "zip") (hm:X.mg "zip" = none) (ha:PA X [e,e2] ta)
  (hs:starEach [e,e2] X.env=(false,eval e X.env) :: starEach [e2] X.env:=by rfl) (hpl:(backTo pos (starEach [e2] X.env)).any (·.1)=false:=by rfl) :
  PI X (.Tuple elts kk tpos) (.Call (.Name "zip" p) [e,e2] [] pos) (iZipT X.K ta):=by
 intro pins s σ H R I h
 refine Call_ (ld_blt I hg hm boot_zip5 (PyProof.Rows.callWith_type1 (thn (ha pos pins s σ H _ I h) fun us s1 ⟨vs,H1,I1,r1,q1⟩=>?_) hs hpl))
 obtain ⟨a,b,xs,ys,ex,hqx,hqy,q⟩:=q1
 subst ex
 cases r1 with
 | cons r rr =>
  cases rr with
  | cons r' rr =>
   cases rr
   cases r
   cases r'
   obtain ⟨its,rv,p1,_⟩:=I1.list hqx
   obtain ⟨its2,rv2,p2,_⟩:=I1.tuple hqy
   have la:a < s1.heap.objs.size:=p1.lt
   have lb:b < s1.heap.objs.size:=by obtain ⟨_,e,_⟩:=p2; exact Heap.lt_size e
   refine ZL.call_zip p1.isList (jca p2) fun h' hz hTI hTO h1 h2 hsz hk=>wpAny_pyIter_zip hz ?_
   have I2:Inv X pins σ H1 { s1 with heap:=h' }:=I1.kept (t':=s1.toks) hk
   refine ⟨s1.heap.objs.size+4,[s1.heap.objs.size+4,s1.heap.objs.size+2,s1.heap.objs.size+3,s1.heap.objs.size,s1.heap.objs.size+1],_,_,H1,rfl,I2,turn_zipT (PySem.W.ktu_apart s1.heap.objs.size a b la lb),⟨hz,hTI,⟨_,_,hTO⟩,h1,h2⟩,fun c hcm=>?_,q⟩
   have e':c=s1.heap.objs.size+4∨c=s1.heap.objs.size+2∨c=s1.heap.objs.size+3∨c=s1.heap.objs.size∨c=s1.heap.objs.size+1:=by simpa using hcm
   have hle:s1.heap.objs.size≤c:=by
    rcases e' with z | z | z | z | z
    ·rw [z]; exact Nat.le_add_right _ _
    ·rw [z]; exact Nat.le_add_right _ _
    ·rw [z]; exact Nat.le_add_right _ _
    ·rw [z]; exact Nat.le_refl _
    ·rw [z]; exact Nat.le_add_right _ _
   exact I1.fpOk hle (I1.hok.fresh hle)
end L2
end
section
set_option Elab.async false
set_option linter.all false
set_option maxHeartbeats 2000000
set_option maxRecDepth 100000
namespace R
open PySem
noncomputable def keysOf:Nat→List Str
 | 0=>["kind", "due", "left", "n", "who", "host", "challenge", "x", "first"]
 | 1=>["stand", "session", "guest"]
 | 2=>["number", "who", "host", "vlan", "until", "again", "frames"]
 | 3=>["secret", "host", "barred", "groups", "wrong", "locked"]
 | 4=>["group", "low", "high", "since", "till", "vlan", "length", "again"]
 | 5=>["port", "who", "host", "challenge", "forgotten", "decided"]
 | 6=>["number", "who", "host", "port", "over"]
 | 7=>["ports", "bag_size", "wait", "tries", "hold", "most_wrong", "lock", "life", "asks", "most_records", "now", "book", "lost", "bag", "records", "persons", "rules", "known", "begun", "accounts"]
 | _=>[]
end R
namespace R
open PySem PySem.Spec PyProof.Rows L2
structure Tb where
 cls:Nat→Addr
 glo:Nat→Addr
noncomputable def Tb.ob (T:Tb) (c:Nat) (dx:Addr) (vs:List V):HO:=.ins (T.cls c) dx ((keysOf c).zip vs)
noncomputable def getV (T:Tb) (c:Nat):Option HO→Option (List V)
 | some (.ins C _ fs)=>if C=T.cls c∧fs.map (·.1)=(keysOf c).take fs.length then some (fs.map (·.2)) else none
 | _=>none
noncomputable def setV (T:Tb) (c:Nat) (H:Hp) (a:Addr) (vs:List V):Hp:=match H a with
 | some (.ins C dx _)=>if C=T.cls c then upd H a (T.ob c dx vs) else H
 | _=>H
theorem zip_fst:∀ {ks:List Str} {vs:List V},vs.length≤ks.length→(ks.zip vs).map (·.1)=ks.take vs.length
 | _,[],_=>by simp
 | [],_ :: _,h=>by simp at h
 | k :: ks,v :: vs,h=>by
  have h':vs.length≤ks.length:=by simpa using h
  simp [zip_fst h']
theorem zip_snd:∀ {ks:List Str} {vs:List V},vs.length≤ks.length→(ks.zip vs).map (·.2)=vs
 | _,[],_=>by simp
 | [],_ :: _,h=>by simp at h
 | k :: ks,v :: vs,h=>by
  have h':vs.length≤ks.length:=by simpa using h
  simp [zip_snd h']
theorem zip_of:∀ {fs:List (Str×V)} {ks:List Str},fs.map (·.1)=ks.take fs.length→fs=ks.zip (fs.map (·.2))∧fs.length≤ks.length
 | [],ks,_=>by simp
 | (f,v) :: fs,[],h=>by simp at h
 | (f,v) :: fs,k :: ks,h=>by
  simp at h
  obtain ⟨e,l⟩:=zip_of (fs:=fs) (ks:=ks) h.2
  refine ⟨?_,by simpa using l⟩
  simp only [List.map_cons,List.zip_cons_cons]
  rw [← e,h.1]
theorem jae {T:Tb} {c:Nat} {dx:Addr} {vs:List V} (h:vs.length≤(keysOf c).length):getV T c (some (T.ob c dx vs))=some vs:=by
 unfold getV Tb.ob
 have e:((keysOf c).zip vs).length=vs.length:=by rw [List.length_zip]; omega
 simp only [zip_fst h,zip_snd h,e]
 simp
theorem jai {T:Tb} {c:Nat} {o:Option HO} {vs:List V} (h:getV T c o=some vs):∃ dx,o=some (T.ob c dx vs)∧vs.length≤(keysOf c).length:=by
 unfold getV at h
 split at h
 ·split at h
  ·rename_i C dx fs q
   obtain ⟨q1,q2⟩:=q
   obtain ⟨e,l⟩:=zip_of q2
   cases h
   refine ⟨dx,?_,by simpa using l⟩
   unfold Tb.ob
   rw [← e,q1]
  ·cases h
 ·cases h
theorem jao {T:Tb} {c:Nat} {H:Hp} {a dx:Addr} {us vs:List V} (h:H a=some (T.ob c dx us)):setV T c H a vs=upd H a (T.ob c dx vs):=by
 unfold setV
 rw [h]
 show (if T.cls c=T.cls c then _ else _)=_
 rw [if_pos rfl]
noncomputable def putAt:List V→Nat→V→List V
 | [],_,v=>[v]
 | _ :: r,0,v=>v :: r
 | x :: r,i+1,v=>x :: putAt r i v
theorem zip_look {f:Str} {v:V}:∀ {ks:List Str} {vs:List V} {i:Nat},ks.Nodup→ks[i]? = some f→vs[i]? = some v→(ks.zip vs).lookup f=some v
 | [],_,_,_,h,_=>by simp at h
 | _ :: _,[],_,_,_,h=>by simp at h
 | k :: ks,x :: vs,0,_,h1,h2=>by
  simp at h1 h2; subst h1; subst h2
  simp [List.zip_cons_cons,List.lookup]
 | k :: ks,x :: vs,i+1,nd,h1,h2=>by
  have e1:ks[i]? = some f:=by simpa using h1
  have e2:vs[i]? = some v:=by simpa using h2
  have hk:(f == k)=false:=beq_eq_false_iff_ne.mpr (fun e=>(List.nodup_cons.mp nd).1 (e ▸ List.mem_of_getElem? e1))
  rw [List.zip_cons_cons,List.lookup,hk]
  exact zip_look (List.nodup_cons.mp nd).2 e1 e2
theorem zip_put {f:Str} {v:V}:∀ {ks:List Str} {vs:List V} {i:Nat},ks.Nodup→ks[i]? = some f→i≤vs.length→putF f v (ks.zip vs)=ks.zip (putAt vs i v)
 | [],_,_,_,h,_=>by simp at h
 | k :: ks,[],i,_,h1,h2=>by
  have e:i=0:=by simpa using h2
  subst e
  simp at h1; subst h1
  simp [putF,putAt]
 | k :: ks,x :: vs,0,_,h1,_=>by
  simp at h1; subst h1
  show (if k=k then _ else _)=_
  rw [if_pos rfl]; rfl
 | k :: ks,x :: vs,i+1,nd,h1,h2=>by
  have e1:ks[i]? = some f:=by simpa using h1
  have hk:¬ k=f:=fun e=>(List.nodup_cons.mp nd).1 (e ▸ List.mem_of_getElem? e1)
  have ih:=zip_put (v:=v) (vs:=vs) (List.nodup_cons.mp nd).2 e1 (by simpa using h2)
  simp only [List.zip_cons_cons,putF,putAt,if_neg hk,ih]
theorem zip_short {ks:List Str} {vs:List V} (h:ks.length < 1000):(ks.zip vs).length < 1000:=by
 rw [List.length_zip]; omega
noncomputable abbrev RC:=List V→Hp→VK→Prop
noncomputable abbrev RM:=V→List V→Hp→VK→Prop
inductive MG:Type where
 | name (i:Nat)
 | pair (i j:Nat)
set_option genSizeOf false
set_option genInjectivity false
mutual
inductive ME:Type where
 | var (i:Nat)
 | int (z:Int)
 | neg (z:Int)
 | bl (b:Bool)
 | non
 | glo (x:Str) (v:V)
 | fld (e:ME) (f:Str) (c i:Nat)
 | op (o:Operator) (r:R2) (a b:ME)
 | cmp (o:CmpOp) (r:R2) (a b:ME)
 | chn (o o':CmpOp) (r r':R2) (a b c:ME)
 | din (neg:Bool) (k d:ME)
 | dget (d k:ME)
 | ix (r:R2) (a b:ME)
 | sl (r:V→Option Int→Option Int→Hp→VK→Prop) (a lo hi:ME)
 | bol (and:Bool) (a:ME) (as:MA)
 | not_ (a:ME)
 | ife (c a b:ME)
 | call (x:Str) (sp:Sp) (as:MA)
 | make (x:Str) (c:Nat) (sp:Sp) (as:MA)
 | bif (x:Str) (id:String) (r:RC) (as:MA)
 | bty (x:Str) (T:String) (r:RC) (as:MA)
 | mth (o:ME) (m:Str) (T id:String) (r:RM) (as:MA)
 | dpop (d k:ME)
 | dgt1 (d k:ME)
 | dgt2 (d k x:ME)
 | tup (as:MA)
 | lst (as:MA)
 | dnew
 | lc (elt:ME) (tg:MG) (it:MI) (cond:MA) (own:List (Str×Nat))
 | lock (e:ME)
inductive MA:Type where
 | nil
 | cons (e:ME) (as:MA)
inductive MI:Type where
 | list (e:ME)
 | tup (e:ME)
 | rng1 (e:ME)
 | rng2 (a b:ME)
 | vals (e:ME)
 | zipLT (a b:ME)
 | enum (e:ME)
end
mutual
inductive MS:Type where
 | set (i:Nat) (e:ME)
 | setLc (i:Nat) (elt:ME) (tg:MG) (it:MI) (cond:MA) (own:List (Str×Nat))
 | expr (e:ME)
 | ret (e:ME)
 | retN
 | if_ (c:ME) (a b:MB)
 | fset (o:ME) (f:Str) (c i:Nat) (e:ME)
 | faug (o:ME) (f:Str) (c i:Nat) (op:Operator) (rd:R2) (e:ME)
 | aug (i:Nat) (op:Operator) (ti:TIp) (e:ME)
 | dput (d k v:ME)
 | lset (t:TSet) (o k v:ME)
 | for_ (tg:MG) (it:MI) (body:MB)
 | while_ (c:ME) (body:MB)
 | pass
 | brk
 | cont
 | lock (s:MS)
inductive MB:Type where
 | nil
 | cons (s:MS) (b:MB)
end
section
variable (K:W.Frag) (T:Tb)
noncomputable def MG.wp:MG→TG
 | .name i=>gName i
 | .pair i j=>gTup K 2 (gCons (gName i) (gCons (gName j) gNil))
noncomputable def rFld (c i:Nat) (x:V) (H:Hp) (Q:VK):Prop:=kzR x fun a=>kzS (getV T c (H a)) fun vs=>kzE vs[i]? fun v=>Q v H
mutual
noncomputable def ME.wp:ME→TE
 | .var i=>tVar i
 | .int z=>tC (.int z)
 | .neg z=>tC (.int (-z))
 | .bl b=>tC (.bl b)
 | .non=>tC .non
 | .glo _ v=>tC v
 | .fld e _ c i=>fun σ H Q=>e.wp σ H fun x H1=>rFld T c i x H1 Q
 | .op _ r a b=>tOp r a.wp b.wp
 | .cmp _ r a b=>tOp r a.wp b.wp
 | .chn _ _ r r' a b c=>tChain r r' a.wp b.wp c.wp
 | .din n k d=>if n then tDNotIn k.wp d.wp else tDIn k.wp d.wp
 | .dget d k=>tDGet d.wp k.wp
 | .ix r a b=>tOp r a.wp b.wp
 | .sl r a lo hi=>tSl r a.wp (tPart lo.wp) (tPart hi.wp)
 | .bol n a as=>as.wb n a.wp
 | .not_ a=>tNotV a.wp
 | .ife c a b=>tIf c.wt a.wp b.wp
 | .call _ sp as=>tCall sp [] E0 as.wp
 | .make _ c sp as=>tMake (T.cls c) sp [] E0 as.wp
 | .bif _ _ r as=>tCB r as.wp
 | .bty _ _ r as=>tCB r as.wp
 | .mth o _ ty _ r as=>tBM K ty r o.wp as.wp
 | .dpop d k=>tDPop1 d.wp k.wp
 | .dgt1 d k=>tDGet1 d.wp k.wp
 | .dgt2 d k x=>tDGet2 d.wp k.wp x.wp
 | .tup as=>tTup as.wp
 | .lst as=>tLst as.wp
 | .dnew=>tDNewK
 | .lc elt g it cond own=>tLc it.wp (g.wp K) cond.wc elt.wp (own.map (·.2))
 | .lock e=>tLockE e.wp
noncomputable def ME.wt:ME→TT
 | .bol n a as=>as.wbt n a.wt
 | .not_ a=>tNot a.wt
 | .var i=>tB (tVar i)
 | .int z=>tB (tC (.int z))
 | .bl b=>tB (tC (.bl b))
 | .non=>tB (tC .non)
 | .glo _ v=>tB (tC v)
 | .fld e _ c i=>tB fun σ H Q=>e.wp σ H fun x H1=>rFld T c i x H1 Q
 | .cmp _ r a b=>tTest (tOp r a.wp b.wp)
 | .chn _ _ r r' a b c=>tTest (tChain r r' a.wp b.wp c.wp)
 | .din n k d=>tB (if n then tDNotIn k.wp d.wp else tDIn k.wp d.wp)
 | .dget d k=>tB (tDGet d.wp k.wp)
 | .ix r a b=>tB (tOp r a.wp b.wp)
 | .call _ sp as=>tB (tCall sp [] E0 as.wp)
 | .bif _ _ r as=>tB (tCB r as.wp)
 | _=>fun _ _ _=>False
noncomputable def MA.wp:MA→TA
 | .nil=>tNil
 | .cons e as=>tCons e.wp as.wp
noncomputable def MA.wb:MA→Bool→TE→TE
 | .nil,_,t=>t
 | .cons e as,n,t=>if n then tAndV t (as.wb n e.wp) else tOrV t (as.wb n e.wp)
noncomputable def MA.wbt:MA→Bool→TT→TT
 | .nil,_,t=>t
 | .cons e as,n,t=>if n then tAnd t (as.wbt n e.wt) else tOr t (as.wbt n e.wt)
noncomputable def MA.wc:MA→TT
 | .nil=>tYes
 | .cons e .nil=>e.wt
 | .cons _ (.cons _ _)=>fun _ _ _=>False
noncomputable def MI.wp:MI→TI
 | .list e=>iList K e.wp
 | .tup e=>iTup K e.wp
 | .rng1 e=>iRng1 (tCons e.wp tNil)
 | .rng2 a b=>iRng2 (tCons a.wp (tCons b.wp tNil))
 | .vals e=>iVals e.wp
 | .zipLT a b=>iZipT K (tCons a.wp (tCons b.wp tNil))
 | .enum e=>iEnum K (tCons e.wp tNil)
end
mutual
noncomputable def MS.wp:MS→TS
 | .set i e=>tAsg (e.wp K T) (gName i)
 | .setLc i elt g it cond own=>tAsg (tLc (it.wp K T) (g.wp K) (cond.wc K T) (elt.wp K T) (own.map (·.2))) (gName i)
 | .expr e=>tDrop (e.wp K T)
 | .ret e=>tRet (e.wp K T)
 | .retN=>tRetN
 | .if_ c a b=>tIfS (c.wt K T) a.wp b.wp
 | .fset o _ c i e=>fun D σ H=>e.wp K T σ H fun y H1=>o.wp K T σ H1 fun x H2=>kzR x fun a=>kzS (getV T c (H2 a)) fun vs=>i≤vs.length∧D.nx σ (setV T c H2 a (putAt vs i y))
 | .faug o _ c i _ rd e=>fun D σ H=>o.wp K T σ H fun x H1=>kzR x fun a=>kzS (getV T c (H1 a)) fun vs=>kzE vs[i]? fun v =>
   e.wp K T σ H1 fun y H2=>rd v y H2 fun z H3=>kzS (getV T c (H3 a)) fun vs'=>i≤vs'.length∧D.nx σ (setV T c H3 a (putAt vs' i z))
 | .aug i _ ti e=>tAug i (e.wp K T) ti
 | .dput d k v=>sDPut (d.wp K T) (k.wp K T) (v.wp K T)
 | .lset t o k v=>tAsg (v.wp K T) (gSub (o.wp K T) (k.wp K T) t)
 | .for_ g it b=>tFor (it.wp K T) (g.wp K) b.wp
 | .while_ c b=>tWhile (c.wt K T) b.wp
 | .pass=>tNext
 | .brk=>tBreak
 | .cont=>tCont
 | .lock s=>tLock s.wp
noncomputable def MB.wp:MB→TS
 | .nil=>tNext
 | .cons s b=>tSeq s.wp b.wp
end
end
noncomputable def isVis (nm:List (Str×NameKind)) (x:Str):Bool:=match nm.lookup x with
 | some .local=>true | some .cell=>true | some .free=>true | _=>false
noncomputable def isLoc (nm:List (Str×NameKind)) (x:Str):Bool:=match nm.lookup x with
 | some .local=>true | some .cell=>true | _=>false
noncomputable def isGl (nm:List (Str×NameKind)) (x:Str):Bool:=match nm.lookup x with
 | some .globalImplicit=>!(x == ("__debug__" : Str)) | _=>false
noncomputable def okVar (N:List Str) (nm:List (Str×NameKind)) (i:Nat) (x:Str):Bool :=
 decide (N[i]? = some x) && isVis nm x && !(x == ("__debug__" : Str)) && !(x == ("__classdict__" : Str))
noncomputable def okLoc (N:List Str) (nm:List (Str×NameKind)) (i:Nat) (x:Str):Bool:=decide (N[i]? = some x) && isLoc nm x
noncomputable def notStar:Expr→Bool
 | .Starred ..=>false
 | _=>true
noncomputable def notSuper:Expr→Bool
 | .Call (.Name _ _) [] [] _=>false
 | _=>true
noncomputable def notComp:Expr→Bool
 | .ListComp ..=>false | .SetComp ..=>false | .DictComp ..=>false
 | _=>true
noncomputable def notSlice:Expr→Bool
 | .Slice ..=>false
 | _=>true
noncomputable def notSet:Expr→Bool
 | .Set ..=>false
 | _=>true
noncomputable def plainTest:Expr→Bool
 | .Call ..=>true | .Name ..=>true | .Constant ..=>true | .Attribute ..=>true | .Subscript ..=>true
 | _=>false
noncomputable def relab (nm:List (Str×NameKind)) (l:List (Str×NameKind)):List (Str×NameKind) :=
 l.map fun p=>if (p.2 == NameKind.free && nm.lookup p.1 == some .cell) then (p.1,NameKind.cell) else (p.1,p.2)
noncomputable def okFld (f:Str) (c i:Nat):Bool:=decide ((keysOf c)[i]? = some f)
noncomputable def MG.pr:MG→Bool
 | .name _=>false
 | .pair _ _=>true
noncomputable def MG.chkC (N:List Str) (nm:List (Str×NameKind)):MG→Expr→Bool
 | .name i,e=>match e with | .Name y _=>decide (N[i]? = some y) && decide (nm.lookup y=some .local) | _=>false
 | .pair i j,e=>match e with | .Tuple [.Name y _,.Name z _] _ _=>decide (N[i]? = some y) && decide (nm.lookup y=some .local) && (decide (N[j]? = some z) && decide (nm.lookup z=some .local)) | _=>false
mutual
noncomputable def ME.chk (N:List Str) (nm:List (Str×NameKind)):ME→Expr→Bool
 | .var i,e=>match e with | .Name x _=>okVar N nm i x | _=>false
 | .int z,e=>match e with | .Constant (.int i) _ _=>decide (i=z) | _=>false
 | .neg z,e=>match e with | .UnaryOp .USub (.Constant (.int i) _ _) _=>decide (i=z) | _=>false
 | .bl b,e=>match e with | .Constant (.bool i) _ _=>decide (i=b) | _=>false
 | .non,e=>match e with | .Constant .none _ _=>true | _=>false
 | .glo y _,e=>match e with | .Name x _=>decide (x=y) && isGl nm x | _=>false
 | .fld m f c i,e=>match e with | .Attribute o g _=>decide (g=f) && okFld f c i && notSuper o && m.chk N nm o | _=>false
 | .op p _ a b,e=>match e with | .BinOp x q y _=>decide (q=p) && a.chk N nm x && b.chk N nm y | _=>false
 | .cmp p _ a b,e=>match e with | .Compare x [q] [y] _=>decide (q=p) && notSet y && a.chk N nm x && b.chk N nm y | _=>false
 | .chn p p' _ _ a b c,e=>match e with | .Compare x [q,q'] [y,z] _=>decide (q=p) && decide (q'=p') && notSet z && a.chk N nm x && b.chk N nm y && c.chk N nm z | _=>false
 | .din n k d,e=>match e with | .Compare x [q] [y] _=>decide (q=if n then .NotIn else .In) && notSet y && k.chk N nm x && d.chk N nm y | _=>false
 | .dget d k,e=>match e with | .Subscript x y _=>notSlice y && d.chk N nm x && k.chk N nm y | _=>false
 | .ix _ a b,e=>match e with | .Subscript x y _=>notSlice y && a.chk N nm x && b.chk N nm y | _=>false
 | .sl _ a lo hi,e=>match e with | .Subscript x (.Slice (some y) (some z) none _) _=>a.chk N nm x && lo.chk N nm y && hi.chk N nm z | _=>false
 | .bol n a as,e=>match e with | .BoolOp p (x :: xs) _=>decide (p=if n then .And else .Or) && a.chk N nm x && as.chk N nm xs | _=>false
 | .not_ a,e=>match e with | .UnaryOp .Not x _=>a.chk N nm x | _=>false
 | .ife c a b,e=>match e with | .IfExp x y z _=>c.chk N nm x && a.chk N nm y && b.chk N nm z | _=>false
 | .call y _ as,e=>match e with | .Call (.Name x _) es [] _=>decide (x=y) && isGl nm x && as.chk N nm es | _=>false
 | .make y _ _ as,e=>match e with | .Call (.Name x _) es [] _=>decide (x=y) && isGl nm x && as.chk N nm es | _=>false
 | .bif y _ _ as,e=>match e with | .Call (.Name x _) (a :: es) [] _=>decide (x=y) && isGl nm x && !(x == ("__name__" : Str)) && as.chk N nm (a :: es) | _=>false
 | .bty y _ _ as,e=>match e with | .Call (.Name x _) (a :: es) [] _=>decide (x=y) && isGl nm x && !(x == ("__name__" : Str)) && as.chk N nm (a :: es) | _=>false
 | .mth o g _ _ _ as,e=>match e with | .Call (.Attribute x f apos) es [] cpos=>decide (f=g) && notSuper x && (apos.endLine == cpos.line) && decide (es.length < 29) && o.chk N nm x && as.chk N nm es | _=>false
 | .dpop d k,e=>match e with | .Call (.Attribute x f apos) [y] [] cpos=>decide (f = "pop") && notSuper x && (apos.endLine == cpos.line) && notStar y && d.chk N nm x && k.chk N nm y | _=>false
 | .dgt1 d k,e=>match e with | .Call (.Attribute x f apos) [y] [] cpos=>decide (f = "get") && notSuper x && (apos.endLine == cpos.line) && notStar y && d.chk N nm x && k.chk N nm y | _=>false
 | .dgt2 d k z,e=>match e with | .Call (.Attribute x f apos) [y,v] [] cpos=>decide (f = "get") && notSuper x && (apos.endLine == cpos.line) && notStar y && notStar v && d.chk N nm x && k.chk N nm y && z.chk N nm v | _=>false
 | .tup as,e=>match e with | .Tuple es _ _=>as.chk N nm es | _=>false
 | .lst as,e=>match e with | .List es _=>as.chk N nm es | _=>false
 | .dnew,e=>match e with | .Dict [] [] _=>true | _=>false
 | .lc elt g it cond own,e=>match e with
  | .ListComp x [⟨t,z,ifs,0⟩] sc _=>blkC N ⟨.function,nm,false,false,[]⟩ sc own && notSet z && g.chkC N (relab nm sc.names) t && it.chk N nm g.pr z && cond.chk N (relab nm sc.names) ifs && elt.chk N (relab nm sc.names) x
  | _=>false
 | .lock m,e=>m.chk N nm e
noncomputable def MA.chk (N:List Str) (nm:List (Str×NameKind)):MA→List Expr→Bool
 | .nil,es=>match es with | []=>true | _=>false
 | .cons m as,es=>match es with | e :: r=>notStar e && m.chk N nm e && as.chk N nm r | _=>false
noncomputable def MI.chk (N:List Str) (nm:List (Str×NameKind)):MI→Bool→Expr→Bool
 | .list m,_,e=>m.chk N nm e
 | .tup m,_,e=>m.chk N nm e
 | .rng1 m,_,e=>match e with | .Call (.Name x _) [a] [] _=>decide (x = "range") && isGl nm x && notStar a && m.chk N nm a | _=>false
 | .rng2 m m',_,e=>match e with | .Call (.Name x _) [a,b] [] _=>decide (x = "range") && isGl nm x && notStar a && notStar b && m.chk N nm a && m'.chk N nm b | _=>false
 | .vals m,_,e=>match e with | .Call (.Attribute x f apos) [] [] cpos=>decide (f = "values") && notSuper x && (apos.endLine == cpos.line) && m.chk N nm x | _=>false
 | .enum m,pr,e=>match e with | .Call (.Name x _) [a] [] _=>pr && decide (x = "enumerate") && isGl nm x && notStar a && m.chk N nm a | _=>false
 | .zipLT m m',pr,e=>match e with | .Call (.Name x _) [a,b] [] _=>pr && decide (x = "zip") && isGl nm x && notStar a && notStar b && m.chk N nm a && m'.chk N nm b | _=>false
end
noncomputable def MG.chk (N:List Str) (nm:List (Str×NameKind)):MG→Expr→Bool
 | .name i,e=>match e with | .Name x _=>okLoc N nm i x | _=>false
 | .pair i j,e=>match e with | .Tuple [.Name x _,.Name y _] _ _=>okLoc N nm i x && okLoc N nm j y | _=>false
mutual
noncomputable def MS.chk (N:List Str) (nm:List (Str×NameKind)):MS→Stmt→Bool
 | .set i m,s=>match s with | .Assign [.Name x _] e _=>okLoc N nm i x && notComp e && m.chk N nm e | _=>false
 | .setLc i elt g it cond own,s=>match s with
  | .Assign [.Name y py] (.ListComp x [⟨t,z,ifs,0⟩] sc pos) _=>decide (N[i]? = some y) && decide (nm.lookup y=some .local) && (py.line == pos.line) && !(sc.names.any fun (n,k)=>n == y && (k == .local || k == .cell)) &&
   (blkC N ⟨.function,nm,false,false,[]⟩ sc own && notSet z && g.chkC N (relab nm sc.names) t && it.chk N nm g.pr z && cond.chk N (relab nm sc.names) ifs && elt.chk N (relab nm sc.names) x)
  | _=>false
 | .expr m,s=>match s with | .Expr e _=>notComp e && m.chk N nm e | _=>false
 | .ret m,s=>match s with | .Return (some e) _=>m.chk N nm e | _=>false
 | .retN,s=>match s with | .Return none _=>true | _=>false
 | .if_ c a b,s=>match s with | .If e x y _=>c.chk N nm e && a.chk N nm x && b.chk N nm y | _=>false
 | .fset o f c i m,s=>match s with | .Assign [.Attribute x g _] e _=>decide (g=f) && okFld f c i && o.chk N nm x && m.chk N nm e | _=>false
 | .faug o f c i p _ m,s=>match s with | .AugAssign (.Attribute x g _) q e _=>decide (g=f) && decide (q=p) && okFld f c i && o.chk N nm x && m.chk N nm e | _=>false
 | .aug i p _ m,s=>match s with | .AugAssign (.Name x _) q e _=>decide (q=p) && okLoc N nm i x && m.chk N nm e | _=>false
 | .dput d k v,s=>match s with | .Assign [.Subscript x y _] e _=>d.chk N nm x && k.chk N nm y && v.chk N nm e | _=>false
 | .lset _ o k v,s=>match s with | .Assign [.Subscript x y _] e _=>notSlice y && notComp e && o.chk N nm x && k.chk N nm y && v.chk N nm e | _=>false
 | .for_ g it b,s=>match s with | .For tg e body [] _=>notSet e && g.chk N nm tg && it.chk N nm g.pr e && b.chk N nm body | _=>false
 | .while_ c b,s=>match s with | .While e body [] _=>c.chk N nm e && b.chk N nm body | _=>false
 | .pass,s=>match s with | .Pass _=>true | _=>false
 | .brk,s=>match s with | .Break _=>true | _=>false
 | .cont,s=>match s with | .Continue _=>true | _=>false
 | .lock m,s=>m.chk N nm s
noncomputable def MB.chk (N:List Str) (nm:List (Str×NameKind)):MB→List Stmt→Bool
 | .nil,ss=>match ss with | []=>true | _=>false
 | .cons m b,ss=>match ss with | s :: r=>m.chk N nm s && b.chk N nm r | _=>false
end
end R
end
section
set_option Elab.async false
set_option linter.all false
set_option maxHeartbeats 2000000
set_option maxRecDepth 100000
namespace R
open PySem PySem.Spec PyProof.Rows L2
theorem jad {e:Expr} (h:notStar e=true) (es:List Expr) (env:Env):starEach (e :: es) env=(false,eval e env) :: starEach es env:=by
 cases e <;> first | rfl | cases h
theorem ja3 {e:Expr} (h:notSuper e=true) (f:Str) (env:Env) (t:Sem Value):attributeBase e f env t=t:=by
 unfold attributeBase
 split
 ·cases h
 ·rfl
theorem swap_of {e:Expr} (h:notComp e=true) (t:Option Expr) (l:Nat) (env:Env):swapsWith e t l env=pure false:=by
 cases e <;> first | rfl | cases h
theorem swap_attr (e:Expr) {o:Expr} {f:Str} {p:Pos} (l:Nat) (env:Env):swapsWith e (some (.Attribute o f p)) l env=pure false:=by
 cases e <;> rfl
theorem swap_sub (e:Expr) {o i:Expr} {p:Pos} (l:Nat) (env:Env):swapsWith e (some (.Subscript o i p)) l env=pure false:=by
 cases e <;> rfl
theorem jax {b:Expr} (h:notSet b=true) (op:CmpOp):behindInMarks op b=false:=by
 cases b <;> first | rfl | cases h
theorem plain_of {b:Expr} (h:notSlice b=true) (o i:Value):subscripted b false o i=operate [o,i] (getItem o i):=by
 cases b <;> first | rfl | cases h
theorem jcy {e:Expr} (h:notSet e=true) (env:Env) (x:Value):foldedSetIterable e env x=pure x:=by
 cases e <;> first | rfl | cases h
theorem ja1 {e:Expr} (h:plainTest e=true) (env:Env) (whole:Sem Value):isTrue e env whole=(do let v ← whole; standAt e.pos; holding [v] (truthy v)):=by
 cases e <;> first | rfl | cases h
theorem sub_asg {o i:Expr} {pos:Pos} (h:notSlice i=true) (env:Env) (v:Value):assign (.Subscript o i pos) env v=(do
  let ov ← holding [v] (eval o env)
  let iv ← holding [v,ov] (eval i env)
  standAt pos
  holding [v,ov,iv] (setItem ov iv v)
  release [v,ov,iv] []):=by
 cases i <;> first | rfl | cases h
structure G where
 P:Program
 w:World
 K:W.Frag
 mg:Str→Option Value
 base:Heap
structure Lv (g:G) (k:Nat) (X:Cx):Prop where
 p:X.prog=g.P
 w:X.w=g.w
 K:X.K=g.K
 mg:X.mg=g.mg
 base:X.base=g.base
 room:Room k X.A
 calm:X.calm=true
 xe:X.xe=fun _ _=>False
structure Nm (N:List Str) (nm:List (Str×NameKind)) (X:Cx):Prop where
 hN:X.N=N
 nd:N.Nodup
 sc:X.env.scope.names=nm
 kd:X.env.scope.kind=.function
structure Nf (N:List Str) (nm:List (Str×NameKind)) (X:Cx):Prop extends Nm N nm X where
 fn:∀ x,nm.lookup x=some .cell→X.fn x=true
theorem Lv.blk {g:G} {k:Nat} {X:Cx} (l:Lv g k X) (s:Shared) (H:Hp) (sc:Scope) (ce:Env) (fp:List Addr):Lv g k (X.blk s H sc ce fp) :=
 ⟨l.p,l.w,l.K,l.mg,l.base,l.room,l.calm,rfl⟩
theorem relab_eq {X:Cx} {nm:List (Str×NameKind)} (h:X.env.scope.names=nm) (hk:X.env.scope.kind=.function) (sc:Scope):(relabel sc X.env).names=relab nm sc.names:=by
 unfold relabel relab
 show sc.names.map _=sc.names.map _
 refine List.map_congr_left fun p _=>?_
 obtain ⟨n,kd⟩:=p
 have e:X.env.kindOf n=nm.lookup n:=by unfold Env.kindOf; rw [h]
 show (if (kd == .free && X.env.scope.kind == .function && X.env.kindOf n == some .cell)=true then _ else _)=_
 rw [e,hk]
 simp
theorem vis_of {N:List Str} {nm:List (Str×NameKind)} {X:Cx} {x:Str} (n:Nm N nm X) (h:isVis nm x=true):Vis X.env.scope x:=by
 unfold isVis at h
 unfold Vis
 rw [n.sc]
 split at h
 ·exact .inl (by assumption)
 ·exact .inr (.inl (by assumption))
 ·exact .inr (.inr (by assumption))
 ·cases h
theorem loc_of {N:List Str} {nm:List (Str×NameKind)} {X:Cx} {x:Str} (n:Nf N nm X) (h:isLoc nm x=true):L2.Loc X.env.scope x∧(X.fn x=true∨X.env.scope.names.lookup x=some .local):=by
 unfold isLoc at h
 unfold L2.Loc
 rw [n.sc]
 split at h
 ·exact ⟨.inl (by assumption),.inr (by assumption)⟩
 ·exact ⟨.inr (by assumption),.inl (n.fn _ (by assumption))⟩
 ·cases h
theorem gl_of {N:List Str} {nm:List (Str×NameKind)} {X:Cx} {x:Str} (n:Nm N nm X) (h:isGl nm x=true):Gl X x∧(x == ("__debug__" : Str))=false:=by
 unfold isGl at h
 unfold Gl Env.kindOf
 rw [n.sc]
 split at h
 ·exact ⟨by assumption,by simpa using h⟩
 ·cases h
theorem pg_of {N:List Str} {nm:List (Str×NameKind)} {X:Cx} {i:Nat} {x:Str} {pos:Pos} (n:Nf N nm X) (h:okLoc N nm i x=true):PG X (.Name x pos) (gName i):=by
 unfold okLoc at h
 simp only [Bool.and_eq_true,decide_eq_true_eq] at h
 have l:=loc_of n h.2
 exact pg_name (by rw [n.hN]; exact n.nd) (by rw [n.hN]; exact h.1) l.1 l.2
structure TOk (g:G) (T:Tb):Prop where
 cls:∀ c,0 < (keysOf c).length→Cls g.K (T.cls c)
 no:∀ c f,f ∈ keysOf c→NoAttr g.K (T.cls c) f
 nd:∀ c,(keysOf c).Nodup
 few:∀ c,(keysOf c).length < 1000
noncomputable def Prom (g:G) (k:Nat) (x:Str) (sp:Sp):Prop :=
 ∃ (f:Addr) (fd:FuncData) (ps:List Str),FnOk g.P g.w g.K g.mg g.base CX0 k f fd ps sp∧g.mg x=some (.ref f)∧PySem.W.keepIn g.K (.ref f)=true∧Binds g.K fd ps []
noncomputable def PromC (g:G) (T:Tb) (k:Nat) (x:Str) (c:Nat) (sp:Sp):Prop :=
 ∃ (f:Addr) (fd:FuncData) (ps:List Str),FnOk g.P g.w g.K g.mg g.base CX0 k f fd ps sp∧Mk g.K (T.cls c) f∧g.mg x=some (.ref (T.cls c))∧Binds g.K fd ps []
theorem Prom.mono {g:G} {j k:Nat} {x:Str} {sp:Sp} (h:Prom g j x sp) (l:j≤k):Prom g k x sp:=by
 obtain ⟨f,fd,ps,h1,h2⟩:=h
 exact ⟨f,fd,ps,h1.mono l,h2⟩
section
variable (g:G) (T:Tb) (k:Nat)
mutual
noncomputable def ME.ok:ME→Prop
 | .var _=>True
 | .int _=>True
 | .neg _=>True
 | .bl _=>True
 | .non=>True
 | .glo x v=>∃ u,g.mg x=some u∧RelV v u
 | .fld e _ _ _=>e.ok
 | .op p r a b=>(∀ X,Lv g k X→OpR X (binaryOp p) r)∧a.ok∧b.ok
 | .cmp p r a b=>(∀ X,Lv g k X→OpR X (compareOp p) r)∧a.ok∧b.ok
 | .chn p p' r r' a b c=>(∀ X,Lv g k X→OpR X (compareOp p) r)∧(∀ X,Lv g k X→OpR X (compareOp p') r')∧a.ok∧b.ok∧c.ok
 | .din _ a b=>a.ok∧b.ok
 | .dget a b=>a.ok∧b.ok
 | .ix r a b=>(∀ X,Lv g k X→IxR X r)∧a.ok∧b.ok
 | .sl r a b c=>(∀ X,Lv g k X→SlR X r)∧a.ok∧b.ok∧c.ok
 | .bol _ a as=>a.ok∧as.ok
 | .not_ a=>a.ok
 | .ife c a b=>c.ok∧a.ok∧b.ok
 | .call x sp as=>Prom g k x sp∧as.ok
 | .make x c sp as=>(∃ j,j+1≤k∧PromC g T j x c sp)∧as.ok
 | .bif x id r as=>(∀ X,Lv g k X→CallR X (.builtin id) r)∧g.mg x=none∧bootBuiltins x=some (.builtin id)∧as.ok
 | .bty x ty r as=>(∀ X,Lv g k X→CallR X (.type ty) r)∧g.mg x=none∧bootBuiltins x=some (.type ty)∧as.ok
 | .mth o m ty id r as=>(∀ X,Lv g k X→MtR X id r)∧PlainAttrs ty∧Slot ty m id∧typeOf (.builtin id)=pure (.type "method_descriptor")∧o.ok∧as.ok
 | .dpop a b=>a.ok∧b.ok
 | .dgt1 a b=>a.ok∧b.ok
 | .dgt2 a b c=>a.ok∧b.ok∧c.ok
 | .tup as=>as.ok
 | .lst as=>as.ok
 | .dnew=>True
 | .lc e _ it cond _=>e.ok∧it.ok∧cond.ok
 | .lock e=>e.ok
noncomputable def MA.ok:MA→Prop
 | .nil=>True
 | .cons e as=>e.ok∧as.ok
noncomputable def MI.ok:MI→Prop
 | .list e=>e.ok
 | .tup e=>e.ok
 | .rng1 e=>g.mg "range" = none∧e.ok
 | .rng2 a b=>g.mg "range" = none∧a.ok∧b.ok
 | .vals e=>e.ok
 | .zipLT a b=>g.mg "zip" = none∧a.ok∧b.ok
 | .enum e=>g.mg "enumerate" = none∧e.ok
end
mutual
noncomputable def MS.ok:MS→Prop
 | .set _ e=>e.ok g T k
 | .setLc _ e _ it cond _=>e.ok g T k∧it.ok g T k∧cond.ok g T k
 | .expr e=>e.ok g T k
 | .ret e=>e.ok g T k
 | .retN=>True
 | .if_ c a b=>c.ok g T k∧a.ok∧b.ok
 | .fset o _ _ _ e=>o.ok g T k∧e.ok g T k
 | .faug o _ _ _ p r e=>(∀ X,Lv g k X→InOp X p r)∧o.ok g T k∧e.ok g T k
 | .aug _ p r e=>(∀ X,Lv g k X→PIp X p r)∧e.ok g T k
 | .dput a b c=>a.ok g T k∧b.ok g T k∧c.ok g T k
 | .lset t a b c=>(∀ X,Lv g k X→PSet X t)∧a.ok g T k∧b.ok g T k∧c.ok g T k
 | .for_ _ it b=>it.ok g T k∧b.ok
 | .while_ c b=>c.ok g T k∧b.ok
 | .pass=>True
 | .brk=>True
 | .cont=>True
 | .lock s=>s.ok
noncomputable def MB.ok:MB→Prop
 | .nil=>True
 | .cons s b=>s.ok∧b.ok
end
end
section
variable {g:G} {T:Tb} {k:Nat}
theorem any_of {N:List Str} {nm:List (Str×NameKind)}:∀ (as:MA) {es:List Expr},as.chk N nm es=true→∀ (pos:Pos) (env:Env),(backTo pos (starEach es env)).any (·.1)=false
 | .nil,es,h,pos,env=>by
  unfold MA.chk at h
  split at h
  ·rfl
  ·cases h
 | .cons m as,es,h,pos,env=>by
  unfold MA.chk at h
  split at h
  ·rename_i e r
   simp only [Bool.and_eq_true] at h
   rw [jad h.1.1]
   show (false || (backTo pos (starEach r env)).any (·.1))=false
   rw [any_of as h.2 pos env]; rfl
  ·cases h
theorem few_of {N:List Str} {nm:List (Str×NameKind)} (as:MA) {es:List Expr} (h:as.chk N nm es=true) (hl:es.length < 29) (pos:Pos) (env:Env) :
  ((backTo pos (starEach es env)).all (fun x=>!x.1) && (backToKw pos (keywordEach [] env)).all (fun x=>x.1.isSome)
   && decide (es.length+([]:List Keyword).length+(if ([]:List Keyword).isEmpty then 0 else 1) < 30))=true:=by
 have h1:=any_of as h pos env
 have h2:(backTo pos (starEach es env)).all (fun x=>!x.1)=true:=by
  rw [List.all_eq_true]
  intro x hx
  rw [List.any_eq_false] at h1
  simpa using h1 x hx
 rw [h2]
 have h3:decide (es.length+([]:List Keyword).length+(if ([]:List Keyword).isEmpty then 0 else 1) < 30)=true:=decide_eq_true (by simp; omega)
 rw [h3]
 rfl
theorem trees1 {e:Expr} (h:notStar e=true) (pos:Pos) (env:Env):backTo pos (starEach [e] env)=[(false,eval e env)]:=by
 rw [jad h]; rfl
theorem trees2 {e f:Expr} (h:notStar e=true) (h':notStar f=true) (pos:Pos) (env:Env):backTo pos (starEach [e,f] env)=[(false,eval e env),(false,eval f env)]:=by
 rw [jad h,jad h']; rfl
theorem Lv.hu {X:Cx} (l:Lv g k X):X.A.units+1 < cLine:=hu_of l.room
theorem fld_sound {X:Cx} (hT:TOk g T) (l:Lv g k X) {e:Expr} {f:Str} {c i:Nat} {pos:Pos} {t:TE} (hf:okFld f c i=true) (hs:notSuper e=true) (he:PE X e t) :
  PE X (.Attribute e f pos) (fun σ H Q=>t σ H fun x H1=>rFld T c i x H1 Q):=by
 have hk:(keysOf c)[i]? = some f:=of_decide_eq_true hf
 intro pins s σ H Q I h
 refine attr_of (ja3 hs f X.env _) (thn (he pins s σ H _ I h) fun u s1 ⟨x,H1,I1,rx,q0⟩=>?_)
 obtain ⟨a,ex,q⟩:=kzR_m.mp q0
 obtain ⟨vs,ea,q⟩:=kzS_m.mp q
 obtain ⟨v,hv,q⟩:=kzS_m.mp q
 subst ex
 obtain rfl:u=Value.ref a:=rx
 obtain ⟨dx,ea,_⟩:=jai ea
 exact getattr_ok I1 ea (by rw [l.K]; exact hT.cls c (List.length_pos_of_mem (List.mem_of_getElem? hk))) (by rw [l.K]; exact hT.no c f (List.mem_of_getElem? hk)) (zip_look (hT.nd c) hk hv) fun u' s2 I2 ru=>⟨v,H1,I2,ru,q⟩
theorem fset_sound {X:Cx} (hT:TOk g T) (l:Lv g k X) {o e:Expr} {f:Str} {c i:Nat} {pos pos':Pos} {t u:TE} (hf:okFld f c i=true) (ho:PE X o t) (he:PE X e u) :
  PS X (.Assign [.Attribute o f pos'] e pos) (fun D σ H=>u σ H fun y H1=>t σ H1 fun x H2=>kzR x fun a=>kzS (getV T c (H2 a)) fun vs=>i≤vs.length∧D.nx σ (setV T c H2 a (putAt vs i y))):=by
 have hk:(keysOf c)[i]? = some f:=of_decide_eq_true hf
 intro pins s σ H D I h
 refine plainObj_wpAny_Assign_Attribute (thn (he pins s σ H _ I h) fun u s1 ⟨y,H1,I1,ry,q⟩=>thn (ho pins s1 σ H1 _ I1 q) fun ov s2 ⟨x,H2,I2,rx,q0⟩=>?_) (swap_attr e _ _)
 obtain ⟨a,ex,q2⟩:=kzR_m.mp q0
 obtain ⟨vs,ea,hl,q2⟩:=kzS_m.mp q2
 subst ex
 obtain rfl:ov=Value.ref a:=rx
 obtain ⟨dx,ea,_⟩:=jai ea
 refine setattr_ok I2 ea (by rw [l.K]; exact hT.cls c (List.length_pos_of_mem (List.mem_of_getElem? hk))) (by rw [l.K]; exact hT.no c f (List.mem_of_getElem? hk)) (zip_short (hT.few c)) ry fun s3 I3=>⟨σ,_,I3,?_⟩
 rw [zip_put (hT.nd c) hk hl]
 rw [jao ea] at q2
 exact q2
theorem faug_sound {X:Cx} (hT:TOk g T) (l:Lv g k X) {o e:Expr} {f:Str} {c i:Nat} {pos pos':Pos} {t u:TE} {p:Operator} {rd:R2} (hop:InOp X p rd) (hf:okFld f c i=true) (ho:PE X o t) (he:PE X e u) :
  PS X (.AugAssign (.Attribute o f pos') p e pos) (fun D σ H=>t σ H fun x H1=>kzR x fun a=>kzS (getV T c (H1 a)) fun vs=>kzE vs[i]? fun v =>
   u σ H1 fun y H2=>rd v y H2 fun z H3=>kzS (getV T c (H3 a)) fun vs'=>i≤vs'.length∧D.nx σ (setV T c H3 a (putAt vs' i z))):=by
 have hk:(keysOf c)[i]? = some f:=of_decide_eq_true hf
 have hc:Cls X.K (T.cls c):=by rw [l.K]; exact hT.cls c (List.length_pos_of_mem (List.mem_of_getElem? hk))
 have hn:NoAttr X.K (T.cls c) f:=by rw [l.K]; exact hT.no c f (List.mem_of_getElem? hk)
 intro pins s σ H D I h
 refine wpAny_AugAssign_AttributeAny (thn (ho pins s σ H _ I h) fun ov s1 ⟨x,H1,I1,rx,q0⟩=>?_)
 obtain ⟨a,ex,q⟩:=kzR_m.mp q0
 obtain ⟨vs,ea,q⟩:=kzS_m.mp q
 obtain ⟨v,hv,q⟩:=kzS_m.mp q
 subst ex
 obtain rfl:ov=Value.ref a:=rx
 obtain ⟨dx,ea,_⟩:=jai ea
 refine getattr_ok I1 ea hc hn (zip_look (hT.nd c) hk hv) fun u s2 I2 ru=>thn (he pins s2 σ H1 _ I2 q) fun w3 s3 ⟨y,H2,I3,ry,q3⟩=>thn (hop pins s3 σ H2 v y u w3 _ I3 ru ry q3) fun w4 s4 ⟨z,H3,I4,rz,q0⟩=>?_
 obtain ⟨vs',ea',hl,q4⟩:=kzS_m.mp q0
 obtain ⟨dx',ea',_⟩:=jai ea'
 refine setattr_ok I4 ea' hc hn (zip_short (hT.few c)) rz fun s5 I5=>⟨σ,_,I5,?_⟩
 rw [zip_put (hT.nd c) hk hl]
 rw [jao ea'] at q4
 exact q4
theorem call_sound {X:Cx} (l:Lv g k X) {N:List Str} {nm:List (Str×NameKind)} (n:Nm N nm X) {x:Str} {sp:Sp} (h:Prom g k x sp) {es:List Expr} {p pos:Pos} (hg:isGl nm x=true) (as:MA) (hc:as.chk N nm es=true) {t:TA} (ha:PA X es t) (ht:es=[]→t=tNil) :
  PE X (.Call (.Name x p) es [] pos) (tCall sp [] E0 t):=by
 obtain ⟨f,fd,ps,F,hm,hk,hb⟩:=h
 rw [← l.p,← l.w,← l.K,← l.mg,← l.base] at F
 rw [← l.mg] at hm
 rw [← l.K] at hk hb
 obtain ⟨hg1,hg2⟩:=gl_of n hg
 cases es with
 | nil=>rw [ht rfl]; exact pe_call0 F l.room hg1 hm hk hb .nil pass0 hg2
 | cons e es =>
  cases as with
  | nil=>unfold MA.chk at hc; cases hc
  | cons m as =>
   unfold MA.chk at hc
   simp only [Bool.and_eq_true] at hc
   exact pe_call F l.room hg1 hm hk hb .nil pass0 ha hg2 (jad hc.1.1 _ _) (any_of as hc.2 _ _)
theorem make_sound {X:Cx} (l:Lv g k X) {N:List Str} {nm:List (Str×NameKind)} (n:Nm N nm X) {x:Str} {c:Nat} {sp:Sp} {j:Nat} (hj:j+1≤k) (h:PromC g T j x c sp) {es:List Expr} {p pos:Pos} (hg:isGl nm x=true) (as:MA) (hc:as.chk N nm es=true) {t:TA} (ha:PA X es t) (ht:es=[]→t=tNil) :
  PE X (.Call (.Name x p) es [] pos) (tMake (T.cls c) sp [] E0 t):=by
 obtain ⟨f,fd,ps,F,M,hm,hb⟩:=h
 rw [← l.p,← l.w,← l.K,← l.mg,← l.base] at F
 rw [← l.mg] at hm
 rw [← l.K] at M hb
 obtain ⟨hg1,hg2⟩:=gl_of n hg
 cases es with
 | nil=>rw [ht rfl]; exact pe_make0 M F (l.room.mono hj) hg1 hm hb .nil pass0 hg2
 | cons e es =>
  cases as with
  | nil=>unfold MA.chk at hc; cases hc
  | cons m as =>
   unfold MA.chk at hc
   simp only [Bool.and_eq_true] at hc
   exact pe_make M F (l.room.mono hj) hg1 hm hb .nil pass0 ha hg2 (jad hc.1.1 _ _) (any_of as hc.2 _ _)
theorem nil_wp {N:List Str} {nm:List (Str×NameKind)} {K:W.Frag} (as:MA) (h:as.chk N nm []=true):as.wp K T=tNil:=by
 cases as with
 | nil=>rfl
 | cons m as=>unfold MA.chk at h; cases h
theorem PT.bot {X:Cx} {e:Expr}:PT X e (fun _ _ _=>False):=fun _ _ _ _ _ _ h=>h.elim
theorem MG.pgC {N:List Str} {nm:List (Str×NameKind)} {X:Cx} {i:Nat} {y:Str} {pos:Pos} (n:Nm N nm X) (h:N[i]? = some y) (h':nm.lookup y=some .local):PG X (.Name y pos) (gName i):=by
 have q:X.env.scope.names.lookup y=some .local:=by rw [n.sc]; exact h'
 exact pg_name (by rw [n.hN]; exact n.nd) (by rw [n.hN]; exact h) (.inl q) (.inr q)
theorem MG.sndC:∀ (m:MG) {N:List Str} {nm:List (Str×NameKind)} {X:Cx} {e:Expr},Lv g k X→Nm N nm X→m.chkC N nm e=true→PG X e (m.wp g.K)
 | .name i,N,nm,X,e,l,n,hc=>by
  simp only [MG.chkC] at hc
  split at hc
  ·simp only [Bool.and_eq_true,decide_eq_true_eq] at hc
   exact MG.pgC n hc.1 hc.2
  ·cases hc
 | .pair i j,N,nm,X,e,l,n,hc=>by
  simp only [MG.chkC] at hc
  split at hc
  ·simp only [Bool.and_eq_true,decide_eq_true_eq] at hc
   rw [← l.K]
   exact pg_tup (X:=X) l.calm (jci (MG.pgC n hc.1.1 hc.1.2) (jci (MG.pgC n hc.2.1 hc.2.2) pgs_nil))
  ·cases hc
theorem MG.tupC {N:List Str} {nm:List (Str×NameKind)} {e:Expr}:∀ (m:MG),m.chkC N nm e=true→m.pr=true→∃ elts kk pos,e=.Tuple elts kk pos
 | .name _,_,h=>by cases h
 | .pair _ _,h,_=>by
  simp only [MG.chkC] at h
  split at h
  ·exact ⟨_,_,_,rfl⟩
  ·cases h
mutual
theorem ME.snd (hT:TOk g T):∀ (m:ME) {N:List Str} {nm:List (Str×NameKind)} {X:Cx} {e:Expr},Lv g k X→Nm N nm X→m.chk N nm e=true→m.ok g T k→PE X e (m.wp g.K T)∧PT X e (m.wt g.K T)
 | .var i,N,nm,X,e,l,n,hc,ho=>by
  (conv at hc=>lhs;whnf)
  split at hc
  ·unfold okVar at hc
   simp only [Bool.and_eq_true,decide_eq_true_eq,Bool.not_eq_true'] at hc
   have h:=pe_var (X:=X) (pos:=‹_›) (by rw [n.hN]; exact hc.1.1.1) (vis_of n hc.1.1.2) hc.1.2 hc.2
   exact ⟨h,pt_val h (ja1 rfl X.env)⟩
  ·cases hc
 | .int z,N,nm,X,e,l,n,hc,ho=>by
  (conv at hc=>lhs;whnf)
  split at hc
  ·simp only [decide_eq_true_eq] at hc
   subst hc
   exact ⟨pe_int,pt_val pe_int (ja1 rfl X.env)⟩
  ·cases hc
 | .neg z,N,nm,X,e,l,n,hc,ho=>by
  (conv at hc=>lhs;whnf)
  split at hc
  ·simp only [decide_eq_true_eq] at hc
   subst hc
   refine ⟨fun pins s σ H Q I q=>pe_un (X:=X) un_neg pe_int pins s σ H Q I ⟨_,rfl,q⟩,PT.bot⟩
  ·cases hc
 | .bl b,N,nm,X,e,l,n,hc,ho=>by
  (conv at hc=>lhs;whnf)
  split at hc
  ·simp only [decide_eq_true_eq] at hc
   subst hc
   exact ⟨pe_bl,pt_val pe_bl (ja1 rfl X.env)⟩
  ·cases hc
 | .non,N,nm,X,e,l,n,hc,ho=>by
  (conv at hc=>lhs;whnf)
  split at hc
  ·exact ⟨pe_non,pt_val pe_non (ja1 rfl X.env)⟩
  ·cases hc
 | .glo y v,N,nm,X,e,l,n,hc,ho=>by
  (conv at hc=>lhs;whnf)
  split at hc
  ·simp only [Bool.and_eq_true,decide_eq_true_eq] at hc
   obtain ⟨rfl,hg⟩:=hc
   obtain ⟨u,hu,r⟩:=ho
   obtain ⟨h1,h2⟩:=gl_of n hg
   have h:=pe_glob (X:=X) (pos:=‹_›) h1 (by rw [l.mg]; exact hu) r h2
   exact ⟨h,pt_val h (ja1 rfl X.env)⟩
  ·cases hc
 | .fld m f c i,N,nm,X,e,l,n,hc,ho=>by
  (conv at hc=>lhs;whnf)
  split at hc
  ·simp only [Bool.and_eq_true,decide_eq_true_eq] at hc
   obtain ⟨⟨⟨rfl,h1⟩,h2⟩,h3⟩:=hc
   have h:=fld_sound (pos:=‹_›) hT l h1 h2 (ME.snd hT m l n h3 ho).1
   exact ⟨h,pt_val h (ja1 rfl X.env)⟩
  ·cases hc
 | .op p r a b,N,nm,X,e,l,n,hc,ho=>by
  (conv at hc=>lhs;whnf)
  split at hc
  ·simp only [Bool.and_eq_true,decide_eq_true_eq] at hc
   obtain ⟨⟨rfl,h1⟩,h2⟩:=hc
   obtain ⟨o1,o2,o3⟩:=ho
   exact ⟨pe_op (o1 X l) (ME.snd hT a l n h1 o2).1 (ME.snd hT b l n h2 o3).1,PT.bot⟩
  ·cases hc
 | .cmp p r a b,N,nm,X,e,l,n,hc,ho=>by
  (conv at hc=>lhs;whnf)
  split at hc
  ·simp only [Bool.and_eq_true,decide_eq_true_eq] at hc
   obtain ⟨⟨⟨rfl,h0⟩,h1⟩,h2⟩:=hc
   obtain ⟨o1,o2,o3⟩:=ho
   exact ⟨pe_cmpR (o1 X l) (ME.snd hT a l n h1 o2).1 (ME.snd hT b l n h2 o3).1 (jax h0 _),pt_cmpR (o1 X l) (ME.snd hT a l n h1 o2).1 (ME.snd hT b l n h2 o3).1 (jax h0 _)⟩
  ·cases hc
 | .chn p p' r r' a b c,N,nm,X,e,l,n,hc,ho=>by
  (conv at hc=>lhs;whnf)
  split at hc
  ·simp only [Bool.and_eq_true,decide_eq_true_eq] at hc
   obtain ⟨⟨⟨⟨⟨rfl,rfl⟩,h0⟩,h1⟩,h2⟩,h3⟩:=hc
   obtain ⟨o1,o1',o2,o3,o4⟩:=ho
   exact ⟨pe_chain (o1 X l) (o1' X l) (ME.snd hT a l n h1 o2).1 (ME.snd hT b l n h2 o3).1 (ME.snd hT c l n h3 o4).1 (jax h0 _),pt_chain (o1 X l) (o1' X l) (ME.snd hT a l n h1 o2).1 (ME.snd hT b l n h2 o3).1 (ME.snd hT c l n h3 o4).1 (jax h0 _)⟩
  ·cases hc
 | .din neg a b,N,nm,X,e,l,n,hc,ho=>by
  (conv at hc=>lhs;whnf)
  split at hc
  ·simp only [Bool.and_eq_true,decide_eq_true_eq] at hc
   obtain ⟨⟨⟨rfl,h0⟩,h1⟩,h2⟩:=hc
   obtain ⟨o2,o3⟩:=ho
   have ha:=(ME.snd hT a l n h1 o2).1
   have hb:=(ME.snd hT b l n h2 o3).1
   cases neg with
   | true=>exact ⟨pe_cmp (pc_dnotin l.hu ha hb) (jax h0 _),pt_cmp (pc_dnotin l.hu ha hb) (jax h0 _)⟩
   | false=>exact ⟨pe_cmp (pc_din l.hu ha hb) (jax h0 _),pt_cmp (pc_din l.hu ha hb) (jax h0 _)⟩
  ·cases hc
 | .dget a b,N,nm,X,e,l,n,hc,ho=>by
  (conv at hc=>lhs;whnf)
  split at hc
  ·simp only [Bool.and_eq_true,decide_eq_true_eq] at hc
   obtain ⟨⟨h0,h1⟩,h2⟩:=hc
   have h:=pe_dget (pos:=‹_›) l.hu (ME.snd hT a l n h1 ho.1).1 (ME.snd hT b l n h2 ho.2).1 (plain_of h0)
   exact ⟨h,pt_val h (ja1 rfl X.env)⟩
  ·cases hc
 | .ix r a b,N,nm,X,e,l,n,hc,ho=>by
  (conv at hc=>lhs;whnf)
  split at hc
  ·simp only [Bool.and_eq_true,decide_eq_true_eq] at hc
   obtain ⟨⟨h0,h1⟩,h2⟩:=hc
   obtain ⟨o1,o2,o3⟩:=ho
   have h:=pe_ix (pos:=‹_›) (o1 X l) (ME.snd hT a l n h1 o2).1 (ME.snd hT b l n h2 o3).1 (plain_of h0)
   exact ⟨h,pt_val h (ja1 rfl X.env)⟩
  ·cases hc
 | .sl r a lo hi,N,nm,X,e,l,n,hc,ho=>by
  (conv at hc=>lhs;whnf)
  split at hc
  ·simp only [Bool.and_eq_true,decide_eq_true_eq] at hc
   obtain ⟨⟨h0,h1⟩,h2⟩:=hc
   obtain ⟨o1,o2,o3,o4⟩:=ho
   exact ⟨pe_slice (o1 X l) (ME.snd hT a l n h0 o2).1 (po_some (ME.snd hT lo l n h1 o3).1) (po_some (ME.snd hT hi l n h2 o4).1),PT.bot⟩
  ·cases hc
 | .bol neg a as,N,nm,X,e,l,n,hc,ho=>by
  (conv at hc=>lhs;whnf)
  split at hc
  ·simp only [Bool.and_eq_true,decide_eq_true_eq] at hc
   obtain ⟨⟨rfl,h1⟩,h2⟩:=hc
   have h:=ME.snd hT a l n h1 ho.1
   exact ⟨MA.sndB hT as l n h.1 h2 ho.2 neg,(MA.sndBT hT as l n h.2 h2 ho.2 neg).pt⟩
  ·cases hc
 | .not_ a,N,nm,X,e,l,n,hc,ho=>by
  (conv at hc=>lhs;whnf)
  split at hc
  ·have h:=ME.snd hT a l n hc ho
   exact ⟨pe_not h.1,pt_not h.2⟩
  ·cases hc
 | .ife c a b,N,nm,X,e,l,n,hc,ho=>by
  (conv at hc=>lhs;whnf)
  split at hc
  ·simp only [Bool.and_eq_true] at hc
   obtain ⟨⟨h0,h1⟩,h2⟩:=hc
   exact ⟨pe_ifExp (ME.snd hT c l n h0 ho.1).2 (ME.snd hT a l n h1 ho.2.1).1 (ME.snd hT b l n h2 ho.2.2).1,PT.bot⟩
  ·cases hc
 | .call y sp as,N,nm,X,e,l,n,hc,ho=>by
  (conv at hc=>lhs;whnf)
  split at hc
  ·simp only [Bool.and_eq_true,decide_eq_true_eq] at hc
   obtain ⟨⟨rfl,h1⟩,h2⟩:=hc
   have h:=fun p pos=>call_sound (p:=p) (pos:=pos) l n ho.1 h1 as h2 (MA.snd hT as l n h2 ho.2) (fun e=>by subst e; exact nil_wp as h2)
   exact ⟨h _ _,pt_val (h _ _) (ja1 rfl X.env)⟩
  ·cases hc
 | .make y c sp as,N,nm,X,e,l,n,hc,ho=>by
  (conv at hc=>lhs;whnf)
  split at hc
  ·simp only [Bool.and_eq_true,decide_eq_true_eq] at hc
   obtain ⟨⟨rfl,h1⟩,h2⟩:=hc
   obtain ⟨⟨j,hj,hp⟩,oa⟩:=ho
   exact ⟨make_sound l n hj hp h1 as h2 (MA.snd hT as l n h2 oa) (fun e=>by subst e; exact nil_wp as h2),PT.bot⟩
  ·cases hc
 | .bif y id r as,N,nm,X,e,l,n,hc,ho=>by
  (conv at hc=>lhs;whnf)
  split at hc
  ·simp only [Bool.and_eq_true,decide_eq_true_eq,Bool.not_eq_true'] at hc
   obtain ⟨⟨⟨rfl,h1⟩,h3⟩,h2⟩:=hc
   obtain ⟨o1,o2,o3,o4⟩:=ho
   obtain ⟨g1,g2⟩:=gl_of n h1
   have ha:=MA.snd hT as l n h2 o4
   cases as with
   | nil=>unfold MA.chk at h2; cases h2
   | cons m as =>
    unfold MA.chk at h2
    simp only [Bool.and_eq_true] at h2
    have h:=fun p pos=>pe_callB (p:=p) (pos:=pos) (o1 X l) g1 (by rw [l.mg]; exact o2) o3 ha (beq_eq_false_iff_ne.mp h3) g2 (jad h2.1.1 _ _) (any_of as h2.2 _ _)
    exact ⟨h _ _,pt_val (h _ _) (ja1 rfl X.env)⟩
  ·cases hc
 | .bty y ty r as,N,nm,X,e,l,n,hc,ho=>by
  (conv at hc=>lhs;whnf)
  split at hc
  ·simp only [Bool.and_eq_true,decide_eq_true_eq,Bool.not_eq_true'] at hc
   obtain ⟨⟨⟨rfl,h1⟩,h3⟩,h2⟩:=hc
   obtain ⟨o1,o2,o3,o4⟩:=ho
   obtain ⟨g1,g2⟩:=gl_of n h1
   have ha:=MA.snd hT as l n h2 o4
   cases as with
   | nil=>unfold MA.chk at h2; cases h2
   | cons m as =>
    unfold MA.chk at h2
    simp only [Bool.and_eq_true] at h2
    exact ⟨pe_callTy (o1 X l) g1 (by rw [l.mg]; exact o2) o3 ha (beq_eq_false_iff_ne.mp h3) g2 (jad h2.1.1 _ _) (any_of as h2.2 _ _),PT.bot⟩
  ·cases hc
 | .mth o m ty id r as,N,nm,X,e,l,n,hc,ho=>by
  (conv at hc=>lhs;whnf)
  split at hc
  ·rename_i x f apos es cpos
   simp only [Bool.and_eq_true,decide_eq_true_eq] at hc
   obtain ⟨⟨⟨⟨⟨rfl,h1⟩,h2⟩,h3⟩,h4⟩,h5⟩:=hc
   obtain ⟨o1,o2,o3,o4,o5,o6⟩:=ho
   have hx:=(ME.snd hT o l n h4 o5).1
   have ha:=MA.snd hT as l n h5 o6
   have hK:=l.K
   cases es with
   | nil =>
    have h:=pe_bm0 (apos:=apos) (cpos:=cpos) o2 o3 o4 (o1 X l) hx (ja3 h1 _ _ _) h2
    rw [hK] at h
    refine ⟨?_,PT.bot⟩
    show PE _ _ (tBM g.K _ _ (o.wp g.K T) (as.wp g.K T))
    rw [nil_wp as h5]
    exact h
   | cons e es =>
    cases as with
    | nil=>unfold MA.chk at h5; cases h5
    | cons m' as =>
     have h5':=h5
     unfold MA.chk at h5'
     simp only [Bool.and_eq_true] at h5'
     have h:=pe_bm (apos:=apos) (cpos:=cpos) o2 o3 o4 (o1 X l) hx ha (ja3 h1 _ _ _) (few_of _ h5 h3 _ _) h2 (jad h5'.1.1 _ _) (any_of as h5'.2 _ _)
     rw [hK] at h
     exact ⟨h,PT.bot⟩
  ·cases hc
 | .dpop d q,N,nm,X,e,l,n,hc,ho=>by
  (conv at hc=>lhs;whnf)
  split at hc
  ·simp only [Bool.and_eq_true,decide_eq_true_eq] at hc
   obtain ⟨⟨⟨⟨⟨rfl,h1⟩,h2⟩,h3⟩,h4⟩,h5⟩:=hc
   exact ⟨pe_dpop1 (ME.snd hT d l n h4 ho.1).1 (ME.snd hT q l n h5 ho.2).1 ⟨ja3 h1 _ _ _,few_of (N:=N) (nm:=nm) (.cons q .nil) (by unfold MA.chk MA.chk; simp [h3,h5]) (by simp) _ _,h2,trees1 h3 _ _⟩,PT.bot⟩
  ·cases hc
 | .dgt1 d q,N,nm,X,e,l,n,hc,ho=>by
  (conv at hc=>lhs;whnf)
  split at hc
  ·simp only [Bool.and_eq_true,decide_eq_true_eq] at hc
   obtain ⟨⟨⟨⟨⟨rfl,h1⟩,h2⟩,h3⟩,h4⟩,h5⟩:=hc
   exact ⟨pe_dget1 l.hu (ME.snd hT d l n h4 ho.1).1 (ME.snd hT q l n h5 ho.2).1 ⟨ja3 h1 _ _ _,few_of (N:=N) (nm:=nm) (.cons q .nil) (by unfold MA.chk MA.chk; simp [h3,h5]) (by simp) _ _,h2,trees1 h3 _ _⟩,PT.bot⟩
  ·cases hc
 | .dgt2 d q z,N,nm,X,e,l,n,hc,ho=>by
  (conv at hc=>lhs;whnf)
  split at hc
  ·simp only [Bool.and_eq_true,decide_eq_true_eq] at hc
   obtain ⟨⟨⟨⟨⟨⟨⟨rfl,h1⟩,h2⟩,h3⟩,h3'⟩,h4⟩,h5⟩,h6⟩:=hc
   exact ⟨pe_dget2 l.hu (ME.snd hT d l n h4 ho.1).1 (ME.snd hT q l n h5 ho.2.1).1 (ME.snd hT z l n h6 ho.2.2).1 ⟨ja3 h1 _ _ _,few_of (N:=N) (nm:=nm) (.cons q (.cons z .nil)) (by unfold MA.chk MA.chk MA.chk; simp [h3,h5,h3',h6]) (by simp) _ _,h2,trees2 h3 h3' _ _⟩,PT.bot⟩
  ·cases hc
 | .tup as,N,nm,X,e,l,n,hc,ho=>by
  (conv at hc=>lhs;whnf)
  split at hc
  ·exact ⟨pe_tup (MA.snd hT as l n hc ho),PT.bot⟩
  ·cases hc
 | .lst as,N,nm,X,e,l,n,hc,ho=>by
  (conv at hc=>lhs;whnf)
  split at hc
  ·exact ⟨pe_lst (MA.snd hT as l n hc ho),PT.bot⟩
  ·cases hc
 | .dnew,N,nm,X,e,l,n,hc,ho=>by
  (conv at hc=>lhs;whnf)
  split at hc
  ·exact ⟨pe_dnewK,PT.bot⟩
  ·cases hc
 | .lc elt g it cond own,N,nm,X,e,l,n,hc,ho=>by
  (conv at hc=>lhs;whnf)
  split at hc
  ·rename_i x t z ifs sc _
   simp only [Bool.and_eq_true] at hc
   obtain ⟨⟨⟨⟨⟨h0,h1⟩,h2⟩,h3⟩,h4⟩,h5⟩:=hc
   obtain ⟨o1,o2,o3⟩:=ho
   have hb:BlkOk X.N X.env.scope sc own:=by
    have b:=blkOk_by h0
    rw [n.hN]
    exact ⟨b.kind,b.uniq,b.ix,by rw [n.sc]; exact b.free,b.own⟩
   have hn:∀ (s:Shared) (H:Hp) (C:Addr) (cl:List (Str×Addr)) (fp:List Addr),Nm N (relab nm sc.names) (X.blk s H sc (compEnvC sc cl C X.env) fp):=fun s H C cl fp =>
    ⟨n.hN,n.nd,relab_eq n.sc n.kd sc,hb.kind⟩
   refine ⟨pe_lc l.calm (by rw [n.hN]; exact n.nd) (MI.snd hT it l n h3 o2 _ (MG.tupC g h2)) hb (fun s H C cl fp=>MG.sndC g (l.blk ..) (hn s H C cl fp) h2) (fun s H C cl fp=>MA.sndC hT cond (l.blk ..) (hn s H C cl fp) h4 o3) (fun s H C cl fp=>(ME.snd hT elt (l.blk ..) (hn s H C cl fp) h5 o1).1) (jcy h1 _),PT.bot⟩
  ·cases hc
 | .lock m,N,nm,X,e,l,n,hc,ho=>⟨pe_lock (ME.snd hT m l n hc ho).1,PT.bot⟩
theorem MA.snd (hT:TOk g T):∀ (as:MA) {N:List Str} {nm:List (Str×NameKind)} {X:Cx} {es:List Expr},Lv g k X→Nm N nm X→as.chk N nm es=true→as.ok g T k→PA X es (as.wp g.K T)
 | .nil,N,nm,X,es,l,n,hc,ho=>by
  unfold MA.chk at hc
  split at hc
  ·exact pa_nil
  ·cases hc
 | .cons m as,N,nm,X,es,l,n,hc,ho=>by
  unfold MA.chk at hc
  split at hc
  ·simp only [Bool.and_eq_true] at hc
   exact jbn (ME.snd hT m l n hc.1.2 ho.1).1 (MA.snd hT as l n hc.2 ho.2) (jad hc.1.1 _ _)
  ·cases hc
theorem MA.sndB (hT:TOk g T):∀ (as:MA) {N:List Str} {nm:List (Str×NameKind)} {X:Cx} {x:Expr} {xs:List Expr} {t:TE} {pos:Pos},Lv g k X→Nm N nm X→PE X x t→as.chk N nm xs=true→as.ok g T k→∀ (b:Bool),PE X (.BoolOp (if b then .And else .Or) (x :: xs) pos) (as.wb g.K T b t)
 | .nil,N,nm,X,x,xs,t,pos,l,n,hx,hc,ho,b=>by
  unfold MA.chk at hc
  split at hc
  ·exact pe_one hx
  ·cases hc
 | .cons m as,N,nm,X,x,xs,t,pos,l,n,hx,hc,ho,b=>by
  unfold MA.chk at hc
  split at hc
  ·simp only [Bool.and_eq_true] at hc
   have h:=MA.sndB hT as (pos:=pos) l n (ME.snd hT m l n hc.1.2 ho.1).1 hc.2 ho.2 b
   cases b with
   | true=>exact pe_and hx h
   | false=>exact pe_or hx h
  ·cases hc
theorem MA.sndBT (hT:TOk g T):∀ (as:MA) {N:List Str} {nm:List (Str×NameKind)} {X:Cx} {x:Expr} {xs:List Expr} {t:TT} {pos:Pos},Lv g k X→Nm N nm X→PT X x t→as.chk N nm xs=true→as.ok g T k→∀ (b:Bool),PW X (.BoolOp (if b then .And else .Or) (x :: xs) pos) (as.wbt g.K T b t)
 | .nil,N,nm,X,x,xs,t,pos,l,n,hx,hc,ho,b=>by
  unfold MA.chk at hc
  split at hc
  ·cases b with
   | true=>exact pw_and1 hx
   | false=>exact pw_or1 hx
  ·cases hc
 | .cons m as,N,nm,X,x,xs,t,pos,l,n,hx,hc,ho,b=>by
  unfold MA.chk at hc
  split at hc
  ·simp only [Bool.and_eq_true] at hc
   have h:=MA.sndBT hT as (pos:=pos) l n (ME.snd hT m l n hc.1.2 ho.1).2 hc.2 ho.2 b
   cases b with
   | true=>exact pw_and hx h
   | false=>exact pw_or hx h
  ·cases hc
theorem MA.sndC (hT:TOk g T):∀ (as:MA) {N:List Str} {nm:List (Str×NameKind)} {X:Cx} {es:List Expr},Lv g k X→Nm N nm X→as.chk N nm es=true→as.ok g T k→PTs X es (as.wc g.K T)
 | .nil,N,nm,X,es,l,n,hc,ho=>by
  unfold MA.chk at hc
  split at hc
  ·exact pts_nil
  ·cases hc
 | .cons m .nil,N,nm,X,es,l,n,hc,ho=>by
  unfold MA.chk at hc
  split at hc
  ·simp only [Bool.and_eq_true] at hc
   have h:=hc.2
   unfold MA.chk at h
   split at h
   ·exact pts_one (ME.snd hT m l n hc.1.2 ho.1).2
   ·cases h
  ·cases hc
 | .cons m (.cons _ _),N,nm,X,es,l,n,hc,ho=>fun _ _ _ _ _ _ h=>h.elim
theorem MI.snd (hT:TOk g T):∀ (m:MI) {N:List Str} {nm:List (Str×NameKind)} {X:Cx} {e:Expr},∀ {pr:Bool},Lv g k X→Nm N nm X→m.chk N nm pr e=true→m.ok g T k→∀ (tg:Expr),(pr=true→∃ elts kk pos,tg=.Tuple elts kk pos)→PI X tg e (m.wp g.K T)
 | .list m,N,nm,X,e,pr,l,n,hc,ho,tg,ht=>by
  have h:=pi_list (tg:=tg) (ME.snd hT m l n hc ho).1
  rw [l.K] at h
  exact h
 | .tup m,N,nm,X,e,pr,l,n,hc,ho,tg,ht=>by
  have h:=pi_tup (tg:=tg) (ME.snd hT m l n hc ho).1
  rw [l.K] at h
  exact h
 | .rng1 m,N,nm,X,e,pr,l,n,hc,ho,tg,ht=>by
  (conv at hc=>lhs;whnf)
  split at hc
  ·simp only [Bool.and_eq_true,decide_eq_true_eq] at hc
   obtain ⟨⟨⟨rfl,h1⟩,h2⟩,h3⟩:=hc
   exact pi_range1 (gl_of n h1).1 (by rw [l.mg]; exact ho.1) (jbn (ME.snd hT m l n h3 ho.2).1 pa_nil (jad h2 _ _)) (jad h2 _ _)
  ·cases hc
 | .rng2 m m',N,nm,X,e,pr,l,n,hc,ho,tg,ht=>by
  (conv at hc=>lhs;whnf)
  split at hc
  ·simp only [Bool.and_eq_true,decide_eq_true_eq] at hc
   obtain ⟨⟨⟨⟨⟨rfl,h1⟩,h2⟩,h2'⟩,h3⟩,h4⟩:=hc
   refine pi_range2 (gl_of n h1).1 (by rw [l.mg]; exact ho.1) (jbn (ME.snd hT m l n h3 ho.2.1).1 (jbn (ME.snd hT m' l n h4 ho.2.2).1 pa_nil (jad h2' _ _)) (jad h2 _ _)) ?_ (jad h2' _ _)
   rw [jad h2,jad h2']; rfl
  ·cases hc
 | .vals m,N,nm,X,e,pr,l,n,hc,ho,tg,ht=>by
  (conv at hc=>lhs;whnf)
  split at hc
  ·simp only [Bool.and_eq_true,decide_eq_true_eq] at hc
   obtain ⟨⟨⟨rfl,h1⟩,h2⟩,h3⟩:=hc
   exact pi_values (ME.snd hT m l n h3 ho).1 (ja3 h1 _ _ _) h2
  ·cases hc
 | .enum m,N,nm,X,e,pr,l,n,hc,ho,tg,ht=>by
  (conv at hc=>lhs;whnf)
  split at hc
  ·simp only [Bool.and_eq_true,decide_eq_true_eq] at hc
   obtain ⟨⟨⟨⟨h0,rfl⟩,h1⟩,h2⟩,h3⟩:=hc
   obtain ⟨elts,kk,tp,rfl⟩:=ht h0
   have h:=fun p pos=>pi_enum (elts:=elts) (kk:=kk) (tpos:=tp) (p:=p) (pos:=pos) (gl_of n h1).1 (by rw [l.mg]; exact ho.1) (jbn (ME.snd hT m l n h3 ho.2).1 pa_nil (jad h2 _ _)) (jad h2 _ _)
   rw [l.K] at h
   exact h _ _
  ·cases hc
 | .zipLT m m',N,nm,X,e,pr,l,n,hc,ho,tg,ht=>by
  (conv at hc=>lhs;whnf)
  split at hc
  ·simp only [Bool.and_eq_true,decide_eq_true_eq] at hc
   obtain ⟨⟨⟨⟨⟨⟨h0,rfl⟩,h1⟩,h2⟩,h2'⟩,h3⟩,h4⟩:=hc
   obtain ⟨elts,kk,tp,rfl⟩:=ht h0
   have h:=fun p pos=>pi_zipT (elts:=elts) (kk:=kk) (tpos:=tp) (p:=p) (pos:=pos) (gl_of n h1).1 (by rw [l.mg]; exact ho.1) (jbn (ME.snd hT m l n h3 ho.2.1).1 (jbn (ME.snd hT m' l n h4 ho.2.2).1 pa_nil (jad h2' _ _)) (jad h2 _ _)) (jad h2 _ _) (by rw [jad h2']; rfl)
   rw [l.K] at h
   exact h _ _
  ·cases hc
end
end
section
variable {g:G} {T:Tb} {k:Nat}
theorem MG.snd:∀ (m:MG) {N:List Str} {nm:List (Str×NameKind)} {X:Cx} {e:Expr},Lv g k X→Nf N nm X→m.chk N nm e=true→PG X e (m.wp g.K)
 | .name i,N,nm,X,e,l,n,hc=>by
  simp only [MG.chk] at hc
  split at hc
  ·exact pg_of n hc
  ·cases hc
 | .pair i j,N,nm,X,e,l,n,hc=>by
  simp only [MG.chk] at hc
  split at hc
  ·simp only [Bool.and_eq_true] at hc
   rw [← l.K]
   exact pg_tup (X:=X) l.calm (jci (pg_of n hc.1) (jci (pg_of n hc.2) pgs_nil))
  ·cases hc
theorem MG.tup {N:List Str} {nm:List (Str×NameKind)} {e:Expr}:∀ (m:MG),m.chk N nm e=true→m.pr=true→∃ elts kk pos,e=.Tuple elts kk pos
 | .name _,_,h=>by cases h
 | .pair _ _,h,_=>by
  simp only [MG.chk] at h
  split at h
  ·exact ⟨_,_,_,rfl⟩
  ·cases h
mutual
theorem MS.snd (hT:TOk g T):∀ (m:MS) {N:List Str} {nm:List (Str×NameKind)} {X:Cx} {s:Stmt},Lv g k X→Nf N nm X→m.chk N nm s=true→m.ok g T k→PS X s (m.wp g.K T)
 | .set i m,N,nm,X,s,l,n,hc,ho=>by
  (conv at hc=>lhs;whnf)
  split at hc
  ·simp only [Bool.and_eq_true] at hc
   have h1:=hc.1.1
   unfold okLoc at h1
   simp only [Bool.and_eq_true,decide_eq_true_eq] at h1
   have q:=loc_of n h1.2
   exact ps_set (by rw [n.hN]; exact n.nd) (by rw [n.hN]; exact h1.1) q.1 (ME.snd hT m l n.toNm hc.2 ho).1 (swap_of hc.1.2 _ _ _) q.2
  ·cases hc
 | .setLc i elt g it cond own,N,nm,X,s,l,n,hc,ho=>by
  (conv at hc=>lhs;whnf)
  split at hc
  ·simp only [Bool.and_eq_true,decide_eq_true_eq,Bool.not_eq_true'] at hc
   obtain ⟨⟨⟨⟨a1,a2⟩,a3⟩,a4⟩,⟨⟨⟨⟨⟨h0,h1⟩,h2⟩,h3⟩,h4⟩,h5⟩⟩:=hc
   obtain ⟨o1,o2,o3⟩:=ho
   rename_i sc _ _
   have hb:BlkOk X.N X.env.scope sc own:=by
    have b:=blkOk_by h0
    rw [n.hN]
    exact ⟨b.kind,b.uniq,b.ix,by rw [n.sc]; exact b.free,b.own⟩
   have hn:∀ (s:Shared) (H:Hp) (C:Addr) (cl:List (Str×Addr)) (fp:List Addr),Nm N (relab nm sc.names) (X.blk s H sc (compEnvC sc cl C X.env) fp):=fun s H C cl fp =>
    ⟨n.hN,n.nd,relab_eq n.sc n.kd sc,hb.kind⟩
   exact ps_setLc l.calm (by rw [n.hN]; exact n.nd) (by rw [n.hN]; exact a1) (by rw [n.sc]; exact a2) (sw_true n.kd (by rw [n.sc]; exact a2) a3 a4) (MI.snd hT it l n.toNm h3 o2 _ (MG.tupC g h2)) hb (fun s H C cl fp=>MG.sndC g (l.blk ..) (hn s H C cl fp) h2) (fun s H C cl fp=>MA.sndC hT cond (l.blk ..) (hn s H C cl fp) h4 o3) (fun s H C cl fp=>(ME.snd hT elt (l.blk ..) (hn s H C cl fp) h5 o1).1) (jcy h1 _)
  ·cases hc
 | .expr m,N,nm,X,s,l,n,hc,ho=>by
  (conv at hc=>lhs;whnf)
  split at hc
  ·simp only [Bool.and_eq_true] at hc
   exact ps_expr (ME.snd hT m l n.toNm hc.2 ho).1 (swap_of hc.1 _ _ _)
  ·cases hc
 | .ret m,N,nm,X,s,l,n,hc,ho=>by
  (conv at hc=>lhs;whnf)
  split at hc
  ·exact ps_ret (ME.snd hT m l n.toNm hc ho).1
  ·cases hc
 | .retN,N,nm,X,s,l,n,hc,ho=>by
  (conv at hc=>lhs;whnf)
  split at hc
  ·exact ps_retN
  ·cases hc
 | .if_ c a b,N,nm,X,s,l,n,hc,ho=>by
  (conv at hc=>lhs;whnf)
  split at hc
  ·simp only [Bool.and_eq_true] at hc
   exact ps_if (ME.snd hT c l n.toNm hc.1.1 ho.1).2 (MB.snd hT a l n hc.1.2 ho.2.1) (MB.snd hT b l n hc.2 ho.2.2)
  ·cases hc
 | .fset o f c i m,N,nm,X,s,l,n,hc,ho=>by
  (conv at hc=>lhs;whnf)
  split at hc
  ·simp only [Bool.and_eq_true,decide_eq_true_eq] at hc
   obtain ⟨⟨⟨rfl,h1⟩,h2⟩,h3⟩:=hc
   exact fset_sound hT l h1 (ME.snd hT o l n.toNm h2 ho.1).1 (ME.snd hT m l n.toNm h3 ho.2).1
  ·cases hc
 | .faug o f c i p r m,N,nm,X,s,l,n,hc,ho=>by
  (conv at hc=>lhs;whnf)
  split at hc
  ·simp only [Bool.and_eq_true,decide_eq_true_eq] at hc
   obtain ⟨⟨⟨⟨rfl,rfl⟩,h1⟩,h2⟩,h3⟩:=hc
   exact faug_sound hT l (ho.1 X l) h1 (ME.snd hT o l n.toNm h2 ho.2.1).1 (ME.snd hT m l n.toNm h3 ho.2.2).1
  ·cases hc
 | .aug i p r m,N,nm,X,s,l,n,hc,ho=>by
  (conv at hc=>lhs;whnf)
  split at hc
  ·simp only [Bool.and_eq_true,decide_eq_true_eq] at hc
   obtain ⟨⟨rfl,h1⟩,h2⟩:=hc
   unfold okLoc at h1
   simp only [Bool.and_eq_true,decide_eq_true_eq] at h1
   have q:=loc_of n h1.2
   exact ps_aug (by rw [n.hN]; exact n.nd) (by rw [n.hN]; exact h1.1) q.1 (ME.snd hT m l n.toNm h2 ho.2).1 (ho.1 X l) q.2
  ·cases hc
 | .dput d q v,N,nm,X,s,l,n,hc,ho=>by
  (conv at hc=>lhs;whnf)
  split at hc
  ·simp only [Bool.and_eq_true] at hc
   exact ps_dput l.hu (ME.snd hT d l n.toNm hc.1.1 ho.1).1 (ME.snd hT q l n.toNm hc.1.2 ho.2.1).1 (ME.snd hT v l n.toNm hc.2 ho.2.2).1 (swap_sub _ _ _)
  ·cases hc
 | .lset t o q v,N,nm,X,s,l,n,hc,ho=>by
  (conv at hc=>lhs;whnf)
  split at hc
  ·simp only [Bool.and_eq_true] at hc
   obtain ⟨⟨⟨⟨h0,h1⟩,h2⟩,h3⟩,h4⟩:=hc
   exact ps_asg (ME.snd hT v l n.toNm h4 ho.2.2.2).1 (pg_sub (ME.snd hT o l n.toNm h2 ho.2.1).1 (ME.snd hT q l n.toNm h3 ho.2.2.1).1 (ho.1 X l) (sub_asg h0 _)) (by unfold swapsWithSole; exact swap_of h1 _ _ _) (by unfold swappedStores; rfl) rfl
  ·cases hc
 | .for_ tg it b,N,nm,X,s,l,n,hc,ho=>by
  (conv at hc=>lhs;whnf)
  split at hc
  ·simp only [Bool.and_eq_true] at hc
   obtain ⟨⟨⟨h0,h1⟩,h2⟩,h3⟩:=hc
   exact ps_for (by rw [l.xe]; exact PassesOwn.never) l.calm (MI.snd hT it l n.toNm h2 ho.1 _ (MG.tup tg h1)) (MG.snd tg l n h1) (MB.snd hT b l n h3 ho.2) (jcy h0 _)
  ·cases hc
 | .while_ c b,N,nm,X,s,l,n,hc,ho=>by
  (conv at hc=>lhs;whnf)
  split at hc
  ·simp only [Bool.and_eq_true] at hc
   exact ps_while (by rw [l.xe]; exact PassesOwn.never) (ME.snd hT c l n.toNm hc.1 ho.1).2 (MB.snd hT b l n hc.2 ho.2)
  ·cases hc
 | .pass,N,nm,X,s,l,n,hc,ho=>by
  (conv at hc=>lhs;whnf)
  split at hc
  ·exact ps_pass
  ·cases hc
 | .brk,N,nm,X,s,l,n,hc,ho=>by
  (conv at hc=>lhs;whnf)
  split at hc
  ·exact ps_break
  ·cases hc
 | .cont,N,nm,X,s,l,n,hc,ho=>by
  (conv at hc=>lhs;whnf)
  split at hc
  ·exact ps_continue
  ·cases hc
 | .lock m,N,nm,X,s,l,n,hc,ho=>ps_lock (MS.snd hT m l n hc ho)
theorem MB.snd (hT:TOk g T):∀ (m:MB) {N:List Str} {nm:List (Str×NameKind)} {X:Cx} {ss:List Stmt},Lv g k X→Nf N nm X→m.chk N nm ss=true→m.ok g T k→PSs X ss (m.wp g.K T)
 | .nil,N,nm,X,ss,l,n,hc,ho=>by
  unfold MB.chk at hc
  split at hc
  ·exact pss_nil
  ·cases hc
 | .cons m b,N,nm,X,ss,l,n,hc,ho=>by
  unfold MB.chk at hc
  split at hc
  ·simp only [Bool.and_eq_true] at hc
   exact pss_cons (MS.snd hT m l n hc.1 ho.1) (MB.snd hT b l n hc.2 ho.2)
  ·cases hc
end
theorem Lv.hu64 {X:Cx} (l:Lv g k X):X.A.units+64 < cLine:=l.room.units
noncomputable def scopeC (N ps:List Str) (sc:Scope):Bool :=
 (match sc.kind with | .function=>true | _=>false) && !sc.isCoroutine && !sc.isGenerator && decide N.Nodup && decide (N.take ps.length=ps) &&
  (ps.all fun x=>isLoc sc.names x) && (sc.names.all fun y=>match y.2 with | .free=>false | _=>true)
theorem scope_by {N ps:List Str} {sc:Scope} (h:scopeC N ps sc=true):FnScope N ps sc:=by
 unfold scopeC at h
 simp only [Bool.and_eq_true,List.all_eq_true,decide_eq_true_eq,Bool.not_eq_true'] at h
 obtain ⟨⟨⟨⟨⟨⟨h1,h2⟩,h3⟩,h4⟩,h5⟩,h6⟩,h7⟩:=h
 refine ⟨?_,h2,h3,h4,h5,fun x hx=>?_,fun y hy e=>?_⟩
 ·split at h1
  ·assumption
  ·cases h1
 ·have q:=h6 x hx
  unfold isLoc at q
  split at q
  ·exact .inl (by assumption)
  ·exact .inr (by assumption)
  ·cases q
 ·have q:=h7 y hy
  rw [e] at q
  cases q
noncomputable def defC (N ps:List Str) (st:Stmt) (m:MB):Bool:=scopeC N ps (defScope st) && m.chk N (defScope st).names (defBody st)
theorem fn_sound {x qual:Str} {st:Stmt} {f:Addr} {fd:FuncData} {N ps:List Str} {sp:Sp} (hT:TOk g T) (F:Fun g.K x qual st f fd) (m:MB) (hc:defC N ps st m=true) (ho:m.ok g T k)
  (len:∀ vs H Q E,sp vs H Q E→vs.length=ps.length)
  (h:∀ (vs:List V) (H:Hp) (Q:VK) (E:XK),sp vs H Q E→m.wp g.K T { nx:=fun _ H'=>Q .non H',rt:=Q } (start N vs) H) :
  FnOk g.P g.w g.K g.mg g.base CX0 (k+1) f fd ps sp:=by
 unfold defC at hc
 simp only [Bool.and_eq_true] at hc
 have S:=scope_by hc.1
 refine F.ok S len fun cdv A outer s H vs Q E hr hs=>⟨m.wp g.K T,?_,h vs H Q E hs⟩
 refine MB.snd hT m (N:=N) (nm:=(defScope st).names) ⟨rfl,rfl,rfl,rfl,rfl,hr,rfl,rfl⟩ ⟨⟨rfl,S.nd,rfl,S.kind⟩,fun _ _=>rfl⟩ hc.2 ho
theorem prom_of {x qual:Str} {st:Stmt} {f:Addr} {fd:FuncData} {N ps:List Str} {sp:Sp} (hT:TOk g T) (F:Fun g.K x qual st f fd) (hm:g.mg x=some (.ref f)) (hb:Binds g.K fd ps []) (m:MB) (hc:defC N ps st m=true) (ho:m.ok g T k)
  (len:∀ vs H Q E,sp vs H Q E→vs.length=ps.length)
  (h:∀ (vs:List V) (H:Hp) (Q:VK) (E:XK),sp vs H Q E→m.wp g.K T { nx:=fun _ H'=>Q .non H',rt:=Q } (start N vs) H):Prom g (k+1) x sp :=
 ⟨f,fd,ps,fn_sound hT F m hc ho len h,hm,F.kp,hb⟩
end
section
variable {X:Cx}
theorem IxR.mono {r r':R2} (h:IxR X r) (m:∀ x y H Q,r' x y H Q→r x y H Q):IxR X r':=fun a b pins s σ H x y v u Q I rx ry q hs=>h a b pins s σ H x y v u Q I rx ry (m _ _ _ _ q) hs
theorem OpR.mono {f:Value→Value→Sem Value} {r r':R2} (h:OpR X f r) (m:∀ x y H Q,r' x y H Q→r x y H Q):OpR X f r':=fun pins s σ H x y v u Q I rx ry q=>h pins s σ H x y v u Q I rx ry (m _ _ _ _ q)
theorem CallR.mono {f:Value} {r r':List V→Hp→VK→Prop} (h:CallR X f r) (m:∀ xs H Q,r' xs H Q→r xs H Q):CallR X f r':=fun pins s σ H xs us Q I rx q=>h pins s σ H xs us Q I rx (m _ _ _ q)
noncomputable def rIxH:R2:=fun x y H Q=>kzR x fun p=>kzI y fun i=>kzL (H p) fun xs=>kzS (atI xs i) fun v=>Q v H
noncomputable def rIxU:R2:=fun x y H Q=>kzR x fun p=>kzI y fun i=>kzU (H p) fun xs=>kzS (atI xs i) fun v=>Q v H
theorem ix_H:IxR X rIxH:=IxR.mono ix_list fun _ _ _ _ h=>let ⟨p,h1,h⟩:=kzR_m.mp h; let ⟨i,h2,h⟩:=kzI_m.mp h; let ⟨xs,h3,h⟩:=kzL_m.mp h; let ⟨v,h4,q⟩:=kzS_m.mp h; ⟨p,xs,i,v,h1,h2,.inl (.inl h3),h4,q⟩
theorem ix_U:IxR X rIxU:=IxR.mono ix_tup fun _ _ _ _ h=>let ⟨p,h1,h⟩:=kzR_m.mp h; let ⟨i,h2,h⟩:=kzI_m.mp h; let ⟨xs,h3,h⟩:=kzU_m.mp h; let ⟨v,h4,q⟩:=kzS_m.mp h; ⟨p,xs,i,v,h1,h2,.inl (.inl h3),h4,q⟩
noncomputable def rLenH:List V→Hp→VK→Prop:=fun vs H Q=>kzP vs fun p=>kzL (H p) fun xs=>Q (.int xs.length) H
noncomputable def rLenS (K:W.Frag):List V→Hp→VK→Prop:=fun vs H Q=>∃ p xs,vs=[.ref p]∧SqL K H p xs∧Q (.int xs.length) H
noncomputable def rLenD:List V→Hp→VK→Prop:=fun vs H Q=>kzP vs fun p=>kzD (H p) fun kvs=>Q (.int kvs.length) H
theorem jal:CallR X (.builtin "len") rLenH:=CallR.mono jce fun _ _ _ h=>let ⟨p,h1,h⟩:=kzP_m.mp h; let ⟨xs,h2,q⟩:=kzL_m.mp h; ⟨p,xs,h1,.inl (.inl (.inl h2)),q⟩
theorem call_lenS:CallR X (.builtin "len") (rLenS X.K):=CallR.mono jce fun _ _ _ ⟨p,xs,h1,h2,q⟩=>⟨p,xs,h1,.inl h2,q⟩
theorem jb3:CallR X (.builtin "len") rLenD:=CallR.mono call_lenD fun _ _ _ h=>let ⟨p,h1,h⟩:=kzP_m.mp h; let ⟨xs,h2,q⟩:=kzD_m.mp h; ⟨p,xs,h1,h2,q⟩
noncomputable def rInU:R2:=fun x y H Q=>kzR y fun p=>kzU (H p) fun xs=>flatV x=true∧xs.all flatV=true∧Q (.bl (inV x xs)) H
theorem op_inU:OpR X (compareOp .In) rInU:=OpR.mono op_in_seq fun _ _ _ _ h=>let ⟨p,h1,h⟩:=kzR_m.mp h; let ⟨xs,h2,h3,h4,q⟩:=kzU_m.mp h; ⟨p,xs,h1,.inr (.inl (.inl h2)),h3,h4,q⟩
noncomputable def rMax2:List V→Hp→VK→Prop:=fun xs H Q=>∃ i j,xs=[.int i,.int j]∧Q (.int (if j > i then j else i)) H
noncomputable def rAnyH:List V→Hp→VK→Prop:=fun vs H Q=>∃ (a:Addr) (bs:List Bool),vs=[V.ref a]∧H a=some (.lst (bs.map V.bl))∧Q (.bl (bs.any id)) H
theorem call_anyH (hc:X.calm=true):CallR X (.builtin "any") rAnyH:=CallR.mono (cr_any hc) fun _ _ _ ⟨a,bs,h1,h2,q⟩=>⟨a,bs,h1,.inl (.inl h2),q⟩
noncomputable def rIsN:R2:=fun x y H Q=>y=.non∧Q (.bl (decide (x=.non))) H
noncomputable def rNotN:R2:=fun x y H Q=>y=.non∧Q (.bl (!decide (x=.non))) H
noncomputable def CDivB (_ j:Int):Prop:=0 < j∧j.natAbs.log2 < 9000
theorem op_fdivB:OpR X (binaryOp .FloorDiv) (rI CDivB fun i j=>.int (i / j)):=opI fun i j _ _ _ _ _ hc q=>by
 have h1:(0:Int) < j:=hc.1
 exact floordiv_int (by omega) (by rw [Int.fdiv_eq_ediv_of_nonneg i (by omega)]; exact q) (.inl (PyProof.noPylong_of_log2 hc.2))
noncomputable def rNeP:R2:=fun x y H Q=>∃ a b i j k l,x=.ref a∧y=.ref b∧H a=some (.tup [.int i,.int j])∧H b=some (.tup [.int k,.int l])∧Q (.bl (!(i == k && j == l))) H
theorem op_neP (hu:X.A.units+64 < cLine):OpR X (compareOp .NotEq) rNeP:=OpR.mono (op_neD hu) fun x y H Q ⟨a,b,i,j,k,l,h1,h2,h3,h4,q⟩=>by
 subst h1; subst h2
 refine ⟨.tuple [.int i,.int j],.tuple [.int k,.int l],.tup (.inl (.inl h3)) (.cons (.int _) (.cons (.int _) .nil)),.tup (.inl (.inl h4)) (.cons (.int _) (.cons (.int _) .nil)),by rfl,by rfl,?_⟩
 have e:PyData.eqv (.tuple [.int i,.int j]) (.tuple [.int k,.int l])=(i == k && j == l):=by simp [PyData.eqv,PyData.eqvAll]
 rw [e]; exact q
noncomputable def rListD:List V→Hp→VK→Prop:=fun vs H Q=>kzP vs fun p=>kzD (H p) fun kvs=>∀ l,H l=none→Q (.ref l) (upd H l (.lst (kvs.map fun x=>kV x.1)))
noncomputable def rExtU:V→List V→Hp→VK→Prop:=fun x vs H Q=>kzR x fun l=>kzP vs fun b=>kzL (H l) fun xs=>kzU (H b) fun zs=>xs.length+zs.length≤sizeLine∧Q .non (upd H l (.lst (xs ++ zs)))
end
end R
namespace PySem
open Sem (wp)
open AutoSeq1 (wpAny_loadPart')
set_option maxRecDepth 100000
section
variable {prog:Program} {w:World} {K:Type} [DecidableEq K] {knd:KeyKind prog w K} {A:Around} {E:Value→Shared→Prop} {s:Shared}
theorem ld_hint {d:Addr} {kvs:List (K×Value)} {Q:Bool→Shared→Prop} (hd:(d == sysModules)=false) (hm:s.heap.DictOf knd d kvs) (hlen:kvs.length≤2 ^ 24)
  (h:Q false s):wpAny (model prog w) A (Builtin.List.listLengthHint (.ref d)) Q E s:=by
 unfold Builtin.List.listLengthHint
 refine wpAny_bind (wpAny_specialOf hm.typeIs F.slot_dict_len.lookup ?_)
 generalize hid:("dict.__len__" : String)=id0
 wp_delta
 rw [show splitId id0=some ("dict", "__len__") from by subst hid; decide +kernel]
 subst hid
 refine wpAny_bind (wpAny_isInstance (T := "dict") (b:=true) hm.typeIs (by rw [isSubtype_type]; kernel_rfl) ?_)
 refine wpAny_ite_split (fun hab=>absurd hab (by decide)) (fun _=>?_)
 refine wpAny_ite_split (fun _=>?_) (fun hab=>absurd (by decide +kernel) hab)
 refine wpAny_bind (wpAny_typeOf hm.typeIs ?_)
 exact wpAny_pure h
theorem ld_extend {R:Result→Shared→Prop} {d:Addr} {kvs:List (K×Value)} {ep:Nat} (hh:A.handled=none) (hd:(d == sysModules)=false) (hm:s.heap.DictAt knd d kvs ep) (hlen:kvs.length≤2 ^ 24) (S:Addr) (res:Value) (c₀:Nat) (hS:s.heap.get? S=some { cls:=.type "list",data:=.seq #[] c₀ })
  (hR:∀ h' tk acc' c',(∀ b o,b≠S→s.heap.get? b=some o→h'.get? b=some o)→h'.get? S=some { cls:=.type "list",dict:=none,data:=.seq acc' c',slots:=#[] } →
   ItemsOf (fun i v=>∃ k x,kvs[i]? = some (k,x)∧knd.is k v=true) acc' kvs.length→R (.ok (.ret res)) { s with heap:=h',toks:=tk }) :
  wpAny (model prog w) A.in1 (Builtin.List.listExtendWith (.ref S) (.ref d) res)
   (fun fin s'=>match fin with | .done f=>R (.ok f) s' | .again c'=>c'.quiet=true∧codeAny (model prog w) A c' R s') (fun e s'=>R (.error e) s') s:=by
 obtain ⟨od,es,hod,hcd,hdd,hr⟩:=id hm
 have hSd:S≠d:=fun e=>by
  rw [e,hod] at hS
  have hS:=Option.some.inj hS
  rw [hS] at hdd
  cases hdd
 have hSlt:S < s.heap.objs.size:=Heap.lt_size hS
 have hdlt:d < s.heap.objs.size:=Heap.lt_size hod
 have hSI:S≠s.heap.objs.size:=Nat.ne_of_lt hSlt
 have hSf:S ∉ [s.heap.objs.size,d]:=fun hmem=>by
  rcases List.mem_cons.mp hmem with e | e
  ·exact hSI e
  ·exact hSd (List.mem_singleton.mp e)
 have W:=(Walks.dictKeys (prog:=prog) (w:=w) (knd:=knd) (A:=A.in1) hh s.heap.objs.size d (Nat.ne_of_lt hdlt) kvs ep).toS
 have key:∀ (h:Heap) (c₁ tk:Nat),h.IsKeyIter s.heap.objs.size d 0 kvs.length ep→h.DictAt knd d kvs ep→(∀ b o,b≠S→s.heap.get? b=some o→h.get? b=some o) →
   h.get? S=some { cls:=.type "list",data:=.seq #[] c₁ }→codeAny (model prog w) A (.builtin "list.extend.loop" ⟨[.ref S,.ref s.heap.objs.size,res],[]⟩) R { s with heap:=h,toks:=tk }:=by
  intro h c₁ tk hit hdt hk hS₁
  refine codeAny_extend_loopS W (by rw [sizeLine_eq]; omega) S hSf res kvs.length 0 _ #[] c₁ rfl (Nat.zero_le _) ⟨hit,hdt⟩ hS₁ (ItemsOf.nil _) fun s' acc' c' hmv hS' hacc=>?_
  rw [Moved.eq_with hmv]
  refine hR s'.heap s'.toks acc' c' (fun b o hb e=>hmv.heap b o (fun hmem=>?_) (hk b o hb e)) hS' hacc
  rcases List.mem_cons.mp hmem with e' | hmem
  ·exact hb e'
  ·exact absurd (Heap.lt_size e) (by rw [List.mem_singleton.mp hmem]; exact Nat.lt_irrefl _)
 unfold Builtin.List.listExtendWith
 refine wpAny_bind (wpAny_typeOf (T := "dict") hm.dictOf.typeIs ?_)
 have h1:Builtin.List.listSameRef (.ref S) (.ref d)=false:=by simp [Builtin.List.listSameRef,hSd]
 have h2:(Value.type "dict" == Value.type "list")=false:=by decide
 have h3:(Value.type "dict" == Value.type "tuple")=false:=by decide
 simp only [h1,h2,h3,Bool.or_false,Bool.false_eq_true,if_false]
 refine wpAny_bind (wpAny_pyIter_dict hd hm ?_)
 have hm1:(s.heap.push { cls:=.type "dict_keyiterator",data:=.fields #[.ref d,.int 0 0,.int kvs.length 0,.int ep 0] }).DictAt knd d kvs ep:=hm.at' fun o e=>Heap.get?_push_of_some _ e
 refine wpAny_bind (wpAny_holding (ld_hint hd hm1.dictOf hlen ?_))
 have hit₁:(s.heap.push { cls:=.type "dict_keyiterator",data:=.fields #[.ref d,.int 0 0,.int kvs.length 0,.int ep 0] }).IsKeyIter s.heap.objs.size d 0 kvs.length ep:=⟨_,Heap.get?_push_size _ rfl,rfl,rfl⟩
 have hS₁:=Heap.get?_push_of_some { cls:=.type "dict_keyiterator",data:=.fields #[.ref d,.int 0 0,.int kvs.length 0,.int ep 0] } hS
 refine wpAny_ite_split (fun _=>?_) (fun _=>wpAny_pure ⟨plainId_quiet F.plain_extend_loop _,key _ c₀ _ hit₁ hm1 (fun b o _ e=>Heap.get?_push_of_some _ e) hS₁⟩)
 refine wpAny_bind (wpAny_rule ?_)
 refine wpAny_bind ?_
 show wpAny _ _ (updateSeq S (·.push .none) >>= fun _=>updateSeq S (·.pop)) _ _ _
 refine wpAny_bind (wpAny_updateSeq hS₁ rfl ?_)
 have hS₂:=Heap.get?_update_self (Obj.mapSeq (·.push Value.none)) hS₁ rfl
 refine wpAny_updateSeq (hz:=by seq_fits) hS₂ rfl ?_
 have hS₃:=Heap.get?_update_self (Obj.mapSeq (·.pop)) hS₂ rfl
 have oth:∀ b o,b≠S→(s.heap.push { cls:=.type "dict_keyiterator",data:=.fields #[.ref d,.int 0 0,.int kvs.length 0,.int ep 0] }).get? b=some o→(((s.heap.push { cls:=.type "dict_keyiterator",data:=.fields #[.ref d,.int 0 0,.int kvs.length 0,.int ep 0] }).update S (Obj.mapSeq (·.push Value.none))).update S (Obj.mapSeq (·.pop))).get? b=some o:=fun b o hb e =>
  (Heap.get?_update_other _ _ (Ne.symm hb)).trans ((Heap.get?_update_other _ _ (Ne.symm hb)).trans e)
 refine wpAny_pure ⟨plainId_quiet F.plain_extend_loop _,key _ _ _ (hit₁.at fun o e=>oth _ o hSI.symm e) (hm1.at' fun o e=>oth _ o hSd.symm e) (fun b o hb e=>oth b o hb (Heap.get?_push_of_some _ e)) hS₃⟩
theorem ld_init {R:Result→Shared→Prop} {d:Addr} {kvs:List (K×Value)} {ep:Nat} (hh:A.handled=none) (hd:(d == sysModules)=false) (hm:s.heap.DictAt knd d kvs ep) (hlen:kvs.length≤2 ^ 24) (S:Addr) (hSd:d≠S) (hS:s.heap.get? S=some { cls:=.type "list",data:=.seq #[] })
  (hR:∀ h' tk acc' c',(∀ b o,b≠S→s.heap.get? b=some o→h'.get? b=some o)→h'.get? S=some { cls:=.type "list",dict:=none,data:=.seq acc' c',slots:=#[] } →
   ItemsOf (fun i v=>∃ k x,kvs[i]? = some (k,x)∧knd.is k v=true) acc' kvs.length→R (.ok (.ret .none)) { s with heap:=h',toks:=tk }) :
  wpAny (model prog w) A.in1 (Builtin.«list.__init__» ⟨[.ref S,.ref d],[]⟩)
   (fun fin s'=>match fin with | .done f=>R (.ok f) s' | .again c'=>c'.quiet=true∧codeAny (model prog w) A c' R s') (fun e s'=>R (.error e) s') s:=by
 show wpAny _ _ (do let old ← Builtin.List.listItems (.ref S); Builtin.List.listUpdate (.ref S) (fun _=>#[]); letGo old.toList.reverse; Builtin.List.listExtendWith (.ref S) (.ref d) .none) _ _ s
 refine wpAny_bind ?_
 unfold Builtin.List.listItems
 refine wpAny_bind (wpAny_seqItems hS rfl (wpAny_pure ?_))
 show wpAny _ _ (updateSeq S (fun _=>#[]) >>= fun _=>letGo (#[]:Array Value).toList.reverse >>= fun _=>Builtin.List.listExtendWith (.ref S) (.ref d) .none) _ _ s
 refine wpAny_bind (wpAny_updateSeq hS rfl ?_)
 have hS₂:=Heap.get?_update_self (Obj.mapSeq (fun _=>(#[]:Array Value))) hS rfl
 have oth:∀ b o,b≠S→s.heap.get? b=some o→(s.heap.update S (Obj.mapSeq (fun _=>(#[]:Array Value)))).get? b=some o :=
  fun b o hb e=>(Heap.get?_update_other _ _ (Ne.symm hb)).trans e
 refine wpAny_bind (wpAny_letGo ?_)
 refine ld_extend hh hd (hm.at' fun o e=>oth d o hSd e) hlen S .none _ hS₂ fun h' tk acc' c' hk hS' hacc=>?_
 exact hR h' tk acc' c' (fun b o hb e=>hk b o hb (oth b o hb e)) hS' hacc
theorem call_list_dict {Q:Value→Shared→Prop} {d:Addr} {kvs:List (K×Value)} {ep:Nat} (hh:A.handled=none) (hd:(d == sysModules)=false) (hm:s.heap.DictAt knd d kvs ep) (hlen:kvs.length≤2 ^ 24)
  (hQ:∀ h' tk acc' c',(∀ b o,s.heap.get? b=some o→h'.get? b=some o) →
   h'.get? s.heap.objs.size=some { cls:=.type "list",dict:=none,data:=.seq acc' c',slots:=#[] }→ItemsOf (fun i v=>∃ k x,kvs[i]? = some (k,x)∧knd.is k v=true) acc' kvs.length→Q (.ref s.heap.objs.size) { s with heap:=h',toks:=tk }) :
  wpAny (model prog w) A (call (.type "list") [.ref d]) Q E s:=by
 obtain ⟨od,es,hod,hr⟩:=id hm
 have hdS:d≠s.heap.objs.size:=Nat.ne_of_lt (Heap.lt_size hod)
 refine callType_codes (Q₁:=fun obj s₁=>obj=.ref s.heap.objs.size∧s₁={ s with heap:=s.heap.push { cls:=.type "list",data:=.seq #[] } }) F.called_list (F.typeCall_list_1 _) F.entry_list_init
  (code_list_new _ ⟨rfl,rfl⟩) fun obj s₁ h₁=>?_
 obtain ⟨rfl,rfl⟩:=h₁
 have hS:(s.heap.push { cls:=.type "list",data:=.seq #[] }).get? s.heap.objs.size=some { cls:=.type "list",data:=.seq #[] }:=Heap.get?_push_size _ rfl
 refine ⟨⟨_,hS,rfl⟩,F.args_list_init_2 _ _,ld_init (A:=A.in1) (knd:=knd) hh hd (hm.at' fun o e=>Heap.get?_push_of_some _ e) hlen _ hdS hS fun h' tk acc' c' hk hS' hacc=>?_⟩
 exact ⟨rfl,hQ h' tk acc' c' (fun b o e=>hk b o (Nat.ne_of_lt (Heap.lt_size e)) (Heap.get?_push_of_some _ e)) hS' hacc⟩
end
end PySem
namespace R
open PySem PySem.Spec PyProof.Rows L2
section
variable {X:Cx}
theorem call_listD (hc:X.calm=true):CallR X (.type "list") rListD:=by
 intro pins s σ H xs us Q I r h
 obtain ⟨p,rfl,h⟩:=kzP_m.mp h
 obtain ⟨kvs,hp,q⟩:=kzD_m.mp h
 obtain ⟨u,rfl,rx⟩:=vals1 r
 cases rx
 obtain ⟨hz,hs,vs,kv,hd⟩:=dk_of I.hok hp
 obtain ⟨ep,hm⟩:=hd.dictAt
 have hl:kvs.length=vs.length:=Paired.length kv
 refine call_list_dict (I.ok.hd hc) hs hm (by rw [← hl]; exact Nat.le_trans hz (by rw [sizeLine_eq]; decide)) fun h' tk acc' c' kp e hit=>?_
 refine ⟨.ref s.heap.objs.size,_,I.laid (t':=tk) kp (Nat.le_refl _) (show ObjOk X.prog X.w _ h' _ (.lst (kvs.map fun x=>kV x.1)) from ⟨by rw [List.length_map]; exact hz,acc'.toList,c',?_,by rw [Array.toArray_toList]; exact e⟩),rfl,q _ (I.hok.fresh (Nat.le_refl _))⟩
 have gen:∀ (ks:List (Key×V)) (us:List (Key×Value)) (ws:List Value),KV ks us→ws.length=us.length→(∀ (j:Nat) (v:Value),ws[j]? = some v→∃ k x,us[j]? = some (k,x)∧(mixKind X.prog X.w).is k v=true)→Vals (ks.map fun x=>kV x.1) ws:=by
  intro ks us ws hk
  induction hk generalizing ws with
  | nil =>
   intro hl _
   cases ws with
   | nil=>exact .nil
   | cons _ _=>simp at hl
  | @cons a b ks us h1 h2 ih =>
   intro hl hj
   cases ws with
   | nil=>simp at hl
   | cons v ws =>
    refine .cons ?_ (ih ws (by simpa using hl) fun j v hv=>by simpa using hj (j+1) v (by simpa using hv))
    obtain ⟨k,x,e1,e2⟩:=hj 0 v (by simp)
    simp at e1
    show RelV (kV a.1) v
    rw [h1.1,e1]
    exact relV_key (show keyIs k v=true from e2)
 refine gen kvs vs acc'.toList kv (by rw [Array.length_toList]; exact hit.1) fun j v hv=>hit.2 j v (by rw [← Array.getElem?_toList]; exact hv)
theorem mt_extU:MtM X "list.extend" rExtU:=by
 intro pins s σ H x vs v us Q I rx rv h
 obtain ⟨l,rfl,h⟩:=kzR_m.mp h
 obtain ⟨b,rfl,h⟩:=kzP_m.mp h
 obtain ⟨xs,hH,h⟩:=kzL_m.mp h
 obtain ⟨zs,hB,hz,q⟩:=kzU_m.mp h
 cases rx
 obtain ⟨u,rfl,ru⟩:=rv.one
 cases ru
 obtain ⟨z,its,n,r,hl,e⟩:=I.lstM hH
 obtain ⟨its2,r2,⟨o,ho,hc,n2,hd⟩,hz2⟩:=I.tuple (a:=b) (xs:=zs) (.inl (.inl hB))
 have hl2:=r2.length
 have hlong:¬ (!its.toArray.isEmpty && Builtin.List.listTooLong (its.toArray.size+its2.toArray.size))=true:=by
  rw [notLongL (by rw [List.size_toArray,List.size_toArray]; omega),Bool.and_false]
  exact Bool.false_ne_true
 refine wpAny_call_entry F.slot_list_extend ⟨_,e,rfl⟩ F.entry_list_extend ?_ (F.args_list_extend_2 _ _)
 show wpAny _ _ (Builtin.List.listExtendWith (.ref l) (.ref b) .none) _ _ s
 unfold Builtin.List.listExtendWith
 refine wpAny_bind (wpAny_typeOf ⟨o,ho,hc⟩ ?_)
 have h1:(Builtin.List.listSameRef (.ref l) (.ref b) || Value.type "tuple" == Value.type "list" || Value.type "tuple" == Value.type "tuple")=true:=by simp
 simp only [h1,if_true]
 refine wpAny_bind ?_
 unfold Builtin.List.listItems
 refine wpAny_bind (wpAny_seqItems ho hd (wpAny_pure ?_))
 refine wpAny_bind ?_
 refine wpAny_bind (wpAny_seqItems e rfl (wpAny_pure ?_))
 rw [if_neg hlong]
 show wpAny _ _ (updateSeq l (· ++ its2.toArray) >>= fun _=>ret Value.none) _ _ s
 refine wpAny_bind (wpAny_updateSeq e rfl ?_)
 exact wpAny_pure ⟨_,rfl,⟨.non,_,I.lset (t':=s.toks) (its':=its ++ its2) hH e (by simp) (r.append r2) (by rw [List.length_append]; omega),rfl,q⟩⟩
end
end R
namespace R
open PySem PySem.Spec PyProof.Rows L2
inductive Ro | W | PL | BL | RL | UL | GL | PD | KD | AD | po (p:Nat) | st (p:Nat) | se (p:Nat) | pe (i:Nat) | gr (i:Nat) | ak (n:Nat)
 deriving DecidableEq
noncomputable abbrev Lo:=Ro→Addr
noncomputable def Lo.put (l:Lo) (r:Ro) (a:Addr):Lo:=fun q=>if q=r then a else l q
theorem Lo.put_same {l:Lo} {r:Ro} {a:Addr}:l.put r a r=a:=by simp [Lo.put]
theorem Lo.put_ne {l:Lo} {r q:Ro} {a:Addr} (h:q≠r):l.put r a q=l q:=by simp [Lo.put,h]
noncomputable abbrev VS:=Vbcnad.State
noncomputable def kd:Vbcnad.Phase→Int
 | .down=>0 | .asking ..=>1 | .looking ..=>2 | .challenged ..=>3 | .checking ..=>4 | .held ..=>5 | .guest=>6 | .inside=>7
noncomputable def du:Vbcnad.Phase→Int
 | .asking _ d=>d | .looking _ _ _ _ d=>d | .challenged _ _ _ _ d=>d | .checking _ _ _ _ _ _ _ d=>d | .held d=>d | _=>0
noncomputable def lf:Vbcnad.Phase→Int
 | .asking l _=>l | .looking _ _ _ l _=>l | .checking _ _ _ _ _ _ l _=>l | _=>0
noncomputable def nn:Vbcnad.Phase→Int
 | .looking n _ _ _ _=>n | .challenged n _ _ _ _=>n | .checking n _ _ _ _ _ _ _=>n | _=>0
noncomputable def wh:Vbcnad.Phase→Int
 | .looking _ i _ _ _=>i | .challenged _ i _ _ _=>i | .checking _ i _ _ _ _ _ _=>i | _=>0
noncomputable def hh:Vbcnad.Phase→Int
 | .looking _ _ h _ _=>h | .challenged _ _ h _ _=>h | .checking _ _ h _ _ _ _ _=>h | _=>0
noncomputable def cc:Vbcnad.Phase→Int
 | .challenged _ _ _ c _=>c | .checking _ _ _ c _ _ _ _=>c | _=>0
noncomputable def xx:Vbcnad.Phase→Int
 | .checking _ _ _ _ x _ _ _=>x | _=>0
noncomputable def ft:Vbcnad.Phase→Int
 | .checking _ _ _ _ _ t _ _=>t | _=>0
noncomputable def phV (y:Vbcnad.Phase):List V:=[.int (kd y),.int (du y),.int (lf y),.int (nn y),.int (wh y),.int (hh y),.int (cc y),.int (xx y),.int (ft y)]
noncomputable def ssV (x:Vbcnad.Sess):List V:=[.int x.num,.int x.id,.int x.hw,.int x.vlan,.int x.until_,.int x.again,.int x.frames]
noncomputable def soV (loc:Lo) (p:Nat):Option Vbcnad.Sess→V
 | none=>.non
 | some _=>.ref (loc (.se p))
noncomputable def poV (loc:Lo) (p:Nat) (y:Vbcnad.Port):List V:=[.ref (loc (.st p)),soV loc p y.sess,.int y.guest]
noncomputable def peV (loc:Lo) (x:Vbcnad.Person):List V:=[.int x.secret,.int x.hw,.int x.barred.toNat,.ref (loc (.gr x.id)),.int x.wrong,.int x.locked]
noncomputable def grV (l:List Nat):List V:=(List.range 64).map fun g=>V.int (if g ∈ l then 1 else 0)
noncomputable def ruV (r:Vbcnad.Rule):List V:=[.int r.group,.int r.lo,.int r.hi,.int r.from_,.int r.to,.int r.vlan,.int r.len,.int r.again]
noncomputable def akV (a:Vbcnad.Ask) (d:V):List V:=[.int a.port,.int a.id,.int a.hw,.int a.c,.int a.over,d]
noncomputable def opV (o:Vbcnad.Opened):List V:=[.int o.num,.int o.id,.int o.hw,.int o.port,.int o.over]
noncomputable def msgV (m:Vbcnad.Msg):List V:=(Vbcnad.msgShown m).map V.int
noncomputable def woV (loc:Lo) (s:VS):List V:=[.ref (loc .PL),.int s.cfg.bag,.int s.cfg.wait,.int s.cfg.tries,.int s.cfg.hold,.int s.cfg.wrong,.int s.cfg.lock,.int s.cfg.life,.int s.cfg.asks,.int s.cfg.records,
 .int s.now,.int s.book,.int s.lost,.ref (loc .BL),.ref (loc .RL),.ref (loc .PD),.ref (loc .UL),.ref (loc .KD),.ref (loc .GL),.ref (loc .AD)]
noncomputable def Dc (H:Hp) (a:Vbcnad.Ask) (d:V):Prop:=match a.reply with
 | none=>d=.non
 | some r=>∃ b,d=.ref b∧H b=some (.tup (msgV (Vbcnad.replyMsg a r)))
section
variable (T:Tb)
noncomputable def Cell (loc:Lo) (H:Hp) (s:VS):Ro→Prop
 | .W=>getV T 7 (H (loc .W))=some (woV loc s)
 | .PL=>H (loc .PL)=some (.lst ((List.range s.ports.length).map fun p=>.ref (loc (.po p))))
 | .BL=>∃ ps:List (Addr×Vbcnad.Msg),ps.map (·.2)=s.bag∧H (loc .BL)=some (.lst (ps.map fun x=>.ref x.1))∧∀ x ∈ ps,H x.1=some (.tup (msgV x.2))
 | .RL=>∃ ps:List (Addr×(Nat×Nat)),ps.map (·.2)=s.ended∧H (loc .RL)=some (.lst (ps.map fun x=>.ref x.1))∧∀ x ∈ ps,H x.1=some (.tup [.int x.2.1,.int x.2.2])
 | .UL=>∃ ps:List (Addr×Vbcnad.Rule),ps.map (·.2)=s.rules∧H (loc .UL)=some (.lst (ps.map fun x=>.ref x.1))∧∀ x ∈ ps,getV T 4 (H x.1)=some (ruV x.2)
 | .GL=>∃ ps:List (Addr×Vbcnad.Opened),ps.map (·.2)=s.opened∧H (loc .GL)=some (.lst (ps.map fun x=>.ref x.1))∧∀ x ∈ ps,getV T 6 (H x.1)=some (opV x.2)
 | .PD=>∃ kvs:List (Key×V),H (loc .PD)=some (.dK kvs)∧kvs.Perm (s.persons.map fun x=>(Sum.inl (x.id:Int),V.ref (loc (.pe x.id))))
 | .KD=>H (loc .KD)=some (.dK (s.asks.map fun a=>(Sum.inl (a.n:Int),V.ref (loc (.ak a.n)))))
 | .AD=>∃ ps:List (Addr×Vbcnad.Account),ps.map (·.2)=s.accounts∧H (loc .AD)=some (.dK (ps.map fun x=>(Sum.inl (x.2.num:Int),V.ref x.1)))∧∀ x ∈ ps,H x.1=some (.tup [.int x.2.frames,.int x.2.closed.toNat])
 | .po p=>∀ y,s.ports[p]? = some y→getV T 1 (H (loc (.po p)))=some (poV loc p y)
 | .st p=>∀ y,s.ports[p]? = some y→getV T 0 (H (loc (.st p)))=some (phV y.phase)
 | .se p=>∀ y x,s.ports[p]? = some y→y.sess=some x→getV T 2 (H (loc (.se p)))=some (ssV x)
 | .pe i=>∀ x,x ∈ s.persons→x.id=i→getV T 3 (H (loc (.pe i)))=some (peV loc x)
 | .gr i=>∀ x,x ∈ s.persons→x.id=i→H (loc (.gr i))=some (.lst (grV x.groups))
 | .ak n=>∀ a,a ∈ s.asks→a.n=n→∃ d,getV T 5 (H (loc (.ak n)))=some (akV a d)∧Dc H a d
end
noncomputable def Used (s:VS):Ro→Prop
 | .po p=>p < s.ports.length
 | .st p=>p < s.ports.length
 | .se p=>∃ y x,s.ports[p]? = some y∧y.sess=some x
 | .pe i=>∃ x,x ∈ s.persons∧x.id=i
 | .gr i=>∃ x,x ∈ s.persons∧x.id=i
 | .ak n=>∃ a,a ∈ s.asks∧a.n=n
 | _=>True
noncomputable def TI (T:Tb):Prop:=∀ c d,c < 8→d < 8→T.cls c=T.cls d→c=d
structure Rep (T:Tb) (loc:Lo) (F H:Hp) (s:VS):Prop where
 ti:TI T
 fr:Same F H
 off:∀ a o,F a=some o→∀ r,Used s r→loc r≠a
 inj:∀ r r',Used s r→Used s r'→loc r=loc r'→r=r'
 cell:∀ r,Cell T loc H s r
section
variable {T:Tb} {loc loc':Lo} {F F' H H':Hp} {s s':VS} {r r0:Ro}
theorem getV_none {c d:Nat} {o:Option HO} {vs:List V} (ti:TI T) (hc:c < 8) (hd:d < 8) (ne:c≠d) (h:getV T c o=some vs):getV T d o=none:=by
 obtain ⟨dx,rfl,_⟩:=jai h
 unfold getV Tb.ob
 simp only []
 rw [if_neg]
 rintro ⟨e,_⟩
 exact ne (ti c d hc hd e)
noncomputable def Soft (T:Tb) (o:Option HO):Prop:=(∀ xs,o≠some (.tup xs))∧getV T 4 o=none∧getV T 6 o=none
theorem Soft.lst {xs:List V}:Soft T (some (.lst xs)):=⟨fun _ h=>(by cases h),rfl,rfl⟩
theorem Soft.dk {xs:List (Key×V)}:Soft T (some (.dK xs)):=⟨fun _ h=>(by cases h),rfl,rfl⟩
theorem Soft.ob {c:Nat} {o:Option HO} {vs:List V} (ti:TI T) (hc:c < 8) (h4:c≠4) (h6:c≠6) (h:getV T c o=some vs):Soft T o :=
 ⟨fun xs e=>(by subst e; cases h),getV_none ti hc (by decide) h4 h,getV_none ti hc (by decide) h6 h⟩
theorem Rep.soft (R:Rep T loc F H s) (hu:Used s r):Soft T (H (loc r)):=by
 have c:=R.cell r
 cases r with
 | W=>exact .ob R.ti (by decide) (by decide) (by decide) c
 | PL=>rw [show H (loc .PL)=_ from c]; exact .lst
 | BL=>obtain ⟨_,_,e,_⟩:=c; rw [e]; exact .lst
 | RL=>obtain ⟨_,_,e,_⟩:=c; rw [e]; exact .lst
 | UL=>obtain ⟨_,_,e,_⟩:=c; rw [e]; exact .lst
 | GL=>obtain ⟨_,_,e,_⟩:=c; rw [e]; exact .lst
 | PD=>obtain ⟨_,e,_⟩:=c; rw [e]; exact .dk
 | KD=>rw [show H (loc .KD)=_ from c]; exact .dk
 | AD=>obtain ⟨_,_,e,_⟩:=c; rw [e]; exact .dk
 | po p=>exact .ob R.ti (by decide) (by decide) (by decide) (c _ (List.getElem?_eq_getElem hu))
 | st p=>exact .ob R.ti (by decide) (by decide) (by decide) (c _ (List.getElem?_eq_getElem hu))
 | se p=>obtain ⟨y,x,h1,h2⟩:=hu; exact .ob R.ti (by decide) (by decide) (by decide) (c y x h1 h2)
 | pe i=>obtain ⟨x,h1,h2⟩:=hu; exact .ob R.ti (by decide) (by decide) (by decide) (c x h1 h2)
 | gr i=>obtain ⟨x,h1,h2⟩:=hu; rw [c x h1 h2]; exact .lst
 | ak n=>obtain ⟨x,h1,h2⟩:=hu; obtain ⟨d,e,_⟩:=c x h1 h2; exact .ob R.ti (by decide) (by decide) (by decide) e
structure Kp (T:Tb) (H H':Hp):Prop where
 t:∀ b xs,H b=some (.tup xs)→H' b=some (.tup xs)
 r:∀ b vs,getV T 4 (H b)=some vs→getV T 4 (H' b)=some vs
 o:∀ b vs,getV T 6 (H b)=some vs→getV T 6 (H' b)=some vs
theorem Cell.keep (h:Cell T loc H s r) (k:Kp T H H') (hu:Used s r→H' (loc r)=H (loc r)):Cell T loc H' s r:=by
 cases r with
 | W=>show getV T 7 (H' (loc .W))=_; rw [hu trivial]; exact h
 | PL=>show H' (loc .PL)=_; rw [hu trivial]; exact h
 | BL=>obtain ⟨ps,e,h1,h2⟩:=h; exact ⟨ps,e,by rw [hu trivial]; exact h1,fun x hx=>k.t _ _ (h2 x hx)⟩
 | RL=>obtain ⟨ps,e,h1,h2⟩:=h; exact ⟨ps,e,by rw [hu trivial]; exact h1,fun x hx=>k.t _ _ (h2 x hx)⟩
 | UL=>obtain ⟨ps,e,h1,h2⟩:=h; exact ⟨ps,e,by rw [hu trivial]; exact h1,fun x hx=>k.r _ _ (h2 x hx)⟩
 | GL=>obtain ⟨ps,e,h1,h2⟩:=h; exact ⟨ps,e,by rw [hu trivial]; exact h1,fun x hx=>k.o _ _ (h2 x hx)⟩
 | PD=>obtain ⟨ps,e,h1⟩:=h; exact ⟨ps,by rw [hu trivial]; exact e,h1⟩
 | KD=>show H' (loc .KD)=_; rw [hu trivial]; exact h
 | AD=>obtain ⟨ps,e,h1,h2⟩:=h; exact ⟨ps,e,by rw [hu trivial]; exact h1,fun x hx=>k.t _ _ (h2 x hx)⟩
 | po p=>intro y hy; rw [hu (List.getElem?_eq_some_iff.mp hy).1]; exact h y hy
 | st p=>intro y hy; rw [hu (List.getElem?_eq_some_iff.mp hy).1]; exact h y hy
 | se p=>intro y x hy hx; rw [hu ⟨y,x,hy,hx⟩]; exact h y x hy hx
 | pe i=>intro x hx e; rw [hu ⟨x,hx,e⟩]; exact h x hx e
 | gr i=>intro x hx e; rw [hu ⟨x,hx,e⟩]; exact h x hx e
 | ak n =>
  intro x hx e
  rw [hu ⟨x,hx,e⟩]
  obtain ⟨d,h1,h2⟩:=h x hx e
  refine ⟨d,h1,?_⟩
  unfold Dc at h2 ⊢
  split <;> rename_i q <;> rw [q] at h2
  ·exact h2
  ·obtain ⟨b,e1,e2⟩:=h2; exact ⟨b,e1,k.t _ _ e2⟩
theorem Kp.fresh {a:Addr} {o:HO} (h:H a=none):Kp T H (upd H a o) :=
 ⟨fun b xs e=>by rw [upd_ne (jab e h)]; exact e,fun b vs e=>by
  have:b≠a:=fun q=>by subst q; rw [h] at e; cases e
  rw [upd_ne this]; exact e,fun b vs e=>by
  have:b≠a:=fun q=>by subst q; rw [h] at e; cases e
  rw [upd_ne this]; exact e⟩
theorem Kp.soft {a:Addr} {o:HO} (h:Soft T (H a)):Kp T H (upd H a o) :=
 ⟨fun b xs e=>by
  have:b≠a:=fun q=>by subst q; exact h.1 _ e
  rw [upd_ne this]; exact e,fun b vs e=>by
  have:b≠a:=fun q=>by subst q; rw [h.2.1] at e; cases e
  rw [upd_ne this]; exact e,fun b vs e=>by
  have:b≠a:=fun q=>by subst q; rw [h.2.2] at e; cases e
  rw [upd_ne this]; exact e⟩
theorem Rep.got (R:Rep T loc F H s) (hu:Used s r):∃ o,H (loc r)=some o:=by
 have c:=R.cell r
 cases r with
 | W=>obtain ⟨dx,e,_⟩:=jai (show getV T 7 (H (loc .W))=_ from c); exact ⟨_,e⟩
 | PL=>exact ⟨_,c⟩
 | BL=>obtain ⟨_,_,e,_⟩:=c; exact ⟨_,e⟩
 | RL=>obtain ⟨_,_,e,_⟩:=c; exact ⟨_,e⟩
 | UL=>obtain ⟨_,_,e,_⟩:=c; exact ⟨_,e⟩
 | GL=>obtain ⟨_,_,e,_⟩:=c; exact ⟨_,e⟩
 | PD=>obtain ⟨_,e,_⟩:=c; exact ⟨_,e⟩
 | KD=>exact ⟨_,c⟩
 | AD=>obtain ⟨_,_,e,_⟩:=c; exact ⟨_,e⟩
 | po p=>obtain ⟨dx,e,_⟩:=jai (c _ (List.getElem?_eq_getElem hu)); exact ⟨_,e⟩
 | st p=>obtain ⟨dx,e,_⟩:=jai (c _ (List.getElem?_eq_getElem hu)); exact ⟨_,e⟩
 | se p=>obtain ⟨y,x,h1,h2⟩:=hu; obtain ⟨dx,e,_⟩:=jai (c y x h1 h2); exact ⟨_,e⟩
 | pe i=>obtain ⟨x,h1,h2⟩:=hu; obtain ⟨dx,e,_⟩:=jai (c x h1 h2); exact ⟨_,e⟩
 | gr i=>obtain ⟨x,h1,h2⟩:=hu; exact ⟨_,c x h1 h2⟩
 | ak n=>obtain ⟨x,h1,h2⟩:=hu; obtain ⟨d,e,_⟩:=c x h1 h2; obtain ⟨dx,e,_⟩:=jai e; exact ⟨_,e⟩
theorem Rep.ne_new (R:Rep T loc F H s) {a:Addr} (h:H a=none) (hu:Used s r):loc r≠a:=by
 obtain ⟨o,e⟩:=R.got hu
 exact jab e h
theorem Rep.free (R:Rep T loc F H s) {a:Addr} (h:H a=none):F a=none:=R.fr.free h
theorem jbv {a:Addr} {o:HO} (h:Same F H):Same (upd F a o) (upd H a o):=fun b u e=>by
 unfold upd at e ⊢
 split at e
 ·rename_i q; rw [if_pos q]; exact e
 ·rename_i q; rw [if_neg q]; exact h b u e
theorem Rep.junk (R:Rep T loc F H s) {a:Addr} {o:HO} (h:H a=none):Rep T loc F (upd H a o) s where
 ti:=R.ti
 fr:=fun b u e=>by rw [upd_ne (jab (R.fr b u e) h)]; exact R.fr b u e
 off:=R.off
 inj:=R.inj
 cell:=fun r=>(R.cell r).keep (Kp.fresh h) fun hu=>upd_ne (R.ne_new h hu)
theorem Rep.new (R:Rep T loc F H s) {a:Addr} {o:HO} (h:H a=none):Rep T loc (upd F a o) (upd H a o) s where
 ti:=R.ti
 fr:=jbv R.fr
 off:=fun b u e r hu=>by
  by_cases q:b=a
  ·subst q; exact R.ne_new h hu
  ·rw [upd_ne q] at e; exact R.off b u e r hu
 inj:=R.inj
 cell:=fun r=>(R.cell r).keep (Kp.fresh h) fun hu=>upd_ne (R.ne_new h hu)
theorem Rep.own (R:Rep T loc F H s) {a:Addr} {o u:HO} (h:F a=some u) (hs:Soft T (some u)):Rep T loc (upd F a o) (upd H a o) s where
 ti:=R.ti
 fr:=jbv R.fr
 off:=fun b v e r hu=>by
  by_cases q:b=a
  ·subst q; exact R.off _ _ h r hu
  ·rw [upd_ne q] at e; exact R.off b v e r hu
 inj:=R.inj
 cell:=fun r=>(R.cell r).keep (Kp.soft (by rw [R.fr _ _ h]; exact hs)) fun hu=>upd_ne (R.off _ _ h r hu)
theorem Rep.less (R:Rep T loc F H s) (h:Same F' F):Rep T loc F' H s:=⟨R.ti,fun b o e=>R.fr b o (h b o e),fun a o e=>R.off a o (h a o e),R.inj,R.cell⟩
theorem jbw {a:Addr} {o:HO} (h:F a=none):Same F (upd F a o):=fun b u e=>by rw [upd_ne (jab e h)]; exact e
theorem Rep.drop (R:Rep T loc (upd F a o) H s) (h:F a=none):Rep T loc F H s:=R.less (jbw h)
theorem Rep.wr (R:Rep T loc F H s) (hu:Used s r0) {o:HO} (hU:∀ r,Used s' r→Used s r) (h0:Cell T loc (upd H (loc r0) o) s' r0)
  (hs:∀ r,r≠r0→Cell T loc (upd H (loc r0) o) s r→Cell T loc (upd H (loc r0) o) s' r):Rep T loc F (upd H (loc r0) o) s' where
 ti:=R.ti
 fr:=fun b u e=>by rw [upd_ne (fun q=>R.off b u e r0 hu q.symm)]; exact R.fr b u e
 off:=fun a o e r h=>R.off a o e r (hU r h)
 inj:=fun r r' h h'=>R.inj r r' (hU r h) (hU r' h')
 cell:=fun r=>by
  by_cases q:r=r0
  ·rw [q]; exact h0
  ·exact hs r q ((R.cell r).keep (Kp.soft (R.soft hu)) fun h=>upd_ne fun e=>q (R.inj r r0 h hu e))
theorem jar {c:Nat} {a:Addr} {us vs:List V} (h:getV T c (H a)=some us):∃ dx,H a=some (T.ob c dx us)∧setV T c H a vs=upd H a (T.ob c dx vs):=by
 obtain ⟨dx,e,_⟩:=jai h
 exact ⟨dx,e,jao e⟩
theorem jcn {c:Nat} {a b:Addr} {vs:List V} (h:b≠a):setV T c H a vs b=H b:=by
 have:setV T c H a vs=H∨∃ o,setV T c H a vs=upd H a o:=by
  unfold setV
  split
  ·split
   ·exact .inr ⟨_,rfl⟩
   ·exact .inl rfl
  ·exact .inl rfl
 rcases this with e | ⟨o,e⟩
 ·rw [e]
 ·rw [e,upd_ne h]
theorem scal_ii {i j:Int}:scal (.int i) (.int j)=true:=rfl
theorem setV_upd {c:Nat} {x dx:Addr} {us vs:List V}:setV T c (upd H x (T.ob c dx us)) x vs=upd H x (T.ob c dx vs):=by
 rw [jao (dx:=dx) (us:=us) jaa,jbb]
end
theorem exi {α:Type} {p:α→Prop} {a:α}:(∃ x,x=a∧p x)↔p a:=⟨fun ⟨_,e,h⟩=>e ▸ h,fun h=>⟨a,rfl,h⟩⟩
theorem exi2 {α:Type} {p:α→Prop} {a:α}:(∃ x,a=x∧p x)↔p a:=⟨fun ⟨_,e,h⟩=>e ▸ h,fun h=>⟨a,rfl,h⟩⟩
theorem eqr {α:Type} {a:α}:(a=a)↔True:=⟨fun _=>trivial,fun _=>rfl⟩
theorem conj3 {a:Prop}:(True∧a)↔a:=⟨And.right,fun h=>⟨trivial,h⟩⟩
theorem Same.rfl' {H:Hp}:Same H H:=fun _ _ h=>h
theorem Same.fresh {H:Hp} {a:Addr} {o:HO} (h:H a=none):Same H (upd H a o):=fun b u e=>by rw [upd_ne (jab e h)]; exact e
theorem Kp.same {T:Tb} {H H':Hp} (e:Same H H'):Kp T H H' :=
 ⟨fun b xs h=>e _ _ h,fun b vs h=>by obtain ⟨dx,q,l⟩:=jai h; rw [e _ _ q]; exact jae l,fun b vs h=>by obtain ⟨dx,q,l⟩:=jai h; rw [e _ _ q]; exact jae l⟩
theorem Rep.grow {T:Tb} {loc:Lo} {F H H':Hp} {s:VS} (R:Rep T loc F H s) (e:Same H H'):Rep T loc F H' s :=
 ⟨R.ti,fun b o h=>e _ _ (R.fr b o h),R.off,R.inj,fun r=>(R.cell r).keep (Kp.same e) fun hu=>by obtain ⟨o,q⟩:=R.got hu; rw [e _ _ q,q]⟩
theorem atI_at {α:Type} {xs:List α} {i:Nat}:atI xs (i:Int)=xs[i]? := by
 unfold atI ixN
 rw [if_pos (Int.natCast_nonneg _)]
 by_cases h:i < xs.length
 ·rw [if_pos (by omega)]; simp
 ·rw [if_neg (by omega),List.getElem?_eq_none (by omega)]; rfl
theorem atI_0 {α:Type} {x:α} {xs:List α}:atI (x :: xs) 0=some x:=by
 have:=atI_at (xs:=x :: xs) (i:=0); simpa using this
theorem atI_1 {α:Type} {x y:α} {xs:List α}:atI (x :: y :: xs) 1=some y:=by
 have:=atI_at (xs:=x :: y :: xs) (i:=1); simpa using this
theorem forL {K:W.Frag} {a:Addr} {xs:List V} {A:L2.St→Hp→Prop} {B:(L2.St→Hp→Prop)→V→L2.St→Hp→Prop} {σ0:L2.St} {H0:Hp} (Pv:Nat→L2.St→Hp→Prop) (h0:Pv 0 σ0 H0) (hl:∀ i σ H,i≤xs.length→Pv i σ H→SqL K H a xs)
  (hs:∀ i x σ H,xs[i]? = some x→Pv i σ H→B (Pv (i+1)) x σ H) (hd:∀ σ H,Pv xs.length σ H→A σ H) :
  ∃ W:Nat→Nat→L2.St→Hp→Prop,(∃ m,W 0 m σ0 H0)∧∀ i m σ H,W i m σ H →
   ((Itl K a).stop i H∧A σ H)∨((Itl K a).go i H∧∃ N:L2.St→Hp→Prop,(∀ σ' H',N σ' H'→∃ m',m' < m∧W (i+1) m' σ' H')∧∀ x H',(Itl K a).yld i H x H'→B N x σ H'):=by
 refine ⟨fun i m σ H=>m=xs.length - i∧i≤xs.length∧Pv i σ H,⟨xs.length,by simp,Nat.zero_le _,h0⟩,?_⟩
 rintro i m σ H ⟨rfl,hi,p⟩
 have q:=hl i σ H hi p
 by_cases hlt:i < xs.length
 ·refine .inr ⟨⟨xs,xs[i],q,by simp [hlt]⟩,Pv (i+1),fun σ' H' p'=>⟨xs.length - (i+1),by omega,rfl,hlt,p'⟩,fun x H' y=>?_⟩
  obtain ⟨e,y⟩:=y
  subst e
  exact hs i x σ _ (y xs q) p
 ·have e:i=xs.length:=by omega
  subst e
  exact .inl ⟨⟨xs,q,Nat.le_refl _⟩,hd σ H p⟩
theorem forE {K:W.Frag} {a:Addr} {xs:List V} {A:L2.St→Hp→Prop} {B:(L2.St→Hp→Prop)→V→L2.St→Hp→Prop} {σ0:L2.St} {H0:Hp} (Pv:Nat→L2.St→Hp→Prop) (h0:Pv 0 σ0 H0) (hl:∀ i σ H,i≤xs.length→Pv i σ H→SqL K H a xs)
  (hs:∀ i x t σ H,xs[i]? = some x→Pv i σ H→H t=none→B (Pv (i+1)) (.ref t) σ (upd H t (.tup [.int (i:Nat),x]))) (hd:∀ σ H,Pv xs.length σ H→A σ H) :
  ∃ W:Nat→Nat→L2.St→Hp→Prop,(∃ m,W 0 m σ0 H0)∧∀ i m σ H,W i m σ H →
   ((Ite K a).stop i H∧A σ H)∨((Ite K a).go i H∧∃ N:L2.St→Hp→Prop,(∀ σ' H',N σ' H'→∃ m',m' < m∧W (i+1) m' σ' H')∧∀ x H',(Ite K a).yld i H x H'→B N x σ H'):=by
 refine ⟨fun i m σ H=>m=xs.length - i∧i≤xs.length∧Pv i σ H,⟨xs.length,by simp,Nat.zero_le _,h0⟩,?_⟩
 rintro i m σ H ⟨rfl,hi,p⟩
 have q:=hl i σ H hi p
 by_cases hlt:i < xs.length
 ·refine .inr ⟨⟨xs,xs[i],q,by simp [hlt]⟩,Pv (i+1),fun σ' H' p'=>⟨xs.length - (i+1),by omega,rfl,hlt,p'⟩,fun x H' y=>?_⟩
  obtain ⟨t,y,rfl,ht,rfl,hy⟩:=y
  exact hs i y t σ H (hy xs q) p ht
 ·have e:i=xs.length:=by omega
  subst e
  exact .inl ⟨⟨xs,q,Nat.le_refl _⟩,hd σ H p⟩
theorem forR {lo:Int} {n:Nat} {A:L2.St→Hp→Prop} {B:(L2.St→Hp→Prop)→V→L2.St→Hp→Prop} {σ0:L2.St} {H0:Hp} (Pv:Nat→L2.St→Hp→Prop) (h0:Pv 0 σ0 H0)
  (hs:∀ i σ H,i < n→Pv i σ H→B (Pv (i+1)) (.int (lo+i)) σ H) (hd:∀ σ H,Pv n σ H→A σ H) :
  ∃ W:Nat→Nat→L2.St→Hp→Prop,(∃ m,W 0 m σ0 H0)∧∀ i m σ H,W i m σ H →
   ((Itr lo n).stop i H∧A σ H)∨((Itr lo n).go i H∧∃ N:L2.St→Hp→Prop,(∀ σ' H',N σ' H'→∃ m',m' < m∧W (i+1) m' σ' H')∧∀ x H',(Itr lo n).yld i H x H'→B N x σ H'):=by
 refine ⟨fun i m σ H=>m=n - i∧i≤n∧Pv i σ H,⟨n,by simp,Nat.zero_le _,h0⟩,?_⟩
 rintro i m σ H ⟨rfl,hi,p⟩
 by_cases hlt:i < n
 ·refine .inr ⟨hlt,Pv (i+1),fun σ' H' p'=>⟨n - (i+1),by omega,rfl,hlt,p'⟩,fun x H' y=>?_⟩
  obtain ⟨e,y⟩:=y
  subst e y
  exact hs i σ _ hlt p
 ·have e:i=n:=by omega
  subst e
  exact .inl ⟨Nat.le_refl _,hd σ H p⟩
theorem forZ {K:W.Frag} {a b:Addr} {xs ys:List V} {A:L2.St→Hp→Prop} {B:(L2.St→Hp→Prop)→V→L2.St→Hp→Prop} {σ0:L2.St} {H0:Hp} (Pv:Nat→L2.St→Hp→Prop) (h0:Pv 0 σ0 H0)
  (hl:∀ i σ H,Pv i σ H→SqL K H a xs∧SqT K H b ys)
  (hs:∀ i x y t σ H,xs[i]? = some x→ys[i]? = some y→Pv i σ H→H t=none→B (Pv (i+1)) (.ref t) σ (upd H t (.tup [x,y])))
  (hd:∀ σ H,Pv (min xs.length ys.length) σ H→A σ H) :
  ∃ W:Nat→Nat→L2.St→Hp→Prop,(∃ m,W 0 m σ0 H0)∧∀ i m σ H,W i m σ H→((ItzT K a b).stop i H∧A σ H)∨((ItzT K a b).go i H∧∃ Nx:L2.St→Hp→Prop,(∀ σ' H',Nx σ' H'→∃ m',m' < m∧W (i+1) m' σ' H')∧∀ x H',(ItzT K a b).yld i H x H'→B Nx x σ H'):=by
 refine ⟨fun i m σ H=>i≤min xs.length ys.length∧m=min xs.length ys.length - i∧Pv i σ H,⟨_,Nat.zero_le _,rfl,h0⟩,fun i m σ H ⟨hi,hm,hp⟩=>?_⟩
 obtain ⟨hx,hy⟩:=hl i σ H hp
 by_cases he:i=min xs.length ys.length
 ·refine .inl ⟨⟨xs,ys,hx,hy,by omega⟩,?_⟩
  subst he
  exact hd σ H hp
 ·have h1:i < xs.length:=by omega
  have h2:i < ys.length:=by omega
  refine .inr ⟨⟨xs,ys,_,_,hx,hy,List.getElem?_eq_getElem h1,List.getElem?_eq_getElem h2⟩,Pv (i+1),fun σ' H' q=>⟨_,by omega,by omega,rfl,q⟩,?_⟩
  rintro x H' ⟨t,u,v,rfl,ht,rfl,e1,e2⟩
  exact hs i u v t σ H (e1 xs hx) (e2 ys hy) hp ht
theorem lcL {K:W.Frag} {a:Addr} {xs:List V} {A:Hp→Prop} {B:(Hp→Prop)→V→Hp→Prop} {H0:Hp} (Pv:Nat→Hp→Prop) (h0:Pv 0 H0) (hl:∀ i H,i≤xs.length→Pv i H→SqL K H a xs)
  (hs:∀ i x H,xs[i]? = some x→Pv i H→B (Pv (i+1)) x H) (hd:∀ H,Pv xs.length H→A H) :
  ∃ W:Nat→Nat→Hp→Prop,(∃ m,W 0 m H0)∧∀ i m H,W i m H →
   ((Itl K a).stop i H∧A H)∨((Itl K a).go i H∧∃ Nx:Hp→Prop,(∀ H',Nx H'→∃ m',m' < m∧W (i+1) m' H')∧∀ x H',(Itl K a).yld i H x H'→B Nx x H'):=by
 refine ⟨fun i m H=>m=xs.length - i∧i≤xs.length∧Pv i H,⟨xs.length,by simp,Nat.zero_le _,h0⟩,?_⟩
 rintro i m H ⟨rfl,hi,p⟩
 have q:=hl i H hi p
 by_cases hlt:i < xs.length
 ·refine .inr ⟨⟨xs,xs[i],q,by simp [hlt]⟩,Pv (i+1),fun H' p'=>⟨xs.length - (i+1),by omega,rfl,hlt,p'⟩,fun x H' y=>?_⟩
  obtain ⟨e,y⟩:=y
  subst e
  exact hs i x _ (y xs q) p
 ·have e:i=xs.length:=by omega
  subst e
  exact .inl ⟨⟨xs,q,Nat.le_refl _⟩,hd H p⟩
theorem lcE {K:W.Frag} {a:Addr} {xs:List V} {A:Hp→Prop} {B:(Hp→Prop)→V→Hp→Prop} {H0:Hp} (Pv:Nat→Hp→Prop) (h0:Pv 0 H0) (hl:∀ i H,i≤xs.length→Pv i H→SqL K H a xs)
  (hs:∀ i x t H,xs[i]? = some x→Pv i H→H t=none→B (Pv (i+1)) (.ref t) (upd H t (.tup [.int (i:Nat),x]))) (hd:∀ H,Pv xs.length H→A H) :
  ∃ W:Nat→Nat→Hp→Prop,(∃ m,W 0 m H0)∧∀ i m H,W i m H →
   ((Ite K a).stop i H∧A H)∨((Ite K a).go i H∧∃ Nx:Hp→Prop,(∀ H',Nx H'→∃ m',m' < m∧W (i+1) m' H')∧∀ x H',(Ite K a).yld i H x H'→B Nx x H'):=by
 refine ⟨fun i m H=>m=xs.length - i∧i≤xs.length∧Pv i H,⟨xs.length,by simp,Nat.zero_le _,h0⟩,?_⟩
 rintro i m H ⟨rfl,hi,p⟩
 have q:=hl i H hi p
 by_cases hlt:i < xs.length
 ·refine .inr ⟨⟨xs,xs[i],q,by simp [hlt]⟩,Pv (i+1),fun H' p'=>⟨xs.length - (i+1),by omega,rfl,hlt,p'⟩,fun x H' y=>?_⟩
  obtain ⟨t,y,rfl,ht,rfl,hy⟩:=y
  exact hs i y t H (hy xs q) p ht
 ·have e:i=xs.length:=by omega
  subst e
  exact .inl ⟨⟨xs,q,Nat.le_refl _⟩,hd H p⟩
theorem lcR {lo:Int} {n:Nat} {A:Hp→Prop} {B:(Hp→Prop)→V→Hp→Prop} {H0:Hp} (Pv:Nat→Hp→Prop) (h0:Pv 0 H0)
  (hs:∀ i H,i < n→Pv i H→B (Pv (i+1)) (.int (lo+i)) H) (hd:∀ H,Pv n H→A H) :
  ∃ W:Nat→Nat→Hp→Prop,(∃ m,W 0 m H0)∧∀ i m H,W i m H →
   ((Itr lo n).stop i H∧A H)∨((Itr lo n).go i H∧∃ Nx:Hp→Prop,(∀ H',Nx H'→∃ m',m' < m∧W (i+1) m' H')∧∀ x H',(Itr lo n).yld i H x H'→B Nx x H'):=by
 refine ⟨fun i m H=>m=n - i∧i≤n∧Pv i H,⟨n,by simp,Nat.zero_le _,h0⟩,?_⟩
 rintro i m H ⟨rfl,hi,p⟩
 by_cases hlt:i < n
 ·refine .inr ⟨hlt,Pv (i+1),fun H' p'=>⟨n - (i+1),by omega,rfl,hlt,p'⟩,fun x H' y=>?_⟩
  obtain ⟨e,y⟩:=y
  subst e y
  exact hs i _ hlt p
 ·have e:i=n:=by omega
  subst e
  exact .inl ⟨Nat.le_refl _,hd H p⟩
theorem lcV {d:Addr} {o:Obj} {kvs:List (Key×V)} {A:Hp→Prop} {B:(Hp→Prop)→V→Hp→Prop} {H0:Hp} (Pv:Nat→Hp→Prop) (h0:Pv 0 H0) (hl:∀ i H,i≤kvs.length→Pv i H→H d=some (.frz o (.dK kvs)))
  (hs:∀ i k x H,kvs[i]? = some (k,x)→Pv i H→B (Pv (i+1)) x H) (hd:∀ H,Pv kvs.length H→A H) :
  ∃ W:Nat→Nat→Hp→Prop,(∃ m,W 0 m H0)∧∀ i m H,W i m H →
   ((Itd d o kvs).stop i H∧A H)∨((Itd d o kvs).go i H∧∃ Nx:Hp→Prop,(∀ H',Nx H'→∃ m',m' < m∧W (i+1) m' H')∧∀ x H',(Itd d o kvs).yld i H x H'→B Nx x H'):=by
 refine ⟨fun i m H=>m=kvs.length - i∧i≤kvs.length∧Pv i H,⟨kvs.length,by simp,Nat.zero_le _,h0⟩,?_⟩
 rintro i m H ⟨rfl,hi,p⟩
 have q:=hl i H hi p
 by_cases hlt:i < kvs.length
 ·refine .inr ⟨⟨q,hlt⟩,Pv (i+1),fun H' p'=>⟨kvs.length - (i+1),by omega,rfl,hlt,p'⟩,fun x H' y=>?_⟩
  obtain ⟨rfl,k,hk⟩:=y
  exact hs i k x _ hk p
 ·have e:i=kvs.length:=by omega
  subst e
  exact .inl ⟨⟨q,Nat.le_refl _⟩,hd H p⟩
section
set_option autoImplicit true
set_option relaxedAutoImplicit true
variable {K:W.Frag} {T:Tb} {σ:L2.St} {H:Hp} {Q:VK} {D:Ends} {q:Bool→Hp→Prop} {A:List V→Hp→Prop} {I:L2.It→Hp→Prop}
theorem kq0:ME.wp K T (.var i) σ H Q=(tVar i) σ H Q:=rfl
theorem kq1:ME.wp K T (.int z) σ H Q=(tC (.int z)) σ H Q:=rfl
theorem kq2:ME.wp K T (.neg z) σ H Q=(tC (.int (-z))) σ H Q:=rfl
theorem kq3:ME.wp K T (.bl b) σ H Q=(tC (.bl b)) σ H Q:=rfl
theorem kq4:ME.wp K T (.non) σ H Q=(tC .non) σ H Q:=rfl
theorem kq5:ME.wp K T (.glo u1 v) σ H Q=(tC v) σ H Q:=rfl
theorem kq6:ME.wp K T (.fld e u1 c i) σ H Q=(fun σ H Q=>(e.wp K T) σ H fun x H1=>rFld T c i x H1 Q) σ H Q:=rfl
theorem kq7:ME.wp K T (.op u1 r a b) σ H Q=(tOp r (a.wp K T) (b.wp K T)) σ H Q:=rfl
theorem kq8:ME.wp K T (.cmp u1 r a b) σ H Q=(tOp r (a.wp K T) (b.wp K T)) σ H Q:=rfl
theorem kq9:ME.wp K T (.chn u1 u2 r r' a b c) σ H Q=(tChain r r' (a.wp K T) (b.wp K T) (c.wp K T)) σ H Q:=rfl
theorem kq10:ME.wp K T (.din n k d) σ H Q=(if n then tDNotIn (k.wp K T) (d.wp K T) else tDIn (k.wp K T) (d.wp K T)) σ H Q:=rfl
theorem kq11:ME.wp K T (.dget d k) σ H Q=(tDGet (d.wp K T) (k.wp K T)) σ H Q:=rfl
theorem kq12:ME.wp K T (.ix r a b) σ H Q=(tOp r (a.wp K T) (b.wp K T)) σ H Q:=rfl
theorem kq13:ME.wp K T (.sl r a zlo zhi) σ H Q=(tSl r (a.wp K T) (tPart (zlo.wp K T)) (tPart (zhi.wp K T))) σ H Q:=rfl
theorem kq14:ME.wp K T (.bol n a as) σ H Q=(as.wb K T n (a.wp K T)) σ H Q:=rfl
theorem kq15:ME.wp K T (.not_ a) σ H Q=(tNotV (a.wp K T)) σ H Q:=rfl
theorem kq16:ME.wp K T (.ife c a b) σ H Q=(tIf (c.wt K T) (a.wp K T) (b.wp K T)) σ H Q:=rfl
theorem kq17:ME.wp K T (.call u1 sp as) σ H Q=(tCall sp [] E0 (as.wp K T)) σ H Q:=rfl
theorem kq18:ME.wp K T (.make u1 c sp as) σ H Q=(tMake (T.cls c) sp [] E0 (as.wp K T)) σ H Q:=rfl
theorem kq19:ME.wp K T (.bif u1 u2 r as) σ H Q=(tCB r (as.wp K T)) σ H Q:=rfl
theorem kq20:ME.wp K T (.bty u1 u2 r as) σ H Q=(tCB r (as.wp K T)) σ H Q:=rfl
theorem kq21:ME.wp K T (.mth o u1 ty u2 r as) σ H Q=(tBM K ty r (o.wp K T) (as.wp K T)) σ H Q:=rfl
theorem kq22:ME.wp K T (.dpop d k) σ H Q=(tDPop1 (d.wp K T) (k.wp K T)) σ H Q:=rfl
theorem kq23:ME.wp K T (.dgt1 d k) σ H Q=(tDGet1 (d.wp K T) (k.wp K T)) σ H Q:=rfl
theorem kq24:ME.wp K T (.dgt2 d k x) σ H Q=(tDGet2 (d.wp K T) (k.wp K T) (x.wp K T)) σ H Q:=rfl
theorem kq25:ME.wp K T (.tup as) σ H Q=(tTup (as.wp K T)) σ H Q:=rfl
theorem kq26:ME.wp K T (.lst as) σ H Q=(tLst (as.wp K T)) σ H Q:=rfl
theorem kq27:ME.wp K T (.dnew) σ H Q=(tDNewK) σ H Q:=rfl
theorem kq28:ME.wp K T (.lc zelt g zit zcond zown) σ H Q=(tLc (zit.wp K T) (g.wp K) (zcond.wc K T) (zelt.wp K T) (zown.map (·.2))) σ H Q:=rfl
theorem kq29:ME.wp K T (.lock e) σ H Q=(tLockE (e.wp K T)) σ H Q:=rfl
theorem kq30:ME.wt K T (.bol n a as) σ H q=(as.wbt K T n (a.wt K T)) σ H q:=rfl
theorem kq31:ME.wt K T (.not_ a) σ H q=(tNot (a.wt K T)) σ H q:=rfl
theorem kq32:ME.wt K T (.var i) σ H q=(tB (tVar i)) σ H q:=rfl
theorem kq33:ME.wt K T (.int z) σ H q=(tB (tC (.int z))) σ H q:=rfl
theorem kq34:ME.wt K T (.bl b) σ H q=(tB (tC (.bl b))) σ H q:=rfl
theorem kq35:ME.wt K T (.non) σ H q=(tB (tC .non)) σ H q:=rfl
theorem kq36:ME.wt K T (.glo u1 v) σ H q=(tB (tC v)) σ H q:=rfl
theorem kq37:ME.wt K T (.fld e u1 c i) σ H q=(tB fun σ H Q=>(e.wp K T) σ H fun x H1=>rFld T c i x H1 Q) σ H q:=rfl
theorem kq38:ME.wt K T (.cmp u1 r a b) σ H q=(tTest (tOp r (a.wp K T) (b.wp K T))) σ H q:=rfl
theorem kq39:ME.wt K T (.chn u1 u2 r r' a b c) σ H q=(tTest (tChain r r' (a.wp K T) (b.wp K T) (c.wp K T))) σ H q:=rfl
theorem kq40:ME.wt K T (.din n k d) σ H q=(tB (if n then tDNotIn (k.wp K T) (d.wp K T) else tDIn (k.wp K T) (d.wp K T))) σ H q:=rfl
theorem kq41:ME.wt K T (.dget d k) σ H q=(tB (tDGet (d.wp K T) (k.wp K T))) σ H q:=rfl
theorem kq42:ME.wt K T (.ix r a b) σ H q=(tB (tOp r (a.wp K T) (b.wp K T))) σ H q:=rfl
theorem kq43:ME.wt K T (.call u1 sp as) σ H q=(tB (tCall sp [] E0 (as.wp K T))) σ H q:=rfl
theorem kq44:ME.wt K T (.bif u1 u2 r as) σ H q=(tB (tCB r (as.wp K T))) σ H q:=rfl
theorem kq45:MA.wp K T (.nil) σ H A=(tNil) σ H A:=rfl
theorem kq46:MA.wp K T (.cons e as) σ H A=(tCons (e.wp K T) (as.wp K T)) σ H A:=rfl
theorem kq47:MA.wb K T (.nil) u1 zt σ H Q=(zt) σ H Q:=rfl
theorem kq48:MA.wb K T (.cons e as) n zt σ H Q=(if n then tAndV zt (as.wb K T n (e.wp K T)) else tOrV zt (as.wb K T n (e.wp K T))) σ H Q:=rfl
theorem kq49:MA.wbt K T (.nil) u1 zt σ H q=(zt) σ H q:=rfl
theorem kq50:MA.wbt K T (.cons e as) n zt σ H q=(if n then tAnd zt (as.wbt K T n (e.wt K T)) else tOr zt (as.wbt K T n (e.wt K T))) σ H q:=rfl
theorem kq51:MA.wc K T (.nil) σ H q=(tYes) σ H q:=rfl
theorem kq52:MA.wc K T (.cons e .nil) σ H q=((e.wt K T)) σ H q:=rfl
theorem kq53:MI.wp K T (.list e) σ H I=(iList K (e.wp K T)) σ H I:=rfl
theorem kq54:MI.wp K T (.tup e) σ H I=(iTup K (e.wp K T)) σ H I:=rfl
theorem kq55:MI.wp K T (.rng1 e) σ H I=(iRng1 (tCons (e.wp K T) tNil)) σ H I:=rfl
theorem kq56:MI.wp K T (.rng2 a b) σ H I=(iRng2 (tCons (a.wp K T) (tCons (b.wp K T) tNil))) σ H I:=rfl
theorem kq57:MI.wp K T (.vals e) σ H I=(iVals (e.wp K T)) σ H I:=rfl
theorem kq58:MI.wp K T (.zipLT a b) σ H I=(iZipT K (tCons (a.wp K T) (tCons (b.wp K T) tNil))) σ H I:=rfl
theorem kq59:MI.wp K T (.enum e) σ H I=(iEnum K (tCons (e.wp K T) tNil)) σ H I:=rfl
theorem kq60:MS.wp K T (.set i e) D σ H=(tAsg (e.wp K T) (gName i)) D σ H:=rfl
theorem kq61:MS.wp K T (.setLc i zelt g zit zcond zown) D σ H=(tAsg (tLc (zit.wp K T) (g.wp K) (zcond.wc K T) (zelt.wp K T) (zown.map (·.2))) (gName i)) D σ H:=rfl
theorem kq62:MS.wp K T (.expr e) D σ H=(tDrop (e.wp K T)) D σ H:=rfl
theorem kq63:MS.wp K T (.ret e) D σ H=(tRet (e.wp K T)) D σ H:=rfl
theorem kq64:MS.wp K T (.retN) D σ H=(tRetN) D σ H:=rfl
theorem kq65:MS.wp K T (.if_ c a b) D σ H=(tIfS (c.wt K T) (a.wp K T) (b.wp K T)) D σ H:=rfl
theorem kq66:MS.wp K T (.fset o u1 c i e) D σ H=(fun D σ H=>e.wp K T σ H fun y H1=>o.wp K T σ H1 fun x H2=>kzR x fun a=>kzS (getV T c (H2 a)) fun vs=>i≤vs.length∧D.nx σ (setV T c H2 a (putAt vs i y))) D σ H:=rfl
theorem kq67:MS.wp K T (.faug o u1 c i u2 rd e) D σ H=(fun D σ H=>o.wp K T σ H fun x H1=>kzR x fun a=>kzS (getV T c (H1 a)) fun vs=>kzE vs[i]? fun v => e.wp K T σ H1 fun y H2=>rd v y H2 fun z H3=>kzS (getV T c (H3 a)) fun vs'=>i≤vs'.length∧D.nx σ (setV T c H3 a (putAt vs' i z))) D σ H:=rfl
theorem kq68:MS.wp K T (.aug i u1 ti e) D σ H=(tAug i (e.wp K T) ti) D σ H:=rfl
theorem kq69:MS.wp K T (.dput d k v) D σ H=(sDPut (d.wp K T) (k.wp K T) (v.wp K T)) D σ H:=rfl
theorem kq70:MS.wp K T (.lset zt o k v) D σ H=(tAsg (v.wp K T) (gSub (o.wp K T) (k.wp K T) zt)) D σ H:=rfl
theorem kq71:MS.wp K T (.for_ g zit b) D σ H=(tFor (zit.wp K T) (g.wp K) (b.wp K T)) D σ H:=rfl
theorem kq72:MS.wp K T (.while_ c b) D σ H=(tWhile (c.wt K T) (b.wp K T)) D σ H:=rfl
theorem kq73:MS.wp K T (.pass) D σ H=(tNext) D σ H:=rfl
theorem kq74:MS.wp K T (.brk) D σ H=(tBreak) D σ H:=rfl
theorem kq75:MS.wp K T (.cont) D σ H=(tCont) D σ H:=rfl
theorem kq76:MS.wp K T (.lock s) D σ H=(tLock (s.wp K T)) D σ H:=rfl
theorem kq77:MB.wp K T (.nil) D σ H=(tNext) D σ H:=rfl
theorem kq78:MB.wp K T (.cons s b) D σ H=(tSeq (s.wp K T) (b.wp K T)) D σ H:=rfl
theorem kl1 {α β:Type} {f:α→β} {a:α} {l:List α}:List.map f (a::l)=f a::List.map f l:=rfl
theorem kl2 {α β:Type} {f:α→β}:List.map f []=[]:=rfl
theorem kl3 {α:Type} {a:α} {l r:List α}:(a::l)++r=a::(l++r):=rfl
theorem kl4 {α:Type} {l:List α}:[]++l=l:=rfl
theorem kl5 {α:Type} {a b:α} {l:List α}:(a::l).set 0 b=b::l:=rfl
theorem kl6 {α:Type} {a b:α} {l:List α} {n:Nat}:(a::l).set (n+1) b=a::l.set n b:=rfl
theorem kl7 {α:Type} {a:α} {l:List α}:(a::l)[0]? = some a:=rfl
theorem kl8 {α:Type} {a:α} {l:List α} {n:Nat}:(a::l)[n+1]? = l[n]?:=rfl
theorem kl9 {α:Type} {a:α} {l:List α}:(a::l).length=l.length+1:=rfl
theorem kl10:(!true)=false:=rfl
theorem kl11:(!false)=true:=rfl
end
noncomputable def Wk (K:W.Frag) (T:Tb) (sp:Sp) (m:MB) (N:List Str):Prop:=∀ (vs:List V) (H:Hp) (Q:VK) (E:XK),sp vs H Q E→m.wp K T { nx:=fun _ H'=>Q .non H',rt:=Q } (start N vs) H
theorem iS {α:Type} {o:Option α} {a:α} {k:α→Prop} {X:Prop} (h:o=some a) (f:X→k a):X→kzS o k:=fun x=>by rw [h]; exact f x
theorem iL {o:Option HO} {a:List V} {k:List V→Prop} {X:Prop} (h:o=some (.lst a)) (f:X→k a):X→kzL o k:=fun x=>by rw [h]; exact f x
theorem iU {o:Option HO} {a:List V} {k:List V→Prop} {X:Prop} (h:o=some (.tup a)) (f:X→k a):X→kzU o k:=fun x=>by rw [h]; exact f x
theorem iD {o:Option HO} {a:List (Key×V)} {k:List (Key×V)→Prop} {X:Prop} (h:o=some (.dK a)) (f:X→k a):X→kzD o k:=fun x=>by rw [h]; exact f x
theorem iI {c:Prop} {d:Decidable c} {A B X Y:Prop} (f:X→A) (g:Y→B):@ite Prop c d X Y→@ite Prop c d A B:=fun x=>by
 by_cases h:c
 ·rw [if_pos h] at x ⊢; exact f x
 ·rw [if_neg h] at x ⊢; exact g x
theorem mpX {X G:Prop} (f:X→G):X→G:=f
theorem iP {c:Prop} {d:Decidable c} {A B X:Prop} (h:c) (f:X→A):X→@ite Prop c d A B:=fun x=>by rw [if_pos h]; exact f x
theorem iN {c:Prop} {d:Decidable c} {A B X:Prop} (h:¬c) (f:X→B):X→@ite Prop c d A B:=fun x=>by rw [if_neg h]; exact f x
theorem iA {a b X:Prop} (h:a) (f:X→b):X→a∧b:=fun x=>⟨h,f x⟩
theorem iB {a b X:Prop} (f:X→b):a∧X→a∧b:=fun x=>⟨x.1,f x.2⟩
theorem kp {c:Prop} {d:Decidable c} {A B:Prop} (h:c) (f:A):@ite Prop c d A B:=by rw [if_pos h]; exact f
theorem kn {c:Prop} {d:Decidable c} {A B:Prop} (h:¬c) (f:B):@ite Prop c d A B:=by rw [if_neg h]; exact f
theorem kzS_of {α:Type} {o:Option α} {a:α} {k:α→Prop} (h:o=some a) (q:k a):kzS o k:=by rw [h]; exact q
theorem kzL_of {o:Option HO} {a:List V} {k:List V→Prop} (h:o=some (.lst a)) (q:k a):kzL o k:=by rw [h]; exact q
theorem gup {T:Tb} {c:Nat} {G:Hp} {a dx:Addr} {vs:List V} (h:vs.length≤(keysOf c).length):getV T c (upd G a (T.ob c dx vs) a)=some vs:=by rw [jaa]; exact jae h
theorem iFs {T:Tb} {c:Nat} {G:Hp} {a dx:Addr} {vs ws:List V} {i:Nat} {y:V} {P:Hp→Prop} {X:Prop} (h:vs.length≤(keysOf c).length) (hi:i≤vs.length) (e:putAt vs i y=ws) (f:X→P (upd G a (T.ob c dx ws))):X→kzS (getV T c (upd G a (T.ob c dx vs) a)) fun us=>i≤us.length∧P (setV T c (upd G a (T.ob c dx vs)) a (putAt us i y)):=fun x=>by
 rw [gup h]
 refine ⟨hi,?_⟩
 rw [setV_upd,e]; exact f x
theorem iFo {T:Tb} {c:Nat} {H:Hp} {a dx:Addr} {vs ws:List V} {i:Nat} {y:V} {P:Hp→Prop} {X:Prop} (h0:H a=some (T.ob c dx vs)) (h:vs.length≤(keysOf c).length) (hi:i≤vs.length) (e:putAt vs i y=ws) (f:X→P (upd H a (T.ob c dx ws))):X→kzS (getV T c (H a)) fun us=>i≤us.length∧P (setV T c H a (putAt us i y)):=fun x=>by
 rw [h0,jae h]
 refine ⟨hi,?_⟩
 rw [jao h0,e]; exact f x
local macro_rules | `(tactic| simp_arith [$ls,*]) => do
  let r ← `(tactic| exact rfl)
  let k ← `(tactic| exact Nat.le_of_ble_eq_true rfl)
  let mut acc := r
  let mut ac2 := r
  let mut lb := ls
  for l in ls.getElems do
    let t : Lean.Term := ⟨l.raw[2]⟩
    let n := t.raw.getId.toString
    unless n.startsWith "sp_" || n.startsWith "m_" || n.endsWith "injEq" do
      acc ← `(tactic| first | exact $t | $acc:tactic)
      if t.raw.getNumArgs == 2 then ac2 ← `(tactic| first | (have h := $t; with_reducible exact h) | $ac2:tactic)
  for x in "Bool.not_true Bool.not_false Bool.false_eq_true not_false_eq_true".splitOn " " do lb := lb.push ⟨← `(Lean.Parser.Tactic.simpLemma| $(Lean.mkIdent x.toName):ident)⟩
  let a ← `(tactic| with_reducible $acc:tactic)
  let z ← `(tactic| first | $a:tactic | $ac2:tactic)
  let q ← `(tactic| (simp only [$lb,*]; done))
  let mut st ← `(tactic| first | (apply iFs; ($k:tactic); ($k:tactic); (dsimp only [putAt]; $r:tactic)) | (apply iFo; ($a:tactic); ($k:tactic); ($k:tactic); (dsimp only [putAt]; $r:tactic)))
  for n in ["iS","iL","iU","iD"] do st ← `(tactic| first | $st:tactic | (apply $(Lean.mkIdent n.toName); ($z:tactic)))
  `(tactic| (apply mpX; (focus ((repeat' (first | $st:tactic | (apply iP; (first | with_reducible $r:tactic | $q:tactic)) | (apply iN; (first | with_reducible exact Bool.false_ne_true | $q:tactic)) | apply iI | (apply iA; (first | $a:tactic | $r:tactic | $k:tactic)) | apply iB)); all_goals try exact id))))
local macro_rules | `(tactic| simp_arith! only [$ls,*]) => `(tactic| (simp_arith [$ls,*]; try simp only [$ls,*]))
local macro_rules | `(tactic| simp_arith only [$ls,*] $[$loc]?) => do
  let ls0 := ls
  let mut ls := ls
  for l in ls0.getElems do
    let t : Lean.Term := ⟨l.raw[2]⟩
    if t.raw.getId.toString.startsWith "sp_" then ls := ls.push ⟨← `(Lean.Parser.Tactic.simpLemma| ↓callP_eq (sp:=$t _ _))⟩
  for i in [0:79] do ls := ls.push ⟨← `(Lean.Parser.Tactic.simpLemma| ↓$(Lean.mkIdent s!"kq{i}".toName):ident)⟩
  for x in "MG.wp tSeq tNext tRet tRetN tDrop tAsg gName tIfS tFor iList iTup iRng1 iRng2 iVals iZipT iEnum tLc tLock tLockE tVar tC tOp tTest tYes tB tNot tNotV tAnd tOr tAndV tOrV tIf tChain tCall tCB tCons tNil tBM tAug ipI tTup tLst tDGet tDIn tDNotIn tDGet1 tDGet2 tDPop1 sDPut tDNewK gSub rSetL tSl tPart tMake rFld rI0 rI rEq rNe rIxH rIxU rLenH rLenD rInU rMax2 rAnyH rIsN rNotN rNeP rAdd rSub rAppend rExtend rExtU rPopAt rCat rRep rListD L2.start and_assoc exi exi2 eqr conj3 List.length_nil List.length_append List.replicate List.append_nil Option.some.injEq V.int.injEq V.ref.injEq V.bl.injEq List.cons.injEq and_true true_and exists_eq_left' exists_eq_left exists_eq exists_eq' and_self exists_eq_right putAt if_true if_false Bool.false_eq_true scal_ii decide_eq_true_eq Nat.sub_zero Nat.sub_self Nat.reduceSub Nat.reduceAdd exists_and_left exists_const ite_true ite_false reduceCtorEq false_and exists_false not_false_eq_true flatV wipe Lo.put_ne Lo.put_same ne_eq woV poV phV ssV peV ruV akV opV jaa jae setV_upd keysOf List.zip_nil_right Nat.reduceLeDiff Nat.zero_le Nat.le_refl List.all_cons List.all_nil Bool.and_self Bool.and_true Bool.true_and kV kl1 kl2 kl3 kl4 kl5 kl6 kl7 kl8 kl9 kl10 kl11 kzV kzS kzE kzR kzI kzB kzL kzU kzD kzO kzP kzQ kzW kzA kzV_m kzS_m kzR_m kzI_m kzB_m kzL_m kzU_m kzD_m kzO_m kzP_m kzQ_m kzW_m kzA_m".splitOn " " do ls := ls.push ⟨← `(Lean.Parser.Tactic.simpLemma| $(Lean.mkIdent x.toName):ident)⟩
  let q ← `(tactic| simp -dsimp only [$ls,*] $[$loc]?)
  if loc.isSome then return q
  `(tactic| (simp_arith [$ls0,*]; try $q:tactic))
noncomputable def sp_within (K:W.Frag) (T:Tb):Sp:=fun vs H Q _=>kzW vs fun x a b=>Q (.bl (Vbcnad.within x a b)) H
noncomputable def m_within (K:W.Frag) (T:Tb):MB:=(.cons (.ret (.chn .LtE .LtE (rI0 fun i j=>.bl (decide (i≤j))) (rI0 fun i j=>.bl (decide (i≤j))) (.var 1) (.var 0) (.var 2)))
  .nil)
theorem w_within {K:W.Frag} {T:Tb}:Wk K T (sp_within K T) (m_within K T) ["x","least","most"]:=by
 intro vs H Q E h
 obtain ⟨x,a,b,rfl,q⟩:=kzW_m.mp h
 simp_arith only [m_within]
 unfold Vbcnad.within at q
 by_cases h:a≤x
 ·rw [if_pos h]; rw [decide_eq_true h,Bool.true_and] at q; exact q
 ·rw [if_neg h]; rw [decide_eq_false h,Bool.false_and] at q; exact q
noncomputable def sp_is_host (K:W.Frag) (T:Tb):Sp:=fun vs H Q _=>kzQ vs fun x=>Q (.bl (Vbcnad.isHost x)) H
noncomputable def m_is_host (K:W.Frag) (T:Tb):MB:=(.cons (.ret (.bol true (.call "within" (sp_within K T) (.cons (.var 0) (.cons (.int 1) (.cons (.glo "MOST_HOST" (.int 281474976710655)) .nil)))) (.cons (.cmp .Eq rEq (.op .Mod (rI (fun _ j=>0 < j) fun i j=>.int (i % j)) (.op .FloorDiv (rI CDivB fun i j=>.int (i / j)) (.var 0) (.glo "HOST_STEP" (.int 1099511627776))) (.int 2)) (.int 0)) .nil)))
  .nil)
theorem w_is_host {K:W.Frag} {T:Tb}:Wk K T (sp_is_host K T) (m_is_host K T) ["x"]:=by
 intro vs H Q E h
 obtain ⟨x,rfl,q⟩:=kzQ_m.mp h
 simp_arith only [m_is_host,sp_within]
 unfold Vbcnad.isHost at q
 rw [show ((2:Int) ^ 48 - 1)=281474976710655 from by decide] at q
 by_cases h:Vbcnad.within x 1 281474976710655=true
 ·rw [if_pos h]
  rw [h,Bool.true_and] at q
  refine ⟨⟨by decide,by decide +kernel⟩,by decide,?_⟩
  have e:decide (x / 1099511627776 % 2=0)=(x.toNat / 2 ^ 40 % 2 == 0):=by
   have h0:0≤x:=by
    unfold Vbcnad.within at h
    simp only [Bool.and_eq_true,decide_eq_true_eq] at h
    omega
   obtain ⟨n,rfl⟩:=Int.eq_ofNat_of_zero_le h0
   rw [Bool.eq_iff_iff]
   simp only [Int.toNat_natCast,decide_eq_true_eq,beq_iff_eq]
   show ((n:Int) / ((1099511627776:Nat):Int) % ((2:Nat):Int)=((0:Nat):Int))↔_
   rw [← Int.natCast_ediv,← Int.natCast_emod]
   show ((n / 1099511627776 % 2:Nat):Int)=((0:Nat):Int)↔n / 1099511627776 % 2=0
   omega
  rw [e]; exact q
 ·rw [if_neg h]
  rw [Bool.not_eq_true] at h
  rw [h,Bool.false_and] at q; exact q
noncomputable def sp_is_who (K:W.Frag) (T:Tb):Sp:=fun vs H Q _=>kzQ vs fun x=>Q (.bl (Vbcnad.isId x)) H
noncomputable def m_is_who (K:W.Frag) (T:Tb):MB:=(.cons (.ret (.call "within" (sp_within K T) (.cons (.var 0) (.cons (.int 0) (.cons (.glo "MOST_WHO" (.int 4294967295)) .nil)))))
  .nil)
theorem w_is_who {K:W.Frag} {T:Tb}:Wk K T (sp_is_who K T) (m_is_who K T) ["x"]:=by
 intro vs H Q E h
 obtain ⟨x,rfl,q⟩:=kzQ_m.mp h
 exact q
noncomputable def sp_is_secret (K:W.Frag) (T:Tb):Sp:=fun vs H Q _=>kzQ vs fun x=>Q (.bl (Vbcnad.isSecret x)) H
noncomputable def m_is_secret (K:W.Frag) (T:Tb):MB:=(.cons (.ret (.call "within" (sp_within K T) (.cons (.var 0) (.cons (.int 0) (.cons (.glo "MOST_SECRET" (.int 2305843009213693950)) .nil)))))
  .nil)
theorem w_is_secret {K:W.Frag} {T:Tb}:Wk K T (sp_is_secret K T) (m_is_secret K T) ["x"]:=by
 intro vs H Q E h
 obtain ⟨x,rfl,q⟩:=kzQ_m.mp h
 exact q
noncomputable def sp_is_group (K:W.Frag) (T:Tb):Sp:=fun vs H Q _=>kzQ vs fun x=>Q (.bl (Vbcnad.within x 0 63)) H
noncomputable def m_is_group (K:W.Frag) (T:Tb):MB:=(.cons (.ret (.call "within" (sp_within K T) (.cons (.var 0) (.cons (.int 0) (.cons (.glo "MOST_GROUP" (.int 63)) .nil)))))
  .nil)
theorem w_is_group {K:W.Frag} {T:Tb}:Wk K T (sp_is_group K T) (m_is_group K T) ["x"]:=by
 intro vs H Q E h
 obtain ⟨x,rfl,q⟩:=kzQ_m.mp h
 exact q
noncomputable def sp_is_choice (K:W.Frag) (T:Tb):Sp:=fun vs H Q _=>kzQ vs fun x=>Q (.bl (Vbcnad.within x 0 1)) H
noncomputable def m_is_choice (K:W.Frag) (T:Tb):MB:=(.cons (.ret (.call "within" (sp_within K T) (.cons (.var 0) (.cons (.int 0) (.cons (.int 1) .nil)))))
  .nil)
theorem w_is_choice {K:W.Frag} {T:Tb}:Wk K T (sp_is_choice K T) (m_is_choice K T) ["x"]:=by
 intro vs H Q E h
 obtain ⟨x,rfl,q⟩:=kzQ_m.mp h
 exact q
noncomputable def Rgs (K:W.Frag) (b:Addr) (rs:List (Int×Int)):Prop:=∃ as:List Addr,(∀ H,SqT K H b (as.map V.ref))∧as.length=rs.length∧∀ (i:Nat) (a:Addr) (r:Int×Int),as[i]? = some a→rs[i]? = some r→∀ H,SqT K H a [V.int r.1,V.int r.2]
inductive sp_all_within (K:W.Frag) (T:Tb) (vs:List V) (H:Hp) (Q:VK) (E0:XK):Prop | mk (a b:Addr) (zs:List Int) (rs:List (Int×Int)) (_:vs=[.ref a,.ref b]) (_:H a=some (.lst (zs.map V.int))) (_:Rgs K b rs) (_:zs.length=rs.length) (_:∀ H',Same H H'→Q (.bl ((zs.zip rs).all fun z=>Vbcnad.within z.1 z.2.1 z.2.2)) H')
noncomputable def m_all_within (K:W.Frag) (T:Tb):MB:=(.cons (.for_ (.pair 2 3) (.zipLT (.var 0) (.var 1)) (.cons (.if_ (.not_ (.call "within" (sp_within K T) (.cons (.var 2) (.cons (.ix (rIxT K) (.var 3) (.int 0)) (.cons (.ix (rIxT K) (.var 3) (.int 1)) .nil))))) (.cons (.ret (.bl false))
  .nil) .nil)
  .nil))
  (.cons (.ret (.bl true))
  .nil))
theorem zip_take {zs:List Int} {rs:List (Int×Int)} {i:Nat} {z:Int} {r:Int×Int} (h1:zs[i]? = some z) (h2:rs[i]? = some r):(zs.zip rs).take (i+1)=(zs.zip rs).take i ++ [(z,r)]:=by
 have e:(zs.zip rs)[i]? = some (z,r):=by
  rw [List.getElem?_zip_eq_some]; exact ⟨h1,h2⟩
 rw [List.take_add_one,e]; rfl
theorem w_all_within {K:W.Frag} {T:Tb}:Wk K T (sp_all_within K T) (m_all_within K T) ["row","ranges","x","ends"]:=by
 intro vs H Q E h
 obtain ⟨a,b,zs,rs,rfl,ha,⟨as,hb,hl,hr⟩,hz,q⟩:=h
 have hi:∀ (i:Nat) (z:Int) (r:Int×Int),zs[i]? = some z→rs[i]? = some r→Vbcnad.within z r.1 r.2=false→(zs.zip rs).all (fun z=>Vbcnad.within z.1 z.2.1 z.2.2)=false:=by
  intro i z r h1 h2 h3
  rw [List.all_eq_false]
  exact ⟨(z,r),List.mem_of_getElem? (List.getElem?_zip_eq_some.mpr ⟨h1,h2⟩),by simp [h3]⟩
 simp_arith only [m_all_within]
 refine ⟨zs.map V.int,.inl (.inl ha),as.map V.ref,hb H,?_⟩
 refine forZ (K:=K) (a:=a) (b:=b) (xs:=zs.map V.int) (ys:=as.map V.ref)
  (fun i σ H'=>Same H H'∧(∃ v v',σ=[some (.ref a),some (.ref b),v,v'])∧((zs.zip rs).take i).all (fun z=>Vbcnad.within z.1 z.2.1 z.2.2)=true)
  ⟨Same.rfl',⟨none,none,rfl⟩,rfl⟩ (fun i σ H' ⟨e,_,_⟩=>⟨.inl (.inl (e _ _ ha)),hb H'⟩) ?_ ?_
 ·rintro i x y t σ H' hx hy ⟨e,⟨v,v',rfl⟩,hall⟩ ht
  rw [List.getElem?_map] at hx hy
  obtain ⟨z,hz1,rfl⟩:=Option.map_eq_some_iff.mp hx
  obtain ⟨c,hc1,rfl⟩:=Option.map_eq_some_iff.mp hy
  obtain ⟨r,hr1⟩:∃ r,rs[i]? = some r:=⟨_,List.getElem?_eq_getElem (by rw [← hl]; exact (List.getElem?_eq_some_iff.mp hc1).1)⟩
  have hc:=hr i c r hc1 hr1
  refine ⟨t,[V.int z,V.ref c],rfl,.inl (.inl jaa),rfl,V.int z,[V.ref c],rfl,V.ref c,[],rfl,rfl,?_⟩
  refine ⟨c,_,0,_,rfl,rfl,hc _,atI_0,c,_,1,_,rfl,rfl,hc _,atI_1,?_⟩
  simp_arith only [and_assoc]
  have e2:Same H (upd H' t (.tup [V.int z,V.ref c])):=e.trans (Same.fresh ht)
  by_cases hw:Vbcnad.within z r.1 r.2=true
  ·simp only [hw,Bool.not_true,Bool.false_eq_true,if_false]
   refine ⟨e2,?_⟩
   rw [zip_take hz1 hr1,List.all_append,hall]
   simp [hw]
  ·rw [Bool.not_eq_true] at hw
   simp only [hw,Bool.not_false,if_true]
   have:=q _ e2
   rw [hi i z r hz1 hr1 hw] at this
   exact this
 ·rintro σ H' ⟨e,_,hall⟩
  have:=q H' e
  rw [List.take_of_length_le (by rw [List.length_zip,List.length_map,List.length_map]; omega)] at hall
  rw [hall] at this
  exact this
inductive sp_keyed_sum (K:W.Frag) (T:Tb) (vs:List V) (H:Hp) (Q:VK) (E0:XK):Prop | mk (s c:Nat) (_:vs=[.int s,.int c]) (_:s < 2 ^ 64) (_:c < 2 ^ 64) (_:Q (.int (Vbcnad.keyed s c)) H)
noncomputable def m_keyed_sum (K:W.Frag) (T:Tb):MB:=(.cons (.set 2 (.op .Mod (rI (fun _ j=>0 < j) fun i j=>.int (i % j)) (.op .Add (rI0 fun i j=>.int (i+j)) (.var 0) (.var 1)) (.glo "SUM_MODULUS" (.int 2305843009213693951))))
  (.cons (.for_ (.name 3) (.rng2 (.int 1) (.int 5)) (.cons (.set 2 (.op .Mod (rI (fun _ j=>0 < j) fun i j=>.int (i % j)) (.op .Add (rI0 fun i j=>.int (i+j)) (.op .Add (rI0 fun i j=>.int (i+j)) (.op .Mult (rI CMul fun i j=>.int (i * j)) (.var 2) (.var 2)) (.op .Mult (rI CMul fun i j=>.int (i * j)) (.var 3) (.var 1))) (.var 0)) (.glo "SUM_MODULUS" (.int 2305843009213693951))))
  .nil))
  (.cons (.ret (.var 2))
  .nil)))
noncomputable def kr (s c:Nat):Nat→Nat
 | 0=>(s+c) % Vbcnad.P61
 | i+1=>Vbcnad.round s c (i+1) (kr s c i)
theorem kr_lt (s c i:Nat):kr s c i < 2 ^ 64:=by
 have h:∀ x,x % Vbcnad.P61 < 2 ^ 64:=fun x=>Nat.lt_trans (Nat.mod_lt x (by decide)) (by decide)
 cases i <;> exact h _
theorem w_keyed_sum {K:W.Frag} {T:Tb}:Wk K T (sp_keyed_sum K T) (m_keyed_sum K T) ["secret","challenge","x","k"]:=by
 intro vs H Q E h
 obtain ⟨s,c,rfl,hs,hc,q⟩:=h
 have eP:(2305843009213693951:Int)=((Vbcnad.P61:Nat):Int):=rfl
 simp_arith only [m_keyed_sum]
 refine ⟨by decide,by decide,by decide,by decide,by decide,?_⟩
 refine forR (lo:=1) (n:=4) (fun i σ H'=>H'=H∧∃ v,σ=[some (.int s),some (.int c),some (.int (kr s c i)),v]) ⟨rfl,none,?_⟩ ?_ ?_
 ·rw [eP,← Int.natCast_add,← Int.natCast_emod]; rfl
 ·rintro i σ H' hi ⟨rfl,v,rfl⟩
  have hk:=kr_lt s c i
  simp_arith only [and_assoc]
  refine ⟨.inl ⟨by omega,by omega⟩,.inr ⟨by omega,by omega⟩,by decide,?_⟩
  have e:((kr s c i:Int) * (kr s c i)+(1+(i:Int)) * c+s) % 2305843009213693951=((kr s c (i+1):Nat):Int):=by
   rw [eP]
   show _=(((kr s c i * kr s c i+(i+1) * c+s) % Vbcnad.P61:Nat):Int)
   rw [Int.natCast_emod,Int.natCast_add,Int.natCast_add,Int.natCast_mul,Int.natCast_mul,Int.natCast_add,Int.add_comm (1:Int)]
   rfl
  exact e
 ·rintro σ H' ⟨rfl,v,rfl⟩
  exact q
section
variable {T:Tb} {loc loc':Lo} {F F' H H':Hp} {s s':VS} {r r0 r1:Ro} {p:Nat} {f:Vbcnad.Port→Vbcnad.Port} {y:Vbcnad.Port}
theorem ch_len {α:Type} {f:α→α}:∀ {l:List α} {p:Nat},(Vbcnad.changeAt l p f).length=l.length
 | [],_=>rfl
 | _ :: _,0=>rfl
 | _ :: l,p+1=>congrArg (· + 1) (ch_len (l:=l) (p:=p))
theorem ch_get {α:Type} {f:α→α}:∀ {l:List α} {p q:Nat},(Vbcnad.changeAt l p f)[q]? = if q=p then l[q]?.map f else l[q]?
 | [],p,q=>by simp [Vbcnad.changeAt]
 | x :: l,0,0=>by simp [Vbcnad.changeAt]
 | x :: l,0,q+1=>by simp [Vbcnad.changeAt]
 | x :: l,p+1,0=>by simp [Vbcnad.changeAt]
 | x :: l,p+1,q+1=>by
  show (Vbcnad.changeAt l p f)[q]? = _
  rw [ch_get]
  simp
theorem jaj {α:Type} {f:α→α} {l:List α} {p:Nat} {y:α} (h:l[p]? = some y):(Vbcnad.changeAt l p f)[p]? = some (f y):=by rw [ch_get,if_pos rfl,h]; rfl
theorem ch_ne {α:Type} {f:α→α} {l:List α} {p q:Nat} (h:q≠p):(Vbcnad.changeAt l p f)[q]? = l[q]? := by rw [ch_get,if_neg h]
theorem lt_ch {α:Type} {f:α→α} {l:List α} {p q:Nat} (h:q < (Vbcnad.changeAt l p f).length):q < l.length:=by rw [ch_len] at h; exact h
theorem jac (h:s.ports[p]? = some y):Vbcnad.portAt s p=y:=by
 unfold Vbcnad.portAt
 rw [List.getD_eq_getElem?_getD,h]; rfl
theorem ja2 (h:s.ports[p]? = some y):p < s.ports.length:=(List.getElem?_eq_some_iff.mp h).1
theorem jan (h:p < s.ports.length):∃ y,s.ports[p]? = some y:=⟨_,List.getElem?_eq_getElem h⟩
theorem Rep.w (R:Rep T loc F H s):getV T 7 (H (loc .W))=some (woV loc s):=R.cell .W
theorem Rep.pl (R:Rep T loc F H s):H (loc .PL)=some (.lst ((List.range s.ports.length).map fun p=>.ref (loc (.po p)))):=R.cell .PL
theorem Rep.po (R:Rep T loc F H s) (h:s.ports[p]? = some y):getV T 1 (H (loc (.po p)))=some (poV loc p y):=R.cell (.po p) y h
theorem Rep.st (R:Rep T loc F H s) (h:s.ports[p]? = some y):getV T 0 (H (loc (.st p)))=some (phV y.phase):=R.cell (.st p) y h
theorem Rep.se (R:Rep T loc F H s) {x:Vbcnad.Sess} (h:s.ports[p]? = some y) (hx:y.sess=some x):getV T 2 (H (loc (.se p)))=some (ssV x):=R.cell (.se p) y x h hx
theorem Rep.kd (R:Rep T loc F H s):H (loc .KD)=some (.dK (s.asks.map fun a=>(Sum.inl (a.n:Int),V.ref (loc (.ak a.n))))):=R.cell .KD
theorem Rep.at_pl (R:Rep T loc F H s) (h:p < s.ports.length):atI ((List.range s.ports.length).map fun p=>V.ref (loc (.po p))) (p:Int)=some (.ref (loc (.po p))):=by
 rw [atI_at,List.getElem?_map,List.getElem?_range h]; rfl
theorem Used.port (h:Used (Vbcnad.onPort s p f) r) (hf:∀ y,s.ports[p]? = some y→(f y).sess.isSome=true→y.sess.isSome=true):Used s r:=by
 cases r with
 | po q=>exact lt_ch h
 | st q=>exact lt_ch h
 | se q =>
  obtain ⟨y,x,h1,h2⟩:=h
  have h1:(Vbcnad.changeAt s.ports p f)[q]? = some y:=h1
  by_cases e:q=p
  ·subst e
   rw [ch_get,if_pos rfl] at h1
   obtain ⟨z,hz,rfl⟩:=Option.map_eq_some_iff.mp h1
   have:=hf z hz (by rw [h2]; rfl)
   obtain ⟨u,hu⟩:=Option.isSome_iff_exists.mp this
   exact ⟨z,u,hz,hu⟩
  ·rw [ch_ne e] at h1; exact ⟨y,x,h1,h2⟩
 | _=>exact h
theorem Cell.port (h:Cell T loc H s r) (hp:r≠.po p) (hs:r≠.st p) (he:r≠.se p):Cell T loc H (Vbcnad.onPort s p f) r:=by
 cases r with
 | PL =>
  show H (loc .PL)=some (.lst ((List.range (Vbcnad.changeAt s.ports p f).length).map fun p=>.ref (loc (.po p))))
  rw [ch_len]; exact h
 | po q=>intro y hy; have hy:(Vbcnad.changeAt s.ports p f)[q]? = some y:=hy; rw [ch_ne (fun e=>hp (by rw [e]))] at hy; exact h y hy
 | st q=>intro y hy; have hy:(Vbcnad.changeAt s.ports p f)[q]? = some y:=hy; rw [ch_ne (fun e=>hs (by rw [e]))] at hy; exact h y hy
 | se q=>intro y x hy; have hy:(Vbcnad.changeAt s.ports p f)[q]? = some y:=hy; rw [ch_ne (fun e=>he (by rw [e]))] at hy; exact h y x hy
 | _=>exact h
theorem Cell.portPo (h:Cell T loc H s (.po p)) (hf:∀ y,s.ports[p]? = some y→poV loc p (f y)=poV loc p y):Cell T loc H (Vbcnad.onPort s p f) (.po p):=by
 intro y hy
 have hy:(Vbcnad.changeAt s.ports p f)[p]? = some y:=hy
 rw [ch_get,if_pos rfl] at hy
 obtain ⟨z,hz,rfl⟩:=Option.map_eq_some_iff.mp hy
 rw [hf z hz]; exact h z hz
theorem Cell.portSt (h:Cell T loc H s (.st p)) (hf:∀ y,s.ports[p]? = some y→(f y).phase=y.phase):Cell T loc H (Vbcnad.onPort s p f) (.st p):=by
 intro y hy
 have hy:(Vbcnad.changeAt s.ports p f)[p]? = some y:=hy
 rw [ch_get,if_pos rfl] at hy
 obtain ⟨z,hz,rfl⟩:=Option.map_eq_some_iff.mp hy
 rw [hf z hz]; exact h z hz
theorem Cell.portSe (h:Cell T loc H s (.se p)) (hf:∀ y x,s.ports[p]? = some y→(f y).sess=some x→y.sess=some x):Cell T loc H (Vbcnad.onPort s p f) (.se p):=by
 intro y x hy hx
 have hy:(Vbcnad.changeAt s.ports p f)[p]? = some y:=hy
 rw [ch_get,if_pos rfl] at hy
 obtain ⟨z,hz,rfl⟩:=Option.map_eq_some_iff.mp hy
 exact h z x hz (hf z x hz hx)
theorem Rep.wInt (R:Rep T loc F H s) (n b l:Nat):Rep T loc F (setV T 7 H (loc .W) (woV loc { s with now:=n,book:=b,lost:=l })) { s with now:=n,book:=b,lost:=l }:=by
 obtain ⟨dx,_,e⟩:=jar (vs:=woV loc { s with now:=n,book:=b,lost:=l }) R.w
 rw [e]
 refine R.wr (r0:=.W) trivial (fun r h=>by cases r <;> exact h) ?_ (fun r hr h=>?_)
 ·show getV T 7 (upd H (loc .W) _ (loc .W))=_
  rw [jaa]; exact jae (Nat.le_refl _)
 ·cases r <;> first | exact h | exact absurd rfl hr
theorem Rep.bagSet (R:Rep T loc F H s) {ps:List (Addr×Vbcnad.Msg)} (h:∀ x ∈ ps,H x.1=some (.tup (msgV x.2))):Rep T loc F (upd H (loc .BL) (.lst (ps.map fun x=>.ref x.1))) { s with bag:=ps.map (·.2) }:=by
 refine R.wr (r0:=.BL) trivial (fun r h=>by cases r <;> exact h) ⟨ps,rfl,jaa,fun x hx=>(Kp.soft (R.soft (r:=.BL) trivial)).t _ _ (h x hx)⟩ (fun r hr h=>?_)
 cases r <;> first | exact h | exact absurd rfl hr
theorem Rep.recSet (R:Rep T loc F H s) {ps:List (Addr×(Nat×Nat))} (h:∀ x ∈ ps,H x.1=some (.tup [.int x.2.1,.int x.2.2])):Rep T loc F (upd H (loc .RL) (.lst (ps.map fun x=>.ref x.1))) { s with ended:=ps.map (·.2) }:=by
 refine R.wr (r0:=.RL) trivial (fun r h=>by cases r <;> exact h) ⟨ps,rfl,jaa,fun x hx=>(Kp.soft (R.soft (r:=.RL) trivial)).t _ _ (h x hx)⟩ (fun r hr h=>?_)
 cases r <;> first | exact h | exact absurd rfl hr
theorem Rep.ruleSet (R:Rep T loc F H s) {ps:List (Addr×Vbcnad.Rule)} (h:∀ x ∈ ps,getV T 4 (H x.1)=some (ruV x.2)):Rep T loc F (upd H (loc .UL) (.lst (ps.map fun x=>.ref x.1))) { s with rules:=ps.map (·.2) }:=by
 refine R.wr (r0:=.UL) trivial (fun r h=>by cases r <;> exact h) ⟨ps,rfl,jaa,fun x hx=>(Kp.soft (R.soft (r:=.UL) trivial)).r _ _ (h x hx)⟩ (fun r hr h=>?_)
 cases r <;> first | exact h | exact absurd rfl hr
theorem Rep.begSet (R:Rep T loc F H s) {ps:List (Addr×Vbcnad.Opened)} (h:∀ x ∈ ps,getV T 6 (H x.1)=some (opV x.2)):Rep T loc F (upd H (loc .GL) (.lst (ps.map fun x=>.ref x.1))) { s with opened:=ps.map (·.2) }:=by
 refine R.wr (r0:=.GL) trivial (fun r h=>by cases r <;> exact h) ⟨ps,rfl,jaa,fun x hx=>(Kp.soft (R.soft (r:=.GL) trivial)).o _ _ (h x hx)⟩ (fun r hr h=>?_)
 cases r <;> first | exact h | exact absurd rfl hr
theorem Rep.accSet (R:Rep T loc F H s) {ps:List (Addr×Vbcnad.Account)} (h:∀ x ∈ ps,H x.1=some (.tup [.int x.2.frames,.int x.2.closed.toNat])) :
  Rep T loc F (upd H (loc .AD) (.dK (ps.map fun x=>(Sum.inl (x.2.num:Int),V.ref x.1)))) { s with accounts:=ps.map (·.2) }:=by
 refine R.wr (r0:=.AD) trivial (fun r h=>by cases r <;> exact h) ⟨ps,rfl,jaa,fun x hx=>(Kp.soft (R.soft (r:=.AD) trivial)).t _ _ (h x hx)⟩ (fun r hr h=>?_)
 cases r <;> first | exact h | exact absurd rfl hr
theorem Rep.guestSet (R:Rep T loc F H s) (hy:s.ports[p]? = some y) (v:Nat) :
  Rep T loc F (setV T 1 H (loc (.po p)) [.ref (loc (.st p)),soV loc p y.sess,.int v]) (Vbcnad.onPort s p fun y=>{ y with guest:=v }):=by
 obtain ⟨dx,_,e⟩:=jar (vs:=[.ref (loc (.st p)),soV loc p y.sess,.int v]) (R.po hy)
 rw [e]
 refine R.wr (r0:=.po p) (ja2 hy) (fun r h=>h.port fun _ _ h=>h) ?_ (fun r hr h=>?_)
 ·intro z hz
  have hz:(Vbcnad.changeAt s.ports p _)[p]? = some z:=hz
  rw [jaj hy] at hz; cases hz
  rw [jaa]; exact jae (Nat.le_refl _)
 ·by_cases h1:r=.st p
  ·subst h1; exact h.portSt fun _ _=>rfl
  ·by_cases h2:r=.se p
   ·subst h2; exact h.portSe fun _ _ _ h=>h
   ·exact h.port hr h1 h2
theorem Rep.sessNone (R:Rep T loc F H s) (hy:s.ports[p]? = some y) :
  Rep T loc F (setV T 1 H (loc (.po p)) [.ref (loc (.st p)),.non,.int y.guest]) (Vbcnad.onPort s p fun y=>{ y with sess:=none }):=by
 obtain ⟨dx,_,e⟩:=jar (vs:=[.ref (loc (.st p)),.non,.int y.guest]) (R.po hy)
 rw [e]
 refine R.wr (r0:=.po p) (ja2 hy) (fun r h=>h.port fun _ _ h=>by cases h) ?_ (fun r hr h=>?_)
 ·intro z hz
  have hz:(Vbcnad.changeAt s.ports p _)[p]? = some z:=hz
  rw [jaj hy] at hz; cases hz
  rw [jaa]; exact jae (Nat.le_refl _)
 ·by_cases h1:r=.st p
  ·subst h1; exact h.portSt fun _ _=>rfl
  ·by_cases h2:r=.se p
   ·subst h2; exact h.portSe fun _ _ _ h=>by cases h
   ·exact h.port hr h1 h2
theorem Rep.standSet (R:Rep T loc F H s) (hy:s.ports[p]? = some y) (ph:Vbcnad.Phase):Rep T loc F (setV T 0 H (loc (.st p)) (phV ph)) (Vbcnad.phaseAt s p ph):=by
 obtain ⟨dx,_,e⟩:=jar (vs:=phV ph) (R.st hy)
 rw [e]
 refine R.wr (r0:=.st p) (ja2 hy) (fun r h=>h.port fun _ _ h=>h) ?_ (fun r hr h=>?_)
 ·intro z hz
  have hz:(Vbcnad.changeAt s.ports p _)[p]? = some z:=hz
  rw [jaj hy] at hz; cases hz
  rw [jaa]; exact jae (Nat.le_refl _)
 ·by_cases h1:r=.po p
  ·subst h1; exact h.portPo fun _ _=>rfl
  ·by_cases h2:r=.se p
   ·subst h2; exact h.portSe fun _ _ _ h=>h
   ·exact h.port h1 hr h2
theorem Rep.sessSet (R:Rep T loc F H s) {x:Vbcnad.Sess} (hy:s.ports[p]? = some y) (hx:y.sess=some x) (z:Vbcnad.Sess):Rep T loc F (setV T 2 H (loc (.se p)) (ssV z)) (Vbcnad.onPort s p fun y=>{ y with sess:=some z }):=by
 obtain ⟨dx,_,e⟩:=jar (vs:=ssV z) (R.se hy hx)
 rw [e]
 refine R.wr (r0:=.se p) ⟨y,x,hy,hx⟩ (fun r h=>h.port fun w hw _=>?_) ?_ (fun r hr h=>?_)
 ·rw [hy] at hw; cases hw; rw [hx]; rfl
 ·intro w u hw hu
  have hw:(Vbcnad.changeAt s.ports p _)[p]? = some w:=hw
  rw [jaj hy] at hw; cases hw
  cases hu
  rw [jaa]; exact jae (Nat.le_refl _)
 ·by_cases h1:r=.po p
  ·subst h1
   refine h.portPo fun w hw=>?_
   rw [hy] at hw; cases hw
   unfold poV
   rw [hx]; rfl
  ·by_cases h2:r=.st p
   ·subst h2; exact h.portSt fun _ _=>rfl
   ·exact h.port h1 h2 hr
theorem Rep.mv {d:Addr} {o o1:HO} (R:Rep T loc (upd F d o) H s) (hF:F d=none) (hu:Used s r1) (hne:r1≠r0) (hU:∀ r,Used s' r→r=r0∨Used s r)
  (c1:Cell T (loc.put r0 d) (upd H (loc r1) o1) s' r1) (c0:upd H (loc r1) o1 d=some o→Cell T (loc.put r0 d) (upd H (loc r1) o1) s' r0)
  (hs:∀ r,r≠r0→r≠r1→Cell T loc (upd H (loc r1) o1) s r→Cell T (loc.put r0 d) (upd H (loc r1) o1) s' r):Rep T (loc.put r0 d) F (upd H (loc r1) o1) s':=by
 have hd:∀ r,Used s r→loc r≠d:=fun r h=>R.off d o jaa r h
 have hb:∀ b u,F b=some u→b≠d∧upd F d o b=some u:=fun b u e=>by
  have:b≠d:=jab e hF
  exact ⟨this,by rw [upd_ne this]; exact e⟩
 refine ⟨R.ti,fun b u e=>?_,fun a u e r h=>?_,fun r r' h h' e=>?_,fun r=>?_⟩
 ·obtain ⟨n,e'⟩:=hb b u e
  rw [upd_ne (fun q=>R.off b u e' r1 hu q.symm)]; exact R.fr b u e'
 ·obtain ⟨n,e'⟩:=hb a u e
  by_cases q:r=r0
  ·subst q; rw [Lo.put_same]; exact n.symm
  ·rw [Lo.put_ne q]; exact R.off a u e' r ((hU r h).resolve_left q)
 ·by_cases q:r=r0
  ·by_cases q':r'=r0
   ·rw [q,q']
   ·rw [q,Lo.put_same,Lo.put_ne q'] at e
    exact absurd e.symm (hd r' ((hU r' h').resolve_left q'))
  ·by_cases q':r'=r0
   ·rw [q',Lo.put_same,Lo.put_ne q] at e
    exact absurd e (hd r ((hU r h).resolve_left q))
   ·rw [Lo.put_ne q,Lo.put_ne q'] at e
    exact R.inj r r' ((hU r h).resolve_left q) ((hU r' h').resolve_left q') e
 ·by_cases q:r=r1
  ·subst q; exact c1
  ·by_cases q0:r=r0
   ·subst q0
    refine c0 ?_
    rw [upd_ne (hd r1 hu).symm]
    exact R.fr d o jaa
   ·exact hs r q0 q ((R.cell r).keep (Kp.soft (R.soft hu)) fun h=>upd_ne fun e=>q (R.inj r r1 h hu e))
theorem Rep.recNew {d:Addr} {ps:List (Addr×(Nat×Nat))} (R:Rep T loc (upd F d (.lst (ps.map fun x=>V.ref x.1))) H s) (hF:F d=none) (h:∀ x ∈ ps,H x.1=some (.tup [.int x.2.1,.int x.2.2])) :
  Rep T (loc.put .RL d) F (setV T 7 H (loc .W) (woV (loc.put .RL d) s)) { s with ended:=ps.map (·.2) }:=by
 obtain ⟨dx,_,e⟩:=jar (vs:=woV (loc.put .RL d) s) R.w
 rw [e]
 refine R.mv (r1:=.W) (r0:=.RL) hF trivial (by decide) (fun r h=>by cases r <;> first | exact .inr h | exact .inl rfl) ?_ (fun e=>?_) (fun r h0 h1 h=>?_)
 ·show getV T 7 (upd H (loc .W) _ (loc .W))=_
  rw [jaa]; exact jae (Nat.le_refl _)
 ·refine ⟨ps,rfl,by rw [Lo.put_same]; exact e,fun x hx=>(Kp.soft (R.soft (r:=.W) trivial)).t _ _ (h x hx)⟩
 ·cases r <;> first | exact h | exact absurd rfl h0 | exact absurd rfl h1
theorem Rep.begNew {d:Addr} {ps:List (Addr×Vbcnad.Opened)} (R:Rep T loc (upd F d (.lst (ps.map fun x=>V.ref x.1))) H s) (hF:F d=none) (h:∀ x ∈ ps,getV T 6 (H x.1)=some (opV x.2)) :
  Rep T (loc.put .GL d) F (setV T 7 H (loc .W) (woV (loc.put .GL d) s)) { s with opened:=ps.map (·.2) }:=by
 obtain ⟨dx,_,e⟩:=jar (vs:=woV (loc.put .GL d) s) R.w
 rw [e]
 refine R.mv (r1:=.W) (r0:=.GL) hF trivial (by decide) (fun r h=>by cases r <;> first | exact .inr h | exact .inl rfl) ?_ (fun e=>?_) (fun r h0 h1 h=>?_)
 ·show getV T 7 (upd H (loc .W) _ (loc .W))=_
  rw [jaa]; exact jae (Nat.le_refl _)
 ·refine ⟨ps,rfl,by rw [Lo.put_same]; exact e,fun x hx=>(Kp.soft (R.soft (r:=.W) trivial)).o _ _ (h x hx)⟩
 ·cases r <;> first | exact h | exact absurd rfl h0 | exact absurd rfl h1
theorem Rep.ruleNew {d:Addr} (R:Rep T loc (upd F d (.lst [])) H s) (hF:F d=none) :
  Rep T (loc.put .UL d) F (setV T 7 H (loc .W) (woV (loc.put .UL d) s)) { s with rules:=[] }:=by
 obtain ⟨dx,_,e⟩:=jar (vs:=woV (loc.put .UL d) s) R.w
 rw [e]
 refine R.mv (r1:=.W) (r0:=.UL) hF trivial (by decide) (fun r h=>by cases r <;> first | exact .inr h | exact .inl rfl) ?_ (fun e=>?_) (fun r h0 h1 h=>?_)
 ·show getV T 7 (upd H (loc .W) _ (loc .W))=_
  rw [jaa]; exact jae (Nat.le_refl _)
 ·exact ⟨[],rfl,by rw [Lo.put_same]; exact e,fun x hx=>by cases hx⟩
 ·cases r <;> first | exact h | exact absurd rfl h0 | exact absurd rfl h1
theorem Rep.knownNew {d:Addr} (R:Rep T loc (upd F d (.dK [])) H s) (hF:F d=none) :
  Rep T (loc.put .KD d) F (setV T 7 H (loc .W) (woV (loc.put .KD d) s)) { s with asks:=[] }:=by
 obtain ⟨dx,_,e⟩:=jar (vs:=woV (loc.put .KD d) s) R.w
 rw [e]
 refine R.mv (r1:=.W) (r0:=.KD) hF trivial (by decide) (fun r h=>by cases r <;> first | exact .inr h | exact .inl rfl | (obtain ⟨_,h,_⟩:=h; cases h)) ?_ (fun e=>?_) (fun r h0 h1 h=>?_)
 ·show getV T 7 (upd H (loc .W) _ (loc .W))=_
  rw [jaa]; exact jae (Nat.le_refl _)
 ·unfold Cell
  rw [Lo.put_same]; exact e
 ·cases r <;> first | exact h | exact absurd rfl h0 | exact absurd rfl h1 | (intro a ha; cases ha)
theorem Rep.standNew {dx:Addr} {d:Addr} {ph:Vbcnad.Phase} (R:Rep T loc (upd F d (T.ob 0 dx (phV ph))) H s) (hF:F d=none) (hy:s.ports[p]? = some y) :
  Rep T (loc.put (.st p) d) F (setV T 1 H (loc (.po p)) [.ref d,soV loc p y.sess,.int y.guest]) (Vbcnad.phaseAt s p ph):=by
 obtain ⟨dy,_,e⟩:=jar (vs:=[.ref d,soV loc p y.sess,.int y.guest]) (R.po hy)
 rw [e]
 refine R.mv (r1:=.po p) (r0:=.st p) hF (ja2 hy) (by simp) (fun r h=>.inr (h.port fun _ _ h=>h)) ?_ (fun e=>?_) (fun r h0 h1 h=>?_)
 ·intro z hz
  have hz:(Vbcnad.changeAt s.ports p _)[p]? = some z:=hz
  rw [jaj hy] at hz; cases hz
  have e1:(loc.put (.st p) d) (.po p)=loc (.po p):=Lo.put_ne (by simp)
  rw [e1,jaa,jae (Nat.le_refl _)]
  unfold poV soV
  rw [Lo.put_same]
  cases y.sess <;> simp [Lo.put]
 ·intro z hz
  have hz:(Vbcnad.changeAt s.ports p _)[p]? = some z:=hz
  rw [jaj hy] at hz; cases hz
  rw [Lo.put_same,e]; exact jae (Nat.le_refl _)
 ·have h':Cell T loc (upd H (loc (.po p)) (T.ob 1 dy [.ref d,soV loc p y.sess,.int y.guest])) (Vbcnad.phaseAt s p ph) r:=by
   by_cases h2:r=.se p
   ·subst h2; exact h.portSe fun _ _ _ h=>h
   ·exact h.port h1 h0 h2
  cases r with
  | po q =>
   intro z hz
   have:=h' z hz
   have e1:(loc.put (.st p) d) (.po q)=loc (.po q):=Lo.put_ne (by simp)
   have e2:(loc.put (.st p) d) (.st q)=loc (.st q):=Lo.put_ne (by intro z; cases z; exact h1 rfl)
   have e3:(loc.put (.st p) d) (.se q)=loc (.se q):=Lo.put_ne (by simp)
   rw [e1,this]
   unfold poV soV
   rw [e2,e3]
  | st q =>
   intro z hz
   have e2:(loc.put (.st p) d) (.st q)=loc (.st q):=Lo.put_ne h0
   rw [e2]; exact h' z hz
  | _=>exact h'
theorem Rep.sessNew {dx d:Addr} {x:Vbcnad.Sess} (R:Rep T loc (upd F d (T.ob 2 dx (ssV x))) H s) (hF:F d=none) (hy:s.ports[p]? = some y) :
  Rep T (loc.put (.se p) d) F (setV T 1 H (loc (.po p)) [.ref (loc (.st p)),.ref d,.int y.guest]) (Vbcnad.onPort s p fun y=>{ y with sess:=some x }):=by
 obtain ⟨dy,_,e⟩:=jar (vs:=[.ref (loc (.st p)),.ref d,.int y.guest]) (R.po hy)
 rw [e]
 refine R.mv (r1:=.po p) (r0:=.se p) hF (ja2 hy) (by simp) (fun r h=>?_) ?_ (fun e=>?_) (fun r h0 h1 h=>?_)
 ·by_cases h2:r=.se p
  ·exact .inl h2
  ·refine .inr ?_
   cases r with
   | po q=>exact lt_ch h
   | st q=>exact lt_ch h
   | se q =>
    obtain ⟨z,u,a,b⟩:=h
    have a:(Vbcnad.changeAt s.ports p _)[q]? = some z:=a
    rw [ch_ne (by intro z; subst z; exact h2 rfl)] at a
    exact ⟨z,u,a,b⟩
   | _=>exact h
 ·intro z hz
  have hz:(Vbcnad.changeAt s.ports p _)[p]? = some z:=hz
  rw [jaj hy] at hz; cases hz
  have e1:(loc.put (.se p) d) (.po p)=loc (.po p):=Lo.put_ne (by simp)
  have e2:(loc.put (.se p) d) (.st p)=loc (.st p):=Lo.put_ne (by simp)
  rw [e1,jaa,jae (Nat.le_refl _)]
  unfold poV soV
  rw [e2]
  simp [Lo.put]
 ·intro z u hz hu
  have hz:(Vbcnad.changeAt s.ports p _)[p]? = some z:=hz
  rw [jaj hy] at hz; cases hz
  cases hu
  rw [Lo.put_same,e]; exact jae (Nat.le_refl _)
 ·have h':Cell T loc (upd H (loc (.po p)) (T.ob 1 dy [.ref (loc (.st p)),.ref d,.int y.guest])) (Vbcnad.onPort s p fun y=>{ y with sess:=some x }) r:=by
   by_cases h2:r=.st p
   ·subst h2; exact h.portSt fun _ _=>rfl
   ·exact h.port h1 h2 h0
  cases r with
  | po q =>
   intro z hz
   have:=h' z hz
   have e1:(loc.put (.se p) d) (.po q)=loc (.po q):=Lo.put_ne (by simp)
   have e2:(loc.put (.se p) d) (.st q)=loc (.st q):=Lo.put_ne (by simp)
   have e3:(loc.put (.se p) d) (.se q)=loc (.se q):=Lo.put_ne (by intro z; cases z; exact h1 rfl)
   rw [e1,this]
   unfold poV soV
   rw [e2,e3]
  | se q =>
   intro z u hz hu
   have e2:(loc.put (.se p) d) (.se q)=loc (.se q):=Lo.put_ne h0
   rw [e2]; exact h' z u hz hu
  | _=>exact h'
end
section
variable {T:Tb} {loc loc':Lo} {F F' H H':Hp} {s s':VS}
theorem Rep.make (R:Rep T loc F H s) {x dx:Addr} {c:Nat} {vs:List V} (hx:H x=none) (hd:H dx=none) (ne:dx≠x):Rep T loc (upd F x (T.ob c dx vs)) (upd (upd H dx (.own x)) x (T.ob c dx vs)) s :=
 (R.junk hd).new (by rw [upd_ne ne.symm]; exact hx)
theorem ob_nil {c:Nat} {dx:Addr}:HO.ins (T.cls c) dx []=T.ob c dx []:=by unfold Tb.ob; rw [List.zip_nil_right]
theorem jaq {x dx:Addr} {o:HO} {c:Nat} {vs:List V}:upd (upd (upd H dx o) x (T.ob c dx [])) x (T.ob c dx vs)=upd (upd H dx o) x (T.ob c dx vs):=jbb
theorem Rep.ownSet (R:Rep T loc (upd F x (T.ob c dx us)) H s) (hc:c < 8) (h4:c≠4) (h6:c≠6) (hl:us.length≤(keysOf c).length) (vs:List V):Rep T loc (upd F x (T.ob c dx vs)) (upd H x (T.ob c dx vs)) s:=by
 have:=R.own (a:=x) (o:=T.ob c dx vs) jaa (.ob R.ti hc h4 h6 (jae hl))
 rw [jbb] at this
 exact this
theorem Rep.ownH (R:Rep T loc (upd F x o) H s):H x=some o:=R.fr _ _ jaa
end
theorem tyL {K:W.Frag} {H:Hp} {l:Addr} {xs:List V} (h:H l=some (.lst xs)):tyV K "list" (.ref l) H:=.inl ⟨rfl,xs,.inl (.inl h)⟩
theorem szl:16777216≤sizeLine:=by decide
inductive sp_init_Stand (T:Tb) (vs:List V) (H:Hp) (Q:VK) (E0:XK):Prop | mk (x dx k d) (_:vs=[.ref x,k,d]) (_:H x=some (T.ob 0 dx [])) (_:Q .non (upd H x (T.ob 0 dx [k,d,.int 0,.int 0,.int 0,.int 0,.int 0,.int 0,.int 0])))
noncomputable def m_init_Stand (K:W.Frag) (T:Tb):MB:=(.cons (.fset (.var 0) "kind" 0 0 (.var 1))
  (.cons (.fset (.var 0) "due" 0 1 (.var 2))
  (.cons (.fset (.var 0) "left" 0 2 (.int 0))
  (.cons (.fset (.var 0) "n" 0 3 (.int 0))
  (.cons (.fset (.var 0) "who" 0 4 (.int 0))
  (.cons (.fset (.var 0) "host" 0 5 (.int 0))
  (.cons (.fset (.var 0) "challenge" 0 6 (.int 0))
  (.cons (.fset (.var 0) "x" 0 7 (.int 0))
  (.cons (.fset (.var 0) "first" 0 8 (.int 0))
  .nil)))))))))
theorem w_init_Stand {K:W.Frag} {T:Tb}:Wk K T (sp_init_Stand T) (m_init_Stand K T) ["self","kind","due"]:=by
 intro vs H Q E h
 obtain ⟨x,dx,k,d,rfl,hx,q⟩:=h
 simp_arith only [m_init_Stand,hx,jao hx]
 exact q
inductive sp_init_Session (T:Tb) (vs:List V) (H:Hp) (Q:VK) (E0:XK):Prop | mk (x dx a b c d e f) (_:vs=[.ref x,a,b,c,d,e,f]) (_:H x=some (T.ob 2 dx [])) (_:Q .non (upd H x (T.ob 2 dx [a,b,c,d,e,f,.int 0])))
noncomputable def m_init_Session (K:W.Frag) (T:Tb):MB:=(.cons (.fset (.var 0) "number" 2 0 (.var 1))
  (.cons (.fset (.var 0) "who" 2 1 (.var 2))
  (.cons (.fset (.var 0) "host" 2 2 (.var 3))
  (.cons (.fset (.var 0) "vlan" 2 3 (.var 4))
  (.cons (.fset (.var 0) "until" 2 4 (.var 5))
  (.cons (.fset (.var 0) "again" 2 5 (.var 6))
  (.cons (.fset (.var 0) "frames" 2 6 (.int 0))
  .nil)))))))
theorem w_init_Session {K:W.Frag} {T:Tb}:Wk K T (sp_init_Session T) (m_init_Session K T) ["self","number","who","host","vlan","until","again"]:=by
 intro vs H Q E h
 obtain ⟨x,dx,a,b,c,d,e,f,rfl,hx,q⟩:=h
 simp_arith only [m_init_Session,hx,jao hx]
 exact q
inductive sp_init_Attempt (T:Tb) (vs:List V) (H:Hp) (Q:VK) (E0:XK):Prop | mk (x dx a b c d e) (_:vs=[.ref x,a,b,c,d,e]) (_:H x=some (T.ob 5 dx [])) (_:Q .non (upd H x (T.ob 5 dx [a,b,c,d,e,.non])))
noncomputable def m_init_Attempt (K:W.Frag) (T:Tb):MB:=(.cons (.fset (.var 0) "port" 5 0 (.var 1))
  (.cons (.fset (.var 0) "who" 5 1 (.var 2))
  (.cons (.fset (.var 0) "host" 5 2 (.var 3))
  (.cons (.fset (.var 0) "challenge" 5 3 (.var 4))
  (.cons (.fset (.var 0) "forgotten" 5 4 (.var 5))
  (.cons (.fset (.var 0) "decided" 5 5 .non)
  .nil))))))
theorem w_init_Attempt {K:W.Frag} {T:Tb}:Wk K T (sp_init_Attempt T) (m_init_Attempt K T) ["self","port","who","host","challenge","forgotten"]:=by
 intro vs H Q E h
 obtain ⟨x,dx,a,b,c,d,e,rfl,hx,q⟩:=h
 simp_arith only [m_init_Attempt,hx,jao hx]
 exact q
inductive sp_init_Begun (T:Tb) (vs:List V) (H:Hp) (Q:VK) (E0:XK):Prop | mk (x dx a b c d e) (_:vs=[.ref x,a,b,c,d,e]) (_:H x=some (T.ob 6 dx [])) (_:Q .non (upd H x (T.ob 6 dx [a,b,c,d,e])))
noncomputable def m_init_Begun (K:W.Frag) (T:Tb):MB:=(.cons (.fset (.var 0) "number" 6 0 (.var 1))
  (.cons (.fset (.var 0) "who" 6 1 (.var 2))
  (.cons (.fset (.var 0) "host" 6 2 (.var 3))
  (.cons (.fset (.var 0) "port" 6 3 (.var 4))
  (.cons (.fset (.var 0) "over" 6 4 (.var 5))
  .nil)))))
theorem w_init_Begun {K:W.Frag} {T:Tb}:Wk K T (sp_init_Begun T) (m_init_Begun K T) ["self","number","who","host","port","over"]:=by
 intro vs H Q E h
 obtain ⟨x,dx,a,b,c,d,e,rfl,hx,q⟩:=h
 simp_arith only [m_init_Begun,hx,jao hx]
 exact q
inductive sp_init_Rule (T:Tb) (vs:List V) (H:Hp) (Q:VK) (E0:XK):Prop | mk (x dx l a0 a1 a2 a3 a4 a5 a6 a7) (_:vs=[.ref x,.ref l]) (_:H x=some (T.ob 4 dx [])) (_:H l=some (.lst [a0,a1,a2,a3,a4,a5,a6,a7])) (_:Q .non (upd H x (T.ob 4 dx [a0,a1,a2,a3,a4,a5,a6,a7])))
noncomputable def m_init_Rule (K:W.Frag) (T:Tb):MB:=(.cons (.fset (.var 0) "group" 4 0 (.ix rIxH (.var 1) (.int 0)))
  (.cons (.fset (.var 0) "low" 4 1 (.ix rIxH (.var 1) (.int 1)))
  (.cons (.fset (.var 0) "high" 4 2 (.ix rIxH (.var 1) (.int 2)))
  (.cons (.fset (.var 0) "since" 4 3 (.ix rIxH (.var 1) (.int 3)))
  (.cons (.fset (.var 0) "till" 4 4 (.ix rIxH (.var 1) (.int 4)))
  (.cons (.fset (.var 0) "vlan" 4 5 (.ix rIxH (.var 1) (.int 5)))
  (.cons (.fset (.var 0) "length" 4 6 (.ix rIxH (.var 1) (.int 6)))
  (.cons (.fset (.var 0) "again" 4 7 (.ix rIxH (.var 1) (.int 7)))
  .nil))))))))
theorem w_init_Rule {K:W.Frag} {T:Tb}:Wk K T (sp_init_Rule T) (m_init_Rule K T) ["self","row"]:=by
 intro vs H Q E h
 obtain ⟨x,dx,l,a0,a1,a2,a3,a4,a5,a6,a7,rfl,hx,hl,q⟩:=h
 have ne:l≠x:=ne_of hl hx (by intro z; cases z)
 have e:∀ (i:Nat) (v:V),[a0,a1,a2,a3,a4,a5,a6,a7][i]? = some v→atI [a0,a1,a2,a3,a4,a5,a6,a7] (i:Int)=some v:=fun i v h=>by rw [atI_at]; exact h
 have e0:=e 0 _ rfl
 have e1:=e 1 _ rfl
 have e2:=e 2 _ rfl
 have e3:=e 3 _ rfl
 have e4:=e 4 _ rfl
 have e5:=e 5 _ rfl
 have e6:=e 6 _ rfl
 have e7:=e 7 _ rfl
 simp_arith only [m_init_Rule,hx,jao hx,hl,upd_ne ne,HO.lst.injEq,show ((0:Nat):Int)=0 from rfl,show ((1:Nat):Int)=1 from rfl,show ((2:Nat):Int)=2 from rfl,show ((3:Nat):Int)=3 from rfl,show ((4:Nat):Int)=4 from rfl,show ((5:Nat):Int)=5 from rfl,show ((6:Nat):Int)=6 from rfl,show ((7:Nat):Int)=7 from rfl] at e0 e1 e2 e3 e4 e5 e6 e7 ⊢
 simp_arith only [e0,e1,e2,e3,e4,e5,e6,e7,hl,hx,jao hx,upd_ne ne,HO.lst.injEq]
 exact q
inductive sp_draw (K:W.Frag) (T:Tb) (vs:List V) (H:Hp) (Q:VK) (E0:XK):Prop | mk (loc F s) (_:vs=[.ref (loc .W)]) (_:Rep T loc F H s) (_:∀ H',Rep T loc F H' { s with book:=s.book+1 }→(∀ b o,H b=some o→b≠loc .W→H' b=some o)→Q (.int (s.book+1:Nat)) H')
noncomputable def m_draw (K:W.Frag) (T:Tb):MB:=(.cons (.faug (.var 0) "book" 7 11 .Add rAdd (.int 1))
  (.cons (.ret (.fld (.var 0) "book" 7 11))
  .nil))
theorem w_draw {K:W.Frag} {T:Tb}:Wk K T (sp_draw K T) (m_draw K T) ["world"]:=by
 intro vs H Q E h
 obtain ⟨loc,F,s,rfl,R,q⟩:=h
 have R1:=R.wInt s.now (s.book+1) s.lost
 simp_arith only [m_draw,R.w]
 exact ⟨_,R1.w,_,rfl,q _ R1 (fun b o e n=>by rw [jcn n]; exact e)⟩
inductive sp_send (K:W.Frag) (T:Tb) (vs:List V) (H:Hp) (Q:VK) (E0:XK):Prop | mk (loc F s m a) (_:vs=[.ref (loc .W),.ref a]) (_:Rep T loc F H s) (_:s.cfg.bag≤1024) (_:H a=some (.tup (msgV m))) (_:∀ H',Rep T loc F H' (Vbcnad.send s m)→(∀ b o,H b=some o→b≠loc .W→b≠loc .BL→H' b=some o)→Q .non H')
noncomputable def m_send (K:W.Frag) (T:Tb):MB:=(.cons (.if_ (.cmp .Lt (rI0 fun i j=>.bl (decide (i < j))) (.bif "len" "len" rLenH (.cons (.fld (.var 0) "bag" 7 13) .nil)) (.fld (.var 0) "bag_size" 7 1)) (.cons (.expr (.mth (.fld (.var 0) "bag" 7 13) "append" "list" "list.append" rAppend (.cons (.var 1) .nil)))
  .nil) (.cons (.faug (.var 0) "lost" 7 12 .Add rAdd (.int 1))
  .nil))
  .nil)
theorem w_send {K:W.Frag} {T:Tb}:Wk K T (sp_send K T) (m_send K T) ["world","message"]:=by
 intro vs H Q E h
 obtain ⟨loc,F,s,m,a,rfl,R,hb,ha,q⟩:=h
 obtain ⟨ps,e,h1,h2⟩:=R.cell .BL
 have hl:ps.length=s.bag.length:=by rw [← e,List.length_map]
 simp_arith only [m_send,R.w,h1,HO.lst.injEq,List.length_map]
 unfold Vbcnad.send at q
 by_cases hlt:s.bag.length < s.cfg.bag
 ·rw [if_pos (by omega)]
  rw [if_pos hlt] at q
  have z:=szl
  refine ⟨tyL h1,by omega,?_⟩
  have R1:=R.bagSet (ps:=ps ++ [(a,m)]) (fun x hx=>by
   rcases List.mem_append.mp hx with hx | hx
   ·exact h2 x hx
   ·rw [List.mem_singleton.mp hx]; exact ha)
  rw [List.map_append,List.map_append,e] at R1
  exact q _ R1 (fun b o e _ n=>by rw [upd_ne n]; exact e)
 ·rw [if_neg (by omega)]
  rw [if_neg hlt] at q
  refine q _ (R.wInt s.now s.book (s.lost+1)) (fun b o e n _=>?_)
  rw [jcn n]; exact e
noncomputable def Lk (loc loc':Lo):Prop:=loc' .W=loc .W∧loc' .PL=loc .PL∧∀ p,loc' (.po p)=loc (.po p)
theorem Lk.rfl' {loc:Lo}:Lk loc loc:=⟨rfl,rfl,fun _=>rfl⟩
theorem Lk.trans {a b c:Lo} (h:Lk a b) (h':Lk b c):Lk a c:=⟨h'.1.trans h.1,h'.2.1.trans h.2.1,fun p=>(h'.2.2 p).trans (h.2.2 p)⟩
theorem Lk.st {loc:Lo} {p:Nat} {d:Addr}:Lk loc (loc.put (.st p) d):=⟨Lo.put_ne (by simp),Lo.put_ne (by simp),fun q=>Lo.put_ne (by simp)⟩
theorem Lk.se {loc:Lo} {p:Nat} {d:Addr}:Lk loc (loc.put (.se p) d):=⟨Lo.put_ne (by simp),Lo.put_ne (by simp),fun q=>Lo.put_ne (by simp)⟩
inductive sp_stand_waiting (K:W.Frag) (T:Tb) (vs:List V) (H:Hp) (Q:VK) (E0:XK):Prop | mk (loc F s k) (_:vs=[.ref (loc .W),.int k]) (_:Rep T loc F H s) (_:1≤s.cfg.tries) (_:∀ H' x dx,F x=none→Rep T loc (upd F x (T.ob 0 dx [.int k,.int (s.now+s.cfg.wait:Nat),.int (s.cfg.tries - 1:Nat),.int 0,.int 0,.int 0,.int 0,.int 0,.int 0])) H' s→Q (.ref x) H')
noncomputable def m_stand_waiting (K:W.Frag) (T:Tb):MB:=(.cons (.set 2 (.make "Stand" 0 (sp_init_Stand T) (.cons (.var 1) (.cons (.op .Add (rI0 fun i j=>.int (i+j)) (.fld (.var 0) "now" 7 10) (.fld (.var 0) "wait" 7 2)) .nil))))
  (.cons (.fset (.var 2) "left" 0 2 (.op .Sub (rI0 fun i j=>.int (i - j)) (.fld (.var 0) "tries" 7 3) (.int 1)))
  (.cons (.ret (.var 2))
  .nil)))
theorem w_stand_waiting {K:W.Frag} {T:Tb}:Wk K T (sp_stand_waiting K T) (m_stand_waiting K T) ["world","kind","stand"]:=by
 intro vs H Q E h
 obtain ⟨loc,F,s,k,rfl,R,ht,q⟩:=h
 have et:(s.cfg.tries:Int) - 1=((s.cfg.tries - 1:Nat):Int):=by omega
 simp_arith only [m_stand_waiting,R.w,ob_nil]
 intro x dx hx hd ne
 refine ⟨_,dx,_,_,rfl,jaa,?_⟩
 have R1:=R.make (c:=0) (vs:=[.int k,.int (s.now+s.cfg.wait),.int 0,.int 0,.int 0,.int 0,.int 0,.int 0,.int 0]) hx hd ne
 simp_arith only [jaq,R1.w,et]
 rw [← jbb (o:=T.ob 0 dx [.int k,.int (s.now+s.cfg.wait),.int 0,.int 0,.int 0,.int 0,.int 0,.int 0,.int 0])]
 exact q _ x dx (R.free hx) (R1.ownSet (by decide) (by decide) (by decide) (Nat.le_refl _) _)
inductive sp_ask_anew (K:W.Frag) (T:Tb) (vs:List V) (H:Hp) (Q:VK) (E0:XK):Prop | mk (loc F s p y) (_:vs=[.ref (loc .W),.ref (loc (.po p))]) (_:Rep T loc F H s) (_:s.ports[p]? = some y) (_:1≤s.cfg.tries) (_:∀ H' d,Rep T (loc.put (.st p) d) F H' (Vbcnad.phaseAt s p (Vbcnad.askingAt s))→Q .non H')
noncomputable def m_ask_anew (K:W.Frag) (T:Tb):MB:=(.cons (.fset (.var 1) "stand" 1 0 (.call "stand_waiting" (sp_stand_waiting K T) (.cons (.var 0) (.cons (.glo "ASKING" (.int 1)) .nil))))
  .nil)
theorem w_ask_anew {K:W.Frag} {T:Tb}:Wk K T (sp_ask_anew K T) (m_ask_anew K T) ["world","port"]:=by
 intro vs H Q E h
 obtain ⟨loc,F,s,p,y,rfl,R,hy,ht,q⟩:=h
 simp_arith only [m_ask_anew]
 refine ⟨loc,F,s,_,rfl,R,ht,fun H' x dx hx R1=>?_⟩
 simp_arith only [R1.po hy]
 exact q _ x (R1.standNew hx hy (ph:=Vbcnad.askingAt s))
inductive sp_end_session (K:W.Frag) (T:Tb) (vs:List V) (H:Hp) (Q:VK) (E0:XK):Prop | mk (loc F s p y) (_:vs=[.ref (loc .W),.ref (loc (.po p))]) (_:Rep T loc F H s) (_:s.ports[p]? = some y) (_:s.ended.length < 10000000) (_:∀ H',Rep T loc F H' (Vbcnad.endAt s p)→Q .non H')
noncomputable def m_end_session (K:W.Frag) (T:Tb):MB:=(.cons (.set 2 (.fld (.var 1) "session" 1 1))
  (.cons (.if_ (.cmp .IsNot rNotN (.var 2) .non) (.cons (.expr (.mth (.fld (.var 0) "records" 7 14) "append" "list" "list.append" rAppend (.cons (.tup (.cons (.fld (.var 2) "number" 2 0) (.cons (.fld (.var 2) "frames" 2 6) .nil))) .nil)))
  (.cons (.fset (.var 1) "session" 1 1 .non)
  .nil)) .nil)
  .nil))
theorem w_end_session {K:W.Frag} {T:Tb}:Wk K T (sp_end_session K T) (m_end_session K T) ["world","port","session"]:=by
 intro vs H Q E h
 obtain ⟨loc,F,s,p,y,rfl,R,hy,hl,q⟩:=h
 unfold Vbcnad.endAt at q
 rw [jac hy] at q
 obtain ⟨ps,e,h1,h2⟩:=R.cell .RL
 cases hx:y.sess with
 | none =>
  rw [hx] at q
  simp_arith! only [m_end_session,R.po hy,soV,hx,decide_true,Bool.not_true]
  exact q _ R
 | some x =>
  rw [hx] at q
  simp_arith only [m_end_session,R.po hy,R.w,R.se hy hx,soV,hx,decide_false,Bool.not_false,h1,HO.lst.injEq]
  have z:=szl
  refine ⟨tyL h1,by omega,fun t ht=>?_⟩
  have R1:=R.junk (o:=.tup [.int x.num,.int x.frames]) ht
  have h1':upd H t (HO.tup [.int x.num,.int x.frames]) (loc .RL)=some (.lst (ps.map fun x=>.ref x.1)):=by rw [upd_ne (R.ne_new (r:=.RL) ht trivial)]; exact h1
  have hpl:ps.length=s.ended.length:=by rw [← e,List.length_map]
  refine ⟨_,h1',by rw [List.length_map]; omega,?_⟩
  have R2:=R1.recSet (ps:=ps ++ [(t,(x.num,x.frames))]) (fun x hx=>by
   rcases List.mem_append.mp hx with hx | hx
   ·rw [upd_ne (jab (h2 x hx) ht)]; exact h2 x hx
   ·rw [List.mem_singleton.mp hx]; exact jaa)
  rw [List.map_append,List.map_append,e] at R2
  refine ⟨_,R2.po hy,Nat.le_add_left 1 2,?_⟩
  exact q _ (R2.sessNone hy)
section
variable {T:Tb} {loc loc':Lo} {F F' H H':Hp} {s s':VS} {p:Nat} {y:Vbcnad.Port}
theorem ch_ch {α:Type} {f g:α→α}:∀ {l:List α} {p:Nat},Vbcnad.changeAt (Vbcnad.changeAt l p f) p g=Vbcnad.changeAt l p (fun x=>g (f x))
 | [],_=>rfl
 | _ :: _,0=>rfl
 | x :: l,p+1=>congrArg (x :: ·) (ch_ch (l:=l) (p:=p))
theorem onPort2 {f g:Vbcnad.Port→Vbcnad.Port}:Vbcnad.onPort (Vbcnad.onPort s p f) p g=Vbcnad.onPort s p (fun x=>g (f x)):=by
 unfold Vbcnad.onPort
 rw [ch_ch]
theorem jap (hy:s.ports[p]? = some y):(Vbcnad.endAt s p).ports[p]? = some { y with sess:=none }:=by
 unfold Vbcnad.endAt
 rw [jac hy]
 cases hx:y.sess with
 | none=>rw [hy,← hx]
 | some x=>exact jaj hy
theorem jaw:(Vbcnad.endAt s p).cfg=s.cfg:=by
 unfold Vbcnad.endAt
 split <;> rfl
theorem jbf:(Vbcnad.endAt s p).now=s.now:=by
 unfold Vbcnad.endAt
 split <;> rfl
theorem endAt_held:Vbcnad.heldAt (Vbcnad.endAt s p)=Vbcnad.heldAt s:=by
 unfold Vbcnad.heldAt; rw [jaw,jbf]
theorem ja0:Vbcnad.askingAt (Vbcnad.endAt s p)=Vbcnad.askingAt s:=by
 unfold Vbcnad.askingAt; rw [jaw,jbf]
end
inductive sp_hold_port (K:W.Frag) (T:Tb) (vs:List V) (H:Hp) (Q:VK) (E0:XK):Prop | mk (loc F s p y) (_:vs=[.ref (loc .W),.ref (loc (.po p))]) (_:Rep T loc F H s) (_:s.ports[p]? = some y) (_:∀ H' d,Rep T (loc.put (.st p) d) F H' (Vbcnad.phaseAt s p (Vbcnad.heldAt s))→Q .non H')
noncomputable def m_hold_port (K:W.Frag) (T:Tb):MB:=(.cons (.fset (.var 1) "stand" 1 0 (.make "Stand" 0 (sp_init_Stand T) (.cons (.glo "HELD" (.int 5)) (.cons (.op .Add (rI0 fun i j=>.int (i+j)) (.fld (.var 0) "now" 7 10) (.fld (.var 0) "hold" 7 4)) .nil))))
  .nil)
theorem w_hold_port {K:W.Frag} {T:Tb}:Wk K T (sp_hold_port K T) (m_hold_port K T) ["world","port"]:=by
 intro vs H Q E h
 obtain ⟨loc,F,s,p,y,rfl,R,hy,q⟩:=h
 simp_arith only [m_hold_port,R.w,ob_nil]
 intro x dx hx hd ne
 refine ⟨_,dx,_,_,rfl,jaa,?_⟩
 have R1:=R.make (c:=0) (vs:=[.int 5,.int (s.now+s.cfg.hold),.int 0,.int 0,.int 0,.int 0,.int 0,.int 0,.int 0]) hx hd ne
 simp_arith only [jaq,R1.po hy]
 exact q _ x (R1.standNew (R.free hx) hy (ph:=Vbcnad.heldAt s))
inductive sp_come_to_nothing (K:W.Frag) (T:Tb) (vs:List V) (H:Hp) (Q:VK) (E0:XK):Prop | mk (loc F s p y) (_:vs=[.ref (loc .W),.ref (loc (.po p))]) (_:Rep T loc F H s) (_:s.ports[p]? = some y) (_:∀ H' d,Rep T (loc.put (.st p) d) F H' (Vbcnad.given s p)→Q .non H')
noncomputable def m_come_to_nothing (K:W.Frag) (T:Tb):MB:=(.cons (.set 2 (.fld (.var 1) "session" 1 1))
  (.cons (.if_ (.cmp .Is rIsN (.var 2) .non) (.cons (.expr (.call "hold_port" (sp_hold_port K T) (.cons (.var 0) (.cons (.var 1) .nil))))
  .nil) (.cons (.fset (.var 1) "stand" 1 0 (.make "Stand" 0 (sp_init_Stand T) (.cons (.glo "INSIDE" (.int 7)) (.cons (.int 0) .nil))))
  (.cons (.fset (.var 2) "again" 2 5 (.op .Add (rI0 fun i j=>.int (i+j)) (.fld (.var 0) "now" 7 10) (.fld (.var 0) "hold" 7 4)))
  .nil)))
  .nil))
theorem w_come_to_nothing {K:W.Frag} {T:Tb}:Wk K T (sp_come_to_nothing K T) (m_come_to_nothing K T) ["world","port","session"]:=by
 intro vs H Q E h
 obtain ⟨loc,F,s,p,y,rfl,R,hy,q⟩:=h
 unfold Vbcnad.given at q
 rw [jac hy] at q
 cases hx:y.sess with
 | none =>
  rw [hx] at q
  simp_arith only [m_come_to_nothing,R.po hy,soV,hx,decide_true,Bool.not_true]
  exact ⟨loc,F,s,p,y,rfl,R,hy,q⟩
 | some x =>
  rw [hx] at q
  simp_arith only [m_come_to_nothing,R.po hy,soV,hx,decide_false,ob_nil]
  intro d dx hd hdx ne
  refine ⟨_,dx,_,_,rfl,jaa,?_⟩
  have R1:=R.make (c:=0) (vs:=[.int 7,.int 0,.int 0,.int 0,.int 0,.int 0,.int 0,.int 0,.int 0]) hd hdx ne
  have R2:=R1.standNew (R.free hd) hy (ph:=.inside)
  have e1:(Vbcnad.phaseAt s p .inside).ports[p]? = some { y with phase:=.inside }:=jaj hy
  have hw:=R2.w
  have hs:=R2.se e1 hx
  have R3:=R2.sessSet e1 hx { x with again:=s.now+s.cfg.hold }
  simp_arith only [hx,soV] at hw hs R3
  simp_arith only [jaq,R1.po hy,soV,hx]
  simp_arith only [hw,hs]
  unfold Vbcnad.phaseAt at R3
  rw [onPort2] at R3
  exact q _ d R3
inductive sp_deny (K:W.Frag) (T:Tb) (vs:List V) (H:Hp) (Q:VK) (E0:XK):Prop | mk (loc F s p y) (_:vs=[.ref (loc .W),.ref (loc (.po p))]) (_:Rep T loc F H s) (_:s.ports[p]? = some y) (_:s.ended.length < 10000000) (_:∀ H' d,Rep T (loc.put (.st p) d) F H' (Vbcnad.denied s p)→Q .non H')
noncomputable def m_deny (K:W.Frag) (T:Tb):MB:=(.cons (.expr (.call "end_session" (sp_end_session K T) (.cons (.var 0) (.cons (.var 1) .nil))))
  (.cons (.expr (.call "hold_port" (sp_hold_port K T) (.cons (.var 0) (.cons (.var 1) .nil))))
  .nil))
theorem w_deny {K:W.Frag} {T:Tb}:Wk K T (sp_deny K T) (m_deny K T) ["world","port"]:=by
 intro vs H Q E h
 obtain ⟨loc,F,s,p,y,rfl,R,hy,hl,q⟩:=h
 simp_arith only [m_deny]
 refine ⟨loc,F,s,p,y,rfl,R,hy,hl,fun H1 R1=>?_⟩
 refine ⟨loc,F,_,p,_,rfl,R1,jap hy,fun H2 d R2=>?_⟩
 rw [endAt_held] at R2
 exact q _ d R2
inductive sp_put_out (K:W.Frag) (T:Tb) (vs:List V) (H:Hp) (Q:VK) (E0:XK):Prop | mk (loc F s p y) (_:vs=[.ref (loc .W),.ref (loc (.po p))]) (_:Rep T loc F H s) (_:s.ports[p]? = some y) (_:s.ended.length < 10000000) (_:1≤s.cfg.tries) (_:∀ H' loc',Lk loc loc'→Rep T loc' F H' (Vbcnad.putOut s p)→Q .non H')
theorem kd_inside {ph:Vbcnad.Phase}:kd ph=7↔ph=.inside:=by cases ph <;> simp [kd]
noncomputable def m_put_out (K:W.Frag) (T:Tb):MB:=(.cons (.expr (.call "end_session" (sp_end_session K T) (.cons (.var 0) (.cons (.var 1) .nil))))
  (.cons (.if_ (.cmp .Eq rEq (.fld (.fld (.var 1) "stand" 1 0) "kind" 0 0) (.glo "INSIDE" (.int 7))) (.cons (.expr (.call "ask_anew" (sp_ask_anew K T) (.cons (.var 0) (.cons (.var 1) .nil))))
  .nil) .nil)
  .nil))
theorem w_put_out {K:W.Frag} {T:Tb}:Wk K T (sp_put_out K T) (m_put_out K T) ["world","port"]:=by
 intro vs H Q E h
 obtain ⟨loc,F,s,p,y,rfl,R,hy,hl,ht,q⟩:=h
 simp_arith only [m_put_out]
 refine ⟨loc,F,s,p,y,rfl,R,hy,hl,fun H1 R1=>?_⟩
 have hy1:=jap hy
 simp_arith only [R1.po hy1,R1.st hy1,kd_inside]
 unfold Vbcnad.putOut at q
 simp only [jac hy1] at q
 by_cases h:y.phase=.inside
 ·rw [if_pos h]
  rw [if_pos h] at q
  exact ⟨loc,F,_,p,_,rfl,R1,hy1,by rw [jaw]; exact ht,fun H2 d R2=>q _ _ Lk.st R2⟩
 ·rw [if_neg h]
  rw [if_neg h] at q
  exact q _ _ Lk.rfl' R1
noncomputable def NP (s:VS) (n p:Nat):Prop :=
 (∃ m ∈ s.bag,∃ a v l g,m=Vbcnad.Msg.yes p a n v l g)∨(∃ a ∈ s.asks,a.port=p∧∃ v l g,a.reply=some (.yes n v l g))∨∃ y x,s.ports[p]? = some y∧y.sess=some x∧x.num=n
noncomputable def MOk (n:Nat):Vbcnad.Msg→Prop
 | .hello p _ _ _=>p < n
 | .ask p _ _=>p < n
 | .yes p _ _ _ _ _=>p < n
 | .no p _=>p < n
 | _=>True
structure WF (k:Nat) (s:VS):Prop where
 on:s.on=true
 cb:s.cfg.bag≤1024
 ct:1≤s.cfg.tries
 ca:s.cfg.asks≤256
 cr:s.cfg.records≤1024
 pl:s.ports.length≤64
 bg:s.bag.length≤s.cfg.bag
 inn:∀ (p:Nat) (y:Vbcnad.Port),s.ports[p]? = some y→y.phase=.inside→y.sess≠none
 le:Vbcnad.living s+s.ended.length≤1024
 ps:s.persons.Pairwise fun a b=>a.id < b.id
 pn:s.persons.length≤256
 pg:∀ x ∈ s.persons,x.groups.Pairwise (· < ·)∧∀ g ∈ x.groups,g < 64
 pi:∀ x ∈ s.persons,x.id≤4294967295∧x.secret < 2 ^ 61
 rn:s.rules.length≤64
 rg:∀ r ∈ s.rules,r.group < 64
 an:(s.asks.map (·.n)).Nodup
 al:s.asks.length≤s.cfg.asks
 ap:∀ a ∈ s.asks,a.port < s.ports.length∧a.c≤s.book
 bk:s.book≤k
 ol:s.opened.length≤s.book
 cl:s.accounts.length≤k
 cn:(s.accounts.map (·.num)).Nodup
 ms:∀ m ∈ s.bag,MOk s.ports.length m
 np:∀ n p q,NP s n p→NP s n q→p=q
 nb:∀ n p,NP s n p→n≤s.book
noncomputable def Post (T:Tb) (loc:Lo) (F:Hp) (Q:VK) (r:VS×List Int):Prop:=∀ H' loc' l,F l=none→Lk loc loc'→Rep T loc' (upd F l (.lst (r.2.map V.int))) H' r.1→Q (.ref l) H'
structure Pre (T:Tb) (loc:Lo) (F H:Hp) (s:VS):Prop where
 R:Rep T loc F H s
 W:∃ k,k≤400∧WF k s
section
variable {T:Tb} {loc loc':Lo} {F F' H H':Hp} {s s':VS} {y:Vbcnad.Port} {Q:VK}
theorem Post.ret {zs:List Int} (q:Post T loc F Q (s',zs)) (hk:Lk loc loc') (R:Rep T loc' F H s'):∀ l,H l=none→Q (.ref l) (upd H l (.lst (zs.map V.int))) :=
 fun l hl=>q _ loc' l (R.free hl) hk (R.new hl)
theorem Post.eq {r r':VS×List Int} (q:Post T loc F Q r) (e:r=r'):Post T loc F Q r':=e ▸ q
theorem jah (s:VS) (p:Int):Vbcnad.isPort s p=false∨∃ (n:Nat) (y:Vbcnad.Port),p=n∧s.ports[n]? = some y∧Vbcnad.isPort s p=true:=by
 cases h:Vbcnad.isPort s p with
 | false=>exact .inl rfl
 | true =>
  refine .inr ?_
  unfold Vbcnad.isPort Vbcnad.within at h
  simp only [Bool.and_eq_true,decide_eq_true_eq] at h
  obtain ⟨n,rfl⟩:=Int.eq_ofNat_of_zero_le h.1
  have hn:n < s.ports.length:=by omega
  exact ⟨n,s.ports[n],rfl,List.getElem?_eq_getElem hn,rfl⟩
theorem Rep.ix (R:Rep T loc F H s) {n:Nat} (h:s.ports[n]? = some y):atI ((List.range s.ports.length).map fun p=>V.ref (loc (.po p))) (n:Int)=some (.ref (loc (.po n))):=R.at_pl (ja2 h)
theorem WF.ended {k:Nat} (W:WF k s):s.ended.length < 10000000:=by have:=W.le; omega
theorem jag {p:Int}:Vbcnad.within p 0 ((s.ports.length:Int) - 1)=Vbcnad.isPort s p:=rfl
theorem one_sz:1≤sizeLine:=by decide
theorem two_sz:2≤sizeLine:=by decide
end
noncomputable def sp_is_port (K:W.Frag) (T:Tb):Sp:=fun vs H Q _=>kzA vs fun a p=>kzS (getV T 7 (H a)) fun ws=>kzE ws[0]? fun v=>kzR v fun b=>kzL (H b) fun xs=>Q (.bl (Vbcnad.within p 0 ((xs.length:Int) - 1))) H
noncomputable def m_is_port (K:W.Frag) (T:Tb):MB:=(.cons (.ret (.call "within" (sp_within K T) (.cons (.var 1) (.cons (.int 0) (.cons (.op .Sub (rI0 fun i j=>.int (i - j)) (.bif "len" "len" rLenH (.cons (.fld (.var 0) "ports" 7 0) .nil)) (.int 1)) .nil)))))
  .nil)
theorem w_is_port {K:W.Frag} {T:Tb}:Wk K T (sp_is_port K T) (m_is_port K T) ["world","place"]:=by
 intro vs H Q E h
 obtain ⟨a,p,rfl,h⟩:=kzA_m.mp h
 obtain ⟨ws,h1,h⟩:=kzS_m.mp h
 obtain ⟨v,h2,h⟩:=kzS_m.mp h
 obtain ⟨b,rfl,h⟩:=kzR_m.mp h
 obtain ⟨xs,h3,q⟩:=kzL_m.mp h
 simp_arith [m_is_port,h1,h2,h3,sp_within,HO.lst.injEq]
 exact q
inductive sp_set_guest (K:W.Frag) (T:Tb) (vs:List V) (H:Hp) (Q:VK) (E0:XK):Prop | mk (loc F s p v) (_:vs=[.ref (loc .W),.int p,.int v]) (_:Pre T loc F H s) (_:Post T loc F Q (Vbcnad.doing s (.guest p v)))
theorem kd_guest {ph:Vbcnad.Phase}:kd ph=6↔ph=.guest:=by cases ph <;> simp [kd]
theorem kd_down {ph:Vbcnad.Phase}:kd ph=0↔ph=.down:=by cases ph <;> simp [kd]
noncomputable def m_set_guest (K:W.Frag) (T:Tb):MB:=(.cons (.if_ (.not_ (.call "is_port" (sp_is_port K T) (.cons (.var 0) (.cons (.var 1) .nil)))) (.cons (.ret (.lst (.cons (.neg 1) .nil)))
  .nil) .nil)
  (.cons (.if_ (.not_ (.call "within" (sp_within K T) (.cons (.var 2) (.cons (.int 0) (.cons (.glo "MOST_VLAN" (.int 4094)) .nil))))) (.cons (.ret (.lst (.cons (.neg 2) .nil)))
  .nil) .nil)
  (.cons (.set 3 (.ix rIxH (.fld (.var 0) "ports" 7 0) (.var 1)))
  (.cons (.fset (.var 3) "guest" 1 2 (.var 2))
  (.cons (.if_ (.bol true (.cmp .Eq rEq (.var 2) (.int 0)) (.cons (.cmp .Eq rEq (.fld (.fld (.var 3) "stand" 1 0) "kind" 0 0) (.glo "AS_GUEST" (.int 6))) .nil)) (.cons (.expr (.call "ask_anew" (sp_ask_anew K T) (.cons (.var 0) (.cons (.var 3) .nil))))
  .nil) .nil)
  (.cons (.ret (.lst (.cons (.int 0) .nil)))
  .nil))))))
theorem w_set_guest {K:W.Frag} {T:Tb}:Wk K T (sp_set_guest K T) (m_set_guest K T) ["world","place","vlan","port"]:=by
 intro vs H Q E h
 obtain ⟨loc,F,s,p,v,rfl,⟨R,k,hk,W⟩,q⟩:=h
 (unfold Vbcnad.doing at q; dsimp only at q)
 rcases jah s p with hp | ⟨n,y,rfl,hy,hp⟩
 ·simp_arith! only [m_set_guest,sp_is_port,R.w,R.pl,HO.lst.injEq,List.length_map,List.length_range,jag,hp,Bool.not_false,one_sz]
  rw [if_pos hp] at q
  exact q.ret Lk.rfl' R
 ·rw [if_neg (by rw [hp]; simp)] at q
  simp_arith only [m_set_guest,sp_is_port,sp_within,R.w,R.pl,HO.lst.injEq,List.length_map,List.length_range,jag,hp,Bool.not_true,one_sz,R.ix hy,R.po hy]
  cases hv:Vbcnad.within v 0 4094 with
  | false =>
   rw [if_pos hv] at q
   exact q.ret Lk.rfl' R
  | true =>
   simp_arith only [Bool.not_true]
   rw [if_neg (by rw [hv]; simp)] at q
   obtain ⟨m,rfl⟩:=Int.eq_ofNat_of_zero_le (a:=v) (by unfold Vbcnad.within at hv; simp at hv; exact hv.1)
   simp only [Int.toNat_natCast,jac hy] at q
   have R1:=R.guestSet hy m
   have hy1:(Vbcnad.onPort s n fun y=>{ y with guest:=m }).ports[n]? = some { y with guest:=m }:=jaj hy
   generalize setV T 1 H (loc (.po n)) [.ref (loc (.st n)),soV loc n y.sess,.int m]=H1 at R1 ⊢
   simp_arith only [R1.po hy1,R1.st hy1,kd_guest]
   by_cases h0:(m:Int)=0
   ·by_cases h1:y.phase=.guest
    ·rw [if_pos h0,if_pos h1]
     rw [if_pos ⟨h0,h1⟩] at q
     exact ⟨loc,F,_,n,_,rfl,R1,hy1,W.ct,fun H2 d R2=>⟨one_sz,q.ret Lk.st R2⟩⟩
    ·rw [if_pos h0,if_neg h1]
     rw [if_neg (fun h=>h1 h.2)] at q
     exact q.ret Lk.rfl' R1
   ·rw [if_neg h0]
    rw [if_neg (fun h=>h0 h.1)] at q
    exact q.ret Lk.rfl' R1
inductive sp_plug (K:W.Frag) (T:Tb) (vs:List V) (H:Hp) (Q:VK) (E0:XK):Prop | mk (loc F s p) (_:vs=[.ref (loc .W),.int p]) (_:Pre T loc F H s) (_:Post T loc F Q (Vbcnad.doing s (.plug p)))
noncomputable def m_plug (K:W.Frag) (T:Tb):MB:=(.cons (.if_ (.not_ (.call "is_port" (sp_is_port K T) (.cons (.var 0) (.cons (.var 1) .nil)))) (.cons (.ret (.lst (.cons (.neg 1) .nil)))
  .nil) .nil)
  (.cons (.set 2 (.ix rIxH (.fld (.var 0) "ports" 7 0) (.var 1)))
  (.cons (.if_ (.cmp .NotEq rNe (.fld (.fld (.var 2) "stand" 1 0) "kind" 0 0) (.glo "DOWN" (.int 0))) (.cons (.ret (.lst (.cons (.neg 2) .nil)))
  .nil) .nil)
  (.cons (.expr (.call "ask_anew" (sp_ask_anew K T) (.cons (.var 0) (.cons (.var 2) .nil))))
  (.cons (.ret (.lst (.cons (.int 0) .nil)))
  .nil)))))
theorem w_plug {K:W.Frag} {T:Tb}:Wk K T (sp_plug K T) (m_plug K T) ["world","place","port"]:=by
 intro vs H Q E h
 obtain ⟨loc,F,s,p,rfl,⟨R,k,hk,W⟩,q⟩:=h
 (unfold Vbcnad.doing at q; dsimp only at q)
 rcases jah s p with hp | ⟨n,y,rfl,hy,hp⟩
 ·simp_arith! only [m_plug,sp_is_port,R.w,R.pl,HO.lst.injEq,List.length_map,List.length_range,jag,hp,Bool.not_false,one_sz]
  rw [if_pos hp] at q
  exact q.ret Lk.rfl' R
 ·rw [if_neg (by rw [hp]; simp)] at q
  simp_arith only [m_plug,sp_is_port,sp_within,R.w,R.pl,HO.lst.injEq,List.length_map,List.length_range,jag,hp,Bool.not_true,one_sz,R.ix hy,R.po hy,R.st hy,kd_down,Bool.not_eq_true',decide_eq_false_iff_not]
  simp only [Int.toNat_natCast,jac hy] at q
  by_cases h1:y.phase=.down
  ·rw [if_neg (by simp [h1])]
   rw [if_neg (by simp [h1])] at q
   exact ⟨loc,F,_,n,_,rfl,R,hy,W.ct,fun H2 d R2=>⟨one_sz,q.ret Lk.st R2⟩⟩
  ·rw [if_pos h1]
   rw [if_pos h1] at q
   exact q.ret Lk.rfl' R
inductive sp_unplug (K:W.Frag) (T:Tb) (vs:List V) (H:Hp) (Q:VK) (E0:XK):Prop | mk (loc F s p) (_:vs=[.ref (loc .W),.int p]) (_:Pre T loc F H s) (_:Post T loc F Q (Vbcnad.doing s (.unplug p)))
noncomputable def m_unplug (K:W.Frag) (T:Tb):MB:=(.cons (.if_ (.not_ (.call "is_port" (sp_is_port K T) (.cons (.var 0) (.cons (.var 1) .nil)))) (.cons (.ret (.lst (.cons (.neg 1) .nil)))
  .nil) .nil)
  (.cons (.set 2 (.ix rIxH (.fld (.var 0) "ports" 7 0) (.var 1)))
  (.cons (.if_ (.cmp .Eq rEq (.fld (.fld (.var 2) "stand" 1 0) "kind" 0 0) (.glo "DOWN" (.int 0))) (.cons (.ret (.lst (.cons (.neg 2) .nil)))
  .nil) .nil)
  (.cons (.expr (.call "end_session" (sp_end_session K T) (.cons (.var 0) (.cons (.var 2) .nil))))
  (.cons (.fset (.var 2) "stand" 1 0 (.make "Stand" 0 (sp_init_Stand T) (.cons (.glo "DOWN" (.int 0)) (.cons (.int 0) .nil))))
  (.cons (.ret (.lst (.cons (.int 0) .nil)))
  .nil))))))
theorem w_unplug {K:W.Frag} {T:Tb}:Wk K T (sp_unplug K T) (m_unplug K T) ["world","place","port"]:=by
 intro vs H Q E h
 obtain ⟨loc,F,s,p,rfl,⟨R,k,hk,W⟩,q⟩:=h
 (unfold Vbcnad.doing at q; dsimp only at q)
 rcases jah s p with hp | ⟨n,y,rfl,hy,hp⟩
 ·simp_arith! only [m_unplug,sp_is_port,R.w,R.pl,HO.lst.injEq,List.length_map,List.length_range,jag,hp,Bool.not_false,one_sz]
  rw [if_pos hp] at q
  exact q.ret Lk.rfl' R
 ·rw [if_neg (by rw [hp]; simp)] at q
  simp_arith only [m_unplug,sp_is_port,sp_within,R.w,R.pl,HO.lst.injEq,List.length_map,List.length_range,jag,hp,Bool.not_true,one_sz,R.ix hy,R.po hy,R.st hy,kd_down]
  simp only [Int.toNat_natCast,jac hy] at q
  by_cases h1:y.phase=.down
  ·rw [if_pos h1]
   rw [if_pos h1] at q
   exact q.ret Lk.rfl' R
  ·rw [if_neg h1]
   rw [if_neg h1] at q
   refine ⟨loc,F,_,n,_,rfl,R,hy,W.ended,fun H1 R1=>?_⟩
   simp_arith only [ob_nil]
   intro x dx hx hd ne
   refine ⟨_,dx,_,_,rfl,jaa,?_⟩
   have R2:=R1.make (c:=0) (vs:=[.int 0,.int 0,.int 0,.int 0,.int 0,.int 0,.int 0,.int 0,.int 0]) hx hd ne
   simp_arith only [jaq,R2.po (jap hy),one_sz]
   exact q.ret Lk.st (R2.standNew (R1.free hx) (jap hy) (ph:=.down))
inductive sp_bye (K:W.Frag) (T:Tb) (vs:List V) (H:Hp) (Q:VK) (E0:XK):Prop | mk (loc F s p h) (_:vs=[.ref (loc .W),.int p,.int h]) (_:Pre T loc F H s) (_:Post T loc F Q (Vbcnad.doing s (.bye p h)))
noncomputable def m_bye (K:W.Frag) (T:Tb):MB:=(.cons (.if_ (.not_ (.call "is_port" (sp_is_port K T) (.cons (.var 0) (.cons (.var 1) .nil)))) (.cons (.ret (.lst (.cons (.neg 1) .nil)))
  .nil) .nil)
  (.cons (.set 3 (.ix rIxH (.fld (.var 0) "ports" 7 0) (.var 1)))
  (.cons (.if_ (.bol false (.cmp .Is rIsN (.fld (.var 3) "session" 1 1) .non) (.cons (.cmp .NotEq rNe (.fld (.fld (.var 3) "session" 1 1) "host" 2 2) (.var 2)) .nil)) (.cons (.ret (.lst (.cons (.neg 2) .nil)))
  .nil) .nil)
  (.cons (.expr (.call "end_session" (sp_end_session K T) (.cons (.var 0) (.cons (.var 3) .nil))))
  (.cons (.expr (.call "ask_anew" (sp_ask_anew K T) (.cons (.var 0) (.cons (.var 3) .nil))))
  (.cons (.ret (.lst (.cons (.int 0) .nil)))
  .nil))))))
theorem w_bye {K:W.Frag} {T:Tb}:Wk K T (sp_bye K T) (m_bye K T) ["world","place","host","port"]:=by
 intro vs H Q E h
 obtain ⟨loc,F,s,p,h,rfl,⟨R,k,hk,W⟩,q⟩:=h
 (unfold Vbcnad.doing at q; dsimp only at q)
 rcases jah s p with hp | ⟨n,y,rfl,hy,hp⟩
 ·simp_arith! only [m_bye,sp_is_port,R.w,R.pl,HO.lst.injEq,List.length_map,List.length_range,jag,hp,Bool.not_false,one_sz]
  rw [if_pos hp] at q
  exact q.ret Lk.rfl' R
 ·rw [if_neg (by rw [hp]; simp)] at q
  simp only [Int.toNat_natCast,jac hy] at q
  cases hx:y.sess with
  | none =>
   simp_arith only [m_bye,sp_is_port,sp_within,R.w,R.pl,HO.lst.injEq,List.length_map,List.length_range,jag,hp,Bool.not_true,one_sz,R.ix hy,R.po hy,soV,hx,decide_true]
   rw [hx,if_pos (by rfl)] at q
   exact q.ret Lk.rfl' R
  | some x =>
   simp_arith only [m_bye,sp_is_port,sp_within,R.w,R.pl,HO.lst.injEq,List.length_map,List.length_range,jag,hp,Bool.not_true,one_sz,R.ix hy,R.po hy,R.se hy hx,soV,hx,decide_false,Bool.not_eq_true',decide_eq_false_iff_not]
   by_cases h1:(x.hw:Int)=h
   ·rw [if_neg (by simp [h1])]
    rw [hx,if_neg (by simp [h1])] at q
    refine ⟨loc,F,_,n,_,rfl,R,hy,W.ended,fun H1 R1=>?_⟩
    refine ⟨loc,F,_,n,_,rfl,R1,jap hy,by rw [jaw]; exact W.ct,fun H2 d R2=>?_⟩
    rw [ja0] at R2
    exact ⟨one_sz,q.ret Lk.st R2⟩
   ·rw [if_pos h1]
    rw [hx,if_pos (by simp [h1])] at q
    exact q.ret Lk.rfl' R
inductive sp_pass_frames (K:W.Frag) (T:Tb) (vs:List V) (H:Hp) (Q:VK) (E0:XK):Prop | mk (loc F s p y x h k) (_:vs=[.ref (loc (.se p)),.int h,.int (k:Nat)]) (_:Rep T loc F H s) (_:s.ports[p]? = some y) (_:y.sess=some x) (_:Post T loc F Q (if (x.hw:Int)≠h then (s,[-5]) else (Vbcnad.onPort s p fun y=>{ y with sess:=some { x with frames:=x.frames+k } },[0,(x.vlan:Int)])))
noncomputable def m_pass_frames (K:W.Frag) (T:Tb):MB:=(.cons (.if_ (.cmp .NotEq rNe (.fld (.var 0) "host" 2 2) (.var 1)) (.cons (.ret (.lst (.cons (.neg 5) .nil)))
  .nil) .nil)
  (.cons (.faug (.var 0) "frames" 2 6 .Add rAdd (.var 2))
  (.cons (.ret (.lst (.cons (.int 0) (.cons (.fld (.var 0) "vlan" 2 3) .nil))))
  .nil)))
theorem w_pass_frames {K:W.Frag} {T:Tb}:Wk K T (sp_pass_frames K T) (m_pass_frames K T) ["session","host","k"]:=by
 intro vs H Q E h
 obtain ⟨loc,F,s,p,y,x,h,k,rfl,R,hy,hx,q⟩:=h
 simp_arith only [m_pass_frames,R.se hy hx,one_sz,two_sz,Bool.not_eq_true',decide_eq_false_iff_not]
 by_cases h1:(x.hw:Int)=h
 ·rw [if_neg (by simp [h1])]
  rw [if_neg (by simp [h1])] at q
  have R1:=R.sessSet hy hx { x with frames:=x.frames+k }
  have e1:=R1.se (jaj hy) rfl
  refine ⟨_,e1,_,rfl,?_⟩
  exact q.ret Lk.rfl' R1
 ·rw [if_pos h1]
  rw [if_pos h1] at q
  exact q.ret Lk.rfl' R
inductive sp_frame (K:W.Frag) (T:Tb) (vs:List V) (H:Hp) (Q:VK) (E0:XK):Prop | mk (loc F s p h k) (_:vs=[.ref (loc .W),.int p,.int h,.int k]) (_:Pre T loc F H s) (_:Post T loc F Q (Vbcnad.doing s (.frame p h k)))
noncomputable def m_frame (K:W.Frag) (T:Tb):MB:=(.cons (.if_ (.not_ (.call "is_port" (sp_is_port K T) (.cons (.var 0) (.cons (.var 1) .nil)))) (.cons (.ret (.lst (.cons (.neg 1) .nil)))
  .nil) .nil)
  (.cons (.if_ (.not_ (.bol true (.call "is_host" (sp_is_host K T) (.cons (.var 2) .nil)) (.cons (.call "within" (sp_within K T) (.cons (.var 3) (.cons (.int 1) (.cons (.glo "MOST_FRAMES" (.int 1000000)) .nil)))) .nil))) (.cons (.ret (.lst (.cons (.neg 2) .nil)))
  .nil) .nil)
  (.cons (.set 4 (.ix rIxH (.fld (.var 0) "ports" 7 0) (.var 1)))
  (.cons (.if_ (.cmp .IsNot rNotN (.fld (.var 4) "session" 1 1) .non) (.cons (.ret (.call "pass_frames" (sp_pass_frames K T) (.cons (.fld (.var 4) "session" 1 1) (.cons (.var 2) (.cons (.var 3) .nil)))))
  .nil) .nil)
  (.cons (.if_ (.cmp .Eq rEq (.fld (.fld (.var 4) "stand" 1 0) "kind" 0 0) (.glo "DOWN" (.int 0))) (.cons (.ret (.lst (.cons (.neg 3) .nil)))
  .nil) .nil)
  (.cons (.if_ (.cmp .Eq rEq (.fld (.fld (.var 4) "stand" 1 0) "kind" 0 0) (.glo "AS_GUEST" (.int 6))) (.cons (.ret (.lst (.cons (.int 0) (.cons (.fld (.var 4) "guest" 1 2) .nil))))
  .nil) .nil)
  (.cons (.ret (.lst (.cons (.neg 4) .nil)))
  .nil)))))))
theorem w_frame {K:W.Frag} {T:Tb}:Wk K T (sp_frame K T) (m_frame K T) ["world","place","host","k","port"]:=by
 intro vs H Q E h
 obtain ⟨loc,F,s,p,h,k,rfl,⟨R,k0,hk,W⟩,q⟩:=h
 (unfold Vbcnad.doing at q; dsimp only at q)
 rcases jah s p with hp | ⟨n,y,rfl,hy,hp⟩
 ·simp_arith! only [m_frame,sp_is_port,R.w,R.pl,HO.lst.injEq,List.length_map,List.length_range,jag,hp,Bool.not_false,one_sz]
  rw [if_pos hp] at q
  exact q.ret Lk.rfl' R
 ·rw [if_neg (by rw [hp]; simp)] at q
  simp only [Int.toNat_natCast,jac hy] at q
  simp_arith only [m_frame,sp_is_port,sp_within,sp_is_host,R.w,R.pl,HO.lst.injEq,List.length_map,List.length_range,jag,hp,Bool.not_true,one_sz,two_sz,R.ix hy,R.po hy,R.st hy,kd_down,kd_guest]
  cases hh:Vbcnad.isHost h with
  | false =>
   rw [hh,if_pos (by rfl)] at q
   exact q.ret Lk.rfl' R
  | true =>
   cases hw:Vbcnad.within k 1 1000000 with
   | false =>
    rw [hh,hw,if_pos (by rfl)] at q
    exact q.ret Lk.rfl' R
   | true =>
    rw [hh,hw,if_neg (by simp)] at q
    obtain ⟨m,rfl⟩:=Int.eq_ofNat_of_zero_le (a:=k) (by unfold Vbcnad.within at hw; simp at hw; omega)
    simp_arith! only [Bool.not_true]
    cases hx:y.sess with
    | none =>
     rw [hx] at q
     by_cases h1:y.phase=.down
     ·rw [if_pos h1]
      simp only [if_pos h1] at q
      exact q.ret Lk.rfl' R
     ·rw [if_neg h1]
      simp only [if_neg h1] at q
      by_cases h2:y.phase=.guest
      ·rw [if_pos h2]
       simp only [if_pos h2] at q
       exact q.ret Lk.rfl' R
      ·rw [if_neg h2]
       simp only [if_neg h2] at q
       exact q.ret Lk.rfl' R
    | some x =>
     rw [hx] at q
     simp_arith only [soV,decide_false,Bool.not_false]
     exact ⟨loc,F,s,n,y,x,_,m,rfl,R,hy,hx,q⟩
section
variable {T:Tb} {loc loc':Lo} {F F' H H':Hp} {s s':VS} {y:Vbcnad.Port} {Q:VK} {p:Nat}
theorem jbj {m:Vbcnad.Msg}:(Vbcnad.send s m).ports=s.ports:=by unfold Vbcnad.send; split <;> rfl
theorem send_cfg {m:Vbcnad.Msg}:(Vbcnad.send s m).cfg=s.cfg:=by unfold Vbcnad.send; split <;> rfl
theorem send_ended {m:Vbcnad.Msg}:(Vbcnad.send s m).ended=s.ended:=by unfold Vbcnad.send; split <;> rfl
theorem send_opened {m:Vbcnad.Msg}:(Vbcnad.send s m).opened=s.opened:=by unfold Vbcnad.send; split <;> rfl
theorem jco {l:List Vbcnad.Msg}:(Vbcnad.sends s l).ports=s.ports:=by
 induction l generalizing s with
 | nil=>rfl
 | cons m l ih=>exact (ih (s:=Vbcnad.send s m)).trans jbj
theorem jbc {l:List Vbcnad.Msg}:(Vbcnad.sends s l).cfg=s.cfg:=by
 induction l generalizing s with
 | nil=>rfl
 | cons m l ih=>exact (ih (s:=Vbcnad.send s m)).trans send_cfg
theorem sends_ended {l:List Vbcnad.Msg}:(Vbcnad.sends s l).ended=s.ended:=by
 induction l generalizing s with
 | nil=>rfl
 | cons m l ih=>exact (ih (s:=Vbcnad.send s m)).trans send_ended
theorem jbd {l l':List Vbcnad.Msg}:Vbcnad.sends s (l ++ l')=Vbcnad.sends (Vbcnad.sends s l) l':=by unfold Vbcnad.sends; rw [List.foldl_append]
theorem take1 {α:Type} {l:List α} {i:Nat} {x:α} (h:l[i]? = some x):l.take (i+1)=l.take i ++ [x]:=by rw [List.take_add_one,h]; rfl
theorem getV_grow {c:Nat} {a:Addr} {vs:List V} (h:getV T c (H a)=some vs) {t:Addr} {o:HO} (ht:H t=none):getV T c (upd H t o a)=some vs:=by
 have:a≠t:=fun e=>by subst e; rw [ht] at h; cases h
 rw [upd_ne this]; exact h
theorem jaf {a:Addr} {u:HO} (h:H a=some u) {t:Addr} {o:HO} (ht:H t=none):upd H t o a=some u:=by
 rw [upd_ne (jab h ht)]; exact h
end
noncomputable def refus (y:Vbcnad.Port) (h:Int):Int:=match y.phase with
 | .down=>-3
 | .held _=>-4
 | .looking ..=>-5
 | .challenged ..=>-5
 | .checking ..=>-5
 | _=>if (y.sess.any fun x=>(x.hw:Int) != h)=true then -6 else 0
inductive sp_say_refusal (K:W.Frag) (T:Tb) (vs:List V) (H:Hp) (Q:VK) (E0:XK):Prop | mk (loc F s p y h) (_:vs=[.ref (loc (.po p)),.int h]) (_:Rep T loc F H s) (_:s.ports[p]? = some y) (_:∀ H',Same H H'→Q (.int (refus y h)) H')
theorem inV3 {i a b c:Int}:inV (.int i) [.int a,.int b,.int c]=(a == i || (b == i || c == i)):=by simp [inV,eqV]
theorem inV2 {i a b:Int}:inV (.int i) [.int a,.int b]=(a == i || b == i):=by simp [inV,eqV]
theorem sz3:3≤sizeLine:=by decide
noncomputable def m_say_refusal (K:W.Frag) (T:Tb):MB:=(.cons (.set 2 (.fld (.fld (.var 0) "stand" 1 0) "kind" 0 0))
  (.cons (.if_ (.cmp .Eq rEq (.var 2) (.glo "DOWN" (.int 0))) (.cons (.ret (.neg 3))
  .nil) .nil)
  (.cons (.if_ (.cmp .Eq rEq (.var 2) (.glo "HELD" (.int 5))) (.cons (.ret (.neg 4))
  .nil) .nil)
  (.cons (.if_ (.cmp .In rInU (.var 2) (.tup (.cons (.glo "LOOKING" (.int 2)) (.cons (.glo "CHALLENGED" (.int 3)) (.cons (.glo "CHECKING" (.int 4)) .nil))))) (.cons (.ret (.neg 5))
  .nil) .nil)
  (.cons (.if_ (.bol true (.cmp .IsNot rNotN (.fld (.var 0) "session" 1 1) .non) (.cons (.cmp .NotEq rNe (.fld (.fld (.var 0) "session" 1 1) "host" 2 2) (.var 1)) .nil)) (.cons (.ret (.neg 6))
  .nil) .nil)
  (.cons (.ret (.int 0))
  .nil))))))
theorem w_say_refusal {K:W.Frag} {T:Tb}:Wk K T (sp_say_refusal K T) (m_say_refusal K T) ["port","host","kind"]:=by
 intro vs H Q E h
 obtain ⟨loc,F,s,p,y,h,rfl,R,hy,q⟩:=h
 unfold refus at q
 simp_arith only [m_say_refusal,R.po hy,R.st hy,inV3,sz3,HO.tup.injEq]
 have hg:∀ t,H t=none→Q (.int (match y.phase with
   | .down=>-3 | .held _=>-4 | .looking ..=>-5 | .challenged ..=>-5 | .checking ..=>-5
   | _=>if (y.sess.any fun x=>(x.hw:Int) != h)=true then -6 else 0)) (upd H t (.tup [.int 2,.int 3,.int 4])):=fun t ht=>q _ (Same.fresh ht)
 have hr:∀ t,H t=none→getV T 1 (upd H t (.tup [.int 2,.int 3,.int 4]) (loc (.po p)))=some (poV loc p y):=fun t ht=>getV_grow (R.po hy) ht
 have hse:∀ x,y.sess=some x→∀ t,H t=none→getV T 2 (upd H t (.tup [.int 2,.int 3,.int 4]) (loc (.se p)))=some (ssV x):=fun x hx t ht=>getV_grow (R.se hy hx) ht
 cases hph:y.phase <;> simp only [hph] at q hg <;> simp_arith! only [kd]
 case a.down=>exact q _ Same.rfl'
 case a.held=>exact q _ Same.rfl'
 case a.looking=>exact fun t ht=>hg t ht
 case a.challenged=>exact fun t ht=>hg t ht
 case a.checking=>exact fun t ht=>hg t ht
 all_goals
  intro t ht
  cases hx:y.sess with
  | none =>
   simp_arith only [hr t ht,hx,soV,decide_true,Bool.not_true,show ((2:Int) == 1)=false from rfl,show ((3:Int) == 1)=false from rfl,show ((4:Int) == 1)=false from rfl,show ((2:Int) == 6)=false from rfl,show ((3:Int) == 6)=false from rfl,show ((4:Int) == 6)=false from rfl,show ((2:Int) == 7)=false from rfl,show ((3:Int) == 7)=false from rfl,show ((4:Int) == 7)=false from rfl,Bool.or_self]
   have:=hg t ht
   rw [hx] at this
   exact this
  | some x =>
   simp_arith only [hr t ht,hse x hx t ht,hx,soV,decide_false,Bool.not_false,Bool.not_eq_true',decide_eq_false_iff_not,show ((2:Int) == 1)=false from rfl,show ((3:Int) == 1)=false from rfl,show ((4:Int) == 1)=false from rfl,show ((2:Int) == 6)=false from rfl,show ((3:Int) == 6)=false from rfl,show ((4:Int) == 6)=false from rfl,show ((2:Int) == 7)=false from rfl,show ((3:Int) == 7)=false from rfl,show ((4:Int) == 7)=false from rfl,Bool.or_self]
   have:=hg t ht
   rw [hx] at this
   by_cases h1:(x.hw:Int)=h
   ·rw [if_neg (by simp [h1])]
    rw [if_neg (by simp [h1])] at this
    exact this
   ·rw [if_pos h1]
    rw [if_pos (by simp [h1])] at this
    exact this
inductive sp_say (K:W.Frag) (T:Tb) (vs:List V) (H:Hp) (Q:VK) (E0:XK):Prop | mk (loc F s p h i) (_:vs=[.ref (loc .W),.int p,.int h,.int i]) (_:Pre T loc F H s) (_:Post T loc F Q (Vbcnad.doing s (.say p h i)))
theorem jbo {h:Int} (hh:Vbcnad.isHost h=true):∃ n:Nat,h=n:=Int.eq_ofNat_of_zero_le (by unfold Vbcnad.isHost Vbcnad.within at hh; simp at hh; omega)
theorem jcr {h:Int} (hh:Vbcnad.isId h=true):∃ n:Nat,h=n:=Int.eq_ofNat_of_zero_le (by unfold Vbcnad.isId Vbcnad.within at hh; simp at hh; omega)
theorem sz5:5≤sizeLine:=by decide
theorem sz4:4≤sizeLine:=by decide
noncomputable def m_say (K:W.Frag) (T:Tb):MB:=(.cons (.if_ (.not_ (.call "is_port" (sp_is_port K T) (.cons (.var 0) (.cons (.var 1) .nil)))) (.cons (.ret (.lst (.cons (.neg 1) .nil)))
  .nil) .nil)
  (.cons (.if_ (.not_ (.bol true (.call "is_host" (sp_is_host K T) (.cons (.var 2) .nil)) (.cons (.call "is_who" (sp_is_who K T) (.cons (.var 3) .nil)) .nil))) (.cons (.ret (.lst (.cons (.neg 2) .nil)))
  .nil) .nil)
  (.cons (.set 4 (.ix rIxH (.fld (.var 0) "ports" 7 0) (.var 1)))
  (.cons (.set 5 (.call "say_refusal" (sp_say_refusal K T) (.cons (.var 4) (.cons (.var 2) .nil))))
  (.cons (.if_ (.cmp .NotEq rNe (.var 5) (.int 0)) (.cons (.ret (.lst (.cons (.var 5) .nil)))
  .nil) .nil)
  (.cons (.set 6 (.call "stand_waiting" (sp_stand_waiting K T) (.cons (.var 0) (.cons (.glo "LOOKING" (.int 2)) .nil))))
  (.cons (.fset (.var 6) "n" 0 3 (.call "draw" (sp_draw K T) (.cons (.var 0) .nil)))
  (.cons (.fset (.var 6) "who" 0 4 (.var 3))
  (.cons (.fset (.var 6) "host" 0 5 (.var 2))
  (.cons (.fset (.var 4) "stand" 1 0 (.var 6))
  (.cons (.expr (.call "send" (sp_send K T) (.cons (.var 0) (.cons (.tup (.cons (.glo "HELLO" (.int 0)) (.cons (.var 1) (.cons (.fld (.var 6) "n" 0 3) (.cons (.var 3) (.cons (.var 2) .nil)))))) .nil))))
  (.cons (.ret (.lst (.cons (.int 0) .nil)))
  .nil))))))))))))
theorem w_say {K:W.Frag} {T:Tb}:Wk K T (sp_say K T) (m_say K T) ["world","place","host","who","port","refusal","stand"]:=by
 intro vs H Q E h
 obtain ⟨loc,F,s,p,h,i,rfl,⟨R,k,hk,W⟩,q⟩:=h
 (unfold Vbcnad.doing at q; dsimp only at q)
 rcases jah s p with hp | ⟨n,y,rfl,hy,hp⟩
 ·simp_arith! only [m_say,sp_is_port,R.w,R.pl,HO.lst.injEq,List.length_map,List.length_range,jag,hp,Bool.not_false,one_sz]
  rw [if_pos hp] at q
  exact q.ret Lk.rfl' R
 ·rw [if_neg (by rw [hp]; simp)] at q
  simp only [Int.toNat_natCast,jac hy] at q
  cases hhs:Vbcnad.isHost h with
  | false =>
   rw [hhs,if_pos (by rfl)] at q
   simp_arith! only [m_say,sp_is_port,sp_within,sp_is_host,sp_is_who,R.w,R.pl,HO.lst.injEq,List.length_map,List.length_range,jag,hp,Bool.not_true,one_sz,two_sz,R.ix hy,R.po hy,R.st hy,hhs,Bool.not_false]
   exact q.ret Lk.rfl' R
  | true =>
   cases hi:Vbcnad.isId i with
   | false =>
    rw [hhs,hi,if_pos (by rfl)] at q
    simp_arith only [m_say,sp_is_port,sp_within,sp_is_host,sp_is_who,R.w,R.pl,HO.lst.injEq,List.length_map,List.length_range,jag,hp,Bool.not_true,one_sz,two_sz,R.ix hy,R.po hy,R.st hy,hhs,hi,Bool.not_false]
    exact q.ret Lk.rfl' R
   | true =>
    rw [hhs,hi,if_neg (by simp)] at q
    simp_arith only [m_say,sp_is_port,sp_within,sp_is_host,sp_is_who,R.w,R.pl,HO.lst.injEq,List.length_map,List.length_range,jag,hp,Bool.not_true,one_sz,two_sz,R.ix hy,R.po hy,R.st hy,hhs,hi]
    obtain ⟨hn,rfl⟩:=jbo hhs
    obtain ⟨id,rfl⟩:=jcr hi
    simp_arith only [Bool.not_true]
    refine ⟨loc,F,s,n,y,_,rfl,R,hy,fun H1 e1=>?_⟩
    have R1:=R.grow e1
    simp only [Int.toNat_natCast] at q
    have e:refus y hn≠0∨refus y hn=0:=by omega
    have eq:(if (match y.phase with
      | .asking _ _=>(0:Int) | .guest=>0 | .inside=>0 | .down=>-3 | .held _=>-4 | _=>-5)≠0 then (s,[match y.phase with
      | .asking _ _=>(0:Int) | .guest=>0 | .inside=>0 | .down=>-3 | .held _=>-4 | _=>-5])
     else if (y.sess.any fun x=>(x.hw:Int) != (hn:Int))=true then (s,[-6])
     else (Vbcnad.send (Vbcnad.phaseAt { s with book:=s.book+1 } n (.looking (s.book+1) id hn (s.cfg.tries - 1) (s.now+s.cfg.wait))) (.hello n (s.book+1) id hn),[0])) =
     if refus y hn=0 then (Vbcnad.send (Vbcnad.phaseAt { s with book:=s.book+1 } n (.looking (s.book+1) id hn (s.cfg.tries - 1) (s.now+s.cfg.wait))) (.hello n (s.book+1) id hn),[0]) else (s,[refus y hn]):=by
     unfold refus
     cases y.phase <;> simp <;> split <;> simp_all
    have q:=q.eq eq
    simp_arith only [Bool.not_eq_true',decide_eq_false_iff_not,one_sz]
    by_cases h0:refus y hn=0
    ·rw [if_neg (by simp [h0])]
     rw [if_pos h0] at q
     refine ⟨loc,F,s,_,rfl,R1,W.ct,fun H2 x dx hx R2=>?_⟩
     simp_arith only [and_true]
     refine ⟨loc,_,s,rfl,R2,fun H3 R3 _=>?_⟩
     simp_arith only [R3.ownH,jao R3.ownH]
     have R4:=R3.ownSet (by decide) (by decide) (by decide) (Nat.le_refl _) (phV (.looking (s.book+1) id hn (s.cfg.tries - 1) (s.now+s.cfg.wait)))
     have R5:=R4.standNew hx hy
     have e4:=R4.po hy
     have e5:=R5.st (jaj hy)
     have e6:=R5.w
     simp_arith only [phV,kd,du,lf,nn,wh,hh,cc,xx,ft] at e4 e5 R5 e6
     simp_arith only [e4]
     generalize setV T 1 _ _ _=H5 at e5 R5 e6 ⊢
     simp_arith only [e5,sz5]
     intro t ht
     refine ⟨loc.put (.st n) x,F,_,.hello n (s.book+1) id hn,t,congrArg (fun w=>[V.ref w,.ref t]) Lk.st.1.symm,R5.junk ht,W.cb,jaa,fun H6 R6 _=>?_⟩
     exact ⟨one_sz,q.ret Lk.st R6⟩
    ·rw [if_pos h0]
     rw [if_neg h0] at q
     exact q.ret Lk.rfl' R1
section
variable {α:Type}
noncomputable def mix (g:α→α) (l:List α) (i:Nat):List α:=(l.take i).map g ++ l.drop i
theorem mix_get {g:α→α} {l:List α} {i:Nat} (h:i≤l.length):(mix g l i)[i]? = l[i]? := by
 unfold mix
 rw [List.getElem?_append_right (by rw [List.length_map,List.length_take]; omega),List.length_map,List.length_take,List.getElem?_drop]
 congr 1
 omega
theorem mix_len {g:α→α} {l:List α} {i:Nat}:(mix g l i).length=l.length:=by
 unfold mix
 rw [List.length_append,List.length_map,List.length_take,List.length_drop]
 omega
theorem mix_step {g f:α→α}:∀ {l:List α} {i:Nat} {y:α},l[i]? = some y→f y=g y→Vbcnad.changeAt (mix g l i) i f=mix g l (i+1)
 | [],i,y,h,_=>by simp at h
 | x :: l,0,y,h,e=>by
  simp at h; subst h
  show f x :: l=g x :: l
  rw [e]
 | x :: l,i+1,y,h,e=>by
  show g x :: Vbcnad.changeAt (mix g l i) i f=g x :: mix g l (i+1)
  rw [mix_step (l:=l) (by simpa using h) e]
end
inductive sp_check_reply (K:W.Frag) (T:Tb) (vs:List V) (H:Hp) (Q:VK) (E0:XK):Prop | mk (loc F s p y n id h c d x) (_:vs=[.ref (loc .W),.ref (loc (.po p)),.int (x:Nat)]) (_:Rep T loc F H s) (_:s.ports[p]? = some y) (_:y.phase=.challenged n id h c d) (_:1≤s.cfg.tries) (_:s.cfg.bag≤1024) (_:∀ H' loc',Lk loc loc'→Rep T loc' F H' (Vbcnad.send (Vbcnad.phaseAt s p (.checking n id h c x s.now (s.cfg.tries - 1) (s.now+s.cfg.wait))) (.answer n c x))→Q .non H')
noncomputable def m_check_reply (K:W.Frag) (T:Tb):MB:=(.cons (.set 3 (.fld (.var 1) "stand" 1 0))
  (.cons (.set 4 (.call "stand_waiting" (sp_stand_waiting K T) (.cons (.var 0) (.cons (.glo "CHECKING" (.int 4)) .nil))))
  (.cons (.fset (.var 4) "n" 0 3 (.fld (.var 3) "n" 0 3))
  (.cons (.fset (.var 4) "who" 0 4 (.fld (.var 3) "who" 0 4))
  (.cons (.fset (.var 4) "host" 0 5 (.fld (.var 3) "host" 0 5))
  (.cons (.fset (.var 4) "challenge" 0 6 (.fld (.var 3) "challenge" 0 6))
  (.cons (.fset (.var 4) "x" 0 7 (.var 2))
  (.cons (.fset (.var 4) "first" 0 8 (.fld (.var 0) "now" 7 10))
  (.cons (.fset (.var 1) "stand" 1 0 (.var 4))
  (.cons (.expr (.call "send" (sp_send K T) (.cons (.var 0) (.cons (.tup (.cons (.glo "ANSWER" (.int 1)) (.cons (.fld (.var 4) "n" 0 3) (.cons (.fld (.var 4) "challenge" 0 6) (.cons (.var 2) .nil))))) .nil))))
  .nil))))))))))
theorem w_check_reply {K:W.Frag} {T:Tb}:Wk K T (sp_check_reply K T) (m_check_reply K T) ["world","port","x","asked","stand"]:=by
 intro vs H Q E h
 obtain ⟨loc,F,s,p,y,n,id,h,c,d,x,rfl,R,hy,hph,ht,hb,q⟩:=h
 simp_arith only [m_check_reply,R.po hy]
 refine ⟨loc,F,s,_,rfl,R,ht,fun H1 a dx ha R1=>?_⟩
 have n1:loc (.st p)≠a:=R1.off a _ jaa (.st p) (ja2 hy)
 have n2:loc .W≠a:=R1.off a _ jaa .W trivial
 have e1:=R1.st hy
 rw [hph] at e1
 simp only [phV,kd,du,lf,nn,wh,hh,cc,xx,ft] at e1
 simp_arith only [e1,R1.ownH,jao R1.ownH,upd_ne n1,upd_ne n2,R1.w]
 have R2:=R1.ownSet (by decide) (by decide) (by decide) (Nat.le_refl _) (phV (.checking n id h c x s.now (s.cfg.tries - 1) (s.now+s.cfg.wait)))
 have R3:=R2.standNew ha hy
 have e2:=R2.po hy
 have e3:=R3.st (jaj hy)
 simp_arith only [phV,kd,du,lf,nn,wh,hh,cc,xx,ft] at e2 e3 R3
 simp_arith only [e2]
 generalize setV T 1 _ _ _=H3 at e3 R3 ⊢
 simp_arith only [e3,sz4]
 intro t ht
 refine ⟨loc.put (.st p) a,F,_,.answer n c x,t,congrArg (fun w=>[V.ref w,.ref t]) Lk.st.1.symm,R3.junk ht,hb,jaa,fun H6 R6 _=>?_⟩
 exact q _ _ Lk.st R6
theorem kd_chal {ph:Vbcnad.Phase}:kd ph=3↔∃ n id h c d,ph=.challenged n id h c d:=by cases ph <;> simp [kd]
inductive sp_reply (K:W.Frag) (T:Tb) (vs:List V) (H:Hp) (Q:VK) (E0:XK):Prop | mk (loc F s p h x) (_:vs=[.ref (loc .W),.int p,.int h,.int x]) (_:Pre T loc F H s) (_:Post T loc F Q (Vbcnad.doing s (.reply p h x)))
noncomputable def m_reply (K:W.Frag) (T:Tb):MB:=(.cons (.if_ (.not_ (.call "is_port" (sp_is_port K T) (.cons (.var 0) (.cons (.var 1) .nil)))) (.cons (.ret (.lst (.cons (.neg 1) .nil)))
  .nil) .nil)
  (.cons (.if_ (.not_ (.bol true (.call "is_host" (sp_is_host K T) (.cons (.var 2) .nil)) (.cons (.call "within" (sp_within K T) (.cons (.var 3) (.cons (.int 0) (.cons (.glo "MOST_REPLY" (.int 4611686018427387904)) .nil)))) .nil))) (.cons (.ret (.lst (.cons (.neg 2) .nil)))
  .nil) .nil)
  (.cons (.set 4 (.ix rIxH (.fld (.var 0) "ports" 7 0) (.var 1)))
  (.cons (.if_ (.cmp .NotEq rNe (.fld (.fld (.var 4) "stand" 1 0) "kind" 0 0) (.glo "CHALLENGED" (.int 3))) (.cons (.ret (.lst (.cons (.neg 3) .nil)))
  .nil) .nil)
  (.cons (.if_ (.cmp .NotEq rNe (.fld (.fld (.var 4) "stand" 1 0) "host" 0 5) (.var 2)) (.cons (.ret (.lst (.cons (.neg 4) .nil)))
  .nil) .nil)
  (.cons (.expr (.call "check_reply" (sp_check_reply K T) (.cons (.var 0) (.cons (.var 4) (.cons (.var 3) .nil)))))
  (.cons (.ret (.lst (.cons (.int 0) .nil)))
  .nil)))))))
theorem w_reply {K:W.Frag} {T:Tb}:Wk K T (sp_reply K T) (m_reply K T) ["world","place","host","x","port"]:=by
 intro vs H Q E h
 obtain ⟨loc,F,s,p,h,x,rfl,⟨R,k,hk,W⟩,q⟩:=h
 (unfold Vbcnad.doing at q; dsimp only at q)
 rcases jah s p with hp | ⟨n,y,rfl,hy,hp⟩
 ·simp_arith! only [m_reply,sp_is_port,R.w,R.pl,HO.lst.injEq,List.length_map,List.length_range,jag,hp,Bool.not_false,one_sz]
  rw [if_pos hp] at q
  exact q.ret Lk.rfl' R
 ·rw [if_neg (by rw [hp]; simp)] at q
  simp only [Int.toNat_natCast,jac hy] at q
  rw [show ((2:Int) ^ 62)=4611686018427387904 from by decide] at q
  simp_arith only [m_reply,sp_is_port,sp_within,sp_is_host,sp_is_who,R.w,R.pl,HO.lst.injEq,List.length_map,List.length_range,jag,hp,Bool.not_true,one_sz,two_sz,R.ix hy,R.po hy,R.st hy,Bool.not_eq_true',decide_eq_false_iff_not]
  cases hhs:Vbcnad.isHost h with
  | false =>
   rw [hhs,if_pos (by rfl)] at q
   exact q.ret Lk.rfl' R
  | true =>
   cases hx:Vbcnad.within x 0 4611686018427387904 with
   | false =>
    rw [hhs,hx,if_pos (by rfl)] at q
    exact q.ret Lk.rfl' R
   | true =>
    rw [hhs,hx,if_neg (by simp)] at q
    obtain ⟨hn,rfl⟩:=jbo hhs
    obtain ⟨xn,rfl⟩:∃ n:Nat,x=n:=Int.eq_ofNat_of_zero_le (by unfold Vbcnad.within at hx; simp at hx; omega)
    simp_arith only [Bool.not_true,Int.toNat_natCast] at q ⊢
    by_cases h3:kd y.phase=3
    ·obtain ⟨m,id,h,c,d,hph⟩:=kd_chal.mp h3
     rw [hph] at q
     rw [if_neg (by simp [h3])]
     have e5:hh y.phase=(h:Int):=by rw [hph]; rfl
     rw [e5]
     by_cases h4:(h:Int)=(hn:Int)
     ·rw [if_neg (by simp [h4])]
      simp only [if_neg (show ¬ ((h:Int)≠(hn:Int)) by simp [h4])] at q
      refine ⟨loc,F,s,n,y,m,id,h,c,d,xn,rfl,R,hy,hph,W.ct,W.cb,fun H1 l' hl R1=>?_⟩
      exact ⟨one_sz,q.ret hl R1⟩
     ·rw [if_pos h4]
      simp only [if_pos (show ((h:Int)≠(hn:Int)) from h4)] at q
      exact q.ret Lk.rfl' R
    ·rw [if_pos h3]
     have:(match y.phase with
      | .challenged n_1 id h c _=>if (h:Int)≠(hn:Int) then (s,[-4]) else (Vbcnad.send (Vbcnad.phaseAt s n (.checking n_1 id h c xn s.now (s.cfg.tries - 1) (s.now+s.cfg.wait))) (.answer n_1 c xn),[0])
      | _=>(s,[-3]))=(s,[-3]):=by
      cases hph:y.phase <;> first | rfl | (rw [hph] at h3; exact absurd rfl h3)
     have q:=q.eq this
     exact q.ret Lk.rfl' R
inductive sp_report (K:W.Frag) (T:Tb) (vs:List V) (H:Hp) (Q:VK) (E0:XK):Prop | mk (loc F s) (_:vs=[.ref (loc .W)]) (_:Pre T loc F H s) (_:Post T loc F Q (Vbcnad.doing s .report))
noncomputable def tellS (x:Vbcnad.Port):Option Vbcnad.Msg:=x.sess.map fun y=>Vbcnad.Msg.count y.num y.frames false
noncomputable def m_report (K:W.Frag) (T:Tb):MB:=(.cons (.for_ (.name 1) (.list (.fld (.var 0) "ports" 7 0)) (.cons (.if_ (.cmp .IsNot rNotN (.fld (.var 1) "session" 1 1) .non) (.cons (.expr (.call "send" (sp_send K T) (.cons (.var 0) (.cons (.tup (.cons (.glo "COUNT" (.int 2)) (.cons (.fld (.fld (.var 1) "session" 1 1) "number" 2 0) (.cons (.fld (.fld (.var 1) "session" 1 1) "frames" 2 6) (.cons (.int 0) .nil))))) .nil))))
  .nil) .nil)
  .nil))
  (.cons (.for_ (.name 2) (.list (.fld (.var 0) "records" 7 14)) (.cons (.expr (.call "send" (sp_send K T) (.cons (.var 0) (.cons (.tup (.cons (.glo "COUNT" (.int 2)) (.cons (.ix rIxU (.var 2) (.int 0)) (.cons (.ix rIxU (.var 2) (.int 1)) (.cons (.int 1) .nil))))) .nil))))
  .nil))
  (.cons (.ret (.lst (.cons (.int 0) .nil)))
  .nil)))
theorem w_report {K:W.Frag} {T:Tb}:Wk K T (sp_report K T) (m_report K T) ["world","port","record"]:=by
 intro vs H Q E h
 obtain ⟨loc,F,s,rfl,⟨R,k,hk,W⟩,q⟩:=h
 have q:Post T loc F Q (Vbcnad.sends s (s.ports.filterMap tellS ++ s.ended.map fun x=>.count x.1 x.2 true),[0]):=q
 simp_arith only [m_report,R.w]
 refine ⟨⟨_,.inl (.inl R.pl)⟩,?_⟩
 refine forL (K:=K) (a:=loc .PL) (xs:=(List.range s.ports.length).map fun p=>V.ref (loc (.po p)))
  (fun i σ H'=>Rep T loc F H' (Vbcnad.sends s ((s.ports.take i).filterMap tellS))∧∃ v w,σ=[some (.ref (loc .W)),v,w])
  ⟨R,none,none,rfl⟩ (fun i σ H' _ ⟨R',_⟩=>?_) ?_ ?_
 ·have:=R'.pl
  rw [jco] at this
  exact .inl (.inl this)
 ·rintro i v σ H' hi ⟨R1,w1,w2,rfl⟩
  rw [List.getElem?_map] at hi
  obtain ⟨p,hp,rfl⟩:=Option.map_eq_some_iff.mp hi
  have hlt:i < s.ports.length:=by
   rw [List.getElem?_eq_some_iff] at hp; simpa using hp.1
  rw [List.getElem?_range hlt] at hp
  cases hp
  obtain ⟨y,hy⟩:=jan hlt
  have hy1:(Vbcnad.sends s ((s.ports.take i).filterMap tellS)).ports[i]? = some y:=by rw [jco]; exact hy
  have et:(s.ports.take (i+1)).filterMap tellS=(s.ports.take i).filterMap tellS ++ (tellS y).toList:=by
   rw [take1 hy,List.filterMap_append]; cases h:tellS y <;> simp [h]
  cases hx:y.sess with
  | none =>
   simp_arith only [R1.po hy1,soV,hx,decide_true,Bool.not_true]
   rw [et,show tellS y=none by simp [tellS,hx]]
   simpa using R1
  | some x =>
   simp_arith only [R1.po hy1,R1.se hy1 hx,soV,hx,decide_false,Bool.not_false,sz4]
   intro t ht
   refine ⟨loc,F,_,.count x.num x.frames false,t,rfl,R1.junk ht,by rw [jbc]; exact W.cb,jaa,fun H2 R2 _=>?_⟩
   rw [et,show tellS y=some (.count x.num x.frames false) by simp [tellS,hx],jbd]
   exact ⟨R2,_,_,rfl⟩
 ·rintro σ H1 ⟨R1,w1,w2,rfl⟩
  rw [List.take_of_length_le (by simp)] at R1
  obtain ⟨ps,e,h1,h2⟩:=R1.cell .RL
  rw [sends_ended] at e
  have hw:=R1.w
  simp_arith only [hw]
  refine ⟨⟨_,.inl (.inl h1)⟩,?_⟩
  refine forL (K:=K) (a:=loc .RL) (xs:=ps.map fun x=>V.ref x.1)
   (fun i σ H'=>Rep T loc F H' (Vbcnad.sends (Vbcnad.sends s (s.ports.filterMap tellS)) ((s.ended.take i).map fun x=>.count x.1 x.2 true))∧H' (loc .RL)=some (.lst (ps.map fun x=>V.ref x.1))∧(∀ x ∈ ps,H' x.1=some (.tup [.int x.2.1,.int x.2.2]))∧∃ v w,σ=[some (.ref (loc .W)),v,w])
   ⟨R1,h1,h2,w1,w2,rfl⟩ (fun i σ H' _ ⟨_,R',_⟩=>.inl (.inl R')) ?_ ?_
  ·rintro i v σ H' hi ⟨R2,h3,h4,v1,v2,rfl⟩
   rw [List.getElem?_map] at hi
   obtain ⟨x,hx,rfl⟩:=Option.map_eq_some_iff.mp hi
   have hxe:s.ended[i]? = some x.2:=by rw [← e,List.getElem?_map,hx]; rfl
   have hx1:=h4 x (List.mem_of_getElem? hx)
   simp_arith [hx1,HO.tup.injEq,atI_0,atI_1,sz4]
   intro t ht
   refine ⟨loc,F,_,.count x.2.1 x.2.2 true,t,rfl,R2.junk ht,by rw [jbc,jbc]; exact W.cb,jaa,fun H3 R3 fr=>?_⟩
   rw [take1 hxe,List.map_append,jbd]
   refine ⟨R3,fr _ _ (jaf h3 ht) ?_ ?_,fun z hz=>fr _ _ (jaf (h4 z hz) ht) ?_ ?_,_,_,rfl⟩
   ·exact fun z=>by cases R2.inj .RL .W trivial trivial z
   ·exact fun z=>by cases R2.inj .RL .BL trivial trivial z
   ·intro z
    have:=R2.soft (r:=.W) trivial
    rw [← z,h4 _ hz] at this
    exact this.1 _ rfl
   ·intro z
    have:=R2.soft (r:=.BL) trivial
    rw [← z,h4 _ hz] at this
    exact this.1 _ rfl
  ·rintro σ H2 ⟨R2,_,_,v1,v2,rfl⟩
   simp_arith [one_sz]
   have hpl:ps.length=s.ended.length:=by rw [← e,List.length_map]
   rw [List.take_of_length_le (by rw [List.length_map]; omega),← jbd] at R2
   exact q.ret Lk.rfl' R2
inductive sp_restart (K:W.Frag) (T:Tb) (vs:List V) (H:Hp) (Q:VK) (E0:XK):Prop | mk (loc F s) (_:vs=[.ref (loc .W)]) (_:Pre T loc F H s) (_:Post T loc F Q (Vbcnad.doing s .restart))
noncomputable def anew (s:VS) (y:Vbcnad.Port):Vbcnad.Port:={ y with sess:=none,phase:=if y.phase=.down then .down else Vbcnad.askingAt s }
noncomputable def m_restart (K:W.Frag) (T:Tb):MB:=(.cons (.for_ (.name 1) (.list (.fld (.var 0) "ports" 7 0)) (.cons (.fset (.var 1) "session" 1 1 .non)
  (.cons (.if_ (.cmp .NotEq rNe (.fld (.fld (.var 1) "stand" 1 0) "kind" 0 0) (.glo "DOWN" (.int 0))) (.cons (.expr (.call "ask_anew" (sp_ask_anew K T) (.cons (.var 0) (.cons (.var 1) .nil))))
  .nil) .nil)
  .nil)))
  (.cons (.fset (.var 0) "records" 7 14 (.lst .nil))
  (.cons (.ret (.lst (.cons (.int 0) .nil)))
  .nil)))
theorem w_restart {K:W.Frag} {T:Tb}:Wk K T (sp_restart K T) (m_restart K T) ["world","port"]:=by
 intro vs H Q E h
 obtain ⟨loc,F,s,rfl,⟨R,k,hk,W⟩,q⟩:=h
 have q:Post T loc F Q ({ s with ports:=s.ports.map (anew s),ended:=[] },[0]):=q
 simp_arith only [m_restart,R.w]
 refine ⟨⟨_,.inl (.inl R.pl)⟩,?_⟩
 refine forL (K:=K) (a:=loc .PL) (xs:=(List.range s.ports.length).map fun p=>V.ref (loc (.po p)))
  (fun i σ H'=>∃ loc',Lk loc loc'∧Rep T loc' F H' { s with ports:=mix (anew s) s.ports i }∧∃ v,σ=[some (.ref (loc .W)),v])
  ⟨loc,Lk.rfl',R,none,rfl⟩ ?_ ?_ ?_
 ·rintro i σ H' _ ⟨l',hl,R',_⟩
  have:=R'.pl
  simp only [mix_len,hl.2.1,hl.2.2] at this
  exact .inl (.inl this)
 ·rintro i v σ H' hi ⟨l',hl,R1,w1,rfl⟩
  rw [List.getElem?_map] at hi
  obtain ⟨p,hp,rfl⟩:=Option.map_eq_some_iff.mp hi
  have hlt:i < s.ports.length:=by
   rw [List.getElem?_eq_some_iff] at hp; simpa using hp.1
  rw [List.getElem?_range hlt] at hp
  cases hp
  obtain ⟨y,hy⟩:=jan hlt
  have hy1:({ s with ports:=mix (anew s) s.ports i }:VS).ports[i]? = some y:=(mix_get (Nat.le_of_lt hlt)).trans hy
  rw [← hl.2.2 i]
  simp_arith only [R1.po hy1]
  have R2:=R1.sessNone hy1
  have hy2:(Vbcnad.onPort ({ s with ports:=mix (anew s) s.ports i }:VS) i fun y=>{ y with sess:=none }).ports[i]? = some { y with sess:=none }:=jaj hy1
  generalize setV T 1 H' _ _=H2 at R2 ⊢
  simp_arith only [R2.po hy2,R2.st hy2,kd_down,Bool.not_eq_true',decide_eq_false_iff_not]
  by_cases hd:y.phase=.down
  ·rw [if_neg (by simp [hd])]
   refine ⟨l',hl,?_⟩
   ·have:Vbcnad.onPort ({ s with ports:=mix (anew s) s.ports i }:VS) i (fun y=>{ y with sess:=none })={ s with ports:=mix (anew s) s.ports (i+1) }:=by
     unfold Vbcnad.onPort
     rw [mix_step hy]
     simp [anew,hd]
    rw [← this]; exact R2
  ·rw [if_pos hd]
   refine ⟨l',F,_,i,_,by rw [hl.1],R2,hy2,W.ct,fun H3 d R3=>?_⟩
   refine ⟨l'.put (.st i) d,hl.trans Lk.st,?_⟩
   ·have:Vbcnad.phaseAt (Vbcnad.onPort ({ s with ports:=mix (anew s) s.ports i }:VS) i (fun y=>{ y with sess:=none })) i (Vbcnad.askingAt s)={ s with ports:=mix (anew s) s.ports (i+1) }:=by
     unfold Vbcnad.phaseAt
     rw [onPort2]
     unfold Vbcnad.onPort
     rw [mix_step hy]
     simp [anew,hd]
    rw [← this]; exact ⟨R3,_,rfl⟩
 ·rintro σ H1 ⟨l',hl,R1,w1,rfl⟩
  have em:mix (anew s) s.ports ((List.range s.ports.length).map fun p=>V.ref (loc (.po p))).length=s.ports.map (anew s):=by
   unfold mix; simp
  rw [em] at R1
  simp_arith! only [← hl.1,one_sz]
  intro d hd
  have R2:=R1.new (o:=.lst []) hd
  simp_arith [R2.w]
  have R3:=R2.recNew (ps:=[]) (R1.free hd) (fun x hx=>by cases hx)
  simp_arith only [and_assoc] at R3
  refine q.ret (hl.trans ⟨Lo.put_ne (by simp),Lo.put_ne (by simp),fun p=>Lo.put_ne (by simp)⟩) R3
inductive ClS:Int→List Int→Vbcnad.Call→Prop
 | guest (a b:Int):ClS 8 [a,b] (.guest a b)
 | plug (a:Int):ClS 9 [a] (.plug a)
 | unplug (a:Int):ClS 10 [a] (.unplug a)
 | say (a b c:Int):ClS 11 [a,b,c] (.say a b c)
 | reply (a b c:Int):ClS 12 [a,b,c] (.reply a b c)
 | bye (a b:Int):ClS 13 [a,b] (.bye a b)
 | frame (a b c:Int):ClS 14 [a,b,c] (.frame a b c)
 | report:ClS 16 [] .report
 | restart:ClS 20 [] .restart
inductive sp_switch_call (K:W.Frag) (T:Tb) (vs:List V) (H:Hp) (Q:VK) (E0:XK):Prop | mk (loc F s code zs l c) (_:vs=[.ref (loc .W),.int code,.ref l]) (_:H l=some (.lst (zs.map V.int))) (_:ClS code zs c) (_:Pre T loc F H s) (_:Post T loc F Q (Vbcnad.doing s c))
theorem atI_2 {α:Type} {x y z:α} {xs:List α}:atI (x :: y :: z :: xs) 2=some z:=by
 have:=atI_at (xs:=x :: y :: z :: xs) (i:=2); simpa using this
noncomputable def m_switch_call (K:W.Frag) (T:Tb):MB:=(.cons (.if_ (.cmp .Eq rEq (.var 1) (.glo "GUEST" (.int 8))) (.cons (.ret (.call "set_guest" (sp_set_guest K T) (.cons (.var 0) (.cons (.ix rIxH (.var 2) (.int 0)) (.cons (.ix rIxH (.var 2) (.int 1)) .nil)))))
  .nil) .nil)
  (.cons (.if_ (.cmp .Eq rEq (.var 1) (.glo "PLUG" (.int 9))) (.cons (.ret (.call "plug" (sp_plug K T) (.cons (.var 0) (.cons (.ix rIxH (.var 2) (.int 0)) .nil))))
  .nil) .nil)
  (.cons (.if_ (.cmp .Eq rEq (.var 1) (.glo "UNPLUG" (.int 10))) (.cons (.ret (.call "unplug" (sp_unplug K T) (.cons (.var 0) (.cons (.ix rIxH (.var 2) (.int 0)) .nil))))
  .nil) .nil)
  (.cons (.if_ (.cmp .Eq rEq (.var 1) (.glo "SAY" (.int 11))) (.cons (.ret (.call "say" (sp_say K T) (.cons (.var 0) (.cons (.ix rIxH (.var 2) (.int 0)) (.cons (.ix rIxH (.var 2) (.int 1)) (.cons (.ix rIxH (.var 2) (.int 2)) .nil))))))
  .nil) .nil)
  (.cons (.if_ (.cmp .Eq rEq (.var 1) (.glo "REPLY" (.int 12))) (.cons (.ret (.call "reply" (sp_reply K T) (.cons (.var 0) (.cons (.ix rIxH (.var 2) (.int 0)) (.cons (.ix rIxH (.var 2) (.int 1)) (.cons (.ix rIxH (.var 2) (.int 2)) .nil))))))
  .nil) .nil)
  (.cons (.if_ (.cmp .Eq rEq (.var 1) (.glo "BYE" (.int 13))) (.cons (.ret (.call "bye" (sp_bye K T) (.cons (.var 0) (.cons (.ix rIxH (.var 2) (.int 0)) (.cons (.ix rIxH (.var 2) (.int 1)) .nil)))))
  .nil) .nil)
  (.cons (.if_ (.cmp .Eq rEq (.var 1) (.glo "FRAME" (.int 14))) (.cons (.ret (.call "frame" (sp_frame K T) (.cons (.var 0) (.cons (.ix rIxH (.var 2) (.int 0)) (.cons (.ix rIxH (.var 2) (.int 1)) (.cons (.ix rIxH (.var 2) (.int 2)) .nil))))))
  .nil) .nil)
  (.cons (.if_ (.cmp .Eq rEq (.var 1) (.glo "REPORT" (.int 16))) (.cons (.ret (.call "report" (sp_report K T) (.cons (.var 0) .nil)))
  .nil) .nil)
  (.cons (.ret (.call "restart" (sp_restart K T) (.cons (.var 0) .nil)))
  .nil)))))))))
theorem w_switch_call {K:W.Frag} {T:Tb}:Wk K T (sp_switch_call K T) (m_switch_call K T) ["world","code","row"]:=by
 intro vs H Q E h
 obtain ⟨loc,F,s,code,zs,l,c,rfl,hl,hc,P,q⟩:=h
 cases hc <;> simp only [List.map_cons,List.map_nil] at hl <;> simp_arith [m_switch_call,hl,HO.lst.injEq,atI_0,atI_1,atI_2]
 case guest a b=>exact ⟨loc,F,s,a,b,rfl,P,q⟩
 case plug a=>exact ⟨loc,F,s,a,rfl,P,q⟩
 case unplug a=>exact ⟨loc,F,s,a,rfl,P,q⟩
 case say a b c=>exact ⟨loc,F,s,a,b,c,rfl,P,q⟩
 case reply a b c=>exact ⟨loc,F,s,a,b,c,rfl,P,q⟩
 case bye a b=>exact ⟨loc,F,s,a,b,rfl,P,q⟩
 case frame a b c=>exact ⟨loc,F,s,a,b,c,rfl,P,q⟩
 case report=>exact ⟨loc,F,s,rfl,P,q⟩
 case restart=>exact ⟨loc,F,s,rfl,P,q⟩
noncomputable def PostS (T:Tb) (loc:Lo) (F:Hp) (Q:VK) (s':VS):Prop:=∀ H' loc',Lk loc loc'→Rep T loc' F H' s'→Q .non H'
section
variable {T:Tb} {loc loc':Lo} {F F' H H':Hp} {s s':VS} {y:Vbcnad.Port} {Q:VK} {p q:Nat}
theorem Rep.adopt (R:Rep T loc F H s) {a:Addr} {o:HO} (h:H a=some o) (hn:∀ r,Used s r→loc r≠a):Rep T loc (upd F a o) H s where
 ti:=R.ti
 fr:=fun b u e=>by
  by_cases q:b=a
  ·subst q; rw [jaa] at e; cases e; exact h
  ·rw [upd_ne q] at e; exact R.fr b u e
 off:=fun b u e r hu=>by
  by_cases q:b=a
  ·subst q; exact hn r hu
  ·rw [upd_ne q] at e; exact R.off b u e r hu
 inj:=R.inj
 cell:=R.cell
theorem jbs (h:q≠p):(Vbcnad.endAt s p).ports[q]? = s.ports[q]? := by
 unfold Vbcnad.endAt
 split
 ·rfl
 ·exact ch_ne h
theorem jbe (h:q≠p):(Vbcnad.putOut s p).ports[q]? = s.ports[q]? := by
 unfold Vbcnad.putOut
 simp only []
 split
 ·exact (ch_ne h).trans (jbs h)
 ·exact jbs h
theorem jcb:(Vbcnad.endAt s p).ports.length=s.ports.length:=by
 unfold Vbcnad.endAt
 split
 ·rfl
 ·exact ch_len
theorem jav:(Vbcnad.putOut s p).ports.length=s.ports.length:=by
 unfold Vbcnad.putOut
 simp only []
 split
 ·exact ch_len.trans jcb
 ·exact jcb
theorem jb6:(Vbcnad.putOut s p).cfg=s.cfg:=by
 unfold Vbcnad.putOut
 simp only []
 split
 ·exact jaw
 ·exact jaw
theorem putOut_now:(Vbcnad.putOut s p).now=s.now:=by
 unfold Vbcnad.putOut
 simp only []
 split
 ·exact jbf
 ·exact jbf
theorem jcc:(Vbcnad.endAt s p).ended.length≤s.ended.length+1:=by
 unfold Vbcnad.endAt
 split
 ·omega
 ·show (s.ended ++ _).length≤_
  simp
theorem jbm:(Vbcnad.putOut s p).ended.length≤s.ended.length+1:=by
 unfold Vbcnad.putOut
 simp only []
 split
 ·exact jcc
 ·exact jcc
theorem jbk:∀ {l:List Nat} {s:VS},q ∉ l→(l.foldl Vbcnad.putOut s).ports[q]? = s.ports[q]?
 | [],_,_=>rfl
 | p :: l,s,h=>by
  rw [List.foldl_cons,jbk (l:=l) (fun e=>h (List.mem_cons_of_mem _ e)),jbe (fun e=>h (by rw [e]; exact List.mem_cons_self))]
theorem outs_cfg:∀ {l:List Nat} {s:VS},(l.foldl Vbcnad.putOut s).cfg=s.cfg
 | [],_=>rfl
 | p :: l,s=>by rw [List.foldl_cons,outs_cfg (l:=l),jb6]
theorem outs_now:∀ {l:List Nat} {s:VS},(l.foldl Vbcnad.putOut s).now=s.now
 | [],_=>rfl
 | p :: l,s=>by rw [List.foldl_cons,outs_now (l:=l),putOut_now]
theorem outs_plen:∀ {l:List Nat} {s:VS},(l.foldl Vbcnad.putOut s).ports.length=s.ports.length
 | [],_=>rfl
 | p :: l,s=>by rw [List.foldl_cons,outs_plen (l:=l),jav]
theorem jcq:∀ {l:List Nat} {s:VS},(l.foldl Vbcnad.putOut s).ended.length≤s.ended.length+l.length
 | [],_=>Nat.le_refl _
 | p :: l,s=>by
  rw [List.foldl_cons,List.length_cons]
  have:=jcq (l:=l) (s:=Vbcnad.putOut s p)
  have:=jbm (s:=s) (p:=p)
  omega
end
inductive sp_take_challenge (K:W.Frag) (T:Tb) (vs:List V) (H:Hp) (Q:VK) (E0:XK):Prop | mk (loc F s p y n c) (_:vs=[.ref (loc .W),.ref (loc (.po p)),.int (n:Nat),.int (c:Nat)]) (_:Rep T loc F H s) (_:s.ports[p]? = some y) (_:PostS T loc F Q (Vbcnad.onAsk s p n c))
theorem kd_look {ph:Vbcnad.Phase}:kd ph=2↔∃ n id h l d,ph=.looking n id h l d:=by cases ph <;> simp [kd]
theorem kd_chek {ph:Vbcnad.Phase}:kd ph=4↔∃ n id h c x t l d,ph=.checking n id h c x t l d:=by cases ph <;> simp [kd]
noncomputable def m_take_challenge (K:W.Frag) (T:Tb):MB:=(.cons (.set 4 (.fld (.var 1) "stand" 1 0))
  (.cons (.if_ (.bol false (.cmp .NotEq rNe (.fld (.var 4) "kind" 0 0) (.glo "LOOKING" (.int 2))) (.cons (.cmp .NotEq rNe (.fld (.var 4) "n" 0 3) (.var 2)) .nil)) (.cons .retN
  .nil) .nil)
  (.cons (.set 5 (.make "Stand" 0 (sp_init_Stand T) (.cons (.glo "CHALLENGED" (.int 3)) (.cons (.op .Add (rI0 fun i j=>.int (i+j)) (.fld (.var 0) "now" 7 10) (.fld (.var 0) "wait" 7 2)) .nil))))
  (.cons (.fset (.var 5) "n" 0 3 (.var 2))
  (.cons (.fset (.var 5) "who" 0 4 (.fld (.var 4) "who" 0 4))
  (.cons (.fset (.var 5) "host" 0 5 (.fld (.var 4) "host" 0 5))
  (.cons (.fset (.var 5) "challenge" 0 6 (.var 3))
  (.cons (.fset (.var 1) "stand" 1 0 (.var 5))
  .nil))))))))
theorem w_take_challenge {K:W.Frag} {T:Tb}:Wk K T (sp_take_challenge K T) (m_take_challenge K T) ["world","port","n","challenge","asked","stand"]:=by
 intro vs H Q E h
 obtain ⟨loc,F,s,p,y,n,c,rfl,R,hy,q⟩:=h
 unfold Vbcnad.onAsk at q
 rw [jac hy] at q
 simp_arith only [m_take_challenge,R.po hy,R.st hy,R.w,Bool.not_eq_true',decide_eq_false_iff_not,ob_nil]
 by_cases h2:kd y.phase=2
 ·obtain ⟨m,id,h,l,d,hph⟩:=kd_look.mp h2
  rw [if_neg (by simp [h2])]
  rw [hph] at q
  have e5:nn y.phase=(m:Int):=by rw [hph]; rfl
  rw [e5]
  by_cases h3:m=n
  ·subst h3
   rw [if_neg (by simp)]
   simp only [if_true] at q
   intro a dx ha hd ne
   refine ⟨a,dx,_,_,rfl,jaa,?_⟩
   have R1:=R.make (c:=0) (vs:=[.int 3,.int (s.now+s.cfg.wait),.int 0,.int 0,.int 0,.int 0,.int 0,.int 0,.int 0]) ha hd ne
   have n1:loc (.st p)≠a:=R1.off a _ jaa (.st p) (ja2 hy)
   have e1:=R1.st hy
   rw [hph] at e1
   simp only [phV,kd,du,lf,nn,wh,hh,cc,xx,ft,upd_ne n1] at e1
   have R2:=R1.ownSet (by decide) (by decide) (by decide) (Nat.le_refl _) (phV (.challenged m id h c (s.now+s.cfg.wait)))
   have R3:=R2.standNew (R.free ha) hy
   have e2:=R2.po hy
   simp_arith only [jaq,e1,upd_ne n1]
   simp_arith only [phV,kd,du,lf,nn,wh,hh,cc,xx,ft,jbb,Int.natCast_add] at e2 R3
   simp_arith only [e2]
   exact q _ _ Lk.st R3
  ·rw [if_pos (by simpa using fun e=>h3 (by omega))]
   simp only [if_neg h3] at q
   exact q _ _ Lk.rfl' R
 ·rw [if_pos h2]
  cases hph:y.phase <;> rw [hph] at q h2 <;> first | exact q _ _ Lk.rfl' R | exact absurd rfl h2
inductive sp_count_sessions (K:W.Frag) (T:Tb) (vs:List V) (H:Hp) (Q:VK) (E0:XK):Prop | mk (loc F s) (_:vs=[.ref (loc .W)]) (_:Rep T loc F H s) (_:s.ports.length≤64) (_:∀ H',Same H H'→Q (.int (Vbcnad.living s)) H')
noncomputable def m_count_sessions (K:W.Frag) (T:Tb):MB:=(.cons (.ret (.bif "len" "len" rLenH (.cons (.lc (.var 1) (.name 1) (.list (.fld (.var 0) "ports" 7 0)) (.cons (.cmp .IsNot rNotN (.fld (.var 1) "session" 1 1) .non) .nil) [("port",1)]) .nil)))
  .nil)
theorem w_count_sessions {K:W.Frag} {T:Tb}:Wk K T (sp_count_sessions K T) (m_count_sessions K T) ["world","port"]:=by
 intro vs H Q E h
 obtain ⟨loc,F,s,rfl,R,hl,q⟩:=h
 simp_arith [m_count_sessions,R.w]
 refine ⟨⟨_,.inl (.inl R.pl)⟩,fun D hD=>?_⟩
 refine lcL (K:=K) (a:=loc .PL) (xs:=(List.range s.ports.length).map fun p=>V.ref (loc (.po p)))
  (fun i H'=>Same H H'∧∃ acc,H' D=some (.lst acc)∧acc.length=((s.ports.take i).filter fun x=>x.sess.isSome).length)
  ⟨Same.fresh hD,[],jaa,rfl⟩ (fun i H' _ ⟨e,_⟩=>.inl (.inl (e _ _ R.pl))) ?_ ?_
 ·rintro i v H' hi ⟨e,acc,hacc,hlen⟩
  rw [List.getElem?_map] at hi
  obtain ⟨p,hp,rfl⟩:=Option.map_eq_some_iff.mp hi
  have hlt:i < s.ports.length:=by
   rw [List.getElem?_eq_some_iff] at hp; simpa using hp.1
  rw [List.getElem?_range hlt] at hp
  cases hp
  obtain ⟨y,hy⟩:=jan hlt
  have R1:=R.grow e
  have hle:((s.ports.take i).filter fun x=>x.sess.isSome).length≤i:=Nat.le_trans (List.length_filter_le _ _) (by simp; omega)
  have z:=szl
  cases hx:y.sess with
  | none =>
   simp_arith! only [R1.po hy,soV,hx,decide_true,Bool.not_true]
   refine ⟨e,acc,hacc,?_⟩
   rw [take1 hy,List.filter_append]
   simp [hx,hlen]
  | some x =>
   simp_arith only [R1.po hy,soV,hx,decide_false,Bool.not_false,hacc,HO.lst.injEq]
   refine ⟨by omega,fun b o h=>?_,?_⟩
   ·rw [upd_ne (jab h hD)]; exact e _ _ h
   ·rw [take1 hy,List.filter_append]
    simp [hx,hlen]
 ·rintro H' ⟨e,acc,hacc,hlen⟩
  simp_arith [hacc,HO.lst.injEq]
  rw [hlen,List.take_of_length_le (by simp)]
  exact q _ e
noncomputable def elseC (s:VS) (p hw q:Nat):Bool:=q != p && ((Vbcnad.portAt s q).sess.map fun x=>x.hw) == some hw
inductive sp_put_out_elsewhere (K:W.Frag) (T:Tb) (vs:List V) (H:Hp) (Q:VK) (E0:XK):Prop | mk (loc F s p h) (_:vs=[.ref (loc .W),.int (p:Nat),.int (h:Nat)]) (_:Rep T loc F H s) (_:s.ports.length≤64) (_:s.ended.length≤1000000) (_:1≤s.cfg.tries) (_:PostS T loc F Q ((Vbcnad.elsewhere s p h).foldl Vbcnad.putOut s))
theorem jau {f:Nat→Bool} {i:Nat}:(List.range (i+1)).filter f=(List.range i).filter f ++ if f i=true then [i] else []:=by
 rw [List.range_succ,List.filter_append]
 cases h:f i <;> simp [h]
theorem jb0 {f:Nat→Bool} {i:Nat}:((List.range i).filter f).length≤i:=Nat.le_trans (List.length_filter_le _ _) (by simp)
noncomputable def m_put_out_elsewhere (K:W.Frag) (T:Tb):MB:=(.cons (.for_ (.pair 3 4) (.enum (.fld (.var 0) "ports" 7 0)) (.cons (.if_ (.bol true (.cmp .NotEq rNe (.var 3) (.var 1)) (.cons (.cmp .IsNot rNotN (.fld (.var 4) "session" 1 1) .non) (.cons (.cmp .Eq rEq (.fld (.fld (.var 4) "session" 1 1) "host" 2 2) (.var 2)) .nil))) (.cons (.expr (.call "put_out" (sp_put_out K T) (.cons (.var 0) (.cons (.var 4) .nil))))
  .nil) .nil)
  .nil))
  .nil)
theorem w_put_out_elsewhere {K:W.Frag} {T:Tb}:Wk K T (sp_put_out_elsewhere K T) (m_put_out_elsewhere K T) ["world","place","host","other","port"]:=by
 intro vs H Q E h
 obtain ⟨loc,F,s,p,h,rfl,R,hl,he,ht,q⟩:=h
 simp_arith only [m_put_out_elsewhere,R.w]
 refine ⟨_,.inl (.inl R.pl),?_⟩
 refine forE (K:=K) (a:=loc .PL) (xs:=(List.range s.ports.length).map fun p=>V.ref (loc (.po p)))
  (fun i σ H'=>∃ loc',Lk loc loc'∧Rep T loc' F H' (((List.range i).filter (elseC s p h)).foldl Vbcnad.putOut s)∧∃ v w,σ=[some (.ref (loc .W)),some (.int p),some (.int h),v,w])
  ⟨loc,Lk.rfl',R,none,none,rfl⟩ ?_ ?_ ?_
 ·rintro i σ H' _ ⟨l',hl,R',_⟩
  have:=R'.pl
  simp only [outs_plen,hl.2.1,hl.2.2] at this
  exact .inl (.inl this)
 ·rintro i v t σ H' hi ⟨l',hlk,R1,w1,w2,rfl⟩ htn
  rw [List.getElem?_map] at hi
  obtain ⟨p',hp,rfl⟩:=Option.map_eq_some_iff.mp hi
  have hlt:i < s.ports.length:=by
   rw [List.getElem?_eq_some_iff] at hp; simpa using hp.1
  rw [List.getElem?_range hlt] at hp
  cases hp
  obtain ⟨y,hy⟩:=jan hlt
  have hy1:(((List.range i).filter (elseC s p h)).foldl Vbcnad.putOut s).ports[i]? = some y:=by
   rw [jbk (by simp)]; exact hy
  rw [← hlk.2.2 i]
  have R2:=R1.junk (o:=.tup [.int (i:Nat),.ref (l' (.po i))]) htn
  refine ⟨t,[.int (i:Nat),.ref (l' (.po i))],rfl,.inl (.inl jaa),rfl,_,_,rfl,_,_,rfl,rfl,?_⟩
  generalize upd H' t _=H2 at R2 ⊢
  have fin:∀ H' loc',Lk loc loc'→Rep T loc' F H' (((List.range (i+1)).filter (elseC s p h)).foldl Vbcnad.putOut s)→∃ loc'_1,Lk loc loc'_1∧Rep T loc'_1 F H' (((List.range (i+1)).filter (elseC s p h)).foldl Vbcnad.putOut s):=fun H' l h1 h2=>⟨l,h1,h2⟩
  simp_arith only [Bool.not_eq_true',decide_eq_false_iff_not,R2.po hy1,Int.natCast_inj]
  by_cases hip:i=p
  ·rw [if_neg (by simp [hip])]
   refine fin _ _ hlk ?_
   rw [jau,if_neg (by simp [elseC,hip]),List.append_nil]
   exact R2
  ·rw [if_pos (by simpa using hip)]
   cases hx:y.sess with
   | none =>
    refine fin _ _ hlk ?_
    rw [jau,if_neg (by simp [elseC,jac hy,hx]),List.append_nil]
    exact R2
   | some x =>
    simp_arith only [soV,decide_false,Bool.not_false,R2.se hy1 hx,Int.natCast_inj]
    by_cases hxh:x.hw=h
    ·rw [if_pos (by simpa using hxh)]
     refine ⟨l',F,_,i,y,by rw [hlk.1],R2,hy1,?_,by rw [outs_cfg]; exact ht,fun H3 l3 h3 R3=>?_⟩
     ·have:=jcq (l:=(List.range i).filter (elseC s p h)) (s:=s)
      have:=jb0 (f:=elseC s p h) (i:=i)
      omega
     ·refine (fun ⟨a,b,c⟩=>⟨a,b,c,_,_,rfl⟩) (fin _ _ (hlk.trans h3) ?_)
      rw [jau,if_pos (by simp [elseC,jac hy,hx,hxh,hip]),List.foldl_append]
      exact R3
    ·rw [if_neg (by simpa using hxh)]
     refine fin _ _ hlk ?_
     rw [jau,if_neg (by simp [elseC,jac hy,hx,hxh]),List.append_nil]
     exact R2
 ·rintro σ H1 ⟨l',hlk,R1,w1,w2,rfl⟩
  rw [List.length_map,List.length_range] at R1
  exact q _ _ hlk R1
inductive sp_admit (K:W.Frag) (T:Tb) (vs:List V) (H:Hp) (Q:VK) (E0:XK):Prop | mk (loc F s p y x dx se) (_:vs=[.ref (loc .W),.int (p:Nat),.ref x]) (_:F x=none) (_:Rep T loc (upd F x (T.ob 2 dx (ssV se))) H s) (_:s.ports[p]? = some y) (_:s.ports.length≤64) (_:s.ended.length≤1000000) (_:1≤s.cfg.tries) (_:PostS T loc F Q (Vbcnad.onPort (Vbcnad.endAt ((Vbcnad.elsewhere s p se.hw).foldl Vbcnad.putOut s) p) p fun y=>{ y with phase:=.inside,sess:=some se }))
noncomputable def m_admit (K:W.Frag) (T:Tb):MB:=(.cons (.expr (.call "put_out_elsewhere" (sp_put_out_elsewhere K T) (.cons (.var 0) (.cons (.var 1) (.cons (.fld (.var 2) "host" 2 2) .nil)))))
  (.cons (.set 3 (.ix rIxH (.fld (.var 0) "ports" 7 0) (.var 1)))
  (.cons (.expr (.call "end_session" (sp_end_session K T) (.cons (.var 0) (.cons (.var 3) .nil))))
  (.cons (.fset (.var 3) "stand" 1 0 (.make "Stand" 0 (sp_init_Stand T) (.cons (.glo "INSIDE" (.int 7)) (.cons (.int 0) .nil))))
  (.cons (.fset (.var 3) "session" 1 1 (.var 2))
  .nil)))))
theorem w_admit {K:W.Frag} {T:Tb}:Wk K T (sp_admit K T) (m_admit K T) ["world","place","session","port"]:=by
 intro vs H Q E h
 obtain ⟨loc,F,s,p,y,x,dx,se,rfl,hF,R,hy,hl,he,ht,q⟩:=h
 simp_arith only [m_admit,R.ownH]
 refine ⟨loc,_,s,p,se.hw,rfl,R,hl,he,ht,fun H1 l1 hk1 R1=>?_⟩
 have hne:p ∉ Vbcnad.elsewhere s p se.hw:=by simp [Vbcnad.elsewhere]
 have hy1:((Vbcnad.elsewhere s p se.hw).foldl Vbcnad.putOut s).ports[p]? = some y:=by rw [jbk hne]; exact hy
 have hle:((Vbcnad.elsewhere s p se.hw).foldl Vbcnad.putOut s).ended.length < 10000000:=by
  have:=jcq (l:=Vbcnad.elsewhere s p se.hw) (s:=s)
  have:(Vbcnad.elsewhere s p se.hw).length≤s.ports.length:=jb0
  omega
 rw [← hk1.1]
 simp_arith [R1.w,R1.pl,HO.lst.injEq,R1.ix hy1]
 refine ⟨l1,_,_,p,y,rfl,R1,hy1,hle,fun H2 R2=>?_⟩
 have hy2:=jap hy1
 simp_arith only [ob_nil]
 intro a da ha hda ne
 refine ⟨a,da,_,_,rfl,jaa,?_⟩
 have R3:=R2.make (c:=0) (vs:=[.int 7,.int 0,.int 0,.int 0,.int 0,.int 0,.int 0,.int 0,.int 0]) ha hda ne
 simp_arith only [jaq,R3.po hy2]
 have R4:=R3.standNew (R2.free ha) hy2 (ph:=.inside)
 have e4:=R4.po (jaj hy2)
 have R5:=R4.sessNew hF (jaj hy2)
 simp_arith only [soV] at e4 R4 R5
 simp_arith only [soV]
 generalize setV T 1 _ _ _=H4 at e4 R4 R5 ⊢
 simp_arith only [e4]
 unfold Vbcnad.phaseAt at R5
 rw [onPort2] at R5
 exact q _ _ (hk1.trans (Lk.st.trans Lk.se)) R5
theorem atI_3 {α:Type} {a b c d:α} {xs:List α}:atI (a :: b :: c :: d :: xs) 3=some d:=by
 have:=atI_at (xs:=a :: b :: c :: d :: xs) (i:=3); simpa using this
theorem atI_4 {α:Type} {a b c d e:α} {xs:List α}:atI (a :: b :: c :: d :: e :: xs) 4=some e:=by
 have:=atI_at (xs:=a :: b :: c :: d :: e :: xs) (i:=4); simpa using this
theorem atI_5 {α:Type} {a b c d e f:α} {xs:List α}:atI (a :: b :: c :: d :: e :: f :: xs) 5=some f:=by
 have:=atI_at (xs:=a :: b :: c :: d :: e :: f :: xs) (i:=5); simpa using this
theorem atI_6 {α:Type} {a b c d e f g:α} {xs:List α}:atI (a :: b :: c :: d :: e :: f :: g :: xs) 6=some g:=by
 have:=atI_at (xs:=a :: b :: c :: d :: e :: f :: g :: xs) (i:=6); simpa using this
theorem atI_7 {α:Type} {a b c d e f g h:α} {xs:List α}:atI (a :: b :: c :: d :: e :: f :: g :: h :: xs) 7=some h:=by
 have:=atI_at (xs:=a :: b :: c :: d :: e :: f :: g :: h :: xs) (i:=7); simpa using this
structure Bd (s:VS):Prop where
 pl:s.ports.length≤64
 el:s.ended.length≤1000000
 ct:1≤s.cfg.tries
 cb:s.cfg.bag≤1024
inductive sp_take_yes (K:W.Frag) (T:Tb) (vs:List V) (H:Hp) (Q:VK) (E0:XK):Prop | mk (loc F s a p y n num v l g) (_:vs=[.ref (loc .W),.ref a]) (_:Rep T loc F H s) (_:H a=some (.tup (msgV (.yes p n num v l g)))) (_:s.ports[p]? = some y) (_:Bd s) (_:PostS T loc F Q (Vbcnad.onYes s p n num v l g))
noncomputable def m_take_yes (K:W.Frag) (T:Tb):MB:=(.cons (.set 2 (.ix rIxU (.var 1) (.int 1)))
  (.cons (.set 3 (.ix rIxH (.fld (.var 0) "ports" 7 0) (.var 2)))
  (.cons (.set 4 (.fld (.var 3) "stand" 1 0))
  (.cons (.if_ (.bol false (.cmp .NotEq rNe (.fld (.var 4) "kind" 0 0) (.glo "CHECKING" (.int 4))) (.cons (.cmp .NotEq rNe (.fld (.var 4) "n" 0 3) (.ix rIxU (.var 1) (.int 2))) .nil)) (.cons .retN
  .nil) .nil)
  (.cons (.set 5 (.op .Add (rI0 fun i j=>.int (i+j)) (.fld (.var 4) "first" 0 8) (.ix rIxU (.var 1) (.int 5))))
  (.cons (.if_ (.bol false (.cmp .LtE (rI0 fun i j=>.bl (decide (i≤j))) (.var 5) (.fld (.var 0) "now" 7 10)) (.cons (.cmp .GtE (rI0 fun i j=>.bl (decide (j≤i))) (.op .Add (rI0 fun i j=>.int (i+j)) (.call "count_sessions" (sp_count_sessions K T) (.cons (.var 0) .nil)) (.bif "len" "len" rLenH (.cons (.fld (.var 0) "records" 7 14) .nil))) (.fld (.var 0) "most_records" 7 9)) .nil)) (.cons (.expr (.call "come_to_nothing" (sp_come_to_nothing K T) (.cons (.var 0) (.cons (.var 3) .nil))))
  .nil) (.cons (.set 6 (.op .Add (rI0 fun i j=>.int (i+j)) (.fld (.var 0) "now" 7 10) (.ix rIxU (.var 1) (.int 6))))
  (.cons (.expr (.call "admit" (sp_admit K T) (.cons (.var 0) (.cons (.var 2) (.cons (.make "Session" 2 (sp_init_Session T) (.cons (.ix rIxU (.var 1) (.int 3)) (.cons (.fld (.var 4) "who" 0 4) (.cons (.fld (.var 4) "host" 0 5) (.cons (.ix rIxU (.var 1) (.int 4)) (.cons (.var 5) (.cons (.var 6) .nil))))))) .nil)))))
  .nil)))
  .nil))))))
theorem w_take_yes {K:W.Frag} {T:Tb}:Wk K T (sp_take_yes K T) (m_take_yes K T) ["world","message","place","port","stand","until","again"]:=by
 intro vs H Q E h
 obtain ⟨loc,F,s,a,p,y,n,num,v,l,g,rfl,R,ha,hy,B,q⟩:=h
 simp only [msgV,Vbcnad.msgShown,List.map_cons,List.map_nil] at ha
 unfold Vbcnad.onYes at q
 rw [jac hy] at q
 obtain ⟨ps,e,h1,h2⟩:=R.cell .RL
 have hpl:ps.length=s.ended.length:=by rw [← e,List.length_map]
 simp_arith only [m_take_yes,ha,HO.tup.injEq,atI_1,atI_2,atI_3,atI_4,atI_5,atI_6,R.w,R.pl,R.po hy,R.st hy,HO.lst.injEq,R.ix hy,Bool.not_eq_true',decide_eq_false_iff_not]
 by_cases h4:kd y.phase=4
 ·obtain ⟨m,id,h,c,x,t,lf',d,hph⟩:=kd_chek.mp h4
  rw [if_neg (by simp [h4])]
  have en:nn y.phase=(m:Int):=by rw [hph]; rfl
  have ef:ft y.phase=(t:Int):=by rw [hph]; rfl
  have ew:wh y.phase=(id:Int):=by rw [hph]; rfl
  have eh:hh y.phase=(h:Int):=by rw [hph]; rfl
  rw [hph] at q
  simp only [en,ef,ew,eh,Int.natCast_inj]
  by_cases h3:m=n
  ·subst h3
   rw [if_neg (by simp)]
   simp only [ne_eq,not_true,if_false] at q
   have nothing:∀ H1,Same H H1→PostS T loc F Q (Vbcnad.given s p)→sp_come_to_nothing K T [.ref (loc .W),.ref (loc (.po p))] H1 (fun x H=>Q .non H) E0:=fun H1 e1 q=>⟨loc,F,s,p,y,rfl,R.grow e1,hy,fun H2 d R2=>q _ _ Lk.st R2⟩
   by_cases hu:t+l≤s.now
   ·rw [if_pos (by omega)]
    rw [if_pos (.inl hu)] at q
    exact nothing H Same.rfl' q
   ·rw [if_neg (by omega)]
    refine ⟨loc,F,s,rfl,R,B.pl,fun H1 e1=>?_⟩
    have R1:=R.grow e1
    simp_arith [R1.w,e1 _ _ h1,e1 _ _ ha,atI_1,atI_2,atI_3,atI_4,atI_5,atI_6,R1.st hy]
    by_cases hr:s.cfg.records≤Vbcnad.living s+s.ended.length
    ·refine kp ?_ ?_
     ·simp; omega
     rw [if_pos (.inr hr)] at q
     exact nothing H1 e1 q
    ·refine kn ?_ ?_
     ·simp; omega
     rw [if_neg (by intro z; rcases z with z | z <;> contradiction)] at q
     intro b db hb hdb ne
     refine ⟨b,db,_,_,_,_,_,_,rfl,jaa,?_⟩
     have R2:=R1.make (c:=2) (vs:=ssV { num:=num,id:=id,hw:=h,vlan:=v,until_:=t+l,again:=s.now+g }) hb hdb ne
     simp only [ob_nil,jaq,ew,eh,ef]
     exact ⟨trivial,loc,F,s,p,y,b,db,{ num:=num,id:=id,hw:=h,vlan:=v,until_:=t+l,again:=s.now+g },rfl,R1.free hb,R2,hy,B.pl,B.el,B.ct,fun _ _ a b=>q _ _ a b⟩
  ·rw [if_pos h3]
   simp only [ne_eq,h3,not_false_eq_true,if_true] at q
   exact q _ _ Lk.rfl' R
 ·rw [if_pos h4]
  cases hph:y.phase <;> rw [hph] at q h4 <;> first | exact q _ _ Lk.rfl' R | exact absurd rfl h4
inductive sp_take_no (K:W.Frag) (T:Tb) (vs:List V) (H:Hp) (Q:VK) (E0:XK):Prop | mk (loc F s p y n) (_:vs=[.ref (loc .W),.ref (loc (.po p)),.int (n:Nat)]) (_:Rep T loc F H s) (_:s.ports[p]? = some y) (_:Bd s) (_:PostS T loc F Q (Vbcnad.onNo s p n))
noncomputable def m_take_no (K:W.Frag) (T:Tb):MB:=(.cons (.if_ (.bol true (.cmp .In rInU (.fld (.fld (.var 1) "stand" 1 0) "kind" 0 0) (.tup (.cons (.glo "LOOKING" (.int 2)) (.cons (.glo "CHECKING" (.int 4)) .nil)))) (.cons (.cmp .Eq rEq (.fld (.fld (.var 1) "stand" 1 0) "n" 0 3) (.var 2)) .nil)) (.cons (.expr (.call "deny" (sp_deny K T) (.cons (.var 0) (.cons (.var 1) .nil))))
  .nil) .nil)
  .nil)
theorem w_take_no {K:W.Frag} {T:Tb}:Wk K T (sp_take_no K T) (m_take_no K T) ["world","port","n"]:=by
 intro vs H Q E h
 obtain ⟨loc,F,s,p,y,n,rfl,R,hy,B,q⟩:=h
 unfold Vbcnad.onNo at q
 rw [jac hy] at q
 simp_arith only [m_take_no,R.po hy,R.st hy,two_sz,HO.tup.injEq,inV2]
 intro t ht
 have R1:=R.junk (o:=.tup [.int 2,.int 4]) ht
 generalize upd H t _=H1 at R1 ⊢
 have hd:PostS T loc F Q (Vbcnad.denied s p)→sp_deny K T [.ref (loc .W),.ref (loc (.po p))] H1 (fun x H=>Q .non H) E0:=fun q=>⟨loc,F,s,p,y,rfl,R1,hy,by have:=B.el; omega,fun H2 d R2=>q _ _ Lk.st R2⟩
 cases hph:y.phase <;> rw [hph] at q <;> simp_arith [kd]
 case a.looking m id h l d =>
  simp_arith only [R1.po hy,R1.st hy,hph,nn,Int.natCast_inj]
  by_cases h3:m=n
  ·rw [if_pos h3]
   simp only [if_pos h3] at q
   exact hd q
  ·rw [if_neg h3]
   simp only [if_neg h3] at q
   exact q _ _ Lk.rfl' R1
 case a.checking m id h c x t l d =>
  simp_arith only [R1.po hy,R1.st hy,hph,nn,Int.natCast_inj]
  by_cases h3:m=n
  ·rw [if_pos h3]
   simp only [if_pos h3] at q
   exact hd q
  ·rw [if_neg h3]
   simp only [if_neg h3] at q
   exact q _ _ Lk.rfl' R1
 all_goals exact q _ _ Lk.rfl' R1
noncomputable def overC (s:VS) (num q:Nat):Bool:=((Vbcnad.portAt s q).sess.map fun x=>x.num) == some num
noncomputable def Uniq (s:VS):Prop:=∀ (p q:Nat) (y z:Vbcnad.Port) (x w:Vbcnad.Sess),s.ports[p]? = some y→s.ports[q]? = some z→y.sess=some x→z.sess=some w→x.num=w.num→p=q
inductive sp_take_over (K:W.Frag) (T:Tb) (vs:List V) (H:Hp) (Q:VK) (E0:XK):Prop | mk (loc F s num) (_:vs=[.ref (loc .W),.int (num:Nat)]) (_:Rep T loc F H s) (_:Bd s) (_:Uniq s) (_:PostS T loc F Q (Vbcnad.onOver s num))
noncomputable def overS (s:VS) (num i:Nat):VS:=match (List.range i).find? (overC s num) with
 | some p=>Vbcnad.putOut s p
 | none=>s
theorem overS_plen {s:VS} {num i:Nat}:(overS s num i).ports.length=s.ports.length:=by
 unfold overS; split
 ·exact jav
 ·rfl
theorem overS_cfg {s:VS} {num i:Nat}:(overS s num i).cfg=s.cfg:=by
 unfold overS; split
 ·exact jb6
 ·rfl
theorem overS_get {s:VS} {num i:Nat}:(overS s num i).ports[i]? = s.ports[i]? := by
 unfold overS; split
 ·rename_i p h
  have:=List.mem_of_find?_eq_some h
  exact jbe (by simp at this; omega)
 ·rfl
theorem overS_elen {s:VS} {num i:Nat}:(overS s num i).ended.length≤s.ended.length+1:=by
 unfold overS; split
 ·exact jbm
 ·omega
theorem overS_no {s:VS} {num i:Nat} (h:overC s num i=false):overS s num (i+1)=overS s num i:=by
 unfold overS
 rw [List.range_succ,List.find?_append]
 simp [List.find?,h]
theorem overS_yes {s:VS} {num i:Nat} (u:Uniq s) (hi:i < s.ports.length) (h:overC s num i=true):overS s num (i+1)=Vbcnad.putOut (overS s num i) i:=by
 have hn:(List.range i).find? (overC s num)=none:=by
  rw [List.find?_eq_none]
  intro q hq hc
  simp at hq
  obtain ⟨y,hy⟩:=jan hi
  obtain ⟨z,hz⟩:=jan (s:=s) (Nat.lt_trans hq hi)
  unfold overC at h hc
  rw [jac hy] at h
  rw [jac hz] at hc
  simp at h hc
  obtain ⟨x,hx,e⟩:=h
  obtain ⟨w,hw,e'⟩:=hc
  have:=u i q y z x w hy hz hx hw (by omega)
  omega
 unfold overS
 rw [List.range_succ,List.find?_append,hn]
 simp [List.find?,h]
noncomputable def m_take_over (K:W.Frag) (T:Tb):MB:=(.cons (.for_ (.name 2) (.list (.fld (.var 0) "ports" 7 0)) (.cons (.if_ (.bol true (.cmp .IsNot rNotN (.fld (.var 2) "session" 1 1) .non) (.cons (.cmp .Eq rEq (.fld (.fld (.var 2) "session" 1 1) "number" 2 0) (.var 1)) .nil)) (.cons (.expr (.call "put_out" (sp_put_out K T) (.cons (.var 0) (.cons (.var 2) .nil))))
  .nil) .nil)
  .nil))
  .nil)
theorem w_take_over {K:W.Frag} {T:Tb}:Wk K T (sp_take_over K T) (m_take_over K T) ["world","number","port"]:=by
 intro vs H Q E h
 obtain ⟨loc,F,s,num,rfl,R,B,U,q⟩:=h
 have q:PostS T loc F Q (overS s num s.ports.length):=q
 simp_arith only [m_take_over,R.w]
 refine ⟨⟨_,.inl (.inl R.pl)⟩,?_⟩
 refine forL (K:=K) (a:=loc .PL) (xs:=(List.range s.ports.length).map fun p=>V.ref (loc (.po p)))
  (fun i σ H'=>∃ loc',Lk loc loc'∧Rep T loc' F H' (overS s num i)∧∃ v,σ=[some (.ref (loc .W)),some (.int num),v])
  ⟨loc,Lk.rfl',R,none,rfl⟩ ?_ ?_ ?_
 ·rintro i σ H' _ ⟨l',hl,R',_⟩
  have:=R'.pl
  simp only [overS_plen,hl.2.1,hl.2.2] at this
  exact .inl (.inl this)
 ·rintro i v σ H' hi ⟨l',hlk,R1,w1,rfl⟩
  rw [List.getElem?_map] at hi
  obtain ⟨p',hp,rfl⟩:=Option.map_eq_some_iff.mp hi
  have hlt:i < s.ports.length:=by
   rw [List.getElem?_eq_some_iff] at hp; simpa using hp.1
  rw [List.getElem?_range hlt] at hp
  cases hp
  obtain ⟨y,hy⟩:=jan hlt
  have hy1:(overS s num i).ports[i]? = some y:=by rw [overS_get]; exact hy
  rw [← hlk.2.2 i]
  cases hx:y.sess with
  | none =>
   simp_arith only [R1.po hy1,hx,soV,decide_true,Bool.not_true]
   exact ⟨l',hlk,by rw [overS_no (by simp [overC,jac hy,hx])]; exact R1⟩
  | some x =>
   simp_arith only [R1.po hy1,hx,soV,decide_false,Bool.not_false,R1.se hy1 hx,Int.natCast_inj]
   by_cases h:x.num=num
   ·rw [if_pos h]
    refine ⟨l',F,_,i,y,by rw [hlk.1],R1,hy1,by have:=overS_elen (s:=s) (num:=num) (i:=i); have:=B.el; omega,by rw [overS_cfg]; exact B.ct,fun H2 l2 hk2 R2=>?_⟩
    exact ⟨l2,hlk.trans hk2,by rw [overS_yes U hlt (by simp [overC,jac hy,hx,h])]; exact ⟨R2,_,rfl⟩⟩
   ·rw [if_neg h]
    exact ⟨l',hlk,by rw [overS_no (by simp [overC,jac hy,hx,h])]; exact R1⟩
 ·rintro σ H1 ⟨l',hlk,R1,w1,rfl⟩
  rw [List.length_map,List.length_range] at R1
  exact q _ _ hlk R1
inductive sp_take_got (K:W.Frag) (T:Tb) (vs:List V) (H:Hp) (Q:VK) (E0:XK):Prop | mk (loc F s num fr) (_:vs=[.ref (loc .W),.int (num:Nat),.int (fr:Nat)]) (_:Rep T loc F H s) (_:Bd s) (_:PostS T loc F Q { s with ended:=s.ended.filter fun x=>!(x.1 == num && x.2 == fr) })
theorem Lk.rl {loc:Lo} {d:Addr}:Lk loc (loc.put .RL d):=⟨Lo.put_ne (by simp),Lo.put_ne (by simp),fun q=>Lo.put_ne (by simp)⟩
theorem Lk.gl {loc:Lo} {d:Addr}:Lk loc (loc.put .GL d):=⟨Lo.put_ne (by simp),Lo.put_ne (by simp),fun q=>Lo.put_ne (by simp)⟩
theorem Lk.ul {loc:Lo} {d:Addr}:Lk loc (loc.put .UL d):=⟨Lo.put_ne (by simp),Lo.put_ne (by simp),fun q=>Lo.put_ne (by simp)⟩
theorem Lk.kd {loc:Lo} {d:Addr}:Lk loc (loc.put .KD d):=⟨Lo.put_ne (by simp),Lo.put_ne (by simp),fun q=>Lo.put_ne (by simp)⟩
noncomputable def m_take_got (K:W.Frag) (T:Tb):MB:=(.cons (.fset (.var 0) "records" 7 14 (.lc (.var 3) (.name 3) (.list (.fld (.var 0) "records" 7 14)) (.cons (.cmp .NotEq rNeP (.var 3) (.tup (.cons (.var 1) (.cons (.var 2) .nil)))) .nil) [("record",3)]))
  .nil)
theorem w_take_got {K:W.Frag} {T:Tb}:Wk K T (sp_take_got K T) (m_take_got K T) ["world","number","frames","record"]:=by
 intro vs H Q E h
 obtain ⟨loc,F,s,num,fr,rfl,R,B,q⟩:=h
 obtain ⟨ps,e,h1,h2⟩:=R.cell .RL
 have hpl:ps.length=s.ended.length:=by rw [← e,List.length_map]
 simp_arith [m_take_got,R.w]
 refine ⟨⟨_,.inl (.inl h1)⟩,fun D hD=>?_⟩
 refine lcL (K:=K) (a:=loc .RL) (xs:=ps.map fun x=>V.ref x.1)
  (fun i H'=>Same H H'∧H' D=some (.lst (((ps.take i).filter fun x=>!(x.2.1 == num && x.2.2 == fr)).map fun x=>V.ref x.1)))
  ⟨Same.fresh hD,jaa⟩ (fun i H' _ ⟨e,_⟩=>.inl (.inl (e _ _ h1))) ?_ ?_
 ·rintro i v H' hi ⟨e1,hacc⟩
  rw [List.getElem?_map] at hi
  obtain ⟨x,hx,rfl⟩:=Option.map_eq_some_iff.mp hi
  have hx1:=e1 _ _ (h2 x (List.mem_of_getElem? hx))
  simp_arith [two_sz,HO.tup.injEq]
  intro t ht
  have ne1:x.1≠t:=jab hx1 ht
  have ne2:D≠t:=jab hacc ht
  simp_arith only [upd_ne ne1,upd_ne ne2,hx1,hacc,HO.tup.injEq,HO.lst.injEq,List.length_map]
  have hle:((ps.take i).filter fun x=>!(x.2.1 == num && x.2.2 == fr)).length≤1000000:=by
   refine Nat.le_trans (List.length_filter_le _ _) ?_
   rw [List.length_take]
   have:=B.el
   omega
  have z:=szl
  have e3:((x.2.1:Int) == (num:Int) && (x.2.2:Int) == (fr:Int))=(x.2.1 == num && x.2.2 == fr):=by
   congr 1 <;> (rw [Bool.eq_iff_iff]; simp <;> omega)
  rw [e3]
  by_cases hc:(!(x.2.1 == num && x.2.2 == fr))=true
  ·rw [if_pos hc]
   refine ⟨by omega,fun b o h=>?_,?_⟩
   ·rw [upd_ne (jab h hD),upd_ne (jab (e1 _ _ h) ht)]; exact e1 _ _ h
   ·rw [take1 hx,List.filter_append,List.map_append,List.filter_cons,if_pos hc]; rfl
  ·rw [if_neg hc]
   refine ⟨e1.trans (Same.fresh ht),?_⟩
   rw [take1 hx,List.filter_append,List.filter_cons,if_neg hc]; simp
 ·rintro H' ⟨e1,hacc⟩
  rw [List.take_of_length_le (by simp)] at hacc
  have R1:=(R.grow e1).adopt hacc (fun r hu=>R.ne_new hD hu)
  simp_arith [R1.w]
  have R2:=R1.recNew (R.free hD) (fun x hx=>e1 _ _ (h2 x (List.mem_filter.mp hx).1))
  have e4:(ps.filter fun x=>!(x.2.1 == num && x.2.2 == fr)).map (·.2)=s.ended.filter fun x=>!(x.1 == num && x.2 == fr):=by
   rw [← e,List.filter_map]; rfl
  rw [e4] at R2
  simp_arith only [and_assoc] at R2
  exact q _ _ Lk.rl R2
inductive SwM:Vbcnad.Msg→Prop
 | ask (p n c:Nat):SwM (.ask p n c)
 | yes (p n u v l g:Nat):SwM (.yes p n u v l g)
 | no (p n:Nat):SwM (.no p n)
 | over (u:Nat):SwM (.over u)
 | got (u f:Nat):SwM (.got u f)
inductive sp_switch_takes (K:W.Frag) (T:Tb) (vs:List V) (H:Hp) (Q:VK) (E0:XK):Prop | mk (loc F s a m) (_:vs=[.ref (loc .W),.ref a]) (_:Rep T loc F H s) (_:H a=some (.tup (msgV m))) (_:SwM m) (_:Bd s) (_:Uniq s) (_:MOk s.ports.length m) (_:PostS T loc F Q (Vbcnad.takes s m))
noncomputable def m_switch_takes (K:W.Frag) (T:Tb):MB:=(.cons (.if_ (.cmp .Eq rEq (.ix rIxU (.var 1) (.int 0)) (.glo "CHALLENGE" (.int 3))) (.cons (.expr (.call "take_challenge" (sp_take_challenge K T) (.cons (.var 0) (.cons (.ix rIxH (.fld (.var 0) "ports" 7 0) (.ix rIxU (.var 1) (.int 1))) (.cons (.ix rIxU (.var 1) (.int 2)) (.cons (.ix rIxU (.var 1) (.int 3)) .nil))))))
  .nil) (.cons (.if_ (.cmp .Eq rEq (.ix rIxU (.var 1) (.int 0)) (.glo "YES" (.int 4))) (.cons (.expr (.call "take_yes" (sp_take_yes K T) (.cons (.var 0) (.cons (.var 1) .nil))))
  .nil) (.cons (.if_ (.cmp .Eq rEq (.ix rIxU (.var 1) (.int 0)) (.glo "NO" (.int 5))) (.cons (.expr (.call "take_no" (sp_take_no K T) (.cons (.var 0) (.cons (.ix rIxH (.fld (.var 0) "ports" 7 0) (.ix rIxU (.var 1) (.int 1))) (.cons (.ix rIxU (.var 1) (.int 2)) .nil)))))
  .nil) (.cons (.if_ (.cmp .Eq rEq (.ix rIxU (.var 1) (.int 0)) (.glo "OVER" (.int 6))) (.cons (.expr (.call "take_over" (sp_take_over K T) (.cons (.var 0) (.cons (.ix rIxU (.var 1) (.int 1)) .nil))))
  .nil) (.cons (.expr (.call "take_got" (sp_take_got K T) (.cons (.var 0) (.cons (.ix rIxU (.var 1) (.int 1)) (.cons (.ix rIxU (.var 1) (.int 2)) .nil)))))
  .nil))
  .nil))
  .nil))
  .nil))
  .nil)
theorem w_switch_takes {K:W.Frag} {T:Tb}:Wk K T (sp_switch_takes K T) (m_switch_takes K T) ["world","message"]:=by
 intro vs H Q E h
 obtain ⟨loc,F,s,a,m,rfl,R,ha,hm,B,U,hp,q⟩:=h
 cases hm
 case ask p n c =>
  obtain ⟨y,hy⟩:=jan hp
  simp only [msgV,Vbcnad.msgShown,List.map_cons,List.map_nil] at ha
  simp_arith [m_switch_takes,ha,HO.tup.injEq,atI_0,atI_1,atI_2,atI_3,R.w,R.pl,HO.lst.injEq,R.ix hy]
  exact ⟨loc,F,s,p,y,n,c,rfl,R,hy,q⟩
 case yes p n u v l g =>
  obtain ⟨y,hy⟩:=jan hp
  have ha':=ha
  simp only [msgV,Vbcnad.msgShown,List.map_cons,List.map_nil] at ha'
  simp_arith [m_switch_takes,ha',HO.tup.injEq,atI_0,atI_1,atI_2,atI_3,R.w,R.pl,HO.lst.injEq,R.ix hy]
  exact ⟨loc,F,s,a,p,y,n,u,v,l,g,rfl,R,ha,hy,B,q⟩
 case no p n =>
  obtain ⟨y,hy⟩:=jan hp
  simp only [msgV,Vbcnad.msgShown,List.map_cons,List.map_nil] at ha
  simp_arith [m_switch_takes,ha,HO.tup.injEq,atI_0,atI_1,atI_2,atI_3,R.w,R.pl,HO.lst.injEq,R.ix hy]
  exact ⟨loc,F,s,p,y,n,rfl,R,hy,B,q⟩
 case over u =>
  simp only [msgV,Vbcnad.msgShown,List.map_cons,List.map_nil] at ha
  simp_arith [m_switch_takes,ha,HO.tup.injEq,atI_0,atI_1,atI_2,atI_3,R.w,R.pl,HO.lst.injEq]
  exact ⟨loc,F,s,u,rfl,R,B,U,q⟩
 case got u f =>
  simp only [msgV,Vbcnad.msgShown,List.map_cons,List.map_nil] at ha
  simp_arith [m_switch_takes,ha,HO.tup.injEq,atI_0,atI_1,atI_2,atI_3,R.w,R.pl,HO.lst.injEq]
  exact ⟨loc,F,s,u,f,rfl,R,B,q⟩
section
variable {T:Tb} {loc loc':Lo} {F F' H H':Hp} {s s':VS} {x x':Vbcnad.Person}
noncomputable abbrev Srt (l:List Vbcnad.Person):Prop:=l.Pairwise fun a b=>a.id < b.id
theorem srt_uniq:∀ {l:List Vbcnad.Person},Srt l→∀ {a b},a ∈ l→b ∈ l→a.id=b.id→a=b
 | c :: l,h,a,b,ha,hb,e=>by
  have h:=List.pairwise_cons.mp h
  rcases List.mem_cons.mp ha with h1 | h1
  ·rcases List.mem_cons.mp hb with h2 | h2
   ·rw [h1,h2]
   ·have:=h.1 b h2; rw [h1] at e; omega
  ·rcases List.mem_cons.mp hb with h2 | h2
   ·have:=h.1 a h1; rw [h2] at e; omega
   ·exact srt_uniq h.2 h1 h2 e
theorem ja4:∀ {l:List Vbcnad.Person},Srt l→x ∈ l→x'.id=x.id→Vbcnad.putPerson x' l=l.map fun y=>if y.id=x'.id then x' else y
 | c :: l,h,hx,e=>by
  have h:=List.pairwise_cons.mp h
  unfold Vbcnad.putPerson
  by_cases h1:x'.id=c.id
  ·rw [if_pos h1,List.map_cons,if_pos h1.symm]
   congr 1
   symm
   refine (List.map_congr_left fun y hy=>?_).trans (List.map_id' l)
   have:=h.1 y hy
   rw [if_neg (by omega)]
  ·rw [if_neg h1]
   have hx':x ∈ l:=by
    rcases List.mem_cons.mp hx with rfl | hx
    ·exact absurd e h1
    ·exact hx
   have:=h.1 x hx'
   rw [if_neg (by omega),List.map_cons,if_neg (fun z=>h1 z.symm),ja4 h.2 hx' e]
theorem jch:∀ {l:List Vbcnad.Person},(∀ y ∈ l,y.id≠x.id)→(Vbcnad.putPerson x l).Perm (x :: l)
 | [],_=>.refl _
 | c :: l,h=>by
  unfold Vbcnad.putPerson
  rw [if_neg (fun z=>h c List.mem_cons_self z.symm)]
  split
  ·exact .refl _
  ·exact ((jch fun y hy=>h y (List.mem_cons_of_mem _ hy)).cons c).trans (.swap x c l)
noncomputable def pkv (loc:Lo) (x:Vbcnad.Person):Key×V:=(Sum.inl (x.id:Int),V.ref (loc (.pe x.id)))
theorem Rep.pd (R:Rep T loc F H s):∃ kvs:List (Key×V),H (loc .PD)=some (.dK kvs)∧kvs.length=s.persons.length∧kvs.Perm (s.persons.map (pkv loc)) ∧
  (∀ x ∈ s.persons,valV kvs (Sum.inl (x.id:Int))=some (.ref (loc (.pe x.id))))∧(∀ z:Int,(∀ x ∈ s.persons,(x.id:Int)≠z)→valV kvs (Sum.inl z)=none):=by
 obtain ⟨kvs,h1,h2⟩:=R.cell .PD
 refine ⟨kvs,h1,by rw [h2.length_eq,List.length_map],h2,fun x hx=>?_,fun z hz=>?_⟩
 ·unfold valV
  cases hf:kvs.find? fun kv=>decide (kv.1=Sum.inl (x.id:Int)) with
  | none =>
   rw [List.find?_eq_none] at hf
   exact absurd (decide_eq_true rfl) (hf _ (h2.mem_iff.mpr (List.mem_map.mpr ⟨x,hx,rfl⟩)))
  | some q =>
   have hq:=List.mem_of_find?_eq_some hf
   have hk:=List.find?_some hf
   simp only [decide_eq_true_eq] at hk
   obtain ⟨y,hy,rfl⟩:=List.mem_map.mp (h2.mem_iff.mp hq)
   simp only [Sum.inl.injEq,Int.natCast_inj] at hk
   rw [hk]; rfl
 ·unfold valV
  cases hf:kvs.find? fun kv=>decide (kv.1=Sum.inl z) with
  | none=>rfl
  | some q =>
   have hq:=List.mem_of_find?_eq_some hf
   have hk:=List.find?_some hf
   simp only [decide_eq_true_eq] at hk
   obtain ⟨y,hy,rfl⟩:=List.mem_map.mp (h2.mem_iff.mp hq)
   simp only [Sum.inl.injEq] at hk
   exact absurd hk (hz y hy)
theorem Rep.pe (R:Rep T loc F H s) (hx:x ∈ s.persons):getV T 3 (H (loc (.pe x.id)))=some (peV loc x):=R.cell (.pe x.id) x hx rfl
theorem Rep.gr (R:Rep T loc F H s) (hx:x ∈ s.persons):H (loc (.gr x.id))=some (.lst (grV x.groups)):=R.cell (.gr x.id) x hx rfl
theorem jam (s:VS) (hs:∀ x ∈ s.persons,x.id≤4294967295) (id:Int) :
  ((if Vbcnad.isId id=true then Vbcnad.personOf s id.toNat else none)=none∧(Vbcnad.isId id && (Vbcnad.personOf s id.toNat).isSome)=false∧∀ x ∈ s.persons,(x.id:Int)≠id) ∨
  ∃ x,x ∈ s.persons∧id=(x.id:Int)∧Vbcnad.isId id=true∧Vbcnad.personOf s x.id=some x:=by
 by_cases h:Vbcnad.isId id=true
 ·obtain ⟨n,rfl⟩:∃ n:Nat,id=n:=Int.eq_ofNat_of_zero_le (by unfold Vbcnad.isId Vbcnad.within at h; simp at h; omega)
  cases hf:Vbcnad.personOf s n with
  | none =>
   refine .inl ⟨by rw [if_pos h,Int.toNat_natCast]; exact hf,by rw [Int.toNat_natCast,hf]; simp,fun x hx e=>?_⟩
   unfold Vbcnad.personOf at hf
   rw [List.find?_eq_none] at hf
   have:=hf x hx
   simp at this; omega
  | some x =>
   have h1:=List.mem_of_find?_eq_some hf
   have h2:=List.find?_some hf
   simp only [beq_iff_eq] at h2
   subst h2
   exact .inr ⟨x,h1,rfl,h,hf⟩
 ·refine .inl ⟨by rw [if_neg h],by rw [Bool.not_eq_true] at h; rw [h]; rfl,fun x hx e=>?_⟩
  have:=hs x hx
  apply h
  unfold Vbcnad.isId Vbcnad.within
  simp; omega
theorem ja9 {y:Vbcnad.Person} (h:Srt s.persons) (hx:x ∈ s.persons) (e:x'.id=x.id) (hy:y ∈ Vbcnad.putPerson x' s.persons):(y=x'∧y.id=x.id)∨(y ∈ s.persons∧y.id≠x.id):=by
 rw [ja4 h hx e] at hy
 obtain ⟨z,hz,rfl⟩:=List.mem_map.mp hy
 by_cases q:z.id=x'.id
 ·rw [if_pos q]; exact .inl ⟨rfl,e⟩
 ·rw [if_neg q]; exact .inr ⟨hz,fun r=>q (r.trans e.symm)⟩
theorem put_keys (h:Srt s.persons) (hx:x ∈ s.persons) (e:x'.id=x.id):(Vbcnad.putPerson x' s.persons).map (pkv loc)=s.persons.map (pkv loc):=by
 rw [ja4 h hx e,List.map_map]
 refine List.map_congr_left fun y _=>?_
 by_cases q:y.id=x'.id
 ·simp only [Function.comp,q,if_true,pkv]
 ·simp only [Function.comp,if_neg q]
theorem used_put (h:Srt s.persons) (hx:x ∈ s.persons) (e:x'.id=x.id) (r:Ro) (hu:Used (Vbcnad.onPerson s x') r):Used s r:=by
 cases r with
 | pe i =>
  obtain ⟨y,hy,hi⟩:=hu
  rcases ja9 h hx e hy with ⟨_,q⟩ | ⟨q,_⟩
  ·exact ⟨x,hx,by omega⟩
  ·exact ⟨y,q,hi⟩
 | gr i =>
  obtain ⟨y,hy,hi⟩:=hu
  rcases ja9 h hx e hy with ⟨_,q⟩ | ⟨q,_⟩
  ·exact ⟨x,hx,by omega⟩
  ·exact ⟨y,q,hi⟩
 | _=>exact hu
theorem Rep.persSet (R:Rep T loc F H s) (h:Srt s.persons) (hx:x ∈ s.persons) (e:x'.id=x.id) (eg:x'.groups=x.groups):Rep T loc F (setV T 3 H (loc (.pe x.id)) (peV loc x')) (Vbcnad.onPerson s x'):=by
 obtain ⟨dx,_,ee⟩:=jar (vs:=peV loc x') (R.pe hx)
 rw [ee]
 refine R.wr (r0:=.pe x.id) ⟨x,hx,rfl⟩ (used_put h hx e) ?_ (fun r hr hc=>?_)
 ·intro y hy hi
  rcases ja9 h hx e hy with ⟨rfl,_⟩ | ⟨_,q⟩
  ·rw [jaa]; exact jae (Nat.le_refl _)
  ·exact absurd hi q
 ·cases r with
  | PD =>
   obtain ⟨kvs,h1,h2⟩:=hc
   refine ⟨kvs,h1,?_⟩
   have:(Vbcnad.putPerson x' s.persons).map (pkv loc)=_:=put_keys h hx e
   exact (show kvs.Perm ((Vbcnad.putPerson x' s.persons).map (pkv loc)) by rw [this]; exact h2)
  | pe i =>
   intro y hy hi
   rcases ja9 h hx e hy with ⟨_,q⟩ | ⟨q,_⟩
   ·exact absurd (by rw [← hi,q]) hr
   ·exact hc y q hi
  | gr i =>
   intro y hy hi
   rcases ja9 h hx e hy with ⟨rfl,q⟩ | ⟨q,_⟩
   ·rw [eg]; exact hc x hx (by omega)
   ·exact hc y q hi
  | _=>exact hc
theorem Rep.grpSet (R:Rep T loc F H s) (h:Srt s.persons) (hx:x ∈ s.persons) (g:List Nat):Rep T loc F (upd H (loc (.gr x.id)) (.lst (grV g))) (Vbcnad.onPerson s { x with groups:=g }):=by
 have e:({ x with groups:=g }:Vbcnad.Person).id=x.id:=rfl
 refine R.wr (r0:=.gr x.id) ⟨x,hx,rfl⟩ (used_put h hx e) ?_ (fun r hr hc=>?_)
 ·intro y hy hi
  rcases ja9 h hx e hy with ⟨rfl,_⟩ | ⟨_,q⟩
  ·rw [jaa]
  ·exact absurd hi q
 ·cases r with
  | PD =>
   obtain ⟨kvs,h1,h2⟩:=hc
   refine ⟨kvs,h1,?_⟩
   have:(Vbcnad.putPerson { x with groups:=g } s.persons).map (pkv loc)=_:=put_keys h hx e
   exact (show kvs.Perm ((Vbcnad.putPerson { x with groups:=g } s.persons).map (pkv loc)) by rw [this]; exact h2)
  | pe i =>
   intro y hy hi
   rcases ja9 h hx e hy with ⟨rfl,q⟩ | ⟨q,_⟩
   ·exact hc x hx (by omega)
   ·exact hc y q hi
  | gr i =>
   intro y hy hi
   rcases ja9 h hx e hy with ⟨rfl,q⟩ | ⟨q,_⟩
   ·exact absurd (by rw [← hi]) hr
   ·exact hc y q hi
  | _=>exact hc
theorem Rep.persDrop (R:Rep T loc F H s) {kvs:List (Key×V)} (h1:H (loc .PD)=some (.dK kvs)) (hp:kvs.Perm (s.persons.map (pkv loc))) (n:Nat) :
  Rep T loc F (upd H (loc .PD) (.dK (dropK kvs (Sum.inl (n:Int))))) { s with persons:=s.persons.filter fun x=>x.id != n }:=by
 refine R.wr (r0:=.PD) trivial (fun r hu=>?_) ?_ (fun r hr hc=>?_)
 ·cases r with
  | pe i=>obtain ⟨y,hy,hi⟩:=hu; exact ⟨y,(List.mem_filter.mp hy).1,hi⟩
  | gr i=>obtain ⟨y,hy,hi⟩:=hu; exact ⟨y,(List.mem_filter.mp hy).1,hi⟩
  | _=>exact hu
 ·refine ⟨_,jaa,?_⟩
  have:=hp.filter (fun kv=>decide (kv.1≠Sum.inl (n:Int)))
  rw [List.filter_map] at this
  refine this.trans ?_
  show List.Perm _ (List.map (pkv loc) _)
  rw [show (s.persons.filter ((fun kv=>decide (kv.1≠Sum.inl (n:Int))) ∘ pkv loc))=s.persons.filter fun x=>x.id != n from ?_]
  refine List.filter_congr fun y _=>?_
  rw [Bool.eq_iff_iff]
  simp [pkv,Function.comp]; omega
 ·cases r with
  | PD=>exact absurd rfl hr
  | pe i=>exact fun y hy hi=>hc y (List.mem_filter.mp hy).1 hi
  | gr i=>exact fun y hy hi=>hc y (List.mem_filter.mp hy).1 hi
  | _=>exact hc
theorem Rep.persNew {g a dx:Addr} (R:Rep T loc (upd (upd F g (.lst (grV x.groups))) a (T.ob 3 dx [.int x.secret,.int x.hw,.int x.barred.toNat,.ref g,.int x.wrong,.int x.locked])) H s) (hg:F g=none) (ha:F a=none) (hga:g≠a)
  {kvs:List (Key×V)} (h1:H (loc .PD)=some (.dK kvs)) (hp:kvs.Perm (s.persons.map (pkv loc))) (hn:∀ y ∈ s.persons,y.id≠x.id) (hv:valV kvs (Sum.inl (x.id:Int))=none) :
  Rep T ((loc.put (.gr x.id) g).put (.pe x.id) a) F (upd H (loc .PD) (.dK (putK kvs (Sum.inl (x.id:Int)) (.ref a)))) (Vbcnad.onPerson s x):=by
 have hperm:=jch (x:=x) hn
 have hmem:∀ y,y ∈ (Vbcnad.onPerson s x).persons↔y=x∨y ∈ s.persons:=fun y=>by
  rw [show y ∈ (Vbcnad.onPerson s x).persons↔y ∈ x :: s.persons from hperm.mem_iff,List.mem_cons]
 have hU:∀ r,Used (Vbcnad.onPerson s x) r→r=.pe x.id∨r=.gr x.id∨(Used s r∧r≠.pe x.id∧r≠.gr x.id):=fun r hu=>by
  cases r with
  | pe i =>
   obtain ⟨y,hy,rfl⟩:=hu
   rcases (hmem y).mp hy with rfl | hy
   ·exact .inl rfl
   ·exact .inr (.inr ⟨⟨y,hy,rfl⟩,by simpa using hn y hy,by simp⟩)
  | gr i =>
   obtain ⟨y,hy,rfl⟩:=hu
   rcases (hmem y).mp hy with rfl | hy
   ·exact .inr (.inl rfl)
   ·exact .inr (.inr ⟨⟨y,hy,rfl⟩,by simp,by simpa using hn y hy⟩)
  | _=>exact .inr (.inr ⟨hu,by simp,by simp⟩)
 have Fa:upd (upd F g (.lst (grV x.groups))) a (T.ob 3 dx [.int x.secret,.int x.hw,.int x.barred.toNat,.ref g,.int x.wrong,.int x.locked]) a=some (T.ob 3 dx [.int x.secret,.int x.hw,.int x.barred.toNat,.ref g,.int x.wrong,.int x.locked]):=jaa
 have Fg:upd (upd F g (.lst (grV x.groups))) a (T.ob 3 dx [.int x.secret,.int x.hw,.int x.barred.toNat,.ref g,.int x.wrong,.int x.locked]) g=some (.lst (grV x.groups)):=by rw [upd_ne hga,jaa]
 have hda:∀ r,Used s r→loc r≠a:=fun r h=>R.off a _ Fa r h
 have hdg:∀ r,Used s r→loc r≠g:=fun r h=>R.off g _ Fg r h
 have lpe:((loc.put (.gr x.id) g).put (.pe x.id) a) (.pe x.id)=a:=Lo.put_same
 have lgr:((loc.put (.gr x.id) g).put (.pe x.id) a) (.gr x.id)=g:=by rw [Lo.put_ne (by simp),Lo.put_same]
 have lot:∀ r,r≠.pe x.id→r≠.gr x.id→((loc.put (.gr x.id) g).put (.pe x.id) a) r=loc r:=fun r h1 h2=>by rw [Lo.put_ne h1,Lo.put_ne h2]
 have hF:∀ b u,F b=some u→b≠a∧b≠g∧upd (upd F g (.lst (grV x.groups))) a (T.ob 3 dx [.int x.secret,.int x.hw,.int x.barred.toNat,.ref g,.int x.wrong,.int x.locked]) b=some u:=fun b u e=>by
  have q1:b≠a:=jab e ha
  have q2:b≠g:=jab e hg
  exact ⟨q1,q2,by rw [upd_ne q1,upd_ne q2]; exact e⟩
 refine ⟨R.ti,fun b u e=>?_,fun b u e r hu=>?_,fun r r' hu hu' e=>?_,fun r=>?_⟩
 ·obtain ⟨_,_,e'⟩:=hF b u e
  rw [upd_ne (fun q=>R.off b u e' .PD trivial q.symm)]; exact R.fr b u e'
 ·obtain ⟨q1,q2,e'⟩:=hF b u e
  rcases hU r hu with rfl | rfl | ⟨h,n1,n2⟩
  ·rw [lpe]; exact q1.symm
  ·rw [lgr]; exact q2.symm
  ·rw [lot r n1 n2]; exact R.off b u e' r h
 ·rcases hU r hu with rfl | rfl | ⟨h,n1,n2⟩ <;> rcases hU r' hu' with rfl | rfl | ⟨h',n1',n2'⟩
  ·rfl
  ·rw [lpe,lgr] at e; exact absurd e.symm hga
  ·rw [lpe,lot r' n1' n2'] at e; exact absurd e.symm (hda r' h')
  ·rw [lpe,lgr] at e; exact absurd e hga
  ·rfl
  ·rw [lgr,lot r' n1' n2'] at e; exact absurd e.symm (hdg r' h')
  ·rw [lpe,lot r n1 n2] at e; exact absurd e (hda r h)
  ·rw [lgr,lot r n1 n2] at e; exact absurd e (hdg r h)
  ·rw [lot r n1 n2,lot r' n1' n2'] at e; exact R.inj r r' h h' e
 ·have kp:∀ r,r≠.PD→Cell T loc (upd H (loc .PD) (.dK (putK kvs (Sum.inl (x.id:Int)) (.ref a)))) s r:=fun r q =>
   (R.cell r).keep (Kp.soft (R.soft (r:=.PD) trivial)) fun h=>upd_ne fun e=>q (R.inj r .PD h trivial e)
  have H1a:upd H (loc .PD) (.dK (putK kvs (Sum.inl (x.id:Int)) (.ref a))) a=some (T.ob 3 dx [.int x.secret,.int x.hw,.int x.barred.toNat,.ref g,.int x.wrong,.int x.locked]):=by
   rw [upd_ne (hda .PD trivial).symm]; exact R.fr _ _ Fa
  have H1g:upd H (loc .PD) (.dK (putK kvs (Sum.inl (x.id:Int)) (.ref a))) g=some (.lst (grV x.groups)):=by
   rw [upd_ne (hdg .PD trivial).symm]; exact R.fr _ _ Fg
  cases r with
  | PD =>
   refine ⟨putK kvs (Sum.inl (x.id:Int)) (.ref a),jaa,?_⟩
   rw [putK_new _ hv]
   refine (List.perm_append_singleton _ _).trans ?_
   have e2:∀ y ∈ s.persons,(Sum.inl (y.id:Int),V.ref (((loc.put (.gr x.id) g).put (.pe x.id) a) (.pe y.id)))=pkv loc y:=fun y hy=>by
    rw [lot _ (by simpa using hn y hy) (by simp)]; rfl
   refine List.Perm.trans ?_ (hperm.map _).symm
   rw [List.map_cons,lpe,List.map_congr_left e2]
   exact hp.cons _
  | pe i =>
   intro y hy hi
   rcases (hmem y).mp hy with rfl | hy
   ·subst hi
    rw [lpe,H1a,jae (Nat.le_refl _)]
    unfold peV; rw [lgr]
   ·have:=kp (.pe i) (by simp) y hy hi
    rw [lot _ (by subst hi; simpa using hn y hy) (by simp),this]
    unfold peV
    rw [lot _ (by simp) (by simpa using hn y hy)]
  | gr i =>
   intro y hy hi
   rcases (hmem y).mp hy with rfl | hy
   ·subst hi; rw [lgr]; exact H1g
   ·rw [lot _ (by simp) (by subst hi; simpa using hn y hy)]; exact kp (.gr i) (by simp) y hy hi
  | W=>exact kp .W (by simp)
  | PL=>exact kp .PL (by simp)
  | BL=>exact kp .BL (by simp)
  | RL=>exact kp .RL (by simp)
  | UL=>exact kp .UL (by simp)
  | GL=>exact kp .GL (by simp)
  | KD=>exact kp .KD (by simp)
  | AD=>exact kp .AD (by simp)
  | po q=>exact kp (.po q) (by simp)
  | st q=>exact kp (.st q) (by simp)
  | se q=>exact kp (.se q) (by simp)
  | ak q=>exact kp (.ak q) (by simp)
end
theorem upd_comm {H:Hp} {a b:Addr} {o u:HO} (h:a≠b):upd (upd H a o) b u=upd (upd H b u) a o:=by
 funext c
 unfold upd
 by_cases h1:c=a
 ·subst h1; rw [if_neg h,if_pos rfl,if_pos rfl]
 ·by_cases h2:c=b
  ·subst h2; rw [if_pos rfl,if_neg h1,if_pos rfl]
  ·rw [if_neg h2,if_neg h1,if_neg h1,if_neg h2]
structure MT (K:W.Frag) (T:Tb):Prop where
 sz:∀ H,SqT K H (T.glo 0) (([10,3,1,2,3,8,0,2,2,1,1,3,3,2,3,1,0,1,1,1,0,0,2,1,0,1,1,0]:List Int).map V.int)
 rr:Rgs K (T.glo 1) [(0,63),(0,63),(0,63),(0,86399),(0,86399),(1,4094),(1,1000000),(1,1000000)]
 br:Rgs K (T.glo 2) [(1,64),(1,1024),(1,1000000),(1,10),(1,1000000),(1,10),(1,1000000),(1,1000000),(1,256),(1,1024)]
inductive sp_init_Person (T:Tb) (vs:List V) (H:Hp) (Q:VK) (E0:XK):Prop | mk (loc F s x dx a b) (_:vs=[.ref x,a,b]) (_:F x=none) (_:Rep T loc (upd F x (T.ob 3 dx [])) H s) (_:∀ H' g,F g=none→g≠x→Rep T loc (upd (upd F g (.lst (grV []))) x (T.ob 3 dx [a,b,.int 0,.ref g,.int 0,.int 0])) H' s→Q .non H')
theorem grV_rep:(List.replicate (63+1:Int).toNat [V.int 0]).flatten=grV []:=by decide
noncomputable def m_init_Person (K:W.Frag) (T:Tb):MB:=(.cons (.fset (.var 0) "secret" 3 0 (.var 1))
  (.cons (.fset (.var 0) "host" 3 1 (.var 2))
  (.cons (.fset (.var 0) "barred" 3 2 (.int 0))
  (.cons (.fset (.var 0) "groups" 3 3 (.op .Mult rRep (.lst (.cons (.int 0) .nil)) (.op .Add (rI0 fun i j=>.int (i+j)) (.glo "MOST_GROUP" (.int 63)) (.int 1))))
  (.cons (.fset (.var 0) "wrong" 3 4 (.int 0))
  (.cons (.fset (.var 0) "locked" 3 5 (.int 0))
  .nil))))))
theorem w_init_Person {K:W.Frag} {T:Tb}:Wk K T (sp_init_Person T) (m_init_Person K T) ["self","secret","host"]:=by
 intro vs H Q E h
 obtain ⟨loc,F,s,x,dx,a,b,rfl,hx,R,q⟩:=h
 simp_arith only [m_init_Person,R.ownH,jao R.ownH,one_sz]
 have R1:=R.ownSet (by decide) (by decide) (by decide) (Nat.zero_le _) [a,b,.int 0]
 intro t ht
 have R2:=R1.junk (o:=.lst [.int 0]) ht
 have hxt:x≠t:=jab R1.ownH ht
 refine ⟨[V.int 0],rfl,by decide,by decide,by decide,fun g hg=>?_⟩
 rw [grV_rep]
 have R3:=R2.new (o:=.lst (grV [])) hg
 have hxg:x≠g:=jab R2.ownH hg
 have hFg:F g=none:=by
  have:=R2.free hg
  rw [upd_ne hxg.symm] at this; exact this
 rw [upd_comm hxg] at R3
 have R4:=R3.ownSet (by decide) (by decide) (by decide) (by show 3≤6; decide) [a,b,.int 0,.ref g,.int 0,.int 0]
 simp_arith only [R3.ownH,jao R3.ownH]
 exact q _ g hFg hxg.symm R4
theorem sz64:64≤sizeLine:=by decide
inductive sp_has_host (K:W.Frag) (T:Tb) (vs:List V) (H:Hp) (Q:VK) (E0:XK):Prop | mk (loc F s h) (_:vs=[.ref (loc .W),.int h]) (_:Rep T loc F H s) (_:Srt s.persons) (_:s.persons.length≤256) (_:∀ H',Same H H'→Q (.bl (s.persons.any fun x=>(x.hw:Int) == h)) H')
noncomputable def m_has_host (K:W.Frag) (T:Tb):MB:=(.cons (.ret (.bif "any" "any" rAnyH (.cons (.lock (.lc (.cmp .Eq rEq (.fld (.var 2) "host" 3 1) (.var 1)) (.name 2) (.vals (.fld (.var 0) "persons" 7 15)) .nil [("person",2)])) .nil)))
  .nil)
theorem w_has_host {K:W.Frag} {T:Tb}:Wk K T (sp_has_host K T) (m_has_host K T) ["world","host","person"]:=by
 intro vs H Q E h
 obtain ⟨loc,F,s,h,rfl,R,hS,hl,q⟩:=h
 obtain ⟨kvs,h1,h2,h3,_,_⟩:=R.pd
 refine ⟨loc .PD,.dK kvs,h1,trivial,fun od=>?_⟩
 have nW:loc .W≠loc .PD:=fun e=>by cases R.inj .W .PD trivial trivial e
 have hw:getV T 7 (upd H (loc .PD) (.frz od (.dK kvs)) (loc .W))=some (woV loc s):=by rw [upd_ne nW]; exact R.w
 simp_arith only [hw]
 refine ⟨od,kvs,rfl,fun D hD=>?_⟩
 have hDn:D≠loc .PD:=fun e=>by subst e; rw [jaa] at hD; cases hD
 have hD0:H D=none:=by rw [upd_ne hDn] at hD; exact hD
 refine lcV (d:=loc .PD) (o:=od) (kvs:=kvs)
  (fun i H'=>(∀ b o,H b=some o→b≠loc .PD→H' b=some o)∧H' (loc .PD)=some (.frz od (.dK kvs))∧∃ xs:List Vbcnad.Person,kvs.take i=xs.map (pkv loc)∧(∀ x ∈ xs,x ∈ s.persons)∧H' D=some (.lst (xs.map fun x=>.bl (decide ((x.hw:Int)=h)))))
  ⟨fun b o e n=>by rw [upd_ne (jab e hD0),upd_ne n]; exact e,by rw [upd_ne hDn.symm,jaa],[],rfl,fun x hx=>(by cases hx),jaa⟩ (fun i H' _ ⟨_,e,_⟩=>e) ?_ ?_
 ·rintro i k v H' hi ⟨e1,e2,xs,e3,e4,e5⟩
  obtain ⟨x,hx,ex⟩:=List.mem_map.mp (h3.mem_iff.mp (List.mem_of_getElem? hi))
  have hk:(k,v)=pkv loc x:=ex.symm
  have hv:v=.ref (loc (.pe x.id)):=congrArg Prod.snd hk
  subst hv
  have nP:loc (.pe x.id)≠loc .PD:=fun e=>by cases R.inj (.pe x.id) .PD ⟨x,hx,rfl⟩ trivial e
  obtain ⟨dx,ho,_⟩:=jai (R.pe hx)
  have hp:getV T 3 (H' (loc (.pe x.id)))=some (peV loc x):=by rw [e1 _ _ ho nP]; exact jae (Nat.le_refl _)
  simp_arith only [hp,e5,HO.lst.injEq,List.length_map,V.int.injEq]
  have hle:xs.length≤i:=by
   have:=congrArg List.length e3
   rw [List.length_take,List.length_map] at this; omega
  have hik:i < kvs.length:=(List.getElem?_eq_some_iff.mp hi).1
  have z:=szl
  refine ⟨by omega,fun b o e n=>?_,?_,xs ++ [x],?_,?_,?_⟩
  ·rw [upd_ne (jab e hD0)]; exact e1 _ _ e n
  ·rw [upd_ne hDn.symm]; exact e2
  ·rw [take1 hi,e3,List.map_append,hk]; rfl
  ·intro y hy
   rcases List.mem_append.mp hy with hy | hy
   ·exact e4 y hy
   ·rw [List.mem_singleton.mp hy]; exact hx
  ·rw [List.map_append]; rfl
 ·rintro H' ⟨e1,e2,xs,e3,e4,e5⟩
  rw [List.take_of_length_le (Nat.le_refl _)] at e3
  have nD:D≠loc .PD:=hDn
  refine ⟨e2,_,rfl,xs.map fun x=>decide ((x.hw:Int)=h),by rw [upd_ne nD,e5,List.map_map]; rfl,?_⟩
  have eb:(xs.map fun x=>decide ((x.hw:Int)=h)).any id=s.persons.any fun x=>(x.hw:Int) == h:=by
   rw [Bool.eq_iff_iff,List.any_map,List.any_eq_true,List.any_eq_true]
   constructor
   ·rintro ⟨x,hx,e⟩
    exact ⟨x,e4 x hx,by simpa using e⟩
   ·rintro ⟨x,hx,e⟩
    have hm:pkv loc x ∈ xs.map (pkv loc):=by rw [← e3]; exact h3.mem_iff.mpr (List.mem_map.mpr ⟨x,hx,rfl⟩)
    obtain ⟨y,hy,ey⟩:=List.mem_map.mp hm
    have:y.id=x.id:=by
     have:=congrArg Prod.fst ey
     simp only [pkv,Sum.inl.injEq,Int.natCast_inj] at this; exact this
    have:=srt_uniq hS (e4 y hy) hx this
    subst this
    exact ⟨y,hy,by simpa using e⟩
  rw [eb]
  refine q _ fun b o e=>?_
  by_cases hb:b=loc .PD
  ·subst hb; rw [jaa,← h1]; exact e
  ·rw [upd_ne hb]; exact e1 _ _ e hb
theorem jcp {x:Int} (h:Vbcnad.isSecret x=true):∃ n:Nat,x=n:=Int.eq_ofNat_of_zero_le (by unfold Vbcnad.isSecret Vbcnad.within at h; simp at h; omega)
theorem jbg {H:Hp} {a:Addr} {kvs:List (Key×V)} {z:Int} {v:V} (h:H a=some (.dK kvs)) (hv:valV kvs (Sum.inl z)=some v):DGet H a (.int z) (some v):=by
 have:=DGet.k (k:=Sum.inl z) h
 rw [hv] at this; exact this
theorem dget_no {H:Hp} {a:Addr} {kvs:List (Key×V)} {z:Int} (h:H a=some (.dK kvs)) (hv:valV kvs (Sum.inl z)=none):DGet H a (.int z) none:=by
 have:=DGet.k (k:=Sum.inl z) h
 rw [hv] at this; exact this
theorem ixN_nat {n i:Nat} (h:i < n):ixN n (i:Int)=some i:=by
 unfold ixN
 rw [if_pos (Int.natCast_nonneg _),if_pos (by omega)]; simp
inductive sp_add_person (K:W.Frag) (T:Tb) (vs:List V) (H:Hp) (Q:VK) (E0:XK):Prop | mk (loc F s i x h) (_:vs=[.ref (loc .W),.int i,.int x,.int h]) (_:Pre T loc F H s) (_:Post T loc F Q (Vbcnad.doing s (.person i x h)))
noncomputable def m_add_person (K:W.Frag) (T:Tb):MB:=(.cons (.if_ (.not_ (.bol true (.call "is_who" (sp_is_who K T) (.cons (.var 1) .nil)) (.cons (.call "is_secret" (sp_is_secret K T) (.cons (.var 2) .nil)) (.cons (.call "is_host" (sp_is_host K T) (.cons (.var 3) .nil)) .nil)))) (.cons (.ret (.lst (.cons (.neg 1) .nil)))
  .nil) .nil)
  (.cons (.if_ (.din false (.var 1) (.fld (.var 0) "persons" 7 15)) (.cons (.ret (.lst (.cons (.neg 2) .nil)))
  .nil) .nil)
  (.cons (.if_ (.call "has_host" (sp_has_host K T) (.cons (.var 0) (.cons (.var 3) .nil))) (.cons (.ret (.lst (.cons (.neg 3) .nil)))
  .nil) .nil)
  (.cons (.if_ (.cmp .GtE (rI0 fun i j=>.bl (decide (j≤i))) (.bif "len" "len" rLenD (.cons (.fld (.var 0) "persons" 7 15) .nil)) (.glo "MOST_PERSONS" (.int 256))) (.cons (.ret (.lst (.cons (.neg 4) .nil)))
  .nil) .nil)
  (.cons (.dput (.fld (.var 0) "persons" 7 15) (.var 1) (.make "Person" 3 (sp_init_Person T) (.cons (.var 2) (.cons (.var 3) .nil))))
  (.cons (.ret (.lst (.cons (.int 0) .nil)))
  .nil))))))
theorem w_add_person {K:W.Frag} {T:Tb}:Wk K T (sp_add_person K T) (m_add_person K T) ["world","who","secret","host"]:=by
 intro vs H Q E h
 obtain ⟨loc,F,s,i,x,h,rfl,⟨R,k,hk,W⟩,q⟩:=h
 obtain ⟨kvs,h1,h2,h3,h4,h5⟩:=R.pd
 (unfold Vbcnad.doing at q; dsimp only at q)
 simp_arith only [m_add_person,sp_is_who,sp_is_secret,sp_is_host,one_sz,R.w]
 cases e1:Vbcnad.isId i with
 | false =>
  rw [e1,if_pos (by rfl)] at q
  exact q.ret Lk.rfl' R
 | true =>
  cases e2:Vbcnad.isSecret x with
  | false =>
   rw [e1,e2,if_pos (by rfl)] at q
   exact q.ret Lk.rfl' R
  | true =>
   cases e3:Vbcnad.isHost h with
   | false =>
    rw [e1,e2,e3,if_pos (by rfl)] at q
    exact q.ret Lk.rfl' R
   | true =>
    rw [e1,e2,e3,if_neg (by simp)] at q
    obtain ⟨n,rfl⟩:=jcr e1
    obtain ⟨xn,rfl⟩:=jcp e2
    obtain ⟨hn,rfl⟩:=jbo e3
    simp only [Int.toNat_natCast] at q
    refine ⟨_,DGet.k (k:=Sum.inl (n:Int)) h1,?_⟩
    rcases jam s (fun x hx=>(W.pi x hx).1) (n:Int) with ⟨p1,p2,p3⟩ | ⟨y,py,pe,_,pf⟩
    ·rw [h5 _ p3]
     rw [e1,Bool.true_and,Int.toNat_natCast] at p2
     rw [if_neg (by rw [p2]; simp)] at q
     refine ⟨loc,F,s,hn,rfl,R,W.ps,W.pn,fun H1 g1=>?_⟩
     have R1:=R.grow g1
     by_cases hh':(s.persons.any fun x=>(x.hw:Int) == (hn:Int))=true
     ·rw [if_pos hh'] at q
      simp_arith! only [hh',one_sz]
      exact q.ret Lk.rfl' R1
     ·rw [if_neg hh'] at q
      rw [Bool.not_eq_true] at hh'
      have h1':=g1 _ _ h1
      simp_arith only [hh',R1.w,h1',HO.dK.injEq,h2,one_sz]
      by_cases h256:256≤s.persons.length
      ·rw [if_pos (by omega)]
       rw [if_pos h256] at q
       exact q.ret Lk.rfl' R1
      ·rw [if_neg (by omega)]
       rw [if_neg h256] at q
       intro a dx ha hdx ne
       have R2:=R1.make (c:=3) (vs:=[]) ha hdx ne
       refine ⟨loc,F,s,a,dx,_,_,rfl,R1.free ha,R2,fun H2 g hFg hga R3=>⟨rfl,?_⟩⟩
       have h1'':∃ kvs',H2 (loc .PD)=some (.dK kvs')∧kvs'.Perm (s.persons.map (pkv loc))∧(∀ z:Int,(∀ x ∈ s.persons,(x.id:Int)≠z)→valV kvs' (Sum.inl z)=none)∧kvs'.length=s.persons.length:=by
        obtain ⟨k1,a1,a2,a3,a4,a5⟩:=R3.pd
        exact ⟨k1,a1,a3,a5,a2⟩
       obtain ⟨k1,b1,b2,b3,b4⟩:=h1''
       have hw:=R3.w
       simp_arith [hw]
       have z:=szl
       refine ⟨_,DPut.k (k:=Sum.inl (n:Int)) b1 (by omega),?_⟩
       have R4:=R3.persNew (x:={ id:=n,secret:=xn,hw:=hn }) hFg (R1.free ha) hga b1 b2 (fun y hy e=>p3 y hy (by simp at e; omega)) (b3 _ p3)
       refine ⟨one_sz,q.ret ⟨?_,?_,fun p=>?_⟩ R4⟩ <;> rw [Lo.put_ne (by simp),Lo.put_ne (by simp)]
    ·rw [pe,h4 y py]
     have:y.id=n:=by omega
     rw [this] at pf
     rw [if_pos (by rw [pf]; rfl)] at q
     exact q.ret Lk.rfl' R
inductive sp_send_overs (K:W.Frag) (T:Tb) (vs:List V) (H:Hp) (Q:VK) (E0:XK):Prop | mk (loc F s n) (_:vs=[.ref (loc .W),.int (n:Nat)]) (_:Rep T loc F H s) (_:s.cfg.bag≤1024) (_:∀ H',Rep T loc F H' (Vbcnad.sends s ((s.opened.filter fun o=>o.id == n).map fun o=>.over o.num))→Q .non H')
noncomputable def m_send_overs (K:W.Frag) (T:Tb):MB:=(.cons (.for_ (.name 2) (.list (.fld (.var 0) "begun" 7 18)) (.cons (.if_ (.cmp .Eq rEq (.fld (.var 2) "who" 6 1) (.var 1)) (.cons (.expr (.call "send" (sp_send K T) (.cons (.var 0) (.cons (.tup (.cons (.glo "OVER" (.int 6)) (.cons (.fld (.var 2) "number" 6 0) .nil))) .nil))))
  .nil) .nil)
  .nil))
  .nil)
theorem w_send_overs {K:W.Frag} {T:Tb}:Wk K T (sp_send_overs K T) (m_send_overs K T) ["world","who","begun"]:=by
 intro vs H Q E h
 obtain ⟨loc,F,s,n,rfl,R,hb,q⟩:=h
 obtain ⟨ps,e,h1,h2⟩:=R.cell .GL
 simp_arith only [m_send_overs,R.w]
 refine ⟨⟨_,.inl (.inl h1)⟩,?_⟩
 refine forL (K:=K) (a:=loc .GL) (xs:=ps.map fun x=>V.ref x.1)
  (fun i σ H'=>Rep T loc F H' (Vbcnad.sends s (((s.opened.take i).filter fun o=>o.id == n).map fun o=>.over o.num))∧H' (loc .GL)=some (.lst (ps.map fun x=>V.ref x.1))∧(∀ x ∈ ps,H' x.1=H x.1)∧∃ v,σ=[some (.ref (loc .W)),some (.int n),v])
  ⟨R,h1,fun _ _=>rfl,none,rfl⟩ (fun i σ H' _ ⟨_,R',_⟩=>.inl (.inl R')) ?_ ?_
 ·rintro i v σ H' hi ⟨R2,h3,h4,v1,rfl⟩
  rw [List.getElem?_map] at hi
  obtain ⟨x,hx,rfl⟩:=Option.map_eq_some_iff.mp hi
  have hxe:s.opened[i]? = some x.2:=by rw [← e,List.getElem?_map,hx]; rfl
  have hx1:getV T 6 (H' x.1)=some (opV x.2):=by rw [h4 x (List.mem_of_getElem? hx)]; exact h2 x (List.mem_of_getElem? hx)
  simp_arith only [hx1,two_sz,Int.natCast_inj]
  by_cases hc:x.2.id=n
  ·rw [if_pos hc]
   intro t ht
   refine ⟨loc,F,_,.over x.2.num,t,rfl,R2.junk ht,by rw [jbc]; exact hb,jaa,fun H3 R3 fr=>?_⟩
   rw [take1 hxe,List.filter_append,List.map_append,List.filter_cons,if_pos (by simpa using hc),jbd]
   refine ⟨R3,fr _ _ (jaf h3 ht) ?_ ?_,fun z hz=>?_,_,rfl⟩
   ·exact fun z=>by cases R2.inj .GL .W trivial trivial z
   ·exact fun z=>by cases R2.inj .GL .BL trivial trivial z
   ·have hz1:getV T 6 (H' z.1)=some (opV z.2):=by rw [h4 z hz]; exact h2 z hz
    obtain ⟨dx,ho,_⟩:=jai hz1
    rw [fr _ _ (jaf ho ht),← h4 z hz,ho]
    ·intro w
     have:=(R2.soft (r:=.W) trivial).2.2
     rw [← w,hz1] at this; cases this
    ·intro w
     have:=(R2.soft (r:=.BL) trivial).2.2
     rw [← w,hz1] at this; cases this
  ·rw [if_neg hc]
   rw [take1 hxe,List.filter_append,List.filter_cons,if_neg (by simpa using hc)]
   simp only [List.filter_nil,List.append_nil]
   exact ⟨R2,h3,h4⟩
 ·rintro σ H2 ⟨R2,_,_,v1,rfl⟩
  rw [List.take_of_length_le (by rw [← e]; simp)] at R2
  exact q _ R2
inductive sp_drop_person (K:W.Frag) (T:Tb) (vs:List V) (H:Hp) (Q:VK) (E0:XK):Prop | mk (loc F s i) (_:vs=[.ref (loc .W),.int i]) (_:Pre T loc F H s) (_:Post T loc F Q (Vbcnad.doing s (.unperson i)))
noncomputable def m_drop_person (K:W.Frag) (T:Tb):MB:=(.cons (.if_ (.din true (.var 1) (.fld (.var 0) "persons" 7 15)) (.cons (.ret (.lst (.cons (.neg 1) .nil)))
  .nil) .nil)
  (.cons (.expr (.dpop (.fld (.var 0) "persons" 7 15) (.var 1)))
  (.cons (.expr (.call "send_overs" (sp_send_overs K T) (.cons (.var 0) (.cons (.var 1) .nil))))
  (.cons (.ret (.lst (.cons (.int 0) .nil)))
  .nil))))
theorem w_drop_person {K:W.Frag} {T:Tb}:Wk K T (sp_drop_person K T) (m_drop_person K T) ["world","who"]:=by
 intro vs H Q E h
 obtain ⟨loc,F,s,i,rfl,⟨R,k,hk,W⟩,q⟩:=h
 obtain ⟨kvs,h1,h2,h3,h4,h5⟩:=R.pd
 (unfold Vbcnad.doing at q; dsimp only at q)
 simp_arith only [m_drop_person,one_sz,R.w]
 refine ⟨_,DGet.k (k:=Sum.inl i) h1,?_⟩
 rcases jam s (fun x hx=>(W.pi x hx).1) i with ⟨p1,p2,p3⟩ | ⟨y,py,rfl,pi,pf⟩
 ·rw [if_pos p2] at q
  rw [h5 _ p3]
  exact q.ret Lk.rfl' R
 ·rw [Int.toNat_natCast,pi,pf,if_neg (by simp)] at q
  rw [h4 y py]
  refine ⟨.inl ⟨_,.inl h1⟩,kvs,h1,Sum.inl (y.id:Int),rfl,_,h4 y py,?_⟩
  have R1:=R.persDrop h1 h3 y.id
  refine ⟨loc,F,_,y.id,rfl,R1,W.cb,fun H2 R2=>?_⟩
  exact ⟨one_sz,q.ret Lk.rfl' R2⟩
inductive sp_set_secret (K:W.Frag) (T:Tb) (vs:List V) (H:Hp) (Q:VK) (E0:XK):Prop | mk (loc F s i x) (_:vs=[.ref (loc .W),.int i,.int x]) (_:Pre T loc F H s) (_:Post T loc F Q (Vbcnad.doing s (.secret i x)))
noncomputable def m_set_secret (K:W.Frag) (T:Tb):MB:=(.cons (.if_ (.din true (.var 1) (.fld (.var 0) "persons" 7 15)) (.cons (.ret (.lst (.cons (.neg 1) .nil)))
  .nil) .nil)
  (.cons (.if_ (.not_ (.call "is_secret" (sp_is_secret K T) (.cons (.var 2) .nil))) (.cons (.ret (.lst (.cons (.neg 2) .nil)))
  .nil) .nil)
  (.cons (.set 3 (.dget (.fld (.var 0) "persons" 7 15) (.var 1)))
  (.cons (.fset (.var 3) "secret" 3 0 (.var 2))
  (.cons (.ret (.lst (.cons (.int 0) .nil)))
  .nil)))))
theorem w_set_secret {K:W.Frag} {T:Tb}:Wk K T (sp_set_secret K T) (m_set_secret K T) ["world","who","secret","person"]:=by
 intro vs H Q E h
 obtain ⟨loc,F,s,i,x,rfl,⟨R,k,hk,W⟩,q⟩:=h
 obtain ⟨kvs,h1,h2,h3,h4,h5⟩:=R.pd
 (unfold Vbcnad.doing at q; dsimp only at q)
 simp_arith only [m_set_secret,sp_is_secret,one_sz,R.w]
 refine ⟨_,DGet.k (k:=Sum.inl i) h1,?_⟩
 rcases jam s (fun x hx=>(W.pi x hx).1) i with ⟨p1,p2,p3⟩ | ⟨y,py,rfl,pi,pf⟩
 ·rw [p1] at q
  rw [h5 _ p3]
  exact q.ret Lk.rfl' R
 ·rw [Int.toNat_natCast,pi,if_pos rfl,pf] at q
  rw [h4 y py]
  cases e2:Vbcnad.isSecret x with
  | false =>
   simp only [e2,if_true] at q
   exact q.ret Lk.rfl' R
  | true =>
   simp only [e2,Bool.true_eq_false,if_false] at q
   obtain ⟨xn,rfl⟩:=jcp e2
   rw [Int.toNat_natCast] at q
   refine ⟨_,jbg h1 (h4 y py),?_⟩
   simp_arith only [R.pe py]
   exact q.ret Lk.rfl' (R.persSet W.ps py (x':={ y with secret:=xn }) rfl rfl)
theorem ja6 {g z:Nat}:∀ {l:List Nat},z ∈ Vbcnad.putNat g l↔z=g∨z ∈ l
 | []=>by simp [Vbcnad.putNat]
 | r :: l=>by
  unfold Vbcnad.putNat
  split
  ·rename_i h; subst h; simp
  ·split
   ·simp
   ·rw [List.mem_cons,ja6 (l:=l),List.mem_cons]
    constructor
    ·rintro (h | h | h) <;> simp [h]
    ·rintro (h | h | h) <;> simp [h]
theorem grV_set {l l':List Nat} {g:Nat} {v:Int} (h:∀ z,z≠g→(z ∈ l'↔z ∈ l)) (hv:v=if g ∈ l' then 1 else 0):(grV l).set g (.int v)=grV l':=by
 unfold grV
 apply List.ext_getElem?
 intro i
 rw [List.getElem?_set,List.getElem?_map,List.getElem?_map,List.length_map,List.length_range]
 by_cases hi:g=i
 ·subst hi
  by_cases hlt:g < 64
  ·rw [if_pos rfl,if_pos hlt,List.getElem?_range hlt]; simp [hv]
  ·rw [if_pos rfl,if_neg hlt,List.getElem?_eq_none (by simp; omega)]; rfl
 ·rw [if_neg hi]
  by_cases hlt:i < 64
  ·rw [List.getElem?_range hlt]
   simp only [Option.map_some]
   congr 2
   have:=h i (fun e=>hi e.symm)
   by_cases hm:i ∈ l
   ·rw [if_pos hm,if_pos (this.mpr hm)]
   ·rw [if_neg hm,if_neg (fun z=>hm (this.mp z))]
  ·rw [List.getElem?_eq_none (by simp; omega)]; rfl
inductive sp_set_member (K:W.Frag) (T:Tb) (vs:List V) (H:Hp) (Q:VK) (E0:XK):Prop | mk (loc F s i g x) (_:vs=[.ref (loc .W),.int i,.int g,.int x]) (_:Pre T loc F H s) (_:Post T loc F Q (Vbcnad.doing s (.member i g x)))
noncomputable def m_set_member (K:W.Frag) (T:Tb):MB:=(.cons (.if_ (.din true (.var 1) (.fld (.var 0) "persons" 7 15)) (.cons (.ret (.lst (.cons (.neg 1) .nil)))
  .nil) .nil)
  (.cons (.if_ (.not_ (.call "is_group" (sp_is_group K T) (.cons (.var 2) .nil))) (.cons (.ret (.lst (.cons (.neg 2) .nil)))
  .nil) .nil)
  (.cons (.if_ (.not_ (.call "is_choice" (sp_is_choice K T) (.cons (.var 3) .nil))) (.cons (.ret (.lst (.cons (.neg 3) .nil)))
  .nil) .nil)
  (.cons (.set 4 (.dget (.fld (.var 0) "persons" 7 15) (.var 1)))
  (.cons (.lset rSetL (.fld (.var 4) "groups" 3 3) (.var 2) (.var 3))
  (.cons (.ret (.lst (.cons (.int 0) .nil)))
  .nil))))))
theorem w_set_member {K:W.Frag} {T:Tb}:Wk K T (sp_set_member K T) (m_set_member K T) ["world","who","group","x","person"]:=by
 intro vs H Q E h
 obtain ⟨loc,F,s,i,g,x,rfl,⟨R,k,hk,W⟩,q⟩:=h
 obtain ⟨kvs,h1,h2,h3,h4,h5⟩:=R.pd
 (unfold Vbcnad.doing at q; dsimp only at q)
 simp_arith only [m_set_member,sp_is_group,sp_is_choice,one_sz,R.w]
 refine ⟨_,DGet.k (k:=Sum.inl i) h1,?_⟩
 rcases jam s (fun x hx=>(W.pi x hx).1) i with ⟨p1,p2,p3⟩ | ⟨y,py,rfl,pi,pf⟩
 ·rw [p1] at q
  rw [h5 _ p3]
  exact q.ret Lk.rfl' R
 ·rw [Int.toNat_natCast,pi,if_pos rfl,pf] at q
  rw [h4 y py]
  simp_arith only [Option.isSome_some,Bool.not_true]
  cases e2:Vbcnad.within g 0 63 with
  | false =>
   simp only [e2,if_true] at q
   exact q.ret Lk.rfl' R
  | true =>
   simp only [e2,Bool.true_eq_false,if_false] at q
   cases e3:Vbcnad.within x 0 1 with
   | false =>
    simp only [e3,if_true] at q
    exact q.ret Lk.rfl' R
   | true =>
    simp only [e3,Bool.true_eq_false,if_false] at q
    unfold Vbcnad.within at e2 e3
    simp only [Bool.and_eq_true,decide_eq_true_eq] at e2 e3
    obtain ⟨gn,rfl⟩:=Int.eq_ofNat_of_zero_le e2.1
    rw [Int.toNat_natCast] at q
    refine ⟨_,jbg h1 (h4 y py),?_⟩
    simp_arith only [R.pe py,R.gr py,HO.lst.injEq]
    refine ⟨gn,by rw [ixN_nat (by unfold grV; simp; omega)],?_⟩
    rw [grV_set (l':=if x=1 then Vbcnad.putNat gn y.groups else y.groups.filter fun z=>z != gn)]
    ·exact q.ret Lk.rfl' (R.grpSet W.ps py _)
    ·intro z hz
     split
     ·rw [ja6]; simp [hz]
     ·rw [List.mem_filter]; simp [hz]
    ·have:x=0∨x=1:=by omega
     rcases this with rfl | rfl
     ·simp [List.mem_filter]
     ·simp [ja6]
inductive sp_set_barred (K:W.Frag) (T:Tb) (vs:List V) (H:Hp) (Q:VK) (E0:XK):Prop | mk (loc F s i x) (_:vs=[.ref (loc .W),.int i,.int x]) (_:Pre T loc F H s) (_:Post T loc F Q (Vbcnad.doing s (.bar i x)))
noncomputable def m_set_barred (K:W.Frag) (T:Tb):MB:=(.cons (.if_ (.din true (.var 1) (.fld (.var 0) "persons" 7 15)) (.cons (.ret (.lst (.cons (.neg 1) .nil)))
  .nil) .nil)
  (.cons (.if_ (.not_ (.call "is_choice" (sp_is_choice K T) (.cons (.var 2) .nil))) (.cons (.ret (.lst (.cons (.neg 2) .nil)))
  .nil) .nil)
  (.cons (.set 3 (.dget (.fld (.var 0) "persons" 7 15) (.var 1)))
  (.cons (.fset (.var 3) "barred" 3 2 (.var 2))
  (.cons (.if_ (.cmp .Eq rEq (.var 2) (.int 1)) (.cons (.expr (.call "send_overs" (sp_send_overs K T) (.cons (.var 0) (.cons (.var 1) .nil))))
  .nil) .nil)
  (.cons (.ret (.lst (.cons (.int 0) .nil)))
  .nil))))))
theorem w_set_barred {K:W.Frag} {T:Tb}:Wk K T (sp_set_barred K T) (m_set_barred K T) ["world","who","x","person"]:=by
 intro vs H Q E h
 obtain ⟨loc,F,s,i,x,rfl,⟨R,k,hk,W⟩,q⟩:=h
 obtain ⟨kvs,h1,h2,h3,h4,h5⟩:=R.pd
 (unfold Vbcnad.doing at q; dsimp only at q)
 simp_arith only [m_set_barred,sp_is_choice,one_sz,R.w]
 refine ⟨_,DGet.k (k:=Sum.inl i) h1,?_⟩
 rcases jam s (fun x hx=>(W.pi x hx).1) i with ⟨p1,p2,p3⟩ | ⟨y,py,rfl,pi,pf⟩
 ·rw [p1] at q
  rw [h5 _ p3]
  exact q.ret Lk.rfl' R
 ·rw [Int.toNat_natCast,pi,if_pos rfl,pf] at q
  rw [h4 y py]
  cases e3:Vbcnad.within x 0 1 with
  | false =>
   simp only [e3,if_true] at q
   exact q.ret Lk.rfl' R
  | true =>
   simp only [e3,Bool.true_eq_false,if_false] at q
   unfold Vbcnad.within at e3
   simp only [Bool.and_eq_true,decide_eq_true_eq] at e3
   refine ⟨_,jbg h1 (h4 y py),?_⟩
   simp_arith only [R.pe py]
   have hx:x=0∨x=1:=by omega
   rcases hx with rfl | rfl
   ·rw [if_neg (by decide)]
    rw [if_neg (by decide)] at q
    exact q.ret Lk.rfl' (R.persSet W.ps py (x':={ y with barred:=false }) rfl rfl)
   ·rw [if_pos rfl]
    rw [if_pos rfl] at q
    refine ⟨loc,F,_,y.id,rfl,R.persSet W.ps py (x':={ y with barred:=true }) rfl rfl,W.cb,fun H2 R2=>?_⟩
    exact ⟨one_sz,q.ret Lk.rfl' R2⟩
inductive sp_add_rule (K:W.Frag) (T:Tb) (vs:List V) (H:Hp) (Q:VK) (E0:XK):Prop | mk (loc F s l a0 a1 a2 a3 a4 a5 a6 a7) (_:vs=[.ref (loc .W),.ref l]) (_:F l=some (.lst [.int a0,.int a1,.int a2,.int a3,.int a4,.int a5,.int a6,.int a7])) (_:Pre T loc F H s) (_:Post T loc F Q (Vbcnad.doing s (.rule a0 a1 a2 a3 a4 a5 a6 a7)))
noncomputable def m_add_rule (K:W.Frag) (T:Tb):MB:=(.cons (.if_ (.not_ (.call "all_within" (sp_all_within K T) (.cons (.var 1) (.cons (.glo "RULE_RANGES" (.ref (T.glo 1))) .nil)))) (.cons (.ret (.lst (.cons (.neg 1) .nil)))
  .nil) .nil)
  (.cons (.if_ (.cmp .GtE (rI0 fun i j=>.bl (decide (j≤i))) (.bif "len" "len" rLenH (.cons (.fld (.var 0) "rules" 7 16) .nil)) (.glo "MOST_RULES" (.int 64))) (.cons (.ret (.lst (.cons (.neg 2) .nil)))
  .nil) .nil)
  (.cons (.expr (.mth (.fld (.var 0) "rules" 7 16) "append" "list" "list.append" rAppend (.cons (.make "Rule" 4 (sp_init_Rule T) (.cons (.var 1) .nil)) .nil)))
  (.cons (.ret (.lst (.cons (.int 0) .nil)))
  .nil))))
theorem w_add_rule {K:W.Frag} {T:Tb} (M:MT K T):Wk K T (sp_add_rule K T) (m_add_rule K T) ["world","row"]:=by
 intro vs H Q E h
 obtain ⟨loc,F,s,l,a0,a1,a2,a3,a4,a5,a6,a7,rfl,hF,⟨R,k,hk,W⟩,q⟩:=h
 obtain ⟨ps,e,h1,h2⟩:=R.cell .UL
 have hpl:ps.length=s.rules.length:=by rw [← e,List.length_map]
 have hl:=R.fr _ _ hF
 (unfold Vbcnad.doing at q; dsimp only at q)
 simp_arith only [m_add_rule,one_sz,R.w]
 refine ⟨l,T.glo 1,[a0,a1,a2,a3,a4,a5,a6,a7],_,rfl,hl,M.rr,rfl,fun H1 g1=>?_⟩
 have R1:=R.grow g1
 have ew:(([a0,a1,a2,a3,a4,a5,a6,a7].zip [((0:Int),(63:Int)),(0,63),(0,63),(0,86399),(0,86399),(1,4094),(1,1000000),(1,1000000)]).all fun z=>Vbcnad.within z.1 z.2.1 z.2.2)=(Vbcnad.within a0 0 63 && (Vbcnad.within a1 0 63 && (Vbcnad.within a2 0 63 && (Vbcnad.within a3 0 86399 && (Vbcnad.within a4 0 86399 && (Vbcnad.within a5 1 4094 && (Vbcnad.within a6 1 1000000 && Vbcnad.within a7 1 1000000))))))):=by
  simp only [List.zip_cons_cons,List.zip_nil_right,List.all_cons,List.all_nil,Bool.and_true]
 rw [ew]
 cases hw:(Vbcnad.within a0 0 63 && (Vbcnad.within a1 0 63 && (Vbcnad.within a2 0 63 && (Vbcnad.within a3 0 86399 && (Vbcnad.within a4 0 86399 && (Vbcnad.within a5 1 4094 && (Vbcnad.within a6 1 1000000 && Vbcnad.within a7 1 1000000))))))) with
 | false =>
  rw [if_pos hw] at q
  simp_arith [Bool.not_false,one_sz]
  exact q.ret Lk.rfl' R1
 | true =>
  rw [if_neg (by rw [hw]; simp)] at q
  have h1':=g1 _ _ h1
  simp_arith only [Bool.not_true,R1.w,h1',HO.lst.injEq,List.length_map,one_sz]
  by_cases h64:64≤s.rules.length
  ·rw [if_pos (by omega)]
   rw [if_pos h64] at q
   exact q.ret Lk.rfl' R1
  ·rw [if_neg (by omega)]
   rw [if_neg h64] at q
   unfold Vbcnad.within at hw
   simp only [Bool.and_eq_true,decide_eq_true_eq] at hw
   obtain ⟨n0,rfl⟩:=Int.eq_ofNat_of_zero_le (a:=a0) (by omega)
   obtain ⟨n1,rfl⟩:=Int.eq_ofNat_of_zero_le (a:=a1) (by omega)
   obtain ⟨n2,rfl⟩:=Int.eq_ofNat_of_zero_le (a:=a2) (by omega)
   obtain ⟨n3,rfl⟩:=Int.eq_ofNat_of_zero_le (a:=a3) (by omega)
   obtain ⟨n4,rfl⟩:=Int.eq_ofNat_of_zero_le (a:=a4) (by omega)
   obtain ⟨n5,rfl⟩:=Int.eq_ofNat_of_zero_le (a:=a5) (by omega)
   obtain ⟨n6,rfl⟩:=Int.eq_ofNat_of_zero_le (a:=a6) (by omega)
   obtain ⟨n7,rfl⟩:=Int.eq_ofNat_of_zero_le (a:=a7) (by omega)
   simp only [Int.toNat_natCast] at q
   refine ⟨tyL h1',?_⟩
   simp_arith only [ob_nil]
   intro a dx ha hdx ne
   have hl1:=g1 _ _ hl
   refine ⟨a,dx,l,.int n0,.int n1,.int n2,.int n3,.int n4,.int n5,.int n6,.int n7,rfl,jaa,?_,rfl,?_⟩
   ·rw [upd_ne (jab hl1 ha),upd_ne (jab hl1 hdx)]; exact hl1
   ·simp only [jaq]
    have hz:=szl
    have R2:=(R1.make (c:=4) (vs:=ruV ⟨n0,n1,n2,n3,n4,n5,n6,n7⟩) ha hdx ne).drop (R1.free ha)
    have g2:Same H1 (upd (upd H1 dx (.own a)) a (T.ob 4 dx (ruV ⟨n0,n1,n2,n3,n4,n5,n6,n7⟩))):=(Same.fresh hdx).trans (Same.fresh (by rw [upd_ne (fun w=>ne w.symm)]; exact ha))
    simp_arith only [and_assoc]
    refine ⟨_,g2 _ _ h1',by rw [List.length_map]; omega,?_⟩
    have R3:=R2.ruleSet (ps:=ps ++ [(a,⟨n0,n1,n2,n3,n4,n5,n6,n7⟩)]) (fun x hx=>by
     rcases List.mem_append.mp hx with hx | hx
     ·exact (Kp.same (g1.trans g2)).r _ _ (h2 x hx)
     ·rw [List.mem_singleton.mp hx,jaa]; exact jae (Nat.le_refl _))
    rw [List.map_append,List.map_append,e] at R3
    exact ⟨one_sz,q.ret Lk.rfl' R3⟩
inductive sp_drop_rules (K:W.Frag) (T:Tb) (vs:List V) (H:Hp) (Q:VK) (E0:XK):Prop | mk (loc F s) (_:vs=[.ref (loc .W)]) (_:Pre T loc F H s) (_:Post T loc F Q (Vbcnad.doing s .norules))
noncomputable def m_drop_rules (K:W.Frag) (T:Tb):MB:=(.cons (.fset (.var 0) "rules" 7 16 (.lst .nil))
  (.cons (.ret (.lst (.cons (.int 0) .nil)))
  .nil))
theorem w_drop_rules {K:W.Frag} {T:Tb}:Wk K T (sp_drop_rules K T) (m_drop_rules K T) ["world"]:=by
 intro vs H Q E h
 obtain ⟨loc,F,s,rfl,⟨R,k,hk,W⟩,q⟩:=h
 simp_arith only [m_drop_rules,one_sz]
 intro d hd
 have R1:=R.new (o:=.lst []) hd
 have R2:=R1.ruleNew (R.free hd)
 simp_arith only [R1.w] at R2 ⊢
 exact Post.ret (s':={ s with rules:=[] }) (zs:=[0]) q Lk.ul R2
inductive sp_reboot (K:W.Frag) (T:Tb) (vs:List V) (H:Hp) (Q:VK) (E0:XK):Prop | mk (loc F s) (_:vs=[.ref (loc .W)]) (_:Pre T loc F H s) (_:Post T loc F Q (Vbcnad.doing s .reboot))
noncomputable def m_reboot (K:W.Frag) (T:Tb):MB:=(.cons (.fset (.var 0) "known" 7 17 .dnew)
  (.cons (.fset (.var 0) "begun" 7 18 (.lst .nil))
  (.cons (.ret (.lst (.cons (.int 0) .nil)))
  .nil)))
theorem w_reboot {K:W.Frag} {T:Tb}:Wk K T (sp_reboot K T) (m_reboot K T) ["world"]:=by
 intro vs H Q E h
 obtain ⟨loc,F,s,rfl,⟨R,k,hk,W⟩,q⟩:=h
 simp_arith only [m_reboot,one_sz]
 intro d hd
 have R1:=R.new (o:=.dK []) hd
 have R2:=R1.knownNew (R.free hd)
 simp_arith only [R1.w] at R2 ⊢
 generalize setV T 7 _ _ _=H2 at R2 ⊢
 intro d2 hd2
 have R3:=R2.new (o:=.lst []) hd2
 have e3:=R3.w
 have R4:=R3.begNew (ps:=[]) (R2.free hd2) (fun x hx=>by cases hx)
 simp_arith only [and_assoc] at e3 R4
 simp_arith only [e3]
 exact Post.ret (s':={ s with asks:=[],opened:=[] }) (zs:=[0]) q (Lk.kd.trans Lk.gl) R4
inductive ClD:Int→List Int→Vbcnad.Call→Prop
 | person (a b c:Int):ClD 1 [a,b,c] (.person a b c)
 | unperson (a:Int):ClD 2 [a] (.unperson a)
 | secret (a b:Int):ClD 3 [a,b] (.secret a b)
 | member (a b c:Int):ClD 4 [a,b,c] (.member a b c)
 | rule (a b c d e f g h:Int):ClD 5 [a,b,c,d,e,f,g,h] (.rule a b c d e f g h)
 | norules:ClD 6 [] .norules
 | bar (a b:Int):ClD 7 [a,b] (.bar a b)
 | reboot:ClD 21 [] .reboot
inductive sp_directory_call (K:W.Frag) (T:Tb) (vs:List V) (H:Hp) (Q:VK) (E0:XK):Prop | mk (loc F s code zs l c) (_:vs=[.ref (loc .W),.int code,.ref l]) (_:F l=some (.lst (zs.map V.int))) (_:ClD code zs c) (_:Pre T loc F H s) (_:Post T loc F Q (Vbcnad.doing s c))
noncomputable def m_directory_call (K:W.Frag) (T:Tb):MB:=(.cons (.if_ (.cmp .Eq rEq (.var 1) (.glo "PERSON" (.int 1))) (.cons (.ret (.call "add_person" (sp_add_person K T) (.cons (.var 0) (.cons (.ix rIxH (.var 2) (.int 0)) (.cons (.ix rIxH (.var 2) (.int 1)) (.cons (.ix rIxH (.var 2) (.int 2)) .nil))))))
  .nil) .nil)
  (.cons (.if_ (.cmp .Eq rEq (.var 1) (.glo "UNPERSON" (.int 2))) (.cons (.ret (.call "drop_person" (sp_drop_person K T) (.cons (.var 0) (.cons (.ix rIxH (.var 2) (.int 0)) .nil))))
  .nil) .nil)
  (.cons (.if_ (.cmp .Eq rEq (.var 1) (.glo "SECRET" (.int 3))) (.cons (.ret (.call "set_secret" (sp_set_secret K T) (.cons (.var 0) (.cons (.ix rIxH (.var 2) (.int 0)) (.cons (.ix rIxH (.var 2) (.int 1)) .nil)))))
  .nil) .nil)
  (.cons (.if_ (.cmp .Eq rEq (.var 1) (.glo "MEMBER" (.int 4))) (.cons (.ret (.call "set_member" (sp_set_member K T) (.cons (.var 0) (.cons (.ix rIxH (.var 2) (.int 0)) (.cons (.ix rIxH (.var 2) (.int 1)) (.cons (.ix rIxH (.var 2) (.int 2)) .nil))))))
  .nil) .nil)
  (.cons (.if_ (.cmp .Eq rEq (.var 1) (.glo "RULE" (.int 5))) (.cons (.ret (.call "add_rule" (sp_add_rule K T) (.cons (.var 0) (.cons (.var 2) .nil))))
  .nil) .nil)
  (.cons (.if_ (.cmp .Eq rEq (.var 1) (.glo "NORULES" (.int 6))) (.cons (.ret (.call "drop_rules" (sp_drop_rules K T) (.cons (.var 0) .nil)))
  .nil) .nil)
  (.cons (.if_ (.cmp .Eq rEq (.var 1) (.glo "REBOOT" (.int 21))) (.cons (.ret (.call "reboot" (sp_reboot K T) (.cons (.var 0) .nil)))
  .nil) .nil)
  (.cons (.ret (.call "set_barred" (sp_set_barred K T) (.cons (.var 0) (.cons (.ix rIxH (.var 2) (.int 0)) (.cons (.ix rIxH (.var 2) (.int 1)) .nil)))))
  .nil))))))))
theorem w_directory_call {K:W.Frag} {T:Tb}:Wk K T (sp_directory_call K T) (m_directory_call K T) ["world","code","row"]:=by
 intro vs H Q E h
 obtain ⟨loc,F,s,code,zs,l,c,rfl,hF,hc,P,q⟩:=h
 have hl:=P.R.fr _ _ hF
 cases hc <;> simp only [List.map_cons,List.map_nil] at hl <;> simp_arith [m_directory_call,hl,HO.lst.injEq,atI_0,atI_1,atI_2]
 case person a b c=>exact ⟨loc,F,s,a,b,c,rfl,P,q⟩
 case unperson a=>exact ⟨loc,F,s,a,rfl,P,q⟩
 case secret a b=>exact ⟨loc,F,s,a,b,rfl,P,q⟩
 case member a b c=>exact ⟨loc,F,s,a,b,c,rfl,P,q⟩
 case rule a b c d e f g h=>exact ⟨loc,F,s,l,a,b,c,d,e,f,g,h,rfl,hF,P,q⟩
 case norules=>exact ⟨loc,F,s,rfl,P,q⟩
 case bar a b=>exact ⟨loc,F,s,a,b,rfl,P,q⟩
 case reboot=>exact ⟨loc,F,s,rfl,P,q⟩
section
variable {T:Tb} {loc loc':Lo} {F F' H H':Hp} {s s':VS} {a:Vbcnad.Ask}
theorem setV_get {c:Nat} {x:Addr} {us vs:List V} (h:getV T c (H x)=some us) (hl:vs.length≤(keysOf c).length):getV T c (setV T c H x vs x)=some vs:=by
 obtain ⟨dx,_,e⟩:=jar (vs:=vs) h
 rw [e,jaa]; exact jae hl
theorem setV_set {c:Nat} {x:Addr} {us vs ws:List V} (h:getV T c (H x)=some us):setV T c (setV T c H x vs) x ws=setV T c H x ws:=by
 obtain ⟨dx,e0,e⟩:=jar (vs:=vs) h
 rw [e,setV_upd,jao e0]
noncomputable def akv (loc:Lo) (a:Vbcnad.Ask):Key×V:=(Sum.inl (a.n:Int),V.ref (loc (.ak a.n)))
theorem ak_val {l:List Vbcnad.Ask} {n:Nat}:valV (l.map (akv loc)) (Sum.inl (n:Int))=(l.find? fun a=>a.n == n).map fun a=>V.ref (loc (.ak a.n)):=by
 unfold valV
 rw [List.find?_map,Option.map_map]
 have:((fun kv:Key×V=>decide (kv.1=Sum.inl (n:Int))) ∘ akv loc)=fun a=>a.n == n:=by
  funext a
  rw [Bool.eq_iff_iff]
  simp [akv]; omega
 rw [this]; rfl
theorem Rep.ak (R:Rep T loc F H s) (h:a ∈ s.asks):∃ d,getV T 5 (H (loc (.ak a.n)))=some (akV a d)∧Dc H a d:=R.cell (.ak a.n) a h rfl
theorem jb4 {l:List Vbcnad.Ask} (h:(l.map (·.n)).Nodup) {a b:Vbcnad.Ask} (ha:a ∈ l) (hb:b ∈ l) (e:a.n=b.n):a=b:=by
 induction l with
 | nil=>cases ha
 | cons c l ih =>
  rw [List.map_cons,List.nodup_cons] at h
  rcases List.mem_cons.mp ha with h1 | h1 <;> rcases List.mem_cons.mp hb with h2 | h2
  ·rw [h1,h2]
  ·exact absurd (List.mem_map.mpr ⟨b,h2,by rw [← e,h1]⟩) h.1
  ·exact absurd (List.mem_map.mpr ⟨a,h1,by rw [e,h2]⟩) h.1
  ·exact ih h.2 h1 h2
theorem reply_same {r r':Vbcnad.Reply}:Vbcnad.replyMsg { a with reply:=some r } r'=Vbcnad.replyMsg a r':=by cases r' <;> rfl
theorem Rep.decSet (R:Rep T loc F H s) (hn:(s.asks.map (·.n)).Nodup) (ha:a ∈ s.asks) {b:Addr} {r:Vbcnad.Reply} (hb:H b=some (.tup (msgV (Vbcnad.replyMsg a r)))) :
  Rep T loc F (setV T 5 H (loc (.ak a.n)) (akV a (.ref b))) { s with asks:=s.asks.map fun z=>if z.n=a.n then { z with reply:=some r } else z }:=by
 obtain ⟨d,g,_⟩:=R.ak ha
 obtain ⟨dx,_,e⟩:=jar (vs:=akV a (.ref b)) g
 rw [e]
 have kp:=Kp.soft (o:=T.ob 5 dx (akV a (.ref b))) (R.soft (r:=.ak a.n) ⟨a,ha,rfl⟩)
 have hm:∀ z,z ∈ (s.asks.map fun z=>if z.n=a.n then { z with reply:=some r } else z)→(z={ a with reply:=some r })∨(z ∈ s.asks∧z.n≠a.n):=fun z hz=>by
  obtain ⟨w,hw,rfl⟩:=List.mem_map.mp hz
  by_cases q:w.n=a.n
  ·rw [if_pos q,jb4 hn hw ha q]; exact .inl rfl
  ·rw [if_neg q]; exact .inr ⟨hw,q⟩
 refine R.wr (r0:=.ak a.n) ⟨a,ha,rfl⟩ (fun r hu=>?_) ?_ (fun r hr hc=>?_)
 ·cases r with
  | ak m =>
   obtain ⟨z,hz,rfl⟩:=hu
   rcases hm z hz with rfl | ⟨h,_⟩
   ·exact ⟨a,ha,rfl⟩
   ·exact ⟨z,h,rfl⟩
  | _=>exact hu
 ·intro z hz hzn
  rcases hm z hz with rfl | ⟨_,h⟩
  ·refine ⟨.ref b,by rw [jaa]; exact jae (Nat.le_refl _),?_⟩
   show ∃ b',V.ref b=.ref b'∧_
   exact ⟨b,rfl,by rw [reply_same]; exact kp.t _ _ hb⟩
  ·exact absurd hzn h
 ·cases r with
  | KD =>
   show _=some (HO.dK (List.map (akv loc) (List.map _ s.asks)))
   rw [List.map_map]
   have:(akv loc ∘ fun z:Vbcnad.Ask=>if z.n=a.n then { z with reply:=some r } else z)=akv loc:=by
    funext z
    simp only [Function.comp]
    split <;> rfl
   rw [this]; exact hc
  | ak m =>
   intro z hz hzn
   rcases hm z hz with rfl | ⟨h,_⟩
   ·exact absurd (by rw [← hzn]) hr
   ·exact hc z h hzn
  | _=>exact hc
theorem Rep.askNew {x dx:Addr} (R:Rep T loc (upd F x (T.ob 5 dx (akV a .non))) H s) (hF:F x=none) (hnew:∀ z ∈ s.asks,z.n≠a.n) (hr:a.reply=none) :
  Rep T (loc.put (.ak a.n) x) F (upd H (loc .KD) (.dK (putK (s.asks.map (akv loc)) (Sum.inl (a.n:Int)) (.ref x)))) { s with asks:=s.asks ++ [a] }:=by
 have hmap:s.asks.map (akv (loc.put (.ak a.n) x))=s.asks.map (akv loc):=List.map_congr_left fun z hz=>by
  unfold akv
  rw [Lo.put_ne (by simpa using hnew z hz)]
 refine R.mv (r1:=.KD) (r0:=.ak a.n) hF trivial (by simp) (fun r hu=>?_) ?_ (fun e=>?_) (fun r h0 h1 h=>?_)
 ·cases r with
  | ak m =>
   obtain ⟨z,hz,rfl⟩:=hu
   rcases List.mem_append.mp hz with hz | hz
   ·exact .inr ⟨z,hz,rfl⟩
   ·rw [List.mem_singleton.mp hz]; exact .inl rfl
  | _=>exact .inr hu
 ·show upd H (loc .KD) _ ((loc.put (.ak a.n) x) .KD)=some (.dK ((s.asks ++ [a]).map (akv (loc.put (.ak a.n) x))))
  rw [Lo.put_ne (by simp),jaa,List.map_append,hmap,putK_new]
  ·simp [akv,Lo.put_same]
  ·rw [ak_val,List.find?_eq_none.mpr (fun z hz=>by simpa using hnew z hz)]; rfl
 ·intro z hz hzn
  rcases List.mem_append.mp hz with hz | hz
  ·exact absurd hzn (hnew z hz)
  ·rw [List.mem_singleton.mp hz,Lo.put_same,e]
   exact ⟨.non,jae (Nat.le_refl _),by unfold Dc; rw [hr]⟩
 ·cases r with
  | ak m =>
   intro z hz hzn
   rcases List.mem_append.mp hz with hz | hz
   ·rw [Lo.put_ne h0]; exact h z hz hzn
   ·rw [List.mem_singleton.mp hz] at hzn; exact absurd (by rw [hzn]) h0
  | KD=>exact absurd rfl h1
  | _=>exact h
theorem Rep.askDrop (R:Rep T loc F H s) (n:Nat):Rep T loc F (upd H (loc .KD) (.dK (dropK (s.asks.map (akv loc)) (Sum.inl (n:Int))))) { s with asks:=s.asks.filter fun a=>a.n != n }:=by
 refine R.wr (r0:=.KD) trivial (fun r hu=>?_) ?_ (fun r hr hc=>?_)
 ·cases r with
  | ak m=>obtain ⟨z,hz,hn⟩:=hu; exact ⟨z,(List.mem_filter.mp hz).1,hn⟩
  | _=>exact hu
 ·show upd H (loc .KD) _ (loc .KD)=some (.dK ((s.asks.filter fun a=>a.n != n).map (akv loc)))
  rw [jaa]
  unfold dropK
  rw [List.filter_map]
  congr 3
  refine List.filter_congr fun z _=>?_
  rw [Bool.eq_iff_iff]
  simp [akv,Function.comp]; omega
 ·cases r with
  | KD=>exact absurd rfl hr
  | ak m=>exact fun z hz hzn=>hc z (List.mem_filter.mp hz).1 hzn
  | _=>exact hc
theorem charge_new {num f:Nat} {c:Bool}:∀ {l:List Vbcnad.Account},(∀ a ∈ l,a.num≠num)→Vbcnad.charge num f c l=l ++ [⟨num,f,c⟩]
 | [],_=>rfl
 | a :: l,h=>by
  unfold Vbcnad.charge
  rw [if_neg (h a List.mem_cons_self),charge_new fun b hb=>h b (List.mem_cons_of_mem _ hb)]; rfl
theorem charge_old {num f:Nat} {c:Bool}:∀ {l:List Vbcnad.Account},(l.map (·.num)).Nodup→(∃ a ∈ l,a.num=num)→Vbcnad.charge num f c l=l.map fun z=>if z.num=num then ⟨num,max z.frames f,z.closed || c⟩ else z
 | [],_,h=>by obtain ⟨_,h,_⟩:=h; cases h
 | a :: l,hn,h=>by
  rw [List.map_cons,List.nodup_cons] at hn
  unfold Vbcnad.charge
  by_cases q:a.num=num
  ·rw [if_pos q,List.map_cons,if_pos q]
   congr 1
   symm
   refine (List.map_congr_left fun z hz=>?_).trans (List.map_id' l)
   rw [if_neg]
   exact fun e=>hn.1 (List.mem_map.mpr ⟨z,hz,e.trans q.symm⟩)
  ·rw [if_neg q,List.map_cons,if_neg q]
   congr 1
   refine charge_old hn.2 ?_
   obtain ⟨b,hb,e⟩:=h
   rcases List.mem_cons.mp hb with rfl | hb
   ·exact absurd e q
   ·exact ⟨b,hb,e⟩
noncomputable def ackv (x:Addr×Vbcnad.Account):Key×V:=(Sum.inl (x.2.num:Int),V.ref x.1)
theorem ac_val {l:List (Addr×Vbcnad.Account)} {z:Int}:valV (l.map ackv) (Sum.inl z)=(l.find? fun x=>(x.2.num:Int) == z).map fun x=>V.ref x.1:=by
 unfold valV
 rw [List.find?_map,Option.map_map]
 have:((fun kv:Key×V=>decide (kv.1=Sum.inl z)) ∘ ackv)=fun x=>(x.2.num:Int) == z:=by
  funext a
  rw [Bool.eq_iff_iff]
  simp [ackv]
 rw [this]; rfl
end
inductive sp_may_be_admitted (K:W.Frag) (T:Tb) (vs:List V) (H:Hp) (Q:VK) (E0:XK):Prop | mk (loc F s i h) (_:vs=[.ref (loc .W),.int (i:Nat),.int (h:Nat)]) (_:Rep T loc F H s) (_:Q (.bl (Vbcnad.mayBe s i h).isSome) H)
theorem person_at (s:VS) (n:Nat):(Vbcnad.personOf s n=none∧∀ x ∈ s.persons,(x.id:Int)≠n)∨∃ x,x ∈ s.persons∧n=x.id∧Vbcnad.personOf s n=some x:=by
 cases hf:Vbcnad.personOf s n with
 | none =>
  refine .inl ⟨rfl,fun x hx e=>?_⟩
  unfold Vbcnad.personOf at hf
  rw [List.find?_eq_none] at hf
  have:=hf x hx
  simp at this; omega
 | some x =>
  have h1:=List.mem_of_find?_eq_some hf
  have h2:=List.find?_some hf
  simp only [beq_iff_eq] at h2
  exact .inr ⟨x,h1,h2.symm,rfl⟩
noncomputable def m_may_be_admitted (K:W.Frag) (T:Tb):MB:=(.cons (.set 3 (.dgt1 (.fld (.var 0) "persons" 7 15) (.var 1)))
  (.cons (.if_ (.bol false (.cmp .Is rIsN (.var 3) .non) (.cons (.cmp .NotEq rNe (.fld (.var 3) "host" 3 1) (.var 2)) .nil)) (.cons (.ret (.bl false))
  .nil) .nil)
  (.cons (.ret (.bol true (.cmp .Eq rEq (.fld (.var 3) "barred" 3 2) (.int 0)) (.cons (.cmp .LtE (rI0 fun i j=>.bl (decide (i≤j))) (.fld (.var 3) "locked" 3 5) (.fld (.var 0) "now" 7 10)) .nil)))
  .nil)))
theorem w_may_be_admitted {K:W.Frag} {T:Tb}:Wk K T (sp_may_be_admitted K T) (m_may_be_admitted K T) ["world","who","host","person"]:=by
 intro vs H Q E h
 obtain ⟨loc,F,s,i,h,rfl,R,q⟩:=h
 obtain ⟨kvs,h1,h2,h3,h4,h5⟩:=R.pd
 unfold Vbcnad.mayBe at q
 simp_arith [m_may_be_admitted,R.w]
 rcases person_at s i with ⟨p1,p2⟩ | ⟨x,px,rfl,pf⟩
 ·rw [p1] at q
  refine ⟨.inl ⟨_,.inl h1⟩,_,dget_no h1 (h5 _ p2),?_⟩
  simp_arith [Option.getD_none,decide_true]
  exact q
 ·rw [pf] at q
  refine ⟨.inl ⟨_,.inl h1⟩,_,jbg h1 (h4 x px),?_⟩
  simp_arith only [Option.getD_some,decide_false,R.pe px,R.w,Bool.not_eq_true',decide_eq_false_iff_not,Int.natCast_inj]
  by_cases hh':x.hw=h
  ·rw [if_neg (by simp [hh'])]
   cases hb:x.barred with
   | true =>
    simp only [hb,Bool.true_eq_false,false_and,and_false,if_false] at q
    exact q
   | false =>
    by_cases hl:x.locked≤s.now
    ·simp only [hh',hb,hl,and_self,if_true] at q
     rw [decide_eq_true (by omega)]; exact q
    ·simp only [hh',hb,hl,and_false,if_false] at q
     rw [decide_eq_false (by omega)]; exact q
  ·rw [if_pos hh']
   simp only [hh',false_and,if_false] at q
   exact q
inductive sp_hours_fit (K:W.Frag) (T:Tb) (vs:List V) (H:Hp) (Q:VK) (E0:XK):Prop | mk (a r t) (_:vs=[.ref a,.int (t:Nat)]) (_:getV T 4 (H a)=some (ruV r)) (_:Q (.bl (Vbcnad.inDay r.from_ r.to t)) H)
noncomputable def m_hours_fit (K:W.Frag) (T:Tb):MB:=(.cons (.if_ (.cmp .LtE (rI0 fun i j=>.bl (decide (i≤j))) (.fld (.var 0) "since" 4 3) (.fld (.var 0) "till" 4 4)) (.cons (.ret (.chn .LtE .LtE (rI0 fun i j=>.bl (decide (i≤j))) (rI0 fun i j=>.bl (decide (i≤j))) (.fld (.var 0) "since" 4 3) (.var 1) (.fld (.var 0) "till" 4 4)))
  .nil) .nil)
  (.cons (.ret (.bol false (.cmp .GtE (rI0 fun i j=>.bl (decide (j≤i))) (.var 1) (.fld (.var 0) "since" 4 3)) (.cons (.cmp .LtE (rI0 fun i j=>.bl (decide (i≤j))) (.var 1) (.fld (.var 0) "till" 4 4)) .nil)))
  .nil))
theorem w_hours_fit {K:W.Frag} {T:Tb}:Wk K T (sp_hours_fit K T) (m_hours_fit K T) ["rule","time"]:=by
 intro vs H Q E h
 obtain ⟨a,r,t,rfl,h1,q⟩:=h
 unfold Vbcnad.inDay at q
 simp_arith only [m_hours_fit,h1]
 by_cases hf:r.from_≤r.to
 ·rw [if_pos (by omega)]
  rw [if_pos hf] at q
  by_cases h2:r.from_≤t
  ·rw [if_pos (by omega)]
   by_cases h3:t≤r.to
   ·rw [decide_eq_true ⟨h2,h3⟩] at q
    rw [decide_eq_true (by omega)]; exact q
   ·rw [decide_eq_false (fun z=>h3 z.2)] at q
    rw [decide_eq_false (by omega)]; exact q
  ·rw [if_neg (by omega)]
   rw [decide_eq_false (fun z=>h2 z.1)] at q
   exact q
 ·rw [if_neg (by omega)]
  rw [if_neg hf] at q
  by_cases h2:r.from_≤t
  ·rw [if_pos (by omega)]
   rw [decide_eq_true (.inl h2)] at q
   exact q
  ·rw [if_neg (by omega)]
   by_cases h3:t≤r.to
   ·rw [decide_eq_true (.inr h3)] at q
    rw [decide_eq_true (by omega)]; exact q
   ·rw [decide_eq_false (fun z=>z.elim h2 h3)] at q
    rw [decide_eq_false (by omega)]; exact q
noncomputable def ruleC (s:VS) (x:Vbcnad.Person) (p:Nat) (r:Vbcnad.Rule):Bool:=x.groups.contains r.group && (decide (r.lo≤p∧p≤r.hi) && Vbcnad.inDay r.from_ r.to (s.now % 86400))
inductive sp_first_rule (K:W.Frag) (T:Tb) (vs:List V) (H:Hp) (Q:VK) (E0:XK):Prop | mk (loc F s x p) (_:vs=[.ref (loc .W),.ref (loc (.pe x.id)),.int (p:Nat)]) (_:Rep T loc F H s) (_:x ∈ s.persons) (_:(∀ r ∈ s.rules,r.group < 64)) (_:(Vbcnad.ruleFor s x p=none→Q .non H)) (_:∀ r b,Vbcnad.ruleFor s x p=some r→getV T 4 (H b)=some (ruV r)→Q (.ref b) H)
theorem atI_gr {l:List Nat} {g:Nat} (h:g < 64):atI (grV l) (g:Int)=some (.int (if g ∈ l then 1 else 0)):=by
 rw [atI_at]
 unfold grV
 rw [List.getElem?_map,List.getElem?_range h]; rfl
noncomputable def m_first_rule (K:W.Frag) (T:Tb):MB:=(.cons (.set 3 (.op .Mod (rI (fun _ j=>0 < j) fun i j=>.int (i % j)) (.fld (.var 0) "now" 7 10) (.glo "DAY" (.int 86400))))
  (.cons (.for_ (.name 4) (.list (.fld (.var 0) "rules" 7 16)) (.cons (.set 5 (.cmp .Eq rEq (.ix rIxH (.fld (.var 1) "groups" 3 3) (.fld (.var 4) "group" 4 0)) (.int 1)))
  (.cons (.if_ (.bol true (.var 5) (.cons (.chn .LtE .LtE (rI0 fun i j=>.bl (decide (i≤j))) (rI0 fun i j=>.bl (decide (i≤j))) (.fld (.var 4) "low" 4 1) (.var 2) (.fld (.var 4) "high" 4 2)) (.cons (.call "hours_fit" (sp_hours_fit K T) (.cons (.var 4) (.cons (.var 3) .nil))) .nil))) (.cons (.ret (.var 4))
  .nil) .nil)
  .nil)))
  (.cons (.ret .non)
  .nil)))
theorem w_first_rule {K:W.Frag} {T:Tb}:Wk K T (sp_first_rule K T) (m_first_rule K T) ["world","person","place","time","rule","is_in"]:=by
 intro vs H Q E h
 obtain ⟨loc,F,s,x,p,rfl,R,px,hg,q1,q2⟩:=h
 obtain ⟨ps,e,h1,h2⟩:=R.cell .UL
 have em:((s.now:Int) % 86400)=((s.now % 86400:Nat):Int):=by omega
 simp_arith! only [m_first_rule,R.w,em]
 refine ⟨by decide,⟨_,.inl (.inl h1)⟩,?_⟩
 refine forL (K:=K) (a:=loc .UL) (xs:=ps.map fun x=>V.ref x.1)
  (fun i σ H'=>H'=H∧(s.rules.take i).find? (ruleC s x p)=none∧∃ v w,σ=[some (.ref (loc .W)),some (.ref (loc (.pe x.id))),some (.int p),some (.int (s.now % 86400:Nat)),v,w])
  ⟨rfl,rfl,none,none,rfl⟩ (fun i σ H' _ ⟨e,_⟩=>.inl (.inl (e ▸ h1))) ?_ ?_
 ·rintro i v σ H' hi ⟨rfl,hn,w1,w2,rfl⟩
  rw [List.getElem?_map] at hi
  obtain ⟨r,hr,rfl⟩:=Option.map_eq_some_iff.mp hi
  have hre:s.rules[i]? = some r.2:=by rw [← e,List.getElem?_map,hr]; rfl
  have hgr:=hg r.2 (List.mem_of_getElem? hre)
  have hrv:=h2 r (List.mem_of_getElem? hr)
  have hfind:Vbcnad.ruleFor s x p=s.rules.find? (ruleC s x p):=rfl
  have hno:ruleC s x p r.2=false→(s.rules.take (i+1)).find? (ruleC s x p)=none:=fun h=>by
   rw [take1 hre,List.find?_append,hn]; simp [List.find?,h]
  have hyes:ruleC s x p r.2=true→Vbcnad.ruleFor s x p=some r.2:=fun h=>by
   rw [hfind,← List.take_append_drop (i+1) s.rules,take1 hre,List.find?_append,List.find?_append,hn]
   simp [List.find?,h]
  simp_arith only [hrv,R.pe px,R.gr px,atI_gr hgr,HO.lst.injEq]
  by_cases hm:r.2.group ∈ x.groups
  ·simp_arith only [hm,if_true,decide_true]
   by_cases hlo:r.2.lo≤p
   ·rw [if_pos (by omega)]
    by_cases hhi:p≤r.2.hi
    ·rw [if_pos (by omega)]
     refine ⟨r.1,r.2,s.now % 86400,rfl,hrv,?_⟩
     simp_arith only [and_assoc]
     cases hd:Vbcnad.inDay r.2.from_ r.2.to (s.now % 86400) with
     | true =>
      exact q2 _ _ (hyes (by simp [ruleC,hm,hlo,hhi,hd])) hrv
     | false =>
      exact hno (by simp [ruleC,hd])
    ·rw [if_neg (by omega)]
     exact hno (by simp [ruleC,hhi])
   ·rw [if_neg (by omega)]
    exact hno (by simp [ruleC,hlo])
  ·simp_arith only [hm,if_false,show ¬ ((0:Int)=1) by decide,decide_false]
   exact hno (by simp [ruleC,hm])
 ·rintro σ H' ⟨rfl,hn,w1,w2,rfl⟩
  rw [List.take_of_length_le (by rw [← e]; simp)] at hn
  exact q1 hn
noncomputable def wronged (s:VS) (y:Vbcnad.Person):Vbcnad.Person:=if s.cfg.wrong≤y.wrong+1 then { y with wrong:=0,locked:=s.now+s.cfg.lock } else { y with wrong:=y.wrong+1 }
inductive sp_add_wrong (K:W.Frag) (T:Tb) (vs:List V) (H:Hp) (Q:VK) (E0:XK):Prop | mk (loc F s y) (_:vs=[.ref (loc .W),.ref (loc (.pe y.id))]) (_:Rep T loc F H s) (_:y ∈ s.persons) (_:Srt s.persons) (_:∀ H',Rep T loc F H' (Vbcnad.onPerson s (wronged s y))→Q .non H')
noncomputable def m_add_wrong (K:W.Frag) (T:Tb):MB:=(.cons (.faug (.var 1) "wrong" 3 4 .Add rAdd (.int 1))
  (.cons (.if_ (.cmp .GtE (rI0 fun i j=>.bl (decide (j≤i))) (.fld (.var 1) "wrong" 3 4) (.fld (.var 0) "most_wrong" 7 5)) (.cons (.fset (.var 1) "wrong" 3 4 (.int 0))
  (.cons (.fset (.var 1) "locked" 3 5 (.op .Add (rI0 fun i j=>.int (i+j)) (.fld (.var 0) "now" 7 10) (.fld (.var 0) "lock" 7 6)))
  .nil)) .nil)
  .nil))
theorem w_add_wrong {K:W.Frag} {T:Tb}:Wk K T (sp_add_wrong K T) (m_add_wrong K T) ["world","person"]:=by
 intro vs H Q E h
 obtain ⟨loc,F,s,y,rfl,R,py,hS,q⟩:=h
 have nW:loc .W≠loc (.pe y.id):=fun e=>by cases R.inj .W (.pe y.id) trivial ⟨y,py,rfl⟩ e
 have hg:∀ vs:List V,vs.length≤6→getV T 3 (setV T 3 H (loc (.pe y.id)) vs (loc (.pe y.id)))=some vs:=fun vs h=>setV_get (R.pe py) h
 have hs:∀ vs ws:List V,setV T 3 (setV T 3 H (loc (.pe y.id)) vs) (loc (.pe y.id)) ws=setV T 3 H (loc (.pe y.id)) ws:=fun vs ws=>setV_set (R.pe py)
 have hw:∀ vs:List V,getV T 7 (setV T 3 H (loc (.pe y.id)) vs (loc .W))=some (woV loc s):=fun vs=>by rw [jcn nW]; exact R.w
 simp_arith only [m_add_wrong,R.pe py,hg,hs,hw]
 unfold wronged at q
 by_cases h:s.cfg.wrong≤y.wrong+1
 ·rw [if_pos (by omega)]
  rw [if_pos h] at q
  exact q _ (R.persSet hS py (x':={ y with wrong:=0,locked:=s.now+s.cfg.lock }) rfl rfl)
 ·rw [if_neg (by omega)]
  rw [if_neg h] at q
  exact q _ (R.persSet hS py (x':={ y with wrong:=y.wrong+1 }) rfl rfl)
theorem Lk.ak {loc:Lo} {n:Nat} {d:Addr}:Lk loc (loc.put (.ak n) d):=⟨Lo.put_ne (by simp),Lo.put_ne (by simp),fun q=>Lo.put_ne (by simp)⟩
inductive sp_know (K:W.Frag) (T:Tb) (vs:List V) (H:Hp) (Q:VK) (E0:XK):Prop | mk (loc F s p n i h) (_:vs=[.ref (loc .W),.int (p:Nat),.int (n:Nat),.int (i:Nat),.int (h:Nat)]) (_:Rep T loc F H s) (_:s.cfg.bag≤1024) (_:s.asks.length≤256) (_:(∀ z ∈ s.asks,z.n≠n)) (_:PostS T loc F Q (Vbcnad.send { s with book:=s.book+1,asks:=s.asks ++ [{ n:=n,port:=p,id:=i,hw:=h,c:=s.book+1,over:=s.now+s.cfg.life }] } (.ask p n (s.book+1))))
noncomputable def m_know (K:W.Frag) (T:Tb):MB:=(.cons (.set 5 (.call "draw" (sp_draw K T) (.cons (.var 0) .nil)))
  (.cons (.dput (.fld (.var 0) "known" 7 17) (.var 2) (.make "Attempt" 5 (sp_init_Attempt T) (.cons (.var 1) (.cons (.var 3) (.cons (.var 4) (.cons (.var 5) (.cons (.op .Add (rI0 fun i j=>.int (i+j)) (.fld (.var 0) "now" 7 10) (.fld (.var 0) "life" 7 7)) .nil)))))))
  (.cons (.expr (.call "send" (sp_send K T) (.cons (.var 0) (.cons (.tup (.cons (.glo "CHALLENGE" (.int 3)) (.cons (.var 1) (.cons (.var 2) (.cons (.var 5) .nil))))) .nil))))
  .nil)))
theorem w_know {K:W.Frag} {T:Tb}:Wk K T (sp_know K T) (m_know K T) ["world","place","n","who","host","challenge"]:=by
 intro vs H Q E h
 obtain ⟨loc,F,s,p,n,i,h,rfl,R,hb,hl,hnew,q⟩:=h
 refine ⟨loc,F,s,rfl,R,fun H1 R1 _=>?_⟩
 simp_arith only [R1.w,ob_nil]
 intro x dx hx hdx ne
 refine ⟨x,dx,_,_,_,_,_,rfl,jaa,?_⟩
 have R2:=R1.make (c:=5) (vs:=akV { n:=n,port:=p,id:=i,hw:=h,c:=s.book+1,over:=s.now+s.cfg.life } .non) hx hdx ne
 have e2:=R2.w
 have k2:=R2.kd
 simp_arith only [and_assoc] at e2 k2
 simp_arith only [jaq]
 have R3:=R2.askNew (R1.free hx) hnew rfl
 simp_arith only [and_assoc] at R3
 have e3:=R3.w
 simp_arith only [and_assoc] at e3
 have hz:=szl
 refine ⟨_,e2,_,rfl,_,rfl,_,DPut.k (k:=Sum.inl (n:Int)) k2 (by rw [List.length_map]; omega),sz4,fun t ht=>?_⟩
 exact ⟨loc.put (.ak n) x,F,_,.ask p n (s.book+1),t,by rw [Lk.ak.1],R3.junk ht,hb,jaa,fun H4 R4 _=>q _ _ Lk.ak R4⟩
inductive sp_take_hello (K:W.Frag) (T:Tb) (vs:List V) (H:Hp) (Q:VK) (E0:XK):Prop | mk (loc F s p n i h) (_:vs=[.ref (loc .W),.int (p:Nat),.int (n:Nat),.int (i:Nat),.int (h:Nat)]) (_:Rep T loc F H s) (_:s.cfg.bag≤1024) (_:s.cfg.asks≤256) (_:PostS T loc F Q (Vbcnad.onHello s p n i h))
theorem sz3':3≤sizeLine:=by decide
noncomputable def m_take_hello (K:W.Frag) (T:Tb):MB:=(.cons (.set 5 (.dgt1 (.fld (.var 0) "known" 7 17) (.var 2)))
  (.cons (.if_ (.cmp .IsNot rNotN (.var 5) .non) (.cons (.if_ (.cmp .IsNot rNotN (.fld (.var 5) "decided" 5 5) .non) (.cons (.expr (.call "send" (sp_send K T) (.cons (.var 0) (.cons (.fld (.var 5) "decided" 5 5) .nil))))
  .nil) (.cons (.expr (.call "send" (sp_send K T) (.cons (.var 0) (.cons (.tup (.cons (.glo "CHALLENGE" (.int 3)) (.cons (.var 1) (.cons (.var 2) (.cons (.fld (.var 5) "challenge" 5 3) .nil))))) .nil))))
  .nil))
  .nil) (.cons (.if_ (.not_ (.call "may_be_admitted" (sp_may_be_admitted K T) (.cons (.var 0) (.cons (.var 3) (.cons (.var 4) .nil))))) (.cons (.expr (.call "send" (sp_send K T) (.cons (.var 0) (.cons (.tup (.cons (.glo "NO" (.int 5)) (.cons (.var 1) (.cons (.var 2) .nil)))) .nil))))
  .nil) (.cons (.if_ (.cmp .Lt (rI0 fun i j=>.bl (decide (i < j))) (.bif "len" "len" rLenD (.cons (.fld (.var 0) "known" 7 17) .nil)) (.fld (.var 0) "asks" 7 8)) (.cons (.expr (.call "know" (sp_know K T) (.cons (.var 0) (.cons (.var 1) (.cons (.var 2) (.cons (.var 3) (.cons (.var 4) .nil)))))))
  .nil) .nil)
  .nil))
  .nil))
  .nil))
theorem w_take_hello {K:W.Frag} {T:Tb}:Wk K T (sp_take_hello K T) (m_take_hello K T) ["world","place","n","who","host","attempt"]:=by
 intro vs H Q E h
 obtain ⟨loc,F,s,p,n,i,h,rfl,R,hb,hA,q⟩:=h
 unfold Vbcnad.onHello at q
 have kd:=R.kd
 have kv:=ak_val (loc:=loc) (l:=s.asks) (n:=n)
 simp_arith [m_take_hello,R.w]
 refine ⟨.inl ⟨_,.inl kd⟩,_,DGet.k (k:=Sum.inl (n:Int)) kd,?_⟩
 rw [show (s.asks.map fun a=>((Sum.inl (a.n:Int):Key),V.ref (loc (.ak a.n))))=s.asks.map (akv loc) from rfl,kv]
 cases hf:s.asks.find? fun a=>a.n == n with
 | some a =>
  rw [hf] at q
  have ha:=List.mem_of_find?_eq_some hf
  have hn:a.n=n:=by simpa using List.find?_some hf
  subst hn
  obtain ⟨d,g,hd⟩:=R.ak ha
  unfold Dc at hd
  simp_arith only [Option.map_some,Option.getD_some,decide_false,Bool.not_false,g]
  cases hr:a.reply with
  | none =>
   rw [hr] at hd
   simp only [hr] at q
   subst hd
   intro t ht
   exact ⟨loc,F,s,.ask p a.n a.c,t,rfl,R.junk ht,hb,jaa,fun H2 R2 _=>q _ _ Lk.rfl' R2⟩
  | some r =>
   rw [hr] at hd
   simp only [hr] at q
   obtain ⟨b,rfl,hb2⟩:=hd
   exact ⟨loc,F,s,_,b,rfl,R,hb,hb2,fun H2 R2 _=>q _ _ Lk.rfl' R2⟩
 | none =>
  rw [hf] at q
  simp_arith [Option.map_none,Option.getD_none,decide_true,Bool.not_true]
  refine ⟨loc,F,s,i,h,rfl,R,?_⟩
  cases hm:Vbcnad.mayBe s i h with
  | none =>
   rw [hm] at q
   simp_arith [Option.isSome_none,Bool.not_false,sz3]
   intro t ht
   exact ⟨loc,F,s,.no p n,t,rfl,R.junk ht,hb,jaa,fun H2 R2 _=>q _ _ Lk.rfl' R2⟩
  | some y =>
   rw [hm] at q
   simp_arith only [Option.isSome_some,Bool.not_true,R.w,kd,HO.dK.injEq,List.length_map]
   by_cases hl:s.cfg.asks≤s.asks.length
   ·rw [if_neg (by omega)]
    simp only [if_pos hl] at q
    exact q _ _ Lk.rfl' R
   ·rw [if_pos (by omega)]
    simp only [if_neg hl] at q
    exact ⟨loc,F,s,p,n,i,h,rfl,R,hb,by omega,fun z hz=>by have:=List.find?_eq_none.mp hf z hz; simpa using this,q⟩
inductive sp_begin_session (K:W.Frag) (T:Tb) (vs:List V) (H:Hp) (Q:VK) (E0:XK):Prop | mk (loc F s a r b) (_:vs=[.ref (loc .W),.int (a.n:Nat),.ref (loc (.ak a.n)),.ref b]) (_:Rep T loc F H s) (_:a ∈ s.asks) (_:getV T 4 (H b)=some (ruV r)) (_:s.opened.length≤1000000) (_:∀ H' t,Rep T loc F H' { s with book:=s.book+1,opened:=s.opened ++ [⟨s.book+1,a.id,a.hw,a.port,s.now+r.len⟩] }→H' t=some (.tup (msgV (.yes a.port a.n (s.book+1) r.vlan r.len r.again)))→Q (.ref t) H')
noncomputable def m_begin_session (K:W.Frag) (T:Tb):MB:=(.cons (.set 4 (.call "draw" (sp_draw K T) (.cons (.var 0) .nil)))
  (.cons (.set 5 (.op .Add (rI0 fun i j=>.int (i+j)) (.fld (.var 0) "now" 7 10) (.fld (.var 3) "length" 4 6)))
  (.cons (.expr (.mth (.fld (.var 0) "begun" 7 18) "append" "list" "list.append" rAppend (.cons (.make "Begun" 6 (sp_init_Begun T) (.cons (.var 4) (.cons (.fld (.var 2) "who" 5 1) (.cons (.fld (.var 2) "host" 5 2) (.cons (.fld (.var 2) "port" 5 0) (.cons (.var 5) .nil)))))) .nil)))
  (.cons (.ret (.tup (.cons (.glo "YES" (.int 4)) (.cons (.fld (.var 2) "port" 5 0) (.cons (.var 1) (.cons (.var 4) (.cons (.fld (.var 3) "vlan" 4 5) (.cons (.fld (.var 3) "length" 4 6) (.cons (.fld (.var 3) "again" 4 7) .nil)))))))))
  .nil))))
theorem w_begin_session {K:W.Frag} {T:Tb}:Wk K T (sp_begin_session K T) (m_begin_session K T) ["world","n","attempt","rule","number","over"]:=by
 intro vs H Q E h
 obtain ⟨loc,F,s,a,r,b,rfl,R,ha,hr,hl,q⟩:=h
 refine ⟨loc,F,s,rfl,R,fun H1 R1 fr=>?_⟩
 have hbW:b≠loc .W:=fun e=>by
  have:=(R.soft (r:=.W) trivial).2.1
  rw [← e,hr] at this; cases this
 obtain ⟨dr,ho,_⟩:=jai hr
 have hr1:getV T 4 (H1 b)=some (ruV r):=by rw [fr _ _ ho hbW,← ho]; exact hr
 obtain ⟨ps,e,h1,h2⟩:=R1.cell .GL
 have hpl:ps.length=s.opened.length:=by rw [← show (ps.map (·.2))=s.opened from e,List.length_map]
 obtain ⟨d,g,_⟩:=R1.ak ha
 simp_arith only [R1.w,hr1,g,h1,HO.lst.injEq,ob_nil]
 refine ⟨tyL h1,fun x dx hx hdx ne=>?_⟩
 refine ⟨x,dx,_,_,_,_,_,rfl,jaa,?_⟩
 simp_arith only [jaq]
 have R2:=(R1.make (c:=6) (vs:=opV ⟨s.book+1,a.id,a.hw,a.port,s.now+r.len⟩) hx hdx ne).drop (R1.free hx)
 have g2:Same H1 (upd (upd H1 dx (.own x)) x (T.ob 6 dx (opV ⟨s.book+1,a.id,a.hw,a.port,s.now+r.len⟩))):=(Same.fresh hdx).trans (Same.fresh (by rw [upd_ne (fun w=>ne w.symm)]; exact hx))
 have hz:=szl
 refine ⟨_,g2 _ _ h1,by rw [List.length_map]; omega,?_⟩
 have R3:=R2.begSet (ps:=ps ++ [(x,⟨s.book+1,a.id,a.hw,a.port,s.now+r.len⟩)]) (fun z hz=>by
  rcases List.mem_append.mp hz with hz | hz
  ·exact (Kp.same g2).o _ _ (h2 z hz)
  ·rw [List.mem_singleton.mp hz,jaa]; exact jae (Nat.le_refl _))
 have hr3:getV T 4 (upd (upd (upd H1 dx (.own x)) x (T.ob 6 dx (opV ⟨s.book+1,a.id,a.hw,a.port,s.now+r.len⟩))) (loc .GL) (.lst (ps.map (fun x=>V.ref x.1) ++ [V.ref x])) b)=some (ruV r):=(Kp.soft (R2.soft (r:=.GL) trivial)).r _ _ ((Kp.same g2).r _ _ hr1)
 rw [List.map_append,List.map_append] at R3
 simp only [List.map_cons,List.map_nil] at R3
 obtain ⟨d3,g3,_⟩:=R3.ak ha
 rw [show (ps.map (·.2))=s.opened from e] at R3
 have hs7:7≤sizeLine:=by decide
 have g3':=g3
 simp only [opV,Int.natCast_add] at g3' hr3
 simp only [Int.natCast_add] at g3' hr3 ⊢
 simp_arith only [g3',hr3,hs7]
 intro t ht
 exact q _ t (R3.junk ht) jaa
structure Bp (s:VS):Prop where
 cb:s.cfg.bag≤1024
 ca:s.cfg.asks≤256
 ps:Srt s.persons
 pi:∀ x ∈ s.persons,x.secret < 2 ^ 61
 rg:∀ r ∈ s.rules,r.group < 64
 an:(s.asks.map (·.n)).Nodup
 ac:∀ a ∈ s.asks,a.c < 2 ^ 61
 ol:s.opened.length≤1000000
 cl:s.accounts.length≤1000000
 cn:(s.accounts.map (·.num)).Nodup
theorem mayBe_some {s:VS} {i h:Nat} {y:Vbcnad.Person} (e:Vbcnad.mayBe s i h=some y):y ∈ s.persons∧y.id=i∧Vbcnad.personOf s i=some y:=by
 unfold Vbcnad.mayBe at e
 split at e
 ·rename_i x hx
  split at e
  ·cases e
   exact ⟨List.mem_of_find?_eq_some hx,by simpa using List.find?_some hx,hx⟩
  ·cases e
 ·cases e
inductive sp_decide (K:W.Frag) (T:Tb) (vs:List V) (H:Hp) (Q:VK) (E0:XK):Prop | mk (loc F s a x) (_:vs=[.ref (loc .W),.int (a.n:Nat),.ref (loc (.ak a.n)),.int (x:Nat)]) (_:Rep T loc F H s) (_:a ∈ s.asks) (_:Bp s) (_:∀ H' t,Rep T loc F H' (Vbcnad.decides s a x).1→H' t=some (.tup (msgV (Vbcnad.replyMsg a (Vbcnad.decides s a x).2)))→Q (.ref t) H')
noncomputable def m_decide (K:W.Frag) (T:Tb):MB:=(.cons (.set 4 (.tup (.cons (.glo "NO" (.int 5)) (.cons (.fld (.var 2) "port" 5 0) (.cons (.var 1) .nil)))))
  (.cons (.if_ (.not_ (.call "may_be_admitted" (sp_may_be_admitted K T) (.cons (.var 0) (.cons (.fld (.var 2) "who" 5 1) (.cons (.fld (.var 2) "host" 5 2) .nil))))) (.cons (.ret (.var 4))
  .nil) .nil)
  (.cons (.set 5 (.dget (.fld (.var 0) "persons" 7 15) (.fld (.var 2) "who" 5 1)))
  (.cons (.if_ (.cmp .NotEq rNe (.var 3) (.call "keyed_sum" (sp_keyed_sum K T) (.cons (.fld (.var 5) "secret" 3 0) (.cons (.fld (.var 2) "challenge" 5 3) .nil)))) (.cons (.expr (.call "add_wrong" (sp_add_wrong K T) (.cons (.var 0) (.cons (.var 5) .nil))))
  (.cons (.ret (.var 4))
  .nil)) .nil)
  (.cons (.fset (.var 5) "wrong" 3 4 (.int 0))
  (.cons (.set 6 (.call "first_rule" (sp_first_rule K T) (.cons (.var 0) (.cons (.var 5) (.cons (.fld (.var 2) "port" 5 0) .nil)))))
  (.cons (.if_ (.cmp .Is rIsN (.var 6) .non) (.cons (.ret (.var 4))
  .nil) .nil)
  (.cons (.ret (.call "begin_session" (sp_begin_session K T) (.cons (.var 0) (.cons (.var 1) (.cons (.var 2) (.cons (.var 6) .nil))))))
  .nil))))))))
theorem w_decide {K:W.Frag} {T:Tb}:Wk K T (sp_decide K T) (m_decide K T) ["world","n","attempt","x","no","person","rule"]:=by
 intro vs H Q E h
 obtain ⟨loc,F,s,a,x,rfl,R,ha,B,q⟩:=h
 unfold Vbcnad.decides at q
 obtain ⟨d,g,_⟩:=R.ak ha
 simp_arith [m_decide,g,sz3]
 intro t0 ht0
 have R1:=R.new (o:=.tup [.int 5,.int a.port,.int a.n]) ht0
 have hF0:=R.free ht0
 obtain ⟨d1,g1,_⟩:=R1.ak ha
 generalize hH1:upd H t0 _=H1 at R1 g1 ⊢
 have hno:∀ H' s',Rep T loc (upd F t0 (.tup [.int 5,.int a.port,.int a.n])) H' s'→H' t0=some (.tup (msgV (Vbcnad.replyMsg a .no))):=fun H' s' R'=>R'.ownH
 simp_arith [g1]
 refine ⟨loc,_,s,a.id,a.hw,rfl,R1,?_⟩
 cases hm:Vbcnad.mayBe s a.id a.hw with
 | none =>
  rw [hm] at q
  exact q _ _ (R1.drop hF0) (hno _ _ R1)
 | some y =>
  rw [hm] at q
  obtain ⟨py,pid,_⟩:=mayBe_some hm
  obtain ⟨kvs,h1,h2,h3,h4,h5⟩:=R1.pd
  have hdg:DGet H1 (loc .PD) (.int (a.id:Nat)) (some (.ref (loc (.pe y.id)))):=by rw [← pid]; exact jbg h1 (h4 y py)
  simp_arith [Option.isSome_some,Bool.not_true,R1.w,g1]
  refine ⟨_,hdg,?_⟩
  have hpe:=R1.pe py
  simp_arith [hpe,g1]
  have hsec:=B.pi y py
  have hc:=B.ac a ha
  refine ⟨y.secret,a.c,rfl,by omega,by omega,?_⟩
  simp_arith only [Bool.not_eq_true',decide_eq_false_iff_not,Int.natCast_inj]
  by_cases hk:x=Vbcnad.keyed y.secret a.c
  ·rw [if_neg (by simp [hk])]
   simp only [hk,ne_eq,not_true,if_false] at q
   have R2:=R1.persSet B.ps py (x':={ y with wrong:=0 }) rfl rfl
   simp_arith only [Int.natCast_zero] at R2
   simp_arith only [hpe]
   have y2:({ y with wrong:=0 }:Vbcnad.Person) ∈ (Vbcnad.onPerson s { y with wrong:=0 }).persons:=by
    show _ ∈ Vbcnad.putPerson _ s.persons
    rw [ja4 (x':={ y with wrong:=0 }) B.ps py rfl]
    exact List.mem_map.mpr ⟨y,py,if_pos rfl⟩
   generalize hH2:setV T 3 H1 _ _=H2 at R2 ⊢
   obtain ⟨d2,g2,_⟩:=R2.ak (a:=a) ha
   simp_arith only [g2]
   have erf:Vbcnad.ruleFor (Vbcnad.onPerson s { y with wrong:=0 }) { y with wrong:=0 } a.port=Vbcnad.ruleFor s y a.port:=rfl
   refine ⟨loc,_,_,{ y with wrong:=0 },a.port,rfl,R2,y2,B.rg,fun hr=>?_,fun r b hr hb=>?_⟩
   ·rw [erf] at hr
    simp only [hr] at q
    simp_arith [decide_true]
    exact q _ _ (R2.drop hF0) (hno _ _ R2)
   ·rw [erf] at hr
    simp only [hr] at q
    simp_arith [decide_false]
    exact ⟨loc,_,_,a,r,b,rfl,R2.drop hF0,ha,hb,B.ol,fun H3 t R3 ht=>q _ t R3 ht⟩
  ·rw [if_pos hk]
   simp only [ne_eq,hk,not_false_eq_true,if_true] at q
   refine ⟨loc,_,s,y,rfl,R1,py,B.ps,fun H2 R2=>?_⟩
   exact q _ _ (R2.drop hF0) (hno _ _ R2)
inductive sp_send_overs_elsewhere (K:W.Frag) (T:Tb) (vs:List V) (H:Hp) (Q:VK) (E0:XK):Prop | mk (loc F s h p) (_:vs=[.ref (loc .W),.int (h:Nat),.int (p:Nat)]) (_:Rep T loc F H s) (_:s.cfg.bag≤1024) (_:∀ H',Rep T loc F H' (Vbcnad.sends s ((s.opened.filter fun o=>o.hw == h && o.port != p).map fun o=>.over o.num))→Q .non H')
noncomputable def m_send_overs_elsewhere (K:W.Frag) (T:Tb):MB:=(.cons (.for_ (.name 3) (.list (.fld (.var 0) "begun" 7 18)) (.cons (.if_ (.bol true (.cmp .Eq rEq (.fld (.var 3) "host" 6 2) (.var 1)) (.cons (.cmp .NotEq rNe (.fld (.var 3) "port" 6 3) (.var 2)) .nil)) (.cons (.expr (.call "send" (sp_send K T) (.cons (.var 0) (.cons (.tup (.cons (.glo "OVER" (.int 6)) (.cons (.fld (.var 3) "number" 6 0) .nil))) .nil))))
  .nil) .nil)
  .nil))
  .nil)
theorem w_send_overs_elsewhere {K:W.Frag} {T:Tb}:Wk K T (sp_send_overs_elsewhere K T) (m_send_overs_elsewhere K T) ["world","host","place","begun"]:=by
 intro vs H Q E h
 obtain ⟨loc,F,s,h,p,rfl,R,hb,q⟩:=h
 obtain ⟨ps,e,h1,h2⟩:=R.cell .GL
 simp_arith only [m_send_overs_elsewhere,R.w]
 refine ⟨⟨_,.inl (.inl h1)⟩,?_⟩
 refine forL (K:=K) (a:=loc .GL) (xs:=ps.map fun x=>V.ref x.1)
  (fun i σ H'=>Rep T loc F H' (Vbcnad.sends s (((s.opened.take i).filter fun o=>o.hw == h && o.port != p).map fun o=>.over o.num))∧H' (loc .GL)=some (.lst (ps.map fun x=>V.ref x.1))∧(∀ x ∈ ps,H' x.1=H x.1)∧∃ v,σ=[some (.ref (loc .W)),some (.int h),some (.int p),v])
  ⟨R,h1,fun _ _=>rfl,none,rfl⟩ (fun i σ H' _ ⟨_,R',_⟩=>.inl (.inl R')) ?_ ?_
 ·rintro i v σ H' hi ⟨R2,h3,h4,v1,rfl⟩
  rw [List.getElem?_map] at hi
  obtain ⟨x,hx,rfl⟩:=Option.map_eq_some_iff.mp hi
  have hxe:s.opened[i]? = some x.2:=by rw [← e,List.getElem?_map,hx]; rfl
  have hx1:getV T 6 (H' x.1)=some (opV x.2):=by rw [h4 x (List.mem_of_getElem? hx)]; exact h2 x (List.mem_of_getElem? hx)
  have no:(x.2.hw == h && x.2.port != p)=false→Rep T loc F H' (Vbcnad.sends s (((s.opened.take (i+1)).filter fun o=>o.hw == h && o.port != p).map fun o=>.over o.num))∧H' (loc .GL)=some (.lst (ps.map fun x=>V.ref x.1))∧(∀ x ∈ ps,H' x.1=H x.1):=fun hc=>by
   rw [take1 hxe,List.filter_append,List.filter_cons,if_neg (by rw [hc]; simp)]
   simp only [List.filter_nil,List.append_nil]
   exact ⟨R2,h3,h4⟩
  simp_arith only [hx1,two_sz,Int.natCast_inj,Bool.not_eq_true',decide_eq_false_iff_not,HO.lst.injEq]
  by_cases hc:x.2.hw=h
  ·rw [if_pos hc]
   by_cases hp:x.2.port=p
   ·rw [if_neg (by simp [hp])]
    exact no (by simp [hp])
   ·rw [if_pos hp]
    intro t ht
    refine ⟨loc,F,_,.over x.2.num,t,rfl,R2.junk ht,by rw [jbc]; exact hb,jaa,fun H3 R3 fr=>?_⟩
    rw [take1 hxe,List.filter_append,List.map_append,List.filter_cons,if_pos (by simp [hc,hp]),jbd]
    refine ⟨R3,fr _ _ (jaf h3 ht) ?_ ?_,fun z hz=>?_,_,rfl⟩
    ·exact fun z=>by cases R2.inj .GL .W trivial trivial z
    ·exact fun z=>by cases R2.inj .GL .BL trivial trivial z
    ·have hz1:getV T 6 (H' z.1)=some (opV z.2):=by rw [h4 z hz]; exact h2 z hz
     obtain ⟨dx,ho,_⟩:=jai hz1
     rw [fr _ _ (jaf ho ht),← h4 z hz,ho]
     ·intro w
      have:=(R2.soft (r:=.W) trivial).2.2
      rw [← w,hz1] at this; cases this
     ·intro w
      have:=(R2.soft (r:=.BL) trivial).2.2
      rw [← w,hz1] at this; cases this
  ·rw [if_neg hc]
   exact no (by simp [hc])
 ·rintro σ H2 ⟨R2,_,_,v1,rfl⟩
  rw [List.take_of_length_le (by rw [← e]; simp)] at R2
  exact q _ R2
theorem jb1 {s:VS} {a:Vbcnad.Ask} {x:Nat}:(Vbcnad.decides s a x).1.asks=s.asks∧(Vbcnad.decides s a x).1.cfg=s.cfg:=by
 unfold Vbcnad.decides
 split
 ·exact ⟨rfl,rfl⟩
 ·split
  ·exact ⟨rfl,rfl⟩
  ·split <;> exact ⟨rfl,rfl⟩
theorem dec_opened {s:VS} {a:Vbcnad.Ask} {x:Nat} (h:(Vbcnad.decides s a x).2≠.no):(Vbcnad.decides s a x).1.opened.filter (fun o=>o.hw == a.hw && o.port != a.port)=s.opened.filter fun o=>o.hw == a.hw && o.port != a.port:=by
 unfold Vbcnad.decides at h ⊢
 split
 ·rename_i e; simp [e] at h
 ·rename_i y e
  simp only [e] at h
  split
  ·rename_i e2; rw [if_pos e2] at h; exact absurd rfl h
  ·rename_i e2
   rw [if_neg e2] at h
   split
   ·rename_i e3; simp [e3] at h
   ·rename_i r e3
    show (s.opened ++ _).filter _=_
    rw [List.filter_append]
    simp
inductive sp_take_answer (K:W.Frag) (T:Tb) (vs:List V) (H:Hp) (Q:VK) (E0:XK):Prop | mk (loc F s n c x) (_:vs=[.ref (loc .W),.int (n:Nat),.int (c:Nat),.int (x:Nat)]) (_:Rep T loc F H s) (_:Bp s) (_:PostS T loc F Q (Vbcnad.onAnswer s n c x))
theorem find_two {l:List Vbcnad.Ask} {n c:Nat} (hn:(l.map (·.n)).Nodup):(l.find? fun a=>a.n == n && a.c == c)=match l.find? (fun a=>a.n == n) with
  | some a=>if a.c=c then some a else none
  | none=>none:=by
 cases hf:l.find? (fun a=>a.n == n) with
 | none =>
  rw [List.find?_eq_none] at hf ⊢
  intro a ha
  have:=hf a ha
  simp at this ⊢
  intro h; exact absurd h this
 | some a =>
  have ha:=List.mem_of_find?_eq_some hf
  have hn1:a.n=n:=by simpa using List.find?_some hf
  simp only []
  by_cases hc:a.c=c
  ·rw [if_pos hc]
   cases h2:l.find? fun a=>a.n == n && a.c == c with
   | none =>
    rw [List.find?_eq_none] at h2
    have:=h2 a ha
    simp [hn1,hc] at this
   | some b =>
    have hb:=List.mem_of_find?_eq_some h2
    have:=List.find?_some h2
    simp at this
    rw [jb4 hn hb ha (by omega)]
  ·rw [if_neg hc,List.find?_eq_none]
   intro b hb
   simp
   intro h1 h2
   have:=jb4 hn hb ha (by omega)
   subst this
   exact hc h2
noncomputable def m_take_answer (K:W.Frag) (T:Tb):MB:=(.cons (.set 4 (.dgt1 (.fld (.var 0) "known" 7 17) (.var 1)))
  (.cons (.if_ (.bol false (.cmp .Is rIsN (.var 4) .non) (.cons (.cmp .NotEq rNe (.fld (.var 4) "challenge" 5 3) (.var 2)) .nil)) (.cons .retN
  .nil) .nil)
  (.cons (.if_ (.cmp .IsNot rNotN (.fld (.var 4) "decided" 5 5) .non) (.cons (.expr (.call "send" (sp_send K T) (.cons (.var 0) (.cons (.fld (.var 4) "decided" 5 5) .nil))))
  (.cons .retN
  .nil)) .nil)
  (.cons (.fset (.var 4) "decided" 5 5 (.call "decide" (sp_decide K T) (.cons (.var 0) (.cons (.var 1) (.cons (.var 4) (.cons (.var 3) .nil))))))
  (.cons (.expr (.call "send" (sp_send K T) (.cons (.var 0) (.cons (.fld (.var 4) "decided" 5 5) .nil))))
  (.cons (.if_ (.cmp .Eq rEq (.ix rIxU (.fld (.var 4) "decided" 5 5) (.int 0)) (.glo "YES" (.int 4))) (.cons (.expr (.call "send_overs_elsewhere" (sp_send_overs_elsewhere K T) (.cons (.var 0) (.cons (.fld (.var 4) "host" 5 2) (.cons (.fld (.var 4) "port" 5 0) .nil)))))
  .nil) .nil)
  .nil))))))
theorem w_take_answer {K:W.Frag} {T:Tb}:Wk K T (sp_take_answer K T) (m_take_answer K T) ["world","n","challenge","x","attempt"]:=by
 intro vs H Q E h
 obtain ⟨loc,F,s,n,c,x,rfl,R,B,q⟩:=h
 unfold Vbcnad.onAnswer at q
 rw [find_two B.an] at q
 have kd:=R.kd
 have kv:=ak_val (loc:=loc) (l:=s.asks) (n:=n)
 simp_arith [m_take_answer,R.w]
 refine ⟨.inl ⟨_,.inl kd⟩,_,DGet.k (k:=Sum.inl (n:Int)) kd,?_⟩
 rw [show (s.asks.map fun a=>((Sum.inl (a.n:Int):Key),V.ref (loc (.ak a.n))))=s.asks.map (akv loc) from rfl,kv]
 cases hf:s.asks.find? fun a=>a.n == n with
 | none =>
  rw [hf] at q
  simp_arith [Option.map_none,Option.getD_none,decide_true]
  exact q _ _ Lk.rfl' R
 | some a =>
  rw [hf] at q
  have ha:=List.mem_of_find?_eq_some hf
  have hn:a.n=n:=by simpa using List.find?_some hf
  subst hn
  obtain ⟨d,g,hd⟩:=R.ak ha
  unfold Dc at hd
  simp_arith only [Option.map_some,Option.getD_some,decide_false,Bool.not_false,g,Bool.not_eq_true',decide_eq_false_iff_not,Int.natCast_inj]
  by_cases hc:a.c=c
  ·rw [if_neg (by simp [hc])]
   simp only [if_pos hc] at q
   cases hr:a.reply with
   | some r =>
    rw [hr] at hd
    simp only [hr] at q
    obtain ⟨b,rfl,hb2⟩:=hd
    exact ⟨loc,F,s,_,b,rfl,R,B.cb,hb2,fun H2 R2 _=>q _ _ Lk.rfl' R2⟩
   | none =>
    rw [hr] at hd
    simp only [hr] at q
    subst hd
    refine ⟨loc,F,s,a,x,rfl,R,ha,B,fun H1 t R1 ht=>?_⟩
    have ha1:a ∈ (Vbcnad.decides s a x).1.asks:=by rw [jb1.1]; exact ha
    have an1:((Vbcnad.decides s a x).1.asks.map (·.n)).Nodup:=by rw [jb1.1]; exact B.an
    obtain ⟨d1,g1,_⟩:=R1.ak ha1
    have R2:=R1.decSet an1 ha1 ht
    have t2:setV T 5 H1 (loc (.ak a.n)) (akV a (.ref t)) t=some (.tup (msgV (Vbcnad.replyMsg a (Vbcnad.decides s a x).2))):=by
     rw [jcn]
     ·exact ht
     ·intro e
      have:=(R1.soft (r:=.ak a.n) ⟨a,ha1,rfl⟩).1
      rw [← e] at this
      exact this _ ht
    have g2:=setV_get (vs:=akV a (.ref t)) g1 (Nat.le_refl _)
    simp_arith only [g1,Option.map_some,Option.getD_some] at g2 R2 t2 ⊢
    generalize hH2:setV T 5 H1 _ _=H2 at g2 R2 t2 ⊢
    simp_arith only [g2]
    refine ⟨loc,F,_,_,t,rfl,R2,by show (Vbcnad.decides s a x).1.cfg.bag≤1024; rw [jb1.2]; exact B.cb,t2,fun H3 R3 fr=>?_⟩
    have hm3:({ a with reply:=some (Vbcnad.decides s a x).2 }:Vbcnad.Ask) ∈ (Vbcnad.send { (Vbcnad.decides s a x).1 with asks:=(Vbcnad.decides s a x).1.asks.map fun z=>if z.n=a.n then { z with reply:=some (Vbcnad.decides s a x).2 } else z } (Vbcnad.replyMsg a (Vbcnad.decides s a x).2)).asks:=by
     rw [show ∀ (u:VS) m,(Vbcnad.send u m).asks=u.asks from fun u m=>by unfold Vbcnad.send; split <;> rfl]
     exact List.mem_map.mpr ⟨a,ha1,if_pos rfl⟩
    obtain ⟨d3,g3,hd3⟩:=R3.ak hm3
    unfold Dc at hd3
    obtain ⟨b3,rfl,hb3⟩:=hd3
    rw [reply_same] at hb3
    simp_arith only [and_assoc] at g3
    cases hdec:(Vbcnad.decides s a x).2 with
    | no =>
     rw [hdec] at hb3
     simp only [msgV,Vbcnad.replyMsg,Vbcnad.msgShown,List.map_cons,List.map_nil] at hb3
     simp_arith [g3,hb3,HO.tup.injEq,atI_0]
     simp only [hdec,if_true] at q
     rw [hdec] at R3
     exact q _ _ Lk.rfl' R3
    | yes num v l gg =>
     rw [hdec] at hb3
     simp only [msgV,Vbcnad.replyMsg,Vbcnad.msgShown,List.map_cons,List.map_nil] at hb3
     simp_arith [g3,hb3,HO.tup.injEq,atI_0]
     simp only [hdec,reduceCtorEq,if_false] at q
     rw [hdec] at R3
     refine ⟨loc,F,_,a.hw,a.port,rfl,R3,by rw [send_cfg]; show (Vbcnad.decides s a x).1.cfg.bag≤1024; rw [jb1.2]; exact B.cb,fun H4 R4=>?_⟩
     rw [send_opened] at R4
     have:=dec_opened (s:=s) (a:=a) (x:=x) (by rw [hdec]; simp)
     simp only [this] at R4
     exact q _ _ Lk.rfl' R4
  ·rw [if_pos hc]
   simp only [if_neg hc] at q
   exact q _ _ Lk.rfl' R
theorem bmax {a b:Bool}:max a.toNat b.toNat=(a || b).toNat:=by cases a <;> cases b <;> decide
theorem nmax {a b:Nat}:(if (b:Int) > (a:Int) then (b:Int) else (a:Int))=((max a b:Nat):Int):=by
 by_cases h:b > a
 ·rw [if_pos (by omega),Nat.max_eq_right (by omega)]
 ·rw [if_neg (by omega),Nat.max_eq_left (by omega)]
inductive sp_take_count (K:W.Frag) (T:Tb) (vs:List V) (H:Hp) (Q:VK) (E0:XK):Prop | mk (loc F s num fr cl) (_:vs=[.ref (loc .W),.int (num:Nat),.int (fr:Nat),.int ((cl:Bool).toNat:Nat)]) (_:Rep T loc F H s) (_:Bp s) (_:PostS T loc F Q (Vbcnad.onCount s num fr cl))
noncomputable def m_take_count (K:W.Frag) (T:Tb):MB:=(.cons (.set 4 (.dgt2 (.fld (.var 0) "accounts" 7 19) (.var 1) (.tup (.cons (.int 0) (.cons (.int 0) .nil)))))
  (.cons (.dput (.fld (.var 0) "accounts" 7 19) (.var 1) (.tup (.cons (.bif "max" "max" rMax2 (.cons (.ix rIxU (.var 4) (.int 0)) (.cons (.var 2) .nil))) (.cons (.bif "max" "max" rMax2 (.cons (.ix rIxU (.var 4) (.int 1)) (.cons (.var 3) .nil))) .nil))))
  (.cons (.if_ (.cmp .Eq rEq (.var 3) (.int 1)) (.cons (.fset (.var 0) "begun" 7 18 (.lc (.var 5) (.name 5) (.list (.fld (.var 0) "begun" 7 18)) (.cons (.cmp .NotEq rNe (.fld (.var 5) "number" 6 0) (.var 1)) .nil) [("begun",5)]))
  (.cons (.expr (.call "send" (sp_send K T) (.cons (.var 0) (.cons (.tup (.cons (.glo "GOT" (.int 7)) (.cons (.var 1) (.cons (.var 2) .nil)))) .nil))))
  .nil)) .nil)
  .nil)))
theorem w_take_count {K:W.Frag} {T:Tb}:Wk K T (sp_take_count K T) (m_take_count K T) ["world","number","frames","closed","had","begun"]:=by
 intro vs H Q E h
 obtain ⟨loc,F,s,num,fr,cl,rfl,R,B,q⟩:=h
 unfold Vbcnad.onCount at q
 obtain ⟨ps,e,h1,h2⟩:=R.cell .AD
 have h1:H (loc .AD)=some (.dK (ps.map ackv)):=h1
 have hpl:ps.length=s.accounts.length:=by rw [← e,List.length_map]
 have hz:=szl
 have hcl:=B.cl
 simp_arith only [m_take_count,R.w,two_sz]
 refine ⟨.inl ⟨_,.inl h1⟩,fun t0 ht0=>?_⟩
 have R1:=R.junk (o:=.tup [.int 0,.int 0]) ht0
 have h1':=jaf (o:=.tup [.int 0,.int 0]) h1 ht0
 have h0':upd H t0 (.tup [.int 0,.int 0]) t0=some (.tup [.int 0,.int 0]):=jaa
 have h2':∀ x ∈ ps,upd H t0 (.tup [.int 0,.int 0]) x.1=some (.tup [.int x.2.frames,.int x.2.closed.toNat]):=fun x hx=>jaf (h2 x hx) ht0
 generalize upd H t0 _=H1 at R1 h1' h0' h2' ⊢
 refine ⟨_,DGet.k (k:=Sum.inl (num:Int)) h1',?_⟩
 have key:∃ hv f0 c0,(valV (ps.map ackv) (Sum.inl (num:Int))).getD (.ref t0)=.ref hv∧H1 hv=some (.tup [.int (f0:Nat),.int ((c0:Bool).toNat:Nat)]) ∧
   ∃ mk:Addr→List (Addr×Vbcnad.Account),(∀ t,putK (ps.map ackv) (Sum.inl (num:Int)) (.ref t)=(mk t).map ackv)∧(∀ t,(mk t).map (·.2)=Vbcnad.charge num fr cl s.accounts)∧∀ t,∀ x ∈ mk t,x ∈ ps∨x=(t,⟨num,max f0 fr,c0 || cl⟩):=by
  rw [ac_val]
  cases hf:ps.find? fun x=>(x.2.num:Int) == (num:Int) with
  | none =>
   have hnone:∀ x ∈ ps,x.2.num≠num:=fun x hx en=>by
    have:=List.find?_eq_none.mp hf x hx
    simp [en] at this
   refine ⟨t0,0,false,rfl,h0',fun t=>ps ++ [(t,⟨num,fr,cl⟩)],fun t=>?_,fun t=>?_,fun t x hx=>?_⟩
   ·rw [putK_new,List.map_append]
    ·rfl
    ·rw [ac_val,hf]; rfl
   ·rw [List.map_append,e,charge_new]
    ·rfl
    ·rw [← e]
     intro a ha
     obtain ⟨x,hx,rfl⟩:=List.mem_map.mp ha
     exact hnone x hx
   ·rcases List.mem_append.mp hx with hx | hx
    ·exact .inl hx
    ·rw [List.mem_singleton.mp hx,Nat.zero_max,Bool.false_or]; exact .inr rfl
  | some x =>
   have hx:=List.mem_of_find?_eq_some hf
   have hxn:x.2.num=num:=by have:=List.find?_some hf; simp at this; omega
   have hnd:((ps.map (·.2)).map (·.num)).Nodup:=by rw [e]; exact B.cn
   have huq:∀ z ∈ ps,z.2.num=num→z.2=x.2:=fun z hz en=>by
    have h3:∀ {l:List Vbcnad.Account},(l.map (·.num)).Nodup→∀ {a b:Vbcnad.Account},a ∈ l→b ∈ l→a.num=b.num→a=b:=by
     intro l
     induction l with
     | nil=>intro _ a b ha; cases ha
     | cons c l ih =>
      intro h a b ha hb e
      rw [List.map_cons,List.nodup_cons] at h
      rcases List.mem_cons.mp ha with h1 | h1 <;> rcases List.mem_cons.mp hb with h2 | h2
      ·rw [h1,h2]
      ·exact absurd (List.mem_map.mpr ⟨b,h2,by rw [← e,h1]⟩) h.1
      ·exact absurd (List.mem_map.mpr ⟨a,h1,by rw [e,h2]⟩) h.1
      ·exact ih h.2 h1 h2 e
    exact h3 hnd (List.mem_map.mpr ⟨z,hz,rfl⟩) (List.mem_map.mpr ⟨x,hx,rfl⟩) (by omega)
   refine ⟨x.1,x.2.frames,x.2.closed,rfl,h2' x hx,fun t=>ps.map fun z=>if z.2.num=num then (t,⟨num,max z.2.frames fr,z.2.closed || cl⟩) else z,fun t=>?_,fun t=>?_,fun t z hz=>?_⟩
   ·unfold putK
    rw [if_pos (by rw [jcf,ac_val,hf]; rfl),List.map_map,List.map_map]
    refine List.map_congr_left fun z _=>?_
    simp only [Function.comp]
    by_cases hzn:z.2.num=num
    ·rw [if_pos hzn,if_pos (by simp [ackv,hzn])]
     simp [ackv,hzn]
    ·rw [if_neg hzn,if_neg (by simp [ackv]; omega)]
   ·rw [List.map_map,charge_old B.cn ⟨x.2,by rw [← e]; exact List.mem_map.mpr ⟨x,hx,rfl⟩,hxn⟩,← e,List.map_map]
    refine List.map_congr_left fun z _=>?_
    simp only [Function.comp]
    split <;> rfl
   ·obtain ⟨w,hw,rfl⟩:=List.mem_map.mp hz
    by_cases hzn:w.2.num=num
    ·rw [if_pos hzn,huq w hw hzn]; exact .inr rfl
    ·rw [if_neg hzn]; exact .inl hw
 obtain ⟨hv,f0,c0,k1,k2,mk,k3,k4,k5⟩:=key
 rw [k1]
 simp_arith only [k2,HO.tup.injEq,atI_0,atI_1,nmax,bmax]
 intro t ht
 have R2:=R1.junk (o:=.tup [.int (max f0 fr:Nat),.int ((c0 || cl).toNat:Nat)]) ht
 have hA:=jaf (o:=.tup [.int (max f0 fr:Nat),.int ((c0 || cl).toNat:Nat)]) h1' ht
 refine ⟨_,R2.w,_,rfl,_,rfl,_,DPut.k (k:=Sum.inl (num:Int)) hA (by rw [List.length_map]; omega),?_⟩
 rw [k3 t]
 have R3:=R2.accSet (ps:=mk t) (fun x hx=>by
  rcases k5 t x hx with hx | rfl
  ·exact jaf (h2' x hx) ht
  ·exact jaa)
 rw [k4 t] at R3
 have R3:Rep T loc F (upd (upd H1 t (.tup [.int (max f0 fr:Nat),.int ((c0 || cl).toNat:Nat)])) (loc .AD) (.dK ((mk t).map ackv))) { s with accounts:=Vbcnad.charge num fr cl s.accounts }:=R3
 generalize upd (upd H1 t _) (loc .AD) _=H3 at R3 ⊢
 cases cl with
 | false =>
  rw [if_neg (by decide)]
  simp only [Bool.false_eq_true,if_false] at q
  exact q _ _ Lk.rfl' R3
 | true =>
  rw [if_pos (by decide)]
  simp only [if_true] at q
  obtain ⟨bs,eb,b1,b2⟩:=R3.cell .GL
  have eb:bs.map (·.2)=s.opened:=eb
  have hbl:bs.length=s.opened.length:=by rw [← eb,List.length_map]
  have hol:=B.ol
  have e3:=R3.w
  simp_arith only [and_assoc] at e3
  refine ⟨_,e3,_,rfl,_,rfl,⟨_,.inl (.inl b1)⟩,fun D hD=>?_⟩
  refine lcL (K:=K) (a:=loc .GL) (xs:=bs.map fun x=>V.ref x.1)
   (fun i H'=>Same H3 H'∧H' D=some (.lst (((bs.take i).filter fun x=>x.2.num != num).map fun x=>V.ref x.1)))
   ⟨Same.fresh hD,jaa⟩ (fun i H' _ ⟨e,_⟩=>.inl (.inl (e _ _ b1))) ?_ ?_
  ·rintro i v H' hi ⟨e1,hacc⟩
   rw [List.getElem?_map] at hi
   obtain ⟨x,hx,rfl⟩:=Option.map_eq_some_iff.mp hi
   have hx1:=(Kp.same (T:=T) e1).o _ _ (b2 x (List.mem_of_getElem? hx))
   simp_arith only [hx1,hacc,HO.lst.injEq,List.length_map,Bool.not_eq_true',decide_eq_false_iff_not,Int.natCast_inj]
   have hle:((bs.take i).filter fun x=>x.2.num != num).length≤1000000:=by
    refine Nat.le_trans (List.length_filter_le _ _) ?_
    rw [List.length_take]; omega
   by_cases hc:x.2.num=num
   ·rw [if_neg (by simp [hc])]
    refine ⟨e1,?_⟩
    rw [take1 hx,List.filter_append,List.filter_cons,if_neg (by simp [hc])]; simp
   ·rw [if_pos hc]
    refine ⟨by omega,fun b o h=>?_,?_⟩
    ·rw [upd_ne (jab h hD)]; exact e1 _ _ h
    ·rw [take1 hx,List.filter_append,List.map_append,List.filter_cons,if_pos (by simp [hc])]; rfl
  ·rintro H' ⟨e1,hacc⟩
   rw [List.take_of_length_le (by simp)] at hacc
   have R4:=(R3.grow e1).adopt hacc (fun r hu=>R3.ne_new hD hu)
   have e4:=R4.w
   have R5:=R4.begNew (R3.free hD) (fun x hx=>(Kp.same (T:=T) e1).o _ _ (b2 x (List.mem_filter.mp hx).1))
   have ef:(bs.filter fun x=>x.2.num != num).map (·.2)=s.opened.filter fun o=>o.num != num:=by
    rw [← eb,List.filter_map]; rfl
   rw [ef] at R5
   simp_arith only [and_assoc] at e4 R5
   simp_arith only [e4,sz3]
   intro t5 ht5
   exact ⟨loc.put .GL D,F,_,.got num fr,t5,by rw [Lk.gl.1],R5.junk ht5,B.cb,jaa,fun H6 R6 _=>q _ _ Lk.gl R6⟩
inductive DiM:Vbcnad.Msg→Prop
 | hello (p n i h:Nat):DiM (.hello p n i h)
 | answer (n c x:Nat):DiM (.answer n c x)
 | count (u f:Nat) (c:Bool):DiM (.count u f c)
inductive sp_directory_takes (K:W.Frag) (T:Tb) (vs:List V) (H:Hp) (Q:VK) (E0:XK):Prop | mk (loc F s a m) (_:vs=[.ref (loc .W),.ref a]) (_:Rep T loc F H s) (_:H a=some (.tup (msgV m))) (_:DiM m) (_:Bp s) (_:PostS T loc F Q (Vbcnad.takes s m))
noncomputable def m_directory_takes (K:W.Frag) (T:Tb):MB:=(.cons (.if_ (.cmp .Eq rEq (.ix rIxU (.var 1) (.int 0)) (.glo "HELLO" (.int 0))) (.cons (.expr (.call "take_hello" (sp_take_hello K T) (.cons (.var 0) (.cons (.ix rIxU (.var 1) (.int 1)) (.cons (.ix rIxU (.var 1) (.int 2)) (.cons (.ix rIxU (.var 1) (.int 3)) (.cons (.ix rIxU (.var 1) (.int 4)) .nil)))))))
  .nil) (.cons (.if_ (.cmp .Eq rEq (.ix rIxU (.var 1) (.int 0)) (.glo "ANSWER" (.int 1))) (.cons (.expr (.call "take_answer" (sp_take_answer K T) (.cons (.var 0) (.cons (.ix rIxU (.var 1) (.int 1)) (.cons (.ix rIxU (.var 1) (.int 2)) (.cons (.ix rIxU (.var 1) (.int 3)) .nil))))))
  .nil) (.cons (.expr (.call "take_count" (sp_take_count K T) (.cons (.var 0) (.cons (.ix rIxU (.var 1) (.int 1)) (.cons (.ix rIxU (.var 1) (.int 2)) (.cons (.ix rIxU (.var 1) (.int 3)) .nil))))))
  .nil))
  .nil))
  .nil)
theorem w_directory_takes {K:W.Frag} {T:Tb}:Wk K T (sp_directory_takes K T) (m_directory_takes K T) ["world","message"]:=by
 intro vs H Q E h
 obtain ⟨loc,F,s,a,m,rfl,R,ha,hm,B,q⟩:=h
 cases hm <;> simp only [msgV,Vbcnad.msgShown,List.map_cons,List.map_nil] at ha <;> simp_arith [m_directory_takes,ha,HO.tup.injEq,atI_0,atI_1,atI_2,atI_3,atI_4]
 case hello p n i h=>exact ⟨loc,F,s,p,n,i,h,rfl,R,B.cb,B.ca,q⟩
 case answer n c x=>exact ⟨loc,F,s,n,c,x,rfl,R,B,q⟩
 case count u f c=>exact ⟨loc,F,s,u,f,c,rfl,R,B,q⟩
inductive sp_hand_over (K:W.Frag) (T:Tb) (vs:List V) (H:Hp) (Q:VK) (E0:XK):Prop | mk (loc F s a m) (_:vs=[.ref (loc .W),.ref a]) (_:Rep T loc F H s) (_:H a=some (.tup (msgV m))) (_:Bp s) (_:Bd s) (_:Uniq s) (_:MOk s.ports.length m) (_:PostS T loc F Q (Vbcnad.takes s m))
noncomputable def m_hand_over (K:W.Frag) (T:Tb):MB:=(.cons (.if_ (.cmp .LtE (rI0 fun i j=>.bl (decide (i≤j))) (.ix rIxU (.var 1) (.int 0)) (.glo "COUNT" (.int 2))) (.cons (.expr (.call "directory_takes" (sp_directory_takes K T) (.cons (.var 0) (.cons (.var 1) .nil))))
  .nil) (.cons (.expr (.call "switch_takes" (sp_switch_takes K T) (.cons (.var 0) (.cons (.var 1) .nil))))
  .nil))
  .nil)
theorem w_hand_over {K:W.Frag} {T:Tb}:Wk K T (sp_hand_over K T) (m_hand_over K T) ["world","message"]:=by
 intro vs H Q E h
 obtain ⟨loc,F,s,a,m,rfl,R,ha,B,D,U,hp,q⟩:=h
 have ha':=ha
 cases m <;> simp only [msgV,Vbcnad.msgShown,List.map_cons,List.map_nil] at ha' <;> simp_arith [m_hand_over,ha',HO.tup.injEq,atI_0,atI_1,atI_2,atI_3,atI_4,Int.reduceLE]
 case hello=>exact ⟨loc,F,s,a,_,rfl,R,ha,.hello _ _ _ _,B,q⟩
 case answer=>exact ⟨loc,F,s,a,_,rfl,R,ha,.answer _ _ _,B,q⟩
 case count=>exact ⟨loc,F,s,a,_,rfl,R,ha,.count _ _ _,B,q⟩
 case ask=>exact ⟨loc,F,s,a,_,rfl,R,ha,.ask _ _ _,D,U,hp,q⟩
 case yes=>exact ⟨loc,F,s,a,_,rfl,R,ha,.yes _ _ _ _ _ _,D,U,hp,q⟩
 case no=>exact ⟨loc,F,s,a,_,rfl,R,ha,.no _ _,D,U,hp,q⟩
 case over=>exact ⟨loc,F,s,a,_,rfl,R,ha,.over _,D,U,hp,q⟩
 case got=>exact ⟨loc,F,s,a,_,rfl,R,ha,.got _ _,D,U,hp,q⟩
section
variable {s:VS} {k:Nat}
theorem WF.bp (W:WF k s) (hk:k≤400) (b:List Vbcnad.Msg):Bp { s with bag:=b }:=by
 have h1:=W.bk
 have h2:=W.ol
 have h3:=W.cl
 exact ⟨W.cb,W.ca,W.ps,fun x hx=>(W.pi x hx).2,W.rg,W.an,fun a ha=>by have:=(W.ap a ha).2; show a.c < 2 ^ 61; omega,by show s.opened.length≤_; omega,by show s.accounts.length≤_; omega,W.cn⟩
theorem WF.bd (W:WF k s) (b:List Vbcnad.Msg):Bd { s with bag:=b }:=⟨W.pl,by have:=W.le; show s.ended.length≤_; omega,W.ct,W.cb⟩
theorem WF.uniq (W:WF k s) (b:List Vbcnad.Msg):Uniq { s with bag:=b }:=fun p q y z x w hy hz hx hw e =>
 W.np x.num p q (.inr (.inr ⟨y,x,hy,hx,rfl⟩)) (.inr (.inr ⟨z,w,hz,hw,e.symm⟩))
theorem bag_cases (s:VS) (k:Int):(Vbcnad.within k 0 ((s.bag.length:Int) - 1)=false∧(if 0≤k then s.bag[k.toNat]? else none)=none) ∨
  ∃ (n:Nat) (m:Vbcnad.Msg),k=n∧s.bag[n]? = some m∧Vbcnad.within k 0 ((s.bag.length:Int) - 1)=true∧(if 0≤k then s.bag[k.toNat]? else none)=some m:=by
 cases h:Vbcnad.within k 0 ((s.bag.length:Int) - 1) with
 | false =>
  refine .inl ⟨rfl,?_⟩
  unfold Vbcnad.within at h
  by_cases h0:0≤k
  ·rw [if_pos h0,List.getElem?_eq_none]
   simp [h0] at h
   omega
  ·rw [if_neg h0]
 | true =>
  unfold Vbcnad.within at h
  simp only [Bool.and_eq_true,decide_eq_true_eq] at h
  obtain ⟨n,rfl⟩:=Int.eq_ofNat_of_zero_le h.1
  have hn:n < s.bag.length:=by omega
  exact .inr ⟨n,s.bag[n],rfl,List.getElem?_eq_getElem hn,rfl,by rw [if_pos h.1,Int.toNat_natCast]; exact List.getElem?_eq_getElem hn⟩
end
theorem jcz {α β:Type} {f:α→β}:∀ {l:List α} {n:Nat},(l.eraseIdx n).map f=(l.map f).eraseIdx n
 | [],_=>rfl
 | _ :: _,0=>rfl
 | x :: l,n+1=>congrArg (f x :: ·) (jcz (l:=l) (n:=n))
theorem seqIx {n i:Nat} (h:i < n):seqIndex? (i:Int) n=some i:=(ixN_seq (ixN_nat h)).1
inductive sp_double (K:W.Frag) (T:Tb) (vs:List V) (H:Hp) (Q:VK) (E0:XK):Prop | mk (loc F s n m) (_:vs=[.ref (loc .W),.int (n:Nat)]) (_:Rep T loc F H s) (_:s.bag[n]? = some m) (_:s.cfg.bag≤1024) (_:Post T loc F Q (if s.cfg.bag≤s.bag.length then (s,[-2]) else ({ s with bag:=s.bag ++ [m] },[0])))
noncomputable def m_double (K:W.Frag) (T:Tb):MB:=(.cons (.if_ (.cmp .GtE (rI0 fun i j=>.bl (decide (j≤i))) (.bif "len" "len" rLenH (.cons (.fld (.var 0) "bag" 7 13) .nil)) (.fld (.var 0) "bag_size" 7 1)) (.cons (.ret (.lst (.cons (.neg 2) .nil)))
  .nil) .nil)
  (.cons (.expr (.mth (.fld (.var 0) "bag" 7 13) "append" "list" "list.append" rAppend (.cons (.ix rIxH (.fld (.var 0) "bag" 7 13) (.var 1)) .nil)))
  (.cons (.ret (.lst (.cons (.int 0) .nil)))
  .nil)))
theorem w_double {K:W.Frag} {T:Tb}:Wk K T (sp_double K T) (m_double K T) ["world","k"]:=by
 intro vs H Q E h
 obtain ⟨loc,F,s,n,m,rfl,R,hm,hb,q⟩:=h
 obtain ⟨ps,e,h1,h2⟩:=R.cell .BL
 have hpl:ps.length=s.bag.length:=by rw [← e,List.length_map]
 obtain ⟨x,hx,hxm⟩:∃ x,ps[n]? = some x∧x.2=m:=by
  rw [← e,List.getElem?_map] at hm
  obtain ⟨x,hx,e⟩:=Option.map_eq_some_iff.mp hm
  exact ⟨x,hx,e⟩
 simp_arith only [m_double,R.w,h1,HO.lst.injEq,List.length_map,one_sz]
 by_cases hl:s.cfg.bag≤s.bag.length
 ·rw [if_pos (by omega)]
  rw [if_pos hl] at q
  exact q.ret Lk.rfl' R
 ·rw [if_neg (by omega)]
  rw [if_neg hl] at q
  have z:=szl
  refine ⟨tyL h1,.ref x.1,by rw [atI_at,List.getElem?_map,hx]; rfl,by omega,?_⟩
  have R1:=R.bagSet (ps:=ps ++ [x]) (fun y hy=>by
   rcases List.mem_append.mp hy with hy | hy
   ·exact h2 y hy
   ·rw [List.mem_singleton.mp hy]; exact h2 x (List.mem_of_getElem? hx))
  rw [List.map_append,List.map_append,e] at R1
  simp only [List.map_cons,List.map_nil,hxm] at R1
  exact q.ret Lk.rfl' R1
inductive ClN:Int→Int→Vbcnad.Call→Prop
 | deliver (a:Int):ClN 17 a (.deliver a)
 | lose (a:Int):ClN 18 a (.lose a)
 | double (a:Int):ClN 19 a (.double a)
inductive sp_net_call (K:W.Frag) (T:Tb) (vs:List V) (H:Hp) (Q:VK) (E0:XK):Prop | mk (loc F s code a c) (_:vs=[.ref (loc .W),.int code,.int a]) (_:ClN code a c) (_:Pre T loc F H s) (_:-(2 ^ 63)≤a) (_:a < 2 ^ 63) (_:Post T loc F Q (Vbcnad.doing s c))
noncomputable def m_net_call (K:W.Frag) (T:Tb):MB:=(.cons (.if_ (.not_ (.call "within" (sp_within K T) (.cons (.var 2) (.cons (.int 0) (.cons (.op .Sub (rI0 fun i j=>.int (i - j)) (.bif "len" "len" rLenH (.cons (.fld (.var 0) "bag" 7 13) .nil)) (.int 1)) .nil))))) (.cons (.ret (.lst (.cons (.neg 1) .nil)))
  .nil) .nil)
  (.cons (.if_ (.cmp .Eq rEq (.var 1) (.glo "DELIVER" (.int 17))) (.cons (.expr (.call "hand_over" (sp_hand_over K T) (.cons (.var 0) (.cons (.mth (.fld (.var 0) "bag" 7 13) "pop" "list" "list.pop" rPopAt (.cons (.var 2) .nil)) .nil))))
  .nil) (.cons (.if_ (.cmp .Eq rEq (.var 1) (.glo "LOSE" (.int 18))) (.cons (.expr (.mth (.fld (.var 0) "bag" 7 13) "pop" "list" "list.pop" rPopAt (.cons (.var 2) .nil)))
  .nil) (.cons (.ret (.call "double" (sp_double K T) (.cons (.var 0) (.cons (.var 2) .nil))))
  .nil))
  .nil))
  (.cons (.ret (.lst (.cons (.int 0) .nil)))
  .nil)))
theorem w_net_call {K:W.Frag} {T:Tb}:Wk K T (sp_net_call K T) (m_net_call K T) ["world","code","k"]:=by
 intro vs H Q E h
 obtain ⟨loc,F,s,code,a,c,rfl,hc,⟨R,k,hk,W⟩,ha1,ha2,q⟩:=h
 obtain ⟨ps,e,h1,h2⟩:=R.cell .BL
 have hpl:ps.length=s.bag.length:=by rw [← e,List.length_map]
 rcases bag_cases s a with ⟨b1,b2⟩ | ⟨n,m,rfl,hm,b1,b2⟩
 ·cases hc <;> (unfold Vbcnad.doing at q; simp only [b2] at q) <;> simp_arith! only [m_net_call,R.w,h1,HO.lst.injEq,List.length_map,hpl,sp_within,b1,Bool.not_false,one_sz] <;> exact q.ret Lk.rfl' R
 ·obtain ⟨x,hx,hxm⟩:∃ x,ps[n]? = some x∧x.2=m:=by
   rw [← e,List.getElem?_map] at hm
   obtain ⟨x,hx,e⟩:=Option.map_eq_some_iff.mp hm
   exact ⟨x,hx,e⟩
  have hn:n < ps.length:=(List.getElem?_eq_some_iff.mp hx).1
  have R1:=R.bagSet (ps:=ps.eraseIdx n) (fun y hy=>h2 y (List.mem_of_mem_eraseIdx hy))
  rw [jcz,jcz,e] at R1
  rw [Int.toNat_natCast] at b2
  have pop:∀ P:V→Hp→Prop,P (.ref x.1) (upd H (loc .BL) (.lst ((ps.map fun x=>V.ref x.1).eraseIdx n)))→(∃ k,seqIndex? (n:Int) ps.length=some k∧∃ x_1,(ps.map fun x=>V.ref x.1)[k]? = some x_1∧P x_1 (upd H (loc .BL) (.lst ((ps.map fun x=>V.ref x.1).eraseIdx k)))):=fun P h =>
   ⟨n,seqIx hn,.ref x.1,by rw [List.getElem?_map,hx]; rfl,h⟩
  cases hc <;> (unfold Vbcnad.doing at q; simp only [Int.toNat_natCast,b2] at q) <;> simp_arith only [m_net_call,R.w,h1,HO.lst.injEq,List.length_map,hpl,sp_within,b1,Bool.not_true,one_sz]
  case inr.deliver =>
   refine ⟨tyL h1,ha1,ha2,?_⟩
   rw [← hpl]
   refine pop (fun v H1=>sp_hand_over K T [.ref (loc .W),v] H1 _ _) ?_
   have hx2:upd H (loc .BL) (.lst ((ps.map fun x=>V.ref x.1).eraseIdx n)) x.1=some (.tup (msgV m)):=by
    rw [upd_ne]
    ·rw [← hxm]; exact h2 x (List.mem_of_getElem? hx)
    ·intro w
     have:=(R.soft (r:=.BL) trivial).1
     rw [← w] at this
     exact this _ (h2 x (List.mem_of_getElem? hx))
   exact ⟨loc,F,_,x.1,m,rfl,R1,hx2,W.bp hk _,W.bd _,W.uniq _,W.ms m (List.mem_of_getElem? hm),fun H2 l2 hl2 R2=>⟨one_sz,q.ret hl2 R2⟩⟩
  case inr.lose =>
   refine ⟨tyL h1,ha1,ha2,?_⟩
   rw [← hpl]
   exact ⟨n,seqIx hn,.ref x.1,by rw [List.getElem?_map,hx]; rfl,q.ret Lk.rfl' R1⟩
  case inr.double =>
   exact ⟨loc,F,s,n,m,rfl,R,hm,W.cb,q⟩
theorem rest_is {t n:Nat}:(if (0:Int) > (t:Int) - (n:Int) then (0:Int) else (t:Int) - n)=Vbcnad.least t n:=by
 unfold Vbcnad.least
 split <;> omega
noncomputable def sp_rest_until (K:W.Frag) (T:Tb):Sp:=fun vs H Q _=>kzA vs fun a t=>kzS (getV T 7 (H a)) fun ws=>kzE ws[10]? fun v=>kzI v fun nw=>Q (.int (if (0:Int) > t - nw then 0 else t - nw)) H
noncomputable def m_rest_until (K:W.Frag) (T:Tb):MB:=(.cons (.ret (.bif "max" "max" rMax2 (.cons (.op .Sub (rI0 fun i j=>.int (i - j)) (.var 1) (.fld (.var 0) "now" 7 10)) (.cons (.int 0) .nil))))
  .nil)
theorem w_rest_until {K:W.Frag} {T:Tb}:Wk K T (sp_rest_until K T) (m_rest_until K T) ["world","time"]:=by
 intro vs H Q E h
 obtain ⟨a,t,rfl,h⟩:=kzA_m.mp h
 obtain ⟨ws,h1,h⟩:=kzS_m.mp h
 obtain ⟨v,h2,h⟩:=kzS_m.mp h
 obtain ⟨nw,rfl,q⟩:=kzI_m.mp h
 simp_arith only [m_rest_until,h1,h2]
 exact q
inductive sp_tell_keyed (K:W.Frag) (T:Tb) (vs:List V) (H:Hp) (Q:VK) (E0:XK):Prop | mk (loc F s x c) (_:vs=[.int x,.int c]) (_:Pre T loc F H s) (_:Post T loc F Q (Vbcnad.doing s (.keyed x c)))
noncomputable def m_tell_keyed (K:W.Frag) (T:Tb):MB:=(.cons (.if_ (.not_ (.bol true (.call "is_secret" (sp_is_secret K T) (.cons (.var 0) .nil)) (.cons (.call "within" (sp_within K T) (.cons (.var 1) (.cons (.int 0) (.cons (.glo "MOST_CHALLENGE" (.int 4611686018427387904)) .nil)))) .nil))) (.cons (.ret (.lst (.cons (.neg 1) .nil)))
  .nil) .nil)
  (.cons (.ret (.lst (.cons (.int 0) (.cons (.call "keyed_sum" (sp_keyed_sum K T) (.cons (.var 0) (.cons (.var 1) .nil))) .nil))))
  .nil))
theorem w_tell_keyed {K:W.Frag} {T:Tb}:Wk K T (sp_tell_keyed K T) (m_tell_keyed K T) ["secret","challenge"]:=by
 intro vs H Q E h
 obtain ⟨loc,F,s,x,c,rfl,⟨R,k,hk,W⟩,q⟩:=h
 (unfold Vbcnad.doing at q; dsimp only at q)
 rw [show ((2:Int) ^ 62)=4611686018427387904 from by decide] at q
 simp_arith [m_tell_keyed,sp_is_secret,sp_within,one_sz,two_sz]
 cases e1:Vbcnad.isSecret x with
 | false =>
  rw [e1,if_pos (by rfl)] at q
  exact q.ret Lk.rfl' R
 | true =>
  cases e2:Vbcnad.within c 0 4611686018427387904 with
  | false =>
   rw [e1,e2,if_pos (by rfl)] at q
   exact q.ret Lk.rfl' R
  | true =>
   rw [e1,e2,if_neg (by simp)] at q
   obtain ⟨xn,rfl⟩:=jcp e1
   unfold Vbcnad.within at e2
   simp only [Bool.and_eq_true,decide_eq_true_eq] at e2
   obtain ⟨cn,rfl⟩:=Int.eq_ofNat_of_zero_le e2.1
   unfold Vbcnad.isSecret Vbcnad.within Vbcnad.P61 at e1
   simp only [Bool.and_eq_true,decide_eq_true_eq] at e1
   simp only [Int.toNat_natCast] at q
   refine ⟨xn,cn,rfl,by omega,by omega,?_⟩
   exact ⟨two_sz,q.ret Lk.rfl' R⟩
inductive sp_stand_numbers (K:W.Frag) (T:Tb) (vs:List V) (H:Hp) (Q:VK) (E0:XK):Prop | mk (loc F s p y) (_:vs=[.ref (loc .W),.ref (loc (.st p))]) (_:Rep T loc F H s) (_:s.ports[p]? = some y) (_:∀ H' l,F l=none→Rep T loc (upd F l (.lst ((Vbcnad.phaseShown s y.phase).map V.int))) H' s→Q (.ref l) H')
theorem sz6:6≤sizeLine:=by decide
theorem sz8:8≤sizeLine:=by decide
noncomputable def m_stand_numbers (K:W.Frag) (T:Tb):MB:=(.cons (.set 2 (.call "rest_until" (sp_rest_until K T) (.cons (.var 0) (.cons (.fld (.var 1) "due" 0 1) .nil))))
  (.cons (.set 3 (.lst (.cons (.fld (.var 1) "kind" 0 0) (.cons (.fld (.var 1) "n" 0 3) (.cons (.fld (.var 1) "who" 0 4) (.cons (.fld (.var 1) "host" 0 5) .nil))))))
  (.cons (.if_ (.cmp .Eq rEq (.fld (.var 1) "kind" 0 0) (.glo "ASKING" (.int 1))) (.cons (.ret (.lst (.cons (.fld (.var 1) "kind" 0 0) (.cons (.fld (.var 1) "left" 0 2) (.cons (.var 2) .nil)))))
  .nil) .nil)
  (.cons (.if_ (.cmp .Eq rEq (.fld (.var 1) "kind" 0 0) (.glo "LOOKING" (.int 2))) (.cons (.ret (.op .Add rCat (.var 3) (.lst (.cons (.fld (.var 1) "left" 0 2) (.cons (.var 2) .nil)))))
  .nil) .nil)
  (.cons (.if_ (.cmp .Eq rEq (.fld (.var 1) "kind" 0 0) (.glo "CHALLENGED" (.int 3))) (.cons (.ret (.op .Add rCat (.var 3) (.lst (.cons (.fld (.var 1) "challenge" 0 6) (.cons (.var 2) .nil)))))
  .nil) .nil)
  (.cons (.if_ (.cmp .Eq rEq (.fld (.var 1) "kind" 0 0) (.glo "CHECKING" (.int 4))) (.cons (.ret (.op .Add rCat (.var 3) (.lst (.cons (.fld (.var 1) "challenge" 0 6) (.cons (.fld (.var 1) "x" 0 7) (.cons (.fld (.var 1) "left" 0 2) (.cons (.var 2) .nil)))))))
  .nil) .nil)
  (.cons (.if_ (.cmp .Eq rEq (.fld (.var 1) "kind" 0 0) (.glo "HELD" (.int 5))) (.cons (.ret (.lst (.cons (.fld (.var 1) "kind" 0 0) (.cons (.var 2) .nil))))
  .nil) .nil)
  (.cons (.ret (.lst (.cons (.fld (.var 1) "kind" 0 0) .nil)))
  .nil))))))))
theorem w_stand_numbers {K:W.Frag} {T:Tb}:Wk K T (sp_stand_numbers K T) (m_stand_numbers K T) ["world","stand","rest","attempt"]:=by
 intro vs H Q E h
 obtain ⟨loc,F,s,p,y,rfl,R,hy,q⟩:=h
 simp_arith [m_stand_numbers,R.w,R.st hy,sp_rest_until,sz4]
 generalize hrr:(if (0:Int) > du y.phase - (s.now:Int) then (0:Int) else du y.phase - s.now)=rr
 have hr:∀ d:Nat,du y.phase=d→rr=Vbcnad.least d s.now:=fun d e=>by rw [← hrr,e]; exact rest_is
 clear hrr
 intro a ha
 have R1:=R.junk (o:=.lst [.int (kd y.phase),.int (nn y.phase),.int (wh y.phase),.int (hh y.phase)]) ha
 have e1:=R1.st hy
 have hA:upd H a (.lst [.int (kd y.phase),.int (nn y.phase),.int (wh y.phase),.int (hh y.phase)]) a=some (.lst [.int (kd y.phase),.int (nn y.phase),.int (wh y.phase),.int (hh y.phase)]):=jaa
 generalize hH1:upd H a _=H1 at R1 e1 hA ⊢
 have fin:∀ {H2:Hp} {l:Addr} {xs:List V},Rep T loc F H2 s→H2 l=none→xs=(Vbcnad.phaseShown s y.phase).map V.int→Q (.ref l) (upd H2 l (.lst xs)):=fun {H2 l xs} R2 hl e=>by
  subst e
  exact q _ l (R2.free hl) (R2.new hl)
 cases hph:y.phase <;> rw [hph] at e1 hA fin hr <;> simp only [phV,kd,du,lf,nn,wh,hh,cc,xx,ft] at e1 hA <;> simp_arith only [e1,kd,du,lf,nn,wh,hh,cc,xx,ft,one_sz,two_sz,sz3,sz4]
 case a.down=>exact fun l hl=>fin R1 hl rfl
 case a.asking l d=>exact fun l hl=>fin R1 hl (by simp only [Vbcnad.phaseShown,List.map_cons,List.map_nil,hr d rfl])
 case a.held d=>exact fun l hl=>fin R1 hl (by simp only [Vbcnad.phaseShown,List.map_cons,List.map_nil,hr d rfl])
 case a.guest=>exact fun l hl=>fin R1 hl rfl
 case a.inside=>exact fun l hl=>fin R1 hl rfl
 case a.looking n i h l d =>
  intro b hb
  have R2:=R1.junk (o:=.lst [.int l,.int rr]) hb
  refine ⟨_,jaf hA hb,by show 4+2≤_; exact sz6,fun l hl=>fin R2 hl ?_⟩
  simp only [Vbcnad.phaseShown,List.map_cons,List.map_nil,hr d rfl]; rfl
 case a.challenged n i h c d =>
  intro b hb
  have R2:=R1.junk (o:=.lst [.int c,.int rr]) hb
  refine ⟨_,jaf hA hb,by show 4+2≤_; exact sz6,fun l hl=>fin R2 hl ?_⟩
  simp only [Vbcnad.phaseShown,List.map_cons,List.map_nil,hr d rfl]; rfl
 case a.checking n i h c x t l d =>
  intro b hb
  have R2:=R1.junk (o:=.lst [.int c,.int x,.int l,.int rr]) hb
  refine ⟨_,jaf hA hb,by show 4+4≤_; exact sz8,fun l hl=>fin R2 hl ?_⟩
  simp only [Vbcnad.phaseShown,List.map_cons,List.map_nil,hr d rfl]; rfl
noncomputable def sessShown (s:VS):Option Vbcnad.Sess→List Int
 | some x=>[1,(x.num:Int),(x.id:Int),(x.hw:Int),(x.vlan:Int),Vbcnad.least x.until_ s.now,Vbcnad.least x.again s.now,(x.frames:Int)]
 | none=>[0]
inductive sp_session_numbers (K:W.Frag) (T:Tb) (vs:List V) (H:Hp) (Q:VK) (E0:XK):Prop | mk (loc F s p y) (_:vs=[.ref (loc .W),soV loc p y.sess]) (_:Rep T loc F H s) (_:s.ports[p]? = some y) (_:∀ H' l,F l=none→Rep T loc (upd F l (.lst ((sessShown s y.sess).map V.int))) H' s→Q (.ref l) H')
noncomputable def m_session_numbers (K:W.Frag) (T:Tb):MB:=(.cons (.if_ (.cmp .Is rIsN (.var 1) .non) (.cons (.ret (.lst (.cons (.int 0) .nil)))
  .nil) .nil)
  (.cons (.set 2 (.call "rest_until" (sp_rest_until K T) (.cons (.var 0) (.cons (.fld (.var 1) "until" 2 4) .nil))))
  (.cons (.set 3 (.call "rest_until" (sp_rest_until K T) (.cons (.var 0) (.cons (.fld (.var 1) "again" 2 5) .nil))))
  (.cons (.ret (.lst (.cons (.int 1) (.cons (.fld (.var 1) "number" 2 0) (.cons (.fld (.var 1) "who" 2 1) (.cons (.fld (.var 1) "host" 2 2) (.cons (.fld (.var 1) "vlan" 2 3) (.cons (.var 2) (.cons (.var 3) (.cons (.fld (.var 1) "frames" 2 6) .nil))))))))))
  .nil))))
theorem w_session_numbers {K:W.Frag} {T:Tb}:Wk K T (sp_session_numbers K T) (m_session_numbers K T) ["world","session","until","again"]:=by
 intro vs H Q E h
 obtain ⟨loc,F,s,p,y,rfl,R,hy,q⟩:=h
 cases hx:y.sess with
 | none =>
  rw [hx] at q
  simp_arith [m_session_numbers,soV,decide_true,one_sz]
  exact fun l hl=>q _ l (R.free hl) (R.new hl)
 | some x =>
  rw [hx] at q
  simp_arith! only [m_session_numbers,soV,decide_false,R.w,R.se hy hx,sp_rest_until,rest_is,sz8]
  exact fun l hl=>q _ l (R.free hl) (R.new hl)
theorem Rep.ownL {T:Tb} {loc:Lo} {F H:Hp} {s:VS} {l:Addr} {xs:List V} (R:Rep T loc (upd F l (.lst xs)) H s) (ys:List V):Rep T loc (upd F l (.lst ys)) (upd H l (.lst ys)) s:=by
 have:=R.own (a:=l) (o:=.lst ys) jaa .lst
 rw [jbb] at this
 exact this
inductive sp_tell_port (K:W.Frag) (T:Tb) (vs:List V) (H:Hp) (Q:VK) (E0:XK):Prop | mk (loc F s p) (_:vs=[.ref (loc .W),.int p]) (_:Pre T loc F H s) (_:Post T loc F Q (Vbcnad.doing s (.port p)))
theorem phS_len {s:VS} {ph:Vbcnad.Phase}:(Vbcnad.phaseShown s ph).length≤8:=by cases ph <;> simp [Vbcnad.phaseShown]
theorem seS_len {s:VS} {x:Option Vbcnad.Sess}:(sessShown s x).length≤8:=by cases x <;> simp [sessShown]
noncomputable def m_tell_port (K:W.Frag) (T:Tb):MB:=(.cons (.if_ (.not_ (.call "is_port" (sp_is_port K T) (.cons (.var 0) (.cons (.var 1) .nil)))) (.cons (.ret (.lst (.cons (.neg 1) .nil)))
  .nil) .nil)
  (.cons (.set 2 (.ix rIxH (.fld (.var 0) "ports" 7 0) (.var 1)))
  (.cons (.ret (.op .Add rCat (.op .Add rCat (.op .Add rCat (.lst (.cons (.int 0) .nil)) (.call "stand_numbers" (sp_stand_numbers K T) (.cons (.var 0) (.cons (.fld (.var 2) "stand" 1 0) .nil)))) (.call "session_numbers" (sp_session_numbers K T) (.cons (.var 0) (.cons (.fld (.var 2) "session" 1 1) .nil)))) (.lst (.cons (.fld (.var 2) "guest" 1 2) .nil))))
  .nil)))
theorem w_tell_port {K:W.Frag} {T:Tb}:Wk K T (sp_tell_port K T) (m_tell_port K T) ["world","place","port"]:=by
 intro vs H Q E h
 obtain ⟨loc,F,s,p,rfl,⟨R,k,hk,W⟩,q⟩:=h
 (unfold Vbcnad.doing at q; dsimp only at q)
 rcases jah s p with hp | ⟨n,y,rfl,hy,hp⟩
 ·simp_arith! only [m_tell_port,sp_is_port,R.w,R.pl,HO.lst.injEq,List.length_map,List.length_range,jag,hp,Bool.not_false,one_sz]
  rw [if_pos hp] at q
  exact q.ret Lk.rfl' R
 ·rw [if_neg (by rw [hp]; simp)] at q
  simp only [Int.toNat_natCast,jac hy] at q
  have q:Post T loc F Q (s,[0] ++ Vbcnad.phaseShown s y.phase ++ sessShown s y.sess ++ [(y.guest:Int)]):=by
   cases hx:y.sess <;> rw [hx] at q <;> exact q
  have hz:=szl
  have l1:=phS_len (s:=s) (ph:=y.phase)
  have l2:=seS_len (s:=s) (x:=y.sess)
  simp_arith! only [m_tell_port,sp_is_port,sp_within,R.w,R.pl,HO.lst.injEq,List.length_map,List.length_range,jag,hp,Bool.not_true,one_sz,R.ix hy]
  intro a0 ha0
  have R0:=R.new (o:=.lst [.int 0]) ha0
  have g0:=R.free ha0
  have e0:=R0.po hy
  generalize upd H a0 _=H0 at R0 e0 ⊢
  simp_arith [e0]
  refine ⟨loc,_,s,n,y,rfl,R0,hy,fun H1 a1 ha1 R1=>?_⟩
  have na:a1≠a0:=fun w=>by subst w; rw [jaa] at ha1; cases ha1
  have c0:H1 a0=some (.lst [.int 0]):=R1.fr _ _ (by rw [upd_ne na.symm,jaa])
  have c1:=R1.ownH
  have Rb:Rep T loc F H1 s:=(R1.drop ha1).drop g0
  simp_arith only [c0,c1,HO.lst.injEq]
  refine ⟨by rw [List.length_map]; omega,fun a2 ha2=>?_⟩
  have R2:=Rb.new (o:=.lst ([.int 0] ++ (Vbcnad.phaseShown s y.phase).map V.int)) ha2
  have g2:=Rb.free ha2
  have e2:=R2.po hy
  simp only [List.cons_append,List.nil_append] at R2 e2
  generalize upd H1 a2 _=H2 at R2 e2 ⊢
  simp_arith only [e2]
  refine ⟨loc,_,s,n,y,rfl,R2,hy,fun H3 a3 ha3 R3=>?_⟩
  have nb:a3≠a2:=fun w=>by subst w; rw [jaa] at ha3; cases ha3
  have d0:H3 a2=some (.lst (.int 0 :: (Vbcnad.phaseShown s y.phase).map V.int)):=R3.fr _ _ (by rw [upd_ne nb.symm,jaa])
  have d1:=R3.ownH
  have Rc:Rep T loc F H3 s:=(R3.drop ha3).drop g2
  simp_arith only [d0,d1,HO.lst.injEq]
  refine ⟨by simp only [List.length_map]; omega,fun a4 ha4=>?_⟩
  have R4:=Rc.junk (o:=.lst (.int 0 :: (Vbcnad.phaseShown s y.phase).map V.int ++ (sessShown s y.sess).map V.int)) ha4
  have f4:upd H3 a4 (.lst (.int 0 :: (Vbcnad.phaseShown s y.phase).map V.int ++ (sessShown s y.sess).map V.int)) a4=some _:=jaa
  have e4:=R4.po hy
  simp only [List.cons_append,List.nil_append] at R4 e4 f4
  generalize upd H3 a4 _=H4 at R4 e4 f4 ⊢
  simp_arith only [e4,one_sz]
  intro a5 ha5
  refine ⟨_,jaf f4 ha5,by simp only [List.length_append,List.length_map,List.length_cons,List.length_nil]; omega,fun a6 ha6=>?_⟩
  have R5:=R4.junk (o:=.lst [.int y.guest]) ha5
  have:=q.ret Lk.rfl' R5 a6 ha6
  simp only [List.map_append,List.map_cons,List.map_nil,List.cons_append,List.nil_append] at this ⊢
  exact this
inductive sp_tell_bag (K:W.Frag) (T:Tb) (vs:List V) (H:Hp) (Q:VK) (E0:XK):Prop | mk (loc F s) (_:vs=[.ref (loc .W)]) (_:Pre T loc F H s) (_:Post T loc F Q (Vbcnad.doing s .bag))
theorem msg_len {m:Vbcnad.Msg}:(msgV m).length≤7:=by cases m <;> simp [msgV,Vbcnad.msgShown]
theorem flat_len:∀ {l:List Vbcnad.Msg},((l.flatMap Vbcnad.msgShown).map V.int).length≤7 * l.length
 | []=>by simp
 | m :: l=>by
  have h1:=flat_len (l:=l)
  have h2:=msg_len (m:=m)
  unfold msgV at h2
  rw [List.flatMap_cons,List.map_append,List.length_append,List.length_cons]
  omega
noncomputable def m_tell_bag (K:W.Frag) (T:Tb):MB:=(.cons (.set 1 (.lst (.cons (.int 0) (.cons (.bif "len" "len" rLenH (.cons (.fld (.var 0) "bag" 7 13) .nil)) .nil))))
  (.cons (.for_ (.name 2) (.list (.fld (.var 0) "bag" 7 13)) (.cons (.expr (.mth (.var 1) "extend" "list" "list.extend" rExtU (.cons (.var 2) .nil)))
  .nil))
  (.cons (.ret (.var 1))
  .nil)))
theorem w_tell_bag {K:W.Frag} {T:Tb}:Wk K T (sp_tell_bag K T) (m_tell_bag K T) ["world","told","message"]:=by
 intro vs H Q E h
 obtain ⟨loc,F,s,rfl,⟨R,k,hk,W⟩,q⟩:=h
 obtain ⟨ps,e,h1,h2⟩:=R.cell .BL
 have hpl:ps.length=s.bag.length:=by rw [← e,List.length_map]
 have q:Post T loc F Q (s,[0,(s.bag.length:Int)] ++ s.bag.flatMap Vbcnad.msgShown):=q
 have hbl:s.bag.length≤1024:=Nat.le_trans W.bg W.cb
 have hz:=szl
 simp_arith! only [m_tell_bag,R.w,h1,HO.lst.injEq,List.length_map,hpl,two_sz]
 intro a ha
 have R1:=R.new (o:=.lst [.int 0,.int s.bag.length]) ha
 have hF:=R.free ha
 have e1:=R1.w
 have g1:=jaf (o:=.lst [.int 0,.int s.bag.length]) h1 ha
 have g2:∀ x ∈ ps,upd H a (.lst [.int 0,.int s.bag.length]) x.1=some (.tup (msgV x.2)):=fun x hx=>jaf (h2 x hx) ha
 generalize upd H a _=H1 at R1 e1 g1 g2 ⊢
 simp_arith only [e1]
 refine ⟨⟨_,.inl (.inl g1)⟩,?_⟩
 have nBL:loc .BL≠a:=R1.off a _ jaa .BL trivial
 refine forL (K:=K) (a:=loc .BL) (xs:=ps.map fun x=>V.ref x.1)
  (fun i σ H'=>Rep T loc (upd F a (.lst ([.int 0,.int s.bag.length] ++ ((s.bag.take i).flatMap Vbcnad.msgShown).map V.int))) H' s∧H' (loc .BL)=some (.lst (ps.map fun x=>V.ref x.1))∧(∀ x ∈ ps,H' x.1=some (.tup (msgV x.2)))∧∃ v,σ=[some (.ref (loc .W)),some (.ref a),v])
  ⟨R1,g1,g2,none,rfl⟩ (fun i σ H' _ ⟨_,h,_⟩=>.inl (.inl h)) ?_ ?_
 ·rintro i v σ H' hi ⟨R2,g3,g4,v1,rfl⟩
  rw [List.getElem?_map] at hi
  obtain ⟨x,hx,rfl⟩:=Option.map_eq_some_iff.mp hi
  have hxe:s.bag[i]? = some x.2:=by rw [← e,List.getElem?_map,hx]; rfl
  have hx1:=g4 x (List.mem_of_getElem? hx)
  have c:=R2.ownH
  simp_arith only [c,hx1,HO.lst.injEq,HO.tup.injEq]
  have hlen:=flat_len (l:=s.bag.take i)
  have hml:=msg_len (m:=x.2)
  have htl:(s.bag.take i).length≤1024:=by rw [List.length_take]; omega
  refine ⟨tyL c,by omega,?_⟩
  have e5:((s.bag.take (i+1)).flatMap Vbcnad.msgShown).map V.int=((s.bag.take i).flatMap Vbcnad.msgShown).map V.int ++ msgV x.2:=by
   rw [take1 hxe,List.flatMap_append,List.map_append]
   simp [msgV]
  rw [e5]
  refine ⟨R2.ownL _,?_,fun z hz=>?_⟩
  ·rw [upd_ne nBL]; exact g3
  ·rw [upd_ne (ne_of (g4 z hz) c (by intro w; cases w))]; exact g4 z hz
 ·rintro σ H' ⟨R2,_,_,v1,rfl⟩
  rw [List.take_of_length_le (by rw [List.length_map]; omega)] at R2
  refine q _ loc a hF Lk.rfl' ?_
  rw [List.map_append]
  exact R2
inductive sp_tell_account (K:W.Frag) (T:Tb) (vs:List V) (H:Hp) (Q:VK) (E0:XK):Prop | mk (loc F s n) (_:vs=[.ref (loc .W),.int n]) (_:Pre T loc F H s) (_:Post T loc F Q (Vbcnad.doing s (.account n)))
noncomputable def m_tell_account (K:W.Frag) (T:Tb):MB:=(.cons (.if_ (.din true (.var 1) (.fld (.var 0) "accounts" 7 19)) (.cons (.ret (.lst (.cons (.neg 1) .nil)))
  .nil) .nil)
  (.cons (.set 2 (.dget (.fld (.var 0) "accounts" 7 19) (.var 1)))
  (.cons (.ret (.lst (.cons (.int 0) (.cons (.ix rIxU (.var 2) (.int 0)) (.cons (.ix rIxU (.var 2) (.int 1)) .nil)))))
  .nil)))
theorem w_tell_account {K:W.Frag} {T:Tb}:Wk K T (sp_tell_account K T) (m_tell_account K T) ["world","number","account"]:=by
 intro vs H Q E h
 obtain ⟨loc,F,s,n,rfl,⟨R,k,hk,W⟩,q⟩:=h
 obtain ⟨ps,e,h1,h2⟩:=R.cell .AD
 have h1:H (loc .AD)=some (.dK (ps.map ackv)):=h1
 (unfold Vbcnad.doing at q; dsimp only at q)
 have ef:s.accounts.find? (fun a=>(a.num:Int) == n)=(ps.find? fun x=>(x.2.num:Int) == n).map (·.2):=by
  rw [← e,List.find?_map]; rfl
 rw [ef] at q
 simp_arith only [m_tell_account,R.w]
 refine ⟨_,DGet.k (k:=Sum.inl n) h1,?_⟩
 rw [ac_val]
 cases hf:ps.find? fun x=>(x.2.num:Int) == n with
 | none =>
  rw [hf] at q
  simp_arith [Option.map_none,Option.isSome_none,Bool.not_false,one_sz]
  exact q.ret Lk.rfl' R
 | some x =>
  rw [hf] at q
  have hx:=h2 x (List.mem_of_find?_eq_some hf)
  refine ⟨.ref x.1,jbg h1 (by rw [ac_val,hf]; rfl),?_⟩
  simp_arith only [hx,HO.tup.injEq,atI_0,atI_1,sz3]
  exact q.ret Lk.rfl' R
theorem jbr {l:List Nat} (h:l.Pairwise (· < ·)) (hb:∀ g ∈ l,g < 64):(List.range 64).filter (fun g=>decide (g ∈ l))=l:=by
 have hp1:((List.range 64).filter fun g=>decide (g ∈ l)).Pairwise (· < ·):=List.Pairwise.filter _ List.pairwise_lt_range
 have ext:∀ {a b:List Nat},a.Pairwise (· < ·)→b.Pairwise (· < ·)→(∀ x,x ∈ a↔x ∈ b)→a=b:=by
  intro a
  induction a with
  | nil =>
   intro b _ _ h
   cases b with
   | nil=>rfl
   | cons c b=>exact absurd ((h c).mpr List.mem_cons_self) (by simp)
  | cons c a ih =>
   intro b ha hb h
   cases b with
   | nil=>exact absurd ((h c).mp List.mem_cons_self) (by simp)
   | cons d b =>
    have ha':=List.pairwise_cons.mp ha
    have hb':=List.pairwise_cons.mp hb
    have e:c=d:=by
     rcases List.mem_cons.mp ((h c).mp List.mem_cons_self) with e | e
     ·exact e
     ·rcases List.mem_cons.mp ((h d).mpr List.mem_cons_self) with e2 | e2
      ·exact e2.symm
      ·have:=hb'.1 c e; have:=ha'.1 d e2; omega
    subst e
    congr 1
    refine ih ha'.2 hb'.2 fun x=>?_
    constructor
    ·intro hx
     rcases List.mem_cons.mp ((h x).mp (List.mem_cons_of_mem _ hx)) with e | e
     ·have:=ha'.1 x hx; omega
     ·exact e
    ·intro hx
     rcases List.mem_cons.mp ((h x).mpr (List.mem_cons_of_mem _ hx)) with e | e
     ·have:=hb'.1 x hx; omega
     ·exact e
 refine ext hp1 h fun x=>?_
 simp only [List.mem_filter,List.mem_range,decide_eq_true_eq]
 exact ⟨fun h=>h.2,fun h=>⟨hb x h,h⟩⟩
inductive sp_tell_person (K:W.Frag) (T:Tb) (vs:List V) (H:Hp) (Q:VK) (E0:XK):Prop | mk (loc F s i) (_:vs=[.ref (loc .W),.int i]) (_:Pre T loc F H s) (_:Post T loc F Q (Vbcnad.doing s (.whois i)))
noncomputable def m_tell_person (K:W.Frag) (T:Tb):MB:=(.cons (.if_ (.din true (.var 1) (.fld (.var 0) "persons" 7 15)) (.cons (.ret (.lst (.cons (.neg 1) .nil)))
  .nil) .nil)
  (.cons (.set 2 (.dget (.fld (.var 0) "persons" 7 15) (.var 1)))
  (.cons (.setLc 3 (.var 5) (.pair 5 6) (.enum (.fld (.var 2) "groups" 3 3)) (.cons (.cmp .Eq rEq (.var 6) (.int 1)) .nil) [("group",5),("inside",6)])
  (.cons (.set 4 (.call "rest_until" (sp_rest_until K T) (.cons (.var 0) (.cons (.fld (.var 2) "locked" 3 5) .nil))))
  (.cons (.ret (.op .Add rCat (.lst (.cons (.int 0) (.cons (.fld (.var 2) "host" 3 1) (.cons (.fld (.var 2) "barred" 3 2) (.cons (.fld (.var 2) "wrong" 3 4) (.cons (.var 4) (.cons (.bif "len" "len" rLenH (.cons (.var 3) .nil)) .nil))))))) (.var 3)))
  .nil)))))
theorem w_tell_person {K:W.Frag} {T:Tb}:Wk K T (sp_tell_person K T) (m_tell_person K T) ["world","who","person","groups","locked","group","inside"]:=by
 intro vs H Q E h
 obtain ⟨loc,F,s,i,rfl,⟨R,k,hk,W⟩,q⟩:=h
 obtain ⟨kvs,h1,h2,h3,h4,h5⟩:=R.pd
 (unfold Vbcnad.doing at q; dsimp only at q)
 simp_arith only [m_tell_person,one_sz,R.w]
 refine ⟨_,DGet.k (k:=Sum.inl i) h1,?_⟩
 rcases jam s (fun x hx=>(W.pi x hx).1) i with ⟨p1,p2,p3⟩ | ⟨y,py,rfl,pi,pf⟩
 ·rw [p1] at q
  rw [h5 _ p3]
  exact q.ret Lk.rfl' R
 ·rw [Int.toNat_natCast,pi,if_pos rfl,pf] at q
  rw [h4 y py]
  refine ⟨_,jbg h1 (h4 y py),?_⟩
  have hg:=R.gr py
  simp_arith only [R.pe py]
  refine ⟨_,.inl (.inl hg),fun D hD=>?_⟩
  refine lcE (K:=K) (a:=loc (.gr y.id)) (xs:=grV y.groups)
   (fun i H'=>Same H H'∧H' D=some (.lst (((List.range i).filter fun g=>decide (g ∈ y.groups)).map fun (g:Nat)=>V.int (g:Int))))
   ⟨Same.fresh hD,jaa⟩ (fun i H' _ ⟨e,_⟩=>.inl (.inl (e _ _ hg))) ?_ ?_
  ·rintro j v t H' hj ⟨e1,hacc⟩ ht
   have hj64:j < 64:=by
    have:=(List.getElem?_eq_some_iff.mp hj).1
    unfold grV at this; simpa using this
   have hv:v=.int (if j ∈ y.groups then 1 else 0):=by
    unfold grV at hj
    rw [List.getElem?_map,List.getElem?_range hj64] at hj
    exact (Option.some.inj hj).symm
   subst hv
   refine ⟨t,_,rfl,.inl (.inl jaa),rfl,_,_,rfl,_,_,rfl,rfl,?_⟩
   have nD:D≠t:=jab hacc ht
   simp_arith only [upd_ne nD,hacc,HO.lst.injEq,List.length_map]
   have hle:=jb0 (f:=fun g=>decide (g ∈ y.groups)) (i:=j)
   have hz:=szl
   by_cases hm:j ∈ y.groups
   ·simp_arith only [hm,if_true]
    refine ⟨by omega,fun b o h=>?_,?_⟩
    ·rw [upd_ne (jab h hD),upd_ne (jab (e1 _ _ h) ht)]; exact e1 _ _ h
    ·rw [jau,if_pos (by simpa using hm),List.map_append]; rfl
   ·simp_arith only [hm,if_false,show ¬ ((0:Int)=1) by decide]
    refine ⟨e1.trans (Same.fresh ht),?_⟩
    rw [jau,if_neg (by simpa using hm),List.append_nil]
  ·rintro H' ⟨e1,hacc⟩
   rw [show (grV y.groups).length=64 from by unfold grV; simp,jbr (W.pg y py).1 (W.pg y py).2] at hacc
   have R1:=R.grow e1
   simp_arith only [R1.w,R1.pe py,sp_rest_until,rest_is,hacc,HO.lst.injEq,List.length_map,sz6]
   intro a ha
   have R2:=R1.junk (o:=.lst [.int 0,.int y.hw,.int y.barred.toNat,.int y.wrong,.int (Vbcnad.least y.locked s.now),.int y.groups.length]) ha
   have hgl:y.groups.length≤64:=by
    rw [← jbr (W.pg y py).1 (W.pg y py).2]; exact jb0
   have hz:=szl
   refine ⟨_,jaf hacc ha,by simp only [List.length_map]; omega,fun a2 ha2=>?_⟩
   have:=q.ret Lk.rfl' R2 a2 ha2
   simp only [List.map_append,List.map_cons,List.map_nil,List.cons_append,List.nil_append,List.map_map] at this
   exact this
inductive sp_tell_counts (K:W.Frag) (T:Tb) (vs:List V) (H:Hp) (Q:VK) (E0:XK):Prop | mk (loc F s) (_:vs=[.ref (loc .W)]) (_:Pre T loc F H s) (_:Post T loc F Q (Vbcnad.doing s .counts))
noncomputable def m_tell_counts (K:W.Frag) (T:Tb):MB:=(.cons (.set 1 (.lst (.cons (.call "count_sessions" (sp_count_sessions K T) (.cons (.var 0) .nil)) (.cons (.bif "len" "len" rLenH (.cons (.fld (.var 0) "records" 7 14) .nil)) .nil))))
  (.cons (.set 2 (.lst (.cons (.bif "len" "len" rLenD (.cons (.fld (.var 0) "persons" 7 15) .nil)) (.cons (.bif "len" "len" rLenH (.cons (.fld (.var 0) "rules" 7 16) .nil)) (.cons (.bif "len" "len" rLenD (.cons (.fld (.var 0) "known" 7 17) .nil)) (.cons (.bif "len" "len" rLenH (.cons (.fld (.var 0) "begun" 7 18) .nil)) .nil))))))
  (.cons (.ret (.op .Add rCat (.op .Add rCat (.lst (.cons (.int 0) (.cons (.fld (.var 0) "now" 7 10) (.cons (.fld (.var 0) "book" 7 11) (.cons (.fld (.var 0) "lost" 7 12) .nil))))) (.var 1)) (.var 2)))
  .nil)))
theorem w_tell_counts {K:W.Frag} {T:Tb}:Wk K T (sp_tell_counts K T) (m_tell_counts K T) ["world","at_switch","at_directory"]:=by
 intro vs H Q E h
 obtain ⟨loc,F,s,rfl,⟨R,k,hk,W⟩,q⟩:=h
 (unfold Vbcnad.doing at q; dsimp only at q)
 refine ⟨loc,F,s,rfl,R,W.pl,fun H1 e1=>?_⟩
 have R1:=R.grow e1
 obtain ⟨ps,e,h1,h2⟩:=R1.cell .RL
 have hpl:ps.length=s.ended.length:=by rw [← e,List.length_map]
 simp_arith! only [R1.w,h1,HO.lst.injEq,List.length_map,hpl,two_sz]
 intro a ha
 have R2:=R1.junk (o:=.lst [.int (Vbcnad.living s),.int s.ended.length]) ha
 have fa:upd H1 a (.lst [.int (Vbcnad.living s),.int s.ended.length]) a=some (.lst [.int (Vbcnad.living s),.int s.ended.length]):=jaa
 generalize upd H1 a _=H2 at R2 fa ⊢
 obtain ⟨us,e3,u1,_⟩:=R2.cell .UL
 obtain ⟨gs,e4,g1,_⟩:=R2.cell .GL
 obtain ⟨kvs,d1,d2,_,_,_⟩:=R2.pd
 have hul:us.length=s.rules.length:=by rw [← e3,List.length_map]
 have hgl:gs.length=s.opened.length:=by rw [← e4,List.length_map]
 simp_arith! only [R2.w,u1,g1,d1,R2.kd,HO.lst.injEq,HO.dK.injEq,List.length_map,hul,hgl,d2,sz4]
 intro b hb
 have R3:=R2.junk (o:=.lst [.int s.persons.length,.int s.rules.length,.int s.asks.length,.int s.opened.length]) hb
 have fa3:=jaf (o:=.lst [.int s.persons.length,.int s.rules.length,.int s.asks.length,.int s.opened.length]) fa hb
 have fb:upd H2 b (.lst [.int s.persons.length,.int s.rules.length,.int s.asks.length,.int s.opened.length]) b=some (.lst [.int s.persons.length,.int s.rules.length,.int s.asks.length,.int s.opened.length]):=jaa
 generalize upd H2 b _=H3 at R3 fa3 fb ⊢
 simp_arith only [R3.w,sz4]
 intro c hc
 have R4:=R3.junk (o:=.lst [.int 0,.int s.now,.int s.book,.int s.lost]) hc
 have fa4:=jaf (o:=.lst [.int 0,.int s.now,.int s.book,.int s.lost]) fa3 hc
 have fb4:=jaf (o:=.lst [.int 0,.int s.now,.int s.book,.int s.lost]) fb hc
 have fc4:upd H3 c (.lst [.int 0,.int s.now,.int s.book,.int s.lost]) c=some (.lst [.int 0,.int s.now,.int s.book,.int s.lost]):=jaa
 generalize upd H3 c _=H4 at R4 fa4 fb4 fc4 ⊢
 simp_arith only [fa4,fc4,HO.lst.injEq]
 refine ⟨sz6,fun d hd=>?_⟩
 have R5:=R4.junk (o:=.lst [.int 0,.int s.now,.int s.book,.int s.lost,.int (Vbcnad.living s),.int s.ended.length]) hd
 have fb5:=jaf (o:=.lst [.int 0,.int s.now,.int s.book,.int s.lost,.int (Vbcnad.living s),.int s.ended.length]) fb4 hd
 simp_arith only [fb5,HO.lst.injEq]
 refine ⟨by show 6+4≤_; decide,fun d2 hd2=>?_⟩
 exact q.ret Lk.rfl' R5 d2 hd2
inductive ClT:Int→List Int→Vbcnad.Call→Prop
 | keyed (a b:Int):ClT 22 [a,b] (.keyed a b)
 | port (a:Int):ClT 23 [a] (.port a)
 | bag:ClT 24 [] .bag
 | account (a:Int):ClT 25 [a] (.account a)
 | whois (a:Int):ClT 26 [a] (.whois a)
 | counts:ClT 27 [] .counts
inductive sp_telling_call (K:W.Frag) (T:Tb) (vs:List V) (H:Hp) (Q:VK) (E0:XK):Prop | mk (loc F s code zs l c) (_:vs=[.ref (loc .W),.int code,.ref l]) (_:H l=some (.lst (zs.map V.int))) (_:ClT code zs c) (_:Pre T loc F H s) (_:Post T loc F Q (Vbcnad.doing s c))
noncomputable def m_telling_call (K:W.Frag) (T:Tb):MB:=(.cons (.if_ (.cmp .Eq rEq (.var 1) (.glo "KEYED" (.int 22))) (.cons (.ret (.call "tell_keyed" (sp_tell_keyed K T) (.cons (.ix rIxH (.var 2) (.int 0)) (.cons (.ix rIxH (.var 2) (.int 1)) .nil))))
  .nil) .nil)
  (.cons (.if_ (.cmp .Eq rEq (.var 1) (.glo "PORT" (.int 23))) (.cons (.ret (.call "tell_port" (sp_tell_port K T) (.cons (.var 0) (.cons (.ix rIxH (.var 2) (.int 0)) .nil))))
  .nil) .nil)
  (.cons (.if_ (.cmp .Eq rEq (.var 1) (.glo "BAG" (.int 24))) (.cons (.ret (.call "tell_bag" (sp_tell_bag K T) (.cons (.var 0) .nil)))
  .nil) .nil)
  (.cons (.if_ (.cmp .Eq rEq (.var 1) (.glo "ACCOUNT" (.int 25))) (.cons (.ret (.call "tell_account" (sp_tell_account K T) (.cons (.var 0) (.cons (.ix rIxH (.var 2) (.int 0)) .nil))))
  .nil) .nil)
  (.cons (.if_ (.cmp .Eq rEq (.var 1) (.glo "WHOIS" (.int 26))) (.cons (.ret (.call "tell_person" (sp_tell_person K T) (.cons (.var 0) (.cons (.ix rIxH (.var 2) (.int 0)) .nil))))
  .nil) .nil)
  (.cons (.ret (.call "tell_counts" (sp_tell_counts K T) (.cons (.var 0) .nil)))
  .nil))))))
theorem w_telling_call {K:W.Frag} {T:Tb}:Wk K T (sp_telling_call K T) (m_telling_call K T) ["world","code","row"]:=by
 intro vs H Q E h
 obtain ⟨loc,F,s,code,zs,l,c,rfl,hl,hc,P,q⟩:=h
 cases hc <;> simp only [List.map_cons,List.map_nil] at hl <;> simp_arith [m_telling_call,hl,HO.lst.injEq,atI_0,atI_1,atI_2]
 case keyed a b=>exact ⟨loc,F,s,a,b,rfl,P,q⟩
 case port a=>exact ⟨loc,F,s,a,rfl,P,q⟩
 case bag=>exact ⟨loc,F,s,rfl,P,q⟩
 case account a=>exact ⟨loc,F,s,a,rfl,P,q⟩
 case whois a=>exact ⟨loc,F,s,a,rfl,P,q⟩
 case counts=>exact ⟨loc,F,s,rfl,P,q⟩
noncomputable def askEnd (s:VS) (p:Nat) (y:Vbcnad.Port):VS:=if y.sess.isSome=true then Vbcnad.denied s p else if y.guest=0 then Vbcnad.phaseAt s p (Vbcnad.heldAt s) else Vbcnad.phaseAt s p .guest
inductive sp_end_asking (K:W.Frag) (T:Tb) (vs:List V) (H:Hp) (Q:VK) (E0:XK):Prop | mk (loc F s p y) (_:vs=[.ref (loc .W),.ref (loc (.po p))]) (_:Rep T loc F H s) (_:s.ports[p]? = some y) (_:Bd s) (_:PostS T loc F Q (askEnd s p y))
noncomputable def m_end_asking (K:W.Frag) (T:Tb):MB:=(.cons (.if_ (.cmp .IsNot rNotN (.fld (.var 1) "session" 1 1) .non) (.cons (.expr (.call "deny" (sp_deny K T) (.cons (.var 0) (.cons (.var 1) .nil))))
  .nil) (.cons (.if_ (.cmp .Eq rEq (.fld (.var 1) "guest" 1 2) (.int 0)) (.cons (.expr (.call "hold_port" (sp_hold_port K T) (.cons (.var 0) (.cons (.var 1) .nil))))
  .nil) (.cons (.fset (.var 1) "stand" 1 0 (.make "Stand" 0 (sp_init_Stand T) (.cons (.glo "AS_GUEST" (.int 6)) (.cons (.int 0) .nil))))
  .nil))
  .nil))
  .nil)
theorem w_end_asking {K:W.Frag} {T:Tb}:Wk K T (sp_end_asking K T) (m_end_asking K T) ["world","port"]:=by
 intro vs H Q E h
 obtain ⟨loc,F,s,p,y,rfl,R,hy,B,q⟩:=h
 unfold askEnd at q
 have hel:=B.el
 simp_arith [m_end_asking,R.po hy]
 cases hx:y.sess with
 | some x =>
  rw [hx,if_pos (by rfl)] at q
  exact ⟨loc,F,s,p,y,rfl,R,hy,by omega,fun H1 d R1=>q _ _ Lk.st R1⟩
 | none =>
  rw [hx,if_neg (by simp)] at q
  simp_arith only [soV,decide_true,Bool.not_true]
  by_cases hg:y.guest=0
  ·rw [if_pos (by omega)]
   rw [if_pos hg] at q
   exact ⟨loc,F,s,p,y,rfl,R,hy,fun H1 d R1=>q _ _ Lk.st R1⟩
  ·rw [if_neg (by omega)]
   rw [if_neg hg] at q
   simp_arith! only [ob_nil]
   intro a dx ha hdx ne
   refine ⟨a,dx,_,_,rfl,jaa,?_⟩
   have R1:=R.make (c:=0) (vs:=[.int 6,.int 0,.int 0,.int 0,.int 0,.int 0,.int 0,.int 0,.int 0]) ha hdx ne
   have R2:=R1.standNew (R.free ha) hy (ph:=.guest)
   rw [hx] at R2
   simp_arith only [jaq,R1.po hy,hx,soV] at R2 ⊢
   exact q _ _ Lk.st R2
noncomputable def once (s:VS):Vbcnad.Phase→Vbcnad.Phase
 | .asking l _=>.asking (l - 1) (s.now+s.cfg.wait)
 | .looking n i h l _=>.looking n i h (l - 1) (s.now+s.cfg.wait)
 | .checking n i h c x t l _=>.checking n i h c x t (l - 1) (s.now+s.cfg.wait)
 | x=>x
theorem once_V {s:VS} {ph:Vbcnad.Phase} (h:0 < lf ph):phV (once s ph)=[.int (kd ph),.int (s.now+s.cfg.wait),.int (lf ph - 1),.int (nn ph),.int (wh ph),.int (hh ph),.int (cc ph),.int (xx ph),.int (ft ph)]:=by
 cases ph <;> simp only [lf] at h <;> first | (exact absurd h (by decide)) | (simp only [once,phV,kd,du,lf,nn,wh,hh,cc,xx,ft]; rw [Int.natCast_add,Int.natCast_sub (by omega)]; rfl)
inductive sp_wait_once_more (K:W.Frag) (T:Tb) (vs:List V) (H:Hp) (Q:VK) (E0:XK):Prop | mk (loc F s p y) (_:vs=[.ref (loc .W),.ref (loc (.st p))]) (_:Rep T loc F H s) (_:s.ports[p]? = some y) (_:0 < lf y.phase) (_:∀ H',Rep T loc F H' (Vbcnad.phaseAt s p (once s y.phase))→Q .non H')
noncomputable def m_wait_once_more (K:W.Frag) (T:Tb):MB:=(.cons (.faug (.var 1) "left" 0 2 .Sub rSub (.int 1))
  (.cons (.fset (.var 1) "due" 0 1 (.op .Add (rI0 fun i j=>.int (i+j)) (.fld (.var 0) "now" 7 10) (.fld (.var 0) "wait" 7 2)))
  .nil))
theorem w_wait_once_more {K:W.Frag} {T:Tb}:Wk K T (sp_wait_once_more K T) (m_wait_once_more K T) ["world","stand"]:=by
 intro vs H Q E h
 obtain ⟨loc,F,s,p,y,rfl,R,hy,hl,q⟩:=h
 have nW:loc .W≠loc (.st p):=fun e=>by cases R.inj .W (.st p) trivial (ja2 hy) e
 have hg:∀ vs:List V,vs.length≤9→getV T 0 (setV T 0 H (loc (.st p)) vs (loc (.st p)))=some vs:=fun vs h=>setV_get (R.st hy) h
 have hs:∀ vs ws:List V,setV T 0 (setV T 0 H (loc (.st p)) vs) (loc (.st p)) ws=setV T 0 H (loc (.st p)) ws:=fun vs ws=>setV_set (R.st hy)
 have hw:∀ vs:List V,getV T 7 (setV T 0 H (loc (.st p)) vs (loc .W))=some (woV loc s):=fun vs=>by rw [jcn nW]; exact R.w
 simp_arith only [m_wait_once_more,R.st hy,hg,hs,hw]
 have R1:=R.standSet hy (once s y.phase)
 rw [once_V hl] at R1
 exact q _ R1
noncomputable def againM (p:Nat):Vbcnad.Phase→Vbcnad.Msg
 | .looking n i h _ _=>.hello p n i h
 | .checking n _ _ c x _ _ _=>.answer n c x
 | _=>.over 0
inductive sp_send_once_more (K:W.Frag) (T:Tb) (vs:List V) (H:Hp) (Q:VK) (E0:XK):Prop | mk (loc F s p y) (_:vs=[.ref (loc .W),.int (p:Nat),.ref (loc (.st p))]) (_:Rep T loc F H s) (_:s.ports[p]? = some y) (_:(kd y.phase=2∨kd y.phase=4)) (_:s.cfg.bag≤1024) (_:∀ H',Rep T loc F H' (Vbcnad.send s (againM p y.phase))→Q .non H')
noncomputable def m_send_once_more (K:W.Frag) (T:Tb):MB:=(.cons (.if_ (.cmp .Eq rEq (.fld (.var 2) "kind" 0 0) (.glo "LOOKING" (.int 2))) (.cons (.expr (.call "send" (sp_send K T) (.cons (.var 0) (.cons (.tup (.cons (.glo "HELLO" (.int 0)) (.cons (.var 1) (.cons (.fld (.var 2) "n" 0 3) (.cons (.fld (.var 2) "who" 0 4) (.cons (.fld (.var 2) "host" 0 5) .nil)))))) .nil))))
  .nil) (.cons (.expr (.call "send" (sp_send K T) (.cons (.var 0) (.cons (.tup (.cons (.glo "ANSWER" (.int 1)) (.cons (.fld (.var 2) "n" 0 3) (.cons (.fld (.var 2) "challenge" 0 6) (.cons (.fld (.var 2) "x" 0 7) .nil))))) .nil))))
  .nil))
  .nil)
theorem w_send_once_more {K:W.Frag} {T:Tb}:Wk K T (sp_send_once_more K T) (m_send_once_more K T) ["world","place","stand"]:=by
 intro vs H Q E h
 obtain ⟨loc,F,s,p,y,rfl,R,hy,hk,hb,q⟩:=h
 have e1:=R.st hy
 cases hph:y.phase <;> rw [hph] at hk q e1 <;> simp only [kd] at hk <;> first | (exact absurd hk (by decide)) | skip
 ·simp only [phV,kd,du,lf,nn,wh,hh,cc,xx,ft] at e1
  simp_arith [m_send_once_more,e1,sz5]
  intro t ht
  exact ⟨loc,F,s,_,t,rfl,R.junk ht,hb,jaa,fun H1 R1 _=>q _ R1⟩
 ·simp only [phV,kd,du,lf,nn,wh,hh,cc,xx,ft] at e1
  simp_arith [m_send_once_more,e1,sz4]
  intro t ht
  exact ⟨loc,F,s,_,t,rfl,R.junk ht,hb,jaa,fun H1 R1 _=>q _ R1⟩
inductive sp_due_asking (K:W.Frag) (T:Tb) (vs:List V) (H:Hp) (Q:VK) (E0:XK):Prop | mk (loc F s p y l d) (_:vs=[.ref (loc .W),.ref (loc (.po p))]) (_:Rep T loc F H s) (_:s.ports[p]? = some y) (_:y.phase=.asking l d) (_:Bd s) (_:PostS T loc F Q (if 0 < l then Vbcnad.phaseAt s p (.asking (l - 1) (s.now+s.cfg.wait)) else askEnd s p y))
noncomputable def m_due_asking (K:W.Frag) (T:Tb):MB:=(.cons (.if_ (.cmp .Gt (rI0 fun i j=>.bl (decide (j < i))) (.fld (.fld (.var 1) "stand" 1 0) "left" 0 2) (.int 0)) (.cons (.expr (.call "wait_once_more" (sp_wait_once_more K T) (.cons (.var 0) (.cons (.fld (.var 1) "stand" 1 0) .nil))))
  .nil) (.cons (.expr (.call "end_asking" (sp_end_asking K T) (.cons (.var 0) (.cons (.var 1) .nil))))
  .nil))
  .nil)
theorem w_due_asking {K:W.Frag} {T:Tb}:Wk K T (sp_due_asking K T) (m_due_asking K T) ["world","port"]:=by
 intro vs H Q E h
 obtain ⟨loc,F,s,p,y,l,d,rfl,R,hy,hph,B,q⟩:=h
 have el:lf y.phase=(l:Int):=by rw [hph]; rfl
 simp_arith only [m_due_asking,R.po hy,R.st hy,el]
 by_cases hl:0 < l
 ·rw [if_pos (by omega)]
  rw [if_pos hl] at q
  refine ⟨loc,F,s,p,y,rfl,R,hy,by rw [el]; omega,fun H1 R1=>?_⟩
  rw [hph] at R1
  exact q _ _ Lk.rfl' R1
 ·rw [if_neg (by omega)]
  rw [if_neg hl] at q
  exact ⟨loc,F,s,p,y,rfl,R,hy,B,q⟩
inductive sp_due_sending (K:W.Frag) (T:Tb) (vs:List V) (H:Hp) (Q:VK) (E0:XK):Prop | mk (loc F s p y) (_:vs=[.ref (loc .W),.int (p:Nat),.ref (loc (.po p))]) (_:Rep T loc F H s) (_:s.ports[p]? = some y) (_:(kd y.phase=2∨kd y.phase=4)) (_:Bd s) (_:PostS T loc F Q (if 0 < lf y.phase then Vbcnad.send (Vbcnad.phaseAt s p (once s y.phase)) (againM p (once s y.phase)) else Vbcnad.given s p))
noncomputable def m_due_sending (K:W.Frag) (T:Tb):MB:=(.cons (.if_ (.cmp .Gt (rI0 fun i j=>.bl (decide (j < i))) (.fld (.fld (.var 2) "stand" 1 0) "left" 0 2) (.int 0)) (.cons (.expr (.call "wait_once_more" (sp_wait_once_more K T) (.cons (.var 0) (.cons (.fld (.var 2) "stand" 1 0) .nil))))
  (.cons (.expr (.call "send_once_more" (sp_send_once_more K T) (.cons (.var 0) (.cons (.var 1) (.cons (.fld (.var 2) "stand" 1 0) .nil)))))
  .nil)) (.cons (.expr (.call "come_to_nothing" (sp_come_to_nothing K T) (.cons (.var 0) (.cons (.var 2) .nil))))
  .nil))
  .nil)
theorem w_due_sending {K:W.Frag} {T:Tb}:Wk K T (sp_due_sending K T) (m_due_sending K T) ["world","place","port"]:=by
 intro vs H Q E h
 obtain ⟨loc,F,s,p,y,rfl,R,hy,hk,B,q⟩:=h
 simp_arith only [m_due_sending,R.po hy,R.st hy]
 by_cases hl:0 < lf y.phase
 ·rw [if_pos hl]
  rw [if_pos hl] at q
  refine ⟨loc,F,s,p,y,rfl,R,hy,hl,fun H1 R1=>?_⟩
  have hy1:(Vbcnad.phaseAt s p (once s y.phase)).ports[p]? = some { y with phase:=once s y.phase }:=jaj hy
  simp_arith [R1.po hy1]
  refine ⟨loc,F,_,p,_,rfl,R1,hy1,?_,B.cb,fun H2 R2=>q _ _ Lk.rfl' R2⟩
  show kd (once s y.phase)=2∨kd (once s y.phase)=4
  cases hph:y.phase <;> rw [hph] at hk <;> simp only [kd] at hk <;> simp [once,kd] at hk ⊢
 ·rw [if_neg hl]
  rw [if_neg hl] at q
  exact ⟨loc,F,s,p,y,rfl,R,hy,fun H1 d R1=>q _ _ Lk.st R1⟩
noncomputable def dueOf (y:Vbcnad.Port):Int:=match y.phase,y.sess with
 | .inside,some x=>x.again
 | ph,_=>du ph
inductive sp_due_of (K:W.Frag) (T:Tb) (vs:List V) (H:Hp) (Q:VK) (E0:XK):Prop | mk (loc F s p y) (_:vs=[.ref (loc (.po p))]) (_:Rep T loc F H s) (_:s.ports[p]? = some y) (_:(y.phase=.inside→y.sess≠none)) (_:Q (.int (dueOf y)) H)
noncomputable def m_due_of (K:W.Frag) (T:Tb):MB:=(.cons (.if_ (.cmp .Eq rEq (.fld (.fld (.var 0) "stand" 1 0) "kind" 0 0) (.glo "INSIDE" (.int 7))) (.cons (.ret (.fld (.fld (.var 0) "session" 1 1) "again" 2 5))
  .nil) .nil)
  (.cons (.ret (.fld (.fld (.var 0) "stand" 1 0) "due" 0 1))
  .nil))
theorem w_due_of {K:W.Frag} {T:Tb}:Wk K T (sp_due_of K T) (m_due_of K T) ["port"]:=by
 intro vs H Q E h
 obtain ⟨loc,F,s,p,y,rfl,R,hy,hin,q⟩:=h
 simp_arith only [m_due_of,R.po hy,R.st hy,kd_inside]
 by_cases h7:y.phase=.inside
 ·rw [if_pos h7]
  obtain ⟨x,hx⟩:=Option.ne_none_iff_exists'.mp (hin h7)
  simp_arith only [hx,soV,R.se hy hx]
  unfold dueOf at q
  rw [h7,hx] at q
  exact q
 ·rw [if_neg h7]
  unfold dueOf at q
  cases hph:y.phase <;> rw [hph] at q h7 <;> first | exact absurd rfl h7 | exact q
noncomputable def looks1 (s:VS) (p:Nat):VS:=match (Vbcnad.portAt s p).sess with
 | some x=>if x.until_≤s.now then Vbcnad.putOut s p else s
 | none=>s
noncomputable def looks2 (s:VS) (p:Nat):VS:=match (Vbcnad.portAt s p).phase with
 | .asking left due =>
  if s.now < due then s
  else if 0 < left then Vbcnad.phaseAt s p (.asking (left - 1) (s.now+s.cfg.wait))
  else if (Vbcnad.portAt s p).sess.isSome=true then Vbcnad.denied s p
  else if (Vbcnad.portAt s p).guest=0 then Vbcnad.phaseAt s p (Vbcnad.heldAt s) else Vbcnad.phaseAt s p .guest
 | .looking n id hw left due =>
  if s.now < due then s
  else if 0 < left then Vbcnad.send (Vbcnad.phaseAt s p (.looking n id hw (left - 1) (s.now+s.cfg.wait))) (.hello p n id hw)
  else Vbcnad.given s p
 | .challenged _ _ _ _ due=>if s.now < due then s else Vbcnad.denied s p
 | .checking n id hw c x sent left due =>
  if s.now < due then s
  else if 0 < left then Vbcnad.send (Vbcnad.phaseAt s p (.checking n id hw c x sent (left - 1) (s.now+s.cfg.wait))) (.answer n c x)
  else Vbcnad.given s p
 | .held due=>if s.now < due then s else Vbcnad.phaseAt s p (Vbcnad.askingAt s)
 | .inside=>match (Vbcnad.portAt s p).sess with
  | some x=>if s.now < x.again then s else Vbcnad.phaseAt s p (Vbcnad.askingAt s)
  | none=>s
 | _=>s
theorem jay (s:VS) (p:Nat):Vbcnad.looks s p=looks2 (looks1 s p) p:=rfl
section
variable {s:VS} {p q:Nat} {y:Vbcnad.Port}
theorem putOut_same (hy:s.ports[p]? = some y):(Vbcnad.putOut s p).ports[p]? = some { y with sess:=none,phase:=if y.phase=.inside then Vbcnad.askingAt s else y.phase }:=by
 unfold Vbcnad.putOut
 have h1:=jap hy
 simp only [jac h1]
 by_cases h:y.phase=.inside
 ·rw [if_pos h,if_pos h]
  have:=jaj (f:=fun y:Vbcnad.Port=>{ y with phase:=Vbcnad.askingAt (Vbcnad.endAt s p) }) h1
  rw [ja0] at this
  rw [ja0]; exact this
 ·rw [if_neg h,if_neg h]; exact h1
theorem jb9:(looks1 s p).cfg=s.cfg:=by
 unfold looks1; split
 ·split
  ·exact jb6
  ·rfl
 ·rfl
theorem looks1_now:(looks1 s p).now=s.now:=by
 unfold looks1; split
 ·split
  ·exact putOut_now
  ·rfl
 ·rfl
theorem jbq:(looks1 s p).ports.length=s.ports.length:=by
 unfold looks1; split
 ·split
  ·exact jav
  ·rfl
 ·rfl
theorem jct:(looks1 s p).ended.length≤s.ended.length+1:=by
 unfold looks1; split
 ·split
  ·exact jbm
  ·omega
 ·omega
theorem looks1_other (h:q≠p):(looks1 s p).ports[q]? = s.ports[q]? := by
 unfold looks1; split
 ·split
  ·exact jbe h
  ·rfl
 ·rfl
theorem looks1_same (hy:s.ports[p]? = some y) (hin:y.phase=.inside→y.sess≠none):∃ z,(looks1 s p).ports[p]? = some z∧(z.phase=.inside→z.sess≠none):=by
 unfold looks1
 rw [jac hy]
 cases hx:y.sess with
 | none=>exact ⟨y,hy,hin⟩
 | some x =>
  simp only []
  split
  ·refine ⟨_,putOut_same hy,?_⟩
   simp only []
   split
   ·intro h; unfold Vbcnad.askingAt at h; cases h
   ·intro h; contradiction
  ·exact ⟨y,hy,hin⟩
theorem onPort_other {f:Vbcnad.Port→Vbcnad.Port} (h:q≠p):(Vbcnad.onPort s p f).ports[q]? = s.ports[q]? := ch_ne h
theorem onPort_plen {f:Vbcnad.Port→Vbcnad.Port}:(Vbcnad.onPort s p f).ports.length=s.ports.length:=ch_len
noncomputable def Lft (s t:VS) (p:Nat):Prop:=t.cfg=s.cfg∧t.now=s.now∧t.ports.length=s.ports.length∧t.ended.length≤s.ended.length+1∧∀ q,q≠p→t.ports[q]? = s.ports[q]?
theorem Lft.rfl':Lft s s p:=⟨rfl,rfl,rfl,by omega,fun _ _=>rfl⟩
theorem Lft.phase {ph:Vbcnad.Phase}:Lft s (Vbcnad.phaseAt s p ph) p:=⟨rfl,rfl,ch_len,by show s.ended.length≤_; omega,fun _ h=>ch_ne h⟩
theorem Lft.denied:Lft s (Vbcnad.denied s p) p:=⟨jaw,jbf,ch_len.trans jcb,jcc,fun _ h=>(ch_ne h).trans (jbs h)⟩
theorem send_now {m:Vbcnad.Msg}:(Vbcnad.send s m).now=s.now:=by unfold Vbcnad.send; split <;> rfl
theorem Lft.send {t:VS} {m:Vbcnad.Msg} (h:Lft s t p):Lft s (Vbcnad.send t m) p:=by
 obtain ⟨h1,h2,h3,h4,h5⟩:=h
 exact ⟨send_cfg.trans h1,send_now.trans h2,by rw [jbj]; exact h3,by rw [send_ended]; exact h4,fun q hq=>by rw [jbj]; exact h5 q hq⟩
theorem Lft.given:Lft s (Vbcnad.given s p) p:=by
 unfold Vbcnad.given
 split
 ·exact ⟨rfl,rfl,ch_len,by show s.ended.length≤_; omega,fun _ h=>ch_ne h⟩
 ·exact Lft.phase
theorem ja7:Lft s (looks2 s p) p:=by
 unfold looks2
 split
 ·split
  ·exact .rfl'
  ·split
   ·exact .phase
   ·split
    ·exact .denied
    ·split <;> exact .phase
 ·split
  ·exact .rfl'
  ·split
   ·exact .send .phase
   ·exact .given
 ·split
  ·exact .rfl'
  ·exact .denied
 ·split
  ·exact .rfl'
  ·split
   ·exact .send .phase
   ·exact .given
 ·split
  ·exact .rfl'
  ·exact .phase
 ·split
  ·split
   ·exact .rfl'
   ·exact .phase
  ·exact .rfl'
 ·exact .rfl'
theorem looks_other (h:q≠p):(Vbcnad.looks s p).ports[q]? = s.ports[q]? := by
 rw [jay,ja7.2.2.2.2 q h,looks1_other h]
theorem looks_cfg:(Vbcnad.looks s p).cfg=s.cfg:=by rw [jay,ja7.1,jb9]
theorem looks_now:(Vbcnad.looks s p).now=s.now:=by rw [jay,ja7.2.1,looks1_now]
theorem looks_plen:(Vbcnad.looks s p).ports.length=s.ports.length:=by rw [jay,ja7.2.2.1,jbq]
theorem looks_elen:(Vbcnad.looks s p).ended.length≤s.ended.length+2:=by
 rw [jay]
 have h1:=(ja7 (s:=looks1 s p) (p:=p)).2.2.2.1
 have h2:=jct (s:=s) (p:=p)
 omega
end
inductive sp_look_at (K:W.Frag) (T:Tb) (vs:List V) (H:Hp) (Q:VK) (E0:XK):Prop | mk (loc F s p y) (_:vs=[.ref (loc .W),.int (p:Nat),.ref (loc (.po p))]) (_:Rep T loc F H s) (_:s.ports[p]? = some y) (_:(y.phase=.inside→y.sess≠none)) (_:s.ports.length≤64) (_:s.ended.length≤900000) (_:1≤s.cfg.tries) (_:s.cfg.bag≤1024) (_:PostS T loc F Q (Vbcnad.looks s p))
noncomputable def m_look_at (K:W.Frag) (T:Tb):MB:=(.cons (.if_ (.bol true (.cmp .IsNot rNotN (.fld (.var 2) "session" 1 1) .non) (.cons (.cmp .LtE (rI0 fun i j=>.bl (decide (i≤j))) (.fld (.fld (.var 2) "session" 1 1) "until" 2 4) (.fld (.var 0) "now" 7 10)) .nil)) (.cons (.expr (.call "put_out" (sp_put_out K T) (.cons (.var 0) (.cons (.var 2) .nil))))
  .nil) .nil)
  (.cons (.if_ (.cmp .Gt (rI0 fun i j=>.bl (decide (j < i))) (.call "due_of" (sp_due_of K T) (.cons (.var 2) .nil)) (.fld (.var 0) "now" 7 10)) (.cons .retN
  .nil) .nil)
  (.cons (.set 3 (.fld (.fld (.var 2) "stand" 1 0) "kind" 0 0))
  (.cons (.if_ (.cmp .Eq rEq (.var 3) (.glo "ASKING" (.int 1))) (.cons (.expr (.call "due_asking" (sp_due_asking K T) (.cons (.var 0) (.cons (.var 2) .nil))))
  .nil) (.cons (.if_ (.cmp .In rInU (.var 3) (.tup (.cons (.glo "LOOKING" (.int 2)) (.cons (.glo "CHECKING" (.int 4)) .nil)))) (.cons (.expr (.call "due_sending" (sp_due_sending K T) (.cons (.var 0) (.cons (.var 1) (.cons (.var 2) .nil)))))
  .nil) (.cons (.if_ (.cmp .Eq rEq (.var 3) (.glo "CHALLENGED" (.int 3))) (.cons (.expr (.call "deny" (sp_deny K T) (.cons (.var 0) (.cons (.var 2) .nil))))
  .nil) (.cons (.if_ (.cmp .In rInU (.var 3) (.tup (.cons (.glo "HELD" (.int 5)) (.cons (.glo "INSIDE" (.int 7)) .nil)))) (.cons (.expr (.call "ask_anew" (sp_ask_anew K T) (.cons (.var 0) (.cons (.var 2) .nil))))
  .nil) .nil)
  .nil))
  .nil))
  .nil))
  .nil))))
noncomputable abbrev N_look_at:List Str:=["world", "place", "port", "kind"]
noncomputable def headB:MB→MS
 | .cons s _=>s
 | .nil=>.pass
noncomputable def tailB:MB→MB
 | .cons _ b=>b
 | .nil=>.nil
theorem look_rest {K:W.Frag} {T:Tb} {loc loc1:Lo} {F H1:Hp} {s1:VS} {p:Nat} {z:Vbcnad.Port} {Q:VK} (hk:Lk loc loc1) (R:Rep T loc1 F H1 s1) (hz:s1.ports[p]? = some z) (hin:z.phase=.inside→z.sess≠none) (B:Bd s1) (q:PostS T loc F Q (looks2 s1 p)) :
  (tailB (m_look_at K T)).wp K T { nx:=fun _ H'=>Q .non H',rt:=Q } [some (.ref (loc .W)),some (.int p),some (.ref (loc (.po p))),none] H1:=by
 rw [← hk.1,← hk.2.2 p]
 unfold looks2 at q
 rw [jac hz] at q
 have hel:=B.el
 simp_arith only [m_look_at,tailB]
 refine ⟨loc1,F,s1,p,z,rfl,R,hz,hin,?_⟩
 simp_arith only [R.w,R.po hz,R.st hz,inV2,two_sz,HO.tup.injEq]
 have fr:∀ (t:Addr) (o:HO),H1 t=none→Rep T loc1 F (upd H1 t o) s1:=fun t o ht=>R.junk ht
 have qq:∀ H' loc',Lk loc1 loc'→Rep T loc' F H' (looks2 s1 p)→Q .non H':=fun H' l h R'=>by
  refine q H' l (hk.trans h) ?_
  unfold looks2 at R'
  rw [jac hz] at R'
  exact R'
 unfold looks2 at qq
 rw [jac hz] at qq
 by_cases h7:z.phase=.inside
 ·obtain ⟨x,hx⟩:=Option.ne_none_iff_exists'.mp (hin h7)
  have ed:dueOf z=(x.again:Int):=by unfold dueOf; rw [h7,hx]
  have ek:kd z.phase=7:=by rw [h7]; rfl
  rw [ed,ek]
  rw [h7] at qq
  simp only [hx] at qq
  by_cases h:s1.now < x.again
  ·rw [if_pos (by omega)]
   simp only [if_pos h] at qq
   exact qq _ _ Lk.rfl' R
  ·rw [if_neg (by omega)]
   simp only [if_neg h] at qq
   rw [if_neg (by decide)]
   intro t ht
   rw [if_neg (by decide),if_neg (by decide)]
   intro t2 ht2
   rw [if_pos (by decide)]
   exact ⟨loc1,F,s1,p,z,rfl,(fr t _ ht).junk ht2,hz,B.ct,fun H2 d R2=>qq _ _ Lk.st R2⟩
 cases hph:z.phase <;> rw [hph] at qq <;> simp_arith only [dueOf,hph,du,kd] at ⊢
 case down =>
  by_cases h:(s1.now:Int) < 0
  ·omega
  ·rw [if_neg h]
   exact fun t ht t2 ht2=>qq _ _ Lk.rfl' ((fr t _ ht).junk ht2)
 case guest =>
  by_cases h:(s1.now:Int) < 0
  ·omega
  ·rw [if_neg h]
   exact fun t ht t2 ht2=>qq _ _ Lk.rfl' ((fr t _ ht).junk ht2)
 case asking l d =>
  by_cases h:s1.now < d
  ·rw [if_pos (by omega)]
   simp only [if_pos h] at qq
   exact qq _ _ Lk.rfl' R
  ·rw [if_neg (by omega)]
   simp only [if_neg h] at qq
   exact ⟨loc1,F,s1,p,z,l,d,rfl,R,hz,hph,B,qq⟩
 case looking n i h' l d =>
  by_cases h:s1.now < d
  ·rw [if_pos (by omega)]
   simp only [if_pos h] at qq
   exact qq _ _ Lk.rfl' R
  ·rw [if_neg (by omega)]
   simp only [if_neg h] at qq
   intro t ht
   refine ⟨loc1,F,s1,p,z,rfl,fr t _ ht,hz,.inl (by rw [hph]; rfl),B,?_⟩
   rw [hph]
   by_cases hl:0 < l
   ·rw [if_pos (show (0:Int) < lf (.looking n i h' l d) by show (0:Int) < (l:Int); omega)]
    simp only [if_pos hl] at qq
    exact qq
   ·rw [if_neg (show ¬ (0:Int) < lf (.looking n i h' l d) by show ¬ (0:Int) < (l:Int); omega)]
    simp only [if_neg hl] at qq
    exact qq
 case challenged n i h' c d =>
  by_cases h:s1.now < d
  ·rw [if_pos (by omega)]
   simp only [if_pos h] at qq
   exact qq _ _ Lk.rfl' R
  ·rw [if_neg (by omega)]
   simp only [if_neg h] at qq
   intro t ht
   exact ⟨loc1,F,s1,p,z,rfl,fr t _ ht,hz,by omega,fun H2 d R2=>qq _ _ Lk.st R2⟩
 case checking n i h' c x t' l d =>
  by_cases h:s1.now < d
  ·rw [if_pos (by omega)]
   simp only [if_pos h] at qq
   exact qq _ _ Lk.rfl' R
  ·rw [if_neg (by omega)]
   simp only [if_neg h] at qq
   intro t ht
   refine ⟨loc1,F,s1,p,z,rfl,fr t _ ht,hz,.inr (by rw [hph]; rfl),B,?_⟩
   rw [hph]
   by_cases hl:0 < l
   ·rw [if_pos (show (0:Int) < lf (.checking n i h' c x t' l d) by show (0:Int) < (l:Int); omega)]
    simp only [if_pos hl] at qq
    exact qq
   ·rw [if_neg (show ¬ (0:Int) < lf (.checking n i h' c x t' l d) by show ¬ (0:Int) < (l:Int); omega)]
    simp only [if_neg hl] at qq
    exact qq
 case held d =>
  by_cases h:s1.now < d
  ·rw [if_pos (by omega)]
   simp only [if_pos h] at qq
   exact qq _ _ Lk.rfl' R
  ·rw [if_neg (by omega)]
   simp only [if_neg h] at qq
   intro t ht t2 ht2
   exact ⟨loc1,F,s1,p,z,rfl,(fr t _ ht).junk ht2,hz,B.ct,fun H2 d R2=>qq _ _ Lk.st R2⟩
 case inside=>exact absurd hph h7
theorem w_look_at {K:W.Frag} {T:Tb}:Wk K T (sp_look_at K T) (m_look_at K T) N_look_at:=by
 intro vs H Q E h
 obtain ⟨loc,F,s,p,y,rfl,R,hy,hin,hl,he,ht,hb,q⟩:=h
 rw [jay] at q
 obtain ⟨z,hz,hzin⟩:=looks1_same hy hin
 have B1:Bd (looks1 s p):=⟨by rw [jbq]; exact hl,by have:=jct (s:=s) (p:=p); omega,by rw [jb9]; exact ht,by rw [jb9]; exact hb⟩
 show (headB (m_look_at K T)).wp K T { nx:=(tailB (m_look_at K T)).wp K T { nx:=fun _ H'=>Q .non H',rt:=Q },rt:=Q } (L2.start N_look_at [.ref (loc .W),.int p,.ref (loc (.po p))]) H
 have rest:∀ H1 loc1,Lk loc loc1→Rep T loc1 F H1 (looks1 s p)→(tailB (m_look_at K T)).wp K T { nx:=fun _ H'=>Q .non H',rt:=Q } [some (.ref (loc .W)),some (.int p),some (.ref (loc (.po p))),none] H1:=fun H1 l1 hk R1=>look_rest hk R1 hz hzin B1 q
 generalize (tailB (m_look_at K T)).wp K T { nx:=fun _ H'=>Q .non H',rt:=Q }=N at rest ⊢
 unfold looks1 at rest
 rw [jac hy] at rest
 simp_arith only [m_look_at,headB,R.po hy,R.w]
 cases hx:y.sess with
 | none =>
  rw [hx] at rest
  exact rest _ _ Lk.rfl' R
 | some x =>
  rw [hx] at rest
  simp_arith only [soV,decide_false,Bool.not_false,R.se hy hx]
  by_cases hu:x.until_≤s.now
  ·rw [if_pos (by omega)]
   simp only [if_pos hu] at rest
   exact ⟨loc,F,s,p,y,rfl,R,hy,by omega,ht,fun H1 l1 hk R1=>rest _ _ hk R1⟩
  ·rw [if_neg (by omega)]
   simp only [if_neg hu] at rest
   exact rest _ _ Lk.rfl' R
noncomputable def askI (s:VS) (i:Nat):List Vbcnad.Ask:=((s.asks.take i).filter fun a=>decide (s.now < a.over)) ++ s.asks.drop i
inductive sp_forget (K:W.Frag) (T:Tb) (vs:List V) (H:Hp) (Q:VK) (E0:XK):Prop | mk (loc F s) (_:vs=[.ref (loc .W)]) (_:Rep T loc F H s) (_:(s.asks.map (·.n)).Nodup) (_:s.opened.length≤1000000) (_:PostS T loc F Q { s with asks:=s.asks.filter fun a=>decide (s.now < a.over),opened:=s.opened.filter fun o=>decide (s.now < o.over) })
theorem askI_get {s:VS} {i:Nat} {a:Vbcnad.Ask} (h:s.asks[i]? = some a):askI s i=((s.asks.take i).filter fun a=>decide (s.now < a.over)) ++ a :: s.asks.drop (i+1):=by
 unfold askI
 congr 1
 exact List.drop_eq_getElem?_toList_append .. |>.trans (by rw [h]; rfl)
noncomputable def m_forget (K:W.Frag) (T:Tb):MB:=(.cons (.for_ (.name 1) (.list (.bty "list" "list" rListD (.cons (.fld (.var 0) "known" 7 17) .nil))) (.cons (.if_ (.cmp .LtE (rI0 fun i j=>.bl (decide (i≤j))) (.fld (.dget (.fld (.var 0) "known" 7 17) (.var 1)) "forgotten" 5 4) (.fld (.var 0) "now" 7 10)) (.cons (.expr (.dpop (.fld (.var 0) "known" 7 17) (.var 1)))
  .nil) .nil)
  .nil))
  (.cons (.fset (.var 0) "begun" 7 18 (.lc (.var 2) (.name 2) (.list (.fld (.var 0) "begun" 7 18)) (.cons (.cmp .Gt (rI0 fun i j=>.bl (decide (j < i))) (.fld (.var 2) "over" 6 4) (.fld (.var 0) "now" 7 10)) .nil) [("begun",2)]))
  .nil))
theorem w_forget {K:W.Frag} {T:Tb}:Wk K T (sp_forget K T) (m_forget K T) ["world","n","begun"]:=by
 intro vs H Q E h
 obtain ⟨loc,F,s,rfl,R,hn,hol,q⟩:=h
 have kd:=R.kd
 simp_arith only [m_forget,R.w,kd,HO.dK.injEq]
 intro l hl
 have R1:=R.new (o:=.lst ((s.asks.map (akv loc)).map fun x=>kV x.1)) hl
 have hF:=R.free hl
 have ek:(s.asks.map (akv loc)).map (fun x=>kV x.1)=s.asks.map fun a=>V.int (a.n:Int):=by rw [List.map_map]; rfl
 rw [ek] at R1
 simp only [List.map_map,Function.comp_def]
 have hlst:=R1.ownH
 have lne:loc .KD≠l:=R1.off l _ jaa .KD trivial
 generalize upd H l _=H1 at R1 hlst ⊢
 refine ⟨⟨_,.inl (.inl hlst)⟩,?_⟩
 refine forL (K:=K) (a:=l) (xs:=s.asks.map fun a=>V.int (a.n:Int))
  (fun i σ H'=>Rep T loc (upd F l (.lst (s.asks.map fun a=>V.int (a.n:Int)))) H' { s with asks:=askI s i }∧∃ v w,σ=[some (.ref (loc .W)),v,w])
  ⟨R1,none,none,rfl⟩ (fun i σ H' _ ⟨R',_⟩=>.inl (.inl R'.ownH)) ?_ ?_
 ·rintro i v σ H' hi ⟨R2,w1,w2,rfl⟩
  rw [List.getElem?_map] at hi
  obtain ⟨a,ha,rfl⟩:=Option.map_eq_some_iff.mp hi
  have eA:=askI_get ha
  have ham:a ∈ ({ s with asks:=askI s i }:VS).asks:=by show a ∈ askI s i; rw [eA]; simp
  have hnd:∀ z ∈ s.asks.take i,z.n≠a.n:=fun z hz e=>by
   obtain ⟨j,hj,rfl⟩:=List.mem_iff_getElem.mp hz
   rw [List.length_take] at hj
   rw [List.getElem_take] at e
   have:=nd_ix hn (i:=j) (j:=i) (x:=a.n) (by rw [List.getElem?_map,List.getElem?_eq_getElem (by omega)]; simp [e]) (by rw [List.getElem?_map,ha]; rfl)
   omega
  have hnd2:∀ z ∈ s.asks.drop (i+1),z.n≠a.n:=fun z hz e=>by
   obtain ⟨j,hj,rfl⟩:=List.mem_iff_getElem.mp hz
   rw [List.length_drop] at hj
   rw [List.getElem_drop] at e
   have:=nd_ix hn (i:=i+1+j) (j:=i) (x:=a.n) (by rw [List.getElem?_map,List.getElem?_eq_getElem (by omega)]; simp [e]) (by rw [List.getElem?_map,ha]; rfl)
   omega
  have hfind:(askI s i).find? (fun z=>z.n == a.n)=some a:=by
   rw [eA,List.find?_append,List.find?_eq_none.mpr (fun z hz=>by simpa using hnd z (List.mem_filter.mp hz).1)]
   simp
  have kd2:=R2.kd
  have kd2:H' (loc .KD)=some (.dK ((askI s i).map (akv loc))):=kd2
  have hv:valV ((askI s i).map (akv loc)) (Sum.inl (a.n:Int))=some (.ref (loc (.ak a.n))):=by rw [ak_val,hfind]; rfl
  obtain ⟨d,g,_⟩:=R2.ak ham
  simp_arith only [R2.w]
  refine ⟨_,jbg kd2 hv,?_⟩
  simp_arith only [g]
  by_cases ho:a.over≤s.now
  ·rw [if_pos (by omega)]
   refine ⟨.inl ⟨_,.inl kd2⟩,_,kd2,Sum.inl (a.n:Int),rfl,_,hv,?_⟩
   have R3:Rep T loc _ _ { s with asks:=(askI s i).filter fun z=>z.n != a.n }:=R2.askDrop a.n
   have:(askI s i).filter (fun z=>z.n != a.n)=askI s (i+1):=by
    rw [eA,List.filter_append,List.filter_cons]
    rw [if_neg (by simp)]
    unfold askI
    congr 1
    ·rw [List.filter_eq_self.mpr (fun z hz=>by simpa using hnd z (List.mem_filter.mp hz).1),take1 ha,List.filter_append]
     simp; omega
    ·exact List.filter_eq_self.mpr (fun z hz=>by simpa using hnd2 z hz)
   rw [this] at R3
   exact R3
  ·rw [if_neg (by omega)]
   have:askI s (i+1)=askI s i:=by
    rw [eA]
    unfold askI
    rw [take1 ha,List.filter_append,List.append_assoc]
    congr 1
    rw [List.filter_cons,if_pos (decide_eq_true (by omega))]; rfl
   rw [this]; exact R2
 ·rintro σ H2 ⟨R2,w1,w2,rfl⟩
  have eI:askI s (s.asks.map fun a=>V.int (a.n:Int)).length=s.asks.filter fun a=>decide (s.now < a.over):=by
   unfold askI; simp
  rw [eI] at R2
  have R2:=R2.drop hF
  obtain ⟨bs,eb,b1,b2⟩:=R2.cell .GL
  have eb:bs.map (·.2)=s.opened:=eb
  have hbl:bs.length=s.opened.length:=by rw [← eb,List.length_map]
  have hz:=szl
  simp_arith [R2.w]
  refine ⟨⟨_,.inl (.inl b1)⟩,fun D hD=>?_⟩
  refine lcL (K:=K) (a:=loc .GL) (xs:=bs.map fun x=>V.ref x.1)
   (fun i H'=>Same H2 H'∧H' D=some (.lst (((bs.take i).filter fun x=>decide (s.now < x.2.over)).map fun x=>V.ref x.1)))
   ⟨Same.fresh hD,jaa⟩ (fun i H' _ ⟨e,_⟩=>.inl (.inl (e _ _ b1))) ?_ ?_
  ·rintro i v H' hi ⟨e1,hacc⟩
   rw [List.getElem?_map] at hi
   obtain ⟨x,hx,rfl⟩:=Option.map_eq_some_iff.mp hi
   have hx1:=(Kp.same (T:=T) e1).o _ _ (b2 x (List.mem_of_getElem? hx))
   have R3:=R2.grow e1
   simp_arith only [hx1,hacc,R3.w,HO.lst.injEq,List.length_map]
   have hle:((bs.take i).filter fun x=>decide (s.now < x.2.over)).length≤1000000:=by
    refine Nat.le_trans (List.length_filter_le _ _) ?_
    rw [List.length_take]; omega
   by_cases hc:s.now < x.2.over
   ·rw [if_pos (by omega)]
    refine ⟨by omega,fun b o h=>?_,?_⟩
    ·rw [upd_ne (jab h hD)]; exact e1 _ _ h
    ·rw [take1 hx,List.filter_append,List.map_append,List.filter_cons,if_pos (by simp [hc])]; rfl
   ·rw [if_neg (by omega)]
    refine ⟨e1,?_⟩
    rw [take1 hx,List.filter_append,List.filter_cons,if_neg (by simp [hc])]; simp
  ·rintro H' ⟨e1,hacc⟩
   rw [List.take_of_length_le (by simp)] at hacc
   have R4:=(R2.grow e1).adopt hacc (fun r hu=>R2.ne_new hD hu)
   have e4:=R4.w
   have R5:=R4.begNew (R2.free hD) (fun x hx=>(Kp.same (T:=T) e1).o _ _ (b2 x (List.mem_filter.mp hx).1))
   have ef:(bs.filter fun x=>decide (s.now < x.2.over)).map (·.2)=s.opened.filter fun o=>decide (s.now < o.over):=by
    rw [← eb,List.filter_map]; rfl
   rw [ef] at R5
   simp_arith only [and_assoc] at e4 R5
   simp_arith [e4]
   exact q _ _ Lk.gl R5
inductive sp_tick (K:W.Frag) (T:Tb) (vs:List V) (H:Hp) (Q:VK) (E0:XK):Prop | mk (loc F s n) (_:vs=[.ref (loc .W),.int n]) (_:Pre T loc F H s) (_:Post T loc F Q (Vbcnad.doing s (.tick n)))
theorem jcj:∀ {i:Nat} {s:VS},((List.range i).foldl Vbcnad.looks s).ports.length=s.ports.length
 | 0,_=>rfl
 | i+1,s=>by rw [List.range_succ,List.foldl_append]; exact looks_plen.trans jcj
theorem lks_cfg:∀ {i:Nat} {s:VS},((List.range i).foldl Vbcnad.looks s).cfg=s.cfg
 | 0,_=>rfl
 | i+1,s=>by rw [List.range_succ,List.foldl_append]; exact looks_cfg.trans lks_cfg
theorem lks_now:∀ {i:Nat} {s:VS},((List.range i).foldl Vbcnad.looks s).now=s.now
 | 0,_=>rfl
 | i+1,s=>by rw [List.range_succ,List.foldl_append]; exact looks_now.trans lks_now
theorem lks_elen:∀ {i:Nat} {s:VS},((List.range i).foldl Vbcnad.looks s).ended.length≤s.ended.length+2 * i
 | 0,_=>Nat.le_refl _
 | i+1,s=>by
  rw [List.range_succ,List.foldl_append]
  have h1:=lks_elen (i:=i) (s:=s)
  have h2:=looks_elen (s:=(List.range i).foldl Vbcnad.looks s) (p:=i)
  simp only [List.foldl_cons,List.foldl_nil]; omega
theorem lks_other:∀ {i q:Nat} {s:VS},i≤q→((List.range i).foldl Vbcnad.looks s).ports[q]? = s.ports[q]?
 | 0,_,_,_=>rfl
 | i+1,q,s,h=>by
  rw [List.range_succ,List.foldl_append]
  exact (looks_other (by omega)).trans (lks_other (by omega))
theorem looks_ao {s:VS} {p:Nat}:(Vbcnad.looks s p).asks=s.asks∧(Vbcnad.looks s p).opened=s.opened:=by
 have hs:∀ (u:VS) m,(Vbcnad.send u m).asks=u.asks∧(Vbcnad.send u m).opened=u.opened:=fun u m=>by unfold Vbcnad.send; split <;> exact ⟨rfl,rfl⟩
 have he:∀ (u:VS),(Vbcnad.endAt u p).asks=u.asks∧(Vbcnad.endAt u p).opened=u.opened:=fun u=>by unfold Vbcnad.endAt; split <;> exact ⟨rfl,rfl⟩
 have hp:∀ (u:VS),(Vbcnad.putOut u p).asks=u.asks∧(Vbcnad.putOut u p).opened=u.opened:=fun u=>by unfold Vbcnad.putOut; simp only []; split <;> exact he u
 have hg:∀ (u:VS),(Vbcnad.given u p).asks=u.asks∧(Vbcnad.given u p).opened=u.opened:=fun u=>by unfold Vbcnad.given; split <;> exact ⟨rfl,rfl⟩
 have h1:(looks1 s p).asks=s.asks∧(looks1 s p).opened=s.opened:=by
  unfold looks1; split
  ·split
   ·exact hp s
   ·exact ⟨rfl,rfl⟩
  ·exact ⟨rfl,rfl⟩
 have h2:∀ (u:VS),(looks2 u p).asks=u.asks∧(looks2 u p).opened=u.opened:=fun u=>by
  unfold looks2
  split
  ·split
   ·exact ⟨rfl,rfl⟩
   ·split
    ·exact ⟨rfl,rfl⟩
    ·split
     ·exact he u
     ·split <;> exact ⟨rfl,rfl⟩
  ·split
   ·exact ⟨rfl,rfl⟩
   ·split
    ·exact hs _ _
    ·exact hg u
  ·split
   ·exact ⟨rfl,rfl⟩
   ·exact he u
  ·split
   ·exact ⟨rfl,rfl⟩
   ·split
    ·exact hs _ _
    ·exact hg u
  ·split <;> exact ⟨rfl,rfl⟩
  ·split
   ·split <;> exact ⟨rfl,rfl⟩
   ·exact ⟨rfl,rfl⟩
  ·exact ⟨rfl,rfl⟩
 rw [jay]
 exact ⟨(h2 _).1.trans h1.1,(h2 _).2.trans h1.2⟩
theorem lks_ao:∀ {i:Nat} {s:VS},((List.range i).foldl Vbcnad.looks s).asks=s.asks∧((List.range i).foldl Vbcnad.looks s).opened=s.opened
 | 0,_=>⟨rfl,rfl⟩
 | i+1,s=>by
  rw [List.range_succ,List.foldl_append]
  exact ⟨looks_ao.1.trans lks_ao.1,looks_ao.2.trans lks_ao.2⟩
noncomputable def m_tick (K:W.Frag) (T:Tb):MB:=(.cons (.if_ (.not_ (.call "within" (sp_within K T) (.cons (.var 1) (.cons (.int 1) (.cons (.glo "MOST_NOW" (.int 4611686018427387904)) .nil))))) (.cons (.ret (.lst (.cons (.neg 1) .nil)))
  .nil) .nil)
  (.cons (.if_ (.cmp .Gt (rI0 fun i j=>.bl (decide (j < i))) (.op .Add (rI0 fun i j=>.int (i+j)) (.fld (.var 0) "now" 7 10) (.var 1)) (.glo "MOST_NOW" (.int 4611686018427387904))) (.cons (.ret (.lst (.cons (.neg 2) .nil)))
  .nil) .nil)
  (.cons (.faug (.var 0) "now" 7 10 .Add rAdd (.var 1))
  (.cons (.for_ (.pair 2 3) (.enum (.fld (.var 0) "ports" 7 0)) (.cons (.expr (.call "look_at" (sp_look_at K T) (.cons (.var 0) (.cons (.var 2) (.cons (.var 3) .nil)))))
  .nil))
  (.cons (.expr (.call "forget" (sp_forget K T) (.cons (.var 0) .nil)))
  (.cons (.ret (.lst (.cons (.int 0) .nil)))
  .nil))))))
theorem w_tick {K:W.Frag} {T:Tb}:Wk K T (sp_tick K T) (m_tick K T) ["world","n","place","port"]:=by
 intro vs H Q E h
 obtain ⟨loc,F,s,n,rfl,⟨R,k,hk,W⟩,q⟩:=h
 (unfold Vbcnad.doing at q; dsimp only at q)
 rw [show ((2:Int) ^ 62)=4611686018427387904 from by decide,show ((Vbcnad.END:Nat):Int)=4611686018427387904 from by decide] at q
 simp_arith [m_tick,sp_within,R.w,one_sz]
 cases hw:Vbcnad.within n 1 4611686018427387904 with
 | false =>
  rw [if_pos hw] at q
  exact q.ret Lk.rfl' R
 | true =>
  rw [if_neg (by rw [hw]; simp)] at q
  simp_arith only [Bool.not_true]
  by_cases hn:(4611686018427387904:Int) < s.now+n
  ·rw [if_pos hn]
   rw [if_pos hn] at q
   exact q.ret Lk.rfl' R
  ·rw [if_neg hn]
   rw [if_neg hn] at q
   unfold Vbcnad.within at hw
   simp only [Bool.and_eq_true,decide_eq_true_eq] at hw
   obtain ⟨m,rfl⟩:=Int.eq_ofNat_of_zero_le (a:=n) (by omega)
   rw [Int.toNat_natCast] at q
   have R1:=R.wInt (s.now+m) s.book s.lost
   simp_arith only [Int.natCast_add] at R1
   have e1:=R1.w
   simp_arith only [Int.natCast_add] at e1
   generalize hH1:setV T 7 H _ _=H1 at R1 e1 ⊢
   simp_arith only [e1]
   have hle:=W.le
   have hpl64:=W.pl
   generalize ht:({ s with now:=s.now+m }:VS)=t at *
   have tp:t.ports=s.ports:=by rw [← ht]
   have tc:t.cfg=s.cfg:=by rw [← ht]
   have te:t.ended=s.ended:=by rw [← ht]
   have ta:t.asks=s.asks:=by rw [← ht]
   have to:t.opened=s.opened:=by rw [← ht]
   have q:Post T loc F Q ({ (List.range t.ports.length).foldl Vbcnad.looks t with asks:=((List.range t.ports.length).foldl Vbcnad.looks t).asks.filter fun a=>decide (((List.range t.ports.length).foldl Vbcnad.looks t).now < a.over),opened:=((List.range t.ports.length).foldl Vbcnad.looks t).opened.filter fun o=>decide (((List.range t.ports.length).foldl Vbcnad.looks t).now < o.over) },[0]):=by rw [← ht]; exact q
   have Rt:Rep T loc F H1 t:=R1
   refine ⟨_,.inl (.inl Rt.pl),?_⟩
   refine forE (K:=K) (a:=loc .PL) (xs:=(List.range t.ports.length).map fun p=>V.ref (loc (.po p)))
    (fun i σ H'=>∃ loc',Lk loc loc'∧Rep T loc' F H' ((List.range i).foldl Vbcnad.looks t)∧∃ v w,σ=[some (.ref (loc .W)),some (.int m),v,w])
    ⟨loc,Lk.rfl',Rt,none,none,rfl⟩ ?_ ?_ ?_
   ·rintro i σ H' _ ⟨l',hl,R',_⟩
    have:=R'.pl
    simp only [jcj,hl.2.1,hl.2.2] at this
    exact .inl (.inl this)
   ·rintro i v t1 σ H' hi ⟨l',hlk,R2,w1,w2,rfl⟩ ht1
    rw [List.getElem?_map] at hi
    obtain ⟨p',hp,rfl⟩:=Option.map_eq_some_iff.mp hi
    have hlt:i < t.ports.length:=by
     rw [List.getElem?_eq_some_iff] at hp; simpa using hp.1
    rw [List.getElem?_range hlt] at hp
    cases hp
    obtain ⟨y,hy⟩:=jan hlt
    have hy1:((List.range i).foldl Vbcnad.looks t).ports[i]? = some y:=by rw [lks_other (Nat.le_refl _)]; exact hy
    rw [← hlk.2.2 i]
    have R3:=R2.junk (o:=.tup [.int (i:Nat),.ref (l' (.po i))]) ht1
    refine ⟨t1,[.int (i:Nat),.ref (l' (.po i))],rfl,.inl (.inl jaa),rfl,_,_,rfl,_,_,rfl,rfl,?_⟩
    simp_arith only [and_assoc]
    have hel:=lks_elen (i:=i) (s:=t)
    refine ⟨l',F,_,i,y,by rw [hlk.1],R3,hy1,fun h=>W.inn i y (by rw [← tp]; exact hy) h,by rw [jcj,tp]; exact hpl64,by rw [te] at hel; rw [tp] at hlt; omega,by rw [lks_cfg,tc]; exact W.ct,by rw [lks_cfg,tc]; exact W.cb,fun H4 l4 hk4 R4=>?_⟩
    refine ⟨l4,hlk.trans hk4,?_⟩
    rw [List.range_succ,List.foldl_append]
    exact ⟨R4,_,_,rfl⟩
   ·rintro σ H2 ⟨l',hlk,R2,w1,w2,rfl⟩
    rw [List.length_map,List.length_range] at R2
    rw [← hlk.1]
    have hb:=W.bk
    have ho:=W.ol
    refine ⟨l',F,_,rfl,R2,by rw [lks_ao.1,ta]; exact W.an,by rw [lks_ao.2,to]; omega,fun H3 l3 hk3 R3=>?_⟩
    exact ⟨one_sz,q.ret (hlk.trans hk3) R3⟩
theorem atI_8 {α:Type} {a b c d e f g h i:α} {xs:List α}:atI (a :: b :: c :: d :: e :: f :: g :: h :: i :: xs) 8=some i:=by
 have:=atI_at (xs:=a :: b :: c :: d :: e :: f :: g :: h :: i :: xs) (i:=8); simpa using this
theorem atI_9 {α:Type} {a b c d e f g h i j:α} {xs:List α}:atI (a :: b :: c :: d :: e :: f :: g :: h :: i :: j :: xs) 9=some j:=by
 have:=atI_at (xs:=a :: b :: c :: d :: e :: f :: g :: h :: i :: j :: xs) (i:=9); simpa using this
inductive sp_init_Port (T:Tb) (vs:List V) (H:Hp) (Q:VK) (E0:XK):Prop | mk (x dx) (_:vs=[.ref x]) (_:H x=some (T.ob 1 dx [])) (_:∀ st dst,H st=none→H dst=none→dst≠st → Q .non (upd (upd (upd H dst (.own st)) st (T.ob 0 dst (phV .down))) x (T.ob 1 dx [.ref st,.non,.int 0])))
noncomputable def m_init_Port (K:W.Frag) (T:Tb):MB:=(.cons (.fset (.var 0) "stand" 1 0 (.make "Stand" 0 (sp_init_Stand T) (.cons (.glo "DOWN" (.int 0)) (.cons (.int 0) .nil))))
  (.cons (.fset (.var 0) "session" 1 1 .non)
  (.cons (.fset (.var 0) "guest" 1 2 (.int 0))
  .nil)))
theorem w_init_Port {K:W.Frag} {T:Tb}:Wk K T (sp_init_Port T) (m_init_Port K T) ["self"]:=by
 intro vs H Q E h
 obtain ⟨x,dx,rfl,hx,q⟩:=h
 simp_arith only [m_init_Port,ob_nil]
 intro st dst h1 h2 ne
 refine ⟨st,dst,_,_,rfl,jaa,?_⟩
 have n1:x≠st:=jab hx h1
 have n2:x≠dst:=jab hx h2
 have hx':upd (upd H dst (.own st)) st (T.ob 0 dst (phV .down)) x=some (T.ob 1 dx []):=by rw [upd_ne n1,upd_ne n2]; exact hx
 simp only [phV,kd,du,lf,nn,wh,hh,cc,xx,ft] at hx'
 simp_arith only [jaq,hx',jao hx']
 exact q st dst h1 h2 ne
noncomputable def fresh0 (n b w t h r l i k c:Nat):VS:={ on:=true,cfg:=⟨b,w,t,h,r,l,i,k,c⟩,ports:=List.replicate n {} }
noncomputable def iloc (a D p1 p2 p3 p4 p5 p6 p7:Addr) (ps:List (Addr×Addr)):Lo
 | .W=>a | .PL=>D | .BL=>p1 | .RL=>p2 | .PD=>p3 | .UL=>p4 | .KD=>p5 | .GL=>p6 | .AD=>p7
 | .po p=>(ps.map (·.1)).getD p 0
 | .st p=>(ps.map (·.2)).getD p 0
 | _=>0
noncomputable def iidx (n:Nat):Ro→Nat
 | .AD=>0 | .GL=>1 | .KD=>2 | .UL=>3 | .PD=>4 | .RL=>5 | .BL=>6 | .W=>7 | .PL=>8
 | .po p=>9+p
 | .st p=>9+n+p
 | _=>0
noncomputable def ibk (n:Nat):Nat→Ro
 | 0=>.AD | 1=>.GL | 2=>.KD | 3=>.UL | 4=>.PD | 5=>.RL | 6=>.BL | 7=>.W | 8=>.PL
 | k+9=>if k < n then .po k else .st (k - n)
theorem init_rep {T:Tb} {F H G:Hp} {a dx D p1 p2 p3 p4 p5 p6 p7:Addr} {ps:List (Addr×Addr)} {n b w t h r lo li k c:Nat} (ti:TI T) (hS:Same F H) (hFa:F a=none) (ha:H a=some (T.ob 7 dx [])) (e1:Same H G) (hD:H D=none) (hps:∀ x ∈ ps,H x.1=none∧H x.2=none)
  (hp:H p1=none∧H p2=none∧H p3=none∧H p4=none∧H p5=none∧H p6=none∧H p7=none) (nd:(p7 :: p6 :: p5 :: p4 :: p3 :: p2 :: p1 :: a :: D :: (ps.map (·.1) ++ ps.map (·.2))).Nodup) (hl:ps.length=n)
  (gD:G D=some (.lst (ps.map fun x=>V.ref x.1))) (g1:G p1=some (.lst [])) (g2:G p2=some (.lst [])) (g3:G p3=some (.dK [])) (g4:G p4=some (.lst [])) (g5:G p5=some (.dK [])) (g6:G p6=some (.lst [])) (g7:G p7=some (.dK []))
  (gp:∀ x ∈ ps,getV T 1 (G x.1)=some [.ref x.2,.non,.int 0]∧getV T 0 (G x.2)=some (phV .down)) :
  Rep T (iloc a D p1 p2 p3 p4 p5 p6 p7 ps) F (upd G a (T.ob 7 dx ([.ref D,.int b,.int w,.int t,.int h,.int r,.int lo,.int li,.int k,.int c,.int 0,.int 0,.int 0] ++ [.ref p1] ++ [.ref p2] ++ [.ref p3] ++ [.ref p4] ++ [.ref p5] ++ [.ref p6] ++ [.ref p7]))) (fresh0 n b w t h r lo li k c):=by
 have plen:(fresh0 n b w t h r lo li k c).ports.length=n:=List.length_replicate
 have hix:∀ r',Used (fresh0 n b w t h r lo li k c) r'→(p7 :: p6 :: p5 :: p4 :: p3 :: p2 :: p1 :: a :: D :: (ps.map (·.1) ++ ps.map (·.2)))[iidx n r']? = some (iloc a D p1 p2 p3 p4 p5 p6 p7 ps r')∧ibk n (iidx n r')=r':=by
  intro r' hu
  cases r' with
  | po p =>
   have hp:p < n:=by rw [← plen]; exact hu
   refine ⟨?_,by show ibk n (9+p)=_; rw [Nat.add_comm]; exact if_pos hp⟩
   show (p7 :: p6 :: p5 :: p4 :: p3 :: p2 :: p1 :: a :: D :: (ps.map (·.1) ++ ps.map (·.2)))[9+p]? = _
   rw [Nat.add_comm]
   show (ps.map (·.1) ++ ps.map (·.2))[p]? = some ((ps.map (·.1)).getD p 0)
   rw [List.getElem?_append_left (by rw [List.length_map]; omega),List.getD_eq_getElem?_getD,List.getElem?_eq_getElem (by rw [List.length_map]; omega)]; rfl
  | st p =>
   have hp:p < n:=by rw [← plen]; exact hu
   refine ⟨?_,by show ibk n (9+n+p)=_; rw [show 9+n+p=(n+p)+9 by omega]; exact (if_neg (by omega)).trans (by rw [Nat.add_sub_cancel_left])⟩
   show (p7 :: p6 :: p5 :: p4 :: p3 :: p2 :: p1 :: a :: D :: (ps.map (·.1) ++ ps.map (·.2)))[9+n+p]? = _
   rw [show 9+n+p=(n+p)+9 by omega]
   show (ps.map (·.1) ++ ps.map (·.2))[n+p]? = some ((ps.map (·.2)).getD p 0)
   rw [List.getElem?_append_right (by rw [List.length_map]; omega),List.length_map,show n+p - ps.length=p by omega,List.getD_eq_getElem?_getD,List.getElem?_eq_getElem (by rw [List.length_map]; omega)]; rfl
  | se p =>
   obtain ⟨y,x,h1,h2⟩:=hu
   have:=List.mem_of_getElem? h1
   rw [show (fresh0 n b w t h r lo li k c).ports=List.replicate n {} from rfl,List.mem_replicate] at this
   rw [this.2] at h2; cases h2
  | pe i=>obtain ⟨x,h1,_⟩:=hu; cases h1
  | gr i=>obtain ⟨x,h1,_⟩:=hu; cases h1
  | ak i=>obtain ⟨x,h1,_⟩:=hu; cases h1
  | _=>exact ⟨rfl,rfl⟩
 have hin:∀ r',Used (fresh0 n b w t h r lo li k c) r'→iloc a D p1 p2 p3 p4 p5 p6 p7 ps r'=a∨H (iloc a D p1 p2 p3 p4 p5 p6 p7 ps r')=none:=by
  intro r' hu
  have hm:=List.mem_of_getElem? (hix r' hu).1
  simp only [List.mem_cons,List.mem_append,List.mem_map] at hm
  rcases hm with e | e | e | e | e | e | e | e | e | ⟨x,hx,e⟩ | ⟨x,hx,e⟩
  ·rw [e]; exact .inr hp.2.2.2.2.2.2
  ·rw [e]; exact .inr hp.2.2.2.2.2.1
  ·rw [e]; exact .inr hp.2.2.2.2.1
  ·rw [e]; exact .inr hp.2.2.2.1
  ·rw [e]; exact .inr hp.2.2.1
  ·rw [e]; exact .inr hp.2.1
  ·rw [e]; exact .inr hp.1
  ·exact .inl e
  ·rw [e]; exact .inr hD
  ·rw [← e]; exact .inr (hps x hx).1
  ·rw [← e]; exact .inr (hps x hx).2
 have npa:∀ {z:Addr},H z=none→z≠a:=fun hz e=>by rw [e,ha] at hz; cases hz
 have psx:∀ p y,(fresh0 n b w t h r lo li k c).ports[p]? = some y→y={}∧∃ x,ps[p]? = some x∧x ∈ ps∧(ps.map (·.1)).getD p 0=x.1∧(ps.map (·.2)).getD p 0=x.2:=by
  intro p y hy
  have h1:=List.mem_of_getElem? hy
  rw [show (fresh0 n b w t h r lo li k c).ports=List.replicate n {} from rfl,List.mem_replicate] at h1
  have hp:p < ps.length:=by rw [hl,← plen]; exact (List.getElem?_eq_some_iff.mp hy).1
  refine ⟨h1.2,ps[p],List.getElem?_eq_getElem hp,List.getElem_mem hp,?_,?_⟩
  ·rw [List.getD_eq_getElem?_getD,List.getElem?_map,List.getElem?_eq_getElem hp]; rfl
  ·rw [List.getD_eq_getElem?_getD,List.getElem?_map,List.getElem?_eq_getElem hp]; rfl
 refine ⟨ti,fun b' u e=>?_,fun b' u e r' hu eq=>?_,fun r1 r2 h1 h2 e=>?_,fun r'=>?_⟩
 ·rw [upd_ne (jab e hFa)]; exact e1 _ _ (hS _ _ e)
 ·rcases hin r' hu with q | q
  ·rw [← eq,q,hFa] at e; cases e
  ·rw [eq,hS _ _ e] at q; cases q
 ·obtain ⟨i1,b1⟩:=hix r1 h1
  obtain ⟨i2,b2⟩:=hix r2 h2
  rw [e] at i1
  rw [← b1,nd_ix nd i1 i2]; exact b2
 ·cases r' with
  | W=>show getV T 7 (upd G a _ a)=_; rw [jaa]; exact jae (Nat.le_refl _)
  | PL =>
   show upd G a _ D=_
   rw [upd_ne (npa hD),gD,plen]
   congr 2
   apply List.ext_getElem?
   intro i
   rw [List.getElem?_map,List.getElem?_map]
   by_cases hi:i < n
   ·rw [List.getElem?_range hi,List.getElem?_eq_getElem (by omega)]
    show some (V.ref _)=some (V.ref ((ps.map (·.1)).getD i 0))
    rw [List.getD_eq_getElem?_getD,List.getElem?_map,List.getElem?_eq_getElem (by omega)]; rfl
   ·rw [List.getElem?_eq_none (by omega),List.getElem?_eq_none (by simp; omega)]; rfl
  | BL=>exact ⟨[],rfl,by show upd G a _ p1=_; rw [upd_ne (npa hp.1)]; exact g1,fun x hx=>by cases hx⟩
  | RL=>exact ⟨[],rfl,by show upd G a _ p2=_; rw [upd_ne (npa hp.2.1)]; exact g2,fun x hx=>by cases hx⟩
  | PD=>exact ⟨[],by show upd G a _ p3=_; rw [upd_ne (npa hp.2.2.1)]; exact g3,.refl _⟩
  | UL=>exact ⟨[],rfl,by show upd G a _ p4=_; rw [upd_ne (npa hp.2.2.2.1)]; exact g4,fun x hx=>by cases hx⟩
  | KD=>show upd G a _ p5=_; rw [upd_ne (npa hp.2.2.2.2.1)]; exact g5
  | GL=>exact ⟨[],rfl,by show upd G a _ p6=_; rw [upd_ne (npa hp.2.2.2.2.2.1)]; exact g6,fun x hx=>by cases hx⟩
  | AD=>exact ⟨[],rfl,by show upd G a _ p7=_; rw [upd_ne (npa hp.2.2.2.2.2.2)]; exact g7,fun x hx=>by cases hx⟩
  | po p =>
   intro y hy
   obtain ⟨rfl,x,_,hx,ex1,ex2⟩:=psx p y hy
   show getV T 1 (upd G a _ ((ps.map (·.1)).getD p 0))=some [.ref ((ps.map (·.2)).getD p 0),.non,.int 0]
   rw [ex1,ex2,upd_ne (npa (hps x hx).1)]; exact (gp x hx).1
  | st p =>
   intro y hy
   obtain ⟨rfl,x,_,hx,ex1,ex2⟩:=psx p y hy
   show getV T 0 (upd G a _ ((ps.map (·.2)).getD p 0))=_
   rw [ex2,upd_ne (npa (hps x hx).2)]; exact (gp x hx).2
  | se p =>
   intro y x hy hx
   obtain ⟨rfl,_⟩:=psx p y hy
   cases hx
  | pe i=>intro x hx; cases hx
  | gr i=>intro x hx; cases hx
  | ak i=>intro x hx; cases hx
noncomputable def sp_init_World (T:Tb):Sp:=fun vs H Q _=>TI T∧∃ F a dx l n b w t h r lo li k c,vs=[.ref a,.ref l]∧H a=some (T.ob 7 dx [])∧H l=some (.lst [.int (n:Nat),.int (b:Nat),.int (w:Nat),.int (t:Nat),.int (h:Nat),.int (r:Nat),.int (lo:Nat),.int (li:Nat),.int (k:Nat),.int (c:Nat)])∧Same F H∧F a=none∧n≤64 ∧
 ∀ H' loc,loc .W=a→Rep T loc F H' (fresh0 n b w t h r lo li k c)→Q .non H'
noncomputable def m_init_World (K:W.Frag) (T:Tb):MB:=(.cons (.fset (.var 0) "ports" 7 0 (.lc (.make "Port" 1 (sp_init_Port T) .nil) (.name 2) (.rng1 (.ix rIxH (.var 1) (.int 0))) .nil [("k",2)]))
  (.cons (.fset (.var 0) "bag_size" 7 1 (.ix rIxH (.var 1) (.int 1)))
  (.cons (.fset (.var 0) "wait" 7 2 (.ix rIxH (.var 1) (.int 2)))
  (.cons (.fset (.var 0) "tries" 7 3 (.ix rIxH (.var 1) (.int 3)))
  (.cons (.fset (.var 0) "hold" 7 4 (.ix rIxH (.var 1) (.int 4)))
  (.cons (.fset (.var 0) "most_wrong" 7 5 (.ix rIxH (.var 1) (.int 5)))
  (.cons (.fset (.var 0) "lock" 7 6 (.ix rIxH (.var 1) (.int 6)))
  (.cons (.fset (.var 0) "life" 7 7 (.ix rIxH (.var 1) (.int 7)))
  (.cons (.fset (.var 0) "asks" 7 8 (.ix rIxH (.var 1) (.int 8)))
  (.cons (.fset (.var 0) "most_records" 7 9 (.ix rIxH (.var 1) (.int 9)))
  (.cons (.fset (.var 0) "now" 7 10 (.int 0))
  (.cons (.fset (.var 0) "book" 7 11 (.int 0))
  (.cons (.fset (.var 0) "lost" 7 12 (.int 0))
  (.cons (.fset (.var 0) "bag" 7 13 (.lst .nil))
  (.cons (.fset (.var 0) "records" 7 14 (.lst .nil))
  (.cons (.fset (.var 0) "persons" 7 15 .dnew)
  (.cons (.fset (.var 0) "rules" 7 16 (.lst .nil))
  (.cons (.fset (.var 0) "known" 7 17 .dnew)
  (.cons (.fset (.var 0) "begun" 7 18 (.lst .nil))
  (.cons (.fset (.var 0) "accounts" 7 19 .dnew)
  .nil))))))))))))))))))))
theorem putAt_end {v:V}:∀ {vs:List V} {i:Nat},vs.length=i→putAt vs i v=vs ++ [v]
 | [],_,rfl=>rfl
 | x :: vs,_,rfl=>congrArg (x :: ·) (putAt_end (vs:=vs) rfl)
theorem fsO {T:Tb} {c:Nat} {H:Hp} {a dx:Addr} {vs:List V} {i:Nat} {y:V} {P:Hp→Prop} (h:H a=some (T.ob c dx vs)) (hl:vs.length=i) (hc:i < (keysOf c).length) (q:∀ ws,ws=vs ++ [y]→ws.length=i+1→P (upd H a (T.ob c dx ws))):kzS (getV T c (H a)) fun us=>i≤us.length∧P (setV T c H a (putAt us i y)):=by
 rw [h,jae (by omega)]
 refine ⟨by omega,?_⟩
 rw [jao h,putAt_end hl]; exact q _ rfl (by simp [hl])
theorem fsU {T:Tb} {c:Nat} {G:Hp} {a dx:Addr} {vs:List V} {i:Nat} {y:V} {P:Hp→Prop} (hl:vs.length=i) (hc:i < (keysOf c).length) (q:∀ ws,ws=vs ++ [y]→ws.length=i+1→P (upd G a (T.ob c dx ws))):kzS (getV T c (upd G a (T.ob c dx vs) a)) fun us=>i≤us.length∧P (setV T c (upd G a (T.ob c dx vs)) a (putAt us i y)):=fsO (P:=P) jaa hl hc fun ws e l=>by rw [jbb]; exact q ws e l
theorem fsN {T:Tb} {c:Nat} {G:Hp} {a dx p:Addr} {o:HO} {vs:List V} {i:Nat} {y:V} {P:Hp→Prop} (hl:vs.length=i) (hc:i < (keysOf c).length) (hp:upd G a (T.ob c dx vs) p=none) (q:G p=none→a≠p→∀ ws,ws=vs ++ [y]→ws.length=i+1→P (upd (upd G p o) a (T.ob c dx ws))):kzS (getV T c (upd (upd G a (T.ob c dx vs)) p o a)) fun us=>i≤us.length∧P (setV T c (upd (upd G a (T.ob c dx vs)) p o) a (putAt us i y)):=by
 have n:a≠p:=fun e=>by subst e; rw [jaa] at hp; cases hp
 rw [upd_ne n.symm] at hp
 rw [upd_comm n]
 exact fsU hl hc (q hp n)
theorem w_init_World {K:W.Frag} {T:Tb}:Wk K T (sp_init_World T) (m_init_World K T) ["self","row","k"]:=by
 intro vs H Q E h
 obtain ⟨ti,F,a,dx,l,n,b,w,t,h,r,lo,li,k,c,rfl,ha,hl,hS,hFa,hn,q⟩:=h
 have hz:=szl
 have nla:l≠a:=ne_of hl ha (by intro z; cases z)
 simp_arith [hl,atI_0]
 refine ⟨by omega,by omega,fun D hD=>?_⟩
 have nDa:D≠a:=fun e=>by subst e; rw [hD] at ha; cases ha
 refine lcR (lo:=0) (n:=(n:Int).toNat)
  (fun i H'=>Same H H'∧∃ ps:List (Addr×Addr),ps.length=i∧H' D=some (.lst (ps.map fun x=>V.ref x.1))∧(ps.map (·.1) ++ ps.map (·.2)).Nodup ∧
   (∀ x ∈ ps,getV T 1 (H' x.1)=some [.ref x.2,.non,.int 0]∧getV T 0 (H' x.2)=some (phV .down))∧∀ x ∈ ps,H x.1=none∧H x.2=none)
  ⟨Same.fresh hD,[],rfl,jaa,List.nodup_nil,fun x hx=>(by cases hx),fun x hx=>(by cases hx)⟩ ?_ ?_
 ·rintro i H' hi ⟨e1,ps,p1,p2,p3,p4,p5⟩
  simp_arith only [ob_nil]
  intro x dx1 hx hdx1 ne1
  refine ⟨x,dx1,rfl,jaa,fun st dst h1 h2 ne2=>⟨rfl,?_⟩⟩
  have n1:x≠st:=fun e=>by subst e; rw [jaa] at h1; cases h1
  have n2:x≠dst:=fun e=>by subst e; rw [jaa] at h2; cases h2
  rw [upd_ne n1.symm] at h1
  rw [upd_ne n2.symm] at h2
  have d1:st≠dx1:=fun e=>by subst e; rw [jaa] at h1; cases h1
  have d2:dst≠dx1:=fun e=>by subst e; rw [jaa] at h2; cases h2
  rw [upd_ne d1] at h1
  rw [upd_ne d2] at h2
  have old:∀ b o,H' b=some o→upd (upd (upd (upd (upd H' dx1 (.own x)) x (T.ob 1 dx1 [])) dst (.own st)) st (T.ob 0 dst (phV .down))) x (T.ob 1 dx1 [.ref st,.non,.int 0]) b=some o:=fun b o e=>by
   rw [upd_ne (jab e hx),upd_ne (jab e h1),upd_ne (jab e h2),upd_ne (jab e hx),upd_ne (jab e hdx1)]; exact e
  have hD2:=old _ _ p2
  have nDx:D≠x:=jab p2 hx
  have nDst:D≠st:=jab p2 h1
  refine ⟨_,hD2,by rw [List.length_map]; omega,fun b o e=>?_,ps ++ [(x,st)],by simp [p1],?_,?_,?_,?_⟩
  ·rw [upd_ne (jab e hD)]; exact old _ _ (e1 _ _ e)
  ·rw [List.map_append]; exact jaa
  ·have hx1:x ∉ ps.map (·.1)∧x ∉ ps.map (·.2):=by
    constructor <;> (intro hm; obtain ⟨y,hy,e⟩:=List.mem_map.mp hm; subst e)
    ·have:=(p4 y hy).1; rw [hx] at this; cases this
    ·have:=(p4 y hy).2; rw [hx] at this; cases this
   have hs1:st ∉ ps.map (·.1)∧st ∉ ps.map (·.2):=by
    constructor <;> (intro hm; obtain ⟨y,hy,e⟩:=List.mem_map.mp hm; subst e)
    ·have:=(p4 y hy).1; rw [h1] at this; cases this
    ·have:=(p4 y hy).2; rw [h1] at this; cases this
   rw [List.map_append,List.map_append]
   simp only [List.map_cons,List.map_nil]
   rw [List.nodup_append] at p3 ⊢
   obtain ⟨q1,q2,q3⟩:=p3
   refine ⟨?_,?_,?_⟩
   ·rw [List.nodup_append]
    exact ⟨q1,by simp,fun u hu v hv e=>by rw [List.mem_singleton.mp hv] at e; exact hx1.1 (e ▸ hu)⟩
   ·rw [List.nodup_append]
    exact ⟨q2,by simp,fun u hu v hv e=>by rw [List.mem_singleton.mp hv] at e; exact hs1.2 (e ▸ hu)⟩
   ·intro u hu v hv e
    rcases List.mem_append.mp hu with hu | hu <;> rcases List.mem_append.mp hv with hv | hv
    ·exact q3 u hu v hv e
    ·rw [List.mem_singleton.mp hv] at e; exact hs1.1 (e ▸ hu)
    ·rw [List.mem_singleton.mp hu] at e; exact hx1.2 (e ▸ hv)
    ·rw [List.mem_singleton.mp hu,List.mem_singleton.mp hv] at e; exact n1 e
  ·intro y hy
   rcases List.mem_append.mp hy with hy | hy
   ·obtain ⟨g1,g2⟩:=p4 y hy
    obtain ⟨u1,o1,_⟩:=jai g1
    obtain ⟨u2,o2,_⟩:=jai g2
    have m1:y.1≠D:=fun e=>by rw [e,p2] at o1; cases o1
    have m2:y.2≠D:=fun e=>by rw [e,p2] at o2; cases o2
    exact ⟨by rw [upd_ne m1,old _ _ o1]; exact jae (Nat.le_refl _),by rw [upd_ne m2,old _ _ o2]; exact jae (Nat.le_refl _)⟩
   ·rw [List.mem_singleton.mp hy]
    exact ⟨by rw [upd_ne nDx.symm,jaa]; exact jae (Nat.le_refl _),by rw [upd_ne nDst.symm,upd_ne n1.symm,jaa]; exact jae (Nat.le_refl _)⟩
  ·intro y hy
   rcases List.mem_append.mp hy with hy | hy
   ·exact p5 y hy
   ·rw [List.mem_singleton.mp hy]
    exact ⟨e1.free hx,e1.free h1⟩
 ·rintro Hc ⟨e1,ps,p1',p2',p3',p4',p5'⟩
  rw [Int.toNat_natCast] at p1'
  have ha1:=e1 _ _ ha
  have hl1:=e1 _ _ hl
  refine fsO ha1 rfl (by decide) fun v1 q1 l1=>?_
  refine kzL_of ((upd_ne nla).trans hl1) (kzS_of atI_1 (fsU l1 (by decide) fun v2 q2 l2=>?_))
  refine kzL_of ((upd_ne nla).trans hl1) (kzS_of atI_2 (fsU l2 (by decide) fun v3 q3 l3=>?_))
  refine kzL_of ((upd_ne nla).trans hl1) (kzS_of atI_3 (fsU l3 (by decide) fun v4 q4 l4=>?_))
  refine kzL_of ((upd_ne nla).trans hl1) (kzS_of atI_4 (fsU l4 (by decide) fun v5 q5 l5=>?_))
  refine kzL_of ((upd_ne nla).trans hl1) (kzS_of atI_5 (fsU l5 (by decide) fun v6 q6 l6=>?_))
  refine kzL_of ((upd_ne nla).trans hl1) (kzS_of atI_6 (fsU l6 (by decide) fun v7 q7 l7=>?_))
  refine kzL_of ((upd_ne nla).trans hl1) (kzS_of atI_7 (fsU l7 (by decide) fun v8 q8 l8=>?_))
  refine kzL_of ((upd_ne nla).trans hl1) (kzS_of atI_8 (fsU l8 (by decide) fun v9 q9 l9=>?_))
  refine kzL_of ((upd_ne nla).trans hl1) (kzS_of atI_9 (fsU l9 (by decide) fun v10 q10 l10=>?_))
  refine fsU l10 (by decide) fun v11 q11 l11=>?_
  refine fsU l11 (by decide) fun v12 q12 l12=>?_
  refine fsU l12 (by decide) fun v13 q13 l13=>?_
  refine ⟨Nat.zero_le _,fun p1 z1=>fsN l13 (by decide) z1 fun k1 n1 v14 q14 l14=>?_⟩
  have s1:Same Hc (upd Hc p1 (.lst [])):=Same.fresh k1
  have o1:upd Hc p1 (.lst []) p1=some (.lst []):=jaa
  generalize upd Hc p1 (.lst [])=H1 at s1 o1 ⊢
  refine ⟨Nat.zero_le _,fun p2 z2=>fsN l14 (by decide) z2 fun k2 n2 v15 q15 l15=>?_⟩
  have s2:Same H1 (upd H1 p2 (.lst [])):=Same.fresh k2
  have o2:upd H1 p2 (.lst []) p2=some (.lst []):=jaa
  generalize upd H1 p2 (.lst [])=H2 at s2 o2 ⊢
  refine fun p3 z3=>fsN l15 (by decide) z3 fun k3 n3 v16 q16 l16=>?_
  have s3:Same H2 (upd H2 p3 (.dK [])):=Same.fresh k3
  have o3:upd H2 p3 (.dK []) p3=some (.dK []):=jaa
  generalize upd H2 p3 (.dK [])=H3 at s3 o3 ⊢
  refine ⟨Nat.zero_le _,fun p4 z4=>fsN l16 (by decide) z4 fun k4 n4 v17 q17 l17=>?_⟩
  have s4:Same H3 (upd H3 p4 (.lst [])):=Same.fresh k4
  have o4:upd H3 p4 (.lst []) p4=some (.lst []):=jaa
  generalize upd H3 p4 (.lst [])=H4 at s4 o4 ⊢
  refine fun p5 z5=>fsN l17 (by decide) z5 fun k5 n5 v18 q18 l18=>?_
  have s5:Same H4 (upd H4 p5 (.dK [])):=Same.fresh k5
  have o5:upd H4 p5 (.dK []) p5=some (.dK []):=jaa
  generalize upd H4 p5 (.dK [])=H5 at s5 o5 ⊢
  refine ⟨Nat.zero_le _,fun p6 z6=>fsN l18 (by decide) z6 fun k6 n6 v19 q19 l19=>?_⟩
  have s6:Same H5 (upd H5 p6 (.lst [])):=Same.fresh k6
  have o6:upd H5 p6 (.lst []) p6=some (.lst []):=jaa
  generalize upd H5 p6 (.lst [])=H6 at s6 o6 ⊢
  refine fun p7 z7=>fsN l19 (by decide) z7 fun k7 n7 v20 q20 l20=>?_
  have s7:Same H6 (upd H6 p7 (.dK [])):=Same.fresh k7
  have o7:upd H6 p7 (.dK []) p7=some (.dK []):=jaa
  generalize upd H6 p7 (.dK [])=H7 at s7 o7 ⊢
  have S7:Same Hc H7:=((((((s1.trans s2).trans s3).trans s4).trans s5).trans s6).trans s7)
  have g1:H7 p1=some (.lst []):=s7 _ _ (s6 _ _ (s5 _ _ (s4 _ _ (s3 _ _ (s2 _ _ o1)))))
  have g2:H7 p2=some (.lst []):=s7 _ _ (s6 _ _ (s5 _ _ (s4 _ _ (s3 _ _ o2))))
  have g3:H7 p3=some (.dK []):=s7 _ _ (s6 _ _ (s5 _ _ (s4 _ _ o3)))
  have g4:H7 p4=some (.lst []):=s7 _ _ (s6 _ _ (s5 _ _ o4))
  have g5:H7 p5=some (.dK []):=s7 _ _ (s6 _ _ o5)
  have g6:H7 p6=some (.lst []):=s7 _ _ o6
  have gD:H7 D=some (.lst (ps.map fun x=>V.ref x.1)):=S7 _ _ p2'
  have x1:H p1=none:=e1.free k1
  have x2:H p2=none:=(e1.trans s1).free k2
  have x3:H p3=none:=((e1.trans s1).trans s2).free k3
  have x4:H p4=none:=(((e1.trans s1).trans s2).trans s3).free k4
  have x5:H p5=none:=((((e1.trans s1).trans s2).trans s3).trans s4).free k5
  have x6:H p6=none:=(((((e1.trans s1).trans s2).trans s3).trans s4).trans s5).free k6
  have x7:H p7=none:=((((((e1.trans s1).trans s2).trans s3).trans s4).trans s5).trans s6).free k7
  have inH:∀ x ∈ ps,(∃ o,Hc x.1=some o)∧∃ o,Hc x.2=some o:=fun x hx=>by
   obtain ⟨y1,y2⟩:=p4' x hx
   obtain ⟨u1,w1,_⟩:=jai y1
   obtain ⟨u2,w2,_⟩:=jai y2
   exact ⟨⟨_,w1⟩,⟨_,w2⟩⟩
  have nps:∀ {G:Hp} {z:Addr},Same Hc G→G z=none→z ∉ ps.map (·.1) ++ ps.map (·.2):=fun {G z} hS hz hm=>by
   rcases List.mem_append.mp hm with hm | hm
   ·obtain ⟨x,hx,e⟩:=List.mem_map.mp hm
    obtain ⟨o,ho⟩:=(inH x hx).1
    have e:x.1=z:=e
    rw [e] at ho
    rw [hS _ _ ho] at hz; cases hz
   ·obtain ⟨x,hx,e⟩:=List.mem_map.mp hm
    obtain ⟨o,ho⟩:=(inH x hx).2
    have e:x.2=z:=e
    rw [e] at ho
    rw [hS _ _ ho] at hz; cases hz
  have nD:D ∉ ps.map (·.1) ++ ps.map (·.2):=fun hm=>by
   rcases List.mem_append.mp hm with hm | hm
   ·obtain ⟨x,hx,e⟩:=List.mem_map.mp hm
    have e:x.1=D:=e
    have:=(p4' x hx).1; rw [e,p2'] at this; cases this
   ·obtain ⟨x,hx,e⟩:=List.mem_map.mp hm
    have e:x.2=D:=e
    have:=(p4' x hx).2; rw [e,p2'] at this; cases this
  have na:a ∉ ps.map (·.1) ++ ps.map (·.2):=fun hm=>by
   rcases List.mem_append.mp hm with hm | hm
   ·obtain ⟨x,hx,e⟩:=List.mem_map.mp hm
    have e:x.1=a:=e
    have:=(p5' x hx).1; rw [e,ha] at this; cases this
   ·obtain ⟨x,hx,e⟩:=List.mem_map.mp hm
    have e:x.2=a:=e
    have:=(p5' x hx).2; rw [e,ha] at this; cases this
  have nd:(p7 :: p6 :: p5 :: p4 :: p3 :: p2 :: p1 :: a :: D :: (ps.map (·.1) ++ ps.map (·.2))).Nodup:=by
   have ne:∀ {G:Hp} {u z:Addr} {o:HO},G u=some o→G z=none→z≠u:=fun h1 h2 e=>by rw [e,h1] at h2; cases h2
   have t2:=s1.trans s2
   have t3:=t2.trans s3
   have t4:=t3.trans s4
   have t5:=t4.trans s5
   have t6:=t5.trans s6
   have nDp:∀ {G:Hp} {z:Addr},Same Hc G→G z=none→z≠D:=fun hS hz=>ne (hS _ _ p2') hz
   refine List.nodup_cons.mpr ⟨?_,List.nodup_cons.mpr ⟨?_,List.nodup_cons.mpr ⟨?_,List.nodup_cons.mpr ⟨?_,List.nodup_cons.mpr ⟨?_,List.nodup_cons.mpr ⟨?_,List.nodup_cons.mpr ⟨?_,List.nodup_cons.mpr ⟨?_,List.nodup_cons.mpr ⟨nD,p3'⟩⟩⟩⟩⟩⟩⟩⟩⟩
   ·simp only [List.mem_cons,not_or]
    exact ⟨ne o6 k7,ne (s6 _ _ o5) k7,ne (s6 _ _ (s5 _ _ o4)) k7,ne (s6 _ _ (s5 _ _ (s4 _ _ o3))) k7,ne (s6 _ _ (s5 _ _ (s4 _ _ (s3 _ _ o2)))) k7,ne (s6 _ _ (s5 _ _ (s4 _ _ (s3 _ _ (s2 _ _ o1))))) k7,n7.symm,nDp t6 k7,nps t6 k7⟩
   ·simp only [List.mem_cons,not_or]
    exact ⟨ne o5 k6,ne (s5 _ _ o4) k6,ne (s5 _ _ (s4 _ _ o3)) k6,ne (s5 _ _ (s4 _ _ (s3 _ _ o2))) k6,ne (s5 _ _ (s4 _ _ (s3 _ _ (s2 _ _ o1)))) k6,n6.symm,nDp t5 k6,nps t5 k6⟩
   ·simp only [List.mem_cons,not_or]
    exact ⟨ne o4 k5,ne (s4 _ _ o3) k5,ne (s4 _ _ (s3 _ _ o2)) k5,ne (s4 _ _ (s3 _ _ (s2 _ _ o1))) k5,n5.symm,nDp t4 k5,nps t4 k5⟩
   ·simp only [List.mem_cons,not_or]
    exact ⟨ne o3 k4,ne (s3 _ _ o2) k4,ne (s3 _ _ (s2 _ _ o1)) k4,n4.symm,nDp t3 k4,nps t3 k4⟩
   ·simp only [List.mem_cons,not_or]
    exact ⟨ne o2 k3,ne (s2 _ _ o1) k3,n3.symm,nDp t2 k3,nps t2 k3⟩
   ·simp only [List.mem_cons,not_or]
    exact ⟨ne o1 k2,n2.symm,nDp s1 k2,nps s1 k2⟩
   ·simp only [List.mem_cons,not_or]
    exact ⟨n1.symm,nDp Same.rfl' k1,nps Same.rfl' k1⟩
   ·simp only [List.mem_cons,not_or]
    exact ⟨nDa.symm,na⟩
  refine q _ (iloc a D p1 p2 p3 p4 p5 p6 p7 ps) rfl ?_
  rw [q20,q19,q18,q17,q16,q15,q14,q13,q12,q11,q10,q9,q8,q7,q6,q5,q4,q3,q2,q1]
  exact init_rep ti hS hFa ha (e1.trans S7) hD p5' ⟨x1,x2,x3,x4,x5,x6,x7⟩ nd p1' gD g1 g2 g3 g4 g5 g6 o7 (fun x hx=>⟨by
   obtain ⟨u1,w1,_⟩:=jai (p4' x hx).1
   rw [S7 _ _ w1]; exact jae (Nat.le_refl _),by
   obtain ⟨u1,w1,_⟩:=jai (p4' x hx).2
   rw [S7 _ _ w1]; exact jae (Nat.le_refl _)⟩)
inductive Cl:Int→List Int→Vbcnad.Call→Prop
 | d {a:Int} {zs:List Int} {c:Vbcnad.Call}:ClD a zs c→Cl a zs c
 | s {a:Int} {zs:List Int} {c:Vbcnad.Call}:ClS a zs c→Cl a zs c
 | tick (n:Int):Cl 15 [n] (.tick n)
 | n {a z:Int} {c:Vbcnad.Call}:ClN a z c→Cl a [z] c
 | t {a:Int} {zs:List Int} {c:Vbcnad.Call}:ClT a zs c→Cl a zs c
inductive sp_act (K:W.Frag) (T:Tb) (vs:List V) (H:Hp) (Q:VK) (E0:XK):Prop | mk (loc F s code zs l c) (_:vs=[.ref (loc .W),.int code,.ref l]) (_:F l=some (.lst (zs.map V.int))) (_:(∀ z ∈ zs,-(2 ^ 63)≤z∧z < 2 ^ 63)) (_:Cl code zs c) (_:Pre T loc F H s) (_:Post T loc F Q (Vbcnad.doing s c))
theorem Pre.junk {T:Tb} {loc:Lo} {F H:Hp} {s:VS} (P:Pre T loc F H s) {a:Addr} {o:HO} (h:H a=none):Pre T loc F (upd H a o) s:=⟨P.R.junk h,P.W⟩
theorem ClD.le {a:Int} {zs:List Int} {c:Vbcnad.Call} (h:ClD a zs c):a≤7∨a=21:=by cases h <;> decide
theorem ClS.le {a:Int} {zs:List Int} {c:Vbcnad.Call} (h:ClS a zs c):¬ a≤7∧a≠21∧(a≤14∨a=16∨a=20):=by cases h <;> decide
theorem ClN.le {a z:Int} {c:Vbcnad.Call} (h:ClN a z c):¬ a≤7∧a≠21∧¬ a≤14∧a≠16∧a≠20∧a≠15∧(a=17∨a=18∨a=19):=by cases h <;> decide
theorem ClT.le {a:Int} {zs:List Int} {c:Vbcnad.Call} (h:ClT a zs c):¬ a≤7∧a≠21∧¬ a≤14∧a≠16∧a≠20∧a≠15∧a≠17∧a≠18∧a≠19:=by cases h <;> decide
noncomputable def m_act (K:W.Frag) (T:Tb):MB:=(.cons (.if_ (.bol false (.cmp .LtE (rI0 fun i j=>.bl (decide (i≤j))) (.var 1) (.glo "BAR" (.int 7))) (.cons (.cmp .Eq rEq (.var 1) (.glo "REBOOT" (.int 21))) .nil)) (.cons (.ret (.call "directory_call" (sp_directory_call K T) (.cons (.var 0) (.cons (.var 1) (.cons (.var 2) .nil)))))
  .nil) .nil)
  (.cons (.if_ (.bol false (.cmp .LtE (rI0 fun i j=>.bl (decide (i≤j))) (.var 1) (.glo "FRAME" (.int 14))) (.cons (.cmp .In rInU (.var 1) (.tup (.cons (.glo "REPORT" (.int 16)) (.cons (.glo "RESTART" (.int 20)) .nil)))) .nil)) (.cons (.ret (.call "switch_call" (sp_switch_call K T) (.cons (.var 0) (.cons (.var 1) (.cons (.var 2) .nil)))))
  .nil) .nil)
  (.cons (.if_ (.cmp .Eq rEq (.var 1) (.glo "TICK" (.int 15))) (.cons (.ret (.call "tick" (sp_tick K T) (.cons (.var 0) (.cons (.ix rIxH (.var 2) (.int 0)) .nil))))
  .nil) .nil)
  (.cons (.if_ (.cmp .In rInU (.var 1) (.tup (.cons (.glo "DELIVER" (.int 17)) (.cons (.glo "LOSE" (.int 18)) (.cons (.glo "DOUBLE" (.int 19)) .nil))))) (.cons (.ret (.call "net_call" (sp_net_call K T) (.cons (.var 0) (.cons (.var 1) (.cons (.ix rIxH (.var 2) (.int 0)) .nil)))))
  .nil) .nil)
  (.cons (.ret (.call "telling_call" (sp_telling_call K T) (.cons (.var 0) (.cons (.var 1) (.cons (.var 2) .nil)))))
  .nil)))))
theorem w_act {K:W.Frag} {T:Tb}:Wk K T (sp_act K T) (m_act K T) ["world","code","row"]:=by
 intro vs H Q E h
 obtain ⟨loc,F,s,code,zs,l,c,rfl,hF,hzs,hc,P,q⟩:=h
 have hl:=P.R.fr _ _ hF
 simp_arith only [m_act,inV2,inV3,two_sz,sz3,HO.tup.injEq]
 cases hc with
 | d h =>
  rcases h.le with e | e
  ·rw [if_pos e]
   exact ⟨loc,F,s,code,zs,l,c,rfl,hF,h,P,q⟩
  ·by_cases e7:code≤7
   ·rw [if_pos e7]
    exact ⟨loc,F,s,code,zs,l,c,rfl,hF,h,P,q⟩
   ·rw [if_neg e7,if_pos e]
    exact ⟨loc,F,s,code,zs,l,c,rfl,hF,h,P,q⟩
 | s h =>
  obtain ⟨e1,e2,e3⟩:=h.le
  rw [if_neg e1,if_neg e2]
  by_cases e14:code≤14
  ·rw [if_pos e14]
   exact ⟨loc,F,s,code,zs,l,c,rfl,hl,h,P,q⟩
  ·rw [if_neg e14]
   intro t ht
   have e4:((16:Int) == code || (20:Int) == code)=true:=by
    rcases e3 with e | e | e
    ·exact absurd e e14
    ·subst e; decide
    ·subst e; decide
   rw [if_pos e4]
   exact ⟨loc,F,s,code,zs,l,c,rfl,jaf hl ht,h,P.junk ht,q⟩
 | tick n =>
  rw [if_neg (by decide),if_neg (by decide),if_neg (by decide)]
  intro t ht
  rw [if_neg (by decide)]
  have hl2:=jaf (o:=.tup [.int 16,.int 20]) hl ht
  simp only [List.map_cons,List.map_nil] at hl2
  simp_arith only [hl2,HO.lst.injEq,atI_0]
  exact ⟨loc,F,s,n,rfl,P.junk ht,q⟩
 | @n _ z _ h =>
  obtain ⟨e1,e2,e3,e4,e5,e6,e7⟩:=h.le
  rw [if_neg e1,if_neg e2,if_neg e3]
  intro t ht
  rw [if_neg (by simp; omega),if_neg e6]
  intro t2 ht2
  rw [if_pos (by simp; omega)]
  have hl2:=jaf (o:=.tup [.int 17,.int 18,.int 19]) (jaf (o:=.tup [.int 16,.int 20]) hl ht) ht2
  simp only [List.map_cons,List.map_nil] at hl2
  simp_arith only [hl2,HO.lst.injEq,atI_0]
  have hz:=hzs z (by simp)
  exact ⟨loc,F,s,code,z,c,rfl,h,(P.junk ht).junk ht2,hz.1,hz.2,q⟩
 | t h =>
  obtain ⟨e1,e2,e3,e4,e5,e6,e7,e8,e9⟩:=h.le
  rw [if_neg e1,if_neg e2,if_neg e3]
  intro t ht
  rw [if_neg (by simp; omega),if_neg e6]
  intro t2 ht2
  rw [if_neg (by simp; omega)]
  exact ⟨loc,F,s,code,zs,l,c,rfl,jaf (jaf hl ht) ht2,h,(P.junk ht).junk ht2,q⟩
section
variable {k:Nat} {s s':VS} {p q:Nat} {y z:Vbcnad.Port}
theorem WF.mono (W:WF k s):WF (k+1) s:={ W with bk:=Nat.le_succ_of_le W.bk,cl:=Nat.le_succ_of_le W.cl }
theorem np_of (W:WF k s) (h:∀ n p,NP s' n p→NP s n p):(∀ n p q,NP s' n p→NP s' n q→p=q)∧∀ n p,NP s' n p→n≤s.book :=
 ⟨fun n p q a b=>W.np n p q (h n p a) (h n q b),fun n p a=>W.nb n p (h n p a)⟩
theorem WF.bag (W:WF k s) {b:List Vbcnad.Msg} {l:Nat} (h1:b.length≤s.cfg.bag) (h2:∀ m ∈ b,MOk s.ports.length m) (h3:∀ n p a v l g,Vbcnad.Msg.yes p a n v l g ∈ b→NP s n p):WF k { s with bag:=b,lost:=l }:=by
 have h:∀ n p,NP { s with bag:=b,lost:=l } n p→NP s n p:=fun n p h=>by
  rcases h with ⟨m,hm,a,v,l,g,rfl⟩ | h | h
  ·exact h3 n p a v l g hm
  ·exact .inr (.inl h)
  ·exact .inr (.inr h)
 obtain ⟨n1,n2⟩:=np_of W h
 exact { W with bg:=h1,ms:=h2,np:=n1,nb:=n2 }
theorem WF.send (W:WF k s) {m:Vbcnad.Msg} (h:MOk s.ports.length m) (hy:∀ p a n v l g,m=.yes p a n v l g→NP s n p):WF k (Vbcnad.send s m):=by
 unfold Vbcnad.send
 split
 ·rename_i hlt
  refine W.bag (b:=s.bag ++ [m]) (l:=s.lost) (by simp; omega) (fun x hx=>?_) (fun n p a v l g hx=>?_)
  ·rcases List.mem_append.mp hx with hx | hx
   ·exact W.ms x hx
   ·rw [List.mem_singleton.mp hx]; exact h
  ·rcases List.mem_append.mp hx with hx | hx
   ·exact .inl ⟨_,hx,a,v,l,g,rfl⟩
   ·exact hy p a n v l g (List.mem_singleton.mp hx).symm
 ·exact W.bag (b:=s.bag) (l:=s.lost+1) W.bg W.ms (fun n p a v l g hx=>.inl ⟨_,hx,a,v,l,g,rfl⟩)
theorem WF.sends:∀ {l:List Vbcnad.Msg} {s:VS},WF k s→(∀ m ∈ l,MOk s.ports.length m∧∀ p a n v l g,m≠.yes p a n v l g)→WF k (Vbcnad.sends s l)
 | [],_,W,_=>W
 | m :: l,s,W,h=>by
  have h1:=h m List.mem_cons_self
  refine WF.sends (l:=l) (s:=Vbcnad.send s m) (W.send h1.1 fun p a n v l g e=>absurd e (h1.2 p a n v l g)) fun x hx=>?_
  rw [jbj]; exact h x (List.mem_cons_of_mem _ hx)
theorem WF.erase (W:WF k s) (i:Nat):WF k { s with bag:=s.bag.eraseIdx i } :=
 W.bag (b:=s.bag.eraseIdx i) (l:=s.lost) (Nat.le_trans (by rw [List.length_eraseIdx]; split <;> omega) W.bg) (fun m hm=>W.ms m (List.mem_of_mem_eraseIdx hm)) (fun n p a v l g hm=>.inl ⟨_,List.mem_of_mem_eraseIdx hm,a,v,l,g,rfl⟩)
noncomputable def isS (y:Vbcnad.Port):Nat:=if y.sess.isSome=true then 1 else 0
theorem liv_ch:∀ {l:List Vbcnad.Port} {p:Nat} {y z:Vbcnad.Port},l[p]? = some y→((Vbcnad.changeAt l p fun _=>z).filter fun x=>x.sess.isSome).length+isS y=(l.filter fun x=>x.sess.isSome).length+isS z
 | [],p,y,z,h=>by simp at h
 | x :: l,0,y,z,h=>by
  simp at h; subst h
  show ((z :: l).filter _).length+isS x=((x :: l).filter _).length+isS z
  rw [List.filter_cons,List.filter_cons]
  unfold isS
  cases x.sess <;> cases z.sess <;> simp
 | x :: l,p+1,y,z,h=>by
  have ih:=liv_ch (l:=l) (p:=p) (y:=y) (z:=z) (by simpa using h)
  show ((x :: Vbcnad.changeAt l p fun _=>z).filter _).length+isS y=((x :: l).filter _).length+isS z
  rw [List.filter_cons,List.filter_cons]
  by_cases hx:x.sess.isSome=true
  ·rw [if_pos hx,if_pos hx,List.length_cons,List.length_cons]; omega
  ·rw [if_neg hx,if_neg hx]; exact ih
theorem jas {α:Type} {f:α→α}:∀ {l:List α} {p:Nat} {y:α},l[p]? = some y→Vbcnad.changeAt l p f=Vbcnad.changeAt l p fun _=>f y
 | [],_,_,h=>by simp at h
 | x :: l,0,y,h=>by simp at h; subst h; rfl
 | x :: l,p+1,y,h=>congrArg (x :: ·) (jas (l:=l) (by simpa using h))
theorem WF.port (W:WF k s) (hy:s.ports[p]? = some y) {e:List (Nat×Nat)} (hin:z.phase=.inside→z.sess≠none) (hle:Vbcnad.living s+isS z+e.length≤1024+isS y)
  (hnum:∀ x,z.sess=some x→(∀ q,NP s x.num q→q=p)∧x.num≤s.book):WF k { s with ports:=Vbcnad.changeAt s.ports p fun _=>z,ended:=e }:=by
 have hl:(Vbcnad.changeAt s.ports p fun _=>z).length=s.ports.length:=ch_len
 have get:∀ q w,(Vbcnad.changeAt s.ports p fun _=>z)[q]? = some w→(q=p∧w=z)∨(q≠p∧s.ports[q]? = some w):=fun q w h=>by
  by_cases e:q=p
  ·subst e; rw [jaj hy] at h; cases h; exact .inl ⟨rfl,rfl⟩
  ·rw [ch_ne e] at h; exact .inr ⟨e,h⟩
 have npp:∀ n q,NP { s with ports:=Vbcnad.changeAt s.ports p fun _=>z,ended:=e } n q→NP s n q∨(q=p∧∃ x,z.sess=some x∧x.num=n):=fun n q h=>by
  rcases h with h | h | ⟨w,x,h1,h2,h3⟩
  ·exact .inl (.inl h)
  ·exact .inl (.inr (.inl h))
  ·rcases get q w h1 with ⟨e1,e2⟩ | ⟨_,e2⟩
   ·subst e2; exact .inr ⟨e1,x,h2,h3⟩
   ·exact .inl (.inr (.inr ⟨w,x,e2,h2,h3⟩))
 exact { W with
  pl:=by show (Vbcnad.changeAt s.ports p fun _=>z).length≤64; rw [hl]; exact W.pl
  inn:=fun q w h hph=>by
   rcases get q w h with ⟨_,e2⟩ | ⟨_,e2⟩
   ·subst e2; exact hin hph
   ·exact W.inn q w e2 hph
  le:=by
   show ((Vbcnad.changeAt s.ports p fun _=>z).filter fun x=>x.sess.isSome).length+e.length≤1024
   have:=liv_ch (z:=z) hy
   unfold Vbcnad.living at hle
   omega
  ap:=fun a ha=>⟨by show a.port < (Vbcnad.changeAt s.ports p fun _=>z).length; rw [hl]; exact (W.ap a ha).1,(W.ap a ha).2⟩
  ms:=fun m hm=>by show MOk (Vbcnad.changeAt s.ports p fun _=>z).length m; rw [hl]; exact W.ms m hm
  np:=fun n a b h1 h2=>by
   rcases npp n a h1 with r1 | ⟨e1,x1,g1,g2⟩ <;> rcases npp n b h2 with r2 | ⟨e2,x2,g3,g4⟩
   ·exact W.np n a b r1 r2
   ·rw [← g4] at r1; rw [e2]; exact (hnum x2 g3).1 a r1
   ·rw [← g2] at r2; rw [e1]; exact ((hnum x1 g1).1 b r2).symm
   ·rw [e1,e2]
  nb:=fun n a h=>by
   rcases npp n a h with h | ⟨_,x,g1,g2⟩
   ·exact W.nb n a h
   ·subst g2; exact (hnum x g1).2 }
theorem jbz {x:Vbcnad.Port} (h:x.sess=none):isS x=0:=by simp [isS,h]
theorem jaz {x:Vbcnad.Port} {u:Vbcnad.Sess} (h:x.sess=some u):isS x=1:=by simp [isS,h]
theorem WF.num (W:WF k s) (hy:s.ports[p]? = some y) {x:Vbcnad.Sess} (hx:y.sess=some x):(∀ q,NP s x.num q→q=p)∧x.num≤s.book :=
 have h:NP s x.num p:=.inr (.inr ⟨y,x,hy,hx,rfl⟩)
 ⟨fun q hq=>W.np _ _ _ hq h,W.nb _ _ h⟩
theorem WF.phase (W:WF k s) (hy:s.ports[p]? = some y) {ph:Vbcnad.Phase} (h:ph=.inside→y.sess≠none):WF k (Vbcnad.phaseAt s p ph):=by
 have:=W.port hy (z:={ y with phase:=ph }) (e:=s.ended) h (by have:=W.le; show _+isS y+_≤_; omega) (fun x hx=>W.num hy hx)
 have e:Vbcnad.phaseAt s p ph={ s with ports:=Vbcnad.changeAt s.ports p fun _=>{ y with phase:=ph },ended:=s.ended }:=by
  unfold Vbcnad.phaseAt Vbcnad.onPort
  rw [jas hy]
 rw [e]; exact this
theorem jck (hy:s.ports[p]? = some y) {ph:Vbcnad.Phase}:Vbcnad.phaseAt (Vbcnad.endAt s p) p ph={ s with ports:=Vbcnad.changeAt s.ports p fun _=>{ y with sess:=none,phase:=ph },ended:=s.ended ++ (y.sess.toList.map fun x=>(x.num,x.frames)) }:=by
 unfold Vbcnad.endAt
 rw [jac hy]
 cases hx:y.sess with
 | none =>
  unfold Vbcnad.phaseAt Vbcnad.onPort
  simp only [jas hy,Option.toList_none,List.map_nil,List.append_nil]
  rw [← hx]
 | some x =>
  unfold Vbcnad.phaseAt Vbcnad.onPort
  simp only [ch_ch,Option.toList_some,List.map_cons,List.map_nil]
  rw [jas hy]
theorem WF.endPh (W:WF k s) (hy:s.ports[p]? = some y) {ph:Vbcnad.Phase} (h:ph≠.inside):WF k (Vbcnad.phaseAt (Vbcnad.endAt s p) p ph):=by
 rw [jck hy]
 refine W.port hy (fun e=>absurd e h) ?_ (fun x hx=>by cases hx)
 have:=W.le
 rw [jbz rfl,List.length_append,List.length_map]
 cases hx:y.sess with
 | none=>rw [jbz hx]; simp; omega
 | some x=>rw [jaz hx]; simp; omega
theorem jbx (hy:s.ports[p]? = some y):Vbcnad.putOut s p=Vbcnad.phaseAt (Vbcnad.endAt s p) p (if y.phase=.inside then Vbcnad.askingAt s else y.phase):=by
 unfold Vbcnad.putOut
 have h1:=jap hy
 simp only [jac h1]
 by_cases h:y.phase=.inside
 ·rw [if_pos h,if_pos h,ja0]
 ·rw [if_neg h,if_neg h]
  unfold Vbcnad.phaseAt Vbcnad.onPort
  rw [jas h1]
  have:Vbcnad.changeAt (Vbcnad.endAt s p).ports p (fun _=>({ y with sess:=none }:Vbcnad.Port))=(Vbcnad.endAt s p).ports:=by
   apply List.ext_getElem?
   intro i
   rw [ch_get]
   by_cases e:i=p
   ·subst e; rw [if_pos rfl,h1]; rfl
   ·rw [if_neg e]
  rw [this]
theorem ask_ne {s:VS}:Vbcnad.askingAt s≠.inside:=by unfold Vbcnad.askingAt; intro h; cases h
theorem held_ne {s:VS}:Vbcnad.heldAt s≠.inside:=by unfold Vbcnad.heldAt; intro h; cases h
theorem WF.putOut (W:WF k s) (hy:s.ports[p]? = some y):WF k (Vbcnad.putOut s p):=by
 rw [jbx hy]
 refine W.endPh hy ?_
 split
 ·exact ask_ne
 ·assumption
theorem WF.denied (W:WF k s) (hy:s.ports[p]? = some y):WF k (Vbcnad.denied s p):=W.endPh hy held_ne
theorem WF.given (W:WF k s) (hy:s.ports[p]? = some y):WF k (Vbcnad.given s p):=by
 unfold Vbcnad.given
 rw [jac hy]
 cases hx:y.sess with
 | none=>exact W.phase hy (fun e=>absurd e held_ne)
 | some x =>
  simp only []
  have:=W.port hy (z:={ y with phase:=.inside,sess:=some { x with again:=s.now+s.cfg.hold } }) (e:=s.ended) (fun _=>by simp) (by have:=W.le; rw [jaz hx,jaz rfl]; omega) (fun u hu=>by cases hu; show (∀ q,NP s x.num q→q=p)∧x.num≤s.book; exact W.num hy hx)
  have e:(Vbcnad.onPort s p fun y=>{ y with phase:=.inside,sess:=some { x with again:=s.now+s.cfg.hold } })={ s with ports:=Vbcnad.changeAt s.ports p fun _=>{ y with phase:=.inside,sess:=some { x with again:=s.now+s.cfg.hold } },ended:=s.ended }:=by
   unfold Vbcnad.onPort
   rw [jas hy]
  rw [e]; exact this
theorem WF.outs:∀ {l:List Nat} {s:VS},WF k s→(∀ q ∈ l,q < s.ports.length)→WF k (l.foldl Vbcnad.putOut s)
 | [],_,W,_=>W
 | q :: l,s,W,h=>by
  obtain ⟨y,hy⟩:=jan (h q List.mem_cons_self)
  exact WF.outs (l:=l) (W.putOut hy) fun r hr=>by rw [jav]; exact h r (List.mem_cons_of_mem _ hr)
theorem WF.looks (W:WF k s) (hp:p < s.ports.length):WF k (Vbcnad.looks s p):=by
 obtain ⟨y,hy⟩:=jan hp
 rw [jay]
 have W1:WF k (looks1 s p):=by
  unfold looks1
  rw [jac hy]
  split
  ·split
   ·exact W.putOut hy
   ·exact W
  ·exact W
 have hp1:p < (looks1 s p).ports.length:=by rw [jbq]; exact hp
 generalize looks1 s p=u at W1 hp1
 obtain ⟨z,hz⟩:=jan hp1
 unfold looks2
 rw [jac hz]
 split
 ·split
  ·exact W1
  ·split
   ·exact W1.phase hz (fun e=>by cases e)
   ·split
    ·exact W1.denied hz
    ·split
     ·exact W1.phase hz (fun e=>absurd e held_ne)
     ·exact W1.phase hz (fun e=>by cases e)
 ·split
  ·exact W1
  ·split
   ·refine (W1.phase hz (fun e=>by cases e)).send ?_ (fun _ _ _ _ _ _ e=>by cases e)
    show p < (Vbcnad.changeAt u.ports p _).length
    rw [ch_len]; exact hp1
   ·exact W1.given hz
 ·split
  ·exact W1
  ·exact W1.denied hz
 ·split
  ·exact W1
  ·split
   ·exact (W1.phase hz (fun e=>by cases e)).send trivial (fun _ _ _ _ _ _ e=>by cases e)
   ·exact W1.given hz
 ·split
  ·exact W1
  ·exact W1.phase hz (fun e=>absurd e ask_ne)
 ·split
  ·split
   ·exact W1
   ·exact W1.phase hz (fun e=>absurd e ask_ne)
  ·exact W1
 ·exact W1
theorem WF.lks:∀ {i:Nat} {s:VS},WF k s→i≤s.ports.length→WF k ((List.range i).foldl Vbcnad.looks s)
 | 0,_,W,_=>W
 | i+1,s,W,h=>by
  rw [List.range_succ,List.foldl_append]
  exact WF.looks (WF.lks W (by omega)) (by rw [jcj]; omega)
theorem WF.less (W:WF k s) (f:Vbcnad.Ask→Bool) (g:Vbcnad.Opened→Bool):WF k { s with asks:=s.asks.filter f,opened:=s.opened.filter g }:=by
 have h:∀ n p,NP { s with asks:=s.asks.filter f,opened:=s.opened.filter g } n p→NP s n p:=fun n p h=>by
  rcases h with h | ⟨a,ha,h⟩ | h
  ·exact .inl h
  ·exact .inr (.inl ⟨a,(List.mem_filter.mp ha).1,h⟩)
  ·exact .inr (.inr h)
 obtain ⟨n1,n2⟩:=np_of W h
 exact { W with
  an:=by
   show ((s.asks.filter f).map (·.n)).Nodup
   exact List.Nodup.sublist (List.Sublist.map _ List.filter_sublist) W.an
  al:=Nat.le_trans (List.length_filter_le _ _) W.al
  ap:=fun a ha=>W.ap a (List.mem_filter.mp ha).1
  ol:=Nat.le_trans (List.length_filter_le _ _) W.ol
  np:=n1,nb:=n2 }
theorem WF.clock (W:WF k s) (n:Nat):WF k { s with now:=n }:={ W with np:=W.np,nb:=W.nb }
end
section
variable {k:Nat} {s s':VS} {p q:Nat} {y z:Vbcnad.Port} {x x':Vbcnad.Person}
theorem srt_map (h:Srt s.persons) (hx:x ∈ s.persons) (e:x'.id=x.id):Srt (Vbcnad.putPerson x' s.persons):=by
 rw [ja4 h hx e]
 unfold Srt
 rw [List.pairwise_map]
 refine h.imp fun {a b} hab=>?_
 have f:∀ w:Vbcnad.Person,(if w.id=x'.id then x' else w).id=w.id:=fun w=>by split <;> simp_all
 rw [f,f]; exact hab
theorem WF.pers (W:WF k s) (hx:x ∈ s.persons) (e:x'.id=x.id) (hg:x'.groups.Pairwise (· < ·)∧∀ g ∈ x'.groups,g < 64) (hs:x'.secret < 2 ^ 61):WF k (Vbcnad.onPerson s x'):=by
 have hm:=fun w hw=>ja9 (s:=s) (y:=w) W.ps hx e hw
 exact { W with
  ps:=srt_map W.ps hx e
  pn:=by
   show (Vbcnad.putPerson x' s.persons).length≤256
   rw [ja4 W.ps hx e,List.length_map]; exact W.pn
  pg:=fun w hw=>by
   rcases hm w hw with ⟨rfl,_⟩ | ⟨h,_⟩
   ·exact hg
   ·exact W.pg w h
  pi:=fun w hw=>by
   rcases hm w hw with ⟨rfl,h⟩ | ⟨h,_⟩
   ·exact ⟨by rw [h]; exact (W.pi x hx).1,hs⟩
   ·exact W.pi w h
  np:=W.np,nb:=W.nb }
theorem put_sorted:∀ {l:List Vbcnad.Person},Srt l→(∀ y ∈ l,y.id≠x.id)→Srt (Vbcnad.putPerson x l)
 | [],_,_=>List.pairwise_singleton _ _
 | c :: l,h,hn=>by
  have h':=List.pairwise_cons.mp h
  unfold Vbcnad.putPerson
  rw [if_neg (fun z=>hn c List.mem_cons_self z.symm)]
  split
  ·rename_i hlt
   refine List.pairwise_cons.mpr ⟨fun w hw=>?_,h⟩
   rcases List.mem_cons.mp hw with rfl | hw
   ·exact hlt
   ·exact Nat.lt_trans hlt (h'.1 w hw)
  ·rename_i hlt
   refine List.pairwise_cons.mpr ⟨fun w hw=>?_,put_sorted h'.2 fun y hy=>hn y (List.mem_cons_of_mem _ hy)⟩
   rcases List.mem_cons.mp ((jch fun y hy=>hn y (List.mem_cons_of_mem _ hy)).mem_iff.mp hw) with rfl | hw
   ·have:=hn c List.mem_cons_self; omega
   ·exact h'.1 w hw
theorem WF.persNew (W:WF k s) (hn:∀ y ∈ s.persons,y.id≠x.id) (hl:s.persons.length < 256) (hg:x.groups=[]) (hi:x.id≤4294967295) (hs:x.secret < 2 ^ 61):WF k (Vbcnad.onPerson s x):=by
 have hp:=jch (x:=x) hn
 have hm:∀ w,w ∈ (Vbcnad.onPerson s x).persons→w=x∨w ∈ s.persons:=fun w hw=>List.mem_cons.mp (hp.mem_iff.mp hw)
 exact { W with
  ps:=put_sorted W.ps hn
  pn:=by
   show (Vbcnad.putPerson x s.persons).length≤256
   rw [hp.length_eq,List.length_cons]; omega
  pg:=fun w hw=>by
   rcases hm w hw with rfl | h
   ·rw [hg]; exact ⟨.nil,fun g hg=>by cases hg⟩
   ·exact W.pg w h
  pi:=fun w hw=>by
   rcases hm w hw with rfl | h
   ·exact ⟨hi,hs⟩
   ·exact W.pi w h
  np:=W.np,nb:=W.nb }
theorem WF.persDrop (W:WF k s) (f:Vbcnad.Person→Bool):WF k { s with persons:=s.persons.filter f } :=
 { W with
  ps:=List.Pairwise.filter _ W.ps
  pn:=Nat.le_trans (List.length_filter_le _ _) W.pn
  pg:=fun w hw=>W.pg w (List.mem_filter.mp hw).1
  pi:=fun w hw=>W.pi w (List.mem_filter.mp hw).1
  np:=W.np,nb:=W.nb }
theorem jby {g:Nat}:∀ {l:List Nat},l.Pairwise (· < ·)→(Vbcnad.putNat g l).Pairwise (· < ·)
 | [],_=>List.pairwise_singleton _ _
 | c :: l,h=>by
  have h':=List.pairwise_cons.mp h
  unfold Vbcnad.putNat
  split
  ·exact h
  ·split
   ·rename_i hlt
    refine List.pairwise_cons.mpr ⟨fun w hw=>?_,h⟩
    rcases List.mem_cons.mp hw with rfl | hw
    ·exact hlt
    ·exact Nat.lt_trans hlt (h'.1 w hw)
   ·refine List.pairwise_cons.mpr ⟨fun w hw=>?_,jby h'.2⟩
    rcases ja6.mp hw with rfl | hw
    ·omega
    ·exact h'.1 w hw
theorem WF.no (W:WF k s) (n:Nat):WF k { s with asks:=s.asks.map fun b=>if b.n=n then { b with reply:=some .no } else b }:=by
 have h:∀ m p,NP { s with asks:=s.asks.map fun b=>if b.n=n then { b with reply:=some .no } else b } m p→NP s m p:=fun m p h=>by
  rcases h with h | ⟨a,ha,h1,v,l,g,h2⟩ | h
  ·exact .inl h
  ·obtain ⟨b,hb,e⟩:=List.mem_map.mp ha
   by_cases q:b.n=n
   ·rw [if_pos q] at e; subst e; cases h2
   ·rw [if_neg q] at e; subst e; exact .inr (.inl ⟨b,hb,h1,v,l,g,h2⟩)
  ·exact .inr (.inr h)
 obtain ⟨n1,n2⟩:=np_of W h
 exact { W with
  an:=by
   show ((s.asks.map fun b=>if b.n=n then { b with reply:=some .no } else b).map (·.n)).Nodup
   rw [List.map_map]
   have:((fun x:Vbcnad.Ask=>x.n) ∘ fun b:Vbcnad.Ask=>if b.n=n then { b with reply:=some .no } else b)=fun b=>b.n:=by
    funext b; simp only [Function.comp]; split <;> rfl
   rw [this]; exact W.an
  al:=by show (s.asks.map _).length≤_; rw [List.length_map]; exact W.al
  ap:=fun a ha=>by
   obtain ⟨b,hb,e⟩:=List.mem_map.mp ha
   by_cases q:b.n=n
   ·rw [if_pos q] at e; subst e; exact W.ap b hb
   ·rw [if_neg q] at e; subst e; exact W.ap b hb
  np:=n1,nb:=n2 }
theorem WF.yes (W:WF k s) {a:Vbcnad.Ask} (ha:a ∈ s.asks) (o:Vbcnad.Opened) (v l g:Nat) :
  WF (k+1) { s with book:=s.book+1,opened:=s.opened ++ [o],asks:=s.asks.map fun b=>if b.n=a.n then { b with reply:=some (.yes (s.book+1) v l g) } else b }:=by
 have h:∀ m p,NP { s with book:=s.book+1,opened:=s.opened ++ [o],asks:=s.asks.map fun b=>if b.n=a.n then { b with reply:=some (.yes (s.book+1) v l g) } else b } m p→NP s m p∨(m=s.book+1∧p=a.port):=fun m p h=>by
  rcases h with h | ⟨c,hc,h1,v',l',g',h2⟩ | h
  ·exact .inl (.inl h)
  ·obtain ⟨b,hb,e⟩:=List.mem_map.mp hc
   by_cases q:b.n=a.n
   ·have:=jb4 W.an hb ha q
    rw [if_pos q] at e; subst e
    cases h2
    exact .inr ⟨rfl,by rw [← h1,this]⟩
   ·rw [if_neg q] at e; subst e; exact .inl (.inr (.inl ⟨b,hb,h1,v',l',g',h2⟩))
  ·exact .inl (.inr (.inr h))
 exact { W with
  an:=by
   show ((s.asks.map fun b=>if b.n=a.n then { b with reply:=some (.yes (s.book+1) v l g) } else b).map (·.n)).Nodup
   rw [List.map_map]
   have:((fun x:Vbcnad.Ask=>x.n) ∘ fun b:Vbcnad.Ask=>if b.n=a.n then { b with reply:=some (.yes (s.book+1) v l g) } else b)=fun b=>b.n:=by
    funext b; simp only [Function.comp]; split <;> rfl
   rw [this]; exact W.an
  al:=by show (s.asks.map _).length≤_; rw [List.length_map]; exact W.al
  ap:=fun c hc=>by
   obtain ⟨b,hb,e⟩:=List.mem_map.mp hc
   have:=W.ap b hb
   by_cases q:b.n=a.n
   ·rw [if_pos q] at e; subst e; exact ⟨this.1,Nat.le_succ_of_le this.2⟩
   ·rw [if_neg q] at e; subst e; exact ⟨this.1,Nat.le_succ_of_le this.2⟩
  bk:=by show s.book+1≤k+1; have:=W.bk; omega
  ol:=by show (s.opened ++ [o]).length≤s.book+1; have:=W.ol; simp; omega
  cl:=Nat.le_succ_of_le W.cl
  np:=fun m p q h1 h2=>by
   rcases h m p h1 with r1 | ⟨e1,e2⟩ <;> rcases h m q h2 with r2 | ⟨e3,e4⟩
   ·exact W.np m p q r1 r2
   ·have:=W.nb m p r1; omega
   ·have:=W.nb m q r2; omega
   ·rw [e2,e4]
  nb:=fun m p h1=>by
   rcases h m p h1 with r1 | ⟨e1,e2⟩
   ·exact Nat.le_succ_of_le (W.nb m p r1)
   ·rw [e1]; exact Nat.le_refl _ }
theorem WF.hello (W:WF k s) {n i h:Nat} (hp:p < s.ports.length):WF (k+1) (Vbcnad.onHello s p n i h):=by
 unfold Vbcnad.onHello
 split
 ·rename_i a hf
  have ha:=List.mem_of_find?_eq_some hf
  split
  ·rename_i r hr
   refine W.mono.send ?_ ?_
   ·cases r <;> exact (W.ap a ha).1
   ·intro p' a' n' v l g e
    cases r with
    | no=>cases e
    | yes u v' l' g'=>cases e; exact .inr (.inl ⟨a,ha,rfl,v,l,g,hr⟩)
  ·exact W.mono.send hp (fun _ _ _ _ _ _ e=>by cases e)
 ·rename_i hf
  split
  ·exact W.mono.send hp (fun _ _ _ _ _ _ e=>by cases e)
  ·split
   ·exact W.mono
   ·rename_i hlt
    have hnew:∀ z ∈ s.asks,z.n≠n:=fun z hz=>by have:=List.find?_eq_none.mp hf z hz; simpa using this
    have W1:WF (k+1) { s with book:=s.book+1,asks:=s.asks ++ [{ n:=n,port:=p,id:=i,hw:=h,c:=s.book+1,over:=s.now+s.cfg.life }] }:=by
     have hnp:∀ m q,NP { s with book:=s.book+1,asks:=s.asks ++ [{ n:=n,port:=p,id:=i,hw:=h,c:=s.book+1,over:=s.now+s.cfg.life }] } m q→NP s m q:=fun m q h=>by
      rcases h with h | ⟨a,ha,h1,v,l,g,h2⟩ | h
      ·exact .inl h
      ·rcases List.mem_append.mp ha with ha | ha
       ·exact .inr (.inl ⟨a,ha,h1,v,l,g,h2⟩)
       ·rw [List.mem_singleton.mp ha] at h2; cases h2
      ·exact .inr (.inr h)
     obtain ⟨n1,n2⟩:=np_of W hnp
     exact { W with
      an:=by
       show (List.map (fun z:Vbcnad.Ask=>z.n) (s.asks ++ [_])).Nodup
       rw [List.map_append,List.nodup_append]
       refine ⟨W.an,by simp,fun u hu v hv e=>?_⟩
       obtain ⟨z,hz,e1⟩:=List.mem_map.mp hu
       simp at hv
       exact hnew z hz (by rw [e1,e,hv])
      al:=by show (s.asks ++ [_]).length≤s.cfg.asks; simp; omega
      ap:=fun a ha=>by
       rcases List.mem_append.mp ha with ha | ha
       ·have:=W.ap a ha; exact ⟨this.1,Nat.le_succ_of_le this.2⟩
       ·rw [List.mem_singleton.mp ha]; exact ⟨hp,Nat.le_refl _⟩
      bk:=by show s.book+1≤k+1; have:=W.bk; omega
      ol:=Nat.le_succ_of_le W.ol
      cl:=Nat.le_succ_of_le W.cl
      np:=n1,nb:=fun m q h=>Nat.le_succ_of_le (n2 m q h) }
    exact W1.send hp (fun _ _ _ _ _ _ e=>by cases e)
theorem WF.answer (W:WF k s) {n c x:Nat}:WF (k+1) (Vbcnad.onAnswer s n c x):=by
 unfold Vbcnad.onAnswer
 split
 ·exact W.mono
 ·rename_i a hf
  have ha:=List.mem_of_find?_eq_some hf
  have hn:a.n=n:=by have:=List.find?_some hf; simp at this; exact this.1
  split
  ·rename_i r hr
   refine W.mono.send ?_ ?_
   ·cases r <;> exact (W.ap a ha).1
   ·intro p' a' n' v l g e
    cases r with
    | no=>cases e
    | yes u v' l' g'=>cases e; exact .inr (.inl ⟨a,ha,rfl,v,l,g,hr⟩)
  ·have key:WF (k+1) { (Vbcnad.decides s a x).1 with asks:=(Vbcnad.decides s a x).1.asks.map fun b=>if b.n=n then { b with reply:=some (Vbcnad.decides s a x).2 } else b }:=by
    unfold Vbcnad.decides
    split
    ·exact (W.no n).mono
    ·rename_i y hm
     obtain ⟨py,_,_⟩:=mayBe_some hm
     split
     ·refine (WF.no (WF.pers W py ?_ ?_ ?_) n).mono
      ·split <;> rfl
      ·split <;> exact W.pg y py
      ·split <;> exact (W.pi y py).2
     ·have W1:WF k (Vbcnad.onPerson s { y with wrong:=0 }):=W.pers py rfl (W.pg y py) (W.pi y py).2
      split
      ·exact (W1.no n).mono
      ·rename_i r hr
       have:=W1.yes (a:=a) ha ⟨s.book+1,a.id,a.hw,a.port,s.now+r.len⟩ r.vlan r.len r.again
       rw [hn] at this
       exact this
   have hport:({ (Vbcnad.decides s a x).1 with asks:=(Vbcnad.decides s a x).1.asks.map fun b=>if b.n=n then { b with reply:=some (Vbcnad.decides s a x).2 } else b }:VS).ports=s.ports:=by
    unfold Vbcnad.decides
    split
    ·rfl
    ·split
     ·rfl
     ·split <;> rfl
   have hasks:(Vbcnad.decides s a x).1.asks=s.asks:=jb1.1
   generalize hd:Vbcnad.decides s a x=d at key hport hasks ⊢
   obtain ⟨d1,d2⟩:=d
   simp only [] at key hport hasks ⊢
   have W2:WF (k+1) (Vbcnad.send { d1 with asks:=d1.asks.map fun b=>if b.n=n then { b with reply:=some d2 } else b } (Vbcnad.replyMsg a d2)):=by
    refine key.send ?_ ?_
    ·rw [hport]; cases d2 <;> exact (W.ap a ha).1
    ·intro p' a' n' v l g e
     cases d2 with
     | no=>cases e
     | yes u v' l' g' =>
      cases e
      exact .inr (.inl ⟨{ a with reply:=some (.yes n' v l g) },List.mem_map.mpr ⟨a,by rw [hasks]; exact ha,if_pos hn⟩,rfl,v,l,g,rfl⟩)
   split
   ·exact W2
   ·refine W2.sends fun m hm=>?_
    obtain ⟨o,_,rfl⟩:=List.mem_map.mp hm
    exact ⟨trivial,fun _ _ _ _ _ _ e=>by cases e⟩
theorem charge_mem {num f:Nat} {c:Bool}:∀ {l:List Vbcnad.Account} {a:Vbcnad.Account},a ∈ Vbcnad.charge num f c l→a.num=num∨a ∈ l
 | [],a,h=>by unfold Vbcnad.charge at h; rw [List.mem_singleton.mp h]; exact .inl rfl
 | b :: l,a,h=>by
  unfold Vbcnad.charge at h
  split at h
  ·rcases List.mem_cons.mp h with rfl | h
   ·exact .inl rfl
   ·exact .inr (List.mem_cons_of_mem _ h)
  ·rcases List.mem_cons.mp h with rfl | h
   ·exact .inr List.mem_cons_self
   ·rcases charge_mem h with h | h
    ·exact .inl h
    ·exact .inr (List.mem_cons_of_mem _ h)
theorem charge_wf {num f:Nat} {c:Bool}:∀ {l:List Vbcnad.Account},(l.map (·.num)).Nodup→((Vbcnad.charge num f c l).map (·.num)).Nodup∧(Vbcnad.charge num f c l).length≤l.length+1
 | [],_=>by simp [Vbcnad.charge]
 | b :: l,h=>by
  rw [List.map_cons,List.nodup_cons] at h
  unfold Vbcnad.charge
  split
  ·rename_i e
   rw [List.map_cons,List.nodup_cons]
   exact ⟨⟨by rw [← e]; exact h.1,h.2⟩,by simp⟩
  ·rename_i e
   have ih:=charge_wf (num:=num) (f:=f) (c:=c) h.2
   rw [List.map_cons,List.nodup_cons]
   refine ⟨⟨fun hm=>?_,ih.1⟩,by simp; omega⟩
   obtain ⟨a,ha,ea⟩:=List.mem_map.mp hm
   rcases charge_mem ha with h1 | h1
   ·exact e (by rw [← ea,h1])
   ·exact h.1 (List.mem_map.mpr ⟨a,h1,ea⟩)
theorem WF.count (W:WF k s) {num f:Nat} {c:Bool}:WF (k+1) (Vbcnad.onCount s num f c):=by
 have hc:=charge_wf (num:=num) (f:=f) (c:=c) W.cn
 have W1:WF (k+1) { s with accounts:=Vbcnad.charge num f c s.accounts } :=
  { W with
   bk:=Nat.le_succ_of_le W.bk
   cl:=by show (Vbcnad.charge num f c s.accounts).length≤k+1; have:=W.cl; omega
   cn:=hc.1
   np:=W.np,nb:=W.nb }
 unfold Vbcnad.onCount
 simp only []
 split
 ·have W2:=W1.less (fun _=>true) (fun o=>o.num != num)
  have e:({ s with accounts:=Vbcnad.charge num f c s.accounts }:VS).asks.filter (fun _=>true)=s.asks:=List.filter_eq_self.mpr fun _ _=>rfl
  rw [e] at W2
  exact W2.send trivial (fun _ _ _ _ _ _ e=>by cases e)
 ·exact W1
noncomputable def tot (s:VS):Nat:=Vbcnad.living s+s.ended.length
theorem tot_end (hy:s.ports[p]? = some y) {ph:Vbcnad.Phase}:tot (Vbcnad.phaseAt (Vbcnad.endAt s p) p ph)=tot s:=by
 rw [jck hy]
 unfold tot Vbcnad.living
 have:=liv_ch (z:={ y with sess:=none,phase:=ph }) hy
 rw [jbz (x:={ y with sess:=none,phase:=ph }) rfl] at this
 simp only [List.length_append,List.length_map]
 cases hx:y.sess with
 | none=>rw [jbz hx] at this; simp; omega
 | some x=>rw [jaz hx] at this; simp; omega
theorem np_end (hy:s.ports[p]? = some y) {ph:Vbcnad.Phase} (n q:Nat) (h:NP (Vbcnad.phaseAt (Vbcnad.endAt s p) p ph) n q):NP s n q:=by
 rw [jck hy] at h
 rcases h with h | h | ⟨w,x,h1,h2,h3⟩
 ·exact .inl h
 ·exact .inr (.inl h)
 ·have h1:(Vbcnad.changeAt s.ports p _)[q]? = some w:=h1
  by_cases e:q=p
  ·subst e; rw [jaj hy] at h1; cases h1; cases h2
  ·rw [ch_ne e] at h1; exact .inr (.inr ⟨w,x,h1,h2,h3⟩)
theorem outs_tot:∀ {l:List Nat} {s:VS},(∀ q ∈ l,q < s.ports.length)→tot (l.foldl Vbcnad.putOut s)=tot s∧(l.foldl Vbcnad.putOut s).book=s.book∧∀ n q,NP (l.foldl Vbcnad.putOut s) n q→NP s n q
 | [],_,_=>⟨rfl,rfl,fun _ _ h=>h⟩
 | r :: l,s,h=>by
  obtain ⟨y,hy⟩:=jan (h r List.mem_cons_self)
  obtain ⟨a1,a2,a3⟩:=outs_tot (l:=l) (s:=Vbcnad.putOut s r) fun q hq=>by rw [jav]; exact h q (List.mem_cons_of_mem _ hq)
  rw [List.foldl_cons]
  refine ⟨a1.trans (by rw [jbx hy]; exact tot_end hy),a2.trans (by rw [jbx hy,jck hy]),fun n q hn=>?_⟩
  have:=a3 n q hn
  rw [jbx hy] at this
  exact np_end hy n q this
theorem WF.onYes (W:WF k s) {n num v l g:Nat} (hp:p < s.ports.length) (hnum:(∀ q,NP s num q→q=p)∧num≤s.book):WF k (Vbcnad.onYes s p n num v l g):=by
 obtain ⟨y,hy⟩:=jan hp
 unfold Vbcnad.onYes
 rw [jac hy]
 split
 ·rename_i m id hw c x sent lf' due hph
  split
  ·exact W
  ·split
   ·exact W.given hy
   ·rename_i hc
    have hr:Vbcnad.living s+s.ended.length < s.cfg.records:=by
     have:¬ s.cfg.records≤Vbcnad.living s+s.ended.length:=fun h=>hc (.inr h)
     omega
    have hlt:∀ q ∈ Vbcnad.elsewhere s p hw,q < s.ports.length:=fun q hq=>by
     unfold Vbcnad.elsewhere at hq
     have:=(List.mem_filter.mp hq).1
     simpa using this
    have hne:p ∉ Vbcnad.elsewhere s p hw:=by simp [Vbcnad.elsewhere]
    obtain ⟨t1,t2,t3⟩:=outs_tot hlt
    have W1:=W.outs hlt
    have hy1:((Vbcnad.elsewhere s p hw).foldl Vbcnad.putOut s).ports[p]? = some y:=by rw [jbk hne]; exact hy
    generalize (Vbcnad.elsewhere s p hw).foldl Vbcnad.putOut s=t at W1 hy1 t1 t2 t3
    have e:(Vbcnad.onPort (Vbcnad.endAt t p) p fun y=>{ y with phase:=.inside,sess:=some { num:=num,id:=id,hw:=hw,vlan:=v,until_:=sent+l,again:=s.now+g } })={ t with ports:=Vbcnad.changeAt t.ports p fun _=>{ y with phase:=.inside,sess:=some { num:=num,id:=id,hw:=hw,vlan:=v,until_:=sent+l,again:=s.now+g } },ended:=t.ended ++ (y.sess.toList.map fun x=>(x.num,x.frames)) }:=by
     unfold Vbcnad.endAt
     rw [jac hy1]
     cases hx:y.sess with
     | none =>
      unfold Vbcnad.onPort
      simp only [Option.toList_none,List.map_nil,List.append_nil]
      rw [jas hy1]
     | some x =>
      unfold Vbcnad.onPort
      simp only [ch_ch,Option.toList_some,List.map_cons,List.map_nil]
      rw [jas hy1]
    simp only [e]
    refine W1.port hy1 (fun _=>by simp) ?_ (fun x hx=>?_)
    ·have hcr:=W.cr
     unfold tot at t1
     rw [jaz rfl,List.length_append,List.length_map]
     cases hx:y.sess with
     | none=>rw [jbz hx]; simp; omega
     | some x=>rw [jaz hx]; simp; omega
    ·cases hx
     exact ⟨fun q hq=>hnum.1 q (t3 _ _ hq),by rw [t2]; exact hnum.2⟩
 ·exact W
theorem WF.takes (W:WF k s) {m:Vbcnad.Msg} (hm:MOk s.ports.length m) (hy:∀ p a n v l g,m=.yes p a n v l g→(∀ q,NP s n q→q=p)∧n≤s.book):WF (k+1) (Vbcnad.takes s m):=by
 cases m with
 | hello p n i h=>exact W.hello hm
 | answer n c x=>exact W.answer
 | count u f c=>exact W.count
 | ask p n c =>
  obtain ⟨y,hy⟩:=jan hm
  refine WF.mono ?_
  show WF k (Vbcnad.onAsk s p n c)
  unfold Vbcnad.onAsk
  split
  ·split
   ·exact W.phase hy (fun e=>by cases e)
   ·exact W
  ·exact W
 | yes p n u v l g=>exact (W.onYes hm (hy p n u v l g rfl)).mono
 | no p n =>
  obtain ⟨y,hy⟩:=jan hm
  refine WF.mono ?_
  show WF k (Vbcnad.onNo s p n)
  unfold Vbcnad.onNo
  split
  ·split
   ·exact W.denied hy
   ·exact W
  ·split
   ·exact W.denied hy
   ·exact W
  ·exact W
 | over u =>
  refine WF.mono ?_
  show WF k (Vbcnad.onOver s u)
  unfold Vbcnad.onOver
  split
  ·rename_i q hq
   have:=List.mem_of_find?_eq_some hq
   obtain ⟨y,hy⟩:=jan (s:=s) (p:=q) (by simpa using this)
   exact W.putOut hy
  ·exact W
 | got u f =>
  refine WF.mono ?_
  show WF k { s with ended:=s.ended.filter fun x=>!(x.1 == u && x.2 == f) }
  have hle:Vbcnad.living s+(s.ended.filter fun x=>!(x.1 == u && x.2 == f)).length≤1024:=by
   have:=W.le
   have:=List.length_filter_le (fun x:Nat×Nat=>!(x.1 == u && x.2 == f)) s.ended
   omega
  exact { W with le:=hle,np:=W.np,nb:=W.nb }
end
section
variable {k:Nat} {s:VS}
theorem WF.overs (W:WF k s) (l:List Vbcnad.Opened):WF k (Vbcnad.sends s (l.map fun o=>.over o.num)) :=
 W.sends fun m hm=>by
  obtain ⟨o,_,rfl⟩:=List.mem_map.mp hm
  exact ⟨trivial,fun _ _ _ _ _ _ e=>by cases e⟩
theorem WF.ask (W:WF k s) (f:Vbcnad.Person→Bool):True:=trivial
theorem doD (W:WF k s) {code:Int} {zs:List Int} {c:Vbcnad.Call} (h:ClD code zs c):WF (k+1) (Vbcnad.doing s c).1:=by
 refine WF.mono ?_
 have pc:=jam s (fun x hx=>(W.pi x hx).1)
 cases h with
 | person i x h =>
  (unfold Vbcnad.doing; dsimp only)
  split
  ·exact W
  ·rename_i hb
   split
   ·exact W
   ·rename_i hi
    split
    ·exact W
    ·split
     ·exact W
     ·rename_i hl
      simp only [Bool.not_eq_false,Bool.and_eq_true] at hb
      obtain ⟨n,rfl⟩:=jcr hb.1
      have e1:=hb.1
      have e2:=hb.2.1
      obtain ⟨xn,rfl⟩:=jcp hb.2.1
      unfold Vbcnad.isId Vbcnad.within at e1
      unfold Vbcnad.isSecret Vbcnad.within Vbcnad.P61 at e2
      simp only [Bool.and_eq_true,decide_eq_true_eq] at e1 e2
      refine W.persNew (fun y hy e=>?_) (by omega) rfl (by show (n:Int).toNat≤_; omega) (by show (xn:Int).toNat < _; omega)
      rcases pc (n:Int) with ⟨p1,_,p3⟩ | ⟨z,pz,pe,_,pf⟩
      ·exact p3 y hy (by have e:y.id=(n:Int).toNat:=e; omega)
      ·rw [Int.toNat_natCast,show n=z.id by omega,pf] at hi
       exact hi rfl
 | unperson i =>
  (unfold Vbcnad.doing; dsimp only)
  split
  ·exact W
  ·exact (W.persDrop _).overs _
 | secret i x =>
  (unfold Vbcnad.doing; dsimp only)
  rcases pc i with ⟨p1,_,_⟩ | ⟨y,py,rfl,pi,pf⟩
  ·rw [p1]; exact W
  ·rw [if_pos pi,Int.toNat_natCast,pf]
   simp only []
   split
   ·exact W
   ·rename_i hb
    simp only [Bool.not_eq_false] at hb
    have e2:=hb
    obtain ⟨xn,rfl⟩:=jcp hb
    unfold Vbcnad.isSecret Vbcnad.within Vbcnad.P61 at e2
    simp only [Bool.and_eq_true,decide_eq_true_eq] at e2
    exact W.pers (x':={ y with secret:=(xn:Int).toNat }) py rfl (W.pg y py) (by show (xn:Int).toNat < _; omega)
 | member i g x =>
  (unfold Vbcnad.doing; dsimp only)
  rcases pc i with ⟨p1,_,_⟩ | ⟨y,py,rfl,pi,pf⟩
  ·rw [p1]; exact W
  ·rw [if_pos pi,Int.toNat_natCast,pf]
   simp only []
   split
   ·exact W
   ·rename_i hg
    split
    ·exact W
    ·simp only [Bool.not_eq_false] at hg
     unfold Vbcnad.within at hg
     simp only [Bool.and_eq_true,decide_eq_true_eq] at hg
     have pg:=W.pg y py
     refine W.pers (x':={ y with groups:=if x=1 then Vbcnad.putNat g.toNat y.groups else y.groups.filter fun z=>z != g.toNat }) py rfl ?_ (W.pi y py).2
     show (if x=1 then Vbcnad.putNat g.toNat y.groups else y.groups.filter fun z=>z != g.toNat).Pairwise (· < ·)∧∀ z ∈ (if x=1 then Vbcnad.putNat g.toNat y.groups else y.groups.filter fun z=>z != g.toNat),z < 64
     split
     ·refine ⟨jby pg.1,fun z hz=>?_⟩
      rcases ja6.mp hz with rfl | hz
      ·omega
      ·exact pg.2 z hz
     ·exact ⟨pg.1.filter _,fun z hz=>pg.2 z (List.mem_filter.mp hz).1⟩
 | rule a b c d e f g h =>
  (unfold Vbcnad.doing; dsimp only)
  split
  ·exact W
  ·rename_i hb
   split
   ·exact W
   ·rename_i hl
    simp only [Bool.not_eq_false,Bool.and_eq_true] at hb
    have hb1:=hb.1
    unfold Vbcnad.within at hb1
    simp only [Bool.and_eq_true,decide_eq_true_eq] at hb1
    exact { W with
     rn:=by show (s.rules ++ [_]).length≤64; simp; omega
     rg:=fun r hr=>by
      rcases List.mem_append.mp hr with hr | hr
      ·exact W.rg r hr
      ·rw [List.mem_singleton.mp hr]; show a.toNat < 64; omega
     np:=W.np,nb:=W.nb }
 | norules=>exact { W with rn:=Nat.zero_le _,rg:=fun r hr=>(by cases hr),np:=W.np,nb:=W.nb }
 | bar i x =>
  (unfold Vbcnad.doing; dsimp only)
  rcases pc i with ⟨p1,_,_⟩ | ⟨y,py,rfl,pi,pf⟩
  ·rw [p1]; exact W
  ·rw [if_pos pi,Int.toNat_natCast,pf]
   simp only []
   split
   ·exact W
   ·have W1:=W.pers (x':={ y with barred:=x == 1 }) py rfl (W.pg y py) (W.pi y py).2
    simp only []
    split
    ·exact W1.overs _
    ·exact W1
 | reboot =>
  have:=W.less (fun _=>false) (fun _=>false)
  rw [List.filter_eq_nil_iff.mpr (fun _ _ h=>by cases h),List.filter_eq_nil_iff.mpr (fun _ _ h=>by cases h)] at this
  exact this
theorem WF.mixed (W:WF k s) (n:Nat) (f:Vbcnad.Port→Vbcnad.Port):True:=trivial
theorem doS (W:WF k s) {code:Int} {zs:List Int} {c:Vbcnad.Call} (h:ClS code zs c):WF (k+1) (Vbcnad.doing s c).1:=by
 cases h with
 | guest p v =>
  refine WF.mono ?_
  (unfold Vbcnad.doing; dsimp only)
  rcases jah s p with hp | ⟨n,y,rfl,hy,hp⟩
  ·rw [if_pos hp]; exact W
  ·rw [if_neg (by rw [hp]; simp)]
   split
   ·exact W
   ·simp only [Int.toNat_natCast]
    have W1:WF k (Vbcnad.onPort s n fun y=>{ y with guest:=v.toNat }):=by
     have:=W.port hy (z:={ y with guest:=v.toNat }) (e:=s.ended) (W.inn n y hy) (by have:=W.le; show _+isS y+_≤_; unfold Vbcnad.living at this ⊢; omega) (fun x hx=>W.num hy hx)
     have e:(Vbcnad.onPort s n fun y=>{ y with guest:=v.toNat })={ s with ports:=Vbcnad.changeAt s.ports n fun _=>{ y with guest:=v.toNat },ended:=s.ended }:=by
      unfold Vbcnad.onPort
      rw [jas hy]
     rw [e]; exact this
    split
    ·exact W1.phase (jaj hy) (fun e=>absurd e ask_ne)
    ·exact W1
 | plug p =>
  refine WF.mono ?_
  (unfold Vbcnad.doing; dsimp only)
  rcases jah s p with hp | ⟨n,y,rfl,hy,hp⟩
  ·rw [if_pos hp]; exact W
  ·rw [if_neg (by rw [hp]; simp)]
   split
   ·exact W
   ·exact W.phase hy (fun e=>absurd e ask_ne)
 | unplug p =>
  refine WF.mono ?_
  (unfold Vbcnad.doing; dsimp only)
  rcases jah s p with hp | ⟨n,y,rfl,hy,hp⟩
  ·rw [if_pos hp]; exact W
  ·rw [if_neg (by rw [hp]; simp)]
   split
   ·exact W
   ·exact W.endPh hy (fun e=>by cases e)
 | say p h i =>
  (unfold Vbcnad.doing; dsimp only)
  rcases jah s p with hp | ⟨n,y,rfl,hy,hp⟩
  ·rw [if_pos hp]; exact W.mono
  ·rw [if_neg (by rw [hp]; simp)]
   split
   ·exact W.mono
   ·have W1:WF (k+1) { s with book:=s.book+1 }:={ W with
     ap:=fun a ha=>⟨(W.ap a ha).1,Nat.le_succ_of_le (W.ap a ha).2⟩
     bk:=by show s.book+1≤k+1; have:=W.bk; omega
     ol:=Nat.le_succ_of_le W.ol
     cl:=Nat.le_succ_of_le W.cl
     np:=W.np,nb:=fun m q h=>Nat.le_succ_of_le (W.nb m q h) }
    have W2:WF (k+1) (Vbcnad.send (Vbcnad.phaseAt { s with book:=s.book+1 } (n:Int).toNat (.looking (s.book+1) i.toNat h.toNat (s.cfg.tries - 1) (s.now+s.cfg.wait))) (.hello (n:Int).toNat (s.book+1) i.toNat h.toNat)):=by
     rw [Int.toNat_natCast]
     refine (W1.phase hy (fun e=>by cases e)).send ?_ (fun _ _ _ _ _ _ e=>by cases e)
     show n < (Vbcnad.changeAt s.ports n _).length
     rw [ch_len]; exact ja2 hy
    generalize Vbcnad.send _ _=t at W2
    split <;> split <;> first | exact W.mono | (split <;> first | exact W.mono | exact W2)
 | reply p h x =>
  refine WF.mono ?_
  (unfold Vbcnad.doing; dsimp only)
  rcases jah s p with hp | ⟨n,y,rfl,hy,hp⟩
  ·rw [if_pos hp]; exact W
  ·rw [if_neg (by rw [hp]; simp)]
   split
   ·exact W
   ·split
    ·split
     ·exact W
     ·exact (W.phase hy (fun e=>by cases e)).send trivial (fun _ _ _ _ _ _ e=>by cases e)
    ·exact W
 | bye p h =>
  refine WF.mono ?_
  (unfold Vbcnad.doing; dsimp only)
  rcases jah s p with hp | ⟨n,y,rfl,hy,hp⟩
  ·rw [if_pos hp]; exact W
  ·rw [if_neg (by rw [hp]; simp)]
   split
   ·exact W
   ·exact W.endPh hy ask_ne
 | frame p h kk =>
  refine WF.mono ?_
  (unfold Vbcnad.doing; dsimp only)
  rcases jah s p with hp | ⟨n,y,rfl,hy,hp⟩
  ·rw [if_pos hp]; exact W
  ·rw [if_neg (by rw [hp]; simp)]
   split
   ·exact W
   ·simp only [Int.toNat_natCast,jac hy]
    cases hx:y.sess with
    | none =>
     simp only []
     split
     ·exact W
     ·split <;> exact W
    | some x =>
     simp only []
     split
     ·exact W
     ·have:=W.port hy (z:={ y with sess:=some { x with frames:=x.frames+kk.toNat } }) (e:=s.ended) (fun _=>by simp) (by have:=W.le; rw [jaz hx,jaz rfl]; omega) (fun u hu=>by cases hu; show (∀ q,NP s x.num q→q=n)∧x.num≤s.book; exact W.num hy hx)
      have e:(Vbcnad.onPort s n fun y=>{ y with sess:=some { x with frames:=x.frames+kk.toNat } })={ s with ports:=Vbcnad.changeAt s.ports n fun _=>{ y with sess:=some { x with frames:=x.frames+kk.toNat } },ended:=s.ended }:=by
       unfold Vbcnad.onPort
       rw [jas hy]
      rw [e]; exact this
 | report =>
  refine WF.mono ?_
  show WF k (Vbcnad.reports s)
  unfold Vbcnad.reports
  refine W.sends fun m hm=>?_
  rcases List.mem_append.mp hm with hm | hm
  ·obtain ⟨y,_,e⟩:=List.mem_filterMap.mp hm
   obtain ⟨x,_,rfl⟩:=Option.map_eq_some_iff.mp e
   exact ⟨trivial,fun _ _ _ _ _ _ e=>by cases e⟩
  ·obtain ⟨x,_,rfl⟩:=List.mem_map.mp hm
   exact ⟨trivial,fun _ _ _ _ _ _ e=>by cases e⟩
 | restart =>
  refine WF.mono ?_
  show WF k { s with ports:=s.ports.map (anew s),ended:=[] }
  have get:∀ (p:Nat) (w:Vbcnad.Port),(s.ports.map (anew s))[p]? = some w→∃ y,s.ports[p]? = some y∧w=anew s y:=fun p w h=>by
   rw [List.getElem?_map] at h
   obtain ⟨y,hy,e⟩:=Option.map_eq_some_iff.mp h
   exact ⟨y,hy,e.symm⟩
  have h:∀ n p,NP { s with ports:=s.ports.map (anew s),ended:=[] } n p→NP s n p:=fun n p h=>by
   rcases h with h | h | ⟨w,x,h1,h2,_⟩
   ·exact .inl h
   ·exact .inr (.inl h)
   ·obtain ⟨y,_,rfl⟩:=get p w h1
    cases h2
  obtain ⟨n1,n2⟩:=np_of W h
  have hl:(s.ports.map (anew s)).length=s.ports.length:=List.length_map ..
  have hlv:((s.ports.map (anew s)).filter fun x=>x.sess.isSome).length=0:=by
   rw [List.length_eq_zero_iff,List.filter_eq_nil_iff]
   intro w hw
   obtain ⟨y,_,rfl⟩:=List.mem_map.mp hw
   simp [anew]
  exact { W with
   pl:=by show (s.ports.map (anew s)).length≤64; rw [hl]; exact W.pl
   inn:=fun p w hw hph=>by
    obtain ⟨y,hy,rfl⟩:=get p w hw
    have hph:(if y.phase=.down then Vbcnad.Phase.down else Vbcnad.askingAt s)=.inside:=hph
    split at hph
    ·cases hph
    ·exact absurd hph ask_ne
   le:=by show ((s.ports.map (anew s)).filter fun x=>x.sess.isSome).length+0≤1024; rw [hlv]; omega
   ap:=fun a ha=>⟨by show a.port < (s.ports.map (anew s)).length; rw [hl]; exact (W.ap a ha).1,(W.ap a ha).2⟩
   ms:=fun m hm=>by show MOk (s.ports.map (anew s)).length m; rw [hl]; exact W.ms m hm
   np:=n1,nb:=n2 }
theorem doN (W:WF k s) {code a:Int} {c:Vbcnad.Call} (h:ClN code a c):WF (k+1) (Vbcnad.doing s c).1:=by
 cases h with
 | deliver =>
  (unfold Vbcnad.doing; dsimp only)
  split
  ·exact W.mono
  ·rename_i m hm
   have h0:0≤a:=by
    by_cases h:0≤a
    ·exact h
    ·rw [if_neg h] at hm; cases hm
   rw [if_pos h0] at hm
   have hmem:=List.mem_of_getElem? hm
   refine (W.erase a.toNat).takes (W.ms m hmem) fun p b n v l g e=>?_
   subst e
   have hn:NP s n p:=.inl ⟨_,hmem,b,v,l,g,rfl⟩
   refine ⟨fun q hq=>?_,W.nb n p hn⟩
   have:NP s n q:=by
    rcases hq with ⟨m',hm',r⟩ | h | h
    ·exact .inl ⟨m',List.mem_of_mem_eraseIdx hm',r⟩
    ·exact .inr (.inl h)
    ·exact .inr (.inr h)
   exact W.np n q p this hn
 | lose =>
  (unfold Vbcnad.doing; dsimp only)
  split
  ·exact W.mono
  ·exact (W.erase _).mono
 | double =>
  (unfold Vbcnad.doing; dsimp only)
  split
  ·exact W.mono
  ·rename_i m hm
   have h0:0≤a:=by
    by_cases h:0≤a
    ·exact h
    ·rw [if_neg h] at hm; cases hm
   rw [if_pos h0] at hm
   have hmem:=List.mem_of_getElem? hm
   split
   ·exact W.mono
   ·refine (W.bag (b:=s.bag ++ [m]) (l:=s.lost) (by simp; omega) (fun x hx=>?_) (fun n p b v l g hx=>?_)).mono
    ·rcases List.mem_append.mp hx with hx | hx
     ·exact W.ms x hx
     ·rw [List.mem_singleton.mp hx]; exact W.ms m hmem
    ·rcases List.mem_append.mp hx with hx | hx
     ·exact .inl ⟨_,hx,b,v,l,g,rfl⟩
     ·rw [← List.mem_singleton.mp hx] at hmem; exact .inl ⟨_,hmem,b,v,l,g,rfl⟩
theorem doK (W:WF k s) (n:Int):WF (k+1) (Vbcnad.doing s (.tick n)).1:=by
 refine WF.mono ?_
 (unfold Vbcnad.doing; dsimp only)
 split
 ·exact W
 ·split
  ·exact W
  ·unfold Vbcnad.ticks
   have W1:=W.clock (s.now+n.toNat)
   exact (WF.lks W1 (Nat.le_refl _)).less _ _
theorem doT (W:WF k s) {code:Int} {zs:List Int} {c:Vbcnad.Call} (h:ClT code zs c):WF (k+1) (Vbcnad.doing s c).1:=by
 refine WF.mono ?_
 cases h <;> (unfold Vbcnad.doing; dsimp only) <;> first | exact W | (split <;> exact W)
theorem WF.doing (W:WF k s) {code:Int} {zs:List Int} {c:Vbcnad.Call} (h:Cl code zs c):WF (k+1) (Vbcnad.doing s c).1:=by
 cases h with
 | d h=>exact doD W h
 | s h=>exact doS W h
 | tick n=>exact doK W n
 | n h=>exact doN W h
 | t h=>exact doT W h
theorem WF.fresh (n b w t h r l i k' c:Nat) (h1:n≤64) (h2:b≤1024) (h3:1≤t) (h4:k'≤256) (h5:c≤1024):WF k (fresh0 n b w t h r l i k' c):=by
 have get:∀ (p:Nat) (y:Vbcnad.Port),(fresh0 n b w t h r l i k' c).ports[p]? = some y→y={}:=fun p y hy=>by
  have:=List.mem_of_getElem? hy
  rw [show (fresh0 n b w t h r l i k' c).ports=List.replicate n {} from rfl,List.mem_replicate] at this
  exact this.2
 have hnp:∀ m p,¬ NP (fresh0 n b w t h r l i k' c) m p:=fun m p hh=>by
  rcases hh with ⟨_,hm,_⟩ | ⟨_,ha,_⟩ | ⟨y,x,hy,hx,_⟩
  ·cases hm
  ·cases ha
  ·rw [get p y hy] at hx; cases hx
 exact {
  on:=rfl,cb:=h2,ct:=h3,ca:=h4,cr:=h5
  pl:=by show (List.replicate n _).length≤64; rw [List.length_replicate]; exact h1
  bg:=Nat.zero_le _
  inn:=fun p y hy hph=>by rw [get p y hy] at hph; cases hph
  le:=by
   show ((List.replicate n ({}:Vbcnad.Port)).filter fun x=>x.sess.isSome).length+0≤1024
   rw [List.filter_replicate]
   simp
  ps:=.nil,pn:=Nat.zero_le _,pg:=fun x hx=>(by cases hx),pi:=fun x hx=>(by cases hx)
  rn:=Nat.zero_le _,rg:=fun x hx=>(by cases hx)
  an:=.nil,al:=Nat.zero_le _,ap:=fun x hx=>(by cases hx)
  bk:=Nat.zero_le _,ol:=Nat.zero_le _,cl:=Nat.zero_le _,cn:=.nil
  ms:=fun x hx=>(by cases hx)
  np:=fun m p q hh=>absurd hh (hnp m p),nb:=fun m p hh=>absurd hh (hnp m p) }
end
noncomputable def szs:List Nat:=[10,3,1,2,3,8,0,2,2,1,1,3,3,2,3,1,0,1,1,1,0,0,2,1,0,1,1,0]
noncomputable def lkS:Nat→List Nat→Int→Option (Nat×Nat)
 | _,[],_=>none
 | i,n :: r,p=>if p=(i:Int) then some (n,0) else lkS (i+1) r p
theorem lkS_some {p:Int} {n k:Nat}:∀ {l:List Nat} {i:Nat},lkS i l p=some (n,k)→k=0∧∃ j:Nat,p=((i+j:Nat):Int)∧l[j]? = some n
 | [],_,h=>by cases h
 | a :: l,i,h=>by
  have h:(if p=(i:Int) then some (a,0) else lkS (i+1) l p)=some (n,k):=h
  by_cases e:p=(i:Int)
  ·rw [if_pos e] at h; cases h; exact ⟨rfl,0,e,rfl⟩
  ·rw [if_neg e] at h
   obtain ⟨a1,j,a2,a3⟩:=lkS_some h
   exact ⟨a1,j+1,by rw [a2]; omega,a3⟩
theorem shape_some {p:Int} {n kk:Nat} (h:PyVbcnad.shape p=some (n,kk)):kk=0∧∃ i:Nat,p=i∧i < 28∧szs[i]? = some n:=by
 obtain ⟨a1,j,a2,a3⟩:=lkS_some (l:=szs) (i:=0) h
 exact ⟨a1,j,by rw [a2]; omega,(List.getElem?_eq_some_iff.mp a3).1,a3⟩
theorem lc {α:Type} {us:List α} {n:Nat} (h:us.length=n+1):∃ a r,us=a :: r∧r.length=n:=by
 cases us with
 | nil=>cases h
 | cons a r=>exact ⟨a,r,rfl,Nat.succ.inj h⟩
theorem le1 {α:Type} {us:List α} (h:us.length=1):∃ a,us=[a]:=by
 obtain ⟨a,r,rfl,q⟩:=lc h
 cases r with
 | nil=>exact ⟨a,rfl⟩
 | cons=>cases q
theorem le2 {α:Type} {us:List α} (h:us.length=2):∃ a b,us=[a,b]:=by
 obtain ⟨a,r,rfl,q⟩:=lc h
 obtain ⟨b,rfl⟩:=le1 q
 exact ⟨a,b,rfl⟩
theorem le3 {α:Type} {us:List α} (h:us.length=3):∃ a b c,us=[a,b,c]:=by
 obtain ⟨a,r,rfl,q⟩:=lc h
 obtain ⟨b,c,rfl⟩:=le2 q
 exact ⟨a,b,c,rfl⟩
theorem le4 {α:Type} {us:List α} (h:us.length=4):∃ a b c d,us=[a,b,c,d]:=by
 obtain ⟨a,r,rfl,q⟩:=lc h
 obtain ⟨b,c,d,rfl⟩:=le3 q
 exact ⟨a,b,c,d,rfl⟩
theorem le5 {α:Type} {us:List α} (h:us.length=5):∃ a b c d e,us=[a,b,c,d,e]:=by
 obtain ⟨a,r,rfl,q⟩:=lc h
 obtain ⟨b,c,d,e,rfl⟩:=le4 q
 exact ⟨a,b,c,d,e,rfl⟩
theorem le6 {α:Type} {us:List α} (h:us.length=6):∃ a b c d e f,us=[a,b,c,d,e,f]:=by
 obtain ⟨a,r,rfl,q⟩:=lc h
 obtain ⟨b,c,d,e,f,rfl⟩:=le5 q
 exact ⟨a,b,c,d,e,f,rfl⟩
theorem le7 {α:Type} {us:List α} (h:us.length=7):∃ a b c d e f g,us=[a,b,c,d,e,f,g]:=by
 obtain ⟨a,r,rfl,q⟩:=lc h
 obtain ⟨b,c,d,e,f,g,rfl⟩:=le6 q
 exact ⟨a,b,c,d,e,f,g,rfl⟩
noncomputable def CO (i:Nat) (zs:List Int):Prop:=(i=0∧∃ a b c d e f g h' j k,zs=[a,b,c,d,e,f,g,h',j,k]∧VbcnadNeutral.call [(i:Int) :: zs]=some (.begin_ a b c d e f g h' j k)) ∨
  (i≠0∧∃ c,VbcnadNeutral.call [(i:Int) :: zs]=some c∧Cl i zs c)
theorem co {i:Nat} {zs:List Int} {c:Vbcnad.Call} (h:i≠0) (e:VbcnadNeutral.call [(i:Int) :: zs]=some c) (q:Cl i zs c):CO i zs:=.inr ⟨h,c,e,q⟩
theorem call_of {i:Nat} {zs:List Int} (hi:i < 28) (h:szs[i]? = some zs.length):CO i zs:=by
 match i,hi,h with
 | 0,_,h =>
  obtain ⟨a,_,rfl,h0⟩:=lc (Option.some.inj h).symm
  obtain ⟨b,_,rfl,h1⟩:=lc h0
  obtain ⟨c,_,rfl,h2⟩:=lc h1
  obtain ⟨d,e,f,g,x,j,k,rfl⟩:=le7 h2
  exact .inl ⟨rfl,a,b,c,d,e,f,g,x,j,k,rfl,rfl⟩
 | 1,_,h =>
  obtain ⟨a,b,c,rfl⟩:=le3 (Option.some.inj h).symm
  exact co (by decide) rfl (.d (.person a b c))
 | 2,_,h =>
  obtain ⟨a,rfl⟩:=le1 (Option.some.inj h).symm
  exact co (by decide) rfl (.d (.unperson a))
 | 3,_,h =>
  obtain ⟨a,b,rfl⟩:=le2 (Option.some.inj h).symm
  exact co (by decide) rfl (.d (.secret a b))
 | 4,_,h =>
  obtain ⟨a,b,c,rfl⟩:=le3 (Option.some.inj h).symm
  exact co (by decide) rfl (.d (.member a b c))
 | 5,_,h =>
  obtain ⟨a,_,rfl,h0⟩:=lc (Option.some.inj h).symm
  obtain ⟨b,c,d,e,f,g,x,rfl⟩:=le7 h0
  exact co (by decide) rfl (.d (.rule a b c d e f g x))
 | 6,_,h =>
  obtain rfl:=List.length_eq_zero_iff.mp (Option.some.inj h).symm
  exact co (by decide) rfl (.d .norules)
 | 7,_,h =>
  obtain ⟨a,b,rfl⟩:=le2 (Option.some.inj h).symm
  exact co (by decide) rfl (.d (.bar a b))
 | 8,_,h =>
  obtain ⟨a,b,rfl⟩:=le2 (Option.some.inj h).symm
  exact co (by decide) rfl (.s (.guest a b))
 | 9,_,h =>
  obtain ⟨a,rfl⟩:=le1 (Option.some.inj h).symm
  exact co (by decide) rfl (.s (.plug a))
 | 10,_,h =>
  obtain ⟨a,rfl⟩:=le1 (Option.some.inj h).symm
  exact co (by decide) rfl (.s (.unplug a))
 | 11,_,h =>
  obtain ⟨a,b,c,rfl⟩:=le3 (Option.some.inj h).symm
  exact co (by decide) rfl (.s (.say a b c))
 | 12,_,h =>
  obtain ⟨a,b,c,rfl⟩:=le3 (Option.some.inj h).symm
  exact co (by decide) rfl (.s (.reply a b c))
 | 13,_,h =>
  obtain ⟨a,b,rfl⟩:=le2 (Option.some.inj h).symm
  exact co (by decide) rfl (.s (.bye a b))
 | 14,_,h =>
  obtain ⟨a,b,c,rfl⟩:=le3 (Option.some.inj h).symm
  exact co (by decide) rfl (.s (.frame a b c))
 | 15,_,h =>
  obtain ⟨a,rfl⟩:=le1 (Option.some.inj h).symm
  exact co (by decide) rfl (.tick a)
 | 16,_,h =>
  obtain rfl:=List.length_eq_zero_iff.mp (Option.some.inj h).symm
  exact co (by decide) rfl (.s .report)
 | 17,_,h =>
  obtain ⟨a,rfl⟩:=le1 (Option.some.inj h).symm
  exact co (by decide) rfl (.n (.deliver a))
 | 18,_,h =>
  obtain ⟨a,rfl⟩:=le1 (Option.some.inj h).symm
  exact co (by decide) rfl (.n (.lose a))
 | 19,_,h =>
  obtain ⟨a,rfl⟩:=le1 (Option.some.inj h).symm
  exact co (by decide) rfl (.n (.double a))
 | 20,_,h =>
  obtain rfl:=List.length_eq_zero_iff.mp (Option.some.inj h).symm
  exact co (by decide) rfl (.s .restart)
 | 21,_,h =>
  obtain rfl:=List.length_eq_zero_iff.mp (Option.some.inj h).symm
  exact co (by decide) rfl (.d .reboot)
 | 22,_,h =>
  obtain ⟨a,b,rfl⟩:=le2 (Option.some.inj h).symm
  exact co (by decide) rfl (.t (.keyed a b))
 | 23,_,h =>
  obtain ⟨a,rfl⟩:=le1 (Option.some.inj h).symm
  exact co (by decide) rfl (.t (.port a))
 | 24,_,h =>
  obtain rfl:=List.length_eq_zero_iff.mp (Option.some.inj h).symm
  exact co (by decide) rfl (.t .bag)
 | 25,_,h =>
  obtain ⟨a,rfl⟩:=le1 (Option.some.inj h).symm
  exact co (by decide) rfl (.t (.account a))
 | 26,_,h =>
  obtain ⟨a,rfl⟩:=le1 (Option.some.inj h).symm
  exact co (by decide) rfl (.t (.whois a))
 | 27,_,h =>
  obtain rfl:=List.length_eq_zero_iff.mp (Option.some.inj h).symm
  exact co (by decide) rfl (.t .counts)
 | n+28,hn,_=>omega
theorem whole_of {i:Nat} {zs:List Int} (hi:i < 28) (h:szs[i]? = some zs.length):PyVbcnad.whole [(i:Int) :: zs]=[(i:Int) :: zs]:=by
 match i,hi,h with
 | 0,_,h =>
  obtain ⟨a,_,rfl,h0⟩:=lc (Option.some.inj h).symm
  obtain ⟨b,_,rfl,h1⟩:=lc h0
  obtain ⟨c,_,rfl,h2⟩:=lc h1
  obtain ⟨d,e,f,g,x,j,k,rfl⟩:=le7 h2
  rfl
 | 1,_,h =>
  obtain ⟨a,b,c,rfl⟩:=le3 (Option.some.inj h).symm
  rfl
 | 2,_,h =>
  obtain ⟨a,rfl⟩:=le1 (Option.some.inj h).symm
  rfl
 | 3,_,h =>
  obtain ⟨a,b,rfl⟩:=le2 (Option.some.inj h).symm
  rfl
 | 4,_,h =>
  obtain ⟨a,b,c,rfl⟩:=le3 (Option.some.inj h).symm
  rfl
 | 5,_,h =>
  obtain ⟨a,_,rfl,h0⟩:=lc (Option.some.inj h).symm
  obtain ⟨b,c,d,e,f,g,x,rfl⟩:=le7 h0
  rfl
 | 6,_,h =>
  obtain rfl:=List.length_eq_zero_iff.mp (Option.some.inj h).symm
  rfl
 | 7,_,h =>
  obtain ⟨a,b,rfl⟩:=le2 (Option.some.inj h).symm
  rfl
 | 8,_,h =>
  obtain ⟨a,b,rfl⟩:=le2 (Option.some.inj h).symm
  rfl
 | 9,_,h =>
  obtain ⟨a,rfl⟩:=le1 (Option.some.inj h).symm
  rfl
 | 10,_,h =>
  obtain ⟨a,rfl⟩:=le1 (Option.some.inj h).symm
  rfl
 | 11,_,h =>
  obtain ⟨a,b,c,rfl⟩:=le3 (Option.some.inj h).symm
  rfl
 | 12,_,h =>
  obtain ⟨a,b,c,rfl⟩:=le3 (Option.some.inj h).symm
  rfl
 | 13,_,h =>
  obtain ⟨a,b,rfl⟩:=le2 (Option.some.inj h).symm
  rfl
 | 14,_,h =>
  obtain ⟨a,b,c,rfl⟩:=le3 (Option.some.inj h).symm
  rfl
 | 15,_,h =>
  obtain ⟨a,rfl⟩:=le1 (Option.some.inj h).symm
  rfl
 | 16,_,h =>
  obtain rfl:=List.length_eq_zero_iff.mp (Option.some.inj h).symm
  rfl
 | 17,_,h =>
  obtain ⟨a,rfl⟩:=le1 (Option.some.inj h).symm
  rfl
 | 18,_,h =>
  obtain ⟨a,rfl⟩:=le1 (Option.some.inj h).symm
  rfl
 | 19,_,h =>
  obtain ⟨a,rfl⟩:=le1 (Option.some.inj h).symm
  rfl
 | 20,_,h =>
  obtain rfl:=List.length_eq_zero_iff.mp (Option.some.inj h).symm
  rfl
 | 21,_,h =>
  obtain rfl:=List.length_eq_zero_iff.mp (Option.some.inj h).symm
  rfl
 | 22,_,h =>
  obtain ⟨a,b,rfl⟩:=le2 (Option.some.inj h).symm
  rfl
 | 23,_,h =>
  obtain ⟨a,rfl⟩:=le1 (Option.some.inj h).symm
  rfl
 | 24,_,h =>
  obtain rfl:=List.length_eq_zero_iff.mp (Option.some.inj h).symm
  rfl
 | 25,_,h =>
  obtain ⟨a,rfl⟩:=le1 (Option.some.inj h).symm
  rfl
 | 26,_,h =>
  obtain ⟨a,rfl⟩:=le1 (Option.some.inj h).symm
  rfl
 | 27,_,h =>
  obtain rfl:=List.length_eq_zero_iff.mp (Option.some.inj h).symm
  rfl
 | n+28,hn,_=>omega
theorem calls_cons {f:Nat} {p:Int} {r:List Int} {cs:List (List (List Int))} (h:PyFlat.calls PyVbcnad.shape f (p :: r)=some cs) :
  ∃ (i n f':Nat) (cs':List (List (List Int))),p=i∧i < 28∧szs[i]? = some n∧n≤r.length∧cs=[p :: r.take n] :: cs'∧PyFlat.calls PyVbcnad.shape f' (r.drop n)=some cs':=by
 cases f with
 | zero=>cases h
 | succ f =>
  cases hs:PyVbcnad.shape p with
  | none=>simp only [PyFlat.calls,PyFlat.call,hs] at h; cases h
  | some nk =>
   obtain ⟨n,kk⟩:=nk
   obtain ⟨rfl,i,hp,hi,hn⟩:=shape_some hs
   simp only [PyFlat.calls,PyFlat.call,hs] at h
   by_cases hl:r.length < n
   ·rw [if_pos hl] at h; cases h
   ·rw [if_neg hl] at h
    simp only [PyFlat.rows] at h
    cases hc:PyFlat.calls PyVbcnad.shape f (r.drop n) with
    | none=>rw [hc] at h; cases h
    | some cs' =>
     rw [hc] at h
     exact ⟨i,n,f,cs',hp,hi,hn,by omega,(Option.some.inj h).symm,hc⟩
theorem calls_nil {f:Nat} {cs:List (List (List Int))} (h:PyFlat.calls PyVbcnad.shape f []=some cs):cs=[]:=by
 cases f <;> (unfold PyFlat.calls at h; exact (Option.some.inj h).symm)
theorem calls_all:∀ {f:Nat} {l:List Int} {cs:List (List (List Int))},PyFlat.calls PyVbcnad.shape f l=some cs→∀ c ∈ cs,PyVbcnad.whole c=c:=by
 intro f l cs
 induction cs generalizing f l with
 | nil=>intro _ c hc; cases hc
 | cons c0 cs ih =>
  intro h c hc
  cases l with
  | nil=>rw [calls_nil h] at hc; cases hc
  | cons p r =>
   obtain ⟨i,n,f',cs',rfl,hi,hn,hl,e,h'⟩:=calls_cons h
   have e1:=(List.cons.inj e).1
   have e2:=(List.cons.inj e).2
   subst e2
   rcases List.mem_cons.mp hc with rfl | hc
   ·rw [e1]; exact whole_of hi (by rw [hn,List.length_take,Nat.min_eq_left hl])
   ·exact ih h' c hc
theorem calls_id (l:List Int):PyVbcnad.calls l=PyFlat.calls PyVbcnad.shape l.length l:=by
 unfold PyVbcnad.calls
 cases h:PyFlat.calls PyVbcnad.shape l.length l with
 | none=>rfl
 | some cs=>exact congrArg some ((List.map_congr_left fun c hc=>calls_all h c hc).trans (List.map_id' cs))
theorem told_cons (x:List Int) (xs:List (List Int)):PyFlat.told (x :: xs)=((x.length:Int) :: x) ++ PyFlat.told xs:=rfl
theorem sm_ite {c:Prop} {d:Decidable c} {a b:VS×List Int} (h:a.2.length≤8000) (q:b.2.length≤8000):(@ite _ c d a b).2.length≤8000:=by
 by_cases e:c
 ·rw [if_pos e]; exact h
 ·rw [if_neg e]; exact q
theorem sm_1 {s:VS} {x:Int}:(s,[x]).2.length≤8000:=by show 1≤_; decide
theorem sm_2 {s:VS} {x y:Int}:(s,[x,y]).2.length≤8000:=by show 2≤_; decide
theorem ans_len {k:Nat} {s:VS} (W:WF k s) {code:Int} {zs:List Int} {c:Vbcnad.Call} (h:Cl code zs c):(Vbcnad.doing s c).2.length≤8000:=by
 have hb:=W.bg
 have hc:=W.cb
 cases h with
 | d h =>
  cases h <;> (first | ((repeat' (first | exact sm_1 | exact sm_2 | apply sm_ite)); done) | ((unfold Vbcnad.doing; dsimp only) <;> (repeat' split) <;> simp))
 | s h =>
  cases h <;> (first | ((repeat' (first | exact sm_1 | exact sm_2 | apply sm_ite)); done) | ((unfold Vbcnad.doing; dsimp only) <;> (repeat' split) <;> simp))
 | tick n=>(first | ((repeat' (first | exact sm_1 | exact sm_2 | apply sm_ite)); done) | ((unfold Vbcnad.doing; dsimp only) <;> (repeat' split) <;> simp))
 | n h=>cases h <;> (first | ((repeat' (first | exact sm_1 | exact sm_2 | apply sm_ite)); done) | ((unfold Vbcnad.doing; dsimp only) <;> (repeat' split) <;> simp))
 | t h =>
  cases h with
  | keyed a b=>(unfold Vbcnad.doing; dsimp only); split <;> simp
  | port a =>
   (unfold Vbcnad.doing; dsimp only)
   split
   ·simp
   ·have h1:=phS_len (s:=s) (ph:=(Vbcnad.portAt s a.toNat).phase)
    simp only [List.length_append]
    split <;> simp <;> omega
  | bag =>
   (unfold Vbcnad.doing; simp only [List.length_append])
   have:=flat_len (l:=s.bag)
   rw [List.length_map] at this
   show 2+_≤8000
   omega
  | account a=>(unfold Vbcnad.doing; dsimp only); split <;> simp
  | whois a =>
   (unfold Vbcnad.doing; dsimp only)
   rcases jam s (fun x hx=>(W.pi x hx).1) a with ⟨p1,_,_⟩ | ⟨y,py,rfl,pi,pf⟩
   ·rw [p1]; simp
   ·rw [if_pos pi,Int.toNat_natCast,pf]
    have hg:y.groups.length≤64:=by rw [← jbr (W.pg y py).1 (W.pg y py).2]; exact jb0
    simp; omega
  | counts=>simp [Vbcnad.doing]
theorem step_of {s:VS} {code:Int} {zs:List Int} {c:Vbcnad.Call} (h:Cl code zs c) (hon:s.on=true):Vbcnad.step s c=Vbcnad.doing s c:=by
 cases h with
 | d h=>cases h <;> exact if_neg (by rw [hon]; decide)
 | s h=>cases h <;> exact if_neg (by rw [hon]; decide)
 | tick n=>exact if_neg (by rw [hon]; decide)
 | n h=>cases h <;> exact if_neg (by rw [hon]; decide)
 | t h=>cases h <;> exact if_neg (by rw [hon]; decide)
theorem step_off {s:VS} {code:Int} {zs:List Int} {c:Vbcnad.Call} (h:Cl code zs c) (hon:s.on=false):Vbcnad.step s c=(s,[-20]):=by
 cases h with
 | d h=>cases h <;> exact if_pos hon
 | s h=>cases h <;> exact if_pos hon
 | tick n=>exact if_pos hon
 | n h=>cases h <;> exact if_pos hon
 | t h=>cases h <;> exact if_pos hon
noncomputable def Wd (T:Tb) (F H:Hp) (st:VS) (wv:V) (j:Nat):Prop:=(wv=.non∧st.on=false∧Same F H)∨∃ loc,wv=.ref (loc .W)∧Rep T loc F H st∧WF j st
section
variable {T:Tb} {F F' H H':Hp} {st:VS} {wv:V} {j:Nat}
theorem Wd.same (h:Wd T F H st wv j):Same F H:=by
 rcases h with ⟨_,_,h⟩ | ⟨_,_,R,_⟩
 ·exact h
 ·exact R.fr
theorem Wd.new (h:Wd T F H st wv j) {p:Addr} {o:HO} (hp:H p=none):Wd T (upd F p o) (upd H p o) st wv j:=by
 rcases h with ⟨a,b,h⟩ | ⟨loc,a,R,W⟩
 ·exact .inl ⟨a,b,jbv h⟩
 ·exact .inr ⟨loc,a,R.new hp,W⟩
theorem Wd.grow (h:Wd T F H st wv j) (g:Same H H'):Wd T F H' st wv j:=by
 rcases h with ⟨a,b,h⟩ | ⟨loc,a,R,W⟩
 ·exact .inl ⟨a,b,h.trans g⟩
 ·exact .inr ⟨loc,a,R.grow g,W⟩
theorem Wd.own (h:Wd T F H st wv j) {p:Addr} {xs:List V} {o:HO} (hp:F p=some (.lst xs)):Wd T (upd F p o) (upd H p o) st wv j:=by
 rcases h with ⟨a,b,h⟩ | ⟨loc,a,R,W⟩
 ·exact .inl ⟨a,b,jbv h⟩
 ·exact .inr ⟨loc,a,R.own hp .lst,W⟩
theorem Wd.less (h:Wd T F H st wv j) (g:Same F' F):Wd T F' H st wv j:=by
 rcases h with ⟨a,b,h⟩ | ⟨loc,a,R,W⟩
 ·exact .inl ⟨a,b,g.trans h⟩
 ·exact .inr ⟨loc,a,R.less g,W⟩
theorem Wd.up (h:Wd T F H st wv j):Wd T F H st wv (j+1):=by
 rcases h with h | ⟨loc,a,R,W⟩
 ·exact .inl h
 ·exact .inr ⟨loc,a,R,W.mono⟩
end
noncomputable def sp_answers (K:W.Frag) (T:Tb):Sp:=fun vs H Q _=>∃ (a:Addr) (ns:List Int) (cs:List (List (List Int))),vs=[.ref a]∧SqL K H a (ns.map V.int)∧(∀ z ∈ ns,-(2 ^ 63)≤z∧z < 2 ^ 63)∧PyFlat.calls PyVbcnad.shape ns.length ns=some cs∧cs.length≤400∧ns.length≤16000 ∧
 ∀ (H':Hp) (l:Addr),H' l=some (.lst ((PyVbcnad.answers ns).map V.int))→Q (.ref l) H'
noncomputable def ansTail (K:W.Frag) (T:Tb):MB:=(.cons (.expr (.mth (.var 1) "append" "list" "list.append" rAppend (.cons (.bif "len" "len" rLenH (.cons (.var 7) .nil)) .nil)))
  (.cons (.expr (.mth (.var 1) "extend" "list" "list.extend" rExtend (.cons (.var 7) .nil))) .nil))
theorem upd_lst {F:Hp} {l p:Addr} {o u v:HO} (n:l≠p) (h:F l=none) (h2:F p=none):Same (upd F l u) (upd (upd (upd F l o) p v) l u):=fun b w e=>by
 by_cases e1:b=l
 ·subst e1; rw [jaa] at e ⊢; exact e
 ·rw [upd_ne e1] at e ⊢
  have:b≠p:=jab e h2
  rw [upd_ne this,upd_ne e1]; exact e
noncomputable def m_answers (K:W.Frag) (T:Tb):MB:=(.cons (.set 1 (.lst .nil))
  (.cons (.set 2 .non)
  (.cons (.set 3 (.int 0))
  (.cons (.while_ (.cmp .Lt (rI0 fun i j=>.bl (decide (i < j))) (.var 3) (.bif "len" "len" (rLenS K) (.cons (.var 0) .nil))) (.cons (.set 4 (.ix (rIxL K) (.var 0) (.var 3)))
  (.cons (.set 5 (.op .Add (rI0 fun i j=>.int (i+j)) (.op .Add (rI0 fun i j=>.int (i+j)) (.var 3) (.int 1)) (.ix (rIxT K) (.glo "SIZES" (.ref (T.glo 0))) (.var 4))))
  (.cons (.set 6 (.sl (rSlL K) (.var 0) (.op .Add (rI0 fun i j=>.int (i+j)) (.var 3) (.int 1)) (.var 5)))
  (.cons (.set 3 (.var 5))
  (.cons (.if_ (.bol true (.cmp .Eq rEq (.var 4) (.glo "BEGIN" (.int 0))) (.cons (.call "all_within" (sp_all_within K T) (.cons (.var 6) (.cons (.glo "BEGIN_RANGES" (.ref (T.glo 2))) .nil))) .nil)) (.cons (.set 2 (.make "World" 7 (sp_init_World T) (.cons (.var 6) .nil)))
  (.cons (.set 7 (.lst (.cons (.int 0) .nil)))
  .nil)) (.cons (.if_ (.cmp .Eq rEq (.var 4) (.glo "BEGIN" (.int 0))) (.cons (.set 7 (.lst (.cons (.neg 1) .nil)))
  .nil) (.cons (.if_ (.cmp .Is rIsN (.var 2) .non) (.cons (.set 7 (.lst (.cons (.neg 20) .nil)))
  .nil) (.cons (.set 7 (.call "act" (sp_act K T) (.cons (.var 2) (.cons (.var 4) (.cons (.var 6) .nil)))))
  .nil))
  .nil))
  .nil))
  (.cons (.expr (.mth (.var 1) "append" "list" "list.append" rAppend (.cons (.bif "len" "len" rLenH (.cons (.var 7) .nil)) .nil)))
  (.cons (.expr (.mth (.var 1) "extend" "list" "list.extend" rExtend (.cons (.var 7) .nil)))
  .nil))))))))
  (.cons (.ret (.var 1))
  .nil)))))
noncomputable abbrev N_answers:List Str:=["calls", "told", "world", "place", "code", "behind", "row", "answer"]
theorem ans_tail {K:W.Frag} {T:Tb} {H0 H:Hp} {a l al:Addr} {tl ans:List Int} {st:VS} {wv:V} {j:Nat} {o3 o4 o5 o6:Option V} {D:Ends} (hl0:H0 l=none) (hal:(upd H0 l (.lst (tl.map V.int))) al=none) (ht:tl.length≤j * 8001) (hj:j≤400) (ha:ans.length≤8000)
  (w:Wd T (upd (upd H0 l (.lst (tl.map V.int))) al (.lst (ans.map V.int))) H st wv (j+1))
  (h:∀ H',Wd T (upd H0 l (.lst ((tl ++ ((ans.length:Int) :: ans)).map V.int))) H' st wv (j+1)→D.nx [some (.ref a),some (.ref l),some wv,o3,o4,o5,o6,some (.ref al)] H') :
  (ansTail K T).wp K T D [some (.ref a),some (.ref l),some wv,o3,o4,o5,o6,some (.ref al)] H:=by
 have nl:l≠al:=fun e=>by subst e; rw [jaa] at hal; cases hal
 have hal0:H0 al=none:=by rw [upd_ne nl.symm] at hal; exact hal
 have fl:upd (upd H0 l (.lst (tl.map V.int))) al (.lst (ans.map V.int)) l=some (.lst (tl.map V.int)):=by rw [upd_ne nl,jaa]
 have h1:=w.same _ _ fl
 have h2:=w.same _ _ (show upd (upd H0 l (.lst (tl.map V.int))) al (.lst (ans.map V.int)) al=some (.lst (ans.map V.int)) from jaa)
 have hz:=szl
 simp_arith only [ansTail,h1,h2,HO.lst.injEq,List.length_map,upd_ne nl.symm]
 refine ⟨tyL h1,by omega,tyL jaa,?_,?_⟩
 ·omega
 ·have w1:=w.own (o:=.lst (tl.map V.int ++ [.int ans.length] ++ ans.map V.int)) fl
  have w2:=w1.less (upd_lst (u:=.lst (tl.map V.int ++ [.int ans.length] ++ ans.map V.int)) nl hl0 hal0)
  rw [jbb]
  refine h _ ?_
  simp only [List.map_append,List.map_cons,List.append_assoc,List.cons_append,List.nil_append] at w2 ⊢
  exact w2
theorem cut_row {ns:List Int} {k n:Nat}:cutV (ns.map V.int) (some ((k:Int)+1)) (some ((k:Int)+1+(n:Int)))=(((ns.drop (k+1)).take n).map V.int)∨ns.length < k+1+n:=by
 by_cases h:k+1+n≤ns.length
 ·left
  unfold cutV
  rw [show ((k:Int)+1)=((k+1:Nat):Int) from by omega,show (((k+1:Nat):Int)+(n:Int))=((k+1+n:Nat):Int) from by omega,HT.sIx_nat,HT.sIx_nat,List.length_map,Nat.min_eq_left h,Nat.min_eq_left (show k+1≤ns.length by omega),List.map_take,List.map_drop]
  congr 1
  omega
 ·right; omega
theorem sz_at {K:W.Frag} {T:Tb} (M:MT K T) {i n:Nat} (h:szs[i]? = some n):atI (([10,3,1,2,3,8,0,2,2,1,1,3,3,2,3,1,0,1,1,1,0,0,2,1,0,1,1,0]:List Int).map V.int) (i:Int)=some (.int (n:Int)):=by
 rw [atI_at,show ([10,3,1,2,3,8,0,2,2,1,1,3,3,2,3,1,0,1,1,1,0,0,2,1,0,1,1,0]:List Int)=szs.map fun (z:Nat)=>(z:Int) from by decide,List.getElem?_map,List.getElem?_map,h]; rfl
theorem w_answers {K:W.Frag} {T:Tb} (ti:TI T) (M:MT K T):Wk K T (sp_answers K T) (m_answers K T) N_answers:=by
 intro vs H Q E h
 obtain ⟨a,ns,cs0,rfl,hq,hb,hcs,hc400,hlen,q⟩:=h
 have hz:=szl
 refine ⟨Nat.zero_le _,?_⟩
 intro l hl
 obtain ⟨Wp,hWp⟩:∃ Wp:Nat→L2.St→Hp→Prop,Wp=fun m σ H'=>∃ (k:Nat) (st:VS) (tl:List Int) (cs:List (List (List Int))) (wv:V) (j f:Nat) (o4 o5 o6 o7:Option V),
  σ=[some (.ref a),some (.ref l),some wv,some (.int k),o4,o5,o6,o7]∧k≤ns.length∧m=ns.length - k∧PyFlat.calls PyVbcnad.shape f (ns.drop k)=some cs ∧
  PyVbcnad.answers ns=tl ++ PyFlat.told (PyFlat.played VbcnadNeutral.step st cs)∧j+cs.length≤400∧tl.length≤j * 8001∧Wd T (upd H l (.lst (tl.map V.int))) H' st wv j:=⟨_,rfl⟩
 refine ⟨Wp,⟨ns.length,?_⟩,?_⟩
 ·rw [hWp]
  refine ⟨0,VbcnadNeutral.start,[],cs0,.non,0,ns.length,none,none,none,none,rfl,Nat.zero_le _,rfl,hcs,?_,by omega,by simp,.inl ⟨rfl,rfl,Same.rfl'⟩⟩
  unfold PyVbcnad.answers
  rw [calls_id,hcs]; rfl
 ·intro m σ H1 hw
  rw [hWp] at hw
  obtain ⟨k,st,tl,cs,wv,j,f,o4,o5,o6,o7,rfl,hk,rfl,hpar,hans,hj,htl,w⟩:=hw
  have hq1:SqL K H1 a (ns.map V.int):=Same.seq ((jbw hl).trans w.same) hq
  refine ⟨a,_,rfl,hq1,?_⟩
  by_cases hlt:k < ns.length
  ·refine kp (by simp; omega) ?_
   obtain ⟨p,r,hdr⟩:∃ p r,ns.drop k=p :: r:=⟨_,_,List.drop_eq_getElem_cons hlt⟩
   have hpk:ns[k]? = some p:=by
    have:=congrArg (fun l=>l[0]?) hdr
    simpa using this
   have hr:ns.drop (k+1)=r:=by
    have:=congrArg List.tail hdr
    simpa using this
   rw [hdr] at hpar
   obtain ⟨i,n,f',cs',rfl,hi,hn,hnr,rfl,hpar'⟩:=calls_cons hpar
   have hlr:r.length=ns.length - (k+1):=by rw [← hr,List.length_drop]
   refine ⟨fun σ' H'=>∃ m',m' < ns.length - k∧Wp m' σ' H',fun σ' H' h=>h,?_⟩
   refine ⟨a,_,k,_,rfl,rfl,hq1,by rw [atI_at,List.getElem?_map,hpk]; rfl,?_⟩
   refine ⟨T.glo 0,_,i,_,rfl,rfl,M.sz _,sz_at M hn,?_⟩
   refine ⟨a,_,rfl,hq1,fun rl hrl=>?_⟩
   rw [(cut_row (ns:=ns) (k:=k) (n:=n)).resolve_right (by omega),hr]
   have hzl:(r.take n).length=n:=by rw [List.length_take,Nat.min_eq_left hnr]
   have hzb:∀ z ∈ r.take n,-(2 ^ 63)≤z∧z < 2 ^ 63:=fun z hz=>hb z (by
    have h1:z ∈ ns.drop k:=by rw [hdr]; exact List.mem_cons_of_mem _ (List.mem_of_mem_take hz)
    exact List.mem_of_mem_drop h1)
   generalize hzs:r.take n=zs at hzl hzb hans hj ⊢
   have hlF:(upd H l (.lst (tl.map V.int))) l=some (.lst (tl.map V.int)):=jaa
   have w1:=w.new (o:=.lst (zs.map V.int)) hrl
   have hFr:(upd H l (.lst (tl.map V.int))) rl=none:=w.same.free hrl
   have hrow:upd H1 rl (.lst (zs.map V.int)) rl=some (.lst (zs.map V.int)):=jaa
   generalize upd H1 rl _=H2 at w1 hrow ⊢
   have hj4:j≤400:=by simp at hj; omega
   have rest:∀ (st':VS) (ans:List Int) (wv':V) (H3:Hp) (al:Addr),VbcnadNeutral.step st [(i:Int) :: zs]=(st',ans)→ans.length≤8000→(upd H l (.lst (tl.map V.int))) al=none →
     Wd T (upd (upd H l (.lst (tl.map V.int))) al (.lst (ans.map V.int))) H3 st' wv' (j+1) →
     (ansTail K T).wp K T { nx:=fun σ' H'=>∃ m',m' < ns.length - k∧Wp m' σ' H',rt:=Q,bk:=fun σ H'=>∃ v,σ[1]? = some (some v)∧Q v H',ct:=fun σ' H'=>∃ m',m' < ns.length - k∧Wp m' σ' H' }
      [some (.ref a),some (.ref l),some wv',some (.int ((k:Int)+1+n)),some (.int i),some (.int ((k:Int)+1+n)),some (.ref rl),some (.ref al)] H3:=by
    intro st' ans wv' H3 al hst hal halF w3
    refine ans_tail hl halF htl hj4 hal w3 fun H4 w4=>?_
    refine ⟨ns.length - (k+1+n),by omega,?_⟩
    rw [hWp]
    refine ⟨k+1+n,st',tl ++ ((ans.length:Int) :: ans),cs',wv',j+1,f',_,_,_,_,rfl,by omega,rfl,?_,?_,by simp at hj; omega,by simp; omega,w4⟩
    ·rw [← List.drop_drop,hr]; exact hpar'
    ·rw [hans,List.append_assoc]
     congr 1
     show PyFlat.told ((VbcnadNeutral.step st [(i:Int) :: zs]).2 :: PyFlat.played VbcnadNeutral.step (VbcnadNeutral.step st [(i:Int) :: zs]).1 cs')=_
     rw [hst,told_cons]
   have hcall:=call_of (zs:=zs) hi (by rw [hn,hzl])
   rcases hcall with ⟨rfl,z0,z1,z2,z3,z4,z5,z6,z7,z8,z9,rfl,hcl⟩ | ⟨hi0,c,hcl,hC⟩
   ·
    have hst:VbcnadNeutral.step st [((0:Nat):Int) :: [z0,z1,z2,z3,z4,z5,z6,z7,z8,z9]]=Vbcnad.step st (.begin_ z0 z1 z2 z3 z4 z5 z6 z7 z8 z9):=by
     unfold VbcnadNeutral.step; rw [hcl]
    refine ⟨rfl,?_⟩
    refine ⟨rl,T.glo 2,_,_,rfl,hrow,M.br,rfl,fun H3 g3=>?_⟩
    have ew:(([z0,z1,z2,z3,z4,z5,z6,z7,z8,z9].zip [((1:Int),(64:Int)),(1,1024),(1,1000000),(1,10),(1,1000000),(1,10),(1,1000000),(1,1000000),(1,256),(1,1024)]).all fun z=>Vbcnad.within z.1 z.2.1 z.2.2)=(Vbcnad.within z0 1 64 && (Vbcnad.within z1 1 1024 && (Vbcnad.within z2 1 1000000 && (Vbcnad.within z3 1 10 && (Vbcnad.within z4 1 1000000 && (Vbcnad.within z5 1 10 && (Vbcnad.within z6 1 1000000 && (Vbcnad.within z7 1 1000000 && (Vbcnad.within z8 1 256 && Vbcnad.within z9 1 1024))))))))):=by
     simp only [List.zip_cons_cons,List.zip_nil_right,List.all_cons,List.all_nil,Bool.and_true]
    rw [ew]
    have w3:=(w1.grow g3).less (jbw hFr)
    unfold Vbcnad.step at hst
    dsimp only at hst
    cases hw:(Vbcnad.within z0 1 64 && (Vbcnad.within z1 1 1024 && (Vbcnad.within z2 1 1000000 && (Vbcnad.within z3 1 10 && (Vbcnad.within z4 1 1000000 && (Vbcnad.within z5 1 10 && (Vbcnad.within z6 1 1000000 && (Vbcnad.within z7 1 1000000 && (Vbcnad.within z8 1 256 && Vbcnad.within z9 1 1024))))))))) with
    | false =>
     refine ⟨rfl,?_⟩
     rw [if_pos hw] at hst
     refine ⟨one_sz,fun p hp=>?_⟩
     exact rest st [-1] wv _ p hst (by decide) (w3.same.free hp) (w3.new hp).up
    | true =>
     rw [if_neg (by rw [hw]; simp)] at hst
     unfold Vbcnad.within at hw
     simp only [Bool.and_eq_true,decide_eq_true_eq] at hw
     obtain ⟨n0,rfl⟩:=Int.eq_ofNat_of_zero_le (a:=z0) (by omega)
     obtain ⟨n1,rfl⟩:=Int.eq_ofNat_of_zero_le (a:=z1) (by omega)
     obtain ⟨n2,rfl⟩:=Int.eq_ofNat_of_zero_le (a:=z2) (by omega)
     obtain ⟨n3,rfl⟩:=Int.eq_ofNat_of_zero_le (a:=z3) (by omega)
     obtain ⟨n4,rfl⟩:=Int.eq_ofNat_of_zero_le (a:=z4) (by omega)
     obtain ⟨n5,rfl⟩:=Int.eq_ofNat_of_zero_le (a:=z5) (by omega)
     obtain ⟨n6,rfl⟩:=Int.eq_ofNat_of_zero_le (a:=z6) (by omega)
     obtain ⟨n7,rfl⟩:=Int.eq_ofNat_of_zero_le (a:=z7) (by omega)
     obtain ⟨n8,rfl⟩:=Int.eq_ofNat_of_zero_le (a:=z8) (by omega)
     obtain ⟨n9,rfl⟩:=Int.eq_ofNat_of_zero_le (a:=z9) (by omega)
     simp only [Int.toNat_natCast] at hst
     intro x dx hx hdx ne
     rw [ob_nil]
     have hr3:=g3 _ _ hrow
     have hr4:upd (upd H3 dx (.own x)) x (T.ob 7 dx []) rl=some (.lst (([(n0:Int),n1,n2,n3,n4,n5,n6,n7,n8,n9]:List Int).map V.int)):=by
      rw [upd_ne (jab hr3 hx),upd_ne (jab hr3 hdx)]; exact hr3
     have hS4:Same (upd H l (.lst (tl.map V.int))) (upd (upd H3 dx (.own x)) x (T.ob 7 dx [])):=fun b o e=>by
      have:=w3.same _ _ e
      rw [upd_ne (jab this hx),upd_ne (jab this hdx)]; exact this
     refine ⟨ti,_,x,dx,rl,n0,n1,n2,n3,n4,n5,n6,n7,n8,n9,rfl,jaa,hr4,hS4,w3.same.free hx,by omega,fun H4 loc hW R=>⟨rfl,one_sz,fun p hp=>?_⟩⟩
     exact rest (fresh0 n0 n1 n2 n3 n4 n5 n6 n7 n8 n9) [0] (.ref x) _ p hst (by decide) (R.free hp) (.inr ⟨loc,by rw [hW],R.new hp,WF.fresh _ _ _ _ _ _ _ _ _ _ (by omega) (by omega) (by omega) (by omega) (by omega)⟩)
   ·refine ⟨rfl,kn ?_ ?_⟩
    ·simp; omega
    refine kn ?_ ?_
    ·simp
    refine ⟨rfl,kn ?_ ?_⟩
    ·simp; omega
    have hst:VbcnadNeutral.step st [(i:Int) :: zs]=Vbcnad.step st c:=by
     unfold VbcnadNeutral.step; rw [hcl]
    rcases w1 with ⟨rfl,hon,hS⟩ | ⟨loc,rfl,R,W⟩
    ·refine ⟨rfl,?_⟩
     rw [step_off hC hon] at hst
     refine ⟨one_sz,fun p hp=>?_⟩
     have w4:Wd T (upd H l (.lst (tl.map V.int))) H2 st .non j:=.inl ⟨rfl,hon,(jbw hFr).trans hS⟩
     exact rest st [-20] .non _ p hst (by decide) (w4.same.free hp) (w4.new hp).up
    ·refine ⟨rfl,?_⟩
     rw [step_of hC W.on] at hst
     refine ⟨loc,_,st,i,zs,rl,c,rfl,jaa,hzb,hC,⟨R,j,hj4,W⟩,fun H3 loc' al hal hk R3=>?_⟩
     have nr:al≠rl:=fun e=>by subst e; rw [jaa] at hal; cases hal
     rw [upd_ne nr] at hal
     have hsub:Same (upd (upd H l (.lst (tl.map V.int))) al (.lst ((Vbcnad.doing st c).2.map V.int))) (upd (upd (upd H l (.lst (tl.map V.int))) rl (.lst (zs.map V.int))) al (.lst ((Vbcnad.doing st c).2.map V.int))):=jbv (jbw hFr)
     exact rest _ _ (.ref (loc .W)) H3 al hst (ans_len W hC) hal (.inr ⟨loc',by rw [hk.1],R3.less hsub,W.doing hC⟩)
  ·refine kn (by simp; omega) ?_
   have:k=ns.length:=by omega
   subst this
   rw [List.drop_length] at hpar
   rw [calls_nil hpar] at hans
   have h1:=w.same _ _ (show upd H l (.lst (tl.map V.int)) l=some (.lst (tl.map V.int)) from jaa)
   refine q _ l ?_
   rw [hans,h1]
   simp [PyFlat.played,PyFlat.told]
noncomputable def stAt (i:Nat):Stmt:=PySem.Challenge.pw_portadmit_s01_answers.main.body.getD i (.Pass ⟨0,0,0,0⟩)
noncomputable def refAt (K:W.Frag) (x:Str):Addr:=match PySem.W.nsIn K mainGlobals x with
 | some (some (.ref a))=>a
 | _=>0
noncomputable def isRef (K:W.Frag) (x:Str):Bool:=match PySem.W.nsIn K mainGlobals x with
 | some (some (.ref _))=>true
 | _=>false
theorem jcg {K:W.Frag} {x:Str} (h:isRef K x=true):PySem.W.nsIn K mainGlobals x=some (some (.ref (refAt K x))):=by
 unfold isRef at h
 unfold refAt
 split at h
 ·rename_i a e; rw [e]
 ·cases h
noncomputable abbrev Txt:=Arguments×List Stmt×Scope
noncomputable def txtOf (st:Stmt):Txt:=(defArgs st,defBody st,defScope st)
noncomputable def fnText (K:W.Frag) (f:Addr) (x qual:Str):Option Txt:=match K.lookup f with
 | some ⟨_,_,.func ⟨n,q,ps,.stmts b,sc,gl,[],.none,_,_,_,_,cd,_,bi⟩,_⟩ =>
  if n == x && q == qual && Nat.beq gl mainGlobals && Nat.beq bi builtinsNs && PySem.W.codeIn K cd qual then some (ps,b,sc) else none
 | _=>none
theorem fun_of {K:W.Frag} {f:Addr} {x qual:Str} {st:Stmt} (h:fnText K f x qual=some (txtOf st)):∃ fd,Fun K x qual st f fd:=by
 unfold fnText at h
 split at h
 ·rename_i oc od n q ps b sc gl kV doc pm an cd ct bi osl e
  split at h
  ·rename_i hc
   simp only [Bool.and_eq_true,beq_iff_eq] at hc
   obtain ⟨⟨⟨⟨h1,h2⟩,h3⟩,h4⟩,h5⟩:=hc
   have h3':=Nat.eq_of_beq_eq_true h3
   have h4':=Nat.eq_of_beq_eq_true h4
   subst h1 h2 h3' h4'
   unfold txtOf at h
   simp only [Option.some.injEq,Prod.mk.injEq] at h
   obtain ⟨rfl,rfl,rfl⟩:=h
   refine ⟨_,⟨⟨oc,od,kV,doc,pm,an,cd,ct,osl,rfl,e,h5⟩,?_⟩⟩
   unfold PySem.W.keepIn
   simp only [e]
  ·cases h
 ·cases h
noncomputable def intIs (K:W.Frag) (x:Str) (i:Int):Bool:=match PySem.W.nsIn K mainGlobals x with
 | some (some (.int j _))=>j == i
 | _=>false
theorem int_of {K:W.Frag} {x:Str} {i:Int} (h:intIs K x i=true):∃ u,PySem.W.nsIn K mainGlobals x=some (some u)∧RelV (.int i) u:=by
 unfold intIs at h
 split at h
 ·rename_i j t e
  have hj:j=i:=by simpa using h
  subst hj
  exact ⟨_,e,t,rfl⟩
 ·cases h
noncomputable def noneIs (K:W.Frag) (x:Str):Bool:=match PySem.W.nsIn K mainGlobals x with
 | some none=>true
 | _=>false
theorem none_of {K:W.Frag} {x:Str} (h:noneIs K x=true):PySem.W.nsIn K mainGlobals x=some none:=by
 unfold noneIs at h
 split at h
 ·assumption
 ·cases h
noncomputable def intsAt (K:W.Frag) (a:Addr):Option (List Int):=match K.lookup a with
 | some ⟨.type c,_,.seq its _,_⟩=>if c == "tuple" && Nat.ble its.size sizeLine then its.toList.mapM (fun | .int i _=>some i | _=>none) else none
 | _=>none
noncomputable def refsAt (K:W.Frag) (a:Addr):Option (List Addr):=match K.lookup a with
 | some ⟨.type c,_,.seq its _,_⟩=>if c == "tuple" && Nat.ble its.size sizeLine then its.toList.mapM (fun | .ref i=>some i | _=>none) else none
 | _=>none
theorem vals_int:∀ {us:List Value} {is:List Int},us.mapM (fun | .int i _=>some i | _=>none)=some is→Vals (is.map V.int) us
 | [],is,h=>by
  simp only [List.mapM_nil,Option.pure_def,Option.some.injEq] at h
  subst h
  exact .nil
 | u :: us,is,h=>by
  rw [List.mapM_cons] at h
  cases u <;> simp only [Option.bind_eq_bind,Option.bind_none,reduceCtorEq] at h
  rename_i i t
  simp only [Option.bind_some] at h
  cases e:us.mapM (fun | Value.int i _=>some i | _=>none) with
  | none=>rw [e] at h; simp at h
  | some js =>
   rw [e] at h
   simp only [Option.bind_some,Option.pure_def,Option.some.injEq] at h
   subst h
   exact .cons ⟨t,rfl⟩ (vals_int e)
theorem vals_ref:∀ {us:List Value} {is:List Addr},us.mapM (fun | .ref i=>some i | _=>none)=some is→Vals (is.map V.ref) us
 | [],is,h=>by
  simp only [List.mapM_nil,Option.pure_def,Option.some.injEq] at h
  subst h
  exact .nil
 | u :: us,is,h=>by
  rw [List.mapM_cons] at h
  cases u <;> simp only [Option.bind_eq_bind,Option.bind_none,reduceCtorEq] at h
  rename_i i
  simp only [Option.bind_some] at h
  cases e:us.mapM (fun | Value.ref i=>some i | _=>none) with
  | none=>rw [e] at h; simp at h
  | some js =>
   rw [e] at h
   simp only [Option.bind_some,Option.pure_def,Option.some.injEq] at h
   subst h
   exact .cons rfl (vals_ref e)
theorem ints_of {K:W.Frag} {a:Addr} {is:List Int} (h:intsAt K a=some is) (H:Hp):SqT K H a (is.map V.int):=by
 unfold intsAt at h
 split at h
 ·rename_i c od its n sl e
  split at h
  ·rename_i hc
   simp only [Bool.and_eq_true,beq_iff_eq] at hc
   exact .inr ⟨_,its,n,e,by rw [hc.1],rfl,Nat.le_of_ble_eq_true hc.2,vals_int h⟩
  ·cases h
 ·cases h
theorem refs_of {K:W.Frag} {a:Addr} {is:List Addr} (h:refsAt K a=some is) (H:Hp):SqT K H a (is.map V.ref):=by
 unfold refsAt at h
 split at h
 ·rename_i c od its n sl e
  split at h
  ·rename_i hc
   simp only [Bool.and_eq_true,beq_iff_eq] at hc
   exact .inr ⟨_,its,n,e,by rw [hc.1],rfl,Nat.le_of_ble_eq_true hc.2,vals_ref h⟩
  ·cases h
 ·cases h
noncomputable def pairsAt (K:W.Frag) (a:Addr) (rs:List (Int×Int)):Bool:=match refsAt K a with
 | some as=>as.map (intsAt K) == rs.map fun r=>some [r.1,r.2]
 | none=>false
theorem pairs_of {K:W.Frag} {a:Addr} {rs:List (Int×Int)} (h:pairsAt K a rs=true):Rgs K a rs:=by
 unfold pairsAt at h
 split at h
 ·rename_i as e
  have h':=beq_iff_eq.mp h
  refine ⟨as,refs_of e,by simpa using congrArg List.length h',fun i b r hb hr H=>?_⟩
  have q:=congrArg (·[i]?) h'
  simp only [List.getElem?_map,hb,hr,Option.map_some,Option.some.injEq] at q
  exact ints_of q H
 ·cases h
noncomputable def clsName:Nat→Str
 | 0 => "Stand"
 | 1 => "Port"
 | 2 => "Session"
 | 3 => "Person"
 | 4 => "Rule"
 | 5 => "Attempt"
 | 6 => "Begun"
 | _ => "World"
noncomputable def iniName:Nat→Str
 | 0 => "Stand.__init__"
 | 1 => "Port.__init__"
 | 2 => "Session.__init__"
 | 3 => "Person.__init__"
 | 4 => "Rule.__init__"
 | 5 => "Attempt.__init__"
 | 6 => "Begun.__init__"
 | _ => "World.__init__"
noncomputable def gloName:Nat→Str
 | 0 => "SIZES"
 | 1 => "RULE_RANGES"
 | _ => "BEGIN_RANGES"
noncomputable def tbOf (K:W.Frag):Tb:=⟨fun c=>refAt K (clsName c),fun i=>refAt K (gloName i)⟩
noncomputable def iniAt (K:W.Frag) (c:Nat):Addr:=match PySem.W.findIn K (.ref (refAt K (clsName c))) "__init__" with
 | some (some (.ref f))=>f
 | _=>0
noncomputable def noIn (K:W.Frag) (C:Addr) (f:Str):Bool:=match PySem.W.findIn K (.ref C) f with
 | some none=>true
 | _=>false
theorem noIn_of {K:W.Frag} {C:Addr} {f:Str} (h:noIn K C f=true):PySem.W.findIn K (.ref C) f=some none:=by
 unfold noIn at h
 split at h
 ·assumption
 ·cases h
noncomputable def setIn (K:W.Frag) (C:Addr):Bool:=match PySem.W.findIn K (.ref C) "__setattr__" with
 | some (some (.builtin s))=>s == "object.__setattr__"
 | _=>false
theorem setIn_of {K:W.Frag} {C:Addr} (h:setIn K C=true):PySem.W.findIn K (.ref C) "__setattr__" = some (some (.builtin "object.__setattr__")):=by
 unfold setIn at h
 split at h
 ·rename_i s e
  rw [e,beq_iff_eq.mp h]
 ·cases h
noncomputable def iniIn (K:W.Frag) (c:Nat):Bool:=match PySem.W.findIn K (.ref (refAt K (clsName c))) "__init__" with
 | some (some (.ref _))=>true
 | _=>false
theorem iniIn_of {K:W.Frag} {c:Nat} (h:iniIn K c=true):PySem.W.findIn K (.ref (refAt K (clsName c))) "__init__" = some (some (.ref (iniAt K c))):=by
 unfold iniIn at h
 unfold iniAt
 split at h
 ·rename_i a e; rw [e]
 ·cases h
noncomputable def clsB (K:W.Frag) (c:Nat):Bool:=isRef K (clsName c) && (PySem.W.plainGet K (refAt K (clsName c)) Str.empty && (PySem.W.hasDictIn K (refAt K (clsName c)) && (PySem.W.plainOver K (refAt K (clsName c)) && (setIn K (refAt K (clsName c)) &&
 (PySem.W.makesIn K (refAt K (clsName c)) && (PySem.W.keepIn K (.ref (refAt K (clsName c))) && ((keysOf c).all (noIn K (refAt K (clsName c))) && (iniIn K c && PySem.W.isFn K (.ref (iniAt K c))))))))))
noncomputable def intTab:List (Str×Int):=[(("ACCOUNT" : Str),(25:Int)),(("ANSWER" : Str),(1:Int)),(("ASKING" : Str),(1:Int)),(("AS_GUEST" : Str),(6:Int)),(("BAG" : Str),(24:Int)),(("BAR" : Str),(7:Int)),(("BEGIN" : Str),(0:Int)),(("BYE" : Str),(13:Int)),(("CHALLENGE" : Str),(3:Int)),(("CHALLENGED" : Str),(3:Int)),(("CHECKING" : Str),(4:Int)),(("COUNT" : Str),(2:Int)),(("DAY" : Str),(86400:Int)),(("DELIVER" : Str),(17:Int)),(("DOUBLE" : Str),(19:Int)),(("DOWN" : Str),(0:Int)),(("FRAME" : Str),(14:Int)),(("GOT" : Str),(7:Int)),(("GUEST" : Str),(8:Int)),(("HELD" : Str),(5:Int)),(("HELLO" : Str),(0:Int)),(("HOST_STEP" : Str),(1099511627776:Int)),(("INSIDE" : Str),(7:Int)),(("KEYED" : Str),(22:Int)),(("LOOKING" : Str),(2:Int)),(("LOSE" : Str),(18:Int)),(("MEMBER" : Str),(4:Int)),(("MOST_CHALLENGE" : Str),(4611686018427387904:Int)),(("MOST_FRAMES" : Str),(1000000:Int)),(("MOST_GROUP" : Str),(63:Int)),(("MOST_HOST" : Str),(281474976710655:Int)),(("MOST_NOW" : Str),(4611686018427387904:Int)),(("MOST_PERSONS" : Str),(256:Int)),(("MOST_REPLY" : Str),(4611686018427387904:Int)),(("MOST_RULES" : Str),(64:Int)),(("MOST_SECRET" : Str),(2305843009213693950:Int)),(("MOST_VLAN" : Str),(4094:Int)),(("MOST_WHO" : Str),(4294967295:Int)),(("NO" : Str),(5:Int)),(("NORULES" : Str),(6:Int)),(("OVER" : Str),(6:Int)),(("PERSON" : Str),(1:Int)),(("PLUG" : Str),(9:Int)),(("PORT" : Str),(23:Int)),(("REBOOT" : Str),(21:Int)),(("REPLY" : Str),(12:Int)),(("REPORT" : Str),(16:Int)),(("RESTART" : Str),(20:Int)),(("RULE" : Str),(5:Int)),(("SAY" : Str),(11:Int)),(("SECRET" : Str),(3:Int)),(("SUM_MODULUS" : Str),(2305843009213693951:Int)),(("TICK" : Str),(15:Int)),(("UNPERSON" : Str),(2:Int)),(("UNPLUG" : Str),(10:Int)),(("WHOIS" : Str),(26:Int)),(("YES" : Str),(4:Int))]
noncomputable def nonTab:List Str:=["any", "enumerate", "len", "list", "max", "range", "zip"]
noncomputable def fnTab:List (Str×Nat):=[(("within" : Str),(41:Nat)),(("all_within" : Str),(42:Nat)),(("is_host" : Str),(43:Nat)),(("is_who" : Str),(44:Nat)),(("is_secret" : Str),(45:Nat)),(("is_group" : Str),(46:Nat)),(("is_choice" : Str),(47:Nat)),(("keyed_sum" : Str),(48:Nat)),(("draw" : Str),(74:Nat)),(("send" : Str),(75:Nat)),(("has_host" : Str),(80:Nat)),(("add_person" : Str),(81:Nat)),(("send_overs" : Str),(82:Nat)),(("drop_person" : Str),(83:Nat)),(("set_secret" : Str),(84:Nat)),(("set_member" : Str),(85:Nat)),(("add_rule" : Str),(86:Nat)),(("drop_rules" : Str),(87:Nat)),(("set_barred" : Str),(88:Nat)),(("reboot" : Str),(89:Nat)),(("directory_call" : Str),(90:Nat)),(("is_port" : Str),(92:Nat)),(("stand_waiting" : Str),(93:Nat)),(("ask_anew" : Str),(94:Nat)),(("end_session" : Str),(95:Nat)),(("set_guest" : Str),(96:Nat)),(("plug" : Str),(97:Nat)),(("unplug" : Str),(98:Nat)),(("say_refusal" : Str),(99:Nat)),(("say" : Str),(100:Nat)),(("check_reply" : Str),(101:Nat)),(("reply" : Str),(102:Nat)),(("bye" : Str),(103:Nat)),(("pass_frames" : Str),(104:Nat)),(("frame" : Str),(105:Nat)),(("report" : Str),(106:Nat)),(("restart" : Str),(107:Nat)),(("switch_call" : Str),(108:Nat)),(("hold_port" : Str),(110:Nat)),(("come_to_nothing" : Str),(111:Nat)),(("deny" : Str),(112:Nat)),(("put_out" : Str),(113:Nat)),(("take_challenge" : Str),(114:Nat)),(("count_sessions" : Str),(115:Nat)),(("put_out_elsewhere" : Str),(116:Nat)),(("admit" : Str),(117:Nat)),(("take_yes" : Str),(118:Nat)),(("take_no" : Str),(119:Nat)),(("take_over" : Str),(120:Nat)),(("take_got" : Str),(121:Nat)),(("switch_takes" : Str),(122:Nat)),(("may_be_admitted" : Str),(124:Nat)),(("know" : Str),(125:Nat)),(("take_hello" : Str),(126:Nat)),(("hours_fit" : Str),(127:Nat)),(("first_rule" : Str),(128:Nat)),(("add_wrong" : Str),(129:Nat)),(("begin_session" : Str),(130:Nat)),(("decide" : Str),(131:Nat)),(("send_overs_elsewhere" : Str),(132:Nat)),(("take_answer" : Str),(133:Nat)),(("take_count" : Str),(134:Nat)),(("directory_takes" : Str),(135:Nat)),(("hand_over" : Str),(137:Nat)),(("double" : Str),(138:Nat)),(("net_call" : Str),(139:Nat)),(("rest_until" : Str),(141:Nat)),(("tell_keyed" : Str),(142:Nat)),(("stand_numbers" : Str),(143:Nat)),(("session_numbers" : Str),(144:Nat)),(("tell_port" : Str),(145:Nat)),(("tell_bag" : Str),(146:Nat)),(("tell_account" : Str),(147:Nat)),(("tell_person" : Str),(148:Nat)),(("tell_counts" : Str),(149:Nat)),(("telling_call" : Str),(150:Nat)),(("end_asking" : Str),(152:Nat)),(("wait_once_more" : Str),(153:Nat)),(("send_once_more" : Str),(154:Nat)),(("due_asking" : Str),(155:Nat)),(("due_sending" : Str),(156:Nat)),(("due_of" : Str),(157:Nat)),(("look_at" : Str),(158:Nat)),(("forget" : Str),(159:Nat)),(("tick" : Str),(160:Nat)),(("act" : Str),(163:Nat)),(("answers" : Str),(164:Nat))]
noncomputable def iniTab:List (Nat×Nat×Nat):=[(0,66,0),(1,67,0),(2,68,0),(3,69,0),(4,70,0),(5,71,0),(6,72,0),(7,73,0)]
structure Look (K:W.Frag):Prop where
 l_ints:(intTab.all fun p=>intIs K p.1 p.2)=true
 l_nons:nonTab.all (noneIs K)=true
 l_refs:(fnTab.all fun p=>isRef K p.1)=true
 l_tups:((List.range 3).all fun i=>isRef K (gloName i))=true
 l_fns:(fnTab.map fun p=>fnText K (refAt K p.1) p.1 p.1)=fnTab.map fun p=>some (txtOf (stAt p.2))
 l_inis:(iniTab.map fun p=>fnText K (iniAt K p.1) "__init__" (iniName p.1))=iniTab.map fun p=>some (txtOf (inClass (stAt p.2.1) p.2.2))
 l_cls:(List.range 8).all (clsB K)=true
 l_nd:((List.range 8).all fun c=>(List.range 8).all fun d=>Nat.beq c d || !Nat.beq (refAt K (clsName c)) (refAt K (clsName d)))=true
 l_sz:intsAt K (refAt K "SIZES")=some [10,3,1,2,3,8,0,2,2,1,1,3,3,2,3,1,0,1,1,1,0,0,2,1,0,1,1,0]
 l_rr:pairsAt K (refAt K "RULE_RANGES") [(0,63),(0,63),(0,63),(0,86399),(0,86399),(1,4094),(1,1000000),(1,1000000)]=true
 l_br:pairsAt K (refAt K "BEGIN_RANGES") [(1,64),(1,1024),(1,1000000),(1,10),(1,1000000),(1,10),(1,1000000),(1,1000000),(1,256),(1,1024)]=true
theorem Look.clsAt {K:W.Frag} (M:Look K) {c:Nat} (h:c < 8):clsB K c=true:=List.all_eq_true.mp M.l_cls c (List.mem_range.mpr h)
theorem Look.ti {K:W.Frag} (M:Look K):TI (tbOf K):=fun c d hc hd e=>by
 have h:=List.all_eq_true.mp (List.all_eq_true.mp M.l_nd c (List.mem_range.mpr hc)) d (List.mem_range.mpr hd)
 rw [show refAt K (clsName c)=refAt K (clsName d) from e] at h
 cases q:Nat.beq c d with
 | true=>exact Nat.eq_of_beq_eq_true q
 | false =>
  rw [q,show Nat.beq (refAt K (clsName d)) (refAt K (clsName d))=true from Nat.beq_refl _] at h
  cases h
theorem Look.mt {K:W.Frag} (M:Look K):MT K (tbOf K):=⟨ints_of M.l_sz,pairs_of M.l_rr,pairs_of M.l_br⟩
structure Env (g:G):Prop where
 look:Look g.K
 mg:∀ x v,PySem.W.nsIn g.K mainGlobals x=some (some v)→g.mg x=some v
 mgN:∀ x,PySem.W.nsIn g.K mainGlobals x=some none→g.mg x=none
theorem keysNil:∀ {c:Nat},8≤c→keysOf c=[]
 | c+8,_=>rfl
theorem Env.tok {g:G} (M:Env g):TOk g (tbOf g.K) where
 cls:=fun c h=>by
  by_cases hc:c < 8
  ·have:=M.look.clsAt hc
   unfold clsB at this
   simp only [Bool.and_eq_true] at this
   obtain ⟨_,h1,h2,h3,h4,_⟩:=this
   exact ⟨h1,h2,h3,setIn_of h4⟩
  ·rw [keysNil (Nat.le_of_not_lt hc)] at h
   exact absurd h (Nat.lt_irrefl 0)
 no:=fun c f h=>by
  by_cases hc:c < 8
  ·have:=M.look.clsAt hc
   unfold clsB at this
   simp only [Bool.and_eq_true] at this
   obtain ⟨_,_,_,_,_,_,_,h7,_⟩:=this
   exact noIn_of (List.all_eq_true.mp h7 f h)
  ·rw [keysNil (Nat.le_of_not_lt hc)] at h
   cases h
 nd:=fun c=>by
  by_cases hc:c < 8
  ·have:(List.range 8).all (fun c=>decide (keysOf c).Nodup)=true:=by decide +kernel
   exact of_decide_eq_true (List.all_eq_true.mp this c (List.mem_range.mpr hc))
  ·rw [keysNil (Nat.le_of_not_lt hc)]
   exact List.nodup_nil
 few:=fun c=>by
  by_cases hc:c < 8
  ·have:(List.range 8).all (fun c=>decide ((keysOf c).length < 1000))=true:=by decide +kernel
   exact of_decide_eq_true (List.all_eq_true.mp this c (List.mem_range.mpr hc))
  ·rw [keysNil (Nat.le_of_not_lt hc)]
   exact Nat.zero_lt_succ _
theorem Env.int {g:G} (M:Env g) {x:Str} {i:Int} (h:(x,i) ∈ intTab):∃ u,g.mg x=some u∧RelV (.int i) u:=by
 obtain ⟨u,e,r⟩:=int_of (List.all_eq_true.mp M.look.l_ints _ h)
 exact ⟨u,M.mg _ _ e,r⟩
theorem Env.non {g:G} (M:Env g) {x:Str} (h:x ∈ nonTab):g.mg x=none:=M.mgN _ (none_of (List.all_eq_true.mp M.look.l_nons _ h))
theorem Env.tup {g:G} (M:Env g) {i:Nat} (h:i < 3):∃ u,g.mg (gloName i)=some u∧RelV (.ref ((tbOf g.K).glo i)) u :=
 ⟨_,M.mg _ _ (jcg (List.all_eq_true.mp M.look.l_tups _ (List.mem_range.mpr h))),rfl⟩
noncomputable abbrev Bd_ (x qual:Str) (st:Stmt) (ps:List Str):Prop:=∀ (kV doc pm:Value) (an:Option Addr) (cdv ct:Value) (us:List Value),us.length=ps.length→bindArgs (PySem.W.fnOf x qual (defArgs st) (defBody st) (defScope st) .none kV doc pm an cdv ct) ⟨us,[]⟩=pure (ps.zip us)
theorem Env.prom {g:G} (M:Env g) {x:Str} {p k:Nat} {N ps:List Str} {sp:Sp} (h:(x,p) ∈ fnTab) (b:Bd_ x x (stAt p) ps) (m:MB) (hc:defC N ps (stAt p) m=true) (ho:m.ok g (tbOf g.K) k)
  (len:∀ vs H Q E,sp vs H Q E→vs.length=ps.length)
  (hw:Wk g.K (tbOf g.K) sp m N):Prom g (k+1) x sp:=by
 have e:=List.map_inj_left.mp M.look.l_fns _ h
 obtain ⟨fd,F⟩:=fun_of (st:=stAt p) e
 exact prom_of M.tok F (M.mg _ _ (jcg (List.all_eq_true.mp M.look.l_refs _ h))) (F.binds b) m hc ho len hw
theorem Env.promC {g:G} (M:Env g) {c p j k:Nat} {N ps:List Str} {sp:Sp} (hc8:c < 8) (h:(c,p,j) ∈ iniTab) (b:Bd_ "__init__" (iniName c) (inClass (stAt p) j) ps) (m:MB) (hc:defC N ps (inClass (stAt p) j) m=true) (ho:m.ok g (tbOf g.K) k)
  (len:∀ vs H Q E,sp vs H Q E→vs.length=ps.length)
  (hw:Wk g.K (tbOf g.K) sp m N):PromC g (tbOf g.K) (k+1) (clsName c) c sp:=by
 have e:=List.map_inj_left.mp M.look.l_inis _ h
 obtain ⟨fd,F⟩:=fun_of (st:=inClass (stAt p) j) e
 have q:=M.look.clsAt hc8
 unfold clsB at q
 simp only [Bool.and_eq_true] at q
 obtain ⟨h0,_,_,_,_,h5,h6,_,h8,h9⟩:=q
 exact ⟨_,fd,ps,fn_sound M.tok F m hc ho len hw,⟨h5,iniIn_of h8,h9,h6⟩,M.mg _ _ (jcg h0),F.binds b⟩
section
variable {g:G} (M:Env g)
include M
theorem Env.g_ACCOUNT:∃ u,g.mg "ACCOUNT" = some u∧RelV (.int 25) u:=M.int (List.mem_of_getElem? (i:=0) rfl)
theorem Env.g_ANSWER:∃ u,g.mg "ANSWER" = some u∧RelV (.int 1) u:=M.int (List.mem_of_getElem? (i:=1) rfl)
theorem Env.g_ASKING:∃ u,g.mg "ASKING" = some u∧RelV (.int 1) u:=M.int (List.mem_of_getElem? (i:=2) rfl)
theorem Env.g_AS_GUEST:∃ u,g.mg "AS_GUEST" = some u∧RelV (.int 6) u:=M.int (List.mem_of_getElem? (i:=3) rfl)
theorem Env.g_BAG:∃ u,g.mg "BAG" = some u∧RelV (.int 24) u:=M.int (List.mem_of_getElem? (i:=4) rfl)
theorem Env.g_BAR:∃ u,g.mg "BAR" = some u∧RelV (.int 7) u:=M.int (List.mem_of_getElem? (i:=5) rfl)
theorem Env.g_BEGIN:∃ u,g.mg "BEGIN" = some u∧RelV (.int 0) u:=M.int (List.mem_of_getElem? (i:=6) rfl)
theorem Env.g_BYE:∃ u,g.mg "BYE" = some u∧RelV (.int 13) u:=M.int (List.mem_of_getElem? (i:=7) rfl)
theorem Env.g_CHALLENGE:∃ u,g.mg "CHALLENGE" = some u∧RelV (.int 3) u:=M.int (List.mem_of_getElem? (i:=8) rfl)
theorem Env.g_CHALLENGED:∃ u,g.mg "CHALLENGED" = some u∧RelV (.int 3) u:=M.int (List.mem_of_getElem? (i:=9) rfl)
theorem Env.g_CHECKING:∃ u,g.mg "CHECKING" = some u∧RelV (.int 4) u:=M.int (List.mem_of_getElem? (i:=10) rfl)
theorem Env.g_COUNT:∃ u,g.mg "COUNT" = some u∧RelV (.int 2) u:=M.int (List.mem_of_getElem? (i:=11) rfl)
theorem Env.g_DAY:∃ u,g.mg "DAY" = some u∧RelV (.int 86400) u:=M.int (List.mem_of_getElem? (i:=12) rfl)
theorem Env.g_DELIVER:∃ u,g.mg "DELIVER" = some u∧RelV (.int 17) u:=M.int (List.mem_of_getElem? (i:=13) rfl)
theorem Env.g_DOUBLE:∃ u,g.mg "DOUBLE" = some u∧RelV (.int 19) u:=M.int (List.mem_of_getElem? (i:=14) rfl)
theorem Env.g_DOWN:∃ u,g.mg "DOWN" = some u∧RelV (.int 0) u:=M.int (List.mem_of_getElem? (i:=15) rfl)
theorem Env.g_FRAME:∃ u,g.mg "FRAME" = some u∧RelV (.int 14) u:=M.int (List.mem_of_getElem? (i:=16) rfl)
theorem Env.g_GOT:∃ u,g.mg "GOT" = some u∧RelV (.int 7) u:=M.int (List.mem_of_getElem? (i:=17) rfl)
theorem Env.g_GUEST:∃ u,g.mg "GUEST" = some u∧RelV (.int 8) u:=M.int (List.mem_of_getElem? (i:=18) rfl)
theorem Env.g_HELD:∃ u,g.mg "HELD" = some u∧RelV (.int 5) u:=M.int (List.mem_of_getElem? (i:=19) rfl)
theorem Env.g_HELLO:∃ u,g.mg "HELLO" = some u∧RelV (.int 0) u:=M.int (List.mem_of_getElem? (i:=20) rfl)
theorem Env.g_HOST_STEP:∃ u,g.mg "HOST_STEP" = some u∧RelV (.int 1099511627776) u:=M.int (List.mem_of_getElem? (i:=21) rfl)
theorem Env.g_INSIDE:∃ u,g.mg "INSIDE" = some u∧RelV (.int 7) u:=M.int (List.mem_of_getElem? (i:=22) rfl)
theorem Env.g_KEYED:∃ u,g.mg "KEYED" = some u∧RelV (.int 22) u:=M.int (List.mem_of_getElem? (i:=23) rfl)
theorem Env.g_LOOKING:∃ u,g.mg "LOOKING" = some u∧RelV (.int 2) u:=M.int (List.mem_of_getElem? (i:=24) rfl)
theorem Env.g_LOSE:∃ u,g.mg "LOSE" = some u∧RelV (.int 18) u:=M.int (List.mem_of_getElem? (i:=25) rfl)
theorem Env.g_MEMBER:∃ u,g.mg "MEMBER" = some u∧RelV (.int 4) u:=M.int (List.mem_of_getElem? (i:=26) rfl)
theorem Env.g_MOST_CHALLENGE:∃ u,g.mg "MOST_CHALLENGE" = some u∧RelV (.int 4611686018427387904) u:=M.int (List.mem_of_getElem? (i:=27) rfl)
theorem Env.g_MOST_FRAMES:∃ u,g.mg "MOST_FRAMES" = some u∧RelV (.int 1000000) u:=M.int (List.mem_of_getElem? (i:=28) rfl)
theorem Env.g_MOST_GROUP:∃ u,g.mg "MOST_GROUP" = some u∧RelV (.int 63) u:=M.int (List.mem_of_getElem? (i:=29) rfl)
theorem Env.g_MOST_HOST:∃ u,g.mg "MOST_HOST" = some u∧RelV (.int 281474976710655) u:=M.int (List.mem_of_getElem? (i:=30) rfl)
theorem Env.g_MOST_NOW:∃ u,g.mg "MOST_NOW" = some u∧RelV (.int 4611686018427387904) u:=M.int (List.mem_of_getElem? (i:=31) rfl)
theorem Env.g_MOST_PERSONS:∃ u,g.mg "MOST_PERSONS" = some u∧RelV (.int 256) u:=M.int (List.mem_of_getElem? (i:=32) rfl)
theorem Env.g_MOST_REPLY:∃ u,g.mg "MOST_REPLY" = some u∧RelV (.int 4611686018427387904) u:=M.int (List.mem_of_getElem? (i:=33) rfl)
theorem Env.g_MOST_RULES:∃ u,g.mg "MOST_RULES" = some u∧RelV (.int 64) u:=M.int (List.mem_of_getElem? (i:=34) rfl)
theorem Env.g_MOST_SECRET:∃ u,g.mg "MOST_SECRET" = some u∧RelV (.int 2305843009213693950) u:=M.int (List.mem_of_getElem? (i:=35) rfl)
theorem Env.g_MOST_VLAN:∃ u,g.mg "MOST_VLAN" = some u∧RelV (.int 4094) u:=M.int (List.mem_of_getElem? (i:=36) rfl)
theorem Env.g_MOST_WHO:∃ u,g.mg "MOST_WHO" = some u∧RelV (.int 4294967295) u:=M.int (List.mem_of_getElem? (i:=37) rfl)
theorem Env.g_NO:∃ u,g.mg "NO" = some u∧RelV (.int 5) u:=M.int (List.mem_of_getElem? (i:=38) rfl)
theorem Env.g_NORULES:∃ u,g.mg "NORULES" = some u∧RelV (.int 6) u:=M.int (List.mem_of_getElem? (i:=39) rfl)
theorem Env.g_OVER:∃ u,g.mg "OVER" = some u∧RelV (.int 6) u:=M.int (List.mem_of_getElem? (i:=40) rfl)
theorem Env.g_PERSON:∃ u,g.mg "PERSON" = some u∧RelV (.int 1) u:=M.int (List.mem_of_getElem? (i:=41) rfl)
theorem Env.g_PLUG:∃ u,g.mg "PLUG" = some u∧RelV (.int 9) u:=M.int (List.mem_of_getElem? (i:=42) rfl)
theorem Env.g_PORT:∃ u,g.mg "PORT" = some u∧RelV (.int 23) u:=M.int (List.mem_of_getElem? (i:=43) rfl)
theorem Env.g_REBOOT:∃ u,g.mg "REBOOT" = some u∧RelV (.int 21) u:=M.int (List.mem_of_getElem? (i:=44) rfl)
theorem Env.g_REPLY:∃ u,g.mg "REPLY" = some u∧RelV (.int 12) u:=M.int (List.mem_of_getElem? (i:=45) rfl)
theorem Env.g_REPORT:∃ u,g.mg "REPORT" = some u∧RelV (.int 16) u:=M.int (List.mem_of_getElem? (i:=46) rfl)
theorem Env.g_RESTART:∃ u,g.mg "RESTART" = some u∧RelV (.int 20) u:=M.int (List.mem_of_getElem? (i:=47) rfl)
theorem Env.g_RULE:∃ u,g.mg "RULE" = some u∧RelV (.int 5) u:=M.int (List.mem_of_getElem? (i:=48) rfl)
theorem Env.g_SAY:∃ u,g.mg "SAY" = some u∧RelV (.int 11) u:=M.int (List.mem_of_getElem? (i:=49) rfl)
theorem Env.g_SECRET:∃ u,g.mg "SECRET" = some u∧RelV (.int 3) u:=M.int (List.mem_of_getElem? (i:=50) rfl)
theorem Env.g_SUM_MODULUS:∃ u,g.mg "SUM_MODULUS" = some u∧RelV (.int 2305843009213693951) u:=M.int (List.mem_of_getElem? (i:=51) rfl)
theorem Env.g_TICK:∃ u,g.mg "TICK" = some u∧RelV (.int 15) u:=M.int (List.mem_of_getElem? (i:=52) rfl)
theorem Env.g_UNPERSON:∃ u,g.mg "UNPERSON" = some u∧RelV (.int 2) u:=M.int (List.mem_of_getElem? (i:=53) rfl)
theorem Env.g_UNPLUG:∃ u,g.mg "UNPLUG" = some u∧RelV (.int 10) u:=M.int (List.mem_of_getElem? (i:=54) rfl)
theorem Env.g_WHOIS:∃ u,g.mg "WHOIS" = some u∧RelV (.int 26) u:=M.int (List.mem_of_getElem? (i:=55) rfl)
theorem Env.g_YES:∃ u,g.mg "YES" = some u∧RelV (.int 4) u:=M.int (List.mem_of_getElem? (i:=56) rfl)
theorem Env.n_any:g.mg "any" = none:=M.non (List.mem_of_getElem? (i:=0) rfl)
theorem Env.n_enumerate:g.mg "enumerate" = none:=M.non (List.mem_of_getElem? (i:=1) rfl)
theorem Env.n_len:g.mg "len" = none:=M.non (List.mem_of_getElem? (i:=2) rfl)
theorem Env.n_list:g.mg "list" = none:=M.non (List.mem_of_getElem? (i:=3) rfl)
theorem Env.n_max:g.mg "max" = none:=M.non (List.mem_of_getElem? (i:=4) rfl)
theorem Env.n_range:g.mg "range" = none:=M.non (List.mem_of_getElem? (i:=5) rfl)
theorem Env.n_zip:g.mg "zip" = none:=M.non (List.mem_of_getElem? (i:=6) rfl)
theorem Env.g_SIZES:∃ u,g.mg "SIZES" = some u∧RelV (.ref ((tbOf g.K).glo 0)) u:=M.tup (i:=0) (by decide)
theorem Env.g_RULE_RANGES:∃ u,g.mg "RULE_RANGES" = some u∧RelV (.ref ((tbOf g.K).glo 1)) u:=M.tup (i:=1) (by decide)
theorem Env.g_BEGIN_RANGES:∃ u,g.mg "BEGIN_RANGES" = some u∧RelV (.ref ((tbOf g.K).glo 2)) u:=M.tup (i:=2) (by decide)
end
theorem bt_len:bootBuiltins "len" = some (.builtin "len"):=by decide +kernel
theorem bt_any:bootBuiltins "any" = some (.builtin "any"):=by decide +kernel
theorem bt_max:bootBuiltins "max" = some (.builtin "max"):=by decide +kernel
theorem bt_list:bootBuiltins "list" = some (.type "list"):=by decide +kernel
theorem t:True:=trivial
theorem Prom.up {g:G} {j k:Nat} {x:Str} {sp:Sp} (h:Prom g j x sp) (l:j≤k:=by decide):Prom g k x sp:=h.mono l
theorem PromC.up {g:G} {T:Tb} {j k c:Nat} {x:Str} {sp:Sp} (h:PromC g T j x c sp) (l:j+1≤k:=by decide):∃ j,j+1≤k∧PromC g T j x c sp:=⟨j,l,h⟩
noncomputable abbrev at_ (f:W.Frag→Tb→Sp) (g:G):Sp:=f g.K (tbOf g.K)
noncomputable abbrev mt_ (f:W.Frag→Tb→MB) (g:G):MB:=f g.K (tbOf g.K)
theorem b1 {α:Type} {P:List α→Prop} (h:∀ a,P [a]):∀ us:List α,us.length=1→P us:=fun us z=>by
 obtain ⟨a,z⟩:=le1 z
 subst z; exact h a
theorem b2 {α:Type} {P:List α→Prop} (h:∀ a b,P [a,b]):∀ us:List α,us.length=2→P us:=fun us z=>by
 obtain ⟨a,b,z⟩:=le2 z
 subst z; exact h a b
theorem b3 {α:Type} {P:List α→Prop} (h:∀ a b c,P [a,b,c]):∀ us:List α,us.length=3→P us:=fun us z=>by
 obtain ⟨a,b,c,z⟩:=le3 z
 subst z; exact h a b c
theorem b4 {α:Type} {P:List α→Prop} (h:∀ a b c d,P [a,b,c,d]):∀ us:List α,us.length=4→P us:=fun us z=>by
 obtain ⟨a,b,c,d,z⟩:=le4 z
 subst z; exact h a b c d
theorem b5 {α:Type} {P:List α→Prop} (h:∀ a b c d e,P [a,b,c,d,e]):∀ us:List α,us.length=5→P us:=fun us z=>by
 obtain ⟨a,b,c,d,e,z⟩:=le5 z
 subst z; exact h a b c d e
theorem b6 {α:Type} {P:List α→Prop} (h:∀ a b c d e f,P [a,b,c,d,e,f]):∀ us:List α,us.length=6→P us:=fun us z=>by
 obtain ⟨a,b,c,d,e,f,z⟩:=le6 z
 subst z; exact h a b c d e f
theorem b7 {α:Type} {P:List α→Prop} (h:∀ a b c d e f g,P [a,b,c,d,e,f,g]):∀ us:List α,us.length=7→P us:=fun us z=>by
 obtain ⟨a,b,c,d,e,f,g,z⟩:=le7 z
 subst z; exact h a b c d e f g
theorem Env.pr {g:G} (M:Env g) {x:Str} {k:Nat} (i p:Nat) {N ps:List Str} {sp:Sp} {m:MB} (hw:Wk g.K (tbOf g.K) sp m N) (ho:m.ok g (tbOf g.K) k)
  (len:∀ vs H Q E,sp vs H Q E→vs.length=ps.length) (b:Bd_ x x (stAt p) ps) (hc:defC N ps (stAt p) m=true) (h:fnTab[i]? = some (x,p):=by rfl):Prom g (k+1) x sp:=M.prom (List.mem_of_getElem? h) b m hc ho len hw
theorem Env.pc {g:G} (M:Env g) {k:Nat} (c p j:Nat) {N ps:List Str} {sp:Sp} {m:MB} (hw:Wk g.K (tbOf g.K) sp m N) (ho:m.ok g (tbOf g.K) k)
  (len:∀ vs H Q E,sp vs H Q E→vs.length=ps.length) (b:Bd_ "__init__" (iniName c) (inClass (stAt p) j) ps) (hc:defC N ps (inClass (stAt p) j) m=true) (h:iniTab[c]? = some (c,p,j):=by rfl) (hc8:c < 8:=by decide):PromC g (tbOf g.K) (k+1) (clsName c) c sp:=M.promC hc8 (List.mem_of_getElem? h) b m hc ho len hw
section
variable {g:G} (M:Env g)
include M
theorem h_init_Stand:PromC g (tbOf g.K) 1 "Stand" 0 (sp_init_Stand (tbOf g.K)):=M.pc 0 66 0 (ps:=["self", "kind", "due"]) (m:=mt_ m_init_Stand g) w_init_Stand ⟨⟨t,t⟩,⟨t,t⟩,⟨t,t⟩,⟨t,t⟩,⟨t,t⟩,⟨t,t⟩,⟨t,t⟩,⟨t,t⟩,⟨t,t⟩,t⟩ (by rintro _ _ _ _ ⟨⟩; subst_vars; rfl) (fun _ _ _ _ _ _=>b3 fun _ _ _=>by kernel_rfl) (by kernel_rfl)
theorem h_init_Port:PromC g (tbOf g.K) 3 "Port" 1 (sp_init_Port (tbOf g.K)):=M.pc 1 67 0 (ps:=["self"]) (m:=mt_ m_init_Port g) w_init_Port ⟨⟨t,(h_init_Stand M).up,M.g_DOWN,t,t⟩,⟨t,t⟩,⟨t,t⟩,t⟩ (by rintro _ _ _ _ ⟨⟩; subst_vars; rfl) (fun _ _ _ _ _ _=>b1 fun _=>by kernel_rfl) (by kernel_rfl)
theorem h_init_Session:PromC g (tbOf g.K) 1 "Session" 2 (sp_init_Session (tbOf g.K)):=M.pc 2 68 0 (ps:=["self", "number", "who", "host", "vlan", "until", "again"]) (m:=mt_ m_init_Session g) w_init_Session ⟨⟨t,t⟩,⟨t,t⟩,⟨t,t⟩,⟨t,t⟩,⟨t,t⟩,⟨t,t⟩,⟨t,t⟩,t⟩ (by rintro _ _ _ _ ⟨⟩; subst_vars; rfl) (fun _ _ _ _ _ _=>b7 fun _ _ _ _ _ _ _=>by kernel_rfl) (by kernel_rfl)
theorem h_init_Person:PromC g (tbOf g.K) 1 "Person" 3 (sp_init_Person (tbOf g.K)):=M.pc 3 69 0 (ps:=["self", "secret", "host"]) (m:=mt_ m_init_Person g) w_init_Person ⟨⟨t,t⟩,⟨t,t⟩,⟨t,t⟩,⟨t,fun _ _=>op_rep,⟨t,t⟩,fun _ _=>op_add,M.g_MOST_GROUP,t⟩,⟨t,t⟩,⟨t,t⟩,t⟩ (by rintro _ _ _ _ ⟨⟩; subst_vars; rfl) (fun _ _ _ _ _ _=>b3 fun _ _ _=>by kernel_rfl) (by kernel_rfl)
theorem h_init_Rule:PromC g (tbOf g.K) 1 "Rule" 4 (sp_init_Rule (tbOf g.K)):=M.pc 4 70 0 (ps:=["self", "row"]) (m:=mt_ m_init_Rule g) w_init_Rule ⟨⟨t,fun _ _=>ix_H,t,t⟩,⟨t,fun _ _=>ix_H,t,t⟩,⟨t,fun _ _=>ix_H,t,t⟩,⟨t,fun _ _=>ix_H,t,t⟩,⟨t,fun _ _=>ix_H,t,t⟩,⟨t,fun _ _=>ix_H,t,t⟩,⟨t,fun _ _=>ix_H,t,t⟩,⟨t,fun _ _=>ix_H,t,t⟩,t⟩ (by rintro _ _ _ _ ⟨⟩; subst_vars; rfl) (fun _ _ _ _ _ _=>b2 fun _ _=>by kernel_rfl) (by kernel_rfl)
theorem h_init_Attempt:PromC g (tbOf g.K) 1 "Attempt" 5 (sp_init_Attempt (tbOf g.K)):=M.pc 5 71 0 (ps:=["self", "port", "who", "host", "challenge", "forgotten"]) (m:=mt_ m_init_Attempt g) w_init_Attempt ⟨⟨t,t⟩,⟨t,t⟩,⟨t,t⟩,⟨t,t⟩,⟨t,t⟩,⟨t,t⟩,t⟩ (by rintro _ _ _ _ ⟨⟩; subst_vars; rfl) (fun _ _ _ _ _ _=>b6 fun _ _ _ _ _ _=>by kernel_rfl) (by kernel_rfl)
theorem h_init_Begun:PromC g (tbOf g.K) 1 "Begun" 6 (sp_init_Begun (tbOf g.K)):=M.pc 6 72 0 (ps:=["self", "number", "who", "host", "port", "over"]) (m:=mt_ m_init_Begun g) w_init_Begun ⟨⟨t,t⟩,⟨t,t⟩,⟨t,t⟩,⟨t,t⟩,⟨t,t⟩,t⟩ (by rintro _ _ _ _ ⟨⟩; subst_vars; rfl) (fun _ _ _ _ _ _=>b6 fun _ _ _ _ _ _=>by kernel_rfl) (by kernel_rfl)
theorem h_init_World:PromC g (tbOf g.K) 5 "World" 7 (sp_init_World (tbOf g.K)):=M.pc 7 73 0 (ps:=["self", "row"]) (m:=mt_ m_init_World g) w_init_World (by unfold m_init_World; exact ⟨⟨t,⟨(h_init_Port M).up,t⟩,⟨M.n_range,fun _ _=>ix_H,t,t⟩,t⟩,⟨t,fun _ _=>ix_H,t,t⟩,⟨t,fun _ _=>ix_H,t,t⟩,⟨t,fun _ _=>ix_H,t,t⟩,⟨t,fun _ _=>ix_H,t,t⟩,⟨t,fun _ _=>ix_H,t,t⟩,⟨t,fun _ _=>ix_H,t,t⟩,⟨t,fun _ _=>ix_H,t,t⟩,⟨t,fun _ _=>ix_H,t,t⟩,⟨t,fun _ _=>ix_H,t,t⟩,⟨t,t⟩,⟨t,t⟩,⟨t,t⟩,⟨t,t⟩,⟨t,t⟩,⟨t,t⟩,⟨t,t⟩,⟨t,t⟩,⟨t,t⟩,⟨t,t⟩,t⟩) (fun vs H Q E h=>by obtain ⟨_,_,_,_,_,_,_,_,_,_,_,_,_,_,_,rfl,_⟩:=h; rfl) (fun _ _ _ _ _ _=>b2 fun _ _=>by kernel_rfl) (by kernel_rfl)
theorem h_within:Prom g 1 "within" (at_ sp_within g):=M.pr 0 41 (ps:=["x", "least", "most"]) (m:=mt_ m_within g) w_within ⟨⟨fun _ _=>op_le,fun _ _=>op_le,t,t,t⟩,t⟩ (fun _ _ _ _ h=>by obtain ⟨_,_,_,e,_⟩:=kzW_m.mp h; subst e; rfl) (fun _ _ _ _ _ _=>b3 fun _ _ _=>by kernel_rfl) (by kernel_rfl)
theorem h_all_within:Prom g 2 "all_within" (at_ sp_all_within g):=M.pr 1 42 (ps:=["row", "ranges"]) (m:=mt_ m_all_within g) w_all_within ⟨⟨⟨M.n_zip,t,t⟩,⟨⟨(h_within M).up,t,⟨fun _ l=>l.K ▸ ix_tup,t,t⟩,⟨fun _ l=>l.K ▸ ix_tup,t,t⟩,t⟩,⟨t,t⟩,t⟩,t⟩,t,t⟩ (by rintro _ _ _ _ ⟨⟩; subst_vars; rfl) (fun _ _ _ _ _ _=>b2 fun _ _=>by kernel_rfl) (by kernel_rfl)
theorem h_is_host:Prom g 2 "is_host" (at_ sp_is_host g):=M.pr 2 43 (ps:=["x"]) (m:=mt_ m_is_host g) w_is_host ⟨⟨⟨(h_within M).up,t,t,M.g_MOST_HOST,t⟩,⟨fun _ _=>op_eq,⟨fun _ _=>op_mod,⟨fun _ _=>op_fdivB,t,M.g_HOST_STEP⟩,t⟩,t⟩,t⟩,t⟩ (fun _ _ _ _ h=>by obtain ⟨_,e,_⟩:=kzQ_m.mp h; subst e; rfl) (fun _ _ _ _ _ _=>b1 fun _=>by kernel_rfl) (by kernel_rfl)
theorem h_is_who:Prom g 2 "is_who" (at_ sp_is_who g):=M.pr 3 44 (ps:=["x"]) (m:=mt_ m_is_who g) w_is_who ⟨⟨(h_within M).up,t,t,M.g_MOST_WHO,t⟩,t⟩ (fun _ _ _ _ h=>by obtain ⟨_,e,_⟩:=kzQ_m.mp h; subst e; rfl) (fun _ _ _ _ _ _=>b1 fun _=>by kernel_rfl) (by kernel_rfl)
theorem h_is_secret:Prom g 2 "is_secret" (at_ sp_is_secret g):=M.pr 4 45 (ps:=["x"]) (m:=mt_ m_is_secret g) w_is_secret ⟨⟨(h_within M).up,t,t,M.g_MOST_SECRET,t⟩,t⟩ (fun _ _ _ _ h=>by obtain ⟨_,e,_⟩:=kzQ_m.mp h; subst e; rfl) (fun _ _ _ _ _ _=>b1 fun _=>by kernel_rfl) (by kernel_rfl)
theorem h_is_group:Prom g 2 "is_group" (at_ sp_is_group g):=M.pr 5 46 (ps:=["x"]) (m:=mt_ m_is_group g) w_is_group ⟨⟨(h_within M).up,t,t,M.g_MOST_GROUP,t⟩,t⟩ (fun _ _ _ _ h=>by obtain ⟨_,e,_⟩:=kzQ_m.mp h; subst e; rfl) (fun _ _ _ _ _ _=>b1 fun _=>by kernel_rfl) (by kernel_rfl)
theorem h_is_choice:Prom g 2 "is_choice" (at_ sp_is_choice g):=M.pr 6 47 (ps:=["x"]) (m:=mt_ m_is_choice g) w_is_choice ⟨⟨(h_within M).up,t,t,t,t⟩,t⟩ (fun _ _ _ _ h=>by obtain ⟨_,e,_⟩:=kzQ_m.mp h; subst e; rfl) (fun _ _ _ _ _ _=>b1 fun _=>by kernel_rfl) (by kernel_rfl)
theorem h_keyed_sum:Prom g 1 "keyed_sum" (at_ sp_keyed_sum g):=M.pr 7 48 (ps:=["secret", "challenge"]) (m:=mt_ m_keyed_sum g) w_keyed_sum ⟨⟨fun _ _=>op_mod,⟨fun _ _=>op_add,t,t⟩,M.g_SUM_MODULUS⟩,⟨⟨M.n_range,t,t⟩,⟨fun _ _=>op_mod,⟨fun _ _=>op_add,⟨fun _ _=>op_add,⟨fun _ _=>op_mul,t,t⟩,fun _ _=>op_mul,t,t⟩,t⟩,M.g_SUM_MODULUS⟩,t⟩,t,t⟩ (by rintro _ _ _ _ ⟨⟩; subst_vars; rfl) (fun _ _ _ _ _ _=>b2 fun _ _=>by kernel_rfl) (by kernel_rfl)
theorem h_draw:Prom g 1 "draw" (at_ sp_draw g):=M.pr 8 74 (ps:=["world"]) (m:=mt_ m_draw g) w_draw ⟨⟨fun _ _=>in_add,t,t⟩,t,t⟩ (by rintro _ _ _ _ ⟨⟩; subst_vars; rfl) (fun _ _ _ _ _ _=>b1 fun _=>by kernel_rfl) (by kernel_rfl)
theorem h_send:Prom g 1 "send" (at_ sp_send g):=M.pr 9 75 (ps:=["world", "message"]) (m:=mt_ m_send g) w_send ⟨⟨⟨fun _ _=>op_lt,⟨fun _ _=>jal,M.n_len,bt_len,t,t⟩,t⟩,⟨⟨fun _ _=>ja5,F.plainAttrs_list,F.slot_list_append,F.type_list_append,t,t,t⟩,t⟩,⟨fun _ _=>in_add,t,t⟩,t⟩,t⟩ (by rintro _ _ _ _ ⟨⟩; subst_vars; rfl) (fun _ _ _ _ _ _=>b2 fun _ _=>by kernel_rfl) (by kernel_rfl)
theorem h_has_host:Prom g 1 "has_host" (at_ sp_has_host g):=M.pr 10 80 (ps:=["world", "host"]) (m:=mt_ m_has_host g) w_has_host ⟨⟨fun _ l=>call_anyH l.calm,M.n_any,bt_any,⟨⟨fun _ _=>op_eq,t,t⟩,t,t⟩,t⟩,t⟩ (by rintro _ _ _ _ ⟨⟩; subst_vars; rfl) (fun _ _ _ _ _ _=>b2 fun _ _=>by kernel_rfl) (by kernel_rfl)
theorem h_add_person:Prom g 3 "add_person" (at_ sp_add_person g):=M.pr 11 81 (ps:=["world", "who", "secret", "host"]) (m:=mt_ m_add_person g) w_add_person ⟨⟨⟨⟨(h_is_who M).up,t,t⟩,⟨(h_is_secret M).up,t,t⟩,⟨(h_is_host M).up,t,t⟩,t⟩,⟨⟨t,t⟩,t⟩,t⟩,⟨⟨t,t⟩,⟨⟨t,t⟩,t⟩,t⟩,⟨⟨(h_has_host M).up,t,t,t⟩,⟨⟨t,t⟩,t⟩,t⟩,⟨⟨fun _ _=>op_ge,⟨fun _ _=>jb3,M.n_len,bt_len,t,t⟩,M.g_MOST_PERSONS⟩,⟨⟨t,t⟩,t⟩,t⟩,⟨t,t,(h_init_Person M).up,t,t,t⟩,⟨t,t⟩,t⟩ (by rintro _ _ _ _ ⟨⟩; subst_vars; rfl) (fun _ _ _ _ _ _=>b4 fun _ _ _ _=>by kernel_rfl) (by kernel_rfl)
theorem h_send_overs:Prom g 2 "send_overs" (at_ sp_send_overs g):=M.pr 12 82 (ps:=["world", "who"]) (m:=mt_ m_send_overs g) w_send_overs ⟨⟨t,⟨⟨fun _ _=>op_eq,t,t⟩,⟨⟨(h_send M).up,t,⟨M.g_OVER,t,t⟩,t⟩,t⟩,t⟩,t⟩,t⟩ (by rintro _ _ _ _ ⟨⟩; subst_vars; rfl) (fun _ _ _ _ _ _=>b2 fun _ _=>by kernel_rfl) (by kernel_rfl)
theorem h_drop_person:Prom g 3 "drop_person" (at_ sp_drop_person g):=M.pr 13 83 (ps:=["world", "who"]) (m:=mt_ m_drop_person g) w_drop_person ⟨⟨⟨t,t⟩,⟨⟨t,t⟩,t⟩,t⟩,⟨t,t⟩,⟨(h_send_overs M).up,t,t,t⟩,⟨t,t⟩,t⟩ (by rintro _ _ _ _ ⟨⟩; subst_vars; rfl) (fun _ _ _ _ _ _=>b2 fun _ _=>by kernel_rfl) (by kernel_rfl)
theorem h_set_secret:Prom g 3 "set_secret" (at_ sp_set_secret g):=M.pr 14 84 (ps:=["world", "who", "secret"]) (m:=mt_ m_set_secret g) w_set_secret ⟨⟨⟨t,t⟩,⟨⟨t,t⟩,t⟩,t⟩,⟨⟨(h_is_secret M).up,t,t⟩,⟨⟨t,t⟩,t⟩,t⟩,⟨t,t⟩,⟨t,t⟩,⟨t,t⟩,t⟩ (by rintro _ _ _ _ ⟨⟩; subst_vars; rfl) (fun _ _ _ _ _ _=>b3 fun _ _ _=>by kernel_rfl) (by kernel_rfl)
theorem h_set_member:Prom g 3 "set_member" (at_ sp_set_member g):=M.pr 15 85 (ps:=["world", "who", "group", "x"]) (m:=mt_ m_set_member g) w_set_member ⟨⟨⟨t,t⟩,⟨⟨t,t⟩,t⟩,t⟩,⟨⟨(h_is_group M).up,t,t⟩,⟨⟨t,t⟩,t⟩,t⟩,⟨⟨(h_is_choice M).up,t,t⟩,⟨⟨t,t⟩,t⟩,t⟩,⟨t,t⟩,⟨fun _ _=>set_list,t,t,t⟩,⟨t,t⟩,t⟩ (by rintro _ _ _ _ ⟨⟩; subst_vars; rfl) (fun _ _ _ _ _ _=>b4 fun _ _ _ _=>by kernel_rfl) (by kernel_rfl)
theorem h_add_rule:Prom g 3 "add_rule" (at_ sp_add_rule g):=M.pr 16 86 (ps:=["world", "row"]) (m:=mt_ m_add_rule g) (w_add_rule M.look.mt) ⟨⟨⟨(h_all_within M).up,t,M.g_RULE_RANGES,t⟩,⟨⟨t,t⟩,t⟩,t⟩,⟨⟨fun _ _=>op_ge,⟨fun _ _=>jal,M.n_len,bt_len,t,t⟩,M.g_MOST_RULES⟩,⟨⟨t,t⟩,t⟩,t⟩,⟨fun _ _=>ja5,F.plainAttrs_list,F.slot_list_append,F.type_list_append,t,⟨(h_init_Rule M).up,t,t⟩,t⟩,⟨t,t⟩,t⟩ (by rintro _ _ _ _ ⟨⟩; subst_vars; rfl) (fun _ _ _ _ _ _=>b2 fun _ _=>by kernel_rfl) (by kernel_rfl)
theorem h_drop_rules:Prom g 1 "drop_rules" (at_ sp_drop_rules g):=M.pr 17 87 (ps:=["world"]) (m:=mt_ m_drop_rules g) w_drop_rules ⟨⟨t,t⟩,⟨t,t⟩,t⟩ (by rintro _ _ _ _ ⟨⟩; subst_vars; rfl) (fun _ _ _ _ _ _=>b1 fun _=>by kernel_rfl) (by kernel_rfl)
theorem h_set_barred:Prom g 3 "set_barred" (at_ sp_set_barred g):=M.pr 18 88 (ps:=["world", "who", "x"]) (m:=mt_ m_set_barred g) w_set_barred ⟨⟨⟨t,t⟩,⟨⟨t,t⟩,t⟩,t⟩,⟨⟨(h_is_choice M).up,t,t⟩,⟨⟨t,t⟩,t⟩,t⟩,⟨t,t⟩,⟨t,t⟩,⟨⟨fun _ _=>op_eq,t,t⟩,⟨⟨(h_send_overs M).up,t,t,t⟩,t⟩,t⟩,⟨t,t⟩,t⟩ (by rintro _ _ _ _ ⟨⟩; subst_vars; rfl) (fun _ _ _ _ _ _=>b3 fun _ _ _=>by kernel_rfl) (by kernel_rfl)
theorem h_reboot:Prom g 1 "reboot" (at_ sp_reboot g):=M.pr 19 89 (ps:=["world"]) (m:=mt_ m_reboot g) w_reboot ⟨⟨t,t⟩,⟨t,t⟩,⟨t,t⟩,t⟩ (by rintro _ _ _ _ ⟨⟩; subst_vars; rfl) (fun _ _ _ _ _ _=>b1 fun _=>by kernel_rfl) (by kernel_rfl)
theorem h_directory_call:Prom g 4 "directory_call" (at_ sp_directory_call g):=M.pr 20 90 (ps:=["world", "code", "row"]) (m:=mt_ m_directory_call g) w_directory_call ⟨⟨⟨fun _ _=>op_eq,t,M.g_PERSON⟩,⟨⟨(h_add_person M).up,t,⟨fun _ _=>ix_H,t,t⟩,⟨fun _ _=>ix_H,t,t⟩,⟨fun _ _=>ix_H,t,t⟩,t⟩,t⟩,t⟩,⟨⟨fun _ _=>op_eq,t,M.g_UNPERSON⟩,⟨⟨(h_drop_person M).up,t,⟨fun _ _=>ix_H,t,t⟩,t⟩,t⟩,t⟩,⟨⟨fun _ _=>op_eq,t,M.g_SECRET⟩,⟨⟨(h_set_secret M).up,t,⟨fun _ _=>ix_H,t,t⟩,⟨fun _ _=>ix_H,t,t⟩,t⟩,t⟩,t⟩,⟨⟨fun _ _=>op_eq,t,M.g_MEMBER⟩,⟨⟨(h_set_member M).up,t,⟨fun _ _=>ix_H,t,t⟩,⟨fun _ _=>ix_H,t,t⟩,⟨fun _ _=>ix_H,t,t⟩,t⟩,t⟩,t⟩,⟨⟨fun _ _=>op_eq,t,M.g_RULE⟩,⟨⟨(h_add_rule M).up,t,t,t⟩,t⟩,t⟩,⟨⟨fun _ _=>op_eq,t,M.g_NORULES⟩,⟨⟨(h_drop_rules M).up,t,t⟩,t⟩,t⟩,⟨⟨fun _ _=>op_eq,t,M.g_REBOOT⟩,⟨⟨(h_reboot M).up,t,t⟩,t⟩,t⟩,⟨(h_set_barred M).up,t,⟨fun _ _=>ix_H,t,t⟩,⟨fun _ _=>ix_H,t,t⟩,t⟩,t⟩ (by rintro _ _ _ _ ⟨⟩; subst_vars; rfl) (fun _ _ _ _ _ _=>b3 fun _ _ _=>by kernel_rfl) (by kernel_rfl)
theorem h_is_port:Prom g 2 "is_port" (at_ sp_is_port g):=M.pr 21 92 (ps:=["world", "place"]) (m:=mt_ m_is_port g) w_is_port ⟨⟨(h_within M).up,t,t,⟨fun _ _=>op_sub,⟨fun _ _=>jal,M.n_len,bt_len,t,t⟩,t⟩,t⟩,t⟩ (fun _ _ _ _ h=>by obtain ⟨_,_,e,_⟩:=kzA_m.mp h; subst e; rfl) (fun _ _ _ _ _ _=>b2 fun _ _=>by kernel_rfl) (by kernel_rfl)
theorem h_stand_waiting:Prom g 3 "stand_waiting" (at_ sp_stand_waiting g):=M.pr 22 93 (ps:=["world", "kind"]) (m:=mt_ m_stand_waiting g) w_stand_waiting ⟨⟨(h_init_Stand M).up,t,⟨fun _ _=>op_add,t,t⟩,t⟩,⟨t,fun _ _=>op_sub,t,t⟩,t,t⟩ (by rintro _ _ _ _ ⟨⟩; subst_vars; rfl) (fun _ _ _ _ _ _=>b2 fun _ _=>by kernel_rfl) (by kernel_rfl)
theorem h_ask_anew:Prom g 4 "ask_anew" (at_ sp_ask_anew g):=M.pr 23 94 (ps:=["world", "port"]) (m:=mt_ m_ask_anew g) w_ask_anew ⟨⟨t,(h_stand_waiting M).up,t,M.g_ASKING,t⟩,t⟩ (by rintro _ _ _ _ ⟨⟩; subst_vars; rfl) (fun _ _ _ _ _ _=>b2 fun _ _=>by kernel_rfl) (by kernel_rfl)
theorem h_end_session:Prom g 1 "end_session" (at_ sp_end_session g):=M.pr 24 95 (ps:=["world", "port"]) (m:=mt_ m_end_session g) w_end_session ⟨t,⟨⟨fun _ _=>jat,t,t⟩,⟨⟨fun _ _=>ja5,F.plainAttrs_list,F.slot_list_append,F.type_list_append,t,⟨t,t,t⟩,t⟩,⟨t,t⟩,t⟩,t⟩,t⟩ (by rintro _ _ _ _ ⟨⟩; subst_vars; rfl) (fun _ _ _ _ _ _=>b2 fun _ _=>by kernel_rfl) (by kernel_rfl)
theorem h_set_guest:Prom g 5 "set_guest" (at_ sp_set_guest g):=M.pr 25 96 (ps:=["world", "place", "vlan"]) (m:=mt_ m_set_guest g) w_set_guest ⟨⟨⟨(h_is_port M).up,t,t,t⟩,⟨⟨t,t⟩,t⟩,t⟩,⟨⟨(h_within M).up,t,t,M.g_MOST_VLAN,t⟩,⟨⟨t,t⟩,t⟩,t⟩,⟨fun _ _=>ix_H,t,t⟩,⟨t,t⟩,⟨⟨⟨fun _ _=>op_eq,t,t⟩,⟨fun _ _=>op_eq,t,M.g_AS_GUEST⟩,t⟩,⟨⟨(h_ask_anew M).up,t,t,t⟩,t⟩,t⟩,⟨t,t⟩,t⟩ (by rintro _ _ _ _ ⟨⟩; subst_vars; rfl) (fun _ _ _ _ _ _=>b3 fun _ _ _=>by kernel_rfl) (by kernel_rfl)
theorem h_plug:Prom g 5 "plug" (at_ sp_plug g):=M.pr 26 97 (ps:=["world", "place"]) (m:=mt_ m_plug g) w_plug ⟨⟨⟨(h_is_port M).up,t,t,t⟩,⟨⟨t,t⟩,t⟩,t⟩,⟨fun _ _=>ix_H,t,t⟩,⟨⟨fun _ _=>op_ne,t,M.g_DOWN⟩,⟨⟨t,t⟩,t⟩,t⟩,⟨(h_ask_anew M).up,t,t,t⟩,⟨t,t⟩,t⟩ (by rintro _ _ _ _ ⟨⟩; subst_vars; rfl) (fun _ _ _ _ _ _=>b2 fun _ _=>by kernel_rfl) (by kernel_rfl)
theorem h_unplug:Prom g 3 "unplug" (at_ sp_unplug g):=M.pr 27 98 (ps:=["world", "place"]) (m:=mt_ m_unplug g) w_unplug ⟨⟨⟨(h_is_port M).up,t,t,t⟩,⟨⟨t,t⟩,t⟩,t⟩,⟨fun _ _=>ix_H,t,t⟩,⟨⟨fun _ _=>op_eq,t,M.g_DOWN⟩,⟨⟨t,t⟩,t⟩,t⟩,⟨(h_end_session M).up,t,t,t⟩,⟨t,(h_init_Stand M).up,M.g_DOWN,t,t⟩,⟨t,t⟩,t⟩ (by rintro _ _ _ _ ⟨⟩; subst_vars; rfl) (fun _ _ _ _ _ _=>b2 fun _ _=>by kernel_rfl) (by kernel_rfl)
theorem h_say_refusal:Prom g 1 "say_refusal" (at_ sp_say_refusal g):=M.pr 28 99 (ps:=["port", "host"]) (m:=mt_ m_say_refusal g) w_say_refusal ⟨t,⟨⟨fun _ _=>op_eq,t,M.g_DOWN⟩,⟨t,t⟩,t⟩,⟨⟨fun _ _=>op_eq,t,M.g_HELD⟩,⟨t,t⟩,t⟩,⟨⟨fun _ _=>op_inU,t,M.g_LOOKING,M.g_CHALLENGED,M.g_CHECKING,t⟩,⟨t,t⟩,t⟩,⟨⟨⟨fun _ _=>jat,t,t⟩,⟨fun _ _=>op_ne,t,t⟩,t⟩,⟨t,t⟩,t⟩,t,t⟩ (by rintro _ _ _ _ ⟨⟩; subst_vars; rfl) (fun _ _ _ _ _ _=>b2 fun _ _=>by kernel_rfl) (by kernel_rfl)
theorem h_say:Prom g 4 "say" (at_ sp_say g):=M.pr 29 100 (ps:=["world", "place", "host", "who"]) (m:=mt_ m_say g) w_say ⟨⟨⟨(h_is_port M).up,t,t,t⟩,⟨⟨t,t⟩,t⟩,t⟩,⟨⟨⟨(h_is_host M).up,t,t⟩,⟨(h_is_who M).up,t,t⟩,t⟩,⟨⟨t,t⟩,t⟩,t⟩,⟨fun _ _=>ix_H,t,t⟩,⟨(h_say_refusal M).up,t,t,t⟩,⟨⟨fun _ _=>op_ne,t,t⟩,⟨⟨t,t⟩,t⟩,t⟩,⟨(h_stand_waiting M).up,t,M.g_LOOKING,t⟩,⟨t,(h_draw M).up,t,t⟩,⟨t,t⟩,⟨t,t⟩,⟨t,t⟩,⟨(h_send M).up,t,⟨M.g_HELLO,t,t,t,t,t⟩,t⟩,⟨t,t⟩,t⟩ (by rintro _ _ _ _ ⟨⟩; subst_vars; rfl) (fun _ _ _ _ _ _=>b4 fun _ _ _ _=>by kernel_rfl) (by kernel_rfl)
theorem h_check_reply:Prom g 4 "check_reply" (at_ sp_check_reply g):=M.pr 30 101 (ps:=["world", "port", "x"]) (m:=mt_ m_check_reply g) w_check_reply ⟨t,⟨(h_stand_waiting M).up,t,M.g_CHECKING,t⟩,⟨t,t⟩,⟨t,t⟩,⟨t,t⟩,⟨t,t⟩,⟨t,t⟩,⟨t,t⟩,⟨t,t⟩,⟨(h_send M).up,t,⟨M.g_ANSWER,t,t,t,t⟩,t⟩,t⟩ (by rintro _ _ _ _ ⟨⟩; subst_vars; rfl) (fun _ _ _ _ _ _=>b3 fun _ _ _=>by kernel_rfl) (by kernel_rfl)
theorem h_reply:Prom g 5 "reply" (at_ sp_reply g):=M.pr 31 102 (ps:=["world", "place", "host", "x"]) (m:=mt_ m_reply g) w_reply ⟨⟨⟨(h_is_port M).up,t,t,t⟩,⟨⟨t,t⟩,t⟩,t⟩,⟨⟨⟨(h_is_host M).up,t,t⟩,⟨(h_within M).up,t,t,M.g_MOST_REPLY,t⟩,t⟩,⟨⟨t,t⟩,t⟩,t⟩,⟨fun _ _=>ix_H,t,t⟩,⟨⟨fun _ _=>op_ne,t,M.g_CHALLENGED⟩,⟨⟨t,t⟩,t⟩,t⟩,⟨⟨fun _ _=>op_ne,t,t⟩,⟨⟨t,t⟩,t⟩,t⟩,⟨(h_check_reply M).up,t,t,t,t⟩,⟨t,t⟩,t⟩ (by rintro _ _ _ _ ⟨⟩; subst_vars; rfl) (fun _ _ _ _ _ _=>b4 fun _ _ _ _=>by kernel_rfl) (by kernel_rfl)
theorem h_bye:Prom g 5 "bye" (at_ sp_bye g):=M.pr 32 103 (ps:=["world", "place", "host"]) (m:=mt_ m_bye g) w_bye ⟨⟨⟨(h_is_port M).up,t,t,t⟩,⟨⟨t,t⟩,t⟩,t⟩,⟨fun _ _=>ix_H,t,t⟩,⟨⟨⟨fun _ _=>op_isN,t,t⟩,⟨fun _ _=>op_ne,t,t⟩,t⟩,⟨⟨t,t⟩,t⟩,t⟩,⟨(h_end_session M).up,t,t,t⟩,⟨(h_ask_anew M).up,t,t,t⟩,⟨t,t⟩,t⟩ (by rintro _ _ _ _ ⟨⟩; subst_vars; rfl) (fun _ _ _ _ _ _=>b3 fun _ _ _=>by kernel_rfl) (by kernel_rfl)
theorem h_pass_frames:Prom g 1 "pass_frames" (at_ sp_pass_frames g):=M.pr 33 104 (ps:=["session", "host", "k"]) (m:=mt_ m_pass_frames g) w_pass_frames ⟨⟨⟨fun _ _=>op_ne,t,t⟩,⟨⟨t,t⟩,t⟩,t⟩,⟨fun _ _=>in_add,t,t⟩,⟨t,t,t⟩,t⟩ (by rintro _ _ _ _ ⟨⟩; subst_vars; rfl) (fun _ _ _ _ _ _=>b3 fun _ _ _=>by kernel_rfl) (by kernel_rfl)
theorem h_frame:Prom g 3 "frame" (at_ sp_frame g):=M.pr 34 105 (ps:=["world", "place", "host", "k"]) (m:=mt_ m_frame g) w_frame ⟨⟨⟨(h_is_port M).up,t,t,t⟩,⟨⟨t,t⟩,t⟩,t⟩,⟨⟨⟨(h_is_host M).up,t,t⟩,⟨(h_within M).up,t,t,M.g_MOST_FRAMES,t⟩,t⟩,⟨⟨t,t⟩,t⟩,t⟩,⟨fun _ _=>ix_H,t,t⟩,⟨⟨fun _ _=>jat,t,t⟩,⟨⟨(h_pass_frames M).up,t,t,t,t⟩,t⟩,t⟩,⟨⟨fun _ _=>op_eq,t,M.g_DOWN⟩,⟨⟨t,t⟩,t⟩,t⟩,⟨⟨fun _ _=>op_eq,t,M.g_AS_GUEST⟩,⟨⟨t,t,t⟩,t⟩,t⟩,⟨t,t⟩,t⟩ (by rintro _ _ _ _ ⟨⟩; subst_vars; rfl) (fun _ _ _ _ _ _=>b4 fun _ _ _ _=>by kernel_rfl) (by kernel_rfl)
theorem h_report:Prom g 2 "report" (at_ sp_report g):=M.pr 35 106 (ps:=["world"]) (m:=mt_ m_report g) w_report ⟨⟨t,⟨⟨fun _ _=>jat,t,t⟩,⟨⟨(h_send M).up,t,⟨M.g_COUNT,t,t,t,t⟩,t⟩,t⟩,t⟩,t⟩,⟨t,⟨(h_send M).up,t,⟨M.g_COUNT,⟨fun _ _=>ix_U,t,t⟩,⟨fun _ _=>ix_U,t,t⟩,t,t⟩,t⟩,t⟩,⟨t,t⟩,t⟩ (by rintro _ _ _ _ ⟨⟩; subst_vars; rfl) (fun _ _ _ _ _ _=>b1 fun _=>by kernel_rfl) (by kernel_rfl)
theorem h_restart:Prom g 5 "restart" (at_ sp_restart g):=M.pr 36 107 (ps:=["world"]) (m:=mt_ m_restart g) w_restart ⟨⟨t,⟨t,t⟩,⟨⟨fun _ _=>op_ne,t,M.g_DOWN⟩,⟨⟨(h_ask_anew M).up,t,t,t⟩,t⟩,t⟩,t⟩,⟨t,t⟩,⟨t,t⟩,t⟩ (by rintro _ _ _ _ ⟨⟩; subst_vars; rfl) (fun _ _ _ _ _ _=>b1 fun _=>by kernel_rfl) (by kernel_rfl)
theorem h_switch_call:Prom g 6 "switch_call" (at_ sp_switch_call g):=M.pr 37 108 (ps:=["world", "code", "row"]) (m:=mt_ m_switch_call g) w_switch_call ⟨⟨⟨fun _ _=>op_eq,t,M.g_GUEST⟩,⟨⟨(h_set_guest M).up,t,⟨fun _ _=>ix_H,t,t⟩,⟨fun _ _=>ix_H,t,t⟩,t⟩,t⟩,t⟩,⟨⟨fun _ _=>op_eq,t,M.g_PLUG⟩,⟨⟨(h_plug M).up,t,⟨fun _ _=>ix_H,t,t⟩,t⟩,t⟩,t⟩,⟨⟨fun _ _=>op_eq,t,M.g_UNPLUG⟩,⟨⟨(h_unplug M).up,t,⟨fun _ _=>ix_H,t,t⟩,t⟩,t⟩,t⟩,⟨⟨fun _ _=>op_eq,t,M.g_SAY⟩,⟨⟨(h_say M).up,t,⟨fun _ _=>ix_H,t,t⟩,⟨fun _ _=>ix_H,t,t⟩,⟨fun _ _=>ix_H,t,t⟩,t⟩,t⟩,t⟩,⟨⟨fun _ _=>op_eq,t,M.g_REPLY⟩,⟨⟨(h_reply M).up,t,⟨fun _ _=>ix_H,t,t⟩,⟨fun _ _=>ix_H,t,t⟩,⟨fun _ _=>ix_H,t,t⟩,t⟩,t⟩,t⟩,⟨⟨fun _ _=>op_eq,t,M.g_BYE⟩,⟨⟨(h_bye M).up,t,⟨fun _ _=>ix_H,t,t⟩,⟨fun _ _=>ix_H,t,t⟩,t⟩,t⟩,t⟩,⟨⟨fun _ _=>op_eq,t,M.g_FRAME⟩,⟨⟨(h_frame M).up,t,⟨fun _ _=>ix_H,t,t⟩,⟨fun _ _=>ix_H,t,t⟩,⟨fun _ _=>ix_H,t,t⟩,t⟩,t⟩,t⟩,⟨⟨fun _ _=>op_eq,t,M.g_REPORT⟩,⟨⟨(h_report M).up,t,t⟩,t⟩,t⟩,⟨(h_restart M).up,t,t⟩,t⟩ (by rintro _ _ _ _ ⟨⟩; subst_vars; rfl) (fun _ _ _ _ _ _=>b3 fun _ _ _=>by kernel_rfl) (by kernel_rfl)
theorem h_hold_port:Prom g 3 "hold_port" (at_ sp_hold_port g):=M.pr 38 110 (ps:=["world", "port"]) (m:=mt_ m_hold_port g) w_hold_port ⟨⟨t,(h_init_Stand M).up,M.g_HELD,⟨fun _ _=>op_add,t,t⟩,t⟩,t⟩ (by rintro _ _ _ _ ⟨⟩; subst_vars; rfl) (fun _ _ _ _ _ _=>b2 fun _ _=>by kernel_rfl) (by kernel_rfl)
theorem h_come_to_nothing:Prom g 4 "come_to_nothing" (at_ sp_come_to_nothing g):=M.pr 39 111 (ps:=["world", "port"]) (m:=mt_ m_come_to_nothing g) w_come_to_nothing ⟨t,⟨⟨fun _ _=>op_isN,t,t⟩,⟨⟨(h_hold_port M).up,t,t,t⟩,t⟩,⟨t,(h_init_Stand M).up,M.g_INSIDE,t,t⟩,⟨t,fun _ _=>op_add,t,t⟩,t⟩,t⟩ (by rintro _ _ _ _ ⟨⟩; subst_vars; rfl) (fun _ _ _ _ _ _=>b2 fun _ _=>by kernel_rfl) (by kernel_rfl)
theorem h_deny:Prom g 4 "deny" (at_ sp_deny g):=M.pr 40 112 (ps:=["world", "port"]) (m:=mt_ m_deny g) w_deny ⟨⟨(h_end_session M).up,t,t,t⟩,⟨(h_hold_port M).up,t,t,t⟩,t⟩ (by rintro _ _ _ _ ⟨⟩; subst_vars; rfl) (fun _ _ _ _ _ _=>b2 fun _ _=>by kernel_rfl) (by kernel_rfl)
theorem h_put_out:Prom g 5 "put_out" (at_ sp_put_out g):=M.pr 41 113 (ps:=["world", "port"]) (m:=mt_ m_put_out g) w_put_out ⟨⟨(h_end_session M).up,t,t,t⟩,⟨⟨fun _ _=>op_eq,t,M.g_INSIDE⟩,⟨⟨(h_ask_anew M).up,t,t,t⟩,t⟩,t⟩,t⟩ (by rintro _ _ _ _ ⟨⟩; subst_vars; rfl) (fun _ _ _ _ _ _=>b2 fun _ _=>by kernel_rfl) (by kernel_rfl)
theorem h_take_challenge:Prom g 3 "take_challenge" (at_ sp_take_challenge g):=M.pr 42 114 (ps:=["world", "port", "n", "challenge"]) (m:=mt_ m_take_challenge g) w_take_challenge ⟨t,⟨⟨⟨fun _ _=>op_ne,t,M.g_LOOKING⟩,⟨fun _ _=>op_ne,t,t⟩,t⟩,⟨t,t⟩,t⟩,⟨(h_init_Stand M).up,M.g_CHALLENGED,⟨fun _ _=>op_add,t,t⟩,t⟩,⟨t,t⟩,⟨t,t⟩,⟨t,t⟩,⟨t,t⟩,⟨t,t⟩,t⟩ (by rintro _ _ _ _ ⟨⟩; subst_vars; rfl) (fun _ _ _ _ _ _=>b4 fun _ _ _ _=>by kernel_rfl) (by kernel_rfl)
theorem h_count_sessions:Prom g 1 "count_sessions" (at_ sp_count_sessions g):=M.pr 43 115 (ps:=["world"]) (m:=mt_ m_count_sessions g) w_count_sessions ⟨⟨fun _ _=>jal,M.n_len,bt_len,⟨t,t,⟨fun _ _=>jat,t,t⟩,t⟩,t⟩,t⟩ (by rintro _ _ _ _ ⟨⟩; subst_vars; rfl) (fun _ _ _ _ _ _=>b1 fun _=>by kernel_rfl) (by kernel_rfl)
theorem h_put_out_elsewhere:Prom g 6 "put_out_elsewhere" (at_ sp_put_out_elsewhere g):=M.pr 44 116 (ps:=["world", "place", "host"]) (m:=mt_ m_put_out_elsewhere g) w_put_out_elsewhere ⟨⟨⟨M.n_enumerate,t⟩,⟨⟨⟨fun _ _=>op_ne,t,t⟩,⟨fun _ _=>jat,t,t⟩,⟨fun _ _=>op_eq,t,t⟩,t⟩,⟨⟨(h_put_out M).up,t,t,t⟩,t⟩,t⟩,t⟩,t⟩ (by rintro _ _ _ _ ⟨⟩; subst_vars; rfl) (fun _ _ _ _ _ _=>b3 fun _ _ _=>by kernel_rfl) (by kernel_rfl)
theorem h_admit:Prom g 7 "admit" (at_ sp_admit g):=M.pr 45 117 (ps:=["world", "place", "session"]) (m:=mt_ m_admit g) w_admit ⟨⟨(h_put_out_elsewhere M).up,t,t,t,t⟩,⟨fun _ _=>ix_H,t,t⟩,⟨(h_end_session M).up,t,t,t⟩,⟨t,(h_init_Stand M).up,M.g_INSIDE,t,t⟩,⟨t,t⟩,t⟩ (by rintro _ _ _ _ ⟨⟩; subst_vars; rfl) (fun _ _ _ _ _ _=>b3 fun _ _ _=>by kernel_rfl) (by kernel_rfl)
theorem h_take_yes:Prom g 8 "take_yes" (at_ sp_take_yes g):=M.pr 46 118 (ps:=["world", "message"]) (m:=mt_ m_take_yes g) w_take_yes ⟨⟨fun _ _=>ix_U,t,t⟩,⟨fun _ _=>ix_H,t,t⟩,t,⟨⟨⟨fun _ _=>op_ne,t,M.g_CHECKING⟩,⟨fun _ _=>op_ne,t,fun _ _=>ix_U,t,t⟩,t⟩,⟨t,t⟩,t⟩,⟨fun _ _=>op_add,t,fun _ _=>ix_U,t,t⟩,⟨⟨⟨fun _ _=>op_le,t,t⟩,⟨fun _ _=>op_ge,⟨fun _ _=>op_add,⟨(h_count_sessions M).up,t,t⟩,fun _ _=>jal,M.n_len,bt_len,t,t⟩,t⟩,t⟩,⟨⟨(h_come_to_nothing M).up,t,t,t⟩,t⟩,⟨fun _ _=>op_add,t,fun _ _=>ix_U,t,t⟩,⟨(h_admit M).up,t,t,⟨(h_init_Session M).up,⟨fun _ _=>ix_U,t,t⟩,t,t,⟨fun _ _=>ix_U,t,t⟩,t,t,t⟩,t⟩,t⟩,t⟩ (by rintro _ _ _ _ ⟨⟩; subst_vars; rfl) (fun _ _ _ _ _ _=>b2 fun _ _=>by kernel_rfl) (by kernel_rfl)
theorem h_take_no:Prom g 5 "take_no" (at_ sp_take_no g):=M.pr 47 119 (ps:=["world", "port", "n"]) (m:=mt_ m_take_no g) w_take_no ⟨⟨⟨⟨fun _ _=>op_inU,t,M.g_LOOKING,M.g_CHECKING,t⟩,⟨fun _ _=>op_eq,t,t⟩,t⟩,⟨⟨(h_deny M).up,t,t,t⟩,t⟩,t⟩,t⟩ (by rintro _ _ _ _ ⟨⟩; subst_vars; rfl) (fun _ _ _ _ _ _=>b3 fun _ _ _=>by kernel_rfl) (by kernel_rfl)
theorem h_take_over:Prom g 6 "take_over" (at_ sp_take_over g):=M.pr 48 120 (ps:=["world", "number"]) (m:=mt_ m_take_over g) w_take_over ⟨⟨t,⟨⟨⟨fun _ _=>jat,t,t⟩,⟨fun _ _=>op_eq,t,t⟩,t⟩,⟨⟨(h_put_out M).up,t,t,t⟩,t⟩,t⟩,t⟩,t⟩ (by rintro _ _ _ _ ⟨⟩; subst_vars; rfl) (fun _ _ _ _ _ _=>b2 fun _ _=>by kernel_rfl) (by kernel_rfl)
theorem h_take_got:Prom g 1 "take_got" (at_ sp_take_got g):=M.pr 49 121 (ps:=["world", "number", "frames"]) (m:=mt_ m_take_got g) w_take_got ⟨⟨t,t,t,⟨fun _ l=>op_neP l.hu64,t,t,t,t⟩,t⟩,t⟩ (by rintro _ _ _ _ ⟨⟩; subst_vars; rfl) (fun _ _ _ _ _ _=>b3 fun _ _ _=>by kernel_rfl) (by kernel_rfl)
theorem h_switch_takes:Prom g 9 "switch_takes" (at_ sp_switch_takes g):=M.pr 50 122 (ps:=["world", "message"]) (m:=mt_ m_switch_takes g) w_switch_takes ⟨⟨⟨fun _ _=>op_eq,⟨fun _ _=>ix_U,t,t⟩,M.g_CHALLENGE⟩,⟨⟨(h_take_challenge M).up,t,⟨fun _ _=>ix_H,t,fun _ _=>ix_U,t,t⟩,⟨fun _ _=>ix_U,t,t⟩,⟨fun _ _=>ix_U,t,t⟩,t⟩,t⟩,⟨⟨fun _ _=>op_eq,⟨fun _ _=>ix_U,t,t⟩,M.g_YES⟩,⟨⟨(h_take_yes M).up,t,t,t⟩,t⟩,⟨⟨fun _ _=>op_eq,⟨fun _ _=>ix_U,t,t⟩,M.g_NO⟩,⟨⟨(h_take_no M).up,t,⟨fun _ _=>ix_H,t,fun _ _=>ix_U,t,t⟩,⟨fun _ _=>ix_U,t,t⟩,t⟩,t⟩,⟨⟨fun _ _=>op_eq,⟨fun _ _=>ix_U,t,t⟩,M.g_OVER⟩,⟨⟨(h_take_over M).up,t,⟨fun _ _=>ix_U,t,t⟩,t⟩,t⟩,⟨(h_take_got M).up,t,⟨fun _ _=>ix_U,t,t⟩,⟨fun _ _=>ix_U,t,t⟩,t⟩,t⟩,t⟩,t⟩,t⟩,t⟩ (by rintro _ _ _ _ ⟨⟩; subst_vars; rfl) (fun _ _ _ _ _ _=>b2 fun _ _=>by kernel_rfl) (by kernel_rfl)
theorem h_may_be_admitted:Prom g 1 "may_be_admitted" (at_ sp_may_be_admitted g):=M.pr 51 124 (ps:=["world", "who", "host"]) (m:=mt_ m_may_be_admitted g) w_may_be_admitted ⟨⟨t,t⟩,⟨⟨⟨fun _ _=>op_isN,t,t⟩,⟨fun _ _=>op_ne,t,t⟩,t⟩,⟨t,t⟩,t⟩,⟨⟨fun _ _=>op_eq,t,t⟩,⟨fun _ _=>op_le,t,t⟩,t⟩,t⟩ (by rintro _ _ _ _ ⟨⟩; subst_vars; rfl) (fun _ _ _ _ _ _=>b3 fun _ _ _=>by kernel_rfl) (by kernel_rfl)
theorem h_know:Prom g 3 "know" (at_ sp_know g):=M.pr 52 125 (ps:=["world", "place", "n", "who", "host"]) (m:=mt_ m_know g) w_know ⟨⟨(h_draw M).up,t,t⟩,⟨t,t,(h_init_Attempt M).up,t,t,t,t,⟨fun _ _=>op_add,t,t⟩,t⟩,⟨(h_send M).up,t,⟨M.g_CHALLENGE,t,t,t,t⟩,t⟩,t⟩ (by rintro _ _ _ _ ⟨⟩; subst_vars; rfl) (fun _ _ _ _ _ _=>b5 fun _ _ _ _ _=>by kernel_rfl) (by kernel_rfl)
theorem h_take_hello:Prom g 4 "take_hello" (at_ sp_take_hello g):=M.pr 53 126 (ps:=["world", "place", "n", "who", "host"]) (m:=mt_ m_take_hello g) w_take_hello ⟨⟨t,t⟩,⟨⟨fun _ _=>jat,t,t⟩,⟨⟨⟨fun _ _=>jat,t,t⟩,⟨⟨(h_send M).up,t,t,t⟩,t⟩,⟨(h_send M).up,t,⟨M.g_CHALLENGE,t,t,t,t⟩,t⟩,t⟩,t⟩,⟨⟨(h_may_be_admitted M).up,t,t,t,t⟩,⟨⟨(h_send M).up,t,⟨M.g_NO,t,t,t⟩,t⟩,t⟩,⟨⟨fun _ _=>op_lt,⟨fun _ _=>jb3,M.n_len,bt_len,t,t⟩,t⟩,⟨⟨(h_know M).up,t,t,t,t,t,t⟩,t⟩,t⟩,t⟩,t⟩,t⟩ (by rintro _ _ _ _ ⟨⟩; subst_vars; rfl) (fun _ _ _ _ _ _=>b5 fun _ _ _ _ _=>by kernel_rfl) (by kernel_rfl)
theorem h_hours_fit:Prom g 1 "hours_fit" (at_ sp_hours_fit g):=M.pr 54 127 (ps:=["rule", "time"]) (m:=mt_ m_hours_fit g) w_hours_fit ⟨⟨⟨fun _ _=>op_le,t,t⟩,⟨⟨fun _ _=>op_le,fun _ _=>op_le,t,t,t⟩,t⟩,t⟩,⟨⟨fun _ _=>op_ge,t,t⟩,⟨fun _ _=>op_le,t,t⟩,t⟩,t⟩ (by rintro _ _ _ _ ⟨⟩; subst_vars; rfl) (fun _ _ _ _ _ _=>b2 fun _ _=>by kernel_rfl) (by kernel_rfl)
theorem h_first_rule:Prom g 2 "first_rule" (at_ sp_first_rule g):=M.pr 55 128 (ps:=["world", "person", "place"]) (m:=mt_ m_first_rule g) w_first_rule ⟨⟨fun _ _=>op_mod,t,M.g_DAY⟩,⟨t,⟨fun _ _=>op_eq,⟨fun _ _=>ix_H,t,t⟩,t⟩,⟨⟨t,⟨fun _ _=>op_le,fun _ _=>op_le,t,t,t⟩,⟨(h_hours_fit M).up,t,t,t⟩,t⟩,⟨t,t⟩,t⟩,t⟩,t,t⟩ (by rintro _ _ _ _ ⟨⟩; subst_vars; rfl) (fun _ _ _ _ _ _=>b3 fun _ _ _=>by kernel_rfl) (by kernel_rfl)
theorem h_add_wrong:Prom g 1 "add_wrong" (at_ sp_add_wrong g):=M.pr 56 129 (ps:=["world", "person"]) (m:=mt_ m_add_wrong g) w_add_wrong ⟨⟨fun _ _=>in_add,t,t⟩,⟨⟨fun _ _=>op_ge,t,t⟩,⟨⟨t,t⟩,⟨t,fun _ _=>op_add,t,t⟩,t⟩,t⟩,t⟩ (by rintro _ _ _ _ ⟨⟩; subst_vars; rfl) (fun _ _ _ _ _ _=>b2 fun _ _=>by kernel_rfl) (by kernel_rfl)
theorem h_begin_session:Prom g 3 "begin_session" (at_ sp_begin_session g):=M.pr 57 130 (ps:=["world", "n", "attempt", "rule"]) (m:=mt_ m_begin_session g) w_begin_session ⟨⟨(h_draw M).up,t,t⟩,⟨fun _ _=>op_add,t,t⟩,⟨fun _ _=>ja5,F.plainAttrs_list,F.slot_list_append,F.type_list_append,t,⟨(h_init_Begun M).up,t,t,t,t,t,t⟩,t⟩,⟨M.g_YES,t,t,t,t,t,t,t⟩,t⟩ (by rintro _ _ _ _ ⟨⟩; subst_vars; rfl) (fun _ _ _ _ _ _=>b4 fun _ _ _ _=>by kernel_rfl) (by kernel_rfl)
theorem h_decide:Prom g 4 "decide" (at_ sp_decide g):=M.pr 58 131 (ps:=["world", "n", "attempt", "x"]) (m:=mt_ m_decide g) w_decide ⟨⟨M.g_NO,t,t,t⟩,⟨⟨(h_may_be_admitted M).up,t,t,t,t⟩,⟨t,t⟩,t⟩,⟨t,t⟩,⟨⟨fun _ _=>op_ne,t,(h_keyed_sum M).up,t,t,t⟩,⟨⟨(h_add_wrong M).up,t,t,t⟩,t,t⟩,t⟩,⟨t,t⟩,⟨(h_first_rule M).up,t,t,t,t⟩,⟨⟨fun _ _=>op_isN,t,t⟩,⟨t,t⟩,t⟩,⟨(h_begin_session M).up,t,t,t,t,t⟩,t⟩ (by rintro _ _ _ _ ⟨⟩; subst_vars; rfl) (fun _ _ _ _ _ _=>b4 fun _ _ _ _=>by kernel_rfl) (by kernel_rfl)
theorem h_send_overs_elsewhere:Prom g 2 "send_overs_elsewhere" (at_ sp_send_overs_elsewhere g):=M.pr 59 132 (ps:=["world", "host", "place"]) (m:=mt_ m_send_overs_elsewhere g) w_send_overs_elsewhere ⟨⟨t,⟨⟨⟨fun _ _=>op_eq,t,t⟩,⟨fun _ _=>op_ne,t,t⟩,t⟩,⟨⟨(h_send M).up,t,⟨M.g_OVER,t,t⟩,t⟩,t⟩,t⟩,t⟩,t⟩ (by rintro _ _ _ _ ⟨⟩; subst_vars; rfl) (fun _ _ _ _ _ _=>b3 fun _ _ _=>by kernel_rfl) (by kernel_rfl)
theorem h_take_answer:Prom g 5 "take_answer" (at_ sp_take_answer g):=M.pr 60 133 (ps:=["world", "n", "challenge", "x"]) (m:=mt_ m_take_answer g) w_take_answer ⟨⟨t,t⟩,⟨⟨⟨fun _ _=>op_isN,t,t⟩,⟨fun _ _=>op_ne,t,t⟩,t⟩,⟨t,t⟩,t⟩,⟨⟨fun _ _=>jat,t,t⟩,⟨⟨(h_send M).up,t,t,t⟩,t,t⟩,t⟩,⟨t,(h_decide M).up,t,t,t,t,t⟩,⟨(h_send M).up,t,t,t⟩,⟨⟨fun _ _=>op_eq,⟨fun _ _=>ix_U,t,t⟩,M.g_YES⟩,⟨⟨(h_send_overs_elsewhere M).up,t,t,t,t⟩,t⟩,t⟩,t⟩ (by rintro _ _ _ _ ⟨⟩; subst_vars; rfl) (fun _ _ _ _ _ _=>b4 fun _ _ _ _=>by kernel_rfl) (by kernel_rfl)
theorem h_take_count:Prom g 2 "take_count" (at_ sp_take_count g):=M.pr 61 134 (ps:=["world", "number", "frames", "closed"]) (m:=mt_ m_take_count g) w_take_count ⟨⟨t,t,t,t,t⟩,⟨t,t,⟨fun _ l=>jc2 l.calm,M.n_max,bt_max,⟨fun _ _=>ix_U,t,t⟩,t,t⟩,⟨fun _ l=>jc2 l.calm,M.n_max,bt_max,⟨fun _ _=>ix_U,t,t⟩,t,t⟩,t⟩,⟨⟨fun _ _=>op_eq,t,t⟩,⟨⟨t,t,t,⟨fun _ _=>op_ne,t,t⟩,t⟩,⟨(h_send M).up,t,⟨M.g_GOT,t,t,t⟩,t⟩,t⟩,t⟩,t⟩ (by rintro _ _ _ _ ⟨⟩; subst_vars; rfl) (fun _ _ _ _ _ _=>b4 fun _ _ _ _=>by kernel_rfl) (by kernel_rfl)
theorem h_directory_takes:Prom g 6 "directory_takes" (at_ sp_directory_takes g):=M.pr 62 135 (ps:=["world", "message"]) (m:=mt_ m_directory_takes g) w_directory_takes ⟨⟨⟨fun _ _=>op_eq,⟨fun _ _=>ix_U,t,t⟩,M.g_HELLO⟩,⟨⟨(h_take_hello M).up,t,⟨fun _ _=>ix_U,t,t⟩,⟨fun _ _=>ix_U,t,t⟩,⟨fun _ _=>ix_U,t,t⟩,⟨fun _ _=>ix_U,t,t⟩,t⟩,t⟩,⟨⟨fun _ _=>op_eq,⟨fun _ _=>ix_U,t,t⟩,M.g_ANSWER⟩,⟨⟨(h_take_answer M).up,t,⟨fun _ _=>ix_U,t,t⟩,⟨fun _ _=>ix_U,t,t⟩,⟨fun _ _=>ix_U,t,t⟩,t⟩,t⟩,⟨(h_take_count M).up,t,⟨fun _ _=>ix_U,t,t⟩,⟨fun _ _=>ix_U,t,t⟩,⟨fun _ _=>ix_U,t,t⟩,t⟩,t⟩,t⟩,t⟩ (by rintro _ _ _ _ ⟨⟩; subst_vars; rfl) (fun _ _ _ _ _ _=>b2 fun _ _=>by kernel_rfl) (by kernel_rfl)
theorem h_hand_over:Prom g 10 "hand_over" (at_ sp_hand_over g):=M.pr 63 137 (ps:=["world", "message"]) (m:=mt_ m_hand_over g) w_hand_over ⟨⟨⟨fun _ _=>op_le,⟨fun _ _=>ix_U,t,t⟩,M.g_COUNT⟩,⟨⟨(h_directory_takes M).up,t,t,t⟩,t⟩,⟨(h_switch_takes M).up,t,t,t⟩,t⟩,t⟩ (by rintro _ _ _ _ ⟨⟩; subst_vars; rfl) (fun _ _ _ _ _ _=>b2 fun _ _=>by kernel_rfl) (by kernel_rfl)
theorem h_double:Prom g 1 "double" (at_ sp_double g):=M.pr 64 138 (ps:=["world", "k"]) (m:=mt_ m_double g) w_double ⟨⟨⟨fun _ _=>op_ge,⟨fun _ _=>jal,M.n_len,bt_len,t,t⟩,t⟩,⟨⟨t,t⟩,t⟩,t⟩,⟨fun _ _=>ja5,F.plainAttrs_list,F.slot_list_append,F.type_list_append,t,⟨fun _ _=>ix_H,t,t⟩,t⟩,⟨t,t⟩,t⟩ (by rintro _ _ _ _ ⟨⟩; subst_vars; rfl) (fun _ _ _ _ _ _=>b2 fun _ _=>by kernel_rfl) (by kernel_rfl)
theorem h_net_call:Prom g 11 "net_call" (at_ sp_net_call g):=M.pr 65 139 (ps:=["world", "code", "k"]) (m:=mt_ m_net_call g) w_net_call ⟨⟨⟨(h_within M).up,t,t,⟨fun _ _=>op_sub,⟨fun _ _=>jal,M.n_len,bt_len,t,t⟩,t⟩,t⟩,⟨⟨t,t⟩,t⟩,t⟩,⟨⟨fun _ _=>op_eq,t,M.g_DELIVER⟩,⟨⟨(h_hand_over M).up,t,⟨fun _ _=>mt_popAt,F.plainAttrs_list,F.slot_list_pop,F.type_list_pop,t,t,t⟩,t⟩,t⟩,⟨⟨fun _ _=>op_eq,t,M.g_LOSE⟩,⟨⟨fun _ _=>mt_popAt,F.plainAttrs_list,F.slot_list_pop,F.type_list_pop,t,t,t⟩,t⟩,⟨(h_double M).up,t,t,t⟩,t⟩,t⟩,⟨t,t⟩,t⟩ (by rintro _ _ _ _ ⟨⟩; subst_vars; rfl) (fun _ _ _ _ _ _=>b3 fun _ _ _=>by kernel_rfl) (by kernel_rfl)
theorem h_rest_until:Prom g 1 "rest_until" (at_ sp_rest_until g):=M.pr 66 141 (ps:=["world", "time"]) (m:=mt_ m_rest_until g) w_rest_until ⟨⟨fun _ l=>jc2 l.calm,M.n_max,bt_max,⟨fun _ _=>op_sub,t,t⟩,t,t⟩,t⟩ (fun _ _ _ _ h=>by obtain ⟨_,_,e,_⟩:=kzA_m.mp h; subst e; rfl) (fun _ _ _ _ _ _=>b2 fun _ _=>by kernel_rfl) (by kernel_rfl)
theorem h_tell_keyed:Prom g 3 "tell_keyed" (at_ sp_tell_keyed g):=M.pr 67 142 (ps:=["secret", "challenge"]) (m:=mt_ m_tell_keyed g) w_tell_keyed ⟨⟨⟨⟨(h_is_secret M).up,t,t⟩,⟨(h_within M).up,t,t,M.g_MOST_CHALLENGE,t⟩,t⟩,⟨⟨t,t⟩,t⟩,t⟩,⟨t,⟨(h_keyed_sum M).up,t,t,t⟩,t⟩,t⟩ (by rintro _ _ _ _ ⟨⟩; subst_vars; rfl) (fun _ _ _ _ _ _=>b2 fun _ _=>by kernel_rfl) (by kernel_rfl)
theorem h_stand_numbers:Prom g 2 "stand_numbers" (at_ sp_stand_numbers g):=M.pr 68 143 (ps:=["world", "stand"]) (m:=mt_ m_stand_numbers g) w_stand_numbers ⟨⟨(h_rest_until M).up,t,t,t⟩,⟨t,t,t,t,t⟩,⟨⟨fun _ _=>op_eq,t,M.g_ASKING⟩,⟨⟨t,t,t,t⟩,t⟩,t⟩,⟨⟨fun _ _=>op_eq,t,M.g_LOOKING⟩,⟨⟨fun _ _=>op_cat,t,t,t,t⟩,t⟩,t⟩,⟨⟨fun _ _=>op_eq,t,M.g_CHALLENGED⟩,⟨⟨fun _ _=>op_cat,t,t,t,t⟩,t⟩,t⟩,⟨⟨fun _ _=>op_eq,t,M.g_CHECKING⟩,⟨⟨fun _ _=>op_cat,t,t,t,t,t,t⟩,t⟩,t⟩,⟨⟨fun _ _=>op_eq,t,M.g_HELD⟩,⟨⟨t,t,t⟩,t⟩,t⟩,⟨t,t⟩,t⟩ (by rintro _ _ _ _ ⟨⟩; subst_vars; rfl) (fun _ _ _ _ _ _=>b2 fun _ _=>by kernel_rfl) (by kernel_rfl)
theorem h_session_numbers:Prom g 2 "session_numbers" (at_ sp_session_numbers g):=M.pr 69 144 (ps:=["world", "session"]) (m:=mt_ m_session_numbers g) w_session_numbers ⟨⟨⟨fun _ _=>op_isN,t,t⟩,⟨⟨t,t⟩,t⟩,t⟩,⟨(h_rest_until M).up,t,t,t⟩,⟨(h_rest_until M).up,t,t,t⟩,⟨t,t,t,t,t,t,t,t,t⟩,t⟩ (by rintro _ _ _ _ ⟨⟩; subst_vars; rfl) (fun _ _ _ _ _ _=>b2 fun _ _=>by kernel_rfl) (by kernel_rfl)
theorem h_tell_port:Prom g 3 "tell_port" (at_ sp_tell_port g):=M.pr 70 145 (ps:=["world", "place"]) (m:=mt_ m_tell_port g) w_tell_port ⟨⟨⟨(h_is_port M).up,t,t,t⟩,⟨⟨t,t⟩,t⟩,t⟩,⟨fun _ _=>ix_H,t,t⟩,⟨fun _ _=>op_cat,⟨fun _ _=>op_cat,⟨fun _ _=>op_cat,⟨t,t⟩,(h_stand_numbers M).up,t,t,t⟩,(h_session_numbers M).up,t,t,t⟩,t,t⟩,t⟩ (by rintro _ _ _ _ ⟨⟩; subst_vars; rfl) (fun _ _ _ _ _ _=>b2 fun _ _=>by kernel_rfl) (by kernel_rfl)
theorem h_tell_bag:Prom g 1 "tell_bag" (at_ sp_tell_bag g):=M.pr 71 146 (ps:=["world"]) (m:=mt_ m_tell_bag g) w_tell_bag ⟨⟨t,⟨fun _ _=>jal,M.n_len,bt_len,t,t⟩,t⟩,⟨t,⟨fun _ _=>mt_extU,F.plainAttrs_list,F.slot_list_extend,F.type_list_extend,t,t,t⟩,t⟩,t,t⟩ (by rintro _ _ _ _ ⟨⟩; subst_vars; rfl) (fun _ _ _ _ _ _=>b1 fun _=>by kernel_rfl) (by kernel_rfl)
theorem h_tell_account:Prom g 1 "tell_account" (at_ sp_tell_account g):=M.pr 72 147 (ps:=["world", "number"]) (m:=mt_ m_tell_account g) w_tell_account ⟨⟨⟨t,t⟩,⟨⟨t,t⟩,t⟩,t⟩,⟨t,t⟩,⟨t,⟨fun _ _=>ix_U,t,t⟩,⟨fun _ _=>ix_U,t,t⟩,t⟩,t⟩ (by rintro _ _ _ _ ⟨⟩; subst_vars; rfl) (fun _ _ _ _ _ _=>b2 fun _ _=>by kernel_rfl) (by kernel_rfl)
theorem h_tell_person:Prom g 2 "tell_person" (at_ sp_tell_person g):=M.pr 73 148 (ps:=["world", "who"]) (m:=mt_ m_tell_person g) w_tell_person ⟨⟨⟨t,t⟩,⟨⟨t,t⟩,t⟩,t⟩,⟨t,t⟩,⟨t,⟨M.n_enumerate,t⟩,⟨fun _ _=>op_eq,t,t⟩,t⟩,⟨(h_rest_until M).up,t,t,t⟩,⟨fun _ _=>op_cat,⟨t,t,t,t,t,⟨fun _ _=>jal,M.n_len,bt_len,t,t⟩,t⟩,t⟩,t⟩ (by rintro _ _ _ _ ⟨⟩; subst_vars; rfl) (fun _ _ _ _ _ _=>b2 fun _ _=>by kernel_rfl) (by kernel_rfl)
theorem h_tell_counts:Prom g 2 "tell_counts" (at_ sp_tell_counts g):=M.pr 74 149 (ps:=["world"]) (m:=mt_ m_tell_counts g) w_tell_counts ⟨⟨⟨(h_count_sessions M).up,t,t⟩,⟨fun _ _=>jal,M.n_len,bt_len,t,t⟩,t⟩,⟨⟨fun _ _=>jb3,M.n_len,bt_len,t,t⟩,⟨fun _ _=>jal,M.n_len,bt_len,t,t⟩,⟨fun _ _=>jb3,M.n_len,bt_len,t,t⟩,⟨fun _ _=>jal,M.n_len,bt_len,t,t⟩,t⟩,⟨fun _ _=>op_cat,⟨fun _ _=>op_cat,⟨t,t,t,t,t⟩,t⟩,t⟩,t⟩ (by rintro _ _ _ _ ⟨⟩; subst_vars; rfl) (fun _ _ _ _ _ _=>b1 fun _=>by kernel_rfl) (by kernel_rfl)
theorem h_telling_call:Prom g 4 "telling_call" (at_ sp_telling_call g):=M.pr 75 150 (ps:=["world", "code", "row"]) (m:=mt_ m_telling_call g) w_telling_call ⟨⟨⟨fun _ _=>op_eq,t,M.g_KEYED⟩,⟨⟨(h_tell_keyed M).up,⟨fun _ _=>ix_H,t,t⟩,⟨fun _ _=>ix_H,t,t⟩,t⟩,t⟩,t⟩,⟨⟨fun _ _=>op_eq,t,M.g_PORT⟩,⟨⟨(h_tell_port M).up,t,⟨fun _ _=>ix_H,t,t⟩,t⟩,t⟩,t⟩,⟨⟨fun _ _=>op_eq,t,M.g_BAG⟩,⟨⟨(h_tell_bag M).up,t,t⟩,t⟩,t⟩,⟨⟨fun _ _=>op_eq,t,M.g_ACCOUNT⟩,⟨⟨(h_tell_account M).up,t,⟨fun _ _=>ix_H,t,t⟩,t⟩,t⟩,t⟩,⟨⟨fun _ _=>op_eq,t,M.g_WHOIS⟩,⟨⟨(h_tell_person M).up,t,⟨fun _ _=>ix_H,t,t⟩,t⟩,t⟩,t⟩,⟨(h_tell_counts M).up,t,t⟩,t⟩ (by rintro _ _ _ _ ⟨⟩; subst_vars; rfl) (fun _ _ _ _ _ _=>b3 fun _ _ _=>by kernel_rfl) (by kernel_rfl)
theorem h_end_asking:Prom g 5 "end_asking" (at_ sp_end_asking g):=M.pr 76 152 (ps:=["world", "port"]) (m:=mt_ m_end_asking g) w_end_asking ⟨⟨⟨fun _ _=>jat,t,t⟩,⟨⟨(h_deny M).up,t,t,t⟩,t⟩,⟨⟨fun _ _=>op_eq,t,t⟩,⟨⟨(h_hold_port M).up,t,t,t⟩,t⟩,⟨t,(h_init_Stand M).up,M.g_AS_GUEST,t,t⟩,t⟩,t⟩,t⟩ (by rintro _ _ _ _ ⟨⟩; subst_vars; rfl) (fun _ _ _ _ _ _=>b2 fun _ _=>by kernel_rfl) (by kernel_rfl)
theorem h_wait_once_more:Prom g 1 "wait_once_more" (at_ sp_wait_once_more g):=M.pr 77 153 (ps:=["world", "stand"]) (m:=mt_ m_wait_once_more g) w_wait_once_more ⟨⟨fun _ _=>in_sub,t,t⟩,⟨t,fun _ _=>op_add,t,t⟩,t⟩ (by rintro _ _ _ _ ⟨⟩; subst_vars; rfl) (fun _ _ _ _ _ _=>b2 fun _ _=>by kernel_rfl) (by kernel_rfl)
theorem h_send_once_more:Prom g 2 "send_once_more" (at_ sp_send_once_more g):=M.pr 78 154 (ps:=["world", "place", "stand"]) (m:=mt_ m_send_once_more g) w_send_once_more ⟨⟨⟨fun _ _=>op_eq,t,M.g_LOOKING⟩,⟨⟨(h_send M).up,t,⟨M.g_HELLO,t,t,t,t,t⟩,t⟩,t⟩,⟨(h_send M).up,t,⟨M.g_ANSWER,t,t,t,t⟩,t⟩,t⟩,t⟩ (by rintro _ _ _ _ ⟨⟩; subst_vars; rfl) (fun _ _ _ _ _ _=>b3 fun _ _ _=>by kernel_rfl) (by kernel_rfl)
theorem h_due_asking:Prom g 6 "due_asking" (at_ sp_due_asking g):=M.pr 79 155 (ps:=["world", "port"]) (m:=mt_ m_due_asking g) w_due_asking ⟨⟨⟨fun _ _=>op_gt,t,t⟩,⟨⟨(h_wait_once_more M).up,t,t,t⟩,t⟩,⟨(h_end_asking M).up,t,t,t⟩,t⟩,t⟩ (by rintro _ _ _ _ ⟨⟩; subst_vars; rfl) (fun _ _ _ _ _ _=>b2 fun _ _=>by kernel_rfl) (by kernel_rfl)
theorem h_due_sending:Prom g 5 "due_sending" (at_ sp_due_sending g):=M.pr 80 156 (ps:=["world", "place", "port"]) (m:=mt_ m_due_sending g) w_due_sending ⟨⟨⟨fun _ _=>op_gt,t,t⟩,⟨⟨(h_wait_once_more M).up,t,t,t⟩,⟨(h_send_once_more M).up,t,t,t,t⟩,t⟩,⟨(h_come_to_nothing M).up,t,t,t⟩,t⟩,t⟩ (by rintro _ _ _ _ ⟨⟩; subst_vars; rfl) (fun _ _ _ _ _ _=>b3 fun _ _ _=>by kernel_rfl) (by kernel_rfl)
theorem h_due_of:Prom g 1 "due_of" (at_ sp_due_of g):=M.pr 81 157 (ps:=["port"]) (m:=mt_ m_due_of g) w_due_of ⟨⟨⟨fun _ _=>op_eq,t,M.g_INSIDE⟩,⟨t,t⟩,t⟩,t,t⟩ (by rintro _ _ _ _ ⟨⟩; subst_vars; rfl) (fun _ _ _ _ _ _=>b1 fun _=>by kernel_rfl) (by kernel_rfl)
theorem h_look_at:Prom g 7 "look_at" (at_ sp_look_at g):=M.pr 82 158 (ps:=["world", "place", "port"]) (m:=mt_ m_look_at g) w_look_at ⟨⟨⟨⟨fun _ _=>jat,t,t⟩,⟨fun _ _=>op_le,t,t⟩,t⟩,⟨⟨(h_put_out M).up,t,t,t⟩,t⟩,t⟩,⟨⟨fun _ _=>op_gt,⟨(h_due_of M).up,t,t⟩,t⟩,⟨t,t⟩,t⟩,t,⟨⟨fun _ _=>op_eq,t,M.g_ASKING⟩,⟨⟨(h_due_asking M).up,t,t,t⟩,t⟩,⟨⟨fun _ _=>op_inU,t,M.g_LOOKING,M.g_CHECKING,t⟩,⟨⟨(h_due_sending M).up,t,t,t,t⟩,t⟩,⟨⟨fun _ _=>op_eq,t,M.g_CHALLENGED⟩,⟨⟨(h_deny M).up,t,t,t⟩,t⟩,⟨⟨fun _ _=>op_inU,t,M.g_HELD,M.g_INSIDE,t⟩,⟨⟨(h_ask_anew M).up,t,t,t⟩,t⟩,t⟩,t⟩,t⟩,t⟩,t⟩ (by rintro _ _ _ _ ⟨⟩; subst_vars; rfl) (fun _ _ _ _ _ _=>b3 fun _ _ _=>by kernel_rfl) (by kernel_rfl)
theorem h_forget:Prom g 1 "forget" (at_ sp_forget g):=M.pr 83 159 (ps:=["world"]) (m:=mt_ m_forget g) w_forget ⟨⟨⟨fun _ l=>call_listD l.calm,M.n_list,bt_list,t,t⟩,⟨⟨fun _ _=>op_le,⟨t,t⟩,t⟩,⟨⟨t,t⟩,t⟩,t⟩,t⟩,⟨t,t,t,⟨fun _ _=>op_gt,t,t⟩,t⟩,t⟩ (by rintro _ _ _ _ ⟨⟩; subst_vars; rfl) (fun _ _ _ _ _ _=>b1 fun _=>by kernel_rfl) (by kernel_rfl)
theorem h_tick:Prom g 8 "tick" (at_ sp_tick g):=M.pr 84 160 (ps:=["world", "n"]) (m:=mt_ m_tick g) w_tick ⟨⟨⟨(h_within M).up,t,t,M.g_MOST_NOW,t⟩,⟨⟨t,t⟩,t⟩,t⟩,⟨⟨fun _ _=>op_gt,⟨fun _ _=>op_add,t,t⟩,M.g_MOST_NOW⟩,⟨⟨t,t⟩,t⟩,t⟩,⟨fun _ _=>in_add,t,t⟩,⟨⟨M.n_enumerate,t⟩,⟨(h_look_at M).up,t,t,t,t⟩,t⟩,⟨(h_forget M).up,t,t⟩,⟨t,t⟩,t⟩ (by rintro _ _ _ _ ⟨⟩; subst_vars; rfl) (fun _ _ _ _ _ _=>b2 fun _ _=>by kernel_rfl) (by kernel_rfl)
theorem h_act:Prom g 12 "act" (at_ sp_act g):=M.pr 85 163 (ps:=["world", "code", "row"]) (m:=mt_ m_act g) w_act ⟨⟨⟨⟨fun _ _=>op_le,t,M.g_BAR⟩,⟨fun _ _=>op_eq,t,M.g_REBOOT⟩,t⟩,⟨⟨(h_directory_call M).up,t,t,t,t⟩,t⟩,t⟩,⟨⟨⟨fun _ _=>op_le,t,M.g_FRAME⟩,⟨fun _ _=>op_inU,t,M.g_REPORT,M.g_RESTART,t⟩,t⟩,⟨⟨(h_switch_call M).up,t,t,t,t⟩,t⟩,t⟩,⟨⟨fun _ _=>op_eq,t,M.g_TICK⟩,⟨⟨(h_tick M).up,t,⟨fun _ _=>ix_H,t,t⟩,t⟩,t⟩,t⟩,⟨⟨fun _ _=>op_inU,t,M.g_DELIVER,M.g_LOSE,M.g_DOUBLE,t⟩,⟨⟨(h_net_call M).up,t,t,⟨fun _ _=>ix_H,t,t⟩,t⟩,t⟩,t⟩,⟨(h_telling_call M).up,t,t,t,t⟩,t⟩ (by rintro _ _ _ _ ⟨⟩; subst_vars; rfl) (fun _ _ _ _ _ _=>b3 fun _ _ _=>by kernel_rfl) (by kernel_rfl)
theorem f_answers {f:Addr} {fd:FuncData} (W:Fun g.K "answers" "answers" (stAt 164) f fd):FnOk g.P g.w g.K g.mg g.base CX0 13 f fd ["calls"] (sp_answers g.K (tbOf g.K)):=fn_sound (k:=12) (N:=N_answers) M.tok W (m_answers g.K (tbOf g.K)) (by kernel_rfl) ⟨t,t,t,⟨⟨fun _ _=>op_lt,t,fun _ l=>l.K ▸ call_lenS,M.n_len,bt_len,t,t⟩,⟨fun _ l=>l.K ▸ ix_list,t,t⟩,⟨fun _ _=>op_add,⟨fun _ _=>op_add,t,t⟩,fun _ l=>l.K ▸ ix_tup,M.g_SIZES,t⟩,⟨fun _ l=>l.K ▸ sl_list,t,⟨fun _ _=>op_add,t,t⟩,t⟩,t,⟨⟨⟨fun _ _=>op_eq,t,M.g_BEGIN⟩,⟨(h_all_within M).up,t,M.g_BEGIN_RANGES,t⟩,t⟩,⟨⟨(h_init_World M).up,t,t⟩,⟨t,t⟩,t⟩,⟨⟨fun _ _=>op_eq,t,M.g_BEGIN⟩,⟨⟨t,t⟩,t⟩,⟨⟨fun _ _=>op_isN,t,t⟩,⟨⟨t,t⟩,t⟩,⟨(h_act M).up,t,t,t,t⟩,t⟩,t⟩,t⟩,⟨fun _ _=>ja5,F.plainAttrs_list,F.slot_list_append,F.type_list_append,t,⟨fun _ _=>jal,M.n_len,bt_len,t,t⟩,t⟩,⟨fun _ _=>mt_extend,F.plainAttrs_list,F.slot_list_extend,F.type_list_extend,t,t,t⟩,t⟩,t,t⟩ (fun _ _ _ _ h=>by obtain ⟨_,_,_,e,_⟩:=h; subst e; rfl) (w_answers M.look.ti M.look.mt)
end
open PySem.W (Codec)
theorem all_in {P:Program} {w:World} {K:W.Frag} {h:Heap} {mg:Str→Option Value} {fa:Addr} (X:K.In h) (G:h.Ns mainGlobals mg) (hfa:mg "answers" = some (.ref fa)) (L:Look K) :
  ∃ fd:FuncData,(∀ (s:Shared) (us:List Value),us.length=(["calls"]:List Str).length→BindsTo s fd ⟨us,[]⟩ ((["calls"]:List Str).zip us)) ∧
   ∀ base:Heap,K.In base→base.Ns mainGlobals mg→FnOk P w K mg base CX0 13 fa fd ["calls"] (sp_answers K (tbOf K)):=by
 have hm:(("answers" : Str),(164:Nat)) ∈ fnTab:=List.mem_of_getElem? (i:=86) rfl
 have e:=List.map_inj_left.mp L.l_fns _ hm
 obtain ⟨fd,F⟩:=fun_of (st:=stAt 164) e
 have e2:=hfa.symm.trans (PySem.W.mg_of X G (jcg (List.all_eq_true.mp L.l_refs _ hm)))
 simp only [Option.some.injEq,Value.ref.injEq] at e2
 subst e2
 refine ⟨fd,fun s us hu=>?_,fun base _ _=>?_⟩
 ·obtain ⟨oc,od,kV,doc,pm,an,cdv,ct,osl,rfl,lk,hcd⟩:=F.ex
  match us,hu with
  | [_],_=>exact .of_eq (by kernel_rfl)
 ·exact f_answers (g:=⟨P,w,K,mg,base⟩) ⟨L,fun x v q=>PySem.W.mg_of X G q,fun x q=>PySem.W.mg_none_of X G q⟩ F
theorem asked_of {l:List Int} (h:PyVbcnad.answers_asked l=true):∃ cs,PyFlat.calls PyVbcnad.shape l.length l=some cs∧cs.length≤400:=by
 unfold PyVbcnad.answers_asked at h
 rw [calls_id] at h
 split at h
 ·cases h
 ·rename_i cs e
  rw [Bool.and_eq_true] at h
  exact ⟨cs,e,of_decide_eq_true h.1⟩
theorem bnd_of {z:Int} (h:Codec.inInt (Int.negSucc 9223372036854775807) (Int.ofNat 9223372036854775807) z=true):-(2 ^ 63)≤z∧z < 2 ^ 63:=by
 have q:=Codec.inInt_iff.mp h
 have e1:Int.ofNat 9223372036854775807=(9223372036854775807:Int):=rfl
 have e2:Int.negSucc 9223372036854775807=(-9223372036854775808:Int):=rfl
 rw [e1,e2] at q
 omega
end R
end
open PySem PySem.W PyProof.Rows
set_option maxRecDepth 100000 in
set_option maxHeartbeats 0 in
theorem PySem.Challenge.cw_portadmit_s01_answers_holds : PySem.Challenge.rw_portadmit_s01_answers.Holds := by
  refine s01_head ?_
  k_fillS
  refine L2.walk_specK (r := PySem.Challenge.rw_portadmit_s01_answers) (k := 13) (CX := L2.CX0) (ps := ["calls"]) (sp := fun K => R.sp_answers K (R.tbOf K)) (by decide +kernel) rfl rfl ⟨rfl, by decide, by decide⟩ (fun w h Y => PySem.W.kIn_of Y) ?F ?S (fun _ _ _ _ z => z)
  case F =>
    intro w mg fa h Y KX G hmg
    exact R.all_in KX G hmg ⟨by kernel_rfl, by kernel_rfl, by kernel_rfl, by kernel_rfl, by kernel_rfl, by kernel_rfl, by kernel_rfl, by kernel_rfl, by kernel_rfl, by kernel_rfl, by kernel_rfl⟩
  case S =>
    intro K H xs a hO hwi hask hx
    cases hx with
    | cons h1 h2 =>
      cases h2
      cases h1 with
      | lst hs ha =>
        have e := L2.ints_dw a.1 _ ha
        subst e
        have q : ((Codec.inLen 0 16000 a.1 && a.1.all (Codec.inInt (Int.negSucc 9223372036854775807) (Int.ofNat 9223372036854775807))) && true) = true := hwi
        rw [Bool.and_eq_true, Bool.and_eq_true] at q
        obtain ⟨cs, hcs, hlen⟩ := R.asked_of (l := a.1) hask
        exact ⟨_, a.1, cs, rfl, hs, fun z hz => R.bnd_of (List.all_eq_true.mp q.1.2 z hz), hcs, hlen, (Codec.inNat_iff.mp q.1.1).2, fun H' p hp => .lst (L2.SqL.of hp) (L2.dw_ints _)⟩
#print axioms PySem.Challenge.cw_portadmit_s01_answers_holds
