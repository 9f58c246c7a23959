import PyProof.Rows.All
import Wide.All
import OpenK.AllK
import Wide.FinOn
import Lean
import PyProof.EqAt
import PyProof.EqKinds
import PyProof.TupleCall
import PyProof.StrOps2
import PySem.Challenge.RW_stillpoint_k14_bytes_of_files
-- CHANGE: your row's module here,as the last of these rows
set_option Elab.async false
set_option linter.all false
set_option maxRecDepth 100000
namespace L2
open PySem PySem.Spec PyProof.Rows
abbrev Key:=Sum Int Str
def ZJL:Key→Value→Bool
 | .inl k,v=>Value.isInt k v
 | .inr x,v=>Value.isStrOf x v
def keyH (w:World):Key→Int
 | .inl k=>hashInt k
 | .inr x=>hashStr w x
theorem ZaQ:∀ {k:Key} {v:Value},ZJL k v=true→(∃ i t,k=Sum.inl i∧v=Value.int i t)∨(∃ x t,k=Sum.inr x∧v=Value.str x t)
 | .inl i,v,h=>by
  obtain ⟨t,e⟩:=Value.isInt_shape (k:=i) (v:=v) h
  exact .inl ⟨i,t,rfl,e⟩
 | .inr x,v,h=>by
  obtain ⟨t,e⟩:=Value.isStrOf_shape (x:=x) (v:=v) h
  exact .inr ⟨x,t,rfl,e⟩
theorem ZLE (i:Int) (t:Tok):ZJL (.inl i) (.int i t)=true:=by simp [ZJL,Value.isInt]
theorem ZLD (x:Str) (t:Tok):ZJL (.inr x) (.str x t)=true:=by simp [ZJL,Value.isStrOf]
theorem ZRi (a b:Int):decide ((Sum.inl a:Key)=Sum.inl b)=(a == b):=by
 by_cases e:a=b
 ·subst e;simp
 ·have h:¬ (Sum.inl a:Key)=Sum.inl b:=fun q=>e (Sum.inl.inj q)
  rw [decide_eq_false h]
  exact (beq_eq_false_iff_ne.mpr e).symm
theorem ZRf (a b:Str):decide ((Sum.inr a:Key)=Sum.inr b)=decide (a=b):=by
 by_cases e:a=b
 ·subst e;simp
 ·have h:¬ (Sum.inr a:Key)=Sum.inr b:=fun q=>e (Sum.inr.inj q)
  rw [decide_eq_false h,decide_eq_false e]
theorem ZRh (a:Int) (b:Str):decide ((Sum.inl a:Key)=Sum.inr b)=false:=decide_eq_false (fun q=>nomatch q)
theorem ZRg (a:Str) (b:Int):decide ((Sum.inr a:Key)=Sum.inl b)=false:=decide_eq_false (fun q=>nomatch q)
def Z8 (prog:Program) (w:World):PySem.KeyKind prog w Key where
 is:=ZJL
 hash:=keyH w
 inj:=fun v a b ha hb=>by
  rcases ZaQ ha with ⟨i,t,rfl,rfl⟩ | ⟨x,t,rfl,rfl⟩
  ·rcases ZaQ hb with ⟨j,u,rfl,e⟩ | ⟨y,u,rfl,e⟩
   ·injection e with e1 _;rw [e1]
   ·exact nomatch e
  ·rcases ZaQ hb with ⟨j,u,rfl,e⟩ | ⟨y,u,rfl,e⟩
   ·exact nomatch e
   ·injection e with e1 _;rw [e1]
 byValue:=fun k v h=>by
  rcases ZaQ h with ⟨i,t,rfl,rfl⟩ | ⟨x,t,rfl,rfl⟩ <;> rfl
 pyHash:=fun hv h=>by
  rcases ZaQ hv with ⟨i,t,rfl,rfl⟩ | ⟨x,t,rfl,rfl⟩
  ·exact wpAny_pyHash_int h
  ·exact wpAny_pyHash_str h
 eqBool:=fun hu hv h=>by
  rcases ZaQ hu with ⟨i,t,rfl,rfl⟩ | ⟨x,t,rfl,rfl⟩
  ·rcases ZaQ hv with ⟨j,u,rfl,rfl⟩ | ⟨y,u,rfl,rfl⟩
   ·rw [ZRi] at h;exact wpAny_eqBool_int h
   ·rw [ZRh] at h;exact SeqAt.EqAt.int_str i t y u _ _ _ _ h
  ·rcases ZaQ hv with ⟨j,u,rfl,rfl⟩ | ⟨y,u,rfl,rfl⟩
   ·rw [ZRg] at h;exact SeqAt.EqAt.str_int x t j u _ _ _ _ h
   ·rw [ZRf] at h;exact wpAny_eqBool_str h
 «strs»:=fun k x t v h=>by
  rcases ZaQ h with ⟨i,u,rfl,e⟩ | ⟨y,u,rfl,e⟩
  ·exact nomatch e
  ·injection e with e1 _
   subst e1
   cases v <;> rfl
theorem ZGv (prog:Program) (w:World) (i:Int) (t:Tok):(Z8 prog w).is (.inl i) (.int i t)=true:=ZLE i t
theorem ZGu (prog:Program) (w:World) (x:Str) (t:Tok):(Z8 prog w).is (.inr x) (.str x t)=true:=ZLD x t
end L2
namespace L2
open PySem PySem.Spec PyProof.Rows
inductive V where
 | non | bl (b:Bool) | int (i:Int) | str (x:Str) | byt (b:Array UInt8) | flt (b:UInt64) | ref (a:Addr) | ty (n:String)
 deriving DecidableEq
def RelV:V→Value→Prop
 | .non,u=>u=Value.none
 | .bl b,u=>u=Value.bool b
 | .int i,u=>∃ t,u=Value.int i t
 | .str x,u=>∃ t,u=Value.str x t
 | .byt b,u=>∃ t,u=Value.bytes b t
 | .flt b,u=>∃ t,u=Value.float b t
 | .ref a,u=>u=Value.ref a
 | .ty n,u=>u=Value.type n
abbrev Vals:List V→List Value→Prop:=Paired RelV
theorem Vals.length {xs:List V} {us:List Value} (r:Vals xs us):xs.length=us.length:=Paired.length r
theorem Vals.get:∀ {xs:List V} {us:List Value} {i:Nat} {x:V},Vals xs us→xs[i]?=some x→∃ u,us[i]?=some u∧RelV x u
 | _,_,_,_,.nil,e=>by simp at e
 | _,_,0,_,.cons r _,e=>by simp at e;subst e;exact ⟨_,rfl,r⟩
 | _,_,i + 1,x,.cons _ t,e=>by
  obtain ⟨u,h1,h2⟩:=Vals.get (i:=i) (x:=x) t (by simpa using e)
  exact ⟨u,by simpa using h1,h2⟩
theorem Vals.set {x:V} {u:Value} (r:RelV x u):∀ {xs:List V} {us:List Value} (i:Nat),Vals xs us→Vals (xs.set i x) (us.set i u)
 | _,_,_,.nil=>.nil
 | _,_,0,.cons _ t=>.cons r t
 | _,_,i + 1,.cons q t=>.cons q (Vals.set r i t)
theorem Vals.append:∀ {xs ys:List V} {us ws:List Value},Vals xs us→Vals ys ws→Vals (xs++ys) (us++ws)
 | _,_,_,_,.nil,s=>s
 | _,_,_,_,.cons r t,s=>.cons r (Vals.append t s)
theorem Vals.take:∀ {xs:List V} {us:List Value} (n:Nat),Vals xs us→Vals (xs.take n) (us.take n)
 | _,_,0,_=>.nil
 | _,_,_ + 1,.nil=>.nil
 | _,_,n + 1,.cons r t=>.cons r (Vals.take n t)
theorem Vals.drop:∀ {xs:List V} {us:List Value} (n:Nat),Vals xs us→Vals (xs.drop n) (us.drop n)
 | _,_,0,r=>r
 | _,_,_ + 1,.nil=>.nil
 | _,_,n + 1,.cons _ t=>Vals.drop n t
def RelO:Option V→Option Value→Prop
 | some v,some u=>RelV v u
 | none,none=>True
 | _,_=>False
def KV {κ:Type}:List (κ×V)→List (κ×Value)→Prop:=Paired fun (p:κ×V) (q:κ×Value)=>p.1=q.1∧RelV p.2 q.2
def kV:Key→V
 | .inl i=>.int i
 | .inr x=>.str x
inductive HO where
 /-- a list -/
 | lst (xs:List V)
 /-- a tuple (never changes) -/
 | tup (xs:List V)
 /-- a dict whose keys are ints and texts;one whose keys are tuples of ints and texts (the empty one is both) -/
 | dK (kvs:List (Key×V)) | dT (kvs:List (List Key×V))
 /-- a set of ints: its members,its size -/
 | set (S:Int→Bool) (n:Nat)
 /-- an instance of the class at C,its dict at dx,its attributes -/
 | ins (C dx:Addr) (fs:List (Str×V))
 /-- the dict of the instance at x -/
 | own (x:Addr)
 /-- the dict of an exception -/
 | xd (fs:List (Str×V))
 /-- a bound method,f of x -/
 | met (f x:Addr)
 /-- a range object lo,lo + 1,.. below hi -/
 | rng (lo hi:Int)
 /-- a Zbw that is known to the object (the script;a dict while a loop walks it): read,never written while it is so -/
 | frz (o:Obj) (u:HO)
 /-- a code object's table -/
 | tbl (ps:Array Value)
 /-- any other Zbw,by what is true of its one object (a def of one's own: SetO a S n:=HO.ext fun h=>..) -/
 | ext (φ:Heap→Prop)
abbrev Hp:=Addr→Option HO
def upd (H:Hp) (a:Addr) (o:HO):Hp:=fun b=>if b=a then some o else H b
theorem Zb {H:Hp} {a:Addr} {o:HO}:upd H a o a=some o:=by unfold upd;rw [if_pos rfl]
theorem Zd {H:Hp} {a b:Addr} {o:HO} (h:b≠a):upd H a o b=H b:=by unfold upd;rw [if_neg h]
theorem ZY {H:Hp} {a b:Addr} {o u:HO} (h:H a=some o) (h':H b=some u) (d:o≠u):a≠b:=by
 intro e;subst e;rw [h] at h';exact d (Option.some.inj h')
theorem Zf {H:Hp} {a b:Addr} {o:HO} (h:H a=some o) (h':H b=none):a≠b:=by
 intro e;subst e;rw [h] at h';cases h'
section
variable (P:Program) (w:World)
def ZaB (H:Hp) (h:Heap) (a:Addr):HO→Prop
 | .lst xs=>xs.length≤sizeLine∧∃ (its:List Value) (n:Nat),Vals xs its∧h.get? a=some {cls:=.type "list",data:=.seq its.toArray n}
 | .tup xs=>xs.length≤sizeLine∧∃ its:List Value,Vals xs its∧IsTup h a its.toArray
 | .dK kvs=>kvs.length≤sizeLine∧(a == sysModules)=false∧∃ vs,KV kvs vs∧h.DictOf (Z8 P w) a vs
 | .dT kvs=>kvs.length≤sizeLine∧(a == sysModules)=false∧∃ xs:List (List Key×Addr×Value),
   Paired (fun (p:List Key×V) (q:List Key×Addr×Value)=>p.1=q.1∧H q.2.1=some (.tup (p.1.map kV))∧RelV p.2 q.2.2) kvs xs∧
   ∃ o es ep,h.get? a=some o∧o.ExactDict∧o.data=.dict es ep∧es.toList=xs.map (entryOfKey (tupleKind (Z8 P w)))∧(xs.map (·.1)).Nodup
 | .set S n=>h.SetOf (intKind P w) a S n
 | .ins C dx fs=>H dx=some (.own a)∧fs.length≤1000∧dx≠a∧h.get? a=some (PySem.W.instObj C dx)∧
   ∃ mA,h.Ns1 dx mA∧(∀ f,RelO (fs.lookup f) (mA f))∧PySem.Within mA (fs.map (·.1))
 | .own _=>∃ o,h.get? a=some o
 | .xd fs=>∃ mA,h.Ns1 a mA∧∀ f,RelO (fs.lookup f) (mA f)
 | .rng lo hi=>∃ t u v,h.get? a=some {cls:=.type "range",data:=.fields #[.int lo t,.int hi u,.int 1 v]}
 | .frz o u=>h.get? a=some o∧ZaB H h a u
 | .tbl ps=>h.get? a=some {cls:=.none,data:=.fields ps}
 | .met f x=>h.get? a=some (PySem.W.methodObj (.ref f) (.ref x))
 | .ext φ=>φ h∧(∃ o,h.get? a=some o)∧∀ h1 h2:Heap,φ h1→(∀ o,h1.get? a=some o→h2.get? a=some o)→φ h2
def HOk (H:Hp) (h:Heap):Prop:=∀ a o,H a=some o→ZaB P w H h a o
end
section
variable {P:Program} {w:World} {H H':Hp} {h h':Heap} {a:Addr} {o:HO}
theorem ZaB.lt (x:ZaB P w H h a o):a < h.objs.size:=by
 cases o with
 | lst xs=>obtain ⟨_,_,_,_,e⟩:=x;exact Heap.lt_size e
 | tup xs=>obtain ⟨_,_,_,p⟩:=x;exact p.lt
 | dK kvs=>obtain ⟨_,_,_,_,o,_,_,e,_⟩:=x;exact Heap.lt_size e
 | dT kvs=>obtain ⟨_,_,_,_,o,_,_,e,_⟩:=x;exact Heap.lt_size e
 | set S n=>obtain ⟨o,_,_,_,e,_⟩:=x;exact Heap.lt_size e
 | ins C dx fs=>obtain ⟨_,_,_,e,_⟩:=x;exact Heap.lt_size e
 | own y=>obtain ⟨_,e⟩:=x;exact Heap.lt_size e
 | xd fs=>obtain ⟨_,⟨_,_,_,e,_⟩,_⟩:=x;exact Heap.lt_size e
 | rng lo hi=>obtain ⟨_,_,_,e⟩:=x;exact Heap.lt_size e
 | frz ob u=>obtain ⟨e,_⟩:=x;exact Heap.lt_size e
 | tbl ps=>exact Heap.lt_size (show h.get? a=some _ from x)
 | met f y=>exact Heap.lt_size (show h.get? a=some _ from x)
 | ext φ=>obtain ⟨_,⟨_,e⟩,_⟩:=x;exact Heap.lt_size e
theorem Paired.mapP {α β:Type} {F G:α→β→Prop}:∀ {l₁:List α} {l₂:List β},Paired F l₁ l₂→(∀ a b,F a b→G a b)→Paired G l₁ l₂
 | _,_,.nil,_=>.nil
 | _,_,.cons r t,f=>.cons (f _ _ r) (Paired.mapP t f)
theorem ZaB.stay (x:ZaB P w H h a o) (k:∀ b u,(b=a∨H b=some (.own a))→h.get? b=some u→h'.get? b=some u)
  (ho:∀ b,H b=some (.own a)→H' b=some (.own a)) (ht:∀ b xs,H b=some (.tup xs)→H' b=some (.tup xs)):ZaB P w H' h' a o:=by
 induction o with
 | lst xs=>obtain ⟨z,its,n,r,e⟩:=x;exact ⟨z,its,n,r,k _ _ (.inl rfl) e⟩
 | tup xs=>obtain ⟨z,its,r,ob,e,c⟩:=x;exact ⟨z,its,r,ob,k _ _ (.inl rfl) e,c⟩
 | dK kvs=>obtain ⟨z,y,vs,r,ob,es,ep,e,c⟩:=x;exact ⟨z,y,vs,r,ob,es,ep,k _ _ (.inl rfl) e,c⟩
 | dT kvs=>
  obtain ⟨z,y,xs,r,ob,es,ep,e,c⟩:=x
  exact ⟨z,y,xs,Paired.mapP r fun p q z=>⟨z.1,ht _ _ z.2.1,z.2.2⟩,ob,es,ep,k _ _ (.inl rfl) e,c⟩
 | set S n=>obtain ⟨ob,es,ep,t,e,c⟩:=x;exact ⟨ob,es,ep,t,k _ _ (.inl rfl) e,c⟩
 | ins C dx fs=>
  obtain ⟨d,z,ne,e,mA,⟨od,es,ep,e2,c⟩,r⟩:=x
  exact ⟨ho _ d,z,ne,k _ _ (.inl rfl) e,mA,⟨od,es,ep,k _ _ (.inr d) e2,c⟩,r⟩
 | own y=>obtain ⟨ob,e⟩:=x;exact ⟨ob,k _ _ (.inl rfl) e⟩
 | xd fs=>obtain ⟨mA,⟨od,es,ep,e,c⟩,r⟩:=x;exact ⟨mA,⟨od,es,ep,k _ _ (.inl rfl) e,c⟩,r⟩
 | rng lo hi=>obtain ⟨t,u,v,e⟩:=x;exact ⟨t,u,v,k _ _ (.inl rfl) e⟩
 | frz ob u ih=>obtain ⟨e,q⟩:=x;exact ⟨k _ _ (.inl rfl) e,ih q⟩
 | tbl ps=>
  have e:h.get? a=some {cls:=.none,data:=.fields ps}:=x
  show h'.get? a=some {cls:=.none,data:=.fields ps}
  exact k a _ (.inl rfl) e
 | met f y=>
  have e:h.get? a=some (PySem.W.methodObj (.ref f) (.ref y)):=x
  show h'.get? a=some (PySem.W.methodObj (.ref f) (.ref y))
  exact k a _ (.inl rfl) e
 | ext φ=>obtain ⟨p,⟨o,e⟩,st⟩:=x;exact ⟨st _ _ p fun o q=>k _ _ (.inl rfl) q,⟨o,k _ _ (.inl rfl) e⟩,st⟩
theorem HOk.lt (x:HOk P w H h) (e:H a=some o):a < h.objs.size:=(x a o e).lt
theorem HOk.fresh (x:HOk P w H h) (e:h.objs.size≤a):H a=none:=by
 cases q:H a with
 | none=>rfl
 | some u=>exact absurd (Nat.lt_of_lt_of_le (x.lt q) e) (Nat.lt_irrefl _)
theorem HOk.kept (x:HOk P w H h) (k:∀ b u,h.get? b=some u→h'.get? b=some u):HOk P w H h':=fun a o e=>
 (x a o e).stay (fun b u _ q=>k b u q) (fun _ q=>q) fun _ _ q=>q
theorem HOk.laid (x:HOk P w H h) (k:∀ b u,h.get? b=some u→h'.get? b=some u) (hp:h.objs.size≤a) (new:ZaB P w (upd H a o) h' a o):HOk P w (upd H a o) h':=fun b u e=>by
 have hn:=x.fresh hp
 by_cases hb:b=a
 ·subst hb;rw [Zb] at e;cases e;exact new
 ·rw [Zd hb] at e
  exact (x b u e).stay (fun c v _ q=>k c v q) (fun c q=>by rw [Zd (Zf q hn)];exact q) fun c xs q=>by rw [Zd (Zf q hn)];exact q
end
def Rd (H:Hp) (a:Addr) (u:HO):Prop:=H a=some u∨∃ o,H a=some (.frz o u)
theorem Rd.ok {P:Program} {w:World} {H:Hp} {h:Heap} {a:Addr} {u:HO} (r:Rd H a u) (x:HOk P w H h):ZaB P w H h a u:=by
 rcases r with r | ⟨o,r⟩
 ·exact x a u r
 ·obtain ⟨_,q⟩:=x a _ r
  exact q
def Mut:Option HO→Prop
 | some (.lst _)=>True
 | some (.dK _)=>True
 | some (.dT _)=>True
 | some (.set _ _)=>True
 | some (.ins _ _ _)=>True
 | some (.ext _)=>True
 | _=>False
section
variable {P:Program} {w:World} {H:Hp} {h h':Heap} {x e:Addr} {o':HO}
theorem HOk.write (ok:HOk P w H h) (mu:Mut (H x)) (he:e=x∨H e=some (.own x)) (k:∀ b u,b≠e→h.get? b=some u→h'.get? b=some u) (heo:∃ u,h'.get? e=some u)
  (new:ZaB P w (upd H x o') h' x o'):HOk P w (upd H x o') h':=fun b u q=>by
 have nown:∀ c y,H c=some (.own y)→c≠x:=fun c y r z=>by subst z;rw [r] at mu;exact mu
 have ntup:∀ c xs,H c=some (.tup xs)→c≠x:=fun c xs r z=>by subst z;rw [r] at mu;exact mu
 by_cases hb:b=x
 ·subst hb;rw [Zb] at q;cases q;exact new
 ·rw [Zd hb] at q
  by_cases hbe:b=e
  ·have q':H b=some (.own x):=by
    rcases he with z | z
    ·exact absurd (hbe.trans z) hb
    ·rw [hbe];exact z
   rw [q] at q';cases q'
   obtain ⟨v,hv⟩:=heo
   exact ⟨v,by rw [hbe];exact hv⟩
  ·refine (ok b u q).stay (fun c v hc r=>k c v ?_ r) (fun c r=>by rw [Zd (nown c b r)];exact r) fun c xs r=>by rw [Zd (ntup c xs r)];exact r
   rcases hc with rfl | hc
   ·exact hbe
   ·rintro rfl
    rcases he with z | z
    ·exact nown c b hc z
    ·rw [hc] at z;cases z;exact hb rfl
end
structure Un (fs ex:List Addr) (H H':Hp) (h h':Heap):Prop where
 keep:∀ b o,h.get? b=some o→H b=none→b ∉ fs→b ∉ ex→h'.get? b=some o
 slot:∀ b o,h.get? b=some o→H b=none→b∈fs→b ∉ ex→∃ sl,h'.get? b=some {o with slots:=sl}
 free:∀ b o,h.get? b=some o→H b=none→b ∉ ex→H' b=none
 there:∀ b o,h.get? b=some o→b ∉ ex→∃ o',h'.get? b=some o'
 tups:∀ b xs,H b=some (.tup xs)→H' b=some (.tup xs)
 frzs:∀ b o u,H b=some (.frz o u)→H' b=some (.frz o u)
 tbls:∀ b ps,H b=some (.tbl ps)→∃ more,H' b=some (.tbl (ps++more))
section
variable {fs fs' ex ex':List Addr} {H H1 H2:Hp} {h h1 h2 h':Heap} {a x e:Addr} {o:HO}
theorem Un.any (u:Un fs ex H H1 h h1) {b:Addr} {ob:Obj} (q:h.get? b=some ob) (n:H b=none) (hx:b ∉ ex):∃ sl,h1.get? b=some {ob with slots:=sl}:=by
 by_cases hb:b∈fs
 ·exact u.slot b ob q n hb hx
 ·exact ⟨ob.slots,u.keep b ob q n hb hx⟩
theorem Un.kept (k:∀ b u,h.get? b=some u→h'.get? b=some u):Un fs ex H H h h':=
 ⟨fun b ob q _ _ _=>k b ob q,fun b ob q _ _ _=>⟨ob.slots,k b ob q⟩,fun _ _ _ n _=>n,fun b ob q _=>⟨ob,k b ob q⟩,fun _ _ q=>q,fun _ _ _ q=>q,fun _ ps q=>⟨#[],by rw [q];simp⟩⟩
theorem Un.refl:Un fs ex H H h h:=Un.kept fun _ _ q=>q
theorem Un.laid (k:∀ b u,h.get? b=some u→h'.get? b=some u) (hp:h.objs.size≤a) (hn:H a=none):Un fs ex H (upd H a o) h h' where
 keep:=fun b u q _ _ _=>k b u q
 slot:=fun b u q _ _ _=>⟨u.slots,k b u q⟩
 free:=fun b u q n _=>by rw [Zd (Nat.ne_of_lt (Nat.lt_of_lt_of_le (Heap.lt_size q) hp))];exact n
 there:=fun b u q _=>⟨u,k b u q⟩
 tups:=fun b xs q=>by rw [Zd (Zf q hn)];exact q
 frzs:=fun b u xs q=>by rw [Zd (Zf q hn)];exact q
 tbls:=fun b ps q=>⟨#[],by rw [Zd (Zf q hn),q];simp⟩
theorem Un.write (mu:Mut (H x)) (he:e=x∨H e=some (.own x)) (k:∀ b u,b≠e→h.get? b=some u→h'.get? b=some u) (heo:∃ u,h'.get? e=some u):Un fs ex H (upd H x o) h h':=by
 have hx:∀ b,H b=none→b≠x:=fun b n z=>by subst z;rw [n] at mu;exact mu
 have hb:∀ b,H b=none→b≠e:=fun b n z=>by
  subst z
  rcases he with r | r
  ·exact hx b n r
  ·rw [n] at r;cases r
 have hm:∀ b u,H b=some u→¬ Mut (some u)→b≠x:=fun b u q nm z=>by subst z;rw [q] at mu;exact nm mu
 refine ⟨fun b u q n _ _=>k b u (hb b n) q,fun b u q n _ _=>⟨u.slots,k b u (hb b n) q⟩,fun b u q n _=>by rw [Zd (hx b n)];exact n,fun b u q _=>?_,
  fun b xs q=>by rw [Zd (hm b _ q fun z=>z)];exact q,fun b u xs q=>by rw [Zd (hm b _ q fun z=>z)];exact q,fun b ps q=>⟨#[],by rw [Zd (hm b _ q fun z=>z),q];simp⟩⟩
 by_cases hbe:b=e
 ·subst hbe;exact heo
 ·exact ⟨u,k b u hbe q⟩
end
def trk (h:Heap) (H:Hp):List Addr:=(List.range h.objs.size).filter fun a=>(H a).isSome
def hidT (h:Heap) (H:Hp):Heap:=PySem.W.hideAll h (trk h H)
theorem ZLO (h:Heap) (H:Hp):(hidT h H).objs.size=h.objs.size:=PySem.W.hideAll_size _ _
theorem ZNK {h:Heap} {H:Hp} {b:Addr} {o:Obj} (e:h.get? b=some o) (n:H b=none):(hidT h H).get? b=some o:=
 PySem.W.hideAll_get _ e fun hm=>by
  have q:(H b).isSome=true:=(List.mem_filter.mp hm).2
  rw [n] at q;simp at q
theorem ZPz {h:Heap} {H:Hp} {b:Addr} {o:Obj} (e:(hidT h H).get? b=some o):h.get? b=some o∧H b=none:=by
 have e':h.get? b=some o:=PySem.W.of_hideAll (trk h H) e
 refine ⟨e',?_⟩
 cases q:H b with
 | none=>rfl
 | some x=>
  have hm:b∈trk h H:=List.mem_filter.mpr ⟨List.mem_range.mpr (Heap.lt_size e'),by simp [q]⟩
  have z:(hidT h H).get? b=none:=PySem.W.hideAll_none (trk h H) hm
  rw [z] at e;cases e
end L2
namespace L2
open PySem PySem.Spec PyProof.Rows
structure Mod (K:PySem.W.Frag) (mg:Str→Option Value) (base:Heap):Prop where
 kin:K.In base
 glob:base.Ns mainGlobals mg
 blt:∃ mb,base.Ns builtinsNs mb∧∀ x:Str,x≠"__name__"→mb x=bootBuiltins x
 nolimit:base.NoLimit
structure Cx where
 prog:Program
 w:World
 K:PySem.W.Frag
 mg:Str→Option Value
 base:Heap
 A:Around
 N:List Str
 s₀:Shared
 H₀:Hp
 env:Env
 outer:List Env
 stack:List Env
 ex:List Addr
 fn:Str→Bool
 calm:Bool
 pn:List (Addr×Obj)
 xe:Value→Shared→Prop
def frs (l:List Env):List Addr:=l.filterMap (·.frame)
abbrev Cx.fs (X:Cx):List Addr:=frs X.outer
def Vis (sc:Scope) (x:Str):Prop:=sc.names.lookup x=some .local∨sc.names.lookup x=some .cell∨sc.names.lookup x=some .free
def Loc (sc:Scope) (x:Str):Prop:=sc.names.lookup x=some .local∨sc.names.lookup x=some .cell
def Look (env:Env) (h:Heap) (m:Str→Option Value) (x:Str) (u:Value):Prop:=
 (env.kindOf x=some .local∧m x=some u)∨((env.kindOf x=some .cell∨env.kindOf x=some .free)∧∃ c,env.cells.lookup x=some c∧h.IsCell c (some u))
structure Cx.Ok (X:Cx):Prop where
 mod:Mod X.K X.mg X.base
 kind:X.env.scope.kind=.function
 glob:X.env.globals=mainGlobals
 blt:X.env.builtins=builtinsNs
 above:X.s₀.heap.objs.size≤X.env.locals
 inj:∀ x y c,X.env.cells.lookup x=some c→X.env.cells.lookup y=some c→x=y
 has:∀ x,(X.env.kindOf x=some .cell∨X.env.kindOf x=some .free)→∃ c,X.env.cells.lookup x=some c
 cab:∀ x c,X.fn x=true→X.env.cells.lookup x=some c→X.s₀.heap.objs.size≤c
 hd:X.calm=true→X.A.handled=none
 frames:X.A.frames=some X.stack
 stk:X.stack=X.outer∨(X.stack=X.env::X.outer∧X.env.frame=some X.env.locals)
 exf:∀ b∈X.ex,b≠X.env.locals∧∀ x c,X.env.cells.lookup x=some c→c≠b
 bs:∀ b o,X.base.get? b=some o→X.s₀.heap.get? b=some o∧X.H₀ b=none
 bsz:X.base.objs.size≤X.s₀.heap.objs.size
 noex:∀ b o,X.base.get? b=some o→b ∉ X.ex
 exfs:∀ b∈X.ex,b ∉ X.fs
 funs:X.s₀.heap.FunFrames X.base X.outer
 frf:∀ b∈X.fs,X.H₀ b=none
structure Inv (X:Cx) (pins:List (Addr×Obj)) (σ:List (Option V)) (H:Hp) (s:Shared):Prop where
 ok:X.Ok
 os:s.os=X.s₀.os
 bare:AllBare s.gens
 base:Un X.fs X.ex X.H₀ H X.s₀.heap s.heap
 loc:∃ m,s.heap.Ns X.env.locals m∧∀ (i:Nat) (x:Str) (v:V),X.N[i]?=some x→σ[i]?=some (some v)→Vis X.env.scope x→∃ u,RelV v u∧Look X.env s.heap m x u
 cell:∀ x c,X.env.cells.lookup x=some c→∃ v,s.heap.IsCell c v
 free:H X.env.locals=none
 freeC:∀ x c,X.env.cells.lookup x=some c→H c=none
 pin:∀ p∈X.pn++pins,s.heap.get? p.1=some p.2∧H p.1=none∧p.1≠X.env.locals∧p.1 ∉ X.fs∧∀ v,p.2.data≠.cell v
 hok:HOk X.prog X.w H s.heap
 len:σ.length=X.N.length
section
variable {X:Cx} {pins:List (Addr×Obj)} {σ:List (Option V)} {H H':Hp} {s:Shared} {h':Heap}
theorem Cx.Ok.nofr (ok:X.Ok) {b:Addr} {o:Obj} (e:X.base.get? b=some o):b ∉ X.fs:=fun hb=>by
 have:=(ok.funs.mem hb).1
 rw [e] at this;cases this
theorem Inv.bs (I:Inv X pins σ H s):∀ b o,X.base.get? b=some o→s.heap.get? b=some o∧H b=none:=fun b o e=>
 ⟨I.base.keep b o (I.ok.bs b o e).1 (I.ok.bs b o e).2 (I.ok.nofr e) (I.ok.noex b o e),I.base.free b o (I.ok.bs b o e).1 (I.ok.bs b o e).2 (I.ok.noex b o e)⟩
theorem Inv.bk (I:Inv X pins σ H s):∀ b o,X.base.get? b=some o→s.heap.get? b=some o:=fun b o e=>(I.bs b o e).1
theorem Inv.mod (I:Inv X pins σ H s):Mod X.K X.mg X.base:=I.ok.mod
theorem Inv.kIn (I:Inv X pins σ H s):X.K.In s.heap:=I.ok.mod.kin.keeps I.bk
theorem Inv.lt (I:Inv X pins σ H s):X.env.locals < s.heap.objs.size:=let ⟨_,hn,_⟩:=I.loc;hn.lt
theorem Inv.sz (I:Inv X pins σ H s):X.s₀.heap.objs.size≤s.heap.objs.size:=Nat.le_trans I.ok.above (Nat.le_of_lt I.lt)
theorem Inv.nofs (I:Inv X pins σ H s) {a:Addr} (h:s.heap.objs.size≤a):a ∉ X.fs:=fun hb=>by
 obtain ⟨_,o,ho,_⟩:=I.ok.funs.mem hb
 exact absurd (Nat.lt_of_lt_of_le (Heap.lt_size ho) (Nat.le_trans I.sz h)) (Nat.lt_irrefl _)
theorem Inv.cne (I:Inv X pins σ H s):∀ x c,X.env.cells.lookup x=some c→c≠X.env.locals:=fun x c e z=>by
 obtain ⟨v,o,ho,hd⟩:=I.cell x c e
 obtain ⟨m,⟨o',es,ep,ho',hd',_⟩,_⟩:=I.loc
 rw [z,ho'] at ho;cases ho;rw [hd'] at hd;cases hd
theorem Inv.funs (I:Inv X pins σ H s):s.heap.FunFrames X.base X.outer:=by
 have all:∀ (l:List Env),(∀ b∈frs l,b∈X.fs)→X.s₀.heap.FunFrames X.base l→s.heap.FunFrames X.base l:=by
  intro l
  induction l with
  | nil=>intro _ _;trivial
  | cons env r ih=>
   intro hs hl
   obtain ⟨hk,⟨L,o,hf,hn,ho,hd⟩,hr⟩:=hl
   have hL:L∈X.fs:=hs L (by unfold frs;rw [List.filterMap_cons,hf];exact List.mem_cons_self)
   obtain ⟨sl,e⟩:=I.base.slot L o ho (I.ok.frf L hL) hL fun z=>I.ok.exfs L z hL
   exact ⟨hk,⟨L,_,hf,hn,e,hd⟩,ih (fun b hb=>hs b (by unfold frs;rw [List.filterMap_cons,hf];exact List.mem_cons_of_mem _ hb)) hr⟩
 exact all X.outer (fun _ hb=>hb) I.ok.funs
theorem Inv.stack (I:Inv X pins σ H s):s.heap.FunFrames X.base X.stack:=by
 rcases I.ok.stk with e | ⟨e,hf⟩
 ·rw [e];exact I.funs
 ·rw [e]
  obtain ⟨m,hn,_⟩:=I.loc
  refine .cons (by rw [I.ok.kind];decide) hf hn ?_ I.funs
  exact Heap.get?_none_of_le (Nat.le_trans I.ok.bsz I.ok.above)
theorem Inv.stkSub (I:Inv X pins σ H s):∀ b∈frs X.stack,b∈X.env.locals::X.fs:=fun b hb=>by
 rcases I.ok.stk with e | ⟨e,hf⟩
 ·rw [e] at hb;exact List.mem_cons_of_mem _ hb
 ·rw [e] at hb
  unfold frs at hb
  rw [List.filterMap_cons,hf] at hb
  exact hb
theorem Inv.stkFree (I:Inv X pins σ H s):∀ b∈frs X.stack,H b=none:=fun b hb=>by
 rcases List.mem_cons.mp (I.stkSub b hb) with e | hb
 ·rw [e];exact I.free
 ·obtain ⟨_,o,ho,_⟩:=I.ok.funs.mem hb
  exact I.base.free b o ho (I.ok.frf b hb) fun z=>I.ok.exfs b z hb
theorem Inv.step {g':Array GenState} {t':Nat} {d':Drawn} {ch:List Addr} (I:Inv X pins σ H s)
  (hch:∀ b∈ch,(b∈X.ex∨X.s₀.heap.objs.size≤b)∧b≠X.env.locals∧(∀ x c,X.env.cells.lookup x=some c→c≠b)∧∀ p∈X.pn++pins,p.1≠b)
  (keep:∀ b o,b≠X.env.locals→b ∉ X.fs→b ∉ ch→s.heap.get? b=some o→H b=none→h'.get? b=some o)
  (slot:∀ b o,b≠X.env.locals→b∈X.fs→b ∉ ch→s.heap.get? b=some o→H b=none→∃ sl,h'.get? b=some {o with slots:=sl}) (free:∀ b o,b ∉ ch→s.heap.get? b=some o→H b=none→H' b=none)
  (there:∀ b o,b ∉ ch→s.heap.get? b=some o→∃ o',h'.get? b=some o')
  (tups:∀ b xs,H b=some (.tup xs)→H' b=some (.tup xs)) (frzs:∀ b o u,H b=some (.frz o u)→H' b=some (.frz o u)) (tbls:∀ b ps,H b=some (.tbl ps)→∃ more,H' b=some (.tbl (ps++more)))
  (ns:∀ m,s.heap.Ns X.env.locals m→h'.Ns X.env.locals m) (hok:HOk X.prog X.w H' h') (hg:AllBare g') :
  Inv X pins σ H' {s with heap:=h',gens:=g',drawn:=d',toks:=t'}:=by
 have neL:∀ b o,X.s₀.heap.get? b=some o→b≠X.env.locals:=fun b o e=>Nat.ne_of_lt (Nat.lt_of_lt_of_le (Heap.lt_size e) I.ok.above)
 have neC:∀ b o,X.s₀.heap.get? b=some o→b ∉ X.ex→b ∉ ch:=fun b o e hx hb=>by
  rcases (hch b hb).1 with z | z
  ·exact hx z
  ·exact absurd (Nat.lt_of_lt_of_le (Heap.lt_size e) z) (Nat.lt_irrefl _)
 have cellK:∀ x c,X.env.cells.lookup x=some c→∀ v,s.heap.IsCell c v→h'.IsCell c v:=fun x c e v ⟨o,ho,hd⟩=>by
  have nch:c ∉ ch:=fun z=>(hch c z).2.2.1 x c e rfl
  by_cases hc:c∈X.fs
  ·obtain ⟨sl,q⟩:=slot c o (I.cne x c e) hc nch ho (I.freeC x c e)
   exact ⟨_,q,hd⟩
  ·exact ⟨o,keep c o (I.cne x c e) hc nch ho (I.freeC x c e),hd⟩
 refine ⟨I.ok,I.os,hg,⟨fun b o e n hb hx=>?_,fun b o e n hb hx=>?_,fun b o e n hx=>?_,fun b o e hx=>?_,fun b xs e=>tups b xs (I.base.tups b xs e),fun b o xs e=>frzs b o xs (I.base.frzs b o xs e),fun b ps e=>?_⟩,?_,fun x c e=>?_,?_,fun x c e=>?_,fun p hp=>?_,hok,I.len⟩
 ·exact keep b o (neL b o e) hb (neC b o e hx) (I.base.keep b o e n hb hx) (I.base.free b o e n hx)
 ·obtain ⟨sl,e1⟩:=I.base.slot b o e n hb hx
  obtain ⟨sl',e2⟩:=slot b _ (neL b o e) hb (neC b o e hx) e1 (I.base.free b o e n hx)
  exact ⟨sl',e2⟩
 ·obtain ⟨o',e1⟩:=I.base.there b o e hx
  exact free b o' (neC b o e hx) e1 (I.base.free b o e n hx)
 ·obtain ⟨o',e1⟩:=I.base.there b o e hx
  exact there b o' (neC b o e hx) e1
 ·obtain ⟨m1,e1⟩:=I.base.tbls b ps e
  obtain ⟨m2,e2⟩:=tbls b _ e1
  exact ⟨m1++m2,by rw [e2,Array.append_assoc]⟩
 ·obtain ⟨m,hn,hl⟩:=I.loc
  refine ⟨m,ns m hn,fun i x v e1 e2 e3=>?_⟩
  obtain ⟨u,r,l⟩:=hl i x v e1 e2 e3
  refine ⟨u,r,?_⟩
  rcases l with l | ⟨k,c,e,z⟩
  ·exact .inl l
  ·exact .inr ⟨k,c,e,cellK x c e _ z⟩
 ·obtain ⟨v,z⟩:=I.cell x c e
  exact ⟨v,cellK x c e v z⟩
 ·obtain ⟨m,⟨o,_,_,ho,_⟩,_⟩:=I.loc
  exact free _ o (fun z=>(hch _ z).2.1 rfl) ho I.free
 ·obtain ⟨v,o,ho,hd⟩:=I.cell x c e
  exact free c o (fun z=>(hch c z).2.2.1 x c e rfl) ho (I.freeC x c e)
 ·obtain ⟨e,n,ne,nf,d⟩:=I.pin p hp
  have nch:p.1 ∉ ch:=fun z=>(hch p.1 z).2.2.2 p hp rfl
  exact ⟨keep p.1 p.2 ne nf nch e n,free p.1 p.2 nch e n,ne,nf,d⟩
theorem Inv.un {t':Nat} (I:Inv X pins σ H s) (u:Un X.fs [] H H' s.heap h') (hok:HOk X.prog X.w H' h'):Inv X pins σ H' {s with heap:=h',toks:=t'}:=by
 obtain ⟨m,⟨o,es,ep,ho,r⟩,_⟩:=id I.loc
 obtain ⟨sl,hL⟩:=u.any ho I.free (by simp)
 exact I.step (g':=s.gens) (d':=s.drawn) (ch:=[]) (fun _ z=>nomatch z) (fun b o _ hb _ e n=>u.keep b o e n hb (by simp)) (fun b o _ hb _ e n=>u.slot b o e n hb (by simp)) (fun b o _ e n=>u.free b o e n (by simp)) (fun b o _ e=>u.there b o e (by simp)) u.tups u.frzs u.tbls (fun m' hm=>by
  obtain ⟨o',es',ep',ho',r'⟩:=hm
  rw [ho] at ho';cases ho'
  exact ⟨_,es',ep',hL,r'⟩) hok I.bare
theorem Inv.call {g':Array GenState} {t':Nat} {d':Drawn} {ch:List Addr} (I:Inv X pins σ H s) (u:Un (frs X.stack) ch H H' s.heap h') (hok:HOk X.prog X.w H' h') (hg:AllBare g')
  (hch:∀ b∈ch,(b∈X.ex∨X.s₀.heap.objs.size≤b)∧b≠X.env.locals∧(∀ x c,X.env.cells.lookup x=some c→c≠b)∧∀ p∈X.pn++pins,p.1≠b) :
  Inv X pins σ H' {s with heap:=h',gens:=g',drawn:=d',toks:=t'}:=by
 obtain ⟨m,⟨o,es,ep,ho,r⟩,_⟩:=id I.loc
 obtain ⟨sl,hL⟩:=u.any ho I.free fun z=>(hch _ z).2.1 rfl
 exact I.step (ch:=ch) hch (fun b o hL hb hc e n=>u.keep b o e n (fun z=>(List.mem_cons.mp (I.stkSub b z)).elim hL hb) hc) (fun b o _ _ hc e n=>u.any e n hc) (fun b o hc e n=>u.free b o e n hc) (fun b o hc e=>u.there b o e hc) u.tups u.frzs u.tbls (fun m' hm=>by
  obtain ⟨o',es',ep',ho',r'⟩:=hm
  rw [ho] at ho';cases ho'
  exact ⟨_,es',ep',hL,r'⟩) hok hg
theorem Inv.turned {t':Nat} {it:Addr} (I:Inv X pins σ H s) (k:∀ b o,b≠it→s.heap.get? b=some o→h'.get? b=some o) (hn:H it=none) (hL:it≠X.env.locals)
  (h1:it∈X.ex∨X.s₀.heap.objs.size≤it) (h2:∀ x c,X.env.cells.lookup x=some c→c≠it) (h3:∀ p∈X.pn++pins,p.1≠it):Inv X pins σ H {s with heap:=h',toks:=t'}:=by
 have nit:∀ b u,H b=some u→b≠it:=fun b u e z=>by rw [z,hn] at e;cases e
 refine I.step (g':=s.gens) (d':=s.drawn) (ch:=[it]) (fun b hb=>?_) (fun b o _ _ hc e _=>k b o (fun z=>hc (by simp [z])) e) (fun b o _ _ hc e _=>⟨o.slots,k b o (fun z=>hc (by simp [z])) e⟩) (fun _ _ _ _ n=>n)
  (fun b o hc e=>⟨o,k b o (fun z=>hc (by simp [z])) e⟩) (fun _ _ e=>e) (fun _ _ _ e=>e) (fun b ps e=>⟨#[],by rw [e];simp⟩) (fun m hm=>?_) (fun b u e=>?_) I.bare
 ·have e:b=it:=by simpa using hb
  subst e
  exact ⟨h1,hL,h2,h3⟩
 ·obtain ⟨o,es,ep,ho,r⟩:=hm
  exact ⟨o,es,ep,k _ o (Ne.symm hL) ho,r⟩
 ·refine (I.hok b u e).stay (fun c v hc q=>k c v ?_ q) (fun _ q=>q) fun _ _ q=>q
  rcases hc with z | z
  ·rw [z];exact nit b u e
  ·exact nit c _ z
theorem Inv.tok (I:Inv X pins σ H s) (t:Nat):Inv X pins σ H {s with toks:=t}:=I.un (h':=s.heap) (t':=t) Un.refl I.hok
theorem Inv.kept {t':Nat} (I:Inv X pins σ H s) (k:∀ b u,s.heap.get? b=some u→h'.get? b=some u):Inv X pins σ H {s with heap:=h',toks:=t'}:=I.un (Un.kept k) (I.hok.kept k)
theorem Inv.laid {a:Addr} {o:HO} {t':Nat} (I:Inv X pins σ H s) (k:∀ b u,s.heap.get? b=some u→h'.get? b=some u) (hp:s.heap.objs.size≤a) (new:ZaB X.prog X.w (upd H a o) h' a o) :
  Inv X pins σ (upd H a o) {s with heap:=h',toks:=t'}:=I.un (Un.laid k hp (I.hok.fresh hp)) (I.hok.laid k hp new)
theorem Inv.write {x e:Addr} {o:HO} {t':Nat} (I:Inv X pins σ H s) (mu:Mut (H x)) (he:e=x∨H e=some (.own x)) (k:∀ b u,b≠e→s.heap.get? b=some u→h'.get? b=some u) (heo:∃ u,h'.get? e=some u)
  (new:ZaB X.prog X.w (upd H x o) h' x o):Inv X pins σ (upd H x o) {s with heap:=h',toks:=t'}:=I.un (Un.write mu he k heo) (I.hok.write mu he k heo new)
theorem Inv.pins_of {pins':List (Addr×Obj)} (I:Inv X pins σ H s) (h:∀ p∈pins',s.heap.get? p.1=some p.2∧H p.1=none∧p.1≠X.env.locals∧p.1 ∉ X.fs∧∀ v,p.2.data≠.cell v):Inv X pins' σ H s:=
 ⟨I.ok,I.os,I.bare,I.base,I.loc,I.cell,I.free,I.freeC,fun p hp=>(List.mem_append.mp hp).elim (fun z=>I.pin p (List.mem_append_left _ z)) (h p),I.hok,I.len⟩
theorem ZAs {N:List Str} (hN:N.Nodup) {i j:Nat} {x:Str} (a:N[i]?=some x) (b:N[j]?=some x):i=j:=by
 obtain ⟨h1,e1⟩:=List.getElem?_eq_some_iff.mp a
 obtain ⟨h2,e2⟩:=List.getElem?_eq_some_iff.mp b
 exact (List.getElem_inj hN).mp (e1.trans e2.symm)
theorem ZB4 {M:Model} {A:Around} {E:Value→Shared→Prop} {i:Nat} {x:Str} {v:V} {u:Value} {Q:Unit→Shared→Prop} (I:Inv X pins σ H s) (hN:X.N.Nodup) (hi:X.N[i]?=some x) (hx:Loc X.env.scope x) (r:RelV v u)
  (h:∀ s',Inv X pins (σ.set i (some v)) H s'→(∃ a,Heap.SameBut a s.heap s'.heap∧(a=X.env.locals∨X.env.cells.lookup x=some a))→Q () s') (hf:X.fn x=true∨X.env.scope.names.lookup x=some .local:=by first | exact .inl rfl | exact .inr rfl | assumption):wpAny M A (storeName X.env x u) Q E s:=by
 obtain ⟨m,hn,hl⟩:=id I.loc
 have hcls:(X.env.scope.kind == .class || (X.env.scope.kind == .module && X.env.locals != X.env.globals))=false:=by rw [I.ok.kind];rfl
 have hiσ:i < σ.length:=by rw [I.len];exact (List.getElem?_eq_some_iff.mp hi).1
 have cne:=I.cne
 have tracked:∀ {a:Addr} {h':Heap},(∃ o,s.heap.get? a=some o∧H a=none)→Heap.SameBut a s.heap h'→HOk X.prog X.w H h':=fun {a h'} ha hs b ob e=>by
  obtain ⟨_,_,hfree⟩:=ha
  refine (I.hok b ob e).stay (fun c w' hc q=>(hs.2 c ?_).trans q) (fun _ q=>q) fun _ _ q=>q
  rintro rfl
  rcases hc with rfl | hc
  ·rw [hfree] at e;cases e
  ·rw [hfree] at hc;cases hc
 rcases hx with hk | hk
 ·refine wpAny_storeName_local hk hn (fun h' hn' hs=>?_) hcls
  obtain ⟨oL,_,_,hoL,_⟩:=id hn
  refine h _ ⟨I.ok,I.os,I.bare,⟨fun b o e n hb hx=>?_,fun b o e n hb hx=>?_,I.base.free,fun b o e hx=>?_,I.base.tups,I.base.frzs,I.base.tbls⟩,⟨_,hn',fun j y v' e1 e2 e3=>?_⟩,fun y c e=>?_,I.free,I.freeC,fun p hp=>?_,tracked ⟨oL,hoL,I.free⟩ hs,by simpa using I.len⟩ ⟨_,hs,.inl rfl⟩
  ·exact (hs.2 b (Nat.ne_of_lt (Nat.lt_of_lt_of_le (Heap.lt_size e) I.ok.above))).trans (I.base.keep b o e n hb hx)
  ·obtain ⟨sl,e1⟩:=I.base.slot b o e n hb hx
   exact ⟨sl,(hs.2 b (Nat.ne_of_lt (Nat.lt_of_lt_of_le (Heap.lt_size e) I.ok.above))).trans e1⟩
  ·obtain ⟨o',e1⟩:=I.base.there b o e hx
   exact ⟨o',(hs.2 b (Nat.ne_of_lt (Nat.lt_of_lt_of_le (Heap.lt_size e) I.ok.above))).trans e1⟩
  ·by_cases hj:j=i
   ·subst hj
    rw [hi] at e1;cases e1
    rw [List.getElem?_set_self hiσ] at e2
    cases e2
    exact ⟨u,r,.inl ⟨hk,by simp⟩⟩
   ·rw [List.getElem?_set_ne (Ne.symm hj)] at e2
    obtain ⟨u',r',q⟩:=hl j y v' e1 e2 e3
    refine ⟨u',r',?_⟩
    rcases q with ⟨k,e⟩ | ⟨k,c,e,z⟩
    ·refine .inl ⟨k,?_⟩
     have:y≠x:=fun e=>hj (ZAs hN e1 (e ▸ hi))
     simp [this,e]
    ·exact .inr ⟨k,c,e,z.sameBut hs (cne y c e)⟩
  ·obtain ⟨w',z⟩:=I.cell y c e
   exact ⟨w',z.sameBut hs (cne y c e)⟩
  ·obtain ⟨e,n,ne,nf,d⟩:=I.pin p hp
   exact ⟨(hs.2 p.1 ne).trans e,n,ne,nf,d⟩
 ·have hfn:X.fn x=true:=by
   rcases hf with z | z
   ·exact z
   ·rw [z] at hk;cases hk
  obtain ⟨c,hc⟩:=I.ok.has x (.inl hk)
  obtain ⟨w',z⟩:=I.cell x c hc
  refine wpAny_storeName_cell I.ok.kind hk hc z (fun h' hc' hs=>?_)
  obtain ⟨oc,hoc,hocd⟩:=id z
  refine h {s with heap:=h'} ⟨I.ok,I.os,I.bare,⟨fun b o e n hb hx=>?_,fun b o e n hb hx=>?_,I.base.free,fun b o e hx=>?_,I.base.tups,I.base.frzs,I.base.tbls⟩,⟨m,hn.sameBut hs (Ne.symm (cne x c hc)),fun j y v' e1 e2 e3=>?_⟩,fun y c' e=>?_,I.free,I.freeC,fun p hp=>?_,tracked ⟨oc,hoc,I.freeC x c hc⟩ hs,by simpa using I.len⟩ ⟨c,hs,.inr hc⟩
  ·exact (hs.2 b (Nat.ne_of_lt (Nat.lt_of_lt_of_le (Heap.lt_size e) (I.ok.cab x c hfn hc)))).trans (I.base.keep b o e n hb hx)
  ·obtain ⟨sl,e1⟩:=I.base.slot b o e n hb hx
   exact ⟨sl,(hs.2 b (Nat.ne_of_lt (Nat.lt_of_lt_of_le (Heap.lt_size e) (I.ok.cab x c hfn hc)))).trans e1⟩
  ·obtain ⟨o',e1⟩:=I.base.there b o e hx
   exact ⟨o',(hs.2 b (Nat.ne_of_lt (Nat.lt_of_lt_of_le (Heap.lt_size e) (I.ok.cab x c hfn hc)))).trans e1⟩
  ·by_cases hj:j=i
   ·subst hj
    rw [hi] at e1;cases e1
    rw [List.getElem?_set_self hiσ] at e2
    cases e2
    exact ⟨u,r,.inr ⟨.inl hk,c,hc,hc'⟩⟩
   ·rw [List.getElem?_set_ne (Ne.symm hj)] at e2
    obtain ⟨u',r',q⟩:=hl j y v' e1 e2 e3
    refine ⟨u',r',?_⟩
    rcases q with q | ⟨k,c',e,z'⟩
    ·exact .inl q
    ·refine .inr ⟨k,c',e,z'.sameBut hs ?_⟩
     rintro rfl
     exact hj (ZAs hN e1 (I.ok.inj _ _ _ e hc ▸ hi))
  ·by_cases hcc:c'=c
   ·subst hcc;exact ⟨_,hc'⟩
   ·obtain ⟨w2,z2⟩:=I.cell y c' e
    exact ⟨w2,z2.sameBut hs hcc⟩
  ·obtain ⟨e,n,ne,nf,d⟩:=I.pin p hp
   refine ⟨(hs.2 p.1 ?_).trans e,n,ne,nf,d⟩
   intro q
   rw [q,hoc] at e
   have q':oc=p.2:=Option.some.inj e
   exact d w' (by rw [← q'];exact hocd)
theorem ZyK {M:Model} {A:Around} {E:Value→Shared→Prop} {i:Nat} {x:Str} {v:V} {u:Value} {Q:Unit→Shared→Prop} (I:Inv X pins σ H s) (hN:X.N.Nodup) (hi:X.N[i]?=some x) (hx:Loc X.env.scope x) (r:RelV v u)
  (h:∀ s',Inv X pins (σ.set i (some v)) H s'→Q () s') (hf:X.fn x=true∨X.env.scope.names.lookup x=some .local:=by first | exact .inl rfl | exact .inr rfl | assumption):wpAny M A (storeName X.env x u) Q E s:=
 ZB4 I hN hi hx r (fun s' I' _=>h s' I') hf
theorem Inv.call' {s':Shared} {ch:List Addr} (I:Inv X pins σ H s) (ho:s'.os=s.os) (u:Un (frs X.stack) ch H H' s.heap s'.heap) (hok:HOk X.prog X.w H' s'.heap) (hg:AllBare s'.gens)
  (hch:∀ b∈ch,(b∈X.ex∨X.s₀.heap.objs.size≤b)∧b≠X.env.locals∧(∀ x c,X.env.cells.lookup x=some c→c≠b)∧∀ p∈X.pn++pins,p.1≠b):Inv X pins σ H' s':=by
 obtain ⟨h',g',d',t',o'⟩:=s'
 have e:o'=s.os:=ho
 subst e
 exact I.call (g':=g') (t':=t') (d':=d') u hok hg hch
end
abbrev XK:=Value→Option Addr→Hp→Prop
abbrev St:=List (Option V)
abbrev VK:=V→Hp→Prop
abbrev TE:=St→Hp→VK→Prop
abbrev TT:=St→Hp→(Bool→Hp→Prop)→Prop
abbrev TA:=St→Hp→(List V→Hp→Prop)→Prop
structure Ends where
 nx:St→Hp→Prop
 rt:VK
 bk:St→Hp→Prop:=fun _ _=>False
 ct:St→Hp→Prop:=fun _ _=>False
abbrev TS:=Ends→St→Hp→Prop
def EP (X:Cx) (pins:List (Addr×Obj)) (σ:St) (Q:VK) (u:Value) (s':Shared):Prop:=∃ v H',Inv X pins σ H' s'∧RelV v u∧Q v H'
def TP (X:Cx) (pins:List (Addr×Obj)) (σ:St) (Q:Bool→Hp→Prop) (b:Bool) (s':Shared):Prop:=∃ H',Inv X pins σ H' s'∧Q b H'
def AP (X:Cx) (pins:List (Addr×Obj)) (σ:St) (Q:List V→Hp→Prop) (us:List Value) (s':Shared):Prop:=∃ vs H',Inv X pins σ H' s'∧Vals vs us∧Q vs H'
def SP (X:Cx) (pins:List (Addr×Obj)) (D:Ends) (f:Flow) (s':Shared):Prop:=
 match f with
 | .next=>∃ σ' H',Inv X pins σ' H' s'∧D.nx σ' H'
 | .brk=>∃ σ' H',Inv X pins σ' H' s'∧D.bk σ' H'
 | .cont=>∃ σ' H',Inv X pins σ' H' s'∧D.ct σ' H'
 | .ret u=>∃ v σ' H',Inv X pins σ' H' s'∧RelV v u∧D.rt v H'
@[irreducible] def PE (X:Cx) (e:Expr) (t:TE):Prop:=
 ∀ (pins:List (Addr×Obj)) (s:Shared) (σ:St) (H:Hp) (Q:VK),Inv X pins σ H s→t σ H Q→wpAny (model X.prog X.w) X.A (eval e X.env) (EP X pins σ Q) X.xe s
def PT (X:Cx) (e:Expr) (t:TT):Prop:=
 ∀ (pins:List (Addr×Obj)) (s:Shared) (σ:St) (H:Hp) (Q:Bool→Hp→Prop),Inv X pins σ H s→t σ H Q→wpAny (model X.prog X.w) X.A (isTrue e X.env (eval e X.env)) (TP X pins σ Q) X.xe s
def PW (X:Cx) (e:Expr) (t:TT):Prop:=
 ∀ (whole:Sem Value) (pins:List (Addr×Obj)) (s:Shared) (σ:St) (H:Hp) (Q:Bool→Hp→Prop),Inv X pins σ H s→t σ H Q→wpAny (model X.prog X.w) X.A (isTrue e X.env whole) (TP X pins σ Q) X.xe s
theorem PW.pt {X:Cx} {e:Expr} {t:TT} (h:PW X e t):PT X e t:=h _
@[irreducible] def PA (X:Cx) (es:List Expr) (t:TA):Prop:=
 ∀ (pos:Pos) (pins:List (Addr×Obj)) (s:Shared) (σ:St) (H:Hp) (Q:List V→Hp→Prop),Inv X pins σ H s→t σ H Q→wpAny (model X.prog X.w) X.A (spliced (backTo pos (starEach es X.env))) (AP X pins σ Q) X.xe s
@[irreducible] def PS (X:Cx) (st:Stmt) (t:TS):Prop:=
 ∀ (pins:List (Addr×Obj)) (s:Shared) (σ:St) (H:Hp) (D:Ends),Inv X pins σ H s→t D σ H→wpAny (model X.prog X.w) X.A (exec st X.env) (SP X pins D) X.xe s
@[irreducible] def PSs (X:Cx) (st:List Stmt) (t:TS):Prop:=
 ∀ (pins:List (Addr×Obj)) (s:Shared) (σ:St) (H:Hp) (D:Ends),Inv X pins σ H s→t D σ H→wpAny (model X.prog X.w) X.A (execs st X.env) (SP X pins D) X.xe s
theorem thn {α:Type} {t:Sem α} {Q Q':α→Shared→Prop} {M:Model} {A:Around} {E:Value→Shared→Prop} {s:Shared} (h:wpAny M A t Q E s) (hQ:∀ a s,Q a s→Q' a s):wpAny M A t Q' E s:=wpAny_mono h hQ fun _ _ x=>x
end L2
namespace L2
open PySem PySem.Spec PyProof.Rows
section
variable {X:Cx}
def tVar (i:Nat):TE:=fun σ H Q=>∃ v,σ[i]?=some (some v)∧Q v H
def tC (v:V):TE:=fun _ H Q=>Q v H
theorem ZQX {i:Nat} {x:Str} {pos:Pos} (hN:X.N[i]?=some x) (hv:Vis X.env.scope x) (hd:(x == ("__debug__":Str))=false:=by decide) (hcd:(x == ("__classdict__":Str))=false:=by decide):PE X (.Name x pos) (tVar i):=by
 try unfold PE at *
 intro pins s σ H Q I h
 obtain ⟨v,e,h⟩:=h
 obtain ⟨m,hn,hl⟩:=I.loc
 obtain ⟨u,r,l⟩:=hl i x v hN e hv
 have fin:EP X pins σ Q u s:=⟨v,H,I,r,h⟩
 rcases l with ⟨hk,hm⟩ | ⟨hk,c,hc,hcell⟩
 ·exact wpAny_Name (wpAny_loadName_local I.ok.kind hk hn hm fin) hd
 ·rcases hk with hk | hk
  ·exact wpAny_Name (wpAny_loadName_cell I.ok.kind hk hc hcell fin) hd
  ·exact wpAny_Name (wpAny_loadName_free I.ok.kind hk hc hcell fin hcd) hd
theorem Zm {i j pos}:PE X (.Constant (.int i) j pos) (tC (.int i)):=by
 try unfold PE at *
 exact fun _ _ _ H _ I h=>wpAny_Constant_int ⟨.int i,H,I.tok _,⟨_,rfl⟩,h⟩
theorem Zun {b j pos}:PE X (.Constant (.bool b) j pos) (tC (.bl b)):=by
 try unfold PE at *
 exact fun _ _ _ H _ I h=>Constant_bool ⟨.bl b,H,I,rfl,h⟩
theorem ZOu {j pos}:PE X (.Constant .none j pos) (tC .non):=by
 try unfold PE at *
 exact fun _ _ _ H _ I h=>Constant_none ⟨.non,H,I,rfl,h⟩
theorem ZR {x j pos}:PE X (.Constant (.str x) j pos) (tC (.str x)):=by
 try unfold PE at *
 exact fun _ _ _ H _ I h=>Calls.Constant_str ⟨.str x,H,I.tok _,⟨_,rfl⟩,h⟩
def Gl (X:Cx) (x:Str):Prop:=X.env.kindOf x=some .globalImplicit
theorem ZlB {E:Value→Shared→Prop} {pins:List (Addr×Obj)} {s:Shared} {σ:St} {H:Hp} {x:Str} {u:Value} {pos:Pos} {Q:Value→Shared→Prop} (I:Inv X pins σ H s) (hg:Gl X x) (hm:X.mg x=some u) (h:Q u s)
  (hd:(x == ("__debug__":Str))=false:=by decide):wpAny (model X.prog X.w) X.A (eval (.Name x pos) X.env) Q E s:=
 Calls.Name_function_global I.ok.kind hg (Calls.loadGlobal_global (by rw [I.ok.glob];exact I.mod.glob.keeps I.bk) hm h) hd
theorem ZuP {E:Value→Shared→Prop} {pins:List (Addr×Obj)} {s:Shared} {σ:St} {H:Hp} {x:Str} {u:Value} {pos:Pos} {Q:Value→Shared→Prop} (I:Inv X pins σ H s) (hg:Gl X x) (hm:X.mg x=none) (hv:bootBuiltins x=some u) (h:Q u s)
  (hn:x≠"__name__":=by decide) (hd:(x == ("__debug__":Str))=false:=by decide):wpAny (model X.prog X.w) X.A (eval (.Name x pos) X.env) Q E s:=by
 obtain ⟨mb,h1,h2⟩:=I.mod.blt
 exact Calls.Name_function_global I.ok.kind hg (Calls.loadGlobal_builtin (by rw [I.ok.glob];exact I.mod.glob.keeps I.bk) hm (by rw [I.ok.blt];exact h1.keeps I.bk) ((h2 x hn).trans hv) h) hd
theorem ZI {x:Str} {v:V} {u:Value} {pos:Pos} (hg:Gl X x) (hm:X.mg x=some u) (r:RelV v u) (hd:(x == ("__debug__":Str))=false:=by decide):PE X (.Name x pos) (tC v):=by
 try unfold PE at *
 exact
  fun _ _ _ H _ I h=>ZlB I hg hm ⟨v,H,I,r,h⟩ hd
theorem ZPt {x:Str} {v:V} {u:Value} {pos:Pos} (hg:Gl X x) (hm:X.mg x=none) (hv:bootBuiltins x=some u) (r:RelV v u) (hn:x≠"__name__":=by decide) (hd:(x == ("__debug__":Str))=false:=by decide):PE X (.Name x pos) (tC v):=by
 try unfold PE at *
 exact
  fun _ _ _ H _ I h=>ZuP I hg hm hv ⟨v,H,I,r,h⟩ hn hd
variable {a b:Expr} {ta tb:TE} {pos:Pos}
def PC (X:Cx) (op:CmpOp) (a b:Expr) (t:TE):Prop:=
 ∀ (pins:List (Addr×Obj)) (s:Shared) (σ:St) (H:Hp) (Q:VK),Inv X pins σ H s→t σ H Q→
  wpAny (model X.prog X.w) X.A (eval a X.env) (fun v s₁=>wpAny (model X.prog X.w) X.A (eval b X.env) (fun u s₂=>wpAny (model X.prog X.w) X.A (compareOp op v u) (EP X pins σ Q) X.xe s₂) X.xe s₁) X.xe s
theorem ZHP (b:Expr) {op:CmpOp} (h:op≠.In) (h2:op≠.NotIn):behindInMarks op b=false:=by
 have e1:(op == CmpOp.In)=false:=by cases op <;> first | rfl | exact absurd rfl h
 have e2:(op == CmpOp.NotIn)=false:=by cases op <;> first | rfl | exact absurd rfl h2
 cases b <;> simp [behindInMarks,e1,e2]
def tIsN (ta:TE):TE:=fun σ H Q=>ta σ H fun x H1=>Q (.bl (decide (x=.non))) H1
theorem RelV.none_iff {x:V} {v:Value} (r:RelV x v):(v == Value.none)=decide (x=.non):=by
 cases x with
 | non=>cases r;rfl
 | bl _=>cases r;rfl
 | int _=>obtain ⟨t,rfl⟩:=r;rfl
 | str _=>obtain ⟨t,rfl⟩:=r;rfl
 | byt _=>obtain ⟨t,rfl⟩:=r;rfl
 | flt _=>obtain ⟨t,rfl⟩:=r;rfl
 | ref _=>cases r;rfl
 | ty _=>cases r;rfl
theorem ZOw {j pos'} (ha:PE X a ta):PC X .Is a (.Constant .none j pos') (tIsN ta):=by
 try unfold PE at *
 intro pins s σ H Q I h
 refine thn (ha pins s σ H _ I h) fun v s1 ⟨x,H1,I1,r1,q1⟩=>?_
 exact Constant_none (is_none_gen ⟨.bl _,H1,I1,by rw [r1.none_iff];rfl,q1⟩)
def tB (t:TE):TT:=fun σ H Q=>t σ H fun x H1=>∃ c,x=.bl c∧Q c H1
theorem ZOv {op:CmpOp} {t:TE} (h:PC X op a b t) (h1:behindInMarks op b=false:=by first | exact ZHP _ (by decide) (by decide) | rfl):PE X (.Compare a [op] [b] pos) t:=by
 try unfold PE at *
 exact fun pins s σ H Q I hw=>wpAny_Compare1 (h pins s σ H Q I hw) h1
theorem ZdU {op:CmpOp} {t:TE} (h:PC X op a b t) (h1:behindInMarks op b=false:=by first | exact ZHP _ (by decide) (by decide) | rfl):PT X (.Compare a [op] [b] pos) (tB t):=by
 try unfold PE at *;try unfold PA at *
 intro pins s σ H Q I hw
 refine wpAny_isTrue_Compare1 (thn (h pins s σ H _ I hw) fun v s1 h1=>thn h1 fun u s2 h2=>thn h2 fun c s3 ⟨x,H1,I1,r1,q1⟩=>?_) h1
 obtain ⟨d,rfl,q⟩:=q1
 cases r1
 exact wpAny_truthy_bool ⟨H1,I1,q⟩
theorem Zuf {e:Expr} {t:TE} (h:PE X e t) (he:∀ whole,isTrue e X.env whole=(do let v ← whole;standAt e.pos;holding [v] (truthy v)):=by intro _;rfl):PT X e (tB t):=by
 try unfold PE at *
 intro pins s σ H Q I hw
 refine isTrue_plain (thn (h pins s σ H _ I hw) fun v s1 ⟨x,H1,I1,r1,q1⟩=>?_) (he _)
 obtain ⟨d,rfl,q⟩:=q1
 cases r1
 exact wpAny_truthy_bool ⟨H1,I1,q⟩
variable {tA tB':TT} {rest:List Expr}
def tAnd (t u:TT):TT:=fun σ H Q=>t σ H fun c H1=>if c=true then u σ H1 Q else Q false H1
def tOr (t u:TT):TT:=fun σ H Q=>t σ H fun c H1=>if c=true then Q true H1 else u σ H1 Q
def tNot (t:TT):TT:=fun σ H Q=>t σ H fun c H1=>Q (!c) H1
theorem ZKW (ha:PT X a tA):PW X (.BoolOp .And [a] pos) tA:=by
 try unfold PE at *;try unfold PA at *
 intro wh pins s σ H Q I h
 refine isTrue_and (thn (ha pins s σ H Q I h) fun c s1 e=>?_)
 cases c with
 | true=>exact isTrue_and_nil e
 | false=>exact e
theorem Zue (ha:PT X a tA):PW X (.BoolOp .Or [a] pos) tA:=by
 try unfold PE at *;try unfold PA at *
 intro wh pins s σ H Q I h
 refine isTrue_or (thn (ha pins s σ H Q I h) fun c s1 e=>?_)
 cases c with
 | false=>exact isTrue_or_nil e
 | true=>exact e
theorem ZOm (ha:PT X a tA) (hb:PW X (.BoolOp .And (b::rest) pos) tB'):PW X (.BoolOp .And (a::b::rest) pos) (tAnd tA tB'):=by
 try unfold PE at *;try unfold PA at *
 intro wh pins s σ H Q I h
 refine isTrue_and (thn (ha pins s σ H _ I h) fun c s1 ⟨H1,I1,q1⟩=>?_)
 cases c with
 | true=>exact hb wh pins s1 σ H1 Q I1 q1
 | false=>exact ⟨H1,I1,q1⟩
theorem Zzs (ha:PT X a tA) (hb:PW X (.BoolOp .Or (b::rest) pos) tB'):PW X (.BoolOp .Or (a::b::rest) pos) (tOr tA tB'):=by
 try unfold PE at *;try unfold PA at *
 intro wh pins s σ H Q I h
 refine isTrue_or (thn (ha pins s σ H _ I h) fun c s1 ⟨H1,I1,q1⟩=>?_)
 cases c with
 | true=>exact ⟨H1,I1,q1⟩
 | false=>exact hb wh pins s1 σ H1 Q I1 q1
theorem Zug (ha:PT X a tA):PT X (.UnaryOp .Not a pos) (tNot tA):=by
 try unfold PE at *;try unfold PA at *
 intro pins s σ H Q I h
 exact isTrue_not (ha pins s σ H (fun c H1=>Q (!c) H1) I h)
def tOrV (ta tb:TE):TE:=fun σ H Q=>ta σ H fun x H1=>∃ c,x=.bl c∧if c=true then Q (.bl true) H1 else tb σ H1 Q
theorem ZQY {op} {t:TE} (h:PE X a t):PE X (.BoolOp op [a] pos) t:=by
 try unfold PE at *
 exact fun pins s σ H Q I hw=>BoolOp_one (h pins s σ H Q I hw)
theorem ZR2 (ha:PE X a ta) (hb:PE X (.BoolOp .Or (b::rest) pos) tb):PE X (.BoolOp .Or (a::b::rest) pos) (tOrV ta tb):=by
 try unfold PE at *
 intro pins s σ H Q I h
 refine BoolOp_or (thn (ha pins s σ H _ I h) fun v s1 ⟨x,H1,I1,r1,q1⟩=>?_)
 obtain ⟨c,rfl,q1⟩:=q1
 cases r1
 refine wpAny_truthy_bool ?_
 cases c with
 | false=>exact hb pins s1 σ H1 Q I1 q1
 | true=>exact ⟨.bl true,H1,I1,rfl,q1⟩
def tIf (t:TT) (ta tb:TE):TE:=fun σ H Q=>t σ H fun c H1=>if c=true then ta σ H1 Q else tb σ H1 Q
theorem Zzv {c:Expr} (hc:PT X c tA) (ha:PE X a ta) (hb:PE X b tb):PE X (.IfExp c a b pos) (tIf tA ta tb):=by
 try unfold PE at *
 intro pins s σ H Q I h
 refine wpAny_IfExp (thn (hc pins s σ H _ I h) fun d s1 ⟨H1,I1,q1⟩=>?_)
 cases d with
 | true=>exact ha pins s1 σ H1 Q I1 q1
 | false=>exact hb pins s1 σ H1 Q I1 q1
end
end L2
namespace L2
open PySem PySem.Spec PyProof.Rows
def SqL (K:PySem.W.Frag) (H:Hp) (a:Addr) (xs:List V):Prop:=
 Rd H a (.lst xs)∨
  ∃ (o:Obj) (its:Array Value) (n:Nat),K.lookup a=some o∧o.cls=.type "list"∧o.dict=none∧o.data=.seq its n∧its.size≤sizeLine∧Vals xs its.toList
def SqT (K:PySem.W.Frag) (H:Hp) (a:Addr) (xs:List V):Prop:=
 Rd H a (.tup xs)∨
  ∃ (o:Obj) (its:Array Value) (n:Nat),K.lookup a=some o∧o.cls=.type "tuple"∧o.data=.seq its n∧its.size≤sizeLine∧Vals xs its.toList
def absV:Value→Option V
 | .none=>some .non
 | .bool b=>some (.bl b)
 | .int i _=>some (.int i)
 | .str x _=>some (.str x)
 | .bytes b _=>some (.byt b)
 | .float b _=>some (.flt b)
 | .ref a=>some (.ref a)
 | .type n=>some (.ty n)
 | _=>none
theorem RelV.abs {x:V} {u:Value} (r:RelV x u):absV u=some x:=by
 cases x with
 | non=>cases r;rfl
 | bl _=>cases r;rfl
 | int _=>obtain ⟨t,rfl⟩:=r;rfl
 | str _=>obtain ⟨t,rfl⟩:=r;rfl
 | byt _=>obtain ⟨t,rfl⟩:=r;rfl
 | flt _=>obtain ⟨t,rfl⟩:=r;rfl
 | ref _=>cases r;rfl
 | ty _=>cases r;rfl
theorem RelV.inj {x y:V} {u:Value} (r:RelV x u) (q:RelV y u):x=y:=Option.some.inj (r.abs.symm.trans q.abs)
theorem Vals.inj:∀ {xs ys:List V} {us:List Value},Vals xs us→Vals ys us→xs=ys
 | _,_,_,.nil,.nil=>rfl
 | _,_,_,.cons r t,.cons r' t'=>by rw [r.inj r',Vals.inj t t']
section
variable {X:Cx} {pins:List (Addr×Obj)} {σ:St} {H:Hp} {s:Shared} {a:Addr} {xs ys:List V}
theorem SqL.of {K:PySem.W.Frag} (h:H a=some (.lst xs)):SqL K H a xs:=.inl (.inl h)
theorem SqT.of {K:PySem.W.Frag} (h:H a=some (.tup xs)):SqT K H a xs:=.inl (.inl h)
theorem Inv.list (I:Inv X pins σ H s) (h:SqL X.K H a xs):∃ its:List Value,Vals xs its∧PlainL s.heap a its.toArray∧xs.length≤sizeLine:=by
 rcases h with h | ⟨o,its,n,hk,hc,hd,hs,hz,r⟩
 ·obtain ⟨z,its,n,r,e⟩:=h.ok I.hok
  exact ⟨its,r,⟨_,n,e,rfl,rfl,rfl⟩,z⟩
 ·refine ⟨its.toList,r,⟨o,n,I.kIn a o hk,hc,hd,by simpa using hs⟩,?_⟩
  have e:=r.length
  simp only [Array.length_toList] at e
  omega
theorem Inv.tuple (I:Inv X pins σ H s) (h:SqT X.K H a xs):∃ its:List Value,Vals xs its∧IsTup s.heap a its.toArray∧xs.length≤sizeLine:=by
 rcases h with h | ⟨o,its,n,hk,hc,hs,hz,r⟩
 ·obtain ⟨z,its,r,p⟩:=h.ok I.hok
  exact ⟨its,r,p,z⟩
 ·refine ⟨its.toList,r,⟨o,I.kIn a o hk,hc,n,by simpa using hs⟩,?_⟩
  have e:=r.length
  simp only [Array.length_toList] at e
  omega
theorem Inv.list_inj (I:Inv X pins σ H s) (h:SqL X.K H a xs) (h':SqL X.K H a ys):xs=ys:=by
 obtain ⟨its,r,⟨o,n,e,_,_,d⟩,_⟩:=I.list h
 obtain ⟨its',r',⟨o',n',e',_,_,d'⟩,_⟩:=I.list h'
 rw [e] at e';cases e'
 rw [d] at d'
 injection d' with d1 _
 have:its=its':=by simpa using congrArg Array.toList d1
 subst this
 exact r.inj r'
theorem Inv.tuple_inj (I:Inv X pins σ H s) (h:SqT X.K H a xs) (h':SqT X.K H a ys):xs=ys:=by
 obtain ⟨its,r,⟨o,e,_,n,d⟩,_⟩:=I.tuple h
 obtain ⟨its',r',⟨o',e',_,n',d'⟩,_⟩:=I.tuple h'
 rw [e] at e';cases e'
 rw [d] at d'
 injection d' with d1 _
 have:its=its':=by simpa using congrArg Array.toList d1
 subst this
 exact r.inj r'
end
abbrev Cx.wish (X:Cx) (E:Value→Shared→Prop):Cx:={X with xe:=E}
abbrev Cx.nox (X:Cx):Cx:=X.wish fun _ _=>False
theorem Cx.Ok.wish {X:Cx} (ok:X.Ok) (E:Value→Shared→Prop):(X.wish E).Ok:=
 ⟨ok.mod,ok.kind,ok.glob,ok.blt,ok.above,ok.inj,ok.has,ok.cab,ok.hd,ok.frames,ok.stk,ok.exf,ok.bs,ok.bsz,ok.noex,ok.exfs,ok.funs,ok.frf⟩
theorem Cx.Ok.unwish {X:Cx} {E:Value→Shared→Prop} (ok:(X.wish E).Ok):X.Ok:=
 ⟨ok.mod,ok.kind,ok.glob,ok.blt,ok.above,ok.inj,ok.has,ok.cab,ok.hd,ok.frames,ok.stk,ok.exf,ok.bs,ok.bsz,ok.noex,ok.exfs,ok.funs,ok.frf⟩
section
variable {X:Cx} {pins:List (Addr×Obj)} {σ:St} {H:Hp} {s:Shared} {E:Value→Shared→Prop}
theorem Inv.wish (I:Inv X pins σ H s) (E:Value→Shared→Prop):Inv (X.wish E) pins σ H s:=⟨I.ok.wish E,I.os,I.bare,I.base,I.loc,I.cell,I.free,I.freeC,I.pin,I.hok,I.len⟩
theorem Inv.unwish (I:Inv (X.wish E) pins σ H s):Inv X pins σ H s:=⟨I.ok.unwish,I.os,I.bare,I.base,I.loc,I.cell,I.free,I.freeC,I.pin,I.hok,I.len⟩
theorem SP.unwish {D:Ends} {f:Flow} {s':Shared} (h:SP (X.wish E) pins D f s'):SP X pins D f s':=by
 cases f with
 | next=>obtain ⟨σ',H',I,q⟩:=h;exact ⟨σ',H',I.unwish,q⟩
 | brk=>obtain ⟨σ',H',I,q⟩:=h;exact ⟨σ',H',I.unwish,q⟩
 | cont=>obtain ⟨σ',H',I,q⟩:=h;exact ⟨σ',H',I.unwish,q⟩
 | ret u=>obtain ⟨v,σ',H',I,r,q⟩:=h;exact ⟨v,σ',H',I.unwish,r,q⟩
theorem PSs.nox {st:List Stmt} {t:TS} (h:PSs X.nox st t):PSs X st t:=by
 try unfold PSs at *
 exact fun pins s σ H D I hw=>
  wpAny_mono (h pins s σ H D (I.wish _) hw) (fun _ _ q=>q.unwish) fun _ _ z=>False.elim z
end
section
variable {X:Cx} {st:Stmt} {rest:List Stmt} {t u:TS} {e:Expr} {te:TE} {pos:Pos}
def ZQu:TS:=fun D σ H=>D.nx σ H
def tSeq (t u:TS):TS:=fun D σ H=>t {D with nx:=u D} σ H
theorem ZP:PSs X [] ZQu:=by
 try unfold PSs at *
 exact fun _ _ σ H _ I h=>wpAny_execs_nil ⟨σ,H,I,h⟩
theorem Ze (h1:PS X st t) (h2:PSs X rest u):PSs X (st::rest) (tSeq t u):=by
 try unfold PS at *;try unfold PSs at *
 intro pins s σ H D I h
 refine wpAny_execs_cons (thn (h1 pins s σ H {D with nx:=u D} I h) fun f s1 q=>?_)
 cases f with
 | next=>
  obtain ⟨σ',H',I',q⟩:=q
  exact h2 pins s1 σ' H' D I' q
 | ret v=>exact q
 | brk=>exact q
 | cont=>exact q
theorem Zi (h1:PS X st t):PSs X [st] t:=by
 try unfold PS at *;try unfold PSs at *
 intro pins s σ H D I h
 refine wpAny_execs_cons (thn (h1 pins s σ H D I h) fun f s1 q=>?_)
 cases f with
 | next=>exact wpAny_execs_nil q
 | ret v=>exact q
 | brk=>exact q
 | cont=>exact q
theorem Inv.quiet {pins:List (Addr×Obj)} {σ:St} {H:Hp} {s:Shared} (I:Inv X pins σ H s):interactive X.env=false:=by simp [interactive,I.ok.kind]
def ZRR (te:TE):TS:=fun D σ H=>te σ H fun _ H1=>D.nx σ H1
theorem ZW (he:PE X e te) (hs:swapsWith e none pos.line X.env=pure false:=by rfl):PS X (.Expr e pos) (ZRR te):=by
 try unfold PE at *;try unfold PS at *
 intro pins s σ H D I h
 exact wpAny_Expr_any (thn (he pins s σ H _ I h) fun v s1 ⟨x,H1,I1,r1,q1⟩=>⟨σ,H1,I1,q1⟩) I.quiet hs
def tRet (te:TE):TS:=fun D σ H=>te σ H D.rt
theorem Zz (he:PE X e te):PS X (.Return (some e) pos) (tRet te):=by
 try unfold PE at *;try unfold PS at *
 intro pins s σ H D I h
 exact wpAny_Return_some (thn (he pins s σ H _ I h) fun v s1 ⟨x,H1,I1,r1,q1⟩=>⟨x,σ,H1,I1,r1,q1⟩)
def tIfS (c:TT) (t u:TS):TS:=fun D σ H=>c σ H fun b H1=>if b=true then t D σ H1 else u D σ H1
theorem Zav {c:Expr} {a b:List Stmt} {tc:TT} (hc:PT X c tc) (ha:PSs X a t) (hb:PSs X b u):PS X (.If c a b pos) (tIfS tc t u):=by
 try unfold PS at *;try unfold PSs at *
 intro pins s σ H D I h
 refine wpAny_If (thn (hc pins s σ H _ I h) fun d s1 ⟨H1,I1,q1⟩=>?_)
 cases d with
 | true=>exact ha pins s1 σ H1 D I1 q1
 | false=>exact hb pins s1 σ H1 D I1 q1
end
abbrev TG:=V→St→Hp→(St→Hp→Prop)→Prop
abbrev TGs:=List V→St→Hp→(St→Hp→Prop)→Prop
def PG (X:Cx) (target:Expr) (t:TG):Prop:=
 ∀ (pins:List (Addr×Obj)) (s:Shared) (σ:St) (H:Hp) (v:V) (u:Value) (Q:St→Hp→Prop),Inv X pins σ H s→RelV v u→t v σ H Q→
  wpAny (model X.prog X.w) X.A (assign target X.env u) (fun _ s'=>∃ σ' H',Inv X pins σ' H' s'∧Q σ' H') X.xe s
def PGs (X:Cx) (ts:List Expr) (t:TGs):Prop:=
 ∀ (pins:List (Addr×Obj)) (s:Shared) (σ:St) (H:Hp) (vs:List V) (us:List Value) (Q:St→Hp→Prop),Inv X pins σ H s→Vals vs us→t vs σ H Q→
  wpAny (model X.prog X.w) X.A (assignInOrder ((assignEach ts X.env).map (·.2)) us) (fun _ s'=>∃ σ' H',Inv X pins σ' H' s'∧Q σ' H') X.xe s
abbrev TSet:=V→V→V→Hp→(Hp→Prop)→Prop
def PSet (X:Cx) (t:TSet):Prop:=
 ∀ (pins:List (Addr×Obj)) (s:Shared) (σ:St) (H:Hp) (o i v:V) (ov iv u:Value) (Q:Hp→Prop),Inv X pins σ H s→RelV o ov→RelV i iv→RelV v u→t o i v H Q→
  wpAny (model X.prog X.w) X.A (setItem ov iv u) (fun _ s'=>∃ H',Inv X pins σ H' s'∧Q H') X.xe s
section
variable {X:Cx} {pos:Pos}
def ZJP (i:Nat):TG:=fun v σ H Q=>Q (σ.set i (some v)) H
theorem Z5 {i:Nat} {x:Str} (hN:X.N.Nodup) (hi:X.N[i]?=some x) (hx:Loc X.env.scope x) (hf:X.fn x=true∨X.env.scope.names.lookup x=some .local:=by first | exact .inl rfl | exact .inr rfl | assumption):PG X (.Name x pos) (ZJP i):=by
 intro pins s σ H v u Q I r h
 exact wpAny_assign_Name (ZyK I hN hi hx r (fun s' I'=>⟨_,H,I',h⟩) hf)
def gNil:TGs:=fun vs σ H Q=>vs=[]∧Q σ H
def ZSc (t:TG) (u:TGs):TGs:=fun vs σ H Q=>∃ v r,vs=v::r∧t v σ H fun σ' H'=>u r σ' H' Q
theorem Zul:PGs X [] gNil:=by
 intro pins s σ H vs us Q I r h
 obtain ⟨e,h⟩:=h
 subst e
 cases r
 exact assignInOrder_nil ⟨σ,H,I,h⟩
theorem ZcT {e:Expr} {es:List Expr} {t:TG} {u:TGs} (h1:PG X e t) (h2:PGs X es u)
  (hs:(assignEach (e::es) X.env).map (·.2)=assign e X.env::(assignEach es X.env).map (·.2):=by rfl):PGs X (e::es) (ZSc t u):=by
 try unfold PE at *;try unfold PA at *
 intro pins s σ H vs us Q I r h
 obtain ⟨v,vr,e1,h⟩:=h
 subst e1
 cases r with
 | cons r rr=>
  rw [hs]
  refine assignInOrder_cons (thn (h1 pins s σ H _ _ _ I r h) fun _ s1 ⟨σ1,H1,I1,q1⟩=>?_)
  exact h2 pins s1 σ1 H1 _ _ Q I1 rr q1
def gTup (K:PySem.W.Frag) (n:Nat) (t:TGs):TG:=fun v σ H Q=>∃ a xs,v=.ref a∧SqT K H a xs∧xs.length=n∧t xs σ H Q
theorem ZCA {es:List Expr} {k:Nat} {t:TGs} {n:Nat} (hc:X.calm=true) (h:PGs X es t)
  (hn:(assignEach es X.env).length=n:=by rfl) (hst:(assignEach es X.env).findIdx? (·.1)=none:=by rfl):PG X (.Tuple es k pos) (gTup X.K n t):=by
 intro pins s σ H v u Q I r hw
 obtain ⟨a,xs,e1,hq,hl,hw⟩:=hw
 subst e1
 cases r
 obtain ⟨its,rv,ht,hz⟩:=I.tuple hq
 refine assign_Tuple_tuple (I.ok.hd hc) ht (by simp [hn,← hl,rv.length]) hst fun h' hx=>?_
 have I1:Inv X pins σ H {s with heap:=h'}:=I.kept (t':=s.toks) fun b o e=>hx b o (Nat.ne_of_lt (Heap.lt_size e)) e
 exact h pins _ σ H xs _ Q I1 (by simpa using rv) hw
def gSub (to ti:TE) (t:TSet):TG:=fun v σ H Q=>to σ H fun o H1=>ti σ H1 fun i H2=>t o i v H2 fun H3=>Q σ H3
theorem ZOt {o i:Expr} {to ti:TE} {t:TSet} (ho:PE X o to) (hi:PE X i ti) (hs:PSet X t)
  (ha:∀ v,assign (.Subscript o i pos) X.env v=(do
   let ov ← holding [v] (eval o X.env)
   let iv ← holding [v,ov] (eval i X.env)
   standAt pos
   holding [v,ov,iv] (setItem ov iv v)
   release [v,ov,iv] []):=by intro _;rfl):PG X (.Subscript o i pos) (gSub to ti t):=by
 try unfold PE at *
 intro pins s σ H v u Q I r h
 rw [ha]
 refine wpAny_bind (wpAny_holding (thn (ho pins s σ H _ I h) fun ov s1 ⟨x,H1,I1,r1,q1⟩=>?_))
 refine wpAny_bind (wpAny_holding (thn (hi pins s1 σ H1 _ I1 q1) fun iv s2 ⟨y,H2,I2,r2,q2⟩=>?_))
 refine wpAny_bind (wpAny_standAt (wpAny_bind (wpAny_holding (thn (hs pins s2 σ H2 x y v ov iv u _ I2 r1 r2 r q2) fun _ s3 ⟨H3,I3,q3⟩=>?_))))
 exact wpAny_release ⟨σ,H3,I3,q3⟩
def tAsg (te:TE) (g:TG):TS:=fun D σ H=>te σ H fun x H1=>g x σ H1 D.nx
theorem ZKX {tg e:Expr} {te:TE} {g:TG} (he:PE X e te) (hg:PG X tg g) (hs:swapsWithSole [tg] e pos.line X.env=pure false:=by rfl) (hw:swappedStores [tg] e X.env=pure none:=by rfl)
  (h1:(assignEach [tg] X.env).map (·.2)=[assign tg X.env]:=by rfl):PS X (.Assign [tg] e pos) (tAsg te g):=by
 try unfold PE at *;try unfold PS at *
 intro pins s σ H D I h
 refine wpAny_Assign_stores (thn (he pins s σ H _ I h) fun v s1 ⟨x,H1,I1,r1,q1⟩=>?_) hs hw
 rw [h1]
 exact thn (hg pins s1 σ H1 x v _ I1 r1 q1) fun _ s2 q=>q
theorem ZJ {i:Nat} {x:Str} {e:Expr} {te:TE} {pos':Pos} (hN:X.N.Nodup) (hi:X.N[i]?=some x) (hx:Loc X.env.scope x) (he:PE X e te) (hs:swapsWith e (some (.Name x pos')) pos.line X.env=pure false:=by rfl) (hf:X.fn x=true∨X.env.scope.names.lookup x=some .local:=by first | exact .inl rfl | exact .inr rfl | assumption) :
  PS X (.Assign [.Name x pos'] e pos) (tAsg te (ZJP i)):=by
 try unfold PE at *;try unfold PS at *
 intro pins s σ H D I h
 refine wpAny_Assign_Name (thn (he pins s σ H _ I h) fun v s1 ⟨y,H1,I1,r1,q1⟩=>?_) hs
 exact ZyK I1 hN hi hx r1 (fun s2 I2=>⟨_,H1,I2,q1⟩) hf
end
section
variable {X:Cx} {pos:Pos}
end
structure It where
 go:Nat→Hp→Prop
 yld:Nat→Hp→V→Hp→Prop
 stop:Nat→Hp→Prop
def FpOk (X:Cx) (pins:List (Addr×Obj)) (H:Hp) (b:Addr):Prop:=
 H b=none∧b≠X.env.locals∧b ∉ X.fs∧(b∈X.ex∨X.s₀.heap.objs.size≤b)∧(∀ x c,X.env.cells.lookup x=some c→c≠b)∧∀ p∈X.pn++pins,p.1≠b
theorem Inv.fpOk {X:Cx} {pins:List (Addr×Obj)} {σ:St} {H H':Hp} {s:Shared} {b:Addr} (I:Inv X pins σ H s) (hb:s.heap.objs.size≤b) (hn:H' b=none):FpOk X pins H' b:=by
 refine ⟨hn,Nat.ne_of_gt (Nat.lt_of_lt_of_le I.lt hb),I.nofs hb,.inr (Nat.le_trans I.sz hb),fun x c e z=>?_,fun p hp z=>?_⟩
 ·obtain ⟨v,q⟩:=I.cell x c e
  exact absurd (Nat.lt_of_lt_of_le q.lt (by rw [z];exact hb)) (Nat.lt_irrefl _)
 ·exact absurd (Nat.lt_of_lt_of_le (Heap.lt_size (I.pin p hp).1) (by rw [z];exact hb)) (Nat.lt_irrefl _)
structure Turn (P:Program) (w:World) (K:PySem.W.Frag) (tg:Expr) (J:It) (fp:List Addr) (it:Addr) (tn:Nat→Heap→Prop):Prop where
 mem:it∈fp
 obj:∀ i h,tn i h→∀ b∈fp,∃ o,h.get? b=some o∧∀ v,o.data≠.cell v
 keep:∀ i h h',tn i h→(∀ b∈fp,∀ o,h.get? b=some o→h'.get? b=some o)→tn i h'
 item:∀ (X:Cx),X.prog=P→X.w=w→X.K=K→X.calm=true→∀ (i:Nat) (pins:List (Addr×Obj)) (s:Shared) (σ:St) (H:Hp) (E:Value→Shared→Prop),Inv X pins σ H s→(∀ b∈fp,FpOk X pins H b)→tn i s.heap→J.go i H→
  wpAny (model P w) X.A (pyNext (.ref it)) (fun r s1=>∃ u,r=some u∧
   wpAny (model P w) X.A (letOwnedTupleGo tg (.ref it) u) (fun _ s2=>∃ x H',Inv X pins σ H' s2∧RelV x u∧J.yld i H x H'∧tn (i + 1) s2.heap∧∀ b∈fp,H' b=none) E s1) E s
 done:∀ (X:Cx),X.prog=P→X.w=w→X.K=K→X.calm=true→∀ (i:Nat) (pins:List (Addr×Obj)) (s:Shared) (σ:St) (H:Hp) (E:Value→Shared→Prop),Inv X pins σ H s→(∀ b∈fp,FpOk X pins H b)→tn i s.heap→J.stop i H→
  wpAny (model P w) X.A (pyNext (.ref it)) (fun r s1=>r=none∧Inv X pins σ H s1) E s
 self:∀ (A:Around) (i:Nat) (s:Shared) (Q:Value→Shared→Prop) (E:Value→Shared→Prop),tn i s.heap→Q (.ref it) s→wpAny (model P w) A (pyIter (.ref it)) Q E s
abbrev TI:=St→Hp→(It→Hp→Prop)→Prop
def PIE (X:Cx) (pins:List (Addr×Obj)) (σ:St) (tg:Expr) (R:It→Hp→Prop) (itv:Value) (s2:Shared):Prop:=
 ∃ (it:Addr) (fp:List Addr) (tn:Nat→Heap→Prop) (J:It) (H':Hp),itv=.ref it∧Inv X pins σ H' s2∧Turn X.prog X.w X.K tg J fp it tn∧tn 0 s2.heap∧(∀ b∈fp,FpOk X pins H' b)∧R J H'
def PI (X:Cx) (tg iter:Expr) (wi:TI):Prop:=
 ∀ (pins:List (Addr×Obj)) (s:Shared) (σ:St) (H:Hp) (R:It→Hp→Prop),Inv X pins σ H s→wi σ H R→
  wpAny (model X.prog X.w) X.A (eval iter X.env) (fun v s1=>wpAny (model X.prog X.w) X.A (pyIter v) (PIE X pins σ tg R) X.xe s1) X.xe s
theorem ZNP {M:Model} {A:Around} {E:Value→Shared→Prop} {s:Shared} {tg:Expr} {it:Addr} {u:Value} {o:Obj} {n:String} {vs:Array Value} {Q:Unit→Shared→Prop} (ho:s.heap.get? it=some o) (hc:o.cls=.type n) (hd:o.data=.fields vs)
    (hn:["enumerate","zip","dict_itemiterator","dict_reverseitemiterator","odict_iterator","itertools.zip_longest","itertools.pairwise"].contains n=false) (hQ:Q () s):wpAny M A (letOwnedTupleGo tg (.ref it) u) Q E s:=by
  unfold letOwnedTupleGo
  cases tg <;> first
    | exact wpAny_pure hQ
    | (cases u <;> first
        | exact wpAny_pure hQ
        | (refine wpAny_bind (wpAny_load ho ?_)
           rw [hc,hd]
           show wpAny M A (if (["enumerate","zip","dict_itemiterator","dict_reverseitemiterator","odict_iterator","itertools.zip_longest","itertools.pairwise"].contains n && vs[0]? == some (rawInt _))=true then _ else _) Q E s
           rw [if_neg (by intro h;rw [hn,Bool.false_and] at h;cases h)]
           exact wpAny_pure hQ))
def Itl (K:PySem.W.Frag) (a:Addr):It:=
 ⟨fun i H=>∃ xs x,SqL K H a xs∧xs[i]?=some x,fun i H x H'=>H'=H∧∀ xs,SqL K H a xs→xs[i]?=some x,fun i H=>∃ xs,SqL K H a xs∧xs.length≤i⟩
def Itt (K:PySem.W.Frag) (a:Addr):It:=
 ⟨fun i H=>∃ xs x,SqT K H a xs∧xs[i]?=some x,fun i H x H'=>H'=H∧∀ xs,SqT K H a xs→xs[i]?=some x,fun i H=>∃ xs,SqT K H a xs∧xs.length≤i⟩
def Itr (lo:Int) (n:Nat):It:=⟨fun i _=>i < n,fun i H x H'=>H'=H∧x=.int (lo + i),fun i _=>n≤i⟩
theorem ZKk {P:Program} {w:World} {K:PySem.W.Frag} {tg:Expr} (a it:Addr):Turn P w K tg (Itl K a) [it] it (fun i h=>h.IsListIter it a i) where
 mem:=by simp
 obj:=fun i h st b hb=>by
  have e:b=it:=by simpa using hb
  subst e
  obtain ⟨o,e,c,d⟩:=st
  exact ⟨o,e,fun v z=>by rw [d] at z;cases z⟩
 keep:=fun i h h' st k=>st.at fun o e=>k it (by simp) o e
 item:=by
  intro X hP hw hK hc i pins s σ H E I hf st hg
  subst hP hw hK
  obtain ⟨xs,x,hq,hx⟩:=hg
  obtain ⟨its,rv,p,hz⟩:=I.list hq
  obtain ⟨u,hu,ru⟩:=rv.get hx
  obtain ⟨f0,f1,f2,f3,f4,f5⟩:=hf it (by simp)
  refine wpAny_pyNext_list_item st p.isList (x:=u) (by simpa using hu) fun h' st' sb=>?_
  have I1:Inv X pins σ H {s with heap:=h'}:=I.turned (t':=s.toks) (fun b o hb e=>(sb.2 b hb).trans e) f0 f1 f3 f4 f5
  obtain ⟨o,e,c,d⟩:=id st'
  exact ⟨u,rfl,ZNP (s:={s with heap:=h'}) e c d (by decide) ⟨x,H,I1,ru,⟨rfl,fun ys hy=>by rw [I.list_inj hy hq];exact hx⟩,st',fun b hb=>(hf b hb).1⟩⟩
 done:=by
  intro X hP hw hK hc i pins s σ H E I hf st hg
  subst hP hw hK
  obtain ⟨xs,hq,hx⟩:=hg
  obtain ⟨its,rv,p,hz⟩:=I.list hq
  obtain ⟨f0,f1,f2,f3,f4,f5⟩:=hf it (by simp)
  have hl:=rv.length
  exact wpAny_pyNext_list_end (I.ok.hd hc) st p.isList (by simp;omega) fun h' eb=>⟨rfl,I.turned (t':=s.toks) (fun b o hb e=>eb b o hb e) f0 f1 f3 f4 f5⟩
 self:=fun _ _ _ _ _ st h=>wpAny_pyIter_listiter st h
theorem ZIB {P:Program} {w:World} {K:PySem.W.Frag} {tg:Expr} (a it:Addr):Turn P w K tg (Itt K a) [it] it (fun i h=>h.IsTupleIter it a i) where
 mem:=by simp
 obj:=fun i h st b hb=>by
  have e:b=it:=by simpa using hb
  subst e
  obtain ⟨o,e,c,d⟩:=st
  exact ⟨o,e,fun v z=>by rw [d] at z;cases z⟩
 keep:=fun i h h' st k=>st.at fun o e=>k it (by simp) o e
 item:=by
  intro X hP hw hK hc i pins s σ H E I hf st hg
  subst hP hw hK
  obtain ⟨xs,x,hq,hx⟩:=hg
  obtain ⟨its,rv,p,hz⟩:=I.tuple hq
  obtain ⟨u,hu,ru⟩:=rv.get hx
  obtain ⟨f0,f1,f2,f3,f4,f5⟩:=hf it (by simp)
  refine wpAny_pyNext_tuple_item st (show s.heap.IsTuple a its.toArray from p) (x:=u) (by simpa using hu) fun h' st' sb=>?_
  have I1:Inv X pins σ H {s with heap:=h'}:=I.turned (t':=s.toks) (fun b o hb e=>(sb.2 b hb).trans e) f0 f1 f3 f4 f5
  obtain ⟨o,e,c,d⟩:=id st'
  exact ⟨u,rfl,ZNP (s:={s with heap:=h'}) e c d (by decide) ⟨x,H,I1,ru,⟨rfl,fun ys hy=>by rw [I.tuple_inj hy hq];exact hx⟩,st',fun b hb=>(hf b hb).1⟩⟩
 done:=by
  intro X hP hw hK hc i pins s σ H E I hf st hg
  subst hP hw hK
  obtain ⟨xs,hq,hx⟩:=hg
  obtain ⟨its,rv,p,hz⟩:=I.tuple hq
  obtain ⟨f0,f1,f2,f3,f4,f5⟩:=hf it (by simp)
  have hl:=rv.length
  exact wpAny_pyNext_tuple_end (I.ok.hd hc) st (show s.heap.IsTuple a its.toArray from p) (by simp;omega) fun h' eb=>⟨rfl,I.turned (t':=s.toks) (fun b o hb e=>eb b o hb e) f0 f1 f3 f4 f5⟩
 self:=fun _ _ _ _ _ st h=>wpAny_pyIter_tupleiter st h
theorem ZIC {P:Program} {w:World} {K:PySem.W.Frag} {tg:Expr} (it:Addr) (lo:Int) (n:Nat):Turn P w K tg (Itr lo n) [it] it (fun i h=>IsRangeIter h it (lo + (i:Nat) * 1) ((n:Int) - (i:Nat)) 1) where
 mem:=by simp
 obj:=fun i h st b hb=>by
  have e:b=it:=by simpa using hb
  subst e
  exact ⟨_,st,fun v z=>by
   have z':Data.fields _=Data.cell v:=z
   cases z'⟩
 keep:=fun i h h' st k=>k it (by simp) _ st
 item:=by
  intro X hP hw hK hc i pins s σ H E I hf st hg
  subst hP hw hK
  obtain ⟨f0,f1,f2,f3,f4,f5⟩:=hf it (by simp)
  have W:=Walks.range (prog:=X.prog) (w:=X.w) (I.ok.hd hc) it lo 1 n
  refine W.item i s _ _ hg st fun v h' tk hv st' kk=>?_
  obtain ⟨t,rfl⟩:=hv
  have I1:Inv X pins σ H {s with heap:=h',toks:=tk}:=I.turned (fun b o hb e=>kk b o (by simpa using hb) e) f0 f1 f3 f4 f5
  refine ⟨_,rfl,ZNP (s:={s with heap:=h',toks:=tk}) (n:="range_iterator") st' rfl rfl (by decide) ⟨.int (lo + i),H,I1,⟨t,?_⟩,⟨rfl,rfl⟩,st',fun b hb=>(hf b hb).1⟩⟩
  rw [Int.mul_one]
 done:=by
  intro X hP hw hK hc i pins s σ H E I hf st hg
  subst hP hw hK
  obtain ⟨f0,f1,f2,f3,f4,f5⟩:=hf it (by simp)
  exact wpAny_pyNext_range_end (I.ok.hd hc) st (by have:n≤i:=hg;omega) fun h' eb=>⟨rfl,I.turned (t':=s.toks) (fun b o hb e=>eb b o hb e) f0 f1 f3 f4 f5⟩
 self:=fun _ _ _ _ _ st h=>wpAny_pyIter_rangeiter st h
end L2
namespace L2
open PySem PySem.Spec PyProof.Rows
section
variable {X:Cx} {tg:Expr}
def ZSa (K:PySem.W.Frag) (tl:TE):TI:=fun σ H R=>tl σ H fun x H1=>∃ a,x=.ref a∧(∃ xs,SqL K H1 a xs)∧R (Itl K a) H1
def iTup (K:PySem.W.Frag) (tl:TE):TI:=fun σ H R=>tl σ H fun x H1=>∃ a,x=.ref a∧(∃ xs,SqT K H1 a xs)∧R (Itt K a) H1
theorem Zqd {l:Expr} {tl:TE} (hl:PE X l tl):PI X tg l (ZSa X.K tl):=by
 try unfold PE at *
 intro pins s σ H R I h
 refine thn (hl pins s σ H _ I h) fun v s1 ⟨x,H1,I1,r1,q1⟩=>?_
 obtain ⟨a,e,⟨xs,hq⟩,q⟩:=q1
 subst e
 cases r1
 obtain ⟨its,rv,p,hz⟩:=I1.list hq
 refine wpAny_pyIter_list p.isList ?_
 refine ⟨s1.heap.objs.size,[s1.heap.objs.size],_,_,H1,rfl,I1.kept (t':=s1.toks) fun b o e=>Heap.get?_push_of_some _ e,ZKk a _,⟨_,Heap.get?_push_size _ rfl,rfl,rfl⟩,fun b hb=>?_,q⟩
 have e:b=s1.heap.objs.size:=by simpa using hb
 subst e
 exact I1.fpOk (Nat.le_refl _) (I1.hok.fresh (Nat.le_refl _))
theorem ZOr {l:Expr} {tl:TE} (hl:PE X l tl):PI X tg l (iTup X.K tl):=by
 try unfold PE at *
 intro pins s σ H R I h
 refine thn (hl pins s σ H _ I h) fun v s1 ⟨x,H1,I1,r1,q1⟩=>?_
 obtain ⟨a,e,⟨xs,hq⟩,q⟩:=q1
 subst e
 cases r1
 obtain ⟨its,rv,p,hz⟩:=I1.tuple hq
 refine wpAny_pyIter_tuple (show s1.heap.IsTuple a its.toArray from p) ?_
 refine ⟨s1.heap.objs.size,[s1.heap.objs.size],_,_,H1,rfl,I1.kept (t':=s1.toks) fun b o e=>Heap.get?_push_of_some _ e,ZIB a _,⟨_,Heap.get?_push_size _ rfl,rfl,rfl⟩,fun b hb=>?_,q⟩
 have e:b=s1.heap.objs.size:=by simpa using hb
 subst e
 exact I1.fpOk (Nat.le_refl _) (I1.hok.fresh (Nat.le_refl _))
theorem ZHJ {pins:List (Addr×Obj)} {σ:St} {H:Hp} {s:Shared} {R:It→Hp→Prop} {E:Value→Shared→Prop} {lo hi:Int} {t u v:Tok} {tk:Nat} (I:Inv X pins σ H s) (h1:-(2 ^ 62)≤lo) (h2:lo < 2 ^ 62) (h3:-(2 ^ 62)≤hi) (h4:hi < 2 ^ 62)
  (q:R (Itr lo (hi - lo).toNat) H):wpAny (model X.prog X.w) X.A (pyIter (.ref s.heap.objs.size)) (PIE X pins σ tg R) E {s with heap:=s.heap.push {cls:=.type "range",data:=.fields #[.int lo t,.int hi u,.int 1 v]},toks:=tk}:=by
 refine wpAny_pyIter_range (IsRange.new ..) (small_one h1 h2 h3 h4) ?_
 have I1:Inv X pins σ H {s with heap:=s.heap.push {cls:=.type "range",data:=.fields #[.int lo t,.int hi u,.int 1 v]},toks:=tk}:=I.kept fun b o e=>Heap.get?_push_of_some _ e
 refine ⟨(s.heap.push {cls:=.type "range",data:=.fields #[.int lo t,.int hi u,.int 1 v]}).objs.size,[(s.heap.push {cls:=.type "range",data:=.fields #[.int lo t,.int hi u,.int 1 v]}).objs.size],_,_,H,rfl,
  I1.kept (t':=tk) fun b o e=>Heap.get?_push_of_some _ e,ZIC _ lo (hi - lo).toNat,?_,fun b hb=>?_,q⟩
 ·have e1:lo + ((0:Nat):Int) * 1=lo:=by simp
  have e2:(((hi - lo).toNat:Nat):Int) - ((0:Nat):Int)=Builtin.Range.rangeSize lo hi 1:=by rw [rangeSize_one];split <;> omega
  show IsRangeIter _ _ (lo + ((0:Nat):Int) * 1) ((((hi - lo).toNat:Nat):Int) - ((0:Nat):Int)) 1
  rw [e1,e2]
  exact Heap.get?_push_size _ rfl
 ·have e:b=(s.heap.push {cls:=.type "range",data:=.fields #[.int lo t,.int hi u,.int 1 v]}).objs.size:=by simpa using hb
  subst e
  exact I1.fpOk (Nat.le_refl _) (I1.hok.fresh (Nat.le_refl _))
def ZR9 (ta:TA):TI:=fun σ H R=>ta σ H fun vs H1=>∃ j:Int,vs=[.int j]∧-(2 ^ 62)≤j∧j < 2 ^ 62∧R (Itr 0 j.toNat) H1
def ZR8 (ta:TA):TI:=fun σ H R=>ta σ H fun vs H1=>∃ i j:Int,vs=[.int i,.int j]∧(-(2 ^ 62)≤i∧i < 2 ^ 62∧-(2 ^ 62)≤j∧j < 2 ^ 62)∧R (Itr i (j - i).toNat) H1
theorem Zm7 {a:Expr} {ta:TA} {p pos:Pos} (hg:Gl X "range") (hm:X.mg "range"=none) (ha:PA X [a] ta) (hs:starEach [a] X.env=[(false,eval a X.env)]:=by rfl):PI X tg (.Call (.Name "range" p) [a] [] pos) (ZR9 ta):=by
 try unfold PA at *
 intro pins s σ H R I h
 refine Call_ (ZuP I hg hm boot_range (PyProof.Rows.callWith_type1 (thn (ha pos pins s σ H _ I h) fun us s1 ⟨vs,H1,I1,r1,q1⟩=>?_) hs rfl))
 obtain ⟨j,e,q1,q2,q⟩:=q1
 subst e
 cases r1 with
 | cons r rr=>
  cases rr
  obtain ⟨t,rfl⟩:=r
  exact call_range_1 (ZHJ I1 (by omega) (by omega) q1 q2 (by simpa using q))
theorem ZK8 {a b:Expr} {ta:TA} {p pos:Pos} (hg:Gl X "range") (hm:X.mg "range"=none) (ha:PA X [a,b] ta) (hs:starEach [a,b] X.env=[(false,eval a X.env),(false,eval b X.env)]:=by rfl) (hs2:starEach [b] X.env=[(false,eval b X.env)]:=by rfl) :
  PI X tg (.Call (.Name "range" p) [a,b] [] pos) (ZR8 ta):=by
 try unfold PA at *
 intro pins s σ H R I h
 refine Call_ (ZuP I hg hm boot_range (PyProof.Rows.callWith_type1 (thn (ha pos pins s σ H _ I h) fun us s1 ⟨vs,H1,I1,r1,q1⟩=>?_) (by rw [hs,hs2]) (by rw [hs2];rfl)))
 obtain ⟨i,j,e,⟨q1,q2,q3,q4⟩,q⟩:=q1
 subst e
 cases r1 with
 | cons r rr=>
  cases rr with
  | cons r' rr=>
   cases rr
   obtain ⟨t,rfl⟩:=r
   obtain ⟨t',rfl⟩:=r'
   exact call_range_2 (ZHJ I1 q1 q2 q3 q4 q)
def tFor (wi:TI) (g:TG) (tb:TS):TS:=fun D σ H=>wi σ H fun J H1=>∃ W:Nat→Nat→St→Hp→Prop,(∃ m,W 0 m σ H1)∧∀ i m σ H,W i m σ H→
 (J.stop i H∧D.nx σ H)∨(J.go i H∧∃ N:St→Hp→Prop,(∀ σ' H',N σ' H'→∃ m',m' < m∧W (i + 1) m' σ' H')∧∀ x H',J.yld i H x H'→g x σ H' fun σ2 H2=>tb {D with nx:=N,ct:=N,bk:=D.nx} σ2 H2)
def Zxu (fp:List Addr) (h:Heap):List (Addr×Obj):=fp.filterMap fun b=>(h.get? b).map fun o=>(b,o)
theorem ZdN {fp:List Addr} {h:Heap} {b:Addr} {o:Obj} (hb:b∈fp) (e:h.get? b=some o):(b,o)∈Zxu fp h:=List.mem_filterMap.mpr ⟨b,hb,by rw [e];rfl⟩
theorem ZLg {fp:List Addr} {h:Heap} {p:Addr×Obj} (hp:p∈Zxu fp h):p.1∈fp∧h.get? p.1=some p.2:=by
 obtain ⟨b,hb,e⟩:=List.mem_filterMap.mp hp
 cases q:h.get? b with
 | none=>rw [q] at e;cases e
 | some o=>
  rw [q] at e
  have e':(b,o)=p:=Option.some.inj e
  subst e'
  exact ⟨hb,q⟩
theorem Inv.pinned {pins:List (Addr×Obj)} {σ:St} {H:Hp} {s:Shared} {fp:List Addr} (I:Inv X pins σ H s) (hf:∀ b∈fp,FpOk X pins H b) (ho:∀ b∈fp,∃ o,s.heap.get? b=some o∧∀ v,o.data≠.cell v):Inv X (pins++Zxu fp s.heap) σ H s:=
 I.pins_of fun p hp=>(List.mem_append.mp hp).elim (fun z=>I.pin p (List.mem_append_right _ z)) fun z=>by
  obtain ⟨hb,e⟩:=ZLg z
  obtain ⟨f0,f1,f2,_⟩:=hf p.1 hb
  obtain ⟨o,e',d⟩:=ho p.1 hb
  rw [e] at e';cases e'
  exact ⟨e,f0,f1,f2,d⟩
theorem Inv.unpinned {pins pl:List (Addr×Obj)} {σ:St} {H:Hp} {s:Shared} (I:Inv X (pins++pl) σ H s):Inv X pins σ H s:=I.pins_of fun p hp=>I.pin p (List.mem_append_right _ (List.mem_append_left _ hp))
theorem Zfv {iter:Expr} {body:List Stmt} {wi:TI} {g:TG} {tb:TS} {pos:Pos} (hp:PassesOwn (model X.prog X.w) X.A X.env X.xe) (hc:X.calm=true) (hi:PI X tg iter wi) (hg:PG X tg g) (hb:PSs X body tb)
  (hs:∀ x,foldedSetIterable iter X.env x=pure x:=by intro _;rfl):PS X (.For tg iter body [] pos) (tFor wi g tb):=by
 try unfold PS at *;try unfold PSs at *
 intro pins s σ H D I h
 refine wpAny_For (thn (hi pins s σ H _ I h) fun v s1 h1=>thn h1 fun itv s2 h2=>?_) hs
 obtain ⟨it,fp,tn,J,H2,e,I2,T,st2,f2,W,⟨m0,w0⟩,turn⟩:=h2
 subst e
 -- what stays true of the iterator's objects through the loop
 have stat:∀ {H':Hp},(∀ b∈fp,H' b=none)→∀ b∈fp,FpOk X pins H' b:=fun hn b hb=>⟨hn b hb,(f2 b hb).2⟩
 refine codeAny_forLoop_any (fun n s'=>∃ i σ' H',Inv X pins σ' H' s'∧tn i s'.heap∧(∀ b∈fp,H' b=none)∧W i n σ' H') ?_ m0 ⟨0,σ,H2,I2,st2,fun b hb=>(f2 b hb).1,w0⟩
 rintro n s3 ⟨i,σ3,H3,I3,st3,fr3,w3⟩
 rcases turn i n σ3 H3 w3 with ⟨stop,qn⟩ | ⟨go,N,hN,step⟩
 ·refine wpAny_passesOwn hp (thn (T.done X rfl rfl rfl hc i pins s3 σ3 H3 X.xe I3 (stat fr3) st3 stop) fun r s4 ⟨hr,I4⟩=>?_)
  subst hr
  exact wpAny_execs_nil ⟨σ3,H3,I4,qn⟩
 ·refine wpAny_passesOwn hp (thn (T.item X rfl rfl rfl hc i pins s3 σ3 H3 X.xe I3 (stat fr3) st3 go) fun r s4 ⟨u,hr,h4⟩=>?_)
  subst hr
  refine wpAny_passesOwn hp (thn h4 fun _ s5 ⟨x,H5,I5,r5,y5,st5,fr5⟩=>?_)
  have I5':=I5.pinned (stat fr5) (T.obj _ _ st5)
  refine wpAny_passesOwn hp (thn (hg _ s5 σ3 H5 x u _ I5' r5 (step x H5 y5)) fun _ s6 ⟨σ6,H6,I6,q6⟩=>?_)
  refine wpAny_passesOwn hp (thn (hb _ s6 σ6 H6 _ I6 q6) fun f s7 q7=>?_)
  have again:∀ {σ7:St} {H7:Hp},Inv X (pins++Zxu fp s5.heap) σ7 H7 s7→N σ7 H7→∃ m,m < n∧∃ i σ' H',Inv X pins σ' H' s7∧tn i s7.heap∧(∀ b∈fp,H' b=none)∧W i m σ' H':=fun {σ7 H7} I7 n7=>by
   obtain ⟨m',hm,w7⟩:=hN σ7 H7 n7
   refine ⟨m',hm,i + 1,σ7,H7,I7.unpinned,T.keep _ _ _ st5 fun b hb o e=>(I7.pin (b,o) (List.mem_append_right _ (List.mem_append_right _ (ZdN hb e)))).1,fun b hb=>?_,w7⟩
   obtain ⟨o,e,d⟩:=T.obj _ _ st5 b hb
   exact (I7.pin (b,o) (List.mem_append_right _ (List.mem_append_right _ (ZdN hb e)))).2.1
  cases f with
  | next=>obtain ⟨σ7,H7,I7,n7⟩:=q7;exact again I7 n7
  | cont=>obtain ⟨σ7,H7,I7,n7⟩:=q7;exact again I7 n7
  | brk=>obtain ⟨σ7,H7,I7,q7⟩:=q7;exact ⟨σ7,H7,I7.unpinned,q7⟩
  | ret v=>obtain ⟨x7,σ7,H7,I7,r7,q7⟩:=q7;exact ⟨x7,σ7,H7,I7.unpinned,r7,q7⟩
end
theorem ZtE {K:PySem.W.Frag} {a:Addr} {xs:List V} {g:TG} {tb:TS} {D:Ends} {σ:St} {H:Hp} (Pv:Nat→St→Hp→Prop) (h0:Pv 0 σ H) (hl:∀ i σ H,i≤xs.length→Pv i σ H→SqL K H a xs)
  (hs:∀ i x σ H,xs[i]?=some x→Pv i σ H→g x σ H fun σ2 H2=>tb {D with nx:=Pv (i + 1),ct:=Pv (i + 1),bk:=D.nx} σ2 H2) (hd:∀ σ H,Pv xs.length σ H→D.nx σ H) :
  ∃ W:Nat→Nat→St→Hp→Prop,(∃ m,W 0 m σ H)∧∀ i m σ H,W i m σ H→
   ((Itl K a).stop i H∧D.nx σ H)∨((Itl K a).go i H∧∃ N:St→Hp→Prop,(∀ σ' H',N σ' H'→∃ m',m' < m∧W (i + 1) m' σ' H')∧∀ x H',(Itl K a).yld i H x H'→g x σ H' fun σ2 H2=>tb {D with nx:=N,ct:=N,bk:=D.nx} σ2 H2):=by
 refine ⟨fun i m σ H=>m=xs.length - i∧i≤xs.length∧Pv i σ H,⟨xs.length,by simp,Nat.zero_le _,h0⟩,?_⟩
 rintro i m σ H ⟨rfl,hi,p⟩
 have q:=hl i σ H hi p
 by_cases hlt:i < xs.length
 ·refine .inr ⟨⟨xs,xs[i],q,by simp [hlt]⟩,Pv (i + 1),fun σ' H' p'=>⟨xs.length - (i + 1),by omega,rfl,hlt,p'⟩,fun x H' y=>?_⟩
  obtain ⟨e,y⟩:=y
  subst e
  exact hs i x σ _ (y xs q) p
 ·have e:i=xs.length:=by omega
  subst e
  exact .inl ⟨⟨xs,q,Nat.le_refl _⟩,hd σ H p⟩
theorem ZLU {K:PySem.W.Frag} {a:Addr} {xs:List V} {g:TG} {tb:TS} {D:Ends} {σ:St} {H:Hp} (Pv:Nat→St→Hp→Prop) (h0:Pv 0 σ H) (hl:∀ i σ H,i≤xs.length→Pv i σ H→SqT K H a xs)
  (hs:∀ i x σ H,xs[i]?=some x→Pv i σ H→g x σ H fun σ2 H2=>tb {D with nx:=Pv (i + 1),ct:=Pv (i + 1),bk:=D.nx} σ2 H2) (hd:∀ σ H,Pv xs.length σ H→D.nx σ H) :
  ∃ W:Nat→Nat→St→Hp→Prop,(∃ m,W 0 m σ H)∧∀ i m σ H,W i m σ H→
   ((Itt K a).stop i H∧D.nx σ H)∨((Itt K a).go i H∧∃ N:St→Hp→Prop,(∀ σ' H',N σ' H'→∃ m',m' < m∧W (i + 1) m' σ' H')∧∀ x H',(Itt K a).yld i H x H'→g x σ H' fun σ2 H2=>tb {D with nx:=N,ct:=N,bk:=D.nx} σ2 H2):=by
 refine ⟨fun i m σ H=>m=xs.length - i∧i≤xs.length∧Pv i σ H,⟨xs.length,by simp,Nat.zero_le _,h0⟩,?_⟩
 rintro i m σ H ⟨rfl,hi,p⟩
 have q:=hl i σ H hi p
 by_cases hlt:i < xs.length
 ·refine .inr ⟨⟨xs,xs[i],q,by simp [hlt]⟩,Pv (i + 1),fun σ' H' p'=>⟨xs.length - (i + 1),by omega,rfl,hlt,p'⟩,fun x H' y=>?_⟩
  obtain ⟨e,y⟩:=y
  subst e
  exact hs i x σ _ (y xs q) p
 ·have e:i=xs.length:=by omega
  subst e
  exact .inl ⟨⟨xs,q,Nat.le_refl _⟩,hd σ H p⟩
theorem ZDU {lo:Int} {n:Nat} {g:TG} {tb:TS} {D:Ends} {σ:St} {H:Hp} (Pv:Nat→St→Hp→Prop) (h0:Pv 0 σ H)
  (hs:∀ i σ H,i < n→Pv i σ H→g (.int (lo + i)) σ H fun σ2 H2=>tb {D with nx:=Pv (i + 1),ct:=Pv (i + 1),bk:=D.nx} σ2 H2) (hd:∀ σ H,Pv n σ H→D.nx σ H) :
  ∃ W:Nat→Nat→St→Hp→Prop,(∃ m,W 0 m σ H)∧∀ i m σ H,W i m σ H→
   ((Itr lo n).stop i H∧D.nx σ H)∨((Itr lo n).go i H∧∃ N:St→Hp→Prop,(∀ σ' H',N σ' H'→∃ m',m' < m∧W (i + 1) m' σ' H')∧∀ x H',(Itr lo n).yld i H x H'→g x σ H' fun σ2 H2=>tb {D with nx:=N,ct:=N,bk:=D.nx} σ2 H2):=by
 refine ⟨fun i m σ H=>m=n - i∧i≤n∧Pv i σ H,⟨n,by simp,Nat.zero_le _,h0⟩,?_⟩
 rintro i m σ H ⟨rfl,hi,p⟩
 by_cases hlt:i < n
 ·refine .inr ⟨hlt,Pv (i + 1),fun σ' H' p'=>⟨n - (i + 1),by omega,rfl,hlt,p'⟩,fun x H' y=>?_⟩
  obtain ⟨e,y⟩:=y
  subst e y
  exact hs i σ _ hlt p
 ·have e:i=n:=by omega
  subst e
  exact .inl ⟨Nat.le_refl _,hd σ H p⟩
end L2
namespace L2
open PySem PySem.Spec PyProof.Rows
abbrev R2:=V→V→Hp→VK→Prop
def OpR (X:Cx) (f:Value→Value→Sem Value) (r:R2):Prop:=
 ∀ (pins:List (Addr×Obj)) (s:Shared) (σ:St) (H:Hp) (x y:V) (v u:Value) (Q:VK),Inv X pins σ H s→RelV x v→RelV y u→r x y H Q→
  wpAny (model X.prog X.w) X.A (f v u) (EP X pins σ Q) X.xe s
def UnR (X:Cx) (f:Value→Sem Value) (r:V→Hp→VK→Prop):Prop:=
 ∀ (pins:List (Addr×Obj)) (s:Shared) (σ:St) (H:Hp) (x:V) (v:Value) (Q:VK),Inv X pins σ H s→RelV x v→r x H Q→
  wpAny (model X.prog X.w) X.A (f v) (EP X pins σ Q) X.xe s
def ZfX (X:Cx) (f:Value) (r:List V→Hp→VK→Prop):Prop:=
 ∀ (pins:List (Addr×Obj)) (s:Shared) (σ:St) (H:Hp) (xs:List V) (us:List Value) (Q:VK),Inv X pins σ H s→Vals xs us→r xs H Q→
  wpAny (model X.prog X.w) X.A (call f us) (EP X pins σ Q) X.xe s
def tOp (r:R2) (ta tb:TE):TE:=fun σ H Q=>ta σ H fun x H1=>tb σ H1 fun y H2=>r x y H2 Q
def tUn (r:V→Hp→VK→Prop) (ta:TE):TE:=fun σ H Q=>ta σ H fun x H1=>r x H1 Q
def rI (C:Int→Int→Prop) (g:Int→Int→V):R2:=fun x y H Q=>∃ i j,x=.int i∧y=.int j∧C i j∧Q (g i j) H
def rI0 (g:Int→Int→V):R2:=fun x y H Q=>∃ i j,x=.int i∧y=.int j∧Q (g i j) H
def rU (g:Int→V):V→Hp→VK→Prop:=fun x H Q=>∃ i,x=.int i∧Q (g i) H
section
variable {X:Cx} {a b c:Expr} {ta tb tc:TE} {pos:Pos}
theorem binT (ha:PE X a ta) (hb:PE X b tb) {pins:List (Addr×Obj)} {s:Shared} {σ:St} {H:Hp} {R:V→V→Hp→Prop} (I:Inv X pins σ H s)
  (h:ta σ H fun x H1=>tb σ H1 fun y H2=>R x y H2) {Q:Value→Shared→Prop} {f:Value→Value→Sem Value}
  (hf:∀ v u s2 x y H2,Inv X pins σ H2 s2→RelV x v→RelV y u→R x y H2→wpAny (model X.prog X.w) X.A (f v u) Q X.xe s2) :
  wpAny (model X.prog X.w) X.A (eval a X.env) (fun v s₁=>wpAny (model X.prog X.w) X.A (eval b X.env) (fun u s₂=>wpAny (model X.prog X.w) X.A (f v u) Q X.xe s₂) X.xe s₁) X.xe s:=by
 try unfold PE at *
 refine thn (ha pins s σ H _ I h) fun v s1 ⟨x,H1,I1,r1,q1⟩=>?_
 refine thn (hb pins s1 σ H1 _ I1 q1) fun u s2 ⟨y,H2,I2,r2,q2⟩=>?_
 exact hf v u s2 x y H2 I2 r1 r2 q2
theorem Zt {op:Operator} {r:R2} (ho:OpR X (binaryOp op) r) (ha:PE X a ta) (hb:PE X b tb):PE X (.BinOp a op b pos) (tOp r ta tb):=by
 try unfold PE
 intro pins s σ H Q I h
 exact wpAny_BinOp (binT ha hb I h fun v u s2 x y H2 I2 rx ry q=>ho pins s2 σ H2 x y v u Q I2 rx ry q)
theorem Zum {op:UnaryOp} {r:V→Hp→VK→Prop} (ho:UnR X (unaryOp op) r) (ha:PE X a ta):PE X (.UnaryOp op a pos) (tUn r ta):=by
 try unfold PE at *
 intro pins s σ H Q I h
 exact UnaryOp_ (thn (ha pins s σ H _ I h) fun v s1 ⟨x,H1,I1,r1,q1⟩=>ho pins s1 σ H1 x v Q I1 r1 q1)
theorem opI {f:Value→Value→Sem Value} {C:Int→Int→Prop} {g:Int→Int→Int}
  (rule:∀ (i j:Int) (t u:Tok) (s:Shared) (Q:Value→Shared→Prop) (E:Value→Shared→Prop),C i j→Q (.int (g i j) s.toks) {s with toks:=s.toks + 1}→wpAny (model X.prog X.w) X.A (f (.int i t) (.int j u)) Q E s) :
  OpR X f (rI C fun i j=>.int (g i j)):=by
 intro pins s σ H x y v u Q I rx ry h
 obtain ⟨i,j,rfl,rfl,hc,q⟩:=h
 obtain ⟨t,rfl⟩:=rx
 obtain ⟨t',rfl⟩:=ry
 exact rule i j t t' s _ _ hc ⟨.int (g i j),H,I.tok _,⟨_,rfl⟩,q⟩
theorem opI0 {f:Value→Value→Sem Value} {g:Int→Int→Int}
  (rule:∀ (i j:Int) (t u:Tok) (s:Shared) (Q:Value→Shared→Prop) (E:Value→Shared→Prop),Q (.int (g i j) s.toks) {s with toks:=s.toks + 1}→wpAny (model X.prog X.w) X.A (f (.int i t) (.int j u)) Q E s) :
  OpR X f (rI0 fun i j=>.int (g i j)):=by
 intro pins s σ H x y v u Q I rx ry h
 obtain ⟨i,j,rfl,rfl,q⟩:=h
 obtain ⟨t,rfl⟩:=rx
 obtain ⟨t',rfl⟩:=ry
 exact rule i j t t' s _ _ ⟨.int (g i j),H,I.tok _,⟨_,rfl⟩,q⟩
theorem opB0 {f:Value→Value→Sem Value} {g:Int→Int→Bool}
  (rule:∀ (i j:Int) (t u:Tok) (s:Shared) (Q:Value→Shared→Prop) (E:Value→Shared→Prop),Q (.bool (g i j)) s→wpAny (model X.prog X.w) X.A (f (.int i t) (.int j u)) Q E s) :
  OpR X f (rI0 fun i j=>.bl (g i j)):=by
 intro pins s σ H x y v u Q I rx ry h
 obtain ⟨i,j,rfl,rfl,q⟩:=h
 obtain ⟨t,rfl⟩:=rx
 obtain ⟨t',rfl⟩:=ry
 exact rule i j t t' s _ _ ⟨.bl (g i j),H,I,rfl,q⟩
def CDiv (i j:Int):Prop:=0 < j∧j < 1073741824
def CPow (i j:Int):Prop:=0≤j∧j≤1000000∧i.natAbs < 2 ^ 64
def CMul (i j:Int):Prop:=(-(2 ^ 64) < i∧i < 2 ^ 64)∨(-(2 ^ 64) < j∧j < 2 ^ 64)
theorem CMul.ok {i j:Int} (h:CMul i j):IntMulOk i j:=by
 rcases h with ⟨h1,h2⟩ | ⟨h1,h2⟩
 ·exact .of_left (intBits_le_64 h1 h2)
 ·exact .of_right (intBits_le_64 h1 h2)
theorem ZcD:OpR X (binaryOp .Add) (rI0 fun i j=>.int (i + j)):=opI0 fun _ _ _ _ _ _ _ q=>add_int q
theorem Zfx:OpR X (binaryOp .Sub) (rI0 fun i j=>.int (i - j)):=opI0 fun _ _ _ _ _ _ _ q=>sub_int q
theorem Zm9:OpR X (binaryOp .Mult) (rI CMul fun i j=>.int (i * j)):=opI fun _ _ _ _ _ _ _ hc q=>mul_int q hc.ok
theorem ZaN:OpR X (binaryOp .FloorDiv) (rI CDiv fun i j=>.int (i / j)):=opI fun i j _ _ _ _ _ hc q=>by
 have h1:(0:Int) < j:=hc.1
 have h2:j < 1073741824:=hc.2
 exact floordiv_int (by omega) (by rw [Int.fdiv_eq_ediv_of_nonneg i (by omega)];exact q) (.inl (PyProof.noPylong_small (by omega)))
theorem ZaT:OpR X (binaryOp .Mod) (rI (fun _ j=>0 < j) fun i j=>.int (i % j)):=opI fun i j _ _ _ _ _ hc q=>by
 have h1:(0:Int) < j:=hc
 exact mod_int' (by omega) (by rw [Int.fmod_eq_emod_of_nonneg i (by omega)];exact q)
theorem ZOz:OpR X (binaryOp .Pow) (rI CPow fun i j=>.int (i ^ j.toNat)):=opI fun _ _ _ _ _ _ _ hc q=>pow_int_small hc.1 hc.2.1 hc.2.2 q
theorem ZOx:OpR X (binaryOp .LShift) (rI CPow fun i j=>.int (i * 2 ^ j.toNat)):=opI fun _ _ _ _ _ _ _ hc q=>lshift_int_small hc.1 hc.2.1 hc.2.2 q
theorem unI {f:Value→Sem Value} {g:Int→Int}
  (rule:∀ (i:Int) (t:Tok) (s:Shared) (Q:Value→Shared→Prop) (E:Value→Shared→Prop),Q (.int (g i) s.toks) {s with toks:=s.toks + 1}→wpAny (model X.prog X.w) X.A (f (.int i t)) Q E s) :
  UnR X f (rU fun i=>.int (g i)):=by
 intro pins s σ H x v Q I rx h
 obtain ⟨i,rfl,q⟩:=h
 obtain ⟨t,rfl⟩:=rx
 exact rule i t s _ _ ⟨.int (g i),H,I.tok _,⟨_,rfl⟩,q⟩
theorem Zhz:UnR X (unaryOp .USub) (rU fun i=>.int (-i)):=unI fun _ _ _ _ _ q=>neg_int q
end
def scal:V→V→Bool
 | .non,.non=>true | .non,.int _=>true | .int _,.non=>true | .non,.bl _=>true | .bl _,.non=>true | .non,.str _=>true | .str _,.non=>true
 | .int _,.int _=>true | .bl _,.bl _=>true | .str _,.str _=>true | .byt _,.byt _=>true
 | .int _,.str _=>true | .str _,.int _=>true | .bl _,.str _=>true | .str _,.bl _=>true
 | _,_=>false
def rEq:R2:=fun x y H Q=>scal x y=true∧Q (.bl (decide (x=y))) H
def rNe:R2:=fun x y H Q=>scal x y=true∧Q (.bl (!decide (x=y))) H
theorem ZMb {i j:Int}:decide (V.int i=V.int j)=(i == j):=by
 rw [Bool.eq_iff_iff]
 simp
theorem ZOI {i j:Bool}:decide (V.bl i=V.bl j)=(i == j):=by
 rw [Bool.eq_iff_iff]
 simp
theorem ZMa {i j:Str}:decide (V.str i=V.str j)=(i == j):=by
 rw [Bool.eq_iff_iff]
 simp
theorem ZMc {i j:Array UInt8}:decide (V.byt i=V.byt j)=(i.toList == j.toList):=by
 rw [Bool.eq_iff_iff]
 cases i
 cases j
 simp
section
variable {X:Cx} {a b c:Expr} {ta tb tc:TE} {pos:Pos}
theorem Zag {pins:List (Addr×Obj)} {σ:St} {H:Hp} {s:Shared} {Q:VK} {k k':Bool} (I:Inv X pins σ H s) (q:Q (.bl k) H) (e:k=k'):EP X pins σ Q (.bool k') s:=by
 subst e
 exact ⟨.bl k,H,I,rfl,q⟩
theorem Zuq:OpR X (compareOp .Eq) rEq:=by
 intro pins s σ H x y v u Q I rx ry h
 obtain ⟨hs,q⟩:=h
 cases x with
 | non=>
  cases rx
  cases y with
  | non=>cases ry;exact PySem.EqNone.eq_none_none (Zag I q (by simp))
  | bl j=>cases ry;exact PySem.EqNone.eq_none_bool (Zag I q (by simp))
  | int j=>obtain ⟨t',rfl⟩:=ry;exact PySem.EqNone.eq_none_int (Zag I q (by simp))
  | str j=>obtain ⟨t',rfl⟩:=ry;exact PySem.EqNone.eq_none_str (Zag I q (by simp))
  | _=>exact absurd (show false=true from hs) Bool.false_ne_true
 | bl i=>
  cases rx
  cases y with
  | non=>cases ry;exact PySem.EqNone.eq_bool_none (Zag I q (by simp))
  | bl j=>cases ry;exact eq_bool (Zag I q ZOI)
  | str j=>obtain ⟨t',rfl⟩:=ry;exact PySem.EqMixed.eq_bool_str (Zag I q (by simp))
  | _=>exact absurd (show false=true from hs) Bool.false_ne_true
 | int i=>
  obtain ⟨t,rfl⟩:=rx
  cases y with
  | non=>cases ry;exact PySem.EqNone.eq_int_none (Zag I q (by simp))
  | int j=>obtain ⟨t',rfl⟩:=ry;exact eq_int (Zag I q ZMb)
  | str j=>obtain ⟨t',rfl⟩:=ry;exact PySem.EqMixed.eq_int_str (Zag I q (by simp))
  | _=>exact absurd (show false=true from hs) Bool.false_ne_true
 | str i=>
  obtain ⟨t,rfl⟩:=rx
  cases y with
  | non=>cases ry;exact PySem.EqNone.eq_str_none (Zag I q (by simp))
  | bl j=>cases ry;exact PySem.EqMixed.eq_str_bool (Zag I q (by simp))
  | int j=>obtain ⟨t',rfl⟩:=ry;exact PySem.EqMixed.eq_str_int (Zag I q (by simp))
  | str j=>obtain ⟨t',rfl⟩:=ry;exact eq_str (Zag I q ZMa)
  | _=>exact absurd (show false=true from hs) Bool.false_ne_true
 | byt i=>
  obtain ⟨t,rfl⟩:=rx
  cases y with
  | byt j=>obtain ⟨t',rfl⟩:=ry;exact PySem.W.eq_bytes (Zag I q ZMc)
  | _=>exact absurd (show false=true from hs) Bool.false_ne_true
 | _=>cases y <;> exact absurd (show false=true from hs) Bool.false_ne_true
theorem ZPu:OpR X (compareOp .NotEq) rNe:=by
 intro pins s σ H x y v u Q I rx ry h
 obtain ⟨hs,q⟩:=h
 cases x with
 | non=>
  cases rx
  cases y with
  | non=>cases ry;exact PySem.EqNone.ne_none_none (Zag I q (by simp))
  | bl j=>cases ry;exact PySem.EqNone.ne_none_bool (Zag I q (by simp))
  | int j=>obtain ⟨t',rfl⟩:=ry;exact PySem.EqNone.ne_none_int (Zag I q (by simp))
  | str j=>obtain ⟨t',rfl⟩:=ry;exact PySem.EqNone.ne_none_str (Zag I q (by simp))
  | _=>exact absurd (show false=true from hs) Bool.false_ne_true
 | bl i=>
  cases rx
  cases y with
  | non=>cases ry;exact PySem.EqNone.ne_bool_none (Zag I q (by simp))
  | bl j=>cases ry;exact ne_bool (Zag I q (congrArg not ZOI))
  | str j=>obtain ⟨t',rfl⟩:=ry;exact PySem.EqMixed.ne_bool_str (Zag I q (by simp))
  | _=>exact absurd (show false=true from hs) Bool.false_ne_true
 | int i=>
  obtain ⟨t,rfl⟩:=rx
  cases y with
  | non=>cases ry;exact PySem.EqNone.ne_int_none (Zag I q (by simp))
  | int j=>obtain ⟨t',rfl⟩:=ry;exact ne_int (Zag I q (congrArg not ZMb))
  | str j=>obtain ⟨t',rfl⟩:=ry;exact PySem.EqMixed.ne_int_str (Zag I q (by simp))
  | _=>exact absurd (show false=true from hs) Bool.false_ne_true
 | str i=>
  obtain ⟨t,rfl⟩:=rx
  cases y with
  | non=>cases ry;exact PySem.EqNone.ne_str_none (Zag I q (by simp))
  | bl j=>cases ry;exact PySem.EqMixed.ne_str_bool (Zag I q (by simp))
  | int j=>obtain ⟨t',rfl⟩:=ry;exact PySem.EqMixed.ne_str_int (Zag I q (by simp))
  | str j=>obtain ⟨t',rfl⟩:=ry;exact ne_str (Zag I q (congrArg not ZMa))
  | _=>exact absurd (show false=true from hs) Bool.false_ne_true
 | byt i=>
  obtain ⟨t,rfl⟩:=rx
  cases y with
  | byt j=>obtain ⟨t',rfl⟩:=ry;exact PySem.W.ne_bytes (Zag I q (congrArg not ZMc))
  | _=>exact absurd (show false=true from hs) Bool.false_ne_true
 | _=>cases y <;> exact absurd (show false=true from hs) Bool.false_ne_true
theorem ZQ1:OpR X (compareOp .Lt) (rI0 fun i j=>.bl (decide (i < j))):=opB0 fun _ _ _ _ _ _ _ q=>lt_int q
theorem ZCD:OpR X (compareOp .Gt) (rI0 fun i j=>.bl (decide (j < i))):=opB0 fun _ _ _ _ _ _ _ q=>gt_int q
theorem ZR3:OpR X (compareOp .GtE) (rI0 fun i j=>.bl (decide (j≤i))):=opB0 fun _ _ _ _ _ _ _ q=>ge_int q
theorem ZLd:OpR X (compareOp .In) (fun x y H Q=>∃ i j,x=.str i∧y=.str j∧Q (.bl (!(Builtin.Str.occurrences j i 0 j.length 1).isEmpty)) H):=by
 intro pins s σ H x y v u Q I rx ry h
 obtain ⟨i,j,rfl,rfl,q⟩:=h
 obtain ⟨t,rfl⟩:=rx
 obtain ⟨t',rfl⟩:=ry
 exact in_str (Zag I q rfl)
theorem Zac (b:Expr) {op:CmpOp} (h:op≠.In:=by decide) (h2:op≠.NotIn:=by decide):behindInMarks op b=false:=by
 have e1:(op == CmpOp.In)=false:=by cases op <;> first | rfl | exact absurd rfl h
 have e2:(op == CmpOp.NotIn)=false:=by cases op <;> first | rfl | exact absurd rfl h2
 cases b <;> simp [behindInMarks,e1,e2]
theorem ZPs {op:CmpOp} {r:R2} (ho:OpR X (compareOp op) r) (ha:PE X a ta) (hb:PE X b tb) (hm:behindInMarks op b=false):PE X (.Compare a [op] [b] pos) (tOp r ta tb):=by
 try unfold PE
 intro pins s σ H Q I h
 exact wpAny_Compare1 (binT ha hb I h fun v u s2 x y H2 I2 rx ry q=>ho pins s2 σ H2 x y v u Q I2 rx ry q) hm
def ZQs (t:TE):TT:=fun σ H Q=>t σ H fun x H'=>∃ k,x=.bl k∧Q k H'
theorem ZU {op:CmpOp} {r:R2} (ho:OpR X (compareOp op) r) (ha:PE X a ta) (hb:PE X b tb) (hm:behindInMarks op b=false):PT X (.Compare a [op] [b] pos) (ZQs (tOp r ta tb)):=by
 try unfold PE at *
 intro pins s σ H Q I h
 refine wpAny_isTrue_Compare1 (thn (ha pins s σ H _ I h) fun v s1 ⟨x,H1,I1,r1,q1⟩=>thn (hb pins s1 σ H1 _ I1 q1) fun u s2 ⟨y,H2,I2,r2,q2⟩=>
  thn (ho pins s2 σ H2 x y v u _ I2 r1 r2 q2) fun c s3 ⟨z,H3,I3,r3,k,e,q3⟩=>?_) hm
 subst e
 cases r3
 exact wpAny_truthy_bool ⟨H3,I3,q3⟩
theorem ZDd:(sizeLine:Nat) < 2 ^ 63:=by rw [sizeLine_eq];decide
theorem ZKi {x:V} {us:List Value} (r:Vals [x] us):∃ u,us=[u]∧RelV x u:=by
 cases r with
 | cons r1 r2=>cases r2;exact ⟨_,rfl,r1⟩
theorem ZQq {x y:V} {us:List Value} (r:Vals [x,y] us):∃ u w',us=[u,w']∧RelV x u∧RelV y w':=by
 cases r with
 | cons r1 r2=>
  cases r2 with
  | cons r3 r4=>cases r4;exact ⟨_,_,rfl,r1,r3⟩
theorem ZvE (hc:X.calm=true):ZfX X (.builtin "max") (fun xs H Q=>∃ i j,xs=[.int i,.int j]∧Q (.int (if j > i then j else i)) H):=by
 intro pins s σ H xs us Q I r h
 obtain ⟨i,j,rfl,q⟩:=h
 obtain ⟨u,w',rfl,⟨t,rfl⟩,⟨t',rfl⟩⟩:=ZQq r
 refine max_two_ints (I.ok.hd hc) fun h' tk k=>⟨_,H,I.kept k,?_,q⟩
 by_cases hj:j > i
 ·rw [if_pos hj,if_pos hj];exact ⟨_,rfl⟩
 ·rw [if_neg hj,if_neg hj];exact ⟨_,rfl⟩
theorem ZEc (hc:X.calm=true):ZfX X (.builtin "min") (fun xs H Q=>∃ i j,xs=[.int i,.int j]∧Q (.int (if j < i then j else i)) H):=by
 intro pins s σ H xs us Q I r h
 obtain ⟨i,j,rfl,q⟩:=h
 obtain ⟨u,w',rfl,⟨t,rfl⟩,⟨t',rfl⟩⟩:=ZQq r
 refine min_two_ints (I.ok.hd hc) fun h' tk k=>⟨_,H,I.kept k,?_,q⟩
 by_cases hj:j < i
 ·rw [if_pos hj,if_pos hj];exact ⟨_,rfl⟩
 ·rw [if_neg hj,if_neg hj];exact ⟨_,rfl⟩
end
end L2
namespace L2
open PySem PySem.Spec PyProof.Rows
structure ObjM (h:Heap) (x dx C:Addr) (mA:Str→Option Value):Prop where
 obj:h.get? x=some (PySem.W.instObj C dx)
 ns:h.Ns1 dx mA
 ne:dx≠x
theorem ZLB {h:Heap} {dx:Addr} {mA:Str→Option Value} (n:h.Ns1 dx mA):∃ od,h.get? dx=some od∧∀ name,PySem.W.lookIn name od=some (mA name):=by
 obtain ⟨o,es,ep,ho,hd,hk,_,hm⟩:=n
 refine ⟨o,ho,fun name=>?_⟩
 have e:=hm name
 unfold nsFind findBy at e
 rw [← Array.find?_toList] at e
 unfold PySem.W.lookIn
 rw [hd]
 dsimp only
 split
 ·rename_i y q
  rw [q] at e
  exact congrArg some e
 ·rename_i q
  rw [q] at e
  have a:es.toList.any (·.refKey)=false:=by
   rw [List.any_eq_false]
   intro y hy
   obtain ⟨z,t,hkey⟩:=hk y (Array.mem_toList_iff.mp hy)
   simp [DictEntry.refKey,hkey]
  have a':¬ es.toList.any (·.refKey)=true:=by rw [a];exact Bool.false_ne_true
  rw [if_neg a']
  exact congrArg some e
theorem ObjM.look {h:Heap} {x dx C:Addr} {mA:Str→Option Value} (I:ObjM h x dx C mA):∃ od,PySem.W.InstAt h x (PySem.W.instObj C dx) C (some od)∧∀ name,PySem.W.lookIn name od=some (mA name):=
 let ⟨od,ho,hl⟩:=ZLB I.ns
 ⟨od,⟨I.obj,rfl,rfl,ho⟩,hl⟩
section
variable {prog:Program} {w:World} {A:Around} {E:Value→Shared→Prop} {s:Shared} {K:PySem.W.Frag} {x dx C f:Addr} {mA:Str→Option Value} {name:Str} {v:Value}
theorem ZPZ {expr:Bool} {Q:Value→Shared→Prop} (X:K.In s.heap) (I:ObjM s.heap x dx C mA) (hg:PySem.W.plainGet K C name=true) (hh:PySem.W.hasDictIn K C=true)
  (ha:PySem.W.findIn K (.ref C) name=some none) (hv:mA name=some v) (hv':PySem.W.handedIn v=true) (h:Q v {s with toks:=s.toks + 1}) :
  wpAny (model prog w) A (getAttr (.ref x) name expr) Q E s:=by
 obtain ⟨od,J,hl⟩:=I.look
 exact PySem.W.get_value X J (PySem.W.plainGet_of hg).1 (PySem.W.findObj_own hh ha rfl (by rw [hl,hv])) hv' h
theorem ZNQ {pl:Sem Bool} {Q:Value×List Value→Shared→Prop} (X:K.In s.heap) (I:ObjM s.heap x dx C mA) (hg:PySem.W.plainGet K C name=true)
  (hf:PySem.W.findIn K (.ref C) name=some (some (.ref f))) (ht:PySem.W.isFn K (.ref f)=true) (hv:mA name=none) (h:Q (.ref f,[.ref x]) s) :
  wpAny (model prog w) A (getMethod (.ref x) name pl) Q E s:=by
 obtain ⟨od,J,hl⟩:=I.look
 exact PySem.W.method_fn X J (PySem.W.plainGet_of hg).1 (PySem.W.plainGet_of hg).2 hf (beq_iff_eq.mp ht) (by show (PySem.W.lookIn name od).map (·.isSome)=some false;rw [hl,hv];rfl) h
theorem ZPh {ns:List Str} {Q:Unit→Shared→Prop} (X:K.In s.heap) (I:ObjM s.heap x dx C mA)
  (hs:PySem.W.findIn K (.ref C) "__setattr__"=some (some (.builtin "object.__setattr__"))) (hp:PySem.W.plainOver K C=true) (ht:PySem.W.takerIn K C name=some none) (hh:PySem.W.hasDictIn K C=true)
  (hw:PySem.Within mA ns) (hsz:ns.length≤sizeLine)
  (h:∀ h',ObjM h' x dx C (fun y=>if y=name then some v else mA y)→Heap.SameBut dx s.heap h'→Q () {s with heap:=h',toks:=s.toks + 2}) :
  wpAny (model prog w) A (setAttr (.ref x) name v) Q E s:=by
 obtain ⟨od,J,hl⟩:=I.look
 refine PySem.W.set_plain X J hs (PySem.W.osa_open (s:={s with toks:=s.toks + 1}) (r:=none) X J hp ht fun b=>?_)
 obtain ⟨cd,hc,hd'⟩:=PySem.W.any_some hh
 have hx:s.heap.get? x=some ⟨.ref C,some dx,.plain,#[]⟩:=I.obj
 refine wpAny_bind (wpAny_pure (wpAny_bind (wpAny_bind (wpAny_loadPart hx (wpAny_bind (PySem.W.Looks.here (s:={s with toks:=s.toks + 1}) (PySem.W.looks_clsIn X hc) ?_))))))
 rw [hd']
 refine wpAny_pure (a:=some dx) (wpAny_bind (wpAny_pure (wpAny_bind ?_)))
 refine wpAny_nsSet1 (s:={s with toks:=s.toks + 1}) I.ns fun h' hn2 hs2=>?_
 obtain ⟨oD,esD,epD,hoD,hdD,hcD⟩:=hn2.count (PySem.Within.cons name v hw)
 refine wpAny_bind (wpAny_lookBehind hoD (by rw [hdD];exact pastItsLine_dict (Nat.le_trans hcD (by rw [List.length_cons];omega))) ?_)
 exact wpAny_pure (h _ ⟨(hs2.2 _ (Ne.symm I.ne)).trans I.obj,hn2,I.ne⟩ hs2)
theorem ZNy {R:Result→Shared→Prop} {vs:List Value} {kw:List (Str×Value)} (X:K.In s.heap) (hm:PySem.W.makesIn K C=true)
  (hi:PySem.W.findIn K (.ref C) "__init__"=some (some (.ref f))) (hf:PySem.W.typeIn K (.ref f)=some (.type "function"))
  (h:codeAny (model prog w) (A.under (.builtin "type.__call__" ⟨.ref C::vs,kw⟩)) (.call (.ref f) ⟨.ref (s.heap.objs.size + 1)::vs,kw⟩) (PySem.W.InitBack (s.heap.objs.size + 1) R)
   {s with heap:=(s.heap.push PySem.W.emptyDict).push (PySem.W.instObj C s.heap.objs.size)}) :
  codeAny (model prog w) A (.call (.ref C) ⟨vs,kw⟩) R s:=by
 obtain ⟨hh,g,d,t,os⟩:=s
 exact PySem.W.make_core (PySem.W.makes_of X hm) (PySem.W.looks_findIn X hi) (fun self=>PySem.W.bind_fn X self hf) (.inl rfl) h
end
def putF (f:Str) (v:V):List (Str×V)→List (Str×V)
  | []=>[(f,v)]
  | (g,x)::r=>if g=f then (g,v)::r else (g,x)::putF f v r
theorem Zl (f g:Str) (v:V):∀ fs:List (Str×V),(putF f v fs).lookup g=if g=f then some v else fs.lookup g
  | []=>by
    show List.lookup g [(f,v)]=_
    by_cases h:g=f
    · have hb:(g == f)=true:=beq_iff_eq.mpr h
      simp only [List.lookup,hb,if_pos h]
    · have hb:(g == f)=false:=beq_eq_false_iff_ne.mpr h
      simp only [List.lookup,hb,if_neg h]
  | (k,x)::r=>by
    have ih:=Zl f g v r
    rw [show putF f v ((k,x)::r)=(if k=f then (k,v)::r else (k,x)::putF f v r) from rfl]
    by_cases hk:k=f
    · rw [if_pos hk]
      by_cases h:g=k
      · have hb:(g == k)=true:=beq_iff_eq.mpr h
        simp only [List.lookup,hb,if_pos (h.trans hk)]
      · have hb:(g == k)=false:=beq_eq_false_iff_ne.mpr h
        simp only [List.lookup,hb,if_neg (fun e:g=f=>h (e.trans hk.symm))]
    · rw [if_neg hk]
      by_cases h:g=k
      · have hb:(g == k)=true:=beq_iff_eq.mpr h
        simp only [List.lookup,hb,if_neg (fun e:g=f=>hk (h.symm.trans e))]
      · have hb:(g == k)=false:=beq_eq_false_iff_ne.mpr h
        simp only [List.lookup,hb]
        exact ih
theorem Zu0 (f:Str) (v:V):∀ fs:List (Str×V),f∈(putF f v fs).map (·.1)∧∀ g,g∈fs.map (·.1)→g∈(putF f v fs).map (·.1)
  | []=>⟨by simp [putF],fun g h=>by simp at h⟩
  | (k,x)::r=>by
    obtain ⟨i1,i2⟩:=Zu0 f v r
    rw [show putF f v ((k,x)::r)=(if k=f then (k,v)::r else (k,x)::putF f v r) from rfl]
    by_cases hk:k=f
    · rw [if_pos hk]
      subst hk
      exact ⟨by simp,fun g h=>by simpa using h⟩
    · rw [if_neg hk]
      refine ⟨?_,fun g h=>?_⟩
      · rw [List.map_cons]
        exact List.mem_cons_of_mem _ i1
      · rw [List.map_cons] at h ⊢
        rcases List.mem_cons.mp h with e | e
        · exact List.mem_cons.mpr (.inl e)
        · exact List.mem_cons_of_mem _ (i2 g e)
theorem ZuO (f:Str) (v:V):∀ fs:List (Str×V),(putF f v fs).length≤fs.length + 1
  | []=>by simp [putF]
  | (k,x)::r=>by
    have ih:=ZuO f v r
    rw [show putF f v ((k,x)::r)=(if k=f then (k,v)::r else (k,x)::putF f v r) from rfl]
    by_cases hk:k=f
    · rw [if_pos hk,List.length_cons,List.length_cons];omega
    · rw [if_neg hk,List.length_cons,List.length_cons];omega
theorem RelO.some_of {v:V} {o:Option Value} (r:RelO (some v) o):∃ u,o=some u∧RelV v u:=by
 cases o with
 | none=>exact (show False from r).elim
 | some u=>exact ⟨u,rfl,r⟩
theorem RelO.none_of {o:Option Value} (r:RelO none o):o=none:=by
 cases o with
 | none=>rfl
 | some u=>exact (show False from r).elim
theorem ZLQ {v:V} {u:Value} (r:RelV v u):PySem.W.handedIn u=true:=by
 cases v with
 | non=>cases (show u=Value.none from r);rfl
 | bl b=>cases (show u=Value.bool b from r);rfl
 | int i=>obtain ⟨t,e⟩:=(show ∃ t,u=Value.int i t from r);cases e;rfl
 | str x=>obtain ⟨t,e⟩:=(show ∃ t,u=Value.str x t from r);cases e;rfl
 | byt b=>obtain ⟨t,e⟩:=(show ∃ t,u=Value.bytes b t from r);cases e;rfl
 | flt b=>obtain ⟨t,e⟩:=(show ∃ t,u=Value.float b t from r);cases e;rfl
 | ref a=>cases (show u=Value.ref a from r);rfl
 | ty n=>cases (show u=Value.type n from r);rfl
section
variable {P:Program} {w:World} {H H':Hp} {h h':Heap} {a C dx:Addr} {fs fs':List (Str×V)}
theorem ZAF (hok:HOk P w H h) (e:H a=some (.ins C dx fs)):∃ mA,ObjM h a dx C mA∧(∀ f,RelO (fs.lookup f) (mA f))∧PySem.Within mA (fs.map (·.1))∧fs.length≤1000∧H dx=some (.own a):=by
 obtain ⟨d,z,ne,ob,mA,n,r,q⟩:=(show ZaB P w H h a (.ins C dx fs) from hok a _ e)
 exact ⟨mA,⟨ob,n,ne⟩,r,q,z,d⟩
end
structure Cls (K:PySem.W.Frag) (C:Addr):Prop where
 pg:PySem.W.plainGet K C Str.empty=true
 hd:PySem.W.hasDictIn K C=true
 po:PySem.W.plainOver K C=true
 sa:PySem.W.findIn K (.ref C) "__setattr__"=some (some (.builtin "object.__setattr__"))
theorem Cls.get {K:PySem.W.Frag} {C:Addr} (c:Cls K C) (f:Str):PySem.W.plainGet K C f=true:=c.pg
def ZaU (K:PySem.W.Frag) (C:Addr) (f:Str):Prop:=PySem.W.findIn K (.ref C) f=some none
theorem ZaU.taker {K:PySem.W.Frag} {C:Addr} {f:Str} (n:ZaU K C f):PySem.W.takerIn K C f=some none:=by
 unfold PySem.W.takerIn
 rw [show PySem.W.findIn K (.ref C) f=some none from n]
 rfl
structure Meth (K:PySem.W.Frag) (C:Addr) (m:Str) (f:Addr):Prop where
 at_:PySem.W.findIn K (.ref C) m=some (some (.ref f))
 fn:PySem.W.isFn K (.ref f)=true
 kp:PySem.W.keepIn K (.ref f)=true
section
variable {X:Cx} {pins:List (Addr×Obj)} {σ:St} {H:Hp} {s:Shared} {a C dx:Addr} {fs:List (Str×V)} {f:Str} {v:V} {A:Around} {E:Value→Shared→Prop}
theorem ZJO {b:Bool} {Q:Value→Shared→Prop} (I:Inv X pins σ H s) (e:H a=some (.ins C dx fs)) (c:Cls X.K C) (n:ZaU X.K C f) (l:fs.lookup f=some v)
  (h:∀ u s',Inv X pins σ H s'→RelV v u→Q u s'):wpAny (model X.prog X.w) A (getAttr (.ref a) f b) Q E s:=by
 obtain ⟨mA,O,r,_,_,_⟩:=ZAF I.hok e
 obtain ⟨u,hu,ru⟩:=RelO.some_of (v:=v) (o:=mA f) (by rw [← l];exact r f)
 exact ZPZ I.kIn O (c.get f) c.hd n hu (ZLQ ru) (h u _ (I.tok _) ru)
theorem ZxT {m:Str} {g:Addr} {pl:Sem Bool} {Q:Value×List Value→Shared→Prop} (I:Inv X pins σ H s) (e:H a=some (.ins C dx fs)) (c:Cls X.K C) (k:Meth X.K C m g) (l:fs.lookup m=none)
  (h:Q (.ref g,[.ref a]) s):wpAny (model X.prog X.w) A (getMethod (.ref a) m pl) Q E s:=by
 obtain ⟨mA,O,r,_,_,_⟩:=ZAF I.hok e
 have hn:mA m=none:=RelO.none_of (by rw [← l];exact r m)
 exact ZNQ I.kIn O (c.get m) k.at_ k.fn hn h
theorem ZIX {y:V} {u:Value} {Q:Unit→Shared→Prop} (I:Inv X pins σ H s) (e:H a=some (.ins C dx fs)) (c:Cls X.K C) (n:ZaU X.K C f) (hl:fs.length < 1000) (ry:RelV y u)
  (h:∀ s',Inv X pins σ (upd H a (.ins C dx (putF f y fs))) s'→Q () s'):wpAny (model X.prog X.w) A (setAttr (.ref a) f u) Q E s:=by
 obtain ⟨mA,O,r,wi,_,ho⟩:=ZAF I.hok e
 have hz:(fs.map (·.1)).length≤sizeLine:=by rw [List.length_map,sizeLine_eq];omega
 refine ZPh I.kIn O c.sa c.po n.taker c.hd wi hz fun h' O' sb=>h _ ?_
 have hd:∃ o,h'.get? dx=some o:=let ⟨o,_,_,e',_⟩:=O'.ns;⟨o,e'⟩
 refine I.write (x:=a) (e:=dx) (by rw [e];exact True.intro) (.inr ho) (fun b q hb z=>(sb.2 b hb).trans z) hd ?_
 refine ⟨by rw [Zd O.ne];exact ho,?_,O.ne,O'.obj,_,O'.ns,fun g=>?_,fun g hg=>?_⟩
 ·have:=ZuO f y fs;omega
 ·show RelO ((putF f y fs).lookup g) (if g=f then some u else mA g)
  rw [Zl]
  by_cases q:g=f
  ·rw [if_pos q,if_pos q];exact ry
  ·rw [if_neg q,if_neg q];exact r g
 ·by_cases q:g=f
  ·rw [q];exact (Zu0 f y fs).1
  ·refine (Zu0 f y fs).2 g (wi g fun z=>hg ?_)
   show (if g=f then some u else mA g)=none
   rw [if_neg q];exact z
theorem Inv.made (I:Inv X pins σ H s):Inv X pins σ (upd (upd H s.heap.objs.size (.own (s.heap.objs.size + 1))) (s.heap.objs.size + 1) (.ins C s.heap.objs.size []))
  {s with heap:=(s.heap.push PySem.W.emptyDict).push (PySem.W.instObj C s.heap.objs.size)}:=by
 have e1:(s.heap.push PySem.W.emptyDict).get? s.heap.objs.size=some PySem.W.emptyDict:=Heap.get?_push_size s.heap rfl
 have e2:((s.heap.push PySem.W.emptyDict).push (PySem.W.instObj C s.heap.objs.size)).get? (s.heap.objs.size + 1)=some (PySem.W.instObj C s.heap.objs.size):=by
  have:=Heap.get?_push_size (s.heap.push PySem.W.emptyDict) (o:=PySem.W.instObj C s.heap.objs.size) rfl
  rwa [Heap.size_push] at this
 have e3:(s.heap.push PySem.W.emptyDict).Ns s.heap.objs.size (fun _=>none):=⟨PySem.W.emptyDict,#[],_,e1,rfl,(fun e he=>absurd he (by simp)),fun _=>rfl⟩
 have I1:=I.laid (a:=s.heap.objs.size) (o:=.own (s.heap.objs.size + 1)) (h':=s.heap.push PySem.W.emptyDict) (t':=s.toks) (fun b u q=>Heap.get?_push_of_some _ q) (Nat.le_refl _) ⟨_,e1⟩
 refine I1.laid (a:=s.heap.objs.size + 1) (o:=.ins C s.heap.objs.size []) (t':=s.toks) (fun b u q=>Heap.get?_push_of_some _ q) (Nat.le_of_eq (Heap.size_push _ _)) ?_
 have ne:s.heap.objs.size≠s.heap.objs.size + 1:=Nat.ne_of_lt (Nat.lt_succ_self _)
 refine ⟨by rw [Zd ne,Zb],Nat.zero_le _,ne,e2,fun _=>none,(Heap.Ns1.of_empty e3).at fun o q=>Heap.get?_push_of_some _ q,fun _=>True.intro,fun y hy=>absurd rfl hy⟩
theorem ZQe {prog:Program} {w:World} {env:Env} {e:Expr} {f:Str} {pos:Pos} {s:Shared} {Q:Value→Shared→Prop} (hb:attributeBase e f env (eval e env)=eval e env)
  (h:wpAny (model prog w) A (eval e env) (fun o s₁=>wpAny (model prog w) A (getAttr o f true) Q E s₁) E s):wpAny (model prog w) A (eval (.Attribute e f pos) env) Q E s:=
 Attribute_any_ h (by rw [arm_eval_Attribute,hb])
end
def tFld (K:PySem.W.Frag) (ta:TE) (f:Str):TE:=fun σ H Q=>ta σ H fun x H1=>∃ a C dx fs v,x=.ref a∧H1 a=some (.ins C dx fs)∧Cls K C∧ZaU K C f∧fs.lookup f=some v∧Q v H1
def sFld (K:PySem.W.Frag) (ta tv:TE) (f:Str):TS:=fun D σ H=>tv σ H fun y H1=>ta σ H1 fun x H2=>∃ a C dx fs,x=.ref a∧H2 a=some (.ins C dx fs)∧Cls K C∧ZaU K C f∧fs.length < 1000∧
 D.nx σ (upd H2 a (.ins C dx (putF f y fs)))
section
variable {X:Cx} {o e value:Expr} {f:Str} {pos pos' tpos:Pos} {ta tv:TE}
theorem ZC (he:PE X e ta) (hb:attributeBase e f X.env (eval e X.env)=eval e X.env):PE X (.Attribute e f pos) (tFld X.K ta f):=by
 try unfold PE at *
 intro pins s σ H Q I h
 refine ZQe hb (thn (he pins s σ H _ I h) fun u s1 ⟨x,H1,I1,rx,a,C,dx,fs,v,ex,ea,c,n,l,q⟩=>?_)
 subst ex
 obtain rfl:u=Value.ref a:=rx
 exact ZJO I1 ea c n l fun u' s2 I2 ru=>⟨v,H1,I2,ru,q⟩
theorem Za3 (ha:PE X o ta) (hv:PE X value tv) (hs:swapsWith value (some (.Attribute o f pos')) pos.line X.env=pure false):PS X (.Assign [.Attribute o f pos'] value pos) (sFld X.K ta tv f):=by
 try unfold PE at *;try unfold PS at *
 intro pins s σ H D I h
 refine plainObj_wpAny_Assign_Attribute (thn (hv pins s σ H _ I h) fun u s1 ⟨y,H1,I1,ry,q⟩=>thn (ha pins s1 σ H1 _ I1 q) fun ov s2 ⟨x,H2,I2,rx,a,C,dx,fs,ex,ea,c,n,l,q2⟩=>?_) hs
 subst ex
 obtain rfl:ov=Value.ref a:=rx
 exact ZIX I2 ea c n l ry fun s3 I3=>⟨σ,_,I3,q2⟩
end
section
variable {X:Cx} {pins:List (Addr×Obj)} {σ:St} {H:Hp} {s:Shared} {A:Around} {E:Value→Shared→Prop} {Q:Value→Shared→Prop} {c:Value} {b:Bool}
inductive TyOf (K:PySem.W.Frag) (H:Hp):V→Value→Prop where
 | non:TyOf K H .non (.type "NoneType")
 | bl (x:Bool):TyOf K H (.bl x) (.type "bool")
 | int (i:Int):TyOf K H (.int i) (.type "int")
 | str (x:Str):TyOf K H (.str x) (.type "str")
 | flt (x:UInt64):TyOf K H (.flt x) (.type "float")
 | lst {a:Addr} {xs:List V} (e:H a=some (.lst xs)):TyOf K H (.ref a) (.type "list")
 | frz {a:Addr} {o:Obj} {xs:List V} (e:H a=some (.frz o (.lst xs))):TyOf K H (.ref a) (.type "list")
 | tup {a:Addr} {xs:List V} (e:H a=some (.tup xs)):TyOf K H (.ref a) (.type "tuple")
 | dK {a:Addr} {kvs:List (Key×V)} (e:H a=some (.dK kvs)):TyOf K H (.ref a) (.type "dict")
 | dT {a:Addr} {kvs:List (List Key×V)} (e:H a=some (.dT kvs)):TyOf K H (.ref a) (.type "dict")
 | ins {a C dx:Addr} {fs:List (Str×V)} (e:H a=some (.ins C dx fs)) (cl:Cls K C) (ha:PySem.W.findIn K (.ref C) "__class__"=some (some (.builtin "object.__class__")))
   (hn:PySem.W.specialIn K (.builtin "object.__class__") "__get__"=some (some (.builtin "getset_descriptor.__get__"))) (htk:PySem.W.takesIn K (.builtin "object.__class__")=some true)
   (hm:PySem.W.mroIn K C (.type "object")=some true):TyOf K H (.ref a) (.ref C)
theorem ZLL {x:V} {u t:Value} (I:Inv X pins σ H s) (rx:RelV x u) (ty:TyOf X.K H x t) (e:PySem.W.kitOne X.K t c=some b) (h:∀ tk,Q (.bool b) {s with toks:=tk}) :
  wpAny (model X.prog X.w) A (call (.builtin "isinstance") [u,c]) Q E s:=by
 cases ty with
 | non=>cases (show u=Value.none from rx);exact PySem.W.kia_one PySem.W.kitx_none I.kIn True.intro e (fun z=>nomatch z) h
 | bl y=>cases (show u=Value.bool y from rx);exact PySem.W.kia_one PySem.W.kitx_bool I.kIn True.intro e (fun z=>nomatch z) h
 | int i=>obtain ⟨t,q⟩:=(show ∃ t,u=Value.int i t from rx);cases q;exact PySem.W.kia_one PySem.W.kitx_int I.kIn True.intro e (fun z=>nomatch z) h
 | str y=>obtain ⟨t,q⟩:=(show ∃ t,u=Value.str y t from rx);cases q;exact PySem.W.kia_one PySem.W.kitx_str I.kIn True.intro e (fun z=>nomatch z) h
 | flt y=>obtain ⟨t,q⟩:=(show ∃ t,u=Value.float y t from rx);cases q;exact PySem.W.kia_one PySem.W.kitx_float I.kIn True.intro e (fun z=>nomatch z) h
 | @lst a xs ea=>
  cases (show u=Value.ref a from rx)
  obtain ⟨_,_,n,_,h1⟩:=(show ZaB X.prog X.w H s.heap a (.lst xs) from I.hok a _ ea)
  exact PySem.W.kia_one PySem.W.kitx_list I.kIn ⟨_,h1,rfl⟩ e (fun z=>nomatch z) h
 | @frz a ob xs ea=>
  cases (show u=Value.ref a from rx)
  obtain ⟨_,_,_,n,_,h1⟩:=(show ZaB X.prog X.w H s.heap a (.frz ob (.lst xs)) from I.hok a _ ea)
  exact PySem.W.kia_one PySem.W.kitx_list I.kIn ⟨_,h1,rfl⟩ e (fun z=>nomatch z) h
 | @tup a xs ea=>
  cases (show u=Value.ref a from rx)
  obtain ⟨_,_,_,p⟩:=(show ZaB X.prog X.w H s.heap a (.tup xs) from I.hok a _ ea)
  obtain ⟨o,h1,h2,_⟩:=p
  exact PySem.W.kia_one PySem.W.kitx_tuple I.kIn ⟨o,h1,h2⟩ e (fun z=>nomatch z) h
 | @dK a kvs ea=>
  cases (show u=Value.ref a from rx)
  obtain ⟨_,_,vs,_,p⟩:=(show ZaB X.prog X.w H s.heap a (.dK kvs) from I.hok a _ ea)
  obtain ⟨o,es,ep,h1,h2,_⟩:=p
  exact PySem.W.kia_one PySem.W.kitx_dict I.kIn ⟨o,h1,h2.1⟩ e (fun z=>nomatch z) h
 | @dT a kvs ea=>
  cases (show u=Value.ref a from rx)
  obtain ⟨_,_,xs,_,o,es,ep,h1,h2,_⟩:=(show ZaB X.prog X.w H s.heap a (.dT kvs) from I.hok a _ ea)
  exact PySem.W.kia_one PySem.W.kitx_dict I.kIn ⟨o,h1,h2.1⟩ e (fun z=>nomatch z) h
 | @ins a C dx fs ea cl ha hn htk hm=>
  cases (show u=Value.ref a from rx)
  obtain ⟨mA,O,_⟩:=ZAF I.hok ea
  obtain ⟨od,J,_⟩:=O.look
  exact PySem.W.kia_one (PySem.W.kitx_own (cl.get _) cl.hd ha hn htk hm) I.kIn J e (fun z=>nomatch z) h
end
end L2
namespace L2
open PySem PySem.Spec PyProof.Rows
structure Room (k:Nat) (A:Around):Prop where
 hd:A.handled=none
 dp:A.depth + 3 * k + 5 < recursionLimit
 un:A.units + 16 * k + 200 < cLine
theorem Room.mono {j k:Nat} {A:Around} (r:Room k A) (h:j≤k):Room j A:=⟨r.hd,by have:=r.dp;omega,by have:=r.un;omega⟩
theorem Room.deeper {k:Nat} {A:Around} (r:Room (k + 1) A) (env:Env):Room k (A.deeper env):=
 ⟨r.hd,by have:=r.dp;show A.depth + 1 + 3 * k + 5 < _;omega,by have:=r.un;show A.units + 3 + 16 * k + 200 < _;omega⟩
theorem ZJG {A:Around} {C:Addr} {us:List Value} {kw:List (Str×Value)}:(A.under (.builtin "type.__call__" ⟨.ref C::us,kw⟩)).depth=A.depth + 1:=by
 first | rfl | simp [Around.under,Code.weight,Code.isCreation,Code.isGuard,Code.isCaller,Code.frames,Code.isFrame,guardIds]
theorem ZJF {A:Around} {C:Addr} {us:List Value} {kw:List (Str×Value)}:(A.under (.builtin "type.__call__" ⟨.ref C::us,kw⟩)).units=A.units + 1:=by
 first | rfl | simp [Around.under,Code.cUnits,Code.frames,Code.isFrame]
theorem Room.make {k:Nat} {A:Around} (r:Room (k + 1) A) (C:Addr) (us:List Value) (kw:List (Str×Value)):Room k (A.under (.builtin "type.__call__" ⟨.ref C::us,kw⟩)):=
 ⟨r.hd,by have:=r.dp;rw [ZJG];omega,by have:=r.un;rw [ZJF];omega⟩
theorem Room.depth {k:Nat} {A:Around} (r:Room k A):A.depth < recursionLimit:=by have:=r.dp;omega
theorem Room.units {k:Nat} {A:Around} (r:Room k A):A.units + 64 < cLine:=by have:=r.un;omega
def tNil:TA:=fun _ H Q=>Q [] H
def ZeU (ta:TE) (tr:TA):TA:=fun σ H Q=>ta σ H fun x H1=>tr σ H1 fun xs H2=>Q (x::xs) H2
section
variable {X:Cx} {e:Expr} {es:List Expr} {te:TE} {t:TA} {pos:Pos}
theorem Zc:PA X [] tNil:=by
 try unfold PA at *
 exact fun _ _ _ _ H Q I h=>Calls.spliced_nil ⟨[],H,I,.nil,h⟩
theorem Za (ha:PE X e te) (hr:PA X es t) (hs:starEach (e::es) X.env=(false,eval e X.env)::starEach es X.env:=by rfl):PA X (e::es) (ZeU te t):=by
 try unfold PE at *;try unfold PA at *
 intro pos pins s σ H Q I h
 rw [hs]
 show wpAny _ _ (spliced ((false,eval e X.env)::backTo pos (starEach es X.env))) _ _ s
 refine Calls.spliced_cons (thn (ha pins s σ H _ I h) fun u s1 ⟨x,H1,I1,r1,q1⟩=>?_)
 exact thn (hr pos pins s1 σ H1 _ I1 q1) fun us s2 ⟨xs,H2,I2,r2,q2⟩=>⟨x::xs,H2,I2,.cons r1 r2,q2⟩
def tTup (t:TA):TE:=fun σ H Q=>t σ H fun xs H1=>xs.length≤sizeLine∧∀ p,H1 p=none→Q (.ref p) (upd H1 p (.tup xs))
def tLst (t:TA):TE:=fun σ H Q=>t σ H fun xs H1=>xs.length≤sizeLine∧∀ p,H1 p=none→Q (.ref p) (upd H1 p (.lst xs))
theorem Zar {x1} (h:PA X es t):PE X (.Tuple es x1 pos) (tTup t):=by
 try unfold PE at *;try unfold PA at *
 intro pins s σ H Q I hq
 refine wpAny_Tuple_spliced (thn (h pos pins s σ H _ I hq) fun us s1 ⟨xs,H1,I1,r,z,q⟩=>⟨by rw [← r.length];exact z,?_⟩)
 have hf:H1 s1.heap.objs.size=none:=I1.hok.fresh (Nat.le_refl _)
 refine ⟨.ref s1.heap.objs.size,upd H1 s1.heap.objs.size (.tup xs),I1.laid (t':=s1.toks) (fun b u e=>Heap.get?_push_of_some _ e) (Nat.le_refl _) ?_,rfl,q _ hf⟩
 exact ⟨z,us,r,⟨_,Heap.get?_push_size _ rfl,rfl,_,rfl⟩⟩
theorem Zbs (h:PA X es t):PE X (.List es pos) (tLst t):=by
 try unfold PE at *;try unfold PA at *
 intro pins s σ H Q I hq
 refine wpAny_List_spliced (thn (h pos pins s σ H _ I hq) fun us s1 ⟨xs,H1,I1,r,z,q⟩=>⟨by rw [← r.length];exact z,?_⟩)
 have hf:H1 s1.heap.objs.size=none:=I1.hok.fresh (Nat.le_refl _)
 refine ⟨.ref s1.heap.objs.size,upd H1 s1.heap.objs.size (.lst xs),I1.laid (t':=s1.toks) (fun b u e=>Heap.get?_push_of_some _ e) (Nat.le_refl _) ?_,rfl,q _ hf⟩
 exact ⟨z,us,0,r,Heap.get?_push_size _ rfl⟩
end
abbrev Sp:=List V→Hp→VK→XK→Prop
abbrev CXT:=List Env→Hp→Shared→XK→Value→Shared→Prop
structure Env0 (P:Program) (w:World) (K:PySem.W.Frag) (mg:Str→Option Value) (base:Heap) (A:Around) (outer:List Env) (s:Shared) (H:Hp):Prop where
 frames:A.frames=some outer
 mod:Mod K mg base
 bs:∀ b o,base.get? b=some o→s.heap.get? b=some o∧H b=none
 bsz:base.objs.size≤s.heap.objs.size
 funs:s.heap.FunFrames base outer
 frf:∀ b∈frs outer,H b=none
 hok:HOk P w H s.heap
 bare:AllBare s.gens
def CE (outer:List Env) (P:Program) (w:World) (H:Hp) (s:Shared) (Q:VK) (u:Value) (s':Shared):Prop:=
 ∃ v H',s'.os=s.os∧AllBare s'.gens∧Un (frs outer) [] H H' s.heap s'.heap∧HOk P w H' s'.heap∧RelV v u∧Q v H'
def CR (CX:CXT) (outer:List Env) (P:Program) (w:World) (H:Hp) (s:Shared) (Q:VK) (E:XK) (r:Result) (s':Shared):Prop:=
 match r with
 | .ok (.ret u)=>CE outer P w H s Q u s'
 | .ok _=>False
 | .error e=>CX outer H s E e s'
structure FnOk (P:Program) (w:World) (K:PySem.W.Frag) (mg:Str→Option Value) (base:Heap) (CX:CXT) (k:Nat) (f:Addr) (fd:FuncData) (ps:List Str) (sp:Sp):Prop where
 len:∀ vs H Q E,sp vs H Q E→vs.length=ps.length
 run:∀ (A:Around) (outer:List Env) (s:Shared) (H:Hp) (args:Args) (us:List Value) (vs:List V) (Q:VK) (E:XK),Room k A→Env0 P w K mg base A outer s H→BindsTo s fd args (ps.zip us)→Vals vs us→sp vs H Q E→
  codeAny (model P w) A (.call (.ref f) args) (CR CX outer P w H s Q E) s
theorem Env0.make {P:Program} {w:World} {K:PySem.W.Frag} {mg:Str→Option Value} {base:Heap} {A:Around} {outer:List Env} {s:Shared} {H:Hp} (e:Env0 P w K mg base A outer s H) (C:Addr) (us:List Value) (kw:List (Str×Value)) :
  Env0 P w K mg base (A.under (.builtin "type.__call__" ⟨.ref C::us,kw⟩)) outer s H:=⟨by first | exact e.frames | (simpa [Around.under,Code.envs,Code.isFrame,pushEnvs] using e.frames),e.mod,e.bs,e.bsz,e.funs,e.frf,e.hok,e.bare⟩
section
variable {X:Cx} {pins:List (Addr×Obj)} {σ:St} {H:Hp} {s s':Shared}
theorem Inv.env0 (I:Inv X pins σ H s):Env0 X.prog X.w X.K X.mg X.base X.A X.stack s H:=
 ⟨I.ok.frames,I.ok.mod,I.bs,Nat.le_trans I.ok.bsz I.sz,I.stack,I.stkFree,I.hok,I.bare⟩
theorem Inv.after {Q:VK} {u:Value} (I:Inv X pins σ H s) (h:CE X.stack X.prog X.w H s Q u s'):EP X pins σ Q u s':=by
 obtain ⟨v,H',os,bare,un,hok,r,q⟩:=h
 obtain ⟨hh,g,d,t,os'⟩:=s'
 obtain rfl:os'=s.os:=os
 exact ⟨v,H',I.call (h':=hh) (g':=g) (d':=d) (t':=t) (ch:=[]) un hok bare (fun b z=>absurd z (by simp)),r,q⟩
end
def ZO4 (sp:Sp) (dvs:List V) (E:St→XK) (t:TA):TE:=fun σ H Q=>t σ H fun vs H1=>sp (vs++dvs) H1 Q (E σ)
def ZKs (C:Addr) (m:Str) (sp:Sp) (dvs:List V) (E:St→XK) (ta:TE) (t:TA):TE:=fun σ H Q=>ta σ H fun x H1=>∃ a dx fs,x=.ref a∧H1 a=some (.ins C dx fs)∧fs.lookup m=none∧
 t σ H1 fun vs H2=>sp (x::(vs++dvs)) H2 Q (E σ)
def ZRQ (C:Addr) (sp:Sp) (dvs:List V) (E:St→XK) (t:TA):TE:=fun σ H Q=>t σ H fun vs H1=>∀ x dx,H1 x=none→H1 dx=none→dx≠x→
 sp (.ref x::(vs++dvs)) (upd (upd H1 dx (.own x)) x (.ins C dx [])) (fun v H2=>v=.non∧Q (.ref x) H2) (E σ)
def ZO (K:PySem.W.Frag) (fd:FuncData) (ps:List Str) (ds:List Value):Prop:=
 ∀ (s:Shared) (us:List Value),K.In s.heap→(us++ds).length=ps.length→BindsTo s fd ⟨us,[]⟩ (ps.zip (us++ds))
theorem ZO.all {K:PySem.W.Frag} {fd:FuncData} {ps:List Str} (h:∀ us:List Value,us.length=ps.length→bindArgs fd ⟨us,[]⟩=pure (ps.zip us)):ZO K fd ps []:=fun s us _ hl=>by
 rw [List.append_nil] at hl ⊢
 exact .of_eq (h us hl)
def Zjc (CX:CXT) (X:Cx) (E:St→XK):Prop:=∀ (pins:List (Addr×Obj)) (σ:St) (H:Hp) (s:Shared) (e:Value) (s':Shared),Inv X pins σ H s→CX X.stack H s (E σ) e s'→X.xe e s'
section
variable {X:Cx} {CX:CXT} {k:Nat} {f C:Addr} {fd:FuncData} {ps:List Str} {sp:Sp} {dvs:List V} {ds:List Value} {E:St→XK} {x m:Str} {p pos apos:Pos} {e o:Expr} {es:List Expr} {ta:TE} {t:TA}
theorem ZHH {pins:List (Addr×Obj)} {σ:St} {H:Hp} {s:Shared} {Q:VK} {us:List Value} {vs:List V} (F:FnOk X.prog X.w X.K X.mg X.base CX k f fd ps sp) (hr:Room k X.A) (hb:ZO X.K fd ps ds) (hd:Vals dvs ds) (hx:Zjc CX X E)
  (I:Inv X pins σ H s) (r:Vals vs us) (h:sp (vs++dvs) H Q (E σ)):wpAny (model X.prog X.w) X.A (call (.ref f) us) (EP X pins σ Q) X.xe s:=by
 have r2:Vals (vs++dvs) (us++ds):=r.append hd
 have hl:(us++ds).length=ps.length:=by rw [← r2.length];exact F.len _ _ _ _ h
 refine wpAny_call (codeAny_mono (F.run X.A X.stack s H ⟨us,[]⟩ (us++ds) (vs++dvs) Q (E σ) hr I.env0 (hb s us I.kIn hl) r2 h) fun r s' hq=>?_)
 cases r with
 | error e=>exact hx pins σ H s e s' I hq
 | ok fl=>
  cases fl with
  | ret u=>exact I.after hq
  | next=>exact False.elim hq
  | brk=>exact False.elim hq
  | cont=>exact False.elim hq
theorem Zp (F:FnOk X.prog X.w X.K X.mg X.base CX k f fd ps sp) (hr:Room k X.A) (hg:Gl X x) (hm:X.mg x=some (.ref f)) (hk:PySem.W.keepIn X.K (.ref f)=true) (hb:ZO X.K fd ps ds) (hd:Vals dvs ds) (hx:Zjc CX X E)
  (ha:PA X (e::es) t) (hdb:(x == ("__debug__":Str))=false:=by decide) (he:starEach (e::es) X.env=(false,eval e X.env)::starEach es X.env:=by rfl) (hpl:(backTo pos (starEach es X.env)).any (·.1)=false:=by rfl) :
  PE X (.Call (.Name x p) (e::es) [] pos) (ZO4 sp dvs E t):=by
 try unfold PE at *;try unfold PA at *
 intro pins s σ H Q I h
 refine wpAny_Call_Name_kw (ZlB I hg hm ?_ hdb)
 refine PySem.W.callWith_K (h₀:=X.base) I.ok.mod.kin hk (thn (ha pos pins s σ H _ I h) fun us s1 ⟨vs,H1,I1,r,q⟩=>⟨I1.kIn,?_⟩) he hpl
 exact ZHH F hr hb hd hx I1 r q
theorem ZNo (F:FnOk X.prog X.w X.K X.mg X.base CX k f fd ps sp) (hr:Room k X.A) (hg:Gl X x) (hm:X.mg x=some (.ref f)) (hk:PySem.W.keepIn X.K (.ref f)=true) (hb:ZO X.K fd ps ds) (hd:Vals dvs ds) (hx:Zjc CX X E)
  (hdb:(x == ("__debug__":Str))=false:=by decide):PE X (.Call (.Name x p) [] [] pos) (ZO4 sp dvs E tNil):=by
 try unfold PE at *
 intro pins s σ H Q I h
 refine wpAny_Call_Name_kw (ZlB I hg hm ?_ hdb)
 exact PySem.W.callWith_K0 I.kIn hk (ZHH (us:=[]) F hr hb hd hx I .nil h)
theorem Zaf {pl:Sem Bool} (he:PE X o ta) (c:Cls X.K C) (hm:Meth X.K C m f) (F:FnOk X.prog X.w X.K X.mg X.base CX k f fd ps sp) (hr:Room k X.A) (hb:ZO X.K fd ps ds) (hd:Vals dvs ds) (hx:Zjc CX X E) (ha:PA X (e::es) t)
  (hst:starEach (e::es) X.env=(false,eval e X.env)::starEach es X.env:=by rfl) (hpl:(backTo pos (starEach es X.env)).any (·.1)=false:=by rfl)
  (ht:eval (.Call (.Attribute o m apos) (e::es) [] pos) X.env=(do
   let ov ← eval o X.env
   standAt apos.atName
   let (f,first) ← holding [ov] (getMethod ov m pl)
   callWith pos f first (backTo pos (starEach (e::es) X.env)) (backToKw pos (keywordEach [] X.env))):=by rfl) :
  PE X (.Call (.Attribute o m apos) (e::es) [] pos) (ZKs C m sp dvs E ta t):=by
 try unfold PE at *;try unfold PA at *
 intro pins s σ H Q I h
 refine PySem.W.methodCall_KW (pl:=pl) (thn (he pins s σ H _ I h) fun u s1 ⟨x,H1,I1,rx,a,dx,fs,ex,ea,l,q⟩=>?_) ht
 subst ex
 obtain rfl:u=Value.ref a:=rx
 refine ZxT I1 ea c hm l ?_
 refine PySem.W.callWith_K (first:=[.ref a]) (h₀:=X.base) I.ok.mod.kin hm.kp (thn (ha pos pins s1 σ H1 _ I1 q) fun us s2 ⟨vs,H2,I2,r,q2⟩=>⟨I2.kIn,?_⟩) hst hpl
 exact ZHH (us:=.ref a::us) (vs:=.ref a::vs) F hr hb hd hx I2 (.cons rfl r) q2
theorem ZjA {pl:Sem Bool} (he:PE X o ta) (c:Cls X.K C) (hm:Meth X.K C m f) (F:FnOk X.prog X.w X.K X.mg X.base CX k f fd ps sp) (hr:Room k X.A) (hb:ZO X.K fd ps ds) (hd:Vals dvs ds) (hx:Zjc CX X E)
  (ht:eval (.Call (.Attribute o m apos) [] [] pos) X.env=(do
   let ov ← eval o X.env
   standAt apos.atName
   let (f,first) ← holding [ov] (getMethod ov m pl)
   callWith pos f first (backTo pos (starEach [] X.env)) (backToKw pos (keywordEach [] X.env))):=by rfl) :
  PE X (.Call (.Attribute o m apos) [] [] pos) (ZKs C m sp dvs E ta tNil):=by
 try unfold PE at *
 intro pins s σ H Q I h
 refine PySem.W.methodCall_KW (pl:=pl) (thn (he pins s σ H _ I h) fun u s1 ⟨x,H1,I1,rx,a,dx,fs,ex,ea,l,q⟩=>?_) ht
 subst ex
 obtain rfl:u=Value.ref a:=rx
 refine ZxT I1 ea c hm l ?_
 exact PySem.W.callWith_K0 (first:=[.ref a]) I1.kIn hm.kp (ZHH (us:=[.ref a]) (vs:=[.ref a]) F hr hb hd hx I1 (.cons rfl .nil) q)
structure Mk (K:PySem.W.Frag) (C f:Addr):Prop where
 makes:PySem.W.makesIn K C=true
 init:PySem.W.findIn K (.ref C) "__init__"=some (some (.ref f))
 fn:PySem.W.isFn K (.ref f)=true
 kp:PySem.W.keepIn K (.ref C)=true
theorem ZM9 {pins:List (Addr×Obj)} {σ:St} {H:Hp} {s:Shared} {Q:VK} {us:List Value} {vs:List V} (M:Mk X.K C f) (F:FnOk X.prog X.w X.K X.mg X.base CX k f fd ps sp) (hr:Room (k + 1) X.A) (hb:ZO X.K fd ps ds) (hd:Vals dvs ds)
  (hx:Zjc CX X E) (I:Inv X pins σ H s) (r:Vals vs us)
  (h:∀ x dx,H x=none→H dx=none→dx≠x→sp (.ref x::(vs++dvs)) (upd (upd H dx (.own x)) x (.ins C dx [])) (fun v H2=>v=.non∧Q (.ref x) H2) (E σ)) :
  wpAny (model X.prog X.w) X.A (call (.ref C) us) (EP X pins σ Q) X.xe s:=by
 have hq:=h (s.heap.objs.size + 1) s.heap.objs.size (I.hok.fresh (Nat.le_succ _)) (I.hok.fresh (Nat.le_refl _)) (Nat.ne_of_lt (Nat.lt_succ_self _))
 have I2:=Inv.made (C:=C) I
 have r2:Vals (V.ref (s.heap.objs.size + 1)::(vs++dvs)) (Value.ref (s.heap.objs.size + 1)::(us++ds)):=.cons rfl (r.append hd)
 have hl:(Value.ref (s.heap.objs.size + 1)::us++ds).length=ps.length:=by
  have e:=r2.length
  rw [F.len _ _ _ _ hq] at e
  exact e.symm
 refine wpAny_call (ZNy (f:=f) I.kIn M.makes M.init (beq_iff_eq.mp M.fn) (codeAny_mono (F.run _ X.stack _ _ ⟨Value.ref (s.heap.objs.size + 1)::us,[]⟩ (Value.ref (s.heap.objs.size + 1)::(us++ds)) _ _ (E σ) (hr.make C us [])
  (I2.env0.make C us []) (hb _ (Value.ref (s.heap.objs.size + 1)::us) I2.kIn hl) r2 hq) fun r s' hq'=>?_))
 cases r with
 | error e=>exact hx pins σ _ _ e s' I2 hq'
 | ok fl=>
  cases fl with
  | ret u=>
   obtain ⟨v,H',I3,rv,ev,q3⟩:=I2.after hq'
   subst ev
   exact ⟨rv,⟨V.ref (s.heap.objs.size + 1),H',I3,rfl,q3⟩⟩
  | next=>exact False.elim hq'
  | brk=>exact False.elim hq'
  | cont=>exact False.elim hq'
theorem Zh0 (M:Mk X.K C f) (F:FnOk X.prog X.w X.K X.mg X.base CX k f fd ps sp) (hr:Room (k + 1) X.A) (hg:Gl X x) (hm:X.mg x=some (.ref C)) (hb:ZO X.K fd ps ds) (hd:Vals dvs ds) (hx:Zjc CX X E)
  (ha:PA X (e::es) t) (hdb:(x == ("__debug__":Str))=false:=by decide) (he:starEach (e::es) X.env=(false,eval e X.env)::starEach es X.env:=by rfl) (hpl:(backTo pos (starEach es X.env)).any (·.1)=false:=by rfl) :
  PE X (.Call (.Name x p) (e::es) [] pos) (ZRQ C sp dvs E t):=by
 try unfold PE at *;try unfold PA at *
 intro pins s σ H Q I h
 refine wpAny_Call_Name_kw (ZlB I hg hm ?_ hdb)
 refine PySem.W.callWith_K (h₀:=X.base) I.ok.mod.kin M.kp (thn (ha pos pins s σ H _ I h) fun us s1 ⟨vs,H1,I1,r,q⟩=>⟨I1.kIn,?_⟩) he hpl
 exact ZM9 M F hr hb hd hx I1 r q
end
section
variable {X:Cx} {CX:CXT} {k:Nat} {f C:Addr} {fd:FuncData} {ps ks:List Str} {sp:Sp} {E:St→XK} {x m:Str} {p pos apos kpos:Pos} {e o:Expr} {es:List Expr} {kws:List Keyword} {te ta:TE} {t tk:TA} {nm:Option Str}
variable {g:List Value→List Value→List Value} {gV:List V→List V→List V}
end
structure Zo (N P:List Str) (sc:Scope):Prop where
 kind:sc.kind=.function
 co:sc.isCoroutine=false
 gen:sc.isGenerator=false
 nd:N.Nodup
 pre:N.take P.length=P
 par:∀ x∈P,sc.names.lookup x=some .local∨sc.names.lookup x=some .cell
 nofree:∀ y∈sc.names,y.2≠.free
theorem ZEl {kindOf:Str→Option NameKind} {x:Str}:∀ {binds:List (Str×Value)} {m:Str→Option Value},(∀ v,(x,v) ∉ binds)→bindL kindOf binds m x=m x
  | [],_,_=>rfl
  | (n,v)::r,m,h=>by
    unfold bindL
    rw [ZEl fun w hw=>h w (List.mem_cons_of_mem _ hw)]
    split
    · have:x≠n:=by rintro rfl;exact h v List.mem_cons_self
      simp [this]
    · rfl
theorem ZEn {kindOf:Str→Option NameKind} {x:Str}:∀ {binds:List (Str×Value)} {m:Str→Option Value},(∀ v,(x,v) ∉ binds)→bindC kindOf binds m x=m x
  | [],_,_=>rfl
  | (n,v)::r,m,h=>by
    unfold bindC
    rw [ZEn fun w hw=>h w (List.mem_cons_of_mem _ hw)]
    split
    · rfl
    · have:x≠n:=by rintro rfl;exact h v List.mem_cons_self
      simp [this]
theorem ZEm {kindOf:Str→Option NameKind} {x:Str} {v:Value}:∀ {P:List Str} {vs:List Value} {i:Nat} {m:Str→Option Value},P.Nodup→P[i]?=some x→vs[i]?=some v→kindOf x=some .local→
  bindL kindOf (P.zip vs) m x=some v
 | [],_,_,_,_,h,_,_=>by simp at h
 | _::_,[],_,_,_,_,h,_=>by simp at h
 | p::P,w::vs,0,m,nd,h1,h2,hk=>by
  simp at h1 h2;subst h1;subst h2
  show bindL kindOf ((p,w)::P.zip vs) m p=_
  unfold bindL
  rw [ZEl fun v hv=>(List.nodup_cons.mp nd).1 (List.of_mem_zip hv).1,if_pos hk]
  simp
 | p::P,w::vs,i + 1,m,nd,h1,h2,hk=>by
  show bindL kindOf ((p,w)::P.zip vs) m x=_
  unfold bindL
  exact ZEm (i:=i) (List.nodup_cons.mp nd).2 (by simpa using h1) (by simpa using h2) hk
theorem ZEo {kindOf:Str→Option NameKind} {x:Str} {v:Value}:∀ {P:List Str} {vs:List Value} {i:Nat} {m:Str→Option Value},P.Nodup→P[i]?=some x→vs[i]?=some v→kindOf x≠some .local→
  bindC kindOf (P.zip vs) m x=some v
 | [],_,_,_,_,h,_,_=>by simp at h
 | _::_,[],_,_,_,_,h,_=>by simp at h
 | p::P,w::vs,0,m,nd,h1,h2,hk=>by
  simp at h1 h2;subst h1;subst h2
  show bindC kindOf ((p,w)::P.zip vs) m p=_
  unfold bindC
  rw [ZEn fun v hv=>(List.nodup_cons.mp nd).1 (List.of_mem_zip hv).1,if_neg hk]
  simp
 | p::P,w::vs,i + 1,m,nd,h1,h2,hk=>by
  show bindC kindOf ((p,w)::P.zip vs) m x=_
  unfold bindC
  exact ZEo (i:=i) (List.nodup_cons.mp nd).2 (by simpa using h1) (by simpa using h2) hk
def ZN (N:List Str) (vs:List V):St:=vs.map some++List.replicate (N.length - vs.length) none
def cxOf (CX:CXT) (P:Program) (w:World) (K:PySem.W.Frag) (mg:Str→Option Value) (base:Heap) (N:List Str) (qual:Str) (scope:Scope) (f:Addr) (cd:Value) (A:Around) (outer:List Env) (s:Shared) (H:Hp) (E:XK):Cx where
 prog:=P
 w:=w
 K:=K
 mg:=mg
 base:=base
 A:=A.deeper (envOfC qual scope s.heap.objs.size f cd)
 N:=N
 s₀:=s
 H₀:=H
 env:=envOfC qual scope s.heap.objs.size f cd
 outer:=outer
 stack:=envOfC qual scope s.heap.objs.size f cd::outer
 ex:=[]
 calm:=true
 fn:=fun _=>true
 pn:=[]
 xe:=fun e s'=>wpAny (model P w) (A.deeper (envOfC qual scope s.heap.objs.size f cd)) (leaving (envOfC qual scope s.heap.objs.size f cd) e) (fun _ s''=>CX outer H s E e s'') (fun e' s''=>CX outer H s E e' s'') s'
theorem ZIe {sc:Scope} {n:Nat} {x:Str} (h:sc.names.lookup x=some .cell):∃ c,(cellsFrom n sc.names []).lookup x=some c:=by
 have q:=PySem.W.cellsFrom_some sc.names n [] (.inl h)
 exact Option.isSome_iff_exists.mp q
theorem ZDz {CX:CXT} {P:Program} {w:World} {K:PySem.W.Frag} {mg:Str→Option Value} {base:Heap} {N ps:List Str} {qual:Str} {scope:Scope} {f:Addr} {cd:Value} {A:Around} {outer:List Env} {s s1:Shared} {H:Hp} {E:XK} {us:List Value} {vs:List V}
  (S:Zo N ps scope) (hd:A.handled=none) (e0:Env0 P w K mg base A outer s H) (hl:vs.length=ps.length) (r:Vals vs us)
  (x:InCallC s s.heap.objs.size (bindL (envOfC qual scope s.heap.objs.size f cd).kindOf (ps.zip us) fun _=>none) (cellsFrom (s.heap.objs.size + 1) scope.names []) (bindC (envOfC qual scope s.heap.objs.size f cd).kindOf (ps.zip us) fun _=>none) s1) :
  Inv (cxOf CX P w K mg base N qual scope f cd A outer s H E) [] (ZN N vs) H s1:=by
 have hpl:ps.length≤N.length:=by have:=congrArg List.length S.pre;rw [List.length_take] at this;omega
 obtain ⟨h1,tk,rfl,hk⟩:=x.done
 have noA:∀ b:Addr,b ∉ (cxOf CX P w K mg base N qual scope f cd A outer s H E).ex:=fun b z=>absurd (show b∈([]:List Addr) from z) (by simp)
 refine ⟨⟨e0.mod,S.kind,rfl,rfl,Nat.le_refl _,fun y z c h1 h2=>?_,fun y hy=>?_,fun y c _ h=>?_,fun _=>hd,Around.frames_deeper e0.frames,.inr ⟨rfl,rfl⟩,fun b z=>absurd z (noA b),e0.bs,e0.bsz,fun b _ _=>noA b,fun b z=>absurd z (noA b),e0.funs,e0.frf⟩,
  rfl,e0.bare,Un.kept hk,⟨_,x.toInCall.ns,fun i y v h1 h2 h3=>?_⟩,fun y c h=>⟨_,x.cell y c h⟩,e0.hok.fresh (Nat.le_refl _),fun y c h=>?_,fun p hp=>absurd (show p∈([]:List (Addr×Obj)) from hp) (by simp),e0.hok.kept hk,?_⟩
 ·exact name_of_addr x.apart (PySem.mem_of_lookup h1) (PySem.mem_of_lookup h2)
 ·have hy:scope.names.lookup y=some .cell∨scope.names.lookup y=some .free:=hy
  rcases hy with hy | hy
  ·exact ZIe hy
  ·exact absurd rfl (S.nofree _ (PySem.mem_of_lookup hy))
 ·exact Nat.le_of_lt (x.above y c (PySem.mem_of_lookup h))
 ·have hi:i < vs.length:=by
   unfold ZN at h2
   by_cases hi:i < vs.length
   ·exact hi
   ·rw [List.getElem?_append_right (by simpa using hi)] at h2
    rw [List.getElem?_replicate] at h2
    split at h2 <;> cases h2
  have ha:vs[i]?=some v:=by
   unfold ZN at h2
   rw [List.getElem?_append_left (by simpa using hi),List.getElem?_map] at h2
   cases e:vs[i]? with
   | none=>rw [e] at h2;cases h2
   | some a=>rw [e] at h2;cases h2;rfl
  obtain ⟨u,hu,rv⟩:=r.get ha
  have hp:ps[i]?=some y:=by
   rw [← S.pre,List.getElem?_take_of_lt (by omega)];exact h1
  have ndP:ps.Nodup:=by rw [← S.pre];exact S.nd.sublist (List.take_sublist _ _)
  refine ⟨u,rv,?_⟩
  rcases S.par y (List.mem_of_getElem? hp) with k | k
  ·exact .inl ⟨k,ZEm ndP hp hu k⟩
  ·obtain ⟨c,e⟩:=ZIe (n:=s.heap.objs.size + 1) k
   refine .inr ⟨.inl k,c,e,?_⟩
   have q:=x.cell y c e
   rw [ZEo ndP hp hu (by show scope.names.lookup y≠_;rw [k];decide)] at q
   exact q
 ·exact e0.hok.fresh (Nat.le_of_lt (x.above y c (PySem.mem_of_lookup h)))
 ·unfold ZN
  show _=N.length
  rw [List.length_append,List.length_map,List.length_replicate]
  omega
theorem ZRq {CX:CXT} {P:Program} {w:World} {K:PySem.W.Frag} {mg:Str→Option Value} {base:Heap} {k:Nat} {f:Addr} {name qual:Str} {params:Arguments} {body:List Stmt} {scope:Scope} {dV kV doc pm cdv ct oc:Value} {an od:Option Addr}
  {osl:Array (Option Value)} {N ps:List Str} {sp:Sp} (lk:K.lookup f=some ⟨oc,od,.func (PySem.W.fnOf name qual params body scope dV kV doc pm an cdv ct),osl⟩) (hcd:PySem.W.codeIn K cdv qual=true) (S:Zo N ps scope)
  (len:∀ vs H Q E,sp vs H Q E→vs.length=ps.length)
  (hbody:∀ (A:Around) (outer:List Env) (s:Shared) (H:Hp) (vs:List V) (Q:VK) (E:XK),Room k (A.deeper (envOfC qual scope s.heap.objs.size f cdv))→sp vs H Q E→
   ∃ t,PSs (cxOf CX P w K mg base N qual scope f cdv A outer s H E) body t∧t {nx:=fun _ H'=>Q .non H',rt:=Q} (ZN N vs) H) :
  FnOk P w K mg base CX (k + 1) f (PySem.W.fnOf name qual params body scope dV kV doc pm an cdv ct) ps sp:=by
 refine ⟨len,fun A outer s H args us vs Q E hr e0 hb r hsp=>?_⟩
 have hl:=len _ _ _ _ hsp
 have KX:K.In s.heap:=e0.mod.kin.keeps fun b o e=>(e0.bs b o e).1
 have lim:s.heap.NoLimit:=e0.mod.nolimit.keeps fun b o e=>(e0.bs b o e).1
 have hkind:∀ y∈ps.zip us,scope.names.lookup y.1=some .local∨(scope.names.lookup y.1=some .cell∧((cellsFrom (s.heap.objs.size + 1) scope.names []).lookup y.1).isSome=true):=fun ⟨n,v⟩ hy=>by
  rcases S.par n (List.of_mem_zip hy).1 with q | q
  ·exact .inl q
  ·exact .inr ⟨q,PySem.W.cellsFrom_some _ _ _ (.inl q)⟩
 refine codeAny_call_function hr.depth (KX _ _ lk) rfl S.co S.gen rfl (PySem.W.codeRec_of KX hcd) (hb _ _ _ _ ?_)
 refine wpAny_newFunctionEnv_cells S.kind hkind fun env he s1 x=>?_
 subst he
 refine ⟨lim.keeps x.toInCall.keep,codeAny_func ?_⟩
 obtain ⟨t,ht,hq⟩:=hbody A outer s H vs Q E (hr.deeper _) hsp
 unfold PSs at ht
 have I:Inv (cxOf CX P w K mg base N qual scope f cdv A outer s H E) [] (ZN N vs) H s1:=ZDz S hr.hd e0 hl r x
 refine wpAny_mono (ht [] s1 (ZN N vs) H _ I hq) (fun fl s' hs=>?_) fun e s' hs=>hs
 have fin:∀ {σ':St} {H':Hp} {v:V} {u:Value},Inv (cxOf CX P w K mg base N qual scope f cdv A outer s H E) [] σ' H' s'→RelV v u→Q v H'→CE outer P w H s Q u s':=
  fun {σ' H' v u} J rv q=>⟨v,H',J.os,J.bare,J.base,J.hok,rv,q⟩
 cases fl with
 | ret u=>
  obtain ⟨v,σ',H',J,rv,q⟩:=hs
  exact fin J rv q
 | next=>
  obtain ⟨σ',H',J,q⟩:=hs
  exact fin (v:=V.non) (u:=Value.none) J rfl q
 | brk=>
  obtain ⟨_,_,_,q⟩:=hs
  exact False.elim q
 | cont=>
  obtain ⟨_,_,_,q⟩:=hs
  exact False.elim q
end L2
namespace L2
open PySem PySem.Spec PyProof.Rows
section
variable {X:Cx} {x:Str} {p pos:Pos} {e:Expr} {es:List Expr} {t:TA} {id T:String} {r:List V→Hp→VK→Prop}
def tCB (r:List V→Hp→VK→Prop) (t:TA):TE:=fun σ H Q=>t σ H fun vs H1=>r vs H1 Q
theorem ZB (hc:ZfX X (.builtin id) r) (hg:Gl X x) (hm:X.mg x=none) (hv:bootBuiltins x=some (.builtin id)) (ha:PA X (e::es) t) (hn:x≠"__name__":=by decide) (hdb:(x == ("__debug__":Str))=false:=by decide)
  (he:starEach (e::es) X.env=(false,eval e X.env)::starEach es X.env:=by rfl) (hpl:(backTo pos (starEach es X.env)).any (·.1)=false:=by rfl):PE X (.Call (.Name x p) (e::es) [] pos) (tCB r t):=by
 try unfold PE at *;try unfold PA at *
 intro pins s σ H Q I h
 refine wpAny_Call_Name_kw (ZuP I hg hm hv ?_ hn hdb)
 exact PyProof.Rows.callWith_builtin1 (thn (ha pos pins s σ H _ I h) fun us s1 ⟨vs,H1,I1,r1,q1⟩=>hc pins s1 σ H1 vs us Q I1 r1 q1) he hpl
theorem ZaS (hc:ZfX X (.type T) r) (hg:Gl X x) (hm:X.mg x=none) (hv:bootBuiltins x=some (.type T)) (ha:PA X (e::es) t) (hn:x≠"__name__":=by decide) (hdb:(x == ("__debug__":Str))=false:=by decide)
  (he:starEach (e::es) X.env=(false,eval e X.env)::starEach es X.env:=by rfl) (hpl:(backTo pos (starEach es X.env)).any (·.1)=false:=by rfl):PE X (.Call (.Name x p) (e::es) [] pos) (tCB r t):=by
 try unfold PE at *;try unfold PA at *
 intro pins s σ H Q I h
 refine wpAny_Call_Name_kw (ZuP I hg hm hv ?_ hn hdb)
 exact PyProof.Rows.callWith_type1 (thn (ha pos pins s σ H _ I h) fun us s1 ⟨vs,H1,I1,r1,q1⟩=>hc pins s1 σ H1 vs us Q I1 r1 q1) he hpl
end
end L2
namespace HT
open PySem PyProof.Rows
section
open PySem.SeqAt
open PySem.AutoSeq1 (wpAny_loadPart')
open PySem.MeetsSeq PySem.MeetsSeq2 PySem.MeetsSeq3
end
section
variable {prog:Program} {w:World} {A:Around} {E:Value→Shared→Prop} {s:Shared}
theorem cat_tup {t b:Addr} {vs ws:List Value} {Q:Value→Shared→Prop} (ht:IsTup s.heap t vs.toArray) (hb:IsTup s.heap b ws.toArray) (hv:vs≠[])
  (h1:ws=[]→Q (.ref t) s) (h2:ws≠[]→Q (.ref s.heap.objs.size) {s with heap:=s.heap.push {cls:=.type "tuple",data:=.seq (vs++ws).toArray}})
  (hsz:vs.length + ws.length≤sizeLine):wpAny (model prog w) A (binaryOp .Add (.ref t) (.ref b)) Q E s:=by
 obtain ⟨⟨cls,dd,data,sl⟩,ho,hc,n,hd⟩:=id ht
 obtain ⟨⟨cls2,dd2,data2,sl2⟩,ho2,hc2,n2,hd2⟩:=id hb
 simp only at hc hd hc2 hd2
 subst hc hd hc2 hd2
 have e:vs.toArray++ws.toArray=(vs++ws).toArray:=by simp
 by_cases hw:ws=[]
 ·exact concat_meets ⟨_,ho,rfl⟩ ⟨_,ho2,rfl⟩ noFill_tuple_add seq_tuple_add PySem.F.slot_tuple_add PySem.F.entry_tuple_add (PySem.F.args_tuple_add_2 _ _)
   (tuple_addW1 t b vs.toArray ws.toArray n n2 dd dd2 sl sl2 (by simpa using hv) (by simp [hw])) ⟨ho,ho2,h1 hw⟩
 ·refine concat_meets ⟨_,ho,rfl⟩ ⟨_,ho2,rfl⟩ noFill_tuple_add seq_tuple_add PySem.F.slot_tuple_add PySem.F.entry_tuple_add (PySem.F.args_tuple_add_2 _ _)
   (tuple_addW2 t b vs.toArray ws.toArray n n2 dd dd2 sl sl2 (by simpa using hv) (by simpa using hw) (by rw [List.size_toArray,List.size_toArray];exact hsz)) ⟨ho,ho2,?_⟩
  rw [e]
  exact h2 hw
def sIx (n d:Nat):Option Int→Nat
 | none=>d
 | some v=>if v < 0 then (v + (n:Int)).toNat else min v.toNat n
theorem sIx_none (n d:Nat):sIx n d none=d:=rfl
theorem sIx_nat (n d k:Nat):sIx n d (some (k:Int))=min k n:=by
 show (if (k:Int) < 0 then ((k:Int) + (n:Int)).toNat else min (k:Int).toNat n)=min k n
 rw [if_neg (by omega),Int.toNat_natCast]
theorem ZQP (n d:Nat) (hd:d≤n) (o:Option Int):sIx n d o≤n:=by
 cases o with
 | none=>exact hd
 | some v=>
  show (if v < 0 then (v + (n:Int)).toNat else min v.toNat n)≤n
  by_cases hv:v < 0
  ·rw [if_pos hv];omega
  ·rw [if_neg hv];exact Nat.min_le_right _ _
theorem ZMm (v:Int) (n d:Nat):(if v < 0 then max (v + (n:Int)) 0 else min v (n:Int))=((sIx n d (some v):Nat):Int):=by
 show (if v < 0 then max (v + (n:Int)) 0 else min v (n:Int))=(((if v < 0 then (v + (n:Int)).toNat else min v.toNat n):Nat):Int)
 by_cases hv:v < 0
 ·simp only [if_pos hv];omega
 ·simp only [if_neg hv];omega
theorem ZJ2 (lo hi:Option Int) (n:Nat):Builtin.Slice.sliceAdjust lo hi 1 (n:Int)=(((sIx n 0 lo:Nat):Int),((sIx n n hi:Nat):Int)):=by
 have h1:¬ ((1:Int) < 0):=by omega
 unfold Builtin.Slice.sliceAdjust
 simp only [h1,if_false]
 refine Prod.ext ?_ ?_
 ·cases lo with
  | none=>rfl
  | some v=>exact ZMm v n 0
 ·cases hi with
  | none=>rfl
  | some v=>exact ZMm v n n
theorem ZJf (i j:Nat):Builtin.Slice.slicePlaces (i:Int) (j:Int) 1=j - i:=by
 unfold Builtin.Slice.slicePlaces
 have h1:(1:Int) > 0:=by omega
 simp only [h1,if_true,Int.ediv_one]
 split <;> omega
theorem Zxh {v:Value} {o:Option Int} {Q:Option Int→Shared→Prop} (p:IsPart v o) (h:Q o s):wpAny (model prog w) A (Builtin.Slice.slicePartIndex v) Q E s:=by
 cases p with
 | none=>exact slicePart_none h
 | int i t=>exact slicePart_int h
theorem sliceApplied_gen {sl:Addr} {vl vu:Value} {lo hi:Option Int} {n:Nat} {Q:Int×Int×Nat→Shared→Prop} (hs:s.heap.IsSliceOf sl vl vu .none) (pl:IsPart vl lo) (pu:IsPart vu hi)
  (h:Q (((sIx n 0 lo:Nat):Int),1,sIx n n hi - sIx n 0 lo) s):wpAny (model prog w) A (Builtin.Slice.sliceApplied (.ref sl) (pure (n:Int))) Q E s:=by
 obtain ⟨os,hos,hcs,hds⟩:=id hs
 unfold Builtin.Slice.sliceApplied Builtin.Slice.sliceFields
 refine wpAny_bind (wpAny_bind (wpAny_field hos hds (x:=vl) rfl (wpAny_bind (wpAny_field hos hds (x:=vu) rfl (wpAny_bind (wpAny_field hos hds (x:=.none) rfl (wpAny_pure ?_)))))))
 refine wpAny_bind (slicePart_none ?_)
 show wpAny _ _ (if ((1:Int) == 0)=true then _ else _) _ _ s
 rw [if_neg (by decide)]
 refine wpAny_bind (Zxh pl (wpAny_bind (Zxh pu (wpAny_bind (wpAny_pure ?_)))))
 show wpAny _ _ (match Builtin.Slice.sliceAdjust lo hi 1 (n:Int) with | (lo,hi)=>pure (lo,(1:Int),Builtin.Slice.slicePlaces lo hi 1)) _ _ s
 rw [ZJ2 lo hi n]
 show wpAny _ _ (pure (((sIx n 0 lo:Nat):Int),(1:Int),Builtin.Slice.slicePlaces ((sIx n 0 lo:Nat):Int) ((sIx n n hi:Nat):Int) 1)) _ _ s
 rw [ZJf]
 exact wpAny_pure h
theorem ZNg (xs:Array Value) (i k:Nat):((List.range k).filterMap fun (m:Nat)=>xs[((i:Int) + (m:Int) * 1).toNat]?).toArray=((xs.toList.drop i).take k).toArray:=by
 have e:(fun (m:Nat)=>xs[((i:Int) + (m:Int) * 1).toNat]?)=fun m=>xs[i + m]?:=by
  funext m
  have:((i:Int) + (m:Int) * 1).toNat=i + m:=by omega
  rw [this]
 rw [e]
 have:=pick_run xs i k
 rw [List.filterMap_map] at this
 have e2:((fun x=>xs[x]?) ∘ fun x=>i + x)=fun m=>xs[i + m]?:=rfl
 rw [e2] at this
 rw [this]
theorem getItem_tuple_cut {t sl:Addr} {items:Array Value} {vl vu:Value} {lo hi:Option Int} {Q:Value→Shared→Prop} (ht:IsTup s.heap t items) (hs:s.heap.IsSliceOf sl vl vu .none) (pl:IsPart vl lo) (pu:IsPart vu hi)
  (hw:¬ (sIx items.size 0 lo=0∧sIx items.size items.size hi=items.size))
  (h:Q (.ref s.heap.objs.size) {s with heap:=s.heap.push {cls:=.type "tuple",data:=.seq ((items.toList.drop (sIx items.size 0 lo)).take (sIx items.size items.size hi - sIx items.size 0 lo)).toArray}})
  (hsz:items.size≤sizeLine):wpAny (model prog w) A (getItem (.ref t) (.ref sl)) Q E s:=by
 have htake:sizeOk (.seq ((items.toList.drop (sIx items.size 0 lo)).take (sIx items.size items.size hi - sIx items.size 0 lo)).toArray):=by
  show ((items.toList.drop (sIx items.size 0 lo)).take (sIx items.size items.size hi - sIx items.size 0 lo)).toArray.size≤sizeLine
  rw [List.size_toArray,List.length_take,List.length_drop,Array.length_toList]
  omega
 have hj:sIx items.size items.size hi≤items.size:=ZQP _ _ (Nat.le_refl _) hi
 obtain ⟨os,hos,hcs,hds⟩:=id hs
 have hTs:s.TypeIs (.ref sl) "slice":=⟨os,hos,hcs⟩
 unfold getItem
 try with_reducible refine wpAny_holding ?_
 first | refine wpAny_bind (wpAny_pure ?_) | skip
 refine wpAny_bind (wpAny_sequenceKey ht.typeIs (by decide) ?_)
 refine wpAny_bind (wpAny_callSpecial?_slot (name:=Str.ofString "__getitem__") ht.typeIs PyProof.Rows.slot_tuple_getitem
  (wpAny_call_entry PyProof.Rows.slot_tuple_getitem ht.typeIs entry_tuple_getitem ?_ (args_tuple_getitem _ _)))
 show wpAny _ _ (Builtin.Tuple.tupleItemsOf (.ref t) >>= _) _ _ s
 refine wpAny_bind (tupleItemsOf_ ht ?_)
 refine wpAny_bind (wpAny_typeOf hTs ?_)
 rw [if_pos (by decide)]
 refine wpAny_bind (sliceApplied_gen hs pl pu ?_)
 have hno:¬ ((((sIx items.size 0 lo:Nat):Int) == 0 && (1:Int) == 1 && (sIx items.size items.size hi - sIx items.size 0 lo) == items.size)=true):=by
  intro q
  rw [Bool.and_eq_true,Bool.and_eq_true] at q
  have q1:((sIx items.size 0 lo:Nat):Int)=0:=eq_of_beq q.1.1
  have q2:sIx items.size items.size hi - sIx items.size 0 lo=items.size:=eq_of_beq q.2
  exact hw ⟨by omega,by omega⟩
 show wpAny _ _ (if (((sIx items.size 0 lo:Nat):Int) == 0 && (1:Int) == 1 && (sIx items.size items.size hi - sIx items.size 0 lo) == items.size)=true then _ else _) _ _ s
 rw [if_neg hno,ZNg]
 first
  | exact wpAny_bind (m:=Builtin.Tuple.tupleExact _) (wpAny_newObj_type (wpAny_pure ⟨_,rfl,wpAny_pure h⟩) htake)
  | exact wpAny_bind (m:=Builtin.Tuple.tupleExact _) (wpAny_newObj_type (wpAny_bind (wpAny_pure (wpAny_pure ⟨_,rfl,wpAny_pure h⟩))) htake)
  | exact wpAny_bind (wpAny_bind (m:=Builtin.Tuple.tupleExact _) (wpAny_newObj_type (wpAny_pure (wpAny_pure ⟨_,rfl,wpAny_pure h⟩)) htake))
  | exact wpAny_bind (wpAny_bind (m:=Builtin.Tuple.tupleExact _) (wpAny_newObj_type (wpAny_pure ⟨_,rfl,wpAny_pure h⟩) htake))
end
end HT
namespace L2
open PySem PySem.Spec PyProof.Rows
abbrev TO:=St→Hp→(Option Int→Hp→Prop)→Prop
def PO (X:Cx) (e:Option Expr) (t:TO):Prop:=
 ∀ (pins:List (Addr×Obj)) (s:Shared) (σ:St) (H:Hp) (Q:Option Int→Hp→Prop),Inv X pins σ H s→t σ H Q→
  wpAny (model X.prog X.w) X.A (evalPart e X.env) (fun u s'=>∃ o H',Inv X pins σ H' s'∧IsPart u o∧Q o H') X.xe s
def ZO2:TO:=fun _ H Q=>Q none H
def ZRP (t:TE):TO:=fun σ H Q=>t σ H fun x H1=>∃ i,x=.int i∧Q (some i) H1
theorem ZxS {ns:List Int}:∀ {us:List Value},Vals (ns.map V.int) us→IntsAre us ns:=by
 induction ns with
 | nil=>intro us r;rw [List.map_nil] at r;cases r;exact .nil
 | cons n ns ih=>
  intro us r
  rw [List.map_cons] at r
  cases r with
  | cons r1 r2=>
   obtain ⟨t,e⟩:=r1
   subst e
   exact .cons n t (ih r2)
section
variable {X:Cx} {e:Expr} {te:TE} {lo hi:Option Expr} {tl th:TO} {pos p2:Pos}
theorem ZdV:PO X none ZO2:=by
 intro pins s σ H Q I h
 rw [evalPart_none]
 exact wpAny_pure ⟨none,H,I,.none,h⟩
theorem ZaL (h:PE X e te):PO X (some e) (ZRP te):=by
 try unfold PE at *
 intro pins s σ H Q I hw
 rw [evalPart_some]
 refine thn (h pins s σ H _ I hw) fun u s1 ⟨x,H1,I1,r1,q1⟩=>?_
 obtain ⟨i,rfl,q⟩:=q1
 obtain ⟨t,rfl⟩:=r1
 exact ⟨some i,H1,I1,.int i t,q⟩
def SlR (X:Cx) (r:V→Option Int→Option Int→Hp→VK→Prop):Prop:=
 ∀ (pins:List (Addr×Obj)) (s:Shared) (σ:St) (H:Hp) (x:V) (v vl vu:Value) (lo hi:Option Int) (sl:Addr) (Q:VK),Inv X pins σ H s→RelV x v→s.heap.IsSliceOf sl vl vu .none→IsPart vl lo→IsPart vu hi→r x lo hi H Q→
  ∃ T id,typeLookup (.type T) "__getitem__"=pure (some (.builtin id))∧s.TypeIs v T∧wpAny (model X.prog X.w) X.A (getItem v (.ref sl)) (EP X pins σ Q) X.xe s
def tSl (r:V→Option Int→Option Int→Hp→VK→Prop) (te:TE) (tl th:TO):TE:=fun σ H Q=>te σ H fun x H1=>tl σ H1 fun l H2=>th σ H2 fun u H3=>r x l u H3 Q
theorem ZaM {r:V→Option Int→Option Int→Hp→VK→Prop} (hr:SlR X r) (he:PE X e te) (hl:PO X lo tl) (hu:PO X hi th):PE X (.Subscript e (.Slice lo hi none p2) pos) (tSl r te tl th):=by
 try unfold PE at *
 intro pins s σ H Q I h
 refine Subscript_ (thn (he pins s σ H _ I h) fun v s1 ⟨x,H1,I1,r1,q1⟩=>?_)
 refine wpAny_Slice (thn (hl pins s1 σ H1 _ I1 q1) fun vl s2 ⟨l,H2,I2,pl,q2⟩=>thn (hu pins s2 σ H2 _ I2 q2) fun vu s3 ⟨u,H3,I3,pu,q3⟩=>?_)
 rw [evalPart_none]
 refine wpAny_pure ?_
 have I4:Inv X pins σ H3 {s3 with heap:=s3.heap.push {cls:=.type "slice",data:=.fields #[vl,vu,.none]}}:=I3.kept (t':=s3.toks) fun b ob q=>Heap.get?_push_of_some _ q
 obtain ⟨T,id,hT,ht,hg⟩:=hr pins {s3 with heap:=s3.heap.push {cls:=.type "slice",data:=.fields #[vl,vu,.none]}} σ H3 x v vl vu l u s3.heap.objs.size Q I4 r1 (Heap.IsSliceOf.new ..) pl pu q3
 show wpAny (model X.prog X.w) X.A (subscriptTail e (.Slice lo hi none p2) v (.ref s3.heap.objs.size)) (EP X pins σ Q) X.xe {s3 with heap:=s3.heap.push {cls:=.type "slice",data:=.fields #[vl,vu,.none]}}
 exact tail_any (ops:=[.ref s3.heap.objs.size,v]) ht hT hg (by with_unfolding_all rfl)
def cutV (xs:List V) (lo hi:Option Int):List V:=(xs.drop (HT.sIx xs.length 0 lo)).take (HT.sIx xs.length xs.length hi - HT.sIx xs.length 0 lo)
theorem Zvw (xs:List V) (lo hi:Option Int):(cutV xs lo hi).length≤xs.length:=by
 unfold cutV
 rw [List.length_take,List.length_drop]
 omega
def rSlT (K:PySem.W.Frag):V→Option Int→Option Int→Hp→VK→Prop:=fun x lo hi H Q=>∃ a xs,x=.ref a∧SqT K H a xs∧
 ¬ (HT.sIx xs.length 0 lo=0∧HT.sIx xs.length xs.length hi=xs.length)∧∀ p,H p=none→Q (.ref p) (upd H p (.tup (cutV xs lo hi)))
theorem ZQM:SlR X (rSlT X.K):=by
 intro pins s σ H x v vl vu lo hi sl Q I rx hs pl pu h
 obtain ⟨a,xs,rfl,hx,hw,q⟩:=h
 cases rx
 obtain ⟨its,r,ht,hz⟩:=I.tuple hx
 have hlen:its.toArray.size=xs.length:=by rw [List.size_toArray];exact r.length.symm
 refine ⟨"tuple",_,PyProof.Rows.slot_tuple_getitem.lookup,ht.typeIs,?_⟩
 refine HT.getItem_tuple_cut ht hs pl pu (by rw [hlen];exact hw) ?_ (by rw [hlen];exact hz)
 rw [hlen]
 refine ⟨.ref s.heap.objs.size,_,I.laid (t':=s.toks) (o:=.tup (cutV xs lo hi)) (fun b ob q=>Heap.get?_push_of_some _ q) (Nat.le_refl _) ?_,rfl,q _ (I.hok.fresh (Nat.le_refl _))⟩
 exact ⟨Nat.le_trans (Zvw xs lo hi) hz,_,(r.drop (HT.sIx xs.length 0 lo)).take (HT.sIx xs.length xs.length hi - HT.sIx xs.length 0 lo),IsTup.new _ _⟩
def ZR0 (K:PySem.W.Frag):R2:=fun x y H Q=>∃ a b xs ys,x=.ref a∧y=.ref b∧SqT K H a xs∧SqT K H b ys∧xs≠[]∧xs.length + ys.length≤sizeLine∧
 (ys=[]→Q (.ref a) H)∧(ys≠[]→∀ p,H p=none→Q (.ref p) (upd H p (.tup (xs++ys))))
theorem Vals.nil_iff {xs:List V} {us:List Value} (r:Vals xs us):us=[] ↔ xs=[]:=by
 cases r with
 | nil=>simp
 | cons _ _=>simp
theorem ZPw:OpR X (binaryOp .Add) (ZR0 X.K):=by
 intro pins s σ H x y v u Q I rx ry h
 obtain ⟨a,b,xs,ys,rfl,rfl,ha,hb,hx,hz,q1,q2⟩:=h
 cases rx
 cases ry
 obtain ⟨its,r1,p1,_⟩:=I.tuple ha
 obtain ⟨its2,r2,p2,_⟩:=I.tuple hb
 refine HT.cat_tup p1 p2 (fun z=>hx (r1.nil_iff.mp z)) (fun z=>⟨.ref a,H,I,rfl,q1 (r2.nil_iff.mp z)⟩) (fun z=>?_) (by rw [← r1.length,← r2.length];exact hz)
 refine ⟨.ref s.heap.objs.size,_,I.laid (t':=s.toks) (o:=.tup (xs++ys)) (fun b ob q=>Heap.get?_push_of_some _ q) (Nat.le_refl _) ?_,rfl,q2 (fun w=>z (r2.nil_iff.mpr w)) _ (I.hok.fresh (Nat.le_refl _))⟩
 exact ⟨by rw [List.length_append];exact hz,_,r1.append r2,IsTup.new _ _⟩
end
end L2
namespace L2
open PySem PySem.Spec PyProof.Rows
def ixN (n:Nat) (i:Int):Option Nat:=if 0≤i then (if i < n then some i.toNat else none) else if -(n:Int)≤i then some (i + n).toNat else none
def atI {α:Type} (xs:List α) (i:Int):Option α:=(ixN xs.length i).bind fun j=>xs[j]?
theorem ZLI {n:Nat} {i:Int} {j:Nat} (h:ixN n i=some j):seqIndex? i n=some j∧j < n∧-(n:Int)≤i∧i < n:=by
 unfold ixN at h
 by_cases h0:0≤i
 ·rw [if_pos h0] at h
  by_cases h1:i < n
  ·rw [if_pos h1] at h
   have e:i.toNat=j:=Option.some.inj h
   exact ⟨by rw [seqIndex_of h0 h1,e],by omega,by omega,h1⟩
  ·rw [if_neg h1] at h;cases h
 ·rw [if_neg h0] at h
  by_cases h1:-(n:Int)≤i
  ·rw [if_pos h1] at h
   have e:(i + n).toNat=j:=Option.some.inj h
   exact ⟨by rw [seqIndex_neg (by omega) h1,e],by omega,h1,by omega⟩
  ·rw [if_neg h1] at h;cases h
theorem ZMz {α:Type} {xs:List α} {i:Int} {v:α} (h:atI xs i=some v):∃ j,seqIndex? i xs.length=some j∧xs[j]?=some v∧j < xs.length∧-(xs.length:Int)≤i∧i < xs.length:=by
 unfold atI at h
 cases e:ixN xs.length i with
 | none=>rw [e] at h;cases h
 | some j=>
  rw [e] at h
  obtain ⟨h1,h2,h3,h4⟩:=ZLI e
  exact ⟨j,h1,h,h2,h3,h4⟩
def ZQh (b:Expr):Prop:=∀ o i,subscripted b false o i=operate [o,i] (getItem o i)
def IxR (X:Cx) (r:R2):Prop:=
 ∀ (value slice:Expr) (pins:List (Addr×Obj)) (s:Shared) (σ:St) (H:Hp) (x y:V) (v u:Value) (Q:VK),Inv X pins σ H s→RelV x v→RelV y u→r x y H Q→
  subscripted slice false v u=operate [v,u] (getItem v u)→wpAny (model X.prog X.w) X.A (subscriptTail value slice v u) (EP X pins σ Q) X.xe s
def MtR (X:Cx) (id:String) (r:V→List V→Hp→VK→Prop):Prop:=
 ∀ (pins:List (Addr×Obj)) (s:Shared) (σ:St) (H:Hp) (x:V) (xs:List V) (v:Value) (us:List Value) (Q:VK),Inv X pins σ H s→RelV x v→Vals xs us→r x xs H Q→
  wpAny (model X.prog X.w) X.A (call (.builtin id) (v::us)) (EP X pins σ Q) X.xe s
section
variable {X:Cx} {a b:Expr} {ta tb:TE} {pos:Pos}
theorem Zaw {r:R2} (hr:IxR X r) (ha:PE X a ta) (hb:PE X b tb) (hs:ZQh b):PE X (.Subscript a b pos) (tOp r ta tb):=by
 try unfold PE
 intro pins s σ H Q I h
 exact Subscript_ (binT ha hb I h fun v u s2 x y H2 I2 rx ry q=>hr a b pins s2 σ H2 x y v u Q I2 rx ry q (hs _ _))
def rIxL (K:PySem.W.Frag):R2:=fun x y H Q=>∃ p xs i v,x=.ref p∧y=.int i∧SqL K H p xs∧atI xs i=some v∧Q v H
def rIxT (K:PySem.W.Frag):R2:=fun x y H Q=>∃ p xs i v,x=.ref p∧y=.int i∧SqT K H p xs∧atI xs i=some v∧Q v H
theorem ZbN:IxR X (rIxL X.K):=by
 intro value slice pins s σ H x y v u Q I rx ry h hs
 obtain ⟨p,xs,i,z,rfl,rfl,hq,he,q⟩:=h
 cases rx
 obtain ⟨t,rfl⟩:=ry
 obtain ⟨its,r,pl,hz⟩:=I.list hq
 obtain ⟨j,h1,h2,h3,h4,h5⟩:=ZMz he
 obtain ⟨w,ew,rw'⟩:=r.get h2
 have hl:=r.length
 have hn:=ZDd
 have fin:EP X pins σ Q w s:=⟨z,H,I,rw',q⟩
 by_cases h0:0≤i
 ·have hj:i.toNat=j:=by
   rw [seqIndex_of h0 h5] at h1
   exact Option.some.inj h1
  exact item_listR pl.isList h0 (by omega) (by rw [hj];simpa using ew) fin hs
 ·have hj:(i + (its.toArray.size:Int)).toNat=j:=by
   rw [seqIndex_neg (by omega) h4] at h1
   rw [List.size_toArray,← hl]
   exact Option.some.inj h1
  exact subscriptTail_builtinR (x:=w) pl.isList.typeIs slot_list_getitem.lookup
   (wpAny_getItem_list_neg (Q:=fun r s'=>r=w∧EP X pins σ Q r s') pl.isList (by omega) (by rw [List.size_toArray] <;> omega) (by omega) (by rw [hj];simpa using ew) ⟨rfl,fin⟩) hs
theorem ZaF:IxR X (rIxT X.K):=by
 intro value slice pins s σ H x y v u Q I rx ry h hs
 obtain ⟨p,xs,i,z,rfl,rfl,hq,he,q⟩:=h
 cases rx
 obtain ⟨t,rfl⟩:=ry
 obtain ⟨its,r,pl,hz⟩:=I.tuple hq
 obtain ⟨j,h1,h2,h3,h4,h5⟩:=ZMz he
 obtain ⟨w,ew,rw'⟩:=r.get h2
 have hl:=r.length
 have hn:=ZDd
 have fin:EP X pins σ Q w s:=⟨z,H,I,rw',q⟩
 exact subscriptTail_builtinR (x:=w) pl.typeIs slot_tuple_getitem.lookup
  (getItem_tuple (j:=j) (Q:=fun r s'=>r=w∧EP X pins σ Q r s') pl (by omega) (by omega) (by rw [List.size_toArray,← hl];exact h1) (by simpa using ew) ⟨rfl,fin⟩) hs
theorem ZJE (its:List Value) (n j:Nat) (u:Value):Obj.mapSeq (·.setIfInBounds j u) {cls:=.type "list",data:=.seq its.toArray n}={cls:=.type "list",data:=.seq (its.set j u).toArray n}:=by
 simp [Obj.mapSeq]
theorem Inv.lst {pins:List (Addr×Obj)} {σ:St} {H:Hp} {s:Shared} {p:Addr} {xs:List V} (I:Inv X pins σ H s) (h:H p=some (.lst xs)) :
  ∃ (its:List Value) (n:Nat),Vals xs its∧s.heap.get? p=some {cls:=.type "list",data:=.seq its.toArray n}∧xs.length≤sizeLine:=by
 obtain ⟨z,its,n,r,e⟩:=I.hok p _ h
 exact ⟨its,n,r,e,z⟩
theorem Inv.lstUpd {pins:List (Addr×Obj)} {σ:St} {H:Hp} {s:Shared} {p:Addr} {xs ys:List V} {its its':List Value} {n n':Nat} {f:Obj→Obj} (I:Inv X pins σ H s) (h:H p=some (.lst xs))
  (ho:s.heap.get? p=some {cls:=.type "list",data:=.seq its.toArray n}) (hf:f {cls:=.type "list",data:=.seq its.toArray n}={cls:=.type "list",data:=.seq its'.toArray n'}) (r:Vals ys its') (hz:ys.length≤sizeLine) (t:Nat) :
  Inv X pins σ (upd H p (.lst ys)) {s with heap:=s.heap.update p f,toks:=t}:=by
 have e:(s.heap.update p f).get? p=some {cls:=.type "list",data:=.seq its'.toArray n'}:=by
  rw [Heap.get?_update_self f ho (by rw [hf] <;> rfl),hf]
 refine I.write (x:=p) (e:=p) (by rw [h];trivial) (.inl rfl) (fun b u hb q=>(Heap.get?_update_other _ _ (Ne.symm hb)).trans q) ⟨_,e⟩ ?_
 exact ⟨hz,its',n',r,e⟩
def ZRY:V→V→V→Hp→(Hp→Prop)→Prop:=fun o i v H Q=>∃ p xs k j,o=.ref p∧i=.int k∧H p=some (.lst xs)∧ixN xs.length k=some j∧Q (upd H p (.lst (xs.set j v)))
theorem ZHG:PSet X ZRY:=by
 intro pins s σ H o i v ov iv u Q I ro ri rv h
 obtain ⟨p,xs,k,j,rfl,rfl,hp,hj,q⟩:=h
 cases ro
 obtain ⟨t,rfl⟩:=ri
 obtain ⟨its,n,r,ho,hz⟩:=I.lst hp
 obtain ⟨h1,h2,h3,h4⟩:=ZLI hj
 have hl:=r.length
 have hn:=ZDd
 have I':Inv X pins σ (upd H p (.lst (xs.set j v))) {s with heap:=s.heap.update p (Obj.mapSeq (·.setIfInBounds j u))}:=
  I.lstUpd hp ho (ZJE its n j u) (r.set rv j) (by rw [List.length_set];exact hz) s.toks
 by_cases h0:0≤k
 ·have hk:k.toNat=j:=by
   rw [seqIndex_of h0 h4] at h1
   exact Option.some.inj h1
  exact PySem.W.ki_setAt ho h0 (by omega) (by rw [List.size_toArray,← hl];exact h4) (by rw [hk];exact ⟨_,I',q⟩)
 ·have hk:(k + (its.toArray.size:Int)).toNat=j:=by
   rw [seqIndex_neg (by omega) h3] at h1
   rw [List.size_toArray,← hl]
   exact Option.some.inj h1
  exact PySem.W.ki_setBack ho (by omega) (by rw [List.size_toArray,← hl];exact h3) (by omega) (by rw [hk];exact ⟨_,I',q⟩)
theorem ZCc (lo hi:Option Int) (n:Nat):(sliceBounds lo hi none n).1=((HT.sIx n 0 lo:Nat):Int)∧(sliceBounds lo hi none n).2.1=((HT.sIx n n hi:Nat):Int)∧(sliceBounds lo hi none n).2.2=1:=by
 refine ⟨?_,?_,rfl⟩
 ·cases lo with
  | none=>simp [sliceBounds,HT.sIx]
  | some i=>
   simp only [sliceBounds,HT.sIx,Option.getD_none,show (1:Int) > 0 by decide,if_true]
   by_cases h:i < 0
   ·simp only [h,if_true] <;> omega
   ·simp only [h,if_false] <;> omega
 ·cases hi with
  | none=>simp [sliceBounds,HT.sIx]
  | some i=>
   simp only [sliceBounds,HT.sIx,Option.getD_none,show (1:Int) > 0 by decide,if_true]
   by_cases h:i < 0
   ·simp only [h,if_true] <;> omega
   ·simp only [h,if_false] <;> omega
theorem ZyN (its:List Value) (lo hi:Option Int):slicePick its.toArray lo hi none=((its.drop (HT.sIx its.length 0 lo)).take (HT.sIx its.length its.length hi - HT.sIx its.length 0 lo)).toArray:=by
 obtain ⟨h1,h2,h3⟩:=ZCc lo hi its.toArray.size
 unfold slicePick
 rw [h1,h2,h3]
 simp only [sliceRange_one,pick_run,List.size_toArray] <;> rfl
def rSlL (K:PySem.W.Frag):V→Option Int→Option Int→Hp→VK→Prop:=fun x lo hi H Q=>∃ a xs,x=.ref a∧SqL K H a xs∧∀ p,H p=none→Q (.ref p) (upd H p (.lst (cutV xs lo hi)))
theorem ZhD:SlR X (rSlL X.K):=by
 intro pins s σ H x v vl vu lo hi sl Q I rx hs pl pu h
 obtain ⟨a,xs,rfl,hx,q⟩:=h
 cases rx
 obtain ⟨its,r,ht,hz⟩:=I.list hx
 have hlen:=r.length
 refine ⟨"list",_,slot_list_getitem.lookup,ht.isList.typeIs,?_⟩
 refine wpAny_getItem_list_slice ht.isList hs pl pu .none (by simp) ?_ (by rw [List.size_toArray] <;> omega)
 rw [ZyN,← hlen]
 refine ⟨.ref s.heap.objs.size,_,I.laid (t':=s.toks) (o:=.lst (cutV xs lo hi)) (fun b ob q=>Heap.get?_push_of_some _ q) (Nat.le_refl _) ?_,rfl,q _ (I.hok.fresh (Nat.le_refl _))⟩
 exact ⟨Nat.le_trans (Zvw xs lo hi) hz,_,0,(r.drop (HT.sIx xs.length 0 lo)).take (HT.sIx xs.length xs.length hi - HT.sIx xs.length 0 lo),Heap.get?_push_size _ rfl⟩
def ZlF:V→Bool
 | .non=>true
 | .bl _=>true
 | .int _=>true
 | .str _=>true
 | _=>false
def eqV:V→V→Bool
 | .non,.non=>true
 | .bl a,.bl b=>a == b
 | .bl a,.int b=>(if a then 1 else 0) == b
 | .int a,.bl b=>a == (if b then 1 else 0)
 | .int a,.int b=>a == b
 | .str a,.str b=>a == b
 | _,_=>false
theorem ZRv {A:Around} {s:Shared} {y x:V} {u v:Value} (ry:RelV y u) (rx:RelV x v) (fy:ZlF y=true) (fx:ZlF x=true):SeqAt.EqAt A s u v (eqV y x):=by
 cases y with
 | non=>
  cases ry
  cases x with
  | non=>cases rx;exact SeqAt.EqAt.same _
  | bl b=>cases rx;exact SeqAt.EqAt.none_bool b
  | int b=>obtain ⟨t,rfl⟩:=rx;exact SeqAt.EqAt.none_int b t
  | str b=>obtain ⟨t,rfl⟩:=rx;exact SeqAt.EqAt.none_str b t
  | _=>exact absurd (show false=true from fx) Bool.false_ne_true
 | bl a=>
  cases ry
  cases x with
  | non=>cases rx;exact SeqAt.EqAt.bool_none a
  | bl b=>cases rx;exact SeqAt.EqAt.bool_bool a b
  | int b=>obtain ⟨t,rfl⟩:=rx;exact SeqAt.EqAt.bool_int a b t
  | str b=>obtain ⟨t,rfl⟩:=rx;exact SeqAt.EqAt.bool_str a b t
  | _=>exact absurd (show false=true from fx) Bool.false_ne_true
 | int a=>
  obtain ⟨t',rfl⟩:=ry
  cases x with
  | non=>cases rx;exact SeqAt.EqAt.int_none a t'
  | bl b=>cases rx;exact SeqAt.EqAt.int_bool a t' b
  | int b=>obtain ⟨t,rfl⟩:=rx;exact SeqAt.EqAt.int_int a t' b t
  | str b=>obtain ⟨t,rfl⟩:=rx;exact SeqAt.EqAt.int_str a t' b t
  | _=>exact absurd (show false=true from fx) Bool.false_ne_true
 | str a=>
  obtain ⟨t',rfl⟩:=ry
  cases x with
  | non=>cases rx;exact SeqAt.EqAt.str_none a t'
  | bl b=>cases rx;exact SeqAt.EqAt.str_bool a t' b
  | int b=>obtain ⟨t,rfl⟩:=rx;exact SeqAt.EqAt.str_int a t' b t
  | str b=>obtain ⟨t,rfl⟩:=rx;exact SeqAt.EqAt.str_str a t' b t
  | _=>exact absurd (show false=true from fx) Bool.false_ne_true
 | _=>exact absurd (show false=true from fy) Bool.false_ne_true
def eqU (x:V) (u:Value):Bool:=match u with
 | .none=>eqV .non x
 | .bool b=>eqV (.bl b) x
 | .int i _=>eqV (.int i) x
 | .str z _=>eqV (.str z) x
 | _=>false
theorem ZH6 {x y:V} {u:Value} (r:RelV y u) (f:ZlF y=true):eqU x u=eqV y x:=by
 cases y with
 | non=>cases r;rfl
 | bl b=>cases r;rfl
 | int i=>obtain ⟨t,rfl⟩:=r;rfl
 | str z=>obtain ⟨t,rfl⟩:=r;rfl
 | _=>exact absurd (show false=true from f) Bool.false_ne_true
theorem ZG8 {x:V}:∀ {xs:List V} {us:List Value},Vals xs us→xs.all ZlF=true→us.any (eqU x)=xs.any fun y=>eqV y x
 | _,_,.nil,_=>rfl
 | y::xs,u::us,.cons r t,f=>by
  rw [List.all_cons,Bool.and_eq_true] at f
  rw [List.any_cons,List.any_cons,ZH6 r f.1,ZG8 t f.2]
theorem Znp {A:Around} {s:Shared} {x:V} {v:Value} (rx:RelV x v) (fx:ZlF x=true):∀ {xs:List V} {us:List Value},Vals xs us→xs.all ZlF=true→∀ u∈us,SeqAt.EqAt A s u v (eqU x u)
 | _,_,.nil,_=>fun u hu=>by cases hu
 | y::xs,u::us,.cons r t,f=>fun u' hu=>by
  rw [List.all_cons,Bool.and_eq_true] at f
  rcases List.mem_cons.mp hu with rfl | hu
  ·rw [ZH6 r f.1];exact ZRv r rx f.1 fx
  ·exact Znp rx fx t f.2 u' hu
def inV (x:V) (xs:List V):Bool:=xs.any fun y=>eqV y x
def rIn (K:PySem.W.Frag) (neg:Bool):R2:=fun x y H Q=>∃ p xs,y=.ref p∧(SqL K H p xs∨SqT K H p xs)∧ZlF x=true∧xs.all ZlF=true∧Q (.bl (if neg then !inV x xs else inV x xs)) H
theorem ZLe:OpR X (compareOp .In) (rIn X.K false):=by
 intro pins s σ H x y v u Q I rx ry h
 obtain ⟨p,xs,rfl,hq,fx,fs,q⟩:=h
 cases ry
 rcases hq with hq | hq
 ·obtain ⟨its,r,pl,hz⟩:=I.list hq
  refine SeqAt.in_listAt (eqU x) pl.isList (fun w hw=>Znp rx fx r fs w (by simpa using hw)) ⟨.bl _,H,I,rfl,?_⟩
  rw [show its.toArray.any (eqU x)=its.any (eqU x) by simp,ZG8 r fs]
  exact q
 ·obtain ⟨its,r,pl,hz⟩:=I.tuple hq
  refine SeqAt.in_tupleAt (eqU x) pl (fun w hw=>Znp rx fx r fs w (by simpa using hw)) ⟨.bl _,H,I,rfl,?_⟩
  rw [show its.toArray.any (eqU x)=its.any (eqU x) by simp,ZG8 r fs]
  exact q
theorem Zu:ZfX X (.builtin "len") (fun xs H Q=>∃ p ys,xs=[.ref p]∧(SqL X.K H p ys∨SqT X.K H p ys)∧Q (.int ys.length) H):=by
 intro pins s σ H xs us Q I r h
 obtain ⟨p,ys,rfl,hq,q⟩:=h
 obtain ⟨u,rfl,rx⟩:=ZKi r
 cases rx
 have hn:=ZDd
 rcases hq with hq | hq
 ·obtain ⟨its,r',pl,hz⟩:=I.list hq
  have hlen:=r'.length
  exact Calls.call_len_list pl.isList (by simp only [List.size_toArray] <;> omega) ⟨.int ys.length,H,I.tok _,⟨s.toks + 1,by rw [List.size_toArray,hlen]⟩,q⟩
 ·obtain ⟨its,r',pl,hz⟩:=I.tuple hq
  have hlen:=r'.length
  exact len_tuple pl (by simp only [List.size_toArray] <;> omega) ⟨.int ys.length,H,I.tok _,⟨s.toks + 1,by rw [List.size_toArray,hlen]⟩,q⟩
theorem ZiW:ZfX X (.builtin "len") (fun xs H Q=>∃ z,xs=[.str z]∧z.length≤sizeLine∧Q (.int z.length) H):=by
 intro pins s σ H xs us Q I r h
 obtain ⟨z,rfl,hz,q⟩:=h
 obtain ⟨u,rfl,t,rfl⟩:=ZKi r
 have hn:=ZDd
 exact len_str (by omega) ⟨.int z.length,H,I.tok _,⟨_,rfl⟩,q⟩
theorem Zsw:ZfX X (.type "list") (fun xs H Q=>∃ p ys,xs=[.ref p]∧(SqL X.K H p ys∨SqT X.K H p ys)∧∀ l,H l=none→Q (.ref l) (upd H l (.lst ys))):=by
 intro pins s σ H xs us Q I r h
 obtain ⟨p,ys,rfl,hq,q⟩:=h
 obtain ⟨u,rfl,rx⟩:=ZKi r
 cases rx
 have fin:∀ (its:List Value),Vals ys its→ys.length≤sizeLine→∀ (h':Heap) (c':Nat),(∀ b o',s.heap.get? b=some o'→h'.get? b=some o')→
   h'.get? s.heap.objs.size=some {cls:=.type "list",dict:=none,data:=.seq its.toArray c',slots:=#[]}→EP X pins σ Q (.ref s.heap.objs.size) {s with heap:=h'}:=fun its r' hz h' c' kp e=>
  ⟨.ref s.heap.objs.size,_,I.laid (t':=s.toks) kp (Nat.le_refl _) (show ZaB X.prog X.w _ h' _ (.lst ys) from ⟨hz,its,c',r',e⟩),rfl,q _ (I.hok.fresh (Nat.le_refl _))⟩
 rcases hq with hq | hq
 ·obtain ⟨its,r',pl,hz⟩:=I.list hq
  have hlen:=r'.length
  obtain ⟨o,ho,hc,n,hd⟩:=pl.isList
  exact call_list_seq p (.inl rfl) ho hc hd (fun h' c' kp e=>fin its r' hz h' c' kp e) (by simp only [List.size_toArray] <;> omega)
 ·obtain ⟨its,r',pl,hz⟩:=I.tuple hq
  have hlen:=r'.length
  obtain ⟨o,ho,hc,n,hd⟩:=pl
  exact call_list_seq p (.inr rfl) ho hc hd (fun h' c' kp e=>fin its r' hz h' c' kp e) (by simp only [List.size_toArray] <;> omega)
theorem ZgT:ZfX X (.type "tuple") (fun xs H Q=>∃ p ys,xs=[.ref p]∧((SqL X.K H p ys∧∀ l,H l=none→Q (.ref l) (upd H l (.tup ys)))∨(SqT X.K H p ys∧Q (.ref p) H))):=by
 intro pins s σ H xs us Q I r h
 obtain ⟨p,ys,rfl,h⟩:=h
 obtain ⟨u,rfl,rx⟩:=ZKi r
 cases rx
 rcases h with ⟨hq,q⟩ | ⟨hq,q⟩
 ·obtain ⟨its,r',pl,hz⟩:=I.list hq
  have hlen:=r'.length
  refine call_tuple_list pl.isList (fun h' kp=>?_) (by simp only [List.size_toArray] <;> omega)
  have I1:Inv X pins σ H {s with heap:=h'}:=I.kept (t':=s.toks) kp
  have I2:Inv X pins σ (upd H h'.objs.size (.tup ys)) {s with heap:=h'.push {cls:=.type "tuple",data:=.seq its.toArray}}:=
   I1.laid (t':=s.toks) (fun b o e=>Heap.get?_push_of_some _ e) (Nat.le_refl _) (show ZaB X.prog X.w _ _ _ (.tup ys) from ⟨hz,its,r',IsTup.new _ _⟩)
  exact ⟨.ref h'.objs.size,_,I2,rfl,q _ (I1.hok.fresh (Nat.le_refl _))⟩
 ·obtain ⟨its,r',pl,hz⟩:=I.tuple hq
  exact call_tuple_same pl ⟨.ref p,H,I,rfl,q⟩
def tyV (K:PySem.W.Frag) (T:String) (x:V) (H:Hp):Prop:=match x with
 | .str _=>T="str"
 | .int _=>T="int"
 | .ref p=>(T="list"∧∃ xs,SqL K H p xs)∨(T="tuple"∧∃ o,K.lookup p=some o∧o.cls=.type "tuple"∧o.dict=none)∨
   (T="dict"∧((∃ kvs,H p=some (.dK kvs))∨∃ kvs,H p=some (.dT kvs)))∨(T="set"∧∃ S n,H p=some (.set S n))
 | _=>False
theorem ZOg {pins:List (Addr×Obj)} {σ:St} {H:Hp} {s:Shared} {T:String} {x:V} {v:Value} (I:Inv X pins σ H s) (r:RelV x v) (ty:tyV X.K T x H) :
  s.TypeIs v T∧∀ a,v=.ref a→∃ ob,s.heap.get? a=some ob∧ob.dict=none:=by
 cases x with
 | str z=>
  obtain ⟨t,rfl⟩:=r
  cases (show T="str" from ty)
  exact ⟨typeIs_str s z t,fun _ e=>nomatch e⟩
 | int i=>
  obtain ⟨t,rfl⟩:=r
  cases (show T="int" from ty)
  exact ⟨typeIs_int s i t,fun _ e=>nomatch e⟩
 | ref p=>
  cases r
  rcases ty with ⟨rfl,xs,hq⟩ | ⟨rfl,o,hk,hc,hd⟩ | ⟨rfl,hk⟩ | ⟨rfl,S,n,hk⟩
  ·obtain ⟨its,_,pl,_⟩:=I.list hq
   refine ⟨pl.isList.typeIs,fun a e=>?_⟩
   cases e
   obtain ⟨o,n,e,c,hd,_⟩:=pl
   exact ⟨o,e,hd⟩
  ·refine ⟨⟨o,I.kIn p o hk,hc⟩,fun a e=>?_⟩
   cases e
   exact ⟨o,I.kIn _ o hk,hd⟩
  ·have z:∃ o,s.heap.get? p=some o∧o.ExactDict:=by
    rcases hk with ⟨kvs,hk⟩ | ⟨kvs,hk⟩
    ·obtain ⟨_,_,_,_,o,_,_,e,ex,_⟩:=I.hok p _ hk
     exact ⟨o,e,ex⟩
    ·obtain ⟨_,_,_,_,o,_,_,e,ex,_⟩:=I.hok p _ hk
     exact ⟨o,e,ex⟩
   obtain ⟨o,e,ex⟩:=z
   refine ⟨⟨o,e,ex.1⟩,fun a e2=>?_⟩
   cases e2
   exact ⟨o,e,ex.2.1⟩
  ·obtain ⟨o,_,_,_,e,ex,_⟩:=I.hok p _ hk
   refine ⟨⟨o,e,ex.1⟩,fun a e2=>?_⟩
   cases e2
   exact ⟨o,e,ex.2.1⟩
 | _=>exact False.elim ty
def tBM0 (K:PySem.W.Frag) (T:String) (r:V→List V→Hp→VK→Prop) (to:TE):TE:=fun σ H Q=>to σ H fun x H1=>tyV K T x H1∧r x [] H1 Q
def tBM (K:PySem.W.Frag) (T:String) (r:V→List V→Hp→VK→Prop) (to:TE) (t:TA):TE:=fun σ H Q=>to σ H fun x H1=>tyV K T x H1∧t σ H1 fun xs H2=>r x xs H2 Q
variable {o e:Expr} {es:List Expr} {to:TE} {t:TA} {name:Str} {apos cpos:Pos} {T id:String} {r:V→List V→Hp→VK→Prop}
theorem ZCB (pa:PlainAttrs T) (slot:Slot T name id) (hty:typeOf (.builtin id)=pure (.type "method_descriptor")) (hm:MtR X id r) (ho:PE X o to)
  (hbase:attributeBase o name X.env (eval o X.env)=eval o X.env:=by rfl) (hline:(apos.endLine == cpos.line)=true:=by rfl):PE X (.Call (.Attribute o name apos) [] [] cpos) (tBM0 X.K T r to):=by
 try unfold PE at *
 intro pins s σ H Q I h
 refine wpAny_Call_method0_late hbase hline (thn (ho pins s σ H _ I h) fun v s1 ⟨x,H1,I1,r1,ty,q1⟩=>?_)
 obtain ⟨h1,h2⟩:=ZOg I1 r1 ty
 exact ⟨T,id,pa,slot,hty,h1,h2,Calls.callWith_builtin rfl (PySem.evalArgs_none (hm pins s1 σ H1 x [] v [] Q I1 r1 .nil q1))⟩
theorem Ztq (pa:PlainAttrs T) (slot:Slot T name id) (hty:typeOf (.builtin id)=pure (.type "method_descriptor")) (hm:MtR X id r) (ho:PE X o to) (ha:PA X (e::es) t)
  (hbase:attributeBase o name X.env (eval o X.env)=eval o X.env:=by rfl)
  (hfew:((backTo cpos (starEach (e::es) X.env)).all (fun x=>!x.1) && (backToKw cpos (keywordEach [] X.env)).all (fun x=>x.1.isSome)
   && decide ((e::es).length + ([]:List Keyword).length + (if ([]:List Keyword).isEmpty then 0 else 1) < 30))=true:=by rfl)
  (hline:(apos.endLine == cpos.line)=true:=by rfl) (hs:starEach (e::es) X.env=(false,eval e X.env)::starEach es X.env:=by rfl) (hplain:(backTo cpos (starEach es X.env)).any (·.1)=false:=by rfl) :
  PE X (.Call (.Attribute o name apos) (e::es) [] cpos) (tBM X.K T r to t):=by
 try unfold PE at *;try unfold PA at *
 intro pins s σ H Q I h
 refine wpAny_Call_method_late hbase hfew hline rfl (thn (ho pins s σ H _ I h) fun v s1 ⟨x,H1,I1,r1,ty,q1⟩=>?_)
 obtain ⟨h1,h2⟩:=ZOg I1 r1 ty
 refine ⟨T,id,pa,slot,hty,h1,h2,?_⟩
 have hA:=ha cpos pins s1 σ H1 _ I1 q1
 rw [hs] at hA ⊢
 refine Calls.callWith_builtin (by show (false || (backTo cpos (starEach es X.env)).any (·.1))=false;rw [hplain] <;> rfl) (Calls.evalArgs_plain ?_)
 exact thn hA fun us s2 ⟨vs,H2,I2,r2,q2⟩=>hm pins s2 σ H2 x vs v us Q I2 r1 r2 q2
end
end L2
namespace L2
open PySem PySem.Spec PyProof.Rows
def MtM (X:Cx) (id:String) (r:V→List V→Hp→VK→Prop):Prop:=
 ∀ (pins:List (Addr×Obj)) (s:Shared) (σ:St) (H:Hp) (x:V) (xs:List V) (v:Value) (us:List Value) (Q:VK),Inv X pins σ H s→RelV x v→Vals xs us→r x xs H Q→
  wpAny (model X.prog X.w) X.A (call (.builtin id) (v::us)) (EP X pins σ Q) X.xe s
theorem Vals.one:∀ {x:V} {us:List Value},Vals [x] us→∃ u,us=[u]∧RelV x u
 | _,_,.cons r .nil=>⟨_,rfl,r⟩
theorem Vals.two:∀ {x y:V} {us:List Value},Vals [x,y] us→∃ u v,us=[u,v]∧RelV x u∧RelV y v
 | _,_,_,.cons r (.cons q .nil)=>⟨_,_,rfl,r,q⟩
theorem Vals.zero:∀ {us:List Value},Vals [] us→us=[]
 | _,.nil=>rfl
theorem Vals.rep {xs:List V} {us:List Value} (h:Vals xs us):∀ k:Nat,Vals (List.replicate k xs).flatten (List.replicate k us).flatten
 | 0=>.nil
 | k + 1=>by
  rw [List.replicate_succ,List.replicate_succ,List.flatten_cons,List.flatten_cons]
  exact Vals.append h (Vals.rep h k)
theorem Zn8 (its:List Value):∀ (k:Nat) (acc:List Value),
  List.foldl (fun x1 x2=>x1++x2) acc.toArray (List.replicate k its.toArray)=(acc++(List.replicate k its).flatten).toArray
 | 0,acc=>by simp
 | k + 1,acc=>by
  have e:acc.toArray++its.toArray=(acc++its).toArray:=by simp
  have e2:(acc++its)++(List.replicate k its).flatten=acc++(List.replicate (k + 1) its).flatten:=by
   rw [List.replicate_succ,List.flatten_cons,List.append_assoc]
  rw [← e2,← Zn8 its k (acc++its),← e,List.replicate_succ,List.foldl_cons]
section
variable {X:Cx} {pins:List (Addr×Obj)} {σ:St} {H:Hp} {s:Shared} {l b:Addr} {xs ys zs:List V}
theorem Inv.lset {its its':List Value} {n:Nat} {f:Array Value→Array Value} {t':Nat} (I:Inv X pins σ H s) (hH:H l=some (.lst xs))
  (e:s.heap.get? l=some {cls:=.type "list",data:=.seq its.toArray n}) (hf:f its.toArray=its'.toArray) (hv:Vals ys its') (hz:ys.length≤sizeLine) :
  Inv X pins σ (upd H l (.lst ys)) {s with heap:=s.heap.update l (Obj.mapSeq f),toks:=t'}:=by
 have q:=PySem.IsL.update e f
 rw [hf] at q
 refine I.write (x:=l) (e:=l) (by rw [hH];exact trivial) (.inl rfl) (fun b' u hb hu=>(Heap.get?_update_other s.heap (Obj.mapSeq f) (Ne.symm hb)).trans hu) ⟨_,q⟩ ?_
 exact ⟨hz,its',_,hv,q⟩
theorem Inv.lnew {its:List Value} {t':Nat} (I:Inv X pins σ H s) (hv:Vals ys its) (hz:ys.length≤sizeLine) :
  Inv X pins σ (upd H s.heap.objs.size (.lst ys)) {s with heap:=s.heap.push {cls:=.type "list",data:=.seq its.toArray},toks:=t'}:=
 I.laid (fun _ _ q=>Heap.get?_push_of_some _ q) (Nat.le_refl _) ⟨hz,its,0,hv,Heap.get?_push_size _ rfl⟩
theorem Inv.fresh (I:Inv X pins σ H s):H s.heap.objs.size=none:=I.hok.fresh (Nat.le_refl _)
theorem Inv.lstM (I:Inv X pins σ H s) (hH:H l=some (.lst xs)):xs.length≤sizeLine∧∃ (its:List Value) (n:Nat),Vals xs its∧xs.length=its.length∧s.heap.get? l=some {cls:=.type "list",data:=.seq its.toArray n}:=by
 obtain ⟨z,its,n,r,e⟩:=I.hok l _ hH
 exact ⟨z,its,n,r,r.length,e⟩
theorem ZHN {n:Nat} (h:n≤sizeLine):Builtin.List.listTooLong n=false:=by
 unfold Builtin.List.listTooLong
 exact decide_eq_false (by omega)
end
section
variable {X:Cx}
def ZPm:V→List V→Hp→VK→Prop:=fun x vs H Q=>∃ l xs y,x=.ref l∧vs=[y]∧H l=some (.lst xs)∧xs.length < sizeLine∧Q .non (upd H l (.lst (xs++[y])))
theorem ZdX:MtM X "list.append" ZPm:=by
 intro pins s σ H x vs v us Q I rx rv h
 obtain ⟨l,xs,y,rfl,rfl,hH,hz,q⟩:=h
 cases rx
 obtain ⟨u,rfl,ru⟩:=rv.one
 obtain ⟨z,its,n,r,hl,e⟩:=I.lstM hH
 refine call_meets F.slot_list_append ⟨_,e,rfl⟩ F.entry_list_append (F.args_list_append_2 _ _) (PySem.list_append l its.toArray n u (by rw [List.size_toArray];omega)) ⟨e,?_⟩
 refine ⟨.non,_,I.lset (its':=its++[u]) hH e (by simp) (r.append (.cons ru .nil)) ?_,rfl,q⟩
 rw [List.length_append,List.length_singleton]
 omega
def ZPl:V→List V→Hp→VK→Prop:=fun x vs H Q=>∃ l b xs zs,x=.ref l∧vs=[.ref b]∧H l=some (.lst xs)∧H b=some (.lst zs)∧xs.length + zs.length≤sizeLine∧Q .non (upd H l (.lst (xs++zs)))
theorem ZLp:MtM X "list.extend" ZPl:=by
 intro pins s σ H x vs v us Q I rx rv h
 obtain ⟨l,b,xs,zs,rfl,rfl,hH,hB,hz,q⟩:=h
 cases rx
 obtain ⟨u,rfl,ru⟩:=rv.one
 cases ru
 obtain ⟨z,its,n,r,hl,e⟩:=I.lstM hH
 obtain ⟨z2,its2,n2,r2,hl2,e2⟩:=I.lstM hB
 have hsz:its.toArray.size + its2.toArray.size≤sizeLine:=by rw [List.size_toArray,List.size_toArray];omega
 have hlong:¬ (!its.toArray.isEmpty && Builtin.List.listTooLong (its.toArray.size + its2.toArray.size))=true:=by
  rw [ZHN hsz,Bool.and_false]
  exact Bool.false_ne_true
 refine call_meets F.slot_list_extend ⟨_,e,rfl⟩ F.entry_list_extend (F.args_list_extend_2 _ _)
  (AutoSeq1.list_extend_list_list_0 l its.toArray n b its2.toArray n2 hlong (by rw [List.size_toArray];omega) (by omega)) ⟨e,e2,?_⟩
 refine ⟨.non,_,I.lset (its':=its++its2) hH e (by simp) (r.append r2) ?_,rfl,q⟩
 rw [List.length_append]
 omega
def rCat:R2:=fun x y H Q=>∃ l b xs zs,x=.ref l∧y=.ref b∧H l=some (.lst xs)∧H b=some (.lst zs)∧xs.length + zs.length≤sizeLine∧∀ p,H p=none→Q (.ref p) (upd H p (.lst (xs++zs)))
theorem Zna:OpR X (binaryOp .Add) rCat:=by
 intro pins s σ H x y v u Q I rx ry h
 obtain ⟨l,b,xs,zs,rfl,rfl,hH,hB,hz,q⟩:=h
 cases rx
 cases ry
 obtain ⟨z,its,n,r,hl,e⟩:=I.lstM hH
 obtain ⟨z2,its2,n2,r2,hl2,e2⟩:=I.lstM hB
 refine PySem.P.add_list e e2 ?_ (by rw [List.size_toArray,List.size_toArray];omega)
 have ea:its.toArray++its2.toArray=(its++its2).toArray:=by simp
 rw [ea]
 exact ⟨.ref _,_,I.lnew (t':=s.toks) (r.append r2) (by rw [List.length_append];omega),rfl,q _ I.fresh⟩
def rRep:R2:=fun x y H Q=>∃ l k xs,x=.ref l∧y=.int k∧H l=some (.lst xs)∧-(2 ^ 63)≤k∧k < 2 ^ 63∧xs.length * k.toNat≤sizeLine∧
 ∀ p,H p=none→Q (.ref p) (upd H p (.lst (List.replicate k.toNat xs).flatten))
theorem ZGF {α:Type} (xs:List α) (k:Nat):(List.replicate k xs).flatten.length=k * xs.length:=by
 induction k with
 | zero=>simp
 | succ k ih=>rw [List.replicate_succ,List.flatten_cons,List.length_append,ih,Nat.succ_mul,Nat.add_comm]
theorem ZOy:OpR X (binaryOp .Mult) rRep:=by
 intro pins s σ H x y v u Q I rx ry h
 obtain ⟨l,k,xs,rfl,rfl,hH,h1,h2,hz,q⟩:=h
 cases rx
 obtain ⟨t,rfl⟩:=ry
 obtain ⟨z,its,n,r,hl,e⟩:=I.lstM hH
 have hlen:its.toArray.size * k.toNat≤sizeLine:=by rw [List.size_toArray,← hl];exact hz
 have hcap:¬ its.toArray.size * k.toNat > (2 ^ 63 - 1) / 8:=by
  have:(sizeLine:Nat)≤(2 ^ 63 - 1) / 8:=by decide
  omega
 have hfit:¬ (!Builtin.List.listFitsIndex k)=true:=by
  rw [fitsIndex_both h1 h2]
  exact Bool.false_ne_true
 have hlong:¬ Builtin.List.listTooLong (its.toArray.size * k.toNat)=true:=by
  rw [ZHN hlen]
  exact Bool.false_ne_true
 have hnew:List.foldl (fun x1 x2=>x1++x2) #[] (List.replicate (if its.toArray.isEmpty=true then 0 else k.toNat) its.toArray)=(List.replicate k.toNat its).flatten.toArray:=by
  have f0:∀ m:Nat,List.foldl (fun x1 x2=>x1++x2) #[] (List.replicate m its.toArray)=(List.replicate m its).flatten.toArray:=fun m=>by
   have:=Zn8 its m []
   rw [List.nil_append] at this
   exact this
  rw [f0]
  cases its with
  | nil=>simp
  | cons a r'=>rw [if_neg (by simp)]
 refine wpAny_binaryOp_repeat_ref (T:="list") (U:="int") (by decide) ⟨_,e,rfl⟩ (fun s'=>typeIs_int s' k t) noFill_list_mul F.fills_int_mul F.slot_int_rmul repeat_list F.slot_int_index.lookup
  (call_meets F.slot_int_rmul (typeIs_int s k t) F.entry_int_rmul (F.args_int_rmul_2 _ _) (int___rmul___int_list k t l its.toArray n)
   ⟨e,rfl,⟨_,e,rfl⟩,call_meets F.slot_list_mul ⟨_,e,rfl⟩ F.entry_list_mul (F.args_list_mul_2 _ _) (AutoListH.list___mul___list_int_3 l its.toArray n k t hfit hcap hlong) ⟨e,?_⟩⟩)
 rw [hnew]
 exact ⟨.ref _,_,I.lnew (t':=s.toks) (r.rep k.toNat) (by rw [ZGF,Nat.mul_comm];exact hz),rfl,q _ I.fresh⟩
end
section
variable {prog:Program} {w:World} {A:Around} {E:Value→Shared→Prop} {s:Shared}
end
section
variable {X:Cx}
end
end L2
namespace Att
open PySem PySem.W PySem.Calls PyProof.Rows
theorem Zvf {P:Params} {h:Heap}:∀ (ns:List Int) (vs:List Value),WellAll P h vs (ns.map WData.int)→IntsAre vs ns:=by
 intro ns
 induction ns with
 | nil=>
  intro vs w
  rw [List.map_nil] at w
  cases w
  exact .nil
 | cons n ns ih=>
  intro vs w
  rw [List.map_cons] at w
  cases w with
  | cons a b=>
   cases a
   exact .cons _ _ (ih _ b)
theorem ZKP {l:OpenLaw} {n:Nat} (hn:l.most=some n) {P:Params} {h:Heap} {args:List WData} {vals:List Value}
    (hpre:l.row.toRowW.claim.pre args=true) (hwl:WellAll P h vals args) :
    ∃ a vs ns,vals=[Value.ref a]∧args=[WData.list (ns.map WData.int)]∧h.get? a=some {cls:=.type "list",data:=.seq vs.toArray}∧IntsAre vs ns∧ns.length≤n:=by
  have hsh:WShape.hasAll [] args [.list .int]=true:=(pre_splitW hpre).1
  have hc:l.pre.holds [] {args:=args}=true:=(pre_splitW hpre).2
  obtain ⟨d,r,rfl,h1,h2⟩:=hasAllW_cons hsh
  obtain rfl:=hasAllW_nil h2
  obtain ⟨xs,rfl,h3⟩:=hasW_list h1
  obtain ⟨ns,rfl⟩:=items_int h3
  have hlen:ns.length≤n:=by
    unfold OpenLaw.pre at hc
    have h4:(WTm.not (.lt (.lit (.int (n:Int))) (.len (.arg 0)))).holds [] {args:=[.list (ns.map .int)]}=true:=by
      have h4:=(holds_andW hc).1
      rw [hn] at h4
      exact h4
    have h5:=condW_of h4 (w_not (w_lt w_lit (w_len_list (w_arg rfl))))
    rw [List.length_map] at h5
    refine Nat.le_of_not_lt fun q=>?_
    have q':(n:Int) < ((ns.length:Nat):Int):=by omega
    first
      | (rw [decide_eq_true q'] at h5;exact absurd h5 (by decide))
      | (simp at h5;omega)
  cases hwl with
  | cons w1 w2=>
    cases w2
    cases w1 with
    | list ho hall=>exact ⟨_,_,ns,rfl,rfl,ho,Zvf ns _ hall,hlen⟩
theorem ZKZ (l:OpenLaw) (args:List WData):l.row.toRowW.claim.post args (.bool true) args=true:=
 postW_of (r:=l.row.toRowW) (X:=(true == true))
  (show WShape.has [] (.bool true) .bool=true by first | rfl | decide | simp [WShape.has,WShape.arms,WShape.armsAll])
  (show (WTm.eq .res (.lit (.bool true))).value [] {args:=args,res:=some (.bool true),after:=args}=some (.bool (true == true)) from w_eq_bool (w_res rfl) w_lit) rfl
theorem attach_call {l:OpenLaw} {n:Nat} {q:Program} {loose:List Str} {XP:(Str→Option Value)→Heap→Prop} {YP:World→Heap→Prop} {d:DefRec}
  (hn:l.most=some n) (hdf:d.params.defaults=[])
  (call:∀ (w:World) (s₀ s₁:Shared) (mg mb:Str→Option Value) (fa:Addr) (o:Obj) (pm cd doc:Value) (a:Addr) (vs:List Value) (ns:List Int),
   Ground q loose [] XP w s₀ mg mb s₁.heap→YP w s₁.heap→
   s₁.heap.get? fa=some o→o.data=.func (docDef d.name d.params d.body d.scope pm cd doc)→s₁.heap.CodeRec cd d.name→mg d.name=some (.ref fa)→
   s₁.heap.get? a=some {cls:=.type "list",data:=.seq vs.toArray}→IntsAre vs ns→ns.length≤n→s₁.gens=#[]→
   codeAny (model l.prog w) callerA (.call (.ref fa) ⟨[.ref a],[]⟩) (fun r s'=>r=.ok (.ret (.bool true))∧OldK s₁.heap s'.heap∧s'.os=s₁.os∧AllBare s'.gens) s₁) :
  WalkO q loose XP YP l.row.toRowW d [] (fun f vs=>PySem.call f vs):=by
 intro w s₀ s₁ mg mb G Y fa o pm cd doc dV kV ho hd hcd hD hmg hg args vals as hpre hlay hrd hwl hlo
 obtain rfl:dV=.none:=Dflts.none hD hdf
 obtain rfl:kV=.none:=Dflts.noKw hD
 obtain ⟨a,vs,ns,rfl,rfl,hobj,hints,hlen⟩:=ZKP hn hpre hwl
 refine enter_call (codeAny_mono (call w s₀ s₁ mg mb fa o pm cd doc a vs ns G Y ho (fd_plain hd) hcd hmg hobj hints hlen hg) fun r s' hq=>?_)
 obtain ⟨rfl,h2,h3,h4⟩:=hq
 exact ⟨.inl ⟨.bool true,.bool true,[],rfl,fun _=>rfl,.bool true,ZKZ l _,fun _=>⟨List.Pairwise.nil,fun _ hm=>(nomatch hm)⟩⟩,h2,h3,h4⟩
section
variable {prog:Program} {w:World} {A:Around} {E:Value→Shared→Prop} {s:Shared} {K:Frag}
end
end Att
namespace L2
open PySem PySem.Spec PyProof.Rows
theorem ZBX:∀ {vs:List Value} {ns:List Int},IntsAre vs ns→Vals (ns.map V.int) vs
 | _,_,.nil=>.nil
 | _,_,.cons n t h=>.cons ⟨t,rfl⟩ (ZBX h)
def Only (H:Hp):Prop:=∀ b,H b=none∨∃ o xs,H b=some (.frz o (.lst xs))
theorem ZNF {P:Program} {w:World} {K:PySem.W.Frag} {mg mb:Str→Option Value} {CX:CXT} {k:Nat} {fa a:Addr} {fd:FuncData} {x:Str} {sp:Sp} {s₁:Shared} {vs:List Value} {ns:List Int}
  (KX:K.In s₁.heap) (hns:s₁.heap.Ns mainGlobals mg) (hb:s₁.heap.Ns builtinsNs mb) (hbb:∀ x:Str,x≠"__name__"→mb x=bootBuiltins x) (hlim:s₁.heap.NoLimit) (hg:s₁.gens=#[])
  (ha:s₁.heap.get? a=some {cls:=.type "list",data:=.seq vs.toArray}) (hi:IntsAre vs ns) (hl:ns.length≤sizeLine) (hr:Room k callerA)
  (F:∀ base:Heap,K.In base→base.Ns mainGlobals mg→FnOk P w K mg base CX k fa fd [x] sp) (hbind:∀ (s:Shared) (u:Value),BindsTo s fd ⟨[u],[]⟩ [(x,u)])
  (hsp:∀ H:Hp,Only H→SqL K H a (ns.map V.int)→sp [.ref a] H (fun v _=>v=.bl true) fun _ _ _=>False)
  (hCX:∀ H e s',CX [] H s₁ (fun _ _ _=>False) e s'→False) :
  codeAny (model P w) callerA (.call (.ref fa) ⟨[.ref a],[]⟩) (fun r s'=>r=.ok (.ret (.bool true))∧OldK s₁.heap s'.heap∧s'.os=s₁.os∧AllBare s'.gens) s₁:=by
 have rv:=ZBX hi
 have lenV:=hi.length
 -- from an abstract heap in which nothing but the script may be tracked
 have core:∀ H:Hp,Only H→SqL K H a (ns.map V.int)→HOk P w H s₁.heap→(∀ b,H b≠none→b=a)→(H a≠none→K.lookup a=none)→
   codeAny (model P w) callerA (.call (.ref fa) ⟨[.ref a],[]⟩) (fun r s'=>r=.ok (.ret (.bool true))∧OldK s₁.heap s'.heap∧s'.os=s₁.os∧AllBare s'.gens) s₁:=by
  intro H hO hS hok hA hK
  have base_of:∀ {b:Addr} {o:Obj},s₁.heap.get? b=some o→H b=none→(hidT s₁.heap H).get? b=some o:=fun e n=>ZNK e n
  have noA:∀ {b:Addr} {o:Obj} {es:Array DictEntry} {ep:Nat},s₁.heap.get? b=some o→o.data=.dict es ep→H b=none:=fun {b o es ep} e d=>by
   cases q:H b with
   | none=>rfl
   | some u=>
    have e':b=a:=hA b (by rw [q];simp)
    subst e'
    rw [ha] at e;cases e
    have d':Data.seq vs.toArray _=Data.dict es ep:=d
    cases d'
  have nsK:∀ {b:Addr} {m:Str→Option Value},s₁.heap.Ns b m→(hidT s₁.heap H).Ns b m:=fun {b m} ⟨o,es,ep,e,d,r⟩=>⟨o,es,ep,base_of e (noA e d),d,r⟩
  have hKb:K.In (hidT s₁.heap H):=fun b o e=>base_of (KX b o e) (by
   cases q:H b with
   | none=>rfl
   | some u=>
    have e':b=a:=hA b (by rw [q];simp)
    subst e'
    rw [hK (by rw [q];simp)] at e;cases e)
  have hM:Mod K mg (hidT s₁.heap H):=⟨hKb,nsK hns,⟨mb,nsK hb,hbb⟩,let ⟨mc,h1,h2⟩:=hlim;⟨mc,nsK h1,h2⟩⟩
  have e0:Env0 P w K mg (hidT s₁.heap H) callerA [] s₁ H:=⟨rfl,hM,fun b o e=>ZPz e,Nat.le_of_eq (ZLO _ _),trivial,fun b hb=>absurd (show b∈([]:List Addr) from hb) (by simp),hok,.of_eq hg⟩
  refine codeAny_mono ((F _ hKb (nsK hns)).run callerA [] s₁ H ⟨[.ref a],[]⟩ [.ref a] [.ref a] _ _ hr e0 (hbind s₁ (.ref a)) (.cons rfl .nil) (hsp H hO hS)) fun r s' h=>?_
  cases r with
  | error e=>exact (hCX H e s' h).elim
  | ok fl=>
   cases fl with
   | next=>exact False.elim h
   | brk=>exact False.elim h
   | cont=>exact False.elim h
   | ret u=>
    obtain ⟨v,H',os,bare,un,hok',r',q⟩:=h
    have q':v=.bl true:=q
    subst q'
    obtain rfl:u=Value.bool true:=r'
    refine ⟨rfl,OldK.of_keep fun b o e=>?_,os,bare⟩
    cases q:H b with
    | none=>exact un.keep b o e q (by intro z;exact absurd (show b∈([]:List Addr) from z) (by simp)) (by simp)
    | some u=>
     rcases hO b with z | ⟨ob,xs,z⟩
     ·rw [q] at z;cases z
     ·have z2:=un.frzs b ob _ z
      obtain ⟨e1,_⟩:=hok b _ z
      obtain ⟨e2,_⟩:=hok' b _ z2
      rw [e] at e1;cases e1
      exact e2
 cases hk:K.lookup a with
 | some o=>
  -- the script is one of the module's own objects
  have e:=KX a o hk
  rw [ha] at e
  cases e
  refine core (fun _=>none) (fun _=>.inl rfl) (.inr ⟨_,vs.toArray,_,hk,rfl,rfl,rfl,by rw [List.size_toArray,lenV];exact hl,by simpa using rv⟩) (fun b u z=>by have z':(none:Option HO)=some u:=z;cases z') (fun b z=>absurd rfl z) fun z=>absurd rfl z
 | none=>
  refine core (fun b=>if b=a then some (.frz {cls:=.type "list",data:=.seq vs.toArray} (.lst (ns.map V.int))) else none) (fun b=>?_) (.inl (.inr ⟨{cls:=.type "list",data:=.seq vs.toArray},if_pos rfl⟩)) (fun b u z=>?_) (fun b z=>?_) fun _=>hk
  ·by_cases hb:b=a
   ·exact .inr ⟨_,_,if_pos hb⟩
   ·exact .inl (if_neg hb)
  ·by_cases hb:b=a
   ·have z':=(if_pos hb).symm.trans z
    cases z'
    subst hb
    exact ⟨ha,by rw [List.length_map];exact hl,vs,_,rv,ha⟩
   ·have z':=(if_neg hb).symm.trans z
    cases z'
  ·by_cases hb:b=a
   ·exact hb
   ·exact absurd (if_neg hb) z
end L2
namespace L2
open PySem PySem.Spec PyProof.Rows
theorem ZOZ {l:PySem.W.OpenLaw} {n k:Nat} {q:Program} {loose:List Str} {XP:(Str→Option Value)→Heap→Prop} {YP:World→Heap→Prop} {d:DefRec} {K:Params→PySem.W.Frag} {CX:World→CXT} {sp:World→Sp} {x:Str}
  (hn:l.most=some n) (hn2:n≤sizeLine) (hdf:d.params.defaults=[]) (hr:Room k callerA)
  (hY:∀ (w:World) (h:Heap),YP w h→(K w.params).In h)
  (F:∀ (w:World) (mg:Str→Option Value) (fa:Addr) (h:Heap),(K w.params).In h→h.Ns mainGlobals mg→mg d.name=some (.ref fa)→
   ∃ fd:FuncData,(∀ (s:Shared) (u:Value),BindsTo s fd ⟨[u],[]⟩ [(x,u)])∧
    ∀ base:Heap,(K w.params).In base→base.Ns mainGlobals mg→FnOk l.prog w (K w.params) mg base (CX w) k fa fd [x] (sp w))
  (hsp:∀ (w:World) (H:Hp) (a:Addr) (ns:List Int),ns.length≤n→Only H→SqL (K w.params) H a (ns.map V.int)→sp w [.ref a] H (fun v _=>v=.bl true) fun _ _ _=>False)
  (hCX:∀ (w:World) (H:Hp) (s:Shared) (e:Value) (s':Shared),CX w [] H s (fun _ _ _=>False) e s'→False) :
  PySem.W.WalkO q loose XP YP l.row.toRowW d [] (fun f vs=>PySem.call f vs):=by
 refine Att.attach_call hn hdf fun w s₀ s₁ mg mb fa o pm cd doc a vs ns G Y ho hd hcd hmg hobj hints hlen hg=>?_
 have KX:=hY w _ Y
 obtain ⟨fd,hb,hF⟩:=F w mg fa _ KX G.T.g hmg
 exact ZNF KX G.T.g G.T.b G.T.builtins G.T.nolimit hg hobj hints (Nat.le_trans hlen hn2) hr hF hb (fun H hO hS=>hsp w H a ns hlen hO hS) fun H e s'=>hCX w H s₁ e s'
end L2
namespace L2
open PySem PySem.Spec PyProof.Rows
def Zao (s:Stmt) (j:Nat):Stmt:=match s with
 | .ClassDef _ _ _ body _ _ _ _ _ _ _=>body.getD j (.Pass ⟨0,0,0,0⟩)
 | _=>.Pass ⟨0,0,0,0⟩
def Zvo (s:Stmt):Arguments:=match s with
 | .FunctionDef _ a _ _ _ _ _ _ _ _=>a
 | _=>{posonlyargs:=[],args:=[],vararg:=none,kwonlyargs:=[],kw_defaults:=[],kwarg:=none,defaults:=[]}
def Ziz (s:Stmt):List Stmt:=match s with
 | .FunctionDef _ _ b _ _ _ _ _ _ _=>b
 | _=>[]
def Zj (s:Stmt):Scope:=match s with
 | .FunctionDef _ _ _ _ _ _ sc _ _ _=>sc
 | _=>{kind:=.function,names:=[],isGenerator:=false,isCoroutine:=false}
abbrev CX0:CXT:=fun _ _ _ _ _ _=>False
abbrev E0:XK:=fun _ _ _=>False
structure Fun (K:PySem.W.Frag) (x qual:Str) (st:Stmt) (f:Addr) (fd:FuncData):Prop where
 ex:∃ (oc:Value) (od:Option Addr) (kV doc pm:Value) (an:Option Addr) (cdv ct:Value) (osl:Array (Option Value)),
  fd=PySem.W.fnOf x qual (Zvo st) (Ziz st) (Zj st) .none kV doc pm an cdv ct∧K.lookup f=some ⟨oc,od,.func fd,osl⟩∧PySem.W.codeIn K cdv qual=true
 kp:PySem.W.keepIn K (.ref f)=true
section
variable {P:Program} {w:World} {K:PySem.W.Frag} {mg:Str→Option Value} {base:Heap}
theorem Fun.ok {x qual:Str} {st:Stmt} {f:Addr} {fd:FuncData} {N ps:List Str} {k:Nat} {sp:Sp} (F:Fun K x qual st f fd) (S:Zo N ps (Zj st)) (len:∀ vs H Q E,sp vs H Q E→vs.length=ps.length)
  (hbody:∀ (cdv:Value) (A:Around) (outer:List Env) (s:Shared) (H:Hp) (vs:List V) (Q:VK) (E:XK),Room k (A.deeper (envOfC qual (Zj st) s.heap.objs.size f cdv))→sp vs H Q E→
   ∃ t,PSs (cxOf CX0 P w K mg base N qual (Zj st) f cdv A outer s H E).nox (Ziz st) t∧t {nx:=fun _ H'=>Q .non H',rt:=Q} (ZN N vs) H):FnOk P w K mg base CX0 (k + 1) f fd ps sp:=by
 obtain ⟨oc,od,kV,doc,pm,an,cdv,ct,osl,rfl,lk,hcd⟩:=F.ex
 refine ZRq lk hcd S len fun A outer s H vs Q E hr hsp=>?_
 obtain ⟨t,h,q⟩:=hbody cdv A outer s H vs Q E hr hsp
 exact ⟨t,h.nox,q⟩
theorem Fun.binds {x qual:Str} {st:Stmt} {f:Addr} {fd:FuncData} {ps:List Str} (F:Fun K x qual st f fd)
  (h:∀ (kV doc pm:Value) (an:Option Addr) (cdv ct:Value) (us:List Value),us.length=ps.length→bindArgs (PySem.W.fnOf x qual (Zvo st) (Ziz st) (Zj st) .none kV doc pm an cdv ct) ⟨us,[]⟩=pure (ps.zip us)):ZO K fd ps []:=by
 obtain ⟨oc,od,kV,doc,pm,an,cdv,ct,osl,rfl,lk,hcd⟩:=F.ex
 exact .all (h kV doc pm an cdv ct)
theorem Zk {x qual:Str} {st:Stmt} {f:Addr} {oc:Value} {od an:Option Addr} {osl:Array (Option Value)} {kV doc pm cdv ct:Value} (l:K.lookup f=some ⟨oc,od,.func (PySem.W.fnOf x qual (Zvo st) (Ziz st) (Zj st) .none kV doc pm an cdv ct),osl⟩)
  (c:PySem.W.codeIn K cdv qual=true) (k:PySem.W.keepIn K (.ref f)=true):Fun K x qual st f (PySem.W.fnOf x qual (Zvo st) (Ziz st) (Zj st) .none kV doc pm an cdv ct):=⟨⟨oc,od,kV,doc,pm,an,cdv,ct,osl,rfl,l,c⟩,k⟩
end
section
variable {X:Cx}
theorem pv (i:Nat) {x:Str} {pos:Pos} (hN:X.N[i]?=some x:=by rfl) (hv:Vis X.env.scope x:=by first | exact Or.inl rfl | exact Or.inr (Or.inl rfl) | exact Or.inr (Or.inr rfl)) (hd:(x == ("__debug__":Str))=false:=by decide)
  (hcd:(x == ("__classdict__":Str))=false:=by decide):PE X (.Name x pos) (tVar i):=ZQX hN hv hd hcd
end
theorem iteF {A B:Prop} (h:B):if false=true then A else B:=by
 rw [if_neg Bool.false_ne_true]
 exact h
theorem iteT {A B:Prop} (h:A):if true=true then A else B:=by
 rw [if_pos rfl]
 exact h
theorem ite2 {c A B:Prop} [Decidable c] (h1:c→A) (h2:¬ c→B):if c then A else B:=by
 by_cases h:c
 ·rw [if_pos h]
  exact h1 h
 ·rw [if_neg h]
  exact h2 h
theorem ZLK {c A B:Prop} [Decidable c] (hc:c) (h:B):if (!decide c)=true then A else B:=by
 rw [decide_eq_true hc]
 exact iteF h
def Same (H H':Hp):Prop:=∀ b o,H b=some o→H' b=some o
theorem Same.refl (H:Hp):Same H H:=fun _ _ h=>h
theorem Same.trans {H H1 H2:Hp} (a:Same H H1) (b:Same H1 H2):Same H H2:=fun c o h=>b c o (a c o h)
theorem Same.seq {K:PySem.W.Frag} {H H':Hp} {a:Addr} {xs:List V} (e:Same H H') (h:SqL K H a xs):SqL K H' a xs:=by
 rcases h with (h | ⟨o,h⟩) | h
 ·exact .inl (.inl (e _ _ h))
 ·exact .inl (.inr ⟨o,e _ _ h⟩)
 ·exact .inr h
end L2
set_option maxHeartbeats 4000000
namespace L2
open PySem PySem.Spec PyProof.Rows
structure ZcC (X:Cx) (scope:Scope) (own fv:List Str) (ix:List Nat):Prop where
 kind:scope.kind=.function
 nocell:∀ y∈scope.names,y.2≠.cell
 names:∀ y∈scope.names,y.2=.local→scope.names.lookup y.1=some .local
 once:∀ y∈scope.names,y.2=.free→scope.names.lookup y.1=some .free
 outer:∀ y∈scope.names,y.2=.free→X.env.kindOf y.1=some .cell∨X.env.kindOf y.1=some .free
 isfree:∀ y∈fv,scope.names.lookup y=some .free
 slots:∀ (j:Nat) (y:Str),fv[j]?=some y→∃ i,ix[j]?=some i∧X.N[i]?=some y
 len:ix.length=fv.length
def ZOL (sc:Scope) (N:List Str) (scope:Scope) (fv:List Str) (ix:List Nat):Bool:=
 scope.kind == .function && scope.names.all (fun y=>y.2 != .cell && (y.2 != .local || scope.names.lookup y.1 == some .local) && (y.2 != .free || (scope.names.lookup y.1 == some .free && (sc.names.lookup y.1 == some .cell || sc.names.lookup y.1 == some .free)))) &&
  fv.all (fun y=>scope.names.lookup y == some .free) && ix.length == fv.length && (List.range fv.length).all fun j=>((ix[j]?).bind fun i=>N[i]?) == fv[j]?
theorem ZcO {X:Cx} {scope sc:Scope} {N own fv:List Str} {ix:List Nat} (hs:X.env.scope=sc) (hN:X.N=N) (h:ZOL sc N scope fv ix=true):ZcC X scope own fv ix:=by
 unfold ZOL at h
 simp only [Bool.and_eq_true,List.all_eq_true,beq_iff_eq,bne_iff_ne,Bool.or_eq_true,ne_eq] at h
 obtain ⟨⟨⟨⟨h1,h2⟩,h3⟩,h4⟩,h5⟩:=h
 refine ⟨h1,fun y hy=>(h2 y hy).1.1,fun y hy e=>((h2 y hy).1.2).resolve_left fun z=>z e,fun y hy e=>(((h2 y hy).2).resolve_left fun z=>z e).1,fun y hy e=>?_,h3,fun j y e=>?_,h4⟩
 ·have z:=(((h2 y hy).2).resolve_left fun z=>z e).2
  unfold Env.kindOf
  rw [hs]
  exact z
 ·have hj:j < fv.length:=(List.getElem?_eq_some_iff.mp e).1
  have z:=h5 j (List.mem_range.mpr hj)
  rw [e] at z
  cases q:ix[j]? with
  | none=>rw [q] at z;cases z
  | some i=>
   rw [q] at z
   exact ⟨i,rfl,by rw [hN];exact z⟩
theorem ZxB {names:List (Str×NameKind)} {x:Str} {k:NameKind} (h:names.lookup x=some k):(x,k)∈names:=by
 induction names with
 | nil=>simp at h
 | cons p r ih=>
  obtain ⟨n,k'⟩:=p
  rw [List.lookup_cons] at h
  cases e:x == n with
  | true=>
   rw [e] at h
   have:=eq_of_beq e
   cases h
   rw [this]
   exact List.mem_cons_self
  | false=>
   rw [e] at h
   exact List.mem_cons_of_mem _ (ih h)
theorem ZeY {scope:Scope} {env:Env}:∀ (names:List (Str×NameKind)) (x:Str),
    (names.map fun (n,k)=>if (k == NameKind.free && env.scope.kind == .function && env.kindOf n == some .cell) then (n,NameKind.cell) else (n,k)).lookup x =
      (names.lookup x).map fun k=>if (k == NameKind.free && env.scope.kind == .function && env.kindOf x == some .cell) then NameKind.cell else k
  | [],_=>rfl
  | (n,k)::r,x=>by
    have ih:=ZeY (scope:=scope) (env:=env) r x
    show List.lookup x ((if (k == NameKind.free && env.scope.kind == .function && env.kindOf n == some .cell)=true then (n,NameKind.cell) else (n,k))::_)=_
    cases e:x == n with
    | true=>
      have e':=eq_of_beq e
      subst e'
      by_cases hc:(k == NameKind.free && env.scope.kind == .function && env.kindOf x == some .cell)=true
      · rw [if_pos hc,List.lookup_cons,List.lookup_cons,e]
        show some NameKind.cell=Option.map _ (some k)
        rw [Option.map_some,if_pos hc]
      · rw [if_neg hc,List.lookup_cons,List.lookup_cons,e]
        show some k=Option.map _ (some k)
        rw [Option.map_some,if_neg hc]
    | false=>
      by_cases hc:(k == NameKind.free && env.scope.kind == .function && env.kindOf n == some .cell)=true
      · rw [if_pos hc,List.lookup_cons,List.lookup_cons,e]
        exact ih
      · rw [if_neg hc,List.lookup_cons,List.lookup_cons,e]
        exact ih
theorem Zqv (env:Env):∀ (names:List (Str×NameKind)) (acc:List (Str×Addr)),
    (∀ y∈names,y.2=.free→∃ c,env.cells.lookup y.1=some c)→
    ∃ cl,(forIn names acc fun (x:Str×NameKind) (cs:List (Str×Addr))=>(if (x.2 == NameKind.free)=true then do let c ← cellOf env x.1;pure (ForInStep.yield ((x.1,c)::cs)) else pure (ForInStep.yield cs):Sem (ForInStep (List (Str×Addr)))))=pure cl∧
      (∀ y c,(y,c)∈cl→(y,c)∈acc∨(env.cells.lookup y=some c∧(y,NameKind.free)∈names))∧
      (∀ y,(∃ c,(y,c)∈acc)∨(y,NameKind.free)∈names→∃ c,(y,c)∈cl)
  | [],acc,_=>⟨acc,rfl,fun y c h=>.inl h,fun y h=>h.elim (fun z=>z) fun z=>nomatch z⟩
  | (n,k)::r,acc,h=>by
    rw [List.forIn_cons]
    by_cases hk:k=.free
    · subst hk
      obtain ⟨c,hc⟩:=h (n,.free) List.mem_cons_self rfl
      obtain ⟨cl,e,h1,h2⟩:=Zqv env r ((n,c)::acc) fun y hy=>h y (List.mem_cons_of_mem _ hy)
      refine ⟨cl,?_,fun y c' hm=>?_,fun y hy=>h2 y ?_⟩
      · simp only [beq_self_eq_true,if_true]
        have:cellOf env n=pure c:=by unfold cellOf;rw [hc]
        rw [this,pure_bind,pure_bind]
        exact e
      · rcases h1 y c' hm with z | ⟨z1,z2⟩
        · rcases List.mem_cons.mp z with z | z
          · cases z
            exact .inr ⟨hc,List.mem_cons_self⟩
          · exact .inl z
        · exact .inr ⟨z1,List.mem_cons_of_mem _ z2⟩
      · rcases hy with ⟨c',z⟩ | z
        · exact .inl ⟨c',List.mem_cons_of_mem _ z⟩
        · rcases List.mem_cons.mp z with z | z
          · cases z
            exact .inl ⟨c,List.mem_cons_self⟩
          · exact .inr z
    · obtain ⟨cl,e,h1,h2⟩:=Zqv env r acc fun y hy=>h y (List.mem_cons_of_mem _ hy)
      have hb:(k == NameKind.free)=false:=by simpa using hk
      refine ⟨cl,?_,fun y c' hm=>?_,fun y hy=>h2 y ?_⟩
      · simp only [hb,Bool.false_eq_true,if_false]
        rw [pure_bind]
        exact e
      · rcases h1 y c' hm with z | ⟨z1,z2⟩
        · exact .inl z
        · exact .inr ⟨z1,List.mem_cons_of_mem _ z2⟩
      · rcases hy with z | z
        · exact .inl z
        · rcases List.mem_cons.mp z with z | z
          · cases z
            exact absurd rfl hk
          · exact .inr z
theorem ZuN {l:List (Str×Addr)} {x:Str} {c:Addr} (h:l.lookup x=some c):(x,c)∈l:=by
 induction l with
 | nil=>simp at h
 | cons p r ih=>
  obtain ⟨n,k'⟩:=p
  rw [List.lookup_cons] at h
  cases e:x == n with
  | true=>
   rw [e] at h
   have:=eq_of_beq e
   cases h
   rw [this]
   exact List.mem_cons_self
  | false=>
   rw [e] at h
   exact List.mem_cons_of_mem _ (ih h)
theorem ZuI {l:List (Str×Addr)} {x:Str} {c:Addr} (h:(x,c)∈l):∃ c',l.lookup x=some c':=by
 induction l with
 | nil=>cases h
 | cons p r ih=>
  obtain ⟨n,k'⟩:=p
  rw [List.lookup_cons]
  cases e:x == n with
  | true=>exact ⟨k',rfl⟩
  | false=>
   rcases List.mem_cons.mp h with z | z
   ·cases z
    rw [beq_self_eq_true] at e
    cases e
   ·exact ih z
theorem Zyc {scope:Scope} {env:Env} (h:∀ y∈scope.names,y.2=.free→∃ c,env.cells.lookup y.1=some c) :
  ∃ cl,closureFor scope env=pure cl∧(∀ y c,cl.lookup y=some c→env.cells.lookup y=some c∧(y,NameKind.free)∈scope.names)∧(∀ y,(y,NameKind.free)∈scope.names→∃ c,cl.lookup y=some c):=by
 obtain ⟨cl,e,h1,h2⟩:=Zqv env scope.names [] h
 refine ⟨cl,?_,fun y c hl=>?_,fun y hy=>?_⟩
 ·unfold closureFor
  refine Eq.trans (b:=((forIn scope.names [] fun (x:Str×NameKind) (cs:List (Str×Addr))=>(if (x.2 == NameKind.free)=true then do let c ← cellOf env x.1;pure (ForInStep.yield ((x.1,c)::cs)) else pure (ForInStep.yield cs):Sem (ForInStep (List (Str×Addr))))) >>= fun cs=>pure cs)) rfl ?_
  rw [e]
  rfl
 ·rcases h1 y c (ZuN hl) with z | z
  ·cases z
  ·exact z
 ·obtain ⟨c,hc⟩:=h2 y (.inr hy)
  exact ZuI hc
def Zbd (X:Cx) (scope:Scope) (cl:List (Str×Addr)) (M:List Str) (fp:List Addr) (C:Addr) (s:Shared) (H:Hp):Cx where
 prog:=X.prog
 w:=X.w
 K:=X.K
 mg:=X.mg
 base:=X.base
 A:=X.A
 N:=M
 s₀:=s
 H₀:=H
 env:=compEnvC scope cl C X.env
 outer:=X.stack
 stack:=X.stack
 ex:=fp
 fn:=fun y=>scope.names.lookup y == some .local
 calm:=X.calm
 pn:=[]
 xe:=fun _ _=>False
def PIf (X:Cx) (ifs:List Expr) (t:TT):Prop:=
 ∀ (pins:List (Addr×Obj)) (s:Shared) (σ:St) (H:Hp) (Q:Bool→Hp→Prop),Inv X pins σ H s→t σ H Q→
  wpAny (model X.prog X.w) X.A (forIn ifs true fun c r=>if r=true then do let ok ← isTrue c X.env (eval c X.env);pure (ForInStep.yield ok) else pure (ForInStep.yield r)) (TP X pins σ Q) X.xe s
def tYes:TT:=fun _ H Q=>Q true H
theorem Zqc {X:Cx}:PIf X [] tYes:=fun _ _ _ H _ I h=>wpAny_tests_nil ⟨H,I,h⟩
theorem ZPp {X:Cx} {c:Expr} {t:TT} (h:PT X c t):PIf X [c] t:=by
 try unfold PE at *;try unfold PA at *
 exact fun pins s σ H Q I hw=>wpAny_tests_one (h pins s σ H Q I hw)
def ZQy (wi:TI) (k:Nat) (ix:List Nat) (g:TG) (tt:TT) (te:TE):TE:=fun σ H Q=>wi σ H fun J H1=>∀ D,H1 D=none→
 ∃ W:Nat→Nat→St→List V→Hp→Prop,(∃ m,W 0 m (List.replicate k none++ix.map fun i=>(σ[i]?).getD none) [] (upd H1 D (.lst [])))∧
  ∀ i m σ' ys H',W i m σ' ys H'→H' D=some (.lst ys)∧((J.stop i H'∧Q (.ref D) H')∨(J.go i H'∧ys.length < sizeLine∧
   ∀ x H2,J.yld i H' x H2→g x σ' H2 fun σ2 H3=>tt σ2 H3 fun b H4=>
    if b=true then te σ2 H4 fun v H5=>H5 D=some (.lst ys)∧∃ m',m' < m∧W (i + 1) m' σ2 (ys++[v]) (upd H5 D (.lst (ys++[v])))
    else ∃ m',m' < m∧W (i + 1) m' σ2 ys H4))
section
variable {prog:Program} {w:World} {A:Around} {R:Result→Shared→Prop} {s:Shared}
theorem Zd5 {elt target iter:Expr} {ifs:List Expr} {scope:Scope} {pos:Pos} {it acc:Value} {env:Env} (I:Nat→Shared→Prop)
  (turn:∀ n s,I n s→wpAny (model prog w) A (pyNext it) (fun r s₁=>match r with
   | none=>R (.ok .next) s₁
   | some v=>wpAny (model prog w) A (letOwnedTupleGo target it v) (fun _ s₁'=>wpAny (model prog w) A (assign target env v) (fun _ s₂=>
     wpAny (model prog w) A (forIn ifs true fun c r=>if r=true then do let ok ← isTrue c env (eval c env);pure (ForInStep.yield ok) else pure (ForInStep.yield r)) (fun ok s₃=>
      if ok=true then wpAny (model prog w) A (eval elt env) (fun x s₄=>
       wpAny (model prog w) A (call (.builtin "list.append") [acc,x]) (fun _ s₅=>∃ m,m < n∧I m s₅) (fun _ _=>False) s₄) (fun _ _=>False) s₃
      else ∃ m,m < n∧I m s₃) (fun _ _=>False) s₂) (fun _ _=>False) s₁') (fun _ _=>False) s₁) (fun _ _=>False) s)
  (n:Nat) (h:I n s) :
  codeAny (model prog w) A (.compLoop (.ListComp elt [⟨target,iter,ifs,0⟩] scope pos) 0 it acc env) R s:=by
 refine codeAny_loop rfl I (fun n s hI=>?_) n h
 show wpAny _ A ((compTurn (.ListComp elt [⟨target,iter,ifs,0⟩] scope pos) 0 it acc env).onRaise (fun x=>do noteFrame x env;theTreesLotGoes x)) _ _ s
 refine wpAny_noted ?_
 rw [compTurn_list]
 refine wpAny_bind (wpAny_standAt (wpAny_bind (wpAny_mono (turn n s hI) (fun r s₁ h₁=>?_) fun _ _ z=>z.elim)))
 cases r with
 | none=>exact wpAny_pure h₁
 | some v=>
  refine wpAny_bind (wpAny_mono h₁ (fun _ s₁' h₁'=>?_) fun _ _ z=>z.elim)
  refine wpAny_bind (wpAny_mono h₁' (fun _ s₂ h₂=>wpAny_bind (wpAny_mono h₂ (fun ok s₃ h₃=>?_) fun _ _ z=>z.elim)) fun _ _ z=>z.elim)
  cases ok with
  | false=>exact wpAny_pure ⟨rfl,h₃⟩
  | true=>
   exact wpAny_bind (wpAny_bind (wpAny_mono h₃ (fun x s₄ h₄=>wpAny_bind (wpAny_mono h₄ (fun _ s₅ h₅=>wpAny_pure (wpAny_pure ⟨rfl,h₅⟩)) fun _ _ z=>z.elim)) fun _ _ z=>z.elim))
end
section
variable {X:Cx} {pins:List (Addr×Obj)} {σ:St} {H H2:Hp} {s:Shared} {scope:Scope} {own fv:List Str} {ix:List Nat} {cl:List (Str×Addr)}
theorem ZcC.cells {own fv:List Str} (S:ZcC X scope own fv ix) (ok:X.Ok):∀ y∈scope.names,y.2=.free→∃ c,X.env.cells.lookup y.1=some c:=
 fun y hy e=>ok.has y.1 (S.outer y hy e)
theorem ZD7 (S:ZcC X scope own fv ix) (ok:X.Ok) {x:Str} (h:(compEnvC scope cl C X.env).kindOf x=some .cell∨(compEnvC scope cl C X.env).kindOf x=some .free):(x,NameKind.free)∈scope.names:=by
 have e:(compEnvC scope cl C X.env).kindOf x=(scope.names.lookup x).map fun k=>if (k == NameKind.free && X.env.scope.kind == .function && X.env.kindOf x == some .cell) then NameKind.cell else k:=ZeY (scope:=scope) _ _
 cases q:scope.names.lookup x with
 | none=>
  rw [e,q] at h
  rcases h with h | h <;> cases h
 | some k=>
  have m:=ZxB q
  rw [e,q] at h
  by_cases hk:k=.free
  ·subst hk;exact m
  ·have hb:(k == NameKind.free)=false:=by simpa using hk
   simp only [Option.map_some,hb,Bool.false_and,Bool.false_eq_true,if_false] at h
   rcases h with h | h
   ·cases h
    exact absurd rfl (S.nocell _ m)
   ·cases h
    exact absurd rfl hk
theorem ZD8 (S:ZcC X scope own fv ix) (ok:X.Ok) {x:Str} (h:(x,NameKind.free)∈scope.names):(compEnvC scope cl C X.env).kindOf x=some .cell∨(compEnvC scope cl C X.env).kindOf x=some .free:=by
 have e:(compEnvC scope cl C X.env).kindOf x=(scope.names.lookup x).map fun k=>if (k == NameKind.free && X.env.scope.kind == .function && X.env.kindOf x == some .cell) then NameKind.cell else k:=ZeY (scope:=scope) _ _
 rw [e,S.once _ h rfl]
 by_cases hc:(NameKind.free == NameKind.free && X.env.scope.kind == .function && X.env.kindOf x == some .cell)=true
 ·left;simp only [Option.map_some,hc,if_true]
 ·right;simp only [Option.map_some,hc,if_false];rfl
theorem ZQa (S:ZcC X scope own fv ix) (I:Inv X pins σ H s) {fp:List Addr} (hf:∀ b∈fp,FpOk X pins H2 b) (hlt:∀ b∈fp,b < s.heap.objs.size)
  (hcl:∀ y c,cl.lookup y=some c→X.env.cells.lookup y=some c∧(y,NameKind.free)∈scope.names) (hcl2:∀ y,(y,NameKind.free)∈scope.names→∃ c,cl.lookup y=some c) :
  (Zbd X scope cl (own++fv) fp s.heap.objs.size s H).Ok where
 mod:=I.ok.mod
 kind:=S.kind
 glob:=I.ok.glob
 blt:=I.ok.blt
 above:=Nat.le_refl _
 inj:=fun x y c h1 h2=>I.ok.inj x y c (hcl x c h1).1 (hcl y c h2).1
 has:=fun x h=>hcl2 x (ZD7 S I.ok h)
 cab:=fun x c h1 h2=>by
  have m:=(hcl x c h2).2
  have h1':(scope.names.lookup x == some .local)=true:=h1
  rw [S.once _ m rfl] at h1'
  cases h1'
 hd:=I.ok.hd
 frames:=I.ok.frames
 stk:=.inl rfl
 exf:=fun b hb=>⟨Nat.ne_of_lt (hlt b hb),fun x c e=>(hf b hb).2.2.2.2.1 x c (hcl x c e).1⟩
 bs:=I.bs
 bsz:=Nat.le_trans I.ok.bsz I.sz
 noex:=fun b o e hb=>by
  rcases (hf b hb).2.2.2.1 with z | z
  ·exact I.ok.noex b o e z
  ·exact absurd (Nat.lt_of_lt_of_le (Heap.lt_size e) (Nat.le_trans I.ok.bsz z)) (Nat.lt_irrefl _)
 exfs:=fun b hb z=>by
  rcases List.mem_cons.mp (I.stkSub b z) with e | e
  ·exact (hf b hb).2.1 e
  ·exact (hf b hb).2.2.1 e
 funs:=I.stack
 frf:=I.stkFree
theorem ZLR {σ:St} {i:Nat} {v:V} (h:(σ[i]?).getD none=some v):σ[i]?=some (some v):=by
 cases e:σ[i]? with
 | none=>rw [e] at h;cases h
 | some o=>rw [e] at h;exact congrArg some h
theorem Zya (S:ZcC X scope own fv ix) (I:Inv X pins σ H s) {fp:List Addr} (hf:∀ b∈fp,FpOk X pins H2 b) (hlt:∀ b∈fp,b < s.heap.objs.size)
  (hcl:∀ y c,cl.lookup y=some c→X.env.cells.lookup y=some c∧(y,NameKind.free)∈scope.names) (hcl2:∀ y,(y,NameKind.free)∈scope.names→∃ c,cl.lookup y=some c)
  {h1:Heap} {t1:Nat} {m:Str→Option Value} (hns:h1.Ns s.heap.objs.size m) (old:∀ b o,s.heap.get? b=some o→h1.get? b=some o) :
  Inv (Zbd X scope cl (own++fv) fp s.heap.objs.size s H) [] (List.replicate own.length none++ix.map fun i=>(σ[i]?).getD none) H {s with heap:=h1,toks:=t1}:=by
 refine ⟨ZQa S I hf hlt hcl hcl2,rfl,I.bare,Un.kept old,⟨m,hns,fun i x v e1 e2 e3=>?_⟩,fun x c e=>?_,I.hok.fresh (Nat.le_refl _),fun x c e=>I.freeC x c (hcl x c e).1,fun p hp=>(nomatch hp),I.hok.kept old,?_⟩
 ·have e1':(own++fv)[i]?=some x:=e1
  by_cases hi:i < own.length
  ·rw [List.getElem?_append_left (by rw [List.length_replicate];exact hi),List.getElem?_replicate,if_pos hi] at e2
   cases e2
  ·have hi':own.length≤i:=Nat.not_lt.mp hi
   rw [List.getElem?_append_right hi'] at e1'
   rw [List.getElem?_append_right (by rw [List.length_replicate];exact hi'),List.length_replicate,List.getElem?_map] at e2
   obtain ⟨j,hj,hN⟩:=S.slots _ x e1'
   rw [hj] at e2
   have e2':σ[j]?=some (some v):=ZLR (Option.some.inj e2)
   have hfree:(x,NameKind.free)∈scope.names:=ZxB (S.isfree x (List.mem_of_getElem? e1'))
   have hko:=S.outer _ hfree rfl
   obtain ⟨m0,hn0,hl0⟩:=I.loc
   obtain ⟨u,r,l⟩:=hl0 j x v hN e2' (hko.elim (fun z=>.inr (.inl z)) fun z=>.inr (.inr z))
   refine ⟨u,r,.inr ⟨ZD8 S I.ok hfree,?_⟩⟩
   rcases l with ⟨k,_⟩ | ⟨_,c,ec,z⟩
   ·have k':X.env.kindOf x=some .local:=k
    rcases hko with q | q <;> (rw [q] at k';cases k')
   ·obtain ⟨c',hc'⟩:=hcl2 x hfree
    have ec':=(hcl x c' hc').1
    rw [ec] at ec'
    cases ec'
    obtain ⟨o,ho,hd⟩:=z
    exact ⟨c,hc',o,old c o ho,hd⟩
 ·obtain ⟨v,o,ho,hd⟩:=I.cell x c (hcl x c e).1
  exact ⟨v,o,old c o ho,hd⟩
 ·show (List.replicate own.length none++ix.map fun i=>(σ[i]?).getD none:St).length=(own++fv).length
  rw [List.length_append,List.length_append,List.length_replicate,List.length_map,S.len]
theorem ZIc {H':Hp} {σ':St} {s':Shared} {h'':Heap} {fp:List Addr} (I:Inv X pins σ H s) (hf:∀ b∈fp,FpOk X pins H2 b)
  (I':Inv (Zbd X scope cl (own++fv) fp s.heap.objs.size s H) [] σ' H' s') (hs:Heap.SameBut s.heap.objs.size s'.heap h''):Inv X pins σ H' {s' with heap:=h''}:=by
 have ne:∀ b o,s.heap.get? b=some o→b≠s.heap.objs.size:=fun b o e=>Nat.ne_of_lt (Heap.lt_size e)
 have B:Un (frs X.stack) fp H H' s.heap s'.heap:=I'.base
 refine I.call' (ch:=fp) (s':={s' with heap:=h''}) I'.os ⟨fun b o e n hb hx=>?_,fun b o e n hb hx=>?_,B.free,fun b o e hx=>?_,B.tups,B.frzs,B.tbls⟩ (fun b u e=>?_) I'.bare fun b hb=>⟨(hf b hb).2.2.2.1,(hf b hb).2.1,(hf b hb).2.2.2.2.1,(hf b hb).2.2.2.2.2⟩
 ·exact (hs.2 b (ne b o e)).trans (B.keep b o e n hb hx)
 ·obtain ⟨sl,e1⟩:=B.slot b o e n hb hx
  exact ⟨sl,(hs.2 b (ne b o e)).trans e1⟩
 ·obtain ⟨o',e1⟩:=B.there b o e hx
  exact ⟨o',(hs.2 b (ne b o e)).trans e1⟩
 ·have fr:H' s.heap.objs.size=none:=I'.free
  refine (I'.hok b u e).stay (fun c w' hc q=>(hs.2 c ?_).trans q) (fun _ q=>q) fun _ _ q=>q
  rintro rfl
  rcases hc with z | z
  ·rw [← z,fr] at e;cases e
  ·rw [fr] at z;cases z
theorem Zqe {elt target iter:Expr} {ifs:List Expr} {pos:Pos} {wi:TI} {g:TG} {tt:TT} {te:TE} (S:ZcC X scope own fv ix) (hc:X.calm=true) (hi:PI X target iter wi)
  (hg:∀ cl fp C s H,PG (Zbd X scope cl (own++fv) fp C s H) target g) (ht:∀ cl fp C s H,PIf (Zbd X scope cl (own++fv) fp C s H) ifs tt) (he:∀ cl fp C s H,PE (Zbd X scope cl (own++fv) fp C s H) elt te)
  (hs:∀ x,foldedSetIterable iter X.env x=pure x:=by intro _;rfl):PE X (.ListComp elt [⟨target,iter,ifs,0⟩] scope pos) (ZQy wi own.length ix g tt te):=by
 try unfold PE at *
 intro pins s σ H Q I h
 rw [eval_ListComp]
 obtain ⟨cl,hclos,hcl,hcl2⟩:=Zyc (scope:=scope) (env:=X.env) (S.cells I.ok)
 refine wpAny_comprehension_free (use:=none) rfl hs hclos S.kind S.names (thn (hi pins s σ H _ I h) fun v s1 h1=>thn h1 fun itv s2 h2=>?_)
 obtain ⟨it,fp,tn,J,H2,e,I2,T,st2,f2,hW⟩:=h2
 subst e
 have hlt2:∀ b∈fp,b < s2.heap.objs.size:=fun b hb=>by
  obtain ⟨o,e,_⟩:=T.obj _ _ st2 b hb
  exact Heap.lt_size e
 obtain ⟨W,⟨m0,w0⟩,turn⟩:=hW s2.heap.objs.size I2.fresh
 have I3:Inv X pins σ (upd H2 s2.heap.objs.size (.lst [])) {s2 with heap:=s2.heap.push {cls:=.type "list",data:=.seq ([]:List Value).toArray}}:=I2.lnew (t':=s2.toks) (its:=[]) .nil (Nat.zero_le _)
 refine wpAny_newObj_type ?_
 generalize hs3:({s2 with heap:=s2.heap.push {cls:=.type "list",data:=.seq ([]:List Value).toArray}}:Shared)=s3 at I3
 have hsz3:s3.heap.objs.size=s2.heap.objs.size + 1:=by rw [← hs3];exact Heap.size_push ..
 have up3:∀ b o,s2.heap.get? b=some o→s3.heap.get? b=some o:=fun b o e=>by rw [← hs3];exact Heap.get?_push_of_some _ e
 refine wpAny_newFunctionEnv (fun y hy=>S.nocell y hy) (by intro y hy;simp at hy) (fun h4 hns4 hsb4=>?_) S.kind
 have old4:∀ b o,s3.heap.get? b=some o→h4.get? b=some o:=fun b o e=>hsb4.extBut b o (Nat.ne_of_lt (Heap.lt_size e)) (Heap.get?_push_of_some _ e)
 have hlt3:∀ b∈fp,b < s3.heap.objs.size:=fun b hb=>by rw [hsz3];exact Nat.lt_succ_of_lt (hlt2 b hb)
 have I4:=Zya (t1:=s3.toks + ([]:List (Str×Value)).length) S I3 f2 hlt3 hcl hcl2 hns4 old4
 have st4:tn 0 h4:=T.keep _ _ _ st2 fun b hb o e=>old4 b o (up3 b o e)
 have fr4:∀ b∈fp,(upd H2 s2.heap.objs.size (.lst [])) b=none:=fun b hb=>by rw [Zd (Nat.ne_of_lt (hlt2 b hb))];exact (f2 b hb).1
 have stat:∀ {H':Hp},(∀ b∈fp,H' b=none)→∀ b∈fp,FpOk (Zbd X scope cl (own++fv) fp s3.heap.objs.size s3 (upd H2 s2.heap.objs.size (.lst []))) [] H' b:=fun hn b hb=>
  ⟨hn b hb,Nat.ne_of_lt (hlt3 b hb),(I4.ok.exfs b hb),.inl hb,fun x c e=>(f2 b hb).2.2.2.2.1 x c (hcl x c e).1,fun p hp=>(nomatch hp)⟩
 have loop:codeAny (model X.prog X.w) X.A (.compLoop (.ListComp elt [⟨target,iter,ifs,0⟩] scope pos) 0 (.ref it) (.ref s2.heap.objs.size) (compEnvC scope cl s3.heap.objs.size X.env))
   (compPost (model X.prog X.w) X.A X.xe none (EP X pins σ Q) (.ref s2.heap.objs.size) s3.heap.objs.size) {s3 with heap:=h4,toks:=s3.toks + ([]:List (Str×Value)).length}:=by
  refine Zd5 (fun n s'=>∃ i σ' ys H',Inv (Zbd X scope cl (own++fv) fp s3.heap.objs.size s3 (upd H2 s2.heap.objs.size (.lst []))) [] σ' H' s'∧tn i s'.heap∧(∀ b∈fp,H' b=none)∧W i n σ' ys H') ?_ m0 ⟨0,_,[],_,I4,st4,fr4,w0⟩
  rintro n s5 ⟨i,σ5,ys,H5,I5,st5,fr5,w5⟩
  obtain ⟨hD,next⟩:=turn i n σ5 ys H5 w5
  rcases next with ⟨stop,q⟩ | ⟨go,hys,step⟩
  ·refine thn (T.done (Zbd X scope cl (own++fv) fp s3.heap.objs.size s3 (upd H2 s2.heap.objs.size (.lst []))) rfl rfl rfl hc i [] s5 σ5 H5 (fun _ _=>False) I5 (stat fr5) st5 stop) fun r s6 ⟨hr,I6⟩=>?_
   subst hr
   obtain ⟨m6,hn6,_⟩:=id I6.loc
   exact ⟨m6,hn6,fun h7 hs7=>⟨.ref s2.heap.objs.size,H5,ZIc I3 f2 I6 hs7,rfl,q⟩⟩
  ·refine thn (T.item (Zbd X scope cl (own++fv) fp s3.heap.objs.size s3 (upd H2 s2.heap.objs.size (.lst []))) rfl rfl rfl hc i [] s5 σ5 H5 (fun _ _=>False) I5 (stat fr5) st5 go) fun r s6 ⟨u,hr,h6⟩=>?_
   subst hr
   refine thn h6 fun _ s7 ⟨x,H7,I7,r7,y7,st7,fr7⟩=>?_
   have I7':=I7.pinned (stat fr7) (T.obj _ _ st7)
   refine thn (hg _ _ _ _ _ _ s7 σ5 H7 x u _ I7' r7 (step x H7 y7)) fun _ s8 ⟨σ8,H8,I8,q8⟩=>?_
   refine thn (ht _ _ _ _ _ _ s8 σ8 H8 _ I8 q8) fun b s9 ⟨H9,I9,q9⟩=>?_
   have again:∀ {s10:Shared} {σ10:St} {H10:Hp} {ys':List V},Inv (Zbd X scope cl (own++fv) fp s3.heap.objs.size s3 (upd H2 s2.heap.objs.size (.lst []))) ([]++Zxu fp s7.heap) σ10 H10 s10→(∃ m',m' < n∧W (i + 1) m' σ10 ys' H10)→
     ∃ m,m < n∧∃ i σ' ys H',Inv (Zbd X scope cl (own++fv) fp s3.heap.objs.size s3 (upd H2 s2.heap.objs.size (.lst []))) [] σ' H' s10∧tn i s10.heap∧(∀ b∈fp,H' b=none)∧W i m σ' ys H':=fun {s10 σ10 H10 ys'} I10 ⟨m',hm,w10⟩=>by
    refine ⟨m',hm,i + 1,σ10,ys',H10,I10.unpinned,T.keep _ _ _ st7 fun b hb o e=>(I10.pin (b,o) (List.mem_append_right _ (List.mem_append_right _ (ZdN hb e)))).1,fun b hb=>?_,w10⟩
    obtain ⟨o,e,d⟩:=T.obj _ _ st7 b hb
    exact (I10.pin (b,o) (List.mem_append_right _ (List.mem_append_right _ (ZdN hb e)))).2.1
   cases b with
   | false=>
    rw [if_neg (by decide)] at q9
    rw [if_neg (by decide)]
    exact again I9 q9
   | true=>
    rw [if_pos rfl] at q9
    rw [if_pos rfl]
    refine thn (he _ _ _ _ _ _ s9 σ8 H9 _ I9 q9) fun u9 s10 ⟨v9,H10,I10,r10,hD10,q10⟩=>?_
    refine thn (ZdX (X:=Zbd X scope cl (own++fv) fp s3.heap.objs.size s3 (upd H2 s2.heap.objs.size (.lst []))) _ s10 σ8 H10 (.ref s2.heap.objs.size) [v9] (.ref s2.heap.objs.size) [u9] (fun _ H11=>H11=upd H10 s2.heap.objs.size (.lst (ys++[v9]))) I10 rfl (.cons r10 .nil) ⟨_,ys,v9,rfl,rfl,hD10,hys,rfl⟩) fun _ s11 ⟨_,H11,I11,_,q11⟩=>?_
    subst q11
    exact again I11 q10
 exact codeAny_compStart_list loop (T.self _ _ _ _ _ st4 loop)
end
theorem Zyb {n:Nat} {lo:Int} (te:TE) {σ:St} {ix:List Nat} {H1:Hp} {D:Addr} {Q:Hp→Prop} (Pv:Nat→List V→Hp→Prop) (h0:Pv 0 [] (upd H1 D (.lst []))) (hn:n≤sizeLine)
  (hat:∀ i ys H',Pv i ys H'→H' D=some (.lst ys)∧ys.length≤i)
  (hs:∀ i ys H' (N:VK),i < n→Pv i ys H'→(∀ v H5,H5 D=some (.lst ys)→Pv (i + 1) (ys++[v]) (upd H5 D (.lst (ys++[v])))→N v H5)→te (some (.int (lo + (i:Nat)))::ix.map fun i=>(σ[i]?).getD none) H' N)
  (hd:∀ ys H',Pv n ys H'→Q H') :
  ∃ W:Nat→Nat→St→List V→Hp→Prop,(∃ m,W 0 m (List.replicate 1 none++ix.map fun i=>(σ[i]?).getD none) [] (upd H1 D (.lst [])))∧
   ∀ i m σ' ys H',W i m σ' ys H'→H' D=some (.lst ys)∧(((Itr lo n).stop i H'∧Q H')∨((Itr lo n).go i H'∧ys.length < sizeLine∧
    ∀ x H2,(Itr lo n).yld i H' x H2→ZJP 0 x σ' H2 fun σ2 H3=>tYes σ2 H3 fun b H4=>
     if b=true then te σ2 H4 fun v H5=>H5 D=some (.lst ys)∧∃ m',m' < m∧W (i + 1) m' σ2 (ys++[v]) (upd H5 D (.lst (ys++[v])))
     else ∃ m',m' < m∧W (i + 1) m' σ2 ys H4)):=by
 refine ⟨fun i m σ' ys H'=>i≤n∧m=n - i∧(∃ o,σ'=o::ix.map fun i=>(σ[i]?).getD none)∧Pv i ys H',⟨n,Nat.zero_le _,rfl,⟨none,rfl⟩,h0⟩,?_⟩
 rintro i m σ' ys H' ⟨hi,rfl,⟨o,rfl⟩,P⟩
 obtain ⟨a1,a2⟩:=hat i ys H' P
 refine ⟨a1,?_⟩
 by_cases hlt:i < n
 ·refine .inr ⟨hlt,by omega,fun x H2 hy=>?_⟩
  obtain ⟨rfl,rfl⟩:=hy
  exact hs i ys H2 _ hlt P fun v H5 h1 h2=>⟨h1,n - (i + 1),by omega,hlt,rfl,⟨_,rfl⟩,h2⟩
 ·have e:i=n:=by omega
  subst e
  exact .inl ⟨Nat.le_refl _,hd ys H' P⟩
end L2
namespace L2
open PySem PySem.Spec PyProof.Rows
section
variable {P:Program} {w:World} {H H':Hp} {h h':Heap} {a:Addr} {o:HO}
theorem ZaB.there (x:ZaB P w H h a o):∃ ob,h.get? a=some ob:=by
 cases o with
 | lst xs=>obtain ⟨_,_,_,_,e⟩:=x;exact ⟨_,e⟩
 | tup xs=>obtain ⟨_,_,_,o,e,_⟩:=x;exact ⟨_,e⟩
 | dK kvs=>obtain ⟨_,_,_,_,o,_,_,e,_⟩:=x;exact ⟨_,e⟩
 | dT kvs=>obtain ⟨_,_,_,_,o,_,_,e,_⟩:=x;exact ⟨_,e⟩
 | set S n=>obtain ⟨o,_,_,_,e,_⟩:=x;exact ⟨_,e⟩
 | ins C dx fs=>obtain ⟨_,_,_,e,_⟩:=x;exact ⟨_,e⟩
 | own y=>obtain ⟨_,e⟩:=x;exact ⟨_,e⟩
 | xd fs=>obtain ⟨_,⟨_,_,_,e,_⟩,_⟩:=x;exact ⟨_,e⟩
 | rng lo hi=>obtain ⟨_,_,_,e⟩:=x;exact ⟨_,e⟩
 | frz ob u=>obtain ⟨e,_⟩:=x;exact ⟨_,e⟩
 | tbl ps=>exact ⟨_,(show h.get? a=some _ from x)⟩
 | met f y=>exact ⟨_,(show h.get? a=some _ from x)⟩
 | ext φ=>obtain ⟨_,⟨_,e⟩,_⟩:=x;exact ⟨_,e⟩
theorem HOk.absent (x:HOk P w H h) (e:h.get? a=none):H a=none:=by
 cases q:H a with
 | none=>rfl
 | some u=>
  obtain ⟨ob,z⟩:=(x a u q).there
  rw [e] at z
  cases z
theorem HOk.hidden (x:HOk P w H h) {as:List Addr} (hf:∀ b∈as,H b=none):HOk P w H (PySem.W.hideAll h as):=fun a o e=>
 (x a o e).stay (fun b u hb q=>PySem.W.hideAll_get _ q fun hm=>by
  have z:=hf b hm
  rcases hb with rfl | hb
  ·rw [z] at e;cases e
  ·rw [z] at hb;cases hb) (fun _ q=>q) fun _ _ q=>q
end
abbrev Cx.hot (X:Cx) (A:Around):Cx:={X with A:=A,calm:=false}
theorem Cx.Ok.hot {X:Cx} (ok:X.Ok) {A:Around} (hf:A.frames=X.A.frames):(X.hot A).Ok:=
 ⟨ok.mod,ok.kind,ok.glob,ok.blt,ok.above,ok.inj,ok.has,ok.cab,fun z=>(nomatch z),hf.trans ok.frames,ok.stk,ok.exf,ok.bs,ok.bsz,ok.noex,ok.exfs,ok.funs,ok.frf⟩
abbrev Cx.bear (X:Cx) (pn:List (Addr×Obj)) (E:Value→Shared→Prop):Cx:={X with pn:=pn,xe:=E}
theorem Cx.Ok.bear {X:Cx} (ok:X.Ok) (pn:List (Addr×Obj)) (E:Value→Shared→Prop):(X.bear pn E).Ok:=
 ⟨ok.mod,ok.kind,ok.glob,ok.blt,ok.above,ok.inj,ok.has,ok.cab,ok.hd,ok.frames,ok.stk,ok.exf,ok.bs,ok.bsz,ok.noex,ok.exfs,ok.funs,ok.frf⟩
theorem Cx.Ok.unbear {X:Cx} {pn:List (Addr×Obj)} {E:Value→Shared→Prop} (ok:(X.bear pn E).Ok):X.Ok:=
 ⟨ok.mod,ok.kind,ok.glob,ok.blt,ok.above,ok.inj,ok.has,ok.cab,ok.hd,ok.frames,ok.stk,ok.exf,ok.bs,ok.bsz,ok.noex,ok.exfs,ok.funs,ok.frf⟩
section
variable {X:Cx} {pins pins':List (Addr×Obj)} {σ:St} {H:Hp} {s:Shared} {A:Around} {E:Value→Shared→Prop}
theorem Inv.hot (I:Inv X pins σ H s) (hf:A.frames=X.A.frames):Inv (X.hot A) pins σ H s:=⟨I.ok.hot hf,I.os,I.bare,I.base,I.loc,I.cell,I.free,I.freeC,I.pin,I.hok,I.len⟩
theorem Inv.cool (I:Inv (X.hot A) pins σ H s) (ok:X.Ok):Inv X pins σ H s:=⟨ok,I.os,I.bare,I.base,I.loc,I.cell,I.free,I.freeC,I.pin,I.hok,I.len⟩
theorem Inv.bear (I:Inv X pins σ H s) (E:Value→Shared→Prop):Inv (X.bear (X.pn++pins) E) [] σ H s:=
 ⟨I.ok.bear _ _,I.os,I.bare,I.base,I.loc,I.cell,I.free,I.freeC,fun p hp=>I.pin p (by rwa [List.append_nil] at hp),I.hok,I.len⟩
theorem Inv.unbear (I:Inv (X.bear (X.pn++pins) E) pins' σ H s):Inv X pins σ H s:=
 ⟨I.ok.unbear,I.os,I.bare,I.base,I.loc,I.cell,I.free,I.freeC,fun p hp=>I.pin p (List.mem_append_left _ hp),I.hok,I.len⟩
theorem SP.unbear {D:Ends} {f:Flow} {s':Shared} (h:SP (X.bear (X.pn++pins) E) [] D f s'):SP X pins D f s':=by
 cases f with
 | next=>obtain ⟨σ',H',I,q⟩:=h;exact ⟨σ',H',I.unbear,q⟩
 | brk=>obtain ⟨σ',H',I,q⟩:=h;exact ⟨σ',H',I.unbear,q⟩
 | cont=>obtain ⟨σ',H',I,q⟩:=h;exact ⟨σ',H',I.unbear,q⟩
 | ret u=>obtain ⟨v,σ',H',I,r,q⟩:=h;exact ⟨v,σ',H',I.unbear,r,q⟩
end
structure ZQl (P:Program) (w:World) (outer:List Env) (H H':Hp) (s:Shared) (e:Addr) (cls:Value) (s':Shared):Prop where
 os:s'.os=s.os
 bare:AllBare s'.gens
 un:Un (frs outer) [] H H' s.heap s'.heap
 ex:∃ B a0,Heap.FlyingW B outer e cls a0 s'.heap∧HOk P w H' B∧(∀ b o,s.heap.get? b=some o→H b=none→b ∉ frs outer→B.get? b=some o)∧(∀ b o,s.heap.get? b=some o→b ∉ frs outer→∃ o',B.get? b=some o')
def CXE (P:Program) (w:World):CXT:=fun outer H s E e s'=>∃ (a:Addr) (cls:Value) (H':Hp),e=.ref a∧ZQl P w outer H H' s a cls s'∧E cls none H'
section
variable {X:Cx} {pins:List (Addr×Obj)} {σ:St} {H:Hp} {s:Shared}
theorem ZHt (I:Inv X pins σ H s) (hex:X.ex=[]) {H':Hp} {h'':Heap}
  (kB:∀ b o,s.heap.get? b=some o→H b=none→b ∉ frs X.stack→h''.get? b=some o)
  (tB:∀ b o,s.heap.get? b=some o→b ∉ frs X.stack→∃ o',h''.get? b=some o')
  (sl:∀ b o,b∈X.fs→s.heap.get? b=some o→∃ sl,h''.get? b=some {o with slots:=sl})
  (fr:∀ b o,s.heap.get? b=some o→H b=none→H' b=none)
  (tups:∀ b xs,H b=some (.tup xs)→H' b=some (.tup xs)) (frzs:∀ b o u,H b=some (.frz o u)→H' b=some (.frz o u)) (tbls:∀ b ps,H b=some (.tbl ps)→∃ more,H' b=some (.tbl (ps++more))) :
  Un X.fs [] X.H₀ H' X.s₀.heap h'':=by
 have nx:∀ b:Addr,b ∉ X.ex:=fun b z=>by rw [hex] at z;cases z
 have nst:∀ b o,X.s₀.heap.get? b=some o→b ∉ X.fs→b ∉ frs X.stack:=fun b o e hb z=>by
  rcases List.mem_cons.mp (I.stkSub b z) with q | q
  ·have:=Heap.lt_size e
   rw [q] at this
   exact absurd (Nat.lt_of_lt_of_le this I.ok.above) (Nat.lt_irrefl _)
  ·exact hb q
 refine ⟨fun b o e n hb _=>kB b o (I.base.keep b o e n hb (nx b)) (I.base.free b o e n (nx b)) (nst b o e hb),fun b o e n hb _=>?_,fun b o e n _=>?_,fun b o e _=>?_,fun b xs e=>tups b xs (I.base.tups b xs e),fun b o u e=>frzs b o u (I.base.frzs b o u e),fun b ps e=>?_⟩
 ·obtain ⟨sl1,e1⟩:=I.base.slot b o e n hb (nx b)
  obtain ⟨sl2,e2⟩:=sl b _ hb e1
  exact ⟨sl2,e2⟩
 ·obtain ⟨o',e1⟩:=I.base.there b o e (nx b)
  exact fr b o' e1 (I.base.free b o e n (nx b))
 ·obtain ⟨o',e1⟩:=I.base.there b o e (nx b)
  by_cases hb:b∈X.fs
  ·obtain ⟨sl2,e2⟩:=sl b _ hb e1
   exact ⟨_,e2⟩
  ·exact tB b o' e1 (nst b o e hb)
 ·obtain ⟨m1,e1⟩:=I.base.tbls b ps e
  obtain ⟨m2,e2⟩:=tbls b _ e1
  exact ⟨m1++m2,by rw [e2,Array.append_assoc]⟩
end
section
variable {P:Program} {w:World} {K:PySem.W.Frag} {mg:Str→Option Value} {base:Heap} {N:List Str} {qual:Str} {scope:Scope} {f:Addr} {cd:Value} {A:Around} {outer:List Env} {s₀:Shared} {H₀:Hp} {E:XK}
theorem ZI6 {pins:List (Addr×Obj)} {σ:St} {H:Hp} {s:Shared} {h':Heap} {e C:Addr} {vs:List Value}
  (I:Inv (cxOf (CXE P w) P w K mg base N qual scope f cd A outer s₀ H₀ E) pins σ H s) (hx:Heap.MadeExcOf s.heap h' e (.ref C) vs) (hE:E (.ref C) none H) :
  (cxOf (CXE P w) P w K mg base N qual scope f cd A outer s₀ H₀ E).xe (.ref e) {s with heap:=h'}:=by
 have hfree:∀ b∈frs (cxOf (CXE P w) P w K mg base N qual scope f cd A outer s₀ H₀ E).stack,H b=none:=I.stkFree
 have hin:∀ env∈(cxOf (CXE P w) P w K mg base N qual scope f cd A outer s₀ H₀ E).stack,∀ b,env.frame=some b→b∈frs (cxOf (CXE P w) P w K mg base N qual scope f cd A outer s₀ H₀ E).stack:=fun env he b hb=>List.mem_filterMap.mpr ⟨env,he,hb⟩
 have hB:∀ b o,s.heap.get? b=some o→b ∉ frs (cxOf (CXE P w) P w K mg base N qual scope f cd A outer s₀ H₀ E).stack→(PySem.W.hideAll s.heap (frs (cxOf (CXE P w) P w K mg base N qual scope f cd A outer s₀ H₀ E).stack)).get? b=some o:=fun b o q hb=>PySem.W.hideAll_get _ q hb
 show wpAny (model P w) (A.deeper (envOfC qual scope s₀.heap.objs.size f cd)) (leaving (envOfC qual scope s₀.heap.objs.size f cd) (.ref e)) (fun _ s''=>CXE P w outer H₀ s₀ E (.ref e) s'') (fun e' s''=>CXE P w outer H₀ s₀ E e' s'') {s with heap:=h'}
 refine wpAny_leaves_madeW (s:={s with heap:=h'}) (base:=PySem.W.hideAll s.heap (frs (cxOf (CXE P w) P w K mg base N qual scope f cd A outer s₀ H₀ E).stack)) (h:=s.heap) (L:=s₀.heap.objs.size) (outer:=outer) I.ok.frames rfl (fun b o q=>PySem.W.of_hideAll _ q) (PySem.W.funFrames_hide I.stack hin) hx fun h'' t x1 x2 x3 x4=>?_
 have x4':h'.UpToSlots h'':=x4
 have slots:∀ b o,b∈frs outer→s.heap.get? b=some o→∃ sl,h''.get? b=some {o with slots:=sl}:=fun b o hb q=>by
  obtain ⟨_,o',ho',hnf⟩:=I.funs.mem hb
  rw [q] at ho'
  cases ho'
  exact x4' b o (hx.keeps b o q) hnf
 refine ⟨e,.ref C,H,rfl,⟨I.os,I.bare,ZHt I rfl (fun b o q _ hb=>x1.1 b o (hB b o q hb)) (fun b o q hb=>⟨o,x1.1 b o (hB b o q hb)⟩) slots (fun _ _ _ n=>n) (fun _ _ z=>z) (fun _ _ _ z=>z) (fun b ps z=>⟨#[],by rw [z];simp⟩),_,_,x1,I.hok.hidden hfree,fun b o q n hb=>?_,fun b o q hb=>?_⟩,hE⟩
 ·have hst:b ∉ frs (cxOf (CXE P w) P w K mg base N qual scope f cd A outer s₀ H₀ E).stack:=fun z=>by
   rcases List.mem_cons.mp (I.stkSub b z) with q1 | q1
   ·have:=Heap.lt_size q
    rw [q1] at this
    exact absurd (Nat.lt_of_lt_of_le this I.ok.above) (Nat.lt_irrefl _)
   ·exact hb q1
  exact hB b o (I.base.keep b o q n hb (fun z=>nomatch z)) hst
 ·obtain ⟨o',e1⟩:=I.base.there b o q (fun z=>nomatch z)
  have hst:b ∉ frs (cxOf (CXE P w) P w K mg base N qual scope f cd A outer s₀ H₀ E).stack:=fun z=>by
   rcases List.mem_cons.mp (I.stkSub b z) with q1 | q1
   ·have:=Heap.lt_size q
    rw [q1] at this
    exact absurd (Nat.lt_of_lt_of_le this I.ok.above) (Nat.lt_irrefl _)
   ·exact hb q1
  exact ⟨o',hB b o' e1 hst⟩
theorem Zg:Zjc (CXE P w) (cxOf (CXE P w) P w K mg base N qual scope f cd A outer s₀ H₀ E) (fun _=>E):=by
 rintro pins σ H s e s' I ⟨a,cls,H',rfl,fl,hE⟩
 obtain ⟨B,a0,hfl,hok,kB,tB⟩:=fl.ex
 show wpAny (model P w) (A.deeper (envOfC qual scope s₀.heap.objs.size f cd)) (leaving (envOfC qual scope s₀.heap.objs.size f cd) (.ref a)) (fun _ s''=>CXE P w outer H₀ s₀ E (.ref a) s'') (fun e' s''=>CXE P w outer H₀ s₀ E e' s'') s'
 refine wpAny_leaves_onW (L:=s₀.heap.objs.size) (outer:=outer) I.ok.frames rfl hfl fun h'' x1 x2=>?_
 have sub:∀ b∈frs outer,b∈frs (cxOf (CXE P w) P w K mg base N qual scope f cd A outer s₀ H₀ E).stack:=fun b hb=>by
  show b∈List.filterMap (·.frame) (_::outer)
  rw [List.filterMap_cons]
  exact List.mem_cons_of_mem _ hb
 have slots:∀ b o,b∈frs outer→s.heap.get? b=some o→∃ sl,h''.get? b=some {o with slots:=sl}:=fun b o hb q=>by
  obtain ⟨_,o',ho',hnf⟩:=I.funs.mem hb
  rw [q] at ho'
  cases ho'
  obtain ⟨sl,e1⟩:=fl.un.slot b o q (I.stkFree b (sub b hb)) (sub b hb) (fun z=>nomatch z)
  obtain ⟨sl2,e2⟩:=x2 b _ e1 hnf
  exact ⟨sl2,e2⟩
 have nst:∀ b o,s₀.heap.get? b=some o→b ∉ frs outer→b ∉ frs (cxOf (CXE P w) P w K mg base N qual scope f cd A outer s₀ H₀ E).stack:=fun b o q hb z=>by
  rcases List.mem_cons.mp (I.stkSub b z) with q1 | q1
  ·have:=Heap.lt_size q
   rw [q1] at this
   exact absurd (Nat.lt_of_lt_of_le this I.ok.above) (Nat.lt_irrefl _)
  ·exact hb q1
 refine ⟨a,cls,H',rfl,⟨fl.os.trans I.os,fl.bare,ZHt I rfl (fun b o q n hb=>x1.1 b o (kB b o q n hb)) (fun b o q hb=>?_) slots (fun b o q n=>fl.un.free b o q n (fun z=>nomatch z)) fl.un.tups fl.un.frzs fl.un.tbls,B,a0,x1,hok,fun b o q n hb=>?_,fun b o q hb=>?_⟩,hE⟩
 ·obtain ⟨o',e1⟩:=tB b o q hb
  exact ⟨o',x1.1 b o' e1⟩
 ·exact kB b o (I.base.keep b o q n hb (fun z=>nomatch z)) (I.base.free b o q n (fun z=>nomatch z)) (nst b o q hb)
 ·obtain ⟨o',e1⟩:=I.base.there b o q (fun z=>nomatch z)
  exact tB b o' e1 (nst b o q hb)
end
structure Zjr (K:PySem.W.Frag) (C:Addr):Prop where
 exc:PySem.W.excIn K C [.type "ValueError",.type "Exception",.type "BaseException",.type "object"] "ValueError.__new__"=true
theorem ZRt {K:PySem.W.Frag} {C:Addr} {bmB:List Value} {newId:String} (q:PySem.W.excIn K C bmB newId=true) :
  ∃ bm N nm qn bs hdct sn sub ab col dd k0 k1 k2 k3 k5,K.lookup C=some (excClassObj nm qn C N bs bm hdct sn sub ab col dd k0 k1 k2 k3 k5 newId)∧PySem.W.nsOkIn K N=true∧PySem.W.nsIn K N "__init__"=some none∧PySem.W.tailIn K bmB bm=true:=by
 unfold PySem.W.excIn at q
 split at q
 ·rename_i dd cd sl ho
  split at q
  ·rename_i C' bm k0 k1 k2 k3 n k5 hm hs
   simp only [Bool.and_eq_true,beq_iff_eq,Bool.not_eq_true'] at q
   obtain ⟨⟨⟨⟨⟨rfl,rfl⟩,hdel⟩,ht⟩,hok⟩,hni⟩:=q
   obtain ⟨nm,bs,mro,ns,qn,hd,sn,sub,ab,col,del⟩:=cd
   dsimp only at hm hdel hok hni
   subst hm hdel
   have hsl:sl=#[k0,k1,k2,k3,some (.builtin n),k5]:=by
    obtain ⟨l⟩:=sl
    simp only at hs
    rw [hs]
   subst hsl
   exact ⟨bm,ns,nm,qn,bs,hd,sn,sub,ab,col,dd,k0,k1,k2,k3,k5,ho,hok,hni,ht⟩
  ·cases q
 ·cases q
theorem ZGs {K:PySem.W.Frag} {N:Addr} (q:PySem.W.nsOkIn K N=true):∃ o,K.lookup N=some o:=by
 unfold PySem.W.nsOkIn at q
 split at q
 ·rename_i ho
  exact ⟨_,ho⟩
 ·cases q
def ZQt (E:XK) (C:Addr) (t:TA):TS:=fun _ σ H=>t σ H fun vs H1=>vs.length≤sizeLine∧E (.ref C) none H1
section
variable {P:Program} {w:World} {K:PySem.W.Frag} {mg:Str→Option Value} {base:Heap} {N:List Str} {qual:Str} {scope:Scope} {f:Addr} {cd:Value} {A:Around} {outer:List Env} {s₀:Shared} {H₀:Hp} {E:XK}
theorem ZaK {x:Str} {C:Addr} {e₀:Expr} {rest:List Expr} {t:TA} {np cpos pos:Pos} (hC:Zjr K C) (hg:Gl (cxOf (CXE P w) P w K mg base N qual scope f cd A outer s₀ H₀ E) x) (hm:mg x=some (.ref C))
  (ha:PA (cxOf (CXE P w) P w K mg base N qual scope f cd A outer s₀ H₀ E) (e₀::rest) t)
  (he:starEach (e₀::rest) (cxOf (CXE P w) P w K mg base N qual scope f cd A outer s₀ H₀ E).env=(false,eval e₀ (cxOf (CXE P w) P w K mg base N qual scope f cd A outer s₀ H₀ E).env)::starEach rest (cxOf (CXE P w) P w K mg base N qual scope f cd A outer s₀ H₀ E).env:=by rfl)
  (hplain:(backTo cpos (starEach rest (cxOf (CXE P w) P w K mg base N qual scope f cd A outer s₀ H₀ E).env)).any (·.1)=false:=by rfl) (hd:(x == ("__debug__":Str))=false:=by decide) :
  PS (cxOf (CXE P w) P w K mg base N qual scope f cd A outer s₀ H₀ E) (.Raise (some (.Call (.Name x np) (e₀::rest) [] cpos)) none pos) (ZQt E C t):=by
 try unfold PA at *;try unfold PS at *
 intro pins s σ H D I h
 obtain ⟨bm,N',nm,q,bs,hdct,sn,sub,ab,col,dd,k0,k1,k2,k3,k5,lk,hok,hni,ht⟩:=ZRt hC.exc
 obtain ⟨oN,lkN⟩:=ZGs hok
 have hN:s.heap.Ns N' (s.heap.nsMap N'):=.of_isNs (PySem.W.isNs_of_in I.kIn hok)
 refine wpAny_Raise_call_subT (C:=C) (nm:=nm) (q:=q) (N:=N') (bs:=bs) (bm:=bm) (hdct:=hdct) (sn:=sn) (sub:=sub) (ab:=ab) (col:=col) (dd:=dd) (k0:=k0) (k1:=k1) (k2:=k2) (k3:=k3) (k5:=k5)
  PySem.F.excBase_ValueError (mN:=s.heap.nsMap N') ((PySem.W.tail_of_in I.kIn ht).hasType PySem.F.excBase_ValueError.hasBase) (I.ok.hd rfl) (by rw [he];show (false || (backTo cpos (starEach rest _)).any (·.1))=false;rw [hplain];rfl) (PySem.W.nsMap_none_of_in I.kIn hok hni) (ZlB I hg hm ⟨rfl,?_⟩ hd)
 have z:=ha cpos pins s σ H _ I h
 rw [he] at z ⊢
 refine Calls.evalArgs_plain (thn z fun us s1 ⟨vs,H1,I1,r,hv,q1⟩=>⟨rfl,(by rw [← r.length];exact hv),I1.kIn _ _ lk,hN.at' fun o e=>?_,PySem.W.tail_of_in I1.kIn ht,fun h' e hx=>ZI6 I1 hx q1⟩)
 have e2:=I.kIn _ _ lkN
 rw [e] at e2
 cases e2
 exact I1.kIn _ _ lkN
end
end L2
namespace L2
open PySem PySem.Spec PyProof.Rows PySem.W
def ZlV (a:Addr) (cls:Value) (h:Heap):Prop:=∃ oe vs,h.get? a=some oe∧oe.cls=cls∧oe.data=.fields vs
def xob (a:Addr) (cls:Value):HO:=.ext (ZlV a cls)
theorem ZlV.at {a:Addr} {cls:Value} {h h':Heap} (x:ZlV a cls h) (k:∀ o,h.get? a=some o→h'.get? a=some o):ZlV a cls h':=by
 obtain ⟨oe,vs,e,r⟩:=x
 exact ⟨oe,vs,k oe e,r⟩
theorem Inv.exc {X:Cx} {pins:List (Addr×Obj)} {σ:St} {H:Hp} {s:Shared} {a:Addr} {cls:Value} (I:Inv X pins σ H s) (e:H a=some (xob a cls)):ZlV a cls s.heap:=(I.hok a _ e).1
theorem Inv.track {X:Cx} {pins:List (Addr×Obj)} {σ:St} {H:Hp} {s:Shared} {a:Addr} {o:HO} (I:Inv X pins σ H s) (hn:H a=none) (new:ZaB X.prog X.w (upd H a o) s.heap a o)
  (h0:∀ b u,X.s₀.heap.get? b=some u→X.H₀ b=none→b ∉ X.ex→b≠a) (hL:X.env.locals≠a) (hc:∀ x c,X.env.cells.lookup x=some c→c≠a) (hp:∀ p∈X.pn++pins,p.1≠a):Inv X pins σ (upd H a o) s:=by
 refine ⟨I.ok,I.os,I.bare,⟨I.base.keep,I.base.slot,fun b u e n hx=>?_,I.base.there,fun b xs e=>?_,fun b u v e=>?_,fun b ps e=>?_⟩,I.loc,I.cell,?_,fun x c e=>?_,fun p z=>?_,fun b u e=>?_,I.len⟩
 ·rw [Zd (h0 b u e n hx)];exact I.base.free b u e n hx
 ·have z:=I.base.tups b xs e
  rw [Zd (Zf z hn)];exact z
 ·have z:=I.base.frzs b u v e
  rw [Zd (Zf z hn)];exact z
 ·obtain ⟨more,z⟩:=I.base.tbls b ps e
  exact ⟨more,by rw [Zd (Zf z hn)];exact z⟩
 ·rw [Zd hL];exact I.free
 ·rw [Zd (hc x c e)];exact I.freeC x c e
 ·obtain ⟨z1,z2,z3⟩:=I.pin p z
  exact ⟨z1,by rw [Zd (hp p z)];exact z2,z3⟩
 ·by_cases hb:b=a
  ·subst hb
   rw [Zb] at e
   cases e
   exact new
  ·rw [Zd hb] at e
   exact (I.hok b u e).stay (fun _ _ _ q=>q) (fun c q=>by rw [Zd (Zf q hn)];exact q) fun c xs q=>by rw [Zd (Zf q hn)];exact q
structure ZHo (K:Frag) (D:Addr):Prop where
 ty:typeIn K (.ref D)=some (.type "type")
 cl:(clsIn K D).isSome=true
 ba:subIn K (.ref D) (.type "BaseException")=some true
theorem Zrq {K:Frag} {M:Model} {h:Heap} {D:Addr} (X:K.In h) (hc:(clsIn K D).isSome=true):Looks M h (isType (.ref D)) true:=by
 unfold clsIn at hc
 split at hc
 ·rename_i c' d' cd' sl' ho
  intro A' Q' E' s' k q
  unfold isType loadHead
  exact wpAny_bind (wpAny_loadPart (k _ _ (X _ _ ho)) (wpAny_pure q))
 ·cases hc
theorem Zbq {M:Model} {h:Heap} {a:Addr} {cls:Value} (x:ZlV a cls h):Looks M h (typeOf (.ref a)) cls:=by
 obtain ⟨oe,vs,e,hc,_⟩:=x
 exact hc ▸ (Looks.ld e).andThen .now
theorem ZDV {M:Model} {A:Around} {E:Value→Shared→Prop} {s:Shared} {Q:Bool→Shared→Prop} {K:Frag} {e C D:Addr} {b:Bool} (X:K.In s.heap) (he:ZlV e (.ref C) s.heap) (hD:ZHo K D) (hs:subIn K (.ref C) (.ref D)=some b) (h:Q b s) :
  wpAny M A (excMatches (.ref e) (.ref D)) Q E s:=by
 obtain ⟨h0,g,d,tt,os⟩:=s
 have L1:Looks M h0 (isInstance (.ref D) (.type "tuple")) false:=(looks_typeIn X hD.ty).andThen (Looks.of_pure tc_notTuple)
 have L2:=Zrq (M:=M) X hD.cl
 have L3:=looks_subIn (M:=M) X hD.ba
 have L4:=Zbq (M:=M) he
 have L5:=looks_subIn (M:=M) X hs
 unfold excMatches
 refine wpAny_bind (L1.at ?_)
 simp only [Bool.false_eq_true,if_false]
 refine wpAny_bind (wpAny_pure ?_)
 simp only [List.forIn_cons,List.forIn_nil]
 unfold isExcClass
 refine wpAny_bind (wpAny_bind (wpAny_bind (wpAny_bind (L2.at ?_))))
 simp only [if_true]
 refine L3.at ?_
 simp only [Bool.not_true,Bool.false_eq_true,if_false]
 refine wpAny_pure (wpAny_pure ?_)
 refine wpAny_bind (L4.at ?_)
 refine wpAny_bind (wpAny_bind (wpAny_bind (L5.at ?_)))
 cases b with
 | true=>
  simp only [if_true]
  exact wpAny_pure (wpAny_pure (wpAny_pure h))
 | false=>
  simp only [Bool.false_eq_true,if_false]
  exact wpAny_pure (wpAny_pure (wpAny_pure h))
theorem ZLT {X:Cx} {pins:List (Addr×Obj)} {σ:St} {H:Hp} {s:Shared} {M:Model} {A:Around} {E:Value→Shared→Prop} {i:Nat} {n:Str} {pos:Pos} {Q:Unit→Shared→Prop} (I:Inv X pins σ H s) (hN:X.N.Nodup) (hi:X.N[i]?=some n)
  (hl:X.env.scope.names.lookup n=some .local) (h:∀ s',Inv X pins (σ.set i none) H s'→Q () s'):wpAny M A (do bindName X.env n .none;unbindBehindTheSuite X.env n pos) Q E s:=by
 obtain ⟨m,hn,hloc⟩:=id I.loc
 have hcls:(X.env.scope.kind == .class || (X.env.scope.kind == .module && X.env.locals != X.env.globals))=false:=by rw [I.ok.kind];rfl
 refine wpAny_nameGoes_keeps hl hn hcls fun h' v hn' hs=>?_
 obtain ⟨oL,_,_,hoL,_⟩:=id hn
 have neL:∀ b o,X.s₀.heap.get? b=some o→b≠X.env.locals:=fun b o e=>Nat.ne_of_lt (Nat.lt_of_lt_of_le (Heap.lt_size e) I.ok.above)
 refine h _ ⟨I.ok,I.os,I.bare,⟨fun b o e n hb hx=>(hs.2 b (neL b o e)).trans (I.base.keep b o e n hb hx),fun b o e n hb hx=>?_,I.base.free,fun b o e hx=>?_,I.base.tups,I.base.frzs,I.base.tbls⟩,⟨_,hn',fun j y v' e1 e2 e3=>?_⟩,fun y c e=>?_,I.free,I.freeC,fun p hp=>?_,fun b ob e=>?_,by simpa using I.len⟩
 ·obtain ⟨sl,e1⟩:=I.base.slot b o e n hb hx
  exact ⟨sl,(hs.2 b (neL b o e)).trans e1⟩
 ·obtain ⟨o',e1⟩:=I.base.there b o e hx
  exact ⟨o',(hs.2 b (neL b o e)).trans e1⟩
 ·by_cases hj:j=i
  ·subst hj
   have hlt:j < σ.length:=by rw [I.len];exact (List.getElem?_eq_some_iff.mp hi).1
   rw [List.getElem?_set_self hlt] at e2
   cases e2
  ·rw [List.getElem?_set_ne (Ne.symm hj)] at e2
   obtain ⟨u',r',q⟩:=hloc j y v' e1 e2 e3
   refine ⟨u',r',?_⟩
   rcases q with ⟨k,e⟩ | ⟨k,c,e,z⟩
   ·refine .inl ⟨k,?_⟩
    have ne:y≠n:=fun e=>hj (ZAs hN e1 (e ▸ hi))
    simp [ne,e]
   ·exact .inr ⟨k,c,e,z.sameBut hs (I.cne y c e)⟩
 ·obtain ⟨w',z⟩:=I.cell y c e
  exact ⟨w',z.sameBut hs (I.cne y c e)⟩
 ·obtain ⟨e,n,ne,nf,d⟩:=I.pin p hp
  exact ⟨(hs.2 p.1 ne).trans e,n,ne,nf,d⟩
 ·refine (I.hok b ob e).stay (fun c w' hc q=>(hs.2 c ?_).trans q) (fun _ q=>q) fun _ _ q=>q
  rintro rfl
  rcases hc with rfl | hc
  ·rw [I.free] at e;cases e
  ·rw [I.free] at hc;cases hc
def ZRJ (X:Cx) (pins:List (Addr×Obj)) (E:St→XK) (e:Value) (s':Shared):Prop:=
 ∃ (a:Addr) (cls:Value) (σ₁:St) (H₁ Hc:Hp) (sc:Shared),e=.ref a∧Inv X pins σ₁ Hc sc∧ZQl X.prog X.w X.stack Hc H₁ sc a cls s'∧E σ₁ cls none H₁
theorem ZJg {X:Cx} {pins:List (Addr×Obj)} {E:St→XK}:Zjc (CXE X.prog X.w) (X.bear (X.pn++pins) (ZRJ X pins E)) E:=by
 rintro pins1 σ H s e s' I ⟨a,cls,H',rfl,fl,hE⟩
 exact ⟨a,cls,σ,H',H,s,rfl,I.unbear,fl,hE⟩
theorem ZDf {X:Cx} {pins:List (Addr×Obj)} {σ:St} {Hc H₁:Hp} {sc s':Shared} {a:Addr} {cls:Value} {B:Heap} {a0:Value} {h5:Heap} (I:Inv X pins σ Hc sc) (hex:X.ex=[]) (fl:ZQl X.prog X.w X.stack Hc H₁ sc a cls s')
  (kB:∀ b o,sc.heap.get? b=some o→Hc b=none→b ∉ frs X.stack→B.get? b=some o) (tB:∀ b o,sc.heap.get? b=some o→b ∉ frs X.stack→∃ o',B.get? b=some o') (hok:HOk X.prog X.w H₁ B)
  (hfl:Heap.FlyingW B X.stack a cls a0 h5) (hsm:s'.heap.UpToSlots h5):Inv X pins σ (upd H₁ a (xob a cls)) {s' with heap:=h5}∧H₁ a=none:=by
 have hna:H₁ a=none:=hok.absent hfl.2.1
 have hsl:∀ b o,b∈frs X.stack→sc.heap.get? b=some o→∃ sl,h5.get? b=some {o with slots:=sl}:=fun b o hb q=>by
  obtain ⟨_,o',ho',hnf⟩:=I.stack.mem hb
  rw [q] at ho'
  cases ho'
  obtain ⟨sl,e1⟩:=fl.un.slot b o q (I.stkFree b hb) hb (fun z=>nomatch z)
  obtain ⟨sl2,e2⟩:=hsm b _ e1 hnf
  exact ⟨sl2,e2⟩
 have hokB:HOk X.prog X.w H₁ h5:=hok.kept hfl.1
 have I5:Inv X pins σ H₁ {s' with heap:=h5}:=by
  refine I.call' (ch:=[]) (s':={s' with heap:=h5}) fl.os ⟨fun b o e n hb _=>hfl.1 b o (kB b o e n hb),fun b o e n hb _=>hsl b o hb e,fun b o e n _=>fl.un.free b o e n (fun z=>nomatch z),fun b o e _=>?_,fl.un.tups,fl.un.frzs,fl.un.tbls⟩ hokB fl.bare fun b z=>nomatch z
  by_cases hb:b∈frs X.stack
  ·obtain ⟨sl,e1⟩:=hsl b o hb e
   exact ⟨_,e1⟩
  ·obtain ⟨o',e1⟩:=tB b o e hb
   exact ⟨o',hfl.1 b o' e1⟩
 have nst:∀ b o,sc.heap.get? b=some o→Hc b=none→b ∉ frs X.stack→b≠a:=fun b o e n hb z=>by
  have:=kB b o e n hb
  rw [z,hfl.2.1] at this
  cases this
 obtain ⟨oe,vs,T,oT,ts,he,⟨hc,h0⟩,hd,_⟩:=id hfl.2.2.2
 have hxo:ZlV a cls h5:=⟨oe,vs,he,hc,hd⟩
 have fra:∀ b∈X.env.locals::X.fs,b≠a:=fun b hb z=>by
  rcases List.mem_cons.mp hb with q | q
  ·obtain ⟨m,⟨o,es,ep,ho,hdd,_⟩,_⟩:=I5.loc
   have ho':h5.get? X.env.locals=some o:=ho
   rw [← q,z,he] at ho'
   cases ho'
   rw [hd] at hdd
   cases hdd
  ·obtain ⟨_,o,ho,hnf⟩:=I5.funs.mem q
   have ho':h5.get? b=some o:=ho
   rw [z,he] at ho'
   cases ho'
   exact hnf vs hd
 have notin:∀ b,b≠X.env.locals→b ∉ X.fs→b ∉ frs X.stack:=fun b h1 h2 z=>(List.mem_cons.mp (I.stkSub b z)).elim h1 h2
 refine ⟨I5.track hna ⟨hxo,⟨oe,he⟩,fun h1 h2 x k=>x.at k⟩ (fun b u e n hx=>?_) (fra _ List.mem_cons_self) (fun x c e=>?_) (fun p hp=>?_),hna⟩
 ·by_cases hb:b∈X.fs
  ·exact fra b (List.mem_cons_of_mem _ hb)
  ·exact nst b u (I.base.keep b u e n hb hx) (I.base.free b u e n hx) (notin b (Nat.ne_of_lt (Nat.lt_of_lt_of_le (Heap.lt_size e) I.ok.above)) hb)
 ·by_cases hb:c∈X.fs
  ·exact fra c (List.mem_cons_of_mem _ hb)
  ·obtain ⟨v,o,ho,_⟩:=I.cell x c e
   exact nst c o ho (I.freeC x c e) (notin c (I.cne x c e) hb)
 ·obtain ⟨e,n,ne,nf,_⟩:=I.pin p hp
  exact nst p.1 p.2 e n (notin p.1 ne nf)
def tTry (K:Frag) (D:Addr) (i:Nat) (tb:(St→XK)→TS) (th:TS):TS:=fun D' σ H=>
 tb (fun σ₁ cls _ H₁=>∃ C,cls=.ref C∧subIn K (.ref C) (.ref D)=some true∧∀ a,H₁ a=none→
  th {nx:=fun σ₂ H₂=>D'.nx (σ₂.set i none) H₂,rt:=D'.rt,bk:=fun σ₂ H₂=>D'.bk (σ₂.set i none) H₂,ct:=fun σ₂ H₂=>D'.ct (σ₂.set i none) H₂} (σ₁.set i (some (.ref a))) (upd H₁ a (xob a (.ref C)))) D' σ H
theorem ZQV {X:Cx} {body suite:List Stmt} {b₀:Stmt} {x n:Str} {np hpos pos:Pos} {D:Addr} {i:Nat} {tb:(St→XK)→TS} {th:TS} (hst:X.stack=X.env::X.outer) (hfr:X.env.frame=some X.env.locals) (hex:X.ex=[]) (hgx:Gl X x) (hmx:X.mg x=some (.ref D)) (hD:ZHo X.K D)
  (hN:X.N.Nodup) (hi:X.N[i]?=some n) (hl:X.env.scope.names.lookup n=some .local)
  (hb:∀ pn E' E,Zjc (CXE X.prog X.w) (X.bear pn E') E→PSs (X.bear pn E') body (tb E))
  (hh:∀ a,PSs (X.hot (X.A.mark (some (.ref a)))).nox (b₀::suite) th) (hdb:(x == ("__debug__":Str))=false:=by decide) :
  PS X (.Try body [.ExceptHandler (some (.Name x np)) (some n) (b₀::suite) hpos] [] [] pos) (tTry X.K D i tb th):=by
 try unfold PS at *;try unfold PSs at *
 intro pins s σ H D' I h
 refine wpAny_Try_except (wpAny_mono (hb _ _ _ ZJg [] s σ H D' (I.bear (ZRJ X pins _)) h) (fun f s1 q=>?_) fun e s1 q=>?_)
 ·have q':=SP.unbear q
  cases f with
  | next=>exact wpAny_execs_nil q'
  | brk=>exact q'
  | cont=>exact q'
  | ret u=>exact q'
 ·obtain ⟨a,cls,σ₁,H₁,Hc,sc,rfl,Ic,fl,C,rfl,hsub,hE⟩:=q
  obtain ⟨B,a0,hfl,hok,kB,tB⟩:=fl.ex
  have hfr':X.A.frames=some (X.env::X.outer):=by rw [← hst];exact Ic.ok.frames
  rw [hst] at hfl
  refine wpAny_looks_onW hfr' hfr hfl fun h4 held4 sm4=>?_
  refine wpAny_landsW held4 fun h5 fl5 sm5=>?_
  have sm45:=sm4.trans sm5
  have fl5':Heap.FlyingW B X.stack a (.ref C) a0 h5:=by rw [hst];exact fl5
  obtain ⟨I5,hna⟩:=ZDf Ic hex fl kB tB hok fl5' sm45
  have I5h:Inv (X.hot (X.A.mark (some (.ref a)))) pins σ₁ (upd H₁ a (xob a (.ref C))) {s1 with heap:=h5}:=I5.hot rfl
  refine wpAny_handleBy_cons (codeAny_handlers_test (ZlB (X:=X.hot (X.A.mark (some (.ref a)))) I5h hgx hmx ?_ hdb)) (by intro z;cases z)
  refine ZDV I5.kIn (I5.exc Zb) hD hsub ?_
  show codeAny _ _ _ _ _
  refine codeAny_handlers_suite_as ?_
  refine lands_againW fl5 fun h6 fl6 sm6=>?_
  have fl6':Heap.FlyingW B X.stack a (.ref C) a0 h6:=by rw [hst];exact fl6
  obtain ⟨I6,_⟩:=ZDf Ic hex fl kB tB hok fl6' (sm45.trans sm6)
  have I6h:Inv (X.hot (X.A.mark (some (.ref a)))).nox pins σ₁ (upd H₁ a (xob a (.ref C))) {s1 with heap:=h6}:=(I6.hot (A:=X.A.mark (some (.ref a))) rfl).wish _
  refine ZyK (X:=(X.hot (X.A.mark (some (.ref a)))).nox) (v:=.ref a) I6h hN hi (.inl hl) rfl (fun s7 I7=>?_) (.inr hl)
  refine wpAny_mono (hh a pins s7 _ _ _ I7 (hE a hna)) (fun f s8 q8=>?_) fun _ _ z=>z.elim
  have back:∀ {σ8:St} {H8:Hp} {Q':Unit→Shared→Prop},Inv (X.hot (X.A.mark (some (.ref a)))).nox pins σ8 H8 s8→(∀ s9,Inv X pins (σ8.set i none) H8 s9→Q' () s9)→wpAny (model X.prog X.w) X.A (do bindName X.env n .none;unbindBehindTheSuite X.env n hpos) Q' X.xe s8:=fun {σ8 H8 Q'} I8 k=>
   ZLT (X:=X) (I8.unwish.cool I.ok) hN hi hl k
  cases f with
  | next=>obtain ⟨σ8,H8,I8,q9⟩:=q8;exact back I8 fun s9 I9=>⟨_,H8,I9,q9⟩
  | brk=>obtain ⟨σ8,H8,I8,q9⟩:=q8;exact back I8 fun s9 I9=>⟨_,H8,I9,q9⟩
  | cont=>obtain ⟨σ8,H8,I8,q9⟩:=q8;exact back I8 fun s9 I9=>⟨_,H8,I9,q9⟩
  | ret u=>obtain ⟨v8,σ8,H8,I8,r8,q9⟩:=q8;exact back I8 fun s9 I9=>⟨v8,_,H8,I9,r8,q9⟩
structure ZBj (k:Nat) (A:Around):Prop where
 dp:A.depth + 3 * k + 5 < recursionLimit
 un:A.units + 16 * k + 200 < cLine
theorem ZBj.deeper {k:Nat} {A:Around} (r:ZBj (k + 1) A) (env:Env):ZBj k (A.deeper env):=by
 refine ⟨?_,?_⟩
 ·have:=r.dp
  show A.depth + 1 + 3 * k + 5 < recursionLimit
  omega
 ·have:=r.un
  show A.units + 3 + 16 * k + 200 < cLine
  omega
theorem ZBj.depth {k:Nat} {A:Around} (r:ZBj k A):A.depth < recursionLimit:=by have:=r.dp;omega
theorem Room.hot {k:Nat} {A:Around} (r:Room k A) (v:Option Value):ZBj k (A.mark v):=⟨r.dp,r.un⟩
structure ZQk (P:Program) (w:World) (K:PySem.W.Frag) (mg:Str→Option Value) (base:Heap) (k:Nat) (f:Addr) (fd:FuncData) (ps:List Str) (sp:Sp):Prop where
 len:∀ vs H Q E,sp vs H Q E→vs.length=ps.length
 run:∀ (A:Around) (outer:List Env) (s:Shared) (H:Hp) (args:Args) (us:List Value) (vs:List V) (Q:VK) (E:XK),ZBj k A→Env0 P w K mg base A outer s H→BindsTo s fd args (ps.zip us)→Vals vs us→sp vs H Q E→
  codeAny (model P w) A (.call (.ref f) args) (CR CX0 outer P w H s Q E) s
abbrev cool (A:Around):Around:={A with handled:=none}
section
variable {P:Program} {w:World} {K:PySem.W.Frag} {mg:Str→Option Value} {base:Heap}
theorem Fun.okH {x qual:Str} {st:Stmt} {f:Addr} {fd:FuncData} {N ps:List Str} {k:Nat} {sp:Sp} (F:Fun K x qual st f fd) (S:Zo N ps (Zj st)) (len:∀ vs H Q E,sp vs H Q E→vs.length=ps.length)
  (hbody:∀ (cdv:Value) (A:Around) (outer:List Env) (s:Shared) (H:Hp) (vs:List V) (Q:VK) (E:XK),ZBj k (A.deeper (envOfC qual (Zj st) s.heap.objs.size f cdv))→sp vs H Q E→
   ∃ t,PSs ((cxOf CX0 P w K mg base N qual (Zj st) f cdv (cool A) outer s H E).hot (A.deeper (envOfC qual (Zj st) s.heap.objs.size f cdv))).nox (Ziz st) t∧t {nx:=fun _ H'=>Q .non H',rt:=Q} (ZN N vs) H) :
  ZQk P w K mg base (k + 1) f fd ps sp:=by
 obtain ⟨oc,od,kV,doc,pm,an,cdv,ct,osl,rfl,lk,hcd⟩:=F.ex
 refine ⟨len,fun A outer s H args us vs Q E hr e0 hb r hsp=>?_⟩
 have hl:=len _ _ _ _ hsp
 have KX:K.In s.heap:=e0.mod.kin.keeps fun b o e=>(e0.bs b o e).1
 have lim:s.heap.NoLimit:=e0.mod.nolimit.keeps fun b o e=>(e0.bs b o e).1
 have hkind:∀ y∈ps.zip us,(Zj st).names.lookup y.1=some .local∨((Zj st).names.lookup y.1=some .cell∧((cellsFrom (s.heap.objs.size + 1) (Zj st).names []).lookup y.1).isSome=true):=fun ⟨n,v⟩ hy=>by
  rcases S.par n (List.of_mem_zip hy).1 with q | q
  ·exact .inl q
  ·exact .inr ⟨q,PySem.W.cellsFrom_some _ _ _ (.inl q)⟩
 refine codeAny_call_function hr.depth (KX _ _ lk) rfl S.co S.gen rfl (PySem.W.codeRec_of KX hcd) (hb _ _ _ _ ?_)
 refine wpAny_newFunctionEnv_cells S.kind hkind fun env he s1 x=>?_
 subst he
 refine ⟨lim.keeps x.toInCall.keep,codeAny_func ?_⟩
 obtain ⟨t,ht,hq⟩:=hbody cdv A outer s H vs Q E (hr.deeper _) hsp
 unfold PSs at ht
 have I0:Inv (cxOf CX0 P w K mg base N qual (Zj st) f cdv (cool A) outer s H E) [] (ZN N vs) H s1:=ZDz (A:=cool A) S rfl ⟨e0.frames,e0.mod,e0.bs,e0.bsz,e0.funs,e0.frf,e0.hok,e0.bare⟩ hl r x
 have I:Inv ((cxOf CX0 P w K mg base N qual (Zj st) f cdv (cool A) outer s H E).hot (A.deeper (envOfC qual (Zj st) s.heap.objs.size f cdv))).nox [] (ZN N vs) H s1:=(I0.hot (A:=A.deeper (envOfC qual (Zj st) s.heap.objs.size f cdv)) rfl).wish _
 refine wpAny_mono (ht [] s1 (ZN N vs) H _ I hq) (fun fl s' hs=>?_) fun e s' hs=>hs.elim
 have fin:∀ {σ':St} {H':Hp} {v:V} {u:Value},Inv ((cxOf CX0 P w K mg base N qual (Zj st) f cdv (cool A) outer s H E).hot (A.deeper (envOfC qual (Zj st) s.heap.objs.size f cdv))).nox [] σ' H' s'→RelV v u→Q v H'→CE outer P w H s Q u s':=
  fun {σ' H' v u} J rv q=>⟨v,H',J.os,J.bare,J.base,J.hok,rv,q⟩
 cases fl with
 | ret u=>
  obtain ⟨v,σ',H',J,rv,q⟩:=hs
  exact fin J rv q
 | next=>
  obtain ⟨σ',H',J,q⟩:=hs
  exact fin (v:=V.non) (u:=Value.none) J rfl q
 | brk=>
  obtain ⟨_,_,_,q⟩:=hs
  exact False.elim q
 | cont=>
  obtain ⟨_,_,_,q⟩:=hs
  exact False.elim q
end
theorem Fun.okE {P:Program} {w:World} {K:PySem.W.Frag} {mg:Str→Option Value} {base:Heap} {x qual:Str} {st:Stmt} {f:Addr} {fd:FuncData} {N ps:List Str} {k:Nat} {sp:Sp} (F:Fun K x qual st f fd) (S:Zo N ps (Zj st)) (len:∀ vs H Q E,sp vs H Q E→vs.length=ps.length)
  (hbody:∀ (cdv:Value) (A:Around) (outer:List Env) (s:Shared) (H:Hp) (vs:List V) (Q:VK) (E:XK),Room k (A.deeper (envOfC qual (Zj st) s.heap.objs.size f cdv))→sp vs H Q E→
   ∃ t,PSs (cxOf (CXE P w) P w K mg base N qual (Zj st) f cdv A outer s H E) (Ziz st) t∧t {nx:=fun _ H'=>Q .non H',rt:=Q} (ZN N vs) H):FnOk P w K mg base (CXE P w) (k + 1) f fd ps sp:=by
 obtain ⟨oc,od,kV,doc,pm,an,cdv,ct,osl,rfl,lk,hcd⟩:=F.ex
 exact ZRq lk hcd S len fun A outer s H vs Q E hr hsp=>hbody cdv A outer s H vs Q E hr hsp
section
variable {X:Cx} {k:Nat} {f:Addr} {fd:FuncData} {ps:List Str} {sp:Sp} {x:Str} {p pos:Pos} {e:Expr} {es:List Expr} {t:TA}
theorem ZNn (F:ZQk X.prog X.w X.K X.mg X.base k f fd ps sp) (hr:ZBj k X.A) (hg:Gl X x) (hm:X.mg x=some (.ref f)) (hk:PySem.W.keepIn X.K (.ref f)=true) (hb:ZO X.K fd ps [])
  (ha:PA X (e::es) t) (hdb:(x == ("__debug__":Str))=false:=by decide) (he:starEach (e::es) X.env=(false,eval e X.env)::starEach es X.env:=by rfl) (hpl:(backTo pos (starEach es X.env)).any (·.1)=false:=by rfl) :
  PE X (.Call (.Name x p) (e::es) [] pos) (ZO4 sp [] (fun _=>E0) t):=by
 try unfold PE at *;try unfold PA at *
 intro pins s σ H Q I h
 refine wpAny_Call_Name_kw (ZlB I hg hm ?_ hdb)
 refine PySem.W.callWith_K (h₀:=X.base) I.ok.mod.kin hk (thn (ha pos pins s σ H _ I h) fun us s1 ⟨vs,H1,I1,r,q⟩=>⟨I1.kIn,?_⟩) he hpl
 have r2:Vals (vs++[]) (us++[]):=r.append .nil
 have hl:(us++[]).length=ps.length:=by rw [← r2.length];exact F.len _ _ _ _ q
 refine wpAny_call (codeAny_mono (F.run X.A X.stack s1 H1 ⟨us,[]⟩ (us++[]) (vs++[]) Q E0 hr I1.env0 (hb s1 us I1.kIn hl) r2 q) fun r s' hq=>?_)
 cases r with
 | error e=>exact hq.elim
 | ok fl=>
  cases fl with
  | ret u=>exact I1.after hq
  | next=>exact False.elim hq
  | brk=>exact False.elim hq
  | cont=>exact False.elim hq
end
end L2
namespace L2
open PySem PySem.Spec PyProof.Rows PySem.W
mutual
inductive Im (H:Hp):V→PyData→Prop
 | non:Im H .non .none
 | bl (b:Bool):Im H (.bl b) (.bool b)
 | int (i:Int):Im H (.int i) (.int i)
 | str (x:Str):Im H (.str x) (.str x)
 | tup {a:Addr} {xs:List V} {ds:List PyData}:H a=some (.tup xs)→Ims H xs ds→Im H (.ref a) (.tuple ds)
inductive Ims (H:Hp):List V→List PyData→Prop
 | nil:Ims H [] []
 | cons {x:V} {d:PyData} {xs:List V} {ds:List PyData}:Im H x d→Ims H xs ds→Ims H (x::xs) (d::ds)
end
def ZRL (H H':Hp):Prop:=∀ a xs,H a=some (.tup xs)→H' a=some (.tup xs)
mutual
theorem Im.keep {H H':Hp} (k:ZRL H H') {x:V} {d:PyData} (h:Im H x d):Im H' x d:=by
 cases h with
 | non=>exact .non
 | bl b=>exact .bl b
 | int i=>exact .int i
 | str x=>exact .str x
 | tup e r=>exact .tup (k _ _ e) (Ims.keep k r)
theorem Ims.keep {H H':Hp} (k:ZRL H H') {xs:List V} {ds:List PyData} (h:Ims H xs ds):Ims H' xs ds:=by
 cases h with
 | nil=>exact .nil
 | cons a r=>exact .cons (Im.keep k a) (Ims.keep k r)
end
mutual
theorem Im.reads {X:Cx} {pins:List (Addr×Obj)} {σ:St} {H:Hp} {s:Shared} (I:Inv X pins σ H s) {x:V} {d:PyData} (h:Im H x d) {u:Value} (r:RelV x u):∃ as,Reads s.heap u d as:=by
 cases h with
 | non=>cases (show u=Value.none from r);exact ⟨_,.none⟩
 | bl b=>cases (show u=Value.bool b from r);exact ⟨_,.bool b⟩
 | int i=>obtain ⟨t,z⟩:=(show ∃ t,u=Value.int i t from r);cases z;exact ⟨_,.int i t⟩
 | str y=>obtain ⟨t,z⟩:=(show ∃ t,u=Value.str y t from r);cases z;exact ⟨_,.str y t⟩
 | @tup a xs ds e q=>
  cases (show u=Value.ref a from r)
  obtain ⟨_,its,rv,o,h1,h2,n,h3⟩:=(show ZaB X.prog X.w H s.heap a (.tup xs) from I.hok a _ e)
  obtain ⟨as,z⟩:=Ims.reads I q rv
  exact ⟨_,.tuple h1 h2 h3 (by simpa using z)⟩
theorem Ims.reads {X:Cx} {pins:List (Addr×Obj)} {σ:St} {H:Hp} {s:Shared} (I:Inv X pins σ H s) {xs:List V} {ds:List PyData} (h:Ims H xs ds) {us:List Value} (r:Vals xs us):∃ as,ReadsAll s.heap us ds as:=by
 cases h with
 | nil=>cases r;exact ⟨_,.nil⟩
 | cons a q=>
  cases r with
  | cons r1 r2=>
   obtain ⟨as,z1⟩:=Im.reads I a r1
   obtain ⟨bs,z2⟩:=Ims.reads I q r2
   exact ⟨_,.cons z1 z2⟩
end
def Dat (K:Frag) (H:Hp) (x:V) (d:PyData):Prop:=Im H x d∨∃ p xs ds,x=.ref p∧d=.list ds∧SqL K H p xs∧Ims H xs ds
theorem Dat.reads {X:Cx} {pins:List (Addr×Obj)} {σ:St} {H:Hp} {s:Shared} (I:Inv X pins σ H s) {x:V} {d:PyData} (h:Dat X.K H x d) {u:Value} (r:RelV x u):∃ as,Reads s.heap u d as:=by
 rcases h with h | ⟨p,xs,ds,rfl,rfl,hp,hi⟩
 ·exact h.reads I r
 ·cases (show u=Value.ref p from r)
  obtain ⟨its,rv,⟨o,n,e,h1,_,h3⟩,_⟩:=I.list hp
  obtain ⟨as,z⟩:=hi.reads I rv
  exact ⟨_,.list e h1 h3 (by simpa using z)⟩
section
variable {X:Cx}
end
theorem ZdH {d:PyData} (h:SeqAt.shaped d=true):PyData.eqv d d=true:=SeqAt.eqv_refl d (SeqAt.canLay_of_shaped h)
theorem ZPv:OpR X (binaryOp .Mult) (rI (fun i j=>i.natAbs < 2 ^ 200∧j.natAbs < 2 ^ 200) fun i j=>.int (i * j)):=opI fun i j _ _ _ _ _ hc q=>
 mul_int q (IntMulOk.of_bits (Nat.le_trans (intBits_le hc.1) (by decide)) (Nat.le_trans (intBits_le hc.2) (by decide)))
theorem Zdg:fillsNumberSlot (.type "tuple") "mul"=pure false:=
 PySem.fillsNumberSlot_seq (id:="tuple.__mul__") (r:=some (.builtin "tuple.__rmul__")) F.slot_tuple_mul.lookup (by decide +kernel) F.slot_tuple_rmul.lookup (by decide +kernel)
theorem ZhL:seqRepeat? (.type "tuple")=pure (some (.builtin "tuple.__mul__")):=by
 unfold seqRepeat?
 rw [PySem.seqSlot_of (T:="tuple") (name:="__mul__") (id:="tuple.__mul__") F.slot_tuple_mul.lookup (by decide +kernel),PySem.seqSlot_of (T:="tuple") (name:="__rmul__") (id:="tuple.__rmul__") F.slot_tuple_rmul.lookup (by decide +kernel)]
 rfl
theorem Ze3 (a:Int) (t:Tok) (l:Addr) (items:Array Value) (n:Nat) (dd:Option Addr) (sl:Array (Option Value)) :
  Meets (Builtin.«int.__rmul__» ⟨[.int a t,.ref l],[]⟩) (fun _ R s=>s.heap.get? l=some {cls:=.type "tuple",dict:=dd,data:=.seq items n,slots:=sl}∧R (.ok (.ret Value.notImplemented)) s):=
 .of_wp fun prog w A R s h=>by obtain ⟨hp,g,d,tk,os⟩:=s;obtain ⟨hl,h⟩:=h;wp_walk;exact ⟨_,rfl,h⟩
end L2
namespace L2
open PySem PySem.Spec PyProof.Rows PySem.W
theorem ZKl (l:Addr) (items:Array Value) (n:Nat) (dd:Option Addr) (sl:Array (Option Value)) (k:Int) (u:Tok) (hne:items.isEmpty=false) (h1:1 < k) (h2:k < 2 ^ 63) (hsz:items.size * k.toNat≤sizeLine) :
  Meets (Builtin.«tuple.__mul__» ⟨[.ref l,.int k u],[]⟩) (fun _ R s=>s.heap.get? l=some {cls:=.type "tuple",dict:=dd,data:=.seq items n,slots:=sl}∧
   R (.ok (.ret (.ref s.heap.objs.size))) {s with heap:=s.heap.push {cls:=.type "tuple",data:=.seq ((List.replicate k.toNat items).foldl (fun x1 x2=>x1++x2) #[])}}):=
 .of_wp fun prog w A R s h=>by
  obtain ⟨hp,g,d,tk,os⟩:=s;obtain ⟨hl,h⟩:=h
  have hmul:(items.size:Int) * k=((items.size * k.toNat:Nat):Int):=by
   rw [Int.natCast_mul,Int.toNat_of_nonneg (by omega)]
  have hL:(sizeLine:Nat)≤2 ^ 40:=by decide
  have hc0:¬(decide (k < -2 ^ 63) || decide (k ≥ 2 ^ 63))=true:=by
   rw [Bool.or_eq_true,decide_eq_true_eq,decide_eq_true_eq];omega
  have hc1:¬(items.isEmpty || k == 1)=true:=by
   rw [hne,Bool.false_or,beq_iff_eq];omega
  have hc2:¬(decide (k≤0) || items.isEmpty)=true:=by
   rw [hne,Bool.or_false,decide_eq_true_eq];omega
  have hc3:¬((items.size:Int) * k > (2 ^ 63 - 1) / 8):=by
   rw [hmul]
   have:(2 ^ 63 - 1:Int) / 8=1152921504606846975:=by decide
   rw [this]
   have:(2:Nat) ^ 40=1099511627776:=by decide
   omega
  have hc4:¬Builtin.Tuple.tupleTooMany ((items.size:Int) * k)=true:=by
   rw [hmul]
   unfold Builtin.Tuple.tupleTooMany
   rw [decide_eq_true_eq];omega
  wp_walk
  rw [if_neg hc0]
  wp_walk
  rw [if_neg hc1]
  wp_walk
  rw [if_neg hc2]
  wp_walk
  rw [if_neg hc3]
  wp_walk
  rw [if_neg hc4]
  have hc5:¬((List.foldl (fun x1 x2=>x1++x2) #[] (List.replicate k.toNat items)).size > sizeLine):=by
   have e:=Zn8 items.toList k.toNat []
   rw [List.nil_append] at e
   have e':List.foldl (fun x1 x2=>x1++x2) #[] (List.replicate k.toNat items)=(List.replicate k.toNat items.toList).flatten.toArray:=e
   rw [e',List.size_toArray,ZGF,Array.length_toList,Nat.mul_comm]
   omega
  wp_walk
  exact ⟨_,rfl,h⟩
def ZQQ:R2:=fun x y H Q=>∃ l k xs,x=.ref l∧y=.int k∧H l=some (.tup xs)∧xs≠[]∧1 < k∧k < 2 ^ 63∧xs.length * k.toNat≤sizeLine∧
 ∀ p,H p=none→Q (.ref p) (upd H p (.tup (List.replicate k.toNat xs).flatten))
section
variable {X:Cx}
theorem Inv.tnew {pins:List (Addr×Obj)} {σ:St} {H:Hp} {s:Shared} {ys:List V} {its:List Value} {t':Nat} (I:Inv X pins σ H s) (hv:Vals ys its) (hz:ys.length≤sizeLine) :
  Inv X pins σ (upd H s.heap.objs.size (.tup ys)) {s with heap:=s.heap.push {cls:=.type "tuple",data:=.seq its.toArray},toks:=t'}:=
 I.laid (fun _ _ e=>Heap.get?_push_of_some _ e) (Nat.le_refl _) ⟨hz,its,hv,_,Heap.get?_push_size _ rfl,rfl,_,rfl⟩
theorem ZLc:OpR X (binaryOp .Mult) ZQQ:=by
 intro pins s σ H x y v u Q I rx ry h
 obtain ⟨l,k,xs,rfl,rfl,hH,hne,h1,h2,hz,q⟩:=h
 cases rx
 obtain ⟨t,rfl⟩:=ry
 obtain ⟨z,its,r,o,e,hc,n,hd⟩:=(show ZaB X.prog X.w H s.heap l (.tup xs) from I.hok l _ hH)
 obtain ⟨cls,dd,data,sl⟩:=o
 dsimp only at hc hd
 subst hc hd
 have hl:xs.length=its.length:=r.length
 have hemp:its.toArray.isEmpty=false:=by
  cases its with
  | nil=>cases r;exact absurd rfl hne
  | cons _ _=>rfl
 refine wpAny_binaryOp_repeat_ref (T:="tuple") (U:="int") (by decide) ⟨_,e,rfl⟩ (fun s'=>typeIs_int s' k t) Zdg F.fills_int_mul F.slot_int_rmul ZhL F.slot_int_index.lookup
  (call_meets F.slot_int_rmul (typeIs_int s k t) F.entry_int_rmul (F.args_int_rmul_2 _ _) (Ze3 k t l its.toArray n dd sl)
   ⟨e,rfl,⟨_,e,rfl⟩,call_meets F.slot_tuple_mul ⟨_,e,rfl⟩ F.entry_tuple_mul (F.args_tuple_mul_2 _ _) (ZKl l its.toArray n dd sl k t hemp h1 h2 (by rw [List.size_toArray,← hl];exact hz)) ⟨e,?_⟩⟩)
 have hnew:(List.replicate k.toNat its.toArray).foldl (fun x1 x2=>x1++x2) #[]=(List.replicate k.toNat its).flatten.toArray:=by
  have:=Zn8 its k.toNat []
  rw [List.nil_append] at this
  exact this
 rw [hnew]
 exact ⟨.ref _,_,I.tnew (t':=s.toks) (r.rep k.toNat) (by rw [ZGF,Nat.mul_comm];exact hz),rfl,q _ I.fresh⟩
theorem Zx9 {x:V}:∀ {xs:List V} {us:List Value},Vals xs us→xs.all ZlF=true→us.countP (eqU x)=xs.countP fun y=>eqV y x
 | _,_,.nil,_=>rfl
 | _,_,.cons (a:=y) (b:=u) r t,h=>by
  rw [List.all_cons,Bool.and_eq_true] at h
  rw [List.countP_cons,List.countP_cons,Zx9 t h.2,ZH6 r h.1]
def ZQS (K:Frag):V→List V→Hp→VK→Prop:=fun x vs H Q=>∃ l xs y,x=.ref l∧vs=[y]∧SqL K H l xs∧ZlF y=true∧xs.all ZlF=true∧Q (.int (xs.countP fun z=>eqV z y:Nat)) H
theorem ZHQ:MtR X "list.count" (ZQS X.K):=by
 intro pins s σ H x xs v us Q I rx rs h
 obtain ⟨l,ys,y,rfl,rfl,hl,fy,fa,q⟩:=h
 cases rx
 obtain ⟨u,rfl,ru⟩:=rs.one
 obtain ⟨its,rv,⟨o,n,e,hc,_,hd⟩,_⟩:=I.list hl
 obtain ⟨cls,dd,data,sl⟩:=o
 dsimp only at hc hd
 subst hc hd
 refine call_meets F.slot_list_count ⟨_,e,rfl⟩ F.entry_list_count (F.args_list_count_2 _ _) (SeqAt.list_countAt l its.toArray n dd sl u (eqU y)) ⟨e,fun z hz=>Znp ru fy rv fa z (by simpa using hz),?_⟩
 refine ⟨.int _,H,I.tok _,⟨_,rfl⟩,?_⟩
 rw [Zx9 rv fa]
 exact q
def ZQR (K:Frag):V→List V→Hp→VK→Prop:=fun x vs H Q=>∃ l xs y j,x=.ref l∧vs=[y]∧SqL K H l xs∧ZlF y=true∧xs.all ZlF=true∧(∃ z,xs[j]?=some z∧eqV z y=true)∧(∀ m z,m < j→xs[m]?=some z→eqV z y=false)∧Q (.int (j:Nat)) H
theorem ZNv:MtR X "list.index" (ZQR X.K):=by
 intro pins s σ H x xs v us Q I rx rs h
 obtain ⟨l,ys,y,j,rfl,rfl,hl,fy,fa,⟨z,hz,hit⟩,hno,q⟩:=h
 cases rx
 obtain ⟨u,rfl,ru⟩:=rs.one
 obtain ⟨its,rv,⟨o,n,e,hc,_,hd⟩,hlen⟩:=I.list hl
 obtain ⟨cls,dd,data,sl⟩:=o
 dsimp only at hc hd
 subst hc hd
 have hll:=rv.length
 have hjy:j < ys.length:=(List.getElem?_eq_some_iff.mp hz).1
 have hj:j < its.toArray.size:=by rw [List.size_toArray];omega
 have allf:∀ w∈ys,ZlF w=true:=fun w hw=>List.all_eq_true.mp fa w hw
 have val:∀ m (hm:m < its.toArray.size) w,ys[m]?=some w→eqU y its.toArray[m]=eqV w y:=fun m hm w hw=>by
  obtain ⟨u',hu',ru'⟩:=rv.get hw
  have:its.toArray[m]=u':=by
   have h1:its[m]?=some its.toArray[m]:=by simp
   rw [h1] at hu'
   exact Option.some.inj hu'
  rw [this]
  exact ZH6 ru' (allf w (List.mem_of_getElem? hw))
 have h63:(j:Int) < 2 ^ 63 - 1:=by
  have:(sizeLine:Nat) < 2 ^ 62:=by decide
  omega
 refine call_meets F.slot_list_index ⟨_,e,rfl⟩ F.entry_list_index (F.args_list_index_2 _ _) (SeqAt.list_indexAt l its.toArray n dd sl u (eqU y) j hj h63 (by rw [val j hj z hz];exact hit) fun m hm hmj=>?_) ⟨e,fun z hz=>Znp ru fy rv fa z (by simpa using hz),⟨.int _,H,I.tok _,⟨_,rfl⟩,q⟩⟩
 have hmy:m < ys.length:=by omega
 rw [val m hm ys[m] (List.getElem?_eq_getElem hmy)]
 exact hno m _ hmj (List.getElem?_eq_getElem hmy)
end
structure Zyt (K:Frag) (C:Addr):Prop where
 ga:findIn K (.ref C) "__getattribute__"=some (some (.builtin "BaseException.__getattribute__"))
 gh:findIn K (.ref C) "__getattr__"=some none
 cc:findIn K (.ref C) "__class__"=some (some (.builtin "object.__class__"))
 ob:mroIn K C (.type "object")=some true
 ba:mroIn K C (.type "BaseException")=some true
 cl:(clsIn K C).isSome=true
 gg:specialIn K (.builtin "object.__class__") "__get__"=some (some (.builtin "getset_descriptor.__get__"))
 tk:takesIn K (.builtin "object.__class__")=some true
section
variable {prog:Program} {w:World} {A:Around} {E:Value→Shared→Prop} {s:Shared} {K:Frag} {x C:Addr}
theorem ZJU {tp:Value} {R:Result→Shared→Prop} (X:K.In s.heap) (I:ZlV x (.ref C) s.heap) (hm:mroIn K C (.type "object")=some true)
  (h:R (.ok (.ret (.ref C))) s):codeAny (model prog w) A (.call (.builtin "getset_descriptor.__get__") ⟨[.builtin "object.__class__",.ref x,tp],[]⟩) R s:=by
 obtain ⟨hh,g,dr,t,os⟩:=s
 have L0:=Zbq (M:=model prog w) I
 have L1:=looks_mroIn (M:=model prog w) X hm
 refine codeAny_call_builtin KF.slot_gs.plain KF.entry_gs (KF.slot_gs.check _ _ _ _ _ _ _ _ KF.type_class (KF.args_gs _ _ _) ?_)
 unfold Builtin.«getset_descriptor.__get__» Builtin.Getset_descriptor.descrGet
 rw [dga_obj]
 refine wpAny_bind (wpAny_pure ?_)
 unfold Builtin.Getset_descriptor.descrGetter Builtin.Getset_descriptor.descrCheckInstance Builtin.Getset_descriptor.descrNameAndClass isInstance
 simp only [KF.owner_class]
 repeat lk
 refine ⟨Code.quiet_builtin _ (by decide +kernel),codeAny_builtin KF.entry_class ?_⟩
 unfold Builtin.«object.__class__» shownTypeOf
 repeat lk
 exact h
theorem ZRu {tk:Tok} {Q:PySem.Fin→Shared→Prop} (X:K.In s.heap) (I:ZlV x (.ref C) s.heap) (T:Zyt K C) (h:Q (.done (.ret (.ref C))) s) :
  wpAny (model prog w) A (Builtin.«object.__getattribute__» ⟨[.ref x,.str "__class__" tk],[]⟩) Q E s:=by
 obtain ⟨hh,g,d,t,os⟩:=s
 have L0:=Zbq (M:=model prog w) I
 have L3:=looks_findIn (M:=model prog w) X T.cc
 have L4:Looks (model prog w) hh (Builtin.ObjectAttr.getOf (some (.builtin "object.__class__"))) (some (.builtin "getset_descriptor.__get__")):=looks_specialIn X T.gg
 have L5:=looks_takesIn (M:=model prog w) X T.tk
 unfold Builtin.«object.__getattribute__»
 refine wpAny_bind (wpAny_pure ?_)
 dsimp only
 refine wpAny_bind (wpAny_pure ?_)
 refine wpAny_bind (L0.at ?_)
 unfold Builtin.ObjectAttr.find Builtin.ObjectAttr.dataDescriptor?
 refine wpAny_bind (wpAny_bind (L3.at (wpAny_bind (L4.at ?_))))
 dsimp only
 refine wpAny_bind (wpAny_bind (L5.at ?_))
 simp only [if_true]
 refine wpAny_pure ?_
 dsimp only
 refine wpAny_bind (wpAny_rule (wpAny_pure ?_))
 dsimp only
 unfold Builtin.ObjectAttr.bindTo
 dsimp only
 refine wpAny_bind (wpAny_holding (wpAny_call (ZJU (s:=⟨hh,g,d,t,os⟩) X I T.ob ?_)))
 exact wpAny_pure h
theorem ZL2 {M:Model} {nameV:Value} {Q:Unit→Shared→Prop} (X:K.In s.heap) (I:ZlV x (.ref C) s.heap) (T:Zyt K C) (hq:Q () s):wpAny M A (checkBuiltinCall "BaseException.__getattribute__" ⟨[.ref x,nameV],[]⟩) Q E s:=by
 obtain ⟨hh,g,d,t,os⟩:=s
 have hk:builtinKind "BaseException.__getattribute__"=some .slot:=by decide +kernel
 have hsplit:splitId "BaseException.__getattribute__"=some ("BaseException","__getattribute__"):=by decide +kernel
 have L0:=Zbq (M:=M) I
 have L1:Looks M hh (isInstance (.ref x) (.type "BaseException")) true:=L0.andThen (looks_mroIn X T.ba)
 have ha:=F.args_bexc_ga (.ref x) nameV
 simp only [checkBuiltinCall,hk,hsplit]
 refine wpAny_bind (L1.at ?_)
 simp only [Bool.not_true,Bool.false_eq_true,if_false]
 exact wpAny_of_eq ha hq
theorem ZL1 {Q:Option Value→Shared→Prop} (X:K.In s.heap) (I:ZlV x (.ref C) s.heap) (T:Zyt K C) (h:Q (some (.ref C)) {s with toks:=s.toks + 1}):wpAny (model prog w) A (getAttr? (.ref x) "__class__") Q E s:=by
 obtain ⟨hh,g,d,t,os⟩:=s
 have L0:=Zbq (M:=model prog w) I
 have L1:=looks_findIn (M:=model prog w) X T.ga
 have L2:=looks_findIn (M:=model prog w) X T.gh
 have hx2:(Value.builtin "BaseException.__getattribute__" == Value.builtin "object.__getattribute__")=false:=by decide +kernel
 have f3:=F.excAttr_ValueError.ga.bind (.ref x)
 unfold getAttr? getAttrBy? getAttrBy
 refine wpAny_bind (wpAny_mkText (wpAny_bind (wpAny_attempt (wpAny_holding (wpAny_bind (L0.at (wpAny_bind (L1.at ?_))))))))
 simp only [hx2,Bool.and_false,Bool.false_eq_true,if_false]
 unfold getAttrByItsOwn hookBefore
 simp only [onTheHeap,if_true]
 refine wpAny_bind (L2.at ?_)
 refine wpAny_bind (wpAny_attempt (wpAny_holding ?_))
 unfold callGetattribute boundAndCalled
 simp only [Bool.false_and,Bool.false_eq_true,if_false]
 rw [f3]
 refine wpAny_bind (wpAny_pure ?_)
 dsimp only
 refine wpAny_call (codeAny_call_builtin F.excAttr_ValueError.ga.plain F.entry_bexc_ga (ZL2 (s:=⟨hh,g,d,t + 1,os⟩) X I T ?_))
 refine ZRu (s:=⟨hh,g,d,t + 1,os⟩) X I T ?_
 exact wpAny_pure (wpAny_pure h)
end
end L2
namespace L2
open PySem PySem.Spec PyProof.Rows PySem.W
section
variable {prog:Program} {w:World} {A:Around} {E:Value→Shared→Prop} {s:Shared} {K:Frag} {x C:Addr}
theorem ZOD (K:Frag) (C a:Addr) (T:Zyt K C):KitX K (.ref a) (.ref C) (ZlV a (.ref C)) where
 ty:=fun _ _ _ p=>Zbq p
 it:=fun _ _ X _=>Zrq X T.cl
 ne:=fun h tp dd its n sl X htp=>by
  refine Bool.eq_false_iff.mpr fun q=>?_
  have e:C=tp:=Value.ref.inj (beq_iff_eq.mp q)
  subst e
  have hcD:=T.cl
  unfold clsIn at hcD
  split at hcD
  ·rename_i c' d' cd' sl' ho
   have z:=(X _ _ ho).symm.trans htp
   cases z
  ·cases hcD
 ca:=fun X p k=>ZL1 X p T k
end
def kitV (K:Frag) (C:Addr):V→Option Bool
 | .ref d=>kitOne K (.ref C) (.ref d)
 | .ty n=>kitOne K (.ref C) (.type n)
 | _=>none
end L2
namespace L2
open PySem PySem.Spec PyProof.Rows PySem.W
def ZIn (a:Addr) (cls:Value) (t:Addr) (h:Heap):Prop:=∃ oe vs,h.get? a=some oe∧oe.cls=cls∧oe.data=.fields vs∧vs[0]?=some (.ref t)
def xobA (a:Addr) (cls:Value) (t:Addr):HO:=.ext (ZIn a cls t)
theorem ZIn.exc {a t:Addr} {cls:Value} {h:Heap} (x:ZIn a cls t h):ZlV a cls h:=by
 obtain ⟨oe,vs,e,h1,h2,_⟩:=x
 exact ⟨oe,vs,e,h1,h2⟩
def IsX (H:Hp) (a C:Addr):Prop:=H a=some (xob a (.ref C))∨∃ t,H a=some (xobA a (.ref C) t)
theorem IsX.same {H H':Hp} {a C:Addr} (h:IsX H a C) (s:Same H H'):IsX H' a C:=by
 rcases h with h | ⟨t,h⟩
 ·exact .inl (s _ _ h)
 ·exact .inr ⟨t,s _ _ h⟩
section
variable {X:Cx} {pins:List (Addr×Obj)} {σ:St} {H:Hp} {s:Shared}
theorem Inv.isX {a C:Addr} (I:Inv X pins σ H s) (h:IsX H a C):ZlV a (.ref C) s.heap:=by
 rcases h with h | ⟨t,h⟩
 ·exact I.exc h
 ·exact (show ZIn a (.ref C) t s.heap from (I.hok a _ h).1).exc
end
section
variable {prog:Program} {w:World} {A:Around} {E:Value→Shared→Prop} {s:Shared} {K:Frag} {x C t0:Addr}
end
def rIsX (K:Frag):List V→Hp→VK→Prop:=fun xs H Q=>∃ (a C:Addr) (c:V) (b:Bool),xs=[.ref a,c]∧IsX H a C∧Zyt K C∧kitV K C c=some b∧Q (.bl b) H
theorem ZOa {X:Cx}:ZfX X (.builtin "isinstance") (rIsX X.K):=by
 intro pins s σ H xs us Q I r h
 obtain ⟨a,C,c,b,rfl,ha,T,e,q⟩:=h
 obtain ⟨u,v,rfl,ru,rv⟩:=r.two
 cases (show u=Value.ref a from ru)
 have fin:∀ tk,EP X pins σ Q (.bool b) {s with toks:=tk}:=fun tk=>⟨.bl b,H,I.tok tk,rfl,q⟩
 cases c with
 | ref d=>
  cases (show v=Value.ref d from rv)
  exact kia_one (ZOD X.K C a T) I.kIn (I.isX ha) e (fun z=>nomatch z) fin
 | ty n=>
  cases (show v=Value.type n from rv)
  exact kia_one (ZOD X.K C a T) I.kIn (I.isX ha) e (fun z=>nomatch z) fin
 | non=>cases e
 | bl _=>cases e
 | int _=>cases e
 | str _=>cases e
 | byt _=>cases e
 | flt _=>cases e
theorem Zg6 {X:Cx} {a b:Expr} {ta tb:TE} {p pos:Pos} (ha:PE X a ta) (hb:PE X b tb) (hg:Gl X "isinstance") (hm:X.mg "isinstance"=none)
  (h1:starEach [a,b] X.env=(false,eval a X.env)::starEach [b] X.env:=by rfl) (h2:starEach [b] X.env=(false,eval b X.env)::starEach [] X.env:=by rfl) (hpl:(backTo pos (starEach [b] X.env)).any (·.1)=false:=by rfl) :
  PE X (.Call (.Name "isinstance" p) [a,b] [] pos) (tCB (rIsX X.K) (ZeU ta (ZeU tb tNil))):=
 ZB ZOa hg hm PyProof.Rows.Boot.«isinstance» (Za ha (Za hb Zc h2) h1) (by decide) (by decide) h1 hpl
def DatT (K:Frag) (H:Hp) (x:V) (d:PyData):Prop:=Dat K H x d∨∃ a xs ds,x=.ref a∧d=.tuple ds∧SqT K H a xs∧Ims H xs ds
theorem DatT.reads {X:Cx} {pins:List (Addr×Obj)} {σ:St} {H:Hp} {s:Shared} (I:Inv X pins σ H s) {x:V} {d:PyData} (h:DatT X.K H x d) {u:Value} (r:RelV x u):∃ as,Reads s.heap u d as:=by
 rcases h with h | ⟨p,xs,ds,rfl,rfl,hp,hi⟩
 ·exact h.reads I r
 ·cases (show u=Value.ref p from r)
  obtain ⟨its,rv,⟨o,e,h1,n,h3⟩,_⟩:=I.tuple hp
  obtain ⟨as,z⟩:=hi.reads I rv
  exact ⟨_,.tuple e h1 h3 (by simpa using z)⟩
def rEqT (K:Frag):R2:=fun x y H Q=>∃ d e,DatT K H x d∧DatT K H y e∧SeqAt.shaped d=true∧SeqAt.shaped e=true∧Q (.bl (PyData.eqv d e)) H
def rNeT (K:Frag):R2:=fun x y H Q=>∃ d e,DatT K H x d∧DatT K H y e∧SeqAt.shaped d=true∧SeqAt.shaped e=true∧Q (.bl (!PyData.eqv d e)) H
theorem ZOA {X:Cx} (hu:X.A.units + 64 < cLine):OpR X (compareOp .Eq) (rEqT X.K):=by
 intro pins s σ H x y v u Q I rx ry h
 obtain ⟨d,e,hd,he,sd,se,q⟩:=h
 obtain ⟨as,z1⟩:=hd.reads I rx
 obtain ⟨bs,z2⟩:=he.reads I ry
 exact eq_dataH z1 z2 sd se hu ⟨.bl _,H,I,rfl,q⟩
theorem Zxx {X:Cx} (hu:X.A.units + 64 < cLine):OpR X (compareOp .NotEq) (rNeT X.K):=by
 intro pins s σ H x y v u Q I rx ry h
 obtain ⟨d,e,hd,he,sd,se,q⟩:=h
 obtain ⟨as,z1⟩:=hd.reads I rx
 obtain ⟨bs,z2⟩:=he.reads I ry
 exact ne_dataH z1 z2 sd se hu ⟨.bl _,H,I,rfl,q⟩
theorem Zh4 {P:Program} {w:World} {X:Cx}:Zjc (CXE P w) X (fun _=>E0):=fun _ _ _ _ _ _ _ ⟨_,_,_,_,_,z⟩=>z.elim
theorem Zh {H:Hp} {p:Addr} {o:HO} (h:H p=none):Same H (upd H p o):=fun b u e=>by rw [Zd (Zf e h)];exact e
end L2
namespace L2
open PySem PySem.Spec PyProof.Rows
section
variable {κ:Type} [DecidableEq κ]
def valV (kvs:List (κ×V)) (k:κ):Option V:=(kvs.find? fun kv=>decide (kv.1=k)).map (·.2)
def putK (kvs:List (κ×V)) (k:κ) (v:V):List (κ×V):=
 if (kvs.any fun kv=>decide (kv.1=k))=true then kvs.map (fun kv=>if kv.1=k then (kv.1,v) else kv) else kvs++[(k,v)]
theorem Zbg {p:κ×V} {r:List (κ×V)} {k:κ} (e:p.1=k):valV (p::r) k=some p.2:=by simp [valV,List.find?_cons,e]
theorem Za2 {p:κ×V} {r:List (κ×V)} {k:κ} (e:¬ p.1=k):valV (p::r) k=valV r k:=by simp [valV,List.find?_cons,e]
theorem Zjv (k:κ):∀ kvs:List (κ×V),(kvs.any fun kv=>decide (kv.1=k))=(valV kvs k).isSome
 | []=>rfl
 | p::r=>by
  rw [List.any_cons]
  by_cases e:p.1=k
  ·simp only [Zbg e,decide_eq_true e,Bool.true_or,Option.isSome_some]
  ·rw [Za2 e,decide_eq_false e,Bool.false_or];exact Zjv k r
theorem ZHs (k j:κ) (y:V):∀ kvs:List (κ×V),valV (kvs.map fun kv=>if kv.1=k then (kv.1,y) else kv) j=(valV kvs j).map fun x=>if j=k then y else x
 | []=>rfl
 | p::r=>by
  have ih:=ZHs k j y r
  rw [List.map_cons]
  by_cases h:p.1=k
  ·rw [if_pos h]
   by_cases e:p.1=j
   ·rw [Zbg (p:=(p.1,y)) e,Zbg e,Option.map_some,if_pos (e.symm.trans h)]
   ·rw [Za2 (p:=(p.1,y)) e,Za2 e,ih]
  ·rw [if_neg h]
   by_cases e:p.1=j
   ·rw [Zbg (p:=p) e,Zbg e,Option.map_some,if_neg (fun z=>h (e.trans z))]
   ·rw [Za2 (p:=p) e,Za2 e,ih]
theorem ZBY (k j:κ) (y:V):∀ kvs:List (κ×V),valV kvs k=none→valV (kvs++[(k,y)]) j=if j=k then some y else valV kvs j
 | [],_=>by
  by_cases e:k=j
  ·rw [if_pos e.symm];exact Zbg (p:=(k,y)) e
  ·rw [if_neg (fun z=>e z.symm)];exact Za2 (p:=(k,y)) e
 | p::r,hn=>by
  rw [List.cons_append]
  have hk:¬ p.1=k:=fun z=>by rw [Zbg z] at hn;cases hn
  rw [Za2 hk] at hn
  have ih:=ZBY k j y r hn
  by_cases e:p.1=j
  ·rw [Zbg e,Zbg e,if_neg (fun z=>hk (e.trans z))]
  ·rw [Za2 e,Za2 e,ih]
theorem ZHr (kvs:List (κ×V)) (k j:κ) (y:V):valV (putK kvs k y) j=if j=k then some y else valV kvs j:=by
 unfold putK
 by_cases a:(kvs.any fun kv=>decide (kv.1=k))=true
 ·rw [if_pos a,ZHs]
  rw [Zjv] at a
  by_cases e:j=k
  ·obtain ⟨x,hx⟩:=Option.isSome_iff_exists.mp a
   rw [if_pos e,e,hx,Option.map_some,if_pos rfl]
  ·rw [if_neg e]
   cases valV kvs j with
   | none=>rfl
   | some x=>rw [Option.map_some,if_neg e]
 ·rw [if_neg a]
  refine ZBY k j y kvs ?_
  rw [Zjv] at a
  cases q:valV kvs k with
  | none=>rfl
  | some x=>rw [q] at a;exact (a rfl).elim
theorem Zf9 (kvs:List (κ×V)) (k:κ) (v:V):(putK kvs k v).length≤kvs.length + 1:=by
 unfold putK
 split
 ·rw [List.length_map];omega
 ·rw [List.length_append,List.length_cons,List.length_nil];omega
theorem RelO.isSome_eq {o:Option V} {u:Option Value} (r:RelO o u):o.isSome=u.isSome:=by
 cases o with
 | none=>cases u with
  | none=>rfl
  | some _=>exact (show False from r).elim
 | some _=>cases u with
  | none=>exact (show False from r).elim
  | some _=>rfl
theorem KV.val {kvs:List (κ×V)} {vs:List (κ×Value)} (r:KV kvs vs) (k:κ):RelO (valV kvs k) (valueAt vs k):=by
 unfold KV at r
 induction r with
 | nil=>exact True.intro
 | @cons p q ps qs h t ih=>
  obtain ⟨h1,h2⟩:=h
  by_cases e:p.1=k
  ·have e':q.1=k:=h1.symm.trans e
   have b:valueAt (q::qs) k=some q.2:=by simp [valueAt,List.find?_cons,e']
   rw [Zbg e,b];exact h2
  ·have e':¬ q.1=k:=fun z=>e (h1.trans z)
   have b:valueAt (q::qs) k=valueAt qs k:=by simp [valueAt,List.find?_cons,e']
   rw [Za2 e,b];exact ih
theorem KV.any {kvs:List (κ×V)} {vs:List (κ×Value)} (r:KV kvs vs) (k:κ):(kvs.any fun kv=>decide (kv.1=k))=vs.any fun kv=>decide (kv.1=k):=by
 unfold KV at r
 induction r with
 | nil=>rfl
 | cons h t ih=>rw [List.any_cons,List.any_cons,ih,h.1]
theorem KV.repl {kvs:List (κ×V)} {vs:List (κ×Value)} (r:KV kvs vs) (k:κ) {y:V} {u:Value} (ry:RelV y u) :
  KV (kvs.map fun kv=>if kv.1=k then (kv.1,y) else kv) (vs.map fun kv=>if kv.1=k then (kv.1,u) else kv):=by
 unfold KV at r ⊢
 induction r with
 | nil=>exact .nil
 | @cons p q ps qs h t ih=>
  rw [List.map_cons,List.map_cons]
  refine .cons ?_ ih
  obtain ⟨h1,h2⟩:=h
  by_cases e:p.1=k
  ·rw [if_pos e,if_pos (h1.symm.trans e)];exact ⟨h1,ry⟩
  ·rw [if_neg e,if_neg (fun z=>e (h1.trans z))];exact ⟨h1,h2⟩
theorem KV.put {kvs:List (κ×V)} {vs:List (κ×Value)} (r:KV kvs vs) (k:κ) {y:V} {u:Value} (ry:RelV y u):KV (putK kvs k y) (stored vs k u):=by
 unfold putK stored
 rw [r.any k]
 by_cases e:(vs.any fun kv=>decide (kv.1=k))=true
 ·rw [if_pos e,if_pos e];exact r.repl k ry
 ·rw [if_neg e,if_neg e];exact Paired.snoc r ⟨rfl,ry⟩
theorem KV.keys {kvs:List (κ×V)} {vs:List (κ×Value)} (r:KV kvs vs):kvs.map (·.1)=vs.map (·.1):=by
 unfold KV at r
 induction r with
 | nil=>rfl
 | cons h t ih=>rw [List.map_cons,List.map_cons,ih,h.1]
theorem KV.length {kvs:List (κ×V)} {vs:List (κ×Value)} (r:KV kvs vs):kvs.length=vs.length:=Paired.length r
end
theorem ZJM {P:Program} {w:World} {k:Key} {u:Value} (r:RelV (kV k) u):(Z8 P w).is k u=true:=by
 cases k with
 | inl i=>obtain ⟨t,e⟩:=(show ∃ t,u=Value.int i t from r);subst e;exact ZGv P w i t
 | inr x=>obtain ⟨t,e⟩:=(show ∃ t,u=Value.str x t from r);subst e;exact ZGu P w x t
theorem ZDy {P:Program} {w:World}:∀ {ks:List Key} {us:List Value},Vals (ks.map kV) us→ItemsAre (Z8 P w) ks us
 | [],_,r=>by rw [List.map_nil] at r;cases r;exact .nil
 | k::ks,_,r=>by
  rw [List.map_cons] at r
  cases r with
  | cons h t=>exact .cons (ZJM h) (ZDy t)
abbrev KT (H:Hp):List (List Key×V)→List (List Key×Addr×Value)→Prop:=Paired fun p q=>p.1=q.1∧H q.2.1=some (.tup (p.1.map kV))∧RelV p.2 q.2.2
theorem KT.val {H:Hp} {kvs:List (List Key×V)} {xs:List (List Key×Addr×Value)} (r:KT H kvs xs) (k:List Key):RelO (valV kvs k) ((atKey xs k).map (·.2)):=by
 induction r with
 | nil=>exact True.intro
 | @cons p q ps qs h t ih=>
  obtain ⟨h1,_,h2⟩:=h
  by_cases e:p.1=k
  ·have e':q.1=k:=h1.symm.trans e
   have b:atKey (q::qs) k=some q.2:=by simp [atKey,List.find?_cons,e']
   rw [Zbg e,b];exact h2
  ·have e':¬ q.1=k:=fun z=>e (h1.trans z)
   have b:atKey (q::qs) k=atKey qs k:=by simp [atKey,List.find?_cons,e']
   rw [Za2 e,b];exact ih
theorem KT.repl {H:Hp} {kvs:List (List Key×V)} {xs:List (List Key×Addr×Value)} (r:KT H kvs xs) (k:List Key) {y:V} {u:Value} (ry:RelV y u) :
  KT H (kvs.map fun kv=>if kv.1=k then (kv.1,y) else kv) (xs.map (putAt k u)):=by
 induction r with
 | nil=>exact .nil
 | @cons p q ps qs h t ih=>
  rw [List.map_cons,List.map_cons]
  refine .cons ?_ ih
  obtain ⟨h1,h2,h3⟩:=h
  unfold putAt
  by_cases e:p.1=k
  ·rw [if_pos e,if_pos (h1.symm.trans e)];exact ⟨h1,h2,ry⟩
  ·rw [if_neg e,if_neg (fun z=>e (h1.trans z))];exact ⟨h1,h2,h3⟩
theorem KT.put {H:Hp} {kvs:List (List Key×V)} {xs:List (List Key×Addr×Value)} (r:KT H kvs xs) (k:List Key) {b:Addr} {y:V} {u:Value} (hb:H b=some (.tup (k.map kV))) (ry:RelV y u) :
  KT H (putK kvs k y) (storedH xs k b u):=by
 have e:(kvs.any fun kv=>decide (kv.1=k))=(atKey xs k).isSome:=by
  rw [Zjv,(r.val k).isSome_eq,Option.isSome_map]
 unfold putK storedH
 rw [e]
 by_cases q:(atKey xs k).isSome=true
 ·rw [if_pos q,if_pos q];exact r.repl k ry
 ·rw [if_neg q,if_neg q];exact Paired.snoc r ⟨rfl,hb,ry⟩
theorem KT.keeps {H H':Hp} {kvs:List (List Key×V)} {xs:List (List Key×Addr×Value)} (r:KT H kvs xs) (ht:∀ b ys,H b=some (.tup ys)→H' b=some (.tup ys)):KT H' kvs xs:=
 Paired.mapP r fun _ _ z=>⟨z.1,ht _ _ z.2.1,z.2.2⟩
section
variable {P:Program} {w:World} {H:Hp} {h:Heap} {a:Addr}
theorem ZPk {u:HO} (ok:HOk P w H h) (e:Rd H a u):ZaB P w H h a u:=e.ok ok
theorem Zvn {kvs:List (Key×V)} (ok:HOk P w H h) (e:Rd H a (.dK kvs)):kvs.length≤sizeLine∧(a == sysModules)=false∧∃ vs,KV kvs vs∧h.DictOf (Z8 P w) a vs:=
 show ZaB P w H h a (.dK kvs) from ZPk ok e
theorem ZP7 {kvs:List (Key×V)} (ok:HOk P w H h) (e:H a=some (.dK kvs)):kvs.length≤sizeLine∧(a == sysModules)=false∧∃ vs,KV kvs vs∧h.DictOf (Z8 P w) a vs:=Zvn ok (.inl e)
theorem ZDo {ks:List Key} (ok:HOk P w H h) (e:H a=some (.tup (ks.map kV))):(tupleKind (Z8 P w)).is h ks a:=by
 obtain ⟨_,its,r,o,h1,h2,n,h3⟩:=(show ZaB P w H h a (.tup (ks.map kV)) from ok a _ e)
 exact ⟨o,its.toArray,n,h1,h2,h3,by simpa using ZDy r⟩
theorem ZL7 {kvs:List (List Key×V)} (ok:HOk P w H h) (e:Rd H a (.dT kvs)):kvs.length≤sizeLine∧(a == sysModules)=false∧
  ∃ xs,KT H kvs xs∧h.DictOfH (tupleKind (Z8 P w)) a xs:=by
 obtain ⟨z,y,xs,r,o,es,ep,h1,h2,h3,h4,h5⟩:=(show ZaB P w H h a (.dT kvs) from ZPk ok e)
 refine ⟨z,y,xs,r,o,es,ep,h1,h2,h3,h4,fun x hx=>?_,h5⟩
 have all:∀ {l:List (List Key×V)} {m:List (List Key×Addr×Value)},KT H l m→∀ x∈m,(tupleKind (Z8 P w)).is h x.1 x.2.1:=by
  intro l m q
  induction q with
  | nil=>intro x hx;exact nomatch hx
  | @cons p q ps qs hq t ih=>
   intro x hx
   rcases List.mem_cons.mp hx with e | hx
   ·subst e
    exact ZDo ok (by rw [← hq.1];exact hq.2.1)
   ·exact ih x hx
 exact all r x hx
theorem ZSd {kvs:List (List Key×V)} (ok:HOk P w H h) (e:H a=some (.dT kvs)):kvs.length≤sizeLine∧(a == sysModules)=false∧
  ∃ xs,KT H kvs xs∧h.DictOfH (tupleKind (Z8 P w)) a xs:=ZL7 ok (.inl e)
end
def DGet (H:Hp) (a:Addr) (y:V) (r:Option V):Prop:=
 (∃ kvs k,Rd H a (.dK kvs)∧y=kV k∧r=valV kvs k)∨∃ kvs k b,Rd H a (.dT kvs)∧y=.ref b∧H b=some (.tup (k.map kV))∧r=valV kvs k
def DPut (H:Hp) (a:Addr) (y v:V) (H':Hp):Prop:=
 (∃ kvs k,H a=some (.dK kvs)∧y=kV k∧kvs.length < sizeLine∧H'=upd H a (.dK (putK kvs k v)))∨
 ∃ kvs k b,H a=some (.dT kvs)∧y=.ref b∧H b=some (.tup (k.map kV))∧kvs.length < sizeLine∧H'=upd H a (.dT (putK kvs k v))
theorem DGet.k {H:Hp} {a:Addr} {kvs:List (Key×V)} {k:Key} (e:H a=some (.dK kvs)):DGet H a (kV k) (valV kvs k):=.inl ⟨kvs,k,.inl e,rfl,rfl⟩
theorem DGet.t {H:Hp} {a b:Addr} {kvs:List (List Key×V)} {k:List Key} (e:H a=some (.dT kvs)) (eb:H b=some (.tup (k.map kV))):DGet H a (.ref b) (valV kvs k):=.inr ⟨kvs,k,b,.inl e,rfl,eb,rfl⟩
theorem DPut.k {H:Hp} {a:Addr} {kvs:List (Key×V)} {k:Key} {v:V} (e:H a=some (.dK kvs)) (hl:kvs.length < sizeLine):DPut H a (kV k) v (upd H a (.dK (putK kvs k v))):=.inl ⟨kvs,k,e,rfl,hl,rfl⟩
theorem DPut.t {H:Hp} {a b:Addr} {kvs:List (List Key×V)} {k:List Key} {v:V} (e:H a=some (.dT kvs)) (eb:H b=some (.tup (k.map kV))) (hl:kvs.length < sizeLine) :
  DPut H a (.ref b) v (upd H a (.dT (putK kvs k v))):=.inr ⟨kvs,k,b,e,rfl,eb,hl,rfl⟩
section
variable {X:Cx} {pins:List (Addr×Obj)} {σ:St} {H:Hp} {s:Shared} {a:Addr} {y v:V} {u r:Value} {o:Option V} {A:Around} {E:Value→Shared→Prop}
theorem Inv.big (I:Inv X pins σ H s):sysModules < s.heap.objs.size:=by
 have h:mainGlobals < s.heap.objs.size:=(I.mod.glob.keeps I.bk).lt
 exact Nat.lt_trans (by decide) h
theorem ZMh {Q:Value→Shared→Prop} (hu:A.units + 1 < cLine) (I:Inv X pins σ H s) (g:DGet H a y (some v)) (ry:RelV y u) (h:∀ w' s',Inv X pins σ H s'→RelV v w'→Q w' s') :
  wpAny (model X.prog X.w) A (getItem (.ref a) u) Q E s:=by
 rcases g with ⟨kvs,k,e,ey,l⟩ | ⟨kvs,k,b,e,ey,eb,l⟩
 ·subst ey
  obtain ⟨z,hd,vs,rel,dd⟩:=Zvn I.hok e
  obtain ⟨w',hw,rw'⟩:=RelO.some_of (v:=v) (o:=valueAt vs k) (by rw [l];exact rel.val k)
  exact wpAny_getItem_of (ZJM ry) dd.mapOf hw (h w' _ (I.tok _) rw')
 ·subst ey
  cases (show u=Value.ref b from ry)
  obtain ⟨z,hd,xs,rel,dd⟩:=ZL7 I.hok e
  obtain ⟨w',hw,rw'⟩:=RelO.some_of (v:=v) (o:=(atKey xs k).map (·.2)) (by rw [l];exact rel.val k)
  obtain ⟨p,hp,hp2⟩:=Option.map_eq_some_iff.mp hw
  refine wpAny_getItem_heap (tupleKind_room_in1 hu) (ZDo I.hok eb) dd hp ?_
  rw [hp2]
  exact h w' _ (I.tok _) rw'
theorem d_in {Q:Value→Shared→Prop} (hu:A.units + 1 < cLine) (I:Inv X pins σ H s) (g:DGet H a y o) (ry:RelV y u) (h:∀ s',Inv X pins σ H s'→Q (.bool o.isSome) s') :
  wpAny (model X.prog X.w) A (compareOp .In u (.ref a)) Q E s:=by
 rcases g with ⟨kvs,k,e,ey,l⟩ | ⟨kvs,k,b,e,ey,eb,l⟩
 ·subst ey
  obtain ⟨z,hd,vs,rel,dd⟩:=Zvn I.hok e
  refine wpAny_in_of (ZJM ry) hd dd.mapOf ?_
  rw [← (rel.val k).isSome_eq,← l]
  exact h _ (I.tok _)
 ·subst ey
  cases (show u=Value.ref b from ry)
  obtain ⟨z,hd,xs,rel,dd⟩:=ZL7 I.hok e
  refine wpAny_in_heap (tupleKind_room_in1 hu) (ZDo I.hok eb) hd dd ?_
  have q:=(rel.val k).isSome_eq
  rw [Option.isSome_map] at q
  rw [← q,← l]
  exact h _ (I.tok _)
theorem ZP9 {Q:Value→Shared→Prop} (hu:A.units + 1 < cLine) (I:Inv X pins σ H s) (g:DGet H a y o) (ry:RelV y u) (h:∀ s',Inv X pins σ H s'→Q (.bool (!o.isSome)) s') :
  wpAny (model X.prog X.w) A (compareOp .NotIn u (.ref a)) Q E s:=by
 rcases g with ⟨kvs,k,e,ey,l⟩ | ⟨kvs,k,b,e,ey,eb,l⟩
 ·subst ey
  obtain ⟨z,hd,vs,rel,dd⟩:=Zvn I.hok e
  refine wpAny_notIn_of (ZJM ry) hd dd.mapOf ?_
  rw [← (rel.val k).isSome_eq,← l]
  exact h _ (I.tok _)
 ·subst ey
  cases (show u=Value.ref b from ry)
  obtain ⟨z,hd,xs,rel,dd⟩:=ZL7 I.hok e
  refine wpAny_notIn_heap (tupleKind_room_in1 hu) (ZDo I.hok eb) hd dd ?_
  have q:=(rel.val k).isSome_eq
  rw [Option.isSome_map] at q
  rw [← q,← l]
  exact h _ (I.tok _)
theorem ZAY {h':Heap} {t':Nat} {ob:HO} (I:Inv X pins σ H s) (mu:Mut (H a)) (hs:Heap.SameBut a s.heap h') (he:∃ q,h'.get? a=some q) (new:ZaB X.prog X.w (upd H a ob) h' a ob) :
  Inv X pins σ (upd H a ob) {s with heap:=h',toks:=t'}:=
 I.write (x:=a) (e:=a) mu (.inl rfl) (fun b q hb z=>(hs.2 b hb).trans z) he new
theorem ZH9 {P:Program} {w:World} {H':Hp} {h':Heap} {kvs:List (Key×V)} {vs:List (Key×Value)} (z:kvs.length≤sizeLine) (hd:(a == sysModules)=false) (rel:KV kvs vs) (dd:h'.DictOf (Z8 P w) a vs) :
  ZaB P w H' h' a (.dK kvs):=⟨z,hd,vs,rel,dd⟩
theorem ZMg {H':Hp} {Q:Unit→Shared→Prop} (hu:A.units + 1 < cLine) (I:Inv X pins σ H s) (g:DPut H a y v H') (ry:RelV y u) (rv:RelV v r) (h:∀ s',Inv X pins σ H' s'→Q () s') :
  wpAny (model X.prog X.w) A (setItem (.ref a) u r) Q E s:=by
 rcases g with ⟨kvs,k,e,ey,l,eH⟩ | ⟨kvs,k,b,e,ey,eb,l,eH⟩
 ·subst ey eH
  obtain ⟨z,hd,vs,rel,dd⟩:=ZP7 I.hok e
  have hz:vs.length≤sizeLine:=by rw [← rel.length];exact z
  have hl:(putK kvs k v).length≤sizeLine:=by have:=Zf9 kvs k v;omega
  refine wpAny_setItem_pairs (hsz:=hz) (ZJM ry) dd fun h' dd' hs=>h _ ?_
  have he:∃ q,h'.get? a=some q:=let ⟨q,_,_,hq,_⟩:=dd';⟨q,hq⟩
  exact ZAY I (by rw [e];exact True.intro) hs he (ZH9 hl hd (rel.put k rv) dd')
 ·subst ey eH
  cases (show u=Value.ref b from ry)
  obtain ⟨z,hd,xs,rel,dd⟩:=ZSd I.hok e
  have hz:xs.length≤sizeLine:=by rw [← Paired.length rel];exact z
  have hl:(putK kvs k v).length≤sizeLine:=by have:=Zf9 kvs k v;omega
  refine wpAny_setItem_heap (hsz:=hz) (tupleKind_room_in1 hu) (ZDo I.hok eb) dd fun h' dd' hs=>h _ ?_
  obtain ⟨q,es,ep,hq,h2,h3,h4,_,h5⟩:=dd'
  refine ZAY I (by rw [e];exact True.intro) hs ⟨q,hq⟩ ⟨hl,hd,_,(rel.put k eb rv).keeps fun c ys ec=>?_,q,es,ep,hq,h2,h3,h4,h5⟩
  rw [Zd (ZY ec e (fun z=>nomatch z))]
  exact ec
end
section
variable {X:Cx} {pins:List (Addr×Obj)} {σ:St} {H:Hp} {s:Shared} {a:Addr} {kvs:List (Key×V)} {k:Key} {u:Value} {A:Around} {E:Value→Shared→Prop}
theorem ZSf {Q:Value→Shared→Prop} (I:Inv X pins σ H s) (e:Rd H a (.dK kvs)) (h:∀ t s',Inv X pins σ H s'→Q (.int kvs.length t) s'):wpAny (model X.prog X.w) A (call (.builtin "len") [.ref a]) Q E s:=by
 obtain ⟨z,hd,vs,rel,dd⟩:=Zvn I.hok e
 refine call_len_dict hd dd (by rw [← rel.length];rw [sizeLine_eq] at z;omega) ?_
 rw [← rel.length]
 exact h _ _ (I.tok _)
end
def NoSl (i:Expr):Prop:=∀ ov iv,subscripted i false ov iv=operate [ov,iv] (getItem ov iv)
theorem ZO6 {prog:Program} {w:World} {A:Around} {E:Value→Shared→Prop} {s:Shared} {env:Env} {value slice:Expr} {pos:Pos} {T id:String} {Q:Value→Shared→Prop}
  (hl:typeLookup (.type T) "__getitem__"=pure (some (.builtin id))) (hs:NoSl slice)
  (h:wpAny (model prog w) A (eval value env) (fun o s₁=>wpAny (model prog w) A (eval slice env) (fun i s₂=>s₂.TypeIs o T∧wpAny (model prog w) A (getItem o i) Q E s₂) E s₁) E s) :
  wpAny (model prog w) A (eval (.Subscript value slice pos) env) Q E s:=by
 refine Subscript_ (wpAny_mono h (fun o s₁ h₁=>wpAny_mono h₁ (fun i s₂ h₂=>?_) fun _ _ x=>x) fun _ _ x=>x)
 obtain ⟨hT,h₂⟩:=h₂
 unfold subscriptTail
 refine wpAny_bind ?_
 rw [getitemInPython_of_ne hT.not_modules]
 refine wpAny_bind (wpAny_specialOf hT hl ?_)
 have fin:wpAny (model prog w) A (subscripted slice false o i) (fun r s₃=>wpAny (model prog w) A (letTemporaryGo value o r >>= fun _=>pure r) Q E s₃) E s₂:=by
  rw [hs o i]
  exact wpAny_operating (wpAny_mono h₂ (fun r s₃ h₃=>wpAny_bind (wpAny_letTemporaryGo (wpAny_pure h₃))) fun _ _ x=>x)
 first
  | exact wpAny_pure (wpAny_bind fin)
  | exact wpAny_bind (wpAny_pure (wpAny_bind fin))
  | exact wpAny_bind fin
theorem ZGR {X:Cx} {pins:List (Addr×Obj)} {σ:St} {H:Hp} {s:Shared} {a:Addr} {y:V} {o:Option V} (I:Inv X pins σ H s) (g:DGet H a y o):s.TypeIs (.ref a) "dict":=by
 rcases g with ⟨kvs,k,e,_,_⟩ | ⟨kvs,k,b,e,_,_,_⟩
 ·obtain ⟨_,_,vs,_,dd⟩:=Zvn I.hok e
  exact dd.typeIs
 ·obtain ⟨_,_,xs,_,dd⟩:=ZL7 I.hok e
  exact dd.typeIs
def ZRT (td ty:TE):TE:=fun σ H Q=>td σ H fun x H1=>ty σ H1 fun y H2=>∃ a v,x=.ref a∧DGet H2 a y (some v)∧Q v H2
def tDIn (ty td:TE):TE:=fun σ H Q=>ty σ H fun y H1=>td σ H1 fun x H2=>∃ a o,x=.ref a∧DGet H2 a y o∧Q (.bl o.isSome) H2
def ZO3 (ty td:TE):TE:=fun σ H Q=>ty σ H fun y H1=>td σ H1 fun x H2=>∃ a o,x=.ref a∧DGet H2 a y o∧Q (.bl (!o.isSome)) H2
def ZRU (td ty tv:TE):TS:=fun D σ H=>tv σ H fun v H1=>td σ H1 fun x H2=>ty σ H2 fun y H3=>∃ a H4,x=.ref a∧DPut H3 a y v H4∧D.nx σ H4
section
variable {X:Cx} {o i e value:Expr} {pos pos' tpos:Pos} {td ty tv:TE}
theorem ZbM (hu:X.A.units + 1 < cLine) (ho:PE X o td) (hi:PE X i ty) (hs:NoSl i):PE X (.Subscript o i pos) (ZRT td ty):=by
 try unfold PE at *
 intro pins s σ H Q I h
 refine ZO6 PySem.F.slot_dict_getitem.lookup hs (thn (ho pins s σ H _ I h) fun u s1 ⟨x,H1,I1,rx,q1⟩=>thn (hi pins s1 σ H1 _ I1 q1) fun iv s2 ⟨y,H2,I2,ry,a,v,ex,g,q2⟩=>?_)
 subst ex
 obtain rfl:u=Value.ref a:=rx
 exact ⟨ZGR I2 g,ZMh hu I2 g ry fun w' s3 I3 rw'=>⟨v,H2,I3,rw',q2⟩⟩
theorem Zkc (hu:X.A.units + 1 < cLine) (hi:PE X i ty) (ho:PE X o td):PC X .In i o (tDIn ty td):=by
 try unfold PE at *
 intro pins s σ H Q I h
 refine thn (hi pins s σ H _ I h) fun iv s1 ⟨y,H1,I1,ry,q1⟩=>thn (ho pins s1 σ H1 _ I1 q1) fun u s2 ⟨x,H2,I2,rx,a,ov,ex,g,q2⟩=>?_
 subst ex
 obtain rfl:u=Value.ref a:=rx
 exact d_in hu I2 g ry fun s3 I3=>⟨.bl ov.isSome,H2,I3,rfl,q2⟩
theorem Zh1 (hu:X.A.units + 1 < cLine) (hi:PE X i ty) (ho:PE X o td):PC X .NotIn i o (ZO3 ty td):=by
 try unfold PE at *
 intro pins s σ H Q I h
 refine thn (hi pins s σ H _ I h) fun iv s1 ⟨y,H1,I1,ry,q1⟩=>thn (ho pins s1 σ H1 _ I1 q1) fun u s2 ⟨x,H2,I2,rx,a,ov,ex,g,q2⟩=>?_
 subst ex
 obtain rfl:u=Value.ref a:=rx
 exact ZP9 hu I2 g ry fun s3 I3=>⟨.bl (!ov.isSome),H2,I3,rfl,q2⟩
theorem Zqb (hu:X.A.units + 1 < cLine) (ho:PE X o td) (hi:PE X i ty) (hv:PE X value tv) (hs:swapsWith value (some (.Subscript o i pos')) pos.line X.env=pure false) :
  PS X (.Assign [.Subscript o i pos'] value pos) (ZRU td ty tv):=by
 try unfold PE at *;try unfold PS at *
 intro pins s σ H D I h
 refine wpAny_Assign_Subscript (thn (hv pins s σ H _ I h) fun r s1 ⟨v,H1,I1,rv,q1⟩=>thn (ho pins s1 σ H1 _ I1 q1) fun u s2 ⟨x,H2,I2,rx,q2⟩=>thn (hi pins s2 σ H2 _ I2 q2) fun iv s3 ⟨y,H3,I3,ry,a,H4,ex,g,q3⟩=>?_) hs
 subst ex
 obtain rfl:u=Value.ref a:=rx
 exact ZMg hu I3 g ry rv fun s4 I4=>⟨σ,H4,I4,q3⟩
end
theorem ZAV {P:Program} {w:World} {H:Hp} (h:Heap) (hb:sysModules < h.objs.size):ZaB P w H (h.push {cls:=.type "dict",data:=.dict #[]}) h.objs.size (.dK []):=
 ⟨Nat.zero_le _,beq_eq_false_iff_ne.mpr (Ne.symm (Nat.ne_of_lt hb)),[],.nil,Heap.DictOf.new h⟩
theorem ZN4 {P:Program} {w:World} {H:Hp} (h:Heap) (hb:sysModules < h.objs.size):ZaB P w H (h.push {cls:=.type "dict",data:=.dict #[]}) h.objs.size (.dT []):=
 ⟨Nat.zero_le _,beq_eq_false_iff_ne.mpr (Ne.symm (Nat.ne_of_lt hb)),[],.nil,_,#[],0,Heap.get?_push_size _ rfl,⟨rfl,rfl,rfl⟩,rfl,rfl,List.nodup_nil⟩
def ZQx:TE:=fun _ H Q=>∀ p,H p=none→Q (.ref p) (upd H p (.dK []))
def ZQw:TE:=fun _ H Q=>∀ p,H p=none→Q (.ref p) (upd H p (.dT []))
section
variable {X:Cx} {pos:Pos}
theorem ZjB:PE X (.Dict [] [] pos) ZQx:=by
 try unfold PE at *
 exact fun pins s σ H Q I h=>
  wpAny_Dict_empty ⟨.ref s.heap.objs.size,_,I.laid (a:=s.heap.objs.size) (o:=.dK []) (t':=s.toks) (fun _ _ q=>Heap.get?_push_of_some _ q) (Nat.le_refl _) (ZAV s.heap I.big),rfl,h _ (I.hok.fresh (Nat.le_refl _))⟩
theorem ZHM:PE X (.Dict [] [] pos) ZQw:=by
 try unfold PE at *
 exact fun pins s σ H Q I h=>
  wpAny_Dict_empty ⟨.ref s.heap.objs.size,_,I.laid (a:=s.heap.objs.size) (o:=.dT []) (t':=s.toks) (fun _ _ q=>Heap.get?_push_of_some _ q) (Nat.le_refl _) (ZN4 s.heap I.big),rfl,h _ (I.hok.fresh (Nat.le_refl _))⟩
end
def ZHA:List (TE×TE)→St→Hp→(List (V×V)→Hp→Prop)→Prop
  | [],_,H,Q=>Q [] H
  | (tk,tv)::r,σ,H,Q=>tk σ H fun x H1=>tv σ H1 fun y H2=>ZHA r σ H2 fun ps H3=>Q ((x,y)::ps) H3
abbrev VV:List (V×V)→List (Value×Value)→Prop:=Paired fun p q=>RelV p.1 q.1∧RelV p.2 q.2
@[irreducible] def PPs (X:Cx) (pos:Pos) (keys:List (Option Expr)) (values:List Expr) (trs:List (TE×TE)):Prop:=
 ∀ (pins:List (Addr×Obj)) (s:Shared) (σ:St) (H:Hp) (Q:List (V×V)→Hp→Prop),Inv X pins σ H s→ZHA trs σ H Q→
  wpAny (model X.prog X.w) X.A (evalPairs (pairTrees keys values X.env pos)) (fun vs s'=>∃ ps H',Inv X pins σ H' s'∧VV ps vs∧Q ps H') X.xe s
theorem ZKY {X:Cx} {pos:Pos}:PPs X pos [] [] []:=by
 try unfold PPs at *
 exact fun pins s σ H Q I h=>pairTrees_nil_walk ⟨[],H,I,.nil,h⟩
theorem Zzu {X:Cx} {pos:Pos} {k v:Expr} {ks:List (Option Expr)} {vs:List Expr} {tk tv:TE} {trs:List (TE×TE)} (hk:PE X k tk) (hv:PE X v tv) (hr:PPs X pos ks vs trs) :
  PPs X pos (some k::ks) (v::vs) ((tk,tv)::trs):=by
 try unfold PE at *;try unfold PPs at *
 exact fun pins s σ H Q I h=>
  pairTrees_cons_walk (thn (hk pins s σ H _ I h) fun u s1 ⟨x,H1,I1,rx,q1⟩=>thn (hv pins s1 σ H1 _ I1 q1) fun w2 s2 ⟨y,H2,I2,ry,q2⟩=>
   thn (hr pins s2 σ H2 _ I2 q2) fun ws s3 ⟨ps,H3,I3,rel,q3⟩=>⟨(x,y)::ps,H3,I3,.cons ⟨rx,ry⟩ rel,q3⟩)
def Zno (kvs more:List (Key×V)):List (Key×V):=more.foldl (fun acc kv=>putK acc kv.1 kv.2) kvs
theorem KV.merge:∀ {more:List (Key×V)} {rs:List (Key×Value)} {kvs:List (Key×V)} {vs:List (Key×Value)},KV more rs→KV kvs vs→KV (Zno kvs more) (merged vs rs):=by
 intro more rs kvs vs r
 unfold KV at r
 induction r generalizing kvs vs with
 | nil=>intro q;exact q
 | @cons p q ps qs h t ih=>
  intro r0
  have e:KV (putK kvs p.1 p.2) (stored vs q.1 q.2):=by
   have:=r0.put p.1 h.2
   rw [← h.1];exact this
  exact ih e
theorem Zga:∀ (more kvs:List (Key×V)),(Zno kvs more).length≤kvs.length + more.length
 | [],kvs=>by show kvs.length≤kvs.length + 0;omega
 | p::r,kvs=>by
  have h1:=Zga r (putK kvs p.1 p.2)
  have h2:=Zf9 kvs p.1 p.2
  show (Zno (putK kvs p.1 p.2) r).length≤_
  rw [List.length_cons];omega
theorem ZqF {P:Program} {w:World}:∀ {kvs:List (Key×V)} {ws:List (Value×Value)},VV (kvs.map fun kv=>(kV kv.1,kv.2)) ws→∃ rs,Carries (Z8 P w) ws rs∧KV kvs rs
 | [],_,r=>by rw [List.map_nil] at r;cases r;exact ⟨[],True.intro,.nil⟩
 | p::kvs,_,r=>by
  rw [List.map_cons] at r
  cases r with
  | @cons a b as bs h t=>
   obtain ⟨rs,c,q⟩:=ZqF (P:=P) (w:=w) t
   obtain ⟨b1,b2⟩:=b
   exact ⟨(p.1,b2)::rs,⟨ZJM h.1,rfl,c⟩,.cons ⟨rfl,h.2⟩ q⟩
def ZRS (trs:List (TE×TE)):TE:=fun σ H Q=>∀ p,H p=none→ZHA trs σ (upd H p (.dK [])) fun ps H2=>H2 p=some (.dK [])∧∃ kvs:List (Key×V),ps=kvs.map (fun kv=>(kV kv.1,kv.2))∧kvs.length≤15∧Q (.ref p) (upd H2 p (.dK (Zno [] kvs)))
theorem ZPr {X:Cx} {pos:Pos} {keys:List (Option Expr)} {values:List Expr} {trs:List (TE×TE)} (h:PPs X pos keys values trs) (hall:keys.all (·.isSome)=true) (hl:keys.length=values.length) (h0:keys≠[])
  (h15:keys.length≤15):PE X (.Dict keys values pos) (ZRS trs):=by
 try unfold PE at *;try unfold PPs at *
 intro pins s σ H Q I q
 have hn:=I.hok.fresh (Nat.le_refl s.heap.objs.size)
 have I1:=I.laid (a:=s.heap.objs.size) (o:=.dK []) (h':=s.heap.push {cls:=.type "dict",data:=.dict #[]}) (t':=s.toks) (fun _ _ q=>Heap.get?_push_of_some _ q) (Nat.le_refl _) (ZAV s.heap I.big)
 refine wpAny_Dict_walk (knd:=Z8 X.prog X.w) hall hl h0 h15 (thn (h pins _ σ _ _ I1 (q _ hn)) fun ws s2 ⟨ps,H2,I2,rel,e,kvs,ep,lk,q2⟩=>?_)
 subst ep
 obtain ⟨rs,c,rk⟩:=ZqF (P:=X.prog) (w:=X.w) rel
 obtain ⟨z,hd,vs0,r0,dd⟩:=ZP7 I2.hok e
 cases r0
 refine ⟨rs,c,dd,fun h' dd' hs=>⟨.ref s.heap.objs.size,_,?_,rfl,q2⟩⟩
 have hz:(Zno [] kvs).length≤sizeLine:=by
  have h1:=Zga kvs []
  rw [List.length_nil] at h1
  rw [sizeLine_eq];omega
 have he:∃ q,h'.get? s.heap.objs.size=some q:=let ⟨q,_,_,hq,_⟩:=dd';⟨q,hq⟩
 exact ZAY I2 (by rw [e];exact True.intro) hs he (ZH9 hz hd (rk.merge .nil) dd')
section
variable {X:Cx} {pins:List (Addr×Obj)} {σ:St} {H:Hp} {s:Shared} {a:Addr} {y d:V} {u r:Value} {o:Option V} {A:Around} {E:Value→Shared→Prop}
end
section
variable {X:Cx} {o e f:Expr} {apos cpos:Pos} {td ty tx:TE}
end
section
variable {X:Cx} {pins:List (Addr×Obj)} {σ:St} {H:Hp} {s:Shared} {a:Addr} {kvs:List (Key×V)} {A:Around} {E:Value→Shared→Prop}
theorem ZN7 {Q:Value→Shared→Prop} (I:Inv X pins σ H s) (e:Rd H a (.dK kvs)) (h:∀ p s',H p=none→Inv X pins σ (upd H p (.dK kvs)) s'→Q (.ref p) s'):wpAny (model X.prog X.w) A (call (.type "dict") [.ref a]) Q E s:=by
 obtain ⟨z,hd,vs,rel,dd⟩:=Zvn I.hok e
 refine kt_call_dict hd dd (by rw [← rel.length];exact z) fun h' dd' hs=>?_
 refine h _ _ (I.hok.fresh (Nat.le_refl _)) (I.laid (a:=s.heap.objs.size) (o:=.dK kvs) (t':=s.toks) (fun b q hq=>?_) (Nat.le_refl _) (ZH9 z (beq_eq_false_iff_ne.mpr (Ne.symm (Nat.ne_of_lt I.big))) rel dd'))
 exact (hs.2 b (Nat.ne_of_lt (Heap.lt_size hq))).trans (Heap.get?_push_of_some _ hq)
end
section
variable {X:Cx} {pins:List (Addr×Obj)} {σ:St} {H:Hp} {s:Shared} {a:Addr} {y:V} {u:Value} {A:Around} {E:Value→Shared→Prop}
end
end L2
namespace L2
open PySem PySem.Spec PyProof.Rows
section
variable {X:Cx}
theorem ZEd:ZfX X (.builtin "len") (fun xs H Q=>∃ a kvs,xs=[V.ref a]∧H a=some (.dK kvs)∧Q (.int kvs.length) H):=by
 intro pins s σ H xs us Q I r h
 obtain ⟨a,kvs,rfl,ha,q⟩:=h
 obtain ⟨u,rfl,ru⟩:=ZKi r
 cases ru
 exact ZSf I (.inl ha) fun t s' I'=>⟨.int kvs.length,H,I',⟨t,rfl⟩,q⟩
end
section
variable {κ:Type} [DecidableEq κ]
end
end L2
namespace L2
open PySem PySem.Spec PyProof.Rows PySem.W
section
variable {X:Cx}
theorem ZwU:MtR X "str.startswith" (fun x vs H Q=>∃ a b,x=.str a∧vs=[.str b]∧Q (.bl (decide (0 + b.length≤a.length) && Builtin.Str.subAt a b 0)) H):=by
 intro pins s σ H x xs v us Q I rx rs h
 obtain ⟨a,b,rfl,rfl,q⟩:=h
 obtain ⟨t,rfl⟩:=rx
 obtain ⟨u,rfl,ru⟩:=rs.one
 obtain ⟨tk,rfl⟩:=ru
 exact call_gives F.slot_str_startswith (typeIs_str _ _ _) F.entry_str_startswith (F.args_str_startswith_2 _ _) (gives_str_startswith a b t tk) ⟨.bl _,H,I,rfl,q⟩
theorem ZLo:MtR X "str.index" (fun x vs H Q=>∃ a b i rest,x=.str a∧vs=[.str b]∧Builtin.Str.occurrences a b 0 a.length 1=i::rest∧Q (.int (i:Nat)) H):=by
 intro pins s σ H x xs v us Q I rx rs h
 obtain ⟨a,b,i,rest,rfl,rfl,e,q⟩:=h
 obtain ⟨t,rfl⟩:=rx
 obtain ⟨u,rfl,ru⟩:=rs.one
 obtain ⟨tk,rfl⟩:=ru
 exact call_gives F.slot_str_index (typeIs_str _ _ _) F.entry_str_index (F.args_str_index_2 _ _) (gives_str_index a b t tk i rest e) ⟨.int _,H,I.tok _,⟨_,rfl⟩,q⟩
def Zei (a b:Str):List Str:=
 if (decide (a.length < b.length) || decide (Builtin.Str.strKind a < Builtin.Str.strKind b))=true then [a]
 else if (Builtin.Str.occurrences a b 0 a.length (a.length + 1)).isEmpty=true then [a]
 else Builtin.Str.partsBetween a (Builtin.Str.occurrences a b 0 a.length (a.length + 1)) b.length
theorem Zl8:∀ (ps:List Str) (n:Nat),Vals (ps.map V.str) (strsFrom n ps)
 | [],_=>.nil
 | p::r,n=>.cons ⟨_,rfl⟩ (Zl8 r (n + 1))
theorem ZLn:MtR X "str.split" (fun x vs H Q=>∃ a b,x=.str a∧vs=[.str b]∧(b.length == 0)=false∧a.length≤sizeLine∧(Zei a b).length≤sizeLine∧∀ p,H p=none→Q (.ref p) (upd H p (.lst ((Zei a b).map V.str)))):=by
 intro pins s σ H x xs v us Q I rx rs h
 obtain ⟨a,b,rfl,rfl,hb,ha,hz,q⟩:=h
 obtain ⟨t,rfl⟩:=rx
 obtain ⟨u,rfl,ru⟩:=rs.one
 obtain ⟨tk,rfl⟩:=ru
 have one:Zei a b=[a]→EP X pins σ Q (.ref s.heap.objs.size) {s with heap:=s.heap.push {cls:=.type "list",data:=.seq [Value.str a t].toArray}}:=fun e=>by
  have qq:=q _ I.fresh
  rw [e] at qq
  exact ⟨.ref _,_,I.lnew (t':=s.toks) (ys:=[V.str a]) (its:=[Value.str a t]) (.cons ⟨t,rfl⟩ .nil) (by show 1≤sizeLine;decide),rfl,qq⟩
 cases h1:(decide (a.length < b.length) || decide (Builtin.Str.strKind a < Builtin.Str.strKind b)) with
 | true=>exact call_meets F.slot_str_split (typeIs_str _ _ _) F.entry_str_split (F.args_str_split_2 _ _) (meets_str_split_cannot_occur a b t tk h1) (one (by unfold Zei;rw [if_pos h1]))
 | false=>
  cases h2:(Builtin.Str.occurrences a b 0 a.length (a.length + 1)).isEmpty with
  | true=>exact call_meets F.slot_str_split (typeIs_str _ _ _) F.entry_str_split (F.args_str_split_2 _ _) (meets_str_split_not_found a b t tk h1 hb h2) (one (by unfold Zei;rw [if_neg (by rw [h1];exact Bool.false_ne_true),if_pos h2]))
  | false=>
   have e:Zei a b=Builtin.Str.partsBetween a (Builtin.Str.occurrences a b 0 a.length (a.length + 1)) b.length:=by
    unfold Zei;rw [if_neg (by rw [h1];exact Bool.false_ne_true),if_neg (by rw [h2];exact Bool.false_ne_true)]
   refine call_meets F.slot_str_split (typeIs_str _ _ _) F.entry_str_split (F.args_str_split_2 _ _) (meets_str_split_sep a b t tk h1 hb h2 ha (by rw [← e];exact hz)) ?_
   rw [← e]
   exact ⟨.ref _,_,I.lnew (Zl8 _ _) (by rw [List.length_map];exact hz),rfl,q _ I.fresh⟩
def cutS (x:Str) (lo hi:Option Int):Str:=
 if ((Builtin.Str.strSliceIndices lo hi 1 x.length).length == x.length)=true then x else ⟨((Builtin.Str.strSliceIndices lo hi 1 x.length).filterMap (x.cps[·]?)).toArray⟩
theorem ZLb {v:Value} {o:Option Int} (p:IsPart v o):∃ q:Option (Int×Tok),v=partValue q∧q.map (·.1)=o:=by
 cases p with
 | none=>exact ⟨none,rfl,rfl⟩
 | int i t=>exact ⟨some (i,t),rfl,rfl⟩
theorem ZQN:SlR X (fun x lo hi H Q=>∃ a,x=.str a∧(cutS a lo hi).length≤sizeLine∧Q (.str (cutS a lo hi)) H):=by
 intro pins s σ H x v vl vu lo hi sl Q I rx hs pl pu h
 obtain ⟨a,rfl,hz,q⟩:=h
 obtain ⟨t,rfl⟩:=rx
 obtain ⟨l,rfl,rfl⟩:=ZLb pl
 obtain ⟨u,rfl,rfl⟩:=ZLb pu
 refine ⟨"str",_,F.slot_str_getitem.lookup,typeIs_str _ _ _,?_⟩
 refine getItem_meets (typeIs_str s a t) (by decide) F.slot_str_getitem F.entry_str_getitem (F.args_str_getitem_2 _ _) (meets_str_getitem_slice a t sl l u none rfl) ⟨hs,?_⟩
 unfold cutS at hz q
 unfold sliceMade slicePicked
 by_cases hw:((Builtin.Str.strSliceIndices (l.map (·.1)) (u.map (·.1)) 1 a.length).length == a.length)=true
 ·rw [if_pos hw] at hz q
  rw [if_pos (by show (true && _)=true;rw [Bool.true_and];exact hw)]
  exact ⟨.str a,H,I,⟨t,rfl⟩,q⟩
 ·rw [if_neg hw] at hz q
  rw [if_neg (by show ¬ (true && _)=true;rw [Bool.true_and];exact hw)]
  exact ⟨hz,.str _,H,I.tok _,⟨_,rfl⟩,q⟩
def PJ (X:Cx) (es:List Expr) (t:Str→St→Hp→VK→Prop):Prop:=
 ∀ (acc:Str) (pins:List (Addr×Obj)) (s:Shared) (σ:St) (H:Hp) (Q:VK),Inv X pins σ H s→t acc σ H Q→wpAny (model X.prog X.w) X.A (joinParts acc (evalEach es X.env)) (EP X pins σ Q) X.xe s
theorem ZK6:PJ X [] (fun acc _ H Q=>acc.length≤sizeLine∧Q (.str acc) H):=fun acc pins s σ H Q I h=>
 joinParts_nil ⟨.str acc,H,I.tok _,⟨_,rfl⟩,h.2⟩ h.1
theorem ZK5 {y:Str} {j pos} {es:List Expr} {t:Str→St→Hp→VK→Prop} (h:PJ X es t):PJ X (.Constant (.str y) j pos::es) (fun acc σ H Q=>(acc++y).length≤sizeLine∧t (acc++y) σ H Q):=fun acc pins s σ H Q I hq=>
 joinParts_cons (Calls.Constant_str ⟨hq.1,h _ pins _ σ H Q (I.tok _) hq.2⟩)
theorem ZK4 {e:Expr} {pos} {es:List Expr} {te:TE} {t:Str→St→Hp→VK→Prop} (he:PE X e te) (h:PJ X es t):PJ X (.FormattedValue e (-1) none pos::es) (fun acc σ H Q=>te σ H fun x H1=>∃ y,x=.str y∧y.length≤sizeLine∧(acc++y).length≤sizeLine∧t (acc++y) σ H1 Q):=by
 try unfold PE at *
 exact fun acc pins s σ H Q I hq=>by
  refine joinParts_cons (FormattedValue_plain (thn (he pins s σ H _ I hq) fun u s1 ⟨x,H1,I1,rx,y,ex,hy,hz,q1⟩=>?_))
  subst ex
  obtain ⟨t,rfl⟩:=rx
  exact formatField_str (fun t' tk=>⟨hz,h _ pins _ σ H1 Q (I1.tok _) q1⟩) hy
theorem ZGf {e f:Expr} {es:List Expr} {pos:Pos} {t:Str→St→Hp→VK→Prop} (h:PJ X (e::f::es) t):PE X (.JoinedStr (e::f::es) pos) (fun σ H Q=>t Str.empty σ H Q):=by
 try unfold PE at *
 exact fun pins s σ H Q I hq=>
  JoinedStr_many (h Str.empty pins s σ H Q I hq)
theorem ZOc {bs:List Bool} {its:List Value} (r:Vals (bs.map V.bl) its) {i:Nat} {v:Value} (h:its.toArray[i]?=some v):v=.bool (bs.getD i false):=by
 have h':its[i]?=some v:=by simpa using h
 have hl:=r.length
 rw [List.length_map] at hl
 have hi:i < bs.length:=by
  have:=(List.getElem?_eq_some_iff.mp h').1
  omega
 obtain ⟨u,e,ru⟩:=r.get (i:=i) (x:=.bl (bs.getD i false)) (by rw [List.getElem?_map,List.getD_eq_getElem?_getD,List.getElem?_eq_getElem hi];rfl)
 rw [h'] at e
 cases e
 exact ru
theorem ZKT (bs:List Bool):((List.range bs.length).all fun i=>bs.getD i false)=bs.all id:=by
 rw [Bool.eq_iff_iff,List.all_eq_true,List.all_eq_true]
 constructor
 ·intro h b hb
  obtain ⟨i,hi,rfl⟩:=List.mem_iff_getElem.mp hb
  have:=h i (List.mem_range.mpr hi)
  rwa [List.getD_eq_getElem?_getD,List.getElem?_eq_getElem hi] at this
 ·intro h i hi
  have hi:=List.mem_range.mp hi
  rw [List.getD_eq_getElem?_getD,List.getElem?_eq_getElem hi]
  exact h _ (List.getElem_mem hi)
theorem ZIf (hc:X.calm=true:=by rfl):ZfX X (.builtin "all") (fun xs H Q=>∃ (p:Addr) (bs:List Bool),xs=[.ref p]∧SqL X.K H p (bs.map V.bl)∧Q (.bl (bs.all id)) H):=by
 intro pins s σ H xs us Q I r h
 obtain ⟨p,bs,rfl,hp,q⟩:=h
 obtain ⟨u,rfl,ru⟩:=r.one
 cases (show u=Value.ref p from ru)
 obtain ⟨its,rv,pl,hz⟩:=I.list hp
 have hlen:its.toArray.size=bs.length:=by rw [List.size_toArray,← rv.length,List.length_map]
 refine call_all_walk (wpAny_pyIter_list pl.isList ?_)
 have hlt:p < s.heap.objs.size:=by obtain ⟨o,ho,_⟩:=pl.isList;exact Heap.lt_size ho
 refine ⟨s.heap.objs.size,_,_,_,_,_,fun i=>bs.getD i false,rfl,Walks.list (A:=X.A.in1) (I.ok.hd hc) s.heap.objs.size p (Nat.ne_of_lt hlt) its.toArray,⟨⟨_,Heap.get?_push_size _ rfl,rfl,rfl⟩,pl.isList.at fun o e=>Heap.get?_push_of_some _ e⟩,fun i v s' Q' E' hv hQ=>?_,fun h' tk hk=>?_⟩
 ·rw [ZOc rv hv]
  exact wpAny_truthy_bool hQ
 ·rw [hlen,ZKT]
  exact ⟨.bl _,H,I.kept fun b o e=>hk b o (by intro z;rw [List.mem_singleton.mp z] at e;exact absurd (Heap.lt_size e) (Nat.lt_irrefl _)) (Heap.get?_push_of_some _ e),rfl,q⟩
theorem ZN9 (hc:X.calm=true:=by rfl):ZfX X (.builtin "sum") (fun xs H Q=>∃ (p:Addr) (ns:List Int),xs=[.ref p]∧SqL X.K H p (ns.map V.int)∧Q (.int ns.sum) H):=by
 intro pins s σ H xs us Q I r h
 obtain ⟨p,ns,rfl,hp,q⟩:=h
 obtain ⟨u,rfl,ru⟩:=r.one
 cases (show u=Value.ref p from ru)
 obtain ⟨its,rv,pl,hz⟩:=I.list hp
 have hi:IntsAre its ns:=ZxS rv
 obtain ⟨xs,e⟩:=hi.allInts.items
 have hn:=hi.numsOf
 refine sum_intListG (xs:=xs) (I.ok.hd hc) (by rw [← e];exact pl.isList) fun h' tk t' hk=>?_
 have hs:preSum (numAt xs) xs.size=ns.sum:=by
  rw [preSum_eq,List.take_of_length_le (by simp),← hn,← nums_intItems,← e]
 rw [hs]
 exact ⟨.int _,H,I.kept hk,⟨_,rfl⟩,q⟩
end
end L2
namespace L2
open PySem PySem.Spec PyProof.Rows PySem.W
def ZpD:HO→Bool
 | .dK _=>true
 | .dT _=>true
 | _=>false
def Ze8:HO→List V
 | .dK kvs=>kvs.map (·.2)
 | .dT kvs=>kvs.map (·.2)
 | _=>[]
section
variable {X:Cx} {pins:List (Addr×Obj)} {σ:St} {H:Hp} {s:Shared} {a:Addr} {o u:HO}
theorem Inv.swap (I:Inv X pins σ H s) (h:H a=some u) (new:ZaB X.prog X.w (upd H a o) s.heap a o) (h1:∀ x,u≠.own x) (h2:∀ xs,u≠.tup xs) (h3:∀ ps,u≠.tbl ps) (h4:∀ ob v,X.H₀ a≠some (.frz ob v)):Inv X pins σ (upd H a o) s:=by
 have hne:∀ b,H b=none→b≠a:=fun b n z=>by rw [z,h] at n;cases n
 refine ⟨I.ok,I.os,I.bare,⟨I.base.keep,I.base.slot,fun b ob e n hx=>?_,I.base.there,fun b xs e=>?_,fun b ob v e=>?_,fun b ps e=>?_⟩,I.loc,I.cell,?_,fun x c e=>?_,fun p z=>?_,fun b ob e=>?_,I.len⟩
 ·have z:=I.base.free b ob e n hx
  rw [Zd (hne b z)];exact z
 ·have z:=I.base.tups b xs e
  have:b≠a:=fun q=>by rw [q,h] at z;exact h2 xs (Option.some.inj z)
  rw [Zd this];exact z
 ·have:b≠a:=fun q=>h4 ob v (by rw [← q];exact e)
  rw [Zd this];exact I.base.frzs b ob v e
 ·obtain ⟨more,z⟩:=I.base.tbls b ps e
  have:b≠a:=fun q=>by rw [q,h] at z;exact h3 _ (Option.some.inj z)
  exact ⟨more,by rw [Zd this];exact z⟩
 ·rw [Zd (hne _ I.free)];exact I.free
 ·rw [Zd (hne _ (I.freeC x c e))];exact I.freeC x c e
 ·obtain ⟨z1,z2,z3⟩:=I.pin p z
  exact ⟨z1,by rw [Zd (hne _ z2)];exact z2,z3⟩
 ·by_cases hb:b=a
  ·subst hb
   rw [Zb] at e
   cases e
   exact new
  ·rw [Zd hb] at e
   refine (I.hok b ob e).stay (fun _ _ _ q=>q) (fun c q=>?_) fun c xs q=>?_
   ·rw [Zd (fun z=>by rw [z,h] at q;exact h1 _ (Option.some.inj q))];exact q
   ·rw [Zd (fun z=>by rw [z,h] at q;exact h2 _ (Option.some.inj q))];exact q
theorem Inv.freeze (I:Inv X pins σ H s) (h:H a=some u) (d:ZpD u=true):∃ ob,s.heap.get? a=some ob∧Inv X pins σ (upd H a (.frz ob u)) s:=by
 obtain ⟨ob,e⟩:=(I.hok a u h).there
 refine ⟨ob,e,I.swap h ⟨e,?_⟩ ?_ ?_ ?_ ?_⟩
 ·refine (I.hok a u h).stay (fun _ _ _ q=>q) (fun c q=>?_) fun c xs q=>?_
  ·rw [Zd (fun z=>by rw [z,h] at q;cases q;cases d)];exact q
  ·rw [Zd (fun z=>by rw [z,h] at q;cases q;cases d)];exact q
 ·rintro x rfl;cases d
 ·rintro x rfl;cases d
 ·rintro x rfl;cases d
 ·intro ob' v z
  have:=I.base.frzs a ob' v z
  rw [h] at this
  cases this
  cases d
theorem Inv.thaw {ob:Obj} (I:Inv X pins σ H s) (h:H a=some (.frz ob u)) (d:ZpD u=true) (h4:∀ ob v,X.H₀ a≠some (.frz ob v)):Inv X pins σ (upd H a u) s:=by
 refine I.swap h ?_ (fun _ z=>nomatch z) (fun _ z=>nomatch z) (fun _ z=>nomatch z) h4
 refine (I.hok a _ h).2.stay (fun _ _ _ q=>q) (fun c q=>?_) fun c xs q=>?_
 ·rw [Zd (fun z=>by rw [z,h] at q;cases q)];exact q
 ·rw [Zd (fun z=>by rw [z,h] at q;cases q)];exact q
theorem Inv.noFrz (I:Inv X pins σ H s) (h:H a=some u) (d:ZpD u=true):∀ ob v,X.H₀ a≠some (.frz ob v):=fun ob v z=>by
 have:=I.base.frzs a ob v z
 rw [h] at this
 cases this
 cases d
end
def ZRN (a:Addr) (D:Ends):Ends where
 nx:=fun σ H=>∃ ob u,H a=some (.frz ob u)∧ZpD u=true∧D.nx σ (upd H a u)
 rt:=fun v H=>∃ ob u,H a=some (.frz ob u)∧ZpD u=true∧D.rt v (upd H a u)
 bk:=fun σ H=>∃ ob u,H a=some (.frz ob u)∧ZpD u=true∧D.bk σ (upd H a u)
 ct:=fun σ H=>∃ ob u,H a=some (.frz ob u)∧ZpD u=true∧D.ct σ (upd H a u)
def ZRO (t:TS):TS:=fun D σ H=>∃ a u,H a=some u∧ZpD u=true∧t (ZRN a D) σ H
theorem ZGe {X:Cx} {st:Stmt} {t:TS} (h:PS X st t):PS X st (ZRO t):=by
 try unfold PS at *
 rintro pins s σ H D I ⟨a,u,ha,hd,q⟩
 have h4:=I.noFrz ha hd
 refine wpAny_mono (h pins s σ H _ I q) (fun f s1 z=>?_) fun _ _ z=>z
 cases f with
 | next=>obtain ⟨σ',H',I',ob,u',e,d',q'⟩:=z;exact ⟨σ',_,I'.thaw e d' h4,q'⟩
 | brk=>obtain ⟨σ',H',I',ob,u',e,d',q'⟩:=z;exact ⟨σ',_,I'.thaw e d' h4,q'⟩
 | cont=>obtain ⟨σ',H',I',ob,u',e,d',q'⟩:=z;exact ⟨σ',_,I'.thaw e d' h4,q'⟩
 | ret v=>obtain ⟨x,σ',H',I',r,ob,u',e,d',q'⟩:=z;exact ⟨x,σ',_,I'.thaw e d' h4,r,q'⟩
theorem Zxv {P:Program} {w:World}:∀ {es:List DictEntry} {vs:List (Key×Value)} {kvs:List (Key×V)},Pairs (Z8 P w) es vs→KV kvs vs→Vals (kvs.map (·.2)) (es.map (·.val))
 | _,_,_,.nil,r=>by cases r;exact .nil
 | _,_,_,.cons _ e p,r=>by
  cases r with
  | cons h t=>
   refine .cons ?_ (Zxv p t)
   have z:=h.2
   rw [← e] at z
   exact z
theorem ZLC {P:Program} {w:World} {H:Hp}:∀ {kvs:List (List Key×V)} {xs:List (List Key×Addr×Value)},KT H kvs xs→Vals (kvs.map (·.2)) ((xs.map (entryOfKey (tupleKind (Z8 P w)))).map (·.val))
 | _,_,.nil=>.nil
 | _,_,.cons h t=>.cons h.2.2 (ZLC t)
theorem ZAW {P:Program} {w:World} {H:Hp} {h:Heap} {a:Addr} {u:HO} {ob:Obj} (x:ZaB P w H h a u) (d:ZpD u=true) (e:h.get? a=some ob) :
  (a == sysModules)=false∧(Ze8 u).length≤sizeLine∧ob.ExactDict∧∃ es ep,ob.data=.dict es ep∧Vals (Ze8 u) (es.toList.map (·.val)):=by
 cases u with
 | dK kvs=>
  obtain ⟨z,y,vs,r,o,es,ep,e1,ex,dd,_,pr,_⟩:=x
  rw [e] at e1
  cases e1
  exact ⟨y,by show (kvs.map (·.2)).length≤_;rw [List.length_map];exact z,ex,es,ep,dd,Zxv pr r⟩
 | dT kvs=>
  obtain ⟨z,y,xs,r,o,es,ep,e1,ex,dd,el,_⟩:=x
  rw [e] at e1
  cases e1
  refine ⟨y,by show (kvs.map (·.2)).length≤_;rw [List.length_map];exact z,ex,es,ep,dd,?_⟩
  rw [el]
  exact ZLC r
 | _=>cases d
def ZKg (r d:Addr):HO:=.ext fun h=>h.IsValuesView r d
section
variable {X:Cx} {pins:List (Addr×Obj)} {σ:St} {H:Hp} {s:Shared}
theorem Inv.dct {a:Addr} {u:HO} (I:Inv X pins σ H s) (h:Rd H a u) (d:ZpD u=true):∃ ob,s.heap.get? a=some ob∧(a == sysModules)=false∧(Ze8 u).length≤sizeLine∧ob.ExactDict∧∃ es ep,ob.data=.dict es ep∧Vals (Ze8 u) (es.toList.map (·.val)):=by
 have ok:=h.ok I.hok
 obtain ⟨ob,e⟩:=ok.there
 exact ⟨ob,e,ZAW ok d e⟩
theorem Zql:MtR X "dict.values" (fun x vs H Q=>∃ a u,x=.ref a∧vs=[]∧Rd H a u∧ZpD u=true∧∀ p,H p=none→Q (.ref p) (upd H p (ZKg p a))):=by
 intro pins s σ H x xs v us Q I rx rs h
 obtain ⟨a,u,rfl,rfl,ha,hd,q⟩:=h
 cases (show v=Value.ref a from rx)
 have:=rs.zero
 subst this
 obtain ⟨ob,e,hs,_,ex,es,ep,dd,_⟩:=I.dct ha hd
 have hT:s.TypeIs (.ref a) "dict":=⟨ob,e,ex.1⟩
 have m:Meets (Builtin.«dict.values» ⟨[.ref a],[]⟩) (fun _ R s=>s.TypeIs (.ref a) "dict"∧R (.ok (.ret (.ref s.heap.objs.size))) {s with heap:=s.heap.push {cls:=.type "dict_values",data:=.fields #[.ref a]}}):=
  .of_wp fun P2 w2 A2 R2 s2 ⟨ty2,k2⟩=>by
   refine wpAny_bind ?_;unfold Builtin.Dict.noArgs
   refine wpAny_bind (wpAny_notOrdered_dict ty2 ?_);show wpAny _ _ (pure a) _ _ s2
   refine wpAny_pure ?_;show wpAny _ _ (Builtin.Dict.showsAll a >>= _) _ _ s2
   unfold Builtin.Dict.showsAll;rw [if_neg (by rw [hs];exact Bool.false_ne_true)]
   exact wpAny_bind (wpAny_pure (wpAny_bind (wpAny_newObj_type (wpAny_pure ⟨_,rfl,k2⟩))))
 refine call_meets F.slot_dict_values hT F.entry_dict_values (F.args_dict_values_1 _) m ⟨hT,?_⟩
 refine ⟨.ref _,upd H s.heap.objs.size (ZKg s.heap.objs.size a),I.laid (t':=s.toks) (fun b ob q=>Heap.get?_push_of_some _ q) (Nat.le_refl _) ?_,rfl,q _ I.fresh⟩
 refine ⟨⟨_,Heap.get?_push_size _ rfl,rfl,rfl⟩,⟨_,Heap.get?_push_size _ rfl⟩,fun h1 h2 ⟨o,e1,e2⟩ k=>⟨o,k o e1,e2⟩⟩
theorem ZGc {r d:Addr} {ob:Obj} {es:Array DictEntry} {ep:Nat} {Q:Value→Shared→Prop} {A:Around} {E:Value→Shared→Prop} (v:s.heap.IsValuesView r d) (e:s.heap.get? d=some ob) (dd:ob.data=.dict es ep)
  (q:Q (.ref s.heap.objs.size) {s with heap:=s.heap.push {cls:=.type "dict_valueiterator",data:=.fields #[.ref d,.int 0 0,.int es.size 0,.int ep 0]}}):wpAny (model X.prog X.w) A (pyIter (.ref r)) Q E s:=by
 have tv:=v.typeIs
 obtain ⟨oV,e1,c1,d1⟩:=v
 refine wpAny_pyIter_slot tv F.slot_dict_values_iter (wpAny_call_entry F.slot_dict_values_iter tv F.entry_dict_values_iter ?_ (F.args_dict_values_iter_1 _))
 unfold Builtin.«dict_values.__iter__» Builtin.Dict_items.dictOf Builtin.Dict_items.newIterator
 refine wpAny_bind (wpAny_pure (wpAny_bind (wpAny_bind (wpAny_field e1 d1 (x:=.ref d) rfl (wpAny_pure ?_)))))
 refine wpAny_bind (wpAny_bind (wpAny_dictEntries e dd (wpAny_bind (wpAny_dictEpoch e dd ?_))))
 rw [show Builtin.Dict_items.ownsTuple "dict_valueiterator"=false from by decide]
 simp only [Bool.false_eq_true,if_false]
 exact wpAny_newObj_type (wpAny_pure ⟨_,rfl,"dict_valueiterator",_,⟨_,Heap.get?_push_size _ rfl,rfl⟩,F.slot_dict_valueiterator_next.lookup,by simpa [rawInt] using q⟩)
theorem ZyG {it:Addr} {Q:String→Shared→Prop} {A:Around} {E:Value→Shared→Prop} (ty:s.TypeIs (.ref it) "dict_valueiterator") (q:Q "dict_valueiterator" s):wpAny (model X.prog X.w) A (typeNameOfWhole (.ref it)) Q E s:=wpAny_typeNameOfWhole_valiter ty q
theorem ZO0 {it d:Addr} {ob:Obj} {es:Array DictEntry} {ep i:Nat} {x:DictEntry} {Q:Option Value→Shared→Prop} {A:Around} {E:Value→Shared→Prop} (v:s.heap.IsValIter it d i es.size ep) (e:s.heap.get? d=some ob) (dd:ob.data=.dict es ep)
  (hx:es[i]?=some x) (q:∀ h',h'.IsValIter it d (i + 1) es.size ep→Heap.SameBut it s.heap h'→Q (some x.val) {s with heap:=h'}):wpAny (model X.prog X.w) A (pyNext (.ref it)) Q E s:=by
 have ty:=v.typeIs
 obtain ⟨oI,e1,c1,d1⟩:=v
 have hi:i < es.size:=(Array.getElem?_eq_some_iff.mp hx).1
 have up:(s.heap.update it (Obj.mapFields (·.setIfInBounds 1 (rawInt ((i:Int) + 1))))).IsValIter it d (i + 1) es.size ep:=
  ⟨_,Heap.get?_update_self _ e1 (Obj.isFreed_of_fields (Obj.data_mapFields d1 _)),(Obj.cls_mapFields ..).trans c1,by rw [Obj.data_mapFields d1];simp [rawInt]⟩
 unfold pyNext
 refine wpAny_bind (wpAny_attempt (wpAny_callSpecial?_slot (name:=Str.ofString "__next__") ty F.slot_dict_valueiterator_next (wpAny_call_entry F.slot_dict_valueiterator_next ty F.entry_dict_valueiterator_next ?_ (F.args_dict_valueiterator_next_1 _))))
 refine wpAny_bind (wpAny_pure (wpAny_bind (wpAny_bind (wpAny_bind (ZyG ty (wpAny_pure (wpAny_bind (wpAny_fieldsOf e1 d1 ?_))))))))
 rw [show Builtin.Dict_items.ownsTuple "dict_valueiterator"=false from by decide]
 simp only [Bool.false_eq_true,if_false]
 show wpAny _ _ (if (Value.ref d == Value.none)=true then _ else _) _ _ s
 rw [if_neg (show ¬ ((Value.ref d == Value.none)=true) by exact Bool.false_ne_true)]
 refine wpAny_bind (wpAny_pure (wpAny_bind (wpAny_dictEntries e dd ?_)))
 rw [if_neg (show ¬ ((((es.size:Nat):Int) != ((es.size:Nat):Int))=true) by simp)]
 refine wpAny_bind (wpAny_pure (wpAny_bind (wpAny_dictEpoch e dd ?_)))
 rw [if_neg (show ¬ ((((ep:Nat):Int) != ((ep:Nat):Int))=true) by simp)]
 refine wpAny_pure ?_
 have hxi:es[i]=x:=by rw [Array.getElem?_eq_getElem hi] at hx;exact Option.some.inj hx
 simp only [show ¬ ((i:Int) < 0) by omega,if_false,Int.toNat_natCast,Array.getElem?_eq_getElem hi]
 refine wpAny_bind (wpAny_bind (ZyG ty (wpAny_pure (wpAny_bind (wpAny_isOneOf_valiter ty ?_)))))
 show wpAny _ _ (setField (.ref it) 1 (rawInt ((i:Int) + 1)) >>= _) _ _ s
 refine wpAny_bind (wpAny_setField e1 d1 (by simp) (wpAny_bind (wpAny_holding ?_)))
 refine wpAny_bind (wpAny_isOneOf_valiter (s:={s with heap:=s.heap.update it (Obj.mapFields (·.setIfInBounds 1 (rawInt ((i:Int) + 1))))}) up.typeIs (wpAny_bind (wpAny_isOneOf_valiter (s:={s with heap:=s.heap.update it (Obj.mapFields (·.setIfInBounds 1 (rawInt ((i:Int) + 1))))}) up.typeIs ?_)))
 show wpAny _ _ (pure es[i].val) _ _ _
 rw [hxi]
 exact wpAny_pure (wpAny_pure ⟨_,rfl,wpAny_pure (q _ up (Heap.SameBut.update ..))⟩)
theorem ZQp {it d:Addr} {ob:Obj} {es:Array DictEntry} {ep i:Nat} {Q:Option Value→Shared→Prop} {A:Around} {E:Value→Shared→Prop} (hA:A.handled=none) (v:s.heap.IsValIter it d i es.size ep) (e:s.heap.get? d=some ob) (dd:ob.data=.dict es ep)
  (hx:es.size≤i) (q:∀ h',Heap.ExtBut it s.heap h'→Q none {s with heap:=h'}):wpAny (model X.prog X.w) A (pyNext (.ref it)) Q E s:=by
 have ty:=v.typeIs
 obtain ⟨oI,e1,c1,d1⟩:=v
 unfold pyNext
 refine wpAny_bind (wpAny_attempt (wpAny_callSpecial?_slot (name:=Str.ofString "__next__") ty F.slot_dict_valueiterator_next (wpAny_call_entry F.slot_dict_valueiterator_next ty F.entry_dict_valueiterator_next ?_ (F.args_dict_valueiterator_next_1 _))))
 refine wpAny_bind (wpAny_pure (wpAny_bind (wpAny_bind (wpAny_bind (ZyG ty (wpAny_pure (wpAny_bind (wpAny_fieldsOf e1 d1 ?_))))))))
 rw [show Builtin.Dict_items.ownsTuple "dict_valueiterator"=false from by decide]
 simp only [Bool.false_eq_true,if_false]
 show wpAny _ _ (if (Value.ref d == Value.none)=true then _ else _) _ _ s
 rw [if_neg (show ¬ ((Value.ref d == Value.none)=true) by exact Bool.false_ne_true)]
 refine wpAny_bind (wpAny_pure (wpAny_bind (wpAny_dictEntries e dd ?_)))
 rw [if_neg (show ¬ ((((es.size:Nat):Int) != ((es.size:Nat):Int))=true) by simp)]
 refine wpAny_bind (wpAny_pure (wpAny_bind (wpAny_dictEpoch e dd ?_)))
 rw [if_neg (show ¬ ((((ep:Nat):Int) != ((ep:Nat):Int))=true) by simp)]
 refine wpAny_pure ?_
 simp only [show ¬ ((i:Int) < 0) by omega,if_false,Int.toNat_natCast,Array.getElem?_eq_none hx]
 refine wpAny_bind (wpAny_bind (ZyG ty (wpAny_pure ?_)))
 show wpAny _ _ (setField (.ref it) 0 .none >>= _) _ _ s
 refine wpAny_bind (wpAny_setField e1 d1 (by simp) ?_)
 show wpAny _ _ (newExc (.type "StopIteration") [] >>= _) _ _ _
 refine wpAny_bind ?_;simp only [newExc,newTuple]
 refine wpAny_bind (wpAny_newObj_type (wpAny_bind (m:=firstArgMember _ _) (wpAny_of_eq (a:=Value.none) (by first | rfl | (simp only [firstArgMember];rfl)) ?_)) (by size_fits))
 refine wpAny_newObj_type ?_ (by size_fits);simp only [raiseNew]
 refine wpAny_bind (wpAny_handled ?_);rw [show A.in1.handled=none from hA]
 refine wpAny_bind (wpAny_pure (wpAny_throw ?_));refine wpAny_bind (wpAny_isInstance (T:="StopIteration") (b:=true) ⟨_,Heap.get?_push_size _ rfl,rfl⟩ isSubtype_stop ?_)
 exact wpAny_pure (q _ (((Heap.SameBut.update ..).extBut.push _).push _))
end
def Itv (d:Addr) (ob:Obj) (u:HO):It:=
 ⟨fun i H=>H d=some (.frz ob u)∧i < (Ze8 u).length,fun i H x H'=>H'=H∧(Ze8 u)[i]?=some x,fun i H=>H d=some (.frz ob u)∧(Ze8 u).length≤i⟩
theorem ZKj {P:Program} {w:World} {K:PySem.W.Frag} {tg:Expr} (d it:Addr) (ob:Obj) (u:HO) (es:Array DictEntry) (ep:Nat) (hd:ZpD u=true) (dd:ob.data=.dict es ep) :
  Turn P w K tg (Itv d ob u) [it] it (fun i h=>h.IsValIter it d i es.size ep) where
 mem:=by simp
 obj:=fun i h st b hb=>by
  have e:b=it:=by simpa using hb
  subst e
  obtain ⟨o,e,c,q⟩:=st
  exact ⟨o,e,fun v z=>by rw [q] at z;cases z⟩
 keep:=fun i h h' st k=>st.at fun o e=>k it (by simp) o e
 item:=by
  intro X hP hw hK hc i pins s σ H E I hf st hg
  subst hP hw hK
  obtain ⟨hH,hi⟩:=hg
  obtain ⟨e,ok⟩:=I.hok d _ hH
  obtain ⟨_,_,_,es',ep',dd',rv⟩:=ZAW ok hd e
  rw [dd] at dd'
  cases dd'
  have hl:(Ze8 u).length=es.size:=by rw [rv.length,List.length_map,Array.length_toList]
  obtain ⟨f0,f1,f2,f3,f4,f5⟩:=hf it (by simp)
  have hx:es[i]?=some es[i]:=Array.getElem?_eq_getElem (by omega)
  refine ZO0 st e dd hx fun h' st' sb=>?_
  have I1:Inv X pins σ H {s with heap:=h'}:=I.turned (t':=s.toks) (fun b o hb e=>(sb.2 b hb).trans e) f0 f1 f3 f4 f5
  obtain ⟨v,hv⟩:∃ v,(Ze8 u)[i]?=some v:=⟨_,List.getElem?_eq_getElem hi⟩
  obtain ⟨uv,huv,ruv⟩:=rv.get hv
  have:uv=es[i].val:=by
   rw [List.getElem?_map,Array.getElem?_toList,hx] at huv
   exact (Option.some.inj huv).symm
  subst this
  obtain ⟨o,e2,c,q⟩:=id st'
  exact ⟨_,rfl,ZNP (s:={s with heap:=h'}) e2 c q (by decide) ⟨v,H,I1,ruv,⟨rfl,hv⟩,st',fun b hb=>(hf b hb).1⟩⟩
 done:=by
  intro X hP hw hK hc i pins s σ H E I hf st hg
  subst hP hw hK
  obtain ⟨hH,hi⟩:=hg
  obtain ⟨e,ok⟩:=I.hok d _ hH
  obtain ⟨_,_,_,es',ep',dd',rv⟩:=ZAW ok hd e
  rw [dd] at dd'
  cases dd'
  have hl:(Ze8 u).length=es.size:=by rw [rv.length,List.length_map,Array.length_toList]
  obtain ⟨f0,f1,f2,f3,f4,f5⟩:=hf it (by simp)
  exact ZQp (I.ok.hd hc) st e dd (by omega) fun h' eb=>⟨rfl,I.turned (t':=s.toks) (fun b o hb e=>eb b o hb e) f0 f1 f3 f4 f5⟩
 self:=fun _ _ _ _ _ st h=>wpAny_pyIter_valiter st h
def ZR7 (tl:TE):TI:=fun σ H R=>tl σ H fun x H1=>∃ r d u,x=.ref r∧H1 r=some (ZKg r d)∧H1 d=some u∧ZpD u=true∧∀ ob,R (Itv d ob u) (upd H1 d (.frz ob u))
theorem ZK7 {X:Cx} {tg l:Expr} {tl:TE} (hl:PE X l tl):PI X tg l (ZR7 tl):=by
 try unfold PE at *
 intro pins s σ H R I h
 refine thn (hl pins s σ H _ I h) fun v s1 ⟨x,H1,I1,r1,r,d,u,ex,hr,hd,hu,q⟩=>?_
 subst ex
 cases (show v=Value.ref r from r1)
 have hv:s1.heap.IsValuesView r d:=(I1.hok r _ hr).1
 obtain ⟨ob,e,I2⟩:=I1.freeze hd hu
 obtain ⟨_,_,_,es,ep,dd,_⟩:=ZAW (I1.hok d u hd) hu e
 refine ZGc hv e dd ?_
 refine ⟨s1.heap.objs.size,[s1.heap.objs.size],_,_,_,rfl,I2.kept (t':=s1.toks) fun b o e=>Heap.get?_push_of_some _ e,ZKj d _ ob u es ep hu dd,⟨_,Heap.get?_push_size _ rfl,rfl,rfl⟩,fun b hb=>?_,q ob⟩
 have e:b=s1.heap.objs.size:=by simpa using hb
 subst e
 exact I2.fpOk (Nat.le_refl _) (I2.hok.fresh (Nat.le_refl _))
end L2
namespace L2
open PySem PySem.Spec PyProof.Rows PySem.W
def ZHi (H:Hp) (ys:List V) (Q:VK):Prop:=∀ p H',Same H H'→H' p=some (.tup ys)→Q (.ref p) H'
theorem ZHi.old {H:Hp} {ys:List V} {Q:VK} {p:Addr} (h:ZHi H ys Q) (e:H p=some (.tup ys)):Q (.ref p) H:=h p H (Same.refl _) e
theorem ZHi.new {H:Hp} {ys:List V} {Q:VK} {p:Addr} (h:ZHi H ys Q) (e:H p=none):Q (.ref p) (upd H p (.tup ys)):=h p _ (Zh e) Zb
section
variable {X:Cx}
theorem ZIH (l b:Addr) (ws:Array Value) (n n2:Nat) (dd dd2:Option Addr) (sl sl2:Array (Option Value)) :
  Meets (Builtin.«tuple.__add__» ⟨[.ref l,.ref b],[]⟩) (fun _ R s=>s.heap.get? l=some {cls:=.type "tuple",dict:=dd,data:=.seq #[] n,slots:=sl}∧s.heap.get? b=some {cls:=.type "tuple",dict:=dd2,data:=.seq ws n2,slots:=sl2}∧R (.ok (.ret (.ref b))) s):=
 .of_wp fun prog w A R s h=>by
  obtain ⟨hp,g,d,tk,os⟩:=s;obtain ⟨hl,hb,h⟩:=h;have f0:=AutoSeq1.sub_tuple_tuple
  wp_walk
  exact ⟨_,rfl,h⟩
def ZQT (K:Frag):R2:=fun x y H Q=>∃ a b xs ys,x=.ref a∧y=.ref b∧SqT K H a xs∧SqT K H b ys∧(xs=[]→H b=some (.tup ys))∧(ys=[]→xs≠[]→H a=some (.tup xs))∧xs.length + ys.length≤sizeLine∧ZHi H (xs++ys) Q
theorem Zbt:OpR X (binaryOp .Add) (ZQT X.K):=by
 intro pins s σ H x y v u Q I rx ry h
 obtain ⟨a,b,xs,ys,rfl,rfl,ha,hb,e1,e2,hz,q⟩:=h
 by_cases hx:xs=[]
 ·subst hx
  cases rx
  cases ry
  obtain ⟨its,r1,⟨o1,g1,c1,n1,d1⟩,_⟩:=I.tuple ha
  obtain ⟨its2,r2,⟨o2,g2,c2,n2,d2⟩,_⟩:=I.tuple hb
  have hn:=r1.zero
  subst hn
  obtain ⟨cls,dd,data,sl⟩:=o1
  obtain ⟨cls2,dd2,data2,sl2⟩:=o2
  dsimp only at c1 d1 c2 d2
  subst c1 d1 c2 d2
  exact concat_meets ⟨_,g1,rfl⟩ ⟨_,g2,rfl⟩ noFill_tuple_add seq_tuple_add PySem.F.slot_tuple_add PySem.F.entry_tuple_add (PySem.F.args_tuple_add_2 _ _) (ZIH a b its2.toArray n1 n2 dd dd2 sl sl2) ⟨g1,g2,.ref b,H,I,rfl,q.old (e1 rfl)⟩
 ·refine ZPw pins s σ H _ _ v u Q I rx ry ⟨a,b,xs,ys,rfl,rfl,ha,hb,hx,hz,fun z=>?_,fun z p hp=>q.new hp⟩
  have q':=q
  rw [z,List.append_nil] at q'
  exact q'.old (e2 z hx)
theorem ZJh {t sl:Addr} {items:Array Value} {vl vu:Value} {lo hi:Option Int} {Q:Value→Shared→Prop} {prog:Program} {w:World} {A:Around} {E:Value→Shared→Prop} {s:Shared} (ht:IsTup s.heap t items) (hs:s.heap.IsSliceOf sl vl vu .none) (pl:IsPart vl lo) (pu:IsPart vu hi)
  (hw:HT.sIx items.size 0 lo=0∧HT.sIx items.size items.size hi=items.size) (h:Q (.ref t) s):wpAny (model prog w) A (getItem (.ref t) (.ref sl)) Q E s:=by
 obtain ⟨oS,gS,cS,dS⟩:=id hs
 have tyS:s.TypeIs (.ref sl) "slice":=⟨oS,gS,cS⟩
 unfold getItem
 try with_reducible refine wpAny_holding ?_
 first | refine wpAny_bind (wpAny_pure ?_) | skip
 refine wpAny_bind (wpAny_sequenceKey ht.typeIs (by decide) (wpAny_bind (wpAny_callSpecial?_slot (name:=Str.ofString "__getitem__") ht.typeIs PyProof.Rows.slot_tuple_getitem (wpAny_call_entry PyProof.Rows.slot_tuple_getitem ht.typeIs entry_tuple_getitem ?_ (args_tuple_getitem _ _)))))
 show wpAny _ _ (Builtin.Tuple.tupleItemsOf (.ref t) >>= _) _ _ s
 refine wpAny_bind (tupleItemsOf_ ht (wpAny_bind (wpAny_typeOf tyS ?_)))
 rw [if_pos (by decide)]
 refine wpAny_bind (HT.sliceApplied_gen hs pl pu ?_)
 have yes:(((HT.sIx items.size 0 lo:Nat):Int) == 0 && (1:Int) == 1 && (HT.sIx items.size items.size hi - HT.sIx items.size 0 lo) == items.size)=true:=by
  rw [hw.1,hw.2]
  simp
 show wpAny _ _ (if (((HT.sIx items.size 0 lo:Nat):Int) == 0 && (1:Int) == 1 && (HT.sIx items.size items.size hi - HT.sIx items.size 0 lo) == items.size)=true then _ else _) _ _ s
 rw [if_pos yes]
 refine wpAny_bind ?_
 unfold Builtin.Tuple.tupleIsExact
 refine wpAny_bind (wpAny_typeOf ht.typeIs (wpAny_pure ?_))
 rw [if_pos (by decide)]
 refine wpAny_bind (wpAny_rule (wpAny_bind (wpAny_pure (wpAny_pure ⟨_,rfl,wpAny_pure h⟩))))
def rSlA (K:Frag):V→Option Int→Option Int→Hp→VK→Prop:=fun x lo hi H Q=>∃ a xs,x=.ref a∧H a=some (.tup xs)∧ZHi H (cutV xs lo hi) Q
theorem ZJT {xs:List V} {lo hi:Option Int} (h:HT.sIx xs.length 0 lo=0∧HT.sIx xs.length xs.length hi=xs.length):cutV xs lo hi=xs:=by
 unfold cutV
 rw [h.1,h.2,List.drop_zero,Nat.sub_zero,List.take_length]
theorem ZpM:SlR X (rSlA X.K):=by
 intro pins s σ H x v vl vu lo hi sl Q I rx hs pl pu h
 obtain ⟨a,xs,rfl,ha,q⟩:=h
 by_cases hw:HT.sIx xs.length 0 lo=0∧HT.sIx xs.length xs.length hi=xs.length
 ·cases rx
  obtain ⟨its,r,ht,hz⟩:=I.tuple (SqT.of ha)
  have hlen:its.toArray.size=xs.length:=by rw [List.size_toArray];exact r.length.symm
  refine ⟨"tuple",_,PyProof.Rows.slot_tuple_getitem.lookup,ht.typeIs,ZJh ht hs pl pu (by rw [hlen];exact hw) ⟨.ref a,H,I,rfl,?_⟩⟩
  rw [ZJT hw] at q
  exact q.old ha
 ·exact ZQM pins s σ H _ v vl vu lo hi sl Q I rx hs pl pu ⟨a,xs,rfl,SqT.of ha,hw,fun p hp=>q.new hp⟩
theorem ZIF (l:Addr) (items:Array Value) (n:Nat) (dd:Option Addr) (sl:Array (Option Value)) (u:Tok) :
  Meets (Builtin.«tuple.__mul__» ⟨[.ref l,.int 1 u],[]⟩) (fun _ R s=>s.heap.get? l=some {cls:=.type "tuple",dict:=dd,data:=.seq items n,slots:=sl}∧R (.ok (.ret (.ref l))) s):=
 .of_wp fun prog w A R s h=>by
  obtain ⟨hp,g,d,tk,os⟩:=s;obtain ⟨hl,h⟩:=h
  have hc0:¬(decide ((1:Int) < -2 ^ 63) || decide ((1:Int) ≥ 2 ^ 63))=true:=by decide
  have hc1:(items.isEmpty || (1:Int) == 1)=true:=by rw [Bool.or_eq_true];exact .inr rfl
  wp_walk
  exact ⟨_,rfl,h⟩
theorem ZIG (l:Addr) (items:Array Value) (n:Nat) (dd:Option Addr) (sl:Array (Option Value)) (k:Int) (u:Tok) (hne:items.isEmpty=false) (h1:k≤0) (h2:-(2 ^ 63)≤k) :
  Meets (Builtin.«tuple.__mul__» ⟨[.ref l,.int k u],[]⟩) (fun _ R s=>s.heap.get? l=some {cls:=.type "tuple",dict:=dd,data:=.seq items n,slots:=sl}∧R (.ok (.ret (.ref s.heap.objs.size))) {s with heap:=s.heap.push {cls:=.type "tuple",data:=.seq #[]}}):=
 .of_wp fun prog w A R s h=>by
  obtain ⟨hp,g,d,tk,os⟩:=s;obtain ⟨hl,h⟩:=h
  have hc0:¬(decide (k < -2 ^ 63) || decide (k ≥ 2 ^ 63))=true:=by
   rw [Bool.or_eq_true,decide_eq_true_eq,decide_eq_true_eq];omega
  have hc1:¬(items.isEmpty || k == 1)=true:=by
   rw [hne,Bool.false_or,beq_iff_eq];omega
  have hc2:(decide (k≤0) || items.isEmpty)=true:=by
   rw [hne,Bool.or_false,decide_eq_true_eq];exact h1
  wp_walk
  rw [if_neg hc0]
  wp_walk
  rw [if_neg hc1]
  wp_walk
  exact ⟨_,rfl,h⟩
def ZRZ:R2:=fun x y H Q=>∃ l k xs,x=.ref l∧y=.int k∧H l=some (.tup xs)∧xs≠[]∧-(2 ^ 63)≤k∧k < 2 ^ 63∧xs.length * k.toNat≤sizeLine∧ZHi H (List.replicate k.toNat xs).flatten Q
theorem Zup:OpR X (binaryOp .Mult) ZRZ:=by
 intro pins s σ H x y v u Q I rx ry h
 obtain ⟨l,k,xs,rfl,rfl,hH,hne,h1,h2,hz,q⟩:=h
 by_cases hk:1 < k
 ·exact ZLc pins s σ H _ _ v u Q I rx ry ⟨l,k,xs,rfl,rfl,hH,hne,hk,h2,hz,fun p hp=>q.new hp⟩
 ·cases rx
  obtain ⟨t,rfl⟩:=ry
  obtain ⟨z,its,r,o,e,hc,n,hd⟩:=(show ZaB X.prog X.w H s.heap l (.tup xs) from I.hok l _ hH)
  obtain ⟨cls,dd,data,sl⟩:=o
  dsimp only at hc hd
  subst hc hd
  have hemp:its.toArray.isEmpty=false:=by
   cases its with
   | nil=>cases r;exact absurd rfl hne
   | cons _ _=>rfl
  by_cases hk1:k=1
  ·subst hk1
   refine wpAny_binaryOp_repeat_ref (T:="tuple") (U:="int") (by decide) ⟨_,e,rfl⟩ (fun s'=>typeIs_int s' 1 t) Zdg F.fills_int_mul F.slot_int_rmul ZhL F.slot_int_index.lookup
    (call_meets F.slot_int_rmul (typeIs_int s 1 t) F.entry_int_rmul (F.args_int_rmul_2 _ _) (Ze3 1 t l its.toArray n dd sl)
     ⟨e,rfl,⟨_,e,rfl⟩,call_meets F.slot_tuple_mul ⟨_,e,rfl⟩ F.entry_tuple_mul (F.args_tuple_mul_2 _ _) (ZIF l its.toArray n dd sl t) ⟨e,.ref l,H,I,rfl,?_⟩⟩)
   have e1:(List.replicate (1:Int).toNat xs).flatten=xs:=by
    show (List.replicate 1 xs).flatten=xs
    simp
   rw [e1] at q
   exact q.old hH
  ·have h0:k≤0:=by omega
   refine wpAny_binaryOp_repeat_ref (T:="tuple") (U:="int") (by decide) ⟨_,e,rfl⟩ (fun s'=>typeIs_int s' k t) Zdg F.fills_int_mul F.slot_int_rmul ZhL F.slot_int_index.lookup
    (call_meets F.slot_int_rmul (typeIs_int s k t) F.entry_int_rmul (F.args_int_rmul_2 _ _) (Ze3 k t l its.toArray n dd sl)
     ⟨e,rfl,⟨_,e,rfl⟩,call_meets F.slot_tuple_mul ⟨_,e,rfl⟩ F.entry_tuple_mul (F.args_tuple_mul_2 _ _) (ZIG l its.toArray n dd sl k t hemp h0 h1) ⟨e,?_⟩⟩)
   have e0:(List.replicate k.toNat xs).flatten=[]:=by
    rw [show k.toNat=0 by omega]
    rfl
   rw [e0] at q
   exact ⟨.ref _,_,I.tnew (t':=s.toks) (ys:=[]) (its:=[]) .nil (Nat.zero_le _),rfl,q.new I.fresh⟩
end
end L2
namespace L2
open PySem PySem.Spec PyProof.Rows PySem.W
section
variable {X:Cx} {pins:List (Addr×Obj)} {σ:St} {H:Hp} {s:Shared}
theorem ZKS {P:Program} {w:World} {k:Key} {v:Value} (h:(Z8 P w).is k v=true):RelV (kV k) v:=by
 cases k with
 | inl i=>exact Value.isInt_shape h
 | inr x=>exact Value.isStrOf_shape h
theorem ZtV:∀ {xs:List V} {us:List Value},xs.length=us.length→(∀ (j:Nat) (x:V) (u:Value),xs[j]?=some x→us[j]?=some u→RelV x u)→Vals xs us
 | [],[],_,_=>.nil
 | x::xs,u::us,hl,h=>.cons (h 0 x u rfl rfl) (ZtV (by simpa using hl) fun j y w a b=>h (j + 1) y w (by simpa using a) (by simpa using b))
 | [],_::_,hl,_=>by simp at hl
 | _::_,[],hl,_=>by simp at hl
theorem Inv.lput {a:Addr} {h':Heap} {t' c:Nat} {ys:List V} {its:Array Value} (I:Inv X pins σ H s) (hk:∀ b o,s.heap.get? b=some o→h'.get? b=some o) (ha:s.heap.objs.size≤a) (he:h'.get? a=some {cls:=.type "list",data:=.seq its c}) (r:Vals ys its.toList) (hz:ys.length≤sizeLine) :
  Inv X pins σ (upd H a (.lst ys)) {s with heap:=h',toks:=t'}:=I.laid hk ha ⟨hz,its.toList,c,r,by rw [Array.toArray_toList];exact he⟩
theorem Zye (hc:X.calm=true:=by rfl):ZfX X (.type "list") (fun xs H Q=>∃ p kvs,xs=[.ref p]∧Rd H p (.dK kvs)∧∀ l,H l=none→Q (.ref l) (upd H l (.lst (kvs.map fun q=>kV q.1)))):=by
 intro pins s σ H xs us Q I r h
 obtain ⟨p,kvs,rfl,hp,q⟩:=h
 obtain ⟨u,rfl,ru⟩:=r.one
 cases (show u=Value.ref p from ru)
 obtain ⟨hz,hs,vs,rel,dd⟩:=Zvn I.hok hp
 obtain ⟨ep,hat⟩:=dd.dictAt
 refine kdl_call (kdl_dict (knd:=Z8 X.prog X.w) (kvs:=vs) (ep:=ep) hs) (I.ok.hd hc) hat (by rw [← rel.length];exact hz) fun h' tk acc c hk he hi=>?_
 refine ⟨.ref _,_,I.lput hk (Nat.le_refl _) he (ZtV ?_ fun j x w hx hw=>?_) (by rw [List.length_map];exact hz),rfl,q _ I.fresh⟩
 ·have e3:acc.toList.length=acc.size:=Array.length_toList
  rw [List.length_map,e3,hi.1,rel.length]
 ·obtain ⟨k,y,hy,hk'⟩:=hi.2 j w (by rw [← Array.getElem?_toList];exact hw)
  have e1:(kvs.map (·.1))[j]?=some k:=by rw [rel.keys,List.getElem?_map,hy];rfl
  have e2:x=kV k:=by
   rw [List.getElem?_map] at hx e1
   cases e:kvs[j]? with
   | none=>rw [e] at hx;cases hx
   | some z=>
    rw [e] at hx e1
    cases hx
    cases e1
    rfl
  rw [e2]
  exact ZKS hk'
theorem ZJW (hc:X.calm=true:=by rfl):ZfX X (.type "list") (fun xs H Q=>∃ p d kvs,xs=[.ref p]∧H p=some (ZKg p d)∧Rd H d (.dK kvs)∧∀ l,H l=none→Q (.ref l) (upd H l (.lst (kvs.map fun q=>q.2)))):=by
 intro pins s σ H xs us Q I r h
 obtain ⟨p,d,kvs,rfl,hp,hd,q⟩:=h
 obtain ⟨u,rfl,ru⟩:=r.one
 cases (show u=Value.ref p from ru)
 have hv:s.heap.IsValuesView p d:=(I.hok p _ hp).1
 obtain ⟨hz,hs,vs,rel,dd⟩:=Zvn I.hok hd
 obtain ⟨ep,hat⟩:=dd.dictAt
 refine kdl_call (kdl_values (knd:=Z8 X.prog X.w) (kvs:=vs) (ep:=ep)) (I.ok.hd hc) ⟨hv,hat⟩ (by rw [← rel.length];exact hz) fun h' tk acc c hk he hi=>?_
 refine ⟨.ref _,_,I.lput hk (Nat.le_refl _) he (ZtV ?_ fun j x w hx hw=>?_) (by rw [List.length_map];exact hz),rfl,q _ I.fresh⟩
 ·have e3:acc.toList.length=acc.size:=Array.length_toList
  rw [List.length_map,e3,hi.1,rel.length]
 ·obtain ⟨k,hy⟩:=hi.2 j w (by rw [← Array.getElem?_toList];exact hw)
  have:∀ {a:List (Key×V)} {b:List (Key×Value)},KV a b→∀ (j:Nat) (x:V),(a.map fun q=>q.2)[j]?=some x→b[j]?=some (k,w)→RelV x w:=by
   intro a b r
   unfold KV at r
   induction r with
   | nil=>intro j x hx _;simp at hx
   | cons h t ih=>
    intro j x hx hb
    cases j with
    | zero=>
     simp at hx hb
     subst hx
     have:=h.2
     rw [hb] at this
     exact this
    | succ j=>exact ih j x (by simpa using hx) (by simpa using hb)
  exact this rel j x hx hy
theorem ZDA:∀ {ns:List Int} {vs:List Value},IntsAre vs ns→Vals (ns.map V.int) vs
 | [],_,h=>by rw [h.nil_inv];exact .nil
 | n::r,_,h=>by
  obtain ⟨t,vs',rfl,h'⟩:=h.cons_inv
  exact .cons ⟨t,rfl⟩ (ZDA h')
theorem ZD9:ZfX X (.builtin "sorted") (fun xs H Q=>∃ (p:Addr) (ns:List Int),xs=[.ref p]∧SqL X.K H p (ns.map V.int)∧ns.length < 64∧∀ (l:Addr) (ms:List Int),H l=none→ms.Perm ns→ms.Pairwise (·≤·)→Q (.ref l) (upd H l (.lst (ms.map V.int)))):=by
 intro pins s σ H xs us Q I r h
 obtain ⟨p,ns,rfl,hp,h64,q⟩:=h
 obtain ⟨u,rfl,ru⟩:=r.one
 cases (show u=Value.ref p from ru)
 obtain ⟨its,rv,pl,hz⟩:=I.list hp
 have hi:IntsAre its ns:=ZxS rv
 have hl:its.length < 64:=by rw [← rv.length,List.length_map];exact h64
 refine sorted_ints pl.isList hi hl fun out ms a1 a2 a3=>?_
 obtain ⟨e,he⟩:=sortedAll_at s.heap its out
 refine ⟨.ref _,_,I.lput (t':=s.toks) (fun _ _=>sortedAll_old) (Nat.le_succ _) he (ZDA a1) ?_,rfl,q _ ms (I.hok.fresh (Nat.le_succ _)) a2 a3⟩
 rw [List.length_map,a2.length_eq]
 have:(64:Nat)≤sizeLine:=by decide
 omega
theorem ZHB:∀ {xs:List Str} {us:List Value},Vals (xs.map V.str) us→StrsAre us xs
 | [],_,r=>by cases r;exact .nil
 | x::xs,_,r=>by
  cases r with
  | cons h t=>
   obtain ⟨tk,rfl⟩:=h
   exact .cons x tk (ZHB t)
end
end L2
namespace L2
open PySem PySem.Spec PyProof.Rows PySem.W
def Zah {α:Type} (lt:Nat→Nat→Bool):KasT α→α
 | .ret a=>a
 | .ask i j k=>Zah lt (k (lt i j))
def ZaH {α:Type} (n:Nat) (R:α→Prop):KasT α→Prop
 | .ret a=>R a
 | .ask i j k=>i < n∧j < n∧∀ b,ZaH n R (k b)
theorem ZaH.bind {α β:Type} {n:Nat} {R:α→Prop} {S:β→Prop} {f:α→KasT β} (hf:∀ a,R a→ZaH n S (f a)):∀ {t:KasT α},ZaH n R t→ZaH n S (t.bind f)
 | .ret a,h=>hf a h
 | .ask i j k,h=>⟨h.1,h.2.1,fun b=>ZaH.bind hf (h.2.2 b)⟩
def Low (n:Nat) (p:Array Nat):Prop:=p.Perm (List.toArray (List.range n))
theorem Low.lt {n:Nat} {p:Array Nat} (h:Low n p) (x:Nat) (hx:x∈p):x < n:=by
 have:=(Array.Perm.mem_iff h).mp hx
 simpa using this
theorem Low.at {n:Nat} {p:Array Nat} (h:Low n p) (hn:0 < n) (i:Nat):p.getD i 0 < n:=by
 unfold Array.getD
 split
 ·exact h.lt _ (Array.getElem_mem _)
 ·exact hn
theorem Low.rev {n:Nat} {p:Array Nat} (h:Low n p) (i j:Nat):Low n (kas_rev p i j):=(mirror_perm p i j ((j - i) / 2)).trans h
theorem Low.bub {n:Nat} {p:Array Nat} (h:Low n p) (i j:Nat):Low n (bubble p i j):=(bubble_perm p i j).trans h
section
variable {n:Nat} (hn:0 < n)
include hn
theorem ZA9 {p:Array Nat} (h:Low n p):∀ (f k:Nat),ZaH n (fun _=>True) (kas_asc p f k)
 | 0,_=>trivial
 | f + 1,k=>by
  refine ⟨h.at hn _,h.at hn _,fun b=>?_⟩
  cases b with
  | true=>exact trivial
  | false=>exact ZA9 h f (k + 1)
theorem Zpe:∀ (f:Nat) {p:Array Nat} (k q:Nat),Low n p→ZaH n (fun r=>Low n r.1) (kas_desc f p k q)
 | 0,_,_,_,h=>h
 | f + 1,p,k,q,h=>by
  refine ⟨h.at hn _,h.at hn _,fun b=>?_⟩
  cases b with
  | true=>
   show ZaH n _ (if q > 0 then kas_desc f (kas_rev p (k - (q + 1)) k) (k + 1) 0 else kas_desc f p (k + 1) 0)
   split
   ·exact Zpe f _ _ (h.rev _ _)
   ·exact Zpe f _ _ h
  | false=>
   refine ⟨h.at hn _,h.at hn _,fun c=>?_⟩
   cases c with
   | true=>exact h
   | false=>exact Zpe f _ _ h
theorem Zyl {p:Array Nat} (h:Low n p) (k r:Nat):ZaH n (fun r=>Low n r.2) (kas_tail3 k r p):=by
 unfold kas_tail3
 refine ZaH.bind (R:=fun _=>True) (fun m _=>?_) (ZA9 hn (h.rev _ _) _ _)
 exact h.rev 0 k
theorem Zpd {p:Array Nat} (h:Low n p) (k r:Nat):ZaH n (fun r=>Low n r.2) (kas_descPart k r p):=by
 refine ZaH.bind (fun a ha=>?_) (Zpe hn _ _ _ h)
 show ZaH n _ (if a.2.2 > 0 then _ else _)
 split
 ·exact Zyl hn (ha.rev _ _) _ _
 ·exact Zyl hn ha _ _
theorem ZJ1 {p:Array Nat} (h:Low n p) (r:Nat):ZaH n (fun r=>Low n r.2) (kas_count r p):=by
 refine ZaH.bind (fun a _=>?_) (ZA9 hn h _ _)
 show ZaH n _ (if (a == r)=true then _ else _)
 split
 ·exact h
 ·split
  ·refine ⟨h.at hn _,h.at hn _,fun b=>?_⟩
   cases b with
   | true=>exact h
   | false=>exact Zpd hn (h.rev _ _) _ _
  ·exact Zpd hn h _ _
theorem ZqJ {p:Array Nat} (h:Low n p) (k:Nat):∀ (f l r:Nat),ZaH n (fun _=>True) (kas_place p k f l r)
 | 0,_,_=>trivial
 | f + 1,l,r=>by
  show ZaH n _ (if l ≥ r then _ else _)
  split
  ·exact trivial
  ·refine ⟨h.at hn _,h.at hn _,fun b=>?_⟩
   cases b with
   | true=>exact ZqJ h k f _ _
   | false=>exact ZqJ h k f _ _
theorem ZIk:∀ (f:Nat) {p:Array Nat} (k:Nat),Low n p→ZaH n (Low n) (kas_bin f p k)
 | 0,_,_,h=>h
 | f + 1,p,k,h=>ZaH.bind (fun l _=>ZIk f _ (h.bub _ _)) (ZqJ hn h _ _ _ _)
theorem ZfR:ZaH n (Low n) (kas_sort n):=by
 have h:Low n (List.toArray (List.range n)):=Array.Perm.refl _
 refine ZaH.bind (fun a ha=>?_) (ZJ1 hn h n)
 show ZaH n _ (if a.1 < n then _ else _)
 split
 ·exact ZIk hn _ _ ha
 ·exact ha
end
theorem ZxG {α:Type} {n:Nat} {R:α→Prop} {lt:Nat→Nat→Bool} {cmp:Nat→Nat→(Bool→Shared→Prop)→Shared→Prop} {s:Shared} (hc:∀ i j C,i < n→j < n→C (lt i j) s→cmp i j C s) {Q:α→Shared→Prop} :
  ∀ {t:KasT α},ZaH n R t→Q (Zah lt t) s→t.kasWp cmp Q s
 | .ret _,_,h=>h
 | .ask i j k,a,h=>hc i j _ a.1 a.2.1 (ZxG hc (a.2.2 _) h)
theorem ZcL {α:Type} {n:Nat} {R:α→Prop} (lt:Nat→Nat→Bool):∀ {t:KasT α},ZaH n R t→R (Zah lt t)
 | .ret _,h=>h
 | .ask i j k,h=>by
  show R (Zah lt (k (lt i j)))
  exact ZcL lt (h.2.2 (lt i j))
def Ztw (a b:Str×Int):Bool:=if a.1=b.1 then (if a.2=b.2 then false else decide (a.2 < b.2)) else decide (a.1.cps.toList < b.1.cps.toList)
def ZdP (es:List (Str×Int)):List (Str×Int):=
 if es.length < 2 then es else (Zah (fun i j=>Ztw (es.getD i (Str.empty,0)) (es.getD j (Str.empty,0))) (kas_sort es.length)).toList.map fun i=>es.getD i (Str.empty,0)
def ZKh (r d:Addr):HO:=.ext fun h=>h.IsItemsView r d
section
variable {X:Cx} {pins:List (Addr×Obj)} {σ:St} {H:Hp} {s:Shared}
theorem ZC7:MtR X "dict.items" (fun x vs H Q=>∃ a u,x=.ref a∧vs=[]∧Rd H a u∧ZpD u=true∧∀ p,H p=none→Q (.ref p) (upd H p (ZKh p a))):=by
 intro pins s σ H x xs v us Q I rx rs h
 obtain ⟨a,u,rfl,rfl,ha,hd,q⟩:=h
 cases (show v=Value.ref a from rx)
 have:=rs.zero
 subst this
 obtain ⟨ob,e,hs,_,ex,es,ep,dd,_⟩:=I.dct ha hd
 have hT:s.TypeIs (.ref a) "dict":=⟨ob,e,ex.1⟩
 have m:Meets (Builtin.«dict.items» ⟨[.ref a],[]⟩) (fun _ R s=>s.TypeIs (.ref a) "dict"∧R (.ok (.ret (.ref s.heap.objs.size))) {s with heap:=s.heap.push {cls:=.type "dict_items",data:=.fields #[.ref a]}}):=
  .of_wp fun P2 w2 A2 R2 s2 ⟨ty2,k2⟩=>by
   refine wpAny_bind ?_;unfold Builtin.Dict.noArgs
   refine wpAny_bind (wpAny_notOrdered_dict ty2 ?_);show wpAny _ _ (pure a) _ _ s2
   refine wpAny_pure ?_;show wpAny _ _ (Builtin.Dict.showsAll a >>= _) _ _ s2
   unfold Builtin.Dict.showsAll;rw [if_neg (by rw [hs];exact Bool.false_ne_true)]
   exact wpAny_bind (wpAny_pure (wpAny_bind (wpAny_newObj_type (wpAny_pure ⟨_,rfl,k2⟩))))
 refine call_meets F.slot_dict_items hT F.entry_dict_items (F.args_dict_items_1 _) m ⟨hT,?_⟩
 refine ⟨.ref _,upd H s.heap.objs.size (ZKh s.heap.objs.size a),I.laid (t':=s.toks) (fun b ob q=>Heap.get?_push_of_some _ q) (Nat.le_refl _) ?_,rfl,q _ I.fresh⟩
 exact ⟨⟨_,Heap.get?_push_size _ rfl,rfl,rfl⟩,⟨_,Heap.get?_push_size _ rfl⟩,fun h1 h2 ⟨o,e1,e2⟩ k=>⟨o,k o e1,e2⟩⟩
end
section
variable {prog:Program} {w:World} {A:Around} {E:Value→Shared→Prop} {s:Shared} {a:Addr} {vs:List Value} {κ:SortKind} {lt:Nat→Nat→Bool} {P:PySem.Fin→Shared→Prop} {n:Nat}
theorem ZCb (ho:s.heap.get? a=some (seqObj "list" vs.toArray n)) (h2:2≤vs.length) (h64:vs.length < 64)
  (hk:∀ (h':Heap) (Q:SortKind→Shared→Prop),(∀ b o,b≠a→s.heap.get? b=some o→h'.get? b=some o)→Q κ {s with heap:=h'}→wpAny (model prog w) A (keyKind' vs.toArray) Q (fun _ _=>False) {s with heap:=h'})
  (hc:∀ (h':Heap) (i j:Nat) (C:Bool→Shared→Prop),(∀ b o,b≠a→s.heap.get? b=some o→h'.get? b=some o)→i < vs.length→j < vs.length→C (lt i j) {s with heap:=h'}→kas_ask prog w A κ vs i j C {s with heap:=h'})
  (h:∀ (h':Heap) (c:Nat),(Zah lt (kas_sort vs.length)).size=vs.length→(∀ b o,b≠a→s.heap.get? b=some o→h'.get? b=some o)→h'.get? a=some (seqObj "list" ((Zah lt (kas_sort vs.length)).toList.map fun i=>vs.getD i Value.none).toArray c)→P (.done (.ret .none)) {s with heap:=h'}) :
  wpAny (model prog w) A (Builtin.«list.sort» ⟨[.ref a],[]⟩) P E s:=by
 have low:a < s.heap.objs.size:=Heap.lt_size ho
 obtain ⟨c1,ho1⟩:∃ c1,(s.heap.update a (Obj.mapSeq fun _=>(#[]:Array Value))).get? a=some (seqObj "list" #[] c1):=⟨_,get?_update_seq ho fun _=>#[]⟩
 have ho3:(((s.heap.update a (Obj.mapSeq fun _=>(#[]:Array Value))).push (seqObj "tuple" vs.toArray 0)).push (seqObj "list" #[] 0)).get? a=some (seqObj "list" #[] c1):=Heap.get?_push_of_some _ (Heap.get?_push_of_some _ ho1)
 have kp3:∀ b o,b≠a→s.heap.get? b=some o→(((s.heap.update a (Obj.mapSeq fun _=>(#[]:Array Value))).push (seqObj "tuple" vs.toArray 0)).push (seqObj "list" #[] 0)).get? b=some o:=fun b o hb e=>
  Heap.get?_push_of_some _ (Heap.get?_push_of_some _ ((Heap.get?_update_other _ _ (Ne.symm hb)).trans e))
 have big:vs.length≤sizeLine:=by rw [sizeLine_eq];omega
 rw [list_sort_plain]
 refine wpAny_bind (listItems_at ho rfl (wpAny_bind (listUpdate_at ho rfl ?_ (by rw [List.size_toArray];exact big) (Nat.zero_le _))))
 refine wpAny_bind (seqEpoch_at ho1 rfl (wpAny_bind (wpAny_newTuple ?_ big)))
 refine wpAny_bind (wpAny_newList (wpAny_holding ?_) (Nat.zero_le _))
 show wpAny (model prog w) A _ P E {s with heap:=((s.heap.update a (Obj.mapSeq fun _=>(#[]:Array Value))).push (seqObj "tuple" vs.toArray 0)).push (seqObj "list" #[] 0)}
 dsimp only
 have two:¬ vs.toArray.size < 2:=by rw [List.size_toArray];omega
 rw [if_neg two,if_neg two]
 refine wpAny_bind (wpAny_mono (hk _ (fun κ' s'=>κ'=κ∧s'={s with heap:=((s.heap.update a (Obj.mapSeq fun _=>(#[]:Array Value))).push (seqObj "tuple" vs.toArray 0)).push (seqObj "list" #[] 0)}) kp3 ⟨rfl,rfl⟩) (fun κ' s0 hk0=>?_) fun _ _ x=>x.elim)
 obtain ⟨rfl,rfl⟩:=hk0
 have asks:=ZxG (cmp:=kas_ask prog w A κ' vs) (s:={s with heap:=((s.heap.update a (Obj.mapSeq fun _=>(#[]:Array Value))).push (seqObj "tuple" vs.toArray 0)).push (seqObj "list" #[] 0)}) (lt:=lt) (fun i j C hi hj q=>hc _ i j C kp3 hi hj q)
  (Q:=fun p s'=>p=Zah lt (kas_sort vs.length)∧s'={s with heap:=((s.heap.update a (Obj.mapSeq fun _=>(#[]:Array Value))).push (seqObj "tuple" vs.toArray 0)).push (seqObj "list" #[] 0)}) (ZfR (n:=vs.length) (by omega)) ⟨rfl,rfl⟩
 refine wpAny_bind (wpAny_mono (kat_run (Q:=fun st' s'=>∃ p:Array Nat,p.size=vs.length∧arrOf st'=p.map (kas_item (vs.toArray.zip vs.toArray))∧failedOf st'=none∧p=Zah lt (kas_sort vs.length)∧s'={s with heap:=((s.heap.update a (Obj.mapSeq fun _=>(#[]:Array Value))).push (seqObj "tuple" vs.toArray 0)).push (seqObj "list" #[] 0)})
  rfl h2 h64 (fun p' st' s' b1 b2 b3 b4=>⟨p',b1,b2,b3,b4.1,b4.2⟩) asks) ?_ fun _ _ e=>e)
 rintro ⟨⟨⟩,st'⟩ s' ⟨p,hp,har,hf,rfl,rfl⟩
 dsimp only
 have len:(List.toArray ((Zah lt (kas_sort vs.length)).toList.map fun i=>vs.getD i Value.none)).size=vs.length:=by rw [List.size_toArray,List.length_map,Array.length_toList,hp]
 rw [kat_snds rfl har]
 obtain ⟨c2,hc2⟩:∃ c2,((((s.heap.update a (Obj.mapSeq fun _=>(#[]:Array Value))).push (seqObj "tuple" vs.toArray 0)).push (seqObj "list" #[] 0)).update a (Obj.mapSeq fun _=>List.toArray ((Zah lt (kas_sort vs.length)).toList.map fun i=>vs.getD i Value.none))).get? a=some (seqObj "list" (List.toArray ((Zah lt (kas_sort vs.length)).toList.map fun i=>vs.getD i Value.none)) c2):=
  ⟨_,get?_update_seq ho3 fun _=>List.toArray ((Zah lt (kas_sort vs.length)).toList.map fun i=>vs.getD i Value.none)⟩
 refine wpAny_bind (seqEpoch_at ho3 rfl (wpAny_bind (listUpdate_at ho3 rfl ?_ (Nat.zero_le _) (Nat.le_trans (Nat.le_of_eq len) (Nat.le_succ_of_le big)))))
 rw [hf]
 simp only [bne_self_eq_false,Bool.false_eq_true,if_false]
 exact wpAny_pure (h _ c2 hp (fun b o hb e=>(Heap.get?_update_other _ _ (Ne.symm hb)).trans (kp3 b o hb e)) hc2)
theorem ZHE (ho:s.heap.get? a=some (seqObj "list" vs.toArray n)) (h2:vs.length < 2)
  (h:∀ (h':Heap) (c:Nat),(∀ b o,b≠a→s.heap.get? b=some o→h'.get? b=some o)→h'.get? a=some (seqObj "list" vs.toArray c)→P (.done (.ret .none)) {s with heap:=h'}) :
  wpAny (model prog w) A (Builtin.«list.sort» ⟨[.ref a],[]⟩) P E s:=by
 have low:a < s.heap.objs.size:=Heap.lt_size ho
 obtain ⟨c1,ho1⟩:∃ c1,(s.heap.update a (Obj.mapSeq fun _=>(#[]:Array Value))).get? a=some (seqObj "list" #[] c1):=⟨_,get?_update_seq ho fun _=>#[]⟩
 have ho3:(((s.heap.update a (Obj.mapSeq fun _=>(#[]:Array Value))).push (seqObj "tuple" vs.toArray 0)).push (seqObj "list" #[] 0)).get? a=some (seqObj "list" #[] c1):=Heap.get?_push_of_some _ (Heap.get?_push_of_some _ ho1)
 have kp3:∀ b o,b≠a→s.heap.get? b=some o→(((s.heap.update a (Obj.mapSeq fun _=>(#[]:Array Value))).push (seqObj "tuple" vs.toArray 0)).push (seqObj "list" #[] 0)).get? b=some o:=fun b o hb e=>
  Heap.get?_push_of_some _ (Heap.get?_push_of_some _ ((Heap.get?_update_other _ _ (Ne.symm hb)).trans e))
 have big:vs.length≤sizeLine:=by rw [sizeLine_eq];omega
 rw [list_sort_plain]
 refine wpAny_bind (listItems_at ho rfl (wpAny_bind (listUpdate_at ho rfl ?_ (by rw [List.size_toArray];exact big) (Nat.zero_le _))))
 refine wpAny_bind (seqEpoch_at ho1 rfl (wpAny_bind (wpAny_newTuple ?_ big)))
 refine wpAny_bind (wpAny_newList (wpAny_holding ?_) (Nat.zero_le _))
 show wpAny (model prog w) A _ P E {s with heap:=((s.heap.update a (Obj.mapSeq fun _=>(#[]:Array Value))).push (seqObj "tuple" vs.toArray 0)).push (seqObj "list" #[] 0)}
 dsimp only
 have two:vs.toArray.size < 2:=by rw [List.size_toArray];omega
 rw [if_pos two,if_pos two]
 refine wpAny_bind (wpAny_pure ?_);rw [StateT.run_pure]
 refine wpAny_bind (wpAny_pure ?_);dsimp only
 have hout:Array.map (·.2) (arrOf (SortSt.mk' general' (vs.toArray.zip vs.toArray) #[] 7 none))=vs.toArray:=by
  show Array.map (·.2) (vs.toArray.zip vs.toArray)=vs.toArray
  simp only [List.zip_toArray,List.map_toArray]
  rw [show List.map (fun x=>x.2) (vs.zip vs)=vs from List.map_snd_zip (Nat.le_refl _)]
 obtain ⟨c2,hc2⟩:∃ c2,((((s.heap.update a (Obj.mapSeq fun _=>(#[]:Array Value))).push (seqObj "tuple" vs.toArray 0)).push (seqObj "list" #[] 0)).update a (Obj.mapSeq fun _=>vs.toArray)).get? a=some (seqObj "list" vs.toArray c2):=⟨_,get?_update_seq ho3 fun _=>vs.toArray⟩
 rw [hout]
 refine wpAny_bind (seqEpoch_at ho3 rfl (wpAny_bind (listUpdate_at ho3 rfl ?_ (Nat.zero_le _) (by rw [List.size_toArray];exact Nat.le_succ_of_le big))))
 simp only [bne_self_eq_false,Bool.false_eq_true,if_false]
 exact wpAny_pure (h _ c2 (fun b o hb e=>(Heap.get?_update_other _ _ (Ne.symm hb)).trans (kp3 b o hb e)) hc2)
end
section
variable {X:Cx} {pins:List (Addr×Obj)} {σ:St} {H:Hp} {s:Shared}
theorem Inv.many {H':Hp} {h':Heap} {t':Nat} (I:Inv X pins σ H s) (old:∀ b o,s.heap.get? b=some o→h'.get? b=some o) (up:Same H H') (nw:∀ b o,H' b=some o→H b=some o∨(s.heap.get? b=none∧ZaB X.prog X.w H' h' b o)):Inv X pins σ H' {s with heap:=h',toks:=t'}:=by
 refine I.un ⟨fun b o e _ _ _=>old b o e,fun b o e _ _ _=>⟨o.slots,old b o e⟩,fun b o e n _=>?_,fun b o e _=>⟨o,old b o e⟩,fun b xs e=>up _ _ e,fun b o u e=>up _ _ e,fun b ps e=>⟨#[],by rw [up _ _ e];simp⟩⟩ fun b o e=>?_
 ·cases z:H' b with
  | none=>rfl
  | some q=>
   rcases nw b q z with y | ⟨y,_⟩
   ·rw [n] at y;cases y
   ·rw [e] at y;cases y
 ·rcases nw b o e with y | ⟨_,y⟩
  ·exact (I.hok b o y).stay (fun c u _ q=>old c u q) (fun c q=>up _ _ q) fun c xs q=>up _ _ q
  ·exact y
def Zl0:List (Addr×List V)→Hp→Hp
 | [],H=>H
 | p::r,H=>upd (Zl0 r H) p.1 (.tup p.2)
theorem ZB0:∀ (ps:List (Addr×List V)) (H:Hp) (b:Addr) (o:HO),Zl0 ps H b=some o→H b=some o∨∃ xs,(b,xs)∈ps∧o=.tup xs
 | [],_,_,_,h=>.inl h
 | p::r,H,b,o,h=>by
  by_cases e:b=p.1
  ·subst e
   have h':upd (Zl0 r H) p.1 (.tup p.2) p.1=some o:=h
   rw [Zb] at h'
   cases h'
   exact .inr ⟨p.2,List.mem_cons_self,rfl⟩
  ·have h':upd (Zl0 r H) p.1 (.tup p.2) b=some o:=h
   rw [Zd e] at h'
   rcases ZB0 r H b o h' with q | ⟨xs,q,rfl⟩
   ·exact .inl q
   ·exact .inr ⟨xs,List.mem_cons_of_mem _ q,rfl⟩
theorem Zxe:∀ (ps:List (Addr×List V)) (H:Hp) (b:Addr),b ∉ ps.map (·.1)→Zl0 ps H b=H b
 | [],_,_,_=>rfl
 | p::r,H,b,h=>by
  have h1:b≠p.1:=fun z=>h (by rw [z];exact List.mem_cons_self)
  show upd (Zl0 r H) p.1 (.tup p.2) b=H b
  rw [Zd h1]
  exact Zxe r H b fun z=>h (List.mem_cons_of_mem _ z)
theorem ZB1:∀ (ps:List (Addr×List V)) (H:Hp) (b:Addr) (xs:List V),(ps.map (·.1)).Nodup→(b,xs)∈ps→Zl0 ps H b=some (.tup xs)
 | p::r,H,b,xs,nd,h=>by
  have nd':(p.1::r.map (·.1)).Nodup:=nd
  obtain ⟨n1,n2⟩:=List.nodup_cons.mp nd'
  rcases List.mem_cons.mp h with e | h
  ·subst e
   exact Zb
  ·have h1:b≠p.1:=fun z=>n1 (by rw [← z];exact List.mem_map.mpr ⟨(b,xs),h,rfl⟩)
   show upd (Zl0 r H) p.1 (.tup p.2) b=_
   rw [Zd h1]
   exact ZB1 r H b xs n2 h
end
end L2
namespace L2
open PySem PySem.Spec PyProof.Rows PySem.W
section
variable {X:Cx} {pins:List (Addr×Obj)} {σ:St} {H:Hp} {s:Shared}
theorem Inv.turnedT {t':Nat} {wr:List Addr} {T:Addr} {xs:List V} {h':Heap} (I:Inv X pins σ H s) (hf:∀ b∈wr,FpOk X pins H b) (k:∀ b o,b ∉ wr→s.heap.get? b=some o→h'.get? b=some o) (hT:s.heap.objs.size≤T)
  (new:ZaB X.prog X.w (upd H T (.tup xs)) h' T (.tup xs)):Inv X pins σ (upd H T (.tup xs)) {s with heap:=h',toks:=t'}:=by
 have hTn:s.heap.get? T=none:=by
  cases z:s.heap.get? T with
  | none=>rfl
  | some o=>exact absurd (Heap.lt_size z) (Nat.not_lt.mpr hT)
 have hHT:H T=none:=I.hok.fresh hT
 have nit:∀ b u,H b=some u→b ∉ wr:=fun b u e z=>by rw [(hf b z).1] at e;cases e
 have nT:∀ b u,H b=some u→b≠T:=fun b u e z=>by rw [z,hHT] at e;cases e
 refine I.step (g':=s.gens) (d':=s.drawn) (ch:=wr) (fun b hb=>?_) (fun b o _ _ hc e _=>k b o hc e) (fun b o _ _ hc e _=>⟨o.slots,k b o hc e⟩) (fun b o hc e n=>?_)
  (fun b o hc e=>⟨o,k b o hc e⟩) (fun b ys e=>by rw [Zd (nT _ _ e)];exact e) (fun b o u e=>by rw [Zd (nT _ _ e)];exact e) (fun b ps e=>⟨#[],by rw [Zd (nT _ _ e),e];simp⟩) (fun m hm=>?_) (fun b u e=>?_) I.bare
 ·obtain ⟨f0,f1,f2,f3,f4,f5⟩:=hf b hb
  exact ⟨f3,f1,f4,f5⟩
 ·rw [Zd (fun z=>by rw [z,hTn] at e;cases e)];exact n
 ·obtain ⟨o,es,ep,ho,r⟩:=hm
  exact ⟨o,es,ep,k _ o (fun z=>(hf _ z).2.1 rfl) ho,r⟩
 ·by_cases z:b=T
  ·subst z
   rw [Zb] at e
   cases e
   exact new
  ·rw [Zd z] at e
   refine (I.hok b u e).stay (fun c v hc q=>k c v ?_ q) (fun c q=>by rw [Zd (nT _ _ q)];exact q) fun c ys q=>by rw [Zd (nT _ _ q)];exact q
   rcases hc with y | y
   ·rw [y];exact nit b u e
   ·exact nit _ _ y
theorem Inv.turnedL {t':Nat} {wr:List Addr} {h':Heap} (I:Inv X pins σ H s) (hf:∀ b∈wr,FpOk X pins H b) (k:∀ b o,b ∉ wr→s.heap.get? b=some o→h'.get? b=some o):Inv X pins σ H {s with heap:=h',toks:=t'}:=by
 have nit:∀ b u,H b=some u→b ∉ wr:=fun b u e z=>by rw [(hf b z).1] at e;cases e
 refine I.step (g':=s.gens) (d':=s.drawn) (ch:=wr) (fun b hb=>?_) (fun b o _ _ hc e _=>k b o hc e) (fun b o _ _ hc e _=>⟨o.slots,k b o hc e⟩) (fun b o hc e n=>n)
  (fun b o hc e=>⟨o,k b o hc e⟩) (fun b ys e=>e) (fun b o u e=>e) (fun b ps e=>⟨#[],by rw [e];simp⟩) (fun m hm=>?_) (fun b u e=>?_) I.bare
 ·obtain ⟨f0,f1,f2,f3,f4,f5⟩:=hf b hb
  exact ⟨f3,f1,f4,f5⟩
 ·obtain ⟨o,es,ep,ho,r⟩:=hm
  exact ⟨o,es,ep,k _ o (fun z=>(hf _ z).2.1 rfl) ho,r⟩
 ·refine (I.hok b u e).stay (fun c v hc q=>k c v ?_ q) (fun c q=>q) fun c ys q=>q
  rcases hc with y | y
  ·rw [y];exact nit b u e
  ·exact nit _ _ y
end
section
variable {prog:Program} {w:World} {A:Around} {E:Value→Shared→Prop} {s:Shared}
theorem ZLl {it a:Addr} {i:Nat} {vs:Array Value} {x:Value} {Q:Value→Shared→Prop} (st:s.heap.IsTupleIter it a i) (ha:s.heap.IsTuple a vs) (hx:vs[i]?=some x)
  (q:∀ k,k.IsTupleIter it a (i + 1)→Heap.SameBut it s.heap k→Q x {s with heap:=k}):wpAny (model prog w) A (Builtin.SmallTypes.nextOf (.ref it)) Q E s:=by
 obtain ⟨u,e1,c1,d1⟩:=id st
 obtain ⟨ua,e2,_,m,d2⟩:=ha
 unfold Builtin.SmallTypes.nextOf
 refine wpAny_bind (wpAny_callSpecial?_slot (name:=Str.ofString "__next__") st.typeIs F.slot_tuple_iterator_next (wpAny_call_entry F.slot_tuple_iterator_next st.typeIs F.entry_tuple_iterator_next ?_ (F.args_tuple_iterator_next_1 _)))
 change wpAny _ _ (field (Value.ref it) 0 >>= _) _ _ s
 refine wpAny_bind (wpAny_field e1 d1 (x:=.ref a) rfl ?_)
 show wpAny _ _ (if (Value.ref a == Value.none)=true then _ else _) _ _ s
 rw [if_neg (by exact Bool.false_ne_true)]
 change wpAny _ _ (field (Value.ref it) 1 >>= _) _ _ s
 refine wpAny_bind (wpAny_field e1 d1 (x:=.int i 0) rfl ?_)
 change wpAny _ _ (seqItems? (Value.ref a) >>= _) _ _ s
 refine (wpAny_bind (wpAny_seqItems e2 d2 ?_))
 simp only [Int.toNat_natCast,hx]
 refine wpAny_bind (wpAny_setField e1 d1 (by simp) (wpAny_pure ⟨x,rfl,wpAny_pure (q _ ?_ (Heap.SameBut.update ..))⟩))
 refine ⟨_,Heap.get?_update_self _ e1 (Obj.isFreed_of_fields (Obj.data_mapFields d1 _)),(Obj.cls_mapFields ..).trans c1,?_⟩
 rw [Obj.data_mapFields d1]
 simp [rawInt]
theorem Zqj {it a:Addr} {i:Nat} {vs:Array Value} {Q:Value→Shared→Prop} (hh:A.handled=none) (st:s.heap.IsTupleIter it a i) (ha:s.heap.IsTuple a vs) (hx:vs[i]?=none)
  (q:∀ k x,Heap.ExtBut it s.heap k→(∃ o,k.get? x=some o∧o.cls=.type "StopIteration")→E (.ref x) {s with heap:=k}):wpAny (model prog w) A (Builtin.SmallTypes.nextOf (.ref it)) Q E s:=by
 obtain ⟨u,e1,c1,d1⟩:=id st
 obtain ⟨ua,e2,_,m,d2⟩:=ha
 unfold Builtin.SmallTypes.nextOf
 refine wpAny_bind (wpAny_callSpecial?_slot (name:=Str.ofString "__next__") st.typeIs F.slot_tuple_iterator_next (wpAny_call_entry F.slot_tuple_iterator_next st.typeIs F.entry_tuple_iterator_next ?_ (F.args_tuple_iterator_next_1 _)))
 change wpAny _ _ (field (Value.ref it) 0 >>= _) _ _ s
 refine wpAny_bind (wpAny_field e1 d1 (x:=.ref a) rfl ?_)
 show wpAny _ _ (if (Value.ref a == Value.none)=true then _ else _) _ _ s
 rw [if_neg (by exact Bool.false_ne_true)]
 change wpAny _ _ (field (Value.ref it) 1 >>= _) _ _ s
 refine wpAny_bind (wpAny_field e1 d1 (x:=.int i 0) rfl ?_)
 change wpAny _ _ (seqItems? (Value.ref a) >>= _) _ _ s
 refine (wpAny_bind (wpAny_seqItems e2 d2 ?_))
 simp only [Int.toNat_natCast,hx]
 refine wpAny_bind (wpAny_rule (wpAny_bind (wpAny_setField e1 d1 (by simp) ?_)))
 change wpAny _ _ (newExc (Value.type "StopIteration") [] >>= _) _ _ _
 refine wpAny_bind ?_;simp only [newExc,newTuple]
 refine wpAny_bind (wpAny_newObj_type (wpAny_bind (m:=firstArgMember _ _) (wpAny_of_eq (a:=Value.none) (by first | rfl | (simp only [firstArgMember];rfl)) ?_)) (by size_fits))
 refine wpAny_newObj_type ?_ (by size_fits);simp only [raiseNew]
 refine wpAny_bind (wpAny_handled ?_);first | rw [show A.in1.handled=none from hh] | rw [hh]
 refine wpAny_bind (wpAny_pure (wpAny_throw (q _ _ (((Heap.SameBut.update ..).extBut.push _).push _) ⟨_,Heap.get?_push_size _ rfl,rfl⟩)))
theorem ZL8 (hh:A.handled=none) (it a:Addr) (hne:a≠it) (vs:Array Value) :
  Draws prog w A it [it,a] vs.size (fun i v=>vs[i]?=some v) (fun i h=>h.IsTupleIter it a i∧h.IsTuple a vs) where
 live:=fun _ _ st=>let ⟨o,ho,_⟩:=st.1;⟨o,ho⟩
 frame:=fun _ _ _ st hk=>⟨st.1.at fun o e=>hk it (by simp) o e,let ⟨o,e,r⟩:=st.2;⟨o,hk a (by simp) o e,r⟩⟩
 item:=fun i s Q E hi st hQ=>ZLl st.1 st.2 (x:=vs[i]) (by simp [hi]) fun k st' sb=>hQ _ k s.toks (by simp [hi]) ⟨st',st.2.extBut sb.extBut hne⟩ sb
 done:=fun s Q E st hE=>Zqj hh st.1 st.2 (by simp) hE
end
end L2
namespace L2
open PySem PySem.Spec PyProof.Rows PySem.W
open AutoSeq1 (wpAny_loadPart')
section
variable {prog:Program} {w:World} {A:Around} {E:Value→Shared→Prop} {s:Shared}
theorem ZGx (a:Addr) (vs:Array Value) (n:Nat) (dd:Option Addr) (sl:Array (Option Value)) :
  Meets (Builtin.«enumerate.__new__» ⟨[.type "enumerate",.ref a],[]⟩) (fun _ R s=>s.heap.get? a=some {cls:=.type "tuple",dict:=dd,data:=.seq vs n,slots:=sl}∧
   R (.ok (.ret (.ref (s.heap.push {cls:=.type "tuple_iterator",data:=.fields #[.ref a,.int 0 0]}).objs.size)))
    {s with heap:=(s.heap.push {cls:=.type "tuple_iterator",data:=.fields #[.ref a,.int 0 0]}).push {cls:=.type "enumerate",data:=.fields #[.none,.bool false,.ref s.heap.objs.size,rawInt 0,.none,.none]}}):=
 .of_wp fun prog w A R s h=>by
  obtain ⟨hp,g,d,tk,os⟩:=s;obtain ⟨hl,h⟩:=h
  have hsub:=sub_enumerate
  have hT:Heap.IsTuple (Shared.heap ⟨hp,g,d,tk,os⟩) a vs:=⟨_,hl,rfl,n,rfl⟩
  wp_walk using wpAny_loadPart' hl
  refine wpAny_stack_any fun st=>wpAny_pure ?_
  split
  ·rename_i c _ _ _ _ _
   cases (c == Value.type "enumerate")
   all_goals (wp_walk using wpAny_loadPart' hl,wpAny_pyIter_tuple hT;exact ⟨_,rfl,h⟩)
  ·wp_walk using wpAny_loadPart' hl,wpAny_pyIter_tuple hT;exact ⟨_,rfl,h⟩
theorem ZJX {a:Addr} {vs:Array Value} {Q:Value→Shared→Prop} (ha:s.heap.IsTuple a vs)
  (h:∀ k,IsEnum k (s.heap.objs.size + 1) s.heap.objs.size 0 .none→k.IsTupleIter s.heap.objs.size a 0→(∀ b o,s.heap.get? b=some o→k.get? b=some o)→Q (.ref (s.heap.objs.size + 1)) {s with heap:=k}) :
  wpAny (model prog w) A (call (.type "enumerate") [.ref a]) Q E s:=by
 obtain ⟨⟨c,dd,dt,sl⟩,e,hc,n,hd⟩:=ha
 replace hc:c=.type "tuple":=hc
 replace hd:dt=.seq vs n:=hd
 subst hc hd
 refine callType_new F.called_enumerate (by decide) (F.typeCall_enumerate_1 _) (F.newCall_enumerate_1 _) (fun obj=>F.args_object_init_2 obj _) F.entry_enumerate_new (ZGx a vs n dd sl) ⟨e,?_⟩
 have hz:(s.heap.push {cls:=.type "tuple_iterator",data:=.fields #[.ref a,.int 0 0]}).objs.size=s.heap.objs.size + 1:=Heap.size_push ..
 show _∧_
 rw [hz]
 have he:IsEnum ((s.heap.push {cls:=.type "tuple_iterator",data:=.fields #[.ref a,.int 0 0]}).push {cls:=.type "enumerate",data:=.fields #[.none,.bool false,.ref s.heap.objs.size,rawInt 0,.none,.none]}) (s.heap.objs.size + 1) s.heap.objs.size 0 .none:=by
  have:=Heap.get?_push_size (s.heap.push {cls:=.type "tuple_iterator",data:=.fields #[.ref a,.int 0 0]}) (o:={cls:=.type "enumerate",data:=.fields #[.none,.bool false,.ref s.heap.objs.size,rawInt 0,.none,.none]}) rfl
  rw [hz] at this;exact this
 exact ⟨⟨_,he,rfl⟩,h _ he ⟨_,Heap.get?_push_of_some _ (Heap.get?_push_size _ rfl),rfl,rfl⟩ fun b o x=>Heap.get?_push_of_some _ (Heap.get?_push_of_some _ x)⟩
end
theorem ZHy {P:Program} {w:World} {H:Hp} {h:Heap} {T:Addr} {xs:List V} {vs:Array Value} (hT:h.IsTuple T vs) (r:Vals xs vs.toList) (hz:xs.length≤sizeLine):ZaB P w H h T (.tup xs):=by
 exact ⟨hz,vs.toList,r,hT⟩
def IteT (K:Frag) (a:Addr):It:=
 ⟨fun i H=>∃ xs x,SqT K H a xs∧xs[i]?=some x,fun i H x H'=>∃ t y,H t=none∧x=.ref t∧(∀ xs,SqT K H a xs→xs[i]?=some y)∧H'=upd H t (.tup [.int (i:Nat),y]),fun i H=>∃ xs,SqT K H a xs∧xs.length≤i⟩
theorem ZIE {P:Program} {w:World} {K:Frag} {elts:List Expr} {k:Nat} {pos:Pos} (a e it:Addr) (h1:a≠it) (h2:e≠it) (h3:a≠e):Turn P w K (.Tuple elts k pos) (IteT K a) [e,it] e (fun i h=>(∃ old,IsEnum h e it i old)∧h.IsTupleIter it a i) where
 mem:=by simp
 obj:=fun i h st b hb=>by
  obtain ⟨⟨old,he⟩,o,ho,hc,hd⟩:=st
  rcases List.mem_cons.mp hb with rfl | hb
  ·exact ⟨_,he,fun v z=>by cases z⟩
  ·have z:b=it:=by simpa using hb
   subst z
   exact ⟨o,ho,fun v z=>by rw [hd] at z;cases z⟩
 keep:=fun i h h' st k=>by
  obtain ⟨⟨old,he⟩,st⟩:=st
  exact ⟨⟨old,k e (by simp) _ he⟩,st.at fun o x=>k it (by simp) o x⟩
 item:=by
  intro X hP hw hK hc i pins s σ H E I hf st hg
  subst hP hw hK
  obtain ⟨xs,x,hq,hx⟩:=hg
  obtain ⟨its,rv,p,hz⟩:=I.tuple hq
  obtain ⟨u,hu,ru⟩:=rv.get hx
  have hi:i < its.length:=(List.getElem?_eq_some_iff.mp hu).1
  have W:=WalksT.enumerateD (prog:=X.prog) (w:=X.w) (A:=X.A) (ZL8 (A:=X.A.in1) (by first | exact I.ok.hd hc | exact (I.ok.hd hc)) it a h1 its.toArray) e h2 (by simp [h2,h3.symm]) (by simp)
  refine W.item i s _ _ (by simpa using hi) ⟨st.1,st.2,p⟩ fun T vals h' tk hv hT hI hM hk=>?_
  obtain ⟨t,y,hy,rfl⟩:=hv
  have hyu:y=u:=by
   have:its[i]?=some y:=by simpa using hy
   rw [hu] at this
   exact (Option.some.inj this).symm
  subst hyu
  refine ⟨_,rfl,W.go elts k pos i T _ _ _ hM fun h'' st'' hk''=>?_⟩
  have hTw:=W.apart i T h' hM
  have hT'':h''.IsTuple T #[.int i t,y]:=let ⟨o,e1,r⟩:=hI;⟨o,hk'' T o hTw e1,r⟩
  have hTn:H T=none:=I.hok.fresh hT
  refine ⟨.ref T,_,I.turnedT (t':=tk) (wr:=[e,it]) hf (fun b o hb q=>hk'' b o hb (hk b o hb q)) hT (ZHy (xs:=[.int (i:Nat),x]) hT'' (.cons ⟨t,rfl⟩ (.cons ru .nil)) (by show 2≤sizeLine;decide)),rfl,⟨T,x,hTn,rfl,fun ys hy=>by rw [I.tuple_inj hy hq];exact hx,rfl⟩,⟨st''.1,st''.2.1⟩,fun b hb=>?_⟩
  have hbT:b≠T:=fun z=>hTw (by rw [← z];exact hb)
  show upd H T _ b=none
  rw [Zd hbT]
  exact (hf b hb).1
 done:=by
  intro X hP hw hK hc i pins s σ H E I hf st hg
  subst hP hw hK
  obtain ⟨xs,hq,hx⟩:=hg
  obtain ⟨its,rv,p,hz⟩:=I.tuple hq
  have hl:=rv.length
  obtain ⟨⟨old,he⟩,st2⟩:=st
  have hT:s.TypeIs (.ref e) "enumerate":=⟨_,he,rfl⟩
  unfold pyNext
  refine wpAny_bind (wpAny_attempt (wpAny_callSpecial?_slot (name:=Str.ofString "__next__") hT F.slot_enumerate_next (wpAny_call_entry F.slot_enumerate_next hT F.entry_enumerate_next ?_ (F.args_enumerate_next_1 _))))
  change wpAny _ _ (field (Value.ref e) 2 >>= _) _ _ _
  refine wpAny_bind (wpAny_field he rfl (x:=.ref it) rfl (wpAny_bind (Zqj (I.ok.hd hc) st2 (show s.heap.IsTuple a its.toArray from p) (by simp;omega) fun h' x hb hx'=>?_)))
  obtain ⟨o,ho,hcl⟩:=hx'
  refine wpAny_bind (wpAny_isInstance (T:="StopIteration") (b:=true) ⟨o,ho,hcl⟩ isSubtype_stop (wpAny_pure ⟨rfl,I.turnedL (t':=s.toks) (wr:=[e,it]) hf fun b o hn q=>hb b o (fun z=>hn (by simp [z])) q⟩))
 self:=fun _ _ _ _ _ st h=>by obtain ⟨⟨old,he⟩,_⟩:=st;exact wpAny_pyIter_enum he h
def ZRo (K:Frag) (ta:TA):TI:=fun σ H R=>ta σ H fun vs H1=>∃ a,vs=[.ref a]∧(∃ xs,SqT K H1 a xs)∧R (IteT K a) H1
theorem ZCz {X:Cx} {elts:List Expr} {k:Nat} {tp:Pos} {a:Expr} {ta:TA} {p pos:Pos} (hg:Gl X "enumerate") (hm:X.mg "enumerate"=none) (ha:PA X [a] ta) (hs:starEach [a] X.env=[(false,eval a X.env)]:=by rfl):PI X (.Tuple elts k tp) (.Call (.Name "enumerate" p) [a] [] pos) (ZRo X.K ta):=by
 try unfold PA at *
 intro pins s σ H R I h
 refine Call_ (ZuP I hg hm PyProof.Rows.Boot.«enumerate» (PyProof.Rows.callWith_type1 (thn (ha pos pins s σ H _ I h) fun us s1 ⟨vs,H1,I1,r1,q1⟩=>?_) hs rfl))
 obtain ⟨a,e,⟨xs,hq⟩,q⟩:=q1
 subst e
 cases r1 with
 | cons r rr=>
  cases rr
  cases (show _=Value.ref a from r)
  obtain ⟨its,rv,p,hz⟩:=I1.tuple hq
  have hlt:a < s1.heap.objs.size:=by obtain ⟨o,e,_⟩:=p;exact Heap.lt_size e
  refine ZJX (show s1.heap.IsTuple a its.toArray from p) fun k he st kk=>?_
  refine wpAny_pyIter_enum he ?_
  refine ⟨s1.heap.objs.size + 1,[s1.heap.objs.size + 1,s1.heap.objs.size],_,_,H1,rfl,I1.kept (t':=s1.toks) kk,ZIE a _ _ (Nat.ne_of_lt hlt) (Nat.succ_ne_self _) (Nat.ne_of_lt (Nat.lt_succ_of_lt hlt)),⟨⟨_,he⟩,st⟩,fun b hb=>?_,q⟩
  have hb':s1.heap.objs.size≤b:=by
   rcases List.mem_cons.mp hb with rfl | hb
   ·exact Nat.le_succ _
   ·have:b=s1.heap.objs.size:=by simpa using hb
    exact Nat.le_of_eq this.symm
  exact I1.fpOk hb' (I1.hok.fresh hb')
end L2
namespace L2
open PySem PySem.Spec PyProof.Rows PySem.W
open AutoSeq1 (wpAny_loadPart')
section
variable {prog:Program} {w:World} {A:Around} {E:Value→Shared→Prop} {s:Shared}
theorem ZOW {z ti tu i1 i2 l1 l2:Addr} {k:Nat} {xs ys:Array Value} {x y a b:Value} {Q:Value→Shared→Prop} (D:ZipApart z ti tu i1 i2 l1 l2)
  (hz:IsZip s.heap z ti tu .none) (hti:IsPair s.heap ti (.ref i1) (.ref i2)) (htu:IsPair s.heap tu a b)
  (g1:s.heap.IsTupleIter i1 l1 k) (g2:s.heap.IsListIter i2 l2 k) (hl1:s.heap.IsTuple l1 xs) (hl2:s.heap.IsList l2 ys) (hx:xs[k]?=some x) (hy:ys[k]?=some y)
  (q:∀ m,IsZip m z ti tu (rawInt s.heap.objs.size)→IsPair m tu x y→m.IsTupleIter i1 l1 (k + 1)→m.IsListIter i2 l2 (k + 1)→IsPair m s.heap.objs.size x y→
   (∀ c o,c≠z→c≠tu→c≠i1→c≠i2→s.heap.get? c=some o→m.get? c=some o)→Q (.ref s.heap.objs.size) {s with heap:=m}) :
  wpAny (model prog w) A (Builtin.«zip.__next__» ⟨[.ref z],[]⟩) (fun fin t=>∃ v,fin=.done (.ret v)∧Q v t) E s:=by
 change wpAny _ _ (field (Value.ref z) 2 >>= _) _ _ _
 refine wpAny_bind (wpAny_field hz rfl (x:=.bool false) rfl ?_)
 change wpAny _ _ (field (Value.ref z) 3 >>= _) _ _ _
 refine wpAny_bind (wpAny_field hz rfl (x:=.ref ti) rfl (wpAny_bind (wpAny_seqItems hti rfl ?_)))
 change wpAny _ _ (Builtin.SmallTypes.ownedTupleIsFree (Value.ref z) >>= _) _ _ _
 refine wpAny_bind ?_;unfold Builtin.SmallTypes.ownedTupleIsFree
 refine wpAny_bind (wpAny_field hz rfl (x:=.none) rfl (wpAny_pure ?_));simp only [if_true]
 refine wpAny_bind (wpAny_rule (wpAny_bind (wpAny_field hz rfl (x:=.ref tu) rfl ?_)))
 refine wpAny_bind (wpAny_setField_rec hz (by simp) fun m1 z1 b1=>?_)
 replace z1:IsZip m1 z ti tu .ellipsis:=z1
 refine wpAny_bind ?_;simp only [List.zipIdx_cons,List.zipIdx_nil,List.forIn_cons,List.forIn_nil]
 refine wpAny_bind (wpAny_bind (wpAny_onRaise ?_))
 change wpAny _ _ (Builtin.SmallTypes.nextOf (Value.ref i1) >>= _) _ _ _
 refine wpAny_bind (ZLl (g1.extBut b1.extBut D.i1z) (hl1.extBut b1.extBut D.l1z) hx fun m2 g12 b2=>wpAny_pure ?_)
 have p2:IsPair m2 tu a b:=b2.extBut _ _ D.TOi1 (b1.extBut _ _ D.TOz htu)
 refine wpAny_bind (wpAny_seqItems p2 rfl (wpAny_bind (wpAny_updateSeq_pair p2 fun m3 p3 b3=>?_)))
 replace p3:IsPair m3 tu x b:=p3
 refine wpAny_bind (wpAny_letGo (wpAny_pure (wpAny_bind (wpAny_bind (wpAny_onRaise ?_)))))
 change wpAny _ _ (Builtin.SmallTypes.nextOf (Value.ref i2) >>= _) _ _ _
 have g23:=((g2.extBut b1.extBut D.i2z).extBut b2.extBut D.i12.symm).extBut b3.extBut D.TOi2.symm
 have l23:=((hl2.extBut b1.extBut D.l2z).extBut b2.extBut D.l2i1).extBut b3.extBut D.l2TO
 refine wpAny_bind (wpAny_nextOf_list_item g23 l23 hy fun m4 g24 b4=>wpAny_pure ?_)
 have p4:IsPair m4 tu x b:=b4.extBut _ _ D.TOi2 p3
 refine wpAny_bind (wpAny_seqItems p4 rfl (wpAny_bind (wpAny_updateSeq_pair p4 fun m5 p5 b5=>?_)))
 replace p5:IsPair m5 tu x y:=p5
 refine wpAny_bind (wpAny_letGo (wpAny_pure (wpAny_pure (wpAny_bind (wpAny_seqItems p5 rfl (wpAny_bind (wpAny_newTuple ?_)))))))
 have es:m5.objs.size=s.heap.objs.size:=by rw [b5.1,b4.1,b3.1,b2.1,b1.1]
 have z5:IsZip m5 z ti tu .ellipsis:=b5.extBut _ _ D.TOz.symm (b4.extBut _ _ D.i2z.symm (b3.extBut _ _ D.TOz.symm (b2.extBut _ _ D.i1z.symm z1)))
 have k5:∀ c o,c≠z→c≠tu→c≠i1→c≠i2→s.heap.get? c=some o→m5.get? c=some o:=fun c o c1 c2 c3 c4 e=>b5.extBut _ _ c2 (b4.extBut _ _ c4 (b3.extBut _ _ c2 (b2.extBut _ _ c3 (b1.extBut _ _ c1 e))))
 have g15:m5.IsTupleIter i1 l1 (k + 1):=((g12.extBut b3.extBut D.TOi1.symm).extBut b4.extBut D.i12).extBut b5.extBut D.TOi1.symm
 have g25:m5.IsListIter i2 l2 (k + 1):=g24.extBut b5.extBut D.TOi2.symm
 have zl:z < m5.objs.size:=Heap.lt_size z5
 change wpAny _ _ (Builtin.SmallTypes.ownedTupleHandOut (Value.ref z) (Value.ref m5.objs.size) >>= _) _ _ _
 refine wpAny_bind ?_;unfold Builtin.SmallTypes.ownedTupleHandOut
 have z6:IsZip (m5.push {cls:=.type "tuple",data:=.seq #[x,y]}) z ti tu .ellipsis:=Heap.get?_push_of_some _ z5
 refine wpAny_bind (wpAny_setField_rec z6 (by simp) fun m7 z7 b7=>?_)
 replace z7:IsZip m7 z ti tu (rawInt m5.objs.size):=z7
 refine wpAny_setField_rec z7 (by simp) fun m8 z8 b8=>?_
 replace z8:IsZip m8 z ti tu (rawInt m5.objs.size):=z8
 have up:∀ c o,c≠z→m5.get? c=some o→m8.get? c=some o:=fun c o c1 e=>b8.extBut _ _ c1 (b7.extBut _ _ c1 (Heap.get?_push_of_some _ e))
 have T8:IsPair m8 m5.objs.size x y:=b8.extBut _ _ (Nat.ne_of_gt zl) (b7.extBut _ _ (Nat.ne_of_gt zl) (Heap.get?_push_size _ rfl))
 rw [es] at z8 T8
 refine wpAny_pure ⟨_,rfl,?_⟩
 show Q (.ref m5.objs.size) _
 rw [es]
 exact q m8 z8 (up _ _ D.TOz p5) (g15.at fun o e=>up _ o D.i1z e) (g25.at fun o e=>up _ o D.i2z e) T8 fun c o c1 c2 c3 c4 e=>up c o c1 (k5 c o c1 c2 c3 c4 e)
theorem ZQn {z ti tu i1 i2 l1 l2:Addr} {k:Nat} {xs ys:Array Value} {a b:Value} {Q:PySem.Fin→Shared→Prop} (hh:A.handled=none) (D:ZipApart z ti tu i1 i2 l1 l2)
  (hz:IsZip s.heap z ti tu .none) (hti:IsPair s.heap ti (.ref i1) (.ref i2)) (htu:IsPair s.heap tu a b)
  (g1:s.heap.IsTupleIter i1 l1 k) (g2:s.heap.IsListIter i2 l2 k) (hl1:s.heap.IsTuple l1 xs) (hl2:s.heap.IsList l2 ys) (he:xs[k]?=none∨ys[k]?=none)
  (q:∀ m e,(∀ c o,c≠z→c≠tu→c≠i1→c≠i2→s.heap.get? c=some o→m.get? c=some o)→(∃ o,m.get? e=some o∧o.cls=.type "StopIteration")→E (.ref e) {s with heap:=m}) :
  wpAny (model prog w) A (Builtin.«zip.__next__» ⟨[.ref z],[]⟩) Q E s:=by
 change wpAny _ _ (field (Value.ref z) 2 >>= _) _ _ _
 refine wpAny_bind (wpAny_field hz rfl (x:=.bool false) rfl ?_)
 change wpAny _ _ (field (Value.ref z) 3 >>= _) _ _ _
 refine wpAny_bind (wpAny_field hz rfl (x:=.ref ti) rfl (wpAny_bind (wpAny_seqItems hti rfl ?_)))
 change wpAny _ _ (Builtin.SmallTypes.ownedTupleIsFree (Value.ref z) >>= _) _ _ _
 refine wpAny_bind ?_;unfold Builtin.SmallTypes.ownedTupleIsFree
 refine wpAny_bind (wpAny_field hz rfl (x:=.none) rfl (wpAny_pure ?_));simp only [if_true]
 refine wpAny_bind (wpAny_rule (wpAny_bind (wpAny_field hz rfl (x:=.ref tu) rfl ?_)))
 refine wpAny_bind (wpAny_setField_rec hz (by simp) fun m1 z1 b1=>?_)
 replace z1:IsZip m1 z ti tu .ellipsis:=z1
 refine wpAny_bind ?_;simp only [List.zipIdx_cons,List.zipIdx_nil,List.forIn_cons,List.forIn_nil]
 refine wpAny_bind (wpAny_bind (wpAny_onRaise ?_))
 change wpAny _ _ (Builtin.SmallTypes.nextOf (Value.ref i1) >>= _) _ _ _
 cases hx:xs[k]? with
 | none=>
  refine wpAny_bind (Zqj hh (g1.extBut b1.extBut D.i1z) (hl1.extBut b1.extBut D.l1z) hx fun m2 e b2 hE=>?_)
  obtain ⟨u,hu,hc⟩:=hE
  have z2:IsZip m2 z ti tu .ellipsis:=b2 _ _ D.i1z.symm z1
  have ez:e≠z:=fun y=>by subst y;rw [z2] at hu;cases hu;simp at hc
  exact wpAny_setField_rec z2 (by simp) fun m3 _ b3=>q m3 e (fun c o c1 _ c3 _ y=>b3.extBut _ _ c1 (b2 _ _ c3 (b1.extBut _ _ c1 y))) ⟨u,b3.extBut _ _ ez hu,hc⟩
 | some x=>
  have hy:ys[k]?=none:=by
   rcases he with h | h
   ·rw [hx] at h;cases h
   ·exact h
  refine wpAny_bind (ZLl (g1.extBut b1.extBut D.i1z) (hl1.extBut b1.extBut D.l1z) hx fun m2 g12 b2=>wpAny_pure ?_)
  have p2:IsPair m2 tu a b:=b2.extBut _ _ D.TOi1 (b1.extBut _ _ D.TOz htu)
  refine wpAny_bind (wpAny_seqItems p2 rfl (wpAny_bind (wpAny_updateSeq_pair p2 fun m3 p3 b3=>?_)))
  refine wpAny_bind (wpAny_letGo (wpAny_pure (wpAny_bind (wpAny_bind (wpAny_onRaise ?_)))))
  change wpAny _ _ (Builtin.SmallTypes.nextOf (Value.ref i2) >>= _) _ _ _
  have g23:=((g2.extBut b1.extBut D.i2z).extBut b2.extBut D.i12.symm).extBut b3.extBut D.TOi2.symm
  have l23:=((hl2.extBut b1.extBut D.l2z).extBut b2.extBut D.l2i1).extBut b3.extBut D.l2TO
  refine wpAny_bind (wpAny_nextOf_list_end hh g23 l23 hy fun m4 e b4 hE=>?_)
  obtain ⟨u,hu,hc⟩:=hE
  have z4:IsZip m4 z ti tu .ellipsis:=b4 _ _ D.i2z.symm (b3.extBut _ _ D.TOz.symm (b2.extBut _ _ D.i1z.symm z1))
  have ez:e≠z:=fun y=>by subst y;rw [z4] at hu;cases hu;simp at hc
  exact wpAny_setField_rec z4 (by simp) fun m5 _ b5=>q m5 e (fun c o c1 c2 c3 c4 y=>b5.extBut _ _ c1 (b4 _ _ c4 (b3.extBut _ _ c2 (b2.extBut _ _ c3 (b1.extBut _ _ c1 y))))) ⟨u,b5.extBut _ _ ez hu,hc⟩
abbrev zq1 (h:Heap) (a:Addr):Heap:=h.push {cls:=.type "tuple_iterator",data:=.fields #[.ref a,.int 0 0]}
abbrev zq2 (h:Heap) (a b:Addr):Heap:=(zq1 h a).push {cls:=.type "list_iterator",data:=.fields #[.ref b,.int 0 0]}
abbrev zq3 (h:Heap) (a b:Addr):Heap:=(zq2 h a b).push {cls:=.type "tuple",data:=.seq #[.ref h.objs.size,.ref (zq1 h a).objs.size]}
abbrev zq4 (h:Heap) (a b:Addr):Heap:=(zq3 h a b).push {cls:=.type "tuple",data:=.seq #[.none,.none]}
abbrev zq5 (h:Heap) (a b:Addr):Heap:=(zq4 h a b).push {cls:=.type "zip",data:=.fields #[.none,.bool false,.bool false,.ref (zq2 h a b).objs.size,.ref (zq3 h a b).objs.size]}
theorem ZGw (a b:Addr) (xs ys:Array Value) :
  Meets (Builtin.«zip.__new__» ⟨[.type "zip",.ref a,.ref b],[]⟩) (fun _ R s=>s.heap.IsTuple a xs∧s.heap.IsList b ys∧R (.ok (.ret (.ref (zq4 s.heap a b).objs.size))) {s with heap:=zq5 s.heap a b}):=
 .of_wp fun prog w A R s h=>by
  obtain ⟨hp,g,d,tk,os⟩:=s;obtain ⟨ha,hb,h⟩:=h
  have hsub:=sub_zip
  have hA:Heap.IsTuple (Shared.heap ⟨hp,g,d,tk,os⟩) a xs:=ha
  have hB:Heap.IsList (Shared.heap ⟨hp.push {cls:=.type "tuple_iterator",data:=.fields #[.ref a,.int 0 0]},g,d,tk,os⟩) b ys:=Heap.IsList.push hb _
  wp_walk using wpAny_pyIter_tuple hA,wpAny_pyIter_list hB
  exact ⟨_,rfl,h⟩
theorem ZJV {a b:Addr} {xs ys:Array Value} {Q:Value→Shared→Prop} (ha:s.heap.IsTuple a xs) (hb:s.heap.IsList b ys)
  (h:∀ m,IsZip m (s.heap.objs.size + 4) (s.heap.objs.size + 2) (s.heap.objs.size + 3) .none→IsPair m (s.heap.objs.size + 2) (.ref s.heap.objs.size) (.ref (s.heap.objs.size + 1))→
   IsPair m (s.heap.objs.size + 3) .none .none→m.IsTupleIter s.heap.objs.size a 0→m.IsListIter (s.heap.objs.size + 1) b 0→(∀ c o,s.heap.get? c=some o→m.get? c=some o)→Q (.ref (s.heap.objs.size + 4)) {s with heap:=m}) :
  wpAny (model prog w) A (call (.type "zip") [.ref a,.ref b]) Q E s:=by
 refine callType_new F.called_zip (by decide) (F.typeCall_zip_2 _ _) (F.newCall_zip_2 _ _) (fun obj=>F.args_object_init_3 obj _ _) F.entry_zip_new (ZGw a b xs ys) ⟨ha,hb,?_⟩
 have y1:(zq1 s.heap a).objs.size=s.heap.objs.size + 1:=Heap.size_push ..
 have y2:(zq2 s.heap a b).objs.size=s.heap.objs.size + 2:=by rw [Heap.size_push,y1]
 have y3:(zq3 s.heap a b).objs.size=s.heap.objs.size + 3:=by rw [Heap.size_push,y2]
 have y4:(zq4 s.heap a b).objs.size=s.heap.objs.size + 4:=by rw [Heap.size_push,y3]
 have f5:(zq5 s.heap a b).get? (zq4 s.heap a b).objs.size=some _:=Heap.get?_push_size _ rfl
 have f4:(zq5 s.heap a b).get? (zq3 s.heap a b).objs.size=some _:=Heap.get?_push_of_some _ (Heap.get?_push_size _ rfl)
 have f3:(zq5 s.heap a b).get? (zq2 s.heap a b).objs.size=some _:=Heap.get?_push_of_some _ (Heap.get?_push_of_some _ (Heap.get?_push_size _ rfl))
 have f2:(zq5 s.heap a b).get? (zq1 s.heap a).objs.size=some _:=Heap.get?_push_of_some _ (Heap.get?_push_of_some _ (Heap.get?_push_of_some _ (Heap.get?_push_size _ rfl)))
 have f1:(zq5 s.heap a b).get? s.heap.objs.size=some _:=Heap.get?_push_of_some _ (Heap.get?_push_of_some _ (Heap.get?_push_of_some _ (Heap.get?_push_of_some _ (Heap.get?_push_size _ rfl))))
 show _∧_
 rw [y2,y3,y4] at f5
 rw [y1,y2] at f3
 rw [y3] at f4
 rw [y1] at f2
 rw [y4]
 exact ⟨⟨_,f5,rfl⟩,h _ f5 f3 f4 ⟨_,f1,rfl,rfl⟩ ⟨_,f2,rfl,rfl⟩ fun c o e=>Heap.get?_push_of_some _ (Heap.get?_push_of_some _ (Heap.get?_push_of_some _ (Heap.get?_push_of_some _ (Heap.get?_push_of_some _ e))))⟩
end
def Itz (K:Frag) (a b:Addr):It:=
  ⟨fun i H=>∃ xs ys x y,SqT K H a xs∧SqL K H b ys∧xs[i]?=some x∧ys[i]?=some y,fun i H v H'=>∃ t x y,H t=none∧v=.ref t∧(∀ xs,SqT K H a xs→xs[i]?=some x)∧(∀ ys,SqL K H b ys→ys[i]?=some y)∧H'=upd H t (.tup [x,y]),
   fun i H=>∃ xs ys,SqT K H a xs∧SqL K H b ys∧(xs.length≤i∨ys.length≤i)⟩
theorem ZMN {P:Program} {w:World} {K:Frag} {elts:List Expr} {kk:Nat} {pos:Pos} (z ti tu i1 i2 a b:Addr) (D:ZipApart z ti tu i1 i2 a b) :
  Turn P w K (.Tuple elts kk pos) (Itz K a b) [z,ti,tu,i1,i2] z (fun i h=>IsZip h z ti tu .none∧IsPair h ti (.ref i1) (.ref i2)∧(∃ x y,IsPair h tu x y)∧h.IsTupleIter i1 a i∧h.IsListIter i2 b i) where
 mem:=by simp
 obj:=fun i h st c hc=>by
  obtain ⟨h1,h2,⟨x,y,h3⟩,⟨o4,e4,_,d4⟩,⟨o5,e5,_,d5⟩⟩:=st
  simp only [List.mem_cons,List.not_mem_nil,or_false] at hc
  rcases hc with rfl | rfl | rfl | rfl | rfl
  ·exact ⟨_,h1,fun v q=>by cases q⟩
  ·exact ⟨_,h2,fun v q=>by cases q⟩
  ·exact ⟨_,h3,fun v q=>by cases q⟩
  ·exact ⟨_,e4,fun v q=>by rw [d4] at q;cases q⟩
  ·exact ⟨_,e5,fun v q=>by rw [d5] at q;cases q⟩
 keep:=fun i h h' st k=>by
  obtain ⟨h1,h2,⟨x,y,h3⟩,h4,h5⟩:=st
  exact ⟨k z (by simp) _ h1,k ti (by simp) _ h2,⟨x,y,k tu (by simp) _ h3⟩,h4.at fun o e=>k i1 (by simp) o e,h5.at fun o e=>k i2 (by simp) o e⟩
 item:=by
  intro X hP hw hK hc i pins s σ H E I hf st hg
  subst hP hw hK
  obtain ⟨xs,ys,x,y,hq1,hq2,hx,hy⟩:=hg
  obtain ⟨us,rv1,p1,_⟩:=I.tuple hq1
  obtain ⟨vs,rv2,p2,_⟩:=I.list hq2
  obtain ⟨u,hu,ru⟩:=rv1.get hx
  obtain ⟨v,hv,rv⟩:=rv2.get hy
  obtain ⟨h1,h2,⟨a0,b0,h3⟩,h4,h5⟩:=st
  have hT:s.TypeIs (.ref z) "zip":=⟨_,h1,rfl⟩
  unfold pyNext
  refine wpAny_bind (wpAny_attempt (wpAny_callSpecial?_slot (name:=Str.ofString "__next__") hT F.slot_zip_next (wpAny_call_entry F.slot_zip_next hT F.entry_zip_next
   (ZOW D h1 h2 h3 h4 h5 (show s.heap.IsTuple a us.toArray from p1) p2.isList (x:=u) (y:=v) (by simpa using hu) (by simpa using hv) fun m z1 q1 g1 g2 T1 kk1=>wpAny_pure ?_) (F.args_zip_next_1 _))))
  refine ⟨_,rfl,wpAny_letOwnedTupleGo_zip (s:={s with heap:=m}) z1 fun m' z2 sb=>?_⟩
  have lz:z < s.heap.objs.size:=Heap.lt_size h1
  have lti:ti < s.heap.objs.size:=Heap.lt_size h2
  have ltu:tu < s.heap.objs.size:=Heap.lt_size h3
  have l1:i1 < s.heap.objs.size:=by obtain ⟨_,e,_⟩:=h4;exact Heap.lt_size e
  have l2:i2 < s.heap.objs.size:=by obtain ⟨_,e,_⟩:=h5;exact Heap.lt_size e
  have kp:∀ c o,c ∉ [z,ti,tu,i1,i2]→s.heap.get? c=some o→m'.get? c=some o:=fun c o hn e=>by
   simp only [List.mem_cons,List.not_mem_nil,or_false,not_or] at hn
   exact sb.extBut _ _ hn.1 (kk1 c o hn.1 hn.2.2.1 hn.2.2.2.1 hn.2.2.2.2 e)
  have T2:m'.IsTuple s.heap.objs.size #[u,v]:=⟨_,sb.extBut _ _ (Nat.ne_of_gt lz) T1,rfl,_,rfl⟩
  refine ⟨.ref s.heap.objs.size,_,I.turnedT (t':=s.toks) (wr:=[z,ti,tu,i1,i2]) hf kp (Nat.le_refl _) (ZHy (xs:=[x,y]) T2 (.cons ru (.cons rv .nil)) (by show 2≤sizeLine;decide)),rfl,
   ⟨_,x,y,I.hok.fresh (Nat.le_refl _),rfl,fun ys' hy'=>by rw [I.tuple_inj hy' hq1];exact hx,fun ys' hy'=>by rw [I.list_inj hy' hq2];exact hy,rfl⟩,?_,fun c hc=>?_⟩
  ·refine ⟨z2,sb.extBut _ _ D.TIz (kk1 _ _ D.TIz D.TITO D.TIi1 D.TIi2 h2),⟨u,v,sb.extBut _ _ D.TOz q1⟩,g1.extBut sb.extBut D.i1z,g2.extBut sb.extBut D.i2z⟩
  ·have:c≠s.heap.objs.size:=by
    simp only [List.mem_cons,List.not_mem_nil,or_false] at hc
    rcases hc with rfl | rfl | rfl | rfl | rfl
    ·exact Nat.ne_of_lt lz
    ·exact Nat.ne_of_lt lti
    ·exact Nat.ne_of_lt ltu
    ·exact Nat.ne_of_lt l1
    ·exact Nat.ne_of_lt l2
   show upd H _ _ c=none
   rw [Zd this]
   exact (hf c hc).1
 done:=by
  intro X hP hw hK hc i pins s σ H E I hf st hg
  subst hP hw hK
  obtain ⟨xs,ys,hq1,hq2,hl⟩:=hg
  obtain ⟨us,rv1,p1,_⟩:=I.tuple hq1
  obtain ⟨vs,rv2,p2,_⟩:=I.list hq2
  have e1:=rv1.length
  have e2:=rv2.length
  obtain ⟨h1,h2,⟨a0,b0,h3⟩,h4,h5⟩:=st
  have hT:s.TypeIs (.ref z) "zip":=⟨_,h1,rfl⟩
  unfold pyNext
  refine wpAny_bind (wpAny_attempt (wpAny_callSpecial?_slot (name:=Str.ofString "__next__") hT F.slot_zip_next (wpAny_call_entry F.slot_zip_next hT F.entry_zip_next
   (ZQn (I.ok.hd hc) D h1 h2 h3 h4 h5 (show s.heap.IsTuple a us.toArray from p1) p2.isList (by simp;omega) fun m e kk1 hE=>?_) (F.args_zip_next_1 _))))
  obtain ⟨o,ho,hcl⟩:=hE
  refine wpAny_bind (wpAny_isInstance (T:="StopIteration") (b:=true) ⟨o,ho,hcl⟩ isSubtype_stop (wpAny_pure ⟨rfl,I.turnedL (t':=s.toks) (wr:=[z,ti,tu,i1,i2]) hf fun c o hn q=>?_⟩))
  simp only [List.mem_cons,List.not_mem_nil,or_false,not_or] at hn
  exact kk1 c o hn.1 hn.2.2.1 hn.2.2.2.1 hn.2.2.2.2 q
 self:=fun _ _ _ _ _ st h=>wpAny_pyIter_zip st.1 h
def iZip (K:Frag) (ta:TA):TI:=fun σ H R=>ta σ H fun vs H1=>∃ a b,vs=[.ref a,.ref b]∧(∃ xs,SqT K H1 a xs)∧(∃ ys,SqL K H1 b ys)∧R (Itz K a b) H1
theorem ZQW {X:Cx} {elts:List Expr} {kk:Nat} {tp:Pos} {a b:Expr} {ta:TA} {p pos:Pos} (hg:Gl X "zip") (hm:X.mg "zip"=none) (ha:PA X [a,b] ta) (hs:starEach [a,b] X.env=[(false,eval a X.env),(false,eval b X.env)]:=by rfl) (hs2:starEach [b] X.env=[(false,eval b X.env)]:=by rfl):PI X (.Tuple elts kk tp) (.Call (.Name "zip" p) [a,b] [] pos) (iZip X.K ta):=by
 try unfold PA at *
 intro pins s σ H R I h
 refine Call_ (ZuP I hg hm PyProof.Rows.Boot.«zip» (PyProof.Rows.callWith_type1 (thn (ha pos pins s σ H _ I h) fun us s1 ⟨vs,H1,I1,r1,q1⟩=>?_) (by rw [hs,hs2]) (by rw [hs2];rfl)))
 obtain ⟨a,b,e,⟨xs,hq1⟩,⟨ys,hq2⟩,q⟩:=q1
 subst e
 cases r1 with
 | cons r rr=>
  cases rr with
  | cons r' rr=>
   cases rr
   cases (show _=Value.ref a from r)
   cases (show _=Value.ref b from r')
   obtain ⟨us,rv1,p1,_⟩:=I1.tuple hq1
   obtain ⟨vs,rv2,p2,_⟩:=I1.list hq2
   have la:a < s1.heap.objs.size:=by obtain ⟨o,e,_⟩:=p1;exact Heap.lt_size e
   have lb:b < s1.heap.objs.size:=by obtain ⟨o,e,_⟩:=p2.isList;exact Heap.lt_size e
   refine ZJV (show s1.heap.IsTuple a us.toArray from p1) p2.isList fun m h1 h2 h3 h4 h5 kp=>?_
   refine wpAny_pyIter_zip h1 ?_
   refine ⟨_,[s1.heap.objs.size + 4,s1.heap.objs.size + 2,s1.heap.objs.size + 3,s1.heap.objs.size,s1.heap.objs.size + 1],_,_,H1,rfl,I1.kept (t':=s1.toks) kp,ZMN _ _ _ _ _ a b (zipApart_new la lb),⟨h1,h2,⟨_,_,h3⟩,h4,h5⟩,fun c hc=>?_,q⟩
   have hb':s1.heap.objs.size≤c:=by
    simp only [List.mem_cons,List.not_mem_nil,or_false] at hc
    rcases hc with rfl | rfl | rfl | rfl | rfl
    ·exact Nat.le_add_right _ _
    ·exact Nat.le_add_right _ _
    ·exact Nat.le_add_right _ _
    ·exact Nat.le_refl _
    ·exact Nat.le_add_right _ _
   exact I1.fpOk hb' (I1.hok.fresh hb')
end L2
namespace L2
open PySem PySem.Spec PyProof.Rows PySem.W
section
variable {prog:Program} {w:World} {A:Around} {E:Value→Shared→Prop} {s:Shared}
theorem ZRl {v d:Addr} {ob:Obj} {es:Array DictEntry} {ep:Nat} {Q:Value→Shared→Prop} (hv:s.heap.IsItemsView v d) (e:s.heap.get? d=some ob) (dd:ob.data=.dict es ep)
  (q:Q (.ref s.heap.objs.size) {s with heap:=s.heap.push {cls:=.type "dict_itemiterator",data:=.fields #[.none,.bool false,.ref d,.int 0 0,.int es.size 0,.int ep 0,.none,.none]}}):wpAny (model prog w) A (pyIter (.ref v)) Q E s:=by
 have tv:=hv.typeIs
 obtain ⟨oV,e1,c1,d1⟩:=hv
 refine wpAny_pyIter_slot tv F.slot_dict_items_iter (wpAny_call_entry F.slot_dict_items_iter tv F.entry_dict_items_iter ?_ (F.args_dict_items_iter_1 _))
 unfold Builtin.«dict_items.__iter__» Builtin.Dict_items.dictOf Builtin.Dict_items.newIterator
 refine wpAny_bind (wpAny_pure (wpAny_bind (wpAny_bind (wpAny_field e1 d1 (x:=.ref d) rfl (wpAny_pure ?_)))))
 refine wpAny_bind (wpAny_bind (wpAny_dictEntries e dd (wpAny_bind (wpAny_dictEpoch e dd ?_))))
 rw [show Builtin.Dict_items.ownsTuple "dict_itemiterator"=true from by decide]
 simp only [if_true]
 refine wpAny_newObj_type (wpAny_pure ⟨_,rfl,"dict_itemiterator",_,⟨_,Heap.get?_push_size _ rfl,rfl⟩,F.slot_dict_itemiterator_next.lookup,?_⟩) (by simp only [sizeOk,Builtin.Dict_items.ownedTupleFields,List.size_toArray,List.length_append,List.length_cons,List.length_nil,sizeLine_eq];omega)
 simpa [rawInt,Builtin.Dict_items.ownedTupleFields] using q
theorem ZPV {it d:Addr} {ob:Obj} {es:Array DictEntry} {ep i:Nat} {x:DictEntry} {k0 v0:Value} {Q:Option Value→Shared→Prop} (st:IsItemIter s.heap it d i es.size ep k0 v0) (e:s.heap.get? d=some ob) (dd:ob.data=.dict es ep) (hx:es[i]?=some x)
  (q:∀ m,IsItemIterOut m it d (i + 1) es.size ep x.key x.val s.heap.objs.size→m.get? s.heap.objs.size=some {cls:=.type "tuple",data:=.seq #[x.key,x.val]}→(∀ b o,b≠it→s.heap.get? b=some o→m.get? b=some o)→Q (some (.ref s.heap.objs.size)) {s with heap:=m}) :
  wpAny (model prog w) A (pyNext (.ref it)) Q E s:=by
 obtain ⟨hp,g,dr,tk,os⟩:=s
 have ty:Shared.TypeIs ⟨hp,g,dr,tk,os⟩ (.ref it) "dict_itemiterator":=⟨_,st,rfl⟩
 have hi:i < es.size:=(Array.getElem?_eq_some_iff.mp hx).1
 have hxi:es[i]=x:=by rw [Array.getElem?_eq_getElem hi] at hx;exact Option.some.inj hx
 unfold pyNext
 refine wpAny_bind (wpAny_attempt (wpAny_callSpecial?_slot (name:=Str.ofString "__next__") ty F.slot_dict_itemiterator_next (wpAny_call_entry F.slot_dict_itemiterator_next ty F.entry_dict_itemiterator_next ?_ (F.args_dict_itemiterator_next_1 _))))
 refine wpAny_bind (wpAny_pure (wpAny_bind (wpAny_bind (wpAny_bind (wpAny_typeNameOfWhole_itemiter ty (wpAny_pure (wpAny_bind (wpAny_fieldsOf st rfl ?_))))))))
 rw [show Builtin.Dict_items.ownsTuple "dict_itemiterator"=true from by decide]
 simp only [if_true]
 change wpAny _ _ (if (Value.ref d == Value.none)=true then _ else _) _ _ _
 rw [if_neg (show ¬ ((Value.ref d == Value.none)=true) by exact Bool.false_ne_true)]
 refine wpAny_bind (wpAny_pure (wpAny_bind (wpAny_dictEntries e dd ?_)))
 rw [if_neg (show ¬ ((((es.size:Nat):Int) != ((es.size:Nat):Int))=true) by simp)]
 refine wpAny_bind (wpAny_pure (wpAny_bind (wpAny_dictEpoch e dd ?_)))
 rw [if_neg (show ¬ ((((ep:Nat):Int) != ((ep:Nat):Int))=true) by simp)]
 refine wpAny_pure ?_
 simp only [show ¬ ((i:Int) < 0) by omega,if_false,Int.toNat_natCast,Array.getElem?_eq_getElem hi]
 refine wpAny_bind (wpAny_bind (wpAny_typeNameOfWhole_itemiter ty (wpAny_pure (wpAny_bind (wpAny_isOneOf_itemiter ty ?_)))))
 change wpAny _ _ (setField (Value.ref it) 3 (rawInt ((i:Int) + 1)) >>= _) _ _ _
 refine wpAny_bind (wpAny_setField_rec st (by simp) fun m1 s1 b1=>?_)
 replace b1:Heap.SameBut it hp m1:=b1
 replace s1:IsItemIter m1 it d (i + 1) es.size ep k0 v0:=by
  have z:((i + 1:Nat):Int)=(i:Int) + 1:=by omega
  unfold IsItemIter
  rw [z]
  simpa [rawInt] using s1
 have ty1:Shared.TypeIs ⟨m1,g,dr,tk,os⟩ (.ref it) "dict_itemiterator":=⟨_,s1,rfl⟩
 refine wpAny_bind (wpAny_holding (wpAny_bind (wpAny_isOneOf_itemiter ty1 (wpAny_bind (wpAny_isOneOf_itemiter ty1 ?_)))))
 change wpAny _ _ (Builtin.Dict_items.pairFromOwner (Value.ref it) 6 es[i].key es[i].val) _ _ _
 rw [hxi]
 unfold Builtin.Dict_items.pairFromOwner
 refine wpAny_bind (wpAny_newTuple ?_)
 have s2:IsItemIter (m1.push {cls:=.type "tuple",data:=.seq #[x.key,x.val]}) it d (i + 1) es.size ep k0 v0:=Heap.get?_push_of_some _ s1
 have sz:m1.objs.size=hp.objs.size:=b1.1
 have t2:(m1.push {cls:=.type "tuple",data:=.seq #[x.key,x.val]}).get? hp.objs.size=some {cls:=.type "tuple",data:=.seq #[x.key,x.val]}:=by rw [← sz];exact Heap.get?_push_size _ rfl
 have k2:∀ b o,b≠it→hp.get? b=some o→(m1.push {cls:=.type "tuple",data:=.seq #[x.key,x.val]}).get? b=some o:=fun b o hb q=>Heap.get?_push_of_some _ (b1.extBut b o hb q)
 have lt:it < hp.objs.size:=Heap.lt_size st
 generalize m1.push {cls:=.type "tuple",data:=.seq #[x.key,x.val]}=m2 at s2 t2 k2
 change wpAny _ _ (Builtin.Dict_items.ownedTupleIsFree (Value.ref it) >>= _) _ _ ⟨m2,g,dr,tk,os⟩
 rw [sz]
 refine wpAny_bind ?_
 unfold Builtin.Dict_items.ownedTupleIsFree
 refine wpAny_bind (wpAny_field s2 rfl (x:=.none) rfl (wpAny_pure ?_))
 simp only [if_true]
 refine wpAny_bind (wpAny_field s2 rfl (x:=k0) rfl (wpAny_bind (wpAny_field s2 rfl (x:=v0) rfl ?_)))
 refine wpAny_bind (wpAny_setField_rec s2 (by simp) fun m3 s3 b3=>?_)
 replace b3:Heap.SameBut it m2 m3:=b3
 replace s3:IsItemIter m3 it d (i + 1) es.size ep x.key v0:=s3
 refine wpAny_bind (wpAny_setField_rec s3 (by simp) fun m4 s4 b4=>?_)
 replace b4:Heap.SameBut it m3 m4:=b4
 replace s4:IsItemIter m4 it d (i + 1) es.size ep x.key x.val:=s4
 refine wpAny_bind (wpAny_setField_rec s4 (by simp) fun m5 s5 b5=>?_)
 replace b5:Heap.SameBut it m4 m5:=b5
 replace s5:IsItemIterOut m5 it d (i + 1) es.size ep x.key x.val hp.objs.size:=s5
 refine wpAny_bind (wpAny_setField_rec s5 (by simp) fun m6 s6 b6=>?_)
 replace b6:Heap.SameBut it m5 m6:=b6
 replace s6:IsItemIterOut m6 it d (i + 1) es.size ep x.key x.val hp.objs.size:=s6
 have up:∀ b o,b≠it→m2.get? b=some o→m6.get? b=some o:=fun b o hb e=>b6.extBut b o hb (b5.extBut b o hb (b4.extBut b o hb (b3.extBut b o hb e)))
 exact wpAny_bind (wpAny_letGo (wpAny_pure (wpAny_pure ⟨_,rfl,wpAny_pure (q m6 s6 (up _ _ (Nat.ne_of_gt lt) t2) fun b o hb e=>up b o hb (k2 b o hb e))⟩)))
theorem ZRm {it d:Addr} {ob:Obj} {es:Array DictEntry} {ep i:Nat} {k0 v0:Value} {Q:Option Value→Shared→Prop} (hh:A.handled=none) (st:IsItemIter s.heap it d i es.size ep k0 v0) (e:s.heap.get? d=some ob) (dd:ob.data=.dict es ep) (hx:es.size≤i)
  (q:∀ m,Heap.ExtBut it s.heap m→Q none {s with heap:=m}):wpAny (model prog w) A (pyNext (.ref it)) Q E s:=by
 have ty:s.TypeIs (.ref it) "dict_itemiterator":=⟨_,st,rfl⟩
 unfold pyNext
 refine wpAny_bind (wpAny_attempt (wpAny_callSpecial?_slot (name:=Str.ofString "__next__") ty F.slot_dict_itemiterator_next (wpAny_call_entry F.slot_dict_itemiterator_next ty F.entry_dict_itemiterator_next ?_ (F.args_dict_itemiterator_next_1 _))))
 refine wpAny_bind (wpAny_pure (wpAny_bind (wpAny_bind (wpAny_bind (wpAny_typeNameOfWhole_itemiter ty (wpAny_pure (wpAny_bind (wpAny_fieldsOf st rfl ?_))))))))
 rw [show Builtin.Dict_items.ownsTuple "dict_itemiterator"=true from by decide]
 simp only [if_true]
 change wpAny _ _ (if (Value.ref d == Value.none)=true then _ else _) _ _ _
 rw [if_neg (show ¬ ((Value.ref d == Value.none)=true) by exact Bool.false_ne_true)]
 refine wpAny_bind (wpAny_pure (wpAny_bind (wpAny_dictEntries e dd ?_)))
 rw [if_neg (show ¬ ((((es.size:Nat):Int) != ((es.size:Nat):Int))=true) by simp)]
 refine wpAny_bind (wpAny_pure (wpAny_bind (wpAny_dictEpoch e dd ?_)))
 rw [if_neg (show ¬ ((((ep:Nat):Int) != ((ep:Nat):Int))=true) by simp)]
 refine wpAny_pure ?_
 simp only [show ¬ ((i:Int) < 0) by omega,if_false,Int.toNat_natCast,Array.getElem?_eq_none hx]
 refine wpAny_bind (wpAny_bind (wpAny_typeNameOfWhole_itemiter ty (wpAny_pure ?_)))
 change wpAny _ _ (setField (Value.ref it) 2 .none >>= _) _ _ s
 refine wpAny_bind (wpAny_setField st rfl (by simp) ?_)
 change wpAny _ _ (newExc (Value.type "StopIteration") [] >>= _) _ _ _
 refine wpAny_bind ?_;simp only [newExc,newTuple]
 refine wpAny_bind (wpAny_newObj_type (wpAny_bind (m:=firstArgMember _ _) (wpAny_of_eq (a:=Value.none) (by first | rfl | (simp only [firstArgMember];rfl)) ?_)) (by size_fits))
 refine wpAny_newObj_type ?_ (by size_fits);simp only [raiseNew]
 refine wpAny_bind (wpAny_handled ?_);rw [show A.in1.handled=none from hh]
 refine wpAny_bind (wpAny_pure (wpAny_throw ?_));refine wpAny_bind (wpAny_isInstance (T:="StopIteration") (b:=true) ⟨_,Heap.get?_push_size _ rfl,rfl⟩ isSubtype_stop ?_)
 exact wpAny_pure (q _ (((Heap.SameBut.update ..).extBut.push _).push _))
end
theorem ZRc {P:Program} {w:World} {H:Hp}:∀ {kvs:List (List Key×V)} {xs:List (List Key×Addr×Value)},KT H kvs xs→∀ (i:Nat) k v,kvs[i]?=some (k,v)→∃ b u,(xs.map (entryOfKey (tupleKind (Z8 P w))))[i]?=some (entryOfKey (tupleKind (Z8 P w)) (k,b,u))∧H b=some (.tup (k.map kV))∧RelV v u
 | _,_,.nil,i,k,v,h=>by simp at h
 | _,_,.cons (a:=p) (b:=q) h t,0,k,v,e=>by
  simp at e
  obtain ⟨h1,h2,h3⟩:=h
  refine ⟨q.2.1,q.2.2,?_,?_,?_⟩
  ·have:q=(k,q.2.1,q.2.2):=by rw [show k=q.1 by rw [← h1,e]]
   rw [List.map_cons]
   show some _=_
   rw [← this]
  ·rw [e] at h2;exact h2
  ·rw [e] at h3;exact h3
 | _,_,.cons h t,i + 1,k,v,e=>by
  obtain ⟨b,u,h1,h2,h3⟩:=ZRc (P:=P) (w:=w) t i k v (by simpa using e)
  exact ⟨b,u,by simpa using h1,h2,h3⟩
theorem ZH8 {P:Program} {w:World} {H:Hp} {h:Heap} {a:Addr} {kvs:List (List Key×V)} {ob:Obj} (x:ZaB P w H h a (.dT kvs)) (e:h.get? a=some ob) :
  kvs.length≤sizeLine∧(a == sysModules)=false∧ob.ExactDict∧∃ es ep,ob.data=.dict es ep∧es.size=kvs.length∧∀ (i:Nat) k v,kvs[i]?=some (k,v)→∃ y b,es[i]?=some y∧y.key=.ref b∧H b=some (.tup (k.map kV))∧RelV v y.val:=by
 obtain ⟨z,y,xs,r,o,es,ep,e1,ex,dd,el,_⟩:=x
 rw [e] at e1
 cases e1
 refine ⟨z,y,ex,es,ep,dd,?_,fun i k v hi=>?_⟩
 ·have:es.toList.length=es.size:=Array.length_toList
  rw [← this,el,List.length_map,← Paired.length r]
 ·obtain ⟨b,u,h1,h2,h3⟩:=ZRc (P:=P) (w:=w) r i k v hi
  refine ⟨entryOfKey (tupleKind (Z8 P w)) (k,b,u),b,?_,rfl,h2,h3⟩
  rw [← Array.getElem?_toList,el]
  exact h1
def Iti (d:Addr) (ob:Obj) (kvs:List (List Key×V)):It:=
 ⟨fun i H=>H d=some (.frz ob (.dT kvs))∧i < kvs.length,fun i H x H'=>∃ t b k v,H t=none∧x=.ref t∧kvs[i]?=some (k,v)∧H b=some (.tup (k.map kV))∧H'=upd H t (.tup [.ref b,v]),fun i H=>H d=some (.frz ob (.dT kvs))∧kvs.length≤i⟩
theorem ZID {P:Program} {w:World} {K:Frag} {elts:List Expr} {kk:Nat} {pos:Pos} (d it:Addr) (ob:Obj) (kvs:List (List Key×V)) (es:Array DictEntry) (ep:Nat) (dd:ob.data=.dict es ep) :
  Turn P w K (.Tuple elts kk pos) (Iti d ob kvs) [it] it (fun i h=>∃ k0 v0,IsItemIter h it d i es.size ep k0 v0) where
 mem:=by simp
 obj:=fun i h st b hb=>by
  have e:b=it:=by simpa using hb
  subst e
  obtain ⟨k0,v0,st⟩:=st
  exact ⟨_,st,fun v z=>by cases z⟩
 keep:=fun i h h' st k=>by
  obtain ⟨k0,v0,st⟩:=st
  exact ⟨k0,v0,k it (by simp) _ st⟩
 item:=by
  intro X hP hw hK hc i pins s σ H E I hf st hg
  subst hP hw hK
  obtain ⟨hH,hi⟩:=hg
  obtain ⟨e,ok⟩:=I.hok d _ hH
  obtain ⟨_,_,_,es',ep',dd',hl,hat⟩:=ZH8 ok e
  rw [dd] at dd'
  cases dd'
  obtain ⟨⟨k,v⟩,hkv⟩:∃ p,kvs[i]?=some p:=⟨_,List.getElem?_eq_getElem hi⟩
  obtain ⟨y,b,hy,hkey,hb,rv⟩:=hat i k v hkv
  obtain ⟨k0,v0,st⟩:=st
  have lt:it < s.heap.objs.size:=Heap.lt_size st
  refine ZPV st e dd hy fun m o1 t1 kp=>?_
  refine ⟨_,rfl,wpAny_letOwnedTupleGo_items (s:={s with heap:=m}) o1 fun m' st' sb=>?_⟩
  have T2:m'.IsTuple s.heap.objs.size #[y.key,y.val]:=⟨_,sb.extBut _ _ (Nat.ne_of_gt lt) t1,rfl,_,rfl⟩
  refine ⟨.ref s.heap.objs.size,_,I.turnedT (t':=s.toks) (wr:=[it]) hf (fun c o hn q=>?_) (Nat.le_refl _) (ZHy (xs:=[.ref b,v]) T2 (.cons hkey (.cons rv .nil)) (by show 2≤sizeLine;decide)),rfl,⟨_,b,k,v,I.hok.fresh (Nat.le_refl _),rfl,hkv,hb,rfl⟩,⟨_,_,st'⟩,fun c hc=>?_⟩
  ·have hn':c≠it:=by simpa using hn
   exact sb.extBut _ _ hn' (kp c o hn' q)
  ·have z:c=it:=by simpa using hc
   show upd H _ _ c=none
   rw [Zd (by rw [z];exact Nat.ne_of_lt lt)]
   exact (hf c hc).1
 done:=by
  intro X hP hw hK hc i pins s σ H E I hf st hg
  subst hP hw hK
  obtain ⟨hH,hi⟩:=hg
  obtain ⟨e,ok⟩:=I.hok d _ hH
  obtain ⟨_,_,_,es',ep',dd',hl,hat⟩:=ZH8 ok e
  rw [dd] at dd'
  cases dd'
  obtain ⟨k0,v0,st⟩:=st
  exact ZRm (I.ok.hd hc) st e dd (by omega) fun m eb=>⟨rfl,I.turnedL (t':=s.toks) (wr:=[it]) hf fun c o hn q=>eb c o (by simpa using hn) q⟩
 self:=fun _ _ _ _ _ st h=>by
  obtain ⟨k0,v0,st⟩:=st
  exact kcp_self st h
def ZRn (tl:TE):TI:=fun σ H R=>tl σ H fun x H1=>∃ r d kvs,x=.ref r∧H1 r=some (ZKh r d)∧H1 d=some (.dT kvs)∧∀ ob,R (Iti d ob kvs) (upd H1 d (.frz ob (.dT kvs)))
theorem ZNh {X:Cx} {elts:List Expr} {kk:Nat} {tp:Pos} {l:Expr} {tl:TE} (hl:PE X l tl):PI X (.Tuple elts kk tp) l (ZRn tl):=by
 try unfold PE at *
 intro pins s σ H R I h
 refine thn (hl pins s σ H _ I h) fun v s1 ⟨x,H1,I1,r1,r,d,kvs,ex,hr,hd,q⟩=>?_
 subst ex
 cases (show v=Value.ref r from r1)
 have hv:s1.heap.IsItemsView r d:=(I1.hok r _ hr).1
 obtain ⟨ob,e,I2⟩:=I1.freeze hd rfl
 obtain ⟨_,_,_,es,ep,dd,_⟩:=ZH8 (I1.hok d _ hd) e
 refine ZRl hv e dd ?_
 refine ⟨s1.heap.objs.size,[s1.heap.objs.size],_,_,_,rfl,I2.kept (t':=s1.toks) fun b o e=>Heap.get?_push_of_some _ e,ZID d _ ob kvs es ep dd,⟨_,_,Heap.get?_push_size _ rfl⟩,fun b hb=>?_,q ob⟩
 have e:b=s1.heap.objs.size:=by simpa using hb
 subst e
 exact I2.fpOk (Nat.le_refl _) (I2.hok.fresh (Nat.le_refl _))
section
variable {prog:Program} {w:World} {A:Around} {E:Value→Shared→Prop} {s:Shared}
theorem ZRd {d:Addr} {ob:Obj} {es:Array DictEntry} {ep:Nat} {Q:Value→Shared→Prop} (hs:(d == sysModules)=false) (e:s.heap.get? d=some ob) (ex:ob.ExactDict) (dd:ob.data=.dict es ep)
  (q:Q (.ref s.heap.objs.size) {s with heap:=s.heap.push {cls:=.type "dict_keyiterator",data:=.fields #[.ref d,.int 0 0,.int es.size 0,.int ep 0]}}):wpAny (model prog w) A (pyIter (.ref d)) Q E s:=by
 have ty:s.TypeIs (.ref d) "dict":=⟨ob,e,ex.1⟩
 refine wpAny_pyIter_slot ty F.slot_dict_iter (wpAny_call_entry F.slot_dict_iter ty F.entry_dict_iter ?_ (F.args_dict_iter_1 _))
 unfold Builtin.«dict.__iter__»
 refine wpAny_bind ?_;unfold Builtin.Dict.dictSlotNone
 refine wpAny_bind (wpAny_notOrdered_dict ty ?_);change wpAny _ _ (pure (Value.ref d)) _ _ s
 refine wpAny_pure ?_;change wpAny _ _ (Builtin.Dict.showsAll d >>= _) _ _ s
 unfold Builtin.Dict.showsAll;rw [if_neg (by rw [hs];exact Bool.false_ne_true)]
 refine wpAny_bind (wpAny_pure (wpAny_bind (wpAny_dictEntries e dd (wpAny_bind (wpAny_dictEpoch e dd ?_)))))
 exact wpAny_bind (wpAny_newObj_type (wpAny_pure ⟨_,rfl,"dict_keyiterator",_,⟨_,Heap.get?_push_size _ rfl,rfl⟩,F.slot_dict_keyiterator_next.lookup,by simpa [rawInt] using q⟩))
theorem ZPQ {it d:Addr} {ob:Obj} {es:Array DictEntry} {ep i:Nat} {x:DictEntry} {Q:Option Value→Shared→Prop} (st:s.heap.IsKeyIter it d i es.size ep) (e:s.heap.get? d=some ob) (dd:ob.data=.dict es ep) (hx:es[i]?=some x)
  (q:∀ m,m.IsKeyIter it d (i + 1) es.size ep→Heap.SameBut it s.heap m→Q (some x.key) {s with heap:=m}):wpAny (model prog w) A (pyNext (.ref it)) Q E s:=by
 have ty:=st.typeIs
 obtain ⟨oI,e1,c1,d1⟩:=st
 have hi:i < es.size:=(Array.getElem?_eq_some_iff.mp hx).1
 have hxi:es[i]=x:=by rw [Array.getElem?_eq_getElem hi] at hx;exact Option.some.inj hx
 have up:(s.heap.update it (Obj.mapFields (·.setIfInBounds 1 (rawInt ((i:Int) + 1))))).IsKeyIter it d (i + 1) es.size ep:=
  ⟨_,Heap.get?_update_self _ e1 (Obj.isFreed_of_fields (Obj.data_mapFields d1 _)),(Obj.cls_mapFields ..).trans c1,by rw [Obj.data_mapFields d1];simp [rawInt]⟩
 unfold pyNext
 refine wpAny_bind (wpAny_attempt (wpAny_callSpecial?_slot (name:=Str.ofString "__next__") ty F.slot_dict_keyiterator_next (wpAny_call_entry F.slot_dict_keyiterator_next ty F.entry_dict_keyiterator_next ?_ (F.args_dict_keyiterator_next_1 _))))
 refine wpAny_bind (wpAny_pure (wpAny_bind (wpAny_bind (wpAny_bind (wpAny_typeNameOfWhole_keyiter ty (wpAny_pure (wpAny_bind (wpAny_fieldsOf e1 d1 ?_))))))))
 rw [show Builtin.Dict_items.ownsTuple "dict_keyiterator"=false from by decide]
 simp only [Bool.false_eq_true,if_false]
 change wpAny _ _ (if (Value.ref d == Value.none)=true then _ else _) _ _ s
 rw [if_neg (show ¬ ((Value.ref d == Value.none)=true) by exact Bool.false_ne_true)]
 refine wpAny_bind (wpAny_pure (wpAny_bind (wpAny_dictEntries e dd ?_)))
 rw [if_neg (show ¬ ((((es.size:Nat):Int) != ((es.size:Nat):Int))=true) by simp)]
 refine wpAny_bind (wpAny_pure (wpAny_bind (wpAny_dictEpoch e dd ?_)))
 rw [if_neg (show ¬ ((((ep:Nat):Int) != ((ep:Nat):Int))=true) by simp)]
 refine wpAny_pure ?_
 simp only [show ¬ ((i:Int) < 0) by omega,if_false,Int.toNat_natCast,Array.getElem?_eq_getElem hi]
 refine wpAny_bind (wpAny_bind (wpAny_typeNameOfWhole_keyiter ty (wpAny_pure (wpAny_bind (wpAny_isOneOf_keyiter ty ?_)))))
 change wpAny _ _ (setField (Value.ref it) 1 (rawInt ((i:Int) + 1)) >>= _) _ _ s
 refine wpAny_bind (wpAny_setField e1 d1 (by simp) (wpAny_bind (wpAny_holding ?_)))
 refine wpAny_bind (wpAny_isOneOf_keyiter (s:={s with heap:=s.heap.update it (Obj.mapFields (·.setIfInBounds 1 (rawInt ((i:Int) + 1))))}) up.typeIs ?_)
 change wpAny _ _ (pure es[i].key) _ _ _
 rw [hxi]
 exact wpAny_pure (wpAny_pure ⟨_,rfl,wpAny_pure (q _ up (Heap.SameBut.update ..))⟩)
theorem ZRe {it d:Addr} {ob:Obj} {es:Array DictEntry} {ep i:Nat} {Q:Option Value→Shared→Prop} (hh:A.handled=none) (st:s.heap.IsKeyIter it d i es.size ep) (e:s.heap.get? d=some ob) (dd:ob.data=.dict es ep) (hx:es.size≤i)
  (q:∀ m,Heap.ExtBut it s.heap m→Q none {s with heap:=m}):wpAny (model prog w) A (pyNext (.ref it)) Q E s:=by
 have ty:=st.typeIs
 obtain ⟨oI,e1,c1,d1⟩:=st
 unfold pyNext
 refine wpAny_bind (wpAny_attempt (wpAny_callSpecial?_slot (name:=Str.ofString "__next__") ty F.slot_dict_keyiterator_next (wpAny_call_entry F.slot_dict_keyiterator_next ty F.entry_dict_keyiterator_next ?_ (F.args_dict_keyiterator_next_1 _))))
 refine wpAny_bind (wpAny_pure (wpAny_bind (wpAny_bind (wpAny_bind (wpAny_typeNameOfWhole_keyiter ty (wpAny_pure (wpAny_bind (wpAny_fieldsOf e1 d1 ?_))))))))
 rw [show Builtin.Dict_items.ownsTuple "dict_keyiterator"=false from by decide]
 simp only [Bool.false_eq_true,if_false]
 change wpAny _ _ (if (Value.ref d == Value.none)=true then _ else _) _ _ s
 rw [if_neg (show ¬ ((Value.ref d == Value.none)=true) by exact Bool.false_ne_true)]
 refine wpAny_bind (wpAny_pure (wpAny_bind (wpAny_dictEntries e dd ?_)))
 rw [if_neg (show ¬ ((((es.size:Nat):Int) != ((es.size:Nat):Int))=true) by simp)]
 refine wpAny_bind (wpAny_pure (wpAny_bind (wpAny_dictEpoch e dd ?_)))
 rw [if_neg (show ¬ ((((ep:Nat):Int) != ((ep:Nat):Int))=true) by simp)]
 refine wpAny_pure ?_
 simp only [show ¬ ((i:Int) < 0) by omega,if_false,Int.toNat_natCast,Array.getElem?_eq_none hx]
 refine wpAny_bind (wpAny_bind (wpAny_typeNameOfWhole_keyiter ty (wpAny_pure ?_)))
 change wpAny _ _ (setField (Value.ref it) 0 .none >>= _) _ _ s
 refine wpAny_bind (wpAny_setField e1 d1 (by simp) ?_)
 change wpAny _ _ (newExc (Value.type "StopIteration") [] >>= _) _ _ _
 refine wpAny_bind ?_;simp only [newExc,newTuple]
 refine wpAny_bind (wpAny_newObj_type (wpAny_bind (m:=firstArgMember _ _) (wpAny_of_eq (a:=Value.none) (by first | rfl | (simp only [firstArgMember];rfl)) ?_)) (by size_fits))
 refine wpAny_newObj_type ?_ (by size_fits);simp only [raiseNew]
 refine wpAny_bind (wpAny_handled ?_);rw [show A.in1.handled=none from hh]
 refine wpAny_bind (wpAny_pure (wpAny_throw ?_));refine wpAny_bind (wpAny_isInstance (T:="StopIteration") (b:=true) ⟨_,Heap.get?_push_size _ rfl,rfl⟩ isSubtype_stop ?_)
 exact wpAny_pure (q _ (((Heap.SameBut.update ..).extBut.push _).push _))
theorem ZPR (d:Addr) (ob:Obj) (es:Array DictEntry) (ep:Nat) (hs:(d == sysModules)=false) (ex:ob.ExactDict) (dd:ob.data=.dict es ep) :
  KdlSrc prog w "dict" d d es.size (fun i v=>∃ x,es[i]?=some x∧v=x.key) (fun h=>h.get? d=some ob) where
 type:=fun _ e=>⟨ob,e,ex.1⟩
 there:=fun _ e=>⟨Heap.lt_size e,Heap.lt_size e⟩
 keep:=fun _ _ e hk=>hk d (.inl rfl) ob e
 notList:=by decide
 notTuple:=by decide
 hint:=fun _ _ _ _ e hq=>kdl_hint_dict ⟨ob,e,ex.1⟩ hq
 iter:=fun A s hh e=>⟨_,fun i h=>h.IsKeyIter s.heap.objs.size d i es.size ep∧h.get? d=some ob,(fun _ _ hq=>ZRd hs e ex dd hq),
  {sub:=fun b hb=>by simp at hb;simp [hb]
   frame:=fun _ _ _ st hk=>⟨st.1.at fun o e=>hk _ (by simp) o e,hk d (by simp) _ st.2⟩
   item:=fun i s' Q E hi st hQ=>by
    have hne:d≠s.heap.objs.size:=Nat.ne_of_lt (Heap.lt_size e)
    refine ZPQ st.1 st.2 dd (x:=es[i]) (by simp [hi]) fun m st' sb=>?_
    exact hQ _ m s'.toks ⟨es[i],by simp [hi],rfl⟩ ⟨st',sb.extBut _ _ hne st.2⟩ fun b o hb q=>sb.extBut b o (fun h=>hb (by simp [h])) q
   done:=fun s' Q E st hQ=>ZRe hh st.1 st.2 dd (Nat.le_refl _) fun m eb=>hQ m s'.toks fun b o hb q=>eb b o (fun h=>hb (by simp [h])) q
   self:=fun _ _ _ _ st hQ=>wpAny_pyIter_keyiter st.1 hQ},
  ⟨⟨_,Heap.get?_push_size _ rfl,rfl,rfl⟩,Heap.get?_push_of_some _ e⟩⟩
end
def ZRK (H:Hp) (bs:List Addr) (ks:List (List Key)):Prop:=bs.length=ks.length∧∀ (i:Nat) b k,bs[i]?=some b→ks[i]?=some k→H b=some (.tup (k.map kV))
theorem ZGX {X:Cx} (hc:X.calm=true:=by rfl):ZfX X (.type "list") (fun xs H Q=>∃ p kvs,xs=[.ref p]∧Rd H p (.dT kvs)∧∀ l bs,H l=none→ZRK H bs (kvs.map (·.1))→Q (.ref l) (upd H l (.lst (bs.map V.ref)))):=by
 intro pins s σ H xs us Q I r h
 obtain ⟨p,kvs,rfl,hp,q⟩:=h
 obtain ⟨u,rfl,ru⟩:=r.one
 cases (show u=Value.ref p from ru)
 have ok:ZaB X.prog X.w H s.heap p (.dT kvs):=ZPk I.hok hp
 obtain ⟨ob,e⟩:=ok.there
 obtain ⟨hz,hs,ex,es,ep,dd,hl,hat⟩:=ZH8 ok e
 refine kdl_call (ZPR (prog:=X.prog) (w:=X.w) p ob es ep hs ex dd) (I.ok.hd hc) e (by rw [hl];exact hz) fun h' tk acc c hk he hi=>?_
 -- the addresses of the keys
 have key:∀ n,n≤kvs.length→∃ bs:List Addr,bs.length=n∧∀ (i:Nat) b,bs[i]?=some b→∃ y k v,es[i]?=some y∧y.key=.ref b∧kvs[i]?=some (k,v)∧H b=some (.tup (k.map kV)):=by
  intro n
  induction n with
  | zero=>intro _;exact ⟨[],rfl,fun i b h=>by simp at h⟩
  | succ n ih=>
   intro hn
   obtain ⟨bs,h1,h2⟩:=ih (by omega)
   obtain ⟨⟨k,v⟩,hkv⟩:∃ p,kvs[n]?=some p:=⟨_,List.getElem?_eq_getElem (by omega)⟩
   obtain ⟨y,b,hy,hkey,hb,_⟩:=hat n k v hkv
   refine ⟨bs++[b],by rw [List.length_append,h1];rfl,fun i c hc=>?_⟩
   by_cases hi:i < bs.length
   ·rw [List.getElem?_append_left hi] at hc
    exact h2 i c hc
   ·rw [List.getElem?_append_right (by omega)] at hc
    have:i - bs.length=0:=by
     cases hh:i - bs.length with
     | zero=>rfl
     | succ m=>rw [hh] at hc;simp at hc
    rw [this] at hc
    have hin:i=n:=by omega
    subst hin
    simp at hc
    subst hc
    exact ⟨y,k,v,hy,hkey,hkv,hb⟩
 obtain ⟨bs,hbl,hbs⟩:=key kvs.length (Nat.le_refl _)
 refine ⟨.ref _,_,I.lput hk (Nat.le_refl _) he (ZtV (xs:=bs.map V.ref) ?_ fun j x w hx hw=>?_) (by rw [List.length_map,hbl];exact hz),rfl,q _ bs I.fresh ⟨by rw [hbl,List.length_map],fun i b k hb hk'=>?_⟩⟩
 ·have e3:acc.toList.length=acc.size:=Array.length_toList
  rw [List.length_map,e3,hi.1,hl,hbl]
 ·obtain ⟨y,hy,rfl⟩:=hi.2 j w (by rw [← Array.getElem?_toList];exact hw)
  rw [List.getElem?_map] at hx
  cases hb:bs[j]? with
  | none=>rw [hb] at hx;cases hx
  | some b=>
   rw [hb] at hx
   cases hx
   obtain ⟨y',k,v,hy',hkey,_,_⟩:=hbs j b hb
   rw [hy] at hy'
   cases hy'
   exact hkey
 ·obtain ⟨y,k',v,_,_,hkv,hH⟩:=hbs i b hb
  rw [List.getElem?_map,hkv] at hk'
  cases hk'
  exact hH
end L2
namespace L2
open PySem PySem.Spec PyProof.Rows PySem.W
def eKV (es:List (Str×Int)):List (Key×V):=es.map fun p=>(Sum.inr p.1,V.int p.2)
def Zlb (h:Heap) (es:List (Str×Int)) (as:List Addr):Prop:=
 as.length=es.length∧∀ (j:Nat) (a:Addr) (p:Str×Int),as[j]?=some a→es[j]?=some p→∃ t u,h.get? a=some {cls:=.type "tuple",data:=.seq #[.str p.1 t,.int p.2 u]}
theorem Zlb.keep {h h':Heap} {es:List (Str×Int)} {as:List Addr} (e:Zlb h es as) (k:∀ a∈as,∀ o,h.get? a=some o→h'.get? a=some o):Zlb h' es as:=
 ⟨e.1,fun j a p ha hp=>by obtain ⟨t,u,q⟩:=e.2 j a p ha hp;exact ⟨t,u,k a (List.mem_of_getElem? ha) _ q⟩⟩
theorem Zlb.at {h:Heap} {es:List (Str×Int)} {as:List Addr} (e:Zlb h es as) {i:Nat} (hi:i < es.length):∃ a t u,as.getD i 0=a∧as[i]?=some a∧h.get? a=some {cls:=.type "tuple",data:=.seq #[.str (es.getD i (Str.empty,0)).1 t,.int (es.getD i (Str.empty,0)).2 u]}:=by
 have hi':i < as.length:=by rw [e.1];exact hi
 obtain ⟨t,u,q⟩:=e.2 i as[i] es[i] (List.getElem?_eq_getElem hi') (List.getElem?_eq_getElem hi)
 refine ⟨as[i],t,u,?_,List.getElem?_eq_getElem hi',?_⟩
 ·rw [List.getD_eq_getElem?_getD,List.getElem?_eq_getElem hi'];rfl
 ·rw [List.getD_eq_getElem?_getD,List.getElem?_eq_getElem hi];exact q
section
variable {prog:Program} {w:World} {A:Around} {E:Value→Shared→Prop} {s:Shared}
theorem ZNZ {es:List (Str×Int)} {as:List Addr} {i j:Nat} {C:Bool→Shared→Prop} (e:Zlb s.heap es as) (hi:i < es.length) (hj:j < es.length) (h:C (Ztw (es.getD i (Str.empty,0)) (es.getD j (Str.empty,0))) s) :
  kas_ask prog w A (tuples' true) (as.map Value.ref) i j C s:=by
 obtain ⟨a,t,u,h1,h1',h2⟩:=e.at hi
 obtain ⟨b,t',u',h3,h3',h4⟩:=e.at hj
 have g1:(as.map Value.ref).getD i Value.none=.ref a:=by rw [List.getD_eq_getElem?_getD,List.getElem?_map,h1'];rfl
 have g3:(as.map Value.ref).getD j Value.none=.ref b:=by rw [List.getD_eq_getElem?_getD,List.getElem?_map,h3'];rfl
 unfold kas_ask
 rw [g1,g3]
 refine kat_lt h2 rfl h4 rfl ?_
 generalize es.getD i (Str.empty,0)=p at h h2
 generalize es.getD j (Str.empty,0)=q at h h4
 refine kat_cons (wpAny_eqBool_str ?_)
 by_cases z:p.1=q.1
 ·rw [decide_eq_true z]
  refine kat_yes (kat_cons (wpAny_eqBool_int ?_))
  by_cases y:p.2=q.2
  ·rw [show (p.2 == q.2)=true by simp [y]]
   refine kat_yes (kat_nil ?_)
   unfold Ztw at h
   rw [if_pos z,if_pos y] at h
   exact h
  ·rw [show (p.2 == q.2)=false by simp [y]]
   refine kat_no (kat_one _ _ ?_)
   unfold Ztw at h
   rw [if_pos z,if_neg y] at h
   exact lt_int h
 ·rw [decide_eq_false z]
  refine kat_no ?_
  unfold Ztw at h
  rw [if_neg z] at h
  exact oneLt_str h
end
theorem ZPP {es:List (Str×Int)}:∀ {vs:List (Key×Value)},KV (eKV es) vs→∀ (j:Nat) k x,vs[j]?=some (k,x)→∃ p u,es[j]?=some p∧k=.inr p.1∧x=.int p.2 u:=by
 intro vs r j k x h
 induction es generalizing vs j with
 | nil=>cases r;simp at h
 | cons p es ih=>
  cases r with
  | cons a t=>
   cases j with
   | zero=>
    simp at h
    obtain ⟨a1,u,a2⟩:=a
    rw [h] at a1 a2
    exact ⟨p,u,rfl,a1.symm,a2⟩
   | succ j=>exact ih t j (by simpa using h)
theorem ZCt:∀ as:List Addr,Vals (as.map V.ref) (as.map Value.ref)
 | []=>.nil
 | _::r=>.cons rfl (ZCt r)
section
variable {X:Cx} {pins:List (Addr×Obj)} {σ:St} {H:Hp} {s:Shared}
def ZN1 (as:List Addr) (es:List (Str×Int)) (H:Hp):Hp:=Zl0 (as.zip (es.map fun p=>[V.str p.1,V.int p.2])) H
theorem ZN0 {as:List Addr} {es:List (Str×Int)} {H:Hp} (nd:as.Nodup) (hl:as.length=es.length) {j:Nat} {a:Addr} {p:Str×Int} (ha:as[j]?=some a) (hp:es[j]?=some p):ZN1 as es H a=some (.tup [.str p.1,.int p.2]):=by
 refine ZB1 _ H a _ ?_ ?_
 ·have:(as.zip (es.map fun p=>[V.str p.1,V.int p.2])).map (·.1)=as:=by
   rw [show (as.zip (es.map fun p=>[V.str p.1,V.int p.2])).map (·.1)=(as.zip (es.map fun p=>[V.str p.1,V.int p.2])).unzip.1 by rw [List.unzip_fst]]
   rw [List.unzip_zip_left (by rw [List.length_map,hl];exact Nat.le_refl _)]
  rw [this]
  exact nd
 ·refine List.mem_of_getElem? (i:=j) ?_
  rw [List.getElem?_zip_eq_some]
  exact ⟨ha,by rw [List.getElem?_map,hp];rfl⟩
theorem ZEa (hc:X.calm=true:=by rfl):ZfX X (.builtin "sorted") (fun xs H Q=>∃ p d es,xs=[.ref p]∧H p=some (ZKh p d)∧Rd H d (.dK (eKV es))∧es.length < 64∧
  ∀ (l:Addr) (as:List Addr) (H':Hp),Same H H'→H l=none→H' l=some (.lst (as.map V.ref))→as.length=(ZdP es).length→as.length≤es.length→(∀ (j:Nat) a p,as[j]?=some a→(ZdP es)[j]?=some p→H' a=some (.tup [.str p.1,.int p.2]))→Q (.ref l) H'):=by
 intro pins s σ H xs us Q I r h
 obtain ⟨p,d,es,rfl,hp,hd,h64,q⟩:=h
 obtain ⟨u,rfl,ru⟩:=r.one
 cases (show u=Value.ref p from ru)
 have hv:s.heap.IsItemsView p d:=(I.hok p _ hp).1
 obtain ⟨hz,hs,vs,rel,dd⟩:=Zvn I.hok hd
 obtain ⟨ep,hat⟩:=dd.dictAt
 have hvl:vs.length=es.length:=by rw [← rel.length];exact List.length_map ..
 refine Calls.call_function_entry kind_sorted plain_sorted entry_sorted (args_sorted1 _) ?_
 unfold Builtin.«sorted»
 refine wpAny_bind (m:=checkCount "sorted" 1 1 _) (wpAny_pure ?_)
 refine wpAny_bind (kdx_collect (knd:=Z8 X.prog X.w) (kvs:=vs) (ep:=ep) (by first | exact I.ok.hd hc | exact (I.ok.hd hc)) hv hat (by rw [← rel.length];exact hz) fun h1 tk as old hal G=>?_)
 have hasl:as.length=es.length:=hal.trans hvl
 have ent:Zlb h1 es as:=⟨hasl,fun j a p' ha hp'=>by
  obtain ⟨key,k,x,h2,h3,h4⟩:=G.pairs j a ha
  obtain ⟨p2,u,h5,h6,h7⟩:=ZPP rel j k x h2
  rw [hp'] at h5
  cases h5
  subst h6 h7
  obtain ⟨t,rfl⟩:=(show RelV (.str p'.1) key from ZKS h3)
  exact ⟨t,u,h4⟩⟩
 have nd:as.Nodup:=G.rise.imp fun h=>Nat.ne_of_lt h
 have lt1:∀ a∈as,a < h1.objs.size:=fun a ha=>G.there ha
 have hlen:(as.map Value.ref).length < 64:=by rw [List.length_map,hasl];exact h64
 refine wpAny_bind (wpAny_newList ?_ (by rw [sizeLine_eq];omega))
 have hD:(h1.push (seqObj "list" (as.map Value.ref).toArray 0)).get? h1.objs.size=some (seqObj "list" (as.map Value.ref).toArray 0):=Heap.get?_push_size _ rfl
 have sD:s.heap.get? h1.objs.size=none:=by
  cases z:s.heap.get? h1.objs.size with
  | none=>rfl
  | some o=>exact absurd (Heap.lt_size (old _ _ z)) (Nat.lt_irrefl _)
 -- what every end leaves
 have fin:∀ (h3:Heap) (c:Nat) (outs:List Addr),(∀ b o,b≠h1.objs.size→(h1.push (seqObj "list" (as.map Value.ref).toArray 0)).get? b=some o→h3.get? b=some o)→h3.get? h1.objs.size=some (seqObj "list" (outs.map Value.ref).toArray c)→
   outs.length=(ZdP es).length→outs.length≤es.length→(∀ (j:Nat) a p,outs[j]?=some a→(ZdP es)[j]?=some p→∃ i:Nat,as[i]?=some a∧es[i]?=some p)→EP X pins σ Q (.ref h1.objs.size) {s with heap:=h3,toks:=tk}:=by
  intro h3 c outs kp he hol hol2 hat3
  have old3:∀ b o,s.heap.get? b=some o→h3.get? b=some o:=fun b o e=>kp b o (Nat.ne_of_lt (Heap.lt_size (old b o e))) (Heap.get?_push_of_some _ (old b o e))
  have asN:∀ a∈as,s.heap.get? a=none∧H a=none∧a≠h1.objs.size:=fun a ha=>by
   have:=G.above a ha
   refine ⟨?_,I.hok.fresh (Nat.le_of_lt this),Nat.ne_of_lt (lt1 a ha)⟩
   cases z:s.heap.get? a with
   | none=>rfl
   | some o=>exact absurd (Heap.lt_size z) (Nat.not_lt.mpr (Nat.le_of_lt this))
  have ent3:Zlb h3 es as:=ent.keep fun a ha o e=>kp a o (asN a ha).2.2 (Heap.get?_push_of_some _ e)
  have mem:∀ b xs,(b,xs)∈as.zip (es.map fun p=>[V.str p.1,V.int p.2])→∃ (j:Nat) (p:Str×Int),as[j]?=some b∧es[j]?=some p∧xs=[V.str p.1,V.int p.2]:=fun b xs hm=>by
   obtain ⟨j,hj⟩:=List.mem_iff_getElem?.mp hm
   rw [List.getElem?_zip_eq_some] at hj
   obtain ⟨j1,j2⟩:=hj
   rw [List.getElem?_map] at j2
   cases z:es[j]? with
   | none=>rw [z] at j2;cases j2
   | some p=>rw [z] at j2;cases j2;exact ⟨j,p,j1,z,rfl⟩
  have hDn:H h1.objs.size=none:=(I.kept (h':=h1) (t':=tk) old).hok.fresh (Nat.le_refl _)
  have sm:Same H (upd (ZN1 as es H) h1.objs.size (.lst (outs.map V.ref))):=fun b o e=>by
   rw [Zd (Zf e hDn)]
   unfold ZN1
   rw [Zxe]
   ·exact e
   ·intro hm
    obtain ⟨⟨b',xs⟩,hm1,rfl⟩:=List.mem_map.mp hm
    obtain ⟨j,p,j1,_,_⟩:=mem _ _ hm1
    have:=(asN _ (List.mem_of_getElem? j1)).2.1
    rw [show b'=(b',xs).1 from rfl] at this
    rw [this] at e
    cases e
  have at3:∀ (j:Nat) a p,as[j]?=some a→es[j]?=some p→(upd (ZN1 as es H) h1.objs.size (.lst (outs.map V.ref))) a=some (.tup [.str p.1,.int p.2]):=fun j a p ha hp=>by
   rw [Zd (asN a (List.mem_of_getElem? ha)).2.2]
   exact ZN0 nd hasl ha hp
  refine ⟨.ref h1.objs.size,_,I.many (t':=tk) old3 sm (fun b o e=>?_),rfl,q _ outs _ sm hDn Zb hol hol2 fun j a p ha hp=>?_⟩
  ·by_cases z:b=h1.objs.size
   ·subst z
    rw [Zb] at e
    cases e
    refine .inr ⟨sD,?_,(outs.map Value.ref),c,?_,he⟩
    ·rw [List.length_map]
     have:(64:Nat)≤sizeLine:=by decide
     omega
    ·exact ZCt outs
   ·rw [Zd z] at e
    rcases ZB0 _ H b o e with y | ⟨xs,y,rfl⟩
    ·exact .inl y
    ·obtain ⟨j,p,j1,j2,rfl⟩:=mem _ _ y
     obtain ⟨t,u,g⟩:=ent3.2 j b p j1 j2
     exact .inr ⟨(asN b (List.mem_of_getElem? j1)).1,ZHy (vs:=#[.str p.1 t,.int p.2 u]) ⟨_,g,rfl,_,rfl⟩ (.cons ⟨t,rfl⟩ (.cons ⟨u,rfl⟩ .nil)) (by show 2≤sizeLine;decide)⟩
  ·obtain ⟨i,i1,i2⟩:=hat3 j a p ha hp
   exact at3 i a p i1 i2
 refine wpAny_bind (wpAny_holding (wpAny_call_entry slot_list_sort ⟨_,hD,rfl⟩ entry_list_sort ?body (args_list_sort _)))
 case body=>
  by_cases h2:(as.map Value.ref).length < 2
  ·refine ZHE (s:={s with heap:=h1.push (seqObj "list" (as.map Value.ref).toArray 0),toks:=tk}) hD h2 fun h3 c kp he=>?_
   refine ⟨_,rfl,wpAny_pure ⟨_,rfl,fin h3 c as kp he ?_ (Nat.le_of_eq hasl) fun j a p ha hp=>?_⟩⟩
   ·unfold ZdP
    rw [if_pos (by rw [List.length_map,hasl] at h2;exact h2)]
    exact hasl
   ·unfold ZdP at hp
    rw [if_pos (by rw [List.length_map,hasl] at h2;exact h2)] at hp
    exact ⟨j,ha,hp⟩
  ·have e2:¬ es.length < 2:=by rw [List.length_map,hasl] at h2;exact h2
   have h2':2≤(as.map Value.ref).length:=by omega
   have hlm:(as.map Value.ref).length=es.length:=by rw [List.length_map,hasl]
   refine ZCb (s:={s with heap:=h1.push (seqObj "list" (as.map Value.ref).toArray 0),toks:=tk}) (κ:=tuples' true) (lt:=fun i j=>Ztw (es.getD i (Str.empty,0)) (es.getD j (Str.empty,0))) hD h2' hlen (fun h' Q' kp hq=>?_) (fun h' i j C kp hi hj hq=>?_) fun h3 c hsz kp he=>?_
   ·have e':Zlb h' es as:=ent.keep fun a ha o e=>kp a o (Nat.ne_of_lt (lt1 a ha)) (Heap.get?_push_of_some _ e)
    have firsts:∀ (es:List (Str×Int)) (as:List Addr),Zlb h' es as→∃ fs:List Value,fs.length=es.length∧KatTups h' (as.map Value.ref) fs∧∀ v∈fs,∃ x t,v=.str x t:=by
     intro es
     induction es with
     | nil=>
      intro as e
      have:as=[]:=List.length_eq_zero_iff.mp e.1
      subst this
      exact ⟨[],rfl,KatTups.nil,fun v hv=>nomatch hv⟩
     | cons p es ih=>
      intro as e
      match as,e with
      | a::as,e=>
       obtain ⟨t,u,g⟩:=e.2 0 a p rfl rfl
       obtain ⟨fs,f1,f2,f3⟩:=ih as ⟨by simpa using e.1,fun j b q hb hq=>e.2 (j + 1) b q (by simpa using hb) (by simpa using hq)⟩
       exact ⟨.str p.1 t::fs,by rw [List.length_cons,List.length_cons,f1],KatTups.cons g rfl rfl rfl f2,fun v hv=>by
        rcases List.mem_cons.mp hv with rfl | hv
        ·exact ⟨_,_,rfl⟩
        ·exact f3 v hv⟩
    obtain ⟨fs,f1,f2,f3⟩:=firsts es as e'
    refine kat_kind (T:=.type "str") f2 (by omega) (fun v hv=>?_) (by decide) ?_
    ·obtain ⟨x,t,rfl⟩:=f3 v hv
     exact Looks.of_pure rfl
    ·rw [show (Value.type "str" != Value.type "tuple")=true by decide]
     exact hq
   ·exact ZNZ (ent.keep fun a ha o e=>kp a o (Nat.ne_of_lt (lt1 a ha)) (Heap.get?_push_of_some _ e)) (by omega) (by omega) hq
   ·rw [hlm] at he hsz
    have low:Low es.length (Zah (fun i j=>Ztw (es.getD i (Str.empty,0)) (es.getD j (Str.empty,0))) (kas_sort es.length)):=ZcL _ (ZfR (n:=es.length) (by omega))
    have hsE:ZdP es=(Zah (fun i j=>Ztw (es.getD i (Str.empty,0)) (es.getD j (Str.empty,0))) (kas_sort es.length)).toList.map fun i=>es.getD i (Str.empty,0):=by unfold ZdP;rw [if_neg e2]
    generalize Zah (fun i j=>Ztw (es.getD i (Str.empty,0)) (es.getD j (Str.empty,0))) (kas_sort es.length)=ix at he low hsE hsz
    have hmap:(ix.toList.map fun i=>(as.map Value.ref).getD i Value.none)=(ix.toList.map fun i=>as.getD i 0).map Value.ref:=by
     rw [List.map_map]
     refine List.map_congr_left fun i hi=>?_
     have hi':i < es.length:=low.lt i (by simpa using hi)
     obtain ⟨a,t,u,g1,g2,_⟩:=ent.at hi'
     show (as.map Value.ref).getD i Value.none=Value.ref (as.getD i 0)
     rw [g1,List.getD_eq_getElem?_getD,List.getElem?_map,g2]
     rfl
    rw [hmap] at he
    refine ⟨_,rfl,wpAny_pure ⟨_,rfl,fin h3 c _ kp he ?_ ?_ fun j a p ha hp=>?_⟩⟩
    ·rw [hsE,List.length_map,List.length_map]
    ·rw [List.length_map,Array.length_toList,hsz];exact Nat.le_refl _
    ·rw [hsE] at hp
     rw [List.getElem?_map] at ha hp
     cases z:ix.toList[j]? with
     | none=>rw [z] at ha;cases ha
     | some i=>
      rw [z] at ha hp
      cases ha
      cases hp
      have hi':i < es.length:=low.lt i (by have:=List.mem_of_getElem? z;simpa using this)
      obtain ⟨a,t,u,g1,g2,_⟩:=ent.at hi'
      refine ⟨i,by show as[i]?=some (as.getD i 0);rw [g1];exact g2,?_⟩
      show es[i]?=some (es.getD i (Str.empty,0))
      rw [List.getD_eq_getElem?_getD,List.getElem?_eq_getElem hi']
      rfl
end
end L2
namespace L2
open PySem PySem.Spec PyProof.Rows PySem.W
def Zl9 (ns:List Str):List Str:=
 if ns.length < 2 then ns else (Zah (fun i j=>decide ((ns.getD i Str.empty).cps.toList < (ns.getD j Str.empty).cps.toList)) (kas_sort ns.length)).toList.map fun i=>ns.getD i Str.empty
theorem ZyJ:∀ {ns:List Str} {vs:List Value},Vals (ns.map V.str) vs→∀ {i:Nat},i < ns.length→∃ t,vs.getD i Value.none=.str (ns.getD i Str.empty) t
 | [],_,_,_,h=>absurd h (Nat.not_lt_zero _)
 | n::ns,_,.cons ⟨t,e⟩ r,0,_=>⟨t,e⟩
 | n::ns,_,.cons _ r,i + 1,h=>by
  obtain ⟨t,e⟩:=ZyJ r (i:=i) (by simpa using h)
  exact ⟨t,by simpa using e⟩
theorem ZPO {ks:List Str}:∀ {kvs:List (Key×V)},kvs.map (·.1)=ks.map Sum.inr→∀ {vs:List (Key×Value)},KV kvs vs→vs.map (·.1)=ks.map Sum.inr:=by
 intro kvs h vs r
 rw [← r.keys]
 exact h
section
variable {X:Cx} {pins:List (Addr×Obj)} {σ:St} {H:Hp} {s:Shared}
theorem ZEb (hc:X.calm=true:=by rfl):ZfX X (.builtin "sorted") (fun xs H Q=>∃ d kvs ns,xs=[.ref d]∧Rd H d (.dK kvs)∧kvs.map (·.1)=ns.map Sum.inr∧ns.length < 64∧
  ∀ (l:Addr),H l=none→Q (.ref l) (upd H l (.lst ((Zl9 ns).map V.str)))):=by
 intro pins s σ H xs us Q I r h
 obtain ⟨d,kvs,ns,rfl,hd,hks,h64,q⟩:=h
 obtain ⟨u,rfl,ru⟩:=r.one
 cases (show u=Value.ref d from ru)
 obtain ⟨hz,hs,vs,rel,dd⟩:=Zvn I.hok hd
 obtain ⟨ep,hat⟩:=dd.dictAt
 have hkl:kvs.length=ns.length:=by
  have:=congrArg List.length hks
  rw [List.length_map,List.length_map] at this
  exact this
 refine Calls.call_function_entry kind_sorted plain_sorted entry_sorted (args_sorted1 _) ?_
 unfold Builtin.«sorted»
 refine wpAny_bind (m:=checkCount "sorted" 1 1 _) (wpAny_pure ?_)
 refine wpAny_bind (kdu_collect (kdl_dict (knd:=Z8 X.prog X.w) (kvs:=vs) (ep:=ep) hs) (by first | exact I.ok.hd hc | exact (I.ok.hd hc)) hat (by rw [← rel.length];exact hz) fun h1 tk acc old hi=>?_)
 have hal:acc.toList.length=ns.length:=by
  have e3:acc.toList.length=acc.size:=Array.length_toList
  rw [e3,hi.1,← rel.length,hkl]
 have rv:Vals (ns.map V.str) acc.toList:=by
  refine ZtV (by rw [List.length_map,hal]) fun j x w hx hw=>?_
  obtain ⟨k,y,hy,hk'⟩:=hi.2 j w (by rw [← Array.getElem?_toList];exact hw)
  have e1:(vs.map (·.1))[j]?=some k:=by rw [List.getElem?_map,hy];rfl
  rw [ZPO hks rel,List.getElem?_map] at e1
  rw [List.getElem?_map] at hx
  cases z:ns[j]? with
  | none=>rw [z] at hx;cases hx
  | some n=>
   rw [z] at hx e1
   cases hx
   cases e1
   exact ZKS hk'
 generalize acc.toList=us at hal rv
 refine wpAny_bind (wpAny_newList ?_ (by rw [sizeLine_eq];omega))
 have hD:(h1.push (seqObj "list" us.toArray 0)).get? h1.objs.size=some (seqObj "list" us.toArray 0):=Heap.get?_push_size _ rfl
 have sD:s.heap.get? h1.objs.size=none:=by
  cases z:s.heap.get? h1.objs.size with
  | none=>rfl
  | some o=>exact absurd (Heap.lt_size (old _ _ z)) (Nat.lt_irrefl _)
 have hDn:H h1.objs.size=none:=(I.kept (h':=h1) (t':=tk) old).hok.fresh (Nat.le_refl _)
 have fin:∀ (h3:Heap) (c:Nat) (outs:List Value),(∀ b o,b≠h1.objs.size→(h1.push (seqObj "list" us.toArray 0)).get? b=some o→h3.get? b=some o)→h3.get? h1.objs.size=some (seqObj "list" outs.toArray c)→
   (Zl9 ns).length≤ns.length→Vals ((Zl9 ns).map V.str) outs→EP X pins σ Q (.ref h1.objs.size) {s with heap:=h3,toks:=tk}:=by
  intro h3 c outs kp he hl ro
  refine ⟨.ref h1.objs.size,_,I.many (t':=tk) (fun b o e=>kp b o (Nat.ne_of_lt (Heap.lt_size (old b o e))) (Heap.get?_push_of_some _ (old b o e))) (Zh hDn) (fun b o e=>?_),rfl,q _ hDn⟩
  by_cases z:b=h1.objs.size
  ·subst z
   rw [Zb] at e
   cases e
   refine .inr ⟨sD,?_,outs,c,ro,he⟩
   rw [List.length_map]
   have:(64:Nat)≤sizeLine:=by decide
   omega
  ·rw [Zd z] at e
   exact .inl e
 refine wpAny_bind (wpAny_holding (wpAny_call_entry slot_list_sort ⟨_,hD,rfl⟩ entry_list_sort ?body (args_list_sort _)))
 case body=>
  by_cases h2:us.length < 2
  ·refine ZHE (s:={s with heap:=h1.push (seqObj "list" us.toArray 0),toks:=tk}) hD h2 fun h3 c kp he=>?_
   have e2:Zl9 ns=ns:=by unfold Zl9;rw [if_pos (by omega)]
   exact ⟨_,rfl,wpAny_pure ⟨_,rfl,fin h3 c us kp he (by rw [e2];exact Nat.le_refl _) (by rw [e2];exact rv)⟩⟩
  ·have e2:¬ ns.length < 2:=by omega
   refine ZCb (s:={s with heap:=h1.push (seqObj "list" us.toArray 0),toks:=tk}) (κ:=oneType') (lt:=fun i j=>decide ((ns.getD i Str.empty).cps.toList < (ns.getD j Str.empty).cps.toList)) hD (by omega) (by omega) (fun h' Q' kp hq=>?_) (fun h' i j C kp hi hj hq=>?_) fun h3 c hsz kp he=>?_
   ·have hS:=ZHB rv
    match us,h2,hS with
    | v1::v2::r,_,hS=>
     rw [keyKind_strs hS]
     exact wpAny_pure hq
    | [v1],h2,_=>exact absurd (by show 1 < 2;decide) h2
    | [],h2,_=>exact absurd (by decide) h2
   ·obtain ⟨t,g1⟩:=ZyJ rv (i:=i) (by omega)
    obtain ⟨t',g2⟩:=ZyJ rv (i:=j) (by omega)
    unfold kas_ask
    rw [g1,g2]
    exact kas_lt_str hq
   ·rw [hal] at he hsz
    have low:Low ns.length (Zah (fun i j=>decide ((ns.getD i Str.empty).cps.toList < (ns.getD j Str.empty).cps.toList)) (kas_sort ns.length)):=ZcL _ (ZfR (n:=ns.length) (by omega))
    have hsE:Zl9 ns=(Zah (fun i j=>decide ((ns.getD i Str.empty).cps.toList < (ns.getD j Str.empty).cps.toList)) (kas_sort ns.length)).toList.map fun i=>ns.getD i Str.empty:=by unfold Zl9;rw [if_neg e2]
    generalize Zah (fun i j=>decide ((ns.getD i Str.empty).cps.toList < (ns.getD j Str.empty).cps.toList)) (kas_sort ns.length)=ix at he low hsE hsz
    refine ⟨_,rfl,wpAny_pure ⟨_,rfl,fin h3 c _ kp he ?_ ?_⟩⟩
    ·rw [hsE,List.length_map,Array.length_toList,hsz];exact Nat.le_refl _
    ·rw [hsE]
     have:∀ l:List Nat,(∀ i∈l,i < ns.length)→Vals ((l.map fun i=>ns.getD i Str.empty).map V.str) (l.map fun i=>us.getD i Value.none):=by
      intro l
      induction l with
      | nil=>intro _;exact .nil
      | cons i r ih=>
       intro hl
       obtain ⟨t,g⟩:=ZyJ rv (i:=i) (hl i List.mem_cons_self)
       exact .cons ⟨t,g⟩ (ih fun j hj=>hl j (List.mem_cons_of_mem _ hj))
     exact this _ fun i hi=>low.lt i (by simpa using hi)
end
end L2
namespace L2
open PySem PySem.Spec PyProof.Rows PySem.W
def Its (x:Str):It:=⟨fun i _=>i < x.cps.size,fun i H v H'=>H'=H∧∃ c,x.cps[i]?=some c∧v=.str ⟨#[c]⟩,fun i _=>i=x.cps.size⟩
theorem ZMO {P:Program} {w:World} {K:Frag} {tg:Expr} (it:Addr) (x:Str) (ty:String) (t:Tok)
  (W:∀ A':Around,A'.handled=none→Walks P w A' it [it] [it] x.cps.size (SignAt x) fun i h=>h.IsStrIter it ty x t i) (hself:∀ (A:Around) (i:Nat) (s:Shared) (Q:Value→Shared→Prop) (E:Value→Shared→Prop),s.heap.IsStrIter it ty x t i→Q (.ref it) s→wpAny (model P w) A (pyIter (.ref it)) Q E s):Turn P w K tg (Its x) [it] it (fun i h=>h.IsStrIter it ty x t i) where
 mem:=by simp
 obj:=fun i h st b hb=>by
  have e:b=it:=by simpa using hb
  subst e
  obtain ⟨o,e,c,d⟩:=st
  exact ⟨o,e,fun v z=>by rw [d] at z;cases z⟩
 keep:=fun i h h' st k=>let ⟨o,e,r⟩:=st;⟨o,k it (by simp) o e,r⟩
 item:=by
  intro X hP hw hK hc i pins s σ H E I hf st hg
  subst hP hw hK
  obtain ⟨f0,f1,f2,f3,f4,f5⟩:=hf it (by simp)
  refine (W X.A (I.ok.hd hc)).item i s _ _ hg st fun v h' tk hv st' kk=>?_
  obtain ⟨c,t',hx,rfl⟩:=hv
  have I1:Inv X pins σ H {s with heap:=h',toks:=tk}:=I.turned (fun b o hb e=>kk b o (by simpa using hb) e) f0 f1 f3 f4 f5
  refine ⟨_,rfl,?_⟩
  unfold letOwnedTupleGo
  cases tg <;> exact wpAny_pure ⟨.str ⟨#[c]⟩,H,I1,⟨t',rfl⟩,⟨rfl,c,hx,rfl⟩,st',fun b hb=>(hf b hb).1⟩
 done:=by
  intro X hP hw hK hc i pins s σ H E I hf st hg
  subst hP hw hK
  obtain ⟨f0,f1,f2,f3,f4,f5⟩:=hf it (by simp)
  have hg':i=x.cps.size:=hg
  subst hg'
  exact (W X.A (I.ok.hd hc)).done s _ _ st fun h' tk kk=>⟨rfl,I.turned (fun b o hb e=>kk b o (by simpa using hb) e) f0 f1 f3 f4 f5⟩
 self:=fun A i s Q E st h=>hself A i s Q E st h
def iStr (tl:TE):TI:=fun σ H R=>tl σ H fun x H1=>∃ y,x=.str y∧R (Its y) H1
theorem ZOs {X:Cx} {tg l:Expr} {tl:TE} (hl:PE X l tl):PI X tg l (iStr tl):=by
 try unfold PE at *
 intro pins s σ H R I h
 refine thn (hl pins s σ H _ I h) fun v s1 ⟨x,H1,I1,r1,y,ex,q⟩=>?_
 subst ex
 obtain ⟨t,rfl⟩:=(show ∃ t,v=Value.str y t from r1)
 have fin:∀ (ty:String),(∀ A':Around,A'.handled=none→Walks X.prog X.w A' s1.heap.objs.size [s1.heap.objs.size] [s1.heap.objs.size] y.cps.size (SignAt y) fun i h=>h.IsStrIter s1.heap.objs.size ty y t i)→
   (∀ (A:Around) (i:Nat) (s:Shared) (Q:Value→Shared→Prop) (E:Value→Shared→Prop),s.heap.IsStrIter s1.heap.objs.size ty y t i→Q (.ref s1.heap.objs.size) s→wpAny (model X.prog X.w) A (pyIter (.ref s1.heap.objs.size)) Q E s)→
   PIE X pins σ tg R (.ref s1.heap.objs.size) {s1 with heap:=s1.heap.push {cls:=.type ty,data:=.fields #[.str y t,.int 0 0]}}:=by
  intro ty W hself
  refine ⟨s1.heap.objs.size,[s1.heap.objs.size],_,_,H1,rfl,I1.kept (t':=s1.toks) fun b o e=>Heap.get?_push_of_some _ e,ZMO _ y ty t W hself,⟨_,Heap.get?_push_size _ rfl,rfl,rfl⟩,fun b hb=>?_,q⟩
  have e:b=s1.heap.objs.size:=by simpa using hb
  subst e
  exact I1.fpOk (Nat.le_refl _) (I1.hok.fresh (Nat.le_refl _))
 cases ha:y.cps.all (· < 128)
 ·exact wpAny_pyIter_wide ha (fin _ (fun A' hA=>Walks.strWide hA _ y t) fun A i s Q E st h=>wpAny_pyIter_striter_wide st h)
 ·exact wpAny_pyIter_ascii ha (fin _ (fun A' hA=>Walks.strAscii hA _ y t) fun A i s Q E st h=>wpAny_pyIter_striter_ascii st h)
theorem Zo1 {J:It} {tt:TT} {te:TE} {σ:St} {ix:List Nat} {H1:Hp} {D:Addr} {Q:Hp→Prop} (n:Nat) (f:Nat→Option V) (Xi:Nat→V→Prop) (hD:H1 D=none) (hn:n≤sizeLine)
  (hgo:∀ i H',i < n→Same H1 H'→J.go i H') (hst:∀ H',Same H1 H'→J.stop n H') (hy:∀ i H' x H2,i < n→Same H1 H'→J.yld i H' x H2→H2=H'∧Xi i x)
  (hs:∀ i x H' (N:Option V→Hp→Prop),i < n→Xi i x→Same H1 H'→(∀ H5,Same H' H5→N (f i) H5)→tt (some x::ix.map fun i=>(σ[i]?).getD none) H' fun b H4=>if b=true then te (some x::ix.map fun i=>(σ[i]?).getD none) H4 fun v H5=>N (some v) H5 else N none H4)
  (hd:∀ H',Same H1 H'→H' D=some (.lst ((List.range n).filterMap f))→Q H') :
  ∃ W:Nat→Nat→St→List V→Hp→Prop,(∃ m,W 0 m (List.replicate 1 none++ix.map fun i=>(σ[i]?).getD none) [] (upd H1 D (.lst [])))∧
   ∀ i m σ' ys H',W i m σ' ys H'→H' D=some (.lst ys)∧((J.stop i H'∧Q H')∨(J.go i H'∧ys.length < sizeLine∧
    ∀ x H2,J.yld i H' x H2→ZJP 0 x σ' H2 fun σ2 H3=>tt σ2 H3 fun b H4=>
     if b=true then te σ2 H4 fun v H5=>H5 D=some (.lst ys)∧∃ m',m' < m∧W (i + 1) m' σ2 (ys++[v]) (upd H5 D (.lst (ys++[v])))
     else ∃ m',m' < m∧W (i + 1) m' σ2 ys H4)):=by
 refine ⟨fun i m σ' ys H'=>i≤n∧m=n - i∧(∃ o,σ'=o::ix.map fun i=>(σ[i]?).getD none)∧ys=(List.range i).filterMap f∧H' D=some (.lst ys)∧Same H1 H',⟨n,Nat.zero_le _,rfl,⟨none,rfl⟩,rfl,Zb,Zh hD⟩,?_⟩
 rintro i m σ' ys H' ⟨hi,rfl,⟨o,rfl⟩,ey,hH,sm⟩
 refine ⟨hH,?_⟩
 by_cases hlt:i < n
 ·have hyl:ys.length≤i:=by
   rw [ey]
   refine Nat.le_trans (List.length_filterMap_le _ _) ?_
   rw [List.length_range]
   exact Nat.le_refl _
  refine .inr ⟨hgo i H' hlt sm,by omega,fun x H2 hyy=>?_⟩
  obtain ⟨rfl,hX⟩:=hy i H' x H2 hlt sm hyy
  have key:=hs i x H2 (fun ov H5=>match ov with
   | some v=>H5 D=some (.lst ys)∧∃ m',m' < n - i∧(i + 1≤n∧m'=n - (i + 1)∧(∃ o,(some x::ix.map fun i=>(σ[i]?).getD none)=o::ix.map fun i=>(σ[i]?).getD none)∧ys++[v]=(List.range (i + 1)).filterMap f∧(upd H5 D (.lst (ys++[v]))) D=some (.lst (ys++[v]))∧Same H1 (upd H5 D (.lst (ys++[v]))))
   | none=>∃ m',m' < n - i∧(i + 1≤n∧m'=n - (i + 1)∧(∃ o,(some x::ix.map fun i=>(σ[i]?).getD none)=o::ix.map fun i=>(σ[i]?).getD none)∧ys=(List.range (i + 1)).filterMap f∧H5 D=some (.lst ys)∧Same H1 H5)) hlt hX sm (fun H5 s5=>by
    have e1:(List.range (i + 1)).filterMap f=ys++(match f i with | some v=>[v] | none=>[]):=by
     rw [List.range_succ,List.filterMap_append,← ey,List.append_cancel_left_eq]
     cases hf:f i <;> simp [List.filterMap_cons,hf]
    cases hf:f i with
    | some v=>
     refine ⟨s5 _ _ hH,n - (i + 1),by omega,hlt,rfl,⟨_,rfl⟩,by rw [e1,hf],Zb,fun b o e=>?_⟩
     rw [Zd (Zf e hD)]
     exact s5 _ _ (sm _ _ e)
    | none=>exact ⟨n - (i + 1),by omega,hlt,rfl,⟨_,rfl⟩,by rw [e1,hf,List.append_nil],s5 _ _ hH,sm.trans s5⟩)
  exact key
 ·have e:i=n:=by omega
  subst e
  refine .inl ⟨hst H' sm,hd H' sm ?_⟩
  rw [← ey]
  exact hH
end L2
namespace L2
open PySem
structure ZOS (K:PySem.W.Frag) (C:Addr):Prop where
 ha:PySem.W.findIn K (.ref C) "__class__"=some (some (.builtin "object.__class__"))
 hn:PySem.W.specialIn K (.builtin "object.__class__") "__get__"=some (some (.builtin "getset_descriptor.__get__"))
 htk:PySem.W.takesIn K (.builtin "object.__class__")=some true
 hm:PySem.W.mroIn K C (.type "object")=some true
 hk:PySem.W.kitOne K (.ref C) (.ref C)=some true
def rIsO (K:PySem.W.Frag):List V→Hp→VK→Prop:=fun xs H Q=>∃ (a C dx:Addr) (fs:List (Str×V)),xs=[.ref a,.ref C]∧H a=some (.ins C dx fs)∧Cls K C∧ZOS K C∧Q (.bl true) H
theorem ZOb {X:Cx}:ZfX X (.builtin "isinstance") (rIsO X.K):=by
 intro pins s σ H xs us Q I r h
 obtain ⟨a,C,dx,fs,rfl,ha,cl,O,q⟩:=h
 obtain ⟨u,v,rfl,ru,rv⟩:=r.two
 cases (show v=Value.ref C from rv)
 exact ZLL I ru (.ins ha cl O.ha O.hn O.htk O.hm) O.hk fun tk=>⟨.bl true,H,I.tok tk,rfl,q⟩
theorem ZQZ {X:Cx} {a b:Expr} {ta tb:TE} {p pos:Pos} (ha:PE X a ta) (hb:PE X b tb) (hg:Gl X "isinstance") (hm:X.mg "isinstance"=none)
  (h1:starEach [a,b] X.env=(false,eval a X.env)::starEach [b] X.env:=by rfl) (h2:starEach [b] X.env=(false,eval b X.env)::starEach [] X.env:=by rfl) (hpl:(backTo pos (starEach [b] X.env)).any (·.1)=false:=by rfl) :
  PE X (.Call (.Name "isinstance" p) [a,b] [] pos) (tCB (rIsO X.K) (ZeU ta (ZeU tb tNil))):=
 ZB ZOb hg hm PyProof.Rows.Boot.«isinstance» (Za ha (Za hb Zc h2) h1) (by decide) (by decide) h1 hpl
end L2
namespace L2
open PySem PySem.Spec PyProof.Rows
def ZQv (trs:List (TE×TE)):TE:=fun σ H Q=>∀ p ob,H p=none→ZHA trs σ (upd (upd H p (.dK [])) p (.frz ob (.dK []))) fun ps H2=>H2 p=some (.frz ob (.dK []))∧∃ kvs:List (Key×V),ps=kvs.map (fun kv=>(kV kv.1,kv.2))∧kvs.length≤15∧Q (.ref p) (upd (upd H2 p (.dK [])) p (.dK (Zno [] kvs)))
theorem ZNm {X:Cx} {pos:Pos} {keys:List (Option Expr)} {values:List Expr} {trs:List (TE×TE)} (h:PPs X pos keys values trs) (hall:keys.all (·.isSome)=true) (hl:keys.length=values.length) (h0:keys≠[])
  (h15:keys.length≤15):PE X (.Dict keys values pos) (ZQv trs):=by
 try unfold PE at *;try unfold PPs at *
 intro pins s σ H Q I q
 have hn:=I.hok.fresh (Nat.le_refl s.heap.objs.size)
 have I1:=I.laid (a:=s.heap.objs.size) (o:=.dK []) (h':=s.heap.push {cls:=.type "dict",data:=.dict #[]}) (t':=s.toks) (fun _ _ q=>Heap.get?_push_of_some _ q) (Nat.le_refl _) (ZAV s.heap I.big)
 have nf:=I1.noFrz (a:=s.heap.objs.size) (u:=.dK []) Zb rfl
 obtain ⟨ob,_,I1'⟩:=I1.freeze (a:=s.heap.objs.size) (u:=.dK []) Zb rfl
 refine wpAny_Dict_walk (knd:=Z8 X.prog X.w) hall hl h0 h15 (thn (h pins _ σ _ _ I1' (q _ ob hn)) fun ws s2 ⟨ps,H2,I2',rel,e',kvs,ep,lk,q2⟩=>?_)
 subst ep
 have I2:=I2'.thaw e' rfl nf
 have e:(upd H2 s.heap.objs.size (.dK [])) s.heap.objs.size=some (.dK []):=Zb
 obtain ⟨rs,c,rk⟩:=ZqF (P:=X.prog) (w:=X.w) rel
 obtain ⟨z,hd,vs0,r0,dd⟩:=ZP7 I2.hok e
 cases r0
 refine ⟨rs,c,dd,fun h' dd' hs=>⟨.ref s.heap.objs.size,_,?_,rfl,q2⟩⟩
 have hz:(Zno [] kvs).length≤sizeLine:=by
  have h1:=Zga kvs []
  rw [List.length_nil] at h1
  rw [sizeLine_eq];omega
 have he:∃ q,h'.get? s.heap.objs.size=some q:=let ⟨q,_,_,hq,_⟩:=dd';⟨q,hq⟩
 exact ZAY I2 (by rw [e];exact True.intro) hs he (ZH9 hz hd (rk.merge .nil) dd')
end L2
namespace KS
open PySem L2
def top (i:Nat):Stmt:=PySem.Challenge.pw_stillpoint_k14_bytes_of_files.main.body.getD i (.Pass ⟨0,0,0,0⟩)
abbrev ZbL:Stmt:=Zao (top 17) 0
abbrev Zcd:Stmt:=Zao (top 17) 2
abbrev ZaZ:Stmt:=Zao (top 17) 3
abbrev Zbk:Stmt:=top 22
abbrev Zb1:Stmt:=top 23
abbrev Zam:Stmt:=top 24
abbrev Zbo:Stmt:=Zao (top 25) 0
abbrev Zce:Stmt:=Zao (top 25) 1
abbrev Zbn:Stmt:=Zao (top 25) 2
abbrev ZaX:Stmt:=top 26
abbrev ZdT:Stmt:=top 31
abbrev ZdS:Stmt:=top 32
abbrev ZbV:Stmt:=top 33
abbrev Zb5:Stmt:=Zao (top 40) 0
abbrev Zbh:Stmt:=top 41
abbrev Zbl:Stmt:=top 42
abbrev ZdK:Stmt:=top 43
abbrev Zbj:Stmt:=top 44
abbrev Zfu:Stmt:=top 45
abbrev ZbX:Stmt:=top 47
abbrev Zat:Stmt:=top 48
abbrev Zft:Stmt:=top 49
abbrev ZdJ:Stmt:=top 50
abbrev Zfr:Stmt:=top 51
abbrev Zad:Stmt:=top 52
abbrev Zxl:Stmt:=top 53
abbrev Z2:Stmt:=top 54
abbrev Zb0:Stmt:=top 56
abbrev Zaj:Stmt:=top 57
abbrev ZbZ:Stmt:=top 58
abbrev ZcF:Stmt:=top 59
abbrev ZaW:Stmt:=top 60
abbrev ZbT:Stmt:=top 61
abbrev Zxm:Stmt:=top 62
abbrev Zjy:Stmt:=top 63
abbrev ZbW:Stmt:=top 64
abbrev Zfq:Stmt:=top 65
abbrev Zfs:Stmt:=top 66
abbrev Zb6:Stmt:=Zao (top 74) 0
abbrev Za8:Stmt:=top 75
abbrev Zbi:Stmt:=top 76
abbrev ZbU:Stmt:=top 77
abbrev ZdL:Stmt:=top 78
abbrev ZdM:Stmt:=top 79
abbrev ZaJ:Stmt:=top 80
abbrev Zjx:Stmt:=top 81
abbrev ZbY:Stmt:=top 82
abbrev Zb4:Stmt:=Zao (top 85) 0
abbrev Zae:Stmt:=Zao (top 85) 1
abbrev Zb3:Stmt:=Zao (top 85) 2
abbrev ZcG:Stmt:=top 86
abbrev Zcb:Stmt:=Zao (top 88) 0
abbrev Zcc:Stmt:=Zao (top 88) 1
abbrev Zb8:Stmt:=Zao (top 88) 2
abbrev Zb7:Stmt:=Zao (top 88) 3
abbrev Zb9:Stmt:=Zao (top 88) 7
abbrev Zca:Stmt:=Zao (top 88) 8
abbrev Zbm:Stmt:=Zao (top 88) 11
abbrev ZcK:Stmt:=Zao (top 88) 12
abbrev ZS:Stmt:=Zao (top 88) 17
abbrev Zau:Stmt:=Zao (top 88) 18
abbrev ZcH:Stmt:=top 89
abbrev ZcJ:Stmt:=top 91
abbrev Zb2:Stmt:=top 92
abbrev ZcI:Stmt:=top 93
abbrev ZbJ:Stmt:=top 94
abbrev ZaY:Stmt:=top 95
abbrev ZbK:Stmt:=top 96
abbrev ZI3:Stmt:=top 97
inductive Rf where
 | noThing | noDirectory | badName | isThere | noRoom | notEmpty | wrongKind | tooGreat | readOnly | noFiles
 deriving DecidableEq,Repr
structure Gs where
 Zv8:Addr
 ZlW:FuncData
 Zq0:Addr
 Zjs:FuncData
 Zjt:Addr
 Zfm:FuncData
 ZlO:Addr
 ZgU:FuncData
 ZqI:Addr
 Zi0:FuncData
 Zix:Addr
 Ze7:FuncData
 ZlY:Addr
 Zg2:FuncData
 Zq1:Addr
 Zju:FuncData
 ZlX:Addr
 Zg1:FuncData
 ZiL:Addr
 Zfa:FuncData
 ZGJ:Addr
 Zve:FuncData
 ZGI:Addr
 Zvd:FuncData
 Zqf:Addr
 Zh2:FuncData
 ZqO:Addr
 Zjb:FuncData
 ZlG:Addr
 Zgh:FuncData
 ZlR:Addr
 ZgV:FuncData
 ZAE:Addr
 Zqp:FuncData
 ZlI:Addr
 Zgt:FuncData
 ZGS:Addr
 Zvv:FuncData
 Zqo:Addr
 Zib:FuncData
 Zf7:Addr
 ZdW:FuncData
 ZGG:Addr
 ZuZ:FuncData
 ZAB:Addr
 Zqn:FuncData
 ZF1:Addr
 Zt6:FuncData
 Zd6:Addr
 ZcP:FuncData
 walk:Addr
 ZKf:FuncData
 ZcE:Addr
 ZbI:FuncData
 Zqw:Addr
 ZiK:FuncData
 Ze9:Addr
 Zdi:FuncData
 Zqu:Addr
 Ziw:FuncData
 ZtT:Addr
 Zle:FuncData
 Zhw:Addr
 ZeT:FuncData
 ZpK:Addr
 Zhv:FuncData
 made:Addr
 ZLr:FuncData
 linked:Addr
 ZAD:FuncData
 lengthened:Addr
 Zia:FuncData
 written:Addr
 ZtS:FuncData
 resized:Addr
 Zub:FuncData
 ZqR:Addr
 Zjd:FuncData
 Zqk:Addr
 Zh9:FuncData
 ZlH:Addr
 Zgq:FuncData
 ZpL:Addr
 ZhB:FuncData
 ZAG:Addr
 Zqq:FuncData
 ZA0:Addr
 Zqx:FuncData
 ZlJ:Addr
 Zgu:FuncData
 padded:Addr
 Zzw:FuncData
 Zqs:Addr
 Zis:FuncData
 ZqN:Addr
 Zja:FuncData
 Zef:Addr
 ZcR:FuncData
 ZqM:Addr
 Zi9:FuncData
 ZuF:Addr
 Zlw:FuncData
 ZqW:Addr
 Zji:FuncData
 ZqX:Addr
 Zjj:FuncData
 ZqT:Addr
 Zjf:FuncData
 ZqS:Addr
 Zje:FuncData
 ZqU:Addr
 Zjg:FuncData
 ZqV:Addr
 Zjh:FuncData
 ZlT:Addr
 ZgW:FuncData
 ZvZ:Addr
 ZlU:FuncData
 Za1:Addr
 ZaC:FuncData
 ZgX:Addr
 Zeg:FuncData
 formatted:Addr
 ZlE:FuncData
 _law_cell:Addr
 _law_cell_d:FuncData
 _law_drawn:Addr
 _law_drawn_d:FuncData
 _law_word:Addr
 _law_word_d:FuncData
 _law_told:Addr
 _law_told_d:FuncData
 _law_changed:Addr
 _law_changed_d:FuncData
 _law_deed:Addr
 _law_deed_d:FuncData
 law:Addr
 ZNE:FuncData
 Disk:Addr
 Chains:Addr
 State:Addr
 Image:Addr
 Store:Addr
 Files:Addr
 NoThing:Addr
 NoDirectory:Addr
 BadName:Addr
 IsThere:Addr
 NoRoom:Addr
 NotEmpty:Addr
 WrongKind:Addr
 TooGreat:Addr
 ReadOnly:Addr
 NoFiles:Addr
 StillError:Addr
 Zv7:Tok
 ZBm:Tok
 ZBu:Tok
 ZBr:Tok
 ZJ7:Tok
 ZHj:Tok
 ZEZ:Tok
 Zxa:Tok
 Zw9:Tok
 ZRH:Tok
 ZBl:Tok
 ZE0:Tok
 Zw8:Tok
 ZFk:Tok
 MARK:Addr
 ZBt:Tok
 ZHn:Tok
 Zty:Tok
 Zxc:Tok
 ZBs:Tok
 ZQg:Tok
def Gs.xa (g:Gs):Rf→Addr
 | .noThing=>g.NoThing
 | .noDirectory=>g.NoDirectory
 | .badName=>g.BadName
 | .isThere=>g.IsThere
 | .noRoom=>g.NoRoom
 | .notEmpty=>g.NotEmpty
 | .wrongKind=>g.WrongKind
 | .tooGreat=>g.TooGreat
 | .readOnly=>g.ReadOnly
 | .noFiles=>g.NoFiles
def Rf.word:Rf→Str
 | .noThing=>"NoThing"
 | .noDirectory=>"NoDirectory"
 | .badName=>"BadName"
 | .isThere=>"IsThere"
 | .noRoom=>"NoRoom"
 | .notEmpty=>"NotEmpty"
 | .wrongKind=>"WrongKind"
 | .tooGreat=>"TooGreat"
 | .readOnly=>"ReadOnly"
 | .noFiles=>"NoFiles"
structure Tx (K:PySem.W.Frag) (mg:Str→Option Value) (g:Gs):Prop where
 ZQ9:mg "Disk"=some (.ref g.Disk)
 ZNB:mg "Chains"=some (.ref g.Chains)
 ZGE:mg "State"=some (.ref g.State)
 ZPK:mg "Image"=some (.ref g.Image)
 ZPJ:mg "Store"=some (.ref g.Store)
 ZLA:mg "Files"=some (.ref g.Files)
 ZuL:mg "NoThing"=some (.ref g.NoThing)
 Zns:mg "NoDirectory"=some (.ref g.NoDirectory)
 ZDc:mg "BadName"=some (.ref g.BadName)
 ZuM:mg "IsThere"=some (.ref g.IsThere)
 ZHS:mg "NoRoom"=some (.ref g.NoRoom)
 ZJK:mg "NotEmpty"=some (.ref g.NotEmpty)
 Zlz:mg "WrongKind"=some (.ref g.WrongKind)
 ZdO:mg "TooGreat"=some (.ref g.TooGreat)
 ZxA:mg "ReadOnly"=some (.ref g.ReadOnly)
 ZLz:mg "NoFiles"=some (.ref g.NoFiles)
 Zrp:mg "StillError"=some (.ref g.StillError)
 ZiZ:Cls K g.Disk
 Zcp:ZaU K g.Disk "blocks"
 Zfz:ZaU K g.Disk "log"
 Zal:Cls K g.Chains
 ZaP:ZaU K g.Chains "free"
 Zbz:ZaU K g.Chains "older"
 Z7:ZaU K g.Chains "places"
 Z3:Cls K g.State
 Z6:ZaU K g.State "data"
 Zr:ZaU K g.State "entries"
 ZqH:Cls K g.Image
 Za0:ZaU K g.Image "places"
 Zdx:ZaU K g.Image "heads"
 Zai:Cls K g.Store
 ZaD:ZaU K g.Store "disk"
 Zcg:ZaU K g.Store "slot"
 Zcf:ZaU K g.Store "turn"
 Zan:ZaU K g.Store "synced"
 ZK:Cls K g.Files
 ZQ:ZaU K g.Files "state"
 ZaE:ZaU K g.Files "kept"
 Zco:ZaU K g.Files "store"
 Zdy:ZaU K g.Files "image"
 ZHm:Fun K "__init__" "Disk.__init__" ZbL g.Zv8 g.ZlW
 ZG6:ZO K g.ZlW ["self","count"] []
 ZGt:Mk K g.Disk g.Zv8
 ZFi:Fun K "write" "Disk.write" Zcd g.Zq0 g.Zjs
 Zi3:ZO K g.Zjs ["self","number","block"] []
 Ziu:Meth K g.Disk "write" g.Zq0
 Zxb:Fun K "barrier" "Disk.barrier" ZaZ g.Zjt g.Zfm
 ZkX:ZO K g.Zfm ["self"] []
 Zky:Meth K g.Disk "barrier" g.Zjt
 ZpJ:Fun K "block_count" "block_count" Zbk g.ZlO g.ZgU
 ZA5:ZO K g.ZgU ["disk"] []
 ZAA:mg "block_count"=some (.ref g.ZlO)
 Ztc:Fun K "blocks_for" "blocks_for" Zb1 g.ZqI g.Zi0
 ZEq:ZO K g.Zi0 ["length"] []
 ZDa:mg "blocks_for"=some (.ref g.ZqI)
 Zk8:Fun K "free_numbers" "free_numbers" Zam g.Zix g.Ze7
 Zw0:ZO K g.Ze7 ["count","places"] []
 ZwV:mg "free_numbers"=some (.ref g.Zix)
 ZBq:Fun K "__init__" "Chains.__init__" Zbo g.ZlY g.Zg2
 ZA8:ZO K g.Zg2 ["self","free","older"] []
 ZuH:Mk K g.Chains g.ZlY
 ZFj:Fun K "put" "Chains.put" Zce g.Zq1 g.Zju
 Zs1:ZO K g.Zju ["self","row"] []
 Zsd:Meth K g.Chains "put" g.Zq1
 ZBp:Fun K "take" "Chains.take" Zbn g.ZlX g.Zg1
 ZA7:ZO K g.Zg1 ["self","many"] []
 ZAM:Meth K g.Chains "take" g.ZlX
 Zk9:Fun K "chain_blocks" "chain_blocks" ZaX g.ZiL g.Zfa
 Zw1:ZO K g.Zfa ["row","numbers"] []
 ZwW:mg "chain_blocks"=some (.ref g.ZiL)
 ZE7:Fun K "is_name" "is_name" ZdT g.ZGJ g.Zve
 ZMy:ZO K g.Zve ["text"] []
 ZLy:mg "is_name"=some (.ref g.ZGJ)
 ZE6:Fun K "is_path" "is_path" ZdS g.ZGI g.Zvd
 ZMx:ZO K g.Zvd ["text"] []
 ZLx:mg "is_path"=some (.ref g.ZGI)
 ZaG:Fun K "path_names" "path_names" ZbV g.Zqf g.Zh2
 Zbe:ZO K g.Zh2 ["path"] []
 Zba:mg "path_names"=some (.ref g.Zqf)
 ZFa:Fun K "__init__" "State.__init__" Zb5 g.ZqO g.Zjb
 Zi1:ZO K g.Zjb ["self","data","entries"] []
 Znn:Mk K g.State g.ZqO
 ZpF:Fun K "first_state" "first_state" Zbh g.ZlG g.Zgh
 ZA2:ZO K g.Zgh [] []
 ZAx:mg "first_state"=some (.ref g.ZlG)
 Zg0:Fun K "all_numbers" "all_numbers" Zbl g.ZlR g.ZgV
 Zpc:ZO K g.ZgV ["state"] []
 Znr:mg "all_numbers"=some (.ref g.ZlR)
 ZqY:Fun K "is_thing" "is_thing" ZdK g.ZAE g.Zqp
 Zyk:ZO K g.Zqp ["state","number"] []
 Zxz:mg "is_thing"=some (.ref g.ZAE)
 ZgZ:Fun K "check_thing" "check_thing" Zbj g.ZlI g.Zgt
 Zpb:ZO K g.Zgt ["state","number"] []
 Znq:mg "check_thing"=some (.ref g.ZlI)
 ZpH:Fun K "data_of" "data_of" Zfu g.ZGS g.Zvv
 ZvP:ZO K g.Zvv ["state","number"] []
 ZuK:mg "data_of"=some (.ref g.ZGS)
 Zjp:Fun K "least_free" "least_free" ZbX g.Zqo g.Zib
 ZsY:ZO K g.Zib ["state"] []
 Zrn:mg "least_free"=some (.ref g.Zqo)
 Zjm:Fun K "named_numbers" "named_numbers" Zat g.Zf7 g.ZdW
 ZvO:ZO K g.ZdW ["state"] []
 ZuJ:mg "named_numbers"=some (.ref g.Zf7)
 ZE5:Fun K "kind_of" "kind_of" Zft g.ZGG g.ZuZ
 ZMw:ZO K g.ZuZ ["state","number"] []
 ZLw:mg "kind_of"=some (.ref g.ZGG)
 Zyu:Fun K "links_of" "links_of" ZdJ g.ZAB g.Zqn
 ZJY:ZO K g.Zqn ["state","number"] []
 ZJH:mg "links_of"=some (.ref g.ZAB)
 ZE3:Fun K "size_of" "size_of" Zfr g.ZF1 g.Zt6
 ZMu:ZO K g.Zt6 ["state","number"] []
 ZLu:mg "size_of"=some (.ref g.ZF1)
 ZcS:Fun K "check_directory" "check_directory" Zad g.Zd6 g.ZcP
 ZfP:ZO K g.ZcP ["state","number"] []
 ZfA:mg "check_directory"=some (.ref g.Zd6)
 ZIl:Fun K "walk" "walk" Zxl g.walk g.ZKf
 ZMt:ZO K g.ZKf ["state","names"] []
 ZLt:mg "walk"=some (.ref g.walk)
 Zeh:Fun K "walk_to_directory" "walk_to_directory" Z2 g.ZcE g.ZbI
 ZlQ:ZO K g.ZbI ["state","path"] []
 Zly:mg "walk_to_directory"=some (.ref g.ZcE)
 Zde:Fun K "check_path" "check_path" Zb0 g.Zqw g.ZiK
 ZeQ:ZO K g.ZiK ["path"] []
 Zet:mg "check_path"=some (.ref g.Zqw)
 Zdl:Fun K "check_not_full" "check_not_full" Zaj g.Ze9 g.Zdi
 Zhh:ZO K g.Zdi ["state","directory"] []
 Zg7:mg "check_not_full"=some (.ref g.Ze9)
 Zjq:Fun K "free_place" "free_place" ZbZ g.Zqu g.Ziw
 ZsZ:ZO K g.Ziw ["state","path"] []
 Zro:mg "free_place"=some (.ref g.Zqu)
 ZgY:Fun K "with_data" "with_data" ZcF g.ZtT g.Zle
 ZlP:ZO K g.Zle ["state","number","row"] []
 Zlx:mg "with_data"=some (.ref g.ZtT)
 Zfl:Fun K "with_entries" "with_entries" ZaW g.Zhw g.ZeT
 ZkW:ZO K g.ZeT ["state","number","entries"] []
 Zkf:mg "with_entries"=some (.ref g.Zhw)
 Zjk:Fun K "with_entry" "with_entry" ZbT g.ZpK g.Zhv
 ZsU:ZO K g.Zhv ["state","directory","name","number"] []
 Zrj:mg "with_entry"=some (.ref g.ZpK)
 ZOU:Fun K "made" "made" Zxm g.made g.ZLr
 ZRA:ZO K g.ZLr ["state","path","kind"] []
 ZQ8:mg "made"=some (.ref g.made)
 ZIm:Fun K "linked" "linked" Zjy g.linked g.ZAD
 ZOd:ZO K g.ZAD ["state","old","new"] []
 ZNA:mg "linked"=some (.ref g.linked)
 Zjo:Fun K "lengthened" "lengthened" ZbW g.lengthened g.Zia
 ZsX:ZO K g.Zia ["row","size"] []
 Zrm:mg "lengthened"=some (.ref g.lengthened)
 ZE2:Fun K "written" "written" Zfq g.written g.ZtS
 ZMs:ZO K g.ZtS ["state","number","start","row"] []
 ZLs:mg "written"=some (.ref g.written)
 ZE4:Fun K "resized" "resized" Zfs g.resized g.Zub
 ZMv:ZO K g.Zub ["state","number","size"] []
 ZLv:mg "resized"=some (.ref g.resized)
 ZFb:Fun K "__init__" "Image.__init__" Zb6 g.ZqR g.Zjd
 ZEu:ZO K g.Zjd ["self","places","heads"] []
 ZAv:Mk K g.Image g.ZqR
 Zjn:Fun K "name_codes" "name_codes" Za8 g.Zqk g.Zh9
 ZsW:ZO K g.Zh9 ["name"] []
 Zrl:mg "name_codes"=some (.ref g.Zqk)
 ZpG:Fun K "entries_row" "entries_row" Zbi g.ZlH g.Zgq
 ZA3:ZO K g.Zgq ["entries"] []
 ZAy:mg "entries_row"=some (.ref g.ZlH)
 Zjl:Fun K "table_head" "table_head" ZbU g.ZpL g.ZhB
 ZsV:ZO K g.ZhB ["state","chains"] []
 Zrk:mg "table_head"=some (.ref g.ZpL)
 Zyv:Fun K "image_of" "image_of" ZdL g.ZAG g.Zqq
 ZJZ:ZO K g.Zqq ["state","kept","free","older"] []
 ZJI:mg "image_of"=some (.ref g.ZAG)
 Zyw:Fun K "check_of" "check_of" ZdM g.ZA0 g.Zqx
 ZJ0:ZO K g.Zqx ["row"] []
 ZJJ:mg "check_of"=some (.ref g.ZA0)
 ZpI:Fun K "check_bytes" "check_bytes" ZaJ g.ZlJ g.Zgu
 ZA4:ZO K g.Zgu ["rows"] []
 ZAz:mg "check_bytes"=some (.ref g.ZlJ)
 ZBn:Fun K "padded" "padded" Zjx g.padded g.Zzw
 ZIi:ZO K g.Zzw ["row","length"] []
 ZHR:mg "padded"=some (.ref g.padded)
 Ztb:Fun K "head_block" "head_block" ZbY g.Zqs g.Zis
 ZEp:ZO K g.Zis ["image","turn"] []
 ZC9:mg "head_block"=some (.ref g.Zqs)
 ZE9:Fun K "__init__" "Store.__init__" Zb4 g.ZqN g.Zja
 ZEt:ZO K g.Zja ["self","disk","slot","turn","synced"] []
 ZAu:Mk K g.Store g.ZqN
 ZqZ:Fun K "image_for" "Store.image_for" Zae g.Zef g.ZcR
 ZfQ:ZO K g.ZcR ["self","state","kept"] []
 ZfI:Meth K g.Store "image_for" g.Zef
 ZE8:Fun K "save" "Store.save" Zb3 g.ZqM g.Zi9
 ZEs:ZO K g.Zi9 ["self","image"] []
 ZDO:Meth K g.Store "save" g.ZqM
 Zv0:Fun K "new_store" "new_store" ZcG g.ZuF g.Zlw
 ZGZ:ZO K g.Zlw ["disk"] []
 ZGy:mg "new_store"=some (.ref g.ZuF)
 ZFg:Fun K "__init__" "Files.__init__" Zcb g.ZqW g.Zji
 ZEx:ZO K g.Zji ["self","state","kept","store","image"] []
 ZAw:Mk K g.Files g.ZqW
 ZFh:Fun K "find" "Files.find" Zcc g.ZqX g.Zjj
 ZEy:ZO K g.Zjj ["self","path"] []
 ZDR:Meth K g.Files "find" g.ZqX
 ZFd:Fun K "read" "Files.read" Zb8 g.ZqT g.Zjf
 Zi2:ZO K g.Zjf ["self","number","start","many"] []
 Zit:Meth K g.Files "read" g.ZqT
 ZFc:Fun K "stat" "Files.stat" Zb7 g.ZqS g.Zje
 ZEv:ZO K g.Zje ["self","number"] []
 ZDP:Meth K g.Files "stat" g.ZqS
 ZFe:Fun K "make" "Files.make" Zb9 g.ZqU g.Zjg
 Zs0:ZO K g.Zjg ["self","path","kind"] []
 Zsc:Meth K g.Files "make" g.ZqU
 ZFf:Fun K "link" "Files.link" Zca g.ZqV g.Zjh
 ZEw:ZO K g.Zjh ["self","old","new"] []
 ZDQ:Meth K g.Files "link" g.ZqV
 ZBo:Fun K "write" "Files.write" Zbm g.ZlT g.ZgW
 ZA6:ZO K g.ZgW ["self","number","start","row"] []
 ZAL:Meth K g.Files "write" g.ZlT
 ZHl:Fun K "cut" "Files.cut" ZcK g.ZvZ g.ZlU
 ZG5:ZO K g.ZlU ["self","number","size"] []
 ZGM:Meth K g.Files "cut" g.ZvZ
 ZfV:Fun K "check_changeable" "Files.check_changeable" ZS g.Za1 g.ZaC
 Zab:ZO K g.ZaC ["self"] []
 Zaa:Meth K g.Files "check_changeable" g.Za1
 Zv6:Fun K "turn_to" "Files.turn_to" Zau g.ZgX g.Zeg
 ZcB:ZO K g.Zeg ["self","state","kept"] []
 Zcs:Meth K g.Files "turn_to" g.ZgX
 Zv1:Fun K "formatted" "formatted" ZcH g.formatted g.ZlE
 ZG0:ZO K g.ZlE ["disk"] []
 ZGz:mg "formatted"=some (.ref g.formatted)
 Zv5:Fun K "_law_cell" "_law_cell" ZcJ g._law_cell g._law_cell_d
 ZG4:ZO K g._law_cell_d ["_law_script","_law_k"] []
 ZGD:mg "_law_cell"=some (.ref g._law_cell)
 Ztd:Fun K "_law_drawn" "_law_drawn" Zb2 g._law_drawn g._law_drawn_d
 ZEr:ZO K g._law_drawn_d ["_law_cell_here","_law_k"] []
 ZDb:mg "_law_drawn"=some (.ref g._law_drawn)
 Zv2:Fun K "_law_word" "_law_word" ZcI g._law_word g._law_word_d
 ZG1:ZO K g._law_word_d ["_law_e"] []
 ZGA:mg "_law_word"=some (.ref g._law_word)
 Zv3:Fun K "_law_told" "_law_told" ZbJ g._law_told g._law_told_d
 ZG2:ZO K g._law_told_d ["_law_files","_law_deed_here"] []
 ZGB:mg "_law_told"=some (.ref g._law_told)
 Zla:Fun K "_law_changed" "_law_changed" ZaY g._law_changed g._law_changed_d
 Zw2:ZO K g._law_changed_d ["_law_held","_law_deed_here"] []
 ZwX:mg "_law_changed"=some (.ref g._law_changed)
 Zv4:Fun K "_law_deed" "_law_deed" ZbK g._law_deed g._law_deed_d
 ZG3:ZO K g._law_deed_d ["_law_cell_here","_law_more","_law_number","_law_size"] []
 ZGC:mg "_law_deed"=some (.ref g._law_deed)
 ZSi:Fun K "law" "law" ZI3 g.law g.ZNE
 ZSm:ZO K g.ZNE ["_law_script"] []
 ZSl:mg "law"=some (.ref g.law)
 ZBS:Zjr K g.NoThing
 ZyE:Zjr K g.NoDirectory
 ZKc:Zjr K g.BadName
 ZBT:Zjr K g.IsThere
 ZMM:Zjr K g.NoRoom
 ZQm:Zjr K g.NotEmpty
 ZtR:Zjr K g.WrongKind
 Zfo:Zjr K g.TooGreat
 ZIz:Zjr K g.ReadOnly
 ZQo:Zjr K g.NoFiles
 ZPE:ZOS K g.Files
 xf:∀ r:Rf,Zyt K (g.xa r)
 kit:∀ r u:Rf,PySem.W.kitOne K (.ref (g.xa r)) (.ref (g.xa u))=some (decide (r=u))
 kitS:∀ r:Rf,PySem.W.kitOne K (.ref (g.xa r)) (.ref g.StillError)=some true
 kitV:∀ r:Rf,PySem.W.kitOne K (.ref (g.xa r)) (.type "ValueError")=some true
 ZB3:ZHo K g.StillError
 sub:∀ r:Rf,PySem.W.subIn K (.ref (g.xa r)) (.ref g.StillError)=some true
 Zd1:mg "FEWEST_BLOCKS"=some (.int 16 g.Zv7)
 Zdz:mg "MOST_BLOCKS"=some (.int 256 g.ZBm)
 Zct:mg "BLOCK_BYTES"=some (.int 64 g.ZBu)
 Zgf:mg "FIRST_BLOCK"=some (.int 2 g.ZBr)
 ZjD:mg "NO_BLOCK"=some (.int 0 g.ZJ7)
 ZbO:mg "ROW_BYTES"=some (.int 63 g.ZHj)
 Zey:mg "NAME_SIGNS"=some (.str "ABCDEFGHIJKLMNOPQRSTUVWXYZabcdefghijklmnopqrstuvwxyz0123456789._-" g.ZEZ)
 ZcV:mg "LONGEST_NAME"=some (.int 8 g.Zxa)
 Ze5:mg "LONGEST_PATH"=some (.int 60 g.Zw9)
 ZH1:mg "ROOT"=some (.int 0 g.ZRH)
 Zge:mg "MOST_THINGS"=some (.int 32 g.ZBl)
 Zez:mg "MOST_BYTES"=some (.int 600 g.ZE0)
 Ze4:mg "MOST_ENTRIES"=some (.int 40 g.Zw8)
 Ziv:mg "ENTRY_SIZE"=some (.int 10 g.ZFk)
 ZLS:mg "MARK"=some (.ref g.MARK)
 ZQU:∀ H,SqT K H g.MARK [.int 83,.int 116,.int 105,.int 108]
 Zgg:mg "CHECK_PLACE"=some (.int 37 g.ZBt)
 ZlD:mg "FILE_KIND"=some (.int 1 g.ZHn)
 Zdh:mg "DIRECTORY_KIND"=some (.int 2 g.Zty)
 Ze6:mg "CHECK_FACTOR"=some (.int 1000003 g.Zxc)
 ZdA:mg "CHECK_PRIME"=some (.int 4294967291 g.ZBs)
 ZAO:mg "TURNS"=some (.int 256 g.ZQg)
 Zlc:mg "range"=none
 ZMK:mg "min"=none
 Zbv:mg "len"=none
 ZtJ:mg "tuple"=none
 Zld:mg "enumerate"=none
 ZML:mg "all"=none
 ZlZ:mg "sorted"=none
 Zq2:mg "list"=none
 ZBv:mg "dict"=none
 ZOY:mg "sum"=none
 ZOX:mg "zip"=none
 ZT:mg "isinstance"=none
 Zhu:mg "ValueError"=none
 ZKa:mg "max"=none
end KS
namespace KS
open PySem L2
theorem szl (n:Nat) (h:n≤100:=by decide):n≤sizeLine:=Nat.le_trans h (by decide)
theorem _root_.L2.Room.dn {j k:Nat} {A:Around} (r:Room k A) (h:j≤k:=by decide):Room j A:=r.mono h
def ZQd (ns:List Int) (k:Int):Int:=if ns=[] then k * 7919 else ns.getD (k % (ns.length:Int)).toNat 0 + k / (ns.length:Int) * 104729
def ZJD (c k:Int):Int:=(c * 6364136223846793005 + (k + 1) * 1442695040888963407) % 340282366920938463463374607431768211507
def ZRx (c k:Int):Int:=ZJD c k * ZJD c k % 340282366920938463463374607431768211297
theorem ZNw (c k:Int):0≤ZJD c k:=Int.emod_nonneg _ (by decide)
theorem ZNx (c k:Int):ZJD c k < 340282366920938463463374607431768211507:=Int.emod_lt_of_pos _ (by decide)
theorem ZLJ {n:Int} {m:Nat} (h0:0≤n) (h1:n < (m:Int)):ixN m n=some n.toNat:=by
 unfold ixN
 rw [if_pos h0,if_pos h1]
theorem ZvQ {α:Type} {xs:List α} {n:Int} {v:α} (h0:0≤n) (h:xs[n.toNat]?=some v):atI xs n=some v:=by
 have h1:n < (xs.length:Int):=by
  have:=(List.getElem?_eq_some_iff.mp h).1
  omega
 unfold atI
 rw [ZLJ h0 h1]
 exact h
theorem ZtC (H:Hp):∀ ns:List Int,Ims H (ns.map V.int) (ns.map PyData.int)
 | []=>.nil
 | n::r=>.cons (.int n) (ZtC H r)
def Flat (k:Nat) (d:PyData):Prop:=d.canLay0=true∧d.depth≤k
theorem ZAS {k:Nat}:∀ {ds:List PyData},(∀ d∈ds,Flat k d)→PyData.canLayAll0 ds=true∧PyData.depthAll ds≤k
 | [],_=>⟨rfl,Nat.zero_le _⟩
 | d::r,h=>by
  obtain ⟨h1,h2⟩:=h d List.mem_cons_self
  obtain ⟨h3,h4⟩:=ZAS (ds:=r) fun e he=>h e (List.mem_cons_of_mem _ he)
  refine ⟨?_,?_⟩
  ·show (PyData.canLay0 d && PyData.canLayAll0 r)=true
   rw [h1,h3];rfl
  ·show max d.depth (PyData.depthAll r)≤k
   exact Nat.max_le.mpr ⟨h2,h4⟩
theorem Flat.tup {k:Nat} {ds:List PyData} (h:∀ d∈ds,Flat k d):Flat (k + 1) (.tuple ds):=by
 obtain ⟨h1,h2⟩:=ZAS h
 exact ⟨h1,Nat.succ_le_succ h2⟩
theorem ZF2 {k:Nat} {ds:List PyData} (h:∀ d∈ds,Flat k d) (hk:k≤60):SeqAt.shaped (.list ds)=true:=by
 obtain ⟨h1,h2⟩:=ZAS h
 have h3:PyData.depth (.list ds)≤64:=by
  show PyData.depthAll ds + 1≤64
  omega
 unfold SeqAt.shaped
 rw [show PyData.canLay0 (.list ds)=true from h1,decide_eq_true h3]
 rfl
theorem ZF3 {k:Nat} {d:PyData} (h:Flat k d) (hk:k≤60):SeqAt.shaped d=true:=by
 have h3:d.depth≤64:=Nat.le_trans h.2 (by omega)
 unfold SeqAt.shaped
 rw [h.1,decide_eq_true h3]
 rfl
theorem ZAR (i:Int):Flat 0 (.int i):=⟨rfl,Nat.le_refl _⟩
theorem ZNU {i:Str} (h:(PyData.str i).canLay0=true):Flat 0 (.str i):=⟨h,Nat.le_refl _⟩
theorem ZfY (ns:List Int):SeqAt.shaped (.list (ns.map PyData.int))=true:=ZF2 (k:=0) (fun d hd=>by
 obtain ⟨i,_,rfl⟩:=List.mem_map.mp hd
 exact ZAR i) (by decide)
theorem Ims.snoc {H:Hp} {v:V} {d:PyData} (h:Im H v d):∀ {xs:List V} {ds:List PyData},Ims H xs ds→Ims H (xs++[v]) (ds++[d])
 | _,_,.nil=>.cons h .nil
 | _,_,.cons a r=>.cons a (Ims.snoc h r)
theorem Zf1 (n:Nat) (v:V):(List.replicate n [v]).flatten=List.replicate n v:=by
 induction n with
 | zero=>rfl
 | succ n ih=>rw [List.replicate_succ,List.flatten_cons,ih];rfl
end KS
namespace KS
open PySem L2
theorem ZSg:¬ (("blocks":Str)="log"):=by decide +kernel
def flds (b l:Addr):List (Str×V):=putF "log" (.ref l) (putF "blocks" (.ref b) [])
theorem ZOH (b l:Addr):(flds b l).lookup ("blocks":Str)=some (.ref b):=by
 unfold flds
 rw [Zl,if_neg ZSg,Zl,if_pos rfl]
theorem ZLW (b l:Addr):(flds b l).lookup ("log":Str)=some (.ref l):=by
 unfold flds
 rw [Zl,if_pos rfl]
theorem ZGO (b l:Addr) {m:Str} (h1:¬ m="log") (h2:¬ m="blocks"):(flds b l).lookup m=none:=by
 unfold flds
 rw [Zl,if_neg h1,Zl,if_neg h2]
 all_goals rfl
def ZJ9:PyData:=.tuple (List.replicate 64 (.int 0))
structure ZOV (C:Addr) (H:Hp) (p b l:Addr) (vb vl:List V) (bs lg:List PyData):Prop where
 ob:∃ dx,H p=some (.ins C dx (flds b l))
 hb:H b=some (.lst vb)
 hl:H l=some (.lst vl)
 ib:Ims H vb bs
 il:Ims H vl lg
 ne:b≠l
def ZQF (C TG:Addr):Sp:=fun vs H Q E=>∃ (p dx:Addr) (n:Int),vs=[.ref p,.int n]∧H p=some (.ins C dx [])∧((n < 16∨256 < n)→E (.ref TG) none H)∧
 (16≤n→n≤256→∀ (b l:Addr) (vb:List V) (H':Hp),H b=none→H l=none→ZOV C H' p b l vb [] (List.replicate n.toNat ZJ9) []→(∀ c o,H c=some o→c≠p→H' c=some o)→Q .non H')
def ZKv (C:Addr):Sp:=fun vs H Q _=>∃ (p dx b l:Addr) (vb vl:List V) (n:Int) (v:V),vs=[.ref p,.int n,v]∧H p=some (.ins C dx (flds b l))∧H b=some (.lst vb)∧H l=some (.lst vl)∧b≠l∧0≤n∧n < (vb.length:Int)∧vl.length≤100000∧
 ∀ t,H t=none→Q .non (upd (upd (upd H b (.lst (vb.set n.toNat v))) t (.tup [.str "write",.int n,v])) l (.lst (vl++[.ref t])))
def ZQL (C:Addr):Sp:=fun vs H Q _=>∃ (p dx b l:Addr) (vl:List V),vs=[.ref p]∧H p=some (.ins C dx (flds b l))∧H l=some (.lst vl)∧vl.length≤100000∧
 ∀ t,H t=none→Q .non (upd (upd H t (.tup [.str "barrier"])) l (.lst (vl++[.ref t])))
section
variable {P:Program} {w:World} {K:PySem.W.Frag} {mg:Str→Option Value} {base:Heap} {g:Gs}
theorem Zzo:Zo ["self","number","block"] ["self","number","block"] (Zj Zcd):=⟨rfl,rfl,rfl,by decide +kernel,rfl,by decide +kernel,by decide +kernel⟩
theorem Zf6 (T:Tx K mg g):FnOk P w K mg base (CXE P w) 1 g.Zq0 g.Zjs ["self","number","block"] (ZKv g.Disk):=by
 refine T.ZFi.okE Zzo (fun vs H Q E h=>?_) (fun cdv A outer s H vs Q E hr h=>?_)
 ·obtain ⟨p,dx,b,l,vb,vl,n,v,rfl,_⟩:=h
  rfl
 ·obtain ⟨p,dx,b,l,vb,vl,n,v,rfl,hp,hb,hl,ne,h0,h1,hz,q⟩:=h
  refine ⟨_,(Ze (ZKX (pv 2) (ZOt (ZC (pv 0) rfl) (pv 1) ZHG))
   (Zi (ZW (Ztq PySem.F.plainAttrs_list PySem.F.slot_list_append PySem.F.type_list_append ZdX (ZC (pv 0) rfl) (Za (Zar (Za ZR (Za (pv 1) (Za (pv 2) Zc)))) Zc))))),?_⟩
  have npb:p≠b:=ZY hp hb (by intro z;cases z)
  have hp1:∀ o,(upd H b o) p=some (.ins g.Disk dx (flds b l)):=fun o=>by rw [Zd npb];exact hp
  have hl1:∀ o,(upd H b o) l=some (.lst vl):=fun o=>by rw [Zd ne.symm];exact hl
  refine ⟨_,rfl,_,rfl,p,g.Disk,dx,_,_,rfl,hp,T.ZiZ,T.Zcp,ZOH _ _,_,rfl,b,vb,n,n.toNat,rfl,rfl,hb,ZLJ h0 h1,?_⟩
  refine ⟨_,rfl,p,g.Disk,dx,_,_,rfl,hp1 _,T.ZiZ,T.Zfz,ZLW _ _,.inl ⟨rfl,vl,SqL.of (hl1 _)⟩,?_⟩
  refine ⟨_,rfl,_,rfl,szl 3,fun t ht=>?_⟩
  have nlt:l≠t:=Zf (hl1 _) ht
  have ht':H t=none:=by
   by_cases z:t=b
   ·rw [z,Zb] at ht;cases ht
   ·rw [Zd z] at ht;exact ht
  refine ⟨l,vl,_,rfl,rfl,(by rw [Zd nlt];exact hl1 _),(Nat.lt_of_le_of_lt hz (by decide)),?_⟩
  exact q t ht'
theorem Zua:Zo ["self"] ["self"] (Zj ZaZ):=⟨rfl,rfl,rfl,by decide +kernel,rfl,by decide +kernel,by decide +kernel⟩
theorem Zh7 (T:Tx K mg g):FnOk P w K mg base (CXE P w) 1 g.Zjt g.Zfm ["self"] (ZQL g.Disk):=by
 refine T.Zxb.okE Zua (fun vs H Q E h=>?_) (fun cdv A outer s H vs Q E hr h=>?_)
 ·obtain ⟨p,dx,b,l,vl,rfl,_⟩:=h
  rfl
 ·obtain ⟨p,dx,b,l,vl,rfl,hp,hl,hz,q⟩:=h
  refine ⟨_,(Zi (ZW (Ztq PySem.F.plainAttrs_list PySem.F.slot_list_append PySem.F.type_list_append ZdX (ZC (pv 0) rfl) (Za (Zar (Za ZR Zc)) Zc)))),?_⟩
  refine ⟨_,rfl,p,g.Disk,dx,_,_,rfl,hp,T.ZiZ,T.Zfz,ZLW _ _,.inl ⟨rfl,vl,SqL.of hl⟩,?_⟩
  refine ⟨szl 1,fun t ht=>?_⟩
  exact ⟨l,vl,_,rfl,rfl,(by rw [Zd (Zf hl ht)];exact hl),(Nat.lt_of_le_of_lt hz (by decide)),q t ht⟩
theorem ZLM {H:Hp} {v:V} {d:PyData} (h:Im H v d):∀ n:Nat,Ims H (List.replicate n v) (List.replicate n d)
 | 0=>.nil
 | n + 1=>.cons h (ZLM h n)
theorem ZCq:Zo ["self","count"] ["self","count"] (Zj ZbL):=⟨rfl,rfl,rfl,by decide +kernel,rfl,by decide +kernel,by decide +kernel⟩
theorem ZCM (T:Tx K mg g):FnOk P w K mg base (CXE P w) 1 g.Zv8 g.ZlW ["self","count"] (ZQF g.Disk g.TooGreat):=by
 refine T.ZHm.okE ZCq (fun vs H Q E h=>?_) (fun cdv A outer s H vs Q E hr h=>?_)
 ·obtain ⟨p,dx,n,rfl,_⟩:=h
  rfl
 ·obtain ⟨p,dx,n,rfl,hp,hE,q⟩:=h
  refine ⟨_,(Ze (Zav (PW.pt (Zzs (ZU ZQ1 (pv 1) (ZI (v:=.int 16) rfl T.Zd1 ⟨_,rfl⟩) (Zac _)) (Zue (ZU ZCD (pv 1) (ZI (v:=.int 256) rfl T.Zdz ⟨_,rfl⟩) (Zac _))))) (Zi (ZaK T.Zfo rfl T.ZdO (Za ZR Zc))) ZP)
   (Ze (Za3 (pv 0) (Zqe (own:=["number"]) (fv:=[]) (ix:=[]) (ZcO (sc:=Zj ZbL) (N:=["self","count"]) rfl rfl (by decide +kernel)) rfl (Zm7 rfl T.Zlc (Za (pv 1) Zc)) (fun _ _ _ _ _=>Z5 (i:=0) (show (["number"]:List Str).Nodup from by decide +kernel) rfl (Or.inl rfl) (Or.inr rfl)) (fun _ _ _ _ _=>Zqc) (fun _ _ _ _ _=>(Zt ZLc (Zar (Za Zm Zc)) (ZI (v:=.int 64) rfl T.Zct ⟨_,rfl⟩)))) rfl)
   (Zi (Za3 (pv 0) (Zbs Zc) rfl)))),?_⟩
  refine ⟨_,rfl,_,_,rfl,rfl,_,rfl,?_⟩
  by_cases h1:n < 16
  ·rw [decide_eq_true h1]
   refine iteT (iteT ?_)
   exact ⟨szl 1,hE (.inl h1)⟩
  ·rw [decide_eq_false h1]
   refine iteF ⟨_,rfl,_,_,rfl,rfl,_,rfl,?_⟩
   by_cases h2:256 < n
   ·rw [decide_eq_true h2]
    refine iteT ?_
    exact ⟨szl 1,hE (.inr h2)⟩
   ·rw [decide_eq_false h2]
    refine iteF ?_
    have h1':16≤n:=by omega
    have h2':n≤256:=by omega
    -- self.blocks=[(0,) * BLOCK_BYTES for number in range(count)]
    refine ⟨_,rfl,n,rfl,by omega,by omega,fun D hD=>?_⟩
    have npD:p≠D:=Zf hp hD
    have hnL:n.toNat≤sizeLine:=by
     have:(256:Nat)≤sizeLine:=by decide
     omega
    refine Zyb (tOp ZQQ (tTup (ZeU (tC (V.int 0)) tNil)) (tC (V.int 64))) (n:=n.toNat) (lo:=0) (fun i ys H'=>ys.length=i∧H' D=some (.lst ys)∧Ims H' ys (List.replicate i ZJ9)∧Same H H') ⟨rfl,Zb,.nil,Zh hD⟩ hnL (fun i ys H' h=>⟨h.2.1,Nat.le_of_eq h.1⟩) (fun i ys H' N hi h k=>?_) (fun ys H' h=>?_)
    ·obtain ⟨e1,e2,e3,e4⟩:=h
     refine ⟨szl 1,fun t ht=>?_⟩
     refine ⟨t,64,[.int 0],rfl,rfl,Zb,by simp,by decide,by decide,by show 1 * 64≤sizeLine;decide,fun u hu=>?_⟩
     have ntD:D≠t:=Zf e2 ht
     have nuD:D≠u:=Zf (H:=upd H' t (.tup [.int 0])) (by rw [Zd ntD];exact e2) hu
     have sm:Same H' (upd (upd H' t (.tup [.int 0])) u (.tup (List.replicate (64:Int).toNat [V.int 0]).flatten)):=(Zh ht).trans (Zh hu)
     have hD5:(upd (upd H' t (.tup [.int 0])) u (.tup (List.replicate (64:Int).toNat [V.int 0]).flatten)) D=some (.lst ys):=sm _ _ e2
     refine k _ _ hD5 ⟨by rw [List.length_append,e1];rfl,Zb,?_,?_⟩
     ·have hz:Im (upd (upd (upd H' t (.tup [.int 0])) u (.tup (List.replicate (64:Int).toNat [V.int 0]).flatten)) D (.lst (ys++[.ref u]))) (.ref u) ZJ9:=by
       refine .tup (xs:=List.replicate 64 (V.int 0)) ?_ (ZLM (.int 0) 64)
       rw [Zd nuD.symm,Zb]
       rw [Zf1]
       rfl
      rw [List.replicate_succ']
      refine Ims.snoc hz (Ims.keep (fun a xs e=>?_) e3)
      have e':=sm _ _ e
      have:a≠D:=ZY e e2 (by intro z;cases z)
      rw [Zd this]
      exact e'
     ·intro b o e
      have:b≠D:=fun z=>by rw [z,hD] at e;cases e
      rw [Zd this]
      exact sm _ _ (e4 _ _ e)
    ·obtain ⟨e1,e2,e3,e4⟩:=h
     have hp':H' p=some (.ins g.Disk dx []):=e4 _ _ hp
     refine ⟨_,rfl,p,g.Disk,dx,[],rfl,hp',T.ZiZ,T.Zcp,(by show 0 < 1000;decide),?_⟩
     refine ⟨Nat.zero_le _,fun L hL=>?_⟩
     have npL:p≠L:=Zf (H:=upd H' p (.ins g.Disk dx (putF "blocks" (.ref D) []))) Zb hL
     have nDL:D≠L:=Zf (H:=upd H' p (.ins g.Disk dx (putF "blocks" (.ref D) []))) (by rw [Zd npD.symm];exact e2) hL
     have hL':H' L=none:=by rw [Zd npL.symm] at hL;exact hL
     refine ⟨_,rfl,p,g.Disk,dx,_,rfl,(by rw [Zd npL,Zb]),T.ZiZ,T.Zfz,(by show 1 < 1000;decide),?_⟩
     have hLH:H L=none:=by
      cases z:H L with
      | none=>rfl
      | some o=>have:=e4 _ _ z;rw [hL'] at this;cases this
     refine q h1' h2' D L ys _ hD hLH ⟨⟨dx,Zb⟩,?_,?_,?_,.nil,nDL⟩ fun c o e hc=>?_
     ·rw [Zd npD.symm,Zd nDL,Zd npD.symm];exact e2
     ·rw [Zd npL.symm,Zb]
     ·refine Ims.keep (fun a xs e=>?_) e3
      have a1:a≠p:=ZY e hp' (by intro z;cases z)
      have a2:a≠L:=Zf e hL'
      rw [Zd a1,Zd a2,Zd a1]
      exact e
     ·have c2:c≠L:=Zf e hLH
      rw [Zd hc,Zd c2,Zd hc]
      exact e4 _ _ e
end
end KS
namespace KS
open PySem L2
def ZCm:Str:="ABCDEFGHIJKLMNOPQRSTUVWXYZabcdefghijklmnopqrstuvwxyz0123456789._-"
def Zxi (c:Nat):Bool:=!(Builtin.Str.occurrences ZCm ⟨#[c]⟩ 0 ZCm.length 1).isEmpty
def Zcr (t:Str):Bool:=if t.length < 1∨8 < t.length∨t="."∨t=".." then false else (List.range t.cps.size).all fun i=>Zxi (t.cps.getD i 0)
def ZD (p:Str):List Str:=if p="/" then [] else Zei (cutS p (some 1) none) "/"
def Zcq (p:Str):Bool:=if 60 < p.length then false else if !(decide (0 + Str.length "/"≤p.length) && Builtin.Str.subAt p "/" 0) then false else (ZD p).all Zcr
section
variable {P:Program} {w:World} {K:PySem.W.Frag} {mg:Str→Option Value} {base:Heap} {g:Gs}
def ZM0:Sp:=fun vs H Q _=>∃ t,vs=[.str t]∧t.length≤sizeLine∧∀ H',Same H H'→Q (.bl (Zcr t)) H'
theorem ZOR (n:Nat) (f:Nat→Bool):((List.range n).filterMap fun i=>some (V.bl (f i)))=((List.range n).map f).map V.bl:=by
 rw [List.filterMap_eq_map',List.map_map]
 rfl
theorem all_map (n:Nat) (f:Nat→Bool):((List.range n).map f).all id=(List.range n).all f:=by
 rw [List.all_map]
 rfl
theorem inV2 (t a b:Str):inV (.str t) [.str a,.str b]=(decide (t=a) || decide (t=b)):=by
 show ((a == t) || ((b == t) || false))=_
 rw [Bool.or_false]
 congr 1
 ·rw [Bool.eq_iff_iff,beq_iff_eq,decide_eq_true_iff];exact eq_comm
 ·rw [Bool.eq_iff_iff,beq_iff_eq,decide_eq_true_iff];exact eq_comm
theorem ZI1:Zo ["text"] ["text"] (Zj ZdT):=⟨rfl,rfl,rfl,by decide +kernel,rfl,by decide +kernel,by decide +kernel⟩
theorem ZJn (T:Tx K mg g):FnOk P w K mg base (CXE P w) 1 g.ZGJ g.Zve ["text"] ZM0:=by
 refine T.ZE7.okE ZI1 (fun vs H Q E h=>?_) (fun cdv A outer s H vs Q E hr h=>?_)
 ·obtain ⟨t,rfl,_⟩:=h
  rfl
 ·obtain ⟨t,rfl,hl,q⟩:=h
  have hc:t.cps.size=t.length:=rfl
  refine ⟨_,(Ze (Zav (PW.pt (Zzs (ZU ZQ1 (ZB ZiW (by rfl) T.Zbv PySem.boot_len (Za (pv 0) Zc)) Zm (Zac _)) (Zzs (ZU ZCD (ZB ZiW (by rfl) T.Zbv PySem.boot_len (Za (pv 0) Zc)) (ZI (v:=.int 8) rfl T.ZcV ⟨_,rfl⟩) (Zac _)) (Zue (ZU ZLe (pv 0) (Zar (Za ZR (Za ZR Zc))) rfl))))) (Zi (Zz Zun)) ZP)
   (Zi (Zz (ZB ZIf (by rfl) T.ZML PyProof.Rows.Boot.«all» (Za (Zqe (own:=["sign"]) (fv:=[]) (ix:=[]) (ZcO (sc:=Zj ZdT) (N:=["text"]) rfl rfl (by decide +kernel)) rfl (ZOs (pv 0)) (fun _ _ _ _ _=>Z5 (i:=0) (show (["sign"]:List Str).Nodup from by decide +kernel) rfl (Or.inl rfl) (Or.inr rfl)) (fun _ _ _ _ _=>Zqc) (fun _ _ _ _ _=>(ZPs ZLd (pv 0) (ZI (v:=.str "ABCDEFGHIJKLMNOPQRSTUVWXYZabcdefghijklmnopqrstuvwxyz0123456789._-") rfl T.Zey ⟨_,rfl⟩) rfl))) Zc))))),?_⟩
  refine ⟨_,rfl,_,rfl,hl,_,_,rfl,rfl,_,rfl,?_⟩
  by_cases h1:t.length < 1
  ·rw [decide_eq_true (show (t.length:Int) < 1 by omega)]
   refine iteT (iteT ?_)
   have:=q H (Same.refl _)
   unfold Zcr at this
   rw [if_pos (.inl h1)] at this
   exact this
  ·rw [decide_eq_false (show ¬ (t.length:Int) < 1 by omega)]
   refine iteF ?_
   refine ⟨_,rfl,_,rfl,hl,_,_,rfl,rfl,_,rfl,?_⟩
   by_cases h2:8 < t.length
   ·rw [decide_eq_true (show (8:Int) < (t.length:Int) by omega)]
    refine iteT (iteT ?_)
    have:=q H (Same.refl _)
    unfold Zcr at this
    rw [if_pos (.inr (.inl h2))] at this
    exact this
   ·rw [decide_eq_false (show ¬ (8:Int) < (t.length:Int) by omega)]
    refine iteF ?_
    refine ⟨_,rfl,(szl 2),fun p hp=>?_⟩
    refine ⟨p,_,rfl,.inr (SqT.of Zb),rfl,rfl,_,rfl,?_⟩
    have s1:Same H (upd H p (.tup [.str ".",.str ".."])):=Zh hp
    rw [show (if false=true then !inV (.str t) [.str ".",.str ".."] else inV (.str t) [.str ".",.str ".."])=(decide (t=".") || decide (t="..")) from inV2 _ _ _]
    by_cases h3:t="."∨t=".."
    ·rw [show (decide (t=".") || decide (t=".."))=true by simpa using h3]
     refine iteT ?_
     have:=q _ s1
     unfold Zcr at this
     rw [if_pos (.inr (.inr h3))] at this
     exact this
    ·rw [show (decide (t=".") || decide (t=".."))=false by simpa using h3]
     refine iteF ?_
     refine ⟨_,rfl,_,rfl,fun D hD=>?_⟩
     refine Zo1 (J:=Its t) t.cps.size (fun i=>some (V.bl (Zxi (t.cps.getD i 0)))) (fun i x=>x=.str ⟨#[t.cps.getD i 0]⟩) hD (by omega) (fun i H' hi _=>hi) (fun H' _=>rfl) (fun i H' x H2 hi _ hy=>?_) (fun i x H' N hi hx _ k=>?_) fun H' s' hH=>?_
     ·obtain ⟨e,c,hc,e2⟩:=hy
      refine ⟨e,?_⟩
      rw [e2,show t.cps.getD i 0=c by rw [Array.getD_eq_getD_getElem?,hc];rfl]
     ·subst hx
      refine iteT (B:=N none H') ?_
      exact ⟨_,rfl,_,_,rfl,rfl,k _ (Same.refl _)⟩
     ·refine ⟨D,(List.range t.cps.size).map fun i=>Zxi (t.cps.getD i 0),rfl,SqL.of (by rw [hH,ZOR]),?_⟩
      have:=q _ (s1.trans s')
      unfold Zcr at this
      rw [if_neg (by intro z;rcases z with z | z | z;exact h1 z;exact h2 z;exact h3 z)] at this
      rw [all_map]
      exact this
theorem ZO5 (s:Str) (i j:Nat):(Builtin.Str.strSub s i j).length≤s.length:=by
 show (s.cps.extract i j).size≤s.cps.size
 rw [Array.size_extract]
 omega
theorem ZLa (s:Str) (o:List Nat) (w:Nat):(Builtin.Str.partsBetween s o w).length≤o.length + 1:=by
 show (((0::o.map (· + w)).zip (o++[s.length])).map _).length≤_
 rw [List.length_map,List.length_zip,List.length_cons,List.length_map]
 omega
theorem ZB6 (a b:Str):(Zei a b).length≤a.length + 2:=by
 unfold Zei
 split
 ·show 1≤_;omega
 ·split
  ·show 1≤_;omega
  ·refine Nat.le_trans (ZLa _ _ _) ?_
   have:=PySem.StrLaws.occ_length_le a b 0 a.length (a.length + 1)
   omega
theorem ZKt (a b:Str):∀ n∈Zei a b,n.length≤a.length:=by
 intro n hn
 unfold Zei at hn
 split at hn
 ·rw [List.mem_singleton.mp hn];exact Nat.le_refl _
 ·split at hn
  ·rw [List.mem_singleton.mp hn];exact Nat.le_refl _
  ·obtain ⟨⟨i,j⟩,_,rfl⟩:=List.mem_map.mp hn
   exact ZO5 _ _ _
theorem ZGT (a:Str) (lo hi:Option Int):(cutS a lo hi).length≤a.length:=by
 unfold cutS
 split
 ·exact Nat.le_refl _
 ·show (((Builtin.Str.strSliceIndices lo hi 1 a.length).filterMap (a.cps[·]?)).toArray).size≤_
  rw [List.size_toArray]
  exact Nat.le_trans (List.length_filterMap_le _ _) (PyProof.Rows.indices_len_le _ _ _)
theorem Zdv (p:Str):(ZD p).length≤p.length + 2:=by
 unfold ZD
 split
 ·exact Nat.zero_le _
 ·exact Nat.le_trans (ZB6 _ _) (Nat.add_le_add_right (ZGT _ _ _) 2)
theorem Zdu (p:Str):∀ n∈ZD p,n.length≤p.length:=by
 intro n hn
 unfold ZD at hn
 split at hn
 ·exact nomatch hn
 ·exact Nat.le_trans (ZKt _ _ n hn) (ZGT _ _ _)
theorem ZNR (p:Str) (i:Nat):((ZD p).getD i "").length≤p.length:=by
 rw [List.getD_eq_getElem?_getD]
 cases h:(ZD p)[i]? with
 | none=>exact Nat.zero_le _
 | some n=>exact Zdu p n (List.mem_of_getElem? h)
def ZtZ:Sp:=fun vs H Q _=>∃ p,vs=[.str p]∧p.length≤1000∧∀ l H',Same H H'→H l=none→H' l=some (.lst ((ZD p).map V.str))→Q (.ref l) H'
theorem Zs {n m:Nat} (h:n≤m) (hm:m≤100000):n≤sizeLine:=by
 have:(100000:Nat)≤sizeLine:=by decide
 omega
theorem Zzc:Zo ["path"] ["path"] (Zj ZbV):=⟨rfl,rfl,rfl,by decide +kernel,rfl,by decide +kernel,by decide +kernel⟩
theorem ZaO (T:Tx K mg g):FnOk P w K mg base (CXE P w) 1 g.Zqf g.Zh2 ["path"] ZtZ:=by
 refine T.ZaG.okE Zzc (fun vs H Q E h=>?_) (fun cdv A outer s H vs Q E hr h=>?_)
 ·obtain ⟨p,rfl,_⟩:=h
  rfl
 ·obtain ⟨p,rfl,hl,q⟩:=h
  refine ⟨_,(Ze (Zav (ZU Zuq (pv 0) ZR (Zac _)) (Zi (Zz (Zbs Zc))) ZP)
   (Zi (Zz (Ztq PySem.F.plainAttrs_str PySem.F.slot_str_split PySem.F.type_str_split ZLn (ZaM ZQN (pv 0) (ZaL Zm) ZdV) (Za ZR Zc))))),?_⟩
  refine ⟨_,rfl,rfl,_,rfl,?_⟩
  by_cases h1:p="/"
  ·rw [decide_eq_true (show V.str p=V.str "/" by rw [h1])]
   refine iteT ⟨Nat.zero_le _,fun l hn=>?_⟩
   refine q l _ (Zh hn) hn ?_
   unfold ZD
   rw [if_pos h1]
   exact Zb
  ·rw [decide_eq_false (show ¬ V.str p=V.str "/" by intro z;injection z with z;exact h1 z)]
   refine iteF ?_
   have hcl:=ZGT p (some 1) none
   refine ⟨_,rfl,_,rfl,_,rfl,Zs (Nat.le_trans hcl hl) (by decide),rfl,_,_,rfl,rfl,rfl,Zs (Nat.le_trans hcl hl) (by decide),Zs (Nat.le_trans (ZB6 _ _) (Nat.add_le_add_right (Nat.le_trans hcl hl) 2)) (by decide),fun l hn=>?_⟩
   refine q l _ (Zh hn) hn ?_
   unfold ZD
   rw [if_neg h1]
   exact Zb
theorem ZI5 (f:Str→Bool) (xs:List Str):((List.range xs.length).all fun i=>f (xs.getD i ""))=xs.all f:=by
 induction xs with
 | nil=>rfl
 | cons x xs ih=>
  rw [List.length_cons,List.range_succ_eq_map,List.all_cons,List.all_map,List.all_cons,← ih]
  rfl
def ZMZ:Sp:=fun vs H Q _=>∃ t,vs=[.str t]∧t.length≤1000∧∀ H',Same H H'→Q (.bl (Zcq t)) H'
theorem ZI0:Zo ["text"] ["text"] (Zj ZdS):=⟨rfl,rfl,rfl,by decide +kernel,rfl,by decide +kernel,by decide +kernel⟩
theorem ZJm (T:Tx K mg g):FnOk P w K mg base (CXE P w) 2 g.ZGI g.Zvd ["text"] ZMZ:=by
 refine T.ZE6.okE ZI0 (fun vs H Q E h=>?_) (fun cdv A outer s H vs Q E hr h=>?_)
 ·obtain ⟨t,rfl,_⟩:=h
  rfl
 ·obtain ⟨t,rfl,hl,q⟩:=h
  refine ⟨_,(Ze (Zav (PW.pt (Zzs (ZU ZCD (ZB ZiW (by rfl) T.Zbv PySem.boot_len (Za (pv 0) Zc)) (ZI (v:=.int 60) rfl T.Ze5 ⟨_,rfl⟩) (Zac _)) (Zue (Zug (Zuf (Ztq PySem.F.plainAttrs_str PySem.F.slot_str_startswith PySem.F.type_str_startswith ZwU (pv 0) (Za ZR Zc))))))) (Zi (Zz Zun)) ZP)
   (Zi (Zz (ZB ZIf (by rfl) T.ZML PyProof.Rows.Boot.«all» (Za (Zqe (own:=["name"]) (fv:=[]) (ix:=[]) (ZcO (sc:=Zj ZdS) (N:=["text"]) rfl rfl (by decide +kernel)) rfl (Zqd (Zp (ZaO T) hr.dn rfl T.Zba T.ZaG.kp T.Zbe .nil Zg (Za (pv 0) Zc))) (fun _ _ _ _ _=>Z5 (i:=0) (show (["name"]:List Str).Nodup from by decide +kernel) rfl (Or.inl rfl) (Or.inr rfl)) (fun _ _ _ _ _=>Zqc) (fun _ _ _ _ _=>(Zp (ZJn T) hr.dn rfl T.ZLy T.ZE7.kp T.ZMy .nil Zh4 (Za (pv 0) Zc)))) Zc))))),?_⟩
  refine ⟨_,rfl,_,rfl,Zs hl (by decide),_,_,rfl,rfl,_,rfl,?_⟩
  by_cases h1:60 < t.length
  ·rw [decide_eq_true (show (60:Int) < (t.length:Int) by omega)]
   refine iteT (iteT ?_)
   have:=q H (Same.refl _)
   unfold Zcq at this
   rw [if_pos h1] at this
   exact this
  ·rw [decide_eq_false (show ¬ (60:Int) < (t.length:Int) by omega)]
   refine iteF ?_
   refine ⟨_,rfl,rfl,_,_,rfl,rfl,_,rfl,?_⟩
   by_cases h2:(!(decide (0 + Str.length "/"≤t.length) && Builtin.Str.subAt t "/" 0))=true
   ·have h2':(decide (0 + Str.length "/"≤t.length) && Builtin.Str.subAt t "/" 0)=false:=(Bool.not_eq_true' _).mp h2
    rw [h2']
    refine iteT ?_
    have:=q H (Same.refl _)
    unfold Zcq at this
    rw [if_neg h1,if_pos h2] at this
    exact this
   ·have h2':(decide (0 + Str.length "/"≤t.length) && Builtin.Str.subAt t "/" 0)=true:=by
     cases z:(decide (0 + Str.length "/"≤t.length) && Builtin.Str.subAt t "/" 0) with
     | true=>rfl
     | false=>rw [z] at h2;exact absurd rfl h2
    rw [h2']
    refine iteF ?_
    refine ⟨_,rfl,t,rfl,hl,fun l H1 s1 hn hl1=>?_⟩
    refine ⟨l,rfl,⟨_,SqL.of hl1⟩,fun D hD=>?_⟩
    have hlen:(ZD t).length≤1002:=Nat.le_trans (Zdv t) (Nat.add_le_add_right hl 2)
    have hat:∀ H',Same H1 H'→SqL K H' l ((ZD t).map V.str):=fun H' s'=>SqL.of (s' _ _ hl1)
    refine Zo1 (J:=Itl K l) (ZD t).length (fun i=>some (V.bl (Zcr ((ZD t).getD i "")))) (fun i x=>x=.str ((ZD t).getD i "")) hD (Zs hlen (by decide)) (fun i H' hi s'=>⟨_,.str ((ZD t).getD i ""),hat H' s',?_⟩) (fun H' s'=>⟨_,hat H' s',by rw [List.length_map];exact Nat.le_refl _⟩) (fun i H' x H2 hi s' hy=>?_) (fun i x H' N hi hx s' k=>?_) fun H' s' hH=>?_
    ·rw [List.getElem?_map,List.getD_eq_getElem?_getD,List.getElem?_eq_getElem hi];rfl
    ·obtain ⟨e,hx⟩:=hy
     refine ⟨e,?_⟩
     have:=hx _ (hat H' s')
     rw [List.getElem?_map,List.getElem?_eq_getElem hi] at this
     rw [List.getD_eq_getElem?_getD,List.getElem?_eq_getElem hi]
     exact (Option.some.inj this).symm
    ·subst hx
     refine iteT (B:=N none H') ?_
     exact ⟨_,rfl,_,rfl,Zs (Nat.le_trans (ZNR t i) hl) (by decide),fun H5 s5=>k _ s5⟩
    ·refine ⟨D,(List.range (ZD t).length).map fun i=>Zcr ((ZD t).getD i ""),rfl,SqL.of (by rw [hH,ZOR]),?_⟩
     have:=q _ (s1.trans s')
     unfold Zcq at this
     rw [if_neg h1,if_neg h2] at this
     rw [all_map,ZI5]
     exact this
theorem ZbP (a b:Str):(a++b).length=a.length + b.length:=by
 show (a.cps++b.cps).size=_
 exact Array.size_append
def Ans {α:Type} (g:Gs) (R:Hp→α→V→Prop) (H:Hp) (m:Except Rf α) (Q:VK) (E:XK):Prop:=match m with
 | .ok x=>∀ v H',Same H H'→R H' x v→Q v H'
 | .error r=>∀ H',Same H H'→E (.ref (g.xa r)) none H'
theorem Ans.ok {α:Type} {g:Gs} {R:Hp→α→V→Prop} {H:Hp} {m:Except Rf α} {Q:VK} {E:XK} (h:Ans g R H m Q E) {x:α} (e:m=.ok x):∀ v H',Same H H'→R H' x v→Q v H':=by subst e;exact h
theorem Ans.no {α:Type} {g:Gs} {R:Hp→α→V→Prop} {H:Hp} {m:Except Rf α} {Q:VK} {E:XK} (h:Ans g R H m Q E) {r:Rf} (e:m=.error r):∀ H',Same H H'→E (.ref (g.xa r)) none H':=by subst e;exact h
def ZHk (_:Hp) (_:Unit) (v:V):Prop:=v=.non
def ZQi (_:Hp) (n:Int) (v:V):Prop:=v=.int n
def Zdd (p:Str):Except Rf Unit:=if Zcq p then .ok () else .error .badName
def ZFU (g:Gs):Sp:=fun vs H Q E=>∃ p,vs=[.str p]∧p.length≤1000∧Ans g ZHk H (Zdd p) Q E
theorem Zze:Zo ["path"] ["path"] (Zj Zb0):=⟨rfl,rfl,rfl,by decide +kernel,rfl,by decide +kernel,by decide +kernel⟩
theorem Zdw (T:Tx K mg g):FnOk P w K mg base (CXE P w) 3 g.Zqw g.ZiK ["path"] (ZFU g):=by
 refine T.Zde.okE Zze (fun vs H Q E h=>?_) (fun cdv A outer s H vs Q E hr h=>?_)
 ·obtain ⟨p,rfl,_⟩:=h
  rfl
 ·obtain ⟨p,rfl,hl,q⟩:=h
  refine ⟨_,(Zi (Zav (Zug (Zuf (Zp (ZJm T) hr.dn rfl T.ZLx T.ZE6.kp T.ZMx .nil Zg (Za (pv 0) Zc)))) (Zi (ZaK T.ZKc rfl T.ZDc (Za (ZGf (ZK4 (pv 0) (ZK5 ZK6))) Zc))) ZP)),?_⟩
  refine ⟨_,rfl,p,rfl,hl,fun H1 s1=>⟨_,rfl,?_⟩⟩
  cases hb:Zcq p with
  | true=>exact iteF (q.ok (x:=()) (by unfold Zdd;rw [hb];rfl) _ _ s1 rfl)
  | false=>
   refine iteT ?_
   refine ⟨_,rfl,p,rfl,Zs hl (by decide),?_,?_,?_,?_,q.no (r:=.badName) (by unfold Zdd;rw [hb];rfl) _ s1⟩
   ·rw [ZbP];exact Zs (m:=1000) (by show 0 + p.length≤1000;omega) (by decide)
   ·rw [ZbP,ZbP];exact Zs (m:=1100) (by show 0 + p.length + 11≤1100;omega) (by decide)
   ·rw [ZbP,ZbP];exact Zs (m:=1100) (by show 0 + p.length + 11≤1100;omega) (by decide)
   ·show 1≤sizeLine;decide
end
end KS
namespace KS
open PySem L2
abbrev Row:=List Int
abbrev Ents:=List (Str×Int)
structure Sta where
 dat:List (Int×Row)
 ent:List (Int×Ents)
section
variable {κ α:Type} [DecidableEq κ]
def getA (xs:List (κ×α)) (k:κ):Option α:=(xs.find? fun p=>decide (p.1=k)).map (·.2)
def putA (xs:List (κ×α)) (k:κ) (x:α):List (κ×α):=if (xs.any fun p=>decide (p.1=k))=true then xs.map (fun p=>if p.1=k then (p.1,x) else p) else xs++[(k,x)]
theorem Za4 {p:κ×α} {r:List (κ×α)} {k:κ} (e:p.1=k):getA (p::r) k=some p.2:=by simp [getA,List.find?_cons,e]
theorem Za5 {p:κ×α} {r:List (κ×α)} {k:κ} (e:¬ p.1=k):getA (p::r) k=getA r k:=by simp [getA,List.find?_cons,e]
theorem Zn7 (k:κ):∀ xs:List (κ×α),(xs.any fun p=>decide (p.1=k))=(getA xs k).isSome
 | []=>rfl
 | p::r=>by
  rw [List.any_cons,Zn7 k r]
  by_cases e:p.1=k
  ·rw [Za4 e,decide_eq_true e];rfl
  ·rw [Za5 e,decide_eq_false e];rfl
theorem Ztz (xs:List (κ×α)) (k:κ) (x:α):(putA xs k x).length≤xs.length + 1:=by
 unfold putA
 split
 ·rw [List.length_map];omega
 ·rw [List.length_append];exact Nat.le_refl _
end
def Z1 {κ α ρ:Type} (f:κ→ρ) (R:Hp→α→V→Prop) (H:Hp) (xs:List (κ×α)) (kvs:List (ρ×V)):Prop:=Paired (fun p q=>p.1=f q.1∧R H q.2 p.2) kvs xs
def Mono {α:Type} (R:Hp→α→V→Prop):Prop:=∀ (H H':Hp) (x:α) (v:V),Same H H'→R H x v→R H' x v
section
variable {κ α ρ:Type} [DecidableEq κ] [DecidableEq ρ] {f:κ→ρ} {R:Hp→α→V→Prop} {H:Hp}
theorem Z1.same {H':Hp} (m:Mono R) (s:Same H H') {xs:List (κ×α)} {kvs:List (ρ×V)} (h:Z1 f R H xs kvs):Z1 f R H' xs kvs:=by
 unfold Z1 at *
 induction h with
 | nil=>exact .nil
 | cons a _ ih=>exact .cons ⟨a.1,m _ _ _ _ s a.2⟩ ih
theorem Z1.len {xs:List (κ×α)} {kvs:List (ρ×V)} (h:Z1 f R H xs kvs):kvs.length=xs.length:=Paired.length h
theorem Z1.no (inj:∀ a b,f a=f b→a=b) {xs:List (κ×α)} {kvs:List (ρ×V)} (h:Z1 f R H xs kvs) {k:κ} (e:getA xs k=none):valV kvs (f k)=none:=by
 unfold Z1 at h
 induction h with
 | nil=>rfl
 | @cons p q _ _ a t ih=>
  by_cases z:q.1=k
  ·rw [Za4 z] at e;cases e
  ·rw [Za5 z] at e
   rw [Za2 (by rw [a.1];exact fun y=>z (inj _ _ y))]
   exact ih e
theorem Z1.yes (inj:∀ a b,f a=f b→a=b) {xs:List (κ×α)} {kvs:List (ρ×V)} (h:Z1 f R H xs kvs) {k:κ} {x:α} (e:getA xs k=some x):∃ v,valV kvs (f k)=some v∧R H x v:=by
 unfold Z1 at h
 induction h with
 | nil=>cases e
 | @cons p q _ _ a t ih=>
  by_cases z:q.1=k
  ·rw [Za4 z] at e
   cases e
   exact ⟨p.2,Zbg (by rw [a.1,z]),a.2⟩
  ·rw [Za5 z] at e
   obtain ⟨v,h1,h2⟩:=ih e
   exact ⟨v,by rw [Za2 (by rw [a.1];exact fun y=>z (inj _ _ y))];exact h1,h2⟩
theorem Z1.some (inj:∀ a b,f a=f b→a=b) {xs:List (κ×α)} {kvs:List (ρ×V)} (h:Z1 f R H xs kvs) (k:κ):(valV kvs (f k)).isSome=(getA xs k).isSome:=by
 cases e:getA xs k with
 | none=>rw [h.no inj e];rfl
 | some x=>obtain ⟨v,h1,_⟩:=h.yes inj e;rw [h1];rfl
theorem Z1.repl (inj:∀ a b,f a=f b→a=b) {k:κ} {x:α} {v:V} (r:R H x v):∀ {xs:List (κ×α)} {kvs:List (ρ×V)},Z1 f R H xs kvs→Z1 f R H (xs.map fun p=>if p.1=k then (p.1,x) else p) (kvs.map fun kv=>if kv.1=f k then (kv.1,v) else kv)
 | _,_,.nil=>.nil
 | q::_,p::_,.cons a t=>by
  refine .cons ?_ (Z1.repl inj r t)
  show (if p.1=f k then (p.1,v) else p).1=f (if q.1=k then (q.1,x) else q).1∧R H (if q.1=k then (q.1,x) else q).2 (if p.1=f k then (p.1,v) else p).2
  by_cases z:q.1=k
  ·rw [if_pos z,if_pos (by rw [a.1,z])]
   exact ⟨a.1,r⟩
  ·rw [if_neg z,if_neg (by rw [a.1];exact fun y=>z (inj _ _ y))]
   exact a
theorem Z1.put (inj:∀ a b,f a=f b→a=b) {xs:List (κ×α)} {kvs:List (ρ×V)} (h:Z1 f R H xs kvs) {k:κ} {x:α} {v:V} (r:R H x v):Z1 f R H (putA xs k x) (putK kvs (f k) v):=by
 unfold putA putK
 rw [Zjv,Zn7,h.some inj k]
 split
 ·exact Z1.repl inj r h
 ·exact Paired.snoc h ⟨rfl,r⟩
end
theorem Zay (a b:Int) (h:(Sum.inl a:Key)=Sum.inl b):a=b:=Sum.inl.inj h
theorem ZPT (a b:Str) (h:(Sum.inr a:Key)=Sum.inr b):a=b:=Sum.inr.inj h
theorem ZtH (es:Ents) (n:Str):valV (eKV es) (.inr n)=(getA es n).map V.int:=by
 induction es with
 | nil=>rfl
 | cons p r ih=>
  by_cases z:p.1=n
  ·rw [Za4 z]
   exact Zbg (p:=(Sum.inr p.1,V.int p.2)) (by rw [z])
  ·rw [Za5 z,← ih]
   exact Za2 (p:=(Sum.inr p.1,V.int p.2)) (fun y=>z (Sum.inr.inj y))
theorem ZNY (es:Ents) (n:Str) (i:Int):putK (eKV es) (.inr n) (.int i)=eKV (putA es n i):=by
 unfold putA putK
 rw [Zjv,Zn7,ZtH,Option.isSome_map]
 split
 ·unfold eKV
  rw [List.map_map,List.map_map]
  refine List.map_congr_left fun p _=>?_
  show (if (Sum.inr p.1:Key)=Sum.inr n then (Sum.inr p.1,V.int i) else (Sum.inr p.1,V.int p.2))=(Sum.inr (if p.1=n then (p.1,i) else p).1,V.int (if p.1=n then (p.1,i) else p).2)
  by_cases z:p.1=n
  ·rw [if_pos z,if_pos (by rw [z])]
  ·rw [if_neg z,if_neg (fun y=>z (Sum.inr.inj y))]
 ·unfold eKV
  rw [List.map_append]
  rfl
theorem ZGQ (es:Ents):(eKV es).length=es.length:=List.length_map ..
def ZV (H:Hp) (row:Row) (v:V):Prop:=∃ t,v=.ref t∧H t=some (.tup (row.map V.int))
def ZfW (H:Hp) (es:Ents) (v:V):Prop:=∃ a,v=.ref a∧H a=some (.dK (eKV es))
theorem ZV.mono:Mono ZV:=fun _ _ _ _ s ⟨t,e,h⟩=>⟨t,e,s _ _ h⟩
theorem ZfW.mono:Mono ZfW:=fun _ _ _ _ s ⟨t,e,h⟩=>⟨t,e,s _ _ h⟩
def sfl (d e:V):List (Str×V):=putF "entries" e (putF "data" d [])
theorem ZSe:¬ (("data":Str)="entries"):=by decide +kernel
theorem Zwm (d e:V):(sfl d e).lookup ("data":Str)=some d:=by
 unfold sfl
 rw [Zl,if_neg ZSe,Zl,if_pos rfl]
theorem ZhE (d e:V):(sfl d e).lookup ("entries":Str)=some e:=by
 unfold sfl
 rw [Zl,if_pos rfl]
structure ZRF (g:Gs) (H:Hp) (S:Sta) (p dx da ea:Addr) (dk ek:List (Key×V)):Prop where
 ob:H p=some (.ins g.State dx (sfl (.ref da) (.ref ea)))
 hd:H da=some (.dK dk)
 he:H ea=some (.dK ek)
 rd:Z1 Sum.inl ZV H S.dat dk
 re:Z1 Sum.inl ZfW H S.ent ek
def ZL (g:Gs) (H:Hp) (S:Sta) (v:V):Prop:=∃ p dx da ea dk ek,v=.ref p∧ZRF g H S p dx da ea dk ek
theorem ZL.mono {g:Gs}:Mono (ZL g):=fun _ _ _ _ s ⟨p,dx,da,ea,dk,ek,e,h⟩=>⟨p,dx,da,ea,dk,ek,e,s _ _ h.ob,s _ _ h.hd,s _ _ h.he,h.rd.same ZV.mono s,h.re.same ZfW.mono s⟩
theorem u1 {n:Nat} (h:n + 64 < cLine):n + 1 < cLine:=by omega
def Zbb (S:Sta) (n:Int):Bool:=(getA S.dat n).isSome || (getA S.ent n).isSome
section
variable {P:Program} {w:World} {K:PySem.W.Frag} {mg:Str→Option Value} {base:Heap} {g:Gs}
def ZB7 (g:Gs):Sp:=fun vs H Q _=>∃ p dx d e,vs=[.ref p,d,e]∧H p=some (.ins g.State dx [])∧∀ H',(∀ b o,H b=some o→b≠p→H' b=some o)→H' p=some (.ins g.State dx (sfl d e))→Q .non H'
theorem Zzh:Zo ["self","data","entries"] ["self","data","entries"] (Zj Zb5):=⟨rfl,rfl,rfl,by decide +kernel,rfl,by decide +kernel,by decide +kernel⟩
theorem Zf4 (T:Tx K mg g):FnOk P w K mg base (CXE P w) 1 g.ZqO g.Zjb ["self","data","entries"] (ZB7 g):=by
 refine T.ZFa.okE Zzh (fun vs H Q E h=>?_) (fun cdv A outer s H vs Q E hr h=>?_)
 ·obtain ⟨p,dx,d,e,rfl,_⟩:=h
  rfl
 ·obtain ⟨p,dx,d,e,rfl,hp,q⟩:=h
  refine ⟨_,(Ze (Za3 (pv 0) (pv 1) rfl)
   (Zi (Za3 (pv 0) (pv 2) rfl))),?_⟩
  refine ⟨_,rfl,_,rfl,p,g.State,dx,[],rfl,hp,T.Z3,T.Z6,(by show 0 < 1000;decide),?_⟩
  refine ⟨_,rfl,_,rfl,p,g.State,dx,_,rfl,Zb,T.Z3,T.Zr,(by show 1 < 1000;decide),?_⟩
  refine q _ (fun b o e hb=>?_) Zb
  rw [Zd hb,Zd hb]
  exact e
theorem Zqm {H1:Hp} {x dx:Addr} {d e:V} {Q:VK} {E:XK} (hx:H1 x=none) (hdx:H1 dx=none) (ne:dx≠x) (q:∀ p dx H',Same H1 H'→H' p=some (.ins g.State dx (sfl d e))→Q (.ref p) H') :
  ZB7 g (.ref x::([d,e]++[])) (upd (upd H1 dx (.own x)) x (.ins g.State dx [])) (fun v H2=>v=.non∧Q (.ref x) H2) E:=by
 refine ⟨x,dx,d,e,rfl,Zb,fun H' k hp=>⟨rfl,q x dx H' (fun b o eb=>?_) hp⟩⟩
 have h1:b≠x:=Zf eb hx
 have h2:b≠dx:=Zf eb hdx
 exact k b o (by rw [Zd h1,Zd h2];exact eb) h1
def ZO9 (g:Gs):Sp:=fun vs H Q _=>vs=[]∧∀ v H',Same H H'→ZL g H' ⟨[],[(0,[])]⟩ v→Q v H'
theorem Zwn:Zo [] [] (Zj Zbh):=⟨rfl,rfl,rfl,by decide +kernel,rfl,by decide +kernel,by decide +kernel⟩
theorem Zwv (T:Tx K mg g):FnOk P w K mg base (CXE P w) 3 g.ZlG g.Zgh [] (ZO9 g):=by
 refine T.ZpF.okE Zwn (fun vs H Q E h=>?_) (fun cdv A outer s H vs Q E hr h=>?_)
 ·obtain ⟨rfl,_⟩:=h
  rfl
 ·obtain ⟨rfl,q⟩:=h
  refine ⟨_,(Zi (Zz (Zh0 T.Znn (Zf4 T) hr.dn rfl T.ZGE T.Zi1 .nil Zg (Za ZjB (Za (ZPr (Zzu (ZI (v:=.int 0) rfl T.ZH1 ⟨_,rfl⟩) ZjB ZKY) rfl rfl (by simp) (by decide)) Zc))))),?_⟩
  refine fun a ha b hb c hc=>?_
  have nab:a≠b:=Zf Zb hb
  have nbc:b≠c:=Zf Zb hc
  have nac:a≠c:=Zf (H:=upd (upd H a (.dK [])) b (.dK [])) (by rw [Zd nab];exact Zb) hc
  have hb':H b=none:=by rw [Zd nab.symm] at hb;exact hb
  have hc':H c=none:=by rw [Zd nbc.symm,Zd nac.symm] at hc;exact hc
  refine ⟨by rw [Zd nbc];exact Zb,[(Sum.inl 0,.ref c)],rfl,(by show 1≤15;decide),fun x dx hx hdx ne=>Zqm hx hdx ne fun p dx H' s' hp=>?_⟩
  have s0:Same H (upd (upd (upd (upd H a (.dK [])) b (.dK [])) c (.dK [])) b (.dK (Zno [] [(Sum.inl 0,V.ref c)]))):=fun d o e=>by
   rw [Zd (Zf e hb'),Zd (Zf e hc'),Zd (Zf e hb'),Zd (Zf e ha)]
   exact e
  refine q _ H' (s0.trans s') ⟨p,dx,a,b,_,_,rfl,hp,s' _ _ (by rw [Zd nab,Zd nac,Zd nab];exact Zb),s' _ _ Zb,.nil,.cons ⟨rfl,c,rfl,s' _ _ (by rw [Zd nbc.symm];exact Zb)⟩ .nil⟩
def ZKB (g:Gs):Sp:=fun vs H Q _=>∃ v S n,vs=[v,.int n]∧ZL g H S v∧Q (.bl (Zbb S n)) H
theorem ZF5:Zo ["state","number"] ["state","number"] (Zj ZdK):=⟨rfl,rfl,rfl,by decide +kernel,rfl,by decide +kernel,by decide +kernel⟩
theorem Zur (T:Tx K mg g):FnOk P w K mg base (CXE P w) 1 g.ZAE g.Zqp ["state","number"] (ZKB g):=by
 refine T.ZqY.okE ZF5 (fun vs H Q E h=>?_) (fun cdv A outer s H vs Q E hr h=>?_)
 ·obtain ⟨v,S,n,rfl,_⟩:=h
  rfl
 ·obtain ⟨v,S,n,rfl,⟨p,dx,da,ea,dk,ek,rfl,hS⟩,q⟩:=h
  have hu:=u1 hr.units
  refine ⟨_,(Zi (Zz (ZR2 (ZOv (Zkc hu (pv 1) (ZC (pv 0) rfl))) (ZQY (ZOv (Zkc hu (pv 1) (ZC (pv 0) rfl))))))),?_⟩
  refine ⟨_,rfl,_,rfl,p,_,dx,_,_,rfl,hS.ob,T.Z3,T.Z6,Zwm _ _,da,_,rfl,DGet.k hS.hd (k:=.inl n),_,rfl,?_⟩
  rw [hS.rd.some Zay]
  unfold Zbb at q
  cases hd:(getA S.dat n).isSome with
  | true=>rw [hd] at q;exact iteT q
  | false=>
   rw [hd] at q
   refine iteF ⟨_,rfl,_,rfl,p,_,dx,_,_,rfl,hS.ob,T.Z3,T.Zr,ZhE _ _,ea,_,rfl,DGet.k hS.he (k:=.inl n),?_⟩
   rw [hS.re.some Zay]
   exact q
def ZeP (S:Sta) (n:Int):Except Rf Unit:=if (getA S.ent n).isSome then .ok () else .error .noDirectory
def ZIN (g:Gs):Sp:=fun vs H Q E=>∃ v S n,vs=[v,.int n]∧ZL g H S v∧Ans g ZHk H (ZeP S n) Q E
theorem Zmh:Zo ["state","number"] ["state","number"] (Zj Zad):=⟨rfl,rfl,rfl,by decide +kernel,rfl,by decide +kernel,by decide +kernel⟩
theorem Zeq (T:Tx K mg g):FnOk P w K mg base (CXE P w) 1 g.Zd6 g.ZcP ["state","number"] (ZIN g):=by
 refine T.ZcS.okE Zmh (fun vs H Q E h=>?_) (fun cdv A outer s H vs Q E hr h=>?_)
 ·obtain ⟨v,S,n,rfl,_⟩:=h
  rfl
 ·obtain ⟨v,S,n,rfl,⟨p,dx,da,ea,dk,ek,rfl,hS⟩,q⟩:=h
  have hu:=u1 hr.units
  refine ⟨_,(Zi (Zav (ZdU (Zh1 hu (pv 1) (ZC (pv 0) rfl))) (Zi (ZaK T.ZyE rfl T.Zns (Za ZR Zc))) ZP)),?_⟩
  refine ⟨_,rfl,_,rfl,p,_,dx,_,_,rfl,hS.ob,T.Z3,T.Zr,ZhE _ _,ea,_,rfl,DGet.k hS.he (k:=.inl n),_,rfl,?_⟩
  rw [hS.re.some Zay]
  cases hd:(getA S.ent n).isSome with
  | true=>exact iteF (q.ok (x:=()) (by unfold ZeP;rw [hd];rfl) _ _ (Same.refl _) rfl)
  | false=>exact iteT ⟨szl 1,q.no (r:=.noDirectory) (by unfold ZeP;rw [hd];rfl) _ (Same.refl _)⟩
def insI (n:Int):List Int→List Int
 | []=>[n]
 | m::r=>if n≤m then n::m::r else m::insI n r
def ZKL:List Int→List Int
 | []=>[]
 | n::r=>insI n (ZKL r)
theorem Zvh (n:Int):∀ l,(insI n l).Perm (n::l)
 | []=>.refl _
 | m::r=>by
  unfold insI
  split
  ·exact .refl _
  ·exact ((Zvh n r).cons m).trans (.swap ..)
theorem Zfp:∀ l,(ZKL l).Perm l
 | []=>.refl _
 | n::r=>(Zvh n (ZKL r)).trans ((Zfp r).cons n)
theorem Zvg (n:Int):∀ l:List Int,l.Pairwise (·≤·)→(insI n l).Pairwise (·≤·)
 | [],_=>by simp [insI]
 | m::r,h=>by
  obtain ⟨h1,h2⟩:=List.pairwise_cons.mp h
  unfold insI
  split
  ·rename_i hn
   exact List.pairwise_cons.mpr ⟨fun a ha=>by
    rcases List.mem_cons.mp ha with rfl | ha
    ·exact hn
    ·exact Int.le_trans hn (h1 a ha),h⟩
  ·rename_i hn
   refine List.pairwise_cons.mpr ⟨fun a ha=>?_,Zvg n r h2⟩
   rcases List.mem_cons.mp ((Zvh n r).mem_iff.mp ha) with rfl | ha
   ·omega
   ·exact h1 a ha
theorem Zq7:∀ l,(ZKL l).Pairwise (·≤·)
 | []=>.nil
 | n::r=>Zvg n _ (Zq7 r)
theorem ZKK:∀ {a b:List Int},a.Perm b→a.Pairwise (·≤·)→b.Pairwise (·≤·)→a=b:=by
 intro a b p ha hb
 exact p.eq_of_pairwise (fun x y _ _ h1 h2=>Int.le_antisymm h1 h2) ha hb
def ZA (S:Sta):List Int:=ZKL (S.dat.map (·.1)++S.ent.map (·.1))
theorem Z1.keysI {α:Type} {R:Hp→α→V→Prop} {H:Hp} {xs:List (Int×α)} {kvs:List (Key×V)} (h:Z1 Sum.inl R H xs kvs):(kvs.map fun q=>kV q.1)=(xs.map (·.1)).map V.int:=by
 unfold Z1 at h
 induction h with
 | nil=>rfl
 | cons a _ ih=>rw [List.map_cons,List.map_cons,List.map_cons,ih,a.1];rfl
def ZKJ (g:Gs):Sp:=fun vs H Q _=>∃ v S,vs=[v]∧ZL g H S v∧S.dat.length + S.ent.length < 64∧∀ l H',Same H H'→H' l=some (.lst ((ZA S).map V.int))→Q (.ref l) H'
theorem Zwq:Zo ["state"] ["state"] (Zj Zbl):=⟨rfl,rfl,rfl,by decide +kernel,rfl,by decide +kernel,by decide +kernel⟩
theorem Zke (T:Tx K mg g):FnOk P w K mg base (CXE P w) 1 g.ZlR g.ZgV ["state"] (ZKJ g):=by
 refine T.Zg0.okE Zwq (fun vs H Q E h=>?_) (fun cdv A outer s H vs Q E hr h=>?_)
 ·obtain ⟨v,S,rfl,_⟩:=h
  rfl
 ·obtain ⟨v,S,rfl,⟨p,dx,da,ea,dk,ek,rfl,hS⟩,hz,q⟩:=h
  have hu:=u1 hr.units
  refine ⟨_,(Zi (Zz (ZB ZD9 (by rfl) T.ZlZ PyProof.Rows.Boot.«sorted» (Za (Zt Zna (ZaS Zye rfl T.Zq2 PyProof.Rows.Boot.«list» (Za (ZC (pv 0) rfl) Zc)) (ZaS Zye rfl T.Zq2 PyProof.Rows.Boot.«list» (Za (ZC (pv 0) rfl) Zc))) Zc)))),?_⟩
  refine ⟨_,rfl,p,_,dx,_,_,rfl,hS.ob,T.Z3,T.Z6,Zwm _ _,da,dk,rfl,.inl hS.hd,fun a ha=>?_⟩
  have s1:=Zh (o:=.lst (dk.map fun q=>kV q.1)) ha
  refine ⟨_,rfl,p,_,dx,_,_,rfl,s1 _ _ hS.ob,T.Z3,T.Zr,ZhE _ _,ea,ek,rfl,.inl (s1 _ _ hS.he),fun b hb=>?_⟩
  have s2:=Zh (o:=.lst (ek.map fun q=>kV q.1)) hb
  refine ⟨a,b,_,_,rfl,rfl,s2 _ _ Zb,Zb,?_,fun c hc=>?_⟩
  ·rw [List.length_map,List.length_map,hS.rd.len,hS.re.len];exact Zs (Nat.le_of_lt hz) (by decide)
  have s3:=Zh (o:=.lst ((dk.map fun q=>kV q.1)++(ek.map fun q=>kV q.1))) hc
  refine ⟨c,S.dat.map (·.1)++S.ent.map (·.1),rfl,SqL.of (by rw [Zb,hS.rd.keysI,hS.re.keysI,List.map_append]),?_,fun l ms hl pm pw=>?_⟩
  ·rw [List.length_append,List.length_map,List.length_map];exact hz
  ·have:ms=ZA S:=ZKK (pm.trans (Zfp _).symm) pw (Zq7 _)
   subst this
   exact q l _ (s1.trans (s2.trans (s3.trans (Zh hl)))) Zb
end
end KS
namespace KS
open PySem L2
def ZfB (S:Sta):Nat→Nat→Option Int
 | _,0=>none
 | i,k + 1=>if Zbb S (i:Int) then ZfB S (i + 1) k else some (i:Int)
def ZfC (S:Sta):Option Int:=ZfB S 0 32
def optI:Option Int→V
 | none=>.non
 | some n=>.int n
def ZjJ (S:Sta):List Str→List Int→Except Rf (List Int)
 | [],ps=>.ok ps
 | n::ns,ps=>match getA S.ent (ps.getLastD 0) with
  | none=>.error .noDirectory
  | some es=>match getA es n with
   | none=>.error .noThing
   | some i=>ZjJ S ns (ps++[i])
theorem ZHq (S:Sta) (ps:List Int):ZjJ S [] ps=.ok ps:=rfl
theorem ZBW (S:Sta) (n:Str) (ns:List Str) (ps:List Int):ZjJ S (n::ns) ps=match getA S.ent (ps.getLastD 0) with
  | none=>.error .noDirectory
  | some es=>match getA es n with
   | none=>.error .noThing
   | some i=>ZjJ S ns (ps++[i]):=rfl
def ZOT (H:Hp) (xs:List Int) (v:V):Prop:=∃ l,v=.ref l∧H l=some (.lst (xs.map V.int))
theorem ZjI (ps:List Int) (h:ps≠[]):atI (ps.map V.int) (-1)=some (.int (ps.getLastD 0)):=by
 have hl:0 < ps.length:=List.length_pos_iff.mpr h
 unfold atI ixN
 rw [if_neg (by decide),if_pos (by rw [List.length_map];omega)]
 show (ps.map V.int)[(-1 + ((ps.map V.int).length:Int)).toNat]?=_
 have e:(-1 + ((ps.map V.int).length:Int)).toNat=ps.length - 1:=by rw [List.length_map];omega
 rw [e,List.getElem?_map,← List.getLast?_eq_getElem?,List.getLastD_eq_getLast?]
 cases hh:ps.getLast? with
 | none=>exact absurd (List.getLast?_eq_none_iff.mp hh) h
 | some x=>rfl
section
variable {P:Program} {w:World} {K:PySem.W.Frag} {mg:Str→Option Value} {base:Heap} {g:Gs}
def ZO8 (g:Gs):Sp:=fun vs H Q _=>∃ v S,vs=[v]∧ZL g H S v∧Q (optI (ZfC S)) H
theorem Zme:Zo ["state","number"] ["state"] (Zj ZbX):=⟨rfl,rfl,rfl,by decide +kernel,rfl,by decide +kernel,by decide +kernel⟩
theorem Znf (T:Tx K mg g):FnOk P w K mg base (CXE P w) 2 g.Zqo g.Zib ["state"] (ZO8 g):=by
 refine T.Zjp.okE Zme (fun vs H Q E h=>?_) (fun cdv A outer s H vs Q E hr h=>?_)
 ·obtain ⟨v,S,rfl,_⟩:=h
  rfl
 ·obtain ⟨v,S,rfl,hS,q⟩:=h
  refine ⟨_,(Ze (Zfv PassesOwn.leaving rfl (Zm7 rfl T.Zlc (Za (ZI (v:=.int 32) rfl T.Zge ⟨_,rfl⟩) Zc)) (Z5 (i:=1) Zme.nd rfl (Or.inl rfl)) (Zi (Zav (Zug (Zuf (Zp (Zur T) hr.dn rfl T.Zxz T.ZqY.kp T.Zyk .nil Zg (Za (pv 0) (Za (pv 1) Zc))))) (Zi (Zz (pv 1))) ZP)))
   (Zi (Zz ZOu))),?_⟩
  refine ⟨32,rfl,by decide,by decide,?_⟩
  refine ZDU (fun i σ H'=>(∃ o,σ=[some v,o])∧H'=H∧ZfC S=ZfB S i (32 - i)) ⟨⟨none,rfl⟩,rfl,rfl⟩ (fun i σ H' hi h=>?_) (fun σ H' h=>?_)
  ·obtain ⟨⟨o,rfl⟩,rfl,hk⟩:=h
   have e1:(0:Int) + (i:Int)=(i:Int):=Int.zero_add _
   refine ⟨_,rfl,_,rfl,v,S,_,rfl,hS,_,rfl,?_⟩
   rw [e1]
   have e2:32 - i=(32 - (i + 1)) + 1:=by
    have:i < 32:=hi
    omega
   rw [e2] at hk
   unfold ZfB at hk
   cases ht:Zbb S (i:Int) with
   | true=>
    rw [ht,if_pos rfl] at hk
    exact iteF ⟨⟨_,rfl⟩,rfl,hk⟩
   | false=>
    rw [ht,if_neg (by decide)] at hk
    refine iteT ?_
    rw [hk] at q
    exact ⟨_,rfl,q⟩
  ·obtain ⟨_,rfl,hk⟩:=h
   rw [hk] at q
   exact q
def ZQA (g:Gs):Sp:=fun vs H Q E=>∃ v S l ns,vs=[v,.ref l]∧ZL g H S v∧H l=some (.lst (ns.map V.str))∧ns.length≤2000∧(∀ n∈ns,n.length≤2000)∧Ans g ZOT H (ZjJ S ns [0]) Q E
theorem Zzb:Zo ["state","names","passed","name","entries"] ["state","names"] (Zj Zxl):=⟨rfl,rfl,rfl,by decide +kernel,rfl,by decide +kernel,by decide +kernel⟩
theorem ZGg (T:Tx K mg g):FnOk P w K mg base (CXE P w) 2 g.walk g.ZKf ["state","names"] (ZQA g):=by
 refine T.ZIl.okE Zzb (fun vs H Q E h=>?_) (fun cdv A outer s H vs Q E hr h=>?_)
 ·obtain ⟨v,S,l,ns,rfl,_⟩:=h
  rfl
 ·obtain ⟨v,S,l,ns,rfl,hS,hl,hz,hnm,q⟩:=h
  have hu:=u1 hr.units
  refine ⟨_,(Ze (ZJ (i:=2) Zzb.nd rfl (Or.inl rfl) (Zbs (Za (ZI (v:=.int 0) rfl T.ZH1 ⟨_,rfl⟩) Zc)))
   (Ze (Zfv PassesOwn.leaving rfl (Zqd (pv 1)) (Z5 (i:=3) Zzb.nd rfl (Or.inl rfl)) (Ze (ZW (Zp (Zeq T) hr.dn rfl T.ZfA T.ZcS.kp T.ZfP .nil Zg (Za (pv 0) (Za (Zaw ZbN (pv 2) (Zum Zhz Zm) (fun _ _=>rfl)) Zc))))
   (Ze (ZJ (i:=4) Zzb.nd rfl (Or.inl rfl) (ZbM hu (ZC (pv 0) rfl) (Zaw ZbN (pv 2) (Zum Zhz Zm) (fun _ _=>rfl)) (fun _ _=>rfl)))
   (Ze (Zav (ZdU (Zh1 hu (pv 3) (pv 4))) (Zi (ZaK T.ZBS rfl T.ZuL (Za (ZGf (ZK5 (ZK4 (pv 3) ZK6))) Zc))) ZP)
   (Zi (ZW (Ztq PySem.F.plainAttrs_list PySem.F.slot_list_append PySem.F.type_list_append ZdX (pv 2) (Za (ZbM hu (pv 4) (pv 3) (fun _ _=>rfl)) Zc))))))))
   (Zi (Zz (pv 2))))),?_⟩
  refine ⟨szl 1,fun D hD=>?_⟩
  have s0:=Zh (o:=.lst [.int 0]) hD
  have nlD:l≠D:=Zf hl hD
  refine ⟨_,rfl,l,rfl,⟨_,SqL.of (s0 _ _ hl)⟩,?_⟩
  refine ZtE (xs:=ns.map V.str) (fun i σ H'=>∃ ps,(∃ o3 o4,σ=[some v,some (.ref l),some (.ref D),o3,o4])∧H' D=some (.lst (ps.map V.int))∧ps≠[]∧ps.length=i + 1∧Same H H'∧ZjJ S ns [0]=ZjJ S (ns.drop i) ps) ⟨[0],⟨none,none,rfl⟩,Zb,by decide,rfl,s0,rfl⟩ (fun i σ H' _ h=>?_) (fun i x σ H' hx h=>?_) (fun σ H' h=>?_)
  ·obtain ⟨ps,_,_,_,_,sm,_⟩:=h
   exact SqL.of (sm _ _ hl)
  ·obtain ⟨ps,⟨o3,o4,rfl⟩,hp,hne,hlen,sm,hw⟩:=h
   rw [List.getElem?_map] at hx
   cases hn:ns[i]? with
   | none=>rw [hn] at hx;cases hx
   | some n=>
    rw [hn] at hx
    cases hx
    have hi:i < ns.length:=(List.getElem?_eq_some_iff.mp hn).1
    have hdr:ns.drop i=n::ns.drop (i + 1):=by
     rw [List.drop_eq_getElem_cons hi]
     rw [(List.getElem?_eq_some_iff.mp hn).2]
    rw [hdr,ZBW] at hw
    have hS':=ZL.mono _ _ _ _ sm hS
    refine ⟨_,rfl,_,rfl,_,rfl,D,_,_,_,rfl,rfl,SqL.of hp,ZjI ps hne,v,S,_,rfl,hS',?_⟩
    cases hg:getA S.ent (ps.getLastD 0) with
    | none=>
     rw [hg] at hw
     show Ans g ZHk H' (ZeP S (ps.getLastD 0)) _ _
     unfold ZeP
     rw [hg]
     exact fun H2 s2=>q.no hw _ (sm.trans s2)
    | some es=>
     rw [hg] at hw
     show Ans g ZHk H' (ZeP S (ps.getLastD 0)) _ _
     unfold ZeP
     rw [hg]
     intro v2 H2 s2 _
     dsimp only at hw
     have hS2:=ZL.mono _ _ _ _ s2 hS'
     obtain ⟨p,dx,da,ea,dk,ek,rfl,hP⟩:=hS2
     obtain ⟨ve,hv1,⟨ae,rfl,hae⟩⟩:=hP.re.yes Zay hg
     refine ⟨_,rfl,p,_,dx,_,_,rfl,hP.ob,T.Z3,T.Zr,ZhE _ _,_,rfl,_,rfl,D,_,_,_,rfl,rfl,SqL.of (s2 _ _ hp),ZjI ps hne,ea,_,rfl,(by have:=DGet.k hP.he (k:=.inl (ps.getLastD 0));rw [hv1] at this;exact this),?_⟩
     refine ⟨_,rfl,_,rfl,ae,_,rfl,DGet.k hae (k:=.inr n),_,rfl,?_⟩
     rw [ZtH]
     cases hgn:getA es n with
     | none=>
      rw [hgn] at hw
      refine iteT ?_
      have hnl:n.length≤2000:=hnm n (List.mem_of_getElem? hn)
      refine ⟨?_,_,rfl,n,rfl,Zs hnl (by decide),?_,?_,szl 1,q.no hw _ (sm.trans s2)⟩
      ·rw [ZbP];exact Zs (m:=100) (by decide) (by decide)
      ·rw [ZbP,ZbP];exact Zs (m:=2100) (by show 0 + 18 + n.length≤2100;omega) (by decide)
      ·rw [ZbP,ZbP];exact Zs (m:=2100) (by show 0 + 18 + n.length≤2100;omega) (by decide)
     | some j=>
      rw [hgn] at hw
      refine iteF ?_
      refine ⟨_,rfl,.inl ⟨rfl,_,SqL.of (s2 _ _ hp)⟩,_,rfl,_,rfl,ae,.int j,rfl,(by have:=DGet.k hae (k:=.inr n);rw [ZtH,hgn] at this;exact this),D,_,_,rfl,rfl,s2 _ _ hp,?_,?_⟩
      ·rw [List.length_map,hlen]
       have:(100000:Nat)≤sizeLine:=by decide
       omega
      ·refine ⟨ps++[j],⟨_,_,rfl⟩,?_,by simp,by rw [List.length_append,hlen];rfl,fun b o e=>?_,hw⟩
       ·rw [List.map_append];exact Zb
       ·rw [Zd (Zf e hD)];exact s2 _ _ (sm _ _ e)
  ·obtain ⟨ps,⟨o3,o4,rfl⟩,hp,hne,hlen,sm,hw⟩:=h
   rw [List.length_map,List.drop_length,ZHq] at hw
   exact ⟨_,rfl,q.ok hw _ _ sm ⟨D,rfl,hp⟩⟩
def Zhy (S:Sta) (p:Str):Except Rf (List Int):=match ZjJ S (ZD p).dropLast [0] with
 | .error r=>.error r
 | .ok ps=>if (getA S.ent (ps.getLastD 0)).isSome then .ok ps else .error .noDirectory
theorem ZtU {S:Sta}:∀ {ns:List Str} {ps qs:List Int},ZjJ S ns ps=.ok qs→ps≠[]→qs≠[]∧qs.length=ps.length + ns.length
 | [],ps,qs,h,hp=>by rw [ZHq] at h;cases h;exact ⟨hp,rfl⟩
 | n::ns,ps,qs,h,hp=>by
  rw [ZBW] at h
  cases h1:getA S.ent (ps.getLastD 0) with
  | none=>rw [h1] at h;cases h
  | some es=>
   rw [h1] at h
   dsimp only at h
   cases h2:getA es n with
   | none=>rw [h2] at h;cases h
   | some i=>
    rw [h2] at h
    obtain ⟨a,b⟩:=ZtU (ps:=ps++[i]) h (by simp)
    refine ⟨a,?_⟩
    rw [b,List.length_append,List.length_cons]
    show ps.length + 1 + ns.length=ps.length + (ns.length + 1)
    omega
theorem ZMi (ns:List Str):cutV (ns.map V.str) none (some (-1))=ns.dropLast.map V.str:=by
 unfold cutV
 have e1:HT.sIx (ns.map V.str).length 0 none=0:=rfl
 have e2:HT.sIx (ns.map V.str).length (ns.map V.str).length (some (-1))=ns.length - 1:=by
  show (if (-1:Int) < 0 then (-1 + ((ns.map V.str).length:Int)).toNat else min (-1:Int).toNat (ns.map V.str).length)=_
  rw [if_pos (by decide),List.length_map]
  omega
 rw [e1,e2,List.drop_zero,Nat.sub_zero,← List.map_take,List.dropLast_eq_take]
def ZKw (g:Gs):Sp:=fun vs H Q E=>∃ v S p,vs=[v,.str p]∧ZL g H S v∧p.length≤1000∧Ans g ZOT H (Zhy S p) Q E
theorem Zdm:Zo ["state","path","passed"] ["state","path"] (Zj Z2):=⟨rfl,rfl,rfl,by decide +kernel,rfl,by decide +kernel,by decide +kernel⟩
theorem ZjU (T:Tx K mg g):FnOk P w K mg base (CXE P w) 3 g.ZcE g.ZbI ["state","path"] (ZKw g):=by
 refine T.Zeh.okE Zdm (fun vs H Q E h=>?_) (fun cdv A outer s H vs Q E hr h=>?_)
 ·obtain ⟨v,S,p,rfl,_⟩:=h
  rfl
 ·obtain ⟨v,S,p,rfl,hS,hl,q⟩:=h
  refine ⟨_,(Ze (ZJ (i:=2) Zdm.nd rfl (Or.inl rfl) (Zp (ZGg T) hr.dn rfl T.ZLt T.ZIl.kp T.ZMt .nil Zg (Za (pv 0) (Za (ZaM ZhD (Zp (ZaO T) hr.dn rfl T.Zba T.ZaG.kp T.Zbe .nil Zg (Za (pv 1) Zc)) ZdV (ZaL (Zum Zhz Zm))) Zc))))
   (Ze (ZW (Zp (Zeq T) hr.dn rfl T.ZfA T.ZcS.kp T.ZfP .nil Zg (Za (pv 0) (Za (Zaw ZbN (pv 2) (Zum Zhz Zm) (fun _ _=>rfl)) Zc))))
   (Zi (Zz (pv 2))))),?_⟩
  refine ⟨_,rfl,_,rfl,p,rfl,hl,fun l H1 s1 hn hl1=>?_⟩
  refine ⟨_,rfl,_,rfl,l,_,rfl,SqL.of hl1,fun m hm=>?_⟩
  rw [ZMi] at *
  have s2:=Zh (o:=.lst ((ZD p).dropLast.map V.str)) hm
  refine ⟨v,S,m,(ZD p).dropLast,rfl,ZL.mono _ _ _ _ (s1.trans s2) hS,Zb,?_,fun n h=>?_,?_⟩
  ·rw [List.length_dropLast]
   have:=Zdv p
   omega
  ·have:=Zdu p n (List.dropLast_subset _ h)
   omega
  ·unfold Zhy at q
   cases hw:ZjJ S (ZD p).dropLast [0] with
   | error r=>
    rw [hw] at q
    exact fun H' s'=>q H' (s1.trans (s2.trans s'))
   | ok ps=>
    rw [hw] at q
    dsimp only at q
    intro v2 H2 s3 ⟨D,e,hD⟩
    subst e
    have hne:=(ZtU hw (by decide)).1
    have sA:=s1.trans (s2.trans s3)
    refine ⟨_,rfl,_,rfl,_,rfl,D,_,_,_,rfl,rfl,SqL.of hD,ZjI ps hne,v,S,_,rfl,ZL.mono _ _ _ _ sA hS,?_⟩
    unfold ZeP
    cases hg:(getA S.ent (ps.getLastD 0)).isSome with
    | true=>
     rw [hg] at q
     intro v3 H3 s4 _
     exact ⟨_,rfl,q _ _ (sA.trans s4) ⟨D,rfl,s4 _ _ hD⟩⟩
    | false=>
     rw [hg] at q
     exact fun H' s'=>q H' (sA.trans s')
end
end KS
namespace L2
open PySem PySem.Spec PyProof.Rows PySem.W
theorem ZqG {X:Cx}:ZfX X (.type "dict") (fun xs H Q=>∃ a kvs,xs=[.ref a]∧Rd H a (.dK kvs)∧∀ p,H p=none→Q (.ref p) (upd H p (.dK kvs))):=by
 intro pins s σ H xs us Q I r h
 obtain ⟨a,kvs,rfl,ha,q⟩:=h
 obtain ⟨u,rfl,ru⟩:=r.one
 cases (show u=Value.ref a from ru)
 exact ZN7 I ha fun p s' hp I'=>⟨.ref p,_,I',rfl,q p hp⟩
end L2
namespace KS
open PySem L2
def Zeu (p:Str):Str:=(ZD p).getLastD ""
theorem ZMT (a b:Str):Zei a b≠[]:=by
 unfold Zei
 split
 ·simp
 ·split
  ·simp
  ·intro h
   have:=congrArg List.length h
   unfold Builtin.Str.partsBetween at this
   simp at this
theorem Zh3 {p:Str} (h:¬ p="/"):ZD p≠[]:=by
 unfold ZD
 rw [if_neg h]
 exact ZMT _ _
theorem ZvR (ps:List Str) (h:ps≠[]):atI (ps.map V.str) (-1)=some (.str (ps.getLastD "")):=by
 have hl:0 < ps.length:=List.length_pos_iff.mpr h
 unfold atI ixN
 rw [if_neg (by decide),if_pos (by rw [List.length_map];omega)]
 show (ps.map V.str)[(-1 + ((ps.map V.str).length:Int)).toNat]?=_
 have e:(-1 + ((ps.map V.str).length:Int)).toNat=ps.length - 1:=by rw [List.length_map];omega
 rw [e,List.getElem?_map,← List.getLast?_eq_getElem?,List.getLastD_eq_getLast?]
 cases hh:ps.getLast? with
 | none=>exact absurd (List.getLast?_eq_none_iff.mp hh) h
 | some x=>rfl
def ZbB (S:Sta) (p:Str):Except Rf Int:=if p="/" then .error .isThere else match Zhy S p with
 | .error r=>.error r
 | .ok ps=>match getA S.ent (ps.getLastD 0) with
  | none=>.error .noDirectory
  | some es=>if (getA es (Zeu p)).isSome then .error .isThere else .ok (ps.getLastD 0)
def Zhx (S:Sta) (d:Int) (name:Str) (n:Int):Sta:=match getA S.ent d with
 | none=>S
 | some es=>⟨S.dat,putA S.ent d (putA es name n)⟩
def ZC8 (S:Sta) (p kind:Str):Except Rf Sta:=if !Zcq p then .error .badName else match ZbB S p with
 | .error r=>.error r
 | .ok d=>match ZfC S with
  | none=>.error .tooGreat
  | some n=>match getA S.ent d with
   | none=>.error .noDirectory
   | some es=>if 40≤es.length then .error .tooGreat else .ok (Zhx (if kind="dir" then ⟨S.dat,putA S.ent n []⟩ else ⟨putA S.dat n [],S.ent⟩) d (Zeu p) n)
structure ZqP (S:Sta):Prop where
 d:S.dat.length≤1000
 e:S.ent.length≤1000
 en:∀ n es,getA S.ent n=some es→es.length≤1000
theorem lt_size {n:Nat} (h:n≤1001):n < sizeLine:=by
 have:(1002:Nat)≤sizeLine:=by decide
 omega
section
variable {P:Program} {w:World} {K:PySem.W.Frag} {mg:Str→Option Value} {base:Heap} {g:Gs}
def ZKz (g:Gs):Sp:=fun vs H Q E=>∃ v S d es,vs=[v,.int d]∧ZL g H S v∧getA S.ent d=some es∧Ans g ZHk H (if 40≤es.length then .error .tooGreat else .ok ()) Q E
theorem ZpO:Zo ["state","directory"] ["state","directory"] (Zj Zaj):=⟨rfl,rfl,rfl,by decide +kernel,rfl,by decide +kernel,by decide +kernel⟩
theorem Zfy (T:Tx K mg g):FnOk P w K mg base (CXE P w) 1 g.Ze9 g.Zdi ["state","directory"] (ZKz g):=by
 refine T.Zdl.okE ZpO (fun vs H Q E h=>?_) (fun cdv A outer s H vs Q E hr h=>?_)
 ·obtain ⟨v,S,d,es,rfl,_⟩:=h
  rfl
 ·obtain ⟨v,S,d,es,rfl,⟨p,dx,da,ea,dk,ek,rfl,hS⟩,hg,q⟩:=h
  have hu:=u1 hr.units
  refine ⟨_,(Zi (Zav (ZU ZR3 (ZB ZEd (by rfl) T.Zbv PySem.boot_len (Za (ZbM hu (ZC (pv 0) rfl) (pv 1) (fun _ _=>rfl)) Zc)) (ZI (v:=.int 40) rfl T.Ze4 ⟨_,rfl⟩) (Zac _)) (Zi (ZaK T.Zfo rfl T.ZdO (Za ZR Zc))) ZP)),?_⟩
  obtain ⟨ve,hv1,⟨ae,rfl,hae⟩⟩:=hS.re.yes Zay hg
  refine ⟨_,rfl,p,_,dx,_,_,rfl,hS.ob,T.Z3,T.Zr,ZhE _ _,_,rfl,ea,_,rfl,(by have:=DGet.k hS.he (k:=.inl d);rw [hv1] at this;exact this),ae,_,rfl,hae,_,_,rfl,rfl,_,rfl,?_⟩
  rw [ZGQ]
  by_cases h4:40≤es.length
  ·rw [if_pos h4] at q
   rw [decide_eq_true (show (40:Int)≤(es.length:Int) by omega)]
   exact iteT ⟨szl 1,q _ (Same.refl _)⟩
  ·rw [if_neg h4] at q
   rw [decide_eq_false (show ¬ (40:Int)≤(es.length:Int) by omega)]
   exact iteF (q _ _ (Same.refl _) rfl)
def ZQH (g:Gs):Sp:=fun vs H Q E=>∃ v S p,vs=[v,.str p]∧ZL g H S v∧p.length≤1000∧Ans g ZQi H (ZbB S p) Q E
theorem Zmg:Zo ["state","path","directory"] ["state","path"] (Zj ZbZ):=⟨rfl,rfl,rfl,by decide +kernel,rfl,by decide +kernel,by decide +kernel⟩
theorem Zng (T:Tx K mg g):FnOk P w K mg base (CXE P w) 4 g.Zqu g.Ziw ["state","path"] (ZQH g):=by
 refine T.Zjq.okE Zmg (fun vs H Q E h=>?_) (fun cdv A outer s H vs Q E hr h=>?_)
 ·obtain ⟨v,S,p,rfl,_⟩:=h
  rfl
 ·obtain ⟨v,S,p,rfl,hS,hl,q⟩:=h
  have hu:=u1 hr.units
  refine ⟨_,(Ze (Zav (ZU Zuq (pv 1) ZR (Zac _)) (Zi (ZaK T.ZBT rfl T.ZuM (Za ZR Zc))) ZP)
   (Ze (ZJ (i:=2) Zmg.nd rfl (Or.inl rfl) (Zaw ZbN (Zp (ZjU T) hr.dn rfl T.Zly T.Zeh.kp T.ZlQ .nil Zg (Za (pv 0) (Za (pv 1) Zc))) (Zum Zhz Zm) (fun _ _=>rfl)))
   (Ze (Zav (ZdU (Zkc hu (Zaw ZbN (Zp (ZaO T) hr.dn rfl T.Zba T.ZaG.kp T.Zbe .nil Zg (Za (pv 1) Zc)) (Zum Zhz Zm) (fun _ _=>rfl)) (ZbM hu (ZC (pv 0) rfl) (pv 2) (fun _ _=>rfl)))) (Zi (ZaK T.ZBT rfl T.ZuM (Za (ZGf (ZK4 (pv 1) (ZK5 ZK6))) Zc))) ZP)
   (Zi (Zz (pv 2)))))),?_⟩
  refine ⟨_,rfl,rfl,_,rfl,?_⟩
  by_cases h1:p="/"
  ·rw [decide_eq_true (show V.str p=V.str "/" by rw [h1])]
   exact iteT ⟨szl 1,q.no (r:=.isThere) (by unfold ZbB;rw [if_pos h1]) _ (Same.refl _)⟩
  ·rw [decide_eq_false (show ¬ V.str p=V.str "/" by intro z;injection z with z;exact h1 z)]
   refine iteF ?_
   unfold ZbB at q
   rw [if_neg h1] at q
   refine ⟨_,rfl,_,rfl,v,S,p,rfl,hS,hl,?_⟩
   cases hw:Zhy S p with
   | error r=>
    rw [hw] at q
    exact q
   | ok ps=>
    rw [hw] at q
    dsimp only at q
    have hps:ps≠[]∧∃ es,getA S.ent (ps.getLastD 0)=some es:=by
     unfold Zhy at hw
     cases h2:ZjJ S (ZD p).dropLast [0] with
     | error r=>rw [h2] at hw;cases hw
     | ok qs=>
      rw [h2] at hw
      dsimp only at hw
      cases h3:getA S.ent (qs.getLastD 0) with
      | none=>rw [h3] at hw;cases hw
      | some es=>
       rw [h3] at hw
       cases hw
       exact ⟨(ZtU h2 (by decide)).1,es,h3⟩
    obtain ⟨hne,es,hg⟩:=hps
    rw [hg] at q
    dsimp only at q
    intro v2 H2 s2 ⟨D,e,hD⟩
    subst e
    refine ⟨_,rfl,D,_,_,_,rfl,rfl,SqL.of hD,ZjI ps hne,?_⟩
    refine ⟨_,rfl,p,rfl,hl,fun l H3 s3 hn hl3=>?_⟩
    have sA:=s2.trans s3
    obtain ⟨p',dx,da,ea,dk,ek,rfl,hP⟩:=ZL.mono _ _ _ _ sA hS
    obtain ⟨ve,hv1,⟨ae,rfl,hae⟩⟩:=hP.re.yes Zay hg
    refine ⟨_,rfl,l,_,_,_,rfl,rfl,SqL.of hl3,ZvR _ (Zh3 h1),?_⟩
    refine ⟨_,rfl,p',_,dx,_,_,rfl,hP.ob,T.Z3,T.Zr,ZhE _ _,_,rfl,ea,_,rfl,(by have:=DGet.k hP.he (k:=.inl (ps.getLastD 0));rw [hv1] at this;exact this),ae,_,rfl,DGet.k hae (k:=.inr (Zeu p)),_,rfl,?_⟩
    rw [ZtH,Option.isSome_map]
    cases hb:(getA es (Zeu p)).isSome with
    | true=>
     rw [hb] at q
     refine iteT ?_
     refine ⟨_,rfl,p,rfl,Zs hl (by decide),?_,?_,?_,szl 1,q _ sA⟩
     ·rw [ZbP];exact Zs (m:=1000) (by show 0 + p.length≤1000;omega) (by decide)
     ·rw [ZbP,ZbP];exact Zs (m:=1100) (by show 0 + p.length + 9≤1100;omega) (by decide)
     ·rw [ZbP,ZbP];exact Zs (m:=1100) (by show 0 + p.length + 9≤1100;omega) (by decide)
    | false=>
     rw [hb] at q
     exact iteF ⟨_,rfl,q _ _ sA rfl⟩
def ZIJ (g:Gs):Sp:=fun vs H Q _=>∃ v S n row r,vs=[v,.int n,r]∧ZL g H S v∧ZV H row r∧S.dat.length≤1000∧∀ v' H',Same H H'→ZL g H' ⟨putA S.dat n row,S.ent⟩ v'→Q v' H'
theorem Zq8:Zo ["state","number","row","data"] ["state","number","row"] (Zj ZcF):=⟨rfl,rfl,rfl,by decide +kernel,rfl,by decide +kernel,by decide +kernel⟩
theorem Zh6 (T:Tx K mg g):FnOk P w K mg base (CXE P w) 3 g.ZtT g.Zle ["state","number","row"] (ZIJ g):=by
 refine T.ZgY.okE Zq8 (fun vs H Q E h=>?_) (fun cdv A outer s H vs Q E hr h=>?_)
 ·obtain ⟨v,S,n,row,r,rfl,_⟩:=h
  rfl
 ·obtain ⟨v,S,n,row,r,rfl,⟨p,dx,da,ea,dk,ek,rfl,hS⟩,hr1,hz,q⟩:=h
  have hu:=u1 hr.units
  refine ⟨_,(Ze (ZJ (i:=3) Zq8.nd rfl (Or.inl rfl) (ZaS ZqG rfl T.ZBv PyProof.Rows.Boot.«dict» (Za (ZC (pv 0) rfl) Zc)))
   (Ze (Zqb hu (pv 3) (pv 1) (pv 2) rfl)
   (Zi (Zz (Zh0 T.Znn (Zf4 T) hr.dn rfl T.ZGE T.Zi1 .nil Zg (Za (pv 3) (Za (ZC (pv 0) rfl) Zc))))))),?_⟩
  refine ⟨_,rfl,p,_,dx,_,_,rfl,hS.ob,T.Z3,T.Z6,Zwm _ _,da,dk,rfl,.inl hS.hd,fun a ha=>?_⟩
  refine ⟨_,rfl,_,rfl,_,rfl,a,_,rfl,DPut.k (k:=.inl n) Zb (lt_size (by rw [hS.rd.len];omega)),?_⟩
  have s1:Same H (upd (upd H a (.dK dk)) a (.dK (putK dk (.inl n) r))):=fun b o e=>by rw [Zd (Zf e ha),Zd (Zf e ha)];exact e
  refine ⟨_,rfl,_,rfl,p,_,dx,_,_,rfl,s1 _ _ hS.ob,T.Z3,T.Zr,ZhE _ _,fun x dx' hx hdx ne=>Zqm hx hdx ne fun p2 dx2 H' s' hp2=>?_⟩
  refine q _ H' (s1.trans s') ⟨p2,dx2,a,ea,_,_,rfl,hp2,s' _ _ Zb,s' _ _ (s1 _ _ hS.he),?_,hS.re.same ZfW.mono (s1.trans s')⟩
  exact (hS.rd.same ZV.mono (s1.trans s')).put Zay (ZV.mono _ _ _ _ (s1.trans s') hr1)
def ZII (g:Gs):Sp:=fun vs H Q _=>∃ v S n es r,vs=[v,.int n,r]∧ZL g H S v∧ZfW H es r∧S.ent.length≤1000∧∀ v' H',Same H H'→ZL g H' ⟨S.dat,putA S.ent n es⟩ v'→Q v' H'
theorem ZhF:Zo ["state","number","entries","changed"] ["state","number","entries"] (Zj ZaW):=⟨rfl,rfl,rfl,by decide +kernel,rfl,by decide +kernel,by decide +kernel⟩
theorem Zh5 (T:Tx K mg g):FnOk P w K mg base (CXE P w) 3 g.Zhw g.ZeT ["state","number","entries"] (ZII g):=by
 refine T.Zfl.okE ZhF (fun vs H Q E h=>?_) (fun cdv A outer s H vs Q E hr h=>?_)
 ·obtain ⟨v,S,n,row,r,rfl,_⟩:=h
  rfl
 ·obtain ⟨v,S,n,es,r,rfl,⟨p,dx,da,ea,dk,ek,rfl,hS⟩,hr1,hz,q⟩:=h
  have hu:=u1 hr.units
  refine ⟨_,(Ze (ZJ (i:=3) ZhF.nd rfl (Or.inl rfl) (ZaS ZqG rfl T.ZBv PyProof.Rows.Boot.«dict» (Za (ZC (pv 0) rfl) Zc)))
   (Ze (Zqb hu (pv 3) (pv 1) (pv 2) rfl)
   (Zi (Zz (Zh0 T.Znn (Zf4 T) hr.dn rfl T.ZGE T.Zi1 .nil Zg (Za (ZC (pv 0) rfl) (Za (pv 3) Zc))))))),?_⟩
  refine ⟨_,rfl,p,_,dx,_,_,rfl,hS.ob,T.Z3,T.Zr,ZhE _ _,ea,ek,rfl,.inl hS.he,fun a ha=>?_⟩
  refine ⟨_,rfl,_,rfl,_,rfl,a,_,rfl,DPut.k (k:=.inl n) Zb (lt_size (by rw [hS.re.len];omega)),?_⟩
  have s1:Same H (upd (upd H a (.dK ek)) a (.dK (putK ek (.inl n) r))):=fun b o e=>by rw [Zd (Zf e ha),Zd (Zf e ha)];exact e
  refine ⟨_,rfl,p,_,dx,_,_,rfl,s1 _ _ hS.ob,T.Z3,T.Z6,Zwm _ _,_,rfl,fun x dx' hx hdx ne=>Zqm hx hdx ne fun p2 dx2 H' s' hp2=>?_⟩
  refine q _ H' (s1.trans s') ⟨p2,dx2,da,a,_,_,rfl,hp2,s' _ _ (s1 _ _ hS.hd),s' _ _ Zb,hS.rd.same ZV.mono (s1.trans s'),?_⟩
  exact (hS.re.same ZfW.mono (s1.trans s')).put Zay (ZfW.mono _ _ _ _ (s1.trans s') hr1)
def ZtY (g:Gs):Sp:=fun vs H Q _=>∃ v S d name n es,vs=[v,.int d,.str name,.int n]∧ZL g H S v∧ZqP S∧getA S.ent d=some es∧∀ v' H',Same H H'→ZL g H' (Zhx S d name n) v'→Q v' H'
theorem Zmc:Zo ["state","directory","name","number","entries"] ["state","directory","name","number"] (Zj ZbT):=⟨rfl,rfl,rfl,by decide +kernel,rfl,by decide +kernel,by decide +kernel⟩
theorem Znb (T:Tx K mg g):FnOk P w K mg base (CXE P w) 4 g.ZpK g.Zhv ["state","directory","name","number"] (ZtY g):=by
 refine T.Zjk.okE Zmc (fun vs H Q E h=>?_) (fun cdv A outer s H vs Q E hr h=>?_)
 ·obtain ⟨v,S,d,name,n,es,rfl,_⟩:=h
  rfl
 ·obtain ⟨v,S,d,name,n,es,rfl,hSS,sm,hg,q⟩:=h
  obtain ⟨p,dx,da,ea,dk,ek,rfl,hS⟩:=id hSS
  have hu:=u1 hr.units
  refine ⟨_,(Ze (ZJ (i:=4) Zmc.nd rfl (Or.inl rfl) (ZaS ZqG rfl T.ZBv PyProof.Rows.Boot.«dict» (Za (ZbM hu (ZC (pv 0) rfl) (pv 1) (fun _ _=>rfl)) Zc)))
   (Ze (Zqb hu (pv 4) (pv 2) (pv 3) rfl)
   (Zi (Zz (Zp (Zh5 T) hr.dn rfl T.Zkf T.Zfl.kp T.ZkW .nil Zg (Za (pv 0) (Za (pv 1) (Za (pv 4) Zc)))))))),?_⟩
  obtain ⟨ve,hv1,⟨ae,rfl,hae⟩⟩:=hS.re.yes Zay hg
  refine ⟨_,rfl,p,_,dx,_,_,rfl,hS.ob,T.Z3,T.Zr,ZhE _ _,_,rfl,ea,_,rfl,(by have:=DGet.k hS.he (k:=.inl d);rw [hv1] at this;exact this),ae,_,rfl,.inl hae,fun a ha=>?_⟩
  refine ⟨_,rfl,_,rfl,_,rfl,a,_,rfl,DPut.k (k:=.inr name) Zb (lt_size (by rw [ZGQ];exact Nat.le_succ_of_le (sm.en _ _ hg))),?_⟩
  rw [ZNY]
  have s1:Same H (upd (upd H a (.dK (eKV es))) a (.dK (eKV (putA es name n)))):=fun b o e=>by rw [Zd (Zf e ha),Zd (Zf e ha)];exact e
  refine ⟨_,rfl,_,rfl,_,rfl,_,S,d,putA es name n,_,rfl,ZL.mono _ _ _ _ s1 hSS,⟨a,rfl,Zb⟩,sm.e,fun v' H' s' h'=>q v' H' (s1.trans s') ?_⟩
  unfold Zhx
  rw [hg]
  exact h'
end
end KS
namespace KS
open PySem L2
section
variable {κ α:Type} [DecidableEq κ]
theorem ZH0 (k j:κ) (y:α):∀ xs:List (κ×α),getA (xs.map fun p=>if p.1=k then (p.1,y) else p) j=(getA xs j).map fun x=>if j=k then y else x
 | []=>rfl
 | p::r=>by
  rw [List.map_cons]
  by_cases z:p.1=j
  ·rw [Za4 z,Option.map_some]
   by_cases w:p.1=k
   ·rw [if_pos w,if_pos (z.symm.trans w)]
    exact Za4 (p:=(p.1,y)) z
   ·rw [if_neg w,if_neg (fun q=>w (z.trans q))]
    exact Za4 z
  ·rw [Za5 z]
   rw [← ZH0 k j y r]
   by_cases w:p.1=k
   ·rw [if_pos w];exact Za5 (p:=(p.1,y)) z
   ·rw [if_neg w];exact Za5 z
theorem ZDS (k j:κ) (y:α):∀ xs:List (κ×α),getA xs k=none→getA (xs++[(k,y)]) j=if j=k then some y else getA xs j
 | [],_=>by
  by_cases z:j=k
  ·rw [if_pos z];exact Za4 (p:=(k,y)) z.symm
  ·rw [if_neg z];exact Za5 (p:=(k,y)) (fun q=>z q.symm)
 | p::r,h=>by
  by_cases w:p.1=k
  ·rw [Za4 w] at h;cases h
  ·rw [Za5 w] at h
   rw [List.cons_append]
   by_cases z:p.1=j
   ·rw [Za4 z,Za4 z,if_neg (fun q=>w (z.trans q))]
   ·rw [Za5 z,Za5 z];exact ZDS k j y r h
theorem ZAN (xs:List (κ×α)) (k j:κ) (y:α):getA (putA xs k y) j=if j=k then some y else getA xs j:=by
 unfold putA
 rw [Zn7]
 cases h:getA xs k with
 | none=>
  rw [if_neg (by simp)]
  exact ZDS k j y xs h
 | some x=>
  rw [if_pos (by rfl),ZH0]
  by_cases z:j=k
  ·rw [if_pos z,z,h];simp
  ·rw [if_neg z]
   cases getA xs j with
   | none=>rfl
   | some u=>simp [z]
end
theorem ZDe {S:Sta} {n:Int}:∀ {k i:Nat},ZfB S i k=some n→Zbb S n=false
 | 0,i,h=>by cases h
 | k + 1,i,h=>by
  unfold ZfB at h
  split at h
  ·exact ZDe h
  ·rename_i hh
   cases h
   simpa using hh
section
variable {P:Program} {w:World} {K:PySem.W.Frag} {mg:Str→Option Value} {base:Heap} {g:Gs}
theorem ZqP.ent {S:Sta} (h:ZqP S) (hl:S.ent.length≤999) (n:Int):ZqP ⟨S.dat,putA S.ent n []⟩:=
 ⟨h.d,Nat.le_trans (Ztz _ _ _) (Nat.succ_le_succ hl),fun m es hm=>by
  rw [ZAN] at hm
  by_cases z:m=n
  ·rw [if_pos z] at hm;cases hm;exact Nat.zero_le _
  ·rw [if_neg z] at hm;exact h.en m es hm⟩
theorem ZqP.dat {S:Sta} (h:ZqP S) (hl:S.dat.length≤999) (n:Int) (r:Row):ZqP ⟨putA S.dat n r,S.ent⟩:=⟨Nat.le_trans (Ztz _ _ _) (Nat.succ_le_succ hl),h.e,h.en⟩
def ZQE (g:Gs):Sp:=fun vs H Q E=>∃ v S p k,vs=[v,.str p,.str k]∧ZL g H S v∧ZqP S∧S.dat.length≤999∧S.ent.length≤999∧p.length≤1000∧Ans g (ZL g) H (ZC8 S p k) Q E
theorem Zt8:Zo ["state","path","kind","directory","number","changed"] ["state","path","kind"] (Zj Zxm):=⟨rfl,rfl,rfl,by decide +kernel,rfl,by decide +kernel,by decide +kernel⟩
theorem ZPx (T:Tx K mg g):FnOk P w K mg base (CXE P w) 5 g.made g.ZLr ["state","path","kind"] (ZQE g):=by
 refine T.ZOU.okE Zt8 (fun vs H Q E h=>?_) (fun cdv A outer s H vs Q E hr h=>?_)
 ·obtain ⟨v,S,p,k,rfl,_⟩:=h
  rfl
 ·obtain ⟨v,S,p,k,rfl,hS,sm,hz1,hz2,hl,q⟩:=h
  have hu:=u1 hr.units
  refine ⟨_,(Ze (ZW (Zp (Zdw T) hr.dn rfl T.Zet T.Zde.kp T.ZeQ .nil Zg (Za (pv 1) Zc)))
   (Ze (ZJ (i:=3) Zt8.nd rfl (Or.inl rfl) (Zp (Zng T) hr.dn rfl T.Zro T.Zjq.kp T.ZsZ .nil Zg (Za (pv 0) (Za (pv 1) Zc))))
   (Ze (ZJ (i:=4) Zt8.nd rfl (Or.inl rfl) (Zp (Znf T) hr.dn rfl T.Zrn T.Zjp.kp T.ZsY .nil Zg (Za (pv 0) Zc)))
   (Ze (Zav (ZdU (ZOw (pv 4))) (Zi (ZaK T.Zfo rfl T.ZdO (Za ZR Zc))) ZP)
   (Ze (ZW (Zp (Zfy T) hr.dn rfl T.Zg7 T.Zdl.kp T.Zhh .nil Zg (Za (pv 0) (Za (pv 3) Zc))))
   (Ze (Zav (ZU Zuq (pv 2) ZR (Zac _)) (Zi (ZJ (i:=5) Zt8.nd rfl (Or.inl rfl) (Zp (Zh5 T) hr.dn rfl T.Zkf T.Zfl.kp T.ZkW .nil Zg (Za (pv 0) (Za (pv 4) (Za ZjB Zc)))))) (Zi (ZJ (i:=5) Zt8.nd rfl (Or.inl rfl) (Zp (Zh6 T) hr.dn rfl T.Zlx T.ZgY.kp T.ZlP .nil Zg (Za (pv 0) (Za (pv 4) (Za (Zar Zc) Zc)))))))
   (Zi (Zz (Zp (Znb T) hr.dn rfl T.Zrj T.Zjk.kp T.ZsU .nil Zg (Za (pv 5) (Za (pv 3) (Za (Zaw ZbN (Zp (ZaO T) hr.dn rfl T.Zba T.ZaG.kp T.Zbe .nil Zg (Za (pv 1) Zc)) (Zum Zhz Zm) (fun _ _=>rfl)) (Za (pv 4) Zc))))))))))))),?_⟩
  refine ⟨_,rfl,p,rfl,hl,?_⟩
  unfold ZC8 at q
  unfold Zdd
  cases hb:Zcq p with
  | false=>
   rw [hb] at q
   exact fun H' s'=>q H' s'
  | true=>
   rw [hb] at q
   rw [if_neg (by decide)] at q
   intro v1 H1 s1 _
   refine ⟨_,rfl,_,rfl,v,S,p,rfl,ZL.mono _ _ _ _ s1 hS,hl,?_⟩
   cases hf:ZbB S p with
   | error r=>
    rw [hf] at q
    exact fun H' s'=>q H' (s1.trans s')
   | ok d=>
    rw [hf] at q
    dsimp only at q
    intro v2 H2 s2 e
    cases e
    have sB:=s1.trans s2
    have hS2:=ZL.mono _ _ _ _ sB hS
    refine ⟨_,rfl,v,S,rfl,hS2,?_⟩
    cases hlf:ZfC S with
    | none=>
     rw [hlf] at q
     refine ⟨_,rfl,_,rfl,iteT ⟨szl 1,q _ sB⟩⟩
    | some n=>
     rw [hlf] at q
     dsimp only at q
     refine ⟨_,rfl,_,rfl,iteF ?_⟩
     have hfe:¬ p="/"∧∃ es,getA S.ent d=some es:=by
      unfold ZbB at hf
      by_cases h1:p="/"
      ·rw [if_pos h1] at hf;cases hf
      ·rw [if_neg h1] at hf
       refine ⟨h1,?_⟩
       cases hw:Zhy S p with
       | error r=>rw [hw] at hf;cases hf
       | ok ps=>
        rw [hw] at hf
        dsimp only at hf
        cases hg:getA S.ent (ps.getLastD 0) with
        | none=>rw [hg] at hf;cases hf
        | some es=>
         rw [hg] at hf
         dsimp only at hf
         split at hf
         ·cases hf
         ·cases hf;exact ⟨es,hg⟩
     obtain ⟨h1,es,hg⟩:=hfe
     rw [hg] at q
     dsimp only at q
     refine ⟨_,rfl,_,rfl,v,S,d,es,rfl,hS2,hg,?_⟩
     by_cases h4:40≤es.length
     ·rw [if_pos h4] at q ⊢
      exact fun H' s'=>q H' (sB.trans s')
     ·rw [if_neg h4] at q ⊢
      intro v3 H3 s3 _
      have sC:=sB.trans s3
      have hS3:=ZL.mono _ _ _ _ sC hS
      have nd:d≠n:=fun z=>by
       have:=ZDe hlf
       unfold Zbb at this
       rw [← z,hg] at this
       simp at this
      refine ⟨_,rfl,rfl,_,rfl,?_⟩
      -- the last step,alike on both ways
      have last:∀ (S':Sta) (u:V) (H4:Hp),Same H3 H4→ZL g H4 S' u→ZqP S'→getA S'.ent d=some es→(∀ v' H',Same H H'→ZL g H' (Zhx S' d (Zeu p) n) v'→Q v' H')→
        ZtZ [.str p] H4 (fun x H5=>∃ (pp:Addr) (xs:List V) (i:Int) (z:V),x=.ref pp∧V.int (-1)=.int i∧SqL K H5 pp xs∧atI xs i=some z∧ZtY g [u,.int d,z,.int n] H5 Q E) E:=by
       intro S' u H4 s4 hu4 sm4 hg4 qq
       refine ⟨p,rfl,hl,fun l H5 s5 hn hl5=>⟨l,_,_,_,rfl,rfl,SqL.of hl5,ZvR _ (Zh3 h1),u,S',d,Zeu p,n,es,rfl,ZL.mono _ _ _ _ s5 hu4,sm4,hg4,fun v' H' s' h'=>qq v' H' (sC.trans (s4.trans (s5.trans s'))) h'⟩⟩
      by_cases hk:k="dir"
      ·rw [decide_eq_true (show V.str k=V.str "dir" by rw [hk])]
       rw [if_pos hk] at q
       refine iteT ⟨_,rfl,_,rfl,fun a ha=>?_⟩
       have s4:=Zh (o:=.dK []) ha
       refine ⟨v,S,n,[],_,rfl,ZL.mono _ _ _ _ s4 hS3,⟨a,rfl,Zb⟩,sm.e,fun v4 H4 s5 h4=>?_⟩
       have hge:getA (⟨S.dat,putA S.ent n []⟩:Sta).ent d=some es:=by
        show getA (putA S.ent n []) d=_
        rw [ZAN,if_neg nd];exact hg
       obtain ⟨p0,e0,hl0,k0⟩:=last _ v4 H4 (s4.trans s5) h4 (sm.ent hz2 n) hge (fun v' H' s' h'=>q v' H' s' h')
       cases e0
       refine ⟨_,rfl,_,rfl,_,rfl,p,rfl,hl,fun l H5 s6 hn hl5=>?_⟩
       obtain ⟨pp,xs,i,z,a1,a2,a3,a4,a5⟩:=k0 l H5 s6 hn hl5
       refine ⟨_,rfl,pp,xs,i,z,a1,a2,a3,a4,?_⟩
       exact ⟨_,rfl,a5⟩
      ·rw [decide_eq_false (show ¬ V.str k=V.str "dir" by intro z;injection z with z;exact hk z)]
       rw [if_neg hk] at q
       refine iteF ⟨_,rfl,_,rfl,Nat.zero_le _,fun a ha=>?_⟩
       have s4:=Zh (o:=.tup []) ha
       refine ⟨v,S,n,[],_,rfl,ZL.mono _ _ _ _ s4 hS3,⟨a,rfl,Zb⟩,sm.d,fun v4 H4 s5 h4=>?_⟩
       obtain ⟨p0,e0,hl0,k0⟩:=last _ v4 H4 (s4.trans s5) h4 (sm.dat hz1 n []) hg (fun v' H' s' h'=>q v' H' s' h')
       cases e0
       refine ⟨_,rfl,_,rfl,_,rfl,p,rfl,hl,fun l H5 s6 hn hl5=>?_⟩
       obtain ⟨pp,xs,i,z,a1,a2,a3,a4,a5⟩:=k0 l H5 s6 hn hl5
       refine ⟨_,rfl,pp,xs,i,z,a1,a2,a3,a4,?_⟩
       exact ⟨_,rfl,a5⟩
end
end KS
namespace L2
open PySem PySem.Spec PyProof.Rows PySem.W
theorem ZH2 {d:Addr} {ob:Obj} {u:HO} {g:TG} {tb:TS} {D:Ends} {σ:St} {H:Hp} (Pv:Nat→St→Hp→Prop) (h0:Pv 0 σ H) (hl:∀ i σ H,i≤(Ze8 u).length→Pv i σ H→H d=some (.frz ob u))
  (hs:∀ i x σ H,(Ze8 u)[i]?=some x→Pv i σ H→g x σ H fun σ2 H2=>tb {D with nx:=Pv (i + 1),ct:=Pv (i + 1),bk:=D.nx} σ2 H2) (hd:∀ σ H,Pv (Ze8 u).length σ H→D.nx σ H) :
  ∃ W:Nat→Nat→St→Hp→Prop,(∃ m,W 0 m σ H)∧∀ i m σ H,W i m σ H→
   ((Itv d ob u).stop i H∧D.nx σ H)∨((Itv d ob u).go i H∧∃ N:St→Hp→Prop,(∀ σ' H',N σ' H'→∃ m',m' < m∧W (i + 1) m' σ' H')∧∀ x H',(Itv d ob u).yld i H x H'→g x σ H' fun σ2 H2=>tb {D with nx:=N,ct:=N,bk:=D.nx} σ2 H2):=by
 refine ⟨fun i m σ H=>m=(Ze8 u).length - i∧i≤(Ze8 u).length∧Pv i σ H,⟨(Ze8 u).length,by simp,Nat.zero_le _,h0⟩,?_⟩
 rintro i m σ H ⟨rfl,hi,p⟩
 have q:=hl i σ H hi p
 by_cases hlt:i < (Ze8 u).length
 ·refine .inr ⟨⟨q,hlt⟩,Pv (i + 1),fun σ' H' p'=>⟨(Ze8 u).length - (i + 1),by omega,rfl,hlt,p'⟩,fun x H' y=>?_⟩
  obtain ⟨e,y⟩:=y
  subst e
  exact hs i x σ _ y p
 ·have e:i=(Ze8 u).length:=by omega
  subst e
  exact .inl ⟨⟨q,Nat.le_refl _⟩,hd σ H p⟩
end L2
namespace KS
open PySem L2
abbrev Zbf:=List (Row×Row)
def rKey (r:Row):List Key:=r.map Sum.inl
theorem Zjz (a b:Row) (h:rKey a=rKey b):a=b:=by
 unfold rKey at h
 induction a generalizing b with
 | nil=>cases b with
  | nil=>rfl
  | cons=>simp at h
 | cons x xs ih=>cases b with
  | nil=>simp at h
  | cons y ys=>
   rw [List.map_cons,List.map_cons,List.cons.injEq] at h
   rw [Sum.inl.inj h.1,ih ys h.2]
theorem Zuc (r:Row):(rKey r).map kV=r.map V.int:=by
 unfold rKey
 rw [List.map_map]
 rfl
def Zfk (H:Hp) (pl:Zbf) (v:V):Prop:=∃ a kvs,v=.ref a∧H a=some (.dT kvs)∧Z1 rKey ZV H pl kvs
theorem Zfk.mono:Mono Zfk:=fun _ _ _ _ s ⟨a,kvs,e,h,d⟩=>⟨a,kvs,e,s _ _ h,d.same ZV.mono s⟩
def Zcu (count:Int) (pl:Zbf):List Int:=(List.range (count - 2).toNat).filterMap fun (i:Nat)=>if (pl.map (·.2)).flatten.contains (2 + (i:Int)) then none else some (2 + (i:Int))
def ZBZ (ns:List Int) (kvs:List (Key×V)):Prop:=∀ n:Int,(valV kvs (.inl n)).isSome=ns.contains n
theorem ZBZ.put {ns:List Int} {kvs:List (Key×V)} (h:ZBZ ns kvs) (m:Int) (v:V):ZBZ (ns++[m]) (putK kvs (.inl m) v):=fun n=>by
 rw [ZHr,List.contains_append,← h n]
 by_cases z:n=m
 ·rw [if_pos (by rw [z]),z];simp
 ·rw [if_neg (fun y=>z (Sum.inl.inj y))]
  have:[m].contains n=false:=by simp [z]
  rw [this,Bool.or_false]
theorem ZN6 {κ α ρ:Type} {f:κ→ρ} {R:Hp→α→V→Prop} {H:Hp} {xs:List (κ×α)} {kvs:List (ρ×V)} (h:Z1 f R H xs kvs) {i:Nat} {v:V} (hv:(kvs.map (·.2))[i]?=some v):∃ p,xs[i]?=some p∧R H p.2 v:=by
 unfold Z1 at h
 induction h generalizing i with
 | nil=>simp at hv
 | @cons p q _ _ a t ih=>
  cases i with
  | zero=>simp at hv;subst hv;exact ⟨q,rfl,a.2⟩
  | succ i=>obtain ⟨p',h1,h2⟩:=ih (i:=i) (by simpa using hv);exact ⟨p',by simpa using h1,h2⟩
theorem ZLX (pl:Zbf) {i:Nat} {p:Row×Row} (h:pl[i]?=some p):((pl.take (i + 1)).map (·.2)).flatten=((pl.take i).map (·.2)).flatten++p.2:=by
 have hi:i < pl.length:=(List.getElem?_eq_some_iff.mp h).1
 rw [List.take_succ_eq_append_getElem hi,List.map_append,List.flatten_append]
 rw [(List.getElem?_eq_some_iff.mp h).2]
 simp
section
variable {P:Program} {w:World} {K:PySem.W.Frag} {mg:Str→Option Value} {base:Heap} {g:Gs}
def ZFV:Sp:=fun vs H Q _=>∃ n:Int,vs=[.int n]∧Q (.int ((n + 62) / 63)) H
theorem Zzf:Zo ["length"] ["length"] (Zj Zb1):=⟨rfl,rfl,rfl,by decide +kernel,rfl,by decide +kernel,by decide +kernel⟩
theorem Zzy (T:Tx K mg g):FnOk P w K mg base (CXE P w) 1 g.ZqI g.Zi0 ["length"] ZFV:=by
 refine T.Ztc.okE Zzf (fun vs H Q E h=>?_) (fun cdv A outer s H vs Q E hr h=>?_)
 ·obtain ⟨n,rfl,_⟩:=h
  rfl
 ·obtain ⟨n,rfl,q⟩:=h
  refine ⟨_,(Zi (Zz (Zt ZaN (Zt Zfx (Zt ZcD (pv 0) (ZI (v:=.int 63) rfl T.ZbO ⟨_,rfl⟩)) Zm) (ZI (v:=.int 63) rfl T.ZbO ⟨_,rfl⟩)))),?_⟩
  refine ⟨_,rfl,_,_,rfl,rfl,_,_,rfl,rfl,_,_,rfl,rfl,⟨by decide,by decide⟩,?_⟩
  rw [show n + 63 - 1=n + 62 by omega]
  exact q
def ZIM:Sp:=fun vs H Q _=>∃ n v pl,vs=[.int n,v]∧Zfk H pl v∧0≤n∧n≤256∧pl.length≤1000∧(pl.map (·.2)).flatten.length≤100000∧∀ l H',Same H H'→H' l=some (.lst ((Zcu n pl).map V.int))→Q (.ref l) H'
theorem Zcl:Zo ["count","places","used","numbers","number"] ["count","places"] (Zj Zam):=⟨rfl,rfl,rfl,by decide +kernel,rfl,by decide +kernel,by decide +kernel⟩
theorem Zus (T:Tx K mg g):FnOk P w K mg base (CXE P w) 1 g.Zix g.Ze7 ["count","places"] ZIM:=by
 refine T.Zk8.okE Zcl (fun vs H Q E h=>?_) (fun cdv A outer s H vs Q E hr h=>?_)
 ·obtain ⟨n,v,pl,rfl,_⟩:=h
  rfl
 ·obtain ⟨n,v,pl,rfl,⟨a,kvs,rfl,ha,hd⟩,hn0,hn1,hpl,hfl,q⟩:=h
  have hu:=u1 hr.units
  refine ⟨_,(Ze (ZJ (i:=2) Zcl.nd rfl (Or.inr rfl) ZjB)
   (Ze (ZGe (Zfv PassesOwn.leaving rfl (ZK7 (ZCB PySem.F.plainAttrs_dict PySem.F.slot_dict_values PySem.F.type_dict_values Zql (pv 1))) (Z5 (i:=3) Zcl.nd rfl (Or.inl rfl)) (Zi (Zfv PassesOwn.leaving rfl (ZOr (pv 3)) (Z5 (i:=4) Zcl.nd rfl (Or.inl rfl)) (Zi (Zqb hu (pv 2) (pv 4) Zun rfl))))))
   (Zi (Zz (Zqe (own:=["number"]) (fv:=["used"]) (ix:=[2]) (ZcO (sc:=Zj Zam) (N:=["count","places","used","numbers","number"]) rfl rfl (by decide +kernel)) rfl (ZK8 rfl T.Zlc (Za (ZI (v:=.int 2) rfl T.Zgf ⟨_,rfl⟩) (Za (pv 0) Zc))) (fun _ _ _ _ _=>Z5 (i:=0) (show (["number","used"]:List Str).Nodup from by decide +kernel) rfl (Or.inl rfl) (Or.inr rfl)) (fun _ _ _ _ _=>ZPp (ZdU (Zh1 hu (pv 0) (pv 1)))) (fun _ _ _ _ _=>(pv 0))))))),?_⟩
  refine fun U hU=>?_
  have naU:a≠U:=Zf ha hU
  refine ⟨a,.dT kvs,(by rw [Zd naU];exact ha),rfl,?_⟩
  refine ⟨_,rfl,.inr (.inr (.inl ⟨rfl,.inr ⟨kvs,(by rw [Zd naU];exact ha)⟩⟩)),a,.dT kvs,rfl,rfl,.inl (by rw [Zd naU];exact ha),rfl,fun r hr1=>?_⟩
  have nar:a≠r:=Zf (H:=upd H U (.dK [])) (by rw [Zd naU];exact ha) hr1
  have nUr:U≠r:=Zf (H:=upd H U (.dK [])) Zb hr1
  have hrH:H r=none:=by rw [Zd nUr.symm] at hr1;exact hr1
  refine ⟨r,a,.dT kvs,rfl,Zb,(by rw [Zd nar,Zd naU];exact ha),rfl,fun ob=>?_⟩
  refine ZH2 (d:=a) (ob:=ob) (u:=.dT kvs) (fun i σ H'=>(∃ o3 o4,σ=[some (.int n),some (.ref a),some (.ref U),o3,o4])∧H' a=some (.frz ob (.dT kvs))∧(∃ uk,H' U=some (.dK uk)∧ZBZ ((pl.take i).map (·.2)).flatten uk∧uk.length≤((pl.take i).map (·.2)).flatten.length)∧∀ b o,H b=some o→b≠a→H' b=some o)
   ⟨⟨none,none,rfl⟩,Zb,⟨[],(by rw [Zd naU.symm,Zd nUr];exact Zb),fun m=>rfl,Nat.zero_le _⟩,fun b o e hb=>by rw [Zd hb,Zd (Zf e hrH),Zd (Zf e hU)];exact e⟩ (fun i σ H' _ h=>h.2.1) (fun i x σ H' hx h=>?_) (fun σ H' h=>?_)
  ·obtain ⟨⟨o3,o4,rfl⟩,hfz,⟨uk,hU',hub,hul⟩,kp⟩:=h
   obtain ⟨p,hp,t,rfl,ht⟩:=ZN6 hd hx
   have nta:t≠a:=ZY ht ha (by intro z;cases z)
   have htU:t≠U:=Zf ht hU
   have hlt:((pl.take (i + 1)).map (·.2)).flatten.length≤100000:=by
    have e1:(pl.map (·.2)).flatten=((pl.take (i + 1)).map (·.2)).flatten++((pl.drop (i + 1)).map (·.2)).flatten:=by
     rw [← List.flatten_append,← List.map_append,List.take_append_drop]
    rw [e1,List.length_append] at hfl
    omega
   rw [ZLX pl hp] at hlt ⊢
   generalize ((pl.take i).map (·.2)).flatten=F at hub hul hlt
   refine ⟨_,rfl,t,rfl,⟨_,SqT.of (kp _ _ ht nta)⟩,?_⟩
   refine ZLU (xs:=p.2.map V.int) (fun j σ H'=>(∃ o4,σ=[some (.int n),some (.ref a),some (.ref U),some (.ref t),o4])∧H' a=some (.frz ob (.dT kvs))∧(∃ uk,H' U=some (.dK uk)∧ZBZ (F++p.2.take j) uk∧uk.length≤F.length + j)∧∀ b o,H b=some o→b≠a→H' b=some o)
    ⟨⟨_,rfl⟩,hfz,⟨uk,hU',by rw [List.take_zero,List.append_nil];exact hub,hul⟩,kp⟩ (fun j σ H' _ h=>SqT.of (h.2.2.2 _ _ ht nta)) (fun j y σ H' hy h=>?_) (fun σ H' h=>?_)
   ·obtain ⟨⟨o4,rfl⟩,hfz,⟨uk,hU',hub,hul⟩,kp⟩:=h
    rw [List.getElem?_map] at hy
    cases hm:p.2[j]? with
    | none=>rw [hm] at hy;cases hy
    | some m=>
     rw [hm] at hy
     cases hy
     have hj:j < p.2.length:=(List.getElem?_eq_some_iff.mp hm).1
     rw [List.length_append] at hlt
     refine ⟨_,rfl,_,rfl,U,_,rfl,DPut.k (k:=.inl m) hU' ?_,?_⟩
     ·have:(100001:Nat)≤sizeLine:=by decide
      omega
     ·refine ⟨⟨_,rfl⟩,(by rw [Zd naU];exact hfz),⟨_,Zb,?_,?_⟩,fun b o e hb=>?_⟩
      ·rw [List.take_succ_eq_append_getElem hj,(List.getElem?_eq_some_iff.mp hm).2,← List.append_assoc]
       exact hub.put m _
      ·exact Nat.le_trans (Zf9 _ _ _) (by omega)
      ·rw [Zd (Zf e hU)];exact kp _ _ e hb
   ·obtain ⟨⟨o4,rfl⟩,hfz,⟨uk,hU',hub,hul⟩,kp⟩:=h
    rw [List.length_map] at hub hul
    rw [List.take_length] at hub
    exact ⟨⟨_,_,rfl⟩,hfz,⟨uk,hU',hub,by rw [List.length_append];exact hul⟩,kp⟩
  ·obtain ⟨⟨o3,o4,rfl⟩,hfz,⟨uk,hU',hub,hul⟩,kp⟩:=h
   have hdl:(Ze8 (.dT kvs)).length=pl.length:=by show (kvs.map (·.2)).length=_;rw [List.length_map,hd.len]
   rw [hdl,List.take_length] at hub
   refine ⟨ob,.dT kvs,hfz,rfl,?_⟩
   have sm:Same H (upd H' a (.dT kvs)):=fun b o e=>by
    by_cases z:b=a
    ·subst z;rw [Zb,← e,ha]
    ·rw [Zd z];exact kp _ _ e z
   have hU2:(upd H' a (.dT kvs)) U=some (.dK uk):=by rw [Zd naU.symm];exact hU'
   refine ⟨_,rfl,2,n,rfl,⟨by omega,by omega,by omega,by omega⟩,fun D hD=>?_⟩
   refine Zo1 (J:=Itr 2 (n - 2).toNat) (n - 2).toNat (fun i=>(if (pl.map (·.2)).flatten.contains (2 + (i:Int)) then none else some (2 + (i:Int))).map V.int) (fun i x=>x=.int (2 + (i:Int))) hD (Zs (m:=256) (by omega) (by decide)) (fun i H3 hi _=>hi) (fun H3 _=>Nat.le_refl _) (fun i H3 x H4 hi _ hy=>⟨hy.1,hy.2⟩) (fun i x H3 N hi hx s3 k=>?_) fun H3 s3 hH=>?_
   ·subst hx
    refine ⟨_,rfl,_,rfl,U,_,rfl,DGet.k (s3 _ _ hU2) (k:=.inl (2 + (i:Int))),_,rfl,?_⟩
    have hk:=k H3 (Same.refl _)
    rw [hub (2 + (i:Int))]
    cases hc:(pl.map (·.2)).flatten.contains (2 + (i:Int)) with
    | true=>
     rw [hc] at hk
     exact iteF hk
    | false=>
     rw [hc] at hk
     exact iteT ⟨_,rfl,hk⟩
   ·refine q D H3 (sm.trans s3) ?_
    rw [hH]
    unfold Zcu
    rw [List.map_filterMap]
end
end KS
namespace L2
open PySem PySem.Spec PyProof.Rows
section
variable {X:Cx} {pins:List (Addr×Obj)} {σ:St} {H H2:Hp} {s:Shared} {scope:Scope} {own fv:List Str} {ix:List Nat} {cl:List (Str×Addr)}
theorem ZPn {i₀:Nat} {x₀:Str} {pos₀ spos:Pos} {elt target iter:Expr} {ifs:List Expr} {pos:Pos} {wi:TI} {g:TG} {tt:TT} {te:TE} (hN:X.N.Nodup) (hi₀:X.N[i₀]?=some x₀) (hx₀:Loc X.env.scope x₀) (S:ZcC X scope own fv ix) (hc:X.calm=true) (hi:PI X target iter wi)
  (hg:∀ cl fp C s H,PG (Zbd X scope cl (own++fv) fp C s H) target g) (ht:∀ cl fp C s H,PIf (Zbd X scope cl (own++fv) fp C s H) ifs tt) (he:∀ cl fp C s H,PE (Zbd X scope cl (own++fv) fp C s H) elt te)
  (hsw:swapsWith (.ListComp elt [⟨target,iter,ifs,0⟩] scope pos) (some (.Name x₀ pos₀)) spos.line X.env=pure true:=by rfl) (hf₀:X.fn x₀=true∨X.env.scope.names.lookup x₀=some .local:=by first | exact .inl rfl | exact .inr rfl | assumption)
  (hs:∀ x,foldedSetIterable iter X.env x=pure x:=by intro _;rfl):PS X (.Assign [.Name x₀ pos₀] (.ListComp elt [⟨target,iter,ifs,0⟩] scope pos) spos) (tAsg (ZQy wi own.length ix g tt te) (ZJP i₀)):=by
 try unfold PE at *;try unfold PS at *
 intro pins s σ H D I h
 rw [exec_Assign_Name_used _ _ _ _ hsw]
 refine wpAny_bind (wpAny_standAt (wpAny_bind ?_))
 change wpAny _ X.A (do let _ ← comprehension (.ListComp elt [⟨target,iter,ifs,0⟩] scope pos) scope X.env _ (newList []) false (eval iter X.env) (some (assign (.Name x₀ pos₀) X.env))) _ _ s
 refine wpAny_bind (wpAny_mono (Q:=fun _ s'=>SP X pins D .next s') ?_ (fun _ s' hq=>wpAny_pure (wpAny_pure hq)) fun _ _ e=>e)
 obtain ⟨cl,hclos,hcl,hcl2⟩:=Zyc (scope:=scope) (env:=X.env) (S.cells I.ok)
 refine wpAny_comprehension_free (use:=some (assign (.Name x₀ pos₀) X.env)) rfl hs hclos S.kind S.names (thn (hi pins s σ H _ I h) fun v s1 h1=>thn h1 fun itv s2 h2=>?_)
 obtain ⟨it,fp,tn,J,H2,e,I2,T,st2,f2,hW⟩:=h2
 subst e
 have hlt2:∀ b∈fp,b < s2.heap.objs.size:=fun b hb=>by
  obtain ⟨o,e,_⟩:=T.obj _ _ st2 b hb
  exact Heap.lt_size e
 obtain ⟨W,⟨m0,w0⟩,turn⟩:=hW s2.heap.objs.size I2.fresh
 have I3:Inv X pins σ (upd H2 s2.heap.objs.size (.lst [])) {s2 with heap:=s2.heap.push {cls:=.type "list",data:=.seq ([]:List Value).toArray}}:=I2.lnew (t':=s2.toks) (its:=[]) .nil (Nat.zero_le _)
 refine wpAny_newObj_type ?_
 generalize hs3:({s2 with heap:=s2.heap.push {cls:=.type "list",data:=.seq ([]:List Value).toArray}}:Shared)=s3 at I3
 have hsz3:s3.heap.objs.size=s2.heap.objs.size + 1:=by rw [← hs3];exact Heap.size_push ..
 have up3:∀ b o,s2.heap.get? b=some o→s3.heap.get? b=some o:=fun b o e=>by rw [← hs3];exact Heap.get?_push_of_some _ e
 refine wpAny_newFunctionEnv (fun y hy=>S.nocell y hy) (by intro y hy;simp at hy) (fun h4 hns4 hsb4=>?_) S.kind
 have old4:∀ b o,s3.heap.get? b=some o→h4.get? b=some o:=fun b o e=>hsb4.extBut b o (Nat.ne_of_lt (Heap.lt_size e)) (Heap.get?_push_of_some _ e)
 have hlt3:∀ b∈fp,b < s3.heap.objs.size:=fun b hb=>by rw [hsz3];exact Nat.lt_succ_of_lt (hlt2 b hb)
 have I4:=Zya (t1:=s3.toks + ([]:List (Str×Value)).length) S I3 f2 hlt3 hcl hcl2 hns4 old4
 have st4:tn 0 h4:=T.keep _ _ _ st2 fun b hb o e=>old4 b o (up3 b o e)
 have fr4:∀ b∈fp,(upd H2 s2.heap.objs.size (.lst [])) b=none:=fun b hb=>by rw [Zd (Nat.ne_of_lt (hlt2 b hb))];exact (f2 b hb).1
 have stat:∀ {H':Hp},(∀ b∈fp,H' b=none)→∀ b∈fp,FpOk (Zbd X scope cl (own++fv) fp s3.heap.objs.size s3 (upd H2 s2.heap.objs.size (.lst []))) [] H' b:=fun hn b hb=>
  ⟨hn b hb,Nat.ne_of_lt (hlt3 b hb),(I4.ok.exfs b hb),.inl hb,fun x c e=>(f2 b hb).2.2.2.2.1 x c (hcl x c e).1,fun p hp=>(nomatch hp)⟩
 have loop:codeAny (model X.prog X.w) X.A (.compLoop (.ListComp elt [⟨target,iter,ifs,0⟩] scope pos) 0 (.ref it) (.ref s2.heap.objs.size) (compEnvC scope cl s3.heap.objs.size X.env))
   (compPost (model X.prog X.w) X.A X.xe (some (assign (.Name x₀ pos₀) X.env)) (fun _ s'=>SP X pins D .next s') (.ref s2.heap.objs.size) s3.heap.objs.size) {s3 with heap:=h4,toks:=s3.toks + ([]:List (Str×Value)).length}:=by
  refine Zd5 (fun n s'=>∃ i σ' ys H',Inv (Zbd X scope cl (own++fv) fp s3.heap.objs.size s3 (upd H2 s2.heap.objs.size (.lst []))) [] σ' H' s'∧tn i s'.heap∧(∀ b∈fp,H' b=none)∧W i n σ' ys H') ?_ m0 ⟨0,_,[],_,I4,st4,fr4,w0⟩
  rintro n s5 ⟨i,σ5,ys,H5,I5,st5,fr5,w5⟩
  obtain ⟨hD,next⟩:=turn i n σ5 ys H5 w5
  rcases next with ⟨stop,q⟩ | ⟨go,hys,step⟩
  ·refine thn (T.done (Zbd X scope cl (own++fv) fp s3.heap.objs.size s3 (upd H2 s2.heap.objs.size (.lst []))) rfl rfl rfl hc i [] s5 σ5 H5 (fun _ _=>False) I5 (stat fr5) st5 stop) fun r s6 ⟨hr,I6⟩=>?_
   subst hr
   obtain ⟨m6,hn6,_⟩:=id I6.loc
   have J:Inv X pins σ H5 s6:=ZIc I3 f2 I6 ⟨rfl,fun _ _=>rfl⟩
   have F:=I3.fpOk (H':=H5) (Nat.le_refl s3.heap.objs.size) I6.free
   refine wpAny_assign_Name (ZB4 J hN hi₀ hx₀ (v:=.ref s2.heap.objs.size) (u:=.ref s2.heap.objs.size) rfl (fun s7 I7 ⟨a,sb,ha⟩=>?_) hf₀)
   have naC:s3.heap.objs.size≠a:=fun z=>by
    rcases ha with ha | ha
    ·exact F.2.1 (z.trans ha)
    ·exact F.2.2.2.2.1 _ _ ha z.symm
   exact ⟨m6,hn6.sameBut sb naC,fun h8 hs8=>⟨_,H5,I7.turned (t':=s7.toks) (fun b o hb e=>(hs8.2 b hb).trans e) F.1 F.2.1 F.2.2.2.1 F.2.2.2.2.1 F.2.2.2.2.2,q⟩⟩
  ·refine thn (T.item (Zbd X scope cl (own++fv) fp s3.heap.objs.size s3 (upd H2 s2.heap.objs.size (.lst []))) rfl rfl rfl hc i [] s5 σ5 H5 (fun _ _=>False) I5 (stat fr5) st5 go) fun r s6 ⟨u,hr,h6⟩=>?_
   subst hr
   refine thn h6 fun _ s7 ⟨x,H7,I7,r7,y7,st7,fr7⟩=>?_
   have I7':=I7.pinned (stat fr7) (T.obj _ _ st7)
   refine thn (hg _ _ _ _ _ _ s7 σ5 H7 x u _ I7' r7 (step x H7 y7)) fun _ s8 ⟨σ8,H8,I8,q8⟩=>?_
   refine thn (ht _ _ _ _ _ _ s8 σ8 H8 _ I8 q8) fun b s9 ⟨H9,I9,q9⟩=>?_
   have again:∀ {s10:Shared} {σ10:St} {H10:Hp} {ys':List V},Inv (Zbd X scope cl (own++fv) fp s3.heap.objs.size s3 (upd H2 s2.heap.objs.size (.lst []))) ([]++Zxu fp s7.heap) σ10 H10 s10→(∃ m',m' < n∧W (i + 1) m' σ10 ys' H10)→
     ∃ m,m < n∧∃ i σ' ys H',Inv (Zbd X scope cl (own++fv) fp s3.heap.objs.size s3 (upd H2 s2.heap.objs.size (.lst []))) [] σ' H' s10∧tn i s10.heap∧(∀ b∈fp,H' b=none)∧W i m σ' ys H':=fun {s10 σ10 H10 ys'} I10 ⟨m',hm,w10⟩=>by
    refine ⟨m',hm,i + 1,σ10,ys',H10,I10.unpinned,T.keep _ _ _ st7 fun b hb o e=>(I10.pin (b,o) (List.mem_append_right _ (List.mem_append_right _ (ZdN hb e)))).1,fun b hb=>?_,w10⟩
    obtain ⟨o,e,d⟩:=T.obj _ _ st7 b hb
    exact (I10.pin (b,o) (List.mem_append_right _ (List.mem_append_right _ (ZdN hb e)))).2.1
   cases b with
   | false=>
    rw [if_neg (by decide)] at q9
    rw [if_neg (by decide)]
    exact again I9 q9
   | true=>
    rw [if_pos rfl] at q9
    rw [if_pos rfl]
    refine thn (he _ _ _ _ _ _ s9 σ8 H9 _ I9 q9) fun u9 s10 ⟨v9,H10,I10,r10,hD10,q10⟩=>?_
    refine thn (ZdX (X:=Zbd X scope cl (own++fv) fp s3.heap.objs.size s3 (upd H2 s2.heap.objs.size (.lst []))) _ s10 σ8 H10 (.ref s2.heap.objs.size) [v9] (.ref s2.heap.objs.size) [u9] (fun _ H11=>H11=upd H10 s2.heap.objs.size (.lst (ys++[v9]))) I10 rfl (.cons r10 .nil) ⟨_,ys,v9,rfl,rfl,hD10,hys,rfl⟩) fun _ s11 ⟨_,H11,I11,_,q11⟩=>?_
    subst q11
    exact again I11 q10
 exact codeAny_compStart_list loop (T.self _ _ _ _ _ st4 loop)
end
end L2
namespace L2
open PySem PySem.Spec PyProof.Rows PySem.W
section
variable {X:Cx} {o e:Expr} {es:List Expr} {to:TE} {t:TA} {name:Str} {apos cpos:Pos} {T id:String} {r:V→List V→Hp→VK→Prop} {K:Frag}
theorem ZQ0 (hK:X.K=K) (pa:PlainAttrs T) (slot:Slot T name id) (hty:typeOf (.builtin id)=pure (.type "method_descriptor")) (hm:MtR X id r) (ho:PE X o to) (ha:PA X (e::es) t)
  (hbase:attributeBase o name X.env (eval o X.env)=eval o X.env:=by rfl)
  (hfew:((backTo cpos (starEach (e::es) X.env)).all (fun x=>!x.1) && (backToKw cpos (keywordEach [] X.env)).all (fun x=>x.1.isSome) && decide ((e::es).length + ([]:List Keyword).length + (if ([]:List Keyword).isEmpty then 0 else 1) < 30))=true:=by rfl)
  (hline:(apos.endLine == cpos.line)=true:=by rfl) (hs:starEach (e::es) X.env=(false,eval e X.env)::starEach es X.env:=by rfl) (hplain:(backTo cpos (starEach es X.env)).any (·.1)=false:=by rfl) :
  PE X (.Call (.Attribute o name apos) (e::es) [] cpos) (tBM K T r to t):=by
 subst hK
 exact Ztq pa slot hty hm ho ha hbase hfew hline hs hplain
end
end L2
namespace KS
open PySem L2
def Zt7 (c:Nat):Nat:=(Builtin.Str.occurrences ZCm ⟨#[c]⟩ 0 ZCm.length 1).headD 0
def Za9 (t:Str):Row:=((List.range t.cps.size).map fun i=>(Zt7 (t.cps.getD i 0):Int) + 1)++List.replicate (8 - t.cps.size) 0
def Zgp (p:Str×Int):Row:=Za9 p.1++[p.2]
def ZcN (es:Ents):Row:=((ZdP es).map Zgp).flatten
theorem ZjC {t:Str} (h:Zcr t=true):1≤t.cps.size∧t.cps.size≤8∧∀ i,i < t.cps.size→Zxi (t.cps.getD i 0)=true:=by
 unfold Zcr at h
 split at h
 ·cases h
 ·rename_i hh
  have e:t.length=t.cps.size:=rfl
  refine ⟨?_,?_,fun i hi=>?_⟩
  ·rw [← e];exact Nat.not_lt.mp fun z=>hh (.inl z)
  ·rw [← e];exact Nat.not_lt.mp fun z=>hh (.inr (.inl z))
  ·exact List.all_eq_true.mp h i (List.mem_range.mpr hi)
theorem Zf8 {t:Str} (h:t.cps.size≤8):(Za9 t).length=8:=by
 unfold Za9
 rw [List.length_append,List.length_map,List.length_range,List.length_replicate]
 omega
theorem ZPg {c:Nat} (h:Zxi c=true):∃ rest,Builtin.Str.occurrences ZCm ⟨#[c]⟩ 0 ZCm.length 1=Zt7 c::rest:=by
 unfold Zxi at h
 unfold Zt7
 cases e:Builtin.Str.occurrences ZCm ⟨#[c]⟩ 0 ZCm.length 1 with
 | nil=>rw [e] at h;cases h
 | cons i r=>exact ⟨r,rfl⟩
section
variable {P:Program} {w:World} {K:PySem.W.Frag} {mg:Str→Option Value} {base:Heap} {g:Gs}
def ZFR:Sp:=fun vs H Q _=>∃ t,vs=[.str t]∧Zcr t=true∧∀ v H',Same H H'→ZV H' (Za9 t) v→Q v H'
theorem Zmd:Zo ["name","codes"] ["name"] (Zj Za8):=⟨rfl,rfl,rfl,by decide +kernel,rfl,by decide +kernel,by decide +kernel⟩
theorem Znd (T:Tx K mg g):FnOk P w K mg base (CXE P w) 1 g.Zqk g.Zh9 ["name"] ZFR:=by
 refine T.Zjn.okE Zmd (fun vs H Q E h=>?_) (fun cdv A outer s H vs Q E hr h=>?_)
 ·obtain ⟨t,rfl,_⟩:=h
  rfl
 ·obtain ⟨t,rfl,hb,q⟩:=h
  obtain ⟨n1,n8,hsg⟩:=ZjC hb
  refine ⟨_,(Ze (ZPn (i₀:=1) Zmd.nd rfl (Or.inl rfl) (own:=["sign"]) (fv:=[]) (ix:=[]) (ZcO (sc:=Zj Za8) (N:=["name","codes"]) rfl rfl (by decide +kernel)) rfl (ZOs (pv 0)) (fun _ _ _ _ _=>Z5 (i:=0) (show (["sign"]:List Str).Nodup from by decide +kernel) rfl (Or.inl rfl) (Or.inr rfl)) (fun _ _ _ _ _=>Zqc) (fun _ _ _ _ _=>(Zt ZcD (ZQ0 (K:=K) rfl PySem.F.plainAttrs_str PySem.F.slot_str_index PySem.F.type_str_index ZLo (ZI (v:=.str "ABCDEFGHIJKLMNOPQRSTUVWXYZabcdefghijklmnopqrstuvwxyz0123456789._-") rfl T.Zey ⟨_,rfl⟩) (Za (pv 0) Zc)) Zm)))
   (Zi (Zz (Zt Zbt (ZaS ZgT rfl T.ZtJ PyProof.Rows.Boot.«tuple» (Za (pv 1) Zc)) (Zt Zup (Zar (Za Zm Zc)) (Zt Zfx (ZI (v:=.int 8) rfl T.ZcV ⟨_,rfl⟩) (ZB Zu (by rfl) T.Zbv PySem.boot_len (Za (pv 1) Zc)))))))),?_⟩
  refine ⟨_,rfl,_,rfl,fun D hD=>?_⟩
  refine Zo1 (J:=Its t) t.cps.size (fun i=>some (V.int ((Zt7 (t.cps.getD i 0):Int) + 1))) (fun i x=>i < t.cps.size∧x=.str ⟨#[t.cps.getD i 0]⟩) hD (Zs n8 (by decide)) (fun i H' hi _=>hi) (fun H' _=>rfl) (fun i H' x H2 hi _ hy=>?_) (fun i x H' N hi hx _ k=>?_) fun H' s' hH=>?_
  ·obtain ⟨e,c,hc,e2⟩:=hy
   refine ⟨e,hi,?_⟩
   rw [e2,show t.cps.getD i 0=c by rw [Array.getD_eq_getD_getElem?,hc];rfl]
  ·obtain ⟨hi,rfl⟩:=hx
   obtain ⟨rest,ho⟩:=ZPg (hsg i hi)
   refine iteT (B:=N none H') ?_
   exact ⟨rfl,_,rfl,_,_,_,rest,rfl,rfl,ho,_,_,rfl,rfl,k _ (Same.refl _)⟩
  ·have hcl:((List.range t.cps.size).filterMap fun i=>some (V.int ((Zt7 (t.cps.getD i 0):Int) + 1)))=((List.range t.cps.size).map fun i=>(Zt7 (t.cps.getD i 0):Int) + 1).map V.int:=by
    rw [List.filterMap_eq_map',List.map_map];rfl
   rw [hcl] at hH
   generalize hcs:((List.range t.cps.size).map fun i=>(Zt7 (t.cps.getD i 0):Int) + 1)=cs at hH
   have hcsl:cs.length=t.cps.size:=by rw [← hcs,List.length_map,List.length_range]
   refine ⟨_,rfl,D,_,rfl,.inl ⟨SqL.of hH,fun a ha=>?_⟩⟩
   have s1:=Zh (o:=.tup (cs.map V.int)) ha
   refine ⟨szl 1,fun b hb=>?_⟩
   have s2:=Zh (o:=.tup [.int 0]) hb
   refine ⟨_,rfl,D,_,rfl,.inl (SqL.of (s2 _ _ (s1 _ _ hH))),_,_,rfl,rfl,b,_,_,rfl,rfl,Zb,by simp,?_,?_,?_,fun c H2 s3 hc=>?_⟩
   ·rw [List.length_map,hcsl];omega
   ·rw [List.length_map,hcsl];omega
   ·rw [List.length_map,hcsl];show 1 * _≤_;exact Zs (m:=8) (by omega) (by decide)
   rw [Zf1] at hc
   have e8:((8:Int) - ((cs.map V.int).length:Int)).toNat=8 - t.cps.size:=by rw [List.length_map,hcsl];omega
   rw [e8] at hc
   refine ⟨a,c,_,_,rfl,rfl,SqT.of (s3 _ _ (s2 _ _ Zb)),SqT.of hc,fun _=>hc,fun _ _=>s3 _ _ (s2 _ _ Zb),?_,fun d H3 s4 hd=>?_⟩
   ·rw [List.length_map,List.length_replicate,hcsl];exact Zs (m:=8) (by omega) (by decide)
   refine q _ H3 (s'.trans (s1.trans (s2.trans (s3.trans s4)))) ⟨d,rfl,?_⟩
   rw [hd]
   unfold Za9
   rw [hcs,List.map_append,List.map_replicate]
theorem Zt0 (es:Ents):∀ p∈ZdP es,p∈es:=by
 intro p hp
 unfold ZdP at hp
 split at hp
 ·exact hp
 ·rename_i h2
  obtain ⟨i,hi,rfl⟩:=List.mem_map.mp hp
  have low:=ZcL (fun i j=>Ztw (es.getD i (Str.empty,0)) (es.getD j (Str.empty,0))) (ZfR (n:=es.length) (by omega))
  have hi':i < es.length:=low.lt i (by simpa using hi)
  rw [List.getD_eq_getElem?_getD,List.getElem?_eq_getElem hi']
  exact List.getElem_mem hi'
theorem ZLY {α β:Type} (f:α→List β) (xs:List α) {i:Nat} {p:α} (h:xs[i]?=some p):((xs.take (i + 1)).map f).flatten=((xs.take i).map f).flatten++f p:=by
 have hi:i < xs.length:=(List.getElem?_eq_some_iff.mp h).1
 rw [List.take_succ_eq_append_getElem hi,List.map_append,List.flatten_append,(List.getElem?_eq_some_iff.mp h).2]
 simp
def ZvY (es:Ents):Prop:=∀ p∈es,Zcr p.1=true
theorem ZAQ (es:Ents) (h:ZvY es):∀ l:Ents,(∀ p∈l,p∈es)→((l.map Zgp).flatten).length=9 * l.length
 | [],_=>rfl
 | p::l,hl=>by
  rw [List.map_cons,List.flatten_cons,List.length_append,ZAQ es h l fun q hq=>hl q (List.mem_cons_of_mem _ hq),List.length_cons]
  unfold Zgp
  rw [List.length_append,Zf8 (ZjC (h p (hl p List.mem_cons_self))).2.1]
  show 8 + 1 + _=_
  omega
def ZM1:Sp:=fun vs H Q _=>∃ v es,vs=[v]∧ZfW H es v∧es.length < 64∧ZvY es∧∀ u H',Same H H'→ZV H' (ZcN es) u→Q u H'
theorem Zbx:Zo ["entries","row","name","number"] ["entries"] (Zj Zbi):=⟨rfl,rfl,rfl,by decide +kernel,rfl,by decide +kernel,by decide +kernel⟩
theorem Zww (T:Tx K mg g):FnOk P w K mg base (CXE P w) 2 g.ZlH g.Zgq ["entries"] ZM1:=by
 refine T.ZpG.okE Zbx (fun vs H Q E h=>?_) (fun cdv A outer s H vs Q E hr h=>?_)
 ·obtain ⟨v,es,rfl,_⟩:=h
  rfl
 ·obtain ⟨v,es,rfl,⟨a,rfl,ha⟩,hz,hnm,q⟩:=h
  refine ⟨_,(Ze (ZJ (i:=1) Zbx.nd rfl (Or.inl rfl) (Zar Zc))
   (Ze (Zfv PassesOwn.leaving rfl (Zqd (ZB ZEa (by rfl) T.ZlZ PyProof.Rows.Boot.«sorted» (Za (ZCB PySem.F.plainAttrs_dict PySem.F.slot_dict_items PySem.F.type_dict_items ZC7 (pv 0)) Zc))) (ZCA rfl (ZcT (Z5 (i:=2) Zbx.nd rfl (Or.inl rfl)) (ZcT (Z5 (i:=3) Zbx.nd rfl (Or.inl rfl)) Zul))) (Zi (ZJ (i:=1) Zbx.nd rfl (Or.inl rfl) (Zt Zbt (Zt Zbt (pv 1) (Zp (Znd T) hr.dn rfl T.Zrl T.Zjn.kp T.ZsW .nil Zg (Za (pv 2) Zc))) (Zar (Za (pv 3) Zc))))))
   (Zi (Zz (pv 1))))),?_⟩
  refine ⟨Nat.zero_le _,fun r hr1=>?_⟩
  have s1:=Zh (o:=.tup []) hr1
  refine ⟨_,rfl,.inr (.inr (.inl ⟨rfl,.inl ⟨_,s1 _ _ ha⟩⟩)),a,_,rfl,rfl,.inl (s1 _ _ ha),rfl,fun p hp=>?_⟩
  have s2:=Zh (o:=ZKh p a) hp
  refine ⟨p,a,es,rfl,Zb,.inl (s2 _ _ (s1 _ _ ha)),hz,fun l as H1 s3 hl hl1 hlen hle hat=>?_⟩
  have sA:=s1.trans (s2.trans s3)
  refine ⟨l,rfl,⟨_,SqL.of hl1⟩,?_⟩
  have hsl:(ZdP es).length≤64:=by rw [← hlen];omega
  refine ZtE (xs:=as.map V.ref) (fun i σ H'=>∃ t o2 o3,σ=[some (.ref a),some (.ref t),o2,o3]∧Same H1 H'∧H' t=some (.tup ((((ZdP es).take i).map Zgp).flatten.map V.int))) ⟨r,none,none,rfl,Same.refl _,s3 _ _ (s2 _ _ Zb)⟩ (fun i σ H' _ h=>?_) (fun i x σ H' hx h=>?_) (fun σ H' h=>?_)
  ·obtain ⟨t,o2,o3,rfl,sm,ht⟩:=h
   exact SqL.of (sm _ _ hl1)
  ·obtain ⟨t,o2,o3,rfl,sm,ht⟩:=h
   rw [List.getElem?_map] at hx
   cases hb:as[i]? with
   | none=>rw [hb] at hx;cases hx
   | some b=>
    rw [hb] at hx
    cases hx
    have hi:i < (ZdP es).length:=by rw [← hlen];exact (List.getElem?_eq_some_iff.mp hb).1
    obtain ⟨pr,hpr⟩:∃ pr,(ZdP es)[i]?=some pr:=⟨_,List.getElem?_eq_getElem hi⟩
    have hbt:=sm _ _ (hat i b pr hb hpr)
    have hmem:pr∈es:=Zt0 es pr (List.mem_of_getElem? hpr)
    have hfl:=ZAQ es hnm ((ZdP es).take i) fun q hq=>Zt0 es q (List.mem_of_mem_take hq)
    have htl:((ZdP es).take i).length≤64:=by rw [List.length_take];omega
    rw [ZLY Zgp _ hpr]
    generalize (((ZdP es).take i).map Zgp).flatten=F at ht hfl
    refine ⟨b,_,rfl,SqT.of hbt,rfl,_,_,rfl,_,_,rfl,rfl,?_⟩
    refine ⟨_,rfl,_,rfl,pr.1,rfl,hnm pr hmem,fun u H2 s4 ⟨c,e,hc⟩=>?_⟩
    subst e
    have hnl:(Za9 pr.1).length=8:=Zf8 (ZjC (hnm pr hmem)).2.1
    refine ⟨t,c,_,_,rfl,rfl,SqT.of (s4 _ _ ht),SqT.of hc,fun _=>hc,fun _ _=>s4 _ _ ht,?_,fun d H3 s5 hd=>?_⟩
    ·rw [List.length_map,List.length_map,hnl,hfl];exact Zs (m:=1000) (by omega) (by decide)
    refine ⟨_,rfl,szl 1,fun e he=>?_⟩
    have s6:=Zh (o:=.tup [.int pr.2]) he
    refine ⟨d,e,_,_,rfl,rfl,SqT.of (s6 _ _ hd),SqT.of Zb,fun _=>Zb,(fun h=>nomatch h),?_,fun f H4 s7 hf=>?_⟩
    ·rw [List.length_append,List.length_map,List.length_map,hnl,hfl];exact Zs (m:=1000) (by show 9 * _ + 8 + 1≤1000;omega) (by decide)
    refine ⟨f,_,_,rfl,sm.trans (s4.trans (s5.trans (s6.trans s7))),?_⟩
    rw [hf]
    unfold Zgp
    rw [List.map_append,List.map_append,List.append_assoc]
    rfl
  ·obtain ⟨t,o2,o3,rfl,sm,ht⟩:=h
   rw [List.length_map,hlen,List.take_length] at ht
   exact ⟨_,rfl,q _ _ (sA.trans sm) ⟨t,rfl,ht⟩⟩
end
end KS
namespace KS
open PySem L2
structure Chn where
 free:List Int
 older:Zbf
 places:Zbf
def cfl (f o p:V):List (Str×V):=putF "places" p (putF "older" o (putF "free" f []))
theorem cf1:¬ (("free":Str)="places"):=by decide +kernel
theorem cf2:¬ (("free":Str)="older"):=by decide +kernel
theorem cf3:¬ (("older":Str)="places"):=by decide +kernel
theorem ZQc (f o p:V):(cfl f o p).lookup ("free":Str)=some f:=by unfold cfl;rw [Zl,if_neg cf1,Zl,if_neg cf2,Zl,if_pos rfl]
theorem ZRy (f o p:V):(cfl f o p).lookup ("older":Str)=some o:=by unfold cfl;rw [Zl,if_neg cf3,Zl,if_pos rfl]
theorem ZMn (f o p:V):(cfl f o p).lookup ("places":Str)=some p:=by unfold cfl;rw [Zl,if_pos rfl]
theorem ZMo (f o p:V) {m:Str} (h1:¬ m="places") (h2:¬ m="older") (h3:¬ m="free"):(cfl f o p).lookup m=none:=by
 unfold cfl
 rw [Zl,if_neg h1,Zl,if_neg h2,Zl,if_neg h3]
 rfl
theorem ZMp (f o p:V):cfl f o p=([("free",f),("older",o),("places",p)]:List (Str×V)):=by
 have e1:putF "older" o [(("free":Str),f)]=([("free",f),("older",o)]:List (Str×V)):=by
  show (if ("free":Str)="older" then [(("free":Str),o)] else (("free":Str),f)::putF "older" o [])=_
  rw [if_neg cf2];rfl
 have e2:putF "places" p [(("free":Str),f),(("older":Str),o)]=([("free",f),("older",o),("places",p)]:List (Str×V)):=by
  show (if ("free":Str)="places" then (("free":Str),p)::[(("older":Str),o)] else (("free":Str),f)::(if ("older":Str)="places" then [(("older":Str),p)] else (("older":Str),o)::putF "places" p []))=_
  rw [if_neg cf1,if_neg cf3];rfl
 show putF "places" p (putF "older" o [(("free":Str),f)])=_
 rw [e1,e2]
theorem ZQb (f o p f':V):putF "free" f' (cfl f o p)=cfl f' o p:=by
 rw [ZMp,ZMp]
 show (if ("free":Str)="free" then (("free":Str),f')::[(("older":Str),o),(("places":Str),p)] else _)=_
 rw [if_pos rfl]
structure ZSk (g:Gs) (H:Hp) (c pl:Addr) (C:Chn) (dx f o:Addr) (ko kp:List (List Key×V)):Prop where
 ob:H c=some (.ins g.Chains dx (cfl (.ref f) (.ref o) (.ref pl)))
 hf:H f=some (.lst (C.free.map V.int))
 ho:H o=some (.dT ko)
 hp:H pl=some (.dT kp)
 ro:Z1 rKey ZV H C.older ko
 rp:Z1 rKey ZV H C.places kp
 ne:o≠pl
def ZpE (g:Gs) (H:Hp) (c pl:Addr) (C:Chn):Prop:=∃ dx f o ko kp,ZSk g H c pl C dx f o ko kp
theorem ZpE.same {g:Gs} {H H':Hp} {c pl:Addr} {C:Chn} (s:Same H H'):ZpE g H c pl C→ZpE g H' c pl C
 | ⟨dx,f,o,ko,kp,h⟩=>⟨dx,f,o,ko,kp,s _ _ h.ob,s _ _ h.hf,s _ _ h.ho,s _ _ h.hp,h.ro.same ZV.mono s,h.rp.same ZV.mono s,h.ne⟩
def But2 (a b:Addr) (H H':Hp):Prop:=∀ d o,H d=some o→d≠a→d≠b→H' d=some o
theorem But2.refl {a b:Addr} {H:Hp}:But2 a b H H:=fun _ _ e _ _=>e
theorem But2.of {a b:Addr} {H H':Hp} (s:Same H H'):But2 a b H H':=fun _ _ e _ _=>s _ _ e
theorem But2.trans {a b:Addr} {H H' H'':Hp} (s:But2 a b H H') (t:But2 a b H' H''):But2 a b H H'':=fun d o e h1 h2=>t _ _ (s _ _ e h1 h2) h1 h2
theorem But2.base {c pl:Addr} {H0 H H':Hp} (s0:Same H0 H) (h1:H0 c=none) (h2:H0 pl=none) (s:But2 c pl H H'):Same H0 H':=fun d o e=>s _ _ (s0 _ _ e) (Zf e h1) (Zf e h2)
structure ZHp (C:Chn):Prop where
 o:∀ p∈C.older,p.2≠[]
 p:∀ p∈C.places,p.2≠[]
def ZFQ (C:Chn) (n:Nat):Except Rf (Row×Chn):=if C.free.length < n then .error .noRoom else .ok (C.free.take n,{C with free:=C.free.drop n})
def putC (C:Chn) (row:Row):Except Rf (Int×Chn):=if row=[] then .ok (0,C) else match getA C.places row with
 | some ns=>.ok (ns.headD 0,C)
 | none=>match getA C.older row with
  | some ns=>.ok (ns.headD 0,{C with places:=putA C.places row ns})
  | none=>match ZFQ C ((row.length + 62) / 63) with
   | .error r=>.error r
   | .ok (ns,C')=>.ok (ns.headD 0,{C' with places:=putA C'.places row ns})
theorem ZD2 (xs:List Int) (n:Nat):cutV (xs.map V.int) none (some (n:Int))=(xs.take n).map V.int:=by
 unfold cutV
 rw [HT.sIx_none,HT.sIx_nat,List.drop_zero,Nat.sub_zero,← List.map_take,List.length_map]
 congr 1
 rcases Nat.le_total n xs.length with h | h
 ·rw [Nat.min_eq_left h]
 ·rw [Nat.min_eq_right h,List.take_length,List.take_of_length_le h]
theorem ZD4 (xs:List Int) (n:Nat):cutV (xs.map V.int) (some (n:Int)) none=(xs.drop n).map V.int:=by
 unfold cutV
 rw [HT.sIx_none,HT.sIx_nat,List.length_map,← List.map_drop,← List.map_take]
 congr 1
 rcases Nat.le_total n xs.length with h | h
 ·rw [Nat.min_eq_left h,List.take_of_length_le (by rw [List.length_drop];exact Nat.le_refl _)]
 ·rw [Nat.min_eq_right h,List.drop_length,List.drop_of_length_le h,List.take_nil]
section
variable {P:Program} {w:World} {K:PySem.W.Frag} {mg:Str→Option Value} {base:Heap} {g:Gs}
def ZKG (g:Gs):Sp:=fun vs H Q _=>∃ c dx f o,vs=[.ref c,f,o]∧H c=some (.ins g.Chains dx [])∧∀ pl H',H pl=none→(∀ b u,H b=some u→b≠c→H' b=some u)→H' c=some (.ins g.Chains dx (cfl f o (.ref pl)))→H' pl=some (.dT [])→Q .non H'
theorem Zws:Zo ["self","free","older"] ["self","free","older"] (Zj Zbo):=⟨rfl,rfl,rfl,by decide +kernel,rfl,by decide +kernel,by decide +kernel⟩
theorem ZwB (T:Tx K mg g):FnOk P w K mg base (CXE P w) 1 g.ZlY g.Zg2 ["self","free","older"] (ZKG g):=by
 refine T.ZBq.okE Zws (fun vs H Q E h=>?_) (fun cdv A outer s H vs Q E hr h=>?_)
 ·obtain ⟨c,dx,f,o,rfl,_⟩:=h
  rfl
 ·obtain ⟨c,dx,f,o,rfl,hc,q⟩:=h
  refine ⟨_,(Ze (Za3 (pv 0) (pv 1) rfl)
   (Ze (Za3 (pv 0) (pv 2) rfl)
   (Zi (Za3 (pv 0) ZHM rfl)))),?_⟩
  refine ⟨_,rfl,_,rfl,c,g.Chains,dx,[],rfl,hc,T.Zal,T.ZaP,(by show 0 < 1000;decide),?_⟩
  refine ⟨_,rfl,_,rfl,c,g.Chains,dx,_,rfl,Zb,T.Zal,T.Zbz,(by show 1 < 1000;decide),?_⟩
  refine fun pl hpl=>?_
  have ncp:c≠pl:=Zf Zb hpl
  have hpl':H pl=none:=by rw [Zd ncp.symm,Zd ncp.symm] at hpl;exact hpl
  refine ⟨_,rfl,c,g.Chains,dx,_,rfl,(by rw [Zd ncp];exact Zb),T.Zal,T.Z7,(by show 2 < 1000;decide),?_⟩
  refine q pl _ hpl' (fun b u e hb=>?_) Zb ?_
  ·rw [Zd hb,Zd (Zf e hpl'),Zd hb,Zd hb];exact e
  ·rw [Zd ncp.symm];exact Zb
def AnsC {α:Type} (g:Gs) (R:Hp→α→V→Prop) (H:Hp) (c pl:Addr) (m:Except Rf (α×Chn)) (Q:VK) (E:XK):Prop:=match m with
 | .ok (x,C)=>∀ v H',But2 c pl H H'→ZpE g H' c pl C→R H' x v→Q v H'
 | .error r=>∀ H',But2 c pl H H'→E (.ref (g.xa r)) none H'
def ZQB (g:Gs):Sp:=fun vs H Q E=>∃ c pl C,∃ n:Nat,vs=[.ref c,.int n]∧ZpE g H c pl C∧C.free.length≤1000∧AnsC g ZV H c pl (ZFQ C n) Q E
theorem Zj2:Zo ["self","many","taken"] ["self","many"] (Zj Zbn):=⟨rfl,rfl,rfl,by decide +kernel,rfl,by decide +kernel,by decide +kernel⟩
theorem ZwA (T:Tx K mg g):FnOk P w K mg base (CXE P w) 1 g.ZlX g.Zg1 ["self","many"] (ZQB g):=by
 refine T.ZBp.okE Zj2 (fun vs H Q E h=>?_) (fun cdv A outer s H vs Q E hr h=>?_)
 ·obtain ⟨c,pl,C,n,rfl,_⟩:=h
  rfl
 ·obtain ⟨c,pl,C,n,rfl,⟨dx,f,o,ko,kp,hC⟩,hz,q⟩:=h
  refine ⟨_,(Ze (Zav (ZU ZCD (pv 1) (ZB Zu (by rfl) T.Zbv PySem.boot_len (Za (ZC (pv 0) rfl) Zc)) (Zac _)) (Zi (ZaK T.ZMM rfl T.ZHS (Za ZR Zc))) ZP)
   (Ze (ZJ (i:=2) Zj2.nd rfl (Or.inl rfl) (ZaM ZhD (ZC (pv 0) rfl) ZdV (ZaL (pv 1))))
   (Ze (Za3 (pv 0) (ZaM ZhD (ZC (pv 0) rfl) (ZaL (pv 1)) ZdV) rfl)
   (Zi (Zz (ZaS ZgT rfl T.ZtJ PyProof.Rows.Boot.«tuple» (Za (pv 2) Zc))))))),?_⟩
  refine ⟨_,rfl,_,rfl,c,_,dx,_,_,rfl,hC.ob,T.Zal,T.ZaP,ZQc _ _ _,f,_,rfl,.inl (SqL.of hC.hf),_,_,rfl,rfl,_,rfl,?_⟩
  rw [List.length_map]
  unfold ZFQ at q
  by_cases h1:C.free.length < n
  ·rw [if_pos h1] at q
   rw [decide_eq_true (show (C.free.length:Int) < (n:Int) by omega)]
   exact iteT ⟨szl 1,q _ But2.refl⟩
  ·rw [if_neg h1] at q
   rw [decide_eq_false (show ¬ (C.free.length:Int) < (n:Int) by omega)]
   refine iteF ?_
   refine ⟨_,rfl,c,_,dx,_,_,rfl,hC.ob,T.Zal,T.ZaP,ZQc _ _ _,_,rfl,_,rfl,f,_,rfl,SqL.of hC.hf,fun a ha=>?_⟩
   rw [ZD2] at *
   have s1:=Zh (o:=.lst ((C.free.take n).map V.int)) ha
   refine ⟨_,rfl,c,_,dx,_,_,rfl,s1 _ _ hC.ob,T.Zal,T.ZaP,ZQc _ _ _,_,rfl,_,rfl,f,_,rfl,SqL.of (s1 _ _ hC.hf),fun b hb=>?_⟩
   rw [ZD4] at *
   have s2:=Zh (o:=.lst ((C.free.drop n).map V.int)) hb
   have sA:=s1.trans s2
   have ncb:c≠b:=Zf (s1 _ _ hC.ob) hb
   have nca:c≠a:=Zf hC.ob ha
   refine ⟨_,rfl,c,_,dx,_,rfl,sA _ _ hC.ob,T.Zal,T.ZaP,(by rw [ZMp];show 3 < 1000;decide),?_⟩
   rw [ZQb]
   refine ⟨_,rfl,a,_,rfl,.inl ⟨SqL.of (by rw [Zd nca.symm];exact s2 _ _ Zb),fun d hd=>?_⟩⟩
   have kp1:∀ x u,H x=some u→x≠c→(upd (upd (upd (upd H a (.lst ((C.free.take n).map V.int))) b (.lst ((C.free.drop n).map V.int))) c (.ins g.Chains dx (cfl (.ref b) (.ref o) (.ref pl)))) d (.tup ((C.free.take n).map V.int))) x=some u:=fun x u e hx=>by
    have h1:(upd (upd (upd H a (.lst ((C.free.take n).map V.int))) b (.lst ((C.free.drop n).map V.int))) c (.ins g.Chains dx (cfl (.ref b) (.ref o) (.ref pl)))) x=some u:=by rw [Zd hx];exact sA _ _ e
    exact Zh hd _ _ h1
   have noc:o≠c:=ZY hC.ho hC.ob (by intro z;cases z)
   have npc:pl≠c:=ZY hC.hp hC.ob (by intro z;cases z)
   have ncd:c≠d:=Zf (H:=upd (upd (upd H a (.lst ((C.free.take n).map V.int))) b (.lst ((C.free.drop n).map V.int))) c (.ins g.Chains dx (cfl (.ref b) (.ref o) (.ref pl)))) Zb hd
   have nbd:b≠d:=Zf (H:=upd (upd (upd H a (.lst ((C.free.take n).map V.int))) b (.lst ((C.free.drop n).map V.int))) c (.ins g.Chains dx (cfl (.ref b) (.ref o) (.ref pl)))) (by rw [Zd ncb.symm];exact Zb) hd
   have rows:∀ {xs:Zbf} {kv:List (List Key×V)},Z1 rKey ZV H xs kv→Z1 rKey ZV (upd (upd (upd (upd H a (.lst ((C.free.take n).map V.int))) b (.lst ((C.free.drop n).map V.int))) c (.ins g.Chains dx (cfl (.ref b) (.ref o) (.ref pl)))) d (.tup ((C.free.take n).map V.int))) xs kv:=by
    intro xs kv hh
    unfold Z1 at *
    induction hh with
    | nil=>exact .nil
    | cons a1 _ ih=>
     obtain ⟨e1,t,e2,ht⟩:=a1
     exact .cons ⟨e1,t,e2,kp1 _ _ ht (ZY ht hC.ob (by intro z;cases z))⟩ ih
   refine q _ _ (fun x u e h1 _=>kp1 x u e h1) ⟨dx,b,o,ko,kp,?_,?_,kp1 _ _ hC.ho noc,kp1 _ _ hC.hp npc,rows hC.ro,rows hC.rp,hC.ne⟩ ⟨d,rfl,Zb⟩
   ·rw [Zd ncd];exact Zb
   ·rw [Zd nbd,Zd ncb.symm];exact Zb
theorem ZDY {H:Hp} {a t:Addr} {kvs:List (List Key×V)} {row:Row} (e:H a=some (.dT kvs)) (ht:H t=some (.tup (row.map V.int))):DGet H a (.ref t) (valV kvs (rKey row)):=DGet.t e (by rw [Zuc];exact ht)
theorem ZIj {ns:Row} (h:ns≠[]):atI (ns.map V.int) 0=some (.int (ns.headD 0)):=by
 cases ns with
 | nil=>exact absurd rfl h
 | cons n r=>exact ZvQ (by decide) rfl
theorem Zex {κ α:Type} [DecidableEq κ] {k:κ} {x:α}:∀ {xs:List (κ×α)},getA xs k=some x→(k,x)∈xs
 | p::r,h=>by
  by_cases z:p.1=k
  ·rw [Za4 z] at h
   cases h
   rw [← z]
   exact List.mem_cons_self
  ·rw [Za5 z] at h
   exact List.mem_cons_of_mem _ (Zex h)
theorem len0 (row:Row):decide (V.int ((row.map V.int).length:Int)=V.int 0)=decide (row=[]):=by
 rw [List.length_map]
 cases row with
 | nil=>rfl
 | cons a r=>
  rw [decide_eq_false (by intro z;injection z with z;rw [List.length_cons] at z;omega),decide_eq_false (by intro z;cases z)]
def ZQD (g:Gs):Sp:=fun vs H Q E=>∃ c pl C row v,vs=[.ref c,v]∧ZV H row v∧ZpE g H c pl C∧ZHp C∧C.free.length≤1000∧C.places.length≤1000∧row.length≤100000∧AnsC g ZQi H c pl (putC C row) Q E
theorem Zzp:Zo ["self","row"] ["self","row"] (Zj Zce):=⟨rfl,rfl,rfl,by decide +kernel,rfl,by decide +kernel,by decide +kernel⟩
theorem Zni (T:Tx K mg g):FnOk P w K mg base (CXE P w) 2 g.Zq1 g.Zju ["self","row"] (ZQD g):=by
 refine T.ZFj.okE Zzp (fun vs H Q E h=>?_) (fun cdv A outer s H vs Q E hr h=>?_)
 ·obtain ⟨c,pl,C,row,v,rfl,_⟩:=h
  rfl
 ·obtain ⟨c,pl,C,row,v,rfl,⟨t,rfl,ht⟩,hCC,ok,hz1,hz2,hz3,q⟩:=h
  obtain ⟨dx,f,o,ko,kp,hC⟩:=id hCC
  have hu:=u1 hr.units
  refine ⟨_,(Ze (Zav (ZU Zuq (ZB Zu (by rfl) T.Zbv PySem.boot_len (Za (pv 1) Zc)) Zm (Zac _)) (Zi (Zz (ZI (v:=.int 0) rfl T.ZjD ⟨_,rfl⟩))) ZP)
   (Ze (Zav (ZdU (Zh1 hu (pv 1) (ZC (pv 0) rfl))) (Zi (Zqb hu (ZC (pv 0) rfl) (pv 1) (Zzv (ZdU (Zkc hu (pv 1) (ZC (pv 0) rfl))) (ZbM hu (ZC (pv 0) rfl) (pv 1) (fun _ _=>rfl)) (Zaf (pv 0) T.Zal T.ZAM (ZwA T) hr.dn T.ZA7 .nil Zg (Za (Zp (Zzy T) hr.dn rfl T.ZDa T.Ztc.kp T.ZEq .nil Zg (Za (ZB Zu (by rfl) T.Zbv PySem.boot_len (Za (pv 1) Zc)) Zc)) Zc))) rfl)) ZP)
   (Zi (Zz (Zaw ZaF (ZbM hu (ZC (pv 0) rfl) (pv 1) (fun _ _=>rfl)) Zm (fun _ _=>rfl)))))),?_⟩
  refine ⟨_,rfl,t,_,rfl,.inr (SqT.of ht),rfl,_,rfl,?_⟩
  rw [len0]
  unfold putC at q
  by_cases h0:row=[]
  ·rw [if_pos h0] at q
   rw [decide_eq_true h0]
   exact iteT (q _ _ But2.refl hCC rfl)
  ·rw [if_neg h0] at q
   rw [decide_eq_false h0]
   refine iteF ?_
   refine ⟨_,rfl,_,rfl,c,_,dx,_,_,rfl,hC.ob,T.Zal,T.Z7,ZMn _ _ _,pl,_,rfl,ZDY hC.hp ht,_,rfl,?_⟩
   have ntc:t≠c:=ZY ht hC.ob (by intro z;cases z)
   have ntp:t≠pl:=ZY ht hC.hp (by intro z;cases z)
   -- the end: what stands at the row is told
   cases hg:getA C.places row with
   | some ns=>
    rw [hg] at q
    obtain ⟨v,hv,⟨t2,rfl,ht2⟩⟩:=hC.rp.yes Zjz hg
    rw [hv]
    refine iteF ?_
    refine ⟨_,rfl,c,_,dx,_,_,rfl,hC.ob,T.Zal,T.Z7,ZMn _ _ _,_,rfl,pl,_,rfl,(by have:=ZDY hC.hp ht;rw [hv] at this;exact this),t2,_,_,_,rfl,rfl,SqT.of ht2,ZIj (ok.p _ (Zex hg)),?_⟩
    exact q _ _ But2.refl hCC rfl
   | none=>
    rw [hg] at q
    dsimp only at q
    rw [hC.rp.no Zjz hg]
    refine iteT ?_
    -- storing ns,and telling its first
    have fin:∀ (C':Chn) (ns:Row) (H1:Hp) (u:V),But2 c pl H H1→ZpE g H1 c pl C'→C'.places=C.places→ZV H1 ns u→ns≠[]→(∀ v H',But2 c pl H H'→ZpE g H' c pl {C' with places:=putA C'.places row ns}→v=.int (ns.headD 0)→Q v H')→
      ∃ a C0 dx0 fs0 v0,V.ref c=.ref a∧H1 a=some (.ins C0 dx0 fs0)∧Cls K C0∧ZaU K C0 "places"∧fs0.lookup ("places":Str)=some v0∧∃ a2 H4,v0=.ref a2∧DPut H1 a2 (.ref t) u H4∧
       ∃ a C0 dx0 fs0 v0,V.ref c=.ref a∧H4 a=some (.ins C0 dx0 fs0)∧Cls K C0∧ZaU K C0 "places"∧fs0.lookup ("places":Str)=some v0∧∃ a3 v3,v0=.ref a3∧DGet H4 a3 (.ref t) (some v3)∧∃ p xs i z,v3=.ref p∧V.int 0=.int i∧SqT K H4 p xs∧atI xs i=some z∧Q z H4:=by
     intro C' ns H1 u b1 hC1 ep hu1 hne qq
     obtain ⟨dx1,f1,o1,ko1,kp1,h1⟩:=id hC1
     obtain ⟨t2,rfl,ht2⟩:=hu1
     have ht1:H1 t=some (.tup (row.map V.int)):=b1 _ _ ht ntc ntp
     have hgn:getA C'.places row=none:=by rw [ep];exact hg
     have npc:c≠pl:=ZY h1.ob h1.hp (by intro z;cases z)
     have nt2:t2≠pl:=ZY ht2 h1.hp (by intro z;cases z)
     have nfp:f1≠pl:=ZY h1.hf h1.hp (by intro z;cases z)
     have k4:But2 c pl H1 (upd H1 pl (.dT (putK kp1 (rKey row) (.ref t2)))):=fun d o e _ h2=>by rw [Zd h2];exact e
     have rows:∀ {xs:Zbf} {kv:List (List Key×V)},Z1 rKey ZV H1 xs kv→Z1 rKey ZV (upd H1 pl (.dT (putK kp1 (rKey row) (.ref t2)))) xs kv:=by
      intro xs kv hh
      unfold Z1 at *
      induction hh with
      | nil=>exact .nil
      | cons a1 _ ih=>
       obtain ⟨e1,t',e2,ht'⟩:=a1
       exact .cons ⟨e1,t',e2,by rw [Zd (ZY ht' h1.hp (by intro z;cases z))];exact ht'⟩ ih
     have hC4:ZpE g (upd H1 pl (.dT (putK kp1 (rKey row) (.ref t2)))) c pl {C' with places:=putA C'.places row ns}:=⟨dx1,f1,o1,ko1,_,by rw [Zd npc];exact h1.ob,by rw [Zd nfp];exact h1.hf,by rw [Zd h1.ne];exact h1.ho,Zb,rows h1.ro,(rows h1.rp).put Zjz ⟨t2,rfl,by rw [Zd nt2];exact ht2⟩,h1.ne⟩
     refine ⟨c,_,dx1,_,_,rfl,h1.ob,T.Zal,T.Z7,ZMn _ _ _,pl,_,rfl,DPut.t (k:=rKey row) h1.hp (by rw [Zuc];exact ht1) (lt_size (by rw [h1.rp.len,ep];omega)),?_⟩
     refine ⟨c,_,dx1,_,_,rfl,(by rw [Zd npc];exact h1.ob),T.Zal,T.Z7,ZMn _ _ _,pl,.ref t2,rfl,(by
      have:=ZDY (H:=upd H1 pl (.dT (putK kp1 (rKey row) (.ref t2)))) (a:=pl) (t:=t) (row:=row) Zb (by rw [Zd ntp];exact ht1)
      rw [ZHr,if_pos rfl] at this
      exact this),t2,_,_,_,rfl,rfl,SqT.of (by rw [Zd nt2];exact ht2),ZIj hne,?_⟩
     exact qq _ _ (b1.trans k4) hC4 rfl
    refine ⟨_,rfl,_,rfl,c,_,dx,_,_,rfl,hC.ob,T.Zal,T.Zbz,ZRy _ _ _,o,_,rfl,ZDY hC.ho ht,_,rfl,?_⟩
    cases hg2:getA C.older row with
    | some ns=>
     rw [hg2] at q
     obtain ⟨v,hv,hr2⟩:=hC.ro.yes Zjz hg2
     rw [hv]
     refine iteT ?_
     refine ⟨_,rfl,c,_,dx,_,_,rfl,hC.ob,T.Zal,T.Zbz,ZRy _ _ _,_,rfl,o,v,rfl,(by have:=ZDY hC.ho ht;rw [hv] at this;exact this),?_⟩
     obtain ⟨a1,C1,dx1,fs1,v1,e1,e2,e3,e4,e5,a2,H4,e6,e7,a3,C3,dx3,fs3,v3,e8,e9,e10,e11,e12,rest⟩:=fin C ns H v But2.refl hCC rfl hr2 (ok.o _ (Zex hg2)) (fun v H' b h e=>q v H' b h e)
     refine ⟨_,rfl,a1,C1,dx1,fs1,v1,e1,e2,e3,e4,e5,_,rfl,a2,H4,e6,e7,_,rfl,a3,C3,dx3,fs3,v3,e8,e9,e10,e11,e12,_,rfl,rest⟩
    | none=>
     rw [hg2] at q
     dsimp only at q
     rw [hC.ro.no Zjz hg2]
     refine iteF ?_
     refine ⟨_,rfl,c,dx,_,rfl,hC.ob,ZMo _ _ _ (by decide +kernel) (by decide +kernel) (by decide +kernel),_,rfl,t,_,rfl,.inr (SqT.of ht),_,rfl,?_⟩
     have hbl:((((row.map V.int).length:Nat):Int) + 62) / 63=(((row.length + 62) / 63:Nat):Int):=by rw [List.length_map];omega
     rw [hbl]
     refine ⟨c,pl,C,_,rfl,hCC,hz1,?_⟩
     cases htk:ZFQ C ((row.length + 62) / 63) with
     | error r=>
      rw [htk] at q
      exact fun H' b=>q H' b
     | ok pr=>
      obtain ⟨ns,C'⟩:=pr
      rw [htk] at q
      dsimp only at q
      intro u H1 b1 hC1 hu1
      have hC':C'.places=C.places∧ns≠[]:=by
       unfold ZFQ at htk
       split at htk
       ·cases htk
       ·rename_i hlt
        cases htk
        refine ⟨rfl,fun z=>?_⟩
        have hl:(C.free.take ((row.length + 62) / 63)).length=0:=by rw [z];rfl
        rw [List.length_take] at hl
        have hrow:1≤row.length:=List.length_pos_iff.mpr h0
        omega
      obtain ⟨a1,C1,dx1,fs1,v1,e1,e2,e3,e4,e5,a2,H4,e6,e7,a3,C3,dx3,fs3,v3,e8,e9,e10,e11,e12,rest⟩:=fin C' ns H1 u b1 hC1 hC'.1 hu1 hC'.2 (fun v H' b h e=>q v H' b h e)
      refine ⟨_,rfl,a1,C1,dx1,fs1,v1,e1,e2,e3,e4,e5,_,rfl,a2,H4,e6,e7,_,rfl,a3,C3,dx3,fs3,v3,e8,e9,e10,e11,e12,_,rfl,rest⟩
end
end KS
namespace KS
open PySem L2
def Zbw (S:Sta) (n:Int):Int×Row:=match getA S.dat n with
 | some r=>(1,r)
 | none=>(2,ZcN ((getA S.ent n).getD []))
def ZMq (n:Int) (t:Int×Row) (i:Int):Row:=[n,t.1,(t.2.length:Int) / 256,(t.2.length:Int) % 256,i]
def tabF (S:Sta):List Int→Row→Chn→Except Rf (Row×Chn)
 | [],t,C=>.ok (t,C)
 | n::ns,t,C=>match putC C (Zbw S n).2 with
  | .error r=>.error r
  | .ok (i,C')=>tabF S ns (t++ZMq n (Zbw S n) i) C'
theorem ZKp (S:Sta) (t:Row) (C:Chn):tabF S [] t C=.ok (t,C):=rfl
theorem ZyI (S:Sta) (n:Int) (ns:List Int) (t:Row) (C:Chn):tabF S (n::ns) t C=match putC C (Zbw S n).2 with
  | .error r=>.error r
  | .ok (i,C')=>tabF S ns (t++ZMq n (Zbw S n) i) C':=rfl
def Zvl (S:Sta) (C:Chn):Except Rf (Row×Chn):=match tabF S (ZA S) [] C with
 | .error r=>.error r
 | .ok (t,C')=>match putC C' t with
  | .error r=>.error r
  | .ok (i,C'')=>.ok ([((ZA S).length:Int),i],C'')
structure ZbR (S:Sta):Prop where
 n:S.dat.length + S.ent.length < 64
 row:∀ n r,getA S.dat n=some r→r.length≤1000
 ent:∀ n es,getA S.ent n=some es→es.length < 64∧ZvY es
theorem ZHK {κ α:Type} [DecidableEq κ] {xs:List (κ×α)} {k:κ} {x:α} {p:κ×α} (h:p∈putA xs k x):p∈xs∨p.2=x:=by
 unfold putA at h
 split at h
 ·obtain ⟨q,hq,e⟩:=List.mem_map.mp h
  split at e
  ·right;rw [← e]
  ·left;rw [← e];exact hq
 ·rcases List.mem_append.mp h with h | h
  ·exact .inl h
  ·right;rw [List.mem_singleton.mp h]
structure ZJ8 (C C':Chn) (k:Nat):Prop where
 ok:ZHp C'
 fr:C'.free.length≤C.free.length
 pl:C'.places.length≤C.places.length + k
 old:C'.older=C.older
theorem ZGd {C C':Chn} {row:Row} {i:Int} (h:putC C row=.ok (i,C')) (ok:ZHp C):ZJ8 C C' 1:=by
 unfold putC at h
 split at h
 ·cases h;exact ⟨ok,Nat.le_refl _,Nat.le_succ _,rfl⟩
 ·rename_i h0
  split at h
  ·cases h;exact ⟨ok,Nat.le_refl _,Nat.le_succ _,rfl⟩
  ·split at h
   ·rename_i ns hg
    cases h
    refine ⟨⟨ok.o,fun p hp=>?_⟩,Nat.le_refl _,Ztz _ _ _,rfl⟩
    rcases ZHK hp with hp | hp
    ·exact ok.p p hp
    ·rw [hp];exact ok.o _ (Zex hg)
   ·split at h
    ·cases h
    ·rename_i ns C1 htk
     cases h
     unfold ZFQ at htk
     split at htk
     ·cases htk
     ·rename_i hlt
      cases htk
      refine ⟨⟨ok.o,fun p hp=>?_⟩,by show (C.free.drop _).length≤_;rw [List.length_drop];omega,Ztz _ _ _,rfl⟩
      rcases ZHK hp with hp | hp
      ·exact ok.p p hp
      ·rw [hp]
       intro z
       have hl:(C.free.take ((row.length + 62) / 63)).length=0:=by rw [z];rfl
       rw [List.length_take] at hl
       have hrow:1≤row.length:=List.length_pos_iff.mpr h0
       omega
section
variable {P:Program} {w:World} {K:PySem.W.Frag} {mg:Str→Option Value} {base:Heap} {g:Gs}
theorem ZwZ {es:Ents} (h:ZvY es) (hl:(ZdP es).length≤64):(ZcN es).length≤1000:=by
 unfold ZcN
 rw [ZAQ es h (ZdP es) fun q hq=>Zt0 es q hq]
 omega
theorem ZtD {κ α:Type} [DecidableEq κ] {k:κ}:∀ {xs:List (κ×α)},getA xs k=none→¬ k∈xs.map (·.1)
 | [],_=>by simp
 | p::r,h=>by
  by_cases z:p.1=k
  ·rw [Za4 z] at h;cases h
  ·rw [Za5 z] at h
   rw [List.map_cons]
   intro hm
   rcases List.mem_cons.mp hm with e | hm
   ·exact z e.symm
   ·exact ZtD h hm
theorem Zqt {α:Type} (es:List α) (d:α):(List.range es.length).map (fun i=>es.getD i d)=es:=by
 apply List.ext_getElem
 ·rw [List.length_map,List.length_range]
 ·intro i h1 h2
  rw [List.getElem_map,List.getElem_range,List.getD_eq_getElem?_getD,List.getElem?_eq_getElem h2]
  rfl
theorem ZIP (es:Ents):(ZdP es).Perm es:=by
 unfold ZdP
 split
 ·exact .refl _
 ·rename_i h2
  have low:Low es.length _:=ZcL (fun i j=>Ztw (es.getD i (Str.empty,0)) (es.getD j (Str.empty,0))) (ZfR (n:=es.length) (by omega))
  have p1:(Zah (fun i j=>Ztw (es.getD i (Str.empty,0)) (es.getD j (Str.empty,0))) (PySem.W.kas_sort es.length)).toList.Perm (List.range es.length):=by
   have:=low.toList
   simpa using this
  have p2:=p1.map fun i=>es.getD i (Str.empty,0)
  rw [Zqt] at p2
  exact p2
theorem ZM3 (es:Ents) (h:es.length < 64):(ZdP es).length≤64:=by
 rw [(ZIP es).length_eq]
 omega
def ZQG (g:Gs):Sp:=fun vs H Q E=>∃ v S c pl C H0,vs=[v,.ref c]∧Same H0 H∧H0 c=none∧H0 pl=none∧ZL g H0 S v∧ZbR S∧ZpE g H c pl C∧ZHp C∧C.free.length≤1000∧C.places.length≤900∧AnsC g ZV H c pl (Zvl S C) Q E
theorem Zak:Zo ["state","chains","table","number","kind","row"] ["state","chains"] (Zj ZbU):=⟨rfl,rfl,rfl,by decide +kernel,rfl,by decide +kernel,by decide +kernel⟩
theorem Znc (T:Tx K mg g):FnOk P w K mg base (CXE P w) 3 g.ZpL g.ZhB ["state","chains"] (ZQG g):=by
 refine T.Zjl.okE Zak (fun vs H Q E h=>?_) (fun cdv A outer s H vs Q E hr h=>?_)
 ·obtain ⟨v,S,c,pl,C,H0,rfl,_⟩:=h
  rfl
 ·obtain ⟨v,S,c,pl,C,H0,rfl,s0,n1,n2,hS,so,hC,ok,hz1,hz2,q⟩:=h
  have hu:=u1 hr.units
  refine ⟨_,(Ze (ZJ (i:=2) Zak.nd rfl (Or.inl rfl) (Zar Zc))
   (Ze (Zfv PassesOwn.leaving rfl (Zqd (Zp (Zke T) hr.dn rfl T.Znr T.Zg0.kp T.Zpc .nil Zg (Za (pv 0) Zc))) (Z5 (i:=3) Zak.nd rfl (Or.inl rfl)) (Ze (Zav (ZdU (Zkc hu (pv 3) (ZC (pv 0) rfl))) (Ze (ZJ (i:=4) Zak.nd rfl (Or.inl rfl) (ZI (v:=.int 1) rfl T.ZlD ⟨_,rfl⟩))
   (Zi (ZJ (i:=5) Zak.nd rfl (Or.inl rfl) (ZbM hu (ZC (pv 0) rfl) (pv 3) (fun _ _=>rfl))))) (Ze (ZJ (i:=4) Zak.nd rfl (Or.inl rfl) (ZI (v:=.int 2) rfl T.Zdh ⟨_,rfl⟩))
   (Zi (ZJ (i:=5) Zak.nd rfl (Or.inl rfl) (Zp (Zww T) hr.dn rfl T.ZAy T.ZpG.kp T.ZA3 .nil Zg (Za (ZbM hu (ZC (pv 0) rfl) (pv 3) (fun _ _=>rfl)) Zc))))))
   (Zi (ZJ (i:=2) Zak.nd rfl (Or.inl rfl) (Zt Zbt (pv 2) (Zar (Za (pv 3) (Za (pv 4) (Za (Zt ZaN (ZB Zu (by rfl) T.Zbv PySem.boot_len (Za (pv 5) Zc)) Zm) (Za (Zt ZaT (ZB Zu (by rfl) T.Zbv PySem.boot_len (Za (pv 5) Zc)) Zm) (Za (Zaf (pv 1) T.Zal T.Zsd (Zni T) hr.dn T.Zs1 .nil Zg (Za (pv 5) Zc)) Zc)))))))))))
   (Zi (Zz (Zar (Za (ZB Zu (by rfl) T.Zbv PySem.boot_len (Za (Zp (Zke T) hr.dn rfl T.Znr T.Zg0.kp T.Zpc .nil Zg (Za (pv 0) Zc)) Zc)) (Za (Zaf (pv 1) T.Zal T.Zsd (Zni T) hr.dn T.Zs1 .nil Zg (Za (pv 2) Zc)) Zc))))))),?_⟩
  refine ⟨Nat.zero_le _,fun a ha=>?_⟩
  have s1:=Zh (o:=.tup []) ha
  refine ⟨_,rfl,v,S,rfl,ZL.mono _ _ _ _ (s0.trans s1) hS,so.n,fun l H1 s2 hl=>?_⟩
  refine ⟨l,rfl,⟨_,SqL.of hl⟩,?_⟩
  have hns:(ZA S).length < 64:=by
   unfold ZA
   rw [(Zfp _).length_eq,List.length_append,List.length_map,List.length_map]
   exact so.n
  unfold Zvl at q
  generalize hnse:ZA S=ns at q hl hns
  have sB:=s1.trans s2
  refine ZtE (xs:=ns.map V.int) (fun i σ H'=>∃ t tab C',(∃ o3 o4 o5,σ=[some v,some (.ref c),some (.ref t),o3,o4,o5])∧H' t=some (.tup (tab.map V.int))∧H' l=some (.lst (ns.map V.int))∧But2 c pl H H'∧ZpE g H' c pl C'∧ZJ8 C C' i∧tab.length=5 * i∧tabF S ns [] C=tabF S (ns.drop i) tab C')
   ⟨a,[],C,⟨none,none,none,rfl⟩,s2 _ _ Zb,hl,But2.of sB,hC.same sB,⟨ok,Nat.le_refl _,Nat.le_refl _,rfl⟩,rfl,rfl⟩ (fun i σ H' _ h=>?_) (fun i x σ H' hx h=>?_) (fun σ H' h=>?_)
  ·obtain ⟨t,tab,C',_,_,hl',_⟩:=h
   exact SqL.of hl'
  ·obtain ⟨t,tab,C',⟨o3,o4,o5,rfl⟩,ht,hl',b1,hC',gr,htl,hw⟩:=h
   rw [List.getElem?_map] at hx
   cases hn:ns[i]? with
   | none=>rw [hn] at hx;cases hx
   | some n=>
    rw [hn] at hx
    cases hx
    have hi:i < ns.length:=(List.getElem?_eq_some_iff.mp hn).1
    have hdr:ns.drop i=n::ns.drop (i + 1):=by
     rw [List.drop_eq_getElem_cons hi]
     rw [(List.getElem?_eq_some_iff.mp hn).2]
    rw [hdr,ZyI] at hw
    have sB':Same H0 H':=But2.base s0 n1 n2 b1
    obtain ⟨p,dx,da,ea,dk,ek,rfl,hP⟩:=ZL.mono _ _ _ _ sB' hS
    -- behind the choice of the row
    have fin:∀ (H2:Hp) (u:V),But2 c pl H H2→Same H' H2→ZV H2 (Zbw S n).2 u→(Zbw S n).2.length≤1000→∀ (N:St→Hp→Prop),(∀ t2 tab2 C2 o3 o4 o5 H3,H3 t2=some (.tup (tab2.map V.int))→H3 l=some (.lst (ns.map V.int))→But2 c pl H H3→ZpE g H3 c pl C2→ZJ8 C C2 (i + 1)→tab2.length=5 * (i + 1)→tabF S ns [] C=tabF S (ns.drop (i + 1)) tab2 C2→N [some (.ref p),some (.ref c),some (.ref t2),o3,o4,o5] H3)→
      ∀ σ2,σ2=[some (.ref p),some (.ref c),some (.ref t),some (.int n),some (.int (Zbw S n).1),some u]→
      tAsg (tOp (ZQT K) (tVar 2) (tTup (ZeU (tVar 3) (ZeU (tVar 4) (ZeU (tOp (rI CDiv fun i j=>.int (i / j)) (tCB (fun xs H Q=>∃ p ys,xs=[V.ref p]∧(SqL K H p ys∨SqT K H p ys)∧Q (.int ys.length) H) (ZeU (tVar 5) tNil)) (tC (.int 256))) (ZeU (tOp (rI (fun _ j=>0 < j) fun i j=>.int (i % j)) (tCB (fun xs H Q=>∃ p ys,xs=[V.ref p]∧(SqL K H p ys∨SqT K H p ys)∧Q (.int ys.length) H) (ZeU (tVar 5) tNil)) (tC (.int 256))) (ZeU (ZKs g.Chains "put" (ZQD g) [] (fun _=>E) (tVar 1) (ZeU (tVar 5) tNil)) tNil))))))) (ZJP 2) {nx:=N,rt:=Q,bk:=fun _ _=>True,ct:=N} σ2 H2:=by
     intro H2 u b2 s2' hu2 hlen N hN σ2 e2
     subst e2
     obtain ⟨t5,rfl,ht5⟩:=hu2
     have hC2:=hC'.same s2'
     obtain ⟨dx2,f2,o2,ko2,kp2,h2⟩:=id hC2
     refine ⟨_,rfl,_,rfl,_,rfl,_,rfl,t5,_,rfl,.inr (SqT.of ht5),_,_,rfl,rfl,⟨by decide,by decide⟩,_,rfl,t5,_,rfl,.inr (SqT.of ht5),_,_,rfl,rfl,(by show (0:Int) < 256;decide),_,rfl,c,dx2,_,rfl,h2.ob,ZMo _ _ _ (by decide +kernel) (by decide +kernel) (by decide +kernel),_,rfl,?_⟩
     refine ⟨c,pl,C',_,_,rfl,⟨t5,rfl,ht5⟩,hC2,gr.ok,Nat.le_trans gr.fr hz1,(by have:=gr.pl;omega),by omega,?_⟩
     cases hpc:putC C' (Zbw S n).2 with
     | error r=>
      rw [hpc] at hw
      rw [hw] at q
      exact fun H3 b3=>q H3 (b2.trans b3)
     | ok pr=>
      obtain ⟨j,C2⟩:=pr
      rw [hpc] at hw
      dsimp only at hw
      intro vj H3 b3 hC3 ej
      cases ej
      have g1:=ZGd hpc gr.ok
      refine ⟨szl 5,fun e he=>?_⟩
      have s4:=Zh (o:=.tup [.int n,.int (Zbw S n).1,.int (((((Zbw S n).2.map V.int).length:Nat):Int) / 256),.int (((((Zbw S n).2.map V.int).length:Nat):Int) % 256),.int j]) he
      have ht3:H3 t=some (.tup (tab.map V.int)):=b3 _ _ (s2' _ _ ht) (ZY (s2' _ _ ht) h2.ob (by intro z;cases z)) (ZY (s2' _ _ ht) h2.hp (by intro z;cases z))
      have hl3:H3 l=some (.lst (ns.map V.int)):=b3 _ _ (s2' _ _ hl') (ZY (s2' _ _ hl') h2.ob (by intro z;cases z)) (ZY (s2' _ _ hl') h2.hp (by intro z;cases z))
      refine ⟨t,e,_,_,rfl,rfl,SqT.of (s4 _ _ ht3),SqT.of Zb,fun _=>Zb,(fun z=>nomatch z),?_,fun d H4 s5 hd=>?_⟩
      ·rw [List.length_map,htl];exact Zs (m:=1000) (by show 5 * i + 5≤1000;omega) (by decide)
      refine hN d (tab++ZMq n (Zbw S n) j) C2 _ _ _ H4 ?_ (s5 _ _ (s4 _ _ hl3)) (b2.trans (b3.trans (But2.of (s4.trans s5)))) (hC3.same (s4.trans s5)) ⟨g1.ok,Nat.le_trans g1.fr gr.fr,by have:=g1.pl;have:=gr.pl;omega,g1.old.trans gr.old⟩ ?_ hw
      ·rw [hd,List.map_append]
       unfold ZMq
       rw [List.length_map]
       rfl
      ·rw [List.length_append,htl];rfl
    refine ⟨_,rfl,_,rfl,p,_,dx,_,_,rfl,hP.ob,T.Z3,T.Z6,Zwm _ _,da,_,rfl,DGet.k hP.hd (k:=.inl n),_,rfl,?_⟩
    rw [hP.rd.some Zay]
    cases hg:getA S.dat n with
    | some r=>
     have eth:Zbw S n=(1,r):=by unfold Zbw;rw [hg]
     refine iteT ?_
     obtain ⟨vr,hv,hr1⟩:=hP.rd.yes Zay hg
     refine ⟨_,rfl,p,_,dx,_,_,rfl,hP.ob,T.Z3,T.Z6,Zwm _ _,_,rfl,da,vr,rfl,(by have:=DGet.k hP.hd (k:=.inl n);rw [hv] at this;exact this),?_⟩
     exact fin H' vr b1 (Same.refl _) (by rw [eth];exact hr1) (by rw [eth];exact so.row n r hg) _ (fun t2 tab2 C2 o3 o4 o5 H3 a1 a2 a3 a4 a5 a6 a7=>⟨t2,tab2,C2,⟨o3,o4,o5,rfl⟩,a1,a2,a3,a4,a5,a6,a7⟩) _ (by rw [eth];rfl)
    | none=>
     refine iteF ?_
     have hen:∃ es,getA S.ent n=some es:=by
      have hmem:n∈S.dat.map (·.1)++S.ent.map (·.1):=by
       have:n∈ns:=List.mem_of_getElem? hn
       rw [← hnse] at this
       exact (Zfp _).mem_iff.mp this
      rcases List.mem_append.mp hmem with hm | hm
      ·exact absurd hm (ZtD hg)
      ·cases he:getA S.ent n with
       | none=>exact absurd hm (ZtD he)
       | some es=>exact ⟨es,rfl⟩
     obtain ⟨es,he⟩:=hen
     have eth:Zbw S n=(2,ZcN es):=by unfold Zbw;rw [hg,he];rfl
     obtain ⟨ve,hv,hr1⟩:=hP.re.yes Zay he
     obtain ⟨hel,hnm⟩:=so.ent n es he
     refine ⟨_,rfl,p,_,dx,_,_,rfl,hP.ob,T.Z3,T.Zr,ZhE _ _,_,rfl,ea,ve,rfl,(by have:=DGet.k hP.he (k:=.inl n);rw [hv] at this;exact this),ve,es,rfl,hr1,hel,hnm,fun u H2 s3 hu2=>?_⟩
     exact fin H2 u (b1.trans (But2.of s3)) s3 (by rw [eth];exact hu2) (by rw [eth];exact ZwZ hnm (ZM3 es hel)) _ (fun t2 tab2 C2 o3 o4 o5 H3 a1 a2 a3 a4 a5 a6 a7=>⟨t2,tab2,C2,⟨o3,o4,o5,rfl⟩,a1,a2,a3,a4,a5,a6,a7⟩) _ (by rw [eth];rfl)
  ·obtain ⟨t,tab,C',⟨o3,o4,o5,rfl⟩,ht,hl',b1,hC',gr,htl,hw⟩:=h
   rw [List.length_map,List.drop_length,ZKp] at hw
   rw [List.length_map] at htl gr
   rw [hw] at q
   dsimp only at q
   have sB':Same H0 H':=But2.base s0 n1 n2 b1
   refine ⟨_,rfl,v,S,rfl,ZL.mono _ _ _ _ sB' hS,so.n,fun l2 H2 s3 hl2=>?_⟩
   rw [hnse] at hl2
   have hC2:=hC'.same s3
   obtain ⟨dx2,f2,o2,ko2,kp2,h2⟩:=id hC2
   refine ⟨l2,_,rfl,.inl (SqL.of hl2),_,rfl,c,dx2,_,rfl,h2.ob,ZMo _ _ _ (by decide +kernel) (by decide +kernel) (by decide +kernel),_,rfl,?_⟩
   refine ⟨c,pl,C',tab,_,rfl,⟨t,rfl,s3 _ _ ht⟩,hC2,gr.ok,Nat.le_trans gr.fr hz1,(by have:=gr.pl;omega),by omega,?_⟩
   cases hpc:putC C' tab with
   | error r=>
    rw [hpc] at q
    exact fun H3 b3=>q H3 (b1.trans ((But2.of s3).trans b3))
   | ok pr=>
    obtain ⟨j,C2⟩:=pr
    rw [hpc] at q
    dsimp only at q
    intro vj H3 b3 hC3 ej
    cases ej
    refine ⟨szl 2,fun e he=>?_⟩
    refine q _ _ (b1.trans ((But2.of s3).trans (b3.trans (But2.of (Zh he))))) (hC3.same (Zh he)) ⟨e,rfl,?_⟩
    rw [Zb,List.length_map]
    rfl
end
end KS
namespace KS
open PySem L2
structure Img where
 places:Zbf
 heads:Row
def ifl (p h:V):List (Str×V):=putF "heads" h (putF "places" p [])
theorem if1:¬ (("places":Str)="heads"):=by decide +kernel
theorem ZPW (p h:V):(ifl p h).lookup ("places":Str)=some p:=by unfold ifl;rw [Zl,if_neg if1,Zl,if_pos rfl]
theorem ZPX (p h:V):(ifl p h).lookup ("heads":Str)=some h:=by unfold ifl;rw [Zl,if_pos rfl]
def Zht (g:Gs) (H:Hp) (I:Img) (v:V):Prop:=∃ p dx pl hd,v=.ref p∧H p=some (.ins g.Image dx (ifl pl hd))∧Zfk H I.places pl∧ZV H I.heads hd
theorem Zht.mono {g:Gs}:Mono (Zht g):=fun _ _ _ _ s ⟨p,dx,pl,hd,e,h1,h2,h3⟩=>⟨p,dx,pl,hd,e,s _ _ h1,Zfk.mono _ _ _ _ s h2,ZV.mono _ _ _ _ s h3⟩
abbrev Kept:=List (Str×Sta)
def Zcj (g:Gs) (H:Hp) (k:Kept) (v:V):Prop:=∃ a kvs,v=.ref a∧H a=some (.dK kvs)∧Z1 Sum.inr (ZL g) H k kvs
theorem Zcj.mono {g:Gs}:Mono (Zcj g):=fun _ _ _ _ s ⟨a,kvs,e,h,d⟩=>⟨a,kvs,e,s _ _ h,d.same ZL.mono s⟩
def ZFW (k:Kept):List Str→Row→Chn→Except Rf (Row×Chn)
 | [],h,C=>.ok (h,C)
 | n::ns,h,C=>match getA k n with
  | none=>.error .noThing
  | some S=>match Zvl S C with
   | .error r=>.error r
   | .ok (t,C')=>ZFW k ns (h++Za9 n++t) C'
theorem ZM4 (k:Kept) (h:Row) (C:Chn):ZFW k [] h C=.ok (h,C):=rfl
theorem ZKM (k:Kept) (n:Str) (ns:List Str) (h:Row) (C:Chn):ZFW k (n::ns) h C=match getA k n with
  | none=>.error .noThing
  | some S=>match Zvl S C with
   | .error r=>.error r
   | .ok (t,C')=>ZFW k ns (h++Za9 n++t) C':=rfl
def Zgd (S:Sta) (k:Kept) (free:List Int) (older:Zbf):Except Rf Img:=match Zvl S ⟨free,older,[]⟩ with
 | .error r=>.error r
 | .ok (h,C)=>match ZFW k (Zl9 (k.map (·.1))) h C with
  | .error r=>.error r
  | .ok (h',C')=>.ok ⟨C'.places,h'⟩
theorem ZKq {S:Sta}:∀ {ns:List Int} {t t':Row} {C C':Chn},tabF S ns t C=.ok (t',C')→ZHp C→ZJ8 C C' ns.length∧t'.length=t.length + 5 * ns.length
 | [],t,t',C,C',h,ok=>by rw [ZKp] at h;cases h;exact ⟨⟨ok,Nat.le_refl _,Nat.le_refl _,rfl⟩,rfl⟩
 | n::ns,t,t',C,C',h,ok=>by
  rw [ZyI] at h
  cases hp:putC C (Zbw S n).2 with
  | error r=>rw [hp] at h;cases h
  | ok pr=>
   obtain ⟨i,C1⟩:=pr
   rw [hp] at h
   dsimp only at h
   have g1:=ZGd hp ok
   obtain ⟨g2,l2⟩:=ZKq h g1.ok
   refine ⟨⟨g2.ok,Nat.le_trans g2.fr g1.fr,?_,g2.old.trans g1.old⟩,?_⟩
   ·have:=g1.pl;have:=g2.pl;rw [List.length_cons];omega
   ·rw [l2,List.length_append,List.length_cons]
    show t.length + 5 + _=_
    omega
theorem ZHZ {S:Sta} {C C':Chn} {t:Row} (h:Zvl S C=.ok (t,C')) (ok:ZHp C) (so:ZbR S):ZJ8 C C' 64∧t.length=2:=by
 unfold Zvl at h
 cases ht:tabF S (ZA S) [] C with
 | error r=>rw [ht] at h;cases h
 | ok pr=>
  obtain ⟨t1,C1⟩:=pr
  rw [ht] at h
  dsimp only at h
  obtain ⟨g1,l1⟩:=ZKq ht ok
  cases hp:putC C1 t1 with
  | error r=>rw [hp] at h;cases h
  | ok pr=>
   obtain ⟨i,C2⟩:=pr
   rw [hp] at h
   cases h
   have g2:=ZGd hp g1.ok
   have hns:(ZA S).length < 64:=by
    unfold ZA
    rw [(Zfp _).length_eq,List.length_append,List.length_map,List.length_map]
    exact so.n
   refine ⟨⟨g2.ok,Nat.le_trans g2.fr g1.fr,?_,g2.old.trans g1.old⟩,rfl⟩
   have:=g1.pl;have:=g2.pl;omega
structure Zk7 (k:Kept):Prop where
 n:k.length≤3
 nm:∀ n S,getA k n=some S→Zcr n=true∧ZbR S
theorem Zxg (ns:List Str):(Zl9 ns).Perm ns:=by
 unfold Zl9
 split
 ·exact .refl _
 ·rename_i h2
  have low:Low ns.length _:=ZcL (fun i j=>decide ((ns.getD i Str.empty).cps.toList < (ns.getD j Str.empty).cps.toList)) (ZfR (n:=ns.length) (by omega))
  have p1:(Zah (fun i j=>decide ((ns.getD i Str.empty).cps.toList < (ns.getD j Str.empty).cps.toList)) (PySem.W.kas_sort ns.length)).toList.Perm (List.range ns.length):=by
   have:=low.toList
   simpa using this
  have p2:=p1.map fun i=>ns.getD i Str.empty
  rw [Zqt] at p2
  exact p2
theorem Z1.keysS {α:Type} {R:Hp→α→V→Prop} {H:Hp} {xs:List (Str×α)} {kvs:List (Key×V)} (h:Z1 Sum.inr R H xs kvs):kvs.map (·.1)=(xs.map (·.1)).map Sum.inr:=by
 unfold Z1 at h
 induction h with
 | nil=>rfl
 | cons a _ ih=>rw [List.map_cons,List.map_cons,List.map_cons,ih,a.1]
section
variable {P:Program} {w:World} {K:PySem.W.Frag} {mg:Str→Option Value} {base:Heap} {g:Gs}
def ZKC (g:Gs):Sp:=fun vs H Q _=>∃ p dx d e,vs=[.ref p,d,e]∧H p=some (.ins g.Image dx [])∧∀ H',(∀ b o,H b=some o→b≠p→H' b=some o)→H' p=some (.ins g.Image dx (ifl d e))→Q .non H'
theorem Zzi:Zo ["self","places","heads"] ["self","places","heads"] (Zj Zb6):=⟨rfl,rfl,rfl,by decide +kernel,rfl,by decide +kernel,by decide +kernel⟩
theorem ZzC (T:Tx K mg g):FnOk P w K mg base (CXE P w) 1 g.ZqR g.Zjd ["self","places","heads"] (ZKC g):=by
 refine T.ZFb.okE Zzi (fun vs H Q E h=>?_) (fun cdv A outer s H vs Q E hr h=>?_)
 ·obtain ⟨p,dx,d,e,rfl,_⟩:=h
  rfl
 ·obtain ⟨p,dx,d,e,rfl,hp,q⟩:=h
  refine ⟨_,(Ze (Za3 (pv 0) (pv 1) rfl)
   (Zi (Za3 (pv 0) (pv 2) rfl))),?_⟩
  refine ⟨_,rfl,_,rfl,p,g.Image,dx,[],rfl,hp,T.ZqH,T.Za0,(by show 0 < 1000;decide),?_⟩
  refine ⟨_,rfl,_,rfl,p,g.Image,dx,_,rfl,Zb,T.ZqH,T.Zdx,(by show 1 < 1000;decide),?_⟩
  refine q _ (fun b o e hb=>?_) Zb
  rw [Zd hb,Zd hb]
  exact e
def ZKD (g:Gs):Sp:=fun vs H Q E=>∃ v S kv k fv free ov older,vs=[v,kv,.ref fv,ov]∧ZL g H S v∧Zcj g H k kv∧H fv=some (.lst (free.map V.int))∧Zfk H older ov∧ZbR S∧Zk7 k∧free.length≤1000∧(∀ p∈older,p.2≠[])∧Ans g (Zht g) H (Zgd S k free older) Q E
theorem ZdQ:Zo ["state","kept","free","older","chains","heads","name"] ["state","kept","free","older"] (Zj ZdL):=⟨rfl,rfl,rfl,by decide +kernel,rfl,by decide +kernel,by decide +kernel⟩
theorem ZGi (T:Tx K mg g):FnOk P w K mg base (CXE P w) 4 g.ZAG g.Zqq ["state","kept","free","older"] (ZKD g):=by
 refine T.Zyv.okE ZdQ (fun vs H Q E h=>?_) (fun cdv A outer s H vs Q E hr h=>?_)
 ·obtain ⟨v,S,kv,k,fv,free,ov,older,rfl,_⟩:=h
  rfl
 ·obtain ⟨v,S,kv,k,fv,free,ov,older,rfl,hS,⟨ka,kvs,rfl,hka,hkd⟩,hfv,⟨oa,ko,rfl,hoa,hod⟩,so,kk,hfl,hne,q⟩:=h
  have hu:=u1 hr.units
  refine ⟨_,(Ze (ZJ (i:=4) ZdQ.nd rfl (Or.inl rfl) (Zh0 T.ZuH (ZwB T) hr.dn rfl T.ZNB T.ZA8 .nil Zg (Za (pv 2) (Za (pv 3) Zc))))
   (Ze (ZJ (i:=5) ZdQ.nd rfl (Or.inl rfl) (Zp (Znc T) hr.dn rfl T.Zrk T.Zjl.kp T.ZsV .nil Zg (Za (pv 0) (Za (pv 4) Zc))))
   (Ze (Zfv PassesOwn.leaving rfl (Zqd (ZB ZEb (by rfl) T.ZlZ PyProof.Rows.Boot.«sorted» (Za (pv 1) Zc))) (Z5 (i:=6) ZdQ.nd rfl (Or.inl rfl)) (Zi (ZJ (i:=5) ZdQ.nd rfl (Or.inl rfl) (Zt Zbt (Zt Zbt (pv 5) (Zp (Znd T) hr.dn rfl T.Zrl T.Zjn.kp T.ZsW .nil Zg (Za (pv 6) Zc))) (Zp (Znc T) hr.dn rfl T.Zrk T.Zjl.kp T.ZsV .nil Zg (Za (ZbM hu (pv 1) (pv 6) (fun _ _=>rfl)) (Za (pv 4) Zc)))))))
   (Zi (Zz (Zh0 T.ZAv (ZzC T) hr.dn rfl T.ZPK T.ZEu .nil Zg (Za (ZC (pv 4) rfl) (Za (pv 5) Zc)))))))),?_⟩
  refine ⟨_,rfl,_,rfl,fun c dx hc hdx ne=>⟨c,dx,_,_,rfl,Zb,fun pl H1 hpl kp1 hc1 hp1=>⟨rfl,?_⟩⟩⟩
  have npc:pl≠c:=fun z=>by rw [z,Zb] at hpl;cases hpl
  have hplH:H pl=none:=by
   by_cases z:pl=dx
   ·rw [z,Zd ne,Zb] at hpl;cases hpl
   ·rw [Zd npc,Zd z] at hpl;exact hpl
  have s1:Same H H1:=fun b o e=>kp1 b o (by rw [Zd (Zf e hc),Zd (Zf e hdx)];exact e) (Zf e hc)
  have hC1:ZpE g H1 c pl ⟨free,older,[]⟩:=⟨dx,fv,oa,ko,[],hc1,s1 _ _ hfv,s1 _ _ hoa,hp1,hod.same ZV.mono s1,.nil,fun z=>by rw [z,hplH] at hoa;cases hoa⟩
  have ok1:ZHp (⟨free,older,[]⟩:Chn):=⟨hne,fun p hp=>nomatch hp⟩
  unfold Zgd at q
  refine ⟨_,rfl,_,rfl,v,S,c,pl,_,H,rfl,s1,hc,hplH,hS,so,hC1,ok1,hfl,Nat.zero_le _,?_⟩
  cases hh:Zvl S ⟨free,older,[]⟩ with
  | error r=>
   rw [hh] at q
   exact fun H2 b2=>q H2 (But2.base s1 hc hplH b2)
  | ok pr=>
   obtain ⟨h0,C0⟩:=pr
   rw [hh] at q
   dsimp only at q
   obtain ⟨gr0,hl0⟩:=ZHZ hh ok1 so
   intro vh H2 b2 hC2 ⟨t0,e,ht0⟩
   subst e
   have s2:=But2.base s1 hc hplH b2
   have hnl:(k.map (·.1)).length < 64:=by rw [List.length_map];have:=kk.n;omega
   refine ⟨_,rfl,ka,kvs,k.map (·.1),rfl,.inl (s2 _ _ hka),hkd.keysS,hnl,fun l hl=>?_⟩
   refine ⟨l,rfl,⟨_,SqL.of Zb⟩,?_⟩
   have s3:=Zh (o:=.lst ((Zl9 (k.map (·.1))).map V.str)) hl
   have hsub:∀ n∈Zl9 (k.map (·.1)),n∈k.map (·.1):=fun n hn=>(Zxg _).mem_iff.mp hn
   have hlen:(Zl9 (k.map (·.1))).length≤3:=by rw [(Zxg _).length_eq,List.length_map];exact kk.n
   generalize Zl9 (k.map (·.1))=ns at q s3 hsub hlen
   refine ZtE (xs:=ns.map V.str) (fun i σ H'=>∃ t hd C',(∃ o6,σ=[some v,some (.ref ka),some (.ref fv),some (.ref oa),some (.ref c),some (.ref t),o6])∧H' t=some (.tup (hd.map V.int))∧H' l=some (.lst (ns.map V.str))∧Same H H'∧ZpE g H' c pl C'∧ZJ8 C0 C' (64 * i)∧hd.length=2 + 10 * i∧ZFW k ns h0 C0=ZFW k (ns.drop i) hd C')
    ⟨t0,h0,C0,⟨none,rfl⟩,s3 _ _ ht0,Zb,s2.trans s3,hC2.same s3,⟨gr0.ok,Nat.le_refl _,Nat.le_refl _,rfl⟩,hl0,rfl⟩ (fun i σ H' _ h=>?_) (fun i x σ H' hx h=>?_) (fun σ H' h=>?_)
   ·obtain ⟨t,hd,C',_,_,hl',_⟩:=h
    exact SqL.of hl'
   ·obtain ⟨t,hd,C',⟨o6,rfl⟩,ht,hl',sm,hC',gr,hdl,hw⟩:=h
    rw [List.getElem?_map] at hx
    cases hn:ns[i]? with
    | none=>rw [hn] at hx;cases hx
    | some n=>
     rw [hn] at hx
     cases hx
     have hi:i < ns.length:=(List.getElem?_eq_some_iff.mp hn).1
     have hdr:ns.drop i=n::ns.drop (i + 1):=by
      rw [List.drop_eq_getElem_cons hi]
      rw [(List.getElem?_eq_some_iff.mp hn).2]
     rw [hdr,ZKM] at hw
     have hgk:∃ S',getA k n=some S':=by
      cases hg:getA k n with
      | none=>exact absurd (hsub n (List.mem_of_getElem? hn)) (ZtD hg)
      | some S'=>exact ⟨S',rfl⟩
     obtain ⟨S',hg⟩:=hgk
     rw [hg] at hw
     dsimp only at hw
     obtain ⟨hnm,so'⟩:=kk.nm n S' hg
     obtain ⟨vS,hvS,hS'⟩:=hkd.yes ZPT hg
     have hncl:(Za9 n).length=8:=Zf8 (ZjC hnm).2.1
     refine ⟨_,rfl,_,rfl,n,rfl,hnm,fun u H3 s4 ⟨t2,e,ht2⟩=>?_⟩
     subst e
     refine ⟨t,t2,_,_,rfl,rfl,SqT.of (s4 _ _ ht),SqT.of ht2,fun _=>ht2,fun _ _=>s4 _ _ ht,?_,fun d H4 s5 hd4=>?_⟩
     ·rw [List.length_map,List.length_map,hncl,hdl];exact Zs (m:=1000) (by omega) (by decide)
     have s6:=sm.trans (s4.trans s5)
     have hC4:=hC'.same (s4.trans s5)
     obtain ⟨dx4,f4,o4,ko4,kp4,h4⟩:=id hC4
     refine ⟨_,rfl,_,rfl,ka,vS,rfl,(by have:=DGet.k (s6 _ _ hka) (k:=.inr n);rw [hvS] at this;exact this),_,rfl,vS,S',c,pl,C',H,rfl,s6,hc,hplH,hS',so',hC4,gr.ok,Nat.le_trans gr.fr (Nat.le_trans gr0.fr hfl),?_,?_⟩
     ·have:=gr.pl
      have h1:C0.places.length≤0 + 64:=gr0.pl
      omega
     cases hh2:Zvl S' C' with
     | error r=>
      rw [hh2] at hw
      rw [hw] at q
      exact fun H5 b5=>q H5 (But2.base s6 hc hplH b5)
     | ok pr=>
      obtain ⟨t',C''⟩:=pr
      rw [hh2] at hw
      dsimp only at hw
      obtain ⟨gr2,hl2⟩:=ZHZ hh2 gr.ok so'
      intro vt H5 b5 hC5 ⟨t3,e,ht3⟩
      subst e
      have s7:=But2.base s6 hc hplH b5
      have hd5:H5 d=some (.tup ((hd.map V.int)++(Za9 n).map V.int)):=b5 _ _ hd4 (ZY hd4 h4.ob (by intro z;cases z)) (ZY hd4 h4.hp (by intro z;cases z))
      have hl4:=s5 _ _ (s4 _ _ hl')
      have hl5:H5 l=some (.lst (ns.map V.str)):=b5 _ _ hl4 (ZY hl4 h4.ob (by intro z;cases z)) (ZY hl4 h4.hp (by intro z;cases z))
      refine ⟨d,t3,_,_,rfl,rfl,SqT.of hd5,SqT.of ht3,fun _=>ht3,fun _ _=>hd5,?_,fun d2 H6 s8 hd6=>?_⟩
      ·rw [List.length_append,List.length_map,List.length_map,List.length_map,hncl,hdl,hl2];exact Zs (m:=1000) (by omega) (by decide)
      refine ⟨d2,hd++Za9 n++t',C'',⟨_,rfl⟩,?_,s8 _ _ hl5,s7.trans s8,hC5.same s8,⟨gr2.ok,Nat.le_trans gr2.fr gr.fr,by have:=gr2.pl;have:=gr.pl;omega,gr2.old.trans gr.old⟩,?_,hw⟩
      ·rw [hd6,List.map_append,List.map_append]
      ·rw [List.length_append,List.length_append,hncl,hdl,hl2];omega
   ·obtain ⟨t,hd,C',⟨o6,rfl⟩,ht,hl',sm,hC',gr,hdl,hw⟩:=h
    rw [List.length_map,List.drop_length,ZM4] at hw
    rw [hw] at q
    dsimp only at q
    obtain ⟨dx4,f4,o4,ko4,kp4,h4⟩:=id hC'
    refine ⟨_,rfl,c,_,dx4,_,_,rfl,h4.ob,T.Zal,T.Z7,ZMn _ _ _,_,rfl,fun x dx' hx hdx' ne'=>⟨x,dx',_,_,rfl,Zb,fun H5 kp hp=>⟨rfl,?_⟩⟩⟩
    have s5:Same H' H5:=fun b o eb=>by
     have h1:b≠x:=Zf eb hx
     have h2:b≠dx':=Zf eb hdx'
     exact kp b o (by rw [Zd h1,Zd h2];exact eb) h1
    exact q _ _ (sm.trans s5) ⟨x,dx',_,_,rfl,hp,⟨pl,kp4,rfl,s5 _ _ h4.hp,h4.rp.same ZV.mono s5⟩,⟨t,rfl,s5 _ _ ht⟩⟩
end
end KS
namespace L2
open PySem PySem.Spec PyProof.Rows PySem.W
theorem ZNT {K:Frag} {a:Addr} {xs:List V} {g:TG} {tb:TS} {D:Ends} {σ:St} {H:Hp} (Pv:Nat→St→Hp→Prop) (h0:Pv 0 σ H) (hl:∀ i σ H,i≤xs.length→Pv i σ H→SqT K H a xs)
  (hs:∀ i x t σ H,xs[i]?=some x→Pv i σ H→H t=none→g (.ref t) σ (upd H t (.tup [.int (i:Nat),x])) fun σ2 H2=>tb {D with nx:=Pv (i + 1),ct:=Pv (i + 1),bk:=D.nx} σ2 H2) (hd:∀ σ H,Pv xs.length σ H→D.nx σ H) :
  ∃ W:Nat→Nat→St→Hp→Prop,(∃ m,W 0 m σ H)∧∀ i m σ H,W i m σ H→
   ((IteT K a).stop i H∧D.nx σ H)∨((IteT K a).go i H∧∃ N:St→Hp→Prop,(∀ σ' H',N σ' H'→∃ m',m' < m∧W (i + 1) m' σ' H')∧∀ x H',(IteT K a).yld i H x H'→g x σ H' fun σ2 H2=>tb {D with nx:=N,ct:=N,bk:=D.nx} σ2 H2):=by
 refine ⟨fun i m σ H=>m=xs.length - i∧i≤xs.length∧Pv i σ H,⟨xs.length,by simp,Nat.zero_le _,h0⟩,?_⟩
 rintro i m σ H ⟨rfl,hi,p⟩
 have q:=hl i σ H hi p
 by_cases hlt:i < xs.length
 ·refine .inr ⟨⟨xs,xs[i],q,by simp [hlt]⟩,Pv (i + 1),fun σ' H' p'=>⟨xs.length - (i + 1),by omega,rfl,hlt,p'⟩,fun x H' y=>?_⟩
  obtain ⟨t,z,ht,rfl,hz,rfl⟩:=y
  exact hs i z t σ _ (hz xs q) p ht
 ·have e:i=xs.length:=by omega
  subst e
  exact .inl ⟨⟨xs,q,Nat.le_refl _⟩,hd σ H p⟩
end L2
namespace KS
open PySem L2
def padF (row:Row) (n:Int):Row:=row++List.replicate (n - (row.length:Int)).toNat 0
def Zgv (row:Row):Int:=row.foldl (fun c n=>(c * 1000003 + n) % 4294967291) (row.length:Int)
def ZtI (rows:List Row):Int:=(rows.map Zgv).sum % 4294967291
def Zyd (rows:List Row):Row:=[ZtI rows / 16777216,ZtI rows / 65536 % 256,ZtI rows / 256 % 256,ZtI rows % 256]
def ZPI:Row:=[83,116,105,108]
def Zvk (I:Img) (turn:Int):Row:=padF (ZPI++[turn]++I.heads) 37
def Zn6 (I:Img) (turn:Int):Row:=padF (Zvk I turn++Zyd (Zvk I turn::I.places.map (·.1))) 64
def ZRG (H:Hp) (rows:List Row) (v:V):Prop:=∃ l vs,v=.ref l∧H l=some (.lst vs)∧Paired (fun a b=>ZV H b a) vs rows
theorem Zm8 {α β:Type} {F:α→β→Prop}:∀ {xs:List α} {ys:List β},Paired F xs ys→∀ {i:Nat} {x:α},xs[i]?=some x→∃ y,ys[i]?=some y∧F x y
 | _,_,.nil,i,x,h=>by simp at h
 | _,_,.cons a t,0,x,h=>by simp at h;subst h;exact ⟨_,rfl,a⟩
 | _,_,.cons a t,i + 1,x,h=>by obtain ⟨y,h1,h2⟩:=Zm8 t (i:=i) (by simpa using h);exact ⟨y,by simpa using h1,h2⟩
theorem ZDn {H0 H:Hp}:∀ {pl:Zbf} {kvs:List (List Key×V)},Z1 rKey ZV H0 pl kvs→∀ {bs:List Addr},bs.length=(kvs.map (·.1)).length→(∀ (i:Nat) b k,bs[i]?=some b→(kvs.map (·.1))[i]?=some k→H b=some (.tup (k.map kV)))→Paired (fun a b=>ZV H b a) (bs.map V.ref) (pl.map (·.1))
 | _,_,.nil,bs,hl,_=>by
  have:bs=[]:=List.length_eq_zero_iff.mp hl
  subst this
  exact .nil
 | q::_,p::_,.cons a t,bs,hl,h=>by
  match bs,hl,h with
  | b::bs,hl,h=>
   refine .cons ⟨b,rfl,?_⟩ (ZDn t (by simpa using hl) fun i b' k hb hk=>h (i + 1) b' k (by simpa using hb) (by simpa using hk))
   have:=h 0 b p.1 rfl rfl
   rw [a.1,Zuc] at this
   exact this
section
variable {P:Program} {w:World} {K:PySem.W.Frag} {mg:Str→Option Value} {base:Heap} {g:Gs}
def ZHC:Sp:=fun vs H Q _=>∃ row v n,vs=[v,.int n]∧ZV H row v∧row.length≤10000∧-10000≤n∧n≤10000∧∀ u H',Same H H'→ZV H' (padF row n) u→Q u H'
theorem ZKQ:Zo ["row","length"] ["row","length"] (Zj Zjx):=⟨rfl,rfl,rfl,by decide +kernel,rfl,by decide +kernel,by decide +kernel⟩
theorem ZCE (T:Tx K mg g):FnOk P w K mg base (CXE P w) 1 g.padded g.Zzw ["row","length"] ZHC:=by
 refine T.ZBn.okE ZKQ (fun vs H Q E h=>?_) (fun cdv A outer s H vs Q E hr h=>?_)
 ·obtain ⟨row,v,n,rfl,_⟩:=h
  rfl
 ·obtain ⟨row,v,n,rfl,⟨t,rfl,ht⟩,hl,hn0,hn1,q⟩:=h
  refine ⟨_,(Zi (Zz (Zt Zbt (pv 0) (Zt Zup (Zar (Za Zm Zc)) (Zt Zfx (pv 1) (ZB Zu (by rfl) T.Zbv PySem.boot_len (Za (pv 0) Zc))))))),?_⟩
  refine ⟨_,rfl,szl 1,fun b hb=>?_⟩
  have s2:=Zh (o:=.tup [.int 0]) hb
  refine ⟨_,rfl,_,rfl,t,_,rfl,.inr (SqT.of (s2 _ _ ht)),_,_,rfl,rfl,b,_,_,rfl,rfl,Zb,by simp,?_,?_,?_,fun c H2 s3 hc=>?_⟩
  ·rw [List.length_map];omega
  ·rw [List.length_map];omega
  ·rw [List.length_map];show 1 * _≤_;exact Zs (m:=20000) (by omega) (by decide)
  rw [Zf1,List.length_map] at hc
  have ht2:=s3 _ _ (s2 _ _ ht)
  refine ⟨t,c,_,_,rfl,rfl,SqT.of ht2,SqT.of hc,fun _=>hc,fun _ _=>ht2,?_,fun d H3 s4 hd=>?_⟩
  ·rw [List.length_map,List.length_replicate];exact Zs (m:=40000) (by omega) (by decide)
  refine q _ H3 (s2.trans (s3.trans s4)) ⟨d,rfl,?_⟩
  rw [hd]
  unfold padF
  rw [List.map_append,List.map_replicate]
def ZKH:Sp:=fun vs H Q _=>∃ row v,vs=[v]∧ZV H row v∧Q (.int (Zgv row)) H
theorem ZfZ:Zo ["row","check","number"] ["row"] (Zj ZdM):=⟨rfl,rfl,rfl,by decide +kernel,rfl,by decide +kernel,by decide +kernel⟩
theorem ZGj (T:Tx K mg g):FnOk P w K mg base (CXE P w) 1 g.ZA0 g.Zqx ["row"] ZKH:=by
 refine T.Zyw.okE ZfZ (fun vs H Q E h=>?_) (fun cdv A outer s H vs Q E hr h=>?_)
 ·obtain ⟨row,v,rfl,_⟩:=h
  rfl
 ·obtain ⟨row,v,rfl,⟨t,rfl,ht⟩,q⟩:=h
  refine ⟨_,(Ze (ZJ (i:=1) ZfZ.nd rfl (Or.inl rfl) (ZB Zu (by rfl) T.Zbv PySem.boot_len (Za (pv 0) Zc)))
   (Ze (Zfv PassesOwn.leaving rfl (ZOr (pv 0)) (Z5 (i:=2) ZfZ.nd rfl (Or.inl rfl)) (Zi (ZJ (i:=1) ZfZ.nd rfl (Or.inl rfl) (Zt ZaT (Zt ZcD (Zt Zm9 (pv 1) (ZI (v:=.int 1000003) rfl T.Ze6 ⟨_,rfl⟩)) (pv 2)) (ZI (v:=.int 4294967291) rfl T.ZdA ⟨_,rfl⟩)))))
   (Zi (Zz (pv 1))))),?_⟩
  refine ⟨_,rfl,t,_,rfl,.inr (SqT.of ht),?_⟩
  refine ⟨_,rfl,t,rfl,⟨_,SqT.of ht⟩,?_⟩
  refine ZLU (xs:=row.map V.int) (fun i σ H'=>H'=H∧∃ o2,σ=[some (.ref t),some (.int ((row.take i).foldl (fun c n=>(c * 1000003 + n) % 4294967291) (row.length:Int))),o2]) ⟨rfl,none,by rw [List.length_map];rfl⟩ (fun i σ H' _ h=>by rw [h.1];exact SqT.of ht) (fun i x σ H' hx h=>?_) (fun σ H' h=>?_)
  ·obtain ⟨rfl,o2,rfl⟩:=h
   rw [List.getElem?_map] at hx
   cases hn:row[i]? with
   | none=>rw [hn] at hx;cases hx
   | some n=>
    rw [hn] at hx
    cases hx
    have hi:i < row.length:=(List.getElem?_eq_some_iff.mp hn).1
    refine ⟨_,rfl,_,_,rfl,rfl,.inr ⟨by decide,by decide⟩,_,rfl,_,_,rfl,rfl,_,_,rfl,rfl,(by show (0:Int) < 4294967291;decide),?_⟩
    refine ⟨rfl,some (.int n),?_⟩
    rw [List.take_succ_eq_append_getElem hi,List.foldl_append,(List.getElem?_eq_some_iff.mp hn).2]
    rfl
  ·obtain ⟨rfl,o2,rfl⟩:=h
   rw [List.length_map,List.take_length]
   exact ⟨_,rfl,q⟩
def ZB9:Sp:=fun vs H Q _=>∃ rows v,vs=[v]∧ZRG H rows v∧rows.length≤10000∧∀ u H',Same H H'→ZV H' (Zyd rows) u→Q u H'
theorem Zj1:Zo ["rows","check"] ["rows"] (Zj ZaJ):=⟨rfl,rfl,rfl,by decide +kernel,rfl,by decide +kernel,by decide +kernel⟩
theorem Zwx (T:Tx K mg g):FnOk P w K mg base (CXE P w) 2 g.ZlJ g.Zgu ["rows"] ZB9:=by
 refine T.ZpI.okE Zj1 (fun vs H Q E h=>?_) (fun cdv A outer s H vs Q E hr h=>?_)
 ·obtain ⟨rows,v,rfl,_⟩:=h
  rfl
 ·obtain ⟨rows,v,rfl,⟨l,us,rfl,hl,hp⟩,hz,q⟩:=h
  refine ⟨_,(Ze (ZJ (i:=1) Zj1.nd rfl (Or.inl rfl) (Zt ZaT (ZB ZN9 (by rfl) T.ZOY PyProof.Rows.Boot.«sum» (Za (Zqe (own:=["row"]) (fv:=[]) (ix:=[]) (ZcO (sc:=Zj ZaJ) (N:=["rows","check"]) rfl rfl (by decide +kernel)) rfl (Zqd (pv 0)) (fun _ _ _ _ _=>Z5 (i:=0) (show (["row"]:List Str).Nodup from by decide +kernel) rfl (Or.inl rfl) (Or.inr rfl)) (fun _ _ _ _ _=>Zqc) (fun _ _ _ _ _=>(Zp (ZGj T) hr.dn rfl T.ZJJ T.Zyw.kp T.ZJ0 .nil Zh4 (Za (pv 0) Zc)))) Zc)) (ZI (v:=.int 4294967291) rfl T.ZdA ⟨_,rfl⟩)))
   (Zi (Zz (Zar (Za (Zt ZaN (pv 1) (Zt ZOz Zm Zm)) (Za (Zt ZaT (Zt ZaN (pv 1) (Zt ZOz Zm Zm)) Zm) (Za (Zt ZaT (Zt ZaN (pv 1) Zm) Zm) (Za (Zt ZaT (pv 1) Zm) Zc)))))))),?_⟩
  refine ⟨_,rfl,l,rfl,⟨_,SqL.of hl⟩,fun D hD=>?_⟩
  have hul:us.length=rows.length:=Paired.length hp
  refine Zo1 (J:=Itl K l) us.length (fun i=>some (V.int (Zgv (rows.getD i [])))) (fun i x=>us[i]?=some x) hD (by rw [hul];exact Zs hz (by decide)) (fun i H' hi s'=>⟨us,us[i],SqL.of (s' _ _ hl),List.getElem?_eq_getElem hi⟩) (fun H' s'=>⟨us,SqL.of (s' _ _ hl),Nat.le_refl _⟩) (fun i H' x H2 hi s' hy=>⟨hy.1,hy.2 us (SqL.of (s' _ _ hl))⟩) (fun i x H' N hi hx s' k=>?_) fun H' s' hH=>?_
  ·obtain ⟨row,hrow,hr1⟩:=Zm8 hp hx
   refine iteT (B:=N none H') ?_
   refine ⟨_,rfl,row,x,rfl,ZV.mono _ _ _ _ s' hr1,?_⟩
   have hk:=k H' (Same.refl _)
   rw [List.getD_eq_getElem?_getD,hrow] at hk
   exact hk
  ·have hcl:((List.range us.length).filterMap fun i=>some (V.int (Zgv (rows.getD i []))))=(rows.map Zgv).map V.int:=by
    rw [List.filterMap_eq_map',hul]
    have e1:(List.range rows.length).map (fun i=>V.int (Zgv (rows.getD i [])))=((List.range rows.length).map fun i=>rows.getD i []).map fun r=>V.int (Zgv r):=by rw [List.map_map];rfl
    show (List.range rows.length).map (fun i=>V.int (Zgv (rows.getD i [])))=_
    rw [e1,Zqt,List.map_map]
    rfl
   rw [hcl] at hH
   refine ⟨D,rows.map Zgv,rfl,SqL.of hH,_,_,rfl,rfl,(by show (0:Int) < 4294967291;decide),?_⟩
   refine ⟨_,rfl,_,_,rfl,rfl,⟨by decide,by decide,by decide⟩,_,_,rfl,rfl,⟨by decide,by decide⟩,?_⟩
   refine ⟨_,rfl,_,_,rfl,rfl,⟨by decide,by decide,by decide⟩,_,_,rfl,rfl,⟨by decide,by decide⟩,_,_,rfl,rfl,(by show (0:Int) < 256;decide),?_⟩
   refine ⟨_,rfl,_,_,rfl,rfl,⟨by decide,by decide⟩,_,_,rfl,rfl,(by show (0:Int) < 256;decide),_,rfl,_,_,rfl,rfl,(by show (0:Int) < 256;decide),szl 4,fun a ha=>?_⟩
   refine q _ _ (s'.trans (Zh ha)) ⟨a,rfl,?_⟩
   rw [Zb]
   rfl
def ZFS (g:Gs):Sp:=fun vs H Q _=>∃ I v n,vs=[v,.int n]∧Zht g H I v∧I.heads.length≤1000∧I.places.length≤2000∧∀ u H',Same H H'→ZV H' (Zn6 I n) u→Q u H'
theorem Zmf:Zo ["image","turn","row"] ["image","turn"] (Zj ZbY):=⟨rfl,rfl,rfl,by decide +kernel,rfl,by decide +kernel,by decide +kernel⟩
theorem Zzx (T:Tx K mg g):FnOk P w K mg base (CXE P w) 3 g.Zqs g.Zis ["image","turn"] (ZFS g):=by
 refine T.Ztb.okE Zmf (fun vs H Q E h=>?_) (fun cdv A outer s H vs Q E hr h=>?_)
 ·obtain ⟨I,v,n,rfl,_⟩:=h
  rfl
 ·obtain ⟨I,v,n,rfl,⟨p,dx,plv,hdv,rfl,hp,⟨pa,kvs,rfl,hpa,hpd⟩,⟨ht,rfl,hht⟩⟩,hhl,hpl,q⟩:=h
  refine ⟨_,(Ze (ZJ (i:=2) Zmf.nd rfl (Or.inl rfl) (Zp (ZCE T) hr.dn rfl T.ZHR T.ZBn.kp T.ZIi .nil Zg (Za (Zt Zbt (Zt Zbt (ZI (v:=.ref g.MARK) rfl T.ZLS rfl) (Zar (Za (pv 1) Zc))) (ZC (pv 0) rfl)) (Za (ZI (v:=.int 37) rfl T.Zgg ⟨_,rfl⟩) Zc))))
   (Zi (Zz (Zp (ZCE T) hr.dn rfl T.ZHR T.ZBn.kp T.ZIi .nil Zg (Za (Zt Zbt (pv 2) (Zp (Zwx T) hr.dn rfl T.ZAz T.ZpI.kp T.ZA4 .nil Zg (Za (Zt Zna (Zbs (Za (pv 2) Zc)) (ZaS ZGX rfl T.Zq2 PyProof.Rows.Boot.«list» (Za (ZC (pv 0) rfl) Zc))) Zc))) (Za (ZI (v:=.int 64) rfl T.Zct ⟨_,rfl⟩) Zc)))))),?_⟩
  refine ⟨_,rfl,szl 1,fun a ha=>?_⟩
  have s1:=Zh (o:=.tup [.int n]) ha
  refine ⟨g.MARK,a,_,_,rfl,rfl,T.ZQU _,SqT.of Zb,(fun z=>nomatch z),(fun z=>nomatch z),by show 4 + 1≤sizeLine;decide,fun b H2 s2 hb=>?_⟩
  have sA:=s1.trans s2
  refine ⟨_,rfl,p,_,dx,_,_,rfl,sA _ _ hp,T.ZqH,T.Zdx,ZPX _ _,b,ht,_,_,rfl,rfl,SqT.of hb,SqT.of (sA _ _ hht),(fun z=>nomatch z),fun _ _=>hb,?_,fun c H3 s3 hc=>?_⟩
  ·rw [List.length_map];exact Zs (m:=2000) (by show 5 + _≤2000;omega) (by decide)
  have hc':ZV H3 (ZPI++[n]++I.heads) (.ref c):=⟨c,rfl,by rw [hc,List.map_append];rfl⟩
  have sB:=sA.trans s3
  refine ⟨_,_,_,rfl,hc',?_,by decide,by decide,fun u H4 s4 hu4=>?_⟩
  ·rw [List.length_append];show 5 + _≤_;omega
  have hrl:(padF (ZPI++[n]++I.heads) 37).length≤2000:=by
   unfold padF
   rw [List.length_append,List.length_replicate,List.length_append]
   show 5 + _ + _≤_
   omega
  change ZV H4 (Zvk I n) u at hu4
  change (Zvk I n).length≤2000 at hrl
  obtain ⟨d,rfl,hd⟩:=hu4
  have sC:=sB.trans s4
  unfold Zn6 at q
  generalize Zvk I n=R at hd hrl q
  refine ⟨_,rfl,_,rfl,szl 1,fun e he=>?_⟩
  have s5:=Zh (o:=.lst [.ref d]) he
  have sD:=sC.trans s5
  refine ⟨_,rfl,p,_,dx,_,_,rfl,sD _ _ hp,T.ZqH,T.Za0,ZPW _ _,pa,kvs,rfl,.inl (sD _ _ hpa),fun l bs hl hk=>?_⟩
  have s6:=Zh (o:=.lst (bs.map V.ref)) hl
  refine ⟨e,l,_,_,rfl,rfl,s6 _ _ Zb,Zb,?_,fun m hm=>?_⟩
  ·rw [List.length_map,hk.1,List.length_map,hpd.len];exact Zs (m:=3000) (by show 1 + _≤3000;omega) (by decide)
  have s7:=Zh (o:=.lst ([.ref d]++bs.map V.ref)) hm
  have sE:=s5.trans (s6.trans s7)
  refine ⟨R::I.places.map (·.1),_,rfl,⟨m,_,rfl,Zb,.cons ⟨d,rfl,sE _ _ hd⟩ ?_⟩,?_,fun u H5 s8 ⟨x,e2,hx⟩=>?_⟩
  ·refine ZDn (H:=upd (upd (upd H4 e (.lst [.ref d])) l (.lst (bs.map V.ref))) m (.lst ([.ref d]++bs.map V.ref))) hpd hk.1 fun i b k hb hkk=>?_
   exact s7 _ _ (s6 _ _ (hk.2 i b k hb hkk))
  ·rw [List.length_cons,List.length_map];omega
  subst e2
  have hd5:=s8 _ _ (sE _ _ hd)
  refine ⟨d,x,_,_,rfl,rfl,SqT.of hd5,SqT.of hx,fun _=>hx,fun _ _=>hd5,?_,fun y H6 s9 hy=>?_⟩
  ·rw [List.length_map,List.length_map];exact Zs (m:=3000) (by show _ + 4≤3000;omega) (by decide)
  refine ⟨_,_,_,rfl,⟨y,rfl,by rw [hy,← List.map_append]⟩,?_,by decide,by decide,fun u H7 s10 hu7=>?_⟩
  ·rw [List.length_append];show _ + 4≤_;omega
  exact q u H7 (sC.trans (sE.trans (s8.trans (s9.trans s10)))) hu7
end
end KS
namespace KS
open PySem L2
def Zuo (row:Row) (i:Nat):Row:=(row.drop (i * 63)).take 63
def Zd2 (ns:Row):Row:=ns.drop 1++[0]
def ZGY (row ns:Row) (i:Nat):Row:=(Zd2 ns).getD i 0::(Zuo row i++List.replicate (63 - (Zuo row i).length) 0)
def Zap (row ns:Row):List Row:=(List.range (Zd2 ns).length).map (ZGY row ns)
theorem ZN8 (row:Row) (a b:Nat) (h:a≤b):cutV (row.map V.int) (some (a:Int)) (some (b:Int))=((row.drop a).take (b - a)).map V.int:=by
 unfold cutV
 rw [HT.sIx_nat,HT.sIx_nat,List.length_map,← List.map_drop,← List.map_take]
 congr 1
 rcases Nat.le_total a row.length with h1 | h1
 ·rw [Nat.min_eq_left h1]
  rcases Nat.le_total b row.length with h2 | h2
  ·rw [Nat.min_eq_left h2]
  ·rw [Nat.min_eq_right h2,List.take_of_length_le (by rw [List.length_drop];exact Nat.le_refl _),List.take_of_length_le (by rw [List.length_drop];omega)]
 ·rw [Nat.min_eq_right h1,List.drop_length,List.drop_of_length_le h1,List.take_nil,List.take_nil]
theorem ZNp (row:Row) (i:Nat):(Zuo row i).length≤63:=by unfold Zuo;rw [List.length_take];omega
theorem ZCs {H H':Hp} {vs:List V} {rows:List Row} (h:Paired (fun a b=>ZV H b a) vs rows) (k:∀ a (r:Row),H a=some (.tup (r.map V.int))→H' a=some (.tup (r.map V.int))):Paired (fun a b=>ZV H' b a) vs rows:=by
 induction h with
 | nil=>exact .nil
 | cons a _ ih=>obtain ⟨t,e,ht⟩:=a;exact .cons ⟨t,e,k _ _ ht⟩ ih
section
variable {P:Program} {w:World} {K:PySem.W.Frag} {mg:Str→Option Value} {base:Heap} {g:Gs}
def ZyM:Sp:=fun vs H Q _=>∃ row rv ns nv,vs=[rv,nv]∧ZV H row rv∧ZV H ns nv∧ns.length≤10000∧∀ l us H',Same H H'→H l=none→H' l=some (.lst us)→Paired (fun a b=>ZV H' b a) us (Zap row ns)→Q (.ref l) H'
theorem Za7:Zo ["row","numbers","blocks","place","following","part"] ["row","numbers"] (Zj ZaX):=⟨rfl,rfl,rfl,by decide +kernel,rfl,by decide +kernel,by decide +kernel⟩
theorem Zut (T:Tx K mg g):FnOk P w K mg base (CXE P w) 1 g.ZiL g.Zfa ["row","numbers"] ZyM:=by
 refine T.Zk9.okE Za7 (fun vs H Q E h=>?_) (fun cdv A outer s H vs Q E hr h=>?_)
 ·obtain ⟨row,rv,ns,nv,rfl,_⟩:=h
  rfl
 ·obtain ⟨row,rv,ns,nv,rfl,⟨ra,rfl,hra⟩,⟨na,rfl,hna⟩,hz,q⟩:=h
  refine ⟨_,(Ze (ZJ (i:=2) Za7.nd rfl (Or.inl rfl) (Zbs Zc))
   (Ze (Zfv PassesOwn.leaving rfl (ZCz rfl T.Zld (Za (Zt Zbt (ZaM ZpM (pv 1) (ZaL Zm) ZdV) (Zar (Za (ZI (v:=.int 0) rfl T.ZjD ⟨_,rfl⟩) Zc))) Zc)) (ZCA rfl (ZcT (Z5 (i:=3) Za7.nd rfl (Or.inl rfl)) (ZcT (Z5 (i:=4) Za7.nd rfl (Or.inl rfl)) Zul))) (Ze (ZJ (i:=5) Za7.nd rfl (Or.inl rfl) (ZaM ZpM (pv 0) (ZaL (Zt Zm9 (pv 3) (ZI (v:=.int 63) rfl T.ZbO ⟨_,rfl⟩))) (ZaL (Zt Zm9 (Zt ZcD (pv 3) Zm) (ZI (v:=.int 63) rfl T.ZbO ⟨_,rfl⟩)))))
   (Zi (ZW (Ztq PySem.F.plainAttrs_list PySem.F.slot_list_append PySem.F.type_list_append ZdX (pv 2) (Za (Zt Zbt (Zt Zbt (Zar (Za (pv 4) Zc)) (pv 5)) (Zt Zup (Zar (Za Zm Zc)) (Zt Zfx (ZI (v:=.int 63) rfl T.ZbO ⟨_,rfl⟩) (ZB Zu (by rfl) T.Zbv PySem.boot_len (Za (pv 5) Zc))))) Zc))))))
   (Zi (Zz (pv 2))))),?_⟩
  refine ⟨Nat.zero_le _,fun B hB=>?_⟩
  have s0:=Zh (o:=.lst []) hB
  refine ⟨_,rfl,_,rfl,na,_,rfl,s0 _ _ hna,fun c1 H1 s1 hc1=>?_⟩
  rw [show cutV (ns.map V.int) (some 1) none=(ns.drop 1).map V.int from ZD4 ns 1] at hc1
  refine ⟨szl 1,fun c2 hc2=>?_⟩
  have s2:=Zh (o:=.tup [.int 0]) hc2
  refine ⟨c1,c2,_,_,rfl,rfl,SqT.of (s2 _ _ hc1),SqT.of Zb,fun _=>Zb,(fun z=>nomatch z),?_,fun f H3 s3 hf=>?_⟩
  ·rw [List.length_map,List.length_drop];exact Zs (m:=20000) (by show _ + 1≤20000;omega) (by decide)
  have hf':H3 f=some (.tup ((Zd2 ns).map V.int)):=by rw [hf];unfold Zd2;rw [List.map_append];rfl
  have sA:=s1.trans (s2.trans s3)
  have hfl:(Zd2 ns).length≤10001:=by unfold Zd2;rw [List.length_append,List.length_drop];show _ + 1≤_;omega
  refine ⟨f,rfl,⟨_,SqT.of hf'⟩,?_⟩
  refine ZNT (xs:=(Zd2 ns).map V.int) (fun i σ H'=>∃ o3 o4 o5 us,σ=[some (.ref ra),some (.ref na),some (.ref B),o3,o4,o5]∧H' B=some (.lst us)∧Paired (fun a b=>ZV H' b a) us ((List.range i).map (ZGY row ns))∧H' f=some (.tup ((Zd2 ns).map V.int))∧Same H H')
   ⟨none,none,none,[],rfl,sA _ _ Zb,.nil,hf',s0.trans sA⟩ (fun i σ H' _ h=>?_) (fun i x t σ H' hx h ht=>?_) (fun σ H' h=>?_)
  ·obtain ⟨o3,o4,o5,us,rfl,_,_,hf',_⟩:=h
   exact SqT.of hf'
  ·obtain ⟨o3,o4,o5,us,rfl,hB',hp,hf',sm⟩:=h
   rw [List.getElem?_map] at hx
   cases hn:(Zd2 ns)[i]? with
   | none=>rw [hn] at hx;cases hx
   | some n=>
    rw [hn] at hx
    cases hx
    have hi:i < (Zd2 ns).length:=(List.getElem?_eq_some_iff.mp hn).1
    have hul:us.length=i:=by rw [Paired.length hp,List.length_map,List.length_range]
    have s4:=Zh (o:=.tup [.int (i:Nat),.int n]) ht
    refine ⟨t,_,rfl,SqT.of Zb,rfl,_,_,rfl,_,_,rfl,rfl,?_⟩
    refine ⟨_,rfl,_,rfl,_,_,rfl,rfl,.inr ⟨by decide,by decide⟩,_,rfl,_,rfl,_,_,rfl,rfl,_,_,rfl,rfl,.inr ⟨by decide,by decide⟩,_,rfl,ra,_,rfl,s4 _ _ (sm _ _ hra),fun pp H5 s5 hpp=>?_⟩
    have e1:cutV (row.map V.int) (some ((i:Int) * 63)) (some (((i:Int) + 1) * 63))=(Zuo row i).map V.int:=by
     have:=ZN8 row (i * 63) ((i + 1) * 63) (by omega)
     rw [show (((i * 63:Nat):Int))=(i:Int) * 63 by omega,show ((((i + 1) * 63:Nat):Int))=((i:Int) + 1) * 63 by omega] at this
     rw [this]
     unfold Zuo
     rw [show (i + 1) * 63 - i * 63=63 by omega]
    rw [e1] at hpp
    have hpl:=ZNp row i
    generalize hpe:Zuo row i=part at hpp hpl
    have sB:=s4.trans s5
    refine ⟨_,rfl,.inl ⟨rfl,_,SqL.of (sB _ _ hB')⟩,?_⟩
    refine ⟨_,rfl,szl 1,fun x1 hx1=>?_⟩
    have s6:=Zh (o:=.tup [.int n]) hx1
    refine ⟨_,rfl,x1,pp,_,_,rfl,rfl,SqT.of Zb,SqT.of (s6 _ _ hpp),(fun z=>nomatch z),fun _ _=>Zb,?_,fun x2 H7 s7 hx2=>?_⟩
    ·rw [List.length_map];exact Zs (m:=100) (by show 1 + _≤100;omega) (by decide)
    refine ⟨szl 1,fun x3 hx3=>?_⟩
    have s8:=Zh (o:=.tup [.int 0]) hx3
    have hpp8:=s8 _ _ (s7 _ _ (s6 _ _ hpp))
    refine ⟨_,rfl,pp,_,rfl,.inr (SqT.of hpp8),_,_,rfl,rfl,x3,_,_,rfl,rfl,Zb,by simp,?_,?_,?_,fun x4 H9 s9 hx4=>?_⟩
    ·rw [List.length_map];omega
    ·rw [List.length_map];omega
    ·rw [List.length_map];show 1 * _≤_;exact Zs (m:=100) (by omega) (by decide)
    rw [Zf1,List.length_map] at hx4
    have hx29:=s9 _ _ (s8 _ _ hx2)
    refine ⟨x2,x4,_,_,rfl,rfl,SqT.of hx29,SqT.of hx4,(fun z=>nomatch z),fun _ _=>hx29,?_,fun x5 H10 s10 hx5=>?_⟩
    ·rw [List.length_append,List.length_map,List.length_replicate];exact Zs (m:=300) (by show 1 + _ + _≤300;omega) (by decide)
    have sC:=sB.trans (s6.trans (s7.trans (s8.trans (s9.trans s10))))
    refine ⟨B,us,_,rfl,rfl,sC _ _ hB',?_,?_⟩
    ·rw [hul]
     have:(10002:Nat)≤sizeLine:=by decide
     omega
    have sD:∀ b o,H b=some o→(upd H10 B (.lst (us++[.ref x5]))) b=some o:=fun b o e=>by rw [Zd (Zf e hB)];exact sC _ _ (sm _ _ e)
    have nfB:f≠B:=ZY hf' hB' (by intro z;cases z)
    have nx5:x5≠B:=ZY hx5 (sC _ _ hB') (by intro z;cases z)
    refine ⟨_,_,_,us++[.ref x5],rfl,Zb,?_,(by rw [Zd nfB];exact sC _ _ hf'),sD⟩
    rw [List.range_succ,List.map_append]
    refine Paired.snoc ?_ ⟨x5,rfl,?_⟩
    ·refine ZCs hp fun a row' ha=>?_
     have nab:a≠B:=ZY ha hB' (by intro z;cases z)
     rw [Zd nab]
     exact sC _ _ ha
    ·rw [Zd nx5,hx5]
     unfold ZGY
     rw [hpe,List.getD_eq_getElem?_getD,hn]
     rw [List.map_cons,List.map_append,List.map_replicate]
     have e2:((63:Int) - (part.length:Int)).toNat=63 - part.length:=by omega
     rw [e2]
     rfl
  ·obtain ⟨o3,o4,o5,us,rfl,hB',hp,hf',sm⟩:=h
   rw [List.length_map] at hp
   exact ⟨_,rfl,q B us _ sm hB hB' hp⟩
end
end KS
namespace L2
open PySem PySem.Spec PyProof.Rows PySem.W
theorem ZLV {d:Addr} {ob:Obj} {kvs:List (List Key×V)} {g:TG} {tb:TS} {D:Ends} {σ:St} {H:Hp} (Pv:Nat→St→Hp→Prop) (h0:Pv 0 σ H) (hl:∀ i σ H,i≤kvs.length→Pv i σ H→H d=some (.frz ob (.dT kvs)))
  (hs:∀ i t b k v σ H,kvs[i]?=some (k,v)→H b=some (.tup (k.map kV))→H t=none→Pv i σ H→g (.ref t) σ (upd H t (.tup [.ref b,v])) fun σ2 H2=>tb {D with nx:=Pv (i + 1),ct:=Pv (i + 1),bk:=D.nx} σ2 H2) (hd:∀ σ H,Pv kvs.length σ H→D.nx σ H) :
  ∃ W:Nat→Nat→St→Hp→Prop,(∃ m,W 0 m σ H)∧∀ i m σ H,W i m σ H→
   ((Iti d ob kvs).stop i H∧D.nx σ H)∨((Iti d ob kvs).go i H∧∃ N:St→Hp→Prop,(∀ σ' H',N σ' H'→∃ m',m' < m∧W (i + 1) m' σ' H')∧∀ x H',(Iti d ob kvs).yld i H x H'→g x σ H' fun σ2 H2=>tb {D with nx:=N,ct:=N,bk:=D.nx} σ2 H2):=by
 refine ⟨fun i m σ H=>m=kvs.length - i∧i≤kvs.length∧Pv i σ H,⟨kvs.length,by simp,Nat.zero_le _,h0⟩,?_⟩
 rintro i m σ H ⟨rfl,hi,p⟩
 have q:=hl i σ H hi p
 by_cases hlt:i < kvs.length
 ·refine .inr ⟨⟨q,hlt⟩,Pv (i + 1),fun σ' H' p'=>⟨kvs.length - (i + 1),by omega,rfl,hlt,p'⟩,fun x H' y=>?_⟩
  obtain ⟨t,b,k,v,ht,rfl,hk,hb,rfl⟩:=y
  exact hs i t b k v σ _ hk hb ht p
 ·have e:i=kvs.length:=by omega
  subst e
  exact .inl ⟨⟨q,Nat.le_refl _⟩,hd σ H p⟩
theorem ZP0 {K:Frag} {a b:Addr} {xs ys:List V} {g:TG} {tb:TS} {D:Ends} {σ:St} {H:Hp} (Pv:Nat→St→Hp→Prop) (hxy:xs.length=ys.length) (h0:Pv 0 σ H) (hl:∀ i σ H,i≤xs.length→Pv i σ H→SqT K H a xs∧SqL K H b ys)
  (hs:∀ i x y t σ H,xs[i]?=some x→ys[i]?=some y→H t=none→Pv i σ H→g (.ref t) σ (upd H t (.tup [x,y])) fun σ2 H2=>tb {D with nx:=Pv (i + 1),ct:=Pv (i + 1),bk:=D.nx} σ2 H2) (hd:∀ σ H,Pv xs.length σ H→D.nx σ H) :
  ∃ W:Nat→Nat→St→Hp→Prop,(∃ m,W 0 m σ H)∧∀ i m σ H,W i m σ H→
   ((Itz K a b).stop i H∧D.nx σ H)∨((Itz K a b).go i H∧∃ N:St→Hp→Prop,(∀ σ' H',N σ' H'→∃ m',m' < m∧W (i + 1) m' σ' H')∧∀ x H',(Itz K a b).yld i H x H'→g x σ H' fun σ2 H2=>tb {D with nx:=N,ct:=N,bk:=D.nx} σ2 H2):=by
 refine ⟨fun i m σ H=>m=xs.length - i∧i≤xs.length∧Pv i σ H,⟨xs.length,by simp,Nat.zero_le _,h0⟩,?_⟩
 rintro i m σ H ⟨rfl,hi,p⟩
 obtain ⟨q1,q2⟩:=hl i σ H hi p
 by_cases hlt:i < xs.length
 ·have hlt2:i < ys.length:=by omega
  refine .inr ⟨⟨xs,ys,xs[i],ys[i],q1,q2,by simp [hlt],by simp [hlt2]⟩,Pv (i + 1),fun σ' H' p'=>⟨xs.length - (i + 1),by omega,rfl,hlt,p'⟩,fun z H' y=>?_⟩
  obtain ⟨t,x,y,ht,rfl,h1,h2,rfl⟩:=y
  exact hs i x y t σ _ (h1 xs q1) (h2 ys q2) ht p
 ·have e:i=xs.length:=by omega
  subst e
  exact .inl ⟨⟨xs,ys,q1,q2,.inl (Nat.le_refl _)⟩,hd σ H p⟩
end L2
namespace KS
open PySem L2
def Zv9 (H:Hp) (o:Option Row) (v:V):Prop:=match o with
 | none=>v=.non
 | some r=>ZV H r v
inductive LogE where
 | wr (n:Int) (b:Option Row)
 | bar
def ZE1 (H:Hp) (e:LogE) (v:V):Prop:=match e with
 | .wr n b=>∃ t u,v=.ref t∧H t=some (.tup [.str "write",.int n,u])∧Zv9 H b u
 | .bar=>∃ t,v=.ref t∧H t=some (.tup [.str "barrier"])
structure Dsk where
 blocks:List (Option Row)
 log:List LogE
structure ZSj (g:Gs) (H:Hp) (p b l:Addr) (D:Dsk) (dx:Addr) (vb vl:List V):Prop where
 ob:H p=some (.ins g.Disk dx (flds b l))
 hb:H b=some (.lst vb)
 hl:H l=some (.lst vl)
 rb:Paired (fun v o=>Zv9 H o v) vb D.blocks
 rl:Paired (fun v e=>ZE1 H e v) vl D.log
 ne:b≠l
def Zck (g:Gs) (H:Hp) (p b l:Addr) (D:Dsk):Prop:=∃ dx vb vl,ZSj g H p b l D dx vb vl
theorem Zv9.keep {H H':Hp} (k:∀ t xs,H t=some (.tup xs)→H' t=some (.tup xs)) {o:Option Row} {v:V} (h:Zv9 H o v):Zv9 H' o v:=by
 cases o with
 | none=>exact h
 | some r=>obtain ⟨t,e,ht⟩:=h;exact ⟨t,e,k _ _ ht⟩
theorem ZE1.keep {H H':Hp} (k:∀ t xs,H t=some (.tup xs)→H' t=some (.tup xs)) {e:LogE} {v:V} (h:ZE1 H e v):ZE1 H' e v:=by
 cases e with
 | wr n b=>obtain ⟨t,u,e,ht,hb⟩:=h;exact ⟨t,u,e,k _ _ ht,hb.keep k⟩
 | bar=>obtain ⟨t,e,ht⟩:=h;exact ⟨t,e,k _ _ ht⟩
theorem Zbp {α β:Type} {F G:α→β→Prop} (k:∀ a b,F a b→G a b):∀ {xs:List α} {ys:List β},Paired F xs ys→Paired G xs ys
 | _,_,.nil=>.nil
 | _,_,.cons a t=>.cons (k _ _ a) (Zbp k t)
theorem Zxw {α β:Type} {F:α→β→Prop} {a:α} {b:β} (h:F a b):∀ {xs:List α} {ys:List β} (i:Nat),Paired F xs ys→Paired F (xs.set i a) (ys.set i b)
 | _,_,_,.nil=>.nil
 | _,_,0,.cons _ t=>.cons h t
 | _,_,i + 1,.cons a' t=>.cons a' (Zxw h i t)
def ZRM (o:HO):Prop:=(∃ xs,o=.tup xs)∨(∃ xs,o=.lst xs)∨∃ C dx b l,o=.ins C dx (flds b l)
theorem Zck.keep {g:Gs} {H H':Hp} {p b l:Addr} {D:Dsk} (h:Zck g H p b l D) (k:∀ d o,H d=some o→ZRM o→H' d=some o):Zck g H' p b l D:=by
 obtain ⟨dx,vb,vl,h⟩:=h
 have kt:∀ t xs,H t=some (.tup xs)→H' t=some (.tup xs):=fun t xs e=>k _ _ e (.inl ⟨xs,rfl⟩)
 exact ⟨dx,vb,vl,k _ _ h.ob (.inr (.inr ⟨_,_,_,_,rfl⟩)),k _ _ h.hb (.inr (.inl ⟨_,rfl⟩)),k _ _ h.hl (.inr (.inl ⟨_,rfl⟩)),Zbp (fun _ _ z=>Zv9.keep kt z) h.rb,Zbp (fun _ _ z=>ZE1.keep kt z) h.rl,h.ne⟩
theorem Zck.same {g:Gs} {H H':Hp} {p b l:Addr} {D:Dsk} (s:Same H H') (h:Zck g H p b l D):Zck g H' p b l D:=h.keep fun d o e _=>s _ _ e
def Dsk.write (D:Dsk) (n:Int) (b:Option Row):Dsk:=⟨D.blocks.set n.toNat b,D.log++[.wr n b]⟩
def Dsk.barrier (D:Dsk):Dsk:=⟨D.blocks,D.log++[.bar]⟩
theorem ZyF {g:Gs} {H:Hp} {p b l:Addr} {D:Dsk} {n:Int} {blk:Option Row} {v:V} {Q:VK} {E:XK} (hD:Zck g H p b l D) (hv:Zv9 H blk v) (h0:0≤n) (h1:n < (D.blocks.length:Int)) (hz:D.log.length≤100000)
  (q:∀ H',But2 b l H H'→Zck g H' p b l (D.write n blk)→Q .non H'):ZKv g.Disk [.ref p,.int n,v] H Q E:=by
 obtain ⟨dx,vb,vl,h⟩:=hD
 have hbl:vb.length=D.blocks.length:=Paired.length h.rb
 have hll:vl.length=D.log.length:=Paired.length h.rl
 refine ⟨p,dx,b,l,vb,vl,n,v,rfl,h.ob,h.hb,h.hl,h.ne,h0,by rw [hbl];exact h1,by rw [hll];exact hz,fun t ht=>?_⟩
 have ntb:b≠t:=Zf h.hb ht
 have ntl:l≠t:=Zf h.hl ht
 have npb:p≠b:=ZY h.ob h.hb (by intro z;cases z)
 have npl:p≠l:=ZY h.ob h.hl (by intro z;cases z)
 have k:But2 b l H (upd (upd (upd H b (.lst (vb.set n.toNat v))) t (.tup [.str "write",.int n,v])) l (.lst (vl++[.ref t]))):=fun d o e hd1 hd2=>by
  rw [Zd hd2,Zd (Zf e ht),Zd hd1];exact e
 have kt:∀ d xs,H d=some (.tup xs)→(upd (upd (upd H b (.lst (vb.set n.toNat v))) t (.tup [.str "write",.int n,v])) l (.lst (vl++[.ref t]))) d=some (.tup xs):=fun d xs e=>k _ _ e (ZY e h.hb (by intro z;cases z)) (ZY e h.hl (by intro z;cases z))
 refine q _ k ⟨dx,vb.set n.toNat v,_,k _ _ h.ob npb npl,?_,Zb,?_,?_,h.ne⟩
 ·rw [Zd h.ne,Zd ntb,Zb]
 ·exact Zxw (F:=fun v o=>Zv9 _ o v) (hv.keep kt) _ (Zbp (fun _ _ z=>Zv9.keep kt z) h.rb)
 ·refine Paired.snoc (Zbp (fun _ _ z=>ZE1.keep kt z) h.rl) ⟨t,v,rfl,?_,hv.keep kt⟩
  rw [Zd ntl.symm,Zb]
theorem Zyj {g:Gs} {H:Hp} {p b l:Addr} {D:Dsk} {Q:VK} {E:XK} (hD:Zck g H p b l D) (hz:D.log.length≤100000) (q:∀ H',But2 b l H H'→Zck g H' p b l D.barrier→Q .non H'):ZQL g.Disk [.ref p] H Q E:=by
 obtain ⟨dx,vb,vl,h⟩:=hD
 have hll:vl.length=D.log.length:=Paired.length h.rl
 refine ⟨p,dx,b,l,vl,rfl,h.ob,h.hl,by rw [hll];exact hz,fun t ht=>?_⟩
 have ntl:l≠t:=Zf h.hl ht
 have npb:p≠b:=ZY h.ob h.hb (by intro z;cases z)
 have npl:p≠l:=ZY h.ob h.hl (by intro z;cases z)
 have k:∀ d o,H d=some o→d≠l→(upd (upd H t (.tup [.str "barrier"])) l (.lst (vl++[.ref t]))) d=some o:=fun d o e hd2=>by
  rw [Zd hd2,Zd (Zf e ht)];exact e
 have kt:∀ d xs,H d=some (.tup xs)→(upd (upd H t (.tup [.str "barrier"])) l (.lst (vl++[.ref t]))) d=some (.tup xs):=fun d xs e=>k _ _ e (ZY e h.hl (by intro z;cases z))
 refine q _ (fun d o e _ h2=>k d o e h2) ⟨dx,_,_,k _ _ h.ob npl,k _ _ h.hb h.ne,Zb,Zbp (fun _ _ z=>Zv9.keep kt z) h.rb,?_,h.ne⟩
 refine Paired.snoc (Zbp (fun _ _ z=>ZE1.keep kt z) h.rl) ⟨t,rfl,?_⟩
 rw [Zd ntl.symm,Zb]
def ZdI (D:Dsk):Int:=if (256:Int) < (D.blocks.length:Int) then 256 else (D.blocks.length:Int)
structure Sto where
 slot:Int
 turn:Int
 synced:Zbf
def tfl (d s t y:V):List (Str×V):=putF "synced" y (putF "turn" t (putF "slot" s (putF "disk" d [])))
theorem tf1:¬ (("disk":Str)="synced"):=by decide +kernel
theorem tf2:¬ (("disk":Str)="turn"):=by decide +kernel
theorem tf3:¬ (("disk":Str)="slot"):=by decide +kernel
theorem tf4:¬ (("slot":Str)="synced"):=by decide +kernel
theorem tf5:¬ (("slot":Str)="turn"):=by decide +kernel
theorem tf6:¬ (("turn":Str)="synced"):=by decide +kernel
theorem ZKo (d s t y:V):(tfl d s t y).lookup ("disk":Str)=some d:=by unfold tfl;rw [Zl,if_neg tf1,Zl,if_neg tf2,Zl,if_neg tf3,Zl,if_pos rfl]
theorem ZKn (d s t y:V):(tfl d s t y).lookup ("slot":Str)=some s:=by unfold tfl;rw [Zl,if_neg tf4,Zl,if_neg tf5,Zl,if_pos rfl]
theorem ZQr (d s t y:V):(tfl d s t y).lookup ("turn":Str)=some t:=by unfold tfl;rw [Zl,if_neg tf6,Zl,if_pos rfl]
theorem ZO1 (d s t y:V):(tfl d s t y).lookup ("synced":Str)=some y:=by unfold tfl;rw [Zl,if_pos rfl]
theorem ZHz (d s t y:V) {m:Str} (h1:¬ m="synced":=by decide +kernel) (h2:¬ m="turn":=by decide +kernel) (h3:¬ m="slot":=by decide +kernel) (h4:¬ m="disk":=by decide +kernel):(tfl d s t y).lookup m=none:=by
 unfold tfl
 rw [Zl,if_neg h1,Zl,if_neg h2,Zl,if_neg h3,Zl,if_neg h4]
 rfl
theorem Zl1 (d s t y:V):tfl d s t y=([("disk",d),("slot",s),("turn",t),("synced",y)]:List (Str×V)):=by
 have e1:putF "slot" s [(("disk":Str),d)]=([("disk",d),("slot",s)]:List (Str×V)):=by
  show (if ("disk":Str)="slot" then [(("disk":Str),s)] else (("disk":Str),d)::putF "slot" s [])=_
  rw [if_neg tf3];rfl
 have e2:putF "turn" t [(("disk":Str),d),(("slot":Str),s)]=([("disk",d),("slot",s),("turn",t)]:List (Str×V)):=by
  show (if ("disk":Str)="turn" then (("disk":Str),t)::[(("slot":Str),s)] else (("disk":Str),d)::(if ("slot":Str)="turn" then [(("slot":Str),t)] else (("slot":Str),s)::putF "turn" t []))=_
  rw [if_neg tf2,if_neg tf5];rfl
 have e3:putF "synced" y [(("disk":Str),d),(("slot":Str),s),(("turn":Str),t)]=([("disk",d),("slot",s),("turn",t),("synced",y)]:List (Str×V)):=by
  show (if ("disk":Str)="synced" then (("disk":Str),y)::[(("slot":Str),s),(("turn":Str),t)] else (("disk":Str),d)::(if ("slot":Str)="synced" then (("slot":Str),y)::[(("turn":Str),t)] else (("slot":Str),s)::(if ("turn":Str)="synced" then [(("turn":Str),y)] else (("turn":Str),t)::putF "synced" y [])))=_
  rw [if_neg tf1,if_neg tf4,if_neg tf6];rfl
 show putF "synced" y (putF "turn" t (putF "slot" s [(("disk":Str),d)]))=_
 rw [e1,e2,e3]
theorem ZMR (d s t y s':V):putF "slot" s' (tfl d s t y)=tfl d s' t y:=by
 rw [Zl1,Zl1]
 show (if ("disk":Str)="slot" then (("disk":Str),s')::[(("slot":Str),s),(("turn":Str),t),(("synced":Str),y)] else (("disk":Str),d)::(if ("slot":Str)="slot" then (("slot":Str),s')::[(("turn":Str),t),(("synced":Str),y)] else _))=_
 rw [if_neg tf3,if_pos rfl]
theorem ZMP (d s t y t':V):putF "turn" t' (tfl d s t y)=tfl d s t' y:=by
 rw [Zl1,Zl1]
 show (if ("disk":Str)="turn" then (("disk":Str),t')::[(("slot":Str),s),(("turn":Str),t),(("synced":Str),y)] else (("disk":Str),d)::(if ("slot":Str)="turn" then (("slot":Str),t')::[(("turn":Str),t),(("synced":Str),y)] else (("slot":Str),s)::(if ("turn":Str)="turn" then (("turn":Str),t')::[(("synced":Str),y)] else _)))=_
 rw [if_neg tf2,if_neg tf5,if_pos rfl]
theorem ZMQ (d s t y y':V):putF "synced" y' (tfl d s t y)=tfl d s t y':=by
 rw [Zl1,Zl1]
 show (if ("disk":Str)="synced" then (("disk":Str),y')::[(("slot":Str),s),(("turn":Str),t),(("synced":Str),y)] else (("disk":Str),d)::(if ("slot":Str)="synced" then (("slot":Str),y')::[(("turn":Str),t),(("synced":Str),y)] else (("slot":Str),s)::(if ("turn":Str)="synced" then (("turn":Str),y')::[(("synced":Str),y)] else (("turn":Str),t)::(if ("synced":Str)="synced" then [(("synced":Str),y')] else _))))=_
 rw [if_neg tf1,if_neg tf4,if_neg tf6,if_pos rfl]
def ZpC (g:Gs) (H:Hp) (q p:Addr) (S:Sto):Prop:=∃ dx y,H q=some (.ins g.Store dx (tfl (.ref p) (.int S.slot) (.int S.turn) y))∧Zfk H S.synced y
theorem ZpC.same {g:Gs} {H H':Hp} {q p:Addr} {S:Sto} (s:Same H H'):ZpC g H q p S→ZpC g H' q p S
 | ⟨dx,y,h1,h2⟩=>⟨dx,y,s _ _ h1,Zfk.mono _ _ _ _ s h2⟩
end KS
namespace KS
open PySem L2
theorem ZAt (b l:Addr):(flds b l).lookup ("write":Str)=none:=ZGO b l (by decide +kernel) (by decide +kernel)
theorem Zxy (b l:Addr):(flds b l).lookup ("barrier":Str)=none:=ZGO b l (by decide +kernel) (by decide +kernel)
def ZcU (T:Sto) (D:Dsk) (S:Sta) (k:Kept):Except Rf Img:=Zgd S k (Zcu (ZdI D) T.synced) T.synced
theorem ZDT (n:Int) (pl:Zbf) (h:n≤256):(Zcu n pl).length≤256:=by
 unfold Zcu
 refine Nat.le_trans (List.length_filterMap_le _ _) ?_
 rw [List.length_range]
 omega
structure ZBk (pl:Zbf):Prop where
 n:pl.length≤1000
 ne:∀ p∈pl,p.2≠[]
 fl:(pl.map (·.2)).flatten.length≤100000
theorem Zcn (f:Str) (v:V):∀ fs:List (Str×V),(putF f v fs).length≤fs.length + 1
  | []=>Nat.le_refl _
  | (k,x)::r=>by
    show (if k=f then (k,v)::r else (k,x)::putF f v r).length≤r.length + 1 + 1
    split
    · exact Nat.le_succ _
    · exact Nat.succ_le_succ (Zcn f v r)
section
variable {P:Program} {w:World} {K:PySem.W.Frag} {mg:Str→Option Value} {base:Heap} {g:Gs}
def ZIO (g:Gs):Sp:=fun vs H Q _=>∃ p b l D,vs=[.ref p]∧Zck g H p b l D∧Q (.int (ZdI D)) H
theorem Zwp:Zo ["disk"] ["disk"] (Zj Zbk):=⟨rfl,rfl,rfl,by decide +kernel,rfl,by decide +kernel,by decide +kernel⟩
theorem Zwy (T:Tx K mg g):FnOk P w K mg base (CXE P w) 1 g.ZlO g.ZgU ["disk"] (ZIO g):=by
 refine T.ZpJ.okE Zwp (fun vs H Q E h=>?_) (fun cdv A outer s H vs Q E hr h=>?_)
 ·obtain ⟨p,b,l,D,rfl,_⟩:=h
  rfl
 ·obtain ⟨p,b,l,D,rfl,⟨dx,vb,vl,hD⟩,q⟩:=h
  refine ⟨_,(Zi (Zz (ZB (ZEc rfl) (by rfl) T.ZMK PyProof.Rows.Boot.«min» (Za (ZB Zu (by rfl) T.Zbv PySem.boot_len (Za (ZC (pv 0) rfl) Zc)) (Za (ZI (v:=.int 256) rfl T.Zdz ⟨_,rfl⟩) Zc))))),?_⟩
  refine ⟨_,rfl,p,_,dx,_,_,rfl,hD.ob,T.ZiZ,T.Zcp,ZOH _ _,b,_,rfl,.inl (SqL.of hD.hb),_,_,rfl,?_⟩
  rw [Paired.length hD.rb]
  exact q
def ZKx (g:Gs):Sp:=fun vs H Q _=>∃ q dx d s t y,vs=[.ref q,d,s,t,y]∧H q=some (.ins g.Store dx [])∧∀ H',(∀ b o,H b=some o→b≠q→H' b=some o)→H' q=some (.ins g.Store dx (tfl d s t y))→Q .non H'
theorem Zzg:Zo ["self","disk","slot","turn","synced"] ["self","disk","slot","turn","synced"] (Zj Zb4):=⟨rfl,rfl,rfl,by decide +kernel,rfl,by decide +kernel,by decide +kernel⟩
theorem ZzB (T:Tx K mg g):FnOk P w K mg base (CXE P w) 1 g.ZqN g.Zja ["self","disk","slot","turn","synced"] (ZKx g):=by
 refine T.ZE9.okE Zzg (fun vs H Q E h=>?_) (fun cdv A outer s H vs Q E hr h=>?_)
 ·obtain ⟨q0,dx,d,s0,t,y,rfl,_⟩:=h
  rfl
 ·obtain ⟨q0,dx,d,s0,t,y,rfl,hq,q⟩:=h
  refine ⟨_,(Ze (Za3 (pv 0) (pv 1) rfl)
   (Ze (Za3 (pv 0) (pv 2) rfl)
   (Ze (Za3 (pv 0) (pv 3) rfl)
   (Zi (Za3 (pv 0) (pv 4) rfl))))),?_⟩
  refine ⟨_,rfl,_,rfl,q0,g.Store,dx,[],rfl,hq,T.Zai,T.ZaD,(by show 0 < 1000;decide),?_⟩
  refine ⟨_,rfl,_,rfl,q0,g.Store,dx,_,rfl,Zb,T.Zai,T.Zcg,(by show 1 < 1000;decide),?_⟩
  refine ⟨_,rfl,_,rfl,q0,g.Store,dx,_,rfl,Zb,T.Zai,T.Zcf,?_,?_⟩
  ·exact Nat.lt_of_le_of_lt (Zcn _ _ _) (Nat.lt_of_le_of_lt (Nat.succ_le_succ (Zcn _ _ _)) (by show 2 < 1000;decide))
  refine ⟨_,rfl,_,rfl,q0,g.Store,dx,_,rfl,Zb,T.Zai,T.Zan,?_,?_⟩
  ·exact Nat.lt_of_le_of_lt (Zcn _ _ _) (Nat.lt_of_le_of_lt (Nat.succ_le_succ (Zcn _ _ _)) (Nat.lt_of_le_of_lt (Nat.succ_le_succ (Nat.succ_le_succ (Zcn _ _ _))) (by show 3 < 1000;decide)))
  refine q _ (fun b o e hb=>?_) Zb
  rw [Zd hb,Zd hb,Zd hb,Zd hb]
  exact e
def ZIL (g:Gs):Sp:=fun vs H Q E=>∃ q p b l T D v S kv k,vs=[.ref q,v,kv]∧ZpC g H q p T∧Zck g H p b l D∧ZL g H S v∧Zcj g H k kv∧ZbR S∧Zk7 k∧ZBk T.synced∧Ans g (Zht g) H (ZcU T D S k) Q E
theorem Zel:Zo ["self","state","kept","free"] ["self","state","kept"] (Zj Zae):=⟨rfl,rfl,rfl,by decide +kernel,rfl,by decide +kernel,by decide +kernel⟩
theorem Zer (T:Tx K mg g):FnOk P w K mg base (CXE P w) 5 g.Zef g.ZcR ["self","state","kept"] (ZIL g):=by
 refine T.ZqZ.okE Zel (fun vs H Q E h=>?_) (fun cdv A outer s H vs Q E hr h=>?_)
 ·obtain ⟨q0,p,b,l,T0,D,v,S,kv,k,rfl,_⟩:=h
  rfl
 ·obtain ⟨q0,p,b,l,T0,D,v,S,kv,k,rfl,⟨dx,y,hq,hy⟩,hD,hS,hk,so,kk,po,q⟩:=h
  refine ⟨_,(Ze (ZJ (i:=3) Zel.nd rfl (Or.inl rfl) (Zp (Zus T) hr.dn rfl T.ZwV T.Zk8.kp T.Zw0 .nil Zg (Za (Zp (Zwy T) hr.dn rfl T.ZAA T.ZpJ.kp T.ZA5 .nil Zg (Za (ZC (pv 0) rfl) Zc)) (Za (ZC (pv 0) rfl) Zc))))
   (Zi (Zz (Zp (ZGi T) hr.dn rfl T.ZJI T.Zyv.kp T.ZJZ .nil Zg (Za (pv 1) (Za (pv 2) (Za (pv 3) (Za (ZC (pv 0) rfl) Zc)))))))),?_⟩
  obtain ⟨ya,ky,rfl,hya,hyd⟩:=id hy
  refine ⟨_,rfl,q0,_,dx,_,_,rfl,hq,T.Zai,T.ZaD,ZKo _ _ _ _,p,b,l,D,rfl,hD,_,rfl,q0,_,dx,_,_,rfl,hq,T.Zai,T.Zan,ZO1 _ _ _ _,?_⟩
  have hc0:0≤ZdI D:=by unfold ZdI;split <;> omega
  have hc1:ZdI D≤256:=by unfold ZdI;split <;> omega
  refine ⟨_,_,T0.synced,rfl,hy,hc0,hc1,po.n,po.fl,fun f H1 s1 hf=>?_⟩
  refine ⟨_,rfl,_,rfl,_,rfl,_,rfl,q0,_,dx,_,_,rfl,s1 _ _ hq,T.Zai,T.Zan,ZO1 _ _ _ _,?_⟩
  refine ⟨v,S,kv,k,f,_,_,T0.synced,rfl,ZL.mono _ _ _ _ s1 hS,Zcj.mono _ _ _ _ s1 hk,hf,Zfk.mono _ _ _ _ s1 hy,so,kk,Nat.le_trans (ZDT _ _ hc1) (by decide),po.ne,?_⟩
  unfold ZcU at q
  cases hm:Zgd S k (Zcu (ZdI D) T0.synced) T0.synced with
  | error r=>rw [hm] at q;exact fun H' s'=>q H' (s1.trans s')
  | ok I=>rw [hm] at q;exact fun v' H' s' h'=>q v' H' (s1.trans s') h'
end
end KS
namespace KS
open PySem L2
def ZBV (D:Dsk) (p:Int×Row):Dsk:=D.write p.1 (some p.2)
def ZKe (D:Dsk) (row ns:Row):Dsk:=(ns.zip (Zap row ns)).foldl ZBV D
def Zep (syn:Zbf) (D:Dsk) (p:Row×Row):Dsk:=if (getA syn p.1).isSome then D else ZKe D p.1 p.2
def Zzq (T:Sto) (D:Dsk) (I:Img):Sto×Dsk:=
 (⟨1 - T.slot,(T.turn + 1) % 256,I.places⟩,((((I.places.foldl (Zep T.synced) D).barrier).write (1 - T.slot) (some (Zn6 I ((T.turn + 1) % 256)))).barrier))
theorem ZiM {row ns:Row} (h:ns≠[]):(Zap row ns).length=ns.length:=by
 unfold Zap Zd2
 rw [List.length_map,List.length_range,List.length_append,List.length_drop]
 have:0 < ns.length:=List.length_pos_iff.mpr h
 show ns.length - 1 + 1=ns.length
 omega
theorem ZKd:∀ (ps:List (Int×Row)) (D:Dsk),(ps.foldl ZBV D).blocks.length=D.blocks.length∧(ps.foldl ZBV D).log.length=D.log.length + ps.length
 | [],D=>⟨rfl,rfl⟩
 | p::ps,D=>by
  obtain ⟨h1,h2⟩:=ZKd ps (ZBV D p)
  rw [List.foldl_cons]
  refine ⟨h1.trans (List.length_set ..),h2.trans ?_⟩
  show (D.log++[LogE.wr p.1 (some p.2)]).length + ps.length=_
  simp only [List.length_append,List.length_cons,List.length_nil]
  omega
theorem ZHL (syn:Zbf):∀ (pl:Zbf) (D:Dsk),(∀ p∈pl,p.2≠[])→(pl.foldl (Zep syn) D).blocks.length=D.blocks.length∧(pl.foldl (Zep syn) D).log.length≤D.log.length + (pl.map (·.2)).flatten.length
 | [],D,_=>⟨rfl,Nat.le_refl _⟩
 | p::pl,D,h=>by
  obtain ⟨h1,h2⟩:=ZHL syn pl (Zep syn D p) fun q hq=>h q (List.mem_cons_of_mem _ hq)
  have hs:(Zep syn D p).blocks.length=D.blocks.length∧(Zep syn D p).log.length≤D.log.length + p.2.length:=by
   unfold Zep
   split
   ·exact ⟨rfl,Nat.le_add_right _ _⟩
   ·unfold ZKe
    obtain ⟨a1,a2⟩:=ZKd (p.2.zip (Zap p.1 p.2)) D
    refine ⟨a1,?_⟩
    rw [a2,List.length_zip,ZiM (h p List.mem_cons_self),Nat.min_self]
    exact Nat.le_refl _
  rw [List.foldl_cons,List.map_cons,List.flatten_cons,List.length_append]
  refine ⟨h1.trans hs.1,?_⟩
  omega
theorem ZxU {α β:Type} (f:β→α→β) (b:β) (xs:List α) {i:Nat} {x:α} (h:xs[i]?=some x):(xs.take (i + 1)).foldl f b=f ((xs.take i).foldl f b) x:=by
 have hi:i < xs.length:=(List.getElem?_eq_some_iff.mp h).1
 rw [List.take_succ_eq_append_getElem hi,List.foldl_append,(List.getElem?_eq_some_iff.mp h).2]
 rfl
theorem ZP8 {H:Hp} {a t:Addr} {kvs:List (List Key×V)} {row:Row} (e:Rd H a (.dT kvs)) (ht:H t=some (.tup (row.map V.int))):DGet H a (.ref t) (valV kvs (rKey row)):=.inr ⟨kvs,rKey row,t,e,rfl,by rw [Zuc];exact ht,rfl⟩
theorem ZDZ {H:Hp}:∀ {pl:Zbf} {kvs:List (List Key×V)},Z1 rKey ZV H pl kvs→∀ {i:Nat} {k:List Key} {v:V},kvs[i]?=some (k,v)→∃ row ns,pl[i]?=some (row,ns)∧k=rKey row∧ZV H ns v
 | _,_,.nil,i,k,v,h=>by simp at h
 | q::_,p::_,.cons a t,0,k,v,h=>by
  simp at h
  obtain ⟨a1,a2⟩:=a
  rw [h] at a1 a2
  exact ⟨q.1,q.2,rfl,a1,a2⟩
 | _,_,.cons a t,i + 1,k,v,h=>by
  obtain ⟨row,ns,h1,h2,h3⟩:=ZDZ t (i:=i) (by simpa using h)
  exact ⟨row,ns,by simpa using h1,h2,h3⟩
theorem ZIb {H H':Hp} (k:∀ d xs,H d=some (.tup xs)→H' d=some (.tup xs)) {pl:Zbf} {kvs:List (List Key×V)} (h:Z1 rKey ZV H pl kvs):Z1 rKey ZV H' pl kvs:=by
 unfold Z1 at *
 induction h with
 | nil=>exact .nil
 | cons a _ ih=>obtain ⟨e1,t,e2,ht⟩:=a;exact .cons ⟨e1,t,e2,k _ _ ht⟩ ih
structure ZQj (D:Dsk) (I:Img):Prop where
 n:I.places.length≤1000
 h:I.heads.length≤1000
 ne:∀ p∈I.places,p.2≠[]∧p.2.length≤1000∧∀ n∈p.2,0≤n∧n < (D.blocks.length:Int)
 fl:(I.places.map (·.2)).flatten.length≤50000
section
variable {P:Program} {w:World} {K:PySem.W.Frag} {mg:Str→Option Value} {base:Heap} {g:Gs}
def ZQC (g:Gs):Sp:=fun vs H Q _=>∃ q p b l T D v I,vs=[.ref q,v]∧ZpC g H q p T∧Zck g H p b l D∧Zht g H I v∧ZQj D I∧(T.slot=0∨T.slot=1)∧2≤D.blocks.length∧D.log.length≤40000∧
 ∀ H',(∀ d o,H d=some o→d≠b→d≠l→d≠q→H' d=some o)→ZpC g H' q p (Zzq T D I).1→Zck g H' p b l (Zzq T D I).2→Q .non H'
theorem Zcm:Zo ["self","image","row","numbers","number","block"] ["self","image"] (Zj Zb3):=⟨rfl,rfl,rfl,by decide +kernel,rfl,by decide +kernel,by decide +kernel⟩
theorem ZzA (T:Tx K mg g):FnOk P w K mg base (CXE P w) 8 g.ZqM g.Zi9 ["self","image"] (ZQC g):=by
 refine T.ZE8.okE Zcm (fun vs H Q E h=>?_) (fun cdv A outer s H vs Q E hr h=>?_)
 ·obtain ⟨q0,p,b,l,T0,D,v,I,rfl,_⟩:=h
  rfl
 ·obtain ⟨q0,p,b,l,T0,D,v,I,rfl,⟨dxs,y,hq,hy⟩,hD,⟨pi,dxi,plv,hdv,rfl,hpi,⟨pa,kvs,rfl,hpa,hpd⟩,hhd⟩,io,hslot,hb2,hlog,q⟩:=h
  obtain ⟨ya,ky,rfl,hya,hyd⟩:=id hy
  have hu:=u1 hr.units
  obtain ⟨dxd,vb,vl,hDD⟩:=id hD
  refine ⟨_,(Ze (ZGe (Zfv PassesOwn.leaving rfl (ZNh (ZCB PySem.F.plainAttrs_dict PySem.F.slot_dict_items PySem.F.type_dict_items ZC7 (ZC (pv 1) rfl))) (ZCA rfl (ZcT (Z5 (i:=2) Zcm.nd rfl (Or.inl rfl)) (ZcT (Z5 (i:=3) Zcm.nd rfl (Or.inl rfl)) Zul))) (Zi (Zav (ZdU (Zh1 hu (pv 2) (ZC (pv 0) rfl))) (Zi (Zfv PassesOwn.leaving rfl (ZQW rfl T.ZOX (Za (pv 3) (Za (Zp (Zut T) hr.dn rfl T.ZwW T.Zk9.kp T.Zw1 .nil Zg (Za (pv 2) (Za (pv 3) Zc))) Zc))) (ZCA rfl (ZcT (Z5 (i:=4) Zcm.nd rfl (Or.inl rfl)) (ZcT (Z5 (i:=5) Zcm.nd rfl (Or.inl rfl)) Zul))) (Zi (ZW (Zaf (ZC (pv 0) rfl) T.ZiZ T.Ziu (Zf6 T) hr.dn T.Zi3 .nil Zg (Za (pv 4) (Za (pv 5) Zc))))))) ZP))))
   (Ze (ZW (ZjA (ZC (pv 0) rfl) T.ZiZ T.Zky (Zh7 T) hr.dn T.ZkX .nil Zg))
   (Ze (Za3 (pv 0) (Zt Zfx Zm (ZC (pv 0) rfl)) rfl)
   (Ze (Za3 (pv 0) (Zt ZaT (Zt ZcD (ZC (pv 0) rfl) Zm) (ZI (v:=.int 256) rfl T.ZAO ⟨_,rfl⟩)) rfl)
   (Ze (ZW (Zaf (ZC (pv 0) rfl) T.ZiZ T.Ziu (Zf6 T) hr.dn T.Zi3 .nil Zg (Za (ZC (pv 0) rfl) (Za (Zp (Zzx T) hr.dn rfl T.ZC9 T.Ztb.kp T.ZEp .nil Zg (Za (pv 1) (Za (ZC (pv 0) rfl) Zc))) Zc))))
   (Ze (ZW (ZjA (ZC (pv 0) rfl) T.ZiZ T.Zky (Zh7 T) hr.dn T.ZkX .nil Zg))
   (Zi (Za3 (pv 0) (ZC (pv 1) rfl) rfl)))))))),?_⟩
  refine ⟨pa,.dT kvs,hpa,rfl,?_⟩
  refine ⟨_,rfl,pi,_,dxi,_,_,rfl,hpi,T.ZqH,T.Za0,ZPW _ _,.inr (.inr (.inl ⟨rfl,.inr ⟨kvs,hpa⟩⟩)),pa,.dT kvs,rfl,rfl,.inl hpa,rfl,fun r hr1=>?_⟩
  have npr:pa≠r:=Zf hpa hr1
  refine ⟨r,pa,kvs,rfl,Zb,(by rw [Zd npr];exact hpa),fun ob=>?_⟩
  have nqp:q0≠pa:=ZY hq hpa (by intro z;cases z)
  have nbp:b≠pa:=ZY hDD.hb hpa (by intro z;cases z)
  have nlp:l≠pa:=ZY hDD.hl hpa (by intro z;cases z)
  have npp:p≠pa:=ZY hDD.ob hpa (by intro z;cases z)
  have nqb:q0≠b:=ZY hq hDD.hb (by intro z;cases z)
  have nql:q0≠l:=ZY hq hDD.hl (by intro z;cases z)
  have hkl:kvs.length=I.places.length:=hpd.len
  refine ZLV (d:=pa) (ob:=ob) (kvs:=kvs) (fun i σ H'=>(∃ o2 o3 o4 o5,σ=[some (.ref q0),some (.ref pi),o2,o3,o4,o5])∧H' pa=some (.frz ob (.dT kvs))∧(∀ d o,H d=some o→d≠b→d≠l→d≠pa→H' d=some o)∧Zck g H' p b l ((I.places.take i).foldl (Zep T0.synced) D))
   ⟨⟨none,none,none,none,rfl⟩,Zb,(fun d o e _ _ h3=>by rw [Zd h3,Zd (Zf e hr1)];exact e),hD.keep (fun d o e _=>?_)⟩ (fun i σ H' _ h=>h.2.1) (fun i t b0 k v0 σ H' hkv hb0 ht h=>?_) (fun σ H' h=>?_)
  ·by_cases z:d=pa
   ·rename_i hob
    subst z
    rw [hpa] at e
    cases e
    rcases hob with ⟨_,z⟩ | ⟨_,z⟩ | ⟨_,_,_,_,z⟩ <;> cases z
   ·rw [Zd z,Zd (Zf e hr1)];exact e
  ·obtain ⟨⟨o2,o3,o4,o5,rfl⟩,hfz,kp,hDi⟩:=h
   obtain ⟨row,ns,hpl,rfl,⟨tv,rfl,htv⟩⟩:=ZDZ hpd hkv
   rw [Zuc] at hb0
   have hmem:=List.mem_of_getElem? hpl
   obtain ⟨hne,hnl,hrng⟩:=io.ne _ hmem
   change ns≠[] at hne
   change ns.length≤1000 at hnl
   change ∀ n∈ns,_ at hrng
   have s1:=Zh (o:=.tup [.ref b0,.ref tv]) ht
   refine ⟨t,_,rfl,SqT.of Zb,rfl,_,_,rfl,_,_,rfl,rfl,?_⟩
   have hqA:∀ {H2:Hp},(∀ d o,H d=some o→d≠b→d≠l→d≠pa→H2 d=some o)→H2 q0=some (.ins g.Store dxs (tfl (.ref p) (.int T0.slot) (.int T0.turn) (.ref ya))):=fun k2=>k2 _ _ hq nqb nql nqp
   have kp1:∀ d o,H d=some o→d≠b→d≠l→d≠pa→(upd H' t (.tup [.ref b0,.ref tv])) d=some o:=fun d o e h1 h2 h3=>s1 _ _ (kp d o e h1 h2 h3)
   have hyR:Rd (upd H' t (.tup [.ref b0,.ref tv])) ya (.dT ky):=by
    by_cases z:ya=pa
    ·subst z
     rw [hpa] at hya
     cases hya
     exact .inr ⟨ob,s1 _ _ hfz⟩
    ·exact .inl (kp1 _ _ hya (ZY hya hDD.hb (by intro z;cases z)) (ZY hya hDD.hl (by intro z;cases z)) z)
   refine ⟨_,rfl,_,rfl,q0,_,dxs,_,_,rfl,hqA kp1,T.Zai,T.Zan,ZO1 _ _ _ _,ya,_,rfl,ZP8 hyR (s1 _ _ hb0),_,rfl,?_⟩
   rw [hyd.some Zjz,ZxU _ _ _ hpl]
   generalize hDe:(I.places.take i).foldl (Zep T0.synced) D=Di at hDi
   have hlen:Di.blocks.length=D.blocks.length∧Di.log.length≤90000:=by
    rw [← hDe]
    obtain ⟨a1,a2⟩:=ZHL T0.synced (I.places.take i) D fun p hp=>(io.ne p (List.mem_of_mem_take hp)).1
    refine ⟨a1,Nat.le_trans a2 ?_⟩
    have e1:(I.places.map (·.2)).flatten=((I.places.take i).map (·.2)).flatten++((I.places.drop i).map (·.2)).flatten:=by
     rw [← List.flatten_append,← List.map_append,List.take_append_drop]
    have hfl:=io.fl
    rw [e1,List.length_append] at hfl
    omega
   unfold Zep
   cases hg:(getA T0.synced row).isSome with
   | true=>
    refine iteF ⟨⟨_,_,_,_,rfl⟩,s1 _ _ hfz,kp1,?_⟩
    rw [if_pos rfl]
    exact hDi.same s1
   | false=>
    rw [if_neg (show ¬ (false=true) by decide)]
    refine iteT ?_
    have htv1:=kp1 _ _ htv (ZY htv hDD.hb (by intro z;cases z)) (ZY htv hDD.hl (by intro z;cases z)) (ZY htv hpa (by intro z;cases z))
    refine ⟨_,rfl,_,rfl,_,rfl,row,_,ns,_,rfl,⟨b0,rfl,s1 _ _ hb0⟩,⟨tv,rfl,htv1⟩,Nat.le_trans hnl (by decide),fun lb us H4 s4 hlb hlb4 hus=>?_⟩
    have hD4:Zck g H4 p b l Di:=(hDi.same s1).same s4
    obtain ⟨dx4,vb4,vl4,h4⟩:=id hD4
    obtain ⟨dx1,vb1,vl1,h1D⟩:=id (hDi.same s1)
    have nlb:lb≠b:=(Zf h1D.hb hlb).symm
    have nll:lb≠l:=(Zf h1D.hl hlb).symm
    have nlbp:lb≠pa:=(Zf (s1 _ _ hfz) hlb).symm
    have kp4:∀ d o,H d=some o→d≠b→d≠l→d≠pa→H4 d=some o:=fun d o e h1 h2 h3=>s4 _ _ (kp1 d o e h1 h2 h3)
    have hcl:=ZiM (row:=row) hne
    have hul:us.length=ns.length:=by rw [Paired.length hus,hcl]
    refine ⟨tv,lb,rfl,⟨_,SqT.of (s4 _ _ htv1)⟩,⟨_,SqL.of hlb4⟩,?_⟩
    refine ZP0 (xs:=ns.map V.int) (ys:=us) (fun j σ H'=>(∃ o4 o5,σ=[some (.ref q0),some (.ref pi),some (.ref b0),some (.ref tv),o4,o5])∧H' pa=some (.frz ob (.dT kvs))∧(∀ d o,H d=some o→d≠b→d≠l→d≠pa→H' d=some o)∧H' lb=some (.lst us)∧Paired (fun a b=>ZV H' b a) us (Zap row ns)∧Zck g H' p b l (((ns.zip (Zap row ns)).take j).foldl ZBV Di))
     (by rw [List.length_map,hul]) ⟨⟨_,_,rfl⟩,s4 _ _ (s1 _ _ hfz),kp4,hlb4,hus,hD4⟩ (fun j σ H' _ h=>?_) (fun j x y t2 σ H' hx hy ht2 h=>?_) (fun σ H' h=>?_)
    ·obtain ⟨_,_,kp5,hlb5,_,_⟩:=h
     exact ⟨SqT.of (kp5 _ _ htv (ZY htv hDD.hb (by intro z;cases z)) (ZY htv hDD.hl (by intro z;cases z)) (ZY htv hpa (by intro z;cases z))),SqL.of hlb5⟩
    ·obtain ⟨⟨o4,o5,rfl⟩,hfz5,kp5,hlb5,hus5,hD5⟩:=h
     rw [List.getElem?_map] at hx
     cases hn:ns[j]? with
     | none=>rw [hn] at hx;cases hx
     | some n=>
      rw [hn] at hx
      cases hx
      obtain ⟨blk,hblk,hrow⟩:=Zm8 hus5 hy
      obtain ⟨hn0,hn1⟩:=hrng n (List.mem_of_getElem? hn)
      have hz:(ns.zip (Zap row ns))[j]?=some (n,blk):=by rw [List.getElem?_zip_eq_some];exact ⟨hn,hblk⟩
      have s6:=Zh (o:=.tup [.int n,y]) ht2
      refine ⟨t2,_,rfl,SqT.of Zb,rfl,_,_,rfl,_,_,rfl,rfl,?_⟩
      have hD6:=hD5.same s6
      obtain ⟨dx6,vb6,vl6,h6⟩:=id hD6
      obtain ⟨w1,w2⟩:=ZKd ((ns.zip (Zap row ns)).take j) Di
      have hjl:((ns.zip (Zap row ns)).take j).length≤1000:=by
       rw [List.length_take,List.length_zip];omega
      refine ⟨_,rfl,q0,_,dxs,_,_,rfl,s6 _ _ (hqA kp5),T.Zai,T.ZaD,ZKo _ _ _ _,p,dx6,_,rfl,h6.ob,ZAt _ _,_,rfl,_,rfl,?_⟩
      dsimp only [tNil,List.append_nil]
      refine ZyF hD6 (blk:=some blk) (ZV.mono _ _ _ _ s6 hrow) hn0 (by rw [w1,hlen.1];exact hn1) (by omega) fun H7 b7 hD7=>?_
      have nbpa:=nbp;have nlpa:=nlp
      refine ⟨⟨_,_,rfl⟩,b7 _ _ (s6 _ _ hfz5) nbp.symm nlp.symm,fun d o e h1 h2 h3=>b7 _ _ (s6 _ _ (kp5 d o e h1 h2 h3)) h1 h2,b7 _ _ (s6 _ _ hlb5) nlb nll,ZCs hus5 (fun a r' ha=>b7 _ _ (s6 _ _ ha) (ZY (s6 _ _ ha) h6.hb (by intro z;cases z)) (ZY (s6 _ _ ha) h6.hl (by intro z;cases z))),?_⟩
      rw [ZxU _ _ _ hz]
      exact hD7
    ·obtain ⟨⟨o4,o5,rfl⟩,hfz5,kp5,hlb5,hus5,hD5⟩:=h
     refine ⟨⟨_,_,_,_,rfl⟩,hfz5,kp5,?_⟩
     rw [List.length_map,List.take_of_length_le (by rw [List.length_zip,hcl,Nat.min_self];exact Nat.le_refl _)] at hD5
     exact hD5
  ·obtain ⟨⟨o2,o3,o4,o5,rfl⟩,hfz,kp,hDi⟩:=h
   rw [hkl,List.take_length] at hDi
   have hlen:(I.places.foldl (Zep T0.synced) D).blocks.length=D.blocks.length∧(I.places.foldl (Zep T0.synced) D).log.length≤90000:=by
    obtain ⟨a1,a2⟩:=ZHL T0.synced I.places D fun p hp=>(io.ne p hp).1
    refine ⟨a1,Nat.le_trans a2 ?_⟩
    have:=io.fl
    omega
   unfold Zzq at q
   generalize I.places.foldl (Zep T0.synced) D=D1 at hDi hlen q
   refine ⟨ob,.dT kvs,hfz,rfl,?_⟩
   -- all is thawed: H2
   have kp2:∀ d o,H d=some o→d≠b→d≠l→(upd H' pa (.dT kvs)) d=some o:=fun d o e h1 h2=>by
    by_cases z:d=pa
    ·subst z;rw [Zb,← e,hpa]
    ·rw [Zd z];exact kp d o e h1 h2 z
   have hD2:Zck g (upd H' pa (.dT kvs)) p b l D1:=hDi.keep fun d o e hob=>by
    by_cases z:d=pa
    ·subst z
     rw [hfz] at e
     cases e
     rcases hob with ⟨_,z⟩ | ⟨_,z⟩ | ⟨_,_,_,_,z⟩ <;> cases z
    ·rw [Zd z];exact e
   generalize upd H' pa (.dT kvs)=H2 at kp2 hD2
   obtain ⟨dx2,vb2,vl2,h2⟩:=id hD2
   have hq2:=kp2 _ _ hq nqb nql
   refine ⟨_,rfl,q0,_,dxs,_,_,rfl,hq2,T.Zai,T.ZaD,ZKo _ _ _ _,p,dx2,_,rfl,h2.ob,Zxy _ _,?_⟩
   dsimp only [tNil,List.append_nil]
   refine Zyj hD2 (by omega) fun H3 b3 hD3=>?_
   have hq3:=b3 _ _ hq2 nqb nql
   have k3:∀ d o,H d=some o→d≠b→d≠l→H3 d=some o:=fun d o e h1 h2=>b3 _ _ (kp2 d o e h1 h2) h1 h2
   -- the slot,the turn
   refine ⟨_,rfl,q0,_,dxs,_,_,rfl,hq3,T.Zai,T.Zcg,ZKn _ _ _ _,_,_,rfl,rfl,_,rfl,q0,_,dxs,_,rfl,hq3,T.Zai,T.Zcg,(by rw [Zl1];show 4 < 1000;decide),?_⟩
   rw [ZMR]
   refine ⟨_,rfl,q0,_,dxs,_,_,rfl,Zb,T.Zai,T.Zcf,ZQr _ _ _ _,_,_,rfl,rfl,_,_,rfl,rfl,(by show (0:Int) < 256;decide),_,rfl,q0,_,dxs,_,rfl,Zb,T.Zai,T.Zcf,(by rw [Zl1];show 4 < 1000;decide),?_⟩
   rw [ZMP]
   have k4:∀ d o,H d=some o→d≠b→d≠l→d≠q0→(upd (upd H3 q0 (.ins g.Store dxs (tfl (.ref p) (.int (1 - T0.slot)) (.int T0.turn) (.ref ya)))) q0 (.ins g.Store dxs (tfl (.ref p) (.int (1 - T0.slot)) (.int ((T0.turn + 1) % 256)) (.ref ya)))) d=some o:=fun d o e h1 h2 h3=>by
    rw [Zd h3,Zd h3];exact k3 d o e h1 h2
   have dq:∀ {H5:Hp} {x:V} {d:Addr} {o:HO} {C:Addr} {dx:Addr} {a b c e:V},H5 q0=some (.ins C dx (tfl a b c e))→H5 d=some o→ZRM o→d≠q0:=fun {H5 x d o C dx a b c e} h1 h2 h3 z=>by
    subst z
    rw [h1] at h2
    cases h2
    rcases h3 with ⟨_,z⟩ | ⟨_,z⟩ | ⟨_,_,_,_,z⟩
    ·cases z
    ·cases z
    ·injection z with _ _ z
     have:=congrArg (fun fs=>List.lookup ("slot":Str) fs) z
     simp only [ZKn] at this
     rw [ZGO _ _ (by decide +kernel) (by decide +kernel)] at this
     cases this
   have hD4:Zck g (upd (upd H3 q0 (.ins g.Store dxs (tfl (.ref p) (.int (1 - T0.slot)) (.int T0.turn) (.ref ya)))) q0 (.ins g.Store dxs (tfl (.ref p) (.int (1 - T0.slot)) (.int ((T0.turn + 1) % 256)) (.ref ya)))) p b l D1.barrier:=hD3.keep fun d o e hob=>by
    have:=dq (x:=.non) hq3 e hob
    rw [Zd this,Zd this];exact e
   have hq4:=Zb (H:=upd H3 q0 (.ins g.Store dxs (tfl (.ref p) (.int (1 - T0.slot)) (.int T0.turn) (.ref ya)))) (a:=q0) (o:=.ins g.Store dxs (tfl (.ref p) (.int (1 - T0.slot)) (.int ((T0.turn + 1) % 256)) (.ref ya)))
   generalize upd (upd H3 q0 (.ins g.Store dxs (tfl (.ref p) (.int (1 - T0.slot)) (.int T0.turn) (.ref ya)))) q0 (.ins g.Store dxs (tfl (.ref p) (.int (1 - T0.slot)) (.int ((T0.turn + 1) % 256)) (.ref ya)))=H4 at k4 hD4 hq4
   obtain ⟨dx4,vb4,vl4,h4⟩:=id hD4
   have npiq:pi≠q0:=fun z=>by
    rw [z,hq] at hpi
    injection hpi with hpi
    injection hpi with _ _ hf
    have:=congrArg (fun fs=>List.lookup ("slot":Str) fs) hf
    simp only [ZKn] at this
    unfold ifl at this
    rw [Zl,if_neg (by decide +kernel),Zl,if_neg (by decide +kernel)] at this
    cases this
   have hpi4:=k4 _ _ hpi (ZY hpi hDD.hb (by intro z;cases z)) (ZY hpi hDD.hl (by intro z;cases z)) npiq
   have htup:∀ d xs,H d=some (.tup xs)→H4 d=some (.tup xs):=fun d xs e=>k4 _ _ e (ZY e hDD.hb (by intro z;cases z)) (ZY e hDD.hl (by intro z;cases z)) (ZY e hq (by intro z;cases z))
   have hpl4:Zfk H4 I.places (.ref pa):=⟨pa,kvs,rfl,k4 _ _ hpa nbp.symm nlp.symm nqp.symm,ZIb htup hpd⟩
   have hI4:Zht g H4 I (.ref pi):=⟨pi,dxi,.ref pa,hdv,rfl,hpi4,hpl4,by obtain ⟨ht,e,hh⟩:=hhd;exact ⟨ht,e,htup _ _ hh⟩⟩
   have hs01:0≤1 - T0.slot∧1 - T0.slot < 2:=by rcases hslot with z | z <;> omega
   -- the head
   refine ⟨_,rfl,q0,_,dxs,_,_,rfl,hq4,T.Zai,T.ZaD,ZKo _ _ _ _,p,dx4,_,rfl,h4.ob,ZAt _ _,_,rfl,q0,_,dxs,_,_,rfl,hq4,T.Zai,T.Zcg,ZKn _ _ _ _,_,rfl,_,rfl,q0,_,dxs,_,_,rfl,hq4,T.Zai,T.Zcf,ZQr _ _ _ _,?_⟩
   refine ⟨I,_,_,rfl,hI4,io.h,Nat.le_trans io.n (by decide),fun u H5 s5 hu5=>?_⟩
   dsimp only [tNil,List.append_nil]
   have hlb:D1.barrier.log.length≤90001:=by
    show (D1.log++[LogE.bar]).length≤_
    rw [List.length_append]
    show D1.log.length + 1≤_
    omega
   refine ZyF (hD4.same s5) (blk:=some (Zn6 I ((T0.turn + 1) % 256))) hu5 hs01.1 (by show 1 - T0.slot < (D1.blocks.length:Int);rw [hlen.1];omega) (by omega) fun H6 b6 hD6=>?_
   have hq6:=b6 _ _ (s5 _ _ hq4) nqb nql
   obtain ⟨dx6,vb6,vl6,h6⟩:=id hD6
   refine ⟨_,rfl,q0,_,dxs,_,_,rfl,hq6,T.Zai,T.ZaD,ZKo _ _ _ _,p,dx6,_,rfl,h6.ob,Zxy _ _,?_⟩
   dsimp only [tNil,List.append_nil]
   refine Zyj hD6 ?_ fun H7 b7 hD7=>?_
   ·show (D1.barrier.log++[LogE.wr _ _]).length≤_
    rw [List.length_append]
    show D1.barrier.log.length + 1≤_
    omega
   have hq7:=b7 _ _ hq6 nqb nql
   have k7:∀ d o,H4 d=some o→d≠b→d≠l→H7 d=some o:=fun d o e h1 h2=>b7 _ _ (b6 _ _ (s5 _ _ e) h1 h2) h1 h2
   have hpi7:=k7 _ _ hpi4 (ZY hpi hDD.hb (by intro z;cases z)) (ZY hpi hDD.hl (by intro z;cases z))
   refine ⟨_,rfl,pi,_,dxi,_,_,rfl,hpi7,T.ZqH,T.Za0,ZPW _ _,_,rfl,q0,_,dxs,_,rfl,hq7,T.Zai,T.Zan,(by rw [Zl1];show 4 < 1000;decide),?_⟩
   rw [ZMQ]
   have htup7:∀ d xs,H d=some (.tup xs)→(upd H7 q0 (.ins g.Store dxs (tfl (.ref p) (.int (1 - T0.slot)) (.int ((T0.turn + 1) % 256)) (.ref pa)))) d=some (.tup xs):=fun d xs e=>by
    rw [Zd (ZY e hq (by intro z;cases z))]
    exact k7 _ _ (htup d xs e) (ZY e hDD.hb (by intro z;cases z)) (ZY e hDD.hl (by intro z;cases z))
   refine q _ (fun d o e h1 h2 h3=>?_) ⟨dxs,.ref pa,Zb,pa,kvs,rfl,?_,ZIb htup7 hpd⟩ (hD7.keep fun d o e hob=>?_)
   ·rw [Zd h3];exact k7 _ _ (k4 d o e h1 h2 h3) h1 h2
   ·rw [Zd nqp.symm];exact k7 _ _ (k4 _ _ hpa nbp.symm nlp.symm nqp.symm) nbp.symm nlp.symm
   ·rw [Zd (dq (x:=.non) hq7 e hob)];exact e
end
end KS
namespace KS
open PySem L2
def ffl (s k t i:V):List (Str×V):=putF "image" i (putF "store" t (putF "kept" k (putF "state" s [])))
theorem ff1:¬ (("state":Str)="image"):=by decide +kernel
theorem ff2:¬ (("state":Str)="store"):=by decide +kernel
theorem ff3:¬ (("state":Str)="kept"):=by decide +kernel
theorem ff4:¬ (("kept":Str)="image"):=by decide +kernel
theorem ff5:¬ (("kept":Str)="store"):=by decide +kernel
theorem ff6:¬ (("store":Str)="image"):=by decide +kernel
theorem Zvm (s k t i:V):(ffl s k t i).lookup ("state":Str)=some s:=by unfold ffl;rw [Zl,if_neg ff1,Zl,if_neg ff2,Zl,if_neg ff3,Zl,if_pos rfl]
theorem ZNX (s k t i:V):(ffl s k t i).lookup ("kept":Str)=some k:=by unfold ffl;rw [Zl,if_neg ff4,Zl,if_neg ff5,Zl,if_pos rfl]
theorem ZRs (s k t i:V):(ffl s k t i).lookup ("store":Str)=some t:=by unfold ffl;rw [Zl,if_neg ff6,Zl,if_pos rfl]
theorem Zaz (s k t i:V) {m:Str} (h1:¬ m="image":=by decide +kernel) (h2:¬ m="store":=by decide +kernel) (h3:¬ m="kept":=by decide +kernel) (h4:¬ m="state":=by decide +kernel):(ffl s k t i).lookup m=none:=by
 unfold ffl
 rw [Zl,if_neg h1,Zl,if_neg h2,Zl,if_neg h3,Zl,if_neg h4]
 rfl
theorem Zn9 (s k t i:V):ffl s k t i=([("state",s),("kept",k),("store",t),("image",i)]:List (Str×V)):=by
 have e1:putF "kept" k [(("state":Str),s)]=([("state",s),("kept",k)]:List (Str×V)):=by
  show (if ("state":Str)="kept" then [(("state":Str),k)] else (("state":Str),s)::putF "kept" k [])=_
  rw [if_neg ff3];rfl
 have e2:putF "store" t [(("state":Str),s),(("kept":Str),k)]=([("state",s),("kept",k),("store",t)]:List (Str×V)):=by
  show (if ("state":Str)="store" then (("state":Str),t)::[(("kept":Str),k)] else (("state":Str),s)::(if ("kept":Str)="store" then [(("kept":Str),t)] else (("kept":Str),k)::putF "store" t []))=_
  rw [if_neg ff2,if_neg ff5];rfl
 have e3:putF "image" i [(("state":Str),s),(("kept":Str),k),(("store":Str),t)]=([("state",s),("kept",k),("store",t),("image",i)]:List (Str×V)):=by
  show (if ("state":Str)="image" then (("state":Str),i)::[(("kept":Str),k),(("store":Str),t)] else (("state":Str),s)::(if ("kept":Str)="image" then (("kept":Str),i)::[(("store":Str),t)] else (("kept":Str),k)::(if ("store":Str)="image" then [(("store":Str),i)] else (("store":Str),t)::putF "image" i [])))=_
  rw [if_neg ff1,if_neg ff4,if_neg ff6];rfl
 show putF "image" i (putF "store" t (putF "kept" k [(("state":Str),s)]))=_
 rw [e1,e2,e3]
theorem ZL0 (s k t i i':V):putF "image" i' (ffl s k t i)=ffl s k t i':=by
 rw [Zn9,Zn9]
 show (if ("state":Str)="image" then (("state":Str),i')::[(("kept":Str),k),(("store":Str),t),(("image":Str),i)] else (("state":Str),s)::(if ("kept":Str)="image" then (("kept":Str),i')::[(("store":Str),t),(("image":Str),i)] else (("kept":Str),k)::(if ("store":Str)="image" then (("store":Str),i')::[(("image":Str),i)] else (("store":Str),t)::(if ("image":Str)="image" then [(("image":Str),i')] else _))))=_
 rw [if_neg ff1,if_neg ff4,if_neg ff6,if_pos rfl]
theorem ZLZ (s k t i s':V):putF "state" s' (ffl s k t i)=ffl s' k t i:=by
 rw [Zn9,Zn9]
 show (if ("state":Str)="state" then (("state":Str),s')::[(("kept":Str),k),(("store":Str),t),(("image":Str),i)] else _)=_
 rw [if_pos rfl]
theorem ZNW (s k t i k':V):putF "kept" k' (ffl s k t i)=ffl s k' t i:=by
 rw [Zn9,Zn9]
 show (if ("state":Str)="kept" then (("state":Str),k')::[(("kept":Str),k),(("store":Str),t),(("image":Str),i)] else (("state":Str),s)::(if ("kept":Str)="kept" then (("kept":Str),k')::[(("store":Str),t),(("image":Str),i)] else _))=_
 rw [if_neg ff3,if_pos rfl]
def NotF (o:HO):Prop:=∀ C dx s k t i,o≠.ins C dx (ffl s k t i)
def ZqQ (H H':Hp):Prop:=∀ d o,H d=some o→NotF o→H' d=some o
theorem Zxk {H H':Hp} (s:Same H H'):ZqQ H H':=fun d o e _=>s _ _ e
theorem ZqQ.trans {H H' H'':Hp} (s:ZqQ H H') (t:ZqQ H' H''):ZqQ H H'':=fun d o e n=>t _ _ (s _ _ e n) n
theorem ZqQ.upd {H:Hp} {f C dx:Addr} {s k t i:V} {o:HO} (h:H f=some (.ins C dx (ffl s k t i))):ZqQ H (upd H f o):=fun d u e n=>by
 have:d≠f:=fun z=>by
  subst z
  rw [h] at e
  cases e
  exact n _ _ _ _ _ _ rfl
 rw [Zd this];exact e
theorem ZHO (xs:List V):NotF (.tup xs):=by intro _ _ _ _ _ _ z;cases z
theorem ZNu (xs:List V):NotF (.lst xs):=by intro _ _ _ _ _ _ z;cases z
theorem ZAr (xs:List (Key×V)):NotF (.dK xs):=by intro _ _ _ _ _ _ z;cases z
theorem ZPG (xs:List (List Key×V)):NotF (.dT xs):=by intro _ _ _ _ _ _ z;cases z
theorem ZtB {C dx:Addr} {fs:List (Str×V)} (m:Str) {v:V} (h:fs.lookup m=some v) (h1:¬ m="image") (h2:¬ m="store") (h3:¬ m="kept") (h4:¬ m="state"):NotF (.ins C dx fs):=by
 intro C' dx' s k t i z
 injection z with _ _ z
 rw [z,Zaz _ _ _ _ h1 h2 h3 h4] at h
 cases h
section
variable {g:Gs} {H H':Hp} (s:ZqQ H H')
include s
theorem ZV.f {r:Row} {v:V}:ZV H r v→ZV H' r v | ⟨t,e,h⟩=>⟨t,e,s _ _ h (ZHO _)⟩
theorem ZfW.f {r:Ents} {v:V}:ZfW H r v→ZfW H' r v | ⟨t,e,h⟩=>⟨t,e,s _ _ h (ZAr _)⟩
omit s in
theorem Z1.gen {κ α ρ:Type} {f:κ→ρ} {R:Hp→α→V→Prop} (k:∀ x v,R H x v→R H' x v) {xs:List (κ×α)} {kvs:List (ρ×V)} (h:Z1 f R H xs kvs):Z1 f R H' xs kvs:=by
 unfold Z1 at *
 induction h with
 | nil=>exact .nil
 | cons a _ ih=>exact .cons ⟨a.1,k _ _ a.2⟩ ih
theorem ZL.f {S:Sta} {v:V}:ZL g H S v→ZL g H' S v | ⟨p,dx,da,ea,dk,ek,e,h⟩=>⟨p,dx,da,ea,dk,ek,e,s _ _ h.ob (ZtB "data" (Zwm _ _) (by decide +kernel) (by decide +kernel) (by decide +kernel) (by decide +kernel)),s _ _ h.hd (ZAr _),s _ _ h.he (ZAr _),h.rd.gen (fun _ _ z=>z.f s),h.re.gen (fun _ _ z=>z.f s)⟩
theorem Zcj.f {k:Kept} {v:V}:Zcj g H k v→Zcj g H' k v | ⟨a,kvs,e,h,d⟩=>⟨a,kvs,e,s _ _ h (ZAr _),d.gen (fun _ _ z=>z.f s)⟩
theorem Zfk.f {k:Zbf} {v:V}:Zfk H k v→Zfk H' k v | ⟨a,kvs,e,h,d⟩=>⟨a,kvs,e,s _ _ h (ZPG _),d.gen (fun _ _ z=>z.f s)⟩
theorem Zht.f {k:Img} {v:V}:Zht g H k v→Zht g H' k v | ⟨p,dx,pl,hd,e,h,h1,h2⟩=>⟨p,dx,pl,hd,e,s _ _ h (ZtB "heads" (ZPX _ _) (by decide +kernel) (by decide +kernel) (by decide +kernel) (by decide +kernel)),h1.f s,h2.f s⟩
theorem ZpC.f {q p:Addr} {T:Sto}:ZpC g H q p T→ZpC g H' q p T | ⟨dx,y,h,h1⟩=>⟨dx,y,s _ _ h (ZtB "slot" (ZKn _ _ _ _) (by decide +kernel) (by decide +kernel) (by decide +kernel) (by decide +kernel)),h1.f s⟩
theorem Zck.f {p b l:Addr} {D:Dsk} (h:Zck g H p b l D):Zck g H' p b l D:=h.keep fun d o e hob=>s _ _ e (by
 rcases hob with ⟨xs,rfl⟩ | ⟨xs,rfl⟩ | ⟨C,dx,b,l,rfl⟩
 ·exact ZHO _
 ·exact ZNu _
 ·exact ZtB "log" (ZLW _ _) (by decide +kernel) (by decide +kernel) (by decide +kernel) (by decide +kernel))
end
structure Fil where
 S:Sta
 k:Kept
 T:Sto
 D:Dsk
 I:Img
structure ZSh (g:Gs) (H:Hp) (f q p b l:Addr) (F:Fil) (dx:Addr) (sv kv iv:V):Prop where
 ob:H f=some (.ins g.Files dx (ffl sv kv (.ref q) iv))
 st:ZL g H F.S sv
 ke:Zcj g H F.k kv
 sto:ZpC g H q p F.T
 dsk:Zck g H p b l F.D
 img:Zht g H F.I iv
def ZaV (g:Gs) (H:Hp) (f q p b l:Addr) (F:Fil):Prop:=∃ dx sv kv iv,ZSh g H f q p b l F dx sv kv iv
theorem ZaV.same {g:Gs} {H H':Hp} {f q p b l:Addr} {F:Fil} (s:Same H H'):ZaV g H f q p b l F→ZaV g H' f q p b l F
 | ⟨dx,sv,kv,iv,h⟩=>⟨dx,sv,kv,iv,s _ _ h.ob,h.st.f (Zxk s),h.ke.f (Zxk s),h.sto.f (Zxk s),h.dsk.f (Zxk s),h.img.f (Zxk s)⟩
def But1 (f:Addr) (H H':Hp):Prop:=∀ d o,H d=some o→d≠f→H' d=some o
section
variable {P:Program} {w:World} {K:PySem.W.Frag} {mg:Str→Option Value} {base:Heap} {g:Gs}
def ZKE (g:Gs):Sp:=fun vs H Q _=>∃ f dx a b c d,vs=[.ref f,a,b,c,d]∧H f=some (.ins g.Files dx [])∧∀ H',(∀ b o,H b=some o→b≠f→H' b=some o)→H' f=some (.ins g.Files dx (ffl a b c d))→Q .non H'
theorem Zzm:Zo ["self","state","kept","store","image"] ["self","state","kept","store","image"] (Zj Zcb):=⟨rfl,rfl,rfl,by decide +kernel,rfl,by decide +kernel,by decide +kernel⟩
theorem ZzF (T:Tx K mg g):FnOk P w K mg base (CXE P w) 1 g.ZqW g.Zji ["self","state","kept","store","image"] (ZKE g):=by
 refine T.ZFg.okE Zzm (fun vs H Q E h=>?_) (fun cdv A outer s H vs Q E hr h=>?_)
 ·obtain ⟨f,dx,a,b,c,d,rfl,_⟩:=h
  rfl
 ·obtain ⟨f,dx,a,b,c,d,rfl,hf,q⟩:=h
  refine ⟨_,(Ze (Za3 (pv 0) (pv 1) rfl)
   (Ze (Za3 (pv 0) (pv 2) rfl)
   (Ze (Za3 (pv 0) (pv 3) rfl)
   (Zi (Za3 (pv 0) (pv 4) rfl))))),?_⟩
  refine ⟨_,rfl,_,rfl,f,g.Files,dx,[],rfl,hf,T.ZK,T.ZQ,(by show 0 < 1000;decide),?_⟩
  refine ⟨_,rfl,_,rfl,f,g.Files,dx,_,rfl,Zb,T.ZK,T.ZaE,(by show 1 < 1000;decide),?_⟩
  refine ⟨_,rfl,_,rfl,f,g.Files,dx,_,rfl,Zb,T.ZK,T.Zco,?_,?_⟩
  ·exact Nat.lt_of_le_of_lt (Zcn _ _ _) (Nat.lt_of_le_of_lt (Nat.succ_le_succ (Zcn _ _ _)) (by show 2 < 1000;decide))
  refine ⟨_,rfl,_,rfl,f,g.Files,dx,_,rfl,Zb,T.ZK,T.Zdy,?_,?_⟩
  ·exact Nat.lt_of_le_of_lt (Zcn _ _ _) (Nat.lt_of_le_of_lt (Nat.succ_le_succ (Zcn _ _ _)) (Nat.lt_of_le_of_lt (Nat.succ_le_succ (Nat.succ_le_succ (Zcn _ _ _))) (by show 3 < 1000;decide)))
  refine q _ (fun b o e hb=>?_) Zb
  rw [Zd hb,Zd hb,Zd hb,Zd hb]
  exact e
def ZCa (g:Gs):Sp:=fun vs H Q E=>∃ f dx s k t i,vs=[.ref f]∧H f=some (.ins g.Files dx (ffl s k t i))∧((t=.non∧E (.ref (g.xa .readOnly)) none H)∨((∃ q,t=.ref q)∧Q .non H))
theorem ZeW:Zo ["self"] ["self"] (Zj ZS):=⟨rfl,rfl,rfl,by decide +kernel,rfl,by decide +kernel,by decide +kernel⟩
theorem Z4 (T:Tx K mg g):FnOk P w K mg base (CXE P w) 1 g.Za1 g.ZaC ["self"] (ZCa g):=by
 refine T.ZfV.okE ZeW (fun vs H Q E h=>?_) (fun cdv A outer s H vs Q E hr h=>?_)
 ·obtain ⟨f,dx,s0,k,t,i,rfl,_⟩:=h
  rfl
 ·obtain ⟨f,dx,s0,k,t,i,rfl,hf,q⟩:=h
  refine ⟨_,(Zi (Zav (ZdU (ZOw (ZC (pv 0) rfl))) (Zi (ZaK T.ZIz rfl T.ZxA (Za ZR Zc))) ZP)),?_⟩
  refine ⟨_,rfl,f,_,dx,_,_,rfl,hf,T.ZK,T.Zco,ZRs _ _ _ _,_,rfl,?_⟩
  rcases q with ⟨rfl,q⟩ | ⟨⟨q0,rfl⟩,q⟩
  ·exact iteT ⟨szl 1,q⟩
  ·exact iteF q
def Zte (F:Fil) (S:Sta) (k:Kept):Except Rf Fil:=match ZcU F.T F.D S k with
 | .error r=>.error r
 | .ok I=>.ok ⟨S,k,F.T,F.D,I⟩
def ZMU (g:Gs):Sp:=fun vs H Q E=>∃ f q p b l F sv kv S k,vs=[.ref f,sv,kv]∧ZaV g H f q p b l F∧ZL g H S sv∧Zcj g H k kv∧ZbR S∧Zk7 k∧ZBk F.T.synced∧(match Zte F S k with
 | .error r=>∀ H',Same H H'→E (.ref (g.xa r)) none H'
 | .ok F'=>∀ H',But1 f H H'→ZaV g H' f q p b l F'→Q .non H')
theorem Zth:Zo ["self","state","kept"] ["self","state","kept"] (Zj Zau):=⟨rfl,rfl,rfl,by decide +kernel,rfl,by decide +kernel,by decide +kernel⟩
theorem ZbG (T:Tx K mg g):FnOk P w K mg base (CXE P w) 6 g.ZgX g.Zeg ["self","state","kept"] (ZMU g):=by
 refine T.Zv6.okE Zth (fun vs H Q E h=>?_) (fun cdv A outer s H vs Q E hr h=>?_)
 ·obtain ⟨f,q0,p,b,l,F,sv,kv,S,k,rfl,_⟩:=h
  rfl
 ·obtain ⟨f,q0,p,b,l,F,sv,kv,S,k,rfl,⟨dx,sv0,kv0,iv0,hF⟩,hS,hk,so,kk,po,q⟩:=h
  refine ⟨_,(Ze (Za3 (pv 0) (Zaf (ZC (pv 0) rfl) T.Zai T.ZfI (Zer T) hr.dn T.ZfQ .nil Zg (Za (pv 1) (Za (pv 2) Zc))) rfl)
   (Ze (Za3 (pv 0) (pv 1) rfl)
   (Zi (Za3 (pv 0) (pv 2) rfl)))),?_⟩
  obtain ⟨dxs,y,hq,hy⟩:=id hF.sto
  refine ⟨_,rfl,f,_,dx,_,_,rfl,hF.ob,T.ZK,T.Zco,ZRs _ _ _ _,q0,dxs,_,rfl,hq,ZHz _ _ _ _,_,rfl,_,rfl,?_⟩
  refine ⟨q0,p,b,l,F.T,F.D,sv,S,kv,k,rfl,hF.sto,hF.dsk,hS,hk,so,kk,po,?_⟩
  unfold Zte at q
  cases hm:ZcU F.T F.D S k with
  | error r=>
   rw [hm] at q
   exact fun H' s'=>q H' s'
  | ok I=>
   rw [hm] at q
   dsimp only at q
   intro iv H1 s1 hI
   refine ⟨_,rfl,f,_,dx,_,rfl,s1 _ _ hF.ob,T.ZK,T.Zdy,(by rw [Zn9];show 4 < 1000;decide),?_⟩
   rw [ZL0]
   refine ⟨_,rfl,_,rfl,f,_,dx,_,rfl,Zb,T.ZK,T.ZQ,(by rw [Zn9];show 4 < 1000;decide),?_⟩
   rw [ZLZ]
   refine ⟨_,rfl,_,rfl,f,_,dx,_,rfl,Zb,T.ZK,T.ZaE,(by rw [Zn9];show 4 < 1000;decide),?_⟩
   rw [ZNW]
   have sA:ZqQ H1 (upd (upd (upd H1 f (.ins g.Files dx (ffl sv0 kv0 (.ref q0) iv))) f (.ins g.Files dx (ffl sv kv0 (.ref q0) iv))) f (.ins g.Files dx (ffl sv kv (.ref q0) iv))):=(ZqQ.upd (s1 _ _ hF.ob)).trans ((ZqQ.upd Zb).trans (ZqQ.upd Zb))
   have sB:=ZqQ.trans (Zxk s1) sA
   refine q _ (fun d o e hd=>?_) ⟨dx,sv,kv,iv,Zb,hS.f sB,hk.f sB,hF.sto.f sB,hF.dsk.f sB,hI.f sA⟩
   rw [Zd hd,Zd hd,Zd hd]
   exact s1 _ _ e
def ZNV (S:Sta) (p:Str):Except Rf Int:=if Zcq p then (match ZjJ S (ZD p) [0] with
 | .error r=>.error r
 | .ok ps=>.ok (ps.getLastD 0)) else .error .badName
def ZQI (g:Gs):Sp:=fun vs H Q E=>∃ f dx sv k t i S p,vs=[.ref f,.str p]∧H f=some (.ins g.Files dx (ffl sv k t i))∧ZL g H S sv∧p.length≤1000∧Ans g ZQi H (ZNV S p) Q E
theorem Zzn:Zo ["self","path"] ["self","path"] (Zj Zcc):=⟨rfl,rfl,rfl,by decide +kernel,rfl,by decide +kernel,by decide +kernel⟩
theorem ZzG (T:Tx K mg g):FnOk P w K mg base (CXE P w) 4 g.ZqX g.Zjj ["self","path"] (ZQI g):=by
 refine T.ZFh.okE Zzn (fun vs H Q E h=>?_) (fun cdv A outer s H vs Q E hr h=>?_)
 ·obtain ⟨f,dx,sv,k,t,i,S,p,rfl,_⟩:=h
  rfl
 ·obtain ⟨f,dx,sv,k,t,i,S,p,rfl,hf,hS,hl,q⟩:=h
  refine ⟨_,(Ze (ZW (Zp (Zdw T) hr.dn rfl T.Zet T.Zde.kp T.ZeQ .nil Zg (Za (pv 1) Zc)))
   (Zi (Zz (Zaw ZbN (Zp (ZGg T) hr.dn rfl T.ZLt T.ZIl.kp T.ZMt .nil Zg (Za (ZC (pv 0) rfl) (Za (Zp (ZaO T) hr.dn rfl T.Zba T.ZaG.kp T.Zbe .nil Zg (Za (pv 1) Zc)) Zc))) (Zum Zhz Zm) (fun _ _=>rfl))))),?_⟩
  refine ⟨_,rfl,p,rfl,hl,?_⟩
  unfold ZNV at q
  unfold Zdd
  cases hb:Zcq p with
  | false=>
   rw [hb] at q
   exact fun H' s'=>q H' s'
  | true=>
   rw [hb] at q
   rw [if_pos rfl] at q
   intro v1 H1 s1 _
   refine ⟨_,rfl,f,_,dx,_,_,rfl,s1 _ _ hf,T.ZK,T.ZQ,Zvm _ _ _ _,_,rfl,p,rfl,hl,fun l H2 s2 hn hl2=>?_⟩
   have sA:=s1.trans s2
   refine ⟨sv,S,l,ZD p,rfl,ZL.mono _ _ _ _ sA hS,hl2,?_,fun n hn=>?_,?_⟩
   ·have:=Zdv p;omega
   ·have:=Zdu p n hn;omega
   cases hw:ZjJ S (ZD p) [0] with
   | error r=>
    rw [hw] at q
    exact fun H' s'=>q H' (sA.trans s')
   | ok ps=>
    rw [hw] at q
    dsimp only at q
    intro v3 H3 s3 ⟨D,e,hD⟩
    subst e
    exact ⟨_,rfl,D,_,_,_,rfl,rfl,SqL.of hD,ZjI ps (ZtU hw (by decide)).1,q _ _ (sA.trans s3) rfl⟩
end
end KS
namespace KS
open PySem L2
def Zfn:Row:=List.replicate 64 0
def Zes:Sto:=⟨1,255,[]⟩
def Zas:Sta:=⟨[],[(0,[])]⟩
def ZAP (D:Dsk):Except Rf Fil:=match ZcU Zes (D.write 1 (some Zfn)) Zas [] with
 | .error r=>.error r
 | .ok I=>.ok ⟨Zas,[],(Zzq Zes (D.write 1 (some Zfn)) I).1,(Zzq Zes (D.write 1 (some Zfn)) I).2,I⟩
def ZNz (F:Fil) (p kind:Str):Except Rf Fil:=match ZC8 F.S p kind with
 | .error r=>.error r
 | .ok S=>Zte F S F.k
theorem ZH3:ZbR Zas:=by
 refine ⟨by decide,(fun n r h=>by cases h),fun n es h=>?_⟩
 have:es=[]:=by
  by_cases z:(0:Int)=n
  ·have:=Za4 (p:=((0:Int),([]:Ents))) (r:=[]) (k:=n) z
   rw [show getA Zas.ent n=getA [((0:Int),([]:Ents))] n from rfl,this] at h
   cases h
   rfl
  ·have:=Za5 (p:=((0:Int),([]:Ents))) (r:=[]) (k:=n) z
   rw [show getA Zas.ent n=getA [((0:Int),([]:Ents))] n from rfl,this] at h
   cases h
 subst this
 exact ⟨by decide,fun p hp=>nomatch hp⟩
def ZEY (o:HO):Prop:=(∀ xs,o≠.lst xs)∧∀ C dx a b c d,o≠.ins C dx (tfl a b c d)
theorem ZLm (xs:List V):ZEY (.tup xs):=⟨(by intro _ z;cases z),(by intro _ _ _ _ _ _ z;cases z)⟩
theorem ZtA (xs:List (Key×V)):ZEY (.dK xs):=⟨(by intro _ z;cases z),(by intro _ _ _ _ _ _ z;cases z)⟩
theorem ZNt (xs:List (List Key×V)):ZEY (.dT xs):=⟨(by intro _ z;cases z),(by intro _ _ _ _ _ _ z;cases z)⟩
theorem ZC5 {C dx:Addr} {fs:List (Str×V)} (m:Str) {v:V} (h:fs.lookup m=some v) (h1:¬ m="synced") (h2:¬ m="turn") (h3:¬ m="slot") (h4:¬ m="disk"):ZEY (.ins C dx fs):=by
 refine ⟨(by intro _ z;cases z),fun C' dx' s k t i z=>?_⟩
 injection z with _ _ z
 rw [z,ZHz _ _ _ _ h1 h2 h3 h4] at h
 cases h
section
variable {g:Gs} {H H':Hp} (s:∀ d o,H d=some o→ZEY o→H' d=some o)
include s
theorem ZV.ls {r:Row} {v:V}:ZV H r v→ZV H' r v | ⟨t,e,h⟩=>⟨t,e,s _ _ h (ZLm _)⟩
theorem ZfW.ls {r:Ents} {v:V}:ZfW H r v→ZfW H' r v | ⟨t,e,h⟩=>⟨t,e,s _ _ h (ZtA _)⟩
theorem ZL.ls {S:Sta} {v:V}:ZL g H S v→ZL g H' S v | ⟨p,dx,da,ea,dk,ek,e,h⟩=>⟨p,dx,da,ea,dk,ek,e,s _ _ h.ob (ZC5 "data" (Zwm _ _) (by decide +kernel) (by decide +kernel) (by decide +kernel) (by decide +kernel)),s _ _ h.hd (ZtA _),s _ _ h.he (ZtA _),h.rd.gen (fun _ _ z=>z.ls s),h.re.gen (fun _ _ z=>z.ls s)⟩
theorem Zcj.ls {k:Kept} {v:V}:Zcj g H k v→Zcj g H' k v | ⟨a,kvs,e,h,d⟩=>⟨a,kvs,e,s _ _ h (ZtA _),d.gen (fun _ _ z=>z.ls s)⟩
theorem Zfk.ls {k:Zbf} {v:V}:Zfk H k v→Zfk H' k v | ⟨a,kvs,e,h,d⟩=>⟨a,kvs,e,s _ _ h (ZNt _),d.gen (fun _ _ z=>z.ls s)⟩
theorem Zht.ls {k:Img} {v:V}:Zht g H k v→Zht g H' k v | ⟨p,dx,pl,hd,e,h,h1,h2⟩=>⟨p,dx,pl,hd,e,s _ _ h (ZC5 "heads" (ZPX _ _) (by decide +kernel) (by decide +kernel) (by decide +kernel) (by decide +kernel)),h1.ls s,h2.ls s⟩
end
theorem ZHV:Zk7 []:=⟨by decide,fun n S h=>by cases h⟩
section
variable {P:Program} {w:World} {K:PySem.W.Frag} {mg:Str→Option Value} {base:Heap} {g:Gs}
def ZIK (g:Gs):Sp:=fun vs H Q _=>∃ p b l D,vs=[.ref p]∧Zck g H p b l D∧2≤D.blocks.length∧D.log.length≤90000∧∀ q H',But2 b l H H'→H q=none→ZpC g H' q p Zes→Zck g H' p b l (D.write 1 (some Zfn))→Q (.ref q) H'
theorem ZCn:Zo ["disk"] ["disk"] (Zj ZcG):=⟨rfl,rfl,rfl,by decide +kernel,rfl,by decide +kernel,by decide +kernel⟩
theorem ZCF (T:Tx K mg g):FnOk P w K mg base (CXE P w) 8 g.ZuF g.Zlw ["disk"] (ZIK g):=by
 refine T.Zv0.okE ZCn (fun vs H Q E h=>?_) (fun cdv A outer s H vs Q E hr h=>?_)
 ·obtain ⟨p,b,l,D,rfl,_⟩:=h
  rfl
 ·obtain ⟨p,b,l,D,rfl,hD,hb2,hlog,q⟩:=h
  obtain ⟨dx,vb,vl,h⟩:=id hD
  refine ⟨_,(Ze (ZW (Zaf (pv 0) T.ZiZ T.Ziu (Zf6 T) hr.dn T.Zi3 .nil Zg (Za Zm (Za (Zt Zup (Zar (Za Zm Zc)) (ZI (v:=.int 64) rfl T.Zct ⟨_,rfl⟩)) Zc))))
   (Zi (Zz (Zh0 T.ZAu (ZzB T) hr.dn rfl T.ZPJ T.ZEt .nil Zg (Za (pv 0) (Za Zm (Za (Zt Zfx (ZI (v:=.int 256) rfl T.ZAO ⟨_,rfl⟩) Zm) (Za ZHM Zc)))))))),?_⟩
  refine ⟨_,rfl,p,dx,_,rfl,h.ob,ZAt _ _,szl 1,fun a ha=>?_⟩
  have s1:=Zh (o:=.tup [.int 0]) ha
  refine ⟨a,64,_,rfl,rfl,Zb,by simp,by decide,by decide,by show 1 * 64≤sizeLine;decide,fun c H2 s2 hc=>?_⟩
  rw [Zf1] at hc
  have sA:=s1.trans s2
  dsimp only [tNil,List.append_nil]
  refine ZyF (hD.same sA) (blk:=some Zfn) ⟨c,rfl,by rw [hc];unfold Zfn;rw [List.map_replicate];rfl⟩ (by decide) (by omega) (by omega) fun H3 b3 hD3=>?_
  refine ⟨_,rfl,_,_,rfl,rfl,fun y hy=>fun x dx' hx hdx' ne=>⟨x,dx',_,_,_,_,rfl,Zb,fun H5 kp hq=>⟨rfl,?_⟩⟩⟩
  have s4:=Zh (o:=.dT []) hy
  have s5:Same (upd H3 y (.dT [])) H5:=fun d o eb=>by
   have h1:d≠x:=Zf eb hx
   have h2:d≠dx':=Zf eb hdx'
   exact kp d o (by rw [Zd h1,Zd h2];exact eb) h1
  have sB:=s4.trans s5
  have hxH:H x=none:=by
   cases z:H x with
   | none=>rfl
   | some o=>
    by_cases zb:x=b
    ·have:=s4 _ _ ((Option.some_get (by rw [show (H3 b).isSome=true by obtain ⟨_,_,_,h3⟩:=hD3;rw [h3.hb];rfl]:(H3 b).isSome=true)).symm)
     rw [zb] at hx
     obtain ⟨_,_,_,h3⟩:=hD3
     rw [s4 _ _ h3.hb] at hx
     cases hx
    ·by_cases zl:x=l
     ·rw [zl] at hx
      obtain ⟨_,_,_,h3⟩:=hD3
      rw [s4 _ _ h3.hl] at hx
      cases hx
     ·have:=s4 _ _ (b3 _ _ (sA _ _ z) zb zl)
      rw [hx] at this
      cases this
  refine q x H5 (fun d o e h1 h2=>sB _ _ (b3 _ _ (sA _ _ e) h1 h2)) hxH ⟨dx',.ref y,hq,y,[],rfl,s5 _ _ Zb,.nil⟩ (hD3.same sB)
def ZOk (g:Gs):Sp:=fun vs H Q E=>∃ f q p b l F pa kd,vs=[.ref f,.str pa,.str kd]∧ZaV g H f q p b l F∧ZqP F.S∧F.S.dat.length≤999∧F.S.ent.length≤999∧pa.length≤1000∧(∀ S,ZC8 F.S pa kd=.ok S→ZbR S)∧Zk7 F.k∧ZBk F.T.synced∧(match ZNz F pa kd with
 | .error r=>∀ H',Same H H'→E (.ref (g.xa r)) none H'
 | .ok F'=>∀ H',But1 f H H'→ZaV g H' f q p b l F'→Q (optI (ZfC F.S)) H')
theorem Zmj:Zo ["self","path","kind","number"] ["self","path","kind"] (Zj Zb9):=⟨rfl,rfl,rfl,by decide +kernel,rfl,by decide +kernel,by decide +kernel⟩
theorem Znh (T:Tx K mg g):FnOk P w K mg base (CXE P w) 7 g.ZqU g.Zjg ["self","path","kind"] (ZOk g):=by
 refine T.ZFe.okE Zmj (fun vs H Q E h=>?_) (fun cdv A outer s H vs Q E hr h=>?_)
 ·obtain ⟨f,q0,p,b,l,F,pa,kd,rfl,_⟩:=h
  rfl
 ·obtain ⟨f,q0,p,b,l,F,pa,kd,rfl,hFF,sm,hz1,hz2,hl,hso,kk,po,q⟩:=h
  obtain ⟨dx,sv,kv,iv,hF⟩:=id hFF
  refine ⟨_,(Ze (ZW (ZjA (pv 0) T.ZK T.Zaa (Z4 T) hr.dn T.Zab .nil Zg))
   (Ze (ZJ (i:=3) Zmj.nd rfl (Or.inl rfl) (Zp (Znf T) hr.dn rfl T.Zrn T.Zjp.kp T.ZsY .nil Zg (Za (ZC (pv 0) rfl) Zc)))
   (Ze (ZW (Zaf (pv 0) T.ZK T.Zcs (ZbG T) hr.dn T.ZcB .nil Zg (Za (Zp (ZPx T) hr.dn rfl T.ZQ8 T.ZOU.kp T.ZRA .nil Zg (Za (ZC (pv 0) rfl) (Za (pv 1) (Za (pv 2) Zc)))) (Za (ZC (pv 0) rfl) Zc))))
   (Zi (Zz (pv 3)))))),?_⟩
  refine ⟨_,rfl,f,dx,_,rfl,hF.ob,Zaz _ _ _ _,?_⟩
  refine ⟨f,dx,_,_,_,_,rfl,hF.ob,.inr ⟨⟨q0,rfl⟩,?_⟩⟩
  refine ⟨_,rfl,f,_,dx,_,_,rfl,hF.ob,T.ZK,T.ZQ,Zvm _ _ _ _,sv,F.S,rfl,hF.st,?_⟩
  refine ⟨_,rfl,f,dx,_,rfl,hF.ob,Zaz _ _ _ _,_,rfl,f,_,dx,_,_,rfl,hF.ob,T.ZK,T.ZQ,Zvm _ _ _ _,_,rfl,_,rfl,?_⟩
  refine ⟨sv,F.S,pa,kd,rfl,hF.st,sm,hz1,hz2,hl,?_⟩
  unfold ZNz at q
  cases hm:ZC8 F.S pa kd with
  | error r=>
   rw [hm] at q
   exact fun H' s'=>q H' s'
  | ok S=>
   rw [hm] at q
   dsimp only at q
   intro v2 H2 s2 hS2
   have hF2:=hFF.same s2
   refine ⟨_,rfl,f,_,dx,_,_,rfl,s2 _ _ hF.ob,T.ZK,T.ZaE,ZNX _ _ _ _,?_⟩
   refine ⟨f,q0,p,b,l,F,v2,kv,S,F.k,rfl,hF2,hS2,Zcj.mono _ _ _ _ s2 hF.ke,hso S hm,kk,po,?_⟩
   cases ht:Zte F S F.k with
   | error r=>
    rw [ht] at q
    exact fun H' s'=>q H' (s2.trans s')
   | ok F'=>
    rw [ht] at q
    exact fun H' b1 h'=>⟨_,rfl,q H' (fun d o e hd=>b1 _ _ (s2 _ _ e) hd) h'⟩
def ZFT (g:Gs):Sp:=fun vs H Q E=>∃ p b l D,vs=[.ref p]∧Zck g H p b l D∧2≤D.blocks.length∧D.log.length≤30000∧(∀ I,ZcU Zes (D.write 1 (some Zfn)) Zas []=.ok I→ZQj (D.write 1 (some Zfn)) I)∧(match ZAP D with
 | .error r=>∀ H',But2 b l H H'→E (.ref (g.xa r)) none H'
 | .ok F=>∀ f q H',But2 b l H H'→ZaV g H' f q p b l F→Q (.ref f) H')
theorem Zek:Zo ["disk","state","store","image"] ["disk"] (Zj ZcH):=⟨rfl,rfl,rfl,by decide +kernel,rfl,by decide +kernel,by decide +kernel⟩
theorem ZCG (T:Tx K mg g):FnOk P w K mg base (CXE P w) 9 g.formatted g.ZlE ["disk"] (ZFT g):=by
 refine T.Zv1.okE Zek (fun vs H Q E h=>?_) (fun cdv A outer s H vs Q E hr h=>?_)
 ·obtain ⟨p,b,l,D,rfl,_⟩:=h
  rfl
 ·obtain ⟨p,b,l,D,rfl,hD,hb2,hlog,hio,q⟩:=h
  refine ⟨_,(Ze (ZJ (i:=1) Zek.nd rfl (Or.inl rfl) (ZNo (Zwv T) hr.dn rfl T.ZAx T.ZpF.kp T.ZA2 .nil Zg))
   (Ze (ZJ (i:=2) Zek.nd rfl (Or.inl rfl) (Zp (ZCF T) hr.dn rfl T.ZGy T.Zv0.kp T.ZGZ .nil Zg (Za (pv 0) Zc)))
   (Ze (ZJ (i:=3) Zek.nd rfl (Or.inl rfl) (Zaf (pv 2) T.Zai T.ZfI (Zer T) hr.dn T.ZfQ .nil Zg (Za (pv 1) (Za ZjB Zc))))
   (Ze (ZW (Zaf (pv 2) T.Zai T.ZDO (ZzA T) hr.dn T.ZEs .nil Zg (Za (pv 3) Zc)))
   (Zi (Zz (Zh0 T.ZAw (ZzF T) hr.dn rfl T.ZLA T.ZEx .nil Zg (Za (pv 1) (Za ZjB (Za (pv 2) (Za (pv 3) Zc))))))))))),?_⟩
  refine ⟨rfl,fun sv H1 s1 hS=>?_⟩
  obtain ⟨_,vb0,vl0,h0⟩:=id hD
  refine ⟨_,rfl,p,b,l,D,rfl,hD.same s1,hb2,by omega,fun q0 H2 b2 hq0 hT hD2=>?_⟩
  have k2:∀ d o,H1 d=some o→ZEY o→H2 d=some o:=fun d o e n=>b2 _ _ e (fun z=>by subst z;rw [s1 _ _ h0.hb] at e;cases e;exact n.1 _ rfl) (fun z=>by subst z;rw [s1 _ _ h0.hl] at e;cases e;exact n.1 _ rfl)
  have hS2:=hS.ls k2
  obtain ⟨dxs,y,hq,hy⟩:=id hT
  refine ⟨_,rfl,q0,dxs,_,rfl,hq,ZHz _ _ _ _,_,rfl,fun ka hka=>?_⟩
  have s3:=Zh (o:=.dK []) hka
  dsimp only [tNil,List.append_nil]
  refine ⟨q0,p,b,l,Zes,_,sv,Zas,_,[],rfl,hT.same s3,hD2.same s3,ZL.mono _ _ _ _ s3 hS2,⟨ka,[],rfl,Zb,.nil⟩,ZH3,ZHV,⟨Nat.zero_le _,(fun p hp=>nomatch hp),Nat.zero_le _⟩,?_⟩
  unfold ZAP at q
  cases hm:ZcU Zes (D.write 1 (some Zfn)) Zas [] with
  | error r=>
   rw [hm] at q
   exact fun H' s'=>q H' (fun d o e h1 h2=>s' _ _ (s3 _ _ (b2 _ _ (s1 _ _ e) h1 h2)))
  | ok I=>
   rw [hm] at q
   dsimp only at q
   intro iv H3 s4 hI
   have hT3:=(hT.same s3).same s4
   have hD3:=(hD2.same s3).same s4
   obtain ⟨dx3,y3,hq3,hy3⟩:=id hT3
   obtain ⟨_,vb3,vl3,h3⟩:=id hD3
   refine ⟨_,rfl,q0,dx3,_,rfl,hq3,ZHz _ _ _ _,_,rfl,?_⟩
   dsimp only [tNil,List.append_nil]
   have io:=hio I hm
   refine ⟨q0,p,b,l,Zes,D.write 1 (some Zfn),iv,I,rfl,hT3,hD3,hI,io,.inr rfl,?_,?_,fun H4 k4 hT4 hD4=>?_⟩
   ·show 2≤(D.blocks.set _ _).length
    rw [List.length_set];exact hb2
   ·show (D.log++[_]).length≤_
    rw [List.length_append]
    show D.log.length + 1≤_
    omega
   have k4':∀ d o,H3 d=some o→ZEY o→H4 d=some o:=fun d o e n=>k4 _ _ e (fun z=>by subst z;rw [h3.hb] at e;cases e;exact n.1 _ rfl) (fun z=>by subst z;rw [h3.hl] at e;cases e;exact n.1 _ rfl) (fun z=>by subst z;rw [hq3] at e;cases e;exact n.2 _ _ _ _ _ _ rfl)
   have hS4:ZL g H4 Zas sv:=ZL.ls k4' (ZL.mono _ _ _ _ (s3.trans s4) hS2)
   have hI4:=hI.ls k4'
   refine ⟨_,rfl,fun kb hkb=>?_⟩
   have s5:=Zh (o:=.dK []) hkb
   refine ⟨_,rfl,_,rfl,fun x dx' hx hdx' ne=>⟨x,dx',_,_,_,_,rfl,Zb,fun H6 kp hf=>⟨rfl,?_⟩⟩⟩
   have s6:Same (upd H4 kb (.dK [])) H6:=fun d o eb=>by
    have h1:d≠x:=Zf eb hx
    have h2:d≠dx':=Zf eb hdx'
    exact kp d o (by rw [Zd h1,Zd h2];exact eb) h1
   have sB:=s5.trans s6
   refine q x q0 H6 (fun d o e h1 h2=>?_) ⟨dx',sv,.ref kb,iv,hf,ZL.mono _ _ _ _ sB hS4,⟨kb,[],rfl,s6 _ _ Zb,.nil⟩,hT4.same sB,hD4.same sB,Zht.mono _ _ _ _ sB hI4⟩
   have hdq:d≠q0:=Zf (s1 _ _ e) hq0
   exact sB _ _ (k4 _ _ (s4 _ _ (s3 _ _ (b2 _ _ (s1 _ _ e) h1 h2))) h1 h2 hdq)
end
end KS
namespace KS
open PySem L2
def Z0 (row:Row):Nat:=(row.length + 62) / 63
theorem ZCw {C:Chn} {row:Row} (h:Z0 row≤C.free.length):∃ i C',putC C row=.ok (i,C')∧C.free.length≤C'.free.length + Z0 row:=by
 unfold putC
 split
 ·exact ⟨_,_,rfl,Nat.le_add_right _ _⟩
 ·split
  ·exact ⟨_,_,rfl,Nat.le_add_right _ _⟩
  ·split
   ·exact ⟨_,_,rfl,Nat.le_add_right _ _⟩
   ·unfold ZFQ
    unfold Z0 at h ⊢
    rw [if_neg (by omega)]
    refine ⟨_,_,rfl,?_⟩
    show _≤(C.free.drop _).length + _
    rw [List.length_drop]
    omega
theorem ZB2 {S:Sta}:∀ {ns:List Int} {t:Row} {C:Chn},(ns.map fun n=>Z0 (Zbw S n).2).sum≤C.free.length→∃ t' C',tabF S ns t C=.ok (t',C')∧t'.length=t.length + 5 * ns.length∧C.free.length≤C'.free.length + (ns.map fun n=>Z0 (Zbw S n).2).sum
 | [],t,C,_=>⟨t,C,rfl,rfl,Nat.le_add_right _ _⟩
 | n::ns,t,C,h=>by
  rw [List.map_cons,List.sum_cons] at h ⊢
  obtain ⟨i,C1,e1,h1⟩:=ZCw (C:=C) (row:=(Zbw S n).2) (by omega)
  obtain ⟨t',C',e2,h2,h3⟩:=ZB2 (S:=S) (ns:=ns) (t:=t++ZMq n (Zbw S n) i) (C:=C1) (by omega)
  refine ⟨t',C',?_,?_,by omega⟩
  ·rw [ZyI,e1]
   exact e2
  ·rw [h2,List.length_append,List.length_cons]
   show t.length + 5 + _=_
   omega
theorem ZJN {S:Sta} {C:Chn} (h:((ZA S).map fun n=>Z0 (Zbw S n).2).sum + (5 * (ZA S).length + 62) / 63≤C.free.length):∃ t C',Zvl S C=.ok (t,C'):=by
 obtain ⟨t,C1,e1,h1,h2⟩:=ZB2 (S:=S) (ns:=ZA S) (t:=[]) (C:=C) (by omega)
 obtain ⟨i,C2,e2,_⟩:=ZCw (C:=C1) (row:=t) (by unfold Z0;rw [h1];show (0 + _ + 62) / 63≤_;rw [Nat.zero_add];omega)
 refine ⟨[((ZA S).length:Int),i],C2,?_⟩
 unfold Zvl
 rw [e1]
 dsimp only
 rw [e2]
theorem ZDB {S:Sta} {free:List Int} {older:Zbf} (h:((ZA S).map fun n=>Z0 (Zbw S n).2).sum + (5 * (ZA S).length + 62) / 63≤free.length):∃ I,Zgd S [] free older=.ok I:=by
 obtain ⟨t,C',e⟩:=ZJN (S:=S) (C:=⟨free,older,[]⟩) h
 unfold Zgd
 rw [e]
 exact ⟨_,rfl⟩
end KS
namespace KS
open PySem L2
def ZfM (S:Sta) (n:Int):Except Rf Unit:=if Zbb S n then .ok () else .error .noThing
def Zdq (S:Sta) (n:Int):Except Rf Row:=if Zbb S n then (match getA S.ent n with
 | some _=>.error .wrongKind
 | none=>.ok ((getA S.dat n).getD [])) else .error .noThing
def ZC6 (S:Sta):List Int:=(S.ent.map fun p=>p.2.map (·.2)).flatten
def kindOf (S:Sta) (n:Int):Str:=if (getA S.ent n).isSome then "dir" else "file"
def ZAC (S:Sta) (n:Int):Int:=if (getA S.ent n).isSome then 1 else ((ZC6 S).count n:Nat)
def ZHF (S:Sta) (n:Int):Int:=match getA S.ent n with
 | some es=>10 * (es.length:Int)
 | none=>(((getA S.dat n).getD []).length:Nat)
def Zdt (S:Sta) (n ZN:Int) (row:Row):Except Rf Sta:=match Zdq S n with
 | .error r=>.error r
 | .ok d=>if 600 < ZN + (row.length:Int) then .error .tooGreat else if row=[] then .ok S else
  .ok ⟨putA S.dat n ((padF d ZN).take ZN.toNat++row++d.drop (ZN + (row.length:Int)).toNat),S.ent⟩
def Zem (S:Sta) (n size:Int):Except Rf Sta:=match Zdq S n with
 | .error r=>.error r
 | .ok d=>if 600 < size then .error .tooGreat else .ok ⟨putA S.dat n ((padF d size).take size.toNat),S.ent⟩
def ZlA (S:Sta) (old new:Str):Except Rf Sta:=if !Zcq old then .error .badName else if !Zcq new then .error .badName else
 match ZjJ S (ZD old) [0] with
 | .error r=>.error r
 | .ok ps=>if (getA S.ent (ps.getLastD 0)).isSome then .error .wrongKind else match ZbB S new with
  | .error r=>.error r
  | .ok d=>if 40≤((getA S.ent d).getD []).length then .error .tooGreat else .ok (Zhx S d (Zeu new) (ps.getLastD 0))
theorem ZNS {S:Sta} {p:Str} {d:Int} (h:ZbB S p=.ok d):p≠"/"∧∃ es,getA S.ent d=some es:=by
 unfold ZbB at h
 split at h
 ·cases h
 ·rename_i h0
  cases hw:Zhy S p with
  | error r=>rw [hw] at h;cases h
  | ok ps=>
   rw [hw] at h
   dsimp only at h
   unfold Zhy at hw
   cases h2:ZjJ S (ZD p).dropLast [0] with
   | error r=>rw [h2] at hw;cases hw
   | ok qs=>
    rw [h2] at hw
    dsimp only at hw
    cases h3:getA S.ent (qs.getLastD 0) with
    | none=>rw [h3] at hw;cases hw
    | some es=>
     rw [h3] at hw
     cases hw
     rw [h3] at h
     dsimp only at h
     split at h
     ·cases h
     ·cases h
      exact ⟨h0,es,h3⟩
theorem ZAZ (xs:List Int) (n:Int) (h:0≤n):cutV (xs.map V.int) none (some n)=(xs.take n.toNat).map V.int:=by
 rw [show n=((n.toNat:Nat):Int) by omega,ZD2]
 rfl
theorem ZD3 (xs:List Int) (n:Int) (h:0≤n):cutV (xs.map V.int) (some n) none=(xs.drop n.toNat).map V.int:=by
 rw [show n=((n.toNat:Nat):Int) by omega]
 generalize n.toNat=m
 unfold cutV
 rw [HT.sIx_none,HT.sIx_nat,← List.map_drop,← List.map_take,List.length_map]
 congr 1
 rw [Int.toNat_natCast]
 rcases Nat.le_total m xs.length with h | h
 ·rw [Nat.min_eq_left h]
  exact List.take_of_length_le (by rw [List.length_drop];exact Nat.le_refl _)
 ·rw [Nat.min_eq_right h,List.drop_of_length_le h,List.drop_length,Nat.sub_self]
  rfl
theorem ZfK (xs:List Int) (a b:Int) (h0:0≤a) (h1:0≤b):cutV (xs.map V.int) (some a) (some (a + b))=((xs.drop a.toNat).take b.toNat).map V.int:=by
 rw [show a + b=((a.toNat + b.toNat:Nat):Int) by omega,show a=((a.toNat:Nat):Int) by omega]
 rw [Int.toNat_natCast]
 generalize a.toNat=m
 generalize b.toNat=k
 unfold cutV
 rw [HT.sIx_nat,HT.sIx_nat,← List.map_drop,← List.map_take,List.length_map]
 congr 1
 rcases Nat.le_total m xs.length with h | h
 ·rw [Nat.min_eq_left h]
  rcases Nat.le_total (m + k) xs.length with h2 | h2
  ·rw [Nat.min_eq_left h2,Nat.add_sub_cancel_left]
  ·rw [Nat.min_eq_right h2,List.take_of_length_le (by rw [List.length_drop];omega),List.take_of_length_le (by rw [List.length_drop];omega)]
 ·rw [Nat.min_eq_right h,Nat.min_eq_right (by omega),List.drop_length,List.drop_of_length_le h,List.take_nil,List.take_nil]
theorem ZMl (xs:List Int) (n:Int):((xs.map V.int).countP fun z=>eqV z (.int n))=xs.count n:=by
 rw [List.countP_map,List.count]
 congr 1
section
variable {P:Program} {w:World} {K:PySem.W.Frag} {mg:Str→Option Value} {base:Heap} {g:Gs}
def ZB8 (g:Gs):Sp:=fun vs H Q E=>∃ v S n,vs=[v,.int n]∧ZL g H S v∧Ans g ZHk H (ZfM S n) Q E
theorem Zwo:Zo ["state","number"] ["state","number"] (Zj Zbj):=⟨rfl,rfl,rfl,by decide +kernel,rfl,by decide +kernel,by decide +kernel⟩
theorem Zkd (T:Tx K mg g):FnOk P w K mg base (CXE P w) 2 g.ZlI g.Zgt ["state","number"] (ZB8 g):=by
 refine T.ZgZ.okE Zwo (fun vs H Q E h=>?_) (fun cdv A outer s H vs Q E hr h=>?_)
 ·obtain ⟨v,S,n,rfl,_⟩:=h
  rfl
 ·obtain ⟨v,S,n,rfl,hS,q⟩:=h
  refine ⟨_,(Zi (Zav (Zug (Zuf (Zp (Zur T) hr.dn rfl T.Zxz T.ZqY.kp T.Zyk .nil Zg (Za (pv 0) (Za (pv 1) Zc))))) (Zi (ZaK T.ZBS rfl T.ZuL (Za ZR Zc))) ZP)),?_⟩
  refine ⟨_,rfl,_,rfl,v,S,n,rfl,hS,_,rfl,?_⟩
  cases hb:Zbb S n with
  | true=>exact iteF (q.ok (x:=()) (by unfold ZfM;rw [hb];rfl) _ _ (Same.refl _) rfl)
  | false=>exact iteT ⟨szl 1,q.no (r:=.noThing) (by unfold ZfM;rw [hb];rfl) _ (Same.refl _)⟩
def ZM2 (g:Gs):Sp:=fun vs H Q E=>∃ v S n,vs=[v,.int n]∧ZL g H S v∧Ans g ZV H (Zdq S n) Q E
theorem ZI2:Zo ["state","number"] ["state","number"] (Zj Zfu):=⟨rfl,rfl,rfl,by decide +kernel,rfl,by decide +kernel,by decide +kernel⟩
theorem Zqg (T:Tx K mg g):FnOk P w K mg base (CXE P w) 3 g.ZGS g.Zvv ["state","number"] (ZM2 g):=by
 refine T.ZpH.okE ZI2 (fun vs H Q E h=>?_) (fun cdv A outer s H vs Q E hr h=>?_)
 ·obtain ⟨v,S,n,rfl,_⟩:=h
  rfl
 ·obtain ⟨v,S,n,rfl,hSS,q⟩:=h
  have hu:=u1 hr.units
  refine ⟨_,(Ze (ZW (Zp (Zkd T) hr.dn rfl T.Znq T.ZgZ.kp T.Zpb .nil Zg (Za (pv 0) (Za (pv 1) Zc))))
   (Ze (Zav (ZdU (Zkc hu (pv 1) (ZC (pv 0) rfl))) (Zi (ZaK T.ZtR rfl T.Zlz (Za ZR Zc))) ZP)
   (Zi (Zz (ZbM hu (ZC (pv 0) rfl) (pv 1) (fun _ _=>rfl)))))),?_⟩
  refine ⟨_,rfl,_,rfl,v,S,n,rfl,hSS,?_⟩
  unfold ZfM
  unfold Zdq at q
  cases hb:Zbb S n with
  | false=>
   rw [hb] at q
   exact fun H' s'=>q H' s'
  | true=>
   rw [hb,if_pos rfl] at q
   intro v1 H1 s1 _
   obtain ⟨p,dx,da,ea,dk,ek,rfl,hS⟩:=ZL.mono _ _ _ _ s1 hSS
   refine ⟨_,rfl,_,rfl,p,_,dx,_,_,rfl,hS.ob,T.Z3,T.Zr,ZhE _ _,ea,_,rfl,DGet.k hS.he (k:=.inl n),_,rfl,?_⟩
   rw [hS.re.some Zay]
   cases hg:getA S.ent n with
   | some es=>
    rw [hg] at q
    exact iteT ⟨szl 1,q _ s1⟩
   | none=>
    rw [hg] at q
    have hd:∃ row,getA S.dat n=some row:=by
     unfold Zbb at hb
     rw [hg,Option.isSome_none,Bool.or_false] at hb
     exact Option.isSome_iff_exists.mp hb
    obtain ⟨row,hd⟩:=hd
    rw [hd] at q
    obtain ⟨vr,hv1,hrow⟩:=hS.rd.yes Zay hd
    refine iteF ⟨_,rfl,p,_,dx,_,_,rfl,hS.ob,T.Z3,T.Z6,Zwm _ _,_,rfl,da,vr,rfl,(by have:=DGet.k hS.hd (k:=.inl n);rw [hv1] at this;exact this),?_⟩
    exact q _ _ s1 hrow
def ZMY (g:Gs):Sp:=fun vs H Q _=>∃ v S n,vs=[v,.int n]∧ZL g H S v∧Q (.str (kindOf S n)) H
theorem ZIZ:Zo ["state","number"] ["state","number"] (Zj Zft):=⟨rfl,rfl,rfl,by decide +kernel,rfl,by decide +kernel,by decide +kernel⟩
theorem ZJl (T:Tx K mg g):FnOk P w K mg base (CXE P w) 1 g.ZGG g.ZuZ ["state","number"] (ZMY g):=by
 refine T.ZE5.okE ZIZ (fun vs H Q E h=>?_) (fun cdv A outer s H vs Q E hr h=>?_)
 ·obtain ⟨v,S,n,rfl,_⟩:=h
  rfl
 ·obtain ⟨v,S,n,rfl,⟨p,dx,da,ea,dk,ek,rfl,hS⟩,q⟩:=h
  have hu:=u1 hr.units
  refine ⟨_,(Zi (Zz (Zzv (ZdU (Zkc hu (pv 1) (ZC (pv 0) rfl))) ZR ZR))),?_⟩
  refine ⟨_,rfl,_,rfl,p,_,dx,_,_,rfl,hS.ob,T.Z3,T.Zr,ZhE _ _,ea,_,rfl,DGet.k hS.he (k:=.inl n),_,rfl,?_⟩
  rw [hS.re.some Zay]
  unfold kindOf at q
  cases hd:(getA S.ent n).isSome with
  | true=>rw [hd] at q;exact iteT q
  | false=>rw [hd] at q;exact iteF q
def ZMV (g:Gs):Sp:=fun vs H Q _=>∃ v S n,vs=[v,.int n]∧ZL g H S v∧Zbb S n=true∧Q (.int (ZHF S n)) H
theorem ZIY:Zo ["state","number"] ["state","number"] (Zj Zfr):=⟨rfl,rfl,rfl,by decide +kernel,rfl,by decide +kernel,by decide +kernel⟩
theorem ZJj (T:Tx K mg g):FnOk P w K mg base (CXE P w) 1 g.ZF1 g.Zt6 ["state","number"] (ZMV g):=by
 refine T.ZE3.okE ZIY (fun vs H Q E h=>?_) (fun cdv A outer s H vs Q E hr h=>?_)
 ·obtain ⟨v,S,n,rfl,_⟩:=h
  rfl
 ·obtain ⟨v,S,n,rfl,⟨p,dx,da,ea,dk,ek,rfl,hS⟩,hb,q⟩:=h
  have hu:=u1 hr.units
  refine ⟨_,(Ze (Zav (ZdU (Zkc hu (pv 1) (ZC (pv 0) rfl))) (Zi (Zz (Zt Zm9 (ZI (v:=.int 10) rfl T.Ziv ⟨_,rfl⟩) (ZB ZEd (by rfl) T.Zbv PySem.boot_len (Za (ZbM hu (ZC (pv 0) rfl) (pv 1) (fun _ _=>rfl)) Zc))))) ZP)
   (Zi (Zz (ZB Zu (by rfl) T.Zbv PySem.boot_len (Za (ZbM hu (ZC (pv 0) rfl) (pv 1) (fun _ _=>rfl)) Zc))))),?_⟩
  refine ⟨_,rfl,_,rfl,p,_,dx,_,_,rfl,hS.ob,T.Z3,T.Zr,ZhE _ _,ea,_,rfl,DGet.k hS.he (k:=.inl n),_,rfl,?_⟩
  rw [hS.re.some Zay]
  unfold ZHF at q
  cases hg:getA S.ent n with
  | some es=>
   rw [hg] at q
   obtain ⟨ve,hv1,⟨ae,rfl,hae⟩⟩:=hS.re.yes Zay hg
   refine iteT ⟨_,rfl,p,_,dx,_,_,rfl,hS.ob,T.Z3,T.Zr,ZhE _ _,_,rfl,ea,_,rfl,(by have:=DGet.k hS.he (k:=.inl n);rw [hv1] at this;exact this),ae,_,rfl,hae,_,_,rfl,rfl,.inl ⟨by decide,by decide⟩,?_⟩
   rw [ZGQ]
   exact q
  | none=>
   rw [hg] at q
   have hd:∃ row,getA S.dat n=some row:=by
    unfold Zbb at hb
    rw [hg,Option.isSome_none,Bool.or_false] at hb
    exact Option.isSome_iff_exists.mp hb
   obtain ⟨row,hd⟩:=hd
   rw [hd] at q
   obtain ⟨vr,hv1,⟨t,rfl,ht⟩⟩:=hS.rd.yes Zay hd
   refine iteF ⟨_,rfl,p,_,dx,_,_,rfl,hS.ob,T.Z3,T.Z6,Zwm _ _,_,rfl,da,_,rfl,(by have:=DGet.k hS.hd (k:=.inl n);rw [hv1] at this;exact this),t,_,rfl,.inr (SqT.of ht),?_⟩
   rw [List.length_map]
   exact q
theorem ZJC (S:Sta) {i:Nat} {p:Int×Ents} (h:S.ent[i]?=some p):((S.ent.take (i + 1)).map fun p=>p.2.map (·.2)).flatten=((S.ent.take i).map fun p=>p.2.map (·.2)).flatten++p.2.map (·.2):=by
 have hi:i < S.ent.length:=(List.getElem?_eq_some_iff.mp h).1
 rw [List.take_succ_eq_append_getElem hi,List.map_append,List.flatten_append]
 rw [(List.getElem?_eq_some_iff.mp h).2]
 simp
def ZO7 (g:Gs):Sp:=fun vs H Q _=>∃ v S,vs=[v]∧ZL g H S v∧(ZC6 S).length≤100000∧∀ l H',Same H H'→H' l=some (.lst ((ZC6 S).map V.int))→Q (.ref l) H'
theorem ZMd {H:Hp} {xs:List (Int×Ents)} {kvs:List (Key×V)} (h:Z1 Sum.inl ZfW H xs kvs) {i:Nat} {v:V} (hv:(kvs.map (·.2))[i]?=some v):∃ p,xs[i]?=some p∧ZfW H p.2 v:=by
 unfold Z1 at h
 induction h generalizing i with
 | nil=>simp at hv
 | @cons p q _ _ a t ih=>
  cases i with
  | zero=>simp at hv;subst hv;exact ⟨q,rfl,a.2⟩
  | succ i=>obtain ⟨p',h1,h2⟩:=ih (i:=i) (by simpa using hv);exact ⟨p',by simpa using h1,h2⟩
theorem ZH7 (es:Ents):(eKV es).map (fun q=>q.2)=(es.map (·.2)).map V.int:=by
 unfold eKV
 rw [List.map_map,List.map_map]
 rfl
theorem Zdf:Zo ["state","found","entries"] ["state"] (Zj Zat):=⟨rfl,rfl,rfl,by decide +kernel,rfl,by decide +kernel,by decide +kernel⟩
theorem Ztr (T:Tx K mg g):FnOk P w K mg base (CXE P w) 1 g.Zf7 g.ZdW ["state"] (ZO7 g):=by
 refine T.Zjm.okE Zdf (fun vs H Q E h=>?_) (fun cdv A outer s H vs Q E hr h=>?_)
 ·obtain ⟨v,S,rfl,_⟩:=h
  rfl
 ·obtain ⟨v,S,rfl,⟨p,dx,da,ea,dk,ek,rfl,hS⟩,hfl,q⟩:=h
  have hu:=u1 hr.units
  refine ⟨_,(Ze (ZJ (i:=1) Zdf.nd rfl (Or.inl rfl) (Zbs Zc))
   (Ze (ZGe (Zfv PassesOwn.leaving rfl (ZK7 (ZCB PySem.F.plainAttrs_dict PySem.F.slot_dict_values PySem.F.type_dict_values Zql (ZC (pv 0) rfl))) (Z5 (i:=2) Zdf.nd rfl (Or.inl rfl)) (Zi (ZW (Ztq PySem.F.plainAttrs_list PySem.F.slot_list_extend PySem.F.type_list_extend ZLp (pv 1) (Za (ZaS ZJW rfl T.Zq2 PyProof.Rows.Boot.«list» (Za (ZCB PySem.F.plainAttrs_dict PySem.F.slot_dict_values PySem.F.type_dict_values Zql (pv 2)) Zc)) Zc))))))
   (Zi (Zz (pv 1))))),?_⟩
  refine ⟨Nat.zero_le _,fun D hD=>?_⟩
  have ha:=hS.he
  have naD:ea≠D:=Zf ha hD
  have npD:p≠D:=Zf hS.ob hD
  refine ⟨ea,.dK ek,(by rw [Zd naD];exact ha),rfl,?_⟩
  refine ⟨_,rfl,p,_,dx,_,_,rfl,(by rw [Zd npD];exact hS.ob),T.Z3,T.Zr,ZhE _ _,?_⟩
  refine ⟨.inr (.inr (.inl ⟨rfl,.inl ⟨ek,(by rw [Zd naD];exact ha)⟩⟩)),ea,.dK ek,rfl,rfl,.inl (by rw [Zd naD];exact ha),rfl,fun r hr1=>?_⟩
  have nar:ea≠r:=Zf (H:=upd H D (.lst [])) (by rw [Zd naD];exact ha) hr1
  have nDr:D≠r:=Zf (H:=upd H D (.lst [])) Zb hr1
  have hrH:H r=none:=by rw [Zd nDr.symm] at hr1;exact hr1
  refine ⟨r,ea,.dK ek,rfl,Zb,(by rw [Zd nar,Zd naD];exact ha),rfl,fun ob=>?_⟩
  refine ZH2 (d:=ea) (ob:=ob) (u:=.dK ek) (fun i σ H'=>(∃ o2,σ=[some (.ref p),some (.ref D),o2])∧H' ea=some (.frz ob (.dK ek))∧H' D=some (.lst ((((S.ent.take i).map fun p=>p.2.map (·.2)).flatten).map V.int))∧∀ b o,H b=some o→b≠ea→H' b=some o)
   ⟨⟨none,rfl⟩,Zb,(by rw [Zd naD.symm,Zd nDr];exact Zb),fun b o e hb=>by rw [Zd hb,Zd (Zf e hrH),Zd (Zf e hD)];exact e⟩ (fun i σ H' _ h=>h.2.1) (fun i x σ H' hx h=>?_) (fun σ H' h=>?_)
  ·obtain ⟨⟨o2,rfl⟩,hfz,hDl,kp⟩:=h
   obtain ⟨pe,hp,ae,rfl,hae⟩:=ZMd hS.re hx
   have nae:ae≠ea:=fun z=>by
    subst z
    have e:=Option.some.inj (ha.symm.trans hae)
    injection e with e
    have hx':(ek.map (·.2))[i]?=some (.ref ae):=hx
    rw [List.getElem?_map] at hx'
    cases hk:ek[i]? with
    | none=>rw [hk] at hx';cases hx'
    | some kv=>
     obtain ⟨y,_,e1,_⟩:=Zm8 hS.re hk
     rw [e] at hk
     unfold eKV at hk
     rw [List.getElem?_map] at hk
     cases hq:pe.2[i]? with
     | none=>rw [hq] at hk;cases hk
     | some u=>
      rw [hq] at hk
      rw [← Option.some.inj hk] at e1
      cases e1
   have hae':=kp _ _ hae nae
   have hlt:(((S.ent.take (i + 1)).map fun p=>p.2.map (·.2)).flatten).length≤100000:=by
    have e1:ZC6 S=((S.ent.take (i + 1)).map fun p=>p.2.map (·.2)).flatten++((S.ent.drop (i + 1)).map fun p=>p.2.map (·.2)).flatten:=by
     unfold ZC6
     rw [← List.flatten_append,← List.map_append,List.take_append_drop]
    rw [e1,List.length_append] at hfl
    omega
   rw [ZJC S hp] at hlt ⊢
   generalize ((S.ent.take i).map fun p=>p.2.map (·.2)).flatten=F at hDl hlt
   rw [List.length_append] at hlt
   refine ⟨_,rfl,.inl ⟨rfl,_,SqL.of hDl⟩,_,rfl,.inr (.inr (.inl ⟨rfl,.inl ⟨_,hae'⟩⟩)),ae,.dK _,rfl,rfl,.inl hae',rfl,fun r2 hr2=>?_⟩
   have s2:=Zh (o:=ZKg r2 ae) hr2
   refine ⟨r2,ae,_,rfl,Zb,.inl (s2 _ _ hae'),fun l2 hl2=>?_⟩
   have s3:=Zh (o:=.lst ((eKV pe.2).map fun q=>q.2)) hl2
   refine ⟨D,l2,_,_,rfl,rfl,s3 _ _ (s2 _ _ hDl),Zb,?_,?_⟩
   ·rw [ZH7,List.length_map,List.length_map]
    exact Zs hlt (by decide)
   ·have sA:=s2.trans s3
    have nlD:ea≠D:=naD
    refine ⟨⟨_,rfl⟩,(by rw [Zd nlD];exact sA _ _ hfz),?_,fun b o e hb=>?_⟩
    ·rw [ZH7,List.map_append];exact Zb
    ·rw [Zd (Zf e hD)];exact sA _ _ (kp _ _ e hb)
  ·obtain ⟨⟨o2,rfl⟩,hfz,hDl,kp⟩:=h
   have hdl:(Ze8 (.dK ek)).length=S.ent.length:=by show (ek.map (·.2)).length=_;rw [List.length_map,hS.re.len]
   rw [hdl,List.take_length] at hDl
   refine ⟨ob,.dK ek,hfz,rfl,?_⟩
   have sm:Same H (upd H' ea (.dK ek)):=fun b o e=>by
    by_cases z:b=ea
    ·subst z;rw [Zb,← e,ha]
    ·rw [Zd z];exact kp _ _ e z
   exact ⟨_,rfl,q _ _ sm (by rw [Zd naD.symm];exact hDl)⟩
end
end KS
namespace KS
open PySem L2
section
variable {P:Program} {w:World} {K:PySem.W.Frag} {mg:Str→Option Value} {base:Heap} {g:Gs}
def ZKA (g:Gs):Sp:=fun vs H Q _=>∃ v S n,vs=[v,.int n]∧ZL g H S v∧(ZC6 S).length≤100000∧∀ H',Same H H'→Q (.int (ZAC S n)) H'
theorem ZF4:Zo ["state","number"] ["state","number"] (Zj ZdJ):=⟨rfl,rfl,rfl,by decide +kernel,rfl,by decide +kernel,by decide +kernel⟩
theorem ZGh (T:Tx K mg g):FnOk P w K mg base (CXE P w) 2 g.ZAB g.Zqn ["state","number"] (ZKA g):=by
 refine T.Zyu.okE ZF4 (fun vs H Q E h=>?_) (fun cdv A outer s H vs Q E hr h=>?_)
 ·obtain ⟨v,S,n,rfl,_⟩:=h
  rfl
 ·obtain ⟨v,S,n,rfl,hSS,hl,q⟩:=h
  obtain ⟨p,dx,da,ea,dk,ek,rfl,hS⟩:=id hSS
  have hu:=u1 hr.units
  refine ⟨_,(Ze (Zav (ZdU (Zkc hu (pv 1) (ZC (pv 0) rfl))) (Zi (Zz Zm)) ZP)
   (Zi (Zz (Ztq PySem.F.plainAttrs_list PySem.F.slot_list_count PySem.F.type_list_count ZHQ (Zp (Ztr T) hr.dn rfl T.ZuJ T.Zjm.kp T.ZvO .nil Zg (Za (pv 0) Zc)) (Za (pv 1) Zc))))),?_⟩
  refine ⟨_,rfl,_,rfl,p,_,dx,_,_,rfl,hS.ob,T.Z3,T.Zr,ZhE _ _,ea,_,rfl,DGet.k hS.he (k:=.inl n),_,rfl,?_⟩
  rw [hS.re.some Zay]
  unfold ZAC at q
  cases hd:(getA S.ent n).isSome with
  | true=>rw [hd] at q;exact iteT (q _ (Same.refl _))
  | false=>
   rw [hd] at q
   refine iteF ⟨_,rfl,_,S,rfl,hSS,hl,fun l H1 s1 hl1=>?_⟩
   refine ⟨.inl ⟨rfl,_,SqL.of hl1⟩,_,rfl,l,_,_,rfl,rfl,SqL.of hl1,rfl,?_,?_⟩
   ·rw [List.all_map];exact List.all_eq_true.mpr fun _ _=>rfl
   ·rw [ZMl]
    exact q _ s1
theorem Zzd:Zo ["row","size"] ["row","size"] (Zj ZbW):=⟨rfl,rfl,rfl,by decide +kernel,rfl,by decide +kernel,by decide +kernel⟩
theorem Zne (T:Tx K mg g):FnOk P w K mg base (CXE P w) 1 g.lengthened g.Zia ["row","size"] ZHC:=by
 refine T.Zjo.okE Zzd (fun vs H Q E h=>?_) (fun cdv A outer s H vs Q E hr h=>?_)
 ·obtain ⟨row,v,n,rfl,_⟩:=h
  rfl
 ·obtain ⟨row,v,n,rfl,⟨t,rfl,ht⟩,hl,hn0,hn1,q⟩:=h
  refine ⟨_,(Zi (Zz (Zt Zbt (pv 0) (Zt Zup (Zar (Za Zm Zc)) (Zt Zfx (pv 1) (ZB Zu (by rfl) T.Zbv PySem.boot_len (Za (pv 0) Zc))))))),?_⟩
  refine ⟨_,rfl,szl 1,fun b hb=>?_⟩
  have s2:=Zh (o:=.tup [.int 0]) hb
  refine ⟨_,rfl,_,rfl,t,_,rfl,.inr (SqT.of (s2 _ _ ht)),_,_,rfl,rfl,b,_,_,rfl,rfl,Zb,by simp,?_,?_,?_,fun c H2 s3 hc=>?_⟩
  ·rw [List.length_map];omega
  ·rw [List.length_map];omega
  ·rw [List.length_map];show 1 * _≤_;exact Zs (m:=20000) (by omega) (by decide)
  rw [Zf1,List.length_map] at hc
  have ht2:=s3 _ _ (s2 _ _ ht)
  refine ⟨t,c,_,_,rfl,rfl,SqT.of ht2,SqT.of hc,fun _=>hc,fun _ _=>ht2,?_,fun d H3 s4 hd=>?_⟩
  ·rw [List.length_map,List.length_replicate];exact Zs (m:=40000) (by omega) (by decide)
  refine q _ H3 (s2.trans (s3.trans s4)) ⟨d,rfl,?_⟩
  rw [hd]
  unfold padF
  rw [List.map_append,List.map_replicate]
theorem ZAX {S:Sta} (so:ZbR S) {n:Int} {d:Row} (h:Zdq S n=.ok d):d.length≤1000:=by
 unfold Zdq at h
 split at h
 ·split at h
  ·cases h
  ·cases h
   cases hd:getA S.dat n with
   | none=>exact Nat.zero_le _
   | some r=>exact so.row n r hd
 ·cases h
def ZKu (g:Gs):Sp:=fun vs H Q E=>∃ v S n ZN l row,vs=[v,.int n,.int ZN,.ref l]∧ZL g H S v∧ZbR S∧0≤ZN∧H l=some (.lst (row.map V.int))∧row.length≤1000∧Ans g (ZL g) H (Zdt S n ZN row) Q E
theorem Zjw:Zo ["state","number","start","row","data","end","ahead"] ["state","number","start","row"] (Zj Zfq):=⟨rfl,rfl,rfl,by decide +kernel,rfl,by decide +kernel,by decide +kernel⟩
theorem ZJi (T:Tx K mg g):FnOk P w K mg base (CXE P w) 4 g.written g.ZtS ["state","number","start","row"] (ZKu g):=by
 refine T.ZE2.okE Zjw (fun vs H Q E h=>?_) (fun cdv A outer s H vs Q E hr h=>?_)
 ·obtain ⟨v,S,n,ZN,l,row,rfl,_⟩:=h
  rfl
 ·obtain ⟨v,S,n,ZN,l,row,rfl,hS,so,hst,hl,hrl,q⟩:=h
  refine ⟨_,(Ze (ZJ (i:=4) Zjw.nd rfl (Or.inl rfl) (Zp (Zqg T) hr.dn rfl T.ZuK T.ZpH.kp T.ZvP .nil Zg (Za (pv 0) (Za (pv 1) Zc))))
   (Ze (ZJ (i:=5) Zjw.nd rfl (Or.inl rfl) (Zt ZcD (pv 2) (ZB Zu (by rfl) T.Zbv PySem.boot_len (Za (pv 3) Zc))))
   (Ze (Zav (ZU ZCD (pv 5) (ZI (v:=.int 600) rfl T.Zez ⟨_,rfl⟩) (Zac _)) (Zi (ZaK T.Zfo rfl T.ZdO (Za ZR Zc))) ZP)
   (Ze (Zav (ZU Zuq (ZB Zu (by rfl) T.Zbv PySem.boot_len (Za (pv 3) Zc)) Zm (Zac _)) (Zi (Zz (pv 0))) ZP)
   (Ze (ZJ (i:=6) Zjw.nd rfl (Or.inl rfl) (ZaM ZpM (Zp (Zne T) hr.dn rfl T.Zrm T.Zjo.kp T.ZsX .nil Zg (Za (pv 4) (Za (pv 2) Zc))) ZdV (ZaL (pv 2))))
   (Zi (Zz (Zp (Zh6 T) hr.dn rfl T.Zlx T.ZgY.kp T.ZlP .nil Zg (Za (pv 0) (Za (pv 1) (Za (Zt Zbt (Zt Zbt (pv 6) (ZaS ZgT rfl T.ZtJ PyProof.Rows.Boot.«tuple» (Za (pv 3) Zc))) (ZaM ZpM (pv 4) (ZaL (pv 5)) ZdV)) Zc))))))))))),?_⟩
  refine ⟨_,rfl,_,rfl,v,S,n,rfl,hS,?_⟩
  unfold Zdt at q
  cases hd:Zdq S n with
  | error r=>
   rw [hd] at q
   exact fun H' s'=>q H' s'
  | ok d=>
   rw [hd] at q
   dsimp only at q
   intro u H1 s1 hu1
   have hdl:=ZAX so hd
   have hl1:=s1 _ _ hl
   refine ⟨_,rfl,_,rfl,l,_,rfl,.inl (SqL.of hl1),_,_,rfl,rfl,?_⟩
   rw [List.length_map]
   refine ⟨_,rfl,_,_,rfl,rfl,_,rfl,?_⟩
   by_cases h6:600 < ZN + (row.length:Int)
   ·rw [if_pos h6] at q
    rw [decide_eq_true h6]
    exact iteT ⟨szl 1,q _ s1⟩
   rw [if_neg h6] at q
   rw [decide_eq_false h6]
   refine iteF ⟨_,rfl,l,_,rfl,.inl (SqL.of hl1),rfl,_,rfl,?_⟩
   rw [List.length_map]
   by_cases h0:row=[]
   ·rw [if_pos h0] at q
    rw [decide_eq_true (show V.int (row.length:Int)=V.int 0 by rw [h0];rfl)]
    exact iteT ⟨_,rfl,q _ _ s1 (ZL.mono _ _ _ _ s1 hS)⟩
   rw [if_neg h0] at q
   rw [decide_eq_false (show ¬ V.int (row.length:Int)=V.int 0 by
    intro z
    injection z with z
    exact h0 (List.length_eq_zero_iff.mp (by omega)))]
   refine iteF ?_
   refine ⟨_,rfl,_,rfl,d,u,ZN,rfl,hu1,by omega,by omega,by omega,fun u2 H2 s2 hu2=>?_⟩
   obtain ⟨t2,rfl,ht2⟩:=hu2
   refine ⟨_,rfl,_,rfl,t2,_,rfl,ht2,fun t3 H3 s3 ht3=>?_⟩
   rw [ZAZ _ _ hst] at ht3
   have s13:=s2.trans s3
   have hl3:=s13 _ _ hl1
   refine ⟨_,rfl,_,rfl,_,rfl,_,rfl,l,_,rfl,.inl ⟨SqL.of hl3,fun t4 hn4=>?_⟩⟩
   have s4:=Zh (o:=.tup (row.map V.int)) hn4
   have f4:=Zb (H:=H3) (a:=t4) (o:=.tup (row.map V.int))
   have ht3':=s4 _ _ ht3
   refine ⟨t3,t4,_,_,rfl,rfl,SqT.of ht3',SqT.of f4,fun _=>f4,fun _ _=>ht3',?_,fun t5 H5 s5 ht5=>?_⟩
   ·rw [List.length_map,List.length_map,List.length_take]
    exact Zs (m:=20000) (by omega) (by decide)
   obtain ⟨tu,rfl,htu⟩:=ZV.mono _ _ _ _ ((s13.trans s4).trans s5) hu1
   refine ⟨_,rfl,_,rfl,_,rfl,tu,_,rfl,htu,fun t6 H6 s6 ht6=>?_⟩
   rw [ZD3 _ _ (by omega)] at ht6
   have ht5':=s6 _ _ ht5
   refine ⟨t5,t6,_,_,rfl,rfl,SqT.of ht5',SqT.of ht6,fun _=>ht6,fun _ _=>ht5',?_,fun t7 H7 s7 ht7=>?_⟩
   ·rw [List.length_append,List.length_map,List.length_map,List.length_map,List.length_take,List.length_drop]
    exact Zs (m:=20000) (by omega) (by decide)
   have sA:=(((s13.trans s4).trans s5).trans s6).trans s7
   refine ⟨v,S,n,(padF d ZN).take ZN.toNat++row++d.drop (ZN + (row.length:Int)).toNat,_,rfl,ZL.mono _ _ _ _ (s1.trans sA) hS,⟨t7,rfl,?_⟩,(by have:=so.n;omega),fun v' H' s' h'=>q _ _ ((s1.trans sA).trans s') h'⟩
   rw [ht7,List.map_append,List.map_append]
def ZKy (g:Gs):Sp:=fun vs H Q E=>∃ v S n size,vs=[v,.int n,.int size]∧ZL g H S v∧ZbR S∧0≤size∧Ans g (ZL g) H (Zem S n size) Q E
theorem Zxj:Zo ["state","number","size","data"] ["state","number","size"] (Zj Zfs):=⟨rfl,rfl,rfl,by decide +kernel,rfl,by decide +kernel,by decide +kernel⟩
theorem ZJk (T:Tx K mg g):FnOk P w K mg base (CXE P w) 4 g.resized g.Zub ["state","number","size"] (ZKy g):=by
 refine T.ZE4.okE Zxj (fun vs H Q E h=>?_) (fun cdv A outer s H vs Q E hr h=>?_)
 ·obtain ⟨v,S,n,size,rfl,_⟩:=h
  rfl
 ·obtain ⟨v,S,n,size,rfl,hS,so,hst,q⟩:=h
  refine ⟨_,(Ze (ZJ (i:=3) Zxj.nd rfl (Or.inl rfl) (Zp (Zqg T) hr.dn rfl T.ZuK T.ZpH.kp T.ZvP .nil Zg (Za (pv 0) (Za (pv 1) Zc))))
   (Ze (Zav (ZU ZCD (pv 2) (ZI (v:=.int 600) rfl T.Zez ⟨_,rfl⟩) (Zac _)) (Zi (ZaK T.Zfo rfl T.ZdO (Za ZR Zc))) ZP)
   (Zi (Zz (Zp (Zh6 T) hr.dn rfl T.Zlx T.ZgY.kp T.ZlP .nil Zg (Za (pv 0) (Za (pv 1) (Za (ZaM ZpM (Zp (Zne T) hr.dn rfl T.Zrm T.Zjo.kp T.ZsX .nil Zg (Za (pv 3) (Za (pv 2) Zc))) ZdV (ZaL (pv 2))) Zc)))))))),?_⟩
  refine ⟨_,rfl,_,rfl,v,S,n,rfl,hS,?_⟩
  unfold Zem at q
  cases hd:Zdq S n with
  | error r=>
   rw [hd] at q
   exact fun H' s'=>q H' s'
  | ok d=>
   rw [hd] at q
   dsimp only at q
   intro u H1 s1 hu1
   have hdl:=ZAX so hd
   refine ⟨_,rfl,_,_,rfl,rfl,_,rfl,?_⟩
   by_cases h6:600 < size
   ·rw [if_pos h6] at q
    rw [decide_eq_true h6]
    exact iteT ⟨szl 1,q _ s1⟩
   rw [if_neg h6] at q
   rw [decide_eq_false h6]
   refine iteF ⟨_,rfl,_,rfl,_,rfl,_,rfl,d,u,size,rfl,hu1,by omega,by omega,by omega,fun u2 H2 s2 hu2=>?_⟩
   obtain ⟨t2,rfl,ht2⟩:=hu2
   refine ⟨_,rfl,_,rfl,t2,_,rfl,ht2,fun t3 H3 s3 ht3=>?_⟩
   rw [ZAZ _ _ hst] at ht3
   have sA:=(s1.trans s2).trans s3
   exact ⟨v,S,n,(padF d size).take size.toNat,_,rfl,ZL.mono _ _ _ _ sA hS,⟨t3,rfl,ht3⟩,(by have:=so.n;omega),fun v' H' s' h'=>q _ _ (sA.trans s') h'⟩
def ZMW (g:Gs):Sp:=fun vs H Q E=>∃ v S old new,vs=[v,.str old,.str new]∧ZL g H S v∧ZqP S∧old.length≤1000∧new.length≤1000∧Ans g (ZL g) H (ZlA S old new) Q E
theorem Zt9:Zo ["state","old","new","number","directory"] ["state","old","new"] (Zj Zjy):=⟨rfl,rfl,rfl,by decide +kernel,rfl,by decide +kernel,by decide +kernel⟩
theorem ZLf (T:Tx K mg g):FnOk P w K mg base (CXE P w) 5 g.linked g.ZAD ["state","old","new"] (ZMW g):=by
 refine T.ZIm.okE Zt9 (fun vs H Q E h=>?_) (fun cdv A outer s H vs Q E hr h=>?_)
 ·obtain ⟨v,S,old,new,rfl,_⟩:=h
  rfl
 ·obtain ⟨v,S,old,new,rfl,hS,sm,hlo,hln,q⟩:=h
  have hu:=u1 hr.units
  refine ⟨_,(Ze (ZW (Zp (Zdw T) hr.dn rfl T.Zet T.Zde.kp T.ZeQ .nil Zg (Za (pv 1) Zc)))
   (Ze (ZW (Zp (Zdw T) hr.dn rfl T.Zet T.Zde.kp T.ZeQ .nil Zg (Za (pv 2) Zc)))
   (Ze (ZJ (i:=3) Zt9.nd rfl (Or.inl rfl) (Zaw ZbN (Zp (ZGg T) hr.dn rfl T.ZLt T.ZIl.kp T.ZMt .nil Zg (Za (pv 0) (Za (Zp (ZaO T) hr.dn rfl T.Zba T.ZaG.kp T.Zbe .nil Zg (Za (pv 1) Zc)) Zc))) (Zum Zhz Zm) (fun _ _=>rfl)))
   (Ze (Zav (ZdU (Zkc hu (pv 3) (ZC (pv 0) rfl))) (Zi (ZaK T.ZtR rfl T.Zlz (Za ZR Zc))) ZP)
   (Ze (ZJ (i:=4) Zt9.nd rfl (Or.inl rfl) (Zp (Zng T) hr.dn rfl T.Zro T.Zjq.kp T.ZsZ .nil Zg (Za (pv 0) (Za (pv 2) Zc))))
   (Ze (ZW (Zp (Zfy T) hr.dn rfl T.Zg7 T.Zdl.kp T.Zhh .nil Zg (Za (pv 0) (Za (pv 4) Zc))))
   (Zi (Zz (Zp (Znb T) hr.dn rfl T.Zrj T.Zjk.kp T.ZsU .nil Zg (Za (pv 0) (Za (pv 4) (Za (Zaw ZbN (Zp (ZaO T) hr.dn rfl T.Zba T.ZaG.kp T.Zbe .nil Zg (Za (pv 2) Zc)) (Zum Zhz Zm) (fun _ _=>rfl)) (Za (pv 3) Zc))))))))))))),?_⟩
  refine ⟨_,rfl,old,rfl,hlo,?_⟩
  unfold ZlA at q
  unfold Zdd
  cases hb:Zcq old with
  | false=>
   rw [hb] at q
   exact fun H' s'=>q H' s'
  | true=>
   rw [hb,if_neg (by decide)] at q
   intro v1 H1 s1 _
   refine ⟨_,rfl,new,rfl,hln,?_⟩
   show Ans g ZHk H1 (Zdd new) _ _
   unfold Zdd
   cases hb2:Zcq new with
   | false=>
    rw [hb2] at q
    exact fun H' s'=>q H' (s1.trans s')
   | true=>
    rw [hb2,if_neg (by decide)] at q
    intro v2 H2 s2 _
    have sB:=s1.trans s2
    refine ⟨_,rfl,_,rfl,old,rfl,hlo,fun l H3 s3 hn hl3=>?_⟩
    have sC:=sB.trans s3
    refine ⟨v,S,l,ZD old,rfl,ZL.mono _ _ _ _ sC hS,hl3,?_,fun n hn=>?_,?_⟩
    ·have:=Zdv old;omega
    ·have:=Zdu old n hn;omega
    cases hw:ZjJ S (ZD old) [0] with
    | error r=>
     rw [hw] at q
     exact fun H' s'=>q H' (sC.trans s')
    | ok ps=>
     rw [hw] at q
     dsimp only at q
     intro v4 H4 s4 ⟨D,e,hD⟩
     subst e
     have sD:=sC.trans s4
     refine ⟨_,rfl,D,_,_,_,rfl,rfl,SqL.of hD,ZjI ps (ZtU hw (by decide)).1,?_⟩
     obtain ⟨p,dx,da,ea,dk,ek,rfl,hP⟩:=ZL.mono _ _ _ _ sD hS
     refine ⟨_,rfl,_,rfl,p,_,dx,_,_,rfl,hP.ob,T.Z3,T.Zr,ZhE _ _,ea,_,rfl,DGet.k hP.he (k:=.inl (ps.getLastD 0)),_,rfl,?_⟩
     rw [hP.re.some Zay]
     cases hd:(getA S.ent (ps.getLastD 0)).isSome with
     | true=>
      rw [hd,if_pos rfl] at q
      exact iteT ⟨szl 1,q _ sD⟩
     | false=>
      rw [hd,if_neg (by decide)] at q
      refine iteF ⟨_,rfl,_,rfl,.ref p,S,new,rfl,ZL.mono _ _ _ _ sD hS,hln,?_⟩
      cases hf:ZbB S new with
      | error r=>
       rw [hf] at q
       exact fun H' s'=>q H' (sD.trans s')
      | ok d=>
       rw [hf] at q
       dsimp only at q
       obtain ⟨h0,es,hes⟩:=ZNS hf
       rw [hes] at q
       intro v5 H5 s5 e5
       cases e5
       have sE:=sD.trans s5
       refine ⟨_,rfl,_,rfl,.ref p,S,d,es,rfl,ZL.mono _ _ _ _ sE hS,hes,?_⟩
       by_cases h4:40≤es.length
       ·rw [if_pos h4]
        rw [Option.getD_some,if_pos h4] at q
        exact fun H' s'=>q H' (sE.trans s')
       ·rw [if_neg h4]
        rw [Option.getD_some,if_neg h4] at q
        intro v6 H6 s6 _
        have sF:=sE.trans s6
        refine ⟨_,rfl,_,rfl,_,rfl,new,rfl,hln,fun l7 H7 s7 hn7 hl7=>?_⟩
        refine ⟨_,rfl,l7,_,_,_,rfl,rfl,SqL.of hl7,ZvR _ (Zh3 h0),_,rfl,?_⟩
        exact ⟨.ref p,S,d,Zeu new,ps.getLastD 0,es,rfl,ZL.mono _ _ _ _ (sF.trans s7) hS,sm,hes,fun v' H' s' h'=>q _ _ ((sF.trans s7).trans s') h'⟩
end
end KS
namespace KS
open PySem L2
theorem Zh8 {H H':Hp} {l:Addr} (s:Same H H') (h:H' l=none):H l=none:=by
 cases e:H l with
 | none=>rfl
 | some o=>rw [s _ _ e] at h;cases h
def Zq3 (F:Fil) (n ZN:Int) (row:Row):Except Rf Fil:=match Zdt F.S n ZN row with
 | .error r=>.error r
 | .ok S=>Zte F S F.k
def cutF (F:Fil) (n size:Int):Except Rf Fil:=match Zem F.S n size with
 | .error r=>.error r
 | .ok S=>Zte F S F.k
def ZNC (F:Fil) (old new:Str):Except Rf Fil:=match ZlA F.S old new with
 | .error r=>.error r
 | .ok S=>Zte F S F.k
theorem Zzt {κ α:Type} [DecidableEq κ] {xs:List (κ×α)} {k:κ} {x y:α} (h:getA xs k=some y):(putA xs k x).length=xs.length:=by
 unfold putA
 rw [Zn7,h,if_pos (by rfl),List.length_map]
theorem ZOo {S:Sta} (so:ZbR S) {n:Int} {d row:Row} (hd:Zdq S n=.ok d) (hl:row.length≤1000):ZbR ⟨putA S.dat n row,S.ent⟩:=by
 have hg:∃ y,getA S.dat n=some y:=by
  unfold Zdq at hd
  split at hd
  ·rename_i hb
   split at hd
   ·cases hd
   ·rename_i hg
    unfold Zbb at hb
    rw [hg,Option.isSome_none,Bool.or_false] at hb
    exact Option.isSome_iff_exists.mp hb
  ·cases hd
 obtain ⟨y,hg⟩:=hg
 refine ⟨?_,fun m r h=>?_,so.ent⟩
 ·show (putA S.dat n row).length + S.ent.length < 64
  rw [Zzt hg];exact so.n
 ·have h':getA (putA S.dat n row) m=some r:=h
  rw [ZAN] at h'
  by_cases z:m=n
  ·rw [if_pos z] at h';cases h';exact hl
  ·rw [if_neg z] at h';exact so.row m r h'
theorem ZIA {S S':Sta} (so:ZbR S) {n ZN:Int} {row:Row} (h0:0≤ZN) (h:Zdt S n ZN row=.ok S'):ZbR S':=by
 unfold Zdt at h
 cases hd:Zdq S n with
 | error r=>rw [hd] at h;cases h
 | ok d=>
  rw [hd] at h
  dsimp only at h
  split at h
  ·cases h
  ·split at h
   ·cases h;exact so
   ·cases h
    refine ZOo so hd ?_
    have:=ZAX so hd
    rw [List.length_append,List.length_append,List.length_take,List.length_drop]
    omega
theorem ZI4 {S S':Sta} (so:ZbR S) {n size:Int} (h:Zem S n size=.ok S'):ZbR S':=by
 unfold Zem at h
 cases hd:Zdq S n with
 | error r=>rw [hd] at h;cases h
 | ok d=>
  rw [hd] at h
  dsimp only at h
  split at h
  ·cases h
  ·cases h
   refine ZOo so hd ?_
   rw [List.length_take]
   omega
section
variable {P:Program} {w:World} {K:PySem.W.Frag} {mg:Str→Option Value} {base:Heap} {g:Gs}
def ZHD (g:Gs):Sp:=fun vs H Q E=>∃ f q p b l F n ZN a row,vs=[.ref f,.int n,.int ZN,.ref a]∧ZaV g H f q p b l F∧ZbR F.S∧0≤ZN∧H a=some (.lst (row.map V.int))∧row.length≤1000∧Zk7 F.k∧ZBk F.T.synced∧(match Zq3 F n ZN row with
 | .error r=>∀ H',Same H H'→E (.ref (g.xa r)) none H'
 | .ok F'=>∀ H',But1 f H H'→ZaV g H' f q p b l F'→Q (.int (row.length:Nat)) H')
theorem Zwr:Zo ["self","number","start","row"] ["self","number","start","row"] (Zj Zbm):=⟨rfl,rfl,rfl,by decide +kernel,rfl,by decide +kernel,by decide +kernel⟩
theorem Zwz (T:Tx K mg g):FnOk P w K mg base (CXE P w) 7 g.ZlT g.ZgW ["self","number","start","row"] (ZHD g):=by
 refine T.ZBo.okE Zwr (fun vs H Q E h=>?_) (fun cdv A outer s H vs Q E hr h=>?_)
 ·obtain ⟨f,q0,p,b,l,F,n,ZN,a,row,rfl,_⟩:=h
  rfl
 ·obtain ⟨f,q0,p,b,l,F,n,ZN,a,row,rfl,hFF,so,hst,ha,hrl,kk,po,q⟩:=h
  obtain ⟨dx,sv,kv,iv,hF⟩:=id hFF
  have naf:a≠f:=ZY ha hF.ob (by intro z;cases z)
  refine ⟨_,(Ze (ZW (ZjA (pv 0) T.ZK T.Zaa (Z4 T) hr.dn T.Zab .nil Zg))
   (Ze (ZW (Zaf (pv 0) T.ZK T.Zcs (ZbG T) hr.dn T.ZcB .nil Zg (Za (Zp (ZJi T) hr.dn rfl T.ZLs T.ZE2.kp T.ZMs .nil Zg (Za (ZC (pv 0) rfl) (Za (pv 1) (Za (pv 2) (Za (pv 3) Zc))))) (Za (ZC (pv 0) rfl) Zc))))
   (Zi (Zz (ZB Zu (by rfl) T.Zbv PySem.boot_len (Za (pv 3) Zc)))))),?_⟩
  refine ⟨_,rfl,f,dx,_,rfl,hF.ob,Zaz _ _ _ _,?_⟩
  refine ⟨f,dx,_,_,_,_,rfl,hF.ob,.inr ⟨⟨q0,rfl⟩,?_⟩⟩
  refine ⟨_,rfl,f,dx,_,rfl,hF.ob,Zaz _ _ _ _,_,rfl,f,_,dx,_,_,rfl,hF.ob,T.ZK,T.ZQ,Zvm _ _ _ _,_,rfl,_,rfl,_,rfl,?_⟩
  refine ⟨sv,F.S,n,ZN,a,row,rfl,hF.st,so,hst,ha,hrl,?_⟩
  unfold Zq3 at q
  cases hm:Zdt F.S n ZN row with
  | error r=>
   rw [hm] at q
   exact fun H' s'=>q H' s'
  | ok S=>
   rw [hm] at q
   dsimp only at q
   intro v2 H2 s2 hS2
   have hF2:=hFF.same s2
   refine ⟨_,rfl,f,_,dx,_,_,rfl,s2 _ _ hF.ob,T.ZK,T.ZaE,ZNX _ _ _ _,?_⟩
   refine ⟨f,q0,p,b,l,F,v2,kv,S,F.k,rfl,hF2,hS2,Zcj.mono _ _ _ _ s2 hF.ke,ZIA so hst hm,kk,po,?_⟩
   cases ht:Zte F S F.k with
   | error r=>
    rw [ht] at q
    exact fun H' s'=>q H' (s2.trans s')
   | ok F'=>
    rw [ht] at q
    intro H' b1 h'
    refine ⟨_,rfl,a,_,rfl,.inl (SqL.of (b1 _ _ (s2 _ _ ha) naf)),?_⟩
    rw [List.length_map]
    exact q H' (fun d o e hd=>b1 _ _ (s2 _ _ e) hd) h'
def ZOl (g:Gs):Sp:=fun vs H Q E=>∃ f q p b l F n size,vs=[.ref f,.int n,.int size]∧ZaV g H f q p b l F∧ZbR F.S∧0≤size∧Zk7 F.k∧ZBk F.T.synced∧(match cutF F n size with
 | .error r=>∀ H',Same H H'→E (.ref (g.xa r)) none H'
 | .ok F'=>∀ H',But1 f H H'→ZaV g H' f q p b l F'→Q .non H')
theorem ZCp:Zo ["self","number","size"] ["self","number","size"] (Zj ZcK):=⟨rfl,rfl,rfl,by decide +kernel,rfl,by decide +kernel,by decide +kernel⟩
theorem ZCL (T:Tx K mg g):FnOk P w K mg base (CXE P w) 7 g.ZvZ g.ZlU ["self","number","size"] (ZOl g):=by
 refine T.ZHl.okE ZCp (fun vs H Q E h=>?_) (fun cdv A outer s H vs Q E hr h=>?_)
 ·obtain ⟨f,q0,p,b,l,F,n,size,rfl,_⟩:=h
  rfl
 ·obtain ⟨f,q0,p,b,l,F,n,size,rfl,hFF,so,hst,kk,po,q⟩:=h
  obtain ⟨dx,sv,kv,iv,hF⟩:=id hFF
  refine ⟨_,(Ze (ZW (ZjA (pv 0) T.ZK T.Zaa (Z4 T) hr.dn T.Zab .nil Zg))
   (Zi (ZW (Zaf (pv 0) T.ZK T.Zcs (ZbG T) hr.dn T.ZcB .nil Zg (Za (Zp (ZJk T) hr.dn rfl T.ZLv T.ZE4.kp T.ZMv .nil Zg (Za (ZC (pv 0) rfl) (Za (pv 1) (Za (pv 2) Zc)))) (Za (ZC (pv 0) rfl) Zc)))))),?_⟩
  refine ⟨_,rfl,f,dx,_,rfl,hF.ob,Zaz _ _ _ _,?_⟩
  refine ⟨f,dx,_,_,_,_,rfl,hF.ob,.inr ⟨⟨q0,rfl⟩,?_⟩⟩
  refine ⟨_,rfl,f,dx,_,rfl,hF.ob,Zaz _ _ _ _,_,rfl,f,_,dx,_,_,rfl,hF.ob,T.ZK,T.ZQ,Zvm _ _ _ _,_,rfl,_,rfl,?_⟩
  refine ⟨sv,F.S,n,size,rfl,hF.st,so,hst,?_⟩
  unfold cutF at q
  cases hm:Zem F.S n size with
  | error r=>
   rw [hm] at q
   exact fun H' s'=>q H' s'
  | ok S=>
   rw [hm] at q
   dsimp only at q
   intro v2 H2 s2 hS2
   have hF2:=hFF.same s2
   refine ⟨_,rfl,f,_,dx,_,_,rfl,s2 _ _ hF.ob,T.ZK,T.ZaE,ZNX _ _ _ _,?_⟩
   refine ⟨f,q0,p,b,l,F,v2,kv,S,F.k,rfl,hF2,hS2,Zcj.mono _ _ _ _ s2 hF.ke,ZI4 so hm,kk,po,?_⟩
   cases ht:Zte F S F.k with
   | error r=>
    rw [ht] at q
    exact fun H' s'=>q H' (s2.trans s')
   | ok F'=>
    rw [ht] at q
    exact fun H' b1 h'=>q H' (fun d o e hd=>b1 _ _ (s2 _ _ e) hd) h'
def ZKF (g:Gs):Sp:=fun vs H Q E=>∃ f q p b l F old new,vs=[.ref f,.str old,.str new]∧ZaV g H f q p b l F∧ZqP F.S∧old.length≤1000∧new.length≤1000∧(∀ S,ZlA F.S old new=.ok S→ZbR S)∧Zk7 F.k∧ZBk F.T.synced∧(match ZNC F old new with
 | .error r=>∀ H',Same H H'→E (.ref (g.xa r)) none H'
 | .ok F'=>∀ H',But1 f H H'→ZaV g H' f q p b l F'→Q .non H')
theorem Zzl:Zo ["self","old","new"] ["self","old","new"] (Zj Zca):=⟨rfl,rfl,rfl,by decide +kernel,rfl,by decide +kernel,by decide +kernel⟩
theorem ZzE (T:Tx K mg g):FnOk P w K mg base (CXE P w) 7 g.ZqV g.Zjh ["self","old","new"] (ZKF g):=by
 refine T.ZFf.okE Zzl (fun vs H Q E h=>?_) (fun cdv A outer s H vs Q E hr h=>?_)
 ·obtain ⟨f,q0,p,b,l,F,old,new,rfl,_⟩:=h
  rfl
 ·obtain ⟨f,q0,p,b,l,F,old,new,rfl,hFF,sm,hlo,hln,hso,kk,po,q⟩:=h
  obtain ⟨dx,sv,kv,iv,hF⟩:=id hFF
  refine ⟨_,(Ze (ZW (ZjA (pv 0) T.ZK T.Zaa (Z4 T) hr.dn T.Zab .nil Zg))
   (Zi (ZW (Zaf (pv 0) T.ZK T.Zcs (ZbG T) hr.dn T.ZcB .nil Zg (Za (Zp (ZLf T) hr.dn rfl T.ZNA T.ZIm.kp T.ZOd .nil Zg (Za (ZC (pv 0) rfl) (Za (pv 1) (Za (pv 2) Zc)))) (Za (ZC (pv 0) rfl) Zc)))))),?_⟩
  refine ⟨_,rfl,f,dx,_,rfl,hF.ob,Zaz _ _ _ _,?_⟩
  refine ⟨f,dx,_,_,_,_,rfl,hF.ob,.inr ⟨⟨q0,rfl⟩,?_⟩⟩
  refine ⟨_,rfl,f,dx,_,rfl,hF.ob,Zaz _ _ _ _,_,rfl,f,_,dx,_,_,rfl,hF.ob,T.ZK,T.ZQ,Zvm _ _ _ _,_,rfl,_,rfl,?_⟩
  refine ⟨sv,F.S,old,new,rfl,hF.st,sm,hlo,hln,?_⟩
  unfold ZNC at q
  cases hm:ZlA F.S old new with
  | error r=>
   rw [hm] at q
   exact fun H' s'=>q H' s'
  | ok S=>
   rw [hm] at q
   dsimp only at q
   intro v2 H2 s2 hS2
   have hF2:=hFF.same s2
   refine ⟨_,rfl,f,_,dx,_,_,rfl,s2 _ _ hF.ob,T.ZK,T.ZaE,ZNX _ _ _ _,?_⟩
   refine ⟨f,q0,p,b,l,F,v2,kv,S,F.k,rfl,hF2,hS2,Zcj.mono _ _ _ _ s2 hF.ke,hso S hm,kk,po,?_⟩
   cases ht:Zte F S F.k with
   | error r=>
    rw [ht] at q
    exact fun H' s'=>q H' (s2.trans s')
   | ok F'=>
    rw [ht] at q
    exact fun H' b1 h'=>q H' (fun d o e hd=>b1 _ _ (s2 _ _ e) hd) h'
def ZPb (g:Gs):Sp:=fun vs H Q E=>∃ f dx sv k t i S n ZN many,vs=[.ref f,.int n,.int ZN,.int many]∧H f=some (.ins g.Files dx (ffl sv k t i))∧ZL g H S sv∧0≤ZN∧0≤many∧(match Zdq S n with
 | .error r=>∀ H',Same H H'→E (.ref (g.xa r)) none H'
 | .ok d=>∀ l H',Same H H'→H l=none→H' l=some (.lst (((d.drop ZN.toNat).take many.toNat).map V.int))→Q (.ref l) H')
theorem Zzk:Zo ["self","number","start","many"] ["self","number","start","many"] (Zj Zb8):=⟨rfl,rfl,rfl,by decide +kernel,rfl,by decide +kernel,by decide +kernel⟩
theorem Zf5 (T:Tx K mg g):FnOk P w K mg base (CXE P w) 4 g.ZqT g.Zjf ["self","number","start","many"] (ZPb g):=by
 refine T.ZFd.okE Zzk (fun vs H Q E h=>?_) (fun cdv A outer s H vs Q E hr h=>?_)
 ·obtain ⟨f,dx,sv,k,t,i,S,n,ZN,many,rfl,_⟩:=h
  rfl
 ·obtain ⟨f,dx,sv,k,t,i,S,n,ZN,many,rfl,hf,hS,h0,h1,q⟩:=h
  refine ⟨_,(Zi (Zz (ZaS Zsw rfl T.Zq2 PyProof.Rows.Boot.«list» (Za (ZaM ZpM (Zp (Zqg T) hr.dn rfl T.ZuK T.ZpH.kp T.ZvP .nil Zg (Za (ZC (pv 0) rfl) (Za (pv 1) Zc))) (ZaL (pv 2)) (ZaL (Zt ZcD (pv 2) (pv 3)))) Zc)))),?_⟩
  refine ⟨_,rfl,f,_,dx,_,_,rfl,hf,T.ZK,T.ZQ,Zvm _ _ _ _,_,rfl,sv,S,n,rfl,hS,?_⟩
  cases hd:Zdq S n with
  | error r=>
   rw [hd] at q
   exact fun H' s'=>q H' s'
  | ok d=>
   rw [hd] at q
   dsimp only at q
   intro u H1 s1 ⟨t1,e,ht1⟩
   subst e
   refine ⟨_,rfl,_,rfl,_,rfl,_,rfl,_,_,rfl,rfl,_,rfl,t1,_,rfl,ht1,fun t2 H2 s2 ht2=>?_⟩
   rw [ZfK _ _ _ h0 h1] at ht2
   refine ⟨t2,_,rfl,.inr (SqT.of ht2),fun l hl=>?_⟩
   exact q l _ ((s1.trans s2).trans (Zh hl)) (Zh8 (s1.trans s2) hl) Zb
def ZPa (g:Gs):Sp:=fun vs H Q E=>∃ f dx sv k t i S n,vs=[.ref f,.int n]∧H f=some (.ins g.Files dx (ffl sv k t i))∧ZL g H S sv∧(ZC6 S).length≤100000∧(if Zbb S n then
 ∀ t H',Same H H'→H' t=some (.tup [.str (kindOf S n),.int (ZAC S n),.int (ZHF S n)])→Q (.ref t) H' else ∀ H',Same H H'→E (.ref (g.xa .noThing)) none H')
theorem Zzj:Zo ["self","number"] ["self","number"] (Zj Zb7):=⟨rfl,rfl,rfl,by decide +kernel,rfl,by decide +kernel,by decide +kernel⟩
theorem ZzD (T:Tx K mg g):FnOk P w K mg base (CXE P w) 3 g.ZqS g.Zje ["self","number"] (ZPa g):=by
 refine T.ZFc.okE Zzj (fun vs H Q E h=>?_) (fun cdv A outer s H vs Q E hr h=>?_)
 ·obtain ⟨f,dx,sv,k,t,i,S,n,rfl,_⟩:=h
  rfl
 ·obtain ⟨f,dx,sv,k,t,i,S,n,rfl,hf,hS,hl,q⟩:=h
  refine ⟨_,(Ze (ZW (Zp (Zkd T) hr.dn rfl T.Znq T.ZgZ.kp T.Zpb .nil Zg (Za (ZC (pv 0) rfl) (Za (pv 1) Zc))))
   (Zi (Zz (Zar (Za (Zp (ZJl T) hr.dn rfl T.ZLw T.ZE5.kp T.ZMw .nil Zg (Za (ZC (pv 0) rfl) (Za (pv 1) Zc))) (Za (Zp (ZGh T) hr.dn rfl T.ZJH T.Zyu.kp T.ZJY .nil Zg (Za (ZC (pv 0) rfl) (Za (pv 1) Zc))) (Za (Zp (ZJj T) hr.dn rfl T.ZLu T.ZE3.kp T.ZMu .nil Zg (Za (ZC (pv 0) rfl) (Za (pv 1) Zc))) Zc))))))),?_⟩
  refine ⟨_,rfl,f,_,dx,_,_,rfl,hf,T.ZK,T.ZQ,Zvm _ _ _ _,_,rfl,sv,S,n,rfl,hS,?_⟩
  unfold ZfM
  cases hb:Zbb S n with
  | false=>
   rw [hb,if_neg (by decide)] at q
   exact fun H' s'=>q H' s'
  | true=>
   rw [hb,if_pos rfl] at q
   intro u H1 s1 _
   have hf1:=s1 _ _ hf
   have hS1:=ZL.mono _ _ _ _ s1 hS
   refine ⟨_,rfl,f,_,dx,_,_,rfl,hf1,T.ZK,T.ZQ,Zvm _ _ _ _,_,rfl,sv,S,n,rfl,hS1,?_⟩
   refine ⟨_,rfl,f,_,dx,_,_,rfl,hf1,T.ZK,T.ZQ,Zvm _ _ _ _,_,rfl,sv,S,n,rfl,hS1,hl,fun H2 s2=>?_⟩
   refine ⟨_,rfl,f,_,dx,_,_,rfl,s2 _ _ hf1,T.ZK,T.ZQ,Zvm _ _ _ _,_,rfl,sv,S,n,rfl,ZL.mono _ _ _ _ s2 hS1,hb,?_⟩
   exact ⟨szl 3,fun t ht=>q t _ ((s1.trans s2).trans (Zh ht)) Zb⟩
end
end KS
namespace KS
open PySem L2
theorem ZpC.keep {g:Gs} {H H':Hp} {q p:Addr} {T:Sto} (h:ZpC g H q p T) (h1:∀ o,H q=some o→H' q=some o) (h2:∀ v,Zfk H T.synced v→Zfk H' T.synced v):ZpC g H' q p T:=by
 obtain ⟨dx,y,a,b⟩:=h
 exact ⟨dx,y,h1 _ a,h2 _ b⟩
theorem ZaV.lst {g:Gs} {H:Hp} {f q p b l X:Addr} {F:Fil} {xs ys:List V} (h:ZaV g H f q p b l F) (hX:H X=some (.lst xs)) (nb:X≠b) (nl:X≠l):ZaV g (upd H X (.lst ys)) f q p b l F:=by
 obtain ⟨dx,sv,kv,iv,h⟩:=h
 have k:∀ d o,H d=some o→(∀ xs,o≠.lst xs)→(upd H X (.lst ys)) d=some o:=fun d o e n=>by
  have:d≠X:=fun z=>by subst z;rw [hX] at e;cases e;exact n _ rfl
  rw [Zd this];exact e
 have kl:∀ d o,H d=some o→ZEY o→(upd H X (.lst ys)) d=some o:=fun d o e n=>k d o e n.1
 refine ⟨dx,sv,kv,iv,k _ _ h.ob (by intro _ z;cases z),h.st.ls kl,h.ke.ls kl,h.sto.keep (fun o e=>?_) (fun v z=>z.ls kl),?_,h.img.ls kl⟩
 ·obtain ⟨dx',y,a,_⟩:=h.sto
  rw [a] at e
  cases e
  exact k _ _ a (by intro _ z;cases z)
 ·obtain ⟨dx',vb,vl,hd⟩:=h.dsk
  have kt:∀ t xs,H t=some (.tup xs)→(upd H X (.lst ys)) t=some (.tup xs):=fun t xs e=>k _ _ e (by intro _ z;cases z)
  exact ⟨dx',vb,vl,k _ _ hd.ob (by intro _ z;cases z),by rw [Zd nb.symm];exact hd.hb,by rw [Zd nl.symm];exact hd.hl,Zbp (fun _ _ z=>Zv9.keep kt z) hd.rb,Zbp (fun _ _ z=>ZE1.keep kt z) hd.rl,hd.ne⟩
def Odd (H:Hp) (o:HO):Prop:=(∃ ob u,o=.frz ob u)∨∃ (n:Int) (L:Addr) (r:List (Key×V)) (zs:List V),o=.dK ((Sum.inl n,.ref L)::r)∧H L=some (.lst zs)
section
variable {g:Gs} {H H':Hp} (s:∀ d o,H d=some o→¬ Odd H o→H' d=some o)
include s
theorem ZV.od {r:Row} {v:V}:ZV H r v→ZV H' r v | ⟨t,e,h⟩=>⟨t,e,s _ _ h (by rintro (⟨_,_,z⟩ | ⟨_,_,_,_,z,_⟩) <;> cases z)⟩
theorem ZfW.od {r:Ents} {v:V}:ZfW H r v→ZfW H' r v | ⟨t,e,h⟩=>⟨t,e,s _ _ h (by
 rintro (⟨_,_,z⟩ | ⟨n,L,rr,_,z,_⟩)
 ·cases z
 injection z with z
 unfold eKV at z
 cases r with
 | nil=>cases z
 | cons p r=>cases z)⟩
theorem ZL.od {S:Sta} {v:V}:ZL g H S v→ZL g H' S v | ⟨p,dx,da,ea,dk,ek,e,h⟩=>⟨p,dx,da,ea,dk,ek,e,s _ _ h.ob (by rintro (⟨_,_,z⟩ | ⟨_,_,_,_,z,_⟩) <;> cases z),s _ _ h.hd (by
  rintro (⟨_,_,z⟩ | ⟨n,L,rr,zs,z,hL⟩)
  ·cases z
  injection z with z
  have rd:=h.rd
  rw [z] at rd
  unfold Z1 at rd
  generalize S.dat=xs at rd
  cases rd with
  | cons a _=>
   obtain ⟨_,t,e1,e2⟩:=a
   cases e1
   rw [hL] at e2
   cases e2),s _ _ h.he (by
  rintro (⟨_,_,z⟩ | ⟨n,L,rr,zs,z,hL⟩)
  ·cases z
  injection z with z
  have re:=h.re
  rw [z] at re
  unfold Z1 at re
  generalize S.ent=xs at re
  cases re with
  | cons a _=>
   obtain ⟨_,t,e1,e2⟩:=a
   cases e1
   rw [hL] at e2
   cases e2),h.rd.gen (fun _ _ z=>z.od s),h.re.gen (fun _ _ z=>z.od s)⟩
theorem Zcj.od {k:Kept} {v:V}:Zcj g H k v→Zcj g H' k v | ⟨a,kvs,e,h,d⟩=>⟨a,kvs,e,s _ _ h (by
  rintro (⟨_,_,z⟩ | ⟨n,L,rr,zs,z,hL⟩)
  ·cases z
  injection z with z
  rw [z] at d
  unfold Z1 at d
  cases d with
  | cons a _=>cases a.1),d.gen (fun _ _ z=>z.od s)⟩
theorem Zfk.od {k:Zbf} {v:V}:Zfk H k v→Zfk H' k v | ⟨a,kvs,e,h,d⟩=>⟨a,kvs,e,s _ _ h (by rintro (⟨_,_,z⟩ | ⟨_,_,_,_,z,_⟩) <;> cases z),d.gen (fun _ _ z=>z.od s)⟩
theorem Zht.od {k:Img} {v:V}:Zht g H k v→Zht g H' k v | ⟨p,dx,pl,hd,e,h,h1,h2⟩=>⟨p,dx,pl,hd,e,s _ _ h (by rintro (⟨_,_,z⟩ | ⟨_,_,_,_,z,_⟩) <;> cases z),h1.od s,h2.od s⟩
theorem Zck.od {p b l:Addr} {D:Dsk} (h:Zck g H p b l D):Zck g H' p b l D:=h.keep fun d o e hob=>s _ _ e (by
 rcases hob with ⟨xs,rfl⟩ | ⟨xs,rfl⟩ | ⟨C,dx,b,l,rfl⟩ <;> (rintro (⟨_,_,z⟩ | ⟨_,_,_,_,z,_⟩) <;> cases z))
theorem ZaV.od {f q p b l:Addr} {F:Fil} (h:ZaV g H f q p b l F):ZaV g H' f q p b l F:=by
 obtain ⟨dx,sv,kv,iv,h⟩:=h
 refine ⟨dx,sv,kv,iv,s _ _ h.ob (by rintro (⟨_,_,z⟩ | ⟨_,_,_,_,z,_⟩) <;> cases z),h.st.od s,h.ke.od s,h.sto.keep (fun o e=>?_) (fun v z=>z.od s),h.dsk.od s,h.img.od s⟩
 obtain ⟨dx',y,a,_⟩:=h.sto
 rw [a] at e
 cases e
 exact s _ _ a (by rintro (⟨_,_,z⟩ | ⟨_,_,_,_,z,_⟩) <;> cases z)
end
theorem ZaV.dct {g:Gs} {H:Hp} {f q p b l X L:Addr} {F:Fil} {n:Int} {r:List (Key×V)} {zs:List V} {o:HO} (h:ZaV g H f q p b l F) (hX:H X=some (.dK ((Sum.inl n,.ref L)::r))) (hL:H L=some (.lst zs)):ZaV g (upd H X o) f q p b l F:=
 h.od fun d u e n'=>by
  have:d≠X:=fun z=>by
   subst z
   rw [hX] at e
   cases e
   exact n' (.inr ⟨n,L,r,zs,rfl,hL⟩)
  rw [Zd this];exact e
theorem ZaV.thw {g:Gs} {H:Hp} {f q p b l X:Addr} {F:Fil} {ob:Obj} {u o1 o2:HO} (h:ZaV g H f q p b l F) (hX:H X=some (.frz ob u)):ZaV g (upd (upd H X o1) X o2) f q p b l F:=
 h.od fun d o e n'=>by
  have:d≠X:=fun z=>by
   subst z
   rw [hX] at e
   cases e
   exact n' (.inl ⟨_,_,rfl⟩)
  rw [Zd this,Zd this];exact e
end KS
namespace KS
open PySem L2
section
variable {P:Program} {w:World} {K:PySem.W.Frag} {mg:Str→Option Value} {base:Heap} {g:Gs}
def ZQK (K:PySem.W.Frag):Sp:=fun vs H Q _=>∃ (a:Addr) (ns:List Int) (k:Int),vs=[.ref a,.int k]∧SqL K H a (ns.map V.int)∧ns.length≤63∧0≤k∧k < 1000000∧∀ H',Same H H'→Q (.int (ZQd ns k)) H'
def ZPc:Sp:=fun vs H Q _=>∃ c k:Int,vs=[.int c,.int k]∧Q (.int (ZRx c k)) H
theorem ZCo:Zo ["_law_script","_law_k"] ["_law_script","_law_k"] (Zj ZcJ):=⟨rfl,rfl,rfl,by decide +kernel,rfl,by decide +kernel,by decide +kernel⟩
theorem ZCK (T:Tx K mg g):FnOk P w K mg base (CXE P w) 1 g._law_cell g._law_cell_d ["_law_script","_law_k"] (ZQK K):=by
 refine T.Zv5.okE ZCo (fun vs H Q E h=>?_) (fun cdv A outer s H vs Q E hr h=>?_)
 ·obtain ⟨a,ns,k,rfl,_⟩:=h
  rfl
 ·obtain ⟨a,ns,k,rfl,hS,hl,hk0,hk1,q⟩:=h
  have hu64:=hr.units
  refine ⟨_,(Ze (Zav (ZU (ZOA hu64) (pv 0) (Zbs Zc) (Zac _)) (Zi (Zz (Zt Zm9 (pv 1) Zm))) ZP)
   (Zi (Zz (Zt ZcD (Zaw ZbN (pv 0) (Zt ZaT (pv 1) (ZB Zu (by rfl) T.Zbv PySem.boot_len (Za (pv 0) Zc))) (fun _ _=>rfl)) (Zt Zm9 (Zt ZaN (pv 1) (ZB Zu (by rfl) T.Zbv PySem.boot_len (Za (pv 0) Zc))) Zm))))),?_⟩
  refine ⟨_,rfl,Nat.zero_le _,fun p hp=>?_⟩
  have sm:Same H (upd H p (.lst [])):=Zh hp
  have hS':=sm.seq hS
  refine ⟨.list (ns.map .int),.list [],.inl (.inr ⟨a,_,_,rfl,rfl,hS',ZtC _ ns⟩),.inl (.inr ⟨p,[],[],rfl,rfl,SqL.of Zb,.nil⟩),ZfY ns,rfl,_,rfl,?_⟩
  cases ns with
  | nil=>
   refine iteT ?_
   refine ⟨_,rfl,_,_,rfl,rfl,.inr ⟨by decide,by decide⟩,?_⟩
   exact q _ sm
  | cons n r=>
   refine iteF ?_
   have hL:(0:Int) < ((n::r).length:Int):=by rw [List.length_cons];omega
   have hm0:0≤k % ((n::r).length:Int):=Int.emod_nonneg _ (by omega)
   have hm1:k % ((n::r).length:Int) < ((n::r).length:Int):=Int.emod_lt_of_pos _ hL
   have hlt:(k % ((n::r).length:Int)).toNat < (n::r).length:=by omega
   have hd0:0≤k / ((n::r).length:Int):=Int.ediv_nonneg hk0 (by omega)
   have hd1:k / ((n::r).length:Int)≤k:=Int.ediv_le_self _ hk0
   have hat:atI ((n::r).map V.int) (k % ((n::r).length:Int))=some (V.int ((n::r).getD (k % ((n::r).length:Int)).toNat 0)):=by
    refine ZvQ hm0 ?_
    rw [List.getElem?_map,List.getElem?_eq_getElem hlt,Option.map_some,List.getD_eq_getElem?_getD,List.getElem?_eq_getElem hlt]
    rfl
   have hmap:((n::r).map V.int).length=(n::r).length:=List.length_map ..
   refine ⟨_,rfl,_,rfl,_,rfl,a,_,rfl,.inl hS',_,_,rfl,rfl,(by rw [hmap];exact hL),a,_,_,_,rfl,rfl,hS',(by rw [hmap];exact hat),?_⟩
   refine ⟨_,rfl,_,rfl,a,_,rfl,.inl hS',_,_,rfl,rfl,(by rw [hmap];exact ⟨hL,by omega⟩),_,_,rfl,rfl,.inr ⟨by decide,by decide⟩,_,_,rfl,rfl,?_⟩
   have:=q _ sm
   rw [hmap]
   unfold ZQd at this
   rw [if_neg (by simp)] at this
   exact this
theorem Zmi:Zo ["_law_cell_here","_law_k","_law_more"] ["_law_cell_here","_law_k"] (Zj Zb2):=⟨rfl,rfl,rfl,by decide +kernel,rfl,by decide +kernel,by decide +kernel⟩
theorem Zzz (T:Tx K mg g):FnOk P w K mg base (CXE P w) 1 g._law_drawn g._law_drawn_d ["_law_cell_here","_law_k"] ZPc:=by
 refine T.Ztd.okE Zmi (fun vs H Q E h=>?_) (fun cdv A outer s H vs Q E hr h=>?_)
 ·obtain ⟨c,k,rfl,_⟩:=h
  rfl
 ·obtain ⟨c,k,rfl,q⟩:=h
  refine ⟨_,(Ze (ZJ (i:=2) Zmi.nd rfl (Or.inl rfl) (Zt ZaT (Zt ZcD (Zt Zm9 (pv 0) Zm) (Zt Zm9 (Zt ZcD (pv 1) Zm) Zm)) Zm))
   (Zi (Zz (Zt ZaT (Zt ZPv (pv 2) (pv 2)) Zm)))),?_⟩
  refine ⟨_,rfl,_,_,rfl,rfl,.inr ⟨by decide,by decide⟩,_,rfl,_,_,rfl,rfl,_,_,rfl,rfl,.inr ⟨by decide,by decide⟩,_,_,rfl,rfl,_,_,rfl,rfl,(by show (0:Int) < 340282366920938463463374607431768211507;decide),?_⟩
  have h1:=ZNw c k
  have h2:=ZNx c k
  have h3:(ZJD c k).natAbs < 2 ^ 200:=by
   have:(ZJD c k).natAbs < 340282366920938463463374607431768211507:=by omega
   exact Nat.lt_trans this (by decide)
  refine ⟨_,rfl,_,rfl,_,_,rfl,rfl,⟨h3,h3⟩,_,_,rfl,rfl,(by show (0:Int) < 340282366920938463463374607431768211297;decide),?_⟩
  exact q
def ZQz (g:Gs):Sp:=fun vs H Q _=>∃ (a:Addr) (r:Rf),vs=[.ref a]∧IsX H a (g.xa r)∧∀ H',Same H H'→Q (.str r.word) H'
def rfs:List Rf:=[.noThing,.noDirectory,.badName,.isThere,.noRoom,.notEmpty,.wrongKind,.tooGreat,.readOnly,.noFiles]
theorem ZNa (r:Rf):((rfs.map fun u=>V.bl (decide (r=u))).countP fun z=>eqV z (.bl true))=1:=by cases r <;> decide
def rfIx:Rf→Nat
 | .noThing=>0 | .noDirectory=>1 | .badName=>2 | .isThere=>3 | .noRoom=>4 | .notEmpty=>5 | .wrongKind=>6 | .tooGreat=>7 | .readOnly=>8 | .noFiles=>9
theorem ZRX (r:Rf):∃ z,(rfs.map fun u=>V.bl (decide (r=u)))[rfIx r]?=some z∧eqV z (.bl true)=true:=by cases r <;> exact ⟨_,rfl,rfl⟩
theorem ZNb (r:Rf):∀ m z,m < rfIx r→(rfs.map fun u=>V.bl (decide (r=u)))[m]?=some z→eqV z (.bl true)=false:=by
 intro m z hm hz
 have hm':m < 10:=by cases r <;> simp only [rfIx] at hm <;> omega
 have key:∀ r:Rf,∀ m:Fin 10,m.val < rfIx r→(rfs.map fun u=>V.bl (decide (r=u)))[m.val]?=some (.bl false):=by
  intro r m
  cases r <;> revert m <;> decide
 have:=key r ⟨m,hm'⟩ hm
 rw [this] at hz
 cases hz
 rfl
theorem ZPj (r:Rf):atI [V.str "NoThing",.str "NoDirectory",.str "BadName",.str "IsThere",.str "NoRoom",.str "NotEmpty",.str "WrongKind",.str "TooGreat",.str "ReadOnly",.str "NoFiles"] ((rfIx r:Nat):Int)=some (.str r.word):=by
 cases r <;> rfl
theorem Zc0:Zo ["_law_e","_law_flags","_law_names"] ["_law_e"] (Zj ZcI):=⟨rfl,rfl,rfl,by decide +kernel,rfl,by decide +kernel,by decide +kernel⟩
theorem ZCH (T:Tx K mg g):ZQk P w K mg base 1 g._law_word g._law_word_d ["_law_e"] (ZQz g):=by
 refine T.Zv2.okH Zc0 (fun vs H Q E h=>?_) (fun cdv A outer s H vs Q E hr h=>?_)
 ·obtain ⟨a,r,rfl,_⟩:=h
  rfl
 ·obtain ⟨a,r,rfl,ha,q⟩:=h
  refine ⟨_,(Ze (ZJ (i:=1) Zc0.nd rfl (Or.inl rfl) (Zbs (Za (Zg6 (pv 0) (ZI (v:=.ref g.NoThing) rfl T.ZuL rfl) rfl T.ZT) (Za (Zg6 (pv 0) (ZI (v:=.ref g.NoDirectory) rfl T.Zns rfl) rfl T.ZT) (Za (Zg6 (pv 0) (ZI (v:=.ref g.BadName) rfl T.ZDc rfl) rfl T.ZT) (Za (Zg6 (pv 0) (ZI (v:=.ref g.IsThere) rfl T.ZuM rfl) rfl T.ZT) Zc))))))
   (Ze (ZJ (i:=1) Zc0.nd rfl (Or.inl rfl) (Zt Zna (pv 1) (Zbs (Za (Zg6 (pv 0) (ZI (v:=.ref g.NoRoom) rfl T.ZHS rfl) rfl T.ZT) (Za (Zg6 (pv 0) (ZI (v:=.ref g.NotEmpty) rfl T.ZJK rfl) rfl T.ZT) (Za (Zg6 (pv 0) (ZI (v:=.ref g.WrongKind) rfl T.Zlz rfl) rfl T.ZT) Zc))))))
   (Ze (ZJ (i:=1) Zc0.nd rfl (Or.inl rfl) (Zt Zna (pv 1) (Zbs (Za (Zg6 (pv 0) (ZI (v:=.ref g.TooGreat) rfl T.ZdO rfl) rfl T.ZT) (Za (Zg6 (pv 0) (ZI (v:=.ref g.ReadOnly) rfl T.ZxA rfl) rfl T.ZT) (Za (Zg6 (pv 0) (ZI (v:=.ref g.NoFiles) rfl T.ZLz rfl) rfl T.ZT) Zc))))))
   (Ze (ZJ (i:=2) Zc0.nd rfl (Or.inl rfl) (Zbs (Za ZR (Za ZR (Za ZR (Za ZR (Za ZR (Za ZR (Za ZR (Za ZR (Za ZR Zc)))))))))))
   (Ze (Zav (PW.pt (Zzs (ZU ZPu (Ztq PySem.F.plainAttrs_list PySem.F.slot_list_count PySem.F.type_list_count ZHQ (pv 1) (Za Zun Zc)) Zm (Zac _)) (Zzs (Zug (Zuf (Zg6 (pv 0) (ZI (v:=.ref g.StillError) rfl T.Zrp rfl) rfl T.ZT))) (Zue (Zug (Zuf (Zg6 (pv 0) (ZPt (v:=.ty "ValueError") rfl T.Zhu PyProof.Rows.Boot.«ValueError» rfl) rfl T.ZT))))))) (Zi (Zz ZR)) ZP)
   (Zi (Zz (Zaw ZbN (Zt Zna (pv 2) (Zbs (Za ZR Zc))) (Ztq PySem.F.plainAttrs_list PySem.F.slot_list_index PySem.F.type_list_index ZNv (pv 1) (Za Zun Zc)) (fun _ _=>rfl))))))))),?_⟩
  have xf:=T.xf r
  refine ⟨_,rfl,a,_,_,_,rfl,ha,xf,T.kit r .noThing,_,rfl,a,_,_,_,rfl,ha,xf,T.kit r .noDirectory,_,rfl,a,_,_,_,rfl,ha,xf,T.kit r .badName,_,rfl,a,_,_,_,rfl,ha,xf,T.kit r .isThere,(szl 4),fun p1 n1=>?_⟩
  have s1:=Zh (o:=.lst [.bl (decide (r=.noThing)),.bl (decide (r=.noDirectory)),.bl (decide (r=.badName)),.bl (decide (r=.isThere))]) n1
  have h1:=ha.same s1
  refine ⟨_,rfl,_,rfl,a,_,_,_,rfl,h1,xf,T.kit r .noRoom,_,rfl,a,_,_,_,rfl,h1,xf,T.kit r .notEmpty,_,rfl,a,_,_,_,rfl,h1,xf,T.kit r .wrongKind,(szl 3),fun p2 n2=>?_⟩
  have s2:=Zh (o:=.lst [.bl (decide (r=.noRoom)),.bl (decide (r=.notEmpty)),.bl (decide (r=.wrongKind))]) n2
  refine ⟨p1,p2,_,_,rfl,rfl,s2 _ _ Zb,Zb,(szl 7),fun p3 n3=>?_⟩
  have s3:=Zh (o:=.lst ([.bl (decide (r=.noThing)),.bl (decide (r=.noDirectory)),.bl (decide (r=.badName)),.bl (decide (r=.isThere))]++[.bl (decide (r=.noRoom)),.bl (decide (r=.notEmpty)),.bl (decide (r=.wrongKind))])) n3
  have h3:=(h1.same s2).same s3
  refine ⟨_,rfl,_,rfl,a,_,_,_,rfl,h3,xf,T.kit r .tooGreat,_,rfl,a,_,_,_,rfl,h3,xf,T.kit r .readOnly,_,rfl,a,_,_,_,rfl,h3,xf,T.kit r .noFiles,(szl 3),fun p4 n4=>?_⟩
  have s4:=Zh (o:=.lst [.bl (decide (r=.tooGreat)),.bl (decide (r=.readOnly)),.bl (decide (r=.noFiles))]) n4
  refine ⟨p3,p4,_,_,rfl,rfl,s4 _ _ Zb,Zb,(szl 10),fun p5 n5=>?_⟩
  have s5:=Zh (o:=.lst (rfs.map fun u=>V.bl (decide (r=u)))) n5
  have h5:=(h3.same s4).same s5
  refine ⟨(szl 9),fun p6 n6=>?_⟩
  have s6:=Zh (o:=.lst [.str "NoThing",.str "NoDirectory",.str "BadName",.str "IsThere",.str "NoRoom",.str "NotEmpty",.str "WrongKind",.str "TooGreat",.str "ReadOnly"]) n6
  have h6:=h5.same s6
  have hf:=s6 _ _ (Zb (H:=upd (upd (upd (upd H p1 _) p2 _) p3 _) p4 _) (a:=p5) (o:=.lst (rfs.map fun u=>V.bl (decide (r=u)))))
  have hfl:(rfs.map fun u=>V.bl (decide (r=u))).all ZlF=true:=rfl
  refine ⟨_,rfl,.inl ⟨rfl,_,SqL.of hf⟩,p5,_,_,rfl,rfl,SqL.of hf,rfl,hfl,rfl,_,rfl,?_⟩
  rw [ZNa]
  refine iteF ?_
  refine ⟨_,rfl,a,_,_,_,rfl,h6,xf,T.kitS r,_,rfl,?_⟩
  refine iteF ?_
  refine ⟨_,rfl,a,_,_,_,rfl,h6,xf,T.kitV r,_,rfl,?_⟩
  refine iteF ?_
  refine ⟨_,rfl,(szl 1),fun p7 n7=>?_⟩
  have s7:=Zh (o:=.lst [.str "NoFiles"]) n7
  refine ⟨p6,p7,_,_,rfl,rfl,s7 _ _ Zb,Zb,(szl 10),fun p8 n8=>?_⟩
  have s8:=Zh (o:=.lst ([.str "NoThing",.str "NoDirectory",.str "BadName",.str "IsThere",.str "NoRoom",.str "NotEmpty",.str "WrongKind",.str "TooGreat",.str "ReadOnly"]++[.str "NoFiles"])) n8
  have hf8:=s8 _ _ (s7 _ _ hf)
  refine ⟨_,rfl,.inl ⟨rfl,_,SqL.of hf8⟩,p5,_,_,rfIx r,rfl,rfl,SqL.of hf8,rfl,hfl,ZRX r,ZNb r,p8,_,_,_,rfl,rfl,SqL.of Zb,ZPj r,?_⟩
  exact q _ (s1.trans (s2.trans (s3.trans (s4.trans (s5.trans (s6.trans (s7.trans s8)))))))
end
end KS
namespace KS
open PySem L2
theorem ZG7 {xs:List Int} {i:Int} {p:Int→Prop} (h0:0≤i) (h1:i < (xs.length:Int)) (hm:∀ x∈xs,p x):∃ s:Int,p s∧atI (xs.map V.int) i=some (.int s):=by
 have hi:i.toNat < xs.length:=by omega
 refine ⟨xs[i.toNat],hm _ (List.getElem_mem hi),ZvQ h0 ?_⟩
 rw [List.getElem?_map,List.getElem?_eq_getElem hi]
 rfl
inductive Deed where
 | cut (n size:Int)
 | write (n ZN:Int) (row:Row) (l:Addr)
def Deed.At (H:Hp) (v:V):Deed→Prop
 | .cut n size=>∃ t,v=.ref t∧H t=some (.tup [.str "cut",.int n,.int size])
 | .write n st row l=>∃ t,v=.ref t∧H t=some (.tup [.str "write",.int n,.int st,.ref l])∧H l=some (.lst (row.map V.int))
def Deed.Ok (H:Hp) (n:Int):Deed→Prop
 | .cut m size=>m=n∧0≤size
 | .write m st row l=>m=n∧0≤st∧st≤1000∧row.length≤1000∧H l=none
def ZQJ:Sp:=fun vs H Q _=>∃ c m n sz:Int,vs=[.int c,.int m,.int n,.int sz]∧0≤sz∧sz≤600∧∀ (D:Deed) v H',D.Ok H n→Same H H'→D.At H' v→Q v H'
section
variable {P:Program} {w:World} {K:PySem.W.Frag} {mg:Str→Option Value} {base:Heap} {g:Gs}
theorem ZhG:Zo ["_law_cell_here","_law_more","_law_number","_law_size","_law_start","_law_many"] ["_law_cell_here","_law_more","_law_number","_law_size"] (Zj ZbK):=⟨rfl,rfl,rfl,by decide +kernel,rfl,by decide +kernel,by decide +kernel⟩
theorem ZCJ (T:Tx K mg g):FnOk P w K mg base (CXE P w) 1 g._law_deed g._law_deed_d ["_law_cell_here","_law_more","_law_number","_law_size"] ZQJ:=by
 refine T.Zv4.okE ZhG (fun vs H Q E h=>?_) (fun cdv A outer s H vs Q E hr h=>?_)
 ·obtain ⟨c,m,n,sz,rfl,_⟩:=h
  rfl
 ·obtain ⟨c,m,n,sz,rfl,hz0,hz1,q⟩:=h
  have hSZ:(100000:Nat)≤sizeLine:=by decide
  refine ⟨_,(Ze (ZJ (i:=4) ZhG.nd rfl (Or.inl rfl) (Zaw ZbN (Zbs (Za Zm (Za (pv 3) (Za (Zt ZaT (Zt ZaN (pv 1) Zm) Zm) (Za (ZB (ZvE rfl) (by rfl) T.ZKa PyProof.Rows.Boot.«max» (Za Zm (Za (Zt Zfx (pv 3) (Zt ZaT (Zt ZaN (pv 1) Zm) Zm)) Zc))) (Za (Zt ZcD (pv 3) (Zt ZaT (Zt ZaN (pv 1) Zm) Zm)) (Za Zm Zc))))))) (Zt ZaT (pv 1) Zm) (fun _ _=>rfl)))
   (Ze (Zav (ZU Zuq (Zt ZaT (Zt ZaN (pv 1) Zm) Zm) Zm (Zac _)) (Zi (Zz (Zar (Za ZR (Za (pv 2) (Za (Zaw ZbN (Zbs (Za (pv 4) (Za (Zt ZaT (Zt ZaN (pv 1) Zm) Zm) (Za (Zt ZOx Zm Zm) Zc)))) (Zt ZaT (Zt ZaN (pv 1) Zm) Zm) (fun _ _=>rfl)) Zc)))))) ZP)
   (Ze (ZJ (i:=5) ZhG.nd rfl (Or.inl rfl) (Zaw ZbN (Zbs (Za Zm (Za (Zt ZcD Zm (Zt ZaT (Zt ZaN (pv 1) Zm) Zm)) (Za (Zt ZaT (Zt ZaN (pv 1) Zm) Zm) (Za (Zt ZcD (ZB (ZvE rfl) (by rfl) T.ZKa PyProof.Rows.Boot.«max» (Za Zm (Za (Zt Zfx Zm (pv 4)) Zc))) (Zt ZaT (Zt ZaN (pv 1) Zm) Zm)) Zc))))) (Zt ZaT (Zt ZaN (pv 1) Zm) Zm) (fun _ _=>rfl)))
   (Zi (Zz (Zar (Za ZR (Za (pv 2) (Za (pv 4) (Za (Zqe (own:=["_law_j"]) (fv:=["_law_cell_here","_law_more"]) (ix:=[0,1]) (ZcO (sc:=Zj ZbK) (N:=["_law_cell_here","_law_more","_law_number","_law_size","_law_start","_law_many"]) rfl rfl (by decide +kernel)) rfl (Zm7 rfl T.Zlc (Za (pv 5) Zc)) (fun _ _ _ _ _=>Z5 (i:=0) (show (["_law_j","_law_cell_here","_law_more"]:List Str).Nodup from by decide +kernel) rfl (Or.inl rfl) (Or.inr rfl)) (fun _ _ _ _ _=>Zqc) (fun _ _ _ _ _=>(Zt ZaT (Zt ZcD (pv 1) (Zt Zm9 (pv 0) (pv 2))) Zm))) Zc)))))))))),?_⟩
  refine ⟨_,rfl,_,rfl,_,_,rfl,rfl,⟨by decide,by decide⟩,_,_,rfl,rfl,(by show (0:Int) < 650;decide),?_⟩
  refine ⟨_,rfl,_,rfl,_,_,rfl,rfl,⟨by decide,by decide⟩,_,_,rfl,rfl,(by show (0:Int) < 20;decide),_,_,rfl,rfl,_,_,rfl,?_⟩
  refine ⟨_,rfl,_,rfl,_,_,rfl,rfl,⟨by decide,by decide⟩,_,_,rfl,rfl,(by show (0:Int) < 30;decide),_,_,rfl,rfl,?_⟩
  refine ⟨szl 6,fun l1 hl1=>?_⟩
  have a0:0≤m / 8 % 650:=Int.emod_nonneg _ (by decide)
  have a1:m / 8 % 650 < 650:=Int.emod_lt_of_pos _ (by decide)
  have b0:0≤m / 8 % 20:=Int.emod_nonneg _ (by decide)
  have c0:0≤m / 8 % 30:=Int.emod_nonneg _ (by decide)
  have c1:m / 8 % 30 < 30:=Int.emod_lt_of_pos _ (by decide)
  obtain ⟨st,⟨hs0,hs1⟩,hat⟩:=ZG7 (xs:=[0,sz,m / 8 % 650,(if sz - m / 8 % 20 > 0 then sz - m / 8 % 20 else 0),sz + m / 8 % 30,600]) (i:=m % 6) (p:=fun v=>0≤v∧v≤700) (Int.emod_nonneg _ (by decide)) (Int.emod_lt_of_pos _ (by decide)) (by
   refine List.forall_mem_cons.mpr ⟨⟨by decide,by decide⟩,List.forall_mem_cons.mpr ⟨⟨by omega,by omega⟩,List.forall_mem_cons.mpr ⟨⟨by omega,by omega⟩,List.forall_mem_cons.mpr ⟨?_,List.forall_mem_cons.mpr ⟨⟨by omega,by omega⟩,List.forall_mem_cons.mpr ⟨⟨by decide,by decide⟩,fun _ h=>nomatch h⟩⟩⟩⟩⟩⟩
   split <;> omega)
  refine ⟨_,rfl,_,_,rfl,rfl,(by show (0:Int) < 6;decide),l1,_,_,_,rfl,rfl,SqL.of Zb,hat,?_⟩
  refine ⟨_,rfl,_,_,rfl,rfl,⟨by decide,by decide⟩,_,_,rfl,rfl,(by show (0:Int) < 3;decide),rfl,_,rfl,ite2 (fun _=>?_) (fun _=>?_)⟩
  ·have d0:0≤m / 1000 % 605:=Int.emod_nonneg _ (by decide)
   refine ⟨_,rfl,_,rfl,_,rfl,_,_,rfl,rfl,⟨by decide,by decide⟩,_,_,rfl,rfl,(by show (0:Int) < 605;decide),?_⟩
   refine ⟨_,_,rfl,rfl,⟨by decide,by decide,by decide⟩,szl 3,fun l2 hl2=>?_⟩
   obtain ⟨sz2,h20,hat2⟩:=ZG7 (xs:=[st,m / 1000 % 605,1 * 2 ^ (39:Int).toNat]) (i:=m / 144 % 3) (p:=fun v=>0≤v) (Int.emod_nonneg _ (by decide)) (Int.emod_lt_of_pos _ (by decide)) (List.forall_mem_cons.mpr ⟨hs0,List.forall_mem_cons.mpr ⟨d0,List.forall_mem_cons.mpr ⟨by decide,fun _ h=>nomatch h⟩⟩⟩)
   refine ⟨_,rfl,_,_,rfl,rfl,⟨by decide,by decide⟩,_,_,rfl,rfl,(by show (0:Int) < 3;decide),l2,_,_,_,rfl,rfl,SqL.of Zb,hat2,?_⟩
   refine ⟨szl 3,fun t ht=>?_⟩
   exact q (.cut n sz2) _ _ ⟨rfl,h20⟩ ((Zh hl1).trans ((Zh hl2).trans (Zh ht))) ⟨t,rfl,Zb⟩
  ·have d0:0≤m / 1000 % 9:=Int.emod_nonneg _ (by decide)
   have d1:m / 1000 % 9 < 9:=Int.emod_lt_of_pos _ (by decide)
   have e0:0≤m / 1000 % 90:=Int.emod_nonneg _ (by decide)
   have e1:m / 1000 % 90 < 90:=Int.emod_lt_of_pos _ (by decide)
   have g0:0≤m / 1000 % 2:=Int.emod_nonneg _ (by decide)
   have g1:m / 1000 % 2 < 2:=Int.emod_lt_of_pos _ (by decide)
   refine ⟨_,rfl,_,_,rfl,rfl,⟨by decide,by decide⟩,_,_,rfl,rfl,(by show (0:Int) < 9;decide),_,_,rfl,rfl,?_⟩
   refine ⟨_,rfl,_,_,rfl,rfl,⟨by decide,by decide⟩,_,_,rfl,rfl,(by show (0:Int) < 90;decide),?_⟩
   refine ⟨_,rfl,_,_,rfl,rfl,_,_,rfl,?_⟩
   refine ⟨_,rfl,_,_,rfl,rfl,⟨by decide,by decide⟩,_,_,rfl,rfl,(by show (0:Int) < 2;decide),_,_,rfl,rfl,?_⟩
   refine ⟨szl 4,fun l2 hl2=>?_⟩
   obtain ⟨many,⟨hm0,hm1⟩,hat2⟩:=ZG7 (xs:=[0,1 + m / 1000 % 9,m / 1000 % 90,(if 600 - st > 0 then 600 - st else 0) + m / 1000 % 2]) (i:=m / 144 % 4) (p:=fun v=>0≤v∧v≤700) (Int.emod_nonneg _ (by decide)) (Int.emod_lt_of_pos _ (by decide)) (by
    refine List.forall_mem_cons.mpr ⟨⟨by decide,by decide⟩,List.forall_mem_cons.mpr ⟨⟨by omega,by omega⟩,List.forall_mem_cons.mpr ⟨⟨by omega,by omega⟩,List.forall_mem_cons.mpr ⟨?_,fun _ h=>nomatch h⟩⟩⟩⟩
    split <;> omega)
   refine ⟨_,rfl,_,_,rfl,rfl,⟨by decide,by decide⟩,_,_,rfl,rfl,(by show (0:Int) < 4;decide),l2,_,_,_,rfl,rfl,SqL.of Zb,hat2,?_⟩
   refine ⟨_,rfl,_,rfl,_,rfl,many,rfl,by omega,by omega,fun D hD=>?_⟩
   refine Zyb _ (n:=many.toNat) (lo:=0) (fun i ys H'=>∃ xs:Row,ys=xs.map V.int∧xs.length=i∧H' D=some (.lst ys)∧Same H H') ⟨[],rfl,rfl,Zb,(Zh hl1).trans ((Zh hl2).trans (Zh hD))⟩ (by omega) (fun i ys H' h=>?_) (fun i ys H' N hi h kk=>?_) (fun ys H' h=>?_)
   ·obtain ⟨xs,rfl,e,h4,_⟩:=h
    exact ⟨h4,by rw [List.length_map];omega⟩
   ·obtain ⟨xs,rfl,e,h4,h5⟩:=h
    refine ⟨_,rfl,_,rfl,_,rfl,_,_,rfl,rfl,.inl ⟨by omega,by omega⟩,_,_,rfl,rfl,_,_,rfl,rfl,(by show (0:Int) < 256;decide),?_⟩
    refine kk _ _ h4 ⟨xs++[_],by rw [List.map_append];rfl,by rw [List.length_append,e];rfl,Zb,fun b o eb=>?_⟩
    have hDH:=Zh8 ((Zh hl1).trans (Zh hl2)) hD
    have:b≠D:=fun z=>by rw [z,hDH] at eb;cases eb
    rw [Zd this]
    exact h5 _ _ eb
   ·obtain ⟨xs,rfl,e,h4,h5⟩:=h
    refine ⟨szl 4,fun t ht=>?_⟩
    exact q (.write n st xs D) _ _ ⟨rfl,hs0,by omega,by omega,Zh8 ((Zh hl1).trans (Zh hl2)) hD⟩ (h5.trans (Zh ht)) ⟨t,rfl,Zb,Zh ht _ _ h4⟩
def ZbS (n:Int):Row:=List.replicate n.toNat 0
def chg (d:Row):Deed→V×Row
 | .cut _ size=>if 600 < size then (.str "TooGreat",d) else (.non,d.take size.toNat++ZbS (size - (d.length:Int)))
 | .write _ st row _=>if 600 < st + (row.length:Int) then (.str "TooGreat",d) else if row=[] then (.int 0,d) else
  (.int (row.length:Nat),((d++ZbS (st - (d.length:Int))).take st.toNat++row)++(d++ZbS (st - (d.length:Int))).drop (st + (row.length:Int)).toNat)
theorem ZGU (d:Row) (n size:Int):chg d (.cut n size)=if 600 < size then (.str "TooGreat",d) else (.non,d.take size.toNat++ZbS (size - (d.length:Int))):=rfl
theorem ZvB (d:Row) (n st:Int) (row:Row) (l:Addr):chg d (.write n st row l)=if 600 < st + (row.length:Int) then (.str "TooGreat",d) else if row=[] then (.int 0,d) else
  (.int (row.length:Nat),((d++ZbS (st - (d.length:Int))).take st.toNat++row)++(d++ZbS (st - (d.length:Int))).drop (st + (row.length:Int)).toNat):=rfl
def Deed.Fit:Deed→Prop
 | .cut _ size=>0≤size
 | .write _ st row _=>0≤st∧st≤1000∧row.length≤1000
def ZKI:Sp:=fun vs H Q _=>∃ h d D v,vs=[.ref h,v]∧H h=some (.lst (d.map V.int))∧d.length≤1000∧Deed.At H v D∧D.Fit∧∀ t bh H',Same H H'→(bh=h∨H bh=none)→H' t=some (.tup [(chg d D).1,.ref bh])→H' bh=some (.lst ((chg d D).2.map V.int))→Q (.ref t) H'
theorem at0 (x:V) (r:List V):atI (x::r) 0=some x:=ZvQ (by decide) rfl
theorem at1 (x y:V) (r:List V):atI (x::y::r) 1=some y:=ZvQ (by decide) rfl
theorem at2 (x y z:V) (r:List V):atI (x::y::z::r) 2=some z:=ZvQ (by decide) rfl
theorem at3 (x y z u:V) (r:List V):atI (x::y::z::u::r) 3=some u:=ZvQ (by decide) rfl
theorem Zxd (n:Nat):(List.replicate n [V.int 0]).flatten=(List.replicate n (0:Int)).map V.int:=by rw [Zf1,List.map_replicate]
theorem cutW:decide (V.str "cut"=V.str "write")=false:=by decide +kernel
theorem ZBU:decide (V.str "write"=V.str "write")=true:=decide_eq_true rfl
theorem ZdR:Zo ["_law_held","_law_deed_here","_law_end","_law_wide"] ["_law_held","_law_deed_here"] (Zj ZaY):=⟨rfl,rfl,rfl,by decide +kernel,rfl,by decide +kernel,by decide +kernel⟩
theorem Zuu (T:Tx K mg g):FnOk P w K mg base (CXE P w) 1 g._law_changed g._law_changed_d ["_law_held","_law_deed_here"] ZKI:=by
 refine T.Zla.okE ZdR (fun vs H Q E h=>?_) (fun cdv A outer s H vs Q E hr h=>?_)
 ·obtain ⟨h,d,D,v,rfl,_⟩:=h
  rfl
 ·obtain ⟨h,d,D,v,rfl,hh,hd,hD,hFit,q⟩:=h
  have hu64:=hr.units
  refine ⟨_,(Ze (Zav (ZU Zuq (Zaw ZaF (pv 1) Zm (fun _ _=>rfl)) ZR (Zac _)) (Ze (ZJ (i:=2) ZdR.nd rfl (Or.inl rfl) (Zt ZcD (Zaw ZaF (pv 1) Zm (fun _ _=>rfl)) (ZB Zu (by rfl) T.Zbv PySem.boot_len (Za (Zaw ZaF (pv 1) Zm (fun _ _=>rfl)) Zc))))
   (Ze (Zav (ZU ZCD (pv 2) Zm (Zac _)) (Zi (Zz (Zar (Za ZR (Za (pv 0) Zc))))) ZP)
   (Ze (Zav (ZU (ZOA hu64) (Zaw ZaF (pv 1) Zm (fun _ _=>rfl)) (Zbs Zc) (Zac _)) (Zi (Zz (Zar (Za Zm (Za (pv 0) Zc))))) ZP)
   (Ze (ZJ (i:=3) ZdR.nd rfl (Or.inl rfl) (Zt Zna (pv 0) (Zt ZOy (Zbs (Za Zm Zc)) (Zt Zfx (Zaw ZaF (pv 1) Zm (fun _ _=>rfl)) (ZB Zu (by rfl) T.Zbv PySem.boot_len (Za (pv 0) Zc))))))
   (Zi (Zz (Zar (Za (ZB Zu (by rfl) T.Zbv PySem.boot_len (Za (Zaw ZaF (pv 1) Zm (fun _ _=>rfl)) Zc)) (Za (Zt Zna (Zt Zna (ZaM ZhD (pv 3) ZdV (ZaL (Zaw ZaF (pv 1) Zm (fun _ _=>rfl)))) (Zaw ZaF (pv 1) Zm (fun _ _=>rfl))) (ZaM ZhD (pv 3) (ZaL (pv 2)) ZdV)) Zc))))))))) ZP)
   (Ze (Zav (ZU ZCD (Zaw ZaF (pv 1) Zm (fun _ _=>rfl)) Zm (Zac _)) (Zi (Zz (Zar (Za ZR (Za (pv 0) Zc))))) ZP)
   (Zi (Zz (Zar (Za ZOu (Za (Zt Zna (ZaM ZhD (pv 0) ZdV (ZaL (Zaw ZaF (pv 1) Zm (fun _ _=>rfl)))) (Zt ZOy (Zbs (Za Zm Zc)) (Zt Zfx (Zaw ZaF (pv 1) Zm (fun _ _=>rfl)) (ZB Zu (by rfl) T.Zbv PySem.boot_len (Za (pv 0) Zc))))) Zc))))))),?_⟩
  cases D with
  | cut n size=>
   obtain ⟨t,rfl,ht⟩:=hD
   have hs0:0≤size:=hFit
   rw [ZGU] at q
   refine ⟨_,rfl,t,_,_,_,rfl,rfl,SqT.of ht,at0 _ _,rfl,_,rfl,?_⟩
   rw [cutW]
   refine iteF ⟨_,rfl,t,_,_,_,rfl,rfl,SqT.of ht,at2 _ _ _ _,_,_,rfl,rfl,_,rfl,?_⟩
   by_cases h6:600 < size
   ·rw [if_pos h6] at q
    rw [decide_eq_true h6]
    exact iteT ⟨_,rfl,szl 2,fun u hu=>q u h _ (Zh hu) (.inl rfl) Zb (Zh hu _ _ hh)⟩
   rw [if_neg h6] at q
   rw [decide_eq_false h6]
   refine iteF ⟨_,rfl,_,rfl,t,_,_,_,rfl,rfl,SqT.of ht,at2 _ _ _ _,_,rfl,h,_,rfl,SqL.of hh,fun p1 n1=>?_⟩
   rw [ZAZ _ _ hs0]
   have s1:=Zh (o:=.lst ((d.take size.toNat).map V.int)) n1
   have f1:=Zb (H:=H) (a:=p1) (o:=.lst ((d.take size.toNat).map V.int))
   generalize upd H p1 (.lst ((d.take size.toNat).map V.int))=H1 at s1 f1 ⊢
   refine ⟨szl 1,fun p2 n2=>?_⟩
   have s2:=Zh (o:=.lst [.int 0]) n2
   have f2:=Zb (H:=H1) (a:=p2) (o:=.lst [.int 0])
   generalize upd H1 p2 (.lst [.int 0])=H2 at s2 f2 ⊢
   have s12:=s1.trans s2
   refine ⟨_,rfl,t,_,_,_,rfl,rfl,SqT.of (s12 _ _ ht),at2 _ _ _ _,_,rfl,h,_,rfl,.inl (SqL.of (s12 _ _ hh)),_,_,rfl,rfl,?_⟩
   rw [List.length_map]
   refine ⟨p2,_,_,rfl,rfl,f2,by omega,by omega,(by show 1 * _≤_;exact Zs (m:=2000) (by omega) (by decide)),fun p3 n3=>?_⟩
   rw [Zxd]
   have s3:=Zh (o:=.lst ((List.replicate (size - (d.length:Int)).toNat (0:Int)).map V.int)) n3
   have f3:=Zb (H:=H2) (a:=p3) (o:=.lst ((List.replicate (size - (d.length:Int)).toNat (0:Int)).map V.int))
   generalize upd H2 p3 (.lst ((List.replicate (size - (d.length:Int)).toNat (0:Int)).map V.int))=H3 at s3 f3 ⊢
   refine ⟨p1,p3,_,_,rfl,rfl,(s2.trans s3) _ _ f1,f3,?_,fun p4 n4=>?_⟩
   ·rw [List.length_map,List.length_map,List.length_take,List.length_replicate];exact Zs (m:=4000) (by omega) (by decide)
   have s4:=Zh (o:=.lst ((d.take size.toNat).map V.int++(List.replicate (size - (d.length:Int)).toNat (0:Int)).map V.int)) n4
   have sA:=(s12.trans s3).trans s4
   refine ⟨szl 2,fun u hu=>q u p4 _ (sA.trans (Zh hu)) (.inr (Zh8 (s12.trans s3) n4)) Zb ?_⟩
   rw [Zh hu _ _ Zb]
   unfold ZbS
   rw [List.map_append]
  | write n ZN row l=>
   obtain ⟨t,rfl,ht,hl⟩:=hD
   obtain ⟨hs0,hs1,hrl⟩:0≤ZN∧ZN≤1000∧row.length≤1000:=hFit
   rw [ZvB] at q
   refine ⟨_,rfl,t,_,_,_,rfl,rfl,SqT.of ht,at0 _ _,rfl,_,rfl,?_⟩
   rw [ZBU]
   refine iteT ⟨_,rfl,t,_,_,_,rfl,rfl,SqT.of ht,at2 _ _ _ _,_,rfl,t,_,_,_,rfl,rfl,SqT.of ht,at3 _ _ _ _ _,l,_,rfl,.inl (SqL.of hl),_,_,rfl,rfl,?_⟩
   rw [List.length_map]
   refine ⟨_,rfl,_,_,rfl,rfl,_,rfl,?_⟩
   by_cases h6:600 < ZN + (row.length:Int)
   ·rw [if_pos h6] at q
    rw [decide_eq_true h6]
    exact iteT ⟨_,rfl,szl 2,fun u hu=>q u h _ (Zh hu) (.inl rfl) Zb (Zh hu _ _ hh)⟩
   rw [if_neg h6] at q
   rw [decide_eq_false h6]
   refine iteF ⟨_,rfl,t,_,_,_,rfl,rfl,SqT.of ht,at3 _ _ _ _ _,Nat.zero_le _,fun p0 n0=>?_⟩
   have s0:=Zh (o:=.lst []) n0
   have f0:=Zb (H:=H) (a:=p0) (o:=.lst [])
   generalize upd H p0 (.lst [])=H0 at s0 f0 ⊢
   refine ⟨.list (row.map .int),.list [],.inl (.inr ⟨l,_,_,rfl,rfl,SqL.of (s0 _ _ hl),ZtC _ row⟩),.inl (.inr ⟨p0,[],[],rfl,rfl,SqL.of f0,.nil⟩),ZfY row,rfl,_,rfl,?_⟩
   by_cases h0:row=[]
   ·subst h0
    rw [if_pos rfl] at q
    exact iteT ⟨_,rfl,szl 2,fun u hu=>q u h _ (s0.trans (Zh hu)) (.inl rfl) Zb (Zh hu _ _ (s0 _ _ hh))⟩
   rw [if_neg h0] at q
   have heq:PyData.eqv (.list (row.map .int)) (.list [])=false:=by
    cases row with
    | nil=>exact absurd rfl h0
    | cons _ _=>rfl
   rw [heq]
   have hh0:=s0 _ _ hh
   have ht0:=s0 _ _ ht
   have hl0:=s0 _ _ hl
   refine iteF ⟨_,rfl,szl 1,fun p2 n2=>?_⟩
   have s2:=Zh (o:=.lst [.int 0]) n2
   have f2:=Zb (H:=H0) (a:=p2) (o:=.lst [.int 0])
   generalize upd H0 p2 (.lst [.int 0])=H2 at s2 f2 ⊢
   refine ⟨_,rfl,t,_,_,_,rfl,rfl,SqT.of (s2 _ _ ht0),at2 _ _ _ _,_,rfl,h,_,rfl,.inl (SqL.of (s2 _ _ hh0)),_,_,rfl,rfl,?_⟩
   rw [List.length_map]
   refine ⟨p2,_,_,rfl,rfl,f2,by omega,by omega,(by show 1 * _≤_;exact Zs (m:=2000) (by omega) (by decide)),fun p3 n3=>?_⟩
   rw [Zxd]
   have s3:=Zh (o:=.lst ((List.replicate (ZN - (d.length:Int)).toNat (0:Int)).map V.int)) n3
   have f3:=Zb (H:=H2) (a:=p3) (o:=.lst ((List.replicate (ZN - (d.length:Int)).toNat (0:Int)).map V.int))
   generalize upd H2 p3 (.lst ((List.replicate (ZN - (d.length:Int)).toNat (0:Int)).map V.int))=H3 at s3 f3 ⊢
   refine ⟨h,p3,_,_,rfl,rfl,(s2.trans s3) _ _ hh0,f3,?_,fun p4 n4=>?_⟩
   ·rw [List.length_map,List.length_map,List.length_replicate];exact Zs (m:=4000) (by omega) (by decide)
   have ew:d.map V.int++(List.replicate (ZN - (d.length:Int)).toNat (0:Int)).map V.int=(d++ZbS (ZN - (d.length:Int))).map V.int:=by rw [List.map_append];rfl
   rw [ew]
   have hwl:(d++ZbS (ZN - (d.length:Int))).length≤2000:=by rw [List.length_append];unfold ZbS;rw [List.length_replicate];omega
   generalize d++ZbS (ZN - (d.length:Int))=wide at q hwl ⊢
   have s4:=Zh (o:=.lst (wide.map V.int)) n4
   have f4:=Zb (H:=H3) (a:=p4) (o:=.lst (wide.map V.int))
   generalize upd H3 p4 (.lst (wide.map V.int))=H4 at s4 f4 ⊢
   have s04:=(s2.trans s3).trans s4
   have sH4:=s0.trans s04
   refine ⟨_,rfl,t,_,_,_,rfl,rfl,SqT.of (s04 _ _ ht0),at3 _ _ _ _ _,l,_,rfl,.inl (SqL.of (s04 _ _ hl0)),?_⟩
   rw [List.length_map]
   refine ⟨_,rfl,_,rfl,t,_,_,_,rfl,rfl,SqT.of (s04 _ _ ht0),at2 _ _ _ _,_,rfl,p4,_,rfl,SqL.of f4,fun p5 n5=>?_⟩
   rw [ZAZ _ _ hs0]
   have s5:=Zh (o:=.lst ((wide.take ZN.toNat).map V.int)) n5
   have f5:=Zb (H:=H4) (a:=p5) (o:=.lst ((wide.take ZN.toNat).map V.int))
   generalize upd H4 p5 (.lst ((wide.take ZN.toNat).map V.int))=H5 at s5 f5 ⊢
   have hl5:=s5 _ _ (s04 _ _ hl0)
   refine ⟨_,rfl,t,_,_,_,rfl,rfl,SqT.of (s5 _ _ (s04 _ _ ht0)),at3 _ _ _ _ _,p5,l,_,_,rfl,rfl,f5,hl5,?_,fun p6 n6=>?_⟩
   ·rw [List.length_map,List.length_map,List.length_take];exact Zs (m:=4000) (by omega) (by decide)
   rw [← List.map_append]
   have s6:=Zh (o:=.lst ((wide.take ZN.toNat++row).map V.int)) n6
   have f6:=Zb (H:=H5) (a:=p6) (o:=.lst ((wide.take ZN.toNat++row).map V.int))
   generalize upd H5 p6 (.lst ((wide.take ZN.toNat++row).map V.int))=H6 at s6 f6 ⊢
   refine ⟨_,rfl,_,rfl,_,rfl,p4,_,rfl,SqL.of ((s5.trans s6) _ _ f4),fun p7 n7=>?_⟩
   rw [ZD3 _ _ (by omega)]
   have s7:=Zh (o:=.lst ((wide.drop (ZN + (row.length:Int)).toNat).map V.int)) n7
   have f7:=Zb (H:=H6) (a:=p7) (o:=.lst ((wide.drop (ZN + (row.length:Int)).toNat).map V.int))
   generalize upd H6 p7 (.lst ((wide.drop (ZN + (row.length:Int)).toNat).map V.int))=H7 at s7 f7 ⊢
   refine ⟨p6,p7,_,_,rfl,rfl,s7 _ _ f6,f7,?_,fun p8 n8=>?_⟩
   ·rw [List.length_map,List.length_map,List.length_append,List.length_take,List.length_drop];exact Zs (m:=8000) (by omega) (by decide)
   have sA:=((sH4.trans s5).trans s6).trans s7
   refine ⟨szl 2,fun u hu=>q u p8 _ ((sA.trans (Zh n8)).trans (Zh hu)) (.inr (Zh8 sA n8)) Zb ?_⟩
   rw [Zh hu _ _ Zb,← List.map_append]
end
end KS
namespace KS
open PySem L2
def ZL9 (F:Fil):Deed→Except Rf (Fil×V)
 | .cut n size=>match cutF F n size with
  | .ok F'=>.ok (F',.non)
  | .error r=>.error r
 | .write n st row _=>match Zq3 F n st row with
  | .ok F'=>.ok (F',.int (row.length:Nat))
  | .error r=>.error r
theorem Zvp (F:Fil) (n size:Int):ZL9 F (.cut n size)=match cutF F n size with
  | .ok F'=>.ok (F',.non)
  | .error r=>.error r:=rfl
theorem Zgr (F:Fil) (n st:Int) (row:Row) (l:Addr):ZL9 F (.write n st row l)=match Zq3 F n st row with
  | .ok F'=>.ok (F',.int (row.length:Nat))
  | .error r=>.error r:=rfl
def ZOj (g:Gs):Sp:=fun vs H Q _=>∃ f q p b l F D v,vs=[.ref f,v]∧ZaV g H f q p b l F∧ZbR F.S∧Zk7 F.k∧ZBk F.T.synced∧Deed.At H v D∧D.Fit∧(match ZL9 F D with
 | .ok (F',ans)=>∀ H',But1 f H H'→ZaV g H' f q p b l F'→Q ans H'
 | .error r=>∀ H',Same H H'→Q (.str r.word) H')
section
variable {P:Program} {w:World} {K:PySem.W.Frag} {mg:Str→Option Value} {base:Heap} {g:Gs}
theorem Zq9:Zo ["_law_files","_law_deed_here","_law_e"] ["_law_files","_law_deed_here"] (Zj ZbJ):=⟨rfl,rfl,rfl,by decide +kernel,rfl,by decide +kernel,by decide +kernel⟩
theorem ZCI (T:Tx K mg g):FnOk P w K mg base (CXE P w) 8 g._law_told g._law_told_d ["_law_files","_law_deed_here"] (ZOj g):=by
 refine T.Zv3.okE Zq9 (fun vs H Q E h=>?_) (fun cdv A outer s H vs Q E hr h=>?_)
 ·obtain ⟨f,q0,p,b,l,F,D,v,rfl,_⟩:=h
  rfl
 ·obtain ⟨f,q0,p,b,l,F,D,v,rfl,hFF,so,kk,po,hD,hFit,q⟩:=h
  obtain ⟨dx,sv,kv,iv,hF⟩:=id hFF
  refine ⟨_,(Zi (ZQV (X:=cxOf (CXE P w) P w K mg base ["_law_files","_law_deed_here","_law_e"] "_law_told" (Zj ZbJ) g._law_told cdv A outer s H E) (i:=2) (tb:=fun E=>tSeq (tIfS (ZQs (tOp rEq (tOp (rIxT K) (tVar 1) (tC (.int 0))) (tC (.str "write")))) (tRet (ZKs g.Files "write" (ZHD g) [] E (tVar 0) (ZeU (tOp (rIxT K) (tVar 1) (tC (.int 1))) (ZeU (tOp (rIxT K) (tVar 1) (tC (.int 2))) (ZeU (tOp (rIxT K) (tVar 1) (tC (.int 3))) tNil))))) ZQu) (tRet (ZKs g.Files "cut" (ZOl g) [] E (tVar 0) (ZeU (tOp (rIxT K) (tVar 1) (tC (.int 1))) (ZeU (tOp (rIxT K) (tVar 1) (tC (.int 2))) tNil))))) rfl rfl rfl rfl T.Zrp T.ZB3 Zq9.nd rfl rfl
   (fun pn E' E hE=>(Ze (Zav (ZU Zuq (Zaw ZaF (pv 1) Zm (fun _ _=>rfl)) ZR (Zac _)) (Zi (Zz (Zaf (pv 0) T.ZK T.ZAL (Zwz T) hr.dn T.ZA6 .nil hE (Za (Zaw ZaF (pv 1) Zm (fun _ _=>rfl)) (Za (Zaw ZaF (pv 1) Zm (fun _ _=>rfl)) (Za (Zaw ZaF (pv 1) Zm (fun _ _=>rfl)) Zc)))))) ZP)
   (Zi (Zz (Zaf (pv 0) T.ZK T.ZGM (ZCL T) hr.dn T.ZG5 .nil hE (Za (Zaw ZaF (pv 1) Zm (fun _ _=>rfl)) (Za (Zaw ZaF (pv 1) Zm (fun _ _=>rfl)) Zc)))))))
   (fun a=>(Zi (Zz (ZNn (ZCH T) (hr.dn.hot _) rfl T.ZGA T.Zv2.kp T.ZG1 (Za (pv 2) Zc))))))),?_⟩
  cases D with
  | cut n size=>
   obtain ⟨t,rfl,ht⟩:=hD
   refine ⟨_,rfl,t,_,_,_,rfl,rfl,SqT.of ht,at0 _ _,rfl,_,rfl,?_⟩
   rw [cutW]
   refine iteF ?_
   refine ⟨_,rfl,f,dx,_,rfl,hF.ob,Zaz _ _ _ _,_,rfl,t,_,_,_,rfl,rfl,SqT.of ht,at1 _ _ _,_,rfl,t,_,_,_,rfl,rfl,SqT.of ht,at2 _ _ _ _,?_⟩
   refine ⟨f,q0,p,b,l,F,n,size,rfl,hFF,so,hFit,kk,po,?_⟩
   rw [Zvp] at q
   cases hm:cutF F n size with
   | ok F'=>
    rw [hm] at q
    exact fun H' b1 h'=>q H' b1 h'
   | error r=>
    rw [hm] at q
    intro H1 s1
    refine ⟨g.xa r,rfl,T.sub r,fun a na=>?_⟩
    exact ⟨_,rfl,a,r,rfl,.inl Zb,fun H' sm=>q H' (s1.trans ((Zh na).trans sm))⟩
  | write n ZN row l0=>
   obtain ⟨t,rfl,ht,hl⟩:=hD
   obtain ⟨hs0,hs1,hrl⟩:0≤ZN∧ZN≤1000∧row.length≤1000:=hFit
   refine ⟨_,rfl,t,_,_,_,rfl,rfl,SqT.of ht,at0 _ _,rfl,_,rfl,?_⟩
   rw [ZBU]
   refine iteT ?_
   refine ⟨_,rfl,f,dx,_,rfl,hF.ob,Zaz _ _ _ _,_,rfl,t,_,_,_,rfl,rfl,SqT.of ht,at1 _ _ _,_,rfl,t,_,_,_,rfl,rfl,SqT.of ht,at2 _ _ _ _,_,rfl,t,_,_,_,rfl,rfl,SqT.of ht,at3 _ _ _ _ _,?_⟩
   refine ⟨f,q0,p,b,l,F,n,ZN,l0,row,rfl,hFF,so,hs0,hl,hrl,kk,po,?_⟩
   rw [Zgr] at q
   cases hm:Zq3 F n ZN row with
   | ok F'=>
    rw [hm] at q
    exact fun H' b1 h'=>q H' b1 h'
   | error r=>
    rw [hm] at q
    intro H1 s1
    refine ⟨g.xa r,rfl,T.sub r,fun a na=>?_⟩
    exact ⟨_,rfl,a,r,rfl,.inl Zb,fun H' sm=>q H' (s1.trans ((Zh na).trans sm))⟩
end
def ent3:List (Int×Ents):=[(0,[("x",1),("y",2),("z",1)])]
def stS (d1 d2:Row):Sta:=⟨[(1,d1),(2,d2)],ent3⟩
def okB {ε α:Type}:Except ε α→Bool
 | .ok _=>true
 | .error _=>false
theorem ZPy {ε α:Type} {m:Except ε α} (h:okB m=true):∃ x,m=.ok x:=by
 cases m with
 | ok x=>exact ⟨x,rfl⟩
 | error _=>cases h
def img0:Img:=match Zgd Zas [] (Zcu 256 []) [] with
 | .ok I=>I
 | .error _=>⟨[],[]⟩
theorem ZR6:okB (Zgd Zas [] (Zcu 256 []) [])=true:=by decide +kernel
theorem ZPU:Zgd Zas [] (Zcu 256 []) []=.ok img0:=by
 obtain ⟨I,hI⟩:=ZPy ZR6
 have:img0=I:=by unfold img0;rw [hI]
 rw [this,hI]
def ZOq (pl:Zbf):Bool:=decide (pl.length≤100) && pl.all (fun p=>decide (p.2≠[]) && decide (p.2.length≤100) && p.2.all fun n=>decide (0≤n) && decide (n < 200)) && decide ((pl.map (·.2)).flatten.length≤1000)
theorem ZR1:ZOq img0.places=true:=by decide +kernel
theorem ZSb:decide (img0.heads.length≤1000)=true:=by decide +kernel
theorem ZRp:decide (100≤(Zcu 256 img0.places).length)=true:=by decide +kernel
theorem plc0:img0.places.length≤1000∧(∀ p∈img0.places,p.2≠[]∧p.2.length≤1000∧∀ n∈p.2,0≤n∧n < (256:Int))∧(img0.places.map (·.2)).flatten.length≤1000:=by
 have h:=ZR1
 unfold ZOq at h
 rw [Bool.and_eq_true,Bool.and_eq_true,decide_eq_true_iff,decide_eq_true_iff] at h
 refine ⟨by omega,fun p hp=>?_,h.2⟩
 have:=List.all_eq_true.mp h.1.2 p hp
 rw [Bool.and_eq_true,Bool.and_eq_true,decide_eq_true_iff,decide_eq_true_iff] at this
 refine ⟨this.1.1,by omega,fun n hn=>?_⟩
 have:=List.all_eq_true.mp this.2 n hn
 rw [Bool.and_eq_true,decide_eq_true_iff,decide_eq_true_iff] at this
 omega
theorem ZRI:ZBk img0.places:=⟨plc0.1,fun p hp=>(plc0.2.1 p hp).1,by have:=plc0.2.2;omega⟩
def dsk0:Dsk:=⟨List.replicate 256 (some Zfn),[]⟩
theorem ZND (D:Dsk) (n:Int) (b:Option Row):(D.write n b).blocks.length=D.blocks.length:=List.length_set ..
theorem ZOM {D:Dsk} (h:D.blocks.length=256):ZdI D=256:=by unfold ZdI;rw [h];rfl
theorem ZLN:ZcU Zes (dsk0.write 1 (some Zfn)) Zas []=.ok img0:=by
 unfold ZcU
 rw [ZOM (by rw [ZND];exact List.length_replicate ..)]
 exact ZPU
theorem ZRk:ZQj (dsk0.write 1 (some Zfn)) img0:=by
 refine ⟨plc0.1,of_decide_eq_true ZSb,fun p hp=>?_,by have:=plc0.2.2;omega⟩
 rw [ZND,show dsk0.blocks.length=256 from List.length_replicate ..]
 exact plc0.2.1 p hp
structure At (S:Sta) (F:Fil):Prop where
 s:F.S=S
 k:F.k=[]
 t:F.T.synced=img0.places
 d:F.D.blocks.length=256
theorem ZGN:∃ F,ZAP dsk0=.ok F∧At Zas F:=by
 refine ⟨⟨Zas,[],(Zzq Zes (dsk0.write 1 (some Zfn)) img0).1,(Zzq Zes (dsk0.write 1 (some Zfn)) img0).2,img0⟩,?_,rfl,rfl,rfl,?_⟩
 ·unfold ZAP
  rw [ZLN]
 ·show (Zzq Zes (dsk0.write 1 (some Zfn)) img0).2.blocks.length=256
  have e:=(ZHL Zes.synced img0.places (dsk0.write 1 (some Zfn)) fun p hp=>(plc0.2.1 p hp).1).1
  unfold Zzq
  show ((Dsk.write _ _ _).blocks).length=256
  rw [ZND]
  show ((img0.places.foldl (Zep Zes.synced) (dsk0.write 1 (some Zfn))).blocks).length=256
  rw [e,ZND]
  exact List.length_replicate ..
theorem ZhA {S S':Sta} {F:Fil} (h:At S F) (hr:((ZA S').map fun n=>Z0 (Zbw S' n).2).sum + (5 * (ZA S').length + 62) / 63≤100):∃ F',Zte F S' F.k=.ok F'∧At S' F':=by
 have:=of_decide_eq_true ZRp
 obtain ⟨I,hI⟩:=ZDB (S:=S') (free:=Zcu 256 img0.places) (older:=img0.places) (by omega)
 refine ⟨⟨S',[],F.T,F.D,I⟩,?_,rfl,rfl,h.t,h.d⟩
 unfold Zte ZcU
 rw [ZOM h.d,h.t,h.k,hI]
theorem ZPF (d1 d2:Row):ZA (stS d1 d2)=[0,1,2]:=rfl
theorem row0:Z0 (ZcN [(("x":Str),(1:Int)),("y",2),("z",1)])≤3:=by decide +kernel
theorem Zzr {d1 d2:Row} (h1:d1.length≤600) (h2:d2.length≤600):((ZA (stS d1 d2)).map fun n=>Z0 (Zbw (stS d1 d2) n).2).sum + (5 * (ZA (stS d1 d2)).length + 62) / 63≤100:=by
 rw [ZPF]
 show (Z0 (ZcN [(("x":Str),(1:Int)),("y",2),("z",1)]) + (Z0 d1 + (Z0 d2 + 0))) + (5 * 3 + 62) / 63≤100
 have:=row0
 have e1:Z0 d1≤10:=by unfold Z0;omega
 have e2:Z0 d2≤10:=by unfold Z0;omega
 omega
def dOf (n:Int) (d1 d2:Row):Row:=if n=1 then d1 else d2
def sOf (n:Int) (d d1 d2:Row):Sta:=if n=1 then stS d d2 else stS d1 d
theorem Zvu {n:Int} (hn:n=1∨n=2) (d1 d2:Row):Zdq (stS d1 d2) n=.ok (dOf n d1 d2):=by rcases hn with rfl | rfl <;> rfl
theorem ZOn {n:Int} (hn:n=1∨n=2) (d d1 d2:Row):(⟨putA (stS d1 d2).dat n d,(stS d1 d2).ent⟩:Sta)=sOf n d d1 d2:=by rcases hn with rfl | rfl <;> rfl
theorem ZHI {n:Int} {d d1 d2:Row} (h:d.length≤600) (h1:d1.length≤600) (h2:d2.length≤600):((ZA (sOf n d d1 d2)).map fun m=>Z0 (Zbw (sOf n d d1 d2) m).2).sum + (5 * (ZA (sOf n d d1 d2)).length + 62) / 63≤100:=by
 unfold sOf
 split
 ·exact Zzr h h2
 ·exact Zzr h1 h
theorem ZCC (d:Row) (n:Int):padF d n=d++ZbS (n - (d.length:Int)):=rfl
theorem ZMS (d:Row) (n:Int) (h:0≤n):(padF d n).take n.toNat=d.take n.toNat++ZbS (n - (d.length:Int)):=by
 rw [ZCC,List.take_append]
 congr 1
 unfold ZbS
 rw [List.take_replicate]
 congr 1
 omega
theorem ZDX (d:Row) (n k:Int) (h0:0≤n) (hk:0≤k):(d++ZbS (n - (d.length:Int))).drop (n + k).toNat=d.drop (n + k).toNat:=by
 rw [List.drop_append]
 unfold ZbS
 rw [List.drop_replicate,show ((n - (d.length:Int)).toNat - ((n + k).toNat - d.length))=0 by omega]
 simp
theorem Deed.num {H:Hp} {n:Int}:∀ {D:Deed},D.Ok H n→D.Fit
 | .cut _ _,h=>h.2
 | .write _ _ _ _,h=>⟨h.2.1,h.2.2.1,h.2.2.2.1⟩
theorem ZIa {H:Hp} {n:Int} (hn:n=1∨n=2) {d1 d2:Row} (h1:d1.length≤600) (h2:d2.length≤600) {F:Fil} (hF:At (stS d1 d2) F) {D:Deed} (hD:D.Ok H n) :
  (chg (dOf n d1 d2) D).2.length≤600∧((∃ F',ZL9 F D=.ok (F',(chg (dOf n d1 d2) D).1)∧At (sOf n (chg (dOf n d1 d2) D).2 d1 d2) F')∨(∃ r,ZL9 F D=.error r∧(chg (dOf n d1 d2) D).1=.str r.word∧(chg (dOf n d1 d2) D).2=dOf n d1 d2)):=by
 have hdl:(dOf n d1 d2).length≤600:=by unfold dOf;split <;> assumption
 have same:sOf n (dOf n d1 d2) d1 d2=stS d1 d2:=by rcases hn with rfl | rfl <;> rfl
 cases D with
 | cut m size=>
  obtain ⟨rfl,hs⟩:=hD
  rw [ZGU]
  by_cases h6:600 < size
  ·rw [if_pos h6]
   refine ⟨hdl,.inr ⟨.tooGreat,?_,rfl,rfl⟩⟩
   rw [Zvp]
   unfold cutF Zem
   rw [hF.s,Zvu hn]
   dsimp only
   rw [if_pos h6]
  ·rw [if_neg h6]
   have hl:((dOf m d1 d2).take size.toNat++ZbS (size - ((dOf m d1 d2).length:Int))).length≤600:=by
    unfold ZbS
    rw [List.length_append,List.length_take,List.length_replicate]
    omega
   refine ⟨hl,.inl ?_⟩
   obtain ⟨F',e,hF'⟩:=ZhA hF (ZHI (n:=m) hl h1 h2)
   refine ⟨F',?_,hF'⟩
   rw [Zvp]
   unfold cutF Zem
   rw [hF.s,Zvu hn]
   dsimp only
   rw [if_neg h6,ZOn hn,ZMS _ _ hs]
   dsimp only
   rw [e]
 | write m ZN row l=>
  obtain ⟨rfl,hs0,hs1,hrl,_⟩:=hD
  rw [ZvB]
  by_cases h6:600 < ZN + (row.length:Int)
  ·rw [if_pos h6]
   refine ⟨hdl,.inr ⟨.tooGreat,?_,rfl,rfl⟩⟩
   rw [Zgr]
   unfold Zq3 Zdt
   rw [hF.s,Zvu hn]
   dsimp only
   rw [if_pos h6]
  ·rw [if_neg h6]
   by_cases h0:row=[]
   ·subst h0
    rw [if_pos rfl]
    refine ⟨hdl,.inl ?_⟩
    dsimp only
    rw [same]
    obtain ⟨F',e,hF'⟩:=ZhA hF (Zzr h1 h2)
    refine ⟨F',?_,hF'⟩
    rw [Zgr]
    unfold Zq3 Zdt
    rw [hF.s,Zvu hn]
    dsimp only
    rw [if_neg h6,if_pos rfl]
    dsimp only
    rw [e]
    rfl
   ·rw [if_neg h0]
    have hl:(((dOf m d1 d2++ZbS (ZN - ((dOf m d1 d2).length:Int))).take ZN.toNat++row)++(dOf m d1 d2++ZbS (ZN - ((dOf m d1 d2).length:Int))).drop (ZN + (row.length:Int)).toNat).length≤600:=by
     rw [ZDX _ _ _ hs0 (by omega),List.length_append,List.length_append,List.length_take,List.length_drop]
     omega
    refine ⟨hl,.inl ?_⟩
    obtain ⟨F',e,hF'⟩:=ZhA hF (ZHI (n:=m) hl h1 h2)
    refine ⟨F',?_,hF'⟩
    rw [Zgr]
    unfold Zq3 Zdt
    rw [hF.s,Zvu hn]
    dsimp only
    rw [if_neg h6,if_neg h0,ZOn hn]
    dsimp only
    rw [ZDX _ _ _ hs0 (by omega)] at e
    rw [ZCC,e]
theorem ZRr (d1 d2:Row):ZNV (stS d1 d2) "/z"=.ok 1:=by kernel_rfl
theorem ZQ2 {d1 d2:Row} (h1:d1.length≤600) (h2:d2.length≤600):ZbR (stS d1 d2):=by
 refine ⟨by show 2 + 1 < 64;decide,fun n r h=>?_,fun n es h=>?_⟩
 ·have:=Zex h
  rcases List.mem_cons.mp this with e | e
  ·cases e;omega
  ·rcases List.mem_cons.mp e with e | e
   ·cases e;omega
   ·cases e
 ·have:=Zex h
  rcases List.mem_cons.mp this with e | e
  ·cases e
   exact ⟨by decide,by unfold ZvY;decide +kernel⟩
  ·cases e
end KS
set_option maxHeartbeats 8000000
namespace KS
open PySem L2
def sta1:Sta:=⟨[(1,[])],[(0,[("x",1)])]⟩
def sta2:Sta:=⟨[(1,[]),(2,[])],[(0,[("x",1),("y",2)])]⟩
theorem ZR5:ZC8 Zas "/x" "file"=.ok sta1:=by kernel_rfl
theorem ZR4:ZC8 sta1 "/y" "file"=.ok sta2:=by kernel_rfl
theorem ZPM:ZlA sta2 "/x" "/z"=.ok (stS [] []):=by kernel_rfl
theorem ZRW:((ZA sta1).map fun n=>Z0 (Zbw sta1 n).2).sum + (5 * (ZA sta1).length + 62) / 63≤100:=by decide +kernel
theorem ZRV:((ZA sta2).map fun n=>Z0 (Zbw sta2 n).2).sum + (5 * (ZA sta2).length + 62) / 63≤100:=by decide +kernel
def ZOi (S:Sta):Bool:=decide (S.dat.length + S.ent.length < 64) && S.dat.all (fun p=>decide (p.2.length≤1000)) && S.ent.all (fun p=>decide (p.2.length < 64) && p.2.all fun q=>Zcr q.1)
theorem ZB5 {S:Sta} (h:ZOi S=true):ZbR S:=by
 unfold ZOi at h
 rw [Bool.and_eq_true,Bool.and_eq_true,decide_eq_true_iff] at h
 refine ⟨h.1.1,fun n r e=>?_,fun n es e=>?_⟩
 ·exact of_decide_eq_true (List.all_eq_true.mp h.1.2 (n,r) (Zex e))
 ·have:=List.all_eq_true.mp h.2 (n,es) (Zex e)
  rw [Bool.and_eq_true,decide_eq_true_iff] at this
  exact ⟨this.1,fun q hq=>List.all_eq_true.mp this.2 q hq⟩
theorem ZbR.small {S:Sta} (h:ZbR S):ZqP S:=⟨by have:=h.n;omega,by have:=h.n;omega,fun n es e=>by have:=(h.ent n es e).1;omega⟩
theorem ZQ4:ZbR sta1:=ZB5 (by decide +kernel)
theorem ZQ3:ZbR sta2:=ZB5 (by decide +kernel)
theorem mg2 (a b:V):Zno [] [(Sum.inl (1:Int),a),(Sum.inl (2:Int),b)]=[(Sum.inl (1:Int),a),(Sum.inl (2:Int),b)]:=by kernel_rfl
theorem ZGH {S:Sta} {F:Fil} (h:At S F):Zk7 F.k:=by rw [h.k];exact ZHV
theorem ZK3 {S:Sta} {F:Fil} (h:At S F):ZBk F.T.synced:=by rw [h.t];exact ZRI
section
variable {P:Program} {w:World} {K:PySem.W.Frag} {mg:Str→Option Value} {base:Heap} {g:Gs}
theorem ZLq {H:Hp} {f q p b l:Addr} {F:Fil} {S S':Sta} {pa kd:Str} {n:Int} (hF:ZaV g H f q p b l F) (h:At S F) (so:ZbR S) (so':ZbR S') (hp:pa.length≤1000) (hm:ZC8 S pa kd=.ok S') (hn:ZfC S=some n) (hr:((ZA S').map fun n=>Z0 (Zbw S' n).2).sum + (5 * (ZA S').length + 62) / 63≤100) {Q:VK} {E:XK} (k:∀ F' H',At S' F'→But1 f H H'→ZaV g H' f q p b l F'→Q (.int n) H') :
  ZOk g [.ref f,.str pa,.str kd] H Q E:=by
 obtain ⟨F',e,h'⟩:=ZhA h hr
 refine ⟨f,q,p,b,l,F,pa,kd,rfl,hF,by rw [h.s];exact so.small,by rw [h.s];have:=so.n;omega,by rw [h.s];have:=so.n;omega,hp,fun S0 hS=>?_,ZGH h,ZK3 h,?_⟩
 ·rw [h.s,hm] at hS
  cases hS
  exact so'
 ·have e2:ZNz F pa kd=.ok F':=by unfold ZNz;rw [h.s,hm];exact e
  rw [e2]
  intro H' b1 hF'
  rw [h.s,hn]
  exact k F' H' h' b1 hF'
theorem ZPN {H:Hp} {f q p b l:Addr} {F:Fil} {S S':Sta} {pa kd:Str} (hF:ZaV g H f q p b l F) (h:At S F) (so:ZbR S) (so':ZbR S') (hp:pa.length≤1000) (hp2:kd.length≤1000) (hm:ZlA S pa kd=.ok S') (hr:((ZA S').map fun n=>Z0 (Zbw S' n).2).sum + (5 * (ZA S').length + 62) / 63≤100) {Q:VK} {E:XK} (k:∀ F' H',At S' F'→But1 f H H'→ZaV g H' f q p b l F'→Q .non H') :
  ZKF g [.ref f,.str pa,.str kd] H Q E:=by
 obtain ⟨F',e,h'⟩:=ZhA h hr
 refine ⟨f,q,p,b,l,F,pa,kd,rfl,hF,by rw [h.s];exact so.small,hp,hp2,fun S0 hS=>?_,ZGH h,ZK3 h,?_⟩
 ·rw [h.s,hm] at hS
  cases hS
  exact so'
 ·have e2:ZNC F pa kd=.ok F':=by unfold ZNC;rw [h.s,hm];exact e
  rw [e2]
  intro H' b1 hF'
  exact k F' H' h' b1 hF'
theorem Zvi {H:Hp}:∀ {n:Nat} {vs:List V},Ims H vs (List.replicate n (.int 0))→vs=List.replicate n (.int 0)
 | 0,_,h=>by cases h;rfl
 | n + 1,_,h=>by
  rw [List.replicate_succ] at h
  cases h with
  | cons a r=>
   cases a
   rw [Zvi r,List.replicate_succ]
theorem ZN5 {H:Hp} {p b l:Addr} {vb:List V} {n:Nat} (h:ZOV g.Disk H p b l vb [] (List.replicate n ZJ9) []):Zck g H p b l ⟨List.replicate n (some Zfn),[]⟩:=by
 obtain ⟨⟨dx,ob⟩,hb,hl,ib,_,ne⟩:=h
 refine ⟨dx,vb,[],ob,hb,hl,?_,.nil,ne⟩
 clear hb
 induction n generalizing vb with
 | zero=>cases ib;exact .nil
 | succ n ih=>
  rw [List.replicate_succ] at ib ⊢
  cases ib with
  | cons a r=>
   refine .cons ?_ (ih r)
   unfold ZJ9 at a
   cases a with
   | tup e r2=>exact ⟨_,rfl,by rw [e,Zvi r2];unfold Zfn;rw [List.map_replicate]⟩
theorem _root_.L2.SqL.keep {H H':Hp} {a:Addr} {xs:List V} (h:SqL K H a xs) (k:∀ o,H a=some o→(∀ C dx fs,o≠.ins C dx fs)→(∀ kvs,o≠.dK kvs)→H' a=some o):SqL K H' a xs:=by
 rcases h with (h | ⟨o,h⟩) | h
 ·exact .inl (.inl (k _ h (by intro _ _ _ z;cases z) (by intro _ z;cases z)))
 ·exact .inl (.inr ⟨o,k _ h (by intro _ _ _ z;cases z) (by intro _ z;cases z)⟩)
 ·exact .inr h
def ZMX (K:PySem.W.Frag):Sp:=fun vs H Q _=>∃ (a:Addr) (ns:List Int),vs=[.ref a]∧SqL K H a (ns.map V.int)∧ns.length≤63∧∀ H',Q (.bl true) H'
structure Loop (g:Gs) (K:PySem.W.Frag) (H:Hp) (a f h q x b l:Addr) (ns:List Int) (d1 d2:Row):Prop where
 F:∃ F,At (stS d1 d2) F∧ZaV g H f q x b l F
 held:∃ L1 L2,H h=some (.dK [(Sum.inl 1,.ref L1),(Sum.inl 2,.ref L2)])∧H L1=some (.lst (d1.map V.int))∧H L2=some (.lst (d2.map V.int))
 l1:d1.length≤600
 l2:d2.length≤600
 sc:SqL K H a (ns.map V.int)
theorem ZAK {H:Hp} {h L1 L2:Addr} {n:Int} (hh:H h=some (.dK [(Sum.inl 1,.ref L1),(Sum.inl 2,.ref L2)])) (hn:n=1∨n=2):DGet H h (.int n) (some (.ref (if n=1 then L1 else L2))):=by
 rcases hn with rfl | rfl
 ·exact DGet.k hh (k:=.inl 1)
 ·exact DGet.k hh (k:=.inl 2)
theorem ZHY {L1 L2 B:Addr} {n:Int} (hn:n=1∨n=2):putK ([(Sum.inl 1,V.ref L1),(Sum.inl 2,V.ref L2)]:List (Key×V)) (Sum.inl n) (.ref B)=([(Sum.inl 1,V.ref (if n=1 then B else L1)),(Sum.inl 2,V.ref (if n=1 then L2 else B))]:List (Key×V)):=by
 rcases hn with rfl | rfl <;> rfl
theorem ZX (d:Row):SeqAt.shaped (.list (d.map PyData.int))=true:=ZfY d
theorem Ziy (d:Row):PyData.eqv (.list (d.map PyData.int)) (.list (d.map PyData.int))=true:=ZdH (ZfY d)
theorem datL {H:Hp} {a:Addr} {d:Row} (h:H a=some (.lst (d.map V.int))):DatT K H (.ref a) (.list (d.map PyData.int)):=.inl (.inr ⟨a,_,_,rfl,rfl,SqL.of h,ZtC _ d⟩)
theorem ZRa {H:Hp} {d f:Addr} {xs:List V} {C dx:Addr} {fs:List (Str×V)} (h:H d=some (.lst xs)) (hf:H f=some (.ins C dx fs)):d≠f:=ZY h hf (by intro z;cases z)
theorem ZQf {a b:V} {σ:St} {H:Hp} {k:List V→Hp→Prop} (h:k [a,b] H):ZeU (tC a) (ZeU (tC b) tNil) σ H k:=h
theorem Zgs {n:Int} (hn:n=1∨n=2) {d d1 d2:Row}:Zdq (sOf n d d1 d2) n=.ok d:=by rcases hn with rfl | rfl <;> rfl
theorem ZCr (n:Int) (d d1 d2:Row):sOf n d d1 d2=stS (if n=1 then d else d1) (if n=1 then d2 else d):=by
 unfold sOf
 by_cases z:n=1
 ·rw [if_pos z,if_pos z,if_pos z]
 ·rw [if_neg z,if_neg z,if_neg z]
theorem ZuG (n:Int) (d d1 d2:Row):(ZC6 (sOf n d d1 d2)).length≤100000:=by rw [ZCr];show 3≤100000;decide
theorem ZyL {n:Int} (hn:n=1∨n=2) (d d1 d2:Row):Zbb (sOf n d d1 d2) n=true∧kindOf (sOf n d d1 d2) n="file"∧ZAC (sOf n d d1 d2) n=3 - n∧ZHF (sOf n d d1 d2) n=((d.length:Nat):Int):=by rcases hn with rfl | rfl <;> exact ⟨rfl,rfl,rfl,rfl⟩
theorem ZAT (n:Int) (d d1 d2:Row):ZNV (sOf n d d1 d2) "/z"=.ok 1:=by rw [ZCr];exact ZRr _ _
theorem ZOQ (d:Row) (h:d.length≤600):(d.drop (0:Int).toNat).take ((1:Int) * 2 ^ (39:Int).toNat).toNat=d:=by
 rw [show (0:Int).toNat=0 from rfl,List.drop_zero]
 exact List.take_of_length_le (Nat.le_trans h (by decide))
theorem ZaI (b c:Int):SeqAt.shaped (.tuple [.str "file",.int b,.int c])=true:=ZF3 (Flat.tup (k:=0) (List.forall_mem_cons.mpr ⟨ZNU (by decide +kernel),List.forall_mem_cons.mpr ⟨ZAR _,List.forall_mem_cons.mpr ⟨ZAR _,fun _ h=>nomatch h⟩⟩⟩)) (by decide)
theorem ZId (d:Row) (D:Deed):scal (chg d D).1 (chg d D).1=true:=by
 cases D with
 | cut n s=>rw [ZGU];split <;> rfl
 | write n s r l=>rw [ZvB];split <;> (try split) <;> rfl
theorem ZKm {H H0:Hp} {f q p b l:Addr} {F:Fil} {n:Int} {d1 d2:Row} {D:Deed} {v:V} (hn:n=1∨n=2) (h1:d1.length≤600) (h2:d2.length≤600) (hAt:At (stS d1 d2) F) (hF:ZaV g H f q p b l F) (hOk:D.Ok H0 n) (hD:Deed.At H v D) {Q:VK} {E:XK}
  (k:∀ F5 H5,But1 f H H5→ZaV g H5 f q p b l F5→At (sOf n (chg (dOf n d1 d2) D).2 d1 d2) F5→Q (chg (dOf n d1 d2) D).1 H5):ZOj g [.ref f,v] H Q E:=by
 refine ⟨f,q,p,b,l,F,D,v,rfl,hF,by rw [hAt.s];exact ZQ2 h1 h2,ZGH hAt,ZK3 hAt,hD,Deed.num hOk,?_⟩
 obtain ⟨_,⟨F',e,h'⟩ | ⟨r,e,e1,e2⟩⟩:=ZIa hn h1 h2 hAt hOk
 ·rw [e]
  exact fun H' b1 hF'=>k F' H' b1 hF' h'
 ·rw [e]
  intro H' s'
  rw [← e1]
  refine k F H' (fun d o e _=>s' _ _ e) (hF.same s') ?_
  rw [e2]
  have:sOf n (dOf n d1 d2) d1 d2=stS d1 d2:=by rcases hn with rfl | rfl <;> rfl
  rw [this]
  exact hAt
theorem Zej:Zo ["_law_script","_law_files","_law_held","_law_k","_law_cell_here","_law_more","_law_number","_law_deed_here","_law_kept","_law_due","_law_behind","_law_start","_law_many","_law_told_here"] ["_law_script"] (Zj ZI3):=⟨rfl,rfl,rfl,by decide +kernel,rfl,by decide +kernel,by decide +kernel⟩
theorem ZQ5 (T:Tx K mg g):FnOk P w K mg base CX0 10 g.law g.ZNE ["_law_script"] (ZMX K):=by
 refine T.ZSi.ok Zej (fun vs H Q E h=>?_) (fun cdv A outer s H vs Q E hr h=>?_)
 ·obtain ⟨a,ns,rfl,_⟩:=h
  rfl
 ·obtain ⟨a,ns,rfl,hS,hlen,q⟩:=h
  have hu64:=hr.units
  have hu:=u1 hr.units
  have hSZ:(100000:Nat)≤sizeLine:=by decide
  refine ⟨_,(Ze (ZJ (i:=1) Zej.nd rfl (Or.inl rfl) (Zp (ZCG T) hr.dn rfl T.ZGz T.Zv1.kp T.ZG0 .nil Zh4 (Za (Zh0 T.ZGt (ZCM T) hr.dn rfl T.ZQ9 T.ZG6 .nil Zh4 (Za Zm Zc)) Zc)))
   (Ze (Zav (Zug (Zuf (ZQZ (pv 1) (ZI (v:=.ref g.Files) rfl T.ZLA rfl) rfl T.ZT))) (Zi (Zz Zun)) ZP)
   (Ze (ZJ (i:=2) Zej.nd rfl (Or.inl rfl) (ZNm (Zzu (Zaf (pv 1) T.ZK T.Zsc (Znh T) hr.dn T.Zs0 .nil Zh4 (Za ZR (Za ZR Zc))) (Zbs Zc) (Zzu (Zaf (pv 1) T.ZK T.Zsc (Znh T) hr.dn T.Zs0 .nil Zh4 (Za ZR (Za ZR Zc))) (Zbs Zc) ZKY)) rfl rfl (by simp) (by decide)))
   (Ze (ZW (Zaf (pv 1) T.ZK T.ZDQ (ZzE T) hr.dn T.ZEw .nil Zh4 (Za ZR (Za ZR Zc))))
   (Ze (Zfv PassesOwn.never rfl (Zm7 rfl T.Zlc (Za (ZB (ZvE rfl) (by rfl) T.ZKa PyProof.Rows.Boot.«max» (Za Zm (Za (ZB (ZEc rfl) (by rfl) T.ZMK PyProof.Rows.Boot.«min» (Za Zm (Za (ZB Zu (by rfl) T.Zbv PySem.boot_len (Za (pv 0) Zc)) Zc))) Zc))) Zc)) (Z5 (i:=3) Zej.nd rfl (Or.inl rfl)) (Ze (ZJ (i:=4) Zej.nd rfl (Or.inl rfl) (Zp (ZCK T) hr.dn rfl T.ZGD T.Zv5.kp T.ZG4 .nil Zh4 (Za (pv 0) (Za (pv 3) Zc))))
   (Ze (ZJ (i:=5) Zej.nd rfl (Or.inl rfl) (Zp (Zzz T) hr.dn rfl T.ZDb T.Ztd.kp T.ZEr .nil Zh4 (Za (pv 4) (Za (pv 3) Zc))))
   (Ze (ZJ (i:=6) Zej.nd rfl (Or.inl rfl) (Zt ZcD Zm (Zt ZaT (pv 5) Zm)))
   (Ze (ZJ (i:=7) Zej.nd rfl (Or.inl rfl) (Zp (ZCJ T) hr.dn rfl T.ZGC T.Zv4.kp T.ZG3 .nil Zh4 (Za (pv 4) (Za (Zt ZaN (pv 5) Zm) (Za (pv 6) (Za (ZB Zu (by rfl) T.Zbv PySem.boot_len (Za (ZbM hu (pv 2) (pv 6) (fun _ _=>rfl)) Zc)) Zc))))))
   (Ze (ZJ (i:=8) Zej.nd rfl (Or.inl rfl) (Zzv (ZU Zuq (Zaw ZaF (pv 7) Zm (fun _ _=>rfl)) ZR (Zac _)) (ZaS Zsw rfl T.Zq2 PyProof.Rows.Boot.«list» (Za (Zaw ZaF (pv 7) (Zum Zhz Zm) (fun _ _=>rfl)) Zc)) (Zbs Zc)))
   (Ze (ZKX (Zp (Zuu T) hr.dn rfl T.ZwX T.Zla.kp T.Zw2 .nil Zh4 (Za (ZbM hu (pv 2) (pv 6) (fun _ _=>rfl)) (Za (pv 7) Zc))) (ZCA rfl (ZcT (Z5 (i:=9) Zej.nd rfl (Or.inl rfl)) (ZcT (Z5 (i:=10) Zej.nd rfl (Or.inl rfl)) Zul))))
   (Ze (Zav (PW.pt (Zzs (ZU ZPu (Zp (ZCI T) hr.dn rfl T.ZGB T.Zv3.kp T.ZG2 .nil Zh4 (Za (pv 1) (Za (pv 7) Zc))) (pv 9) (Zac _)) (Zue (PW.pt (ZOm (ZU Zuq (Zaw ZaF (pv 7) Zm (fun _ _=>rfl)) ZR (Zac _)) (ZKW (ZU (Zxx hu64) (Zaw ZaF (pv 7) Zm (fun _ _=>rfl)) (pv 8) (Zac _)))))))) (Zi (Zz Zun)) ZP)
   (Ze (Zqb hu (pv 2) (pv 6) (pv 10) rfl)
   (Ze (ZJ (i:=11) Zej.nd rfl (Or.inl rfl) (Zt ZaT (Zt ZaN (pv 5) Zm) Zm))
   (Ze (ZJ (i:=12) Zej.nd rfl (Or.inl rfl) (Zt ZaT (Zt ZaN (pv 5) Zm) Zm))
   (Ze (ZJ (i:=13) Zej.nd rfl (Or.inl rfl) (Zaf (pv 1) T.ZK T.Zit (Zf5 T) hr.dn T.Zi2 .nil Zh4 (Za (pv 6) (Za (pv 11) (Za (pv 12) Zc)))))
   (Ze (Zav (PW.pt (Zzs (ZU (Zxx hu64) (pv 13) (ZaM ZhD (pv 10) (ZaL (pv 11)) (ZaL (Zt ZcD (pv 11) (pv 12)))) (Zac _)) (Zue (ZU (Zxx hu64) (Zaf (pv 1) T.ZK T.Zit (Zf5 T) hr.dn T.Zi2 .nil Zh4 (Za (pv 6) (Za Zm (Za (Zt ZOx Zm Zm) Zc)))) (pv 10) (Zac _))))) (Zi (Zz Zun)) ZP)
   (Ze (ZW (Ztq PySem.F.plainAttrs_list PySem.F.slot_list_append PySem.F.type_list_append ZdX (pv 13) (Za Zm Zc)))
   (Ze (Zav (PW.pt (ZOm (ZU Zuq (Zaw ZaF (pv 7) Zm (fun _ _=>rfl)) ZR (Zac _)) (ZKW (ZU (Zxx hu64) (Zaw ZaF (pv 7) Zm (fun _ _=>rfl)) (Zbs Zc) (Zac _))))) (Zi (ZKX (Zt Zfx Zm (Zaw ZbN (Zaw ZaF (pv 7) Zm (fun _ _=>rfl)) Zm (fun _ _=>rfl))) (ZOt (Zaw ZaF (pv 7) Zm (fun _ _=>rfl)) Zm ZHG))) ZP)
   (Ze (Zav (ZU (Zxx hu64) (Zaf (pv 1) T.ZK T.Zit (Zf5 T) hr.dn T.Zi2 .nil Zh4 (Za (pv 6) (Za (pv 11) (Za (pv 12) Zc)))) (ZaM ZhD (pv 10) (ZaL (pv 11)) (ZaL (Zt ZcD (pv 11) (pv 12)))) (Zac _)) (Zi (Zz Zun)) ZP)
   (Zi (Zav (PW.pt (Zzs (ZU (Zxx hu64) (Zaf (pv 1) T.ZK T.ZDP (ZzD T) hr.dn T.ZEv .nil Zh4 (Za (pv 6) Zc)) (Zar (Za ZR (Za (Zt Zfx Zm (pv 6)) (Za (ZB Zu (by rfl) T.Zbv PySem.boot_len (Za (pv 10) Zc)) Zc)))) (Zac _)) (Zue (ZU ZPu (Zaf (pv 1) T.ZK T.ZDR (ZzG T) hr.dn T.ZEy .nil Zh4 (Za ZR Zc)) Zm (Zac _))))) (Zi (Zz Zun)) ZP))))))))))))))))))
   (Zi (Zz Zun))))))),?_⟩
  intro x dx nx ndx nex
  refine ⟨x,dx,256,rfl,Zb,fun z=>by omega,fun _ _ b l vb H3 fb fl D3 kp=>⟨rfl,?_⟩⟩
  have s0:Same H (upd (upd H dx (.own x)) x (.ins g.Disk dx [])):=fun b o e=>by
   rw [Zd (Zf e nx),Zd (Zf e ndx)]
   exact e
  have s3:Same H H3:=fun c o e=>kp c o (s0 c o e) (Zf e nx)
  obtain ⟨F0,hf0,at0⟩:=ZGN
  refine ⟨x,b,l,dsk0,rfl,ZN5 D3,by decide,by decide,fun I hI=>?_,?_⟩
  ·rw [ZLN] at hI
   cases hI
   exact ZRk
  rw [hf0]
  intro f q0 H4 b4 hF4
  have hS4:SqL K H4 a (ns.map V.int):=hS.keep fun o e _ _=>b4 _ _ (s3 _ _ e) (Zf (s0 _ _ e) fb) (Zf (s0 _ _ e) fl)
  clear hS D3 kp s3 s0
  have fOb:∀ {H':Hp} {F:Fil},ZaV g H' f q0 x b l F→∃ dx s k t i,H' f=some (.ins g.Files dx (ffl s k t i)):=fun h=>let ⟨dx,sv,kv,iv,h⟩:=h;⟨dx,sv,kv,_,iv,h.ob⟩
  obtain ⟨dxf,sv0,kv0,t0,iv0,ho4⟩:=fOb hF4
  refine ⟨_,rfl,f,g.Files,dxf,_,rfl,ho4,T.ZK,T.ZPE,_,rfl,iteF ?_⟩
  -- the dict
  intro h ob nh
  have sA:Same H4 (upd (upd H4 h (.dK [])) h (.frz ob (.dK []))):=fun d o e=>by rw [Zd (Zf e nh),Zd (Zf e nh)];exact e
  have fA:=Zb (H:=upd H4 h (.dK [])) (a:=h) (o:=.frz ob (.dK []))
  generalize upd (upd H4 h (.dK [])) h (.frz ob (.dK []))=A0 at sA fA ⊢
  have hFA:=hF4.same sA
  have hSA:=sA.seq hS4
  have hoA:=sA _ _ ho4
  have nhf:h≠f:=ZY fA hoA (by intro z;cases z)
  refine ⟨_,rfl,f,dxf,_,rfl,hoA,Zaz _ _ _ _,?_⟩
  refine ZQf ?_
  refine ZLq hFA at0 ZH3 ZQ4 (by decide +kernel) ZR5 (n:=1) (by kernel_rfl) ZRW fun F1 H5 at1 b5 hF5=>?_
  refine ⟨Nat.zero_le _,fun L1 nL1=>?_⟩
  have sB:=Zh (o:=.lst []) nL1
  have fB:=Zb (H:=H5) (a:=L1) (o:=.lst [])
  generalize upd H5 L1 (.lst [])=B0 at sB fB ⊢
  obtain ⟨dx1,sv1,kv1,t1,iv1,ho1⟩:=fOb (hF5.same sB)
  refine ⟨_,rfl,f,dx1,_,rfl,ho1,Zaz _ _ _ _,?_⟩
  refine ZQf ?_
  refine ZLq (hF5.same sB) at1 ZQ4 ZQ3 (by decide +kernel) ZR4 (n:=2) (by kernel_rfl) ZRV fun F2 H6 at2 b6 hF6=>?_
  refine ⟨Nat.zero_le _,fun L2 nL2=>?_⟩
  have sC:=Zh (o:=.lst []) nL2
  have fC:=Zb (H:=H6) (a:=L2) (o:=.lst [])
  generalize upd H6 L2 (.lst [])=C0 at sC fC ⊢
  have fzC:C0 h=some (.frz ob (.dK [])):=sC _ _ (b6 _ _ (sB _ _ (b5 _ _ fA nhf)) nhf)
  refine ⟨fzC,[(Sum.inl 1,.ref L1),(Sum.inl 2,.ref L2)],rfl,(by show 2≤15;decide),?_⟩
  rw [mg2]
  have hFC:=hF6.same sC
  have hL1C:C0 L1=some (.lst []):=sC _ _ (b6 _ _ fB (ZRa fB ho1))
  have hSC:SqL K C0 a (ns.map V.int):=hSA.keep fun o e n1 n2=>sC _ _ (b6 _ _ (sB _ _ (b5 _ _ e (fun z=>by subst z;rw [hoA] at e;cases e;exact n1 _ _ _ rfl))) (fun z=>by subst z;rw [hoA] at e;cases e;exact n1 _ _ _ rfl))
  have hFD:=hFC.thw (o1:=.dK []) (o2:=.dK [(Sum.inl 1,.ref L1),(Sum.inl 2,.ref L2)]) fzC
  have kD:∀ d o,C0 d=some o→(∀ ob u,o≠.frz ob u)→(upd (upd C0 h (.dK [])) h (.dK [(Sum.inl 1,.ref L1),(Sum.inl 2,.ref L2)])) d=some o:=fun d o e n=>by
   have:d≠h:=fun z=>by subst z;rw [fzC] at e;cases e;exact n _ _ rfl
   rw [Zd this,Zd this];exact e
  have hhD:=Zb (H:=upd C0 h (.dK [])) (a:=h) (o:=.dK [(Sum.inl 1,.ref L1),(Sum.inl 2,.ref L2)])
  have hL1D:=kD _ _ hL1C (by intro _ _ z;cases z)
  have hL2D:=kD _ _ fC (by intro _ _ z;cases z)
  have hSD:SqL K (upd (upd C0 h (.dK [])) h (.dK [(Sum.inl 1,.ref L1),(Sum.inl 2,.ref L2)])) a (ns.map V.int):=by
   rcases hSC with (e | ⟨o,e⟩) | e
   ·exact .inl (.inl (kD _ _ e (by intro _ _ z;cases z)))
   ·by_cases z:a=h
    ·subst z;rw [fzC] at e;cases e
    ·exact .inl (.inr ⟨o,by rw [Zd z,Zd z];exact e⟩)
   ·exact .inr e
  generalize upd (upd C0 h (.dK [])) h (.dK [(Sum.inl 1,.ref L1),(Sum.inl 2,.ref L2)])=D0 at hFD hhD hL1D hL2D hSD ⊢
  clear kD hFC hL1C hSC fzC hSA hFA
  obtain ⟨dx2,sv2,kv2,t2,iv2,ho2⟩:=fOb hFD
  refine ⟨_,rfl,f,dx2,_,rfl,ho2,Zaz _ _ _ _,?_⟩
  refine ZQf ?_
  refine ZPN hFD at2 ZQ3 (ZQ2 (by decide) (by decide)) (by decide +kernel) (by decide +kernel) ZPM (Zzr (by decide) (by decide)) fun F3 H7 at3' b7 hF7=>?_
  have nf:∀ {d:Addr} {o:HO},D0 d=some o→(∀ C dx fs,o≠.ins C dx fs)→d≠f:=fun e n z=>by subst z;rw [ho2] at e;cases e;exact n _ _ _ rfl
  have LP0:Loop g K H7 a f h q0 x b l ns [] []:=⟨⟨F3,at3',hF7⟩,⟨L1,L2,b7 _ _ hhD (nf hhD (by intro _ _ _ z;cases z)),b7 _ _ hL1D (nf hL1D (by intro _ _ _ z;cases z)),b7 _ _ hL2D (nf hL2D (by intro _ _ _ z;cases z))⟩,by decide,by decide,hSD.keep fun o e n1 _=>b7 _ _ e (nf e n1)⟩
  clear hFD hhD hL1D hL2D hSD nf hF7 at3'
  refine ⟨_,rfl,a,_,rfl,.inl LP0.sc,_,_,rfl,_,_,rfl,?_⟩
  rw [List.length_map]
  generalize hN:(if (if (ns.length:Int) < 20 then (ns.length:Int) else 20) > 1 then (if (ns.length:Int) < 20 then (ns.length:Int) else 20) else 1)=N
  have hN1:N≤20:=by rw [← hN];split <;> split <;> omega
  refine ⟨N,rfl,by omega,by omega,?_⟩
  refine ZDU (n:=N.toNat) (fun i σ H'=>∃ d1 d2 o3 o4 o5 o6 o7 o8 o9 o10 o11 o12 o13,σ=[some (.ref a),some (.ref f),some (.ref h),o3,o4,o5,o6,o7,o8,o9,o10,o11,o12,o13]∧Loop g K H' a f h q0 x b l ns d1 d2) ⟨[],[],_,_,_,_,_,_,_,_,_,_,_,rfl,LP0⟩ (fun i σ H' hi hp=>?_) (fun σ H' hp=>q _)
  obtain ⟨d1,d2,o3,o4,o5,o6,o7,o8,o9,o10,o11,o12,o13,rfl,LP⟩:=hp
  clear LP0 hF5 hF6 at0 at1 at2 hF4 hS4
  obtain ⟨F,hAt,hF⟩:=LP.F
  obtain ⟨M1,M2,hh,hM1,hM2⟩:=LP.held
  have hl1:=LP.l1
  have hl2:=LP.l2
  refine ⟨_,rfl,_,rfl,a,ns,_,rfl,LP.sc,hlen,by omega,by omega,fun H1 s1=>?_⟩
  refine ⟨_,rfl,_,rfl,_,_,rfl,?_⟩
  generalize ZRx (ZQd ns (0 + (i:Nat))) (0 + (i:Nat))=m
  refine ⟨_,rfl,_,_,rfl,rfl,(by show (0:Int) < 2;decide),_,_,rfl,rfl,?_⟩
  have hn:1 + m % 2=1∨1 + m % 2=2:=by omega
  dsimp only
  generalize 1 + m % 2=n at hn ⊢
  have hMn:∃ M,(if n=1 then M1 else M2)=M∧H' M=some (.lst ((dOf n d1 d2).map V.int))∧(dOf n d1 d2).length≤600:=by
   rcases hn with rfl | rfl
   ·exact ⟨M1,rfl,hM1,hl1⟩
   ·exact ⟨M2,rfl,hM2,hl2⟩
  obtain ⟨M,eM,hM,hMl⟩:=hMn
  have hg1:=ZAK (s1 _ _ hh) hn
  rw [eM] at hg1
  refine ⟨_,rfl,_,rfl,_,_,rfl,rfl,⟨by decide,by decide⟩,_,rfl,_,rfl,_,rfl,h,_,rfl,hg1,M,_,rfl,.inl (SqL.of (s1 _ _ hM)),?_⟩
  rw [List.length_map]
  refine ⟨_,_,_,_,rfl,by omega,by omega,fun D dv H2 hOk s2 hD=>?_⟩
  have s12:=s1.trans s2
  have hfit:=Deed.num hOk
  obtain ⟨hcl,hdue⟩:=ZIa hn hl1 hl2 hAt hOk
  cases D with
  | cut n' sz=>
   obtain ⟨t,rfl,ht⟩:=id hD
   obtain ⟨rfl,hs0⟩:=id hOk
   refine ⟨_,rfl,t,_,_,_,rfl,rfl,SqT.of ht,at0 _ _,rfl,_,rfl,?_⟩
   rw [cutW]
   refine iteF ⟨Nat.zero_le _,fun kp nkp=>?_⟩
   have s3:=Zh (o:=.lst ([])) nkp
   have fkp:=Zb (H:=H2) (a:=kp) (o:=.lst ([]))
   generalize upd H2 kp (.lst ([]))=H3 at s3 fkp ⊢
   have s13:=s12.trans s3
   have hg3:=ZAK (s13 _ _ hh) hn
   rw [eM] at hg3
   refine ⟨_,rfl,_,rfl,h,_,rfl,hg3,_,rfl,?_⟩
   refine ⟨M,dOf n' d1 d2,(.cut n' sz),_,rfl,s13 _ _ hM,by omega,⟨t,rfl,s3 _ _ ht⟩,hfit,fun tt bh H4 s4 hbh htt hbh4=>?_⟩
   refine ⟨tt,_,rfl,SqT.of htt,rfl,_,_,rfl,_,_,rfl,rfl,?_⟩
   have s14:=s13.trans s4
   have hF4:=hF.same s14
   obtain ⟨dx4,sv4,kv4,t4,iv4,ho4⟩:=fOb hF4
   have hD4:Deed.At H4 (.ref t) (.cut n' sz):=⟨t,rfl,s4 _ _ (s3 _ _ ht)⟩
   have ht4:=s4 _ _ (s3 _ _ ht)
   refine ⟨_,rfl,_,rfl,?_⟩
   dsimp only [tNil,List.append_nil]
   refine ZKm hn hl1 hl2 hAt hF4 hOk hD4 fun F5 H5 b5 hF5 at5=>?_
   have nff:∀ {d:Addr} {o:HO},H4 d=some o→(∀ C dx fs,o≠.ins C dx fs)→d≠f:=fun e n z=>by subst z;rw [ho4] at e;cases e;exact n _ _ _ rfl
   have ht5:=b5 _ _ ht4 (nff ht4 (by intro _ _ _ z;cases z))
   refine ⟨_,rfl,ZId _ _,_,rfl,ZLK rfl ?_⟩
   refine ⟨_,rfl,t,_,_,_,rfl,rfl,SqT.of ht5,at0 _ _,rfl,_,rfl,?_⟩
   rw [cutW]
   refine iteF ?_
   have hh4:=s14 _ _ hh
   have hh5:=b5 _ _ hh4 (nff hh4 (by intro _ _ _ z;cases z))
   have hM14:=s14 _ _ hM1
   have hM15:=b5 _ _ hM14 (nff hM14 (by intro _ _ _ z;cases z))
   have hM24:=s14 _ _ hM2
   have hM25:=b5 _ _ hM24 (nff hM24 (by intro _ _ _ z;cases z))
   have hb5:=b5 _ _ hbh4 (nff hbh4 (by intro _ _ _ z;cases z))
   refine ⟨_,rfl,_,rfl,_,rfl,h,_,rfl,DPut.k (k:=.inl n') hh5 (lt_size (by show 2≤1001;decide)),?_⟩
   rw [ZHY hn]
   have hF6:ZaV g (upd H5 h (.dK [(Sum.inl 1,V.ref (if n'=1 then bh else M1)),(Sum.inl 2,V.ref (if n'=1 then M2 else bh))])) f q0 x b l F5:=hF5.dct hh5 hM15
   have k6:∀ d o,H5 d=some o→(∀ kvs,o≠.dK kvs)→(upd H5 h (.dK [(Sum.inl 1,V.ref (if n'=1 then bh else M1)),(Sum.inl 2,V.ref (if n'=1 then M2 else bh))])) d=some o:=fun d o e n=>by
    have:d≠h:=fun z=>by subst z;rw [hh5] at e;cases e;exact n _ rfl
    rw [Zd this];exact e
   have hh6:=Zb (H:=H5) (a:=h) (o:=.dK [(Sum.inl 1,V.ref (if n'=1 then bh else M1)),(Sum.inl 2,V.ref (if n'=1 then M2 else bh))])
   generalize upd H5 h (.dK [(Sum.inl 1,V.ref (if n'=1 then bh else M1)),(Sum.inl 2,V.ref (if n'=1 then M2 else bh))])=H6 at hF6 k6 hh6 ⊢
   have hb6:=k6 _ _ hb5 (by intro _ z;cases z)
   have hM16:=k6 _ _ hM15 (by intro _ z;cases z)
   have hM26:=k6 _ _ hM25 (by intro _ z;cases z)
   have ht6:=k6 _ _ ht5 (by intro _ z;cases z)
   have hS6:SqL K H6 a (ns.map V.int):=LP.sc.keep fun o e n1 n2=>k6 _ _ (b5 _ _ (s14 _ _ e) (nff (s14 _ _ e) n1)) n2
   refine ⟨_,rfl,_,_,rfl,rfl,⟨by decide,by decide⟩,_,_,rfl,rfl,(by show (0:Int) < 700;decide),?_⟩
   have hst0:0≤m / 64 % 700:=Int.emod_nonneg _ (by decide)
   dsimp only
   generalize m / 64 % 700=st0 at hst0 ⊢
   refine ⟨_,rfl,_,_,rfl,rfl,⟨by decide,by decide⟩,_,_,rfl,rfl,(by show (0:Int) < 700;decide),?_⟩
   have hmn0:0≤m / 4096 % 700:=Int.emod_nonneg _ (by decide)
   dsimp only
   generalize m / 4096 % 700=mn0 at hmn0 ⊢
   obtain ⟨dx6,sv6,kv6,iv6,hF61⟩:=id hF6
   refine ⟨_,rfl,f,dx6,_,rfl,hF61.ob,Zaz _ _ _ _,_,rfl,_,rfl,_,rfl,?_⟩
   refine ⟨f,dx6,sv6,kv6,_,iv6,F5.S,n',st0,mn0,rfl,hF61.ob,hF61.st,by omega,by omega,?_⟩
   rw [at5.s,Zgs hn]
   intro r H7 s7 nr hr7
   refine ⟨_,rfl,_,rfl,_,rfl,_,rfl,_,rfl,_,rfl,_,_,rfl,rfl,_,rfl,bh,_,rfl,SqL.of (s7 _ _ hb6),fun p8 n8=>?_⟩
   rw [ZfK _ _ _ (by omega) (by omega)]
   have s8:=Zh (o:=.lst ((((chg (dOf n' d1 d2) (.cut n' sz)).2.drop st0.toNat).take mn0.toNat).map V.int)) n8
   have f8:=Zb (H:=H7) (a:=p8) (o:=.lst ((((chg (dOf n' d1 d2) (.cut n' sz)).2.drop st0.toNat).take mn0.toNat).map V.int))
   generalize upd H7 p8 (.lst ((((chg (dOf n' d1 d2) (.cut n' sz)).2.drop st0.toNat).take mn0.toNat).map V.int))=H8 at s8 f8 ⊢
   refine ⟨_,_,datL (s8 _ _ hr7),datL f8,ZX _,ZX _,_,rfl,?_⟩
   rw [Ziy]
   refine iteF ?_
   have s68:=s7.trans s8
   obtain ⟨dx8,sv8,kv8,iv8,hF81⟩:=hF6.same s68
   refine ⟨_,rfl,f,dx8,_,rfl,hF81.ob,Zaz _ _ _ _,_,rfl,_,_,rfl,rfl,⟨by decide,by decide,by decide⟩,?_⟩
   refine ⟨f,dx8,sv8,kv8,_,iv8,F5.S,n',0,_,rfl,hF81.ob,hF81.st,by decide,by decide,?_⟩
   rw [at5.s,Zgs hn]
   intro r9 H9 s9 _ hr9
   rw [ZOQ _ hcl] at hr9
   have s69:=s68.trans s9
   refine ⟨_,rfl,_,_,datL hr9,datL (s69 _ _ hb6),ZX _,ZX _,_,rfl,?_⟩
   rw [Ziy]
   refine iteF ?_
   have hr9':=(s8.trans s9) _ _ hr7
   refine ⟨_,rfl,.inl ⟨rfl,_,SqL.of hr9'⟩,r,_,_,rfl,rfl,hr9',(by rw [List.length_map,List.length_take,List.length_drop];omega),?_⟩
   obtain ⟨_,vb6,vl6,hd6⟩:=hF61.dsk
   have nrb:r≠b:=fun z=>by subst z;rw [hd6.hb] at nr;cases nr
   have nrl:r≠l:=fun z=>by subst z;rw [hd6.hl] at nr;cases nr
   have hFz0:=(hF6.same s69).lst (ys:=(((chg (dOf n' d1 d2) (.cut n' sz)).2.drop st0.toNat).take mn0.toNat).map V.int++[.int 0]) hr9' nrb nrl
   have kz0:Same H6 (upd H9 r (.lst ((((chg (dOf n' d1 d2) (.cut n' sz)).2.drop st0.toNat).take mn0.toNat).map V.int++[.int 0]))):=fun d o e=>by
    rw [Zd (Zf e nr)];exact s69 _ _ e
   generalize upd H9 r (.lst ((((chg (dOf n' d1 d2) (.cut n' sz)).2.drop st0.toNat).take mn0.toNat).map V.int++[.int 0]))=Hz at hFz0 kz0 ⊢
   have htz:=kz0 _ _ ht6
   refine ⟨_,rfl,t,_,_,_,rfl,rfl,SqT.of htz,at0 _ _,rfl,_,rfl,?_⟩
   rw [cutW]
   refine iteF ?_
   have hFz:=hFz0
   have hbz:=kz0 _ _ hb6
   have hM1z:=kz0 _ _ hM16
   have hM2z:=kz0 _ _ hM26
   have hhz:=kz0 _ _ hh6
   have hSz:=kz0.seq hS6
   obtain ⟨dxr,svr,kvr,ivr,hFr⟩:=id hFz
   refine ⟨_,rfl,f,dxr,_,rfl,hFr.ob,Zaz _ _ _ _,_,rfl,_,rfl,_,rfl,?_⟩
   refine ⟨f,dxr,svr,kvr,_,ivr,F5.S,n',st0,mn0,rfl,hFr.ob,hFr.st,by omega,by omega,?_⟩
   rw [at5.s,Zgs hn]
   intro r2 Ha sa _ hr2
   refine ⟨_,rfl,_,rfl,_,rfl,_,rfl,_,rfl,_,_,rfl,rfl,_,rfl,bh,_,rfl,SqL.of (sa _ _ hbz),fun p9 n9=>?_⟩
   rw [ZfK _ _ _ (by omega) (by omega)]
   have sb:=Zh (o:=.lst ((((chg (dOf n' d1 d2) (.cut n' sz)).2.drop st0.toNat).take mn0.toNat).map V.int)) n9
   have fb9:=Zb (H:=Ha) (a:=p9) (o:=.lst ((((chg (dOf n' d1 d2) (.cut n' sz)).2.drop st0.toNat).take mn0.toNat).map V.int))
   generalize upd Ha p9 (.lst ((((chg (dOf n' d1 d2) (.cut n' sz)).2.drop st0.toNat).take mn0.toNat).map V.int))=Hb at sb fb9 ⊢
   refine ⟨_,_,datL (sb _ _ hr2),datL fb9,ZX _,ZX _,_,rfl,?_⟩
   rw [Ziy]
   refine iteF ?_
   have sab:=sa.trans sb
   have hFb:=hFz.same sab
   obtain ⟨dxb,svb,kvb,ivb,hFb1⟩:=id hFb
   refine ⟨_,rfl,f,dxb,_,rfl,hFb1.ob,Zaz _ _ _ _,_,rfl,?_⟩
   refine ⟨f,dxb,svb,kvb,_,ivb,F5.S,n',rfl,hFb1.ob,hFb1.st,?_,?_⟩
   ·rw [at5.s];exact ZuG _ _ _ _
   rw [at5.s]
   obtain ⟨e1,e2,e3,e4⟩:=ZyL hn (chg (dOf n' d1 d2) (.cut n' sz)).2 d1 d2
   rw [e1,e2,e3,e4,if_pos rfl]
   intro ts Hs ss hts
   refine ⟨_,rfl,_,_,rfl,rfl,_,rfl,bh,_,rfl,.inl (SqL.of ((sab.trans ss) _ _ hbz)),szl 3,fun tu ntu=>?_⟩
   rw [List.length_map]
   have st2:=Zh (o:=.tup [.str "file",.int (3 - n'),.int (((chg (dOf n' d1 d2) (.cut n' sz)).2.length:Nat):Int)]) ntu
   have ft2:=Zb (H:=Hs) (a:=tu) (o:=.tup [.str "file",.int (3 - n'),.int (((chg (dOf n' d1 d2) (.cut n' sz)).2.length:Nat):Int)])
   generalize upd Hs tu (.tup [.str "file",.int (3 - n'),.int (((chg (dOf n' d1 d2) (.cut n' sz)).2.length:Nat):Int)])=Ht at st2 ft2 ⊢
   refine ⟨.tuple [.str "file",.int (3 - n'),.int (((chg (dOf n' d1 d2) (.cut n' sz)).2.length:Nat):Int)],.tuple [.str "file",.int (3 - n'),.int (((chg (dOf n' d1 d2) (.cut n' sz)).2.length:Nat):Int)],.inl (.inl (.tup (st2 _ _ hts) (.cons (.str _) (.cons (.int _) (.cons (.int _) .nil))))),.inl (.inl (.tup ft2 (.cons (.str _) (.cons (.int _) (.cons (.int _) .nil))))),ZaI _ _,ZaI _ _,_,rfl,?_⟩
   rw [ZdH (ZaI _ _)]
   refine iteF ?_
   have sabt:=(sab.trans ss).trans st2
   obtain ⟨dxt,svt,kvt,ivt,hFt⟩:=hFz.same sabt
   refine ⟨_,rfl,f,dxt,_,rfl,hFt.ob,Zaz _ _ _ _,?_⟩
   refine ⟨f,dxt,svt,kvt,_,ivt,F5.S,"/z",rfl,hFt.ob,hFt.st,(by decide +kernel),?_⟩
   rw [at5.s,ZAT]
   intro vf Hf sf ef
   cases ef
   refine ⟨rfl,_,rfl,ZLK rfl ?_⟩
   have sZ:=sabt.trans sf
   refine ⟨(if n'=1 then (chg (dOf n' d1 d2) (.cut n' sz)).2 else d1),(if n'=1 then d2 else (chg (dOf n' d1 d2) (.cut n' sz)).2),_,_,_,_,_,_,_,_,_,_,_,rfl,⟨F5,?_,hFz.same sZ⟩,⟨(if n'=1 then bh else M1),(if n'=1 then M2 else bh),sZ _ _ hhz,?_,?_⟩,?_,?_,?_⟩
   ·rw [← ZCr];exact at5
   ·rcases hn with rfl | rfl
    ·exact sZ _ _ hbz
    ·exact sZ _ _ hM1z
   ·rcases hn with rfl | rfl
    ·exact sZ _ _ hM2z
    ·exact sZ _ _ hbz
   ·rcases hn with rfl | rfl
    ·exact hcl
    ·exact hl1
   ·rcases hn with rfl | rfl
    ·exact hl2
    ·exact hcl
   ·exact sZ.seq hSz
  | write n' st row lD=>
   obtain ⟨t,rfl,ht,hlD⟩:=id hD
   obtain ⟨rfl,hs0,hs1,hrl,nlD⟩:=id hOk
   refine ⟨_,rfl,t,_,_,_,rfl,rfl,SqT.of ht,at0 _ _,rfl,_,rfl,?_⟩
   rw [ZBU]
   refine iteT ⟨_,rfl,_,rfl,t,_,_,_,rfl,rfl,SqT.of ht,rfl,lD,_,rfl,.inl (SqL.of hlD),fun kp nkp=>?_⟩
   have s3:=Zh (o:=.lst (row.map V.int)) nkp
   have fkp:=Zb (H:=H2) (a:=kp) (o:=.lst (row.map V.int))
   generalize upd H2 kp (.lst (row.map V.int))=H3 at s3 fkp ⊢
   have s13:=s12.trans s3
   have hg3:=ZAK (s13 _ _ hh) hn
   rw [eM] at hg3
   refine ⟨_,rfl,_,rfl,h,_,rfl,hg3,_,rfl,?_⟩
   refine ⟨M,dOf n' d1 d2,(.write n' st row lD),_,rfl,s13 _ _ hM,by omega,⟨t,rfl,s3 _ _ ht,s3 _ _ hlD⟩,hfit,fun tt bh H4 s4 hbh htt hbh4=>?_⟩
   refine ⟨tt,_,rfl,SqT.of htt,rfl,_,_,rfl,_,_,rfl,rfl,?_⟩
   have s14:=s13.trans s4
   have hF4:=hF.same s14
   obtain ⟨dx4,sv4,kv4,t4,iv4,ho4⟩:=fOb hF4
   have hD4:Deed.At H4 (.ref t) (.write n' st row lD):=⟨t,rfl,s4 _ _ (s3 _ _ ht),s4 _ _ (s3 _ _ hlD)⟩
   have ht4:=s4 _ _ (s3 _ _ ht)
   refine ⟨_,rfl,_,rfl,?_⟩
   dsimp only [tNil,List.append_nil]
   refine ZKm hn hl1 hl2 hAt hF4 hOk hD4 fun F5 H5 b5 hF5 at5=>?_
   have nff:∀ {d:Addr} {o:HO},H4 d=some o→(∀ C dx fs,o≠.ins C dx fs)→d≠f:=fun e n z=>by subst z;rw [ho4] at e;cases e;exact n _ _ _ rfl
   have ht5:=b5 _ _ ht4 (nff ht4 (by intro _ _ _ z;cases z))
   refine ⟨_,rfl,ZId _ _,_,rfl,ZLK rfl ?_⟩
   refine ⟨_,rfl,t,_,_,_,rfl,rfl,SqT.of ht5,at0 _ _,rfl,_,rfl,?_⟩
   rw [ZBU]
   have hlD4:=s4 _ _ (s3 _ _ hlD)
   have hlD5:=b5 _ _ hlD4 (nff hlD4 (by intro _ _ _ z;cases z))
   have hkp4:=s4 _ _ fkp
   have hkp5:=b5 _ _ hkp4 (nff hkp4 (by intro _ _ _ z;cases z))
   refine iteT ⟨_,rfl,t,_,_,_,rfl,rfl,SqT.of ht5,at3 _ _ _ _ _,_,rfl,_,_,datL hlD5,datL hkp5,ZX _,ZX _,_,rfl,?_⟩
   rw [Ziy]
   refine iteF ?_
   have hh4:=s14 _ _ hh
   have hh5:=b5 _ _ hh4 (nff hh4 (by intro _ _ _ z;cases z))
   have hM14:=s14 _ _ hM1
   have hM15:=b5 _ _ hM14 (nff hM14 (by intro _ _ _ z;cases z))
   have hM24:=s14 _ _ hM2
   have hM25:=b5 _ _ hM24 (nff hM24 (by intro _ _ _ z;cases z))
   have hb5:=b5 _ _ hbh4 (nff hbh4 (by intro _ _ _ z;cases z))
   refine ⟨_,rfl,_,rfl,_,rfl,h,_,rfl,DPut.k (k:=.inl n') hh5 (lt_size (by show 2≤1001;decide)),?_⟩
   rw [ZHY hn]
   have hF6:ZaV g (upd H5 h (.dK [(Sum.inl 1,V.ref (if n'=1 then bh else M1)),(Sum.inl 2,V.ref (if n'=1 then M2 else bh))])) f q0 x b l F5:=hF5.dct hh5 hM15
   have k6:∀ d o,H5 d=some o→(∀ kvs,o≠.dK kvs)→(upd H5 h (.dK [(Sum.inl 1,V.ref (if n'=1 then bh else M1)),(Sum.inl 2,V.ref (if n'=1 then M2 else bh))])) d=some o:=fun d o e n=>by
    have:d≠h:=fun z=>by subst z;rw [hh5] at e;cases e;exact n _ rfl
    rw [Zd this];exact e
   have hh6:=Zb (H:=H5) (a:=h) (o:=.dK [(Sum.inl 1,V.ref (if n'=1 then bh else M1)),(Sum.inl 2,V.ref (if n'=1 then M2 else bh))])
   generalize upd H5 h (.dK [(Sum.inl 1,V.ref (if n'=1 then bh else M1)),(Sum.inl 2,V.ref (if n'=1 then M2 else bh))])=H6 at hF6 k6 hh6 ⊢
   have hb6:=k6 _ _ hb5 (by intro _ z;cases z)
   have hM16:=k6 _ _ hM15 (by intro _ z;cases z)
   have hM26:=k6 _ _ hM25 (by intro _ z;cases z)
   have ht6:=k6 _ _ ht5 (by intro _ z;cases z)
   have hS6:SqL K H6 a (ns.map V.int):=LP.sc.keep fun o e n1 n2=>k6 _ _ (b5 _ _ (s14 _ _ e) (nff (s14 _ _ e) n1)) n2
   have hlD6:=k6 _ _ hlD5 (by intro _ z;cases z)
   refine ⟨_,rfl,_,_,rfl,rfl,⟨by decide,by decide⟩,_,_,rfl,rfl,(by show (0:Int) < 700;decide),?_⟩
   have hst0:0≤m / 64 % 700:=Int.emod_nonneg _ (by decide)
   dsimp only
   generalize m / 64 % 700=st0 at hst0 ⊢
   refine ⟨_,rfl,_,_,rfl,rfl,⟨by decide,by decide⟩,_,_,rfl,rfl,(by show (0:Int) < 700;decide),?_⟩
   have hmn0:0≤m / 4096 % 700:=Int.emod_nonneg _ (by decide)
   dsimp only
   generalize m / 4096 % 700=mn0 at hmn0 ⊢
   obtain ⟨dx6,sv6,kv6,iv6,hF61⟩:=id hF6
   refine ⟨_,rfl,f,dx6,_,rfl,hF61.ob,Zaz _ _ _ _,_,rfl,_,rfl,_,rfl,?_⟩
   refine ⟨f,dx6,sv6,kv6,_,iv6,F5.S,n',st0,mn0,rfl,hF61.ob,hF61.st,by omega,by omega,?_⟩
   rw [at5.s,Zgs hn]
   intro r H7 s7 nr hr7
   refine ⟨_,rfl,_,rfl,_,rfl,_,rfl,_,rfl,_,rfl,_,_,rfl,rfl,_,rfl,bh,_,rfl,SqL.of (s7 _ _ hb6),fun p8 n8=>?_⟩
   rw [ZfK _ _ _ (by omega) (by omega)]
   have s8:=Zh (o:=.lst ((((chg (dOf n' d1 d2) (.write n' st row lD)).2.drop st0.toNat).take mn0.toNat).map V.int)) n8
   have f8:=Zb (H:=H7) (a:=p8) (o:=.lst ((((chg (dOf n' d1 d2) (.write n' st row lD)).2.drop st0.toNat).take mn0.toNat).map V.int))
   generalize upd H7 p8 (.lst ((((chg (dOf n' d1 d2) (.write n' st row lD)).2.drop st0.toNat).take mn0.toNat).map V.int))=H8 at s8 f8 ⊢
   refine ⟨_,_,datL (s8 _ _ hr7),datL f8,ZX _,ZX _,_,rfl,?_⟩
   rw [Ziy]
   refine iteF ?_
   have s68:=s7.trans s8
   obtain ⟨dx8,sv8,kv8,iv8,hF81⟩:=hF6.same s68
   refine ⟨_,rfl,f,dx8,_,rfl,hF81.ob,Zaz _ _ _ _,_,rfl,_,_,rfl,rfl,⟨by decide,by decide,by decide⟩,?_⟩
   refine ⟨f,dx8,sv8,kv8,_,iv8,F5.S,n',0,_,rfl,hF81.ob,hF81.st,by decide,by decide,?_⟩
   rw [at5.s,Zgs hn]
   intro r9 H9 s9 _ hr9
   rw [ZOQ _ hcl] at hr9
   have s69:=s68.trans s9
   refine ⟨_,rfl,_,_,datL hr9,datL (s69 _ _ hb6),ZX _,ZX _,_,rfl,?_⟩
   rw [Ziy]
   refine iteF ?_
   have hr9':=(s8.trans s9) _ _ hr7
   refine ⟨_,rfl,.inl ⟨rfl,_,SqL.of hr9'⟩,r,_,_,rfl,rfl,hr9',(by rw [List.length_map,List.length_take,List.length_drop];omega),?_⟩
   obtain ⟨_,vb6,vl6,hd6⟩:=hF61.dsk
   have nrb:r≠b:=fun z=>by subst z;rw [hd6.hb] at nr;cases nr
   have nrl:r≠l:=fun z=>by subst z;rw [hd6.hl] at nr;cases nr
   have hFz0:=(hF6.same s69).lst (ys:=(((chg (dOf n' d1 d2) (.write n' st row lD)).2.drop st0.toNat).take mn0.toNat).map V.int++[.int 0]) hr9' nrb nrl
   have kz0:Same H6 (upd H9 r (.lst ((((chg (dOf n' d1 d2) (.write n' st row lD)).2.drop st0.toNat).take mn0.toNat).map V.int++[.int 0]))):=fun d o e=>by
    rw [Zd (Zf e nr)];exact s69 _ _ e
   generalize upd H9 r (.lst ((((chg (dOf n' d1 d2) (.write n' st row lD)).2.drop st0.toNat).take mn0.toNat).map V.int++[.int 0]))=Hz at hFz0 kz0 ⊢
   have htz:=kz0 _ _ ht6
   refine ⟨_,rfl,t,_,_,_,rfl,rfl,SqT.of htz,at0 _ _,rfl,_,rfl,?_⟩
   rw [ZBU]
   have hlDz:=kz0 _ _ hlD6
   refine iteT ⟨_,rfl,t,_,_,_,rfl,rfl,SqT.of htz,at3 _ _ _ _ _,Nat.zero_le _,fun pe0 npe=>?_⟩
   have sE:=Zh (o:=.lst []) npe
   have fE:=Zb (H:=Hz) (a:=pe0) (o:=.lst [])
   have hFz0':=hFz0.same sE
   have kz0':=kz0.trans sE
   have hlDz':=sE _ _ hlDz
   have htz':=sE _ _ htz
   generalize upd Hz pe0 (.lst [])=Hy at sE fE hFz0' kz0' hlDz' htz' ⊢
   refine ⟨.list (row.map .int),.list [],datL hlDz',.inl (.inr ⟨pe0,[],[],rfl,rfl,SqL.of fE,.nil⟩),ZX _,rfl,_,rfl,?_⟩
   clear hFz0 kz0 hlDz htz sE fE
   have hFz0:=hFz0'
   have kz0:=kz0'
   cases row with
   | nil=>
    refine iteF ?_
    have hFz:=hFz0
    have hbz:=kz0 _ _ hb6
    have hM1z:=kz0 _ _ hM16
    have hM2z:=kz0 _ _ hM26
    have hhz:=kz0 _ _ hh6
    have hSz:=kz0.seq hS6
    obtain ⟨dxr,svr,kvr,ivr,hFr⟩:=id hFz
    refine ⟨_,rfl,f,dxr,_,rfl,hFr.ob,Zaz _ _ _ _,_,rfl,_,rfl,_,rfl,?_⟩
    refine ⟨f,dxr,svr,kvr,_,ivr,F5.S,n',st0,mn0,rfl,hFr.ob,hFr.st,by omega,by omega,?_⟩
    rw [at5.s,Zgs hn]
    intro r2 Ha sa _ hr2
    refine ⟨_,rfl,_,rfl,_,rfl,_,rfl,_,rfl,_,_,rfl,rfl,_,rfl,bh,_,rfl,SqL.of (sa _ _ hbz),fun p9 n9=>?_⟩
    rw [ZfK _ _ _ (by omega) (by omega)]
    have sb:=Zh (o:=.lst ((((chg (dOf n' d1 d2) (.write n' st [] lD)).2.drop st0.toNat).take mn0.toNat).map V.int)) n9
    have fb9:=Zb (H:=Ha) (a:=p9) (o:=.lst ((((chg (dOf n' d1 d2) (.write n' st [] lD)).2.drop st0.toNat).take mn0.toNat).map V.int))
    generalize upd Ha p9 (.lst ((((chg (dOf n' d1 d2) (.write n' st [] lD)).2.drop st0.toNat).take mn0.toNat).map V.int))=Hb at sb fb9 ⊢
    refine ⟨_,_,datL (sb _ _ hr2),datL fb9,ZX _,ZX _,_,rfl,?_⟩
    rw [Ziy]
    refine iteF ?_
    have sab:=sa.trans sb
    have hFb:=hFz.same sab
    obtain ⟨dxb,svb,kvb,ivb,hFb1⟩:=id hFb
    refine ⟨_,rfl,f,dxb,_,rfl,hFb1.ob,Zaz _ _ _ _,_,rfl,?_⟩
    refine ⟨f,dxb,svb,kvb,_,ivb,F5.S,n',rfl,hFb1.ob,hFb1.st,?_,?_⟩
    ·rw [at5.s];exact ZuG _ _ _ _
    rw [at5.s]
    obtain ⟨e1,e2,e3,e4⟩:=ZyL hn (chg (dOf n' d1 d2) (.write n' st [] lD)).2 d1 d2
    rw [e1,e2,e3,e4,if_pos rfl]
    intro ts Hs ss hts
    refine ⟨_,rfl,_,_,rfl,rfl,_,rfl,bh,_,rfl,.inl (SqL.of ((sab.trans ss) _ _ hbz)),szl 3,fun tu ntu=>?_⟩
    rw [List.length_map]
    have st2:=Zh (o:=.tup [.str "file",.int (3 - n'),.int (((chg (dOf n' d1 d2) (.write n' st [] lD)).2.length:Nat):Int)]) ntu
    have ft2:=Zb (H:=Hs) (a:=tu) (o:=.tup [.str "file",.int (3 - n'),.int (((chg (dOf n' d1 d2) (.write n' st [] lD)).2.length:Nat):Int)])
    generalize upd Hs tu (.tup [.str "file",.int (3 - n'),.int (((chg (dOf n' d1 d2) (.write n' st [] lD)).2.length:Nat):Int)])=Ht at st2 ft2 ⊢
    refine ⟨.tuple [.str "file",.int (3 - n'),.int (((chg (dOf n' d1 d2) (.write n' st [] lD)).2.length:Nat):Int)],.tuple [.str "file",.int (3 - n'),.int (((chg (dOf n' d1 d2) (.write n' st [] lD)).2.length:Nat):Int)],.inl (.inl (.tup (st2 _ _ hts) (.cons (.str _) (.cons (.int _) (.cons (.int _) .nil))))),.inl (.inl (.tup ft2 (.cons (.str _) (.cons (.int _) (.cons (.int _) .nil))))),ZaI _ _,ZaI _ _,_,rfl,?_⟩
    rw [ZdH (ZaI _ _)]
    refine iteF ?_
    have sabt:=(sab.trans ss).trans st2
    obtain ⟨dxt,svt,kvt,ivt,hFt⟩:=hFz.same sabt
    refine ⟨_,rfl,f,dxt,_,rfl,hFt.ob,Zaz _ _ _ _,?_⟩
    refine ⟨f,dxt,svt,kvt,_,ivt,F5.S,"/z",rfl,hFt.ob,hFt.st,(by decide +kernel),?_⟩
    rw [at5.s,ZAT]
    intro vf Hf sf ef
    cases ef
    refine ⟨rfl,_,rfl,ZLK rfl ?_⟩
    have sZ:=sabt.trans sf
    refine ⟨(if n'=1 then (chg (dOf n' d1 d2) (.write n' st [] lD)).2 else d1),(if n'=1 then d2 else (chg (dOf n' d1 d2) (.write n' st [] lD)).2),_,_,_,_,_,_,_,_,_,_,_,rfl,⟨F5,?_,hFz.same sZ⟩,⟨(if n'=1 then bh else M1),(if n'=1 then M2 else bh),sZ _ _ hhz,?_,?_⟩,?_,?_,?_⟩
    ·rw [← ZCr];exact at5
    ·rcases hn with rfl | rfl
     ·exact sZ _ _ hbz
     ·exact sZ _ _ hM1z
    ·rcases hn with rfl | rfl
     ·exact sZ _ _ hM2z
     ·exact sZ _ _ hbz
    ·rcases hn with rfl | rfl
     ·exact hcl
     ·exact hl1
    ·rcases hn with rfl | rfl
     ·exact hl2
     ·exact hcl
    ·exact sZ.seq hSz
   | cons y row=>
    rw [show PyData.eqv (.list ((y::row).map PyData.int)) (.list [])=false from rfl]
    refine iteT ?_
    refine ⟨_,rfl,?_⟩
    refine ⟨t,_,_,_,rfl,rfl,SqT.of htz',at3 _ _ _ _ _,?_⟩
    refine ⟨lD,_,_,_,rfl,rfl,SqL.of hlDz',at0 _ _,_,_,rfl,rfl,?_⟩
    refine ⟨_,rfl,t,_,_,_,rfl,rfl,SqT.of htz',at3 _ _ _ _ _,?_⟩
    refine ⟨lD,_,_,0,rfl,rfl,hlDz',ZLJ (n:=0) (by decide) (by rw [List.length_map,List.length_cons];omega),?_⟩
    obtain ⟨_,_,_,_,hq0⟩:=hF
    obtain ⟨_,_,_,hd0⟩:=hq0.dsk
    have nlDb:lD≠b:=fun z=>by subst z;rw [s1 _ _ hd0.hb] at nlD;cases nlD
    have nlDl:lD≠l:=fun z=>by subst z;rw [s1 _ _ hd0.hl] at nlD;cases nlD
    have nM1:M1≠lD:=Zf (s1 _ _ hM1) nlD
    have nM2:M2≠lD:=Zf (s1 _ _ hM2) nlD
    have nbh:bh≠lD:=by
     rcases hbh with e | e
     ·rw [e];exact Zf (s1 _ _ hM) nlD
     ·exact fun z=>by subst z;rw [s3 _ _ hlD] at e;cases e
    have nhD:h≠lD:=ZY (s1 _ _ hh) (s1 _ _ hM1) (by intro z;cases z) |> fun _=>Zf (s1 _ _ hh) nlD
    have hFz:=hFz0.lst (ys:=((y::row).map V.int).set 0 (.int (255 - y))) hlDz' nlDb nlDl
    have hbz:(upd Hy lD (.lst (((y::row).map V.int).set 0 (.int (255 - y))))) bh=_:=(Zd nbh).trans (kz0 _ _ hb6)
    have hM1z:(upd Hy lD (.lst (((y::row).map V.int).set 0 (.int (255 - y))))) M1=_:=(Zd nM1).trans (kz0 _ _ hM16)
    have hM2z:(upd Hy lD (.lst (((y::row).map V.int).set 0 (.int (255 - y))))) M2=_:=(Zd nM2).trans (kz0 _ _ hM26)
    have hhz:(upd Hy lD (.lst (((y::row).map V.int).set 0 (.int (255 - y))))) h=_:=(Zd nhD).trans (kz0 _ _ hh6)
    have hSz:SqL K (upd Hy lD (.lst (((y::row).map V.int).set 0 (.int (255 - y))))) a (ns.map V.int):=LP.sc.keep fun o e n1 n2=>by
     rw [Zd (Zf (s1 _ _ e) nlD)]
     exact kz0 _ _ (k6 _ _ (b5 _ _ (s14 _ _ e) (nff (s14 _ _ e) n1)) n2)
    generalize upd Hy lD (.lst (((y::row).map V.int).set 0 (.int (255 - y))))=Hx at hFz hbz hM1z hM2z hhz hSz ⊢
    obtain ⟨dxr,svr,kvr,ivr,hFr⟩:=id hFz
    refine ⟨_,rfl,f,dxr,_,rfl,hFr.ob,Zaz _ _ _ _,_,rfl,_,rfl,_,rfl,?_⟩
    refine ⟨f,dxr,svr,kvr,_,ivr,F5.S,n',st0,mn0,rfl,hFr.ob,hFr.st,by omega,by omega,?_⟩
    rw [at5.s,Zgs hn]
    intro r2 Ha sa _ hr2
    refine ⟨_,rfl,_,rfl,_,rfl,_,rfl,_,rfl,_,_,rfl,rfl,_,rfl,bh,_,rfl,SqL.of (sa _ _ hbz),fun p9 n9=>?_⟩
    rw [ZfK _ _ _ (by omega) (by omega)]
    have sb:=Zh (o:=.lst ((((chg (dOf n' d1 d2) (.write n' st (y::row) lD)).2.drop st0.toNat).take mn0.toNat).map V.int)) n9
    have fb9:=Zb (H:=Ha) (a:=p9) (o:=.lst ((((chg (dOf n' d1 d2) (.write n' st (y::row) lD)).2.drop st0.toNat).take mn0.toNat).map V.int))
    generalize upd Ha p9 (.lst ((((chg (dOf n' d1 d2) (.write n' st (y::row) lD)).2.drop st0.toNat).take mn0.toNat).map V.int))=Hb at sb fb9 ⊢
    refine ⟨_,_,datL (sb _ _ hr2),datL fb9,ZX _,ZX _,_,rfl,?_⟩
    rw [Ziy]
    refine iteF ?_
    have sab:=sa.trans sb
    have hFb:=hFz.same sab
    obtain ⟨dxb,svb,kvb,ivb,hFb1⟩:=id hFb
    refine ⟨_,rfl,f,dxb,_,rfl,hFb1.ob,Zaz _ _ _ _,_,rfl,?_⟩
    refine ⟨f,dxb,svb,kvb,_,ivb,F5.S,n',rfl,hFb1.ob,hFb1.st,?_,?_⟩
    ·rw [at5.s];exact ZuG _ _ _ _
    rw [at5.s]
    obtain ⟨e1,e2,e3,e4⟩:=ZyL hn (chg (dOf n' d1 d2) (.write n' st (y::row) lD)).2 d1 d2
    rw [e1,e2,e3,e4,if_pos rfl]
    intro ts Hs ss hts
    refine ⟨_,rfl,_,_,rfl,rfl,_,rfl,bh,_,rfl,.inl (SqL.of ((sab.trans ss) _ _ hbz)),szl 3,fun tu ntu=>?_⟩
    rw [List.length_map]
    have st2:=Zh (o:=.tup [.str "file",.int (3 - n'),.int (((chg (dOf n' d1 d2) (.write n' st (y::row) lD)).2.length:Nat):Int)]) ntu
    have ft2:=Zb (H:=Hs) (a:=tu) (o:=.tup [.str "file",.int (3 - n'),.int (((chg (dOf n' d1 d2) (.write n' st (y::row) lD)).2.length:Nat):Int)])
    generalize upd Hs tu (.tup [.str "file",.int (3 - n'),.int (((chg (dOf n' d1 d2) (.write n' st (y::row) lD)).2.length:Nat):Int)])=Ht at st2 ft2 ⊢
    refine ⟨.tuple [.str "file",.int (3 - n'),.int (((chg (dOf n' d1 d2) (.write n' st (y::row) lD)).2.length:Nat):Int)],.tuple [.str "file",.int (3 - n'),.int (((chg (dOf n' d1 d2) (.write n' st (y::row) lD)).2.length:Nat):Int)],.inl (.inl (.tup (st2 _ _ hts) (.cons (.str _) (.cons (.int _) (.cons (.int _) .nil))))),.inl (.inl (.tup ft2 (.cons (.str _) (.cons (.int _) (.cons (.int _) .nil))))),ZaI _ _,ZaI _ _,_,rfl,?_⟩
    rw [ZdH (ZaI _ _)]
    refine iteF ?_
    have sabt:=(sab.trans ss).trans st2
    obtain ⟨dxt,svt,kvt,ivt,hFt⟩:=hFz.same sabt
    refine ⟨_,rfl,f,dxt,_,rfl,hFt.ob,Zaz _ _ _ _,?_⟩
    refine ⟨f,dxt,svt,kvt,_,ivt,F5.S,"/z",rfl,hFt.ob,hFt.st,(by decide +kernel),?_⟩
    rw [at5.s,ZAT]
    intro vf Hf sf ef
    cases ef
    refine ⟨rfl,_,rfl,ZLK rfl ?_⟩
    have sZ:=sabt.trans sf
    refine ⟨(if n'=1 then (chg (dOf n' d1 d2) (.write n' st (y::row) lD)).2 else d1),(if n'=1 then d2 else (chg (dOf n' d1 d2) (.write n' st (y::row) lD)).2),_,_,_,_,_,_,_,_,_,_,_,rfl,⟨F5,?_,hFz.same sZ⟩,⟨(if n'=1 then bh else M1),(if n'=1 then M2 else bh),sZ _ _ hhz,?_,?_⟩,?_,?_,?_⟩
    ·rw [← ZCr];exact at5
    ·rcases hn with rfl | rfl
     ·exact sZ _ _ hbz
     ·exact sZ _ _ hM1z
    ·rcases hn with rfl | rfl
     ·exact sZ _ _ hM2z
     ·exact sZ _ _ hbz
    ·rcases hn with rfl | rfl
     ·exact hcl
     ·exact hl1
    ·rcases hn with rfl | rfl
     ·exact hl2
     ·exact hcl
    ·exact sZ.seq hSz
end
end KS
set_option maxHeartbeats 16000000
namespace KS
open PySem L2 PySem.W
abbrev fnS (st:Stmt) (n q:Str) (kV dc pm:Value) (an:Option Addr) (cd ct:Value):FuncData:=fnOf n q (Zvo st) (Ziz st) (Zj st) .none kV dc pm an cd ct
theorem ZRB {l:OpenLaw} {w:World} {K:Frag} {h:Heap} {mg:Str→Option Value} {fa ZfU Za6 Zed Zee ZbQ Z9 ZE Zn ZH ZG ZM Zy Zq Zw Zx ZF Zv Zd4 Zdb ZbC ZdF ZeJ ZcX Zcy Zdc Zcx ZcY Zof Zoe ZeC Zc3 ZdB ZdG ZjF ZdD Zog ZeF Zcv Zod ZjE Zob Zbr ZH4 ZaR ZeI ZbH ZeH Zgi ZcW ZeA ZH5 ZtG ZeE Zoa Zoc Zc4 ZeD ZdC ZeB ZjG ZjH ZdE ZtF ZeG Zc2 ZaA Zc1 Zgj Zc9 Zda Zc6 Zc5 Zc7 Zc8 Zcw Zd3 ZZ Zbc Zgk Zgo ZeK Zgl Zgm ZcZ Zgn ZP1 ZMJ:Addr} (X:K.In h) (G:h.Ns mainGlobals mg) (hfa:mg "law"=some (.ref fa))
  {ZCV Zta Zz2 ZpA Zuz Zi8 ZwG Zk2 ZzQ Zpo Zuw Zi5 ZwK Zk6 Zz3 ZpB ZwJ Zk5 Zux Zi6 ZJt Zyr ZJs Zyq ZzJ Zph ZzU Zps ZwC ZkY ZwH Zk3 ZGl ZvT ZwE Zk0 ZJu Zys ZzM Zpk Zts Zhi ZJr Zyp ZGk ZvS ZJp Zyn Znj ZeR ZPA ZMA ZjV Zds ZzP Zpn Zqh ZfS ZzO Zpm ZCN Zs2 Zuv Zi4 ZzH Zpf ZPB ZMB ZLi ZEA ZzL Zpj ZJo Zym ZJq Zyo ZzV Zpt ZzK Zpi ZwD ZkZ ZzI Zpg ZGm ZvU ZGn ZvV ZwF Zk1 ZLh ZEz ZzN Zpl ZzT Zpr Znk ZeS ZzS Zpq ZCO Zs3 Zz0 Zpy Zz1 Zpz ZzX Zpv ZzW Zpu ZzY Zpw ZzZ Zpx ZwI Zk4 ZCU Zs9 Ze0 ZbF Ztt Zhj ZCP Zs4 ZCT Zs8 ZzR Zpp ZCQ Zs5 ZCR Zs6 Zuy Zi7 ZCS Zs7 ZQ6 ZOP ZP6:Option Addr} {ZCl Zy9 Zt5 Zwh ZyX Zt2 Zwl Zza Zwk Zt3 ZIV ZIU ZyQ Zy1 Zwd Zwi ZFY Zwf ZIW ZyT Ztf ZIT ZFX ZIR Zma ZPe ZjK ZyW ZpN ZyV ZCd Zt1 ZyO ZPf ZKO ZyS ZIQ ZIS Zy2 ZyR Zwe ZyP ZFZ ZF0 Zwg ZKN ZyU Zy0 Zmb ZyZ ZCe Zy7 Zy8 Zy4 Zy3 Zy5 Zy6 Zwj ZCk ZeV Ztg ZCf ZCj ZyY ZCg ZCh Zt4 ZCi ZQO ZPd:Array (Option Value)} {ZC4 Zsb Zsm Zri ZiV Zsv ZAp Zn4 ZoC Zm5 ZgR ZoZ ZuE Zir ZiE ZhZ Zeb ZiJ ZwP Zkt ZkD Zj7 Zff ZkM ZAd ZnS Zoq ZmT ZgF ZoN ZuB Zio ZiB ZhW Zd8 ZiG ZwT Zkx ZkH Zkb Zfj ZkQ ZAq Zn5 ZoD Zm6 ZgS Zo0 ZwS Zkw ZkG Zka Zfi ZkP ZuC Zip ZiC ZhX Zd9 ZiH ZJA ZxQ Zx0 Zxs ZqD Zx7 ZJz ZxP ZxZ Zxr ZqC Zx6 Zz6 ZnL Zoj ZmM Zgy ZoG ZAh ZnW Zou ZmX ZgJ ZoR ZwL Zkp Zkz Zj3 Zfb ZkI ZwQ Zku ZkE Zj8 Zfg ZkN ZGp Zva Zvr Zui ZlL Zvy ZwN Zkr ZkB Zj5 Zfd ZkK ZJB ZxR Zx1 Zxt ZqE Zx8 Zz9 ZnO Zom ZmP ZgB ZoJ Ztu Zha Zhc Zg4 Zdj Zhe ZJy ZxO ZxY Zxq ZqB Zx5 ZGo Zu9 Zvq Zuh ZlK Zvx ZJw ZxM ZxW Zxo Zqz Zx3 Znl Zev ZeL Zen Zcz ZeN ZPC ZLG ZMe ZK1 ZGV ZMj ZjW Zdo Zdp Zdn Zbu Zdr ZAc ZnR Zop ZmS ZgE ZoM Zqi ZfG ZfJ Zfw ZcQ ZfL ZAb ZnQ Zoo ZmR ZgD ZoL ZCW Zr3 Zse Zra ZiN Zsn ZuA Zin ZiA ZhV Zd7 ZiF Zz4 ZnJ Zoh ZmK Zgw ZoE ZPD ZLH ZMf ZK2 ZGW ZMk ZLk ZDx ZD1 ZCy ZvD ZD6 Zz8 ZnN Zol ZmO ZgA ZoI ZJv ZxL ZxV Zxn Zqy Zx2 ZJx ZxN ZxX Zxp ZqA Zx4 ZAi ZnX Zov ZmY ZgK ZoS Zz7 ZnM Zok ZmN Zgz ZoH ZwM Zkq ZkA Zj4 Zfc ZkJ Zz5 ZnK Zoi ZmL Zgx ZoF ZGq Zvb Zvs Zuj ZlM Zvz ZGr Zvc Zvt Zuk ZlN ZvA ZwO Zks ZkC Zj6 Zfe ZkL ZLj ZDw ZD0 ZCx ZvC ZD5 ZAa ZnP Zon ZmQ ZgC ZoK ZAg ZnV Zot ZmW ZgI ZoQ Znm Zew ZeM Zeo ZcA ZeO ZAf ZnU Zos ZmV ZgH ZoP ZCX Zr4 Zsf Zrb ZiO Zso ZAn Zn2 ZoA Zm3 ZgP ZoX ZAo Zn3 ZoB Zm4 ZgQ ZoY ZAk ZnZ Zox Zm0 ZgM ZoU ZAj ZnY Zow ZmZ ZgL ZoT ZAl Zn0 Zoy Zm1 ZgN ZoV ZAm Zn1 Zoz Zm2 ZgO ZoW ZwR Zkv ZkF Zj9 Zfh ZkO ZC3 Zsa Zsl Zrh ZiU Zsu Ze1 ZbA ZbD Zby Zaq ZbE Ztv Zhb Zhd Zg5 Zdk Zhf ZCY Zr5 Zsg Zrc ZiP Zsp ZC2 Zr9 Zsk Zrg ZiT Zst ZAe ZnT Zor ZmU ZgG ZoO ZCZ Zr6 Zsh Zrd ZiQ Zsq ZC0 Zr7 Zsi Zre ZiR Zsr ZuD Ziq ZiD ZhY Zea ZiI ZC1 Zr8 Zsj Zrf ZiS Zss ZQ7 ZOG ZOJ ZOp ZMr ZOK:Value} {ZhC Zl3 Zl7 Zl4 Zxf ZtW Zq4 ZjZ ZjY ZOh Zl2 Zq5 ZjX Zq6 ZHx ZHw ZHv ZHu Zl6 ZtX Zg3 Zj0 Zl5 ZKr:Tok} {ZFB ZtO ZFE ZFD ZIs ZBK ZyB ZBI ZBJ ZFC Zwb:ClassData} {ZPH:Nat}
  (ZRw:nsIn K mainGlobals "Disk"=some (some (.ref ZfU)))
  (ZN3:nsIn K mainGlobals "Chains"=some (some (.ref Za6)))
  (ZP3:nsIn K mainGlobals "State"=some (some (.ref Zed)))
  (ZP4:nsIn K mainGlobals "Image"=some (some (.ref Zee)))
  (ZP2:nsIn K mainGlobals "Store"=some (some (.ref ZbQ)))
  (ZP5:nsIn K mainGlobals "Files"=some (some (.ref Z9)))
  (ZL3:nsIn K mainGlobals "NoThing"=some (some (.ref ZE)))
  (ZAU:nsIn K mainGlobals "NoDirectory"=some (some (.ref Zn)))
  (ZL6:nsIn K mainGlobals "BadName"=some (some (.ref ZH)))
  (ZL5:nsIn K mainGlobals "IsThere"=some (some (.ref ZG)))
  (ZN2:nsIn K mainGlobals "NoRoom"=some (some (.ref ZM)))
  (ZJS:nsIn K mainGlobals "NotEmpty"=some (some (.ref Zy)))
  (ZGP:nsIn K mainGlobals "WrongKind"=some (some (.ref Zq)))
  (ZJQ:nsIn K mainGlobals "TooGreat"=some (some (.ref Zw)))
  (ZJR:nsIn K mainGlobals "ReadOnly"=some (some (.ref Zx)))
  (ZL4:nsIn K mainGlobals "NoFiles"=some (some (.ref ZF)))
  (ZDW:nsIn K mainGlobals "StillError"=some (some (.ref Zv)))
  (ZPq:plainGet K ZfU Str.empty=true)
  (ZPY:hasDictIn K ZfU=true)
  (ZPo:plainOver K ZfU=true)
  (ZPi:findIn K (.ref ZfU) "__setattr__"=some (some (.builtin "object.__setattr__")))
  (ZGt:makesIn K ZfU=true)
  (ZPS:keepIn K (.ref ZfU)=true)
  (Zcp:findIn K (.ref ZfU) "blocks"=some none)
  (Zfz:findIn K (.ref ZfU) "log"=some none)
  (ZK9:plainGet K Za6 Str.empty=true)
  (ZLP:hasDictIn K Za6=true)
  (ZK0:plainOver K Za6=true)
  (ZKR:findIn K (.ref Za6) "__setattr__"=some (some (.builtin "object.__setattr__")))
  (ZuH:makesIn K Za6=true)
  (ZLF:keepIn K (.ref Za6)=true)
  (ZaP:findIn K (.ref Za6) "free"=some none)
  (Zbz:findIn K (.ref Za6) "older"=some none)
  (Z7:findIn K (.ref Za6) "places"=some none)
  (ZNj:plainGet K Zed Str.empty=true)
  (ZNM:hasDictIn K Zed=true)
  (ZNd:plainOver K Zed=true)
  (ZM6:findIn K (.ref Zed) "__setattr__"=some (some (.builtin "object.__setattr__")))
  (Znn:makesIn K Zed=true)
  (ZNH:keepIn K (.ref Zed)=true)
  (Z6:findIn K (.ref Zed) "data"=some none)
  (Zr:findIn K (.ref Zed) "entries"=some none)
  (ZNk:plainGet K Zee Str.empty=true)
  (ZNN:hasDictIn K Zee=true)
  (ZNe:plainOver K Zee=true)
  (ZM7:findIn K (.ref Zee) "__setattr__"=some (some (.builtin "object.__setattr__")))
  (ZAv:makesIn K Zee=true)
  (ZNI:keepIn K (.ref Zee)=true)
  (Za0:findIn K (.ref Zee) "places"=some none)
  (Zdx:findIn K (.ref Zee) "heads"=some none)
  (ZNi:plainGet K ZbQ Str.empty=true)
  (ZNL:hasDictIn K ZbQ=true)
  (ZNc:plainOver K ZbQ=true)
  (ZM5:findIn K (.ref ZbQ) "__setattr__"=some (some (.builtin "object.__setattr__")))
  (ZAu:makesIn K ZbQ=true)
  (ZNG:keepIn K (.ref ZbQ)=true)
  (ZaD:findIn K (.ref ZbQ) "disk"=some none)
  (Zcg:findIn K (.ref ZbQ) "slot"=some none)
  (Zcf:findIn K (.ref ZbQ) "turn"=some none)
  (Zan:findIn K (.ref ZbQ) "synced"=some none)
  (ZNl:plainGet K Z9 Str.empty=true)
  (ZNO:hasDictIn K Z9=true)
  (ZNf:plainOver K Z9=true)
  (ZM8:findIn K (.ref Z9) "__setattr__"=some (some (.builtin "object.__setattr__")))
  (ZAw:makesIn K Z9=true)
  (ZNJ:keepIn K (.ref Z9)=true)
  (ZQ:findIn K (.ref Z9) "state"=some none)
  (ZaE:findIn K (.ref Z9) "kept"=some none)
  (Zco:findIn K (.ref Z9) "store"=some none)
  (Zdy:findIn K (.ref Z9) "image"=some none)
  (ZHh:findIn K (.ref ZfU) "__init__"=some (some (.ref Zd4)))
  (ZGL:isFn K (.ref Zd4)=true)
  (ZuY:K.lookup Zd4=some ⟨ZC4,ZCV,.func (fnS ZbL "__init__" "Disk.__init__" Zsb Zsm Zri Zta ZiV Zsv),ZCl⟩)
  (ZvN:codeIn K ZiV "Disk.__init__"=true)
  (Zu8:keepIn K (.ref Zd4)=true)
  (ZEW:findIn K (.ref ZfU) "write"=some (some (.ref Zdb)))
  (ZDM:isFn K (.ref Zdb)=true)
  (ZrM:K.lookup Zdb=some ⟨ZAp,Zz2,.func (fnS Zcd "write" "Disk.write" Zn4 ZoC Zm5 ZpA ZgR ZoZ),Zy9⟩)
  (ZsS:codeIn K ZgR "Disk.write"=true)
  (Zil:keepIn K (.ref Zdb)=true)
  (Zw7:findIn K (.ref ZfU) "barrier"=some (some (.ref ZbC)))
  (ZwY:isFn K (.ref ZbC)=true)
  (Zkk:K.lookup ZbC=some ⟨ZuE,Zuz,.func (fnS ZaZ "barrier" "Disk.barrier" Zir ZiE ZhZ Zi8 Zeb ZiJ),Zt5⟩)
  (ZkV:codeIn K Zeb "Disk.barrier"=true)
  (Ze2:keepIn K (.ref ZbC)=true)
  (ZBe:nsIn K mainGlobals "block_count"=some (some (.ref ZdF)))
  (Znx:K.lookup ZdF=some ⟨ZwP,ZwG,.func (fnS Zbk "block_count" "block_count" Zkt ZkD Zj7 Zk2 Zff ZkM),Zwh⟩)
  (Zo6:codeIn K Zff "block_count"=true)
  (ZnG:keepIn K (.ref ZdF)=true)
  (ZEK:nsIn K mainGlobals "blocks_for"=some (some (.ref ZeJ)))
  (ZrA:K.lookup ZeJ=some ⟨ZAd,ZzQ,.func (fnS Zb1 "blocks_for" "blocks_for" ZnS Zoq ZmT Zpo ZgF ZoN),ZyX⟩)
  (ZsG:codeIn K ZgF "blocks_for"=true)
  (ZrX:keepIn K (.ref ZeJ)=true)
  (Zw4:nsIn K mainGlobals "free_numbers"=some (some (.ref ZcX)))
  (Zkh:K.lookup ZcX=some ⟨ZuB,Zuw,.func (fnS Zam "free_numbers" "free_numbers" Zio ZiB ZhW Zi5 Zd8 ZiG),Zt2⟩)
  (ZkS:codeIn K Zd8 "free_numbers"=true)
  (Zkm:keepIn K (.ref ZcX)=true)
  (ZBi:findIn K (.ref Za6) "__init__"=some (some (.ref Zcy)))
  (ZAJ:isFn K (.ref Zcy)=true)
  (ZnB:K.lookup Zcy=some ⟨ZwT,ZwK,.func (fnS Zbo "__init__" "Chains.__init__" Zkx ZkH Zkb Zk6 Zfj ZkQ),Zwl⟩)
  (Zpa:codeIn K Zfj "Chains.__init__"=true)
  (ZnI:keepIn K (.ref Zcy)=true)
  (ZEX:findIn K (.ref Za6) "put"=some (some (.ref Zdc)))
  (ZDN:isFn K (.ref Zdc)=true)
  (ZrN:K.lookup Zdc=some ⟨ZAq,Zz3,.func (fnS Zce "put" "Chains.put" Zn5 ZoD Zm6 ZpB ZgS Zo0),Zza⟩)
  (ZsT:codeIn K ZgS "Chains.put"=true)
  (Zim:keepIn K (.ref Zdc)=true)
  (ZBh:findIn K (.ref Za6) "take"=some (some (.ref Zcx)))
  (ZAI:isFn K (.ref Zcx)=true)
  (ZnA:K.lookup Zcx=some ⟨ZwS,ZwJ,.func (fnS Zbn "take" "Chains.take" Zkw ZkG Zka Zk5 Zfi ZkP),Zwk⟩)
  (Zo9:codeIn K Zfi "Chains.take"=true)
  (Zgc:keepIn K (.ref Zcx)=true)
  (Zw5:nsIn K mainGlobals "chain_blocks"=some (some (.ref ZcY)))
  (Zki:K.lookup ZcY=some ⟨ZuC,Zux,.func (fnS ZaX "chain_blocks" "chain_blocks" Zip ZiC ZhX Zi6 Zd9 ZiH),Zt3⟩)
  (ZkT:codeIn K Zd9 "chain_blocks"=true)
  (Zkn:keepIn K (.ref ZcY)=true)
  (ZMH:nsIn K mainGlobals "is_name"=some (some (.ref Zof)))
  (ZDl:K.lookup Zof=some ⟨ZJA,ZJt,.func (fnS ZdT "is_name" "is_name" ZxQ Zx0 Zxs Zyr ZqD Zx7),ZIV⟩)
  (ZEj:codeIn K ZqD "is_name"=true)
  (ZDu:keepIn K (.ref Zof)=true)
  (ZMG:nsIn K mainGlobals "is_path"=some (some (.ref Zoe)))
  (ZDk:K.lookup Zoe=some ⟨ZJz,ZJs,.func (fnS ZdS "is_path" "is_path" ZxP ZxZ Zxr Zyq ZqC Zx6),ZIU⟩)
  (ZEi:codeIn K ZqC "is_path"=true)
  (ZDt:keepIn K (.ref Zoe)=true)
  (ZED:nsIn K mainGlobals "path_names"=some (some (.ref ZeC)))
  (Zrt:K.lookup ZeC=some ⟨Zz6,ZzJ,.func (fnS ZbV "path_names" "path_names" ZnL Zoj ZmM Zph Zgy ZoG),ZyQ⟩)
  (Zsz:codeIn K Zgy "path_names"=true)
  (ZrQ:keepIn K (.ref ZeC)=true)
  (ZEO:findIn K (.ref Zed) "__init__"=some (some (.ref Zc3)))
  (ZDE:isFn K (.ref Zc3)=true)
  (ZrE:K.lookup Zc3=some ⟨ZAh,ZzU,.func (fnS Zb5 "__init__" "State.__init__" ZnW Zou ZmX Zps ZgJ ZoR),Zy1⟩)
  (ZsK:codeIn K ZgJ "State.__init__"=true)
  (Zr0:keepIn K (.ref Zc3)=true)
  (ZBa:nsIn K mainGlobals "first_state"=some (some (.ref ZdB)))
  (Znt:K.lookup ZdB=some ⟨ZwL,ZwC,.func (fnS Zbh "first_state" "first_state" Zkp Zkz Zj3 ZkY Zfb ZkI),Zwd⟩)
  (Zo2:codeIn K Zfb "first_state"=true)
  (ZnC:keepIn K (.ref ZdB)=true)
  (ZBf:nsIn K mainGlobals "all_numbers"=some (some (.ref ZdG)))
  (Zny:K.lookup ZdG=some ⟨ZwQ,ZwH,.func (fnS Zbl "all_numbers" "all_numbers" Zku ZkE Zj8 Zk3 Zfg ZkN),Zwi⟩)
  (Zo7:codeIn K Zfg "all_numbers"=true)
  (ZnH:keepIn K (.ref ZdG)=true)
  (ZJ4:nsIn K mainGlobals "is_thing"=some (some (.ref ZjF)))
  (ZxD:K.lookup ZjF=some ⟨ZGp,ZGl,.func (fnS ZdK "is_thing" "is_thing" Zva Zvr Zui ZvT ZlL Zvy),ZFY⟩)
  (Zyg:codeIn K ZlL "is_thing"=true)
  (ZxI:keepIn K (.ref ZjF)=true)
  (ZBc:nsIn K mainGlobals "check_thing"=some (some (.ref ZdD)))
  (Znv:K.lookup ZdD=some ⟨ZwN,ZwE,.func (fnS Zbj "check_thing" "check_thing" Zkr ZkB Zj5 Zk0 Zfd ZkK),Zwf⟩)
  (Zo4:codeIn K Zfd "check_thing"=true)
  (ZnE:keepIn K (.ref ZdD)=true)
  (ZMI:nsIn K mainGlobals "data_of"=some (some (.ref Zog)))
  (ZDm:K.lookup Zog=some ⟨ZJB,ZJu,.func (fnS Zfu "data_of" "data_of" ZxR Zx1 Zxt Zys ZqE Zx8),ZIW⟩)
  (ZEk:codeIn K ZqE "data_of"=true)
  (ZDv:keepIn K (.ref Zog)=true)
  (ZEG:nsIn K mainGlobals "least_free"=some (some (.ref ZeF)))
  (Zrw:K.lookup ZeF=some ⟨Zz9,ZzM,.func (fnS ZbX "least_free" "least_free" ZnO Zom ZmP Zpk ZgB ZoJ),ZyT⟩)
  (ZsC:codeIn K ZgB "least_free"=true)
  (ZrT:keepIn K (.ref ZeF)=true)
  (ZvW:nsIn K mainGlobals "named_numbers"=some (some (.ref Zcv)))
  (Zic:K.lookup Zcv=some ⟨Ztu,Zts,.func (fnS Zat "named_numbers" "named_numbers" Zha Zhc Zg4 Zhi Zdj Zhe),Ztf⟩)
  (ZiX:codeIn K Zdj "named_numbers"=true)
  (Zie:keepIn K (.ref Zcv)=true)
  (ZMF:nsIn K mainGlobals "kind_of"=some (some (.ref Zod)))
  (ZDj:K.lookup Zod=some ⟨ZJy,ZJr,.func (fnS Zft "kind_of" "kind_of" ZxO ZxY Zxq Zyp ZqB Zx5),ZIT⟩)
  (ZEh:codeIn K ZqB "kind_of"=true)
  (ZDs:keepIn K (.ref Zod)=true)
  (ZJ3:nsIn K mainGlobals "links_of"=some (some (.ref ZjE)))
  (ZxC:K.lookup ZjE=some ⟨ZGo,ZGk,.func (fnS ZdJ "links_of" "links_of" Zu9 Zvq Zuh ZvS ZlK Zvx),ZFX⟩)
  (Zyf:codeIn K ZlK "links_of"=true)
  (ZxH:keepIn K (.ref ZjE)=true)
  (ZMD:nsIn K mainGlobals "size_of"=some (some (.ref Zob)))
  (ZDh:K.lookup Zob=some ⟨ZJw,ZJp,.func (fnS Zfr "size_of" "size_of" ZxM ZxW Zxo Zyn Zqz Zx3),ZIR⟩)
  (ZEf:codeIn K Zqz "size_of"=true)
  (ZDq:keepIn K (.ref Zob)=true)
  (ZqK:nsIn K mainGlobals "check_directory"=some (some (.ref Zbr)))
  (ZfD:K.lookup Zbr=some ⟨Znl,Znj,.func (fnS Zad "check_directory" "check_directory" Zev ZeL Zen ZeR Zcz ZeN),Zma⟩)
  (ZfN:codeIn K Zcz "check_directory"=true)
  (ZfF:keepIn K (.ref Zbr)=true)
  (ZRC:nsIn K mainGlobals "walk"=some (some (.ref ZH4)))
  (ZOB:K.lookup ZH4=some ⟨ZPC,ZPA,.func (fnS Zxl "walk" "walk" ZLG ZMe ZK1 ZMA ZGV ZMj),ZPe⟩)
  (ZON:codeIn K ZGV "walk"=true)
  (ZOE:keepIn K (.ref ZH4)=true)
  (ZlS:nsIn K mainGlobals "walk_to_directory"=some (some (.ref ZaR)))
  (ZdY:K.lookup ZaR=some ⟨ZjW,ZjV,.func (fnS Z2 "walk_to_directory" "walk_to_directory" Zdo Zdp Zdn Zds Zbu Zdr),ZjK⟩)
  (Zec:codeIn K Zbu "walk_to_directory"=true)
  (ZdZ:keepIn K (.ref ZaR)=true)
  (ZEJ:nsIn K mainGlobals "check_path"=some (some (.ref ZeI)))
  (Zrz:K.lookup ZeI=some ⟨ZAc,ZzP,.func (fnS Zb0 "check_path" "check_path" ZnR Zop ZmS Zpn ZgE ZoM),ZyW⟩)
  (ZsF:codeIn K ZgE "check_path"=true)
  (ZrW:keepIn K (.ref ZeI)=true)
  (Ztx:nsIn K mainGlobals "check_not_full"=some (some (.ref ZbH)))
  (Zg8:K.lookup ZbH=some ⟨Zqi,Zqh,.func (fnS Zaj "check_not_full" "check_not_full" ZfG ZfJ Zfw ZfS ZcQ ZfL),ZpN⟩)
  (Zhg:codeIn K ZcQ "check_not_full"=true)
  (Zg9:keepIn K (.ref ZbH)=true)
  (ZEI:nsIn K mainGlobals "free_place"=some (some (.ref ZeH)))
  (Zry:K.lookup ZeH=some ⟨ZAb,ZzO,.func (fnS ZbZ "free_place" "free_place" ZnQ Zoo ZmR Zpm ZgD ZoL),ZyV⟩)
  (ZsE:codeIn K ZgD "free_place"=true)
  (ZrV:keepIn K (.ref ZeH)=true)
  (ZG9:nsIn K mainGlobals "with_data"=some (some (.ref Zgi)))
  (ZuQ:K.lookup Zgi=some ⟨ZCW,ZCN,.func (fnS ZcF "with_data" "with_data" Zr3 Zse Zra Zs2 ZiN Zsn),ZCd⟩)
  (ZvF:codeIn K ZiN "with_data"=true)
  (Zu1:keepIn K (.ref Zgi)=true)
  (Zw3:nsIn K mainGlobals "with_entries"=some (some (.ref ZcW)))
  (Zkg:K.lookup ZcW=some ⟨ZuA,Zuv,.func (fnS ZaW "with_entries" "with_entries" Zin ZiA ZhV Zi4 Zd7 ZiF),Zt1⟩)
  (ZkR:codeIn K Zd7 "with_entries"=true)
  (Zkl:keepIn K (.ref ZcW)=true)
  (ZEB:nsIn K mainGlobals "with_entry"=some (some (.ref ZeA)))
  (Zrr:K.lookup ZeA=some ⟨Zz4,ZzH,.func (fnS ZbT "with_entry" "with_entry" ZnJ Zoh ZmK Zpf Zgw ZoE),ZyO⟩)
  (Zsx:codeIn K Zgw "with_entry"=true)
  (ZrO:keepIn K (.ref ZeA)=true)
  (ZRD:nsIn K mainGlobals "made"=some (some (.ref ZH5)))
  (ZOC:K.lookup ZH5=some ⟨ZPD,ZPB,.func (fnS Zxm "made" "made" ZLH ZMf ZK2 ZMB ZGW ZMk),ZPf⟩)
  (ZOO:codeIn K ZGW "made"=true)
  (ZOF:keepIn K (.ref ZH5)=true)
  (ZOf:nsIn K mainGlobals "linked"=some (some (.ref ZtG)))
  (ZHU:K.lookup ZtG=some ⟨ZLk,ZLi,.func (fnS Zjy "linked" "linked" ZDx ZD1 ZCy ZEA ZvD ZD6),ZKO⟩)
  (ZIh:codeIn K ZvD "linked"=true)
  (ZHX:keepIn K (.ref ZtG)=true)
  (ZEF:nsIn K mainGlobals "lengthened"=some (some (.ref ZeE)))
  (Zrv:K.lookup ZeE=some ⟨Zz8,ZzL,.func (fnS ZbW "lengthened" "lengthened" ZnN Zol ZmO Zpj ZgA ZoI),ZyS⟩)
  (ZsB:codeIn K ZgA "lengthened"=true)
  (ZrS:keepIn K (.ref ZeE)=true)
  (ZMC:nsIn K mainGlobals "written"=some (some (.ref Zoa)))
  (ZDg:K.lookup Zoa=some ⟨ZJv,ZJo,.func (fnS Zfq "written" "written" ZxL ZxV Zxn Zym Zqy Zx2),ZIQ⟩)
  (ZEe:codeIn K Zqy "written"=true)
  (ZDp:keepIn K (.ref Zoa)=true)
  (ZME:nsIn K mainGlobals "resized"=some (some (.ref Zoc)))
  (ZDi:K.lookup Zoc=some ⟨ZJx,ZJq,.func (fnS Zfs "resized" "resized" ZxN ZxX Zxp Zyo ZqA Zx4),ZIS⟩)
  (ZEg:codeIn K ZqA "resized"=true)
  (ZDr:keepIn K (.ref Zoc)=true)
  (ZEP:findIn K (.ref Zee) "__init__"=some (some (.ref Zc4)))
  (ZDF:isFn K (.ref Zc4)=true)
  (ZrF:K.lookup Zc4=some ⟨ZAi,ZzV,.func (fnS Zb6 "__init__" "Image.__init__" ZnX Zov ZmY Zpt ZgK ZoS),Zy2⟩)
  (ZsL:codeIn K ZgK "Image.__init__"=true)
  (Zr1:keepIn K (.ref Zc4)=true)
  (ZEE:nsIn K mainGlobals "name_codes"=some (some (.ref ZeD)))
  (Zru:K.lookup ZeD=some ⟨Zz7,ZzK,.func (fnS Za8 "name_codes" "name_codes" ZnM Zok ZmN Zpi Zgz ZoH),ZyR⟩)
  (ZsA:codeIn K Zgz "name_codes"=true)
  (ZrR:keepIn K (.ref ZeD)=true)
  (ZBb:nsIn K mainGlobals "entries_row"=some (some (.ref ZdC)))
  (Znu:K.lookup ZdC=some ⟨ZwM,ZwD,.func (fnS Zbi "entries_row" "entries_row" Zkq ZkA Zj4 ZkZ Zfc ZkJ),Zwe⟩)
  (Zo3:codeIn K Zfc "entries_row"=true)
  (ZnD:keepIn K (.ref ZdC)=true)
  (ZEC:nsIn K mainGlobals "table_head"=some (some (.ref ZeB)))
  (Zrs:K.lookup ZeB=some ⟨Zz5,ZzI,.func (fnS ZbU "table_head" "table_head" ZnK Zoi ZmL Zpg Zgx ZoF),ZyP⟩)
  (Zsy:codeIn K Zgx "table_head"=true)
  (ZrP:keepIn K (.ref ZeB)=true)
  (ZJ5:nsIn K mainGlobals "image_of"=some (some (.ref ZjG)))
  (ZxE:K.lookup ZjG=some ⟨ZGq,ZGm,.func (fnS ZdL "image_of" "image_of" Zvb Zvs Zuj ZvU ZlM Zvz),ZFZ⟩)
  (Zyh:codeIn K ZlM "image_of"=true)
  (ZxJ:keepIn K (.ref ZjG)=true)
  (ZJ6:nsIn K mainGlobals "check_of"=some (some (.ref ZjH)))
  (ZxF:K.lookup ZjH=some ⟨ZGr,ZGn,.func (fnS ZdM "check_of" "check_of" Zvc Zvt Zuk ZvV ZlN ZvA),ZF0⟩)
  (Zyi:codeIn K ZlN "check_of"=true)
  (ZxK:keepIn K (.ref ZjH)=true)
  (ZBd:nsIn K mainGlobals "check_bytes"=some (some (.ref ZdE)))
  (Znw:K.lookup ZdE=some ⟨ZwO,ZwF,.func (fnS ZaJ "check_bytes" "check_bytes" Zks ZkC Zj6 Zk1 Zfe ZkL),Zwg⟩)
  (Zo5:codeIn K Zfe "check_bytes"=true)
  (ZnF:keepIn K (.ref ZdE)=true)
  (ZOe:nsIn K mainGlobals "padded"=some (some (.ref ZtF)))
  (ZHT:K.lookup ZtF=some ⟨ZLj,ZLh,.func (fnS Zjx "padded" "padded" ZDw ZD0 ZCx ZEz ZvC ZD5),ZKN⟩)
  (ZIg:codeIn K ZvC "padded"=true)
  (ZHW:keepIn K (.ref ZtF)=true)
  (ZEH:nsIn K mainGlobals "head_block"=some (some (.ref ZeG)))
  (Zrx:K.lookup ZeG=some ⟨ZAa,ZzN,.func (fnS ZbY "head_block" "head_block" ZnP Zon ZmQ Zpl ZgC ZoK),ZyU⟩)
  (ZsD:codeIn K ZgC "head_block"=true)
  (ZrU:keepIn K (.ref ZeG)=true)
  (ZEN:findIn K (.ref ZbQ) "__init__"=some (some (.ref Zc2)))
  (ZDD:isFn K (.ref Zc2)=true)
  (ZrD:K.lookup Zc2=some ⟨ZAg,ZzT,.func (fnS Zb4 "__init__" "Store.__init__" ZnV Zot ZmW Zpr ZgI ZoQ),Zy0⟩)
  (ZsJ:codeIn K ZgI "Store.__init__"=true)
  (ZrZ:keepIn K (.ref Zc2)=true)
  (ZqL:findIn K (.ref ZbQ) "image_for"=some (some (.ref ZaA)))
  (Zqr:isFn K (.ref ZaA)=true)
  (ZfE:K.lookup ZaA=some ⟨Znm,Znk,.func (fnS Zae "image_for" "Store.image_for" Zew ZeM Zeo ZeS ZcA ZeO),Zmb⟩)
  (ZfO:codeIn K ZcA "Store.image_for"=true)
  (ZcM:keepIn K (.ref ZaA)=true)
  (ZEM:findIn K (.ref ZbQ) "save"=some (some (.ref Zc1)))
  (ZDC:isFn K (.ref Zc1)=true)
  (ZrC:K.lookup Zc1=some ⟨ZAf,ZzS,.func (fnS Zb3 "save" "Store.save" ZnU Zos ZmV Zpq ZgH ZoP),ZyZ⟩)
  (ZsI:codeIn K ZgH "Store.save"=true)
  (Zif:keepIn K (.ref Zc1)=true)
  (ZHa:nsIn K mainGlobals "new_store"=some (some (.ref Zgj)))
  (ZuR:K.lookup Zgj=some ⟨ZCX,ZCO,.func (fnS ZcG "new_store" "new_store" Zr4 Zsf Zrb Zs3 ZiO Zso),ZCe⟩)
  (ZvG:codeIn K ZiO "new_store"=true)
  (Zu2:keepIn K (.ref Zgj)=true)
  (ZEU:findIn K (.ref Z9) "__init__"=some (some (.ref Zc9)))
  (ZDK:isFn K (.ref Zc9)=true)
  (ZrK:K.lookup Zc9=some ⟨ZAn,Zz0,.func (fnS Zcb "__init__" "Files.__init__" Zn2 ZoA Zm3 Zpy ZgP ZoX),Zy7⟩)
  (ZsQ:codeIn K ZgP "Files.__init__"=true)
  (Zr2:keepIn K (.ref Zc9)=true)
  (ZEV:findIn K (.ref Z9) "find"=some (some (.ref Zda)))
  (ZDL:isFn K (.ref Zda)=true)
  (ZrL:K.lookup Zda=some ⟨ZAo,Zz1,.func (fnS Zcc "find" "Files.find" Zn3 ZoB Zm4 Zpz ZgQ ZoY),Zy8⟩)
  (ZsR:codeIn K ZgQ "Files.find"=true)
  (Zik:keepIn K (.ref Zda)=true)
  (ZER:findIn K (.ref Z9) "read"=some (some (.ref Zc6)))
  (ZDH:isFn K (.ref Zc6)=true)
  (ZrH:K.lookup Zc6=some ⟨ZAk,ZzX,.func (fnS Zb8 "read" "Files.read" ZnZ Zox Zm0 Zpv ZgM ZoU),Zy4⟩)
  (ZsN:codeIn K ZgM "Files.read"=true)
  (Zih:keepIn K (.ref Zc6)=true)
  (ZEQ:findIn K (.ref Z9) "stat"=some (some (.ref Zc5)))
  (ZDG:isFn K (.ref Zc5)=true)
  (ZrG:K.lookup Zc5=some ⟨ZAj,ZzW,.func (fnS Zb7 "stat" "Files.stat" ZnY Zow ZmZ Zpu ZgL ZoT),Zy3⟩)
  (ZsM:codeIn K ZgL "Files.stat"=true)
  (Zig:keepIn K (.ref Zc5)=true)
  (ZES:findIn K (.ref Z9) "make"=some (some (.ref Zc7)))
  (ZDI:isFn K (.ref Zc7)=true)
  (ZrI:K.lookup Zc7=some ⟨ZAl,ZzY,.func (fnS Zb9 "make" "Files.make" Zn0 Zoy Zm1 Zpw ZgN ZoV),Zy5⟩)
  (ZsO:codeIn K ZgN "Files.make"=true)
  (Zii:keepIn K (.ref Zc7)=true)
  (ZET:findIn K (.ref Z9) "link"=some (some (.ref Zc8)))
  (ZDJ:isFn K (.ref Zc8)=true)
  (ZrJ:K.lookup Zc8=some ⟨ZAm,ZzZ,.func (fnS Zca "link" "Files.link" Zn1 Zoz Zm2 Zpx ZgO ZoW),Zy6⟩)
  (ZsP:codeIn K ZgO "Files.link"=true)
  (Zij:keepIn K (.ref Zc8)=true)
  (ZBg:findIn K (.ref Z9) "write"=some (some (.ref Zcw)))
  (ZAH:isFn K (.ref Zcw)=true)
  (Znz:K.lookup Zcw=some ⟨ZwR,ZwI,.func (fnS Zbm "write" "Files.write" Zkv ZkF Zj9 Zk4 Zfh ZkO),Zwj⟩)
  (Zo8:codeIn K Zfh "Files.write"=true)
  (Zgb:keepIn K (.ref Zcw)=true)
  (ZHg:findIn K (.ref Z9) "cut"=some (some (.ref Zd3)))
  (ZGK:isFn K (.ref Zd3)=true)
  (ZuX:K.lookup Zd3=some ⟨ZC3,ZCU,.func (fnS ZcK "cut" "Files.cut" Zsa Zsl Zrh Zs9 ZiU Zsu),ZCk⟩)
  (ZvM:codeIn K ZiU "Files.cut"=true)
  (ZlC:keepIn K (.ref Zd3)=true)
  (ZfT:findIn K (.ref Z9) "check_changeable"=some (some (.ref ZZ)))
  (ZfH:isFn K (.ref ZZ)=true)
  (Zch:K.lookup ZZ=some ⟨Ze1,Ze0,.func (fnS ZS "check_changeable" "Files.check_changeable" ZbA ZbD Zby ZbF Zaq ZbE),ZeV⟩)
  (Zci:codeIn K Zaq "Files.check_changeable"=true)
  (Zax:keepIn K (.ref ZZ)=true)
  (ZvX:findIn K (.ref Z9) "turn_to"=some (some (.ref Zbc)))
  (Zvj:isFn K (.ref Zbc)=true)
  (Zid:K.lookup Zbc=some ⟨Ztv,Ztt,.func (fnS Zau "turn_to" "Files.turn_to" Zhb Zhd Zg5 Zhj Zdk Zhf),Ztg⟩)
  (ZiY:codeIn K Zdk "Files.turn_to"=true)
  (Zd0:keepIn K (.ref Zbc)=true)
  (ZHb:nsIn K mainGlobals "formatted"=some (some (.ref Zgk)))
  (ZuS:K.lookup Zgk=some ⟨ZCY,ZCP,.func (fnS ZcH "formatted" "formatted" Zr5 Zsg Zrc Zs4 ZiP Zsp),ZCf⟩)
  (ZvH:codeIn K ZiP "formatted"=true)
  (Zu3:keepIn K (.ref Zgk)=true)
  (ZHf:nsIn K mainGlobals "_law_cell"=some (some (.ref Zgo)))
  (ZuW:K.lookup Zgo=some ⟨ZC2,ZCT,.func (fnS ZcJ "_law_cell" "_law_cell" Zr9 Zsk Zrg Zs8 ZiT Zst),ZCj⟩)
  (ZvL:codeIn K ZiT "_law_cell"=true)
  (Zu7:keepIn K (.ref Zgo)=true)
  (ZEL:nsIn K mainGlobals "_law_drawn"=some (some (.ref ZeK)))
  (ZrB:K.lookup ZeK=some ⟨ZAe,ZzR,.func (fnS Zb2 "_law_drawn" "_law_drawn" ZnT Zor ZmU Zpp ZgG ZoO),ZyY⟩)
  (ZsH:codeIn K ZgG "_law_drawn"=true)
  (ZrY:keepIn K (.ref ZeK)=true)
  (ZHc:nsIn K mainGlobals "_law_word"=some (some (.ref Zgl)))
  (ZuT:K.lookup Zgl=some ⟨ZCZ,ZCQ,.func (fnS ZcI "_law_word" "_law_word" Zr6 Zsh Zrd Zs5 ZiQ Zsq),ZCg⟩)
  (ZvI:codeIn K ZiQ "_law_word"=true)
  (Zu4:keepIn K (.ref Zgl)=true)
  (ZHd:nsIn K mainGlobals "_law_told"=some (some (.ref Zgm)))
  (ZuU:K.lookup Zgm=some ⟨ZC0,ZCR,.func (fnS ZbJ "_law_told" "_law_told" Zr7 Zsi Zre Zs6 ZiR Zsr),ZCh⟩)
  (ZvJ:codeIn K ZiR "_law_told"=true)
  (Zu5:keepIn K (.ref Zgm)=true)
  (Zw6:nsIn K mainGlobals "_law_changed"=some (some (.ref ZcZ)))
  (Zkj:K.lookup ZcZ=some ⟨ZuD,Zuy,.func (fnS ZaY "_law_changed" "_law_changed" Ziq ZiD ZhY Zi7 Zea ZiI),Zt4⟩)
  (ZkU:codeIn K Zea "_law_changed"=true)
  (Zko:keepIn K (.ref ZcZ)=true)
  (ZHe:nsIn K mainGlobals "_law_deed"=some (some (.ref Zgn)))
  (ZuV:K.lookup Zgn=some ⟨ZC1,ZCS,.func (fnS ZbK "_law_deed" "_law_deed" Zr8 Zsj Zrf Zs7 ZiS Zss),ZCi⟩)
  (ZvK:codeIn K ZiS "_law_deed"=true)
  (Zu6:keepIn K (.ref Zgn)=true)
  (ZRE:nsIn K mainGlobals "law"=some (some (.ref ZP1)))
  (ZRb:K.lookup ZP1=some ⟨ZQ7,ZQ6,.func (fnS ZI3 "law" "law" ZOG ZOJ ZOp ZOP ZMr ZOK),ZQO⟩)
  (ZRz:codeIn K ZMr "law"=true)
  (ZRj:keepIn K (.ref ZP1)=true)
  (ZIu:excIn K ZE [.type "ValueError",.type "Exception",.type "BaseException",.type "object"] "ValueError.__new__"=true)
  (ZFt:findIn K (.ref ZE) "__getattribute__"=some (some (.builtin "BaseException.__getattribute__")))
  (ZFp:findIn K (.ref ZE) "__getattr__"=some none)
  (ZFF:findIn K (.ref ZE) "__class__"=some (some (.builtin "object.__class__")))
  (ZFl:mroIn K ZE (.type "object")=some true)
  (ZFM:mroIn K ZE (.type "BaseException")=some true)
  (ZFx:clsIn K ZE=some ZFB)
  (Zwc:excIn K Zn [.type "ValueError",.type "Exception",.type "BaseException",.type "object"] "ValueError.__new__"=true)
  (ZtM:findIn K (.ref Zn) "__getattribute__"=some (some (.builtin "BaseException.__getattribute__")))
  (ZtL:findIn K (.ref Zn) "__getattr__"=some none)
  (ZtP:findIn K (.ref Zn) "__class__"=some (some (.builtin "object.__class__")))
  (ZtK:mroIn K Zn (.type "object")=some true)
  (ZtQ:mroIn K Zn (.type "BaseException")=some true)
  (ZtN:clsIn K Zn=some ZtO)
  (ZIx:excIn K ZH [.type "ValueError",.type "Exception",.type "BaseException",.type "object"] "ValueError.__new__"=true)
  (ZFw:findIn K (.ref ZH) "__getattribute__"=some (some (.builtin "BaseException.__getattribute__")))
  (ZFs:findIn K (.ref ZH) "__getattr__"=some none)
  (ZFI:findIn K (.ref ZH) "__class__"=some (some (.builtin "object.__class__")))
  (ZFo:mroIn K ZH (.type "object")=some true)
  (ZFP:mroIn K ZH (.type "BaseException")=some true)
  (ZFA:clsIn K ZH=some ZFE)
  (ZIw:excIn K ZG [.type "ValueError",.type "Exception",.type "BaseException",.type "object"] "ValueError.__new__"=true)
  (ZFv:findIn K (.ref ZG) "__getattribute__"=some (some (.builtin "BaseException.__getattribute__")))
  (ZFr:findIn K (.ref ZG) "__getattr__"=some none)
  (ZFH:findIn K (.ref ZG) "__class__"=some (some (.builtin "object.__class__")))
  (ZFn:mroIn K ZG (.type "object")=some true)
  (ZFO:mroIn K ZG (.type "BaseException")=some true)
  (ZFz:clsIn K ZG=some ZFD)
  (ZKb:excIn K ZM [.type "ValueError",.type "Exception",.type "BaseException",.type "object"] "ValueError.__new__"=true)
  (ZIq:findIn K (.ref ZM) "__getattribute__"=some (some (.builtin "BaseException.__getattribute__")))
  (ZIp:findIn K (.ref ZM) "__getattr__"=some none)
  (ZIt:findIn K (.ref ZM) "__class__"=some (some (.builtin "object.__class__")))
  (ZIo:mroIn K ZM (.type "object")=some true)
  (ZIy:mroIn K ZM (.type "BaseException")=some true)
  (ZIr:clsIn K ZM=some ZIs)
  (ZFL:excIn K Zy [.type "ValueError",.type "Exception",.type "BaseException",.type "object"] "ValueError.__new__"=true)
  (ZBE:findIn K (.ref Zy) "__getattribute__"=some (some (.builtin "BaseException.__getattribute__")))
  (ZBB:findIn K (.ref Zy) "__getattr__"=some none)
  (ZBN:findIn K (.ref Zy) "__class__"=some (some (.builtin "object.__class__")))
  (ZBy:mroIn K Zy (.type "object")=some true)
  (ZBR:mroIn K Zy (.type "BaseException")=some true)
  (ZBH:clsIn K Zy=some ZBK)
  (ZBO:excIn K Zq [.type "ValueError",.type "Exception",.type "BaseException",.type "object"] "ValueError.__new__"=true)
  (Zyz:findIn K (.ref Zq) "__getattribute__"=some (some (.builtin "BaseException.__getattribute__")))
  (Zyy:findIn K (.ref Zq) "__getattr__"=some none)
  (ZyC:findIn K (.ref Zq) "__class__"=some (some (.builtin "object.__class__")))
  (Zyx:mroIn K Zq (.type "object")=some true)
  (ZyD:mroIn K Zq (.type "BaseException")=some true)
  (ZyA:clsIn K Zq=some ZyB)
  (ZFJ:excIn K Zw [.type "ValueError",.type "Exception",.type "BaseException",.type "object"] "ValueError.__new__"=true)
  (ZBC:findIn K (.ref Zw) "__getattribute__"=some (some (.builtin "BaseException.__getattribute__")))
  (ZBz:findIn K (.ref Zw) "__getattr__"=some none)
  (ZBL:findIn K (.ref Zw) "__class__"=some (some (.builtin "object.__class__")))
  (ZBw:mroIn K Zw (.type "object")=some true)
  (ZBP:mroIn K Zw (.type "BaseException")=some true)
  (ZBF:clsIn K Zw=some ZBI)
  (ZFK:excIn K Zx [.type "ValueError",.type "Exception",.type "BaseException",.type "object"] "ValueError.__new__"=true)
  (ZBD:findIn K (.ref Zx) "__getattribute__"=some (some (.builtin "BaseException.__getattribute__")))
  (ZBA:findIn K (.ref Zx) "__getattr__"=some none)
  (ZBM:findIn K (.ref Zx) "__class__"=some (some (.builtin "object.__class__")))
  (ZBx:mroIn K Zx (.type "object")=some true)
  (ZBQ:mroIn K Zx (.type "BaseException")=some true)
  (ZBG:clsIn K Zx=some ZBJ)
  (ZIv:excIn K ZF [.type "ValueError",.type "Exception",.type "BaseException",.type "object"] "ValueError.__new__"=true)
  (ZFu:findIn K (.ref ZF) "__getattribute__"=some (some (.builtin "BaseException.__getattribute__")))
  (ZFq:findIn K (.ref ZF) "__getattr__"=some none)
  (ZFG:findIn K (.ref ZF) "__class__"=some (some (.builtin "object.__class__")))
  (ZFm:mroIn K ZF (.type "object")=some true)
  (ZFN:mroIn K ZF (.type "BaseException")=some true)
  (ZFy:clsIn K ZF=some ZFC)
  (xgg:specialIn K (.builtin "object.__class__") "__get__"=some (some (.builtin "getset_descriptor.__get__")))
  (xtk:takesIn K (.builtin "object.__class__")=some true)
  (ZNs:findIn K (.ref Z9) "__class__"=some (some (.builtin "object.__class__")))
  (ZNq:mroIn K Z9 (.type "object")=some true)
  (ZNr:kitOne K (.ref Z9) (.ref Z9)=some true)
  (ZpS:kitOne K (.ref ZE) (.ref ZE)=some true)
  (ZhN:kitOne K (.ref ZE) (.ref Zn)=some false)
  (ZpV:kitOne K (.ref ZE) (.ref ZH)=some false)
  (ZpU:kitOne K (.ref ZE) (.ref ZG)=some false)
  (Zti:kitOne K (.ref ZE) (.ref ZM)=some false)
  (Zmz:kitOne K (.ref ZE) (.ref Zy)=some false)
  (Zls:kitOne K (.ref ZE) (.ref Zq)=some false)
  (Zmx:kitOne K (.ref ZE) (.ref Zw)=some false)
  (Zmy:kitOne K (.ref ZE) (.ref Zx)=some false)
  (ZpT:kitOne K (.ref ZE) (.ref ZF)=some false)
  (ZJb:kitOne K (.ref ZE) (.ref Zv)=some true)
  (ZI7:kitOne K (.ref ZE) (.type "ValueError")=some true)
  (ZhP:kitOne K (.ref Zn) (.ref ZE)=some false)
  (ZeZ:kitOne K (.ref Zn) (.ref Zn)=some true)
  (ZhS:kitOne K (.ref Zn) (.ref ZH)=some false)
  (ZhR:kitOne K (.ref Zn) (.ref ZG)=some false)
  (ZjT:kitOne K (.ref Zn) (.ref ZM)=some false)
  (Zhs:kitOne K (.ref Zn) (.ref Zy)=some false)
  (Zf3:kitOne K (.ref Zn) (.ref Zq)=some false)
  (Zhq:kitOne K (.ref Zn) (.ref Zw)=some false)
  (Zhr:kitOne K (.ref Zn) (.ref Zx)=some false)
  (ZhQ:kitOne K (.ref Zn) (.ref ZF)=some false)
  (Zwu:kitOne K (.ref Zn) (.ref Zv)=some true)
  (Zwt:kitOne K (.ref Zn) (.type "ValueError")=some true)
  (Zp7:kitOne K (.ref ZH) (.ref ZE)=some false)
  (ZhU:kitOne K (.ref ZH) (.ref Zn)=some false)
  (Zqa:kitOne K (.ref ZH) (.ref ZH)=some true)
  (Zp9:kitOne K (.ref ZH) (.ref ZG)=some false)
  (Ztp:kitOne K (.ref ZH) (.ref ZM)=some false)
  (ZmJ:kitOne K (.ref ZH) (.ref Zy)=some false)
  (Zlv:kitOne K (.ref ZH) (.ref Zq)=some false)
  (ZmH:kitOne K (.ref ZH) (.ref Zw)=some false)
  (ZmI:kitOne K (.ref ZH) (.ref Zx)=some false)
  (Zp8:kitOne K (.ref ZH) (.ref ZF)=some false)
  (ZJe:kitOne K (.ref ZH) (.ref Zv)=some true)
  (ZJa:kitOne K (.ref ZH) (.type "ValueError")=some true)
  (Zp3:kitOne K (.ref ZG) (.ref ZE)=some false)
  (ZhT:kitOne K (.ref ZG) (.ref Zn)=some false)
  (Zp6:kitOne K (.ref ZG) (.ref ZH)=some false)
  (Zp5:kitOne K (.ref ZG) (.ref ZG)=some true)
  (Zto:kitOne K (.ref ZG) (.ref ZM)=some false)
  (ZmG:kitOne K (.ref ZG) (.ref Zy)=some false)
  (Zlu:kitOne K (.ref ZG) (.ref Zq)=some false)
  (ZmE:kitOne K (.ref ZG) (.ref Zw)=some false)
  (ZmF:kitOne K (.ref ZG) (.ref Zx)=some false)
  (Zp4:kitOne K (.ref ZG) (.ref ZF)=some false)
  (ZJd:kitOne K (.ref ZG) (.ref Zv)=some true)
  (ZI9:kitOne K (.ref ZG) (.type "ValueError")=some true)
  (Ztj:kitOne K (.ref ZM) (.ref ZE)=some false)
  (ZjS:kitOne K (.ref ZM) (.ref Zn)=some false)
  (Ztm:kitOne K (.ref ZM) (.ref ZH)=some false)
  (Ztl:kitOne K (.ref ZM) (.ref ZG)=some false)
  (Zud:kitOne K (.ref ZM) (.ref ZM)=some true)
  (ZpY:kitOne K (.ref ZM) (.ref Zy)=some false)
  (ZmA:kitOne K (.ref ZM) (.ref Zq)=some false)
  (ZpW:kitOne K (.ref ZM) (.ref Zw)=some false)
  (ZpX:kitOne K (.ref ZM) (.ref Zx)=some false)
  (Ztk:kitOne K (.ref ZM) (.ref ZF)=some false)
  (ZKV:kitOne K (.ref ZM) (.ref Zv)=some true)
  (ZKU:kitOne K (.ref ZM) (.type "ValueError")=some true)
  (Zmt:kitOne K (.ref Zy) (.ref ZE)=some false)
  (Zhp:kitOne K (.ref Zy) (.ref Zn)=some false)
  (Zmw:kitOne K (.ref Zy) (.ref ZH)=some false)
  (Zmv:kitOne K (.ref Zy) (.ref ZG)=some false)
  (ZpR:kitOne K (.ref Zy) (.ref ZM)=some false)
  (Zlr:kitOne K (.ref Zy) (.ref Zy)=some true)
  (ZjR:kitOne K (.ref Zy) (.ref Zq)=some false)
  (Zlp:kitOne K (.ref Zy) (.ref Zw)=some false)
  (Zlq:kitOne K (.ref Zy) (.ref Zx)=some false)
  (Zmu:kitOne K (.ref Zy) (.ref ZF)=some false)
  (ZGb:kitOne K (.ref Zy) (.ref Zv)=some true)
  (ZF8:kitOne K (.ref Zy) (.type "ValueError")=some true)
  (Zlf:kitOne K (.ref Zq) (.ref ZE)=some false)
  (Zf2:kitOne K (.ref Zq) (.ref Zn)=some false)
  (Zli:kitOne K (.ref Zq) (.ref ZH)=some false)
  (Zlh:kitOne K (.ref Zq) (.ref ZG)=some false)
  (Zmk:kitOne K (.ref Zq) (.ref ZM)=some false)
  (ZjO:kitOne K (.ref Zq) (.ref Zy)=some false)
  (ZhM:kitOne K (.ref Zq) (.ref Zq)=some true)
  (ZjM:kitOne K (.ref Zq) (.ref Zw)=some false)
  (ZjN:kitOne K (.ref Zq) (.ref Zx)=some false)
  (Zlg:kitOne K (.ref Zq) (.ref ZF)=some false)
  (ZCv:kitOne K (.ref Zq) (.ref Zv)=some true)
  (ZCu:kitOne K (.ref Zq) (.type "ValueError")=some true)
  (Zml:kitOne K (.ref Zw) (.ref ZE)=some false)
  (Zhn:kitOne K (.ref Zw) (.ref Zn)=some false)
  (Zmo:kitOne K (.ref Zw) (.ref ZH)=some false)
  (Zmn:kitOne K (.ref Zw) (.ref ZG)=some false)
  (ZpP:kitOne K (.ref Zw) (.ref ZM)=some false)
  (Zll:kitOne K (.ref Zw) (.ref Zy)=some false)
  (ZjP:kitOne K (.ref Zw) (.ref Zq)=some false)
  (Zlj:kitOne K (.ref Zw) (.ref Zw)=some true)
  (Zlk:kitOne K (.ref Zw) (.ref Zx)=some false)
  (Zmm:kitOne K (.ref Zw) (.ref ZF)=some false)
  (ZF9:kitOne K (.ref Zw) (.ref Zv)=some true)
  (ZF6:kitOne K (.ref Zw) (.type "ValueError")=some true)
  (Zmp:kitOne K (.ref Zx) (.ref ZE)=some false)
  (Zho:kitOne K (.ref Zx) (.ref Zn)=some false)
  (Zms:kitOne K (.ref Zx) (.ref ZH)=some false)
  (Zmr:kitOne K (.ref Zx) (.ref ZG)=some false)
  (ZpQ:kitOne K (.ref Zx) (.ref ZM)=some false)
  (Zlo:kitOne K (.ref Zx) (.ref Zy)=some false)
  (ZjQ:kitOne K (.ref Zx) (.ref Zq)=some false)
  (Zlm:kitOne K (.ref Zx) (.ref Zw)=some false)
  (Zln:kitOne K (.ref Zx) (.ref Zx)=some true)
  (Zmq:kitOne K (.ref Zx) (.ref ZF)=some false)
  (ZGa:kitOne K (.ref Zx) (.ref Zv)=some true)
  (ZF7:kitOne K (.ref Zx) (.type "ValueError")=some true)
  (ZpZ:kitOne K (.ref ZF) (.ref ZE)=some false)
  (ZhO:kitOne K (.ref ZF) (.ref Zn)=some false)
  (Zp2:kitOne K (.ref ZF) (.ref ZH)=some false)
  (Zp1:kitOne K (.ref ZF) (.ref ZG)=some false)
  (Ztn:kitOne K (.ref ZF) (.ref ZM)=some false)
  (ZmD:kitOne K (.ref ZF) (.ref Zy)=some false)
  (Zlt:kitOne K (.ref ZF) (.ref Zq)=some false)
  (ZmB:kitOne K (.ref ZF) (.ref Zw)=some false)
  (ZmC:kitOne K (.ref ZF) (.ref Zx)=some false)
  (Zp0:kitOne K (.ref ZF) (.ref ZF)=some true)
  (ZJc:kitOne K (.ref ZF) (.ref Zv)=some true)
  (ZI8:kitOne K (.ref ZF) (.type "ValueError")=some true)
  (ZyH:typeIn K (.ref Zv)=some (.type "type"))
  (ZA1:subIn K (.ref Zv) (.type "BaseException")=some true)
  (Zwa:clsIn K Zv=some Zwb)
  (ZhH:subIn K (.ref ZE) (.ref Zv)=some true)
  (ZeX:subIn K (.ref Zn) (.ref Zv)=some true)
  (ZhK:subIn K (.ref ZH) (.ref Zv)=some true)
  (ZhJ:subIn K (.ref ZG) (.ref Zv)=some true)
  (ZjL:subIn K (.ref ZM) (.ref Zv)=some true)
  (Zhm:subIn K (.ref Zy) (.ref Zv)=some true)
  (Zf0:subIn K (.ref Zq) (.ref Zv)=some true)
  (Zhk:subIn K (.ref Zw) (.ref Zv)=some true)
  (Zhl:subIn K (.ref Zx) (.ref Zv)=some true)
  (ZhI:subIn K (.ref ZF) (.ref Zv)=some true)
  (Zd1:nsIn K mainGlobals "FEWEST_BLOCKS"=some (some (.int 16 ZhC)))
  (Zdz:nsIn K mainGlobals "MOST_BLOCKS"=some (some (.int 256 Zl3)))
  (Zct:nsIn K mainGlobals "BLOCK_BYTES"=some (some (.int 64 Zl7)))
  (Zgf:nsIn K mainGlobals "FIRST_BLOCK"=some (some (.int 2 Zl4)))
  (ZjD:nsIn K mainGlobals "NO_BLOCK"=some (some (.int 0 Zxf)))
  (ZbO:nsIn K mainGlobals "ROW_BYTES"=some (some (.int 63 ZtW)))
  (Zey:nsIn K mainGlobals "NAME_SIGNS"=some (some (.str "ABCDEFGHIJKLMNOPQRSTUVWXYZabcdefghijklmnopqrstuvwxyz0123456789._-" Zq4)))
  (ZcV:nsIn K mainGlobals "LONGEST_NAME"=some (some (.int 8 ZjZ)))
  (Ze5:nsIn K mainGlobals "LONGEST_PATH"=some (some (.int 60 ZjY)))
  (ZH1:nsIn K mainGlobals "ROOT"=some (some (.int 0 ZOh)))
  (Zge:nsIn K mainGlobals "MOST_THINGS"=some (some (.int 32 Zl2)))
  (Zez:nsIn K mainGlobals "MOST_BYTES"=some (some (.int 600 Zq5)))
  (Ze4:nsIn K mainGlobals "MOST_ENTRIES"=some (some (.int 40 ZjX)))
  (Ziv:nsIn K mainGlobals "ENTRY_SIZE"=some (some (.int 10 Zq6)))
  (ZLS:nsIn K mainGlobals "MARK"=some (some (.ref ZMJ)))
  (ZPL:K.lookup ZMJ=some ⟨.type "tuple",ZP6,.seq #[.int 83 ZHx,.int 116 ZHw,.int 105 ZHv,.int 108 ZHu] ZPH,ZPd⟩)
  (Zgg:nsIn K mainGlobals "CHECK_PLACE"=some (some (.int 37 Zl6)))
  (ZlD:nsIn K mainGlobals "FILE_KIND"=some (some (.int 1 ZtX)))
  (Zdh:nsIn K mainGlobals "DIRECTORY_KIND"=some (some (.int 2 Zg3)))
  (Ze6:nsIn K mainGlobals "CHECK_FACTOR"=some (some (.int 1000003 Zj0)))
  (ZdA:nsIn K mainGlobals "CHECK_PRIME"=some (some (.int 4294967291 Zl5)))
  (ZAO:nsIn K mainGlobals "TURNS"=some (some (.int 256 ZKr)))
  (Zlc:nsIn K mainGlobals "range"=some none)
  (ZMK:nsIn K mainGlobals "min"=some none)
  (Zbv:nsIn K mainGlobals "len"=some none)
  (ZtJ:nsIn K mainGlobals "tuple"=some none)
  (Zld:nsIn K mainGlobals "enumerate"=some none)
  (ZML:nsIn K mainGlobals "all"=some none)
  (ZlZ:nsIn K mainGlobals "sorted"=some none)
  (Zq2:nsIn K mainGlobals "list"=some none)
  (ZBv:nsIn K mainGlobals "dict"=some none)
  (ZOY:nsIn K mainGlobals "sum"=some none)
  (ZOX:nsIn K mainGlobals "zip"=some none)
  (ZT:nsIn K mainGlobals "isinstance"=some none)
  (Zhu:nsIn K mainGlobals "ValueError"=some none)
  (ZKa:nsIn K mainGlobals "max"=some none)
  : ∃ fd:FuncData,(∀ (s:Shared) (v:Value),BindsTo s fd ⟨[v],[]⟩ [("_law_script",v)])∧∀ base:Heap,K.In base→base.Ns mainGlobals mg→FnOk l.prog w K mg base CX0 10 fa fd ["_law_script"] (ZMX K):=by
 have e:=hfa.symm.trans (mg_of X G ZRE)
 cases e
 let g:Gs:=⟨Zd4,fnS ZbL "__init__" "Disk.__init__" Zsb Zsm Zri Zta ZiV Zsv,
  Zdb,fnS Zcd "write" "Disk.write" Zn4 ZoC Zm5 ZpA ZgR ZoZ,
  ZbC,fnS ZaZ "barrier" "Disk.barrier" Zir ZiE ZhZ Zi8 Zeb ZiJ,
  ZdF,fnS Zbk "block_count" "block_count" Zkt ZkD Zj7 Zk2 Zff ZkM,
  ZeJ,fnS Zb1 "blocks_for" "blocks_for" ZnS Zoq ZmT Zpo ZgF ZoN,
  ZcX,fnS Zam "free_numbers" "free_numbers" Zio ZiB ZhW Zi5 Zd8 ZiG,
  Zcy,fnS Zbo "__init__" "Chains.__init__" Zkx ZkH Zkb Zk6 Zfj ZkQ,
  Zdc,fnS Zce "put" "Chains.put" Zn5 ZoD Zm6 ZpB ZgS Zo0,
  Zcx,fnS Zbn "take" "Chains.take" Zkw ZkG Zka Zk5 Zfi ZkP,
  ZcY,fnS ZaX "chain_blocks" "chain_blocks" Zip ZiC ZhX Zi6 Zd9 ZiH,
  Zof,fnS ZdT "is_name" "is_name" ZxQ Zx0 Zxs Zyr ZqD Zx7,
  Zoe,fnS ZdS "is_path" "is_path" ZxP ZxZ Zxr Zyq ZqC Zx6,
  ZeC,fnS ZbV "path_names" "path_names" ZnL Zoj ZmM Zph Zgy ZoG,
  Zc3,fnS Zb5 "__init__" "State.__init__" ZnW Zou ZmX Zps ZgJ ZoR,
  ZdB,fnS Zbh "first_state" "first_state" Zkp Zkz Zj3 ZkY Zfb ZkI,
  ZdG,fnS Zbl "all_numbers" "all_numbers" Zku ZkE Zj8 Zk3 Zfg ZkN,
  ZjF,fnS ZdK "is_thing" "is_thing" Zva Zvr Zui ZvT ZlL Zvy,
  ZdD,fnS Zbj "check_thing" "check_thing" Zkr ZkB Zj5 Zk0 Zfd ZkK,
  Zog,fnS Zfu "data_of" "data_of" ZxR Zx1 Zxt Zys ZqE Zx8,
  ZeF,fnS ZbX "least_free" "least_free" ZnO Zom ZmP Zpk ZgB ZoJ,
  Zcv,fnS Zat "named_numbers" "named_numbers" Zha Zhc Zg4 Zhi Zdj Zhe,
  Zod,fnS Zft "kind_of" "kind_of" ZxO ZxY Zxq Zyp ZqB Zx5,
  ZjE,fnS ZdJ "links_of" "links_of" Zu9 Zvq Zuh ZvS ZlK Zvx,
  Zob,fnS Zfr "size_of" "size_of" ZxM ZxW Zxo Zyn Zqz Zx3,
  Zbr,fnS Zad "check_directory" "check_directory" Zev ZeL Zen ZeR Zcz ZeN,
  ZH4,fnS Zxl "walk" "walk" ZLG ZMe ZK1 ZMA ZGV ZMj,
  ZaR,fnS Z2 "walk_to_directory" "walk_to_directory" Zdo Zdp Zdn Zds Zbu Zdr,
  ZeI,fnS Zb0 "check_path" "check_path" ZnR Zop ZmS Zpn ZgE ZoM,
  ZbH,fnS Zaj "check_not_full" "check_not_full" ZfG ZfJ Zfw ZfS ZcQ ZfL,
  ZeH,fnS ZbZ "free_place" "free_place" ZnQ Zoo ZmR Zpm ZgD ZoL,
  Zgi,fnS ZcF "with_data" "with_data" Zr3 Zse Zra Zs2 ZiN Zsn,
  ZcW,fnS ZaW "with_entries" "with_entries" Zin ZiA ZhV Zi4 Zd7 ZiF,
  ZeA,fnS ZbT "with_entry" "with_entry" ZnJ Zoh ZmK Zpf Zgw ZoE,
  ZH5,fnS Zxm "made" "made" ZLH ZMf ZK2 ZMB ZGW ZMk,
  ZtG,fnS Zjy "linked" "linked" ZDx ZD1 ZCy ZEA ZvD ZD6,
  ZeE,fnS ZbW "lengthened" "lengthened" ZnN Zol ZmO Zpj ZgA ZoI,
  Zoa,fnS Zfq "written" "written" ZxL ZxV Zxn Zym Zqy Zx2,
  Zoc,fnS Zfs "resized" "resized" ZxN ZxX Zxp Zyo ZqA Zx4,
  Zc4,fnS Zb6 "__init__" "Image.__init__" ZnX Zov ZmY Zpt ZgK ZoS,
  ZeD,fnS Za8 "name_codes" "name_codes" ZnM Zok ZmN Zpi Zgz ZoH,
  ZdC,fnS Zbi "entries_row" "entries_row" Zkq ZkA Zj4 ZkZ Zfc ZkJ,
  ZeB,fnS ZbU "table_head" "table_head" ZnK Zoi ZmL Zpg Zgx ZoF,
  ZjG,fnS ZdL "image_of" "image_of" Zvb Zvs Zuj ZvU ZlM Zvz,
  ZjH,fnS ZdM "check_of" "check_of" Zvc Zvt Zuk ZvV ZlN ZvA,
  ZdE,fnS ZaJ "check_bytes" "check_bytes" Zks ZkC Zj6 Zk1 Zfe ZkL,
  ZtF,fnS Zjx "padded" "padded" ZDw ZD0 ZCx ZEz ZvC ZD5,
  ZeG,fnS ZbY "head_block" "head_block" ZnP Zon ZmQ Zpl ZgC ZoK,
  Zc2,fnS Zb4 "__init__" "Store.__init__" ZnV Zot ZmW Zpr ZgI ZoQ,
  ZaA,fnS Zae "image_for" "Store.image_for" Zew ZeM Zeo ZeS ZcA ZeO,
  Zc1,fnS Zb3 "save" "Store.save" ZnU Zos ZmV Zpq ZgH ZoP,
  Zgj,fnS ZcG "new_store" "new_store" Zr4 Zsf Zrb Zs3 ZiO Zso,
  Zc9,fnS Zcb "__init__" "Files.__init__" Zn2 ZoA Zm3 Zpy ZgP ZoX,
  Zda,fnS Zcc "find" "Files.find" Zn3 ZoB Zm4 Zpz ZgQ ZoY,
  Zc6,fnS Zb8 "read" "Files.read" ZnZ Zox Zm0 Zpv ZgM ZoU,
  Zc5,fnS Zb7 "stat" "Files.stat" ZnY Zow ZmZ Zpu ZgL ZoT,
  Zc7,fnS Zb9 "make" "Files.make" Zn0 Zoy Zm1 Zpw ZgN ZoV,
  Zc8,fnS Zca "link" "Files.link" Zn1 Zoz Zm2 Zpx ZgO ZoW,
  Zcw,fnS Zbm "write" "Files.write" Zkv ZkF Zj9 Zk4 Zfh ZkO,
  Zd3,fnS ZcK "cut" "Files.cut" Zsa Zsl Zrh Zs9 ZiU Zsu,
  ZZ,fnS ZS "check_changeable" "Files.check_changeable" ZbA ZbD Zby ZbF Zaq ZbE,
  Zbc,fnS Zau "turn_to" "Files.turn_to" Zhb Zhd Zg5 Zhj Zdk Zhf,
  Zgk,fnS ZcH "formatted" "formatted" Zr5 Zsg Zrc Zs4 ZiP Zsp,
  Zgo,fnS ZcJ "_law_cell" "_law_cell" Zr9 Zsk Zrg Zs8 ZiT Zst,
  ZeK,fnS Zb2 "_law_drawn" "_law_drawn" ZnT Zor ZmU Zpp ZgG ZoO,
  Zgl,fnS ZcI "_law_word" "_law_word" Zr6 Zsh Zrd Zs5 ZiQ Zsq,
  Zgm,fnS ZbJ "_law_told" "_law_told" Zr7 Zsi Zre Zs6 ZiR Zsr,
  ZcZ,fnS ZaY "_law_changed" "_law_changed" Ziq ZiD ZhY Zi7 Zea ZiI,
  Zgn,fnS ZbK "_law_deed" "_law_deed" Zr8 Zsj Zrf Zs7 ZiS Zss,
  fa,fnS ZI3 "law" "law" ZOG ZOJ ZOp ZOP ZMr ZOK,
  ZfU,
  Za6,
  Zed,
  Zee,
  ZbQ,
  Z9,
  ZE,
  Zn,
  ZH,
  ZG,
  ZM,
  Zy,
  Zq,
  Zw,
  Zx,
  ZF,
  Zv,
  ZhC,
  Zl3,
  Zl7,
  Zl4,
  Zxf,
  ZtW,
  Zq4,
  ZjZ,
  ZjY,
  ZOh,
  Zl2,
  Zq5,
  ZjX,
  Zq6,
  ZMJ,
  Zl6,
  ZtX,
  Zg3,
  Zj0,
  Zl5,
  ZKr⟩
 have T:Tx K mg g:=⟨mg_of X G ZRw,
  mg_of X G ZN3,
  mg_of X G ZP3,
  mg_of X G ZP4,
  mg_of X G ZP2,
  mg_of X G ZP5,
  mg_of X G ZL3,
  mg_of X G ZAU,
  mg_of X G ZL6,
  mg_of X G ZL5,
  mg_of X G ZN2,
  mg_of X G ZJS,
  mg_of X G ZGP,
  mg_of X G ZJQ,
  mg_of X G ZJR,
  mg_of X G ZL4,
  mg_of X G ZDW,
  ⟨ZPq,ZPY,ZPo,ZPi⟩,
  Zcp,
  Zfz,
  ⟨ZK9,ZLP,ZK0,ZKR⟩,
  ZaP,
  Zbz,
  Z7,
  ⟨ZNj,ZNM,ZNd,ZM6⟩,
  Z6,
  Zr,
  ⟨ZNk,ZNN,ZNe,ZM7⟩,
  Za0,
  Zdx,
  ⟨ZNi,ZNL,ZNc,ZM5⟩,
  ZaD,
  Zcg,
  Zcf,
  Zan,
  ⟨ZNl,ZNO,ZNf,ZM8⟩,
  ZQ,
  ZaE,
  Zco,
  Zdy,
  Zk (st:=ZbL) ZuY ZvN Zu8,
  (Zk (st:=ZbL) ZuY ZvN Zu8).binds (ps:=["self","count"]) fun _ _ _ _ _ _ us hl=>match us,hl with | [_,_],_=>rfl,
  ⟨ZGt,ZHh,ZGL,ZPS⟩,
  Zk (st:=Zcd) ZrM ZsS Zil,
  (Zk (st:=Zcd) ZrM ZsS Zil).binds (ps:=["self","number","block"]) fun _ _ _ _ _ _ us hl=>match us,hl with | [_,_,_],_=>rfl,
  ⟨ZEW,ZDM,Zil⟩,
  Zk (st:=ZaZ) Zkk ZkV Ze2,
  (Zk (st:=ZaZ) Zkk ZkV Ze2).binds (ps:=["self"]) fun _ _ _ _ _ _ us hl=>match us,hl with | [_],_=>rfl,
  ⟨Zw7,ZwY,Ze2⟩,
  Zk (st:=Zbk) Znx Zo6 ZnG,
  (Zk (st:=Zbk) Znx Zo6 ZnG).binds (ps:=["disk"]) fun _ _ _ _ _ _ us hl=>match us,hl with | [_],_=>rfl,
  mg_of X G ZBe,
  Zk (st:=Zb1) ZrA ZsG ZrX,
  (Zk (st:=Zb1) ZrA ZsG ZrX).binds (ps:=["length"]) fun _ _ _ _ _ _ us hl=>match us,hl with | [_],_=>rfl,
  mg_of X G ZEK,
  Zk (st:=Zam) Zkh ZkS Zkm,
  (Zk (st:=Zam) Zkh ZkS Zkm).binds (ps:=["count","places"]) fun _ _ _ _ _ _ us hl=>match us,hl with | [_,_],_=>rfl,
  mg_of X G Zw4,
  Zk (st:=Zbo) ZnB Zpa ZnI,
  (Zk (st:=Zbo) ZnB Zpa ZnI).binds (ps:=["self","free","older"]) fun _ _ _ _ _ _ us hl=>match us,hl with | [_,_,_],_=>rfl,
  ⟨ZuH,ZBi,ZAJ,ZLF⟩,
  Zk (st:=Zce) ZrN ZsT Zim,
  (Zk (st:=Zce) ZrN ZsT Zim).binds (ps:=["self","row"]) fun _ _ _ _ _ _ us hl=>match us,hl with | [_,_],_=>rfl,
  ⟨ZEX,ZDN,Zim⟩,
  Zk (st:=Zbn) ZnA Zo9 Zgc,
  (Zk (st:=Zbn) ZnA Zo9 Zgc).binds (ps:=["self","many"]) fun _ _ _ _ _ _ us hl=>match us,hl with | [_,_],_=>rfl,
  ⟨ZBh,ZAI,Zgc⟩,
  Zk (st:=ZaX) Zki ZkT Zkn,
  (Zk (st:=ZaX) Zki ZkT Zkn).binds (ps:=["row","numbers"]) fun _ _ _ _ _ _ us hl=>match us,hl with | [_,_],_=>rfl,
  mg_of X G Zw5,
  Zk (st:=ZdT) ZDl ZEj ZDu,
  (Zk (st:=ZdT) ZDl ZEj ZDu).binds (ps:=["text"]) fun _ _ _ _ _ _ us hl=>match us,hl with | [_],_=>rfl,
  mg_of X G ZMH,
  Zk (st:=ZdS) ZDk ZEi ZDt,
  (Zk (st:=ZdS) ZDk ZEi ZDt).binds (ps:=["text"]) fun _ _ _ _ _ _ us hl=>match us,hl with | [_],_=>rfl,
  mg_of X G ZMG,
  Zk (st:=ZbV) Zrt Zsz ZrQ,
  (Zk (st:=ZbV) Zrt Zsz ZrQ).binds (ps:=["path"]) fun _ _ _ _ _ _ us hl=>match us,hl with | [_],_=>rfl,
  mg_of X G ZED,
  Zk (st:=Zb5) ZrE ZsK Zr0,
  (Zk (st:=Zb5) ZrE ZsK Zr0).binds (ps:=["self","data","entries"]) fun _ _ _ _ _ _ us hl=>match us,hl with | [_,_,_],_=>rfl,
  ⟨Znn,ZEO,ZDE,ZNH⟩,
  Zk (st:=Zbh) Znt Zo2 ZnC,
  (Zk (st:=Zbh) Znt Zo2 ZnC).binds (ps:=[]) fun _ _ _ _ _ _ us hl=>match us,hl with | [],_=>rfl,
  mg_of X G ZBa,
  Zk (st:=Zbl) Zny Zo7 ZnH,
  (Zk (st:=Zbl) Zny Zo7 ZnH).binds (ps:=["state"]) fun _ _ _ _ _ _ us hl=>match us,hl with | [_],_=>rfl,
  mg_of X G ZBf,
  Zk (st:=ZdK) ZxD Zyg ZxI,
  (Zk (st:=ZdK) ZxD Zyg ZxI).binds (ps:=["state","number"]) fun _ _ _ _ _ _ us hl=>match us,hl with | [_,_],_=>rfl,
  mg_of X G ZJ4,
  Zk (st:=Zbj) Znv Zo4 ZnE,
  (Zk (st:=Zbj) Znv Zo4 ZnE).binds (ps:=["state","number"]) fun _ _ _ _ _ _ us hl=>match us,hl with | [_,_],_=>rfl,
  mg_of X G ZBc,
  Zk (st:=Zfu) ZDm ZEk ZDv,
  (Zk (st:=Zfu) ZDm ZEk ZDv).binds (ps:=["state","number"]) fun _ _ _ _ _ _ us hl=>match us,hl with | [_,_],_=>rfl,
  mg_of X G ZMI,
  Zk (st:=ZbX) Zrw ZsC ZrT,
  (Zk (st:=ZbX) Zrw ZsC ZrT).binds (ps:=["state"]) fun _ _ _ _ _ _ us hl=>match us,hl with | [_],_=>rfl,
  mg_of X G ZEG,
  Zk (st:=Zat) Zic ZiX Zie,
  (Zk (st:=Zat) Zic ZiX Zie).binds (ps:=["state"]) fun _ _ _ _ _ _ us hl=>match us,hl with | [_],_=>rfl,
  mg_of X G ZvW,
  Zk (st:=Zft) ZDj ZEh ZDs,
  (Zk (st:=Zft) ZDj ZEh ZDs).binds (ps:=["state","number"]) fun _ _ _ _ _ _ us hl=>match us,hl with | [_,_],_=>rfl,
  mg_of X G ZMF,
  Zk (st:=ZdJ) ZxC Zyf ZxH,
  (Zk (st:=ZdJ) ZxC Zyf ZxH).binds (ps:=["state","number"]) fun _ _ _ _ _ _ us hl=>match us,hl with | [_,_],_=>rfl,
  mg_of X G ZJ3,
  Zk (st:=Zfr) ZDh ZEf ZDq,
  (Zk (st:=Zfr) ZDh ZEf ZDq).binds (ps:=["state","number"]) fun _ _ _ _ _ _ us hl=>match us,hl with | [_,_],_=>rfl,
  mg_of X G ZMD,
  Zk (st:=Zad) ZfD ZfN ZfF,
  (Zk (st:=Zad) ZfD ZfN ZfF).binds (ps:=["state","number"]) fun _ _ _ _ _ _ us hl=>match us,hl with | [_,_],_=>rfl,
  mg_of X G ZqK,
  Zk (st:=Zxl) ZOB ZON ZOE,
  (Zk (st:=Zxl) ZOB ZON ZOE).binds (ps:=["state","names"]) fun _ _ _ _ _ _ us hl=>match us,hl with | [_,_],_=>rfl,
  mg_of X G ZRC,
  Zk (st:=Z2) ZdY Zec ZdZ,
  (Zk (st:=Z2) ZdY Zec ZdZ).binds (ps:=["state","path"]) fun _ _ _ _ _ _ us hl=>match us,hl with | [_,_],_=>rfl,
  mg_of X G ZlS,
  Zk (st:=Zb0) Zrz ZsF ZrW,
  (Zk (st:=Zb0) Zrz ZsF ZrW).binds (ps:=["path"]) fun _ _ _ _ _ _ us hl=>match us,hl with | [_],_=>rfl,
  mg_of X G ZEJ,
  Zk (st:=Zaj) Zg8 Zhg Zg9,
  (Zk (st:=Zaj) Zg8 Zhg Zg9).binds (ps:=["state","directory"]) fun _ _ _ _ _ _ us hl=>match us,hl with | [_,_],_=>rfl,
  mg_of X G Ztx,
  Zk (st:=ZbZ) Zry ZsE ZrV,
  (Zk (st:=ZbZ) Zry ZsE ZrV).binds (ps:=["state","path"]) fun _ _ _ _ _ _ us hl=>match us,hl with | [_,_],_=>rfl,
  mg_of X G ZEI,
  Zk (st:=ZcF) ZuQ ZvF Zu1,
  (Zk (st:=ZcF) ZuQ ZvF Zu1).binds (ps:=["state","number","row"]) fun _ _ _ _ _ _ us hl=>match us,hl with | [_,_,_],_=>rfl,
  mg_of X G ZG9,
  Zk (st:=ZaW) Zkg ZkR Zkl,
  (Zk (st:=ZaW) Zkg ZkR Zkl).binds (ps:=["state","number","entries"]) fun _ _ _ _ _ _ us hl=>match us,hl with | [_,_,_],_=>rfl,
  mg_of X G Zw3,
  Zk (st:=ZbT) Zrr Zsx ZrO,
  (Zk (st:=ZbT) Zrr Zsx ZrO).binds (ps:=["state","directory","name","number"]) fun _ _ _ _ _ _ us hl=>match us,hl with | [_,_,_,_],_=>rfl,
  mg_of X G ZEB,
  Zk (st:=Zxm) ZOC ZOO ZOF,
  (Zk (st:=Zxm) ZOC ZOO ZOF).binds (ps:=["state","path","kind"]) fun _ _ _ _ _ _ us hl=>match us,hl with | [_,_,_],_=>rfl,
  mg_of X G ZRD,
  Zk (st:=Zjy) ZHU ZIh ZHX,
  (Zk (st:=Zjy) ZHU ZIh ZHX).binds (ps:=["state","old","new"]) fun _ _ _ _ _ _ us hl=>match us,hl with | [_,_,_],_=>rfl,
  mg_of X G ZOf,
  Zk (st:=ZbW) Zrv ZsB ZrS,
  (Zk (st:=ZbW) Zrv ZsB ZrS).binds (ps:=["row","size"]) fun _ _ _ _ _ _ us hl=>match us,hl with | [_,_],_=>rfl,
  mg_of X G ZEF,
  Zk (st:=Zfq) ZDg ZEe ZDp,
  (Zk (st:=Zfq) ZDg ZEe ZDp).binds (ps:=["state","number","start","row"]) fun _ _ _ _ _ _ us hl=>match us,hl with | [_,_,_,_],_=>rfl,
  mg_of X G ZMC,
  Zk (st:=Zfs) ZDi ZEg ZDr,
  (Zk (st:=Zfs) ZDi ZEg ZDr).binds (ps:=["state","number","size"]) fun _ _ _ _ _ _ us hl=>match us,hl with | [_,_,_],_=>rfl,
  mg_of X G ZME,
  Zk (st:=Zb6) ZrF ZsL Zr1,
  (Zk (st:=Zb6) ZrF ZsL Zr1).binds (ps:=["self","places","heads"]) fun _ _ _ _ _ _ us hl=>match us,hl with | [_,_,_],_=>rfl,
  ⟨ZAv,ZEP,ZDF,ZNI⟩,
  Zk (st:=Za8) Zru ZsA ZrR,
  (Zk (st:=Za8) Zru ZsA ZrR).binds (ps:=["name"]) fun _ _ _ _ _ _ us hl=>match us,hl with | [_],_=>rfl,
  mg_of X G ZEE,
  Zk (st:=Zbi) Znu Zo3 ZnD,
  (Zk (st:=Zbi) Znu Zo3 ZnD).binds (ps:=["entries"]) fun _ _ _ _ _ _ us hl=>match us,hl with | [_],_=>rfl,
  mg_of X G ZBb,
  Zk (st:=ZbU) Zrs Zsy ZrP,
  (Zk (st:=ZbU) Zrs Zsy ZrP).binds (ps:=["state","chains"]) fun _ _ _ _ _ _ us hl=>match us,hl with | [_,_],_=>rfl,
  mg_of X G ZEC,
  Zk (st:=ZdL) ZxE Zyh ZxJ,
  (Zk (st:=ZdL) ZxE Zyh ZxJ).binds (ps:=["state","kept","free","older"]) fun _ _ _ _ _ _ us hl=>match us,hl with | [_,_,_,_],_=>rfl,
  mg_of X G ZJ5,
  Zk (st:=ZdM) ZxF Zyi ZxK,
  (Zk (st:=ZdM) ZxF Zyi ZxK).binds (ps:=["row"]) fun _ _ _ _ _ _ us hl=>match us,hl with | [_],_=>rfl,
  mg_of X G ZJ6,
  Zk (st:=ZaJ) Znw Zo5 ZnF,
  (Zk (st:=ZaJ) Znw Zo5 ZnF).binds (ps:=["rows"]) fun _ _ _ _ _ _ us hl=>match us,hl with | [_],_=>rfl,
  mg_of X G ZBd,
  Zk (st:=Zjx) ZHT ZIg ZHW,
  (Zk (st:=Zjx) ZHT ZIg ZHW).binds (ps:=["row","length"]) fun _ _ _ _ _ _ us hl=>match us,hl with | [_,_],_=>rfl,
  mg_of X G ZOe,
  Zk (st:=ZbY) Zrx ZsD ZrU,
  (Zk (st:=ZbY) Zrx ZsD ZrU).binds (ps:=["image","turn"]) fun _ _ _ _ _ _ us hl=>match us,hl with | [_,_],_=>rfl,
  mg_of X G ZEH,
  Zk (st:=Zb4) ZrD ZsJ ZrZ,
  (Zk (st:=Zb4) ZrD ZsJ ZrZ).binds (ps:=["self","disk","slot","turn","synced"]) fun _ _ _ _ _ _ us hl=>match us,hl with | [_,_,_,_,_],_=>rfl,
  ⟨ZAu,ZEN,ZDD,ZNG⟩,
  Zk (st:=Zae) ZfE ZfO ZcM,
  (Zk (st:=Zae) ZfE ZfO ZcM).binds (ps:=["self","state","kept"]) fun _ _ _ _ _ _ us hl=>match us,hl with | [_,_,_],_=>rfl,
  ⟨ZqL,Zqr,ZcM⟩,
  Zk (st:=Zb3) ZrC ZsI Zif,
  (Zk (st:=Zb3) ZrC ZsI Zif).binds (ps:=["self","image"]) fun _ _ _ _ _ _ us hl=>match us,hl with | [_,_],_=>rfl,
  ⟨ZEM,ZDC,Zif⟩,
  Zk (st:=ZcG) ZuR ZvG Zu2,
  (Zk (st:=ZcG) ZuR ZvG Zu2).binds (ps:=["disk"]) fun _ _ _ _ _ _ us hl=>match us,hl with | [_],_=>rfl,
  mg_of X G ZHa,
  Zk (st:=Zcb) ZrK ZsQ Zr2,
  (Zk (st:=Zcb) ZrK ZsQ Zr2).binds (ps:=["self","state","kept","store","image"]) fun _ _ _ _ _ _ us hl=>match us,hl with | [_,_,_,_,_],_=>rfl,
  ⟨ZAw,ZEU,ZDK,ZNJ⟩,
  Zk (st:=Zcc) ZrL ZsR Zik,
  (Zk (st:=Zcc) ZrL ZsR Zik).binds (ps:=["self","path"]) fun _ _ _ _ _ _ us hl=>match us,hl with | [_,_],_=>rfl,
  ⟨ZEV,ZDL,Zik⟩,
  Zk (st:=Zb8) ZrH ZsN Zih,
  (Zk (st:=Zb8) ZrH ZsN Zih).binds (ps:=["self","number","start","many"]) fun _ _ _ _ _ _ us hl=>match us,hl with | [_,_,_,_],_=>rfl,
  ⟨ZER,ZDH,Zih⟩,
  Zk (st:=Zb7) ZrG ZsM Zig,
  (Zk (st:=Zb7) ZrG ZsM Zig).binds (ps:=["self","number"]) fun _ _ _ _ _ _ us hl=>match us,hl with | [_,_],_=>rfl,
  ⟨ZEQ,ZDG,Zig⟩,
  Zk (st:=Zb9) ZrI ZsO Zii,
  (Zk (st:=Zb9) ZrI ZsO Zii).binds (ps:=["self","path","kind"]) fun _ _ _ _ _ _ us hl=>match us,hl with | [_,_,_],_=>rfl,
  ⟨ZES,ZDI,Zii⟩,
  Zk (st:=Zca) ZrJ ZsP Zij,
  (Zk (st:=Zca) ZrJ ZsP Zij).binds (ps:=["self","old","new"]) fun _ _ _ _ _ _ us hl=>match us,hl with | [_,_,_],_=>rfl,
  ⟨ZET,ZDJ,Zij⟩,
  Zk (st:=Zbm) Znz Zo8 Zgb,
  (Zk (st:=Zbm) Znz Zo8 Zgb).binds (ps:=["self","number","start","row"]) fun _ _ _ _ _ _ us hl=>match us,hl with | [_,_,_,_],_=>rfl,
  ⟨ZBg,ZAH,Zgb⟩,
  Zk (st:=ZcK) ZuX ZvM ZlC,
  (Zk (st:=ZcK) ZuX ZvM ZlC).binds (ps:=["self","number","size"]) fun _ _ _ _ _ _ us hl=>match us,hl with | [_,_,_],_=>rfl,
  ⟨ZHg,ZGK,ZlC⟩,
  Zk (st:=ZS) Zch Zci Zax,
  (Zk (st:=ZS) Zch Zci Zax).binds (ps:=["self"]) fun _ _ _ _ _ _ us hl=>match us,hl with | [_],_=>rfl,
  ⟨ZfT,ZfH,Zax⟩,
  Zk (st:=Zau) Zid ZiY Zd0,
  (Zk (st:=Zau) Zid ZiY Zd0).binds (ps:=["self","state","kept"]) fun _ _ _ _ _ _ us hl=>match us,hl with | [_,_,_],_=>rfl,
  ⟨ZvX,Zvj,Zd0⟩,
  Zk (st:=ZcH) ZuS ZvH Zu3,
  (Zk (st:=ZcH) ZuS ZvH Zu3).binds (ps:=["disk"]) fun _ _ _ _ _ _ us hl=>match us,hl with | [_],_=>rfl,
  mg_of X G ZHb,
  Zk (st:=ZcJ) ZuW ZvL Zu7,
  (Zk (st:=ZcJ) ZuW ZvL Zu7).binds (ps:=["_law_script","_law_k"]) fun _ _ _ _ _ _ us hl=>match us,hl with | [_,_],_=>rfl,
  mg_of X G ZHf,
  Zk (st:=Zb2) ZrB ZsH ZrY,
  (Zk (st:=Zb2) ZrB ZsH ZrY).binds (ps:=["_law_cell_here","_law_k"]) fun _ _ _ _ _ _ us hl=>match us,hl with | [_,_],_=>rfl,
  mg_of X G ZEL,
  Zk (st:=ZcI) ZuT ZvI Zu4,
  (Zk (st:=ZcI) ZuT ZvI Zu4).binds (ps:=["_law_e"]) fun _ _ _ _ _ _ us hl=>match us,hl with | [_],_=>rfl,
  mg_of X G ZHc,
  Zk (st:=ZbJ) ZuU ZvJ Zu5,
  (Zk (st:=ZbJ) ZuU ZvJ Zu5).binds (ps:=["_law_files","_law_deed_here"]) fun _ _ _ _ _ _ us hl=>match us,hl with | [_,_],_=>rfl,
  mg_of X G ZHd,
  Zk (st:=ZaY) Zkj ZkU Zko,
  (Zk (st:=ZaY) Zkj ZkU Zko).binds (ps:=["_law_held","_law_deed_here"]) fun _ _ _ _ _ _ us hl=>match us,hl with | [_,_],_=>rfl,
  mg_of X G Zw6,
  Zk (st:=ZbK) ZuV ZvK Zu6,
  (Zk (st:=ZbK) ZuV ZvK Zu6).binds (ps:=["_law_cell_here","_law_more","_law_number","_law_size"]) fun _ _ _ _ _ _ us hl=>match us,hl with | [_,_,_,_],_=>rfl,
  mg_of X G ZHe,
  Zk (st:=ZI3) ZRb ZRz ZRj,
  (Zk (st:=ZI3) ZRb ZRz ZRj).binds (ps:=["_law_script"]) fun _ _ _ _ _ _ us hl=>match us,hl with | [_],_=>rfl,
  mg_of X G ZRE,
  ⟨ZIu⟩,
  ⟨Zwc⟩,
  ⟨ZIx⟩,
  ⟨ZIw⟩,
  ⟨ZKb⟩,
  ⟨ZFL⟩,
  ⟨ZBO⟩,
  ⟨ZFJ⟩,
  ⟨ZFK⟩,
  ⟨ZIv⟩,
  ⟨ZNs,xgg,xtk,ZNq,ZNr⟩,
  fun r=>by cases r with | noThing=>exact ⟨ZFt,ZFp,ZFF,ZFl,ZFM,congrArg Option.isSome ZFx,xgg,xtk⟩ | noDirectory=>exact ⟨ZtM,ZtL,ZtP,ZtK,ZtQ,congrArg Option.isSome ZtN,xgg,xtk⟩ | badName=>exact ⟨ZFw,ZFs,ZFI,ZFo,ZFP,congrArg Option.isSome ZFA,xgg,xtk⟩ | isThere=>exact ⟨ZFv,ZFr,ZFH,ZFn,ZFO,congrArg Option.isSome ZFz,xgg,xtk⟩ | noRoom=>exact ⟨ZIq,ZIp,ZIt,ZIo,ZIy,congrArg Option.isSome ZIr,xgg,xtk⟩ | notEmpty=>exact ⟨ZBE,ZBB,ZBN,ZBy,ZBR,congrArg Option.isSome ZBH,xgg,xtk⟩ | wrongKind=>exact ⟨Zyz,Zyy,ZyC,Zyx,ZyD,congrArg Option.isSome ZyA,xgg,xtk⟩ | tooGreat=>exact ⟨ZBC,ZBz,ZBL,ZBw,ZBP,congrArg Option.isSome ZBF,xgg,xtk⟩ | readOnly=>exact ⟨ZBD,ZBA,ZBM,ZBx,ZBQ,congrArg Option.isSome ZBG,xgg,xtk⟩ | noFiles=>exact ⟨ZFu,ZFq,ZFG,ZFm,ZFN,congrArg Option.isSome ZFy,xgg,xtk⟩,
  fun r u=>by cases r with | noThing=>(cases u with | noThing=>exact ZpS | noDirectory=>exact ZhN | badName=>exact ZpV | isThere=>exact ZpU | noRoom=>exact Zti | notEmpty=>exact Zmz | wrongKind=>exact Zls | tooGreat=>exact Zmx | readOnly=>exact Zmy | noFiles=>exact ZpT) | noDirectory=>(cases u with | noThing=>exact ZhP | noDirectory=>exact ZeZ | badName=>exact ZhS | isThere=>exact ZhR | noRoom=>exact ZjT | notEmpty=>exact Zhs | wrongKind=>exact Zf3 | tooGreat=>exact Zhq | readOnly=>exact Zhr | noFiles=>exact ZhQ) | badName=>(cases u with | noThing=>exact Zp7 | noDirectory=>exact ZhU | badName=>exact Zqa | isThere=>exact Zp9 | noRoom=>exact Ztp | notEmpty=>exact ZmJ | wrongKind=>exact Zlv | tooGreat=>exact ZmH | readOnly=>exact ZmI | noFiles=>exact Zp8) | isThere=>(cases u with | noThing=>exact Zp3 | noDirectory=>exact ZhT | badName=>exact Zp6 | isThere=>exact Zp5 | noRoom=>exact Zto | notEmpty=>exact ZmG | wrongKind=>exact Zlu | tooGreat=>exact ZmE | readOnly=>exact ZmF | noFiles=>exact Zp4) | noRoom=>(cases u with | noThing=>exact Ztj | noDirectory=>exact ZjS | badName=>exact Ztm | isThere=>exact Ztl | noRoom=>exact Zud | notEmpty=>exact ZpY | wrongKind=>exact ZmA | tooGreat=>exact ZpW | readOnly=>exact ZpX | noFiles=>exact Ztk) | notEmpty=>(cases u with | noThing=>exact Zmt | noDirectory=>exact Zhp | badName=>exact Zmw | isThere=>exact Zmv | noRoom=>exact ZpR | notEmpty=>exact Zlr | wrongKind=>exact ZjR | tooGreat=>exact Zlp | readOnly=>exact Zlq | noFiles=>exact Zmu) | wrongKind=>(cases u with | noThing=>exact Zlf | noDirectory=>exact Zf2 | badName=>exact Zli | isThere=>exact Zlh | noRoom=>exact Zmk | notEmpty=>exact ZjO | wrongKind=>exact ZhM | tooGreat=>exact ZjM | readOnly=>exact ZjN | noFiles=>exact Zlg) | tooGreat=>(cases u with | noThing=>exact Zml | noDirectory=>exact Zhn | badName=>exact Zmo | isThere=>exact Zmn | noRoom=>exact ZpP | notEmpty=>exact Zll | wrongKind=>exact ZjP | tooGreat=>exact Zlj | readOnly=>exact Zlk | noFiles=>exact Zmm) | readOnly=>(cases u with | noThing=>exact Zmp | noDirectory=>exact Zho | badName=>exact Zms | isThere=>exact Zmr | noRoom=>exact ZpQ | notEmpty=>exact Zlo | wrongKind=>exact ZjQ | tooGreat=>exact Zlm | readOnly=>exact Zln | noFiles=>exact Zmq) | noFiles=>(cases u with | noThing=>exact ZpZ | noDirectory=>exact ZhO | badName=>exact Zp2 | isThere=>exact Zp1 | noRoom=>exact Ztn | notEmpty=>exact ZmD | wrongKind=>exact Zlt | tooGreat=>exact ZmB | readOnly=>exact ZmC | noFiles=>exact Zp0),
  fun r=>by cases r with | noThing=>exact ZJb | noDirectory=>exact Zwu | badName=>exact ZJe | isThere=>exact ZJd | noRoom=>exact ZKV | notEmpty=>exact ZGb | wrongKind=>exact ZCv | tooGreat=>exact ZF9 | readOnly=>exact ZGa | noFiles=>exact ZJc,
  fun r=>by cases r with | noThing=>exact ZI7 | noDirectory=>exact Zwt | badName=>exact ZJa | isThere=>exact ZI9 | noRoom=>exact ZKU | notEmpty=>exact ZF8 | wrongKind=>exact ZCu | tooGreat=>exact ZF6 | readOnly=>exact ZF7 | noFiles=>exact ZI8,
  ⟨ZyH,congrArg Option.isSome Zwa,ZA1⟩,
  fun r=>by cases r with | noThing=>exact ZhH | noDirectory=>exact ZeX | badName=>exact ZhK | isThere=>exact ZhJ | noRoom=>exact ZjL | notEmpty=>exact Zhm | wrongKind=>exact Zf0 | tooGreat=>exact Zhk | readOnly=>exact Zhl | noFiles=>exact ZhI,
  mg_of X G Zd1,
  mg_of X G Zdz,
  mg_of X G Zct,
  mg_of X G Zgf,
  mg_of X G ZjD,
  mg_of X G ZbO,
  mg_of X G Zey,
  mg_of X G ZcV,
  mg_of X G Ze5,
  mg_of X G ZH1,
  mg_of X G Zge,
  mg_of X G Zez,
  mg_of X G Ze4,
  mg_of X G Ziv,
  mg_of X G ZLS,
  fun H=>.inr ⟨_,_,_,ZPL,rfl,rfl,(by show 4≤sizeLine;decide),(.cons ⟨ZHx,rfl⟩ (.cons ⟨ZHw,rfl⟩ (.cons ⟨ZHv,rfl⟩ (.cons ⟨ZHu,rfl⟩ .nil))))⟩,
  mg_of X G Zgg,
  mg_of X G ZlD,
  mg_of X G Zdh,
  mg_of X G Ze6,
  mg_of X G ZdA,
  mg_of X G ZAO,
  mg_none_of X G Zlc,
  mg_none_of X G ZMK,
  mg_none_of X G Zbv,
  mg_none_of X G ZtJ,
  mg_none_of X G Zld,
  mg_none_of X G ZML,
  mg_none_of X G ZlZ,
  mg_none_of X G Zq2,
  mg_none_of X G ZBv,
  mg_none_of X G ZOY,
  mg_none_of X G ZOX,
  mg_none_of X G ZT,
  mg_none_of X G Zhu,
  mg_none_of X G ZKa⟩
 refine ⟨g.ZNE,fun s v=>.of_eq rfl,fun base _ _=>?_⟩
 exact ZQ5 T
theorem walk {l:OpenLaw} {q:Program} {loose:List Str} {XP:(Str→Option Value)→Heap→Prop} {YP:World→Heap→Prop} {d:DefRec} {K:Params→Frag} (hn:l.most=some 63) (hdf:d.params.defaults=[])
  (hY:∀ (w:World) (h:Heap),YP w h→(K w.params).In h)
  (F:∀ (w:World) (mg:Str→Option Value) (fa:Addr) (h:Heap),(K w.params).In h→h.Ns mainGlobals mg→mg d.name=some (.ref fa)→
   ∃ fd:FuncData,(∀ (s:Shared) (u:Value),BindsTo s fd ⟨[u],[]⟩ [("_law_script",u)])∧∀ base:Heap,(K w.params).In base→base.Ns mainGlobals mg→FnOk l.prog w (K w.params) mg base CX0 10 fa fd ["_law_script"] (ZMX (K w.params))) :
  WalkO q loose XP YP l.row.toRowW d [] (fun f vs=>PySem.call f vs):=
 L2.ZOZ (n:=63) (k:=10) (x:="_law_script") (CX:=fun _=>CX0) (sp:=fun w=>ZMX (K w.params)) hn (by decide) hdf ⟨rfl,by decide,by decide⟩ hY F (fun _ _ a ns hl _ hS=>⟨a,ns,rfl,hS,hl,fun _=>rfl⟩) fun _ _ _ _ _ z=>z
end KS
namespace PySem.W.Fast
abbrev tw14755397551067594784:=0
abbrev tw10694915451780416544:=0
abbrev tw15969833743537113152:=0
abbrev tw8523812263376825408:=0
abbrev tw5226790788671075424:=0
abbrev tw16001153982208375008:=0
abbrev tw18023357702067219744:=0
abbrev tw5219370264739010912:=0
abbrev tw8979164782437646720:=0
abbrev tw1233898831409573280:=0
abbrev tw9400135279319243200:=0
abbrev tw6331646689207369184:=0
abbrev tw9238395038958682624:=0
abbrev tw16191009047784125952:=0
abbrev tw8078402976315316800:=0
abbrev tw7291327710179101280:=0
abbrev tw15401435857771694784:=0
abbrev tw743216231055232736:=0
abbrev tw9799408694075049696:=0
abbrev tw15815635290806920960:=0
abbrev tw16890170102526341920:=0
abbrev tw8688901939538769728:=0
abbrev tw13301522589207158624:=0
abbrev tw10680434045481672576:=0
abbrev tw3590416917239136160:=0
abbrev tw11785891887912196000:=0
abbrev tw15071030483111316416:=0
abbrev tw18095796016851043329:=0
abbrev tw10985716437745305633:=0
abbrev tw6611767611887682689:=0
abbrev tw4945565895854107777:=0
abbrev tw7821731776997073057:=0
abbrev tw12109447636515579073:=0
abbrev tw4553309727082054913:=0
abbrev tw18064561119900438817:=0
abbrev tw16118813736964442465:=0
abbrev tw7750877404832044417:=0
abbrev tw4929960440012221825:=0
abbrev tw3878980318007457153:=0
abbrev tw15665214446137835937:=0
abbrev tw11343854987320795585:=0
abbrev tw10203465040622718433:=0
abbrev tw1210129953772577281:=0
abbrev tw1758905495136243297:=0
abbrev tw15082262580943755873:=0
abbrev tw12177318587798435489:=0
abbrev tw5883094876054716065:=0
abbrev tw1433242482527204033:=0
abbrev tw9579034687649609473:=0
abbrev tw15436756797441049345:=0
abbrev tw2339140341741763393:=0
abbrev tw7204859517150711681:=0
abbrev tw10655257043754998689:=0
abbrev tw197895022156986273:=0
abbrev tw12787509950128840641:=0
abbrev tw16195196436622614562:=0
abbrev tw8204451154326646882:=0
abbrev tw13419390592499052738:=0
abbrev tw11113727635134002402:=0
abbrev tw15106637041047092450:=0
abbrev tw2405365226772448546:=0
abbrev tw15407314839521109346:=0
abbrev tw4127295758264341922:=0
abbrev tw6873354393167239586:=0
abbrev tw4587348013692734914:=0
abbrev tw13858019394739556834:=0
abbrev tw7455369886547033602:=0
abbrev tw10144079269158773378:=0
abbrev tw9277605547360383618:=0
abbrev tw12916893812178081442:=0
abbrev tw10023130181415654050:=0
abbrev tw15524697411319977666:=0
abbrev tw4990375579561217762:=0
abbrev tw7731228299876080450:=0
abbrev tw7968958169791383587:=0
abbrev tw10379832970256309283:=0
abbrev tw9916549213432901699:=0
abbrev tw4734575705926853731:=0
abbrev tw14490671500057440355:=0
abbrev tw5688732326909915363:=0
abbrev tw805561810329407747:=0
abbrev tw2573542674536675587:=0
abbrev tw12253778806045762819:=0
abbrev tw9123795727785533731:=0
abbrev tw3074855054054282531:=0
abbrev tw2327836403340930371:=0
abbrev tw16717506265331966307:=0
abbrev tw2990414665574869379:=0
abbrev tw18414485561285498339:=0
abbrev tw6140072925993611779:=0
abbrev tw17476958014134912515:=0
abbrev tw7215664631787019875:=0
abbrev tw7992290991440686723:=0
abbrev tw6450986148589440675:=0
abbrev tw1102541227206246083:=0
abbrev tw9306546084082319075:=0
abbrev tw16066359017436224323:=0
abbrev tw15127707221292045123:=0
abbrev tw12480323928953643843:=0
abbrev tw11229704190522785699:=0
abbrev tw2742576760045261763:=0
abbrev tw5786713646080205828:=0
abbrev tw13965617373118331908:=0
abbrev tw3631086913129860132:=0
abbrev tw16738703345786622020:=0
abbrev tw17966673712815916100:=0
abbrev tw1176562795120353412:=0
abbrev tw18116089119291784484:=0
abbrev tw4486714076129276324:=0
abbrev tw13569691727784137156:=0
abbrev tw4527400580798113284:=0
abbrev tw5756385815611729508:=0
abbrev tw2016883456430040676:=0
abbrev tw15957442792231762564:=0
abbrev tw17328682440184496804:=0
abbrev tw6088667497026096836:=0
abbrev tw9962893600001740484:=0
abbrev tw7336878852878986948:=0
abbrev tw202922419150557924:=0
abbrev tw4001009884075524900:=0
abbrev tw14528631438899794756:=0
abbrev tw1270891115764299620:=0
abbrev tw10199138620343999332:=0
abbrev tw15208669473163120516:=0
abbrev tw499540909626836868:=0
abbrev tw8685367158921232324:=0
abbrev tw8525166254170391557:=0
abbrev tw3368897132646036517:=0
abbrev tw2933245339000531013:=0
abbrev tw9872192301324419173:=0
abbrev tw15796108777019459685:=0
abbrev tw1562212375569233157:=0
abbrev tw8776882753243005253:=0
abbrev tw6781408052001111365:=0
abbrev tw4339485453479017797:=0
abbrev tw10450243590131289445:=0
abbrev tw14570592902428867045:=0
abbrev tw13151167598776273445:=0
abbrev tw5649754850010143301:=0
abbrev tw17973553165228860101:=0
abbrev tw2131759404751790853:=0
abbrev tw7611659483831967525:=0
abbrev tw7410321294524919621:=0
abbrev tw10196503242726078470:=0
abbrev tw4270451046660264006:=0
abbrev tw456162907801932870:=0
abbrev tw15193698708931567718:=0
abbrev tw804690518195801222:=0
abbrev tw7983494280141709446:=0
abbrev tw8115350684467568774:=0
abbrev tw11999880180611552518:=0
abbrev tw7161120985055552774:=0
abbrev tw12662914902707221830:=0
abbrev tw18141066193741788486:=0
abbrev tw4614863271060399462:=0
abbrev tw11592252186613890598:=0
abbrev tw13390629441266810406:=0
abbrev tw15753211799913309734:=0
abbrev tw5960479777715362374:=0
abbrev tw16052116117983174214:=0
abbrev tw15599465475735809606:=0
abbrev tw3377529277076895302:=0
abbrev tw5612847083310494374:=0
abbrev tw12175995060958089926:=0
abbrev tw10569391723050521350:=0
abbrev tw4748530774133188390:=0
abbrev tw13725603931457248102:=0
abbrev tw15276539487159219110:=0
abbrev tw16483227168019418054:=0
abbrev tw16836370002049815494:=0
abbrev tw11089054341969568710:=0
abbrev tw4643916938165398502:=0
abbrev tw17160609001400013863:=0
abbrev tw8616204223093730375:=0
abbrev tw2003592206490982503:=0
abbrev tw4070783060283129031:=0
abbrev tw4064959398344464711:=0
abbrev tw955821108397975879:=0
abbrev tw11030444746623780327:=0
abbrev tw8328393005427965639:=0
abbrev tw12442560360098786023:=0
abbrev tw133551307424820967:=0
abbrev tw5955349525646797575:=0
abbrev tw15887702857973531431:=0
abbrev tw11403416602226499367:=0
abbrev tw11528776426989597479:=0
abbrev tw14609922034998227911:=0
abbrev tw9416591241443445735:=0
abbrev tw14764801962142353383:=0
abbrev tw2421426999732104232:=0
abbrev tw8353147940853724232:=0
abbrev tw13277009393714126920:=0
abbrev tw9744390437296026728:=0
abbrev tw2119770632279863432:=0
abbrev tw5979992639239559304:=0
abbrev tw10758126842353166472:=0
abbrev tw6725603986376933544:=0
abbrev tw10939539398624403624:=0
abbrev tw15002041264159037640:=0
abbrev tw2045814500353682664:=0
abbrev tw5375179937825903848:=0
abbrev tw2237538456949144872:=0
abbrev tw688101070472357192:=0
abbrev tw9669626371046721896:=0
abbrev tw1347759518940380552:=0
abbrev tw5602467530892314024:=0
abbrev tw16105284922609778088:=0
abbrev tw8492335514147255752:=0
abbrev tw7227497549792382440:=0
abbrev tw16401102973639999976:=0
abbrev tw17315210157596342760:=0
abbrev tw17478638761035283976:=0
abbrev tw18103960701660975624:=0
abbrev tw2235552982227251720:=0
abbrev tw4591387430324729352:=0
abbrev tw5686830932506497608:=0
abbrev tw11484974509146037832:=0
abbrev tw1686489075905623624:=0
abbrev tw7188451987782317672:=0
abbrev tw14946004541180464744:=0
abbrev tw1293965176361026248:=0
abbrev tw11828424509387774664:=0
abbrev tw8847611814674914024:=0
abbrev tw9131304154817131240:=0
abbrev tw17791845816765332232:=0
abbrev tw2757963881481432872:=0
abbrev tw8672432313876323144:=0
abbrev tw8051367049519537992:=0
abbrev tw12144940085677877064:=0
abbrev tw4393328996034268072:=0
abbrev tw10991436700264278984:=0
abbrev tw13479094756084662216:=0
abbrev tw17014453098480936936:=0
abbrev tw4943665985456454632:=0
abbrev tw9268258725676715049:=0
abbrev tw1622525408850730057:=0
abbrev tw17109971352121307209:=0
abbrev tw4009611064846631017:=0
abbrev tw7288812511234772201:=0
abbrev tw14715096441079901449:=0
abbrev tw18265131283778751753:=0
abbrev tw11669894676004133193:=0
abbrev tw1799762365049379177:=0
abbrev tw12362831256077382025:=0
abbrev tw10199070858311117289:=0
abbrev tw14990041616768067049:=0
abbrev tw1734936670089137737:=0
abbrev tw3964701870563797641:=0
abbrev tw10976997080167077545:=0
abbrev tw4079383429472624329:=0
abbrev tw8744122705364259593:=0
abbrev tw17099482082445211401:=0
abbrev tw1575377019719794473:=0
abbrev tw3972547951703358281:=0
abbrev tw1574437828078836585:=0
abbrev tw5138145594958424969:=0
abbrev tw2969591104721696745:=0
abbrev tw6283007294910124042:=0
abbrev tw892165523596171274:=0
abbrev tw2609755518609817674:=0
abbrev tw4623732541693053130:=0
abbrev tw4349256743566368970:=0
abbrev tw10436329901626813642:=0
abbrev tw12119065822111923402:=0
abbrev tw13730623888783464810:=0
abbrev tw10047062228245197290:=0
abbrev tw11095377824368613866:=0
abbrev tw10715579441814652426:=0
abbrev tw15900057300498609706:=0
abbrev tw18357417946518165162:=0
abbrev tw2410468550324719338:=0
abbrev tw6123817122226448106:=0
abbrev tw8552057066558859018:=0
abbrev tw14031470854636148586:=0
abbrev tw17465075571784543082:=0
abbrev tw689387327375309770:=0
abbrev tw1997822943591749578:=0
abbrev tw14896974876847923211:=0
abbrev tw10120063305980341323:=0
abbrev tw17584293905243675755:=0
abbrev tw11956725402977810571:=0
abbrev tw5438430538564849803:=0
abbrev tw17219940681495674059:=0
abbrev tw5533315804323428587:=0
abbrev tw4022959557044629771:=0
abbrev tw5199589090172658987:=0
abbrev tw14104199304091538891:=0
abbrev tw13231416199176966603:=0
abbrev tw2379342489560535531:=0
abbrev tw14402466184677152235:=0
abbrev tw17177377358339629547:=0
abbrev tw7798129659223799307:=0
abbrev tw4562721173937332779:=0
abbrev tw17947893723574470251:=0
abbrev tw8390326186770921067:=0
abbrev tw15945433781466276491:=0
abbrev tw13334055318777948843:=0
abbrev tw2479626191571970763:=0
abbrev tw16406403589033734891:=0
abbrev tw9881198455430958891:=0
abbrev tw8686387303490479979:=0
abbrev tw18248904363941172107:=0
abbrev tw14688348765618026443:=0
abbrev tw8430650058518976459:=0
abbrev tw11330449689112622252:=0
abbrev tw14794846528452796588:=0
abbrev tw4948511961000551660:=0
abbrev tw12895148432709414124:=0
abbrev tw18235725504873001196:=0
abbrev tw1400281203958625580:=0
abbrev tw5963384930516368748:=0
abbrev tw7205873614692209036:=0
abbrev tw5791986157728554412:=0
abbrev tw14115935378265235884:=0
abbrev tw2516981469359265292:=0
abbrev tw6818194295558260460:=0
abbrev tw1080342962743004908:=0
abbrev tw6061188473949023052:=0
abbrev tw4439153491852045164:=0
abbrev tw4786662200324940780:=0
abbrev tw9674657906847518733:=0
abbrev tw4008933048766534669:=0
abbrev tw6073541628717709325:=0
abbrev tw6627488092209103885:=0
abbrev tw10185319228930808845:=0
abbrev tw6661164408315514989:=0
abbrev tw6917492939660956941:=0
abbrev tw1824871167322953997:=0
abbrev tw3633223950013212941:=0
abbrev tw14520878873510265133:=0
abbrev tw9226725870774069645:=0
abbrev tw12964450520443872685:=0
abbrev tw12286150048444631469:=0
abbrev tw2391503700615162413:=0
abbrev tw15855330287984160333:=0
abbrev tw6260476969446275693:=0
abbrev tw105362143399146125:=0
abbrev tw11610183845691435661:=0
abbrev tw5615830431418682029:=0
abbrev tw8357587513776912045:=0
abbrev tw5671563559134655213:=0
abbrev tw6980000302127443757:=0
abbrev tw949621546784705357:=0
abbrev tw12434371078736809837:=0
abbrev tw13019117703550980973:=0
abbrev tw10492525102667733933:=0
abbrev tw2176636989520193453:=0
abbrev tw8148163042506132397:=0
abbrev tw15124548113845961677:=0
abbrev tw2398942248024043469:=0
abbrev tw7723395050679955405:=0
abbrev tw12969944276632662989:=0
abbrev tw3430925205623263246:=0
abbrev tw14070312621424865294:=0
abbrev tw14366248757626220622:=0
abbrev tw12879334770955591854:=0
abbrev tw2997496449233564846:=0
abbrev tw4765677448351465710:=0
abbrev tw13656391586418144526:=0
abbrev tw18078461238856298798:=0
abbrev tw3448379781909644622:=0
abbrev tw2882087605662681454:=0
abbrev tw407801139598210414:=0
abbrev tw14663181675451057614:=0
abbrev tw6261555988579864014:=0
abbrev tw12240638704779032046:=0
abbrev tw12228977150115827182:=0
abbrev tw16462324598275357198:=0
abbrev tw900635927957648942:=0
abbrev tw7989273263654683182:=0
abbrev tw9246849698831650382:=0
abbrev tw3322975398427183758:=0
abbrev tw7335474852629294766:=0
abbrev tw6155188243062803118:=0
abbrev tw9003775117756557134:=0
abbrev tw4703061069916665710:=0
abbrev tw2309589378990771182:=0
abbrev tw14456482628428403694:=0
abbrev tw5948113435898217519:=0
abbrev tw1741750373380806703:=0
abbrev tw14181227983508686959:=0
abbrev tw10326018722008290415:=0
abbrev tw11671952413059948719:=0
abbrev tw12030347801599652047:=0
abbrev tw3459041697035714799:=0
abbrev tw11679648878295264495:=0
abbrev tw12064449252655488239:=0
abbrev tw6044073031435025647:=0
abbrev tw9651809281973071119:=0
abbrev tw5801475767398646031:=0
abbrev tw9430833983050926351:=0
abbrev tw14539516158546932015:=0
abbrev tw9639457356899058127:=0
abbrev tw832869607744413135:=0
abbrev tw3537399011900727759:=0
abbrev tw177798691163475439:=0
abbrev tw5996207066594328079:=0
abbrev tw6118985243784244751:=0
abbrev tw2050065976443342447:=0
abbrev tw17169485731392749199:=0
abbrev tw14334778598360041167:=0
abbrev tw5235097274740083439:=0
abbrev tw10476178019965438735:=0
abbrev tw9739725524719067951:=0
abbrev tw13778291595440417583:=0
abbrev tw12937069185238680399:=0
abbrev tw14153970480731343727:=0
abbrev tw6014311760029115311:=0
abbrev tw1873503024355335119:=0
abbrev tw6345769020015837200:=0
abbrev tw6973585277436336144:=0
abbrev tw5957816787296206864:=0
abbrev tw15666780946296641584:=0
abbrev tw2245428053619671120:=0
abbrev tw11024167341686255696:=0
abbrev tw5573032870759523440:=0
abbrev tw9404008663295634640:=0
abbrev tw10125944237979769072:=0
abbrev tw16818287956477819120:=0
abbrev tw17527049447713894640:=0
abbrev tw12116972344664053040:=0
abbrev tw2747374595849190704:=0
abbrev tw7782713154065205584:=0
abbrev tw7013205608725510544:=0
abbrev tw17259475134312139152:=0
abbrev tw11255284837964157360:=0
abbrev tw13056590977713524208:=0
abbrev tw2609438327180201584:=0
abbrev tw3586522049099364080:=0
abbrev tw4642949466530234192:=0
abbrev tw3554708847875544944:=0
abbrev tw7933531163444299664:=0
abbrev tw10339113291686909936:=0
abbrev tw2365652482009090032:=0
abbrev tw9908579815527282769:=0
abbrev tw3116079229052485713:=0
abbrev tw15902600008706243729:=0
abbrev tw4072799821810777265:=0
abbrev tw7938946722436277425:=0
abbrev tw13013008562593200305:=0
abbrev tw12703318560715377905:=0
abbrev tw2890740846942121201:=0
abbrev tw7356163523747974417:=0
abbrev tw15626344160190765329:=0
abbrev tw683418387756777809:=0
abbrev tw6519504918967197009:=0
abbrev tw4567732571196296561:=0
abbrev tw8829231818172017233:=0
abbrev tw11165971497104583249:=0
abbrev tw14003618717724985937:=0
abbrev tw17494183837326474833:=0
abbrev tw14894445101629433521:=0
abbrev tw9307405080133650129:=0
abbrev tw17812697668188964593:=0
abbrev tw13167837007377589009:=0
abbrev tw3219353944019932977:=0
abbrev tw4071966227816528689:=0
abbrev tw688164551191195473:=0
abbrev tw7897900258626305873:=0
abbrev tw15772167048961454993:=0
abbrev tw16177822741599317937:=0
abbrev tw14915175355411289009:=0
abbrev tw15658983559437166545:=0
abbrev tw18135463654848535570:=0
abbrev tw12278920035040614418:=0
abbrev tw7744871386151279634:=0
abbrev tw1647395142765283442:=0
abbrev tw11817713761587930258:=0
abbrev tw15405593639728642194:=0
abbrev tw10952574834393286834:=0
abbrev tw1633129309293292754:=0
abbrev tw18433072486365722834:=0
abbrev tw9224408316082739506:=0
abbrev tw1201085014681280882:=0
abbrev tw10918160327289092498:=0
abbrev tw15212144295511271858:=0
abbrev tw9867193202983336370:=0
abbrev tw18060470387070892498:=0
abbrev tw3245179687993626162:=0
abbrev tw14030272069266872914:=0
abbrev tw15773186526739537490:=0
abbrev tw1178034674641522258:=0
abbrev tw4993856955884383922:=0
abbrev tw18097689049692918546:=0
abbrev tw329441301383270194:=0
abbrev tw15509981150298892114:=0
abbrev tw3394446910032943986:=0
abbrev tw16331104538327428018:=0
abbrev tw15035321719561435090:=0
abbrev tw1541180643970637778:=0
abbrev tw8579257165630121970:=0
abbrev tw7821669413557492722:=0
abbrev tw2290126138428035091:=0
abbrev tw14008552950135475219:=0
abbrev tw5677345235747896499:=0
abbrev tw3321274936119303507:=0
abbrev tw6791664996860908979:=0
abbrev tw1231609015224767987:=0
abbrev tw12302527438230742515:=0
abbrev tw4070895964667798067:=0
abbrev tw1631561950586038867:=0
abbrev tw8588581277314161267:=0
abbrev tw6621881527936634515:=0
abbrev tw5690288279939957427:=0
abbrev tw5583046611266265779:=0
abbrev tw17270774490348448435:=0
abbrev tw7999580213342477011:=0
abbrev tw7670171334534348531:=0
abbrev tw14258291816021613459:=0
abbrev tw7057296263797931923:=0
abbrev tw2411049060694943667:=0
abbrev tw15440961655510942804:=0
abbrev tw5680909979089711252:=0
abbrev tw366885816471711924:=0
abbrev tw2285247016578237652:=0
abbrev tw5936892904343263444:=0
abbrev tw7379443651475449076:=0
abbrev tw13652053921768727796:=0
abbrev tw14116099342405393716:=0
abbrev tw12893631464082553204:=0
abbrev tw9877547073237534068:=0
abbrev tw10246565861542557044:=0
abbrev tw3319179567047539188:=0
abbrev tw6516735185351505492:=0
abbrev tw522761546407688820:=0
abbrev tw59838306284932788:=0
abbrev tw5603208618037954324:=0
abbrev tw7786816330859579188:=0
abbrev tw10053139574317908980:=0
abbrev tw14648542192428786709:=0
abbrev tw3537166600645788725:=0
abbrev tw8140100932901794901:=0
abbrev tw13446165692012230773:=0
abbrev tw390965017218022517:=0
abbrev tw13865924666976923893:=0
abbrev tw6130194503722037525:=0
abbrev tw800296106040884501:=0
abbrev tw723353157155218741:=0
abbrev tw16700498456420117909:=0
abbrev tw10472480909470043541:=0
abbrev tw9174183091566118421:=0
abbrev tw12537145216617020021:=0
abbrev tw2628767683885537941:=0
abbrev tw16563206412544765589:=0
abbrev tw12703166598019974901:=0
abbrev tw16842677144296143637:=0
abbrev tw1962517099885711125:=0
abbrev tw2900787329939864469:=0
abbrev tw16628655676356756373:=0
abbrev tw10005386755164431285:=0
abbrev tw11111054993075669973:=0
abbrev tw7539765097217564661:=0
abbrev tw9877721717777231861:=0
abbrev tw6810435697903403030:=0
abbrev tw1730444500264320022:=0
abbrev tw4194829480068456502:=0
abbrev tw1004574687640493110:=0
abbrev tw3240394557151359126:=0
abbrev tw11608017298171676854:=0
abbrev tw7980924849170246870:=0
abbrev tw13410520993881181430:=0
abbrev tw6415940266704334102:=0
abbrev tw16020098740004141398:=0
abbrev tw11815082130626972054:=0
abbrev tw4670855405647684022:=0
abbrev tw6969884112450306518:=0
abbrev tw1460037383669999190:=0
abbrev tw18292080643299423894:=0
abbrev tw2218865697943624374:=0
abbrev tw8508863994651522774:=0
abbrev tw1569285639929215702:=0
abbrev tw5655561319153103574:=0
abbrev tw2497996393933902582:=0
abbrev tw1950654630984958710:=0
abbrev tw5550381276422490902:=0
abbrev tw14393465711550851862:=0
abbrev tw8183826295613888310:=0
abbrev tw17439549802059793238:=0
abbrev tw5342408627913495382:=0
abbrev tw3617164844973446070:=0
abbrev tw3176731557538287606:=0
abbrev tw3357539799158398999:=0
abbrev tw9657745403040203831:=0
abbrev tw8321706809442320503:=0
abbrev tw2631764257077520503:=0
abbrev tw9332402994025416951:=0
abbrev tw3395881896813360407:=0
abbrev tw2247816122501342551:=0
abbrev tw3480352514861488471:=0
abbrev tw14015513954546774391:=0
abbrev tw10600070282896227895:=0
abbrev tw14691932464046723639:=0
abbrev tw1992809735527850551:=0
abbrev tw4506363740846090807:=0
abbrev tw1236591362966541911:=0
abbrev tw6461124954833004151:=0
abbrev tw17785989996467060343:=0
abbrev tw7698112920868731543:=0
abbrev tw8544156315619849879:=0
abbrev tw10493493943551736503:=0
abbrev tw17335559914278560471:=0
abbrev tw17563239009189710551:=0
abbrev tw3455915953648785111:=0
abbrev tw3202355112870631255:=0
abbrev tw6201656383521300311:=0
abbrev tw5696651286873182103:=0
abbrev tw15797742394575379351:=0
abbrev tw16474670270891545559:=0
abbrev tw689474586550196376:=0
abbrev tw4152482582689156280:=0
abbrev tw17034221911103935672:=0
abbrev tw9993922975438093560:=0
abbrev tw7785289667942503704:=0
abbrev tw15415504014913728856:=0
abbrev tw2146017536594010456:=0
abbrev tw1491195652403743096:=0
abbrev tw6505459727581007224:=0
abbrev tw9539788126690692472:=0
abbrev tw7130461076253842840:=0
abbrev tw4730685041395716568:=0
abbrev tw11479520529684667896:=0
abbrev tw12343247956485271032:=0
abbrev tw11690467524571955800:=0
abbrev tw5268930398606725720:=0
abbrev tw12672268734913529496:=0
abbrev tw8655521731477294744:=0
abbrev tw6924911891106366168:=0
abbrev tw7018950223816768248:=0
abbrev tw8011331178114506488:=0
abbrev tw13635416403210821368:=0
abbrev tw1852380806304982808:=0
abbrev tw4470105591713227608:=0
abbrev tw1577230203426950072:=0
abbrev tw2666813751120101433:=0
abbrev tw171363337944670393:=0
abbrev tw7649750706196197593:=0
abbrev tw5613887381152310585:=0
abbrev tw12312581140505172313:=0
abbrev tw16539056592326900057:=0
abbrev tw10714294633319819609:=0
abbrev tw2953467019983462841:=0
abbrev tw11812985159314325945:=0
abbrev tw17484935575937341881:=0
abbrev tw17449900998372586937:=0
abbrev tw14382294679349967353:=0
abbrev tw8872171089689486873:=0
abbrev tw8647842713504624153:=0
abbrev tw10857831245314474521:=0
abbrev tw18307480538176103993:=0
abbrev tw1023678388523710009:=0
abbrev tw14278278328898903609:=0
abbrev tw431831742142793305:=0
abbrev tw7753308592399211097:=0
abbrev tw3263391958024262265:=0
abbrev tw2725693914616364697:=0
abbrev tw17247751240821664665:=0
abbrev tw9640537665273771961:=0
abbrev tw9143149646127857593:=0
abbrev tw17996728763554803673:=0
abbrev tw9012727675790177273:=0
abbrev tw17362469500388941850:=0
abbrev tw14393197396336686106:=0
abbrev tw646889615951396954:=0
abbrev tw9763908259719905370:=0
abbrev tw2542658586224615546:=0
abbrev tw7798927704150486202:=0
abbrev tw12086394251807074522:=0
abbrev tw17395158974887363802:=0
abbrev tw15704305860923959546:=0
abbrev tw12712491931691013370:=0
abbrev tw13358204439567650074:=0
abbrev tw9083544950959348026:=0
abbrev tw681299471084290426:=0
abbrev tw4844137877490887066:=0
abbrev tw11041578552098815418:=0
abbrev tw11968106149702493722:=0
abbrev tw7803017948866366010:=0
abbrev tw9790185912392830586:=0
abbrev tw9556054892468841146:=0
abbrev tw1076432636183869146:=0
abbrev tw1426044181539981114:=0
abbrev tw7972451789041150778:=0
abbrev tw13323342957790919482:=0
abbrev tw11918595880027628378:=0
abbrev tw2217623081274200922:=0
abbrev tw8041910826147508122:=0
abbrev tw13470107625458047930:=0
abbrev tw3873239541134282682:=0
abbrev tw1193553608708807642:=0
abbrev tw11571897866709182491:=0
abbrev tw6591927266414938235:=0
abbrev tw8425713268165879995:=0
abbrev tw17696737790408805563:=0
abbrev tw2437271191667901659:=0
abbrev tw7909622910063749499:=0
abbrev tw10920673467769450875:=0
abbrev tw17151499728947568027:=0
abbrev tw12053024430150183323:=0
abbrev tw517962158221212155:=0
abbrev tw12615924430248960539:=0
abbrev tw11971286685455812155:=0
abbrev tw7540013701376262747:=0
abbrev tw16036593247001041531:=0
abbrev tw6296277083047624347:=0
abbrev tw8676816370310835067:=0
abbrev tw14936098465634036635:=0
abbrev tw16131950318201803739:=0
abbrev tw15031639587606362075:=0
abbrev tw8494872248916007964:=0
abbrev tw538221633799952444:=0
abbrev tw3912050363384621180:=0
abbrev tw15946011829356211356:=0
abbrev tw16410835486848705692:=0
abbrev tw10196446534949357788:=0
abbrev tw5836505041555138908:=0
abbrev tw5202469331620482460:=0
abbrev tw12150793037158575548:=0
abbrev tw9228516375711321564:=0
abbrev tw8374893253599522268:=0
abbrev tw1192391832357874172:=0
abbrev tw16564445904650196476:=0
abbrev tw5480667464713942556:=0
abbrev tw2247121404876147228:=0
abbrev tw7241771946022638140:=0
abbrev tw4880352801574657596:=0
abbrev tw3408955175074041436:=0
abbrev tw13848853099572408924:=0
abbrev tw4723798248057855580:=0
abbrev tw14764378608707875516:=0
abbrev tw3697109100860521148:=0
abbrev tw5572577353729134268:=0
abbrev tw3296137565561729788:=0
abbrev tw12969435926786943804:=0
abbrev tw17074643500985460668:=0
abbrev tw9240492930374764508:=0
abbrev tw17662012118060742620:=0
abbrev tw13968923925183413212:=0
abbrev tw12868664242347001820:=0
abbrev tw17986214073703321564:=0
abbrev tw13346334137535884284:=0
abbrev tw10811238626258145341:=0
abbrev tw3123161872077040733:=0
abbrev tw10667778594833862813:=0
abbrev tw16786393062222533789:=0
abbrev tw5764080427035350205:=0
abbrev tw10459917862255585469:=0
abbrev tw11582682224895578333:=0
abbrev tw12229922431392802013:=0
abbrev tw11046833857573966045:=0
abbrev tw1756530791387014397:=0
abbrev tw13271402999743581437:=0
abbrev tw8925196888560306525:=0
abbrev tw6758977048976755037:=0
abbrev tw10613049887071578461:=0
abbrev tw1466746162950437213:=0
abbrev tw13906718372779505021:=0
abbrev tw16440257353708214781:=0
abbrev tw2350940797156577821:=0
abbrev tw15762035868306347549:=0
abbrev tw5524799509783278141:=0
abbrev tw12465339198988623421:=0
abbrev tw11182671124936180317:=0
abbrev tw18132484244535989917:=0
abbrev tw13626771753537861277:=0
abbrev tw16294643490003191485:=0
abbrev tw9283607692335104701:=0
abbrev tw11690453277922928349:=0
abbrev tw4518763764860700381:=0
abbrev tw8154246533774899965:=0
abbrev tw14537768626139692829:=0
abbrev tw1773537727542011709:=0
abbrev tw14178830745322355581:=0
abbrev tw5430982027898309501:=0
abbrev tw18076302119431553949:=0
abbrev tw16306613297053091741:=0
abbrev tw5836320965611350013:=0
abbrev tw10232757197566621726:=0
abbrev tw99927966320912414:=0
abbrev tw13738428997494252702:=0
abbrev tw11608688450147658974:=0
abbrev tw8593982293510222046:=0
abbrev tw1339570810112195838:=0
abbrev tw5177687405197285694:=0
abbrev tw9524120278092580158:=0
abbrev tw8329854192551842142:=0
abbrev tw6351069292087076190:=0
abbrev tw15210625773953713598:=0
abbrev tw847373905602610654:=0
abbrev tw2281598958531193374:=0
abbrev tw9975933166990043678:=0
abbrev tw11401392373830595134:=0
abbrev tw12325124138115340894:=0
abbrev tw10787151737604453022:=0
abbrev tw1379714267814852254:=0
abbrev tw13211415942933800702:=0
abbrev tw14653851874228863742:=0
abbrev tw6667630996024426334:=0
abbrev tw9178732894937195422:=0
abbrev tw1819280652285558782:=0
abbrev tw17665958595887484926:=0
abbrev tw8718066185362397247:=0
abbrev tw15368094851423332511:=0
abbrev tw16317513331464078591:=0
abbrev tw2293638342998855935:=0
abbrev tw12699730393961095423:=0
abbrev tw993294623642551647:=0
abbrev tw3981855413085158751:=0
abbrev tw15022663929040104799:=0
abbrev tw15621848063655513471:=0
abbrev tw5392183792525059455:=0
abbrev tw17812270992357898655:=0
abbrev tw11865335076062748063:=0
abbrev tw14748435244924802495:=0
abbrev tw17806716059021242879:=0
abbrev tw8145048284395679263:=0
abbrev tw13827083353634304543:=0
abbrev tw14181155318935977503:=0
abbrev tw586772692289282687:=0
abbrev tw12556517345732017919:=0
abbrev tw8794546168159541055:=0
abbrev tw13845064417205429087:=0
abbrev tw3911413718804478847:=0
abbrev tw15753776892764186495:=0
abbrev tw12342093363342869407:=0
abbrev tw9010079420587052959:=0
abbrev tw16003410959305886623:=0
abbrev tw14954858930576663551:=0
abbrev tw15816167709902471167:=0
abbrev tw9579857480418744832:=0
end PySem.W.Fast
open PySem PySem.W PyProof.Rows
set_option maxRecDepth 100000 in
set_option maxHeartbeats 0 in
theorem PySem.Challenge.cw_stillpoint_k14_bytes_of_files_holds : PySem.Challenge.rw_stillpoint_k14_bytes_of_files.Holds := by
 w_on;o_law;k_head;(case hw=>w_witness2)
 k_fill
 refine KS.walk (l:=PySem.Challenge.rw_stillpoint_k14_bytes_of_files) rfl rfl (fun w h Y=>PySem.W.kIn_of Y) ?F
 case F=>
  intro w mg fa h KX G hmg
  refine' KS.ZRB KX G hmg ..
  any_goals k_is
  any_goals kit_is
  any_goals k_exc
