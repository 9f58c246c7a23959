import PyProof.Rows.All
import Wide.All
import OpenK.AllK
import Wide.FinOn
import Lean
import PyProof.EqAt
import PyProof.EqKinds
import PyProof.TupleCall
import PyProof.StrOps2
import PySem.Challenge.RW_stillpoint_k12_paths
-- CHANGE: your row's module here,as the last of these rows
set_option Elab.async false
set_option linter.all false
set_option maxRecDepth 100000
namespace L2
open PySem PySem.Spec PyProof.Rows
abbrev Key:=Sum Int Str
def ZED:Key→Value→Bool
 | .inl k,v=>Value.isInt k v
 | .inr x,v=>Value.isStrOf x v
def keyH (w:World):Key→Int
 | .inl k=>hashInt k
 | .inr x=>hashStr w x
theorem Zas:∀ {k:Key} {v:Value},ZED k v=true→(∃ i t,k=Sum.inl i∧v=Value.int i t)∨(∃ x t,k=Sum.inr x∧v=Value.str x t)
 | .inl i,v,h=>by
  obtain ⟨t,e⟩:=Value.isInt_shape (k:=i) (v:=v) h
  exact .inl ⟨i,t,rfl,e⟩
 | .inr x,v,h=>by
  obtain ⟨t,e⟩:=Value.isStrOf_shape (x:=x) (v:=v) h
  exact .inr ⟨x,t,rfl,e⟩
theorem ZGj (i:Int) (t:Tok):ZED (.inl i) (.int i t)=true:=by simp [ZED,Value.isInt]
theorem ZGi (x:Str) (t:Tok):ZED (.inr x) (.str x t)=true:=by simp [ZED,Value.isStrOf]
theorem ZLB (a b:Int):decide ((Sum.inl a:Key)=Sum.inl b)=(a == b):=by
 by_cases e:a=b
 ·subst e;simp
 ·have h:¬ (Sum.inl a:Key)=Sum.inl b:=fun q=>e (Sum.inl.inj q)
  rw [decide_eq_false h]
  exact (beq_eq_false_iff_ne.mpr e).symm
theorem ZLy (a b:Str):decide ((Sum.inr a:Key)=Sum.inr b)=decide (a=b):=by
 by_cases e:a=b
 ·subst e;simp
 ·have h:¬ (Sum.inr a:Key)=Sum.inr b:=fun q=>e (Sum.inr.inj q)
  rw [decide_eq_false h,decide_eq_false e]
theorem ZLA (a:Int) (b:Str):decide ((Sum.inl a:Key)=Sum.inr b)=false:=decide_eq_false (fun q=>nomatch q)
theorem ZLz (a:Str) (b:Int):decide ((Sum.inr a:Key)=Sum.inl b)=false:=decide_eq_false (fun q=>nomatch q)
def ZW (prog:Program) (w:World):PySem.KeyKind prog w Key where
 is:=ZED
 hash:=keyH w
 inj:=fun v a b ha hb=>by
  rcases Zas ha with ⟨i,t,rfl,rfl⟩ | ⟨x,t,rfl,rfl⟩
  ·rcases Zas hb with ⟨j,u,rfl,e⟩ | ⟨y,u,rfl,e⟩
   ·injection e with e1 _;rw [e1]
   ·exact nomatch e
  ·rcases Zas hb with ⟨j,u,rfl,e⟩ | ⟨y,u,rfl,e⟩
   ·exact nomatch e
   ·injection e with e1 _;rw [e1]
 byValue:=fun k v h=>by
  rcases Zas h with ⟨i,t,rfl,rfl⟩ | ⟨x,t,rfl,rfl⟩ <;> rfl
 pyHash:=fun hv h=>by
  rcases Zas hv with ⟨i,t,rfl,rfl⟩ | ⟨x,t,rfl,rfl⟩
  ·exact wpAny_pyHash_int h
  ·exact wpAny_pyHash_str h
 eqBool:=fun hu hv h=>by
  rcases Zas hu with ⟨i,t,rfl,rfl⟩ | ⟨x,t,rfl,rfl⟩
  ·rcases Zas hv with ⟨j,u,rfl,rfl⟩ | ⟨y,u,rfl,rfl⟩
   ·rw [ZLB] at h;exact wpAny_eqBool_int h
   ·rw [ZLA] at h;exact SeqAt.EqAt.int_str i t y u _ _ _ _ h
  ·rcases Zas hv with ⟨j,u,rfl,rfl⟩ | ⟨y,u,rfl,rfl⟩
   ·rw [ZLz] at h;exact SeqAt.EqAt.str_int x t j u _ _ _ _ h
   ·rw [ZLy] at h;exact wpAny_eqBool_str h
 «strs»:=fun k x t v h=>by
  rcases Zas h with ⟨i,u,rfl,e⟩ | ⟨y,u,rfl,e⟩
  ·exact nomatch e
  ·injection e with e1 _
   subst e1
   cases v <;> rfl
theorem ZBO (prog:Program) (w:World) (i:Int) (t:Tok):(ZW prog w).is (.inl i) (.int i t)=true:=ZGj i t
theorem ZBN (prog:Program) (w:World) (x:Str) (t:Tok):(ZW prog w).is (.inr x) (.str x t)=true:=ZGi x t
end L2
namespace L2
open PySem PySem.Spec PyProof.Rows
inductive V where
 | non | bl (b:Bool) | int (i:Int) | str (x:Str) | byt (b:Array UInt8) | flt (b:UInt64) | ref (a:Addr) | ty (n:String)
 deriving DecidableEq
def RelV:V→Value→Prop
 | .non,u=>u=Value.none
 | .bl b,u=>u=Value.bool b
 | .int i,u=>∃ t,u=Value.int i t
 | .str x,u=>∃ t,u=Value.str x t
 | .byt b,u=>∃ t,u=Value.bytes b t
 | .flt b,u=>∃ t,u=Value.float b t
 | .ref a,u=>u=Value.ref a
 | .ty n,u=>u=Value.type n
abbrev Vals:List V→List Value→Prop:=Paired RelV
theorem Vals.length {xs:List V} {us:List Value} (r:Vals xs us):xs.length=us.length:=Paired.length r
theorem Vals.get:∀ {xs:List V} {us:List Value} {i:Nat} {x:V},Vals xs us→xs[i]?=some x→∃ u,us[i]?=some u∧RelV x u
 | _,_,_,_,.nil,e=>by simp at e
 | _,_,0,_,.cons r _,e=>by simp at e;subst e;exact ⟨_,rfl,r⟩
 | _,_,i + 1,x,.cons _ t,e=>by
  obtain ⟨u,h1,h2⟩:=Vals.get (i:=i) (x:=x) t (by simpa using e)
  exact ⟨u,by simpa using h1,h2⟩
theorem Vals.set {x:V} {u:Value} (r:RelV x u):∀ {xs:List V} {us:List Value} (i:Nat),Vals xs us→Vals (xs.set i x) (us.set i u)
 | _,_,_,.nil=>.nil
 | _,_,0,.cons _ t=>.cons r t
 | _,_,i + 1,.cons q t=>.cons q (Vals.set r i t)
theorem Vals.append:∀ {xs ys:List V} {us ws:List Value},Vals xs us→Vals ys ws→Vals (xs++ys) (us++ws)
 | _,_,_,_,.nil,s=>s
 | _,_,_,_,.cons r t,s=>.cons r (Vals.append t s)
theorem Vals.take:∀ {xs:List V} {us:List Value} (n:Nat),Vals xs us→Vals (xs.take n) (us.take n)
 | _,_,0,_=>.nil
 | _,_,_ + 1,.nil=>.nil
 | _,_,n + 1,.cons r t=>.cons r (Vals.take n t)
theorem Vals.drop:∀ {xs:List V} {us:List Value} (n:Nat),Vals xs us→Vals (xs.drop n) (us.drop n)
 | _,_,0,r=>r
 | _,_,_ + 1,.nil=>.nil
 | _,_,n + 1,.cons _ t=>Vals.drop n t
def RelO:Option V→Option Value→Prop
 | some v,some u=>RelV v u
 | none,none=>True
 | _,_=>False
def KV {κ:Type}:List (κ×V)→List (κ×Value)→Prop:=Paired fun (p:κ×V) (q:κ×Value)=>p.1=q.1∧RelV p.2 q.2
def kV:Key→V
 | .inl i=>.int i
 | .inr x=>.str x
inductive HO where
 /-- a list -/
 | lst (xs:List V)
 /-- a tuple (never changes) -/
 | tup (xs:List V)
 /-- a dict whose keys are ints and texts;one whose keys are tuples of ints and texts (the empty one is both) -/
 | dK (kvs:List (Key×V)) | dT (kvs:List (List Key×V))
 /-- a set of ints: its members,its size -/
 | set (S:Int→Bool) (n:Nat)
 /-- an instance of the class at C,its dict at dx,its attributes -/
 | ins (C dx:Addr) (fs:List (Str×V))
 /-- the dict of the instance at x -/
 | own (x:Addr)
 /-- the dict of an exception -/
 | xd (fs:List (Str×V))
 /-- a bound method,f of x -/
 | met (f x:Addr)
 /-- a range object lo,lo + 1,.. below hi -/
 | rng (lo hi:Int)
 /-- a ZeU that is known to the object (the script;a dict while a loop walks it): read,never written while it is so -/
 | frz (o:Obj) (u:HO)
 /-- a code object's table -/
 | tbl (ps:Array Value)
 /-- any other ZeU,by what is true of its one object (a def of one's own: SetO a S n:=HO.ext fun h=>..) -/
 | ext (φ:Heap→Prop)
abbrev Hp:=Addr→Option HO
def upd (H:Hp) (a:Addr) (o:HO):Hp:=fun b=>if b=a then some o else H b
theorem Zb {H:Hp} {a:Addr} {o:HO}:upd H a o a=some o:=by unfold upd;rw [if_pos rfl]
theorem Zc {H:Hp} {a b:Addr} {o:HO} (h:b≠a):upd H a o b=H b:=by unfold upd;rw [if_neg h]
theorem ZP {H:Hp} {a b:Addr} {o u:HO} (h:H a=some o) (h':H b=some u) (d:o≠u):a≠b:=by
 intro e;subst e;rw [h] at h';exact d (Option.some.inj h')
theorem Zd {H:Hp} {a b:Addr} {o:HO} (h:H a=some o) (h':H b=none):a≠b:=by
 intro e;subst e;rw [h] at h';cases h'
section
variable (P:Program) (w:World)
def Zam (H:Hp) (h:Heap) (a:Addr):HO→Prop
 | .lst xs=>xs.length≤sizeLine∧∃ (its:List Value) (n:Nat),Vals xs its∧h.get? a=some {cls:=.type "list",data:=.seq its.toArray n}
 | .tup xs=>xs.length≤sizeLine∧∃ its:List Value,Vals xs its∧IsTup h a its.toArray
 | .dK kvs=>kvs.length≤sizeLine∧(a == sysModules)=false∧∃ vs,KV kvs vs∧h.DictOf (ZW P w) a vs
 | .dT kvs=>kvs.length≤sizeLine∧(a == sysModules)=false∧∃ xs:List (List Key×Addr×Value),
   Paired (fun (p:List Key×V) (q:List Key×Addr×Value)=>p.1=q.1∧H q.2.1=some (.tup (p.1.map kV))∧RelV p.2 q.2.2) kvs xs∧
   ∃ o es ep,h.get? a=some o∧o.ExactDict∧o.data=.dict es ep∧es.toList=xs.map (entryOfKey (tupleKind (ZW P w)))∧(xs.map (·.1)).Nodup
 | .set S n=>h.SetOf (intKind P w) a S n
 | .ins C dx fs=>H dx=some (.own a)∧fs.length≤1000∧dx≠a∧h.get? a=some (PySem.W.instObj C dx)∧
   ∃ mA,h.Ns1 dx mA∧(∀ f,RelO (fs.lookup f) (mA f))∧PySem.Within mA (fs.map (·.1))
 | .own _=>∃ o,h.get? a=some o
 | .xd fs=>∃ mA,h.Ns1 a mA∧∀ f,RelO (fs.lookup f) (mA f)
 | .rng lo hi=>∃ t u v,h.get? a=some {cls:=.type "range",data:=.fields #[.int lo t,.int hi u,.int 1 v]}
 | .frz o u=>h.get? a=some o∧Zam H h a u
 | .tbl ps=>h.get? a=some {cls:=.none,data:=.fields ps}
 | .met f x=>h.get? a=some (PySem.W.methodObj (.ref f) (.ref x))
 | .ext φ=>φ h∧(∃ o,h.get? a=some o)∧∀ h1 h2:Heap,φ h1→(∀ o,h1.get? a=some o→h2.get? a=some o)→φ h2
def HOk (H:Hp) (h:Heap):Prop:=∀ a o,H a=some o→Zam P w H h a o
end
section
variable {P:Program} {w:World} {H H':Hp} {h h':Heap} {a:Addr} {o:HO}
theorem Zam.lt (x:Zam P w H h a o):a < h.objs.size:=by
 cases o with
 | lst xs=>obtain ⟨_,_,_,_,e⟩:=x;exact Heap.lt_size e
 | tup xs=>obtain ⟨_,_,_,p⟩:=x;exact p.lt
 | dK kvs=>obtain ⟨_,_,_,_,o,_,_,e,_⟩:=x;exact Heap.lt_size e
 | dT kvs=>obtain ⟨_,_,_,_,o,_,_,e,_⟩:=x;exact Heap.lt_size e
 | set S n=>obtain ⟨o,_,_,_,e,_⟩:=x;exact Heap.lt_size e
 | ins C dx fs=>obtain ⟨_,_,_,e,_⟩:=x;exact Heap.lt_size e
 | own y=>obtain ⟨_,e⟩:=x;exact Heap.lt_size e
 | xd fs=>obtain ⟨_,⟨_,_,_,e,_⟩,_⟩:=x;exact Heap.lt_size e
 | rng lo hi=>obtain ⟨_,_,_,e⟩:=x;exact Heap.lt_size e
 | frz ob u=>obtain ⟨e,_⟩:=x;exact Heap.lt_size e
 | tbl ps=>exact Heap.lt_size (show h.get? a=some _ from x)
 | met f y=>exact Heap.lt_size (show h.get? a=some _ from x)
 | ext φ=>obtain ⟨_,⟨_,e⟩,_⟩:=x;exact Heap.lt_size e
theorem Paired.mapP {α β:Type} {F G:α→β→Prop}:∀ {l₁:List α} {l₂:List β},Paired F l₁ l₂→(∀ a b,F a b→G a b)→Paired G l₁ l₂
 | _,_,.nil,_=>.nil
 | _,_,.cons r t,f=>.cons (f _ _ r) (Paired.mapP t f)
theorem Zam.stay (x:Zam P w H h a o) (k:∀ b u,(b=a∨H b=some (.own a))→h.get? b=some u→h'.get? b=some u)
  (ho:∀ b,H b=some (.own a)→H' b=some (.own a)) (ht:∀ b xs,H b=some (.tup xs)→H' b=some (.tup xs)):Zam P w H' h' a o:=by
 induction o with
 | lst xs=>obtain ⟨z,its,n,r,e⟩:=x;exact ⟨z,its,n,r,k _ _ (.inl rfl) e⟩
 | tup xs=>obtain ⟨z,its,r,ob,e,c⟩:=x;exact ⟨z,its,r,ob,k _ _ (.inl rfl) e,c⟩
 | dK kvs=>obtain ⟨z,y,vs,r,ob,es,ep,e,c⟩:=x;exact ⟨z,y,vs,r,ob,es,ep,k _ _ (.inl rfl) e,c⟩
 | dT kvs=>
  obtain ⟨z,y,xs,r,ob,es,ep,e,c⟩:=x
  exact ⟨z,y,xs,Paired.mapP r fun p q z=>⟨z.1,ht _ _ z.2.1,z.2.2⟩,ob,es,ep,k _ _ (.inl rfl) e,c⟩
 | set S n=>obtain ⟨ob,es,ep,t,e,c⟩:=x;exact ⟨ob,es,ep,t,k _ _ (.inl rfl) e,c⟩
 | ins C dx fs=>
  obtain ⟨d,z,ne,e,mA,⟨od,es,ep,e2,c⟩,r⟩:=x
  exact ⟨ho _ d,z,ne,k _ _ (.inl rfl) e,mA,⟨od,es,ep,k _ _ (.inr d) e2,c⟩,r⟩
 | own y=>obtain ⟨ob,e⟩:=x;exact ⟨ob,k _ _ (.inl rfl) e⟩
 | xd fs=>obtain ⟨mA,⟨od,es,ep,e,c⟩,r⟩:=x;exact ⟨mA,⟨od,es,ep,k _ _ (.inl rfl) e,c⟩,r⟩
 | rng lo hi=>obtain ⟨t,u,v,e⟩:=x;exact ⟨t,u,v,k _ _ (.inl rfl) e⟩
 | frz ob u ih=>obtain ⟨e,q⟩:=x;exact ⟨k _ _ (.inl rfl) e,ih q⟩
 | tbl ps=>
  have e:h.get? a=some {cls:=.none,data:=.fields ps}:=x
  show h'.get? a=some {cls:=.none,data:=.fields ps}
  exact k a _ (.inl rfl) e
 | met f y=>
  have e:h.get? a=some (PySem.W.methodObj (.ref f) (.ref y)):=x
  show h'.get? a=some (PySem.W.methodObj (.ref f) (.ref y))
  exact k a _ (.inl rfl) e
 | ext φ=>obtain ⟨p,⟨o,e⟩,st⟩:=x;exact ⟨st _ _ p fun o q=>k _ _ (.inl rfl) q,⟨o,k _ _ (.inl rfl) e⟩,st⟩
theorem HOk.lt (x:HOk P w H h) (e:H a=some o):a < h.objs.size:=(x a o e).lt
theorem HOk.fresh (x:HOk P w H h) (e:h.objs.size≤a):H a=none:=by
 cases q:H a with
 | none=>rfl
 | some u=>exact absurd (Nat.lt_of_lt_of_le (x.lt q) e) (Nat.lt_irrefl _)
theorem HOk.kept (x:HOk P w H h) (k:∀ b u,h.get? b=some u→h'.get? b=some u):HOk P w H h':=fun a o e=>
 (x a o e).stay (fun b u _ q=>k b u q) (fun _ q=>q) fun _ _ q=>q
theorem HOk.laid (x:HOk P w H h) (k:∀ b u,h.get? b=some u→h'.get? b=some u) (hp:h.objs.size≤a) (new:Zam P w (upd H a o) h' a o):HOk P w (upd H a o) h':=fun b u e=>by
 have hn:=x.fresh hp
 by_cases hb:b=a
 ·subst hb;rw [Zb] at e;cases e;exact new
 ·rw [Zc hb] at e
  exact (x b u e).stay (fun c v _ q=>k c v q) (fun c q=>by rw [Zc (Zd q hn)];exact q) fun c xs q=>by rw [Zc (Zd q hn)];exact q
end
def Rd (H:Hp) (a:Addr) (u:HO):Prop:=H a=some u∨∃ o,H a=some (.frz o u)
theorem Rd.ok {P:Program} {w:World} {H:Hp} {h:Heap} {a:Addr} {u:HO} (r:Rd H a u) (x:HOk P w H h):Zam P w H h a u:=by
 rcases r with r | ⟨o,r⟩
 ·exact x a u r
 ·obtain ⟨_,q⟩:=x a _ r
  exact q
def Mut:Option HO→Prop
 | some (.lst _)=>True
 | some (.dK _)=>True
 | some (.dT _)=>True
 | some (.set _ _)=>True
 | some (.ins _ _ _)=>True
 | some (.ext _)=>True
 | _=>False
section
variable {P:Program} {w:World} {H:Hp} {h h':Heap} {x e:Addr} {o':HO}
theorem HOk.write (ok:HOk P w H h) (mu:Mut (H x)) (he:e=x∨H e=some (.own x)) (k:∀ b u,b≠e→h.get? b=some u→h'.get? b=some u) (heo:∃ u,h'.get? e=some u)
  (new:Zam P w (upd H x o') h' x o'):HOk P w (upd H x o') h':=fun b u q=>by
 have nown:∀ c y,H c=some (.own y)→c≠x:=fun c y r z=>by subst z;rw [r] at mu;exact mu
 have ntup:∀ c xs,H c=some (.tup xs)→c≠x:=fun c xs r z=>by subst z;rw [r] at mu;exact mu
 by_cases hb:b=x
 ·subst hb;rw [Zb] at q;cases q;exact new
 ·rw [Zc hb] at q
  by_cases hbe:b=e
  ·have q':H b=some (.own x):=by
    rcases he with z | z
    ·exact absurd (hbe.trans z) hb
    ·rw [hbe];exact z
   rw [q] at q';cases q'
   obtain ⟨v,hv⟩:=heo
   exact ⟨v,by rw [hbe];exact hv⟩
  ·refine (ok b u q).stay (fun c v hc r=>k c v ?_ r) (fun c r=>by rw [Zc (nown c b r)];exact r) fun c xs r=>by rw [Zc (ntup c xs r)];exact r
   rcases hc with rfl | hc
   ·exact hbe
   ·rintro rfl
    rcases he with z | z
    ·exact nown c b hc z
    ·rw [hc] at z;cases z;exact hb rfl
end
structure Un (fs ex:List Addr) (H H':Hp) (h h':Heap):Prop where
 keep:∀ b o,h.get? b=some o→H b=none→b ∉ fs→b ∉ ex→h'.get? b=some o
 slot:∀ b o,h.get? b=some o→H b=none→b∈fs→b ∉ ex→∃ sl,h'.get? b=some {o with slots:=sl}
 free:∀ b o,h.get? b=some o→H b=none→b ∉ ex→H' b=none
 there:∀ b o,h.get? b=some o→b ∉ ex→∃ o',h'.get? b=some o'
 tups:∀ b xs,H b=some (.tup xs)→H' b=some (.tup xs)
 frzs:∀ b o u,H b=some (.frz o u)→H' b=some (.frz o u)
 tbls:∀ b ps,H b=some (.tbl ps)→∃ more,H' b=some (.tbl (ps++more))
section
variable {fs fs' ex ex':List Addr} {H H1 H2:Hp} {h h1 h2 h':Heap} {a x e:Addr} {o:HO}
theorem Un.any (u:Un fs ex H H1 h h1) {b:Addr} {ob:Obj} (q:h.get? b=some ob) (n:H b=none) (hx:b ∉ ex):∃ sl,h1.get? b=some {ob with slots:=sl}:=by
 by_cases hb:b∈fs
 ·exact u.slot b ob q n hb hx
 ·exact ⟨ob.slots,u.keep b ob q n hb hx⟩
theorem Un.kept (k:∀ b u,h.get? b=some u→h'.get? b=some u):Un fs ex H H h h':=
 ⟨fun b ob q _ _ _=>k b ob q,fun b ob q _ _ _=>⟨ob.slots,k b ob q⟩,fun _ _ _ n _=>n,fun b ob q _=>⟨ob,k b ob q⟩,fun _ _ q=>q,fun _ _ _ q=>q,fun _ ps q=>⟨#[],by rw [q];simp⟩⟩
theorem Un.refl:Un fs ex H H h h:=Un.kept fun _ _ q=>q
theorem Un.laid (k:∀ b u,h.get? b=some u→h'.get? b=some u) (hp:h.objs.size≤a) (hn:H a=none):Un fs ex H (upd H a o) h h' where
 keep:=fun b u q _ _ _=>k b u q
 slot:=fun b u q _ _ _=>⟨u.slots,k b u q⟩
 free:=fun b u q n _=>by rw [Zc (Nat.ne_of_lt (Nat.lt_of_lt_of_le (Heap.lt_size q) hp))];exact n
 there:=fun b u q _=>⟨u,k b u q⟩
 tups:=fun b xs q=>by rw [Zc (Zd q hn)];exact q
 frzs:=fun b u xs q=>by rw [Zc (Zd q hn)];exact q
 tbls:=fun b ps q=>⟨#[],by rw [Zc (Zd q hn),q];simp⟩
theorem Un.write (mu:Mut (H x)) (he:e=x∨H e=some (.own x)) (k:∀ b u,b≠e→h.get? b=some u→h'.get? b=some u) (heo:∃ u,h'.get? e=some u):Un fs ex H (upd H x o) h h':=by
 have hx:∀ b,H b=none→b≠x:=fun b n z=>by subst z;rw [n] at mu;exact mu
 have hb:∀ b,H b=none→b≠e:=fun b n z=>by
  subst z
  rcases he with r | r
  ·exact hx b n r
  ·rw [n] at r;cases r
 have hm:∀ b u,H b=some u→¬ Mut (some u)→b≠x:=fun b u q nm z=>by subst z;rw [q] at mu;exact nm mu
 refine ⟨fun b u q n _ _=>k b u (hb b n) q,fun b u q n _ _=>⟨u.slots,k b u (hb b n) q⟩,fun b u q n _=>by rw [Zc (hx b n)];exact n,fun b u q _=>?_,
  fun b xs q=>by rw [Zc (hm b _ q fun z=>z)];exact q,fun b u xs q=>by rw [Zc (hm b _ q fun z=>z)];exact q,fun b ps q=>⟨#[],by rw [Zc (hm b _ q fun z=>z),q];simp⟩⟩
 by_cases hbe:b=e
 ·subst hbe;exact heo
 ·exact ⟨u,k b u hbe q⟩
end
def trk (h:Heap) (H:Hp):List Addr:=(List.range h.objs.size).filter fun a=>(H a).isSome
def hidT (h:Heap) (H:Hp):Heap:=PySem.W.hideAll h (trk h H)
theorem ZGr (h:Heap) (H:Hp):(hidT h H).objs.size=h.objs.size:=PySem.W.hideAll_size _ _
theorem ZId {h:Heap} {H:Hp} {b:Addr} {o:Obj} (e:h.get? b=some o) (n:H b=none):(hidT h H).get? b=some o:=
 PySem.W.hideAll_get _ e fun hm=>by
  have q:(H b).isSome=true:=(List.mem_filter.mp hm).2
  rw [n] at q;simp at q
theorem ZJU {h:Heap} {H:Hp} {b:Addr} {o:Obj} (e:(hidT h H).get? b=some o):h.get? b=some o∧H b=none:=by
 have e':h.get? b=some o:=PySem.W.of_hideAll (trk h H) e
 refine ⟨e',?_⟩
 cases q:H b with
 | none=>rfl
 | some x=>
  have hm:b∈trk h H:=List.mem_filter.mpr ⟨List.mem_range.mpr (Heap.lt_size e'),by simp [q]⟩
  have z:(hidT h H).get? b=none:=PySem.W.hideAll_none (trk h H) hm
  rw [z] at e;cases e
end L2
namespace L2
open PySem PySem.Spec PyProof.Rows
structure Mod (K:PySem.W.Frag) (mg:Str→Option Value) (base:Heap):Prop where
 kin:K.In base
 glob:base.Ns mainGlobals mg
 blt:∃ mb,base.Ns builtinsNs mb∧∀ x:Str,x≠"__name__"→mb x=bootBuiltins x
 nolimit:base.NoLimit
structure Cx where
 prog:Program
 w:World
 K:PySem.W.Frag
 mg:Str→Option Value
 base:Heap
 A:Around
 N:List Str
 s₀:Shared
 H₀:Hp
 env:Env
 outer:List Env
 stack:List Env
 ex:List Addr
 fn:Str→Bool
 calm:Bool
 pn:List (Addr×Obj)
 xe:Value→Shared→Prop
def frs (l:List Env):List Addr:=l.filterMap (·.frame)
abbrev Cx.fs (X:Cx):List Addr:=frs X.outer
def Vis (sc:Scope) (x:Str):Prop:=sc.names.lookup x=some .local∨sc.names.lookup x=some .cell∨sc.names.lookup x=some .free
def Loc (sc:Scope) (x:Str):Prop:=sc.names.lookup x=some .local∨sc.names.lookup x=some .cell
def Look (env:Env) (h:Heap) (m:Str→Option Value) (x:Str) (u:Value):Prop:=
 (env.kindOf x=some .local∧m x=some u)∨((env.kindOf x=some .cell∨env.kindOf x=some .free)∧∃ c,env.cells.lookup x=some c∧h.IsCell c (some u))
structure Cx.Ok (X:Cx):Prop where
 mod:Mod X.K X.mg X.base
 kind:X.env.scope.kind=.function
 glob:X.env.globals=mainGlobals
 blt:X.env.builtins=builtinsNs
 above:X.s₀.heap.objs.size≤X.env.locals
 inj:∀ x y c,X.env.cells.lookup x=some c→X.env.cells.lookup y=some c→x=y
 has:∀ x,(X.env.kindOf x=some .cell∨X.env.kindOf x=some .free)→∃ c,X.env.cells.lookup x=some c
 cab:∀ x c,X.fn x=true→X.env.cells.lookup x=some c→X.s₀.heap.objs.size≤c
 hd:X.calm=true→X.A.handled=none
 frames:X.A.frames=some X.stack
 stk:X.stack=X.outer∨(X.stack=X.env::X.outer∧X.env.frame=some X.env.locals)
 exf:∀ b∈X.ex,b≠X.env.locals∧∀ x c,X.env.cells.lookup x=some c→c≠b
 bs:∀ b o,X.base.get? b=some o→X.s₀.heap.get? b=some o∧X.H₀ b=none
 bsz:X.base.objs.size≤X.s₀.heap.objs.size
 noex:∀ b o,X.base.get? b=some o→b ∉ X.ex
 exfs:∀ b∈X.ex,b ∉ X.fs
 funs:X.s₀.heap.FunFrames X.base X.outer
 frf:∀ b∈X.fs,X.H₀ b=none
structure Inv (X:Cx) (pins:List (Addr×Obj)) (σ:List (Option V)) (H:Hp) (s:Shared):Prop where
 ok:X.Ok
 os:s.os=X.s₀.os
 bare:AllBare s.gens
 base:Un X.fs X.ex X.H₀ H X.s₀.heap s.heap
 loc:∃ m,s.heap.Ns X.env.locals m∧∀ (i:Nat) (x:Str) (v:V),X.N[i]?=some x→σ[i]?=some (some v)→Vis X.env.scope x→∃ u,RelV v u∧Look X.env s.heap m x u
 cell:∀ x c,X.env.cells.lookup x=some c→∃ v,s.heap.IsCell c v
 free:H X.env.locals=none
 freeC:∀ x c,X.env.cells.lookup x=some c→H c=none
 pin:∀ p∈X.pn++pins,s.heap.get? p.1=some p.2∧H p.1=none∧p.1≠X.env.locals∧p.1 ∉ X.fs∧∀ v,p.2.data≠.cell v
 hok:HOk X.prog X.w H s.heap
 len:σ.length=X.N.length
section
variable {X:Cx} {pins:List (Addr×Obj)} {σ:List (Option V)} {H H':Hp} {s:Shared} {h':Heap}
theorem Cx.Ok.nofr (ok:X.Ok) {b:Addr} {o:Obj} (e:X.base.get? b=some o):b ∉ X.fs:=fun hb=>by
 have:=(ok.funs.mem hb).1
 rw [e] at this;cases this
theorem Inv.bs (I:Inv X pins σ H s):∀ b o,X.base.get? b=some o→s.heap.get? b=some o∧H b=none:=fun b o e=>
 ⟨I.base.keep b o (I.ok.bs b o e).1 (I.ok.bs b o e).2 (I.ok.nofr e) (I.ok.noex b o e),I.base.free b o (I.ok.bs b o e).1 (I.ok.bs b o e).2 (I.ok.noex b o e)⟩
theorem Inv.bk (I:Inv X pins σ H s):∀ b o,X.base.get? b=some o→s.heap.get? b=some o:=fun b o e=>(I.bs b o e).1
theorem Inv.mod (I:Inv X pins σ H s):Mod X.K X.mg X.base:=I.ok.mod
theorem Inv.kIn (I:Inv X pins σ H s):X.K.In s.heap:=I.ok.mod.kin.keeps I.bk
theorem Inv.lt (I:Inv X pins σ H s):X.env.locals < s.heap.objs.size:=let ⟨_,hn,_⟩:=I.loc;hn.lt
theorem Inv.sz (I:Inv X pins σ H s):X.s₀.heap.objs.size≤s.heap.objs.size:=Nat.le_trans I.ok.above (Nat.le_of_lt I.lt)
theorem Inv.nofs (I:Inv X pins σ H s) {a:Addr} (h:s.heap.objs.size≤a):a ∉ X.fs:=fun hb=>by
 obtain ⟨_,o,ho,_⟩:=I.ok.funs.mem hb
 exact absurd (Nat.lt_of_lt_of_le (Heap.lt_size ho) (Nat.le_trans I.sz h)) (Nat.lt_irrefl _)
theorem Inv.cne (I:Inv X pins σ H s):∀ x c,X.env.cells.lookup x=some c→c≠X.env.locals:=fun x c e z=>by
 obtain ⟨v,o,ho,hd⟩:=I.cell x c e
 obtain ⟨m,⟨o',es,ep,ho',hd',_⟩,_⟩:=I.loc
 rw [z,ho'] at ho;cases ho;rw [hd'] at hd;cases hd
theorem Inv.funs (I:Inv X pins σ H s):s.heap.FunFrames X.base X.outer:=by
 have all:∀ (l:List Env),(∀ b∈frs l,b∈X.fs)→X.s₀.heap.FunFrames X.base l→s.heap.FunFrames X.base l:=by
  intro l
  induction l with
  | nil=>intro _ _;trivial
  | cons env r ih=>
   intro hs hl
   obtain ⟨hk,⟨L,o,hf,hn,ho,hd⟩,hr⟩:=hl
   have hL:L∈X.fs:=hs L (by unfold frs;rw [List.filterMap_cons,hf];exact List.mem_cons_self)
   obtain ⟨sl,e⟩:=I.base.slot L o ho (I.ok.frf L hL) hL fun z=>I.ok.exfs L z hL
   exact ⟨hk,⟨L,_,hf,hn,e,hd⟩,ih (fun b hb=>hs b (by unfold frs;rw [List.filterMap_cons,hf];exact List.mem_cons_of_mem _ hb)) hr⟩
 exact all X.outer (fun _ hb=>hb) I.ok.funs
theorem Inv.stack (I:Inv X pins σ H s):s.heap.FunFrames X.base X.stack:=by
 rcases I.ok.stk with e | ⟨e,hf⟩
 ·rw [e];exact I.funs
 ·rw [e]
  obtain ⟨m,hn,_⟩:=I.loc
  refine .cons (by rw [I.ok.kind];decide) hf hn ?_ I.funs
  exact Heap.get?_none_of_le (Nat.le_trans I.ok.bsz I.ok.above)
theorem Inv.stkSub (I:Inv X pins σ H s):∀ b∈frs X.stack,b∈X.env.locals::X.fs:=fun b hb=>by
 rcases I.ok.stk with e | ⟨e,hf⟩
 ·rw [e] at hb;exact List.mem_cons_of_mem _ hb
 ·rw [e] at hb
  unfold frs at hb
  rw [List.filterMap_cons,hf] at hb
  exact hb
theorem Inv.stkFree (I:Inv X pins σ H s):∀ b∈frs X.stack,H b=none:=fun b hb=>by
 rcases List.mem_cons.mp (I.stkSub b hb) with e | hb
 ·rw [e];exact I.free
 ·obtain ⟨_,o,ho,_⟩:=I.ok.funs.mem hb
  exact I.base.free b o ho (I.ok.frf b hb) fun z=>I.ok.exfs b z hb
theorem Inv.step {g':Array GenState} {t':Nat} {d':Drawn} {ch:List Addr} (I:Inv X pins σ H s)
  (hch:∀ b∈ch,(b∈X.ex∨X.s₀.heap.objs.size≤b)∧b≠X.env.locals∧(∀ x c,X.env.cells.lookup x=some c→c≠b)∧∀ p∈X.pn++pins,p.1≠b)
  (keep:∀ b o,b≠X.env.locals→b ∉ X.fs→b ∉ ch→s.heap.get? b=some o→H b=none→h'.get? b=some o)
  (slot:∀ b o,b≠X.env.locals→b∈X.fs→b ∉ ch→s.heap.get? b=some o→H b=none→∃ sl,h'.get? b=some {o with slots:=sl}) (free:∀ b o,b ∉ ch→s.heap.get? b=some o→H b=none→H' b=none)
  (there:∀ b o,b ∉ ch→s.heap.get? b=some o→∃ o',h'.get? b=some o')
  (tups:∀ b xs,H b=some (.tup xs)→H' b=some (.tup xs)) (frzs:∀ b o u,H b=some (.frz o u)→H' b=some (.frz o u)) (tbls:∀ b ps,H b=some (.tbl ps)→∃ more,H' b=some (.tbl (ps++more)))
  (ns:∀ m,s.heap.Ns X.env.locals m→h'.Ns X.env.locals m) (hok:HOk X.prog X.w H' h') (hg:AllBare g') :
  Inv X pins σ H' {s with heap:=h',gens:=g',drawn:=d',toks:=t'}:=by
 have neL:∀ b o,X.s₀.heap.get? b=some o→b≠X.env.locals:=fun b o e=>Nat.ne_of_lt (Nat.lt_of_lt_of_le (Heap.lt_size e) I.ok.above)
 have neC:∀ b o,X.s₀.heap.get? b=some o→b ∉ X.ex→b ∉ ch:=fun b o e hx hb=>by
  rcases (hch b hb).1 with z | z
  ·exact hx z
  ·exact absurd (Nat.lt_of_lt_of_le (Heap.lt_size e) z) (Nat.lt_irrefl _)
 have cellK:∀ x c,X.env.cells.lookup x=some c→∀ v,s.heap.IsCell c v→h'.IsCell c v:=fun x c e v ⟨o,ho,hd⟩=>by
  have nch:c ∉ ch:=fun z=>(hch c z).2.2.1 x c e rfl
  by_cases hc:c∈X.fs
  ·obtain ⟨sl,q⟩:=slot c o (I.cne x c e) hc nch ho (I.freeC x c e)
   exact ⟨_,q,hd⟩
  ·exact ⟨o,keep c o (I.cne x c e) hc nch ho (I.freeC x c e),hd⟩
 refine ⟨I.ok,I.os,hg,⟨fun b o e n hb hx=>?_,fun b o e n hb hx=>?_,fun b o e n hx=>?_,fun b o e hx=>?_,fun b xs e=>tups b xs (I.base.tups b xs e),fun b o xs e=>frzs b o xs (I.base.frzs b o xs e),fun b ps e=>?_⟩,?_,fun x c e=>?_,?_,fun x c e=>?_,fun p hp=>?_,hok,I.len⟩
 ·exact keep b o (neL b o e) hb (neC b o e hx) (I.base.keep b o e n hb hx) (I.base.free b o e n hx)
 ·obtain ⟨sl,e1⟩:=I.base.slot b o e n hb hx
  obtain ⟨sl',e2⟩:=slot b _ (neL b o e) hb (neC b o e hx) e1 (I.base.free b o e n hx)
  exact ⟨sl',e2⟩
 ·obtain ⟨o',e1⟩:=I.base.there b o e hx
  exact free b o' (neC b o e hx) e1 (I.base.free b o e n hx)
 ·obtain ⟨o',e1⟩:=I.base.there b o e hx
  exact there b o' (neC b o e hx) e1
 ·obtain ⟨m1,e1⟩:=I.base.tbls b ps e
  obtain ⟨m2,e2⟩:=tbls b _ e1
  exact ⟨m1++m2,by rw [e2,Array.append_assoc]⟩
 ·obtain ⟨m,hn,hl⟩:=I.loc
  refine ⟨m,ns m hn,fun i x v e1 e2 e3=>?_⟩
  obtain ⟨u,r,l⟩:=hl i x v e1 e2 e3
  refine ⟨u,r,?_⟩
  rcases l with l | ⟨k,c,e,z⟩
  ·exact .inl l
  ·exact .inr ⟨k,c,e,cellK x c e _ z⟩
 ·obtain ⟨v,z⟩:=I.cell x c e
  exact ⟨v,cellK x c e v z⟩
 ·obtain ⟨m,⟨o,_,_,ho,_⟩,_⟩:=I.loc
  exact free _ o (fun z=>(hch _ z).2.1 rfl) ho I.free
 ·obtain ⟨v,o,ho,hd⟩:=I.cell x c e
  exact free c o (fun z=>(hch c z).2.2.1 x c e rfl) ho (I.freeC x c e)
 ·obtain ⟨e,n,ne,nf,d⟩:=I.pin p hp
  have nch:p.1 ∉ ch:=fun z=>(hch p.1 z).2.2.2 p hp rfl
  exact ⟨keep p.1 p.2 ne nf nch e n,free p.1 p.2 nch e n,ne,nf,d⟩
theorem Inv.un {t':Nat} (I:Inv X pins σ H s) (u:Un X.fs [] H H' s.heap h') (hok:HOk X.prog X.w H' h'):Inv X pins σ H' {s with heap:=h',toks:=t'}:=by
 obtain ⟨m,⟨o,es,ep,ho,r⟩,_⟩:=id I.loc
 obtain ⟨sl,hL⟩:=u.any ho I.free (by simp)
 exact I.step (g':=s.gens) (d':=s.drawn) (ch:=[]) (fun _ z=>nomatch z) (fun b o _ hb _ e n=>u.keep b o e n hb (by simp)) (fun b o _ hb _ e n=>u.slot b o e n hb (by simp)) (fun b o _ e n=>u.free b o e n (by simp)) (fun b o _ e=>u.there b o e (by simp)) u.tups u.frzs u.tbls (fun m' hm=>by
  obtain ⟨o',es',ep',ho',r'⟩:=hm
  rw [ho] at ho';cases ho'
  exact ⟨_,es',ep',hL,r'⟩) hok I.bare
theorem Inv.call {g':Array GenState} {t':Nat} {d':Drawn} {ch:List Addr} (I:Inv X pins σ H s) (u:Un (frs X.stack) ch H H' s.heap h') (hok:HOk X.prog X.w H' h') (hg:AllBare g')
  (hch:∀ b∈ch,(b∈X.ex∨X.s₀.heap.objs.size≤b)∧b≠X.env.locals∧(∀ x c,X.env.cells.lookup x=some c→c≠b)∧∀ p∈X.pn++pins,p.1≠b) :
  Inv X pins σ H' {s with heap:=h',gens:=g',drawn:=d',toks:=t'}:=by
 obtain ⟨m,⟨o,es,ep,ho,r⟩,_⟩:=id I.loc
 obtain ⟨sl,hL⟩:=u.any ho I.free fun z=>(hch _ z).2.1 rfl
 exact I.step (ch:=ch) hch (fun b o hL hb hc e n=>u.keep b o e n (fun z=>(List.mem_cons.mp (I.stkSub b z)).elim hL hb) hc) (fun b o _ _ hc e n=>u.any e n hc) (fun b o hc e n=>u.free b o e n hc) (fun b o hc e=>u.there b o e hc) u.tups u.frzs u.tbls (fun m' hm=>by
  obtain ⟨o',es',ep',ho',r'⟩:=hm
  rw [ho] at ho';cases ho'
  exact ⟨_,es',ep',hL,r'⟩) hok hg
theorem Inv.turned {t':Nat} {it:Addr} (I:Inv X pins σ H s) (k:∀ b o,b≠it→s.heap.get? b=some o→h'.get? b=some o) (hn:H it=none) (hL:it≠X.env.locals)
  (h1:it∈X.ex∨X.s₀.heap.objs.size≤it) (h2:∀ x c,X.env.cells.lookup x=some c→c≠it) (h3:∀ p∈X.pn++pins,p.1≠it):Inv X pins σ H {s with heap:=h',toks:=t'}:=by
 have nit:∀ b u,H b=some u→b≠it:=fun b u e z=>by rw [z,hn] at e;cases e
 refine I.step (g':=s.gens) (d':=s.drawn) (ch:=[it]) (fun b hb=>?_) (fun b o _ _ hc e _=>k b o (fun z=>hc (by simp [z])) e) (fun b o _ _ hc e _=>⟨o.slots,k b o (fun z=>hc (by simp [z])) e⟩) (fun _ _ _ _ n=>n)
  (fun b o hc e=>⟨o,k b o (fun z=>hc (by simp [z])) e⟩) (fun _ _ e=>e) (fun _ _ _ e=>e) (fun b ps e=>⟨#[],by rw [e];simp⟩) (fun m hm=>?_) (fun b u e=>?_) I.bare
 ·have e:b=it:=by simpa using hb
  subst e
  exact ⟨h1,hL,h2,h3⟩
 ·obtain ⟨o,es,ep,ho,r⟩:=hm
  exact ⟨o,es,ep,k _ o (Ne.symm hL) ho,r⟩
 ·refine (I.hok b u e).stay (fun c v hc q=>k c v ?_ q) (fun _ q=>q) fun _ _ q=>q
  rcases hc with z | z
  ·rw [z];exact nit b u e
  ·exact nit c _ z
theorem Inv.tok (I:Inv X pins σ H s) (t:Nat):Inv X pins σ H {s with toks:=t}:=I.un (h':=s.heap) (t':=t) Un.refl I.hok
theorem Inv.kept {t':Nat} (I:Inv X pins σ H s) (k:∀ b u,s.heap.get? b=some u→h'.get? b=some u):Inv X pins σ H {s with heap:=h',toks:=t'}:=I.un (Un.kept k) (I.hok.kept k)
theorem Inv.laid {a:Addr} {o:HO} {t':Nat} (I:Inv X pins σ H s) (k:∀ b u,s.heap.get? b=some u→h'.get? b=some u) (hp:s.heap.objs.size≤a) (new:Zam X.prog X.w (upd H a o) h' a o) :
  Inv X pins σ (upd H a o) {s with heap:=h',toks:=t'}:=I.un (Un.laid k hp (I.hok.fresh hp)) (I.hok.laid k hp new)
theorem Inv.write {x e:Addr} {o:HO} {t':Nat} (I:Inv X pins σ H s) (mu:Mut (H x)) (he:e=x∨H e=some (.own x)) (k:∀ b u,b≠e→s.heap.get? b=some u→h'.get? b=some u) (heo:∃ u,h'.get? e=some u)
  (new:Zam X.prog X.w (upd H x o) h' x o):Inv X pins σ (upd H x o) {s with heap:=h',toks:=t'}:=I.un (Un.write mu he k heo) (I.hok.write mu he k heo new)
theorem Inv.pins_of {pins':List (Addr×Obj)} (I:Inv X pins σ H s) (h:∀ p∈pins',s.heap.get? p.1=some p.2∧H p.1=none∧p.1≠X.env.locals∧p.1 ∉ X.fs∧∀ v,p.2.data≠.cell v):Inv X pins' σ H s:=
 ⟨I.ok,I.os,I.bare,I.base,I.loc,I.cell,I.free,I.freeC,fun p hp=>(List.mem_append.mp hp).elim (fun z=>I.pin p (List.mem_append_left _ z)) (h p),I.hok,I.len⟩
theorem ZwD {N:List Str} (hN:N.Nodup) {i j:Nat} {x:Str} (a:N[i]?=some x) (b:N[j]?=some x):i=j:=by
 obtain ⟨h1,e1⟩:=List.getElem?_eq_some_iff.mp a
 obtain ⟨h2,e2⟩:=List.getElem?_eq_some_iff.mp b
 exact (List.getElem_inj hN).mp (e1.trans e2.symm)
theorem ZxZ {M:Model} {A:Around} {E:Value→Shared→Prop} {i:Nat} {x:Str} {v:V} {u:Value} {Q:Unit→Shared→Prop} (I:Inv X pins σ H s) (hN:X.N.Nodup) (hi:X.N[i]?=some x) (hx:Loc X.env.scope x) (r:RelV v u)
  (h:∀ s',Inv X pins (σ.set i (some v)) H s'→(∃ a,Heap.SameBut a s.heap s'.heap∧(a=X.env.locals∨X.env.cells.lookup x=some a))→Q () s') (hf:X.fn x=true∨X.env.scope.names.lookup x=some .local:=by first | exact .inl rfl | exact .inr rfl | assumption):wpAny M A (storeName X.env x u) Q E s:=by
 obtain ⟨m,hn,hl⟩:=id I.loc
 have hcls:(X.env.scope.kind == .class || (X.env.scope.kind == .module && X.env.locals != X.env.globals))=false:=by rw [I.ok.kind];rfl
 have hiσ:i < σ.length:=by rw [I.len];exact (List.getElem?_eq_some_iff.mp hi).1
 have cne:=I.cne
 have tracked:∀ {a:Addr} {h':Heap},(∃ o,s.heap.get? a=some o∧H a=none)→Heap.SameBut a s.heap h'→HOk X.prog X.w H h':=fun {a h'} ha hs b ob e=>by
  obtain ⟨_,_,hfree⟩:=ha
  refine (I.hok b ob e).stay (fun c w' hc q=>(hs.2 c ?_).trans q) (fun _ q=>q) fun _ _ q=>q
  rintro rfl
  rcases hc with rfl | hc
  ·rw [hfree] at e;cases e
  ·rw [hfree] at hc;cases hc
 rcases hx with hk | hk
 ·refine wpAny_storeName_local hk hn (fun h' hn' hs=>?_) hcls
  obtain ⟨oL,_,_,hoL,_⟩:=id hn
  refine h _ ⟨I.ok,I.os,I.bare,⟨fun b o e n hb hx=>?_,fun b o e n hb hx=>?_,I.base.free,fun b o e hx=>?_,I.base.tups,I.base.frzs,I.base.tbls⟩,⟨_,hn',fun j y v' e1 e2 e3=>?_⟩,fun y c e=>?_,I.free,I.freeC,fun p hp=>?_,tracked ⟨oL,hoL,I.free⟩ hs,by simpa using I.len⟩ ⟨_,hs,.inl rfl⟩
  ·exact (hs.2 b (Nat.ne_of_lt (Nat.lt_of_lt_of_le (Heap.lt_size e) I.ok.above))).trans (I.base.keep b o e n hb hx)
  ·obtain ⟨sl,e1⟩:=I.base.slot b o e n hb hx
   exact ⟨sl,(hs.2 b (Nat.ne_of_lt (Nat.lt_of_lt_of_le (Heap.lt_size e) I.ok.above))).trans e1⟩
  ·obtain ⟨o',e1⟩:=I.base.there b o e hx
   exact ⟨o',(hs.2 b (Nat.ne_of_lt (Nat.lt_of_lt_of_le (Heap.lt_size e) I.ok.above))).trans e1⟩
  ·by_cases hj:j=i
   ·subst hj
    rw [hi] at e1;cases e1
    rw [List.getElem?_set_self hiσ] at e2
    cases e2
    exact ⟨u,r,.inl ⟨hk,by simp⟩⟩
   ·rw [List.getElem?_set_ne (Ne.symm hj)] at e2
    obtain ⟨u',r',q⟩:=hl j y v' e1 e2 e3
    refine ⟨u',r',?_⟩
    rcases q with ⟨k,e⟩ | ⟨k,c,e,z⟩
    ·refine .inl ⟨k,?_⟩
     have:y≠x:=fun e=>hj (ZwD hN e1 (e ▸ hi))
     simp [this,e]
    ·exact .inr ⟨k,c,e,z.sameBut hs (cne y c e)⟩
  ·obtain ⟨w',z⟩:=I.cell y c e
   exact ⟨w',z.sameBut hs (cne y c e)⟩
  ·obtain ⟨e,n,ne,nf,d⟩:=I.pin p hp
   exact ⟨(hs.2 p.1 ne).trans e,n,ne,nf,d⟩
 ·have hfn:X.fn x=true:=by
   rcases hf with z | z
   ·exact z
   ·rw [z] at hk;cases hk
  obtain ⟨c,hc⟩:=I.ok.has x (.inl hk)
  obtain ⟨w',z⟩:=I.cell x c hc
  refine wpAny_storeName_cell I.ok.kind hk hc z (fun h' hc' hs=>?_)
  obtain ⟨oc,hoc,hocd⟩:=id z
  refine h {s with heap:=h'} ⟨I.ok,I.os,I.bare,⟨fun b o e n hb hx=>?_,fun b o e n hb hx=>?_,I.base.free,fun b o e hx=>?_,I.base.tups,I.base.frzs,I.base.tbls⟩,⟨m,hn.sameBut hs (Ne.symm (cne x c hc)),fun j y v' e1 e2 e3=>?_⟩,fun y c' e=>?_,I.free,I.freeC,fun p hp=>?_,tracked ⟨oc,hoc,I.freeC x c hc⟩ hs,by simpa using I.len⟩ ⟨c,hs,.inr hc⟩
  ·exact (hs.2 b (Nat.ne_of_lt (Nat.lt_of_lt_of_le (Heap.lt_size e) (I.ok.cab x c hfn hc)))).trans (I.base.keep b o e n hb hx)
  ·obtain ⟨sl,e1⟩:=I.base.slot b o e n hb hx
   exact ⟨sl,(hs.2 b (Nat.ne_of_lt (Nat.lt_of_lt_of_le (Heap.lt_size e) (I.ok.cab x c hfn hc)))).trans e1⟩
  ·obtain ⟨o',e1⟩:=I.base.there b o e hx
   exact ⟨o',(hs.2 b (Nat.ne_of_lt (Nat.lt_of_lt_of_le (Heap.lt_size e) (I.ok.cab x c hfn hc)))).trans e1⟩
  ·by_cases hj:j=i
   ·subst hj
    rw [hi] at e1;cases e1
    rw [List.getElem?_set_self hiσ] at e2
    cases e2
    exact ⟨u,r,.inr ⟨.inl hk,c,hc,hc'⟩⟩
   ·rw [List.getElem?_set_ne (Ne.symm hj)] at e2
    obtain ⟨u',r',q⟩:=hl j y v' e1 e2 e3
    refine ⟨u',r',?_⟩
    rcases q with q | ⟨k,c',e,z'⟩
    ·exact .inl q
    ·refine .inr ⟨k,c',e,z'.sameBut hs ?_⟩
     rintro rfl
     exact hj (ZwD hN e1 (I.ok.inj _ _ _ e hc ▸ hi))
  ·by_cases hcc:c'=c
   ·subst hcc;exact ⟨_,hc'⟩
   ·obtain ⟨w2,z2⟩:=I.cell y c' e
    exact ⟨w2,z2.sameBut hs hcc⟩
  ·obtain ⟨e,n,ne,nf,d⟩:=I.pin p hp
   refine ⟨(hs.2 p.1 ?_).trans e,n,ne,nf,d⟩
   intro q
   rw [q,hoc] at e
   have q':oc=p.2:=Option.some.inj e
   exact d w' (by rw [← q'];exact hocd)
theorem Zvd {M:Model} {A:Around} {E:Value→Shared→Prop} {i:Nat} {x:Str} {v:V} {u:Value} {Q:Unit→Shared→Prop} (I:Inv X pins σ H s) (hN:X.N.Nodup) (hi:X.N[i]?=some x) (hx:Loc X.env.scope x) (r:RelV v u)
  (h:∀ s',Inv X pins (σ.set i (some v)) H s'→Q () s') (hf:X.fn x=true∨X.env.scope.names.lookup x=some .local:=by first | exact .inl rfl | exact .inr rfl | assumption):wpAny M A (storeName X.env x u) Q E s:=
 ZxZ I hN hi hx r (fun s' I' _=>h s' I') hf
theorem Inv.call' {s':Shared} {ch:List Addr} (I:Inv X pins σ H s) (ho:s'.os=s.os) (u:Un (frs X.stack) ch H H' s.heap s'.heap) (hok:HOk X.prog X.w H' s'.heap) (hg:AllBare s'.gens)
  (hch:∀ b∈ch,(b∈X.ex∨X.s₀.heap.objs.size≤b)∧b≠X.env.locals∧(∀ x c,X.env.cells.lookup x=some c→c≠b)∧∀ p∈X.pn++pins,p.1≠b):Inv X pins σ H' s':=by
 obtain ⟨h',g',d',t',o'⟩:=s'
 have e:o'=s.os:=ho
 subst e
 exact I.call (g':=g') (t':=t') (d':=d') u hok hg hch
end
abbrev XK:=Value→Option Addr→Hp→Prop
abbrev St:=List (Option V)
abbrev VK:=V→Hp→Prop
abbrev TE:=St→Hp→VK→Prop
abbrev TT:=St→Hp→(Bool→Hp→Prop)→Prop
abbrev TA:=St→Hp→(List V→Hp→Prop)→Prop
structure Ends where
 nx:St→Hp→Prop
 rt:VK
 bk:St→Hp→Prop:=fun _ _=>False
 ct:St→Hp→Prop:=fun _ _=>False
abbrev TS:=Ends→St→Hp→Prop
def EP (X:Cx) (pins:List (Addr×Obj)) (σ:St) (Q:VK) (u:Value) (s':Shared):Prop:=∃ v H',Inv X pins σ H' s'∧RelV v u∧Q v H'
def TP (X:Cx) (pins:List (Addr×Obj)) (σ:St) (Q:Bool→Hp→Prop) (b:Bool) (s':Shared):Prop:=∃ H',Inv X pins σ H' s'∧Q b H'
def AP (X:Cx) (pins:List (Addr×Obj)) (σ:St) (Q:List V→Hp→Prop) (us:List Value) (s':Shared):Prop:=∃ vs H',Inv X pins σ H' s'∧Vals vs us∧Q vs H'
def SP (X:Cx) (pins:List (Addr×Obj)) (D:Ends) (f:Flow) (s':Shared):Prop:=
 match f with
 | .next=>∃ σ' H',Inv X pins σ' H' s'∧D.nx σ' H'
 | .brk=>∃ σ' H',Inv X pins σ' H' s'∧D.bk σ' H'
 | .cont=>∃ σ' H',Inv X pins σ' H' s'∧D.ct σ' H'
 | .ret u=>∃ v σ' H',Inv X pins σ' H' s'∧RelV v u∧D.rt v H'
@[irreducible] def PE (X:Cx) (e:Expr) (t:TE):Prop:=
 ∀ (pins:List (Addr×Obj)) (s:Shared) (σ:St) (H:Hp) (Q:VK),Inv X pins σ H s→t σ H Q→wpAny (model X.prog X.w) X.A (eval e X.env) (EP X pins σ Q) X.xe s
def PT (X:Cx) (e:Expr) (t:TT):Prop:=
 ∀ (pins:List (Addr×Obj)) (s:Shared) (σ:St) (H:Hp) (Q:Bool→Hp→Prop),Inv X pins σ H s→t σ H Q→wpAny (model X.prog X.w) X.A (isTrue e X.env (eval e X.env)) (TP X pins σ Q) X.xe s
def PW (X:Cx) (e:Expr) (t:TT):Prop:=
 ∀ (whole:Sem Value) (pins:List (Addr×Obj)) (s:Shared) (σ:St) (H:Hp) (Q:Bool→Hp→Prop),Inv X pins σ H s→t σ H Q→wpAny (model X.prog X.w) X.A (isTrue e X.env whole) (TP X pins σ Q) X.xe s
theorem PW.pt {X:Cx} {e:Expr} {t:TT} (h:PW X e t):PT X e t:=h _
@[irreducible] def PA (X:Cx) (es:List Expr) (t:TA):Prop:=
 ∀ (pos:Pos) (pins:List (Addr×Obj)) (s:Shared) (σ:St) (H:Hp) (Q:List V→Hp→Prop),Inv X pins σ H s→t σ H Q→wpAny (model X.prog X.w) X.A (spliced (backTo pos (starEach es X.env))) (AP X pins σ Q) X.xe s
@[irreducible] def PS (X:Cx) (st:Stmt) (t:TS):Prop:=
 ∀ (pins:List (Addr×Obj)) (s:Shared) (σ:St) (H:Hp) (D:Ends),Inv X pins σ H s→t D σ H→wpAny (model X.prog X.w) X.A (exec st X.env) (SP X pins D) X.xe s
@[irreducible] def PSs (X:Cx) (st:List Stmt) (t:TS):Prop:=
 ∀ (pins:List (Addr×Obj)) (s:Shared) (σ:St) (H:Hp) (D:Ends),Inv X pins σ H s→t D σ H→wpAny (model X.prog X.w) X.A (execs st X.env) (SP X pins D) X.xe s
theorem thn {α:Type} {t:Sem α} {Q Q':α→Shared→Prop} {M:Model} {A:Around} {E:Value→Shared→Prop} {s:Shared} (h:wpAny M A t Q E s) (hQ:∀ a s,Q a s→Q' a s):wpAny M A t Q' E s:=wpAny_mono h hQ fun _ _ x=>x
end L2
namespace L2
open PySem PySem.Spec PyProof.Rows
section
variable {X:Cx}
def tVar (i:Nat):TE:=fun σ H Q=>∃ v,σ[i]?=some (some v)∧Q v H
def tC (v:V):TE:=fun _ H Q=>Q v H
theorem ZLh {i:Nat} {x:Str} {pos:Pos} (hN:X.N[i]?=some x) (hv:Vis X.env.scope x) (hd:(x == ("__debug__":Str))=false:=by decide) (hcd:(x == ("__classdict__":Str))=false:=by decide):PE X (.Name x pos) (tVar i):=by
 try unfold PE at *
 intro pins s σ H Q I h
 obtain ⟨v,e,h⟩:=h
 obtain ⟨m,hn,hl⟩:=I.loc
 obtain ⟨u,r,l⟩:=hl i x v hN e hv
 have fin:EP X pins σ Q u s:=⟨v,H,I,r,h⟩
 rcases l with ⟨hk,hm⟩ | ⟨hk,c,hc,hcell⟩
 ·exact wpAny_Name (wpAny_loadName_local I.ok.kind hk hn hm fin) hd
 ·rcases hk with hk | hk
  ·exact wpAny_Name (wpAny_loadName_cell I.ok.kind hk hc hcell fin) hd
  ·exact wpAny_Name (wpAny_loadName_free I.ok.kind hk hc hcell fin hcd) hd
theorem Zn {i j pos}:PE X (.Constant (.int i) j pos) (tC (.int i)):=by
 try unfold PE at *
 exact fun _ _ _ H _ I h=>wpAny_Constant_int ⟨.int i,H,I.tok _,⟨_,rfl⟩,h⟩
theorem ZvM {b j pos}:PE X (.Constant (.bool b) j pos) (tC (.bl b)):=by
 try unfold PE at *
 exact fun _ _ _ H _ I h=>Constant_bool ⟨.bl b,H,I,rfl,h⟩
theorem ZLj {j pos}:PE X (.Constant .none j pos) (tC .non):=by
 try unfold PE at *
 exact fun _ _ _ H _ I h=>Constant_none ⟨.non,H,I,rfl,h⟩
theorem Zo {x j pos}:PE X (.Constant (.str x) j pos) (tC (.str x)):=by
 try unfold PE at *
 exact fun _ _ _ H _ I h=>Calls.Constant_str ⟨.str x,H,I.tok _,⟨_,rfl⟩,h⟩
def Gl (X:Cx) (x:Str):Prop:=X.env.kindOf x=some .globalImplicit
theorem ZjU {E:Value→Shared→Prop} {pins:List (Addr×Obj)} {s:Shared} {σ:St} {H:Hp} {x:Str} {u:Value} {pos:Pos} {Q:Value→Shared→Prop} (I:Inv X pins σ H s) (hg:Gl X x) (hm:X.mg x=some u) (h:Q u s)
  (hd:(x == ("__debug__":Str))=false:=by decide):wpAny (model X.prog X.w) X.A (eval (.Name x pos) X.env) Q E s:=
 Calls.Name_function_global I.ok.kind hg (Calls.loadGlobal_global (by rw [I.ok.glob];exact I.mod.glob.keeps I.bk) hm h) hd
theorem ZrN {E:Value→Shared→Prop} {pins:List (Addr×Obj)} {s:Shared} {σ:St} {H:Hp} {x:Str} {u:Value} {pos:Pos} {Q:Value→Shared→Prop} (I:Inv X pins σ H s) (hg:Gl X x) (hm:X.mg x=none) (hv:bootBuiltins x=some u) (h:Q u s)
  (hn:x≠"__name__":=by decide) (hd:(x == ("__debug__":Str))=false:=by decide):wpAny (model X.prog X.w) X.A (eval (.Name x pos) X.env) Q E s:=by
 obtain ⟨mb,h1,h2⟩:=I.mod.blt
 exact Calls.Name_function_global I.ok.kind hg (Calls.loadGlobal_builtin (by rw [I.ok.glob];exact I.mod.glob.keeps I.bk) hm (by rw [I.ok.blt];exact h1.keeps I.bk) ((h2 x hn).trans hv) h) hd
theorem ZF {x:Str} {v:V} {u:Value} {pos:Pos} (hg:Gl X x) (hm:X.mg x=some u) (r:RelV v u) (hd:(x == ("__debug__":Str))=false:=by decide):PE X (.Name x pos) (tC v):=by
 try unfold PE at *
 exact
  fun _ _ _ H _ I h=>ZjU I hg hm ⟨v,H,I,r,h⟩ hd
theorem ZJP {x:Str} {v:V} {u:Value} {pos:Pos} (hg:Gl X x) (hm:X.mg x=none) (hv:bootBuiltins x=some u) (r:RelV v u) (hn:x≠"__name__":=by decide) (hd:(x == ("__debug__":Str))=false:=by decide):PE X (.Name x pos) (tC v):=by
 try unfold PE at *
 exact
  fun _ _ _ H _ I h=>ZrN I hg hm hv ⟨v,H,I,r,h⟩ hn hd
variable {a b:Expr} {ta tb:TE} {pos:Pos}
def PC (X:Cx) (op:CmpOp) (a b:Expr) (t:TE):Prop:=
 ∀ (pins:List (Addr×Obj)) (s:Shared) (σ:St) (H:Hp) (Q:VK),Inv X pins σ H s→t σ H Q→
  wpAny (model X.prog X.w) X.A (eval a X.env) (fun v s₁=>wpAny (model X.prog X.w) X.A (eval b X.env) (fun u s₂=>wpAny (model X.prog X.w) X.A (compareOp op v u) (EP X pins σ Q) X.xe s₂) X.xe s₁) X.xe s
theorem ZC9 (b:Expr) {op:CmpOp} (h:op≠.In) (h2:op≠.NotIn):behindInMarks op b=false:=by
 have e1:(op == CmpOp.In)=false:=by cases op <;> first | rfl | exact absurd rfl h
 have e2:(op == CmpOp.NotIn)=false:=by cases op <;> first | rfl | exact absurd rfl h2
 cases b <;> simp [behindInMarks,e1,e2]
def tIsN (ta:TE):TE:=fun σ H Q=>ta σ H fun x H1=>Q (.bl (decide (x=.non))) H1
theorem RelV.none_iff {x:V} {v:Value} (r:RelV x v):(v == Value.none)=decide (x=.non):=by
 cases x with
 | non=>cases r;rfl
 | bl _=>cases r;rfl
 | int _=>obtain ⟨t,rfl⟩:=r;rfl
 | str _=>obtain ⟨t,rfl⟩:=r;rfl
 | byt _=>obtain ⟨t,rfl⟩:=r;rfl
 | flt _=>obtain ⟨t,rfl⟩:=r;rfl
 | ref _=>cases r;rfl
 | ty _=>cases r;rfl
theorem ZFT {j pos'} (ha:PE X a ta):PC X .Is a (.Constant .none j pos') (tIsN ta):=by
 try unfold PE at *
 intro pins s σ H Q I h
 refine thn (ha pins s σ H _ I h) fun v s1 ⟨x,H1,I1,r1,q1⟩=>?_
 exact Constant_none (is_none_gen ⟨.bl _,H1,I1,by rw [r1.none_iff];rfl,q1⟩)
def tB (t:TE):TT:=fun σ H Q=>t σ H fun x H1=>∃ c,x=.bl c∧Q c H1
theorem ZIP {op:CmpOp} {t:TE} (h:PC X op a b t) (h1:behindInMarks op b=false:=by first | exact ZC9 _ (by decide) (by decide) | rfl):PE X (.Compare a [op] [b] pos) t:=by
 try unfold PE at *
 exact fun pins s σ H Q I hw=>wpAny_Compare1 (h pins s σ H Q I hw) h1
theorem ZfT {op:CmpOp} {t:TE} (h:PC X op a b t) (h1:behindInMarks op b=false:=by first | exact ZC9 _ (by decide) (by decide) | rfl):PT X (.Compare a [op] [b] pos) (tB t):=by
 try unfold PE at *;try unfold PA at *
 intro pins s σ H Q I hw
 refine wpAny_isTrue_Compare1 (thn (h pins s σ H _ I hw) fun v s1 h1=>thn h1 fun u s2 h2=>thn h2 fun c s3 ⟨x,H1,I1,r1,q1⟩=>?_) h1
 obtain ⟨d,rfl,q⟩:=q1
 cases r1
 exact wpAny_truthy_bool ⟨H1,I1,q⟩
theorem Zrh {e:Expr} {t:TE} (h:PE X e t) (he:∀ whole,isTrue e X.env whole=(do let v ← whole;standAt e.pos;holding [v] (truthy v)):=by intro _;rfl):PT X e (tB t):=by
 try unfold PE at *
 intro pins s σ H Q I hw
 refine isTrue_plain (thn (h pins s σ H _ I hw) fun v s1 ⟨x,H1,I1,r1,q1⟩=>?_) (he _)
 obtain ⟨d,rfl,q⟩:=q1
 cases r1
 exact wpAny_truthy_bool ⟨H1,I1,q⟩
variable {tA tB':TT} {rest:List Expr}
def tOr (t u:TT):TT:=fun σ H Q=>t σ H fun c H1=>if c=true then Q true H1 else u σ H1 Q
def tNot (t:TT):TT:=fun σ H Q=>t σ H fun c H1=>Q (!c) H1
theorem Zt7 (ha:PT X a tA):PW X (.BoolOp .Or [a] pos) tA:=by
 try unfold PE at *;try unfold PA at *
 intro wh pins s σ H Q I h
 refine isTrue_or (thn (ha pins s σ H Q I h) fun c s1 e=>?_)
 cases c with
 | false=>exact isTrue_or_nil e
 | true=>exact e
theorem Zrg (ha:PT X a tA) (hb:PW X (.BoolOp .Or (b::rest) pos) tB'):PW X (.BoolOp .Or (a::b::rest) pos) (tOr tA tB'):=by
 try unfold PE at *;try unfold PA at *
 intro wh pins s σ H Q I h
 refine isTrue_or (thn (ha pins s σ H _ I h) fun c s1 ⟨H1,I1,q1⟩=>?_)
 cases c with
 | true=>exact ⟨H1,I1,q1⟩
 | false=>exact hb wh pins s1 σ H1 Q I1 q1
theorem Zri (ha:PT X a tA):PT X (.UnaryOp .Not a pos) (tNot tA):=by
 try unfold PE at *;try unfold PA at *
 intro pins s σ H Q I h
 exact isTrue_not (ha pins s σ H (fun c H1=>Q (!c) H1) I h)
def ZMk (ta tb:TE):TE:=fun σ H Q=>ta σ H fun x H1=>∃ c,x=.bl c∧if c=true then tb σ H1 Q else Q (.bl false) H1
def tOrV (ta tb:TE):TE:=fun σ H Q=>ta σ H fun x H1=>∃ c,x=.bl c∧if c=true then Q (.bl true) H1 else tb σ H1 Q
theorem ZFS {op} {t:TE} (h:PE X a t):PE X (.BoolOp op [a] pos) t:=by
 try unfold PE at *
 exact fun pins s σ H Q I hw=>BoolOp_one (h pins s σ H Q I hw)
theorem ZLm (ha:PE X a ta) (hb:PE X (.BoolOp .And (b::rest) pos) tb):PE X (.BoolOp .And (a::b::rest) pos) (ZMk ta tb):=by
 try unfold PE at *
 intro pins s σ H Q I h
 refine BoolOp_and (thn (ha pins s σ H _ I h) fun v s1 ⟨x,H1,I1,r1,q1⟩=>?_)
 obtain ⟨c,rfl,q1⟩:=q1
 cases r1
 refine wpAny_truthy_bool ?_
 cases c with
 | true=>exact hb pins s1 σ H1 Q I1 q1
 | false=>exact ⟨.bl false,H1,I1,rfl,q1⟩
theorem ZLi (ha:PE X a ta) (hb:PE X (.BoolOp .Or (b::rest) pos) tb):PE X (.BoolOp .Or (a::b::rest) pos) (tOrV ta tb):=by
 try unfold PE at *
 intro pins s σ H Q I h
 refine BoolOp_or (thn (ha pins s σ H _ I h) fun v s1 ⟨x,H1,I1,r1,q1⟩=>?_)
 obtain ⟨c,rfl,q1⟩:=q1
 cases r1
 refine wpAny_truthy_bool ?_
 cases c with
 | false=>exact hb pins s1 σ H1 Q I1 q1
 | true=>exact ⟨.bl true,H1,I1,rfl,q1⟩
def tIf (t:TT) (ta tb:TE):TE:=fun σ H Q=>t σ H fun c H1=>if c=true then ta σ H1 Q else tb σ H1 Q
theorem ZHM {c:Expr} (hc:PT X c tA) (ha:PE X a ta) (hb:PE X b tb):PE X (.IfExp c a b pos) (tIf tA ta tb):=by
 try unfold PE at *
 intro pins s σ H Q I h
 refine wpAny_IfExp (thn (hc pins s σ H _ I h) fun d s1 ⟨H1,I1,q1⟩=>?_)
 cases d with
 | true=>exact ha pins s1 σ H1 Q I1 q1
 | false=>exact hb pins s1 σ H1 Q I1 q1
end
end L2
namespace L2
open PySem PySem.Spec PyProof.Rows
def SqL (K:PySem.W.Frag) (H:Hp) (a:Addr) (xs:List V):Prop:=
 Rd H a (.lst xs)∨
  ∃ (o:Obj) (its:Array Value) (n:Nat),K.lookup a=some o∧o.cls=.type "list"∧o.dict=none∧o.data=.seq its n∧its.size≤sizeLine∧Vals xs its.toList
def SqT (K:PySem.W.Frag) (H:Hp) (a:Addr) (xs:List V):Prop:=
 Rd H a (.tup xs)∨
  ∃ (o:Obj) (its:Array Value) (n:Nat),K.lookup a=some o∧o.cls=.type "tuple"∧o.data=.seq its n∧its.size≤sizeLine∧Vals xs its.toList
def absV:Value→Option V
 | .none=>some .non
 | .bool b=>some (.bl b)
 | .int i _=>some (.int i)
 | .str x _=>some (.str x)
 | .bytes b _=>some (.byt b)
 | .float b _=>some (.flt b)
 | .ref a=>some (.ref a)
 | .type n=>some (.ty n)
 | _=>none
theorem RelV.abs {x:V} {u:Value} (r:RelV x u):absV u=some x:=by
 cases x with
 | non=>cases r;rfl
 | bl _=>cases r;rfl
 | int _=>obtain ⟨t,rfl⟩:=r;rfl
 | str _=>obtain ⟨t,rfl⟩:=r;rfl
 | byt _=>obtain ⟨t,rfl⟩:=r;rfl
 | flt _=>obtain ⟨t,rfl⟩:=r;rfl
 | ref _=>cases r;rfl
 | ty _=>cases r;rfl
theorem RelV.inj {x y:V} {u:Value} (r:RelV x u) (q:RelV y u):x=y:=Option.some.inj (r.abs.symm.trans q.abs)
theorem Vals.inj:∀ {xs ys:List V} {us:List Value},Vals xs us→Vals ys us→xs=ys
 | _,_,_,.nil,.nil=>rfl
 | _,_,_,.cons r t,.cons r' t'=>by rw [r.inj r',Vals.inj t t']
section
variable {X:Cx} {pins:List (Addr×Obj)} {σ:St} {H:Hp} {s:Shared} {a:Addr} {xs ys:List V}
theorem SqL.of {K:PySem.W.Frag} (h:H a=some (.lst xs)):SqL K H a xs:=.inl (.inl h)
theorem SqT.of {K:PySem.W.Frag} (h:H a=some (.tup xs)):SqT K H a xs:=.inl (.inl h)
theorem Inv.list (I:Inv X pins σ H s) (h:SqL X.K H a xs):∃ its:List Value,Vals xs its∧PlainL s.heap a its.toArray∧xs.length≤sizeLine:=by
 rcases h with h | ⟨o,its,n,hk,hc,hd,hs,hz,r⟩
 ·obtain ⟨z,its,n,r,e⟩:=h.ok I.hok
  exact ⟨its,r,⟨_,n,e,rfl,rfl,rfl⟩,z⟩
 ·refine ⟨its.toList,r,⟨o,n,I.kIn a o hk,hc,hd,by simpa using hs⟩,?_⟩
  have e:=r.length
  simp only [Array.length_toList] at e
  omega
theorem Inv.tuple (I:Inv X pins σ H s) (h:SqT X.K H a xs):∃ its:List Value,Vals xs its∧IsTup s.heap a its.toArray∧xs.length≤sizeLine:=by
 rcases h with h | ⟨o,its,n,hk,hc,hs,hz,r⟩
 ·obtain ⟨z,its,r,p⟩:=h.ok I.hok
  exact ⟨its,r,p,z⟩
 ·refine ⟨its.toList,r,⟨o,I.kIn a o hk,hc,n,by simpa using hs⟩,?_⟩
  have e:=r.length
  simp only [Array.length_toList] at e
  omega
theorem Inv.list_inj (I:Inv X pins σ H s) (h:SqL X.K H a xs) (h':SqL X.K H a ys):xs=ys:=by
 obtain ⟨its,r,⟨o,n,e,_,_,d⟩,_⟩:=I.list h
 obtain ⟨its',r',⟨o',n',e',_,_,d'⟩,_⟩:=I.list h'
 rw [e] at e';cases e'
 rw [d] at d'
 injection d' with d1 _
 have:its=its':=by simpa using congrArg Array.toList d1
 subst this
 exact r.inj r'
theorem Inv.tuple_inj (I:Inv X pins σ H s) (h:SqT X.K H a xs) (h':SqT X.K H a ys):xs=ys:=by
 obtain ⟨its,r,⟨o,e,_,n,d⟩,_⟩:=I.tuple h
 obtain ⟨its',r',⟨o',e',_,n',d'⟩,_⟩:=I.tuple h'
 rw [e] at e';cases e'
 rw [d] at d'
 injection d' with d1 _
 have:its=its':=by simpa using congrArg Array.toList d1
 subst this
 exact r.inj r'
end
abbrev Cx.wish (X:Cx) (E:Value→Shared→Prop):Cx:={X with xe:=E}
abbrev Cx.nox (X:Cx):Cx:=X.wish fun _ _=>False
theorem Cx.Ok.wish {X:Cx} (ok:X.Ok) (E:Value→Shared→Prop):(X.wish E).Ok:=
 ⟨ok.mod,ok.kind,ok.glob,ok.blt,ok.above,ok.inj,ok.has,ok.cab,ok.hd,ok.frames,ok.stk,ok.exf,ok.bs,ok.bsz,ok.noex,ok.exfs,ok.funs,ok.frf⟩
theorem Cx.Ok.unwish {X:Cx} {E:Value→Shared→Prop} (ok:(X.wish E).Ok):X.Ok:=
 ⟨ok.mod,ok.kind,ok.glob,ok.blt,ok.above,ok.inj,ok.has,ok.cab,ok.hd,ok.frames,ok.stk,ok.exf,ok.bs,ok.bsz,ok.noex,ok.exfs,ok.funs,ok.frf⟩
section
variable {X:Cx} {pins:List (Addr×Obj)} {σ:St} {H:Hp} {s:Shared} {E:Value→Shared→Prop}
theorem Inv.wish (I:Inv X pins σ H s) (E:Value→Shared→Prop):Inv (X.wish E) pins σ H s:=⟨I.ok.wish E,I.os,I.bare,I.base,I.loc,I.cell,I.free,I.freeC,I.pin,I.hok,I.len⟩
theorem Inv.unwish (I:Inv (X.wish E) pins σ H s):Inv X pins σ H s:=⟨I.ok.unwish,I.os,I.bare,I.base,I.loc,I.cell,I.free,I.freeC,I.pin,I.hok,I.len⟩
theorem SP.unwish {D:Ends} {f:Flow} {s':Shared} (h:SP (X.wish E) pins D f s'):SP X pins D f s':=by
 cases f with
 | next=>obtain ⟨σ',H',I,q⟩:=h;exact ⟨σ',H',I.unwish,q⟩
 | brk=>obtain ⟨σ',H',I,q⟩:=h;exact ⟨σ',H',I.unwish,q⟩
 | cont=>obtain ⟨σ',H',I,q⟩:=h;exact ⟨σ',H',I.unwish,q⟩
 | ret u=>obtain ⟨v,σ',H',I,r,q⟩:=h;exact ⟨v,σ',H',I.unwish,r,q⟩
theorem PSs.nox {st:List Stmt} {t:TS} (h:PSs X.nox st t):PSs X st t:=by
 try unfold PSs at *
 exact fun pins s σ H D I hw=>
  wpAny_mono (h pins s σ H D (I.wish _) hw) (fun _ _ q=>q.unwish) fun _ _ z=>False.elim z
end
section
variable {X:Cx} {st:Stmt} {rest:List Stmt} {t u:TS} {e:Expr} {te:TE} {pos:Pos}
def ZMf:TS:=fun D σ H=>D.nx σ H
def tSeq (t u:TS):TS:=fun D σ H=>t {D with nx:=u D} σ H
theorem ZT:PSs X [] ZMf:=by
 try unfold PSs at *
 exact fun _ _ σ H _ I h=>wpAny_execs_nil ⟨σ,H,I,h⟩
theorem Ze (h1:PS X st t) (h2:PSs X rest u):PSs X (st::rest) (tSeq t u):=by
 try unfold PS at *;try unfold PSs at *
 intro pins s σ H D I h
 refine wpAny_execs_cons (thn (h1 pins s σ H {D with nx:=u D} I h) fun f s1 q=>?_)
 cases f with
 | next=>
  obtain ⟨σ',H',I',q⟩:=q
  exact h2 pins s1 σ' H' D I' q
 | ret v=>exact q
 | brk=>exact q
 | cont=>exact q
theorem Zi (h1:PS X st t):PSs X [st] t:=by
 try unfold PS at *;try unfold PSs at *
 intro pins s σ H D I h
 refine wpAny_execs_cons (thn (h1 pins s σ H D I h) fun f s1 q=>?_)
 cases f with
 | next=>exact wpAny_execs_nil q
 | ret v=>exact q
 | brk=>exact q
 | cont=>exact q
theorem Inv.quiet {pins:List (Addr×Obj)} {σ:St} {H:Hp} {s:Shared} (I:Inv X pins σ H s):interactive X.env=false:=by simp [interactive,I.ok.kind]
def ZMh (te:TE):TS:=fun D σ H=>te σ H fun _ H1=>D.nx σ H1
theorem Zah (he:PE X e te) (hs:swapsWith e none pos.line X.env=pure false:=by rfl):PS X (.Expr e pos) (ZMh te):=by
 try unfold PE at *;try unfold PS at *
 intro pins s σ H D I h
 exact wpAny_Expr_any (thn (he pins s σ H _ I h) fun v s1 ⟨x,H1,I1,r1,q1⟩=>⟨σ,H1,I1,q1⟩) I.quiet hs
def tRet (te:TE):TS:=fun D σ H=>te σ H D.rt
theorem ZE (he:PE X e te):PS X (.Return (some e) pos) (tRet te):=by
 try unfold PE at *;try unfold PS at *
 intro pins s σ H D I h
 exact wpAny_Return_some (thn (he pins s σ H _ I h) fun v s1 ⟨x,H1,I1,r1,q1⟩=>⟨x,σ,H1,I1,r1,q1⟩)
def tIfS (c:TT) (t u:TS):TS:=fun D σ H=>c σ H fun b H1=>if b=true then t D σ H1 else u D σ H1
theorem ZbK {c:Expr} {a b:List Stmt} {tc:TT} (hc:PT X c tc) (ha:PSs X a t) (hb:PSs X b u):PS X (.If c a b pos) (tIfS tc t u):=by
 try unfold PS at *;try unfold PSs at *
 intro pins s σ H D I h
 refine wpAny_If (thn (hc pins s σ H _ I h) fun d s1 ⟨H1,I1,q1⟩=>?_)
 cases d with
 | true=>exact ha pins s1 σ H1 D I1 q1
 | false=>exact hb pins s1 σ H1 D I1 q1
end
abbrev TG:=V→St→Hp→(St→Hp→Prop)→Prop
abbrev TGs:=List V→St→Hp→(St→Hp→Prop)→Prop
def PG (X:Cx) (target:Expr) (t:TG):Prop:=
 ∀ (pins:List (Addr×Obj)) (s:Shared) (σ:St) (H:Hp) (v:V) (u:Value) (Q:St→Hp→Prop),Inv X pins σ H s→RelV v u→t v σ H Q→
  wpAny (model X.prog X.w) X.A (assign target X.env u) (fun _ s'=>∃ σ' H',Inv X pins σ' H' s'∧Q σ' H') X.xe s
def PGs (X:Cx) (ts:List Expr) (t:TGs):Prop:=
 ∀ (pins:List (Addr×Obj)) (s:Shared) (σ:St) (H:Hp) (vs:List V) (us:List Value) (Q:St→Hp→Prop),Inv X pins σ H s→Vals vs us→t vs σ H Q→
  wpAny (model X.prog X.w) X.A (assignInOrder ((assignEach ts X.env).map (·.2)) us) (fun _ s'=>∃ σ' H',Inv X pins σ' H' s'∧Q σ' H') X.xe s
abbrev TSet:=V→V→V→Hp→(Hp→Prop)→Prop
def PSet (X:Cx) (t:TSet):Prop:=
 ∀ (pins:List (Addr×Obj)) (s:Shared) (σ:St) (H:Hp) (o i v:V) (ov iv u:Value) (Q:Hp→Prop),Inv X pins σ H s→RelV o ov→RelV i iv→RelV v u→t o i v H Q→
  wpAny (model X.prog X.w) X.A (setItem ov iv u) (fun _ s'=>∃ H',Inv X pins σ H' s'∧Q H') X.xe s
section
variable {X:Cx} {pos:Pos}
def ZEF (i:Nat):TG:=fun v σ H Q=>Q (σ.set i (some v)) H
theorem ZQ {i:Nat} {x:Str} (hN:X.N.Nodup) (hi:X.N[i]?=some x) (hx:Loc X.env.scope x) (hf:X.fn x=true∨X.env.scope.names.lookup x=some .local:=by first | exact .inl rfl | exact .inr rfl | assumption):PG X (.Name x pos) (ZEF i):=by
 intro pins s σ H v u Q I r h
 exact wpAny_assign_Name (Zvd I hN hi hx r (fun s' I'=>⟨_,H,I',h⟩) hf)
def gNil:TGs:=fun vs σ H Q=>vs=[]∧Q σ H
def ZMC (t:TG) (u:TGs):TGs:=fun vs σ H Q=>∃ v r,vs=v::r∧t v σ H fun σ' H'=>u r σ' H' Q
theorem Zrp:PGs X [] gNil:=by
 intro pins s σ H vs us Q I r h
 obtain ⟨e,h⟩:=h
 subst e
 cases r
 exact assignInOrder_nil ⟨σ,H,I,h⟩
theorem Zcm {e:Expr} {es:List Expr} {t:TG} {u:TGs} (h1:PG X e t) (h2:PGs X es u)
  (hs:(assignEach (e::es) X.env).map (·.2)=assign e X.env::(assignEach es X.env).map (·.2):=by rfl):PGs X (e::es) (ZMC t u):=by
 try unfold PE at *;try unfold PA at *
 intro pins s σ H vs us Q I r h
 obtain ⟨v,vr,e1,h⟩:=h
 subst e1
 cases r with
 | cons r rr=>
  rw [hs]
  refine assignInOrder_cons (thn (h1 pins s σ H _ _ _ I r h) fun _ s1 ⟨σ1,H1,I1,q1⟩=>?_)
  exact h2 pins s1 σ1 H1 _ _ Q I1 rr q1
def gTup (K:PySem.W.Frag) (n:Nat) (t:TGs):TG:=fun v σ H Q=>∃ a xs,v=.ref a∧SqT K H a xs∧xs.length=n∧t xs σ H Q
theorem Zys {es:List Expr} {k:Nat} {t:TGs} {n:Nat} (hc:X.calm=true) (h:PGs X es t)
  (hn:(assignEach es X.env).length=n:=by rfl) (hst:(assignEach es X.env).findIdx? (·.1)=none:=by rfl):PG X (.Tuple es k pos) (gTup X.K n t):=by
 intro pins s σ H v u Q I r hw
 obtain ⟨a,xs,e1,hq,hl,hw⟩:=hw
 subst e1
 cases r
 obtain ⟨its,rv,ht,hz⟩:=I.tuple hq
 refine assign_Tuple_tuple (I.ok.hd hc) ht (by simp [hn,← hl,rv.length]) hst fun h' hx=>?_
 have I1:Inv X pins σ H {s with heap:=h'}:=I.kept (t':=s.toks) fun b o e=>hx b o (Nat.ne_of_lt (Heap.lt_size e)) e
 exact h pins _ σ H xs _ Q I1 (by simpa using rv) hw
def gSub (to ti:TE) (t:TSet):TG:=fun v σ H Q=>to σ H fun o H1=>ti σ H1 fun i H2=>t o i v H2 fun H3=>Q σ H3
theorem ZLg {o i:Expr} {to ti:TE} {t:TSet} (ho:PE X o to) (hi:PE X i ti) (hs:PSet X t)
  (ha:∀ v,assign (.Subscript o i pos) X.env v=(do
   let ov ← holding [v] (eval o X.env)
   let iv ← holding [v,ov] (eval i X.env)
   standAt pos
   holding [v,ov,iv] (setItem ov iv v)
   release [v,ov,iv] []):=by intro _;rfl):PG X (.Subscript o i pos) (gSub to ti t):=by
 try unfold PE at *
 intro pins s σ H v u Q I r h
 rw [ha]
 refine wpAny_bind (wpAny_holding (thn (ho pins s σ H _ I h) fun ov s1 ⟨x,H1,I1,r1,q1⟩=>?_))
 refine wpAny_bind (wpAny_holding (thn (hi pins s1 σ H1 _ I1 q1) fun iv s2 ⟨y,H2,I2,r2,q2⟩=>?_))
 refine wpAny_bind (wpAny_standAt (wpAny_bind (wpAny_holding (thn (hs pins s2 σ H2 x y v ov iv u _ I2 r1 r2 r q2) fun _ s3 ⟨H3,I3,q3⟩=>?_))))
 exact wpAny_release ⟨σ,H3,I3,q3⟩
def tAsg (te:TE) (g:TG):TS:=fun D σ H=>te σ H fun x H1=>g x σ H1 D.nx
theorem ZLe {tg e:Expr} {te:TE} {g:TG} (he:PE X e te) (hg:PG X tg g) (hs:swapsWithSole [tg] e pos.line X.env=pure false:=by rfl) (hw:swappedStores [tg] e X.env=pure none:=by rfl)
  (h1:(assignEach [tg] X.env).map (·.2)=[assign tg X.env]:=by rfl):PS X (.Assign [tg] e pos) (tAsg te g):=by
 try unfold PE at *;try unfold PS at *
 intro pins s σ H D I h
 refine wpAny_Assign_stores (thn (he pins s σ H _ I h) fun v s1 ⟨x,H1,I1,r1,q1⟩=>?_) hs hw
 rw [h1]
 exact thn (hg pins s1 σ H1 x v _ I1 r1 q1) fun _ s2 q=>q
theorem ZI {i:Nat} {x:Str} {e:Expr} {te:TE} {pos':Pos} (hN:X.N.Nodup) (hi:X.N[i]?=some x) (hx:Loc X.env.scope x) (he:PE X e te) (hs:swapsWith e (some (.Name x pos')) pos.line X.env=pure false:=by rfl) (hf:X.fn x=true∨X.env.scope.names.lookup x=some .local:=by first | exact .inl rfl | exact .inr rfl | assumption) :
  PS X (.Assign [.Name x pos'] e pos) (tAsg te (ZEF i)):=by
 try unfold PE at *;try unfold PS at *
 intro pins s σ H D I h
 refine wpAny_Assign_Name (thn (he pins s σ H _ I h) fun v s1 ⟨y,H1,I1,r1,q1⟩=>?_) hs
 exact Zvd I1 hN hi hx r1 (fun s2 I2=>⟨_,H1,I2,q1⟩) hf
end
section
variable {X:Cx} {pos:Pos}
end
structure It where
 go:Nat→Hp→Prop
 yld:Nat→Hp→V→Hp→Prop
 stop:Nat→Hp→Prop
def FpOk (X:Cx) (pins:List (Addr×Obj)) (H:Hp) (b:Addr):Prop:=
 H b=none∧b≠X.env.locals∧b ∉ X.fs∧(b∈X.ex∨X.s₀.heap.objs.size≤b)∧(∀ x c,X.env.cells.lookup x=some c→c≠b)∧∀ p∈X.pn++pins,p.1≠b
theorem Inv.fpOk {X:Cx} {pins:List (Addr×Obj)} {σ:St} {H H':Hp} {s:Shared} {b:Addr} (I:Inv X pins σ H s) (hb:s.heap.objs.size≤b) (hn:H' b=none):FpOk X pins H' b:=by
 refine ⟨hn,Nat.ne_of_gt (Nat.lt_of_lt_of_le I.lt hb),I.nofs hb,.inr (Nat.le_trans I.sz hb),fun x c e z=>?_,fun p hp z=>?_⟩
 ·obtain ⟨v,q⟩:=I.cell x c e
  exact absurd (Nat.lt_of_lt_of_le q.lt (by rw [z];exact hb)) (Nat.lt_irrefl _)
 ·exact absurd (Nat.lt_of_lt_of_le (Heap.lt_size (I.pin p hp).1) (by rw [z];exact hb)) (Nat.lt_irrefl _)
structure Turn (P:Program) (w:World) (K:PySem.W.Frag) (tg:Expr) (J:It) (fp:List Addr) (it:Addr) (tn:Nat→Heap→Prop):Prop where
 mem:it∈fp
 obj:∀ i h,tn i h→∀ b∈fp,∃ o,h.get? b=some o∧∀ v,o.data≠.cell v
 keep:∀ i h h',tn i h→(∀ b∈fp,∀ o,h.get? b=some o→h'.get? b=some o)→tn i h'
 item:∀ (X:Cx),X.prog=P→X.w=w→X.K=K→X.calm=true→∀ (i:Nat) (pins:List (Addr×Obj)) (s:Shared) (σ:St) (H:Hp) (E:Value→Shared→Prop),Inv X pins σ H s→(∀ b∈fp,FpOk X pins H b)→tn i s.heap→J.go i H→
  wpAny (model P w) X.A (pyNext (.ref it)) (fun r s1=>∃ u,r=some u∧
   wpAny (model P w) X.A (letOwnedTupleGo tg (.ref it) u) (fun _ s2=>∃ x H',Inv X pins σ H' s2∧RelV x u∧J.yld i H x H'∧tn (i + 1) s2.heap∧∀ b∈fp,H' b=none) E s1) E s
 done:∀ (X:Cx),X.prog=P→X.w=w→X.K=K→X.calm=true→∀ (i:Nat) (pins:List (Addr×Obj)) (s:Shared) (σ:St) (H:Hp) (E:Value→Shared→Prop),Inv X pins σ H s→(∀ b∈fp,FpOk X pins H b)→tn i s.heap→J.stop i H→
  wpAny (model P w) X.A (pyNext (.ref it)) (fun r s1=>r=none∧Inv X pins σ H s1) E s
 self:∀ (A:Around) (i:Nat) (s:Shared) (Q:Value→Shared→Prop) (E:Value→Shared→Prop),tn i s.heap→Q (.ref it) s→wpAny (model P w) A (pyIter (.ref it)) Q E s
abbrev TI:=St→Hp→(It→Hp→Prop)→Prop
def PIE (X:Cx) (pins:List (Addr×Obj)) (σ:St) (tg:Expr) (R:It→Hp→Prop) (itv:Value) (s2:Shared):Prop:=
 ∃ (it:Addr) (fp:List Addr) (tn:Nat→Heap→Prop) (J:It) (H':Hp),itv=.ref it∧Inv X pins σ H' s2∧Turn X.prog X.w X.K tg J fp it tn∧tn 0 s2.heap∧(∀ b∈fp,FpOk X pins H' b)∧R J H'
def PI (X:Cx) (tg iter:Expr) (wi:TI):Prop:=
 ∀ (pins:List (Addr×Obj)) (s:Shared) (σ:St) (H:Hp) (R:It→Hp→Prop),Inv X pins σ H s→wi σ H R→
  wpAny (model X.prog X.w) X.A (eval iter X.env) (fun v s1=>wpAny (model X.prog X.w) X.A (pyIter v) (PIE X pins σ tg R) X.xe s1) X.xe s
theorem ZIi {M:Model} {A:Around} {E:Value→Shared→Prop} {s:Shared} {tg:Expr} {it:Addr} {u:Value} {o:Obj} {n:String} {vs:Array Value} {Q:Unit→Shared→Prop} (ho:s.heap.get? it=some o) (hc:o.cls=.type n) (hd:o.data=.fields vs)
    (hn:["enumerate","zip","dict_itemiterator","dict_reverseitemiterator","odict_iterator","itertools.zip_longest","itertools.pairwise"].contains n=false) (hQ:Q () s):wpAny M A (letOwnedTupleGo tg (.ref it) u) Q E s:=by
  unfold letOwnedTupleGo
  cases tg <;> first
    | exact wpAny_pure hQ
    | (cases u <;> first
        | exact wpAny_pure hQ
        | (refine wpAny_bind (wpAny_load ho ?_)
           rw [hc,hd]
           show wpAny M A (if (["enumerate","zip","dict_itemiterator","dict_reverseitemiterator","odict_iterator","itertools.zip_longest","itertools.pairwise"].contains n && vs[0]? == some (rawInt _))=true then _ else _) Q E s
           rw [if_neg (by intro h;rw [hn,Bool.false_and] at h;cases h)]
           exact wpAny_pure hQ))
def Itl (K:PySem.W.Frag) (a:Addr):It:=
 ⟨fun i H=>∃ xs x,SqL K H a xs∧xs[i]?=some x,fun i H x H'=>H'=H∧∀ xs,SqL K H a xs→xs[i]?=some x,fun i H=>∃ xs,SqL K H a xs∧xs.length≤i⟩
def Itt (K:PySem.W.Frag) (a:Addr):It:=
 ⟨fun i H=>∃ xs x,SqT K H a xs∧xs[i]?=some x,fun i H x H'=>H'=H∧∀ xs,SqT K H a xs→xs[i]?=some x,fun i H=>∃ xs,SqT K H a xs∧xs.length≤i⟩
def Itr (lo:Int) (n:Nat):It:=⟨fun i _=>i < n,fun i H x H'=>H'=H∧x=.int (lo + i),fun i _=>n≤i⟩
theorem ZE9 {P:Program} {w:World} {K:PySem.W.Frag} {tg:Expr} (a it:Addr):Turn P w K tg (Itl K a) [it] it (fun i h=>h.IsListIter it a i) where
 mem:=by simp
 obj:=fun i h st b hb=>by
  have e:b=it:=by simpa using hb
  subst e
  obtain ⟨o,e,c,d⟩:=st
  exact ⟨o,e,fun v z=>by rw [d] at z;cases z⟩
 keep:=fun i h h' st k=>st.at fun o e=>k it (by simp) o e
 item:=by
  intro X hP hw hK hc i pins s σ H E I hf st hg
  subst hP hw hK
  obtain ⟨xs,x,hq,hx⟩:=hg
  obtain ⟨its,rv,p,hz⟩:=I.list hq
  obtain ⟨u,hu,ru⟩:=rv.get hx
  obtain ⟨f0,f1,f2,f3,f4,f5⟩:=hf it (by simp)
  refine wpAny_pyNext_list_item st p.isList (x:=u) (by simpa using hu) fun h' st' sb=>?_
  have I1:Inv X pins σ H {s with heap:=h'}:=I.turned (t':=s.toks) (fun b o hb e=>(sb.2 b hb).trans e) f0 f1 f3 f4 f5
  obtain ⟨o,e,c,d⟩:=id st'
  exact ⟨u,rfl,ZIi (s:={s with heap:=h'}) e c d (by decide) ⟨x,H,I1,ru,⟨rfl,fun ys hy=>by rw [I.list_inj hy hq];exact hx⟩,st',fun b hb=>(hf b hb).1⟩⟩
 done:=by
  intro X hP hw hK hc i pins s σ H E I hf st hg
  subst hP hw hK
  obtain ⟨xs,hq,hx⟩:=hg
  obtain ⟨its,rv,p,hz⟩:=I.list hq
  obtain ⟨f0,f1,f2,f3,f4,f5⟩:=hf it (by simp)
  have hl:=rv.length
  exact wpAny_pyNext_list_end (I.ok.hd hc) st p.isList (by simp;omega) fun h' eb=>⟨rfl,I.turned (t':=s.toks) (fun b o hb e=>eb b o hb e) f0 f1 f3 f4 f5⟩
 self:=fun _ _ _ _ _ st h=>wpAny_pyIter_listiter st h
theorem ZDN {P:Program} {w:World} {K:PySem.W.Frag} {tg:Expr} (a it:Addr):Turn P w K tg (Itt K a) [it] it (fun i h=>h.IsTupleIter it a i) where
 mem:=by simp
 obj:=fun i h st b hb=>by
  have e:b=it:=by simpa using hb
  subst e
  obtain ⟨o,e,c,d⟩:=st
  exact ⟨o,e,fun v z=>by rw [d] at z;cases z⟩
 keep:=fun i h h' st k=>st.at fun o e=>k it (by simp) o e
 item:=by
  intro X hP hw hK hc i pins s σ H E I hf st hg
  subst hP hw hK
  obtain ⟨xs,x,hq,hx⟩:=hg
  obtain ⟨its,rv,p,hz⟩:=I.tuple hq
  obtain ⟨u,hu,ru⟩:=rv.get hx
  obtain ⟨f0,f1,f2,f3,f4,f5⟩:=hf it (by simp)
  refine wpAny_pyNext_tuple_item st (show s.heap.IsTuple a its.toArray from p) (x:=u) (by simpa using hu) fun h' st' sb=>?_
  have I1:Inv X pins σ H {s with heap:=h'}:=I.turned (t':=s.toks) (fun b o hb e=>(sb.2 b hb).trans e) f0 f1 f3 f4 f5
  obtain ⟨o,e,c,d⟩:=id st'
  exact ⟨u,rfl,ZIi (s:={s with heap:=h'}) e c d (by decide) ⟨x,H,I1,ru,⟨rfl,fun ys hy=>by rw [I.tuple_inj hy hq];exact hx⟩,st',fun b hb=>(hf b hb).1⟩⟩
 done:=by
  intro X hP hw hK hc i pins s σ H E I hf st hg
  subst hP hw hK
  obtain ⟨xs,hq,hx⟩:=hg
  obtain ⟨its,rv,p,hz⟩:=I.tuple hq
  obtain ⟨f0,f1,f2,f3,f4,f5⟩:=hf it (by simp)
  have hl:=rv.length
  exact wpAny_pyNext_tuple_end (I.ok.hd hc) st (show s.heap.IsTuple a its.toArray from p) (by simp;omega) fun h' eb=>⟨rfl,I.turned (t':=s.toks) (fun b o hb e=>eb b o hb e) f0 f1 f3 f4 f5⟩
 self:=fun _ _ _ _ _ st h=>wpAny_pyIter_tupleiter st h
theorem ZDO {P:Program} {w:World} {K:PySem.W.Frag} {tg:Expr} (it:Addr) (lo:Int) (n:Nat):Turn P w K tg (Itr lo n) [it] it (fun i h=>IsRangeIter h it (lo + (i:Nat) * 1) ((n:Int) - (i:Nat)) 1) where
 mem:=by simp
 obj:=fun i h st b hb=>by
  have e:b=it:=by simpa using hb
  subst e
  exact ⟨_,st,fun v z=>by
   have z':Data.fields _=Data.cell v:=z
   cases z'⟩
 keep:=fun i h h' st k=>k it (by simp) _ st
 item:=by
  intro X hP hw hK hc i pins s σ H E I hf st hg
  subst hP hw hK
  obtain ⟨f0,f1,f2,f3,f4,f5⟩:=hf it (by simp)
  have W:=Walks.range (prog:=X.prog) (w:=X.w) (I.ok.hd hc) it lo 1 n
  refine W.item i s _ _ hg st fun v h' tk hv st' kk=>?_
  obtain ⟨t,rfl⟩:=hv
  have I1:Inv X pins σ H {s with heap:=h',toks:=tk}:=I.turned (fun b o hb e=>kk b o (by simpa using hb) e) f0 f1 f3 f4 f5
  refine ⟨_,rfl,ZIi (s:={s with heap:=h',toks:=tk}) (n:="range_iterator") st' rfl rfl (by decide) ⟨.int (lo + i),H,I1,⟨t,?_⟩,⟨rfl,rfl⟩,st',fun b hb=>(hf b hb).1⟩⟩
  rw [Int.mul_one]
 done:=by
  intro X hP hw hK hc i pins s σ H E I hf st hg
  subst hP hw hK
  obtain ⟨f0,f1,f2,f3,f4,f5⟩:=hf it (by simp)
  exact wpAny_pyNext_range_end (I.ok.hd hc) st (by have:n≤i:=hg;omega) fun h' eb=>⟨rfl,I.turned (t':=s.toks) (fun b o hb e=>eb b o hb e) f0 f1 f3 f4 f5⟩
 self:=fun _ _ _ _ _ st h=>wpAny_pyIter_rangeiter st h
end L2
namespace L2
open PySem PySem.Spec PyProof.Rows
section
variable {X:Cx} {tg:Expr}
def ZMA (K:PySem.W.Frag) (tl:TE):TI:=fun σ H R=>tl σ H fun x H1=>∃ a,x=.ref a∧(∃ xs,SqL K H1 a xs)∧R (Itl K a) H1
def iTup (K:PySem.W.Frag) (tl:TE):TI:=fun σ H R=>tl σ H fun x H1=>∃ a,x=.ref a∧(∃ xs,SqT K H1 a xs)∧R (Itt K a) H1
theorem Ze0 {l:Expr} {tl:TE} (hl:PE X l tl):PI X tg l (ZMA X.K tl):=by
 try unfold PE at *
 intro pins s σ H R I h
 refine thn (hl pins s σ H _ I h) fun v s1 ⟨x,H1,I1,r1,q1⟩=>?_
 obtain ⟨a,e,⟨xs,hq⟩,q⟩:=q1
 subst e
 cases r1
 obtain ⟨its,rv,p,hz⟩:=I1.list hq
 refine wpAny_pyIter_list p.isList ?_
 refine ⟨s1.heap.objs.size,[s1.heap.objs.size],_,_,H1,rfl,I1.kept (t':=s1.toks) fun b o e=>Heap.get?_push_of_some _ e,ZE9 a _,⟨_,Heap.get?_push_size _ rfl,rfl,rfl⟩,fun b hb=>?_,q⟩
 have e:b=s1.heap.objs.size:=by simpa using hb
 subst e
 exact I1.fpOk (Nat.le_refl _) (I1.hok.fresh (Nat.le_refl _))
theorem ZIO {l:Expr} {tl:TE} (hl:PE X l tl):PI X tg l (iTup X.K tl):=by
 try unfold PE at *
 intro pins s σ H R I h
 refine thn (hl pins s σ H _ I h) fun v s1 ⟨x,H1,I1,r1,q1⟩=>?_
 obtain ⟨a,e,⟨xs,hq⟩,q⟩:=q1
 subst e
 cases r1
 obtain ⟨its,rv,p,hz⟩:=I1.tuple hq
 refine wpAny_pyIter_tuple (show s1.heap.IsTuple a its.toArray from p) ?_
 refine ⟨s1.heap.objs.size,[s1.heap.objs.size],_,_,H1,rfl,I1.kept (t':=s1.toks) fun b o e=>Heap.get?_push_of_some _ e,ZDN a _,⟨_,Heap.get?_push_size _ rfl,rfl,rfl⟩,fun b hb=>?_,q⟩
 have e:b=s1.heap.objs.size:=by simpa using hb
 subst e
 exact I1.fpOk (Nat.le_refl _) (I1.hok.fresh (Nat.le_refl _))
theorem ZC2 {pins:List (Addr×Obj)} {σ:St} {H:Hp} {s:Shared} {R:It→Hp→Prop} {E:Value→Shared→Prop} {lo hi:Int} {t u v:Tok} {tk:Nat} (I:Inv X pins σ H s) (h1:-(2 ^ 62)≤lo) (h2:lo < 2 ^ 62) (h3:-(2 ^ 62)≤hi) (h4:hi < 2 ^ 62)
  (q:R (Itr lo (hi - lo).toNat) H):wpAny (model X.prog X.w) X.A (pyIter (.ref s.heap.objs.size)) (PIE X pins σ tg R) E {s with heap:=s.heap.push {cls:=.type "range",data:=.fields #[.int lo t,.int hi u,.int 1 v]},toks:=tk}:=by
 refine wpAny_pyIter_range (IsRange.new ..) (small_one h1 h2 h3 h4) ?_
 have I1:Inv X pins σ H {s with heap:=s.heap.push {cls:=.type "range",data:=.fields #[.int lo t,.int hi u,.int 1 v]},toks:=tk}:=I.kept fun b o e=>Heap.get?_push_of_some _ e
 refine ⟨(s.heap.push {cls:=.type "range",data:=.fields #[.int lo t,.int hi u,.int 1 v]}).objs.size,[(s.heap.push {cls:=.type "range",data:=.fields #[.int lo t,.int hi u,.int 1 v]}).objs.size],_,_,H,rfl,
  I1.kept (t':=tk) fun b o e=>Heap.get?_push_of_some _ e,ZDO _ lo (hi - lo).toNat,?_,fun b hb=>?_,q⟩
 ·have e1:lo + ((0:Nat):Int) * 1=lo:=by simp
  have e2:(((hi - lo).toNat:Nat):Int) - ((0:Nat):Int)=Builtin.Range.rangeSize lo hi 1:=by rw [rangeSize_one];split <;> omega
  show IsRangeIter _ _ (lo + ((0:Nat):Int) * 1) ((((hi - lo).toNat:Nat):Int) - ((0:Nat):Int)) 1
  rw [e1,e2]
  exact Heap.get?_push_size _ rfl
 ·have e:b=(s.heap.push {cls:=.type "range",data:=.fields #[.int lo t,.int hi u,.int 1 v]}).objs.size:=by simpa using hb
  subst e
  exact I1.fpOk (Nat.le_refl _) (I1.hok.fresh (Nat.le_refl _))
def ZMz (ta:TA):TI:=fun σ H R=>ta σ H fun vs H1=>∃ j:Int,vs=[.int j]∧-(2 ^ 62)≤j∧j < 2 ^ 62∧R (Itr 0 j.toNat) H1
def ZMy (ta:TA):TI:=fun σ H R=>ta σ H fun vs H1=>∃ i j:Int,vs=[.int i,.int j]∧(-(2 ^ 62)≤i∧i < 2 ^ 62∧-(2 ^ 62)≤j∧j < 2 ^ 62)∧R (Itr i (j - i).toNat) H1
theorem ZgF {a:Expr} {ta:TA} {p pos:Pos} (hg:Gl X "range") (hm:X.mg "range"=none) (ha:PA X [a] ta) (hs:starEach [a] X.env=[(false,eval a X.env)]:=by rfl):PI X tg (.Call (.Name "range" p) [a] [] pos) (ZMz ta):=by
 try unfold PA at *
 intro pins s σ H R I h
 refine Call_ (ZrN I hg hm boot_range (PyProof.Rows.callWith_type1 (thn (ha pos pins s σ H _ I h) fun us s1 ⟨vs,H1,I1,r1,q1⟩=>?_) hs rfl))
 obtain ⟨j,e,q1,q2,q⟩:=q1
 subst e
 cases r1 with
 | cons r rr=>
  cases rr
  obtain ⟨t,rfl⟩:=r
  exact call_range_1 (ZC2 I1 (by omega) (by omega) q1 q2 (by simpa using q))
theorem ZFQ {a b:Expr} {ta:TA} {p pos:Pos} (hg:Gl X "range") (hm:X.mg "range"=none) (ha:PA X [a,b] ta) (hs:starEach [a,b] X.env=[(false,eval a X.env),(false,eval b X.env)]:=by rfl) (hs2:starEach [b] X.env=[(false,eval b X.env)]:=by rfl) :
  PI X tg (.Call (.Name "range" p) [a,b] [] pos) (ZMy ta):=by
 try unfold PA at *
 intro pins s σ H R I h
 refine Call_ (ZrN I hg hm boot_range (PyProof.Rows.callWith_type1 (thn (ha pos pins s σ H _ I h) fun us s1 ⟨vs,H1,I1,r1,q1⟩=>?_) (by rw [hs,hs2]) (by rw [hs2];rfl)))
 obtain ⟨i,j,e,⟨q1,q2,q3,q4⟩,q⟩:=q1
 subst e
 cases r1 with
 | cons r rr=>
  cases rr with
  | cons r' rr=>
   cases rr
   obtain ⟨t,rfl⟩:=r
   obtain ⟨t',rfl⟩:=r'
   exact call_range_2 (ZC2 I1 q1 q2 q3 q4 q)
def tFor (wi:TI) (g:TG) (tb:TS):TS:=fun D σ H=>wi σ H fun J H1=>∃ W:Nat→Nat→St→Hp→Prop,(∃ m,W 0 m σ H1)∧∀ i m σ H,W i m σ H→
 (J.stop i H∧D.nx σ H)∨(J.go i H∧∃ N:St→Hp→Prop,(∀ σ' H',N σ' H'→∃ m',m' < m∧W (i + 1) m' σ' H')∧∀ x H',J.yld i H x H'→g x σ H' fun σ2 H2=>tb {D with nx:=N,ct:=N,bk:=D.nx} σ2 H2)
def Zua (fp:List Addr) (h:Heap):List (Addr×Obj):=fp.filterMap fun b=>(h.get? b).map fun o=>(b,o)
theorem Zc7 {fp:List Addr} {h:Heap} {b:Addr} {o:Obj} (hb:b∈fp) (e:h.get? b=some o):(b,o)∈Zua fp h:=List.mem_filterMap.mpr ⟨b,hb,by rw [e];rfl⟩
theorem ZFZ {fp:List Addr} {h:Heap} {p:Addr×Obj} (hp:p∈Zua fp h):p.1∈fp∧h.get? p.1=some p.2:=by
 obtain ⟨b,hb,e⟩:=List.mem_filterMap.mp hp
 cases q:h.get? b with
 | none=>rw [q] at e;cases e
 | some o=>
  rw [q] at e
  have e':(b,o)=p:=Option.some.inj e
  subst e'
  exact ⟨hb,q⟩
theorem Inv.pinned {pins:List (Addr×Obj)} {σ:St} {H:Hp} {s:Shared} {fp:List Addr} (I:Inv X pins σ H s) (hf:∀ b∈fp,FpOk X pins H b) (ho:∀ b∈fp,∃ o,s.heap.get? b=some o∧∀ v,o.data≠.cell v):Inv X (pins++Zua fp s.heap) σ H s:=
 I.pins_of fun p hp=>(List.mem_append.mp hp).elim (fun z=>I.pin p (List.mem_append_right _ z)) fun z=>by
  obtain ⟨hb,e⟩:=ZFZ z
  obtain ⟨f0,f1,f2,_⟩:=hf p.1 hb
  obtain ⟨o,e',d⟩:=ho p.1 hb
  rw [e] at e';cases e'
  exact ⟨e,f0,f1,f2,d⟩
theorem Inv.unpinned {pins pl:List (Addr×Obj)} {σ:St} {H:Hp} {s:Shared} (I:Inv X (pins++pl) σ H s):Inv X pins σ H s:=I.pins_of fun p hp=>I.pin p (List.mem_append_right _ (List.mem_append_left _ hp))
theorem Zdc {iter:Expr} {body:List Stmt} {wi:TI} {g:TG} {tb:TS} {pos:Pos} (hp:PassesOwn (model X.prog X.w) X.A X.env X.xe) (hc:X.calm=true) (hi:PI X tg iter wi) (hg:PG X tg g) (hb:PSs X body tb)
  (hs:∀ x,foldedSetIterable iter X.env x=pure x:=by intro _;rfl):PS X (.For tg iter body [] pos) (tFor wi g tb):=by
 try unfold PS at *;try unfold PSs at *
 intro pins s σ H D I h
 refine wpAny_For (thn (hi pins s σ H _ I h) fun v s1 h1=>thn h1 fun itv s2 h2=>?_) hs
 obtain ⟨it,fp,tn,J,H2,e,I2,T,st2,f2,W,⟨m0,w0⟩,turn⟩:=h2
 subst e
 -- what stays true of the iterator's objects through the loop
 have stat:∀ {H':Hp},(∀ b∈fp,H' b=none)→∀ b∈fp,FpOk X pins H' b:=fun hn b hb=>⟨hn b hb,(f2 b hb).2⟩
 refine codeAny_forLoop_any (fun n s'=>∃ i σ' H',Inv X pins σ' H' s'∧tn i s'.heap∧(∀ b∈fp,H' b=none)∧W i n σ' H') ?_ m0 ⟨0,σ,H2,I2,st2,fun b hb=>(f2 b hb).1,w0⟩
 rintro n s3 ⟨i,σ3,H3,I3,st3,fr3,w3⟩
 rcases turn i n σ3 H3 w3 with ⟨stop,qn⟩ | ⟨go,N,hN,step⟩
 ·refine wpAny_passesOwn hp (thn (T.done X rfl rfl rfl hc i pins s3 σ3 H3 X.xe I3 (stat fr3) st3 stop) fun r s4 ⟨hr,I4⟩=>?_)
  subst hr
  exact wpAny_execs_nil ⟨σ3,H3,I4,qn⟩
 ·refine wpAny_passesOwn hp (thn (T.item X rfl rfl rfl hc i pins s3 σ3 H3 X.xe I3 (stat fr3) st3 go) fun r s4 ⟨u,hr,h4⟩=>?_)
  subst hr
  refine wpAny_passesOwn hp (thn h4 fun _ s5 ⟨x,H5,I5,r5,y5,st5,fr5⟩=>?_)
  have I5':=I5.pinned (stat fr5) (T.obj _ _ st5)
  refine wpAny_passesOwn hp (thn (hg _ s5 σ3 H5 x u _ I5' r5 (step x H5 y5)) fun _ s6 ⟨σ6,H6,I6,q6⟩=>?_)
  refine wpAny_passesOwn hp (thn (hb _ s6 σ6 H6 _ I6 q6) fun f s7 q7=>?_)
  have again:∀ {σ7:St} {H7:Hp},Inv X (pins++Zua fp s5.heap) σ7 H7 s7→N σ7 H7→∃ m,m < n∧∃ i σ' H',Inv X pins σ' H' s7∧tn i s7.heap∧(∀ b∈fp,H' b=none)∧W i m σ' H':=fun {σ7 H7} I7 n7=>by
   obtain ⟨m',hm,w7⟩:=hN σ7 H7 n7
   refine ⟨m',hm,i + 1,σ7,H7,I7.unpinned,T.keep _ _ _ st5 fun b hb o e=>(I7.pin (b,o) (List.mem_append_right _ (List.mem_append_right _ (Zc7 hb e)))).1,fun b hb=>?_,w7⟩
   obtain ⟨o,e,d⟩:=T.obj _ _ st5 b hb
   exact (I7.pin (b,o) (List.mem_append_right _ (List.mem_append_right _ (Zc7 hb e)))).2.1
  cases f with
  | next=>obtain ⟨σ7,H7,I7,n7⟩:=q7;exact again I7 n7
  | cont=>obtain ⟨σ7,H7,I7,n7⟩:=q7;exact again I7 n7
  | brk=>obtain ⟨σ7,H7,I7,q7⟩:=q7;exact ⟨σ7,H7,I7.unpinned,q7⟩
  | ret v=>obtain ⟨x7,σ7,H7,I7,r7,q7⟩:=q7;exact ⟨x7,σ7,H7,I7.unpinned,r7,q7⟩
end
theorem Zh5 {K:PySem.W.Frag} {a:Addr} {xs:List V} {g:TG} {tb:TS} {D:Ends} {σ:St} {H:Hp} (Pv:Nat→St→Hp→Prop) (h0:Pv 0 σ H) (hl:∀ i σ H,i≤xs.length→Pv i σ H→SqL K H a xs)
  (hs:∀ i x σ H,xs[i]?=some x→Pv i σ H→g x σ H fun σ2 H2=>tb {D with nx:=Pv (i + 1),ct:=Pv (i + 1),bk:=D.nx} σ2 H2) (hd:∀ σ H,Pv xs.length σ H→D.nx σ H) :
  ∃ W:Nat→Nat→St→Hp→Prop,(∃ m,W 0 m σ H)∧∀ i m σ H,W i m σ H→
   ((Itl K a).stop i H∧D.nx σ H)∨((Itl K a).go i H∧∃ N:St→Hp→Prop,(∀ σ' H',N σ' H'→∃ m',m' < m∧W (i + 1) m' σ' H')∧∀ x H',(Itl K a).yld i H x H'→g x σ H' fun σ2 H2=>tb {D with nx:=N,ct:=N,bk:=D.nx} σ2 H2):=by
 refine ⟨fun i m σ H=>m=xs.length - i∧i≤xs.length∧Pv i σ H,⟨xs.length,by simp,Nat.zero_le _,h0⟩,?_⟩
 rintro i m σ H ⟨rfl,hi,p⟩
 have q:=hl i σ H hi p
 by_cases hlt:i < xs.length
 ·refine .inr ⟨⟨xs,xs[i],q,by simp [hlt]⟩,Pv (i + 1),fun σ' H' p'=>⟨xs.length - (i + 1),by omega,rfl,hlt,p'⟩,fun x H' y=>?_⟩
  obtain ⟨e,y⟩:=y
  subst e
  exact hs i x σ _ (y xs q) p
 ·have e:i=xs.length:=by omega
  subst e
  exact .inl ⟨⟨xs,q,Nat.le_refl _⟩,hd σ H p⟩
theorem ZGx {K:PySem.W.Frag} {a:Addr} {xs:List V} {g:TG} {tb:TS} {D:Ends} {σ:St} {H:Hp} (Pv:Nat→St→Hp→Prop) (h0:Pv 0 σ H) (hl:∀ i σ H,i≤xs.length→Pv i σ H→SqT K H a xs)
  (hs:∀ i x σ H,xs[i]?=some x→Pv i σ H→g x σ H fun σ2 H2=>tb {D with nx:=Pv (i + 1),ct:=Pv (i + 1),bk:=D.nx} σ2 H2) (hd:∀ σ H,Pv xs.length σ H→D.nx σ H) :
  ∃ W:Nat→Nat→St→Hp→Prop,(∃ m,W 0 m σ H)∧∀ i m σ H,W i m σ H→
   ((Itt K a).stop i H∧D.nx σ H)∨((Itt K a).go i H∧∃ N:St→Hp→Prop,(∀ σ' H',N σ' H'→∃ m',m' < m∧W (i + 1) m' σ' H')∧∀ x H',(Itt K a).yld i H x H'→g x σ H' fun σ2 H2=>tb {D with nx:=N,ct:=N,bk:=D.nx} σ2 H2):=by
 refine ⟨fun i m σ H=>m=xs.length - i∧i≤xs.length∧Pv i σ H,⟨xs.length,by simp,Nat.zero_le _,h0⟩,?_⟩
 rintro i m σ H ⟨rfl,hi,p⟩
 have q:=hl i σ H hi p
 by_cases hlt:i < xs.length
 ·refine .inr ⟨⟨xs,xs[i],q,by simp [hlt]⟩,Pv (i + 1),fun σ' H' p'=>⟨xs.length - (i + 1),by omega,rfl,hlt,p'⟩,fun x H' y=>?_⟩
  obtain ⟨e,y⟩:=y
  subst e
  exact hs i x σ _ (y xs q) p
 ·have e:i=xs.length:=by omega
  subst e
  exact .inl ⟨⟨xs,q,Nat.le_refl _⟩,hd σ H p⟩
theorem Zsl {lo:Int} {n:Nat} {g:TG} {tb:TS} {D:Ends} {σ:St} {H:Hp} (Pv:Nat→St→Hp→Prop) (h0:Pv 0 σ H)
  (hs:∀ i σ H,i < n→Pv i σ H→g (.int (lo + i)) σ H fun σ2 H2=>tb {D with nx:=Pv (i + 1),ct:=Pv (i + 1),bk:=D.nx} σ2 H2) (hd:∀ σ H,Pv n σ H→D.nx σ H) :
  ∃ W:Nat→Nat→St→Hp→Prop,(∃ m,W 0 m σ H)∧∀ i m σ H,W i m σ H→
   ((Itr lo n).stop i H∧D.nx σ H)∨((Itr lo n).go i H∧∃ N:St→Hp→Prop,(∀ σ' H',N σ' H'→∃ m',m' < m∧W (i + 1) m' σ' H')∧∀ x H',(Itr lo n).yld i H x H'→g x σ H' fun σ2 H2=>tb {D with nx:=N,ct:=N,bk:=D.nx} σ2 H2):=by
 refine ⟨fun i m σ H=>m=n - i∧i≤n∧Pv i σ H,⟨n,by simp,Nat.zero_le _,h0⟩,?_⟩
 rintro i m σ H ⟨rfl,hi,p⟩
 by_cases hlt:i < n
 ·refine .inr ⟨hlt,Pv (i + 1),fun σ' H' p'=>⟨n - (i + 1),by omega,rfl,hlt,p'⟩,fun x H' y=>?_⟩
  obtain ⟨e,y⟩:=y
  subst e y
  exact hs i σ _ hlt p
 ·have e:i=n:=by omega
  subst e
  exact .inl ⟨Nat.le_refl _,hd σ H p⟩
end L2
namespace L2
open PySem PySem.Spec PyProof.Rows
abbrev R2:=V→V→Hp→VK→Prop
def OpR (X:Cx) (f:Value→Value→Sem Value) (r:R2):Prop:=
 ∀ (pins:List (Addr×Obj)) (s:Shared) (σ:St) (H:Hp) (x y:V) (v u:Value) (Q:VK),Inv X pins σ H s→RelV x v→RelV y u→r x y H Q→
  wpAny (model X.prog X.w) X.A (f v u) (EP X pins σ Q) X.xe s
def UnR (X:Cx) (f:Value→Sem Value) (r:V→Hp→VK→Prop):Prop:=
 ∀ (pins:List (Addr×Obj)) (s:Shared) (σ:St) (H:Hp) (x:V) (v:Value) (Q:VK),Inv X pins σ H s→RelV x v→r x H Q→
  wpAny (model X.prog X.w) X.A (f v) (EP X pins σ Q) X.xe s
def ZfR (X:Cx) (f:Value) (r:List V→Hp→VK→Prop):Prop:=
 ∀ (pins:List (Addr×Obj)) (s:Shared) (σ:St) (H:Hp) (xs:List V) (us:List Value) (Q:VK),Inv X pins σ H s→Vals xs us→r xs H Q→
  wpAny (model X.prog X.w) X.A (call f us) (EP X pins σ Q) X.xe s
def tOp (r:R2) (ta tb:TE):TE:=fun σ H Q=>ta σ H fun x H1=>tb σ H1 fun y H2=>r x y H2 Q
def tUn (r:V→Hp→VK→Prop) (ta:TE):TE:=fun σ H Q=>ta σ H fun x H1=>r x H1 Q
def rI (C:Int→Int→Prop) (g:Int→Int→V):R2:=fun x y H Q=>∃ i j,x=.int i∧y=.int j∧C i j∧Q (g i j) H
def rI0 (g:Int→Int→V):R2:=fun x y H Q=>∃ i j,x=.int i∧y=.int j∧Q (g i j) H
def rU (g:Int→V):V→Hp→VK→Prop:=fun x H Q=>∃ i,x=.int i∧Q (g i) H
section
variable {X:Cx} {a b c:Expr} {ta tb tc:TE} {pos:Pos}
theorem binT (ha:PE X a ta) (hb:PE X b tb) {pins:List (Addr×Obj)} {s:Shared} {σ:St} {H:Hp} {R:V→V→Hp→Prop} (I:Inv X pins σ H s)
  (h:ta σ H fun x H1=>tb σ H1 fun y H2=>R x y H2) {Q:Value→Shared→Prop} {f:Value→Value→Sem Value}
  (hf:∀ v u s2 x y H2,Inv X pins σ H2 s2→RelV x v→RelV y u→R x y H2→wpAny (model X.prog X.w) X.A (f v u) Q X.xe s2) :
  wpAny (model X.prog X.w) X.A (eval a X.env) (fun v s₁=>wpAny (model X.prog X.w) X.A (eval b X.env) (fun u s₂=>wpAny (model X.prog X.w) X.A (f v u) Q X.xe s₂) X.xe s₁) X.xe s:=by
 try unfold PE at *
 refine thn (ha pins s σ H _ I h) fun v s1 ⟨x,H1,I1,r1,q1⟩=>?_
 refine thn (hb pins s1 σ H1 _ I1 q1) fun u s2 ⟨y,H2,I2,r2,q2⟩=>?_
 exact hf v u s2 x y H2 I2 r1 r2 q2
theorem ZD {op:Operator} {r:R2} (ho:OpR X (binaryOp op) r) (ha:PE X a ta) (hb:PE X b tb):PE X (.BinOp a op b pos) (tOp r ta tb):=by
 try unfold PE
 intro pins s σ H Q I h
 exact wpAny_BinOp (binT ha hb I h fun v u s2 x y H2 I2 rx ry q=>ho pins s2 σ H2 x y v u Q I2 rx ry q)
theorem Zyt {op:UnaryOp} {r:V→Hp→VK→Prop} (ho:UnR X (unaryOp op) r) (ha:PE X a ta):PE X (.UnaryOp op a pos) (tUn r ta):=by
 try unfold PE at *
 intro pins s σ H Q I h
 exact UnaryOp_ (thn (ha pins s σ H _ I h) fun v s1 ⟨x,H1,I1,r1,q1⟩=>ho pins s1 σ H1 x v Q I1 r1 q1)
theorem opI {f:Value→Value→Sem Value} {C:Int→Int→Prop} {g:Int→Int→Int}
  (rule:∀ (i j:Int) (t u:Tok) (s:Shared) (Q:Value→Shared→Prop) (E:Value→Shared→Prop),C i j→Q (.int (g i j) s.toks) {s with toks:=s.toks + 1}→wpAny (model X.prog X.w) X.A (f (.int i t) (.int j u)) Q E s) :
  OpR X f (rI C fun i j=>.int (g i j)):=by
 intro pins s σ H x y v u Q I rx ry h
 obtain ⟨i,j,rfl,rfl,hc,q⟩:=h
 obtain ⟨t,rfl⟩:=rx
 obtain ⟨t',rfl⟩:=ry
 exact rule i j t t' s _ _ hc ⟨.int (g i j),H,I.tok _,⟨_,rfl⟩,q⟩
theorem opI0 {f:Value→Value→Sem Value} {g:Int→Int→Int}
  (rule:∀ (i j:Int) (t u:Tok) (s:Shared) (Q:Value→Shared→Prop) (E:Value→Shared→Prop),Q (.int (g i j) s.toks) {s with toks:=s.toks + 1}→wpAny (model X.prog X.w) X.A (f (.int i t) (.int j u)) Q E s) :
  OpR X f (rI0 fun i j=>.int (g i j)):=by
 intro pins s σ H x y v u Q I rx ry h
 obtain ⟨i,j,rfl,rfl,q⟩:=h
 obtain ⟨t,rfl⟩:=rx
 obtain ⟨t',rfl⟩:=ry
 exact rule i j t t' s _ _ ⟨.int (g i j),H,I.tok _,⟨_,rfl⟩,q⟩
theorem opB0 {f:Value→Value→Sem Value} {g:Int→Int→Bool}
  (rule:∀ (i j:Int) (t u:Tok) (s:Shared) (Q:Value→Shared→Prop) (E:Value→Shared→Prop),Q (.bool (g i j)) s→wpAny (model X.prog X.w) X.A (f (.int i t) (.int j u)) Q E s) :
  OpR X f (rI0 fun i j=>.bl (g i j)):=by
 intro pins s σ H x y v u Q I rx ry h
 obtain ⟨i,j,rfl,rfl,q⟩:=h
 obtain ⟨t,rfl⟩:=rx
 obtain ⟨t',rfl⟩:=ry
 exact rule i j t t' s _ _ ⟨.bl (g i j),H,I,rfl,q⟩
def CDiv (i j:Int):Prop:=0 < j∧j < 1073741824
def CPow (i j:Int):Prop:=0≤j∧j≤1000000∧i.natAbs < 2 ^ 64
def CMul (i j:Int):Prop:=(-(2 ^ 64) < i∧i < 2 ^ 64)∨(-(2 ^ 64) < j∧j < 2 ^ 64)
theorem CMul.ok {i j:Int} (h:CMul i j):IntMulOk i j:=by
 rcases h with ⟨h1,h2⟩ | ⟨h1,h2⟩
 ·exact .of_left (intBits_le_64 h1 h2)
 ·exact .of_right (intBits_le_64 h1 h2)
theorem ZgK:OpR X (binaryOp .Add) (rI0 fun i j=>.int (i + j)):=opI0 fun _ _ _ _ _ _ _ q=>add_int q
theorem Zud:OpR X (binaryOp .Sub) (rI0 fun i j=>.int (i - j)):=opI0 fun _ _ _ _ _ _ _ q=>sub_int q
theorem ZiE:OpR X (binaryOp .Mult) (rI CMul fun i j=>.int (i * j)):=opI fun _ _ _ _ _ _ _ hc q=>mul_int q hc.ok
theorem ZcI:OpR X (binaryOp .FloorDiv) (rI CDiv fun i j=>.int (i / j)):=opI fun i j _ _ _ _ _ hc q=>by
 have h1:(0:Int) < j:=hc.1
 have h2:j < 1073741824:=hc.2
 exact floordiv_int (by omega) (by rw [Int.fdiv_eq_ediv_of_nonneg i (by omega)];exact q) (.inl (PyProof.noPylong_small (by omega)))
theorem Zb0:OpR X (binaryOp .Mod) (rI (fun _ j=>0 < j) fun i j=>.int (i % j)):=opI fun i j _ _ _ _ _ hc q=>by
 have h1:(0:Int) < j:=hc
 exact mod_int' (by omega) (by rw [Int.fmod_eq_emod_of_nonneg i (by omega)];exact q)
theorem ZIQ:OpR X (binaryOp .Pow) (rI CPow fun i j=>.int (i ^ j.toNat)):=opI fun _ _ _ _ _ _ _ hc q=>pow_int_small hc.1 hc.2.1 hc.2.2 q
theorem unI {f:Value→Sem Value} {g:Int→Int}
  (rule:∀ (i:Int) (t:Tok) (s:Shared) (Q:Value→Shared→Prop) (E:Value→Shared→Prop),Q (.int (g i) s.toks) {s with toks:=s.toks + 1}→wpAny (model X.prog X.w) X.A (f (.int i t)) Q E s) :
  UnR X f (rU fun i=>.int (g i)):=by
 intro pins s σ H x v Q I rx h
 obtain ⟨i,rfl,q⟩:=h
 obtain ⟨t,rfl⟩:=rx
 exact rule i t s _ _ ⟨.int (g i),H,I.tok _,⟨_,rfl⟩,q⟩
theorem Zor:UnR X (unaryOp .USub) (rU fun i=>.int (-i)):=unI fun _ _ _ _ _ q=>neg_int q
end
def scal:V→V→Bool
 | .non,.non=>true | .non,.int _=>true | .int _,.non=>true | .non,.bl _=>true | .bl _,.non=>true | .non,.str _=>true | .str _,.non=>true
 | .int _,.int _=>true | .bl _,.bl _=>true | .str _,.str _=>true | .byt _,.byt _=>true
 | .int _,.str _=>true | .str _,.int _=>true | .bl _,.str _=>true | .str _,.bl _=>true
 | _,_=>false
def rEq:R2:=fun x y H Q=>scal x y=true∧Q (.bl (decide (x=y))) H
def rNe:R2:=fun x y H Q=>scal x y=true∧Q (.bl (!decide (x=y))) H
theorem ZGO {i j:Int}:decide (V.int i=V.int j)=(i == j):=by
 rw [Bool.eq_iff_iff]
 simp
theorem ZI1 {i j:Bool}:decide (V.bl i=V.bl j)=(i == j):=by
 rw [Bool.eq_iff_iff]
 simp
theorem ZGN {i j:Str}:decide (V.str i=V.str j)=(i == j):=by
 rw [Bool.eq_iff_iff]
 simp
theorem ZGP {i j:Array UInt8}:decide (V.byt i=V.byt j)=(i.toList == j.toList):=by
 rw [Bool.eq_iff_iff]
 cases i
 cases j
 simp
section
variable {X:Cx} {a b c:Expr} {ta tb tc:TE} {pos:Pos}
theorem Z2 {pins:List (Addr×Obj)} {σ:St} {H:Hp} {s:Shared} {Q:VK} {k k':Bool} (I:Inv X pins σ H s) (q:Q (.bl k) H) (e:k=k'):EP X pins σ Q (.bool k') s:=by
 subst e
 exact ⟨.bl k,H,I,rfl,q⟩
theorem ZBu:OpR X (compareOp .Eq) rEq:=by
 intro pins s σ H x y v u Q I rx ry h
 obtain ⟨hs,q⟩:=h
 cases x with
 | non=>
  cases rx
  cases y with
  | non=>cases ry;exact PySem.EqNone.eq_none_none (Z2 I q (by simp))
  | bl j=>cases ry;exact PySem.EqNone.eq_none_bool (Z2 I q (by simp))
  | int j=>obtain ⟨t',rfl⟩:=ry;exact PySem.EqNone.eq_none_int (Z2 I q (by simp))
  | str j=>obtain ⟨t',rfl⟩:=ry;exact PySem.EqNone.eq_none_str (Z2 I q (by simp))
  | _=>exact absurd (show false=true from hs) Bool.false_ne_true
 | bl i=>
  cases rx
  cases y with
  | non=>cases ry;exact PySem.EqNone.eq_bool_none (Z2 I q (by simp))
  | bl j=>cases ry;exact eq_bool (Z2 I q ZI1)
  | str j=>obtain ⟨t',rfl⟩:=ry;exact PySem.EqMixed.eq_bool_str (Z2 I q (by simp))
  | _=>exact absurd (show false=true from hs) Bool.false_ne_true
 | int i=>
  obtain ⟨t,rfl⟩:=rx
  cases y with
  | non=>cases ry;exact PySem.EqNone.eq_int_none (Z2 I q (by simp))
  | int j=>obtain ⟨t',rfl⟩:=ry;exact eq_int (Z2 I q ZGO)
  | str j=>obtain ⟨t',rfl⟩:=ry;exact PySem.EqMixed.eq_int_str (Z2 I q (by simp))
  | _=>exact absurd (show false=true from hs) Bool.false_ne_true
 | str i=>
  obtain ⟨t,rfl⟩:=rx
  cases y with
  | non=>cases ry;exact PySem.EqNone.eq_str_none (Z2 I q (by simp))
  | bl j=>cases ry;exact PySem.EqMixed.eq_str_bool (Z2 I q (by simp))
  | int j=>obtain ⟨t',rfl⟩:=ry;exact PySem.EqMixed.eq_str_int (Z2 I q (by simp))
  | str j=>obtain ⟨t',rfl⟩:=ry;exact eq_str (Z2 I q ZGN)
  | _=>exact absurd (show false=true from hs) Bool.false_ne_true
 | byt i=>
  obtain ⟨t,rfl⟩:=rx
  cases y with
  | byt j=>obtain ⟨t',rfl⟩:=ry;exact PySem.W.eq_bytes (Z2 I q ZGP)
  | _=>exact absurd (show false=true from hs) Bool.false_ne_true
 | _=>cases y <;> exact absurd (show false=true from hs) Bool.false_ne_true
theorem ZJQ:OpR X (compareOp .NotEq) rNe:=by
 intro pins s σ H x y v u Q I rx ry h
 obtain ⟨hs,q⟩:=h
 cases x with
 | non=>
  cases rx
  cases y with
  | non=>cases ry;exact PySem.EqNone.ne_none_none (Z2 I q (by simp))
  | bl j=>cases ry;exact PySem.EqNone.ne_none_bool (Z2 I q (by simp))
  | int j=>obtain ⟨t',rfl⟩:=ry;exact PySem.EqNone.ne_none_int (Z2 I q (by simp))
  | str j=>obtain ⟨t',rfl⟩:=ry;exact PySem.EqNone.ne_none_str (Z2 I q (by simp))
  | _=>exact absurd (show false=true from hs) Bool.false_ne_true
 | bl i=>
  cases rx
  cases y with
  | non=>cases ry;exact PySem.EqNone.ne_bool_none (Z2 I q (by simp))
  | bl j=>cases ry;exact ne_bool (Z2 I q (congrArg not ZI1))
  | str j=>obtain ⟨t',rfl⟩:=ry;exact PySem.EqMixed.ne_bool_str (Z2 I q (by simp))
  | _=>exact absurd (show false=true from hs) Bool.false_ne_true
 | int i=>
  obtain ⟨t,rfl⟩:=rx
  cases y with
  | non=>cases ry;exact PySem.EqNone.ne_int_none (Z2 I q (by simp))
  | int j=>obtain ⟨t',rfl⟩:=ry;exact ne_int (Z2 I q (congrArg not ZGO))
  | str j=>obtain ⟨t',rfl⟩:=ry;exact PySem.EqMixed.ne_int_str (Z2 I q (by simp))
  | _=>exact absurd (show false=true from hs) Bool.false_ne_true
 | str i=>
  obtain ⟨t,rfl⟩:=rx
  cases y with
  | non=>cases ry;exact PySem.EqNone.ne_str_none (Z2 I q (by simp))
  | bl j=>cases ry;exact PySem.EqMixed.ne_str_bool (Z2 I q (by simp))
  | int j=>obtain ⟨t',rfl⟩:=ry;exact PySem.EqMixed.ne_str_int (Z2 I q (by simp))
  | str j=>obtain ⟨t',rfl⟩:=ry;exact ne_str (Z2 I q (congrArg not ZGN))
  | _=>exact absurd (show false=true from hs) Bool.false_ne_true
 | byt i=>
  obtain ⟨t,rfl⟩:=rx
  cases y with
  | byt j=>obtain ⟨t',rfl⟩:=ry;exact PySem.W.ne_bytes (Z2 I q (congrArg not ZGP))
  | _=>exact absurd (show false=true from hs) Bool.false_ne_true
 | _=>cases y <;> exact absurd (show false=true from hs) Bool.false_ne_true
theorem ZFX:OpR X (compareOp .Lt) (rI0 fun i j=>.bl (decide (i < j))):=opB0 fun _ _ _ _ _ _ _ q=>lt_int q
theorem ZEm:OpR X (compareOp .Gt) (rI0 fun i j=>.bl (decide (j < i))):=opB0 fun _ _ _ _ _ _ _ q=>gt_int q
theorem ZMt:OpR X (compareOp .GtE) (rI0 fun i j=>.bl (decide (j≤i))):=opB0 fun _ _ _ _ _ _ _ q=>ge_int q
theorem Zyv:OpR X (compareOp .In) (fun x y H Q=>∃ i j,x=.str i∧y=.str j∧Q (.bl (!(Builtin.Str.occurrences j i 0 j.length 1).isEmpty)) H):=by
 intro pins s σ H x y v u Q I rx ry h
 obtain ⟨i,j,rfl,rfl,q⟩:=h
 obtain ⟨t,rfl⟩:=rx
 obtain ⟨t',rfl⟩:=ry
 exact in_str (Z2 I q rfl)
theorem ZaN (b:Expr) {op:CmpOp} (h:op≠.In:=by decide) (h2:op≠.NotIn:=by decide):behindInMarks op b=false:=by
 have e1:(op == CmpOp.In)=false:=by cases op <;> first | rfl | exact absurd rfl h
 have e2:(op == CmpOp.NotIn)=false:=by cases op <;> first | rfl | exact absurd rfl h2
 cases b <;> simp [behindInMarks,e1,e2]
theorem ZBt {op:CmpOp} {r:R2} (ho:OpR X (compareOp op) r) (ha:PE X a ta) (hb:PE X b tb) (hm:behindInMarks op b=false):PE X (.Compare a [op] [b] pos) (tOp r ta tb):=by
 try unfold PE
 intro pins s σ H Q I h
 exact wpAny_Compare1 (binT ha hb I h fun v u s2 x y H2 I2 rx ry q=>ho pins s2 σ H2 x y v u Q I2 rx ry q) hm
def ZMd (t:TE):TT:=fun σ H Q=>t σ H fun x H'=>∃ k,x=.bl k∧Q k H'
theorem ZY {op:CmpOp} {r:R2} (ho:OpR X (compareOp op) r) (ha:PE X a ta) (hb:PE X b tb) (hm:behindInMarks op b=false):PT X (.Compare a [op] [b] pos) (ZMd (tOp r ta tb)):=by
 try unfold PE at *
 intro pins s σ H Q I h
 refine wpAny_isTrue_Compare1 (thn (ha pins s σ H _ I h) fun v s1 ⟨x,H1,I1,r1,q1⟩=>thn (hb pins s1 σ H1 _ I1 q1) fun u s2 ⟨y,H2,I2,r2,q2⟩=>
  thn (ho pins s2 σ H2 x y v u _ I2 r1 r2 q2) fun c s3 ⟨z,H3,I3,r3,k,e,q3⟩=>?_) hm
 subst e
 cases r3
 exact wpAny_truthy_bool ⟨H3,I3,q3⟩
theorem Zuj:(sizeLine:Nat) < 2 ^ 63:=by rw [sizeLine_eq];decide
theorem Zcc:OpR X (binaryOp .Add) (fun x y H Q=>∃ i j,x=.str i∧y=.str j∧i.length + j.length≤sizeLine∧Q (.str (i++j)) H):=by
 intro pins s σ H x y v u Q I rx ry h
 obtain ⟨i,j,rfl,rfl,hz,q⟩:=h
 obtain ⟨t,rfl⟩:=rx
 obtain ⟨t',rfl⟩:=ry
 exact add_str (fun t' tk=>⟨.str (i++j),H,I.tok _,⟨_,rfl⟩,q⟩) hz
theorem ZE7 {x:V} {us:List Value} (r:Vals [x] us):∃ u,us=[u]∧RelV x u:=by
 cases r with
 | cons r1 r2=>cases r2;exact ⟨_,rfl,r1⟩
theorem ZKH {x y:V} {us:List Value} (r:Vals [x,y] us):∃ u w',us=[u,w']∧RelV x u∧RelV y w':=by
 cases r with
 | cons r1 r2=>
  cases r2 with
  | cons r3 r4=>cases r4;exact ⟨_,_,rfl,r1,r3⟩
theorem ZG3 (hc:X.calm=true):ZfR X (.builtin "max") (fun xs H Q=>∃ i j,xs=[.int i,.int j]∧Q (.int (if j > i then j else i)) H):=by
 intro pins s σ H xs us Q I r h
 obtain ⟨i,j,rfl,q⟩:=h
 obtain ⟨u,w',rfl,⟨t,rfl⟩,⟨t',rfl⟩⟩:=ZKH r
 refine max_two_ints (I.ok.hd hc) fun h' tk k=>⟨_,H,I.kept k,?_,q⟩
 by_cases hj:j > i
 ·rw [if_pos hj,if_pos hj];exact ⟨_,rfl⟩
 ·rw [if_neg hj,if_neg hj];exact ⟨_,rfl⟩
theorem ZzM (hc:X.calm=true):ZfR X (.builtin "min") (fun xs H Q=>∃ i j,xs=[.int i,.int j]∧Q (.int (if j < i then j else i)) H):=by
 intro pins s σ H xs us Q I r h
 obtain ⟨i,j,rfl,q⟩:=h
 obtain ⟨u,w',rfl,⟨t,rfl⟩,⟨t',rfl⟩⟩:=ZKH r
 refine min_two_ints (I.ok.hd hc) fun h' tk k=>⟨_,H,I.kept k,?_,q⟩
 by_cases hj:j < i
 ·rw [if_pos hj,if_pos hj];exact ⟨_,rfl⟩
 ·rw [if_neg hj,if_neg hj];exact ⟨_,rfl⟩
theorem ZIE:ZfR X (.builtin "ord") (fun xs H Q=>∃ x,xs=[.str x]∧x.length=1∧Q (.int (x.cps.getD 0 0:Nat)) H):=by
 intro pins s σ H xs us Q I r h
 obtain ⟨x,rfl,hz,q⟩:=h
 obtain ⟨u,rfl,t,rfl⟩:=ZE7 r
 exact ord_of_one hz ⟨.int _,H,I.tok _,⟨_,rfl⟩,q⟩
end
end L2
namespace L2
open PySem PySem.Spec PyProof.Rows
structure ObjM (h:Heap) (x dx C:Addr) (mA:Str→Option Value):Prop where
 obj:h.get? x=some (PySem.W.instObj C dx)
 ns:h.Ns1 dx mA
 ne:dx≠x
theorem ZGf {h:Heap} {dx:Addr} {mA:Str→Option Value} (n:h.Ns1 dx mA):∃ od,h.get? dx=some od∧∀ name,PySem.W.lookIn name od=some (mA name):=by
 obtain ⟨o,es,ep,ho,hd,hk,_,hm⟩:=n
 refine ⟨o,ho,fun name=>?_⟩
 have e:=hm name
 unfold nsFind findBy at e
 rw [← Array.find?_toList] at e
 unfold PySem.W.lookIn
 rw [hd]
 dsimp only
 split
 ·rename_i y q
  rw [q] at e
  exact congrArg some e
 ·rename_i q
  rw [q] at e
  have a:es.toList.any (·.refKey)=false:=by
   rw [List.any_eq_false]
   intro y hy
   obtain ⟨z,t,hkey⟩:=hk y (Array.mem_toList_iff.mp hy)
   simp [DictEntry.refKey,hkey]
  have a':¬ es.toList.any (·.refKey)=true:=by rw [a];exact Bool.false_ne_true
  rw [if_neg a']
  exact congrArg some e
theorem ObjM.look {h:Heap} {x dx C:Addr} {mA:Str→Option Value} (I:ObjM h x dx C mA):∃ od,PySem.W.InstAt h x (PySem.W.instObj C dx) C (some od)∧∀ name,PySem.W.lookIn name od=some (mA name):=
 let ⟨od,ho,hl⟩:=ZGf I.ns
 ⟨od,⟨I.obj,rfl,rfl,ho⟩,hl⟩
section
variable {prog:Program} {w:World} {A:Around} {E:Value→Shared→Prop} {s:Shared} {K:PySem.W.Frag} {x dx C f:Addr} {mA:Str→Option Value} {name:Str} {v:Value}
theorem ZKh {expr:Bool} {Q:Value→Shared→Prop} (X:K.In s.heap) (I:ObjM s.heap x dx C mA) (hg:PySem.W.plainGet K C name=true) (hh:PySem.W.hasDictIn K C=true)
  (ha:PySem.W.findIn K (.ref C) name=some none) (hv:mA name=some v) (hv':PySem.W.handedIn v=true) (h:Q v {s with toks:=s.toks + 1}) :
  wpAny (model prog w) A (getAttr (.ref x) name expr) Q E s:=by
 obtain ⟨od,J,hl⟩:=I.look
 exact PySem.W.get_value X J (PySem.W.plainGet_of hg).1 (PySem.W.findObj_own hh ha rfl (by rw [hl,hv])) hv' h
theorem ZIj {pl:Sem Bool} {Q:Value×List Value→Shared→Prop} (X:K.In s.heap) (I:ObjM s.heap x dx C mA) (hg:PySem.W.plainGet K C name=true)
  (hf:PySem.W.findIn K (.ref C) name=some (some (.ref f))) (ht:PySem.W.isFn K (.ref f)=true) (hv:mA name=none) (h:Q (.ref f,[.ref x]) s) :
  wpAny (model prog w) A (getMethod (.ref x) name pl) Q E s:=by
 obtain ⟨od,J,hl⟩:=I.look
 exact PySem.W.method_fn X J (PySem.W.plainGet_of hg).1 (PySem.W.plainGet_of hg).2 hf (beq_iff_eq.mp ht) (by show (PySem.W.lookIn name od).map (·.isSome)=some false;rw [hl,hv];rfl) h
theorem ZJE {ns:List Str} {Q:Unit→Shared→Prop} (X:K.In s.heap) (I:ObjM s.heap x dx C mA)
  (hs:PySem.W.findIn K (.ref C) "__setattr__"=some (some (.builtin "object.__setattr__"))) (hp:PySem.W.plainOver K C=true) (ht:PySem.W.takerIn K C name=some none) (hh:PySem.W.hasDictIn K C=true)
  (hw:PySem.Within mA ns) (hsz:ns.length≤sizeLine)
  (h:∀ h',ObjM h' x dx C (fun y=>if y=name then some v else mA y)→Heap.SameBut dx s.heap h'→Q () {s with heap:=h',toks:=s.toks + 2}) :
  wpAny (model prog w) A (setAttr (.ref x) name v) Q E s:=by
 obtain ⟨od,J,hl⟩:=I.look
 refine PySem.W.set_plain X J hs (PySem.W.osa_open (s:={s with toks:=s.toks + 1}) (r:=none) X J hp ht fun b=>?_)
 obtain ⟨cd,hc,hd'⟩:=PySem.W.any_some hh
 have hx:s.heap.get? x=some ⟨.ref C,some dx,.plain,#[]⟩:=I.obj
 refine wpAny_bind (wpAny_pure (wpAny_bind (wpAny_bind (wpAny_loadPart hx (wpAny_bind (PySem.W.Looks.here (s:={s with toks:=s.toks + 1}) (PySem.W.looks_clsIn X hc) ?_))))))
 rw [hd']
 refine wpAny_pure (a:=some dx) (wpAny_bind (wpAny_pure (wpAny_bind ?_)))
 refine wpAny_nsSet1 (s:={s with toks:=s.toks + 1}) I.ns fun h' hn2 hs2=>?_
 obtain ⟨oD,esD,epD,hoD,hdD,hcD⟩:=hn2.count (PySem.Within.cons name v hw)
 refine wpAny_bind (wpAny_lookBehind hoD (by rw [hdD];exact pastItsLine_dict (Nat.le_trans hcD (by rw [List.length_cons];omega))) ?_)
 exact wpAny_pure (h _ ⟨(hs2.2 _ (Ne.symm I.ne)).trans I.obj,hn2,I.ne⟩ hs2)
theorem ZH1 {R:Result→Shared→Prop} {vs:List Value} {kw:List (Str×Value)} (X:K.In s.heap) (hm:PySem.W.makesIn K C=true)
  (hi:PySem.W.findIn K (.ref C) "__init__"=some (some (.ref f))) (hf:PySem.W.typeIn K (.ref f)=some (.type "function"))
  (h:codeAny (model prog w) (A.under (.builtin "type.__call__" ⟨.ref C::vs,kw⟩)) (.call (.ref f) ⟨.ref (s.heap.objs.size + 1)::vs,kw⟩) (PySem.W.InitBack (s.heap.objs.size + 1) R)
   {s with heap:=(s.heap.push PySem.W.emptyDict).push (PySem.W.instObj C s.heap.objs.size)}) :
  codeAny (model prog w) A (.call (.ref C) ⟨vs,kw⟩) R s:=by
 obtain ⟨hh,g,d,t,os⟩:=s
 exact PySem.W.make_core (PySem.W.makes_of X hm) (PySem.W.looks_findIn X hi) (fun self=>PySem.W.bind_fn X self hf) (.inl rfl) h
end
def putF (f:Str) (v:V):List (Str×V)→List (Str×V)
  | []=>[(f,v)]
  | (g,x)::r=>if g=f then (g,v)::r else (g,x)::putF f v r
theorem Zj (f g:Str) (v:V):∀ fs:List (Str×V),(putF f v fs).lookup g=if g=f then some v else fs.lookup g
  | []=>by
    show List.lookup g [(f,v)]=_
    by_cases h:g=f
    · have hb:(g == f)=true:=beq_iff_eq.mpr h
      simp only [List.lookup,hb,if_pos h]
    · have hb:(g == f)=false:=beq_eq_false_iff_ne.mpr h
      simp only [List.lookup,hb,if_neg h]
  | (k,x)::r=>by
    have ih:=Zj f g v r
    rw [show putF f v ((k,x)::r)=(if k=f then (k,v)::r else (k,x)::putF f v r) from rfl]
    by_cases hk:k=f
    · rw [if_pos hk]
      by_cases h:g=k
      · have hb:(g == k)=true:=beq_iff_eq.mpr h
        simp only [List.lookup,hb,if_pos (h.trans hk)]
      · have hb:(g == k)=false:=beq_eq_false_iff_ne.mpr h
        simp only [List.lookup,hb,if_neg (fun e:g=f=>h (e.trans hk.symm))]
    · rw [if_neg hk]
      by_cases h:g=k
      · have hb:(g == k)=true:=beq_iff_eq.mpr h
        simp only [List.lookup,hb,if_neg (fun e:g=f=>hk (h.symm.trans e))]
      · have hb:(g == k)=false:=beq_eq_false_iff_ne.mpr h
        simp only [List.lookup,hb]
        exact ih
theorem ZrX (f:Str) (v:V):∀ fs:List (Str×V),f∈(putF f v fs).map (·.1)∧∀ g,g∈fs.map (·.1)→g∈(putF f v fs).map (·.1)
  | []=>⟨by simp [putF],fun g h=>by simp at h⟩
  | (k,x)::r=>by
    obtain ⟨i1,i2⟩:=ZrX f v r
    rw [show putF f v ((k,x)::r)=(if k=f then (k,v)::r else (k,x)::putF f v r) from rfl]
    by_cases hk:k=f
    · rw [if_pos hk]
      subst hk
      exact ⟨by simp,fun g h=>by simpa using h⟩
    · rw [if_neg hk]
      refine ⟨?_,fun g h=>?_⟩
      · rw [List.map_cons]
        exact List.mem_cons_of_mem _ i1
      · rw [List.map_cons] at h ⊢
        rcases List.mem_cons.mp h with e | e
        · exact List.mem_cons.mpr (.inl e)
        · exact List.mem_cons_of_mem _ (i2 g e)
theorem ZrM (f:Str) (v:V):∀ fs:List (Str×V),(putF f v fs).length≤fs.length + 1
  | []=>by simp [putF]
  | (k,x)::r=>by
    have ih:=ZrM f v r
    rw [show putF f v ((k,x)::r)=(if k=f then (k,v)::r else (k,x)::putF f v r) from rfl]
    by_cases hk:k=f
    · rw [if_pos hk,List.length_cons,List.length_cons];omega
    · rw [if_neg hk,List.length_cons,List.length_cons];omega
theorem RelO.some_of {v:V} {o:Option Value} (r:RelO (some v) o):∃ u,o=some u∧RelV v u:=by
 cases o with
 | none=>exact (show False from r).elim
 | some u=>exact ⟨u,rfl,r⟩
theorem RelO.none_of {o:Option Value} (r:RelO none o):o=none:=by
 cases o with
 | none=>rfl
 | some u=>exact (show False from r).elim
theorem ZGt {v:V} {u:Value} (r:RelV v u):PySem.W.handedIn u=true:=by
 cases v with
 | non=>cases (show u=Value.none from r);rfl
 | bl b=>cases (show u=Value.bool b from r);rfl
 | int i=>obtain ⟨t,e⟩:=(show ∃ t,u=Value.int i t from r);cases e;rfl
 | str x=>obtain ⟨t,e⟩:=(show ∃ t,u=Value.str x t from r);cases e;rfl
 | byt b=>obtain ⟨t,e⟩:=(show ∃ t,u=Value.bytes b t from r);cases e;rfl
 | flt b=>obtain ⟨t,e⟩:=(show ∃ t,u=Value.float b t from r);cases e;rfl
 | ref a=>cases (show u=Value.ref a from r);rfl
 | ty n=>cases (show u=Value.type n from r);rfl
section
variable {P:Program} {w:World} {H H':Hp} {h h':Heap} {a C dx:Addr} {fs fs':List (Str×V)}
theorem ZwP (hok:HOk P w H h) (e:H a=some (.ins C dx fs)):∃ mA,ObjM h a dx C mA∧(∀ f,RelO (fs.lookup f) (mA f))∧PySem.Within mA (fs.map (·.1))∧fs.length≤1000∧H dx=some (.own a):=by
 obtain ⟨d,z,ne,ob,mA,n,r,q⟩:=(show Zam P w H h a (.ins C dx fs) from hok a _ e)
 exact ⟨mA,⟨ob,n,ne⟩,r,q,z,d⟩
end
structure Cls (K:PySem.W.Frag) (C:Addr):Prop where
 pg:PySem.W.plainGet K C Str.empty=true
 hd:PySem.W.hasDictIn K C=true
 po:PySem.W.plainOver K C=true
 sa:PySem.W.findIn K (.ref C) "__setattr__"=some (some (.builtin "object.__setattr__"))
theorem Cls.get {K:PySem.W.Frag} {C:Addr} (c:Cls K C) (f:Str):PySem.W.plainGet K C f=true:=c.pg
def Zaw (K:PySem.W.Frag) (C:Addr) (f:Str):Prop:=PySem.W.findIn K (.ref C) f=some none
theorem Zaw.taker {K:PySem.W.Frag} {C:Addr} {f:Str} (n:Zaw K C f):PySem.W.takerIn K C f=some none:=by
 unfold PySem.W.takerIn
 rw [show PySem.W.findIn K (.ref C) f=some none from n]
 rfl
structure Meth (K:PySem.W.Frag) (C:Addr) (m:Str) (f:Addr):Prop where
 at_:PySem.W.findIn K (.ref C) m=some (some (.ref f))
 fn:PySem.W.isFn K (.ref f)=true
 kp:PySem.W.keepIn K (.ref f)=true
section
variable {X:Cx} {pins:List (Addr×Obj)} {σ:St} {H:Hp} {s:Shared} {a C dx:Addr} {fs:List (Str×V)} {f:Str} {v:V} {A:Around} {E:Value→Shared→Prop}
theorem ZEE {b:Bool} {Q:Value→Shared→Prop} (I:Inv X pins σ H s) (e:H a=some (.ins C dx fs)) (c:Cls X.K C) (n:Zaw X.K C f) (l:fs.lookup f=some v)
  (h:∀ u s',Inv X pins σ H s'→RelV v u→Q u s'):wpAny (model X.prog X.w) A (getAttr (.ref a) f b) Q E s:=by
 obtain ⟨mA,O,r,_,_,_⟩:=ZwP I.hok e
 obtain ⟨u,hu,ru⟩:=RelO.some_of (v:=v) (o:=mA f) (by rw [← l];exact r f)
 exact ZKh I.kIn O (c.get f) c.hd n hu (ZGt ru) (h u _ (I.tok _) ru)
theorem Zux {m:Str} {g:Addr} {pl:Sem Bool} {Q:Value×List Value→Shared→Prop} (I:Inv X pins σ H s) (e:H a=some (.ins C dx fs)) (c:Cls X.K C) (k:Meth X.K C m g) (l:fs.lookup m=none)
  (h:Q (.ref g,[.ref a]) s):wpAny (model X.prog X.w) A (getMethod (.ref a) m pl) Q E s:=by
 obtain ⟨mA,O,r,_,_,_⟩:=ZwP I.hok e
 have hn:mA m=none:=RelO.none_of (by rw [← l];exact r m)
 exact ZIj I.kIn O (c.get m) k.at_ k.fn hn h
theorem ZD6 {y:V} {u:Value} {Q:Unit→Shared→Prop} (I:Inv X pins σ H s) (e:H a=some (.ins C dx fs)) (c:Cls X.K C) (n:Zaw X.K C f) (hl:fs.length < 1000) (ry:RelV y u)
  (h:∀ s',Inv X pins σ (upd H a (.ins C dx (putF f y fs))) s'→Q () s'):wpAny (model X.prog X.w) A (setAttr (.ref a) f u) Q E s:=by
 obtain ⟨mA,O,r,wi,_,ho⟩:=ZwP I.hok e
 have hz:(fs.map (·.1)).length≤sizeLine:=by rw [List.length_map,sizeLine_eq];omega
 refine ZJE I.kIn O c.sa c.po n.taker c.hd wi hz fun h' O' sb=>h _ ?_
 have hd:∃ o,h'.get? dx=some o:=let ⟨o,_,_,e',_⟩:=O'.ns;⟨o,e'⟩
 refine I.write (x:=a) (e:=dx) (by rw [e];exact True.intro) (.inr ho) (fun b q hb z=>(sb.2 b hb).trans z) hd ?_
 refine ⟨by rw [Zc O.ne];exact ho,?_,O.ne,O'.obj,_,O'.ns,fun g=>?_,fun g hg=>?_⟩
 ·have:=ZrM f y fs;omega
 ·show RelO ((putF f y fs).lookup g) (if g=f then some u else mA g)
  rw [Zj]
  by_cases q:g=f
  ·rw [if_pos q,if_pos q];exact ry
  ·rw [if_neg q,if_neg q];exact r g
 ·by_cases q:g=f
  ·rw [q];exact (ZrX f y fs).1
  ·refine (ZrX f y fs).2 g (wi g fun z=>hg ?_)
   show (if g=f then some u else mA g)=none
   rw [if_neg q];exact z
theorem Inv.made (I:Inv X pins σ H s):Inv X pins σ (upd (upd H s.heap.objs.size (.own (s.heap.objs.size + 1))) (s.heap.objs.size + 1) (.ins C s.heap.objs.size []))
  {s with heap:=(s.heap.push PySem.W.emptyDict).push (PySem.W.instObj C s.heap.objs.size)}:=by
 have e1:(s.heap.push PySem.W.emptyDict).get? s.heap.objs.size=some PySem.W.emptyDict:=Heap.get?_push_size s.heap rfl
 have e2:((s.heap.push PySem.W.emptyDict).push (PySem.W.instObj C s.heap.objs.size)).get? (s.heap.objs.size + 1)=some (PySem.W.instObj C s.heap.objs.size):=by
  have:=Heap.get?_push_size (s.heap.push PySem.W.emptyDict) (o:=PySem.W.instObj C s.heap.objs.size) rfl
  rwa [Heap.size_push] at this
 have e3:(s.heap.push PySem.W.emptyDict).Ns s.heap.objs.size (fun _=>none):=⟨PySem.W.emptyDict,#[],_,e1,rfl,(fun e he=>absurd he (by simp)),fun _=>rfl⟩
 have I1:=I.laid (a:=s.heap.objs.size) (o:=.own (s.heap.objs.size + 1)) (h':=s.heap.push PySem.W.emptyDict) (t':=s.toks) (fun b u q=>Heap.get?_push_of_some _ q) (Nat.le_refl _) ⟨_,e1⟩
 refine I1.laid (a:=s.heap.objs.size + 1) (o:=.ins C s.heap.objs.size []) (t':=s.toks) (fun b u q=>Heap.get?_push_of_some _ q) (Nat.le_of_eq (Heap.size_push _ _)) ?_
 have ne:s.heap.objs.size≠s.heap.objs.size + 1:=Nat.ne_of_lt (Nat.lt_succ_self _)
 refine ⟨by rw [Zc ne,Zb],Nat.zero_le _,ne,e2,fun _=>none,(Heap.Ns1.of_empty e3).at fun o q=>Heap.get?_push_of_some _ q,fun _=>True.intro,fun y hy=>absurd rfl hy⟩
theorem ZKv {prog:Program} {w:World} {env:Env} {e:Expr} {f:Str} {pos:Pos} {s:Shared} {Q:Value→Shared→Prop} (hb:attributeBase e f env (eval e env)=eval e env)
  (h:wpAny (model prog w) A (eval e env) (fun o s₁=>wpAny (model prog w) A (getAttr o f true) Q E s₁) E s):wpAny (model prog w) A (eval (.Attribute e f pos) env) Q E s:=
 Attribute_any_ h (by rw [arm_eval_Attribute,hb])
end
def tFld (K:PySem.W.Frag) (ta:TE) (f:Str):TE:=fun σ H Q=>ta σ H fun x H1=>∃ a C dx fs v,x=.ref a∧H1 a=some (.ins C dx fs)∧Cls K C∧Zaw K C f∧fs.lookup f=some v∧Q v H1
def sFld (K:PySem.W.Frag) (ta tv:TE) (f:Str):TS:=fun D σ H=>tv σ H fun y H1=>ta σ H1 fun x H2=>∃ a C dx fs,x=.ref a∧H2 a=some (.ins C dx fs)∧Cls K C∧Zaw K C f∧fs.length < 1000∧
 D.nx σ (upd H2 a (.ins C dx (putF f y fs)))
section
variable {X:Cx} {o e value:Expr} {f:Str} {pos pos' tpos:Pos} {ta tv:TE}
theorem ZJ (he:PE X e ta) (hb:attributeBase e f X.env (eval e X.env)=eval e X.env):PE X (.Attribute e f pos) (tFld X.K ta f):=by
 try unfold PE at *
 intro pins s σ H Q I h
 refine ZKv hb (thn (he pins s σ H _ I h) fun u s1 ⟨x,H1,I1,rx,a,C,dx,fs,v,ex,ea,c,n,l,q⟩=>?_)
 subst ex
 obtain rfl:u=Value.ref a:=rx
 exact ZEE I1 ea c n l fun u' s2 I2 ru=>⟨v,H1,I2,ru,q⟩
theorem ZaF (ha:PE X o ta) (hv:PE X value tv) (hs:swapsWith value (some (.Attribute o f pos')) pos.line X.env=pure false):PS X (.Assign [.Attribute o f pos'] value pos) (sFld X.K ta tv f):=by
 try unfold PE at *;try unfold PS at *
 intro pins s σ H D I h
 refine plainObj_wpAny_Assign_Attribute (thn (hv pins s σ H _ I h) fun u s1 ⟨y,H1,I1,ry,q⟩=>thn (ha pins s1 σ H1 _ I1 q) fun ov s2 ⟨x,H2,I2,rx,a,C,dx,fs,ex,ea,c,n,l,q2⟩=>?_) hs
 subst ex
 obtain rfl:ov=Value.ref a:=rx
 exact ZD6 I2 ea c n l ry fun s3 I3=>⟨σ,_,I3,q2⟩
end
section
variable {X:Cx} {pins:List (Addr×Obj)} {σ:St} {H:Hp} {s:Shared} {A:Around} {E:Value→Shared→Prop} {Q:Value→Shared→Prop} {c:Value} {b:Bool}
inductive TyOf (K:PySem.W.Frag) (H:Hp):V→Value→Prop where
 | non:TyOf K H .non (.type "NoneType")
 | bl (x:Bool):TyOf K H (.bl x) (.type "bool")
 | int (i:Int):TyOf K H (.int i) (.type "int")
 | str (x:Str):TyOf K H (.str x) (.type "str")
 | flt (x:UInt64):TyOf K H (.flt x) (.type "float")
 | lst {a:Addr} {xs:List V} (e:H a=some (.lst xs)):TyOf K H (.ref a) (.type "list")
 | frz {a:Addr} {o:Obj} {xs:List V} (e:H a=some (.frz o (.lst xs))):TyOf K H (.ref a) (.type "list")
 | tup {a:Addr} {xs:List V} (e:H a=some (.tup xs)):TyOf K H (.ref a) (.type "tuple")
 | dK {a:Addr} {kvs:List (Key×V)} (e:H a=some (.dK kvs)):TyOf K H (.ref a) (.type "dict")
 | dT {a:Addr} {kvs:List (List Key×V)} (e:H a=some (.dT kvs)):TyOf K H (.ref a) (.type "dict")
 | ins {a C dx:Addr} {fs:List (Str×V)} (e:H a=some (.ins C dx fs)) (cl:Cls K C) (ha:PySem.W.findIn K (.ref C) "__class__"=some (some (.builtin "object.__class__")))
   (hn:PySem.W.specialIn K (.builtin "object.__class__") "__get__"=some (some (.builtin "getset_descriptor.__get__"))) (htk:PySem.W.takesIn K (.builtin "object.__class__")=some true)
   (hm:PySem.W.mroIn K C (.type "object")=some true):TyOf K H (.ref a) (.ref C)
theorem ZGo {x:V} {u t:Value} (I:Inv X pins σ H s) (rx:RelV x u) (ty:TyOf X.K H x t) (e:PySem.W.kitOne X.K t c=some b) (h:∀ tk,Q (.bool b) {s with toks:=tk}) :
  wpAny (model X.prog X.w) A (call (.builtin "isinstance") [u,c]) Q E s:=by
 cases ty with
 | non=>cases (show u=Value.none from rx);exact PySem.W.kia_one PySem.W.kitx_none I.kIn True.intro e (fun z=>nomatch z) h
 | bl y=>cases (show u=Value.bool y from rx);exact PySem.W.kia_one PySem.W.kitx_bool I.kIn True.intro e (fun z=>nomatch z) h
 | int i=>obtain ⟨t,q⟩:=(show ∃ t,u=Value.int i t from rx);cases q;exact PySem.W.kia_one PySem.W.kitx_int I.kIn True.intro e (fun z=>nomatch z) h
 | str y=>obtain ⟨t,q⟩:=(show ∃ t,u=Value.str y t from rx);cases q;exact PySem.W.kia_one PySem.W.kitx_str I.kIn True.intro e (fun z=>nomatch z) h
 | flt y=>obtain ⟨t,q⟩:=(show ∃ t,u=Value.float y t from rx);cases q;exact PySem.W.kia_one PySem.W.kitx_float I.kIn True.intro e (fun z=>nomatch z) h
 | @lst a xs ea=>
  cases (show u=Value.ref a from rx)
  obtain ⟨_,_,n,_,h1⟩:=(show Zam X.prog X.w H s.heap a (.lst xs) from I.hok a _ ea)
  exact PySem.W.kia_one PySem.W.kitx_list I.kIn ⟨_,h1,rfl⟩ e (fun z=>nomatch z) h
 | @frz a ob xs ea=>
  cases (show u=Value.ref a from rx)
  obtain ⟨_,_,_,n,_,h1⟩:=(show Zam X.prog X.w H s.heap a (.frz ob (.lst xs)) from I.hok a _ ea)
  exact PySem.W.kia_one PySem.W.kitx_list I.kIn ⟨_,h1,rfl⟩ e (fun z=>nomatch z) h
 | @tup a xs ea=>
  cases (show u=Value.ref a from rx)
  obtain ⟨_,_,_,p⟩:=(show Zam X.prog X.w H s.heap a (.tup xs) from I.hok a _ ea)
  obtain ⟨o,h1,h2,_⟩:=p
  exact PySem.W.kia_one PySem.W.kitx_tuple I.kIn ⟨o,h1,h2⟩ e (fun z=>nomatch z) h
 | @dK a kvs ea=>
  cases (show u=Value.ref a from rx)
  obtain ⟨_,_,vs,_,p⟩:=(show Zam X.prog X.w H s.heap a (.dK kvs) from I.hok a _ ea)
  obtain ⟨o,es,ep,h1,h2,_⟩:=p
  exact PySem.W.kia_one PySem.W.kitx_dict I.kIn ⟨o,h1,h2.1⟩ e (fun z=>nomatch z) h
 | @dT a kvs ea=>
  cases (show u=Value.ref a from rx)
  obtain ⟨_,_,xs,_,o,es,ep,h1,h2,_⟩:=(show Zam X.prog X.w H s.heap a (.dT kvs) from I.hok a _ ea)
  exact PySem.W.kia_one PySem.W.kitx_dict I.kIn ⟨o,h1,h2.1⟩ e (fun z=>nomatch z) h
 | @ins a C dx fs ea cl ha hn htk hm=>
  cases (show u=Value.ref a from rx)
  obtain ⟨mA,O,_⟩:=ZwP I.hok ea
  obtain ⟨od,J,_⟩:=O.look
  exact PySem.W.kia_one (PySem.W.kitx_own (cl.get _) cl.hd ha hn htk hm) I.kIn J e (fun z=>nomatch z) h
end
end L2
namespace L2
open PySem PySem.Spec PyProof.Rows
structure Room (k:Nat) (A:Around):Prop where
 hd:A.handled=none
 dp:A.depth + 3 * k + 5 < recursionLimit
 un:A.units + 16 * k + 200 < cLine
theorem Room.mono {j k:Nat} {A:Around} (r:Room k A) (h:j≤k):Room j A:=⟨r.hd,by have:=r.dp;omega,by have:=r.un;omega⟩
theorem Room.deeper {k:Nat} {A:Around} (r:Room (k + 1) A) (env:Env):Room k (A.deeper env):=
 ⟨r.hd,by have:=r.dp;show A.depth + 1 + 3 * k + 5 < _;omega,by have:=r.un;show A.units + 3 + 16 * k + 200 < _;omega⟩
theorem ZEx {A:Around} {C:Addr} {us:List Value} {kw:List (Str×Value)}:(A.under (.builtin "type.__call__" ⟨.ref C::us,kw⟩)).depth=A.depth + 1:=by
 first | rfl | simp [Around.under,Code.weight,Code.isCreation,Code.isGuard,Code.isCaller,Code.frames,Code.isFrame,guardIds]
theorem ZEw {A:Around} {C:Addr} {us:List Value} {kw:List (Str×Value)}:(A.under (.builtin "type.__call__" ⟨.ref C::us,kw⟩)).units=A.units + 1:=by
 first | rfl | simp [Around.under,Code.cUnits,Code.frames,Code.isFrame]
theorem Room.make {k:Nat} {A:Around} (r:Room (k + 1) A) (C:Addr) (us:List Value) (kw:List (Str×Value)):Room k (A.under (.builtin "type.__call__" ⟨.ref C::us,kw⟩)):=
 ⟨r.hd,by have:=r.dp;rw [ZEx];omega,by have:=r.un;rw [ZEw];omega⟩
theorem Room.depth {k:Nat} {A:Around} (r:Room k A):A.depth < recursionLimit:=by have:=r.dp;omega
theorem Room.units {k:Nat} {A:Around} (r:Room k A):A.units + 64 < cLine:=by have:=r.un;omega
def tNil:TA:=fun _ H Q=>Q [] H
def Zib (ta:TE) (tr:TA):TA:=fun σ H Q=>ta σ H fun x H1=>tr σ H1 fun xs H2=>Q (x::xs) H2
section
variable {X:Cx} {e:Expr} {es:List Expr} {te:TE} {t:TA} {pos:Pos}
theorem Zf:PA X [] tNil:=by
 try unfold PA at *
 exact fun _ _ _ _ H Q I h=>Calls.spliced_nil ⟨[],H,I,.nil,h⟩
theorem Za (ha:PE X e te) (hr:PA X es t) (hs:starEach (e::es) X.env=(false,eval e X.env)::starEach es X.env:=by rfl):PA X (e::es) (Zib te t):=by
 try unfold PE at *;try unfold PA at *
 intro pos pins s σ H Q I h
 rw [hs]
 show wpAny _ _ (spliced ((false,eval e X.env)::backTo pos (starEach es X.env))) _ _ s
 refine Calls.spliced_cons (thn (ha pins s σ H _ I h) fun u s1 ⟨x,H1,I1,r1,q1⟩=>?_)
 exact thn (hr pos pins s1 σ H1 _ I1 q1) fun us s2 ⟨xs,H2,I2,r2,q2⟩=>⟨x::xs,H2,I2,.cons r1 r2,q2⟩
def tTup (t:TA):TE:=fun σ H Q=>t σ H fun xs H1=>xs.length≤sizeLine∧∀ p,H1 p=none→Q (.ref p) (upd H1 p (.tup xs))
def tLst (t:TA):TE:=fun σ H Q=>t σ H fun xs H1=>xs.length≤sizeLine∧∀ p,H1 p=none→Q (.ref p) (upd H1 p (.lst xs))
theorem ZaM {x1} (h:PA X es t):PE X (.Tuple es x1 pos) (tTup t):=by
 try unfold PE at *;try unfold PA at *
 intro pins s σ H Q I hq
 refine wpAny_Tuple_spliced (thn (h pos pins s σ H _ I hq) fun us s1 ⟨xs,H1,I1,r,z,q⟩=>⟨by rw [← r.length];exact z,?_⟩)
 have hf:H1 s1.heap.objs.size=none:=I1.hok.fresh (Nat.le_refl _)
 refine ⟨.ref s1.heap.objs.size,upd H1 s1.heap.objs.size (.tup xs),I1.laid (t':=s1.toks) (fun b u e=>Heap.get?_push_of_some _ e) (Nat.le_refl _) ?_,rfl,q _ hf⟩
 exact ⟨z,us,r,⟨_,Heap.get?_push_size _ rfl,rfl,_,rfl⟩⟩
theorem ZcP (h:PA X es t):PE X (.List es pos) (tLst t):=by
 try unfold PE at *;try unfold PA at *
 intro pins s σ H Q I hq
 refine wpAny_List_spliced (thn (h pos pins s σ H _ I hq) fun us s1 ⟨xs,H1,I1,r,z,q⟩=>⟨by rw [← r.length];exact z,?_⟩)
 have hf:H1 s1.heap.objs.size=none:=I1.hok.fresh (Nat.le_refl _)
 refine ⟨.ref s1.heap.objs.size,upd H1 s1.heap.objs.size (.lst xs),I1.laid (t':=s1.toks) (fun b u e=>Heap.get?_push_of_some _ e) (Nat.le_refl _) ?_,rfl,q _ hf⟩
 exact ⟨z,us,0,r,Heap.get?_push_size _ rfl⟩
end
abbrev Sp:=List V→Hp→VK→XK→Prop
abbrev CXT:=List Env→Hp→Shared→XK→Value→Shared→Prop
structure Env0 (P:Program) (w:World) (K:PySem.W.Frag) (mg:Str→Option Value) (base:Heap) (A:Around) (outer:List Env) (s:Shared) (H:Hp):Prop where
 frames:A.frames=some outer
 mod:Mod K mg base
 bs:∀ b o,base.get? b=some o→s.heap.get? b=some o∧H b=none
 bsz:base.objs.size≤s.heap.objs.size
 funs:s.heap.FunFrames base outer
 frf:∀ b∈frs outer,H b=none
 hok:HOk P w H s.heap
 bare:AllBare s.gens
def CE (outer:List Env) (P:Program) (w:World) (H:Hp) (s:Shared) (Q:VK) (u:Value) (s':Shared):Prop:=
 ∃ v H',s'.os=s.os∧AllBare s'.gens∧Un (frs outer) [] H H' s.heap s'.heap∧HOk P w H' s'.heap∧RelV v u∧Q v H'
def CR (CX:CXT) (outer:List Env) (P:Program) (w:World) (H:Hp) (s:Shared) (Q:VK) (E:XK) (r:Result) (s':Shared):Prop:=
 match r with
 | .ok (.ret u)=>CE outer P w H s Q u s'
 | .ok _=>False
 | .error e=>CX outer H s E e s'
structure FnOk (P:Program) (w:World) (K:PySem.W.Frag) (mg:Str→Option Value) (base:Heap) (CX:CXT) (k:Nat) (f:Addr) (fd:FuncData) (ps:List Str) (sp:Sp):Prop where
 len:∀ vs H Q E,sp vs H Q E→vs.length=ps.length
 run:∀ (A:Around) (outer:List Env) (s:Shared) (H:Hp) (args:Args) (us:List Value) (vs:List V) (Q:VK) (E:XK),Room k A→Env0 P w K mg base A outer s H→BindsTo s fd args (ps.zip us)→Vals vs us→sp vs H Q E→
  codeAny (model P w) A (.call (.ref f) args) (CR CX outer P w H s Q E) s
theorem Env0.make {P:Program} {w:World} {K:PySem.W.Frag} {mg:Str→Option Value} {base:Heap} {A:Around} {outer:List Env} {s:Shared} {H:Hp} (e:Env0 P w K mg base A outer s H) (C:Addr) (us:List Value) (kw:List (Str×Value)) :
  Env0 P w K mg base (A.under (.builtin "type.__call__" ⟨.ref C::us,kw⟩)) outer s H:=⟨by first | exact e.frames | (simpa [Around.under,Code.envs,Code.isFrame,pushEnvs] using e.frames),e.mod,e.bs,e.bsz,e.funs,e.frf,e.hok,e.bare⟩
section
variable {X:Cx} {pins:List (Addr×Obj)} {σ:St} {H:Hp} {s s':Shared}
theorem Inv.env0 (I:Inv X pins σ H s):Env0 X.prog X.w X.K X.mg X.base X.A X.stack s H:=
 ⟨I.ok.frames,I.ok.mod,I.bs,Nat.le_trans I.ok.bsz I.sz,I.stack,I.stkFree,I.hok,I.bare⟩
theorem Inv.after {Q:VK} {u:Value} (I:Inv X pins σ H s) (h:CE X.stack X.prog X.w H s Q u s'):EP X pins σ Q u s':=by
 obtain ⟨v,H',os,bare,un,hok,r,q⟩:=h
 obtain ⟨hh,g,d,t,os'⟩:=s'
 obtain rfl:os'=s.os:=os
 exact ⟨v,H',I.call (h':=hh) (g':=g) (d':=d) (t':=t) (ch:=[]) un hok bare (fun b z=>absurd z (by simp)),r,q⟩
end
def ZJr (sp:Sp) (dvs:List V) (E:St→XK) (t:TA):TE:=fun σ H Q=>t σ H fun vs H1=>sp (vs++dvs) H1 Q (E σ)
def ZJp (C:Addr) (m:Str) (sp:Sp) (dvs:List V) (E:St→XK) (ta:TE) (t:TA):TE:=fun σ H Q=>ta σ H fun x H1=>∃ a dx fs,x=.ref a∧H1 a=some (.ins C dx fs)∧fs.lookup m=none∧
 t σ H1 fun vs H2=>sp (x::(vs++dvs)) H2 Q (E σ)
def ZMg (C:Addr) (sp:Sp) (dvs:List V) (E:St→XK) (t:TA):TE:=fun σ H Q=>t σ H fun vs H1=>∀ x dx,H1 x=none→H1 dx=none→dx≠x→
 sp (.ref x::(vs++dvs)) (upd (upd H1 dx (.own x)) x (.ins C dx [])) (fun v H2=>v=.non∧Q (.ref x) H2) (E σ)
def ZN (K:PySem.W.Frag) (fd:FuncData) (ps:List Str) (ds:List Value):Prop:=
 ∀ (s:Shared) (us:List Value),K.In s.heap→(us++ds).length=ps.length→BindsTo s fd ⟨us,[]⟩ (ps.zip (us++ds))
theorem ZN.all {K:PySem.W.Frag} {fd:FuncData} {ps:List Str} (h:∀ us:List Value,us.length=ps.length→bindArgs fd ⟨us,[]⟩=pure (ps.zip us)):ZN K fd ps []:=fun s us _ hl=>by
 rw [List.append_nil] at hl ⊢
 exact .of_eq (h us hl)
def ZhI (CX:CXT) (X:Cx) (E:St→XK):Prop:=∀ (pins:List (Addr×Obj)) (σ:St) (H:Hp) (s:Shared) (e:Value) (s':Shared),Inv X pins σ H s→CX X.stack H s (E σ) e s'→X.xe e s'
section
variable {X:Cx} {CX:CXT} {k:Nat} {f C:Addr} {fd:FuncData} {ps:List Str} {sp:Sp} {dvs:List V} {ds:List Value} {E:St→XK} {x m:Str} {p pos apos:Pos} {e o:Expr} {es:List Expr} {ta:TE} {t:TA}
theorem ZC1 {pins:List (Addr×Obj)} {σ:St} {H:Hp} {s:Shared} {Q:VK} {us:List Value} {vs:List V} (F:FnOk X.prog X.w X.K X.mg X.base CX k f fd ps sp) (hr:Room k X.A) (hb:ZN X.K fd ps ds) (hd:Vals dvs ds) (hx:ZhI CX X E)
  (I:Inv X pins σ H s) (r:Vals vs us) (h:sp (vs++dvs) H Q (E σ)):wpAny (model X.prog X.w) X.A (call (.ref f) us) (EP X pins σ Q) X.xe s:=by
 have r2:Vals (vs++dvs) (us++ds):=r.append hd
 have hl:(us++ds).length=ps.length:=by rw [← r2.length];exact F.len _ _ _ _ h
 refine wpAny_call (codeAny_mono (F.run X.A X.stack s H ⟨us,[]⟩ (us++ds) (vs++dvs) Q (E σ) hr I.env0 (hb s us I.kIn hl) r2 h) fun r s' hq=>?_)
 cases r with
 | error e=>exact hx pins σ H s e s' I hq
 | ok fl=>
  cases fl with
  | ret u=>exact I.after hq
  | next=>exact False.elim hq
  | brk=>exact False.elim hq
  | cont=>exact False.elim hq
theorem Zx (F:FnOk X.prog X.w X.K X.mg X.base CX k f fd ps sp) (hr:Room k X.A) (hg:Gl X x) (hm:X.mg x=some (.ref f)) (hk:PySem.W.keepIn X.K (.ref f)=true) (hb:ZN X.K fd ps ds) (hd:Vals dvs ds) (hx:ZhI CX X E)
  (ha:PA X (e::es) t) (hdb:(x == ("__debug__":Str))=false:=by decide) (he:starEach (e::es) X.env=(false,eval e X.env)::starEach es X.env:=by rfl) (hpl:(backTo pos (starEach es X.env)).any (·.1)=false:=by rfl) :
  PE X (.Call (.Name x p) (e::es) [] pos) (ZJr sp dvs E t):=by
 try unfold PE at *;try unfold PA at *
 intro pins s σ H Q I h
 refine wpAny_Call_Name_kw (ZjU I hg hm ?_ hdb)
 refine PySem.W.callWith_K (h₀:=X.base) I.ok.mod.kin hk (thn (ha pos pins s σ H _ I h) fun us s1 ⟨vs,H1,I1,r,q⟩=>⟨I1.kIn,?_⟩) he hpl
 exact ZC1 F hr hb hd hx I1 r q
theorem ZC6 (F:FnOk X.prog X.w X.K X.mg X.base CX k f fd ps sp) (hr:Room k X.A) (hg:Gl X x) (hm:X.mg x=some (.ref f)) (hk:PySem.W.keepIn X.K (.ref f)=true) (hb:ZN X.K fd ps ds) (hd:Vals dvs ds) (hx:ZhI CX X E)
  (hdb:(x == ("__debug__":Str))=false:=by decide):PE X (.Call (.Name x p) [] [] pos) (ZJr sp dvs E tNil):=by
 try unfold PE at *
 intro pins s σ H Q I h
 refine wpAny_Call_Name_kw (ZjU I hg hm ?_ hdb)
 exact PySem.W.callWith_K0 I.kIn hk (ZC1 (us:=[]) F hr hb hd hx I .nil h)
theorem ZbO {pl:Sem Bool} (he:PE X o ta) (c:Cls X.K C) (hm:Meth X.K C m f) (F:FnOk X.prog X.w X.K X.mg X.base CX k f fd ps sp) (hr:Room k X.A) (hb:ZN X.K fd ps ds) (hd:Vals dvs ds) (hx:ZhI CX X E) (ha:PA X (e::es) t)
  (hst:starEach (e::es) X.env=(false,eval e X.env)::starEach es X.env:=by rfl) (hpl:(backTo pos (starEach es X.env)).any (·.1)=false:=by rfl)
  (ht:eval (.Call (.Attribute o m apos) (e::es) [] pos) X.env=(do
   let ov ← eval o X.env
   standAt apos.atName
   let (f,first) ← holding [ov] (getMethod ov m pl)
   callWith pos f first (backTo pos (starEach (e::es) X.env)) (backToKw pos (keywordEach [] X.env))):=by rfl) :
  PE X (.Call (.Attribute o m apos) (e::es) [] pos) (ZJp C m sp dvs E ta t):=by
 try unfold PE at *;try unfold PA at *
 intro pins s σ H Q I h
 refine PySem.W.methodCall_KW (pl:=pl) (thn (he pins s σ H _ I h) fun u s1 ⟨x,H1,I1,rx,a,dx,fs,ex,ea,l,q⟩=>?_) ht
 subst ex
 obtain rfl:u=Value.ref a:=rx
 refine Zux I1 ea c hm l ?_
 refine PySem.W.callWith_K (first:=[.ref a]) (h₀:=X.base) I.ok.mod.kin hm.kp (thn (ha pos pins s1 σ H1 _ I1 q) fun us s2 ⟨vs,H2,I2,r,q2⟩=>⟨I2.kIn,?_⟩) hst hpl
 exact ZC1 (us:=.ref a::us) (vs:=.ref a::vs) F hr hb hd hx I2 (.cons rfl r) q2
theorem ZvL {pl:Sem Bool} (he:PE X o ta) (c:Cls X.K C) (hm:Meth X.K C m f) (F:FnOk X.prog X.w X.K X.mg X.base CX k f fd ps sp) (hr:Room k X.A) (hb:ZN X.K fd ps ds) (hd:Vals dvs ds) (hx:ZhI CX X E)
  (ht:eval (.Call (.Attribute o m apos) [] [] pos) X.env=(do
   let ov ← eval o X.env
   standAt apos.atName
   let (f,first) ← holding [ov] (getMethod ov m pl)
   callWith pos f first (backTo pos (starEach [] X.env)) (backToKw pos (keywordEach [] X.env))):=by rfl) :
  PE X (.Call (.Attribute o m apos) [] [] pos) (ZJp C m sp dvs E ta tNil):=by
 try unfold PE at *
 intro pins s σ H Q I h
 refine PySem.W.methodCall_KW (pl:=pl) (thn (he pins s σ H _ I h) fun u s1 ⟨x,H1,I1,rx,a,dx,fs,ex,ea,l,q⟩=>?_) ht
 subst ex
 obtain rfl:u=Value.ref a:=rx
 refine Zux I1 ea c hm l ?_
 exact PySem.W.callWith_K0 (first:=[.ref a]) I1.kIn hm.kp (ZC1 (us:=[.ref a]) (vs:=[.ref a]) F hr hb hd hx I1 (.cons rfl .nil) q)
structure Mk (K:PySem.W.Frag) (C f:Addr):Prop where
 makes:PySem.W.makesIn K C=true
 init:PySem.W.findIn K (.ref C) "__init__"=some (some (.ref f))
 fn:PySem.W.isFn K (.ref f)=true
 kp:PySem.W.keepIn K (.ref C)=true
theorem ZHz {pins:List (Addr×Obj)} {σ:St} {H:Hp} {s:Shared} {Q:VK} {us:List Value} {vs:List V} (M:Mk X.K C f) (F:FnOk X.prog X.w X.K X.mg X.base CX k f fd ps sp) (hr:Room (k + 1) X.A) (hb:ZN X.K fd ps ds) (hd:Vals dvs ds)
  (hx:ZhI CX X E) (I:Inv X pins σ H s) (r:Vals vs us)
  (h:∀ x dx,H x=none→H dx=none→dx≠x→sp (.ref x::(vs++dvs)) (upd (upd H dx (.own x)) x (.ins C dx [])) (fun v H2=>v=.non∧Q (.ref x) H2) (E σ)) :
  wpAny (model X.prog X.w) X.A (call (.ref C) us) (EP X pins σ Q) X.xe s:=by
 have hq:=h (s.heap.objs.size + 1) s.heap.objs.size (I.hok.fresh (Nat.le_succ _)) (I.hok.fresh (Nat.le_refl _)) (Nat.ne_of_lt (Nat.lt_succ_self _))
 have I2:=Inv.made (C:=C) I
 have r2:Vals (V.ref (s.heap.objs.size + 1)::(vs++dvs)) (Value.ref (s.heap.objs.size + 1)::(us++ds)):=.cons rfl (r.append hd)
 have hl:(Value.ref (s.heap.objs.size + 1)::us++ds).length=ps.length:=by
  have e:=r2.length
  rw [F.len _ _ _ _ hq] at e
  exact e.symm
 refine wpAny_call (ZH1 (f:=f) I.kIn M.makes M.init (beq_iff_eq.mp M.fn) (codeAny_mono (F.run _ X.stack _ _ ⟨Value.ref (s.heap.objs.size + 1)::us,[]⟩ (Value.ref (s.heap.objs.size + 1)::(us++ds)) _ _ (E σ) (hr.make C us [])
  (I2.env0.make C us []) (hb _ (Value.ref (s.heap.objs.size + 1)::us) I2.kIn hl) r2 hq) fun r s' hq'=>?_))
 cases r with
 | error e=>exact hx pins σ _ _ e s' I2 hq'
 | ok fl=>
  cases fl with
  | ret u=>
   obtain ⟨v,H',I3,rv,ev,q3⟩:=I2.after hq'
   subst ev
   exact ⟨rv,⟨V.ref (s.heap.objs.size + 1),H',I3,rfl,q3⟩⟩
  | next=>exact False.elim hq'
  | brk=>exact False.elim hq'
  | cont=>exact False.elim hq'
theorem ZgG (M:Mk X.K C f) (F:FnOk X.prog X.w X.K X.mg X.base CX k f fd ps sp) (hr:Room (k + 1) X.A) (hg:Gl X x) (hm:X.mg x=some (.ref C)) (hb:ZN X.K fd ps ds) (hd:Vals dvs ds) (hx:ZhI CX X E)
  (ha:PA X (e::es) t) (hdb:(x == ("__debug__":Str))=false:=by decide) (he:starEach (e::es) X.env=(false,eval e X.env)::starEach es X.env:=by rfl) (hpl:(backTo pos (starEach es X.env)).any (·.1)=false:=by rfl) :
  PE X (.Call (.Name x p) (e::es) [] pos) (ZMg C sp dvs E t):=by
 try unfold PE at *;try unfold PA at *
 intro pins s σ H Q I h
 refine wpAny_Call_Name_kw (ZjU I hg hm ?_ hdb)
 refine PySem.W.callWith_K (h₀:=X.base) I.ok.mod.kin M.kp (thn (ha pos pins s σ H _ I h) fun us s1 ⟨vs,H1,I1,r,q⟩=>⟨I1.kIn,?_⟩) he hpl
 exact ZHz M F hr hb hd hx I1 r q
end
section
variable {X:Cx} {CX:CXT} {k:Nat} {f C:Addr} {fd:FuncData} {ps ks:List Str} {sp:Sp} {E:St→XK} {x m:Str} {p pos apos kpos:Pos} {e o:Expr} {es:List Expr} {kws:List Keyword} {te ta:TE} {t tk:TA} {nm:Option Str}
variable {g:List Value→List Value→List Value} {gV:List V→List V→List V}
end
structure Zq (N P:List Str) (sc:Scope):Prop where
 kind:sc.kind=.function
 co:sc.isCoroutine=false
 gen:sc.isGenerator=false
 nd:N.Nodup
 pre:N.take P.length=P
 par:∀ x∈P,sc.names.lookup x=some .local∨sc.names.lookup x=some .cell
 nofree:∀ y∈sc.names,y.2≠.free
theorem ZzP {kindOf:Str→Option NameKind} {x:Str}:∀ {binds:List (Str×Value)} {m:Str→Option Value},(∀ v,(x,v) ∉ binds)→bindL kindOf binds m x=m x
  | [],_,_=>rfl
  | (n,v)::r,m,h=>by
    unfold bindL
    rw [ZzP fun w hw=>h w (List.mem_cons_of_mem _ hw)]
    split
    · have:x≠n:=by rintro rfl;exact h v List.mem_cons_self
      simp [this]
    · rfl
theorem ZzR {kindOf:Str→Option NameKind} {x:Str}:∀ {binds:List (Str×Value)} {m:Str→Option Value},(∀ v,(x,v) ∉ binds)→bindC kindOf binds m x=m x
  | [],_,_=>rfl
  | (n,v)::r,m,h=>by
    unfold bindC
    rw [ZzR fun w hw=>h w (List.mem_cons_of_mem _ hw)]
    split
    · rfl
    · have:x≠n:=by rintro rfl;exact h v List.mem_cons_self
      simp [this]
theorem ZzQ {kindOf:Str→Option NameKind} {x:Str} {v:Value}:∀ {P:List Str} {vs:List Value} {i:Nat} {m:Str→Option Value},P.Nodup→P[i]?=some x→vs[i]?=some v→kindOf x=some .local→
  bindL kindOf (P.zip vs) m x=some v
 | [],_,_,_,_,h,_,_=>by simp at h
 | _::_,[],_,_,_,_,h,_=>by simp at h
 | p::P,w::vs,0,m,nd,h1,h2,hk=>by
  simp at h1 h2;subst h1;subst h2
  show bindL kindOf ((p,w)::P.zip vs) m p=_
  unfold bindL
  rw [ZzP fun v hv=>(List.nodup_cons.mp nd).1 (List.of_mem_zip hv).1,if_pos hk]
  simp
 | p::P,w::vs,i + 1,m,nd,h1,h2,hk=>by
  show bindL kindOf ((p,w)::P.zip vs) m x=_
  unfold bindL
  exact ZzQ (i:=i) (List.nodup_cons.mp nd).2 (by simpa using h1) (by simpa using h2) hk
theorem ZzS {kindOf:Str→Option NameKind} {x:Str} {v:Value}:∀ {P:List Str} {vs:List Value} {i:Nat} {m:Str→Option Value},P.Nodup→P[i]?=some x→vs[i]?=some v→kindOf x≠some .local→
  bindC kindOf (P.zip vs) m x=some v
 | [],_,_,_,_,h,_,_=>by simp at h
 | _::_,[],_,_,_,_,h,_=>by simp at h
 | p::P,w::vs,0,m,nd,h1,h2,hk=>by
  simp at h1 h2;subst h1;subst h2
  show bindC kindOf ((p,w)::P.zip vs) m p=_
  unfold bindC
  rw [ZzR fun v hv=>(List.nodup_cons.mp nd).1 (List.of_mem_zip hv).1,if_neg hk]
  simp
 | p::P,w::vs,i + 1,m,nd,h1,h2,hk=>by
  show bindC kindOf ((p,w)::P.zip vs) m x=_
  unfold bindC
  exact ZzS (i:=i) (List.nodup_cons.mp nd).2 (by simpa using h1) (by simpa using h2) hk
def Znq (N:List Str) (vs:List V):St:=vs.map some++List.replicate (N.length - vs.length) none
def cxOf (CX:CXT) (P:Program) (w:World) (K:PySem.W.Frag) (mg:Str→Option Value) (base:Heap) (N:List Str) (qual:Str) (scope:Scope) (f:Addr) (cd:Value) (A:Around) (outer:List Env) (s:Shared) (H:Hp) (E:XK):Cx where
 prog:=P
 w:=w
 K:=K
 mg:=mg
 base:=base
 A:=A.deeper (envOfC qual scope s.heap.objs.size f cd)
 N:=N
 s₀:=s
 H₀:=H
 env:=envOfC qual scope s.heap.objs.size f cd
 outer:=outer
 stack:=envOfC qual scope s.heap.objs.size f cd::outer
 ex:=[]
 calm:=true
 fn:=fun _=>true
 pn:=[]
 xe:=fun e s'=>wpAny (model P w) (A.deeper (envOfC qual scope s.heap.objs.size f cd)) (leaving (envOfC qual scope s.heap.objs.size f cd) e) (fun _ s''=>CX outer H s E e s'') (fun e' s''=>CX outer H s E e' s'') s'
theorem ZDs {sc:Scope} {n:Nat} {x:Str} (h:sc.names.lookup x=some .cell):∃ c,(cellsFrom n sc.names []).lookup x=some c:=by
 have q:=PySem.W.cellsFrom_some sc.names n [] (.inl h)
 exact Option.isSome_iff_exists.mp q
theorem Zzj {CX:CXT} {P:Program} {w:World} {K:PySem.W.Frag} {mg:Str→Option Value} {base:Heap} {N ps:List Str} {qual:Str} {scope:Scope} {f:Addr} {cd:Value} {A:Around} {outer:List Env} {s s1:Shared} {H:Hp} {E:XK} {us:List Value} {vs:List V}
  (S:Zq N ps scope) (hd:A.handled=none) (e0:Env0 P w K mg base A outer s H) (hl:vs.length=ps.length) (r:Vals vs us)
  (x:InCallC s s.heap.objs.size (bindL (envOfC qual scope s.heap.objs.size f cd).kindOf (ps.zip us) fun _=>none) (cellsFrom (s.heap.objs.size + 1) scope.names []) (bindC (envOfC qual scope s.heap.objs.size f cd).kindOf (ps.zip us) fun _=>none) s1) :
  Inv (cxOf CX P w K mg base N qual scope f cd A outer s H E) [] (Znq N vs) H s1:=by
 have hpl:ps.length≤N.length:=by have:=congrArg List.length S.pre;rw [List.length_take] at this;omega
 obtain ⟨h1,tk,rfl,hk⟩:=x.done
 have noA:∀ b:Addr,b ∉ (cxOf CX P w K mg base N qual scope f cd A outer s H E).ex:=fun b z=>absurd (show b∈([]:List Addr) from z) (by simp)
 refine ⟨⟨e0.mod,S.kind,rfl,rfl,Nat.le_refl _,fun y z c h1 h2=>?_,fun y hy=>?_,fun y c _ h=>?_,fun _=>hd,Around.frames_deeper e0.frames,.inr ⟨rfl,rfl⟩,fun b z=>absurd z (noA b),e0.bs,e0.bsz,fun b _ _=>noA b,fun b z=>absurd z (noA b),e0.funs,e0.frf⟩,
  rfl,e0.bare,Un.kept hk,⟨_,x.toInCall.ns,fun i y v h1 h2 h3=>?_⟩,fun y c h=>⟨_,x.cell y c h⟩,e0.hok.fresh (Nat.le_refl _),fun y c h=>?_,fun p hp=>absurd (show p∈([]:List (Addr×Obj)) from hp) (by simp),e0.hok.kept hk,?_⟩
 ·exact name_of_addr x.apart (PySem.mem_of_lookup h1) (PySem.mem_of_lookup h2)
 ·have hy:scope.names.lookup y=some .cell∨scope.names.lookup y=some .free:=hy
  rcases hy with hy | hy
  ·exact ZDs hy
  ·exact absurd rfl (S.nofree _ (PySem.mem_of_lookup hy))
 ·exact Nat.le_of_lt (x.above y c (PySem.mem_of_lookup h))
 ·have hi:i < vs.length:=by
   unfold Znq at h2
   by_cases hi:i < vs.length
   ·exact hi
   ·rw [List.getElem?_append_right (by simpa using hi)] at h2
    rw [List.getElem?_replicate] at h2
    split at h2 <;> cases h2
  have ha:vs[i]?=some v:=by
   unfold Znq at h2
   rw [List.getElem?_append_left (by simpa using hi),List.getElem?_map] at h2
   cases e:vs[i]? with
   | none=>rw [e] at h2;cases h2
   | some a=>rw [e] at h2;cases h2;rfl
  obtain ⟨u,hu,rv⟩:=r.get ha
  have hp:ps[i]?=some y:=by
   rw [← S.pre,List.getElem?_take_of_lt (by omega)];exact h1
  have ndP:ps.Nodup:=by rw [← S.pre];exact S.nd.sublist (List.take_sublist _ _)
  refine ⟨u,rv,?_⟩
  rcases S.par y (List.mem_of_getElem? hp) with k | k
  ·exact .inl ⟨k,ZzQ ndP hp hu k⟩
  ·obtain ⟨c,e⟩:=ZDs (n:=s.heap.objs.size + 1) k
   refine .inr ⟨.inl k,c,e,?_⟩
   have q:=x.cell y c e
   rw [ZzS ndP hp hu (by show scope.names.lookup y≠_;rw [k];decide)] at q
   exact q
 ·exact e0.hok.fresh (Nat.le_of_lt (x.above y c (PySem.mem_of_lookup h)))
 ·unfold Znq
  show _=N.length
  rw [List.length_append,List.length_map,List.length_replicate]
  omega
theorem ZLM {CX:CXT} {P:Program} {w:World} {K:PySem.W.Frag} {mg:Str→Option Value} {base:Heap} {k:Nat} {f:Addr} {name qual:Str} {params:Arguments} {body:List Stmt} {scope:Scope} {dV kV doc pm cdv ct oc:Value} {an od:Option Addr}
  {osl:Array (Option Value)} {N ps:List Str} {sp:Sp} (lk:K.lookup f=some ⟨oc,od,.func (PySem.W.fnOf name qual params body scope dV kV doc pm an cdv ct),osl⟩) (hcd:PySem.W.codeIn K cdv qual=true) (S:Zq N ps scope)
  (len:∀ vs H Q E,sp vs H Q E→vs.length=ps.length)
  (hbody:∀ (A:Around) (outer:List Env) (s:Shared) (H:Hp) (vs:List V) (Q:VK) (E:XK),Room k (A.deeper (envOfC qual scope s.heap.objs.size f cdv))→sp vs H Q E→
   ∃ t,PSs (cxOf CX P w K mg base N qual scope f cdv A outer s H E) body t∧t {nx:=fun _ H'=>Q .non H',rt:=Q} (Znq N vs) H) :
  FnOk P w K mg base CX (k + 1) f (PySem.W.fnOf name qual params body scope dV kV doc pm an cdv ct) ps sp:=by
 refine ⟨len,fun A outer s H args us vs Q E hr e0 hb r hsp=>?_⟩
 have hl:=len _ _ _ _ hsp
 have KX:K.In s.heap:=e0.mod.kin.keeps fun b o e=>(e0.bs b o e).1
 have lim:s.heap.NoLimit:=e0.mod.nolimit.keeps fun b o e=>(e0.bs b o e).1
 have hkind:∀ y∈ps.zip us,scope.names.lookup y.1=some .local∨(scope.names.lookup y.1=some .cell∧((cellsFrom (s.heap.objs.size + 1) scope.names []).lookup y.1).isSome=true):=fun ⟨n,v⟩ hy=>by
  rcases S.par n (List.of_mem_zip hy).1 with q | q
  ·exact .inl q
  ·exact .inr ⟨q,PySem.W.cellsFrom_some _ _ _ (.inl q)⟩
 refine codeAny_call_function hr.depth (KX _ _ lk) rfl S.co S.gen rfl (PySem.W.codeRec_of KX hcd) (hb _ _ _ _ ?_)
 refine wpAny_newFunctionEnv_cells S.kind hkind fun env he s1 x=>?_
 subst he
 refine ⟨lim.keeps x.toInCall.keep,codeAny_func ?_⟩
 obtain ⟨t,ht,hq⟩:=hbody A outer s H vs Q E (hr.deeper _) hsp
 unfold PSs at ht
 have I:Inv (cxOf CX P w K mg base N qual scope f cdv A outer s H E) [] (Znq N vs) H s1:=Zzj S hr.hd e0 hl r x
 refine wpAny_mono (ht [] s1 (Znq N vs) H _ I hq) (fun fl s' hs=>?_) fun e s' hs=>hs
 have fin:∀ {σ':St} {H':Hp} {v:V} {u:Value},Inv (cxOf CX P w K mg base N qual scope f cdv A outer s H E) [] σ' H' s'→RelV v u→Q v H'→CE outer P w H s Q u s':=
  fun {σ' H' v u} J rv q=>⟨v,H',J.os,J.bare,J.base,J.hok,rv,q⟩
 cases fl with
 | ret u=>
  obtain ⟨v,σ',H',J,rv,q⟩:=hs
  exact fin J rv q
 | next=>
  obtain ⟨σ',H',J,q⟩:=hs
  exact fin (v:=V.non) (u:=Value.none) J rfl q
 | brk=>
  obtain ⟨_,_,_,q⟩:=hs
  exact False.elim q
 | cont=>
  obtain ⟨_,_,_,q⟩:=hs
  exact False.elim q
end L2
namespace L2
open PySem PySem.Spec PyProof.Rows
section
variable {X:Cx} {x:Str} {p pos:Pos} {e:Expr} {es:List Expr} {t:TA} {id T:String} {r:List V→Hp→VK→Prop}
def tCB (r:List V→Hp→VK→Prop) (t:TA):TE:=fun σ H Q=>t σ H fun vs H1=>r vs H1 Q
theorem ZC (hc:ZfR X (.builtin id) r) (hg:Gl X x) (hm:X.mg x=none) (hv:bootBuiltins x=some (.builtin id)) (ha:PA X (e::es) t) (hn:x≠"__name__":=by decide) (hdb:(x == ("__debug__":Str))=false:=by decide)
  (he:starEach (e::es) X.env=(false,eval e X.env)::starEach es X.env:=by rfl) (hpl:(backTo pos (starEach es X.env)).any (·.1)=false:=by rfl):PE X (.Call (.Name x p) (e::es) [] pos) (tCB r t):=by
 try unfold PE at *;try unfold PA at *
 intro pins s σ H Q I h
 refine wpAny_Call_Name_kw (ZrN I hg hm hv ?_ hn hdb)
 exact PyProof.Rows.callWith_builtin1 (thn (ha pos pins s σ H _ I h) fun us s1 ⟨vs,H1,I1,r1,q1⟩=>hc pins s1 σ H1 vs us Q I1 r1 q1) he hpl
theorem Zcu (hc:ZfR X (.type T) r) (hg:Gl X x) (hm:X.mg x=none) (hv:bootBuiltins x=some (.type T)) (ha:PA X (e::es) t) (hn:x≠"__name__":=by decide) (hdb:(x == ("__debug__":Str))=false:=by decide)
  (he:starEach (e::es) X.env=(false,eval e X.env)::starEach es X.env:=by rfl) (hpl:(backTo pos (starEach es X.env)).any (·.1)=false:=by rfl):PE X (.Call (.Name x p) (e::es) [] pos) (tCB r t):=by
 try unfold PE at *;try unfold PA at *
 intro pins s σ H Q I h
 refine wpAny_Call_Name_kw (ZrN I hg hm hv ?_ hn hdb)
 exact PyProof.Rows.callWith_type1 (thn (ha pos pins s σ H _ I h) fun us s1 ⟨vs,H1,I1,r1,q1⟩=>hc pins s1 σ H1 vs us Q I1 r1 q1) he hpl
end
end L2
namespace HT
open PySem PyProof.Rows
section
open PySem.SeqAt
open PySem.AutoSeq1 (wpAny_loadPart')
open PySem.MeetsSeq PySem.MeetsSeq2 PySem.MeetsSeq3
end
section
variable {prog:Program} {w:World} {A:Around} {E:Value→Shared→Prop} {s:Shared}
theorem cat_tup {t b:Addr} {vs ws:List Value} {Q:Value→Shared→Prop} (ht:IsTup s.heap t vs.toArray) (hb:IsTup s.heap b ws.toArray) (hv:vs≠[])
  (h1:ws=[]→Q (.ref t) s) (h2:ws≠[]→Q (.ref s.heap.objs.size) {s with heap:=s.heap.push {cls:=.type "tuple",data:=.seq (vs++ws).toArray}})
  (hsz:vs.length + ws.length≤sizeLine):wpAny (model prog w) A (binaryOp .Add (.ref t) (.ref b)) Q E s:=by
 obtain ⟨⟨cls,dd,data,sl⟩,ho,hc,n,hd⟩:=id ht
 obtain ⟨⟨cls2,dd2,data2,sl2⟩,ho2,hc2,n2,hd2⟩:=id hb
 simp only at hc hd hc2 hd2
 subst hc hd hc2 hd2
 have e:vs.toArray++ws.toArray=(vs++ws).toArray:=by simp
 by_cases hw:ws=[]
 ·exact concat_meets ⟨_,ho,rfl⟩ ⟨_,ho2,rfl⟩ noFill_tuple_add seq_tuple_add PySem.F.slot_tuple_add PySem.F.entry_tuple_add (PySem.F.args_tuple_add_2 _ _)
   (tuple_addW1 t b vs.toArray ws.toArray n n2 dd dd2 sl sl2 (by simpa using hv) (by simp [hw])) ⟨ho,ho2,h1 hw⟩
 ·refine concat_meets ⟨_,ho,rfl⟩ ⟨_,ho2,rfl⟩ noFill_tuple_add seq_tuple_add PySem.F.slot_tuple_add PySem.F.entry_tuple_add (PySem.F.args_tuple_add_2 _ _)
   (tuple_addW2 t b vs.toArray ws.toArray n n2 dd dd2 sl sl2 (by simpa using hv) (by simpa using hw) (by rw [List.size_toArray,List.size_toArray];exact hsz)) ⟨ho,ho2,?_⟩
  rw [e]
  exact h2 hw
def sIx (n d:Nat):Option Int→Nat
 | none=>d
 | some v=>if v < 0 then (v + (n:Int)).toNat else min v.toNat n
theorem sIx_none (n d:Nat):sIx n d none=d:=rfl
theorem sIx_nat (n d k:Nat):sIx n d (some (k:Int))=min k n:=by
 show (if (k:Int) < 0 then ((k:Int) + (n:Int)).toNat else min (k:Int).toNat n)=min k n
 rw [if_neg (by omega),Int.toNat_natCast]
theorem ZK7 (n d:Nat) (hd:d≤n) (o:Option Int):sIx n d o≤n:=by
 cases o with
 | none=>exact hd
 | some v=>
  show (if v < 0 then (v + (n:Int)).toNat else min v.toNat n)≤n
  by_cases hv:v < 0
  ·rw [if_pos hv];omega
  ·rw [if_neg hv];exact Nat.min_le_right _ _
theorem ZGY (v:Int) (n d:Nat):(if v < 0 then max (v + (n:Int)) 0 else min v (n:Int))=((sIx n d (some v):Nat):Int):=by
 show (if v < 0 then max (v + (n:Int)) 0 else min v (n:Int))=(((if v < 0 then (v + (n:Int)).toNat else min v.toNat n):Nat):Int)
 by_cases hv:v < 0
 ·simp only [if_pos hv];omega
 ·simp only [if_neg hv];omega
theorem ZES (lo hi:Option Int) (n:Nat):Builtin.Slice.sliceAdjust lo hi 1 (n:Int)=(((sIx n 0 lo:Nat):Int),((sIx n n hi:Nat):Int)):=by
 have h1:¬ ((1:Int) < 0):=by omega
 unfold Builtin.Slice.sliceAdjust
 simp only [h1,if_false]
 refine Prod.ext ?_ ?_
 ·cases lo with
  | none=>rfl
  | some v=>exact ZGY v n 0
 ·cases hi with
  | none=>rfl
  | some v=>exact ZGY v n n
theorem ZEj (i j:Nat):Builtin.Slice.slicePlaces (i:Int) (j:Int) 1=j - i:=by
 unfold Builtin.Slice.slicePlaces
 have h1:(1:Int) > 0:=by omega
 simp only [h1,if_true,Int.ediv_one]
 split <;> omega
theorem Zt2 {v:Value} {o:Option Int} {Q:Option Int→Shared→Prop} (p:IsPart v o) (h:Q o s):wpAny (model prog w) A (Builtin.Slice.slicePartIndex v) Q E s:=by
 cases p with
 | none=>exact slicePart_none h
 | int i t=>exact slicePart_int h
theorem sliceApplied_gen {sl:Addr} {vl vu:Value} {lo hi:Option Int} {n:Nat} {Q:Int×Int×Nat→Shared→Prop} (hs:s.heap.IsSliceOf sl vl vu .none) (pl:IsPart vl lo) (pu:IsPart vu hi)
  (h:Q (((sIx n 0 lo:Nat):Int),1,sIx n n hi - sIx n 0 lo) s):wpAny (model prog w) A (Builtin.Slice.sliceApplied (.ref sl) (pure (n:Int))) Q E s:=by
 obtain ⟨os,hos,hcs,hds⟩:=id hs
 unfold Builtin.Slice.sliceApplied Builtin.Slice.sliceFields
 refine wpAny_bind (wpAny_bind (wpAny_field hos hds (x:=vl) rfl (wpAny_bind (wpAny_field hos hds (x:=vu) rfl (wpAny_bind (wpAny_field hos hds (x:=.none) rfl (wpAny_pure ?_)))))))
 refine wpAny_bind (slicePart_none ?_)
 show wpAny _ _ (if ((1:Int) == 0)=true then _ else _) _ _ s
 rw [if_neg (by decide)]
 refine wpAny_bind (Zt2 pl (wpAny_bind (Zt2 pu (wpAny_bind (wpAny_pure ?_)))))
 show wpAny _ _ (match Builtin.Slice.sliceAdjust lo hi 1 (n:Int) with | (lo,hi)=>pure (lo,(1:Int),Builtin.Slice.slicePlaces lo hi 1)) _ _ s
 rw [ZES lo hi n]
 show wpAny _ _ (pure (((sIx n 0 lo:Nat):Int),(1:Int),Builtin.Slice.slicePlaces ((sIx n 0 lo:Nat):Int) ((sIx n n hi:Nat):Int) 1)) _ _ s
 rw [ZEj]
 exact wpAny_pure h
theorem ZHG (xs:Array Value) (i k:Nat):((List.range k).filterMap fun (m:Nat)=>xs[((i:Int) + (m:Int) * 1).toNat]?).toArray=((xs.toList.drop i).take k).toArray:=by
 have e:(fun (m:Nat)=>xs[((i:Int) + (m:Int) * 1).toNat]?)=fun m=>xs[i + m]?:=by
  funext m
  have:((i:Int) + (m:Int) * 1).toNat=i + m:=by omega
  rw [this]
 rw [e]
 have:=pick_run xs i k
 rw [List.filterMap_map] at this
 have e2:((fun x=>xs[x]?) ∘ fun x=>i + x)=fun m=>xs[i + m]?:=rfl
 rw [e2] at this
 rw [this]
theorem getItem_tuple_cut {t sl:Addr} {items:Array Value} {vl vu:Value} {lo hi:Option Int} {Q:Value→Shared→Prop} (ht:IsTup s.heap t items) (hs:s.heap.IsSliceOf sl vl vu .none) (pl:IsPart vl lo) (pu:IsPart vu hi)
  (hw:¬ (sIx items.size 0 lo=0∧sIx items.size items.size hi=items.size))
  (h:Q (.ref s.heap.objs.size) {s with heap:=s.heap.push {cls:=.type "tuple",data:=.seq ((items.toList.drop (sIx items.size 0 lo)).take (sIx items.size items.size hi - sIx items.size 0 lo)).toArray}})
  (hsz:items.size≤sizeLine):wpAny (model prog w) A (getItem (.ref t) (.ref sl)) Q E s:=by
 have htake:sizeOk (.seq ((items.toList.drop (sIx items.size 0 lo)).take (sIx items.size items.size hi - sIx items.size 0 lo)).toArray):=by
  show ((items.toList.drop (sIx items.size 0 lo)).take (sIx items.size items.size hi - sIx items.size 0 lo)).toArray.size≤sizeLine
  rw [List.size_toArray,List.length_take,List.length_drop,Array.length_toList]
  omega
 have hj:sIx items.size items.size hi≤items.size:=ZK7 _ _ (Nat.le_refl _) hi
 obtain ⟨os,hos,hcs,hds⟩:=id hs
 have hTs:s.TypeIs (.ref sl) "slice":=⟨os,hos,hcs⟩
 unfold getItem
 try with_reducible refine wpAny_holding ?_
 first | refine wpAny_bind (wpAny_pure ?_) | skip
 refine wpAny_bind (wpAny_sequenceKey ht.typeIs (by decide) ?_)
 refine wpAny_bind (wpAny_callSpecial?_slot (name:=Str.ofString "__getitem__") ht.typeIs PyProof.Rows.slot_tuple_getitem
  (wpAny_call_entry PyProof.Rows.slot_tuple_getitem ht.typeIs entry_tuple_getitem ?_ (args_tuple_getitem _ _)))
 show wpAny _ _ (Builtin.Tuple.tupleItemsOf (.ref t) >>= _) _ _ s
 refine wpAny_bind (tupleItemsOf_ ht ?_)
 refine wpAny_bind (wpAny_typeOf hTs ?_)
 rw [if_pos (by decide)]
 refine wpAny_bind (sliceApplied_gen hs pl pu ?_)
 have hno:¬ ((((sIx items.size 0 lo:Nat):Int) == 0 && (1:Int) == 1 && (sIx items.size items.size hi - sIx items.size 0 lo) == items.size)=true):=by
  intro q
  rw [Bool.and_eq_true,Bool.and_eq_true] at q
  have q1:((sIx items.size 0 lo:Nat):Int)=0:=eq_of_beq q.1.1
  have q2:sIx items.size items.size hi - sIx items.size 0 lo=items.size:=eq_of_beq q.2
  exact hw ⟨by omega,by omega⟩
 show wpAny _ _ (if (((sIx items.size 0 lo:Nat):Int) == 0 && (1:Int) == 1 && (sIx items.size items.size hi - sIx items.size 0 lo) == items.size)=true then _ else _) _ _ s
 rw [if_neg hno,ZHG]
 first
  | exact wpAny_bind (m:=Builtin.Tuple.tupleExact _) (wpAny_newObj_type (wpAny_pure ⟨_,rfl,wpAny_pure h⟩) htake)
  | exact wpAny_bind (m:=Builtin.Tuple.tupleExact _) (wpAny_newObj_type (wpAny_bind (wpAny_pure (wpAny_pure ⟨_,rfl,wpAny_pure h⟩))) htake)
  | exact wpAny_bind (wpAny_bind (m:=Builtin.Tuple.tupleExact _) (wpAny_newObj_type (wpAny_pure (wpAny_pure ⟨_,rfl,wpAny_pure h⟩)) htake))
  | exact wpAny_bind (wpAny_bind (m:=Builtin.Tuple.tupleExact _) (wpAny_newObj_type (wpAny_pure ⟨_,rfl,wpAny_pure h⟩) htake))
end
end HT
namespace L2
open PySem PySem.Spec PyProof.Rows
abbrev TO:=St→Hp→(Option Int→Hp→Prop)→Prop
def PO (X:Cx) (e:Option Expr) (t:TO):Prop:=
 ∀ (pins:List (Addr×Obj)) (s:Shared) (σ:St) (H:Hp) (Q:Option Int→Hp→Prop),Inv X pins σ H s→t σ H Q→
  wpAny (model X.prog X.w) X.A (evalPart e X.env) (fun u s'=>∃ o H',Inv X pins σ H' s'∧IsPart u o∧Q o H') X.xe s
def ZJo:TO:=fun _ H Q=>Q none H
def ZMe (t:TE):TO:=fun σ H Q=>t σ H fun x H1=>∃ i,x=.int i∧Q (some i) H1
theorem Zuw {ns:List Int}:∀ {us:List Value},Vals (ns.map V.int) us→IntsAre us ns:=by
 induction ns with
 | nil=>intro us r;rw [List.map_nil] at r;cases r;exact .nil
 | cons n ns ih=>
  intro us r
  rw [List.map_cons] at r
  cases r with
  | cons r1 r2=>
   obtain ⟨t,e⟩:=r1
   subst e
   exact .cons n t (ih r2)
section
variable {X:Cx} {e:Expr} {te:TE} {lo hi:Option Expr} {tl th:TO} {pos p2:Pos}
theorem ZjP:PO X none ZJo:=by
 intro pins s σ H Q I h
 rw [evalPart_none]
 exact wpAny_pure ⟨none,H,I,.none,h⟩
theorem ZeZ (h:PE X e te):PO X (some e) (ZMe te):=by
 try unfold PE at *
 intro pins s σ H Q I hw
 rw [evalPart_some]
 refine thn (h pins s σ H _ I hw) fun u s1 ⟨x,H1,I1,r1,q1⟩=>?_
 obtain ⟨i,rfl,q⟩:=q1
 obtain ⟨t,rfl⟩:=r1
 exact ⟨some i,H1,I1,.int i t,q⟩
def SlR (X:Cx) (r:V→Option Int→Option Int→Hp→VK→Prop):Prop:=
 ∀ (pins:List (Addr×Obj)) (s:Shared) (σ:St) (H:Hp) (x:V) (v vl vu:Value) (lo hi:Option Int) (sl:Addr) (Q:VK),Inv X pins σ H s→RelV x v→s.heap.IsSliceOf sl vl vu .none→IsPart vl lo→IsPart vu hi→r x lo hi H Q→
  ∃ T id,typeLookup (.type T) "__getitem__"=pure (some (.builtin id))∧s.TypeIs v T∧wpAny (model X.prog X.w) X.A (getItem v (.ref sl)) (EP X pins σ Q) X.xe s
def tSl (r:V→Option Int→Option Int→Hp→VK→Prop) (te:TE) (tl th:TO):TE:=fun σ H Q=>te σ H fun x H1=>tl σ H1 fun l H2=>th σ H2 fun u H3=>r x l u H3 Q
theorem ZdC {r:V→Option Int→Option Int→Hp→VK→Prop} (hr:SlR X r) (he:PE X e te) (hl:PO X lo tl) (hu:PO X hi th):PE X (.Subscript e (.Slice lo hi none p2) pos) (tSl r te tl th):=by
 try unfold PE at *
 intro pins s σ H Q I h
 refine Subscript_ (thn (he pins s σ H _ I h) fun v s1 ⟨x,H1,I1,r1,q1⟩=>?_)
 refine wpAny_Slice (thn (hl pins s1 σ H1 _ I1 q1) fun vl s2 ⟨l,H2,I2,pl,q2⟩=>thn (hu pins s2 σ H2 _ I2 q2) fun vu s3 ⟨u,H3,I3,pu,q3⟩=>?_)
 rw [evalPart_none]
 refine wpAny_pure ?_
 have I4:Inv X pins σ H3 {s3 with heap:=s3.heap.push {cls:=.type "slice",data:=.fields #[vl,vu,.none]}}:=I3.kept (t':=s3.toks) fun b ob q=>Heap.get?_push_of_some _ q
 obtain ⟨T,id,hT,ht,hg⟩:=hr pins {s3 with heap:=s3.heap.push {cls:=.type "slice",data:=.fields #[vl,vu,.none]}} σ H3 x v vl vu l u s3.heap.objs.size Q I4 r1 (Heap.IsSliceOf.new ..) pl pu q3
 show wpAny (model X.prog X.w) X.A (subscriptTail e (.Slice lo hi none p2) v (.ref s3.heap.objs.size)) (EP X pins σ Q) X.xe {s3 with heap:=s3.heap.push {cls:=.type "slice",data:=.fields #[vl,vu,.none]}}
 exact tail_any (ops:=[.ref s3.heap.objs.size,v]) ht hT hg (by with_unfolding_all rfl)
def cutV (xs:List V) (lo hi:Option Int):List V:=(xs.drop (HT.sIx xs.length 0 lo)).take (HT.sIx xs.length xs.length hi - HT.sIx xs.length 0 lo)
theorem Zst (xs:List V) (lo hi:Option Int):(cutV xs lo hi).length≤xs.length:=by
 unfold cutV
 rw [List.length_take,List.length_drop]
 omega
def rSlT (K:PySem.W.Frag):V→Option Int→Option Int→Hp→VK→Prop:=fun x lo hi H Q=>∃ a xs,x=.ref a∧SqT K H a xs∧
 ¬ (HT.sIx xs.length 0 lo=0∧HT.sIx xs.length xs.length hi=xs.length)∧∀ p,H p=none→Q (.ref p) (upd H p (.tup (cutV xs lo hi)))
theorem ZK4:SlR X (rSlT X.K):=by
 intro pins s σ H x v vl vu lo hi sl Q I rx hs pl pu h
 obtain ⟨a,xs,rfl,hx,hw,q⟩:=h
 cases rx
 obtain ⟨its,r,ht,hz⟩:=I.tuple hx
 have hlen:its.toArray.size=xs.length:=by rw [List.size_toArray];exact r.length.symm
 refine ⟨"tuple",_,PyProof.Rows.slot_tuple_getitem.lookup,ht.typeIs,?_⟩
 refine HT.getItem_tuple_cut ht hs pl pu (by rw [hlen];exact hw) ?_ (by rw [hlen];exact hz)
 rw [hlen]
 refine ⟨.ref s.heap.objs.size,_,I.laid (t':=s.toks) (o:=.tup (cutV xs lo hi)) (fun b ob q=>Heap.get?_push_of_some _ q) (Nat.le_refl _) ?_,rfl,q _ (I.hok.fresh (Nat.le_refl _))⟩
 exact ⟨Nat.le_trans (Zst xs lo hi) hz,_,(r.drop (HT.sIx xs.length 0 lo)).take (HT.sIx xs.length xs.length hi - HT.sIx xs.length 0 lo),IsTup.new _ _⟩
def ZMr (K:PySem.W.Frag):R2:=fun x y H Q=>∃ a b xs ys,x=.ref a∧y=.ref b∧SqT K H a xs∧SqT K H b ys∧xs≠[]∧xs.length + ys.length≤sizeLine∧
 (ys=[]→Q (.ref a) H)∧(ys≠[]→∀ p,H p=none→Q (.ref p) (upd H p (.tup (xs++ys))))
theorem Vals.nil_iff {xs:List V} {us:List Value} (r:Vals xs us):us=[] ↔ xs=[]:=by
 cases r with
 | nil=>simp
 | cons _ _=>simp
theorem ZJS:OpR X (binaryOp .Add) (ZMr X.K):=by
 intro pins s σ H x y v u Q I rx ry h
 obtain ⟨a,b,xs,ys,rfl,rfl,ha,hb,hx,hz,q1,q2⟩:=h
 cases rx
 cases ry
 obtain ⟨its,r1,p1,_⟩:=I.tuple ha
 obtain ⟨its2,r2,p2,_⟩:=I.tuple hb
 refine HT.cat_tup p1 p2 (fun z=>hx (r1.nil_iff.mp z)) (fun z=>⟨.ref a,H,I,rfl,q1 (r2.nil_iff.mp z)⟩) (fun z=>?_) (by rw [← r1.length,← r2.length];exact hz)
 refine ⟨.ref s.heap.objs.size,_,I.laid (t':=s.toks) (o:=.tup (xs++ys)) (fun b ob q=>Heap.get?_push_of_some _ q) (Nat.le_refl _) ?_,rfl,q2 (fun w=>z (r2.nil_iff.mpr w)) _ (I.hok.fresh (Nat.le_refl _))⟩
 exact ⟨by rw [List.length_append];exact hz,_,r1.append r2,IsTup.new _ _⟩
end
end L2
namespace L2
open PySem PySem.Spec PyProof.Rows
def ixN (n:Nat) (i:Int):Option Nat:=if 0≤i then (if i < n then some i.toNat else none) else if -(n:Int)≤i then some (i + n).toNat else none
def atI {α:Type} (xs:List α) (i:Int):Option α:=(ixN xs.length i).bind fun j=>xs[j]?
theorem ZGn {n:Nat} {i:Int} {j:Nat} (h:ixN n i=some j):seqIndex? i n=some j∧j < n∧-(n:Int)≤i∧i < n:=by
 unfold ixN at h
 by_cases h0:0≤i
 ·rw [if_pos h0] at h
  by_cases h1:i < n
  ·rw [if_pos h1] at h
   have e:i.toNat=j:=Option.some.inj h
   exact ⟨by rw [seqIndex_of h0 h1,e],by omega,by omega,h1⟩
  ·rw [if_neg h1] at h;cases h
 ·rw [if_neg h0] at h
  by_cases h1:-(n:Int)≤i
  ·rw [if_pos h1] at h
   have e:(i + n).toNat=j:=Option.some.inj h
   exact ⟨by rw [seqIndex_neg (by omega) h1,e],by omega,h1,by omega⟩
  ·rw [if_neg h1] at h;cases h
theorem ZCr {α:Type} {xs:List α} {i:Int} {v:α} (h:atI xs i=some v):∃ j,seqIndex? i xs.length=some j∧xs[j]?=some v∧j < xs.length∧-(xs.length:Int)≤i∧i < xs.length:=by
 unfold atI at h
 cases e:ixN xs.length i with
 | none=>rw [e] at h;cases h
 | some j=>
  rw [e] at h
  obtain ⟨h1,h2,h3,h4⟩:=ZGn e
  exact ⟨j,h1,h,h2,h3,h4⟩
def ZKy (b:Expr):Prop:=∀ o i,subscripted b false o i=operate [o,i] (getItem o i)
def IxR (X:Cx) (r:R2):Prop:=
 ∀ (value slice:Expr) (pins:List (Addr×Obj)) (s:Shared) (σ:St) (H:Hp) (x y:V) (v u:Value) (Q:VK),Inv X pins σ H s→RelV x v→RelV y u→r x y H Q→
  subscripted slice false v u=operate [v,u] (getItem v u)→wpAny (model X.prog X.w) X.A (subscriptTail value slice v u) (EP X pins σ Q) X.xe s
def MtR (X:Cx) (id:String) (r:V→List V→Hp→VK→Prop):Prop:=
 ∀ (pins:List (Addr×Obj)) (s:Shared) (σ:St) (H:Hp) (x:V) (xs:List V) (v:Value) (us:List Value) (Q:VK),Inv X pins σ H s→RelV x v→Vals xs us→r x xs H Q→
  wpAny (model X.prog X.w) X.A (call (.builtin id) (v::us)) (EP X pins σ Q) X.xe s
section
variable {X:Cx} {a b:Expr} {ta tb:TE} {pos:Pos}
theorem ZjQ {r:R2} (hr:IxR X r) (ha:PE X a ta) (hb:PE X b tb) (hs:ZKy b):PE X (.Subscript a b pos) (tOp r ta tb):=by
 try unfold PE
 intro pins s σ H Q I h
 exact Subscript_ (binT ha hb I h fun v u s2 x y H2 I2 rx ry q=>hr a b pins s2 σ H2 x y v u Q I2 rx ry q (hs _ _))
def rIxL (K:PySem.W.Frag):R2:=fun x y H Q=>∃ p xs i v,x=.ref p∧y=.int i∧SqL K H p xs∧atI xs i=some v∧Q v H
def rIxT (K:PySem.W.Frag):R2:=fun x y H Q=>∃ p xs i v,x=.ref p∧y=.int i∧SqT K H p xs∧atI xs i=some v∧Q v H
def rIxS:R2:=fun x y H Q=>∃ z i c,x=.str z∧y=.int i∧z.length≤sizeLine∧atI z.cps.toList i=some c∧Q (.str ⟨#[c]⟩) H
theorem Zcf:IxR X (rIxL X.K):=by
 intro value slice pins s σ H x y v u Q I rx ry h hs
 obtain ⟨p,xs,i,z,rfl,rfl,hq,he,q⟩:=h
 cases rx
 obtain ⟨t,rfl⟩:=ry
 obtain ⟨its,r,pl,hz⟩:=I.list hq
 obtain ⟨j,h1,h2,h3,h4,h5⟩:=ZCr he
 obtain ⟨w,ew,rw'⟩:=r.get h2
 have hl:=r.length
 have hn:=Zuj
 have fin:EP X pins σ Q w s:=⟨z,H,I,rw',q⟩
 by_cases h0:0≤i
 ·have hj:i.toNat=j:=by
   rw [seqIndex_of h0 h5] at h1
   exact Option.some.inj h1
  exact item_listR pl.isList h0 (by omega) (by rw [hj];simpa using ew) fin hs
 ·have hj:(i + (its.toArray.size:Int)).toNat=j:=by
   rw [seqIndex_neg (by omega) h4] at h1
   rw [List.size_toArray,← hl]
   exact Option.some.inj h1
  exact subscriptTail_builtinR (x:=w) pl.isList.typeIs slot_list_getitem.lookup
   (wpAny_getItem_list_neg (Q:=fun r s'=>r=w∧EP X pins σ Q r s') pl.isList (by omega) (by rw [List.size_toArray] <;> omega) (by omega) (by rw [hj];simpa using ew) ⟨rfl,fin⟩) hs
theorem ZLE:IxR X (rIxT X.K):=by
 intro value slice pins s σ H x y v u Q I rx ry h hs
 obtain ⟨p,xs,i,z,rfl,rfl,hq,he,q⟩:=h
 cases rx
 obtain ⟨t,rfl⟩:=ry
 obtain ⟨its,r,pl,hz⟩:=I.tuple hq
 obtain ⟨j,h1,h2,h3,h4,h5⟩:=ZCr he
 obtain ⟨w,ew,rw'⟩:=r.get h2
 have hl:=r.length
 have hn:=Zuj
 have fin:EP X pins σ Q w s:=⟨z,H,I,rw',q⟩
 exact subscriptTail_builtinR (x:=w) pl.typeIs slot_tuple_getitem.lookup
  (getItem_tuple (j:=j) (Q:=fun r s'=>r=w∧EP X pins σ Q r s') pl (by omega) (by omega) (by rw [List.size_toArray,← hl];exact h1) (by simpa using ew) ⟨rfl,fin⟩) hs
theorem ZLF:IxR X rIxS:=by
 intro value slice pins s σ H x y v u Q I rx ry h hs
 obtain ⟨z,i,c,rfl,rfl,hz,he,q⟩:=h
 obtain ⟨t,rfl⟩:=rx
 obtain ⟨t',rfl⟩:=ry
 obtain ⟨j,h1,h2,h3,h4,h5⟩:=ZCr he
 have hl:z.cps.toList.length=z.length:=by simp [Str.length]
 rw [hl] at h1 h4 h5
 have hn:=Zuj
 exact tail_any (typeIs_str s z t) slot_str_getitem.lookup (getItem_str (c:=c) (by
  have e1:decide (i < -(2 ^ 63:Int))=false:=decide_eq_false (by omega)
  have e2:decide (i ≥ 2 ^ 63)=false:=decide_eq_false (by omega)
  rw [e1,e2,Bool.or_false]) (by rw [h1];simpa using h2) ⟨.str ⟨#[c]⟩,H,I.tok _,⟨_,rfl⟩,q⟩) hs
theorem ZEv (its:List Value) (n j:Nat) (u:Value):Obj.mapSeq (·.setIfInBounds j u) {cls:=.type "list",data:=.seq its.toArray n}={cls:=.type "list",data:=.seq (its.set j u).toArray n}:=by
 simp [Obj.mapSeq]
theorem Inv.lst {pins:List (Addr×Obj)} {σ:St} {H:Hp} {s:Shared} {p:Addr} {xs:List V} (I:Inv X pins σ H s) (h:H p=some (.lst xs)) :
  ∃ (its:List Value) (n:Nat),Vals xs its∧s.heap.get? p=some {cls:=.type "list",data:=.seq its.toArray n}∧xs.length≤sizeLine:=by
 obtain ⟨z,its,n,r,e⟩:=I.hok p _ h
 exact ⟨its,n,r,e,z⟩
theorem Inv.lstUpd {pins:List (Addr×Obj)} {σ:St} {H:Hp} {s:Shared} {p:Addr} {xs ys:List V} {its its':List Value} {n n':Nat} {f:Obj→Obj} (I:Inv X pins σ H s) (h:H p=some (.lst xs))
  (ho:s.heap.get? p=some {cls:=.type "list",data:=.seq its.toArray n}) (hf:f {cls:=.type "list",data:=.seq its.toArray n}={cls:=.type "list",data:=.seq its'.toArray n'}) (r:Vals ys its') (hz:ys.length≤sizeLine) (t:Nat) :
  Inv X pins σ (upd H p (.lst ys)) {s with heap:=s.heap.update p f,toks:=t}:=by
 have e:(s.heap.update p f).get? p=some {cls:=.type "list",data:=.seq its'.toArray n'}:=by
  rw [Heap.get?_update_self f ho (by rw [hf] <;> rfl),hf]
 refine I.write (x:=p) (e:=p) (by rw [h];trivial) (.inl rfl) (fun b u hb q=>(Heap.get?_update_other _ _ (Ne.symm hb)).trans q) ⟨_,e⟩ ?_
 exact ⟨hz,its',n',r,e⟩
def ZMo:V→V→V→Hp→(Hp→Prop)→Prop:=fun o i v H Q=>∃ p xs k j,o=.ref p∧i=.int k∧H p=some (.lst xs)∧ixN xs.length k=some j∧Q (upd H p (.lst (xs.set j v)))
theorem ZHu:PSet X ZMo:=by
 intro pins s σ H o i v ov iv u Q I ro ri rv h
 obtain ⟨p,xs,k,j,rfl,rfl,hp,hj,q⟩:=h
 cases ro
 obtain ⟨t,rfl⟩:=ri
 obtain ⟨its,n,r,ho,hz⟩:=I.lst hp
 obtain ⟨h1,h2,h3,h4⟩:=ZGn hj
 have hl:=r.length
 have hn:=Zuj
 have I':Inv X pins σ (upd H p (.lst (xs.set j v))) {s with heap:=s.heap.update p (Obj.mapSeq (·.setIfInBounds j u))}:=
  I.lstUpd hp ho (ZEv its n j u) (r.set rv j) (by rw [List.length_set];exact hz) s.toks
 by_cases h0:0≤k
 ·have hk:k.toNat=j:=by
   rw [seqIndex_of h0 h4] at h1
   exact Option.some.inj h1
  exact PySem.W.ki_setAt ho h0 (by omega) (by rw [List.size_toArray,← hl];exact h4) (by rw [hk];exact ⟨_,I',q⟩)
 ·have hk:(k + (its.toArray.size:Int)).toNat=j:=by
   rw [seqIndex_neg (by omega) h3] at h1
   rw [List.size_toArray,← hl]
   exact Option.some.inj h1
  exact PySem.W.ki_setBack ho (by omega) (by rw [List.size_toArray,← hl];exact h3) (by omega) (by rw [hk];exact ⟨_,I',q⟩)
theorem Zx6 (lo hi:Option Int) (n:Nat):(sliceBounds lo hi none n).1=((HT.sIx n 0 lo:Nat):Int)∧(sliceBounds lo hi none n).2.1=((HT.sIx n n hi:Nat):Int)∧(sliceBounds lo hi none n).2.2=1:=by
 refine ⟨?_,?_,rfl⟩
 ·cases lo with
  | none=>simp [sliceBounds,HT.sIx]
  | some i=>
   simp only [sliceBounds,HT.sIx,Option.getD_none,show (1:Int) > 0 by decide,if_true]
   by_cases h:i < 0
   ·simp only [h,if_true] <;> omega
   ·simp only [h,if_false] <;> omega
 ·cases hi with
  | none=>simp [sliceBounds,HT.sIx]
  | some i=>
   simp only [sliceBounds,HT.sIx,Option.getD_none,show (1:Int) > 0 by decide,if_true]
   by_cases h:i < 0
   ·simp only [h,if_true] <;> omega
   ·simp only [h,if_false] <;> omega
theorem Zvf (its:List Value) (lo hi:Option Int):slicePick its.toArray lo hi none=((its.drop (HT.sIx its.length 0 lo)).take (HT.sIx its.length its.length hi - HT.sIx its.length 0 lo)).toArray:=by
 obtain ⟨h1,h2,h3⟩:=Zx6 lo hi its.toArray.size
 unfold slicePick
 rw [h1,h2,h3]
 simp only [sliceRange_one,pick_run,List.size_toArray] <;> rfl
def rSlL (K:PySem.W.Frag):V→Option Int→Option Int→Hp→VK→Prop:=fun x lo hi H Q=>∃ a xs,x=.ref a∧SqL K H a xs∧∀ p,H p=none→Q (.ref p) (upd H p (.lst (cutV xs lo hi)))
theorem Zq4:SlR X (rSlL X.K):=by
 intro pins s σ H x v vl vu lo hi sl Q I rx hs pl pu h
 obtain ⟨a,xs,rfl,hx,q⟩:=h
 cases rx
 obtain ⟨its,r,ht,hz⟩:=I.list hx
 have hlen:=r.length
 refine ⟨"list",_,slot_list_getitem.lookup,ht.isList.typeIs,?_⟩
 refine wpAny_getItem_list_slice ht.isList hs pl pu .none (by simp) ?_ (by rw [List.size_toArray] <;> omega)
 rw [Zvf,← hlen]
 refine ⟨.ref s.heap.objs.size,_,I.laid (t':=s.toks) (o:=.lst (cutV xs lo hi)) (fun b ob q=>Heap.get?_push_of_some _ q) (Nat.le_refl _) ?_,rfl,q _ (I.hok.fresh (Nat.le_refl _))⟩
 exact ⟨Nat.le_trans (Zst xs lo hi) hz,_,0,(r.drop (HT.sIx xs.length 0 lo)).take (HT.sIx xs.length xs.length hi - HT.sIx xs.length 0 lo),Heap.get?_push_size _ rfl⟩
def ZjX:V→Bool
 | .non=>true
 | .bl _=>true
 | .int _=>true
 | .str _=>true
 | _=>false
def eqV:V→V→Bool
 | .non,.non=>true
 | .bl a,.bl b=>a == b
 | .bl a,.int b=>(if a then 1 else 0) == b
 | .int a,.bl b=>a == (if b then 1 else 0)
 | .int a,.int b=>a == b
 | .str a,.str b=>a == b
 | _,_=>false
theorem ZLQ {A:Around} {s:Shared} {y x:V} {u v:Value} (ry:RelV y u) (rx:RelV x v) (fy:ZjX y=true) (fx:ZjX x=true):SeqAt.EqAt A s u v (eqV y x):=by
 cases y with
 | non=>
  cases ry
  cases x with
  | non=>cases rx;exact SeqAt.EqAt.same _
  | bl b=>cases rx;exact SeqAt.EqAt.none_bool b
  | int b=>obtain ⟨t,rfl⟩:=rx;exact SeqAt.EqAt.none_int b t
  | str b=>obtain ⟨t,rfl⟩:=rx;exact SeqAt.EqAt.none_str b t
  | _=>exact absurd (show false=true from fx) Bool.false_ne_true
 | bl a=>
  cases ry
  cases x with
  | non=>cases rx;exact SeqAt.EqAt.bool_none a
  | bl b=>cases rx;exact SeqAt.EqAt.bool_bool a b
  | int b=>obtain ⟨t,rfl⟩:=rx;exact SeqAt.EqAt.bool_int a b t
  | str b=>obtain ⟨t,rfl⟩:=rx;exact SeqAt.EqAt.bool_str a b t
  | _=>exact absurd (show false=true from fx) Bool.false_ne_true
 | int a=>
  obtain ⟨t',rfl⟩:=ry
  cases x with
  | non=>cases rx;exact SeqAt.EqAt.int_none a t'
  | bl b=>cases rx;exact SeqAt.EqAt.int_bool a t' b
  | int b=>obtain ⟨t,rfl⟩:=rx;exact SeqAt.EqAt.int_int a t' b t
  | str b=>obtain ⟨t,rfl⟩:=rx;exact SeqAt.EqAt.int_str a t' b t
  | _=>exact absurd (show false=true from fx) Bool.false_ne_true
 | str a=>
  obtain ⟨t',rfl⟩:=ry
  cases x with
  | non=>cases rx;exact SeqAt.EqAt.str_none a t'
  | bl b=>cases rx;exact SeqAt.EqAt.str_bool a t' b
  | int b=>obtain ⟨t,rfl⟩:=rx;exact SeqAt.EqAt.str_int a t' b t
  | str b=>obtain ⟨t,rfl⟩:=rx;exact SeqAt.EqAt.str_str a t' b t
  | _=>exact absurd (show false=true from fx) Bool.false_ne_true
 | _=>exact absurd (show false=true from fy) Bool.false_ne_true
def eqU (x:V) (u:Value):Bool:=match u with
 | .none=>eqV .non x
 | .bool b=>eqV (.bl b) x
 | .int i _=>eqV (.int i) x
 | .str z _=>eqV (.str z) x
 | _=>false
theorem ZDn {x y:V} {u:Value} (r:RelV y u) (f:ZjX y=true):eqU x u=eqV y x:=by
 cases y with
 | non=>cases r;rfl
 | bl b=>cases r;rfl
 | int i=>obtain ⟨t,rfl⟩:=r;rfl
 | str z=>obtain ⟨t,rfl⟩:=r;rfl
 | _=>exact absurd (show false=true from f) Bool.false_ne_true
theorem ZCs {x:V}:∀ {xs:List V} {us:List Value},Vals xs us→xs.all ZjX=true→us.any (eqU x)=xs.any fun y=>eqV y x
 | _,_,.nil,_=>rfl
 | y::xs,u::us,.cons r t,f=>by
  rw [List.all_cons,Bool.and_eq_true] at f
  rw [List.any_cons,List.any_cons,ZDn r f.1,ZCs t f.2]
theorem Zlu {A:Around} {s:Shared} {x:V} {v:Value} (rx:RelV x v) (fx:ZjX x=true):∀ {xs:List V} {us:List Value},Vals xs us→xs.all ZjX=true→∀ u∈us,SeqAt.EqAt A s u v (eqU x u)
 | _,_,.nil,_=>fun u hu=>by cases hu
 | y::xs,u::us,.cons r t,f=>fun u' hu=>by
  rw [List.all_cons,Bool.and_eq_true] at f
  rcases List.mem_cons.mp hu with rfl | hu
  ·rw [ZDn r f.1];exact ZLQ r rx f.1 fx
  ·exact Zlu rx fx t f.2 u' hu
def inV (x:V) (xs:List V):Bool:=xs.any fun y=>eqV y x
def rIn (K:PySem.W.Frag) (neg:Bool):R2:=fun x y H Q=>∃ p xs,y=.ref p∧(SqL K H p xs∨SqT K H p xs)∧ZjX x=true∧xs.all ZjX=true∧Q (.bl (if neg then !inV x xs else inV x xs)) H
theorem Zyw:OpR X (compareOp .In) (rIn X.K false):=by
 intro pins s σ H x y v u Q I rx ry h
 obtain ⟨p,xs,rfl,hq,fx,fs,q⟩:=h
 cases ry
 rcases hq with hq | hq
 ·obtain ⟨its,r,pl,hz⟩:=I.list hq
  refine SeqAt.in_listAt (eqU x) pl.isList (fun w hw=>Zlu rx fx r fs w (by simpa using hw)) ⟨.bl _,H,I,rfl,?_⟩
  rw [show its.toArray.any (eqU x)=its.any (eqU x) by simp,ZCs r fs]
  exact q
 ·obtain ⟨its,r,pl,hz⟩:=I.tuple hq
  refine SeqAt.in_tupleAt (eqU x) pl (fun w hw=>Zlu rx fx r fs w (by simpa using hw)) ⟨.bl _,H,I,rfl,?_⟩
  rw [show its.toArray.any (eqU x)=its.any (eqU x) by simp,ZCs r fs]
  exact q
theorem ZM:ZfR X (.builtin "len") (fun xs H Q=>∃ p ys,xs=[.ref p]∧(SqL X.K H p ys∨SqT X.K H p ys)∧Q (.int ys.length) H):=by
 intro pins s σ H xs us Q I r h
 obtain ⟨p,ys,rfl,hq,q⟩:=h
 obtain ⟨u,rfl,rx⟩:=ZE7 r
 cases rx
 have hn:=Zuj
 rcases hq with hq | hq
 ·obtain ⟨its,r',pl,hz⟩:=I.list hq
  have hlen:=r'.length
  exact Calls.call_len_list pl.isList (by simp only [List.size_toArray] <;> omega) ⟨.int ys.length,H,I.tok _,⟨s.toks + 1,by rw [List.size_toArray,hlen]⟩,q⟩
 ·obtain ⟨its,r',pl,hz⟩:=I.tuple hq
  have hlen:=r'.length
  exact len_tuple pl (by simp only [List.size_toArray] <;> omega) ⟨.int ys.length,H,I.tok _,⟨s.toks + 1,by rw [List.size_toArray,hlen]⟩,q⟩
theorem ZaR:ZfR X (.builtin "len") (fun xs H Q=>∃ z,xs=[.str z]∧z.length≤sizeLine∧Q (.int z.length) H):=by
 intro pins s σ H xs us Q I r h
 obtain ⟨z,rfl,hz,q⟩:=h
 obtain ⟨u,rfl,t,rfl⟩:=ZE7 r
 have hn:=Zuj
 exact len_str (by omega) ⟨.int z.length,H,I.tok _,⟨_,rfl⟩,q⟩
theorem ZmL:ZfR X (.type "tuple") (fun xs H Q=>∃ p ys,xs=[.ref p]∧((SqL X.K H p ys∧∀ l,H l=none→Q (.ref l) (upd H l (.tup ys)))∨(SqT X.K H p ys∧Q (.ref p) H))):=by
 intro pins s σ H xs us Q I r h
 obtain ⟨p,ys,rfl,h⟩:=h
 obtain ⟨u,rfl,rx⟩:=ZE7 r
 cases rx
 rcases h with ⟨hq,q⟩ | ⟨hq,q⟩
 ·obtain ⟨its,r',pl,hz⟩:=I.list hq
  have hlen:=r'.length
  refine call_tuple_list pl.isList (fun h' kp=>?_) (by simp only [List.size_toArray] <;> omega)
  have I1:Inv X pins σ H {s with heap:=h'}:=I.kept (t':=s.toks) kp
  have I2:Inv X pins σ (upd H h'.objs.size (.tup ys)) {s with heap:=h'.push {cls:=.type "tuple",data:=.seq its.toArray}}:=
   I1.laid (t':=s.toks) (fun b o e=>Heap.get?_push_of_some _ e) (Nat.le_refl _) (show Zam X.prog X.w _ _ _ (.tup ys) from ⟨hz,its,r',IsTup.new _ _⟩)
  exact ⟨.ref h'.objs.size,_,I2,rfl,q _ (I1.hok.fresh (Nat.le_refl _))⟩
 ·obtain ⟨its,r',pl,hz⟩:=I.tuple hq
  exact call_tuple_same pl ⟨.ref p,H,I,rfl,q⟩
def tyV (K:PySem.W.Frag) (T:String) (x:V) (H:Hp):Prop:=match x with
 | .str _=>T="str"
 | .int _=>T="int"
 | .ref p=>(T="list"∧∃ xs,SqL K H p xs)∨(T="tuple"∧∃ o,K.lookup p=some o∧o.cls=.type "tuple"∧o.dict=none)∨
   (T="dict"∧((∃ kvs,H p=some (.dK kvs))∨∃ kvs,H p=some (.dT kvs)))∨(T="set"∧∃ S n,H p=some (.set S n))
 | _=>False
theorem ZIJ {pins:List (Addr×Obj)} {σ:St} {H:Hp} {s:Shared} {T:String} {x:V} {v:Value} (I:Inv X pins σ H s) (r:RelV x v) (ty:tyV X.K T x H) :
  s.TypeIs v T∧∀ a,v=.ref a→∃ ob,s.heap.get? a=some ob∧ob.dict=none:=by
 cases x with
 | str z=>
  obtain ⟨t,rfl⟩:=r
  cases (show T="str" from ty)
  exact ⟨typeIs_str s z t,fun _ e=>nomatch e⟩
 | int i=>
  obtain ⟨t,rfl⟩:=r
  cases (show T="int" from ty)
  exact ⟨typeIs_int s i t,fun _ e=>nomatch e⟩
 | ref p=>
  cases r
  rcases ty with ⟨rfl,xs,hq⟩ | ⟨rfl,o,hk,hc,hd⟩ | ⟨rfl,hk⟩ | ⟨rfl,S,n,hk⟩
  ·obtain ⟨its,_,pl,_⟩:=I.list hq
   refine ⟨pl.isList.typeIs,fun a e=>?_⟩
   cases e
   obtain ⟨o,n,e,c,hd,_⟩:=pl
   exact ⟨o,e,hd⟩
  ·refine ⟨⟨o,I.kIn p o hk,hc⟩,fun a e=>?_⟩
   cases e
   exact ⟨o,I.kIn _ o hk,hd⟩
  ·have z:∃ o,s.heap.get? p=some o∧o.ExactDict:=by
    rcases hk with ⟨kvs,hk⟩ | ⟨kvs,hk⟩
    ·obtain ⟨_,_,_,_,o,_,_,e,ex,_⟩:=I.hok p _ hk
     exact ⟨o,e,ex⟩
    ·obtain ⟨_,_,_,_,o,_,_,e,ex,_⟩:=I.hok p _ hk
     exact ⟨o,e,ex⟩
   obtain ⟨o,e,ex⟩:=z
   refine ⟨⟨o,e,ex.1⟩,fun a e2=>?_⟩
   cases e2
   exact ⟨o,e,ex.2.1⟩
  ·obtain ⟨o,_,_,_,e,ex,_⟩:=I.hok p _ hk
   refine ⟨⟨o,e,ex.1⟩,fun a e2=>?_⟩
   cases e2
   exact ⟨o,e,ex.2.1⟩
 | _=>exact False.elim ty
def tBM0 (K:PySem.W.Frag) (T:String) (r:V→List V→Hp→VK→Prop) (to:TE):TE:=fun σ H Q=>to σ H fun x H1=>tyV K T x H1∧r x [] H1 Q
def tBM (K:PySem.W.Frag) (T:String) (r:V→List V→Hp→VK→Prop) (to:TE) (t:TA):TE:=fun σ H Q=>to σ H fun x H1=>tyV K T x H1∧t σ H1 fun xs H2=>r x xs H2 Q
variable {o e:Expr} {es:List Expr} {to:TE} {t:TA} {name:Str} {apos cpos:Pos} {T id:String} {r:V→List V→Hp→VK→Prop}
theorem ZC7 (pa:PlainAttrs T) (slot:Slot T name id) (hty:typeOf (.builtin id)=pure (.type "method_descriptor")) (hm:MtR X id r) (ho:PE X o to)
  (hbase:attributeBase o name X.env (eval o X.env)=eval o X.env:=by rfl) (hline:(apos.endLine == cpos.line)=true:=by rfl):PE X (.Call (.Attribute o name apos) [] [] cpos) (tBM0 X.K T r to):=by
 try unfold PE at *
 intro pins s σ H Q I h
 refine wpAny_Call_method0_late hbase hline (thn (ho pins s σ H _ I h) fun v s1 ⟨x,H1,I1,r1,ty,q1⟩=>?_)
 obtain ⟨h1,h2⟩:=ZIJ I1 r1 ty
 exact ⟨T,id,pa,slot,hty,h1,h2,Calls.callWith_builtin rfl (PySem.evalArgs_none (hm pins s1 σ H1 x [] v [] Q I1 r1 .nil q1))⟩
theorem Zrr (pa:PlainAttrs T) (slot:Slot T name id) (hty:typeOf (.builtin id)=pure (.type "method_descriptor")) (hm:MtR X id r) (ho:PE X o to) (ha:PA X (e::es) t)
  (hbase:attributeBase o name X.env (eval o X.env)=eval o X.env:=by rfl)
  (hfew:((backTo cpos (starEach (e::es) X.env)).all (fun x=>!x.1) && (backToKw cpos (keywordEach [] X.env)).all (fun x=>x.1.isSome)
   && decide ((e::es).length + ([]:List Keyword).length + (if ([]:List Keyword).isEmpty then 0 else 1) < 30))=true:=by rfl)
  (hline:(apos.endLine == cpos.line)=true:=by rfl) (hs:starEach (e::es) X.env=(false,eval e X.env)::starEach es X.env:=by rfl) (hplain:(backTo cpos (starEach es X.env)).any (·.1)=false:=by rfl) :
  PE X (.Call (.Attribute o name apos) (e::es) [] cpos) (tBM X.K T r to t):=by
 try unfold PE at *;try unfold PA at *
 intro pins s σ H Q I h
 refine wpAny_Call_method_late hbase hfew hline rfl (thn (ho pins s σ H _ I h) fun v s1 ⟨x,H1,I1,r1,ty,q1⟩=>?_)
 obtain ⟨h1,h2⟩:=ZIJ I1 r1 ty
 refine ⟨T,id,pa,slot,hty,h1,h2,?_⟩
 have hA:=ha cpos pins s1 σ H1 _ I1 q1
 rw [hs] at hA ⊢
 refine Calls.callWith_builtin (by show (false || (backTo cpos (starEach es X.env)).any (·.1))=false;rw [hplain] <;> rfl) (Calls.evalArgs_plain ?_)
 exact thn hA fun us s2 ⟨vs,H2,I2,r2,q2⟩=>hm pins s2 σ H2 x vs v us Q I2 r1 r2 q2
end
end L2
namespace L2
open PySem PySem.Spec PyProof.Rows
def MtM (X:Cx) (id:String) (r:V→List V→Hp→VK→Prop):Prop:=
 ∀ (pins:List (Addr×Obj)) (s:Shared) (σ:St) (H:Hp) (x:V) (xs:List V) (v:Value) (us:List Value) (Q:VK),Inv X pins σ H s→RelV x v→Vals xs us→r x xs H Q→
  wpAny (model X.prog X.w) X.A (call (.builtin id) (v::us)) (EP X pins σ Q) X.xe s
theorem Vals.one:∀ {x:V} {us:List Value},Vals [x] us→∃ u,us=[u]∧RelV x u
 | _,_,.cons r .nil=>⟨_,rfl,r⟩
theorem Vals.two:∀ {x y:V} {us:List Value},Vals [x,y] us→∃ u v,us=[u,v]∧RelV x u∧RelV y v
 | _,_,_,.cons r (.cons q .nil)=>⟨_,_,rfl,r,q⟩
theorem Vals.zero:∀ {us:List Value},Vals [] us→us=[]
 | _,.nil=>rfl
theorem Vals.rep {xs:List V} {us:List Value} (h:Vals xs us):∀ k:Nat,Vals (List.replicate k xs).flatten (List.replicate k us).flatten
 | 0=>.nil
 | k + 1=>by
  rw [List.replicate_succ,List.replicate_succ,List.flatten_cons,List.flatten_cons]
  exact Vals.append h (Vals.rep h k)
theorem Zsm (its:List Value):∀ (k:Nat) (acc:List Value),
  List.foldl (fun x1 x2=>x1++x2) acc.toArray (List.replicate k its.toArray)=(acc++(List.replicate k its).flatten).toArray
 | 0,acc=>by simp
 | k + 1,acc=>by
  have e:acc.toArray++its.toArray=(acc++its).toArray:=by simp
  have e2:(acc++its)++(List.replicate k its).flatten=acc++(List.replicate (k + 1) its).flatten:=by
   rw [List.replicate_succ,List.flatten_cons,List.append_assoc]
  rw [← e2,← Zsm its k (acc++its),← e,List.replicate_succ,List.foldl_cons]
section
variable {X:Cx} {pins:List (Addr×Obj)} {σ:St} {H:Hp} {s:Shared} {l b:Addr} {xs ys zs:List V}
theorem Inv.lset {its its':List Value} {n:Nat} {f:Array Value→Array Value} {t':Nat} (I:Inv X pins σ H s) (hH:H l=some (.lst xs))
  (e:s.heap.get? l=some {cls:=.type "list",data:=.seq its.toArray n}) (hf:f its.toArray=its'.toArray) (hv:Vals ys its') (hz:ys.length≤sizeLine) :
  Inv X pins σ (upd H l (.lst ys)) {s with heap:=s.heap.update l (Obj.mapSeq f),toks:=t'}:=by
 have q:=PySem.IsL.update e f
 rw [hf] at q
 refine I.write (x:=l) (e:=l) (by rw [hH];exact trivial) (.inl rfl) (fun b' u hb hu=>(Heap.get?_update_other s.heap (Obj.mapSeq f) (Ne.symm hb)).trans hu) ⟨_,q⟩ ?_
 exact ⟨hz,its',_,hv,q⟩
theorem Inv.lnew {its:List Value} {t':Nat} (I:Inv X pins σ H s) (hv:Vals ys its) (hz:ys.length≤sizeLine) :
  Inv X pins σ (upd H s.heap.objs.size (.lst ys)) {s with heap:=s.heap.push {cls:=.type "list",data:=.seq its.toArray},toks:=t'}:=
 I.laid (fun _ _ q=>Heap.get?_push_of_some _ q) (Nat.le_refl _) ⟨hz,its,0,hv,Heap.get?_push_size _ rfl⟩
theorem Inv.fresh (I:Inv X pins σ H s):H s.heap.objs.size=none:=I.hok.fresh (Nat.le_refl _)
theorem Inv.lstM (I:Inv X pins σ H s) (hH:H l=some (.lst xs)):xs.length≤sizeLine∧∃ (its:List Value) (n:Nat),Vals xs its∧xs.length=its.length∧s.heap.get? l=some {cls:=.type "list",data:=.seq its.toArray n}:=by
 obtain ⟨z,its,n,r,e⟩:=I.hok l _ hH
 exact ⟨z,its,n,r,r.length,e⟩
end
section
variable {X:Cx}
def ZJI:V→List V→Hp→VK→Prop:=fun x vs H Q=>∃ l xs y,x=.ref l∧vs=[y]∧H l=some (.lst xs)∧xs.length < sizeLine∧Q .non (upd H l (.lst (xs++[y])))
theorem Zev:MtM X "list.append" ZJI:=by
 intro pins s σ H x vs v us Q I rx rv h
 obtain ⟨l,xs,y,rfl,rfl,hH,hz,q⟩:=h
 cases rx
 obtain ⟨u,rfl,ru⟩:=rv.one
 obtain ⟨z,its,n,r,hl,e⟩:=I.lstM hH
 refine call_meets F.slot_list_append ⟨_,e,rfl⟩ F.entry_list_append (F.args_list_append_2 _ _) (PySem.list_append l its.toArray n u (by rw [List.size_toArray];omega)) ⟨e,?_⟩
 refine ⟨.non,_,I.lset (its':=its++[u]) hH e (by simp) (r.append (.cons ru .nil)) ?_,rfl,q⟩
 rw [List.length_append,List.length_singleton]
 omega
def rCat:R2:=fun x y H Q=>∃ l b xs zs,x=.ref l∧y=.ref b∧H l=some (.lst xs)∧H b=some (.lst zs)∧xs.length + zs.length≤sizeLine∧∀ p,H p=none→Q (.ref p) (upd H p (.lst (xs++zs)))
theorem Zyx:OpR X (binaryOp .Add) rCat:=by
 intro pins s σ H x y v u Q I rx ry h
 obtain ⟨l,b,xs,zs,rfl,rfl,hH,hB,hz,q⟩:=h
 cases rx
 cases ry
 obtain ⟨z,its,n,r,hl,e⟩:=I.lstM hH
 obtain ⟨z2,its2,n2,r2,hl2,e2⟩:=I.lstM hB
 refine PySem.P.add_list e e2 ?_ (by rw [List.size_toArray,List.size_toArray];omega)
 have ea:its.toArray++its2.toArray=(its++its2).toArray:=by simp
 rw [ea]
 exact ⟨.ref _,_,I.lnew (t':=s.toks) (r.append r2) (by rw [List.length_append];omega),rfl,q _ I.fresh⟩
theorem ZGg {α:Type} (xs:List α) (k:Nat):(List.replicate k xs).flatten.length=k * xs.length:=by
 induction k with
 | zero=>simp
 | succ k ih=>rw [List.replicate_succ,List.flatten_cons,List.length_append,ih,Nat.succ_mul,Nat.add_comm]
end
section
variable {prog:Program} {w:World} {A:Around} {E:Value→Shared→Prop} {s:Shared}
end
section
variable {X:Cx}
end
end L2
namespace Att
open PySem PySem.W PySem.Calls PyProof.Rows
theorem Zsd {P:Params} {h:Heap}:∀ (ns:List Int) (vs:List Value),WellAll P h vs (ns.map WData.int)→IntsAre vs ns:=by
 intro ns
 induction ns with
 | nil=>
  intro vs w
  rw [List.map_nil] at w
  cases w
  exact .nil
 | cons n ns ih=>
  intro vs w
  rw [List.map_cons] at w
  cases w with
  | cons a b=>
   cases a
   exact .cons _ _ (ih _ b)
theorem ZFA {l:OpenLaw} {n:Nat} (hn:l.most=some n) {P:Params} {h:Heap} {args:List WData} {vals:List Value}
    (hpre:l.row.toRowW.claim.pre args=true) (hwl:WellAll P h vals args) :
    ∃ a vs ns,vals=[Value.ref a]∧args=[WData.list (ns.map WData.int)]∧h.get? a=some {cls:=.type "list",data:=.seq vs.toArray}∧IntsAre vs ns∧ns.length≤n:=by
  have hsh:WShape.hasAll [] args [.list .int]=true:=(pre_splitW hpre).1
  have hc:l.pre.holds [] {args:=args}=true:=(pre_splitW hpre).2
  obtain ⟨d,r,rfl,h1,h2⟩:=hasAllW_cons hsh
  obtain rfl:=hasAllW_nil h2
  obtain ⟨xs,rfl,h3⟩:=hasW_list h1
  obtain ⟨ns,rfl⟩:=items_int h3
  have hlen:ns.length≤n:=by
    unfold OpenLaw.pre at hc
    have h4:(WTm.not (.lt (.lit (.int (n:Int))) (.len (.arg 0)))).holds [] {args:=[.list (ns.map .int)]}=true:=by
      have h4:=(holds_andW hc).1
      rw [hn] at h4
      exact h4
    have h5:=condW_of h4 (w_not (w_lt w_lit (w_len_list (w_arg rfl))))
    rw [List.length_map] at h5
    refine Nat.le_of_not_lt fun q=>?_
    have q':(n:Int) < ((ns.length:Nat):Int):=by omega
    first
      | (rw [decide_eq_true q'] at h5;exact absurd h5 (by decide))
      | (simp at h5;omega)
  cases hwl with
  | cons w1 w2=>
    cases w2
    cases w1 with
    | list ho hall=>exact ⟨_,_,ns,rfl,rfl,ho,Zsd ns _ hall,hlen⟩
theorem ZFI (l:OpenLaw) (args:List WData):l.row.toRowW.claim.post args (.bool true) args=true:=
 postW_of (r:=l.row.toRowW) (X:=(true == true))
  (show WShape.has [] (.bool true) .bool=true by first | rfl | decide | simp [WShape.has,WShape.arms,WShape.armsAll])
  (show (WTm.eq .res (.lit (.bool true))).value [] {args:=args,res:=some (.bool true),after:=args}=some (.bool (true == true)) from w_eq_bool (w_res rfl) w_lit) rfl
theorem attach_call {l:OpenLaw} {n:Nat} {q:Program} {loose:List Str} {XP:(Str→Option Value)→Heap→Prop} {YP:World→Heap→Prop} {d:DefRec}
  (hn:l.most=some n) (hdf:d.params.defaults=[])
  (call:∀ (w:World) (s₀ s₁:Shared) (mg mb:Str→Option Value) (fa:Addr) (o:Obj) (pm cd doc:Value) (a:Addr) (vs:List Value) (ns:List Int),
   Ground q loose [] XP w s₀ mg mb s₁.heap→YP w s₁.heap→
   s₁.heap.get? fa=some o→o.data=.func (docDef d.name d.params d.body d.scope pm cd doc)→s₁.heap.CodeRec cd d.name→mg d.name=some (.ref fa)→
   s₁.heap.get? a=some {cls:=.type "list",data:=.seq vs.toArray}→IntsAre vs ns→ns.length≤n→s₁.gens=#[]→
   codeAny (model l.prog w) callerA (.call (.ref fa) ⟨[.ref a],[]⟩) (fun r s'=>r=.ok (.ret (.bool true))∧OldK s₁.heap s'.heap∧s'.os=s₁.os∧AllBare s'.gens) s₁) :
  WalkO q loose XP YP l.row.toRowW d [] (fun f vs=>PySem.call f vs):=by
 intro w s₀ s₁ mg mb G Y fa o pm cd doc dV kV ho hd hcd hD hmg hg args vals as hpre hlay hrd hwl hlo
 obtain rfl:dV=.none:=Dflts.none hD hdf
 obtain rfl:kV=.none:=Dflts.noKw hD
 obtain ⟨a,vs,ns,rfl,rfl,hobj,hints,hlen⟩:=ZFA hn hpre hwl
 refine enter_call (codeAny_mono (call w s₀ s₁ mg mb fa o pm cd doc a vs ns G Y ho (fd_plain hd) hcd hmg hobj hints hlen hg) fun r s' hq=>?_)
 obtain ⟨rfl,h2,h3,h4⟩:=hq
 exact ⟨.inl ⟨.bool true,.bool true,[],rfl,fun _=>rfl,.bool true,ZFI l _,fun _=>⟨List.Pairwise.nil,fun _ hm=>(nomatch hm)⟩⟩,h2,h3,h4⟩
section
variable {prog:Program} {w:World} {A:Around} {E:Value→Shared→Prop} {s:Shared} {K:Frag}
end
end Att
namespace L2
open PySem PySem.Spec PyProof.Rows
theorem ZxS:∀ {vs:List Value} {ns:List Int},IntsAre vs ns→Vals (ns.map V.int) vs
 | _,_,.nil=>.nil
 | _,_,.cons n t h=>.cons ⟨t,rfl⟩ (ZxS h)
def Only (H:Hp):Prop:=∀ b,H b=none∨∃ o xs,H b=some (.frz o (.lst xs))
theorem ZH7 {P:Program} {w:World} {K:PySem.W.Frag} {mg mb:Str→Option Value} {CX:CXT} {k:Nat} {fa a:Addr} {fd:FuncData} {x:Str} {sp:Sp} {s₁:Shared} {vs:List Value} {ns:List Int}
  (KX:K.In s₁.heap) (hns:s₁.heap.Ns mainGlobals mg) (hb:s₁.heap.Ns builtinsNs mb) (hbb:∀ x:Str,x≠"__name__"→mb x=bootBuiltins x) (hlim:s₁.heap.NoLimit) (hg:s₁.gens=#[])
  (ha:s₁.heap.get? a=some {cls:=.type "list",data:=.seq vs.toArray}) (hi:IntsAre vs ns) (hl:ns.length≤sizeLine) (hr:Room k callerA)
  (F:∀ base:Heap,K.In base→base.Ns mainGlobals mg→FnOk P w K mg base CX k fa fd [x] sp) (hbind:∀ (s:Shared) (u:Value),BindsTo s fd ⟨[u],[]⟩ [(x,u)])
  (hsp:∀ H:Hp,Only H→SqL K H a (ns.map V.int)→sp [.ref a] H (fun v _=>v=.bl true) fun _ _ _=>False)
  (hCX:∀ H e s',CX [] H s₁ (fun _ _ _=>False) e s'→False) :
  codeAny (model P w) callerA (.call (.ref fa) ⟨[.ref a],[]⟩) (fun r s'=>r=.ok (.ret (.bool true))∧OldK s₁.heap s'.heap∧s'.os=s₁.os∧AllBare s'.gens) s₁:=by
 have rv:=ZxS hi
 have lenV:=hi.length
 -- from an abstract heap in which nothing but the script may be tracked
 have core:∀ H:Hp,Only H→SqL K H a (ns.map V.int)→HOk P w H s₁.heap→(∀ b,H b≠none→b=a)→(H a≠none→K.lookup a=none)→
   codeAny (model P w) callerA (.call (.ref fa) ⟨[.ref a],[]⟩) (fun r s'=>r=.ok (.ret (.bool true))∧OldK s₁.heap s'.heap∧s'.os=s₁.os∧AllBare s'.gens) s₁:=by
  intro H hO hS hok hA hK
  have base_of:∀ {b:Addr} {o:Obj},s₁.heap.get? b=some o→H b=none→(hidT s₁.heap H).get? b=some o:=fun e n=>ZId e n
  have noA:∀ {b:Addr} {o:Obj} {es:Array DictEntry} {ep:Nat},s₁.heap.get? b=some o→o.data=.dict es ep→H b=none:=fun {b o es ep} e d=>by
   cases q:H b with
   | none=>rfl
   | some u=>
    have e':b=a:=hA b (by rw [q];simp)
    subst e'
    rw [ha] at e;cases e
    have d':Data.seq vs.toArray _=Data.dict es ep:=d
    cases d'
  have nsK:∀ {b:Addr} {m:Str→Option Value},s₁.heap.Ns b m→(hidT s₁.heap H).Ns b m:=fun {b m} ⟨o,es,ep,e,d,r⟩=>⟨o,es,ep,base_of e (noA e d),d,r⟩
  have hKb:K.In (hidT s₁.heap H):=fun b o e=>base_of (KX b o e) (by
   cases q:H b with
   | none=>rfl
   | some u=>
    have e':b=a:=hA b (by rw [q];simp)
    subst e'
    rw [hK (by rw [q];simp)] at e;cases e)
  have hM:Mod K mg (hidT s₁.heap H):=⟨hKb,nsK hns,⟨mb,nsK hb,hbb⟩,let ⟨mc,h1,h2⟩:=hlim;⟨mc,nsK h1,h2⟩⟩
  have e0:Env0 P w K mg (hidT s₁.heap H) callerA [] s₁ H:=⟨rfl,hM,fun b o e=>ZJU e,Nat.le_of_eq (ZGr _ _),trivial,fun b hb=>absurd (show b∈([]:List Addr) from hb) (by simp),hok,.of_eq hg⟩
  refine codeAny_mono ((F _ hKb (nsK hns)).run callerA [] s₁ H ⟨[.ref a],[]⟩ [.ref a] [.ref a] _ _ hr e0 (hbind s₁ (.ref a)) (.cons rfl .nil) (hsp H hO hS)) fun r s' h=>?_
  cases r with
  | error e=>exact (hCX H e s' h).elim
  | ok fl=>
   cases fl with
   | next=>exact False.elim h
   | brk=>exact False.elim h
   | cont=>exact False.elim h
   | ret u=>
    obtain ⟨v,H',os,bare,un,hok',r',q⟩:=h
    have q':v=.bl true:=q
    subst q'
    obtain rfl:u=Value.bool true:=r'
    refine ⟨rfl,OldK.of_keep fun b o e=>?_,os,bare⟩
    cases q:H b with
    | none=>exact un.keep b o e q (by intro z;exact absurd (show b∈([]:List Addr) from z) (by simp)) (by simp)
    | some u=>
     rcases hO b with z | ⟨ob,xs,z⟩
     ·rw [q] at z;cases z
     ·have z2:=un.frzs b ob _ z
      obtain ⟨e1,_⟩:=hok b _ z
      obtain ⟨e2,_⟩:=hok' b _ z2
      rw [e] at e1;cases e1
      exact e2
 cases hk:K.lookup a with
 | some o=>
  -- the script is one of the module's own objects
  have e:=KX a o hk
  rw [ha] at e
  cases e
  refine core (fun _=>none) (fun _=>.inl rfl) (.inr ⟨_,vs.toArray,_,hk,rfl,rfl,rfl,by rw [List.size_toArray,lenV];exact hl,by simpa using rv⟩) (fun b u z=>by have z':(none:Option HO)=some u:=z;cases z') (fun b z=>absurd rfl z) fun z=>absurd rfl z
 | none=>
  refine core (fun b=>if b=a then some (.frz {cls:=.type "list",data:=.seq vs.toArray} (.lst (ns.map V.int))) else none) (fun b=>?_) (.inl (.inr ⟨{cls:=.type "list",data:=.seq vs.toArray},if_pos rfl⟩)) (fun b u z=>?_) (fun b z=>?_) fun _=>hk
  ·by_cases hb:b=a
   ·exact .inr ⟨_,_,if_pos hb⟩
   ·exact .inl (if_neg hb)
  ·by_cases hb:b=a
   ·have z':=(if_pos hb).symm.trans z
    cases z'
    subst hb
    exact ⟨ha,by rw [List.length_map];exact hl,vs,_,rv,ha⟩
   ·have z':=(if_neg hb).symm.trans z
    cases z'
  ·by_cases hb:b=a
   ·exact hb
   ·exact absurd (if_neg hb) z
end L2
namespace L2
open PySem PySem.Spec PyProof.Rows
theorem ZJk {l:PySem.W.OpenLaw} {n k:Nat} {q:Program} {loose:List Str} {XP:(Str→Option Value)→Heap→Prop} {YP:World→Heap→Prop} {d:DefRec} {K:Params→PySem.W.Frag} {CX:World→CXT} {sp:World→Sp} {x:Str}
  (hn:l.most=some n) (hn2:n≤sizeLine) (hdf:d.params.defaults=[]) (hr:Room k callerA)
  (hY:∀ (w:World) (h:Heap),YP w h→(K w.params).In h)
  (F:∀ (w:World) (mg:Str→Option Value) (fa:Addr) (h:Heap),(K w.params).In h→h.Ns mainGlobals mg→mg d.name=some (.ref fa)→
   ∃ fd:FuncData,(∀ (s:Shared) (u:Value),BindsTo s fd ⟨[u],[]⟩ [(x,u)])∧
    ∀ base:Heap,(K w.params).In base→base.Ns mainGlobals mg→FnOk l.prog w (K w.params) mg base (CX w) k fa fd [x] (sp w))
  (hsp:∀ (w:World) (H:Hp) (a:Addr) (ns:List Int),ns.length≤n→Only H→SqL (K w.params) H a (ns.map V.int)→sp w [.ref a] H (fun v _=>v=.bl true) fun _ _ _=>False)
  (hCX:∀ (w:World) (H:Hp) (s:Shared) (e:Value) (s':Shared),CX w [] H s (fun _ _ _=>False) e s'→False) :
  PySem.W.WalkO q loose XP YP l.row.toRowW d [] (fun f vs=>PySem.call f vs):=by
 refine Att.attach_call hn hdf fun w s₀ s₁ mg mb fa o pm cd doc a vs ns G Y ho hd hcd hmg hobj hints hlen hg=>?_
 have KX:=hY w _ Y
 obtain ⟨fd,hb,hF⟩:=F w mg fa _ KX G.T.g hmg
 exact ZH7 KX G.T.g G.T.b G.T.builtins G.T.nolimit hg hobj hints (Nat.le_trans hlen hn2) hr hF hb (fun H hO hS=>hsp w H a ns hlen hO hS) fun H e s'=>hCX w H s₁ e s'
end L2
namespace L2
open PySem PySem.Spec PyProof.Rows
def Za3 (s:Stmt) (j:Nat):Stmt:=match s with
 | .ClassDef _ _ _ body _ _ _ _ _ _ _=>body.getD j (.Pass ⟨0,0,0,0⟩)
 | _=>.Pass ⟨0,0,0,0⟩
def Zso (s:Stmt):Arguments:=match s with
 | .FunctionDef _ a _ _ _ _ _ _ _ _=>a
 | _=>{posonlyargs:=[],args:=[],vararg:=none,kwonlyargs:=[],kw_defaults:=[],kwarg:=none,defaults:=[]}
def Zg6 (s:Stmt):List Stmt:=match s with
 | .FunctionDef _ _ b _ _ _ _ _ _ _=>b
 | _=>[]
def Zg (s:Stmt):Scope:=match s with
 | .FunctionDef _ _ _ _ _ _ sc _ _ _=>sc
 | _=>{kind:=.function,names:=[],isGenerator:=false,isCoroutine:=false}
abbrev CX0:CXT:=fun _ _ _ _ _ _=>False
abbrev E0:XK:=fun _ _ _=>False
structure Fun (K:PySem.W.Frag) (x qual:Str) (st:Stmt) (f:Addr) (fd:FuncData):Prop where
 ex:∃ (oc:Value) (od:Option Addr) (kV doc pm:Value) (an:Option Addr) (cdv ct:Value) (osl:Array (Option Value)),
  fd=PySem.W.fnOf x qual (Zso st) (Zg6 st) (Zg st) .none kV doc pm an cdv ct∧K.lookup f=some ⟨oc,od,.func fd,osl⟩∧PySem.W.codeIn K cdv qual=true
 kp:PySem.W.keepIn K (.ref f)=true
section
variable {P:Program} {w:World} {K:PySem.W.Frag} {mg:Str→Option Value} {base:Heap}
theorem Fun.ok {x qual:Str} {st:Stmt} {f:Addr} {fd:FuncData} {N ps:List Str} {k:Nat} {sp:Sp} (F:Fun K x qual st f fd) (S:Zq N ps (Zg st)) (len:∀ vs H Q E,sp vs H Q E→vs.length=ps.length)
  (hbody:∀ (cdv:Value) (A:Around) (outer:List Env) (s:Shared) (H:Hp) (vs:List V) (Q:VK) (E:XK),Room k (A.deeper (envOfC qual (Zg st) s.heap.objs.size f cdv))→sp vs H Q E→
   ∃ t,PSs (cxOf CX0 P w K mg base N qual (Zg st) f cdv A outer s H E).nox (Zg6 st) t∧t {nx:=fun _ H'=>Q .non H',rt:=Q} (Znq N vs) H):FnOk P w K mg base CX0 (k + 1) f fd ps sp:=by
 obtain ⟨oc,od,kV,doc,pm,an,cdv,ct,osl,rfl,lk,hcd⟩:=F.ex
 refine ZLM lk hcd S len fun A outer s H vs Q E hr hsp=>?_
 obtain ⟨t,h,q⟩:=hbody cdv A outer s H vs Q E hr hsp
 exact ⟨t,h.nox,q⟩
theorem Fun.binds {x qual:Str} {st:Stmt} {f:Addr} {fd:FuncData} {ps:List Str} (F:Fun K x qual st f fd)
  (h:∀ (kV doc pm:Value) (an:Option Addr) (cdv ct:Value) (us:List Value),us.length=ps.length→bindArgs (PySem.W.fnOf x qual (Zso st) (Zg6 st) (Zg st) .none kV doc pm an cdv ct) ⟨us,[]⟩=pure (ps.zip us)):ZN K fd ps []:=by
 obtain ⟨oc,od,kV,doc,pm,an,cdv,ct,osl,rfl,lk,hcd⟩:=F.ex
 exact .all (h kV doc pm an cdv ct)
theorem Zl {x qual:Str} {st:Stmt} {f:Addr} {oc:Value} {od an:Option Addr} {osl:Array (Option Value)} {kV doc pm cdv ct:Value} (l:K.lookup f=some ⟨oc,od,.func (PySem.W.fnOf x qual (Zso st) (Zg6 st) (Zg st) .none kV doc pm an cdv ct),osl⟩)
  (c:PySem.W.codeIn K cdv qual=true) (k:PySem.W.keepIn K (.ref f)=true):Fun K x qual st f (PySem.W.fnOf x qual (Zso st) (Zg6 st) (Zg st) .none kV doc pm an cdv ct):=⟨⟨oc,od,kV,doc,pm,an,cdv,ct,osl,rfl,l,c⟩,k⟩
end
section
variable {X:Cx}
theorem pv (i:Nat) {x:Str} {pos:Pos} (hN:X.N[i]?=some x:=by rfl) (hv:Vis X.env.scope x:=by first | exact Or.inl rfl | exact Or.inr (Or.inl rfl) | exact Or.inr (Or.inr rfl)) (hd:(x == ("__debug__":Str))=false:=by decide)
  (hcd:(x == ("__classdict__":Str))=false:=by decide):PE X (.Name x pos) (tVar i):=ZLh hN hv hd hcd
end
theorem iteF {A B:Prop} (h:B):if false=true then A else B:=by
 rw [if_neg Bool.false_ne_true]
 exact h
theorem iteT {A B:Prop} (h:A):if true=true then A else B:=by
 rw [if_pos rfl]
 exact h
theorem ite2 {c A B:Prop} [Decidable c] (h1:c→A) (h2:¬ c→B):if c then A else B:=by
 by_cases h:c
 ·rw [if_pos h]
  exact h1 h
 ·rw [if_neg h]
  exact h2 h
theorem ZMu {c A B:Prop} [Decidable c] (hc:c) (h:B):if (!decide c)=true then A else B:=by
 rw [decide_eq_true hc]
 exact iteF h
def Same (H H':Hp):Prop:=∀ b o,H b=some o→H' b=some o
theorem Same.refl (H:Hp):Same H H:=fun _ _ h=>h
theorem Same.trans {H H1 H2:Hp} (a:Same H H1) (b:Same H1 H2):Same H H2:=fun c o h=>b c o (a c o h)
theorem Same.seq {K:PySem.W.Frag} {H H':Hp} {a:Addr} {xs:List V} (e:Same H H') (h:SqL K H a xs):SqL K H' a xs:=by
 rcases h with (h | ⟨o,h⟩) | h
 ·exact .inl (.inl (e _ _ h))
 ·exact .inl (.inr ⟨o,e _ _ h⟩)
 ·exact .inr h
end L2
set_option maxHeartbeats 4000000
namespace L2
open PySem PySem.Spec PyProof.Rows
structure ZbZ (X:Cx) (scope:Scope) (own fv:List Str) (ix:List Nat):Prop where
 kind:scope.kind=.function
 nocell:∀ y∈scope.names,y.2≠.cell
 names:∀ y∈scope.names,y.2=.local→scope.names.lookup y.1=some .local
 once:∀ y∈scope.names,y.2=.free→scope.names.lookup y.1=some .free
 outer:∀ y∈scope.names,y.2=.free→X.env.kindOf y.1=some .cell∨X.env.kindOf y.1=some .free
 isfree:∀ y∈fv,scope.names.lookup y=some .free
 slots:∀ (j:Nat) (y:Str),fv[j]?=some y→∃ i,ix[j]?=some i∧X.N[i]?=some y
 len:ix.length=fv.length
def ZI4 (sc:Scope) (N:List Str) (scope:Scope) (fv:List Str) (ix:List Nat):Bool:=
 scope.kind == .function && scope.names.all (fun y=>y.2 != .cell && (y.2 != .local || scope.names.lookup y.1 == some .local) && (y.2 != .free || (scope.names.lookup y.1 == some .free && (sc.names.lookup y.1 == some .cell || sc.names.lookup y.1 == some .free)))) &&
  fv.all (fun y=>scope.names.lookup y == some .free) && ix.length == fv.length && (List.range fv.length).all fun j=>((ix[j]?).bind fun i=>N[i]?) == fv[j]?
theorem Za1 {X:Cx} {scope sc:Scope} {N own fv:List Str} {ix:List Nat} (hs:X.env.scope=sc) (hN:X.N=N) (h:ZI4 sc N scope fv ix=true):ZbZ X scope own fv ix:=by
 unfold ZI4 at h
 simp only [Bool.and_eq_true,List.all_eq_true,beq_iff_eq,bne_iff_ne,Bool.or_eq_true,ne_eq] at h
 obtain ⟨⟨⟨⟨h1,h2⟩,h3⟩,h4⟩,h5⟩:=h
 refine ⟨h1,fun y hy=>(h2 y hy).1.1,fun y hy e=>((h2 y hy).1.2).resolve_left fun z=>z e,fun y hy e=>(((h2 y hy).2).resolve_left fun z=>z e).1,fun y hy e=>?_,h3,fun j y e=>?_,h4⟩
 ·have z:=(((h2 y hy).2).resolve_left fun z=>z e).2
  unfold Env.kindOf
  rw [hs]
  exact z
 ·have hj:j < fv.length:=(List.getElem?_eq_some_iff.mp e).1
  have z:=h5 j (List.mem_range.mpr hj)
  rw [e] at z
  cases q:ix[j]? with
  | none=>rw [q] at z;cases z
  | some i=>
   rw [q] at z
   exact ⟨i,rfl,by rw [hN];exact z⟩
theorem Zui {names:List (Str×NameKind)} {x:Str} {k:NameKind} (h:names.lookup x=some k):(x,k)∈names:=by
 induction names with
 | nil=>simp at h
 | cons p r ih=>
  obtain ⟨n,k'⟩:=p
  rw [List.lookup_cons] at h
  cases e:x == n with
  | true=>
   rw [e] at h
   have:=eq_of_beq e
   cases h
   rw [this]
   exact List.mem_cons_self
  | false=>
   rw [e] at h
   exact List.mem_cons_of_mem _ (ih h)
theorem Zd4 {scope:Scope} {env:Env}:∀ (names:List (Str×NameKind)) (x:Str),
    (names.map fun (n,k)=>if (k == NameKind.free && env.scope.kind == .function && env.kindOf n == some .cell) then (n,NameKind.cell) else (n,k)).lookup x =
      (names.lookup x).map fun k=>if (k == NameKind.free && env.scope.kind == .function && env.kindOf x == some .cell) then NameKind.cell else k
  | [],_=>rfl
  | (n,k)::r,x=>by
    have ih:=Zd4 (scope:=scope) (env:=env) r x
    show List.lookup x ((if (k == NameKind.free && env.scope.kind == .function && env.kindOf n == some .cell)=true then (n,NameKind.cell) else (n,k))::_)=_
    cases e:x == n with
    | true=>
      have e':=eq_of_beq e
      subst e'
      by_cases hc:(k == NameKind.free && env.scope.kind == .function && env.kindOf x == some .cell)=true
      · rw [if_pos hc,List.lookup_cons,List.lookup_cons,e]
        show some NameKind.cell=Option.map _ (some k)
        rw [Option.map_some,if_pos hc]
      · rw [if_neg hc,List.lookup_cons,List.lookup_cons,e]
        show some k=Option.map _ (some k)
        rw [Option.map_some,if_neg hc]
    | false=>
      by_cases hc:(k == NameKind.free && env.scope.kind == .function && env.kindOf n == some .cell)=true
      · rw [if_pos hc,List.lookup_cons,List.lookup_cons,e]
        exact ih
      · rw [if_neg hc,List.lookup_cons,List.lookup_cons,e]
        exact ih
theorem Zn4 (env:Env):∀ (names:List (Str×NameKind)) (acc:List (Str×Addr)),
    (∀ y∈names,y.2=.free→∃ c,env.cells.lookup y.1=some c)→
    ∃ cl,(forIn names acc fun (x:Str×NameKind) (cs:List (Str×Addr))=>(if (x.2 == NameKind.free)=true then do let c ← cellOf env x.1;pure (ForInStep.yield ((x.1,c)::cs)) else pure (ForInStep.yield cs):Sem (ForInStep (List (Str×Addr)))))=pure cl∧
      (∀ y c,(y,c)∈cl→(y,c)∈acc∨(env.cells.lookup y=some c∧(y,NameKind.free)∈names))∧
      (∀ y,(∃ c,(y,c)∈acc)∨(y,NameKind.free)∈names→∃ c,(y,c)∈cl)
  | [],acc,_=>⟨acc,rfl,fun y c h=>.inl h,fun y h=>h.elim (fun z=>z) fun z=>nomatch z⟩
  | (n,k)::r,acc,h=>by
    rw [List.forIn_cons]
    by_cases hk:k=.free
    · subst hk
      obtain ⟨c,hc⟩:=h (n,.free) List.mem_cons_self rfl
      obtain ⟨cl,e,h1,h2⟩:=Zn4 env r ((n,c)::acc) fun y hy=>h y (List.mem_cons_of_mem _ hy)
      refine ⟨cl,?_,fun y c' hm=>?_,fun y hy=>h2 y ?_⟩
      · simp only [beq_self_eq_true,if_true]
        have:cellOf env n=pure c:=by unfold cellOf;rw [hc]
        rw [this,pure_bind,pure_bind]
        exact e
      · rcases h1 y c' hm with z | ⟨z1,z2⟩
        · rcases List.mem_cons.mp z with z | z
          · cases z
            exact .inr ⟨hc,List.mem_cons_self⟩
          · exact .inl z
        · exact .inr ⟨z1,List.mem_cons_of_mem _ z2⟩
      · rcases hy with ⟨c',z⟩ | z
        · exact .inl ⟨c',List.mem_cons_of_mem _ z⟩
        · rcases List.mem_cons.mp z with z | z
          · cases z
            exact .inl ⟨c,List.mem_cons_self⟩
          · exact .inr z
    · obtain ⟨cl,e,h1,h2⟩:=Zn4 env r acc fun y hy=>h y (List.mem_cons_of_mem _ hy)
      have hb:(k == NameKind.free)=false:=by simpa using hk
      refine ⟨cl,?_,fun y c' hm=>?_,fun y hy=>h2 y ?_⟩
      · simp only [hb,Bool.false_eq_true,if_false]
        rw [pure_bind]
        exact e
      · rcases h1 y c' hm with z | ⟨z1,z2⟩
        · exact .inl z
        · exact .inr ⟨z1,List.mem_cons_of_mem _ z2⟩
      · rcases hy with z | z
        · exact .inl z
        · rcases List.mem_cons.mp z with z | z
          · cases z
            exact absurd rfl hk
          · exact .inr z
theorem ZrL {l:List (Str×Addr)} {x:Str} {c:Addr} (h:l.lookup x=some c):(x,c)∈l:=by
 induction l with
 | nil=>simp at h
 | cons p r ih=>
  obtain ⟨n,k'⟩:=p
  rw [List.lookup_cons] at h
  cases e:x == n with
  | true=>
   rw [e] at h
   have:=eq_of_beq e
   cases h
   rw [this]
   exact List.mem_cons_self
  | false=>
   rw [e] at h
   exact List.mem_cons_of_mem _ (ih h)
theorem ZrJ {l:List (Str×Addr)} {x:Str} {c:Addr} (h:(x,c)∈l):∃ c',l.lookup x=some c':=by
 induction l with
 | nil=>cases h
 | cons p r ih=>
  obtain ⟨n,k'⟩:=p
  rw [List.lookup_cons]
  cases e:x == n with
  | true=>exact ⟨k',rfl⟩
  | false=>
   rcases List.mem_cons.mp h with z | z
   ·cases z
    rw [beq_self_eq_true] at e
    cases e
   ·exact ih z
theorem ZuG {scope:Scope} {env:Env} (h:∀ y∈scope.names,y.2=.free→∃ c,env.cells.lookup y.1=some c) :
  ∃ cl,closureFor scope env=pure cl∧(∀ y c,cl.lookup y=some c→env.cells.lookup y=some c∧(y,NameKind.free)∈scope.names)∧(∀ y,(y,NameKind.free)∈scope.names→∃ c,cl.lookup y=some c):=by
 obtain ⟨cl,e,h1,h2⟩:=Zn4 env scope.names [] h
 refine ⟨cl,?_,fun y c hl=>?_,fun y hy=>?_⟩
 ·unfold closureFor
  refine Eq.trans (b:=((forIn scope.names [] fun (x:Str×NameKind) (cs:List (Str×Addr))=>(if (x.2 == NameKind.free)=true then do let c ← cellOf env x.1;pure (ForInStep.yield ((x.1,c)::cs)) else pure (ForInStep.yield cs):Sem (ForInStep (List (Str×Addr))))) >>= fun cs=>pure cs)) rfl ?_
  rw [e]
  rfl
 ·rcases h1 y c (ZrL hl) with z | z
  ·cases z
  ·exact z
 ·obtain ⟨c,hc⟩:=h2 y (.inr hy)
  exact ZrJ hc
def ZaQ (X:Cx) (scope:Scope) (cl:List (Str×Addr)) (M:List Str) (fp:List Addr) (C:Addr) (s:Shared) (H:Hp):Cx where
 prog:=X.prog
 w:=X.w
 K:=X.K
 mg:=X.mg
 base:=X.base
 A:=X.A
 N:=M
 s₀:=s
 H₀:=H
 env:=compEnvC scope cl C X.env
 outer:=X.stack
 stack:=X.stack
 ex:=fp
 fn:=fun y=>scope.names.lookup y == some .local
 calm:=X.calm
 pn:=[]
 xe:=fun _ _=>False
def PIf (X:Cx) (ifs:List Expr) (t:TT):Prop:=
 ∀ (pins:List (Addr×Obj)) (s:Shared) (σ:St) (H:Hp) (Q:Bool→Hp→Prop),Inv X pins σ H s→t σ H Q→
  wpAny (model X.prog X.w) X.A (forIn ifs true fun c r=>if r=true then do let ok ← isTrue c X.env (eval c X.env);pure (ForInStep.yield ok) else pure (ForInStep.yield r)) (TP X pins σ Q) X.xe s
def tYes:TT:=fun _ H Q=>Q true H
theorem ZgE {X:Cx}:PIf X [] tYes:=fun _ _ _ H _ I h=>wpAny_tests_nil ⟨H,I,h⟩
theorem ZJL {X:Cx} {c:Expr} {t:TT} (h:PT X c t):PIf X [c] t:=by
 try unfold PE at *;try unfold PA at *
 exact fun pins s σ H Q I hw=>wpAny_tests_one (h pins s σ H Q I hw)
def ZKO (wi:TI) (k:Nat) (ix:List Nat) (g:TG) (tt:TT) (te:TE):TE:=fun σ H Q=>wi σ H fun J H1=>∀ D,H1 D=none→
 ∃ W:Nat→Nat→St→List V→Hp→Prop,(∃ m,W 0 m (List.replicate k none++ix.map fun i=>(σ[i]?).getD none) [] (upd H1 D (.lst [])))∧
  ∀ i m σ' ys H',W i m σ' ys H'→H' D=some (.lst ys)∧((J.stop i H'∧Q (.ref D) H')∨(J.go i H'∧ys.length < sizeLine∧
   ∀ x H2,J.yld i H' x H2→g x σ' H2 fun σ2 H3=>tt σ2 H3 fun b H4=>
    if b=true then te σ2 H4 fun v H5=>H5 D=some (.lst ys)∧∃ m',m' < m∧W (i + 1) m' σ2 (ys++[v]) (upd H5 D (.lst (ys++[v])))
    else ∃ m',m' < m∧W (i + 1) m' σ2 ys H4))
section
variable {prog:Program} {w:World} {A:Around} {R:Result→Shared→Prop} {s:Shared}
theorem Zdk {elt target iter:Expr} {ifs:List Expr} {scope:Scope} {pos:Pos} {it acc:Value} {env:Env} (I:Nat→Shared→Prop)
  (turn:∀ n s,I n s→wpAny (model prog w) A (pyNext it) (fun r s₁=>match r with
   | none=>R (.ok .next) s₁
   | some v=>wpAny (model prog w) A (letOwnedTupleGo target it v) (fun _ s₁'=>wpAny (model prog w) A (assign target env v) (fun _ s₂=>
     wpAny (model prog w) A (forIn ifs true fun c r=>if r=true then do let ok ← isTrue c env (eval c env);pure (ForInStep.yield ok) else pure (ForInStep.yield r)) (fun ok s₃=>
      if ok=true then wpAny (model prog w) A (eval elt env) (fun x s₄=>
       wpAny (model prog w) A (call (.builtin "list.append") [acc,x]) (fun _ s₅=>∃ m,m < n∧I m s₅) (fun _ _=>False) s₄) (fun _ _=>False) s₃
      else ∃ m,m < n∧I m s₃) (fun _ _=>False) s₂) (fun _ _=>False) s₁') (fun _ _=>False) s₁) (fun _ _=>False) s)
  (n:Nat) (h:I n s) :
  codeAny (model prog w) A (.compLoop (.ListComp elt [⟨target,iter,ifs,0⟩] scope pos) 0 it acc env) R s:=by
 refine codeAny_loop rfl I (fun n s hI=>?_) n h
 show wpAny _ A ((compTurn (.ListComp elt [⟨target,iter,ifs,0⟩] scope pos) 0 it acc env).onRaise (fun x=>do noteFrame x env;theTreesLotGoes x)) _ _ s
 refine wpAny_noted ?_
 rw [compTurn_list]
 refine wpAny_bind (wpAny_standAt (wpAny_bind (wpAny_mono (turn n s hI) (fun r s₁ h₁=>?_) fun _ _ z=>z.elim)))
 cases r with
 | none=>exact wpAny_pure h₁
 | some v=>
  refine wpAny_bind (wpAny_mono h₁ (fun _ s₁' h₁'=>?_) fun _ _ z=>z.elim)
  refine wpAny_bind (wpAny_mono h₁' (fun _ s₂ h₂=>wpAny_bind (wpAny_mono h₂ (fun ok s₃ h₃=>?_) fun _ _ z=>z.elim)) fun _ _ z=>z.elim)
  cases ok with
  | false=>exact wpAny_pure ⟨rfl,h₃⟩
  | true=>
   exact wpAny_bind (wpAny_bind (wpAny_mono h₃ (fun x s₄ h₄=>wpAny_bind (wpAny_mono h₄ (fun _ s₅ h₅=>wpAny_pure (wpAny_pure ⟨rfl,h₅⟩)) fun _ _ z=>z.elim)) fun _ _ z=>z.elim))
end
section
variable {X:Cx} {pins:List (Addr×Obj)} {σ:St} {H H2:Hp} {s:Shared} {scope:Scope} {own fv:List Str} {ix:List Nat} {cl:List (Str×Addr)}
theorem ZbZ.cells {own fv:List Str} (S:ZbZ X scope own fv ix) (ok:X.Ok):∀ y∈scope.names,y.2=.free→∃ c,X.env.cells.lookup y.1=some c:=
 fun y hy e=>ok.has y.1 (S.outer y hy e)
theorem ZzH (S:ZbZ X scope own fv ix) (ok:X.Ok) {x:Str} (h:(compEnvC scope cl C X.env).kindOf x=some .cell∨(compEnvC scope cl C X.env).kindOf x=some .free):(x,NameKind.free)∈scope.names:=by
 have e:(compEnvC scope cl C X.env).kindOf x=(scope.names.lookup x).map fun k=>if (k == NameKind.free && X.env.scope.kind == .function && X.env.kindOf x == some .cell) then NameKind.cell else k:=Zd4 (scope:=scope) _ _
 cases q:scope.names.lookup x with
 | none=>
  rw [e,q] at h
  rcases h with h | h <;> cases h
 | some k=>
  have m:=Zui q
  rw [e,q] at h
  by_cases hk:k=.free
  ·subst hk;exact m
  ·have hb:(k == NameKind.free)=false:=by simpa using hk
   simp only [Option.map_some,hb,Bool.false_and,Bool.false_eq_true,if_false] at h
   rcases h with h | h
   ·cases h
    exact absurd rfl (S.nocell _ m)
   ·cases h
    exact absurd rfl hk
theorem ZzI (S:ZbZ X scope own fv ix) (ok:X.Ok) {x:Str} (h:(x,NameKind.free)∈scope.names):(compEnvC scope cl C X.env).kindOf x=some .cell∨(compEnvC scope cl C X.env).kindOf x=some .free:=by
 have e:(compEnvC scope cl C X.env).kindOf x=(scope.names.lookup x).map fun k=>if (k == NameKind.free && X.env.scope.kind == .function && X.env.kindOf x == some .cell) then NameKind.cell else k:=Zd4 (scope:=scope) _ _
 rw [e,S.once _ h rfl]
 by_cases hc:(NameKind.free == NameKind.free && X.env.scope.kind == .function && X.env.kindOf x == some .cell)=true
 ·left;simp only [Option.map_some,hc,if_true]
 ·right;simp only [Option.map_some,hc,if_false];rfl
theorem ZKs (S:ZbZ X scope own fv ix) (I:Inv X pins σ H s) {fp:List Addr} (hf:∀ b∈fp,FpOk X pins H2 b) (hlt:∀ b∈fp,b < s.heap.objs.size)
  (hcl:∀ y c,cl.lookup y=some c→X.env.cells.lookup y=some c∧(y,NameKind.free)∈scope.names) (hcl2:∀ y,(y,NameKind.free)∈scope.names→∃ c,cl.lookup y=some c) :
  (ZaQ X scope cl (own++fv) fp s.heap.objs.size s H).Ok where
 mod:=I.ok.mod
 kind:=S.kind
 glob:=I.ok.glob
 blt:=I.ok.blt
 above:=Nat.le_refl _
 inj:=fun x y c h1 h2=>I.ok.inj x y c (hcl x c h1).1 (hcl y c h2).1
 has:=fun x h=>hcl2 x (ZzH S I.ok h)
 cab:=fun x c h1 h2=>by
  have m:=(hcl x c h2).2
  have h1':(scope.names.lookup x == some .local)=true:=h1
  rw [S.once _ m rfl] at h1'
  cases h1'
 hd:=I.ok.hd
 frames:=I.ok.frames
 stk:=.inl rfl
 exf:=fun b hb=>⟨Nat.ne_of_lt (hlt b hb),fun x c e=>(hf b hb).2.2.2.2.1 x c (hcl x c e).1⟩
 bs:=I.bs
 bsz:=Nat.le_trans I.ok.bsz I.sz
 noex:=fun b o e hb=>by
  rcases (hf b hb).2.2.2.1 with z | z
  ·exact I.ok.noex b o e z
  ·exact absurd (Nat.lt_of_lt_of_le (Heap.lt_size e) (Nat.le_trans I.ok.bsz z)) (Nat.lt_irrefl _)
 exfs:=fun b hb z=>by
  rcases List.mem_cons.mp (I.stkSub b z) with e | e
  ·exact (hf b hb).2.1 e
  ·exact (hf b hb).2.2.1 e
 funs:=I.stack
 frf:=I.stkFree
theorem ZGu {σ:St} {i:Nat} {v:V} (h:(σ[i]?).getD none=some v):σ[i]?=some (some v):=by
 cases e:σ[i]? with
 | none=>rw [e] at h;cases h
 | some o=>rw [e] at h;exact congrArg some h
theorem ZuE (S:ZbZ X scope own fv ix) (I:Inv X pins σ H s) {fp:List Addr} (hf:∀ b∈fp,FpOk X pins H2 b) (hlt:∀ b∈fp,b < s.heap.objs.size)
  (hcl:∀ y c,cl.lookup y=some c→X.env.cells.lookup y=some c∧(y,NameKind.free)∈scope.names) (hcl2:∀ y,(y,NameKind.free)∈scope.names→∃ c,cl.lookup y=some c)
  {h1:Heap} {t1:Nat} {m:Str→Option Value} (hns:h1.Ns s.heap.objs.size m) (old:∀ b o,s.heap.get? b=some o→h1.get? b=some o) :
  Inv (ZaQ X scope cl (own++fv) fp s.heap.objs.size s H) [] (List.replicate own.length none++ix.map fun i=>(σ[i]?).getD none) H {s with heap:=h1,toks:=t1}:=by
 refine ⟨ZKs S I hf hlt hcl hcl2,rfl,I.bare,Un.kept old,⟨m,hns,fun i x v e1 e2 e3=>?_⟩,fun x c e=>?_,I.hok.fresh (Nat.le_refl _),fun x c e=>I.freeC x c (hcl x c e).1,fun p hp=>(nomatch hp),I.hok.kept old,?_⟩
 ·have e1':(own++fv)[i]?=some x:=e1
  by_cases hi:i < own.length
  ·rw [List.getElem?_append_left (by rw [List.length_replicate];exact hi),List.getElem?_replicate,if_pos hi] at e2
   cases e2
  ·have hi':own.length≤i:=Nat.not_lt.mp hi
   rw [List.getElem?_append_right hi'] at e1'
   rw [List.getElem?_append_right (by rw [List.length_replicate];exact hi'),List.length_replicate,List.getElem?_map] at e2
   obtain ⟨j,hj,hN⟩:=S.slots _ x e1'
   rw [hj] at e2
   have e2':σ[j]?=some (some v):=ZGu (Option.some.inj e2)
   have hfree:(x,NameKind.free)∈scope.names:=Zui (S.isfree x (List.mem_of_getElem? e1'))
   have hko:=S.outer _ hfree rfl
   obtain ⟨m0,hn0,hl0⟩:=I.loc
   obtain ⟨u,r,l⟩:=hl0 j x v hN e2' (hko.elim (fun z=>.inr (.inl z)) fun z=>.inr (.inr z))
   refine ⟨u,r,.inr ⟨ZzI S I.ok hfree,?_⟩⟩
   rcases l with ⟨k,_⟩ | ⟨_,c,ec,z⟩
   ·have k':X.env.kindOf x=some .local:=k
    rcases hko with q | q <;> (rw [q] at k';cases k')
   ·obtain ⟨c',hc'⟩:=hcl2 x hfree
    have ec':=(hcl x c' hc').1
    rw [ec] at ec'
    cases ec'
    obtain ⟨o,ho,hd⟩:=z
    exact ⟨c,hc',o,old c o ho,hd⟩
 ·obtain ⟨v,o,ho,hd⟩:=I.cell x c (hcl x c e).1
  exact ⟨v,o,old c o ho,hd⟩
 ·show (List.replicate own.length none++ix.map fun i=>(σ[i]?).getD none:St).length=(own++fv).length
  rw [List.length_append,List.length_append,List.length_replicate,List.length_map,S.len]
theorem ZDr {H':Hp} {σ':St} {s':Shared} {h'':Heap} {fp:List Addr} (I:Inv X pins σ H s) (hf:∀ b∈fp,FpOk X pins H2 b)
  (I':Inv (ZaQ X scope cl (own++fv) fp s.heap.objs.size s H) [] σ' H' s') (hs:Heap.SameBut s.heap.objs.size s'.heap h''):Inv X pins σ H' {s' with heap:=h''}:=by
 have ne:∀ b o,s.heap.get? b=some o→b≠s.heap.objs.size:=fun b o e=>Nat.ne_of_lt (Heap.lt_size e)
 have B:Un (frs X.stack) fp H H' s.heap s'.heap:=I'.base
 refine I.call' (ch:=fp) (s':={s' with heap:=h''}) I'.os ⟨fun b o e n hb hx=>?_,fun b o e n hb hx=>?_,B.free,fun b o e hx=>?_,B.tups,B.frzs,B.tbls⟩ (fun b u e=>?_) I'.bare fun b hb=>⟨(hf b hb).2.2.2.1,(hf b hb).2.1,(hf b hb).2.2.2.2.1,(hf b hb).2.2.2.2.2⟩
 ·exact (hs.2 b (ne b o e)).trans (B.keep b o e n hb hx)
 ·obtain ⟨sl,e1⟩:=B.slot b o e n hb hx
  exact ⟨sl,(hs.2 b (ne b o e)).trans e1⟩
 ·obtain ⟨o',e1⟩:=B.there b o e hx
  exact ⟨o',(hs.2 b (ne b o e)).trans e1⟩
 ·have fr:H' s.heap.objs.size=none:=I'.free
  refine (I'.hok b u e).stay (fun c w' hc q=>(hs.2 c ?_).trans q) (fun _ q=>q) fun _ _ q=>q
  rintro rfl
  rcases hc with z | z
  ·rw [← z,fr] at e;cases e
  ·rw [fr] at z;cases z
theorem ZgH {elt target iter:Expr} {ifs:List Expr} {pos:Pos} {wi:TI} {g:TG} {tt:TT} {te:TE} (S:ZbZ X scope own fv ix) (hc:X.calm=true) (hi:PI X target iter wi)
  (hg:∀ cl fp C s H,PG (ZaQ X scope cl (own++fv) fp C s H) target g) (ht:∀ cl fp C s H,PIf (ZaQ X scope cl (own++fv) fp C s H) ifs tt) (he:∀ cl fp C s H,PE (ZaQ X scope cl (own++fv) fp C s H) elt te)
  (hs:∀ x,foldedSetIterable iter X.env x=pure x:=by intro _;rfl):PE X (.ListComp elt [⟨target,iter,ifs,0⟩] scope pos) (ZKO wi own.length ix g tt te):=by
 try unfold PE at *
 intro pins s σ H Q I h
 rw [eval_ListComp]
 obtain ⟨cl,hclos,hcl,hcl2⟩:=ZuG (scope:=scope) (env:=X.env) (S.cells I.ok)
 refine wpAny_comprehension_free (use:=none) rfl hs hclos S.kind S.names (thn (hi pins s σ H _ I h) fun v s1 h1=>thn h1 fun itv s2 h2=>?_)
 obtain ⟨it,fp,tn,J,H2,e,I2,T,st2,f2,hW⟩:=h2
 subst e
 have hlt2:∀ b∈fp,b < s2.heap.objs.size:=fun b hb=>by
  obtain ⟨o,e,_⟩:=T.obj _ _ st2 b hb
  exact Heap.lt_size e
 obtain ⟨W,⟨m0,w0⟩,turn⟩:=hW s2.heap.objs.size I2.fresh
 have I3:Inv X pins σ (upd H2 s2.heap.objs.size (.lst [])) {s2 with heap:=s2.heap.push {cls:=.type "list",data:=.seq ([]:List Value).toArray}}:=I2.lnew (t':=s2.toks) (its:=[]) .nil (Nat.zero_le _)
 refine wpAny_newObj_type ?_
 generalize hs3:({s2 with heap:=s2.heap.push {cls:=.type "list",data:=.seq ([]:List Value).toArray}}:Shared)=s3 at I3
 have hsz3:s3.heap.objs.size=s2.heap.objs.size + 1:=by rw [← hs3];exact Heap.size_push ..
 have up3:∀ b o,s2.heap.get? b=some o→s3.heap.get? b=some o:=fun b o e=>by rw [← hs3];exact Heap.get?_push_of_some _ e
 refine wpAny_newFunctionEnv (fun y hy=>S.nocell y hy) (by intro y hy;simp at hy) (fun h4 hns4 hsb4=>?_) S.kind
 have old4:∀ b o,s3.heap.get? b=some o→h4.get? b=some o:=fun b o e=>hsb4.extBut b o (Nat.ne_of_lt (Heap.lt_size e)) (Heap.get?_push_of_some _ e)
 have hlt3:∀ b∈fp,b < s3.heap.objs.size:=fun b hb=>by rw [hsz3];exact Nat.lt_succ_of_lt (hlt2 b hb)
 have I4:=ZuE (t1:=s3.toks + ([]:List (Str×Value)).length) S I3 f2 hlt3 hcl hcl2 hns4 old4
 have st4:tn 0 h4:=T.keep _ _ _ st2 fun b hb o e=>old4 b o (up3 b o e)
 have fr4:∀ b∈fp,(upd H2 s2.heap.objs.size (.lst [])) b=none:=fun b hb=>by rw [Zc (Nat.ne_of_lt (hlt2 b hb))];exact (f2 b hb).1
 have stat:∀ {H':Hp},(∀ b∈fp,H' b=none)→∀ b∈fp,FpOk (ZaQ X scope cl (own++fv) fp s3.heap.objs.size s3 (upd H2 s2.heap.objs.size (.lst []))) [] H' b:=fun hn b hb=>
  ⟨hn b hb,Nat.ne_of_lt (hlt3 b hb),(I4.ok.exfs b hb),.inl hb,fun x c e=>(f2 b hb).2.2.2.2.1 x c (hcl x c e).1,fun p hp=>(nomatch hp)⟩
 have loop:codeAny (model X.prog X.w) X.A (.compLoop (.ListComp elt [⟨target,iter,ifs,0⟩] scope pos) 0 (.ref it) (.ref s2.heap.objs.size) (compEnvC scope cl s3.heap.objs.size X.env))
   (compPost (model X.prog X.w) X.A X.xe none (EP X pins σ Q) (.ref s2.heap.objs.size) s3.heap.objs.size) {s3 with heap:=h4,toks:=s3.toks + ([]:List (Str×Value)).length}:=by
  refine Zdk (fun n s'=>∃ i σ' ys H',Inv (ZaQ X scope cl (own++fv) fp s3.heap.objs.size s3 (upd H2 s2.heap.objs.size (.lst []))) [] σ' H' s'∧tn i s'.heap∧(∀ b∈fp,H' b=none)∧W i n σ' ys H') ?_ m0 ⟨0,_,[],_,I4,st4,fr4,w0⟩
  rintro n s5 ⟨i,σ5,ys,H5,I5,st5,fr5,w5⟩
  obtain ⟨hD,next⟩:=turn i n σ5 ys H5 w5
  rcases next with ⟨stop,q⟩ | ⟨go,hys,step⟩
  ·refine thn (T.done (ZaQ X scope cl (own++fv) fp s3.heap.objs.size s3 (upd H2 s2.heap.objs.size (.lst []))) rfl rfl rfl hc i [] s5 σ5 H5 (fun _ _=>False) I5 (stat fr5) st5 stop) fun r s6 ⟨hr,I6⟩=>?_
   subst hr
   obtain ⟨m6,hn6,_⟩:=id I6.loc
   exact ⟨m6,hn6,fun h7 hs7=>⟨.ref s2.heap.objs.size,H5,ZDr I3 f2 I6 hs7,rfl,q⟩⟩
  ·refine thn (T.item (ZaQ X scope cl (own++fv) fp s3.heap.objs.size s3 (upd H2 s2.heap.objs.size (.lst []))) rfl rfl rfl hc i [] s5 σ5 H5 (fun _ _=>False) I5 (stat fr5) st5 go) fun r s6 ⟨u,hr,h6⟩=>?_
   subst hr
   refine thn h6 fun _ s7 ⟨x,H7,I7,r7,y7,st7,fr7⟩=>?_
   have I7':=I7.pinned (stat fr7) (T.obj _ _ st7)
   refine thn (hg _ _ _ _ _ _ s7 σ5 H7 x u _ I7' r7 (step x H7 y7)) fun _ s8 ⟨σ8,H8,I8,q8⟩=>?_
   refine thn (ht _ _ _ _ _ _ s8 σ8 H8 _ I8 q8) fun b s9 ⟨H9,I9,q9⟩=>?_
   have again:∀ {s10:Shared} {σ10:St} {H10:Hp} {ys':List V},Inv (ZaQ X scope cl (own++fv) fp s3.heap.objs.size s3 (upd H2 s2.heap.objs.size (.lst []))) ([]++Zua fp s7.heap) σ10 H10 s10→(∃ m',m' < n∧W (i + 1) m' σ10 ys' H10)→
     ∃ m,m < n∧∃ i σ' ys H',Inv (ZaQ X scope cl (own++fv) fp s3.heap.objs.size s3 (upd H2 s2.heap.objs.size (.lst []))) [] σ' H' s10∧tn i s10.heap∧(∀ b∈fp,H' b=none)∧W i m σ' ys H':=fun {s10 σ10 H10 ys'} I10 ⟨m',hm,w10⟩=>by
    refine ⟨m',hm,i + 1,σ10,ys',H10,I10.unpinned,T.keep _ _ _ st7 fun b hb o e=>(I10.pin (b,o) (List.mem_append_right _ (List.mem_append_right _ (Zc7 hb e)))).1,fun b hb=>?_,w10⟩
    obtain ⟨o,e,d⟩:=T.obj _ _ st7 b hb
    exact (I10.pin (b,o) (List.mem_append_right _ (List.mem_append_right _ (Zc7 hb e)))).2.1
   cases b with
   | false=>
    rw [if_neg (by decide)] at q9
    rw [if_neg (by decide)]
    exact again I9 q9
   | true=>
    rw [if_pos rfl] at q9
    rw [if_pos rfl]
    refine thn (he _ _ _ _ _ _ s9 σ8 H9 _ I9 q9) fun u9 s10 ⟨v9,H10,I10,r10,hD10,q10⟩=>?_
    refine thn (Zev (X:=ZaQ X scope cl (own++fv) fp s3.heap.objs.size s3 (upd H2 s2.heap.objs.size (.lst []))) _ s10 σ8 H10 (.ref s2.heap.objs.size) [v9] (.ref s2.heap.objs.size) [u9] (fun _ H11=>H11=upd H10 s2.heap.objs.size (.lst (ys++[v9]))) I10 rfl (.cons r10 .nil) ⟨_,ys,v9,rfl,rfl,hD10,hys,rfl⟩) fun _ s11 ⟨_,H11,I11,_,q11⟩=>?_
    subst q11
    exact again I11 q10
 exact codeAny_compStart_list loop (T.self _ _ _ _ _ st4 loop)
end
theorem ZuF {n:Nat} {lo:Int} (te:TE) {σ:St} {ix:List Nat} {H1:Hp} {D:Addr} {Q:Hp→Prop} (Pv:Nat→List V→Hp→Prop) (h0:Pv 0 [] (upd H1 D (.lst []))) (hn:n≤sizeLine)
  (hat:∀ i ys H',Pv i ys H'→H' D=some (.lst ys)∧ys.length≤i)
  (hs:∀ i ys H' (N:VK),i < n→Pv i ys H'→(∀ v H5,H5 D=some (.lst ys)→Pv (i + 1) (ys++[v]) (upd H5 D (.lst (ys++[v])))→N v H5)→te (some (.int (lo + (i:Nat)))::ix.map fun i=>(σ[i]?).getD none) H' N)
  (hd:∀ ys H',Pv n ys H'→Q H') :
  ∃ W:Nat→Nat→St→List V→Hp→Prop,(∃ m,W 0 m (List.replicate 1 none++ix.map fun i=>(σ[i]?).getD none) [] (upd H1 D (.lst [])))∧
   ∀ i m σ' ys H',W i m σ' ys H'→H' D=some (.lst ys)∧(((Itr lo n).stop i H'∧Q H')∨((Itr lo n).go i H'∧ys.length < sizeLine∧
    ∀ x H2,(Itr lo n).yld i H' x H2→ZEF 0 x σ' H2 fun σ2 H3=>tYes σ2 H3 fun b H4=>
     if b=true then te σ2 H4 fun v H5=>H5 D=some (.lst ys)∧∃ m',m' < m∧W (i + 1) m' σ2 (ys++[v]) (upd H5 D (.lst (ys++[v])))
     else ∃ m',m' < m∧W (i + 1) m' σ2 ys H4)):=by
 refine ⟨fun i m σ' ys H'=>i≤n∧m=n - i∧(∃ o,σ'=o::ix.map fun i=>(σ[i]?).getD none)∧Pv i ys H',⟨n,Nat.zero_le _,rfl,⟨none,rfl⟩,h0⟩,?_⟩
 rintro i m σ' ys H' ⟨hi,rfl,⟨o,rfl⟩,P⟩
 obtain ⟨a1,a2⟩:=hat i ys H' P
 refine ⟨a1,?_⟩
 by_cases hlt:i < n
 ·refine .inr ⟨hlt,by omega,fun x H2 hy=>?_⟩
  obtain ⟨rfl,rfl⟩:=hy
  exact hs i ys H2 _ hlt P fun v H5 h1 h2=>⟨h1,n - (i + 1),by omega,hlt,rfl,⟨_,rfl⟩,h2⟩
 ·have e:i=n:=by omega
  subst e
  exact .inl ⟨Nat.le_refl _,hd ys H' P⟩
end L2
namespace L2
open PySem PySem.Spec PyProof.Rows
section
variable {P:Program} {w:World} {H H':Hp} {h h':Heap} {a:Addr} {o:HO}
theorem Zam.there (x:Zam P w H h a o):∃ ob,h.get? a=some ob:=by
 cases o with
 | lst xs=>obtain ⟨_,_,_,_,e⟩:=x;exact ⟨_,e⟩
 | tup xs=>obtain ⟨_,_,_,o,e,_⟩:=x;exact ⟨_,e⟩
 | dK kvs=>obtain ⟨_,_,_,_,o,_,_,e,_⟩:=x;exact ⟨_,e⟩
 | dT kvs=>obtain ⟨_,_,_,_,o,_,_,e,_⟩:=x;exact ⟨_,e⟩
 | set S n=>obtain ⟨o,_,_,_,e,_⟩:=x;exact ⟨_,e⟩
 | ins C dx fs=>obtain ⟨_,_,_,e,_⟩:=x;exact ⟨_,e⟩
 | own y=>obtain ⟨_,e⟩:=x;exact ⟨_,e⟩
 | xd fs=>obtain ⟨_,⟨_,_,_,e,_⟩,_⟩:=x;exact ⟨_,e⟩
 | rng lo hi=>obtain ⟨_,_,_,e⟩:=x;exact ⟨_,e⟩
 | frz ob u=>obtain ⟨e,_⟩:=x;exact ⟨_,e⟩
 | tbl ps=>exact ⟨_,(show h.get? a=some _ from x)⟩
 | met f y=>exact ⟨_,(show h.get? a=some _ from x)⟩
 | ext φ=>obtain ⟨_,⟨_,e⟩,_⟩:=x;exact ⟨_,e⟩
theorem HOk.absent (x:HOk P w H h) (e:h.get? a=none):H a=none:=by
 cases q:H a with
 | none=>rfl
 | some u=>
  obtain ⟨ob,z⟩:=(x a u q).there
  rw [e] at z
  cases z
theorem HOk.hidden (x:HOk P w H h) {as:List Addr} (hf:∀ b∈as,H b=none):HOk P w H (PySem.W.hideAll h as):=fun a o e=>
 (x a o e).stay (fun b u hb q=>PySem.W.hideAll_get _ q fun hm=>by
  have z:=hf b hm
  rcases hb with rfl | hb
  ·rw [z] at e;cases e
  ·rw [z] at hb;cases hb) (fun _ q=>q) fun _ _ q=>q
end
abbrev Cx.hot (X:Cx) (A:Around):Cx:={X with A:=A,calm:=false}
theorem Cx.Ok.hot {X:Cx} (ok:X.Ok) {A:Around} (hf:A.frames=X.A.frames):(X.hot A).Ok:=
 ⟨ok.mod,ok.kind,ok.glob,ok.blt,ok.above,ok.inj,ok.has,ok.cab,fun z=>(nomatch z),hf.trans ok.frames,ok.stk,ok.exf,ok.bs,ok.bsz,ok.noex,ok.exfs,ok.funs,ok.frf⟩
abbrev Cx.bear (X:Cx) (pn:List (Addr×Obj)) (E:Value→Shared→Prop):Cx:={X with pn:=pn,xe:=E}
theorem Cx.Ok.bear {X:Cx} (ok:X.Ok) (pn:List (Addr×Obj)) (E:Value→Shared→Prop):(X.bear pn E).Ok:=
 ⟨ok.mod,ok.kind,ok.glob,ok.blt,ok.above,ok.inj,ok.has,ok.cab,ok.hd,ok.frames,ok.stk,ok.exf,ok.bs,ok.bsz,ok.noex,ok.exfs,ok.funs,ok.frf⟩
theorem Cx.Ok.unbear {X:Cx} {pn:List (Addr×Obj)} {E:Value→Shared→Prop} (ok:(X.bear pn E).Ok):X.Ok:=
 ⟨ok.mod,ok.kind,ok.glob,ok.blt,ok.above,ok.inj,ok.has,ok.cab,ok.hd,ok.frames,ok.stk,ok.exf,ok.bs,ok.bsz,ok.noex,ok.exfs,ok.funs,ok.frf⟩
section
variable {X:Cx} {pins pins':List (Addr×Obj)} {σ:St} {H:Hp} {s:Shared} {A:Around} {E:Value→Shared→Prop}
theorem Inv.hot (I:Inv X pins σ H s) (hf:A.frames=X.A.frames):Inv (X.hot A) pins σ H s:=⟨I.ok.hot hf,I.os,I.bare,I.base,I.loc,I.cell,I.free,I.freeC,I.pin,I.hok,I.len⟩
theorem Inv.cool (I:Inv (X.hot A) pins σ H s) (ok:X.Ok):Inv X pins σ H s:=⟨ok,I.os,I.bare,I.base,I.loc,I.cell,I.free,I.freeC,I.pin,I.hok,I.len⟩
theorem Inv.bear (I:Inv X pins σ H s) (E:Value→Shared→Prop):Inv (X.bear (X.pn++pins) E) [] σ H s:=
 ⟨I.ok.bear _ _,I.os,I.bare,I.base,I.loc,I.cell,I.free,I.freeC,fun p hp=>I.pin p (by rwa [List.append_nil] at hp),I.hok,I.len⟩
theorem Inv.unbear (I:Inv (X.bear (X.pn++pins) E) pins' σ H s):Inv X pins σ H s:=
 ⟨I.ok.unbear,I.os,I.bare,I.base,I.loc,I.cell,I.free,I.freeC,fun p hp=>I.pin p (List.mem_append_left _ hp),I.hok,I.len⟩
theorem SP.unbear {D:Ends} {f:Flow} {s':Shared} (h:SP (X.bear (X.pn++pins) E) [] D f s'):SP X pins D f s':=by
 cases f with
 | next=>obtain ⟨σ',H',I,q⟩:=h;exact ⟨σ',H',I.unbear,q⟩
 | brk=>obtain ⟨σ',H',I,q⟩:=h;exact ⟨σ',H',I.unbear,q⟩
 | cont=>obtain ⟨σ',H',I,q⟩:=h;exact ⟨σ',H',I.unbear,q⟩
 | ret u=>obtain ⟨v,σ',H',I,r,q⟩:=h;exact ⟨v,σ',H',I.unbear,r,q⟩
end
structure ZKC (P:Program) (w:World) (outer:List Env) (H H':Hp) (s:Shared) (e:Addr) (cls:Value) (s':Shared):Prop where
 os:s'.os=s.os
 bare:AllBare s'.gens
 un:Un (frs outer) [] H H' s.heap s'.heap
 ex:∃ B a0,Heap.FlyingW B outer e cls a0 s'.heap∧HOk P w H' B∧(∀ b o,s.heap.get? b=some o→H b=none→b ∉ frs outer→B.get? b=some o)∧(∀ b o,s.heap.get? b=some o→b ∉ frs outer→∃ o',B.get? b=some o')
def CXE (P:Program) (w:World):CXT:=fun outer H s E e s'=>∃ (a:Addr) (cls:Value) (H':Hp),e=.ref a∧ZKC P w outer H H' s a cls s'∧E cls none H'
section
variable {X:Cx} {pins:List (Addr×Obj)} {σ:St} {H:Hp} {s:Shared}
theorem ZCO (I:Inv X pins σ H s) (hex:X.ex=[]) {H':Hp} {h'':Heap}
  (kB:∀ b o,s.heap.get? b=some o→H b=none→b ∉ frs X.stack→h''.get? b=some o)
  (tB:∀ b o,s.heap.get? b=some o→b ∉ frs X.stack→∃ o',h''.get? b=some o')
  (sl:∀ b o,b∈X.fs→s.heap.get? b=some o→∃ sl,h''.get? b=some {o with slots:=sl})
  (fr:∀ b o,s.heap.get? b=some o→H b=none→H' b=none)
  (tups:∀ b xs,H b=some (.tup xs)→H' b=some (.tup xs)) (frzs:∀ b o u,H b=some (.frz o u)→H' b=some (.frz o u)) (tbls:∀ b ps,H b=some (.tbl ps)→∃ more,H' b=some (.tbl (ps++more))) :
  Un X.fs [] X.H₀ H' X.s₀.heap h'':=by
 have nx:∀ b:Addr,b ∉ X.ex:=fun b z=>by rw [hex] at z;cases z
 have nst:∀ b o,X.s₀.heap.get? b=some o→b ∉ X.fs→b ∉ frs X.stack:=fun b o e hb z=>by
  rcases List.mem_cons.mp (I.stkSub b z) with q | q
  ·have:=Heap.lt_size e
   rw [q] at this
   exact absurd (Nat.lt_of_lt_of_le this I.ok.above) (Nat.lt_irrefl _)
  ·exact hb q
 refine ⟨fun b o e n hb _=>kB b o (I.base.keep b o e n hb (nx b)) (I.base.free b o e n (nx b)) (nst b o e hb),fun b o e n hb _=>?_,fun b o e n _=>?_,fun b o e _=>?_,fun b xs e=>tups b xs (I.base.tups b xs e),fun b o u e=>frzs b o u (I.base.frzs b o u e),fun b ps e=>?_⟩
 ·obtain ⟨sl1,e1⟩:=I.base.slot b o e n hb (nx b)
  obtain ⟨sl2,e2⟩:=sl b _ hb e1
  exact ⟨sl2,e2⟩
 ·obtain ⟨o',e1⟩:=I.base.there b o e (nx b)
  exact fr b o' e1 (I.base.free b o e n (nx b))
 ·obtain ⟨o',e1⟩:=I.base.there b o e (nx b)
  by_cases hb:b∈X.fs
  ·obtain ⟨sl2,e2⟩:=sl b _ hb e1
   exact ⟨_,e2⟩
  ·exact tB b o' e1 (nst b o e hb)
 ·obtain ⟨m1,e1⟩:=I.base.tbls b ps e
  obtain ⟨m2,e2⟩:=tbls b _ e1
  exact ⟨m1++m2,by rw [e2,Array.append_assoc]⟩
end
section
variable {P:Program} {w:World} {K:PySem.W.Frag} {mg:Str→Option Value} {base:Heap} {N:List Str} {qual:Str} {scope:Scope} {f:Addr} {cd:Value} {A:Around} {outer:List Env} {s₀:Shared} {H₀:Hp} {E:XK}
theorem ZEa {pins:List (Addr×Obj)} {σ:St} {H:Hp} {s:Shared} {h':Heap} {e C:Addr} {vs:List Value}
  (I:Inv (cxOf (CXE P w) P w K mg base N qual scope f cd A outer s₀ H₀ E) pins σ H s) (hx:Heap.MadeExcOf s.heap h' e (.ref C) vs) (hE:E (.ref C) none H) :
  (cxOf (CXE P w) P w K mg base N qual scope f cd A outer s₀ H₀ E).xe (.ref e) {s with heap:=h'}:=by
 have hfree:∀ b∈frs (cxOf (CXE P w) P w K mg base N qual scope f cd A outer s₀ H₀ E).stack,H b=none:=I.stkFree
 have hin:∀ env∈(cxOf (CXE P w) P w K mg base N qual scope f cd A outer s₀ H₀ E).stack,∀ b,env.frame=some b→b∈frs (cxOf (CXE P w) P w K mg base N qual scope f cd A outer s₀ H₀ E).stack:=fun env he b hb=>List.mem_filterMap.mpr ⟨env,he,hb⟩
 have hB:∀ b o,s.heap.get? b=some o→b ∉ frs (cxOf (CXE P w) P w K mg base N qual scope f cd A outer s₀ H₀ E).stack→(PySem.W.hideAll s.heap (frs (cxOf (CXE P w) P w K mg base N qual scope f cd A outer s₀ H₀ E).stack)).get? b=some o:=fun b o q hb=>PySem.W.hideAll_get _ q hb
 show wpAny (model P w) (A.deeper (envOfC qual scope s₀.heap.objs.size f cd)) (leaving (envOfC qual scope s₀.heap.objs.size f cd) (.ref e)) (fun _ s''=>CXE P w outer H₀ s₀ E (.ref e) s'') (fun e' s''=>CXE P w outer H₀ s₀ E e' s'') {s with heap:=h'}
 refine wpAny_leaves_madeW (s:={s with heap:=h'}) (base:=PySem.W.hideAll s.heap (frs (cxOf (CXE P w) P w K mg base N qual scope f cd A outer s₀ H₀ E).stack)) (h:=s.heap) (L:=s₀.heap.objs.size) (outer:=outer) I.ok.frames rfl (fun b o q=>PySem.W.of_hideAll _ q) (PySem.W.funFrames_hide I.stack hin) hx fun h'' t x1 x2 x3 x4=>?_
 have x4':h'.UpToSlots h'':=x4
 have slots:∀ b o,b∈frs outer→s.heap.get? b=some o→∃ sl,h''.get? b=some {o with slots:=sl}:=fun b o hb q=>by
  obtain ⟨_,o',ho',hnf⟩:=I.funs.mem hb
  rw [q] at ho'
  cases ho'
  exact x4' b o (hx.keeps b o q) hnf
 refine ⟨e,.ref C,H,rfl,⟨I.os,I.bare,ZCO I rfl (fun b o q _ hb=>x1.1 b o (hB b o q hb)) (fun b o q hb=>⟨o,x1.1 b o (hB b o q hb)⟩) slots (fun _ _ _ n=>n) (fun _ _ z=>z) (fun _ _ _ z=>z) (fun b ps z=>⟨#[],by rw [z];simp⟩),_,_,x1,I.hok.hidden hfree,fun b o q n hb=>?_,fun b o q hb=>?_⟩,hE⟩
 ·have hst:b ∉ frs (cxOf (CXE P w) P w K mg base N qual scope f cd A outer s₀ H₀ E).stack:=fun z=>by
   rcases List.mem_cons.mp (I.stkSub b z) with q1 | q1
   ·have:=Heap.lt_size q
    rw [q1] at this
    exact absurd (Nat.lt_of_lt_of_le this I.ok.above) (Nat.lt_irrefl _)
   ·exact hb q1
  exact hB b o (I.base.keep b o q n hb (fun z=>nomatch z)) hst
 ·obtain ⟨o',e1⟩:=I.base.there b o q (fun z=>nomatch z)
  have hst:b ∉ frs (cxOf (CXE P w) P w K mg base N qual scope f cd A outer s₀ H₀ E).stack:=fun z=>by
   rcases List.mem_cons.mp (I.stkSub b z) with q1 | q1
   ·have:=Heap.lt_size q
    rw [q1] at this
    exact absurd (Nat.lt_of_lt_of_le this I.ok.above) (Nat.lt_irrefl _)
   ·exact hb q1
  exact ⟨o',hB b o' e1 hst⟩
theorem Zh:ZhI (CXE P w) (cxOf (CXE P w) P w K mg base N qual scope f cd A outer s₀ H₀ E) (fun _=>E):=by
 rintro pins σ H s e s' I ⟨a,cls,H',rfl,fl,hE⟩
 obtain ⟨B,a0,hfl,hok,kB,tB⟩:=fl.ex
 show wpAny (model P w) (A.deeper (envOfC qual scope s₀.heap.objs.size f cd)) (leaving (envOfC qual scope s₀.heap.objs.size f cd) (.ref a)) (fun _ s''=>CXE P w outer H₀ s₀ E (.ref a) s'') (fun e' s''=>CXE P w outer H₀ s₀ E e' s'') s'
 refine wpAny_leaves_onW (L:=s₀.heap.objs.size) (outer:=outer) I.ok.frames rfl hfl fun h'' x1 x2=>?_
 have sub:∀ b∈frs outer,b∈frs (cxOf (CXE P w) P w K mg base N qual scope f cd A outer s₀ H₀ E).stack:=fun b hb=>by
  show b∈List.filterMap (·.frame) (_::outer)
  rw [List.filterMap_cons]
  exact List.mem_cons_of_mem _ hb
 have slots:∀ b o,b∈frs outer→s.heap.get? b=some o→∃ sl,h''.get? b=some {o with slots:=sl}:=fun b o hb q=>by
  obtain ⟨_,o',ho',hnf⟩:=I.funs.mem hb
  rw [q] at ho'
  cases ho'
  obtain ⟨sl,e1⟩:=fl.un.slot b o q (I.stkFree b (sub b hb)) (sub b hb) (fun z=>nomatch z)
  obtain ⟨sl2,e2⟩:=x2 b _ e1 hnf
  exact ⟨sl2,e2⟩
 have nst:∀ b o,s₀.heap.get? b=some o→b ∉ frs outer→b ∉ frs (cxOf (CXE P w) P w K mg base N qual scope f cd A outer s₀ H₀ E).stack:=fun b o q hb z=>by
  rcases List.mem_cons.mp (I.stkSub b z) with q1 | q1
  ·have:=Heap.lt_size q
   rw [q1] at this
   exact absurd (Nat.lt_of_lt_of_le this I.ok.above) (Nat.lt_irrefl _)
  ·exact hb q1
 refine ⟨a,cls,H',rfl,⟨fl.os.trans I.os,fl.bare,ZCO I rfl (fun b o q n hb=>x1.1 b o (kB b o q n hb)) (fun b o q hb=>?_) slots (fun b o q n=>fl.un.free b o q n (fun z=>nomatch z)) fl.un.tups fl.un.frzs fl.un.tbls,B,a0,x1,hok,fun b o q n hb=>?_,fun b o q hb=>?_⟩,hE⟩
 ·obtain ⟨o',e1⟩:=tB b o q hb
  exact ⟨o',x1.1 b o' e1⟩
 ·exact kB b o (I.base.keep b o q n hb (fun z=>nomatch z)) (I.base.free b o q n (fun z=>nomatch z)) (nst b o q hb)
 ·obtain ⟨o',e1⟩:=I.base.there b o q (fun z=>nomatch z)
  exact tB b o' e1 (nst b o q hb)
end
structure ZhS (K:PySem.W.Frag) (C:Addr):Prop where
 exc:PySem.W.excIn K C [.type "ValueError",.type "Exception",.type "BaseException",.type "object"] "ValueError.__new__"=true
theorem ZLO {K:PySem.W.Frag} {C:Addr} {bmB:List Value} {newId:String} (q:PySem.W.excIn K C bmB newId=true) :
  ∃ bm N nm qn bs hdct sn sub ab col dd k0 k1 k2 k3 k5,K.lookup C=some (excClassObj nm qn C N bs bm hdct sn sub ab col dd k0 k1 k2 k3 k5 newId)∧PySem.W.nsOkIn K N=true∧PySem.W.nsIn K N "__init__"=some none∧PySem.W.tailIn K bmB bm=true:=by
 unfold PySem.W.excIn at q
 split at q
 ·rename_i dd cd sl ho
  split at q
  ·rename_i C' bm k0 k1 k2 k3 n k5 hm hs
   simp only [Bool.and_eq_true,beq_iff_eq,Bool.not_eq_true'] at q
   obtain ⟨⟨⟨⟨⟨rfl,rfl⟩,hdel⟩,ht⟩,hok⟩,hni⟩:=q
   obtain ⟨nm,bs,mro,ns,qn,hd,sn,sub,ab,col,del⟩:=cd
   dsimp only at hm hdel hok hni
   subst hm hdel
   have hsl:sl=#[k0,k1,k2,k3,some (.builtin n),k5]:=by
    obtain ⟨l⟩:=sl
    simp only at hs
    rw [hs]
   subst hsl
   exact ⟨bm,ns,nm,qn,bs,hd,sn,sub,ab,col,dd,k0,k1,k2,k3,k5,ho,hok,hni,ht⟩
  ·cases q
 ·cases q
theorem ZBJ {K:PySem.W.Frag} {N:Addr} (q:PySem.W.nsOkIn K N=true):∃ o,K.lookup N=some o:=by
 unfold PySem.W.nsOkIn at q
 split at q
 ·rename_i ho
  exact ⟨_,ho⟩
 ·cases q
def ZKK (E:XK) (C:Addr) (t:TA):TS:=fun _ σ H=>t σ H fun vs H1=>vs.length≤sizeLine∧E (.ref C) none H1
section
variable {P:Program} {w:World} {K:PySem.W.Frag} {mg:Str→Option Value} {base:Heap} {N:List Str} {qual:Str} {scope:Scope} {f:Addr} {cd:Value} {A:Around} {outer:List Env} {s₀:Shared} {H₀:Hp} {E:XK}
theorem Zcl {x:Str} {C:Addr} {e₀:Expr} {rest:List Expr} {t:TA} {np cpos pos:Pos} (hC:ZhS K C) (hg:Gl (cxOf (CXE P w) P w K mg base N qual scope f cd A outer s₀ H₀ E) x) (hm:mg x=some (.ref C))
  (ha:PA (cxOf (CXE P w) P w K mg base N qual scope f cd A outer s₀ H₀ E) (e₀::rest) t)
  (he:starEach (e₀::rest) (cxOf (CXE P w) P w K mg base N qual scope f cd A outer s₀ H₀ E).env=(false,eval e₀ (cxOf (CXE P w) P w K mg base N qual scope f cd A outer s₀ H₀ E).env)::starEach rest (cxOf (CXE P w) P w K mg base N qual scope f cd A outer s₀ H₀ E).env:=by rfl)
  (hplain:(backTo cpos (starEach rest (cxOf (CXE P w) P w K mg base N qual scope f cd A outer s₀ H₀ E).env)).any (·.1)=false:=by rfl) (hd:(x == ("__debug__":Str))=false:=by decide) :
  PS (cxOf (CXE P w) P w K mg base N qual scope f cd A outer s₀ H₀ E) (.Raise (some (.Call (.Name x np) (e₀::rest) [] cpos)) none pos) (ZKK E C t):=by
 try unfold PA at *;try unfold PS at *
 intro pins s σ H D I h
 obtain ⟨bm,N',nm,q,bs,hdct,sn,sub,ab,col,dd,k0,k1,k2,k3,k5,lk,hok,hni,ht⟩:=ZLO hC.exc
 obtain ⟨oN,lkN⟩:=ZBJ hok
 have hN:s.heap.Ns N' (s.heap.nsMap N'):=.of_isNs (PySem.W.isNs_of_in I.kIn hok)
 refine wpAny_Raise_call_subT (C:=C) (nm:=nm) (q:=q) (N:=N') (bs:=bs) (bm:=bm) (hdct:=hdct) (sn:=sn) (sub:=sub) (ab:=ab) (col:=col) (dd:=dd) (k0:=k0) (k1:=k1) (k2:=k2) (k3:=k3) (k5:=k5)
  PySem.F.excBase_ValueError (mN:=s.heap.nsMap N') ((PySem.W.tail_of_in I.kIn ht).hasType PySem.F.excBase_ValueError.hasBase) (I.ok.hd rfl) (by rw [he];show (false || (backTo cpos (starEach rest _)).any (·.1))=false;rw [hplain];rfl) (PySem.W.nsMap_none_of_in I.kIn hok hni) (ZjU I hg hm ⟨rfl,?_⟩ hd)
 have z:=ha cpos pins s σ H _ I h
 rw [he] at z ⊢
 refine Calls.evalArgs_plain (thn z fun us s1 ⟨vs,H1,I1,r,hv,q1⟩=>⟨rfl,(by rw [← r.length];exact hv),I1.kIn _ _ lk,hN.at' fun o e=>?_,PySem.W.tail_of_in I1.kIn ht,fun h' e hx=>ZEa I1 hx q1⟩)
 have e2:=I.kIn _ _ lkN
 rw [e] at e2
 cases e2
 exact I1.kIn _ _ lkN
end
end L2
namespace L2
open PySem PySem.Spec PyProof.Rows PySem.W
def Zka (a:Addr) (cls:Value) (h:Heap):Prop:=∃ oe vs,h.get? a=some oe∧oe.cls=cls∧oe.data=.fields vs
def xob (a:Addr) (cls:Value):HO:=.ext (Zka a cls)
theorem Zka.at {a:Addr} {cls:Value} {h h':Heap} (x:Zka a cls h) (k:∀ o,h.get? a=some o→h'.get? a=some o):Zka a cls h':=by
 obtain ⟨oe,vs,e,r⟩:=x
 exact ⟨oe,vs,k oe e,r⟩
theorem Inv.exc {X:Cx} {pins:List (Addr×Obj)} {σ:St} {H:Hp} {s:Shared} {a:Addr} {cls:Value} (I:Inv X pins σ H s) (e:H a=some (xob a cls)):Zka a cls s.heap:=(I.hok a _ e).1
theorem Inv.track {X:Cx} {pins:List (Addr×Obj)} {σ:St} {H:Hp} {s:Shared} {a:Addr} {o:HO} (I:Inv X pins σ H s) (hn:H a=none) (new:Zam X.prog X.w (upd H a o) s.heap a o)
  (h0:∀ b u,X.s₀.heap.get? b=some u→X.H₀ b=none→b ∉ X.ex→b≠a) (hL:X.env.locals≠a) (hc:∀ x c,X.env.cells.lookup x=some c→c≠a) (hp:∀ p∈X.pn++pins,p.1≠a):Inv X pins σ (upd H a o) s:=by
 refine ⟨I.ok,I.os,I.bare,⟨I.base.keep,I.base.slot,fun b u e n hx=>?_,I.base.there,fun b xs e=>?_,fun b u v e=>?_,fun b ps e=>?_⟩,I.loc,I.cell,?_,fun x c e=>?_,fun p z=>?_,fun b u e=>?_,I.len⟩
 ·rw [Zc (h0 b u e n hx)];exact I.base.free b u e n hx
 ·have z:=I.base.tups b xs e
  rw [Zc (Zd z hn)];exact z
 ·have z:=I.base.frzs b u v e
  rw [Zc (Zd z hn)];exact z
 ·obtain ⟨more,z⟩:=I.base.tbls b ps e
  exact ⟨more,by rw [Zc (Zd z hn)];exact z⟩
 ·rw [Zc hL];exact I.free
 ·rw [Zc (hc x c e)];exact I.freeC x c e
 ·obtain ⟨z1,z2,z3⟩:=I.pin p z
  exact ⟨z1,by rw [Zc (hp p z)];exact z2,z3⟩
 ·by_cases hb:b=a
  ·subst hb
   rw [Zb] at e
   cases e
   exact new
  ·rw [Zc hb] at e
   exact (I.hok b u e).stay (fun _ _ _ q=>q) (fun c q=>by rw [Zc (Zd q hn)];exact q) fun c xs q=>by rw [Zc (Zd q hn)];exact q
structure ZCI (K:Frag) (D:Addr):Prop where
 ty:typeIn K (.ref D)=some (.type "type")
 cl:(clsIn K D).isSome=true
 ba:subIn K (.ref D) (.type "BaseException")=some true
theorem ZoK {K:Frag} {M:Model} {h:Heap} {D:Addr} (X:K.In h) (hc:(clsIn K D).isSome=true):Looks M h (isType (.ref D)) true:=by
 unfold clsIn at hc
 split at hc
 ·rename_i c' d' cd' sl' ho
  intro A' Q' E' s' k q
  unfold isType loadHead
  exact wpAny_bind (wpAny_loadPart (k _ _ (X _ _ ho)) (wpAny_pure q))
 ·cases hc
theorem ZaZ {M:Model} {h:Heap} {a:Addr} {cls:Value} (x:Zka a cls h):Looks M h (typeOf (.ref a)) cls:=by
 obtain ⟨oe,vs,e,hc,_⟩:=x
 exact hc ▸ (Looks.ld e).andThen .now
theorem Zzy {M:Model} {A:Around} {E:Value→Shared→Prop} {s:Shared} {Q:Bool→Shared→Prop} {K:Frag} {e C D:Addr} {b:Bool} (X:K.In s.heap) (he:Zka e (.ref C) s.heap) (hD:ZCI K D) (hs:subIn K (.ref C) (.ref D)=some b) (h:Q b s) :
  wpAny M A (excMatches (.ref e) (.ref D)) Q E s:=by
 obtain ⟨h0,g,d,tt,os⟩:=s
 have L1:Looks M h0 (isInstance (.ref D) (.type "tuple")) false:=(looks_typeIn X hD.ty).andThen (Looks.of_pure tc_notTuple)
 have L2:=ZoK (M:=M) X hD.cl
 have L3:=looks_subIn (M:=M) X hD.ba
 have L4:=ZaZ (M:=M) he
 have L5:=looks_subIn (M:=M) X hs
 unfold excMatches
 refine wpAny_bind (L1.at ?_)
 simp only [Bool.false_eq_true,if_false]
 refine wpAny_bind (wpAny_pure ?_)
 simp only [List.forIn_cons,List.forIn_nil]
 unfold isExcClass
 refine wpAny_bind (wpAny_bind (wpAny_bind (wpAny_bind (L2.at ?_))))
 simp only [if_true]
 refine L3.at ?_
 simp only [Bool.not_true,Bool.false_eq_true,if_false]
 refine wpAny_pure (wpAny_pure ?_)
 refine wpAny_bind (L4.at ?_)
 refine wpAny_bind (wpAny_bind (wpAny_bind (L5.at ?_)))
 cases b with
 | true=>
  simp only [if_true]
  exact wpAny_pure (wpAny_pure (wpAny_pure h))
 | false=>
  simp only [Bool.false_eq_true,if_false]
  exact wpAny_pure (wpAny_pure (wpAny_pure h))
theorem ZGw {X:Cx} {pins:List (Addr×Obj)} {σ:St} {H:Hp} {s:Shared} {M:Model} {A:Around} {E:Value→Shared→Prop} {i:Nat} {n:Str} {pos:Pos} {Q:Unit→Shared→Prop} (I:Inv X pins σ H s) (hN:X.N.Nodup) (hi:X.N[i]?=some n)
  (hl:X.env.scope.names.lookup n=some .local) (h:∀ s',Inv X pins (σ.set i none) H s'→Q () s'):wpAny M A (do bindName X.env n .none;unbindBehindTheSuite X.env n pos) Q E s:=by
 obtain ⟨m,hn,hloc⟩:=id I.loc
 have hcls:(X.env.scope.kind == .class || (X.env.scope.kind == .module && X.env.locals != X.env.globals))=false:=by rw [I.ok.kind];rfl
 refine wpAny_nameGoes_keeps hl hn hcls fun h' v hn' hs=>?_
 obtain ⟨oL,_,_,hoL,_⟩:=id hn
 have neL:∀ b o,X.s₀.heap.get? b=some o→b≠X.env.locals:=fun b o e=>Nat.ne_of_lt (Nat.lt_of_lt_of_le (Heap.lt_size e) I.ok.above)
 refine h _ ⟨I.ok,I.os,I.bare,⟨fun b o e n hb hx=>(hs.2 b (neL b o e)).trans (I.base.keep b o e n hb hx),fun b o e n hb hx=>?_,I.base.free,fun b o e hx=>?_,I.base.tups,I.base.frzs,I.base.tbls⟩,⟨_,hn',fun j y v' e1 e2 e3=>?_⟩,fun y c e=>?_,I.free,I.freeC,fun p hp=>?_,fun b ob e=>?_,by simpa using I.len⟩
 ·obtain ⟨sl,e1⟩:=I.base.slot b o e n hb hx
  exact ⟨sl,(hs.2 b (neL b o e)).trans e1⟩
 ·obtain ⟨o',e1⟩:=I.base.there b o e hx
  exact ⟨o',(hs.2 b (neL b o e)).trans e1⟩
 ·by_cases hj:j=i
  ·subst hj
   have hlt:j < σ.length:=by rw [I.len];exact (List.getElem?_eq_some_iff.mp hi).1
   rw [List.getElem?_set_self hlt] at e2
   cases e2
  ·rw [List.getElem?_set_ne (Ne.symm hj)] at e2
   obtain ⟨u',r',q⟩:=hloc j y v' e1 e2 e3
   refine ⟨u',r',?_⟩
   rcases q with ⟨k,e⟩ | ⟨k,c,e,z⟩
   ·refine .inl ⟨k,?_⟩
    have ne:y≠n:=fun e=>hj (ZwD hN e1 (e ▸ hi))
    simp [ne,e]
   ·exact .inr ⟨k,c,e,z.sameBut hs (I.cne y c e)⟩
 ·obtain ⟨w',z⟩:=I.cell y c e
  exact ⟨w',z.sameBut hs (I.cne y c e)⟩
 ·obtain ⟨e,n,ne,nf,d⟩:=I.pin p hp
  exact ⟨(hs.2 p.1 ne).trans e,n,ne,nf,d⟩
 ·refine (I.hok b ob e).stay (fun c w' hc q=>(hs.2 c ?_).trans q) (fun _ q=>q) fun _ _ q=>q
  rintro rfl
  rcases hc with rfl | hc
  ·rw [I.free] at e;cases e
  ·rw [I.free] at hc;cases hc
def ZL7 (X:Cx) (pins:List (Addr×Obj)) (E:St→XK) (e:Value) (s':Shared):Prop:=
 ∃ (a:Addr) (cls:Value) (σ₁:St) (H₁ Hc:Hp) (sc:Shared),e=.ref a∧Inv X pins σ₁ Hc sc∧ZKC X.prog X.w X.stack Hc H₁ sc a cls s'∧E σ₁ cls none H₁
theorem ZEk {X:Cx} {pins:List (Addr×Obj)} {E:St→XK}:ZhI (CXE X.prog X.w) (X.bear (X.pn++pins) (ZL7 X pins E)) E:=by
 rintro pins1 σ H s e s' I ⟨a,cls,H',rfl,fl,hE⟩
 exact ⟨a,cls,σ,H',H,s,rfl,I.unbear,fl,hE⟩
theorem Zzb {X:Cx} {pins:List (Addr×Obj)} {σ:St} {Hc H₁:Hp} {sc s':Shared} {a:Addr} {cls:Value} {B:Heap} {a0:Value} {h5:Heap} (I:Inv X pins σ Hc sc) (hex:X.ex=[]) (fl:ZKC X.prog X.w X.stack Hc H₁ sc a cls s')
  (kB:∀ b o,sc.heap.get? b=some o→Hc b=none→b ∉ frs X.stack→B.get? b=some o) (tB:∀ b o,sc.heap.get? b=some o→b ∉ frs X.stack→∃ o',B.get? b=some o') (hok:HOk X.prog X.w H₁ B)
  (hfl:Heap.FlyingW B X.stack a cls a0 h5) (hsm:s'.heap.UpToSlots h5):Inv X pins σ (upd H₁ a (xob a cls)) {s' with heap:=h5}∧H₁ a=none:=by
 have hna:H₁ a=none:=hok.absent hfl.2.1
 have hsl:∀ b o,b∈frs X.stack→sc.heap.get? b=some o→∃ sl,h5.get? b=some {o with slots:=sl}:=fun b o hb q=>by
  obtain ⟨_,o',ho',hnf⟩:=I.stack.mem hb
  rw [q] at ho'
  cases ho'
  obtain ⟨sl,e1⟩:=fl.un.slot b o q (I.stkFree b hb) hb (fun z=>nomatch z)
  obtain ⟨sl2,e2⟩:=hsm b _ e1 hnf
  exact ⟨sl2,e2⟩
 have hokB:HOk X.prog X.w H₁ h5:=hok.kept hfl.1
 have I5:Inv X pins σ H₁ {s' with heap:=h5}:=by
  refine I.call' (ch:=[]) (s':={s' with heap:=h5}) fl.os ⟨fun b o e n hb _=>hfl.1 b o (kB b o e n hb),fun b o e n hb _=>hsl b o hb e,fun b o e n _=>fl.un.free b o e n (fun z=>nomatch z),fun b o e _=>?_,fl.un.tups,fl.un.frzs,fl.un.tbls⟩ hokB fl.bare fun b z=>nomatch z
  by_cases hb:b∈frs X.stack
  ·obtain ⟨sl,e1⟩:=hsl b o hb e
   exact ⟨_,e1⟩
  ·obtain ⟨o',e1⟩:=tB b o e hb
   exact ⟨o',hfl.1 b o' e1⟩
 have nst:∀ b o,sc.heap.get? b=some o→Hc b=none→b ∉ frs X.stack→b≠a:=fun b o e n hb z=>by
  have:=kB b o e n hb
  rw [z,hfl.2.1] at this
  cases this
 obtain ⟨oe,vs,T,oT,ts,he,⟨hc,h0⟩,hd,_⟩:=id hfl.2.2.2
 have hxo:Zka a cls h5:=⟨oe,vs,he,hc,hd⟩
 have fra:∀ b∈X.env.locals::X.fs,b≠a:=fun b hb z=>by
  rcases List.mem_cons.mp hb with q | q
  ·obtain ⟨m,⟨o,es,ep,ho,hdd,_⟩,_⟩:=I5.loc
   have ho':h5.get? X.env.locals=some o:=ho
   rw [← q,z,he] at ho'
   cases ho'
   rw [hd] at hdd
   cases hdd
  ·obtain ⟨_,o,ho,hnf⟩:=I5.funs.mem q
   have ho':h5.get? b=some o:=ho
   rw [z,he] at ho'
   cases ho'
   exact hnf vs hd
 have notin:∀ b,b≠X.env.locals→b ∉ X.fs→b ∉ frs X.stack:=fun b h1 h2 z=>(List.mem_cons.mp (I.stkSub b z)).elim h1 h2
 refine ⟨I5.track hna ⟨hxo,⟨oe,he⟩,fun h1 h2 x k=>x.at k⟩ (fun b u e n hx=>?_) (fra _ List.mem_cons_self) (fun x c e=>?_) (fun p hp=>?_),hna⟩
 ·by_cases hb:b∈X.fs
  ·exact fra b (List.mem_cons_of_mem _ hb)
  ·exact nst b u (I.base.keep b u e n hb hx) (I.base.free b u e n hx) (notin b (Nat.ne_of_lt (Nat.lt_of_lt_of_le (Heap.lt_size e) I.ok.above)) hb)
 ·by_cases hb:c∈X.fs
  ·exact fra c (List.mem_cons_of_mem _ hb)
  ·obtain ⟨v,o,ho,_⟩:=I.cell x c e
   exact nst c o ho (I.freeC x c e) (notin c (I.cne x c e) hb)
 ·obtain ⟨e,n,ne,nf,_⟩:=I.pin p hp
  exact nst p.1 p.2 e n (notin p.1 ne nf)
def tTry (K:Frag) (D:Addr) (i:Nat) (tb:(St→XK)→TS) (th:TS):TS:=fun D' σ H=>
 tb (fun σ₁ cls _ H₁=>∃ C,cls=.ref C∧subIn K (.ref C) (.ref D)=some true∧∀ a,H₁ a=none→
  th {nx:=fun σ₂ H₂=>D'.nx (σ₂.set i none) H₂,rt:=D'.rt,bk:=fun σ₂ H₂=>D'.bk (σ₂.set i none) H₂,ct:=fun σ₂ H₂=>D'.ct (σ₂.set i none) H₂} (σ₁.set i (some (.ref a))) (upd H₁ a (xob a (.ref C)))) D' σ H
theorem ZLd {X:Cx} {body suite:List Stmt} {b₀:Stmt} {x n:Str} {np hpos pos:Pos} {D:Addr} {i:Nat} {tb:(St→XK)→TS} {th:TS} (hst:X.stack=X.env::X.outer) (hfr:X.env.frame=some X.env.locals) (hex:X.ex=[]) (hgx:Gl X x) (hmx:X.mg x=some (.ref D)) (hD:ZCI X.K D)
  (hN:X.N.Nodup) (hi:X.N[i]?=some n) (hl:X.env.scope.names.lookup n=some .local)
  (hb:∀ pn E' E,ZhI (CXE X.prog X.w) (X.bear pn E') E→PSs (X.bear pn E') body (tb E))
  (hh:∀ a,PSs (X.hot (X.A.mark (some (.ref a)))).nox (b₀::suite) th) (hdb:(x == ("__debug__":Str))=false:=by decide) :
  PS X (.Try body [.ExceptHandler (some (.Name x np)) (some n) (b₀::suite) hpos] [] [] pos) (tTry X.K D i tb th):=by
 try unfold PS at *;try unfold PSs at *
 intro pins s σ H D' I h
 refine wpAny_Try_except (wpAny_mono (hb _ _ _ ZEk [] s σ H D' (I.bear (ZL7 X pins _)) h) (fun f s1 q=>?_) fun e s1 q=>?_)
 ·have q':=SP.unbear q
  cases f with
  | next=>exact wpAny_execs_nil q'
  | brk=>exact q'
  | cont=>exact q'
  | ret u=>exact q'
 ·obtain ⟨a,cls,σ₁,H₁,Hc,sc,rfl,Ic,fl,C,rfl,hsub,hE⟩:=q
  obtain ⟨B,a0,hfl,hok,kB,tB⟩:=fl.ex
  have hfr':X.A.frames=some (X.env::X.outer):=by rw [← hst];exact Ic.ok.frames
  rw [hst] at hfl
  refine wpAny_looks_onW hfr' hfr hfl fun h4 held4 sm4=>?_
  refine wpAny_landsW held4 fun h5 fl5 sm5=>?_
  have sm45:=sm4.trans sm5
  have fl5':Heap.FlyingW B X.stack a (.ref C) a0 h5:=by rw [hst];exact fl5
  obtain ⟨I5,hna⟩:=Zzb Ic hex fl kB tB hok fl5' sm45
  have I5h:Inv (X.hot (X.A.mark (some (.ref a)))) pins σ₁ (upd H₁ a (xob a (.ref C))) {s1 with heap:=h5}:=I5.hot rfl
  refine wpAny_handleBy_cons (codeAny_handlers_test (ZjU (X:=X.hot (X.A.mark (some (.ref a)))) I5h hgx hmx ?_ hdb)) (by intro z;cases z)
  refine Zzy I5.kIn (I5.exc Zb) hD hsub ?_
  show codeAny _ _ _ _ _
  refine codeAny_handlers_suite_as ?_
  refine lands_againW fl5 fun h6 fl6 sm6=>?_
  have fl6':Heap.FlyingW B X.stack a (.ref C) a0 h6:=by rw [hst];exact fl6
  obtain ⟨I6,_⟩:=Zzb Ic hex fl kB tB hok fl6' (sm45.trans sm6)
  have I6h:Inv (X.hot (X.A.mark (some (.ref a)))).nox pins σ₁ (upd H₁ a (xob a (.ref C))) {s1 with heap:=h6}:=(I6.hot (A:=X.A.mark (some (.ref a))) rfl).wish _
  refine Zvd (X:=(X.hot (X.A.mark (some (.ref a)))).nox) (v:=.ref a) I6h hN hi (.inl hl) rfl (fun s7 I7=>?_) (.inr hl)
  refine wpAny_mono (hh a pins s7 _ _ _ I7 (hE a hna)) (fun f s8 q8=>?_) fun _ _ z=>z.elim
  have back:∀ {σ8:St} {H8:Hp} {Q':Unit→Shared→Prop},Inv (X.hot (X.A.mark (some (.ref a)))).nox pins σ8 H8 s8→(∀ s9,Inv X pins (σ8.set i none) H8 s9→Q' () s9)→wpAny (model X.prog X.w) X.A (do bindName X.env n .none;unbindBehindTheSuite X.env n hpos) Q' X.xe s8:=fun {σ8 H8 Q'} I8 k=>
   ZGw (X:=X) (I8.unwish.cool I.ok) hN hi hl k
  cases f with
  | next=>obtain ⟨σ8,H8,I8,q9⟩:=q8;exact back I8 fun s9 I9=>⟨_,H8,I9,q9⟩
  | brk=>obtain ⟨σ8,H8,I8,q9⟩:=q8;exact back I8 fun s9 I9=>⟨_,H8,I9,q9⟩
  | cont=>obtain ⟨σ8,H8,I8,q9⟩:=q8;exact back I8 fun s9 I9=>⟨_,H8,I9,q9⟩
  | ret u=>obtain ⟨v8,σ8,H8,I8,r8,q9⟩:=q8;exact back I8 fun s9 I9=>⟨v8,_,H8,I9,r8,q9⟩
structure Zxg (k:Nat) (A:Around):Prop where
 dp:A.depth + 3 * k + 5 < recursionLimit
 un:A.units + 16 * k + 200 < cLine
theorem Zxg.deeper {k:Nat} {A:Around} (r:Zxg (k + 1) A) (env:Env):Zxg k (A.deeper env):=by
 refine ⟨?_,?_⟩
 ·have:=r.dp
  show A.depth + 1 + 3 * k + 5 < recursionLimit
  omega
 ·have:=r.un
  show A.units + 3 + 16 * k + 200 < cLine
  omega
theorem Zxg.depth {k:Nat} {A:Around} (r:Zxg k A):A.depth < recursionLimit:=by have:=r.dp;omega
theorem Room.hot {k:Nat} {A:Around} (r:Room k A) (v:Option Value):Zxg k (A.mark v):=⟨r.dp,r.un⟩
structure ZKB (P:Program) (w:World) (K:PySem.W.Frag) (mg:Str→Option Value) (base:Heap) (k:Nat) (f:Addr) (fd:FuncData) (ps:List Str) (sp:Sp):Prop where
 len:∀ vs H Q E,sp vs H Q E→vs.length=ps.length
 run:∀ (A:Around) (outer:List Env) (s:Shared) (H:Hp) (args:Args) (us:List Value) (vs:List V) (Q:VK) (E:XK),Zxg k A→Env0 P w K mg base A outer s H→BindsTo s fd args (ps.zip us)→Vals vs us→sp vs H Q E→
  codeAny (model P w) A (.call (.ref f) args) (CR CX0 outer P w H s Q E) s
abbrev cool (A:Around):Around:={A with handled:=none}
section
variable {P:Program} {w:World} {K:PySem.W.Frag} {mg:Str→Option Value} {base:Heap}
theorem Fun.okH {x qual:Str} {st:Stmt} {f:Addr} {fd:FuncData} {N ps:List Str} {k:Nat} {sp:Sp} (F:Fun K x qual st f fd) (S:Zq N ps (Zg st)) (len:∀ vs H Q E,sp vs H Q E→vs.length=ps.length)
  (hbody:∀ (cdv:Value) (A:Around) (outer:List Env) (s:Shared) (H:Hp) (vs:List V) (Q:VK) (E:XK),Zxg k (A.deeper (envOfC qual (Zg st) s.heap.objs.size f cdv))→sp vs H Q E→
   ∃ t,PSs ((cxOf CX0 P w K mg base N qual (Zg st) f cdv (cool A) outer s H E).hot (A.deeper (envOfC qual (Zg st) s.heap.objs.size f cdv))).nox (Zg6 st) t∧t {nx:=fun _ H'=>Q .non H',rt:=Q} (Znq N vs) H) :
  ZKB P w K mg base (k + 1) f fd ps sp:=by
 obtain ⟨oc,od,kV,doc,pm,an,cdv,ct,osl,rfl,lk,hcd⟩:=F.ex
 refine ⟨len,fun A outer s H args us vs Q E hr e0 hb r hsp=>?_⟩
 have hl:=len _ _ _ _ hsp
 have KX:K.In s.heap:=e0.mod.kin.keeps fun b o e=>(e0.bs b o e).1
 have lim:s.heap.NoLimit:=e0.mod.nolimit.keeps fun b o e=>(e0.bs b o e).1
 have hkind:∀ y∈ps.zip us,(Zg st).names.lookup y.1=some .local∨((Zg st).names.lookup y.1=some .cell∧((cellsFrom (s.heap.objs.size + 1) (Zg st).names []).lookup y.1).isSome=true):=fun ⟨n,v⟩ hy=>by
  rcases S.par n (List.of_mem_zip hy).1 with q | q
  ·exact .inl q
  ·exact .inr ⟨q,PySem.W.cellsFrom_some _ _ _ (.inl q)⟩
 refine codeAny_call_function hr.depth (KX _ _ lk) rfl S.co S.gen rfl (PySem.W.codeRec_of KX hcd) (hb _ _ _ _ ?_)
 refine wpAny_newFunctionEnv_cells S.kind hkind fun env he s1 x=>?_
 subst he
 refine ⟨lim.keeps x.toInCall.keep,codeAny_func ?_⟩
 obtain ⟨t,ht,hq⟩:=hbody cdv A outer s H vs Q E (hr.deeper _) hsp
 unfold PSs at ht
 have I0:Inv (cxOf CX0 P w K mg base N qual (Zg st) f cdv (cool A) outer s H E) [] (Znq N vs) H s1:=Zzj (A:=cool A) S rfl ⟨e0.frames,e0.mod,e0.bs,e0.bsz,e0.funs,e0.frf,e0.hok,e0.bare⟩ hl r x
 have I:Inv ((cxOf CX0 P w K mg base N qual (Zg st) f cdv (cool A) outer s H E).hot (A.deeper (envOfC qual (Zg st) s.heap.objs.size f cdv))).nox [] (Znq N vs) H s1:=(I0.hot (A:=A.deeper (envOfC qual (Zg st) s.heap.objs.size f cdv)) rfl).wish _
 refine wpAny_mono (ht [] s1 (Znq N vs) H _ I hq) (fun fl s' hs=>?_) fun e s' hs=>hs.elim
 have fin:∀ {σ':St} {H':Hp} {v:V} {u:Value},Inv ((cxOf CX0 P w K mg base N qual (Zg st) f cdv (cool A) outer s H E).hot (A.deeper (envOfC qual (Zg st) s.heap.objs.size f cdv))).nox [] σ' H' s'→RelV v u→Q v H'→CE outer P w H s Q u s':=
  fun {σ' H' v u} J rv q=>⟨v,H',J.os,J.bare,J.base,J.hok,rv,q⟩
 cases fl with
 | ret u=>
  obtain ⟨v,σ',H',J,rv,q⟩:=hs
  exact fin J rv q
 | next=>
  obtain ⟨σ',H',J,q⟩:=hs
  exact fin (v:=V.non) (u:=Value.none) J rfl q
 | brk=>
  obtain ⟨_,_,_,q⟩:=hs
  exact False.elim q
 | cont=>
  obtain ⟨_,_,_,q⟩:=hs
  exact False.elim q
end
theorem Fun.okE {P:Program} {w:World} {K:PySem.W.Frag} {mg:Str→Option Value} {base:Heap} {x qual:Str} {st:Stmt} {f:Addr} {fd:FuncData} {N ps:List Str} {k:Nat} {sp:Sp} (F:Fun K x qual st f fd) (S:Zq N ps (Zg st)) (len:∀ vs H Q E,sp vs H Q E→vs.length=ps.length)
  (hbody:∀ (cdv:Value) (A:Around) (outer:List Env) (s:Shared) (H:Hp) (vs:List V) (Q:VK) (E:XK),Room k (A.deeper (envOfC qual (Zg st) s.heap.objs.size f cdv))→sp vs H Q E→
   ∃ t,PSs (cxOf (CXE P w) P w K mg base N qual (Zg st) f cdv A outer s H E) (Zg6 st) t∧t {nx:=fun _ H'=>Q .non H',rt:=Q} (Znq N vs) H):FnOk P w K mg base (CXE P w) (k + 1) f fd ps sp:=by
 obtain ⟨oc,od,kV,doc,pm,an,cdv,ct,osl,rfl,lk,hcd⟩:=F.ex
 exact ZLM lk hcd S len fun A outer s H vs Q E hr hsp=>hbody cdv A outer s H vs Q E hr hsp
section
variable {X:Cx} {k:Nat} {f:Addr} {fd:FuncData} {ps:List Str} {sp:Sp} {x:Str} {p pos:Pos} {e:Expr} {es:List Expr} {t:TA}
theorem ZHO (F:ZKB X.prog X.w X.K X.mg X.base k f fd ps sp) (hr:Zxg k X.A) (hg:Gl X x) (hm:X.mg x=some (.ref f)) (hk:PySem.W.keepIn X.K (.ref f)=true) (hb:ZN X.K fd ps [])
  (ha:PA X (e::es) t) (hdb:(x == ("__debug__":Str))=false:=by decide) (he:starEach (e::es) X.env=(false,eval e X.env)::starEach es X.env:=by rfl) (hpl:(backTo pos (starEach es X.env)).any (·.1)=false:=by rfl) :
  PE X (.Call (.Name x p) (e::es) [] pos) (ZJr sp [] (fun _=>E0) t):=by
 try unfold PE at *;try unfold PA at *
 intro pins s σ H Q I h
 refine wpAny_Call_Name_kw (ZjU I hg hm ?_ hdb)
 refine PySem.W.callWith_K (h₀:=X.base) I.ok.mod.kin hk (thn (ha pos pins s σ H _ I h) fun us s1 ⟨vs,H1,I1,r,q⟩=>⟨I1.kIn,?_⟩) he hpl
 have r2:Vals (vs++[]) (us++[]):=r.append .nil
 have hl:(us++[]).length=ps.length:=by rw [← r2.length];exact F.len _ _ _ _ q
 refine wpAny_call (codeAny_mono (F.run X.A X.stack s1 H1 ⟨us,[]⟩ (us++[]) (vs++[]) Q E0 hr I1.env0 (hb s1 us I1.kIn hl) r2 q) fun r s' hq=>?_)
 cases r with
 | error e=>exact hq.elim
 | ok fl=>
  cases fl with
  | ret u=>exact I1.after hq
  | next=>exact False.elim hq
  | brk=>exact False.elim hq
  | cont=>exact False.elim hq
end
end L2
namespace L2
open PySem PySem.Spec PyProof.Rows PySem.W
mutual
inductive Im (H:Hp):V→PyData→Prop
 | non:Im H .non .none
 | bl (b:Bool):Im H (.bl b) (.bool b)
 | int (i:Int):Im H (.int i) (.int i)
 | str (x:Str):Im H (.str x) (.str x)
 | tup {a:Addr} {xs:List V} {ds:List PyData}:H a=some (.tup xs)→Ims H xs ds→Im H (.ref a) (.tuple ds)
inductive Ims (H:Hp):List V→List PyData→Prop
 | nil:Ims H [] []
 | cons {x:V} {d:PyData} {xs:List V} {ds:List PyData}:Im H x d→Ims H xs ds→Ims H (x::xs) (d::ds)
end
def ZL9 (H H':Hp):Prop:=∀ a xs,H a=some (.tup xs)→H' a=some (.tup xs)
mutual
theorem Im.keep {H H':Hp} (k:ZL9 H H') {x:V} {d:PyData} (h:Im H x d):Im H' x d:=by
 cases h with
 | non=>exact .non
 | bl b=>exact .bl b
 | int i=>exact .int i
 | str x=>exact .str x
 | tup e r=>exact .tup (k _ _ e) (Ims.keep k r)
theorem Ims.keep {H H':Hp} (k:ZL9 H H') {xs:List V} {ds:List PyData} (h:Ims H xs ds):Ims H' xs ds:=by
 cases h with
 | nil=>exact .nil
 | cons a r=>exact .cons (Im.keep k a) (Ims.keep k r)
end
mutual
theorem Im.reads {X:Cx} {pins:List (Addr×Obj)} {σ:St} {H:Hp} {s:Shared} (I:Inv X pins σ H s) {x:V} {d:PyData} (h:Im H x d) {u:Value} (r:RelV x u):∃ as,Reads s.heap u d as:=by
 cases h with
 | non=>cases (show u=Value.none from r);exact ⟨_,.none⟩
 | bl b=>cases (show u=Value.bool b from r);exact ⟨_,.bool b⟩
 | int i=>obtain ⟨t,z⟩:=(show ∃ t,u=Value.int i t from r);cases z;exact ⟨_,.int i t⟩
 | str y=>obtain ⟨t,z⟩:=(show ∃ t,u=Value.str y t from r);cases z;exact ⟨_,.str y t⟩
 | @tup a xs ds e q=>
  cases (show u=Value.ref a from r)
  obtain ⟨_,its,rv,o,h1,h2,n,h3⟩:=(show Zam X.prog X.w H s.heap a (.tup xs) from I.hok a _ e)
  obtain ⟨as,z⟩:=Ims.reads I q rv
  exact ⟨_,.tuple h1 h2 h3 (by simpa using z)⟩
theorem Ims.reads {X:Cx} {pins:List (Addr×Obj)} {σ:St} {H:Hp} {s:Shared} (I:Inv X pins σ H s) {xs:List V} {ds:List PyData} (h:Ims H xs ds) {us:List Value} (r:Vals xs us):∃ as,ReadsAll s.heap us ds as:=by
 cases h with
 | nil=>cases r;exact ⟨_,.nil⟩
 | cons a q=>
  cases r with
  | cons r1 r2=>
   obtain ⟨as,z1⟩:=Im.reads I a r1
   obtain ⟨bs,z2⟩:=Ims.reads I q r2
   exact ⟨_,.cons z1 z2⟩
end
def Dat (K:Frag) (H:Hp) (x:V) (d:PyData):Prop:=Im H x d∨∃ p xs ds,x=.ref p∧d=.list ds∧SqL K H p xs∧Ims H xs ds
theorem Dat.reads {X:Cx} {pins:List (Addr×Obj)} {σ:St} {H:Hp} {s:Shared} (I:Inv X pins σ H s) {x:V} {d:PyData} (h:Dat X.K H x d) {u:Value} (r:RelV x u):∃ as,Reads s.heap u d as:=by
 rcases h with h | ⟨p,xs,ds,rfl,rfl,hp,hi⟩
 ·exact h.reads I r
 ·cases (show u=Value.ref p from r)
  obtain ⟨its,rv,⟨o,n,e,h1,_,h3⟩,_⟩:=I.list hp
  obtain ⟨as,z⟩:=hi.reads I rv
  exact ⟨_,.list e h1 h3 (by simpa using z)⟩
section
variable {X:Cx}
end
theorem ZJR:OpR X (binaryOp .Mult) (rI (fun i j=>i.natAbs < 2 ^ 200∧j.natAbs < 2 ^ 200) fun i j=>.int (i * j)):=opI fun i j _ _ _ _ _ hc q=>
 mul_int q (IntMulOk.of_bits (Nat.le_trans (intBits_le hc.1) (by decide)) (Nat.le_trans (intBits_le hc.2) (by decide)))
theorem ZcJ:fillsNumberSlot (.type "tuple") "mul"=pure false:=
 PySem.fillsNumberSlot_seq (id:="tuple.__mul__") (r:=some (.builtin "tuple.__rmul__")) F.slot_tuple_mul.lookup (by decide +kernel) F.slot_tuple_rmul.lookup (by decide +kernel)
theorem Zgp:seqRepeat? (.type "tuple")=pure (some (.builtin "tuple.__mul__")):=by
 unfold seqRepeat?
 rw [PySem.seqSlot_of (T:="tuple") (name:="__mul__") (id:="tuple.__mul__") F.slot_tuple_mul.lookup (by decide +kernel),PySem.seqSlot_of (T:="tuple") (name:="__rmul__") (id:="tuple.__rmul__") F.slot_tuple_rmul.lookup (by decide +kernel)]
 rfl
theorem Zea (a:Int) (t:Tok) (l:Addr) (items:Array Value) (n:Nat) (dd:Option Addr) (sl:Array (Option Value)) :
  Meets (Builtin.«int.__rmul__» ⟨[.int a t,.ref l],[]⟩) (fun _ R s=>s.heap.get? l=some {cls:=.type "tuple",dict:=dd,data:=.seq items n,slots:=sl}∧R (.ok (.ret Value.notImplemented)) s):=
 .of_wp fun prog w A R s h=>by obtain ⟨hp,g,d,tk,os⟩:=s;obtain ⟨hl,h⟩:=h;wp_walk;exact ⟨_,rfl,h⟩
end L2
namespace L2
open PySem PySem.Spec PyProof.Rows PySem.W
theorem ZFb (l:Addr) (items:Array Value) (n:Nat) (dd:Option Addr) (sl:Array (Option Value)) (k:Int) (u:Tok) (hne:items.isEmpty=false) (h1:1 < k) (h2:k < 2 ^ 63) (hsz:items.size * k.toNat≤sizeLine) :
  Meets (Builtin.«tuple.__mul__» ⟨[.ref l,.int k u],[]⟩) (fun _ R s=>s.heap.get? l=some {cls:=.type "tuple",dict:=dd,data:=.seq items n,slots:=sl}∧
   R (.ok (.ret (.ref s.heap.objs.size))) {s with heap:=s.heap.push {cls:=.type "tuple",data:=.seq ((List.replicate k.toNat items).foldl (fun x1 x2=>x1++x2) #[])}}):=
 .of_wp fun prog w A R s h=>by
  obtain ⟨hp,g,d,tk,os⟩:=s;obtain ⟨hl,h⟩:=h
  have hmul:(items.size:Int) * k=((items.size * k.toNat:Nat):Int):=by
   rw [Int.natCast_mul,Int.toNat_of_nonneg (by omega)]
  have hL:(sizeLine:Nat)≤2 ^ 40:=by decide
  have hc0:¬(decide (k < -2 ^ 63) || decide (k ≥ 2 ^ 63))=true:=by
   rw [Bool.or_eq_true,decide_eq_true_eq,decide_eq_true_eq];omega
  have hc1:¬(items.isEmpty || k == 1)=true:=by
   rw [hne,Bool.false_or,beq_iff_eq];omega
  have hc2:¬(decide (k≤0) || items.isEmpty)=true:=by
   rw [hne,Bool.or_false,decide_eq_true_eq];omega
  have hc3:¬((items.size:Int) * k > (2 ^ 63 - 1) / 8):=by
   rw [hmul]
   have:(2 ^ 63 - 1:Int) / 8=1152921504606846975:=by decide
   rw [this]
   have:(2:Nat) ^ 40=1099511627776:=by decide
   omega
  have hc4:¬Builtin.Tuple.tupleTooMany ((items.size:Int) * k)=true:=by
   rw [hmul]
   unfold Builtin.Tuple.tupleTooMany
   rw [decide_eq_true_eq];omega
  wp_walk
  rw [if_neg hc0]
  wp_walk
  rw [if_neg hc1]
  wp_walk
  rw [if_neg hc2]
  wp_walk
  rw [if_neg hc3]
  wp_walk
  rw [if_neg hc4]
  have hc5:¬((List.foldl (fun x1 x2=>x1++x2) #[] (List.replicate k.toNat items)).size > sizeLine):=by
   have e:=Zsm items.toList k.toNat []
   rw [List.nil_append] at e
   have e':List.foldl (fun x1 x2=>x1++x2) #[] (List.replicate k.toNat items)=(List.replicate k.toNat items.toList).flatten.toArray:=e
   rw [e',List.size_toArray,ZGg,Array.length_toList,Nat.mul_comm]
   omega
  wp_walk
  exact ⟨_,rfl,h⟩
def ZK8:R2:=fun x y H Q=>∃ l k xs,x=.ref l∧y=.int k∧H l=some (.tup xs)∧xs≠[]∧1 < k∧k < 2 ^ 63∧xs.length * k.toNat≤sizeLine∧
 ∀ p,H p=none→Q (.ref p) (upd H p (.tup (List.replicate k.toNat xs).flatten))
section
variable {X:Cx}
theorem Inv.tnew {pins:List (Addr×Obj)} {σ:St} {H:Hp} {s:Shared} {ys:List V} {its:List Value} {t':Nat} (I:Inv X pins σ H s) (hv:Vals ys its) (hz:ys.length≤sizeLine) :
  Inv X pins σ (upd H s.heap.objs.size (.tup ys)) {s with heap:=s.heap.push {cls:=.type "tuple",data:=.seq its.toArray},toks:=t'}:=
 I.laid (fun _ _ e=>Heap.get?_push_of_some _ e) (Nat.le_refl _) ⟨hz,its,hv,_,Heap.get?_push_size _ rfl,rfl,_,rfl⟩
theorem ZFW:OpR X (binaryOp .Mult) ZK8:=by
 intro pins s σ H x y v u Q I rx ry h
 obtain ⟨l,k,xs,rfl,rfl,hH,hne,h1,h2,hz,q⟩:=h
 cases rx
 obtain ⟨t,rfl⟩:=ry
 obtain ⟨z,its,r,o,e,hc,n,hd⟩:=(show Zam X.prog X.w H s.heap l (.tup xs) from I.hok l _ hH)
 obtain ⟨cls,dd,data,sl⟩:=o
 dsimp only at hc hd
 subst hc hd
 have hl:xs.length=its.length:=r.length
 have hemp:its.toArray.isEmpty=false:=by
  cases its with
  | nil=>cases r;exact absurd rfl hne
  | cons _ _=>rfl
 refine wpAny_binaryOp_repeat_ref (T:="tuple") (U:="int") (by decide) ⟨_,e,rfl⟩ (fun s'=>typeIs_int s' k t) ZcJ F.fills_int_mul F.slot_int_rmul Zgp F.slot_int_index.lookup
  (call_meets F.slot_int_rmul (typeIs_int s k t) F.entry_int_rmul (F.args_int_rmul_2 _ _) (Zea k t l its.toArray n dd sl)
   ⟨e,rfl,⟨_,e,rfl⟩,call_meets F.slot_tuple_mul ⟨_,e,rfl⟩ F.entry_tuple_mul (F.args_tuple_mul_2 _ _) (ZFb l its.toArray n dd sl k t hemp h1 h2 (by rw [List.size_toArray,← hl];exact hz)) ⟨e,?_⟩⟩)
 have hnew:(List.replicate k.toNat its.toArray).foldl (fun x1 x2=>x1++x2) #[]=(List.replicate k.toNat its).flatten.toArray:=by
  have:=Zsm its k.toNat []
  rw [List.nil_append] at this
  exact this
 rw [hnew]
 exact ⟨.ref _,_,I.tnew (t':=s.toks) (r.rep k.toNat) (by rw [ZGg,Nat.mul_comm];exact hz),rfl,q _ I.fresh⟩
theorem ZuD {x:V}:∀ {xs:List V} {us:List Value},Vals xs us→xs.all ZjX=true→us.countP (eqU x)=xs.countP fun y=>eqV y x
 | _,_,.nil,_=>rfl
 | _,_,.cons (a:=y) (b:=u) r t,h=>by
  rw [List.all_cons,Bool.and_eq_true] at h
  rw [List.countP_cons,List.countP_cons,ZuD t h.2,ZDn r h.1]
def ZLa (K:Frag):V→List V→Hp→VK→Prop:=fun x vs H Q=>∃ l xs y,x=.ref l∧vs=[y]∧SqL K H l xs∧ZjX y=true∧xs.all ZjX=true∧Q (.int (xs.countP fun z=>eqV z y:Nat)) H
theorem ZHY:MtR X "list.count" (ZLa X.K):=by
 intro pins s σ H x xs v us Q I rx rs h
 obtain ⟨l,ys,y,rfl,rfl,hl,fy,fa,q⟩:=h
 cases rx
 obtain ⟨u,rfl,ru⟩:=rs.one
 obtain ⟨its,rv,⟨o,n,e,hc,_,hd⟩,_⟩:=I.list hl
 obtain ⟨cls,dd,data,sl⟩:=o
 dsimp only at hc hd
 subst hc hd
 refine call_meets F.slot_list_count ⟨_,e,rfl⟩ F.entry_list_count (F.args_list_count_2 _ _) (SeqAt.list_countAt l its.toArray n dd sl u (eqU y)) ⟨e,fun z hz=>Zlu ru fy rv fa z (by simpa using hz),?_⟩
 refine ⟨.int _,H,I.tok _,⟨_,rfl⟩,?_⟩
 rw [ZuD rv fa]
 exact q
def ZK9 (K:Frag):V→List V→Hp→VK→Prop:=fun x vs H Q=>∃ l xs y j,x=.ref l∧vs=[y]∧SqL K H l xs∧ZjX y=true∧xs.all ZjX=true∧(∃ z,xs[j]?=some z∧eqV z y=true)∧(∀ m z,m < j→xs[m]?=some z→eqV z y=false)∧Q (.int (j:Nat)) H
theorem ZHX:MtR X "list.index" (ZK9 X.K):=by
 intro pins s σ H x xs v us Q I rx rs h
 obtain ⟨l,ys,y,j,rfl,rfl,hl,fy,fa,⟨z,hz,hit⟩,hno,q⟩:=h
 cases rx
 obtain ⟨u,rfl,ru⟩:=rs.one
 obtain ⟨its,rv,⟨o,n,e,hc,_,hd⟩,hlen⟩:=I.list hl
 obtain ⟨cls,dd,data,sl⟩:=o
 dsimp only at hc hd
 subst hc hd
 have hll:=rv.length
 have hjy:j < ys.length:=(List.getElem?_eq_some_iff.mp hz).1
 have hj:j < its.toArray.size:=by rw [List.size_toArray];omega
 have allf:∀ w∈ys,ZjX w=true:=fun w hw=>List.all_eq_true.mp fa w hw
 have val:∀ m (hm:m < its.toArray.size) w,ys[m]?=some w→eqU y its.toArray[m]=eqV w y:=fun m hm w hw=>by
  obtain ⟨u',hu',ru'⟩:=rv.get hw
  have:its.toArray[m]=u':=by
   have h1:its[m]?=some its.toArray[m]:=by simp
   rw [h1] at hu'
   exact Option.some.inj hu'
  rw [this]
  exact ZDn ru' (allf w (List.mem_of_getElem? hw))
 have h63:(j:Int) < 2 ^ 63 - 1:=by
  have:(sizeLine:Nat) < 2 ^ 62:=by decide
  omega
 refine call_meets F.slot_list_index ⟨_,e,rfl⟩ F.entry_list_index (F.args_list_index_2 _ _) (SeqAt.list_indexAt l its.toArray n dd sl u (eqU y) j hj h63 (by rw [val j hj z hz];exact hit) fun m hm hmj=>?_) ⟨e,fun z hz=>Zlu ru fy rv fa z (by simpa using hz),⟨.int _,H,I.tok _,⟨_,rfl⟩,q⟩⟩
 have hmy:m < ys.length:=by omega
 rw [val m hm ys[m] (List.getElem?_eq_getElem hmy)]
 exact hno m _ hmj (List.getElem?_eq_getElem hmy)
end
structure ZuS (K:Frag) (C:Addr):Prop where
 ga:findIn K (.ref C) "__getattribute__"=some (some (.builtin "BaseException.__getattribute__"))
 gh:findIn K (.ref C) "__getattr__"=some none
 cc:findIn K (.ref C) "__class__"=some (some (.builtin "object.__class__"))
 ob:mroIn K C (.type "object")=some true
 ba:mroIn K C (.type "BaseException")=some true
 cl:(clsIn K C).isSome=true
 gg:specialIn K (.builtin "object.__class__") "__get__"=some (some (.builtin "getset_descriptor.__get__"))
 tk:takesIn K (.builtin "object.__class__")=some true
section
variable {prog:Program} {w:World} {A:Around} {E:Value→Shared→Prop} {s:Shared} {K:Frag} {x C:Addr}
theorem ZEK {tp:Value} {R:Result→Shared→Prop} (X:K.In s.heap) (I:Zka x (.ref C) s.heap) (hm:mroIn K C (.type "object")=some true)
  (h:R (.ok (.ret (.ref C))) s):codeAny (model prog w) A (.call (.builtin "getset_descriptor.__get__") ⟨[.builtin "object.__class__",.ref x,tp],[]⟩) R s:=by
 obtain ⟨hh,g,dr,t,os⟩:=s
 have L0:=ZaZ (M:=model prog w) I
 have L1:=looks_mroIn (M:=model prog w) X hm
 refine codeAny_call_builtin KF.slot_gs.plain KF.entry_gs (KF.slot_gs.check _ _ _ _ _ _ _ _ KF.type_class (KF.args_gs _ _ _) ?_)
 unfold Builtin.«getset_descriptor.__get__» Builtin.Getset_descriptor.descrGet
 rw [dga_obj]
 refine wpAny_bind (wpAny_pure ?_)
 unfold Builtin.Getset_descriptor.descrGetter Builtin.Getset_descriptor.descrCheckInstance Builtin.Getset_descriptor.descrNameAndClass isInstance
 simp only [KF.owner_class]
 repeat lk
 refine ⟨Code.quiet_builtin _ (by decide +kernel),codeAny_builtin KF.entry_class ?_⟩
 unfold Builtin.«object.__class__» shownTypeOf
 repeat lk
 exact h
theorem ZLP {tk:Tok} {Q:PySem.Fin→Shared→Prop} (X:K.In s.heap) (I:Zka x (.ref C) s.heap) (T:ZuS K C) (h:Q (.done (.ret (.ref C))) s) :
  wpAny (model prog w) A (Builtin.«object.__getattribute__» ⟨[.ref x,.str "__class__" tk],[]⟩) Q E s:=by
 obtain ⟨hh,g,d,t,os⟩:=s
 have L0:=ZaZ (M:=model prog w) I
 have L3:=looks_findIn (M:=model prog w) X T.cc
 have L4:Looks (model prog w) hh (Builtin.ObjectAttr.getOf (some (.builtin "object.__class__"))) (some (.builtin "getset_descriptor.__get__")):=looks_specialIn X T.gg
 have L5:=looks_takesIn (M:=model prog w) X T.tk
 unfold Builtin.«object.__getattribute__»
 refine wpAny_bind (wpAny_pure ?_)
 dsimp only
 refine wpAny_bind (wpAny_pure ?_)
 refine wpAny_bind (L0.at ?_)
 unfold Builtin.ObjectAttr.find Builtin.ObjectAttr.dataDescriptor?
 refine wpAny_bind (wpAny_bind (L3.at (wpAny_bind (L4.at ?_))))
 dsimp only
 refine wpAny_bind (wpAny_bind (L5.at ?_))
 simp only [if_true]
 refine wpAny_pure ?_
 dsimp only
 refine wpAny_bind (wpAny_rule (wpAny_pure ?_))
 dsimp only
 unfold Builtin.ObjectAttr.bindTo
 dsimp only
 refine wpAny_bind (wpAny_holding (wpAny_call (ZEK (s:=⟨hh,g,d,t,os⟩) X I T.ob ?_)))
 exact wpAny_pure h
theorem ZGF {M:Model} {nameV:Value} {Q:Unit→Shared→Prop} (X:K.In s.heap) (I:Zka x (.ref C) s.heap) (T:ZuS K C) (hq:Q () s):wpAny M A (checkBuiltinCall "BaseException.__getattribute__" ⟨[.ref x,nameV],[]⟩) Q E s:=by
 obtain ⟨hh,g,d,t,os⟩:=s
 have hk:builtinKind "BaseException.__getattribute__"=some .slot:=by decide +kernel
 have hsplit:splitId "BaseException.__getattribute__"=some ("BaseException","__getattribute__"):=by decide +kernel
 have L0:=ZaZ (M:=M) I
 have L1:Looks M hh (isInstance (.ref x) (.type "BaseException")) true:=L0.andThen (looks_mroIn X T.ba)
 have ha:=F.args_bexc_ga (.ref x) nameV
 simp only [checkBuiltinCall,hk,hsplit]
 refine wpAny_bind (L1.at ?_)
 simp only [Bool.not_true,Bool.false_eq_true,if_false]
 exact wpAny_of_eq ha hq
theorem ZGE {Q:Option Value→Shared→Prop} (X:K.In s.heap) (I:Zka x (.ref C) s.heap) (T:ZuS K C) (h:Q (some (.ref C)) {s with toks:=s.toks + 1}):wpAny (model prog w) A (getAttr? (.ref x) "__class__") Q E s:=by
 obtain ⟨hh,g,d,t,os⟩:=s
 have L0:=ZaZ (M:=model prog w) I
 have L1:=looks_findIn (M:=model prog w) X T.ga
 have L2:=looks_findIn (M:=model prog w) X T.gh
 have hx2:(Value.builtin "BaseException.__getattribute__" == Value.builtin "object.__getattribute__")=false:=by decide +kernel
 have f3:=F.excAttr_ValueError.ga.bind (.ref x)
 unfold getAttr? getAttrBy? getAttrBy
 refine wpAny_bind (wpAny_mkText (wpAny_bind (wpAny_attempt (wpAny_holding (wpAny_bind (L0.at (wpAny_bind (L1.at ?_))))))))
 simp only [hx2,Bool.and_false,Bool.false_eq_true,if_false]
 unfold getAttrByItsOwn hookBefore
 simp only [onTheHeap,if_true]
 refine wpAny_bind (L2.at ?_)
 refine wpAny_bind (wpAny_attempt (wpAny_holding ?_))
 unfold callGetattribute boundAndCalled
 simp only [Bool.false_and,Bool.false_eq_true,if_false]
 rw [f3]
 refine wpAny_bind (wpAny_pure ?_)
 dsimp only
 refine wpAny_call (codeAny_call_builtin F.excAttr_ValueError.ga.plain F.entry_bexc_ga (ZGF (s:=⟨hh,g,d,t + 1,os⟩) X I T ?_))
 refine ZLP (s:=⟨hh,g,d,t + 1,os⟩) X I T ?_
 exact wpAny_pure (wpAny_pure h)
end
end L2
namespace L2
open PySem PySem.Spec PyProof.Rows PySem.W
section
variable {prog:Program} {w:World} {A:Around} {E:Value→Shared→Prop} {s:Shared} {K:Frag} {x C:Addr}
theorem ZIU (K:Frag) (C a:Addr) (T:ZuS K C):KitX K (.ref a) (.ref C) (Zka a (.ref C)) where
 ty:=fun _ _ _ p=>ZaZ p
 it:=fun _ _ X _=>ZoK X T.cl
 ne:=fun h tp dd its n sl X htp=>by
  refine Bool.eq_false_iff.mpr fun q=>?_
  have e:C=tp:=Value.ref.inj (beq_iff_eq.mp q)
  subst e
  have hcD:=T.cl
  unfold clsIn at hcD
  split at hcD
  ·rename_i c' d' cd' sl' ho
   have z:=(X _ _ ho).symm.trans htp
   cases z
  ·cases hcD
 ca:=fun X p k=>ZGE X p T k
end
def kitV (K:Frag) (C:Addr):V→Option Bool
 | .ref d=>kitOne K (.ref C) (.ref d)
 | .ty n=>kitOne K (.ref C) (.type n)
 | _=>none
end L2
namespace L2
open PySem PySem.Spec PyProof.Rows PySem.W
def ZDy (a:Addr) (cls:Value) (t:Addr) (h:Heap):Prop:=∃ oe vs,h.get? a=some oe∧oe.cls=cls∧oe.data=.fields vs∧vs[0]?=some (.ref t)
def xobA (a:Addr) (cls:Value) (t:Addr):HO:=.ext (ZDy a cls t)
theorem ZDy.exc {a t:Addr} {cls:Value} {h:Heap} (x:ZDy a cls t h):Zka a cls h:=by
 obtain ⟨oe,vs,e,h1,h2,_⟩:=x
 exact ⟨oe,vs,e,h1,h2⟩
def IsX (H:Hp) (a C:Addr):Prop:=H a=some (xob a (.ref C))∨∃ t,H a=some (xobA a (.ref C) t)
theorem IsX.same {H H':Hp} {a C:Addr} (h:IsX H a C) (s:Same H H'):IsX H' a C:=by
 rcases h with h | ⟨t,h⟩
 ·exact .inl (s _ _ h)
 ·exact .inr ⟨t,s _ _ h⟩
section
variable {X:Cx} {pins:List (Addr×Obj)} {σ:St} {H:Hp} {s:Shared}
theorem Inv.isX {a C:Addr} (I:Inv X pins σ H s) (h:IsX H a C):Zka a (.ref C) s.heap:=by
 rcases h with h | ⟨t,h⟩
 ·exact I.exc h
 ·exact (show ZDy a (.ref C) t s.heap from (I.hok a _ h).1).exc
end
section
variable {prog:Program} {w:World} {A:Around} {E:Value→Shared→Prop} {s:Shared} {K:Frag} {x C t0:Addr}
end
def rIsX (K:Frag):List V→Hp→VK→Prop:=fun xs H Q=>∃ (a C:Addr) (c:V) (b:Bool),xs=[.ref a,c]∧IsX H a C∧ZuS K C∧kitV K C c=some b∧Q (.bl b) H
theorem ZIF {X:Cx}:ZfR X (.builtin "isinstance") (rIsX X.K):=by
 intro pins s σ H xs us Q I r h
 obtain ⟨a,C,c,b,rfl,ha,T,e,q⟩:=h
 obtain ⟨u,v,rfl,ru,rv⟩:=r.two
 cases (show u=Value.ref a from ru)
 have fin:∀ tk,EP X pins σ Q (.bool b) {s with toks:=tk}:=fun tk=>⟨.bl b,H,I.tok tk,rfl,q⟩
 cases c with
 | ref d=>
  cases (show v=Value.ref d from rv)
  exact kia_one (ZIU X.K C a T) I.kIn (I.isX ha) e (fun z=>nomatch z) fin
 | ty n=>
  cases (show v=Value.type n from rv)
  exact kia_one (ZIU X.K C a T) I.kIn (I.isX ha) e (fun z=>nomatch z) fin
 | non=>cases e
 | bl _=>cases e
 | int _=>cases e
 | str _=>cases e
 | byt _=>cases e
 | flt _=>cases e
theorem ZfV {X:Cx} {a b:Expr} {ta tb:TE} {p pos:Pos} (ha:PE X a ta) (hb:PE X b tb) (hg:Gl X "isinstance") (hm:X.mg "isinstance"=none)
  (h1:starEach [a,b] X.env=(false,eval a X.env)::starEach [b] X.env:=by rfl) (h2:starEach [b] X.env=(false,eval b X.env)::starEach [] X.env:=by rfl) (hpl:(backTo pos (starEach [b] X.env)).any (·.1)=false:=by rfl) :
  PE X (.Call (.Name "isinstance" p) [a,b] [] pos) (tCB (rIsX X.K) (Zib ta (Zib tb tNil))):=
 ZC ZIF hg hm PyProof.Rows.Boot.«isinstance» (Za ha (Za hb Zf h2) h1) (by decide) (by decide) h1 hpl
def ZLD (sep:Str):List Str→Str
 | [p]=>p
 | l=>Builtin.Str.glued sep l
theorem ZFi:∀ {xs:List Str} {us:List Value},Vals (xs.map V.str) us→∃ l:List (Str×Tok),us=strValues l∧l.map (·.1)=xs
 | [],_,r=>by cases r;exact ⟨[],rfl,rfl⟩
 | x::xs,_,r=>by
  cases r with
  | cons h t=>
   obtain ⟨tk,rfl⟩:=h
   obtain ⟨l,rfl,e⟩:=ZFi t
   exact ⟨(x,tk)::l,rfl,by rw [List.map_cons,e]⟩
def ZMq (K:Frag):V→List V→Hp→VK→Prop:=fun x vs H Q=>∃ sep l xs,x=.str sep∧vs=[.ref l]∧SqL K H l (xs.map V.str)∧Builtin.Str.tooLong (xs.toArray.foldl (· + ·.length + sep.length) 0)=false∧(Builtin.Str.glued sep xs).length≤sizeLine∧Q (.str (ZLD sep xs)) H
theorem ZHW {X:Cx}:MtR X "str.join" (ZMq X.K):=by
 intro pins s σ H x xs v us Q I rx rs h
 obtain ⟨sep,l,ys,rfl,rfl,hl,hz,hg,q⟩:=h
 obtain ⟨t,rfl⟩:=rx
 obtain ⟨u,rfl,ru⟩:=rs.one
 cases (show u=Value.ref l from ru)
 obtain ⟨its,rv,⟨o,n,e,hc,_,hd⟩,_⟩:=I.list hl
 obtain ⟨ps,rfl,e2⟩:=ZFi rv
 subst e2
 refine call_meets F.slot_str_join (typeIs_str s sep t) F.entry_str_join (F.args_str_join_2 _ _) (meets_str_join_list sep t l ps hz) ⟨⟨o,e,hc,n,hd⟩,?_⟩
 match ps with
 | []=>exact ⟨hg,.str _,H,I.tok _,⟨_,rfl⟩,q⟩
 | [p]=>exact ⟨.str _,H,I,⟨_,rfl⟩,q⟩
 | p::p'::r=>exact ⟨hg,.str _,H,I.tok _,⟨_,rfl⟩,q⟩
def DatT (K:Frag) (H:Hp) (x:V) (d:PyData):Prop:=Dat K H x d∨∃ a xs ds,x=.ref a∧d=.tuple ds∧SqT K H a xs∧Ims H xs ds
theorem DatT.reads {X:Cx} {pins:List (Addr×Obj)} {σ:St} {H:Hp} {s:Shared} (I:Inv X pins σ H s) {x:V} {d:PyData} (h:DatT X.K H x d) {u:Value} (r:RelV x u):∃ as,Reads s.heap u d as:=by
 rcases h with h | ⟨p,xs,ds,rfl,rfl,hp,hi⟩
 ·exact h.reads I r
 ·cases (show u=Value.ref p from r)
  obtain ⟨its,rv,⟨o,e,h1,n,h3⟩,_⟩:=I.tuple hp
  obtain ⟨as,z⟩:=hi.reads I rv
  exact ⟨_,.tuple e h1 h3 (by simpa using z)⟩
def rEqT (K:Frag):R2:=fun x y H Q=>∃ d e,DatT K H x d∧DatT K H y e∧SeqAt.shaped d=true∧SeqAt.shaped e=true∧Q (.bl (PyData.eqv d e)) H
theorem ZLn {X:Cx} (hu:X.A.units + 64 < cLine):OpR X (compareOp .Eq) (rEqT X.K):=by
 intro pins s σ H x y v u Q I rx ry h
 obtain ⟨d,e,hd,he,sd,se,q⟩:=h
 obtain ⟨as,z1⟩:=hd.reads I rx
 obtain ⟨bs,z2⟩:=he.reads I ry
 exact eq_dataH z1 z2 sd se hu ⟨.bl _,H,I,rfl,q⟩
theorem ZnQ {P:Program} {w:World} {X:Cx}:ZhI (CXE P w) X (fun _=>E0):=fun _ _ _ _ _ _ _ ⟨_,_,_,_,_,z⟩=>z.elim
theorem Zk {H:Hp} {p:Addr} {o:HO} (h:H p=none):Same H (upd H p o):=fun b u e=>by rw [Zc (Zd e h)];exact e
end L2
namespace L2
open PySem PySem.Spec PyProof.Rows
section
variable {κ:Type} [DecidableEq κ]
def valV (kvs:List (κ×V)) (k:κ):Option V:=(kvs.find? fun kv=>decide (kv.1=k)).map (·.2)
def putK (kvs:List (κ×V)) (k:κ) (v:V):List (κ×V):=
 if (kvs.any fun kv=>decide (kv.1=k))=true then kvs.map (fun kv=>if kv.1=k then (kv.1,v) else kv) else kvs++[(k,v)]
theorem ZaS {p:κ×V} {r:List (κ×V)} {k:κ} (e:p.1=k):valV (p::r) k=some p.2:=by simp [valV,List.find?_cons,e]
theorem ZaE {p:κ×V} {r:List (κ×V)} {k:κ} (e:¬ p.1=k):valV (p::r) k=valV r k:=by simp [valV,List.find?_cons,e]
theorem ZhW (k:κ):∀ kvs:List (κ×V),(kvs.any fun kv=>decide (kv.1=k))=(valV kvs k).isSome
 | []=>rfl
 | p::r=>by
  rw [List.any_cons]
  by_cases e:p.1=k
  ·simp only [ZaS e,decide_eq_true e,Bool.true_or,Option.isSome_some]
  ·rw [ZaE e,decide_eq_false e,Bool.false_or];exact ZhW k r
theorem ZCN (k j:κ) (y:V):∀ kvs:List (κ×V),valV (kvs.map fun kv=>if kv.1=k then (kv.1,y) else kv) j=(valV kvs j).map fun x=>if j=k then y else x
 | []=>rfl
 | p::r=>by
  have ih:=ZCN k j y r
  rw [List.map_cons]
  by_cases h:p.1=k
  ·rw [if_pos h]
   by_cases e:p.1=j
   ·rw [ZaS (p:=(p.1,y)) e,ZaS e,Option.map_some,if_pos (e.symm.trans h)]
   ·rw [ZaE (p:=(p.1,y)) e,ZaE e,ih]
  ·rw [if_neg h]
   by_cases e:p.1=j
   ·rw [ZaS (p:=p) e,ZaS e,Option.map_some,if_neg (fun z=>h (e.trans z))]
   ·rw [ZaE (p:=p) e,ZaE e,ih]
theorem ZxT (k j:κ) (y:V):∀ kvs:List (κ×V),valV kvs k=none→valV (kvs++[(k,y)]) j=if j=k then some y else valV kvs j
 | [],_=>by
  by_cases e:k=j
  ·rw [if_pos e.symm];exact ZaS (p:=(k,y)) e
  ·rw [if_neg (fun z=>e z.symm)];exact ZaE (p:=(k,y)) e
 | p::r,hn=>by
  rw [List.cons_append]
  have hk:¬ p.1=k:=fun z=>by rw [ZaS z] at hn;cases hn
  rw [ZaE hk] at hn
  have ih:=ZxT k j y r hn
  by_cases e:p.1=j
  ·rw [ZaS e,ZaS e,if_neg (fun z=>hk (e.trans z))]
  ·rw [ZaE e,ZaE e,ih]
theorem ZCM (kvs:List (κ×V)) (k j:κ) (y:V):valV (putK kvs k y) j=if j=k then some y else valV kvs j:=by
 unfold putK
 by_cases a:(kvs.any fun kv=>decide (kv.1=k))=true
 ·rw [if_pos a,ZCN]
  rw [ZhW] at a
  by_cases e:j=k
  ·obtain ⟨x,hx⟩:=Option.isSome_iff_exists.mp a
   rw [if_pos e,e,hx,Option.map_some,if_pos rfl]
  ·rw [if_neg e]
   cases valV kvs j with
   | none=>rfl
   | some x=>rw [Option.map_some,if_neg e]
 ·rw [if_neg a]
  refine ZxT k j y kvs ?_
  rw [ZhW] at a
  cases q:valV kvs k with
  | none=>rfl
  | some x=>rw [q] at a;exact (a rfl).elim
theorem Ze8 (kvs:List (κ×V)) (k:κ) (v:V):(putK kvs k v).length≤kvs.length + 1:=by
 unfold putK
 split
 ·rw [List.length_map];omega
 ·rw [List.length_append,List.length_cons,List.length_nil];omega
theorem RelO.isSome_eq {o:Option V} {u:Option Value} (r:RelO o u):o.isSome=u.isSome:=by
 cases o with
 | none=>cases u with
  | none=>rfl
  | some _=>exact (show False from r).elim
 | some _=>cases u with
  | none=>exact (show False from r).elim
  | some _=>rfl
theorem RelO.getD {o:Option V} {u:Option Value} {d:V} {d':Value} (r:RelO o u) (rd:RelV d d'):RelV (o.getD d) (u.getD d'):=by
 cases o with
 | none=>cases u with
  | none=>exact rd
  | some _=>exact (show False from r).elim
 | some _=>cases u with
  | none=>exact (show False from r).elim
  | some _=>exact r
theorem KV.val {kvs:List (κ×V)} {vs:List (κ×Value)} (r:KV kvs vs) (k:κ):RelO (valV kvs k) (valueAt vs k):=by
 unfold KV at r
 induction r with
 | nil=>exact True.intro
 | @cons p q ps qs h t ih=>
  obtain ⟨h1,h2⟩:=h
  by_cases e:p.1=k
  ·have e':q.1=k:=h1.symm.trans e
   have b:valueAt (q::qs) k=some q.2:=by simp [valueAt,List.find?_cons,e']
   rw [ZaS e,b];exact h2
  ·have e':¬ q.1=k:=fun z=>e (h1.trans z)
   have b:valueAt (q::qs) k=valueAt qs k:=by simp [valueAt,List.find?_cons,e']
   rw [ZaE e,b];exact ih
theorem KV.any {kvs:List (κ×V)} {vs:List (κ×Value)} (r:KV kvs vs) (k:κ):(kvs.any fun kv=>decide (kv.1=k))=vs.any fun kv=>decide (kv.1=k):=by
 unfold KV at r
 induction r with
 | nil=>rfl
 | cons h t ih=>rw [List.any_cons,List.any_cons,ih,h.1]
theorem KV.repl {kvs:List (κ×V)} {vs:List (κ×Value)} (r:KV kvs vs) (k:κ) {y:V} {u:Value} (ry:RelV y u) :
  KV (kvs.map fun kv=>if kv.1=k then (kv.1,y) else kv) (vs.map fun kv=>if kv.1=k then (kv.1,u) else kv):=by
 unfold KV at r ⊢
 induction r with
 | nil=>exact .nil
 | @cons p q ps qs h t ih=>
  rw [List.map_cons,List.map_cons]
  refine .cons ?_ ih
  obtain ⟨h1,h2⟩:=h
  by_cases e:p.1=k
  ·rw [if_pos e,if_pos (h1.symm.trans e)];exact ⟨h1,ry⟩
  ·rw [if_neg e,if_neg (fun z=>e (h1.trans z))];exact ⟨h1,h2⟩
theorem KV.put {kvs:List (κ×V)} {vs:List (κ×Value)} (r:KV kvs vs) (k:κ) {y:V} {u:Value} (ry:RelV y u):KV (putK kvs k y) (stored vs k u):=by
 unfold putK stored
 rw [r.any k]
 by_cases e:(vs.any fun kv=>decide (kv.1=k))=true
 ·rw [if_pos e,if_pos e];exact r.repl k ry
 ·rw [if_neg e,if_neg e];exact Paired.snoc r ⟨rfl,ry⟩
theorem KV.keys {kvs:List (κ×V)} {vs:List (κ×Value)} (r:KV kvs vs):kvs.map (·.1)=vs.map (·.1):=by
 unfold KV at r
 induction r with
 | nil=>rfl
 | cons h t ih=>rw [List.map_cons,List.map_cons,ih,h.1]
theorem KV.length {kvs:List (κ×V)} {vs:List (κ×Value)} (r:KV kvs vs):kvs.length=vs.length:=Paired.length r
end
theorem ZB2 {P:Program} {w:World} {k:Key} {u:Value} (r:RelV (kV k) u):(ZW P w).is k u=true:=by
 cases k with
 | inl i=>obtain ⟨t,e⟩:=(show ∃ t,u=Value.int i t from r);subst e;exact ZBO P w i t
 | inr x=>obtain ⟨t,e⟩:=(show ∃ t,u=Value.str x t from r);subst e;exact ZBN P w x t
theorem Zzi {P:Program} {w:World}:∀ {ks:List Key} {us:List Value},Vals (ks.map kV) us→ItemsAre (ZW P w) ks us
 | [],_,r=>by rw [List.map_nil] at r;cases r;exact .nil
 | k::ks,_,r=>by
  rw [List.map_cons] at r
  cases r with
  | cons h t=>exact .cons (ZB2 h) (Zzi t)
abbrev KT (H:Hp):List (List Key×V)→List (List Key×Addr×Value)→Prop:=Paired fun p q=>p.1=q.1∧H q.2.1=some (.tup (p.1.map kV))∧RelV p.2 q.2.2
theorem KT.val {H:Hp} {kvs:List (List Key×V)} {xs:List (List Key×Addr×Value)} (r:KT H kvs xs) (k:List Key):RelO (valV kvs k) ((atKey xs k).map (·.2)):=by
 induction r with
 | nil=>exact True.intro
 | @cons p q ps qs h t ih=>
  obtain ⟨h1,_,h2⟩:=h
  by_cases e:p.1=k
  ·have e':q.1=k:=h1.symm.trans e
   have b:atKey (q::qs) k=some q.2:=by simp [atKey,List.find?_cons,e']
   rw [ZaS e,b];exact h2
  ·have e':¬ q.1=k:=fun z=>e (h1.trans z)
   have b:atKey (q::qs) k=atKey qs k:=by simp [atKey,List.find?_cons,e']
   rw [ZaE e,b];exact ih
theorem KT.repl {H:Hp} {kvs:List (List Key×V)} {xs:List (List Key×Addr×Value)} (r:KT H kvs xs) (k:List Key) {y:V} {u:Value} (ry:RelV y u) :
  KT H (kvs.map fun kv=>if kv.1=k then (kv.1,y) else kv) (xs.map (putAt k u)):=by
 induction r with
 | nil=>exact .nil
 | @cons p q ps qs h t ih=>
  rw [List.map_cons,List.map_cons]
  refine .cons ?_ ih
  obtain ⟨h1,h2,h3⟩:=h
  unfold putAt
  by_cases e:p.1=k
  ·rw [if_pos e,if_pos (h1.symm.trans e)];exact ⟨h1,h2,ry⟩
  ·rw [if_neg e,if_neg (fun z=>e (h1.trans z))];exact ⟨h1,h2,h3⟩
theorem KT.put {H:Hp} {kvs:List (List Key×V)} {xs:List (List Key×Addr×Value)} (r:KT H kvs xs) (k:List Key) {b:Addr} {y:V} {u:Value} (hb:H b=some (.tup (k.map kV))) (ry:RelV y u) :
  KT H (putK kvs k y) (storedH xs k b u):=by
 have e:(kvs.any fun kv=>decide (kv.1=k))=(atKey xs k).isSome:=by
  rw [ZhW,(r.val k).isSome_eq,Option.isSome_map]
 unfold putK storedH
 rw [e]
 by_cases q:(atKey xs k).isSome=true
 ·rw [if_pos q,if_pos q];exact r.repl k ry
 ·rw [if_neg q,if_neg q];exact Paired.snoc r ⟨rfl,hb,ry⟩
theorem KT.keeps {H H':Hp} {kvs:List (List Key×V)} {xs:List (List Key×Addr×Value)} (r:KT H kvs xs) (ht:∀ b ys,H b=some (.tup ys)→H' b=some (.tup ys)):KT H' kvs xs:=
 Paired.mapP r fun _ _ z=>⟨z.1,ht _ _ z.2.1,z.2.2⟩
section
variable {P:Program} {w:World} {H:Hp} {h:Heap} {a:Addr}
theorem ZJH {u:HO} (ok:HOk P w H h) (e:Rd H a u):Zam P w H h a u:=e.ok ok
theorem ZqB {kvs:List (Key×V)} (ok:HOk P w H h) (e:Rd H a (.dK kvs)):kvs.length≤sizeLine∧(a == sysModules)=false∧∃ vs,KV kvs vs∧h.DictOf (ZW P w) a vs:=
 show Zam P w H h a (.dK kvs) from ZJH ok e
theorem ZLS {kvs:List (Key×V)} (ok:HOk P w H h) (e:H a=some (.dK kvs)):kvs.length≤sizeLine∧(a == sysModules)=false∧∃ vs,KV kvs vs∧h.DictOf (ZW P w) a vs:=ZqB ok (.inl e)
theorem Zuo {ks:List Key} (ok:HOk P w H h) (e:H a=some (.tup (ks.map kV))):(tupleKind (ZW P w)).is h ks a:=by
 obtain ⟨_,its,r,o,h1,h2,n,h3⟩:=(show Zam P w H h a (.tup (ks.map kV)) from ok a _ e)
 exact ⟨o,its.toArray,n,h1,h2,h3,by simpa using Zzi r⟩
theorem ZCa {kvs:List (List Key×V)} (ok:HOk P w H h) (e:Rd H a (.dT kvs)):kvs.length≤sizeLine∧(a == sysModules)=false∧
  ∃ xs,KT H kvs xs∧h.DictOfH (tupleKind (ZW P w)) a xs:=by
 obtain ⟨z,y,xs,r,o,es,ep,h1,h2,h3,h4,h5⟩:=(show Zam P w H h a (.dT kvs) from ZJH ok e)
 refine ⟨z,y,xs,r,o,es,ep,h1,h2,h3,h4,fun x hx=>?_,h5⟩
 have all:∀ {l:List (List Key×V)} {m:List (List Key×Addr×Value)},KT H l m→∀ x∈m,(tupleKind (ZW P w)).is h x.1 x.2.1:=by
  intro l m q
  induction q with
  | nil=>intro x hx;exact nomatch hx
  | @cons p q ps qs hq t ih=>
   intro x hx
   rcases List.mem_cons.mp hx with e | hx
   ·subst e
    exact Zuo ok (by rw [← hq.1];exact hq.2.1)
   ·exact ih x hx
 exact all r x hx
theorem ZMF {kvs:List (List Key×V)} (ok:HOk P w H h) (e:H a=some (.dT kvs)):kvs.length≤sizeLine∧(a == sysModules)=false∧
  ∃ xs,KT H kvs xs∧h.DictOfH (tupleKind (ZW P w)) a xs:=ZCa ok (.inl e)
end
def DGet (H:Hp) (a:Addr) (y:V) (r:Option V):Prop:=
 (∃ kvs k,Rd H a (.dK kvs)∧y=kV k∧r=valV kvs k)∨∃ kvs k b,Rd H a (.dT kvs)∧y=.ref b∧H b=some (.tup (k.map kV))∧r=valV kvs k
def DPut (H:Hp) (a:Addr) (y v:V) (H':Hp):Prop:=
 (∃ kvs k,H a=some (.dK kvs)∧y=kV k∧kvs.length < sizeLine∧H'=upd H a (.dK (putK kvs k v)))∨
 ∃ kvs k b,H a=some (.dT kvs)∧y=.ref b∧H b=some (.tup (k.map kV))∧kvs.length < sizeLine∧H'=upd H a (.dT (putK kvs k v))
theorem DGet.k {H:Hp} {a:Addr} {kvs:List (Key×V)} {k:Key} (e:H a=some (.dK kvs)):DGet H a (kV k) (valV kvs k):=.inl ⟨kvs,k,.inl e,rfl,rfl⟩
theorem DGet.t {H:Hp} {a b:Addr} {kvs:List (List Key×V)} {k:List Key} (e:H a=some (.dT kvs)) (eb:H b=some (.tup (k.map kV))):DGet H a (.ref b) (valV kvs k):=.inr ⟨kvs,k,b,.inl e,rfl,eb,rfl⟩
theorem DPut.k {H:Hp} {a:Addr} {kvs:List (Key×V)} {k:Key} {v:V} (e:H a=some (.dK kvs)) (hl:kvs.length < sizeLine):DPut H a (kV k) v (upd H a (.dK (putK kvs k v))):=.inl ⟨kvs,k,e,rfl,hl,rfl⟩
theorem DPut.t {H:Hp} {a b:Addr} {kvs:List (List Key×V)} {k:List Key} {v:V} (e:H a=some (.dT kvs)) (eb:H b=some (.tup (k.map kV))) (hl:kvs.length < sizeLine) :
  DPut H a (.ref b) v (upd H a (.dT (putK kvs k v))):=.inr ⟨kvs,k,b,e,rfl,eb,hl,rfl⟩
section
variable {X:Cx} {pins:List (Addr×Obj)} {σ:St} {H:Hp} {s:Shared} {a:Addr} {y v:V} {u r:Value} {o:Option V} {A:Around} {E:Value→Shared→Prop}
theorem Inv.big (I:Inv X pins σ H s):sysModules < s.heap.objs.size:=by
 have h:mainGlobals < s.heap.objs.size:=(I.mod.glob.keeps I.bk).lt
 exact Nat.lt_trans (by decide) h
theorem ZGT {Q:Value→Shared→Prop} (hu:A.units + 1 < cLine) (I:Inv X pins σ H s) (g:DGet H a y (some v)) (ry:RelV y u) (h:∀ w' s',Inv X pins σ H s'→RelV v w'→Q w' s') :
  wpAny (model X.prog X.w) A (getItem (.ref a) u) Q E s:=by
 rcases g with ⟨kvs,k,e,ey,l⟩ | ⟨kvs,k,b,e,ey,eb,l⟩
 ·subst ey
  obtain ⟨z,hd,vs,rel,dd⟩:=ZqB I.hok e
  obtain ⟨w',hw,rw'⟩:=RelO.some_of (v:=v) (o:=valueAt vs k) (by rw [l];exact rel.val k)
  exact wpAny_getItem_of (ZB2 ry) dd.mapOf hw (h w' _ (I.tok _) rw')
 ·subst ey
  cases (show u=Value.ref b from ry)
  obtain ⟨z,hd,xs,rel,dd⟩:=ZCa I.hok e
  obtain ⟨w',hw,rw'⟩:=RelO.some_of (v:=v) (o:=(atKey xs k).map (·.2)) (by rw [l];exact rel.val k)
  obtain ⟨p,hp,hp2⟩:=Option.map_eq_some_iff.mp hw
  refine wpAny_getItem_heap (tupleKind_room_in1 hu) (Zuo I.hok eb) dd hp ?_
  rw [hp2]
  exact h w' _ (I.tok _) rw'
theorem d_in {Q:Value→Shared→Prop} (hu:A.units + 1 < cLine) (I:Inv X pins σ H s) (g:DGet H a y o) (ry:RelV y u) (h:∀ s',Inv X pins σ H s'→Q (.bool o.isSome) s') :
  wpAny (model X.prog X.w) A (compareOp .In u (.ref a)) Q E s:=by
 rcases g with ⟨kvs,k,e,ey,l⟩ | ⟨kvs,k,b,e,ey,eb,l⟩
 ·subst ey
  obtain ⟨z,hd,vs,rel,dd⟩:=ZqB I.hok e
  refine wpAny_in_of (ZB2 ry) hd dd.mapOf ?_
  rw [← (rel.val k).isSome_eq,← l]
  exact h _ (I.tok _)
 ·subst ey
  cases (show u=Value.ref b from ry)
  obtain ⟨z,hd,xs,rel,dd⟩:=ZCa I.hok e
  refine wpAny_in_heap (tupleKind_room_in1 hu) (Zuo I.hok eb) hd dd ?_
  have q:=(rel.val k).isSome_eq
  rw [Option.isSome_map] at q
  rw [← q,← l]
  exact h _ (I.tok _)
theorem ZKr {Q:Value→Shared→Prop} (hu:A.units + 1 < cLine) (I:Inv X pins σ H s) (g:DGet H a y o) (ry:RelV y u) (h:∀ s',Inv X pins σ H s'→Q (.bool (!o.isSome)) s') :
  wpAny (model X.prog X.w) A (compareOp .NotIn u (.ref a)) Q E s:=by
 rcases g with ⟨kvs,k,e,ey,l⟩ | ⟨kvs,k,b,e,ey,eb,l⟩
 ·subst ey
  obtain ⟨z,hd,vs,rel,dd⟩:=ZqB I.hok e
  refine wpAny_notIn_of (ZB2 ry) hd dd.mapOf ?_
  rw [← (rel.val k).isSome_eq,← l]
  exact h _ (I.tok _)
 ·subst ey
  cases (show u=Value.ref b from ry)
  obtain ⟨z,hd,xs,rel,dd⟩:=ZCa I.hok e
  refine wpAny_notIn_heap (tupleKind_room_in1 hu) (Zuo I.hok eb) hd dd ?_
  have q:=(rel.val k).isSome_eq
  rw [Option.isSome_map] at q
  rw [← q,← l]
  exact h _ (I.tok _)
theorem ZCc {h':Heap} {t':Nat} {ob:HO} (I:Inv X pins σ H s) (mu:Mut (H a)) (hs:Heap.SameBut a s.heap h') (he:∃ q,h'.get? a=some q) (new:Zam X.prog X.w (upd H a ob) h' a ob) :
  Inv X pins σ (upd H a ob) {s with heap:=h',toks:=t'}:=
 I.write (x:=a) (e:=a) mu (.inl rfl) (fun b q hb z=>(hs.2 b hb).trans z) he new
theorem ZGM {P:Program} {w:World} {H':Hp} {h':Heap} {kvs:List (Key×V)} {vs:List (Key×Value)} (z:kvs.length≤sizeLine) (hd:(a == sysModules)=false) (rel:KV kvs vs) (dd:h'.DictOf (ZW P w) a vs) :
  Zam P w H' h' a (.dK kvs):=⟨z,hd,vs,rel,dd⟩
theorem ZGS {H':Hp} {Q:Unit→Shared→Prop} (hu:A.units + 1 < cLine) (I:Inv X pins σ H s) (g:DPut H a y v H') (ry:RelV y u) (rv:RelV v r) (h:∀ s',Inv X pins σ H' s'→Q () s') :
  wpAny (model X.prog X.w) A (setItem (.ref a) u r) Q E s:=by
 rcases g with ⟨kvs,k,e,ey,l,eH⟩ | ⟨kvs,k,b,e,ey,eb,l,eH⟩
 ·subst ey eH
  obtain ⟨z,hd,vs,rel,dd⟩:=ZLS I.hok e
  have hz:vs.length≤sizeLine:=by rw [← rel.length];exact z
  have hl:(putK kvs k v).length≤sizeLine:=by have:=Ze8 kvs k v;omega
  refine wpAny_setItem_pairs (hsz:=hz) (ZB2 ry) dd fun h' dd' hs=>h _ ?_
  have he:∃ q,h'.get? a=some q:=let ⟨q,_,_,hq,_⟩:=dd';⟨q,hq⟩
  exact ZCc I (by rw [e];exact True.intro) hs he (ZGM hl hd (rel.put k rv) dd')
 ·subst ey eH
  cases (show u=Value.ref b from ry)
  obtain ⟨z,hd,xs,rel,dd⟩:=ZMF I.hok e
  have hz:xs.length≤sizeLine:=by rw [← Paired.length rel];exact z
  have hl:(putK kvs k v).length≤sizeLine:=by have:=Ze8 kvs k v;omega
  refine wpAny_setItem_heap (hsz:=hz) (tupleKind_room_in1 hu) (Zuo I.hok eb) dd fun h' dd' hs=>h _ ?_
  obtain ⟨q,es,ep,hq,h2,h3,h4,_,h5⟩:=dd'
  refine ZCc I (by rw [e];exact True.intro) hs ⟨q,hq⟩ ⟨hl,hd,_,(rel.put k eb rv).keeps fun c ys ec=>?_,q,es,ep,hq,h2,h3,h4,h5⟩
  rw [Zc (ZP ec e (fun z=>nomatch z))]
  exact ec
end
section
variable {X:Cx} {pins:List (Addr×Obj)} {σ:St} {H:Hp} {s:Shared} {a:Addr} {kvs:List (Key×V)} {k:Key} {u:Value} {A:Around} {E:Value→Shared→Prop}
theorem ZMI {Q:Value→Shared→Prop} (I:Inv X pins σ H s) (e:Rd H a (.dK kvs)) (h:∀ t s',Inv X pins σ H s'→Q (.int kvs.length t) s'):wpAny (model X.prog X.w) A (call (.builtin "len") [.ref a]) Q E s:=by
 obtain ⟨z,hd,vs,rel,dd⟩:=ZqB I.hok e
 refine call_len_dict hd dd (by rw [← rel.length];rw [sizeLine_eq] at z;omega) ?_
 rw [← rel.length]
 exact h _ _ (I.tok _)
end
def NoSl (i:Expr):Prop:=∀ ov iv,subscripted i false ov iv=operate [ov,iv] (getItem ov iv)
theorem ZJt {prog:Program} {w:World} {A:Around} {E:Value→Shared→Prop} {s:Shared} {env:Env} {value slice:Expr} {pos:Pos} {T id:String} {Q:Value→Shared→Prop}
  (hl:typeLookup (.type T) "__getitem__"=pure (some (.builtin id))) (hs:NoSl slice)
  (h:wpAny (model prog w) A (eval value env) (fun o s₁=>wpAny (model prog w) A (eval slice env) (fun i s₂=>s₂.TypeIs o T∧wpAny (model prog w) A (getItem o i) Q E s₂) E s₁) E s) :
  wpAny (model prog w) A (eval (.Subscript value slice pos) env) Q E s:=by
 refine Subscript_ (wpAny_mono h (fun o s₁ h₁=>wpAny_mono h₁ (fun i s₂ h₂=>?_) fun _ _ x=>x) fun _ _ x=>x)
 obtain ⟨hT,h₂⟩:=h₂
 unfold subscriptTail
 refine wpAny_bind ?_
 rw [getitemInPython_of_ne hT.not_modules]
 refine wpAny_bind (wpAny_specialOf hT hl ?_)
 have fin:wpAny (model prog w) A (subscripted slice false o i) (fun r s₃=>wpAny (model prog w) A (letTemporaryGo value o r >>= fun _=>pure r) Q E s₃) E s₂:=by
  rw [hs o i]
  exact wpAny_operating (wpAny_mono h₂ (fun r s₃ h₃=>wpAny_bind (wpAny_letTemporaryGo (wpAny_pure h₃))) fun _ _ x=>x)
 first
  | exact wpAny_pure (wpAny_bind fin)
  | exact wpAny_bind (wpAny_pure (wpAny_bind fin))
  | exact wpAny_bind fin
theorem ZCb {X:Cx} {pins:List (Addr×Obj)} {σ:St} {H:Hp} {s:Shared} {a:Addr} {y:V} {o:Option V} (I:Inv X pins σ H s) (g:DGet H a y o):s.TypeIs (.ref a) "dict":=by
 rcases g with ⟨kvs,k,e,_,_⟩ | ⟨kvs,k,b,e,_,_,_⟩
 ·obtain ⟨_,_,vs,_,dd⟩:=ZqB I.hok e
  exact dd.typeIs
 ·obtain ⟨_,_,xs,_,dd⟩:=ZCa I.hok e
  exact dd.typeIs
def ZMj (td ty:TE):TE:=fun σ H Q=>td σ H fun x H1=>ty σ H1 fun y H2=>∃ a v,x=.ref a∧DGet H2 a y (some v)∧Q v H2
def tDIn (ty td:TE):TE:=fun σ H Q=>ty σ H fun y H1=>td σ H1 fun x H2=>∃ a o,x=.ref a∧DGet H2 a y o∧Q (.bl o.isSome) H2
def ZJq (ty td:TE):TE:=fun σ H Q=>ty σ H fun y H1=>td σ H1 fun x H2=>∃ a o,x=.ref a∧DGet H2 a y o∧Q (.bl (!o.isSome)) H2
def ZMm (td ty tv:TE):TS:=fun D σ H=>tv σ H fun v H1=>td σ H1 fun x H2=>ty σ H2 fun y H3=>∃ a H4,x=.ref a∧DPut H3 a y v H4∧D.nx σ H4
section
variable {X:Cx} {o i e value:Expr} {pos pos' tpos:Pos} {td ty tv:TE}
theorem Zdd (hu:X.A.units + 1 < cLine) (ho:PE X o td) (hi:PE X i ty) (hs:NoSl i):PE X (.Subscript o i pos) (ZMj td ty):=by
 try unfold PE at *
 intro pins s σ H Q I h
 refine ZJt PySem.F.slot_dict_getitem.lookup hs (thn (ho pins s σ H _ I h) fun u s1 ⟨x,H1,I1,rx,q1⟩=>thn (hi pins s1 σ H1 _ I1 q1) fun iv s2 ⟨y,H2,I2,ry,a,v,ex,g,q2⟩=>?_)
 subst ex
 obtain rfl:u=Value.ref a:=rx
 exact ⟨ZCb I2 g,ZGT hu I2 g ry fun w' s3 I3 rw'=>⟨v,H2,I3,rw',q2⟩⟩
theorem Zyu (hu:X.A.units + 1 < cLine) (hi:PE X i ty) (ho:PE X o td):PC X .In i o (tDIn ty td):=by
 try unfold PE at *
 intro pins s σ H Q I h
 refine thn (hi pins s σ H _ I h) fun iv s1 ⟨y,H1,I1,ry,q1⟩=>thn (ho pins s1 σ H1 _ I1 q1) fun u s2 ⟨x,H2,I2,rx,a,ov,ex,g,q2⟩=>?_
 subst ex
 obtain rfl:u=Value.ref a:=rx
 exact d_in hu I2 g ry fun s3 I3=>⟨.bl ov.isSome,H2,I3,rfl,q2⟩
theorem Zet (hu:X.A.units + 1 < cLine) (hi:PE X i ty) (ho:PE X o td):PC X .NotIn i o (ZJq ty td):=by
 try unfold PE at *
 intro pins s σ H Q I h
 refine thn (hi pins s σ H _ I h) fun iv s1 ⟨y,H1,I1,ry,q1⟩=>thn (ho pins s1 σ H1 _ I1 q1) fun u s2 ⟨x,H2,I2,rx,a,ov,ex,g,q2⟩=>?_
 subst ex
 obtain rfl:u=Value.ref a:=rx
 exact ZKr hu I2 g ry fun s3 I3=>⟨.bl (!ov.isSome),H2,I3,rfl,q2⟩
theorem Zrj (hu:X.A.units + 1 < cLine) (ho:PE X o td) (hi:PE X i ty) (hv:PE X value tv) (hs:swapsWith value (some (.Subscript o i pos')) pos.line X.env=pure false) :
  PS X (.Assign [.Subscript o i pos'] value pos) (ZMm td ty tv):=by
 try unfold PE at *;try unfold PS at *
 intro pins s σ H D I h
 refine wpAny_Assign_Subscript (thn (hv pins s σ H _ I h) fun r s1 ⟨v,H1,I1,rv,q1⟩=>thn (ho pins s1 σ H1 _ I1 q1) fun u s2 ⟨x,H2,I2,rx,q2⟩=>thn (hi pins s2 σ H2 _ I2 q2) fun iv s3 ⟨y,H3,I3,ry,a,H4,ex,g,q3⟩=>?_) hs
 subst ex
 obtain rfl:u=Value.ref a:=rx
 exact ZGS hu I3 g ry rv fun s4 I4=>⟨σ,H4,I4,q3⟩
end
theorem ZDp {P:Program} {w:World} {H:Hp} (h:Heap) (hb:sysModules < h.objs.size):Zam P w H (h.push {cls:=.type "dict",data:=.dict #[]}) h.objs.size (.dK []):=
 ⟨Nat.zero_le _,beq_eq_false_iff_ne.mpr (Ne.symm (Nat.ne_of_lt hb)),[],.nil,Heap.DictOf.new h⟩
theorem ZIx {P:Program} {w:World} {H:Hp} (h:Heap) (hb:sysModules < h.objs.size):Zam P w H (h.push {cls:=.type "dict",data:=.dict #[]}) h.objs.size (.dT []):=
 ⟨Nat.zero_le _,beq_eq_false_iff_ne.mpr (Ne.symm (Nat.ne_of_lt hb)),[],.nil,_,#[],0,Heap.get?_push_size _ rfl,⟨rfl,rfl,rfl⟩,rfl,rfl,List.nodup_nil⟩
def ZKM:TE:=fun _ H Q=>∀ p,H p=none→Q (.ref p) (upd H p (.dK []))
def ZKL:TE:=fun _ H Q=>∀ p,H p=none→Q (.ref p) (upd H p (.dT []))
section
variable {X:Cx} {pos:Pos}
theorem Ze1:PE X (.Dict [] [] pos) ZKM:=by
 try unfold PE at *
 exact fun pins s σ H Q I h=>
  wpAny_Dict_empty ⟨.ref s.heap.objs.size,_,I.laid (a:=s.heap.objs.size) (o:=.dK []) (t':=s.toks) (fun _ _ q=>Heap.get?_push_of_some _ q) (Nat.le_refl _) (ZDp s.heap I.big),rfl,h _ (I.hok.fresh (Nat.le_refl _))⟩
theorem ZC5:PE X (.Dict [] [] pos) ZKL:=by
 try unfold PE at *
 exact fun pins s σ H Q I h=>
  wpAny_Dict_empty ⟨.ref s.heap.objs.size,_,I.laid (a:=s.heap.objs.size) (o:=.dT []) (t':=s.toks) (fun _ _ q=>Heap.get?_push_of_some _ q) (Nat.le_refl _) (ZIx s.heap I.big),rfl,h _ (I.hok.fresh (Nat.le_refl _))⟩
end
def ZFh:List (TE×TE)→St→Hp→(List (V×V)→Hp→Prop)→Prop
  | [],_,H,Q=>Q [] H
  | (tk,tv)::r,σ,H,Q=>tk σ H fun x H1=>tv σ H1 fun y H2=>ZFh r σ H2 fun ps H3=>Q ((x,y)::ps) H3
abbrev VV:List (V×V)→List (Value×Value)→Prop:=Paired fun p q=>RelV p.1 q.1∧RelV p.2 q.2
@[irreducible] def PPs (X:Cx) (pos:Pos) (keys:List (Option Expr)) (values:List Expr) (trs:List (TE×TE)):Prop:=
 ∀ (pins:List (Addr×Obj)) (s:Shared) (σ:St) (H:Hp) (Q:List (V×V)→Hp→Prop),Inv X pins σ H s→ZFh trs σ H Q→
  wpAny (model X.prog X.w) X.A (evalPairs (pairTrees keys values X.env pos)) (fun vs s'=>∃ ps H',Inv X pins σ H' s'∧VV ps vs∧Q ps H') X.xe s
theorem Zrk {X:Cx} {pos:Pos}:PPs X pos [] [] []:=by
 try unfold PPs at *
 exact fun pins s σ H Q I h=>pairTrees_nil_walk ⟨[],H,I,.nil,h⟩
theorem Zbe {X:Cx} {pos:Pos} {k v:Expr} {ks:List (Option Expr)} {vs:List Expr} {tk tv:TE} {trs:List (TE×TE)} (hk:PE X k tk) (hv:PE X v tv) (hr:PPs X pos ks vs trs) :
  PPs X pos (some k::ks) (v::vs) ((tk,tv)::trs):=by
 try unfold PE at *;try unfold PPs at *
 exact fun pins s σ H Q I h=>
  pairTrees_cons_walk (thn (hk pins s σ H _ I h) fun u s1 ⟨x,H1,I1,rx,q1⟩=>thn (hv pins s1 σ H1 _ I1 q1) fun w2 s2 ⟨y,H2,I2,ry,q2⟩=>
   thn (hr pins s2 σ H2 _ I2 q2) fun ws s3 ⟨ps,H3,I3,rel,q3⟩=>⟨(x,y)::ps,H3,I3,.cons ⟨rx,ry⟩ rel,q3⟩)
def ZiG (kvs more:List (Key×V)):List (Key×V):=more.foldl (fun acc kv=>putK acc kv.1 kv.2) kvs
theorem KV.merge:∀ {more:List (Key×V)} {rs:List (Key×Value)} {kvs:List (Key×V)} {vs:List (Key×Value)},KV more rs→KV kvs vs→KV (ZiG kvs more) (merged vs rs):=by
 intro more rs kvs vs r
 unfold KV at r
 induction r generalizing kvs vs with
 | nil=>intro q;exact q
 | @cons p q ps qs h t ih=>
  intro r0
  have e:KV (putK kvs p.1 p.2) (stored vs q.1 q.2):=by
   have:=r0.put p.1 h.2
   rw [← h.1];exact this
  exact ih e
theorem Zlx:∀ (more kvs:List (Key×V)),(ZiG kvs more).length≤kvs.length + more.length
 | [],kvs=>by show kvs.length≤kvs.length + 0;omega
 | p::r,kvs=>by
  have h1:=Zlx r (putK kvs p.1 p.2)
  have h2:=Ze8 kvs p.1 p.2
  show (ZiG (putK kvs p.1 p.2) r).length≤_
  rw [List.length_cons];omega
theorem ZuI {P:Program} {w:World}:∀ {kvs:List (Key×V)} {ws:List (Value×Value)},VV (kvs.map fun kv=>(kV kv.1,kv.2)) ws→∃ rs,Carries (ZW P w) ws rs∧KV kvs rs
 | [],_,r=>by rw [List.map_nil] at r;cases r;exact ⟨[],True.intro,.nil⟩
 | p::kvs,_,r=>by
  rw [List.map_cons] at r
  cases r with
  | @cons a b as bs h t=>
   obtain ⟨rs,c,q⟩:=ZuI (P:=P) (w:=w) t
   obtain ⟨b1,b2⟩:=b
   exact ⟨(p.1,b2)::rs,⟨ZB2 h.1,rfl,c⟩,.cons ⟨rfl,h.2⟩ q⟩
def ZMi (trs:List (TE×TE)):TE:=fun σ H Q=>∀ p,H p=none→ZFh trs σ (upd H p (.dK [])) fun ps H2=>H2 p=some (.dK [])∧∃ kvs:List (Key×V),ps=kvs.map (fun kv=>(kV kv.1,kv.2))∧kvs.length≤15∧Q (.ref p) (upd H2 p (.dK (ZiG [] kvs)))
theorem Zrq {X:Cx} {pos:Pos} {keys:List (Option Expr)} {values:List Expr} {trs:List (TE×TE)} (h:PPs X pos keys values trs) (hall:keys.all (·.isSome)=true) (hl:keys.length=values.length) (h0:keys≠[])
  (h15:keys.length≤15):PE X (.Dict keys values pos) (ZMi trs):=by
 try unfold PE at *;try unfold PPs at *
 intro pins s σ H Q I q
 have hn:=I.hok.fresh (Nat.le_refl s.heap.objs.size)
 have I1:=I.laid (a:=s.heap.objs.size) (o:=.dK []) (h':=s.heap.push {cls:=.type "dict",data:=.dict #[]}) (t':=s.toks) (fun _ _ q=>Heap.get?_push_of_some _ q) (Nat.le_refl _) (ZDp s.heap I.big)
 refine wpAny_Dict_walk (knd:=ZW X.prog X.w) hall hl h0 h15 (thn (h pins _ σ _ _ I1 (q _ hn)) fun ws s2 ⟨ps,H2,I2,rel,e,kvs,ep,lk,q2⟩=>?_)
 subst ep
 obtain ⟨rs,c,rk⟩:=ZuI (P:=X.prog) (w:=X.w) rel
 obtain ⟨z,hd,vs0,r0,dd⟩:=ZLS I2.hok e
 cases r0
 refine ⟨rs,c,dd,fun h' dd' hs=>⟨.ref s.heap.objs.size,_,?_,rfl,q2⟩⟩
 have hz:(ZiG [] kvs).length≤sizeLine:=by
  have h1:=Zlx kvs []
  rw [List.length_nil] at h1
  rw [sizeLine_eq];omega
 have he:∃ q,h'.get? s.heap.objs.size=some q:=let ⟨q,_,_,hq,_⟩:=dd';⟨q,hq⟩
 exact ZCc I2 (by rw [e];exact True.intro) hs he (ZGM hz hd (rk.merge .nil) dd')
structure M1 (X:Cx) (o:Expr) (m:Str) (apos:Pos) (e:Expr) (cpos:Pos):Prop where
 base:attributeBase o m X.env (eval o X.env)=eval o X.env
 few:((backTo cpos (starEach [e] X.env)).all (fun x=>!x.1) && (backToKw cpos (keywordEach [] X.env)).all (fun x=>x.1.isSome)
  && decide (([e]:List Expr).length + ([]:List Keyword).length + (if ([]:List Keyword).isEmpty then 0 else 1) < 30))=true
 line:(apos.endLine == cpos.line)=true
 trees:backTo cpos (starEach [e] X.env)=[(false,eval e X.env)]
def IsD (H:Hp) (a:Addr):Prop:=(∃ kvs,Rd H a (.dK kvs))∨∃ kvs,Rd H a (.dT kvs)
theorem ZLG {X:Cx} {pins:List (Addr×Obj)} {σ:St} {H:Hp} {s:Shared} {a:Addr} (I:Inv X pins σ H s) (d:IsD H a) :
  s.TypeIs (.ref a) "dict"∧(∀ b,Value.ref a=.ref b→∃ ob,s.heap.get? b=some ob∧ob.dict=none)∧(a == sysModules)=false:=by
 rcases d with ⟨kvs,e⟩ | ⟨kvs,e⟩
 ·obtain ⟨_,hd,vs,_,dd⟩:=ZqB I.hok e
  refine ⟨dd.typeIs,fun b q=>?_,hd⟩
  cases q
  obtain ⟨ob,_,_,h1,h2,_⟩:=dd
  exact ⟨ob,h1,h2.2.1⟩
 ·obtain ⟨_,hd,xs,_,dd⟩:=ZCa I.hok e
  refine ⟨dd.typeIs,fun b q=>?_,hd⟩
  cases q
  obtain ⟨ob,_,_,h1,h2,_⟩:=dd
  exact ⟨ob,h1,h2.2.1⟩
section
variable {X:Cx} {pins:List (Addr×Obj)} {σ:St} {H:Hp} {s:Shared} {a:Addr} {y d:V} {u r:Value} {o:Option V} {A:Around} {E:Value→Shared→Prop}
theorem ZLT {Q:Value→Shared→Prop} (hu:A.units + 1 < cLine) (I:Inv X pins σ H s) (g:DGet H a y o) (ry:RelV y u) (h:∀ w' s',Inv X pins σ H s'→RelV (o.getD .non) w'→Q w' s') :
  wpAny (model X.prog X.w) A (call (.builtin "dict.get") [.ref a,u]) Q E s:=by
 rcases g with ⟨kvs,k,e,ey,l⟩ | ⟨kvs,k,b,e,ey,eb,l⟩
 ·subst ey
  obtain ⟨z,hd,vs,rel,dd⟩:=ZqB I.hok e
  refine call_meetsIn PySem.F.slot_dict_get dd.typeIs PySem.F.entry_dict_get (PySem.F.args_dict_get_2 _ _) (meets_dict_get (ZW X.prog X.w) a (ZB2 ry) hd) ⟨_,dd.mapOf,h _ _ (I.tok _) ?_⟩
  rw [l]
  exact (rel.val k).getD rfl
 ·subst ey
  cases (show u=Value.ref b from ry)
  obtain ⟨z,hd,xs,rel,dd⟩:=ZCa I.hok e
  refine call_meetsIn PySem.F.slot_dict_get dd.typeIs PySem.F.entry_dict_get (PySem.F.args_dict_get_2 _ _) (meetsH_dict_get (tupleKind (ZW X.prog X.w)) a b hd) ⟨tupleKind_room_in1 hu,k,xs,Zuo I.hok eb,dd,h _ _ (I.tok _) ?_⟩
  rw [l]
  exact (rel.val k).getD rfl
end
def ZKN (td ty:TE):TE:=fun σ H Q=>td σ H fun x H1=>∃ a,x=.ref a∧IsD H1 a∧ty σ H1 fun y H2=>∃ o,DGet H2 a y o∧Q (o.getD .non) H2
section
variable {X:Cx} {o e f:Expr} {apos cpos:Pos} {td ty tx:TE}
theorem ZHN (hu:X.A.units + 1 < cLine) (ho:PE X o td) (he:PE X e ty) (m:M1 X o "get" apos e cpos):PE X (.Call (.Attribute o "get" apos) [e] [] cpos) (ZKN td ty):=by
 try unfold PE at *
 intro pins s σ H Q I h
 refine wpAny_Call_method m.base m.few m.line PySem.F.plainAttrs_dict PySem.F.slot_dict_get PySem.F.type_dict_get (thn (ho pins s σ H _ I h) fun u s1 ⟨x,H1,I1,rx,a,ex,d,q1⟩=>?_)
 subst ex
 obtain rfl:u=Value.ref a:=rx
 obtain ⟨t1,t2,_⟩:=ZLG I1 d
 refine ⟨t1,t2,?_⟩
 rw [m.trees]
 refine Calls.callWith_builtin rfl (Calls.evalArgs_plain (Calls.spliced_cons (thn (he pins s1 σ H1 _ I1 q1) fun iv s2 ⟨y,H2,I2,ry,ov,g,q2⟩=>Calls.spliced_nil ?_)))
 exact ZLT hu I2 g ry fun w' s3 I3 rw'=>⟨_,H2,I3,rw',q2⟩
end
section
variable {X:Cx} {pins:List (Addr×Obj)} {σ:St} {H:Hp} {s:Shared} {a:Addr} {kvs:List (Key×V)} {A:Around} {E:Value→Shared→Prop}
theorem ZIA {Q:Value→Shared→Prop} (I:Inv X pins σ H s) (e:Rd H a (.dK kvs)) (h:∀ p s',H p=none→Inv X pins σ (upd H p (.dK kvs)) s'→Q (.ref p) s'):wpAny (model X.prog X.w) A (call (.type "dict") [.ref a]) Q E s:=by
 obtain ⟨z,hd,vs,rel,dd⟩:=ZqB I.hok e
 refine kt_call_dict hd dd (by rw [← rel.length];exact z) fun h' dd' hs=>?_
 refine h _ _ (I.hok.fresh (Nat.le_refl _)) (I.laid (a:=s.heap.objs.size) (o:=.dK kvs) (t':=s.toks) (fun b q hq=>?_) (Nat.le_refl _) (ZGM z (beq_eq_false_iff_ne.mpr (Ne.symm (Nat.ne_of_lt I.big))) rel dd'))
 exact (hs.2 b (Nat.ne_of_lt (Heap.lt_size hq))).trans (Heap.get?_push_of_some _ hq)
end
section
variable {X:Cx} {pins:List (Addr×Obj)} {σ:St} {H:Hp} {s:Shared} {a:Addr} {y:V} {u:Value} {A:Around} {E:Value→Shared→Prop}
end
end L2
namespace L2
open PySem PySem.Spec PyProof.Rows
section
variable {X:Cx}
theorem ZG4:ZfR X (.builtin "len") (fun xs H Q=>∃ a kvs,xs=[V.ref a]∧H a=some (.dK kvs)∧Q (.int kvs.length) H):=by
 intro pins s σ H xs us Q I r h
 obtain ⟨a,kvs,rfl,ha,q⟩:=h
 obtain ⟨u,rfl,ru⟩:=ZE7 r
 cases ru
 exact ZMI I (.inl ha) fun t s' I'=>⟨.int kvs.length,H,I',⟨t,rfl⟩,q⟩
end
section
variable {κ:Type} [DecidableEq κ]
end
end L2
namespace L2
open PySem PySem.Spec PyProof.Rows PySem.W
section
variable {X:Cx}
theorem ZtE:MtR X "str.startswith" (fun x vs H Q=>∃ a b,x=.str a∧vs=[.str b]∧Q (.bl (decide (0 + b.length≤a.length) && Builtin.Str.subAt a b 0)) H):=by
 intro pins s σ H x xs v us Q I rx rs h
 obtain ⟨a,b,rfl,rfl,q⟩:=h
 obtain ⟨t,rfl⟩:=rx
 obtain ⟨u,rfl,ru⟩:=rs.one
 obtain ⟨tk,rfl⟩:=ru
 exact call_gives F.slot_str_startswith (typeIs_str _ _ _) F.entry_str_startswith (F.args_str_startswith_2 _ _) (gives_str_startswith a b t tk) ⟨.bl _,H,I,rfl,q⟩
theorem ZBL:MtR X "str.isalnum" (fun x vs H Q=>∃ a,x=.str a∧vs=[]∧Q (.bl (Txt.isalnum a)) H):=by
 intro pins s σ H x xs v us Q I rx rs h
 obtain ⟨a,rfl,rfl,q⟩:=h
 obtain ⟨t,rfl⟩:=rx
 have:=rs.zero
 subst this
 exact SC.isalnum ⟨.bl _,H,I,rfl,q⟩
theorem ZF6:MtR X "str.index" (fun x vs H Q=>∃ a b i rest,x=.str a∧vs=[.str b]∧Builtin.Str.occurrences a b 0 a.length 1=i::rest∧Q (.int (i:Nat)) H):=by
 intro pins s σ H x xs v us Q I rx rs h
 obtain ⟨a,b,i,rest,rfl,rfl,e,q⟩:=h
 obtain ⟨t,rfl⟩:=rx
 obtain ⟨u,rfl,ru⟩:=rs.one
 obtain ⟨tk,rfl⟩:=ru
 exact call_gives F.slot_str_index (typeIs_str _ _ _) F.entry_str_index (F.args_str_index_2 _ _) (gives_str_index a b t tk i rest e) ⟨.int _,H,I.tok _,⟨_,rfl⟩,q⟩
def ZaJ (a b:Str):List Str:=
 if (decide (a.length < b.length) || decide (Builtin.Str.strKind a < Builtin.Str.strKind b))=true then [a]
 else if (Builtin.Str.occurrences a b 0 a.length (a.length + 1)).isEmpty=true then [a]
 else Builtin.Str.partsBetween a (Builtin.Str.occurrences a b 0 a.length (a.length + 1)) b.length
theorem Zko:∀ (ps:List Str) (n:Nat),Vals (ps.map V.str) (strsFrom n ps)
 | [],_=>.nil
 | p::r,n=>.cons ⟨_,rfl⟩ (Zko r (n + 1))
theorem Zy1:MtR X "str.split" (fun x vs H Q=>∃ a b,x=.str a∧vs=[.str b]∧(b.length == 0)=false∧a.length≤sizeLine∧(ZaJ a b).length≤sizeLine∧∀ p,H p=none→Q (.ref p) (upd H p (.lst ((ZaJ a b).map V.str)))):=by
 intro pins s σ H x xs v us Q I rx rs h
 obtain ⟨a,b,rfl,rfl,hb,ha,hz,q⟩:=h
 obtain ⟨t,rfl⟩:=rx
 obtain ⟨u,rfl,ru⟩:=rs.one
 obtain ⟨tk,rfl⟩:=ru
 have one:ZaJ a b=[a]→EP X pins σ Q (.ref s.heap.objs.size) {s with heap:=s.heap.push {cls:=.type "list",data:=.seq [Value.str a t].toArray}}:=fun e=>by
  have qq:=q _ I.fresh
  rw [e] at qq
  exact ⟨.ref _,_,I.lnew (t':=s.toks) (ys:=[V.str a]) (its:=[Value.str a t]) (.cons ⟨t,rfl⟩ .nil) (by show 1≤sizeLine;decide),rfl,qq⟩
 cases h1:(decide (a.length < b.length) || decide (Builtin.Str.strKind a < Builtin.Str.strKind b)) with
 | true=>exact call_meets F.slot_str_split (typeIs_str _ _ _) F.entry_str_split (F.args_str_split_2 _ _) (meets_str_split_cannot_occur a b t tk h1) (one (by unfold ZaJ;rw [if_pos h1]))
 | false=>
  cases h2:(Builtin.Str.occurrences a b 0 a.length (a.length + 1)).isEmpty with
  | true=>exact call_meets F.slot_str_split (typeIs_str _ _ _) F.entry_str_split (F.args_str_split_2 _ _) (meets_str_split_not_found a b t tk h1 hb h2) (one (by unfold ZaJ;rw [if_neg (by rw [h1];exact Bool.false_ne_true),if_pos h2]))
  | false=>
   have e:ZaJ a b=Builtin.Str.partsBetween a (Builtin.Str.occurrences a b 0 a.length (a.length + 1)) b.length:=by
    unfold ZaJ;rw [if_neg (by rw [h1];exact Bool.false_ne_true),if_neg (by rw [h2];exact Bool.false_ne_true)]
   refine call_meets F.slot_str_split (typeIs_str _ _ _) F.entry_str_split (F.args_str_split_2 _ _) (meets_str_split_sep a b t tk h1 hb h2 ha (by rw [← e];exact hz)) ?_
   rw [← e]
   exact ⟨.ref _,_,I.lnew (Zko _ _) (by rw [List.length_map];exact hz),rfl,q _ I.fresh⟩
def cutS (x:Str) (lo hi:Option Int):Str:=
 if ((Builtin.Str.strSliceIndices lo hi 1 x.length).length == x.length)=true then x else ⟨((Builtin.Str.strSliceIndices lo hi 1 x.length).filterMap (x.cps[·]?)).toArray⟩
theorem ZFV {v:Value} {o:Option Int} (p:IsPart v o):∃ q:Option (Int×Tok),v=partValue q∧q.map (·.1)=o:=by
 cases p with
 | none=>exact ⟨none,rfl,rfl⟩
 | int i t=>exact ⟨some (i,t),rfl,rfl⟩
theorem ZK5:SlR X (fun x lo hi H Q=>∃ a,x=.str a∧(cutS a lo hi).length≤sizeLine∧Q (.str (cutS a lo hi)) H):=by
 intro pins s σ H x v vl vu lo hi sl Q I rx hs pl pu h
 obtain ⟨a,rfl,hz,q⟩:=h
 obtain ⟨t,rfl⟩:=rx
 obtain ⟨l,rfl,rfl⟩:=ZFV pl
 obtain ⟨u,rfl,rfl⟩:=ZFV pu
 refine ⟨"str",_,F.slot_str_getitem.lookup,typeIs_str _ _ _,?_⟩
 refine getItem_meets (typeIs_str s a t) (by decide) F.slot_str_getitem F.entry_str_getitem (F.args_str_getitem_2 _ _) (meets_str_getitem_slice a t sl l u none rfl) ⟨hs,?_⟩
 unfold cutS at hz q
 unfold sliceMade slicePicked
 by_cases hw:((Builtin.Str.strSliceIndices (l.map (·.1)) (u.map (·.1)) 1 a.length).length == a.length)=true
 ·rw [if_pos hw] at hz q
  rw [if_pos (by show (true && _)=true;rw [Bool.true_and];exact hw)]
  exact ⟨.str a,H,I,⟨t,rfl⟩,q⟩
 ·rw [if_neg hw] at hz q
  rw [if_neg (by show ¬ (true && _)=true;rw [Bool.true_and];exact hw)]
  exact ⟨hz,.str _,H,I.tok _,⟨_,rfl⟩,q⟩
def PJ (X:Cx) (es:List Expr) (t:Str→St→Hp→VK→Prop):Prop:=
 ∀ (acc:Str) (pins:List (Addr×Obj)) (s:Shared) (σ:St) (H:Hp) (Q:VK),Inv X pins σ H s→t acc σ H Q→wpAny (model X.prog X.w) X.A (joinParts acc (evalEach es X.env)) (EP X pins σ Q) X.xe s
theorem ZFO:PJ X [] (fun acc _ H Q=>acc.length≤sizeLine∧Q (.str acc) H):=fun acc pins s σ H Q I h=>
 joinParts_nil ⟨.str acc,H,I.tok _,⟨_,rfl⟩,h.2⟩ h.1
theorem ZFN {y:Str} {j pos} {es:List Expr} {t:Str→St→Hp→VK→Prop} (h:PJ X es t):PJ X (.Constant (.str y) j pos::es) (fun acc σ H Q=>(acc++y).length≤sizeLine∧t (acc++y) σ H Q):=fun acc pins s σ H Q I hq=>
 joinParts_cons (Calls.Constant_str ⟨hq.1,h _ pins _ σ H Q (I.tok _) hq.2⟩)
theorem ZFM {e:Expr} {pos} {es:List Expr} {te:TE} {t:Str→St→Hp→VK→Prop} (he:PE X e te) (h:PJ X es t):PJ X (.FormattedValue e (-1) none pos::es) (fun acc σ H Q=>te σ H fun x H1=>∃ y,x=.str y∧y.length≤sizeLine∧(acc++y).length≤sizeLine∧t (acc++y) σ H1 Q):=by
 try unfold PE at *
 exact fun acc pins s σ H Q I hq=>by
  refine joinParts_cons (FormattedValue_plain (thn (he pins s σ H _ I hq) fun u s1 ⟨x,H1,I1,rx,y,ex,hy,hz,q1⟩=>?_))
  subst ex
  obtain ⟨t,rfl⟩:=rx
  exact formatField_str (fun t' tk=>⟨hz,h _ pins _ σ H1 Q (I1.tok _) q1⟩) hy
theorem ZBs {e f:Expr} {es:List Expr} {pos:Pos} {t:Str→St→Hp→VK→Prop} (h:PJ X (e::f::es) t):PE X (.JoinedStr (e::f::es) pos) (fun σ H Q=>t Str.empty σ H Q):=by
 try unfold PE at *
 exact fun pins s σ H Q I hq=>
  JoinedStr_many (h Str.empty pins s σ H Q I hq)
theorem ZIH {bs:List Bool} {its:List Value} (r:Vals (bs.map V.bl) its) {i:Nat} {v:Value} (h:its.toArray[i]?=some v):v=.bool (bs.getD i false):=by
 have h':its[i]?=some v:=by simpa using h
 have hl:=r.length
 rw [List.length_map] at hl
 have hi:i < bs.length:=by
  have:=(List.getElem?_eq_some_iff.mp h').1
  omega
 obtain ⟨u,e,ru⟩:=r.get (i:=i) (x:=.bl (bs.getD i false)) (by rw [List.getElem?_map,List.getD_eq_getElem?_getD,List.getElem?_eq_getElem hi];rfl)
 rw [h'] at e
 cases e
 exact ru
theorem ZFE (bs:List Bool):((List.range bs.length).all fun i=>bs.getD i false)=bs.all id:=by
 rw [Bool.eq_iff_iff,List.all_eq_true,List.all_eq_true]
 constructor
 ·intro h b hb
  obtain ⟨i,hi,rfl⟩:=List.mem_iff_getElem.mp hb
  have:=h i (List.mem_range.mpr hi)
  rwa [List.getD_eq_getElem?_getD,List.getElem?_eq_getElem hi] at this
 ·intro h i hi
  have hi:=List.mem_range.mp hi
  rw [List.getD_eq_getElem?_getD,List.getElem?_eq_getElem hi]
  exact h _ (List.getElem_mem hi)
theorem ZqM (hc:X.calm=true:=by rfl):ZfR X (.builtin "all") (fun xs H Q=>∃ (p:Addr) (bs:List Bool),xs=[.ref p]∧SqL X.K H p (bs.map V.bl)∧Q (.bl (bs.all id)) H):=by
 intro pins s σ H xs us Q I r h
 obtain ⟨p,bs,rfl,hp,q⟩:=h
 obtain ⟨u,rfl,ru⟩:=r.one
 cases (show u=Value.ref p from ru)
 obtain ⟨its,rv,pl,hz⟩:=I.list hp
 have hlen:its.toArray.size=bs.length:=by rw [List.size_toArray,← rv.length,List.length_map]
 refine call_all_walk (wpAny_pyIter_list pl.isList ?_)
 have hlt:p < s.heap.objs.size:=by obtain ⟨o,ho,_⟩:=pl.isList;exact Heap.lt_size ho
 refine ⟨s.heap.objs.size,_,_,_,_,_,fun i=>bs.getD i false,rfl,Walks.list (A:=X.A.in1) (I.ok.hd hc) s.heap.objs.size p (Nat.ne_of_lt hlt) its.toArray,⟨⟨_,Heap.get?_push_size _ rfl,rfl,rfl⟩,pl.isList.at fun o e=>Heap.get?_push_of_some _ e⟩,fun i v s' Q' E' hv hQ=>?_,fun h' tk hk=>?_⟩
 ·rw [ZIH rv hv]
  exact wpAny_truthy_bool hQ
 ·rw [hlen,ZFE]
  exact ⟨.bl _,H,I.kept fun b o e=>hk b o (by intro z;rw [List.mem_singleton.mp z] at e;exact absurd (Heap.lt_size e) (Nat.lt_irrefl _)) (Heap.get?_push_of_some _ e),rfl,q⟩
theorem ZID (hc:X.calm=true:=by rfl):ZfR X (.builtin "sum") (fun xs H Q=>∃ (p:Addr) (ns:List Int),xs=[.ref p]∧SqL X.K H p (ns.map V.int)∧Q (.int ns.sum) H):=by
 intro pins s σ H xs us Q I r h
 obtain ⟨p,ns,rfl,hp,q⟩:=h
 obtain ⟨u,rfl,ru⟩:=r.one
 cases (show u=Value.ref p from ru)
 obtain ⟨its,rv,pl,hz⟩:=I.list hp
 have hi:IntsAre its ns:=Zuw rv
 obtain ⟨xs,e⟩:=hi.allInts.items
 have hn:=hi.numsOf
 refine sum_intListG (xs:=xs) (I.ok.hd hc) (by rw [← e];exact pl.isList) fun h' tk t' hk=>?_
 have hs:preSum (numAt xs) xs.size=ns.sum:=by
  rw [preSum_eq,List.take_of_length_le (by simp),← hn,← nums_intItems,← e]
 rw [hs]
 exact ⟨.int _,H,I.kept hk,⟨_,rfl⟩,q⟩
end
end L2
namespace L2
open PySem PySem.Spec PyProof.Rows PySem.W
def Zng:HO→Bool
 | .dK _=>true
 | .dT _=>true
 | _=>false
def ZeH:HO→List V
 | .dK kvs=>kvs.map (·.2)
 | .dT kvs=>kvs.map (·.2)
 | _=>[]
section
variable {X:Cx} {pins:List (Addr×Obj)} {σ:St} {H:Hp} {s:Shared} {a:Addr} {o u:HO}
theorem Inv.swap (I:Inv X pins σ H s) (h:H a=some u) (new:Zam X.prog X.w (upd H a o) s.heap a o) (h1:∀ x,u≠.own x) (h2:∀ xs,u≠.tup xs) (h3:∀ ps,u≠.tbl ps) (h4:∀ ob v,X.H₀ a≠some (.frz ob v)):Inv X pins σ (upd H a o) s:=by
 have hne:∀ b,H b=none→b≠a:=fun b n z=>by rw [z,h] at n;cases n
 refine ⟨I.ok,I.os,I.bare,⟨I.base.keep,I.base.slot,fun b ob e n hx=>?_,I.base.there,fun b xs e=>?_,fun b ob v e=>?_,fun b ps e=>?_⟩,I.loc,I.cell,?_,fun x c e=>?_,fun p z=>?_,fun b ob e=>?_,I.len⟩
 ·have z:=I.base.free b ob e n hx
  rw [Zc (hne b z)];exact z
 ·have z:=I.base.tups b xs e
  have:b≠a:=fun q=>by rw [q,h] at z;exact h2 xs (Option.some.inj z)
  rw [Zc this];exact z
 ·have:b≠a:=fun q=>h4 ob v (by rw [← q];exact e)
  rw [Zc this];exact I.base.frzs b ob v e
 ·obtain ⟨more,z⟩:=I.base.tbls b ps e
  have:b≠a:=fun q=>by rw [q,h] at z;exact h3 _ (Option.some.inj z)
  exact ⟨more,by rw [Zc this];exact z⟩
 ·rw [Zc (hne _ I.free)];exact I.free
 ·rw [Zc (hne _ (I.freeC x c e))];exact I.freeC x c e
 ·obtain ⟨z1,z2,z3⟩:=I.pin p z
  exact ⟨z1,by rw [Zc (hne _ z2)];exact z2,z3⟩
 ·by_cases hb:b=a
  ·subst hb
   rw [Zb] at e
   cases e
   exact new
  ·rw [Zc hb] at e
   refine (I.hok b ob e).stay (fun _ _ _ q=>q) (fun c q=>?_) fun c xs q=>?_
   ·rw [Zc (fun z=>by rw [z,h] at q;exact h1 _ (Option.some.inj q))];exact q
   ·rw [Zc (fun z=>by rw [z,h] at q;exact h2 _ (Option.some.inj q))];exact q
theorem Inv.freeze (I:Inv X pins σ H s) (h:H a=some u) (d:Zng u=true):∃ ob,s.heap.get? a=some ob∧Inv X pins σ (upd H a (.frz ob u)) s:=by
 obtain ⟨ob,e⟩:=(I.hok a u h).there
 refine ⟨ob,e,I.swap h ⟨e,?_⟩ ?_ ?_ ?_ ?_⟩
 ·refine (I.hok a u h).stay (fun _ _ _ q=>q) (fun c q=>?_) fun c xs q=>?_
  ·rw [Zc (fun z=>by rw [z,h] at q;cases q;cases d)];exact q
  ·rw [Zc (fun z=>by rw [z,h] at q;cases q;cases d)];exact q
 ·rintro x rfl;cases d
 ·rintro x rfl;cases d
 ·rintro x rfl;cases d
 ·intro ob' v z
  have:=I.base.frzs a ob' v z
  rw [h] at this
  cases this
  cases d
theorem Inv.thaw {ob:Obj} (I:Inv X pins σ H s) (h:H a=some (.frz ob u)) (d:Zng u=true) (h4:∀ ob v,X.H₀ a≠some (.frz ob v)):Inv X pins σ (upd H a u) s:=by
 refine I.swap h ?_ (fun _ z=>nomatch z) (fun _ z=>nomatch z) (fun _ z=>nomatch z) h4
 refine (I.hok a _ h).2.stay (fun _ _ _ q=>q) (fun c q=>?_) fun c xs q=>?_
 ·rw [Zc (fun z=>by rw [z,h] at q;cases q)];exact q
 ·rw [Zc (fun z=>by rw [z,h] at q;cases q)];exact q
theorem Inv.noFrz (I:Inv X pins σ H s) (h:H a=some u) (d:Zng u=true):∀ ob v,X.H₀ a≠some (.frz ob v):=fun ob v z=>by
 have:=I.base.frzs a ob v z
 rw [h] at this
 cases this
 cases d
end
def ZMb (a:Addr) (D:Ends):Ends where
 nx:=fun σ H=>∃ ob u,H a=some (.frz ob u)∧Zng u=true∧D.nx σ (upd H a u)
 rt:=fun v H=>∃ ob u,H a=some (.frz ob u)∧Zng u=true∧D.rt v (upd H a u)
 bk:=fun σ H=>∃ ob u,H a=some (.frz ob u)∧Zng u=true∧D.bk σ (upd H a u)
 ct:=fun σ H=>∃ ob u,H a=some (.frz ob u)∧Zng u=true∧D.ct σ (upd H a u)
def ZMc (t:TS):TS:=fun D σ H=>∃ a u,H a=some u∧Zng u=true∧t (ZMb a D) σ H
theorem ZFH {X:Cx} {st:Stmt} {t:TS} (h:PS X st t):PS X st (ZMc t):=by
 try unfold PS at *
 rintro pins s σ H D I ⟨a,u,ha,hd,q⟩
 have h4:=I.noFrz ha hd
 refine wpAny_mono (h pins s σ H _ I q) (fun f s1 z=>?_) fun _ _ z=>z
 cases f with
 | next=>obtain ⟨σ',H',I',ob,u',e,d',q'⟩:=z;exact ⟨σ',_,I'.thaw e d' h4,q'⟩
 | brk=>obtain ⟨σ',H',I',ob,u',e,d',q'⟩:=z;exact ⟨σ',_,I'.thaw e d' h4,q'⟩
 | cont=>obtain ⟨σ',H',I',ob,u',e,d',q'⟩:=z;exact ⟨σ',_,I'.thaw e d' h4,q'⟩
 | ret v=>obtain ⟨x,σ',H',I',r,ob,u',e,d',q'⟩:=z;exact ⟨x,σ',_,I'.thaw e d' h4,r,q'⟩
theorem Zub {P:Program} {w:World}:∀ {es:List DictEntry} {vs:List (Key×Value)} {kvs:List (Key×V)},Pairs (ZW P w) es vs→KV kvs vs→Vals (kvs.map (·.2)) (es.map (·.val))
 | _,_,_,.nil,r=>by cases r;exact .nil
 | _,_,_,.cons _ e p,r=>by
  cases r with
  | cons h t=>
   refine .cons ?_ (Zub p t)
   have z:=h.2
   rw [← e] at z
   exact z
theorem ZGh {P:Program} {w:World} {H:Hp}:∀ {kvs:List (List Key×V)} {xs:List (List Key×Addr×Value)},KT H kvs xs→Vals (kvs.map (·.2)) ((xs.map (entryOfKey (tupleKind (ZW P w)))).map (·.val))
 | _,_,.nil=>.nil
 | _,_,.cons h t=>.cons h.2.2 (ZGh t)
theorem ZwZ {P:Program} {w:World} {H:Hp} {h:Heap} {a:Addr} {u:HO} {ob:Obj} (x:Zam P w H h a u) (d:Zng u=true) (e:h.get? a=some ob) :
  (a == sysModules)=false∧(ZeH u).length≤sizeLine∧ob.ExactDict∧∃ es ep,ob.data=.dict es ep∧Vals (ZeH u) (es.toList.map (·.val)):=by
 cases u with
 | dK kvs=>
  obtain ⟨z,y,vs,r,o,es,ep,e1,ex,dd,_,pr,_⟩:=x
  rw [e] at e1
  cases e1
  exact ⟨y,by show (kvs.map (·.2)).length≤_;rw [List.length_map];exact z,ex,es,ep,dd,Zub pr r⟩
 | dT kvs=>
  obtain ⟨z,y,xs,r,o,es,ep,e1,ex,dd,el,_⟩:=x
  rw [e] at e1
  cases e1
  refine ⟨y,by show (kvs.map (·.2)).length≤_;rw [List.length_map];exact z,ex,es,ep,dd,?_⟩
  rw [el]
  exact ZGh r
 | _=>cases d
def ZJl (r d:Addr):HO:=.ext fun h=>h.IsValuesView r d
section
variable {X:Cx} {pins:List (Addr×Obj)} {σ:St} {H:Hp} {s:Shared}
theorem Inv.dct {a:Addr} {u:HO} (I:Inv X pins σ H s) (h:Rd H a u) (d:Zng u=true):∃ ob,s.heap.get? a=some ob∧(a == sysModules)=false∧(ZeH u).length≤sizeLine∧ob.ExactDict∧∃ es ep,ob.data=.dict es ep∧Vals (ZeH u) (es.toList.map (·.val)):=by
 have ok:=h.ok I.hok
 obtain ⟨ob,e⟩:=ok.there
 exact ⟨ob,e,ZwZ ok d e⟩
theorem ZEt:MtR X "dict.values" (fun x vs H Q=>∃ a u,x=.ref a∧vs=[]∧Rd H a u∧Zng u=true∧∀ p,H p=none→Q (.ref p) (upd H p (ZJl p a))):=by
 intro pins s σ H x xs v us Q I rx rs h
 obtain ⟨a,u,rfl,rfl,ha,hd,q⟩:=h
 cases (show v=Value.ref a from rx)
 have:=rs.zero
 subst this
 obtain ⟨ob,e,hs,_,ex,es,ep,dd,_⟩:=I.dct ha hd
 have hT:s.TypeIs (.ref a) "dict":=⟨ob,e,ex.1⟩
 have m:Meets (Builtin.«dict.values» ⟨[.ref a],[]⟩) (fun _ R s=>s.TypeIs (.ref a) "dict"∧R (.ok (.ret (.ref s.heap.objs.size))) {s with heap:=s.heap.push {cls:=.type "dict_values",data:=.fields #[.ref a]}}):=
  .of_wp fun P2 w2 A2 R2 s2 ⟨ty2,k2⟩=>by
   refine wpAny_bind ?_;unfold Builtin.Dict.noArgs
   refine wpAny_bind (wpAny_notOrdered_dict ty2 ?_);show wpAny _ _ (pure a) _ _ s2
   refine wpAny_pure ?_;show wpAny _ _ (Builtin.Dict.showsAll a >>= _) _ _ s2
   unfold Builtin.Dict.showsAll;rw [if_neg (by rw [hs];exact Bool.false_ne_true)]
   exact wpAny_bind (wpAny_pure (wpAny_bind (wpAny_newObj_type (wpAny_pure ⟨_,rfl,k2⟩))))
 refine call_meets F.slot_dict_values hT F.entry_dict_values (F.args_dict_values_1 _) m ⟨hT,?_⟩
 refine ⟨.ref _,upd H s.heap.objs.size (ZJl s.heap.objs.size a),I.laid (t':=s.toks) (fun b ob q=>Heap.get?_push_of_some _ q) (Nat.le_refl _) ?_,rfl,q _ I.fresh⟩
 refine ⟨⟨_,Heap.get?_push_size _ rfl,rfl,rfl⟩,⟨_,Heap.get?_push_size _ rfl⟩,fun h1 h2 ⟨o,e1,e2⟩ k=>⟨o,k o e1,e2⟩⟩
theorem ZBq {r d:Addr} {ob:Obj} {es:Array DictEntry} {ep:Nat} {Q:Value→Shared→Prop} {A:Around} {E:Value→Shared→Prop} (v:s.heap.IsValuesView r d) (e:s.heap.get? d=some ob) (dd:ob.data=.dict es ep)
  (q:Q (.ref s.heap.objs.size) {s with heap:=s.heap.push {cls:=.type "dict_valueiterator",data:=.fields #[.ref d,.int 0 0,.int es.size 0,.int ep 0]}}):wpAny (model X.prog X.w) A (pyIter (.ref r)) Q E s:=by
 have tv:=v.typeIs
 obtain ⟨oV,e1,c1,d1⟩:=v
 refine wpAny_pyIter_slot tv F.slot_dict_values_iter (wpAny_call_entry F.slot_dict_values_iter tv F.entry_dict_values_iter ?_ (F.args_dict_values_iter_1 _))
 unfold Builtin.«dict_values.__iter__» Builtin.Dict_items.dictOf Builtin.Dict_items.newIterator
 refine wpAny_bind (wpAny_pure (wpAny_bind (wpAny_bind (wpAny_field e1 d1 (x:=.ref d) rfl (wpAny_pure ?_)))))
 refine wpAny_bind (wpAny_bind (wpAny_dictEntries e dd (wpAny_bind (wpAny_dictEpoch e dd ?_))))
 rw [show Builtin.Dict_items.ownsTuple "dict_valueiterator"=false from by decide]
 simp only [Bool.false_eq_true,if_false]
 exact wpAny_newObj_type (wpAny_pure ⟨_,rfl,"dict_valueiterator",_,⟨_,Heap.get?_push_size _ rfl,rfl⟩,F.slot_dict_valueiterator_next.lookup,by simpa [rawInt] using q⟩)
theorem Zu8 {it:Addr} {Q:String→Shared→Prop} {A:Around} {E:Value→Shared→Prop} (ty:s.TypeIs (.ref it) "dict_valueiterator") (q:Q "dict_valueiterator" s):wpAny (model X.prog X.w) A (typeNameOfWhole (.ref it)) Q E s:=wpAny_typeNameOfWhole_valiter ty q
theorem ZJm {it d:Addr} {ob:Obj} {es:Array DictEntry} {ep i:Nat} {x:DictEntry} {Q:Option Value→Shared→Prop} {A:Around} {E:Value→Shared→Prop} (v:s.heap.IsValIter it d i es.size ep) (e:s.heap.get? d=some ob) (dd:ob.data=.dict es ep)
  (hx:es[i]?=some x) (q:∀ h',h'.IsValIter it d (i + 1) es.size ep→Heap.SameBut it s.heap h'→Q (some x.val) {s with heap:=h'}):wpAny (model X.prog X.w) A (pyNext (.ref it)) Q E s:=by
 have ty:=v.typeIs
 obtain ⟨oI,e1,c1,d1⟩:=v
 have hi:i < es.size:=(Array.getElem?_eq_some_iff.mp hx).1
 have up:(s.heap.update it (Obj.mapFields (·.setIfInBounds 1 (rawInt ((i:Int) + 1))))).IsValIter it d (i + 1) es.size ep:=
  ⟨_,Heap.get?_update_self _ e1 (Obj.isFreed_of_fields (Obj.data_mapFields d1 _)),(Obj.cls_mapFields ..).trans c1,by rw [Obj.data_mapFields d1];simp [rawInt]⟩
 unfold pyNext
 refine wpAny_bind (wpAny_attempt (wpAny_callSpecial?_slot (name:=Str.ofString "__next__") ty F.slot_dict_valueiterator_next (wpAny_call_entry F.slot_dict_valueiterator_next ty F.entry_dict_valueiterator_next ?_ (F.args_dict_valueiterator_next_1 _))))
 refine wpAny_bind (wpAny_pure (wpAny_bind (wpAny_bind (wpAny_bind (Zu8 ty (wpAny_pure (wpAny_bind (wpAny_fieldsOf e1 d1 ?_))))))))
 rw [show Builtin.Dict_items.ownsTuple "dict_valueiterator"=false from by decide]
 simp only [Bool.false_eq_true,if_false]
 show wpAny _ _ (if (Value.ref d == Value.none)=true then _ else _) _ _ s
 rw [if_neg (show ¬ ((Value.ref d == Value.none)=true) by exact Bool.false_ne_true)]
 refine wpAny_bind (wpAny_pure (wpAny_bind (wpAny_dictEntries e dd ?_)))
 rw [if_neg (show ¬ ((((es.size:Nat):Int) != ((es.size:Nat):Int))=true) by simp)]
 refine wpAny_bind (wpAny_pure (wpAny_bind (wpAny_dictEpoch e dd ?_)))
 rw [if_neg (show ¬ ((((ep:Nat):Int) != ((ep:Nat):Int))=true) by simp)]
 refine wpAny_pure ?_
 have hxi:es[i]=x:=by rw [Array.getElem?_eq_getElem hi] at hx;exact Option.some.inj hx
 simp only [show ¬ ((i:Int) < 0) by omega,if_false,Int.toNat_natCast,Array.getElem?_eq_getElem hi]
 refine wpAny_bind (wpAny_bind (Zu8 ty (wpAny_pure (wpAny_bind (wpAny_isOneOf_valiter ty ?_)))))
 show wpAny _ _ (setField (.ref it) 1 (rawInt ((i:Int) + 1)) >>= _) _ _ s
 refine wpAny_bind (wpAny_setField e1 d1 (by simp) (wpAny_bind (wpAny_holding ?_)))
 refine wpAny_bind (wpAny_isOneOf_valiter (s:={s with heap:=s.heap.update it (Obj.mapFields (·.setIfInBounds 1 (rawInt ((i:Int) + 1))))}) up.typeIs (wpAny_bind (wpAny_isOneOf_valiter (s:={s with heap:=s.heap.update it (Obj.mapFields (·.setIfInBounds 1 (rawInt ((i:Int) + 1))))}) up.typeIs ?_)))
 show wpAny _ _ (pure es[i].val) _ _ _
 rw [hxi]
 exact wpAny_pure (wpAny_pure ⟨_,rfl,wpAny_pure (q _ up (Heap.SameBut.update ..))⟩)
theorem ZKG {it d:Addr} {ob:Obj} {es:Array DictEntry} {ep i:Nat} {Q:Option Value→Shared→Prop} {A:Around} {E:Value→Shared→Prop} (hA:A.handled=none) (v:s.heap.IsValIter it d i es.size ep) (e:s.heap.get? d=some ob) (dd:ob.data=.dict es ep)
  (hx:es.size≤i) (q:∀ h',Heap.ExtBut it s.heap h'→Q none {s with heap:=h'}):wpAny (model X.prog X.w) A (pyNext (.ref it)) Q E s:=by
 have ty:=v.typeIs
 obtain ⟨oI,e1,c1,d1⟩:=v
 unfold pyNext
 refine wpAny_bind (wpAny_attempt (wpAny_callSpecial?_slot (name:=Str.ofString "__next__") ty F.slot_dict_valueiterator_next (wpAny_call_entry F.slot_dict_valueiterator_next ty F.entry_dict_valueiterator_next ?_ (F.args_dict_valueiterator_next_1 _))))
 refine wpAny_bind (wpAny_pure (wpAny_bind (wpAny_bind (wpAny_bind (Zu8 ty (wpAny_pure (wpAny_bind (wpAny_fieldsOf e1 d1 ?_))))))))
 rw [show Builtin.Dict_items.ownsTuple "dict_valueiterator"=false from by decide]
 simp only [Bool.false_eq_true,if_false]
 show wpAny _ _ (if (Value.ref d == Value.none)=true then _ else _) _ _ s
 rw [if_neg (show ¬ ((Value.ref d == Value.none)=true) by exact Bool.false_ne_true)]
 refine wpAny_bind (wpAny_pure (wpAny_bind (wpAny_dictEntries e dd ?_)))
 rw [if_neg (show ¬ ((((es.size:Nat):Int) != ((es.size:Nat):Int))=true) by simp)]
 refine wpAny_bind (wpAny_pure (wpAny_bind (wpAny_dictEpoch e dd ?_)))
 rw [if_neg (show ¬ ((((ep:Nat):Int) != ((ep:Nat):Int))=true) by simp)]
 refine wpAny_pure ?_
 simp only [show ¬ ((i:Int) < 0) by omega,if_false,Int.toNat_natCast,Array.getElem?_eq_none hx]
 refine wpAny_bind (wpAny_bind (Zu8 ty (wpAny_pure ?_)))
 show wpAny _ _ (setField (.ref it) 0 .none >>= _) _ _ s
 refine wpAny_bind (wpAny_setField e1 d1 (by simp) ?_)
 show wpAny _ _ (newExc (.type "StopIteration") [] >>= _) _ _ _
 refine wpAny_bind ?_;simp only [newExc,newTuple]
 refine wpAny_bind (wpAny_newObj_type (wpAny_bind (m:=firstArgMember _ _) (wpAny_of_eq (a:=Value.none) (by first | rfl | (simp only [firstArgMember];rfl)) ?_)) (by size_fits))
 refine wpAny_newObj_type ?_ (by size_fits);simp only [raiseNew]
 refine wpAny_bind (wpAny_handled ?_);rw [show A.in1.handled=none from hA]
 refine wpAny_bind (wpAny_pure (wpAny_throw ?_));refine wpAny_bind (wpAny_isInstance (T:="StopIteration") (b:=true) ⟨_,Heap.get?_push_size _ rfl,rfl⟩ isSubtype_stop ?_)
 exact wpAny_pure (q _ (((Heap.SameBut.update ..).extBut.push _).push _))
end
def Itv (d:Addr) (ob:Obj) (u:HO):It:=
 ⟨fun i H=>H d=some (.frz ob u)∧i < (ZeH u).length,fun i H x H'=>H'=H∧(ZeH u)[i]?=some x,fun i H=>H d=some (.frz ob u)∧(ZeH u).length≤i⟩
theorem ZE8 {P:Program} {w:World} {K:PySem.W.Frag} {tg:Expr} (d it:Addr) (ob:Obj) (u:HO) (es:Array DictEntry) (ep:Nat) (hd:Zng u=true) (dd:ob.data=.dict es ep) :
  Turn P w K tg (Itv d ob u) [it] it (fun i h=>h.IsValIter it d i es.size ep) where
 mem:=by simp
 obj:=fun i h st b hb=>by
  have e:b=it:=by simpa using hb
  subst e
  obtain ⟨o,e,c,q⟩:=st
  exact ⟨o,e,fun v z=>by rw [q] at z;cases z⟩
 keep:=fun i h h' st k=>st.at fun o e=>k it (by simp) o e
 item:=by
  intro X hP hw hK hc i pins s σ H E I hf st hg
  subst hP hw hK
  obtain ⟨hH,hi⟩:=hg
  obtain ⟨e,ok⟩:=I.hok d _ hH
  obtain ⟨_,_,_,es',ep',dd',rv⟩:=ZwZ ok hd e
  rw [dd] at dd'
  cases dd'
  have hl:(ZeH u).length=es.size:=by rw [rv.length,List.length_map,Array.length_toList]
  obtain ⟨f0,f1,f2,f3,f4,f5⟩:=hf it (by simp)
  have hx:es[i]?=some es[i]:=Array.getElem?_eq_getElem (by omega)
  refine ZJm st e dd hx fun h' st' sb=>?_
  have I1:Inv X pins σ H {s with heap:=h'}:=I.turned (t':=s.toks) (fun b o hb e=>(sb.2 b hb).trans e) f0 f1 f3 f4 f5
  obtain ⟨v,hv⟩:∃ v,(ZeH u)[i]?=some v:=⟨_,List.getElem?_eq_getElem hi⟩
  obtain ⟨uv,huv,ruv⟩:=rv.get hv
  have:uv=es[i].val:=by
   rw [List.getElem?_map,Array.getElem?_toList,hx] at huv
   exact (Option.some.inj huv).symm
  subst this
  obtain ⟨o,e2,c,q⟩:=id st'
  exact ⟨_,rfl,ZIi (s:={s with heap:=h'}) e2 c q (by decide) ⟨v,H,I1,ruv,⟨rfl,hv⟩,st',fun b hb=>(hf b hb).1⟩⟩
 done:=by
  intro X hP hw hK hc i pins s σ H E I hf st hg
  subst hP hw hK
  obtain ⟨hH,hi⟩:=hg
  obtain ⟨e,ok⟩:=I.hok d _ hH
  obtain ⟨_,_,_,es',ep',dd',rv⟩:=ZwZ ok hd e
  rw [dd] at dd'
  cases dd'
  have hl:(ZeH u).length=es.size:=by rw [rv.length,List.length_map,Array.length_toList]
  obtain ⟨f0,f1,f2,f3,f4,f5⟩:=hf it (by simp)
  exact ZKG (I.ok.hd hc) st e dd (by omega) fun h' eb=>⟨rfl,I.turned (t':=s.toks) (fun b o hb e=>eb b o hb e) f0 f1 f3 f4 f5⟩
 self:=fun _ _ _ _ _ st h=>wpAny_pyIter_valiter st h
def ZMx (tl:TE):TI:=fun σ H R=>tl σ H fun x H1=>∃ r d u,x=.ref r∧H1 r=some (ZJl r d)∧H1 d=some u∧Zng u=true∧∀ ob,R (Itv d ob u) (upd H1 d (.frz ob u))
theorem ZJM {X:Cx} {tg l:Expr} {tl:TE} (hl:PE X l tl):PI X tg l (ZMx tl):=by
 try unfold PE at *
 intro pins s σ H R I h
 refine thn (hl pins s σ H _ I h) fun v s1 ⟨x,H1,I1,r1,r,d,u,ex,hr,hd,hu,q⟩=>?_
 subst ex
 cases (show v=Value.ref r from r1)
 have hv:s1.heap.IsValuesView r d:=(I1.hok r _ hr).1
 obtain ⟨ob,e,I2⟩:=I1.freeze hd hu
 obtain ⟨_,_,_,es,ep,dd,_⟩:=ZwZ (I1.hok d u hd) hu e
 refine ZBq hv e dd ?_
 refine ⟨s1.heap.objs.size,[s1.heap.objs.size],_,_,_,rfl,I2.kept (t':=s1.toks) fun b o e=>Heap.get?_push_of_some _ e,ZE8 d _ ob u es ep hu dd,⟨_,Heap.get?_push_size _ rfl,rfl,rfl⟩,fun b hb=>?_,q ob⟩
 have e:b=s1.heap.objs.size:=by simpa using hb
 subst e
 exact I2.fpOk (Nat.le_refl _) (I2.hok.fresh (Nat.le_refl _))
end L2
namespace L2
open PySem PySem.Spec PyProof.Rows PySem.W
def ZCC (H:Hp) (ys:List V) (Q:VK):Prop:=∀ p H',Same H H'→H' p=some (.tup ys)→Q (.ref p) H'
theorem ZCC.old {H:Hp} {ys:List V} {Q:VK} {p:Addr} (h:ZCC H ys Q) (e:H p=some (.tup ys)):Q (.ref p) H:=h p H (Same.refl _) e
theorem ZCC.new {H:Hp} {ys:List V} {Q:VK} {p:Addr} (h:ZCC H ys Q) (e:H p=none):Q (.ref p) (upd H p (.tup ys)):=h p _ (Zk e) Zb
section
variable {X:Cx}
theorem ZDT (l b:Addr) (ws:Array Value) (n n2:Nat) (dd dd2:Option Addr) (sl sl2:Array (Option Value)) :
  Meets (Builtin.«tuple.__add__» ⟨[.ref l,.ref b],[]⟩) (fun _ R s=>s.heap.get? l=some {cls:=.type "tuple",dict:=dd,data:=.seq #[] n,slots:=sl}∧s.heap.get? b=some {cls:=.type "tuple",dict:=dd2,data:=.seq ws n2,slots:=sl2}∧R (.ok (.ret (.ref b))) s):=
 .of_wp fun prog w A R s h=>by
  obtain ⟨hp,g,d,tk,os⟩:=s;obtain ⟨hl,hb,h⟩:=h;have f0:=AutoSeq1.sub_tuple_tuple
  wp_walk
  exact ⟨_,rfl,h⟩
def ZLb (K:Frag):R2:=fun x y H Q=>∃ a b xs ys,x=.ref a∧y=.ref b∧SqT K H a xs∧SqT K H b ys∧(xs=[]→H b=some (.tup ys))∧(ys=[]→xs≠[]→H a=some (.tup xs))∧xs.length + ys.length≤sizeLine∧ZCC H (xs++ys) Q
theorem Zcb:OpR X (binaryOp .Add) (ZLb X.K):=by
 intro pins s σ H x y v u Q I rx ry h
 obtain ⟨a,b,xs,ys,rfl,rfl,ha,hb,e1,e2,hz,q⟩:=h
 by_cases hx:xs=[]
 ·subst hx
  cases rx
  cases ry
  obtain ⟨its,r1,⟨o1,g1,c1,n1,d1⟩,_⟩:=I.tuple ha
  obtain ⟨its2,r2,⟨o2,g2,c2,n2,d2⟩,_⟩:=I.tuple hb
  have hn:=r1.zero
  subst hn
  obtain ⟨cls,dd,data,sl⟩:=o1
  obtain ⟨cls2,dd2,data2,sl2⟩:=o2
  dsimp only at c1 d1 c2 d2
  subst c1 d1 c2 d2
  exact concat_meets ⟨_,g1,rfl⟩ ⟨_,g2,rfl⟩ noFill_tuple_add seq_tuple_add PySem.F.slot_tuple_add PySem.F.entry_tuple_add (PySem.F.args_tuple_add_2 _ _) (ZDT a b its2.toArray n1 n2 dd dd2 sl sl2) ⟨g1,g2,.ref b,H,I,rfl,q.old (e1 rfl)⟩
 ·refine ZJS pins s σ H _ _ v u Q I rx ry ⟨a,b,xs,ys,rfl,rfl,ha,hb,hx,hz,fun z=>?_,fun z p hp=>q.new hp⟩
  have q':=q
  rw [z,List.append_nil] at q'
  exact q'.old (e2 z hx)
theorem ZEl {t sl:Addr} {items:Array Value} {vl vu:Value} {lo hi:Option Int} {Q:Value→Shared→Prop} {prog:Program} {w:World} {A:Around} {E:Value→Shared→Prop} {s:Shared} (ht:IsTup s.heap t items) (hs:s.heap.IsSliceOf sl vl vu .none) (pl:IsPart vl lo) (pu:IsPart vu hi)
  (hw:HT.sIx items.size 0 lo=0∧HT.sIx items.size items.size hi=items.size) (h:Q (.ref t) s):wpAny (model prog w) A (getItem (.ref t) (.ref sl)) Q E s:=by
 obtain ⟨oS,gS,cS,dS⟩:=id hs
 have tyS:s.TypeIs (.ref sl) "slice":=⟨oS,gS,cS⟩
 unfold getItem
 try with_reducible refine wpAny_holding ?_
 first | refine wpAny_bind (wpAny_pure ?_) | skip
 refine wpAny_bind (wpAny_sequenceKey ht.typeIs (by decide) (wpAny_bind (wpAny_callSpecial?_slot (name:=Str.ofString "__getitem__") ht.typeIs PyProof.Rows.slot_tuple_getitem (wpAny_call_entry PyProof.Rows.slot_tuple_getitem ht.typeIs entry_tuple_getitem ?_ (args_tuple_getitem _ _)))))
 show wpAny _ _ (Builtin.Tuple.tupleItemsOf (.ref t) >>= _) _ _ s
 refine wpAny_bind (tupleItemsOf_ ht (wpAny_bind (wpAny_typeOf tyS ?_)))
 rw [if_pos (by decide)]
 refine wpAny_bind (HT.sliceApplied_gen hs pl pu ?_)
 have yes:(((HT.sIx items.size 0 lo:Nat):Int) == 0 && (1:Int) == 1 && (HT.sIx items.size items.size hi - HT.sIx items.size 0 lo) == items.size)=true:=by
  rw [hw.1,hw.2]
  simp
 show wpAny _ _ (if (((HT.sIx items.size 0 lo:Nat):Int) == 0 && (1:Int) == 1 && (HT.sIx items.size items.size hi - HT.sIx items.size 0 lo) == items.size)=true then _ else _) _ _ s
 rw [if_pos yes]
 refine wpAny_bind ?_
 unfold Builtin.Tuple.tupleIsExact
 refine wpAny_bind (wpAny_typeOf ht.typeIs (wpAny_pure ?_))
 rw [if_pos (by decide)]
 refine wpAny_bind (wpAny_rule (wpAny_bind (wpAny_pure (wpAny_pure ⟨_,rfl,wpAny_pure h⟩))))
def rSlA (K:Frag):V→Option Int→Option Int→Hp→VK→Prop:=fun x lo hi H Q=>∃ a xs,x=.ref a∧H a=some (.tup xs)∧ZCC H (cutV xs lo hi) Q
theorem ZEJ {xs:List V} {lo hi:Option Int} (h:HT.sIx xs.length 0 lo=0∧HT.sIx xs.length xs.length hi=xs.length):cutV xs lo hi=xs:=by
 unfold cutV
 rw [h.1,h.2,List.drop_zero,Nat.sub_zero,List.take_length]
theorem ZFy:SlR X (rSlA X.K):=by
 intro pins s σ H x v vl vu lo hi sl Q I rx hs pl pu h
 obtain ⟨a,xs,rfl,ha,q⟩:=h
 by_cases hw:HT.sIx xs.length 0 lo=0∧HT.sIx xs.length xs.length hi=xs.length
 ·cases rx
  obtain ⟨its,r,ht,hz⟩:=I.tuple (SqT.of ha)
  have hlen:its.toArray.size=xs.length:=by rw [List.size_toArray];exact r.length.symm
  refine ⟨"tuple",_,PyProof.Rows.slot_tuple_getitem.lookup,ht.typeIs,ZEl ht hs pl pu (by rw [hlen];exact hw) ⟨.ref a,H,I,rfl,?_⟩⟩
  rw [ZEJ hw] at q
  exact q.old ha
 ·exact ZK4 pins s σ H _ v vl vu lo hi sl Q I rx hs pl pu ⟨a,xs,rfl,SqT.of ha,hw,fun p hp=>q.new hp⟩
theorem ZDR (l:Addr) (items:Array Value) (n:Nat) (dd:Option Addr) (sl:Array (Option Value)) (u:Tok) :
  Meets (Builtin.«tuple.__mul__» ⟨[.ref l,.int 1 u],[]⟩) (fun _ R s=>s.heap.get? l=some {cls:=.type "tuple",dict:=dd,data:=.seq items n,slots:=sl}∧R (.ok (.ret (.ref l))) s):=
 .of_wp fun prog w A R s h=>by
  obtain ⟨hp,g,d,tk,os⟩:=s;obtain ⟨hl,h⟩:=h
  have hc0:¬(decide ((1:Int) < -2 ^ 63) || decide ((1:Int) ≥ 2 ^ 63))=true:=by decide
  have hc1:(items.isEmpty || (1:Int) == 1)=true:=by rw [Bool.or_eq_true];exact .inr rfl
  wp_walk
  exact ⟨_,rfl,h⟩
theorem ZDS (l:Addr) (items:Array Value) (n:Nat) (dd:Option Addr) (sl:Array (Option Value)) (k:Int) (u:Tok) (hne:items.isEmpty=false) (h1:k≤0) (h2:-(2 ^ 63)≤k) :
  Meets (Builtin.«tuple.__mul__» ⟨[.ref l,.int k u],[]⟩) (fun _ R s=>s.heap.get? l=some {cls:=.type "tuple",dict:=dd,data:=.seq items n,slots:=sl}∧R (.ok (.ret (.ref s.heap.objs.size))) {s with heap:=s.heap.push {cls:=.type "tuple",data:=.seq #[]}}):=
 .of_wp fun prog w A R s h=>by
  obtain ⟨hp,g,d,tk,os⟩:=s;obtain ⟨hl,h⟩:=h
  have hc0:¬(decide (k < -2 ^ 63) || decide (k ≥ 2 ^ 63))=true:=by
   rw [Bool.or_eq_true,decide_eq_true_eq,decide_eq_true_eq];omega
  have hc1:¬(items.isEmpty || k == 1)=true:=by
   rw [hne,Bool.false_or,beq_iff_eq];omega
  have hc2:(decide (k≤0) || items.isEmpty)=true:=by
   rw [hne,Bool.or_false,decide_eq_true_eq];exact h1
  wp_walk
  rw [if_neg hc0]
  wp_walk
  rw [if_neg hc1]
  wp_walk
  exact ⟨_,rfl,h⟩
def ZMp:R2:=fun x y H Q=>∃ l k xs,x=.ref l∧y=.int k∧H l=some (.tup xs)∧xs≠[]∧-(2 ^ 63)≤k∧k < 2 ^ 63∧xs.length * k.toNat≤sizeLine∧ZCC H (List.replicate k.toNat xs).flatten Q
theorem ZvO:OpR X (binaryOp .Mult) ZMp:=by
 intro pins s σ H x y v u Q I rx ry h
 obtain ⟨l,k,xs,rfl,rfl,hH,hne,h1,h2,hz,q⟩:=h
 by_cases hk:1 < k
 ·exact ZFW pins s σ H _ _ v u Q I rx ry ⟨l,k,xs,rfl,rfl,hH,hne,hk,h2,hz,fun p hp=>q.new hp⟩
 ·cases rx
  obtain ⟨t,rfl⟩:=ry
  obtain ⟨z,its,r,o,e,hc,n,hd⟩:=(show Zam X.prog X.w H s.heap l (.tup xs) from I.hok l _ hH)
  obtain ⟨cls,dd,data,sl⟩:=o
  dsimp only at hc hd
  subst hc hd
  have hemp:its.toArray.isEmpty=false:=by
   cases its with
   | nil=>cases r;exact absurd rfl hne
   | cons _ _=>rfl
  by_cases hk1:k=1
  ·subst hk1
   refine wpAny_binaryOp_repeat_ref (T:="tuple") (U:="int") (by decide) ⟨_,e,rfl⟩ (fun s'=>typeIs_int s' 1 t) ZcJ F.fills_int_mul F.slot_int_rmul Zgp F.slot_int_index.lookup
    (call_meets F.slot_int_rmul (typeIs_int s 1 t) F.entry_int_rmul (F.args_int_rmul_2 _ _) (Zea 1 t l its.toArray n dd sl)
     ⟨e,rfl,⟨_,e,rfl⟩,call_meets F.slot_tuple_mul ⟨_,e,rfl⟩ F.entry_tuple_mul (F.args_tuple_mul_2 _ _) (ZDR l its.toArray n dd sl t) ⟨e,.ref l,H,I,rfl,?_⟩⟩)
   have e1:(List.replicate (1:Int).toNat xs).flatten=xs:=by
    show (List.replicate 1 xs).flatten=xs
    simp
   rw [e1] at q
   exact q.old hH
  ·have h0:k≤0:=by omega
   refine wpAny_binaryOp_repeat_ref (T:="tuple") (U:="int") (by decide) ⟨_,e,rfl⟩ (fun s'=>typeIs_int s' k t) ZcJ F.fills_int_mul F.slot_int_rmul Zgp F.slot_int_index.lookup
    (call_meets F.slot_int_rmul (typeIs_int s k t) F.entry_int_rmul (F.args_int_rmul_2 _ _) (Zea k t l its.toArray n dd sl)
     ⟨e,rfl,⟨_,e,rfl⟩,call_meets F.slot_tuple_mul ⟨_,e,rfl⟩ F.entry_tuple_mul (F.args_tuple_mul_2 _ _) (ZDS l its.toArray n dd sl k t hemp h0 h1) ⟨e,?_⟩⟩)
   have e0:(List.replicate k.toNat xs).flatten=[]:=by
    rw [show k.toNat=0 by omega]
    rfl
   rw [e0] at q
   exact ⟨.ref _,_,I.tnew (t':=s.toks) (ys:=[]) (its:=[]) .nil (Nat.zero_le _),rfl,q.new I.fresh⟩
end
end L2
namespace L2
open PySem PySem.Spec PyProof.Rows PySem.W
section
variable {X:Cx} {pins:List (Addr×Obj)} {σ:St} {H:Hp} {s:Shared}
theorem ZFD {P:Program} {w:World} {k:Key} {v:Value} (h:(ZW P w).is k v=true):RelV (kV k) v:=by
 cases k with
 | inl i=>exact Value.isInt_shape h
 | inr x=>exact Value.isStrOf_shape h
theorem Zu9:∀ {xs:List V} {us:List Value},xs.length=us.length→(∀ (j:Nat) (x:V) (u:Value),xs[j]?=some x→us[j]?=some u→RelV x u)→Vals xs us
 | [],[],_,_=>.nil
 | x::xs,u::us,hl,h=>.cons (h 0 x u rfl rfl) (Zu9 (by simpa using hl) fun j y w a b=>h (j + 1) y w (by simpa using a) (by simpa using b))
 | [],_::_,hl,_=>by simp at hl
 | _::_,[],hl,_=>by simp at hl
theorem Inv.lput {a:Addr} {h':Heap} {t' c:Nat} {ys:List V} {its:Array Value} (I:Inv X pins σ H s) (hk:∀ b o,s.heap.get? b=some o→h'.get? b=some o) (ha:s.heap.objs.size≤a) (he:h'.get? a=some {cls:=.type "list",data:=.seq its c}) (r:Vals ys its.toList) (hz:ys.length≤sizeLine) :
  Inv X pins σ (upd H a (.lst ys)) {s with heap:=h',toks:=t'}:=I.laid hk ha ⟨hz,its.toList,c,r,by rw [Array.toArray_toList];exact he⟩
theorem ZuJ (hc:X.calm=true:=by rfl):ZfR X (.type "list") (fun xs H Q=>∃ p kvs,xs=[.ref p]∧Rd H p (.dK kvs)∧∀ l,H l=none→Q (.ref l) (upd H l (.lst (kvs.map fun q=>kV q.1)))):=by
 intro pins s σ H xs us Q I r h
 obtain ⟨p,kvs,rfl,hp,q⟩:=h
 obtain ⟨u,rfl,ru⟩:=r.one
 cases (show u=Value.ref p from ru)
 obtain ⟨hz,hs,vs,rel,dd⟩:=ZqB I.hok hp
 obtain ⟨ep,hat⟩:=dd.dictAt
 refine kdl_call (kdl_dict (knd:=ZW X.prog X.w) (kvs:=vs) (ep:=ep) hs) (I.ok.hd hc) hat (by rw [← rel.length];exact hz) fun h' tk acc c hk he hi=>?_
 refine ⟨.ref _,_,I.lput hk (Nat.le_refl _) he (Zu9 ?_ fun j x w hx hw=>?_) (by rw [List.length_map];exact hz),rfl,q _ I.fresh⟩
 ·have e3:acc.toList.length=acc.size:=Array.length_toList
  rw [List.length_map,e3,hi.1,rel.length]
 ·obtain ⟨k,y,hy,hk'⟩:=hi.2 j w (by rw [← Array.getElem?_toList];exact hw)
  have e1:(kvs.map (·.1))[j]?=some k:=by rw [rel.keys,List.getElem?_map,hy];rfl
  have e2:x=kV k:=by
   rw [List.getElem?_map] at hx e1
   cases e:kvs[j]? with
   | none=>rw [e] at hx;cases hx
   | some z=>
    rw [e] at hx e1
    cases hx
    cases e1
    rfl
  rw [e2]
  exact ZFD hk'
theorem Zzk:∀ {ns:List Int} {vs:List Value},IntsAre vs ns→Vals (ns.map V.int) vs
 | [],_,h=>by rw [h.nil_inv];exact .nil
 | n::r,_,h=>by
  obtain ⟨t,vs',rfl,h'⟩:=h.cons_inv
  exact .cons ⟨t,rfl⟩ (Zzk h')
theorem ZzJ:ZfR X (.builtin "sorted") (fun xs H Q=>∃ (p:Addr) (ns:List Int),xs=[.ref p]∧SqL X.K H p (ns.map V.int)∧ns.length < 64∧∀ (l:Addr) (ms:List Int),H l=none→ms.Perm ns→ms.Pairwise (·≤·)→Q (.ref l) (upd H l (.lst (ms.map V.int)))):=by
 intro pins s σ H xs us Q I r h
 obtain ⟨p,ns,rfl,hp,h64,q⟩:=h
 obtain ⟨u,rfl,ru⟩:=r.one
 cases (show u=Value.ref p from ru)
 obtain ⟨its,rv,pl,hz⟩:=I.list hp
 have hi:IntsAre its ns:=Zuw rv
 have hl:its.length < 64:=by rw [← rv.length,List.length_map];exact h64
 refine sorted_ints pl.isList hi hl fun out ms a1 a2 a3=>?_
 obtain ⟨e,he⟩:=sortedAll_at s.heap its out
 refine ⟨.ref _,_,I.lput (t':=s.toks) (fun _ _=>sortedAll_old) (Nat.le_succ _) he (Zzk a1) ?_,rfl,q _ ms (I.hok.fresh (Nat.le_succ _)) a2 a3⟩
 rw [List.length_map,a2.length_eq]
 have:(64:Nat)≤sizeLine:=by decide
 omega
theorem ZCX:∀ {xs:List Str} {us:List Value},Vals (xs.map V.str) us→StrsAre us xs
 | [],_,r=>by cases r;exact .nil
 | x::xs,_,r=>by
  cases r with
  | cons h t=>
   obtain ⟨tk,rfl⟩:=h
   exact .cons x tk (ZCX t)
end
end L2
namespace L2
open PySem PySem.Spec PyProof.Rows PySem.W
def Z3 {α:Type} (lt:Nat→Nat→Bool):KasT α→α
 | .ret a=>a
 | .ask i j k=>Z3 lt (k (lt i j))
def Zao {α:Type} (n:Nat) (R:α→Prop):KasT α→Prop
 | .ret a=>R a
 | .ask i j k=>i < n∧j < n∧∀ b,Zao n R (k b)
theorem Zao.bind {α β:Type} {n:Nat} {R:α→Prop} {S:β→Prop} {f:α→KasT β} (hf:∀ a,R a→Zao n S (f a)):∀ {t:KasT α},Zao n R t→Zao n S (t.bind f)
 | .ret a,h=>hf a h
 | .ask i j k,h=>⟨h.1,h.2.1,fun b=>Zao.bind hf (h.2.2 b)⟩
def Low (n:Nat) (p:Array Nat):Prop:=p.Perm (List.toArray (List.range n))
theorem Low.lt {n:Nat} {p:Array Nat} (h:Low n p) (x:Nat) (hx:x∈p):x < n:=by
 have:=(Array.Perm.mem_iff h).mp hx
 simpa using this
theorem Low.at {n:Nat} {p:Array Nat} (h:Low n p) (hn:0 < n) (i:Nat):p.getD i 0 < n:=by
 unfold Array.getD
 split
 ·exact h.lt _ (Array.getElem_mem _)
 ·exact hn
theorem Low.rev {n:Nat} {p:Array Nat} (h:Low n p) (i j:Nat):Low n (kas_rev p i j):=(mirror_perm p i j ((j - i) / 2)).trans h
theorem Low.bub {n:Nat} {p:Array Nat} (h:Low n p) (i j:Nat):Low n (bubble p i j):=(bubble_perm p i j).trans h
section
variable {n:Nat} (hn:0 < n)
include hn
theorem Zw8 {p:Array Nat} (h:Low n p):∀ (f k:Nat),Zao n (fun _=>True) (kas_asc p f k)
 | 0,_=>trivial
 | f + 1,k=>by
  refine ⟨h.at hn _,h.at hn _,fun b=>?_⟩
  cases b with
  | true=>exact trivial
  | false=>exact Zw8 h f (k + 1)
theorem ZmW:∀ (f:Nat) {p:Array Nat} (k q:Nat),Low n p→Zao n (fun r=>Low n r.1) (kas_desc f p k q)
 | 0,_,_,_,h=>h
 | f + 1,p,k,q,h=>by
  refine ⟨h.at hn _,h.at hn _,fun b=>?_⟩
  cases b with
  | true=>
   show Zao n _ (if q > 0 then kas_desc f (kas_rev p (k - (q + 1)) k) (k + 1) 0 else kas_desc f p (k + 1) 0)
   split
   ·exact ZmW f _ _ (h.rev _ _)
   ·exact ZmW f _ _ h
  | false=>
   refine ⟨h.at hn _,h.at hn _,fun c=>?_⟩
   cases c with
   | true=>exact h
   | false=>exact ZmW f _ _ h
theorem ZuP {p:Array Nat} (h:Low n p) (k r:Nat):Zao n (fun r=>Low n r.2) (kas_tail3 k r p):=by
 unfold kas_tail3
 refine Zao.bind (R:=fun _=>True) (fun m _=>?_) (Zw8 hn (h.rev _ _) _ _)
 exact h.rev 0 k
theorem ZmV {p:Array Nat} (h:Low n p) (k r:Nat):Zao n (fun r=>Low n r.2) (kas_descPart k r p):=by
 refine Zao.bind (fun a ha=>?_) (ZmW hn _ _ _ h)
 show Zao n _ (if a.2.2 > 0 then _ else _)
 split
 ·exact ZuP hn (ha.rev _ _) _ _
 ·exact ZuP hn ha _ _
theorem ZER {p:Array Nat} (h:Low n p) (r:Nat):Zao n (fun r=>Low n r.2) (kas_count r p):=by
 refine Zao.bind (fun a _=>?_) (Zw8 hn h _ _)
 show Zao n _ (if (a == r)=true then _ else _)
 split
 ·exact h
 ·split
  ·refine ⟨h.at hn _,h.at hn _,fun b=>?_⟩
   cases b with
   | true=>exact h
   | false=>exact ZmV hn (h.rev _ _) _ _
  ·exact ZmV hn h _ _
theorem Zoc {p:Array Nat} (h:Low n p) (k:Nat):∀ (f l r:Nat),Zao n (fun _=>True) (kas_place p k f l r)
 | 0,_,_=>trivial
 | f + 1,l,r=>by
  show Zao n _ (if l ≥ r then _ else _)
  split
  ·exact trivial
  ·refine ⟨h.at hn _,h.at hn _,fun b=>?_⟩
   cases b with
   | true=>exact Zoc h k f _ _
   | false=>exact Zoc h k f _ _
theorem ZDw:∀ (f:Nat) {p:Array Nat} (k:Nat),Low n p→Zao n (Low n) (kas_bin f p k)
 | 0,_,_,h=>h
 | f + 1,p,k,h=>Zao.bind (fun l _=>ZDw f _ (h.bub _ _)) (Zoc hn h _ _ _ _)
theorem ZeP:Zao n (Low n) (kas_sort n):=by
 have h:Low n (List.toArray (List.range n)):=Array.Perm.refl _
 refine Zao.bind (fun a ha=>?_) (ZER hn h n)
 show Zao n _ (if a.1 < n then _ else _)
 split
 ·exact ZDw hn _ _ ha
 ·exact ha
end
theorem Zup {α:Type} {n:Nat} {R:α→Prop} {lt:Nat→Nat→Bool} {cmp:Nat→Nat→(Bool→Shared→Prop)→Shared→Prop} {s:Shared} (hc:∀ i j C,i < n→j < n→C (lt i j) s→cmp i j C s) {Q:α→Shared→Prop} :
  ∀ {t:KasT α},Zao n R t→Q (Z3 lt t) s→t.kasWp cmp Q s
 | .ret _,_,h=>h
 | .ask i j k,a,h=>hc i j _ a.1 a.2.1 (Zup hc (a.2.2 _) h)
theorem Zcd {α:Type} {n:Nat} {R:α→Prop} (lt:Nat→Nat→Bool):∀ {t:KasT α},Zao n R t→R (Z3 lt t)
 | .ret _,h=>h
 | .ask i j k,h=>by
  show R (Z3 lt (k (lt i j)))
  exact Zcd lt (h.2.2 (lt i j))
def ZqA (a b:Str×Int):Bool:=if a.1=b.1 then (if a.2=b.2 then false else decide (a.2 < b.2)) else decide (a.1.cps.toList < b.1.cps.toList)
def Zc8 (es:List (Str×Int)):List (Str×Int):=
 if es.length < 2 then es else (Z3 (fun i j=>ZqA (es.getD i (Str.empty,0)) (es.getD j (Str.empty,0))) (kas_sort es.length)).toList.map fun i=>es.getD i (Str.empty,0)
def ZE6 (r d:Addr):HO:=.ext fun h=>h.IsItemsView r d
section
variable {X:Cx} {pins:List (Addr×Obj)} {σ:St} {H:Hp} {s:Shared}
theorem Zy2:MtR X "dict.items" (fun x vs H Q=>∃ a u,x=.ref a∧vs=[]∧Rd H a u∧Zng u=true∧∀ p,H p=none→Q (.ref p) (upd H p (ZE6 p a))):=by
 intro pins s σ H x xs v us Q I rx rs h
 obtain ⟨a,u,rfl,rfl,ha,hd,q⟩:=h
 cases (show v=Value.ref a from rx)
 have:=rs.zero
 subst this
 obtain ⟨ob,e,hs,_,ex,es,ep,dd,_⟩:=I.dct ha hd
 have hT:s.TypeIs (.ref a) "dict":=⟨ob,e,ex.1⟩
 have m:Meets (Builtin.«dict.items» ⟨[.ref a],[]⟩) (fun _ R s=>s.TypeIs (.ref a) "dict"∧R (.ok (.ret (.ref s.heap.objs.size))) {s with heap:=s.heap.push {cls:=.type "dict_items",data:=.fields #[.ref a]}}):=
  .of_wp fun P2 w2 A2 R2 s2 ⟨ty2,k2⟩=>by
   refine wpAny_bind ?_;unfold Builtin.Dict.noArgs
   refine wpAny_bind (wpAny_notOrdered_dict ty2 ?_);show wpAny _ _ (pure a) _ _ s2
   refine wpAny_pure ?_;show wpAny _ _ (Builtin.Dict.showsAll a >>= _) _ _ s2
   unfold Builtin.Dict.showsAll;rw [if_neg (by rw [hs];exact Bool.false_ne_true)]
   exact wpAny_bind (wpAny_pure (wpAny_bind (wpAny_newObj_type (wpAny_pure ⟨_,rfl,k2⟩))))
 refine call_meets F.slot_dict_items hT F.entry_dict_items (F.args_dict_items_1 _) m ⟨hT,?_⟩
 refine ⟨.ref _,upd H s.heap.objs.size (ZE6 s.heap.objs.size a),I.laid (t':=s.toks) (fun b ob q=>Heap.get?_push_of_some _ q) (Nat.le_refl _) ?_,rfl,q _ I.fresh⟩
 exact ⟨⟨_,Heap.get?_push_size _ rfl,rfl,rfl⟩,⟨_,Heap.get?_push_size _ rfl⟩,fun h1 h2 ⟨o,e1,e2⟩ k=>⟨o,k o e1,e2⟩⟩
end
section
variable {prog:Program} {w:World} {A:Around} {E:Value→Shared→Prop} {s:Shared} {a:Addr} {vs:List Value} {κ:SortKind} {lt:Nat→Nat→Bool} {P:PySem.Fin→Shared→Prop} {n:Nat}
theorem Zx5 (ho:s.heap.get? a=some (seqObj "list" vs.toArray n)) (h2:2≤vs.length) (h64:vs.length < 64)
  (hk:∀ (h':Heap) (Q:SortKind→Shared→Prop),(∀ b o,b≠a→s.heap.get? b=some o→h'.get? b=some o)→Q κ {s with heap:=h'}→wpAny (model prog w) A (keyKind' vs.toArray) Q (fun _ _=>False) {s with heap:=h'})
  (hc:∀ (h':Heap) (i j:Nat) (C:Bool→Shared→Prop),(∀ b o,b≠a→s.heap.get? b=some o→h'.get? b=some o)→i < vs.length→j < vs.length→C (lt i j) {s with heap:=h'}→kas_ask prog w A κ vs i j C {s with heap:=h'})
  (h:∀ (h':Heap) (c:Nat),(Z3 lt (kas_sort vs.length)).size=vs.length→(∀ b o,b≠a→s.heap.get? b=some o→h'.get? b=some o)→h'.get? a=some (seqObj "list" ((Z3 lt (kas_sort vs.length)).toList.map fun i=>vs.getD i Value.none).toArray c)→P (.done (.ret .none)) {s with heap:=h'}) :
  wpAny (model prog w) A (Builtin.«list.sort» ⟨[.ref a],[]⟩) P E s:=by
 have low:a < s.heap.objs.size:=Heap.lt_size ho
 obtain ⟨c1,ho1⟩:∃ c1,(s.heap.update a (Obj.mapSeq fun _=>(#[]:Array Value))).get? a=some (seqObj "list" #[] c1):=⟨_,get?_update_seq ho fun _=>#[]⟩
 have ho3:(((s.heap.update a (Obj.mapSeq fun _=>(#[]:Array Value))).push (seqObj "tuple" vs.toArray 0)).push (seqObj "list" #[] 0)).get? a=some (seqObj "list" #[] c1):=Heap.get?_push_of_some _ (Heap.get?_push_of_some _ ho1)
 have kp3:∀ b o,b≠a→s.heap.get? b=some o→(((s.heap.update a (Obj.mapSeq fun _=>(#[]:Array Value))).push (seqObj "tuple" vs.toArray 0)).push (seqObj "list" #[] 0)).get? b=some o:=fun b o hb e=>
  Heap.get?_push_of_some _ (Heap.get?_push_of_some _ ((Heap.get?_update_other _ _ (Ne.symm hb)).trans e))
 have big:vs.length≤sizeLine:=by rw [sizeLine_eq];omega
 rw [list_sort_plain]
 refine wpAny_bind (listItems_at ho rfl (wpAny_bind (listUpdate_at ho rfl ?_ (by rw [List.size_toArray];exact big) (Nat.zero_le _))))
 refine wpAny_bind (seqEpoch_at ho1 rfl (wpAny_bind (wpAny_newTuple ?_ big)))
 refine wpAny_bind (wpAny_newList (wpAny_holding ?_) (Nat.zero_le _))
 show wpAny (model prog w) A _ P E {s with heap:=((s.heap.update a (Obj.mapSeq fun _=>(#[]:Array Value))).push (seqObj "tuple" vs.toArray 0)).push (seqObj "list" #[] 0)}
 dsimp only
 have two:¬ vs.toArray.size < 2:=by rw [List.size_toArray];omega
 rw [if_neg two,if_neg two]
 refine wpAny_bind (wpAny_mono (hk _ (fun κ' s'=>κ'=κ∧s'={s with heap:=((s.heap.update a (Obj.mapSeq fun _=>(#[]:Array Value))).push (seqObj "tuple" vs.toArray 0)).push (seqObj "list" #[] 0)}) kp3 ⟨rfl,rfl⟩) (fun κ' s0 hk0=>?_) fun _ _ x=>x.elim)
 obtain ⟨rfl,rfl⟩:=hk0
 have asks:=Zup (cmp:=kas_ask prog w A κ' vs) (s:={s with heap:=((s.heap.update a (Obj.mapSeq fun _=>(#[]:Array Value))).push (seqObj "tuple" vs.toArray 0)).push (seqObj "list" #[] 0)}) (lt:=lt) (fun i j C hi hj q=>hc _ i j C kp3 hi hj q)
  (Q:=fun p s'=>p=Z3 lt (kas_sort vs.length)∧s'={s with heap:=((s.heap.update a (Obj.mapSeq fun _=>(#[]:Array Value))).push (seqObj "tuple" vs.toArray 0)).push (seqObj "list" #[] 0)}) (ZeP (n:=vs.length) (by omega)) ⟨rfl,rfl⟩
 refine wpAny_bind (wpAny_mono (kat_run (Q:=fun st' s'=>∃ p:Array Nat,p.size=vs.length∧arrOf st'=p.map (kas_item (vs.toArray.zip vs.toArray))∧failedOf st'=none∧p=Z3 lt (kas_sort vs.length)∧s'={s with heap:=((s.heap.update a (Obj.mapSeq fun _=>(#[]:Array Value))).push (seqObj "tuple" vs.toArray 0)).push (seqObj "list" #[] 0)})
  rfl h2 h64 (fun p' st' s' b1 b2 b3 b4=>⟨p',b1,b2,b3,b4.1,b4.2⟩) asks) ?_ fun _ _ e=>e)
 rintro ⟨⟨⟩,st'⟩ s' ⟨p,hp,har,hf,rfl,rfl⟩
 dsimp only
 have len:(List.toArray ((Z3 lt (kas_sort vs.length)).toList.map fun i=>vs.getD i Value.none)).size=vs.length:=by rw [List.size_toArray,List.length_map,Array.length_toList,hp]
 rw [kat_snds rfl har]
 obtain ⟨c2,hc2⟩:∃ c2,((((s.heap.update a (Obj.mapSeq fun _=>(#[]:Array Value))).push (seqObj "tuple" vs.toArray 0)).push (seqObj "list" #[] 0)).update a (Obj.mapSeq fun _=>List.toArray ((Z3 lt (kas_sort vs.length)).toList.map fun i=>vs.getD i Value.none))).get? a=some (seqObj "list" (List.toArray ((Z3 lt (kas_sort vs.length)).toList.map fun i=>vs.getD i Value.none)) c2):=
  ⟨_,get?_update_seq ho3 fun _=>List.toArray ((Z3 lt (kas_sort vs.length)).toList.map fun i=>vs.getD i Value.none)⟩
 refine wpAny_bind (seqEpoch_at ho3 rfl (wpAny_bind (listUpdate_at ho3 rfl ?_ (Nat.zero_le _) (Nat.le_trans (Nat.le_of_eq len) (Nat.le_succ_of_le big)))))
 rw [hf]
 simp only [bne_self_eq_false,Bool.false_eq_true,if_false]
 exact wpAny_pure (h _ c2 hp (fun b o hb e=>(Heap.get?_update_other _ _ (Ne.symm hb)).trans (kp3 b o hb e)) hc2)
theorem ZC0 (ho:s.heap.get? a=some (seqObj "list" vs.toArray n)) (h2:vs.length < 2)
  (h:∀ (h':Heap) (c:Nat),(∀ b o,b≠a→s.heap.get? b=some o→h'.get? b=some o)→h'.get? a=some (seqObj "list" vs.toArray c)→P (.done (.ret .none)) {s with heap:=h'}) :
  wpAny (model prog w) A (Builtin.«list.sort» ⟨[.ref a],[]⟩) P E s:=by
 have low:a < s.heap.objs.size:=Heap.lt_size ho
 obtain ⟨c1,ho1⟩:∃ c1,(s.heap.update a (Obj.mapSeq fun _=>(#[]:Array Value))).get? a=some (seqObj "list" #[] c1):=⟨_,get?_update_seq ho fun _=>#[]⟩
 have ho3:(((s.heap.update a (Obj.mapSeq fun _=>(#[]:Array Value))).push (seqObj "tuple" vs.toArray 0)).push (seqObj "list" #[] 0)).get? a=some (seqObj "list" #[] c1):=Heap.get?_push_of_some _ (Heap.get?_push_of_some _ ho1)
 have kp3:∀ b o,b≠a→s.heap.get? b=some o→(((s.heap.update a (Obj.mapSeq fun _=>(#[]:Array Value))).push (seqObj "tuple" vs.toArray 0)).push (seqObj "list" #[] 0)).get? b=some o:=fun b o hb e=>
  Heap.get?_push_of_some _ (Heap.get?_push_of_some _ ((Heap.get?_update_other _ _ (Ne.symm hb)).trans e))
 have big:vs.length≤sizeLine:=by rw [sizeLine_eq];omega
 rw [list_sort_plain]
 refine wpAny_bind (listItems_at ho rfl (wpAny_bind (listUpdate_at ho rfl ?_ (by rw [List.size_toArray];exact big) (Nat.zero_le _))))
 refine wpAny_bind (seqEpoch_at ho1 rfl (wpAny_bind (wpAny_newTuple ?_ big)))
 refine wpAny_bind (wpAny_newList (wpAny_holding ?_) (Nat.zero_le _))
 show wpAny (model prog w) A _ P E {s with heap:=((s.heap.update a (Obj.mapSeq fun _=>(#[]:Array Value))).push (seqObj "tuple" vs.toArray 0)).push (seqObj "list" #[] 0)}
 dsimp only
 have two:vs.toArray.size < 2:=by rw [List.size_toArray];omega
 rw [if_pos two,if_pos two]
 refine wpAny_bind (wpAny_pure ?_);rw [StateT.run_pure]
 refine wpAny_bind (wpAny_pure ?_);dsimp only
 have hout:Array.map (·.2) (arrOf (SortSt.mk' general' (vs.toArray.zip vs.toArray) #[] 7 none))=vs.toArray:=by
  show Array.map (·.2) (vs.toArray.zip vs.toArray)=vs.toArray
  simp only [List.zip_toArray,List.map_toArray]
  rw [show List.map (fun x=>x.2) (vs.zip vs)=vs from List.map_snd_zip (Nat.le_refl _)]
 obtain ⟨c2,hc2⟩:∃ c2,((((s.heap.update a (Obj.mapSeq fun _=>(#[]:Array Value))).push (seqObj "tuple" vs.toArray 0)).push (seqObj "list" #[] 0)).update a (Obj.mapSeq fun _=>vs.toArray)).get? a=some (seqObj "list" vs.toArray c2):=⟨_,get?_update_seq ho3 fun _=>vs.toArray⟩
 rw [hout]
 refine wpAny_bind (seqEpoch_at ho3 rfl (wpAny_bind (listUpdate_at ho3 rfl ?_ (Nat.zero_le _) (by rw [List.size_toArray];exact Nat.le_succ_of_le big))))
 simp only [bne_self_eq_false,Bool.false_eq_true,if_false]
 exact wpAny_pure (h _ c2 (fun b o hb e=>(Heap.get?_update_other _ _ (Ne.symm hb)).trans (kp3 b o hb e)) hc2)
end
section
variable {X:Cx} {pins:List (Addr×Obj)} {σ:St} {H:Hp} {s:Shared}
theorem Inv.many {H':Hp} {h':Heap} {t':Nat} (I:Inv X pins σ H s) (old:∀ b o,s.heap.get? b=some o→h'.get? b=some o) (up:Same H H') (nw:∀ b o,H' b=some o→H b=some o∨(s.heap.get? b=none∧Zam X.prog X.w H' h' b o)):Inv X pins σ H' {s with heap:=h',toks:=t'}:=by
 refine I.un ⟨fun b o e _ _ _=>old b o e,fun b o e _ _ _=>⟨o.slots,old b o e⟩,fun b o e n _=>?_,fun b o e _=>⟨o,old b o e⟩,fun b xs e=>up _ _ e,fun b o u e=>up _ _ e,fun b ps e=>⟨#[],by rw [up _ _ e];simp⟩⟩ fun b o e=>?_
 ·cases z:H' b with
  | none=>rfl
  | some q=>
   rcases nw b q z with y | ⟨y,_⟩
   ·rw [n] at y;cases y
   ·rw [e] at y;cases y
 ·rcases nw b o e with y | ⟨_,y⟩
  ·exact (I.hok b o y).stay (fun c u _ q=>old c u q) (fun c q=>up _ _ q) fun c xs q=>up _ _ q
  ·exact y
def Zkg:List (Addr×List V)→Hp→Hp
 | [],H=>H
 | p::r,H=>upd (Zkg r H) p.1 (.tup p.2)
theorem ZxV:∀ (ps:List (Addr×List V)) (H:Hp) (b:Addr) (o:HO),Zkg ps H b=some o→H b=some o∨∃ xs,(b,xs)∈ps∧o=.tup xs
 | [],_,_,_,h=>.inl h
 | p::r,H,b,o,h=>by
  by_cases e:b=p.1
  ·subst e
   have h':upd (Zkg r H) p.1 (.tup p.2) p.1=some o:=h
   rw [Zb] at h'
   cases h'
   exact .inr ⟨p.2,List.mem_cons_self,rfl⟩
  ·have h':upd (Zkg r H) p.1 (.tup p.2) b=some o:=h
   rw [Zc e] at h'
   rcases ZxV r H b o h' with q | ⟨xs,q,rfl⟩
   ·exact .inl q
   ·exact .inr ⟨xs,List.mem_cons_of_mem _ q,rfl⟩
theorem ZtZ:∀ (ps:List (Addr×List V)) (H:Hp) (b:Addr),b ∉ ps.map (·.1)→Zkg ps H b=H b
 | [],_,_,_=>rfl
 | p::r,H,b,h=>by
  have h1:b≠p.1:=fun z=>h (by rw [z];exact List.mem_cons_self)
  show upd (Zkg r H) p.1 (.tup p.2) b=H b
  rw [Zc h1]
  exact ZtZ r H b fun z=>h (List.mem_cons_of_mem _ z)
theorem ZxW:∀ (ps:List (Addr×List V)) (H:Hp) (b:Addr) (xs:List V),(ps.map (·.1)).Nodup→(b,xs)∈ps→Zkg ps H b=some (.tup xs)
 | p::r,H,b,xs,nd,h=>by
  have nd':(p.1::r.map (·.1)).Nodup:=nd
  obtain ⟨n1,n2⟩:=List.nodup_cons.mp nd'
  rcases List.mem_cons.mp h with e | h
  ·subst e
   exact Zb
  ·have h1:b≠p.1:=fun z=>n1 (by rw [← z];exact List.mem_map.mpr ⟨(b,xs),h,rfl⟩)
   show upd (Zkg r H) p.1 (.tup p.2) b=_
   rw [Zc h1]
   exact ZxW r H b xs n2 h
end
end L2
namespace L2
open PySem PySem.Spec PyProof.Rows PySem.W
section
variable {X:Cx} {pins:List (Addr×Obj)} {σ:St} {H:Hp} {s:Shared}
theorem Inv.turnedT {t':Nat} {wr:List Addr} {T:Addr} {xs:List V} {h':Heap} (I:Inv X pins σ H s) (hf:∀ b∈wr,FpOk X pins H b) (k:∀ b o,b ∉ wr→s.heap.get? b=some o→h'.get? b=some o) (hT:s.heap.objs.size≤T)
  (new:Zam X.prog X.w (upd H T (.tup xs)) h' T (.tup xs)):Inv X pins σ (upd H T (.tup xs)) {s with heap:=h',toks:=t'}:=by
 have hTn:s.heap.get? T=none:=by
  cases z:s.heap.get? T with
  | none=>rfl
  | some o=>exact absurd (Heap.lt_size z) (Nat.not_lt.mpr hT)
 have hHT:H T=none:=I.hok.fresh hT
 have nit:∀ b u,H b=some u→b ∉ wr:=fun b u e z=>by rw [(hf b z).1] at e;cases e
 have nT:∀ b u,H b=some u→b≠T:=fun b u e z=>by rw [z,hHT] at e;cases e
 refine I.step (g':=s.gens) (d':=s.drawn) (ch:=wr) (fun b hb=>?_) (fun b o _ _ hc e _=>k b o hc e) (fun b o _ _ hc e _=>⟨o.slots,k b o hc e⟩) (fun b o hc e n=>?_)
  (fun b o hc e=>⟨o,k b o hc e⟩) (fun b ys e=>by rw [Zc (nT _ _ e)];exact e) (fun b o u e=>by rw [Zc (nT _ _ e)];exact e) (fun b ps e=>⟨#[],by rw [Zc (nT _ _ e),e];simp⟩) (fun m hm=>?_) (fun b u e=>?_) I.bare
 ·obtain ⟨f0,f1,f2,f3,f4,f5⟩:=hf b hb
  exact ⟨f3,f1,f4,f5⟩
 ·rw [Zc (fun z=>by rw [z,hTn] at e;cases e)];exact n
 ·obtain ⟨o,es,ep,ho,r⟩:=hm
  exact ⟨o,es,ep,k _ o (fun z=>(hf _ z).2.1 rfl) ho,r⟩
 ·by_cases z:b=T
  ·subst z
   rw [Zb] at e
   cases e
   exact new
  ·rw [Zc z] at e
   refine (I.hok b u e).stay (fun c v hc q=>k c v ?_ q) (fun c q=>by rw [Zc (nT _ _ q)];exact q) fun c ys q=>by rw [Zc (nT _ _ q)];exact q
   rcases hc with y | y
   ·rw [y];exact nit b u e
   ·exact nit _ _ y
theorem Inv.turnedL {t':Nat} {wr:List Addr} {h':Heap} (I:Inv X pins σ H s) (hf:∀ b∈wr,FpOk X pins H b) (k:∀ b o,b ∉ wr→s.heap.get? b=some o→h'.get? b=some o):Inv X pins σ H {s with heap:=h',toks:=t'}:=by
 have nit:∀ b u,H b=some u→b ∉ wr:=fun b u e z=>by rw [(hf b z).1] at e;cases e
 refine I.step (g':=s.gens) (d':=s.drawn) (ch:=wr) (fun b hb=>?_) (fun b o _ _ hc e _=>k b o hc e) (fun b o _ _ hc e _=>⟨o.slots,k b o hc e⟩) (fun b o hc e n=>n)
  (fun b o hc e=>⟨o,k b o hc e⟩) (fun b ys e=>e) (fun b o u e=>e) (fun b ps e=>⟨#[],by rw [e];simp⟩) (fun m hm=>?_) (fun b u e=>?_) I.bare
 ·obtain ⟨f0,f1,f2,f3,f4,f5⟩:=hf b hb
  exact ⟨f3,f1,f4,f5⟩
 ·obtain ⟨o,es,ep,ho,r⟩:=hm
  exact ⟨o,es,ep,k _ o (fun z=>(hf _ z).2.1 rfl) ho,r⟩
 ·refine (I.hok b u e).stay (fun c v hc q=>k c v ?_ q) (fun c q=>q) fun c ys q=>q
  rcases hc with y | y
  ·rw [y];exact nit b u e
  ·exact nit _ _ y
end
section
variable {prog:Program} {w:World} {A:Around} {E:Value→Shared→Prop} {s:Shared}
theorem ZF2 {it a:Addr} {i:Nat} {vs:Array Value} {x:Value} {Q:Value→Shared→Prop} (st:s.heap.IsTupleIter it a i) (ha:s.heap.IsTuple a vs) (hx:vs[i]?=some x)
  (q:∀ k,k.IsTupleIter it a (i + 1)→Heap.SameBut it s.heap k→Q x {s with heap:=k}):wpAny (model prog w) A (Builtin.SmallTypes.nextOf (.ref it)) Q E s:=by
 obtain ⟨u,e1,c1,d1⟩:=id st
 obtain ⟨ua,e2,_,m,d2⟩:=ha
 unfold Builtin.SmallTypes.nextOf
 refine wpAny_bind (wpAny_callSpecial?_slot (name:=Str.ofString "__next__") st.typeIs F.slot_tuple_iterator_next (wpAny_call_entry F.slot_tuple_iterator_next st.typeIs F.entry_tuple_iterator_next ?_ (F.args_tuple_iterator_next_1 _)))
 change wpAny _ _ (field (Value.ref it) 0 >>= _) _ _ s
 refine wpAny_bind (wpAny_field e1 d1 (x:=.ref a) rfl ?_)
 show wpAny _ _ (if (Value.ref a == Value.none)=true then _ else _) _ _ s
 rw [if_neg (by exact Bool.false_ne_true)]
 change wpAny _ _ (field (Value.ref it) 1 >>= _) _ _ s
 refine wpAny_bind (wpAny_field e1 d1 (x:=.int i 0) rfl ?_)
 change wpAny _ _ (seqItems? (Value.ref a) >>= _) _ _ s
 refine (wpAny_bind (wpAny_seqItems e2 d2 ?_))
 simp only [Int.toNat_natCast,hx]
 refine wpAny_bind (wpAny_setField e1 d1 (by simp) (wpAny_pure ⟨x,rfl,wpAny_pure (q _ ?_ (Heap.SameBut.update ..))⟩))
 refine ⟨_,Heap.get?_update_self _ e1 (Obj.isFreed_of_fields (Obj.data_mapFields d1 _)),(Obj.cls_mapFields ..).trans c1,?_⟩
 rw [Obj.data_mapFields d1]
 simp [rawInt]
theorem ZnU {it a:Addr} {i:Nat} {vs:Array Value} {Q:Value→Shared→Prop} (hh:A.handled=none) (st:s.heap.IsTupleIter it a i) (ha:s.heap.IsTuple a vs) (hx:vs[i]?=none)
  (q:∀ k x,Heap.ExtBut it s.heap k→(∃ o,k.get? x=some o∧o.cls=.type "StopIteration")→E (.ref x) {s with heap:=k}):wpAny (model prog w) A (Builtin.SmallTypes.nextOf (.ref it)) Q E s:=by
 obtain ⟨u,e1,c1,d1⟩:=id st
 obtain ⟨ua,e2,_,m,d2⟩:=ha
 unfold Builtin.SmallTypes.nextOf
 refine wpAny_bind (wpAny_callSpecial?_slot (name:=Str.ofString "__next__") st.typeIs F.slot_tuple_iterator_next (wpAny_call_entry F.slot_tuple_iterator_next st.typeIs F.entry_tuple_iterator_next ?_ (F.args_tuple_iterator_next_1 _)))
 change wpAny _ _ (field (Value.ref it) 0 >>= _) _ _ s
 refine wpAny_bind (wpAny_field e1 d1 (x:=.ref a) rfl ?_)
 show wpAny _ _ (if (Value.ref a == Value.none)=true then _ else _) _ _ s
 rw [if_neg (by exact Bool.false_ne_true)]
 change wpAny _ _ (field (Value.ref it) 1 >>= _) _ _ s
 refine wpAny_bind (wpAny_field e1 d1 (x:=.int i 0) rfl ?_)
 change wpAny _ _ (seqItems? (Value.ref a) >>= _) _ _ s
 refine (wpAny_bind (wpAny_seqItems e2 d2 ?_))
 simp only [Int.toNat_natCast,hx]
 refine wpAny_bind (wpAny_rule (wpAny_bind (wpAny_setField e1 d1 (by simp) ?_)))
 change wpAny _ _ (newExc (Value.type "StopIteration") [] >>= _) _ _ _
 refine wpAny_bind ?_;simp only [newExc,newTuple]
 refine wpAny_bind (wpAny_newObj_type (wpAny_bind (m:=firstArgMember _ _) (wpAny_of_eq (a:=Value.none) (by first | rfl | (simp only [firstArgMember];rfl)) ?_)) (by size_fits))
 refine wpAny_newObj_type ?_ (by size_fits);simp only [raiseNew]
 refine wpAny_bind (wpAny_handled ?_);first | rw [show A.in1.handled=none from hh] | rw [hh]
 refine wpAny_bind (wpAny_pure (wpAny_throw (q _ _ (((Heap.SameBut.update ..).extBut.push _).push _) ⟨_,Heap.get?_push_size _ rfl,rfl⟩)))
theorem ZGL (hh:A.handled=none) (it a:Addr) (hne:a≠it) (vs:Array Value) :
  Draws prog w A it [it,a] vs.size (fun i v=>vs[i]?=some v) (fun i h=>h.IsTupleIter it a i∧h.IsTuple a vs) where
 live:=fun _ _ st=>let ⟨o,ho,_⟩:=st.1;⟨o,ho⟩
 frame:=fun _ _ _ st hk=>⟨st.1.at fun o e=>hk it (by simp) o e,let ⟨o,e,r⟩:=st.2;⟨o,hk a (by simp) o e,r⟩⟩
 item:=fun i s Q E hi st hQ=>ZF2 st.1 st.2 (x:=vs[i]) (by simp [hi]) fun k st' sb=>hQ _ k s.toks (by simp [hi]) ⟨st',st.2.extBut sb.extBut hne⟩ sb
 done:=fun s Q E st hE=>ZnU hh st.1 st.2 (by simp) hE
end
end L2
namespace L2
open PySem PySem.Spec PyProof.Rows PySem.W
open AutoSeq1 (wpAny_loadPart')
section
variable {prog:Program} {w:World} {A:Around} {E:Value→Shared→Prop} {s:Shared}
theorem ZBQ (a:Addr) (vs:Array Value) (n:Nat) (dd:Option Addr) (sl:Array (Option Value)) :
  Meets (Builtin.«enumerate.__new__» ⟨[.type "enumerate",.ref a],[]⟩) (fun _ R s=>s.heap.get? a=some {cls:=.type "tuple",dict:=dd,data:=.seq vs n,slots:=sl}∧
   R (.ok (.ret (.ref (s.heap.push {cls:=.type "tuple_iterator",data:=.fields #[.ref a,.int 0 0]}).objs.size)))
    {s with heap:=(s.heap.push {cls:=.type "tuple_iterator",data:=.fields #[.ref a,.int 0 0]}).push {cls:=.type "enumerate",data:=.fields #[.none,.bool false,.ref s.heap.objs.size,rawInt 0,.none,.none]}}):=
 .of_wp fun prog w A R s h=>by
  obtain ⟨hp,g,d,tk,os⟩:=s;obtain ⟨hl,h⟩:=h
  have hsub:=sub_enumerate
  have hT:Heap.IsTuple (Shared.heap ⟨hp,g,d,tk,os⟩) a vs:=⟨_,hl,rfl,n,rfl⟩
  wp_walk using wpAny_loadPart' hl
  refine wpAny_stack_any fun st=>wpAny_pure ?_
  split
  ·rename_i c _ _ _ _ _
   cases (c == Value.type "enumerate")
   all_goals (wp_walk using wpAny_loadPart' hl,wpAny_pyIter_tuple hT;exact ⟨_,rfl,h⟩)
  ·wp_walk using wpAny_loadPart' hl,wpAny_pyIter_tuple hT;exact ⟨_,rfl,h⟩
theorem ZEM {a:Addr} {vs:Array Value} {Q:Value→Shared→Prop} (ha:s.heap.IsTuple a vs)
  (h:∀ k,IsEnum k (s.heap.objs.size + 1) s.heap.objs.size 0 .none→k.IsTupleIter s.heap.objs.size a 0→(∀ b o,s.heap.get? b=some o→k.get? b=some o)→Q (.ref (s.heap.objs.size + 1)) {s with heap:=k}) :
  wpAny (model prog w) A (call (.type "enumerate") [.ref a]) Q E s:=by
 obtain ⟨⟨c,dd,dt,sl⟩,e,hc,n,hd⟩:=ha
 replace hc:c=.type "tuple":=hc
 replace hd:dt=.seq vs n:=hd
 subst hc hd
 refine callType_new F.called_enumerate (by decide) (F.typeCall_enumerate_1 _) (F.newCall_enumerate_1 _) (fun obj=>F.args_object_init_2 obj _) F.entry_enumerate_new (ZBQ a vs n dd sl) ⟨e,?_⟩
 have hz:(s.heap.push {cls:=.type "tuple_iterator",data:=.fields #[.ref a,.int 0 0]}).objs.size=s.heap.objs.size + 1:=Heap.size_push ..
 show _∧_
 rw [hz]
 have he:IsEnum ((s.heap.push {cls:=.type "tuple_iterator",data:=.fields #[.ref a,.int 0 0]}).push {cls:=.type "enumerate",data:=.fields #[.none,.bool false,.ref s.heap.objs.size,rawInt 0,.none,.none]}) (s.heap.objs.size + 1) s.heap.objs.size 0 .none:=by
  have:=Heap.get?_push_size (s.heap.push {cls:=.type "tuple_iterator",data:=.fields #[.ref a,.int 0 0]}) (o:={cls:=.type "enumerate",data:=.fields #[.none,.bool false,.ref s.heap.objs.size,rawInt 0,.none,.none]}) rfl
  rw [hz] at this;exact this
 exact ⟨⟨_,he,rfl⟩,h _ he ⟨_,Heap.get?_push_of_some _ (Heap.get?_push_size _ rfl),rfl,rfl⟩ fun b o x=>Heap.get?_push_of_some _ (Heap.get?_push_of_some _ x)⟩
end
theorem ZCT {P:Program} {w:World} {H:Hp} {h:Heap} {T:Addr} {xs:List V} {vs:Array Value} (hT:h.IsTuple T vs) (r:Vals xs vs.toList) (hz:xs.length≤sizeLine):Zam P w H h T (.tup xs):=by
 exact ⟨hz,vs.toList,r,hT⟩
def IteT (K:Frag) (a:Addr):It:=
 ⟨fun i H=>∃ xs x,SqT K H a xs∧xs[i]?=some x,fun i H x H'=>∃ t y,H t=none∧x=.ref t∧(∀ xs,SqT K H a xs→xs[i]?=some y)∧H'=upd H t (.tup [.int (i:Nat),y]),fun i H=>∃ xs,SqT K H a xs∧xs.length≤i⟩
theorem ZDQ {P:Program} {w:World} {K:Frag} {elts:List Expr} {k:Nat} {pos:Pos} (a e it:Addr) (h1:a≠it) (h2:e≠it) (h3:a≠e):Turn P w K (.Tuple elts k pos) (IteT K a) [e,it] e (fun i h=>(∃ old,IsEnum h e it i old)∧h.IsTupleIter it a i) where
 mem:=by simp
 obj:=fun i h st b hb=>by
  obtain ⟨⟨old,he⟩,o,ho,hc,hd⟩:=st
  rcases List.mem_cons.mp hb with rfl | hb
  ·exact ⟨_,he,fun v z=>by cases z⟩
  ·have z:b=it:=by simpa using hb
   subst z
   exact ⟨o,ho,fun v z=>by rw [hd] at z;cases z⟩
 keep:=fun i h h' st k=>by
  obtain ⟨⟨old,he⟩,st⟩:=st
  exact ⟨⟨old,k e (by simp) _ he⟩,st.at fun o x=>k it (by simp) o x⟩
 item:=by
  intro X hP hw hK hc i pins s σ H E I hf st hg
  subst hP hw hK
  obtain ⟨xs,x,hq,hx⟩:=hg
  obtain ⟨its,rv,p,hz⟩:=I.tuple hq
  obtain ⟨u,hu,ru⟩:=rv.get hx
  have hi:i < its.length:=(List.getElem?_eq_some_iff.mp hu).1
  have W:=WalksT.enumerateD (prog:=X.prog) (w:=X.w) (A:=X.A) (ZGL (A:=X.A.in1) (by first | exact I.ok.hd hc | exact (I.ok.hd hc)) it a h1 its.toArray) e h2 (by simp [h2,h3.symm]) (by simp)
  refine W.item i s _ _ (by simpa using hi) ⟨st.1,st.2,p⟩ fun T vals h' tk hv hT hI hM hk=>?_
  obtain ⟨t,y,hy,rfl⟩:=hv
  have hyu:y=u:=by
   have:its[i]?=some y:=by simpa using hy
   rw [hu] at this
   exact (Option.some.inj this).symm
  subst hyu
  refine ⟨_,rfl,W.go elts k pos i T _ _ _ hM fun h'' st'' hk''=>?_⟩
  have hTw:=W.apart i T h' hM
  have hT'':h''.IsTuple T #[.int i t,y]:=let ⟨o,e1,r⟩:=hI;⟨o,hk'' T o hTw e1,r⟩
  have hTn:H T=none:=I.hok.fresh hT
  refine ⟨.ref T,_,I.turnedT (t':=tk) (wr:=[e,it]) hf (fun b o hb q=>hk'' b o hb (hk b o hb q)) hT (ZCT (xs:=[.int (i:Nat),x]) hT'' (.cons ⟨t,rfl⟩ (.cons ru .nil)) (by show 2≤sizeLine;decide)),rfl,⟨T,x,hTn,rfl,fun ys hy=>by rw [I.tuple_inj hy hq];exact hx,rfl⟩,⟨st''.1,st''.2.1⟩,fun b hb=>?_⟩
  have hbT:b≠T:=fun z=>hTw (by rw [← z];exact hb)
  show upd H T _ b=none
  rw [Zc hbT]
  exact (hf b hb).1
 done:=by
  intro X hP hw hK hc i pins s σ H E I hf st hg
  subst hP hw hK
  obtain ⟨xs,hq,hx⟩:=hg
  obtain ⟨its,rv,p,hz⟩:=I.tuple hq
  have hl:=rv.length
  obtain ⟨⟨old,he⟩,st2⟩:=st
  have hT:s.TypeIs (.ref e) "enumerate":=⟨_,he,rfl⟩
  unfold pyNext
  refine wpAny_bind (wpAny_attempt (wpAny_callSpecial?_slot (name:=Str.ofString "__next__") hT F.slot_enumerate_next (wpAny_call_entry F.slot_enumerate_next hT F.entry_enumerate_next ?_ (F.args_enumerate_next_1 _))))
  change wpAny _ _ (field (Value.ref e) 2 >>= _) _ _ _
  refine wpAny_bind (wpAny_field he rfl (x:=.ref it) rfl (wpAny_bind (ZnU (I.ok.hd hc) st2 (show s.heap.IsTuple a its.toArray from p) (by simp;omega) fun h' x hb hx'=>?_)))
  obtain ⟨o,ho,hcl⟩:=hx'
  refine wpAny_bind (wpAny_isInstance (T:="StopIteration") (b:=true) ⟨o,ho,hcl⟩ isSubtype_stop (wpAny_pure ⟨rfl,I.turnedL (t':=s.toks) (wr:=[e,it]) hf fun b o hn q=>hb b o (fun z=>hn (by simp [z])) q⟩))
 self:=fun _ _ _ _ _ st h=>by obtain ⟨⟨old,he⟩,_⟩:=st;exact wpAny_pyIter_enum he h
def ZLL (K:Frag) (ta:TA):TI:=fun σ H R=>ta σ H fun vs H1=>∃ a,vs=[.ref a]∧(∃ xs,SqT K H1 a xs)∧R (IteT K a) H1
theorem Zyr {X:Cx} {elts:List Expr} {k:Nat} {tp:Pos} {a:Expr} {ta:TA} {p pos:Pos} (hg:Gl X "enumerate") (hm:X.mg "enumerate"=none) (ha:PA X [a] ta) (hs:starEach [a] X.env=[(false,eval a X.env)]:=by rfl):PI X (.Tuple elts k tp) (.Call (.Name "enumerate" p) [a] [] pos) (ZLL X.K ta):=by
 try unfold PA at *
 intro pins s σ H R I h
 refine Call_ (ZrN I hg hm PyProof.Rows.Boot.«enumerate» (PyProof.Rows.callWith_type1 (thn (ha pos pins s σ H _ I h) fun us s1 ⟨vs,H1,I1,r1,q1⟩=>?_) hs rfl))
 obtain ⟨a,e,⟨xs,hq⟩,q⟩:=q1
 subst e
 cases r1 with
 | cons r rr=>
  cases rr
  cases (show _=Value.ref a from r)
  obtain ⟨its,rv,p,hz⟩:=I1.tuple hq
  have hlt:a < s1.heap.objs.size:=by obtain ⟨o,e,_⟩:=p;exact Heap.lt_size e
  refine ZEM (show s1.heap.IsTuple a its.toArray from p) fun k he st kk=>?_
  refine wpAny_pyIter_enum he ?_
  refine ⟨s1.heap.objs.size + 1,[s1.heap.objs.size + 1,s1.heap.objs.size],_,_,H1,rfl,I1.kept (t':=s1.toks) kk,ZDQ a _ _ (Nat.ne_of_lt hlt) (Nat.succ_ne_self _) (Nat.ne_of_lt (Nat.lt_succ_of_lt hlt)),⟨⟨_,he⟩,st⟩,fun b hb=>?_,q⟩
  have hb':s1.heap.objs.size≤b:=by
   rcases List.mem_cons.mp hb with rfl | hb
   ·exact Nat.le_succ _
   ·have:b=s1.heap.objs.size:=by simpa using hb
    exact Nat.le_of_eq this.symm
  exact I1.fpOk hb' (I1.hok.fresh hb')
end L2
namespace L2
open PySem PySem.Spec PyProof.Rows PySem.W
open AutoSeq1 (wpAny_loadPart')
section
variable {prog:Program} {w:World} {A:Around} {E:Value→Shared→Prop} {s:Shared}
theorem ZJe {z ti tu i1 i2 l1 l2:Addr} {k:Nat} {xs ys:Array Value} {x y a b:Value} {Q:Value→Shared→Prop} (D:ZipApart z ti tu i1 i2 l1 l2)
  (hz:IsZip s.heap z ti tu .none) (hti:IsPair s.heap ti (.ref i1) (.ref i2)) (htu:IsPair s.heap tu a b)
  (g1:s.heap.IsTupleIter i1 l1 k) (g2:s.heap.IsListIter i2 l2 k) (hl1:s.heap.IsTuple l1 xs) (hl2:s.heap.IsList l2 ys) (hx:xs[k]?=some x) (hy:ys[k]?=some y)
  (q:∀ m,IsZip m z ti tu (rawInt s.heap.objs.size)→IsPair m tu x y→m.IsTupleIter i1 l1 (k + 1)→m.IsListIter i2 l2 (k + 1)→IsPair m s.heap.objs.size x y→
   (∀ c o,c≠z→c≠tu→c≠i1→c≠i2→s.heap.get? c=some o→m.get? c=some o)→Q (.ref s.heap.objs.size) {s with heap:=m}) :
  wpAny (model prog w) A (Builtin.«zip.__next__» ⟨[.ref z],[]⟩) (fun fin t=>∃ v,fin=.done (.ret v)∧Q v t) E s:=by
 change wpAny _ _ (field (Value.ref z) 2 >>= _) _ _ _
 refine wpAny_bind (wpAny_field hz rfl (x:=.bool false) rfl ?_)
 change wpAny _ _ (field (Value.ref z) 3 >>= _) _ _ _
 refine wpAny_bind (wpAny_field hz rfl (x:=.ref ti) rfl (wpAny_bind (wpAny_seqItems hti rfl ?_)))
 change wpAny _ _ (Builtin.SmallTypes.ownedTupleIsFree (Value.ref z) >>= _) _ _ _
 refine wpAny_bind ?_;unfold Builtin.SmallTypes.ownedTupleIsFree
 refine wpAny_bind (wpAny_field hz rfl (x:=.none) rfl (wpAny_pure ?_));simp only [if_true]
 refine wpAny_bind (wpAny_rule (wpAny_bind (wpAny_field hz rfl (x:=.ref tu) rfl ?_)))
 refine wpAny_bind (wpAny_setField_rec hz (by simp) fun m1 z1 b1=>?_)
 replace z1:IsZip m1 z ti tu .ellipsis:=z1
 refine wpAny_bind ?_;simp only [List.zipIdx_cons,List.zipIdx_nil,List.forIn_cons,List.forIn_nil]
 refine wpAny_bind (wpAny_bind (wpAny_onRaise ?_))
 change wpAny _ _ (Builtin.SmallTypes.nextOf (Value.ref i1) >>= _) _ _ _
 refine wpAny_bind (ZF2 (g1.extBut b1.extBut D.i1z) (hl1.extBut b1.extBut D.l1z) hx fun m2 g12 b2=>wpAny_pure ?_)
 have p2:IsPair m2 tu a b:=b2.extBut _ _ D.TOi1 (b1.extBut _ _ D.TOz htu)
 refine wpAny_bind (wpAny_seqItems p2 rfl (wpAny_bind (wpAny_updateSeq_pair p2 fun m3 p3 b3=>?_)))
 replace p3:IsPair m3 tu x b:=p3
 refine wpAny_bind (wpAny_letGo (wpAny_pure (wpAny_bind (wpAny_bind (wpAny_onRaise ?_)))))
 change wpAny _ _ (Builtin.SmallTypes.nextOf (Value.ref i2) >>= _) _ _ _
 have g23:=((g2.extBut b1.extBut D.i2z).extBut b2.extBut D.i12.symm).extBut b3.extBut D.TOi2.symm
 have l23:=((hl2.extBut b1.extBut D.l2z).extBut b2.extBut D.l2i1).extBut b3.extBut D.l2TO
 refine wpAny_bind (wpAny_nextOf_list_item g23 l23 hy fun m4 g24 b4=>wpAny_pure ?_)
 have p4:IsPair m4 tu x b:=b4.extBut _ _ D.TOi2 p3
 refine wpAny_bind (wpAny_seqItems p4 rfl (wpAny_bind (wpAny_updateSeq_pair p4 fun m5 p5 b5=>?_)))
 replace p5:IsPair m5 tu x y:=p5
 refine wpAny_bind (wpAny_letGo (wpAny_pure (wpAny_pure (wpAny_bind (wpAny_seqItems p5 rfl (wpAny_bind (wpAny_newTuple ?_)))))))
 have es:m5.objs.size=s.heap.objs.size:=by rw [b5.1,b4.1,b3.1,b2.1,b1.1]
 have z5:IsZip m5 z ti tu .ellipsis:=b5.extBut _ _ D.TOz.symm (b4.extBut _ _ D.i2z.symm (b3.extBut _ _ D.TOz.symm (b2.extBut _ _ D.i1z.symm z1)))
 have k5:∀ c o,c≠z→c≠tu→c≠i1→c≠i2→s.heap.get? c=some o→m5.get? c=some o:=fun c o c1 c2 c3 c4 e=>b5.extBut _ _ c2 (b4.extBut _ _ c4 (b3.extBut _ _ c2 (b2.extBut _ _ c3 (b1.extBut _ _ c1 e))))
 have g15:m5.IsTupleIter i1 l1 (k + 1):=((g12.extBut b3.extBut D.TOi1.symm).extBut b4.extBut D.i12).extBut b5.extBut D.TOi1.symm
 have g25:m5.IsListIter i2 l2 (k + 1):=g24.extBut b5.extBut D.TOi2.symm
 have zl:z < m5.objs.size:=Heap.lt_size z5
 change wpAny _ _ (Builtin.SmallTypes.ownedTupleHandOut (Value.ref z) (Value.ref m5.objs.size) >>= _) _ _ _
 refine wpAny_bind ?_;unfold Builtin.SmallTypes.ownedTupleHandOut
 have z6:IsZip (m5.push {cls:=.type "tuple",data:=.seq #[x,y]}) z ti tu .ellipsis:=Heap.get?_push_of_some _ z5
 refine wpAny_bind (wpAny_setField_rec z6 (by simp) fun m7 z7 b7=>?_)
 replace z7:IsZip m7 z ti tu (rawInt m5.objs.size):=z7
 refine wpAny_setField_rec z7 (by simp) fun m8 z8 b8=>?_
 replace z8:IsZip m8 z ti tu (rawInt m5.objs.size):=z8
 have up:∀ c o,c≠z→m5.get? c=some o→m8.get? c=some o:=fun c o c1 e=>b8.extBut _ _ c1 (b7.extBut _ _ c1 (Heap.get?_push_of_some _ e))
 have T8:IsPair m8 m5.objs.size x y:=b8.extBut _ _ (Nat.ne_of_gt zl) (b7.extBut _ _ (Nat.ne_of_gt zl) (Heap.get?_push_size _ rfl))
 rw [es] at z8 T8
 refine wpAny_pure ⟨_,rfl,?_⟩
 show Q (.ref m5.objs.size) _
 rw [es]
 exact q m8 z8 (up _ _ D.TOz p5) (g15.at fun o e=>up _ o D.i1z e) (g25.at fun o e=>up _ o D.i2z e) T8 fun c o c1 c2 c3 c4 e=>up c o c1 (k5 c o c1 c2 c3 c4 e)
theorem ZKE {z ti tu i1 i2 l1 l2:Addr} {k:Nat} {xs ys:Array Value} {a b:Value} {Q:PySem.Fin→Shared→Prop} (hh:A.handled=none) (D:ZipApart z ti tu i1 i2 l1 l2)
  (hz:IsZip s.heap z ti tu .none) (hti:IsPair s.heap ti (.ref i1) (.ref i2)) (htu:IsPair s.heap tu a b)
  (g1:s.heap.IsTupleIter i1 l1 k) (g2:s.heap.IsListIter i2 l2 k) (hl1:s.heap.IsTuple l1 xs) (hl2:s.heap.IsList l2 ys) (he:xs[k]?=none∨ys[k]?=none)
  (q:∀ m e,(∀ c o,c≠z→c≠tu→c≠i1→c≠i2→s.heap.get? c=some o→m.get? c=some o)→(∃ o,m.get? e=some o∧o.cls=.type "StopIteration")→E (.ref e) {s with heap:=m}) :
  wpAny (model prog w) A (Builtin.«zip.__next__» ⟨[.ref z],[]⟩) Q E s:=by
 change wpAny _ _ (field (Value.ref z) 2 >>= _) _ _ _
 refine wpAny_bind (wpAny_field hz rfl (x:=.bool false) rfl ?_)
 change wpAny _ _ (field (Value.ref z) 3 >>= _) _ _ _
 refine wpAny_bind (wpAny_field hz rfl (x:=.ref ti) rfl (wpAny_bind (wpAny_seqItems hti rfl ?_)))
 change wpAny _ _ (Builtin.SmallTypes.ownedTupleIsFree (Value.ref z) >>= _) _ _ _
 refine wpAny_bind ?_;unfold Builtin.SmallTypes.ownedTupleIsFree
 refine wpAny_bind (wpAny_field hz rfl (x:=.none) rfl (wpAny_pure ?_));simp only [if_true]
 refine wpAny_bind (wpAny_rule (wpAny_bind (wpAny_field hz rfl (x:=.ref tu) rfl ?_)))
 refine wpAny_bind (wpAny_setField_rec hz (by simp) fun m1 z1 b1=>?_)
 replace z1:IsZip m1 z ti tu .ellipsis:=z1
 refine wpAny_bind ?_;simp only [List.zipIdx_cons,List.zipIdx_nil,List.forIn_cons,List.forIn_nil]
 refine wpAny_bind (wpAny_bind (wpAny_onRaise ?_))
 change wpAny _ _ (Builtin.SmallTypes.nextOf (Value.ref i1) >>= _) _ _ _
 cases hx:xs[k]? with
 | none=>
  refine wpAny_bind (ZnU hh (g1.extBut b1.extBut D.i1z) (hl1.extBut b1.extBut D.l1z) hx fun m2 e b2 hE=>?_)
  obtain ⟨u,hu,hc⟩:=hE
  have z2:IsZip m2 z ti tu .ellipsis:=b2 _ _ D.i1z.symm z1
  have ez:e≠z:=fun y=>by subst y;rw [z2] at hu;cases hu;simp at hc
  exact wpAny_setField_rec z2 (by simp) fun m3 _ b3=>q m3 e (fun c o c1 _ c3 _ y=>b3.extBut _ _ c1 (b2 _ _ c3 (b1.extBut _ _ c1 y))) ⟨u,b3.extBut _ _ ez hu,hc⟩
 | some x=>
  have hy:ys[k]?=none:=by
   rcases he with h | h
   ·rw [hx] at h;cases h
   ·exact h
  refine wpAny_bind (ZF2 (g1.extBut b1.extBut D.i1z) (hl1.extBut b1.extBut D.l1z) hx fun m2 g12 b2=>wpAny_pure ?_)
  have p2:IsPair m2 tu a b:=b2.extBut _ _ D.TOi1 (b1.extBut _ _ D.TOz htu)
  refine wpAny_bind (wpAny_seqItems p2 rfl (wpAny_bind (wpAny_updateSeq_pair p2 fun m3 p3 b3=>?_)))
  refine wpAny_bind (wpAny_letGo (wpAny_pure (wpAny_bind (wpAny_bind (wpAny_onRaise ?_)))))
  change wpAny _ _ (Builtin.SmallTypes.nextOf (Value.ref i2) >>= _) _ _ _
  have g23:=((g2.extBut b1.extBut D.i2z).extBut b2.extBut D.i12.symm).extBut b3.extBut D.TOi2.symm
  have l23:=((hl2.extBut b1.extBut D.l2z).extBut b2.extBut D.l2i1).extBut b3.extBut D.l2TO
  refine wpAny_bind (wpAny_nextOf_list_end hh g23 l23 hy fun m4 e b4 hE=>?_)
  obtain ⟨u,hu,hc⟩:=hE
  have z4:IsZip m4 z ti tu .ellipsis:=b4 _ _ D.i2z.symm (b3.extBut _ _ D.TOz.symm (b2.extBut _ _ D.i1z.symm z1))
  have ez:e≠z:=fun y=>by subst y;rw [z4] at hu;cases hu;simp at hc
  exact wpAny_setField_rec z4 (by simp) fun m5 _ b5=>q m5 e (fun c o c1 c2 c3 c4 y=>b5.extBut _ _ c1 (b4 _ _ c4 (b3.extBut _ _ c2 (b2.extBut _ _ c3 (b1.extBut _ _ c1 y))))) ⟨u,b5.extBut _ _ ez hu,hc⟩
abbrev zq1 (h:Heap) (a:Addr):Heap:=h.push {cls:=.type "tuple_iterator",data:=.fields #[.ref a,.int 0 0]}
abbrev zq2 (h:Heap) (a b:Addr):Heap:=(zq1 h a).push {cls:=.type "list_iterator",data:=.fields #[.ref b,.int 0 0]}
abbrev zq3 (h:Heap) (a b:Addr):Heap:=(zq2 h a b).push {cls:=.type "tuple",data:=.seq #[.ref h.objs.size,.ref (zq1 h a).objs.size]}
abbrev zq4 (h:Heap) (a b:Addr):Heap:=(zq3 h a b).push {cls:=.type "tuple",data:=.seq #[.none,.none]}
abbrev zq5 (h:Heap) (a b:Addr):Heap:=(zq4 h a b).push {cls:=.type "zip",data:=.fields #[.none,.bool false,.bool false,.ref (zq2 h a b).objs.size,.ref (zq3 h a b).objs.size]}
theorem ZBP (a b:Addr) (xs ys:Array Value) :
  Meets (Builtin.«zip.__new__» ⟨[.type "zip",.ref a,.ref b],[]⟩) (fun _ R s=>s.heap.IsTuple a xs∧s.heap.IsList b ys∧R (.ok (.ret (.ref (zq4 s.heap a b).objs.size))) {s with heap:=zq5 s.heap a b}):=
 .of_wp fun prog w A R s h=>by
  obtain ⟨hp,g,d,tk,os⟩:=s;obtain ⟨ha,hb,h⟩:=h
  have hsub:=sub_zip
  have hA:Heap.IsTuple (Shared.heap ⟨hp,g,d,tk,os⟩) a xs:=ha
  have hB:Heap.IsList (Shared.heap ⟨hp.push {cls:=.type "tuple_iterator",data:=.fields #[.ref a,.int 0 0]},g,d,tk,os⟩) b ys:=Heap.IsList.push hb _
  wp_walk using wpAny_pyIter_tuple hA,wpAny_pyIter_list hB
  exact ⟨_,rfl,h⟩
theorem ZEL {a b:Addr} {xs ys:Array Value} {Q:Value→Shared→Prop} (ha:s.heap.IsTuple a xs) (hb:s.heap.IsList b ys)
  (h:∀ m,IsZip m (s.heap.objs.size + 4) (s.heap.objs.size + 2) (s.heap.objs.size + 3) .none→IsPair m (s.heap.objs.size + 2) (.ref s.heap.objs.size) (.ref (s.heap.objs.size + 1))→
   IsPair m (s.heap.objs.size + 3) .none .none→m.IsTupleIter s.heap.objs.size a 0→m.IsListIter (s.heap.objs.size + 1) b 0→(∀ c o,s.heap.get? c=some o→m.get? c=some o)→Q (.ref (s.heap.objs.size + 4)) {s with heap:=m}) :
  wpAny (model prog w) A (call (.type "zip") [.ref a,.ref b]) Q E s:=by
 refine callType_new F.called_zip (by decide) (F.typeCall_zip_2 _ _) (F.newCall_zip_2 _ _) (fun obj=>F.args_object_init_3 obj _ _) F.entry_zip_new (ZBP a b xs ys) ⟨ha,hb,?_⟩
 have y1:(zq1 s.heap a).objs.size=s.heap.objs.size + 1:=Heap.size_push ..
 have y2:(zq2 s.heap a b).objs.size=s.heap.objs.size + 2:=by rw [Heap.size_push,y1]
 have y3:(zq3 s.heap a b).objs.size=s.heap.objs.size + 3:=by rw [Heap.size_push,y2]
 have y4:(zq4 s.heap a b).objs.size=s.heap.objs.size + 4:=by rw [Heap.size_push,y3]
 have f5:(zq5 s.heap a b).get? (zq4 s.heap a b).objs.size=some _:=Heap.get?_push_size _ rfl
 have f4:(zq5 s.heap a b).get? (zq3 s.heap a b).objs.size=some _:=Heap.get?_push_of_some _ (Heap.get?_push_size _ rfl)
 have f3:(zq5 s.heap a b).get? (zq2 s.heap a b).objs.size=some _:=Heap.get?_push_of_some _ (Heap.get?_push_of_some _ (Heap.get?_push_size _ rfl))
 have f2:(zq5 s.heap a b).get? (zq1 s.heap a).objs.size=some _:=Heap.get?_push_of_some _ (Heap.get?_push_of_some _ (Heap.get?_push_of_some _ (Heap.get?_push_size _ rfl)))
 have f1:(zq5 s.heap a b).get? s.heap.objs.size=some _:=Heap.get?_push_of_some _ (Heap.get?_push_of_some _ (Heap.get?_push_of_some _ (Heap.get?_push_of_some _ (Heap.get?_push_size _ rfl))))
 show _∧_
 rw [y2,y3,y4] at f5
 rw [y1,y2] at f3
 rw [y3] at f4
 rw [y1] at f2
 rw [y4]
 exact ⟨⟨_,f5,rfl⟩,h _ f5 f3 f4 ⟨_,f1,rfl,rfl⟩ ⟨_,f2,rfl,rfl⟩ fun c o e=>Heap.get?_push_of_some _ (Heap.get?_push_of_some _ (Heap.get?_push_of_some _ (Heap.get?_push_of_some _ (Heap.get?_push_of_some _ e))))⟩
end
def Itz (K:Frag) (a b:Addr):It:=
  ⟨fun i H=>∃ xs ys x y,SqT K H a xs∧SqL K H b ys∧xs[i]?=some x∧ys[i]?=some y,fun i H v H'=>∃ t x y,H t=none∧v=.ref t∧(∀ xs,SqT K H a xs→xs[i]?=some x)∧(∀ ys,SqL K H b ys→ys[i]?=some y)∧H'=upd H t (.tup [x,y]),
   fun i H=>∃ xs ys,SqT K H a xs∧SqL K H b ys∧(xs.length≤i∨ys.length≤i)⟩
theorem ZHh {P:Program} {w:World} {K:Frag} {elts:List Expr} {kk:Nat} {pos:Pos} (z ti tu i1 i2 a b:Addr) (D:ZipApart z ti tu i1 i2 a b) :
  Turn P w K (.Tuple elts kk pos) (Itz K a b) [z,ti,tu,i1,i2] z (fun i h=>IsZip h z ti tu .none∧IsPair h ti (.ref i1) (.ref i2)∧(∃ x y,IsPair h tu x y)∧h.IsTupleIter i1 a i∧h.IsListIter i2 b i) where
 mem:=by simp
 obj:=fun i h st c hc=>by
  obtain ⟨h1,h2,⟨x,y,h3⟩,⟨o4,e4,_,d4⟩,⟨o5,e5,_,d5⟩⟩:=st
  simp only [List.mem_cons,List.not_mem_nil,or_false] at hc
  rcases hc with rfl | rfl | rfl | rfl | rfl
  ·exact ⟨_,h1,fun v q=>by cases q⟩
  ·exact ⟨_,h2,fun v q=>by cases q⟩
  ·exact ⟨_,h3,fun v q=>by cases q⟩
  ·exact ⟨_,e4,fun v q=>by rw [d4] at q;cases q⟩
  ·exact ⟨_,e5,fun v q=>by rw [d5] at q;cases q⟩
 keep:=fun i h h' st k=>by
  obtain ⟨h1,h2,⟨x,y,h3⟩,h4,h5⟩:=st
  exact ⟨k z (by simp) _ h1,k ti (by simp) _ h2,⟨x,y,k tu (by simp) _ h3⟩,h4.at fun o e=>k i1 (by simp) o e,h5.at fun o e=>k i2 (by simp) o e⟩
 item:=by
  intro X hP hw hK hc i pins s σ H E I hf st hg
  subst hP hw hK
  obtain ⟨xs,ys,x,y,hq1,hq2,hx,hy⟩:=hg
  obtain ⟨us,rv1,p1,_⟩:=I.tuple hq1
  obtain ⟨vs,rv2,p2,_⟩:=I.list hq2
  obtain ⟨u,hu,ru⟩:=rv1.get hx
  obtain ⟨v,hv,rv⟩:=rv2.get hy
  obtain ⟨h1,h2,⟨a0,b0,h3⟩,h4,h5⟩:=st
  have hT:s.TypeIs (.ref z) "zip":=⟨_,h1,rfl⟩
  unfold pyNext
  refine wpAny_bind (wpAny_attempt (wpAny_callSpecial?_slot (name:=Str.ofString "__next__") hT F.slot_zip_next (wpAny_call_entry F.slot_zip_next hT F.entry_zip_next
   (ZJe D h1 h2 h3 h4 h5 (show s.heap.IsTuple a us.toArray from p1) p2.isList (x:=u) (y:=v) (by simpa using hu) (by simpa using hv) fun m z1 q1 g1 g2 T1 kk1=>wpAny_pure ?_) (F.args_zip_next_1 _))))
  refine ⟨_,rfl,wpAny_letOwnedTupleGo_zip (s:={s with heap:=m}) z1 fun m' z2 sb=>?_⟩
  have lz:z < s.heap.objs.size:=Heap.lt_size h1
  have lti:ti < s.heap.objs.size:=Heap.lt_size h2
  have ltu:tu < s.heap.objs.size:=Heap.lt_size h3
  have l1:i1 < s.heap.objs.size:=by obtain ⟨_,e,_⟩:=h4;exact Heap.lt_size e
  have l2:i2 < s.heap.objs.size:=by obtain ⟨_,e,_⟩:=h5;exact Heap.lt_size e
  have kp:∀ c o,c ∉ [z,ti,tu,i1,i2]→s.heap.get? c=some o→m'.get? c=some o:=fun c o hn e=>by
   simp only [List.mem_cons,List.not_mem_nil,or_false,not_or] at hn
   exact sb.extBut _ _ hn.1 (kk1 c o hn.1 hn.2.2.1 hn.2.2.2.1 hn.2.2.2.2 e)
  have T2:m'.IsTuple s.heap.objs.size #[u,v]:=⟨_,sb.extBut _ _ (Nat.ne_of_gt lz) T1,rfl,_,rfl⟩
  refine ⟨.ref s.heap.objs.size,_,I.turnedT (t':=s.toks) (wr:=[z,ti,tu,i1,i2]) hf kp (Nat.le_refl _) (ZCT (xs:=[x,y]) T2 (.cons ru (.cons rv .nil)) (by show 2≤sizeLine;decide)),rfl,
   ⟨_,x,y,I.hok.fresh (Nat.le_refl _),rfl,fun ys' hy'=>by rw [I.tuple_inj hy' hq1];exact hx,fun ys' hy'=>by rw [I.list_inj hy' hq2];exact hy,rfl⟩,?_,fun c hc=>?_⟩
  ·refine ⟨z2,sb.extBut _ _ D.TIz (kk1 _ _ D.TIz D.TITO D.TIi1 D.TIi2 h2),⟨u,v,sb.extBut _ _ D.TOz q1⟩,g1.extBut sb.extBut D.i1z,g2.extBut sb.extBut D.i2z⟩
  ·have:c≠s.heap.objs.size:=by
    simp only [List.mem_cons,List.not_mem_nil,or_false] at hc
    rcases hc with rfl | rfl | rfl | rfl | rfl
    ·exact Nat.ne_of_lt lz
    ·exact Nat.ne_of_lt lti
    ·exact Nat.ne_of_lt ltu
    ·exact Nat.ne_of_lt l1
    ·exact Nat.ne_of_lt l2
   show upd H _ _ c=none
   rw [Zc this]
   exact (hf c hc).1
 done:=by
  intro X hP hw hK hc i pins s σ H E I hf st hg
  subst hP hw hK
  obtain ⟨xs,ys,hq1,hq2,hl⟩:=hg
  obtain ⟨us,rv1,p1,_⟩:=I.tuple hq1
  obtain ⟨vs,rv2,p2,_⟩:=I.list hq2
  have e1:=rv1.length
  have e2:=rv2.length
  obtain ⟨h1,h2,⟨a0,b0,h3⟩,h4,h5⟩:=st
  have hT:s.TypeIs (.ref z) "zip":=⟨_,h1,rfl⟩
  unfold pyNext
  refine wpAny_bind (wpAny_attempt (wpAny_callSpecial?_slot (name:=Str.ofString "__next__") hT F.slot_zip_next (wpAny_call_entry F.slot_zip_next hT F.entry_zip_next
   (ZKE (I.ok.hd hc) D h1 h2 h3 h4 h5 (show s.heap.IsTuple a us.toArray from p1) p2.isList (by simp;omega) fun m e kk1 hE=>?_) (F.args_zip_next_1 _))))
  obtain ⟨o,ho,hcl⟩:=hE
  refine wpAny_bind (wpAny_isInstance (T:="StopIteration") (b:=true) ⟨o,ho,hcl⟩ isSubtype_stop (wpAny_pure ⟨rfl,I.turnedL (t':=s.toks) (wr:=[z,ti,tu,i1,i2]) hf fun c o hn q=>?_⟩))
  simp only [List.mem_cons,List.not_mem_nil,or_false,not_or] at hn
  exact kk1 c o hn.1 hn.2.2.1 hn.2.2.2.1 hn.2.2.2.2 q
 self:=fun _ _ _ _ _ st h=>wpAny_pyIter_zip st.1 h
def iZip (K:Frag) (ta:TA):TI:=fun σ H R=>ta σ H fun vs H1=>∃ a b,vs=[.ref a,.ref b]∧(∃ xs,SqT K H1 a xs)∧(∃ ys,SqL K H1 b ys)∧R (Itz K a b) H1
theorem ZLf {X:Cx} {elts:List Expr} {kk:Nat} {tp:Pos} {a b:Expr} {ta:TA} {p pos:Pos} (hg:Gl X "zip") (hm:X.mg "zip"=none) (ha:PA X [a,b] ta) (hs:starEach [a,b] X.env=[(false,eval a X.env),(false,eval b X.env)]:=by rfl) (hs2:starEach [b] X.env=[(false,eval b X.env)]:=by rfl):PI X (.Tuple elts kk tp) (.Call (.Name "zip" p) [a,b] [] pos) (iZip X.K ta):=by
 try unfold PA at *
 intro pins s σ H R I h
 refine Call_ (ZrN I hg hm PyProof.Rows.Boot.«zip» (PyProof.Rows.callWith_type1 (thn (ha pos pins s σ H _ I h) fun us s1 ⟨vs,H1,I1,r1,q1⟩=>?_) (by rw [hs,hs2]) (by rw [hs2];rfl)))
 obtain ⟨a,b,e,⟨xs,hq1⟩,⟨ys,hq2⟩,q⟩:=q1
 subst e
 cases r1 with
 | cons r rr=>
  cases rr with
  | cons r' rr=>
   cases rr
   cases (show _=Value.ref a from r)
   cases (show _=Value.ref b from r')
   obtain ⟨us,rv1,p1,_⟩:=I1.tuple hq1
   obtain ⟨vs,rv2,p2,_⟩:=I1.list hq2
   have la:a < s1.heap.objs.size:=by obtain ⟨o,e,_⟩:=p1;exact Heap.lt_size e
   have lb:b < s1.heap.objs.size:=by obtain ⟨o,e,_⟩:=p2.isList;exact Heap.lt_size e
   refine ZEL (show s1.heap.IsTuple a us.toArray from p1) p2.isList fun m h1 h2 h3 h4 h5 kp=>?_
   refine wpAny_pyIter_zip h1 ?_
   refine ⟨_,[s1.heap.objs.size + 4,s1.heap.objs.size + 2,s1.heap.objs.size + 3,s1.heap.objs.size,s1.heap.objs.size + 1],_,_,H1,rfl,I1.kept (t':=s1.toks) kp,ZHh _ _ _ _ _ a b (zipApart_new la lb),⟨h1,h2,⟨_,_,h3⟩,h4,h5⟩,fun c hc=>?_,q⟩
   have hb':s1.heap.objs.size≤c:=by
    simp only [List.mem_cons,List.not_mem_nil,or_false] at hc
    rcases hc with rfl | rfl | rfl | rfl | rfl
    ·exact Nat.le_add_right _ _
    ·exact Nat.le_add_right _ _
    ·exact Nat.le_add_right _ _
    ·exact Nat.le_refl _
    ·exact Nat.le_add_right _ _
   exact I1.fpOk hb' (I1.hok.fresh hb')
end L2
namespace L2
open PySem PySem.Spec PyProof.Rows PySem.W
section
variable {prog:Program} {w:World} {A:Around} {E:Value→Shared→Prop} {s:Shared}
theorem ZLI {v d:Addr} {ob:Obj} {es:Array DictEntry} {ep:Nat} {Q:Value→Shared→Prop} (hv:s.heap.IsItemsView v d) (e:s.heap.get? d=some ob) (dd:ob.data=.dict es ep)
  (q:Q (.ref s.heap.objs.size) {s with heap:=s.heap.push {cls:=.type "dict_itemiterator",data:=.fields #[.none,.bool false,.ref d,.int 0 0,.int es.size 0,.int ep 0,.none,.none]}}):wpAny (model prog w) A (pyIter (.ref v)) Q E s:=by
 have tv:=hv.typeIs
 obtain ⟨oV,e1,c1,d1⟩:=hv
 refine wpAny_pyIter_slot tv F.slot_dict_items_iter (wpAny_call_entry F.slot_dict_items_iter tv F.entry_dict_items_iter ?_ (F.args_dict_items_iter_1 _))
 unfold Builtin.«dict_items.__iter__» Builtin.Dict_items.dictOf Builtin.Dict_items.newIterator
 refine wpAny_bind (wpAny_pure (wpAny_bind (wpAny_bind (wpAny_field e1 d1 (x:=.ref d) rfl (wpAny_pure ?_)))))
 refine wpAny_bind (wpAny_bind (wpAny_dictEntries e dd (wpAny_bind (wpAny_dictEpoch e dd ?_))))
 rw [show Builtin.Dict_items.ownsTuple "dict_itemiterator"=true from by decide]
 simp only [if_true]
 refine wpAny_newObj_type (wpAny_pure ⟨_,rfl,"dict_itemiterator",_,⟨_,Heap.get?_push_size _ rfl,rfl⟩,F.slot_dict_itemiterator_next.lookup,?_⟩) (by simp only [sizeOk,Builtin.Dict_items.ownedTupleFields,List.size_toArray,List.length_append,List.length_cons,List.length_nil,sizeLine_eq];omega)
 simpa [rawInt,Builtin.Dict_items.ownedTupleFields] using q
theorem ZKd {it d:Addr} {ob:Obj} {es:Array DictEntry} {ep i:Nat} {x:DictEntry} {k0 v0:Value} {Q:Option Value→Shared→Prop} (st:IsItemIter s.heap it d i es.size ep k0 v0) (e:s.heap.get? d=some ob) (dd:ob.data=.dict es ep) (hx:es[i]?=some x)
  (q:∀ m,IsItemIterOut m it d (i + 1) es.size ep x.key x.val s.heap.objs.size→m.get? s.heap.objs.size=some {cls:=.type "tuple",data:=.seq #[x.key,x.val]}→(∀ b o,b≠it→s.heap.get? b=some o→m.get? b=some o)→Q (some (.ref s.heap.objs.size)) {s with heap:=m}) :
  wpAny (model prog w) A (pyNext (.ref it)) Q E s:=by
 obtain ⟨hp,g,dr,tk,os⟩:=s
 have ty:Shared.TypeIs ⟨hp,g,dr,tk,os⟩ (.ref it) "dict_itemiterator":=⟨_,st,rfl⟩
 have hi:i < es.size:=(Array.getElem?_eq_some_iff.mp hx).1
 have hxi:es[i]=x:=by rw [Array.getElem?_eq_getElem hi] at hx;exact Option.some.inj hx
 unfold pyNext
 refine wpAny_bind (wpAny_attempt (wpAny_callSpecial?_slot (name:=Str.ofString "__next__") ty F.slot_dict_itemiterator_next (wpAny_call_entry F.slot_dict_itemiterator_next ty F.entry_dict_itemiterator_next ?_ (F.args_dict_itemiterator_next_1 _))))
 refine wpAny_bind (wpAny_pure (wpAny_bind (wpAny_bind (wpAny_bind (wpAny_typeNameOfWhole_itemiter ty (wpAny_pure (wpAny_bind (wpAny_fieldsOf st rfl ?_))))))))
 rw [show Builtin.Dict_items.ownsTuple "dict_itemiterator"=true from by decide]
 simp only [if_true]
 change wpAny _ _ (if (Value.ref d == Value.none)=true then _ else _) _ _ _
 rw [if_neg (show ¬ ((Value.ref d == Value.none)=true) by exact Bool.false_ne_true)]
 refine wpAny_bind (wpAny_pure (wpAny_bind (wpAny_dictEntries e dd ?_)))
 rw [if_neg (show ¬ ((((es.size:Nat):Int) != ((es.size:Nat):Int))=true) by simp)]
 refine wpAny_bind (wpAny_pure (wpAny_bind (wpAny_dictEpoch e dd ?_)))
 rw [if_neg (show ¬ ((((ep:Nat):Int) != ((ep:Nat):Int))=true) by simp)]
 refine wpAny_pure ?_
 simp only [show ¬ ((i:Int) < 0) by omega,if_false,Int.toNat_natCast,Array.getElem?_eq_getElem hi]
 refine wpAny_bind (wpAny_bind (wpAny_typeNameOfWhole_itemiter ty (wpAny_pure (wpAny_bind (wpAny_isOneOf_itemiter ty ?_)))))
 change wpAny _ _ (setField (Value.ref it) 3 (rawInt ((i:Int) + 1)) >>= _) _ _ _
 refine wpAny_bind (wpAny_setField_rec st (by simp) fun m1 s1 b1=>?_)
 replace b1:Heap.SameBut it hp m1:=b1
 replace s1:IsItemIter m1 it d (i + 1) es.size ep k0 v0:=by
  have z:((i + 1:Nat):Int)=(i:Int) + 1:=by omega
  unfold IsItemIter
  rw [z]
  simpa [rawInt] using s1
 have ty1:Shared.TypeIs ⟨m1,g,dr,tk,os⟩ (.ref it) "dict_itemiterator":=⟨_,s1,rfl⟩
 refine wpAny_bind (wpAny_holding (wpAny_bind (wpAny_isOneOf_itemiter ty1 (wpAny_bind (wpAny_isOneOf_itemiter ty1 ?_)))))
 change wpAny _ _ (Builtin.Dict_items.pairFromOwner (Value.ref it) 6 es[i].key es[i].val) _ _ _
 rw [hxi]
 unfold Builtin.Dict_items.pairFromOwner
 refine wpAny_bind (wpAny_newTuple ?_)
 have s2:IsItemIter (m1.push {cls:=.type "tuple",data:=.seq #[x.key,x.val]}) it d (i + 1) es.size ep k0 v0:=Heap.get?_push_of_some _ s1
 have sz:m1.objs.size=hp.objs.size:=b1.1
 have t2:(m1.push {cls:=.type "tuple",data:=.seq #[x.key,x.val]}).get? hp.objs.size=some {cls:=.type "tuple",data:=.seq #[x.key,x.val]}:=by rw [← sz];exact Heap.get?_push_size _ rfl
 have k2:∀ b o,b≠it→hp.get? b=some o→(m1.push {cls:=.type "tuple",data:=.seq #[x.key,x.val]}).get? b=some o:=fun b o hb q=>Heap.get?_push_of_some _ (b1.extBut b o hb q)
 have lt:it < hp.objs.size:=Heap.lt_size st
 generalize m1.push {cls:=.type "tuple",data:=.seq #[x.key,x.val]}=m2 at s2 t2 k2
 change wpAny _ _ (Builtin.Dict_items.ownedTupleIsFree (Value.ref it) >>= _) _ _ ⟨m2,g,dr,tk,os⟩
 rw [sz]
 refine wpAny_bind ?_
 unfold Builtin.Dict_items.ownedTupleIsFree
 refine wpAny_bind (wpAny_field s2 rfl (x:=.none) rfl (wpAny_pure ?_))
 simp only [if_true]
 refine wpAny_bind (wpAny_field s2 rfl (x:=k0) rfl (wpAny_bind (wpAny_field s2 rfl (x:=v0) rfl ?_)))
 refine wpAny_bind (wpAny_setField_rec s2 (by simp) fun m3 s3 b3=>?_)
 replace b3:Heap.SameBut it m2 m3:=b3
 replace s3:IsItemIter m3 it d (i + 1) es.size ep x.key v0:=s3
 refine wpAny_bind (wpAny_setField_rec s3 (by simp) fun m4 s4 b4=>?_)
 replace b4:Heap.SameBut it m3 m4:=b4
 replace s4:IsItemIter m4 it d (i + 1) es.size ep x.key x.val:=s4
 refine wpAny_bind (wpAny_setField_rec s4 (by simp) fun m5 s5 b5=>?_)
 replace b5:Heap.SameBut it m4 m5:=b5
 replace s5:IsItemIterOut m5 it d (i + 1) es.size ep x.key x.val hp.objs.size:=s5
 refine wpAny_bind (wpAny_setField_rec s5 (by simp) fun m6 s6 b6=>?_)
 replace b6:Heap.SameBut it m5 m6:=b6
 replace s6:IsItemIterOut m6 it d (i + 1) es.size ep x.key x.val hp.objs.size:=s6
 have up:∀ b o,b≠it→m2.get? b=some o→m6.get? b=some o:=fun b o hb e=>b6.extBut b o hb (b5.extBut b o hb (b4.extBut b o hb (b3.extBut b o hb e)))
 exact wpAny_bind (wpAny_letGo (wpAny_pure (wpAny_pure ⟨_,rfl,wpAny_pure (q m6 s6 (up _ _ (Nat.ne_of_gt lt) t2) fun b o hb e=>up b o hb (k2 b o hb e))⟩)))
theorem ZLJ {it d:Addr} {ob:Obj} {es:Array DictEntry} {ep i:Nat} {k0 v0:Value} {Q:Option Value→Shared→Prop} (hh:A.handled=none) (st:IsItemIter s.heap it d i es.size ep k0 v0) (e:s.heap.get? d=some ob) (dd:ob.data=.dict es ep) (hx:es.size≤i)
  (q:∀ m,Heap.ExtBut it s.heap m→Q none {s with heap:=m}):wpAny (model prog w) A (pyNext (.ref it)) Q E s:=by
 have ty:s.TypeIs (.ref it) "dict_itemiterator":=⟨_,st,rfl⟩
 unfold pyNext
 refine wpAny_bind (wpAny_attempt (wpAny_callSpecial?_slot (name:=Str.ofString "__next__") ty F.slot_dict_itemiterator_next (wpAny_call_entry F.slot_dict_itemiterator_next ty F.entry_dict_itemiterator_next ?_ (F.args_dict_itemiterator_next_1 _))))
 refine wpAny_bind (wpAny_pure (wpAny_bind (wpAny_bind (wpAny_bind (wpAny_typeNameOfWhole_itemiter ty (wpAny_pure (wpAny_bind (wpAny_fieldsOf st rfl ?_))))))))
 rw [show Builtin.Dict_items.ownsTuple "dict_itemiterator"=true from by decide]
 simp only [if_true]
 change wpAny _ _ (if (Value.ref d == Value.none)=true then _ else _) _ _ _
 rw [if_neg (show ¬ ((Value.ref d == Value.none)=true) by exact Bool.false_ne_true)]
 refine wpAny_bind (wpAny_pure (wpAny_bind (wpAny_dictEntries e dd ?_)))
 rw [if_neg (show ¬ ((((es.size:Nat):Int) != ((es.size:Nat):Int))=true) by simp)]
 refine wpAny_bind (wpAny_pure (wpAny_bind (wpAny_dictEpoch e dd ?_)))
 rw [if_neg (show ¬ ((((ep:Nat):Int) != ((ep:Nat):Int))=true) by simp)]
 refine wpAny_pure ?_
 simp only [show ¬ ((i:Int) < 0) by omega,if_false,Int.toNat_natCast,Array.getElem?_eq_none hx]
 refine wpAny_bind (wpAny_bind (wpAny_typeNameOfWhole_itemiter ty (wpAny_pure ?_)))
 change wpAny _ _ (setField (Value.ref it) 2 .none >>= _) _ _ s
 refine wpAny_bind (wpAny_setField st rfl (by simp) ?_)
 change wpAny _ _ (newExc (Value.type "StopIteration") [] >>= _) _ _ _
 refine wpAny_bind ?_;simp only [newExc,newTuple]
 refine wpAny_bind (wpAny_newObj_type (wpAny_bind (m:=firstArgMember _ _) (wpAny_of_eq (a:=Value.none) (by first | rfl | (simp only [firstArgMember];rfl)) ?_)) (by size_fits))
 refine wpAny_newObj_type ?_ (by size_fits);simp only [raiseNew]
 refine wpAny_bind (wpAny_handled ?_);rw [show A.in1.handled=none from hh]
 refine wpAny_bind (wpAny_pure (wpAny_throw ?_));refine wpAny_bind (wpAny_isInstance (T:="StopIteration") (b:=true) ⟨_,Heap.get?_push_size _ rfl,rfl⟩ isSubtype_stop ?_)
 exact wpAny_pure (q _ (((Heap.SameBut.update ..).extBut.push _).push _))
end
theorem ZLv {P:Program} {w:World} {H:Hp}:∀ {kvs:List (List Key×V)} {xs:List (List Key×Addr×Value)},KT H kvs xs→∀ (i:Nat) k v,kvs[i]?=some (k,v)→∃ b u,(xs.map (entryOfKey (tupleKind (ZW P w))))[i]?=some (entryOfKey (tupleKind (ZW P w)) (k,b,u))∧H b=some (.tup (k.map kV))∧RelV v u
 | _,_,.nil,i,k,v,h=>by simp at h
 | _,_,.cons (a:=p) (b:=q) h t,0,k,v,e=>by
  simp at e
  obtain ⟨h1,h2,h3⟩:=h
  refine ⟨q.2.1,q.2.2,?_,?_,?_⟩
  ·have:q=(k,q.2.1,q.2.2):=by rw [show k=q.1 by rw [← h1,e]]
   rw [List.map_cons]
   show some _=_
   rw [← this]
  ·rw [e] at h2;exact h2
  ·rw [e] at h3;exact h3
 | _,_,.cons h t,i + 1,k,v,e=>by
  obtain ⟨b,u,h1,h2,h3⟩:=ZLv (P:=P) (w:=w) t i k v (by simpa using e)
  exact ⟨b,u,by simpa using h1,h2,h3⟩
theorem ZDo {P:Program} {w:World} {H:Hp} {h:Heap} {a:Addr} {kvs:List (List Key×V)} {ob:Obj} (x:Zam P w H h a (.dT kvs)) (e:h.get? a=some ob) :
  kvs.length≤sizeLine∧(a == sysModules)=false∧ob.ExactDict∧∃ es ep,ob.data=.dict es ep∧es.size=kvs.length∧∀ (i:Nat) k v,kvs[i]?=some (k,v)→∃ y b,es[i]?=some y∧y.key=.ref b∧H b=some (.tup (k.map kV))∧RelV v y.val:=by
 obtain ⟨z,y,xs,r,o,es,ep,e1,ex,dd,el,_⟩:=x
 rw [e] at e1
 cases e1
 refine ⟨z,y,ex,es,ep,dd,?_,fun i k v hi=>?_⟩
 ·have:es.toList.length=es.size:=Array.length_toList
  rw [← this,el,List.length_map,← Paired.length r]
 ·obtain ⟨b,u,h1,h2,h3⟩:=ZLv (P:=P) (w:=w) r i k v hi
  refine ⟨entryOfKey (tupleKind (ZW P w)) (k,b,u),b,?_,rfl,h2,h3⟩
  rw [← Array.getElem?_toList,el]
  exact h1
def Iti (d:Addr) (ob:Obj) (kvs:List (List Key×V)):It:=
 ⟨fun i H=>H d=some (.frz ob (.dT kvs))∧i < kvs.length,fun i H x H'=>∃ t b k v,H t=none∧x=.ref t∧kvs[i]?=some (k,v)∧H b=some (.tup (k.map kV))∧H'=upd H t (.tup [.ref b,v]),fun i H=>H d=some (.frz ob (.dT kvs))∧kvs.length≤i⟩
theorem ZDP {P:Program} {w:World} {K:Frag} {elts:List Expr} {kk:Nat} {pos:Pos} (d it:Addr) (ob:Obj) (kvs:List (List Key×V)) (es:Array DictEntry) (ep:Nat) (dd:ob.data=.dict es ep) :
  Turn P w K (.Tuple elts kk pos) (Iti d ob kvs) [it] it (fun i h=>∃ k0 v0,IsItemIter h it d i es.size ep k0 v0) where
 mem:=by simp
 obj:=fun i h st b hb=>by
  have e:b=it:=by simpa using hb
  subst e
  obtain ⟨k0,v0,st⟩:=st
  exact ⟨_,st,fun v z=>by cases z⟩
 keep:=fun i h h' st k=>by
  obtain ⟨k0,v0,st⟩:=st
  exact ⟨k0,v0,k it (by simp) _ st⟩
 item:=by
  intro X hP hw hK hc i pins s σ H E I hf st hg
  subst hP hw hK
  obtain ⟨hH,hi⟩:=hg
  obtain ⟨e,ok⟩:=I.hok d _ hH
  obtain ⟨_,_,_,es',ep',dd',hl,hat⟩:=ZDo ok e
  rw [dd] at dd'
  cases dd'
  obtain ⟨⟨k,v⟩,hkv⟩:∃ p,kvs[i]?=some p:=⟨_,List.getElem?_eq_getElem hi⟩
  obtain ⟨y,b,hy,hkey,hb,rv⟩:=hat i k v hkv
  obtain ⟨k0,v0,st⟩:=st
  have lt:it < s.heap.objs.size:=Heap.lt_size st
  refine ZKd st e dd hy fun m o1 t1 kp=>?_
  refine ⟨_,rfl,wpAny_letOwnedTupleGo_items (s:={s with heap:=m}) o1 fun m' st' sb=>?_⟩
  have T2:m'.IsTuple s.heap.objs.size #[y.key,y.val]:=⟨_,sb.extBut _ _ (Nat.ne_of_gt lt) t1,rfl,_,rfl⟩
  refine ⟨.ref s.heap.objs.size,_,I.turnedT (t':=s.toks) (wr:=[it]) hf (fun c o hn q=>?_) (Nat.le_refl _) (ZCT (xs:=[.ref b,v]) T2 (.cons hkey (.cons rv .nil)) (by show 2≤sizeLine;decide)),rfl,⟨_,b,k,v,I.hok.fresh (Nat.le_refl _),rfl,hkv,hb,rfl⟩,⟨_,_,st'⟩,fun c hc=>?_⟩
  ·have hn':c≠it:=by simpa using hn
   exact sb.extBut _ _ hn' (kp c o hn' q)
  ·have z:c=it:=by simpa using hc
   show upd H _ _ c=none
   rw [Zc (by rw [z];exact Nat.ne_of_lt lt)]
   exact (hf c hc).1
 done:=by
  intro X hP hw hK hc i pins s σ H E I hf st hg
  subst hP hw hK
  obtain ⟨hH,hi⟩:=hg
  obtain ⟨e,ok⟩:=I.hok d _ hH
  obtain ⟨_,_,_,es',ep',dd',hl,hat⟩:=ZDo ok e
  rw [dd] at dd'
  cases dd'
  obtain ⟨k0,v0,st⟩:=st
  exact ZLJ (I.ok.hd hc) st e dd (by omega) fun m eb=>⟨rfl,I.turnedL (t':=s.toks) (wr:=[it]) hf fun c o hn q=>eb c o (by simpa using hn) q⟩
 self:=fun _ _ _ _ _ st h=>by
  obtain ⟨k0,v0,st⟩:=st
  exact kcp_self st h
def ZLK (tl:TE):TI:=fun σ H R=>tl σ H fun x H1=>∃ r d kvs,x=.ref r∧H1 r=some (ZE6 r d)∧H1 d=some (.dT kvs)∧∀ ob,R (Iti d ob kvs) (upd H1 d (.frz ob (.dT kvs)))
theorem ZHH {X:Cx} {elts:List Expr} {kk:Nat} {tp:Pos} {l:Expr} {tl:TE} (hl:PE X l tl):PI X (.Tuple elts kk tp) l (ZLK tl):=by
 try unfold PE at *
 intro pins s σ H R I h
 refine thn (hl pins s σ H _ I h) fun v s1 ⟨x,H1,I1,r1,r,d,kvs,ex,hr,hd,q⟩=>?_
 subst ex
 cases (show v=Value.ref r from r1)
 have hv:s1.heap.IsItemsView r d:=(I1.hok r _ hr).1
 obtain ⟨ob,e,I2⟩:=I1.freeze hd rfl
 obtain ⟨_,_,_,es,ep,dd,_⟩:=ZDo (I1.hok d _ hd) e
 refine ZLI hv e dd ?_
 refine ⟨s1.heap.objs.size,[s1.heap.objs.size],_,_,_,rfl,I2.kept (t':=s1.toks) fun b o e=>Heap.get?_push_of_some _ e,ZDP d _ ob kvs es ep dd,⟨_,_,Heap.get?_push_size _ rfl⟩,fun b hb=>?_,q ob⟩
 have e:b=s1.heap.objs.size:=by simpa using hb
 subst e
 exact I2.fpOk (Nat.le_refl _) (I2.hok.fresh (Nat.le_refl _))
section
variable {prog:Program} {w:World} {A:Around} {E:Value→Shared→Prop} {s:Shared}
theorem ZLw {d:Addr} {ob:Obj} {es:Array DictEntry} {ep:Nat} {Q:Value→Shared→Prop} (hs:(d == sysModules)=false) (e:s.heap.get? d=some ob) (ex:ob.ExactDict) (dd:ob.data=.dict es ep)
  (q:Q (.ref s.heap.objs.size) {s with heap:=s.heap.push {cls:=.type "dict_keyiterator",data:=.fields #[.ref d,.int 0 0,.int es.size 0,.int ep 0]}}):wpAny (model prog w) A (pyIter (.ref d)) Q E s:=by
 have ty:s.TypeIs (.ref d) "dict":=⟨ob,e,ex.1⟩
 refine wpAny_pyIter_slot ty F.slot_dict_iter (wpAny_call_entry F.slot_dict_iter ty F.entry_dict_iter ?_ (F.args_dict_iter_1 _))
 unfold Builtin.«dict.__iter__»
 refine wpAny_bind ?_;unfold Builtin.Dict.dictSlotNone
 refine wpAny_bind (wpAny_notOrdered_dict ty ?_);change wpAny _ _ (pure (Value.ref d)) _ _ s
 refine wpAny_pure ?_;change wpAny _ _ (Builtin.Dict.showsAll d >>= _) _ _ s
 unfold Builtin.Dict.showsAll;rw [if_neg (by rw [hs];exact Bool.false_ne_true)]
 refine wpAny_bind (wpAny_pure (wpAny_bind (wpAny_dictEntries e dd (wpAny_bind (wpAny_dictEpoch e dd ?_)))))
 exact wpAny_bind (wpAny_newObj_type (wpAny_pure ⟨_,rfl,"dict_keyiterator",_,⟨_,Heap.get?_push_size _ rfl,rfl⟩,F.slot_dict_keyiterator_next.lookup,by simpa [rawInt] using q⟩))
theorem ZJ8 {it d:Addr} {ob:Obj} {es:Array DictEntry} {ep i:Nat} {x:DictEntry} {Q:Option Value→Shared→Prop} (st:s.heap.IsKeyIter it d i es.size ep) (e:s.heap.get? d=some ob) (dd:ob.data=.dict es ep) (hx:es[i]?=some x)
  (q:∀ m,m.IsKeyIter it d (i + 1) es.size ep→Heap.SameBut it s.heap m→Q (some x.key) {s with heap:=m}):wpAny (model prog w) A (pyNext (.ref it)) Q E s:=by
 have ty:=st.typeIs
 obtain ⟨oI,e1,c1,d1⟩:=st
 have hi:i < es.size:=(Array.getElem?_eq_some_iff.mp hx).1
 have hxi:es[i]=x:=by rw [Array.getElem?_eq_getElem hi] at hx;exact Option.some.inj hx
 have up:(s.heap.update it (Obj.mapFields (·.setIfInBounds 1 (rawInt ((i:Int) + 1))))).IsKeyIter it d (i + 1) es.size ep:=
  ⟨_,Heap.get?_update_self _ e1 (Obj.isFreed_of_fields (Obj.data_mapFields d1 _)),(Obj.cls_mapFields ..).trans c1,by rw [Obj.data_mapFields d1];simp [rawInt]⟩
 unfold pyNext
 refine wpAny_bind (wpAny_attempt (wpAny_callSpecial?_slot (name:=Str.ofString "__next__") ty F.slot_dict_keyiterator_next (wpAny_call_entry F.slot_dict_keyiterator_next ty F.entry_dict_keyiterator_next ?_ (F.args_dict_keyiterator_next_1 _))))
 refine wpAny_bind (wpAny_pure (wpAny_bind (wpAny_bind (wpAny_bind (wpAny_typeNameOfWhole_keyiter ty (wpAny_pure (wpAny_bind (wpAny_fieldsOf e1 d1 ?_))))))))
 rw [show Builtin.Dict_items.ownsTuple "dict_keyiterator"=false from by decide]
 simp only [Bool.false_eq_true,if_false]
 change wpAny _ _ (if (Value.ref d == Value.none)=true then _ else _) _ _ s
 rw [if_neg (show ¬ ((Value.ref d == Value.none)=true) by exact Bool.false_ne_true)]
 refine wpAny_bind (wpAny_pure (wpAny_bind (wpAny_dictEntries e dd ?_)))
 rw [if_neg (show ¬ ((((es.size:Nat):Int) != ((es.size:Nat):Int))=true) by simp)]
 refine wpAny_bind (wpAny_pure (wpAny_bind (wpAny_dictEpoch e dd ?_)))
 rw [if_neg (show ¬ ((((ep:Nat):Int) != ((ep:Nat):Int))=true) by simp)]
 refine wpAny_pure ?_
 simp only [show ¬ ((i:Int) < 0) by omega,if_false,Int.toNat_natCast,Array.getElem?_eq_getElem hi]
 refine wpAny_bind (wpAny_bind (wpAny_typeNameOfWhole_keyiter ty (wpAny_pure (wpAny_bind (wpAny_isOneOf_keyiter ty ?_)))))
 change wpAny _ _ (setField (Value.ref it) 1 (rawInt ((i:Int) + 1)) >>= _) _ _ s
 refine wpAny_bind (wpAny_setField e1 d1 (by simp) (wpAny_bind (wpAny_holding ?_)))
 refine wpAny_bind (wpAny_isOneOf_keyiter (s:={s with heap:=s.heap.update it (Obj.mapFields (·.setIfInBounds 1 (rawInt ((i:Int) + 1))))}) up.typeIs ?_)
 change wpAny _ _ (pure es[i].key) _ _ _
 rw [hxi]
 exact wpAny_pure (wpAny_pure ⟨_,rfl,wpAny_pure (q _ up (Heap.SameBut.update ..))⟩)
theorem ZLx {it d:Addr} {ob:Obj} {es:Array DictEntry} {ep i:Nat} {Q:Option Value→Shared→Prop} (hh:A.handled=none) (st:s.heap.IsKeyIter it d i es.size ep) (e:s.heap.get? d=some ob) (dd:ob.data=.dict es ep) (hx:es.size≤i)
  (q:∀ m,Heap.ExtBut it s.heap m→Q none {s with heap:=m}):wpAny (model prog w) A (pyNext (.ref it)) Q E s:=by
 have ty:=st.typeIs
 obtain ⟨oI,e1,c1,d1⟩:=st
 unfold pyNext
 refine wpAny_bind (wpAny_attempt (wpAny_callSpecial?_slot (name:=Str.ofString "__next__") ty F.slot_dict_keyiterator_next (wpAny_call_entry F.slot_dict_keyiterator_next ty F.entry_dict_keyiterator_next ?_ (F.args_dict_keyiterator_next_1 _))))
 refine wpAny_bind (wpAny_pure (wpAny_bind (wpAny_bind (wpAny_bind (wpAny_typeNameOfWhole_keyiter ty (wpAny_pure (wpAny_bind (wpAny_fieldsOf e1 d1 ?_))))))))
 rw [show Builtin.Dict_items.ownsTuple "dict_keyiterator"=false from by decide]
 simp only [Bool.false_eq_true,if_false]
 change wpAny _ _ (if (Value.ref d == Value.none)=true then _ else _) _ _ s
 rw [if_neg (show ¬ ((Value.ref d == Value.none)=true) by exact Bool.false_ne_true)]
 refine wpAny_bind (wpAny_pure (wpAny_bind (wpAny_dictEntries e dd ?_)))
 rw [if_neg (show ¬ ((((es.size:Nat):Int) != ((es.size:Nat):Int))=true) by simp)]
 refine wpAny_bind (wpAny_pure (wpAny_bind (wpAny_dictEpoch e dd ?_)))
 rw [if_neg (show ¬ ((((ep:Nat):Int) != ((ep:Nat):Int))=true) by simp)]
 refine wpAny_pure ?_
 simp only [show ¬ ((i:Int) < 0) by omega,if_false,Int.toNat_natCast,Array.getElem?_eq_none hx]
 refine wpAny_bind (wpAny_bind (wpAny_typeNameOfWhole_keyiter ty (wpAny_pure ?_)))
 change wpAny _ _ (setField (Value.ref it) 0 .none >>= _) _ _ s
 refine wpAny_bind (wpAny_setField e1 d1 (by simp) ?_)
 change wpAny _ _ (newExc (Value.type "StopIteration") [] >>= _) _ _ _
 refine wpAny_bind ?_;simp only [newExc,newTuple]
 refine wpAny_bind (wpAny_newObj_type (wpAny_bind (m:=firstArgMember _ _) (wpAny_of_eq (a:=Value.none) (by first | rfl | (simp only [firstArgMember];rfl)) ?_)) (by size_fits))
 refine wpAny_newObj_type ?_ (by size_fits);simp only [raiseNew]
 refine wpAny_bind (wpAny_handled ?_);rw [show A.in1.handled=none from hh]
 refine wpAny_bind (wpAny_pure (wpAny_throw ?_));refine wpAny_bind (wpAny_isInstance (T:="StopIteration") (b:=true) ⟨_,Heap.get?_push_size _ rfl,rfl⟩ isSubtype_stop ?_)
 exact wpAny_pure (q _ (((Heap.SameBut.update ..).extBut.push _).push _))
theorem ZJ9 (d:Addr) (ob:Obj) (es:Array DictEntry) (ep:Nat) (hs:(d == sysModules)=false) (ex:ob.ExactDict) (dd:ob.data=.dict es ep) :
  KdlSrc prog w "dict" d d es.size (fun i v=>∃ x,es[i]?=some x∧v=x.key) (fun h=>h.get? d=some ob) where
 type:=fun _ e=>⟨ob,e,ex.1⟩
 there:=fun _ e=>⟨Heap.lt_size e,Heap.lt_size e⟩
 keep:=fun _ _ e hk=>hk d (.inl rfl) ob e
 notList:=by decide
 notTuple:=by decide
 hint:=fun _ _ _ _ e hq=>kdl_hint_dict ⟨ob,e,ex.1⟩ hq
 iter:=fun A s hh e=>⟨_,fun i h=>h.IsKeyIter s.heap.objs.size d i es.size ep∧h.get? d=some ob,(fun _ _ hq=>ZLw hs e ex dd hq),
  {sub:=fun b hb=>by simp at hb;simp [hb]
   frame:=fun _ _ _ st hk=>⟨st.1.at fun o e=>hk _ (by simp) o e,hk d (by simp) _ st.2⟩
   item:=fun i s' Q E hi st hQ=>by
    have hne:d≠s.heap.objs.size:=Nat.ne_of_lt (Heap.lt_size e)
    refine ZJ8 st.1 st.2 dd (x:=es[i]) (by simp [hi]) fun m st' sb=>?_
    exact hQ _ m s'.toks ⟨es[i],by simp [hi],rfl⟩ ⟨st',sb.extBut _ _ hne st.2⟩ fun b o hb q=>sb.extBut b o (fun h=>hb (by simp [h])) q
   done:=fun s' Q E st hQ=>ZLx hh st.1 st.2 dd (Nat.le_refl _) fun m eb=>hQ m s'.toks fun b o hb q=>eb b o (fun h=>hb (by simp [h])) q
   self:=fun _ _ _ _ st hQ=>wpAny_pyIter_keyiter st.1 hQ},
  ⟨⟨_,Heap.get?_push_size _ rfl,rfl,rfl⟩,Heap.get?_push_of_some _ e⟩⟩
end
def ZL8 (H:Hp) (bs:List Addr) (ks:List (List Key)):Prop:=bs.length=ks.length∧∀ (i:Nat) b k,bs[i]?=some b→ks[i]?=some k→H b=some (.tup (k.map kV))
theorem ZCg {X:Cx} (hc:X.calm=true:=by rfl):ZfR X (.type "list") (fun xs H Q=>∃ p kvs,xs=[.ref p]∧Rd H p (.dT kvs)∧∀ l bs,H l=none→ZL8 H bs (kvs.map (·.1))→Q (.ref l) (upd H l (.lst (bs.map V.ref)))):=by
 intro pins s σ H xs us Q I r h
 obtain ⟨p,kvs,rfl,hp,q⟩:=h
 obtain ⟨u,rfl,ru⟩:=r.one
 cases (show u=Value.ref p from ru)
 have ok:Zam X.prog X.w H s.heap p (.dT kvs):=ZJH I.hok hp
 obtain ⟨ob,e⟩:=ok.there
 obtain ⟨hz,hs,ex,es,ep,dd,hl,hat⟩:=ZDo ok e
 refine kdl_call (ZJ9 (prog:=X.prog) (w:=X.w) p ob es ep hs ex dd) (I.ok.hd hc) e (by rw [hl];exact hz) fun h' tk acc c hk he hi=>?_
 -- the addresses of the keys
 have key:∀ n,n≤kvs.length→∃ bs:List Addr,bs.length=n∧∀ (i:Nat) b,bs[i]?=some b→∃ y k v,es[i]?=some y∧y.key=.ref b∧kvs[i]?=some (k,v)∧H b=some (.tup (k.map kV)):=by
  intro n
  induction n with
  | zero=>intro _;exact ⟨[],rfl,fun i b h=>by simp at h⟩
  | succ n ih=>
   intro hn
   obtain ⟨bs,h1,h2⟩:=ih (by omega)
   obtain ⟨⟨k,v⟩,hkv⟩:∃ p,kvs[n]?=some p:=⟨_,List.getElem?_eq_getElem (by omega)⟩
   obtain ⟨y,b,hy,hkey,hb,_⟩:=hat n k v hkv
   refine ⟨bs++[b],by rw [List.length_append,h1];rfl,fun i c hc=>?_⟩
   by_cases hi:i < bs.length
   ·rw [List.getElem?_append_left hi] at hc
    exact h2 i c hc
   ·rw [List.getElem?_append_right (by omega)] at hc
    have:i - bs.length=0:=by
     cases hh:i - bs.length with
     | zero=>rfl
     | succ m=>rw [hh] at hc;simp at hc
    rw [this] at hc
    have hin:i=n:=by omega
    subst hin
    simp at hc
    subst hc
    exact ⟨y,k,v,hy,hkey,hkv,hb⟩
 obtain ⟨bs,hbl,hbs⟩:=key kvs.length (Nat.le_refl _)
 refine ⟨.ref _,_,I.lput hk (Nat.le_refl _) he (Zu9 (xs:=bs.map V.ref) ?_ fun j x w hx hw=>?_) (by rw [List.length_map,hbl];exact hz),rfl,q _ bs I.fresh ⟨by rw [hbl,List.length_map],fun i b k hb hk'=>?_⟩⟩
 ·have e3:acc.toList.length=acc.size:=Array.length_toList
  rw [List.length_map,e3,hi.1,hl,hbl]
 ·obtain ⟨y,hy,rfl⟩:=hi.2 j w (by rw [← Array.getElem?_toList];exact hw)
  rw [List.getElem?_map] at hx
  cases hb:bs[j]? with
  | none=>rw [hb] at hx;cases hx
  | some b=>
   rw [hb] at hx
   cases hx
   obtain ⟨y',k,v,hy',hkey,_,_⟩:=hbs j b hb
   rw [hy] at hy'
   cases hy'
   exact hkey
 ·obtain ⟨y,k',v,_,_,hkv,hH⟩:=hbs i b hb
  rw [List.getElem?_map,hkv] at hk'
  cases hk'
  exact hH
end L2
namespace L2
open PySem PySem.Spec PyProof.Rows PySem.W
def eKV (es:List (Str×Int)):List (Key×V):=es.map fun p=>(Sum.inr p.1,V.int p.2)
def Zju (h:Heap) (es:List (Str×Int)) (as:List Addr):Prop:=
 as.length=es.length∧∀ (j:Nat) (a:Addr) (p:Str×Int),as[j]?=some a→es[j]?=some p→∃ t u,h.get? a=some {cls:=.type "tuple",data:=.seq #[.str p.1 t,.int p.2 u]}
theorem Zju.keep {h h':Heap} {es:List (Str×Int)} {as:List Addr} (e:Zju h es as) (k:∀ a∈as,∀ o,h.get? a=some o→h'.get? a=some o):Zju h' es as:=
 ⟨e.1,fun j a p ha hp=>by obtain ⟨t,u,q⟩:=e.2 j a p ha hp;exact ⟨t,u,k a (List.mem_of_getElem? ha) _ q⟩⟩
theorem Zju.at {h:Heap} {es:List (Str×Int)} {as:List Addr} (e:Zju h es as) {i:Nat} (hi:i < es.length):∃ a t u,as.getD i 0=a∧as[i]?=some a∧h.get? a=some {cls:=.type "tuple",data:=.seq #[.str (es.getD i (Str.empty,0)).1 t,.int (es.getD i (Str.empty,0)).2 u]}:=by
 have hi':i < as.length:=by rw [e.1];exact hi
 obtain ⟨t,u,q⟩:=e.2 i as[i] es[i] (List.getElem?_eq_getElem hi') (List.getElem?_eq_getElem hi)
 refine ⟨as[i],t,u,?_,List.getElem?_eq_getElem hi',?_⟩
 ·rw [List.getD_eq_getElem?_getD,List.getElem?_eq_getElem hi'];rfl
 ·rw [List.getD_eq_getElem?_getD,List.getElem?_eq_getElem hi];exact q
section
variable {prog:Program} {w:World} {A:Around} {E:Value→Shared→Prop} {s:Shared}
theorem ZIr {es:List (Str×Int)} {as:List Addr} {i j:Nat} {C:Bool→Shared→Prop} (e:Zju s.heap es as) (hi:i < es.length) (hj:j < es.length) (h:C (ZqA (es.getD i (Str.empty,0)) (es.getD j (Str.empty,0))) s) :
  kas_ask prog w A (tuples' true) (as.map Value.ref) i j C s:=by
 obtain ⟨a,t,u,h1,h1',h2⟩:=e.at hi
 obtain ⟨b,t',u',h3,h3',h4⟩:=e.at hj
 have g1:(as.map Value.ref).getD i Value.none=.ref a:=by rw [List.getD_eq_getElem?_getD,List.getElem?_map,h1'];rfl
 have g3:(as.map Value.ref).getD j Value.none=.ref b:=by rw [List.getD_eq_getElem?_getD,List.getElem?_map,h3'];rfl
 unfold kas_ask
 rw [g1,g3]
 refine kat_lt h2 rfl h4 rfl ?_
 generalize es.getD i (Str.empty,0)=p at h h2
 generalize es.getD j (Str.empty,0)=q at h h4
 refine kat_cons (wpAny_eqBool_str ?_)
 by_cases z:p.1=q.1
 ·rw [decide_eq_true z]
  refine kat_yes (kat_cons (wpAny_eqBool_int ?_))
  by_cases y:p.2=q.2
  ·rw [show (p.2 == q.2)=true by simp [y]]
   refine kat_yes (kat_nil ?_)
   unfold ZqA at h
   rw [if_pos z,if_pos y] at h
   exact h
  ·rw [show (p.2 == q.2)=false by simp [y]]
   refine kat_no (kat_one _ _ ?_)
   unfold ZqA at h
   rw [if_pos z,if_neg y] at h
   exact lt_int h
 ·rw [decide_eq_false z]
  refine kat_no ?_
  unfold ZqA at h
  rw [if_neg z] at h
  exact oneLt_str h
end
theorem ZJ7 {es:List (Str×Int)}:∀ {vs:List (Key×Value)},KV (eKV es) vs→∀ (j:Nat) k x,vs[j]?=some (k,x)→∃ p u,es[j]?=some p∧k=.inr p.1∧x=.int p.2 u:=by
 intro vs r j k x h
 induction es generalizing vs j with
 | nil=>cases r;simp at h
 | cons p es ih=>
  cases r with
  | cons a t=>
   cases j with
   | zero=>
    simp at h
    obtain ⟨a1,u,a2⟩:=a
    rw [h] at a1 a2
    exact ⟨p,u,rfl,a1.symm,a2⟩
   | succ j=>exact ih t j (by simpa using h)
theorem Zyn:∀ as:List Addr,Vals (as.map V.ref) (as.map Value.ref)
 | []=>.nil
 | _::r=>.cons rfl (Zyn r)
section
variable {X:Cx} {pins:List (Addr×Obj)} {σ:St} {H:Hp} {s:Shared}
def ZIt (as:List Addr) (es:List (Str×Int)) (H:Hp):Hp:=Zkg (as.zip (es.map fun p=>[V.str p.1,V.int p.2])) H
theorem ZIs {as:List Addr} {es:List (Str×Int)} {H:Hp} (nd:as.Nodup) (hl:as.length=es.length) {j:Nat} {a:Addr} {p:Str×Int} (ha:as[j]?=some a) (hp:es[j]?=some p):ZIt as es H a=some (.tup [.str p.1,.int p.2]):=by
 refine ZxW _ H a _ ?_ ?_
 ·have:(as.zip (es.map fun p=>[V.str p.1,V.int p.2])).map (·.1)=as:=by
   rw [show (as.zip (es.map fun p=>[V.str p.1,V.int p.2])).map (·.1)=(as.zip (es.map fun p=>[V.str p.1,V.int p.2])).unzip.1 by rw [List.unzip_fst]]
   rw [List.unzip_zip_left (by rw [List.length_map,hl];exact Nat.le_refl _)]
  rw [this]
  exact nd
 ·refine List.mem_of_getElem? (i:=j) ?_
  rw [List.getElem?_zip_eq_some]
  exact ⟨ha,by rw [List.getElem?_map,hp];rfl⟩
theorem ZzK (hc:X.calm=true:=by rfl):ZfR X (.builtin "sorted") (fun xs H Q=>∃ p d es,xs=[.ref p]∧H p=some (ZE6 p d)∧Rd H d (.dK (eKV es))∧es.length < 64∧
  ∀ (l:Addr) (as:List Addr) (H':Hp),Same H H'→H l=none→H' l=some (.lst (as.map V.ref))→as.length=(Zc8 es).length→as.length≤es.length→(∀ (j:Nat) a p,as[j]?=some a→(Zc8 es)[j]?=some p→H' a=some (.tup [.str p.1,.int p.2]))→Q (.ref l) H'):=by
 intro pins s σ H xs us Q I r h
 obtain ⟨p,d,es,rfl,hp,hd,h64,q⟩:=h
 obtain ⟨u,rfl,ru⟩:=r.one
 cases (show u=Value.ref p from ru)
 have hv:s.heap.IsItemsView p d:=(I.hok p _ hp).1
 obtain ⟨hz,hs,vs,rel,dd⟩:=ZqB I.hok hd
 obtain ⟨ep,hat⟩:=dd.dictAt
 have hvl:vs.length=es.length:=by rw [← rel.length];exact List.length_map ..
 refine Calls.call_function_entry kind_sorted plain_sorted entry_sorted (args_sorted1 _) ?_
 unfold Builtin.«sorted»
 refine wpAny_bind (m:=checkCount "sorted" 1 1 _) (wpAny_pure ?_)
 refine wpAny_bind (kdx_collect (knd:=ZW X.prog X.w) (kvs:=vs) (ep:=ep) (by first | exact I.ok.hd hc | exact (I.ok.hd hc)) hv hat (by rw [← rel.length];exact hz) fun h1 tk as old hal G=>?_)
 have hasl:as.length=es.length:=hal.trans hvl
 have ent:Zju h1 es as:=⟨hasl,fun j a p' ha hp'=>by
  obtain ⟨key,k,x,h2,h3,h4⟩:=G.pairs j a ha
  obtain ⟨p2,u,h5,h6,h7⟩:=ZJ7 rel j k x h2
  rw [hp'] at h5
  cases h5
  subst h6 h7
  obtain ⟨t,rfl⟩:=(show RelV (.str p'.1) key from ZFD h3)
  exact ⟨t,u,h4⟩⟩
 have nd:as.Nodup:=G.rise.imp fun h=>Nat.ne_of_lt h
 have lt1:∀ a∈as,a < h1.objs.size:=fun a ha=>G.there ha
 have hlen:(as.map Value.ref).length < 64:=by rw [List.length_map,hasl];exact h64
 refine wpAny_bind (wpAny_newList ?_ (by rw [sizeLine_eq];omega))
 have hD:(h1.push (seqObj "list" (as.map Value.ref).toArray 0)).get? h1.objs.size=some (seqObj "list" (as.map Value.ref).toArray 0):=Heap.get?_push_size _ rfl
 have sD:s.heap.get? h1.objs.size=none:=by
  cases z:s.heap.get? h1.objs.size with
  | none=>rfl
  | some o=>exact absurd (Heap.lt_size (old _ _ z)) (Nat.lt_irrefl _)
 -- what every end leaves
 have fin:∀ (h3:Heap) (c:Nat) (outs:List Addr),(∀ b o,b≠h1.objs.size→(h1.push (seqObj "list" (as.map Value.ref).toArray 0)).get? b=some o→h3.get? b=some o)→h3.get? h1.objs.size=some (seqObj "list" (outs.map Value.ref).toArray c)→
   outs.length=(Zc8 es).length→outs.length≤es.length→(∀ (j:Nat) a p,outs[j]?=some a→(Zc8 es)[j]?=some p→∃ i:Nat,as[i]?=some a∧es[i]?=some p)→EP X pins σ Q (.ref h1.objs.size) {s with heap:=h3,toks:=tk}:=by
  intro h3 c outs kp he hol hol2 hat3
  have old3:∀ b o,s.heap.get? b=some o→h3.get? b=some o:=fun b o e=>kp b o (Nat.ne_of_lt (Heap.lt_size (old b o e))) (Heap.get?_push_of_some _ (old b o e))
  have asN:∀ a∈as,s.heap.get? a=none∧H a=none∧a≠h1.objs.size:=fun a ha=>by
   have:=G.above a ha
   refine ⟨?_,I.hok.fresh (Nat.le_of_lt this),Nat.ne_of_lt (lt1 a ha)⟩
   cases z:s.heap.get? a with
   | none=>rfl
   | some o=>exact absurd (Heap.lt_size z) (Nat.not_lt.mpr (Nat.le_of_lt this))
  have ent3:Zju h3 es as:=ent.keep fun a ha o e=>kp a o (asN a ha).2.2 (Heap.get?_push_of_some _ e)
  have mem:∀ b xs,(b,xs)∈as.zip (es.map fun p=>[V.str p.1,V.int p.2])→∃ (j:Nat) (p:Str×Int),as[j]?=some b∧es[j]?=some p∧xs=[V.str p.1,V.int p.2]:=fun b xs hm=>by
   obtain ⟨j,hj⟩:=List.mem_iff_getElem?.mp hm
   rw [List.getElem?_zip_eq_some] at hj
   obtain ⟨j1,j2⟩:=hj
   rw [List.getElem?_map] at j2
   cases z:es[j]? with
   | none=>rw [z] at j2;cases j2
   | some p=>rw [z] at j2;cases j2;exact ⟨j,p,j1,z,rfl⟩
  have hDn:H h1.objs.size=none:=(I.kept (h':=h1) (t':=tk) old).hok.fresh (Nat.le_refl _)
  have sm:Same H (upd (ZIt as es H) h1.objs.size (.lst (outs.map V.ref))):=fun b o e=>by
   rw [Zc (Zd e hDn)]
   unfold ZIt
   rw [ZtZ]
   ·exact e
   ·intro hm
    obtain ⟨⟨b',xs⟩,hm1,rfl⟩:=List.mem_map.mp hm
    obtain ⟨j,p,j1,_,_⟩:=mem _ _ hm1
    have:=(asN _ (List.mem_of_getElem? j1)).2.1
    rw [show b'=(b',xs).1 from rfl] at this
    rw [this] at e
    cases e
  have at3:∀ (j:Nat) a p,as[j]?=some a→es[j]?=some p→(upd (ZIt as es H) h1.objs.size (.lst (outs.map V.ref))) a=some (.tup [.str p.1,.int p.2]):=fun j a p ha hp=>by
   rw [Zc (asN a (List.mem_of_getElem? ha)).2.2]
   exact ZIs nd hasl ha hp
  refine ⟨.ref h1.objs.size,_,I.many (t':=tk) old3 sm (fun b o e=>?_),rfl,q _ outs _ sm hDn Zb hol hol2 fun j a p ha hp=>?_⟩
  ·by_cases z:b=h1.objs.size
   ·subst z
    rw [Zb] at e
    cases e
    refine .inr ⟨sD,?_,(outs.map Value.ref),c,?_,he⟩
    ·rw [List.length_map]
     have:(64:Nat)≤sizeLine:=by decide
     omega
    ·exact Zyn outs
   ·rw [Zc z] at e
    rcases ZxV _ H b o e with y | ⟨xs,y,rfl⟩
    ·exact .inl y
    ·obtain ⟨j,p,j1,j2,rfl⟩:=mem _ _ y
     obtain ⟨t,u,g⟩:=ent3.2 j b p j1 j2
     exact .inr ⟨(asN b (List.mem_of_getElem? j1)).1,ZCT (vs:=#[.str p.1 t,.int p.2 u]) ⟨_,g,rfl,_,rfl⟩ (.cons ⟨t,rfl⟩ (.cons ⟨u,rfl⟩ .nil)) (by show 2≤sizeLine;decide)⟩
  ·obtain ⟨i,i1,i2⟩:=hat3 j a p ha hp
   exact at3 i a p i1 i2
 refine wpAny_bind (wpAny_holding (wpAny_call_entry slot_list_sort ⟨_,hD,rfl⟩ entry_list_sort ?body (args_list_sort _)))
 case body=>
  by_cases h2:(as.map Value.ref).length < 2
  ·refine ZC0 (s:={s with heap:=h1.push (seqObj "list" (as.map Value.ref).toArray 0),toks:=tk}) hD h2 fun h3 c kp he=>?_
   refine ⟨_,rfl,wpAny_pure ⟨_,rfl,fin h3 c as kp he ?_ (Nat.le_of_eq hasl) fun j a p ha hp=>?_⟩⟩
   ·unfold Zc8
    rw [if_pos (by rw [List.length_map,hasl] at h2;exact h2)]
    exact hasl
   ·unfold Zc8 at hp
    rw [if_pos (by rw [List.length_map,hasl] at h2;exact h2)] at hp
    exact ⟨j,ha,hp⟩
  ·have e2:¬ es.length < 2:=by rw [List.length_map,hasl] at h2;exact h2
   have h2':2≤(as.map Value.ref).length:=by omega
   have hlm:(as.map Value.ref).length=es.length:=by rw [List.length_map,hasl]
   refine Zx5 (s:={s with heap:=h1.push (seqObj "list" (as.map Value.ref).toArray 0),toks:=tk}) (κ:=tuples' true) (lt:=fun i j=>ZqA (es.getD i (Str.empty,0)) (es.getD j (Str.empty,0))) hD h2' hlen (fun h' Q' kp hq=>?_) (fun h' i j C kp hi hj hq=>?_) fun h3 c hsz kp he=>?_
   ·have e':Zju h' es as:=ent.keep fun a ha o e=>kp a o (Nat.ne_of_lt (lt1 a ha)) (Heap.get?_push_of_some _ e)
    have firsts:∀ (es:List (Str×Int)) (as:List Addr),Zju h' es as→∃ fs:List Value,fs.length=es.length∧KatTups h' (as.map Value.ref) fs∧∀ v∈fs,∃ x t,v=.str x t:=by
     intro es
     induction es with
     | nil=>
      intro as e
      have:as=[]:=List.length_eq_zero_iff.mp e.1
      subst this
      exact ⟨[],rfl,KatTups.nil,fun v hv=>nomatch hv⟩
     | cons p es ih=>
      intro as e
      match as,e with
      | a::as,e=>
       obtain ⟨t,u,g⟩:=e.2 0 a p rfl rfl
       obtain ⟨fs,f1,f2,f3⟩:=ih as ⟨by simpa using e.1,fun j b q hb hq=>e.2 (j + 1) b q (by simpa using hb) (by simpa using hq)⟩
       exact ⟨.str p.1 t::fs,by rw [List.length_cons,List.length_cons,f1],KatTups.cons g rfl rfl rfl f2,fun v hv=>by
        rcases List.mem_cons.mp hv with rfl | hv
        ·exact ⟨_,_,rfl⟩
        ·exact f3 v hv⟩
    obtain ⟨fs,f1,f2,f3⟩:=firsts es as e'
    refine kat_kind (T:=.type "str") f2 (by omega) (fun v hv=>?_) (by decide) ?_
    ·obtain ⟨x,t,rfl⟩:=f3 v hv
     exact Looks.of_pure rfl
    ·rw [show (Value.type "str" != Value.type "tuple")=true by decide]
     exact hq
   ·exact ZIr (ent.keep fun a ha o e=>kp a o (Nat.ne_of_lt (lt1 a ha)) (Heap.get?_push_of_some _ e)) (by omega) (by omega) hq
   ·rw [hlm] at he hsz
    have low:Low es.length (Z3 (fun i j=>ZqA (es.getD i (Str.empty,0)) (es.getD j (Str.empty,0))) (kas_sort es.length)):=Zcd _ (ZeP (n:=es.length) (by omega))
    have hsE:Zc8 es=(Z3 (fun i j=>ZqA (es.getD i (Str.empty,0)) (es.getD j (Str.empty,0))) (kas_sort es.length)).toList.map fun i=>es.getD i (Str.empty,0):=by unfold Zc8;rw [if_neg e2]
    generalize Z3 (fun i j=>ZqA (es.getD i (Str.empty,0)) (es.getD j (Str.empty,0))) (kas_sort es.length)=ix at he low hsE hsz
    have hmap:(ix.toList.map fun i=>(as.map Value.ref).getD i Value.none)=(ix.toList.map fun i=>as.getD i 0).map Value.ref:=by
     rw [List.map_map]
     refine List.map_congr_left fun i hi=>?_
     have hi':i < es.length:=low.lt i (by simpa using hi)
     obtain ⟨a,t,u,g1,g2,_⟩:=ent.at hi'
     show (as.map Value.ref).getD i Value.none=Value.ref (as.getD i 0)
     rw [g1,List.getD_eq_getElem?_getD,List.getElem?_map,g2]
     rfl
    rw [hmap] at he
    refine ⟨_,rfl,wpAny_pure ⟨_,rfl,fin h3 c _ kp he ?_ ?_ fun j a p ha hp=>?_⟩⟩
    ·rw [hsE,List.length_map,List.length_map]
    ·rw [List.length_map,Array.length_toList,hsz];exact Nat.le_refl _
    ·rw [hsE] at hp
     rw [List.getElem?_map] at ha hp
     cases z:ix.toList[j]? with
     | none=>rw [z] at ha;cases ha
     | some i=>
      rw [z] at ha hp
      cases ha
      cases hp
      have hi':i < es.length:=low.lt i (by have:=List.mem_of_getElem? z;simpa using this)
      obtain ⟨a,t,u,g1,g2,_⟩:=ent.at hi'
      refine ⟨i,by show as[i]?=some (as.getD i 0);rw [g1];exact g2,?_⟩
      show es[i]?=some (es.getD i (Str.empty,0))
      rw [List.getD_eq_getElem?_getD,List.getElem?_eq_getElem hi']
      rfl
end
end L2
namespace L2
open PySem PySem.Spec PyProof.Rows PySem.W
def Zkp (ns:List Str):List Str:=
 if ns.length < 2 then ns else (Z3 (fun i j=>decide ((ns.getD i Str.empty).cps.toList < (ns.getD j Str.empty).cps.toList)) (kas_sort ns.length)).toList.map fun i=>ns.getD i Str.empty
theorem Zvc:∀ {ns:List Str} {vs:List Value},Vals (ns.map V.str) vs→∀ {i:Nat},i < ns.length→∃ t,vs.getD i Value.none=.str (ns.getD i Str.empty) t
 | [],_,_,_,h=>absurd h (Nat.not_lt_zero _)
 | n::ns,_,.cons ⟨t,e⟩ r,0,_=>⟨t,e⟩
 | n::ns,_,.cons _ r,i + 1,h=>by
  obtain ⟨t,e⟩:=Zvc r (i:=i) (by simpa using h)
  exact ⟨t,by simpa using e⟩
theorem ZJ6 {ks:List Str}:∀ {kvs:List (Key×V)},kvs.map (·.1)=ks.map Sum.inr→∀ {vs:List (Key×Value)},KV kvs vs→vs.map (·.1)=ks.map Sum.inr:=by
 intro kvs h vs r
 rw [← r.keys]
 exact h
section
variable {X:Cx} {pins:List (Addr×Obj)} {σ:St} {H:Hp} {s:Shared}
theorem ZzL (hc:X.calm=true:=by rfl):ZfR X (.builtin "sorted") (fun xs H Q=>∃ d kvs ns,xs=[.ref d]∧Rd H d (.dK kvs)∧kvs.map (·.1)=ns.map Sum.inr∧ns.length < 64∧
  ∀ (l:Addr),H l=none→Q (.ref l) (upd H l (.lst ((Zkp ns).map V.str)))):=by
 intro pins s σ H xs us Q I r h
 obtain ⟨d,kvs,ns,rfl,hd,hks,h64,q⟩:=h
 obtain ⟨u,rfl,ru⟩:=r.one
 cases (show u=Value.ref d from ru)
 obtain ⟨hz,hs,vs,rel,dd⟩:=ZqB I.hok hd
 obtain ⟨ep,hat⟩:=dd.dictAt
 have hkl:kvs.length=ns.length:=by
  have:=congrArg List.length hks
  rw [List.length_map,List.length_map] at this
  exact this
 refine Calls.call_function_entry kind_sorted plain_sorted entry_sorted (args_sorted1 _) ?_
 unfold Builtin.«sorted»
 refine wpAny_bind (m:=checkCount "sorted" 1 1 _) (wpAny_pure ?_)
 refine wpAny_bind (kdu_collect (kdl_dict (knd:=ZW X.prog X.w) (kvs:=vs) (ep:=ep) hs) (by first | exact I.ok.hd hc | exact (I.ok.hd hc)) hat (by rw [← rel.length];exact hz) fun h1 tk acc old hi=>?_)
 have hal:acc.toList.length=ns.length:=by
  have e3:acc.toList.length=acc.size:=Array.length_toList
  rw [e3,hi.1,← rel.length,hkl]
 have rv:Vals (ns.map V.str) acc.toList:=by
  refine Zu9 (by rw [List.length_map,hal]) fun j x w hx hw=>?_
  obtain ⟨k,y,hy,hk'⟩:=hi.2 j w (by rw [← Array.getElem?_toList];exact hw)
  have e1:(vs.map (·.1))[j]?=some k:=by rw [List.getElem?_map,hy];rfl
  rw [ZJ6 hks rel,List.getElem?_map] at e1
  rw [List.getElem?_map] at hx
  cases z:ns[j]? with
  | none=>rw [z] at hx;cases hx
  | some n=>
   rw [z] at hx e1
   cases hx
   cases e1
   exact ZFD hk'
 generalize acc.toList=us at hal rv
 refine wpAny_bind (wpAny_newList ?_ (by rw [sizeLine_eq];omega))
 have hD:(h1.push (seqObj "list" us.toArray 0)).get? h1.objs.size=some (seqObj "list" us.toArray 0):=Heap.get?_push_size _ rfl
 have sD:s.heap.get? h1.objs.size=none:=by
  cases z:s.heap.get? h1.objs.size with
  | none=>rfl
  | some o=>exact absurd (Heap.lt_size (old _ _ z)) (Nat.lt_irrefl _)
 have hDn:H h1.objs.size=none:=(I.kept (h':=h1) (t':=tk) old).hok.fresh (Nat.le_refl _)
 have fin:∀ (h3:Heap) (c:Nat) (outs:List Value),(∀ b o,b≠h1.objs.size→(h1.push (seqObj "list" us.toArray 0)).get? b=some o→h3.get? b=some o)→h3.get? h1.objs.size=some (seqObj "list" outs.toArray c)→
   (Zkp ns).length≤ns.length→Vals ((Zkp ns).map V.str) outs→EP X pins σ Q (.ref h1.objs.size) {s with heap:=h3,toks:=tk}:=by
  intro h3 c outs kp he hl ro
  refine ⟨.ref h1.objs.size,_,I.many (t':=tk) (fun b o e=>kp b o (Nat.ne_of_lt (Heap.lt_size (old b o e))) (Heap.get?_push_of_some _ (old b o e))) (Zk hDn) (fun b o e=>?_),rfl,q _ hDn⟩
  by_cases z:b=h1.objs.size
  ·subst z
   rw [Zb] at e
   cases e
   refine .inr ⟨sD,?_,outs,c,ro,he⟩
   rw [List.length_map]
   have:(64:Nat)≤sizeLine:=by decide
   omega
  ·rw [Zc z] at e
   exact .inl e
 refine wpAny_bind (wpAny_holding (wpAny_call_entry slot_list_sort ⟨_,hD,rfl⟩ entry_list_sort ?body (args_list_sort _)))
 case body=>
  by_cases h2:us.length < 2
  ·refine ZC0 (s:={s with heap:=h1.push (seqObj "list" us.toArray 0),toks:=tk}) hD h2 fun h3 c kp he=>?_
   have e2:Zkp ns=ns:=by unfold Zkp;rw [if_pos (by omega)]
   exact ⟨_,rfl,wpAny_pure ⟨_,rfl,fin h3 c us kp he (by rw [e2];exact Nat.le_refl _) (by rw [e2];exact rv)⟩⟩
  ·have e2:¬ ns.length < 2:=by omega
   refine Zx5 (s:={s with heap:=h1.push (seqObj "list" us.toArray 0),toks:=tk}) (κ:=oneType') (lt:=fun i j=>decide ((ns.getD i Str.empty).cps.toList < (ns.getD j Str.empty).cps.toList)) hD (by omega) (by omega) (fun h' Q' kp hq=>?_) (fun h' i j C kp hi hj hq=>?_) fun h3 c hsz kp he=>?_
   ·have hS:=ZCX rv
    match us,h2,hS with
    | v1::v2::r,_,hS=>
     rw [keyKind_strs hS]
     exact wpAny_pure hq
    | [v1],h2,_=>exact absurd (by show 1 < 2;decide) h2
    | [],h2,_=>exact absurd (by decide) h2
   ·obtain ⟨t,g1⟩:=Zvc rv (i:=i) (by omega)
    obtain ⟨t',g2⟩:=Zvc rv (i:=j) (by omega)
    unfold kas_ask
    rw [g1,g2]
    exact kas_lt_str hq
   ·rw [hal] at he hsz
    have low:Low ns.length (Z3 (fun i j=>decide ((ns.getD i Str.empty).cps.toList < (ns.getD j Str.empty).cps.toList)) (kas_sort ns.length)):=Zcd _ (ZeP (n:=ns.length) (by omega))
    have hsE:Zkp ns=(Z3 (fun i j=>decide ((ns.getD i Str.empty).cps.toList < (ns.getD j Str.empty).cps.toList)) (kas_sort ns.length)).toList.map fun i=>ns.getD i Str.empty:=by unfold Zkp;rw [if_neg e2]
    generalize Z3 (fun i j=>decide ((ns.getD i Str.empty).cps.toList < (ns.getD j Str.empty).cps.toList)) (kas_sort ns.length)=ix at he low hsE hsz
    refine ⟨_,rfl,wpAny_pure ⟨_,rfl,fin h3 c _ kp he ?_ ?_⟩⟩
    ·rw [hsE,List.length_map,Array.length_toList,hsz];exact Nat.le_refl _
    ·rw [hsE]
     have:∀ l:List Nat,(∀ i∈l,i < ns.length)→Vals ((l.map fun i=>ns.getD i Str.empty).map V.str) (l.map fun i=>us.getD i Value.none):=by
      intro l
      induction l with
      | nil=>intro _;exact .nil
      | cons i r ih=>
       intro hl
       obtain ⟨t,g⟩:=Zvc rv (i:=i) (hl i List.mem_cons_self)
       exact .cons ⟨t,g⟩ (ih fun j hj=>hl j (List.mem_cons_of_mem _ hj))
     exact this _ fun i hi=>low.lt i (by simpa using hi)
end
end L2
namespace L2
open PySem PySem.Spec PyProof.Rows PySem.W
def Its (x:Str):It:=⟨fun i _=>i < x.cps.size,fun i H v H'=>H'=H∧∃ c,x.cps[i]?=some c∧v=.str ⟨#[c]⟩,fun i _=>i=x.cps.size⟩
theorem ZHi {P:Program} {w:World} {K:Frag} {tg:Expr} (it:Addr) (x:Str) (ty:String) (t:Tok)
  (W:∀ A':Around,A'.handled=none→Walks P w A' it [it] [it] x.cps.size (SignAt x) fun i h=>h.IsStrIter it ty x t i) (hself:∀ (A:Around) (i:Nat) (s:Shared) (Q:Value→Shared→Prop) (E:Value→Shared→Prop),s.heap.IsStrIter it ty x t i→Q (.ref it) s→wpAny (model P w) A (pyIter (.ref it)) Q E s):Turn P w K tg (Its x) [it] it (fun i h=>h.IsStrIter it ty x t i) where
 mem:=by simp
 obj:=fun i h st b hb=>by
  have e:b=it:=by simpa using hb
  subst e
  obtain ⟨o,e,c,d⟩:=st
  exact ⟨o,e,fun v z=>by rw [d] at z;cases z⟩
 keep:=fun i h h' st k=>let ⟨o,e,r⟩:=st;⟨o,k it (by simp) o e,r⟩
 item:=by
  intro X hP hw hK hc i pins s σ H E I hf st hg
  subst hP hw hK
  obtain ⟨f0,f1,f2,f3,f4,f5⟩:=hf it (by simp)
  refine (W X.A (I.ok.hd hc)).item i s _ _ hg st fun v h' tk hv st' kk=>?_
  obtain ⟨c,t',hx,rfl⟩:=hv
  have I1:Inv X pins σ H {s with heap:=h',toks:=tk}:=I.turned (fun b o hb e=>kk b o (by simpa using hb) e) f0 f1 f3 f4 f5
  refine ⟨_,rfl,?_⟩
  unfold letOwnedTupleGo
  cases tg <;> exact wpAny_pure ⟨.str ⟨#[c]⟩,H,I1,⟨t',rfl⟩,⟨rfl,c,hx,rfl⟩,st',fun b hb=>(hf b hb).1⟩
 done:=by
  intro X hP hw hK hc i pins s σ H E I hf st hg
  subst hP hw hK
  obtain ⟨f0,f1,f2,f3,f4,f5⟩:=hf it (by simp)
  have hg':i=x.cps.size:=hg
  subst hg'
  exact (W X.A (I.ok.hd hc)).done s _ _ st fun h' tk kk=>⟨rfl,I.turned (fun b o hb e=>kk b o (by simpa using hb) e) f0 f1 f3 f4 f5⟩
 self:=fun A i s Q E st h=>hself A i s Q E st h
def iStr (tl:TE):TI:=fun σ H R=>tl σ H fun x H1=>∃ y,x=.str y∧R (Its y) H1
theorem ZFP {X:Cx} {tg l:Expr} {tl:TE} (hl:PE X l tl):PI X tg l (iStr tl):=by
 try unfold PE at *
 intro pins s σ H R I h
 refine thn (hl pins s σ H _ I h) fun v s1 ⟨x,H1,I1,r1,y,ex,q⟩=>?_
 subst ex
 obtain ⟨t,rfl⟩:=(show ∃ t,v=Value.str y t from r1)
 have fin:∀ (ty:String),(∀ A':Around,A'.handled=none→Walks X.prog X.w A' s1.heap.objs.size [s1.heap.objs.size] [s1.heap.objs.size] y.cps.size (SignAt y) fun i h=>h.IsStrIter s1.heap.objs.size ty y t i)→
   (∀ (A:Around) (i:Nat) (s:Shared) (Q:Value→Shared→Prop) (E:Value→Shared→Prop),s.heap.IsStrIter s1.heap.objs.size ty y t i→Q (.ref s1.heap.objs.size) s→wpAny (model X.prog X.w) A (pyIter (.ref s1.heap.objs.size)) Q E s)→
   PIE X pins σ tg R (.ref s1.heap.objs.size) {s1 with heap:=s1.heap.push {cls:=.type ty,data:=.fields #[.str y t,.int 0 0]}}:=by
  intro ty W hself
  refine ⟨s1.heap.objs.size,[s1.heap.objs.size],_,_,H1,rfl,I1.kept (t':=s1.toks) fun b o e=>Heap.get?_push_of_some _ e,ZHi _ y ty t W hself,⟨_,Heap.get?_push_size _ rfl,rfl,rfl⟩,fun b hb=>?_,q⟩
  have e:b=s1.heap.objs.size:=by simpa using hb
  subst e
  exact I1.fpOk (Nat.le_refl _) (I1.hok.fresh (Nat.le_refl _))
 cases ha:y.cps.all (· < 128)
 ·exact wpAny_pyIter_wide ha (fin _ (fun A' hA=>Walks.strWide hA _ y t) fun A i s Q E st h=>wpAny_pyIter_striter_wide st h)
 ·exact wpAny_pyIter_ascii ha (fin _ (fun A' hA=>Walks.strAscii hA _ y t) fun A i s Q E st h=>wpAny_pyIter_striter_ascii st h)
theorem Zfp {J:It} {tt:TT} {te:TE} {σ:St} {ix:List Nat} {H1:Hp} {D:Addr} {Q:Hp→Prop} (n:Nat) (f:Nat→Option V) (Xi:Nat→V→Prop) (hD:H1 D=none) (hn:n≤sizeLine)
  (hgo:∀ i H',i < n→Same H1 H'→J.go i H') (hst:∀ H',Same H1 H'→J.stop n H') (hy:∀ i H' x H2,i < n→Same H1 H'→J.yld i H' x H2→H2=H'∧Xi i x)
  (hs:∀ i x H' (N:Option V→Hp→Prop),i < n→Xi i x→Same H1 H'→(∀ H5,Same H' H5→N (f i) H5)→tt (some x::ix.map fun i=>(σ[i]?).getD none) H' fun b H4=>if b=true then te (some x::ix.map fun i=>(σ[i]?).getD none) H4 fun v H5=>N (some v) H5 else N none H4)
  (hd:∀ H',Same H1 H'→H' D=some (.lst ((List.range n).filterMap f))→Q H') :
  ∃ W:Nat→Nat→St→List V→Hp→Prop,(∃ m,W 0 m (List.replicate 1 none++ix.map fun i=>(σ[i]?).getD none) [] (upd H1 D (.lst [])))∧
   ∀ i m σ' ys H',W i m σ' ys H'→H' D=some (.lst ys)∧((J.stop i H'∧Q H')∨(J.go i H'∧ys.length < sizeLine∧
    ∀ x H2,J.yld i H' x H2→ZEF 0 x σ' H2 fun σ2 H3=>tt σ2 H3 fun b H4=>
     if b=true then te σ2 H4 fun v H5=>H5 D=some (.lst ys)∧∃ m',m' < m∧W (i + 1) m' σ2 (ys++[v]) (upd H5 D (.lst (ys++[v])))
     else ∃ m',m' < m∧W (i + 1) m' σ2 ys H4)):=by
 refine ⟨fun i m σ' ys H'=>i≤n∧m=n - i∧(∃ o,σ'=o::ix.map fun i=>(σ[i]?).getD none)∧ys=(List.range i).filterMap f∧H' D=some (.lst ys)∧Same H1 H',⟨n,Nat.zero_le _,rfl,⟨none,rfl⟩,rfl,Zb,Zk hD⟩,?_⟩
 rintro i m σ' ys H' ⟨hi,rfl,⟨o,rfl⟩,ey,hH,sm⟩
 refine ⟨hH,?_⟩
 by_cases hlt:i < n
 ·have hyl:ys.length≤i:=by
   rw [ey]
   refine Nat.le_trans (List.length_filterMap_le _ _) ?_
   rw [List.length_range]
   exact Nat.le_refl _
  refine .inr ⟨hgo i H' hlt sm,by omega,fun x H2 hyy=>?_⟩
  obtain ⟨rfl,hX⟩:=hy i H' x H2 hlt sm hyy
  have key:=hs i x H2 (fun ov H5=>match ov with
   | some v=>H5 D=some (.lst ys)∧∃ m',m' < n - i∧(i + 1≤n∧m'=n - (i + 1)∧(∃ o,(some x::ix.map fun i=>(σ[i]?).getD none)=o::ix.map fun i=>(σ[i]?).getD none)∧ys++[v]=(List.range (i + 1)).filterMap f∧(upd H5 D (.lst (ys++[v]))) D=some (.lst (ys++[v]))∧Same H1 (upd H5 D (.lst (ys++[v]))))
   | none=>∃ m',m' < n - i∧(i + 1≤n∧m'=n - (i + 1)∧(∃ o,(some x::ix.map fun i=>(σ[i]?).getD none)=o::ix.map fun i=>(σ[i]?).getD none)∧ys=(List.range (i + 1)).filterMap f∧H5 D=some (.lst ys)∧Same H1 H5)) hlt hX sm (fun H5 s5=>by
    have e1:(List.range (i + 1)).filterMap f=ys++(match f i with | some v=>[v] | none=>[]):=by
     rw [List.range_succ,List.filterMap_append,← ey,List.append_cancel_left_eq]
     cases hf:f i <;> simp [List.filterMap_cons,hf]
    cases hf:f i with
    | some v=>
     refine ⟨s5 _ _ hH,n - (i + 1),by omega,hlt,rfl,⟨_,rfl⟩,by rw [e1,hf],Zb,fun b o e=>?_⟩
     rw [Zc (Zd e hD)]
     exact s5 _ _ (sm _ _ e)
    | none=>exact ⟨n - (i + 1),by omega,hlt,rfl,⟨_,rfl⟩,by rw [e1,hf,List.append_nil],s5 _ _ hH,sm.trans s5⟩)
  exact key
 ·have e:i=n:=by omega
  subst e
  refine .inl ⟨hst H' sm,hd H' sm ?_⟩
  rw [← ey]
  exact hH
end L2
namespace L2
open PySem
theorem Zyg (a:Array Nat):∀ (n:Nat) (acc:Array Nat),((List.replicate n a).foldl (·++·) acc).size=acc.size + a.size * n
 | 0,acc=>by rw [List.replicate_zero];rfl
 | n + 1,acc=>by
  rw [List.replicate_succ,List.foldl_cons,Zyg a n,Array.size_append,Nat.mul_succ]
  omega
theorem Zue {X:Cx}:OpR X (binaryOp .Mult) (fun x y H Q=>∃ a n,x=.str a∧y=.int n∧1 < n∧n≤1000∧0 < a.length∧a.length≤1000∧∀ r:Str,r.length=a.length * n.toNat→Q (.str r) H):=by
 intro pins s σ H x y v u Q I rx ry h
 obtain ⟨a,n,rfl,rfl,h1,h2,h3,h4,q⟩:=h
 obtain ⟨t,rfl⟩:=rx
 obtain ⟨t',rfl⟩:=ry
 have hm:a.length * n.toNat≤1000000:=Nat.mul_le_mul h4 (by omega:n.toNat≤1000)
 have hs:(1000000:Nat)≤sizeLine:=by decide
 have hz:(n == 1 || a.length == 0)=false:=by
  rw [Bool.or_eq_false_iff]
  exact ⟨by rw [beq_eq_false_iff_ne];omega,by rw [beq_eq_false_iff_ne];omega⟩
 have hlen:(⟨(List.replicate n.toNat a.cps).foldl (·++·) #[]⟩:Str).length=a.length * n.toNat:=by
  show ((List.replicate n.toNat a.cps).foldl (·++·) #[]).size=a.cps.size * n.toNat
  rw [Zyg]
  show 0 + _=_
  omega
 refine P.mul_str (by rw [decide_eq_false (by omega:¬ n < -(2 ^ 63:Int)),decide_eq_false (by omega:¬ n ≥ 2 ^ 63)];rfl) (fun _ _=>?_) (fun _ _=>?_) ?_
 ·have:(1000:Int)≤(2 ^ 63 - 1) / n:=by
   rw [Int.le_ediv_iff_mul_le (by omega)]
   omega
  omega
 ·unfold Builtin.Str.tooLong
  rw [decide_eq_false_iff_not]
  omega
 ·rw [if_neg (by omega),hz,if_neg (by decide)]
  exact ⟨by rw [hlen];omega,.str _,H,I.tok _,⟨_,rfl⟩,q _ hlen⟩
structure ZJa (K:PySem.W.Frag) (C:Addr):Prop where
 ha:PySem.W.findIn K (.ref C) "__class__"=some (some (.builtin "object.__class__"))
 hn:PySem.W.specialIn K (.builtin "object.__class__") "__get__"=some (some (.builtin "getset_descriptor.__get__"))
 htk:PySem.W.takesIn K (.builtin "object.__class__")=some true
 hm:PySem.W.mroIn K C (.type "object")=some true
 hk:PySem.W.kitOne K (.ref C) (.ref C)=some true
def rIsO (K:PySem.W.Frag):List V→Hp→VK→Prop:=fun xs H Q=>∃ (a C dx:Addr) (fs:List (Str×V)),xs=[.ref a,.ref C]∧H a=some (.ins C dx fs)∧Cls K C∧ZJa K C∧Q (.bl true) H
theorem ZIG {X:Cx}:ZfR X (.builtin "isinstance") (rIsO X.K):=by
 intro pins s σ H xs us Q I r h
 obtain ⟨a,C,dx,fs,rfl,ha,cl,O,q⟩:=h
 obtain ⟨u,v,rfl,ru,rv⟩:=r.two
 cases (show v=Value.ref C from rv)
 exact ZGo I ru (.ins ha cl O.ha O.hn O.htk O.hm) O.hk fun tk=>⟨.bl true,H,I.tok tk,rfl,q⟩
theorem ZLk {X:Cx} {a b:Expr} {ta tb:TE} {p pos:Pos} (ha:PE X a ta) (hb:PE X b tb) (hg:Gl X "isinstance") (hm:X.mg "isinstance"=none)
  (h1:starEach [a,b] X.env=(false,eval a X.env)::starEach [b] X.env:=by rfl) (h2:starEach [b] X.env=(false,eval b X.env)::starEach [] X.env:=by rfl) (hpl:(backTo pos (starEach [b] X.env)).any (·.1)=false:=by rfl) :
  PE X (.Call (.Name "isinstance" p) [a,b] [] pos) (tCB (rIsO X.K) (Zib ta (Zib tb tNil))):=
 ZC ZIG hg hm PyProof.Rows.Boot.«isinstance» (Za ha (Za hb Zf h2) h1) (by decide) (by decide) h1 hpl
end L2
namespace L2
open PySem PySem.Spec PyProof.Rows
end L2
namespace KS
open PySem L2
def top (i:Nat):Stmt:=PySem.Challenge.pw_stillpoint_k12_paths.main.body.getD i (.Pass ⟨0,0,0,0⟩)
abbrev Zbj:Stmt:=Za3 (top 17) 0
abbrev ZbD:Stmt:=Za3 (top 17) 2
abbrev Zaz:Stmt:=Za3 (top 17) 3
abbrev ZaV:Stmt:=top 22
abbrev Zbu:Stmt:=top 23
abbrev Zaa:Stmt:=top 24
abbrev ZaY:Stmt:=Za3 (top 25) 0
abbrev ZbE:Stmt:=Za3 (top 25) 1
abbrev ZaX:Stmt:=Za3 (top 25) 2
abbrev Zay:Stmt:=top 26
abbrev Zdb:Stmt:=top 31
abbrev Zda:Stmt:=top 32
abbrev Zbp:Stmt:=top 33
abbrev Zby:Stmt:=Za3 (top 39) 0
abbrev ZaT:Stmt:=top 40
abbrev ZaW:Stmt:=top 41
abbrev Zc4:Stmt:=top 42
abbrev Zbq:Stmt:=top 46
abbrev Z0:Stmt:=top 47
abbrev Zt4:Stmt:=top 48
abbrev ZU:Stmt:=top 49
abbrev Zbt:Stmt:=top 51
abbrev Z6:Stmt:=top 52
abbrev Zbs:Stmt:=top 53
abbrev Zb3:Stmt:=top 54
abbrev Zax:Stmt:=top 55
abbrev Zbn:Stmt:=top 56
abbrev Zt5:Stmt:=top 57
abbrev Zbz:Stmt:=Za3 (top 67) 0
abbrev ZaL:Stmt:=top 68
abbrev ZaU:Stmt:=top 69
abbrev Zbo:Stmt:=top 70
abbrev Zc5:Stmt:=top 71
abbrev Zc6:Stmt:=top 72
abbrev Zap:Stmt:=top 73
abbrev ZhX:Stmt:=top 74
abbrev Zbr:Stmt:=top 75
abbrev Zbx:Stmt:=Za3 (top 78) 0
abbrev Z1:Stmt:=Za3 (top 78) 1
abbrev Zbw:Stmt:=Za3 (top 78) 2
abbrev Zb4:Stmt:=top 79
abbrev ZbB:Stmt:=Za3 (top 81) 0
abbrev ZbC:Stmt:=Za3 (top 81) 1
abbrev ZbA:Stmt:=Za3 (top 81) 7
abbrev ZK:Stmt:=Za3 (top 81) 17
abbrev Zag:Stmt:=Za3 (top 81) 18
abbrev Zb5:Stmt:=top 82
abbrev Zb9:Stmt:=top 84
abbrev Zbv:Stmt:=top 85
abbrev Zb6:Stmt:=top 86
abbrev Zab:Stmt:=top 87
abbrev Zb7:Stmt:=top 88
abbrev Zb8:Stmt:=top 89
abbrev Zbh:Stmt:=top 90
abbrev Zbi:Stmt:=top 91
abbrev ZD9:Stmt:=top 92
inductive Rf where
 | noThing | noDirectory | badName | isThere | noRoom | notEmpty | wrongKind | tooGreat | readOnly | noFiles
 deriving DecidableEq,Repr
structure Gs where
 Zs0:Addr
 Zkb:FuncData
 Zop:Addr
 ZhT:FuncData
 ZhU:Addr
 Zep:FuncData
 Zj5:Addr
 ZfL:FuncData
 Zob:Addr
 Zhw:FuncData
 Zg5:Addr
 Zee:FuncData
 Zkd:Addr
 ZfQ:FuncData
 Zoq:Addr
 ZhV:FuncData
 Zkc:Addr
 ZfP:FuncData
 Zhj:Addr
 Zeg:FuncData
 ZB4:Addr
 Zsc:FuncData
 ZB3:Addr
 Zsb:FuncData
 ZnP:Addr
 ZgI:FuncData
 Zoh:Addr
 ZhH:FuncData
 ZjY:Addr
 Zfe:FuncData
 Zj7:Addr
 ZfM:FuncData
 ZwO:Addr
 ZnY:FuncData
 ZnX:Addr
 ZgO:FuncData
 Zdl:Addr
 Zcg:FuncData
 walk:Addr
 ZE5:FuncData
 Zb1:Addr
 Zbg:FuncData
 Zn5:Addr
 Zhh:FuncData
 Zef:Addr
 ZcL:FuncData
 Zn3:Addr
 Zg4:FuncData
 ZqU:Addr
 Zjw:FuncData
 Zgg:Addr
 Zd0:FuncData
 Znn:Addr
 Zgf:FuncData
 made:Addr
 ZF8:FuncData
 Zok:Addr
 ZhK:FuncData
 ZnV:Addr
 ZgN:FuncData
 ZjZ:Addr
 Zfo:FuncData
 Znp:Addr
 Zgh:FuncData
 ZwQ:Addr
 Zn0:FuncData
 Zw0:Addr
 Zn6:FuncData
 Zj0:Addr
 Zfq:FuncData
 padded:Addr
 ZvN:FuncData
 Zn2:Addr
 Zg1:FuncData
 Zog:Addr
 ZhG:FuncData
 Zdu:Addr
 Zci:FuncData
 Zof:Addr
 ZhF:FuncData
 ZrH:Addr
 ZjS:FuncData
 Zom:Addr
 ZhM:FuncData
 Zon:Addr
 ZhN:FuncData
 Zol:Addr
 ZhL:FuncData
 ZaD:Addr
 Zal:FuncData
 ZfN:Addr
 Zdv:FuncData
 formatted:Addr
 ZjW:FuncData
 _law_cell:Addr
 _law_cell_d:FuncData
 _law_drawn:Addr
 _law_drawn_d:FuncData
 _law_word:Addr
 _law_word_d:FuncData
 _law_is_name:Addr
 _law_is_name_d:FuncData
 _law_tree:Addr
 _law_tree_d:FuncData
 _law_due:Addr
 _law_due_d:FuncData
 _law_told:Addr
 _law_told_d:FuncData
 _law_path:Addr
 _law_path_d:FuncData
 law:Addr
 ZH6:FuncData
 Disk:Addr
 Chains:Addr
 State:Addr
 Image:Addr
 Store:Addr
 Files:Addr
 NoThing:Addr
 NoDirectory:Addr
 BadName:Addr
 IsThere:Addr
 NoRoom:Addr
 NotEmpty:Addr
 WrongKind:Addr
 TooGreat:Addr
 ReadOnly:Addr
 NoFiles:Addr
 StillError:Addr
 ZsZ:Tok
 Zxj:Tok
 Zxq:Tok
 Zxn:Tok
 ZEX:Tok
 ZCD:Tok
 ZAp:Tok
 ZtV:Tok
 ZtU:Tok
 ZL6:Tok
 Zxi:Tok
 ZtT:Tok
 MARK:Addr
 Zxp:Tok
 ZCH:Tok
 ZqF:Tok
 ZtX:Tok
 Zxo:Tok
 ZKw:Tok
def Gs.xa (g:Gs):Rf→Addr
 | .noThing=>g.NoThing
 | .noDirectory=>g.NoDirectory
 | .badName=>g.BadName
 | .isThere=>g.IsThere
 | .noRoom=>g.NoRoom
 | .notEmpty=>g.NotEmpty
 | .wrongKind=>g.WrongKind
 | .tooGreat=>g.TooGreat
 | .readOnly=>g.ReadOnly
 | .noFiles=>g.NoFiles
def Rf.word:Rf→Str
 | .noThing=>"NoThing"
 | .noDirectory=>"NoDirectory"
 | .badName=>"BadName"
 | .isThere=>"IsThere"
 | .noRoom=>"NoRoom"
 | .notEmpty=>"NotEmpty"
 | .wrongKind=>"WrongKind"
 | .tooGreat=>"TooGreat"
 | .readOnly=>"ReadOnly"
 | .noFiles=>"NoFiles"
structure Tx (K:PySem.W.Frag) (mg:Str→Option Value) (g:Gs):Prop where
 ZLt:mg "Disk"=some (.ref g.Disk)
 ZH3:mg "Chains"=some (.ref g.Chains)
 ZB1:mg "State"=some (.ref g.State)
 ZJ4:mg "Image"=some (.ref g.Image)
 ZJ3:mg "Store"=some (.ref g.Store)
 ZGd:mg "Files"=some (.ref g.Files)
 Zy8:mg "NoThing"=some (.ref g.NoThing)
 Zlw:mg "NoDirectory"=some (.ref g.NoDirectory)
 Zy9:mg "BadName"=some (.ref g.BadName)
 ZrK:mg "IsThere"=some (.ref g.IsThere)
 ZDb:mg "NoRoom"=some (.ref g.NoRoom)
 ZEC:mg "NotEmpty"=some (.ref g.NotEmpty)
 ZB0:mg "WrongKind"=some (.ref g.WrongKind)
 Zh0:mg "TooGreat"=some (.ref g.TooGreat)
 Zuh:mg "ReadOnly"=some (.ref g.ReadOnly)
 ZGc:mg "NoFiles"=some (.ref g.NoFiles)
 ZoJ:mg "StillError"=some (.ref g.StillError)
 Zhv:Cls K g.Disk
 ZbR:Zaw K g.Disk "blocks"
 Zeu:Zaw K g.Disk "log"
 Z9:Cls K g.Chains
 Zar:Zaw K g.Chains "free"
 Za7:Zaw K g.Chains "older"
 ZV:Zaw K g.Chains "places"
 ZaC:Cls K g.State
 Z8:Zaw K g.State "data"
 ZG:Zaw K g.State "entries"
 Zoa:Cls K g.Image
 ZaA:Zaw K g.Image "places"
 ZcU:Zaw K g.Image "heads"
 Z4:Cls K g.Store
 Zan:Zaw K g.Store "disk"
 ZbG:Zaw K g.Store "slot"
 ZbF:Zaw K g.Store "turn"
 Zac:Zaw K g.Store "synced"
 Zak:Cls K g.Files
 Zaq:Zaw K g.Files "state"
 Zcv:Zaw K g.Files "kept"
 ZbQ:Zaw K g.Files "store"
 ZcV:Zaw K g.Files "image"
 ZCG:Fun K "__init__" "Disk.__init__" Zbj g.Zs0 g.Zkb
 ZCq:ZN K g.Zkb ["self","count"] []
 ZBM:Mk K g.Disk g.Zs0
 ZAA:Fun K "write" "Disk.write" ZbD g.Zop g.ZhT
 Zhz:ZN K g.ZhT ["self","number","block"] []
 Zg3:Meth K g.Disk "write" g.Zop
 ZtW:Fun K "barrier" "Disk.barrier" Zaz g.ZhU g.Zep
 Zjj:ZN K g.Zep ["self"] []
 ZiY:Meth K g.Disk "barrier" g.ZhU
 Znl:Fun K "block_count" "block_count" ZaV g.Zj5 g.ZfL
 Zw5:ZN K g.ZfL ["disk"] []
 ZwL:mg "block_count"=some (.ref g.Zj5)
 Zqk:Fun K "blocks_for" "blocks_for" Zbu g.Zob g.Zhw
 ZzW:ZN K g.Zhw ["length"] []
 Zy6:mg "blocks_for"=some (.ref g.Zob)
 Zjr:Fun K "free_numbers" "free_numbers" Zaa g.Zg5 g.Zee
 ZtL:ZN K g.Zee ["count","places"] []
 ZtG:mg "free_numbers"=some (.ref g.Zg5)
 Zxm:Fun K "__init__" "Chains.__init__" ZaY g.Zkd g.ZfQ
 Zw7:ZN K g.ZfQ ["self","free","older"] []
 ZrI:Mk K g.Chains g.Zkd
 ZAB:Fun K "put" "Chains.put" ZbE g.Zoq g.ZhV
 Zp7:ZN K g.ZhV ["self","row"] []
 Zpr:Meth K g.Chains "put" g.Zoq
 Zxl:Fun K "take" "Chains.take" ZaX g.Zkc g.ZfP
 Zw6:ZN K g.ZfP ["self","many"] []
 ZwU:Meth K g.Chains "take" g.Zkc
 Zjs:Fun K "chain_blocks" "chain_blocks" Zay g.Zhj g.Zeg
 ZtM:ZN K g.Zeg ["row","numbers"] []
 ZtH:mg "chain_blocks"=some (.ref g.Zhj)
 ZAs:Fun K "is_name" "is_name" Zdb g.ZB4 g.Zsc
 ZG6:ZN K g.Zsc ["text"] []
 ZGb:mg "is_name"=some (.ref g.ZB4)
 ZAr:Fun K "is_path" "is_path" Zda g.ZB3 g.Zsb
 ZG5:ZN K g.Zsb ["text"] []
 ZGa:mg "is_path"=some (.ref g.ZB3)
 ZbJ:Fun K "path_names" "path_names" Zbp g.ZnP g.ZgI
 ZcG:ZN K g.ZgI ["path"] []
 Zcw:mg "path_names"=some (.ref g.ZnP)
 ZAv:Fun K "__init__" "State.__init__" Zby g.Zoh g.ZhH
 Zhx:ZN K g.ZhH ["self","data","entries"] []
 Zlt:Mk K g.State g.Zoh
 Zni:Fun K "first_state" "first_state" ZaT g.ZjY g.Zfe
 Zw2:ZN K g.Zfe [] []
 ZwI:mg "first_state"=some (.ref g.ZjY)
 ZfO:Fun K "all_numbers" "all_numbers" ZaW g.Zj7 g.ZfM
 ZmT:ZN K g.ZfM ["state"] []
 Zlv:mg "all_numbers"=some (.ref g.Zj7)
 ZuT:Fun K "is_thing" "is_thing" Zc4 g.ZwO g.ZnY
 ZEN:ZN K g.ZnY ["state","number"] []
 ZEy:mg "is_thing"=some (.ref g.ZwO)
 ZhQ:Fun K "least_free" "least_free" Zbq g.ZnX g.ZgO
 Zp5:ZN K g.ZgO ["state"] []
 ZoH:mg "least_free"=some (.ref g.ZnX)
 Zck:Fun K "check_directory" "check_directory" Z0 g.Zdl g.Zcg
 ZeM:ZN K g.Zcg ["state","number"] []
 Zew:mg "check_directory"=some (.ref g.Zdl)
 ZHe:Fun K "walk" "walk" Zt4 g.walk g.ZE5
 ZI8:ZN K g.ZE5 ["state","names"] []
 ZIR:mg "walk"=some (.ref g.walk)
 Zdw:Fun K "walk_to_directory" "walk_to_directory" ZU g.Zb1 g.Zbg
 Zj6:ZN K g.Zbg ["state","path"] []
 ZjT:mg "walk_to_directory"=some (.ref g.Zb1)
 ZhR:Fun K "check_path" "check_path" Zbt g.Zn5 g.Zhh
 Zp6:ZN K g.Zhh ["path"] []
 ZoI:mg "check_path"=some (.ref g.Zn5)
 Zf3:Fun K "check_not_full" "check_not_full" Z6 g.Zef g.ZcL
 ZqC:ZN K g.ZcL ["state","directory"] []
 Zqz:mg "check_not_full"=some (.ref g.Zef)
 Zqj:Fun K "free_place" "free_place" Zbs g.Zn3 g.Zg4
 ZzV:ZN K g.Zg4 ["state","path"] []
 Zy5:mg "free_place"=some (.ref g.Zn3)
 ZsQ:Fun K "with_data" "with_data" Zb3 g.ZqU g.Zjw
 ZCi:ZN K g.Zjw ["state","number","row"] []
 ZBS:mg "with_data"=some (.ref g.ZqU)
 Zeo:Fun K "with_entries" "with_entries" Zax g.Zgg g.Zd0
 Zji:ZN K g.Zd0 ["state","number","entries"] []
 ZiH:mg "with_entries"=some (.ref g.Zgg)
 Zqh:Fun K "with_entry" "with_entry" Zbn g.Znn g.Zgf
 ZzT:ZN K g.Zgf ["state","directory","name","number"] []
 Zy3:mg "with_entry"=some (.ref g.Znn)
 ZJc:Fun K "made" "made" Zt5 g.made g.ZF8
 ZLX:ZN K g.ZF8 ["state","path","kind"] []
 ZLs:mg "made"=some (.ref g.made)
 ZAw:Fun K "__init__" "Image.__init__" Zbz g.Zok g.ZhK
 Zz0:ZN K g.ZhK ["self","places","heads"] []
 ZwG:Mk K g.Image g.Zok
 ZhP:Fun K "name_codes" "name_codes" ZaL g.ZnV g.ZgN
 Zp4:ZN K g.ZgN ["name"] []
 ZoG:mg "name_codes"=some (.ref g.ZnV)
 Znj:Fun K "entries_row" "entries_row" ZaU g.ZjZ g.Zfo
 Zw3:ZN K g.Zfo ["entries"] []
 ZwJ:mg "entries_row"=some (.ref g.ZjZ)
 ZhO:Fun K "table_head" "table_head" Zbo g.Znp g.Zgh
 Zp3:ZN K g.Zgh ["state","chains"] []
 ZoF:mg "table_head"=some (.ref g.Znp)
 ZuU:Fun K "image_of" "image_of" Zc5 g.ZwQ g.Zn0
 ZEO:ZN K g.Zn0 ["state","kept","free","older"] []
 ZEz:mg "image_of"=some (.ref g.ZwQ)
 ZuV:Fun K "check_of" "check_of" Zc6 g.Zw0 g.Zn6
 ZEP:ZN K g.Zn6 ["row"] []
 ZEA:mg "check_of"=some (.ref g.Zw0)
 Znk:Fun K "check_bytes" "check_bytes" Zap g.Zj0 g.Zfq
 Zw4:ZN K g.Zfq ["rows"] []
 ZwK:mg "check_bytes"=some (.ref g.Zj0)
 Zxk:Fun K "padded" "padded" ZhX g.padded g.ZvN
 ZDu:ZN K g.ZvN ["row","length"] []
 ZDa:mg "padded"=some (.ref g.padded)
 Zqi:Fun K "head_block" "head_block" Zbr g.Zn2 g.Zg1
 ZzU:ZN K g.Zg1 ["image","turn"] []
 Zy4:mg "head_block"=some (.ref g.Zn2)
 ZAu:Fun K "__init__" "Store.__init__" Zbx g.Zog g.ZhG
 ZzZ:ZN K g.ZhG ["self","disk","slot","turn","synced"] []
 ZwF:Mk K g.Store g.Zog
 Zoo:Fun K "image_for" "Store.image_for" Z1 g.Zdu g.Zci
 ZeN:ZN K g.Zci ["self","state","kept"] []
 ZeD:Meth K g.Store "image_for" g.Zdu
 ZAt:Fun K "save" "Store.save" Zbw g.Zof g.ZhF
 ZzY:ZN K g.ZhF ["self","image"] []
 Zzu:Meth K g.Store "save" g.Zof
 ZsR:Fun K "new_store" "new_store" Zb4 g.ZrH g.ZjS
 ZCj:ZN K g.ZjS ["disk"] []
 ZBT:mg "new_store"=some (.ref g.ZrH)
 ZAy:Fun K "__init__" "Files.__init__" ZbB g.Zom g.ZhM
 Zz1:ZN K g.ZhM ["self","state","kept","store","image"] []
 ZwH:Mk K g.Files g.Zom
 ZAz:Fun K "find" "Files.find" ZbC g.Zon g.ZhN
 Zz2:ZN K g.ZhN ["self","path"] []
 Zzv:Meth K g.Files "find" g.Zon
 ZAx:Fun K "make" "Files.make" ZbA g.Zol g.ZhL
 Zhy:ZN K g.ZhL ["self","path","kind"] []
 Zg2:Meth K g.Files "make" g.Zol
 ZeT:Fun K "check_changeable" "Files.check_changeable" ZK g.ZaD g.Zal
 ZeO:ZN K g.Zal ["self"] []
 ZeE:Meth K g.Files "check_changeable" g.ZaD
 ZsY:Fun K "turn_to" "Files.turn_to" Zag g.ZfN g.Zdv
 ZsI:ZN K g.Zdv ["self","state","kept"] []
 Zsj:Meth K g.Files "turn_to" g.ZfN
 ZsS:Fun K "formatted" "formatted" Zb5 g.formatted g.ZjW
 ZCk:ZN K g.ZjW ["disk"] []
 ZBU:mg "formatted"=some (.ref g.formatted)
 ZsX:Fun K "_law_cell" "_law_cell" Zb9 g._law_cell g._law_cell_d
 ZCp:ZN K g._law_cell_d ["_law_script","_law_k"] []
 ZBZ:mg "_law_cell"=some (.ref g._law_cell)
 Zql:Fun K "_law_drawn" "_law_drawn" Zbv g._law_drawn g._law_drawn_d
 ZzX:ZN K g._law_drawn_d ["_law_cell_here","_law_k"] []
 Zy7:mg "_law_drawn"=some (.ref g._law_drawn)
 ZsT:Fun K "_law_word" "_law_word" Zb6 g._law_word g._law_word_d
 ZCl:ZN K g._law_word_d ["_law_e"] []
 ZBV:mg "_law_word"=some (.ref g._law_word)
 Zjt:Fun K "_law_is_name" "_law_is_name" Zab g._law_is_name g._law_is_name_d
 ZtN:ZN K g._law_is_name_d ["_law_name"] []
 ZtI:mg "_law_is_name"=some (.ref g._law_is_name)
 ZsU:Fun K "_law_tree" "_law_tree" Zb7 g._law_tree g._law_tree_d
 ZCm:ZN K g._law_tree_d [] []
 ZBW:mg "_law_tree"=some (.ref g._law_tree)
 ZuW:Fun K "_law_due" "_law_due" Zb8 g._law_due g._law_due_d
 ZEQ:ZN K g._law_due_d ["_law_path_here"] []
 ZEB:mg "_law_due"=some (.ref g._law_due)
 ZsV:Fun K "_law_told" "_law_told" Zbh g._law_told g._law_told_d
 ZCn:ZN K g._law_told_d ["_law_files","_law_path_here"] []
 ZBX:mg "_law_told"=some (.ref g._law_told)
 ZsW:Fun K "_law_path" "_law_path" Zbi g._law_path g._law_path_d
 ZCo:ZN K g._law_path_d ["_law_cell_here","_law_more"] []
 ZBY:mg "_law_path"=some (.ref g._law_path)
 ZML:Fun K "law" "law" ZD9 g.law g.ZH6
 ZMP:ZN K g.ZH6 ["_law_script"] []
 ZMO:mg "law"=some (.ref g.law)
 ZE1:ZhS K g.NoThing
 Zu5:ZhS K g.NoDirectory
 ZE2:ZhS K g.BadName
 ZxP:ZhS K g.IsThere
 ZHg:ZhS K g.NoRoom
 ZKD:ZhS K g.NotEmpty
 ZJj:ZhS K g.WrongKind
 Znm:ZhS K g.TooGreat
 ZDL:ZhS K g.ReadOnly
 ZKF:ZhS K g.NoFiles
 ZJZ:ZJa K g.Files
 xf:∀ r:Rf,ZuS K (g.xa r)
 kit:∀ r u:Rf,PySem.W.kitOne K (.ref (g.xa r)) (.ref (g.xa u))=some (decide (r=u))
 kitS:∀ r:Rf,PySem.W.kitOne K (.ref (g.xa r)) (.ref g.StillError)=some true
 kitV:∀ r:Rf,PySem.W.kitOne K (.ref (g.xa r)) (.type "ValueError")=some true
 ZxX:ZCI K g.StillError
 sub:∀ r:Rf,PySem.W.subIn K (.ref (g.xa r)) (.ref g.StillError)=some true
 Zdh:mg "FEWEST_BLOCKS"=some (.int 16 g.ZsZ)
 ZcW:mg "MOST_BLOCKS"=some (.int 256 g.Zxj)
 ZbT:mg "BLOCK_BYTES"=some (.int 64 g.Zxq)
 Zfc:mg "FIRST_BLOCK"=some (.int 2 g.Zxn)
 Zh4:mg "NO_BLOCK"=some (.int 0 g.ZEX)
 Zbk:mg "ROW_BYTES"=some (.int 63 g.ZCD)
 ZdI:mg "NAME_SIGNS"=some (.str "ABCDEFGHIJKLMNOPQRSTUVWXYZabcdefghijklmnopqrstuvwxyz0123456789._-" g.ZAp)
 Zco:mg "LONGEST_NAME"=some (.int 8 g.ZtV)
 Zec:mg "LONGEST_PATH"=some (.int 60 g.ZtU)
 ZDj:mg "ROOT"=some (.int 0 g.ZL6)
 Zfb:mg "MOST_THINGS"=some (.int 32 g.Zxi)
 Zeb:mg "MOST_ENTRIES"=some (.int 40 g.ZtT)
 ZGv:mg "MARK"=some (.ref g.MARK)
 ZLc:∀ H,SqT K H g.MARK [.int 83,.int 116,.int 105,.int 108]
 Zfd:mg "CHECK_PLACE"=some (.int 37 g.Zxp)
 ZjV:mg "FILE_KIND"=some (.int 1 g.ZCH)
 ZcK:mg "DIRECTORY_KIND"=some (.int 2 g.ZqF)
 Zed:mg "CHECK_FACTOR"=some (.int 1000003 g.ZtX)
 ZcX:mg "CHECK_PRIME"=some (.int 4294967291 g.Zxo)
 ZwV:mg "TURNS"=some (.int 256 g.ZKw)
 Zgd:mg "range"=none
 ZHf:mg "min"=none
 ZcH:mg "len"=none
 ZuX:mg "tuple"=none
 Zjv:mg "enumerate"=none
 ZDz:mg "all"=none
 Zke:mg "sorted"=none
 Zxr:mg "list"=none
 Zxs:mg "dict"=none
 ZJg:mg "sum"=none
 ZJf:mg "zip"=none
 ZL:mg "isinstance"=none
 Zge:mg "ValueError"=none
 ZJh:mg "ord"=none
 ZJi:mg "max"=none
end KS
namespace KS
open PySem L2
theorem szl (n:Nat) (h:n≤100:=by decide):n≤sizeLine:=Nat.le_trans h (by decide)
theorem _root_.L2.Room.dn {j k:Nat} {A:Around} (r:Room k A) (h:j≤k:=by decide):Room j A:=r.mono h
def ZLV (ns:List Int) (k:Int):Int:=if ns=[] then k * 7919 else ns.getD (k % (ns.length:Int)).toNat 0 + k / (ns.length:Int) * 104729
def ZEu (c k:Int):Int:=(c * 6364136223846793005 + (k + 1) * 1442695040888963407) % 340282366920938463463374607431768211507
def ZMG (c k:Int):Int:=ZEu c k * ZEu c k % 340282366920938463463374607431768211297
theorem ZHZ (c k:Int):0≤ZEu c k:=Int.emod_nonneg _ (by decide)
theorem ZH0 (c k:Int):ZEu c k < 340282366920938463463374607431768211507:=Int.emod_lt_of_pos _ (by decide)
theorem ZIZ {n:Int} {m:Nat} (h0:0≤n) (h1:n < (m:Int)):ixN m n=some n.toNat:=by
 unfold ixN
 rw [if_pos h0,if_pos h1]
theorem Zz3 {α:Type} {xs:List α} {n:Int} {v:α} (h0:0≤n) (h:xs[n.toNat]?=some v):atI xs n=some v:=by
 have h1:n < (xs.length:Int):=by
  have:=(List.getElem?_eq_some_iff.mp h).1
  omega
 unfold atI
 rw [ZIZ h0 h1]
 exact h
theorem ZDf (H:Hp):∀ ns:List Int,Ims H (ns.map V.int) (ns.map PyData.int)
 | []=>.nil
 | n::r=>.cons (.int n) (ZDf H r)
def Flat (k:Nat) (d:PyData):Prop:=d.canLay0=true∧d.depth≤k
theorem ZDk {k:Nat}:∀ {ds:List PyData},(∀ d∈ds,Flat k d)→PyData.canLayAll0 ds=true∧PyData.depthAll ds≤k
 | [],_=>⟨rfl,Nat.zero_le _⟩
 | d::r,h=>by
  obtain ⟨h1,h2⟩:=h d List.mem_cons_self
  obtain ⟨h3,h4⟩:=ZDk (ds:=r) fun e he=>h e (List.mem_cons_of_mem _ he)
  refine ⟨?_,?_⟩
  ·show (PyData.canLay0 d && PyData.canLayAll0 r)=true
   rw [h1,h3];rfl
  ·show max d.depth (PyData.depthAll r)≤k
   exact Nat.max_le.mpr ⟨h2,h4⟩
theorem ZBh {k:Nat} {ds:List PyData} (h:∀ d∈ds,Flat k d) (hk:k≤60):SeqAt.shaped (.list ds)=true:=by
 obtain ⟨h1,h2⟩:=ZDk h
 have h3:PyData.depth (.list ds)≤64:=by
  show PyData.depthAll ds + 1≤64
  omega
 unfold SeqAt.shaped
 rw [show PyData.canLay0 (.list ds)=true from h1,decide_eq_true h3]
 rfl
theorem ZIn (i:Int):Flat 0 (.int i):=⟨rfl,Nat.le_refl _⟩
theorem ZBi (ns:List Int):SeqAt.shaped (.list (ns.map PyData.int))=true:=ZBh (k:=0) (fun d hd=>by
 obtain ⟨i,_,rfl⟩:=List.mem_map.mp hd
 exact ZIn i) (by decide)
theorem Ims.snoc {H:Hp} {v:V} {d:PyData} (h:Im H v d):∀ {xs:List V} {ds:List PyData},Ims H xs ds→Ims H (xs++[v]) (ds++[d])
 | _,_,.nil=>.cons h .nil
 | _,_,.cons a r=>.cons a (Ims.snoc h r)
theorem ZkA (n:Nat) (v:V):(List.replicate n [v]).flatten=List.replicate n v:=by
 induction n with
 | zero=>rfl
 | succ n ih=>rw [List.replicate_succ,List.flatten_cons,ih];rfl
end KS
namespace KS
open PySem L2
theorem ZMJ:¬ (("blocks":Str)="log"):=by decide +kernel
def flds (b l:Addr):List (Str×V):=putF "log" (.ref l) (putF "blocks" (.ref b) [])
theorem ZI0 (b l:Addr):(flds b l).lookup ("blocks":Str)=some (.ref b):=by
 unfold flds
 rw [Zj,if_neg ZMJ,Zj,if_pos rfl]
theorem ZGz (b l:Addr):(flds b l).lookup ("log":Str)=some (.ref l):=by
 unfold flds
 rw [Zj,if_pos rfl]
theorem ZB7 (b l:Addr) {m:Str} (h1:¬ m="log") (h2:¬ m="blocks"):(flds b l).lookup m=none:=by
 unfold flds
 rw [Zj,if_neg h1,Zj,if_neg h2]
 all_goals rfl
def ZEZ:PyData:=.tuple (List.replicate 64 (.int 0))
structure ZJd (C:Addr) (H:Hp) (p b l:Addr) (vb vl:List V) (bs lg:List PyData):Prop where
 ob:∃ dx,H p=some (.ins C dx (flds b l))
 hb:H b=some (.lst vb)
 hl:H l=some (.lst vl)
 ib:Ims H vb bs
 il:Ims H vl lg
 ne:b≠l
def ZKY (C TG:Addr):Sp:=fun vs H Q E=>∃ (p dx:Addr) (n:Int),vs=[.ref p,.int n]∧H p=some (.ins C dx [])∧((n < 16∨256 < n)→E (.ref TG) none H)∧
 (16≤n→n≤256→∀ (b l:Addr) (vb:List V) (H':Hp),H b=none→H l=none→ZJd C H' p b l vb [] (List.replicate n.toNat ZEZ) []→(∀ c o,H c=some o→c≠p→H' c=some o)→Q .non H')
def ZFk (C:Addr):Sp:=fun vs H Q _=>∃ (p dx b l:Addr) (vb vl:List V) (n:Int) (v:V),vs=[.ref p,.int n,v]∧H p=some (.ins C dx (flds b l))∧H b=some (.lst vb)∧H l=some (.lst vl)∧b≠l∧0≤n∧n < (vb.length:Int)∧vl.length≤100000∧
 ∀ t,H t=none→Q .non (upd (upd (upd H b (.lst (vb.set n.toNat v))) t (.tup [.str "write",.int n,v])) l (.lst (vl++[.ref t])))
def ZK3 (C:Addr):Sp:=fun vs H Q _=>∃ (p dx b l:Addr) (vl:List V),vs=[.ref p]∧H p=some (.ins C dx (flds b l))∧H l=some (.lst vl)∧vl.length≤100000∧
 ∀ t,H t=none→Q .non (upd (upd H t (.tup [.str "barrier"])) l (.lst (vl++[.ref t])))
section
variable {P:Program} {w:World} {K:PySem.W.Frag} {mg:Str→Option Value} {base:Heap} {g:Gs}
theorem ZvI:Zq ["self","number","block"] ["self","number","block"] (Zg ZbD):=⟨rfl,rfl,rfl,by decide +kernel,rfl,by decide +kernel,by decide +kernel⟩
theorem Ze6 (T:Tx K mg g):FnOk P w K mg base (CXE P w) 1 g.Zop g.ZhT ["self","number","block"] (ZFk g.Disk):=by
 refine T.ZAA.okE ZvI (fun vs H Q E h=>?_) (fun cdv A outer s H vs Q E hr h=>?_)
 ·obtain ⟨p,dx,b,l,vb,vl,n,v,rfl,_⟩:=h
  rfl
 ·obtain ⟨p,dx,b,l,vb,vl,n,v,rfl,hp,hb,hl,ne,h0,h1,hz,q⟩:=h
  refine ⟨_,(Ze (ZLe (pv 2) (ZLg (ZJ (pv 0) rfl) (pv 1) ZHu))
   (Zi (Zah (Zrr PySem.F.plainAttrs_list PySem.F.slot_list_append PySem.F.type_list_append Zev (ZJ (pv 0) rfl) (Za (ZaM (Za Zo (Za (pv 1) (Za (pv 2) Zf)))) Zf))))),?_⟩
  have npb:p≠b:=ZP hp hb (by intro z;cases z)
  have hp1:∀ o,(upd H b o) p=some (.ins g.Disk dx (flds b l)):=fun o=>by rw [Zc npb];exact hp
  have hl1:∀ o,(upd H b o) l=some (.lst vl):=fun o=>by rw [Zc ne.symm];exact hl
  refine ⟨_,rfl,_,rfl,p,g.Disk,dx,_,_,rfl,hp,T.Zhv,T.ZbR,ZI0 _ _,_,rfl,b,vb,n,n.toNat,rfl,rfl,hb,ZIZ h0 h1,?_⟩
  refine ⟨_,rfl,p,g.Disk,dx,_,_,rfl,hp1 _,T.Zhv,T.Zeu,ZGz _ _,.inl ⟨rfl,vl,SqL.of (hl1 _)⟩,?_⟩
  refine ⟨_,rfl,_,rfl,szl 3,fun t ht=>?_⟩
  have nlt:l≠t:=Zd (hl1 _) ht
  have ht':H t=none:=by
   by_cases z:t=b
   ·rw [z,Zb] at ht;cases ht
   ·rw [Zc z] at ht;exact ht
  refine ⟨l,vl,_,rfl,rfl,(by rw [Zc nlt];exact hl1 _),(Nat.lt_of_le_of_lt hz (by decide)),?_⟩
  exact q t ht'
theorem Zrd:Zq ["self"] ["self"] (Zg Zaz):=⟨rfl,rfl,rfl,by decide +kernel,rfl,by decide +kernel,by decide +kernel⟩
theorem ZgM (T:Tx K mg g):FnOk P w K mg base (CXE P w) 1 g.ZhU g.Zep ["self"] (ZK3 g.Disk):=by
 refine T.ZtW.okE Zrd (fun vs H Q E h=>?_) (fun cdv A outer s H vs Q E hr h=>?_)
 ·obtain ⟨p,dx,b,l,vl,rfl,_⟩:=h
  rfl
 ·obtain ⟨p,dx,b,l,vl,rfl,hp,hl,hz,q⟩:=h
  refine ⟨_,(Zi (Zah (Zrr PySem.F.plainAttrs_list PySem.F.slot_list_append PySem.F.type_list_append Zev (ZJ (pv 0) rfl) (Za (ZaM (Za Zo Zf)) Zf)))),?_⟩
  refine ⟨_,rfl,p,g.Disk,dx,_,_,rfl,hp,T.Zhv,T.Zeu,ZGz _ _,.inl ⟨rfl,vl,SqL.of hl⟩,?_⟩
  refine ⟨szl 1,fun t ht=>?_⟩
  exact ⟨l,vl,_,rfl,rfl,(by rw [Zc (Zd hl ht)];exact hl),(Nat.lt_of_le_of_lt hz (by decide)),q t ht⟩
theorem ZGp {H:Hp} {v:V} {d:PyData} (h:Im H v d):∀ n:Nat,Ims H (List.replicate n v) (List.replicate n d)
 | 0=>.nil
 | n + 1=>.cons h (ZGp h n)
theorem Zyl:Zq ["self","count"] ["self","count"] (Zg Zbj):=⟨rfl,rfl,rfl,by decide +kernel,rfl,by decide +kernel,by decide +kernel⟩
theorem ZyH (T:Tx K mg g):FnOk P w K mg base (CXE P w) 1 g.Zs0 g.Zkb ["self","count"] (ZKY g.Disk g.TooGreat):=by
 refine T.ZCG.okE Zyl (fun vs H Q E h=>?_) (fun cdv A outer s H vs Q E hr h=>?_)
 ·obtain ⟨p,dx,n,rfl,_⟩:=h
  rfl
 ·obtain ⟨p,dx,n,rfl,hp,hE,q⟩:=h
  refine ⟨_,(Ze (ZbK (PW.pt (Zrg (ZY ZFX (pv 1) (ZF (v:=.int 16) rfl T.Zdh ⟨_,rfl⟩) (ZaN _)) (Zt7 (ZY ZEm (pv 1) (ZF (v:=.int 256) rfl T.ZcW ⟨_,rfl⟩) (ZaN _))))) (Zi (Zcl T.Znm rfl T.Zh0 (Za Zo Zf))) ZT)
   (Ze (ZaF (pv 0) (ZgH (own:=["number"]) (fv:=[]) (ix:=[]) (Za1 (sc:=Zg Zbj) (N:=["self","count"]) rfl rfl (by decide +kernel)) rfl (ZgF rfl T.Zgd (Za (pv 1) Zf)) (fun _ _ _ _ _=>ZQ (i:=0) (show (["number"]:List Str).Nodup from by decide +kernel) rfl (Or.inl rfl) (Or.inr rfl)) (fun _ _ _ _ _=>ZgE) (fun _ _ _ _ _=>(ZD ZFW (ZaM (Za Zn Zf)) (ZF (v:=.int 64) rfl T.ZbT ⟨_,rfl⟩)))) rfl)
   (Zi (ZaF (pv 0) (ZcP Zf) rfl)))),?_⟩
  refine ⟨_,rfl,_,_,rfl,rfl,_,rfl,?_⟩
  by_cases h1:n < 16
  ·rw [decide_eq_true h1]
   refine iteT (iteT ?_)
   exact ⟨szl 1,hE (.inl h1)⟩
  ·rw [decide_eq_false h1]
   refine iteF ⟨_,rfl,_,_,rfl,rfl,_,rfl,?_⟩
   by_cases h2:256 < n
   ·rw [decide_eq_true h2]
    refine iteT ?_
    exact ⟨szl 1,hE (.inr h2)⟩
   ·rw [decide_eq_false h2]
    refine iteF ?_
    have h1':16≤n:=by omega
    have h2':n≤256:=by omega
    -- self.blocks=[(0,) * BLOCK_BYTES for number in range(count)]
    refine ⟨_,rfl,n,rfl,by omega,by omega,fun D hD=>?_⟩
    have npD:p≠D:=Zd hp hD
    have hnL:n.toNat≤sizeLine:=by
     have:(256:Nat)≤sizeLine:=by decide
     omega
    refine ZuF (tOp ZK8 (tTup (Zib (tC (V.int 0)) tNil)) (tC (V.int 64))) (n:=n.toNat) (lo:=0) (fun i ys H'=>ys.length=i∧H' D=some (.lst ys)∧Ims H' ys (List.replicate i ZEZ)∧Same H H') ⟨rfl,Zb,.nil,Zk hD⟩ hnL (fun i ys H' h=>⟨h.2.1,Nat.le_of_eq h.1⟩) (fun i ys H' N hi h k=>?_) (fun ys H' h=>?_)
    ·obtain ⟨e1,e2,e3,e4⟩:=h
     refine ⟨szl 1,fun t ht=>?_⟩
     refine ⟨t,64,[.int 0],rfl,rfl,Zb,by simp,by decide,by decide,by show 1 * 64≤sizeLine;decide,fun u hu=>?_⟩
     have ntD:D≠t:=Zd e2 ht
     have nuD:D≠u:=Zd (H:=upd H' t (.tup [.int 0])) (by rw [Zc ntD];exact e2) hu
     have sm:Same H' (upd (upd H' t (.tup [.int 0])) u (.tup (List.replicate (64:Int).toNat [V.int 0]).flatten)):=(Zk ht).trans (Zk hu)
     have hD5:(upd (upd H' t (.tup [.int 0])) u (.tup (List.replicate (64:Int).toNat [V.int 0]).flatten)) D=some (.lst ys):=sm _ _ e2
     refine k _ _ hD5 ⟨by rw [List.length_append,e1];rfl,Zb,?_,?_⟩
     ·have hz:Im (upd (upd (upd H' t (.tup [.int 0])) u (.tup (List.replicate (64:Int).toNat [V.int 0]).flatten)) D (.lst (ys++[.ref u]))) (.ref u) ZEZ:=by
       refine .tup (xs:=List.replicate 64 (V.int 0)) ?_ (ZGp (.int 0) 64)
       rw [Zc nuD.symm,Zb]
       rw [ZkA]
       rfl
      rw [List.replicate_succ']
      refine Ims.snoc hz (Ims.keep (fun a xs e=>?_) e3)
      have e':=sm _ _ e
      have:a≠D:=ZP e e2 (by intro z;cases z)
      rw [Zc this]
      exact e'
     ·intro b o e
      have:b≠D:=fun z=>by rw [z,hD] at e;cases e
      rw [Zc this]
      exact sm _ _ (e4 _ _ e)
    ·obtain ⟨e1,e2,e3,e4⟩:=h
     have hp':H' p=some (.ins g.Disk dx []):=e4 _ _ hp
     refine ⟨_,rfl,p,g.Disk,dx,[],rfl,hp',T.Zhv,T.ZbR,(by show 0 < 1000;decide),?_⟩
     refine ⟨Nat.zero_le _,fun L hL=>?_⟩
     have npL:p≠L:=Zd (H:=upd H' p (.ins g.Disk dx (putF "blocks" (.ref D) []))) Zb hL
     have nDL:D≠L:=Zd (H:=upd H' p (.ins g.Disk dx (putF "blocks" (.ref D) []))) (by rw [Zc npD.symm];exact e2) hL
     have hL':H' L=none:=by rw [Zc npL.symm] at hL;exact hL
     refine ⟨_,rfl,p,g.Disk,dx,_,rfl,(by rw [Zc npL,Zb]),T.Zhv,T.Zeu,(by show 1 < 1000;decide),?_⟩
     have hLH:H L=none:=by
      cases z:H L with
      | none=>rfl
      | some o=>have:=e4 _ _ z;rw [hL'] at this;cases this
     refine q h1' h2' D L ys _ hD hLH ⟨⟨dx,Zb⟩,?_,?_,?_,.nil,nDL⟩ fun c o e hc=>?_
     ·rw [Zc npD.symm,Zc nDL,Zc npD.symm];exact e2
     ·rw [Zc npL.symm,Zb]
     ·refine Ims.keep (fun a xs e=>?_) e3
      have a1:a≠p:=ZP e hp' (by intro z;cases z)
      have a2:a≠L:=Zd e hL'
      rw [Zc a1,Zc a2,Zc a1]
      exact e
     ·have c2:c≠L:=Zd e hLH
      rw [Zc hc,Zc c2,Zc hc]
      exact e4 _ _ e
end
end KS
namespace KS
open PySem L2
def Ztb:Str:="ABCDEFGHIJKLMNOPQRSTUVWXYZabcdefghijklmnopqrstuvwxyz0123456789._-"
def Zgj (c:Nat):Bool:=!(Builtin.Str.occurrences Ztb ⟨#[c]⟩ 0 Ztb.length 1).isEmpty
def ZZ (t:Str):Bool:=if t.length < 1∨8 < t.length∨t="."∨t=".." then false else (List.range t.cps.size).all fun i=>Zgj (t.cps.getD i 0)
def Zr (p:Str):List Str:=if p="/" then [] else ZaJ (cutS p (some 1) none) "/"
def Zat (p:Str):Bool:=if 60 < p.length then false else if !(decide (0 + Str.length "/"≤p.length) && Builtin.Str.subAt p "/" 0) then false else (Zr p).all ZZ
section
variable {P:Program} {w:World} {K:PySem.W.Frag} {mg:Str→Option Value} {base:Heap} {g:Gs}
def ZCZ:Sp:=fun vs H Q _=>∃ t,vs=[.str t]∧t.length≤sizeLine∧∀ H',Same H H'→Q (.bl (ZZ t)) H'
theorem ZDx (n:Nat) (f:Nat→Bool):((List.range n).filterMap fun i=>some (V.bl (f i)))=((List.range n).map f).map V.bl:=by
 rw [List.filterMap_eq_map',List.map_map]
 rfl
theorem all_map (n:Nat) (f:Nat→Bool):((List.range n).map f).all id=(List.range n).all f:=by
 rw [List.all_map]
 rfl
theorem inV2 (t a b:Str):inV (.str t) [.str a,.str b]=(decide (t=a) || decide (t=b)):=by
 show ((a == t) || ((b == t) || false))=_
 rw [Bool.or_false]
 congr 1
 ·rw [Bool.eq_iff_iff,beq_iff_eq,decide_eq_true_iff];exact eq_comm
 ·rw [Bool.eq_iff_iff,beq_iff_eq,decide_eq_true_iff];exact eq_comm
theorem ZD8:Zq ["text"] ["text"] (Zg Zdb):=⟨rfl,rfl,rfl,by decide +kernel,rfl,by decide +kernel,by decide +kernel⟩
theorem ZEo (T:Tx K mg g):FnOk P w K mg base (CXE P w) 1 g.ZB4 g.Zsc ["text"] ZCZ:=by
 refine T.ZAs.okE ZD8 (fun vs H Q E h=>?_) (fun cdv A outer s H vs Q E hr h=>?_)
 ·obtain ⟨t,rfl,_⟩:=h
  rfl
 ·obtain ⟨t,rfl,hl,q⟩:=h
  have hc:t.cps.size=t.length:=rfl
  refine ⟨_,(Ze (ZbK (PW.pt (Zrg (ZY ZFX (ZC ZaR (by rfl) T.ZcH PySem.boot_len (Za (pv 0) Zf)) Zn (ZaN _)) (Zrg (ZY ZEm (ZC ZaR (by rfl) T.ZcH PySem.boot_len (Za (pv 0) Zf)) (ZF (v:=.int 8) rfl T.Zco ⟨_,rfl⟩) (ZaN _)) (Zt7 (ZY Zyw (pv 0) (ZaM (Za Zo (Za Zo Zf))) rfl))))) (Zi (ZE ZvM)) ZT)
   (Zi (ZE (ZC ZqM (by rfl) T.ZDz PyProof.Rows.Boot.«all» (Za (ZgH (own:=["sign"]) (fv:=[]) (ix:=[]) (Za1 (sc:=Zg Zdb) (N:=["text"]) rfl rfl (by decide +kernel)) rfl (ZFP (pv 0)) (fun _ _ _ _ _=>ZQ (i:=0) (show (["sign"]:List Str).Nodup from by decide +kernel) rfl (Or.inl rfl) (Or.inr rfl)) (fun _ _ _ _ _=>ZgE) (fun _ _ _ _ _=>(ZBt Zyv (pv 0) (ZF (v:=.str "ABCDEFGHIJKLMNOPQRSTUVWXYZabcdefghijklmnopqrstuvwxyz0123456789._-") rfl T.ZdI ⟨_,rfl⟩) rfl))) Zf))))),?_⟩
  refine ⟨_,rfl,_,rfl,hl,_,_,rfl,rfl,_,rfl,?_⟩
  by_cases h1:t.length < 1
  ·rw [decide_eq_true (show (t.length:Int) < 1 by omega)]
   refine iteT (iteT ?_)
   have:=q H (Same.refl _)
   unfold ZZ at this
   rw [if_pos (.inl h1)] at this
   exact this
  ·rw [decide_eq_false (show ¬ (t.length:Int) < 1 by omega)]
   refine iteF ?_
   refine ⟨_,rfl,_,rfl,hl,_,_,rfl,rfl,_,rfl,?_⟩
   by_cases h2:8 < t.length
   ·rw [decide_eq_true (show (8:Int) < (t.length:Int) by omega)]
    refine iteT (iteT ?_)
    have:=q H (Same.refl _)
    unfold ZZ at this
    rw [if_pos (.inr (.inl h2))] at this
    exact this
   ·rw [decide_eq_false (show ¬ (8:Int) < (t.length:Int) by omega)]
    refine iteF ?_
    refine ⟨_,rfl,(szl 2),fun p hp=>?_⟩
    refine ⟨p,_,rfl,.inr (SqT.of Zb),rfl,rfl,_,rfl,?_⟩
    have s1:Same H (upd H p (.tup [.str ".",.str ".."])):=Zk hp
    rw [show (if false=true then !inV (.str t) [.str ".",.str ".."] else inV (.str t) [.str ".",.str ".."])=(decide (t=".") || decide (t="..")) from inV2 _ _ _]
    by_cases h3:t="."∨t=".."
    ·rw [show (decide (t=".") || decide (t=".."))=true by simpa using h3]
     refine iteT ?_
     have:=q _ s1
     unfold ZZ at this
     rw [if_pos (.inr (.inr h3))] at this
     exact this
    ·rw [show (decide (t=".") || decide (t=".."))=false by simpa using h3]
     refine iteF ?_
     refine ⟨_,rfl,_,rfl,fun D hD=>?_⟩
     refine Zfp (J:=Its t) t.cps.size (fun i=>some (V.bl (Zgj (t.cps.getD i 0)))) (fun i x=>x=.str ⟨#[t.cps.getD i 0]⟩) hD (by omega) (fun i H' hi _=>hi) (fun H' _=>rfl) (fun i H' x H2 hi _ hy=>?_) (fun i x H' N hi hx _ k=>?_) fun H' s' hH=>?_
     ·obtain ⟨e,c,hc,e2⟩:=hy
      refine ⟨e,?_⟩
      rw [e2,show t.cps.getD i 0=c by rw [Array.getD_eq_getD_getElem?,hc];rfl]
     ·subst hx
      refine iteT (B:=N none H') ?_
      exact ⟨_,rfl,_,_,rfl,rfl,k _ (Same.refl _)⟩
     ·refine ⟨D,(List.range t.cps.size).map fun i=>Zgj (t.cps.getD i 0),rfl,SqL.of (by rw [hH,ZDx]),?_⟩
      have:=q _ (s1.trans s')
      unfold ZZ at this
      rw [if_neg (by intro z;rcases z with z | z | z;exact h1 z;exact h2 z;exact h3 z)] at this
      rw [all_map]
      exact this
theorem ZJs (s:Str) (i j:Nat):(Builtin.Str.strSub s i j).length≤s.length:=by
 show (s.cps.extract i j).size≤s.cps.size
 rw [Array.size_extract]
 omega
theorem ZFU (s:Str) (o:List Nat) (w:Nat):(Builtin.Str.partsBetween s o w).length≤o.length + 1:=by
 show (((0::o.map (· + w)).zip (o++[s.length])).map _).length≤_
 rw [List.length_map,List.length_zip,List.length_cons,List.length_map]
 omega
theorem ZqY (a b:Str):(ZaJ a b).length≤a.length + 2:=by
 unfold ZaJ
 split
 ·show 1≤_;omega
 ·split
  ·show 1≤_;omega
  ·refine Nat.le_trans (ZFU _ _ _) ?_
   have:=PySem.StrLaws.occ_length_le a b 0 a.length (a.length + 1)
   omega
theorem Zx1 (a b:Str):∀ n∈ZaJ a b,n.length≤a.length:=by
 intro n hn
 unfold ZaJ at hn
 split at hn
 ·rw [List.mem_singleton.mp hn];exact Nat.le_refl _
 ·split at hn
  ·rw [List.mem_singleton.mp hn];exact Nat.le_refl _
  ·obtain ⟨⟨i,j⟩,_,rfl⟩:=List.mem_map.mp hn
   exact ZJs _ _ _
theorem ZCd (a:Str) (lo hi:Option Int):(cutS a lo hi).length≤a.length:=by
 unfold cutS
 split
 ·exact Nat.le_refl _
 ·show (((Builtin.Str.strSliceIndices lo hi 1 a.length).filterMap (a.cps[·]?)).toArray).size≤_
  rw [List.size_toArray]
  exact Nat.le_trans (List.length_filterMap_le _ _) (PyProof.Rows.indices_len_le _ _ _)
theorem Ze3 (p:Str):(Zr p).length≤p.length + 2:=by
 unfold Zr
 split
 ·exact Nat.zero_le _
 ·exact Nat.le_trans (ZqY _ _) (Nat.add_le_add_right (ZCd _ _ _) 2)
theorem Ze2 (p:Str):∀ n∈Zr p,n.length≤p.length:=by
 intro n hn
 unfold Zr at hn
 split at hn
 ·exact nomatch hn
 ·exact Nat.le_trans (Zx1 _ _ n hn) (ZCd _ _ _)
theorem ZIk (p:Str) (i:Nat):((Zr p).getD i "").length≤p.length:=by
 rw [List.getD_eq_getElem?_getD]
 cases h:(Zr p)[i]? with
 | none=>exact Nat.zero_le _
 | some n=>exact Ze2 p n (List.mem_of_getElem? h)
def Zq1:Sp:=fun vs H Q _=>∃ p,vs=[.str p]∧p.length≤1000∧∀ l H',Same H H'→H l=none→H' l=some (.lst ((Zr p).map V.str))→Q (.ref l) H'
theorem Zw {n m:Nat} (h:n≤m) (hm:m≤100000):n≤sizeLine:=by
 have:(100000:Nat)≤sizeLine:=by decide
 omega
theorem ZvA:Zq ["path"] ["path"] (Zg Zbp):=⟨rfl,rfl,rfl,by decide +kernel,rfl,by decide +kernel,by decide +kernel⟩
theorem ZbP (T:Tx K mg g):FnOk P w K mg base (CXE P w) 1 g.ZnP g.ZgI ["path"] Zq1:=by
 refine T.ZbJ.okE ZvA (fun vs H Q E h=>?_) (fun cdv A outer s H vs Q E hr h=>?_)
 ·obtain ⟨p,rfl,_⟩:=h
  rfl
 ·obtain ⟨p,rfl,hl,q⟩:=h
  refine ⟨_,(Ze (ZbK (ZY ZBu (pv 0) Zo (ZaN _)) (Zi (ZE (ZcP Zf))) ZT)
   (Zi (ZE (Zrr PySem.F.plainAttrs_str PySem.F.slot_str_split PySem.F.type_str_split Zy1 (ZdC ZK5 (pv 0) (ZeZ Zn) ZjP) (Za Zo Zf))))),?_⟩
  refine ⟨_,rfl,rfl,_,rfl,?_⟩
  by_cases h1:p="/"
  ·rw [decide_eq_true (show V.str p=V.str "/" by rw [h1])]
   refine iteT ⟨Nat.zero_le _,fun l hn=>?_⟩
   refine q l _ (Zk hn) hn ?_
   unfold Zr
   rw [if_pos h1]
   exact Zb
  ·rw [decide_eq_false (show ¬ V.str p=V.str "/" by intro z;injection z with z;exact h1 z)]
   refine iteF ?_
   have hcl:=ZCd p (some 1) none
   refine ⟨_,rfl,_,rfl,_,rfl,Zw (Nat.le_trans hcl hl) (by decide),rfl,_,_,rfl,rfl,rfl,Zw (Nat.le_trans hcl hl) (by decide),Zw (Nat.le_trans (ZqY _ _) (Nat.add_le_add_right (Nat.le_trans hcl hl) 2)) (by decide),fun l hn=>?_⟩
   refine q l _ (Zk hn) hn ?_
   unfold Zr
   rw [if_neg h1]
   exact Zb
theorem Zt6 (f:Str→Bool) (xs:List Str):((List.range xs.length).all fun i=>f (xs.getD i ""))=xs.all f:=by
 induction xs with
 | nil=>rfl
 | cons x xs ih=>
  rw [List.length_cons,List.range_succ_eq_map,List.all_cons,List.all_map,List.all_cons,← ih]
  rfl
def ZHq:Sp:=fun vs H Q _=>∃ t,vs=[.str t]∧t.length≤1000∧∀ H',Same H H'→Q (.bl (Zat t)) H'
theorem ZD7:Zq ["text"] ["text"] (Zg Zda):=⟨rfl,rfl,rfl,by decide +kernel,rfl,by decide +kernel,by decide +kernel⟩
theorem ZEn (T:Tx K mg g):FnOk P w K mg base (CXE P w) 2 g.ZB3 g.Zsb ["text"] ZHq:=by
 refine T.ZAr.okE ZD7 (fun vs H Q E h=>?_) (fun cdv A outer s H vs Q E hr h=>?_)
 ·obtain ⟨t,rfl,_⟩:=h
  rfl
 ·obtain ⟨t,rfl,hl,q⟩:=h
  refine ⟨_,(Ze (ZbK (PW.pt (Zrg (ZY ZEm (ZC ZaR (by rfl) T.ZcH PySem.boot_len (Za (pv 0) Zf)) (ZF (v:=.int 60) rfl T.Zec ⟨_,rfl⟩) (ZaN _)) (Zt7 (Zri (Zrh (Zrr PySem.F.plainAttrs_str PySem.F.slot_str_startswith PySem.F.type_str_startswith ZtE (pv 0) (Za Zo Zf))))))) (Zi (ZE ZvM)) ZT)
   (Zi (ZE (ZC ZqM (by rfl) T.ZDz PyProof.Rows.Boot.«all» (Za (ZgH (own:=["name"]) (fv:=[]) (ix:=[]) (Za1 (sc:=Zg Zda) (N:=["text"]) rfl rfl (by decide +kernel)) rfl (Ze0 (Zx (ZbP T) hr.dn rfl T.Zcw T.ZbJ.kp T.ZcG .nil Zh (Za (pv 0) Zf))) (fun _ _ _ _ _=>ZQ (i:=0) (show (["name"]:List Str).Nodup from by decide +kernel) rfl (Or.inl rfl) (Or.inr rfl)) (fun _ _ _ _ _=>ZgE) (fun _ _ _ _ _=>(Zx (ZEo T) hr.dn rfl T.ZGb T.ZAs.kp T.ZG6 .nil ZnQ (Za (pv 0) Zf)))) Zf))))),?_⟩
  refine ⟨_,rfl,_,rfl,Zw hl (by decide),_,_,rfl,rfl,_,rfl,?_⟩
  by_cases h1:60 < t.length
  ·rw [decide_eq_true (show (60:Int) < (t.length:Int) by omega)]
   refine iteT (iteT ?_)
   have:=q H (Same.refl _)
   unfold Zat at this
   rw [if_pos h1] at this
   exact this
  ·rw [decide_eq_false (show ¬ (60:Int) < (t.length:Int) by omega)]
   refine iteF ?_
   refine ⟨_,rfl,rfl,_,_,rfl,rfl,_,rfl,?_⟩
   by_cases h2:(!(decide (0 + Str.length "/"≤t.length) && Builtin.Str.subAt t "/" 0))=true
   ·have h2':(decide (0 + Str.length "/"≤t.length) && Builtin.Str.subAt t "/" 0)=false:=(Bool.not_eq_true' _).mp h2
    rw [h2']
    refine iteT ?_
    have:=q H (Same.refl _)
    unfold Zat at this
    rw [if_neg h1,if_pos h2] at this
    exact this
   ·have h2':(decide (0 + Str.length "/"≤t.length) && Builtin.Str.subAt t "/" 0)=true:=by
     cases z:(decide (0 + Str.length "/"≤t.length) && Builtin.Str.subAt t "/" 0) with
     | true=>rfl
     | false=>rw [z] at h2;exact absurd rfl h2
    rw [h2']
    refine iteF ?_
    refine ⟨_,rfl,t,rfl,hl,fun l H1 s1 hn hl1=>?_⟩
    refine ⟨l,rfl,⟨_,SqL.of hl1⟩,fun D hD=>?_⟩
    have hlen:(Zr t).length≤1002:=Nat.le_trans (Ze3 t) (Nat.add_le_add_right hl 2)
    have hat:∀ H',Same H1 H'→SqL K H' l ((Zr t).map V.str):=fun H' s'=>SqL.of (s' _ _ hl1)
    refine Zfp (J:=Itl K l) (Zr t).length (fun i=>some (V.bl (ZZ ((Zr t).getD i "")))) (fun i x=>x=.str ((Zr t).getD i "")) hD (Zw hlen (by decide)) (fun i H' hi s'=>⟨_,.str ((Zr t).getD i ""),hat H' s',?_⟩) (fun H' s'=>⟨_,hat H' s',by rw [List.length_map];exact Nat.le_refl _⟩) (fun i H' x H2 hi s' hy=>?_) (fun i x H' N hi hx s' k=>?_) fun H' s' hH=>?_
    ·rw [List.getElem?_map,List.getD_eq_getElem?_getD,List.getElem?_eq_getElem hi];rfl
    ·obtain ⟨e,hx⟩:=hy
     refine ⟨e,?_⟩
     have:=hx _ (hat H' s')
     rw [List.getElem?_map,List.getElem?_eq_getElem hi] at this
     rw [List.getD_eq_getElem?_getD,List.getElem?_eq_getElem hi]
     exact (Option.some.inj this).symm
    ·subst hx
     refine iteT (B:=N none H') ?_
     exact ⟨_,rfl,_,rfl,Zw (Nat.le_trans (ZIk t i) hl) (by decide),fun H5 s5=>k _ s5⟩
    ·refine ⟨D,(List.range (Zr t).length).map fun i=>ZZ ((Zr t).getD i ""),rfl,SqL.of (by rw [hH,ZDx]),?_⟩
     have:=q _ (s1.trans s')
     unfold Zat at this
     rw [if_neg h1,if_neg h2] at this
     rw [all_map,Zt6]
     exact this
theorem Z5 (a b:Str):(a++b).length=a.length + b.length:=by
 show (a.cps++b.cps).size=_
 exact Array.size_append
def Ans {α:Type} (g:Gs) (R:Hp→α→V→Prop) (H:Hp) (m:Except Rf α) (Q:VK) (E:XK):Prop:=match m with
 | .ok x=>∀ v H',Same H H'→R H' x v→Q v H'
 | .error r=>∀ H',Same H H'→E (.ref (g.xa r)) none H'
theorem Ans.ok {α:Type} {g:Gs} {R:Hp→α→V→Prop} {H:Hp} {m:Except Rf α} {Q:VK} {E:XK} (h:Ans g R H m Q E) {x:α} (e:m=.ok x):∀ v H',Same H H'→R H' x v→Q v H':=by subst e;exact h
theorem Ans.no {α:Type} {g:Gs} {R:Hp→α→V→Prop} {H:Hp} {m:Except Rf α} {Q:VK} {E:XK} (h:Ans g R H m Q E) {r:Rf} (e:m=.error r):∀ H',Same H H'→E (.ref (g.xa r)) none H':=by subst e;exact h
def ZHd (_:Hp) (_:Unit) (v:V):Prop:=v=.non
def ZKz (_:Hp) (n:Int) (v:V):Prop:=v=.int n
def Zhi (p:Str):Except Rf Unit:=if Zat p then .ok () else .error .badName
def ZBa (g:Gs):Sp:=fun vs H Q E=>∃ p,vs=[.str p]∧p.length≤1000∧Ans g ZHd H (Zhi p) Q E
theorem ZvB:Zq ["path"] ["path"] (Zg Zbt):=⟨rfl,rfl,rfl,by decide +kernel,rfl,by decide +kernel,by decide +kernel⟩
theorem Zln (T:Tx K mg g):FnOk P w K mg base (CXE P w) 3 g.Zn5 g.Zhh ["path"] (ZBa g):=by
 refine T.ZhR.okE ZvB (fun vs H Q E h=>?_) (fun cdv A outer s H vs Q E hr h=>?_)
 ·obtain ⟨p,rfl,_⟩:=h
  rfl
 ·obtain ⟨p,rfl,hl,q⟩:=h
  refine ⟨_,(Zi (ZbK (Zri (Zrh (Zx (ZEn T) hr.dn rfl T.ZGa T.ZAr.kp T.ZG5 .nil Zh (Za (pv 0) Zf)))) (Zi (Zcl T.ZE2 rfl T.Zy9 (Za (ZBs (ZFM (pv 0) (ZFN ZFO))) Zf))) ZT)),?_⟩
  refine ⟨_,rfl,p,rfl,hl,fun H1 s1=>⟨_,rfl,?_⟩⟩
  cases hb:Zat p with
  | true=>exact iteF (q.ok (x:=()) (by unfold Zhi;rw [hb];rfl) _ _ s1 rfl)
  | false=>
   refine iteT ?_
   refine ⟨_,rfl,p,rfl,Zw hl (by decide),?_,?_,?_,?_,q.no (r:=.badName) (by unfold Zhi;rw [hb];rfl) _ s1⟩
   ·rw [Z5];exact Zw (m:=1000) (by show 0 + p.length≤1000;omega) (by decide)
   ·rw [Z5,Z5];exact Zw (m:=1100) (by show 0 + p.length + 11≤1100;omega) (by decide)
   ·rw [Z5,Z5];exact Zw (m:=1100) (by show 0 + p.length + 11≤1100;omega) (by decide)
   ·show 1≤sizeLine;decide
end
end KS
namespace KS
open PySem L2
abbrev Row:=List Int
abbrev Ents:=List (Str×Int)
structure Sta where
 dat:List (Int×Row)
 ent:List (Int×Ents)
section
variable {κ α:Type} [DecidableEq κ]
def getA (xs:List (κ×α)) (k:κ):Option α:=(xs.find? fun p=>decide (p.1=k)).map (·.2)
def putA (xs:List (κ×α)) (k:κ) (x:α):List (κ×α):=if (xs.any fun p=>decide (p.1=k))=true then xs.map (fun p=>if p.1=k then (p.1,x) else p) else xs++[(k,x)]
theorem ZaG {p:κ×α} {r:List (κ×α)} {k:κ} (e:p.1=k):getA (p::r) k=some p.2:=by simp [getA,List.find?_cons,e]
theorem ZaH {p:κ×α} {r:List (κ×α)} {k:κ} (e:¬ p.1=k):getA (p::r) k=getA r k:=by simp [getA,List.find?_cons,e]
theorem ZqJ (k:κ):∀ xs:List (κ×α),(xs.any fun p=>decide (p.1=k))=(getA xs k).isSome
 | []=>rfl
 | p::r=>by
  rw [List.any_cons,ZqJ k r]
  by_cases e:p.1=k
  ·rw [ZaG e,decide_eq_true e];rfl
  ·rw [ZaH e,decide_eq_false e];rfl
theorem ZqG (xs:List (κ×α)) (k:κ) (x:α):(putA xs k x).length≤xs.length + 1:=by
 unfold putA
 split
 ·rw [List.length_map];omega
 ·rw [List.length_append];exact Nat.le_refl _
end
def ZX {κ α ρ:Type} (f:κ→ρ) (R:Hp→α→V→Prop) (H:Hp) (xs:List (κ×α)) (kvs:List (ρ×V)):Prop:=Paired (fun p q=>p.1=f q.1∧R H q.2 p.2) kvs xs
def Mono {α:Type} (R:Hp→α→V→Prop):Prop:=∀ (H H':Hp) (x:α) (v:V),Same H H'→R H x v→R H' x v
section
variable {κ α ρ:Type} [DecidableEq κ] [DecidableEq ρ] {f:κ→ρ} {R:Hp→α→V→Prop} {H:Hp}
theorem ZX.same {H':Hp} (m:Mono R) (s:Same H H') {xs:List (κ×α)} {kvs:List (ρ×V)} (h:ZX f R H xs kvs):ZX f R H' xs kvs:=by
 unfold ZX at *
 induction h with
 | nil=>exact .nil
 | cons a _ ih=>exact .cons ⟨a.1,m _ _ _ _ s a.2⟩ ih
theorem ZX.len {xs:List (κ×α)} {kvs:List (ρ×V)} (h:ZX f R H xs kvs):kvs.length=xs.length:=Paired.length h
theorem ZX.no (inj:∀ a b,f a=f b→a=b) {xs:List (κ×α)} {kvs:List (ρ×V)} (h:ZX f R H xs kvs) {k:κ} (e:getA xs k=none):valV kvs (f k)=none:=by
 unfold ZX at h
 induction h with
 | nil=>rfl
 | @cons p q _ _ a t ih=>
  by_cases z:q.1=k
  ·rw [ZaG z] at e;cases e
  ·rw [ZaH z] at e
   rw [ZaE (by rw [a.1];exact fun y=>z (inj _ _ y))]
   exact ih e
theorem ZX.yes (inj:∀ a b,f a=f b→a=b) {xs:List (κ×α)} {kvs:List (ρ×V)} (h:ZX f R H xs kvs) {k:κ} {x:α} (e:getA xs k=some x):∃ v,valV kvs (f k)=some v∧R H x v:=by
 unfold ZX at h
 induction h with
 | nil=>cases e
 | @cons p q _ _ a t ih=>
  by_cases z:q.1=k
  ·rw [ZaG z] at e
   cases e
   exact ⟨p.2,ZaS (by rw [a.1,z]),a.2⟩
  ·rw [ZaH z] at e
   obtain ⟨v,h1,h2⟩:=ih e
   exact ⟨v,by rw [ZaE (by rw [a.1];exact fun y=>z (inj _ _ y))];exact h1,h2⟩
theorem ZX.some (inj:∀ a b,f a=f b→a=b) {xs:List (κ×α)} {kvs:List (ρ×V)} (h:ZX f R H xs kvs) (k:κ):(valV kvs (f k)).isSome=(getA xs k).isSome:=by
 cases e:getA xs k with
 | none=>rw [h.no inj e];rfl
 | some x=>obtain ⟨v,h1,_⟩:=h.yes inj e;rw [h1];rfl
theorem ZX.repl (inj:∀ a b,f a=f b→a=b) {k:κ} {x:α} {v:V} (r:R H x v):∀ {xs:List (κ×α)} {kvs:List (ρ×V)},ZX f R H xs kvs→ZX f R H (xs.map fun p=>if p.1=k then (p.1,x) else p) (kvs.map fun kv=>if kv.1=f k then (kv.1,v) else kv)
 | _,_,.nil=>.nil
 | q::_,p::_,.cons a t=>by
  refine .cons ?_ (ZX.repl inj r t)
  show (if p.1=f k then (p.1,v) else p).1=f (if q.1=k then (q.1,x) else q).1∧R H (if q.1=k then (q.1,x) else q).2 (if p.1=f k then (p.1,v) else p).2
  by_cases z:q.1=k
  ·rw [if_pos z,if_pos (by rw [a.1,z])]
   exact ⟨a.1,r⟩
  ·rw [if_neg z,if_neg (by rw [a.1];exact fun y=>z (inj _ _ y))]
   exact a
theorem ZX.put (inj:∀ a b,f a=f b→a=b) {xs:List (κ×α)} {kvs:List (ρ×V)} (h:ZX f R H xs kvs) {k:κ} {x:α} {v:V} (r:R H x v):ZX f R H (putA xs k x) (putK kvs (f k) v):=by
 unfold putA putK
 rw [ZhW,ZqJ,h.some inj k]
 split
 ·exact ZX.repl inj r h
 ·exact Paired.snoc h ⟨rfl,r⟩
end
theorem ZbS (a b:Int) (h:(Sum.inl a:Key)=Sum.inl b):a=b:=Sum.inl.inj h
theorem ZKb (a b:Str) (h:(Sum.inr a:Key)=Sum.inr b):a=b:=Sum.inr.inj h
theorem Zia (es:Ents) (n:Str):valV (eKV es) (.inr n)=(getA es n).map V.int:=by
 induction es with
 | nil=>rfl
 | cons p r ih=>
  by_cases z:p.1=n
  ·rw [ZaG z]
   exact ZaS (p:=(Sum.inr p.1,V.int p.2)) (by rw [z])
  ·rw [ZaH z,← ih]
   exact ZaE (p:=(Sum.inr p.1,V.int p.2)) (fun y=>z (Sum.inr.inj y))
theorem ZIq (es:Ents) (n:Str) (i:Int):putK (eKV es) (.inr n) (.int i)=eKV (putA es n i):=by
 unfold putA putK
 rw [ZhW,ZqJ,Zia,Option.isSome_map]
 split
 ·unfold eKV
  rw [List.map_map,List.map_map]
  refine List.map_congr_left fun p _=>?_
  show (if (Sum.inr p.1:Key)=Sum.inr n then (Sum.inr p.1,V.int i) else (Sum.inr p.1,V.int p.2))=(Sum.inr (if p.1=n then (p.1,i) else p).1,V.int (if p.1=n then (p.1,i) else p).2)
  by_cases z:p.1=n
  ·rw [if_pos z,if_pos (by rw [z])]
  ·rw [if_neg z,if_neg (fun y=>z (Sum.inr.inj y))]
 ·unfold eKV
  rw [List.map_append]
  rfl
theorem ZGK (es:Ents):(eKV es).length=es.length:=List.length_map ..
def ZR (H:Hp) (row:Row) (v:V):Prop:=∃ t,v=.ref t∧H t=some (.tup (row.map V.int))
def Ziq (H:Hp) (es:Ents) (v:V):Prop:=∃ a,v=.ref a∧H a=some (.dK (eKV es))
theorem ZR.mono:Mono ZR:=fun _ _ _ _ s ⟨t,e,h⟩=>⟨t,e,s _ _ h⟩
theorem Ziq.mono:Mono Ziq:=fun _ _ _ _ s ⟨t,e,h⟩=>⟨t,e,s _ _ h⟩
def sfl (d e:V):List (Str×V):=putF "entries" e (putF "data" d [])
theorem ZMH:¬ (("data":Str)="entries"):=by decide +kernel
theorem Zyh (d e:V):(sfl d e).lookup ("data":Str)=some d:=by
 unfold sfl
 rw [Zj,if_neg ZMH,Zj,if_pos rfl]
theorem Ztc (d e:V):(sfl d e).lookup ("entries":Str)=some e:=by
 unfold sfl
 rw [Zj,if_pos rfl]
structure ZL4 (g:Gs) (H:Hp) (S:Sta) (p dx da ea:Addr) (dk ek:List (Key×V)):Prop where
 ob:H p=some (.ins g.State dx (sfl (.ref da) (.ref ea)))
 hd:H da=some (.dK dk)
 he:H ea=some (.dK ek)
 rd:ZX Sum.inl ZR H S.dat dk
 re:ZX Sum.inl Ziq H S.ent ek
def ZS (g:Gs) (H:Hp) (S:Sta) (v:V):Prop:=∃ p dx da ea dk ek,v=.ref p∧ZL4 g H S p dx da ea dk ek
theorem ZS.mono {g:Gs}:Mono (ZS g):=fun _ _ _ _ s ⟨p,dx,da,ea,dk,ek,e,h⟩=>⟨p,dx,da,ea,dk,ek,e,s _ _ h.ob,s _ _ h.hd,s _ _ h.he,h.rd.same ZR.mono s,h.re.same Ziq.mono s⟩
theorem u1 {n:Nat} (h:n + 64 < cLine):n + 1 < cLine:=by omega
def ZnZ (S:Sta) (n:Int):Bool:=(getA S.dat n).isSome || (getA S.ent n).isSome
section
variable {P:Program} {w:World} {K:PySem.W.Frag} {mg:Str→Option Value} {base:Heap} {g:Gs}
def Zx2 (g:Gs):Sp:=fun vs H Q _=>∃ p dx d e,vs=[.ref p,d,e]∧H p=some (.ins g.State dx [])∧∀ H',(∀ b o,H b=some o→b≠p→H' b=some o)→H' p=some (.ins g.State dx (sfl d e))→Q .non H'
theorem ZvE:Zq ["self","data","entries"] ["self","data","entries"] (Zg Zby):=⟨rfl,rfl,rfl,by decide +kernel,rfl,by decide +kernel,by decide +kernel⟩
theorem Ze4 (T:Tx K mg g):FnOk P w K mg base (CXE P w) 1 g.Zoh g.ZhH ["self","data","entries"] (Zx2 g):=by
 refine T.ZAv.okE ZvE (fun vs H Q E h=>?_) (fun cdv A outer s H vs Q E hr h=>?_)
 ·obtain ⟨p,dx,d,e,rfl,_⟩:=h
  rfl
 ·obtain ⟨p,dx,d,e,rfl,hp,q⟩:=h
  refine ⟨_,(Ze (ZaF (pv 0) (pv 1) rfl)
   (Zi (ZaF (pv 0) (pv 2) rfl))),?_⟩
  refine ⟨_,rfl,_,rfl,p,g.State,dx,[],rfl,hp,T.ZaC,T.Z8,(by show 0 < 1000;decide),?_⟩
  refine ⟨_,rfl,_,rfl,p,g.State,dx,_,rfl,Zb,T.ZaC,T.ZG,(by show 1 < 1000;decide),?_⟩
  refine q _ (fun b o e hb=>?_) Zb
  rw [Zc hb,Zc hb]
  exact e
theorem ZnW {H1:Hp} {x dx:Addr} {d e:V} {Q:VK} {E:XK} (hx:H1 x=none) (hdx:H1 dx=none) (ne:dx≠x) (q:∀ p dx H',Same H1 H'→H' p=some (.ins g.State dx (sfl d e))→Q (.ref p) H') :
  Zx2 g (.ref x::([d,e]++[])) (upd (upd H1 dx (.own x)) x (.ins g.State dx [])) (fun v H2=>v=.non∧Q (.ref x) H2) E:=by
 refine ⟨x,dx,d,e,rfl,Zb,fun H' k hp=>⟨rfl,q x dx H' (fun b o eb=>?_) hp⟩⟩
 have h1:b≠x:=Zd eb hx
 have h2:b≠dx:=Zd eb hdx
 exact k b o (by rw [Zc h1,Zc h2];exact eb) h1
def ZJw (g:Gs):Sp:=fun vs H Q _=>vs=[]∧∀ v H',Same H H'→ZS g H' ⟨[],[(0,[])]⟩ v→Q v H'
theorem Ztd:Zq [] [] (Zg ZaT):=⟨rfl,rfl,rfl,by decide +kernel,rfl,by decide +kernel,by decide +kernel⟩
theorem Ztk (T:Tx K mg g):FnOk P w K mg base (CXE P w) 3 g.ZjY g.Zfe [] (ZJw g):=by
 refine T.Zni.okE Ztd (fun vs H Q E h=>?_) (fun cdv A outer s H vs Q E hr h=>?_)
 ·obtain ⟨rfl,_⟩:=h
  rfl
 ·obtain ⟨rfl,q⟩:=h
  refine ⟨_,(Zi (ZE (ZgG T.Zlt (Ze4 T) hr.dn rfl T.ZB1 T.Zhx .nil Zh (Za Ze1 (Za (Zrq (Zbe (ZF (v:=.int 0) rfl T.ZDj ⟨_,rfl⟩) Ze1 Zrk) rfl rfl (by simp) (by decide)) Zf))))),?_⟩
  refine fun a ha b hb c hc=>?_
  have nab:a≠b:=Zd Zb hb
  have nbc:b≠c:=Zd Zb hc
  have nac:a≠c:=Zd (H:=upd (upd H a (.dK [])) b (.dK [])) (by rw [Zc nab];exact Zb) hc
  have hb':H b=none:=by rw [Zc nab.symm] at hb;exact hb
  have hc':H c=none:=by rw [Zc nbc.symm,Zc nac.symm] at hc;exact hc
  refine ⟨by rw [Zc nbc];exact Zb,[(Sum.inl 0,.ref c)],rfl,(by show 1≤15;decide),fun x dx hx hdx ne=>ZnW hx hdx ne fun p dx H' s' hp=>?_⟩
  have s0:Same H (upd (upd (upd (upd H a (.dK [])) b (.dK [])) c (.dK [])) b (.dK (ZiG [] [(Sum.inl 0,V.ref c)]))):=fun d o e=>by
   rw [Zc (Zd e hb'),Zc (Zd e hc'),Zc (Zd e hb'),Zc (Zd e ha)]
   exact e
  refine q _ H' (s0.trans s') ⟨p,dx,a,b,_,_,rfl,hp,s' _ _ (by rw [Zc nab,Zc nac,Zc nab];exact Zb),s' _ _ Zb,.nil,.cons ⟨rfl,c,rfl,s' _ _ (by rw [Zc nbc.symm];exact Zb)⟩ .nil⟩
def ZFo (g:Gs):Sp:=fun vs H Q _=>∃ v S n,vs=[v,.int n]∧ZS g H S v∧Q (.bl (ZnZ S n)) H
theorem ZBj:Zq ["state","number"] ["state","number"] (Zg Zc4):=⟨rfl,rfl,rfl,by decide +kernel,rfl,by decide +kernel,by decide +kernel⟩
theorem ZBv (T:Tx K mg g):FnOk P w K mg base (CXE P w) 1 g.ZwO g.ZnY ["state","number"] (ZFo g):=by
 refine T.ZuT.okE ZBj (fun vs H Q E h=>?_) (fun cdv A outer s H vs Q E hr h=>?_)
 ·obtain ⟨v,S,n,rfl,_⟩:=h
  rfl
 ·obtain ⟨v,S,n,rfl,⟨p,dx,da,ea,dk,ek,rfl,hS⟩,q⟩:=h
  have hu:=u1 hr.units
  refine ⟨_,(Zi (ZE (ZLi (ZIP (Zyu hu (pv 1) (ZJ (pv 0) rfl))) (ZFS (ZIP (Zyu hu (pv 1) (ZJ (pv 0) rfl))))))),?_⟩
  refine ⟨_,rfl,_,rfl,p,_,dx,_,_,rfl,hS.ob,T.ZaC,T.Z8,Zyh _ _,da,_,rfl,DGet.k hS.hd (k:=.inl n),_,rfl,?_⟩
  rw [hS.rd.some ZbS]
  unfold ZnZ at q
  cases hd:(getA S.dat n).isSome with
  | true=>rw [hd] at q;exact iteT q
  | false=>
   rw [hd] at q
   refine iteF ⟨_,rfl,_,rfl,p,_,dx,_,_,rfl,hS.ob,T.ZaC,T.ZG,Ztc _ _,ea,_,rfl,DGet.k hS.he (k:=.inl n),?_⟩
   rw [hS.re.some ZbS]
   exact q
def ZdX (S:Sta) (n:Int):Except Rf Unit:=if (getA S.ent n).isSome then .ok () else .error .noDirectory
def ZD0 (g:Gs):Sp:=fun vs H Q E=>∃ v S n,vs=[v,.int n]∧ZS g H S v∧Ans g ZHd H (ZdX S n) Q E
theorem Zkx:Zq ["state","number"] ["state","number"] (Zg Z0):=⟨rfl,rfl,rfl,by decide +kernel,rfl,by decide +kernel,by decide +kernel⟩
theorem ZdD (T:Tx K mg g):FnOk P w K mg base (CXE P w) 1 g.Zdl g.Zcg ["state","number"] (ZD0 g):=by
 refine T.Zck.okE Zkx (fun vs H Q E h=>?_) (fun cdv A outer s H vs Q E hr h=>?_)
 ·obtain ⟨v,S,n,rfl,_⟩:=h
  rfl
 ·obtain ⟨v,S,n,rfl,⟨p,dx,da,ea,dk,ek,rfl,hS⟩,q⟩:=h
  have hu:=u1 hr.units
  refine ⟨_,(Zi (ZbK (ZfT (Zet hu (pv 1) (ZJ (pv 0) rfl))) (Zi (Zcl T.Zu5 rfl T.Zlw (Za Zo Zf))) ZT)),?_⟩
  refine ⟨_,rfl,_,rfl,p,_,dx,_,_,rfl,hS.ob,T.ZaC,T.ZG,Ztc _ _,ea,_,rfl,DGet.k hS.he (k:=.inl n),_,rfl,?_⟩
  rw [hS.re.some ZbS]
  cases hd:(getA S.ent n).isSome with
  | true=>exact iteF (q.ok (x:=()) (by unfold ZdX;rw [hd];rfl) _ _ (Same.refl _) rfl)
  | false=>exact iteT ⟨szl 1,q.no (r:=.noDirectory) (by unfold ZdX;rw [hd];rfl) _ (Same.refl _)⟩
def insI (n:Int):List Int→List Int
 | []=>[n]
 | m::r=>if n≤m then n::m::r else m::insI n r
def ZFw:List Int→List Int
 | []=>[]
 | n::r=>insI n (ZFw r)
theorem Zsf (n:Int):∀ l,(insI n l).Perm (n::l)
 | []=>.refl _
 | m::r=>by
  unfold insI
  split
  ·exact .refl _
  ·exact ((Zsf n r).cons m).trans (.swap ..)
theorem Zer:∀ l,(ZFw l).Perm l
 | []=>.refl _
 | n::r=>(Zsf n (ZFw r)).trans ((Zer r).cons n)
theorem Zse (n:Int):∀ l:List Int,l.Pairwise (·≤·)→(insI n l).Pairwise (·≤·)
 | [],_=>by simp [insI]
 | m::r,h=>by
  obtain ⟨h1,h2⟩:=List.pairwise_cons.mp h
  unfold insI
  split
  ·rename_i hn
   exact List.pairwise_cons.mpr ⟨fun a ha=>by
    rcases List.mem_cons.mp ha with rfl | ha
    ·exact hn
    ·exact Int.le_trans hn (h1 a ha),h⟩
  ·rename_i hn
   refine List.pairwise_cons.mpr ⟨fun a ha=>?_,Zse n r h2⟩
   rcases List.mem_cons.mp ((Zsf n r).mem_iff.mp ha) with rfl | ha
   ·omega
   ·exact h1 a ha
theorem Zot:∀ l,(ZFw l).Pairwise (·≤·)
 | []=>.nil
 | n::r=>Zse n _ (Zot r)
theorem ZFv:∀ {a b:List Int},a.Perm b→a.Pairwise (·≤·)→b.Pairwise (·≤·)→a=b:=by
 intro a b p ha hb
 exact p.eq_of_pairwise (fun x y _ _ h1 h2=>Int.le_antisymm h1 h2) ha hb
def ZaB (S:Sta):List Int:=ZFw (S.dat.map (·.1)++S.ent.map (·.1))
theorem ZX.keysI {α:Type} {R:Hp→α→V→Prop} {H:Hp} {xs:List (Int×α)} {kvs:List (Key×V)} (h:ZX Sum.inl R H xs kvs):(kvs.map fun q=>kV q.1)=(xs.map (·.1)).map V.int:=by
 unfold ZX at h
 induction h with
 | nil=>rfl
 | cons a _ ih=>rw [List.map_cons,List.map_cons,List.map_cons,ih,a.1];rfl
def ZFu (g:Gs):Sp:=fun vs H Q _=>∃ v S,vs=[v]∧ZS g H S v∧S.dat.length + S.ent.length < 64∧∀ l H',Same H H'→H' l=some (.lst ((ZaB S).map V.int))→Q (.ref l) H'
theorem Ztf:Zq ["state"] ["state"] (Zg ZaW):=⟨rfl,rfl,rfl,by decide +kernel,rfl,by decide +kernel,by decide +kernel⟩
theorem ZiF (T:Tx K mg g):FnOk P w K mg base (CXE P w) 1 g.Zj7 g.ZfM ["state"] (ZFu g):=by
 refine T.ZfO.okE Ztf (fun vs H Q E h=>?_) (fun cdv A outer s H vs Q E hr h=>?_)
 ·obtain ⟨v,S,rfl,_⟩:=h
  rfl
 ·obtain ⟨v,S,rfl,⟨p,dx,da,ea,dk,ek,rfl,hS⟩,hz,q⟩:=h
  have hu:=u1 hr.units
  refine ⟨_,(Zi (ZE (ZC ZzJ (by rfl) T.Zke PyProof.Rows.Boot.«sorted» (Za (ZD Zyx (Zcu ZuJ rfl T.Zxr PyProof.Rows.Boot.«list» (Za (ZJ (pv 0) rfl) Zf)) (Zcu ZuJ rfl T.Zxr PyProof.Rows.Boot.«list» (Za (ZJ (pv 0) rfl) Zf))) Zf)))),?_⟩
  refine ⟨_,rfl,p,_,dx,_,_,rfl,hS.ob,T.ZaC,T.Z8,Zyh _ _,da,dk,rfl,.inl hS.hd,fun a ha=>?_⟩
  have s1:=Zk (o:=.lst (dk.map fun q=>kV q.1)) ha
  refine ⟨_,rfl,p,_,dx,_,_,rfl,s1 _ _ hS.ob,T.ZaC,T.ZG,Ztc _ _,ea,ek,rfl,.inl (s1 _ _ hS.he),fun b hb=>?_⟩
  have s2:=Zk (o:=.lst (ek.map fun q=>kV q.1)) hb
  refine ⟨a,b,_,_,rfl,rfl,s2 _ _ Zb,Zb,?_,fun c hc=>?_⟩
  ·rw [List.length_map,List.length_map,hS.rd.len,hS.re.len];exact Zw (Nat.le_of_lt hz) (by decide)
  have s3:=Zk (o:=.lst ((dk.map fun q=>kV q.1)++(ek.map fun q=>kV q.1))) hc
  refine ⟨c,S.dat.map (·.1)++S.ent.map (·.1),rfl,SqL.of (by rw [Zb,hS.rd.keysI,hS.re.keysI,List.map_append]),?_,fun l ms hl pm pw=>?_⟩
  ·rw [List.length_append,List.length_map,List.length_map];exact hz
  ·have:ms=ZaB S:=ZFv (pm.trans (Zer _).symm) pw (Zot _)
   subst this
   exact q l _ (s1.trans (s2.trans (s3.trans (Zk hl)))) Zb
end
end KS
namespace KS
open PySem L2
def Zex (S:Sta):Nat→Nat→Option Int
 | _,0=>none
 | i,k + 1=>if ZnZ S (i:Int) then Zex S (i + 1) k else some (i:Int)
def ZgP (S:Sta):Option Int:=Zex S 0 32
def optI:Option Int→V
 | none=>.non
 | some n=>.int n
def Zjx (S:Sta):List Str→List Int→Except Rf (List Int)
 | [],ps=>.ok ps
 | n::ns,ps=>match getA S.ent (ps.getLastD 0) with
  | none=>.error .noDirectory
  | some es=>match getA es n with
   | none=>.error .noThing
   | some i=>Zjx S ns (ps++[i])
theorem ZCK (S:Sta) (ps:List Int):Zjx S [] ps=.ok ps:=rfl
theorem ZqV (S:Sta) (n:Str) (ns:List Str) (ps:List Int):Zjx S (n::ns) ps=match getA S.ent (ps.getLastD 0) with
  | none=>.error .noDirectory
  | some es=>match getA es n with
   | none=>.error .noThing
   | some i=>Zjx S ns (ps++[i]):=rfl
def ZJb (H:Hp) (xs:List Int) (v:V):Prop:=∃ l,v=.ref l∧H l=some (.lst (xs.map V.int))
theorem ZmU (ps:List Int) (h:ps≠[]):atI (ps.map V.int) (-1)=some (.int (ps.getLastD 0)):=by
 have hl:0 < ps.length:=List.length_pos_iff.mpr h
 unfold atI ixN
 rw [if_neg (by decide),if_pos (by rw [List.length_map];omega)]
 show (ps.map V.int)[(-1 + ((ps.map V.int).length:Int)).toNat]?=_
 have e:(-1 + ((ps.map V.int).length:Int)).toNat=ps.length - 1:=by rw [List.length_map];omega
 rw [e,List.getElem?_map,← List.getLast?_eq_getElem?,List.getLastD_eq_getLast?]
 cases hh:ps.getLast? with
 | none=>exact absurd (List.getLast?_eq_none_iff.mp hh) h
 | some x=>rfl
section
variable {P:Program} {w:World} {K:PySem.W.Frag} {mg:Str→Option Value} {base:Heap} {g:Gs}
def ZJv (g:Gs):Sp:=fun vs H Q _=>∃ v S,vs=[v]∧ZS g H S v∧Q (optI (ZgP S)) H
theorem Zku:Zq ["state","number"] ["state"] (Zg Zbq):=⟨rfl,rfl,rfl,by decide +kernel,rfl,by decide +kernel,by decide +kernel⟩
theorem Zlm (T:Tx K mg g):FnOk P w K mg base (CXE P w) 2 g.ZnX g.ZgO ["state"] (ZJv g):=by
 refine T.ZhQ.okE Zku (fun vs H Q E h=>?_) (fun cdv A outer s H vs Q E hr h=>?_)
 ·obtain ⟨v,S,rfl,_⟩:=h
  rfl
 ·obtain ⟨v,S,rfl,hS,q⟩:=h
  refine ⟨_,(Ze (Zdc PassesOwn.leaving rfl (ZgF rfl T.Zgd (Za (ZF (v:=.int 32) rfl T.Zfb ⟨_,rfl⟩) Zf)) (ZQ (i:=1) Zku.nd rfl (Or.inl rfl)) (Zi (ZbK (Zri (Zrh (Zx (ZBv T) hr.dn rfl T.ZEy T.ZuT.kp T.ZEN .nil Zh (Za (pv 0) (Za (pv 1) Zf))))) (Zi (ZE (pv 1))) ZT)))
   (Zi (ZE ZLj))),?_⟩
  refine ⟨32,rfl,by decide,by decide,?_⟩
  refine Zsl (fun i σ H'=>(∃ o,σ=[some v,o])∧H'=H∧ZgP S=Zex S i (32 - i)) ⟨⟨none,rfl⟩,rfl,rfl⟩ (fun i σ H' hi h=>?_) (fun σ H' h=>?_)
  ·obtain ⟨⟨o,rfl⟩,rfl,hk⟩:=h
   have e1:(0:Int) + (i:Int)=(i:Int):=Int.zero_add _
   refine ⟨_,rfl,_,rfl,v,S,_,rfl,hS,_,rfl,?_⟩
   rw [e1]
   have e2:32 - i=(32 - (i + 1)) + 1:=by
    have:i < 32:=hi
    omega
   rw [e2] at hk
   unfold Zex at hk
   cases ht:ZnZ S (i:Int) with
   | true=>
    rw [ht,if_pos rfl] at hk
    exact iteF ⟨⟨_,rfl⟩,rfl,hk⟩
   | false=>
    rw [ht,if_neg (by decide)] at hk
    refine iteT ?_
    rw [hk] at q
    exact ⟨_,rfl,q⟩
  ·obtain ⟨_,rfl,hk⟩:=h
   rw [hk] at q
   exact q
def ZKR (g:Gs):Sp:=fun vs H Q E=>∃ v S l ns,vs=[v,.ref l]∧ZS g H S v∧H l=some (.lst (ns.map V.str))∧ns.length≤2000∧(∀ n∈ns,n.length≤2000)∧Ans g ZJb H (Zjx S ns [0]) Q E
theorem Zvz:Zq ["state","names","passed","name","entries"] ["state","names"] (Zg Zt4):=⟨rfl,rfl,rfl,by decide +kernel,rfl,by decide +kernel,by decide +kernel⟩
theorem ZFY (T:Tx K mg g):FnOk P w K mg base (CXE P w) 2 g.walk g.ZE5 ["state","names"] (ZKR g):=by
 refine T.ZHe.okE Zvz (fun vs H Q E h=>?_) (fun cdv A outer s H vs Q E hr h=>?_)
 ·obtain ⟨v,S,l,ns,rfl,_⟩:=h
  rfl
 ·obtain ⟨v,S,l,ns,rfl,hS,hl,hz,hnm,q⟩:=h
  have hu:=u1 hr.units
  refine ⟨_,(Ze (ZI (i:=2) Zvz.nd rfl (Or.inl rfl) (ZcP (Za (ZF (v:=.int 0) rfl T.ZDj ⟨_,rfl⟩) Zf)))
   (Ze (Zdc PassesOwn.leaving rfl (Ze0 (pv 1)) (ZQ (i:=3) Zvz.nd rfl (Or.inl rfl)) (Ze (Zah (Zx (ZdD T) hr.dn rfl T.Zew T.Zck.kp T.ZeM .nil Zh (Za (pv 0) (Za (ZjQ Zcf (pv 2) (Zyt Zor Zn) (fun _ _=>rfl)) Zf))))
   (Ze (ZI (i:=4) Zvz.nd rfl (Or.inl rfl) (Zdd hu (ZJ (pv 0) rfl) (ZjQ Zcf (pv 2) (Zyt Zor Zn) (fun _ _=>rfl)) (fun _ _=>rfl)))
   (Ze (ZbK (ZfT (Zet hu (pv 3) (pv 4))) (Zi (Zcl T.ZE1 rfl T.Zy8 (Za (ZBs (ZFN (ZFM (pv 3) ZFO))) Zf))) ZT)
   (Zi (Zah (Zrr PySem.F.plainAttrs_list PySem.F.slot_list_append PySem.F.type_list_append Zev (pv 2) (Za (Zdd hu (pv 4) (pv 3) (fun _ _=>rfl)) Zf))))))))
   (Zi (ZE (pv 2))))),?_⟩
  refine ⟨szl 1,fun D hD=>?_⟩
  have s0:=Zk (o:=.lst [.int 0]) hD
  have nlD:l≠D:=Zd hl hD
  refine ⟨_,rfl,l,rfl,⟨_,SqL.of (s0 _ _ hl)⟩,?_⟩
  refine Zh5 (xs:=ns.map V.str) (fun i σ H'=>∃ ps,(∃ o3 o4,σ=[some v,some (.ref l),some (.ref D),o3,o4])∧H' D=some (.lst (ps.map V.int))∧ps≠[]∧ps.length=i + 1∧Same H H'∧Zjx S ns [0]=Zjx S (ns.drop i) ps) ⟨[0],⟨none,none,rfl⟩,Zb,by decide,rfl,s0,rfl⟩ (fun i σ H' _ h=>?_) (fun i x σ H' hx h=>?_) (fun σ H' h=>?_)
  ·obtain ⟨ps,_,_,_,_,sm,_⟩:=h
   exact SqL.of (sm _ _ hl)
  ·obtain ⟨ps,⟨o3,o4,rfl⟩,hp,hne,hlen,sm,hw⟩:=h
   rw [List.getElem?_map] at hx
   cases hn:ns[i]? with
   | none=>rw [hn] at hx;cases hx
   | some n=>
    rw [hn] at hx
    cases hx
    have hi:i < ns.length:=(List.getElem?_eq_some_iff.mp hn).1
    have hdr:ns.drop i=n::ns.drop (i + 1):=by
     rw [List.drop_eq_getElem_cons hi]
     rw [(List.getElem?_eq_some_iff.mp hn).2]
    rw [hdr,ZqV] at hw
    have hS':=ZS.mono _ _ _ _ sm hS
    refine ⟨_,rfl,_,rfl,_,rfl,D,_,_,_,rfl,rfl,SqL.of hp,ZmU ps hne,v,S,_,rfl,hS',?_⟩
    cases hg:getA S.ent (ps.getLastD 0) with
    | none=>
     rw [hg] at hw
     show Ans g ZHd H' (ZdX S (ps.getLastD 0)) _ _
     unfold ZdX
     rw [hg]
     exact fun H2 s2=>q.no hw _ (sm.trans s2)
    | some es=>
     rw [hg] at hw
     show Ans g ZHd H' (ZdX S (ps.getLastD 0)) _ _
     unfold ZdX
     rw [hg]
     intro v2 H2 s2 _
     dsimp only at hw
     have hS2:=ZS.mono _ _ _ _ s2 hS'
     obtain ⟨p,dx,da,ea,dk,ek,rfl,hP⟩:=hS2
     obtain ⟨ve,hv1,⟨ae,rfl,hae⟩⟩:=hP.re.yes ZbS hg
     refine ⟨_,rfl,p,_,dx,_,_,rfl,hP.ob,T.ZaC,T.ZG,Ztc _ _,_,rfl,_,rfl,D,_,_,_,rfl,rfl,SqL.of (s2 _ _ hp),ZmU ps hne,ea,_,rfl,(by have:=DGet.k hP.he (k:=.inl (ps.getLastD 0));rw [hv1] at this;exact this),?_⟩
     refine ⟨_,rfl,_,rfl,ae,_,rfl,DGet.k hae (k:=.inr n),_,rfl,?_⟩
     rw [Zia]
     cases hgn:getA es n with
     | none=>
      rw [hgn] at hw
      refine iteT ?_
      have hnl:n.length≤2000:=hnm n (List.mem_of_getElem? hn)
      refine ⟨?_,_,rfl,n,rfl,Zw hnl (by decide),?_,?_,szl 1,q.no hw _ (sm.trans s2)⟩
      ·rw [Z5];exact Zw (m:=100) (by decide) (by decide)
      ·rw [Z5,Z5];exact Zw (m:=2100) (by show 0 + 18 + n.length≤2100;omega) (by decide)
      ·rw [Z5,Z5];exact Zw (m:=2100) (by show 0 + 18 + n.length≤2100;omega) (by decide)
     | some j=>
      rw [hgn] at hw
      refine iteF ?_
      refine ⟨_,rfl,.inl ⟨rfl,_,SqL.of (s2 _ _ hp)⟩,_,rfl,_,rfl,ae,.int j,rfl,(by have:=DGet.k hae (k:=.inr n);rw [Zia,hgn] at this;exact this),D,_,_,rfl,rfl,s2 _ _ hp,?_,?_⟩
      ·rw [List.length_map,hlen]
       have:(100000:Nat)≤sizeLine:=by decide
       omega
      ·refine ⟨ps++[j],⟨_,_,rfl⟩,?_,by simp,by rw [List.length_append,hlen];rfl,fun b o e=>?_,hw⟩
       ·rw [List.map_append];exact Zb
       ·rw [Zc (Zd e hD)];exact s2 _ _ (sm _ _ e)
  ·obtain ⟨ps,⟨o3,o4,rfl⟩,hp,hne,hlen,sm,hw⟩:=h
   rw [List.length_map,List.drop_length,ZCK] at hw
   exact ⟨_,rfl,q.ok hw _ _ sm ⟨D,rfl,hp⟩⟩
def Zno (S:Sta) (p:Str):Except Rf (List Int):=match Zjx S (Zr p).dropLast [0] with
 | .error r=>.error r
 | .ok ps=>if (getA S.ent (ps.getLastD 0)).isSome then .ok ps else .error .noDirectory
theorem Zu7 {S:Sta}:∀ {ns:List Str} {ps qs:List Int},Zjx S ns ps=.ok qs→ps≠[]→qs≠[]∧qs.length=ps.length + ns.length
 | [],ps,qs,h,hp=>by rw [ZCK] at h;cases h;exact ⟨hp,rfl⟩
 | n::ns,ps,qs,h,hp=>by
  rw [ZqV] at h
  cases h1:getA S.ent (ps.getLastD 0) with
  | none=>rw [h1] at h;cases h
  | some es=>
   rw [h1] at h
   dsimp only at h
   cases h2:getA es n with
   | none=>rw [h2] at h;cases h
   | some i=>
    rw [h2] at h
    obtain ⟨a,b⟩:=Zu7 (ps:=ps++[i]) h (by simp)
    refine ⟨a,?_⟩
    rw [b,List.length_append,List.length_cons]
    show ps.length + 1 + ns.length=ps.length + (ns.length + 1)
    omega
theorem ZGV (ns:List Str):cutV (ns.map V.str) none (some (-1))=ns.dropLast.map V.str:=by
 unfold cutV
 have e1:HT.sIx (ns.map V.str).length 0 none=0:=rfl
 have e2:HT.sIx (ns.map V.str).length (ns.map V.str).length (some (-1))=ns.length - 1:=by
  show (if (-1:Int) < 0 then (-1 + ((ns.map V.str).length:Int)).toNat else min (-1:Int).toNat (ns.map V.str).length)=_
  rw [if_pos (by decide),List.length_map]
  omega
 rw [e1,e2,List.drop_zero,Nat.sub_zero,← List.map_take,List.dropLast_eq_take]
def ZFl (g:Gs):Sp:=fun vs H Q E=>∃ v S p,vs=[v,.str p]∧ZS g H S v∧p.length≤1000∧Ans g ZJb H (Zno S p) Q E
theorem ZcN:Zq ["state","path","passed"] ["state","path"] (Zg ZU):=⟨rfl,rfl,rfl,by decide +kernel,rfl,by decide +kernel,by decide +kernel⟩
theorem Zim (T:Tx K mg g):FnOk P w K mg base (CXE P w) 3 g.Zb1 g.Zbg ["state","path"] (ZFl g):=by
 refine T.Zdw.okE ZcN (fun vs H Q E h=>?_) (fun cdv A outer s H vs Q E hr h=>?_)
 ·obtain ⟨v,S,p,rfl,_⟩:=h
  rfl
 ·obtain ⟨v,S,p,rfl,hS,hl,q⟩:=h
  refine ⟨_,(Ze (ZI (i:=2) ZcN.nd rfl (Or.inl rfl) (Zx (ZFY T) hr.dn rfl T.ZIR T.ZHe.kp T.ZI8 .nil Zh (Za (pv 0) (Za (ZdC Zq4 (Zx (ZbP T) hr.dn rfl T.Zcw T.ZbJ.kp T.ZcG .nil Zh (Za (pv 1) Zf)) ZjP (ZeZ (Zyt Zor Zn))) Zf))))
   (Ze (Zah (Zx (ZdD T) hr.dn rfl T.Zew T.Zck.kp T.ZeM .nil Zh (Za (pv 0) (Za (ZjQ Zcf (pv 2) (Zyt Zor Zn) (fun _ _=>rfl)) Zf))))
   (Zi (ZE (pv 2))))),?_⟩
  refine ⟨_,rfl,_,rfl,p,rfl,hl,fun l H1 s1 hn hl1=>?_⟩
  refine ⟨_,rfl,_,rfl,l,_,rfl,SqL.of hl1,fun m hm=>?_⟩
  rw [ZGV] at *
  have s2:=Zk (o:=.lst ((Zr p).dropLast.map V.str)) hm
  refine ⟨v,S,m,(Zr p).dropLast,rfl,ZS.mono _ _ _ _ (s1.trans s2) hS,Zb,?_,fun n h=>?_,?_⟩
  ·rw [List.length_dropLast]
   have:=Ze3 p
   omega
  ·have:=Ze2 p n (List.dropLast_subset _ h)
   omega
  ·unfold Zno at q
   cases hw:Zjx S (Zr p).dropLast [0] with
   | error r=>
    rw [hw] at q
    exact fun H' s'=>q H' (s1.trans (s2.trans s'))
   | ok ps=>
    rw [hw] at q
    dsimp only at q
    intro v2 H2 s3 ⟨D,e,hD⟩
    subst e
    have hne:=(Zu7 hw (by decide)).1
    have sA:=s1.trans (s2.trans s3)
    refine ⟨_,rfl,_,rfl,_,rfl,D,_,_,_,rfl,rfl,SqL.of hD,ZmU ps hne,v,S,_,rfl,ZS.mono _ _ _ _ sA hS,?_⟩
    unfold ZdX
    cases hg:(getA S.ent (ps.getLastD 0)).isSome with
    | true=>
     rw [hg] at q
     intro v3 H3 s4 _
     exact ⟨_,rfl,q _ _ (sA.trans s4) ⟨D,rfl,s4 _ _ hD⟩⟩
    | false=>
     rw [hg] at q
     exact fun H' s'=>q H' (sA.trans s')
end
end KS
namespace L2
open PySem PySem.Spec PyProof.Rows PySem.W
theorem Zn9 {X:Cx}:ZfR X (.type "dict") (fun xs H Q=>∃ a kvs,xs=[.ref a]∧Rd H a (.dK kvs)∧∀ p,H p=none→Q (.ref p) (upd H p (.dK kvs))):=by
 intro pins s σ H xs us Q I r h
 obtain ⟨a,kvs,rfl,ha,q⟩:=h
 obtain ⟨u,rfl,ru⟩:=r.one
 cases (show u=Value.ref a from ru)
 exact ZIA I ha fun p s' hp I'=>⟨.ref p,_,I',rfl,q p hp⟩
end L2
namespace KS
open PySem L2
def Zh1 (p:Str):Str:=(Zr p).getLastD ""
theorem ZHm (a b:Str):ZaJ a b≠[]:=by
 unfold ZaJ
 split
 ·simp
 ·split
  ·simp
  ·intro h
   have:=congrArg List.length h
   unfold Builtin.Str.partsBetween at this
   simp at this
theorem ZgJ {p:Str} (h:¬ p="/"):Zr p≠[]:=by
 unfold Zr
 rw [if_neg h]
 exact ZHm _ _
theorem Zz4 (ps:List Str) (h:ps≠[]):atI (ps.map V.str) (-1)=some (.str (ps.getLastD "")):=by
 have hl:0 < ps.length:=List.length_pos_iff.mpr h
 unfold atI ixN
 rw [if_neg (by decide),if_pos (by rw [List.length_map];omega)]
 show (ps.map V.str)[(-1 + ((ps.map V.str).length:Int)).toNat]?=_
 have e:(-1 + ((ps.map V.str).length:Int)).toNat=ps.length - 1:=by rw [List.length_map];omega
 rw [e,List.getElem?_map,← List.getLast?_eq_getElem?,List.getLastD_eq_getLast?]
 cases hh:ps.getLast? with
 | none=>exact absurd (List.getLast?_eq_none_iff.mp hh) h
 | some x=>rfl
def ZeF (S:Sta) (p:Str):Except Rf Int:=if p="/" then .error .isThere else match Zno S p with
 | .error r=>.error r
 | .ok ps=>match getA S.ent (ps.getLastD 0) with
  | none=>.error .noDirectory
  | some es=>if (getA es (Zh1 p)).isSome then .error .isThere else .ok (ps.getLastD 0)
def Zkf (S:Sta) (d:Int) (name:Str) (n:Int):Sta:=match getA S.ent d with
 | none=>S
 | some es=>⟨S.dat,putA S.ent d (putA es name n)⟩
def ZtF (S:Sta) (p kind:Str):Except Rf Sta:=if !Zat p then .error .badName else match ZeF S p with
 | .error r=>.error r
 | .ok d=>match ZgP S with
  | none=>.error .tooGreat
  | some n=>match getA S.ent d with
   | none=>.error .noDirectory
   | some es=>if 40≤es.length then .error .tooGreat else .ok (Zkf (if kind="dir" then ⟨S.dat,putA S.ent n []⟩ else ⟨putA S.dat n [],S.ent⟩) d (Zh1 p) n)
structure ZsO (S:Sta):Prop where
 d:S.dat.length≤1000
 e:S.ent.length≤1000
 en:∀ n es,getA S.ent n=some es→es.length≤1000
theorem lt_size {n:Nat} (h:n≤1001):n < sizeLine:=by
 have:(1002:Nat)≤sizeLine:=by decide
 omega
section
variable {P:Program} {w:World} {K:PySem.W.Frag} {mg:Str→Option Value} {base:Heap} {g:Gs}
def ZFn (g:Gs):Sp:=fun vs H Q E=>∃ v S d es,vs=[v,.int d]∧ZS g H S v∧getA S.ent d=some es∧Ans g ZHd H (if 40≤es.length then .error .tooGreat else .ok ()) Q E
theorem Zns:Zq ["state","directory"] ["state","directory"] (Zg Z6):=⟨rfl,rfl,rfl,by decide +kernel,rfl,by decide +kernel,by decide +kernel⟩
theorem ZnR (T:Tx K mg g):FnOk P w K mg base (CXE P w) 1 g.Zef g.ZcL ["state","directory"] (ZFn g):=by
 refine T.Zf3.okE Zns (fun vs H Q E h=>?_) (fun cdv A outer s H vs Q E hr h=>?_)
 ·obtain ⟨v,S,d,es,rfl,_⟩:=h
  rfl
 ·obtain ⟨v,S,d,es,rfl,⟨p,dx,da,ea,dk,ek,rfl,hS⟩,hg,q⟩:=h
  have hu:=u1 hr.units
  refine ⟨_,(Zi (ZbK (ZY ZMt (ZC ZG4 (by rfl) T.ZcH PySem.boot_len (Za (Zdd hu (ZJ (pv 0) rfl) (pv 1) (fun _ _=>rfl)) Zf)) (ZF (v:=.int 40) rfl T.Zeb ⟨_,rfl⟩) (ZaN _)) (Zi (Zcl T.Znm rfl T.Zh0 (Za Zo Zf))) ZT)),?_⟩
  obtain ⟨ve,hv1,⟨ae,rfl,hae⟩⟩:=hS.re.yes ZbS hg
  refine ⟨_,rfl,p,_,dx,_,_,rfl,hS.ob,T.ZaC,T.ZG,Ztc _ _,_,rfl,ea,_,rfl,(by have:=DGet.k hS.he (k:=.inl d);rw [hv1] at this;exact this),ae,_,rfl,hae,_,_,rfl,rfl,_,rfl,?_⟩
  rw [ZGK]
  by_cases h4:40≤es.length
  ·rw [if_pos h4] at q
   rw [decide_eq_true (show (40:Int)≤(es.length:Int) by omega)]
   exact iteT ⟨szl 1,q _ (Same.refl _)⟩
  ·rw [if_neg h4] at q
   rw [decide_eq_false (show ¬ (40:Int)≤(es.length:Int) by omega)]
   exact iteF (q _ _ (Same.refl _) rfl)
def ZK0 (g:Gs):Sp:=fun vs H Q E=>∃ v S p,vs=[v,.str p]∧ZS g H S v∧p.length≤1000∧Ans g ZKz H (ZeF S p) Q E
theorem Zkw:Zq ["state","path","directory"] ["state","path"] (Zg Zbs):=⟨rfl,rfl,rfl,by decide +kernel,rfl,by decide +kernel,by decide +kernel⟩
theorem ZvR (T:Tx K mg g):FnOk P w K mg base (CXE P w) 4 g.Zn3 g.Zg4 ["state","path"] (ZK0 g):=by
 refine T.Zqj.okE Zkw (fun vs H Q E h=>?_) (fun cdv A outer s H vs Q E hr h=>?_)
 ·obtain ⟨v,S,p,rfl,_⟩:=h
  rfl
 ·obtain ⟨v,S,p,rfl,hS,hl,q⟩:=h
  have hu:=u1 hr.units
  refine ⟨_,(Ze (ZbK (ZY ZBu (pv 1) Zo (ZaN _)) (Zi (Zcl T.ZxP rfl T.ZrK (Za Zo Zf))) ZT)
   (Ze (ZI (i:=2) Zkw.nd rfl (Or.inl rfl) (ZjQ Zcf (Zx (Zim T) hr.dn rfl T.ZjT T.Zdw.kp T.Zj6 .nil Zh (Za (pv 0) (Za (pv 1) Zf))) (Zyt Zor Zn) (fun _ _=>rfl)))
   (Ze (ZbK (ZfT (Zyu hu (ZjQ Zcf (Zx (ZbP T) hr.dn rfl T.Zcw T.ZbJ.kp T.ZcG .nil Zh (Za (pv 1) Zf)) (Zyt Zor Zn) (fun _ _=>rfl)) (Zdd hu (ZJ (pv 0) rfl) (pv 2) (fun _ _=>rfl)))) (Zi (Zcl T.ZxP rfl T.ZrK (Za (ZBs (ZFM (pv 1) (ZFN ZFO))) Zf))) ZT)
   (Zi (ZE (pv 2)))))),?_⟩
  refine ⟨_,rfl,rfl,_,rfl,?_⟩
  by_cases h1:p="/"
  ·rw [decide_eq_true (show V.str p=V.str "/" by rw [h1])]
   exact iteT ⟨szl 1,q.no (r:=.isThere) (by unfold ZeF;rw [if_pos h1]) _ (Same.refl _)⟩
  ·rw [decide_eq_false (show ¬ V.str p=V.str "/" by intro z;injection z with z;exact h1 z)]
   refine iteF ?_
   unfold ZeF at q
   rw [if_neg h1] at q
   refine ⟨_,rfl,_,rfl,v,S,p,rfl,hS,hl,?_⟩
   cases hw:Zno S p with
   | error r=>
    rw [hw] at q
    exact q
   | ok ps=>
    rw [hw] at q
    dsimp only at q
    have hps:ps≠[]∧∃ es,getA S.ent (ps.getLastD 0)=some es:=by
     unfold Zno at hw
     cases h2:Zjx S (Zr p).dropLast [0] with
     | error r=>rw [h2] at hw;cases hw
     | ok qs=>
      rw [h2] at hw
      dsimp only at hw
      cases h3:getA S.ent (qs.getLastD 0) with
      | none=>rw [h3] at hw;cases hw
      | some es=>
       rw [h3] at hw
       cases hw
       exact ⟨(Zu7 h2 (by decide)).1,es,h3⟩
    obtain ⟨hne,es,hg⟩:=hps
    rw [hg] at q
    dsimp only at q
    intro v2 H2 s2 ⟨D,e,hD⟩
    subst e
    refine ⟨_,rfl,D,_,_,_,rfl,rfl,SqL.of hD,ZmU ps hne,?_⟩
    refine ⟨_,rfl,p,rfl,hl,fun l H3 s3 hn hl3=>?_⟩
    have sA:=s2.trans s3
    obtain ⟨p',dx,da,ea,dk,ek,rfl,hP⟩:=ZS.mono _ _ _ _ sA hS
    obtain ⟨ve,hv1,⟨ae,rfl,hae⟩⟩:=hP.re.yes ZbS hg
    refine ⟨_,rfl,l,_,_,_,rfl,rfl,SqL.of hl3,Zz4 _ (ZgJ h1),?_⟩
    refine ⟨_,rfl,p',_,dx,_,_,rfl,hP.ob,T.ZaC,T.ZG,Ztc _ _,_,rfl,ea,_,rfl,(by have:=DGet.k hP.he (k:=.inl (ps.getLastD 0));rw [hv1] at this;exact this),ae,_,rfl,DGet.k hae (k:=.inr (Zh1 p)),_,rfl,?_⟩
    rw [Zia,Option.isSome_map]
    cases hb:(getA es (Zh1 p)).isSome with
    | true=>
     rw [hb] at q
     refine iteT ?_
     refine ⟨_,rfl,p,rfl,Zw hl (by decide),?_,?_,?_,szl 1,q _ sA⟩
     ·rw [Z5];exact Zw (m:=1000) (by show 0 + p.length≤1000;omega) (by decide)
     ·rw [Z5,Z5];exact Zw (m:=1100) (by show 0 + p.length + 9≤1100;omega) (by decide)
     ·rw [Z5,Z5];exact Zw (m:=1100) (by show 0 + p.length + 9≤1100;omega) (by decide)
    | false=>
     rw [hb] at q
     exact iteF ⟨_,rfl,q _ _ sA rfl⟩
def ZDW (g:Gs):Sp:=fun vs H Q _=>∃ v S n row r,vs=[v,.int n,r]∧ZS g H S v∧ZR H row r∧S.dat.length≤1000∧∀ v' H',Same H H'→ZS g H' ⟨putA S.dat n row,S.ent⟩ v'→Q v' H'
theorem Zou:Zq ["state","number","row","data"] ["state","number","row"] (Zg Zb3):=⟨rfl,rfl,rfl,by decide +kernel,rfl,by decide +kernel,by decide +kernel⟩
theorem Zyy (T:Tx K mg g):FnOk P w K mg base (CXE P w) 3 g.ZqU g.Zjw ["state","number","row"] (ZDW g):=by
 refine T.ZsQ.okE Zou (fun vs H Q E h=>?_) (fun cdv A outer s H vs Q E hr h=>?_)
 ·obtain ⟨v,S,n,row,r,rfl,_⟩:=h
  rfl
 ·obtain ⟨v,S,n,row,r,rfl,⟨p,dx,da,ea,dk,ek,rfl,hS⟩,hr1,hz,q⟩:=h
  have hu:=u1 hr.units
  refine ⟨_,(Ze (ZI (i:=3) Zou.nd rfl (Or.inl rfl) (Zcu Zn9 rfl T.Zxs PyProof.Rows.Boot.«dict» (Za (ZJ (pv 0) rfl) Zf)))
   (Ze (Zrj hu (pv 3) (pv 1) (pv 2) rfl)
   (Zi (ZE (ZgG T.Zlt (Ze4 T) hr.dn rfl T.ZB1 T.Zhx .nil Zh (Za (pv 3) (Za (ZJ (pv 0) rfl) Zf))))))),?_⟩
  refine ⟨_,rfl,p,_,dx,_,_,rfl,hS.ob,T.ZaC,T.Z8,Zyh _ _,da,dk,rfl,.inl hS.hd,fun a ha=>?_⟩
  refine ⟨_,rfl,_,rfl,_,rfl,a,_,rfl,DPut.k (k:=.inl n) Zb (lt_size (by rw [hS.rd.len];omega)),?_⟩
  have s1:Same H (upd (upd H a (.dK dk)) a (.dK (putK dk (.inl n) r))):=fun b o e=>by rw [Zc (Zd e ha),Zc (Zd e ha)];exact e
  refine ⟨_,rfl,_,rfl,p,_,dx,_,_,rfl,s1 _ _ hS.ob,T.ZaC,T.ZG,Ztc _ _,fun x dx' hx hdx ne=>ZnW hx hdx ne fun p2 dx2 H' s' hp2=>?_⟩
  refine q _ H' (s1.trans s') ⟨p2,dx2,a,ea,_,_,rfl,hp2,s' _ _ Zb,s' _ _ (s1 _ _ hS.he),?_,hS.re.same Ziq.mono (s1.trans s')⟩
  exact (hS.rd.same ZR.mono (s1.trans s')).put ZbS (ZR.mono _ _ _ _ (s1.trans s') hr1)
def ZDV (g:Gs):Sp:=fun vs H Q _=>∃ v S n es r,vs=[v,.int n,r]∧ZS g H S v∧Ziq H es r∧S.ent.length≤1000∧∀ v' H',Same H H'→ZS g H' ⟨S.dat,putA S.ent n es⟩ v'→Q v' H'
theorem Zgk:Zq ["state","number","entries","changed"] ["state","number","entries"] (Zg Zax):=⟨rfl,rfl,rfl,by decide +kernel,rfl,by decide +kernel,by decide +kernel⟩
theorem ZgL (T:Tx K mg g):FnOk P w K mg base (CXE P w) 3 g.Zgg g.Zd0 ["state","number","entries"] (ZDV g):=by
 refine T.Zeo.okE Zgk (fun vs H Q E h=>?_) (fun cdv A outer s H vs Q E hr h=>?_)
 ·obtain ⟨v,S,n,row,r,rfl,_⟩:=h
  rfl
 ·obtain ⟨v,S,n,es,r,rfl,⟨p,dx,da,ea,dk,ek,rfl,hS⟩,hr1,hz,q⟩:=h
  have hu:=u1 hr.units
  refine ⟨_,(Ze (ZI (i:=3) Zgk.nd rfl (Or.inl rfl) (Zcu Zn9 rfl T.Zxs PyProof.Rows.Boot.«dict» (Za (ZJ (pv 0) rfl) Zf)))
   (Ze (Zrj hu (pv 3) (pv 1) (pv 2) rfl)
   (Zi (ZE (ZgG T.Zlt (Ze4 T) hr.dn rfl T.ZB1 T.Zhx .nil Zh (Za (ZJ (pv 0) rfl) (Za (pv 3) Zf))))))),?_⟩
  refine ⟨_,rfl,p,_,dx,_,_,rfl,hS.ob,T.ZaC,T.ZG,Ztc _ _,ea,ek,rfl,.inl hS.he,fun a ha=>?_⟩
  refine ⟨_,rfl,_,rfl,_,rfl,a,_,rfl,DPut.k (k:=.inl n) Zb (lt_size (by rw [hS.re.len];omega)),?_⟩
  have s1:Same H (upd (upd H a (.dK ek)) a (.dK (putK ek (.inl n) r))):=fun b o e=>by rw [Zc (Zd e ha),Zc (Zd e ha)];exact e
  refine ⟨_,rfl,p,_,dx,_,_,rfl,s1 _ _ hS.ob,T.ZaC,T.Z8,Zyh _ _,_,rfl,fun x dx' hx hdx ne=>ZnW hx hdx ne fun p2 dx2 H' s' hp2=>?_⟩
  refine q _ H' (s1.trans s') ⟨p2,dx2,da,a,_,_,rfl,hp2,s' _ _ (s1 _ _ hS.hd),s' _ _ Zb,hS.rd.same ZR.mono (s1.trans s'),?_⟩
  exact (hS.re.same Ziq.mono (s1.trans s')).put ZbS (Ziq.mono _ _ _ _ (s1.trans s') hr1)
def Zq0 (g:Gs):Sp:=fun vs H Q _=>∃ v S d name n es,vs=[v,.int d,.str name,.int n]∧ZS g H S v∧ZsO S∧getA S.ent d=some es∧∀ v' H',Same H H'→ZS g H' (Zkf S d name n) v'→Q v' H'
theorem Zks:Zq ["state","directory","name","number","entries"] ["state","directory","name","number"] (Zg Zbn):=⟨rfl,rfl,rfl,by decide +kernel,rfl,by decide +kernel,by decide +kernel⟩
theorem ZvP (T:Tx K mg g):FnOk P w K mg base (CXE P w) 4 g.Znn g.Zgf ["state","directory","name","number"] (Zq0 g):=by
 refine T.Zqh.okE Zks (fun vs H Q E h=>?_) (fun cdv A outer s H vs Q E hr h=>?_)
 ·obtain ⟨v,S,d,name,n,es,rfl,_⟩:=h
  rfl
 ·obtain ⟨v,S,d,name,n,es,rfl,hSS,sm,hg,q⟩:=h
  obtain ⟨p,dx,da,ea,dk,ek,rfl,hS⟩:=id hSS
  have hu:=u1 hr.units
  refine ⟨_,(Ze (ZI (i:=4) Zks.nd rfl (Or.inl rfl) (Zcu Zn9 rfl T.Zxs PyProof.Rows.Boot.«dict» (Za (Zdd hu (ZJ (pv 0) rfl) (pv 1) (fun _ _=>rfl)) Zf)))
   (Ze (Zrj hu (pv 4) (pv 2) (pv 3) rfl)
   (Zi (ZE (Zx (ZgL T) hr.dn rfl T.ZiH T.Zeo.kp T.Zji .nil Zh (Za (pv 0) (Za (pv 1) (Za (pv 4) Zf)))))))),?_⟩
  obtain ⟨ve,hv1,⟨ae,rfl,hae⟩⟩:=hS.re.yes ZbS hg
  refine ⟨_,rfl,p,_,dx,_,_,rfl,hS.ob,T.ZaC,T.ZG,Ztc _ _,_,rfl,ea,_,rfl,(by have:=DGet.k hS.he (k:=.inl d);rw [hv1] at this;exact this),ae,_,rfl,.inl hae,fun a ha=>?_⟩
  refine ⟨_,rfl,_,rfl,_,rfl,a,_,rfl,DPut.k (k:=.inr name) Zb (lt_size (by rw [ZGK];exact Nat.le_succ_of_le (sm.en _ _ hg))),?_⟩
  rw [ZIq]
  have s1:Same H (upd (upd H a (.dK (eKV es))) a (.dK (eKV (putA es name n)))):=fun b o e=>by rw [Zc (Zd e ha),Zc (Zd e ha)];exact e
  refine ⟨_,rfl,_,rfl,_,rfl,_,S,d,putA es name n,_,rfl,ZS.mono _ _ _ _ s1 hSS,⟨a,rfl,Zb⟩,sm.e,fun v' H' s' h'=>q v' H' (s1.trans s') ?_⟩
  unfold Zkf
  rw [hg]
  exact h'
end
end KS
namespace KS
open PySem L2
section
variable {κ α:Type} [DecidableEq κ]
theorem ZDi (k j:κ) (y:α):∀ xs:List (κ×α),getA (xs.map fun p=>if p.1=k then (p.1,y) else p) j=(getA xs j).map fun x=>if j=k then y else x
 | []=>rfl
 | p::r=>by
  rw [List.map_cons]
  by_cases z:p.1=j
  ·rw [ZaG z,Option.map_some]
   by_cases w:p.1=k
   ·rw [if_pos w,if_pos (z.symm.trans w)]
    exact ZaG (p:=(p.1,y)) z
   ·rw [if_neg w,if_neg (fun q=>w (z.trans q))]
    exact ZaG z
  ·rw [ZaH z]
   rw [← ZDi k j y r]
   by_cases w:p.1=k
   ·rw [if_pos w];exact ZaH (p:=(p.1,y)) z
   ·rw [if_neg w];exact ZaH z
theorem Zzw (k j:κ) (y:α):∀ xs:List (κ×α),getA xs k=none→getA (xs++[(k,y)]) j=if j=k then some y else getA xs j
 | [],_=>by
  by_cases z:j=k
  ·rw [if_pos z];exact ZaG (p:=(k,y)) z.symm
  ·rw [if_neg z];exact ZaH (p:=(k,y)) (fun q=>z q.symm)
 | p::r,h=>by
  by_cases w:p.1=k
  ·rw [ZaG w] at h;cases h
  ·rw [ZaH w] at h
   rw [List.cons_append]
   by_cases z:p.1=j
   ·rw [ZaG z,ZaG z,if_neg (fun q=>w (z.trans q))]
   ·rw [ZaH z,ZaH z];exact Zzw k j y r h
theorem ZDh (xs:List (κ×α)) (k j:κ) (y:α):getA (putA xs k y) j=if j=k then some y else getA xs j:=by
 unfold putA
 rw [ZqJ]
 cases h:getA xs k with
 | none=>
  rw [if_neg (by simp)]
  exact Zzw k j y xs h
 | some x=>
  rw [if_pos (by rfl),ZDi]
  by_cases z:j=k
  ·rw [if_pos z,z,h];simp
  ·rw [if_neg z]
   cases getA xs j with
   | none=>rfl
   | some u=>simp [z]
end
theorem Zza {S:Sta} {n:Int}:∀ {k i:Nat},Zex S i k=some n→ZnZ S n=false
 | 0,i,h=>by cases h
 | k + 1,i,h=>by
  unfold Zex at h
  split at h
  ·exact Zza h
  ·rename_i hh
   cases h
   simpa using hh
section
variable {P:Program} {w:World} {K:PySem.W.Frag} {mg:Str→Option Value} {base:Heap} {g:Gs}
theorem ZsO.ent {S:Sta} (h:ZsO S) (hl:S.ent.length≤999) (n:Int):ZsO ⟨S.dat,putA S.ent n []⟩:=
 ⟨h.d,Nat.le_trans (ZqG _ _ _) (Nat.succ_le_succ hl),fun m es hm=>by
  rw [ZDh] at hm
  by_cases z:m=n
  ·rw [if_pos z] at hm;cases hm;exact Nat.zero_le _
  ·rw [if_neg z] at hm;exact h.en m es hm⟩
theorem ZsO.dat {S:Sta} (h:ZsO S) (hl:S.dat.length≤999) (n:Int) (r:Row):ZsO ⟨putA S.dat n r,S.ent⟩:=⟨Nat.le_trans (ZqG _ _ _) (Nat.succ_le_succ hl),h.e,h.en⟩
def ZKX (g:Gs):Sp:=fun vs H Q E=>∃ v S p k,vs=[v,.str p,.str k]∧ZS g H S v∧ZsO S∧S.dat.length≤999∧S.ent.length≤999∧p.length≤1000∧Ans g (ZS g) H (ZtF S p k) Q E
theorem Zra:Zq ["state","path","kind","directory","number","changed"] ["state","path","kind"] (Zg Zt5):=⟨rfl,rfl,rfl,by decide +kernel,rfl,by decide +kernel,by decide +kernel⟩
theorem ZJT (T:Tx K mg g):FnOk P w K mg base (CXE P w) 5 g.made g.ZF8 ["state","path","kind"] (ZKX g):=by
 refine T.ZJc.okE Zra (fun vs H Q E h=>?_) (fun cdv A outer s H vs Q E hr h=>?_)
 ·obtain ⟨v,S,p,k,rfl,_⟩:=h
  rfl
 ·obtain ⟨v,S,p,k,rfl,hS,sm,hz1,hz2,hl,q⟩:=h
  have hu:=u1 hr.units
  refine ⟨_,(Ze (Zah (Zx (Zln T) hr.dn rfl T.ZoI T.ZhR.kp T.Zp6 .nil Zh (Za (pv 1) Zf)))
   (Ze (ZI (i:=3) Zra.nd rfl (Or.inl rfl) (Zx (ZvR T) hr.dn rfl T.Zy5 T.Zqj.kp T.ZzV .nil Zh (Za (pv 0) (Za (pv 1) Zf))))
   (Ze (ZI (i:=4) Zra.nd rfl (Or.inl rfl) (Zx (Zlm T) hr.dn rfl T.ZoH T.ZhQ.kp T.Zp5 .nil Zh (Za (pv 0) Zf)))
   (Ze (ZbK (ZfT (ZFT (pv 4))) (Zi (Zcl T.Znm rfl T.Zh0 (Za Zo Zf))) ZT)
   (Ze (Zah (Zx (ZnR T) hr.dn rfl T.Zqz T.Zf3.kp T.ZqC .nil Zh (Za (pv 0) (Za (pv 3) Zf))))
   (Ze (ZbK (ZY ZBu (pv 2) Zo (ZaN _)) (Zi (ZI (i:=5) Zra.nd rfl (Or.inl rfl) (Zx (ZgL T) hr.dn rfl T.ZiH T.Zeo.kp T.Zji .nil Zh (Za (pv 0) (Za (pv 4) (Za Ze1 Zf)))))) (Zi (ZI (i:=5) Zra.nd rfl (Or.inl rfl) (Zx (Zyy T) hr.dn rfl T.ZBS T.ZsQ.kp T.ZCi .nil Zh (Za (pv 0) (Za (pv 4) (Za (ZaM Zf) Zf)))))))
   (Zi (ZE (Zx (ZvP T) hr.dn rfl T.Zy3 T.Zqh.kp T.ZzT .nil Zh (Za (pv 5) (Za (pv 3) (Za (ZjQ Zcf (Zx (ZbP T) hr.dn rfl T.Zcw T.ZbJ.kp T.ZcG .nil Zh (Za (pv 1) Zf)) (Zyt Zor Zn) (fun _ _=>rfl)) (Za (pv 4) Zf))))))))))))),?_⟩
  refine ⟨_,rfl,p,rfl,hl,?_⟩
  unfold ZtF at q
  unfold Zhi
  cases hb:Zat p with
  | false=>
   rw [hb] at q
   exact fun H' s'=>q H' s'
  | true=>
   rw [hb] at q
   rw [if_neg (by decide)] at q
   intro v1 H1 s1 _
   refine ⟨_,rfl,_,rfl,v,S,p,rfl,ZS.mono _ _ _ _ s1 hS,hl,?_⟩
   cases hf:ZeF S p with
   | error r=>
    rw [hf] at q
    exact fun H' s'=>q H' (s1.trans s')
   | ok d=>
    rw [hf] at q
    dsimp only at q
    intro v2 H2 s2 e
    cases e
    have sB:=s1.trans s2
    have hS2:=ZS.mono _ _ _ _ sB hS
    refine ⟨_,rfl,v,S,rfl,hS2,?_⟩
    cases hlf:ZgP S with
    | none=>
     rw [hlf] at q
     refine ⟨_,rfl,_,rfl,iteT ⟨szl 1,q _ sB⟩⟩
    | some n=>
     rw [hlf] at q
     dsimp only at q
     refine ⟨_,rfl,_,rfl,iteF ?_⟩
     have hfe:¬ p="/"∧∃ es,getA S.ent d=some es:=by
      unfold ZeF at hf
      by_cases h1:p="/"
      ·rw [if_pos h1] at hf;cases hf
      ·rw [if_neg h1] at hf
       refine ⟨h1,?_⟩
       cases hw:Zno S p with
       | error r=>rw [hw] at hf;cases hf
       | ok ps=>
        rw [hw] at hf
        dsimp only at hf
        cases hg:getA S.ent (ps.getLastD 0) with
        | none=>rw [hg] at hf;cases hf
        | some es=>
         rw [hg] at hf
         dsimp only at hf
         split at hf
         ·cases hf
         ·cases hf;exact ⟨es,hg⟩
     obtain ⟨h1,es,hg⟩:=hfe
     rw [hg] at q
     dsimp only at q
     refine ⟨_,rfl,_,rfl,v,S,d,es,rfl,hS2,hg,?_⟩
     by_cases h4:40≤es.length
     ·rw [if_pos h4] at q ⊢
      exact fun H' s'=>q H' (sB.trans s')
     ·rw [if_neg h4] at q ⊢
      intro v3 H3 s3 _
      have sC:=sB.trans s3
      have hS3:=ZS.mono _ _ _ _ sC hS
      have nd:d≠n:=fun z=>by
       have:=Zza hlf
       unfold ZnZ at this
       rw [← z,hg] at this
       simp at this
      refine ⟨_,rfl,rfl,_,rfl,?_⟩
      -- the last step,alike on both ways
      have last:∀ (S':Sta) (u:V) (H4:Hp),Same H3 H4→ZS g H4 S' u→ZsO S'→getA S'.ent d=some es→(∀ v' H',Same H H'→ZS g H' (Zkf S' d (Zh1 p) n) v'→Q v' H')→
        Zq1 [.str p] H4 (fun x H5=>∃ (pp:Addr) (xs:List V) (i:Int) (z:V),x=.ref pp∧V.int (-1)=.int i∧SqL K H5 pp xs∧atI xs i=some z∧Zq0 g [u,.int d,z,.int n] H5 Q E) E:=by
       intro S' u H4 s4 hu4 sm4 hg4 qq
       refine ⟨p,rfl,hl,fun l H5 s5 hn hl5=>⟨l,_,_,_,rfl,rfl,SqL.of hl5,Zz4 _ (ZgJ h1),u,S',d,Zh1 p,n,es,rfl,ZS.mono _ _ _ _ s5 hu4,sm4,hg4,fun v' H' s' h'=>qq v' H' (sC.trans (s4.trans (s5.trans s'))) h'⟩⟩
      by_cases hk:k="dir"
      ·rw [decide_eq_true (show V.str k=V.str "dir" by rw [hk])]
       rw [if_pos hk] at q
       refine iteT ⟨_,rfl,_,rfl,fun a ha=>?_⟩
       have s4:=Zk (o:=.dK []) ha
       refine ⟨v,S,n,[],_,rfl,ZS.mono _ _ _ _ s4 hS3,⟨a,rfl,Zb⟩,sm.e,fun v4 H4 s5 h4=>?_⟩
       have hge:getA (⟨S.dat,putA S.ent n []⟩:Sta).ent d=some es:=by
        show getA (putA S.ent n []) d=_
        rw [ZDh,if_neg nd];exact hg
       obtain ⟨p0,e0,hl0,k0⟩:=last _ v4 H4 (s4.trans s5) h4 (sm.ent hz2 n) hge (fun v' H' s' h'=>q v' H' s' h')
       cases e0
       refine ⟨_,rfl,_,rfl,_,rfl,p,rfl,hl,fun l H5 s6 hn hl5=>?_⟩
       obtain ⟨pp,xs,i,z,a1,a2,a3,a4,a5⟩:=k0 l H5 s6 hn hl5
       refine ⟨_,rfl,pp,xs,i,z,a1,a2,a3,a4,?_⟩
       exact ⟨_,rfl,a5⟩
      ·rw [decide_eq_false (show ¬ V.str k=V.str "dir" by intro z;injection z with z;exact hk z)]
       rw [if_neg hk] at q
       refine iteF ⟨_,rfl,_,rfl,Nat.zero_le _,fun a ha=>?_⟩
       have s4:=Zk (o:=.tup []) ha
       refine ⟨v,S,n,[],_,rfl,ZS.mono _ _ _ _ s4 hS3,⟨a,rfl,Zb⟩,sm.d,fun v4 H4 s5 h4=>?_⟩
       obtain ⟨p0,e0,hl0,k0⟩:=last _ v4 H4 (s4.trans s5) h4 (sm.dat hz1 n []) hg (fun v' H' s' h'=>q v' H' s' h')
       cases e0
       refine ⟨_,rfl,_,rfl,_,rfl,p,rfl,hl,fun l H5 s6 hn hl5=>?_⟩
       obtain ⟨pp,xs,i,z,a1,a2,a3,a4,a5⟩:=k0 l H5 s6 hn hl5
       refine ⟨_,rfl,pp,xs,i,z,a1,a2,a3,a4,?_⟩
       exact ⟨_,rfl,a5⟩
end
end KS
namespace L2
open PySem PySem.Spec PyProof.Rows PySem.W
theorem ZIl {d:Addr} {ob:Obj} {u:HO} {g:TG} {tb:TS} {D:Ends} {σ:St} {H:Hp} (Pv:Nat→St→Hp→Prop) (h0:Pv 0 σ H) (hl:∀ i σ H,i≤(ZeH u).length→Pv i σ H→H d=some (.frz ob u))
  (hs:∀ i x σ H,(ZeH u)[i]?=some x→Pv i σ H→g x σ H fun σ2 H2=>tb {D with nx:=Pv (i + 1),ct:=Pv (i + 1),bk:=D.nx} σ2 H2) (hd:∀ σ H,Pv (ZeH u).length σ H→D.nx σ H) :
  ∃ W:Nat→Nat→St→Hp→Prop,(∃ m,W 0 m σ H)∧∀ i m σ H,W i m σ H→
   ((Itv d ob u).stop i H∧D.nx σ H)∨((Itv d ob u).go i H∧∃ N:St→Hp→Prop,(∀ σ' H',N σ' H'→∃ m',m' < m∧W (i + 1) m' σ' H')∧∀ x H',(Itv d ob u).yld i H x H'→g x σ H' fun σ2 H2=>tb {D with nx:=N,ct:=N,bk:=D.nx} σ2 H2):=by
 refine ⟨fun i m σ H=>m=(ZeH u).length - i∧i≤(ZeH u).length∧Pv i σ H,⟨(ZeH u).length,by simp,Nat.zero_le _,h0⟩,?_⟩
 rintro i m σ H ⟨rfl,hi,p⟩
 have q:=hl i σ H hi p
 by_cases hlt:i < (ZeH u).length
 ·refine .inr ⟨⟨q,hlt⟩,Pv (i + 1),fun σ' H' p'=>⟨(ZeH u).length - (i + 1),by omega,rfl,hlt,p'⟩,fun x H' y=>?_⟩
  obtain ⟨e,y⟩:=y
  subst e
  exact hs i x σ _ y p
 ·have e:i=(ZeH u).length:=by omega
  subst e
  exact .inl ⟨⟨q,Nat.le_refl _⟩,hd σ H p⟩
end L2
namespace KS
open PySem L2
abbrev Zbd:=List (Row×Row)
def rKey (r:Row):List Key:=r.map Sum.inl
theorem ZhY (a b:Row) (h:rKey a=rKey b):a=b:=by
 unfold rKey at h
 induction a generalizing b with
 | nil=>cases b with
  | nil=>rfl
  | cons=>simp at h
 | cons x xs ih=>cases b with
  | nil=>simp at h
  | cons y ys=>
   rw [List.map_cons,List.map_cons,List.cons.injEq] at h
   rw [Sum.inl.inj h.1,ih ys h.2]
theorem Zre (r:Row):(rKey r).map kV=r.map V.int:=by
 unfold rKey
 rw [List.map_map]
 rfl
def Zip (H:Hp) (pl:Zbd) (v:V):Prop:=∃ a kvs,v=.ref a∧H a=some (.dT kvs)∧ZX rKey ZR H pl kvs
theorem Zip.mono:Mono Zip:=fun _ _ _ _ s ⟨a,kvs,e,h,d⟩=>⟨a,kvs,e,s _ _ h,d.same ZR.mono s⟩
def ZbU (count:Int) (pl:Zbd):List Int:=(List.range (count - 2).toNat).filterMap fun (i:Nat)=>if (pl.map (·.2)).flatten.contains (2 + (i:Int)) then none else some (2 + (i:Int))
def ZxU (ns:List Int) (kvs:List (Key×V)):Prop:=∀ n:Int,(valV kvs (.inl n)).isSome=ns.contains n
theorem ZxU.put {ns:List Int} {kvs:List (Key×V)} (h:ZxU ns kvs) (m:Int) (v:V):ZxU (ns++[m]) (putK kvs (.inl m) v):=fun n=>by
 rw [ZCM,List.contains_append,← h n]
 by_cases z:n=m
 ·rw [if_pos (by rw [z]),z];simp
 ·rw [if_neg (fun y=>z (Sum.inl.inj y))]
  have:[m].contains n=false:=by simp [z]
  rw [this,Bool.or_false]
theorem ZIz {κ α ρ:Type} {f:κ→ρ} {R:Hp→α→V→Prop} {H:Hp} {xs:List (κ×α)} {kvs:List (ρ×V)} (h:ZX f R H xs kvs) {i:Nat} {v:V} (hv:(kvs.map (·.2))[i]?=some v):∃ p,xs[i]?=some p∧R H p.2 v:=by
 unfold ZX at h
 induction h generalizing i with
 | nil=>simp at hv
 | @cons p q _ _ a t ih=>
  cases i with
  | zero=>simp at hv;subst hv;exact ⟨q,rfl,a.2⟩
  | succ i=>obtain ⟨p',h1,h2⟩:=ih (i:=i) (by simpa using hv);exact ⟨p',by simpa using h1,h2⟩
theorem ZGA (pl:Zbd) {i:Nat} {p:Row×Row} (h:pl[i]?=some p):((pl.take (i + 1)).map (·.2)).flatten=((pl.take i).map (·.2)).flatten++p.2:=by
 have hi:i < pl.length:=(List.getElem?_eq_some_iff.mp h).1
 rw [List.take_succ_eq_append_getElem hi,List.map_append,List.flatten_append]
 rw [(List.getElem?_eq_some_iff.mp h).2]
 simp
section
variable {P:Program} {w:World} {K:PySem.W.Frag} {mg:Str→Option Value} {base:Heap} {g:Gs}
def ZBb:Sp:=fun vs H Q _=>∃ n:Int,vs=[.int n]∧Q (.int ((n + 62) / 63)) H
theorem ZvC:Zq ["length"] ["length"] (Zg Zbu):=⟨rfl,rfl,rfl,by decide +kernel,rfl,by decide +kernel,by decide +kernel⟩
theorem ZvS (T:Tx K mg g):FnOk P w K mg base (CXE P w) 1 g.Zob g.Zhw ["length"] ZBb:=by
 refine T.Zqk.okE ZvC (fun vs H Q E h=>?_) (fun cdv A outer s H vs Q E hr h=>?_)
 ·obtain ⟨n,rfl,_⟩:=h
  rfl
 ·obtain ⟨n,rfl,q⟩:=h
  refine ⟨_,(Zi (ZE (ZD ZcI (ZD Zud (ZD ZgK (pv 0) (ZF (v:=.int 63) rfl T.Zbk ⟨_,rfl⟩)) Zn) (ZF (v:=.int 63) rfl T.Zbk ⟨_,rfl⟩)))),?_⟩
  refine ⟨_,rfl,_,_,rfl,rfl,_,_,rfl,rfl,_,_,rfl,rfl,⟨by decide,by decide⟩,?_⟩
  rw [show n + 63 - 1=n + 62 by omega]
  exact q
def ZDZ:Sp:=fun vs H Q _=>∃ n v pl,vs=[.int n,v]∧Zip H pl v∧0≤n∧n≤256∧pl.length≤1000∧(pl.map (·.2)).flatten.length≤100000∧∀ l H',Same H H'→H' l=some (.lst ((ZbU n pl).map V.int))→Q (.ref l) H'
theorem ZbL:Zq ["count","places","used","numbers","number"] ["count","places"] (Zg Zaa):=⟨rfl,rfl,rfl,by decide +kernel,rfl,by decide +kernel,by decide +kernel⟩
theorem Zru (T:Tx K mg g):FnOk P w K mg base (CXE P w) 1 g.Zg5 g.Zee ["count","places"] ZDZ:=by
 refine T.Zjr.okE ZbL (fun vs H Q E h=>?_) (fun cdv A outer s H vs Q E hr h=>?_)
 ·obtain ⟨n,v,pl,rfl,_⟩:=h
  rfl
 ·obtain ⟨n,v,pl,rfl,⟨a,kvs,rfl,ha,hd⟩,hn0,hn1,hpl,hfl,q⟩:=h
  have hu:=u1 hr.units
  refine ⟨_,(Ze (ZI (i:=2) ZbL.nd rfl (Or.inr rfl) Ze1)
   (Ze (ZFH (Zdc PassesOwn.leaving rfl (ZJM (ZC7 PySem.F.plainAttrs_dict PySem.F.slot_dict_values PySem.F.type_dict_values ZEt (pv 1))) (ZQ (i:=3) ZbL.nd rfl (Or.inl rfl)) (Zi (Zdc PassesOwn.leaving rfl (ZIO (pv 3)) (ZQ (i:=4) ZbL.nd rfl (Or.inl rfl)) (Zi (Zrj hu (pv 2) (pv 4) ZvM rfl))))))
   (Zi (ZE (ZgH (own:=["number"]) (fv:=["used"]) (ix:=[2]) (Za1 (sc:=Zg Zaa) (N:=["count","places","used","numbers","number"]) rfl rfl (by decide +kernel)) rfl (ZFQ rfl T.Zgd (Za (ZF (v:=.int 2) rfl T.Zfc ⟨_,rfl⟩) (Za (pv 0) Zf))) (fun _ _ _ _ _=>ZQ (i:=0) (show (["number","used"]:List Str).Nodup from by decide +kernel) rfl (Or.inl rfl) (Or.inr rfl)) (fun _ _ _ _ _=>ZJL (ZfT (Zet hu (pv 0) (pv 1)))) (fun _ _ _ _ _=>(pv 0))))))),?_⟩
  refine fun U hU=>?_
  have naU:a≠U:=Zd ha hU
  refine ⟨a,.dT kvs,(by rw [Zc naU];exact ha),rfl,?_⟩
  refine ⟨_,rfl,.inr (.inr (.inl ⟨rfl,.inr ⟨kvs,(by rw [Zc naU];exact ha)⟩⟩)),a,.dT kvs,rfl,rfl,.inl (by rw [Zc naU];exact ha),rfl,fun r hr1=>?_⟩
  have nar:a≠r:=Zd (H:=upd H U (.dK [])) (by rw [Zc naU];exact ha) hr1
  have nUr:U≠r:=Zd (H:=upd H U (.dK [])) Zb hr1
  have hrH:H r=none:=by rw [Zc nUr.symm] at hr1;exact hr1
  refine ⟨r,a,.dT kvs,rfl,Zb,(by rw [Zc nar,Zc naU];exact ha),rfl,fun ob=>?_⟩
  refine ZIl (d:=a) (ob:=ob) (u:=.dT kvs) (fun i σ H'=>(∃ o3 o4,σ=[some (.int n),some (.ref a),some (.ref U),o3,o4])∧H' a=some (.frz ob (.dT kvs))∧(∃ uk,H' U=some (.dK uk)∧ZxU ((pl.take i).map (·.2)).flatten uk∧uk.length≤((pl.take i).map (·.2)).flatten.length)∧∀ b o,H b=some o→b≠a→H' b=some o)
   ⟨⟨none,none,rfl⟩,Zb,⟨[],(by rw [Zc naU.symm,Zc nUr];exact Zb),fun m=>rfl,Nat.zero_le _⟩,fun b o e hb=>by rw [Zc hb,Zc (Zd e hrH),Zc (Zd e hU)];exact e⟩ (fun i σ H' _ h=>h.2.1) (fun i x σ H' hx h=>?_) (fun σ H' h=>?_)
  ·obtain ⟨⟨o3,o4,rfl⟩,hfz,⟨uk,hU',hub,hul⟩,kp⟩:=h
   obtain ⟨p,hp,t,rfl,ht⟩:=ZIz hd hx
   have nta:t≠a:=ZP ht ha (by intro z;cases z)
   have htU:t≠U:=Zd ht hU
   have hlt:((pl.take (i + 1)).map (·.2)).flatten.length≤100000:=by
    have e1:(pl.map (·.2)).flatten=((pl.take (i + 1)).map (·.2)).flatten++((pl.drop (i + 1)).map (·.2)).flatten:=by
     rw [← List.flatten_append,← List.map_append,List.take_append_drop]
    rw [e1,List.length_append] at hfl
    omega
   rw [ZGA pl hp] at hlt ⊢
   generalize ((pl.take i).map (·.2)).flatten=F at hub hul hlt
   refine ⟨_,rfl,t,rfl,⟨_,SqT.of (kp _ _ ht nta)⟩,?_⟩
   refine ZGx (xs:=p.2.map V.int) (fun j σ H'=>(∃ o4,σ=[some (.int n),some (.ref a),some (.ref U),some (.ref t),o4])∧H' a=some (.frz ob (.dT kvs))∧(∃ uk,H' U=some (.dK uk)∧ZxU (F++p.2.take j) uk∧uk.length≤F.length + j)∧∀ b o,H b=some o→b≠a→H' b=some o)
    ⟨⟨_,rfl⟩,hfz,⟨uk,hU',by rw [List.take_zero,List.append_nil];exact hub,hul⟩,kp⟩ (fun j σ H' _ h=>SqT.of (h.2.2.2 _ _ ht nta)) (fun j y σ H' hy h=>?_) (fun σ H' h=>?_)
   ·obtain ⟨⟨o4,rfl⟩,hfz,⟨uk,hU',hub,hul⟩,kp⟩:=h
    rw [List.getElem?_map] at hy
    cases hm:p.2[j]? with
    | none=>rw [hm] at hy;cases hy
    | some m=>
     rw [hm] at hy
     cases hy
     have hj:j < p.2.length:=(List.getElem?_eq_some_iff.mp hm).1
     rw [List.length_append] at hlt
     refine ⟨_,rfl,_,rfl,U,_,rfl,DPut.k (k:=.inl m) hU' ?_,?_⟩
     ·have:(100001:Nat)≤sizeLine:=by decide
      omega
     ·refine ⟨⟨_,rfl⟩,(by rw [Zc naU];exact hfz),⟨_,Zb,?_,?_⟩,fun b o e hb=>?_⟩
      ·rw [List.take_succ_eq_append_getElem hj,(List.getElem?_eq_some_iff.mp hm).2,← List.append_assoc]
       exact hub.put m _
      ·exact Nat.le_trans (Ze8 _ _ _) (by omega)
      ·rw [Zc (Zd e hU)];exact kp _ _ e hb
   ·obtain ⟨⟨o4,rfl⟩,hfz,⟨uk,hU',hub,hul⟩,kp⟩:=h
    rw [List.length_map] at hub hul
    rw [List.take_length] at hub
    exact ⟨⟨_,_,rfl⟩,hfz,⟨uk,hU',hub,by rw [List.length_append];exact hul⟩,kp⟩
  ·obtain ⟨⟨o3,o4,rfl⟩,hfz,⟨uk,hU',hub,hul⟩,kp⟩:=h
   have hdl:(ZeH (.dT kvs)).length=pl.length:=by show (kvs.map (·.2)).length=_;rw [List.length_map,hd.len]
   rw [hdl,List.take_length] at hub
   refine ⟨ob,.dT kvs,hfz,rfl,?_⟩
   have sm:Same H (upd H' a (.dT kvs)):=fun b o e=>by
    by_cases z:b=a
    ·subst z;rw [Zb,← e,ha]
    ·rw [Zc z];exact kp _ _ e z
   have hU2:(upd H' a (.dT kvs)) U=some (.dK uk):=by rw [Zc naU.symm];exact hU'
   refine ⟨_,rfl,2,n,rfl,⟨by omega,by omega,by omega,by omega⟩,fun D hD=>?_⟩
   refine Zfp (J:=Itr 2 (n - 2).toNat) (n - 2).toNat (fun i=>(if (pl.map (·.2)).flatten.contains (2 + (i:Int)) then none else some (2 + (i:Int))).map V.int) (fun i x=>x=.int (2 + (i:Int))) hD (Zw (m:=256) (by omega) (by decide)) (fun i H3 hi _=>hi) (fun H3 _=>Nat.le_refl _) (fun i H3 x H4 hi _ hy=>⟨hy.1,hy.2⟩) (fun i x H3 N hi hx s3 k=>?_) fun H3 s3 hH=>?_
   ·subst hx
    refine ⟨_,rfl,_,rfl,U,_,rfl,DGet.k (s3 _ _ hU2) (k:=.inl (2 + (i:Int))),_,rfl,?_⟩
    have hk:=k H3 (Same.refl _)
    rw [hub (2 + (i:Int))]
    cases hc:(pl.map (·.2)).flatten.contains (2 + (i:Int)) with
    | true=>
     rw [hc] at hk
     exact iteF hk
    | false=>
     rw [hc] at hk
     exact iteT ⟨_,rfl,hk⟩
   ·refine q D H3 (sm.trans s3) ?_
    rw [hH]
    unfold ZbU
    rw [List.map_filterMap]
end
end KS
namespace L2
open PySem PySem.Spec PyProof.Rows
section
variable {X:Cx} {pins:List (Addr×Obj)} {σ:St} {H H2:Hp} {s:Shared} {scope:Scope} {own fv:List Str} {ix:List Nat} {cl:List (Str×Addr)}
theorem ZJJ {i₀:Nat} {x₀:Str} {pos₀ spos:Pos} {elt target iter:Expr} {ifs:List Expr} {pos:Pos} {wi:TI} {g:TG} {tt:TT} {te:TE} (hN:X.N.Nodup) (hi₀:X.N[i₀]?=some x₀) (hx₀:Loc X.env.scope x₀) (S:ZbZ X scope own fv ix) (hc:X.calm=true) (hi:PI X target iter wi)
  (hg:∀ cl fp C s H,PG (ZaQ X scope cl (own++fv) fp C s H) target g) (ht:∀ cl fp C s H,PIf (ZaQ X scope cl (own++fv) fp C s H) ifs tt) (he:∀ cl fp C s H,PE (ZaQ X scope cl (own++fv) fp C s H) elt te)
  (hsw:swapsWith (.ListComp elt [⟨target,iter,ifs,0⟩] scope pos) (some (.Name x₀ pos₀)) spos.line X.env=pure true:=by rfl) (hf₀:X.fn x₀=true∨X.env.scope.names.lookup x₀=some .local:=by first | exact .inl rfl | exact .inr rfl | assumption)
  (hs:∀ x,foldedSetIterable iter X.env x=pure x:=by intro _;rfl):PS X (.Assign [.Name x₀ pos₀] (.ListComp elt [⟨target,iter,ifs,0⟩] scope pos) spos) (tAsg (ZKO wi own.length ix g tt te) (ZEF i₀)):=by
 try unfold PE at *;try unfold PS at *
 intro pins s σ H D I h
 rw [exec_Assign_Name_used _ _ _ _ hsw]
 refine wpAny_bind (wpAny_standAt (wpAny_bind ?_))
 change wpAny _ X.A (do let _ ← comprehension (.ListComp elt [⟨target,iter,ifs,0⟩] scope pos) scope X.env _ (newList []) false (eval iter X.env) (some (assign (.Name x₀ pos₀) X.env))) _ _ s
 refine wpAny_bind (wpAny_mono (Q:=fun _ s'=>SP X pins D .next s') ?_ (fun _ s' hq=>wpAny_pure (wpAny_pure hq)) fun _ _ e=>e)
 obtain ⟨cl,hclos,hcl,hcl2⟩:=ZuG (scope:=scope) (env:=X.env) (S.cells I.ok)
 refine wpAny_comprehension_free (use:=some (assign (.Name x₀ pos₀) X.env)) rfl hs hclos S.kind S.names (thn (hi pins s σ H _ I h) fun v s1 h1=>thn h1 fun itv s2 h2=>?_)
 obtain ⟨it,fp,tn,J,H2,e,I2,T,st2,f2,hW⟩:=h2
 subst e
 have hlt2:∀ b∈fp,b < s2.heap.objs.size:=fun b hb=>by
  obtain ⟨o,e,_⟩:=T.obj _ _ st2 b hb
  exact Heap.lt_size e
 obtain ⟨W,⟨m0,w0⟩,turn⟩:=hW s2.heap.objs.size I2.fresh
 have I3:Inv X pins σ (upd H2 s2.heap.objs.size (.lst [])) {s2 with heap:=s2.heap.push {cls:=.type "list",data:=.seq ([]:List Value).toArray}}:=I2.lnew (t':=s2.toks) (its:=[]) .nil (Nat.zero_le _)
 refine wpAny_newObj_type ?_
 generalize hs3:({s2 with heap:=s2.heap.push {cls:=.type "list",data:=.seq ([]:List Value).toArray}}:Shared)=s3 at I3
 have hsz3:s3.heap.objs.size=s2.heap.objs.size + 1:=by rw [← hs3];exact Heap.size_push ..
 have up3:∀ b o,s2.heap.get? b=some o→s3.heap.get? b=some o:=fun b o e=>by rw [← hs3];exact Heap.get?_push_of_some _ e
 refine wpAny_newFunctionEnv (fun y hy=>S.nocell y hy) (by intro y hy;simp at hy) (fun h4 hns4 hsb4=>?_) S.kind
 have old4:∀ b o,s3.heap.get? b=some o→h4.get? b=some o:=fun b o e=>hsb4.extBut b o (Nat.ne_of_lt (Heap.lt_size e)) (Heap.get?_push_of_some _ e)
 have hlt3:∀ b∈fp,b < s3.heap.objs.size:=fun b hb=>by rw [hsz3];exact Nat.lt_succ_of_lt (hlt2 b hb)
 have I4:=ZuE (t1:=s3.toks + ([]:List (Str×Value)).length) S I3 f2 hlt3 hcl hcl2 hns4 old4
 have st4:tn 0 h4:=T.keep _ _ _ st2 fun b hb o e=>old4 b o (up3 b o e)
 have fr4:∀ b∈fp,(upd H2 s2.heap.objs.size (.lst [])) b=none:=fun b hb=>by rw [Zc (Nat.ne_of_lt (hlt2 b hb))];exact (f2 b hb).1
 have stat:∀ {H':Hp},(∀ b∈fp,H' b=none)→∀ b∈fp,FpOk (ZaQ X scope cl (own++fv) fp s3.heap.objs.size s3 (upd H2 s2.heap.objs.size (.lst []))) [] H' b:=fun hn b hb=>
  ⟨hn b hb,Nat.ne_of_lt (hlt3 b hb),(I4.ok.exfs b hb),.inl hb,fun x c e=>(f2 b hb).2.2.2.2.1 x c (hcl x c e).1,fun p hp=>(nomatch hp)⟩
 have loop:codeAny (model X.prog X.w) X.A (.compLoop (.ListComp elt [⟨target,iter,ifs,0⟩] scope pos) 0 (.ref it) (.ref s2.heap.objs.size) (compEnvC scope cl s3.heap.objs.size X.env))
   (compPost (model X.prog X.w) X.A X.xe (some (assign (.Name x₀ pos₀) X.env)) (fun _ s'=>SP X pins D .next s') (.ref s2.heap.objs.size) s3.heap.objs.size) {s3 with heap:=h4,toks:=s3.toks + ([]:List (Str×Value)).length}:=by
  refine Zdk (fun n s'=>∃ i σ' ys H',Inv (ZaQ X scope cl (own++fv) fp s3.heap.objs.size s3 (upd H2 s2.heap.objs.size (.lst []))) [] σ' H' s'∧tn i s'.heap∧(∀ b∈fp,H' b=none)∧W i n σ' ys H') ?_ m0 ⟨0,_,[],_,I4,st4,fr4,w0⟩
  rintro n s5 ⟨i,σ5,ys,H5,I5,st5,fr5,w5⟩
  obtain ⟨hD,next⟩:=turn i n σ5 ys H5 w5
  rcases next with ⟨stop,q⟩ | ⟨go,hys,step⟩
  ·refine thn (T.done (ZaQ X scope cl (own++fv) fp s3.heap.objs.size s3 (upd H2 s2.heap.objs.size (.lst []))) rfl rfl rfl hc i [] s5 σ5 H5 (fun _ _=>False) I5 (stat fr5) st5 stop) fun r s6 ⟨hr,I6⟩=>?_
   subst hr
   obtain ⟨m6,hn6,_⟩:=id I6.loc
   have J:Inv X pins σ H5 s6:=ZDr I3 f2 I6 ⟨rfl,fun _ _=>rfl⟩
   have F:=I3.fpOk (H':=H5) (Nat.le_refl s3.heap.objs.size) I6.free
   refine wpAny_assign_Name (ZxZ J hN hi₀ hx₀ (v:=.ref s2.heap.objs.size) (u:=.ref s2.heap.objs.size) rfl (fun s7 I7 ⟨a,sb,ha⟩=>?_) hf₀)
   have naC:s3.heap.objs.size≠a:=fun z=>by
    rcases ha with ha | ha
    ·exact F.2.1 (z.trans ha)
    ·exact F.2.2.2.2.1 _ _ ha z.symm
   exact ⟨m6,hn6.sameBut sb naC,fun h8 hs8=>⟨_,H5,I7.turned (t':=s7.toks) (fun b o hb e=>(hs8.2 b hb).trans e) F.1 F.2.1 F.2.2.2.1 F.2.2.2.2.1 F.2.2.2.2.2,q⟩⟩
  ·refine thn (T.item (ZaQ X scope cl (own++fv) fp s3.heap.objs.size s3 (upd H2 s2.heap.objs.size (.lst []))) rfl rfl rfl hc i [] s5 σ5 H5 (fun _ _=>False) I5 (stat fr5) st5 go) fun r s6 ⟨u,hr,h6⟩=>?_
   subst hr
   refine thn h6 fun _ s7 ⟨x,H7,I7,r7,y7,st7,fr7⟩=>?_
   have I7':=I7.pinned (stat fr7) (T.obj _ _ st7)
   refine thn (hg _ _ _ _ _ _ s7 σ5 H7 x u _ I7' r7 (step x H7 y7)) fun _ s8 ⟨σ8,H8,I8,q8⟩=>?_
   refine thn (ht _ _ _ _ _ _ s8 σ8 H8 _ I8 q8) fun b s9 ⟨H9,I9,q9⟩=>?_
   have again:∀ {s10:Shared} {σ10:St} {H10:Hp} {ys':List V},Inv (ZaQ X scope cl (own++fv) fp s3.heap.objs.size s3 (upd H2 s2.heap.objs.size (.lst []))) ([]++Zua fp s7.heap) σ10 H10 s10→(∃ m',m' < n∧W (i + 1) m' σ10 ys' H10)→
     ∃ m,m < n∧∃ i σ' ys H',Inv (ZaQ X scope cl (own++fv) fp s3.heap.objs.size s3 (upd H2 s2.heap.objs.size (.lst []))) [] σ' H' s10∧tn i s10.heap∧(∀ b∈fp,H' b=none)∧W i m σ' ys H':=fun {s10 σ10 H10 ys'} I10 ⟨m',hm,w10⟩=>by
    refine ⟨m',hm,i + 1,σ10,ys',H10,I10.unpinned,T.keep _ _ _ st7 fun b hb o e=>(I10.pin (b,o) (List.mem_append_right _ (List.mem_append_right _ (Zc7 hb e)))).1,fun b hb=>?_,w10⟩
    obtain ⟨o,e,d⟩:=T.obj _ _ st7 b hb
    exact (I10.pin (b,o) (List.mem_append_right _ (List.mem_append_right _ (Zc7 hb e)))).2.1
   cases b with
   | false=>
    rw [if_neg (by decide)] at q9
    rw [if_neg (by decide)]
    exact again I9 q9
   | true=>
    rw [if_pos rfl] at q9
    rw [if_pos rfl]
    refine thn (he _ _ _ _ _ _ s9 σ8 H9 _ I9 q9) fun u9 s10 ⟨v9,H10,I10,r10,hD10,q10⟩=>?_
    refine thn (Zev (X:=ZaQ X scope cl (own++fv) fp s3.heap.objs.size s3 (upd H2 s2.heap.objs.size (.lst []))) _ s10 σ8 H10 (.ref s2.heap.objs.size) [v9] (.ref s2.heap.objs.size) [u9] (fun _ H11=>H11=upd H10 s2.heap.objs.size (.lst (ys++[v9]))) I10 rfl (.cons r10 .nil) ⟨_,ys,v9,rfl,rfl,hD10,hys,rfl⟩) fun _ s11 ⟨_,H11,I11,_,q11⟩=>?_
    subst q11
    exact again I11 q10
 exact codeAny_compStart_list loop (T.self _ _ _ _ _ st4 loop)
end
end L2
namespace L2
open PySem PySem.Spec PyProof.Rows PySem.W
section
variable {X:Cx} {o e:Expr} {es:List Expr} {to:TE} {t:TA} {name:Str} {apos cpos:Pos} {T id:String} {r:V→List V→Hp→VK→Prop} {K:Frag}
theorem ZJO (hK:X.K=K) (pa:PlainAttrs T) (slot:Slot T name id) (hty:typeOf (.builtin id)=pure (.type "method_descriptor")) (hm:MtR X id r) (ho:PE X o to)
  (hbase:attributeBase o name X.env (eval o X.env)=eval o X.env:=by rfl) (hline:(apos.endLine == cpos.line)=true:=by rfl):PE X (.Call (.Attribute o name apos) [] [] cpos) (tBM0 K T r to):=by
 subst hK
 exact ZC7 pa slot hty hm ho hbase hline
theorem ZLl (hK:X.K=K) (pa:PlainAttrs T) (slot:Slot T name id) (hty:typeOf (.builtin id)=pure (.type "method_descriptor")) (hm:MtR X id r) (ho:PE X o to) (ha:PA X (e::es) t)
  (hbase:attributeBase o name X.env (eval o X.env)=eval o X.env:=by rfl)
  (hfew:((backTo cpos (starEach (e::es) X.env)).all (fun x=>!x.1) && (backToKw cpos (keywordEach [] X.env)).all (fun x=>x.1.isSome) && decide ((e::es).length + ([]:List Keyword).length + (if ([]:List Keyword).isEmpty then 0 else 1) < 30))=true:=by rfl)
  (hline:(apos.endLine == cpos.line)=true:=by rfl) (hs:starEach (e::es) X.env=(false,eval e X.env)::starEach es X.env:=by rfl) (hplain:(backTo cpos (starEach es X.env)).any (·.1)=false:=by rfl) :
  PE X (.Call (.Attribute o name apos) (e::es) [] cpos) (tBM K T r to t):=by
 subst hK
 exact Zrr pa slot hty hm ho ha hbase hfew hline hs hplain
end
end L2
namespace KS
open PySem L2
def Zq9 (c:Nat):Nat:=(Builtin.Str.occurrences Ztb ⟨#[c]⟩ 0 Ztb.length 1).headD 0
def ZaO (t:Str):Row:=((List.range t.cps.size).map fun i=>(Zq9 (t.cps.getD i 0):Int) + 1)++List.replicate (8 - t.cps.size) 0
def Zfn (p:Str×Int):Row:=ZaO p.1++[p.2]
def ZeG (es:Ents):Row:=((Zc8 es).map Zfn).flatten
theorem ZhZ {t:Str} (h:ZZ t=true):1≤t.cps.size∧t.cps.size≤8∧∀ i,i < t.cps.size→Zgj (t.cps.getD i 0)=true:=by
 unfold ZZ at h
 split at h
 ·cases h
 ·rename_i hh
  have e:t.length=t.cps.size:=rfl
  refine ⟨?_,?_,fun i hi=>?_⟩
  ·rw [← e];exact Nat.not_lt.mp fun z=>hh (.inl z)
  ·rw [← e];exact Nat.not_lt.mp fun z=>hh (.inr (.inl z))
  ·exact List.all_eq_true.mp h i (List.mem_range.mpr hi)
theorem Ze7 {t:Str} (h:t.cps.size≤8):(ZaO t).length=8:=by
 unfold ZaO
 rw [List.length_append,List.length_map,List.length_range,List.length_replicate]
 omega
theorem ZJD {c:Nat} (h:Zgj c=true):∃ rest,Builtin.Str.occurrences Ztb ⟨#[c]⟩ 0 Ztb.length 1=Zq9 c::rest:=by
 unfold Zgj at h
 unfold Zq9
 cases e:Builtin.Str.occurrences Ztb ⟨#[c]⟩ 0 Ztb.length 1 with
 | nil=>rw [e] at h;cases h
 | cons i r=>exact ⟨r,rfl⟩
section
variable {P:Program} {w:World} {K:PySem.W.Frag} {mg:Str→Option Value} {base:Heap} {g:Gs}
def ZA7:Sp:=fun vs H Q _=>∃ t,vs=[.str t]∧ZZ t=true∧∀ v H',Same H H'→ZR H' (ZaO t) v→Q v H'
theorem Zkt:Zq ["name","codes"] ["name"] (Zg ZaL):=⟨rfl,rfl,rfl,by decide +kernel,rfl,by decide +kernel,by decide +kernel⟩
theorem Zll (T:Tx K mg g):FnOk P w K mg base (CXE P w) 1 g.ZnV g.ZgN ["name"] ZA7:=by
 refine T.ZhP.okE Zkt (fun vs H Q E h=>?_) (fun cdv A outer s H vs Q E hr h=>?_)
 ·obtain ⟨t,rfl,_⟩:=h
  rfl
 ·obtain ⟨t,rfl,hb,q⟩:=h
  obtain ⟨n1,n8,hsg⟩:=ZhZ hb
  refine ⟨_,(Ze (ZJJ (i₀:=1) Zkt.nd rfl (Or.inl rfl) (own:=["sign"]) (fv:=[]) (ix:=[]) (Za1 (sc:=Zg ZaL) (N:=["name","codes"]) rfl rfl (by decide +kernel)) rfl (ZFP (pv 0)) (fun _ _ _ _ _=>ZQ (i:=0) (show (["sign"]:List Str).Nodup from by decide +kernel) rfl (Or.inl rfl) (Or.inr rfl)) (fun _ _ _ _ _=>ZgE) (fun _ _ _ _ _=>(ZD ZgK (ZLl (K:=K) rfl PySem.F.plainAttrs_str PySem.F.slot_str_index PySem.F.type_str_index ZF6 (ZF (v:=.str "ABCDEFGHIJKLMNOPQRSTUVWXYZabcdefghijklmnopqrstuvwxyz0123456789._-") rfl T.ZdI ⟨_,rfl⟩) (Za (pv 0) Zf)) Zn)))
   (Zi (ZE (ZD Zcb (Zcu ZmL rfl T.ZuX PyProof.Rows.Boot.«tuple» (Za (pv 1) Zf)) (ZD ZvO (ZaM (Za Zn Zf)) (ZD Zud (ZF (v:=.int 8) rfl T.Zco ⟨_,rfl⟩) (ZC ZM (by rfl) T.ZcH PySem.boot_len (Za (pv 1) Zf)))))))),?_⟩
  refine ⟨_,rfl,_,rfl,fun D hD=>?_⟩
  refine Zfp (J:=Its t) t.cps.size (fun i=>some (V.int ((Zq9 (t.cps.getD i 0):Int) + 1))) (fun i x=>i < t.cps.size∧x=.str ⟨#[t.cps.getD i 0]⟩) hD (Zw n8 (by decide)) (fun i H' hi _=>hi) (fun H' _=>rfl) (fun i H' x H2 hi _ hy=>?_) (fun i x H' N hi hx _ k=>?_) fun H' s' hH=>?_
  ·obtain ⟨e,c,hc,e2⟩:=hy
   refine ⟨e,hi,?_⟩
   rw [e2,show t.cps.getD i 0=c by rw [Array.getD_eq_getD_getElem?,hc];rfl]
  ·obtain ⟨hi,rfl⟩:=hx
   obtain ⟨rest,ho⟩:=ZJD (hsg i hi)
   refine iteT (B:=N none H') ?_
   exact ⟨rfl,_,rfl,_,_,_,rest,rfl,rfl,ho,_,_,rfl,rfl,k _ (Same.refl _)⟩
  ·have hcl:((List.range t.cps.size).filterMap fun i=>some (V.int ((Zq9 (t.cps.getD i 0):Int) + 1)))=((List.range t.cps.size).map fun i=>(Zq9 (t.cps.getD i 0):Int) + 1).map V.int:=by
    rw [List.filterMap_eq_map',List.map_map];rfl
   rw [hcl] at hH
   generalize hcs:((List.range t.cps.size).map fun i=>(Zq9 (t.cps.getD i 0):Int) + 1)=cs at hH
   have hcsl:cs.length=t.cps.size:=by rw [← hcs,List.length_map,List.length_range]
   refine ⟨_,rfl,D,_,rfl,.inl ⟨SqL.of hH,fun a ha=>?_⟩⟩
   have s1:=Zk (o:=.tup (cs.map V.int)) ha
   refine ⟨szl 1,fun b hb=>?_⟩
   have s2:=Zk (o:=.tup [.int 0]) hb
   refine ⟨_,rfl,D,_,rfl,.inl (SqL.of (s2 _ _ (s1 _ _ hH))),_,_,rfl,rfl,b,_,_,rfl,rfl,Zb,by simp,?_,?_,?_,fun c H2 s3 hc=>?_⟩
   ·rw [List.length_map,hcsl];omega
   ·rw [List.length_map,hcsl];omega
   ·rw [List.length_map,hcsl];show 1 * _≤_;exact Zw (m:=8) (by omega) (by decide)
   rw [ZkA] at hc
   have e8:((8:Int) - ((cs.map V.int).length:Int)).toNat=8 - t.cps.size:=by rw [List.length_map,hcsl];omega
   rw [e8] at hc
   refine ⟨a,c,_,_,rfl,rfl,SqT.of (s3 _ _ (s2 _ _ Zb)),SqT.of hc,fun _=>hc,fun _ _=>s3 _ _ (s2 _ _ Zb),?_,fun d H3 s4 hd=>?_⟩
   ·rw [List.length_map,List.length_replicate,hcsl];exact Zw (m:=8) (by omega) (by decide)
   refine q _ H3 (s'.trans (s1.trans (s2.trans (s3.trans s4)))) ⟨d,rfl,?_⟩
   rw [hd]
   unfold ZaO
   rw [hcs,List.map_append,List.map_replicate]
theorem Zq2 (es:Ents):∀ p∈Zc8 es,p∈es:=by
 intro p hp
 unfold Zc8 at hp
 split at hp
 ·exact hp
 ·rename_i h2
  obtain ⟨i,hi,rfl⟩:=List.mem_map.mp hp
  have low:=Zcd (fun i j=>ZqA (es.getD i (Str.empty,0)) (es.getD j (Str.empty,0))) (ZeP (n:=es.length) (by omega))
  have hi':i < es.length:=low.lt i (by simpa using hi)
  rw [List.getD_eq_getElem?_getD,List.getElem?_eq_getElem hi']
  exact List.getElem_mem hi'
theorem ZGB {α β:Type} (f:α→List β) (xs:List α) {i:Nat} {p:α} (h:xs[i]?=some p):((xs.take (i + 1)).map f).flatten=((xs.take i).map f).flatten++f p:=by
 have hi:i < xs.length:=(List.getElem?_eq_some_iff.mp h).1
 rw [List.take_succ_eq_append_getElem hi,List.map_append,List.flatten_append,(List.getElem?_eq_some_iff.mp h).2]
 simp
def Zxh (es:Ents):Prop:=∀ p∈es,ZZ p.1=true
theorem ZwX (es:Ents) (h:Zxh es):∀ l:Ents,(∀ p∈l,p∈es)→((l.map Zfn).flatten).length=9 * l.length
 | [],_=>rfl
 | p::l,hl=>by
  rw [List.map_cons,List.flatten_cons,List.length_append,ZwX es h l fun q hq=>hl q (List.mem_cons_of_mem _ hq),List.length_cons]
  unfold Zfn
  rw [List.length_append,Ze7 (ZhZ (h p (hl p List.mem_cons_self))).2.1]
  show 8 + 1 + _=_
  omega
def ZHr:Sp:=fun vs H Q _=>∃ v es,vs=[v]∧Ziq H es v∧es.length < 64∧Zxh es∧∀ u H',Same H H'→ZR H' (ZeG es) u→Q u H'
theorem Za5:Zq ["entries","row","name","number"] ["entries"] (Zg ZaU):=⟨rfl,rfl,rfl,by decide +kernel,rfl,by decide +kernel,by decide +kernel⟩
theorem Ztl (T:Tx K mg g):FnOk P w K mg base (CXE P w) 2 g.ZjZ g.Zfo ["entries"] ZHr:=by
 refine T.Znj.okE Za5 (fun vs H Q E h=>?_) (fun cdv A outer s H vs Q E hr h=>?_)
 ·obtain ⟨v,es,rfl,_⟩:=h
  rfl
 ·obtain ⟨v,es,rfl,⟨a,rfl,ha⟩,hz,hnm,q⟩:=h
  refine ⟨_,(Ze (ZI (i:=1) Za5.nd rfl (Or.inl rfl) (ZaM Zf))
   (Ze (Zdc PassesOwn.leaving rfl (Ze0 (ZC ZzK (by rfl) T.Zke PyProof.Rows.Boot.«sorted» (Za (ZC7 PySem.F.plainAttrs_dict PySem.F.slot_dict_items PySem.F.type_dict_items Zy2 (pv 0)) Zf))) (Zys rfl (Zcm (ZQ (i:=2) Za5.nd rfl (Or.inl rfl)) (Zcm (ZQ (i:=3) Za5.nd rfl (Or.inl rfl)) Zrp))) (Zi (ZI (i:=1) Za5.nd rfl (Or.inl rfl) (ZD Zcb (ZD Zcb (pv 1) (Zx (Zll T) hr.dn rfl T.ZoG T.ZhP.kp T.Zp4 .nil Zh (Za (pv 2) Zf))) (ZaM (Za (pv 3) Zf))))))
   (Zi (ZE (pv 1))))),?_⟩
  refine ⟨Nat.zero_le _,fun r hr1=>?_⟩
  have s1:=Zk (o:=.tup []) hr1
  refine ⟨_,rfl,.inr (.inr (.inl ⟨rfl,.inl ⟨_,s1 _ _ ha⟩⟩)),a,_,rfl,rfl,.inl (s1 _ _ ha),rfl,fun p hp=>?_⟩
  have s2:=Zk (o:=ZE6 p a) hp
  refine ⟨p,a,es,rfl,Zb,.inl (s2 _ _ (s1 _ _ ha)),hz,fun l as H1 s3 hl hl1 hlen hle hat=>?_⟩
  have sA:=s1.trans (s2.trans s3)
  refine ⟨l,rfl,⟨_,SqL.of hl1⟩,?_⟩
  have hsl:(Zc8 es).length≤64:=by rw [← hlen];omega
  refine Zh5 (xs:=as.map V.ref) (fun i σ H'=>∃ t o2 o3,σ=[some (.ref a),some (.ref t),o2,o3]∧Same H1 H'∧H' t=some (.tup ((((Zc8 es).take i).map Zfn).flatten.map V.int))) ⟨r,none,none,rfl,Same.refl _,s3 _ _ (s2 _ _ Zb)⟩ (fun i σ H' _ h=>?_) (fun i x σ H' hx h=>?_) (fun σ H' h=>?_)
  ·obtain ⟨t,o2,o3,rfl,sm,ht⟩:=h
   exact SqL.of (sm _ _ hl1)
  ·obtain ⟨t,o2,o3,rfl,sm,ht⟩:=h
   rw [List.getElem?_map] at hx
   cases hb:as[i]? with
   | none=>rw [hb] at hx;cases hx
   | some b=>
    rw [hb] at hx
    cases hx
    have hi:i < (Zc8 es).length:=by rw [← hlen];exact (List.getElem?_eq_some_iff.mp hb).1
    obtain ⟨pr,hpr⟩:∃ pr,(Zc8 es)[i]?=some pr:=⟨_,List.getElem?_eq_getElem hi⟩
    have hbt:=sm _ _ (hat i b pr hb hpr)
    have hmem:pr∈es:=Zq2 es pr (List.mem_of_getElem? hpr)
    have hfl:=ZwX es hnm ((Zc8 es).take i) fun q hq=>Zq2 es q (List.mem_of_mem_take hq)
    have htl:((Zc8 es).take i).length≤64:=by rw [List.length_take];omega
    rw [ZGB Zfn _ hpr]
    generalize (((Zc8 es).take i).map Zfn).flatten=F at ht hfl
    refine ⟨b,_,rfl,SqT.of hbt,rfl,_,_,rfl,_,_,rfl,rfl,?_⟩
    refine ⟨_,rfl,_,rfl,pr.1,rfl,hnm pr hmem,fun u H2 s4 ⟨c,e,hc⟩=>?_⟩
    subst e
    have hnl:(ZaO pr.1).length=8:=Ze7 (ZhZ (hnm pr hmem)).2.1
    refine ⟨t,c,_,_,rfl,rfl,SqT.of (s4 _ _ ht),SqT.of hc,fun _=>hc,fun _ _=>s4 _ _ ht,?_,fun d H3 s5 hd=>?_⟩
    ·rw [List.length_map,List.length_map,hnl,hfl];exact Zw (m:=1000) (by omega) (by decide)
    refine ⟨_,rfl,szl 1,fun e he=>?_⟩
    have s6:=Zk (o:=.tup [.int pr.2]) he
    refine ⟨d,e,_,_,rfl,rfl,SqT.of (s6 _ _ hd),SqT.of Zb,fun _=>Zb,(fun h=>nomatch h),?_,fun f H4 s7 hf=>?_⟩
    ·rw [List.length_append,List.length_map,List.length_map,hnl,hfl];exact Zw (m:=1000) (by show 9 * _ + 8 + 1≤1000;omega) (by decide)
    refine ⟨f,_,_,rfl,sm.trans (s4.trans (s5.trans (s6.trans s7))),?_⟩
    rw [hf]
    unfold Zfn
    rw [List.map_append,List.map_append,List.append_assoc]
    rfl
  ·obtain ⟨t,o2,o3,rfl,sm,ht⟩:=h
   rw [List.length_map,hlen,List.take_length] at ht
   exact ⟨_,rfl,q _ _ (sA.trans sm) ⟨t,rfl,ht⟩⟩
end
end KS
namespace KS
open PySem L2
structure Chn where
 free:List Int
 older:Zbd
 places:Zbd
def cfl (f o p:V):List (Str×V):=putF "places" p (putF "older" o (putF "free" f []))
theorem cf1:¬ (("free":Str)="places"):=by decide +kernel
theorem cf2:¬ (("free":Str)="older"):=by decide +kernel
theorem cf3:¬ (("older":Str)="places"):=by decide +kernel
theorem ZKu (f o p:V):(cfl f o p).lookup ("free":Str)=some f:=by unfold cfl;rw [Zj,if_neg cf1,Zj,if_neg cf2,Zj,if_pos rfl]
theorem ZLU (f o p:V):(cfl f o p).lookup ("older":Str)=some o:=by unfold cfl;rw [Zj,if_neg cf3,Zj,if_pos rfl]
theorem ZGZ (f o p:V):(cfl f o p).lookup ("places":Str)=some p:=by unfold cfl;rw [Zj,if_pos rfl]
theorem ZG0 (f o p:V) {m:Str} (h1:¬ m="places") (h2:¬ m="older") (h3:¬ m="free"):(cfl f o p).lookup m=none:=by
 unfold cfl
 rw [Zj,if_neg h1,Zj,if_neg h2,Zj,if_neg h3]
 rfl
theorem ZG1 (f o p:V):cfl f o p=([("free",f),("older",o),("places",p)]:List (Str×V)):=by
 have e1:putF "older" o [(("free":Str),f)]=([("free",f),("older",o)]:List (Str×V)):=by
  show (if ("free":Str)="older" then [(("free":Str),o)] else (("free":Str),f)::putF "older" o [])=_
  rw [if_neg cf2];rfl
 have e2:putF "places" p [(("free":Str),f),(("older":Str),o)]=([("free",f),("older",o),("places",p)]:List (Str×V)):=by
  show (if ("free":Str)="places" then (("free":Str),p)::[(("older":Str),o)] else (("free":Str),f)::(if ("older":Str)="places" then [(("older":Str),p)] else (("older":Str),o)::putF "places" p []))=_
  rw [if_neg cf1,if_neg cf3];rfl
 show putF "places" p (putF "older" o [(("free":Str),f)])=_
 rw [e1,e2]
theorem ZKt (f o p f':V):putF "free" f' (cfl f o p)=cfl f' o p:=by
 rw [ZG1,ZG1]
 show (if ("free":Str)="free" then (("free":Str),f')::[(("older":Str),o),(("places":Str),p)] else _)=_
 rw [if_pos rfl]
structure ZMN (g:Gs) (H:Hp) (c pl:Addr) (C:Chn) (dx f o:Addr) (ko kp:List (List Key×V)):Prop where
 ob:H c=some (.ins g.Chains dx (cfl (.ref f) (.ref o) (.ref pl)))
 hf:H f=some (.lst (C.free.map V.int))
 ho:H o=some (.dT ko)
 hp:H pl=some (.dT kp)
 ro:ZX rKey ZR H C.older ko
 rp:ZX rKey ZR H C.places kp
 ne:o≠pl
def Znh (g:Gs) (H:Hp) (c pl:Addr) (C:Chn):Prop:=∃ dx f o ko kp,ZMN g H c pl C dx f o ko kp
theorem Znh.same {g:Gs} {H H':Hp} {c pl:Addr} {C:Chn} (s:Same H H'):Znh g H c pl C→Znh g H' c pl C
 | ⟨dx,f,o,ko,kp,h⟩=>⟨dx,f,o,ko,kp,s _ _ h.ob,s _ _ h.hf,s _ _ h.ho,s _ _ h.hp,h.ro.same ZR.mono s,h.rp.same ZR.mono s,h.ne⟩
def But2 (a b:Addr) (H H':Hp):Prop:=∀ d o,H d=some o→d≠a→d≠b→H' d=some o
theorem But2.refl {a b:Addr} {H:Hp}:But2 a b H H:=fun _ _ e _ _=>e
theorem But2.of {a b:Addr} {H H':Hp} (s:Same H H'):But2 a b H H':=fun _ _ e _ _=>s _ _ e
theorem But2.trans {a b:Addr} {H H' H'':Hp} (s:But2 a b H H') (t:But2 a b H' H''):But2 a b H H'':=fun d o e h1 h2=>t _ _ (s _ _ e h1 h2) h1 h2
theorem But2.base {c pl:Addr} {H0 H H':Hp} (s0:Same H0 H) (h1:H0 c=none) (h2:H0 pl=none) (s:But2 c pl H H'):Same H0 H':=fun d o e=>s _ _ (s0 _ _ e) (Zd e h1) (Zd e h2)
structure ZCJ (C:Chn):Prop where
 o:∀ p∈C.older,p.2≠[]
 p:∀ p∈C.places,p.2≠[]
def ZDU (C:Chn) (n:Nat):Except Rf (Row×Chn):=if C.free.length < n then .error .noRoom else .ok (C.free.take n,{C with free:=C.free.drop n})
def putC (C:Chn) (row:Row):Except Rf (Int×Chn):=if row=[] then .ok (0,C) else match getA C.places row with
 | some ns=>.ok (ns.headD 0,C)
 | none=>match getA C.older row with
  | some ns=>.ok (ns.headD 0,{C with places:=putA C.places row ns})
  | none=>match ZDU C ((row.length + 62) / 63) with
   | .error r=>.error r
   | .ok (ns,C')=>.ok (ns.headD 0,{C' with places:=putA C'.places row ns})
theorem ZGU (xs:List Int) (n:Nat):cutV (xs.map V.int) none (some (n:Int))=(xs.take n).map V.int:=by
 unfold cutV
 rw [HT.sIx_none,HT.sIx_nat,List.drop_zero,Nat.sub_zero,← List.map_take,List.length_map]
 congr 1
 rcases Nat.le_total n xs.length with h | h
 ·rw [Nat.min_eq_left h]
 ·rw [Nat.min_eq_right h,List.take_length,List.take_of_length_le h]
theorem ZzF (xs:List Int) (n:Nat):cutV (xs.map V.int) (some (n:Int)) none=(xs.drop n).map V.int:=by
 unfold cutV
 rw [HT.sIx_none,HT.sIx_nat,List.length_map,← List.map_drop,← List.map_take]
 congr 1
 rcases Nat.le_total n xs.length with h | h
 ·rw [Nat.min_eq_left h,List.take_of_length_le (by rw [List.length_drop];exact Nat.le_refl _)]
 ·rw [Nat.min_eq_right h,List.drop_length,List.drop_of_length_le h,List.take_nil]
section
variable {P:Program} {w:World} {K:PySem.W.Frag} {mg:Str→Option Value} {base:Heap} {g:Gs}
def ZFs (g:Gs):Sp:=fun vs H Q _=>∃ c dx f o,vs=[.ref c,f,o]∧H c=some (.ins g.Chains dx [])∧∀ pl H',H pl=none→(∀ b u,H b=some u→b≠c→H' b=some u)→H' c=some (.ins g.Chains dx (cfl f o (.ref pl)))→H' pl=some (.dT [])→Q .non H'
theorem Ztg:Zq ["self","free","older"] ["self","free","older"] (Zg ZaY):=⟨rfl,rfl,rfl,by decide +kernel,rfl,by decide +kernel,by decide +kernel⟩
theorem Ztp (T:Tx K mg g):FnOk P w K mg base (CXE P w) 1 g.Zkd g.ZfQ ["self","free","older"] (ZFs g):=by
 refine T.Zxm.okE Ztg (fun vs H Q E h=>?_) (fun cdv A outer s H vs Q E hr h=>?_)
 ·obtain ⟨c,dx,f,o,rfl,_⟩:=h
  rfl
 ·obtain ⟨c,dx,f,o,rfl,hc,q⟩:=h
  refine ⟨_,(Ze (ZaF (pv 0) (pv 1) rfl)
   (Ze (ZaF (pv 0) (pv 2) rfl)
   (Zi (ZaF (pv 0) ZC5 rfl)))),?_⟩
  refine ⟨_,rfl,_,rfl,c,g.Chains,dx,[],rfl,hc,T.Z9,T.Zar,(by show 0 < 1000;decide),?_⟩
  refine ⟨_,rfl,_,rfl,c,g.Chains,dx,_,rfl,Zb,T.Z9,T.Za7,(by show 1 < 1000;decide),?_⟩
  refine fun pl hpl=>?_
  have ncp:c≠pl:=Zd Zb hpl
  have hpl':H pl=none:=by rw [Zc ncp.symm,Zc ncp.symm] at hpl;exact hpl
  refine ⟨_,rfl,c,g.Chains,dx,_,rfl,(by rw [Zc ncp];exact Zb),T.Z9,T.ZV,(by show 2 < 1000;decide),?_⟩
  refine q pl _ hpl' (fun b u e hb=>?_) Zb ?_
  ·rw [Zc hb,Zc (Zd e hpl'),Zc hb,Zc hb];exact e
  ·rw [Zc ncp.symm];exact Zb
def AnsC {α:Type} (g:Gs) (R:Hp→α→V→Prop) (H:Hp) (c pl:Addr) (m:Except Rf (α×Chn)) (Q:VK) (E:XK):Prop:=match m with
 | .ok (x,C)=>∀ v H',But2 c pl H H'→Znh g H' c pl C→R H' x v→Q v H'
 | .error r=>∀ H',But2 c pl H H'→E (.ref (g.xa r)) none H'
def ZKU (g:Gs):Sp:=fun vs H Q E=>∃ c pl C,∃ n:Nat,vs=[.ref c,.int n]∧Znh g H c pl C∧C.free.length≤1000∧AnsC g ZR H c pl (ZDU C n) Q E
theorem Ziw:Zq ["self","many","taken"] ["self","many"] (Zg ZaX):=⟨rfl,rfl,rfl,by decide +kernel,rfl,by decide +kernel,by decide +kernel⟩
theorem Zto (T:Tx K mg g):FnOk P w K mg base (CXE P w) 1 g.Zkc g.ZfP ["self","many"] (ZKU g):=by
 refine T.Zxl.okE Ziw (fun vs H Q E h=>?_) (fun cdv A outer s H vs Q E hr h=>?_)
 ·obtain ⟨c,pl,C,n,rfl,_⟩:=h
  rfl
 ·obtain ⟨c,pl,C,n,rfl,⟨dx,f,o,ko,kp,hC⟩,hz,q⟩:=h
  refine ⟨_,(Ze (ZbK (ZY ZEm (pv 1) (ZC ZM (by rfl) T.ZcH PySem.boot_len (Za (ZJ (pv 0) rfl) Zf)) (ZaN _)) (Zi (Zcl T.ZHg rfl T.ZDb (Za Zo Zf))) ZT)
   (Ze (ZI (i:=2) Ziw.nd rfl (Or.inl rfl) (ZdC Zq4 (ZJ (pv 0) rfl) ZjP (ZeZ (pv 1))))
   (Ze (ZaF (pv 0) (ZdC Zq4 (ZJ (pv 0) rfl) (ZeZ (pv 1)) ZjP) rfl)
   (Zi (ZE (Zcu ZmL rfl T.ZuX PyProof.Rows.Boot.«tuple» (Za (pv 2) Zf))))))),?_⟩
  refine ⟨_,rfl,_,rfl,c,_,dx,_,_,rfl,hC.ob,T.Z9,T.Zar,ZKu _ _ _,f,_,rfl,.inl (SqL.of hC.hf),_,_,rfl,rfl,_,rfl,?_⟩
  rw [List.length_map]
  unfold ZDU at q
  by_cases h1:C.free.length < n
  ·rw [if_pos h1] at q
   rw [decide_eq_true (show (C.free.length:Int) < (n:Int) by omega)]
   exact iteT ⟨szl 1,q _ But2.refl⟩
  ·rw [if_neg h1] at q
   rw [decide_eq_false (show ¬ (C.free.length:Int) < (n:Int) by omega)]
   refine iteF ?_
   refine ⟨_,rfl,c,_,dx,_,_,rfl,hC.ob,T.Z9,T.Zar,ZKu _ _ _,_,rfl,_,rfl,f,_,rfl,SqL.of hC.hf,fun a ha=>?_⟩
   rw [ZGU] at *
   have s1:=Zk (o:=.lst ((C.free.take n).map V.int)) ha
   refine ⟨_,rfl,c,_,dx,_,_,rfl,s1 _ _ hC.ob,T.Z9,T.Zar,ZKu _ _ _,_,rfl,_,rfl,f,_,rfl,SqL.of (s1 _ _ hC.hf),fun b hb=>?_⟩
   rw [ZzF] at *
   have s2:=Zk (o:=.lst ((C.free.drop n).map V.int)) hb
   have sA:=s1.trans s2
   have ncb:c≠b:=Zd (s1 _ _ hC.ob) hb
   have nca:c≠a:=Zd hC.ob ha
   refine ⟨_,rfl,c,_,dx,_,rfl,sA _ _ hC.ob,T.Z9,T.Zar,(by rw [ZG1];show 3 < 1000;decide),?_⟩
   rw [ZKt]
   refine ⟨_,rfl,a,_,rfl,.inl ⟨SqL.of (by rw [Zc nca.symm];exact s2 _ _ Zb),fun d hd=>?_⟩⟩
   have kp1:∀ x u,H x=some u→x≠c→(upd (upd (upd (upd H a (.lst ((C.free.take n).map V.int))) b (.lst ((C.free.drop n).map V.int))) c (.ins g.Chains dx (cfl (.ref b) (.ref o) (.ref pl)))) d (.tup ((C.free.take n).map V.int))) x=some u:=fun x u e hx=>by
    have h1:(upd (upd (upd H a (.lst ((C.free.take n).map V.int))) b (.lst ((C.free.drop n).map V.int))) c (.ins g.Chains dx (cfl (.ref b) (.ref o) (.ref pl)))) x=some u:=by rw [Zc hx];exact sA _ _ e
    exact Zk hd _ _ h1
   have noc:o≠c:=ZP hC.ho hC.ob (by intro z;cases z)
   have npc:pl≠c:=ZP hC.hp hC.ob (by intro z;cases z)
   have ncd:c≠d:=Zd (H:=upd (upd (upd H a (.lst ((C.free.take n).map V.int))) b (.lst ((C.free.drop n).map V.int))) c (.ins g.Chains dx (cfl (.ref b) (.ref o) (.ref pl)))) Zb hd
   have nbd:b≠d:=Zd (H:=upd (upd (upd H a (.lst ((C.free.take n).map V.int))) b (.lst ((C.free.drop n).map V.int))) c (.ins g.Chains dx (cfl (.ref b) (.ref o) (.ref pl)))) (by rw [Zc ncb.symm];exact Zb) hd
   have rows:∀ {xs:Zbd} {kv:List (List Key×V)},ZX rKey ZR H xs kv→ZX rKey ZR (upd (upd (upd (upd H a (.lst ((C.free.take n).map V.int))) b (.lst ((C.free.drop n).map V.int))) c (.ins g.Chains dx (cfl (.ref b) (.ref o) (.ref pl)))) d (.tup ((C.free.take n).map V.int))) xs kv:=by
    intro xs kv hh
    unfold ZX at *
    induction hh with
    | nil=>exact .nil
    | cons a1 _ ih=>
     obtain ⟨e1,t,e2,ht⟩:=a1
     exact .cons ⟨e1,t,e2,kp1 _ _ ht (ZP ht hC.ob (by intro z;cases z))⟩ ih
   refine q _ _ (fun x u e h1 _=>kp1 x u e h1) ⟨dx,b,o,ko,kp,?_,?_,kp1 _ _ hC.ho noc,kp1 _ _ hC.hp npc,rows hC.ro,rows hC.rp,hC.ne⟩ ⟨d,rfl,Zb⟩
   ·rw [Zc ncd];exact Zb
   ·rw [Zc nbd,Zc ncb.symm];exact Zb
theorem ZzB {H:Hp} {a t:Addr} {kvs:List (List Key×V)} {row:Row} (e:H a=some (.dT kvs)) (ht:H t=some (.tup (row.map V.int))):DGet H a (.ref t) (valV kvs (rKey row)):=DGet.t e (by rw [Zre];exact ht)
theorem ZDv {ns:Row} (h:ns≠[]):atI (ns.map V.int) 0=some (.int (ns.headD 0)):=by
 cases ns with
 | nil=>exact absurd rfl h
 | cons n r=>exact Zz3 (by decide) rfl
theorem Zh3 {κ α:Type} [DecidableEq κ] {k:κ} {x:α}:∀ {xs:List (κ×α)},getA xs k=some x→(k,x)∈xs
 | p::r,h=>by
  by_cases z:p.1=k
  ·rw [ZaG z] at h
   cases h
   rw [← z]
   exact List.mem_cons_self
  ·rw [ZaH z] at h
   exact List.mem_cons_of_mem _ (Zh3 h)
theorem len0 (row:Row):decide (V.int ((row.map V.int).length:Int)=V.int 0)=decide (row=[]):=by
 rw [List.length_map]
 cases row with
 | nil=>rfl
 | cons a r=>
  rw [decide_eq_false (by intro z;injection z with z;rw [List.length_cons] at z;omega),decide_eq_false (by intro z;cases z)]
def ZKW (g:Gs):Sp:=fun vs H Q E=>∃ c pl C row v,vs=[.ref c,v]∧ZR H row v∧Znh g H c pl C∧ZCJ C∧C.free.length≤1000∧C.places.length≤1000∧row.length≤100000∧AnsC g ZKz H c pl (putC C row) Q E
theorem ZvJ:Zq ["self","row"] ["self","row"] (Zg ZbE):=⟨rfl,rfl,rfl,by decide +kernel,rfl,by decide +kernel,by decide +kernel⟩
theorem Zlo (T:Tx K mg g):FnOk P w K mg base (CXE P w) 2 g.Zoq g.ZhV ["self","row"] (ZKW g):=by
 refine T.ZAB.okE ZvJ (fun vs H Q E h=>?_) (fun cdv A outer s H vs Q E hr h=>?_)
 ·obtain ⟨c,pl,C,row,v,rfl,_⟩:=h
  rfl
 ·obtain ⟨c,pl,C,row,v,rfl,⟨t,rfl,ht⟩,hCC,ok,hz1,hz2,hz3,q⟩:=h
  obtain ⟨dx,f,o,ko,kp,hC⟩:=id hCC
  have hu:=u1 hr.units
  refine ⟨_,(Ze (ZbK (ZY ZBu (ZC ZM (by rfl) T.ZcH PySem.boot_len (Za (pv 1) Zf)) Zn (ZaN _)) (Zi (ZE (ZF (v:=.int 0) rfl T.Zh4 ⟨_,rfl⟩))) ZT)
   (Ze (ZbK (ZfT (Zet hu (pv 1) (ZJ (pv 0) rfl))) (Zi (Zrj hu (ZJ (pv 0) rfl) (pv 1) (ZHM (ZfT (Zyu hu (pv 1) (ZJ (pv 0) rfl))) (Zdd hu (ZJ (pv 0) rfl) (pv 1) (fun _ _=>rfl)) (ZbO (pv 0) T.Z9 T.ZwU (Zto T) hr.dn T.Zw6 .nil Zh (Za (Zx (ZvS T) hr.dn rfl T.Zy6 T.Zqk.kp T.ZzW .nil Zh (Za (ZC ZM (by rfl) T.ZcH PySem.boot_len (Za (pv 1) Zf)) Zf)) Zf))) rfl)) ZT)
   (Zi (ZE (ZjQ ZLE (Zdd hu (ZJ (pv 0) rfl) (pv 1) (fun _ _=>rfl)) Zn (fun _ _=>rfl)))))),?_⟩
  refine ⟨_,rfl,t,_,rfl,.inr (SqT.of ht),rfl,_,rfl,?_⟩
  rw [len0]
  unfold putC at q
  by_cases h0:row=[]
  ·rw [if_pos h0] at q
   rw [decide_eq_true h0]
   exact iteT (q _ _ But2.refl hCC rfl)
  ·rw [if_neg h0] at q
   rw [decide_eq_false h0]
   refine iteF ?_
   refine ⟨_,rfl,_,rfl,c,_,dx,_,_,rfl,hC.ob,T.Z9,T.ZV,ZGZ _ _ _,pl,_,rfl,ZzB hC.hp ht,_,rfl,?_⟩
   have ntc:t≠c:=ZP ht hC.ob (by intro z;cases z)
   have ntp:t≠pl:=ZP ht hC.hp (by intro z;cases z)
   -- the end: what stands at the row is told
   cases hg:getA C.places row with
   | some ns=>
    rw [hg] at q
    obtain ⟨v,hv,⟨t2,rfl,ht2⟩⟩:=hC.rp.yes ZhY hg
    rw [hv]
    refine iteF ?_
    refine ⟨_,rfl,c,_,dx,_,_,rfl,hC.ob,T.Z9,T.ZV,ZGZ _ _ _,_,rfl,pl,_,rfl,(by have:=ZzB hC.hp ht;rw [hv] at this;exact this),t2,_,_,_,rfl,rfl,SqT.of ht2,ZDv (ok.p _ (Zh3 hg)),?_⟩
    exact q _ _ But2.refl hCC rfl
   | none=>
    rw [hg] at q
    dsimp only at q
    rw [hC.rp.no ZhY hg]
    refine iteT ?_
    -- storing ns,and telling its first
    have fin:∀ (C':Chn) (ns:Row) (H1:Hp) (u:V),But2 c pl H H1→Znh g H1 c pl C'→C'.places=C.places→ZR H1 ns u→ns≠[]→(∀ v H',But2 c pl H H'→Znh g H' c pl {C' with places:=putA C'.places row ns}→v=.int (ns.headD 0)→Q v H')→
      ∃ a C0 dx0 fs0 v0,V.ref c=.ref a∧H1 a=some (.ins C0 dx0 fs0)∧Cls K C0∧Zaw K C0 "places"∧fs0.lookup ("places":Str)=some v0∧∃ a2 H4,v0=.ref a2∧DPut H1 a2 (.ref t) u H4∧
       ∃ a C0 dx0 fs0 v0,V.ref c=.ref a∧H4 a=some (.ins C0 dx0 fs0)∧Cls K C0∧Zaw K C0 "places"∧fs0.lookup ("places":Str)=some v0∧∃ a3 v3,v0=.ref a3∧DGet H4 a3 (.ref t) (some v3)∧∃ p xs i z,v3=.ref p∧V.int 0=.int i∧SqT K H4 p xs∧atI xs i=some z∧Q z H4:=by
     intro C' ns H1 u b1 hC1 ep hu1 hne qq
     obtain ⟨dx1,f1,o1,ko1,kp1,h1⟩:=id hC1
     obtain ⟨t2,rfl,ht2⟩:=hu1
     have ht1:H1 t=some (.tup (row.map V.int)):=b1 _ _ ht ntc ntp
     have hgn:getA C'.places row=none:=by rw [ep];exact hg
     have npc:c≠pl:=ZP h1.ob h1.hp (by intro z;cases z)
     have nt2:t2≠pl:=ZP ht2 h1.hp (by intro z;cases z)
     have nfp:f1≠pl:=ZP h1.hf h1.hp (by intro z;cases z)
     have k4:But2 c pl H1 (upd H1 pl (.dT (putK kp1 (rKey row) (.ref t2)))):=fun d o e _ h2=>by rw [Zc h2];exact e
     have rows:∀ {xs:Zbd} {kv:List (List Key×V)},ZX rKey ZR H1 xs kv→ZX rKey ZR (upd H1 pl (.dT (putK kp1 (rKey row) (.ref t2)))) xs kv:=by
      intro xs kv hh
      unfold ZX at *
      induction hh with
      | nil=>exact .nil
      | cons a1 _ ih=>
       obtain ⟨e1,t',e2,ht'⟩:=a1
       exact .cons ⟨e1,t',e2,by rw [Zc (ZP ht' h1.hp (by intro z;cases z))];exact ht'⟩ ih
     have hC4:Znh g (upd H1 pl (.dT (putK kp1 (rKey row) (.ref t2)))) c pl {C' with places:=putA C'.places row ns}:=⟨dx1,f1,o1,ko1,_,by rw [Zc npc];exact h1.ob,by rw [Zc nfp];exact h1.hf,by rw [Zc h1.ne];exact h1.ho,Zb,rows h1.ro,(rows h1.rp).put ZhY ⟨t2,rfl,by rw [Zc nt2];exact ht2⟩,h1.ne⟩
     refine ⟨c,_,dx1,_,_,rfl,h1.ob,T.Z9,T.ZV,ZGZ _ _ _,pl,_,rfl,DPut.t (k:=rKey row) h1.hp (by rw [Zre];exact ht1) (lt_size (by rw [h1.rp.len,ep];omega)),?_⟩
     refine ⟨c,_,dx1,_,_,rfl,(by rw [Zc npc];exact h1.ob),T.Z9,T.ZV,ZGZ _ _ _,pl,.ref t2,rfl,(by
      have:=ZzB (H:=upd H1 pl (.dT (putK kp1 (rKey row) (.ref t2)))) (a:=pl) (t:=t) (row:=row) Zb (by rw [Zc ntp];exact ht1)
      rw [ZCM,if_pos rfl] at this
      exact this),t2,_,_,_,rfl,rfl,SqT.of (by rw [Zc nt2];exact ht2),ZDv hne,?_⟩
     exact qq _ _ (b1.trans k4) hC4 rfl
    refine ⟨_,rfl,_,rfl,c,_,dx,_,_,rfl,hC.ob,T.Z9,T.Za7,ZLU _ _ _,o,_,rfl,ZzB hC.ho ht,_,rfl,?_⟩
    cases hg2:getA C.older row with
    | some ns=>
     rw [hg2] at q
     obtain ⟨v,hv,hr2⟩:=hC.ro.yes ZhY hg2
     rw [hv]
     refine iteT ?_
     refine ⟨_,rfl,c,_,dx,_,_,rfl,hC.ob,T.Z9,T.Za7,ZLU _ _ _,_,rfl,o,v,rfl,(by have:=ZzB hC.ho ht;rw [hv] at this;exact this),?_⟩
     obtain ⟨a1,C1,dx1,fs1,v1,e1,e2,e3,e4,e5,a2,H4,e6,e7,a3,C3,dx3,fs3,v3,e8,e9,e10,e11,e12,rest⟩:=fin C ns H v But2.refl hCC rfl hr2 (ok.o _ (Zh3 hg2)) (fun v H' b h e=>q v H' b h e)
     refine ⟨_,rfl,a1,C1,dx1,fs1,v1,e1,e2,e3,e4,e5,_,rfl,a2,H4,e6,e7,_,rfl,a3,C3,dx3,fs3,v3,e8,e9,e10,e11,e12,_,rfl,rest⟩
    | none=>
     rw [hg2] at q
     dsimp only at q
     rw [hC.ro.no ZhY hg2]
     refine iteF ?_
     refine ⟨_,rfl,c,dx,_,rfl,hC.ob,ZG0 _ _ _ (by decide +kernel) (by decide +kernel) (by decide +kernel),_,rfl,t,_,rfl,.inr (SqT.of ht),_,rfl,?_⟩
     have hbl:((((row.map V.int).length:Nat):Int) + 62) / 63=(((row.length + 62) / 63:Nat):Int):=by rw [List.length_map];omega
     rw [hbl]
     refine ⟨c,pl,C,_,rfl,hCC,hz1,?_⟩
     cases htk:ZDU C ((row.length + 62) / 63) with
     | error r=>
      rw [htk] at q
      exact fun H' b=>q H' b
     | ok pr=>
      obtain ⟨ns,C'⟩:=pr
      rw [htk] at q
      dsimp only at q
      intro u H1 b1 hC1 hu1
      have hC':C'.places=C.places∧ns≠[]:=by
       unfold ZDU at htk
       split at htk
       ·cases htk
       ·rename_i hlt
        cases htk
        refine ⟨rfl,fun z=>?_⟩
        have hl:(C.free.take ((row.length + 62) / 63)).length=0:=by rw [z];rfl
        rw [List.length_take] at hl
        have hrow:1≤row.length:=List.length_pos_iff.mpr h0
        omega
      obtain ⟨a1,C1,dx1,fs1,v1,e1,e2,e3,e4,e5,a2,H4,e6,e7,a3,C3,dx3,fs3,v3,e8,e9,e10,e11,e12,rest⟩:=fin C' ns H1 u b1 hC1 hC'.1 hu1 hC'.2 (fun v H' b h e=>q v H' b h e)
      refine ⟨_,rfl,a1,C1,dx1,fs1,v1,e1,e2,e3,e4,e5,_,rfl,a2,H4,e6,e7,_,rfl,a3,C3,dx3,fs3,v3,e8,e9,e10,e11,e12,_,rfl,rest⟩
end
end KS
namespace KS
open PySem L2
def ZeU (S:Sta) (n:Int):Int×Row:=match getA S.dat n with
 | some r=>(1,r)
 | none=>(2,ZeG ((getA S.ent n).getD []))
def ZIC (n:Int) (t:Int×Row) (i:Int):Row:=[n,t.1,(t.2.length:Int) / 256,(t.2.length:Int) % 256,i]
def tabF (S:Sta):List Int→Row→Chn→Except Rf (Row×Chn)
 | [],t,C=>.ok (t,C)
 | n::ns,t,C=>match putC C (ZeU S n).2 with
  | .error r=>.error r
  | .ok (i,C')=>tabF S ns (t++ZIC n (ZeU S n) i) C'
theorem ZFe (S:Sta) (t:Row) (C:Chn):tabF S [] t C=.ok (t,C):=rfl
theorem ZCV (S:Sta) (n:Int) (ns:List Int) (t:Row) (C:Chn):tabF S (n::ns) t C=match putC C (ZeU S n).2 with
  | .error r=>.error r
  | .ok (i,C')=>tabF S ns (t++ZIC n (ZeU S n) i) C':=rfl
def ZwT (S:Sta) (C:Chn):Except Rf (Row×Chn):=match tabF S (ZaB S) [] C with
 | .error r=>.error r
 | .ok (t,C')=>match putC C' t with
  | .error r=>.error r
  | .ok (i,C'')=>.ok ([((ZaB S).length:Int),i],C'')
structure Zoi (S:Sta):Prop where
 n:S.dat.length + S.ent.length < 64
 row:∀ n r,getA S.dat n=some r→r.length≤1000
 ent:∀ n es,getA S.ent n=some es→es.length < 64∧Zxh es
theorem ZC3 {κ α:Type} [DecidableEq κ] {xs:List (κ×α)} {k:κ} {x:α} {p:κ×α} (h:p∈putA xs k x):p∈xs∨p.2=x:=by
 unfold putA at h
 split at h
 ·obtain ⟨q,hq,e⟩:=List.mem_map.mp h
  split at e
  ·right;rw [← e]
  ·left;rw [← e];exact hq
 ·rcases List.mem_append.mp h with h | h
  ·exact .inl h
  ·right;rw [List.mem_singleton.mp h]
structure ZEY (C C':Chn) (k:Nat):Prop where
 ok:ZCJ C'
 fr:C'.free.length≤C.free.length
 pl:C'.places.length≤C.places.length + k
 old:C'.older=C.older
theorem ZBr {C C':Chn} {row:Row} {i:Int} (h:putC C row=.ok (i,C')) (ok:ZCJ C):ZEY C C' 1:=by
 unfold putC at h
 split at h
 ·cases h;exact ⟨ok,Nat.le_refl _,Nat.le_succ _,rfl⟩
 ·rename_i h0
  split at h
  ·cases h;exact ⟨ok,Nat.le_refl _,Nat.le_succ _,rfl⟩
  ·split at h
   ·rename_i ns hg
    cases h
    refine ⟨⟨ok.o,fun p hp=>?_⟩,Nat.le_refl _,ZqG _ _ _,rfl⟩
    rcases ZC3 hp with hp | hp
    ·exact ok.p p hp
    ·rw [hp];exact ok.o _ (Zh3 hg)
   ·split at h
    ·cases h
    ·rename_i ns C1 htk
     cases h
     unfold ZDU at htk
     split at htk
     ·cases htk
     ·rename_i hlt
      cases htk
      refine ⟨⟨ok.o,fun p hp=>?_⟩,by show (C.free.drop _).length≤_;rw [List.length_drop];omega,ZqG _ _ _,rfl⟩
      rcases ZC3 hp with hp | hp
      ·exact ok.p p hp
      ·rw [hp]
       intro z
       have hl:(C.free.take ((row.length + 62) / 63)).length=0:=by rw [z];rfl
       rw [List.length_take] at hl
       have hrow:1≤row.length:=List.length_pos_iff.mpr h0
       omega
section
variable {P:Program} {w:World} {K:PySem.W.Frag} {mg:Str→Option Value} {base:Heap} {g:Gs}
theorem ZtK {es:Ents} (h:Zxh es) (hl:(Zc8 es).length≤64):(ZeG es).length≤1000:=by
 unfold ZeG
 rw [ZwX es h (Zc8 es) fun q hq=>Zq2 es q hq]
 omega
theorem ZqI {κ α:Type} [DecidableEq κ] {k:κ}:∀ {xs:List (κ×α)},getA xs k=none→¬ k∈xs.map (·.1)
 | [],_=>by simp
 | p::r,h=>by
  by_cases z:p.1=k
  ·rw [ZaG z] at h;cases h
  ·rw [ZaH z] at h
   rw [List.map_cons]
   intro hm
   rcases List.mem_cons.mp hm with e | hm
   ·exact z e.symm
   ·exact ZqI h hm
theorem Zh2 {α:Type} (es:List α) (d:α):(List.range es.length).map (fun i=>es.getD i d)=es:=by
 apply List.ext_getElem
 ·rw [List.length_map,List.length_range]
 ·intro i h1 h2
  rw [List.getElem_map,List.getElem_range,List.getD_eq_getElem?_getD,List.getElem?_eq_getElem h2]
  rfl
theorem ZD2 (es:Ents):(Zc8 es).Perm es:=by
 unfold Zc8
 split
 ·exact .refl _
 ·rename_i h2
  have low:Low es.length _:=Zcd (fun i j=>ZqA (es.getD i (Str.empty,0)) (es.getD j (Str.empty,0))) (ZeP (n:=es.length) (by omega))
  have p1:(Z3 (fun i j=>ZqA (es.getD i (Str.empty,0)) (es.getD j (Str.empty,0))) (PySem.W.kas_sort es.length)).toList.Perm (List.range es.length):=by
   have:=low.toList
   simpa using this
  have p2:=p1.map fun i=>es.getD i (Str.empty,0)
  rw [Zh2] at p2
  exact p2
theorem ZHs (es:Ents) (h:es.length < 64):(Zc8 es).length≤64:=by
 rw [(ZD2 es).length_eq]
 omega
def ZKZ (g:Gs):Sp:=fun vs H Q E=>∃ v S c pl C H0,vs=[v,.ref c]∧Same H0 H∧H0 c=none∧H0 pl=none∧ZS g H0 S v∧Zoi S∧Znh g H c pl C∧ZCJ C∧C.free.length≤1000∧C.places.length≤900∧AnsC g ZR H c pl (ZwT S C) Q E
theorem Z7:Zq ["state","chains","table","number","kind","row"] ["state","chains"] (Zg Zbo):=⟨rfl,rfl,rfl,by decide +kernel,rfl,by decide +kernel,by decide +kernel⟩
theorem Zlk (T:Tx K mg g):FnOk P w K mg base (CXE P w) 3 g.Znp g.Zgh ["state","chains"] (ZKZ g):=by
 refine T.ZhO.okE Z7 (fun vs H Q E h=>?_) (fun cdv A outer s H vs Q E hr h=>?_)
 ·obtain ⟨v,S,c,pl,C,H0,rfl,_⟩:=h
  rfl
 ·obtain ⟨v,S,c,pl,C,H0,rfl,s0,n1,n2,hS,so,hC,ok,hz1,hz2,q⟩:=h
  have hu:=u1 hr.units
  refine ⟨_,(Ze (ZI (i:=2) Z7.nd rfl (Or.inl rfl) (ZaM Zf))
   (Ze (Zdc PassesOwn.leaving rfl (Ze0 (Zx (ZiF T) hr.dn rfl T.Zlv T.ZfO.kp T.ZmT .nil Zh (Za (pv 0) Zf))) (ZQ (i:=3) Z7.nd rfl (Or.inl rfl)) (Ze (ZbK (ZfT (Zyu hu (pv 3) (ZJ (pv 0) rfl))) (Ze (ZI (i:=4) Z7.nd rfl (Or.inl rfl) (ZF (v:=.int 1) rfl T.ZjV ⟨_,rfl⟩))
   (Zi (ZI (i:=5) Z7.nd rfl (Or.inl rfl) (Zdd hu (ZJ (pv 0) rfl) (pv 3) (fun _ _=>rfl))))) (Ze (ZI (i:=4) Z7.nd rfl (Or.inl rfl) (ZF (v:=.int 2) rfl T.ZcK ⟨_,rfl⟩))
   (Zi (ZI (i:=5) Z7.nd rfl (Or.inl rfl) (Zx (Ztl T) hr.dn rfl T.ZwJ T.Znj.kp T.Zw3 .nil Zh (Za (Zdd hu (ZJ (pv 0) rfl) (pv 3) (fun _ _=>rfl)) Zf))))))
   (Zi (ZI (i:=2) Z7.nd rfl (Or.inl rfl) (ZD Zcb (pv 2) (ZaM (Za (pv 3) (Za (pv 4) (Za (ZD ZcI (ZC ZM (by rfl) T.ZcH PySem.boot_len (Za (pv 5) Zf)) Zn) (Za (ZD Zb0 (ZC ZM (by rfl) T.ZcH PySem.boot_len (Za (pv 5) Zf)) Zn) (Za (ZbO (pv 1) T.Z9 T.Zpr (Zlo T) hr.dn T.Zp7 .nil Zh (Za (pv 5) Zf)) Zf)))))))))))
   (Zi (ZE (ZaM (Za (ZC ZM (by rfl) T.ZcH PySem.boot_len (Za (Zx (ZiF T) hr.dn rfl T.Zlv T.ZfO.kp T.ZmT .nil Zh (Za (pv 0) Zf)) Zf)) (Za (ZbO (pv 1) T.Z9 T.Zpr (Zlo T) hr.dn T.Zp7 .nil Zh (Za (pv 2) Zf)) Zf))))))),?_⟩
  refine ⟨Nat.zero_le _,fun a ha=>?_⟩
  have s1:=Zk (o:=.tup []) ha
  refine ⟨_,rfl,v,S,rfl,ZS.mono _ _ _ _ (s0.trans s1) hS,so.n,fun l H1 s2 hl=>?_⟩
  refine ⟨l,rfl,⟨_,SqL.of hl⟩,?_⟩
  have hns:(ZaB S).length < 64:=by
   unfold ZaB
   rw [(Zer _).length_eq,List.length_append,List.length_map,List.length_map]
   exact so.n
  unfold ZwT at q
  generalize hnse:ZaB S=ns at q hl hns
  have sB:=s1.trans s2
  refine Zh5 (xs:=ns.map V.int) (fun i σ H'=>∃ t tab C',(∃ o3 o4 o5,σ=[some v,some (.ref c),some (.ref t),o3,o4,o5])∧H' t=some (.tup (tab.map V.int))∧H' l=some (.lst (ns.map V.int))∧But2 c pl H H'∧Znh g H' c pl C'∧ZEY C C' i∧tab.length=5 * i∧tabF S ns [] C=tabF S (ns.drop i) tab C')
   ⟨a,[],C,⟨none,none,none,rfl⟩,s2 _ _ Zb,hl,But2.of sB,hC.same sB,⟨ok,Nat.le_refl _,Nat.le_refl _,rfl⟩,rfl,rfl⟩ (fun i σ H' _ h=>?_) (fun i x σ H' hx h=>?_) (fun σ H' h=>?_)
  ·obtain ⟨t,tab,C',_,_,hl',_⟩:=h
   exact SqL.of hl'
  ·obtain ⟨t,tab,C',⟨o3,o4,o5,rfl⟩,ht,hl',b1,hC',gr,htl,hw⟩:=h
   rw [List.getElem?_map] at hx
   cases hn:ns[i]? with
   | none=>rw [hn] at hx;cases hx
   | some n=>
    rw [hn] at hx
    cases hx
    have hi:i < ns.length:=(List.getElem?_eq_some_iff.mp hn).1
    have hdr:ns.drop i=n::ns.drop (i + 1):=by
     rw [List.drop_eq_getElem_cons hi]
     rw [(List.getElem?_eq_some_iff.mp hn).2]
    rw [hdr,ZCV] at hw
    have sB':Same H0 H':=But2.base s0 n1 n2 b1
    obtain ⟨p,dx,da,ea,dk,ek,rfl,hP⟩:=ZS.mono _ _ _ _ sB' hS
    -- behind the choice of the row
    have fin:∀ (H2:Hp) (u:V),But2 c pl H H2→Same H' H2→ZR H2 (ZeU S n).2 u→(ZeU S n).2.length≤1000→∀ (N:St→Hp→Prop),(∀ t2 tab2 C2 o3 o4 o5 H3,H3 t2=some (.tup (tab2.map V.int))→H3 l=some (.lst (ns.map V.int))→But2 c pl H H3→Znh g H3 c pl C2→ZEY C C2 (i + 1)→tab2.length=5 * (i + 1)→tabF S ns [] C=tabF S (ns.drop (i + 1)) tab2 C2→N [some (.ref p),some (.ref c),some (.ref t2),o3,o4,o5] H3)→
      ∀ σ2,σ2=[some (.ref p),some (.ref c),some (.ref t),some (.int n),some (.int (ZeU S n).1),some u]→
      tAsg (tOp (ZLb K) (tVar 2) (tTup (Zib (tVar 3) (Zib (tVar 4) (Zib (tOp (rI CDiv fun i j=>.int (i / j)) (tCB (fun xs H Q=>∃ p ys,xs=[V.ref p]∧(SqL K H p ys∨SqT K H p ys)∧Q (.int ys.length) H) (Zib (tVar 5) tNil)) (tC (.int 256))) (Zib (tOp (rI (fun _ j=>0 < j) fun i j=>.int (i % j)) (tCB (fun xs H Q=>∃ p ys,xs=[V.ref p]∧(SqL K H p ys∨SqT K H p ys)∧Q (.int ys.length) H) (Zib (tVar 5) tNil)) (tC (.int 256))) (Zib (ZJp g.Chains "put" (ZKW g) [] (fun _=>E) (tVar 1) (Zib (tVar 5) tNil)) tNil))))))) (ZEF 2) {nx:=N,rt:=Q,bk:=fun _ _=>True,ct:=N} σ2 H2:=by
     intro H2 u b2 s2' hu2 hlen N hN σ2 e2
     subst e2
     obtain ⟨t5,rfl,ht5⟩:=hu2
     have hC2:=hC'.same s2'
     obtain ⟨dx2,f2,o2,ko2,kp2,h2⟩:=id hC2
     refine ⟨_,rfl,_,rfl,_,rfl,_,rfl,t5,_,rfl,.inr (SqT.of ht5),_,_,rfl,rfl,⟨by decide,by decide⟩,_,rfl,t5,_,rfl,.inr (SqT.of ht5),_,_,rfl,rfl,(by show (0:Int) < 256;decide),_,rfl,c,dx2,_,rfl,h2.ob,ZG0 _ _ _ (by decide +kernel) (by decide +kernel) (by decide +kernel),_,rfl,?_⟩
     refine ⟨c,pl,C',_,_,rfl,⟨t5,rfl,ht5⟩,hC2,gr.ok,Nat.le_trans gr.fr hz1,(by have:=gr.pl;omega),by omega,?_⟩
     cases hpc:putC C' (ZeU S n).2 with
     | error r=>
      rw [hpc] at hw
      rw [hw] at q
      exact fun H3 b3=>q H3 (b2.trans b3)
     | ok pr=>
      obtain ⟨j,C2⟩:=pr
      rw [hpc] at hw
      dsimp only at hw
      intro vj H3 b3 hC3 ej
      cases ej
      have g1:=ZBr hpc gr.ok
      refine ⟨szl 5,fun e he=>?_⟩
      have s4:=Zk (o:=.tup [.int n,.int (ZeU S n).1,.int (((((ZeU S n).2.map V.int).length:Nat):Int) / 256),.int (((((ZeU S n).2.map V.int).length:Nat):Int) % 256),.int j]) he
      have ht3:H3 t=some (.tup (tab.map V.int)):=b3 _ _ (s2' _ _ ht) (ZP (s2' _ _ ht) h2.ob (by intro z;cases z)) (ZP (s2' _ _ ht) h2.hp (by intro z;cases z))
      have hl3:H3 l=some (.lst (ns.map V.int)):=b3 _ _ (s2' _ _ hl') (ZP (s2' _ _ hl') h2.ob (by intro z;cases z)) (ZP (s2' _ _ hl') h2.hp (by intro z;cases z))
      refine ⟨t,e,_,_,rfl,rfl,SqT.of (s4 _ _ ht3),SqT.of Zb,fun _=>Zb,(fun z=>nomatch z),?_,fun d H4 s5 hd=>?_⟩
      ·rw [List.length_map,htl];exact Zw (m:=1000) (by show 5 * i + 5≤1000;omega) (by decide)
      refine hN d (tab++ZIC n (ZeU S n) j) C2 _ _ _ H4 ?_ (s5 _ _ (s4 _ _ hl3)) (b2.trans (b3.trans (But2.of (s4.trans s5)))) (hC3.same (s4.trans s5)) ⟨g1.ok,Nat.le_trans g1.fr gr.fr,by have:=g1.pl;have:=gr.pl;omega,g1.old.trans gr.old⟩ ?_ hw
      ·rw [hd,List.map_append]
       unfold ZIC
       rw [List.length_map]
       rfl
      ·rw [List.length_append,htl];rfl
    refine ⟨_,rfl,_,rfl,p,_,dx,_,_,rfl,hP.ob,T.ZaC,T.Z8,Zyh _ _,da,_,rfl,DGet.k hP.hd (k:=.inl n),_,rfl,?_⟩
    rw [hP.rd.some ZbS]
    cases hg:getA S.dat n with
    | some r=>
     have eth:ZeU S n=(1,r):=by unfold ZeU;rw [hg]
     refine iteT ?_
     obtain ⟨vr,hv,hr1⟩:=hP.rd.yes ZbS hg
     refine ⟨_,rfl,p,_,dx,_,_,rfl,hP.ob,T.ZaC,T.Z8,Zyh _ _,_,rfl,da,vr,rfl,(by have:=DGet.k hP.hd (k:=.inl n);rw [hv] at this;exact this),?_⟩
     exact fin H' vr b1 (Same.refl _) (by rw [eth];exact hr1) (by rw [eth];exact so.row n r hg) _ (fun t2 tab2 C2 o3 o4 o5 H3 a1 a2 a3 a4 a5 a6 a7=>⟨t2,tab2,C2,⟨o3,o4,o5,rfl⟩,a1,a2,a3,a4,a5,a6,a7⟩) _ (by rw [eth];rfl)
    | none=>
     refine iteF ?_
     have hen:∃ es,getA S.ent n=some es:=by
      have hmem:n∈S.dat.map (·.1)++S.ent.map (·.1):=by
       have:n∈ns:=List.mem_of_getElem? hn
       rw [← hnse] at this
       exact (Zer _).mem_iff.mp this
      rcases List.mem_append.mp hmem with hm | hm
      ·exact absurd hm (ZqI hg)
      ·cases he:getA S.ent n with
       | none=>exact absurd hm (ZqI he)
       | some es=>exact ⟨es,rfl⟩
     obtain ⟨es,he⟩:=hen
     have eth:ZeU S n=(2,ZeG es):=by unfold ZeU;rw [hg,he];rfl
     obtain ⟨ve,hv,hr1⟩:=hP.re.yes ZbS he
     obtain ⟨hel,hnm⟩:=so.ent n es he
     refine ⟨_,rfl,p,_,dx,_,_,rfl,hP.ob,T.ZaC,T.ZG,Ztc _ _,_,rfl,ea,ve,rfl,(by have:=DGet.k hP.he (k:=.inl n);rw [hv] at this;exact this),ve,es,rfl,hr1,hel,hnm,fun u H2 s3 hu2=>?_⟩
     exact fin H2 u (b1.trans (But2.of s3)) s3 (by rw [eth];exact hu2) (by rw [eth];exact ZtK hnm (ZHs es hel)) _ (fun t2 tab2 C2 o3 o4 o5 H3 a1 a2 a3 a4 a5 a6 a7=>⟨t2,tab2,C2,⟨o3,o4,o5,rfl⟩,a1,a2,a3,a4,a5,a6,a7⟩) _ (by rw [eth];rfl)
  ·obtain ⟨t,tab,C',⟨o3,o4,o5,rfl⟩,ht,hl',b1,hC',gr,htl,hw⟩:=h
   rw [List.length_map,List.drop_length,ZFe] at hw
   rw [List.length_map] at htl gr
   rw [hw] at q
   dsimp only at q
   have sB':Same H0 H':=But2.base s0 n1 n2 b1
   refine ⟨_,rfl,v,S,rfl,ZS.mono _ _ _ _ sB' hS,so.n,fun l2 H2 s3 hl2=>?_⟩
   rw [hnse] at hl2
   have hC2:=hC'.same s3
   obtain ⟨dx2,f2,o2,ko2,kp2,h2⟩:=id hC2
   refine ⟨l2,_,rfl,.inl (SqL.of hl2),_,rfl,c,dx2,_,rfl,h2.ob,ZG0 _ _ _ (by decide +kernel) (by decide +kernel) (by decide +kernel),_,rfl,?_⟩
   refine ⟨c,pl,C',tab,_,rfl,⟨t,rfl,s3 _ _ ht⟩,hC2,gr.ok,Nat.le_trans gr.fr hz1,(by have:=gr.pl;omega),by omega,?_⟩
   cases hpc:putC C' tab with
   | error r=>
    rw [hpc] at q
    exact fun H3 b3=>q H3 (b1.trans ((But2.of s3).trans b3))
   | ok pr=>
    obtain ⟨j,C2⟩:=pr
    rw [hpc] at q
    dsimp only at q
    intro vj H3 b3 hC3 ej
    cases ej
    refine ⟨szl 2,fun e he=>?_⟩
    refine q _ _ (b1.trans ((But2.of s3).trans (b3.trans (But2.of (Zk he))))) (hC3.same (Zk he)) ⟨e,rfl,?_⟩
    rw [Zb,List.length_map]
    rfl
end
end KS
namespace KS
open PySem L2
structure Img where
 places:Zbd
 heads:Row
def ifl (p h:V):List (Str×V):=putF "heads" h (putF "places" p [])
theorem if1:¬ (("places":Str)="heads"):=by decide +kernel
theorem ZKe (p h:V):(ifl p h).lookup ("places":Str)=some p:=by unfold ifl;rw [Zj,if_neg if1,Zj,if_pos rfl]
theorem ZKf (p h:V):(ifl p h).lookup ("heads":Str)=some h:=by unfold ifl;rw [Zj,if_pos rfl]
def Zj9 (g:Gs) (H:Hp) (I:Img) (v:V):Prop:=∃ p dx pl hd,v=.ref p∧H p=some (.ins g.Image dx (ifl pl hd))∧Zip H I.places pl∧ZR H I.heads hd
theorem Zj9.mono {g:Gs}:Mono (Zj9 g):=fun _ _ _ _ s ⟨p,dx,pl,hd,e,h1,h2,h3⟩=>⟨p,dx,pl,hd,e,s _ _ h1,Zip.mono _ _ _ _ s h2,ZR.mono _ _ _ _ s h3⟩
abbrev Kept:=List (Str×Sta)
def ZhJ (g:Gs) (H:Hp) (k:Kept) (v:V):Prop:=∃ a kvs,v=.ref a∧H a=some (.dK kvs)∧ZX Sum.inr (ZS g) H k kvs
theorem ZhJ.mono {g:Gs}:Mono (ZhJ g):=fun _ _ _ _ s ⟨a,kvs,e,h,d⟩=>⟨a,kvs,e,s _ _ h,d.same ZS.mono s⟩
def ZBc (k:Kept):List Str→Row→Chn→Except Rf (Row×Chn)
 | [],h,C=>.ok (h,C)
 | n::ns,h,C=>match getA k n with
  | none=>.error .noThing
  | some S=>match ZwT S C with
   | .error r=>.error r
   | .ok (t,C')=>ZBc k ns (h++ZaO n++t) C'
theorem ZHt (k:Kept) (h:Row) (C:Chn):ZBc k [] h C=.ok (h,C):=rfl
theorem ZFx (k:Kept) (n:Str) (ns:List Str) (h:Row) (C:Chn):ZBc k (n::ns) h C=match getA k n with
  | none=>.error .noThing
  | some S=>match ZwT S C with
   | .error r=>.error r
   | .ok (t,C')=>ZBc k ns (h++ZaO n++t) C':=rfl
def Zfa (S:Sta) (k:Kept) (free:List Int) (older:Zbd):Except Rf Img:=match ZwT S ⟨free,older,[]⟩ with
 | .error r=>.error r
 | .ok (h,C)=>match ZBc k (Zkp (k.map (·.1))) h C with
  | .error r=>.error r
  | .ok (h',C')=>.ok ⟨C'.places,h'⟩
theorem ZFf {S:Sta}:∀ {ns:List Int} {t t':Row} {C C':Chn},tabF S ns t C=.ok (t',C')→ZCJ C→ZEY C C' ns.length∧t'.length=t.length + 5 * ns.length
 | [],t,t',C,C',h,ok=>by rw [ZFe] at h;cases h;exact ⟨⟨ok,Nat.le_refl _,Nat.le_refl _,rfl⟩,rfl⟩
 | n::ns,t,t',C,C',h,ok=>by
  rw [ZCV] at h
  cases hp:putC C (ZeU S n).2 with
  | error r=>rw [hp] at h;cases h
  | ok pr=>
   obtain ⟨i,C1⟩:=pr
   rw [hp] at h
   dsimp only at h
   have g1:=ZBr hp ok
   obtain ⟨g2,l2⟩:=ZFf h g1.ok
   refine ⟨⟨g2.ok,Nat.le_trans g2.fr g1.fr,?_,g2.old.trans g1.old⟩,?_⟩
   ·have:=g1.pl;have:=g2.pl;rw [List.length_cons];omega
   ·rw [l2,List.length_append,List.length_cons]
    show t.length + 5 + _=_
    omega
theorem ZDg {S:Sta} {C C':Chn} {t:Row} (h:ZwT S C=.ok (t,C')) (ok:ZCJ C) (so:Zoi S):ZEY C C' 64∧t.length=2:=by
 unfold ZwT at h
 cases ht:tabF S (ZaB S) [] C with
 | error r=>rw [ht] at h;cases h
 | ok pr=>
  obtain ⟨t1,C1⟩:=pr
  rw [ht] at h
  dsimp only at h
  obtain ⟨g1,l1⟩:=ZFf ht ok
  cases hp:putC C1 t1 with
  | error r=>rw [hp] at h;cases h
  | ok pr=>
   obtain ⟨i,C2⟩:=pr
   rw [hp] at h
   cases h
   have g2:=ZBr hp g1.ok
   have hns:(ZaB S).length < 64:=by
    unfold ZaB
    rw [(Zer _).length_eq,List.length_append,List.length_map,List.length_map]
    exact so.n
   refine ⟨⟨g2.ok,Nat.le_trans g2.fr g1.fr,?_,g2.old.trans g1.old⟩,rfl⟩
   have:=g1.pl;have:=g2.pl;omega
structure ZAq (k:Kept):Prop where
 n:k.length≤3
 nm:∀ n S,getA k n=some S→ZZ n=true∧Zoi S
theorem Zt1 (ns:List Str):(Zkp ns).Perm ns:=by
 unfold Zkp
 split
 ·exact .refl _
 ·rename_i h2
  have low:Low ns.length _:=Zcd (fun i j=>decide ((ns.getD i Str.empty).cps.toList < (ns.getD j Str.empty).cps.toList)) (ZeP (n:=ns.length) (by omega))
  have p1:(Z3 (fun i j=>decide ((ns.getD i Str.empty).cps.toList < (ns.getD j Str.empty).cps.toList)) (PySem.W.kas_sort ns.length)).toList.Perm (List.range ns.length):=by
   have:=low.toList
   simpa using this
  have p2:=p1.map fun i=>ns.getD i Str.empty
  rw [Zh2] at p2
  exact p2
theorem ZX.keysS {α:Type} {R:Hp→α→V→Prop} {H:Hp} {xs:List (Str×α)} {kvs:List (Key×V)} (h:ZX Sum.inr R H xs kvs):kvs.map (·.1)=(xs.map (·.1)).map Sum.inr:=by
 unfold ZX at h
 induction h with
 | nil=>rfl
 | cons a _ ih=>rw [List.map_cons,List.map_cons,List.map_cons,ih,a.1]
section
variable {P:Program} {w:World} {K:PySem.W.Frag} {mg:Str→Option Value} {base:Heap} {g:Gs}
def ZFp (g:Gs):Sp:=fun vs H Q _=>∃ p dx d e,vs=[.ref p,d,e]∧H p=some (.ins g.Image dx [])∧∀ H',(∀ b o,H b=some o→b≠p→H' b=some o)→H' p=some (.ins g.Image dx (ifl d e))→Q .non H'
theorem ZvF:Zq ["self","places","heads"] ["self","places","heads"] (Zg Zbz):=⟨rfl,rfl,rfl,by decide +kernel,rfl,by decide +kernel,by decide +kernel⟩
theorem ZvW (T:Tx K mg g):FnOk P w K mg base (CXE P w) 1 g.Zok g.ZhK ["self","places","heads"] (ZFp g):=by
 refine T.ZAw.okE ZvF (fun vs H Q E h=>?_) (fun cdv A outer s H vs Q E hr h=>?_)
 ·obtain ⟨p,dx,d,e,rfl,_⟩:=h
  rfl
 ·obtain ⟨p,dx,d,e,rfl,hp,q⟩:=h
  refine ⟨_,(Ze (ZaF (pv 0) (pv 1) rfl)
   (Zi (ZaF (pv 0) (pv 2) rfl))),?_⟩
  refine ⟨_,rfl,_,rfl,p,g.Image,dx,[],rfl,hp,T.Zoa,T.ZaA,(by show 0 < 1000;decide),?_⟩
  refine ⟨_,rfl,_,rfl,p,g.Image,dx,_,rfl,Zb,T.Zoa,T.ZcU,(by show 1 < 1000;decide),?_⟩
  refine q _ (fun b o e hb=>?_) Zb
  rw [Zc hb,Zc hb]
  exact e
def ZFq (g:Gs):Sp:=fun vs H Q E=>∃ v S kv k fv free ov older,vs=[v,kv,.ref fv,ov]∧ZS g H S v∧ZhJ g H k kv∧H fv=some (.lst (free.map V.int))∧Zip H older ov∧Zoi S∧ZAq k∧free.length≤1000∧(∀ p∈older,p.2≠[])∧Ans g (Zj9 g) H (Zfa S k free older) Q E
theorem Zc9:Zq ["state","kept","free","older","chains","heads","name"] ["state","kept","free","older"] (Zg Zc5):=⟨rfl,rfl,rfl,by decide +kernel,rfl,by decide +kernel,by decide +kernel⟩
theorem ZBw (T:Tx K mg g):FnOk P w K mg base (CXE P w) 4 g.ZwQ g.Zn0 ["state","kept","free","older"] (ZFq g):=by
 refine T.ZuU.okE Zc9 (fun vs H Q E h=>?_) (fun cdv A outer s H vs Q E hr h=>?_)
 ·obtain ⟨v,S,kv,k,fv,free,ov,older,rfl,_⟩:=h
  rfl
 ·obtain ⟨v,S,kv,k,fv,free,ov,older,rfl,hS,⟨ka,kvs,rfl,hka,hkd⟩,hfv,⟨oa,ko,rfl,hoa,hod⟩,so,kk,hfl,hne,q⟩:=h
  have hu:=u1 hr.units
  refine ⟨_,(Ze (ZI (i:=4) Zc9.nd rfl (Or.inl rfl) (ZgG T.ZrI (Ztp T) hr.dn rfl T.ZH3 T.Zw7 .nil Zh (Za (pv 2) (Za (pv 3) Zf))))
   (Ze (ZI (i:=5) Zc9.nd rfl (Or.inl rfl) (Zx (Zlk T) hr.dn rfl T.ZoF T.ZhO.kp T.Zp3 .nil Zh (Za (pv 0) (Za (pv 4) Zf))))
   (Ze (Zdc PassesOwn.leaving rfl (Ze0 (ZC ZzL (by rfl) T.Zke PyProof.Rows.Boot.«sorted» (Za (pv 1) Zf))) (ZQ (i:=6) Zc9.nd rfl (Or.inl rfl)) (Zi (ZI (i:=5) Zc9.nd rfl (Or.inl rfl) (ZD Zcb (ZD Zcb (pv 5) (Zx (Zll T) hr.dn rfl T.ZoG T.ZhP.kp T.Zp4 .nil Zh (Za (pv 6) Zf))) (Zx (Zlk T) hr.dn rfl T.ZoF T.ZhO.kp T.Zp3 .nil Zh (Za (Zdd hu (pv 1) (pv 6) (fun _ _=>rfl)) (Za (pv 4) Zf)))))))
   (Zi (ZE (ZgG T.ZwG (ZvW T) hr.dn rfl T.ZJ4 T.Zz0 .nil Zh (Za (ZJ (pv 4) rfl) (Za (pv 5) Zf)))))))),?_⟩
  refine ⟨_,rfl,_,rfl,fun c dx hc hdx ne=>⟨c,dx,_,_,rfl,Zb,fun pl H1 hpl kp1 hc1 hp1=>⟨rfl,?_⟩⟩⟩
  have npc:pl≠c:=fun z=>by rw [z,Zb] at hpl;cases hpl
  have hplH:H pl=none:=by
   by_cases z:pl=dx
   ·rw [z,Zc ne,Zb] at hpl;cases hpl
   ·rw [Zc npc,Zc z] at hpl;exact hpl
  have s1:Same H H1:=fun b o e=>kp1 b o (by rw [Zc (Zd e hc),Zc (Zd e hdx)];exact e) (Zd e hc)
  have hC1:Znh g H1 c pl ⟨free,older,[]⟩:=⟨dx,fv,oa,ko,[],hc1,s1 _ _ hfv,s1 _ _ hoa,hp1,hod.same ZR.mono s1,.nil,fun z=>by rw [z,hplH] at hoa;cases hoa⟩
  have ok1:ZCJ (⟨free,older,[]⟩:Chn):=⟨hne,fun p hp=>nomatch hp⟩
  unfold Zfa at q
  refine ⟨_,rfl,_,rfl,v,S,c,pl,_,H,rfl,s1,hc,hplH,hS,so,hC1,ok1,hfl,Nat.zero_le _,?_⟩
  cases hh:ZwT S ⟨free,older,[]⟩ with
  | error r=>
   rw [hh] at q
   exact fun H2 b2=>q H2 (But2.base s1 hc hplH b2)
  | ok pr=>
   obtain ⟨h0,C0⟩:=pr
   rw [hh] at q
   dsimp only at q
   obtain ⟨gr0,hl0⟩:=ZDg hh ok1 so
   intro vh H2 b2 hC2 ⟨t0,e,ht0⟩
   subst e
   have s2:=But2.base s1 hc hplH b2
   have hnl:(k.map (·.1)).length < 64:=by rw [List.length_map];have:=kk.n;omega
   refine ⟨_,rfl,ka,kvs,k.map (·.1),rfl,.inl (s2 _ _ hka),hkd.keysS,hnl,fun l hl=>?_⟩
   refine ⟨l,rfl,⟨_,SqL.of Zb⟩,?_⟩
   have s3:=Zk (o:=.lst ((Zkp (k.map (·.1))).map V.str)) hl
   have hsub:∀ n∈Zkp (k.map (·.1)),n∈k.map (·.1):=fun n hn=>(Zt1 _).mem_iff.mp hn
   have hlen:(Zkp (k.map (·.1))).length≤3:=by rw [(Zt1 _).length_eq,List.length_map];exact kk.n
   generalize Zkp (k.map (·.1))=ns at q s3 hsub hlen
   refine Zh5 (xs:=ns.map V.str) (fun i σ H'=>∃ t hd C',(∃ o6,σ=[some v,some (.ref ka),some (.ref fv),some (.ref oa),some (.ref c),some (.ref t),o6])∧H' t=some (.tup (hd.map V.int))∧H' l=some (.lst (ns.map V.str))∧Same H H'∧Znh g H' c pl C'∧ZEY C0 C' (64 * i)∧hd.length=2 + 10 * i∧ZBc k ns h0 C0=ZBc k (ns.drop i) hd C')
    ⟨t0,h0,C0,⟨none,rfl⟩,s3 _ _ ht0,Zb,s2.trans s3,hC2.same s3,⟨gr0.ok,Nat.le_refl _,Nat.le_refl _,rfl⟩,hl0,rfl⟩ (fun i σ H' _ h=>?_) (fun i x σ H' hx h=>?_) (fun σ H' h=>?_)
   ·obtain ⟨t,hd,C',_,_,hl',_⟩:=h
    exact SqL.of hl'
   ·obtain ⟨t,hd,C',⟨o6,rfl⟩,ht,hl',sm,hC',gr,hdl,hw⟩:=h
    rw [List.getElem?_map] at hx
    cases hn:ns[i]? with
    | none=>rw [hn] at hx;cases hx
    | some n=>
     rw [hn] at hx
     cases hx
     have hi:i < ns.length:=(List.getElem?_eq_some_iff.mp hn).1
     have hdr:ns.drop i=n::ns.drop (i + 1):=by
      rw [List.drop_eq_getElem_cons hi]
      rw [(List.getElem?_eq_some_iff.mp hn).2]
     rw [hdr,ZFx] at hw
     have hgk:∃ S',getA k n=some S':=by
      cases hg:getA k n with
      | none=>exact absurd (hsub n (List.mem_of_getElem? hn)) (ZqI hg)
      | some S'=>exact ⟨S',rfl⟩
     obtain ⟨S',hg⟩:=hgk
     rw [hg] at hw
     dsimp only at hw
     obtain ⟨hnm,so'⟩:=kk.nm n S' hg
     obtain ⟨vS,hvS,hS'⟩:=hkd.yes ZKb hg
     have hncl:(ZaO n).length=8:=Ze7 (ZhZ hnm).2.1
     refine ⟨_,rfl,_,rfl,n,rfl,hnm,fun u H3 s4 ⟨t2,e,ht2⟩=>?_⟩
     subst e
     refine ⟨t,t2,_,_,rfl,rfl,SqT.of (s4 _ _ ht),SqT.of ht2,fun _=>ht2,fun _ _=>s4 _ _ ht,?_,fun d H4 s5 hd4=>?_⟩
     ·rw [List.length_map,List.length_map,hncl,hdl];exact Zw (m:=1000) (by omega) (by decide)
     have s6:=sm.trans (s4.trans s5)
     have hC4:=hC'.same (s4.trans s5)
     obtain ⟨dx4,f4,o4,ko4,kp4,h4⟩:=id hC4
     refine ⟨_,rfl,_,rfl,ka,vS,rfl,(by have:=DGet.k (s6 _ _ hka) (k:=.inr n);rw [hvS] at this;exact this),_,rfl,vS,S',c,pl,C',H,rfl,s6,hc,hplH,hS',so',hC4,gr.ok,Nat.le_trans gr.fr (Nat.le_trans gr0.fr hfl),?_,?_⟩
     ·have:=gr.pl
      have h1:C0.places.length≤0 + 64:=gr0.pl
      omega
     cases hh2:ZwT S' C' with
     | error r=>
      rw [hh2] at hw
      rw [hw] at q
      exact fun H5 b5=>q H5 (But2.base s6 hc hplH b5)
     | ok pr=>
      obtain ⟨t',C''⟩:=pr
      rw [hh2] at hw
      dsimp only at hw
      obtain ⟨gr2,hl2⟩:=ZDg hh2 gr.ok so'
      intro vt H5 b5 hC5 ⟨t3,e,ht3⟩
      subst e
      have s7:=But2.base s6 hc hplH b5
      have hd5:H5 d=some (.tup ((hd.map V.int)++(ZaO n).map V.int)):=b5 _ _ hd4 (ZP hd4 h4.ob (by intro z;cases z)) (ZP hd4 h4.hp (by intro z;cases z))
      have hl4:=s5 _ _ (s4 _ _ hl')
      have hl5:H5 l=some (.lst (ns.map V.str)):=b5 _ _ hl4 (ZP hl4 h4.ob (by intro z;cases z)) (ZP hl4 h4.hp (by intro z;cases z))
      refine ⟨d,t3,_,_,rfl,rfl,SqT.of hd5,SqT.of ht3,fun _=>ht3,fun _ _=>hd5,?_,fun d2 H6 s8 hd6=>?_⟩
      ·rw [List.length_append,List.length_map,List.length_map,List.length_map,hncl,hdl,hl2];exact Zw (m:=1000) (by omega) (by decide)
      refine ⟨d2,hd++ZaO n++t',C'',⟨_,rfl⟩,?_,s8 _ _ hl5,s7.trans s8,hC5.same s8,⟨gr2.ok,Nat.le_trans gr2.fr gr.fr,by have:=gr2.pl;have:=gr.pl;omega,gr2.old.trans gr.old⟩,?_,hw⟩
      ·rw [hd6,List.map_append,List.map_append]
      ·rw [List.length_append,List.length_append,hncl,hdl,hl2];omega
   ·obtain ⟨t,hd,C',⟨o6,rfl⟩,ht,hl',sm,hC',gr,hdl,hw⟩:=h
    rw [List.length_map,List.drop_length,ZHt] at hw
    rw [hw] at q
    dsimp only at q
    obtain ⟨dx4,f4,o4,ko4,kp4,h4⟩:=id hC'
    refine ⟨_,rfl,c,_,dx4,_,_,rfl,h4.ob,T.Z9,T.ZV,ZGZ _ _ _,_,rfl,fun x dx' hx hdx' ne'=>⟨x,dx',_,_,rfl,Zb,fun H5 kp hp=>⟨rfl,?_⟩⟩⟩
    have s5:Same H' H5:=fun b o eb=>by
     have h1:b≠x:=Zd eb hx
     have h2:b≠dx':=Zd eb hdx'
     exact kp b o (by rw [Zc h1,Zc h2];exact eb) h1
    exact q _ _ (sm.trans s5) ⟨x,dx',_,_,rfl,hp,⟨pl,kp4,rfl,s5 _ _ h4.hp,h4.rp.same ZR.mono s5⟩,⟨t,rfl,s5 _ _ ht⟩⟩
end
end KS
namespace L2
open PySem PySem.Spec PyProof.Rows PySem.W
theorem ZIm {K:Frag} {a:Addr} {xs:List V} {g:TG} {tb:TS} {D:Ends} {σ:St} {H:Hp} (Pv:Nat→St→Hp→Prop) (h0:Pv 0 σ H) (hl:∀ i σ H,i≤xs.length→Pv i σ H→SqT K H a xs)
  (hs:∀ i x t σ H,xs[i]?=some x→Pv i σ H→H t=none→g (.ref t) σ (upd H t (.tup [.int (i:Nat),x])) fun σ2 H2=>tb {D with nx:=Pv (i + 1),ct:=Pv (i + 1),bk:=D.nx} σ2 H2) (hd:∀ σ H,Pv xs.length σ H→D.nx σ H) :
  ∃ W:Nat→Nat→St→Hp→Prop,(∃ m,W 0 m σ H)∧∀ i m σ H,W i m σ H→
   ((IteT K a).stop i H∧D.nx σ H)∨((IteT K a).go i H∧∃ N:St→Hp→Prop,(∀ σ' H',N σ' H'→∃ m',m' < m∧W (i + 1) m' σ' H')∧∀ x H',(IteT K a).yld i H x H'→g x σ H' fun σ2 H2=>tb {D with nx:=N,ct:=N,bk:=D.nx} σ2 H2):=by
 refine ⟨fun i m σ H=>m=xs.length - i∧i≤xs.length∧Pv i σ H,⟨xs.length,by simp,Nat.zero_le _,h0⟩,?_⟩
 rintro i m σ H ⟨rfl,hi,p⟩
 have q:=hl i σ H hi p
 by_cases hlt:i < xs.length
 ·refine .inr ⟨⟨xs,xs[i],q,by simp [hlt]⟩,Pv (i + 1),fun σ' H' p'=>⟨xs.length - (i + 1),by omega,rfl,hlt,p'⟩,fun x H' y=>?_⟩
  obtain ⟨t,z,ht,rfl,hz,rfl⟩:=y
  exact hs i z t σ _ (hz xs q) p ht
 ·have e:i=xs.length:=by omega
  subst e
  exact .inl ⟨⟨xs,q,Nat.le_refl _⟩,hd σ H p⟩
end L2
namespace KS
open PySem L2
def padF (row:Row) (n:Int):Row:=row++List.replicate (n - (row.length:Int)).toNat 0
def Zfr (row:Row):Int:=row.foldl (fun c n=>(c * 1000003 + n) % 4294967291) (row.length:Int)
def ZqL (rows:List Row):Int:=(rows.map Zfr).sum % 4294967291
def ZuH (rows:List Row):Row:=[ZqL rows / 16777216,ZqL rows / 65536 % 256,ZqL rows / 256 % 256,ZqL rows % 256]
def ZJ2:Row:=[83,116,105,108]
def Zsi (I:Img) (turn:Int):Row:=padF (ZJ2++[turn]++I.heads) 37
def Zl4 (I:Img) (turn:Int):Row:=padF (Zsi I turn++ZuH (Zsi I turn::I.places.map (·.1))) 64
def ZL5 (H:Hp) (rows:List Row) (v:V):Prop:=∃ l vs,v=.ref l∧H l=some (.lst vs)∧Paired (fun a b=>ZR H b a) vs rows
theorem Zrt {α β:Type} {F:α→β→Prop}:∀ {xs:List α} {ys:List β},Paired F xs ys→∀ {i:Nat} {x:α},xs[i]?=some x→∃ y,ys[i]?=some y∧F x y
 | _,_,.nil,i,x,h=>by simp at h
 | _,_,.cons a t,0,x,h=>by simp at h;subst h;exact ⟨_,rfl,a⟩
 | _,_,.cons a t,i + 1,x,h=>by obtain ⟨y,h1,h2⟩:=Zrt t (i:=i) (by simpa using h);exact ⟨y,by simpa using h1,h2⟩
theorem Zze {H0 H:Hp}:∀ {pl:Zbd} {kvs:List (List Key×V)},ZX rKey ZR H0 pl kvs→∀ {bs:List Addr},bs.length=(kvs.map (·.1)).length→(∀ (i:Nat) b k,bs[i]?=some b→(kvs.map (·.1))[i]?=some k→H b=some (.tup (k.map kV)))→Paired (fun a b=>ZR H b a) (bs.map V.ref) (pl.map (·.1))
 | _,_,.nil,bs,hl,_=>by
  have:bs=[]:=List.length_eq_zero_iff.mp hl
  subst this
  exact .nil
 | q::_,p::_,.cons a t,bs,hl,h=>by
  match bs,hl,h with
  | b::bs,hl,h=>
   refine .cons ⟨b,rfl,?_⟩ (Zze t (by simpa using hl) fun i b' k hb hk=>h (i + 1) b' k (by simpa using hb) (by simpa using hk))
   have:=h 0 b p.1 rfl rfl
   rw [a.1,Zre] at this
   exact this
section
variable {P:Program} {w:World} {K:PySem.W.Frag} {mg:Str→Option Value} {base:Heap} {g:Gs}
def ZHo:Sp:=fun vs H Q _=>∃ row v n,vs=[v,.int n]∧ZR H row v∧row.length≤10000∧-10000≤n∧n≤10000∧∀ u H',Same H H'→ZR H' (padF row n) u→Q u H'
theorem ZFB:Zq ["row","length"] ["row","length"] (Zg ZhX):=⟨rfl,rfl,rfl,by decide +kernel,rfl,by decide +kernel,by decide +kernel⟩
theorem Zyz (T:Tx K mg g):FnOk P w K mg base (CXE P w) 1 g.padded g.ZvN ["row","length"] ZHo:=by
 refine T.Zxk.okE ZFB (fun vs H Q E h=>?_) (fun cdv A outer s H vs Q E hr h=>?_)
 ·obtain ⟨row,v,n,rfl,_⟩:=h
  rfl
 ·obtain ⟨row,v,n,rfl,⟨t,rfl,ht⟩,hl,hn0,hn1,q⟩:=h
  refine ⟨_,(Zi (ZE (ZD Zcb (pv 0) (ZD ZvO (ZaM (Za Zn Zf)) (ZD Zud (pv 1) (ZC ZM (by rfl) T.ZcH PySem.boot_len (Za (pv 0) Zf))))))),?_⟩
  refine ⟨_,rfl,szl 1,fun b hb=>?_⟩
  have s2:=Zk (o:=.tup [.int 0]) hb
  refine ⟨_,rfl,_,rfl,t,_,rfl,.inr (SqT.of (s2 _ _ ht)),_,_,rfl,rfl,b,_,_,rfl,rfl,Zb,by simp,?_,?_,?_,fun c H2 s3 hc=>?_⟩
  ·rw [List.length_map];omega
  ·rw [List.length_map];omega
  ·rw [List.length_map];show 1 * _≤_;exact Zw (m:=20000) (by omega) (by decide)
  rw [ZkA,List.length_map] at hc
  have ht2:=s3 _ _ (s2 _ _ ht)
  refine ⟨t,c,_,_,rfl,rfl,SqT.of ht2,SqT.of hc,fun _=>hc,fun _ _=>ht2,?_,fun d H3 s4 hd=>?_⟩
  ·rw [List.length_map,List.length_replicate];exact Zw (m:=40000) (by omega) (by decide)
  refine q _ H3 (s2.trans (s3.trans s4)) ⟨d,rfl,?_⟩
  rw [hd]
  unfold padF
  rw [List.map_append,List.map_replicate]
def ZFt:Sp:=fun vs H Q _=>∃ row v,vs=[v]∧ZR H row v∧Q (.int (Zfr row)) H
theorem ZeV:Zq ["row","check","number"] ["row"] (Zg Zc6):=⟨rfl,rfl,rfl,by decide +kernel,rfl,by decide +kernel,by decide +kernel⟩
theorem ZBx (T:Tx K mg g):FnOk P w K mg base (CXE P w) 1 g.Zw0 g.Zn6 ["row"] ZFt:=by
 refine T.ZuV.okE ZeV (fun vs H Q E h=>?_) (fun cdv A outer s H vs Q E hr h=>?_)
 ·obtain ⟨row,v,rfl,_⟩:=h
  rfl
 ·obtain ⟨row,v,rfl,⟨t,rfl,ht⟩,q⟩:=h
  refine ⟨_,(Ze (ZI (i:=1) ZeV.nd rfl (Or.inl rfl) (ZC ZM (by rfl) T.ZcH PySem.boot_len (Za (pv 0) Zf)))
   (Ze (Zdc PassesOwn.leaving rfl (ZIO (pv 0)) (ZQ (i:=2) ZeV.nd rfl (Or.inl rfl)) (Zi (ZI (i:=1) ZeV.nd rfl (Or.inl rfl) (ZD Zb0 (ZD ZgK (ZD ZiE (pv 1) (ZF (v:=.int 1000003) rfl T.Zed ⟨_,rfl⟩)) (pv 2)) (ZF (v:=.int 4294967291) rfl T.ZcX ⟨_,rfl⟩)))))
   (Zi (ZE (pv 1))))),?_⟩
  refine ⟨_,rfl,t,_,rfl,.inr (SqT.of ht),?_⟩
  refine ⟨_,rfl,t,rfl,⟨_,SqT.of ht⟩,?_⟩
  refine ZGx (xs:=row.map V.int) (fun i σ H'=>H'=H∧∃ o2,σ=[some (.ref t),some (.int ((row.take i).foldl (fun c n=>(c * 1000003 + n) % 4294967291) (row.length:Int))),o2]) ⟨rfl,none,by rw [List.length_map];rfl⟩ (fun i σ H' _ h=>by rw [h.1];exact SqT.of ht) (fun i x σ H' hx h=>?_) (fun σ H' h=>?_)
  ·obtain ⟨rfl,o2,rfl⟩:=h
   rw [List.getElem?_map] at hx
   cases hn:row[i]? with
   | none=>rw [hn] at hx;cases hx
   | some n=>
    rw [hn] at hx
    cases hx
    have hi:i < row.length:=(List.getElem?_eq_some_iff.mp hn).1
    refine ⟨_,rfl,_,_,rfl,rfl,.inr ⟨by decide,by decide⟩,_,rfl,_,_,rfl,rfl,_,_,rfl,rfl,(by show (0:Int) < 4294967291;decide),?_⟩
    refine ⟨rfl,some (.int n),?_⟩
    rw [List.take_succ_eq_append_getElem hi,List.foldl_append,(List.getElem?_eq_some_iff.mp hn).2]
    rfl
  ·obtain ⟨rfl,o2,rfl⟩:=h
   rw [List.length_map,List.take_length]
   exact ⟨_,rfl,q⟩
def Zx3:Sp:=fun vs H Q _=>∃ rows v,vs=[v]∧ZL5 H rows v∧rows.length≤10000∧∀ u H',Same H H'→ZR H' (ZuH rows) u→Q u H'
theorem Ziv:Zq ["rows","check"] ["rows"] (Zg Zap):=⟨rfl,rfl,rfl,by decide +kernel,rfl,by decide +kernel,by decide +kernel⟩
theorem Ztm (T:Tx K mg g):FnOk P w K mg base (CXE P w) 2 g.Zj0 g.Zfq ["rows"] Zx3:=by
 refine T.Znk.okE Ziv (fun vs H Q E h=>?_) (fun cdv A outer s H vs Q E hr h=>?_)
 ·obtain ⟨rows,v,rfl,_⟩:=h
  rfl
 ·obtain ⟨rows,v,rfl,⟨l,us,rfl,hl,hp⟩,hz,q⟩:=h
  refine ⟨_,(Ze (ZI (i:=1) Ziv.nd rfl (Or.inl rfl) (ZD Zb0 (ZC ZID (by rfl) T.ZJg PyProof.Rows.Boot.«sum» (Za (ZgH (own:=["row"]) (fv:=[]) (ix:=[]) (Za1 (sc:=Zg Zap) (N:=["rows","check"]) rfl rfl (by decide +kernel)) rfl (Ze0 (pv 0)) (fun _ _ _ _ _=>ZQ (i:=0) (show (["row"]:List Str).Nodup from by decide +kernel) rfl (Or.inl rfl) (Or.inr rfl)) (fun _ _ _ _ _=>ZgE) (fun _ _ _ _ _=>(Zx (ZBx T) hr.dn rfl T.ZEA T.ZuV.kp T.ZEP .nil ZnQ (Za (pv 0) Zf)))) Zf)) (ZF (v:=.int 4294967291) rfl T.ZcX ⟨_,rfl⟩)))
   (Zi (ZE (ZaM (Za (ZD ZcI (pv 1) (ZD ZIQ Zn Zn)) (Za (ZD Zb0 (ZD ZcI (pv 1) (ZD ZIQ Zn Zn)) Zn) (Za (ZD Zb0 (ZD ZcI (pv 1) Zn) Zn) (Za (ZD Zb0 (pv 1) Zn) Zf)))))))),?_⟩
  refine ⟨_,rfl,l,rfl,⟨_,SqL.of hl⟩,fun D hD=>?_⟩
  have hul:us.length=rows.length:=Paired.length hp
  refine Zfp (J:=Itl K l) us.length (fun i=>some (V.int (Zfr (rows.getD i [])))) (fun i x=>us[i]?=some x) hD (by rw [hul];exact Zw hz (by decide)) (fun i H' hi s'=>⟨us,us[i],SqL.of (s' _ _ hl),List.getElem?_eq_getElem hi⟩) (fun H' s'=>⟨us,SqL.of (s' _ _ hl),Nat.le_refl _⟩) (fun i H' x H2 hi s' hy=>⟨hy.1,hy.2 us (SqL.of (s' _ _ hl))⟩) (fun i x H' N hi hx s' k=>?_) fun H' s' hH=>?_
  ·obtain ⟨row,hrow,hr1⟩:=Zrt hp hx
   refine iteT (B:=N none H') ?_
   refine ⟨_,rfl,row,x,rfl,ZR.mono _ _ _ _ s' hr1,?_⟩
   have hk:=k H' (Same.refl _)
   rw [List.getD_eq_getElem?_getD,hrow] at hk
   exact hk
  ·have hcl:((List.range us.length).filterMap fun i=>some (V.int (Zfr (rows.getD i []))))=(rows.map Zfr).map V.int:=by
    rw [List.filterMap_eq_map',hul]
    have e1:(List.range rows.length).map (fun i=>V.int (Zfr (rows.getD i [])))=((List.range rows.length).map fun i=>rows.getD i []).map fun r=>V.int (Zfr r):=by rw [List.map_map];rfl
    show (List.range rows.length).map (fun i=>V.int (Zfr (rows.getD i [])))=_
    rw [e1,Zh2,List.map_map]
    rfl
   rw [hcl] at hH
   refine ⟨D,rows.map Zfr,rfl,SqL.of hH,_,_,rfl,rfl,(by show (0:Int) < 4294967291;decide),?_⟩
   refine ⟨_,rfl,_,_,rfl,rfl,⟨by decide,by decide,by decide⟩,_,_,rfl,rfl,⟨by decide,by decide⟩,?_⟩
   refine ⟨_,rfl,_,_,rfl,rfl,⟨by decide,by decide,by decide⟩,_,_,rfl,rfl,⟨by decide,by decide⟩,_,_,rfl,rfl,(by show (0:Int) < 256;decide),?_⟩
   refine ⟨_,rfl,_,_,rfl,rfl,⟨by decide,by decide⟩,_,_,rfl,rfl,(by show (0:Int) < 256;decide),_,rfl,_,_,rfl,rfl,(by show (0:Int) < 256;decide),szl 4,fun a ha=>?_⟩
   refine q _ _ (s'.trans (Zk ha)) ⟨a,rfl,?_⟩
   rw [Zb]
   rfl
def ZA8 (g:Gs):Sp:=fun vs H Q _=>∃ I v n,vs=[v,.int n]∧Zj9 g H I v∧I.heads.length≤1000∧I.places.length≤2000∧∀ u H',Same H H'→ZR H' (Zl4 I n) u→Q u H'
theorem Zkv:Zq ["image","turn","row"] ["image","turn"] (Zg Zbr):=⟨rfl,rfl,rfl,by decide +kernel,rfl,by decide +kernel,by decide +kernel⟩
theorem ZvQ (T:Tx K mg g):FnOk P w K mg base (CXE P w) 3 g.Zn2 g.Zg1 ["image","turn"] (ZA8 g):=by
 refine T.Zqi.okE Zkv (fun vs H Q E h=>?_) (fun cdv A outer s H vs Q E hr h=>?_)
 ·obtain ⟨I,v,n,rfl,_⟩:=h
  rfl
 ·obtain ⟨I,v,n,rfl,⟨p,dx,plv,hdv,rfl,hp,⟨pa,kvs,rfl,hpa,hpd⟩,⟨ht,rfl,hht⟩⟩,hhl,hpl,q⟩:=h
  refine ⟨_,(Ze (ZI (i:=2) Zkv.nd rfl (Or.inl rfl) (Zx (Zyz T) hr.dn rfl T.ZDa T.Zxk.kp T.ZDu .nil Zh (Za (ZD Zcb (ZD Zcb (ZF (v:=.ref g.MARK) rfl T.ZGv rfl) (ZaM (Za (pv 1) Zf))) (ZJ (pv 0) rfl)) (Za (ZF (v:=.int 37) rfl T.Zfd ⟨_,rfl⟩) Zf))))
   (Zi (ZE (Zx (Zyz T) hr.dn rfl T.ZDa T.Zxk.kp T.ZDu .nil Zh (Za (ZD Zcb (pv 2) (Zx (Ztm T) hr.dn rfl T.ZwK T.Znk.kp T.Zw4 .nil Zh (Za (ZD Zyx (ZcP (Za (pv 2) Zf)) (Zcu ZCg rfl T.Zxr PyProof.Rows.Boot.«list» (Za (ZJ (pv 0) rfl) Zf))) Zf))) (Za (ZF (v:=.int 64) rfl T.ZbT ⟨_,rfl⟩) Zf)))))),?_⟩
  refine ⟨_,rfl,szl 1,fun a ha=>?_⟩
  have s1:=Zk (o:=.tup [.int n]) ha
  refine ⟨g.MARK,a,_,_,rfl,rfl,T.ZLc _,SqT.of Zb,(fun z=>nomatch z),(fun z=>nomatch z),by show 4 + 1≤sizeLine;decide,fun b H2 s2 hb=>?_⟩
  have sA:=s1.trans s2
  refine ⟨_,rfl,p,_,dx,_,_,rfl,sA _ _ hp,T.Zoa,T.ZcU,ZKf _ _,b,ht,_,_,rfl,rfl,SqT.of hb,SqT.of (sA _ _ hht),(fun z=>nomatch z),fun _ _=>hb,?_,fun c H3 s3 hc=>?_⟩
  ·rw [List.length_map];exact Zw (m:=2000) (by show 5 + _≤2000;omega) (by decide)
  have hc':ZR H3 (ZJ2++[n]++I.heads) (.ref c):=⟨c,rfl,by rw [hc,List.map_append];rfl⟩
  have sB:=sA.trans s3
  refine ⟨_,_,_,rfl,hc',?_,by decide,by decide,fun u H4 s4 hu4=>?_⟩
  ·rw [List.length_append];show 5 + _≤_;omega
  have hrl:(padF (ZJ2++[n]++I.heads) 37).length≤2000:=by
   unfold padF
   rw [List.length_append,List.length_replicate,List.length_append]
   show 5 + _ + _≤_
   omega
  change ZR H4 (Zsi I n) u at hu4
  change (Zsi I n).length≤2000 at hrl
  obtain ⟨d,rfl,hd⟩:=hu4
  have sC:=sB.trans s4
  unfold Zl4 at q
  generalize Zsi I n=R at hd hrl q
  refine ⟨_,rfl,_,rfl,szl 1,fun e he=>?_⟩
  have s5:=Zk (o:=.lst [.ref d]) he
  have sD:=sC.trans s5
  refine ⟨_,rfl,p,_,dx,_,_,rfl,sD _ _ hp,T.Zoa,T.ZaA,ZKe _ _,pa,kvs,rfl,.inl (sD _ _ hpa),fun l bs hl hk=>?_⟩
  have s6:=Zk (o:=.lst (bs.map V.ref)) hl
  refine ⟨e,l,_,_,rfl,rfl,s6 _ _ Zb,Zb,?_,fun m hm=>?_⟩
  ·rw [List.length_map,hk.1,List.length_map,hpd.len];exact Zw (m:=3000) (by show 1 + _≤3000;omega) (by decide)
  have s7:=Zk (o:=.lst ([.ref d]++bs.map V.ref)) hm
  have sE:=s5.trans (s6.trans s7)
  refine ⟨R::I.places.map (·.1),_,rfl,⟨m,_,rfl,Zb,.cons ⟨d,rfl,sE _ _ hd⟩ ?_⟩,?_,fun u H5 s8 ⟨x,e2,hx⟩=>?_⟩
  ·refine Zze (H:=upd (upd (upd H4 e (.lst [.ref d])) l (.lst (bs.map V.ref))) m (.lst ([.ref d]++bs.map V.ref))) hpd hk.1 fun i b k hb hkk=>?_
   exact s7 _ _ (s6 _ _ (hk.2 i b k hb hkk))
  ·rw [List.length_cons,List.length_map];omega
  subst e2
  have hd5:=s8 _ _ (sE _ _ hd)
  refine ⟨d,x,_,_,rfl,rfl,SqT.of hd5,SqT.of hx,fun _=>hx,fun _ _=>hd5,?_,fun y H6 s9 hy=>?_⟩
  ·rw [List.length_map,List.length_map];exact Zw (m:=3000) (by show _ + 4≤3000;omega) (by decide)
  refine ⟨_,_,_,rfl,⟨y,rfl,by rw [hy,← List.map_append]⟩,?_,by decide,by decide,fun u H7 s10 hu7=>?_⟩
  ·rw [List.length_append];show _ + 4≤_;omega
  exact q u H7 (sC.trans (sE.trans (s8.trans (s9.trans s10)))) hu7
end
end KS
namespace KS
open PySem L2
def Zrs (row:Row) (i:Nat):Row:=(row.drop (i * 63)).take 63
def Zdi (ns:Row):Row:=ns.drop 1++[0]
def ZCh (row ns:Row) (i:Nat):Row:=(Zdi ns).getD i 0::(Zrs row i++List.replicate (63 - (Zrs row i).length) 0)
def Zad (row ns:Row):List Row:=(List.range (Zdi ns).length).map (ZCh row ns)
theorem ZIB (row:Row) (a b:Nat) (h:a≤b):cutV (row.map V.int) (some (a:Int)) (some (b:Int))=((row.drop a).take (b - a)).map V.int:=by
 unfold cutV
 rw [HT.sIx_nat,HT.sIx_nat,List.length_map,← List.map_drop,← List.map_take]
 congr 1
 rcases Nat.le_total a row.length with h1 | h1
 ·rw [Nat.min_eq_left h1]
  rcases Nat.le_total b row.length with h2 | h2
  ·rw [Nat.min_eq_left h2]
  ·rw [Nat.min_eq_right h2,List.take_of_length_le (by rw [List.length_drop];exact Nat.le_refl _),List.take_of_length_le (by rw [List.length_drop];omega)]
 ·rw [Nat.min_eq_right h1,List.drop_length,List.drop_of_length_le h1,List.take_nil,List.take_nil]
theorem ZHP (row:Row) (i:Nat):(Zrs row i).length≤63:=by unfold Zrs;rw [List.length_take];omega
theorem Zym {H H':Hp} {vs:List V} {rows:List Row} (h:Paired (fun a b=>ZR H b a) vs rows) (k:∀ a (r:Row),H a=some (.tup (r.map V.int))→H' a=some (.tup (r.map V.int))):Paired (fun a b=>ZR H' b a) vs rows:=by
 induction h with
 | nil=>exact .nil
 | cons a _ ih=>obtain ⟨t,e,ht⟩:=a;exact .cons ⟨t,e,k _ _ ht⟩ ih
section
variable {P:Program} {w:World} {K:PySem.W.Frag} {mg:Str→Option Value} {base:Heap} {g:Gs}
def Zve:Sp:=fun vs H Q _=>∃ row rv ns nv,vs=[rv,nv]∧ZR H row rv∧ZR H ns nv∧ns.length≤10000∧∀ l us H',Same H H'→H l=none→H' l=some (.lst us)→Paired (fun a b=>ZR H' b a) us (Zad row ns)→Q (.ref l) H'
theorem ZaK:Zq ["row","numbers","blocks","place","following","part"] ["row","numbers"] (Zg Zay):=⟨rfl,rfl,rfl,by decide +kernel,rfl,by decide +kernel,by decide +kernel⟩
theorem Zrv (T:Tx K mg g):FnOk P w K mg base (CXE P w) 1 g.Zhj g.Zeg ["row","numbers"] Zve:=by
 refine T.Zjs.okE ZaK (fun vs H Q E h=>?_) (fun cdv A outer s H vs Q E hr h=>?_)
 ·obtain ⟨row,rv,ns,nv,rfl,_⟩:=h
  rfl
 ·obtain ⟨row,rv,ns,nv,rfl,⟨ra,rfl,hra⟩,⟨na,rfl,hna⟩,hz,q⟩:=h
  refine ⟨_,(Ze (ZI (i:=2) ZaK.nd rfl (Or.inl rfl) (ZcP Zf))
   (Ze (Zdc PassesOwn.leaving rfl (Zyr rfl T.Zjv (Za (ZD Zcb (ZdC ZFy (pv 1) (ZeZ Zn) ZjP) (ZaM (Za (ZF (v:=.int 0) rfl T.Zh4 ⟨_,rfl⟩) Zf))) Zf)) (Zys rfl (Zcm (ZQ (i:=3) ZaK.nd rfl (Or.inl rfl)) (Zcm (ZQ (i:=4) ZaK.nd rfl (Or.inl rfl)) Zrp))) (Ze (ZI (i:=5) ZaK.nd rfl (Or.inl rfl) (ZdC ZFy (pv 0) (ZeZ (ZD ZiE (pv 3) (ZF (v:=.int 63) rfl T.Zbk ⟨_,rfl⟩))) (ZeZ (ZD ZiE (ZD ZgK (pv 3) Zn) (ZF (v:=.int 63) rfl T.Zbk ⟨_,rfl⟩)))))
   (Zi (Zah (Zrr PySem.F.plainAttrs_list PySem.F.slot_list_append PySem.F.type_list_append Zev (pv 2) (Za (ZD Zcb (ZD Zcb (ZaM (Za (pv 4) Zf)) (pv 5)) (ZD ZvO (ZaM (Za Zn Zf)) (ZD Zud (ZF (v:=.int 63) rfl T.Zbk ⟨_,rfl⟩) (ZC ZM (by rfl) T.ZcH PySem.boot_len (Za (pv 5) Zf))))) Zf))))))
   (Zi (ZE (pv 2))))),?_⟩
  refine ⟨Nat.zero_le _,fun B hB=>?_⟩
  have s0:=Zk (o:=.lst []) hB
  refine ⟨_,rfl,_,rfl,na,_,rfl,s0 _ _ hna,fun c1 H1 s1 hc1=>?_⟩
  rw [show cutV (ns.map V.int) (some 1) none=(ns.drop 1).map V.int from ZzF ns 1] at hc1
  refine ⟨szl 1,fun c2 hc2=>?_⟩
  have s2:=Zk (o:=.tup [.int 0]) hc2
  refine ⟨c1,c2,_,_,rfl,rfl,SqT.of (s2 _ _ hc1),SqT.of Zb,fun _=>Zb,(fun z=>nomatch z),?_,fun f H3 s3 hf=>?_⟩
  ·rw [List.length_map,List.length_drop];exact Zw (m:=20000) (by show _ + 1≤20000;omega) (by decide)
  have hf':H3 f=some (.tup ((Zdi ns).map V.int)):=by rw [hf];unfold Zdi;rw [List.map_append];rfl
  have sA:=s1.trans (s2.trans s3)
  have hfl:(Zdi ns).length≤10001:=by unfold Zdi;rw [List.length_append,List.length_drop];show _ + 1≤_;omega
  refine ⟨f,rfl,⟨_,SqT.of hf'⟩,?_⟩
  refine ZIm (xs:=(Zdi ns).map V.int) (fun i σ H'=>∃ o3 o4 o5 us,σ=[some (.ref ra),some (.ref na),some (.ref B),o3,o4,o5]∧H' B=some (.lst us)∧Paired (fun a b=>ZR H' b a) us ((List.range i).map (ZCh row ns))∧H' f=some (.tup ((Zdi ns).map V.int))∧Same H H')
   ⟨none,none,none,[],rfl,sA _ _ Zb,.nil,hf',s0.trans sA⟩ (fun i σ H' _ h=>?_) (fun i x t σ H' hx h ht=>?_) (fun σ H' h=>?_)
  ·obtain ⟨o3,o4,o5,us,rfl,_,_,hf',_⟩:=h
   exact SqT.of hf'
  ·obtain ⟨o3,o4,o5,us,rfl,hB',hp,hf',sm⟩:=h
   rw [List.getElem?_map] at hx
   cases hn:(Zdi ns)[i]? with
   | none=>rw [hn] at hx;cases hx
   | some n=>
    rw [hn] at hx
    cases hx
    have hi:i < (Zdi ns).length:=(List.getElem?_eq_some_iff.mp hn).1
    have hul:us.length=i:=by rw [Paired.length hp,List.length_map,List.length_range]
    have s4:=Zk (o:=.tup [.int (i:Nat),.int n]) ht
    refine ⟨t,_,rfl,SqT.of Zb,rfl,_,_,rfl,_,_,rfl,rfl,?_⟩
    refine ⟨_,rfl,_,rfl,_,_,rfl,rfl,.inr ⟨by decide,by decide⟩,_,rfl,_,rfl,_,_,rfl,rfl,_,_,rfl,rfl,.inr ⟨by decide,by decide⟩,_,rfl,ra,_,rfl,s4 _ _ (sm _ _ hra),fun pp H5 s5 hpp=>?_⟩
    have e1:cutV (row.map V.int) (some ((i:Int) * 63)) (some (((i:Int) + 1) * 63))=(Zrs row i).map V.int:=by
     have:=ZIB row (i * 63) ((i + 1) * 63) (by omega)
     rw [show (((i * 63:Nat):Int))=(i:Int) * 63 by omega,show ((((i + 1) * 63:Nat):Int))=((i:Int) + 1) * 63 by omega] at this
     rw [this]
     unfold Zrs
     rw [show (i + 1) * 63 - i * 63=63 by omega]
    rw [e1] at hpp
    have hpl:=ZHP row i
    generalize hpe:Zrs row i=part at hpp hpl
    have sB:=s4.trans s5
    refine ⟨_,rfl,.inl ⟨rfl,_,SqL.of (sB _ _ hB')⟩,?_⟩
    refine ⟨_,rfl,szl 1,fun x1 hx1=>?_⟩
    have s6:=Zk (o:=.tup [.int n]) hx1
    refine ⟨_,rfl,x1,pp,_,_,rfl,rfl,SqT.of Zb,SqT.of (s6 _ _ hpp),(fun z=>nomatch z),fun _ _=>Zb,?_,fun x2 H7 s7 hx2=>?_⟩
    ·rw [List.length_map];exact Zw (m:=100) (by show 1 + _≤100;omega) (by decide)
    refine ⟨szl 1,fun x3 hx3=>?_⟩
    have s8:=Zk (o:=.tup [.int 0]) hx3
    have hpp8:=s8 _ _ (s7 _ _ (s6 _ _ hpp))
    refine ⟨_,rfl,pp,_,rfl,.inr (SqT.of hpp8),_,_,rfl,rfl,x3,_,_,rfl,rfl,Zb,by simp,?_,?_,?_,fun x4 H9 s9 hx4=>?_⟩
    ·rw [List.length_map];omega
    ·rw [List.length_map];omega
    ·rw [List.length_map];show 1 * _≤_;exact Zw (m:=100) (by omega) (by decide)
    rw [ZkA,List.length_map] at hx4
    have hx29:=s9 _ _ (s8 _ _ hx2)
    refine ⟨x2,x4,_,_,rfl,rfl,SqT.of hx29,SqT.of hx4,(fun z=>nomatch z),fun _ _=>hx29,?_,fun x5 H10 s10 hx5=>?_⟩
    ·rw [List.length_append,List.length_map,List.length_replicate];exact Zw (m:=300) (by show 1 + _ + _≤300;omega) (by decide)
    have sC:=sB.trans (s6.trans (s7.trans (s8.trans (s9.trans s10))))
    refine ⟨B,us,_,rfl,rfl,sC _ _ hB',?_,?_⟩
    ·rw [hul]
     have:(10002:Nat)≤sizeLine:=by decide
     omega
    have sD:∀ b o,H b=some o→(upd H10 B (.lst (us++[.ref x5]))) b=some o:=fun b o e=>by rw [Zc (Zd e hB)];exact sC _ _ (sm _ _ e)
    have nfB:f≠B:=ZP hf' hB' (by intro z;cases z)
    have nx5:x5≠B:=ZP hx5 (sC _ _ hB') (by intro z;cases z)
    refine ⟨_,_,_,us++[.ref x5],rfl,Zb,?_,(by rw [Zc nfB];exact sC _ _ hf'),sD⟩
    rw [List.range_succ,List.map_append]
    refine Paired.snoc ?_ ⟨x5,rfl,?_⟩
    ·refine Zym hp fun a row' ha=>?_
     have nab:a≠B:=ZP ha hB' (by intro z;cases z)
     rw [Zc nab]
     exact sC _ _ ha
    ·rw [Zc nx5,hx5]
     unfold ZCh
     rw [hpe,List.getD_eq_getElem?_getD,hn]
     rw [List.map_cons,List.map_append,List.map_replicate]
     have e2:((63:Int) - (part.length:Int)).toNat=63 - part.length:=by omega
     rw [e2]
     rfl
  ·obtain ⟨o3,o4,o5,us,rfl,hB',hp,hf',sm⟩:=h
   rw [List.length_map] at hp
   exact ⟨_,rfl,q B us _ sm hB hB' hp⟩
end
end KS
namespace L2
open PySem PySem.Spec PyProof.Rows PySem.W
theorem ZGy {d:Addr} {ob:Obj} {kvs:List (List Key×V)} {g:TG} {tb:TS} {D:Ends} {σ:St} {H:Hp} (Pv:Nat→St→Hp→Prop) (h0:Pv 0 σ H) (hl:∀ i σ H,i≤kvs.length→Pv i σ H→H d=some (.frz ob (.dT kvs)))
  (hs:∀ i t b k v σ H,kvs[i]?=some (k,v)→H b=some (.tup (k.map kV))→H t=none→Pv i σ H→g (.ref t) σ (upd H t (.tup [.ref b,v])) fun σ2 H2=>tb {D with nx:=Pv (i + 1),ct:=Pv (i + 1),bk:=D.nx} σ2 H2) (hd:∀ σ H,Pv kvs.length σ H→D.nx σ H) :
  ∃ W:Nat→Nat→St→Hp→Prop,(∃ m,W 0 m σ H)∧∀ i m σ H,W i m σ H→
   ((Iti d ob kvs).stop i H∧D.nx σ H)∨((Iti d ob kvs).go i H∧∃ N:St→Hp→Prop,(∀ σ' H',N σ' H'→∃ m',m' < m∧W (i + 1) m' σ' H')∧∀ x H',(Iti d ob kvs).yld i H x H'→g x σ H' fun σ2 H2=>tb {D with nx:=N,ct:=N,bk:=D.nx} σ2 H2):=by
 refine ⟨fun i m σ H=>m=kvs.length - i∧i≤kvs.length∧Pv i σ H,⟨kvs.length,by simp,Nat.zero_le _,h0⟩,?_⟩
 rintro i m σ H ⟨rfl,hi,p⟩
 have q:=hl i σ H hi p
 by_cases hlt:i < kvs.length
 ·refine .inr ⟨⟨q,hlt⟩,Pv (i + 1),fun σ' H' p'=>⟨kvs.length - (i + 1),by omega,rfl,hlt,p'⟩,fun x H' y=>?_⟩
  obtain ⟨t,b,k,v,ht,rfl,hk,hb,rfl⟩:=y
  exact hs i t b k v σ _ hk hb ht p
 ·have e:i=kvs.length:=by omega
  subst e
  exact .inl ⟨⟨q,Nat.le_refl _⟩,hd σ H p⟩
theorem ZKi {K:Frag} {a b:Addr} {xs ys:List V} {g:TG} {tb:TS} {D:Ends} {σ:St} {H:Hp} (Pv:Nat→St→Hp→Prop) (hxy:xs.length=ys.length) (h0:Pv 0 σ H) (hl:∀ i σ H,i≤xs.length→Pv i σ H→SqT K H a xs∧SqL K H b ys)
  (hs:∀ i x y t σ H,xs[i]?=some x→ys[i]?=some y→H t=none→Pv i σ H→g (.ref t) σ (upd H t (.tup [x,y])) fun σ2 H2=>tb {D with nx:=Pv (i + 1),ct:=Pv (i + 1),bk:=D.nx} σ2 H2) (hd:∀ σ H,Pv xs.length σ H→D.nx σ H) :
  ∃ W:Nat→Nat→St→Hp→Prop,(∃ m,W 0 m σ H)∧∀ i m σ H,W i m σ H→
   ((Itz K a b).stop i H∧D.nx σ H)∨((Itz K a b).go i H∧∃ N:St→Hp→Prop,(∀ σ' H',N σ' H'→∃ m',m' < m∧W (i + 1) m' σ' H')∧∀ x H',(Itz K a b).yld i H x H'→g x σ H' fun σ2 H2=>tb {D with nx:=N,ct:=N,bk:=D.nx} σ2 H2):=by
 refine ⟨fun i m σ H=>m=xs.length - i∧i≤xs.length∧Pv i σ H,⟨xs.length,by simp,Nat.zero_le _,h0⟩,?_⟩
 rintro i m σ H ⟨rfl,hi,p⟩
 obtain ⟨q1,q2⟩:=hl i σ H hi p
 by_cases hlt:i < xs.length
 ·have hlt2:i < ys.length:=by omega
  refine .inr ⟨⟨xs,ys,xs[i],ys[i],q1,q2,by simp [hlt],by simp [hlt2]⟩,Pv (i + 1),fun σ' H' p'=>⟨xs.length - (i + 1),by omega,rfl,hlt,p'⟩,fun z H' y=>?_⟩
  obtain ⟨t,x,y,ht,rfl,h1,h2,rfl⟩:=y
  exact hs i x y t σ _ (h1 xs q1) (h2 ys q2) ht p
 ·have e:i=xs.length:=by omega
  subst e
  exact .inl ⟨⟨xs,ys,q1,q2,.inl (Nat.le_refl _)⟩,hd σ H p⟩
end L2
namespace KS
open PySem L2
def ZtY (H:Hp) (o:Option Row) (v:V):Prop:=match o with
 | none=>v=.non
 | some r=>ZR H r v
inductive LogE where
 | wr (n:Int) (b:Option Row)
 | bar
def ZCF (H:Hp) (e:LogE) (v:V):Prop:=match e with
 | .wr n b=>∃ t u,v=.ref t∧H t=some (.tup [.str "write",.int n,u])∧ZtY H b u
 | .bar=>∃ t,v=.ref t∧H t=some (.tup [.str "barrier"])
structure Dsk where
 blocks:List (Option Row)
 log:List LogE
structure ZMM (g:Gs) (H:Hp) (p b l:Addr) (D:Dsk) (dx:Addr) (vb vl:List V):Prop where
 ob:H p=some (.ins g.Disk dx (flds b l))
 hb:H b=some (.lst vb)
 hl:H l=some (.lst vl)
 rb:Paired (fun v o=>ZtY H o v) vb D.blocks
 rl:Paired (fun v e=>ZCF H e v) vl D.log
 ne:b≠l
def Zcj (g:Gs) (H:Hp) (p b l:Addr) (D:Dsk):Prop:=∃ dx vb vl,ZMM g H p b l D dx vb vl
theorem ZtY.keep {H H':Hp} (k:∀ t xs,H t=some (.tup xs)→H' t=some (.tup xs)) {o:Option Row} {v:V} (h:ZtY H o v):ZtY H' o v:=by
 cases o with
 | none=>exact h
 | some r=>obtain ⟨t,e,ht⟩:=h;exact ⟨t,e,k _ _ ht⟩
theorem ZCF.keep {H H':Hp} (k:∀ t xs,H t=some (.tup xs)→H' t=some (.tup xs)) {e:LogE} {v:V} (h:ZCF H e v):ZCF H' e v:=by
 cases e with
 | wr n b=>obtain ⟨t,u,e,ht,hb⟩:=h;exact ⟨t,u,e,k _ _ ht,hb.keep k⟩
 | bar=>obtain ⟨t,e,ht⟩:=h;exact ⟨t,e,k _ _ ht⟩
theorem Zca {α β:Type} {F G:α→β→Prop} (k:∀ a b,F a b→G a b):∀ {xs:List α} {ys:List β},Paired F xs ys→Paired G xs ys
 | _,_,.nil=>.nil
 | _,_,.cons a t=>.cons (k _ _ a) (Zca k t)
theorem Zuc {α β:Type} {F:α→β→Prop} {a:α} {b:β} (h:F a b):∀ {xs:List α} {ys:List β} (i:Nat),Paired F xs ys→Paired F (xs.set i a) (ys.set i b)
 | _,_,_,.nil=>.nil
 | _,_,0,.cons _ t=>.cons h t
 | _,_,i + 1,.cons a' t=>.cons a' (Zuc h i t)
def ZMa (o:HO):Prop:=(∃ xs,o=.tup xs)∨(∃ xs,o=.lst xs)∨∃ C dx b l,o=.ins C dx (flds b l)
theorem Zcj.keep {g:Gs} {H H':Hp} {p b l:Addr} {D:Dsk} (h:Zcj g H p b l D) (k:∀ d o,H d=some o→ZMa o→H' d=some o):Zcj g H' p b l D:=by
 obtain ⟨dx,vb,vl,h⟩:=h
 have kt:∀ t xs,H t=some (.tup xs)→H' t=some (.tup xs):=fun t xs e=>k _ _ e (.inl ⟨xs,rfl⟩)
 exact ⟨dx,vb,vl,k _ _ h.ob (.inr (.inr ⟨_,_,_,_,rfl⟩)),k _ _ h.hb (.inr (.inl ⟨_,rfl⟩)),k _ _ h.hl (.inr (.inl ⟨_,rfl⟩)),Zca (fun _ _ z=>ZtY.keep kt z) h.rb,Zca (fun _ _ z=>ZCF.keep kt z) h.rl,h.ne⟩
theorem Zcj.same {g:Gs} {H H':Hp} {p b l:Addr} {D:Dsk} (s:Same H H') (h:Zcj g H p b l D):Zcj g H' p b l D:=h.keep fun d o e _=>s _ _ e
def Dsk.write (D:Dsk) (n:Int) (b:Option Row):Dsk:=⟨D.blocks.set n.toNat b,D.log++[.wr n b]⟩
def Dsk.barrier (D:Dsk):Dsk:=⟨D.blocks,D.log++[.bar]⟩
theorem Zu6 {g:Gs} {H:Hp} {p b l:Addr} {D:Dsk} {n:Int} {blk:Option Row} {v:V} {Q:VK} {E:XK} (hD:Zcj g H p b l D) (hv:ZtY H blk v) (h0:0≤n) (h1:n < (D.blocks.length:Int)) (hz:D.log.length≤100000)
  (q:∀ H',But2 b l H H'→Zcj g H' p b l (D.write n blk)→Q .non H'):ZFk g.Disk [.ref p,.int n,v] H Q E:=by
 obtain ⟨dx,vb,vl,h⟩:=hD
 have hbl:vb.length=D.blocks.length:=Paired.length h.rb
 have hll:vl.length=D.log.length:=Paired.length h.rl
 refine ⟨p,dx,b,l,vb,vl,n,v,rfl,h.ob,h.hb,h.hl,h.ne,h0,by rw [hbl];exact h1,by rw [hll];exact hz,fun t ht=>?_⟩
 have ntb:b≠t:=Zd h.hb ht
 have ntl:l≠t:=Zd h.hl ht
 have npb:p≠b:=ZP h.ob h.hb (by intro z;cases z)
 have npl:p≠l:=ZP h.ob h.hl (by intro z;cases z)
 have k:But2 b l H (upd (upd (upd H b (.lst (vb.set n.toNat v))) t (.tup [.str "write",.int n,v])) l (.lst (vl++[.ref t]))):=fun d o e hd1 hd2=>by
  rw [Zc hd2,Zc (Zd e ht),Zc hd1];exact e
 have kt:∀ d xs,H d=some (.tup xs)→(upd (upd (upd H b (.lst (vb.set n.toNat v))) t (.tup [.str "write",.int n,v])) l (.lst (vl++[.ref t]))) d=some (.tup xs):=fun d xs e=>k _ _ e (ZP e h.hb (by intro z;cases z)) (ZP e h.hl (by intro z;cases z))
 refine q _ k ⟨dx,vb.set n.toNat v,_,k _ _ h.ob npb npl,?_,Zb,?_,?_,h.ne⟩
 ·rw [Zc h.ne,Zc ntb,Zb]
 ·exact Zuc (F:=fun v o=>ZtY _ o v) (hv.keep kt) _ (Zca (fun _ _ z=>ZtY.keep kt z) h.rb)
 ·refine Paired.snoc (Zca (fun _ _ z=>ZCF.keep kt z) h.rl) ⟨t,v,rfl,?_,hv.keep kt⟩
  rw [Zc ntl.symm,Zb]
theorem ZuO {g:Gs} {H:Hp} {p b l:Addr} {D:Dsk} {Q:VK} {E:XK} (hD:Zcj g H p b l D) (hz:D.log.length≤100000) (q:∀ H',But2 b l H H'→Zcj g H' p b l D.barrier→Q .non H'):ZK3 g.Disk [.ref p] H Q E:=by
 obtain ⟨dx,vb,vl,h⟩:=hD
 have hll:vl.length=D.log.length:=Paired.length h.rl
 refine ⟨p,dx,b,l,vl,rfl,h.ob,h.hl,by rw [hll];exact hz,fun t ht=>?_⟩
 have ntl:l≠t:=Zd h.hl ht
 have npb:p≠b:=ZP h.ob h.hb (by intro z;cases z)
 have npl:p≠l:=ZP h.ob h.hl (by intro z;cases z)
 have k:∀ d o,H d=some o→d≠l→(upd (upd H t (.tup [.str "barrier"])) l (.lst (vl++[.ref t]))) d=some o:=fun d o e hd2=>by
  rw [Zc hd2,Zc (Zd e ht)];exact e
 have kt:∀ d xs,H d=some (.tup xs)→(upd (upd H t (.tup [.str "barrier"])) l (.lst (vl++[.ref t]))) d=some (.tup xs):=fun d xs e=>k _ _ e (ZP e h.hl (by intro z;cases z))
 refine q _ (fun d o e _ h2=>k d o e h2) ⟨dx,_,_,k _ _ h.ob npl,k _ _ h.hb h.ne,Zb,Zca (fun _ _ z=>ZtY.keep kt z) h.rb,?_,h.ne⟩
 refine Paired.snoc (Zca (fun _ _ z=>ZCF.keep kt z) h.rl) ⟨t,rfl,?_⟩
 rw [Zc ntl.symm,Zb]
def Zc3 (D:Dsk):Int:=if (256:Int) < (D.blocks.length:Int) then 256 else (D.blocks.length:Int)
structure Sto where
 slot:Int
 turn:Int
 synced:Zbd
def tfl (d s t y:V):List (Str×V):=putF "synced" y (putF "turn" t (putF "slot" s (putF "disk" d [])))
theorem tf1:¬ (("disk":Str)="synced"):=by decide +kernel
theorem tf2:¬ (("disk":Str)="turn"):=by decide +kernel
theorem tf3:¬ (("disk":Str)="slot"):=by decide +kernel
theorem tf4:¬ (("slot":Str)="synced"):=by decide +kernel
theorem tf5:¬ (("slot":Str)="turn"):=by decide +kernel
theorem tf6:¬ (("turn":Str)="synced"):=by decide +kernel
theorem ZFd (d s t y:V):(tfl d s t y).lookup ("disk":Str)=some d:=by unfold tfl;rw [Zj,if_neg tf1,Zj,if_neg tf2,Zj,if_neg tf3,Zj,if_pos rfl]
theorem ZFc (d s t y:V):(tfl d s t y).lookup ("slot":Str)=some s:=by unfold tfl;rw [Zj,if_neg tf4,Zj,if_neg tf5,Zj,if_pos rfl]
theorem ZKI (d s t y:V):(tfl d s t y).lookup ("turn":Str)=some t:=by unfold tfl;rw [Zj,if_neg tf6,Zj,if_pos rfl]
theorem ZJn (d s t y:V):(tfl d s t y).lookup ("synced":Str)=some y:=by unfold tfl;rw [Zj,if_pos rfl]
theorem ZCU (d s t y:V) {m:Str} (h1:¬ m="synced":=by decide +kernel) (h2:¬ m="turn":=by decide +kernel) (h3:¬ m="slot":=by decide +kernel) (h4:¬ m="disk":=by decide +kernel):(tfl d s t y).lookup m=none:=by
 unfold tfl
 rw [Zj,if_neg h1,Zj,if_neg h2,Zj,if_neg h3,Zj,if_neg h4]
 rfl
theorem Zkh (d s t y:V):tfl d s t y=([("disk",d),("slot",s),("turn",t),("synced",y)]:List (Str×V)):=by
 have e1:putF "slot" s [(("disk":Str),d)]=([("disk",d),("slot",s)]:List (Str×V)):=by
  show (if ("disk":Str)="slot" then [(("disk":Str),s)] else (("disk":Str),d)::putF "slot" s [])=_
  rw [if_neg tf3];rfl
 have e2:putF "turn" t [(("disk":Str),d),(("slot":Str),s)]=([("disk",d),("slot",s),("turn",t)]:List (Str×V)):=by
  show (if ("disk":Str)="turn" then (("disk":Str),t)::[(("slot":Str),s)] else (("disk":Str),d)::(if ("slot":Str)="turn" then [(("slot":Str),t)] else (("slot":Str),s)::putF "turn" t []))=_
  rw [if_neg tf2,if_neg tf5];rfl
 have e3:putF "synced" y [(("disk":Str),d),(("slot":Str),s),(("turn":Str),t)]=([("disk",d),("slot",s),("turn",t),("synced",y)]:List (Str×V)):=by
  show (if ("disk":Str)="synced" then (("disk":Str),y)::[(("slot":Str),s),(("turn":Str),t)] else (("disk":Str),d)::(if ("slot":Str)="synced" then (("slot":Str),y)::[(("turn":Str),t)] else (("slot":Str),s)::(if ("turn":Str)="synced" then [(("turn":Str),y)] else (("turn":Str),t)::putF "synced" y [])))=_
  rw [if_neg tf1,if_neg tf4,if_neg tf6];rfl
 show putF "synced" y (putF "turn" t (putF "slot" s [(("disk":Str),d)]))=_
 rw [e1,e2,e3]
theorem ZHl (d s t y s':V):putF "slot" s' (tfl d s t y)=tfl d s' t y:=by
 rw [Zkh,Zkh]
 show (if ("disk":Str)="slot" then (("disk":Str),s')::[(("slot":Str),s),(("turn":Str),t),(("synced":Str),y)] else (("disk":Str),d)::(if ("slot":Str)="slot" then (("slot":Str),s')::[(("turn":Str),t),(("synced":Str),y)] else _))=_
 rw [if_neg tf3,if_pos rfl]
theorem ZHj (d s t y t':V):putF "turn" t' (tfl d s t y)=tfl d s t' y:=by
 rw [Zkh,Zkh]
 show (if ("disk":Str)="turn" then (("disk":Str),t')::[(("slot":Str),s),(("turn":Str),t),(("synced":Str),y)] else (("disk":Str),d)::(if ("slot":Str)="turn" then (("slot":Str),t')::[(("turn":Str),t),(("synced":Str),y)] else (("slot":Str),s)::(if ("turn":Str)="turn" then (("turn":Str),t')::[(("synced":Str),y)] else _)))=_
 rw [if_neg tf2,if_neg tf5,if_pos rfl]
theorem ZHk (d s t y y':V):putF "synced" y' (tfl d s t y)=tfl d s t y':=by
 rw [Zkh,Zkh]
 show (if ("disk":Str)="synced" then (("disk":Str),y')::[(("slot":Str),s),(("turn":Str),t),(("synced":Str),y)] else (("disk":Str),d)::(if ("slot":Str)="synced" then (("slot":Str),y')::[(("turn":Str),t),(("synced":Str),y)] else (("slot":Str),s)::(if ("turn":Str)="synced" then (("turn":Str),y')::[(("synced":Str),y)] else (("turn":Str),t)::(if ("synced":Str)="synced" then [(("synced":Str),y')] else _))))=_
 rw [if_neg tf1,if_neg tf4,if_neg tf6,if_pos rfl]
def ZsP (g:Gs) (H:Hp) (q p:Addr) (S:Sto):Prop:=∃ dx y,H q=some (.ins g.Store dx (tfl (.ref p) (.int S.slot) (.int S.turn) y))∧Zip H S.synced y
theorem ZsP.same {g:Gs} {H H':Hp} {q p:Addr} {S:Sto} (s:Same H H'):ZsP g H q p S→ZsP g H' q p S
 | ⟨dx,y,h1,h2⟩=>⟨dx,y,s _ _ h1,Zip.mono _ _ _ _ s h2⟩
end KS
namespace KS
open PySem L2
theorem ZwE (b l:Addr):(flds b l).lookup ("write":Str)=none:=ZB7 b l (by decide +kernel) (by decide +kernel)
theorem Zuf (b l:Addr):(flds b l).lookup ("barrier":Str)=none:=ZB7 b l (by decide +kernel) (by decide +kernel)
def Zcn (T:Sto) (D:Dsk) (S:Sta) (k:Kept):Except Rf Img:=Zfa S k (ZbU (Zc3 D) T.synced) T.synced
theorem Zzx (n:Int) (pl:Zbd) (h:n≤256):(ZbU n pl).length≤256:=by
 unfold ZbU
 refine Nat.le_trans (List.length_filterMap_le _ _) ?_
 rw [List.length_range]
 omega
structure ZKx (pl:Zbd):Prop where
 n:pl.length≤1000
 ne:∀ p∈pl,p.2≠[]
 fl:(pl.map (·.2)).flatten.length≤100000
theorem ZbN (f:Str) (v:V):∀ fs:List (Str×V),(putF f v fs).length≤fs.length + 1
  | []=>Nat.le_refl _
  | (k,x)::r=>by
    show (if k=f then (k,v)::r else (k,x)::putF f v r).length≤r.length + 1 + 1
    split
    · exact Nat.le_succ _
    · exact Nat.succ_le_succ (ZbN f v r)
section
variable {P:Program} {w:World} {K:PySem.W.Frag} {mg:Str→Option Value} {base:Heap} {g:Gs}
def ZD1 (g:Gs):Sp:=fun vs H Q _=>∃ p b l D,vs=[.ref p]∧Zcj g H p b l D∧Q (.int (Zc3 D)) H
theorem Zte:Zq ["disk"] ["disk"] (Zg ZaV):=⟨rfl,rfl,rfl,by decide +kernel,rfl,by decide +kernel,by decide +kernel⟩
theorem Ztn (T:Tx K mg g):FnOk P w K mg base (CXE P w) 1 g.Zj5 g.ZfL ["disk"] (ZD1 g):=by
 refine T.Znl.okE Zte (fun vs H Q E h=>?_) (fun cdv A outer s H vs Q E hr h=>?_)
 ·obtain ⟨p,b,l,D,rfl,_⟩:=h
  rfl
 ·obtain ⟨p,b,l,D,rfl,⟨dx,vb,vl,hD⟩,q⟩:=h
  refine ⟨_,(Zi (ZE (ZC (ZzM rfl) (by rfl) T.ZHf PyProof.Rows.Boot.«min» (Za (ZC ZM (by rfl) T.ZcH PySem.boot_len (Za (ZJ (pv 0) rfl) Zf)) (Za (ZF (v:=.int 256) rfl T.ZcW ⟨_,rfl⟩) Zf))))),?_⟩
  refine ⟨_,rfl,p,_,dx,_,_,rfl,hD.ob,T.Zhv,T.ZbR,ZI0 _ _,b,_,rfl,.inl (SqL.of hD.hb),_,_,rfl,?_⟩
  rw [Paired.length hD.rb]
  exact q
def ZFm (g:Gs):Sp:=fun vs H Q _=>∃ q dx d s t y,vs=[.ref q,d,s,t,y]∧H q=some (.ins g.Store dx [])∧∀ H',(∀ b o,H b=some o→b≠q→H' b=some o)→H' q=some (.ins g.Store dx (tfl d s t y))→Q .non H'
theorem ZvD:Zq ["self","disk","slot","turn","synced"] ["self","disk","slot","turn","synced"] (Zg Zbx):=⟨rfl,rfl,rfl,by decide +kernel,rfl,by decide +kernel,by decide +kernel⟩
theorem ZvV (T:Tx K mg g):FnOk P w K mg base (CXE P w) 1 g.Zog g.ZhG ["self","disk","slot","turn","synced"] (ZFm g):=by
 refine T.ZAu.okE ZvD (fun vs H Q E h=>?_) (fun cdv A outer s H vs Q E hr h=>?_)
 ·obtain ⟨q0,dx,d,s0,t,y,rfl,_⟩:=h
  rfl
 ·obtain ⟨q0,dx,d,s0,t,y,rfl,hq,q⟩:=h
  refine ⟨_,(Ze (ZaF (pv 0) (pv 1) rfl)
   (Ze (ZaF (pv 0) (pv 2) rfl)
   (Ze (ZaF (pv 0) (pv 3) rfl)
   (Zi (ZaF (pv 0) (pv 4) rfl))))),?_⟩
  refine ⟨_,rfl,_,rfl,q0,g.Store,dx,[],rfl,hq,T.Z4,T.Zan,(by show 0 < 1000;decide),?_⟩
  refine ⟨_,rfl,_,rfl,q0,g.Store,dx,_,rfl,Zb,T.Z4,T.ZbG,(by show 1 < 1000;decide),?_⟩
  refine ⟨_,rfl,_,rfl,q0,g.Store,dx,_,rfl,Zb,T.Z4,T.ZbF,?_,?_⟩
  ·exact Nat.lt_of_le_of_lt (ZbN _ _ _) (Nat.lt_of_le_of_lt (Nat.succ_le_succ (ZbN _ _ _)) (by show 2 < 1000;decide))
  refine ⟨_,rfl,_,rfl,q0,g.Store,dx,_,rfl,Zb,T.Z4,T.Zac,?_,?_⟩
  ·exact Nat.lt_of_le_of_lt (ZbN _ _ _) (Nat.lt_of_le_of_lt (Nat.succ_le_succ (ZbN _ _ _)) (Nat.lt_of_le_of_lt (Nat.succ_le_succ (Nat.succ_le_succ (ZbN _ _ _))) (by show 3 < 1000;decide)))
  refine q _ (fun b o e hb=>?_) Zb
  rw [Zc hb,Zc hb,Zc hb,Zc hb]
  exact e
def ZDY (g:Gs):Sp:=fun vs H Q E=>∃ q p b l T D v S kv k,vs=[.ref q,v,kv]∧ZsP g H q p T∧Zcj g H p b l D∧ZS g H S v∧ZhJ g H k kv∧Zoi S∧ZAq k∧ZKx T.synced∧Ans g (Zj9 g) H (Zcn T D S k) Q E
theorem Zdy:Zq ["self","state","kept","free"] ["self","state","kept"] (Zg Z1):=⟨rfl,rfl,rfl,by decide +kernel,rfl,by decide +kernel,by decide +kernel⟩
theorem ZdE (T:Tx K mg g):FnOk P w K mg base (CXE P w) 5 g.Zdu g.Zci ["self","state","kept"] (ZDY g):=by
 refine T.Zoo.okE Zdy (fun vs H Q E h=>?_) (fun cdv A outer s H vs Q E hr h=>?_)
 ·obtain ⟨q0,p,b,l,T0,D,v,S,kv,k,rfl,_⟩:=h
  rfl
 ·obtain ⟨q0,p,b,l,T0,D,v,S,kv,k,rfl,⟨dx,y,hq,hy⟩,hD,hS,hk,so,kk,po,q⟩:=h
  refine ⟨_,(Ze (ZI (i:=3) Zdy.nd rfl (Or.inl rfl) (Zx (Zru T) hr.dn rfl T.ZtG T.Zjr.kp T.ZtL .nil Zh (Za (Zx (Ztn T) hr.dn rfl T.ZwL T.Znl.kp T.Zw5 .nil Zh (Za (ZJ (pv 0) rfl) Zf)) (Za (ZJ (pv 0) rfl) Zf))))
   (Zi (ZE (Zx (ZBw T) hr.dn rfl T.ZEz T.ZuU.kp T.ZEO .nil Zh (Za (pv 1) (Za (pv 2) (Za (pv 3) (Za (ZJ (pv 0) rfl) Zf)))))))),?_⟩
  obtain ⟨ya,ky,rfl,hya,hyd⟩:=id hy
  refine ⟨_,rfl,q0,_,dx,_,_,rfl,hq,T.Z4,T.Zan,ZFd _ _ _ _,p,b,l,D,rfl,hD,_,rfl,q0,_,dx,_,_,rfl,hq,T.Z4,T.Zac,ZJn _ _ _ _,?_⟩
  have hc0:0≤Zc3 D:=by unfold Zc3;split <;> omega
  have hc1:Zc3 D≤256:=by unfold Zc3;split <;> omega
  refine ⟨_,_,T0.synced,rfl,hy,hc0,hc1,po.n,po.fl,fun f H1 s1 hf=>?_⟩
  refine ⟨_,rfl,_,rfl,_,rfl,_,rfl,q0,_,dx,_,_,rfl,s1 _ _ hq,T.Z4,T.Zac,ZJn _ _ _ _,?_⟩
  refine ⟨v,S,kv,k,f,_,_,T0.synced,rfl,ZS.mono _ _ _ _ s1 hS,ZhJ.mono _ _ _ _ s1 hk,hf,Zip.mono _ _ _ _ s1 hy,so,kk,Nat.le_trans (Zzx _ _ hc1) (by decide),po.ne,?_⟩
  unfold Zcn at q
  cases hm:Zfa S k (ZbU (Zc3 D) T0.synced) T0.synced with
  | error r=>rw [hm] at q;exact fun H' s'=>q H' (s1.trans s')
  | ok I=>rw [hm] at q;exact fun v' H' s' h'=>q v' H' (s1.trans s') h'
end
end KS
namespace KS
open PySem L2
def ZxQ (D:Dsk) (p:Int×Row):Dsk:=D.write p.1 (some p.2)
def ZE4 (D:Dsk) (row ns:Row):Dsk:=(ns.zip (Zad row ns)).foldl ZxQ D
def ZdB (syn:Zbd) (D:Dsk) (p:Row×Row):Dsk:=if (getA syn p.1).isSome then D else ZE4 D p.1 p.2
def ZvK (T:Sto) (D:Dsk) (I:Img):Sto×Dsk:=
 (⟨1 - T.slot,(T.turn + 1) % 256,I.places⟩,((((I.places.foldl (ZdB T.synced) D).barrier).write (1 - T.slot) (some (Zl4 I ((T.turn + 1) % 256)))).barrier))
theorem Zhk {row ns:Row} (h:ns≠[]):(Zad row ns).length=ns.length:=by
 unfold Zad Zdi
 rw [List.length_map,List.length_range,List.length_append,List.length_drop]
 have:0 < ns.length:=List.length_pos_iff.mpr h
 show ns.length - 1 + 1=ns.length
 omega
theorem ZE3:∀ (ps:List (Int×Row)) (D:Dsk),(ps.foldl ZxQ D).blocks.length=D.blocks.length∧(ps.foldl ZxQ D).log.length=D.log.length + ps.length
 | [],D=>⟨rfl,rfl⟩
 | p::ps,D=>by
  obtain ⟨h1,h2⟩:=ZE3 ps (ZxQ D p)
  rw [List.foldl_cons]
  refine ⟨h1.trans (List.length_set ..),h2.trans ?_⟩
  show (D.log++[LogE.wr p.1 (some p.2)]).length + ps.length=_
  simp only [List.length_append,List.length_cons,List.length_nil]
  omega
theorem ZC4 (syn:Zbd):∀ (pl:Zbd) (D:Dsk),(∀ p∈pl,p.2≠[])→(pl.foldl (ZdB syn) D).blocks.length=D.blocks.length∧(pl.foldl (ZdB syn) D).log.length≤D.log.length + (pl.map (·.2)).flatten.length
 | [],D,_=>⟨rfl,Nat.le_refl _⟩
 | p::pl,D,h=>by
  obtain ⟨h1,h2⟩:=ZC4 syn pl (ZdB syn D p) fun q hq=>h q (List.mem_cons_of_mem _ hq)
  have hs:(ZdB syn D p).blocks.length=D.blocks.length∧(ZdB syn D p).log.length≤D.log.length + p.2.length:=by
   unfold ZdB
   split
   ·exact ⟨rfl,Nat.le_add_right _ _⟩
   ·unfold ZE4
    obtain ⟨a1,a2⟩:=ZE3 (p.2.zip (Zad p.1 p.2)) D
    refine ⟨a1,?_⟩
    rw [a2,List.length_zip,Zhk (h p List.mem_cons_self),Nat.min_self]
    exact Nat.le_refl _
  rw [List.foldl_cons,List.map_cons,List.flatten_cons,List.length_append]
  refine ⟨h1.trans hs.1,?_⟩
  omega
theorem Zuy {α β:Type} (f:β→α→β) (b:β) (xs:List α) {i:Nat} {x:α} (h:xs[i]?=some x):(xs.take (i + 1)).foldl f b=f ((xs.take i).foldl f b) x:=by
 have hi:i < xs.length:=(List.getElem?_eq_some_iff.mp h).1
 rw [List.take_succ_eq_append_getElem hi,List.foldl_append,(List.getElem?_eq_some_iff.mp h).2]
 rfl
theorem ZKq {H:Hp} {a t:Addr} {kvs:List (List Key×V)} {row:Row} (e:Rd H a (.dT kvs)) (ht:H t=some (.tup (row.map V.int))):DGet H a (.ref t) (valV kvs (rKey row)):=.inr ⟨kvs,rKey row,t,e,rfl,by rw [Zre];exact ht,rfl⟩
theorem ZzC {H:Hp}:∀ {pl:Zbd} {kvs:List (List Key×V)},ZX rKey ZR H pl kvs→∀ {i:Nat} {k:List Key} {v:V},kvs[i]?=some (k,v)→∃ row ns,pl[i]?=some (row,ns)∧k=rKey row∧ZR H ns v
 | _,_,.nil,i,k,v,h=>by simp at h
 | q::_,p::_,.cons a t,0,k,v,h=>by
  simp at h
  obtain ⟨a1,a2⟩:=a
  rw [h] at a1 a2
  exact ⟨q.1,q.2,rfl,a1,a2⟩
 | _,_,.cons a t,i + 1,k,v,h=>by
  obtain ⟨row,ns,h1,h2,h3⟩:=ZzC t (i:=i) (by simpa using h)
  exact ⟨row,ns,by simpa using h1,h2,h3⟩
theorem ZDq {H H':Hp} (k:∀ d xs,H d=some (.tup xs)→H' d=some (.tup xs)) {pl:Zbd} {kvs:List (List Key×V)} (h:ZX rKey ZR H pl kvs):ZX rKey ZR H' pl kvs:=by
 unfold ZX at *
 induction h with
 | nil=>exact .nil
 | cons a _ ih=>obtain ⟨e1,t,e2,ht⟩:=a;exact .cons ⟨e1,t,e2,k _ _ ht⟩ ih
structure ZKA (D:Dsk) (I:Img):Prop where
 n:I.places.length≤1000
 h:I.heads.length≤1000
 ne:∀ p∈I.places,p.2≠[]∧p.2.length≤1000∧∀ n∈p.2,0≤n∧n < (D.blocks.length:Int)
 fl:(I.places.map (·.2)).flatten.length≤50000
section
variable {P:Program} {w:World} {K:PySem.W.Frag} {mg:Str→Option Value} {base:Heap} {g:Gs}
def ZKV (g:Gs):Sp:=fun vs H Q _=>∃ q p b l T D v I,vs=[.ref q,v]∧ZsP g H q p T∧Zcj g H p b l D∧Zj9 g H I v∧ZKA D I∧(T.slot=0∨T.slot=1)∧2≤D.blocks.length∧D.log.length≤40000∧
 ∀ H',(∀ d o,H d=some o→d≠b→d≠l→d≠q→H' d=some o)→ZsP g H' q p (ZvK T D I).1→Zcj g H' p b l (ZvK T D I).2→Q .non H'
theorem ZbM:Zq ["self","image","row","numbers","number","block"] ["self","image"] (Zg Zbw):=⟨rfl,rfl,rfl,by decide +kernel,rfl,by decide +kernel,by decide +kernel⟩
theorem ZvU (T:Tx K mg g):FnOk P w K mg base (CXE P w) 8 g.Zof g.ZhF ["self","image"] (ZKV g):=by
 refine T.ZAt.okE ZbM (fun vs H Q E h=>?_) (fun cdv A outer s H vs Q E hr h=>?_)
 ·obtain ⟨q0,p,b,l,T0,D,v,I,rfl,_⟩:=h
  rfl
 ·obtain ⟨q0,p,b,l,T0,D,v,I,rfl,⟨dxs,y,hq,hy⟩,hD,⟨pi,dxi,plv,hdv,rfl,hpi,⟨pa,kvs,rfl,hpa,hpd⟩,hhd⟩,io,hslot,hb2,hlog,q⟩:=h
  obtain ⟨ya,ky,rfl,hya,hyd⟩:=id hy
  have hu:=u1 hr.units
  obtain ⟨dxd,vb,vl,hDD⟩:=id hD
  refine ⟨_,(Ze (ZFH (Zdc PassesOwn.leaving rfl (ZHH (ZC7 PySem.F.plainAttrs_dict PySem.F.slot_dict_items PySem.F.type_dict_items Zy2 (ZJ (pv 1) rfl))) (Zys rfl (Zcm (ZQ (i:=2) ZbM.nd rfl (Or.inl rfl)) (Zcm (ZQ (i:=3) ZbM.nd rfl (Or.inl rfl)) Zrp))) (Zi (ZbK (ZfT (Zet hu (pv 2) (ZJ (pv 0) rfl))) (Zi (Zdc PassesOwn.leaving rfl (ZLf rfl T.ZJf (Za (pv 3) (Za (Zx (Zrv T) hr.dn rfl T.ZtH T.Zjs.kp T.ZtM .nil Zh (Za (pv 2) (Za (pv 3) Zf))) Zf))) (Zys rfl (Zcm (ZQ (i:=4) ZbM.nd rfl (Or.inl rfl)) (Zcm (ZQ (i:=5) ZbM.nd rfl (Or.inl rfl)) Zrp))) (Zi (Zah (ZbO (ZJ (pv 0) rfl) T.Zhv T.Zg3 (Ze6 T) hr.dn T.Zhz .nil Zh (Za (pv 4) (Za (pv 5) Zf))))))) ZT))))
   (Ze (Zah (ZvL (ZJ (pv 0) rfl) T.Zhv T.ZiY (ZgM T) hr.dn T.Zjj .nil Zh))
   (Ze (ZaF (pv 0) (ZD Zud Zn (ZJ (pv 0) rfl)) rfl)
   (Ze (ZaF (pv 0) (ZD Zb0 (ZD ZgK (ZJ (pv 0) rfl) Zn) (ZF (v:=.int 256) rfl T.ZwV ⟨_,rfl⟩)) rfl)
   (Ze (Zah (ZbO (ZJ (pv 0) rfl) T.Zhv T.Zg3 (Ze6 T) hr.dn T.Zhz .nil Zh (Za (ZJ (pv 0) rfl) (Za (Zx (ZvQ T) hr.dn rfl T.Zy4 T.Zqi.kp T.ZzU .nil Zh (Za (pv 1) (Za (ZJ (pv 0) rfl) Zf))) Zf))))
   (Ze (Zah (ZvL (ZJ (pv 0) rfl) T.Zhv T.ZiY (ZgM T) hr.dn T.Zjj .nil Zh))
   (Zi (ZaF (pv 0) (ZJ (pv 1) rfl) rfl)))))))),?_⟩
  refine ⟨pa,.dT kvs,hpa,rfl,?_⟩
  refine ⟨_,rfl,pi,_,dxi,_,_,rfl,hpi,T.Zoa,T.ZaA,ZKe _ _,.inr (.inr (.inl ⟨rfl,.inr ⟨kvs,hpa⟩⟩)),pa,.dT kvs,rfl,rfl,.inl hpa,rfl,fun r hr1=>?_⟩
  have npr:pa≠r:=Zd hpa hr1
  refine ⟨r,pa,kvs,rfl,Zb,(by rw [Zc npr];exact hpa),fun ob=>?_⟩
  have nqp:q0≠pa:=ZP hq hpa (by intro z;cases z)
  have nbp:b≠pa:=ZP hDD.hb hpa (by intro z;cases z)
  have nlp:l≠pa:=ZP hDD.hl hpa (by intro z;cases z)
  have npp:p≠pa:=ZP hDD.ob hpa (by intro z;cases z)
  have nqb:q0≠b:=ZP hq hDD.hb (by intro z;cases z)
  have nql:q0≠l:=ZP hq hDD.hl (by intro z;cases z)
  have hkl:kvs.length=I.places.length:=hpd.len
  refine ZGy (d:=pa) (ob:=ob) (kvs:=kvs) (fun i σ H'=>(∃ o2 o3 o4 o5,σ=[some (.ref q0),some (.ref pi),o2,o3,o4,o5])∧H' pa=some (.frz ob (.dT kvs))∧(∀ d o,H d=some o→d≠b→d≠l→d≠pa→H' d=some o)∧Zcj g H' p b l ((I.places.take i).foldl (ZdB T0.synced) D))
   ⟨⟨none,none,none,none,rfl⟩,Zb,(fun d o e _ _ h3=>by rw [Zc h3,Zc (Zd e hr1)];exact e),hD.keep (fun d o e _=>?_)⟩ (fun i σ H' _ h=>h.2.1) (fun i t b0 k v0 σ H' hkv hb0 ht h=>?_) (fun σ H' h=>?_)
  ·by_cases z:d=pa
   ·rename_i hob
    subst z
    rw [hpa] at e
    cases e
    rcases hob with ⟨_,z⟩ | ⟨_,z⟩ | ⟨_,_,_,_,z⟩ <;> cases z
   ·rw [Zc z,Zc (Zd e hr1)];exact e
  ·obtain ⟨⟨o2,o3,o4,o5,rfl⟩,hfz,kp,hDi⟩:=h
   obtain ⟨row,ns,hpl,rfl,⟨tv,rfl,htv⟩⟩:=ZzC hpd hkv
   rw [Zre] at hb0
   have hmem:=List.mem_of_getElem? hpl
   obtain ⟨hne,hnl,hrng⟩:=io.ne _ hmem
   change ns≠[] at hne
   change ns.length≤1000 at hnl
   change ∀ n∈ns,_ at hrng
   have s1:=Zk (o:=.tup [.ref b0,.ref tv]) ht
   refine ⟨t,_,rfl,SqT.of Zb,rfl,_,_,rfl,_,_,rfl,rfl,?_⟩
   have hqA:∀ {H2:Hp},(∀ d o,H d=some o→d≠b→d≠l→d≠pa→H2 d=some o)→H2 q0=some (.ins g.Store dxs (tfl (.ref p) (.int T0.slot) (.int T0.turn) (.ref ya))):=fun k2=>k2 _ _ hq nqb nql nqp
   have kp1:∀ d o,H d=some o→d≠b→d≠l→d≠pa→(upd H' t (.tup [.ref b0,.ref tv])) d=some o:=fun d o e h1 h2 h3=>s1 _ _ (kp d o e h1 h2 h3)
   have hyR:Rd (upd H' t (.tup [.ref b0,.ref tv])) ya (.dT ky):=by
    by_cases z:ya=pa
    ·subst z
     rw [hpa] at hya
     cases hya
     exact .inr ⟨ob,s1 _ _ hfz⟩
    ·exact .inl (kp1 _ _ hya (ZP hya hDD.hb (by intro z;cases z)) (ZP hya hDD.hl (by intro z;cases z)) z)
   refine ⟨_,rfl,_,rfl,q0,_,dxs,_,_,rfl,hqA kp1,T.Z4,T.Zac,ZJn _ _ _ _,ya,_,rfl,ZKq hyR (s1 _ _ hb0),_,rfl,?_⟩
   rw [hyd.some ZhY,Zuy _ _ _ hpl]
   generalize hDe:(I.places.take i).foldl (ZdB T0.synced) D=Di at hDi
   have hlen:Di.blocks.length=D.blocks.length∧Di.log.length≤90000:=by
    rw [← hDe]
    obtain ⟨a1,a2⟩:=ZC4 T0.synced (I.places.take i) D fun p hp=>(io.ne p (List.mem_of_mem_take hp)).1
    refine ⟨a1,Nat.le_trans a2 ?_⟩
    have e1:(I.places.map (·.2)).flatten=((I.places.take i).map (·.2)).flatten++((I.places.drop i).map (·.2)).flatten:=by
     rw [← List.flatten_append,← List.map_append,List.take_append_drop]
    have hfl:=io.fl
    rw [e1,List.length_append] at hfl
    omega
   unfold ZdB
   cases hg:(getA T0.synced row).isSome with
   | true=>
    refine iteF ⟨⟨_,_,_,_,rfl⟩,s1 _ _ hfz,kp1,?_⟩
    rw [if_pos rfl]
    exact hDi.same s1
   | false=>
    rw [if_neg (show ¬ (false=true) by decide)]
    refine iteT ?_
    have htv1:=kp1 _ _ htv (ZP htv hDD.hb (by intro z;cases z)) (ZP htv hDD.hl (by intro z;cases z)) (ZP htv hpa (by intro z;cases z))
    refine ⟨_,rfl,_,rfl,_,rfl,row,_,ns,_,rfl,⟨b0,rfl,s1 _ _ hb0⟩,⟨tv,rfl,htv1⟩,Nat.le_trans hnl (by decide),fun lb us H4 s4 hlb hlb4 hus=>?_⟩
    have hD4:Zcj g H4 p b l Di:=(hDi.same s1).same s4
    obtain ⟨dx4,vb4,vl4,h4⟩:=id hD4
    obtain ⟨dx1,vb1,vl1,h1D⟩:=id (hDi.same s1)
    have nlb:lb≠b:=(Zd h1D.hb hlb).symm
    have nll:lb≠l:=(Zd h1D.hl hlb).symm
    have nlbp:lb≠pa:=(Zd (s1 _ _ hfz) hlb).symm
    have kp4:∀ d o,H d=some o→d≠b→d≠l→d≠pa→H4 d=some o:=fun d o e h1 h2 h3=>s4 _ _ (kp1 d o e h1 h2 h3)
    have hcl:=Zhk (row:=row) hne
    have hul:us.length=ns.length:=by rw [Paired.length hus,hcl]
    refine ⟨tv,lb,rfl,⟨_,SqT.of (s4 _ _ htv1)⟩,⟨_,SqL.of hlb4⟩,?_⟩
    refine ZKi (xs:=ns.map V.int) (ys:=us) (fun j σ H'=>(∃ o4 o5,σ=[some (.ref q0),some (.ref pi),some (.ref b0),some (.ref tv),o4,o5])∧H' pa=some (.frz ob (.dT kvs))∧(∀ d o,H d=some o→d≠b→d≠l→d≠pa→H' d=some o)∧H' lb=some (.lst us)∧Paired (fun a b=>ZR H' b a) us (Zad row ns)∧Zcj g H' p b l (((ns.zip (Zad row ns)).take j).foldl ZxQ Di))
     (by rw [List.length_map,hul]) ⟨⟨_,_,rfl⟩,s4 _ _ (s1 _ _ hfz),kp4,hlb4,hus,hD4⟩ (fun j σ H' _ h=>?_) (fun j x y t2 σ H' hx hy ht2 h=>?_) (fun σ H' h=>?_)
    ·obtain ⟨_,_,kp5,hlb5,_,_⟩:=h
     exact ⟨SqT.of (kp5 _ _ htv (ZP htv hDD.hb (by intro z;cases z)) (ZP htv hDD.hl (by intro z;cases z)) (ZP htv hpa (by intro z;cases z))),SqL.of hlb5⟩
    ·obtain ⟨⟨o4,o5,rfl⟩,hfz5,kp5,hlb5,hus5,hD5⟩:=h
     rw [List.getElem?_map] at hx
     cases hn:ns[j]? with
     | none=>rw [hn] at hx;cases hx
     | some n=>
      rw [hn] at hx
      cases hx
      obtain ⟨blk,hblk,hrow⟩:=Zrt hus5 hy
      obtain ⟨hn0,hn1⟩:=hrng n (List.mem_of_getElem? hn)
      have hz:(ns.zip (Zad row ns))[j]?=some (n,blk):=by rw [List.getElem?_zip_eq_some];exact ⟨hn,hblk⟩
      have s6:=Zk (o:=.tup [.int n,y]) ht2
      refine ⟨t2,_,rfl,SqT.of Zb,rfl,_,_,rfl,_,_,rfl,rfl,?_⟩
      have hD6:=hD5.same s6
      obtain ⟨dx6,vb6,vl6,h6⟩:=id hD6
      obtain ⟨w1,w2⟩:=ZE3 ((ns.zip (Zad row ns)).take j) Di
      have hjl:((ns.zip (Zad row ns)).take j).length≤1000:=by
       rw [List.length_take,List.length_zip];omega
      refine ⟨_,rfl,q0,_,dxs,_,_,rfl,s6 _ _ (hqA kp5),T.Z4,T.Zan,ZFd _ _ _ _,p,dx6,_,rfl,h6.ob,ZwE _ _,_,rfl,_,rfl,?_⟩
      dsimp only [tNil,List.append_nil]
      refine Zu6 hD6 (blk:=some blk) (ZR.mono _ _ _ _ s6 hrow) hn0 (by rw [w1,hlen.1];exact hn1) (by omega) fun H7 b7 hD7=>?_
      have nbpa:=nbp;have nlpa:=nlp
      refine ⟨⟨_,_,rfl⟩,b7 _ _ (s6 _ _ hfz5) nbp.symm nlp.symm,fun d o e h1 h2 h3=>b7 _ _ (s6 _ _ (kp5 d o e h1 h2 h3)) h1 h2,b7 _ _ (s6 _ _ hlb5) nlb nll,Zym hus5 (fun a r' ha=>b7 _ _ (s6 _ _ ha) (ZP (s6 _ _ ha) h6.hb (by intro z;cases z)) (ZP (s6 _ _ ha) h6.hl (by intro z;cases z))),?_⟩
      rw [Zuy _ _ _ hz]
      exact hD7
    ·obtain ⟨⟨o4,o5,rfl⟩,hfz5,kp5,hlb5,hus5,hD5⟩:=h
     refine ⟨⟨_,_,_,_,rfl⟩,hfz5,kp5,?_⟩
     rw [List.length_map,List.take_of_length_le (by rw [List.length_zip,hcl,Nat.min_self];exact Nat.le_refl _)] at hD5
     exact hD5
  ·obtain ⟨⟨o2,o3,o4,o5,rfl⟩,hfz,kp,hDi⟩:=h
   rw [hkl,List.take_length] at hDi
   have hlen:(I.places.foldl (ZdB T0.synced) D).blocks.length=D.blocks.length∧(I.places.foldl (ZdB T0.synced) D).log.length≤90000:=by
    obtain ⟨a1,a2⟩:=ZC4 T0.synced I.places D fun p hp=>(io.ne p hp).1
    refine ⟨a1,Nat.le_trans a2 ?_⟩
    have:=io.fl
    omega
   unfold ZvK at q
   generalize I.places.foldl (ZdB T0.synced) D=D1 at hDi hlen q
   refine ⟨ob,.dT kvs,hfz,rfl,?_⟩
   -- all is thawed: H2
   have kp2:∀ d o,H d=some o→d≠b→d≠l→(upd H' pa (.dT kvs)) d=some o:=fun d o e h1 h2=>by
    by_cases z:d=pa
    ·subst z;rw [Zb,← e,hpa]
    ·rw [Zc z];exact kp d o e h1 h2 z
   have hD2:Zcj g (upd H' pa (.dT kvs)) p b l D1:=hDi.keep fun d o e hob=>by
    by_cases z:d=pa
    ·subst z
     rw [hfz] at e
     cases e
     rcases hob with ⟨_,z⟩ | ⟨_,z⟩ | ⟨_,_,_,_,z⟩ <;> cases z
    ·rw [Zc z];exact e
   generalize upd H' pa (.dT kvs)=H2 at kp2 hD2
   obtain ⟨dx2,vb2,vl2,h2⟩:=id hD2
   have hq2:=kp2 _ _ hq nqb nql
   refine ⟨_,rfl,q0,_,dxs,_,_,rfl,hq2,T.Z4,T.Zan,ZFd _ _ _ _,p,dx2,_,rfl,h2.ob,Zuf _ _,?_⟩
   dsimp only [tNil,List.append_nil]
   refine ZuO hD2 (by omega) fun H3 b3 hD3=>?_
   have hq3:=b3 _ _ hq2 nqb nql
   have k3:∀ d o,H d=some o→d≠b→d≠l→H3 d=some o:=fun d o e h1 h2=>b3 _ _ (kp2 d o e h1 h2) h1 h2
   -- the slot,the turn
   refine ⟨_,rfl,q0,_,dxs,_,_,rfl,hq3,T.Z4,T.ZbG,ZFc _ _ _ _,_,_,rfl,rfl,_,rfl,q0,_,dxs,_,rfl,hq3,T.Z4,T.ZbG,(by rw [Zkh];show 4 < 1000;decide),?_⟩
   rw [ZHl]
   refine ⟨_,rfl,q0,_,dxs,_,_,rfl,Zb,T.Z4,T.ZbF,ZKI _ _ _ _,_,_,rfl,rfl,_,_,rfl,rfl,(by show (0:Int) < 256;decide),_,rfl,q0,_,dxs,_,rfl,Zb,T.Z4,T.ZbF,(by rw [Zkh];show 4 < 1000;decide),?_⟩
   rw [ZHj]
   have k4:∀ d o,H d=some o→d≠b→d≠l→d≠q0→(upd (upd H3 q0 (.ins g.Store dxs (tfl (.ref p) (.int (1 - T0.slot)) (.int T0.turn) (.ref ya)))) q0 (.ins g.Store dxs (tfl (.ref p) (.int (1 - T0.slot)) (.int ((T0.turn + 1) % 256)) (.ref ya)))) d=some o:=fun d o e h1 h2 h3=>by
    rw [Zc h3,Zc h3];exact k3 d o e h1 h2
   have dq:∀ {H5:Hp} {x:V} {d:Addr} {o:HO} {C:Addr} {dx:Addr} {a b c e:V},H5 q0=some (.ins C dx (tfl a b c e))→H5 d=some o→ZMa o→d≠q0:=fun {H5 x d o C dx a b c e} h1 h2 h3 z=>by
    subst z
    rw [h1] at h2
    cases h2
    rcases h3 with ⟨_,z⟩ | ⟨_,z⟩ | ⟨_,_,_,_,z⟩
    ·cases z
    ·cases z
    ·injection z with _ _ z
     have:=congrArg (fun fs=>List.lookup ("slot":Str) fs) z
     simp only [ZFc] at this
     rw [ZB7 _ _ (by decide +kernel) (by decide +kernel)] at this
     cases this
   have hD4:Zcj g (upd (upd H3 q0 (.ins g.Store dxs (tfl (.ref p) (.int (1 - T0.slot)) (.int T0.turn) (.ref ya)))) q0 (.ins g.Store dxs (tfl (.ref p) (.int (1 - T0.slot)) (.int ((T0.turn + 1) % 256)) (.ref ya)))) p b l D1.barrier:=hD3.keep fun d o e hob=>by
    have:=dq (x:=.non) hq3 e hob
    rw [Zc this,Zc this];exact e
   have hq4:=Zb (H:=upd H3 q0 (.ins g.Store dxs (tfl (.ref p) (.int (1 - T0.slot)) (.int T0.turn) (.ref ya)))) (a:=q0) (o:=.ins g.Store dxs (tfl (.ref p) (.int (1 - T0.slot)) (.int ((T0.turn + 1) % 256)) (.ref ya)))
   generalize upd (upd H3 q0 (.ins g.Store dxs (tfl (.ref p) (.int (1 - T0.slot)) (.int T0.turn) (.ref ya)))) q0 (.ins g.Store dxs (tfl (.ref p) (.int (1 - T0.slot)) (.int ((T0.turn + 1) % 256)) (.ref ya)))=H4 at k4 hD4 hq4
   obtain ⟨dx4,vb4,vl4,h4⟩:=id hD4
   have npiq:pi≠q0:=fun z=>by
    rw [z,hq] at hpi
    injection hpi with hpi
    injection hpi with _ _ hf
    have:=congrArg (fun fs=>List.lookup ("slot":Str) fs) hf
    simp only [ZFc] at this
    unfold ifl at this
    rw [Zj,if_neg (by decide +kernel),Zj,if_neg (by decide +kernel)] at this
    cases this
   have hpi4:=k4 _ _ hpi (ZP hpi hDD.hb (by intro z;cases z)) (ZP hpi hDD.hl (by intro z;cases z)) npiq
   have htup:∀ d xs,H d=some (.tup xs)→H4 d=some (.tup xs):=fun d xs e=>k4 _ _ e (ZP e hDD.hb (by intro z;cases z)) (ZP e hDD.hl (by intro z;cases z)) (ZP e hq (by intro z;cases z))
   have hpl4:Zip H4 I.places (.ref pa):=⟨pa,kvs,rfl,k4 _ _ hpa nbp.symm nlp.symm nqp.symm,ZDq htup hpd⟩
   have hI4:Zj9 g H4 I (.ref pi):=⟨pi,dxi,.ref pa,hdv,rfl,hpi4,hpl4,by obtain ⟨ht,e,hh⟩:=hhd;exact ⟨ht,e,htup _ _ hh⟩⟩
   have hs01:0≤1 - T0.slot∧1 - T0.slot < 2:=by rcases hslot with z | z <;> omega
   -- the head
   refine ⟨_,rfl,q0,_,dxs,_,_,rfl,hq4,T.Z4,T.Zan,ZFd _ _ _ _,p,dx4,_,rfl,h4.ob,ZwE _ _,_,rfl,q0,_,dxs,_,_,rfl,hq4,T.Z4,T.ZbG,ZFc _ _ _ _,_,rfl,_,rfl,q0,_,dxs,_,_,rfl,hq4,T.Z4,T.ZbF,ZKI _ _ _ _,?_⟩
   refine ⟨I,_,_,rfl,hI4,io.h,Nat.le_trans io.n (by decide),fun u H5 s5 hu5=>?_⟩
   dsimp only [tNil,List.append_nil]
   have hlb:D1.barrier.log.length≤90001:=by
    show (D1.log++[LogE.bar]).length≤_
    rw [List.length_append]
    show D1.log.length + 1≤_
    omega
   refine Zu6 (hD4.same s5) (blk:=some (Zl4 I ((T0.turn + 1) % 256))) hu5 hs01.1 (by show 1 - T0.slot < (D1.blocks.length:Int);rw [hlen.1];omega) (by omega) fun H6 b6 hD6=>?_
   have hq6:=b6 _ _ (s5 _ _ hq4) nqb nql
   obtain ⟨dx6,vb6,vl6,h6⟩:=id hD6
   refine ⟨_,rfl,q0,_,dxs,_,_,rfl,hq6,T.Z4,T.Zan,ZFd _ _ _ _,p,dx6,_,rfl,h6.ob,Zuf _ _,?_⟩
   dsimp only [tNil,List.append_nil]
   refine ZuO hD6 ?_ fun H7 b7 hD7=>?_
   ·show (D1.barrier.log++[LogE.wr _ _]).length≤_
    rw [List.length_append]
    show D1.barrier.log.length + 1≤_
    omega
   have hq7:=b7 _ _ hq6 nqb nql
   have k7:∀ d o,H4 d=some o→d≠b→d≠l→H7 d=some o:=fun d o e h1 h2=>b7 _ _ (b6 _ _ (s5 _ _ e) h1 h2) h1 h2
   have hpi7:=k7 _ _ hpi4 (ZP hpi hDD.hb (by intro z;cases z)) (ZP hpi hDD.hl (by intro z;cases z))
   refine ⟨_,rfl,pi,_,dxi,_,_,rfl,hpi7,T.Zoa,T.ZaA,ZKe _ _,_,rfl,q0,_,dxs,_,rfl,hq7,T.Z4,T.Zac,(by rw [Zkh];show 4 < 1000;decide),?_⟩
   rw [ZHk]
   have htup7:∀ d xs,H d=some (.tup xs)→(upd H7 q0 (.ins g.Store dxs (tfl (.ref p) (.int (1 - T0.slot)) (.int ((T0.turn + 1) % 256)) (.ref pa)))) d=some (.tup xs):=fun d xs e=>by
    rw [Zc (ZP e hq (by intro z;cases z))]
    exact k7 _ _ (htup d xs e) (ZP e hDD.hb (by intro z;cases z)) (ZP e hDD.hl (by intro z;cases z))
   refine q _ (fun d o e h1 h2 h3=>?_) ⟨dxs,.ref pa,Zb,pa,kvs,rfl,?_,ZDq htup7 hpd⟩ (hD7.keep fun d o e hob=>?_)
   ·rw [Zc h3];exact k7 _ _ (k4 d o e h1 h2 h3) h1 h2
   ·rw [Zc nqp.symm];exact k7 _ _ (k4 _ _ hpa nbp.symm nlp.symm nqp.symm) nbp.symm nlp.symm
   ·rw [Zc (dq (x:=.non) hq7 e hob)];exact e
end
end KS
namespace KS
open PySem L2
def ffl (s k t i:V):List (Str×V):=putF "image" i (putF "store" t (putF "kept" k (putF "state" s [])))
theorem ff1:¬ (("state":Str)="image"):=by decide +kernel
theorem ff2:¬ (("state":Str)="store"):=by decide +kernel
theorem ff3:¬ (("state":Str)="kept"):=by decide +kernel
theorem ff4:¬ (("kept":Str)="image"):=by decide +kernel
theorem ff5:¬ (("kept":Str)="store"):=by decide +kernel
theorem ff6:¬ (("store":Str)="image"):=by decide +kernel
theorem ZKj (s k t i:V):(ffl s k t i).lookup ("state":Str)=some s:=by unfold ffl;rw [Zj,if_neg ff1,Zj,if_neg ff2,Zj,if_neg ff3,Zj,if_pos rfl]
theorem ZMD (s k t i:V):(ffl s k t i).lookup ("kept":Str)=some k:=by unfold ffl;rw [Zj,if_neg ff4,Zj,if_neg ff5,Zj,if_pos rfl]
theorem ZLN (s k t i:V):(ffl s k t i).lookup ("store":Str)=some t:=by unfold ffl;rw [Zj,if_neg ff6,Zj,if_pos rfl]
theorem Zsn (s k t i:V) {m:Str} (h1:¬ m="image":=by decide +kernel) (h2:¬ m="store":=by decide +kernel) (h3:¬ m="kept":=by decide +kernel) (h4:¬ m="state":=by decide +kernel):(ffl s k t i).lookup m=none:=by
 unfold ffl
 rw [Zj,if_neg h1,Zj,if_neg h2,Zj,if_neg h3,Zj,if_neg h4]
 rfl
theorem Zl5 (s k t i:V):ffl s k t i=([("state",s),("kept",k),("store",t),("image",i)]:List (Str×V)):=by
 have e1:putF "kept" k [(("state":Str),s)]=([("state",s),("kept",k)]:List (Str×V)):=by
  show (if ("state":Str)="kept" then [(("state":Str),k)] else (("state":Str),s)::putF "kept" k [])=_
  rw [if_neg ff3];rfl
 have e2:putF "store" t [(("state":Str),s),(("kept":Str),k)]=([("state",s),("kept",k),("store",t)]:List (Str×V)):=by
  show (if ("state":Str)="store" then (("state":Str),t)::[(("kept":Str),k)] else (("state":Str),s)::(if ("kept":Str)="store" then [(("kept":Str),t)] else (("kept":Str),k)::putF "store" t []))=_
  rw [if_neg ff2,if_neg ff5];rfl
 have e3:putF "image" i [(("state":Str),s),(("kept":Str),k),(("store":Str),t)]=([("state",s),("kept",k),("store",t),("image",i)]:List (Str×V)):=by
  show (if ("state":Str)="image" then (("state":Str),i)::[(("kept":Str),k),(("store":Str),t)] else (("state":Str),s)::(if ("kept":Str)="image" then (("kept":Str),i)::[(("store":Str),t)] else (("kept":Str),k)::(if ("store":Str)="image" then [(("store":Str),i)] else (("store":Str),t)::putF "image" i [])))=_
  rw [if_neg ff1,if_neg ff4,if_neg ff6];rfl
 show putF "image" i (putF "store" t (putF "kept" k [(("state":Str),s)]))=_
 rw [e1,e2,e3]
theorem ZGD (s k t i i':V):putF "image" i' (ffl s k t i)=ffl s k t i':=by
 rw [Zl5,Zl5]
 show (if ("state":Str)="image" then (("state":Str),i')::[(("kept":Str),k),(("store":Str),t),(("image":Str),i)] else (("state":Str),s)::(if ("kept":Str)="image" then (("kept":Str),i')::[(("store":Str),t),(("image":Str),i)] else (("kept":Str),k)::(if ("store":Str)="image" then (("store":Str),i')::[(("image":Str),i)] else (("store":Str),t)::(if ("image":Str)="image" then [(("image":Str),i')] else _))))=_
 rw [if_neg ff1,if_neg ff4,if_neg ff6,if_pos rfl]
theorem ZGC (s k t i s':V):putF "state" s' (ffl s k t i)=ffl s' k t i:=by
 rw [Zl5,Zl5]
 show (if ("state":Str)="state" then (("state":Str),s')::[(("kept":Str),k),(("store":Str),t),(("image":Str),i)] else _)=_
 rw [if_pos rfl]
theorem ZIp (s k t i k':V):putF "kept" k' (ffl s k t i)=ffl s k' t i:=by
 rw [Zl5,Zl5]
 show (if ("state":Str)="kept" then (("state":Str),k')::[(("kept":Str),k),(("store":Str),t),(("image":Str),i)] else (("state":Str),s)::(if ("kept":Str)="kept" then (("kept":Str),k')::[(("store":Str),t),(("image":Str),i)] else _))=_
 rw [if_neg ff3,if_pos rfl]
def NotF (o:HO):Prop:=∀ C dx s k t i,o≠.ins C dx (ffl s k t i)
def Zoj (H H':Hp):Prop:=∀ d o,H d=some o→NotF o→H' d=some o
theorem Zt3 {H H':Hp} (s:Same H H'):Zoj H H':=fun d o e _=>s _ _ e
theorem Zoj.trans {H H' H'':Hp} (s:Zoj H H') (t:Zoj H' H''):Zoj H H'':=fun d o e n=>t _ _ (s _ _ e n) n
theorem Zoj.upd {H:Hp} {f C dx:Addr} {s k t i:V} {o:HO} (h:H f=some (.ins C dx (ffl s k t i))):Zoj H (upd H f o):=fun d u e n=>by
 have:d≠f:=fun z=>by
  subst z
  rw [h] at e
  cases e
  exact n _ _ _ _ _ _ rfl
 rw [Zc this];exact e
theorem ZC8 (xs:List V):NotF (.tup xs):=by intro _ _ _ _ _ _ z;cases z
theorem ZHV (xs:List V):NotF (.lst xs):=by intro _ _ _ _ _ _ z;cases z
theorem ZwC (xs:List (Key×V)):NotF (.dK xs):=by intro _ _ _ _ _ _ z;cases z
theorem ZJ0 (xs:List (List Key×V)):NotF (.dT xs):=by intro _ _ _ _ _ _ z;cases z
theorem ZqH {C dx:Addr} {fs:List (Str×V)} (m:Str) {v:V} (h:fs.lookup m=some v) (h1:¬ m="image") (h2:¬ m="store") (h3:¬ m="kept") (h4:¬ m="state"):NotF (.ins C dx fs):=by
 intro C' dx' s k t i z
 injection z with _ _ z
 rw [z,Zsn _ _ _ _ h1 h2 h3 h4] at h
 cases h
section
variable {g:Gs} {H H':Hp} (s:Zoj H H')
include s
theorem ZR.f {r:Row} {v:V}:ZR H r v→ZR H' r v | ⟨t,e,h⟩=>⟨t,e,s _ _ h (ZC8 _)⟩
theorem Ziq.f {r:Ents} {v:V}:Ziq H r v→Ziq H' r v | ⟨t,e,h⟩=>⟨t,e,s _ _ h (ZwC _)⟩
omit s in
theorem ZX.gen {κ α ρ:Type} {f:κ→ρ} {R:Hp→α→V→Prop} (k:∀ x v,R H x v→R H' x v) {xs:List (κ×α)} {kvs:List (ρ×V)} (h:ZX f R H xs kvs):ZX f R H' xs kvs:=by
 unfold ZX at *
 induction h with
 | nil=>exact .nil
 | cons a _ ih=>exact .cons ⟨a.1,k _ _ a.2⟩ ih
theorem ZS.f {S:Sta} {v:V}:ZS g H S v→ZS g H' S v | ⟨p,dx,da,ea,dk,ek,e,h⟩=>⟨p,dx,da,ea,dk,ek,e,s _ _ h.ob (ZqH "data" (Zyh _ _) (by decide +kernel) (by decide +kernel) (by decide +kernel) (by decide +kernel)),s _ _ h.hd (ZwC _),s _ _ h.he (ZwC _),h.rd.gen (fun _ _ z=>z.f s),h.re.gen (fun _ _ z=>z.f s)⟩
theorem ZhJ.f {k:Kept} {v:V}:ZhJ g H k v→ZhJ g H' k v | ⟨a,kvs,e,h,d⟩=>⟨a,kvs,e,s _ _ h (ZwC _),d.gen (fun _ _ z=>z.f s)⟩
theorem Zip.f {k:Zbd} {v:V}:Zip H k v→Zip H' k v | ⟨a,kvs,e,h,d⟩=>⟨a,kvs,e,s _ _ h (ZJ0 _),d.gen (fun _ _ z=>z.f s)⟩
theorem Zj9.f {k:Img} {v:V}:Zj9 g H k v→Zj9 g H' k v | ⟨p,dx,pl,hd,e,h,h1,h2⟩=>⟨p,dx,pl,hd,e,s _ _ h (ZqH "heads" (ZKf _ _) (by decide +kernel) (by decide +kernel) (by decide +kernel) (by decide +kernel)),h1.f s,h2.f s⟩
theorem ZsP.f {q p:Addr} {T:Sto}:ZsP g H q p T→ZsP g H' q p T | ⟨dx,y,h,h1⟩=>⟨dx,y,s _ _ h (ZqH "slot" (ZFc _ _ _ _) (by decide +kernel) (by decide +kernel) (by decide +kernel) (by decide +kernel)),h1.f s⟩
theorem Zcj.f {p b l:Addr} {D:Dsk} (h:Zcj g H p b l D):Zcj g H' p b l D:=h.keep fun d o e hob=>s _ _ e (by
 rcases hob with ⟨xs,rfl⟩ | ⟨xs,rfl⟩ | ⟨C,dx,b,l,rfl⟩
 ·exact ZC8 _
 ·exact ZHV _
 ·exact ZqH "log" (ZGz _ _) (by decide +kernel) (by decide +kernel) (by decide +kernel) (by decide +kernel))
end
structure Fil where
 S:Sta
 k:Kept
 T:Sto
 D:Dsk
 I:Img
structure ZMK (g:Gs) (H:Hp) (f q p b l:Addr) (F:Fil) (dx:Addr) (sv kv iv:V):Prop where
 ob:H f=some (.ins g.Files dx (ffl sv kv (.ref q) iv))
 st:ZS g H F.S sv
 ke:ZhJ g H F.k kv
 sto:ZsP g H q p F.T
 dsk:Zcj g H p b l F.D
 img:Zj9 g H F.I iv
def ZqE (g:Gs) (H:Hp) (f q p b l:Addr) (F:Fil):Prop:=∃ dx sv kv iv,ZMK g H f q p b l F dx sv kv iv
theorem ZqE.same {g:Gs} {H H':Hp} {f q p b l:Addr} {F:Fil} (s:Same H H'):ZqE g H f q p b l F→ZqE g H' f q p b l F
 | ⟨dx,sv,kv,iv,h⟩=>⟨dx,sv,kv,iv,s _ _ h.ob,h.st.f (Zt3 s),h.ke.f (Zt3 s),h.sto.f (Zt3 s),h.dsk.f (Zt3 s),h.img.f (Zt3 s)⟩
def But1 (f:Addr) (H H':Hp):Prop:=∀ d o,H d=some o→d≠f→H' d=some o
section
variable {P:Program} {w:World} {K:PySem.W.Frag} {mg:Str→Option Value} {base:Heap} {g:Gs}
def ZFr (g:Gs):Sp:=fun vs H Q _=>∃ f dx a b c d,vs=[.ref f,a,b,c,d]∧H f=some (.ins g.Files dx [])∧∀ H',(∀ b o,H b=some o→b≠f→H' b=some o)→H' f=some (.ins g.Files dx (ffl a b c d))→Q .non H'
theorem ZvG:Zq ["self","state","kept","store","image"] ["self","state","kept","store","image"] (Zg ZbB):=⟨rfl,rfl,rfl,by decide +kernel,rfl,by decide +kernel,by decide +kernel⟩
theorem ZvX (T:Tx K mg g):FnOk P w K mg base (CXE P w) 1 g.Zom g.ZhM ["self","state","kept","store","image"] (ZFr g):=by
 refine T.ZAy.okE ZvG (fun vs H Q E h=>?_) (fun cdv A outer s H vs Q E hr h=>?_)
 ·obtain ⟨f,dx,a,b,c,d,rfl,_⟩:=h
  rfl
 ·obtain ⟨f,dx,a,b,c,d,rfl,hf,q⟩:=h
  refine ⟨_,(Ze (ZaF (pv 0) (pv 1) rfl)
   (Ze (ZaF (pv 0) (pv 2) rfl)
   (Ze (ZaF (pv 0) (pv 3) rfl)
   (Zi (ZaF (pv 0) (pv 4) rfl))))),?_⟩
  refine ⟨_,rfl,_,rfl,f,g.Files,dx,[],rfl,hf,T.Zak,T.Zaq,(by show 0 < 1000;decide),?_⟩
  refine ⟨_,rfl,_,rfl,f,g.Files,dx,_,rfl,Zb,T.Zak,T.Zcv,(by show 1 < 1000;decide),?_⟩
  refine ⟨_,rfl,_,rfl,f,g.Files,dx,_,rfl,Zb,T.Zak,T.ZbQ,?_,?_⟩
  ·exact Nat.lt_of_le_of_lt (ZbN _ _ _) (Nat.lt_of_le_of_lt (Nat.succ_le_succ (ZbN _ _ _)) (by show 2 < 1000;decide))
  refine ⟨_,rfl,_,rfl,f,g.Files,dx,_,rfl,Zb,T.Zak,T.ZcV,?_,?_⟩
  ·exact Nat.lt_of_le_of_lt (ZbN _ _ _) (Nat.lt_of_le_of_lt (Nat.succ_le_succ (ZbN _ _ _)) (Nat.lt_of_le_of_lt (Nat.succ_le_succ (Nat.succ_le_succ (ZbN _ _ _))) (by show 3 < 1000;decide)))
  refine q _ (fun b o e hb=>?_) Zb
  rw [Zc hb,Zc hb,Zc hb,Zc hb]
  exact e
def Zx4 (g:Gs):Sp:=fun vs H Q E=>∃ f dx s k t i,vs=[.ref f]∧H f=some (.ins g.Files dx (ffl s k t i))∧((t=.non∧E (.ref (g.xa .readOnly)) none H)∨((∃ q,t=.ref q)∧Q .non H))
theorem Zd2:Zq ["self"] ["self"] (Zg ZK):=⟨rfl,rfl,rfl,by decide +kernel,rfl,by decide +kernel,by decide +kernel⟩
theorem Zd6 (T:Tx K mg g):FnOk P w K mg base (CXE P w) 1 g.ZaD g.Zal ["self"] (Zx4 g):=by
 refine T.ZeT.okE Zd2 (fun vs H Q E h=>?_) (fun cdv A outer s H vs Q E hr h=>?_)
 ·obtain ⟨f,dx,s0,k,t,i,rfl,_⟩:=h
  rfl
 ·obtain ⟨f,dx,s0,k,t,i,rfl,hf,q⟩:=h
  refine ⟨_,(Zi (ZbK (ZfT (ZFT (ZJ (pv 0) rfl))) (Zi (Zcl T.ZDL rfl T.Zuh (Za Zo Zf))) ZT)),?_⟩
  refine ⟨_,rfl,f,_,dx,_,_,rfl,hf,T.Zak,T.ZbQ,ZLN _ _ _ _,_,rfl,?_⟩
  rcases q with ⟨rfl,q⟩ | ⟨⟨q0,rfl⟩,q⟩
  ·exact iteT ⟨szl 1,q⟩
  ·exact iteF q
def ZFa (F:Fil) (S:Sta) (k:Kept):Except Rf Fil:=match Zcn F.T F.D S k with
 | .error r=>.error r
 | .ok I=>.ok ⟨S,k,F.T,F.D,I⟩
def ZHn (g:Gs):Sp:=fun vs H Q E=>∃ f q p b l F sv kv S k,vs=[.ref f,sv,kv]∧ZqE g H f q p b l F∧ZS g H S sv∧ZhJ g H k kv∧Zoi S∧ZAq k∧ZKx F.T.synced∧(match ZFa F S k with
 | .error r=>∀ H',Same H H'→E (.ref (g.xa r)) none H'
 | .ok F'=>∀ H',But1 f H H'→ZqE g H' f q p b l F'→Q .non H')
theorem Zqn:Zq ["self","state","kept"] ["self","state","kept"] (Zg Zag):=⟨rfl,rfl,rfl,by decide +kernel,rfl,by decide +kernel,by decide +kernel⟩
theorem Zqw (T:Tx K mg g):FnOk P w K mg base (CXE P w) 6 g.ZfN g.Zdv ["self","state","kept"] (ZHn g):=by
 refine T.ZsY.okE Zqn (fun vs H Q E h=>?_) (fun cdv A outer s H vs Q E hr h=>?_)
 ·obtain ⟨f,q0,p,b,l,F,sv,kv,S,k,rfl,_⟩:=h
  rfl
 ·obtain ⟨f,q0,p,b,l,F,sv,kv,S,k,rfl,⟨dx,sv0,kv0,iv0,hF⟩,hS,hk,so,kk,po,q⟩:=h
  refine ⟨_,(Ze (ZaF (pv 0) (ZbO (ZJ (pv 0) rfl) T.Z4 T.ZeD (ZdE T) hr.dn T.ZeN .nil Zh (Za (pv 1) (Za (pv 2) Zf))) rfl)
   (Ze (ZaF (pv 0) (pv 1) rfl)
   (Zi (ZaF (pv 0) (pv 2) rfl)))),?_⟩
  obtain ⟨dxs,y,hq,hy⟩:=id hF.sto
  refine ⟨_,rfl,f,_,dx,_,_,rfl,hF.ob,T.Zak,T.ZbQ,ZLN _ _ _ _,q0,dxs,_,rfl,hq,ZCU _ _ _ _,_,rfl,_,rfl,?_⟩
  refine ⟨q0,p,b,l,F.T,F.D,sv,S,kv,k,rfl,hF.sto,hF.dsk,hS,hk,so,kk,po,?_⟩
  unfold ZFa at q
  cases hm:Zcn F.T F.D S k with
  | error r=>
   rw [hm] at q
   exact fun H' s'=>q H' s'
  | ok I=>
   rw [hm] at q
   dsimp only at q
   intro iv H1 s1 hI
   refine ⟨_,rfl,f,_,dx,_,rfl,s1 _ _ hF.ob,T.Zak,T.ZcV,(by rw [Zl5];show 4 < 1000;decide),?_⟩
   rw [ZGD]
   refine ⟨_,rfl,_,rfl,f,_,dx,_,rfl,Zb,T.Zak,T.Zaq,(by rw [Zl5];show 4 < 1000;decide),?_⟩
   rw [ZGC]
   refine ⟨_,rfl,_,rfl,f,_,dx,_,rfl,Zb,T.Zak,T.Zcv,(by rw [Zl5];show 4 < 1000;decide),?_⟩
   rw [ZIp]
   have sA:Zoj H1 (upd (upd (upd H1 f (.ins g.Files dx (ffl sv0 kv0 (.ref q0) iv))) f (.ins g.Files dx (ffl sv kv0 (.ref q0) iv))) f (.ins g.Files dx (ffl sv kv (.ref q0) iv))):=(Zoj.upd (s1 _ _ hF.ob)).trans ((Zoj.upd Zb).trans (Zoj.upd Zb))
   have sB:=Zoj.trans (Zt3 s1) sA
   refine q _ (fun d o e hd=>?_) ⟨dx,sv,kv,iv,Zb,hS.f sB,hk.f sB,hF.sto.f sB,hF.dsk.f sB,hI.f sA⟩
   rw [Zc hd,Zc hd,Zc hd]
   exact s1 _ _ e
def ZB8 (S:Sta) (p:Str):Except Rf Int:=if Zat p then (match Zjx S (Zr p) [0] with
 | .error r=>.error r
 | .ok ps=>.ok (ps.getLastD 0)) else .error .badName
def ZK1 (g:Gs):Sp:=fun vs H Q E=>∃ f dx sv k t i S p,vs=[.ref f,.str p]∧H f=some (.ins g.Files dx (ffl sv k t i))∧ZS g H S sv∧p.length≤1000∧Ans g ZKz H (ZB8 S p) Q E
theorem ZvH:Zq ["self","path"] ["self","path"] (Zg ZbC):=⟨rfl,rfl,rfl,by decide +kernel,rfl,by decide +kernel,by decide +kernel⟩
theorem ZvY (T:Tx K mg g):FnOk P w K mg base (CXE P w) 4 g.Zon g.ZhN ["self","path"] (ZK1 g):=by
 refine T.ZAz.okE ZvH (fun vs H Q E h=>?_) (fun cdv A outer s H vs Q E hr h=>?_)
 ·obtain ⟨f,dx,sv,k,t,i,S,p,rfl,_⟩:=h
  rfl
 ·obtain ⟨f,dx,sv,k,t,i,S,p,rfl,hf,hS,hl,q⟩:=h
  refine ⟨_,(Ze (Zah (Zx (Zln T) hr.dn rfl T.ZoI T.ZhR.kp T.Zp6 .nil Zh (Za (pv 1) Zf)))
   (Zi (ZE (ZjQ Zcf (Zx (ZFY T) hr.dn rfl T.ZIR T.ZHe.kp T.ZI8 .nil Zh (Za (ZJ (pv 0) rfl) (Za (Zx (ZbP T) hr.dn rfl T.Zcw T.ZbJ.kp T.ZcG .nil Zh (Za (pv 1) Zf)) Zf))) (Zyt Zor Zn) (fun _ _=>rfl))))),?_⟩
  refine ⟨_,rfl,p,rfl,hl,?_⟩
  unfold ZB8 at q
  unfold Zhi
  cases hb:Zat p with
  | false=>
   rw [hb] at q
   exact fun H' s'=>q H' s'
  | true=>
   rw [hb] at q
   rw [if_pos rfl] at q
   intro v1 H1 s1 _
   refine ⟨_,rfl,f,_,dx,_,_,rfl,s1 _ _ hf,T.Zak,T.Zaq,ZKj _ _ _ _,_,rfl,p,rfl,hl,fun l H2 s2 hn hl2=>?_⟩
   have sA:=s1.trans s2
   refine ⟨sv,S,l,Zr p,rfl,ZS.mono _ _ _ _ sA hS,hl2,?_,fun n hn=>?_,?_⟩
   ·have:=Ze3 p;omega
   ·have:=Ze2 p n hn;omega
   cases hw:Zjx S (Zr p) [0] with
   | error r=>
    rw [hw] at q
    exact fun H' s'=>q H' (sA.trans s')
   | ok ps=>
    rw [hw] at q
    dsimp only at q
    intro v3 H3 s3 ⟨D,e,hD⟩
    subst e
    exact ⟨_,rfl,D,_,_,_,rfl,rfl,SqL.of hD,ZmU ps (Zu7 hw (by decide)).1,q _ _ (sA.trans s3) rfl⟩
end
end KS
namespace KS
open PySem L2
def Zeq:Row:=List.replicate 64 0
def ZdF:Sto:=⟨1,255,[]⟩
def Zau:Sta:=⟨[],[(0,[])]⟩
def ZwW (D:Dsk):Except Rf Fil:=match Zcn ZdF (D.write 1 (some Zeq)) Zau [] with
 | .error r=>.error r
 | .ok I=>.ok ⟨Zau,[],(ZvK ZdF (D.write 1 (some Zeq)) I).1,(ZvK ZdF (D.write 1 (some Zeq)) I).2,I⟩
def ZH2 (F:Fil) (p kind:Str):Except Rf Fil:=match ZtF F.S p kind with
 | .error r=>.error r
 | .ok S=>ZFa F S F.k
theorem ZIo:Zoi Zau:=by
 refine ⟨by decide,(fun n r h=>by cases h),fun n es h=>?_⟩
 have:es=[]:=by
  by_cases z:(0:Int)=n
  ·have:=ZaG (p:=((0:Int),([]:Ents))) (r:=[]) (k:=n) z
   rw [show getA Zau.ent n=getA [((0:Int),([]:Ents))] n from rfl,this] at h
   cases h
   rfl
  ·have:=ZaH (p:=((0:Int),([]:Ents))) (r:=[]) (k:=n) z
   rw [show getA Zau.ent n=getA [((0:Int),([]:Ents))] n from rfl,this] at h
   cases h
 subst this
 exact ⟨by decide,fun p hp=>nomatch hp⟩
def ZCE (o:HO):Prop:=(∀ xs,o≠.lst xs)∧∀ C dx a b c d,o≠.ins C dx (tfl a b c d)
theorem ZF4 (xs:List V):ZCE (.tup xs):=⟨(by intro _ z;cases z),(by intro _ _ _ _ _ _ z;cases z)⟩
theorem ZwB (xs:List (Key×V)):ZCE (.dK xs):=⟨(by intro _ z;cases z),(by intro _ _ _ _ _ _ z;cases z)⟩
theorem ZHU (xs:List (List Key×V)):ZCE (.dT xs):=⟨(by intro _ z;cases z),(by intro _ _ _ _ _ _ z;cases z)⟩
theorem Zy0 {C dx:Addr} {fs:List (Str×V)} (m:Str) {v:V} (h:fs.lookup m=some v) (h1:¬ m="synced") (h2:¬ m="turn") (h3:¬ m="slot") (h4:¬ m="disk"):ZCE (.ins C dx fs):=by
 refine ⟨(by intro _ z;cases z),fun C' dx' s k t i z=>?_⟩
 injection z with _ _ z
 rw [z,ZCU _ _ _ _ h1 h2 h3 h4] at h
 cases h
section
variable {g:Gs} {H H':Hp} (s:∀ d o,H d=some o→ZCE o→H' d=some o)
include s
theorem ZR.ls {r:Row} {v:V}:ZR H r v→ZR H' r v | ⟨t,e,h⟩=>⟨t,e,s _ _ h (ZF4 _)⟩
theorem Ziq.ls {r:Ents} {v:V}:Ziq H r v→Ziq H' r v | ⟨t,e,h⟩=>⟨t,e,s _ _ h (ZwB _)⟩
theorem ZS.ls {S:Sta} {v:V}:ZS g H S v→ZS g H' S v | ⟨p,dx,da,ea,dk,ek,e,h⟩=>⟨p,dx,da,ea,dk,ek,e,s _ _ h.ob (Zy0 "data" (Zyh _ _) (by decide +kernel) (by decide +kernel) (by decide +kernel) (by decide +kernel)),s _ _ h.hd (ZwB _),s _ _ h.he (ZwB _),h.rd.gen (fun _ _ z=>z.ls s),h.re.gen (fun _ _ z=>z.ls s)⟩
theorem Zip.ls {k:Zbd} {v:V}:Zip H k v→Zip H' k v | ⟨a,kvs,e,h,d⟩=>⟨a,kvs,e,s _ _ h (ZHU _),d.gen (fun _ _ z=>z.ls s)⟩
theorem Zj9.ls {k:Img} {v:V}:Zj9 g H k v→Zj9 g H' k v | ⟨p,dx,pl,hd,e,h,h1,h2⟩=>⟨p,dx,pl,hd,e,s _ _ h (Zy0 "heads" (ZKf _ _) (by decide +kernel) (by decide +kernel) (by decide +kernel) (by decide +kernel)),h1.ls s,h2.ls s⟩
end
theorem ZDd:ZAq []:=⟨by decide,fun n S h=>by cases h⟩
section
variable {P:Program} {w:World} {K:PySem.W.Frag} {mg:Str→Option Value} {base:Heap} {g:Gs}
def ZDX (g:Gs):Sp:=fun vs H Q _=>∃ p b l D,vs=[.ref p]∧Zcj g H p b l D∧2≤D.blocks.length∧D.log.length≤90000∧∀ q H',But2 b l H H'→H q=none→ZsP g H' q p ZdF→Zcj g H' p b l (D.write 1 (some Zeq))→Q (.ref q) H'
theorem Zyi:Zq ["disk"] ["disk"] (Zg Zb4):=⟨rfl,rfl,rfl,by decide +kernel,rfl,by decide +kernel,by decide +kernel⟩
theorem ZyA (T:Tx K mg g):FnOk P w K mg base (CXE P w) 8 g.ZrH g.ZjS ["disk"] (ZDX g):=by
 refine T.ZsR.okE Zyi (fun vs H Q E h=>?_) (fun cdv A outer s H vs Q E hr h=>?_)
 ·obtain ⟨p,b,l,D,rfl,_⟩:=h
  rfl
 ·obtain ⟨p,b,l,D,rfl,hD,hb2,hlog,q⟩:=h
  obtain ⟨dx,vb,vl,h⟩:=id hD
  refine ⟨_,(Ze (Zah (ZbO (pv 0) T.Zhv T.Zg3 (Ze6 T) hr.dn T.Zhz .nil Zh (Za Zn (Za (ZD ZvO (ZaM (Za Zn Zf)) (ZF (v:=.int 64) rfl T.ZbT ⟨_,rfl⟩)) Zf))))
   (Zi (ZE (ZgG T.ZwF (ZvV T) hr.dn rfl T.ZJ3 T.ZzZ .nil Zh (Za (pv 0) (Za Zn (Za (ZD Zud (ZF (v:=.int 256) rfl T.ZwV ⟨_,rfl⟩) Zn) (Za ZC5 Zf)))))))),?_⟩
  refine ⟨_,rfl,p,dx,_,rfl,h.ob,ZwE _ _,szl 1,fun a ha=>?_⟩
  have s1:=Zk (o:=.tup [.int 0]) ha
  refine ⟨a,64,_,rfl,rfl,Zb,by simp,by decide,by decide,by show 1 * 64≤sizeLine;decide,fun c H2 s2 hc=>?_⟩
  rw [ZkA] at hc
  have sA:=s1.trans s2
  dsimp only [tNil,List.append_nil]
  refine Zu6 (hD.same sA) (blk:=some Zeq) ⟨c,rfl,by rw [hc];unfold Zeq;rw [List.map_replicate];rfl⟩ (by decide) (by omega) (by omega) fun H3 b3 hD3=>?_
  refine ⟨_,rfl,_,_,rfl,rfl,fun y hy=>fun x dx' hx hdx' ne=>⟨x,dx',_,_,_,_,rfl,Zb,fun H5 kp hq=>⟨rfl,?_⟩⟩⟩
  have s4:=Zk (o:=.dT []) hy
  have s5:Same (upd H3 y (.dT [])) H5:=fun d o eb=>by
   have h1:d≠x:=Zd eb hx
   have h2:d≠dx':=Zd eb hdx'
   exact kp d o (by rw [Zc h1,Zc h2];exact eb) h1
  have sB:=s4.trans s5
  have hxH:H x=none:=by
   cases z:H x with
   | none=>rfl
   | some o=>
    by_cases zb:x=b
    ·have:=s4 _ _ ((Option.some_get (by rw [show (H3 b).isSome=true by obtain ⟨_,_,_,h3⟩:=hD3;rw [h3.hb];rfl]:(H3 b).isSome=true)).symm)
     rw [zb] at hx
     obtain ⟨_,_,_,h3⟩:=hD3
     rw [s4 _ _ h3.hb] at hx
     cases hx
    ·by_cases zl:x=l
     ·rw [zl] at hx
      obtain ⟨_,_,_,h3⟩:=hD3
      rw [s4 _ _ h3.hl] at hx
      cases hx
     ·have:=s4 _ _ (b3 _ _ (sA _ _ z) zb zl)
      rw [hx] at this
      cases this
  refine q x H5 (fun d o e h1 h2=>sB _ _ (b3 _ _ (sA _ _ e) h1 h2)) hxH ⟨dx',.ref y,hq,y,[],rfl,s5 _ _ Zb,.nil⟩ (hD3.same sB)
def ZIL (g:Gs):Sp:=fun vs H Q E=>∃ f q p b l F pa kd,vs=[.ref f,.str pa,.str kd]∧ZqE g H f q p b l F∧ZsO F.S∧F.S.dat.length≤999∧F.S.ent.length≤999∧pa.length≤1000∧(∀ S,ZtF F.S pa kd=.ok S→Zoi S)∧ZAq F.k∧ZKx F.T.synced∧(match ZH2 F pa kd with
 | .error r=>∀ H',Same H H'→E (.ref (g.xa r)) none H'
 | .ok F'=>∀ H',But1 f H H'→ZqE g H' f q p b l F'→Q (optI (ZgP F.S)) H')
theorem Zkz:Zq ["self","path","kind","number"] ["self","path","kind"] (Zg ZbA):=⟨rfl,rfl,rfl,by decide +kernel,rfl,by decide +kernel,by decide +kernel⟩
theorem Ze5 (T:Tx K mg g):FnOk P w K mg base (CXE P w) 7 g.Zol g.ZhL ["self","path","kind"] (ZIL g):=by
 refine T.ZAx.okE Zkz (fun vs H Q E h=>?_) (fun cdv A outer s H vs Q E hr h=>?_)
 ·obtain ⟨f,q0,p,b,l,F,pa,kd,rfl,_⟩:=h
  rfl
 ·obtain ⟨f,q0,p,b,l,F,pa,kd,rfl,hFF,sm,hz1,hz2,hl,hso,kk,po,q⟩:=h
  obtain ⟨dx,sv,kv,iv,hF⟩:=id hFF
  refine ⟨_,(Ze (Zah (ZvL (pv 0) T.Zak T.ZeE (Zd6 T) hr.dn T.ZeO .nil Zh))
   (Ze (ZI (i:=3) Zkz.nd rfl (Or.inl rfl) (Zx (Zlm T) hr.dn rfl T.ZoH T.ZhQ.kp T.Zp5 .nil Zh (Za (ZJ (pv 0) rfl) Zf)))
   (Ze (Zah (ZbO (pv 0) T.Zak T.Zsj (Zqw T) hr.dn T.ZsI .nil Zh (Za (Zx (ZJT T) hr.dn rfl T.ZLs T.ZJc.kp T.ZLX .nil Zh (Za (ZJ (pv 0) rfl) (Za (pv 1) (Za (pv 2) Zf)))) (Za (ZJ (pv 0) rfl) Zf))))
   (Zi (ZE (pv 3)))))),?_⟩
  refine ⟨_,rfl,f,dx,_,rfl,hF.ob,Zsn _ _ _ _,?_⟩
  refine ⟨f,dx,_,_,_,_,rfl,hF.ob,.inr ⟨⟨q0,rfl⟩,?_⟩⟩
  refine ⟨_,rfl,f,_,dx,_,_,rfl,hF.ob,T.Zak,T.Zaq,ZKj _ _ _ _,sv,F.S,rfl,hF.st,?_⟩
  refine ⟨_,rfl,f,dx,_,rfl,hF.ob,Zsn _ _ _ _,_,rfl,f,_,dx,_,_,rfl,hF.ob,T.Zak,T.Zaq,ZKj _ _ _ _,_,rfl,_,rfl,?_⟩
  refine ⟨sv,F.S,pa,kd,rfl,hF.st,sm,hz1,hz2,hl,?_⟩
  unfold ZH2 at q
  cases hm:ZtF F.S pa kd with
  | error r=>
   rw [hm] at q
   exact fun H' s'=>q H' s'
  | ok S=>
   rw [hm] at q
   dsimp only at q
   intro v2 H2 s2 hS2
   have hF2:=hFF.same s2
   refine ⟨_,rfl,f,_,dx,_,_,rfl,s2 _ _ hF.ob,T.Zak,T.Zcv,ZMD _ _ _ _,?_⟩
   refine ⟨f,q0,p,b,l,F,v2,kv,S,F.k,rfl,hF2,hS2,ZhJ.mono _ _ _ _ s2 hF.ke,hso S hm,kk,po,?_⟩
   cases ht:ZFa F S F.k with
   | error r=>
    rw [ht] at q
    exact fun H' s'=>q H' (s2.trans s')
   | ok F'=>
    rw [ht] at q
    exact fun H' b1 h'=>⟨_,rfl,q H' (fun d o e hd=>b1 _ _ (s2 _ _ e) hd) h'⟩
def ZA9 (g:Gs):Sp:=fun vs H Q E=>∃ p b l D,vs=[.ref p]∧Zcj g H p b l D∧2≤D.blocks.length∧D.log.length≤30000∧(∀ I,Zcn ZdF (D.write 1 (some Zeq)) Zau []=.ok I→ZKA (D.write 1 (some Zeq)) I)∧(match ZwW D with
 | .error r=>∀ H',But2 b l H H'→E (.ref (g.xa r)) none H'
 | .ok F=>∀ f q H',But2 b l H H'→ZqE g H' f q p b l F→Q (.ref f) H')
theorem Zdx:Zq ["disk","state","store","image"] ["disk"] (Zg Zb5):=⟨rfl,rfl,rfl,by decide +kernel,rfl,by decide +kernel,by decide +kernel⟩
theorem ZyB (T:Tx K mg g):FnOk P w K mg base (CXE P w) 9 g.formatted g.ZjW ["disk"] (ZA9 g):=by
 refine T.ZsS.okE Zdx (fun vs H Q E h=>?_) (fun cdv A outer s H vs Q E hr h=>?_)
 ·obtain ⟨p,b,l,D,rfl,_⟩:=h
  rfl
 ·obtain ⟨p,b,l,D,rfl,hD,hb2,hlog,hio,q⟩:=h
  refine ⟨_,(Ze (ZI (i:=1) Zdx.nd rfl (Or.inl rfl) (ZC6 (Ztk T) hr.dn rfl T.ZwI T.Zni.kp T.Zw2 .nil Zh))
   (Ze (ZI (i:=2) Zdx.nd rfl (Or.inl rfl) (Zx (ZyA T) hr.dn rfl T.ZBT T.ZsR.kp T.ZCj .nil Zh (Za (pv 0) Zf)))
   (Ze (ZI (i:=3) Zdx.nd rfl (Or.inl rfl) (ZbO (pv 2) T.Z4 T.ZeD (ZdE T) hr.dn T.ZeN .nil Zh (Za (pv 1) (Za Ze1 Zf))))
   (Ze (Zah (ZbO (pv 2) T.Z4 T.Zzu (ZvU T) hr.dn T.ZzY .nil Zh (Za (pv 3) Zf)))
   (Zi (ZE (ZgG T.ZwH (ZvX T) hr.dn rfl T.ZGd T.Zz1 .nil Zh (Za (pv 1) (Za Ze1 (Za (pv 2) (Za (pv 3) Zf))))))))))),?_⟩
  refine ⟨rfl,fun sv H1 s1 hS=>?_⟩
  obtain ⟨_,vb0,vl0,h0⟩:=id hD
  refine ⟨_,rfl,p,b,l,D,rfl,hD.same s1,hb2,by omega,fun q0 H2 b2 hq0 hT hD2=>?_⟩
  have k2:∀ d o,H1 d=some o→ZCE o→H2 d=some o:=fun d o e n=>b2 _ _ e (fun z=>by subst z;rw [s1 _ _ h0.hb] at e;cases e;exact n.1 _ rfl) (fun z=>by subst z;rw [s1 _ _ h0.hl] at e;cases e;exact n.1 _ rfl)
  have hS2:=hS.ls k2
  obtain ⟨dxs,y,hq,hy⟩:=id hT
  refine ⟨_,rfl,q0,dxs,_,rfl,hq,ZCU _ _ _ _,_,rfl,fun ka hka=>?_⟩
  have s3:=Zk (o:=.dK []) hka
  dsimp only [tNil,List.append_nil]
  refine ⟨q0,p,b,l,ZdF,_,sv,Zau,_,[],rfl,hT.same s3,hD2.same s3,ZS.mono _ _ _ _ s3 hS2,⟨ka,[],rfl,Zb,.nil⟩,ZIo,ZDd,⟨Nat.zero_le _,(fun p hp=>nomatch hp),Nat.zero_le _⟩,?_⟩
  unfold ZwW at q
  cases hm:Zcn ZdF (D.write 1 (some Zeq)) Zau [] with
  | error r=>
   rw [hm] at q
   exact fun H' s'=>q H' (fun d o e h1 h2=>s' _ _ (s3 _ _ (b2 _ _ (s1 _ _ e) h1 h2)))
  | ok I=>
   rw [hm] at q
   dsimp only at q
   intro iv H3 s4 hI
   have hT3:=(hT.same s3).same s4
   have hD3:=(hD2.same s3).same s4
   obtain ⟨dx3,y3,hq3,hy3⟩:=id hT3
   obtain ⟨_,vb3,vl3,h3⟩:=id hD3
   refine ⟨_,rfl,q0,dx3,_,rfl,hq3,ZCU _ _ _ _,_,rfl,?_⟩
   dsimp only [tNil,List.append_nil]
   have io:=hio I hm
   refine ⟨q0,p,b,l,ZdF,D.write 1 (some Zeq),iv,I,rfl,hT3,hD3,hI,io,.inr rfl,?_,?_,fun H4 k4 hT4 hD4=>?_⟩
   ·show 2≤(D.blocks.set _ _).length
    rw [List.length_set];exact hb2
   ·show (D.log++[_]).length≤_
    rw [List.length_append]
    show D.log.length + 1≤_
    omega
   have k4':∀ d o,H3 d=some o→ZCE o→H4 d=some o:=fun d o e n=>k4 _ _ e (fun z=>by subst z;rw [h3.hb] at e;cases e;exact n.1 _ rfl) (fun z=>by subst z;rw [h3.hl] at e;cases e;exact n.1 _ rfl) (fun z=>by subst z;rw [hq3] at e;cases e;exact n.2 _ _ _ _ _ _ rfl)
   have hS4:ZS g H4 Zau sv:=ZS.ls k4' (ZS.mono _ _ _ _ (s3.trans s4) hS2)
   have hI4:=hI.ls k4'
   refine ⟨_,rfl,fun kb hkb=>?_⟩
   have s5:=Zk (o:=.dK []) hkb
   refine ⟨_,rfl,_,rfl,fun x dx' hx hdx' ne=>⟨x,dx',_,_,_,_,rfl,Zb,fun H6 kp hf=>⟨rfl,?_⟩⟩⟩
   have s6:Same (upd H4 kb (.dK [])) H6:=fun d o eb=>by
    have h1:d≠x:=Zd eb hx
    have h2:d≠dx':=Zd eb hdx'
    exact kp d o (by rw [Zc h1,Zc h2];exact eb) h1
   have sB:=s5.trans s6
   refine q x q0 H6 (fun d o e h1 h2=>?_) ⟨dx',sv,.ref kb,iv,hf,ZS.mono _ _ _ _ sB hS4,⟨kb,[],rfl,s6 _ _ Zb,.nil⟩,hT4.same sB,hD4.same sB,Zj9.mono _ _ _ _ sB hI4⟩
   have hdq:d≠q0:=Zd (s1 _ _ e) hq0
   exact sB _ _ (k4 _ _ (s4 _ _ (s3 _ _ (b2 _ _ (s1 _ _ e) h1 h2))) h1 h2 hdq)
end
end KS
namespace KS
open PySem L2
section
variable {P:Program} {w:World} {K:PySem.W.Frag} {mg:Str→Option Value} {base:Heap} {g:Gs}
def ZK2 (K:PySem.W.Frag):Sp:=fun vs H Q _=>∃ (a:Addr) (ns:List Int) (k:Int),vs=[.ref a,.int k]∧SqL K H a (ns.map V.int)∧ns.length≤63∧0≤k∧k < 1000000∧∀ H',Same H H'→Q (.int (ZLV ns k)) H'
def ZJx:Sp:=fun vs H Q _=>∃ c k:Int,vs=[.int c,.int k]∧Q (.int (ZMG c k)) H
theorem Zyk:Zq ["_law_script","_law_k"] ["_law_script","_law_k"] (Zg Zb9):=⟨rfl,rfl,rfl,by decide +kernel,rfl,by decide +kernel,by decide +kernel⟩
theorem ZyG (T:Tx K mg g):FnOk P w K mg base (CXE P w) 1 g._law_cell g._law_cell_d ["_law_script","_law_k"] (ZK2 K):=by
 refine T.ZsX.okE Zyk (fun vs H Q E h=>?_) (fun cdv A outer s H vs Q E hr h=>?_)
 ·obtain ⟨a,ns,k,rfl,_⟩:=h
  rfl
 ·obtain ⟨a,ns,k,rfl,hS,hl,hk0,hk1,q⟩:=h
  have hu64:=hr.units
  refine ⟨_,(Ze (ZbK (ZY (ZLn hu64) (pv 0) (ZcP Zf) (ZaN _)) (Zi (ZE (ZD ZiE (pv 1) Zn))) ZT)
   (Zi (ZE (ZD ZgK (ZjQ Zcf (pv 0) (ZD Zb0 (pv 1) (ZC ZM (by rfl) T.ZcH PySem.boot_len (Za (pv 0) Zf))) (fun _ _=>rfl)) (ZD ZiE (ZD ZcI (pv 1) (ZC ZM (by rfl) T.ZcH PySem.boot_len (Za (pv 0) Zf))) Zn))))),?_⟩
  refine ⟨_,rfl,Nat.zero_le _,fun p hp=>?_⟩
  have sm:Same H (upd H p (.lst [])):=Zk hp
  have hS':=sm.seq hS
  refine ⟨.list (ns.map .int),.list [],.inl (.inr ⟨a,_,_,rfl,rfl,hS',ZDf _ ns⟩),.inl (.inr ⟨p,[],[],rfl,rfl,SqL.of Zb,.nil⟩),ZBi ns,rfl,_,rfl,?_⟩
  cases ns with
  | nil=>
   refine iteT ?_
   refine ⟨_,rfl,_,_,rfl,rfl,.inr ⟨by decide,by decide⟩,?_⟩
   exact q _ sm
  | cons n r=>
   refine iteF ?_
   have hL:(0:Int) < ((n::r).length:Int):=by rw [List.length_cons];omega
   have hm0:0≤k % ((n::r).length:Int):=Int.emod_nonneg _ (by omega)
   have hm1:k % ((n::r).length:Int) < ((n::r).length:Int):=Int.emod_lt_of_pos _ hL
   have hlt:(k % ((n::r).length:Int)).toNat < (n::r).length:=by omega
   have hd0:0≤k / ((n::r).length:Int):=Int.ediv_nonneg hk0 (by omega)
   have hd1:k / ((n::r).length:Int)≤k:=Int.ediv_le_self _ hk0
   have hat:atI ((n::r).map V.int) (k % ((n::r).length:Int))=some (V.int ((n::r).getD (k % ((n::r).length:Int)).toNat 0)):=by
    refine Zz3 hm0 ?_
    rw [List.getElem?_map,List.getElem?_eq_getElem hlt,Option.map_some,List.getD_eq_getElem?_getD,List.getElem?_eq_getElem hlt]
    rfl
   have hmap:((n::r).map V.int).length=(n::r).length:=List.length_map ..
   refine ⟨_,rfl,_,rfl,_,rfl,a,_,rfl,.inl hS',_,_,rfl,rfl,(by rw [hmap];exact hL),a,_,_,_,rfl,rfl,hS',(by rw [hmap];exact hat),?_⟩
   refine ⟨_,rfl,_,rfl,a,_,rfl,.inl hS',_,_,rfl,rfl,(by rw [hmap];exact ⟨hL,by omega⟩),_,_,rfl,rfl,.inr ⟨by decide,by decide⟩,_,_,rfl,rfl,?_⟩
   have:=q _ sm
   rw [hmap]
   unfold ZLV at this
   rw [if_neg (by simp)] at this
   exact this
theorem Zky:Zq ["_law_cell_here","_law_k","_law_more"] ["_law_cell_here","_law_k"] (Zg Zbv):=⟨rfl,rfl,rfl,by decide +kernel,rfl,by decide +kernel,by decide +kernel⟩
theorem ZvT (T:Tx K mg g):FnOk P w K mg base (CXE P w) 1 g._law_drawn g._law_drawn_d ["_law_cell_here","_law_k"] ZJx:=by
 refine T.Zql.okE Zky (fun vs H Q E h=>?_) (fun cdv A outer s H vs Q E hr h=>?_)
 ·obtain ⟨c,k,rfl,_⟩:=h
  rfl
 ·obtain ⟨c,k,rfl,q⟩:=h
  refine ⟨_,(Ze (ZI (i:=2) Zky.nd rfl (Or.inl rfl) (ZD Zb0 (ZD ZgK (ZD ZiE (pv 0) Zn) (ZD ZiE (ZD ZgK (pv 1) Zn) Zn)) Zn))
   (Zi (ZE (ZD Zb0 (ZD ZJR (pv 2) (pv 2)) Zn)))),?_⟩
  refine ⟨_,rfl,_,_,rfl,rfl,.inr ⟨by decide,by decide⟩,_,rfl,_,_,rfl,rfl,_,_,rfl,rfl,.inr ⟨by decide,by decide⟩,_,_,rfl,rfl,_,_,rfl,rfl,(by show (0:Int) < 340282366920938463463374607431768211507;decide),?_⟩
  have h1:=ZHZ c k
  have h2:=ZH0 c k
  have h3:(ZEu c k).natAbs < 2 ^ 200:=by
   have:(ZEu c k).natAbs < 340282366920938463463374607431768211507:=by omega
   exact Nat.lt_trans this (by decide)
  refine ⟨_,rfl,_,rfl,_,_,rfl,rfl,⟨h3,h3⟩,_,_,rfl,rfl,(by show (0:Int) < 340282366920938463463374607431768211297;decide),?_⟩
  exact q
def ZKQ (g:Gs):Sp:=fun vs H Q _=>∃ (a:Addr) (r:Rf),vs=[.ref a]∧IsX H a (g.xa r)∧∀ H',Same H H'→Q (.str r.word) H'
def rfs:List Rf:=[.noThing,.noDirectory,.badName,.isThere,.noRoom,.notEmpty,.wrongKind,.tooGreat,.readOnly,.noFiles]
theorem ZHA (r:Rf):((rfs.map fun u=>V.bl (decide (r=u))).countP fun z=>eqV z (.bl true))=1:=by cases r <;> decide
def rfIx:Rf→Nat
 | .noThing=>0 | .noDirectory=>1 | .badName=>2 | .isThere=>3 | .noRoom=>4 | .notEmpty=>5 | .wrongKind=>6 | .tooGreat=>7 | .readOnly=>8 | .noFiles=>9
theorem ZMn (r:Rf):∃ z,(rfs.map fun u=>V.bl (decide (r=u)))[rfIx r]?=some z∧eqV z (.bl true)=true:=by cases r <;> exact ⟨_,rfl,rfl⟩
theorem ZHB (r:Rf):∀ m z,m < rfIx r→(rfs.map fun u=>V.bl (decide (r=u)))[m]?=some z→eqV z (.bl true)=false:=by
 intro m z hm hz
 have hm':m < 10:=by cases r <;> simp only [rfIx] at hm <;> omega
 have key:∀ r:Rf,∀ m:Fin 10,m.val < rfIx r→(rfs.map fun u=>V.bl (decide (r=u)))[m.val]?=some (.bl false):=by
  intro r m
  cases r <;> revert m <;> decide
 have:=key r ⟨m,hm'⟩ hm
 rw [this] at hz
 cases hz
 rfl
theorem ZJG (r:Rf):atI [V.str "NoThing",.str "NoDirectory",.str "BadName",.str "IsThere",.str "NoRoom",.str "NotEmpty",.str "WrongKind",.str "TooGreat",.str "ReadOnly",.str "NoFiles"] ((rfIx r:Nat):Int)=some (.str r.word):=by
 cases r <;> rfl
theorem Zct:Zq ["_law_e","_law_flags","_law_names"] ["_law_e"] (Zg Zb6):=⟨rfl,rfl,rfl,by decide +kernel,rfl,by decide +kernel,by decide +kernel⟩
theorem ZyC (T:Tx K mg g):ZKB P w K mg base 1 g._law_word g._law_word_d ["_law_e"] (ZKQ g):=by
 refine T.ZsT.okH Zct (fun vs H Q E h=>?_) (fun cdv A outer s H vs Q E hr h=>?_)
 ·obtain ⟨a,r,rfl,_⟩:=h
  rfl
 ·obtain ⟨a,r,rfl,ha,q⟩:=h
  refine ⟨_,(Ze (ZI (i:=1) Zct.nd rfl (Or.inl rfl) (ZcP (Za (ZfV (pv 0) (ZF (v:=.ref g.NoThing) rfl T.Zy8 rfl) rfl T.ZL) (Za (ZfV (pv 0) (ZF (v:=.ref g.NoDirectory) rfl T.Zlw rfl) rfl T.ZL) (Za (ZfV (pv 0) (ZF (v:=.ref g.BadName) rfl T.Zy9 rfl) rfl T.ZL) (Za (ZfV (pv 0) (ZF (v:=.ref g.IsThere) rfl T.ZrK rfl) rfl T.ZL) Zf))))))
   (Ze (ZI (i:=1) Zct.nd rfl (Or.inl rfl) (ZD Zyx (pv 1) (ZcP (Za (ZfV (pv 0) (ZF (v:=.ref g.NoRoom) rfl T.ZDb rfl) rfl T.ZL) (Za (ZfV (pv 0) (ZF (v:=.ref g.NotEmpty) rfl T.ZEC rfl) rfl T.ZL) (Za (ZfV (pv 0) (ZF (v:=.ref g.WrongKind) rfl T.ZB0 rfl) rfl T.ZL) Zf))))))
   (Ze (ZI (i:=1) Zct.nd rfl (Or.inl rfl) (ZD Zyx (pv 1) (ZcP (Za (ZfV (pv 0) (ZF (v:=.ref g.TooGreat) rfl T.Zh0 rfl) rfl T.ZL) (Za (ZfV (pv 0) (ZF (v:=.ref g.ReadOnly) rfl T.Zuh rfl) rfl T.ZL) (Za (ZfV (pv 0) (ZF (v:=.ref g.NoFiles) rfl T.ZGc rfl) rfl T.ZL) Zf))))))
   (Ze (ZI (i:=2) Zct.nd rfl (Or.inl rfl) (ZcP (Za Zo (Za Zo (Za Zo (Za Zo (Za Zo (Za Zo (Za Zo (Za Zo (Za Zo Zf)))))))))))
   (Ze (ZbK (PW.pt (Zrg (ZY ZJQ (Zrr PySem.F.plainAttrs_list PySem.F.slot_list_count PySem.F.type_list_count ZHY (pv 1) (Za ZvM Zf)) Zn (ZaN _)) (Zrg (Zri (Zrh (ZfV (pv 0) (ZF (v:=.ref g.StillError) rfl T.ZoJ rfl) rfl T.ZL))) (Zt7 (Zri (Zrh (ZfV (pv 0) (ZJP (v:=.ty "ValueError") rfl T.Zge PyProof.Rows.Boot.«ValueError» rfl) rfl T.ZL))))))) (Zi (ZE Zo)) ZT)
   (Zi (ZE (ZjQ Zcf (ZD Zyx (pv 2) (ZcP (Za Zo Zf))) (Zrr PySem.F.plainAttrs_list PySem.F.slot_list_index PySem.F.type_list_index ZHX (pv 1) (Za ZvM Zf)) (fun _ _=>rfl))))))))),?_⟩
  have xf:=T.xf r
  refine ⟨_,rfl,a,_,_,_,rfl,ha,xf,T.kit r .noThing,_,rfl,a,_,_,_,rfl,ha,xf,T.kit r .noDirectory,_,rfl,a,_,_,_,rfl,ha,xf,T.kit r .badName,_,rfl,a,_,_,_,rfl,ha,xf,T.kit r .isThere,(szl 4),fun p1 n1=>?_⟩
  have s1:=Zk (o:=.lst [.bl (decide (r=.noThing)),.bl (decide (r=.noDirectory)),.bl (decide (r=.badName)),.bl (decide (r=.isThere))]) n1
  have h1:=ha.same s1
  refine ⟨_,rfl,_,rfl,a,_,_,_,rfl,h1,xf,T.kit r .noRoom,_,rfl,a,_,_,_,rfl,h1,xf,T.kit r .notEmpty,_,rfl,a,_,_,_,rfl,h1,xf,T.kit r .wrongKind,(szl 3),fun p2 n2=>?_⟩
  have s2:=Zk (o:=.lst [.bl (decide (r=.noRoom)),.bl (decide (r=.notEmpty)),.bl (decide (r=.wrongKind))]) n2
  refine ⟨p1,p2,_,_,rfl,rfl,s2 _ _ Zb,Zb,(szl 7),fun p3 n3=>?_⟩
  have s3:=Zk (o:=.lst ([.bl (decide (r=.noThing)),.bl (decide (r=.noDirectory)),.bl (decide (r=.badName)),.bl (decide (r=.isThere))]++[.bl (decide (r=.noRoom)),.bl (decide (r=.notEmpty)),.bl (decide (r=.wrongKind))])) n3
  have h3:=(h1.same s2).same s3
  refine ⟨_,rfl,_,rfl,a,_,_,_,rfl,h3,xf,T.kit r .tooGreat,_,rfl,a,_,_,_,rfl,h3,xf,T.kit r .readOnly,_,rfl,a,_,_,_,rfl,h3,xf,T.kit r .noFiles,(szl 3),fun p4 n4=>?_⟩
  have s4:=Zk (o:=.lst [.bl (decide (r=.tooGreat)),.bl (decide (r=.readOnly)),.bl (decide (r=.noFiles))]) n4
  refine ⟨p3,p4,_,_,rfl,rfl,s4 _ _ Zb,Zb,(szl 10),fun p5 n5=>?_⟩
  have s5:=Zk (o:=.lst (rfs.map fun u=>V.bl (decide (r=u)))) n5
  have h5:=(h3.same s4).same s5
  refine ⟨(szl 9),fun p6 n6=>?_⟩
  have s6:=Zk (o:=.lst [.str "NoThing",.str "NoDirectory",.str "BadName",.str "IsThere",.str "NoRoom",.str "NotEmpty",.str "WrongKind",.str "TooGreat",.str "ReadOnly"]) n6
  have h6:=h5.same s6
  have hf:=s6 _ _ (Zb (H:=upd (upd (upd (upd H p1 _) p2 _) p3 _) p4 _) (a:=p5) (o:=.lst (rfs.map fun u=>V.bl (decide (r=u)))))
  have hfl:(rfs.map fun u=>V.bl (decide (r=u))).all ZjX=true:=rfl
  refine ⟨_,rfl,.inl ⟨rfl,_,SqL.of hf⟩,p5,_,_,rfl,rfl,SqL.of hf,rfl,hfl,rfl,_,rfl,?_⟩
  rw [ZHA]
  refine iteF ?_
  refine ⟨_,rfl,a,_,_,_,rfl,h6,xf,T.kitS r,_,rfl,?_⟩
  refine iteF ?_
  refine ⟨_,rfl,a,_,_,_,rfl,h6,xf,T.kitV r,_,rfl,?_⟩
  refine iteF ?_
  refine ⟨_,rfl,(szl 1),fun p7 n7=>?_⟩
  have s7:=Zk (o:=.lst [.str "NoFiles"]) n7
  refine ⟨p6,p7,_,_,rfl,rfl,s7 _ _ Zb,Zb,(szl 10),fun p8 n8=>?_⟩
  have s8:=Zk (o:=.lst ([.str "NoThing",.str "NoDirectory",.str "BadName",.str "IsThere",.str "NoRoom",.str "NotEmpty",.str "WrongKind",.str "TooGreat",.str "ReadOnly"]++[.str "NoFiles"])) n8
  have hf8:=s8 _ _ (s7 _ _ hf)
  refine ⟨_,rfl,.inl ⟨rfl,_,SqL.of hf8⟩,p5,_,_,rfIx r,rfl,rfl,SqL.of hf8,rfl,hfl,ZMn r,ZHB r,p8,_,_,_,rfl,rfl,SqL.of Zb,ZJG r,?_⟩
  exact q _ (s1.trans (s2.trans (s3.trans (s4.trans (s5.trans (s6.trans (s7.trans s8)))))))
end
end KS
namespace L2
open PySem Builtin.Str PySem.StrLaws
theorem ZBE (s sub:Str) (hs:sub.length=1) (hi limit:Nat):∀ (k i:Nat) (st:Array Nat×Nat),st.2≤i→st.1.size + k≤limit→
  (forIn (List.range' i k) st (occBody s sub hi limit)).run.fst.toList=st.1.toList++(List.range' i k).filter fun j=>decide (j + 1≤hi) && subAt s sub j
 | 0,i,st,_,_=>by rw [List.range'_zero];simp
 | k + 1,i,st,h1,h2=>by
  rw [List.range'_succ,List.forIn_cons,List.filter_cons]
  unfold occBody
  by_cases hc:i + 1≤hi∧subAt s sub i=true
  ·rw [if_pos ⟨⟨⟨by omega,h1⟩,by rw [hs];exact hc.1⟩,hc.2⟩,if_pos (by rw [decide_eq_true hc.1,hc.2];rfl)]
   show (forIn (List.range' (i + 1) k) (st.1.push i,i + sub.length) (occBody s sub hi limit)).run.fst.toList=_
   rw [ZBE s sub hs hi limit k (i + 1) (st.1.push i,i + sub.length) (by rw [hs];exact Nat.le_refl _) (by rw [Array.size_push];omega),Array.toList_push,List.append_assoc]
   rfl
  ·rw [if_neg (fun z=>hc ⟨by have:=z.1.2;rw [hs] at this;exact this,z.2⟩),if_neg (by
    intro z
    rw [Bool.and_eq_true,decide_eq_true_iff] at z
    exact hc z)]
   show (forIn (List.range' (i + 1) k) (st.1,st.2) (occBody s sub hi limit)).run.fst.toList=_
   exact ZBE s sub hs hi limit k (i + 1) (st.1,st.2) (by show st.2≤i + 1;omega) (by show st.1.size + k≤limit;omega)
def Za2 (c:Nat):List Nat→List (List Nat)
 | []=>[[]]
 | x::r=>if x=c then []::Za2 c r else match Za2 c r with
  | h::t=>(x::h)::t
  | []=>[[x]]
theorem ZqZ (c:Nat):∀ l,Za2 c l≠[]
 | []=>by simp [Za2]
 | x::r=>by
  unfold Za2
  split
  ·simp
  ·cases h:Za2 c r with
   | nil=>simp
   | cons a t=>simp
theorem ZxY (s:Str) (c i:Nat) (hi:i < s.cps.size):subAt s ⟨#[c]⟩ i=decide (s.cps.toList[i]?=some c):=by
 unfold subAt
 show (s.cps.extract i (i + 1) == #[c])=_
 have e:s.cps.extract i (i + 1)=#[s.cps[i]]:=by
  apply Array.ext
  ·simp;omega
  ·intro j h1 h2
   simp at h2
   subst h2
   simp
 rw [e,Array.getElem?_toList,Array.getElem?_eq_getElem hi]
 by_cases z:s.cps[i]=c
 ·rw [z];simp
 ·rw [decide_eq_false (by intro y;exact z (Option.some.inj y))]
  simp [z]
theorem ZjR (s:Str) (c:Nat):∀ (k a i:Nat),a≤i→i + k=s.cps.size→
  partsFrom s 1 a ((List.range' i (k + 1)).filter fun j=>decide (j + 1≤s.length) && subAt s ⟨#[c]⟩ j)=(match Za2 c (s.cps.toList.drop i) with
   | h::t=>⟨(((s.cps.toList.drop a).take (i - a))++h).toArray⟩::t.map fun l=>⟨l.toArray⟩
   | []=>[])
 | 0,a,i,ha,hk=>by
  have hd:s.cps.toList.drop i=[]:=List.drop_eq_nil_of_le (by rw [Array.length_toList];omega)
  rw [hd]
  have e1:(List.range' i 1).filter (fun j=>decide (j + 1≤s.length) && subAt s ⟨#[c]⟩ j)=[]:=by
   rw [show List.range' i 1=[i] from rfl,List.filter_cons,decide_eq_false (show ¬ i + 1≤s.length by show ¬ i + 1≤s.cps.size;omega)]
   rfl
  rw [e1]
  show [strSub s a s.length]=[⟨(((s.cps.toList.drop a).take (i - a))++[]).toArray⟩]
  rw [List.append_nil]
  unfold strSub
  congr 2
  apply Array.toList_inj.mp
  rw [Array.toList_extract]
  show (s.cps.toList.drop a).take (s.cps.size - a)=(s.cps.toList.drop a).take (i - a)
  rw [show i=s.cps.size by omega]
 | k + 1,a,i,ha,hk=>by
  have hi:i < s.cps.size:=by omega
  have hl:i < s.cps.toList.length:=by rw [Array.length_toList];exact hi
  rw [List.range'_succ,List.filter_cons,ZxY s c i hi,List.getElem?_eq_getElem hl,List.drop_eq_getElem_cons hl]
  rw [decide_eq_true (show i + 1≤s.length by show i + 1≤s.cps.size;omega),Bool.true_and]
  unfold Za2
  by_cases z:s.cps.toList[i]=c
  ·rw [if_pos z,if_pos (by rw [z];simp)]
   show strSub s a i::partsFrom s 1 (i + 1) _=_
   rw [ZjR s c k (i + 1) (i + 1) (Nat.le_refl _) (by omega)]
   have e0:strSub s a i=⟨(((s.cps.toList.drop a).take (i - a))++[]).toArray⟩:=by
    rw [List.append_nil]
    unfold strSub
    congr 1
    apply Array.toList_inj.mp
    rw [Array.toList_extract]
   rw [e0]
   cases hsp:Za2 c (s.cps.toList.drop (i + 1)) with
   | nil=>exact absurd hsp (ZqZ _ _)
   | cons h t=>
    show (_:Str)::(⟨(((s.cps.toList.drop (i + 1)).take (i + 1 - (i + 1)))++h).toArray⟩:Str)::t.map _=(_:Str)::(h::t).map _
    rw [Nat.sub_self,List.take_zero,List.nil_append,List.map_cons]
  ·rw [if_neg z,if_neg (by intro y;exact z (Option.some.inj (of_decide_eq_true y)))]
   rw [ZjR s c k a (i + 1) (by omega) (by omega)]
   cases hsp:Za2 c (s.cps.toList.drop (i + 1)) with
   | nil=>exact absurd hsp (ZqZ _ _)
   | cons h t=>
    show (⟨(((s.cps.toList.drop a).take (i + 1 - a))++h).toArray⟩:Str)::t.map _=(⟨(((s.cps.toList.drop a).take (i - a))++s.cps.toList[i]::h).toArray⟩:Str)::t.map _
    have e1:(s.cps.toList.drop a).take (i + 1 - a)=(s.cps.toList.drop a).take (i - a)++[s.cps.toList[i]]:=by
     have hlt:i - a < (s.cps.toList.drop a).length:=by rw [List.length_drop];omega
     rw [show i + 1 - a=(i - a) + 1 by omega,List.take_succ_eq_append_getElem hlt,List.getElem_drop]
     congr 3
     omega
    rw [e1,List.append_assoc]
    rfl
theorem ZCY (s:Str) (c:Nat) (hk:Builtin.Str.strKind ⟨#[c]⟩=1):ZaJ s ⟨#[c]⟩=(Za2 c s.cps.toList).map fun l=>⟨l.toArray⟩:=by
 have hone:(Za2 c s.cps.toList).map (fun l=>(⟨l.toArray⟩:Str))=partsBetween s (occurrences s ⟨#[c]⟩ 0 s.length (s.length + 1)) 1:=by
  rw [partsBetween_eq,occ_eq]
  have:=ZBE s ⟨#[c]⟩ rfl s.length (s.length + 1) (s.length + 1) 0 (#[],0) (Nat.le_refl _) (by show 0 + _≤_;omega)
  rw [show s.length + 1 - 0=s.length + 1 from rfl,this]
  show _=partsFrom s 1 0 ([]++_)
  rw [List.nil_append,ZjR s c s.length 0 0 (Nat.le_refl _) (by show 0 + s.cps.size=_;omega),List.drop_zero]
  cases hsp:Za2 c s.cps.toList with
  | nil=>exact absurd hsp (ZqZ _ _)
  | cons h t=>rfl
 have empty1:(occurrences s ⟨#[c]⟩ 0 s.length (s.length + 1))=[]→ZaJ s ⟨#[c]⟩=[s]→ZaJ s ⟨#[c]⟩=(Za2 c s.cps.toList).map fun l=>⟨l.toArray⟩:=fun h1 h2=>by
  rw [h2,hone,h1,partsBetween_eq]
  show [s]=[strSub s 0 s.length]
  unfold strSub
  congr 1
  show s=⟨s.cps.extract 0 s.cps.size⟩
  rw [Array.extract_size]
 unfold ZaJ
 split
 ·rename_i h1
  have hno:s.cps.size=0:=by
   rw [Bool.or_eq_true,decide_eq_true_iff,decide_eq_true_iff,hk] at h1
   rcases h1 with h1 | h1
   ·have:s.cps.size < 1:=h1
    omega
   ·exfalso
    have:1≤Builtin.Str.strKind s:=by
     unfold Builtin.Str.strKind
     split
     ·omega
     ·split <;> omega
    omega
  have hl:s.cps.toList=[]:=by
   apply List.eq_nil_of_length_eq_zero
   rw [Array.length_toList];exact hno
  rw [hl]
  show [s]=[⟨#[]⟩]
  congr 1
  have:s.cps=#[]:=Array.eq_empty_of_size_eq_zero hno
  cases s
  simp at this
  rw [this]
 ·split
  ·rename_i h1 h2
   have h2':=List.isEmpty_iff.mp h2
   rw [hone,h2',partsBetween_eq]
   show [s]=[strSub s 0 s.length]
   unfold strSub
   congr 1
   show s=⟨s.cps.extract 0 s.cps.size⟩
   rw [Array.extract_size]
  ·rw [hone]
   rfl
end L2
namespace KS
open PySem L2
def Zvb:List (Int×Ents):=[(0,[("a",1),("b",2),("...",3)]),(1,[("a",4),("file",5),("A.-_9zZ0",6)]),(4,[("a",7)]),(7,[])]
def ZxR:List Str→Int→V
 | [],n=>.int n
 | m::ms,n=>match getA Zvb n with
  | none=>.str "NoDirectory"
  | some es=>match getA es m with
   | none=>.str "NoThing"
   | some i=>ZxR ms i
def dueF (p:Str):V:=if p="/" then .int 0 else
 if 60 < p.length∨(ZaJ p "/").length < 2∨(ZaJ p "/").headD ""≠""∨¬ (ZaJ p "/").tail.all ZZ=true then .str "BadName" else ZxR (ZaJ p "/").tail 0
def ZKJ:Except Rf Int→V
 | .ok n=>.int n
 | .error r=>.str r.word
theorem ZCL {S:Sta} (hS:S.ent=Zvb):∀ (ns:List Str) (ps:List Int),(match Zjx S ns ps with | .ok qs=>V.int (qs.getLastD 0) | .error r=>.str r.word)=ZxR ns (ps.getLastD 0)
 | [],ps=>rfl
 | n::ns,ps=>by
  rw [ZqV,hS]
  unfold ZxR
  cases h1:getA Zvb (ps.getLastD 0) with
  | none=>rfl
  | some es=>
   dsimp only
   cases h2:getA es n with
   | none=>rfl
   | some i=>
    dsimp only
    rw [ZCL hS ns (ps++[i])]
    congr 1
    simp
theorem ZJz:("/":Str)=⟨#[47]⟩:=by decide +kernel
theorem ZIV:Builtin.Str.strKind ⟨#[47]⟩=1:=by decide +kernel
theorem cut1 (p:Str) (c:Nat) (cs:List Nat) (h:p.cps.toList=c::cs):cutS p (some 1) none=⟨cs.toArray⟩:=by
 have hl:p.length=cs.length + 1:=by
  show p.cps.size=_
  rw [← Array.length_toList,h,List.length_cons]
 have e1:Builtin.Str.strSliceIndices (some 1) none 1 p.length=(List.range (p.length - 1)).map fun k=>1 + k:=by
  have:=PySem.StrLaws.strSliceIndices_plain (a:=1) (b:=p.length) (len:=p.length) (by omega) (Nat.le_refl _)
  rw [← this]
  have e2:max (0:Int) (min (p.length:Int) (p.length:Int))=p.length:=by omega
  simp only [Builtin.Str.strSliceIndices,show ¬ ((p.length:Int) < 0) by omega,if_false,e2,show ((1:Int) > 0)=True from by simp,if_true]
  rfl
 unfold cutS
 rw [e1,if_neg (by rw [List.length_map,List.length_range,hl];simp)]
 congr 1
 congr 1
 rw [List.filterMap_map]
 have e3:∀ k,k < cs.length→((fun x=>p.cps[x]?) ∘ fun k=>1 + k) k=some (cs.getD k 0):=fun k hk=>by
  show p.cps[1 + k]?=_
  rw [← Array.getElem?_toList,h,Nat.add_comm,List.getElem?_cons_succ,List.getElem?_eq_getElem hk,List.getD_eq_getElem?_getD,List.getElem?_eq_getElem hk]
  rfl
 rw [hl,Nat.add_sub_cancel]
 have e4:(List.range cs.length).filterMap ((fun x=>p.cps[x]?) ∘ fun k=>1 + k)=(List.range cs.length).filterMap fun k=>some (cs.getD k 0):=by
  have:∀ l:List Nat,(∀ k∈l,k < cs.length)→l.filterMap ((fun x=>p.cps[x]?) ∘ fun k=>1 + k)=l.filterMap fun k=>some (cs.getD k 0):=by
   intro l
   induction l with
   | nil=>intro _;rfl
   | cons k r ih=>
    intro hl
    rw [List.filterMap_cons,List.filterMap_cons,e3 k (hl k List.mem_cons_self),ih fun j hj=>hl j (List.mem_cons_of_mem _ hj)]
  exact this _ fun k hk=>List.mem_range.mp hk
 rw [e4,List.filterMap_eq_map']
 exact Zh2 cs 0
theorem Zzz:("":Str)=⟨#[]⟩:=by decide +kernel
theorem ZIw {S:Sta} (hS:S.ent=Zvb) (p:Str):dueF p=ZKJ (ZB8 S p):=by
 unfold dueF ZB8
 by_cases h0:p="/"
 ·rw [if_pos h0]
  have e1:Zat p=true:=by rw [h0];decide +kernel
  have e2:Zr p=[]:=by unfold Zr;rw [if_pos h0]
  rw [e1,e2,if_pos rfl]
  rfl
 ·rw [if_neg h0]
  have hsp:=ZCY p 47 ZIV
  rw [← ZJz] at hsp
  rw [hsp]
  cases hc:p.cps.toList with
  | nil=>
   rw [if_pos (.inr (.inl (by decide)))]
   have e1:Zat p=false:=by
    unfold Zat
    have hl:p.length=0:=by show p.cps.size=0;rw [← Array.length_toList,hc];rfl
    rw [hl,if_neg (by decide),if_pos]
    rw [decide_eq_false (by decide +kernel)]
    rfl
   rw [e1]
   rfl
  | cons c cs=>
   have hsize:0 < p.cps.size:=by rw [← Array.length_toList,hc,List.length_cons];omega
   have hst:(decide (0 + Str.length "/"≤p.length) && Builtin.Str.subAt p "/" 0)=decide (c=47):=by
    rw [ZJz,ZxY p 47 0 hsize,hc]
    rw [decide_eq_true (show 0 + Str.length (⟨#[47]⟩:Str)≤p.length by show 0 + 1≤p.cps.size;omega),Bool.true_and]
    show decide (some c=some 47)=_
    by_cases z:c=47
    ·rw [z];rfl
    ·rw [decide_eq_false z,decide_eq_false (by intro y;exact z (Option.some.inj y))]
   by_cases z:c=47
   ·have e0:Za2 47 (c::cs)=[]::Za2 47 cs:=by show (if c=47 then _ else _)=_;rw [if_pos z]
    have epn:Zr p=(Za2 47 cs).map fun l=>(⟨l.toArray⟩:Str):=by
     unfold Zr
     rw [if_neg h0,cut1 p c cs hc]
     have:=ZCY ⟨cs.toArray⟩ 47 ZIV
     rw [← ZJz] at this
     rw [this]
    rw [e0,List.map_cons,List.tail_cons,← epn]
    have hlen:¬ ((⟨([]:List Nat).toArray⟩:Str)::Zr p).length < 2:=by
     have:=ZgJ h0
     have:0 < (Zr p).length:=List.length_pos_iff.mpr this
     rw [List.length_cons];omega
    have hhd:((⟨([]:List Nat).toArray⟩:Str)::Zr p).headD ""="":=by rw [Zzz];rfl
    by_cases h60:60 < p.length
    ·have eip:Zat p=false:=by unfold Zat;rw [if_pos h60]
     rw [if_pos (.inl h60),eip]
     rfl
    ·have eip:Zat p=(Zr p).all ZZ:=by
      unfold Zat
      rw [hst,decide_eq_true z,if_neg h60,if_neg (by decide)]
     rw [eip]
     cases hal:(Zr p).all ZZ with
     | true=>
      rw [if_neg (by intro y;rcases y with y | y | y | y;exact h60 y;exact hlen y;exact y hhd;exact y rfl),if_pos rfl]
      have:=ZCL hS (Zr p) [0]
      rw [show ([0]:List Int).getLastD 0=0 from rfl] at this
      rw [← this]
      cases Zjx S (Zr p) [0] <;> rfl
     | false=>
      rw [if_pos (.inr (.inr (.inr (by decide))))]
      rfl
   ·have e1:Zat p=false:=by
     unfold Zat
     rw [hst,decide_eq_false z]
     split
     ·rfl
     ·rfl
    rw [e1]
    have hhd:∃ a t,(Za2 47 (c::cs)).map (fun l=>(⟨l.toArray⟩:Str))=⟨(c::a).toArray⟩::t:=by
     have:Za2 47 (c::cs)=match Za2 47 cs with | h::t=>(c::h)::t | []=>[[c]]:=by show (if c=47 then _ else _)=_;rw [if_neg z];try (cases Za2 47 cs <;> rfl)
     rw [this]
     cases Za2 47 cs with
     | nil=>exact ⟨[],[],rfl⟩
     | cons h t=>exact ⟨h,_,rfl⟩
    obtain ⟨a,t,e⟩:=hhd
    rw [e,if_pos (.inr (.inr (.inl (by
     show (⟨(c::a).toArray⟩:Str)≠""
     rw [Zzz]
     intro y
     have:=congrArg (fun s:Str=>s.cps.size) y
     simp at this))))]
    rfl
end KS
namespace KS
open PySem L2
def ZwM (c:Nat):Bool:=(Txt.isalnum ⟨#[c]⟩ && decide ((c:Int) < 128)) || !(Builtin.Str.occurrences "._-" ⟨#[c]⟩ 0 (Str.length "._-") 1).isEmpty
theorem ZGe:∀ c∈Ztb.cps.toList,c < 128:=by decide +kernel
theorem ZH4:∀ c∈(Str.ofString "._-").cps.toList,c < 128:=by decide +kernel
theorem ZD5:∀ c:Fin 128,ZwM c.val=Zgj c.val:=by decide +kernel
theorem ZJC (c:Nat):ZwM c=Zgj c:=by
 by_cases h:c < 128
 ·exact ZD5 ⟨c,h⟩
 ·unfold ZwM Zgj
  rw [decide_eq_false (show ¬ (c:Int) < 128 by omega),Bool.and_false,Bool.false_or,PySem.StrLaws.found_one,PySem.StrLaws.found_one]
  rw [decide_eq_false (fun z=>h (ZH4 c z)),decide_eq_false (fun z=>h (ZGe c z))]
section
variable {P:Program} {w:World} {K:PySem.W.Frag} {mg:Str→Option Value} {base:Heap} {g:Gs}
theorem Zrc:Zq ["_law_name"] ["_law_name"] (Zg Zab):=⟨rfl,rfl,rfl,by decide +kernel,rfl,by decide +kernel,by decide +kernel⟩
theorem Zrw (T:Tx K mg g):FnOk P w K mg base (CXE P w) 1 g._law_is_name g._law_is_name_d ["_law_name"] ZCZ:=by
 refine T.Zjt.okE Zrc (fun vs H Q E h=>?_) (fun cdv A outer s H vs Q E hr h=>?_)
 ·obtain ⟨t,rfl,_⟩:=h
  rfl
 ·obtain ⟨t,rfl,hl,q⟩:=h
  have hc:t.cps.size=t.length:=rfl
  refine ⟨_,(Ze (ZbK (PW.pt (Zrg (ZY ZFX (ZC ZaR (by rfl) T.ZcH PySem.boot_len (Za (pv 0) Zf)) Zn (ZaN _)) (Zrg (ZY ZEm (ZC ZaR (by rfl) T.ZcH PySem.boot_len (Za (pv 0) Zf)) Zn (ZaN _)) (Zt7 (ZY Zyw (pv 0) (ZcP (Za Zo (Za Zo Zf))) rfl))))) (Zi (ZE ZvM)) ZT)
   (Zi (ZE (ZC ZqM (by rfl) T.ZDz PyProof.Rows.Boot.«all» (Za (ZgH (own:=["_law_sign"]) (fv:=[]) (ix:=[]) (Za1 (sc:=Zg Zab) (N:=["_law_name"]) rfl rfl (by decide +kernel)) rfl (ZFP (pv 0)) (fun _ _ _ _ _=>ZQ (i:=0) (show (["_law_sign"]:List Str).Nodup from by decide +kernel) rfl (Or.inl rfl) (Or.inr rfl)) (fun _ _ _ _ _=>ZgE) (fun _ _ _ _ _=>(ZLi (ZLm (ZJO (K:=K) rfl PySem.F.plainAttrs_str PySem.F.slot_str_isalnum PySem.F.type_str_isalnum ZBL (pv 0)) (ZFS (ZBt ZFX (ZC ZIE (by rfl) T.ZJh PyProof.Rows.Boot.«ord» (Za (pv 0) Zf)) Zn (ZaN _)))) (ZFS (ZBt Zyv (pv 0) Zo rfl))))) Zf))))),?_⟩
  refine ⟨_,rfl,_,rfl,hl,_,_,rfl,rfl,_,rfl,?_⟩
  by_cases h1:t.length < 1
  ·rw [decide_eq_true (show (t.length:Int) < 1 by omega)]
   refine iteT (iteT ?_)
   have:=q H (Same.refl _)
   unfold ZZ at this
   rw [if_pos (.inl h1)] at this
   exact this
  ·rw [decide_eq_false (show ¬ (t.length:Int) < 1 by omega)]
   refine iteF ?_
   refine ⟨_,rfl,_,rfl,hl,_,_,rfl,rfl,_,rfl,?_⟩
   by_cases h2:8 < t.length
   ·rw [decide_eq_true (show (8:Int) < (t.length:Int) by omega)]
    refine iteT (iteT ?_)
    have:=q H (Same.refl _)
    unfold ZZ at this
    rw [if_pos (.inr (.inl h2))] at this
    exact this
   ·rw [decide_eq_false (show ¬ (8:Int) < (t.length:Int) by omega)]
    refine iteF ?_
    refine ⟨_,rfl,(szl 2),fun p hp=>?_⟩
    refine ⟨p,_,rfl,.inl (SqL.of Zb),rfl,rfl,_,rfl,?_⟩
    have s1:Same H (upd H p (.lst [.str ".",.str ".."])):=Zk hp
    rw [show (if false=true then !inV (.str t) [.str ".",.str ".."] else inV (.str t) [.str ".",.str ".."])=(decide (t=".") || decide (t="..")) from inV2 _ _ _]
    by_cases h3:t="."∨t=".."
    ·rw [show (decide (t=".") || decide (t=".."))=true by simpa using h3]
     refine iteT ?_
     have:=q _ s1
     unfold ZZ at this
     rw [if_pos (.inr (.inr h3))] at this
     exact this
    ·rw [show (decide (t=".") || decide (t=".."))=false by simpa using h3]
     refine iteF ?_
     refine ⟨_,rfl,_,rfl,fun D hD=>?_⟩
     refine Zfp (J:=Its t) t.cps.size (fun i=>some (V.bl (Zgj (t.cps.getD i 0)))) (fun i x=>x=.str ⟨#[t.cps.getD i 0]⟩) hD (by omega) (fun i H' hi _=>hi) (fun H' _=>rfl) (fun i H' x H2 hi _ hy=>?_) (fun i x H' N hi hx _ k=>?_) fun H' s' hH=>?_
     ·obtain ⟨e,c,hc,e2⟩:=hy
      refine ⟨e,?_⟩
      rw [e2,show t.cps.getD i 0=c by rw [Array.getD_eq_getD_getElem?,hc];rfl]
     ·subst hx
      refine iteT (B:=N none H') ?_
      have hk:=k H' (Same.refl _)
      rw [← ZJC] at hk
      generalize t.cps.getD i 0=c at hk
      unfold ZwM at hk
      refine ⟨_,rfl,rfl,_,rfl,rfl,_,rfl,?_⟩
      cases ha:Txt.isalnum ⟨#[c]⟩ with
      | true=>
       rw [ha,Bool.true_and] at hk
       refine iteT ⟨_,rfl,_,rfl,rfl,_,_,rfl,rfl,_,rfl,?_⟩
       cases hb:decide (((#[c]:Array Nat).getD 0 0:Int) < 128) with
       | true=>
        have hb':decide ((c:Int) < 128)=true:=hb
        rw [hb'] at hk
        exact iteT hk
       | false=>
        have hb':decide ((c:Int) < 128)=false:=hb
        rw [hb',Bool.false_or] at hk
        exact iteF ⟨_,rfl,_,_,rfl,rfl,hk⟩
      | false=>
       rw [ha,Bool.false_and,Bool.false_or] at hk
       exact iteF ⟨_,rfl,iteF ⟨_,rfl,_,_,rfl,rfl,hk⟩⟩
     ·refine ⟨D,(List.range t.cps.size).map fun i=>Zgj (t.cps.getD i 0),rfl,SqL.of (by rw [hH,ZDx]),?_⟩
      have:=q _ (s1.trans s')
      unfold ZZ at this
      rw [if_neg (by intro z;rcases z with z | z | z;exact h1 z;exact h2 z;exact h3 z)] at this
      rw [all_map]
      exact this
def ZL3 (H:Hp) (v:V):Prop:=∃ a kvs,v=.ref a∧H a=some (.dK kvs)∧ZX Sum.inl Ziq H Zvb kvs
def ZKS:Sp:=fun vs H Q _=>vs=[]∧∀ v H',Same H H'→ZL3 H' v→Q v H'
theorem mg3 (a b c:V):ZiG [] [(Sum.inr ("a":Str),a),(Sum.inr ("b":Str),b),(Sum.inr ("...":Str),c)]=[(Sum.inr ("a":Str),a),(Sum.inr ("b":Str),b),(Sum.inr ("...":Str),c)]:=by kernel_rfl
theorem mg3b (a b c:V):ZiG [] [(Sum.inr ("a":Str),a),(Sum.inr ("file":Str),b),(Sum.inr ("A.-_9zZ0":Str),c)]=[(Sum.inr ("a":Str),a),(Sum.inr ("file":Str),b),(Sum.inr ("A.-_9zZ0":Str),c)]:=by kernel_rfl
theorem mg4 (a b c d:V):ZiG [] [(Sum.inl (0:Int),a),(Sum.inl (1:Int),b),(Sum.inl (4:Int),c),(Sum.inl (7:Int),d)]=[(Sum.inl (0:Int),a),(Sum.inl (1:Int),b),(Sum.inl (4:Int),c),(Sum.inl (7:Int),d)]:=by kernel_rfl
theorem Zl8 {H H2:Hp} {p:Addr} {o0 o:HO} (hp:H p=none) (s:Same (upd H p o0) H2):Same H (upd H2 p o):=fun b u e=>by
 rw [Zc (Zd e hp)]
 exact s _ _ (by rw [Zc (Zd e hp)];exact e)
theorem Zyj:Zq [] [] (Zg Zb7):=⟨rfl,rfl,rfl,by decide +kernel,rfl,by decide +kernel,by decide +kernel⟩
theorem ZyD (T:Tx K mg g):FnOk P w K mg base (CXE P w) 1 g._law_tree g._law_tree_d [] ZKS:=by
 refine T.ZsU.okE Zyj (fun vs H Q E h=>?_) (fun cdv A outer s H vs Q E hr h=>?_)
 ·obtain ⟨rfl,_⟩:=h
  rfl
 ·obtain ⟨rfl,q⟩:=h
  refine ⟨_,(Zi (ZE (Zrq (Zbe Zn (Zrq (Zbe Zo Zn (Zbe Zo Zn (Zbe Zo Zn Zrk))) rfl rfl (by simp) (by decide)) (Zbe Zn (Zrq (Zbe Zo Zn (Zbe Zo Zn (Zbe Zo Zn Zrk))) rfl rfl (by simp) (by decide)) (Zbe Zn (Zrq (Zbe Zo Zn Zrk) rfl rfl (by simp) (by decide)) (Zbe Zn Ze1 Zrk)))) rfl rfl (by simp) (by decide)))),?_⟩
  refine fun p0 h0=>fun p1 h1=>⟨Zb,[(Sum.inr ("a":Str),.int 1),(Sum.inr ("b":Str),.int 2),(Sum.inr ("...":Str),.int 3)],rfl,(by show 3≤15;decide),?_⟩
  rw [mg3]
  generalize hA1:upd (upd (upd H p0 (.dK [])) p1 (.dK [])) p1 _=A1
  have s1:Same (upd H p0 (.dK [])) A1:=hA1 ▸ Zl8 h1 (Same.refl _)
  have f1:A1 p1=some (.dK (eKV [("a",1),("b",2),("...",3)])):=hA1 ▸ Zb
  clear hA1
  refine fun p2 h2=>⟨Zb,[(Sum.inr ("a":Str),.int 4),(Sum.inr ("file":Str),.int 5),(Sum.inr ("A.-_9zZ0":Str),.int 6)],rfl,(by show 3≤15;decide),?_⟩
  rw [mg3b]
  generalize hA2:upd (upd A1 p2 (.dK [])) p2 _=A2
  have s2:Same A1 A2:=hA2 ▸ Zl8 h2 (Same.refl _)
  have f2:A2 p2=some (.dK (eKV [("a",4),("file",5),("A.-_9zZ0",6)])):=hA2 ▸ Zb
  clear hA2
  refine fun p3 h3=>⟨Zb,[(Sum.inr ("a":Str),.int 7)],rfl,(by show 1≤15;decide),?_⟩
  rw [show ZiG [] [(Sum.inr ("a":Str),V.int 7)]=[(Sum.inr ("a":Str),V.int 7)] from rfl]
  generalize hA3:upd (upd A2 p3 (.dK [])) p3 _=A3
  have s3:Same A2 A3:=hA3 ▸ Zl8 h3 (Same.refl _)
  have f3:A3 p3=some (.dK (eKV [("a",7)])):=hA3 ▸ Zb
  clear hA3
  refine fun p4 h4=>?_
  have s4:Same A3 (upd A3 p4 (.dK [])):=Zk h4
  have f4:(upd A3 p4 (.dK [])) p4=some (.dK (eKV [])):=Zb
  generalize upd A3 p4 (.dK [])=A4 at s4 f4 ⊢
  have t3:=s4
  have t2:=s3.trans t3
  have t1:=s2.trans t2
  have t0:=s1.trans t1
  refine ⟨t0 _ _ Zb,[(Sum.inl 0,.ref p1),(Sum.inl 1,.ref p2),(Sum.inl 4,.ref p3),(Sum.inl 7,.ref p4)],rfl,(by show 4≤15;decide),?_⟩
  rw [mg4]
  have hn1:p1≠p0:=fun z=>by subst z;rw [Zb] at h1;cases h1
  have hn2:p2≠p0:=fun z=>by subst z;rw [s1 _ _ Zb] at h2;cases h2
  have hn3:p3≠p0:=fun z=>by subst z;rw [(s1.trans s2) _ _ Zb] at h3;cases h3
  have hn4:p4≠p0:=fun z=>by subst z;rw [((s1.trans s2).trans s3) _ _ Zb] at h4;cases h4
  refine q _ _ (Zl8 h0 t0) ⟨p0,_,rfl,Zb,?_⟩
  refine .cons ⟨rfl,p1,rfl,?_⟩ (.cons ⟨rfl,p2,rfl,?_⟩ (.cons ⟨rfl,p3,rfl,?_⟩ (.cons ⟨rfl,p4,rfl,?_⟩ .nil)))
  ·rw [Zc hn1];exact t1 _ _ f1
  ·rw [Zc hn2];exact t2 _ _ f2
  ·rw [Zc hn3];exact t3 _ _ f3
  ·rw [Zc hn4];exact f4
end
end KS
namespace KS
open PySem L2
theorem ZzE (ns:List Str):cutV (ns.map V.str) (some 1) none=ns.tail.map V.str:=by
 unfold cutV
 have e1:HT.sIx (ns.map V.str).length 0 (some 1)=min 1 ns.length:=by
  show (if (1:Int) < 0 then ((1:Int) + ((ns.map V.str).length:Int)).toNat else min (1:Int).toNat (ns.map V.str).length)=_
  rw [if_neg (by decide),List.length_map]
  rfl
 have e2:HT.sIx (ns.map V.str).length (ns.map V.str).length none=ns.length:=by rw [List.length_map];rfl
 rw [e1,e2]
 cases ns with
 | nil=>rfl
 | cons n r=>
  rw [show min 1 (n::r).length=1 by rw [List.length_cons];omega,List.map_cons,List.drop_succ_cons,List.drop_zero,List.tail_cons,List.length_cons,Nat.add_sub_cancel,List.take_of_length_le (by rw [List.length_map];exact Nat.le_refl _)]
theorem ZDM (m:Str) (ms:List Str) (n:Int):ZxR (m::ms) n=match getA Zvb n with
  | none=>.str "NoDirectory"
  | some es=>match getA es m with
   | none=>.str "NoThing"
   | some i=>ZxR ms i:=rfl
def ZMl:Sp:=fun vs H Q _=>∃ p,vs=[.str p]∧p.length≤1000∧∀ H',Same H H'→Q (dueF p) H'
section
variable {P:Program} {w:World} {K:PySem.W.Frag} {mg:Str→Option Value} {base:Heap} {g:Gs}
theorem Zb2:Zq ["_law_path_here","_law_names","_law_number","_law_name","_law_entries"] ["_law_path_here"] (Zg Zb8):=⟨rfl,rfl,rfl,by decide +kernel,rfl,by decide +kernel,by decide +kernel⟩
theorem ZBy (T:Tx K mg g):FnOk P w K mg base (CXE P w) 2 g._law_due g._law_due_d ["_law_path_here"] ZMl:=by
 refine T.ZuW.okE Zb2 (fun vs H Q E h=>?_) (fun cdv A outer s H vs Q E hr h=>?_)
 ·obtain ⟨p,rfl,_⟩:=h
  rfl
 ·obtain ⟨p,rfl,hl,q⟩:=h
  have hu:=u1 hr.units
  refine ⟨_,(Ze (ZbK (ZY ZBu (pv 0) Zo (ZaN _)) (Zi (ZE Zn)) ZT)
   (Ze (ZI (i:=1) Zb2.nd rfl (Or.inl rfl) (Zrr PySem.F.plainAttrs_str PySem.F.slot_str_split PySem.F.type_str_split Zy1 (pv 0) (Za Zo Zf)))
   (Ze (ZbK (PW.pt (Zrg (ZY ZEm (ZC ZaR (by rfl) T.ZcH PySem.boot_len (Za (pv 0) Zf)) Zn (ZaN _)) (Zrg (ZY ZFX (ZC ZM (by rfl) T.ZcH PySem.boot_len (Za (pv 1) Zf)) Zn (ZaN _)) (Zrg (ZY ZJQ (ZjQ Zcf (pv 1) Zn (fun _ _=>rfl)) Zo (ZaN _)) (Zt7 (Zri (Zrh (ZC ZqM (by rfl) T.ZDz PyProof.Rows.Boot.«all» (Za (ZgH (own:=["_law_one"]) (fv:=[]) (ix:=[]) (Za1 (sc:=Zg Zb8) (N:=["_law_path_here","_law_names","_law_number","_law_name","_law_entries"]) rfl rfl (by decide +kernel)) rfl (Ze0 (ZdC Zq4 (pv 1) (ZeZ Zn) ZjP)) (fun _ _ _ _ _=>ZQ (i:=0) (show (["_law_one"]:List Str).Nodup from by decide +kernel) rfl (Or.inl rfl) (Or.inr rfl)) (fun _ _ _ _ _=>ZgE) (fun _ _ _ _ _=>(Zx (Zrw T) hr.dn rfl T.ZtI T.Zjt.kp T.ZtN .nil ZnQ (Za (pv 0) Zf)))) Zf))))))))) (Zi (ZE Zo)) ZT)
   (Ze (ZI (i:=2) Zb2.nd rfl (Or.inl rfl) Zn)
   (Ze (Zdc PassesOwn.leaving rfl (Ze0 (ZdC Zq4 (pv 1) (ZeZ Zn) ZjP)) (ZQ (i:=3) Zb2.nd rfl (Or.inl rfl)) (Ze (ZI (i:=4) Zb2.nd rfl (Or.inl rfl) (ZHN hu (ZC6 (ZyD T) hr.dn rfl T.ZBW T.ZsU.kp T.ZCm .nil Zh) (pv 2) ⟨rfl,rfl,rfl,rfl⟩))
   (Ze (ZbK (ZfT (ZFT (pv 4))) (Zi (ZE Zo)) ZT)
   (Ze (ZbK (ZfT (Zet hu (pv 3) (pv 4))) (Zi (ZE Zo)) ZT)
   (Zi (ZI (i:=2) Zb2.nd rfl (Or.inl rfl) (Zdd hu (pv 4) (pv 3) (fun _ _=>rfl))))))))
   (Zi (ZE (pv 2)))))))),?_⟩
  refine ⟨_,rfl,rfl,_,rfl,?_⟩
  unfold dueF at q
  by_cases h1:p="/"
  ·rw [decide_eq_true (show V.str p=V.str "/" by rw [h1])]
   refine iteT ?_
   rw [if_pos h1] at q
   exact q H (Same.refl _)
  ·rw [decide_eq_false (show ¬ V.str p=V.str "/" by intro z;injection z with z;exact h1 z)]
   refine iteF ?_
   rw [if_neg h1] at q
   have hsl:=ZqY p "/"
   have hsm:=Zx1 p "/"
   refine ⟨_,rfl,rfl,_,_,rfl,rfl,rfl,Zw hl (by decide),Zw (Nat.le_trans hsl (Nat.add_le_add_right hl 2)) (by decide),fun l hn=>?_⟩
   generalize ZaJ p "/"=ns at q hsl hsm ⊢
   have s1:=Zk (o:=.lst (ns.map V.str)) hn
   have f1:=Zb (H:=H) (a:=l) (o:=.lst (ns.map V.str))
   generalize upd H l (.lst (ns.map V.str))=H1 at s1 f1 ⊢
   refine ⟨_,rfl,_,rfl,Zw hl (by decide),_,_,rfl,rfl,_,rfl,?_⟩
   by_cases h2:60 < p.length
   ·rw [decide_eq_true (show (60:Int) < (p.length:Int) by omega)]
    refine iteT (iteT ?_)
    rw [if_pos (.inl h2)] at q
    exact q _ s1
   rw [decide_eq_false (show ¬ (60:Int) < (p.length:Int) by omega)]
   refine iteF ?_
   refine ⟨_,rfl,l,_,rfl,.inl (SqL.of f1),_,_,rfl,rfl,_,rfl,?_⟩
   by_cases h3:ns.length < 2
   ·rw [decide_eq_true (show (((ns.map V.str).length:Nat):Int) < 2 by rw [List.length_map];omega)]
    refine iteT (iteT ?_)
    rw [if_pos (.inr (.inl h3))] at q
    exact q _ s1
   rw [decide_eq_false (show ¬ (((ns.map V.str).length:Nat):Int) < 2 by rw [List.length_map];omega)]
   refine iteF ?_
   have hat:atI (ns.map V.str) 0=some (.str (ns.headD "")):=by
    refine Zz3 (by decide) ?_
    cases ns with
    | nil=>exact absurd (by decide) h3
    | cons n r=>rfl
   refine ⟨_,rfl,l,_,_,_,rfl,rfl,SqL.of f1,hat,rfl,_,rfl,?_⟩
   by_cases h4:ns.headD ""≠""
   ·rw [decide_eq_false (show ¬ V.str (ns.headD "")=V.str "" by intro z;injection z with z;exact h4 z)]
    refine iteT (iteT ?_)
    rw [if_pos (.inr (.inr (.inl h4)))] at q
    exact q _ s1
   rw [decide_eq_true (show V.str (ns.headD "")=V.str "" by rw [Decidable.not_not.mp h4])]
   refine iteF ?_
   refine ⟨_,rfl,_,rfl,l,_,rfl,SqL.of f1,fun m hm=>?_⟩
   rw [ZzE]
   have s2:=Zk (o:=.lst (ns.tail.map V.str)) hm
   have f2:=Zb (H:=H1) (a:=m) (o:=.lst (ns.tail.map V.str))
   generalize upd H1 m (.lst (ns.tail.map V.str))=H2 at s2 f2 ⊢
   refine ⟨m,rfl,⟨_,SqL.of f2⟩,fun D hD=>?_⟩
   have htl:ns.tail.length≤1002:=by rw [List.length_tail];omega
   have htm:∀ i,(ns.tail.getD i "").length≤1000:=fun i=>by
    rw [List.getD_eq_getElem?_getD]
    cases h:ns.tail[i]? with
    | none=>exact Nat.zero_le _
    | some n=>exact Nat.le_trans (hsm n (List.mem_of_mem_tail (List.mem_of_getElem? h))) hl
   have hats:∀ H',Same H2 H'→SqL K H' m (ns.tail.map V.str):=fun H' s'=>SqL.of (s' _ _ f2)
   refine Zfp (J:=Itl K m) ns.tail.length (fun i=>some (V.bl (ZZ (ns.tail.getD i "")))) (fun i x=>x=.str (ns.tail.getD i "")) hD (Zw htl (by decide)) (fun i H' hi s'=>⟨_,.str (ns.tail.getD i ""),hats H' s',?_⟩) (fun H' s'=>⟨_,hats H' s',by rw [List.length_map];exact Nat.le_refl _⟩) (fun i H' x H2 hi s' hy=>?_) (fun i x H' N hi hx s' k=>?_) fun H' s' hH=>?_
   ·rw [List.getElem?_map,List.getD_eq_getElem?_getD,List.getElem?_eq_getElem hi];rfl
   ·obtain ⟨e,hx⟩:=hy
    refine ⟨e,?_⟩
    have:=hx _ (hats H' s')
    rw [List.getElem?_map,List.getElem?_eq_getElem hi] at this
    rw [List.getD_eq_getElem?_getD,List.getElem?_eq_getElem hi]
    exact (Option.some.inj this).symm
   ·subst hx
    refine iteT (B:=N none H') ?_
    exact ⟨_,rfl,_,rfl,Zw (htm i) (by decide),fun H5 s5=>k _ s5⟩
   ·refine ⟨D,(List.range ns.tail.length).map fun i=>ZZ (ns.tail.getD i ""),rfl,SqL.of (by rw [hH,ZDx]),?_⟩
    rw [all_map,Zt6]
    have s3:=(s1.trans s2).trans s'
    refine ⟨_,rfl,?_⟩
    cases hal:ns.tail.all ZZ with
    | false=>
     refine iteT ?_
     rw [if_pos (.inr (.inr (.inr (by rw [hal];decide))))] at q
     exact q _ s3
    | true=>
     refine iteF ?_
     rw [if_neg (by intro y;rcases y with y | y | y | y;exact h2 y;exact h3 y;exact h4 y;exact y hal)] at q
     have f3:H' l=some (.lst (ns.map V.str)):=(s2.trans s') _ _ f1
     refine ⟨_,rfl,_,rfl,l,_,rfl,SqL.of f3,fun m2 hm2=>?_⟩
     rw [ZzE]
     have s4:=Zk (o:=.lst (ns.tail.map V.str)) hm2
     have f4:=Zb (H:=H') (a:=m2) (o:=.lst (ns.tail.map V.str))
     have s5:=s3.trans s4
     generalize upd H' m2 (.lst (ns.tail.map V.str))=H4 at s4 f4 s5 ⊢
     refine ⟨m2,rfl,⟨_,SqL.of f4⟩,?_⟩
     refine Zh5 (xs:=ns.tail.map V.str) (fun i σ H'=>∃ n o3 o4,σ=[some (.str p),some (.ref l),some (.int n),o3,o4]∧Same H4 H'∧ZxR ns.tail 0=ZxR (ns.tail.drop i) n) ⟨0,none,none,rfl,Same.refl _,rfl⟩ (fun i σ H' _ h=>?_) (fun i x σ H' hx h=>?_) (fun σ H' h=>?_)
     ·obtain ⟨_,_,_,_,sm,_⟩:=h
      exact SqL.of (sm _ _ f4)
     ·obtain ⟨n,o3,o4,rfl,sm,hw⟩:=h
      rw [List.getElem?_map] at hx
      cases hn:ns.tail[i]? with
      | none=>rw [hn] at hx;cases hx
      | some nm=>
       rw [hn] at hx
       cases hx
       have hi:i < ns.tail.length:=(List.getElem?_eq_some_iff.mp hn).1
       have hdr:ns.tail.drop i=nm::ns.tail.drop (i + 1):=by
        rw [List.drop_eq_getElem_cons hi]
        rw [(List.getElem?_eq_some_iff.mp hn).2]
       rw [hdr,ZDM] at hw
       refine ⟨rfl,fun v H5 s6 tr=>?_⟩
       obtain ⟨a,kvs,rfl,ha,hD⟩:=tr
       refine ⟨a,rfl,.inl ⟨_,.inl ha⟩,_,rfl,_,DGet.k ha (k:=.inl n),?_⟩
       cases hg:getA Zvb n with
       | none=>
        rw [hg] at hw
        rw [hD.no ZbS hg]
        refine ⟨_,rfl,_,rfl,iteT ?_⟩
        have:=q _ (s5.trans (sm.trans s6))
        rw [hw] at this
        exact this
       | some es=>
        rw [hg] at hw
        dsimp only at hw
        obtain ⟨ve,hv1,⟨ae,rfl,hae⟩⟩:=hD.yes ZbS hg
        rw [hv1]
        refine ⟨_,rfl,_,rfl,iteF ?_⟩
        refine ⟨_,rfl,_,rfl,ae,_,rfl,DGet.k hae (k:=.inr nm),_,rfl,?_⟩
        rw [Zia]
        cases hgn:getA es nm with
        | none=>
         rw [hgn] at hw
         refine iteT ?_
         have:=q _ (s5.trans (sm.trans s6))
         rw [hw] at this
         exact this
        | some j=>
         rw [hgn] at hw
         refine iteF ?_
         refine ⟨_,rfl,_,rfl,ae,.int j,rfl,(by have:=DGet.k hae (k:=.inr nm);rw [Zia,hgn] at this;exact this),?_⟩
         exact ⟨j,_,_,rfl,sm.trans s6,hw⟩
     ·obtain ⟨n,o3,o4,rfl,sm,hw⟩:=h
      rw [List.length_map,List.drop_length] at hw
      have:=q _ (s5.trans sm)
      rw [hw] at this
      exact ⟨_,rfl,this⟩
def ZKT (g:Gs):Sp:=fun vs H Q _=>∃ f dx sv k t i S p,vs=[.ref f,.str p]∧H f=some (.ins g.Files dx (ffl sv k t i))∧ZS g H S sv∧p.length≤1000∧∀ H',Same H H'→Q (ZKJ (ZB8 S p)) H'
theorem Zov:Zq ["_law_files","_law_path_here","_law_e"] ["_law_files","_law_path_here"] (Zg Zbh):=⟨rfl,rfl,rfl,by decide +kernel,rfl,by decide +kernel,by decide +kernel⟩
theorem ZyE (T:Tx K mg g):FnOk P w K mg base (CXE P w) 5 g._law_told g._law_told_d ["_law_files","_law_path_here"] (ZKT g):=by
 refine T.ZsV.okE Zov (fun vs H Q E h=>?_) (fun cdv A outer s H vs Q E hr h=>?_)
 ·obtain ⟨f,dx,sv,k,t,i,S,p,rfl,_⟩:=h
  rfl
 ·obtain ⟨f,dx,sv,k,t,i,S,p,rfl,hf,hS,hl,q⟩:=h
  refine ⟨_,(Zi (ZLd (X:=cxOf (CXE P w) P w K mg base ["_law_files","_law_path_here","_law_e"] "_law_told" (Zg Zbh) g._law_told cdv A outer s H E) (i:=2) rfl rfl rfl rfl T.ZoJ T.ZxX Zov.nd rfl rfl
   (fun pn E' E hE=>(Zi (ZE (ZbO (pv 0) T.Zak T.Zzv (ZvY T) hr.dn T.Zz2 .nil hE (Za (pv 1) Zf)))))
   (fun a=>(Zi (ZE (ZHO (ZyC T) (hr.dn.hot _) rfl T.ZBV T.ZsT.kp T.ZCl (Za (pv 2) Zf))))))),?_⟩
  refine ⟨_,rfl,f,dx,_,rfl,hf,Zsn _ _ _ _,_,rfl,f,dx,sv,k,t,i,S,p,rfl,hf,hS,hl,?_⟩
  cases hm:ZB8 S p with
  | ok n=>
   intro v H' s' e
   rw [show v=.int n from e]
   have:=q H' s'
   rw [hm] at this
   exact this
  | error r=>
   intro H1 s1
   refine ⟨g.xa r,rfl,T.sub r,fun a na=>?_⟩
   refine ⟨_,rfl,a,r,rfl,.inl Zb,fun H' sm=>?_⟩
   have:=q H' (s1.trans ((Zk na).trans sm))
   rw [hm] at this
   exact this
end
end KS
namespace KS
open PySem L2
theorem ZG7 {xs:List Str} {i:Int} {m:Nat} (h0:0≤i) (h1:i < (xs.length:Int)) (hm:∀ x∈xs,x.length≤m):∃ s:Str,s.length≤m∧atI (xs.map V.str) i=some (.str s):=by
 have hi:i.toNat < xs.length:=by omega
 refine ⟨xs[i.toNat],hm _ (List.getElem_mem hi),Zz3 h0 ?_⟩
 rw [List.getElem?_map,List.getElem?_eq_getElem hi]
 rfl
theorem ZCW:∀ (xs:List Str) (a:Nat),(∀ x∈xs,x.length=1)→xs.foldl (fun n x=>n + x.length + Str.length "") a=a + xs.length
 | [],a,_=>rfl
 | x::r,a,h=>by
  rw [List.foldl_cons,ZCW r _ fun y hy=>h y (List.mem_cons_of_mem _ hy),h x List.mem_cons_self,List.length_cons]
  show a + 1 + 0 + r.length=_
  omega
theorem ZHT {xs:List Str} (h:∀ x∈xs,x.length=1) (hl:xs.length≤9):Builtin.Str.tooLong (xs.toArray.foldl (fun n x=>n + x.length + Str.length "") 0)=false:=by
 have e:xs.toArray.foldl (fun n x=>n + x.length + Str.length "") 0=xs.length:=by
  rw [List.foldl_toArray,ZCW xs 0 h,Nat.zero_add]
 rw [e]
 unfold Builtin.Str.tooLong
 have:(9:Nat)≤sizeLine:=by decide
 rw [decide_eq_false_iff_not]
 omega
theorem Zsk {xs:List Str} (h:∀ x∈xs,x.length=1):(Builtin.Str.glued "" xs).length=xs.length:=by
 have e:∀ ys:List Str,(∀ x∈ys,x.length=1)→(ys.map (·.length)).sum=ys.length:=by
  intro ys
  induction ys with
  | nil=>intro _;rfl
  | cons y r ih=>intro h;rw [List.map_cons,List.sum_cons,ih fun x hx=>h x (List.mem_cons_of_mem _ hx),h y List.mem_cons_self,List.length_cons];omega
 rw [PySem.size_glued,e xs h]
 show xs.length + (xs.length - 1) * 0=_
 omega
theorem ZF3 {xs:List Str} (h:∀ x∈xs,x.length=1) (hl:xs.length≤9):(Builtin.Str.glued "" xs).length≤sizeLine:=by
 have:(9:Nat)≤sizeLine:=by decide
 rw [Zsk h]
 omega
theorem ZIc {xs:List Str} (h:∀ x∈xs,x.length=1):(ZLD "" xs).length≤xs.length:=by
 match xs,h with
 | [],h=>exact Nat.le_of_eq (Zsk h)
 | [x],h=>exact Nat.le_of_eq (h x List.mem_cons_self)
 | x::y::r,h=>exact Nat.le_of_eq (Zsk h)
def Zug:List Str:=[("a":Str),"b","...","file","A.-_9zZ0","x",".","..","","abcdefgh","abcdefghi","a b","~","$","aa"]
theorem ZBK:∀ x∈Zug,x.length≤9:=by decide +kernel
theorem ZF5:((Zug.length:Nat):Int)=15:=rfl
def ZJu:Sp:=fun vs H Q _=>∃ c m:Int,vs=[.int c,.int m]∧∀ (p:Str) H',Same H H'→p.length≤1000→Q (.str p) H'
section
variable {P:Program} {w:World} {K:PySem.W.Frag} {mg:Str→Option Value} {base:Heap} {g:Gs}
theorem Zbm:Zq ["_law_cell_here","_law_more","_law_names","_law_signs","_law_path_here","_law_k"] ["_law_cell_here","_law_more"] (Zg Zbi):=⟨rfl,rfl,rfl,by decide +kernel,rfl,by decide +kernel,by decide +kernel⟩
theorem ZyF (T:Tx K mg g):FnOk P w K mg base (CXE P w) 1 g._law_path g._law_path_d ["_law_cell_here","_law_more"] ZJu:=by
 refine T.ZsW.okE Zbm (fun vs H Q E h=>?_) (fun cdv A outer s H vs Q E hr h=>?_)
 ·obtain ⟨c,m,rfl,_⟩:=h
  rfl
 ·obtain ⟨c,m,rfl,q⟩:=h
  refine ⟨_,(Ze (ZI (i:=2) Zbm.nd rfl (Or.inl rfl) (ZcP (Za Zo (Za Zo (Za Zo (Za Zo (Za Zo (Za Zo (Za Zo (Za Zo (Za Zo (Za Zo (Za Zo (Za Zo (Za Zo (Za Zo (Za Zo Zf)))))))))))))))))
   (Ze (ZbK (ZY ZBu (ZD Zb0 (pv 1) Zn) Zn (ZaN _)) (Zi (ZE (ZjQ Zcf (ZcP (Za Zo (Za Zo (Za Zo (Za Zo (Za Zo (Za Zo (Za (ZD Zcc (ZD Zcc Zo (ZD Zue Zo Zn)) Zo) (Za (ZD Zcc (ZD Zcc Zo (ZD Zue Zo Zn)) Zo) Zf))))))))) (ZD Zb0 (ZD ZcI (pv 1) Zn) Zn) (fun _ _=>rfl)))) ZT)
   (Ze (ZbK (ZY ZBu (ZD Zb0 (pv 1) Zn) Zn (ZaN _)) (Ze (ZI (i:=3) Zbm.nd rfl (Or.inr rfl) Zo)
   (Zi (ZE (ZD Zcc Zo (Zrr PySem.F.plainAttrs_str PySem.F.slot_str_join PySem.F.type_str_join ZHW Zo (Za (ZgH (own:=["_law_k"]) (fv:=["_law_more","_law_signs"]) (ix:=[1,3]) (Za1 (sc:=Zg Zbi) (N:=["_law_cell_here","_law_more","_law_names","_law_signs","_law_path_here","_law_k"]) rfl rfl (by decide +kernel)) rfl (ZgF rfl T.Zgd (Za (ZD Zb0 (ZD ZcI (pv 1) Zn) Zn) Zf)) (fun _ _ _ _ _=>ZQ (i:=0) (show (["_law_k","_law_more","_law_signs"]:List Str).Nodup from by decide +kernel) rfl (Or.inl rfl) (Or.inr rfl)) (fun _ _ _ _ _=>ZgE) (fun _ _ _ _ _=>(ZjQ ZLF (pv 2) (ZD Zb0 (ZD ZcI (pv 1) (ZD ZgK (ZD ZiE (pv 0) Zn) Zn)) (ZC ZaR (by rfl) T.ZcH PySem.boot_len (Za (pv 2) Zf))) (fun _ _=>rfl)))) Zf)))))) ZT)
   (Ze (ZI (i:=4) Zbm.nd rfl (Or.inl rfl) Zo)
   (Ze (Zdc PassesOwn.leaving rfl (ZgF rfl T.Zgd (Za (ZD ZgK Zn (ZD Zb0 (ZD ZcI (pv 1) Zn) Zn)) Zf)) (ZQ (i:=5) Zbm.nd rfl (Or.inl rfl)) (Zi (ZI (i:=4) Zbm.nd rfl (Or.inl rfl) (ZD Zcc (ZD Zcc (pv 4) Zo) (ZjQ Zcf (pv 2) (ZD Zb0 (ZD ZcI (pv 1) (ZD ZiE Zn (ZD ZgK (ZD ZiE (pv 5) (pv 5)) Zn))) (ZjQ Zcf (ZcP (Za Zn (Za Zn (Za Zn Zf)))) (ZD Zb0 (ZD ZcI (pv 1) Zn) Zn) (fun _ _=>rfl))) (fun _ _=>rfl))))))
   (Zi (ZE (pv 4)))))))),?_⟩
  have hSZ:(100000:Nat)≤sizeLine:=by decide
  refine ⟨szl 15,fun l hl=>?_⟩
  have f1:(upd H l (.lst (Zug.map V.str))) l=some (.lst (Zug.map V.str)):=Zb
  refine ⟨_,rfl,_,_,rfl,rfl,(by show (0:Int) < 6;decide),rfl,_,rfl,ite2 (fun _=>?_) (fun _=>?_)⟩
  ·-- one of eight
   refine ⟨_,_,rfl,rfl,by decide,by decide,(by show 0 < Str.length "a/";decide +kernel),(by show Str.length "a/"≤1000;decide +kernel),fun r7 h7=>?_⟩
   rw [show Str.length "a/" * (29:Int).toNat=58 by decide +kernel] at h7
   have e7:(("/":Str)++r7).length=59:=by rw [Z5,h7];decide +kernel
   refine ⟨_,_,rfl,rfl,(by rw [h7,show Str.length "/"=1 by decide +kernel];omega),_,_,rfl,rfl,(by rw [e7,show Str.length "a"=1 by decide +kernel];omega),?_⟩
   refine ⟨_,_,rfl,rfl,by decide,by decide,(by show 0 < Str.length "a/";decide +kernel),(by show Str.length "a/"≤1000;decide +kernel),fun r8 h8=>?_⟩
   rw [show Str.length "a/" * (30:Int).toNat=60 by decide +kernel] at h8
   have e8:(("/":Str)++r8).length=61:=by rw [Z5,h8];decide +kernel
   refine ⟨_,_,rfl,rfl,(by rw [h8,show Str.length "/"=1 by decide +kernel];omega),_,_,rfl,rfl,(by rw [e8,show Str.length "a"=1 by decide +kernel];omega),?_⟩
   refine ⟨szl 8,fun l2 hl2=>?_⟩
   have i0:0≤m / 6 % 8:=Int.emod_nonneg _ (by decide)
   have i1:m / 6 % 8 < 8:=Int.emod_lt_of_pos _ (by decide)
   obtain ⟨t,ht,hat⟩:=ZG7 (xs:=[("/":Str),"","a","//","/a/","a/b",("/"++r7)++"a",("/"++r8)++"a"]) (i:=m / 6 % 8) (m:=1000) i0 i1 (by
    refine List.forall_mem_cons.mpr ⟨by decide +kernel,List.forall_mem_cons.mpr ⟨by decide +kernel,List.forall_mem_cons.mpr ⟨by decide +kernel,List.forall_mem_cons.mpr ⟨by decide +kernel,List.forall_mem_cons.mpr ⟨by decide +kernel,List.forall_mem_cons.mpr ⟨by decide +kernel,List.forall_mem_cons.mpr ⟨?_,List.forall_mem_cons.mpr ⟨?_,fun _ h=>nomatch h⟩⟩⟩⟩⟩⟩⟩⟩
    ·rw [Z5,e7,show Str.length "a"=1 by decide +kernel];omega
    ·rw [Z5,e8,show Str.length "a"=1 by decide +kernel];omega)
   refine ⟨_,rfl,_,_,rfl,rfl,⟨by decide,by decide⟩,_,_,rfl,rfl,(by show (0:Int) < 8;decide),l2,_,_,_,rfl,rfl,SqL.of Zb,hat,?_⟩
   exact q t _ ((Zk hl).trans (Zk hl2)) ht
  ·refine ⟨_,rfl,_,_,rfl,rfl,(by show (0:Int) < 6;decide),rfl,_,rfl,ite2 (fun _=>?_) (fun _=>?_)⟩
   ·-- Ztb
    refine ⟨rfl,_,rfl,_,_,rfl,rfl,⟨by decide,by decide⟩,_,_,rfl,rfl,(by show (0:Int) < 5;decide),?_⟩
    have i0:0≤m / 6 % 5:=Int.emod_nonneg _ (by decide)
    have i1:m / 6 % 5 < 5:=Int.emod_lt_of_pos _ (by decide)
    refine ⟨_,rfl,by omega,by omega,fun D hD=>?_⟩
    refine ZuF _ (n:=(m / 6 % 5).toNat) (lo:=0) (fun i ys H'=>∃ xs:List Str,ys=xs.map V.str∧xs.length=i∧(∀ x∈xs,x.length=1)∧H' D=some (.lst ys)∧Same H H') ⟨[],rfl,rfl,(fun _ h=>nomatch h),Zb,(Zk hl).trans (Zk hD)⟩ (by omega) (fun i ys H' h=>?_) (fun i ys H' N hi h kk=>?_) (fun ys H' h=>?_)
    ·obtain ⟨xs,rfl,e,_,h4,_⟩:=h
     exact ⟨h4,by rw [List.length_map];omega⟩
    ·obtain ⟨xs,rfl,e,h3,h4,h5⟩:=h
     refine ⟨_,rfl,_,rfl,_,rfl,_,_,rfl,rfl,.inr ⟨by decide,by decide⟩,_,_,rfl,rfl,_,_,rfl,rfl,⟨by omega,by omega⟩,_,rfl,_,rfl,(by decide +kernel),_,_,rfl,rfl,(by show (0:Int) < ((Str.length " !&()*+,-./0129:;<=>?@AZ[]^_az{|}~":Nat):Int);decide +kernel),?_⟩
     have hls:(((" !&()*+,-./0129:;<=>?@AZ[]^_az{|}~":Str).length:Nat):Int)=34:=by decide +kernel
     generalize hdd:m / ((0 + (i:Int)) * 37 + 6)=dd
     have hc:∃ c,atI (Str.cps " !&()*+,-./0129:;<=>?@AZ[]^_az{|}~").toList (dd % (((" !&()*+,-./0129:;<=>?@AZ[]^_az{|}~":Str).length:Nat):Int))=some c:=by
      rw [hls]
      have d0:0≤dd % 34:=Int.emod_nonneg _ (by decide)
      have d1:dd % 34 < 34:=Int.emod_lt_of_pos _ (by decide)
      generalize dd % 34=z at d0 d1
      refine ⟨(Str.cps " !&()*+,-./0129:;<=>?@AZ[]^_az{|}~").toList.getD z.toNat 0,Zz3 d0 ?_⟩
      have hl:(Str.cps " !&()*+,-./0129:;<=>?@AZ[]^_az{|}~").toList.length=34:=by decide +kernel
      rw [List.getD_eq_getElem?_getD,List.getElem?_eq_getElem (by omega)]
      rfl
     obtain ⟨c,hc⟩:=hc
     refine ⟨_,_,c,rfl,rfl,(by decide +kernel),hc,?_⟩
     refine kk _ _ h4 ⟨xs++[⟨#[c]⟩],by rw [List.map_append];rfl,by rw [List.length_append,e];rfl,fun x hx=>?_,Zb,fun b o eb=>?_⟩
     ·rcases List.mem_append.mp hx with h | h
      ·exact h3 x h
      ·rw [List.mem_singleton.mp h];rfl
     ·have hDH:H D=none:=by
       cases e:H D with
       | none=>rfl
       | some o=>rw [Zk hl _ _ e] at hD;cases hD
      have:b≠D:=fun z=>by rw [z,hDH] at eb;cases eb
      rw [Zc this]
      exact h5 _ _ eb
    ·obtain ⟨xs,rfl,e,h3,h4,h5⟩:=h
     refine ⟨_,D,xs,rfl,rfl,SqL.of h4,ZHT h3 (by omega),ZF3 h3 (by omega),?_⟩
     have hj:=ZIc h3
     refine ⟨_,_,rfl,rfl,(by rw [show Str.length "/"=1 by decide +kernel];omega),?_⟩
     exact q _ _ h5 (by rw [Z5,show Str.length "/"=1 by decide +kernel];omega)
   ·-- names
    have i0:0≤m / 6 % 4:=Int.emod_nonneg _ (by decide)
    have i1:m / 6 % 4 < 4:=Int.emod_lt_of_pos _ (by decide)
    refine ⟨_,rfl,_,_,rfl,rfl,⟨by decide,by decide⟩,_,_,rfl,rfl,(by show (0:Int) < 4;decide),_,_,rfl,rfl,?_⟩
    refine ⟨1 + m / 6 % 4,rfl,by omega,by omega,?_⟩
    refine Zsl (n:=(1 + m / 6 % 4).toNat) (fun i σ H'=>∃ t o3 o5,σ=[some (.int c),some (.int m),some (.ref l),o3,some (.str t),o5]∧(H' l=some (.lst (Zug.map V.str))∧Same H H')∧t.length≤20 * i) ⟨"",_,_,rfl,⟨f1,Zk hl⟩,(by decide +kernel)⟩ (fun i σ H' hi h=>?_) (fun σ H' h=>?_)
    ·obtain ⟨t,o3,o5,rfl,⟨hl1,sm⟩,htl⟩:=h
     have ht1:(t++("/":Str)).length=t.length + 1:=by rw [Z5,show Str.length "/"=1 by decide +kernel]
     have hi3:(i:Int) < 4:=by omega
     have hkk:(0 + (i:Int)) * (0 + (i:Int))≤9∧0≤(0 + (i:Int)) * (0 + (i:Int)):=by
      have:i=0∨i=1∨i=2∨i=3:=by omega
      rcases this with rfl | rfl | rfl | rfl <;> decide
     generalize hk2:(0 + (i:Int)) * (0 + (i:Int))=k2 at hkk
     refine ⟨_,rfl,_,_,rfl,rfl,(by rw [show Str.length "/"=1 by decide +kernel];omega),_,rfl,_,rfl,_,rfl,_,rfl,_,_,rfl,rfl,.inr ⟨by omega,by omega⟩,_,_,rfl,rfl,_,_,rfl,rfl,.inl ⟨by decide,by decide⟩,_,_,rfl,rfl,?_,?_⟩
     ·rw [hk2];exact ⟨by omega,by omega⟩
     refine ⟨szl 3,fun l3 hl3=>?_⟩
     have d0:0≤m / 31 % 3:=Int.emod_nonneg _ (by decide)
     have d1:m / 31 % 3 < 3:=Int.emod_lt_of_pos _ (by decide)
     have hd:∃ d:Int,0 < d∧d≤15∧atI [V.int 3,V.int 5,V.int 15] (m / 31 % 3)=some (.int d):=by
      generalize m / 31 % 3=z at d0 d1
      have:z=0∨z=1∨z=2:=by omega
      rcases this with rfl | rfl | rfl
      ·exact ⟨3,by decide,by decide,rfl⟩
      ·exact ⟨5,by decide,by decide,rfl⟩
      ·exact ⟨15,by decide,by decide,rfl⟩
     obtain ⟨d,hd0,hd1,had⟩:=hd
     refine ⟨_,rfl,_,_,rfl,rfl,⟨by decide,by decide⟩,_,_,rfl,rfl,(by show (0:Int) < 3;decide),l3,_,_,_,rfl,rfl,SqL.of Zb,had,_,_,rfl,rfl,hd0,?_⟩
     have s3:=Zk (o:=.lst [V.int 3,V.int 5,V.int 15]) hl3
     rw [hk2]
     generalize m / (97 * (k2 + 1))=dd
     obtain ⟨nm,hnm,han⟩:=ZG7 (xs:=Zug) (i:=dd % d) (m:=9) (Int.emod_nonneg _ (by omega)) (by have:=Int.emod_lt_of_pos dd hd0;rw [ZF5];omega) ZBK
     refine ⟨l,_,_,_,rfl,rfl,SqL.of (s3 _ _ hl1),han,_,_,rfl,rfl,(by rw [ht1];omega),?_⟩
     exact ⟨_,_,_,rfl,⟨s3 _ _ hl1,sm.trans s3⟩,by rw [Z5,ht1];omega⟩
    ·obtain ⟨t,o3,o5,rfl,⟨hl1,sm⟩,htl⟩:=h
     exact ⟨_,rfl,q _ _ sm (by omega)⟩
end
end KS
namespace KS
open PySem L2
def okB {ε α:Type}:Except ε α→Bool
 | .ok _=>true
 | .error _=>false
theorem ZBz {ε α:Type} {m:Except ε α} (h:okB m=true):∃ x,m=.ok x:=by
 cases m with
 | ok x=>exact ⟨x,rfl⟩
 | error _=>cases h
def ZFj (S:Sta):Bool:=decide (S.dat.length + S.ent.length < 64) && S.dat.all (fun p=>decide (p.2.length≤1000)) && S.ent.all (fun p=>decide (p.2.length < 64) && p.2.all fun q=>ZZ q.1)
theorem Zx0 {S:Sta} (h:ZFj S=true):Zoi S:=by
 unfold ZFj at h
 rw [Bool.and_eq_true,Bool.and_eq_true,decide_eq_true_iff] at h
 refine ⟨h.1.1,fun n r e=>?_,fun n es e=>?_⟩
 ·exact of_decide_eq_true (List.all_eq_true.mp h.1.2 (n,r) (Zh3 e))
 ·have:=List.all_eq_true.mp h.2 (n,es) (Zh3 e)
  rw [Bool.and_eq_true,decide_eq_true_iff] at this
  exact ⟨this.1,fun q hq=>List.all_eq_true.mp this.2 q hq⟩
theorem Zoi.small {S:Sta} (h:Zoi S):ZsO S:=⟨by have:=h.n;omega,by have:=h.n;omega,fun n es e=>by have:=(h.ent n es e).1;omega⟩
def Ztj:Nat→Str
 | 0=>"/a" | 1=>"/b" | 2=>"/..." | 3=>"/a/a" | 4=>"/a/file" | 5=>"/a/A.-_9zZ0" | _=>"/a/a/a"
def ZwN:Nat→Str
 | 0=>"dir" | 1=>"file" | 2=>"file" | 3=>"dir" | 4=>"file" | 5=>"file" | _=>"dir"
def staN:Nat→Sta
 | 0=>Zau
 | i + 1=>match ZtF (staN i) (Ztj i) (ZwN i) with
  | .ok S=>S
  | .error _=>staN i
def img0:Img:=match Zfa Zau [] (ZbU 200 []) [] with
 | .ok I=>I
 | .error _=>⟨[],[]⟩
theorem ZLr:∀ i:Fin 7,okB (ZtF (staN i) (Ztj i) (ZwN i))=true:=by decide +kernel
theorem ZKP:∀ i:Fin 8,ZFj (staN i)=true:=by decide +kernel
theorem ZMv:∀ i:Fin 8,okB (Zfa (staN i) [] (ZbU 200 img0.places) img0.places)=true:=by decide +kernel
theorem ZMw:okB (Zfa Zau [] (ZbU 200 []) [])=true:=by decide +kernel
theorem ZME:(staN 7).ent=Zvb:=by decide +kernel
theorem ZF9 {i:Nat} (hi:i < 7):ZtF (staN i) (Ztj i) (ZwN i)=.ok (staN (i + 1)):=by
 obtain ⟨S,h⟩:=ZBz (ZLr ⟨i,hi⟩)
 have h':ZtF (staN i) (Ztj i) (ZwN i)=.ok S:=h
 have:staN (i + 1)=S:=by
  show (match ZtF (staN i) (Ztj i) (ZwN i) with | .ok S=>S | .error _=>staN i)=S
  rw [h']
 rw [this,h']
def ZIN (pl:Zbd):Bool:=decide (pl.length≤100) && pl.all (fun p=>decide (p.2≠[]) && decide (p.2.length≤100) && p.2.all fun n=>decide (0≤n) && decide (n < 200)) && decide ((pl.map (·.2)).flatten.length≤1000)
theorem ZMs:ZIN img0.places=true:=by decide +kernel
theorem ZMB:decide (img0.heads.length≤1000)=true:=by decide +kernel
theorem plc0:img0.places.length≤1000∧(∀ p∈img0.places,p.2≠[]∧p.2.length≤1000∧∀ n∈p.2,0≤n∧n < (200:Int))∧(img0.places.map (·.2)).flatten.length≤1000:=by
 have h:=ZMs
 unfold ZIN at h
 rw [Bool.and_eq_true,Bool.and_eq_true,decide_eq_true_iff,decide_eq_true_iff] at h
 refine ⟨by omega,fun p hp=>?_,h.2⟩
 have:=List.all_eq_true.mp h.1.2 p hp
 rw [Bool.and_eq_true,Bool.and_eq_true,decide_eq_true_iff,decide_eq_true_iff] at this
 refine ⟨this.1.1,by omega,fun n hn=>?_⟩
 have:=List.all_eq_true.mp this.2 n hn
 rw [Bool.and_eq_true,decide_eq_true_iff,decide_eq_true_iff] at this
 exact this
structure At (i:Nat) (F:Fil):Prop where
 s:F.S=staN i
 k:F.k=[]
 t:F.T.synced=img0.places
 d:F.D.blocks.length=200
theorem ZI5 {D:Dsk} (h:D.blocks.length=200):Zc3 D=200:=by unfold Zc3;rw [h];rfl
theorem ZF7 {i:Nat} (hi:i < 7) {F:Fil} (h:At i F):∃ F',ZH2 F (Ztj i) (ZwN i)=.ok F'∧At (i + 1) F':=by
 obtain ⟨I,hI⟩:=ZBz (ZMv ⟨i + 1,by omega⟩)
 refine ⟨⟨staN (i + 1),[],F.T,F.D,I⟩,?_,rfl,rfl,h.t,h.d⟩
 unfold ZH2
 rw [h.s,ZF9 hi]
 dsimp only
 unfold ZFa Zcn
 rw [ZI5 h.d,h.t,h.k]
 rw [show Zfa (staN (i + 1)) [] (ZbU 200 img0.places) img0.places=.ok I from hI]
def dsk0:Dsk:=⟨List.replicate 200 (some Zeq),[]⟩
theorem ZH5 (D:Dsk) (n:Int) (b:Option Row):(D.write n b).blocks.length=D.blocks.length:=List.length_set ..
theorem ZKc:Zfa Zau [] (ZbU 200 []) []=.ok img0:=by
 obtain ⟨I,hI⟩:=ZBz ZMw
 have:img0=I:=by unfold img0;rw [hI]
 rw [this,hI]
theorem ZGq:Zcn ZdF (dsk0.write 1 (some Zeq)) Zau []=.ok img0:=by
 unfold Zcn
 rw [ZI5 (by rw [ZH5];exact List.length_replicate ..)]
 exact ZKc
theorem ZB6:∃ F,ZwW dsk0=.ok F∧At 0 F:=by
 refine ⟨⟨Zau,[],(ZvK ZdF (dsk0.write 1 (some Zeq)) img0).1,(ZvK ZdF (dsk0.write 1 (some Zeq)) img0).2,img0⟩,?_,rfl,rfl,rfl,?_⟩
 ·unfold ZwW
  rw [ZGq]
 ·show (ZvK ZdF (dsk0.write 1 (some Zeq)) img0).2.blocks.length=200
  have e:=(ZC4 ZdF.synced img0.places (dsk0.write 1 (some Zeq)) fun p hp=>(plc0.2.1 p hp).1).1
  unfold ZvK
  show ((Dsk.write _ _ _).blocks).length=200
  rw [ZH5]
  show ((img0.places.foldl (ZdB ZdF.synced) (dsk0.write 1 (some Zeq))).blocks).length=200
  rw [e,ZH5]
  exact List.length_replicate ..
theorem ZLH:ZKA (dsk0.write 1 (some Zeq)) img0:=by
 refine ⟨plc0.1,of_decide_eq_true ZMB,fun p hp=>?_,by have:=plc0.2.2;omega⟩
 rw [ZH5,show dsk0.blocks.length=200 from List.length_replicate ..]
 exact plc0.2.1 p hp
section
variable {P:Program} {w:World} {K:PySem.W.Frag} {mg:Str→Option Value} {base:Heap} {g:Gs}
theorem ZBR {H:Hp} {f q p b l:Addr} {F:Fil} {i:Nat} (hi:i < 7) (hF:ZqE g H f q p b l F) (h:At i F) {Q:VK} {E:XK} (k:∀ F' H' v,At (i + 1) F'→But1 f H H'→ZqE g H' f q p b l F'→Q v H') :
  ZIL g [.ref f,.str (Ztj i),.str (ZwN i)] H Q E:=by
 have so:=Zx0 (ZKP ⟨i,by omega⟩)
 have so':Zoi (staN i):=so
 have so1:Zoi (staN (i + 1)):=Zx0 (ZKP ⟨i + 1,by omega⟩)
 obtain ⟨F',e,h'⟩:=ZF7 hi h
 refine ⟨f,q,p,b,l,F,Ztj i,ZwN i,rfl,hF,by rw [h.s];exact so'.small,by rw [h.s];have:=so'.n;omega,by rw [h.s];have:=so'.n;omega,?_,fun S hS=>?_,by rw [h.k];exact ZDd,?_,?_⟩
 ·have:∀ j:Fin 7,(Ztj j).length≤1000:=by decide +kernel
  exact this ⟨i,hi⟩
 ·rw [h.s,ZF9 hi] at hS
  cases hS
  exact so1
 ·rw [h.t]
  exact ⟨plc0.1,fun p hp=>(plc0.2.1 p hp).1,by have:=plc0.2.2;omega⟩
 ·rw [e]
  exact fun H' b1 hF'=>k F' H' _ h' b1 hF'
theorem Zsg {H:Hp}:∀ {n:Nat} {vs:List V},Ims H vs (List.replicate n (.int 0))→vs=List.replicate n (.int 0)
 | 0,_,h=>by cases h;rfl
 | n + 1,_,h=>by
  rw [List.replicate_succ] at h
  cases h with
  | cons a r=>
   cases a
   rw [Zsg r,List.replicate_succ]
theorem ZIy {H:Hp} {p b l:Addr} {vb:List V} {n:Nat} (h:ZJd g.Disk H p b l vb [] (List.replicate n ZEZ) []):Zcj g H p b l ⟨List.replicate n (some Zeq),[]⟩:=by
 obtain ⟨⟨dx,ob⟩,hb,hl,ib,_,ne⟩:=h
 refine ⟨dx,vb,[],ob,hb,hl,?_,.nil,ne⟩
 clear hb
 induction n generalizing vb with
 | zero=>cases ib;exact .nil
 | succ n ih=>
  rw [List.replicate_succ] at ib ⊢
  cases ib with
  | cons a r=>
   refine .cons ?_ (ih r)
   unfold ZEZ at a
   cases a with
   | tup e r2=>exact ⟨_,rfl,by rw [e,Zsg r2];unfold Zeq;rw [List.map_replicate]⟩
theorem _root_.L2.SqL.keep {H H':Hp} {a:Addr} {xs:List V} (h:SqL K H a xs) (k:∀ o,H a=some o→H' a=some o):SqL K H' a xs:=by
 rcases h with (h | ⟨o,h⟩) | h
 ·exact .inl (.inl (k _ h))
 ·exact .inl (.inr ⟨o,k _ h⟩)
 ·exact .inr h
theorem _root_.L2.SqL.but1 {H H':Hp} {a f:Addr} {xs:List V} (h:SqL K H a xs) (hf:∃ dx s k t i,H f=some (.ins g.Files dx (ffl s k t i))) (k:But1 f H H'):SqL K H' a xs:=by
 obtain ⟨dx,s,k0,t,i,hf⟩:=hf
 rcases h with (h | ⟨o,h⟩) | h
 ·exact .inl (.inl (k _ _ h (ZP h hf (by intro z;cases z))))
 ·exact .inl (.inr ⟨o,k _ _ h (ZP h hf (by intro z;cases z))⟩)
 ·exact .inr h
theorem ZLY {a b:V} {σ:St} {H:Hp} {k:List V→Hp→Prop} (h:k [a,b] H):Zib (tC a) (Zib (tC b) tNil) σ H k:=h
def ZHp (K:PySem.W.Frag):Sp:=fun vs H Q _=>∃ (a:Addr) (ns:List Int),vs=[.ref a]∧SqL K H a (ns.map V.int)∧ns.length≤63∧∀ H',Q (.bl true) H'
theorem Zrb:Zq ["_law_script","_law_files","_law_path_here","_law_kind","_law_k","_law_cell_here"] ["_law_script"] (Zg ZD9):=⟨rfl,rfl,rfl,by decide +kernel,rfl,by decide +kernel,by decide +kernel⟩
theorem ZLo (T:Tx K mg g):FnOk P w K mg base CX0 10 g.law g.ZH6 ["_law_script"] (ZHp K):=by
 refine T.ZML.ok Zrb (fun vs H Q E h=>?_) (fun cdv A outer s H vs Q E hr h=>?_)
 ·obtain ⟨a,ns,rfl,_⟩:=h
  rfl
 ·obtain ⟨a,ns,rfl,hS,hlen,q⟩:=h
  have hu64:=hr.units
  refine ⟨_,(Ze (ZI (i:=1) Zrb.nd rfl (Or.inl rfl) (Zx (ZyB T) hr.dn rfl T.ZBU T.ZsS.kp T.ZCk .nil ZnQ (Za (ZgG T.ZBM (ZyH T) hr.dn rfl T.ZLt T.ZCq .nil ZnQ (Za Zn Zf)) Zf)))
   (Ze (ZbK (Zri (Zrh (ZLk (pv 1) (ZF (v:=.ref g.Files) rfl T.ZGd rfl) rfl T.ZL))) (Zi (ZE ZvM)) ZT)
   (Ze (Zdc PassesOwn.never rfl (Ze0 (ZcP (Za (ZaM (Za Zo (Za Zo Zf))) (Za (ZaM (Za Zo (Za Zo Zf))) (Za (ZaM (Za Zo (Za Zo Zf))) (Za (ZaM (Za Zo (Za Zo Zf))) (Za (ZaM (Za Zo (Za Zo Zf))) Zf))))))) (Zys rfl (Zcm (ZQ (i:=2) Zrb.nd rfl (Or.inl rfl)) (Zcm (ZQ (i:=3) Zrb.nd rfl (Or.inl rfl)) Zrp))) (Zi (Zah (ZbO (pv 1) T.Zak T.Zg2 (Ze5 T) hr.dn T.Zhy .nil ZnQ (Za (pv 2) (Za (pv 3) Zf))))))
   (Ze (Zah (ZbO (pv 1) T.Zak T.Zg2 (Ze5 T) hr.dn T.Zhy .nil ZnQ (Za Zo (Za Zo Zf))))
   (Ze (Zah (ZbO (pv 1) T.Zak T.Zg2 (Ze5 T) hr.dn T.Zhy .nil ZnQ (Za Zo (Za Zo Zf))))
   (Ze (Zdc PassesOwn.never rfl (ZgF rfl T.Zgd (Za (ZC (ZG3 rfl) (by rfl) T.ZJi PyProof.Rows.Boot.«max» (Za Zn (Za (ZC (ZzM rfl) (by rfl) T.ZHf PyProof.Rows.Boot.«min» (Za Zn (Za (ZC ZM (by rfl) T.ZcH PySem.boot_len (Za (pv 0) Zf)) Zf))) Zf))) Zf)) (ZQ (i:=4) Zrb.nd rfl (Or.inl rfl)) (Ze (ZI (i:=5) Zrb.nd rfl (Or.inl rfl) (Zx (ZyG T) hr.dn rfl T.ZBZ T.ZsX.kp T.ZCp .nil ZnQ (Za (pv 0) (Za (pv 4) Zf))))
   (Ze (ZI (i:=2) Zrb.nd rfl (Or.inl rfl) (Zx (ZyF T) hr.dn rfl T.ZBY T.ZsW.kp T.ZCo .nil ZnQ (Za (pv 5) (Za (Zx (ZvT T) hr.dn rfl T.Zy7 T.Zql.kp T.ZzX .nil ZnQ (Za (pv 5) (Za (pv 4) Zf))) Zf))))
   (Zi (ZbK (ZY ZJQ (Zx (ZyE T) hr.dn rfl T.ZBX T.ZsV.kp T.ZCn .nil ZnQ (Za (pv 1) (Za (pv 2) Zf))) (Zx (ZBy T) hr.dn rfl T.ZEB T.ZuW.kp T.ZEQ .nil ZnQ (Za (pv 2) Zf)) (ZaN _)) (Zi (ZE ZvM)) ZT)))))
   (Zi (ZE ZvM)))))))),?_⟩
  intro x dx nx ndx nex
  refine ⟨x,dx,200,rfl,Zb,fun z=>by omega,fun _ _ b l vb H3 fb fl D3 kp=>⟨rfl,?_⟩⟩
  have s0:Same H (upd (upd H dx (.own x)) x (.ins g.Disk dx [])):=fun b o e=>by
   rw [Zc (Zd e nx),Zc (Zd e ndx)]
   exact e
  have s3:Same H H3:=fun c o e=>kp c o (s0 c o e) (Zd e nx)
  obtain ⟨F0,hf0,at0⟩:=ZB6
  refine ⟨x,b,l,dsk0,rfl,ZIy D3,by decide,by decide,fun I hI=>?_,?_⟩
  ·rw [ZGq] at hI
   cases hI
   exact ZLH
  rw [hf0]
  intro f q0 H4 b4 hF4
  have hS4:SqL K H4 a (ns.map V.int):=hS.keep fun o e=>b4 _ _ (s3 _ _ e) (Zd (s0 _ _ e) fb) (Zd (s0 _ _ e) fl)
  obtain ⟨dxf,sv0,kv0,iv0,hFF⟩:=id hF4
  refine ⟨_,rfl,f,g.Files,dxf,_,rfl,hFF.ob,T.Zak,T.ZJZ,_,rfl,iteF ?_⟩
  clear hFF
  refine ⟨szl 2,fun t1 h1=>?_⟩
  have v1:=Zk (o:=.tup [.str "/a",.str "dir"]) h1
  have w1:=Zb (H:=H4) (a:=t1) (o:=.tup [.str "/a",.str "dir"])
  generalize upd H4 t1 (.tup [.str "/a",.str "dir"])=A1 at v1 w1 ⊢
  refine ⟨szl 2,fun t2 h2=>?_⟩
  have v2:=Zk (o:=.tup [.str "/b",.str "file"]) h2
  have w2:=Zb (H:=A1) (a:=t2) (o:=.tup [.str "/b",.str "file"])
  generalize upd A1 t2 (.tup [.str "/b",.str "file"])=A2 at v2 w2 ⊢
  refine ⟨szl 2,fun t3 h3=>?_⟩
  have v3:=Zk (o:=.tup [.str "/...",.str "file"]) h3
  have w3:=Zb (H:=A2) (a:=t3) (o:=.tup [.str "/...",.str "file"])
  generalize upd A2 t3 (.tup [.str "/...",.str "file"])=A3 at v3 w3 ⊢
  refine ⟨szl 2,fun t4 h4=>?_⟩
  have v4:=Zk (o:=.tup [.str "/a/a",.str "dir"]) h4
  have w4:=Zb (H:=A3) (a:=t4) (o:=.tup [.str "/a/a",.str "dir"])
  generalize upd A3 t4 (.tup [.str "/a/a",.str "dir"])=A4 at v4 w4 ⊢
  refine ⟨szl 2,fun t5 h5=>?_⟩
  have v5:=Zk (o:=.tup [.str "/a/file",.str "file"]) h5
  have w5:=Zb (H:=A4) (a:=t5) (o:=.tup [.str "/a/file",.str "file"])
  generalize upd A4 t5 (.tup [.str "/a/file",.str "file"])=A5 at v5 w5 ⊢
  refine ⟨szl 5,fun L hL=>?_⟩
  have v6:=Zk (o:=.lst [.ref t1,.ref t2,.ref t3,.ref t4,.ref t5]) hL
  have w6:=Zb (H:=A5) (a:=L) (o:=.lst [.ref t1,.ref t2,.ref t3,.ref t4,.ref t5])
  generalize upd A5 L (.lst [.ref t1,.ref t2,.ref t3,.ref t4,.ref t5])=B at v6 w6 ⊢
  have z5:=v5.trans v6
  have z4:=v4.trans z5
  have z3:=v3.trans z4
  have z2:=v2.trans z3
  have sB:=v1.trans z2
  have hB:∀ i t,([.ref t1,.ref t2,.ref t3,.ref t4,.ref t5]:List V)[i]?=some t→i < 5∧∃ u,t=.ref u∧B u=some (.tup [.str (Ztj i),.str (ZwN i)]):=fun i t h=>by
   match i,h with
   | 0,h=>cases h;exact ⟨by decide,t1,rfl,z2 _ _ w1⟩
   | 1,h=>cases h;exact ⟨by decide,t2,rfl,z3 _ _ w2⟩
   | 2,h=>cases h;exact ⟨by decide,t3,rfl,z4 _ _ w3⟩
   | 3,h=>cases h;exact ⟨by decide,t4,rfl,z5 _ _ w4⟩
   | 4,h=>cases h;exact ⟨by decide,t5,rfl,v6 _ _ w5⟩
  have hSB:=sB.seq hS4
  have hFB:=hF4.same sB
  clear w1 w2 w3 w4 w5 v1 v2 v3 v4 v5 v6 z2 z3 z4 z5
  have fOb:∀ {H':Hp} {F:Fil},ZqE g H' f q0 x b l F→∃ dx s k t i,H' f=some (.ins g.Files dx (ffl s k t i)):=fun h=>let ⟨dx,sv,kv,iv,h⟩:=h;⟨dx,sv,kv,_,iv,h.ob⟩
  have nf:∀ {o:HO} {d:Addr},B d=some o→(∀ C dx fs,o≠.ins C dx fs)→d≠f:=fun e n z=>by
   subst z
   obtain ⟨dx,s,k,t,i,ho⟩:=fOb hFB
   rw [ho] at e
   cases e
   exact n _ _ _ rfl
  refine ⟨L,rfl,⟨_,SqL.of w6⟩,?_⟩
  refine Zh5 (xs:=[.ref t1,.ref t2,.ref t3,.ref t4,.ref t5]) (fun i σ H'=>∃ o2 o3 F,σ=[some (.ref a),some (.ref f),o2,o3,none,none]∧At i F∧ZqE g H' f q0 x b l F∧But1 f B H') ⟨none,none,F0,rfl,at0,hFB,fun _ _ e _=>e⟩ (fun i σ H' _ h=>?_) (fun i y σ H' hy h=>?_) (fun σ H' h=>?_)
  ·obtain ⟨_,_,F,_,_,_,b1⟩:=h
   exact SqL.of (b1 _ _ w6 (nf w6 (by intro _ _ _ z;cases z)))
  ·obtain ⟨o2,o3,F,rfl,hat,hF,b1⟩:=h
   obtain ⟨hi,u,rfl,hu⟩:=hB i y hy
   refine ⟨u,_,rfl,SqT.of (b1 _ _ hu (nf hu (by intro _ _ _ z;cases z))),rfl,_,_,rfl,_,_,rfl,rfl,?_⟩
   obtain ⟨dx',s',k',t',i',ho⟩:=fOb hF
   refine ⟨_,rfl,f,dx',_,rfl,ho,Zsn _ _ _ _,_,rfl,_,rfl,?_⟩
   dsimp only [tNil,List.append_nil]
   exact ZBR (by omega) hF hat fun F' H2 v h' b2 hF'=>⟨_,_,F',rfl,h',hF',fun d o e hd=>b2 _ _ (b1 _ _ e hd) hd⟩
  ·obtain ⟨o2,o3,F5,rfl,at5,hF5,b1⟩:=h
   obtain ⟨dx',s',k',t',i',ho⟩:=fOb hF5
   refine ⟨_,rfl,f,dx',_,rfl,ho,Zsn _ _ _ _,?_⟩
   refine ZLY ?_
   refine ZBR (i:=5) (by omega) hF5 at5 fun F6 H6 v6 at6 b6 hF6=>?_
   obtain ⟨dx',s',k',t',i',ho⟩:=fOb hF6
   refine ⟨_,rfl,f,dx',_,rfl,ho,Zsn _ _ _ _,?_⟩
   refine ZLY ?_
   refine ZBR (i:=6) (by omega) hF6 at6 fun F7 H7 v7 at7 b7 hF7=>?_
   have hS7:SqL K H7 a (ns.map V.int):=by
    refine hSB.but1 (fOb hFB) fun d o e hd=>b7 _ _ (b6 _ _ (b1 _ _ e hd) hd) hd
   have hent:F7.S.ent=Zvb:=by rw [at7.s];exact ZME
   refine ⟨_,rfl,a,_,rfl,.inl hS7,_,_,rfl,_,_,rfl,?_⟩
   rw [List.length_map]
   generalize hN:(if (if (ns.length:Int) < 20 then (ns.length:Int) else 20) > 1 then (if (ns.length:Int) < 20 then (ns.length:Int) else 20) else 1)=N
   have hN1:N≤20:=by rw [← hN];split <;> split <;> omega
   refine ⟨N,rfl,by omega,by omega,?_⟩
   refine Zsl (n:=N.toNat) (fun i σ H'=>∃ o2 o3 o4 o5,σ=[some (.ref a),some (.ref f),o2,o3,o4,o5]∧Same H7 H') ⟨_,_,_,_,rfl,Same.refl _⟩ (fun i σ H' hi h=>?_) (fun σ H' h=>q _)
   obtain ⟨o2,o3,o4,o5,rfl,sm⟩:=h
   refine ⟨_,rfl,_,rfl,a,ns,_,rfl,sm.seq hS7,hlen,by omega,by omega,fun H8 s8=>?_⟩
   refine ⟨_,rfl,_,rfl,_,rfl,_,_,rfl,?_⟩
   refine ⟨_,_,rfl,fun p H9 s9 hp=>?_⟩
   have s79:=(sm.trans s8).trans s9
   obtain ⟨dx7,sv7,kv7,iv7,hF9⟩:=hF7.same s79
   refine ⟨_,rfl,_,rfl,f,dx7,sv7,kv7,_,iv7,F7.S,p,rfl,hF9.ob,hF9.st,hp,fun HA sA=>?_⟩
   refine ⟨_,rfl,p,rfl,hp,fun HB sB2=>?_⟩
   rw [ZIw hent p]
   refine ⟨(by cases ZB8 F7.S p <;> rfl),_,rfl,ZMu rfl ?_⟩
   exact ⟨_,_,_,_,rfl,(s79.trans sA).trans sB2⟩
end
end KS
set_option maxHeartbeats 16000000
namespace KS
open PySem L2 PySem.W
abbrev fnS (st:Stmt) (n q:Str) (kV dc pm:Value) (an:Option Addr) (cd ct:Value):FuncData:=fnOf n q (Zso st) (Zg6 st) (Zg st) .none kV dc pm an cd ct
theorem ZLZ {l:OpenLaw} {w:World} {K:Frag} {h:Heap} {mg:Str→Option Value} {fa ZeS ZaI Zds Zdt Zbl Zaf Zy Zm ZB ZA ZH Zv Zp Zt Zu Zz Zs Zdj ZcE Za9 Zc1 ZdR Zcq ZbW ZcF ZbV Zcr Zl7 Zl6 ZdL Zcz ZcY Zc2 Zh6 ZdN Za0 ZDl Zav ZdQ Zbf ZdP Zff Zcp ZdJ ZDm ZcA ZdM ZcZ ZdK Zh7 Zh8 Zc0 ZqK ZdO Zcy Zaj Zcx Zfg ZcC ZcD ZcB ZO ZaP Zfh Zfm ZdS Zfi Zcs Zfj Zh9 Zfk Zfl ZKk ZHc:Addr} (X:K.In h) (G:h.Ns mainGlobals mg) (hfa:mg "law"=some (.ref fa))
  {ZyQ Zqg Zwg Zne ZrB ZhE Ztt Zjn Zv7 Zm5 Zry ZhB Ztw Zjq Zwh Znf Ztv Zjp Zrz ZhC ZEq ZuR ZEp ZuQ Zv1 ZmZ Zwb Zm9 Ztq Zjk Ztu Zjo ZBA ZsJ Zv3 Zm1 Zlp ZdY ZJV ZG8 Zin ZcT Zv6 Zm4 ZnS ZeQ Zv5 Zm3 ZyI Zp8 Zrx ZhA ZvZ ZmX ZJW ZG9 Zwc Zna Zv2 Zm0 Ztr Zjl Zv0 ZmY ZBB ZsK ZBC ZsL Zts Zjm ZF0 Zz5 Zv4 Zm2 Zwa Zm8 Zlq ZdZ Zv9 Zm7 ZyJ Zp9 Zwe Znc Zwf Znd Zwd Znb Zd7 Zbc Zqx Zf2 ZyK Zqa ZyP Zqf Zv8 Zm6 ZyL Zqb ZrA ZhD ZyM Zqc ZBD ZsM ZyN Zqd ZyO Zqe ZLp ZI9 ZKp:Option Addr} {Zyf Zvx Zq8 Zs7 Zvo Zq5 Zta Zvy Zs9 Zq6 ZD4 ZD3 Zvi Zvs Zs4 Zs8 ZBd Zvk Zkq ZJA Zic Zvn Znr Zvm Zx7 Zq3 Zvg ZJB Zvt Zvj Zs5 Zvh ZBe ZBf Zs6 ZFz Zvl Zvr Zkr Zvq Zx8 Zvv Zvw Zvu Zd1 Zqm Zx9 Zye Zvp Zya Zq7 Zyb ZBg Zyc Zyd ZK6 ZJy:Array (Option Value)} {ZyZ Zpq ZpA ZoE Zht ZpJ Zwz Zl2 Zmq Zli ZfJ ZmJ ZrG Zg0 Zhb ZgD Zdq Zhg ZtA ZiU Zi2 ZiA Zek Zi9 Zwq ZlT Zmh Zk9 ZfA ZmA ZrD ZgX Zg8 ZgA Zdn Zhd ZtD ZiX Zi5 ZiD Zen Zjc ZwA Zl3 Zmr Zlj ZfK ZmK ZtC ZiW Zi4 ZiC Zem Zjb ZrE ZgY Zg9 ZgB Zdo Zhe ZEs Zuv ZuA Zt9 Zn8 ZuC ZEr Zuu Zuz Zt8 Zn7 ZuB Zwk ZlN Zmb Zk3 Zfu Zmu Zwu ZlX Zml Zld ZfE ZmE Ztx ZiR ZiZ Zix Zeh Zi6 ZtB ZiV Zi3 ZiB Zel Zja ZBF Zr7 Zsp Zrl Zj1 Zsu Zwm ZlP Zmd Zk5 Zfw Zmw Zlr ZdG ZdT Zdz ZbX ZdV ZJX ZGl ZGQ ZFK ZCe ZGW Zio ZcQ ZcR ZcO Za4 ZcS Zwp ZlS Zmg Zk8 Zfz Zmz ZnT ZeB ZeI Zes Zch ZeJ Zwo ZlR Zmf Zk7 Zfy Zmy ZyR Zpi Zps Zow Zhl ZpB ZrC ZgW Zg7 Zgz Zdm Zhc Zwi ZlL Zl9 Zk1 Zfs Zms ZJY ZGm ZGR ZFL ZCf ZGX Zwv ZlY Zmm Zle ZfF ZmF Zwl ZlO Zmc Zk4 Zfv Zmv Zty ZiS Zi0 Ziy Zei Zi7 Zwj ZlM Zma Zk2 Zft Zmt ZBG Zr8 Zsq Zrm Zj2 Zsv ZBH Zr9 Zsr Zrn Zj3 Zsw Ztz ZiT Zi1 Ziz Zej Zi8 ZF1 Zzh ZzD Zyq Zsy ZzG Zwn ZlQ Zme Zk6 Zfx Zmx Zwt ZlW Zmk Zlc ZfD ZmD Zls ZdH ZdU ZdA ZbY ZdW Zws ZlV Zmj Zlb ZfC ZmC ZyS Zpj Zpt Zox Zhm ZpC Zwx Zl0 Zmo Zlg ZfH ZmH Zwy Zl1 Zmp Zlh ZfI ZmI Zww ZlZ Zmn Zlf ZfG ZmG Zd8 Za8 Zba Za6 Zae Zbb Zqy ZfY ZfZ ZfU ZcM Zf0 ZyT Zpk Zpu Zoy Zhn ZpD ZyY Zpp Zpz ZoD Zhs ZpI Zwr ZlU Zmi Zla ZfB ZmB ZyU Zpl Zpv Zoz Zho ZpE ZrF ZgZ Zha ZgC Zdp Zhf ZyV Zpm Zpw ZoA Zhp ZpF ZBI Zsa Zss Zro Zj4 Zsx ZyW Zpn Zpx ZoB Zhq ZpG ZyX Zpo Zpy ZoC Zhr ZpH ZLq ZIY ZI2 ZIM ZG2 ZI3:Value} {Zgi Zkj Zkn Zkk Zt0 ZqW Zos Zit Zis ZIK Zki Zir ZCS ZCR ZCQ ZCP Zkm ZqX ZfS Ziu Zkl ZFg:Tok} {ZAS ZqR ZAV ZAU ZDE ZxH Zu2 ZxF ZxG ZAT Zs2:ClassData} {ZJ1:Nat}
  (ZLR:nsIn K mainGlobals "Disk"=some (some (.ref ZeS)))
  (ZIv:nsIn K mainGlobals "Chains"=some (some (.ref ZaI)))
  (ZKm:nsIn K mainGlobals "State"=some (some (.ref Zds)))
  (ZKn:nsIn K mainGlobals "Image"=some (some (.ref Zdt)))
  (ZKl:nsIn K mainGlobals "Store"=some (some (.ref Zbl)))
  (ZKo:nsIn K mainGlobals "Files"=some (some (.ref Zaf)))
  (ZGG:nsIn K mainGlobals "NoThing"=some (some (.ref Zy)))
  (ZwY:nsIn K mainGlobals "NoDirectory"=some (some (.ref Zm)))
  (ZGJ:nsIn K mainGlobals "BadName"=some (some (.ref ZB)))
  (ZGI:nsIn K mainGlobals "IsThere"=some (some (.ref ZA)))
  (ZIu:nsIn K mainGlobals "NoRoom"=some (some (.ref ZH)))
  (ZEI:nsIn K mainGlobals "NotEmpty"=some (some (.ref Zv)))
  (ZB9:nsIn K mainGlobals "WrongKind"=some (some (.ref Zp)))
  (ZEG:nsIn K mainGlobals "TooGreat"=some (some (.ref Zt)))
  (ZEH:nsIn K mainGlobals "ReadOnly"=some (some (.ref Zu)))
  (ZGH:nsIn K mainGlobals "NoFiles"=some (some (.ref Zz)))
  (ZzA:nsIn K mainGlobals "StillError"=some (some (.ref Zs)))
  (ZJN:plainGet K ZeS Str.empty=true)
  (ZKg:hasDictIn K ZeS=true)
  (ZJK:plainOver K ZeS=true)
  (ZJF:findIn K (.ref ZeS) "__setattr__"=some (some (.builtin "object.__setattr__")))
  (ZBM:makesIn K ZeS=true)
  (ZKa:keepIn K (.ref ZeS)=true)
  (ZbR:findIn K (.ref ZeS) "blocks"=some none)
  (Zeu:findIn K (.ref ZeS) "log"=some none)
  (ZFR:plainGet K ZaI Str.empty=true)
  (ZGs:hasDictIn K ZaI=true)
  (ZFJ:plainOver K ZaI=true)
  (ZFC:findIn K (.ref ZaI) "__setattr__"=some (some (.builtin "object.__setattr__")))
  (ZrI:makesIn K ZaI=true)
  (ZGk:keepIn K (.ref ZaI)=true)
  (Zar:findIn K (.ref ZaI) "free"=some none)
  (Za7:findIn K (.ref ZaI) "older"=some none)
  (ZV:findIn K (.ref ZaI) "places"=some none)
  (ZHJ:plainGet K Zds Str.empty=true)
  (ZIf:hasDictIn K Zds=true)
  (ZHD:plainOver K Zds=true)
  (ZHw:findIn K (.ref Zds) "__setattr__"=some (some (.builtin "object.__setattr__")))
  (Zlt:makesIn K Zds=true)
  (ZH9:keepIn K (.ref Zds)=true)
  (Z8:findIn K (.ref Zds) "data"=some none)
  (ZG:findIn K (.ref Zds) "entries"=some none)
  (ZHK:plainGet K Zdt Str.empty=true)
  (ZIg:hasDictIn K Zdt=true)
  (ZHE:plainOver K Zdt=true)
  (ZHx:findIn K (.ref Zdt) "__setattr__"=some (some (.builtin "object.__setattr__")))
  (ZwG:makesIn K Zdt=true)
  (ZIa:keepIn K (.ref Zdt)=true)
  (ZaA:findIn K (.ref Zdt) "places"=some none)
  (ZcU:findIn K (.ref Zdt) "heads"=some none)
  (ZHI:plainGet K Zbl Str.empty=true)
  (ZIe:hasDictIn K Zbl=true)
  (ZHC:plainOver K Zbl=true)
  (ZHv:findIn K (.ref Zbl) "__setattr__"=some (some (.builtin "object.__setattr__")))
  (ZwF:makesIn K Zbl=true)
  (ZH8:keepIn K (.ref Zbl)=true)
  (Zan:findIn K (.ref Zbl) "disk"=some none)
  (ZbG:findIn K (.ref Zbl) "slot"=some none)
  (ZbF:findIn K (.ref Zbl) "turn"=some none)
  (Zac:findIn K (.ref Zbl) "synced"=some none)
  (ZHL:plainGet K Zaf Str.empty=true)
  (ZIh:hasDictIn K Zaf=true)
  (ZHF:plainOver K Zaf=true)
  (ZHy:findIn K (.ref Zaf) "__setattr__"=some (some (.builtin "object.__setattr__")))
  (ZwH:makesIn K Zaf=true)
  (ZIb:keepIn K (.ref Zaf)=true)
  (Zaq:findIn K (.ref Zaf) "state"=some none)
  (Zcv:findIn K (.ref Zaf) "kept"=some none)
  (ZbQ:findIn K (.ref Zaf) "store"=some none)
  (ZcV:findIn K (.ref Zaf) "image"=some none)
  (ZCB:findIn K (.ref ZeS) "__init__"=some (some (.ref Zdj)))
  (ZB5:isFn K (.ref Zdj)=true)
  (ZrW:K.lookup Zdj=some ⟨ZyZ,ZyQ,.func (fnS Zbj "__init__" "Disk.__init__" Zpq ZpA ZoE Zqg Zht ZpJ),Zyf⟩)
  (ZsH:codeIn K Zht "Disk.__init__"=true)
  (Zr6:keepIn K (.ref Zdj)=true)
  (ZAn:findIn K (.ref ZeS) "write"=some (some (.ref ZcE)))
  (Zzs:isFn K (.ref ZcE)=true)
  (Zo2:K.lookup ZcE=some ⟨Zwz,Zwg,.func (fnS ZbD "write" "Disk.write" Zl2 Zmq Zli Zne ZfJ ZmJ),Zvx⟩)
  (Zp1:codeIn K ZfJ "Disk.write"=true)
  (ZgU:keepIn K (.ref ZcE)=true)
  (ZtS:findIn K (.ref ZeS) "barrier"=some (some (.ref Za9)))
  (ZtJ:isFn K (.ref Za9)=true)
  (ZiM:K.lookup Za9=some ⟨ZrG,ZrB,.func (fnS Zaz "barrier" "Disk.barrier" Zg0 Zhb ZgD ZhE Zdq Zhg),Zq8⟩)
  (Zjh:codeIn K Zdq "Disk.barrier"=true)
  (Zd9:keepIn K (.ref Za9)=true)
  (Zxc:nsIn K mainGlobals "block_count"=some (some (.ref Zc1)))
  (ZlB:K.lookup Zc1=some ⟨ZtA,Ztt,.func (fnS ZaV "block_count" "block_count" ZiU Zi2 ZiA Zjn Zek Zi9),Zs7⟩)
  (ZmP:codeIn K Zek "block_count"=true)
  (ZlI:keepIn K (.ref Zc1)=true)
  (ZAe:nsIn K mainGlobals "blocks_for"=some (some (.ref ZdR)))
  (ZoT:K.lookup ZdR=some ⟨Zwq,Zv7,.func (fnS Zbu "blocks_for" "blocks_for" ZlT Zmh Zk9 Zm5 ZfA ZmA),Zvo⟩)
  (ZpS:codeIn K ZfA "blocks_for"=true)
  (Zpc:keepIn K (.ref ZdR)=true)
  (ZtP:nsIn K mainGlobals "free_numbers"=some (some (.ref Zcq)))
  (ZiJ:K.lookup Zcq=some ⟨ZrD,Zry,.func (fnS Zaa "free_numbers" "free_numbers" ZgX Zg8 ZgA ZhB Zdn Zhd),Zq5⟩)
  (Zje:codeIn K Zdn "free_numbers"=true)
  (ZiO:keepIn K (.ref Zcq)=true)
  (Zxf:findIn K (.ref ZaI) "__init__"=some (some (.ref ZbW)))
  (ZwS:isFn K (.ref ZbW)=true)
  (ZlE:K.lookup ZbW=some ⟨ZtD,Ztw,.func (fnS ZaY "__init__" "Chains.__init__" ZiX Zi5 ZiD Zjq Zen Zjc),Zta⟩)
  (ZmS:codeIn K Zen "Chains.__init__"=true)
  (ZlK:keepIn K (.ref ZbW)=true)
  (ZAo:findIn K (.ref ZaI) "put"=some (some (.ref ZcF)))
  (Zzt:isFn K (.ref ZcF)=true)
  (Zo3:K.lookup ZcF=some ⟨ZwA,Zwh,.func (fnS ZbE "put" "Chains.put" Zl3 Zmr Zlj Znf ZfK ZmK),Zvy⟩)
  (Zp2:codeIn K ZfK "Chains.put"=true)
  (ZgV:keepIn K (.ref ZcF)=true)
  (Zxe:findIn K (.ref ZaI) "take"=some (some (.ref ZbV)))
  (ZwR:isFn K (.ref ZbV)=true)
  (ZlD:K.lookup ZbV=some ⟨ZtC,Ztv,.func (fnS ZaX "take" "Chains.take" ZiW Zi4 ZiC Zjp Zem Zjb),Zs9⟩)
  (ZmR:codeIn K Zem "Chains.take"=true)
  (Ze9:keepIn K (.ref ZbV)=true)
  (ZtQ:nsIn K mainGlobals "chain_blocks"=some (some (.ref Zcr)))
  (ZiK:K.lookup Zcr=some ⟨ZrE,Zrz,.func (fnS Zay "chain_blocks" "chain_blocks" ZgY Zg9 ZgB ZhC Zdo Zhe),Zq6⟩)
  (Zjf:codeIn K Zdo "chain_blocks"=true)
  (ZiP:keepIn K (.ref Zcr)=true)
  (ZHb:nsIn K mainGlobals "is_name"=some (some (.ref Zl7)))
  (Zzd:K.lookup Zl7=some ⟨ZEs,ZEq,.func (fnS Zdb "is_name" "is_name" Zuv ZuA Zt9 ZuR Zn8 ZuC),ZD4⟩)
  (ZzO:codeIn K Zn8 "is_name"=true)
  (Zzg:keepIn K (.ref Zl7)=true)
  (ZHa:nsIn K mainGlobals "is_path"=some (some (.ref Zl6)))
  (Zzc:K.lookup Zl6=some ⟨ZEr,ZEp,.func (fnS Zda "is_path" "is_path" Zuu Zuz Zt8 ZuQ Zn7 ZuB),ZD3⟩)
  (ZzN:codeIn K Zn7 "is_path"=true)
  (Zzf:keepIn K (.ref Zl6)=true)
  (Zz8:nsIn K mainGlobals "path_names"=some (some (.ref ZdL)))
  (ZoN:K.lookup ZdL=some ⟨Zwk,Zv1,.func (fnS Zbp "path_names" "path_names" ZlN Zmb Zk3 ZmZ Zfu Zmu),Zvi⟩)
  (ZpM:codeIn K Zfu "path_names"=true)
  (Zo6:keepIn K (.ref ZdL)=true)
  (ZAi:findIn K (.ref Zds) "__init__"=some (some (.ref Zcz)))
  (Zzn:isFn K (.ref Zcz)=true)
  (ZoX:K.lookup Zcz=some ⟨Zwu,Zwb,.func (fnS Zby "__init__" "State.__init__" ZlX Zml Zld Zm9 ZfE ZmE),Zvs⟩)
  (ZpW:codeIn K ZfE "State.__init__"=true)
  (Zpf:keepIn K (.ref Zcz)=true)
  (Zw9:nsIn K mainGlobals "first_state"=some (some (.ref ZcY)))
  (Zly:K.lookup ZcY=some ⟨Ztx,Ztq,.func (fnS ZaT "first_state" "first_state" ZiR ZiZ Zix Zjk Zeh Zi6),Zs4⟩)
  (ZmM:codeIn K Zeh "first_state"=true)
  (ZlF:keepIn K (.ref ZcY)=true)
  (Zxd:nsIn K mainGlobals "all_numbers"=some (some (.ref Zc2)))
  (ZlC:K.lookup Zc2=some ⟨ZtB,Ztu,.func (fnS ZaW "all_numbers" "all_numbers" ZiV Zi3 ZiB Zjo Zel Zja),Zs8⟩)
  (ZmQ:codeIn K Zel "all_numbers"=true)
  (ZlJ:keepIn K (.ref Zc2)=true)
  (ZET:nsIn K mainGlobals "is_thing"=some (some (.ref Zh6)))
  (Zuk:K.lookup Zh6=some ⟨ZBF,ZBA,.func (fnS Zc4 "is_thing" "is_thing" Zr7 Zsp Zrl ZsJ Zj1 Zsu),ZBd⟩)
  (ZuK:codeIn K Zj1 "is_thing"=true)
  (Zuq:keepIn K (.ref Zh6)=true)
  (ZAa:nsIn K mainGlobals "least_free"=some (some (.ref ZdN)))
  (ZoP:K.lookup ZdN=some ⟨Zwm,Zv3,.func (fnS Zbq "least_free" "least_free" ZlP Zmd Zk5 Zm1 Zfw Zmw),Zvk⟩)
  (ZpO:codeIn K Zfw "least_free"=true)
  (Zo8:keepIn K (.ref ZdN)=true)
  (Zod:nsIn K mainGlobals "check_directory"=some (some (.ref Za0)))
  (Zey:K.lookup Za0=some ⟨Zlr,Zlp,.func (fnS Z0 "check_directory" "check_directory" ZdG ZdT Zdz ZdY ZbX ZdV),Zkq⟩)
  (ZeK:codeIn K ZbX "check_directory"=true)
  (ZeA:keepIn K (.ref Za0)=true)
  (ZL0:nsIn K mainGlobals "walk"=some (some (.ref ZDl)))
  (ZIS:K.lookup ZDl=some ⟨ZJX,ZJV,.func (fnS Zt4 "walk" "walk" ZGl ZGQ ZFK ZG8 ZCe ZGW),ZJA⟩)
  (ZI6:codeIn K ZCe "walk"=true)
  (ZIW:keepIn K (.ref ZDl)=true)
  (Zj8:nsIn K mainGlobals "walk_to_directory"=some (some (.ref Zav)))
  (Zde:K.lookup Zav=some ⟨Zio,Zin,.func (fnS ZU "walk_to_directory" "walk_to_directory" ZcQ ZcR ZcO ZcT Za4 ZcS),Zic⟩)
  (Zdr:codeIn K Za4 "walk_to_directory"=true)
  (Zdf:keepIn K (.ref Zav)=true)
  (ZAd:nsIn K mainGlobals "check_path"=some (some (.ref ZdQ)))
  (ZoS:K.lookup ZdQ=some ⟨Zwp,Zv6,.func (fnS Zbt "check_path" "check_path" ZlS Zmg Zk8 Zm4 Zfz Zmz),Zvn⟩)
  (ZpR:codeIn K Zfz "check_path"=true)
  (Zpb:keepIn K (.ref ZdQ)=true)
  (ZqD:nsIn K mainGlobals "check_not_full"=some (some (.ref Zbf)))
  (ZfW:K.lookup Zbf=some ⟨ZnT,ZnS,.func (fnS Z6 "check_not_full" "check_not_full" ZeB ZeI Zes ZeQ Zch ZeJ),Znr⟩)
  (Zf1:codeIn K Zch "check_not_full"=true)
  (ZfX:keepIn K (.ref Zbf)=true)
  (ZAc:nsIn K mainGlobals "free_place"=some (some (.ref ZdP)))
  (ZoR:K.lookup ZdP=some ⟨Zwo,Zv5,.func (fnS Zbs "free_place" "free_place" ZlR Zmf Zk7 Zm3 Zfy Zmy),Zvm⟩)
  (ZpQ:codeIn K Zfy "free_place"=true)
  (Zpa:keepIn K (.ref ZdP)=true)
  (ZCt:nsIn K mainGlobals "with_data"=some (some (.ref Zff)))
  (ZrO:K.lookup Zff=some ⟨ZyR,ZyI,.func (fnS Zb3 "with_data" "with_data" Zpi Zps Zow Zp8 Zhl ZpB),Zx7⟩)
  (Zsz:codeIn K Zhl "with_data"=true)
  (ZrY:keepIn K (.ref Zff)=true)
  (ZtO:nsIn K mainGlobals "with_entries"=some (some (.ref Zcp)))
  (ZiI:K.lookup Zcp=some ⟨ZrC,Zrx,.func (fnS Zax "with_entries" "with_entries" ZgW Zg7 Zgz ZhA Zdm Zhc),Zq3⟩)
  (Zjd:codeIn K Zdm "with_entries"=true)
  (ZiN:keepIn K (.ref Zcp)=true)
  (Zz6:nsIn K mainGlobals "with_entry"=some (some (.ref ZdJ)))
  (ZoL:K.lookup ZdJ=some ⟨Zwi,ZvZ,.func (fnS Zbn "with_entry" "with_entry" ZlL Zl9 Zk1 ZmX Zfs Zms),Zvg⟩)
  (ZpK:codeIn K Zfs "with_entry"=true)
  (Zo4:keepIn K (.ref ZdJ)=true)
  (ZL1:nsIn K mainGlobals "made"=some (some (.ref ZDm)))
  (ZIT:K.lookup ZDm=some ⟨ZJY,ZJW,.func (fnS Zt5 "made" "made" ZGm ZGR ZFL ZG9 ZCf ZGX),ZJB⟩)
  (ZI7:codeIn K ZCf "made"=true)
  (ZIX:keepIn K (.ref ZDm)=true)
  (ZAj:findIn K (.ref Zdt) "__init__"=some (some (.ref ZcA)))
  (Zzo:isFn K (.ref ZcA)=true)
  (ZoY:K.lookup ZcA=some ⟨Zwv,Zwc,.func (fnS Zbz "__init__" "Image.__init__" ZlY Zmm Zle Zna ZfF ZmF),Zvt⟩)
  (ZpX:codeIn K ZfF "Image.__init__"=true)
  (Zpg:keepIn K (.ref ZcA)=true)
  (Zz9:nsIn K mainGlobals "name_codes"=some (some (.ref ZdM)))
  (ZoO:K.lookup ZdM=some ⟨Zwl,Zv2,.func (fnS ZaL "name_codes" "name_codes" ZlO Zmc Zk4 Zm0 Zfv Zmv),Zvj⟩)
  (ZpN:codeIn K Zfv "name_codes"=true)
  (Zo7:keepIn K (.ref ZdM)=true)
  (Zxa:nsIn K mainGlobals "entries_row"=some (some (.ref ZcZ)))
  (Zlz:K.lookup ZcZ=some ⟨Zty,Ztr,.func (fnS ZaU "entries_row" "entries_row" ZiS Zi0 Ziy Zjl Zei Zi7),Zs5⟩)
  (ZmN:codeIn K Zei "entries_row"=true)
  (ZlG:keepIn K (.ref ZcZ)=true)
  (Zz7:nsIn K mainGlobals "table_head"=some (some (.ref ZdK)))
  (ZoM:K.lookup ZdK=some ⟨Zwj,Zv0,.func (fnS Zbo "table_head" "table_head" ZlM Zma Zk2 ZmY Zft Zmt),Zvh⟩)
  (ZpL:codeIn K Zft "table_head"=true)
  (Zo5:keepIn K (.ref ZdK)=true)
  (ZEU:nsIn K mainGlobals "image_of"=some (some (.ref Zh7)))
  (Zul:K.lookup Zh7=some ⟨ZBG,ZBB,.func (fnS Zc5 "image_of" "image_of" Zr8 Zsq Zrm ZsK Zj2 Zsv),ZBe⟩)
  (ZuL:codeIn K Zj2 "image_of"=true)
  (Zur:keepIn K (.ref Zh7)=true)
  (ZEV:nsIn K mainGlobals "check_of"=some (some (.ref Zh8)))
  (Zum:K.lookup Zh8=some ⟨ZBH,ZBC,.func (fnS Zc6 "check_of" "check_of" Zr9 Zsr Zrn ZsL Zj3 Zsw),ZBf⟩)
  (ZuM:codeIn K Zj3 "check_of"=true)
  (Zus:keepIn K (.ref Zh8)=true)
  (Zxb:nsIn K mainGlobals "check_bytes"=some (some (.ref Zc0)))
  (ZlA:K.lookup Zc0=some ⟨Ztz,Zts,.func (fnS Zap "check_bytes" "check_bytes" ZiT Zi1 Ziz Zjm Zej Zi8),Zs6⟩)
  (ZmO:codeIn K Zej "check_bytes"=true)
  (ZlH:keepIn K (.ref Zc0)=true)
  (ZII:nsIn K mainGlobals "padded"=some (some (.ref ZqK)))
  (ZDc:K.lookup ZqK=some ⟨ZF1,ZF0,.func (fnS ZhX "padded" "padded" Zzh ZzD Zyq Zz5 Zsy ZzG),ZFz⟩)
  (ZDt:codeIn K Zsy "padded"=true)
  (ZDe:keepIn K (.ref ZqK)=true)
  (ZAb:nsIn K mainGlobals "head_block"=some (some (.ref ZdO)))
  (ZoQ:K.lookup ZdO=some ⟨Zwn,Zv4,.func (fnS Zbr "head_block" "head_block" ZlQ Zme Zk6 Zm2 Zfx Zmx),Zvl⟩)
  (ZpP:codeIn K Zfx "head_block"=true)
  (Zo9:keepIn K (.ref ZdO)=true)
  (ZAh:findIn K (.ref Zbl) "__init__"=some (some (.ref Zcy)))
  (Zzm:isFn K (.ref Zcy)=true)
  (ZoW:K.lookup Zcy=some ⟨Zwt,Zwa,.func (fnS Zbx "__init__" "Store.__init__" ZlW Zmk Zlc Zm8 ZfD ZmD),Zvr⟩)
  (ZpV:codeIn K ZfD "Store.__init__"=true)
  (Zpe:keepIn K (.ref Zcy)=true)
  (Zoe:findIn K (.ref Zbl) "image_for"=some (some (.ref Zaj)))
  (Zn1:isFn K (.ref Zaj)=true)
  (Zez:K.lookup Zaj=some ⟨Zls,Zlq,.func (fnS Z1 "image_for" "Store.image_for" ZdH ZdU ZdA ZdZ ZbY ZdW),Zkr⟩)
  (ZeL:codeIn K ZbY "Store.image_for"=true)
  (Zce:keepIn K (.ref Zaj)=true)
  (ZAg:findIn K (.ref Zbl) "save"=some (some (.ref Zcx)))
  (Zzl:isFn K (.ref Zcx)=true)
  (ZoV:K.lookup Zcx=some ⟨Zws,Zv9,.func (fnS Zbw "save" "Store.save" ZlV Zmj Zlb Zm7 ZfC ZmC),Zvq⟩)
  (ZpU:codeIn K ZfC "Store.save"=true)
  (ZgR:keepIn K (.ref Zcx)=true)
  (ZCu:nsIn K mainGlobals "new_store"=some (some (.ref Zfg)))
  (ZrP:K.lookup Zfg=some ⟨ZyS,ZyJ,.func (fnS Zb4 "new_store" "new_store" Zpj Zpt Zox Zp9 Zhm ZpC),Zx8⟩)
  (ZsA:codeIn K Zhm "new_store"=true)
  (ZrZ:keepIn K (.ref Zfg)=true)
  (ZAl:findIn K (.ref Zaf) "__init__"=some (some (.ref ZcC)))
  (Zzq:isFn K (.ref ZcC)=true)
  (Zo0:K.lookup ZcC=some ⟨Zwx,Zwe,.func (fnS ZbB "__init__" "Files.__init__" Zl0 Zmo Zlg Znc ZfH ZmH),Zvv⟩)
  (ZpZ:codeIn K ZfH "Files.__init__"=true)
  (Zph:keepIn K (.ref ZcC)=true)
  (ZAm:findIn K (.ref Zaf) "find"=some (some (.ref ZcD)))
  (Zzr:isFn K (.ref ZcD)=true)
  (Zo1:K.lookup ZcD=some ⟨Zwy,Zwf,.func (fnS ZbC "find" "Files.find" Zl1 Zmp Zlh Znd ZfI ZmI),Zvw⟩)
  (Zp0:codeIn K ZfI "Files.find"=true)
  (ZgT:keepIn K (.ref ZcD)=true)
  (ZAk:findIn K (.ref Zaf) "make"=some (some (.ref ZcB)))
  (Zzp:isFn K (.ref ZcB)=true)
  (ZoZ:K.lookup ZcB=some ⟨Zww,Zwd,.func (fnS ZbA "make" "Files.make" ZlZ Zmn Zlf Znb ZfG ZmG),Zvu⟩)
  (ZpY:codeIn K ZfG "Files.make"=true)
  (ZgS:keepIn K (.ref ZcB)=true)
  (ZeR:findIn K (.ref Zaf) "check_changeable"=some (some (.ref ZO)))
  (ZeC:isFn K (.ref ZO)=true)
  (ZbH:K.lookup ZO=some ⟨Zd8,Zd7,.func (fnS ZK "check_changeable" "Files.check_changeable" Za8 Zba Za6 Zbc Zae Zbb),Zd1⟩)
  (ZbI:codeIn K Zae "Files.check_changeable"=true)
  (Zai:keepIn K (.ref ZO)=true)
  (ZsN:findIn K (.ref Zaf) "turn_to"=some (some (.ref ZaP)))
  (Zsh:isFn K (.ref ZaP)=true)
  (ZgQ:K.lookup ZaP=some ⟨Zqy,Zqx,.func (fnS Zag "turn_to" "Files.turn_to" ZfY ZfZ ZfU Zf2 ZcM Zf0),Zqm⟩)
  (Zhu:codeIn K ZcM "Files.turn_to"=true)
  (Zdg:keepIn K (.ref ZaP)=true)
  (ZCv:nsIn K mainGlobals "formatted"=some (some (.ref Zfh)))
  (ZrQ:K.lookup Zfh=some ⟨ZyT,ZyK,.func (fnS Zb5 "formatted" "formatted" Zpk Zpu Zoy Zqa Zhn ZpD),Zx9⟩)
  (ZsB:codeIn K Zhn "formatted"=true)
  (Zr0:keepIn K (.ref Zfh)=true)
  (ZCA:nsIn K mainGlobals "_law_cell"=some (some (.ref Zfm)))
  (ZrV:K.lookup Zfm=some ⟨ZyY,ZyP,.func (fnS Zb9 "_law_cell" "_law_cell" Zpp Zpz ZoD Zqf Zhs ZpI),Zye⟩)
  (ZsG:codeIn K Zhs "_law_cell"=true)
  (Zr5:keepIn K (.ref Zfm)=true)
  (ZAf:nsIn K mainGlobals "_law_drawn"=some (some (.ref ZdS)))
  (ZoU:K.lookup ZdS=some ⟨Zwr,Zv8,.func (fnS Zbv "_law_drawn" "_law_drawn" ZlU Zmi Zla Zm6 ZfB ZmB),Zvp⟩)
  (ZpT:codeIn K ZfB "_law_drawn"=true)
  (Zpd:keepIn K (.ref ZdS)=true)
  (ZCw:nsIn K mainGlobals "_law_word"=some (some (.ref Zfi)))
  (ZrR:K.lookup Zfi=some ⟨ZyU,ZyL,.func (fnS Zb6 "_law_word" "_law_word" Zpl Zpv Zoz Zqb Zho ZpE),Zya⟩)
  (ZsC:codeIn K Zho "_law_word"=true)
  (Zr1:keepIn K (.ref Zfi)=true)
  (ZtR:nsIn K mainGlobals "_law_is_name"=some (some (.ref Zcs)))
  (ZiL:K.lookup Zcs=some ⟨ZrF,ZrA,.func (fnS Zab "_law_is_name" "_law_is_name" ZgZ Zha ZgC ZhD Zdp Zhf),Zq7⟩)
  (Zjg:codeIn K Zdp "_law_is_name"=true)
  (ZiQ:keepIn K (.ref Zcs)=true)
  (ZCx:nsIn K mainGlobals "_law_tree"=some (some (.ref Zfj)))
  (ZrS:K.lookup Zfj=some ⟨ZyV,ZyM,.func (fnS Zb7 "_law_tree" "_law_tree" Zpm Zpw ZoA Zqc Zhp ZpF),Zyb⟩)
  (ZsD:codeIn K Zhp "_law_tree"=true)
  (Zr2:keepIn K (.ref Zfj)=true)
  (ZEW:nsIn K mainGlobals "_law_due"=some (some (.ref Zh9)))
  (Zun:K.lookup Zh9=some ⟨ZBI,ZBD,.func (fnS Zb8 "_law_due" "_law_due" Zsa Zss Zro ZsM Zj4 Zsx),ZBg⟩)
  (ZuN:codeIn K Zj4 "_law_due"=true)
  (Zut:keepIn K (.ref Zh9)=true)
  (ZCy:nsIn K mainGlobals "_law_told"=some (some (.ref Zfk)))
  (ZrT:K.lookup Zfk=some ⟨ZyW,ZyN,.func (fnS Zbh "_law_told" "_law_told" Zpn Zpx ZoB Zqd Zhq ZpG),Zyc⟩)
  (ZsE:codeIn K Zhq "_law_told"=true)
  (Zr3:keepIn K (.ref Zfk)=true)
  (ZCz:nsIn K mainGlobals "_law_path"=some (some (.ref Zfl)))
  (ZrU:K.lookup Zfl=some ⟨ZyX,ZyO,.func (fnS Zbi "_law_path" "_law_path" Zpo Zpy ZoC Zqe Zhr ZpH),Zyd⟩)
  (ZsF:codeIn K Zhr "_law_path"=true)
  (Zr4:keepIn K (.ref Zfl)=true)
  (ZL2:nsIn K mainGlobals "law"=some (some (.ref ZKk)))
  (ZLu:K.lookup ZKk=some ⟨ZLq,ZLp,.func (fnS ZD9 "law" "law" ZIY ZI2 ZIM ZI9 ZG2 ZI3),ZK6⟩)
  (ZLW:codeIn K ZG2 "law"=true)
  (ZLC:keepIn K (.ref ZKk)=true)
  (ZDG:excIn K Zy [.type "ValueError",.type "Exception",.type "BaseException",.type "object"] "ValueError.__new__"=true)
  (ZAK:findIn K (.ref Zy) "__getattribute__"=some (some (.builtin "BaseException.__getattribute__")))
  (ZAG:findIn K (.ref Zy) "__getattr__"=some none)
  (ZAW:findIn K (.ref Zy) "__class__"=some (some (.builtin "object.__class__")))
  (ZAC:mroIn K Zy (.type "object")=some true)
  (ZA3:mroIn K Zy (.type "BaseException")=some true)
  (ZAO:clsIn K Zy=some ZAS)
  (Zs3:excIn K Zm [.type "ValueError",.type "Exception",.type "BaseException",.type "object"] "ValueError.__new__"=true)
  (ZqP:findIn K (.ref Zm) "__getattribute__"=some (some (.builtin "BaseException.__getattribute__")))
  (ZqO:findIn K (.ref Zm) "__getattr__"=some none)
  (ZqS:findIn K (.ref Zm) "__class__"=some (some (.builtin "object.__class__")))
  (ZqN:mroIn K Zm (.type "object")=some true)
  (ZqT:mroIn K Zm (.type "BaseException")=some true)
  (ZqQ:clsIn K Zm=some ZqR)
  (ZDJ:excIn K ZB [.type "ValueError",.type "Exception",.type "BaseException",.type "object"] "ValueError.__new__"=true)
  (ZAN:findIn K (.ref ZB) "__getattribute__"=some (some (.builtin "BaseException.__getattribute__")))
  (ZAJ:findIn K (.ref ZB) "__getattr__"=some none)
  (ZAZ:findIn K (.ref ZB) "__class__"=some (some (.builtin "object.__class__")))
  (ZAF:mroIn K ZB (.type "object")=some true)
  (ZA6:mroIn K ZB (.type "BaseException")=some true)
  (ZAR:clsIn K ZB=some ZAV)
  (ZDI:excIn K ZA [.type "ValueError",.type "Exception",.type "BaseException",.type "object"] "ValueError.__new__"=true)
  (ZAM:findIn K (.ref ZA) "__getattribute__"=some (some (.builtin "BaseException.__getattribute__")))
  (ZAI:findIn K (.ref ZA) "__getattr__"=some none)
  (ZAY:findIn K (.ref ZA) "__class__"=some (some (.builtin "object.__class__")))
  (ZAE:mroIn K ZA (.type "object")=some true)
  (ZA5:mroIn K ZA (.type "BaseException")=some true)
  (ZAQ:clsIn K ZA=some ZAU)
  (ZE0:excIn K ZH [.type "ValueError",.type "Exception",.type "BaseException",.type "object"] "ValueError.__new__"=true)
  (ZDC:findIn K (.ref ZH) "__getattribute__"=some (some (.builtin "BaseException.__getattribute__")))
  (ZDB:findIn K (.ref ZH) "__getattr__"=some none)
  (ZDF:findIn K (.ref ZH) "__class__"=some (some (.builtin "object.__class__")))
  (ZDA:mroIn K ZH (.type "object")=some true)
  (ZDK:mroIn K ZH (.type "BaseException")=some true)
  (ZDD:clsIn K ZH=some ZDE)
  (ZA2:excIn K Zv [.type "ValueError",.type "Exception",.type "BaseException",.type "object"] "ValueError.__new__"=true)
  (ZxB:findIn K (.ref Zv) "__getattribute__"=some (some (.builtin "BaseException.__getattribute__")))
  (Zxy:findIn K (.ref Zv) "__getattr__"=some none)
  (ZxK:findIn K (.ref Zv) "__class__"=some (some (.builtin "object.__class__")))
  (Zxv:mroIn K Zv (.type "object")=some true)
  (ZxO:mroIn K Zv (.type "BaseException")=some true)
  (ZxE:clsIn K Zv=some ZxH)
  (ZxL:excIn K Zp [.type "ValueError",.type "Exception",.type "BaseException",.type "object"] "ValueError.__new__"=true)
  (Zu0:findIn K (.ref Zp) "__getattribute__"=some (some (.builtin "BaseException.__getattribute__")))
  (ZuZ:findIn K (.ref Zp) "__getattr__"=some none)
  (Zu3:findIn K (.ref Zp) "__class__"=some (some (.builtin "object.__class__")))
  (ZuY:mroIn K Zp (.type "object")=some true)
  (Zu4:mroIn K Zp (.type "BaseException")=some true)
  (Zu1:clsIn K Zp=some Zu2)
  (ZA0:excIn K Zt [.type "ValueError",.type "Exception",.type "BaseException",.type "object"] "ValueError.__new__"=true)
  (Zxz:findIn K (.ref Zt) "__getattribute__"=some (some (.builtin "BaseException.__getattribute__")))
  (Zxw:findIn K (.ref Zt) "__getattr__"=some none)
  (ZxI:findIn K (.ref Zt) "__class__"=some (some (.builtin "object.__class__")))
  (Zxt:mroIn K Zt (.type "object")=some true)
  (ZxM:mroIn K Zt (.type "BaseException")=some true)
  (ZxC:clsIn K Zt=some ZxF)
  (ZA1:excIn K Zu [.type "ValueError",.type "Exception",.type "BaseException",.type "object"] "ValueError.__new__"=true)
  (ZxA:findIn K (.ref Zu) "__getattribute__"=some (some (.builtin "BaseException.__getattribute__")))
  (Zxx:findIn K (.ref Zu) "__getattr__"=some none)
  (ZxJ:findIn K (.ref Zu) "__class__"=some (some (.builtin "object.__class__")))
  (Zxu:mroIn K Zu (.type "object")=some true)
  (ZxN:mroIn K Zu (.type "BaseException")=some true)
  (ZxD:clsIn K Zu=some ZxG)
  (ZDH:excIn K Zz [.type "ValueError",.type "Exception",.type "BaseException",.type "object"] "ValueError.__new__"=true)
  (ZAL:findIn K (.ref Zz) "__getattribute__"=some (some (.builtin "BaseException.__getattribute__")))
  (ZAH:findIn K (.ref Zz) "__getattr__"=some none)
  (ZAX:findIn K (.ref Zz) "__class__"=some (some (.builtin "object.__class__")))
  (ZAD:mroIn K Zz (.type "object")=some true)
  (ZA4:mroIn K Zz (.type "BaseException")=some true)
  (ZAP:clsIn K Zz=some ZAT)
  (xgg:specialIn K (.builtin "object.__class__") "__get__"=some (some (.builtin "getset_descriptor.__get__")))
  (xtk:takesIn K (.builtin "object.__class__")=some true)
  (ZHS:findIn K (.ref Zaf) "__class__"=some (some (.builtin "object.__class__")))
  (ZHQ:mroIn K Zaf (.type "object")=some true)
  (ZHR:kitOne K (.ref Zaf) (.ref Zaf)=some true)
  (Znw:kitOne K (.ref Zy) (.ref Zy)=some true)
  (Zgr:kitOne K (.ref Zy) (.ref Zm)=some false)
  (Znz:kitOne K (.ref Zy) (.ref ZB)=some false)
  (Zny:kitOne K (.ref Zy) (.ref ZA)=some false)
  (Zqo:kitOne K (.ref Zy) (.ref ZH)=some false)
  (ZkQ:kitOne K (.ref Zy) (.ref Zv)=some false)
  (ZjL:kitOne K (.ref Zy) (.ref Zp)=some false)
  (ZkO:kitOne K (.ref Zy) (.ref Zt)=some false)
  (ZkP:kitOne K (.ref Zy) (.ref Zu)=some false)
  (Znx:kitOne K (.ref Zy) (.ref Zz)=some false)
  (ZEf:kitOne K (.ref Zy) (.ref Zs)=some true)
  (ZEb:kitOne K (.ref Zy) (.type "ValueError")=some true)
  (Zgt:kitOne K (.ref Zm) (.ref Zy)=some false)
  (Zd5:kitOne K (.ref Zm) (.ref Zm)=some true)
  (Zgw:kitOne K (.ref Zm) (.ref ZB)=some false)
  (Zgv:kitOne K (.ref Zm) (.ref ZA)=some false)
  (Zil:kitOne K (.ref Zm) (.ref ZH)=some false)
  (Zgc:kitOne K (.ref Zm) (.ref Zv)=some false)
  (ZeY:kitOne K (.ref Zm) (.ref Zp)=some false)
  (Zga:kitOne K (.ref Zm) (.ref Zt)=some false)
  (Zgb:kitOne K (.ref Zm) (.ref Zu)=some false)
  (Zgu:kitOne K (.ref Zm) (.ref Zz)=some false)
  (Zti:kitOne K (.ref Zm) (.ref Zs)=some true)
  (Zth:kitOne K (.ref Zm) (.type "ValueError")=some true)
  (ZnL:kitOne K (.ref ZB) (.ref Zy)=some false)
  (Zgy:kitOne K (.ref ZB) (.ref Zm)=some false)
  (ZnO:kitOne K (.ref ZB) (.ref ZB)=some true)
  (ZnN:kitOne K (.ref ZB) (.ref ZA)=some false)
  (Zqv:kitOne K (.ref ZB) (.ref ZH)=some false)
  (Zk0:kitOne K (.ref ZB) (.ref Zv)=some false)
  (ZjO:kitOne K (.ref ZB) (.ref Zp)=some false)
  (ZkY:kitOne K (.ref ZB) (.ref Zt)=some false)
  (ZkZ:kitOne K (.ref ZB) (.ref Zu)=some false)
  (ZnM:kitOne K (.ref ZB) (.ref Zz)=some false)
  (ZEi:kitOne K (.ref ZB) (.ref Zs)=some true)
  (ZEe:kitOne K (.ref ZB) (.type "ValueError")=some true)
  (ZnH:kitOne K (.ref ZA) (.ref Zy)=some false)
  (Zgx:kitOne K (.ref ZA) (.ref Zm)=some false)
  (ZnK:kitOne K (.ref ZA) (.ref ZB)=some false)
  (ZnJ:kitOne K (.ref ZA) (.ref ZA)=some true)
  (Zqu:kitOne K (.ref ZA) (.ref ZH)=some false)
  (ZkX:kitOne K (.ref ZA) (.ref Zv)=some false)
  (ZjN:kitOne K (.ref ZA) (.ref Zp)=some false)
  (ZkV:kitOne K (.ref ZA) (.ref Zt)=some false)
  (ZkW:kitOne K (.ref ZA) (.ref Zu)=some false)
  (ZnI:kitOne K (.ref ZA) (.ref Zz)=some false)
  (ZEh:kitOne K (.ref ZA) (.ref Zs)=some true)
  (ZEd:kitOne K (.ref ZA) (.type "ValueError")=some true)
  (Zqp:kitOne K (.ref ZH) (.ref Zy)=some false)
  (Zik:kitOne K (.ref ZH) (.ref Zm)=some false)
  (Zqs:kitOne K (.ref ZH) (.ref ZB)=some false)
  (Zqr:kitOne K (.ref ZH) (.ref ZA)=some false)
  (Zrf:kitOne K (.ref ZH) (.ref ZH)=some true)
  (ZnC:kitOne K (.ref ZH) (.ref Zv)=some false)
  (ZkR:kitOne K (.ref ZH) (.ref Zp)=some false)
  (ZnA:kitOne K (.ref ZH) (.ref Zt)=some false)
  (ZnB:kitOne K (.ref ZH) (.ref Zu)=some false)
  (Zqq:kitOne K (.ref ZH) (.ref Zz)=some false)
  (ZFG:kitOne K (.ref ZH) (.ref Zs)=some true)
  (ZFF:kitOne K (.ref ZH) (.type "ValueError")=some true)
  (ZkK:kitOne K (.ref Zv) (.ref Zy)=some false)
  (Zf9:kitOne K (.ref Zv) (.ref Zm)=some false)
  (ZkN:kitOne K (.ref Zv) (.ref ZB)=some false)
  (ZkM:kitOne K (.ref Zv) (.ref ZA)=some false)
  (Znv:kitOne K (.ref Zv) (.ref ZH)=some false)
  (ZjK:kitOne K (.ref Zv) (.ref Zv)=some true)
  (Zij:kitOne K (.ref Zv) (.ref Zp)=some false)
  (ZjI:kitOne K (.ref Zv) (.ref Zt)=some false)
  (ZjJ:kitOne K (.ref Zv) (.ref Zu)=some false)
  (ZkL:kitOne K (.ref Zv) (.ref Zz)=some false)
  (ZBp:kitOne K (.ref Zv) (.ref Zs)=some true)
  (ZBm:kitOne K (.ref Zv) (.type "ValueError")=some true)
  (Zjy:kitOne K (.ref Zp) (.ref Zy)=some false)
  (ZeX:kitOne K (.ref Zp) (.ref Zm)=some false)
  (ZjB:kitOne K (.ref Zp) (.ref ZB)=some false)
  (ZjA:kitOne K (.ref Zp) (.ref ZA)=some false)
  (ZkB:kitOne K (.ref Zp) (.ref ZH)=some false)
  (Zig:kitOne K (.ref Zp) (.ref Zv)=some false)
  (Zgq:kitOne K (.ref Zp) (.ref Zp)=some true)
  (Zie:kitOne K (.ref Zp) (.ref Zt)=some false)
  (Zif:kitOne K (.ref Zp) (.ref Zu)=some false)
  (Zjz:kitOne K (.ref Zp) (.ref Zz)=some false)
  (Zyp:kitOne K (.ref Zp) (.ref Zs)=some true)
  (Zyo:kitOne K (.ref Zp) (.type "ValueError")=some true)
  (ZkC:kitOne K (.ref Zt) (.ref Zy)=some false)
  (Zf7:kitOne K (.ref Zt) (.ref Zm)=some false)
  (ZkF:kitOne K (.ref Zt) (.ref ZB)=some false)
  (ZkE:kitOne K (.ref Zt) (.ref ZA)=some false)
  (Znt:kitOne K (.ref Zt) (.ref ZH)=some false)
  (ZjE:kitOne K (.ref Zt) (.ref Zv)=some false)
  (Zih:kitOne K (.ref Zt) (.ref Zp)=some false)
  (ZjC:kitOne K (.ref Zt) (.ref Zt)=some true)
  (ZjD:kitOne K (.ref Zt) (.ref Zu)=some false)
  (ZkD:kitOne K (.ref Zt) (.ref Zz)=some false)
  (ZBn:kitOne K (.ref Zt) (.ref Zs)=some true)
  (ZBk:kitOne K (.ref Zt) (.type "ValueError")=some true)
  (ZkG:kitOne K (.ref Zu) (.ref Zy)=some false)
  (Zf8:kitOne K (.ref Zu) (.ref Zm)=some false)
  (ZkJ:kitOne K (.ref Zu) (.ref ZB)=some false)
  (ZkI:kitOne K (.ref Zu) (.ref ZA)=some false)
  (Znu:kitOne K (.ref Zu) (.ref ZH)=some false)
  (ZjH:kitOne K (.ref Zu) (.ref Zv)=some false)
  (Zii:kitOne K (.ref Zu) (.ref Zp)=some false)
  (ZjF:kitOne K (.ref Zu) (.ref Zt)=some false)
  (ZjG:kitOne K (.ref Zu) (.ref Zu)=some true)
  (ZkH:kitOne K (.ref Zu) (.ref Zz)=some false)
  (ZBo:kitOne K (.ref Zu) (.ref Zs)=some true)
  (ZBl:kitOne K (.ref Zu) (.type "ValueError")=some true)
  (ZnD:kitOne K (.ref Zz) (.ref Zy)=some false)
  (Zgs:kitOne K (.ref Zz) (.ref Zm)=some false)
  (ZnG:kitOne K (.ref Zz) (.ref ZB)=some false)
  (ZnF:kitOne K (.ref Zz) (.ref ZA)=some false)
  (Zqt:kitOne K (.ref Zz) (.ref ZH)=some false)
  (ZkU:kitOne K (.ref Zz) (.ref Zv)=some false)
  (ZjM:kitOne K (.ref Zz) (.ref Zp)=some false)
  (ZkS:kitOne K (.ref Zz) (.ref Zt)=some false)
  (ZkT:kitOne K (.ref Zz) (.ref Zu)=some false)
  (ZnE:kitOne K (.ref Zz) (.ref Zz)=some true)
  (ZEg:kitOne K (.ref Zz) (.ref Zs)=some true)
  (ZEc:kitOne K (.ref Zz) (.type "ValueError")=some true)
  (Zva:typeIn K (.ref Zs)=some (.type "type"))
  (Zw1:subIn K (.ref Zs) (.type "BaseException")=some true)
  (Zs1:clsIn K Zs=some Zs2)
  (Zgl:subIn K (.ref Zy) (.ref Zs)=some true)
  (Zd3:subIn K (.ref Zm) (.ref Zs)=some true)
  (Zgo:subIn K (.ref ZB) (.ref Zs)=some true)
  (Zgn:subIn K (.ref ZA) (.ref Zs)=some true)
  (Zid:subIn K (.ref ZH) (.ref Zs)=some true)
  (Zf6:subIn K (.ref Zv) (.ref Zs)=some true)
  (ZeW:subIn K (.ref Zp) (.ref Zs)=some true)
  (Zf4:subIn K (.ref Zt) (.ref Zs)=some true)
  (Zf5:subIn K (.ref Zu) (.ref Zs)=some true)
  (Zgm:subIn K (.ref Zz) (.ref Zs)=some true)
  (Zdh:nsIn K mainGlobals "FEWEST_BLOCKS"=some (some (.int 16 Zgi)))
  (ZcW:nsIn K mainGlobals "MOST_BLOCKS"=some (some (.int 256 Zkj)))
  (ZbT:nsIn K mainGlobals "BLOCK_BYTES"=some (some (.int 64 Zkn)))
  (Zfc:nsIn K mainGlobals "FIRST_BLOCK"=some (some (.int 2 Zkk)))
  (Zh4:nsIn K mainGlobals "NO_BLOCK"=some (some (.int 0 Zt0)))
  (Zbk:nsIn K mainGlobals "ROW_BYTES"=some (some (.int 63 ZqW)))
  (ZdI:nsIn K mainGlobals "NAME_SIGNS"=some (some (.str "ABCDEFGHIJKLMNOPQRSTUVWXYZabcdefghijklmnopqrstuvwxyz0123456789._-" Zos)))
  (Zco:nsIn K mainGlobals "LONGEST_NAME"=some (some (.int 8 Zit)))
  (Zec:nsIn K mainGlobals "LONGEST_PATH"=some (some (.int 60 Zis)))
  (ZDj:nsIn K mainGlobals "ROOT"=some (some (.int 0 ZIK)))
  (Zfb:nsIn K mainGlobals "MOST_THINGS"=some (some (.int 32 Zki)))
  (Zeb:nsIn K mainGlobals "MOST_ENTRIES"=some (some (.int 40 Zir)))
  (ZGv:nsIn K mainGlobals "MARK"=some (some (.ref ZHc)))
  (ZJ5:K.lookup ZHc=some ⟨.type "tuple",ZKp,.seq #[.int 83 ZCS,.int 116 ZCR,.int 105 ZCQ,.int 108 ZCP] ZJ1,ZJy⟩)
  (Zfd:nsIn K mainGlobals "CHECK_PLACE"=some (some (.int 37 Zkm)))
  (ZjV:nsIn K mainGlobals "FILE_KIND"=some (some (.int 1 ZqX)))
  (ZcK:nsIn K mainGlobals "DIRECTORY_KIND"=some (some (.int 2 ZfS)))
  (Zed:nsIn K mainGlobals "CHECK_FACTOR"=some (some (.int 1000003 Ziu)))
  (ZcX:nsIn K mainGlobals "CHECK_PRIME"=some (some (.int 4294967291 Zkl)))
  (ZwV:nsIn K mainGlobals "TURNS"=some (some (.int 256 ZFg)))
  (Zgd:nsIn K mainGlobals "range"=some none)
  (ZHf:nsIn K mainGlobals "min"=some none)
  (ZcH:nsIn K mainGlobals "len"=some none)
  (ZuX:nsIn K mainGlobals "tuple"=some none)
  (Zjv:nsIn K mainGlobals "enumerate"=some none)
  (ZDz:nsIn K mainGlobals "all"=some none)
  (Zke:nsIn K mainGlobals "sorted"=some none)
  (Zxr:nsIn K mainGlobals "list"=some none)
  (Zxs:nsIn K mainGlobals "dict"=some none)
  (ZJg:nsIn K mainGlobals "sum"=some none)
  (ZJf:nsIn K mainGlobals "zip"=some none)
  (ZL:nsIn K mainGlobals "isinstance"=some none)
  (Zge:nsIn K mainGlobals "ValueError"=some none)
  (ZJh:nsIn K mainGlobals "ord"=some none)
  (ZJi:nsIn K mainGlobals "max"=some none)
  : ∃ fd:FuncData,(∀ (s:Shared) (v:Value),BindsTo s fd ⟨[v],[]⟩ [("_law_script",v)])∧∀ base:Heap,K.In base→base.Ns mainGlobals mg→FnOk l.prog w K mg base CX0 10 fa fd ["_law_script"] (ZHp K):=by
 have e:=hfa.symm.trans (mg_of X G ZL2)
 cases e
 let g:Gs:=⟨Zdj,fnS Zbj "__init__" "Disk.__init__" Zpq ZpA ZoE Zqg Zht ZpJ,
  ZcE,fnS ZbD "write" "Disk.write" Zl2 Zmq Zli Zne ZfJ ZmJ,
  Za9,fnS Zaz "barrier" "Disk.barrier" Zg0 Zhb ZgD ZhE Zdq Zhg,
  Zc1,fnS ZaV "block_count" "block_count" ZiU Zi2 ZiA Zjn Zek Zi9,
  ZdR,fnS Zbu "blocks_for" "blocks_for" ZlT Zmh Zk9 Zm5 ZfA ZmA,
  Zcq,fnS Zaa "free_numbers" "free_numbers" ZgX Zg8 ZgA ZhB Zdn Zhd,
  ZbW,fnS ZaY "__init__" "Chains.__init__" ZiX Zi5 ZiD Zjq Zen Zjc,
  ZcF,fnS ZbE "put" "Chains.put" Zl3 Zmr Zlj Znf ZfK ZmK,
  ZbV,fnS ZaX "take" "Chains.take" ZiW Zi4 ZiC Zjp Zem Zjb,
  Zcr,fnS Zay "chain_blocks" "chain_blocks" ZgY Zg9 ZgB ZhC Zdo Zhe,
  Zl7,fnS Zdb "is_name" "is_name" Zuv ZuA Zt9 ZuR Zn8 ZuC,
  Zl6,fnS Zda "is_path" "is_path" Zuu Zuz Zt8 ZuQ Zn7 ZuB,
  ZdL,fnS Zbp "path_names" "path_names" ZlN Zmb Zk3 ZmZ Zfu Zmu,
  Zcz,fnS Zby "__init__" "State.__init__" ZlX Zml Zld Zm9 ZfE ZmE,
  ZcY,fnS ZaT "first_state" "first_state" ZiR ZiZ Zix Zjk Zeh Zi6,
  Zc2,fnS ZaW "all_numbers" "all_numbers" ZiV Zi3 ZiB Zjo Zel Zja,
  Zh6,fnS Zc4 "is_thing" "is_thing" Zr7 Zsp Zrl ZsJ Zj1 Zsu,
  ZdN,fnS Zbq "least_free" "least_free" ZlP Zmd Zk5 Zm1 Zfw Zmw,
  Za0,fnS Z0 "check_directory" "check_directory" ZdG ZdT Zdz ZdY ZbX ZdV,
  ZDl,fnS Zt4 "walk" "walk" ZGl ZGQ ZFK ZG8 ZCe ZGW,
  Zav,fnS ZU "walk_to_directory" "walk_to_directory" ZcQ ZcR ZcO ZcT Za4 ZcS,
  ZdQ,fnS Zbt "check_path" "check_path" ZlS Zmg Zk8 Zm4 Zfz Zmz,
  Zbf,fnS Z6 "check_not_full" "check_not_full" ZeB ZeI Zes ZeQ Zch ZeJ,
  ZdP,fnS Zbs "free_place" "free_place" ZlR Zmf Zk7 Zm3 Zfy Zmy,
  Zff,fnS Zb3 "with_data" "with_data" Zpi Zps Zow Zp8 Zhl ZpB,
  Zcp,fnS Zax "with_entries" "with_entries" ZgW Zg7 Zgz ZhA Zdm Zhc,
  ZdJ,fnS Zbn "with_entry" "with_entry" ZlL Zl9 Zk1 ZmX Zfs Zms,
  ZDm,fnS Zt5 "made" "made" ZGm ZGR ZFL ZG9 ZCf ZGX,
  ZcA,fnS Zbz "__init__" "Image.__init__" ZlY Zmm Zle Zna ZfF ZmF,
  ZdM,fnS ZaL "name_codes" "name_codes" ZlO Zmc Zk4 Zm0 Zfv Zmv,
  ZcZ,fnS ZaU "entries_row" "entries_row" ZiS Zi0 Ziy Zjl Zei Zi7,
  ZdK,fnS Zbo "table_head" "table_head" ZlM Zma Zk2 ZmY Zft Zmt,
  Zh7,fnS Zc5 "image_of" "image_of" Zr8 Zsq Zrm ZsK Zj2 Zsv,
  Zh8,fnS Zc6 "check_of" "check_of" Zr9 Zsr Zrn ZsL Zj3 Zsw,
  Zc0,fnS Zap "check_bytes" "check_bytes" ZiT Zi1 Ziz Zjm Zej Zi8,
  ZqK,fnS ZhX "padded" "padded" Zzh ZzD Zyq Zz5 Zsy ZzG,
  ZdO,fnS Zbr "head_block" "head_block" ZlQ Zme Zk6 Zm2 Zfx Zmx,
  Zcy,fnS Zbx "__init__" "Store.__init__" ZlW Zmk Zlc Zm8 ZfD ZmD,
  Zaj,fnS Z1 "image_for" "Store.image_for" ZdH ZdU ZdA ZdZ ZbY ZdW,
  Zcx,fnS Zbw "save" "Store.save" ZlV Zmj Zlb Zm7 ZfC ZmC,
  Zfg,fnS Zb4 "new_store" "new_store" Zpj Zpt Zox Zp9 Zhm ZpC,
  ZcC,fnS ZbB "__init__" "Files.__init__" Zl0 Zmo Zlg Znc ZfH ZmH,
  ZcD,fnS ZbC "find" "Files.find" Zl1 Zmp Zlh Znd ZfI ZmI,
  ZcB,fnS ZbA "make" "Files.make" ZlZ Zmn Zlf Znb ZfG ZmG,
  ZO,fnS ZK "check_changeable" "Files.check_changeable" Za8 Zba Za6 Zbc Zae Zbb,
  ZaP,fnS Zag "turn_to" "Files.turn_to" ZfY ZfZ ZfU Zf2 ZcM Zf0,
  Zfh,fnS Zb5 "formatted" "formatted" Zpk Zpu Zoy Zqa Zhn ZpD,
  Zfm,fnS Zb9 "_law_cell" "_law_cell" Zpp Zpz ZoD Zqf Zhs ZpI,
  ZdS,fnS Zbv "_law_drawn" "_law_drawn" ZlU Zmi Zla Zm6 ZfB ZmB,
  Zfi,fnS Zb6 "_law_word" "_law_word" Zpl Zpv Zoz Zqb Zho ZpE,
  Zcs,fnS Zab "_law_is_name" "_law_is_name" ZgZ Zha ZgC ZhD Zdp Zhf,
  Zfj,fnS Zb7 "_law_tree" "_law_tree" Zpm Zpw ZoA Zqc Zhp ZpF,
  Zh9,fnS Zb8 "_law_due" "_law_due" Zsa Zss Zro ZsM Zj4 Zsx,
  Zfk,fnS Zbh "_law_told" "_law_told" Zpn Zpx ZoB Zqd Zhq ZpG,
  Zfl,fnS Zbi "_law_path" "_law_path" Zpo Zpy ZoC Zqe Zhr ZpH,
  fa,fnS ZD9 "law" "law" ZIY ZI2 ZIM ZI9 ZG2 ZI3,
  ZeS,
  ZaI,
  Zds,
  Zdt,
  Zbl,
  Zaf,
  Zy,
  Zm,
  ZB,
  ZA,
  ZH,
  Zv,
  Zp,
  Zt,
  Zu,
  Zz,
  Zs,
  Zgi,
  Zkj,
  Zkn,
  Zkk,
  Zt0,
  ZqW,
  Zos,
  Zit,
  Zis,
  ZIK,
  Zki,
  Zir,
  ZHc,
  Zkm,
  ZqX,
  ZfS,
  Ziu,
  Zkl,
  ZFg⟩
 have T:Tx K mg g:=⟨mg_of X G ZLR,
  mg_of X G ZIv,
  mg_of X G ZKm,
  mg_of X G ZKn,
  mg_of X G ZKl,
  mg_of X G ZKo,
  mg_of X G ZGG,
  mg_of X G ZwY,
  mg_of X G ZGJ,
  mg_of X G ZGI,
  mg_of X G ZIu,
  mg_of X G ZEI,
  mg_of X G ZB9,
  mg_of X G ZEG,
  mg_of X G ZEH,
  mg_of X G ZGH,
  mg_of X G ZzA,
  ⟨ZJN,ZKg,ZJK,ZJF⟩,
  ZbR,
  Zeu,
  ⟨ZFR,ZGs,ZFJ,ZFC⟩,
  Zar,
  Za7,
  ZV,
  ⟨ZHJ,ZIf,ZHD,ZHw⟩,
  Z8,
  ZG,
  ⟨ZHK,ZIg,ZHE,ZHx⟩,
  ZaA,
  ZcU,
  ⟨ZHI,ZIe,ZHC,ZHv⟩,
  Zan,
  ZbG,
  ZbF,
  Zac,
  ⟨ZHL,ZIh,ZHF,ZHy⟩,
  Zaq,
  Zcv,
  ZbQ,
  ZcV,
  Zl (st:=Zbj) ZrW ZsH Zr6,
  (Zl (st:=Zbj) ZrW ZsH Zr6).binds (ps:=["self","count"]) fun _ _ _ _ _ _ us hl=>match us,hl with | [_,_],_=>rfl,
  ⟨ZBM,ZCB,ZB5,ZKa⟩,
  Zl (st:=ZbD) Zo2 Zp1 ZgU,
  (Zl (st:=ZbD) Zo2 Zp1 ZgU).binds (ps:=["self","number","block"]) fun _ _ _ _ _ _ us hl=>match us,hl with | [_,_,_],_=>rfl,
  ⟨ZAn,Zzs,ZgU⟩,
  Zl (st:=Zaz) ZiM Zjh Zd9,
  (Zl (st:=Zaz) ZiM Zjh Zd9).binds (ps:=["self"]) fun _ _ _ _ _ _ us hl=>match us,hl with | [_],_=>rfl,
  ⟨ZtS,ZtJ,Zd9⟩,
  Zl (st:=ZaV) ZlB ZmP ZlI,
  (Zl (st:=ZaV) ZlB ZmP ZlI).binds (ps:=["disk"]) fun _ _ _ _ _ _ us hl=>match us,hl with | [_],_=>rfl,
  mg_of X G Zxc,
  Zl (st:=Zbu) ZoT ZpS Zpc,
  (Zl (st:=Zbu) ZoT ZpS Zpc).binds (ps:=["length"]) fun _ _ _ _ _ _ us hl=>match us,hl with | [_],_=>rfl,
  mg_of X G ZAe,
  Zl (st:=Zaa) ZiJ Zje ZiO,
  (Zl (st:=Zaa) ZiJ Zje ZiO).binds (ps:=["count","places"]) fun _ _ _ _ _ _ us hl=>match us,hl with | [_,_],_=>rfl,
  mg_of X G ZtP,
  Zl (st:=ZaY) ZlE ZmS ZlK,
  (Zl (st:=ZaY) ZlE ZmS ZlK).binds (ps:=["self","free","older"]) fun _ _ _ _ _ _ us hl=>match us,hl with | [_,_,_],_=>rfl,
  ⟨ZrI,Zxf,ZwS,ZGk⟩,
  Zl (st:=ZbE) Zo3 Zp2 ZgV,
  (Zl (st:=ZbE) Zo3 Zp2 ZgV).binds (ps:=["self","row"]) fun _ _ _ _ _ _ us hl=>match us,hl with | [_,_],_=>rfl,
  ⟨ZAo,Zzt,ZgV⟩,
  Zl (st:=ZaX) ZlD ZmR Ze9,
  (Zl (st:=ZaX) ZlD ZmR Ze9).binds (ps:=["self","many"]) fun _ _ _ _ _ _ us hl=>match us,hl with | [_,_],_=>rfl,
  ⟨Zxe,ZwR,Ze9⟩,
  Zl (st:=Zay) ZiK Zjf ZiP,
  (Zl (st:=Zay) ZiK Zjf ZiP).binds (ps:=["row","numbers"]) fun _ _ _ _ _ _ us hl=>match us,hl with | [_,_],_=>rfl,
  mg_of X G ZtQ,
  Zl (st:=Zdb) Zzd ZzO Zzg,
  (Zl (st:=Zdb) Zzd ZzO Zzg).binds (ps:=["text"]) fun _ _ _ _ _ _ us hl=>match us,hl with | [_],_=>rfl,
  mg_of X G ZHb,
  Zl (st:=Zda) Zzc ZzN Zzf,
  (Zl (st:=Zda) Zzc ZzN Zzf).binds (ps:=["text"]) fun _ _ _ _ _ _ us hl=>match us,hl with | [_],_=>rfl,
  mg_of X G ZHa,
  Zl (st:=Zbp) ZoN ZpM Zo6,
  (Zl (st:=Zbp) ZoN ZpM Zo6).binds (ps:=["path"]) fun _ _ _ _ _ _ us hl=>match us,hl with | [_],_=>rfl,
  mg_of X G Zz8,
  Zl (st:=Zby) ZoX ZpW Zpf,
  (Zl (st:=Zby) ZoX ZpW Zpf).binds (ps:=["self","data","entries"]) fun _ _ _ _ _ _ us hl=>match us,hl with | [_,_,_],_=>rfl,
  ⟨Zlt,ZAi,Zzn,ZH9⟩,
  Zl (st:=ZaT) Zly ZmM ZlF,
  (Zl (st:=ZaT) Zly ZmM ZlF).binds (ps:=[]) fun _ _ _ _ _ _ us hl=>match us,hl with | [],_=>rfl,
  mg_of X G Zw9,
  Zl (st:=ZaW) ZlC ZmQ ZlJ,
  (Zl (st:=ZaW) ZlC ZmQ ZlJ).binds (ps:=["state"]) fun _ _ _ _ _ _ us hl=>match us,hl with | [_],_=>rfl,
  mg_of X G Zxd,
  Zl (st:=Zc4) Zuk ZuK Zuq,
  (Zl (st:=Zc4) Zuk ZuK Zuq).binds (ps:=["state","number"]) fun _ _ _ _ _ _ us hl=>match us,hl with | [_,_],_=>rfl,
  mg_of X G ZET,
  Zl (st:=Zbq) ZoP ZpO Zo8,
  (Zl (st:=Zbq) ZoP ZpO Zo8).binds (ps:=["state"]) fun _ _ _ _ _ _ us hl=>match us,hl with | [_],_=>rfl,
  mg_of X G ZAa,
  Zl (st:=Z0) Zey ZeK ZeA,
  (Zl (st:=Z0) Zey ZeK ZeA).binds (ps:=["state","number"]) fun _ _ _ _ _ _ us hl=>match us,hl with | [_,_],_=>rfl,
  mg_of X G Zod,
  Zl (st:=Zt4) ZIS ZI6 ZIW,
  (Zl (st:=Zt4) ZIS ZI6 ZIW).binds (ps:=["state","names"]) fun _ _ _ _ _ _ us hl=>match us,hl with | [_,_],_=>rfl,
  mg_of X G ZL0,
  Zl (st:=ZU) Zde Zdr Zdf,
  (Zl (st:=ZU) Zde Zdr Zdf).binds (ps:=["state","path"]) fun _ _ _ _ _ _ us hl=>match us,hl with | [_,_],_=>rfl,
  mg_of X G Zj8,
  Zl (st:=Zbt) ZoS ZpR Zpb,
  (Zl (st:=Zbt) ZoS ZpR Zpb).binds (ps:=["path"]) fun _ _ _ _ _ _ us hl=>match us,hl with | [_],_=>rfl,
  mg_of X G ZAd,
  Zl (st:=Z6) ZfW Zf1 ZfX,
  (Zl (st:=Z6) ZfW Zf1 ZfX).binds (ps:=["state","directory"]) fun _ _ _ _ _ _ us hl=>match us,hl with | [_,_],_=>rfl,
  mg_of X G ZqD,
  Zl (st:=Zbs) ZoR ZpQ Zpa,
  (Zl (st:=Zbs) ZoR ZpQ Zpa).binds (ps:=["state","path"]) fun _ _ _ _ _ _ us hl=>match us,hl with | [_,_],_=>rfl,
  mg_of X G ZAc,
  Zl (st:=Zb3) ZrO Zsz ZrY,
  (Zl (st:=Zb3) ZrO Zsz ZrY).binds (ps:=["state","number","row"]) fun _ _ _ _ _ _ us hl=>match us,hl with | [_,_,_],_=>rfl,
  mg_of X G ZCt,
  Zl (st:=Zax) ZiI Zjd ZiN,
  (Zl (st:=Zax) ZiI Zjd ZiN).binds (ps:=["state","number","entries"]) fun _ _ _ _ _ _ us hl=>match us,hl with | [_,_,_],_=>rfl,
  mg_of X G ZtO,
  Zl (st:=Zbn) ZoL ZpK Zo4,
  (Zl (st:=Zbn) ZoL ZpK Zo4).binds (ps:=["state","directory","name","number"]) fun _ _ _ _ _ _ us hl=>match us,hl with | [_,_,_,_],_=>rfl,
  mg_of X G Zz6,
  Zl (st:=Zt5) ZIT ZI7 ZIX,
  (Zl (st:=Zt5) ZIT ZI7 ZIX).binds (ps:=["state","path","kind"]) fun _ _ _ _ _ _ us hl=>match us,hl with | [_,_,_],_=>rfl,
  mg_of X G ZL1,
  Zl (st:=Zbz) ZoY ZpX Zpg,
  (Zl (st:=Zbz) ZoY ZpX Zpg).binds (ps:=["self","places","heads"]) fun _ _ _ _ _ _ us hl=>match us,hl with | [_,_,_],_=>rfl,
  ⟨ZwG,ZAj,Zzo,ZIa⟩,
  Zl (st:=ZaL) ZoO ZpN Zo7,
  (Zl (st:=ZaL) ZoO ZpN Zo7).binds (ps:=["name"]) fun _ _ _ _ _ _ us hl=>match us,hl with | [_],_=>rfl,
  mg_of X G Zz9,
  Zl (st:=ZaU) Zlz ZmN ZlG,
  (Zl (st:=ZaU) Zlz ZmN ZlG).binds (ps:=["entries"]) fun _ _ _ _ _ _ us hl=>match us,hl with | [_],_=>rfl,
  mg_of X G Zxa,
  Zl (st:=Zbo) ZoM ZpL Zo5,
  (Zl (st:=Zbo) ZoM ZpL Zo5).binds (ps:=["state","chains"]) fun _ _ _ _ _ _ us hl=>match us,hl with | [_,_],_=>rfl,
  mg_of X G Zz7,
  Zl (st:=Zc5) Zul ZuL Zur,
  (Zl (st:=Zc5) Zul ZuL Zur).binds (ps:=["state","kept","free","older"]) fun _ _ _ _ _ _ us hl=>match us,hl with | [_,_,_,_],_=>rfl,
  mg_of X G ZEU,
  Zl (st:=Zc6) Zum ZuM Zus,
  (Zl (st:=Zc6) Zum ZuM Zus).binds (ps:=["row"]) fun _ _ _ _ _ _ us hl=>match us,hl with | [_],_=>rfl,
  mg_of X G ZEV,
  Zl (st:=Zap) ZlA ZmO ZlH,
  (Zl (st:=Zap) ZlA ZmO ZlH).binds (ps:=["rows"]) fun _ _ _ _ _ _ us hl=>match us,hl with | [_],_=>rfl,
  mg_of X G Zxb,
  Zl (st:=ZhX) ZDc ZDt ZDe,
  (Zl (st:=ZhX) ZDc ZDt ZDe).binds (ps:=["row","length"]) fun _ _ _ _ _ _ us hl=>match us,hl with | [_,_],_=>rfl,
  mg_of X G ZII,
  Zl (st:=Zbr) ZoQ ZpP Zo9,
  (Zl (st:=Zbr) ZoQ ZpP Zo9).binds (ps:=["image","turn"]) fun _ _ _ _ _ _ us hl=>match us,hl with | [_,_],_=>rfl,
  mg_of X G ZAb,
  Zl (st:=Zbx) ZoW ZpV Zpe,
  (Zl (st:=Zbx) ZoW ZpV Zpe).binds (ps:=["self","disk","slot","turn","synced"]) fun _ _ _ _ _ _ us hl=>match us,hl with | [_,_,_,_,_],_=>rfl,
  ⟨ZwF,ZAh,Zzm,ZH8⟩,
  Zl (st:=Z1) Zez ZeL Zce,
  (Zl (st:=Z1) Zez ZeL Zce).binds (ps:=["self","state","kept"]) fun _ _ _ _ _ _ us hl=>match us,hl with | [_,_,_],_=>rfl,
  ⟨Zoe,Zn1,Zce⟩,
  Zl (st:=Zbw) ZoV ZpU ZgR,
  (Zl (st:=Zbw) ZoV ZpU ZgR).binds (ps:=["self","image"]) fun _ _ _ _ _ _ us hl=>match us,hl with | [_,_],_=>rfl,
  ⟨ZAg,Zzl,ZgR⟩,
  Zl (st:=Zb4) ZrP ZsA ZrZ,
  (Zl (st:=Zb4) ZrP ZsA ZrZ).binds (ps:=["disk"]) fun _ _ _ _ _ _ us hl=>match us,hl with | [_],_=>rfl,
  mg_of X G ZCu,
  Zl (st:=ZbB) Zo0 ZpZ Zph,
  (Zl (st:=ZbB) Zo0 ZpZ Zph).binds (ps:=["self","state","kept","store","image"]) fun _ _ _ _ _ _ us hl=>match us,hl with | [_,_,_,_,_],_=>rfl,
  ⟨ZwH,ZAl,Zzq,ZIb⟩,
  Zl (st:=ZbC) Zo1 Zp0 ZgT,
  (Zl (st:=ZbC) Zo1 Zp0 ZgT).binds (ps:=["self","path"]) fun _ _ _ _ _ _ us hl=>match us,hl with | [_,_],_=>rfl,
  ⟨ZAm,Zzr,ZgT⟩,
  Zl (st:=ZbA) ZoZ ZpY ZgS,
  (Zl (st:=ZbA) ZoZ ZpY ZgS).binds (ps:=["self","path","kind"]) fun _ _ _ _ _ _ us hl=>match us,hl with | [_,_,_],_=>rfl,
  ⟨ZAk,Zzp,ZgS⟩,
  Zl (st:=ZK) ZbH ZbI Zai,
  (Zl (st:=ZK) ZbH ZbI Zai).binds (ps:=["self"]) fun _ _ _ _ _ _ us hl=>match us,hl with | [_],_=>rfl,
  ⟨ZeR,ZeC,Zai⟩,
  Zl (st:=Zag) ZgQ Zhu Zdg,
  (Zl (st:=Zag) ZgQ Zhu Zdg).binds (ps:=["self","state","kept"]) fun _ _ _ _ _ _ us hl=>match us,hl with | [_,_,_],_=>rfl,
  ⟨ZsN,Zsh,Zdg⟩,
  Zl (st:=Zb5) ZrQ ZsB Zr0,
  (Zl (st:=Zb5) ZrQ ZsB Zr0).binds (ps:=["disk"]) fun _ _ _ _ _ _ us hl=>match us,hl with | [_],_=>rfl,
  mg_of X G ZCv,
  Zl (st:=Zb9) ZrV ZsG Zr5,
  (Zl (st:=Zb9) ZrV ZsG Zr5).binds (ps:=["_law_script","_law_k"]) fun _ _ _ _ _ _ us hl=>match us,hl with | [_,_],_=>rfl,
  mg_of X G ZCA,
  Zl (st:=Zbv) ZoU ZpT Zpd,
  (Zl (st:=Zbv) ZoU ZpT Zpd).binds (ps:=["_law_cell_here","_law_k"]) fun _ _ _ _ _ _ us hl=>match us,hl with | [_,_],_=>rfl,
  mg_of X G ZAf,
  Zl (st:=Zb6) ZrR ZsC Zr1,
  (Zl (st:=Zb6) ZrR ZsC Zr1).binds (ps:=["_law_e"]) fun _ _ _ _ _ _ us hl=>match us,hl with | [_],_=>rfl,
  mg_of X G ZCw,
  Zl (st:=Zab) ZiL Zjg ZiQ,
  (Zl (st:=Zab) ZiL Zjg ZiQ).binds (ps:=["_law_name"]) fun _ _ _ _ _ _ us hl=>match us,hl with | [_],_=>rfl,
  mg_of X G ZtR,
  Zl (st:=Zb7) ZrS ZsD Zr2,
  (Zl (st:=Zb7) ZrS ZsD Zr2).binds (ps:=[]) fun _ _ _ _ _ _ us hl=>match us,hl with | [],_=>rfl,
  mg_of X G ZCx,
  Zl (st:=Zb8) Zun ZuN Zut,
  (Zl (st:=Zb8) Zun ZuN Zut).binds (ps:=["_law_path_here"]) fun _ _ _ _ _ _ us hl=>match us,hl with | [_],_=>rfl,
  mg_of X G ZEW,
  Zl (st:=Zbh) ZrT ZsE Zr3,
  (Zl (st:=Zbh) ZrT ZsE Zr3).binds (ps:=["_law_files","_law_path_here"]) fun _ _ _ _ _ _ us hl=>match us,hl with | [_,_],_=>rfl,
  mg_of X G ZCy,
  Zl (st:=Zbi) ZrU ZsF Zr4,
  (Zl (st:=Zbi) ZrU ZsF Zr4).binds (ps:=["_law_cell_here","_law_more"]) fun _ _ _ _ _ _ us hl=>match us,hl with | [_,_],_=>rfl,
  mg_of X G ZCz,
  Zl (st:=ZD9) ZLu ZLW ZLC,
  (Zl (st:=ZD9) ZLu ZLW ZLC).binds (ps:=["_law_script"]) fun _ _ _ _ _ _ us hl=>match us,hl with | [_],_=>rfl,
  mg_of X G ZL2,
  ⟨ZDG⟩,
  ⟨Zs3⟩,
  ⟨ZDJ⟩,
  ⟨ZDI⟩,
  ⟨ZE0⟩,
  ⟨ZA2⟩,
  ⟨ZxL⟩,
  ⟨ZA0⟩,
  ⟨ZA1⟩,
  ⟨ZDH⟩,
  ⟨ZHS,xgg,xtk,ZHQ,ZHR⟩,
  fun r=>by cases r with | noThing=>exact ⟨ZAK,ZAG,ZAW,ZAC,ZA3,congrArg Option.isSome ZAO,xgg,xtk⟩ | noDirectory=>exact ⟨ZqP,ZqO,ZqS,ZqN,ZqT,congrArg Option.isSome ZqQ,xgg,xtk⟩ | badName=>exact ⟨ZAN,ZAJ,ZAZ,ZAF,ZA6,congrArg Option.isSome ZAR,xgg,xtk⟩ | isThere=>exact ⟨ZAM,ZAI,ZAY,ZAE,ZA5,congrArg Option.isSome ZAQ,xgg,xtk⟩ | noRoom=>exact ⟨ZDC,ZDB,ZDF,ZDA,ZDK,congrArg Option.isSome ZDD,xgg,xtk⟩ | notEmpty=>exact ⟨ZxB,Zxy,ZxK,Zxv,ZxO,congrArg Option.isSome ZxE,xgg,xtk⟩ | wrongKind=>exact ⟨Zu0,ZuZ,Zu3,ZuY,Zu4,congrArg Option.isSome Zu1,xgg,xtk⟩ | tooGreat=>exact ⟨Zxz,Zxw,ZxI,Zxt,ZxM,congrArg Option.isSome ZxC,xgg,xtk⟩ | readOnly=>exact ⟨ZxA,Zxx,ZxJ,Zxu,ZxN,congrArg Option.isSome ZxD,xgg,xtk⟩ | noFiles=>exact ⟨ZAL,ZAH,ZAX,ZAD,ZA4,congrArg Option.isSome ZAP,xgg,xtk⟩,
  fun r u=>by cases r with | noThing=>(cases u with | noThing=>exact Znw | noDirectory=>exact Zgr | badName=>exact Znz | isThere=>exact Zny | noRoom=>exact Zqo | notEmpty=>exact ZkQ | wrongKind=>exact ZjL | tooGreat=>exact ZkO | readOnly=>exact ZkP | noFiles=>exact Znx) | noDirectory=>(cases u with | noThing=>exact Zgt | noDirectory=>exact Zd5 | badName=>exact Zgw | isThere=>exact Zgv | noRoom=>exact Zil | notEmpty=>exact Zgc | wrongKind=>exact ZeY | tooGreat=>exact Zga | readOnly=>exact Zgb | noFiles=>exact Zgu) | badName=>(cases u with | noThing=>exact ZnL | noDirectory=>exact Zgy | badName=>exact ZnO | isThere=>exact ZnN | noRoom=>exact Zqv | notEmpty=>exact Zk0 | wrongKind=>exact ZjO | tooGreat=>exact ZkY | readOnly=>exact ZkZ | noFiles=>exact ZnM) | isThere=>(cases u with | noThing=>exact ZnH | noDirectory=>exact Zgx | badName=>exact ZnK | isThere=>exact ZnJ | noRoom=>exact Zqu | notEmpty=>exact ZkX | wrongKind=>exact ZjN | tooGreat=>exact ZkV | readOnly=>exact ZkW | noFiles=>exact ZnI) | noRoom=>(cases u with | noThing=>exact Zqp | noDirectory=>exact Zik | badName=>exact Zqs | isThere=>exact Zqr | noRoom=>exact Zrf | notEmpty=>exact ZnC | wrongKind=>exact ZkR | tooGreat=>exact ZnA | readOnly=>exact ZnB | noFiles=>exact Zqq) | notEmpty=>(cases u with | noThing=>exact ZkK | noDirectory=>exact Zf9 | badName=>exact ZkN | isThere=>exact ZkM | noRoom=>exact Znv | notEmpty=>exact ZjK | wrongKind=>exact Zij | tooGreat=>exact ZjI | readOnly=>exact ZjJ | noFiles=>exact ZkL) | wrongKind=>(cases u with | noThing=>exact Zjy | noDirectory=>exact ZeX | badName=>exact ZjB | isThere=>exact ZjA | noRoom=>exact ZkB | notEmpty=>exact Zig | wrongKind=>exact Zgq | tooGreat=>exact Zie | readOnly=>exact Zif | noFiles=>exact Zjz) | tooGreat=>(cases u with | noThing=>exact ZkC | noDirectory=>exact Zf7 | badName=>exact ZkF | isThere=>exact ZkE | noRoom=>exact Znt | notEmpty=>exact ZjE | wrongKind=>exact Zih | tooGreat=>exact ZjC | readOnly=>exact ZjD | noFiles=>exact ZkD) | readOnly=>(cases u with | noThing=>exact ZkG | noDirectory=>exact Zf8 | badName=>exact ZkJ | isThere=>exact ZkI | noRoom=>exact Znu | notEmpty=>exact ZjH | wrongKind=>exact Zii | tooGreat=>exact ZjF | readOnly=>exact ZjG | noFiles=>exact ZkH) | noFiles=>(cases u with | noThing=>exact ZnD | noDirectory=>exact Zgs | badName=>exact ZnG | isThere=>exact ZnF | noRoom=>exact Zqt | notEmpty=>exact ZkU | wrongKind=>exact ZjM | tooGreat=>exact ZkS | readOnly=>exact ZkT | noFiles=>exact ZnE),
  fun r=>by cases r with | noThing=>exact ZEf | noDirectory=>exact Zti | badName=>exact ZEi | isThere=>exact ZEh | noRoom=>exact ZFG | notEmpty=>exact ZBp | wrongKind=>exact Zyp | tooGreat=>exact ZBn | readOnly=>exact ZBo | noFiles=>exact ZEg,
  fun r=>by cases r with | noThing=>exact ZEb | noDirectory=>exact Zth | badName=>exact ZEe | isThere=>exact ZEd | noRoom=>exact ZFF | notEmpty=>exact ZBm | wrongKind=>exact Zyo | tooGreat=>exact ZBk | readOnly=>exact ZBl | noFiles=>exact ZEc,
  ⟨Zva,congrArg Option.isSome Zs1,Zw1⟩,
  fun r=>by cases r with | noThing=>exact Zgl | noDirectory=>exact Zd3 | badName=>exact Zgo | isThere=>exact Zgn | noRoom=>exact Zid | notEmpty=>exact Zf6 | wrongKind=>exact ZeW | tooGreat=>exact Zf4 | readOnly=>exact Zf5 | noFiles=>exact Zgm,
  mg_of X G Zdh,
  mg_of X G ZcW,
  mg_of X G ZbT,
  mg_of X G Zfc,
  mg_of X G Zh4,
  mg_of X G Zbk,
  mg_of X G ZdI,
  mg_of X G Zco,
  mg_of X G Zec,
  mg_of X G ZDj,
  mg_of X G Zfb,
  mg_of X G Zeb,
  mg_of X G ZGv,
  fun H=>.inr ⟨_,_,_,ZJ5,rfl,rfl,(by show 4≤sizeLine;decide),(.cons ⟨ZCS,rfl⟩ (.cons ⟨ZCR,rfl⟩ (.cons ⟨ZCQ,rfl⟩ (.cons ⟨ZCP,rfl⟩ .nil))))⟩,
  mg_of X G Zfd,
  mg_of X G ZjV,
  mg_of X G ZcK,
  mg_of X G Zed,
  mg_of X G ZcX,
  mg_of X G ZwV,
  mg_none_of X G Zgd,
  mg_none_of X G ZHf,
  mg_none_of X G ZcH,
  mg_none_of X G ZuX,
  mg_none_of X G Zjv,
  mg_none_of X G ZDz,
  mg_none_of X G Zke,
  mg_none_of X G Zxr,
  mg_none_of X G Zxs,
  mg_none_of X G ZJg,
  mg_none_of X G ZJf,
  mg_none_of X G ZL,
  mg_none_of X G Zge,
  mg_none_of X G ZJh,
  mg_none_of X G ZJi⟩
 refine ⟨g.ZH6,fun s v=>.of_eq rfl,fun base _ _=>?_⟩
 exact ZLo T
theorem walk {l:OpenLaw} {q:Program} {loose:List Str} {XP:(Str→Option Value)→Heap→Prop} {YP:World→Heap→Prop} {d:DefRec} {K:Params→Frag} (hn:l.most=some 63) (hdf:d.params.defaults=[])
  (hY:∀ (w:World) (h:Heap),YP w h→(K w.params).In h)
  (F:∀ (w:World) (mg:Str→Option Value) (fa:Addr) (h:Heap),(K w.params).In h→h.Ns mainGlobals mg→mg d.name=some (.ref fa)→
   ∃ fd:FuncData,(∀ (s:Shared) (u:Value),BindsTo s fd ⟨[u],[]⟩ [("_law_script",u)])∧∀ base:Heap,(K w.params).In base→base.Ns mainGlobals mg→FnOk l.prog w (K w.params) mg base CX0 10 fa fd ["_law_script"] (ZHp (K w.params))) :
  WalkO q loose XP YP l.row.toRowW d [] (fun f vs=>PySem.call f vs):=
 L2.ZJk (n:=63) (k:=10) (x:="_law_script") (CX:=fun _=>CX0) (sp:=fun w=>ZHp (K w.params)) hn (by decide) hdf ⟨rfl,by decide,by decide⟩ hY F (fun _ _ a ns hl _ hS=>⟨a,ns,rfl,hS,hl,fun _=>rfl⟩) fun _ _ _ _ _ z=>z
end KS
namespace PySem.W.Fast
abbrev tw14670189776454554624:=0
abbrev tw2182912669747653664:=0
abbrev tw8555090948205963296:=0
abbrev tw14106785786468905056:=0
abbrev tw5192892970928335040:=0
abbrev tw10359219239023304000:=0
abbrev tw18417486884323785120:=0
abbrev tw6114133009841916384:=0
abbrev tw8182939469692116480:=0
abbrev tw2713170928477588096:=0
abbrev tw9237820411265234560:=0
abbrev tw8015737426450308800:=0
abbrev tw3860246322054656768:=0
abbrev tw11031358700673346304:=0
abbrev tw7534314091859358464:=0
abbrev tw179522122067761984:=0
abbrev tw7182480161670205312:=0
abbrev tw15838938182378058624:=0
abbrev tw3581694846204105632:=0
abbrev tw13566640513297092609:=0
abbrev tw7642915232002227201:=0
abbrev tw811979504145358849:=0
abbrev tw9297193946566541377:=0
abbrev tw3552261510351718497:=0
abbrev tw6683814424450521185:=0
abbrev tw2541477511850509441:=0
abbrev tw15185238847072832641:=0
abbrev tw8632467599675040993:=0
abbrev tw13706168577938518305:=0
abbrev tw12883572348563942753:=0
abbrev tw1199607049673041281:=0
abbrev tw5992607445914882497:=0
abbrev tw2132093007851524545:=0
abbrev tw13030075521858278849:=0
abbrev tw764377792928828897:=0
abbrev tw6518943803655604769:=0
abbrev tw5439510483258093089:=0
abbrev tw12655244953773136481:=0
abbrev tw10557266058254345825:=0
abbrev tw14437635584705530625:=0
abbrev tw5165603216367335169:=0
abbrev tw8664779881632824065:=0
abbrev tw8090743957719910177:=0
abbrev tw14787984097145701185:=0
abbrev tw6910978174750640961:=0
abbrev tw1199328462229250977:=0
abbrev tw14733241712951304161:=0
abbrev tw11960093224372767746:=0
abbrev tw10781187946862414914:=0
abbrev tw12389094345154183330:=0
abbrev tw13678260414583635170:=0
abbrev tw7369585458043559202:=0
abbrev tw17815985798610960738:=0
abbrev tw6943224178075390306:=0
abbrev tw6089784225609009538:=0
abbrev tw17174184605745358210:=0
abbrev tw12783223825115540898:=0
abbrev tw4196398917031725602:=0
abbrev tw16508659952209782306:=0
abbrev tw7940515716936192578:=0
abbrev tw4607854233030870626:=0
abbrev tw14748301558669585026:=0
abbrev tw4284430888815912578:=0
abbrev tw12658997634576576162:=0
abbrev tw5886459891767610082:=0
abbrev tw900398842330656482:=0
abbrev tw8864499966741214946:=0
abbrev tw1431386865377135362:=0
abbrev tw3110165964468690722:=0
abbrev tw3177045926717898530:=0
abbrev tw8351373550774210370:=0
abbrev tw721799251969602402:=0
abbrev tw14507453181524967394:=0
abbrev tw1637754644046010403:=0
abbrev tw3976991925015896163:=0
abbrev tw10293889734695770275:=0
abbrev tw12246443402442097859:=0
abbrev tw13773759583255977155:=0
abbrev tw5458802920639780067:=0
abbrev tw13692165288687655139:=0
abbrev tw16512393091180892419:=0
abbrev tw451557736629212451:=0
abbrev tw7412522997419117987:=0
abbrev tw16570227078345308579:=0
abbrev tw13158771934232185251:=0
abbrev tw17655112578109693379:=0
abbrev tw16319777270661358019:=0
abbrev tw3968421128160855523:=0
abbrev tw837264482921500131:=0
abbrev tw8816440240709393923:=0
abbrev tw2395956871411346947:=0
abbrev tw7636919832140044931:=0
abbrev tw10232758345507238595:=0
abbrev tw6114646939767046915:=0
abbrev tw6043727672987381507:=0
abbrev tw11125358574035401475:=0
abbrev tw11730576685364618051:=0
abbrev tw13022174849964473187:=0
abbrev tw5910690883569277859:=0
abbrev tw9217442540105516995:=0
abbrev tw12937287661855205347:=0
abbrev tw14241245750904605700:=0
abbrev tw9489519575545055268:=0
abbrev tw2247093744692762724:=0
abbrev tw232934924920902820:=0
abbrev tw7507979972189767876:=0
abbrev tw15457525193865942244:=0
abbrev tw5304574302907127012:=0
abbrev tw13544392402786556228:=0
abbrev tw10672551122966564228:=0
abbrev tw7403884190022527396:=0
abbrev tw11019598172032283044:=0
abbrev tw452661132507611652:=0
abbrev tw9440681038383727108:=0
abbrev tw17940645260149025284:=0
abbrev tw9610183634342257220:=0
abbrev tw3376081372509176484:=0
abbrev tw14663072632946602660:=0
abbrev tw17781352058664792772:=0
abbrev tw7281450781671127844:=0
abbrev tw15061275308080532292:=0
abbrev tw7773316973342858116:=0
abbrev tw10214704958124411780:=0
abbrev tw796420209890443236:=0
abbrev tw4000391113762674660:=0
abbrev tw8385633183099012197:=0
abbrev tw3787592055565670501:=0
abbrev tw17121768658441828485:=0
abbrev tw8056631172619235525:=0
abbrev tw13409958492823962853:=0
abbrev tw17398376677905043717:=0
abbrev tw12427198647482619141:=0
abbrev tw6483362943522887941:=0
abbrev tw12617436499311751429:=0
abbrev tw13337402930440542565:=0
abbrev tw6471541246267214181:=0
abbrev tw11550383789379909989:=0
abbrev tw6703191514312897925:=0
abbrev tw2088343886564649381:=0
abbrev tw11574111813329606085:=0
abbrev tw18352762589623348709:=0
abbrev tw11188544063193115141:=0
abbrev tw16945181374001484325:=0
abbrev tw1321481865713785381:=0
abbrev tw13454301333610669605:=0
abbrev tw13789487743734677157:=0
abbrev tw13284657218247457541:=0
abbrev tw8238857908764619525:=0
abbrev tw6401178548108084037:=0
abbrev tw11070483634609427301:=0
abbrev tw1951984407038007173:=0
abbrev tw6459475576514756485:=0
abbrev tw3202856500363480965:=0
abbrev tw11103644506353220646:=0
abbrev tw18437330709748187238:=0
abbrev tw16480716621373657190:=0
abbrev tw17592417004545655974:=0
abbrev tw8489773721379956902:=0
abbrev tw10117031907891898598:=0
abbrev tw1058372764344868166:=0
abbrev tw16834774406063331686:=0
abbrev tw897999680158553478:=0
abbrev tw6153424928321975750:=0
abbrev tw6580962912245652998:=0
abbrev tw11460609782333852166:=0
abbrev tw5935354574515756550:=0
abbrev tw2224778317526814246:=0
abbrev tw8460037105610989126:=0
abbrev tw933138925769108038:=0
abbrev tw6485501386762899014:=0
abbrev tw14962144846016902758:=0
abbrev tw14918681969798790790:=0
abbrev tw15294758208956951174:=0
abbrev tw3176618866576982726:=0
abbrev tw7936619936914235078:=0
abbrev tw12028384319521279750:=0
abbrev tw13107679037627813670:=0
abbrev tw14015460796172356454:=0
abbrev tw986523427260069830:=0
abbrev tw14116110138557190086:=0
abbrev tw1139079193100107750:=0
abbrev tw16432467005074669607:=0
abbrev tw7805652360014273607:=0
abbrev tw6238232308193771623:=0
abbrev tw13093220402894190791:=0
abbrev tw3581881028827246791:=0
abbrev tw2025993311543212423:=0
abbrev tw13989825518060915111:=0
abbrev tw3195547214161887687:=0
abbrev tw5965401330685542919:=0
abbrev tw5223314505885704743:=0
abbrev tw1181206990891634343:=0
abbrev tw348447594061799111:=0
abbrev tw11486267543190213447:=0
abbrev tw13137181654141245351:=0
abbrev tw10176787801919284135:=0
abbrev tw17340442937588101063:=0
abbrev tw1884707705012028391:=0
abbrev tw14733833847876929511:=0
abbrev tw16164115554198637543:=0
abbrev tw16952415534702563368:=0
abbrev tw8699283816789431336:=0
abbrev tw15983496356339667080:=0
abbrev tw10053760034706236584:=0
abbrev tw13938913882431085736:=0
abbrev tw4585140396456132872:=0
abbrev tw3401470708050543944:=0
abbrev tw4485663360582238600:=0
abbrev tw16740328055299431880:=0
abbrev tw718884529599024616:=0
abbrev tw17985635441983188456:=0
abbrev tw5023156678952726024:=0
abbrev tw14294684998966097416:=0
abbrev tw16702439952700326408:=0
abbrev tw1007561883619289640:=0
abbrev tw5096182917782132296:=0
abbrev tw2117721263258698344:=0
abbrev tw2422090102398661224:=0
abbrev tw1993251940271896168:=0
abbrev tw12536540813632156392:=0
abbrev tw7054856566253527816:=0
abbrev tw961411064003583816:=0
abbrev tw16540485609851742056:=0
abbrev tw11659678197878766472:=0
abbrev tw7785088320682834856:=0
abbrev tw5799235917702431720:=0
abbrev tw14798203932835978216:=0
abbrev tw3516382939749826536:=0
abbrev tw2412427555730803688:=0
abbrev tw2346452818478937097:=0
abbrev tw4756812315592014921:=0
abbrev tw5078681713867125865:=0
abbrev tw1474986423859335305:=0
abbrev tw15424301019367167113:=0
abbrev tw4249209294046567689:=0
abbrev tw14650570471925297417:=0
abbrev tw16618997527100340521:=0
abbrev tw3862866651463638409:=0
abbrev tw4940500511022218633:=0
abbrev tw7898174820351279561:=0
abbrev tw4928741939524797929:=0
abbrev tw13094556468849562121:=0
abbrev tw8390016259344979529:=0
abbrev tw6202823414845713065:=0
abbrev tw1227647685523626665:=0
abbrev tw6314509763806297833:=0
abbrev tw15017657886348378889:=0
abbrev tw11987809248002795273:=0
abbrev tw16696465613760084777:=0
abbrev tw4625330807018702729:=0
abbrev tw227929964644876169:=0
abbrev tw5584908517154997161:=0
abbrev tw12813408665202483145:=0
abbrev tw3578876409211589674:=0
abbrev tw13044764984346814538:=0
abbrev tw10008847416605338698:=0
abbrev tw13946612441356047498:=0
abbrev tw16092911372054371466:=0
abbrev tw13291085811034202282:=0
abbrev tw3064502152337241258:=0
abbrev tw13626704967010092266:=0
abbrev tw16314667909795999978:=0
abbrev tw5403057309150873962:=0
abbrev tw7192662183539901994:=0
abbrev tw4314534555470599754:=0
abbrev tw17184944803056938602:=0
abbrev tw2529241056129669898:=0
abbrev tw9143383597564072778:=0
abbrev tw8828066650291602250:=0
abbrev tw14600351759334772586:=0
abbrev tw14016952537781805930:=0
abbrev tw2963521062112183146:=0
abbrev tw11234488943994727306:=0
abbrev tw10571076089467307946:=0
abbrev tw8388014616730103786:=0
abbrev tw6139077596780069899:=0
abbrev tw17671876641660604427:=0
abbrev tw8604947766282007595:=0
abbrev tw120676747494711339:=0
abbrev tw12796056516727367723:=0
abbrev tw3984267897452329003:=0
abbrev tw10095359774966689867:=0
abbrev tw10894846885531208779:=0
abbrev tw6013337495001985099:=0
abbrev tw2399868664820257899:=0
abbrev tw4758126345010969707:=0
abbrev tw12051111046081289419:=0
abbrev tw7488992594225907019:=0
abbrev tw16681433634022928715:=0
abbrev tw8985949469021408683:=0
abbrev tw4105293537438897675:=0
abbrev tw2037574915293666827:=0
abbrev tw873131736697194027:=0
abbrev tw5865545860080342635:=0
abbrev tw1349215110886243947:=0
abbrev tw2799535244146777739:=0
abbrev tw3745532313592886955:=0
abbrev tw16706422256768678571:=0
abbrev tw8351464790601686763:=0
abbrev tw9339902670985463563:=0
abbrev tw8480034643297543019:=0
abbrev tw9221435934635455371:=0
abbrev tw5356323734779830219:=0
abbrev tw3530902132849860620:=0
abbrev tw11007510152063369324:=0
abbrev tw14757521515814280332:=0
abbrev tw7356650807200055532:=0
abbrev tw18346451158514861292:=0
abbrev tw16510896144650770700:=0
abbrev tw8130861753576360204:=0
abbrev tw13369670268126077228:=0
abbrev tw4642466634318781772:=0
abbrev tw9412571683670266316:=0
abbrev tw3801524510302576108:=0
abbrev tw9753198155660283372:=0
abbrev tw13861168580534653452:=0
abbrev tw11703388218117349900:=0
abbrev tw1111247715773914700:=0
abbrev tw14986780084318701228:=0
abbrev tw2390807194878185132:=0
abbrev tw10387789616681844460:=0
abbrev tw3701371988534321996:=0
abbrev tw982289917244965740:=0
abbrev tw13248441859147400044:=0
abbrev tw5206242451114078060:=0
abbrev tw12281696067377264556:=0
abbrev tw18443713901071727564:=0
abbrev tw12359115497083734029:=0
abbrev tw14278259738173653069:=0
abbrev tw9070299530664603757:=0
abbrev tw10079302668630521037:=0
abbrev tw5774991308237640941:=0
abbrev tw7829005114216390925:=0
abbrev tw17021777508299986189:=0
abbrev tw9508896029606347053:=0
abbrev tw12000471289312924013:=0
abbrev tw3498673503618326925:=0
abbrev tw1322519846833191309:=0
abbrev tw752008849793236397:=0
abbrev tw11358212410149108173:=0
abbrev tw10249668928598799853:=0
abbrev tw5818101742082982413:=0
abbrev tw4903758619179485837:=0
abbrev tw1593698346102108813:=0
abbrev tw3584413515036787373:=0
abbrev tw183112471129056973:=0
abbrev tw15331726471247379181:=0
abbrev tw12561065412702838541:=0
abbrev tw7144177102310890317:=0
abbrev tw13045163157183119245:=0
abbrev tw18377986598424993741:=0
abbrev tw12038487558780327917:=0
abbrev tw4635387808172851214:=0
abbrev tw5086113977862320142:=0
abbrev tw2238575966325961806:=0
abbrev tw17186130676154962030:=0
abbrev tw8289656770851261582:=0
abbrev tw16479291069475623086:=0
abbrev tw5487892029473461454:=0
abbrev tw1238704913149087950:=0
abbrev tw1548059928118898926:=0
abbrev tw8585979526625146094:=0
abbrev tw1241947906297703726:=0
abbrev tw6773431998823221550:=0
abbrev tw8824681363421606286:=0
abbrev tw9233375291748957614:=0
abbrev tw7767329711159662062:=0
abbrev tw14610921943371154990:=0
abbrev tw6081420849730721358:=0
abbrev tw17677488222076336750:=0
abbrev tw13427637353051721390:=0
abbrev tw1428118830478572302:=0
abbrev tw14585724420282006286:=0
abbrev tw1015206383870349102:=0
abbrev tw17100983869167847278:=0
abbrev tw18151869029183520654:=0
abbrev tw11836330259705187214:=0
abbrev tw15844824176419826606:=0
abbrev tw10421217669493236686:=0
abbrev tw15497800407619043375:=0
abbrev tw12805859252724530383:=0
abbrev tw14237513651395338575:=0
abbrev tw7304623223257709999:=0
abbrev tw12617214213454107151:=0
abbrev tw7247173018917115407:=0
abbrev tw4787527766286676527:=0
abbrev tw4513432941285908047:=0
abbrev tw5630661520778091119:=0
abbrev tw14053908832699564687:=0
abbrev tw11914796343366351535:=0
abbrev tw17296718408299908847:=0
abbrev tw9698224969177500431:=0
abbrev tw16895246910380531471:=0
abbrev tw14887791754696057615:=0
abbrev tw13111859802870012719:=0
abbrev tw16282512947156419407:=0
abbrev tw18350429562173297487:=0
abbrev tw7527137058381799279:=0
abbrev tw1153678397586365295:=0
abbrev tw11575427613929785231:=0
abbrev tw4463741045283764143:=0
abbrev tw8349872676461269935:=0
abbrev tw3616440649020417999:=0
abbrev tw5818269411520305135:=0
abbrev tw13136990078316135440:=0
abbrev tw7211750770777054320:=0
abbrev tw55260711839020176:=0
abbrev tw1782626860657854672:=0
abbrev tw4018933079024625872:=0
abbrev tw12286673296176981392:=0
abbrev tw2254965046169918864:=0
abbrev tw5534403458050557456:=0
abbrev tw1209316928898915856:=0
abbrev tw6226779134319362608:=0
abbrev tw16837294794728028752:=0
abbrev tw13995095127540031056:=0
abbrev tw9894996565320606320:=0
abbrev tw15855067078860315280:=0
abbrev tw4894383353557764784:=0
abbrev tw14363650647232630448:=0
abbrev tw7725957416137319216:=0
abbrev tw6439036328629991248:=0
abbrev tw14662336569202994032:=0
abbrev tw17787775712941808560:=0
abbrev tw12050732027270339504:=0
abbrev tw2180213625256861648:=0
abbrev tw15562154421992179696:=0
abbrev tw16646686645918961681:=0
abbrev tw2485993078686814225:=0
abbrev tw9519060606646427665:=0
abbrev tw11824289888912044049:=0
abbrev tw14817930601152089137:=0
abbrev tw1907272793632896081:=0
abbrev tw11430262841359540305:=0
abbrev tw12224483519046912177:=0
abbrev tw8678481203603293361:=0
abbrev tw3877581633259638993:=0
abbrev tw6781882140339567825:=0
abbrev tw14777866546057986289:=0
abbrev tw9395007831422397713:=0
abbrev tw6500847365077687601:=0
abbrev tw13727159332547423569:=0
abbrev tw10554406372078907761:=0
abbrev tw17433423013191597457:=0
abbrev tw9700463945558051313:=0
abbrev tw13319199567358661169:=0
abbrev tw956550181204573745:=0
abbrev tw1840065386431025841:=0
abbrev tw1754541586805075633:=0
abbrev tw5115009237527009009:=0
abbrev tw14887887963948199665:=0
abbrev tw14218969769277697809:=0
abbrev tw15861396855564128081:=0
abbrev tw3420720825244986225:=0
abbrev tw2529818612452350833:=0
abbrev tw6630666564618423185:=0
abbrev tw17419919736270261137:=0
abbrev tw5910818267383635857:=0
abbrev tw7560496403784552401:=0
abbrev tw13596996515571061745:=0
abbrev tw16659711492584413266:=0
abbrev tw10688513342951978066:=0
abbrev tw17627062753057190002:=0
abbrev tw17790715237913662642:=0
abbrev tw16665031308379118802:=0
abbrev tw2194936534690265330:=0
abbrev tw5379414523075585298:=0
abbrev tw8105550979378812178:=0
abbrev tw13487546286336494898:=0
abbrev tw14708818182300316018:=0
abbrev tw8241496379000025458:=0
abbrev tw399167611390400946:=0
abbrev tw9152966409553898930:=0
abbrev tw7139016168188940786:=0
abbrev tw12678853140468662802:=0
abbrev tw2154405906501839442:=0
abbrev tw9955844282601590354:=0
abbrev tw12208026600282551890:=0
abbrev tw15617865650984451666:=0
abbrev tw7270856817712058994:=0
abbrev tw7956762662700657298:=0
abbrev tw2405044930099179154:=0
abbrev tw9926197972755783346:=0
abbrev tw15395295234211784466:=0
abbrev tw5545152405831879474:=0
abbrev tw1730701163155230546:=0
abbrev tw2847395530176171858:=0
abbrev tw3829708835464652658:=0
abbrev tw2346418048914057106:=0
abbrev tw9012742367925863378:=0
abbrev tw4627023722952586194:=0
abbrev tw7815060783791035411:=0
abbrev tw2819517700409232403:=0
abbrev tw11866830521230199891:=0
abbrev tw15045457497300447315:=0
abbrev tw14980844115465161811:=0
abbrev tw10686909144286980179:=0
abbrev tw17957816174550510931:=0
abbrev tw5958238025073954163:=0
abbrev tw13763940392371915123:=0
abbrev tw14489136784663003635:=0
abbrev tw13069138814586875411:=0
abbrev tw17789903766594932275:=0
abbrev tw12166538527991331411:=0
abbrev tw12021242901294972499:=0
abbrev tw6399778377624948339:=0
abbrev tw5525057343387176563:=0
abbrev tw4055761505778597587:=0
abbrev tw12354535337157153523:=0
abbrev tw8435556658491578099:=0
abbrev tw1871826782295910195:=0
abbrev tw14150221258493686611:=0
abbrev tw3281585454444563315:=0
abbrev tw15553759838375404403:=0
abbrev tw13663244616634339315:=0
abbrev tw7155672161183980531:=0
abbrev tw1767433951295959060:=0
abbrev tw1926801970630729780:=0
abbrev tw12733180793527233716:=0
abbrev tw13995676425341643988:=0
abbrev tw1392574352091955412:=0
abbrev tw9858023963101284596:=0
abbrev tw2455867388151514388:=0
abbrev tw11087381159634773364:=0
abbrev tw17106350089528174996:=0
abbrev tw16007700949328524724:=0
abbrev tw6446456103956068820:=0
abbrev tw9755504515436585460:=0
abbrev tw16359344096207793652:=0
abbrev tw13536346416597399060:=0
abbrev tw1791482572186422836:=0
abbrev tw13444555491489557076:=0
abbrev tw14859201935823330068:=0
abbrev tw8133693184619971380:=0
abbrev tw5442440060046885748:=0
abbrev tw10993147904372124564:=0
abbrev tw9365214495688913812:=0
abbrev tw475382069436509108:=0
abbrev tw11339098832531134420:=0
abbrev tw10491236328157740117:=0
abbrev tw10721851813030467733:=0
abbrev tw5148696301854647477:=0
abbrev tw623566361758408981:=0
abbrev tw14303561554408992021:=0
abbrev tw6540855086276117813:=0
abbrev tw16527581904624621877:=0
abbrev tw8120925734623168853:=0
abbrev tw10009939571279397237:=0
abbrev tw15703031706824708501:=0
abbrev tw16737595544099419701:=0
abbrev tw7496533263221900885:=0
abbrev tw13500530234626031285:=0
abbrev tw9189110644135128789:=0
abbrev tw3745607783590021877:=0
abbrev tw15878230420070992661:=0
abbrev tw15768400892191714069:=0
abbrev tw9461953709929827125:=0
abbrev tw9819132062595960661:=0
abbrev tw12487715549951803285:=0
abbrev tw15558293002138927029:=0
abbrev tw1959242279812189173:=0
abbrev tw9351369241519963222:=0
abbrev tw5299273098869544054:=0
abbrev tw5144187691622418582:=0
abbrev tw2851012854298223766:=0
abbrev tw7756030695252896982:=0
abbrev tw13070426658399270102:=0
abbrev tw14330003164584822038:=0
abbrev tw2578544928551268726:=0
abbrev tw4465227643050886550:=0
abbrev tw9245736597975523734:=0
abbrev tw10678866320943071766:=0
abbrev tw12370780029559172790:=0
abbrev tw8940179069215054550:=0
abbrev tw5420133097435455254:=0
abbrev tw1800493202453647158:=0
abbrev tw9429378086417227574:=0
abbrev tw6854077580361610102:=0
abbrev tw16403533287092918230:=0
abbrev tw6534580871255809014:=0
abbrev tw9566895127398957079:=0
abbrev tw14401482256860041271:=0
abbrev tw16500251850047112279:=0
abbrev tw5905180436150624375:=0
abbrev tw4887690011204026615:=0
abbrev tw11025861802806070519:=0
abbrev tw9764256376905489687:=0
abbrev tw8918835961857752343:=0
abbrev tw11326698782471116119:=0
abbrev tw3853794769961112951:=0
abbrev tw14507893596843407831:=0
abbrev tw5468326394810497495:=0
abbrev tw14115988757658748407:=0
abbrev tw8253186900809242103:=0
abbrev tw2555498767612455447:=0
abbrev tw17953796090174584439:=0
abbrev tw9377195414979656311:=0
abbrev tw1193821122570372727:=0
abbrev tw10760618910006889143:=0
abbrev tw4978698107736110807:=0
abbrev tw12347200508876408567:=0
abbrev tw6386669961402694391:=0
abbrev tw15138960119488207639:=0
abbrev tw16741165488706087703:=0
abbrev tw18316683867407843095:=0
abbrev tw8933066716152472375:=0
abbrev tw14073017180775628631:=0
abbrev tw7310586910568266647:=0
abbrev tw14833530797313796055:=0
abbrev tw1750529609483725815:=0
abbrev tw5588741577988296856:=0
abbrev tw12455697787421769912:=0
abbrev tw14558833124876760280:=0
abbrev tw8244030141613436152:=0
abbrev tw11746360812216382712:=0
abbrev tw11204554058782256408:=0
abbrev tw18123549709779106104:=0
abbrev tw632978871699326296:=0
abbrev tw15898330777626420600:=0
abbrev tw5059134553669770680:=0
abbrev tw13092063528701705656:=0
abbrev tw6454917259001061816:=0
abbrev tw11281243191489334968:=0
abbrev tw8482793019676752568:=0
abbrev tw3268424878794358520:=0
abbrev tw18087785692294969080:=0
abbrev tw1925391671852792696:=0
abbrev tw6007886256710539256:=0
abbrev tw15970423572044379161:=0
abbrev tw15465519328983848185:=0
abbrev tw14203743859688775961:=0
abbrev tw7587541101128056153:=0
abbrev tw137567892618861945:=0
abbrev tw16427573932872373689:=0
abbrev tw10967394992566969849:=0
abbrev tw11615418707262666265:=0
abbrev tw16370747025897941593:=0
abbrev tw2018512301035942489:=0
abbrev tw8919677215448329913:=0
abbrev tw12024900431694052089:=0
abbrev tw4112189238542438329:=0
abbrev tw15572491614365987769:=0
abbrev tw8946432801988852697:=0
abbrev tw8677799794362170361:=0
abbrev tw8839266450069968889:=0
abbrev tw11797763498534393849:=0
abbrev tw2979092046269438106:=0
abbrev tw10168200787587108026:=0
abbrev tw12469001400306419898:=0
abbrev tw11739598342935364858:=0
abbrev tw11945989478730193242:=0
abbrev tw3740167775511990650:=0
abbrev tw13888708741037839770:=0
abbrev tw15748586899808804314:=0
abbrev tw13667470300036264442:=0
abbrev tw17483111156524775930:=0
abbrev tw18269915371918367290:=0
abbrev tw8703533034941769274:=0
abbrev tw12263863926177848922:=0
abbrev tw17401753733585467034:=0
abbrev tw15260677912245279418:=0
abbrev tw12731381626631642810:=0
abbrev tw18347651078998336282:=0
abbrev tw9792598710446254874:=0
abbrev tw7366109765696724794:=0
abbrev tw14419802454347563866:=0
abbrev tw6745885459458466650:=0
abbrev tw12765669695450998650:=0
abbrev tw13952183531134456698:=0
abbrev tw112145598919784346:=0
abbrev tw7496160969486307322:=0
abbrev tw18026305542349895674:=0
abbrev tw4769996297467874491:=0
abbrev tw10362614681372634331:=0
abbrev tw6785380373409190107:=0
abbrev tw3974805742945896699:=0
abbrev tw17394312973844876667:=0
abbrev tw11357994752713986523:=0
abbrev tw6955623168288583131:=0
abbrev tw11061857449209114235:=0
abbrev tw4489630435476909851:=0
abbrev tw2119074345476906779:=0
abbrev tw17616695889318570779:=0
abbrev tw14493552539280198523:=0
abbrev tw4791789053091551163:=0
abbrev tw14975081806183233499:=0
abbrev tw17181828266925001691:=0
abbrev tw10613349635496686587:=0
abbrev tw7383408617235981307:=0
abbrev tw15732010572816987228:=0
abbrev tw13786793744104476796:=0
abbrev tw7800390413301051548:=0
abbrev tw11441324371910316188:=0
abbrev tw9611774867352455388:=0
abbrev tw1948497443684013308:=0
abbrev tw10702176215743844604:=0
abbrev tw16152543667859851548:=0
abbrev tw4398871507869304188:=0
abbrev tw15672304892874472860:=0
abbrev tw16014269481419199932:=0
abbrev tw5065749257822638556:=0
abbrev tw7912087471510360540:=0
abbrev tw15450688061866105308:=0
abbrev tw7410259213446606300:=0
abbrev tw8370238559107356156:=0
abbrev tw9169510453327536636:=0
abbrev tw7152384307996616188:=0
abbrev tw7650297474596497916:=0
abbrev tw3105845179109159452:=0
abbrev tw7071894377440132668:=0
abbrev tw9838287295190440540:=0
abbrev tw11281394894778937948:=0
abbrev tw13484670435090597500:=0
abbrev tw4907743199246619260:=0
abbrev tw10176416218026930812:=0
abbrev tw13145682210129223356:=0
abbrev tw14514061417115134652:=0
abbrev tw14345960978303532732:=0
abbrev tw5552790372381389500:=0
abbrev tw11776520887829997276:=0
abbrev tw1294457962817819388:=0
abbrev tw8174947680358509308:=0
abbrev tw4544675404411100924:=0
abbrev tw17118949315017420572:=0
abbrev tw11974347356900571964:=0
abbrev tw4914615340735056700:=0
abbrev tw5889112370708501308:=0
abbrev tw3564187520511206204:=0
abbrev tw16672473397289951068:=0
abbrev tw12348863358707150684:=0
abbrev tw5862695591076283260:=0
abbrev tw16178147670990138236:=0
abbrev tw1606438095989222300:=0
abbrev tw8224490340636849052:=0
abbrev tw2200069489166275548:=0
abbrev tw17743347460098646045:=0
abbrev tw76790692044606557:=0
abbrev tw12205930299991513181:=0
abbrev tw8062181162208519325:=0
abbrev tw6520402957075707037:=0
abbrev tw13509725286928102589:=0
abbrev tw11013742496402955453:=0
abbrev tw8400704453532154045:=0
abbrev tw16765739492320340189:=0
abbrev tw1725791382831314173:=0
abbrev tw8712592760394302781:=0
abbrev tw10312366596607789373:=0
abbrev tw450652991528386941:=0
abbrev tw15883756475369560477:=0
abbrev tw15763787201889679773:=0
abbrev tw5727348788377463229:=0
abbrev tw6529696889323075165:=0
abbrev tw12900071182091991709:=0
abbrev tw9704815149228508829:=0
abbrev tw1206514269063580349:=0
abbrev tw12441106132483888893:=0
abbrev tw18262024011653215997:=0
abbrev tw3626512140458229629:=0
abbrev tw12678225070818061213:=0
abbrev tw11799421676346580957:=0
abbrev tw11469983035746109470:=0
abbrev tw15955501198399290526:=0
abbrev tw1532268017540174014:=0
abbrev tw5411639692461213886:=0
abbrev tw15169924255898883326:=0
abbrev tw9728721816588208478:=0
abbrev tw14738870369838275934:=0
abbrev tw5396348648773589374:=0
abbrev tw14895633480478239102:=0
abbrev tw17853000693292522878:=0
abbrev tw300448138761101758:=0
abbrev tw14244320032081889822:=0
abbrev tw14101518833185593950:=0
abbrev tw10527052579319955070:=0
abbrev tw11114289205710045822:=0
abbrev tw9321471173089116862:=0
abbrev tw17415224914551705310:=0
abbrev tw5428560998461798110:=0
abbrev tw17912055294262913790:=0
abbrev tw13913699370063703902:=0
abbrev tw14225172242141846494:=0
abbrev tw275383496087379007:=0
abbrev tw1498377272137379007:=0
abbrev tw13668200089658236159:=0
abbrev tw4131622897707599199:=0
abbrev tw11189595792442120543:=0
abbrev tw9174970225874061727:=0
abbrev tw17241654330852114879:=0
abbrev tw16093829243236421055:=0
abbrev tw9148139792902145535:=0
abbrev tw3339605336078349823:=0
abbrev tw7877233532349165087:=0
abbrev tw15928807015853239935:=0
abbrev tw16030229832711935647:=0
abbrev tw2280502130910832319:=0
abbrev tw6162268425550857919:=0
abbrev tw16368542827018026719:=0
abbrev tw16856346362476514015:=0
abbrev tw3083368715272950719:=0
abbrev tw5864967147714631647:=0
abbrev tw916437309105702928:=0
end PySem.W.Fast
open PySem PySem.W PyProof.Rows
set_option maxRecDepth 100000 in
set_option maxHeartbeats 0 in
theorem PySem.Challenge.cw_stillpoint_k12_paths_holds : PySem.Challenge.rw_stillpoint_k12_paths.Holds := by
 w_on;o_law;k_head;(case hw=>w_witness2)
 k_fill
 refine KS.walk (l:=PySem.Challenge.rw_stillpoint_k12_paths) rfl rfl (fun w h Y=>PySem.W.kIn_of Y) ?F
 case F=>
  intro w mg fa h KX G hmg
  refine' KS.ZLZ KX G hmg ..
  any_goals k_is
  any_goals kit_is
  any_goals k_exc
