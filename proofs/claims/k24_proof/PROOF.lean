import PyProof.Rows.All
import Wide.All
import OpenK.AllK
import Wide.FinOn
import Lean
import PyProof.EqAt
import PyProof.EqKinds
import PyProof.TupleCall
import PyProof.StrOps2
import KE.KEqDict
import PySem.Challenge.RW_stillpoint_k24_whole_a_long_life
open PySem renaming wpAny_bind→Ya,wpAny_pure→Ye,sizeLine→Yj,FuncData→Ym,boot_len→YA,starEach→YF,wpAny_newObj_type→YG,wpAny_callSpecial?_slot→YI,wpAny_call_entry→YM,PyData→YO,wpAny_field→YX,wpAny_setField_rec→Y4,wpAny_mono→Xa,DictEntry→Xp,wpAny_holding→Xq,wpAny_dictEntries→Xr,sysModules→Xw,call_meets→XD,compareOp→XE,wpAny_truthy_bool→XI,wpAny_dictEpoch→XM,mainGlobals→X7,wpAny_attempt→X9,wpAny_typeNameOfWhole_itemiter→Wb,wpAny_seqItems→We,firstArgMember→Wf,Paired→Wg,wpAny_typeNameOfWhole_keyiter→Wh,rawInt→Wl,wpAny_passesOwn→Wn,behindInMarks→Wq,binaryOp→Ws,backTo→Wx,wpAny_setField→Wy,sizeLine_eq→Wz,typeIs_str→WB,mem_of_lookup→WE,wpAny_loadPart'→WK,pyNext→WQ,wpAny_Call_Name_kw→WR,tupleKind_room_in1→WS,tupleKind→WU,wpAny_fieldsOf→WZ,IsPair→W6,wpAny_isInstance→W7,IsItemIter→W9,attributeBase→Yaa,sliceBounds→Yad,NameKind→Yaf,wpAny_execs_nil→Yag,letOwnedTupleGo→Yah,wpAny_pyIter_tuple→Yao,isSubtype_stop→Yar,typeIs_int→Yat,compEnvC→Yav,wpAny_binaryOp_repeat_ref→Yaw,wpAny_pyIter_list→YaB,wpAny_isOneOf_itemiter→YaQ,bootBuiltins→YaV,wpAny_notOrdered_dict→Ya2,wpAny_isOneOf_valiter→Ya3,wpAny_updateSeq_pair→Ya7
open List renaming length_map→Yb,length_append→Yd,getD_eq_getElem?_getD→Yi,getElem?_eq_getElem→Yk,getElem?_map→Yo,mem_cons_of_mem→Yp,size_toArray→Yq,mem_of_getElem?→Ys,length_cons→Yv,mem_cons_self→Yw,map_cons→Yx,map_append→Yz,length_drop→YB,length_replicate→YC,length_take→YH,mem_append_right→YK,take_of_length_le→YW,append_nil→Y0,not_mem_nil→Y1,take_succ_eq_append_getElem→Y9,take_length→Xc,lookup_cons→Xd,replicate_succ→Xf,filterMap_cons→Xg,length_range→Xh,mem_of_mem_take→Xn,map_map→Xu,mem_cons→XF,flatten_cons→XJ,lookup→XU,map_replicate→XW,find?_cons→X3,mem_of_mem_drop→X6,flatten_append→Wa,drop_length→Wd,getElem?_append_right→Wv,length_filterMap_le→WG,any_cons→WJ,nodup_cons→WL,length_set→WM,length_nil→WN,filterMap_eq_map'→WW,drop_of_length_le→WX,take_append_drop→W4,all_eq_true→W8,map_take→Yac,foldl_cons→Yai,toArray→Yan,filterMap_map→Yaq,getElem?_zip_eq_some→Yax,getElem?_append_left→Yay,drop_eq_getElem_cons→Yaz,take_nil→YaI,all_cons→YaJ,getElem?_set_self→YaS,length_zip→YaZ,forIn_cons→Ya0,length_singleton→Ya6,mem_append_left→Ya9,getElem?_set_ne→Yba
open PySem.Heap renaming get?_push_of_some→Yc,get?_push_size→Yh,lt_size→Yl,SameBut→Xv,get?_update_other→XR,size_push→XX,get?_update_self→W5
open Nat renaming le_refl→Yf,le_trans→Yn,zero_le→Yt,ne_of_lt→Yy,lt_of_lt_of_le→YD,lt_of_le_of_lt→YL,succ_le_succ→YN,lt_irrefl→Y8,le_add_right→Xb,min_eq_right→XT,le_succ→Wk,min_eq_left→Wo,le_total→W2,le_of_lt→W3,ne_of_gt→Yal,le_of_eq→Yam,add_sub_cancel_left→YaN,lt_succ_self→YaP,add_le_add_right→Ya8
open PySem.W renaming Frag→Yg,findIn→Xj,kia_one→Xl,emptyDict→Xs,fnOf→XG,kas_sort→X1,instObj→X2,keepIn→W0,kitOne→Yas,plainGet→YaO,hideAll→YaY,plainGet_of→Ybd,hideAll_get→Ybe,callWith_K→Ybi
open Bool renaming false_ne_true→Yr,false_eq_true→YY,and_eq_true→Xz,eq_iff_iff→X5,or_false→Wr,or_eq_true→Yaj,not_eq_true'→YaC
open Option.some renaming inj→Yu
open PySem.PassesOwn renaming leaving→YE
open PySem.NameKind renaming free→YJ,cell→Yab
open Array renaming length_toList→YQ,getElem?_eq_getElem→Y3,getElem?_toList→Xx,getElem?_eq_none→YaU
open PySem.F renaming plainAttrs_list→YR,plainAttrs_dict→YT,type_list_append→Y6,slot_list_append→Y7,type_dict_values→XA,slot_dict_values→XB,slot_dict_valueiterator_next→Wc,slot_dict_itemiterator_next→Wi,slot_dict_keyiterator_next→Wm,slot_tuple_iterator_next→Ww,slot_int_rmul→WO,plainAttrs_str→WV,args_tuple_add_2→YaF,type_dict_items→YaK,slot_dict_items→YaL,entry_tuple_add→YaM,slot_tuple_add→YaR,slot_zip_next→Ya1,slot_dict_get→Ya4,args_tuple_mul_2→Ybj,args_str_split_2→Ybk
open Int renaming toNat_natCast→YS,emod_lt_of_pos→Xy,emod_nonneg→XN
open PySem.Builtin.Str renaming occurrences→YU,strSliceIndices→Wt,subAt→Wu,partsBetween→WI,strKind→Yak
open PySem.Builtin.Dict_items renaming ownsTuple→YV,ownedTupleIsFree→Ybg,ownedTupleFields→Ybh
open PyProof.Rows renaming seqObj→YZ,callWith_type1→Xo,slot_tuple_getitem→X8,envOfC→Yae,get?_update_seq→YaX
open PySem.Builtin.SmallTypes renaming nextOf→Y2,ownedTupleIsFree→XS,ownedTupleHandOut→Ybc
open PySem.Obj renaming mapSeq→Y5,data_mapFields→Wj,mapFields→YaH,isFreed_of_fields→Ya5
open PySem.SeqAt renaming shaped→Xe
open PySem.Paired renaming length→Xk,snoc→YaE
open Option renaming map_some→Xm,isSome_map→WY,isSome_none→Yap
open PySem.Str renaming ofString→Xt,length→Yau
open Sum renaming inr→XC,inl→XQ
open PySem.Builtin.Range renaming rangeSize→XH,small→Ybf
open PySem.Heap.SameBut renaming update→XO
open PySem.Builtin.Dict renaming showsAll→XY
open True renaming intro→XZ
open False renaming elim→X0
open ForInStep renaming yield→X4
open Sum.inl renaming inj→WA
open PySem.PyData renaming int→WC
open PySem.Builtin.Slice renaming slicePlaces→WD,sliceAdjust→YaA
open PySem.Builtin.Tuple renaming tupleExact→WH
open Ne renaming symm→WT
open Sum.inr renaming inj→YaD
open PySem.Builtin.List renaming listTooLong→YaG
open PySem.Calls renaming callWith_builtin→YaT,evalArgs_plain→Ybb,spliced_cons→Ybl
open Except renaming error→YaW
-- Mo: your row's module here,as eF last of these rows
set_option Elab.async false
set_option linter.all false
set_option maxRecDepth 100000
namespace L2
open PySem PySem.Spec PyProof.Rows
abbrev Key:=Sum Int Str
def vL:Key->Value->Bool
 | .inl k,v=>Value.isInt k v
 | .inr x,v=>Value.isStrOf x v
def Lu (w:World):Key->Int
 | .inl k=>hashInt k
 | .inr x=>hashStr w x
theorem qo:∀ {k:Key} {v:Value},vL k v=true->(∃ i t,k=XQ i/\v=Value.int i t)∨(∃ x t,k=XC x/\v=Value.str x t)
 | .inl i,v,h=>by
  obtain ⟨t,e⟩:=Value.isInt_shape (k:=i) (v:=v) h;exact .inl ⟨i,t,rfl,e⟩
 | .inr x,v,h=>by
  obtain ⟨t,e⟩:=Value.isStrOf_shape (x:=x) (v:=v) h;exact .inr ⟨x,t,rfl,e⟩
theorem ZuI (i:Int) (t:Tok):vL (.inl i) (.int i t)=true:=by simp [vL,Value.isInt]
theorem ZuH (x:Str) (t:Tok):vL (.inr x) (.str x t)=true:=by simp [vL,Value.isStrOf]
theorem Zyn (a b:Int):decide ((XQ a:Key)=XQ b)=(a == b):=by
 by_cases e:a=b
 .subst e;simp
 .have h:¬ (XQ a:Key)=XQ b:=fun q=>e (WA q);rw [decide_eq_false h];exact (beq_eq_false_iff_ne.mpr e).symm
theorem Zyk (a b:Str):decide ((XC a:Key)=XC b)=decide (a=b):=by
 by_cases e:a=b
 .subst e;simp
 .have h:¬ (XC a:Key)=XC b:=fun q=>e (YaD q);rw [decide_eq_false h,decide_eq_false e]
theorem Zym (a:Int) (b:Str):decide ((XQ a:Key)=XC b)=false:=decide_eq_false (fun q=>nomatch q)
theorem Zyl (a:Str) (b:Int):decide ((XC a:Key)=XQ b)=false:=decide_eq_false (fun q=>nomatch q)
def ZW (prog:Program) (w:World):PySem.KeyKind prog w Key where
 is:=vL
 hash:=Lu w
 inj:=fun v a b ha hb=>by
  rcases qo ha with ⟨i,t,rfl,rfl⟩ | ⟨x,t,rfl,rfl⟩
  .rcases qo hb with ⟨j,u,rfl,e⟩ | ⟨y,u,rfl,e⟩
   .injection e with e1 _;rw [e1]
   .exact nomatch e
  .rcases qo hb with ⟨j,u,rfl,e⟩ | ⟨y,u,rfl,e⟩
   .exact nomatch e
   .injection e with e1 _;rw [e1]
 byValue:=fun k v h=>by
  rcases qo h with ⟨i,t,rfl,rfl⟩ | ⟨x,t,rfl,rfl⟩ <;> rfl
 pyHash:=fun hv h=>by
  rcases qo hv with ⟨i,t,rfl,rfl⟩ | ⟨x,t,rfl,rfl⟩
  .exact wpAny_pyHash_int h
  .exact wpAny_pyHash_str h
 eqBool:=fun hu hv h=>by
  rcases qo hu with ⟨i,t,rfl,rfl⟩ | ⟨x,t,rfl,rfl⟩
  .rcases qo hv with ⟨j,u,rfl,rfl⟩ | ⟨y,u,rfl,rfl⟩
   .rw [Zyn] at h;exact wpAny_eqBool_int h
   .rw [Zym] at h;exact SeqAt.EqAt.int_str i t y u _ _ _ _ h
  .rcases qo hv with ⟨j,u,rfl,rfl⟩ | ⟨y,u,rfl,rfl⟩
   .rw [Zyl] at h;exact SeqAt.EqAt.str_int x t j u _ _ _ _ h
   .rw [Zyk] at h;exact wpAny_eqBool_str h
 «strs»:=fun k x t v h=>by
  rcases qo h with ⟨i,u,rfl,e⟩ | ⟨y,u,rfl,e⟩
  .exact nomatch e
  .injection e with e1 _;subst e1
   cases v <;> rfl
theorem Zrp (prog:Program) (w:World) (i:Int) (t:Tok):(ZW prog w).is (.inl i) (.int i t)=true:=ZuI i t
theorem Zro (prog:Program) (w:World) (x:Str) (t:Tok):(ZW prog w).is (.inr x) (.str x t)=true:=ZuH x t
end L2
namespace L2
open PySem PySem.Spec PyProof.Rows
inductive V where
 | aH | bl (b:Bool) | int (i:Int) | str (x:Str) | jY (b:Array UInt8) | q_ (b:UInt64) | ref (a:Addr) | ty (n:String)
 deriving DecidableEq
def RelV:V->Value->Prop
 | .aH,u=>u=Value.none
 | .bl b,u=>u=Value.bool b
 | .int i,u=>∃ t,u=Value.int i t
 | .str x,u=>∃ t,u=Value.str x t
 | .jY b,u=>∃ t,u=Value.bytes b t
 | .q_ b,u=>∃ t,u=Value.float b t
 | .ref a,u=>u=Value.ref a
 | .ty n,u=>u=Value.type n
abbrev Vals:List V->List Value->Prop:=Wg RelV
theorem Vals.length {xs:List V} {us:List Value} (r:Vals xs us):xs.length=us.length:=Xk r
theorem Vals.get:∀ {xs:List V} {us:List Value} {i:Nat} {x:V},Vals xs us->xs[i]?=some x->∃ u,us[i]?=some u/\RelV x u
 | _,_,_,_,.nil,e=>by simp at e
 | _,_,0,_,.cons r _,e=>by simp at e;subst e;exact ⟨_,rfl,r⟩
 | _,_,i + 1,x,.cons _ t,e=>by
  obtain ⟨u,h1,h2⟩:=Vals.get (i:=i) (x:=x) t (by simpa using e);exact ⟨u,by simpa using h1,h2⟩
theorem Vals.set {x:V} {u:Value} (r:RelV x u):∀ {xs:List V} {us:List Value} (i:Nat),Vals xs us->Vals (xs.set i x) (us.set i u)
 | _,_,_,.nil=>.nil
 | _,_,0,.cons _ t=>.cons r t
 | _,_,i + 1,.cons q t=>.cons q (Vals.set r i t)
theorem Vals.append:∀ {xs ys:List V} {us ws:List Value},Vals xs us->Vals ys ws->Vals (xs++ys) (us++ws)
 | _,_,_,_,.nil,s=>s
 | _,_,_,_,.cons r t,s=>.cons r (Vals.append t s)
theorem Vals.take:∀ {xs:List V} {us:List Value} (n:Nat),Vals xs us->Vals (xs.take n) (us.take n)
 | _,_,0,_=>.nil
 | _,_,_ + 1,.nil=>.nil
 | _,_,n + 1,.cons r t=>.cons r (Vals.take n t)
theorem Vals.drop:∀ {xs:List V} {us:List Value} (n:Nat),Vals xs us->Vals (xs.drop n) (us.drop n)
 | _,_,0,r=>r
 | _,_,_ + 1,.nil=>.nil
 | _,_,n + 1,.cons _ t=>Vals.drop n t
def cj:Option V->Option Value->Prop
 | some v,some u=>RelV v u
 | none,none=>True
 | _,_=>False
def KV {κ:Type}:List (κ×V)->List (κ×Value)->Prop:=Wg fun (p:κ×V) (q:κ×Value)=>p.1=q.1/\RelV p.2 q.2
def kV:Key->V
 | .inl i=>.int i
 | .inr x=>.str x
inductive HO where
 /-- a list -/
 | lst (xs:List V)
 /-- a tuple (never changes) -/
 | tup (xs:List V)
 /-- a dict Af keys are ints and texts;one Af keys are tuples of ints and texts (eF empty one is both) -/
 | dK (kvs:List (Key×V)) | dT (kvs:List (List Key×V))
 /-- a set of ints: its members,its size -/
 | set (S:Int->Bool) (n:Nat)
 /-- an instance of eF class at C,its dict at dx,its attributes -/
 | ins (C dx:Addr) (fs:List (Str×V))
 /-- eF dict of eF instance at x -/
 | own (x:Addr)
 /-- eF dict of an exception -/
 | xd (fs:List (Str×V))
 /-- a bound method,f of x -/
 | met (f x:Addr)
 /-- a range object lo,lo + 1,.. below hi -/
 | AJ (lo hi:Int)
 /-- a cL that is known to eF object (eF kK;a dict rS a loop walks it): read,never written rS it is so -/
 | bf (o:Obj) (u:HO)
 /-- a code Av table -/
 | nc (ps:Array Value)
 /-- any other cL,by what is true of its one object (a def of one's own: SetO a S n:=HO.ext fun h=>..) -/
 | ext (φ:Heap->Prop)
abbrev Hp:=Addr->Option HO
def upd (H:Hp) (a:Addr) (o:HO):Hp:=fun b=>if b=a then some o else H b
theorem Zb {H:Hp} {a:Addr} {o:HO}:upd H a o a=some o:=by unfold upd;rw [if_pos rfl]
theorem Ze {H:Hp} {a b:Addr} {o:HO} (h:b≠a):upd H a o b=H b:=by unfold upd;rw [if_neg h]
theorem ZD {H:Hp} {a b:Addr} {o u:HO} (h:H a=some o) (h':H b=some u) (d:o≠u):a≠b:=by
 intro e;subst e;rw [h] at h';exact d (Yu h')
theorem Zc {H:Hp} {a b:Addr} {o:HO} (h:H a=some o) (h':H b=none):a≠b:=by
 intro e;subst e;rw [h] at h';cases h'
section
variable (P:Program) (w:World)
def bH (H:Hp) (h:Heap) (a:Addr):HO->Prop
 | .lst xs=>xs.length<=Yj/\∃ (its:List Value) (n:Nat),Vals xs its/\h.get? a=some {cls:=.type "list",data:=.seq its.toArray n}
 | .tup xs=>xs.length<=Yj/\∃ its:List Value,Vals xs its/\IsTup h a its.toArray
 | .dK kvs=>kvs.length<=Yj/\(a == Xw)=false/\∃ vs,KV kvs vs/\h.DictOf (ZW P w) a vs
 | .dT kvs=>kvs.length<=Yj/\(a == Xw)=false/\∃ xs:List (List Key×Addr×Value),
   Wg (fun (p:List Key×V) (q:List Key×Addr×Value)=>p.1=q.1/\H q.2.1=some (.tup (p.1.map kV))/\RelV p.2 q.2.2) kvs xs/\
   ∃ o es ep,h.get? a=some o/\o.ExactDict/\o.data=.dict es ep/\es.toList=xs.map (entryOfKey (WU (ZW P w)))/\(xs.map (·.1)).Nodup
 | .set S n=>h.SetOf (intKind P w) a S n
 | .ins C dx fs=>H dx=some (.own a)/\fs.length<=1000/\dx≠a/\h.get? a=some (X2 C dx)/\
   ∃ mA,h.Ns1 dx mA/\(∀ f,cj (fs.lookup f) (mA f))/\PySem.Within mA (fs.map (·.1))
 | .own _=>∃ o,h.get? a=some o
 | .xd fs=>∃ mA,h.Ns1 a mA/\∀ f,cj (fs.lookup f) (mA f)
 | .AJ lo hi=>∃ t u v,h.get? a=some {cls:=.type "range",data:=.fields #[.int lo t,.int hi u,.int 1 v]}
 | .bf o u=>h.get? a=some o/\bH H h a u
 | .nc ps=>h.get? a=some {cls:=.none,data:=.fields ps}
 | .met f x=>h.get? a=some (PySem.W.methodObj (.ref f) (.ref x))
 | .ext φ=>φ h/\(∃ o,h.get? a=some o)/\∀ h1 h2:Heap,φ h1->(∀ o,h1.get? a=some o->h2.get? a=some o)->φ h2
def b_ (H:Hp) (h:Heap):Prop:=∀ a o,H a=some o->bH P w H h a o
end
section
variable {P:Program} {w:World} {H H':Hp} {h h':Heap} {a:Addr} {o:HO}
theorem bH.lt (x:bH P w H h a o):a < h.objs.size:=by
 cases o with
 | lst xs=>obtain ⟨_,_,_,_,e⟩:=x;exact Yl e
 | tup xs=>obtain ⟨_,_,_,p⟩:=x;exact p.lt
 | dK kvs=>obtain ⟨_,_,_,_,o,_,_,e,_⟩:=x;exact Yl e
 | dT kvs=>obtain ⟨_,_,_,_,o,_,_,e,_⟩:=x;exact Yl e
 | set S n=>obtain ⟨o,_,_,_,e,_⟩:=x;exact Yl e
 | ins C dx fs=>obtain ⟨_,_,_,e,_⟩:=x;exact Yl e
 | own y=>obtain ⟨_,e⟩:=x;exact Yl e
 | xd fs=>obtain ⟨_,⟨_,_,_,e,_⟩,_⟩:=x;exact Yl e
 | AJ lo hi=>obtain ⟨_,_,_,e⟩:=x;exact Yl e
 | bf ob u=>obtain ⟨e,_⟩:=x;exact Yl e
 | nc ps=>exact Yl (show h.get? a=some _ from x)
 | met f y=>exact Yl (show h.get? a=some _ from x)
 | ext φ=>obtain ⟨_,⟨_,e⟩,_⟩:=x;exact Yl e
theorem Paired.uq {α β:Type} {F G:α->β->Prop}:∀ {zy:List α} {zx:List β},Wg F zy zx->(∀ a b,F a b->G a b)->Wg G zy zx
 | _,_,.nil,_=>.nil
 | _,_,.cons r t,f=>.cons (f _ _ r) (Paired.uq t f)
theorem bH.dA (x:bH P w H h a o) (k:∀ b u,(b=a∨H b=some (.own a))->h.get? b=some u->h'.get? b=some u)
  (ho:∀ b,H b=some (.own a)->H' b=some (.own a)) (ht:∀ b xs,H b=some (.tup xs)->H' b=some (.tup xs)):bH P w H' h' a o:=by
 induction o with
 | lst xs=>obtain ⟨z,its,n,r,e⟩:=x;exact ⟨z,its,n,r,k _ _ (.inl rfl) e⟩
 | tup xs=>obtain ⟨z,its,r,ob,e,c⟩:=x;exact ⟨z,its,r,ob,k _ _ (.inl rfl) e,c⟩
 | dK kvs=>obtain ⟨z,y,vs,r,ob,es,ep,e,c⟩:=x;exact ⟨z,y,vs,r,ob,es,ep,k _ _ (.inl rfl) e,c⟩
 | dT kvs=>
  obtain ⟨z,y,xs,r,ob,es,ep,e,c⟩:=x;exact ⟨z,y,xs,Paired.uq r fun p q z=>⟨z.1,ht _ _ z.2.1,z.2.2⟩,ob,es,ep,k _ _ (.inl rfl) e,c⟩
 | set S n=>obtain ⟨ob,es,ep,t,e,c⟩:=x;exact ⟨ob,es,ep,t,k _ _ (.inl rfl) e,c⟩
 | ins C dx fs=>
  obtain ⟨d,z,ne,e,mA,⟨od,es,ep,e2,c⟩,r⟩:=x;exact ⟨ho _ d,z,ne,k _ _ (.inl rfl) e,mA,⟨od,es,ep,k _ _ (.inr d) e2,c⟩,r⟩
 | own y=>obtain ⟨ob,e⟩:=x;exact ⟨ob,k _ _ (.inl rfl) e⟩
 | xd fs=>obtain ⟨mA,⟨od,es,ep,e,c⟩,r⟩:=x;exact ⟨mA,⟨od,es,ep,k _ _ (.inl rfl) e,c⟩,r⟩
 | AJ lo hi=>obtain ⟨t,u,v,e⟩:=x;exact ⟨t,u,v,k _ _ (.inl rfl) e⟩
 | bf ob u ih=>obtain ⟨e,q⟩:=x;exact ⟨k _ _ (.inl rfl) e,ih q⟩
 | nc ps=>
  have e:h.get? a=some {cls:=.none,data:=.fields ps}:=x;show h'.get? a=some {cls:=.none,data:=.fields ps};exact k a _ (.inl rfl) e
 | met f y=>
  have e:h.get? a=some (PySem.W.methodObj (.ref f) (.ref y)):=x;show h'.get? a=some (PySem.W.methodObj (.ref f) (.ref y));exact k a _ (.inl rfl) e
 | ext φ=>obtain ⟨p,⟨o,e⟩,st⟩:=x;exact ⟨st _ _ p fun o q=>k _ _ (.inl rfl) q,⟨o,k _ _ (.inl rfl) e⟩,st⟩
theorem b_.lt (x:b_ P w H h) (e:H a=some o):a < h.objs.size:=(x a o e).lt
theorem b_.fresh (x:b_ P w H h) (e:h.objs.size<=a):H a=none:=by
 cases q:H a with
 | none=>rfl
 | some u=>exact absurd (YD (x.lt q) e) (Y8 _)
theorem b_.kept (x:b_ P w H h) (k:∀ b u,h.get? b=some u->h'.get? b=some u):b_ P w H h':=fun a o e=>
 (x a o e).dA (fun b u _ q=>k b u q) (fun _ q=>q) fun _ _ q=>q
theorem b_.laid (x:b_ P w H h) (k:∀ b u,h.get? b=some u->h'.get? b=some u) (hp:h.objs.size<=a) (new:bH P w (upd H a o) h' a o):b_ P w (upd H a o) h':=fun b u e=>by
 have hn:=x.fresh hp
 by_cases hb:b=a
 .subst hb;rw [Zb] at e;cases e;exact new
 .rw [Ze hb] at e;exact (x b u e).dA (fun c v _ q=>k c v q) (fun c q=>by rw [Ze (Zc q hn)];exact q) fun c xs q=>by rw [Ze (Zc q hn)];exact q
end
def Rd (H:Hp) (a:Addr) (u:HO):Prop:=H a=some u∨∃ o,H a=some (.bf o u)
theorem Rd.ok {P:Program} {w:World} {H:Hp} {h:Heap} {a:Addr} {u:HO} (r:Rd H a u) (x:b_ P w H h):bH P w H h a u:=by
 rcases r with r | ⟨o,r⟩
 .exact x a u r
 .obtain ⟨_,q⟩:=x a _ r;exact q
def yW:Option HO->Prop
 | some (.lst _)=>True
 | some (.dK _)=>True
 | some (.dT _)=>True
 | some (.set _ _)=>True
 | some (.ins _ _ _)=>True
 | some (.ext _)=>True
 | _=>False
section
variable {P:Program} {w:World} {H:Hp} {h h':Heap} {x e:Addr} {o':HO}
theorem b_.write (ok:b_ P w H h) (mu:yW (H x)) (he:e=x∨H e=some (.own x)) (k:∀ b u,b≠e->h.get? b=some u->h'.get? b=some u) (vo:∃ u,h'.get? e=some u)
  (new:bH P w (upd H x o') h' x o'):b_ P w (upd H x o') h':=fun b u q=>by
 have zw:∀ c y,H c=some (.own y)->c≠x:=fun c y r z=>by subst z;rw [r] at mu;exact mu
 have Lm:∀ c xs,H c=some (.tup xs)->c≠x:=fun c xs r z=>by subst z;rw [r] at mu;exact mu
 by_cases hb:b=x
 .subst hb;rw [Zb] at q;cases q;exact new
 .rw [Ze hb] at q
  by_cases tm:b=e
  .have q':H b=some (.own x):=by
    rcases he with z | z
    .exact absurd (tm.trans z) hb
    .rw [tm];exact z
   rw [q] at q';cases q';obtain ⟨v,hv⟩:=vo;exact ⟨v,by rw [tm];exact hv⟩
  .refine (ok b u q).dA (fun c v hc r=>k c v ?_ r) (fun c r=>by rw [Ze (zw c b r)];exact r) fun c xs r=>by rw [Ze (Lm c xs r)];exact r
   rcases hc with rfl | hc
   .exact tm
   .rintro rfl
    rcases he with z | z
    .exact zw c b hc z
    .rw [hc] at z;cases z;exact hb rfl
end
structure Un (fs ex:List Addr) (H H':Hp) (h h':Heap):Prop where
 keep:∀ b o,h.get? b=some o->H b=none->b ∉ fs->b ∉ ex->h'.get? b=some o
 slot:∀ b o,h.get? b=some o->H b=none->b∈fs->b ∉ ex->∃ sl,h'.get? b=some {o with slots:=sl}
 free:∀ b o,h.get? b=some o->H b=none->b ∉ ex->H' b=none
 there:∀ b o,h.get? b=some o->b ∉ ex->∃ o',h'.get? b=some o'
 cM:∀ b xs,H b=some (.tup xs)->H' b=some (.tup xs)
 bR:∀ b o u,H b=some (.bf o u)->H' b=some (.bf o u)
 cN:∀ b ps,H b=some (.nc ps)->∃ more,H' b=some (.nc (ps++more))
section
variable {fs fs' ex ex':List Addr} {H H1 H2:Hp} {h h1 h2 h':Heap} {a x e:Addr} {o:HO}
theorem Un.any (u:Un fs ex H H1 h h1) {b:Addr} {ob:Obj} (q:h.get? b=some ob) (n:H b=none) (hx:b ∉ ex):∃ sl,h1.get? b=some {ob with slots:=sl}:=by
 by_cases hb:b∈fs
 .exact u.slot b ob q n hb hx
 .exact ⟨ob.slots,u.keep b ob q n hb hx⟩
theorem Un.kept (k:∀ b u,h.get? b=some u->h'.get? b=some u):Un fs ex H H h h':=
 ⟨fun b ob q _ _ _=>k b ob q,fun b ob q _ _ _=>⟨ob.slots,k b ob q⟩,fun _ _ _ n _=>n,fun b ob q _=>⟨ob,k b ob q⟩,fun _ _ q=>q,fun _ _ _ q=>q,fun _ ps q=>⟨#[],by rw [q];simp⟩⟩
theorem Un.refl:Un fs ex H H h h:=Un.kept fun _ _ q=>q
theorem Un.laid (k:∀ b u,h.get? b=some u->h'.get? b=some u) (hp:h.objs.size<=a) (hn:H a=none):Un fs ex H (upd H a o) h h' where
 keep:=fun b u q _ _ _=>k b u q
 slot:=fun b u q _ _ _=>⟨u.slots,k b u q⟩
 free:=fun b u q n _=>by rw [Ze (Yy (YD (Yl q) hp))];exact n
 there:=fun b u q _=>⟨u,k b u q⟩
 cM:=fun b xs q=>by rw [Ze (Zc q hn)];exact q
 bR:=fun b u xs q=>by rw [Ze (Zc q hn)];exact q
 cN:=fun b ps q=>⟨#[],by rw [Ze (Zc q hn),q];simp⟩
theorem Un.write (mu:yW (H x)) (he:e=x∨H e=some (.own x)) (k:∀ b u,b≠e->h.get? b=some u->h'.get? b=some u) (vo:∃ u,h'.get? e=some u):Un fs ex H (upd H x o) h h':=by
 have hx:∀ b,H b=none->b≠x:=fun b n z=>by subst z;rw [n] at mu;exact mu
 have hb:∀ b,H b=none->b≠e:=fun b n z=>by
  subst z;rcases he with r | r
  .exact hx b n r
  .rw [n] at r;cases r
 have hm:∀ b u,H b=some u->¬ yW (some u)->b≠x:=fun b u q nm z=>by subst z;rw [q] at mu;exact nm mu
 refine ⟨fun b u q n _ _=>k b u (hb b n) q,fun b u q n _ _=>⟨u.slots,k b u (hb b n) q⟩,fun b u q n _=>by rw [Ze (hx b n)];exact n,fun b u q _=>?_,
  fun b xs q=>by rw [Ze (hm b _ q fun z=>z)];exact q,fun b u xs q=>by rw [Ze (hm b _ q fun z=>z)];exact q,fun b ps q=>⟨#[],by rw [Ze (hm b _ q fun z=>z),q];simp⟩⟩
 by_cases tm:b=e
 .subst tm;exact vo
 .exact ⟨u,k b u tm q⟩
end
def AB (h:Heap) (H:Hp):List Addr:=(List.range h.objs.size).filter fun a=>(H a).isSome
def iI (h:Heap) (H:Hp):Heap:=YaY h (AB h H)
theorem ZuN (h:Heap) (H:Hp):(iI h H).objs.size=h.objs.size:=PySem.W.hideAll_size _ _
theorem ZvY {h:Heap} {H:Hp} {b:Addr} {o:Obj} (e:h.get? b=some o) (n:H b=none):(iI h H).get? b=some o:=
 Ybe _ e fun hm=>by
  have q:(H b).isSome=true:=(List.mem_filter.mp hm).2;rw [n] at q;simp at q
theorem Zw4 {h:Heap} {H:Hp} {b:Addr} {o:Obj} (e:(iI h H).get? b=some o):h.get? b=some o/\H b=none:=by
 have e':h.get? b=some o:=PySem.W.of_hideAll (AB h H) e;refine ⟨e',?_⟩
 cases q:H b with
 | none=>rfl
 | some x=>
  have hm:b∈AB h H:=List.mem_filter.mpr ⟨List.mem_range.mpr (Yl e'),by simp [q]⟩;have z:(iI h H).get? b=none:=PySem.W.hideAll_none (AB h H) hm;rw [z] at e;cases e
end L2
namespace L2
open PySem PySem.Spec PyProof.Rows
structure Mod (K:Yg) (mg:Str->Option Value) (base:Heap):Prop where
 xp:K.In base
 glob:base.Ns X7 mg
 blt:∃ mb,base.Ns builtinsNs mb/\∀ x:Str,x≠"__name__"->mb x=YaV x
 nolimit:base.NoLimit
structure Cx where
 prog:Program
 w:World
 K:Yg
 mg:Str->Option Value
 base:Heap
 A:Around
 N:List Str
 ax:Shared
 aP:Hp
 env:Env
 outer:List Env
 stack:List Env
 ex:List Addr
 fn:Str->Bool
 calm:Bool
 pn:List (Addr×Obj)
 xe:Value->Shared->Prop
def cg (l:List Env):List Addr:=l.filterMap (·.frame)
abbrev Cx.fs (X:Cx):List Addr:=cg X.outer
def Dr (sc:Scope) (x:Str):Prop:=sc.names.lookup x=some .local∨sc.names.lookup x=some .cell∨sc.names.lookup x=some .free
def Loc (sc:Scope) (x:Str):Prop:=sc.names.lookup x=some .local∨sc.names.lookup x=some .cell
def Look (env:Env) (h:Heap) (m:Str->Option Value) (x:Str) (u:Value):Prop:=
 (env.kindOf x=some .local/\m x=some u)∨((env.kindOf x=some .cell∨env.kindOf x=some .free)/\∃ c,env.cells.lookup x=some c/\h.IsCell c (some u))
structure Cx.Ok (X:Cx):Prop where
 mod:Mod X.K X.mg X.base
 kind:X.env.scope.kind=.function
 glob:X.env.globals=X7
 blt:X.env.builtins=builtinsNs
 above:X.ax.heap.objs.size<=X.env.locals
 inj:∀ x y c,X.env.cells.lookup x=some c->X.env.cells.lookup y=some c->x=y
 has:∀ x,(X.env.kindOf x=some .cell∨X.env.kindOf x=some .free)->∃ c,X.env.cells.lookup x=some c
 qb:∀ x c,X.fn x=true->X.env.cells.lookup x=some c->X.ax.heap.objs.size<=c
 hd:X.calm=true->X.A.handled=none
 frames:X.A.frames=some X.stack
 qH:X.stack=X.outer∨(X.stack=X.env::X.outer/\X.env.frame=some X.env.locals)
 vE:∀ b∈X.ex,b≠X.env.locals/\∀ x c,X.env.cells.lookup x=some c->c≠b
 bs:∀ b o,X.base.get? b=some o->X.ax.heap.get? b=some o/\X.aP b=none
 l8:X.base.objs.size<=X.ax.heap.objs.size
 iE:∀ b o,X.base.get? b=some o->b ∉ X.ex
 gy:∀ b∈X.ex,b ∉ X.fs
 bQ:X.ax.heap.FunFrames X.base X.outer
 nG:∀ b∈X.fs,X.aP b=none
structure Inv (X:Cx) (pins:List (Addr×Obj)) (σ:List (Option V)) (H:Hp) (s:Shared):Prop where
 ok:X.Ok
 os:s.os=X.ax.os
 bare:AllBare s.gens
 base:Un X.fs X.ex X.aP H X.ax.heap s.heap
 loc:∃ m,s.heap.Ns X.env.locals m/\∀ (i:Nat) (x:Str) (v:V),X.N[i]?=some x->σ[i]?=some (some v)->Dr X.env.scope x->∃ u,RelV v u/\Look X.env s.heap m x u
 cell:∀ x c,X.env.cells.lookup x=some c->∃ v,s.heap.IsCell c v
 free:H X.env.locals=none
 a_:∀ x c,X.env.cells.lookup x=some c->H c=none
 pin:∀ p∈X.pn++pins,s.heap.get? p.1=some p.2/\H p.1=none/\p.1≠X.env.locals/\p.1 ∉ X.fs/\∀ v,p.2.data≠.cell v
 ak:b_ X.prog X.w H s.heap
 len:σ.length=X.N.length
section
variable {X:Cx} {pins:List (Addr×Obj)} {σ:List (Option V)} {H H':Hp} {s:Shared} {h':Heap}
theorem Cx.Ok.Lq (ok:X.Ok) {b:Addr} {o:Obj} (e:X.base.get? b=some o):b ∉ X.fs:=fun hb=>by
 have:=(ok.bQ.mem hb).1
 rw [e] at this;cases this
theorem Inv.bs (I:Inv X pins σ H s):∀ b o,X.base.get? b=some o->s.heap.get? b=some o/\H b=none:=fun b o e=>
 ⟨I.base.keep b o (I.ok.bs b o e).1 (I.ok.bs b o e).2 (I.ok.Lq e) (I.ok.iE b o e),I.base.free b o (I.ok.bs b o e).1 (I.ok.bs b o e).2 (I.ok.iE b o e)⟩
theorem Inv.bk (I:Inv X pins σ H s):∀ b o,X.base.get? b=some o->s.heap.get? b=some o:=fun b o e=>(I.bs b o e).1
theorem Inv.mod (I:Inv X pins σ H s):Mod X.K X.mg X.base:=I.ok.mod
theorem Inv.cE (I:Inv X pins σ H s):X.K.In s.heap:=I.ok.mod.xp.keeps I.bk
theorem Inv.lt (I:Inv X pins σ H s):X.env.locals < s.heap.objs.size:=let ⟨_,hn,_⟩:=I.loc;hn.lt
theorem Inv.sz (I:Inv X pins σ H s):X.ax.heap.objs.size<=s.heap.objs.size:=Yn I.ok.above (W3 I.lt)
theorem Inv.Lp (I:Inv X pins σ H s) {a:Addr} (h:s.heap.objs.size<=a):a ∉ X.fs:=fun hb=>by
 obtain ⟨_,o,ho,_⟩:=I.ok.bQ.mem hb;exact absurd (YD (Yl ho) (Yn I.sz h)) (Y8 _)
theorem Inv.rm (I:Inv X pins σ H s):∀ x c,X.env.cells.lookup x=some c->c≠X.env.locals:=fun x c e z=>by
 obtain ⟨v,o,ho,hd⟩:=I.cell x c e;obtain ⟨m,⟨o',es,ep,fg,EB,_⟩,_⟩:=I.loc;rw [z,fg] at ho;cases ho;rw [EB] at hd;cases hd
theorem Inv.bQ (I:Inv X pins σ H s):s.heap.FunFrames X.base X.outer:=by
 have all:∀ (l:List Env),(∀ b∈cg l,b∈X.fs)->X.ax.heap.FunFrames X.base l->s.heap.FunFrames X.base l:=by
  intro l
  induction l with
  | nil=>intro _ _;trivial
  | cons env r ih=>
   intro hs hl;obtain ⟨hk,⟨L,o,hf,hn,ho,hd⟩,hr⟩:=hl;have hL:L∈X.fs:=hs L (by unfold cg;rw [Xg,hf];exact Yw);obtain ⟨sl,e⟩:=I.base.slot L o ho (I.ok.nG L hL) hL fun z=>I.ok.gy L z hL;exact ⟨hk,⟨L,_,hf,hn,e,hd⟩,ih (fun b hb=>hs b (by unfold cg;rw [Xg,hf];exact Yp _ hb)) hr⟩
 exact all X.outer (fun _ hb=>hb) I.ok.bQ
theorem Inv.stack (I:Inv X pins σ H s):s.heap.FunFrames X.base X.stack:=by
 rcases I.ok.qH with e | ⟨e,hf⟩
 .rw [e];exact I.bQ
 .rw [e];obtain ⟨m,hn,_⟩:=I.loc;refine .cons (by rw [I.ok.kind];decide) hf hn ?_ I.bQ;exact Heap.get?_none_of_le (Yn I.ok.l8 I.ok.above)
theorem Inv.cv (I:Inv X pins σ H s):∀ b∈cg X.stack,b∈X.env.locals::X.fs:=fun b hb=>by
 rcases I.ok.qH with e | ⟨e,hf⟩
 .rw [e] at hb;exact Yp _ hb
 .rw [e] at hb;unfold cg at hb;rw [Xg,hf] at hb;exact hb
theorem Inv.dB (I:Inv X pins σ H s):∀ b∈cg X.stack,H b=none:=fun b hb=>by
 rcases List.mem_cons.mp (I.cv b hb) with e | hb
 .rw [e];exact I.free
 .obtain ⟨_,o,ho,_⟩:=I.ok.bQ.mem hb;exact I.base.free b o ho (I.ok.nG b hb) fun z=>I.ok.gy b z hb
theorem Inv.step {g':Array GenState} {t':Nat} {d':Drawn} {ch:List Addr} (I:Inv X pins σ H s)
  (mJ:∀ b∈ch,(b∈X.ex∨X.ax.heap.objs.size<=b)/\b≠X.env.locals/\(∀ x c,X.env.cells.lookup x=some c->c≠b)/\∀ p∈X.pn++pins,p.1≠b)
  (keep:∀ b o,b≠X.env.locals->b ∉ X.fs->b ∉ ch->s.heap.get? b=some o->H b=none->h'.get? b=some o)
  (slot:∀ b o,b≠X.env.locals->b∈X.fs->b ∉ ch->s.heap.get? b=some o->H b=none->∃ sl,h'.get? b=some {o with slots:=sl}) (free:∀ b o,b ∉ ch->s.heap.get? b=some o->H b=none->H' b=none)
  (there:∀ b o,b ∉ ch->s.heap.get? b=some o->∃ o',h'.get? b=some o')
  (cM:∀ b xs,H b=some (.tup xs)->H' b=some (.tup xs)) (bR:∀ b o u,H b=some (.bf o u)->H' b=some (.bf o u)) (cN:∀ b ps,H b=some (.nc ps)->∃ more,H' b=some (.nc (ps++more)))
  (ns:∀ m,s.heap.Ns X.env.locals m->h'.Ns X.env.locals m) (ak:b_ X.prog X.w H' h') (hg:AllBare g') :
  Inv X pins σ H' {s with heap:=h',gens:=g',drawn:=d',toks:=t'}:=by
 have neL:∀ b o,X.ax.heap.get? b=some o->b≠X.env.locals:=fun b o e=>Yy (YD (Yl e) I.ok.above)
 have AQ:∀ b o,X.ax.heap.get? b=some o->b ∉ X.ex->b ∉ ch:=fun b o e hx hb=>by
  rcases (mJ b hb).1 with z | z
  .exact hx z
  .exact absurd (YD (Yl e) z) (Y8 _)
 have cellK:∀ x c,X.env.cells.lookup x=some c->∀ v,s.heap.IsCell c v->h'.IsCell c v:=fun x c e v ⟨o,ho,hd⟩=>by
  have xn:c ∉ ch:=fun z=>(mJ c z).2.2.1 x c e rfl
  by_cases hc:c∈X.fs
  .obtain ⟨sl,q⟩:=slot c o (I.rm x c e) hc xn ho (I.a_ x c e);exact ⟨_,q,hd⟩
  .exact ⟨o,keep c o (I.rm x c e) hc xn ho (I.a_ x c e),hd⟩
 refine ⟨I.ok,I.os,hg,⟨fun b o e n hb hx=>?_,fun b o e n hb hx=>?_,fun b o e n hx=>?_,fun b o e hx=>?_,fun b xs e=>cM b xs (I.base.cM b xs e),fun b o xs e=>bR b o xs (I.base.bR b o xs e),fun b ps e=>?_⟩,?_,fun x c e=>?_,?_,fun x c e=>?_,fun p hp=>?_,ak,I.len⟩
 .exact keep b o (neL b o e) hb (AQ b o e hx) (I.base.keep b o e n hb hx) (I.base.free b o e n hx)
 .obtain ⟨sl,e1⟩:=I.base.slot b o e n hb hx;obtain ⟨sl',e2⟩:=slot b _ (neL b o e) hb (AQ b o e hx) e1 (I.base.free b o e n hx);exact ⟨sl',e2⟩
 .obtain ⟨o',e1⟩:=I.base.there b o e hx;exact free b o' (AQ b o e hx) e1 (I.base.free b o e n hx)
 .obtain ⟨o',e1⟩:=I.base.there b o e hx;exact there b o' (AQ b o e hx) e1
 .obtain ⟨m1,e1⟩:=I.base.cN b ps e;obtain ⟨m2,e2⟩:=cN b _ e1;exact ⟨m1++m2,by rw [e2,Array.append_assoc]⟩
 .obtain ⟨m,hn,hl⟩:=I.loc;refine ⟨m,ns m hn,fun i x v e1 e2 e3=>?_⟩;obtain ⟨u,r,l⟩:=hl i x v e1 e2 e3;refine ⟨u,r,?_⟩;rcases l with l | ⟨k,c,e,z⟩
  .exact .inl l
  .exact .inr ⟨k,c,e,cellK x c e _ z⟩
 .obtain ⟨v,z⟩:=I.cell x c e;exact ⟨v,cellK x c e v z⟩
 .obtain ⟨m,⟨o,_,_,ho,_⟩,_⟩:=I.loc;exact free _ o (fun z=>(mJ _ z).2.1 rfl) ho I.free
 .obtain ⟨v,o,ho,hd⟩:=I.cell x c e;exact free c o (fun z=>(mJ c z).2.2.1 x c e rfl) ho (I.a_ x c e)
 .obtain ⟨e,n,ne,nf,d⟩:=I.pin p hp;have xn:p.1 ∉ ch:=fun z=>(mJ p.1 z).2.2.2 p hp rfl;exact ⟨keep p.1 p.2 ne nf xn e n,free p.1 p.2 xn e n,ne,nf,d⟩
theorem Inv.un {t':Nat} (I:Inv X pins σ H s) (u:Un X.fs [] H H' s.heap h') (ak:b_ X.prog X.w H' h'):Inv X pins σ H' {s with heap:=h',toks:=t'}:=by
 obtain ⟨m,⟨o,es,ep,ho,r⟩,_⟩:=id I.loc;obtain ⟨sl,hL⟩:=u.any ho I.free (by simp)
 exact I.step (g':=s.gens) (d':=s.drawn) (ch:=[]) (fun _ z=>nomatch z) (fun b o _ hb _ e n=>u.keep b o e n hb (by simp)) (fun b o _ hb _ e n=>u.slot b o e n hb (by simp)) (fun b o _ e n=>u.free b o e n (by simp)) (fun b o _ e=>u.there b o e (by simp)) u.cM u.bR u.cN (fun m' hm=>by
  obtain ⟨o',rf,rg,fg,r'⟩:=hm;rw [ho] at fg;cases fg;exact ⟨_,rf,rg,hL,r'⟩) ak I.bare
theorem Inv.call {g':Array GenState} {t':Nat} {d':Drawn} {ch:List Addr} (I:Inv X pins σ H s) (u:Un (cg X.stack) ch H H' s.heap h') (ak:b_ X.prog X.w H' h') (hg:AllBare g')
  (mJ:∀ b∈ch,(b∈X.ex∨X.ax.heap.objs.size<=b)/\b≠X.env.locals/\(∀ x c,X.env.cells.lookup x=some c->c≠b)/\∀ p∈X.pn++pins,p.1≠b) :
  Inv X pins σ H' {s with heap:=h',gens:=g',drawn:=d',toks:=t'}:=by
 obtain ⟨m,⟨o,es,ep,ho,r⟩,_⟩:=id I.loc;obtain ⟨sl,hL⟩:=u.any ho I.free fun z=>(mJ _ z).2.1 rfl
 exact I.step (ch:=ch) mJ (fun b o hL hb hc e n=>u.keep b o e n (fun z=>(List.mem_cons.mp (I.cv b z)).elim hL hb) hc) (fun b o _ _ hc e n=>u.any e n hc) (fun b o hc e n=>u.free b o e n hc) (fun b o hc e=>u.there b o e hc) u.cM u.bR u.cN (fun m' hm=>by
  obtain ⟨o',rf,rg,fg,r'⟩:=hm;rw [ho] at fg;cases fg;exact ⟨_,rf,rg,hL,r'⟩) ak hg
theorem Inv.turned {t':Nat} {it:Addr} (I:Inv X pins σ H s) (k:∀ b o,b≠it->s.heap.get? b=some o->h'.get? b=some o) (hn:H it=none) (hL:it≠X.env.locals)
  (h1:it∈X.ex∨X.ax.heap.objs.size<=it) (h2:∀ x c,X.env.cells.lookup x=some c->c≠it) (h3:∀ p∈X.pn++pins,p.1≠it):Inv X pins σ H {s with heap:=h',toks:=t'}:=by
 have qL:∀ b u,H b=some u->b≠it:=fun b u e z=>by rw [z,hn] at e;cases e
 refine I.step (g':=s.gens) (d':=s.drawn) (ch:=[it]) (fun b hb=>?_) (fun b o _ _ hc e _=>k b o (fun z=>hc (by simp [z])) e) (fun b o _ _ hc e _=>⟨o.slots,k b o (fun z=>hc (by simp [z])) e⟩) (fun _ _ _ _ n=>n)
  (fun b o hc e=>⟨o,k b o (fun z=>hc (by simp [z])) e⟩) (fun _ _ e=>e) (fun _ _ _ e=>e) (fun b ps e=>⟨#[],by rw [e];simp⟩) (fun m hm=>?_) (fun b u e=>?_) I.bare
 .have e:b=it:=by simpa using hb
  subst e;exact ⟨h1,hL,h2,h3⟩
 .obtain ⟨o,es,ep,ho,r⟩:=hm;exact ⟨o,es,ep,k _ o (WT hL) ho,r⟩
 .refine (I.ak b u e).dA (fun c v hc q=>k c v ?_ q) (fun _ q=>q) fun _ _ q=>q;rcases hc with z | z
  .rw [z];exact qL b u e
  .exact qL c _ z
theorem Inv.tok (I:Inv X pins σ H s) (t:Nat):Inv X pins σ H {s with toks:=t}:=I.un (h':=s.heap) (t':=t) Un.refl I.ak
theorem Inv.kept {t':Nat} (I:Inv X pins σ H s) (k:∀ b u,s.heap.get? b=some u->h'.get? b=some u):Inv X pins σ H {s with heap:=h',toks:=t'}:=I.un (Un.kept k) (I.ak.kept k)
theorem Inv.laid {a:Addr} {o:HO} {t':Nat} (I:Inv X pins σ H s) (k:∀ b u,s.heap.get? b=some u->h'.get? b=some u) (hp:s.heap.objs.size<=a) (new:bH X.prog X.w (upd H a o) h' a o) :
  Inv X pins σ (upd H a o) {s with heap:=h',toks:=t'}:=I.un (Un.laid k hp (I.ak.fresh hp)) (I.ak.laid k hp new)
theorem Inv.write {x e:Addr} {o:HO} {t':Nat} (I:Inv X pins σ H s) (mu:yW (H x)) (he:e=x∨H e=some (.own x)) (k:∀ b u,b≠e->s.heap.get? b=some u->h'.get? b=some u) (vo:∃ u,h'.get? e=some u)
  (new:bH X.prog X.w (upd H x o) h' x o):Inv X pins σ (upd H x o) {s with heap:=h',toks:=t'}:=I.un (Un.write mu he k vo) (I.ak.write mu he k vo new)
theorem Inv.lS {lF:List (Addr×Obj)} (I:Inv X pins σ H s) (h:∀ p∈lF,s.heap.get? p.1=some p.2/\H p.1=none/\p.1≠X.env.locals/\p.1 ∉ X.fs/\∀ v,p.2.data≠.cell v):Inv X lF σ H s:=
 ⟨I.ok,I.os,I.bare,I.base,I.loc,I.cell,I.free,I.a_,fun p hp=>(List.mem_append.mp hp).elim (fun z=>I.pin p (Ya9 _ z)) (h p),I.ak,I.len⟩
theorem Zsd {N:List Str} (hN:N.Nodup) {i j:Nat} {x:Str} (a:N[i]?=some x) (b:N[j]?=some x):i=j:=by
 obtain ⟨h1,e1⟩:=List.getElem?_eq_some_iff.mp a;obtain ⟨h2,e2⟩:=List.getElem?_eq_some_iff.mp b;exact (List.getElem_inj hN).mp (e1.trans e2.symm)
theorem Zpy {M:Model} {A:Around} {E:Value->Shared->Prop} {i:Nat} {x:Str} {v:V} {u:Value} {Q:Unit->Shared->Prop} (I:Inv X pins σ H s) (hN:X.N.Nodup) (hi:X.N[i]?=some x) (hx:Loc X.env.scope x) (r:RelV v u)
  (h:∀ s',Inv X pins (σ.set i (some v)) H s'->(∃ a,Xv a s.heap s'.heap/\(a=X.env.locals∨X.env.cells.lookup x=some a))->Q () s') (hf:X.fn x=true∨X.env.scope.names.lookup x=some .local:=by first | exact .inl rfl | exact .inr rfl | assumption):wpAny M A (storeName X.env x u) Q E s:=by
 obtain ⟨m,hn,hl⟩:=id I.loc;have LV:(X.env.scope.kind == .class || (X.env.scope.kind == .module && X.env.locals != X.env.globals))=false:=by rw [I.ok.kind];rfl
 have zN:i < σ.length:=by rw [I.len];exact (List.getElem?_eq_some_iff.mp hi).1
 have rm:=I.rm
 have tracked:∀ {a:Addr} {h':Heap},(∃ o,s.heap.get? a=some o/\H a=none)->Xv a s.heap h'->b_ X.prog X.w H h':=fun {a h'} ha hs b ob e=>by
  obtain ⟨_,_,eL⟩:=ha;refine (I.ak b ob e).dA (fun c w' hc q=>(hs.2 c ?_).trans q) (fun _ q=>q) fun _ _ q=>q
  rintro rfl
  rcases hc with rfl | hc
  .rw [eL] at e;cases e
  .rw [eL] at hc;cases hc
 rcases hx with hk | hk
 .refine wpAny_storeName_local hk hn (fun h' nr hs=>?_) LV;obtain ⟨oL,_,_,hoL,_⟩:=id hn;refine h _ ⟨I.ok,I.os,I.bare,⟨fun b o e n hb hx=>?_,fun b o e n hb hx=>?_,I.base.free,fun b o e hx=>?_,I.base.cM,I.base.bR,I.base.cN⟩,⟨_,nr,fun j y v' e1 e2 e3=>?_⟩,fun y c e=>?_,I.free,I.a_,fun p hp=>?_,tracked ⟨oL,hoL,I.free⟩ hs,by simpa using I.len⟩ ⟨_,hs,.inl rfl⟩
  .exact (hs.2 b (Yy (YD (Yl e) I.ok.above))).trans (I.base.keep b o e n hb hx)
  .obtain ⟨sl,e1⟩:=I.base.slot b o e n hb hx;exact ⟨sl,(hs.2 b (Yy (YD (Yl e) I.ok.above))).trans e1⟩
  .obtain ⟨o',e1⟩:=I.base.there b o e hx;exact ⟨o',(hs.2 b (Yy (YD (Yl e) I.ok.above))).trans e1⟩
  .by_cases hj:j=i
   .subst hj;rw [hi] at e1;cases e1;rw [YaS zN] at e2
    cases e2
    exact ⟨u,r,.inl ⟨hk,by simp⟩⟩
   .rw [Yba (WT hj)] at e2;obtain ⟨u',r',q⟩:=hl j y v' e1 e2 e3;refine ⟨u',r',?_⟩;rcases q with ⟨k,e⟩ | ⟨k,c,e,z⟩
    .refine .inl ⟨k,?_⟩
     have:y≠x:=fun e=>hj (Zsd hN e1 (e ▸ hi))
     simp [this,e]
    .exact .inr ⟨k,c,e,z.sameBut hs (rm y c e)⟩
  .obtain ⟨w',z⟩:=I.cell y c e;exact ⟨w',z.sameBut hs (rm y c e)⟩
  .obtain ⟨e,n,ne,nf,d⟩:=I.pin p hp;exact ⟨(hs.2 p.1 ne).trans e,n,ne,nf,d⟩
 .have Ex:X.fn x=true:=by
   rcases hf with z | z
   .exact z
   .rw [z] at hk;cases hk
  obtain ⟨c,hc⟩:=I.ok.has x (.inl hk);obtain ⟨w',z⟩:=I.cell x c hc;refine wpAny_storeName_cell I.ok.kind hk hc z (fun h' p7 hs=>?_);obtain ⟨oc,hoc,LN⟩:=id z;refine h {s with heap:=h'} ⟨I.ok,I.os,I.bare,⟨fun b o e n hb hx=>?_,fun b o e n hb hx=>?_,I.base.free,fun b o e hx=>?_,I.base.cM,I.base.bR,I.base.cN⟩,⟨m,hn.sameBut hs (WT (rm x c hc)),fun j y v' e1 e2 e3=>?_⟩,fun y c' e=>?_,I.free,I.a_,fun p hp=>?_,tracked ⟨oc,hoc,I.a_ x c hc⟩ hs,by simpa using I.len⟩ ⟨c,hs,.inr hc⟩
  .exact (hs.2 b (Yy (YD (Yl e) (I.ok.qb x c Ex hc)))).trans (I.base.keep b o e n hb hx)
  .obtain ⟨sl,e1⟩:=I.base.slot b o e n hb hx;exact ⟨sl,(hs.2 b (Yy (YD (Yl e) (I.ok.qb x c Ex hc)))).trans e1⟩
  .obtain ⟨o',e1⟩:=I.base.there b o e hx;exact ⟨o',(hs.2 b (Yy (YD (Yl e) (I.ok.qb x c Ex hc)))).trans e1⟩
  .by_cases hj:j=i
   .subst hj;rw [hi] at e1;cases e1;rw [YaS zN] at e2
    cases e2
    exact ⟨u,r,.inr ⟨.inl hk,c,hc,p7⟩⟩
   .rw [Yba (WT hj)] at e2;obtain ⟨u',r',q⟩:=hl j y v' e1 e2 e3;refine ⟨u',r',?_⟩;rcases q with q | ⟨k,c',e,z'⟩
    .exact .inl q
    .refine .inr ⟨k,c',e,z'.sameBut hs ?_⟩
     rintro rfl
     exact hj (Zsd hN e1 (I.ok.inj _ _ _ e hc ▸ hi))
  .by_cases hcc:c'=c
   .subst hcc;exact ⟨_,p7⟩
   .obtain ⟨w2,z2⟩:=I.cell y c' e;exact ⟨w2,z2.sameBut hs hcc⟩
  .obtain ⟨e,n,ne,nf,d⟩:=I.pin p hp;refine ⟨(hs.2 p.1 ?_).trans e,n,ne,nf,d⟩;intro q;rw [q,hoc] at e;have q':oc=p.2:=Yu e;exact d w' (by rw [<- q'];exact LN)
theorem Gn {M:Model} {A:Around} {E:Value->Shared->Prop} {i:Nat} {x:Str} {v:V} {u:Value} {Q:Unit->Shared->Prop} (I:Inv X pins σ H s) (hN:X.N.Nodup) (hi:X.N[i]?=some x) (hx:Loc X.env.scope x) (r:RelV v u)
  (h:∀ s',Inv X pins (σ.set i (some v)) H s'->Q () s') (hf:X.fn x=true∨X.env.scope.names.lookup x=some .local:=by first | exact .inl rfl | exact .inr rfl | assumption):wpAny M A (storeName X.env x u) Q E s:=
 Zpy I hN hi hx r (fun s' I' _=>h s' I') hf
theorem Inv.sk {s':Shared} {ch:List Addr} (I:Inv X pins σ H s) (ho:s'.os=s.os) (u:Un (cg X.stack) ch H H' s.heap s'.heap) (ak:b_ X.prog X.w H' s'.heap) (hg:AllBare s'.gens)
  (mJ:∀ b∈ch,(b∈X.ex∨X.ax.heap.objs.size<=b)/\b≠X.env.locals/\(∀ x c,X.env.cells.lookup x=some c->c≠b)/\∀ p∈X.pn++pins,p.1≠b):Inv X pins σ H' s':=by
 obtain ⟨h',g',d',t',o'⟩:=s';have e:o'=s.os:=ho;subst e;exact I.call (g':=g') (t':=t') (d':=d') u ak hg mJ
end
abbrev XK:=Value->Option Addr->Hp->Prop
abbrev St:=List (Option V)
abbrev VK:=V->Hp->Prop
abbrev TE:=St->Hp->VK->Prop
abbrev TT:=St->Hp->(Bool->Hp->Prop)->Prop
abbrev TA:=St->Hp->(List V->Hp->Prop)->Prop
structure Ends where
 nx:St->Hp->Prop
 rt:VK
 bk:St->Hp->Prop:=fun _ _=>False
 ct:St->Hp->Prop:=fun _ _=>False
abbrev TS:=Ends->St->Hp->Prop
def EP (X:Cx) (pins:List (Addr×Obj)) (σ:St) (Q:VK) (u:Value) (s':Shared):Prop:=∃ v H',Inv X pins σ H' s'/\RelV v u/\Q v H'
def TP (X:Cx) (pins:List (Addr×Obj)) (σ:St) (Q:Bool->Hp->Prop) (b:Bool) (s':Shared):Prop:=∃ H',Inv X pins σ H' s'/\Q b H'
def AP (X:Cx) (pins:List (Addr×Obj)) (σ:St) (Q:List V->Hp->Prop) (us:List Value) (s':Shared):Prop:=∃ vs H',Inv X pins σ H' s'/\Vals vs us/\Q vs H'
def SP (X:Cx) (pins:List (Addr×Obj)) (D:Ends) (f:Flow) (s':Shared):Prop:=
 match f with
 | .next=>∃ ar H',Inv X pins ar H' s'/\D.nx ar H'
 | .brk=>∃ ar H',Inv X pins ar H' s'/\D.bk ar H'
 | .cont=>∃ ar H',Inv X pins ar H' s'/\D.ct ar H'
 | .ret u=>∃ v ar H',Inv X pins ar H' s'/\RelV v u/\D.rt v H'
@[irreducible] def PE (X:Cx) (e:Expr) (t:TE):Prop:=
 ∀ (pins:List (Addr×Obj)) (s:Shared) (σ:St) (H:Hp) (Q:VK),Inv X pins σ H s->t σ H Q->wpAny (model X.prog X.w) X.A (eval e X.env) (EP X pins σ Q) X.xe s
def PT (X:Cx) (e:Expr) (t:TT):Prop:=
 ∀ (pins:List (Addr×Obj)) (s:Shared) (σ:St) (H:Hp) (Q:Bool->Hp->Prop),Inv X pins σ H s->t σ H Q->wpAny (model X.prog X.w) X.A (isTrue e X.env (eval e X.env)) (TP X pins σ Q) X.xe s
def PW (X:Cx) (e:Expr) (t:TT):Prop:=
 ∀ (whole:Sem Value) (pins:List (Addr×Obj)) (s:Shared) (σ:St) (H:Hp) (Q:Bool->Hp->Prop),Inv X pins σ H s->t σ H Q->wpAny (model X.prog X.w) X.A (isTrue e X.env whole) (TP X pins σ Q) X.xe s
theorem PW.pt {X:Cx} {e:Expr} {t:TT} (h:PW X e t):PT X e t:=h _
@[irreducible] def PA (X:Cx) (es:List Expr) (t:TA):Prop:=
 ∀ (pos:Pos) (pins:List (Addr×Obj)) (s:Shared) (σ:St) (H:Hp) (Q:List V->Hp->Prop),Inv X pins σ H s->t σ H Q->wpAny (model X.prog X.w) X.A (spliced (Wx pos (YF es X.env))) (AP X pins σ Q) X.xe s
@[irreducible] def PS (X:Cx) (st:Stmt) (t:TS):Prop:=
 ∀ (pins:List (Addr×Obj)) (s:Shared) (σ:St) (H:Hp) (D:Ends),Inv X pins σ H s->t D σ H->wpAny (model X.prog X.w) X.A (exec st X.env) (SP X pins D) X.xe s
@[irreducible] def d7 (X:Cx) (st:List Stmt) (t:TS):Prop:=
 ∀ (pins:List (Addr×Obj)) (s:Shared) (σ:St) (H:Hp) (D:Ends),Inv X pins σ H s->t D σ H->wpAny (model X.prog X.w) X.A (execs st X.env) (SP X pins D) X.xe s
theorem az {α:Type} {t:Sem α} {Q Q':α->Shared->Prop} {M:Model} {A:Around} {E:Value->Shared->Prop} {s:Shared} (h:wpAny M A t Q E s) (hQ:∀ a s,Q a s->Q' a s):wpAny M A t Q' E s:=Xa h hQ fun _ _ x=>x
end L2
namespace L2
open PySem PySem.Spec PyProof.Rows
section
variable {X:Cx}
inductive bA (i:Nat) (σ:St) (H:Hp) (Q:VK):Prop
 | mk (v:_):σ[i]?=some (some v)->Q v H->bA i σ H Q
def tC (v:V):TE:=fun _ H Q=>Q v H
theorem Zx9 {i:Nat} {x:Str} {pos:Pos} (hN:X.N[i]?=some x) (hv:Dr X.env.scope x) (hd:(x == ("__debug__":Str))=false:=by decide) (lW:(x == ("__classdict__":Str))=false:=by decide):PE X (.Name x pos) (bA i):=by
 try unfold PE at *
 intro pins s σ H Q I h;obtain ⟨v,e,h⟩:=h;obtain ⟨m,hn,hl⟩:=I.loc;obtain ⟨u,r,l⟩:=hl i x v hN e hv;have fin:EP X pins σ Q u s:=⟨v,H,I,r,h⟩
 rcases l with ⟨hk,hm⟩ | ⟨hk,c,hc,lH⟩
 .exact wpAny_Name (wpAny_loadName_local I.ok.kind hk hn hm fin) hd
 .rcases hk with hk | hk
  .exact wpAny_Name (wpAny_loadName_cell I.ok.kind hk hc lH fin) hd
  .exact wpAny_Name (wpAny_loadName_free I.ok.kind hk hc lH fin lW) hd
theorem Zo {i j pos}:PE X (.Constant (.int i) j pos) (tC (.int i)):=by
 try unfold PE at *
 exact fun _ _ _ H _ I h=>wpAny_Constant_int ⟨.int i,H,I.tok _,⟨_,rfl⟩,h⟩
theorem mM {b j pos}:PE X (.Constant (.bool b) j pos) (tC (.bl b)):=by
 try unfold PE at *
 exact fun _ _ _ H _ I h=>Constant_bool ⟨.bl b,H,I,rfl,h⟩
theorem yj {j pos}:PE X (.Constant .none j pos) (tC .aH):=by
 try unfold PE at *
 exact fun _ _ _ H _ I h=>Constant_none ⟨.aH,H,I,rfl,h⟩
theorem ZY {x j pos}:PE X (.Constant (.str x) j pos) (tC (.str x)):=by
 try unfold PE at *
 exact fun _ _ _ H _ I h=>Calls.Constant_str ⟨.str x,H,I.tok _,⟨_,rfl⟩,h⟩
def Gl (X:Cx) (x:Str):Prop:=X.env.kindOf x=some .globalImplicit
theorem wj {E:Value->Shared->Prop} {pins:List (Addr×Obj)} {s:Shared} {σ:St} {H:Hp} {x:Str} {u:Value} {pos:Pos} {Q:Value->Shared->Prop} (I:Inv X pins σ H s) (hg:Gl X x) (hm:X.mg x=some u) (h:Q u s)
  (hd:(x == ("__debug__":Str))=false:=by decide):wpAny (model X.prog X.w) X.A (eval (.Name x pos) X.env) Q E s:=
 Calls.Name_function_global I.ok.kind hg (Calls.loadGlobal_global (by rw [I.ok.glob];exact I.mod.glob.keeps I.bk) hm h) hd
theorem tW {E:Value->Shared->Prop} {pins:List (Addr×Obj)} {s:Shared} {σ:St} {H:Hp} {x:Str} {u:Value} {pos:Pos} {Q:Value->Shared->Prop} (I:Inv X pins σ H s) (hg:Gl X x) (hm:X.mg x=none) (hv:YaV x=some u) (h:Q u s)
  (hn:x≠"__name__":=by decide) (hd:(x == ("__debug__":Str))=false:=by decide):wpAny (model X.prog X.w) X.A (eval (.Name x pos) X.env) Q E s:=by
 obtain ⟨mb,h1,h2⟩:=I.mod.blt;exact Calls.Name_function_global I.ok.kind hg (Calls.loadGlobal_builtin (by rw [I.ok.glob];exact I.mod.glob.keeps I.bk) hm (by rw [I.ok.blt];exact h1.keeps I.bk) ((h2 x hn).trans hv) h) hd
theorem Zs {x:Str} {v:V} {u:Value} {pos:Pos} (hg:Gl X x) (hm:X.mg x=some u) (r:RelV v u) (hd:(x == ("__debug__":Str))=false:=by decide):PE X (.Name x pos) (tC v):=by
 try unfold PE at *
 exact
  fun _ _ _ H _ I h=>wj I hg hm ⟨v,H,I,r,h⟩ hd
variable {a b:Expr} {ta tb:TE} {pos:Pos}
def PC (X:Cx) (op:CmpOp) (a b:Expr) (t:TE):Prop:=
 ∀ (pins:List (Addr×Obj)) (s:Shared) (σ:St) (H:Hp) (Q:VK),Inv X pins σ H s->t σ H Q->
  wpAny (model X.prog X.w) X.A (eval a X.env) (fun v aC=>wpAny (model X.prog X.w) X.A (eval b X.env) (fun u ef=>wpAny (model X.prog X.w) X.A (XE op v u) (EP X pins σ Q) X.xe ef) X.xe aC) X.xe s
theorem Zse (b:Expr) {op:CmpOp} (h:op≠.In) (h2:op≠.NotIn):Wq op b=false:=by
 have e1:(op == CmpOp.In)=false:=by cases op <;> first | rfl | exact absurd rfl h
 have e2:(op == CmpOp.NotIn)=false:=by cases op <;> first | rfl | exact absurd rfl h2
 cases b <;> simp [Wq,e1,e2]
def K' (ta:TE):TE:=fun σ H Q=>ta σ H fun x H1=>Q (.bl (decide (x=.aH))) H1
def Zy2 (ta:TE):TE:=fun σ H Q=>ta σ H fun x H1=>Q (.bl (!decide (x=.aH))) H1
theorem RelV.jQ {x:V} {v:Value} (r:RelV x v):(v == Value.none)=decide (x=.aH):=by
 cases x with
 | aH=>cases r;rfl
 | bl _=>cases r;rfl
 | int _=>obtain ⟨t,rfl⟩:=r;rfl
 | str _=>obtain ⟨t,rfl⟩:=r;rfl
 | jY _=>obtain ⟨t,rfl⟩:=r;rfl
 | q_ _=>obtain ⟨t,rfl⟩:=r;rfl
 | ref _=>cases r;rfl
 | ty _=>cases r;rfl
theorem vV {j pos'} (ha:PE X a ta):PC X .Is a (.Constant .none j pos') (K' ta):=by
 try unfold PE at *
 intro pins s σ H Q I h;refine az (ha pins s σ H _ I h) fun v s1 ⟨x,H1,I1,r1,q1⟩=>?_;exact Constant_none (is_none_gen ⟨.bl _,H1,I1,by rw [r1.jQ];rfl,q1⟩)
theorem Zud {j pos'} (ha:PE X a ta):PC X .IsNot a (.Constant .none j pos') (Zy2 ta):=by
 try unfold PE at *
 intro pins s σ H Q I h;refine az (ha pins s σ H _ I h) fun v s1 ⟨x,H1,I1,r1,q1⟩=>?_;exact Constant_none (isnot_none_gen ⟨.bl _,H1,I1,by rw [r1.jQ];rfl,q1⟩)
inductive E4  (x:V) (H1:Hp) (Q:Bool->Hp->Prop):Prop
 | mk (c:_):x=.bl c->Q c H1->E4 x H1 Q
def tB (t:TE):TT:=fun σ H Q=>t σ H fun x H1=>E4 x H1 Q
theorem Zwn {op:CmpOp} {t:TE} (h:PC X op a b t) (h1:Wq op b=false:=by first | exact Zse _ (by decide) (by decide) | rfl):PE X (.Compare a [op] [b] pos) t:=by
 try unfold PE at *
 exact fun pins s σ H Q I hw=>wpAny_Compare1 (h pins s σ H Q I hw) h1
theorem fo {op:CmpOp} {t:TE} (h:PC X op a b t) (h1:Wq op b=false:=by first | exact Zse _ (by decide) (by decide) | rfl):PT X (.Compare a [op] [b] pos) (tB t):=by
 try unfold PE at *;try unfold PA at *
 intro pins s σ H Q I hw;refine wpAny_isTrue_Compare1 (az (h pins s σ H _ I hw) fun v s1 h1=>az h1 fun u s2 h2=>az h2 fun c s3 ⟨x,H1,I1,r1,q1⟩=>?_) h1;obtain ⟨d,rfl,q⟩:=q1
 cases r1
 exact XI ⟨H1,I1,q⟩
theorem ll {e:Expr} {t:TE} (h:PE X e t) (he:∀ whole,isTrue e X.env whole=(do let v <- whole;standAt e.pos;holding [v] (truthy v)):=by intro _;rfl):PT X e (tB t):=by
 try unfold PE at *
 intro pins s σ H Q I hw;refine isTrue_plain (az (h pins s σ H _ I hw) fun v s1 ⟨x,H1,I1,r1,q1⟩=>?_) (he _);obtain ⟨d,rfl,q⟩:=q1
 cases r1
 exact XI ⟨H1,I1,q⟩
variable {tA AD:TT} {rest:List Expr}
def Lf (t u:TT):TT:=fun σ H Q=>t σ H fun c H1=>if c=true then u σ H1 Q else Q false H1
def tOr (t u:TT):TT:=fun σ H Q=>t σ H fun c H1=>if c=true then Q true H1 else u σ H1 Q
def K_ (t:TT):TT:=fun σ H Q=>t σ H fun c H1=>Q (!c) H1
theorem ZwX (ha:PT X a tA):PW X (.BoolOp .And [a] pos) tA:=by
 try unfold PE at *;try unfold PA at *
 intro wh pins s σ H Q I h;refine isTrue_and (az (ha pins s σ H Q I h) fun c s1 e=>?_)
 cases c with
 | true=>exact isTrue_and_nil e
 | false=>exact e
theorem nO (ha:PT X a tA):PW X (.BoolOp .Or [a] pos) tA:=by
 try unfold PE at *;try unfold PA at *
 intro wh pins s σ H Q I h;refine isTrue_or (az (ha pins s σ H Q I h) fun c s1 e=>?_)
 cases c with
 | false=>exact isTrue_or_nil e
 | true=>exact e
theorem Zx2 (ha:PT X a tA) (hb:PW X (.BoolOp .And (b::rest) pos) AD):PW X (.BoolOp .And (a::b::rest) pos) (Lf tA AD):=by
 try unfold PE at *;try unfold PA at *
 intro wh pins s σ H Q I h;refine isTrue_and (az (ha pins s σ H _ I h) fun c s1 ⟨H1,I1,q1⟩=>?_)
 cases c with
 | true=>exact hb wh pins s1 σ H1 Q I1 q1
 | false=>exact ⟨H1,I1,q1⟩
theorem lj (ha:PT X a tA) (hb:PW X (.BoolOp .Or (b::rest) pos) AD):PW X (.BoolOp .Or (a::b::rest) pos) (tOr tA AD):=by
 try unfold PE at *;try unfold PA at *
 intro wh pins s σ H Q I h;refine isTrue_or (az (ha pins s σ H _ I h) fun c s1 ⟨H1,I1,q1⟩=>?_)
 cases c with
 | true=>exact ⟨H1,I1,q1⟩
 | false=>exact hb wh pins s1 σ H1 Q I1 q1
theorem px (ha:PT X a tA):PT X (.UnaryOp .Not a pos) (K_ tA):=by
 try unfold PE at *;try unfold PA at *
 intro pins s σ H Q I h;exact isTrue_not (ha pins s σ H (fun c H1=>Q (!c) H1) I h)
def K9 (ta tb:TE):TE:=fun σ H Q=>ta σ H fun x H1=>∃ c,x=.bl c/\if c=true then Q (.bl true) H1 else tb σ H1 Q
theorem Zwm {op} {t:TE} (h:PE X a t):PE X (.BoolOp op [a] pos) t:=by
 try unfold PE at *
 exact fun pins s σ H Q I hw=>BoolOp_one (h pins s σ H Q I hw)
theorem Zya (ha:PE X a ta) (hb:PE X (.BoolOp .Or (b::rest) pos) tb):PE X (.BoolOp .Or (a::b::rest) pos) (K9 ta tb):=by
 try unfold PE at *
 intro pins s σ H Q I h;refine BoolOp_or (az (ha pins s σ H _ I h) fun v s1 ⟨x,H1,I1,r1,q1⟩=>?_);obtain ⟨c,rfl,q1⟩:=q1
 cases r1
 refine XI ?_
 cases c with
 | false=>exact hb pins s1 σ H1 Q I1 q1
 | true=>exact ⟨.bl true,H1,I1,rfl,q1⟩
def tIf (t:TT) (ta tb:TE):TE:=fun σ H Q=>t σ H fun c H1=>if c=true then ta σ H1 Q else tb σ H1 Q
theorem Zsb {c:Expr} (hc:PT X c tA) (ha:PE X a ta) (hb:PE X b tb):PE X (.IfExp c a b pos) (tIf tA ta tb):=by
 try unfold PE at *
 intro pins s σ H Q I h;refine wpAny_IfExp (az (hc pins s σ H _ I h) fun d s1 ⟨H1,I1,q1⟩=>?_)
 cases d with
 | true=>exact ha pins s1 σ H1 Q I1 q1
 | false=>exact hb pins s1 σ H1 Q I1 q1
end
end L2
namespace L2
open PySem PySem.Spec PyProof.Rows
def ay (K:Yg) (H:Hp) (a:Addr) (xs:List V):Prop:=
 Rd H a (.lst xs)∨
  ∃ (o:Obj) (its:Array Value) (n:Nat),K.lookup a=some o/\o.cls=.type "list"/\o.dict=none/\o.data=.seq its n/\its.size<=Yj/\Vals xs its.toList
def av (K:Yg) (H:Hp) (a:Addr) (xs:List V):Prop:=
 Rd H a (.tup xs)∨
  ∃ (o:Obj) (its:Array Value) (n:Nat),K.lookup a=some o/\o.cls=.type "tuple"/\o.data=.seq its n/\its.size<=Yj/\Vals xs its.toList
def Mg:Value->Option V
 | .none=>some .aH
 | .bool b=>some (.bl b)
 | .int i _=>some (.int i)
 | .str x _=>some (.str x)
 | .bytes b _=>some (.jY b)
 | .float b _=>some (.q_ b)
 | .ref a=>some (.ref a)
 | .type n=>some (.ty n)
 | _=>none
theorem RelV.abs {x:V} {u:Value} (r:RelV x u):Mg u=some x:=by
 cases x with
 | aH=>cases r;rfl
 | bl _=>cases r;rfl
 | int _=>obtain ⟨t,rfl⟩:=r;rfl
 | str _=>obtain ⟨t,rfl⟩:=r;rfl
 | jY _=>obtain ⟨t,rfl⟩:=r;rfl
 | q_ _=>obtain ⟨t,rfl⟩:=r;rfl
 | ref _=>cases r;rfl
 | ty _=>cases r;rfl
theorem RelV.inj {x y:V} {u:Value} (r:RelV x u) (q:RelV y u):x=y:=Yu (r.abs.symm.trans q.abs)
theorem Vals.inj:∀ {xs ys:List V} {us:List Value},Vals xs us->Vals ys us->xs=ys
 | _,_,_,.nil,.nil=>rfl
 | _,_,_,.cons r t,.cons r' t'=>by rw [r.inj r',Vals.inj t t']
section
variable {X:Cx} {pins:List (Addr×Obj)} {σ:St} {H:Hp} {s:Shared} {a:Addr} {xs ys:List V}
theorem ay.of {K:Yg} (h:H a=some (.lst xs)):ay K H a xs:=.inl (.inl h)
theorem av.of {K:Yg} (h:H a=some (.tup xs)):av K H a xs:=.inl (.inl h)
theorem Inv.list (I:Inv X pins σ H s) (h:ay X.K H a xs):∃ its:List Value,Vals xs its/\PlainL s.heap a its.toArray/\xs.length<=Yj:=by
 rcases h with h | ⟨o,its,n,hk,hc,hd,hs,hz,r⟩
 .obtain ⟨z,its,n,r,e⟩:=h.ok I.ak;exact ⟨its,r,⟨_,n,e,rfl,rfl,rfl⟩,z⟩
 .refine ⟨its.toList,r,⟨o,n,I.cE a o hk,hc,hd,by simpa using hs⟩,?_⟩;have e:=r.length
  simp only [YQ] at e
  omega
theorem Inv.tuple (I:Inv X pins σ H s) (h:av X.K H a xs):∃ its:List Value,Vals xs its/\IsTup s.heap a its.toArray/\xs.length<=Yj:=by
 rcases h with h | ⟨o,its,n,hk,hc,hs,hz,r⟩
 .obtain ⟨z,its,r,p⟩:=h.ok I.ak;exact ⟨its,r,p,z⟩
 .refine ⟨its.toList,r,⟨o,I.cE a o hk,hc,n,by simpa using hs⟩,?_⟩;have e:=r.length
  simp only [YQ] at e
  omega
theorem Inv.jR (I:Inv X pins σ H s) (h:ay X.K H a xs) (h':ay X.K H a ys):xs=ys:=by
 obtain ⟨its,r,⟨o,n,e,_,_,d⟩,_⟩:=I.list h;obtain ⟨its',r',⟨o',n',e',_,_,d'⟩,_⟩:=I.list h';rw [e] at e';cases e';rw [d] at d';injection d' with d1 _
 have:its=its':=by simpa using congrArg Array.toList d1
 subst this;exact r.inj r'
theorem Inv.eo (I:Inv X pins σ H s) (h:av X.K H a xs) (h':av X.K H a ys):xs=ys:=by
 obtain ⟨its,r,⟨o,e,_,n,d⟩,_⟩:=I.tuple h;obtain ⟨its',r',⟨o',e',_,n',d'⟩,_⟩:=I.tuple h';rw [e] at e';cases e';rw [d] at d';injection d' with d1 _
 have:its=its':=by simpa using congrArg Array.toList d1
 subst this;exact r.inj r'
end
abbrev Cx.fz (X:Cx) (E:Value->Shared->Prop):Cx:={X with xe:=E}
abbrev Cx.u5 (X:Cx):Cx:=X.fz fun _ _=>False
theorem Cx.Ok.fz {X:Cx} (ok:X.Ok) (E:Value->Shared->Prop):(X.fz E).Ok:=
 ⟨ok.mod,ok.kind,ok.glob,ok.blt,ok.above,ok.inj,ok.has,ok.qb,ok.hd,ok.frames,ok.qH,ok.vE,ok.bs,ok.l8,ok.iE,ok.gy,ok.bQ,ok.nG⟩
theorem Cx.Ok.bp {X:Cx} {E:Value->Shared->Prop} (ok:(X.fz E).Ok):X.Ok:=
 ⟨ok.mod,ok.kind,ok.glob,ok.blt,ok.above,ok.inj,ok.has,ok.qb,ok.hd,ok.frames,ok.qH,ok.vE,ok.bs,ok.l8,ok.iE,ok.gy,ok.bQ,ok.nG⟩
section
variable {X:Cx} {pins:List (Addr×Obj)} {σ:St} {H:Hp} {s:Shared} {E:Value->Shared->Prop}
theorem Inv.fz (I:Inv X pins σ H s) (E:Value->Shared->Prop):Inv (X.fz E) pins σ H s:=⟨I.ok.fz E,I.os,I.bare,I.base,I.loc,I.cell,I.free,I.a_,I.pin,I.ak,I.len⟩
theorem Inv.bp (I:Inv (X.fz E) pins σ H s):Inv X pins σ H s:=⟨I.ok.bp,I.os,I.bare,I.base,I.loc,I.cell,I.free,I.a_,I.pin,I.ak,I.len⟩
theorem SP.bp {D:Ends} {f:Flow} {s':Shared} (h:SP (X.fz E) pins D f s'):SP X pins D f s':=by
 cases f with
 | next=>obtain ⟨ar,H',I,q⟩:=h;exact ⟨ar,H',I.bp,q⟩
 | brk=>obtain ⟨ar,H',I,q⟩:=h;exact ⟨ar,H',I.bp,q⟩
 | cont=>obtain ⟨ar,H',I,q⟩:=h;exact ⟨ar,H',I.bp,q⟩
 | ret u=>obtain ⟨v,ar,H',I,r,q⟩:=h;exact ⟨v,ar,H',I.bp,r,q⟩
theorem d7.u5 {st:List Stmt} {t:TS} (h:d7 X.u5 st t):d7 X st t:=by
 try unfold d7 at *
 exact fun pins s σ H D I hw=>
  Xa (h pins s σ H D (I.fz _) hw) (fun _ _ q=>q.bp) fun _ _ z=>X0 z
end
section
variable {X:Cx} {st:Stmt} {rest:List Stmt} {t u:TS} {e:Expr} {te:TE} {pos:Pos}
def ZxP:TS:=fun D σ H=>D.nx σ H
def y9 (t u:TS):TS:=fun D σ H=>t {D with nx:=u D} σ H
theorem Zy:d7 X [] ZxP:=by
 try unfold d7 at *
 exact fun _ _ σ H _ I h=>Yag ⟨σ,H,I,h⟩
theorem Zd (h1:PS X st t) (h2:d7 X rest u):d7 X (st::rest) (y9 t u):=by
 try unfold PS at *;try unfold d7 at *
 intro pins s σ H D I h;refine wpAny_execs_cons (az (h1 pins s σ H {D with nx:=u D} I h) fun f s1 q=>?_)
 cases f with
 | next=>
  obtain ⟨ar,H',I',q⟩:=q;exact h2 pins s1 ar H' D I' q
 | ret v=>exact q
 | brk=>exact q
 | cont=>exact q
theorem Zh (h1:PS X st t):d7 X [st] t:=by
 try unfold PS at *;try unfold d7 at *
 intro pins s σ H D I h;refine wpAny_execs_cons (az (h1 pins s σ H D I h) fun f s1 q=>?_)
 cases f with
 | next=>exact Yag q
 | ret v=>exact q
 | brk=>exact q
 | cont=>exact q
theorem Inv.quiet {pins:List (Addr×Obj)} {σ:St} {H:Hp} {s:Shared} (I:Inv X pins σ H s):interactive X.env=false:=by simp [interactive,I.ok.kind]
def Zy4 (te:TE):TS:=fun D σ H=>te σ H fun _ H1=>D.nx σ H1
theorem ZJ (he:PE X e te) (hs:swapsWith e none pos.line X.env=pure false:=by rfl):PS X (.Expr e pos) (Zy4 te):=by
 try unfold PE at *;try unfold PS at *
 intro pins s σ H D I h;exact wpAny_Expr_any (az (he pins s σ H _ I h) fun v s1 ⟨x,H1,I1,r1,q1⟩=>⟨σ,H1,I1,q1⟩) I.quiet hs
def K8 (te:TE):TS:=fun D σ H=>te σ H D.rt
theorem Zu (he:PE X e te):PS X (.Return (some e) pos) (K8 te):=by
 try unfold PE at *;try unfold PS at *
 intro pins s σ H D I h;exact wpAny_Return_some (az (he pins s σ H _ I h) fun v s1 ⟨x,H1,I1,r1,q1⟩=>⟨x,σ,H1,I1,r1,q1⟩)
def qu (c:TT) (t u:TS):TS:=fun D σ H=>c σ H fun b H1=>if b=true then t D σ H1 else u D σ H1
theorem ZZ {c:Expr} {a b:List Stmt} {tc:TT} (hc:PT X c tc) (ha:d7 X a t) (hb:d7 X b u):PS X (.If c a b pos) (qu tc t u):=by
 try unfold PS at *;try unfold d7 at *
 intro pins s σ H D I h;refine wpAny_If (az (hc pins s σ H _ I h) fun d s1 ⟨H1,I1,q1⟩=>?_)
 cases d with
 | true=>exact ha pins s1 σ H1 D I1 q1
 | false=>exact hb pins s1 σ H1 D I1 q1
def ZxQ:TS:=fun _ _ _=>False
theorem ZpV {sts:List Stmt}:d7 X sts ZxQ:=by
 try unfold d7 at *
 exact fun _ _ _ _ _ _ h=>h.elim
end
abbrev TG:=V->St->Hp->(St->Hp->Prop)->Prop
abbrev uf:=List V->St->Hp->(St->Hp->Prop)->Prop
def PG (X:Cx) (target:Expr) (t:TG):Prop:=
 ∀ (pins:List (Addr×Obj)) (s:Shared) (σ:St) (H:Hp) (v:V) (u:Value) (Q:St->Hp->Prop),Inv X pins σ H s->RelV v u->t v σ H Q->
  wpAny (model X.prog X.w) X.A (assign target X.env u) (fun _ s'=>∃ ar H',Inv X pins ar H' s'/\Q ar H') X.xe s
def Dt (X:Cx) (ts:List Expr) (t:uf):Prop:=
 ∀ (pins:List (Addr×Obj)) (s:Shared) (σ:St) (H:Hp) (vs:List V) (us:List Value) (Q:St->Hp->Prop),Inv X pins σ H s->Vals vs us->t vs σ H Q->
  wpAny (model X.prog X.w) X.A (assignInOrder ((assignEach ts X.env).map (·.2)) us) (fun _ s'=>∃ ar H',Inv X pins ar H' s'/\Q ar H') X.xe s
abbrev uL:=V->V->V->Hp->(Hp->Prop)->Prop
def Ac (X:Cx) (t:uL):Prop:=
 ∀ (pins:List (Addr×Obj)) (s:Shared) (σ:St) (H:Hp) (o i v:V) (ov iv u:Value) (Q:Hp->Prop),Inv X pins σ H s->RelV o ov->RelV i iv->RelV v u->t o i v H Q->
  wpAny (model X.prog X.w) X.A (setItem ov iv u) (fun _ s'=>∃ H',Inv X pins σ H' s'/\Q H') X.xe s
abbrev KR:=V->V->Hp->VK->Prop
def PIp (X:Cx) (op:Operator) (t:KR):Prop:=
 ∀ (pins:List (Addr×Obj)) (s:Shared) (σ:St) (H:Hp) (x y:V) (v u:Value) (Q:VK),Inv X pins σ H s->RelV x v->RelV y u->t x y H Q->
  wpAny (model X.prog X.w) X.A (inplaceOp op v u) (EP X pins σ Q) X.xe s
section
variable {X:Cx} {pos:Pos}
def k6 (i:Nat):TG:=fun v σ H Q=>Q (σ.set i (some v)) H
theorem ZG {i:Nat} {x:Str} (hN:X.N.Nodup) (hi:X.N[i]?=some x) (hx:Loc X.env.scope x) (hf:X.fn x=true∨X.env.scope.names.lookup x=some .local:=by first | exact .inl rfl | exact .inr rfl | assumption):PG X (.Name x pos) (k6 i):=by
 intro pins s σ H v u Q I r h;exact wpAny_assign_Name (Gn I hN hi hx r (fun s' I'=>⟨_,H,I',h⟩) hf)
def L_:uf:=fun vs σ H Q=>vs=[]/\Q σ H
def Zzj (t:TG) (u:uf):uf:=fun vs σ H Q=>∃ v r,vs=v::r/\t v σ H fun ar H'=>u r ar H' Q
theorem BH:Dt X [] L_:=by
 intro pins s σ H vs us Q I r h;obtain ⟨e,h⟩:=h;subst e
 cases r
 exact assignInOrder_nil ⟨σ,H,I,h⟩
theorem rN {e:Expr} {es:List Expr} {t:TG} {u:uf} (h1:PG X e t) (h2:Dt X es u)
  (hs:(assignEach (e::es) X.env).map (·.2)=assign e X.env::(assignEach es X.env).map (·.2):=by rfl):Dt X (e::es) (Zzj t u):=by
 try unfold PE at *;try unfold PA at *
 intro pins s σ H vs us Q I r h;obtain ⟨v,vr,e1,h⟩:=h;subst e1
 cases r with
 | cons r rr=>
  rw [hs];refine assignInOrder_cons (az (h1 pins s σ H _ _ _ I r h) fun _ s1 ⟨uX,H1,I1,q1⟩=>?_);exact h2 pins s1 uX H1 _ _ Q I1 rr q1
def L8 (K:Yg) (n:Nat) (t:uf):TG:=fun v σ H Q=>∃ a xs,v=.ref a/\av K H a xs/\xs.length=n/\t xs σ H Q
theorem Bz {es:List Expr} {k:Nat} {t:uf} {n:Nat} (hc:X.calm=true) (h:Dt X es t)
  (hn:(assignEach es X.env).length=n:=by rfl) (gc:(assignEach es X.env).findIdx? (·.1)=none:=by rfl):PG X (.Tuple es k pos) (L8 X.K n t):=by
 intro pins s σ H v u Q I r hw;obtain ⟨a,xs,e1,hq,hl,hw⟩:=hw;subst e1
 cases r
 obtain ⟨its,rv,ht,hz⟩:=I.tuple hq;refine assign_Tuple_tuple (I.ok.hd hc) ht (by simp [hn,<- hl,rv.length]) gc fun h' hx=>?_;have I1:Inv X pins σ H {s with heap:=h'}:=I.kept (t':=s.toks) fun b o e=>hx b o (Yy (Yl e)) e;exact h pins _ σ H xs _ Q I1 (by simpa using rv) hw
def L9 (to ti:TE) (t:uL):TG:=fun v σ H Q=>to σ H fun o H1=>ti σ H1 fun i H2=>t o i v H2 fun H3=>Q σ H3
theorem Zx8 {o i:Expr} {to ti:TE} {t:uL} (ho:PE X o to) (hi:PE X i ti) (hs:Ac X t)
  (ha:∀ v,assign (.Subscript o i pos) X.env v=(do
   let ov <- holding [v] (eval o X.env)
   let iv <- holding [v,ov] (eval i X.env)
   standAt pos
   holding [v,ov,iv] (setItem ov iv v)
   release [v,ov,iv] []):=by intro _;rfl):PG X (.Subscript o i pos) (L9 to ti t):=by
 try unfold PE at *
 intro pins s σ H v u Q I r h;rw [ha];refine Ya (Xq (az (ho pins s σ H _ I h) fun ov s1 ⟨x,H1,I1,r1,q1⟩=>?_));refine Ya (Xq (az (hi pins s1 σ H1 _ I1 q1) fun iv s2 ⟨y,H2,I2,r2,q2⟩=>?_));refine Ya (wpAny_standAt (Ya (Xq (az (hs pins s2 σ H2 x y v ov iv u _ I2 r1 r2 r q2) fun _ s3 ⟨H3,I3,q3⟩=>?_))));exact wpAny_release ⟨σ,H3,I3,q3⟩
def jw (te:TE) (g:TG):TS:=fun D σ H=>te σ H fun x H1=>g x σ H1 D.nx
theorem Zx5 {tg e:Expr} {te:TE} {g:TG} (he:PE X e te) (hg:PG X tg g) (hs:swapsWithSole [tg] e pos.line X.env=pure false:=by rfl) (hw:swappedStores [tg] e X.env=pure none:=by rfl)
  (h1:(assignEach [tg] X.env).map (·.2)=[assign tg X.env]:=by rfl):PS X (.Assign [tg] e pos) (jw te g):=by
 try unfold PE at *;try unfold PS at *
 intro pins s σ H D I h;refine wpAny_Assign_stores (az (he pins s σ H _ I h) fun v s1 ⟨x,H1,I1,r1,q1⟩=>?_) hs hw;rw [h1];exact az (hg pins s1 σ H1 x v _ I1 r1 q1) fun _ s2 q=>q
theorem Zt {i:Nat} {x:Str} {e:Expr} {te:TE} {pos':Pos} (hN:X.N.Nodup) (hi:X.N[i]?=some x) (hx:Loc X.env.scope x) (he:PE X e te) (hs:swapsWith e (some (.Name x pos')) pos.line X.env=pure false:=by rfl) (hf:X.fn x=true∨X.env.scope.names.lookup x=some .local:=by first | exact .inl rfl | exact .inr rfl | assumption) :
  PS X (.Assign [.Name x pos'] e pos) (jw te (k6 i)):=by
 try unfold PE at *;try unfold PS at *
 intro pins s σ H D I h;refine wpAny_Assign_Name (az (he pins s σ H _ I h) fun v s1 ⟨y,H1,I1,r1,q1⟩=>?_) hs;exact Gn I1 hN hi hx r1 (fun s2 I2=>⟨_,H1,I2,q1⟩) hf
def Le (i:Nat) (te:TE) (ti:KR):TS:=fun D σ H=>∃ x,σ[i]?=some (some x)/\te σ H fun y H1=>ti x y H1 fun z H2=>D.nx (σ.set i (some z)) H2
theorem Zx4 {i:Nat} {x:Str} {e:Expr} {te:TE} {op:Operator} {ti:KR} {pos':Pos} (hN:X.N.Nodup) (hi:X.N[i]?=some x) (hx:Loc X.env.scope x) (he:PE X e te) (ho:PIp X op ti) (hf:X.fn x=true∨X.env.scope.names.lookup x=some .local:=by first | exact .inl rfl | exact .inr rfl | assumption) :
  PS X (.AugAssign (.Name x pos') op e pos) (Le i te ti):=by
 try unfold PE at *;try unfold PS at *
 intro pins s σ H D I h;obtain ⟨v,e1,h⟩:=h;obtain ⟨m,hn,hl⟩:=I.loc;have vis:Dr X.env.scope x:=by rcases hx with k | k;exact .inl k;exact .inr (.inl k)
 obtain ⟨u,r,l⟩:=hl i x v hi e1 vis;refine wpAny_AugAssign_Name ?_
 have go:wpAny (model X.prog X.w) X.A (eval e X.env) (fun w ef=>wpAny (model X.prog X.w) X.A (inplaceOp op u w) (fun r jx=>wpAny (model X.prog X.w) X.A (storeName X.env x r) (fun _=>SP X pins D .next) X.xe jx) X.xe ef) X.xe s:=by
  refine az (he pins s σ H _ I h) fun w s1 ⟨y,H1,I1,r1,q1⟩=>?_;refine az (ho pins s1 σ H1 v y u w _ I1 r r1 q1) fun z s2 ⟨zv,H2,I2,r2,q2⟩=>?_;exact Gn I2 hN hi hx r2 (fun s3 I3=>⟨_,H2,I3,q2⟩) hf
 rcases l with ⟨hk,hm⟩ | ⟨hk,c,hc,lH⟩
 .exact wpAny_loadName_local I.ok.kind hk hn hm go
 .rcases hk with hk | hk
  .exact wpAny_loadName_cell I.ok.kind hk hc lH go
  .rcases hx with k | k
   .have:X.env.scope.names.lookup x=some .free:=hk
    rw [k] at this;cases this
   .have:X.env.scope.names.lookup x=some .free:=hk
    rw [k] at this;cases this
inductive ipI (f:Int->Int->Int) (x:V) (y:V) (H:Hp) (Q:VK):Prop
 | mk (i:_) (j:_):x=.int i->y=.int j->Q (.int (f i j)) H->ipI f x y H Q
theorem Zyr:PIp X .Add (ipI fun i j=>i + j):=by
 intro pins s σ H x y v u Q I r1 r2 h;obtain ⟨i,j,e1,e2,q⟩:=h;subst e1;subst e2;obtain ⟨t,rfl⟩:=r1;obtain ⟨t',rfl⟩:=r2;exact iadd_int ⟨.int _,H,I.tok _,⟨_,rfl⟩,q⟩
end
section
variable {X:Cx} {pos:Pos}
def ZxM (c:TT) (tb:TS):TS:=fun D σ H=>∃ W:Nat->St->Hp->Prop,(∃ m,W m σ H)/\∀ m σ H,W m σ H->
 c σ H fun b H1=>if b=true then ∃ N:St->Hp->Prop,(∀ ar H',N ar H'->∃ m',m' < m/\W m' ar H')/\tb {D with nx:=N,ct:=N,bk:=D.nx} σ H1 else D.nx σ H1
theorem Zr8 {c:Expr} {body:List Stmt} {tc:TT} {tb:TS} (hp:PassesOwn (model X.prog X.w) X.A X.env X.xe) (hc:PT X c tc) (hb:d7 X body tb):PS X (.While c body [] pos) (ZxM tc tb):=by
 try unfold PS at *;try unfold d7 at *
 intro pins s σ H D I h;obtain ⟨W,⟨m0,w0⟩,turn⟩:=h;refine wpAny_While (codeAny_whileLoop (fun n s'=>∃ ar H',Inv X pins ar H' s'/\W n ar H') ?_ m0 ⟨σ,H,I,w0⟩)
 rintro n s1 ⟨uX,H1,I1,w1⟩
 refine Wn hp (az (hc pins s1 uX H1 _ I1 (turn n uX H1 w1)) fun b s2 ⟨H2,I2,q2⟩=>?_)
 cases b with
 | true=>
  obtain ⟨N,hN,q2⟩:=q2;rw [if_pos rfl];refine Wn hp (az (hb pins s2 uX H2 _ I2 q2) fun f s3 q3=>?_)
  cases f with
  | next=>
   obtain ⟨m9,H3,I3,n3⟩:=q3;obtain ⟨m',hm,w3⟩:=hN m9 H3 n3;exact ⟨m',hm,m9,H3,I3,w3⟩
  | cont=>
   obtain ⟨m9,H3,I3,n3⟩:=q3;obtain ⟨m',hm,w3⟩:=hN m9 H3 n3;exact ⟨m',hm,m9,H3,I3,w3⟩
  | brk=>exact q3
  | ret v=>exact q3
 | false=>
  rw [if_neg Yr];exact Yag ⟨uX,H2,I2,q2⟩
end
structure It where
 go:Nat->Hp->Prop
 ik:Nat->Hp->V->Hp->Prop
 stop:Nat->Hp->Prop
def eg (X:Cx) (pins:List (Addr×Obj)) (H:Hp) (b:Addr):Prop:=
 H b=none/\b≠X.env.locals/\b ∉ X.fs/\(b∈X.ex∨X.ax.heap.objs.size<=b)/\(∀ x c,X.env.cells.lookup x=some c->c≠b)/\∀ p∈X.pn++pins,p.1≠b
theorem Inv.fC {X:Cx} {pins:List (Addr×Obj)} {σ:St} {H H':Hp} {s:Shared} {b:Addr} (I:Inv X pins σ H s) (hb:s.heap.objs.size<=b) (hn:H' b=none):eg X pins H' b:=by
 refine ⟨hn,Yal (YD I.lt hb),I.Lp hb,.inr (Yn I.sz hb),fun x c e z=>?_,fun p hp z=>?_⟩
 .obtain ⟨v,q⟩:=I.cell x c e;exact absurd (YD q.lt (by rw [z];exact hb)) (Y8 _)
 .exact absurd (YD (Yl (I.pin p hp).1) (by rw [z];exact hb)) (Y8 _)
structure Turn (P:Program) (w:World) (K:Yg) (tg:Expr) (J:It) (fp:List Addr) (it:Addr) (tn:Nat->Heap->Prop):Prop where
 mem:it∈fp
 obj:∀ i h,tn i h->∀ b∈fp,∃ o,h.get? b=some o/\∀ v,o.data≠.cell v
 keep:∀ i h h',tn i h->(∀ b∈fp,∀ o,h.get? b=some o->h'.get? b=some o)->tn i h'
 item:∀ (X:Cx),X.prog=P->X.w=w->X.K=K->X.calm=true->∀ (i:Nat) (pins:List (Addr×Obj)) (s:Shared) (σ:St) (H:Hp) (E:Value->Shared->Prop),Inv X pins σ H s->(∀ b∈fp,eg X pins H b)->tn i s.heap->J.go i H->
  wpAny (model P w) X.A (WQ (.ref it)) (fun r s1=>∃ u,r=some u/\
   wpAny (model P w) X.A (Yah tg (.ref it) u) (fun _ s2=>∃ x H',Inv X pins σ H' s2/\RelV x u/\J.ik i H x H'/\tn (i + 1) s2.heap/\∀ b∈fp,H' b=none) E s1) E s
 done:∀ (X:Cx),X.prog=P->X.w=w->X.K=K->X.calm=true->∀ (i:Nat) (pins:List (Addr×Obj)) (s:Shared) (σ:St) (H:Hp) (E:Value->Shared->Prop),Inv X pins σ H s->(∀ b∈fp,eg X pins H b)->tn i s.heap->J.stop i H->
  wpAny (model P w) X.A (WQ (.ref it)) (fun r s1=>r=none/\Inv X pins σ H s1) E s
 self:∀ (A:Around) (i:Nat) (s:Shared) (Q:Value->Shared->Prop) (E:Value->Shared->Prop),tn i s.heap->Q (.ref it) s->wpAny (model P w) A (pyIter (.ref it)) Q E s
abbrev TI:=St->Hp->(It->Hp->Prop)->Prop
def KU (X:Cx) (pins:List (Addr×Obj)) (σ:St) (tg:Expr) (R:It->Hp->Prop) (AX:Value) (s2:Shared):Prop:=
 ∃ (it:Addr) (fp:List Addr) (tn:Nat->Heap->Prop) (J:It) (H':Hp),AX=.ref it/\Inv X pins σ H' s2/\Turn X.prog X.w X.K tg J fp it tn/\tn 0 s2.heap/\(∀ b∈fp,eg X pins H' b)/\R J H'
def PI (X:Cx) (tg iter:Expr) (wi:TI):Prop:=
 ∀ (pins:List (Addr×Obj)) (s:Shared) (σ:St) (H:Hp) (R:It->Hp->Prop),Inv X pins σ H s->wi σ H R->
  wpAny (model X.prog X.w) X.A (eval iter X.env) (fun v s1=>wpAny (model X.prog X.w) X.A (pyIter v) (KU X pins σ tg R) X.xe s1) X.xe s
theorem vJ {M:Model} {A:Around} {E:Value->Shared->Prop} {s:Shared} {tg:Expr} {it:Addr} {u:Value} {o:Obj} {n:String} {vs:Array Value} {Q:Unit->Shared->Prop} (ho:s.heap.get? it=some o) (hc:o.cls=.type n) (hd:o.data=.fields vs)
    (hn:["enumerate","zip","dict_itemiterator","dict_reverseitemiterator","odict_iterator","itertools.zip_longest","itertools.pairwise"].contains n=false) (hQ:Q () s):wpAny M A (Yah tg (.ref it) u) Q E s:=by
  unfold Yah
  cases tg <;> first
    | exact Ye hQ
    | (cases u <;> first
        | exact Ye hQ
        | (refine Ya (wpAny_load ho ?_)
           rw [hc,hd];show wpAny M A (if (["enumerate","zip","dict_itemiterator","dict_reverseitemiterator","odict_iterator","itertools.zip_longest","itertools.pairwise"].contains n && vs[0]? == some (Wl _))=true then _ else _) Q E s;rw [if_neg (by intro h;rw [hn,Bool.false_and] at h;cases h)];exact Ye hQ))
def lE (K:Yg) (a:Addr):It:=
 ⟨fun i H=>∃ xs x,ay K H a xs/\xs[i]?=some x,fun i H x H'=>H'=H/\∀ xs,ay K H a xs->xs[i]?=some x,fun i H=>∃ xs,ay K H a xs/\xs.length<=i⟩
def qt (K:Yg) (a:Addr):It:=
 ⟨fun i H=>∃ xs x,av K H a xs/\xs[i]?=some x,fun i H x H'=>H'=H/\∀ xs,av K H a xs->xs[i]?=some x,fun i H=>∃ xs,av K H a xs/\xs.length<=i⟩
def mX (lo:Int) (n:Nat):It:=⟨fun i _=>i < n,fun i H x H'=>H'=H/\x=.int (lo + i),fun i _=>n<=i⟩
theorem ZtK {P:Program} {w:World} {K:Yg} {tg:Expr} (a it:Addr):Turn P w K tg (lE K a) [it] it (fun i h=>h.IsListIter it a i) where
 mem:=by simp
 obj:=fun i h st b hb=>by
  have e:b=it:=by simpa using hb
  subst e;obtain ⟨o,e,c,d⟩:=st;exact ⟨o,e,fun v z=>by rw [d] at z;cases z⟩
 keep:=fun i h h' st k=>st.at fun o e=>k it (by simp) o e
 item:=by
  intro X hP hw hK hc i pins s σ H E I hf st hg;subst hP hw hK;obtain ⟨xs,x,hq,hx⟩:=hg;obtain ⟨its,rv,p,hz⟩:=I.list hq;obtain ⟨u,hu,ru⟩:=rv.get hx;obtain ⟨f0,f1,f2,f3,f4,f5⟩:=hf it (by simp);refine wpAny_pyNext_list_item st p.isList (x:=u) (by simpa using hu) fun h' cY sb=>?_;have I1:Inv X pins σ H {s with heap:=h'}:=I.turned (t':=s.toks) (fun b o hb e=>(sb.2 b hb).trans e) f0 f1 f3 f4 f5;obtain ⟨o,e,c,d⟩:=id cY;exact ⟨u,rfl,vJ (s:={s with heap:=h'}) e c d (by decide) ⟨x,H,I1,ru,⟨rfl,fun ys hy=>by rw [I.jR hy hq];exact hx⟩,cY,fun b hb=>(hf b hb).1⟩⟩
 done:=by
  intro X hP hw hK hc i pins s σ H E I hf st hg;subst hP hw hK;obtain ⟨xs,hq,hx⟩:=hg;obtain ⟨its,rv,p,hz⟩:=I.list hq;obtain ⟨f0,f1,f2,f3,f4,f5⟩:=hf it (by simp);have hl:=rv.length;exact wpAny_pyNext_list_end (I.ok.hd hc) st p.isList (by simp;omega) fun h' eb=>⟨rfl,I.turned (t':=s.toks) (fun b o hb e=>eb b o hb e) f0 f1 f3 f4 f5⟩
 self:=fun _ _ _ _ _ st h=>wpAny_pyIter_listiter st h
theorem ZsL {P:Program} {w:World} {K:Yg} {tg:Expr} (a it:Addr):Turn P w K tg (qt K a) [it] it (fun i h=>h.IsTupleIter it a i) where
 mem:=by simp
 obj:=fun i h st b hb=>by
  have e:b=it:=by simpa using hb
  subst e;obtain ⟨o,e,c,d⟩:=st;exact ⟨o,e,fun v z=>by rw [d] at z;cases z⟩
 keep:=fun i h h' st k=>st.at fun o e=>k it (by simp) o e
 item:=by
  intro X hP hw hK hc i pins s σ H E I hf st hg;subst hP hw hK;obtain ⟨xs,x,hq,hx⟩:=hg;obtain ⟨its,rv,p,hz⟩:=I.tuple hq;obtain ⟨u,hu,ru⟩:=rv.get hx;obtain ⟨f0,f1,f2,f3,f4,f5⟩:=hf it (by simp);refine wpAny_pyNext_tuple_item st (show s.heap.IsTuple a its.toArray from p) (x:=u) (by simpa using hu) fun h' cY sb=>?_;have I1:Inv X pins σ H {s with heap:=h'}:=I.turned (t':=s.toks) (fun b o hb e=>(sb.2 b hb).trans e) f0 f1 f3 f4 f5;obtain ⟨o,e,c,d⟩:=id cY;exact ⟨u,rfl,vJ (s:={s with heap:=h'}) e c d (by decide) ⟨x,H,I1,ru,⟨rfl,fun ys hy=>by rw [I.eo hy hq];exact hx⟩,cY,fun b hb=>(hf b hb).1⟩⟩
 done:=by
  intro X hP hw hK hc i pins s σ H E I hf st hg;subst hP hw hK;obtain ⟨xs,hq,hx⟩:=hg;obtain ⟨its,rv,p,hz⟩:=I.tuple hq;obtain ⟨f0,f1,f2,f3,f4,f5⟩:=hf it (by simp);have hl:=rv.length;exact wpAny_pyNext_tuple_end (I.ok.hd hc) st (show s.heap.IsTuple a its.toArray from p) (by simp;omega) fun h' eb=>⟨rfl,I.turned (t':=s.toks) (fun b o hb e=>eb b o hb e) f0 f1 f3 f4 f5⟩
 self:=fun _ _ _ _ _ st h=>wpAny_pyIter_tupleiter st h
theorem ZsM {P:Program} {w:World} {K:Yg} {tg:Expr} (it:Addr) (lo:Int) (n:Nat):Turn P w K tg (mX lo n) [it] it (fun i h=>IsRangeIter h it (lo + (i:Nat) * 1) ((n:Int) - (i:Nat)) 1) where
 mem:=by simp
 obj:=fun i h st b hb=>by
  have e:b=it:=by simpa using hb
  subst e
  exact ⟨_,st,fun v z=>by
   have z':Data.fields _=Data.cell v:=z
   cases z'⟩
 keep:=fun i h h' st k=>k it (by simp) _ st
 item:=by
  intro X hP hw hK hc i pins s σ H E I hf st hg;subst hP hw hK;obtain ⟨f0,f1,f2,f3,f4,f5⟩:=hf it (by simp);have W:=Walks.range (prog:=X.prog) (w:=X.w) (I.ok.hd hc) it lo 1 n;refine W.item i s _ _ hg st fun v h' tk hv cY kk=>?_;obtain ⟨t,rfl⟩:=hv;have I1:Inv X pins σ H {s with heap:=h',toks:=tk}:=I.turned (fun b o hb e=>kk b o (by simpa using hb) e) f0 f1 f3 f4 f5;refine ⟨_,rfl,vJ (s:={s with heap:=h',toks:=tk}) (n:="range_iterator") cY rfl rfl (by decide) ⟨.int (lo + i),H,I1,⟨t,?_⟩,⟨rfl,rfl⟩,cY,fun b hb=>(hf b hb).1⟩⟩;rw [Int.mul_one]
 done:=by
  intro X hP hw hK hc i pins s σ H E I hf st hg;subst hP hw hK;obtain ⟨f0,f1,f2,f3,f4,f5⟩:=hf it (by simp);exact wpAny_pyNext_range_end (I.ok.hd hc) st (by have:n<=i:=hg;omega) fun h' eb=>⟨rfl,I.turned (t':=s.toks) (fun b o hb e=>eb b o hb e) f0 f1 f3 f4 f5⟩
 self:=fun _ _ _ _ _ st h=>wpAny_pyIter_rangeiter st h
end L2
namespace L2
open PySem PySem.Spec PyProof.Rows
section
variable {X:Cx} {tg:Expr}
inductive sr (K:Yg) (x:V) (H1:Hp) (R:It->Hp->Prop):Prop
 | mk (a:_):x=.ref a->(∃ xs,ay K H1 a xs)->R (lE K a) H1->sr K x H1 R
def Zzh (K:Yg) (tl:TE):TI:=fun σ H R=>tl σ H fun x H1=>sr K x H1 R
inductive z9 (K:Yg) (x:V) (H1:Hp) (R:It->Hp->Prop):Prop
 | mk (a:_):x=.ref a->(∃ xs,av K H1 a xs)->R (qt K a) H1->z9 K x H1 R
def Lx (K:Yg) (tl:TE):TI:=fun σ H R=>tl σ H fun x H1=>z9 K x H1 R
theorem rL {l:Expr} {tl:TE} (hl:PE X l tl):PI X tg l (Zzh X.K tl):=by
 try unfold PE at *
 intro pins s σ H R I h;refine az (hl pins s σ H _ I h) fun v s1 ⟨x,H1,I1,r1,q1⟩=>?_;obtain ⟨a,e,⟨xs,hq⟩,q⟩:=q1;subst e
 cases r1
 obtain ⟨its,rv,p,hz⟩:=I1.list hq;refine YaB p.isList ?_;refine ⟨s1.heap.objs.size,[s1.heap.objs.size],_,_,H1,rfl,I1.kept (t':=s1.toks) fun b o e=>Yc _ e,ZtK a _,⟨_,Yh _ rfl,rfl,rfl⟩,fun b hb=>?_,q⟩;have e:b=s1.heap.objs.size:=by simpa using hb
 subst e;exact I1.fC (Yf _) (I1.ak.fresh (Yf _))
theorem vW {l:Expr} {tl:TE} (hl:PE X l tl):PI X tg l (Lx X.K tl):=by
 try unfold PE at *
 intro pins s σ H R I h;refine az (hl pins s σ H _ I h) fun v s1 ⟨x,H1,I1,r1,q1⟩=>?_;obtain ⟨a,e,⟨xs,hq⟩,q⟩:=q1;subst e
 cases r1
 obtain ⟨its,rv,p,hz⟩:=I1.tuple hq;refine Yao (show s1.heap.IsTuple a its.toArray from p) ?_;refine ⟨s1.heap.objs.size,[s1.heap.objs.size],_,_,H1,rfl,I1.kept (t':=s1.toks) fun b o e=>Yc _ e,ZsL a _,⟨_,Yh _ rfl,rfl,rfl⟩,fun b hb=>?_,q⟩;have e:b=s1.heap.objs.size:=by simpa using hb
 subst e;exact I1.fC (Yf _) (I1.ak.fresh (Yf _))
theorem Zr7 {pins:List (Addr×Obj)} {σ:St} {H:Hp} {s:Shared} {R:It->Hp->Prop} {E:Value->Shared->Prop} {lo hi:Int} {t u v:Tok} {tk:Nat} (I:Inv X pins σ H s) (h1:-(2 ^ 62)<=lo) (h2:lo < 2 ^ 62) (h3:-(2 ^ 62)<=hi) (h4:hi < 2 ^ 62)
  (q:R (mX lo (hi - lo).toNat) H):wpAny (model X.prog X.w) X.A (pyIter (.ref s.heap.objs.size)) (KU X pins σ tg R) E {s with heap:=s.heap.push {cls:=.type "range",data:=.fields #[.int lo t,.int hi u,.int 1 v]},toks:=tk}:=by
 refine wpAny_pyIter_range (IsRange.new ..) (small_one h1 h2 h3 h4) ?_;have I1:Inv X pins σ H {s with heap:=s.heap.push {cls:=.type "range",data:=.fields #[.int lo t,.int hi u,.int 1 v]},toks:=tk}:=I.kept fun b o e=>Yc _ e
 refine ⟨(s.heap.push {cls:=.type "range",data:=.fields #[.int lo t,.int hi u,.int 1 v]}).objs.size,[(s.heap.push {cls:=.type "range",data:=.fields #[.int lo t,.int hi u,.int 1 v]}).objs.size],_,_,H,rfl,
  I1.kept (t':=tk) fun b o e=>Yc _ e,ZsM _ lo (hi - lo).toNat,?_,fun b hb=>?_,q⟩
 .have e1:lo + ((0:Nat):Int) * 1=lo:=by simp
  have e2:(((hi - lo).toNat:Nat):Int) - ((0:Nat):Int)=XH lo hi 1:=by rw [rangeSize_one];split <;> omega
  show IsRangeIter _ _ (lo + ((0:Nat):Int) * 1) ((((hi - lo).toNat:Nat):Int) - ((0:Nat):Int)) 1;rw [e1,e2];exact Yh _ rfl
 .have e:b=(s.heap.push {cls:=.type "range",data:=.fields #[.int lo t,.int hi u,.int 1 v]}).objs.size:=by simpa using hb
  subst e;exact I1.fC (Yf _) (I1.ak.fresh (Yf _))
def Zzg (ta:TA):TI:=fun σ H R=>ta σ H fun vs H1=>∃ j:Int,vs=[.int j]/\-(2 ^ 62)<=j/\j < 2 ^ 62/\R (mX 0 j.toNat) H1
def Zzf (ta:TA):TI:=fun σ H R=>ta σ H fun vs H1=>∃ i j:Int,vs=[.int i,.int j]/\(-(2 ^ 62)<=i/\i < 2 ^ 62/\-(2 ^ 62)<=j/\j < 2 ^ 62)/\R (mX i (j - i).toNat) H1
theorem yE {a:Expr} {ta:TA} {p pos:Pos} (hg:Gl X "range") (hm:X.mg "range"=none) (ha:PA X [a] ta) (hs:YF [a] X.env=[(false,eval a X.env)]:=by rfl):PI X tg (.Call (.Name "range" p) [a] [] pos) (Zzg ta):=by
 try unfold PA at *
 intro pins s σ H R I h;refine Call_ (tW I hg hm boot_range (Xo (az (ha pos pins s σ H _ I h) fun us s1 ⟨vs,H1,I1,r1,q1⟩=>?_) hs rfl));obtain ⟨j,e,q1,q2,q⟩:=q1;subst e
 cases r1 with
 | cons r rr=>
  cases rr
  obtain ⟨t,rfl⟩:=r;exact call_range_1 (Zr7 I1 (by omega) (by omega) q1 q2 (by simpa using q))
theorem Zub {a b:Expr} {ta:TA} {p pos:Pos} (hg:Gl X "range") (hm:X.mg "range"=none) (ha:PA X [a,b] ta) (hs:YF [a,b] X.env=[(false,eval a X.env),(false,eval b X.env)]:=by rfl) (oW:YF [b] X.env=[(false,eval b X.env)]:=by rfl) :
  PI X tg (.Call (.Name "range" p) [a,b] [] pos) (Zzf ta):=by
 try unfold PA at *
 intro pins s σ H R I h;refine Call_ (tW I hg hm boot_range (Xo (az (ha pos pins s σ H _ I h) fun us s1 ⟨vs,H1,I1,r1,q1⟩=>?_) (by rw [hs,oW]) (by rw [oW];rfl)));obtain ⟨i,j,e,⟨q1,q2,q3,q4⟩,q⟩:=q1;subst e
 cases r1 with
 | cons r rr=>
  cases rr with
  | cons r' rr=>
   cases rr
   obtain ⟨t,rfl⟩:=r;obtain ⟨t',rfl⟩:=r';exact call_range_2 (Zr7 I1 q1 q2 q3 q4 q)
def La (wi:TI) (g:TG) (tb:TS):TS:=fun D σ H=>wi σ H fun J H1=>∃ W:Nat->Nat->St->Hp->Prop,(∃ m,W 0 m σ H1)/\∀ i m σ H,W i m σ H->
 (J.stop i H/\D.nx σ H)∨(J.go i H/\∃ N:St->Hp->Prop,(∀ ar H',N ar H'->∃ m',m' < m/\W (i + 1) m' ar H')/\∀ x H',J.ik i H x H'->g x σ H' fun aQ H2=>tb {D with nx:=N,ct:=N,bk:=D.nx} aQ H2)
def vX (fp:List Addr) (h:Heap):List (Addr×Obj):=fp.filterMap fun b=>(h.get? b).map fun o=>(b,o)
theorem wL {fp:List Addr} {h:Heap} {b:Addr} {o:Obj} (hb:b∈fp) (e:h.get? b=some o):(b,o)∈vX fp h:=List.mem_filterMap.mpr ⟨b,hb,by rw [e];rfl⟩
theorem Zul {fp:List Addr} {h:Heap} {p:Addr×Obj} (hp:p∈vX fp h):p.1∈fp/\h.get? p.1=some p.2:=by
 obtain ⟨b,hb,e⟩:=List.mem_filterMap.mp hp
 cases q:h.get? b with
 | none=>rw [q] at e;cases e
 | some o=>
  rw [q] at e;have e':(b,o)=p:=Yu e;subst e';exact ⟨hb,q⟩
theorem Inv.pinned {pins:List (Addr×Obj)} {σ:St} {H:Hp} {s:Shared} {fp:List Addr} (I:Inv X pins σ H s) (hf:∀ b∈fp,eg X pins H b) (ho:∀ b∈fp,∃ o,s.heap.get? b=some o/\∀ v,o.data≠.cell v):Inv X (pins++vX fp s.heap) σ H s:=
 I.lS fun p hp=>(List.mem_append.mp hp).elim (fun z=>I.pin p (YK _ z)) fun z=>by
  obtain ⟨hb,e⟩:=Zul z;obtain ⟨f0,f1,f2,_⟩:=hf p.1 hb;obtain ⟨o,e',d⟩:=ho p.1 hb;rw [e] at e';cases e';exact ⟨e,f0,f1,f2,d⟩
theorem Inv.cw {pins pl:List (Addr×Obj)} {σ:St} {H:Hp} {s:Shared} (I:Inv X (pins++pl) σ H s):Inv X pins σ H s:=I.lS fun p hp=>I.pin p (YK _ (Ya9 _ hp))
theorem gN {iter:Expr} {body:List Stmt} {wi:TI} {g:TG} {tb:TS} {pos:Pos} (hp:PassesOwn (model X.prog X.w) X.A X.env X.xe) (hc:X.calm=true) (hi:PI X tg iter wi) (hg:PG X tg g) (hb:d7 X body tb)
  (hs:∀ x,foldedSetIterable iter X.env x=pure x:=by intro _;rfl):PS X (.For tg iter body [] pos) (La wi g tb):=by
 try unfold PS at *;try unfold d7 at *
 intro pins s σ H D I h;refine wpAny_For (az (hi pins s σ H _ I h) fun v s1 h1=>az h1 fun AX s2 h2=>?_) hs;obtain ⟨it,fp,tn,J,H2,e,I2,T,pO,f2,W,⟨m0,w0⟩,turn⟩:=h2;subst e
 -- what stays true of eF uW objects through eF loop
 have fA:∀ {H':Hp},(∀ b∈fp,H' b=none)->∀ b∈fp,eg X pins H' b:=fun hn b hb=>⟨hn b hb,(f2 b hb).2⟩
 refine codeAny_forLoop_any (fun n s'=>∃ i ar H',Inv X pins ar H' s'/\tn i s'.heap/\(∀ b∈fp,H' b=none)/\W i n ar H') ?_ m0 ⟨0,σ,H2,I2,pO,fun b hb=>(f2 b hb).1,w0⟩
 rintro n s3 ⟨i,m9,H3,I3,st3,fr3,w3⟩
 rcases turn i n m9 H3 w3 with ⟨stop,qn⟩ | ⟨go,N,hN,step⟩
 .refine Wn hp (az (T.done X rfl rfl rfl hc i pins s3 m9 H3 X.xe I3 (fA fr3) st3 stop) fun r s4 ⟨hr,I4⟩=>?_);subst hr;exact Yag ⟨m9,H3,I4,qn⟩
 .refine Wn hp (az (T.item X rfl rfl rfl hc i pins s3 m9 H3 X.xe I3 (fA fr3) st3 go) fun r s4 ⟨u,hr,h4⟩=>?_);subst hr;refine Wn hp (az h4 fun _ s5 ⟨x,H5,I5,r5,y5,pN,tH⟩=>?_);have I5':=I5.pinned (fA tH) (T.obj _ _ pN);refine Wn hp (az (hg _ s5 m9 H5 x u _ I5' r5 (step x H5 y5)) fun _ s6 ⟨σ6,H6,I6,q6⟩=>?_);refine Wn hp (az (hb _ s6 σ6 H6 _ I6 q6) fun f s7 q7=>?_)
  have again:∀ {mZ:St} {H7:Hp},Inv X (pins++vX fp s5.heap) mZ H7 s7->N mZ H7->∃ m,m < n/\∃ i ar H',Inv X pins ar H' s7/\tn i s7.heap/\(∀ b∈fp,H' b=none)/\W i m ar H':=fun {mZ H7} I7 n7=>by
   obtain ⟨m',hm,w7⟩:=hN mZ H7 n7;refine ⟨m',hm,i + 1,mZ,H7,I7.cw,T.keep _ _ _ pN fun b hb o e=>(I7.pin (b,o) (YK _ (YK _ (wL hb e)))).1,fun b hb=>?_,w7⟩;obtain ⟨o,e,d⟩:=T.obj _ _ pN b hb;exact (I7.pin (b,o) (YK _ (YK _ (wL hb e)))).2.1
  cases f with
  | next=>obtain ⟨mZ,H7,I7,n7⟩:=q7;exact again I7 n7
  | cont=>obtain ⟨mZ,H7,I7,n7⟩:=q7;exact again I7 n7
  | brk=>obtain ⟨mZ,H7,I7,q7⟩:=q7;exact ⟨mZ,H7,I7.cw,q7⟩
  | ret v=>obtain ⟨x7,mZ,H7,I7,r7,q7⟩:=q7;exact ⟨x7,mZ,H7,I7.cw,r7,q7⟩
end
theorem B2 {K:Yg} {a:Addr} {xs:List V} {g:TG} {tb:TS} {D:Ends} {σ:St} {H:Hp} (Pv:Nat->St->Hp->Prop) (h0:Pv 0 σ H) (hl:∀ i σ H,i<=xs.length->Pv i σ H->ay K H a xs)
  (hs:∀ i x σ H,xs[i]?=some x->Pv i σ H->g x σ H fun aQ H2=>tb {D with nx:=Pv (i + 1),ct:=Pv (i + 1),bk:=D.nx} aQ H2) (hd:∀ σ H,Pv xs.length σ H->D.nx σ H) :
  ∃ W:Nat->Nat->St->Hp->Prop,(∃ m,W 0 m σ H)/\∀ i m σ H,W i m σ H->
   ((lE K a).stop i H/\D.nx σ H)∨((lE K a).go i H/\∃ N:St->Hp->Prop,(∀ ar H',N ar H'->∃ m',m' < m/\W (i + 1) m' ar H')/\∀ x H',(lE K a).ik i H x H'->g x σ H' fun aQ H2=>tb {D with nx:=N,ct:=N,bk:=D.nx} aQ H2):=by
 refine ⟨fun i m σ H=>m=xs.length - i/\i<=xs.length/\Pv i σ H,⟨xs.length,by simp,Yt _,h0⟩,?_⟩
 rintro i m σ H ⟨rfl,hi,p⟩
 have q:=hl i σ H hi p
 by_cases aT:i < xs.length
 .refine .inr ⟨⟨xs,xs[i],q,by simp [aT]⟩,Pv (i + 1),fun ar H' p'=>⟨xs.length - (i + 1),by omega,rfl,aT,p'⟩,fun x H' y=>?_⟩;obtain ⟨e,y⟩:=y;subst e;exact hs i x σ _ (y xs q) p
 .have e:i=xs.length:=by omega
  subst e;exact .inl ⟨⟨xs,q,Yf _⟩,hd σ H p⟩
theorem BJ {K:Yg} {a:Addr} {xs:List V} {g:TG} {tb:TS} {D:Ends} {σ:St} {H:Hp} (Pv:Nat->St->Hp->Prop) (h0:Pv 0 σ H) (hl:∀ i σ H,i<=xs.length->Pv i σ H->av K H a xs)
  (hs:∀ i x σ H,xs[i]?=some x->Pv i σ H->g x σ H fun aQ H2=>tb {D with nx:=Pv (i + 1),ct:=Pv (i + 1),bk:=D.nx} aQ H2) (hd:∀ σ H,Pv xs.length σ H->D.nx σ H) :
  ∃ W:Nat->Nat->St->Hp->Prop,(∃ m,W 0 m σ H)/\∀ i m σ H,W i m σ H->
   ((qt K a).stop i H/\D.nx σ H)∨((qt K a).go i H/\∃ N:St->Hp->Prop,(∀ ar H',N ar H'->∃ m',m' < m/\W (i + 1) m' ar H')/\∀ x H',(qt K a).ik i H x H'->g x σ H' fun aQ H2=>tb {D with nx:=N,ct:=N,bk:=D.nx} aQ H2):=by
 refine ⟨fun i m σ H=>m=xs.length - i/\i<=xs.length/\Pv i σ H,⟨xs.length,by simp,Yt _,h0⟩,?_⟩
 rintro i m σ H ⟨rfl,hi,p⟩
 have q:=hl i σ H hi p
 by_cases aT:i < xs.length
 .refine .inr ⟨⟨xs,xs[i],q,by simp [aT]⟩,Pv (i + 1),fun ar H' p'=>⟨xs.length - (i + 1),by omega,rfl,aT,p'⟩,fun x H' y=>?_⟩;obtain ⟨e,y⟩:=y;subst e;exact hs i x σ _ (y xs q) p
 .have e:i=xs.length:=by omega
  subst e;exact .inl ⟨⟨xs,q,Yf _⟩,hd σ H p⟩
theorem GV {lo:Int} {n:Nat} {g:TG} {tb:TS} {D:Ends} {σ:St} {H:Hp} (Pv:Nat->St->Hp->Prop) (h0:Pv 0 σ H)
  (hs:∀ i σ H,i < n->Pv i σ H->g (.int (lo + i)) σ H fun aQ H2=>tb {D with nx:=Pv (i + 1),ct:=Pv (i + 1),bk:=D.nx} aQ H2) (hd:∀ σ H,Pv n σ H->D.nx σ H) :
  ∃ W:Nat->Nat->St->Hp->Prop,(∃ m,W 0 m σ H)/\∀ i m σ H,W i m σ H->
   ((mX lo n).stop i H/\D.nx σ H)∨((mX lo n).go i H/\∃ N:St->Hp->Prop,(∀ ar H',N ar H'->∃ m',m' < m/\W (i + 1) m' ar H')/\∀ x H',(mX lo n).ik i H x H'->g x σ H' fun aQ H2=>tb {D with nx:=N,ct:=N,bk:=D.nx} aQ H2):=by
 refine ⟨fun i m σ H=>m=n - i/\i<=n/\Pv i σ H,⟨n,by simp,Yt _,h0⟩,?_⟩
 rintro i m σ H ⟨rfl,hi,p⟩
 by_cases aT:i < n
 .refine .inr ⟨aT,Pv (i + 1),fun ar H' p'=>⟨n - (i + 1),by omega,rfl,aT,p'⟩,fun x H' y=>?_⟩;obtain ⟨e,y⟩:=y;subst e y;exact hs i σ _ aT p
 .have e:i=n:=by omega
  subst e;exact .inl ⟨Yf _,hd σ H p⟩
end L2
namespace L2
open PySem PySem.Spec PyProof.Rows
abbrev R2:=V->V->Hp->VK->Prop
def du (X:Cx) (f:Value->Value->Sem Value) (r:R2):Prop:=
 ∀ (pins:List (Addr×Obj)) (s:Shared) (σ:St) (H:Hp) (x y:V) (v u:Value) (Q:VK),Inv X pins σ H s->RelV x v->RelV y u->r x y H Q->
  wpAny (model X.prog X.w) X.A (f v u) (EP X pins σ Q) X.xe s
def KQ (X:Cx) (f:Value->Sem Value) (r:V->Hp->VK->Prop):Prop:=
 ∀ (pins:List (Addr×Obj)) (s:Shared) (σ:St) (H:Hp) (x:V) (v:Value) (Q:VK),Inv X pins σ H s->RelV x v->r x H Q->
  wpAny (model X.prog X.w) X.A (f v) (EP X pins σ Q) X.xe s
def gK (X:Cx) (f:Value) (r:List V->Hp->VK->Prop):Prop:=
 ∀ (pins:List (Addr×Obj)) (s:Shared) (σ:St) (H:Hp) (xs:List V) (us:List Value) (Q:VK),Inv X pins σ H s->Vals xs us->r xs H Q->
  wpAny (model X.prog X.w) X.A (call f us) (EP X pins σ Q) X.xe s
def oO (r:R2) (ta tb:TE):TE:=fun σ H Q=>ta σ H fun x H1=>tb σ H1 fun y H2=>r x y H2 Q
def tUn (r:V->Hp->VK->Prop) (ta:TE):TE:=fun σ H Q=>ta σ H fun x H1=>r x H1 Q
inductive rI (C:Int->Int->Prop) (g:Int->Int->V) (x:V) (y:V) (H:Hp) (Q:VK):Prop
 | mk (i:_) (j:_):x=.int i->y=.int j->C i j->Q (g i j) H->rI C g x y H Q
inductive qK (g:Int->Int->V) (x:V) (y:V) (H:Hp) (Q:VK):Prop
 | mk (i:_) (j:_):x=.int i->y=.int j->Q (g i j) H->qK g x y H Q
inductive rU (g:Int->V) (x:V) (H:Hp) (Q:VK):Prop
 | mk (i:_):x=.int i->Q (g i) H->rU g x H Q
section
variable {X:Cx} {a b c:Expr} {ta tb tc:TE} {pos:Pos}
theorem uK (ha:PE X a ta) (hb:PE X b tb) {pins:List (Addr×Obj)} {s:Shared} {σ:St} {H:Hp} {R:V->V->Hp->Prop} (I:Inv X pins σ H s)
  (h:ta σ H fun x H1=>tb σ H1 fun y H2=>R x y H2) {Q:Value->Shared->Prop} {f:Value->Value->Sem Value}
  (hf:∀ v u s2 x y H2,Inv X pins σ H2 s2->RelV x v->RelV y u->R x y H2->wpAny (model X.prog X.w) X.A (f v u) Q X.xe s2) :
  wpAny (model X.prog X.w) X.A (eval a X.env) (fun v aC=>wpAny (model X.prog X.w) X.A (eval b X.env) (fun u ef=>wpAny (model X.prog X.w) X.A (f v u) Q X.xe ef) X.xe aC) X.xe s:=by
 try unfold PE at *
 refine az (ha pins s σ H _ I h) fun v s1 ⟨x,H1,I1,r1,q1⟩=>?_;refine az (hb pins s1 σ H1 _ I1 q1) fun u s2 ⟨y,H2,I2,r2,q2⟩=>?_;exact hf v u s2 x y H2 I2 r1 r2 q2
theorem ZC {op:Operator} {r:R2} (ho:du X (Ws op) r) (ha:PE X a ta) (hb:PE X b tb):PE X (.BinOp a op b pos) (oO r ta tb):=by
 try unfold PE
 intro pins s σ H Q I h;exact wpAny_BinOp (uK ha hb I h fun v u s2 x y H2 I2 rx ry q=>ho pins s2 σ H2 x y v u Q I2 rx ry q)
theorem rE {op:UnaryOp} {r:V->Hp->VK->Prop} (ho:KQ X (unaryOp op) r) (ha:PE X a ta):PE X (.UnaryOp op a pos) (tUn r ta):=by
 try unfold PE at *
 intro pins s σ H Q I h;exact UnaryOp_ (az (ha pins s σ H _ I h) fun v s1 ⟨x,H1,I1,r1,q1⟩=>ho pins s1 σ H1 x v Q I1 r1 q1)
theorem xg {f:Value->Value->Sem Value} {C:Int->Int->Prop} {g:Int->Int->Int}
  (rule:∀ (i j:Int) (t u:Tok) (s:Shared) (Q:Value->Shared->Prop) (E:Value->Shared->Prop),C i j->Q (.int (g i j) s.toks) {s with toks:=s.toks + 1}->wpAny (model X.prog X.w) X.A (f (.int i t) (.int j u)) Q E s) :
  du X f (rI C fun i j=>.int (g i j)):=by
 intro pins s σ H x y v u Q I rx ry h;obtain ⟨i,j,rfl,rfl,hc,q⟩:=h;obtain ⟨t,rfl⟩:=rx;obtain ⟨t',rfl⟩:=ry;exact rule i j t t' s _ _ hc ⟨.int (g i j),H,I.tok _,⟨_,rfl⟩,q⟩
theorem zu {f:Value->Value->Sem Value} {g:Int->Int->Int}
  (rule:∀ (i j:Int) (t u:Tok) (s:Shared) (Q:Value->Shared->Prop) (E:Value->Shared->Prop),Q (.int (g i j) s.toks) {s with toks:=s.toks + 1}->wpAny (model X.prog X.w) X.A (f (.int i t) (.int j u)) Q E s) :
  du X f (qK fun i j=>.int (g i j)):=by
 intro pins s σ H x y v u Q I rx ry h;obtain ⟨i,j,rfl,rfl,q⟩:=h;obtain ⟨t,rfl⟩:=rx;obtain ⟨t',rfl⟩:=ry;exact rule i j t t' s _ _ ⟨.int (g i j),H,I.tok _,⟨_,rfl⟩,q⟩
theorem uo {f:Value->Value->Sem Value} {g:Int->Int->Bool}
  (rule:∀ (i j:Int) (t u:Tok) (s:Shared) (Q:Value->Shared->Prop) (E:Value->Shared->Prop),Q (.bool (g i j)) s->wpAny (model X.prog X.w) X.A (f (.int i t) (.int j u)) Q E s) :
  du X f (qK fun i j=>.bl (g i j)):=by
 intro pins s σ H x y v u Q I rx ry h;obtain ⟨i,j,rfl,rfl,q⟩:=h;obtain ⟨t,rfl⟩:=rx;obtain ⟨t',rfl⟩:=ry;exact rule i j t t' s _ _ ⟨.bl (g i j),H,I,rfl,q⟩
def uO (i j:Int):Prop:=0 < j/\j < 1073741824
def Mi (i j:Int):Prop:=0<=j/\j<=1000000/\i.natAbs < 2 ^ 64
def uN (i j:Int):Prop:=(-(2 ^ 64) < i/\i < 2 ^ 64)∨(-(2 ^ 64) < j/\j < 2 ^ 64)
theorem uN.ok {i j:Int} (h:uN i j):IntMulOk i j:=by
 rcases h with ⟨h1,h2⟩ | ⟨h1,h2⟩
 .exact .of_left (intBits_le_64 h1 h2)
 .exact .of_right (intBits_le_64 h1 h2)
theorem gM:du X (Ws .Add) (qK fun i j=>.int (i + j)):=zu fun _ _ _ _ _ _ _ q=>add_int q
theorem pq:du X (Ws .Sub) (qK fun i j=>.int (i - j)):=zu fun _ _ _ _ _ _ _ q=>sub_int q
theorem pk:du X (Ws .Mult) (rI uN fun i j=>.int (i * j)):=xg fun _ _ _ _ _ _ _ hc q=>mul_int q hc.ok
theorem pD:du X (Ws .FloorDiv) (rI uO fun i j=>.int (i / j)):=xg fun i j _ _ _ _ _ hc q=>by
 have h1:(0:Int) < j:=hc.1;have h2:j < 1073741824:=hc.2;exact floordiv_int (by omega) (by rw [Int.fdiv_eq_ediv_of_nonneg i (by omega)];exact q) (.inl (PyProof.noPylong_small (by omega)))
theorem jb:du X (Ws .Mod) (rI (fun _ j=>0 < j) fun i j=>.int (i % j)):=xg fun i j _ _ _ _ _ hc q=>by
 have h1:(0:Int) < j:=hc;exact mod_int' (by omega) (by rw [Int.fmod_eq_emod_of_nonneg i (by omega)];exact q)
theorem Zwo:du X (Ws .Pow) (rI Mi fun i j=>.int (i ^ j.toNat)):=xg fun _ _ _ _ _ _ _ hc q=>pow_int_small hc.1 hc.2.1 hc.2.2 q
theorem unI {f:Value->Sem Value} {g:Int->Int}
  (rule:∀ (i:Int) (t:Tok) (s:Shared) (Q:Value->Shared->Prop) (E:Value->Shared->Prop),Q (.int (g i) s.toks) {s with toks:=s.toks + 1}->wpAny (model X.prog X.w) X.A (f (.int i t)) Q E s) :
  KQ X f (rU fun i=>.int (g i)):=by
 intro pins s σ H x v Q I rx h;obtain ⟨i,rfl,q⟩:=h;obtain ⟨t,rfl⟩:=rx;exact rule i t s _ _ ⟨.int (g i),H,I.tok _,⟨_,rfl⟩,q⟩
theorem rG:KQ X (unaryOp .USub) (rU fun i=>.int (-i)):=unI fun _ _ _ _ _ q=>neg_int q
end
def Lg:V->V->Bool
 | .aH,.aH=>true | .aH,.int _=>true | .int _,.aH=>true | .aH,.bl _=>true | .bl _,.aH=>true | .aH,.str _=>true | .str _,.aH=>true
 | .int _,.int _=>true | .bl _,.bl _=>true | .str _,.str _=>true | .jY _,.jY _=>true
 | .int _,.str _=>true | .str _,.int _=>true | .bl _,.str _=>true | .str _,.bl _=>true
 | _,_=>false
def rEq:R2:=fun x y H Q=>Lg x y=true/\Q (.bl (decide (x=y))) H
theorem Zxp {i j:Int}:decide (V.int i=V.int j)=(i == j):=by
 rw [X5]
 simp
theorem ZyC {i j:Bool}:decide (V.bl i=V.bl j)=(i == j):=by
 rw [X5]
 simp
theorem Zxo {i j:Str}:decide (V.str i=V.str j)=(i == j):=by
 rw [X5]
 simp
theorem Zxq {i j:Array UInt8}:decide (V.jY i=V.jY j)=(i.toList == j.toList):=by
 rw [X5]
 cases i
 cases j
 simp
section
variable {X:Cx} {a b c:Expr} {ta tb tc:TE} {pos:Pos}
theorem j0 {pins:List (Addr×Obj)} {σ:St} {H:Hp} {s:Shared} {Q:VK} {k k':Bool} (I:Inv X pins σ H s) (q:Q (.bl k) H) (e:k=k'):EP X pins σ Q (.bool k') s:=by
 subst e;exact ⟨.bl k,H,I,rfl,q⟩
theorem nJ:du X (XE .Eq) rEq:=by
 intro pins s σ H x y v u Q I rx ry h;obtain ⟨hs,q⟩:=h
 cases x with
 | aH=>
  cases rx
  cases y with
  | aH=>cases ry;exact PySem.EqNone.eq_none_none (j0 I q (by simp))
  | bl j=>cases ry;exact PySem.EqNone.eq_none_bool (j0 I q (by simp))
  | int j=>obtain ⟨t',rfl⟩:=ry;exact PySem.EqNone.eq_none_int (j0 I q (by simp))
  | str j=>obtain ⟨t',rfl⟩:=ry;exact PySem.EqNone.eq_none_str (j0 I q (by simp))
  | _=>exact absurd (show false=true from hs) Yr
 | bl i=>
  cases rx
  cases y with
  | aH=>cases ry;exact PySem.EqNone.eq_bool_none (j0 I q (by simp))
  | bl j=>cases ry;exact eq_bool (j0 I q ZyC)
  | str j=>obtain ⟨t',rfl⟩:=ry;exact PySem.EqMixed.eq_bool_str (j0 I q (by simp))
  | _=>exact absurd (show false=true from hs) Yr
 | int i=>
  obtain ⟨t,rfl⟩:=rx
  cases y with
  | aH=>cases ry;exact PySem.EqNone.eq_int_none (j0 I q (by simp))
  | int j=>obtain ⟨t',rfl⟩:=ry;exact eq_int (j0 I q Zxp)
  | str j=>obtain ⟨t',rfl⟩:=ry;exact PySem.EqMixed.eq_int_str (j0 I q (by simp))
  | _=>exact absurd (show false=true from hs) Yr
 | str i=>
  obtain ⟨t,rfl⟩:=rx
  cases y with
  | aH=>cases ry;exact PySem.EqNone.eq_str_none (j0 I q (by simp))
  | bl j=>cases ry;exact PySem.EqMixed.eq_str_bool (j0 I q (by simp))
  | int j=>obtain ⟨t',rfl⟩:=ry;exact PySem.EqMixed.eq_str_int (j0 I q (by simp))
  | str j=>obtain ⟨t',rfl⟩:=ry;exact eq_str (j0 I q Zxo)
  | _=>exact absurd (show false=true from hs) Yr
 | jY i=>
  obtain ⟨t,rfl⟩:=rx
  cases y with
  | jY j=>obtain ⟨t',rfl⟩:=ry;exact PySem.W.eq_bytes (j0 I q Zxq)
  | _=>exact absurd (show false=true from hs) Yr
 | _=>cases y <;> exact absurd (show false=true from hs) Yr
theorem rF:du X (XE .Lt) (qK fun i j=>.bl (decide (i < j))):=uo fun _ _ _ _ _ _ _ q=>lt_int q
theorem ma:du X (XE .Gt) (qK fun i j=>.bl (decide (j < i))):=uo fun _ _ _ _ _ _ _ q=>gt_int q
theorem Bu:du X (XE .GtE) (qK fun i j=>.bl (decide (j<=i))):=uo fun _ _ _ _ _ _ _ q=>ge_int q
theorem Zuh:du X (XE .In) (fun x y H Q=>∃ i j,x=.str i/\y=.str j/\Q (.bl (!(YU j i 0 j.length 1).isEmpty)) H):=by
 intro pins s σ H x y v u Q I rx ry h;obtain ⟨i,j,rfl,rfl,q⟩:=h;obtain ⟨t,rfl⟩:=rx;obtain ⟨t',rfl⟩:=ry;exact in_str (j0 I q rfl)
theorem ZU (b:Expr) {op:CmpOp} (h:op≠.In:=by decide) (h2:op≠.NotIn:=by decide):Wq op b=false:=by
 have e1:(op == CmpOp.In)=false:=by cases op <;> first | rfl | exact absurd rfl h
 have e2:(op == CmpOp.NotIn)=false:=by cases op <;> first | rfl | exact absurd rfl h2
 cases b <;> simp [Wq,e1,e2]
theorem tY {op:CmpOp} {r:R2} (ho:du X (XE op) r) (ha:PE X a ta) (hb:PE X b tb) (hm:Wq op b=false):PE X (.Compare a [op] [b] pos) (oO r ta tb):=by
 try unfold PE
 intro pins s σ H Q I h;exact wpAny_Compare1 (uK ha hb I h fun v u s2 x y H2 I2 rx ry q=>ho pins s2 σ H2 x y v u Q I2 rx ry q) hm
def Fe (t:TE):TT:=fun σ H Q=>t σ H fun x H'=>E4 x H' Q
theorem ZI {op:CmpOp} {r:R2} (ho:du X (XE op) r) (ha:PE X a ta) (hb:PE X b tb) (hm:Wq op b=false):PT X (.Compare a [op] [b] pos) (Fe (oO r ta tb)):=by
 try unfold PE at *
 intro pins s σ H Q I h
 refine wpAny_isTrue_Compare1 (az (ha pins s σ H _ I h) fun v s1 ⟨x,H1,I1,r1,q1⟩=>az (hb pins s1 σ H1 _ I1 q1) fun u s2 ⟨y,H2,I2,r2,q2⟩=>
  az (ho pins s2 σ H2 x y v u _ I2 r1 r2 q2) fun c s3 ⟨z,H3,I3,r3,k,e,q3⟩=>?_) hm
 subst e
 cases r3
 exact XI ⟨H3,I3,q3⟩
def ZxV (r r':R2) (ta tb tc:TE):TE:=fun σ H Q=>ta σ H fun x H1=>tb σ H1 fun y H2=>r x y H2 fun z H3=>∃ k,z=.bl k/\
 (if k=true then tc σ H3 fun w' H4=>r' y w' H4 Q else Q (.bl false) H3)
theorem ZvC {op DX:CmpOp} {r r':R2} (ho:du X (XE op) r) (fg:du X (XE DX) r') (ha:PE X a ta) (hb:PE X b tb) (hc:PE X c tc)
  (hm:lastMarks [op,DX] [b,c]=false:=by with_unfolding_all rfl):PT X (.Compare a [op,DX] [b,c] pos) (Fe (ZxV r r' ta tb tc)):=by
 try unfold PE at *
 intro pins s σ H Q I h
 refine isTrue_chain (az (ha pins s σ H _ I h) fun v s1 ⟨x,H1,I1,r1,q1⟩=>test_link (az (hb pins s1 σ H1 _ I1 q1) fun u s2 ⟨y,H2,I2,r2,q2⟩=>
  az (ho pins s2 σ H2 x y v u _ I2 r1 r2 q2) fun d s3 ⟨z,H3,I3,r3,k,e,q3⟩=>?_)) hm
 subst e
 cases r3
 refine XI ?_
 cases k with
 | false=>
  obtain ⟨k',e',q'⟩:=q3
  cases e'
  exact ite_ff ⟨H3,I3,q'⟩
 | true=>
  refine ite_tt (test_last (az (hc pins s3 σ H3 _ I3 q3) fun w' s4 ⟨z',H4,I4,r4,q4⟩=>az (fg pins s4 σ H4 y z' u w' _ I4 r2 r4 q4) fun d' s5 ⟨z2,H5,I5,r5,k2,e2,q5⟩=>?_));subst e2
  cases r5
  exact XI ⟨H5,I5,q5⟩
theorem vT:(Yj:Nat) < 2 ^ 63:=by rw [Wz];decide
theorem yb {x:V} {us:List Value} (r:Vals [x] us):∃ u,us=[u]/\RelV x u:=by
 cases r with
 | cons r1 r2=>cases r2;exact ⟨_,rfl,r1⟩
theorem ZyX {x y:V} {us:List Value} (r:Vals [x,y] us):∃ u w',us=[u,w']/\RelV x u/\RelV y w':=by
 cases r with
 | cons r1 r2=>
  cases r2 with
  | cons r3 r4=>cases r4;exact ⟨_,_,rfl,r1,r3⟩
theorem Zvi (hc:X.calm=true):gK X (.builtin "min") (fun xs H Q=>∃ i j,xs=[.int i,.int j]/\Q (.int (if j < i then j else i)) H):=by
 intro pins s σ H xs us Q I r h;obtain ⟨i,j,rfl,q⟩:=h;obtain ⟨u,w',rfl,⟨t,rfl⟩,⟨t',rfl⟩⟩:=ZyX r;refine min_two_ints (I.ok.hd hc) fun h' tk k=>⟨_,H,I.kept k,?_,q⟩
 by_cases hj:j < i
 .rw [if_pos hj,if_pos hj];exact ⟨_,rfl⟩
 .rw [if_neg hj,if_neg hj];exact ⟨_,rfl⟩
end
end L2
namespace L2
open PySem PySem.Spec PyProof.Rows
structure kD (h:Heap) (x dx C:Addr) (mA:Str->Option Value):Prop where
 obj:h.get? x=some (X2 C dx)
 ns:h.Ns1 dx mA
 ne:dx≠x
theorem ZuE {h:Heap} {dx:Addr} {mA:Str->Option Value} (n:h.Ns1 dx mA):∃ od,h.get? dx=some od/\∀ name,PySem.W.lookIn name od=some (mA name):=by
 obtain ⟨o,es,ep,ho,hd,hk,_,hm⟩:=n;refine ⟨o,ho,fun name=>?_⟩;have e:=hm name;unfold nsFind findBy at e;rw [<- Array.find?_toList] at e;unfold PySem.W.lookIn;rw [hd];dsimp only
 split
 .rename_i y q
  rw [q] at e;exact congrArg some e
 .rename_i q
  rw [q] at e
  have a:es.toList.any (·.refKey)=false:=by
   rw [List.any_eq_false];intro y hy;obtain ⟨z,t,kA⟩:=hk y (Array.mem_toList_iff.mp hy)
   simp [DictEntry.refKey,kA]
  have a':¬ es.toList.any (·.refKey)=true:=by rw [a];exact Yr
  rw [if_neg a'];exact congrArg some e
theorem kD.look {h:Heap} {x dx C:Addr} {mA:Str->Option Value} (I:kD h x dx C mA):∃ od,PySem.W.InstAt h x (X2 C dx) C (some od)/\∀ name,PySem.W.lookIn name od=some (mA name):=
 let ⟨od,ho,hl⟩:=ZuE I.ns
 ⟨od,⟨I.obj,rfl,rfl,ho⟩,hl⟩
section
variable {prog:Program} {w:World} {A:Around} {E:Value->Shared->Prop} {s:Shared} {K:Yg} {x dx C f:Addr} {mA:Str->Option Value} {name:Str} {v:Value}
theorem Zxj {expr:Bool} {Q:Value->Shared->Prop} (X:K.In s.heap) (I:kD s.heap x dx C mA) (hg:YaO K C name=true) (hh:PySem.W.hasDictIn K C=true)
  (ha:Xj K (.ref C) name=some none) (hv:mA name=some v) (hv':PySem.W.handedIn v=true) (h:Q v {s with toks:=s.toks + 1}) :
  wpAny (model prog w) A (getAttr (.ref x) name expr) Q E s:=by
 obtain ⟨od,J,hl⟩:=I.look;exact PySem.W.get_value X J (Ybd hg).1 (PySem.W.findObj_own hh ha rfl (by rw [hl,hv])) hv' h
theorem Zv0 {pl:Sem Bool} {Q:Value×List Value->Shared->Prop} (X:K.In s.heap) (I:kD s.heap x dx C mA) (hg:YaO K C name=true)
  (hf:Xj K (.ref C) name=some (some (.ref f))) (ht:PySem.W.isFn K (.ref f)=true) (hv:mA name=none) (h:Q (.ref f,[.ref x]) s) :
  wpAny (model prog w) A (getMethod (.ref x) name pl) Q E s:=by
 obtain ⟨od,J,hl⟩:=I.look;exact PySem.W.method_fn X J (Ybd hg).1 (Ybd hg).2 hf (beq_iff_eq.mp ht) (by show (PySem.W.lookIn name od).map (·.isSome)=some false;rw [hl,hv];rfl) h
theorem ZwS {ns:List Str} {Q:Unit->Shared->Prop} (X:K.In s.heap) (I:kD s.heap x dx C mA)
  (hs:Xj K (.ref C) "__setattr__"=some (some (.builtin "object.__setattr__"))) (hp:PySem.W.plainOver K C=true) (ht:PySem.W.takerIn K C name=some none) (hh:PySem.W.hasDictIn K C=true)
  (hw:PySem.Within mA ns) (hsz:ns.length<=Yj)
  (h:∀ h',kD h' x dx C (fun y=>if y=name then some v else mA y)->Xv dx s.heap h'->Q () {s with heap:=h',toks:=s.toks + 2}) :
  wpAny (model prog w) A (setAttr (.ref x) name v) Q E s:=by
 obtain ⟨od,J,hl⟩:=I.look;refine PySem.W.set_plain X J hs (PySem.W.osa_open (s:={s with toks:=s.toks + 1}) (r:=none) X J hp ht fun b=>?_);obtain ⟨cd,hc,EB⟩:=PySem.W.any_some hh;have hx:s.heap.get? x=some ⟨.ref C,some dx,.plain,#[]⟩:=I.obj;refine Ya (Ye (Ya (Ya (wpAny_loadPart hx (Ya (PySem.W.Looks.here (s:={s with toks:=s.toks + 1}) (PySem.W.looks_clsIn X hc) ?_))))));rw [EB];refine Ye (a:=some dx) (Ya (Ye (Ya ?_)));refine wpAny_nsSet1 (s:={s with toks:=s.toks + 1}) I.ns fun h' xG oW=>?_;obtain ⟨oD,esD,epD,hoD,hdD,hcD⟩:=xG.count (PySem.Within.cons name v hw);refine Ya (wpAny_lookBehind hoD (by rw [hdD];exact pastItsLine_dict (Yn hcD (by rw [Yv];omega))) ?_);exact Ye (h _ ⟨(oW.2 _ (WT I.ne)).trans I.obj,xG,I.ne⟩ oW)
theorem ZvS {R:Result->Shared->Prop} {vs:List Value} {kw:List (Str×Value)} (X:K.In s.heap) (hm:PySem.W.makesIn K C=true)
  (hi:Xj K (.ref C) "__init__"=some (some (.ref f))) (hf:PySem.W.typeIn K (.ref f)=some (.type "function"))
  (h:codeAny (model prog w) (A.under (.builtin "type.__call__" ⟨.ref C::vs,kw⟩)) (.call (.ref f) ⟨.ref (s.heap.objs.size + 1)::vs,kw⟩) (PySem.W.InitBack (s.heap.objs.size + 1) R)
   {s with heap:=(s.heap.push Xs).push (X2 C s.heap.objs.size)}) :
  codeAny (model prog w) A (.call (.ref C) ⟨vs,kw⟩) R s:=by
 obtain ⟨hh,g,d,t,os⟩:=s;exact PySem.W.make_core (PySem.W.makes_of X hm) (PySem.W.looks_findIn X hi) (fun self=>PySem.W.bind_fn X self hf) (.inl rfl) h
end
def aq (f:Str) (v:V):List (Str×V)->List (Str×V)
  | []=>[(f,v)]
  | (g,x)::r=>if g=f then (g,v)::r else (g,x)::aq f v r
theorem Zj (f g:Str) (v:V):∀ fs:List (Str×V),(aq f v fs).lookup g=if g=f then some v else fs.lookup g
  | []=>by
    show XU g [(f,v)]=_
    by_cases h:g=f
    · have hb:(g == f)=true:=beq_iff_eq.mpr h
      simp only [XU,hb,if_pos h]
    · have hb:(g == f)=false:=beq_eq_false_iff_ne.mpr h
      simp only [XU,hb,if_neg h]
  | (k,x)::r=>by
    have ih:=Zj f g v r;rw [show aq f v ((k,x)::r)=(if k=f then (k,v)::r else (k,x)::aq f v r) from rfl]
    by_cases hk:k=f
    · rw [if_pos hk]
      by_cases h:g=k
      · have hb:(g == k)=true:=beq_iff_eq.mpr h
        simp only [XU,hb,if_pos (h.trans hk)]
      · have hb:(g == k)=false:=beq_eq_false_iff_ne.mpr h
        simp only [XU,hb,if_neg (fun e:g=f=>h (e.trans hk.symm))]
    · rw [if_neg hk]
      by_cases h:g=k
      · have hb:(g == k)=true:=beq_iff_eq.mpr h
        simp only [XU,hb,if_neg (fun e:g=f=>hk (h.symm.trans e))]
      · have hb:(g == k)=false:=beq_eq_false_iff_ne.mpr h
        simp only [XU,hb]
        exact ih
theorem GH (f:Str) (v:V):∀ fs:List (Str×V),f∈(aq f v fs).map (·.1)/\∀ g,g∈fs.map (·.1)->g∈(aq f v fs).map (·.1)
  | []=>⟨by simp [aq],fun g h=>by simp at h⟩
  | (k,x)::r=>by
    obtain ⟨i1,i2⟩:=GH f v r;rw [show aq f v ((k,x)::r)=(if k=f then (k,v)::r else (k,x)::aq f v r) from rfl]
    by_cases hk:k=f
    · rw [if_pos hk]
      subst hk;exact ⟨by simp,fun g h=>by simpa using h⟩
    · rw [if_neg hk]
      refine ⟨?_,fun g h=>?_⟩
      · rw [Yx]
        exact Yp _ i1
      · rw [Yx] at h ⊢
        rcases List.mem_cons.mp h with e | e
        · exact List.mem_cons.mpr (.inl e)
        · exact Yp _ (i2 g e)
theorem ZlQ (f:Str) (v:V):∀ fs:List (Str×V),(aq f v fs).length<=fs.length + 1
  | []=>by simp [aq]
  | (k,x)::r=>by
    have ih:=ZlQ f v r;rw [show aq f v ((k,x)::r)=(if k=f then (k,v)::r else (k,x)::aq f v r) from rfl]
    by_cases hk:k=f
    · rw [if_pos hk,Yv,Yv];omega
    · rw [if_neg hk,Yv,Yv];omega
theorem cj.some_of {v:V} {o:Option Value} (r:cj (some v) o):∃ u,o=some u/\RelV v u:=by
 cases o with
 | none=>exact (show False from r).elim
 | some u=>exact ⟨u,rfl,r⟩
theorem cj.none_of {o:Option Value} (r:cj none o):o=none:=by
 cases o with
 | none=>rfl
 | some u=>exact (show False from r).elim
theorem ZuP {v:V} {u:Value} (r:RelV v u):PySem.W.handedIn u=true:=by
 cases v with
 | aH=>cases (show u=Value.none from r);rfl
 | bl b=>cases (show u=Value.bool b from r);rfl
 | int i=>obtain ⟨t,e⟩:=(show ∃ t,u=Value.int i t from r);cases e;rfl
 | str x=>obtain ⟨t,e⟩:=(show ∃ t,u=Value.str x t from r);cases e;rfl
 | jY b=>obtain ⟨t,e⟩:=(show ∃ t,u=Value.bytes b t from r);cases e;rfl
 | q_ b=>obtain ⟨t,e⟩:=(show ∃ t,u=Value.float b t from r);cases e;rfl
 | ref a=>cases (show u=Value.ref a from r);rfl
 | ty n=>cases (show u=Value.type n from r);rfl
section
variable {P:Program} {w:World} {H H':Hp} {h h':Heap} {a C dx:Addr} {fs fs':List (Str×V)}
theorem BM (ak:b_ P w H h) (e:H a=some (.ins C dx fs)):∃ mA,kD h a dx C mA/\(∀ f,cj (fs.lookup f) (mA f))/\PySem.Within mA (fs.map (·.1))/\fs.length<=1000/\H dx=some (.own a):=by
 obtain ⟨d,z,ne,ob,mA,n,r,q⟩:=(show bH P w H h a (.ins C dx fs) from ak a _ e)
 exact ⟨mA,⟨ob,n,ne⟩,r,q,z,d⟩
end
structure Cls (K:Yg) (C:Addr):Prop where
 pg:YaO K C Str.empty=true
 hd:PySem.W.hasDictIn K C=true
 po:PySem.W.plainOver K C=true
 sa:Xj K (.ref C) "__setattr__"=some (some (.builtin "object.__setattr__"))
theorem Cls.get {K:Yg} {C:Addr} (c:Cls K C) (f:Str):YaO K C f=true:=c.pg
def d6 (K:Yg) (C:Addr) (f:Str):Prop:=Xj K (.ref C) f=some none
theorem d6.Ai {K:Yg} {C:Addr} {f:Str} (n:d6 K C f):PySem.W.takerIn K C f=some none:=by
 unfold PySem.W.takerIn;rw [show Xj K (.ref C) f=some none from n];rfl
structure Meth (K:Yg) (C:Addr) (m:Str) (f:Addr):Prop where
 at_:Xj K (.ref C) m=some (some (.ref f))
 fn:PySem.W.isFn K (.ref f)=true
 kp:W0 K (.ref f)=true
section
variable {X:Cx} {pins:List (Addr×Obj)} {σ:St} {H:Hp} {s:Shared} {a C dx:Addr} {fs:List (Str×V)} {f:Str} {v:V} {A:Around} {E:Value->Shared->Prop}
theorem Ztr {b:Bool} {Q:Value->Shared->Prop} (I:Inv X pins σ H s) (e:H a=some (.ins C dx fs)) (c:Cls X.K C) (n:d6 X.K C f) (l:fs.lookup f=some v)
  (h:∀ u s',Inv X pins σ H s'->RelV v u->Q u s'):wpAny (model X.prog X.w) A (getAttr (.ref a) f b) Q E s:=by
 obtain ⟨mA,O,r,_,_,_⟩:=BM I.ak e;obtain ⟨u,hu,ru⟩:=cj.some_of (v:=v) (o:=mA f) (by rw [<- l];exact r f);exact Zxj I.cE O (c.get f) c.hd n hu (ZuP ru) (h u _ (I.tok _) ru)
theorem ZnE {m:Str} {g:Addr} {pl:Sem Bool} {Q:Value×List Value->Shared->Prop} (I:Inv X pins σ H s) (e:H a=some (.ins C dx fs)) (c:Cls X.K C) (k:Meth X.K C m g) (l:fs.lookup m=none)
  (h:Q (.ref g,[.ref a]) s):wpAny (model X.prog X.w) A (getMethod (.ref a) m pl) Q E s:=by
 obtain ⟨mA,O,r,_,_,_⟩:=BM I.ak e;have hn:mA m=none:=cj.none_of (by rw [<- l];exact r m);exact Zv0 I.cE O (c.get m) k.at_ k.fn hn h
theorem ZsU {y:V} {u:Value} {Q:Unit->Shared->Prop} (I:Inv X pins σ H s) (e:H a=some (.ins C dx fs)) (c:Cls X.K C) (n:d6 X.K C f) (hl:fs.length < 1000) (ry:RelV y u)
  (h:∀ s',Inv X pins σ (upd H a (.ins C dx (aq f y fs))) s'->Q () s'):wpAny (model X.prog X.w) A (setAttr (.ref a) f u) Q E s:=by
 obtain ⟨mA,O,r,wi,_,ho⟩:=BM I.ak e;have hz:(fs.map (·.1)).length<=Yj:=by rw [Yb,Wz];omega
 refine ZwS I.cE O c.sa c.po n.Ai c.hd wi hz fun h' O' sb=>h _ ?_;have hd:∃ o,h'.get? dx=some o:=let ⟨o,_,_,e',_⟩:=O'.ns;⟨o,e'⟩
 refine I.write (x:=a) (e:=dx) (by rw [e];exact XZ) (.inr ho) (fun b q hb z=>(sb.2 b hb).trans z) hd ?_;refine ⟨by rw [Ze O.ne];exact ho,?_,O.ne,O'.obj,_,O'.ns,fun g=>?_,fun g hg=>?_⟩
 .have:=ZlQ f y fs;omega
 .show cj ((aq f y fs).lookup g) (if g=f then some u else mA g);rw [Zj]
  by_cases q:g=f
  .rw [if_pos q,if_pos q];exact ry
  .rw [if_neg q,if_neg q];exact r g
 .by_cases q:g=f
  .rw [q];exact (GH f y fs).1
  .refine (GH f y fs).2 g (wi g fun z=>hg ?_);show (if g=f then some u else mA g)=none;rw [if_neg q];exact z
theorem Inv.made (I:Inv X pins σ H s):Inv X pins σ (upd (upd H s.heap.objs.size (.own (s.heap.objs.size + 1))) (s.heap.objs.size + 1) (.ins C s.heap.objs.size []))
  {s with heap:=(s.heap.push Xs).push (X2 C s.heap.objs.size)}:=by
 have e1:(s.heap.push Xs).get? s.heap.objs.size=some Xs:=Yh s.heap rfl
 have e2:((s.heap.push Xs).push (X2 C s.heap.objs.size)).get? (s.heap.objs.size + 1)=some (X2 C s.heap.objs.size):=by
  have:=Yh (s.heap.push Xs) (o:=X2 C s.heap.objs.size) rfl
  rwa [XX] at this
 have e3:(s.heap.push Xs).Ns s.heap.objs.size (fun _=>none):=⟨Xs,#[],_,e1,rfl,(fun e he=>absurd he (by simp)),fun _=>rfl⟩
 have I1:=I.laid (a:=s.heap.objs.size) (o:=.own (s.heap.objs.size + 1)) (h':=s.heap.push Xs) (t':=s.toks) (fun b u q=>Yc _ q) (Yf _) ⟨_,e1⟩;refine I1.laid (a:=s.heap.objs.size + 1) (o:=.ins C s.heap.objs.size []) (t':=s.toks) (fun b u q=>Yc _ q) (Yam (XX _ _)) ?_;have ne:s.heap.objs.size≠s.heap.objs.size + 1:=Yy (YaP _);refine ⟨by rw [Ze ne,Zb],Yt _,ne,e2,fun _=>none,(Heap.Ns1.of_empty e3).at fun o q=>Yc _ q,fun _=>XZ,fun y hy=>absurd rfl hy⟩
theorem Zxy {prog:Program} {w:World} {env:Env} {e:Expr} {f:Str} {pos:Pos} {s:Shared} {Q:Value->Shared->Prop} (hb:Yaa e f env (eval e env)=eval e env)
  (h:wpAny (model prog w) A (eval e env) (fun o aC=>wpAny (model prog w) A (getAttr o f true) Q E aC) E s):wpAny (model prog w) A (eval (.Attribute e f pos) env) Q E s:=
 Attribute_any_ h (by rw [arm_eval_Attribute,hb])
end
inductive z_ (K:Yg) (f:Str) (x:V) (H1:Hp) (Q:VK):Prop
 | mk (a:_) (C:_) (dx:_) (fs:_) (v:_):x=.ref a->H1 a=some (.ins C dx fs)->Cls K C->d6 K C f->fs.lookup f=some v->Q v H1->z_ K f x H1 Q
def Lb (K:Yg) (ta:TE) (f:Str):TE:=fun σ H Q=>ta σ H fun x H1=>z_ K f x H1 Q
def Lh (K:Yg) (ta tv:TE) (f:Str):TS:=fun D σ H=>tv σ H fun y H1=>ta σ H1 fun x H2=>∃ a C dx fs,x=.ref a/\H2 a=some (.ins C dx fs)/\Cls K C/\d6 K C f/\fs.length < 1000/\
 D.nx σ (upd H2 a (.ins C dx (aq f y fs)))
section
variable {X:Cx} {o e value:Expr} {f:Str} {pos pos' K7:Pos} {ta tv:TE}
theorem Zp (he:PE X e ta) (hb:Yaa e f X.env (eval e X.env)=eval e X.env):PE X (.Attribute e f pos) (Lb X.K ta f):=by
 try unfold PE at *
 intro pins s σ H Q I h;refine Zxy hb (az (he pins s σ H _ I h) fun u s1 ⟨x,H1,I1,rx,a,C,dx,fs,v,ex,ea,c,n,l,q⟩=>?_);subst ex;obtain rfl:u=Value.ref a:=rx;exact Ztr I1 ea c n l fun u' s2 I2 ru=>⟨v,H1,I2,ru,q⟩
theorem ee (ha:PE X o ta) (hv:PE X value tv) (hs:swapsWith value (some (.Attribute o f pos')) pos.line X.env=pure false):PS X (.Assign [.Attribute o f pos'] value pos) (Lh X.K ta tv f):=by
 try unfold PE at *;try unfold PS at *
 intro pins s σ H D I h;refine plainObj_wpAny_Assign_Attribute (az (hv pins s σ H _ I h) fun u s1 ⟨y,H1,I1,ry,q⟩=>az (ha pins s1 σ H1 _ I1 q) fun ov s2 ⟨x,H2,I2,rx,a,C,dx,fs,ex,ea,c,n,l,q2⟩=>?_) hs;subst ex;obtain rfl:ov=Value.ref a:=rx;exact ZsU I2 ea c n l ry fun s3 I3=>⟨σ,_,I3,q2⟩
end
section
variable {X:Cx} {pins:List (Addr×Obj)} {σ:St} {H:Hp} {s:Shared} {A:Around} {E:Value->Shared->Prop} {Q:Value->Shared->Prop} {c:Value} {b:Bool}
inductive ff (K:Yg) (H:Hp):V->Value->Prop where
 | aH:ff K H .aH (.type "NoneType")
 | bl (x:Bool):ff K H (.bl x) (.type "bool")
 | int (i:Int):ff K H (.int i) (.type "int")
 | str (x:Str):ff K H (.str x) (.type "str")
 | q_ (x:UInt64):ff K H (.q_ x) (.type "float")
 | lst {a:Addr} {xs:List V} (e:H a=some (.lst xs)):ff K H (.ref a) (.type "list")
 | bf {a:Addr} {o:Obj} {xs:List V} (e:H a=some (.bf o (.lst xs))):ff K H (.ref a) (.type "list")
 | tup {a:Addr} {xs:List V} (e:H a=some (.tup xs)):ff K H (.ref a) (.type "tuple")
 | dK {a:Addr} {kvs:List (Key×V)} (e:H a=some (.dK kvs)):ff K H (.ref a) (.type "dict")
 | dT {a:Addr} {kvs:List (List Key×V)} (e:H a=some (.dT kvs)):ff K H (.ref a) (.type "dict")
 | ins {a C dx:Addr} {fs:List (Str×V)} (e:H a=some (.ins C dx fs)) (cl:Cls K C) (ha:Xj K (.ref C) "__class__"=some (some (.builtin "object.__class__")))
   (hn:PySem.W.specialIn K (.builtin "object.__class__") "__get__"=some (some (.builtin "getset_descriptor.__get__"))) (jW:PySem.W.takesIn K (.builtin "object.__class__")=some true)
   (hm:PySem.W.mroIn K C (.type "object")=some true):ff K H (.ref a) (.ref C)
theorem ZuK {x:V} {u t:Value} (I:Inv X pins σ H s) (rx:RelV x u) (ty:ff X.K H x t) (e:Yas X.K t c=some b) (h:∀ tk,Q (.bool b) {s with toks:=tk}) :
  wpAny (model X.prog X.w) A (call (.builtin "isinstance") [u,c]) Q E s:=by
 cases ty with
 | aH=>cases (show u=Value.none from rx);exact Xl PySem.W.kitx_none I.cE XZ e (fun z=>nomatch z) h
 | bl y=>cases (show u=Value.bool y from rx);exact Xl PySem.W.kitx_bool I.cE XZ e (fun z=>nomatch z) h
 | int i=>obtain ⟨t,q⟩:=(show ∃ t,u=Value.int i t from rx);cases q;exact Xl PySem.W.kitx_int I.cE XZ e (fun z=>nomatch z) h
 | str y=>obtain ⟨t,q⟩:=(show ∃ t,u=Value.str y t from rx);cases q;exact Xl PySem.W.kitx_str I.cE XZ e (fun z=>nomatch z) h
 | q_ y=>obtain ⟨t,q⟩:=(show ∃ t,u=Value.float y t from rx);cases q;exact Xl PySem.W.kitx_float I.cE XZ e (fun z=>nomatch z) h
 | @lst a xs ea=>
  cases (show u=Value.ref a from rx)
  obtain ⟨_,_,n,_,h1⟩:=(show bH X.prog X.w H s.heap a (.lst xs) from I.ak a _ ea)
  exact Xl PySem.W.kitx_list I.cE ⟨_,h1,rfl⟩ e (fun z=>nomatch z) h
 | @bf a ob xs ea=>
  cases (show u=Value.ref a from rx)
  obtain ⟨_,_,_,n,_,h1⟩:=(show bH X.prog X.w H s.heap a (.bf ob (.lst xs)) from I.ak a _ ea)
  exact Xl PySem.W.kitx_list I.cE ⟨_,h1,rfl⟩ e (fun z=>nomatch z) h
 | @tup a xs ea=>
  cases (show u=Value.ref a from rx)
  obtain ⟨_,_,_,p⟩:=(show bH X.prog X.w H s.heap a (.tup xs) from I.ak a _ ea)
  obtain ⟨o,h1,h2,_⟩:=p;exact Xl PySem.W.kitx_tuple I.cE ⟨o,h1,h2⟩ e (fun z=>nomatch z) h
 | @dK a kvs ea=>
  cases (show u=Value.ref a from rx)
  obtain ⟨_,_,vs,_,p⟩:=(show bH X.prog X.w H s.heap a (.dK kvs) from I.ak a _ ea)
  obtain ⟨o,es,ep,h1,h2,_⟩:=p;exact Xl PySem.W.kitx_dict I.cE ⟨o,h1,h2.1⟩ e (fun z=>nomatch z) h
 | @dT a kvs ea=>
  cases (show u=Value.ref a from rx)
  obtain ⟨_,_,xs,_,o,es,ep,h1,h2,_⟩:=(show bH X.prog X.w H s.heap a (.dT kvs) from I.ak a _ ea)
  exact Xl PySem.W.kitx_dict I.cE ⟨o,h1,h2.1⟩ e (fun z=>nomatch z) h
 | @ins a C dx fs ea cl ha hn jW hm=>
  cases (show u=Value.ref a from rx)
  obtain ⟨mA,O,_⟩:=BM I.ak ea;obtain ⟨od,J,_⟩:=O.look;exact Xl (PySem.W.kitx_own (cl.get _) cl.hd ha hn jW hm) I.cE J e (fun z=>nomatch z) h
end
end L2
namespace L2
open PySem PySem.Spec PyProof.Rows
structure aW (k:Nat) (A:Around):Prop where
 hd:A.handled=none
 dp:A.depth + 3 * k + 5 < recursionLimit
 un:A.units + 16 * k + 200 < cLine
theorem aW.mono {j k:Nat} {A:Around} (r:aW k A) (h:j<=k):aW j A:=⟨r.hd,by have:=r.dp;omega,by have:=r.un;omega⟩
theorem aW.deeper {k:Nat} {A:Around} (r:aW (k + 1) A) (env:Env):aW k (A.deeper env):=
 ⟨r.hd,by have:=r.dp;show A.depth + 1 + 3 * k + 5 < _;omega,by have:=r.un;show A.units + 3 + 16 * k + 200 < _;omega⟩
theorem Ztf {A:Around} {C:Addr} {us:List Value} {kw:List (Str×Value)}:(A.under (.builtin "type.__call__" ⟨.ref C::us,kw⟩)).depth=A.depth + 1:=by
 first | rfl | simp [Around.under,Code.weight,Code.isCreation,Code.isGuard,Code.isCaller,Code.frames,Code.isFrame,guardIds]
theorem Zte {A:Around} {C:Addr} {us:List Value} {kw:List (Str×Value)}:(A.under (.builtin "type.__call__" ⟨.ref C::us,kw⟩)).units=A.units + 1:=by
 first | rfl | simp [Around.under,Code.cUnits,Code.frames,Code.isFrame]
theorem aW.make {k:Nat} {A:Around} (r:aW (k + 1) A) (C:Addr) (us:List Value) (kw:List (Str×Value)):aW k (A.under (.builtin "type.__call__" ⟨.ref C::us,kw⟩)):=
 ⟨r.hd,by have:=r.dp;rw [Ztf];omega,by have:=r.un;rw [Zte];omega⟩
theorem aW.depth {k:Nat} {A:Around} (r:aW k A):A.depth < recursionLimit:=by have:=r.dp;omega
theorem aW.units {k:Nat} {A:Around} (r:aW k A):A.units + 64 < cLine:=by have:=r.un;omega
def bB:TA:=fun _ H Q=>Q [] H
def gu (ta:TE) (tr:TA):TA:=fun σ H Q=>ta σ H fun x H1=>tr σ H1 fun xs H2=>Q (x::xs) H2
section
variable {X:Cx} {e:Expr} {es:List Expr} {te:TE} {t:TA} {pos:Pos}
theorem Zf:PA X [] bB:=by
 try unfold PA at *
 exact fun _ _ _ _ H Q I h=>Calls.spliced_nil ⟨[],H,I,.nil,h⟩
theorem Za (ha:PE X e te) (hr:PA X es t) (hs:YF (e::es) X.env=(false,eval e X.env)::YF es X.env:=by rfl):PA X (e::es) (gu te t):=by
 try unfold PE at *;try unfold PA at *
 intro pos pins s σ H Q I h;rw [hs];show wpAny _ _ (spliced ((false,eval e X.env)::Wx pos (YF es X.env))) _ _ s;refine Ybl (az (ha pins s σ H _ I h) fun u s1 ⟨x,H1,I1,r1,q1⟩=>?_);exact az (hr pos pins s1 σ H1 _ I1 q1) fun us s2 ⟨xs,H2,I2,r2,q2⟩=>⟨x::xs,H2,I2,.cons r1 r2,q2⟩
def uj (t:TA):TE:=fun σ H Q=>t σ H fun xs H1=>xs.length<=Yj/\∀ p,H1 p=none->Q (.ref p) (upd H1 p (.tup xs))
def y_ (t:TA):TE:=fun σ H Q=>t σ H fun xs H1=>xs.length<=Yj/\∀ p,H1 p=none->Q (.ref p) (upd H1 p (.lst xs))
theorem ed {x1} (h:PA X es t):PE X (.Tuple es x1 pos) (uj t):=by
 try unfold PE at *;try unfold PA at *
 intro pins s σ H Q I hq;refine wpAny_Tuple_spliced (az (h pos pins s σ H _ I hq) fun us s1 ⟨xs,H1,I1,r,z,q⟩=>⟨by rw [<- r.length];exact z,?_⟩);have hf:H1 s1.heap.objs.size=none:=I1.ak.fresh (Yf _);refine ⟨.ref s1.heap.objs.size,upd H1 s1.heap.objs.size (.tup xs),I1.laid (t':=s1.toks) (fun b u e=>Yc _ e) (Yf _) ?_,rfl,q _ hf⟩;exact ⟨z,us,r,⟨_,Yh _ rfl,rfl,_,rfl⟩⟩
theorem mf (h:PA X es t):PE X (.List es pos) (y_ t):=by
 try unfold PE at *;try unfold PA at *
 intro pins s σ H Q I hq;refine wpAny_List_spliced (az (h pos pins s σ H _ I hq) fun us s1 ⟨xs,H1,I1,r,z,q⟩=>⟨by rw [<- r.length];exact z,?_⟩);have hf:H1 s1.heap.objs.size=none:=I1.ak.fresh (Yf _);refine ⟨.ref s1.heap.objs.size,upd H1 s1.heap.objs.size (.lst xs),I1.laid (t':=s1.toks) (fun b u e=>Yc _ e) (Yf _) ?_,rfl,q _ hf⟩;exact ⟨z,us,0,r,Yh _ rfl⟩
end
abbrev Sp:=List V->Hp->VK->XK->Prop
abbrev mY:=List Env->Hp->Shared->XK->Value->Shared->Prop
structure kG (P:Program) (w:World) (K:Yg) (mg:Str->Option Value) (base:Heap) (A:Around) (outer:List Env) (s:Shared) (H:Hp):Prop where
 frames:A.frames=some outer
 mod:Mod K mg base
 bs:∀ b o,base.get? b=some o->s.heap.get? b=some o/\H b=none
 l8:base.objs.size<=s.heap.objs.size
 bQ:s.heap.FunFrames base outer
 nG:∀ b∈cg outer,H b=none
 ak:b_ P w H s.heap
 bare:AllBare s.gens
def CE (outer:List Env) (P:Program) (w:World) (H:Hp) (s:Shared) (Q:VK) (u:Value) (s':Shared):Prop:=
 ∃ v H',s'.os=s.os/\AllBare s'.gens/\Un (cg outer) [] H H' s.heap s'.heap/\b_ P w H' s'.heap/\RelV v u/\Q v H'
def CR (CX:mY) (outer:List Env) (P:Program) (w:World) (H:Hp) (s:Shared) (Q:VK) (E:XK) (r:Result) (s':Shared):Prop:=
 match r with
 | .ok (.ret u)=>CE outer P w H s Q u s'
 | .ok _=>False
 | .error e=>CX outer H s E e s'
structure ah (P:Program) (w:World) (K:Yg) (mg:Str->Option Value) (base:Heap) (CX:mY) (k:Nat) (f:Addr) (fd:Ym) (ps:List Str) (sp:Sp):Prop where
 len:∀ vs H Q E,sp vs H Q E->vs.length=ps.length
 run:∀ (A:Around) (outer:List Env) (s:Shared) (H:Hp) (args:Args) (us:List Value) (vs:List V) (Q:VK) (E:XK),aW k A->kG P w K mg base A outer s H->BindsTo s fd args (ps.zip us)->Vals vs us->sp vs H Q E->
  codeAny (model P w) A (.call (.ref f) args) (CR CX outer P w H s Q E) s
theorem kG.make {P:Program} {w:World} {K:Yg} {mg:Str->Option Value} {base:Heap} {A:Around} {outer:List Env} {s:Shared} {H:Hp} (e:kG P w K mg base A outer s H) (C:Addr) (us:List Value) (kw:List (Str×Value)) :
  kG P w K mg base (A.under (.builtin "type.__call__" ⟨.ref C::us,kw⟩)) outer s H:=⟨by first | exact e.frames | (simpa [Around.under,Code.envs,Code.isFrame,pushEnvs] using e.frames),e.mod,e.bs,e.l8,e.bQ,e.nG,e.ak,e.bare⟩
section
variable {X:Cx} {pins:List (Addr×Obj)} {σ:St} {H:Hp} {s s':Shared}
theorem Inv.zX (I:Inv X pins σ H s):kG X.prog X.w X.K X.mg X.base X.A X.stack s H:=
 ⟨I.ok.frames,I.ok.mod,I.bs,Yn I.ok.l8 I.sz,I.stack,I.dB,I.ak,I.bare⟩
theorem Inv.after {Q:VK} {u:Value} (I:Inv X pins σ H s) (h:CE X.stack X.prog X.w H s Q u s'):EP X pins σ Q u s':=by
 obtain ⟨v,H',os,bare,un,ak,r,q⟩:=h;obtain ⟨hh,g,d,t,os'⟩:=s';obtain rfl:os'=s.os:=os;exact ⟨v,H',I.call (h':=hh) (g':=g) (d':=d) (t':=t) (ch:=[]) un ak bare (fun b z=>absurd z (by simp)),r,q⟩
end
def x9 (sp:Sp) (ft:List V) (E:St->XK) (t:TA):TE:=fun σ H Q=>t σ H fun vs H1=>sp (vs++ft) H1 Q (E σ)
def Bq (C:Addr) (m:Str) (sp:Sp) (ft:List V) (E:St->XK) (ta:TE) (t:TA):TE:=fun σ H Q=>ta σ H fun x H1=>∃ a dx fs,x=.ref a/\H1 a=some (.ins C dx fs)/\fs.lookup m=none/\
 t σ H1 fun vs H2=>sp (x::(vs++ft)) H2 Q (E σ)
def Zy3 (C:Addr) (sp:Sp) (ft:List V) (E:St->XK) (t:TA):TE:=fun σ H Q=>t σ H fun vs H1=>∀ x dx,H1 x=none->H1 dx=none->dx≠x->
 sp (.ref x::(vs++ft)) (upd (upd H1 dx (.own x)) x (.ins C dx [])) (fun v H2=>v=.aH/\Q (.ref x) H2) (E σ)
def ZA (K:Yg) (fd:Ym) (ps:List Str) (ds:List Value):Prop:=
 ∀ (s:Shared) (us:List Value),K.In s.heap->(us++ds).length=ps.length->BindsTo s fd ⟨us,[]⟩ (ps.zip (us++ds))
theorem ZA.all {K:Yg} {fd:Ym} {ps:List Str} (h:∀ us:List Value,us.length=ps.length->bindArgs fd ⟨us,[]⟩=pure (ps.zip us)):ZA K fd ps []:=fun s us _ hl=>by
 rw [Y0] at hl ⊢;exact .of_eq (h us hl)
def nN (CX:mY) (X:Cx) (E:St->XK):Prop:=∀ (pins:List (Addr×Obj)) (σ:St) (H:Hp) (s:Shared) (e:Value) (s':Shared),Inv X pins σ H s->CX X.stack H s (E σ) e s'->X.xe e s'
section
variable {X:Cx} {CX:mY} {k:Nat} {f C:Addr} {fd:Ym} {ps:List Str} {sp:Sp} {ft:List V} {ds:List Value} {E:St->XK} {x m:Str} {p pos apos:Pos} {e o:Expr} {es:List Expr} {ta:TE} {t:TA}
theorem BE {pins:List (Addr×Obj)} {σ:St} {H:Hp} {s:Shared} {Q:VK} {us:List Value} {vs:List V} (F:ah X.prog X.w X.K X.mg X.base CX k f fd ps sp) (hr:aW k X.A) (hb:ZA X.K fd ps ds) (hd:Vals ft ds) (hx:nN CX X E)
  (I:Inv X pins σ H s) (r:Vals vs us) (h:sp (vs++ft) H Q (E σ)):wpAny (model X.prog X.w) X.A (call (.ref f) us) (EP X pins σ Q) X.xe s:=by
 have r2:Vals (vs++ft) (us++ds):=r.append hd;have hl:(us++ds).length=ps.length:=by rw [<- r2.length];exact F.len _ _ _ _ h
 refine wpAny_call (codeAny_mono (F.run X.A X.stack s H ⟨us,[]⟩ (us++ds) (vs++ft) Q (E σ) hr I.zX (hb s us I.cE hl) r2 h) fun r s' hq=>?_)
 cases r with
 | error e=>exact hx pins σ H s e s' I hq
 | ok fl=>
  cases fl with
  | ret u=>exact I.after hq
  | next=>exact X0 hq
  | brk=>exact X0 hq
  | cont=>exact X0 hq
theorem Zl (F:ah X.prog X.w X.K X.mg X.base CX k f fd ps sp) (hr:aW k X.A) (hg:Gl X x) (hm:X.mg x=some (.ref f)) (hk:W0 X.K (.ref f)=true) (hb:ZA X.K fd ps ds) (hd:Vals ft ds) (hx:nN CX X E)
  (ha:PA X (e::es) t) (nA:(x == ("__debug__":Str))=false:=by decide) (he:YF (e::es) X.env=(false,eval e X.env)::YF es X.env:=by rfl) (df:(Wx pos (YF es X.env)).any (·.1)=false:=by rfl) :
  PE X (.Call (.Name x p) (e::es) [] pos) (x9 sp ft E t):=by
 try unfold PE at *;try unfold PA at *
 intro pins s σ H Q I h;refine WR (wj I hg hm ?_ nA);refine Ybi (h₀:=X.base) I.ok.mod.xp hk (az (ha pos pins s σ H _ I h) fun us s1 ⟨vs,H1,I1,r,q⟩=>⟨I1.cE,?_⟩) he df;exact BE F hr hb hd hx I1 r q
theorem ZvH (F:ah X.prog X.w X.K X.mg X.base CX k f fd ps sp) (hr:aW k X.A) (hg:Gl X x) (hm:X.mg x=some (.ref f)) (hk:W0 X.K (.ref f)=true) (hb:ZA X.K fd ps ds) (hd:Vals ft ds) (hx:nN CX X E)
  (nA:(x == ("__debug__":Str))=false:=by decide):PE X (.Call (.Name x p) [] [] pos) (x9 sp ft E bB):=by
 try unfold PE at *
 intro pins s σ H Q I h;refine WR (wj I hg hm ?_ nA);exact PySem.W.callWith_K0 I.cE hk (BE (us:=[]) F hr hb hd hx I .nil h)
theorem ZQ {pl:Sem Bool} (he:PE X o ta) (c:Cls X.K C) (hm:Meth X.K C m f) (F:ah X.prog X.w X.K X.mg X.base CX k f fd ps sp) (hr:aW k X.A) (hb:ZA X.K fd ps ds) (hd:Vals ft ds) (hx:nN CX X E) (ha:PA X (e::es) t)
  (gc:YF (e::es) X.env=(false,eval e X.env)::YF es X.env:=by rfl) (df:(Wx pos (YF es X.env)).any (·.1)=false:=by rfl)
  (ht:eval (.Call (.Attribute o m apos) (e::es) [] pos) X.env=(do
   let ov <- eval o X.env
   standAt apos.atName
   let (f,first) <- holding [ov] (getMethod ov m pl)
   callWith pos f first (Wx pos (YF (e::es) X.env)) (backToKw pos (keywordEach [] X.env))):=by rfl) :
  PE X (.Call (.Attribute o m apos) (e::es) [] pos) (Bq C m sp ft E ta t):=by
 try unfold PE at *;try unfold PA at *
 intro pins s σ H Q I h;refine PySem.W.methodCall_KW (pl:=pl) (az (he pins s σ H _ I h) fun u s1 ⟨x,H1,I1,rx,a,dx,fs,ex,ea,l,q⟩=>?_) ht;subst ex;obtain rfl:u=Value.ref a:=rx;refine ZnE I1 ea c hm l ?_;refine Ybi (first:=[.ref a]) (h₀:=X.base) I.ok.mod.xp hm.kp (az (ha pos pins s1 σ H1 _ I1 q) fun us s2 ⟨vs,H2,I2,r,q2⟩=>⟨I2.cE,?_⟩) gc df;exact BE (us:=.ref a::us) (vs:=.ref a::vs) F hr hb hd hx I2 (.cons rfl r) q2
theorem rM {pl:Sem Bool} (he:PE X o ta) (c:Cls X.K C) (hm:Meth X.K C m f) (F:ah X.prog X.w X.K X.mg X.base CX k f fd ps sp) (hr:aW k X.A) (hb:ZA X.K fd ps ds) (hd:Vals ft ds) (hx:nN CX X E)
  (ht:eval (.Call (.Attribute o m apos) [] [] pos) X.env=(do
   let ov <- eval o X.env
   standAt apos.atName
   let (f,first) <- holding [ov] (getMethod ov m pl)
   callWith pos f first (Wx pos (YF [] X.env)) (backToKw pos (keywordEach [] X.env))):=by rfl) :
  PE X (.Call (.Attribute o m apos) [] [] pos) (Bq C m sp ft E ta bB):=by
 try unfold PE at *
 intro pins s σ H Q I h;refine PySem.W.methodCall_KW (pl:=pl) (az (he pins s σ H _ I h) fun u s1 ⟨x,H1,I1,rx,a,dx,fs,ex,ea,l,q⟩=>?_) ht;subst ex;obtain rfl:u=Value.ref a:=rx;refine ZnE I1 ea c hm l ?_;exact PySem.W.callWith_K0 (first:=[.ref a]) I1.cE hm.kp (BE (us:=[.ref a]) (vs:=[.ref a]) F hr hb hd hx I1 (.cons rfl .nil) q)
structure Mk (K:Yg) (C f:Addr):Prop where
 makes:PySem.W.makesIn K C=true
 init:Xj K (.ref C) "__init__"=some (some (.ref f))
 fn:PySem.W.isFn K (.ref f)=true
 kp:W0 K (.ref C)=true
theorem ZvA {pins:List (Addr×Obj)} {σ:St} {H:Hp} {s:Shared} {Q:VK} {us:List Value} {vs:List V} (M:Mk X.K C f) (F:ah X.prog X.w X.K X.mg X.base CX k f fd ps sp) (hr:aW (k + 1) X.A) (hb:ZA X.K fd ps ds) (hd:Vals ft ds)
  (hx:nN CX X E) (I:Inv X pins σ H s) (r:Vals vs us)
  (h:∀ x dx,H x=none->H dx=none->dx≠x->sp (.ref x::(vs++ft)) (upd (upd H dx (.own x)) x (.ins C dx [])) (fun v H2=>v=.aH/\Q (.ref x) H2) (E σ)) :
  wpAny (model X.prog X.w) X.A (call (.ref C) us) (EP X pins σ Q) X.xe s:=by
 have hq:=h (s.heap.objs.size + 1) s.heap.objs.size (I.ak.fresh (Wk _)) (I.ak.fresh (Yf _)) (Yy (YaP _));have I2:=Inv.made (C:=C) I;have r2:Vals (V.ref (s.heap.objs.size + 1)::(vs++ft)) (Value.ref (s.heap.objs.size + 1)::(us++ds)):=.cons rfl (r.append hd)
 have hl:(Value.ref (s.heap.objs.size + 1)::us++ds).length=ps.length:=by
  have e:=r2.length;rw [F.len _ _ _ _ hq] at e;exact e.symm
 refine wpAny_call (ZvS (f:=f) I.cE M.makes M.init (beq_iff_eq.mp M.fn) (codeAny_mono (F.run _ X.stack _ _ ⟨Value.ref (s.heap.objs.size + 1)::us,[]⟩ (Value.ref (s.heap.objs.size + 1)::(us++ds)) _ _ (E σ) (hr.make C us [])
  (I2.zX.make C us []) (hb _ (Value.ref (s.heap.objs.size + 1)::us) I2.cE hl) r2 hq) fun r s' nq=>?_))
 cases r with
 | error e=>exact hx pins σ _ _ e s' I2 nq
 | ok fl=>
  cases fl with
  | ret u=>
   obtain ⟨v,H',I3,rv,ev,q3⟩:=I2.after nq;subst ev;exact ⟨rv,⟨V.ref (s.heap.objs.size + 1),H',I3,rfl,q3⟩⟩
  | next=>exact X0 nq
  | brk=>exact X0 nq
  | cont=>exact X0 nq
theorem lA (M:Mk X.K C f) (F:ah X.prog X.w X.K X.mg X.base CX k f fd ps sp) (hr:aW (k + 1) X.A) (hg:Gl X x) (hm:X.mg x=some (.ref C)) (hb:ZA X.K fd ps ds) (hd:Vals ft ds) (hx:nN CX X E)
  (ha:PA X (e::es) t) (nA:(x == ("__debug__":Str))=false:=by decide) (he:YF (e::es) X.env=(false,eval e X.env)::YF es X.env:=by rfl) (df:(Wx pos (YF es X.env)).any (·.1)=false:=by rfl) :
  PE X (.Call (.Name x p) (e::es) [] pos) (Zy3 C sp ft E t):=by
 try unfold PE at *;try unfold PA at *
 intro pins s σ H Q I h;refine WR (wj I hg hm ?_ nA);refine Ybi (h₀:=X.base) I.ok.mod.xp M.kp (az (ha pos pins s σ H _ I h) fun us s1 ⟨vs,H1,I1,r,q⟩=>⟨I1.cE,?_⟩) he df;exact ZvA M F hr hb hd hx I1 r q
end
section
variable {X:Cx} {CX:mY} {k:Nat} {f C:Addr} {fd:Ym} {ps ks:List Str} {sp:Sp} {E:St->XK} {x m:Str} {p pos apos kpos:Pos} {e o:Expr} {es:List Expr} {kws:List Keyword} {te ta:TE} {t tk:TA} {nm:Option Str}
variable {g:List Value->List Value->List Value} {gV:List V->List V->List V}
end
structure Zm (N P:List Str) (sc:Scope):Prop where
 kind:sc.kind=.function
 co:sc.isCoroutine=false
 gen:sc.isGenerator=false
 nd:N.Nodup
 pre:N.take P.length=P
 par:∀ x∈P,sc.names.lookup x=some .local∨sc.names.lookup x=some .cell
 uQ:∀ y∈sc.names,y.2≠.free
theorem ZqK {kindOf:Str->Option Yaf} {x:Str}:∀ {binds:List (Str×Value)} {m:Str->Option Value},(∀ v,(x,v) ∉ binds)->bindL kindOf binds m x=m x
  | [],_,_=>rfl
  | (n,v)::r,m,h=>by
    unfold bindL;rw [ZqK fun w hw=>h w (Yp _ hw)]
    split
    · have:x≠n:=by rintro rfl;exact h v Yw
      simp [this]
    · rfl
theorem ZqM {kindOf:Str->Option Yaf} {x:Str}:∀ {binds:List (Str×Value)} {m:Str->Option Value},(∀ v,(x,v) ∉ binds)->bindC kindOf binds m x=m x
  | [],_,_=>rfl
  | (n,v)::r,m,h=>by
    unfold bindC;rw [ZqM fun w hw=>h w (Yp _ hw)]
    split
    · rfl
    · have:x≠n:=by rintro rfl;exact h v Yw
      simp [this]
theorem ZqL {kindOf:Str->Option Yaf} {x:Str} {v:Value}:∀ {P:List Str} {vs:List Value} {i:Nat} {m:Str->Option Value},P.Nodup->P[i]?=some x->vs[i]?=some v->kindOf x=some .local->
  bindL kindOf (P.zip vs) m x=some v
 | [],_,_,_,_,h,_,_=>by simp at h
 | _::_,[],_,_,_,_,h,_=>by simp at h
 | p::P,w::vs,0,m,nd,h1,h2,hk=>by
  simp at h1 h2;subst h1;subst h2
  show bindL kindOf ((p,w)::P.zip vs) m p=_;unfold bindL;rw [ZqK fun v hv=>(List.nodup_cons.mp nd).1 (List.of_mem_zip hv).1,if_pos hk]
  simp
 | p::P,w::vs,i + 1,m,nd,h1,h2,hk=>by
  show bindL kindOf ((p,w)::P.zip vs) m x=_;unfold bindL;exact ZqL (i:=i) (List.nodup_cons.mp nd).2 (by simpa using h1) (by simpa using h2) hk
theorem ZqN {kindOf:Str->Option Yaf} {x:Str} {v:Value}:∀ {P:List Str} {vs:List Value} {i:Nat} {m:Str->Option Value},P.Nodup->P[i]?=some x->vs[i]?=some v->kindOf x≠some .local->
  bindC kindOf (P.zip vs) m x=some v
 | [],_,_,_,_,h,_,_=>by simp at h
 | _::_,[],_,_,_,_,h,_=>by simp at h
 | p::P,w::vs,0,m,nd,h1,h2,hk=>by
  simp at h1 h2;subst h1;subst h2
  show bindC kindOf ((p,w)::P.zip vs) m p=_;unfold bindC;rw [ZqM fun v hv=>(List.nodup_cons.mp nd).1 (List.of_mem_zip hv).1,if_neg hk]
  simp
 | p::P,w::vs,i + 1,m,nd,h1,h2,hk=>by
  show bindC kindOf ((p,w)::P.zip vs) m x=_;unfold bindC;exact ZqN (i:=i) (List.nodup_cons.mp nd).2 (by simpa using h1) (by simpa using h2) hk
def bJ (N:List Str) (vs:List V):St:=vs.map some++List.replicate (N.length - vs.length) none
def aV (CX:mY) (P:Program) (w:World) (K:Yg) (mg:Str->Option Value) (base:Heap) (N:List Str) (qual:Str) (scope:Scope) (f:Addr) (cd:Value) (A:Around) (outer:List Env) (s:Shared) (H:Hp) (E:XK):Cx where
 prog:=P
 w:=w
 K:=K
 mg:=mg
 base:=base
 A:=A.deeper (Yae qual scope s.heap.objs.size f cd)
 N:=N
 ax:=s
 aP:=H
 env:=Yae qual scope s.heap.objs.size f cd
 outer:=outer
 stack:=Yae qual scope s.heap.objs.size f cd::outer
 ex:=[]
 calm:=true
 fn:=fun _=>true
 pn:=[]
 xe:=fun e s'=>wpAny (model P w) (A.deeper (Yae qual scope s.heap.objs.size f cd)) (leaving (Yae qual scope s.heap.objs.size f cd) e) (fun _ ng=>CX outer H s E e ng) (fun e' ng=>CX outer H s E e' ng) s'
theorem ZsD {sc:Scope} {n:Nat} {x:Str} (h:sc.names.lookup x=some .cell):∃ c,(cellsFrom n sc.names []).lookup x=some c:=by
 have q:=PySem.W.cellsFrom_some sc.names n [] (.inl h);exact Option.isSome_iff_exists.mp q
theorem ZuL {CX:mY} {P:Program} {w:World} {K:Yg} {mg:Str->Option Value} {base:Heap} {N ps:List Str} {qual:Str} {scope:Scope} {f:Addr} {cd:Value} {A:Around} {outer:List Env} {s s1:Shared} {H:Hp} {E:XK} {us:List Value} {vs:List V}
  (S:Zm N ps scope) (hd:A.handled=none) (e0:kG P w K mg base A outer s H) (hl:vs.length=ps.length) (r:Vals vs us)
  (x:InCallC s s.heap.objs.size (bindL (Yae qual scope s.heap.objs.size f cd).kindOf (ps.zip us) fun _=>none) (cellsFrom (s.heap.objs.size + 1) scope.names []) (bindC (Yae qual scope s.heap.objs.size f cd).kindOf (ps.zip us) fun _=>none) s1) :
  Inv (aV CX P w K mg base N qual scope f cd A outer s H E) [] (bJ N vs) H s1:=by
 have df:ps.length<=N.length:=by have:=congrArg List.length S.pre;rw [YH] at this;omega
 obtain ⟨h1,tk,rfl,hk⟩:=x.done;have xl:∀ b:Addr,b ∉ (aV CX P w K mg base N qual scope f cd A outer s H E).ex:=fun b z=>absurd (show b∈([]:List Addr) from z) (by simp)
 refine ⟨⟨e0.mod,S.kind,rfl,rfl,Yf _,fun y z c h1 h2=>?_,fun y hy=>?_,fun y c _ h=>?_,fun _=>hd,Around.frames_deeper e0.frames,.inr ⟨rfl,rfl⟩,fun b z=>absurd z (xl b),e0.bs,e0.l8,fun b _ _=>xl b,fun b z=>absurd z (xl b),e0.bQ,e0.nG⟩,
  rfl,e0.bare,Un.kept hk,⟨_,x.toInCall.ns,fun i y v h1 h2 h3=>?_⟩,fun y c h=>⟨_,x.cell y c h⟩,e0.ak.fresh (Yf _),fun y c h=>?_,fun p hp=>absurd (show p∈([]:List (Addr×Obj)) from hp) (by simp),e0.ak.kept hk,?_⟩
 .exact name_of_addr x.apart (WE h1) (WE h2)
 .have hy:scope.names.lookup y=some .cell∨scope.names.lookup y=some .free:=hy;rcases hy with hy | hy
  .exact ZsD hy
  .exact absurd rfl (S.uQ _ (WE hy))
 .exact W3 (x.above y c (WE h))
 .have hi:i < vs.length:=by
   unfold bJ at h2
   by_cases hi:i < vs.length
   .exact hi
   .rw [Wv (by simpa using hi)] at h2;rw [List.getElem?_replicate] at h2
    split at h2 <;> cases h2
  have ha:vs[i]?=some v:=by
   unfold bJ at h2;rw [Yay (by simpa using hi),Yo] at h2
   cases e:vs[i]? with
   | none=>rw [e] at h2;cases h2
   | some a=>rw [e] at h2;cases h2;rfl
  obtain ⟨u,hu,rv⟩:=r.get ha
  have hp:ps[i]?=some y:=by
   rw [<- S.pre,List.getElem?_take_of_lt (by omega)];exact h1
  have ndP:ps.Nodup:=by rw [<- S.pre];exact S.nd.sublist (List.take_sublist _ _)
  refine ⟨u,rv,?_⟩;rcases S.par y (Ys hp) with k | k
  .exact .inl ⟨k,ZqL ndP hp hu k⟩
  .obtain ⟨c,e⟩:=ZsD (n:=s.heap.objs.size + 1) k;refine .inr ⟨.inl k,c,e,?_⟩;have q:=x.cell y c e;rw [ZqN ndP hp hu (by show scope.names.lookup y≠_;rw [k];decide)] at q;exact q
 .exact e0.ak.fresh (W3 (x.above y c (WE h)))
 .unfold bJ;show _=N.length;rw [Yd,Yb,YC];omega
theorem Zyx {CX:mY} {P:Program} {w:World} {K:Yg} {mg:Str->Option Value} {base:Heap} {k:Nat} {f:Addr} {name qual:Str} {params:Arguments} {body:List Stmt} {scope:Scope} {dV kV doc pm bg ct oc:Value} {an od:Option Addr}
  {oQ:Array (Option Value)} {N ps:List Str} {sp:Sp} (lk:K.lookup f=some ⟨oc,od,.func (XG name qual params body scope dV kV doc pm an bg ct),oQ⟩) (lW:PySem.W.codeIn K bg qual=true) (S:Zm N ps scope)
  (len:∀ vs H Q E,sp vs H Q E->vs.length=ps.length)
  (jC:∀ (A:Around) (outer:List Env) (s:Shared) (H:Hp) (vs:List V) (Q:VK) (E:XK),aW k (A.deeper (Yae qual scope s.heap.objs.size f bg))->sp vs H Q E->
   ∃ t,d7 (aV CX P w K mg base N qual scope f bg A outer s H E) body t/\t {nx:=fun _ H'=>Q .aH H',rt:=Q} (bJ N vs) H) :
  ah P w K mg base CX (k + 1) f (XG name qual params body scope dV kV doc pm an bg ct) ps sp:=by
 refine ⟨len,fun A outer s H args us vs Q E hr e0 hb r oU=>?_⟩;have hl:=len _ _ _ _ oU;have KX:K.In s.heap:=e0.mod.xp.keeps fun b o e=>(e0.bs b o e).1;have lim:s.heap.NoLimit:=e0.mod.nolimit.keeps fun b o e=>(e0.bs b o e).1
 have Ap:∀ y∈ps.zip us,scope.names.lookup y.1=some .local∨(scope.names.lookup y.1=some .cell/\((cellsFrom (s.heap.objs.size + 1) scope.names []).lookup y.1).isSome=true):=fun ⟨n,v⟩ hy=>by
  rcases S.par n (List.of_mem_zip hy).1 with q | q
  .exact .inl q
  .exact .inr ⟨q,PySem.W.cellsFrom_some _ _ _ (.inl q)⟩
 refine codeAny_call_function hr.depth (KX _ _ lk) rfl S.co S.gen rfl (PySem.W.codeRec_of KX lW) (hb _ _ _ _ ?_);refine wpAny_newFunctionEnv_cells S.kind Ap fun env he s1 x=>?_;subst he;refine ⟨lim.keeps x.toInCall.keep,codeAny_func ?_⟩;obtain ⟨t,ht,hq⟩:=jC A outer s H vs Q E (hr.deeper _) oU;unfold d7 at ht;have I:Inv (aV CX P w K mg base N qual scope f bg A outer s H E) [] (bJ N vs) H s1:=ZuL S hr.hd e0 hl r x;refine Xa (ht [] s1 (bJ N vs) H _ I hq) (fun fl s' hs=>?_) fun e s' hs=>hs
 have fin:∀ {ar:St} {H':Hp} {v:V} {u:Value},Inv (aV CX P w K mg base N qual scope f bg A outer s H E) [] ar H' s'->RelV v u->Q v H'->CE outer P w H s Q u s':=
  fun {ar H' v u} J rv q=>⟨v,H',J.os,J.bare,J.base,J.ak,rv,q⟩
 cases fl with
 | ret u=>
  obtain ⟨v,ar,H',J,rv,q⟩:=hs;exact fin J rv q
 | next=>
  obtain ⟨ar,H',J,q⟩:=hs;exact fin (v:=V.aH) (u:=Value.none) J rfl q
 | brk=>
  obtain ⟨_,_,_,q⟩:=hs;exact X0 q
 | cont=>
  obtain ⟨_,_,_,q⟩:=hs;exact X0 q
end L2
namespace L2
open PySem PySem.Spec PyProof.Rows
section
variable {X:Cx} {x:Str} {p pos:Pos} {e:Expr} {es:List Expr} {t:TA} {id T:String} {r:List V->Hp->VK->Prop}
def w9 (r:List V->Hp->VK->Prop) (t:TA):TE:=fun σ H Q=>t σ H fun vs H1=>r vs H1 Q
theorem Zv (hc:gK X (.builtin id) r) (hg:Gl X x) (hm:X.mg x=none) (hv:YaV x=some (.builtin id)) (ha:PA X (e::es) t) (hn:x≠"__name__":=by decide) (nA:(x == ("__debug__":Str))=false:=by decide)
  (he:YF (e::es) X.env=(false,eval e X.env)::YF es X.env:=by rfl) (df:(Wx pos (YF es X.env)).any (·.1)=false:=by rfl):PE X (.Call (.Name x p) (e::es) [] pos) (w9 r t):=by
 try unfold PE at *;try unfold PA at *
 intro pins s σ H Q I h;refine WR (tW I hg hm hv ?_ hn nA);exact PyProof.Rows.callWith_builtin1 (az (ha pos pins s σ H _ I h) fun us s1 ⟨vs,H1,I1,r1,q1⟩=>hc pins s1 σ H1 vs us Q I1 r1 q1) he df
theorem lC (hc:gK X (.type T) r) (hg:Gl X x) (hm:X.mg x=none) (hv:YaV x=some (.type T)) (ha:PA X (e::es) t) (hn:x≠"__name__":=by decide) (nA:(x == ("__debug__":Str))=false:=by decide)
  (he:YF (e::es) X.env=(false,eval e X.env)::YF es X.env:=by rfl) (df:(Wx pos (YF es X.env)).any (·.1)=false:=by rfl):PE X (.Call (.Name x p) (e::es) [] pos) (w9 r t):=by
 try unfold PE at *;try unfold PA at *
 intro pins s σ H Q I h;refine WR (tW I hg hm hv ?_ hn nA);exact Xo (az (ha pos pins s σ H _ I h) fun us s1 ⟨vs,H1,I1,r1,q1⟩=>hc pins s1 σ H1 vs us Q I1 r1 q1) he df
end
end L2
namespace HT
open PySem PyProof.Rows
section
open PySem.SeqAt
open PySem.AutoSeq1 (wpAny_loadPart')
open PySem.MeetsSeq PySem.MeetsSeq2 PySem.MeetsSeq3
end
section
variable {prog:Program} {w:World} {A:Around} {E:Value->Shared->Prop} {s:Shared}
theorem qG {t b:Addr} {vs ws:List Value} {Q:Value->Shared->Prop} (ht:IsTup s.heap t vs.toArray) (hb:IsTup s.heap b ws.toArray) (hv:vs≠[])
  (h1:ws=[]->Q (.ref t) s) (h2:ws≠[]->Q (.ref s.heap.objs.size) {s with heap:=s.heap.push {cls:=.type "tuple",data:=.seq (vs++ws).toArray}})
  (hsz:vs.length + ws.length<=Yj):wpAny (model prog w) A (Ws .Add (.ref t) (.ref b)) Q E s:=by
 obtain ⟨⟨cls,dd,data,sl⟩,ho,hc,n,hd⟩:=id ht;obtain ⟨⟨Mf,vG,data2,lU⟩,A3,nB,n2,hd2⟩:=id hb
 simp only at hc hd nB hd2
 subst hc hd nB hd2;have e:vs.toArray++ws.toArray=(vs++ws).toArray:=by simp
 by_cases hw:ws=[]
 .exact concat_meets ⟨_,ho,rfl⟩ ⟨_,A3,rfl⟩ noFill_tuple_add seq_tuple_add YaR YaM (YaF _ _)
   (tuple_addW1 t b vs.toArray ws.toArray n n2 dd vG sl lU (by simpa using hv) (by simp [hw])) ⟨ho,A3,h1 hw⟩
 .refine concat_meets ⟨_,ho,rfl⟩ ⟨_,A3,rfl⟩ noFill_tuple_add seq_tuple_add YaR YaM (YaF _ _)
   (tuple_addW2 t b vs.toArray ws.toArray n n2 dd vG sl lU (by simpa using hv) (by simpa using hw) (by rw [Yq,Yq];exact hsz)) ⟨ho,A3,?_⟩
  rw [e];exact h2 hw
def aS (n d:Nat):Option Int->Nat
 | none=>d
 | some v=>if v < 0 then (v + (n:Int)).toNat else min v.toNat n
theorem fI (n d:Nat):aS n d none=d:=rfl
theorem bT (n d k:Nat):aS n d (some (k:Int))=min k n:=by
 show (if (k:Int) < 0 then ((k:Int) + (n:Int)).toNat else min (k:Int).toNat n)=min k n;rw [if_neg (by omega),YS]
theorem ZxZ (n d:Nat) (hd:d<=n) (o:Option Int):aS n d o<=n:=by
 cases o with
 | none=>exact hd
 | some v=>
  show (if v < 0 then (v + (n:Int)).toNat else min v.toNat n)<=n
  by_cases hv:v < 0
  .rw [if_pos hv];omega
  .rw [if_neg hv];exact Nat.min_le_right _ _
theorem Zvd (v:Int) (n d:Nat):(if v < 0 then max (v + (n:Int)) 0 else min v (n:Int))=((aS n d (some v):Nat):Int):=by
 show (if v < 0 then max (v + (n:Int)) 0 else min v (n:Int))=(((if v < 0 then (v + (n:Int)).toNat else min v.toNat n):Nat):Int)
 by_cases hv:v < 0
 .simp only [if_pos hv];omega
 .simp only [if_neg hv];omega
theorem Zty (lo hi:Option Int) (n:Nat):YaA lo hi 1 (n:Int)=(((aS n 0 lo:Nat):Int),((aS n n hi:Nat):Int)):=by
 have h1:¬ ((1:Int) < 0):=by omega
 unfold YaA
 simp only [h1,if_false]
 refine Prod.ext ?_ ?_
 .cases lo with
  | none=>rfl
  | some v=>exact Zvd v n 0
 .cases hi with
  | none=>rfl
  | some v=>exact Zvd v n n
theorem Zs3 (i j:Nat):WD (i:Int) (j:Int) 1=j - i:=by
 unfold WD;have h1:(1:Int) > 0:=by omega
 simp only [h1,if_true,Int.ediv_one]
 split <;> omega
theorem Zm3 {v:Value} {o:Option Int} {Q:Option Int->Shared->Prop} (p:IsPart v o) (h:Q o s):wpAny (model prog w) A (Builtin.Slice.slicePartIndex v) Q E s:=by
 cases p with
 | none=>exact slicePart_none h
 | int i t=>exact slicePart_int h
theorem bM {sl:Addr} {vl vu:Value} {lo hi:Option Int} {n:Nat} {Q:Int×Int×Nat->Shared->Prop} (hs:s.heap.IsSliceOf sl vl vu .none) (pl:IsPart vl lo) (pu:IsPart vu hi)
  (h:Q (((aS n 0 lo:Nat):Int),1,aS n n hi - aS n 0 lo) s):wpAny (model prog w) A (Builtin.Slice.sliceApplied (.ref sl) (pure (n:Int))) Q E s:=by
 obtain ⟨os,xE,xN,Ba⟩:=id hs;unfold Builtin.Slice.sliceApplied Builtin.Slice.sliceFields;refine Ya (Ya (YX xE Ba (x:=vl) rfl (Ya (YX xE Ba (x:=vu) rfl (Ya (YX xE Ba (x:=.none) rfl (Ye ?_)))))));refine Ya (slicePart_none ?_);show wpAny _ _ (if ((1:Int) == 0)=true then _ else _) _ _ s;rw [if_neg (by decide)];refine Ya (Zm3 pl (Ya (Zm3 pu (Ya (Ye ?_)))));show wpAny _ _ (match YaA lo hi 1 (n:Int) with | (lo,hi)=>pure (lo,(1:Int),WD lo hi 1)) _ _ s;rw [Zty lo hi n];show wpAny _ _ (pure (((aS n 0 lo:Nat):Int),(1:Int),WD ((aS n 0 lo:Nat):Int) ((aS n n hi:Nat):Int) 1)) _ _ s;rw [Zs3];exact Ye h
theorem ZvE (xs:Array Value) (i k:Nat):((List.range k).filterMap fun (m:Nat)=>xs[((i:Int) + (m:Int) * 1).toNat]?).toArray=((xs.toList.drop i).take k).toArray:=by
 have e:(fun (m:Nat)=>xs[((i:Int) + (m:Int) * 1).toNat]?)=fun m=>xs[i + m]?:=by
  funext m
  have:((i:Int) + (m:Int) * 1).toNat=i + m:=by omega
  rw [this]
 rw [e]
 have:=pick_run xs i k
 rw [Yaq] at this;have e2:((fun x=>xs[x]?) ∘ fun x=>i + x)=fun m=>xs[i + m]?:=rfl;rw [e2] at this;rw [this]
theorem dW {t sl:Addr} {items:Array Value} {vl vu:Value} {lo hi:Option Int} {Q:Value->Shared->Prop} (ht:IsTup s.heap t items) (hs:s.heap.IsSliceOf sl vl vu .none) (pl:IsPart vl lo) (pu:IsPart vu hi)
  (hw:¬ (aS items.size 0 lo=0/\aS items.size items.size hi=items.size))
  (h:Q (.ref s.heap.objs.size) {s with heap:=s.heap.push {cls:=.type "tuple",data:=.seq ((items.toList.drop (aS items.size 0 lo)).take (aS items.size items.size hi - aS items.size 0 lo)).toArray}})
  (hsz:items.size<=Yj):wpAny (model prog w) A (getItem (.ref t) (.ref sl)) Q E s:=by
 have lG:sizeOk (.seq ((items.toList.drop (aS items.size 0 lo)).take (aS items.size items.size hi - aS items.size 0 lo)).toArray):=by
  show ((items.toList.drop (aS items.size 0 lo)).take (aS items.size items.size hi - aS items.size 0 lo)).toArray.size<=Yj;rw [Yq,YH,YB,YQ];omega
 have hj:aS items.size items.size hi<=items.size:=ZxZ _ _ (Yf _) hi;obtain ⟨os,xE,xN,Ba⟩:=id hs;have hTs:s.TypeIs (.ref sl) "slice":=⟨os,xE,xN⟩
 unfold getItem
 try with_reducible refine Xq ?_
 first | refine Ya (Ye ?_) | skip
 refine Ya (wpAny_sequenceKey ht.typeIs (by decide) ?_)
 refine Ya (YI (name:=Xt "__getitem__") ht.typeIs X8
  (YM X8 ht.typeIs entry_tuple_getitem ?_ (args_tuple_getitem _ _)))
 show wpAny _ _ (Builtin.Tuple.tupleItemsOf (.ref t) >>= _) _ _ s;refine Ya (tupleItemsOf_ ht ?_);refine Ya (wpAny_typeOf hTs ?_);rw [if_pos (by decide)];refine Ya (bM hs pl pu ?_)
 have hno:¬ ((((aS items.size 0 lo:Nat):Int) == 0 && (1:Int) == 1 && (aS items.size items.size hi - aS items.size 0 lo) == items.size)=true):=by
  intro q;rw [Xz,Xz] at q;have q1:((aS items.size 0 lo:Nat):Int)=0:=eq_of_beq q.1.1;have q2:aS items.size items.size hi - aS items.size 0 lo=items.size:=eq_of_beq q.2;exact hw ⟨by omega,by omega⟩
 show wpAny _ _ (if (((aS items.size 0 lo:Nat):Int) == 0 && (1:Int) == 1 && (aS items.size items.size hi - aS items.size 0 lo) == items.size)=true then _ else _) _ _ s;rw [if_neg hno,ZvE]
 first
  | exact Ya (m:=WH _) (YG (Ye ⟨_,rfl,Ye h⟩) lG)
  | exact Ya (m:=WH _) (YG (Ya (Ye (Ye ⟨_,rfl,Ye h⟩))) lG)
  | exact Ya (Ya (m:=WH _) (YG (Ye (Ye ⟨_,rfl,Ye h⟩)) lG))
  | exact Ya (Ya (m:=WH _) (YG (Ye ⟨_,rfl,Ye h⟩) lG))
end
end HT
namespace L2
open PySem PySem.Spec PyProof.Rows
abbrev TO:=St->Hp->(Option Int->Hp->Prop)->Prop
def PO (X:Cx) (e:Option Expr) (t:TO):Prop:=
 ∀ (pins:List (Addr×Obj)) (s:Shared) (σ:St) (H:Hp) (Q:Option Int->Hp->Prop),Inv X pins σ H s->t σ H Q->
  wpAny (model X.prog X.w) X.A (evalPart e X.env) (fun u s'=>∃ o H',Inv X pins σ H' s'/\IsPart u o/\Q o H') X.xe s
def ZwL:TO:=fun _ H Q=>Q none H
inductive sq  (x:V) (H1:Hp) (Q:Option Int->Hp->Prop):Prop
 | mk (i:_):x=.int i->Q (some i) H1->sq x H1 Q
def Zy1 (t:TE):TO:=fun σ H Q=>t σ H fun x H1=>sq x H1 Q
theorem ZnC {ns:List Int}:∀ {us:List Value},Vals (ns.map V.int) us->IntsAre us ns:=by
 induction ns with
 | nil=>intro us r;rw [List.map_nil] at r;cases r;exact .nil
 | cons n ns ih=>
  intro us r;rw [Yx] at r
  cases r with
  | cons r1 r2=>
   obtain ⟨t,e⟩:=r1;subst e;exact .cons n t (ih r2)
section
variable {X:Cx} {e:Expr} {te:TE} {lo hi:Option Expr} {tl th:TO} {pos p2:Pos}
theorem nQ:PO X none ZwL:=by
 intro pins s σ H Q I h;rw [evalPart_none];exact Ye ⟨none,H,I,.none,h⟩
theorem Z9 (h:PE X e te):PO X (some e) (Zy1 te):=by
 try unfold PE at *
 intro pins s σ H Q I hw;rw [evalPart_some];refine az (h pins s σ H _ I hw) fun u s1 ⟨x,H1,I1,r1,q1⟩=>?_;obtain ⟨i,rfl,q⟩:=q1;obtain ⟨t,rfl⟩:=r1;exact ⟨some i,H1,I1,.int i t,q⟩
def yV (X:Cx) (r:V->Option Int->Option Int->Hp->VK->Prop):Prop:=
 ∀ (pins:List (Addr×Obj)) (s:Shared) (σ:St) (H:Hp) (x:V) (v vl vu:Value) (lo hi:Option Int) (sl:Addr) (Q:VK),Inv X pins σ H s->RelV x v->s.heap.IsSliceOf sl vl vu .none->IsPart vl lo->IsPart vu hi->r x lo hi H Q->
  ∃ T id,typeLookup (.type T) "__getitem__"=pure (some (.builtin id))/\s.TypeIs v T/\wpAny (model X.prog X.w) X.A (getItem v (.ref sl)) (EP X pins σ Q) X.xe s
def tSl (r:V->Option Int->Option Int->Hp->VK->Prop) (te:TE) (tl th:TO):TE:=fun σ H Q=>te σ H fun x H1=>tl σ H1 fun l H2=>th σ H2 fun u H3=>r x l u H3 Q
theorem jc {r:V->Option Int->Option Int->Hp->VK->Prop} (hr:yV X r) (he:PE X e te) (hl:PO X lo tl) (hu:PO X hi th):PE X (.Subscript e (.Slice lo hi none p2) pos) (tSl r te tl th):=by
 try unfold PE at *
 intro pins s σ H Q I h;refine Subscript_ (az (he pins s σ H _ I h) fun v s1 ⟨x,H1,I1,r1,q1⟩=>?_);refine wpAny_Slice (az (hl pins s1 σ H1 _ I1 q1) fun vl s2 ⟨l,H2,I2,pl,q2⟩=>az (hu pins s2 σ H2 _ I2 q2) fun vu s3 ⟨u,H3,I3,pu,q3⟩=>?_);rw [evalPart_none];refine Ye ?_;have I4:Inv X pins σ H3 {s3 with heap:=s3.heap.push {cls:=.type "slice",data:=.fields #[vl,vu,.none]}}:=I3.kept (t':=s3.toks) fun b ob q=>Yc _ q;obtain ⟨T,id,hT,ht,hg⟩:=hr pins {s3 with heap:=s3.heap.push {cls:=.type "slice",data:=.fields #[vl,vu,.none]}} σ H3 x v vl vu l u s3.heap.objs.size Q I4 r1 (Heap.IsSliceOf.new ..) pl pu q3;show wpAny (model X.prog X.w) X.A (subscriptTail e (.Slice lo hi none p2) v (.ref s3.heap.objs.size)) (EP X pins σ Q) X.xe {s3 with heap:=s3.heap.push {cls:=.type "slice",data:=.fields #[vl,vu,.none]}};exact tail_any (ops:=[.ref s3.heap.objs.size,v]) ht hT hg (by with_unfolding_all rfl)
def br (xs:List V) (lo hi:Option Int):List V:=(xs.drop (HT.aS xs.length 0 lo)).take (HT.aS xs.length xs.length hi - HT.aS xs.length 0 lo)
theorem Zl8 (xs:List V) (lo hi:Option Int):(br xs lo hi).length<=xs.length:=by
 unfold br;rw [YH,YB];omega
def Li (K:Yg):V->Option Int->Option Int->Hp->VK->Prop:=fun x lo hi H Q=>∃ a xs,x=.ref a/\av K H a xs/\
 ¬ (HT.aS xs.length 0 lo=0/\HT.aS xs.length xs.length hi=xs.length)/\∀ p,H p=none->Q (.ref p) (upd H p (.tup (br xs lo hi)))
theorem ZxW:yV X (Li X.K):=by
 intro pins s σ H x v vl vu lo hi sl Q I rx hs pl pu h;obtain ⟨a,xs,rfl,hx,hw,q⟩:=h
 cases rx
 obtain ⟨its,r,ht,hz⟩:=I.tuple hx;have hlen:its.toArray.size=xs.length:=by rw [Yq];exact r.length.symm
 refine ⟨"tuple",_,PyProof.Rows.slot_tuple_getitem.lookup,ht.typeIs,?_⟩;refine HT.dW ht hs pl pu (by rw [hlen];exact hw) ?_ (by rw [hlen];exact hz);rw [hlen];refine ⟨.ref s.heap.objs.size,_,I.laid (t':=s.toks) (o:=.tup (br xs lo hi)) (fun b ob q=>Yc _ q) (Yf _) ?_,rfl,q _ (I.ak.fresh (Yf _))⟩;exact ⟨Yn (Zl8 xs lo hi) hz,_,(r.drop (HT.aS xs.length 0 lo)).take (HT.aS xs.length xs.length hi - HT.aS xs.length 0 lo),IsTup.new _ _⟩
def Zy9 (K:Yg):R2:=fun x y H Q=>∃ a b xs ys,x=.ref a/\y=.ref b/\av K H a xs/\av K H b ys/\xs≠[]/\xs.length + ys.length<=Yj/\
 (ys=[]->Q (.ref a) H)/\(ys≠[]->∀ p,H p=none->Q (.ref p) (upd H p (.tup (xs++ys))))
theorem Vals.iQ {xs:List V} {us:List Value} (r:Vals xs us):us=[] ↔ xs=[]:=by
 cases r with
 | nil=>simp
 | cons _ _=>simp
theorem Zw1:du X (Ws .Add) (Zy9 X.K):=by
 intro pins s σ H x y v u Q I rx ry h;obtain ⟨a,b,xs,ys,rfl,rfl,ha,hb,hx,hz,q1,q2⟩:=h
 cases rx
 cases ry
 obtain ⟨its,r1,p1,_⟩:=I.tuple ha;obtain ⟨gx,r2,p2,_⟩:=I.tuple hb;refine HT.qG p1 p2 (fun z=>hx (r1.iQ.mp z)) (fun z=>⟨.ref a,H,I,rfl,q1 (r2.iQ.mp z)⟩) (fun z=>?_) (by rw [<- r1.length,<- r2.length];exact hz);refine ⟨.ref s.heap.objs.size,_,I.laid (t':=s.toks) (o:=.tup (xs++ys)) (fun b ob q=>Yc _ q) (Yf _) ?_,rfl,q2 (fun w=>z (r2.iQ.mpr w)) _ (I.ak.fresh (Yf _))⟩;exact ⟨by rw [Yd];exact hz,_,r1.append r2,IsTup.new _ _⟩
end
end L2
namespace L2
open PySem PySem.Spec PyProof.Rows
def pS (n:Nat) (i:Int):Option Nat:=if 0<=i then (if i < n then some i.toNat else none) else if -(n:Int)<=i then some (i + n).toNat else none
def ji {α:Type} (xs:List α) (i:Int):Option α:=(pS xs.length i).bind fun j=>xs[j]?
theorem ZuJ {n:Nat} {i:Int} {j:Nat} (h:pS n i=some j):seqIndex? i n=some j/\j < n/\-(n:Int)<=i/\i < n:=by
 unfold pS at h
 by_cases h0:0<=i
 .rw [if_pos h0] at h
  by_cases h1:i < n
  .rw [if_pos h1] at h;have e:i.toNat=j:=Yu h;exact ⟨by rw [seqIndex_of h0 h1,e],by omega,by omega,h1⟩
  .rw [if_neg h1] at h;cases h
 .rw [if_neg h0] at h
  by_cases h1:-(n:Int)<=i
  .rw [if_pos h1] at h;have e:(i + n).toNat=j:=Yu h;exact ⟨by rw [seqIndex_neg (by omega) h1,e],by omega,h1,by omega⟩
  .rw [if_neg h1] at h;cases h
theorem FL {α:Type} {xs:List α} {i:Int} {v:α} (h:ji xs i=some v):∃ j,seqIndex? i xs.length=some j/\xs[j]?=some v/\j < xs.length/\-(xs.length:Int)<=i/\i < xs.length:=by
 unfold ji at h
 cases e:pS xs.length i with
 | none=>rw [e] at h;cases h
 | some j=>
  rw [e] at h;obtain ⟨h1,h2,h3,h4⟩:=ZuJ e;exact ⟨j,h1,h,h2,h3,h4⟩
def ZxB (b:Expr):Prop:=∀ o i,subscripted b false o i=operate [o,i] (getItem o i)
def Dv (X:Cx) (r:R2):Prop:=
 ∀ (value slice:Expr) (pins:List (Addr×Obj)) (s:Shared) (σ:St) (H:Hp) (x y:V) (v u:Value) (Q:VK),Inv X pins σ H s->RelV x v->RelV y u->r x y H Q->
  subscripted slice false v u=operate [v,u] (getItem v u)->wpAny (model X.prog X.w) X.A (subscriptTail value slice v u) (EP X pins σ Q) X.xe s
def pJ (X:Cx) (id:String) (r:V->List V->Hp->VK->Prop):Prop:=
 ∀ (pins:List (Addr×Obj)) (s:Shared) (σ:St) (H:Hp) (x:V) (xs:List V) (v:Value) (us:List Value) (Q:VK),Inv X pins σ H s->RelV x v->Vals xs us->r x xs H Q->
  wpAny (model X.prog X.w) X.A (call (.builtin id) (v::us)) (EP X pins σ Q) X.xe s
section
variable {X:Cx} {a b:Expr} {ta tb:TE} {pos:Pos}
theorem d_ {r:R2} (hr:Dv X r) (ha:PE X a ta) (hb:PE X b tb) (hs:ZxB b):PE X (.Subscript a b pos) (oO r ta tb):=by
 try unfold PE
 intro pins s σ H Q I h;exact Subscript_ (uK ha hb I h fun v u s2 x y H2 I2 rx ry q=>hr a b pins s2 σ H2 x y v u Q I2 rx ry q (hs _ _))
inductive zp (K:Yg) (x:V) (y:V) (H:Hp) (Q:VK):Prop
 | mk (p:_) (xs:_) (i:_) (v:_):x=.ref p->y=.int i->ay K H p xs->ji xs i=some v->Q v H->zp K x y H Q
inductive zm (K:Yg) (x:V) (y:V) (H:Hp) (Q:VK):Prop
 | mk (p:_) (xs:_) (i:_) (v:_):x=.ref p->y=.int i->av K H p xs->ji xs i=some v->Q v H->zm K x y H Q
inductive zo (x:V) (y:V) (H:Hp) (Q:VK):Prop
 | mk (z:_) (i:_) (c:_):x=.str z->y=.int i->z.length<=Yj->ji z.cps.toList i=some c->Q (.str ⟨#[c]⟩) H->zo x y H Q
theorem qj:Dv X (zp X.K):=by
 intro value slice pins s σ H x y v u Q I rx ry h hs;obtain ⟨p,xs,i,z,rfl,rfl,hq,he,q⟩:=h
 cases rx
 obtain ⟨t,rfl⟩:=ry;obtain ⟨its,r,pl,hz⟩:=I.list hq;obtain ⟨j,h1,h2,h3,h4,h5⟩:=FL he;obtain ⟨w,ew,nh⟩:=r.get h2;have hl:=r.length;have hn:=vT;have fin:EP X pins σ Q w s:=⟨z,H,I,nh,q⟩
 by_cases h0:0<=i
 .have hj:i.toNat=j:=by
   rw [seqIndex_of h0 h5] at h1;exact Yu h1
  exact item_listR pl.isList h0 (by omega) (by rw [hj];simpa using ew) fin hs
 .have hj:(i + (its.toArray.size:Int)).toNat=j:=by
   rw [seqIndex_neg (by omega) h4] at h1;rw [Yq,<- hl];exact Yu h1
  exact subscriptTail_builtinR (x:=w) pl.isList.typeIs slot_list_getitem.lookup
   (wpAny_getItem_list_neg (Q:=fun r s'=>r=w/\EP X pins σ Q r s') pl.isList (by omega) (by rw [Yq] <;> omega) (by omega) (by rw [hj];simpa using ew) ⟨rfl,fin⟩) hs
theorem jn:Dv X (zm X.K):=by
 intro value slice pins s σ H x y v u Q I rx ry h hs;obtain ⟨p,xs,i,z,rfl,rfl,hq,he,q⟩:=h
 cases rx
 obtain ⟨t,rfl⟩:=ry;obtain ⟨its,r,pl,hz⟩:=I.tuple hq;obtain ⟨j,h1,h2,h3,h4,h5⟩:=FL he;obtain ⟨w,ew,nh⟩:=r.get h2;have hl:=r.length;have hn:=vT;have fin:EP X pins σ Q w s:=⟨z,H,I,nh,q⟩
 exact subscriptTail_builtinR (x:=w) pl.typeIs slot_tuple_getitem.lookup
  (getItem_tuple (j:=j) (Q:=fun r s'=>r=w/\EP X pins σ Q r s') pl (by omega) (by omega) (by rw [Yq,<- hl];exact h1) (by simpa using ew) ⟨rfl,fin⟩) hs
theorem Zyo:Dv X zo:=by
 intro value slice pins s σ H x y v u Q I rx ry h hs;obtain ⟨z,i,c,rfl,rfl,hz,he,q⟩:=h;obtain ⟨t,rfl⟩:=rx;obtain ⟨t',rfl⟩:=ry;obtain ⟨j,h1,h2,h3,h4,h5⟩:=FL he;have hl:z.cps.toList.length=z.length:=by simp [Yau]
 rw [hl] at h1 h4 h5;have hn:=vT
 exact tail_any (WB s z t) slot_str_getitem.lookup (getItem_str (c:=c) (by
  have e1:decide (i < -(2 ^ 63:Int))=false:=decide_eq_false (by omega);have e2:decide (i >= 2 ^ 63)=false:=decide_eq_false (by omega);rw [e1,e2,Wr]) (by rw [h1];simpa using h2) ⟨.str ⟨#[c]⟩,H,I.tok _,⟨_,rfl⟩,q⟩) hs
theorem Ztd (its:List Value) (n j:Nat) (u:Value):Y5 (·.setIfInBounds j u) {cls:=.type "list",data:=.seq its.toArray n}={cls:=.type "list",data:=.seq (its.set j u).toArray n}:=by
 simp [Y5]
theorem Inv.lst {pins:List (Addr×Obj)} {σ:St} {H:Hp} {s:Shared} {p:Addr} {xs:List V} (I:Inv X pins σ H s) (h:H p=some (.lst xs)) :
  ∃ (its:List Value) (n:Nat),Vals xs its/\s.heap.get? p=some {cls:=.type "list",data:=.seq its.toArray n}/\xs.length<=Yj:=by
 obtain ⟨z,its,n,r,e⟩:=I.ak p _ h;exact ⟨its,n,r,e,z⟩
theorem Inv.uR {pins:List (Addr×Obj)} {σ:St} {H:Hp} {s:Shared} {p:Addr} {xs ys:List V} {its its':List Value} {n n':Nat} {f:Obj->Obj} (I:Inv X pins σ H s) (h:H p=some (.lst xs))
  (ho:s.heap.get? p=some {cls:=.type "list",data:=.seq its.toArray n}) (hf:f {cls:=.type "list",data:=.seq its.toArray n}={cls:=.type "list",data:=.seq its'.toArray n'}) (r:Vals ys its') (hz:ys.length<=Yj) (t:Nat) :
  Inv X pins σ (upd H p (.lst ys)) {s with heap:=s.heap.update p f,toks:=t}:=by
 have e:(s.heap.update p f).get? p=some {cls:=.type "list",data:=.seq its'.toArray n'}:=by
  rw [W5 f ho (by rw [hf] <;> rfl),hf]
 refine I.write (x:=p) (e:=p) (by rw [h];trivial) (.inl rfl) (fun b u hb q=>(XR _ _ (WT hb)).trans q) ⟨_,e⟩ ?_;exact ⟨hz,its',n',r,e⟩
def Zy8:V->V->V->Hp->(Hp->Prop)->Prop:=fun o i v H Q=>∃ p xs k j,o=.ref p/\i=.int k/\H p=some (.lst xs)/\pS xs.length k=some j/\Q (upd H p (.lst (xs.set j v)))
theorem Zvz:Ac X Zy8:=by
 intro pins s σ H o i v ov iv u Q I ro ri rv h;obtain ⟨p,xs,k,j,rfl,rfl,hp,hj,q⟩:=h
 cases ro
 obtain ⟨t,rfl⟩:=ri;obtain ⟨its,n,r,ho,hz⟩:=I.lst hp;obtain ⟨h1,h2,h3,h4⟩:=ZuJ hj;have hl:=r.length;have hn:=vT
 have I':Inv X pins σ (upd H p (.lst (xs.set j v))) {s with heap:=s.heap.update p (Y5 (·.setIfInBounds j u))}:=
  I.uR hp ho (Ztd its n j u) (r.set rv j) (by rw [WM];exact hz) s.toks
 by_cases h0:0<=k
 .have hk:k.toNat=j:=by
   rw [seqIndex_of h0 h4] at h1;exact Yu h1
  exact PySem.W.ki_setAt ho h0 (by omega) (by rw [Yq,<- hl];exact h4) (by rw [hk];exact ⟨_,I',q⟩)
 .have hk:(k + (its.toArray.size:Int)).toNat=j:=by
   rw [seqIndex_neg (by omega) h3] at h1;rw [Yq,<- hl];exact Yu h1
  exact PySem.W.ki_setBack ho (by omega) (by rw [Yq,<- hl];exact h3) (by omega) (by rw [hk];exact ⟨_,I',q⟩)
theorem ZpD (lo hi:Option Int) (n:Nat):(Yad lo hi none n).1=((HT.aS n 0 lo:Nat):Int)/\(Yad lo hi none n).2.1=((HT.aS n n hi:Nat):Int)/\(Yad lo hi none n).2.2=1:=by
 refine ⟨?_,?_,rfl⟩
 .cases lo with
  | none=>simp [Yad,HT.aS]
  | some i=>
   simp only [Yad,HT.aS,Option.getD_none,show (1:Int) > 0 by decide,if_true]
   by_cases h:i < 0
   .simp only [h,if_true] <;> omega
   .simp only [h,if_false] <;> omega
 .cases hi with
  | none=>simp [Yad,HT.aS]
  | some i=>
   simp only [Yad,HT.aS,Option.getD_none,show (1:Int) > 0 by decide,if_true]
   by_cases h:i < 0
   .simp only [h,if_true] <;> omega
   .simp only [h,if_false] <;> omega
theorem Zn0 (its:List Value) (lo hi:Option Int):slicePick its.toArray lo hi none=((its.drop (HT.aS its.length 0 lo)).take (HT.aS its.length its.length hi - HT.aS its.length 0 lo)).toArray:=by
 obtain ⟨h1,h2,h3⟩:=ZpD lo hi its.toArray.size;unfold slicePick;rw [h1,h2,h3]
 simp only [sliceRange_one,pick_run,Yq] <;> rfl
inductive zh (K:Yg) (x:V) (lo:Option Int) (hi:Option Int) (H:Hp) (Q:VK):Prop
 | mk (a:_) (xs:_):x=.ref a->ay K H a xs->(∀ p,H p=none->Q (.ref p) (upd H p (.lst (br xs lo hi))))->zh K x lo hi H Q
theorem FU:yV X (zh X.K):=by
 intro pins s σ H x v vl vu lo hi sl Q I rx hs pl pu h;obtain ⟨a,xs,rfl,hx,q⟩:=h
 cases rx
 obtain ⟨its,r,ht,hz⟩:=I.list hx;have hlen:=r.length;refine ⟨"list",_,slot_list_getitem.lookup,ht.isList.typeIs,?_⟩;refine wpAny_getItem_list_slice ht.isList hs pl pu .none (by simp) ?_ (by rw [Yq] <;> omega);rw [Zn0,<- hlen];refine ⟨.ref s.heap.objs.size,_,I.laid (t':=s.toks) (o:=.lst (br xs lo hi)) (fun b ob q=>Yc _ q) (Yf _) ?_,rfl,q _ (I.ak.fresh (Yf _))⟩;exact ⟨Yn (Zl8 xs lo hi) hz,_,0,(r.drop (HT.aS xs.length 0 lo)).take (HT.aS xs.length xs.length hi - HT.aS xs.length 0 lo),Yh _ rfl⟩
def mR:V->Bool
 | .aH=>true
 | .bl _=>true
 | .int _=>true
 | .str _=>true
 | _=>false
def mL:V->V->Bool
 | .aH,.aH=>true
 | .bl a,.bl b=>a == b
 | .bl a,.int b=>(if a then 1 else 0) == b
 | .int a,.bl b=>a == (if b then 1 else 0)
 | .int a,.int b=>a == b
 | .str a,.str b=>a == b
 | _,_=>false
theorem Zyz {A:Around} {s:Shared} {y x:V} {u v:Value} (ry:RelV y u) (rx:RelV x v) (fy:mR y=true) (fx:mR x=true):SeqAt.EqAt A s u v (mL y x):=by
 cases y with
 | aH=>
  cases ry
  cases x with
  | aH=>cases rx;exact SeqAt.EqAt.same _
  | bl b=>cases rx;exact SeqAt.EqAt.none_bool b
  | int b=>obtain ⟨t,rfl⟩:=rx;exact SeqAt.EqAt.none_int b t
  | str b=>obtain ⟨t,rfl⟩:=rx;exact SeqAt.EqAt.none_str b t
  | _=>exact absurd (show false=true from fx) Yr
 | bl a=>
  cases ry
  cases x with
  | aH=>cases rx;exact SeqAt.EqAt.bool_none a
  | bl b=>cases rx;exact SeqAt.EqAt.bool_bool a b
  | int b=>obtain ⟨t,rfl⟩:=rx;exact SeqAt.EqAt.bool_int a b t
  | str b=>obtain ⟨t,rfl⟩:=rx;exact SeqAt.EqAt.bool_str a b t
  | _=>exact absurd (show false=true from fx) Yr
 | int a=>
  obtain ⟨t',rfl⟩:=ry
  cases x with
  | aH=>cases rx;exact SeqAt.EqAt.int_none a t'
  | bl b=>cases rx;exact SeqAt.EqAt.int_bool a t' b
  | int b=>obtain ⟨t,rfl⟩:=rx;exact SeqAt.EqAt.int_int a t' b t
  | str b=>obtain ⟨t,rfl⟩:=rx;exact SeqAt.EqAt.int_str a t' b t
  | _=>exact absurd (show false=true from fx) Yr
 | str a=>
  obtain ⟨t',rfl⟩:=ry
  cases x with
  | aH=>cases rx;exact SeqAt.EqAt.str_none a t'
  | bl b=>cases rx;exact SeqAt.EqAt.str_bool a t' b
  | int b=>obtain ⟨t,rfl⟩:=rx;exact SeqAt.EqAt.str_int a t' b t
  | str b=>obtain ⟨t,rfl⟩:=rx;exact SeqAt.EqAt.str_str a t' b t
  | _=>exact absurd (show false=true from fx) Yr
 | _=>exact absurd (show false=true from fy) Yr
def jg (x:V) (u:Value):Bool:=match u with
 | .none=>mL .aH x
 | .bool b=>mL (.bl b) x
 | .int i _=>mL (.int i) x
 | .str z _=>mL (.str z) x
 | _=>false
theorem Fw {x y:V} {u:Value} (r:RelV y u) (f:mR y=true):jg x u=mL y x:=by
 cases y with
 | aH=>cases r;rfl
 | bl b=>cases r;rfl
 | int i=>obtain ⟨t,rfl⟩:=r;rfl
 | str z=>obtain ⟨t,rfl⟩:=r;rfl
 | _=>exact absurd (show false=true from f) Yr
theorem yn {x:V}:∀ {xs:List V} {us:List Value},Vals xs us->xs.all mR=true->us.any (jg x)=xs.any fun y=>mL y x
 | _,_,.nil,_=>rfl
 | y::xs,u::us,.cons r t,f=>by
  rw [YaJ,Xz] at f;rw [WJ,WJ,Fw r f.1,yn t f.2]
theorem wx {A:Around} {s:Shared} {x:V} {v:Value} (rx:RelV x v) (fx:mR x=true):∀ {xs:List V} {us:List Value},Vals xs us->xs.all mR=true->∀ u∈us,SeqAt.EqAt A s u v (jg x u)
 | _,_,.nil,_=>fun u hu=>by cases hu
 | y::xs,u::us,.cons r t,f=>fun u' hu=>by
  rw [YaJ,Xz] at f;rcases List.mem_cons.mp hu with rfl | hu
  .rw [Fw r f.1];exact Zyz r rx f.1 fx
  .exact wx rx fx t f.2 u' hu
def sQ (x:V) (xs:List V):Bool:=xs.any fun y=>mL y x
inductive DR (K:Yg) (neg:Bool) (x:V) (y:V) (H:Hp) (Q:VK):Prop
 | mk (p:_) (xs:_):y=.ref p->(ay K H p xs∨av K H p xs)->mR x=true->xs.all mR=true->Q (.bl (if neg then !sQ x xs else sQ x xs)) H->DR K neg x y H Q
theorem Zp2:du X (XE .In) (DR X.K false):=by
 intro pins s σ H x y v u Q I rx ry h;obtain ⟨p,xs,rfl,hq,fx,fs,q⟩:=h
 cases ry
 rcases hq with hq | hq
 .obtain ⟨its,r,pl,hz⟩:=I.list hq;refine SeqAt.in_listAt (jg x) pl.isList (fun w hw=>wx rx fx r fs w (by simpa using hw)) ⟨.bl _,H,I,rfl,?_⟩;rw [show its.toArray.any (jg x)=its.any (jg x) by simp,yn r fs];exact q
 .obtain ⟨its,r,pl,hz⟩:=I.tuple hq;refine SeqAt.in_tupleAt (jg x) pl (fun w hw=>wx rx fx r fs w (by simpa using hw)) ⟨.bl _,H,I,rfl,?_⟩;rw [show its.toArray.any (jg x)=its.any (jg x) by simp,yn r fs];exact q
theorem Zp0:du X (XE .NotIn) (DR X.K true):=by
 intro pins s σ H x y v u Q I rx ry h;obtain ⟨p,xs,rfl,hq,fx,fs,q⟩:=h
 cases ry
 rcases hq with hq | hq
 .obtain ⟨its,r,pl,hz⟩:=I.list hq;refine SeqAt.notIn_listAt (jg x) pl.isList (fun w hw=>wx rx fx r fs w (by simpa using hw)) ⟨.bl _,H,I,rfl,?_⟩;rw [show its.toArray.any (jg x)=its.any (jg x) by simp,yn r fs];exact q
 .obtain ⟨its,r,pl,hz⟩:=I.tuple hq;refine SeqAt.notIn_tupleAt (jg x) pl (fun w hw=>wx rx fx r fs w (by simpa using hw)) ⟨.bl _,H,I,rfl,?_⟩;rw [show its.toArray.any (jg x)=its.any (jg x) by simp,yn r fs];exact q
theorem Zw:gK X (.builtin "len") (fun xs H Q=>∃ p ys,xs=[.ref p]/\(ay X.K H p ys∨av X.K H p ys)/\Q (.int ys.length) H):=by
 intro pins s σ H xs us Q I r h;obtain ⟨p,ys,rfl,hq,q⟩:=h;obtain ⟨u,rfl,rx⟩:=yb r
 cases rx
 have hn:=vT;rcases hq with hq | hq
 .obtain ⟨its,r',pl,hz⟩:=I.list hq;have hlen:=r'.length;exact Calls.call_len_list pl.isList (by simp only [Yq] <;> omega) ⟨.int ys.length,H,I.tok _,⟨s.toks + 1,by rw [Yq,hlen]⟩,q⟩
 .obtain ⟨its,r',pl,hz⟩:=I.tuple hq;have hlen:=r'.length;exact len_tuple pl (by simp only [Yq] <;> omega) ⟨.int ys.length,H,I.tok _,⟨s.toks + 1,by rw [Yq,hlen]⟩,q⟩
theorem C7:gK X (.builtin "len") (fun xs H Q=>∃ z,xs=[.str z]/\z.length<=Yj/\Q (.int z.length) H):=by
 intro pins s σ H xs us Q I r h;obtain ⟨z,rfl,hz,q⟩:=h;obtain ⟨u,rfl,t,rfl⟩:=yb r;have hn:=vT;exact len_str (by omega) ⟨.int z.length,H,I.tok _,⟨_,rfl⟩,q⟩
theorem Zkk:gK X (.type "list") (fun xs H Q=>∃ p ys,xs=[.ref p]/\(ay X.K H p ys∨av X.K H p ys)/\∀ l,H l=none->Q (.ref l) (upd H l (.lst ys))):=by
 intro pins s σ H xs us Q I r h;obtain ⟨p,ys,rfl,hq,q⟩:=h;obtain ⟨u,rfl,rx⟩:=yb r
 cases rx
 have fin:∀ (its:List Value),Vals ys its->ys.length<=Yj->∀ (h':Heap) (c':Nat),(∀ b o',s.heap.get? b=some o'->h'.get? b=some o')->
   h'.get? s.heap.objs.size=some {cls:=.type "list",dict:=none,data:=.seq its.toArray c',slots:=#[]}->EP X pins σ Q (.ref s.heap.objs.size) {s with heap:=h'}:=fun its r' hz h' c' kp e=>
  ⟨.ref s.heap.objs.size,_,I.laid (t':=s.toks) kp (Yf _) (show bH X.prog X.w _ h' _ (.lst ys) from ⟨hz,its,c',r',e⟩),rfl,q _ (I.ak.fresh (Yf _))⟩
 rcases hq with hq | hq
 .obtain ⟨its,r',pl,hz⟩:=I.list hq;have hlen:=r'.length;obtain ⟨o,ho,hc,n,hd⟩:=pl.isList;exact call_list_seq p (.inl rfl) ho hc hd (fun h' c' kp e=>fin its r' hz h' c' kp e) (by simp only [Yq] <;> omega)
 .obtain ⟨its,r',pl,hz⟩:=I.tuple hq;have hlen:=r'.length;obtain ⟨o,ho,hc,n,hd⟩:=pl;exact call_list_seq p (.inr rfl) ho hc hd (fun h' c' kp e=>fin its r' hz h' c' kp e) (by simp only [Yq] <;> omega)
theorem CP:gK X (.type "tuple") (fun xs H Q=>∃ p ys,xs=[.ref p]/\((ay X.K H p ys/\∀ l,H l=none->Q (.ref l) (upd H l (.tup ys)))∨(av X.K H p ys/\Q (.ref p) H))):=by
 intro pins s σ H xs us Q I r h;obtain ⟨p,ys,rfl,h⟩:=h;obtain ⟨u,rfl,rx⟩:=yb r
 cases rx
 rcases h with ⟨hq,q⟩ | ⟨hq,q⟩
 .obtain ⟨its,r',pl,hz⟩:=I.list hq;have hlen:=r'.length;refine call_tuple_list pl.isList (fun h' kp=>?_) (by simp only [Yq] <;> omega);have I1:Inv X pins σ H {s with heap:=h'}:=I.kept (t':=s.toks) kp
  have I2:Inv X pins σ (upd H h'.objs.size (.tup ys)) {s with heap:=h'.push {cls:=.type "tuple",data:=.seq its.toArray}}:=
   I1.laid (t':=s.toks) (fun b o e=>Yc _ e) (Yf _) (show bH X.prog X.w _ _ _ (.tup ys) from ⟨hz,its,r',IsTup.new _ _⟩)
  exact ⟨.ref h'.objs.size,_,I2,rfl,q _ (I1.ak.fresh (Yf _))⟩
 .obtain ⟨its,r',pl,hz⟩:=I.tuple hq;exact call_tuple_same pl ⟨.ref p,H,I,rfl,q⟩
def DC (K:Yg) (T:String) (x:V) (H:Hp):Prop:=match x with
 | .str _=>T="str"
 | .int _=>T="int"
 | .ref p=>(T="list"/\∃ xs,ay K H p xs)∨(T="tuple"/\∃ o,K.lookup p=some o/\o.cls=.type "tuple"/\o.dict=none)∨
   (T="dict"/\((∃ kvs,H p=some (.dK kvs))∨∃ kvs,H p=some (.dT kvs)))∨(T="set"/\∃ S n,H p=some (.set S n))
 | _=>False
theorem Zwh {pins:List (Addr×Obj)} {σ:St} {H:Hp} {s:Shared} {T:String} {x:V} {v:Value} (I:Inv X pins σ H s) (r:RelV x v) (ty:DC X.K T x H) :
  s.TypeIs v T/\∀ a,v=.ref a->∃ ob,s.heap.get? a=some ob/\ob.dict=none:=by
 cases x with
 | str z=>
  obtain ⟨t,rfl⟩:=r
  cases (show T="str" from ty)
  exact ⟨WB s z t,fun _ e=>nomatch e⟩
 | int i=>
  obtain ⟨t,rfl⟩:=r
  cases (show T="int" from ty)
  exact ⟨Yat s i t,fun _ e=>nomatch e⟩
 | ref p=>
  cases r
  rcases ty with ⟨rfl,xs,hq⟩ | ⟨rfl,o,hk,hc,hd⟩ | ⟨rfl,hk⟩ | ⟨rfl,S,n,hk⟩
  .obtain ⟨its,_,pl,_⟩:=I.list hq;refine ⟨pl.isList.typeIs,fun a e=>?_⟩
   cases e
   obtain ⟨o,n,e,c,hd,_⟩:=pl;exact ⟨o,e,hd⟩
  .refine ⟨⟨o,I.cE p o hk,hc⟩,fun a e=>?_⟩
   cases e
   exact ⟨o,I.cE _ o hk,hd⟩
  .have z:∃ o,s.heap.get? p=some o/\o.ExactDict:=by
    rcases hk with ⟨kvs,hk⟩ | ⟨kvs,hk⟩
    .obtain ⟨_,_,_,_,o,_,_,e,ex,_⟩:=I.ak p _ hk;exact ⟨o,e,ex⟩
    .obtain ⟨_,_,_,_,o,_,_,e,ex,_⟩:=I.ak p _ hk;exact ⟨o,e,ex⟩
   obtain ⟨o,e,ex⟩:=z;refine ⟨⟨o,e,ex.1⟩,fun a e2=>?_⟩
   cases e2
   exact ⟨o,e,ex.2.1⟩
  .obtain ⟨o,_,_,_,e,ex,_⟩:=I.ak p _ hk;refine ⟨⟨o,e,ex.1⟩,fun a e2=>?_⟩
   cases e2
   exact ⟨o,e,ex.2.1⟩
 | _=>exact X0 ty
def Ld (K:Yg) (T:String) (r:V->List V->Hp->VK->Prop) (to:TE):TE:=fun σ H Q=>to σ H fun x H1=>DC K T x H1/\r x [] H1 Q
def DK (K:Yg) (T:String) (r:V->List V->Hp->VK->Prop) (to:TE) (t:TA):TE:=fun σ H Q=>to σ H fun x H1=>DC K T x H1/\t σ H1 fun xs H2=>r x xs H2 Q
variable {o e:Expr} {es:List Expr} {to:TE} {t:TA} {name:Str} {apos a8:Pos} {T id:String} {r:V->List V->Hp->VK->Prop}
theorem qg (pa:PlainAttrs T) (slot:Slot T name id) (xw:typeOf (.builtin id)=pure (.type "method_descriptor")) (hm:pJ X id r) (ho:PE X o to)
  (jD:Yaa o name X.env (eval o X.env)=eval o X.env:=by rfl) (jB:(apos.endLine == a8.line)=true:=by rfl):PE X (.Call (.Attribute o name apos) [] [] a8) (Ld X.K T r to):=by
 try unfold PE at *
 intro pins s σ H Q I h;refine wpAny_Call_method0_late jD jB (az (ho pins s σ H _ I h) fun v s1 ⟨x,H1,I1,r1,ty,q1⟩=>?_);obtain ⟨h1,h2⟩:=Zwh I1 r1 ty;exact ⟨T,id,pa,slot,xw,h1,h2,YaT rfl (PySem.evalArgs_none (hm pins s1 σ H1 x [] v [] Q I1 r1 .nil q1))⟩
theorem kc (pa:PlainAttrs T) (slot:Slot T name id) (xw:typeOf (.builtin id)=pure (.type "method_descriptor")) (hm:pJ X id r) (ho:PE X o to) (ha:PA X (e::es) t)
  (jD:Yaa o name X.env (eval o X.env)=eval o X.env:=by rfl)
  (uE:((Wx a8 (YF (e::es) X.env)).all (fun x=>!x.1) && (backToKw a8 (keywordEach [] X.env)).all (fun x=>x.1.isSome)
   && decide ((e::es).length + ([]:List Keyword).length + (if ([]:List Keyword).isEmpty then 0 else 1) < 30))=true:=by rfl)
  (jB:(apos.endLine == a8.line)=true:=by rfl) (hs:YF (e::es) X.env=(false,eval e X.env)::YF es X.env:=by rfl) (fG:(Wx a8 (YF es X.env)).any (·.1)=false:=by rfl) :
  PE X (.Call (.Attribute o name apos) (e::es) [] a8) (DK X.K T r to t):=by
 try unfold PE at *;try unfold PA at *
 intro pins s σ H Q I h;refine wpAny_Call_method_late jD uE jB rfl (az (ho pins s σ H _ I h) fun v s1 ⟨x,H1,I1,r1,ty,q1⟩=>?_);obtain ⟨h1,h2⟩:=Zwh I1 r1 ty;refine ⟨T,id,pa,slot,xw,h1,h2,?_⟩;have hA:=ha a8 pins s1 σ H1 _ I1 q1;rw [hs] at hA ⊢;refine YaT (by show (false || (Wx a8 (YF es X.env)).any (·.1))=false;rw [fG] <;> rfl) (Ybb ?_);exact az hA fun us s2 ⟨vs,H2,I2,r2,q2⟩=>hm pins s2 σ H2 x vs v us Q I2 r1 r2 q2
end
end L2
namespace L2
open PySem PySem.Spec PyProof.Rows
def MtM (X:Cx) (id:String) (r:V->List V->Hp->VK->Prop):Prop:=
 ∀ (pins:List (Addr×Obj)) (s:Shared) (σ:St) (H:Hp) (x:V) (xs:List V) (v:Value) (us:List Value) (Q:VK),Inv X pins σ H s->RelV x v->Vals xs us->r x xs H Q->
  wpAny (model X.prog X.w) X.A (call (.builtin id) (v::us)) (EP X pins σ Q) X.xe s
theorem Vals.one:∀ {x:V} {us:List Value},Vals [x] us->∃ u,us=[u]/\RelV x u
 | _,_,.cons r .nil=>⟨_,rfl,r⟩
theorem Vals.two:∀ {x y:V} {us:List Value},Vals [x,y] us->∃ u v,us=[u,v]/\RelV x u/\RelV y v
 | _,_,_,.cons r (.cons q .nil)=>⟨_,_,rfl,r,q⟩
theorem Vals.zero:∀ {us:List Value},Vals [] us->us=[]
 | _,.nil=>rfl
theorem Vals.rep {xs:List V} {us:List Value} (h:Vals xs us):∀ k:Nat,Vals (List.replicate k xs).flatten (List.replicate k us).flatten
 | 0=>.nil
 | k + 1=>by
  rw [Xf,Xf,XJ,XJ];exact Vals.append h (Vals.rep h k)
theorem GU (its:List Value):∀ (k:Nat) (acc:List Value),
  List.foldl (fun x1 x2=>x1++x2) acc.toArray (List.replicate k its.toArray)=(acc++(List.replicate k its).flatten).toArray
 | 0,acc=>by simp
 | k + 1,acc=>by
  have e:acc.toArray++its.toArray=(acc++its).toArray:=by simp
  have e2:(acc++its)++(List.replicate k its).flatten=acc++(List.replicate (k + 1) its).flatten:=by
   rw [Xf,XJ,List.append_assoc]
  rw [<- e2,<- GU its k (acc++its),<- e,Xf,Yai]
section
variable {X:Cx} {pins:List (Addr×Obj)} {σ:St} {H:Hp} {s:Shared} {l b:Addr} {xs ys zs:List V}
theorem Inv.zz {its its':List Value} {n:Nat} {f:Array Value->Array Value} {t':Nat} (I:Inv X pins σ H s) (hH:H l=some (.lst xs))
  (e:s.heap.get? l=some {cls:=.type "list",data:=.seq its.toArray n}) (hf:f its.toArray=its'.toArray) (hv:Vals ys its') (hz:ys.length<=Yj) :
  Inv X pins σ (upd H l (.lst ys)) {s with heap:=s.heap.update l (Y5 f),toks:=t'}:=by
 have q:=PySem.IsL.update e f;rw [hf] at q;refine I.write (x:=l) (e:=l) (by rw [hH];exact trivial) (.inl rfl) (fun b' u hb hu=>(XR s.heap (Y5 f) (WT hb)).trans hu) ⟨_,q⟩ ?_;exact ⟨hz,its',_,hv,q⟩
theorem Inv.n5 {its:List Value} {t':Nat} (I:Inv X pins σ H s) (hv:Vals ys its) (hz:ys.length<=Yj) :
  Inv X pins σ (upd H s.heap.objs.size (.lst ys)) {s with heap:=s.heap.push {cls:=.type "list",data:=.seq its.toArray},toks:=t'}:=
 I.laid (fun _ _ q=>Yc _ q) (Yf _) ⟨hz,its,0,hv,Yh _ rfl⟩
theorem Inv.fresh (I:Inv X pins σ H s):H s.heap.objs.size=none:=I.ak.fresh (Yf _)
theorem Inv.n4 (I:Inv X pins σ H s) (hH:H l=some (.lst xs)):xs.length<=Yj/\∃ (its:List Value) (n:Nat),Vals xs its/\xs.length=its.length/\s.heap.get? l=some {cls:=.type "list",data:=.seq its.toArray n}:=by
 obtain ⟨z,its,n,r,e⟩:=I.ak l _ hH;exact ⟨z,its,n,r,r.length,e⟩
theorem ZvL {n:Nat} (h:n<=Yj):YaG n=false:=by
 unfold YaG;exact decide_eq_false (by omega)
end
section
variable {X:Cx}
inductive lR (x:V) (vs:List V) (H:Hp) (Q:VK):Prop
 | mk (l:_) (xs:_) (y:_):x=.ref l->vs=[y]->H l=some (.lst xs)->xs.length < Yj->Q .aH (upd H l (.lst (xs++[y])))->lR x vs H Q
theorem pI:MtM X "list.append" lR:=by
 intro pins s σ H x vs v us Q I rx rv h;obtain ⟨l,xs,y,rfl,rfl,hH,hz,q⟩:=h
 cases rx
 obtain ⟨u,rfl,ru⟩:=rv.one;obtain ⟨z,its,n,r,hl,e⟩:=I.n4 hH;refine XD F.slot_list_append ⟨_,e,rfl⟩ F.entry_list_append (F.args_list_append_2 _ _) (PySem.list_append l its.toArray n u (by rw [Yq];omega)) ⟨e,?_⟩;refine ⟨.aH,_,I.zz (its':=its++[u]) hH e (by simp) (r.append (.cons ru .nil)) ?_,rfl,q⟩;rw [Yd,Ya6];omega
inductive lQ (x:V) (vs:List V) (H:Hp) (Q:VK):Prop
 | mk (l:_) (b:_) (xs:_) (zs:_):x=.ref l->vs=[.ref b]->H l=some (.lst xs)->H b=some (.lst zs)->xs.length + zs.length<=Yj->Q .aH (upd H l (.lst (xs++zs)))->lQ x vs H Q
theorem Zus:MtM X "list.extend" lQ:=by
 intro pins s σ H x vs v us Q I rx rv h;obtain ⟨l,b,xs,zs,rfl,rfl,hH,hB,hz,q⟩:=h
 cases rx
 obtain ⟨u,rfl,ru⟩:=rv.one
 cases ru
 obtain ⟨z,its,n,r,hl,e⟩:=I.n4 hH;obtain ⟨z2,gx,n2,r2,j7,e2⟩:=I.n4 hB;have hsz:its.toArray.size + gx.toArray.size<=Yj:=by rw [Yq,Yq];omega
 have An:¬ (!its.toArray.isEmpty && YaG (its.toArray.size + gx.toArray.size))=true:=by
  rw [ZvL hsz,Bool.and_false];exact Yr
 refine XD F.slot_list_extend ⟨_,e,rfl⟩ F.entry_list_extend (F.args_list_extend_2 _ _)
  (AutoSeq1.list_extend_list_list_0 l its.toArray n b gx.toArray n2 An (by rw [Yq];omega) (by omega)) ⟨e,e2,?_⟩
 refine ⟨.aH,_,I.zz (its':=its++gx) hH e (by simp) (r.append r2) ?_,rfl,q⟩;rw [Yd];omega
inductive zr (x:V) (y:V) (H:Hp) (Q:VK):Prop
 | mk (l:_) (b:_) (xs:_) (zs:_):x=.ref l->y=.ref b->H l=some (.lst xs)->H b=some (.lst zs)->xs.length + zs.length<=Yj->(∀ p,H p=none->Q (.ref p) (upd H p (.lst (xs++zs))))->zr x y H Q
theorem Fq:du X (Ws .Add) zr:=by
 intro pins s σ H x y v u Q I rx ry h;obtain ⟨l,b,xs,zs,rfl,rfl,hH,hB,hz,q⟩:=h
 cases rx
 cases ry
 obtain ⟨z,its,n,r,hl,e⟩:=I.n4 hH;obtain ⟨z2,gx,n2,r2,j7,e2⟩:=I.n4 hB;refine PySem.P.add_list e e2 ?_ (by rw [Yq,Yq];omega);have ea:its.toArray++gx.toArray=(its++gx).toArray:=by simp
 rw [ea];exact ⟨.ref _,_,I.n5 (t':=s.toks) (r.append r2) (by rw [Yd];omega),rfl,q _ I.fresh⟩
theorem ZuF {α:Type} (xs:List α) (k:Nat):(List.replicate k xs).flatten.length=k * xs.length:=by
 induction k with
 | zero=>simp
 | succ k ih=>rw [Xf,XJ,Yd,ih,Nat.succ_mul,Nat.add_comm]
end
section
variable {prog:Program} {w:World} {A:Around} {E:Value->Shared->Prop} {s:Shared}
end
section
variable {X:Cx}
end
end L2
namespace Att
open PySem PySem.W PySem.Calls PyProof.Rows
theorem ZlW {P:Params} {h:Heap}:∀ (ns:List Int) (vs:List Value),WellAll P h vs (ns.map WData.int)->IntsAre vs ns:=by
 intro ns
 induction ns with
 | nil=>
  intro vs w;rw [List.map_nil] at w
  cases w
  exact .nil
 | cons n ns ih=>
  intro vs w;rw [Yx] at w
  cases w with
  | cons a b=>
   cases a
   exact .cons _ _ (ih _ b)
theorem Zt1 {l:OpenLaw} {n:Nat} (hn:l.most=some n) {P:Params} {h:Heap} {args:List WData} {vals:List Value}
    (qz:l.row.toRowW.claim.pre args=true) (Ec:WellAll P h vals args) :
    ∃ a vs ns,vals=[Value.ref a]/\args=[WData.list (ns.map WData.int)]/\h.get? a=some {cls:=.type "list",data:=.seq vs.toArray}/\IntsAre vs ns/\ns.length<=n:=by
  have hsh:WShape.hasAll [] args [.list .int]=true:=(pre_splitW qz).1;have hc:l.pre.holds [] {args:=args}=true:=(pre_splitW qz).2;obtain ⟨d,r,rfl,h1,h2⟩:=hasAllW_cons hsh;obtain rfl:=hasAllW_nil h2;obtain ⟨xs,rfl,h3⟩:=hasW_list h1;obtain ⟨ns,rfl⟩:=items_int h3
  have hlen:ns.length<=n:=by
    unfold OpenLaw.pre at hc
    have h4:(WTm.not (.lt (.lit (.int (n:Int))) (.len (.arg 0)))).holds [] {args:=[.list (ns.map .int)]}=true:=by
      have h4:=(holds_andW hc).1;rw [hn] at h4;exact h4
    have h5:=condW_of h4 (w_not (w_lt w_lit (w_len_list (w_arg rfl))));rw [Yb] at h5;refine Nat.le_of_not_lt fun q=>?_;have q':(n:Int) < ((ns.length:Nat):Int):=by omega
    first
      | (rw [decide_eq_true q'] at h5;exact absurd h5 (by decide))
      | (simp at h5;omega)
  cases Ec with
  | cons w1 w2=>
    cases w2
    cases w1 with
    | list ho mw=>exact ⟨_,_,ns,rfl,rfl,ho,ZlW ns _ mw,hlen⟩
theorem Zt9 (l:OpenLaw) (args:List WData):l.row.toRowW.claim.post args (.bool true) args=true:=
 postW_of (r:=l.row.toRowW) (X:=(true == true))
  (show WShape.has [] (.bool true) .bool=true by first | rfl | decide | simp [WShape.has,WShape.arms,WShape.armsAll])
  (show (WTm.eq .res (.lit (.bool true))).value [] {args:=args,res:=some (.bool true),after:=args}=some (.bool (true == true)) from w_eq_bool (w_res rfl) w_lit) rfl
theorem jV {l:OpenLaw} {n:Nat} {q:Program} {loose:List Str} {XP:(Str->Option Value)->Heap->Prop} {YP:World->Heap->Prop} {d:DefRec}
  (hn:l.most=some n) (xK:d.params.defaults=[])
  (call:∀ (w:World) (ax aC:Shared) (mg mb:Str->Option Value) (fa:Addr) (o:Obj) (pm cd doc:Value) (a:Addr) (vs:List Value) (ns:List Int),
   Ground q loose [] XP w ax mg mb aC.heap->YP w aC.heap->
   aC.heap.get? fa=some o->o.data=.func (docDef d.name d.params d.body d.scope pm cd doc)->aC.heap.CodeRec cd d.name->mg d.name=some (.ref fa)->
   aC.heap.get? a=some {cls:=.type "list",data:=.seq vs.toArray}->IntsAre vs ns->ns.length<=n->aC.gens=#[]->
   codeAny (model l.prog w) callerA (.call (.ref fa) ⟨[.ref a],[]⟩) (fun r s'=>r=.ok (.ret (.bool true))/\OldK aC.heap s'.heap/\s'.os=aC.os/\AllBare s'.gens) aC) :
  WalkO q loose XP YP l.row.toRowW d [] (fun f vs=>PySem.call f vs):=by
 intro w ax aC mg mb G Y fa o pm cd doc dV kV ho hd lW hD hmg hg args vals as qz hlay hrd Ec hlo;obtain rfl:dV=.none:=Dflts.none hD xK;obtain rfl:kV=.none:=Dflts.noKw hD;obtain ⟨a,vs,ns,rfl,rfl,uA,hints,hlen⟩:=Zt1 hn qz Ec;refine enter_call (codeAny_mono (call w ax aC mg mb fa o pm cd doc a vs ns G Y ho (fd_plain hd) lW hmg uA hints hlen hg) fun r s' hq=>?_);obtain ⟨rfl,h2,h3,h4⟩:=hq;exact ⟨.inl ⟨.bool true,.bool true,[],rfl,fun _=>rfl,.bool true,Zt9 l _,fun _=>⟨List.Pairwise.nil,fun _ hm=>(nomatch hm)⟩⟩,h2,h3,h4⟩
section
variable {prog:Program} {w:World} {A:Around} {E:Value->Shared->Prop} {s:Shared} {K:Frag}
end
end Att
namespace L2
open PySem PySem.Spec PyProof.Rows
theorem Zpq:∀ {vs:List Value} {ns:List Int},IntsAre vs ns->Vals (ns.map V.int) vs
 | _,_,.nil=>.nil
 | _,_,.cons n t h=>.cons ⟨t,rfl⟩ (Zpq h)
def uM (H:Hp):Prop:=∀ b,H b=none∨∃ o xs,H b=some (.bf o (.lst xs))
theorem ZvW {P:Program} {w:World} {K:Yg} {mg mb:Str->Option Value} {CX:mY} {k:Nat} {fa a:Addr} {fd:Ym} {x:Str} {sp:Sp} {aC:Shared} {vs:List Value} {ns:List Int}
  (KX:K.In aC.heap) (sW:aC.heap.Ns X7 mg) (hb:aC.heap.Ns builtinsNs mb) (Bb:∀ x:Str,x≠"__name__"->mb x=YaV x) (LP:aC.heap.NoLimit) (hg:aC.gens=#[])
  (ha:aC.heap.get? a=some {cls:=.type "list",data:=.seq vs.toArray}) (hi:IntsAre vs ns) (hl:ns.length<=Yj) (hr:aW k callerA)
  (F:∀ base:Heap,K.In base->base.Ns X7 mg->ah P w K mg base CX k fa fd [x] sp) (Au:∀ (s:Shared) (u:Value),BindsTo s fd ⟨[u],[]⟩ [(x,u)])
  (oU:∀ H:Hp,uM H->ay K H a (ns.map V.int)->sp [.ref a] H (fun v _=>v=.bl true) fun _ _ _=>False)
  (EL:∀ H e s',CX [] H aC (fun _ _ _=>False) e s'->False) :
  codeAny (model P w) callerA (.call (.ref fa) ⟨[.ref a],[]⟩) (fun r s'=>r=.ok (.ret (.bool true))/\OldK aC.heap s'.heap/\s'.os=aC.os/\AllBare s'.gens) aC:=by
 have rv:=Zpq hi;have Ls:=hi.length
 -- from an abstract heap in which nothing but eF kK may be tracked
 have core:∀ H:Hp,uM H->ay K H a (ns.map V.int)->b_ P w H aC.heap->(∀ b,H b≠none->b=a)->(H a≠none->K.lookup a=none)->
   codeAny (model P w) callerA (.call (.ref fa) ⟨[.ref a],[]⟩) (fun r s'=>r=.ok (.ret (.bool true))/\OldK aC.heap s'.heap/\s'.os=aC.os/\AllBare s'.gens) aC:=by
  intro H hO hS ak hA hK;have lT:∀ {b:Addr} {o:Obj},aC.heap.get? b=some o->H b=none->(iI aC.heap H).get? b=some o:=fun e n=>ZvY e n
  have xl:∀ {b:Addr} {o:Obj} {es:Array Xp} {ep:Nat},aC.heap.get? b=some o->o.data=.dict es ep->H b=none:=fun {b o es ep} e d=>by
   cases q:H b with
   | none=>rfl
   | some u=>
    have e':b=a:=hA b (by rw [q];simp);subst e';rw [ha] at e;cases e;have d':Data.seq vs.toArray _=Data.dict es ep:=d
    cases d'
  have AM:∀ {b:Addr} {m:Str->Option Value},aC.heap.Ns b m->(iI aC.heap H).Ns b m:=fun {b m} ⟨o,es,ep,e,d,r⟩=>⟨o,es,ep,lT e (xl e d),d,r⟩
  have hKb:K.In (iI aC.heap H):=fun b o e=>lT (KX b o e) (by
   cases q:H b with
   | none=>rfl
   | some u=>
    have e':b=a:=hA b (by rw [q];simp);subst e';rw [hK (by rw [q];simp)] at e;cases e)
  have hM:Mod K mg (iI aC.heap H):=⟨hKb,AM sW,⟨mb,AM hb,Bb⟩,let ⟨mc,h1,h2⟩:=LP;⟨mc,AM h1,h2⟩⟩
  have e0:kG P w K mg (iI aC.heap H) callerA [] aC H:=⟨rfl,hM,fun b o e=>Zw4 e,Yam (ZuN _ _),trivial,fun b hb=>absurd (show b∈([]:List Addr) from hb) (by simp),ak,.of_eq hg⟩
  refine codeAny_mono ((F _ hKb (AM sW)).run callerA [] aC H ⟨[.ref a],[]⟩ [.ref a] [.ref a] _ _ hr e0 (Au aC (.ref a)) (.cons rfl .nil) (oU H hO hS)) fun r s' h=>?_
  cases r with
  | error e=>exact (EL H e s' h).elim
  | ok fl=>
   cases fl with
   | next=>exact X0 h
   | brk=>exact X0 h
   | cont=>exact X0 h
   | ret u=>
    obtain ⟨v,H',os,bare,un,LM,r',q⟩:=h;have q':v=.bl true:=q;subst q';obtain rfl:u=Value.bool true:=r';refine ⟨rfl,OldK.of_keep fun b o e=>?_,os,bare⟩
    cases q:H b with
    | none=>exact un.keep b o e q (by intro z;exact absurd (show b∈([]:List Addr) from z) (by simp)) (by simp)
    | some u=>
     rcases hO b with z | ⟨ob,xs,z⟩
     .rw [q] at z;cases z
     .have z2:=un.bR b ob _ z;obtain ⟨e1,_⟩:=ak b _ z;obtain ⟨e2,_⟩:=LM b _ z2;rw [e] at e1;cases e1;exact e2
 cases hk:K.lookup a with
 | some o=>
  -- eF kK is one of eF Aw own objects
  have e:=KX a o hk;rw [ha] at e
  cases e
  refine core (fun _=>none) (fun _=>.inl rfl) (.inr ⟨_,vs.toArray,_,hk,rfl,rfl,rfl,by rw [Yq,Ls];exact hl,by simpa using rv⟩) (fun b u z=>by have z':(none:Option HO)=some u:=z;cases z') (fun b z=>absurd rfl z) fun z=>absurd rfl z
 | none=>
  refine core (fun b=>if b=a then some (.bf {cls:=.type "list",data:=.seq vs.toArray} (.lst (ns.map V.int))) else none) (fun b=>?_) (.inl (.inr ⟨{cls:=.type "list",data:=.seq vs.toArray},if_pos rfl⟩)) (fun b u z=>?_) (fun b z=>?_) fun _=>hk
  .by_cases hb:b=a
   .exact .inr ⟨_,_,if_pos hb⟩
   .exact .inl (if_neg hb)
  .by_cases hb:b=a
   .have z':=(if_pos hb).symm.trans z
    cases z'
    subst hb;exact ⟨ha,by rw [Yb];exact hl,vs,_,rv,ha⟩
   .have z':=(if_neg hb).symm.trans z
    cases z'
  .by_cases hb:b=a
   .exact hb
   .exact absurd (if_neg hb) z
end L2
namespace L2
open PySem PySem.Spec PyProof.Rows
theorem ZwH {l:PySem.W.OpenLaw} {n k:Nat} {q:Program} {loose:List Str} {XP:(Str->Option Value)->Heap->Prop} {YP:World->Heap->Prop} {d:DefRec} {K:Params->Yg} {CX:World->mY} {sp:World->Sp} {x:Str}
  (hn:l.most=some n) (xG:n<=Yj) (xK:d.params.defaults=[]) (hr:aW k callerA)
  (hY:∀ (w:World) (h:Heap),YP w h->(K w.params).In h)
  (F:∀ (w:World) (mg:Str->Option Value) (fa:Addr) (h:Heap),(K w.params).In h->h.Ns X7 mg->mg d.name=some (.ref fa)->
   ∃ fd:Ym,(∀ (s:Shared) (u:Value),BindsTo s fd ⟨[u],[]⟩ [(x,u)])/\
    ∀ base:Heap,(K w.params).In base->base.Ns X7 mg->ah l.prog w (K w.params) mg base (CX w) k fa fd [x] (sp w))
  (oU:∀ (w:World) (H:Hp) (a:Addr) (ns:List Int),ns.length<=n->uM H->ay (K w.params) H a (ns.map V.int)->sp w [.ref a] H (fun v _=>v=.bl true) fun _ _ _=>False)
  (EL:∀ (w:World) (H:Hp) (s:Shared) (e:Value) (s':Shared),CX w [] H s (fun _ _ _=>False) e s'->False) :
  PySem.W.WalkO q loose XP YP l.row.toRowW d [] (fun f vs=>PySem.call f vs):=by
 refine Att.jV hn xK fun w ax aC mg mb fa o pm cd doc a vs ns G Y ho hd lW hmg uA hints hlen hg=>?_;have KX:=hY w _ Y;obtain ⟨fd,hb,hF⟩:=F w mg fa _ KX G.T.g hmg;exact ZvW KX G.T.g G.T.b G.T.builtins G.T.nolimit hg uA hints (Yn hlen xG) hr hF hb (fun H hO hS=>oU w H a ns hlen hO hS) fun H e s'=>EL w H aC e s'
end L2
namespace L2
open PySem PySem.Spec PyProof.Rows
def ZX (s:Stmt) (j:Nat):Stmt:=match s with
 | .ClassDef _ _ _ body _ _ _ _ _ _ _=>body.getD j (.Pass ⟨0,0,0,0⟩)
 | _=>.Pass ⟨0,0,0,0⟩
def pC (s:Stmt):Arguments:=match s with
 | .FunctionDef _ a _ _ _ _ _ _ _ _=>a
 | _=>{posonlyargs:=[],args:=[],vararg:=none,kwonlyargs:=[],kw_defaults:=[],kwarg:=none,defaults:=[]}
def mi (s:Stmt):List Stmt:=match s with
 | .FunctionDef _ _ b _ _ _ _ _ _ _=>b
 | _=>[]
def Zi (s:Stmt):Scope:=match s with
 | .FunctionDef _ _ _ _ _ _ sc _ _ _=>sc
 | _=>{kind:=.function,names:=[],isGenerator:=false,isCoroutine:=false}
abbrev w8:mY:=fun _ _ _ _ _ _=>False
abbrev E0:XK:=fun _ _ _=>False
structure aA (K:Yg) (x qual:Str) (st:Stmt) (f:Addr) (fd:Ym):Prop where
 ex:∃ (oc:Value) (od:Option Addr) (kV doc pm:Value) (an:Option Addr) (bg ct:Value) (oQ:Array (Option Value)),
  fd=XG x qual (pC st) (mi st) (Zi st) .none kV doc pm an bg ct/\K.lookup f=some ⟨oc,od,.func fd,oQ⟩/\PySem.W.codeIn K bg qual=true
 kp:W0 K (.ref f)=true
section
variable {P:Program} {w:World} {K:Yg} {mg:Str->Option Value} {base:Heap}
theorem aA.ok {x qual:Str} {st:Stmt} {f:Addr} {fd:Ym} {N ps:List Str} {k:Nat} {sp:Sp} (F:aA K x qual st f fd) (S:Zm N ps (Zi st)) (len:∀ vs H Q E,sp vs H Q E->vs.length=ps.length)
  (jC:∀ (bg:Value) (A:Around) (outer:List Env) (s:Shared) (H:Hp) (vs:List V) (Q:VK) (E:XK),aW k (A.deeper (Yae qual (Zi st) s.heap.objs.size f bg))->sp vs H Q E->
   ∃ t,d7 (aV w8 P w K mg base N qual (Zi st) f bg A outer s H E).u5 (mi st) t/\t {nx:=fun _ H'=>Q .aH H',rt:=Q} (bJ N vs) H):ah P w K mg base w8 (k + 1) f fd ps sp:=by
 obtain ⟨oc,od,kV,doc,pm,an,bg,ct,oQ,rfl,lk,lW⟩:=F.ex;refine Zyx lk lW S len fun A outer s H vs Q E hr oU=>?_;obtain ⟨t,h,q⟩:=jC bg A outer s H vs Q E hr oU;exact ⟨t,h.u5,q⟩
theorem aA.binds {x qual:Str} {st:Stmt} {f:Addr} {fd:Ym} {ps:List Str} (F:aA K x qual st f fd)
  (h:∀ (kV doc pm:Value) (an:Option Addr) (bg ct:Value) (us:List Value),us.length=ps.length->bindArgs (XG x qual (pC st) (mi st) (Zi st) .none kV doc pm an bg ct) ⟨us,[]⟩=pure (ps.zip us)):ZA K fd ps []:=by
 obtain ⟨oc,od,kV,doc,pm,an,bg,ct,oQ,rfl,lk,lW⟩:=F.ex;exact .all (h kV doc pm an bg ct)
theorem Zyw {x qual:Str} {st:Stmt} {f:Addr} {oc:Value} {od an:Option Addr} {oQ:Array (Option Value)} {kV doc pm bg ct:Value} (l:K.lookup f=some ⟨oc,od,.func (XG x qual (pC st) (mi st) (Zi st) .none kV doc pm an bg ct),oQ⟩)
  (c:PySem.W.codeIn K bg qual=true) (k:W0 K (.ref f)=true):aA K x qual st f (XG x qual (pC st) (mi st) (Zi st) .none kV doc pm an bg ct):=⟨⟨oc,od,kV,doc,pm,an,bg,ct,oQ,rfl,l,c⟩,k⟩
end
section
variable {X:Cx}
theorem pv (i:Nat) {x:Str} {pos:Pos} (hN:X.N[i]?=some x:=by rfl) (hv:Dr X.env.scope x:=by first | exact Or.inl rfl | exact Or.inr (Or.inl rfl) | exact Or.inr (Or.inr rfl)) (hd:(x == ("__debug__":Str))=false:=by decide)
  (lW:(x == ("__classdict__":Str))=false:=by decide):PE X (.Name x pos) (bA i):=Zx9 hN hv hd lW
end
theorem aj {A B:Prop} (h:B):if false=true then A else B:=by
 rw [if_neg Yr];exact h
theorem ao {A B:Prop} (h:A):if true=true then A else B:=by
 rw [if_pos rfl];exact h
def af (H H':Hp):Prop:=∀ b o,H b=some o->H' b=some o
theorem af.refl (H:Hp):af H H:=fun _ _ h=>h
theorem af.trans {H H1 H2:Hp} (a:af H H1) (b:af H1 H2):af H H2:=fun c o h=>b c o (a c o h)
theorem af.seq {K:Yg} {H H':Hp} {a:Addr} {xs:List V} (e:af H H') (h:ay K H a xs):ay K H' a xs:=by
 rcases h with (h | ⟨o,h⟩) | h
 .exact .inl (.inl (e _ _ h))
 .exact .inl (.inr ⟨o,e _ _ h⟩)
 .exact .inr h
end L2
set_option maxHeartbeats 4000000
namespace L2
open PySem PySem.Spec PyProof.Rows
structure ql (X:Cx) (scope:Scope) (own fv:List Str) (ix:List Nat):Prop where
 kind:scope.kind=.function
 kM:∀ y∈scope.names,y.2≠.cell
 names:∀ y∈scope.names,y.2=.local->scope.names.lookup y.1=some .local
 once:∀ y∈scope.names,y.2=.free->scope.names.lookup y.1=some .free
 outer:∀ y∈scope.names,y.2=.free->X.env.kindOf y.1=some .cell∨X.env.kindOf y.1=some .free
 uS:∀ y∈fv,scope.names.lookup y=some .free
 slots:∀ (j:Nat) (y:Str),fv[j]?=some y->∃ i,ix[j]?=some i/\X.N[i]?=some y
 len:ix.length=fv.length
def Zwz (sc:Scope) (N:List Str) (scope:Scope) (fv:List Str) (ix:List Nat):Bool:=
 scope.kind == .function && scope.names.all (fun y=>y.2 != .cell && (y.2 != .local || scope.names.lookup y.1 == some .local) && (y.2 != .free || (scope.names.lookup y.1 == some .free && (sc.names.lookup y.1 == some .cell || sc.names.lookup y.1 == some .free)))) &&
  fv.all (fun y=>scope.names.lookup y == some .free) && ix.length == fv.length && (List.range fv.length).all fun j=>((ix[j]?).bind fun i=>N[i]?) == fv[j]?
theorem Z8 {X:Cx} {scope sc:Scope} {N own fv:List Str} {ix:List Nat} (hs:X.env.scope=sc) (hN:X.N=N) (h:Zwz sc N scope fv ix=true):ql X scope own fv ix:=by
 unfold Zwz at h
 simp only [Xz,W8,beq_iff_eq,bne_iff_ne,Yaj,ne_eq] at h
 obtain ⟨⟨⟨⟨h1,h2⟩,h3⟩,h4⟩,h5⟩:=h;refine ⟨h1,fun y hy=>(h2 y hy).1.1,fun y hy e=>((h2 y hy).1.2).resolve_left fun z=>z e,fun y hy e=>(((h2 y hy).2).resolve_left fun z=>z e).1,fun y hy e=>?_,h3,fun j y e=>?_,h4⟩
 .have z:=(((h2 y hy).2).resolve_left fun z=>z e).2;unfold Env.kindOf;rw [hs];exact z
 .have hj:j < fv.length:=(List.getElem?_eq_some_iff.mp e).1;have z:=h5 j (List.mem_range.mpr hj);rw [e] at z
  cases q:ix[j]? with
  | none=>rw [q] at z;cases z
  | some i=>
   rw [q] at z;exact ⟨i,rfl,by rw [hN];exact z⟩
theorem Zny {names:List (Str×Yaf)} {x:Str} {k:Yaf} (h:names.lookup x=some k):(x,k)∈names:=by
 induction names with
 | nil=>simp at h
 | cons p r ih=>
  obtain ⟨n,k'⟩:=p;rw [Xd] at h
  cases e:x == n with
  | true=>
   rw [e] at h
   have:=eq_of_beq e
   cases h
   rw [this];exact Yw
  | false=>
   rw [e] at h;exact Yp _ (ih h)
theorem J6 {scope:Scope} {env:Env}:∀ (names:List (Str×Yaf)) (x:Str),
    (names.map fun (n,k)=>if (k == YJ && env.scope.kind == .function && env.kindOf n == some .cell) then (n,Yab) else (n,k)).lookup x =
      (names.lookup x).map fun k=>if (k == YJ && env.scope.kind == .function && env.kindOf x == some .cell) then Yab else k
  | [],_=>rfl
  | (n,k)::r,x=>by
    have ih:=J6 (scope:=scope) (env:=env) r x;show XU x ((if (k == YJ && env.scope.kind == .function && env.kindOf n == some .cell)=true then (n,Yab) else (n,k))::_)=_
    cases e:x == n with
    | true=>
      have e':=eq_of_beq e;subst e'
      by_cases hc:(k == YJ && env.scope.kind == .function && env.kindOf x == some .cell)=true
      · rw [if_pos hc,Xd,Xd,e]
        show some Yab=Option.map _ (some k);rw [Xm,if_pos hc]
      · rw [if_neg hc,Xd,Xd,e]
        show some k=Option.map _ (some k);rw [Xm,if_neg hc]
    | false=>
      by_cases hc:(k == YJ && env.scope.kind == .function && env.kindOf n == some .cell)=true
      · rw [if_pos hc,Xd,Xd,e]
        exact ih
      · rw [if_neg hc,Xd,Xd,e]
        exact ih
theorem HJ (env:Env):∀ (names:List (Str×Yaf)) (acc:List (Str×Addr)),
    (∀ y∈names,y.2=.free->∃ c,env.cells.lookup y.1=some c)->
    ∃ cl,(forIn names acc fun (x:Str×Yaf) (cs:List (Str×Addr))=>(if (x.2 == YJ)=true then do let c <- cellOf env x.1;pure (X4 ((x.1,c)::cs)) else pure (X4 cs):Sem (ForInStep (List (Str×Addr)))))=pure cl/\
      (∀ y c,(y,c)∈cl->(y,c)∈acc∨(env.cells.lookup y=some c/\(y,YJ)∈names))/\
      (∀ y,(∃ c,(y,c)∈acc)∨(y,YJ)∈names->∃ c,(y,c)∈cl)
  | [],acc,_=>⟨acc,rfl,fun y c h=>.inl h,fun y h=>h.elim (fun z=>z) fun z=>nomatch z⟩
  | (n,k)::r,acc,h=>by
    rw [Ya0]
    by_cases hk:k=.free
    · subst hk
      obtain ⟨c,hc⟩:=h (n,.free) Yw rfl;obtain ⟨cl,e,h1,h2⟩:=HJ env r ((n,c)::acc) fun y hy=>h y (Yp _ hy);refine ⟨cl,?_,fun y c' hm=>?_,fun y hy=>h2 y ?_⟩
      · simp only [beq_self_eq_true,if_true]
        have:cellOf env n=pure c:=by unfold cellOf;rw [hc]
        rw [this,pure_bind,pure_bind];exact e
      · rcases h1 y c' hm with z | ⟨z1,z2⟩
        · rcases List.mem_cons.mp z with z | z
          · cases z
            exact .inr ⟨hc,Yw⟩
          · exact .inl z
        · exact .inr ⟨z1,Yp _ z2⟩
      · rcases hy with ⟨c',z⟩ | z
        · exact .inl ⟨c',Yp _ z⟩
        · rcases List.mem_cons.mp z with z | z
          · cases z
            exact .inl ⟨c,Yw⟩
          · exact .inr z
    · obtain ⟨cl,e,h1,h2⟩:=HJ env r acc fun y hy=>h y (Yp _ hy)
      have hb:(k == YJ)=false:=by simpa using hk
      refine ⟨cl,?_,fun y c' hm=>?_,fun y hy=>h2 y ?_⟩
      · simp only [hb,YY,if_false]
        rw [pure_bind];exact e
      · rcases h1 y c' hm with z | ⟨z1,z2⟩
        · exact .inl z
        · exact .inr ⟨z1,Yp _ z2⟩
      · rcases hy with z | z
        · exact .inl z
        · rcases List.mem_cons.mp z with z | z
          · cases z
            exact absurd rfl hk
          · exact .inr z
theorem ZlO {l:List (Str×Addr)} {x:Str} {c:Addr} (h:l.lookup x=some c):(x,c)∈l:=by
 induction l with
 | nil=>simp at h
 | cons p r ih=>
  obtain ⟨n,k'⟩:=p;rw [Xd] at h
  cases e:x == n with
  | true=>
   rw [e] at h
   have:=eq_of_beq e
   cases h
   rw [this];exact Yw
  | false=>
   rw [e] at h;exact Yp _ (ih h)
theorem ZlJ {l:List (Str×Addr)} {x:Str} {c:Addr} (h:(x,c)∈l):∃ c',l.lookup x=some c':=by
 induction l with
 | nil=>cases h
 | cons p r ih=>
  obtain ⟨n,k'⟩:=p;rw [Xd]
  cases e:x == n with
  | true=>exact ⟨k',rfl⟩
  | false=>
   rcases List.mem_cons.mp h with z | z
   .cases z
    rw [beq_self_eq_true] at e
    cases e
   .exact ih z
theorem ZnK {scope:Scope} {env:Env} (h:∀ y∈scope.names,y.2=.free->∃ c,env.cells.lookup y.1=some c) :
  ∃ cl,closureFor scope env=pure cl/\(∀ y c,cl.lookup y=some c->env.cells.lookup y=some c/\(y,YJ)∈scope.names)/\(∀ y,(y,YJ)∈scope.names->∃ c,cl.lookup y=some c):=by
 obtain ⟨cl,e,h1,h2⟩:=HJ env scope.names [] h;refine ⟨cl,?_,fun y c hl=>?_,fun y hy=>?_⟩
 .unfold closureFor;refine Eq.trans (b:=((forIn scope.names [] fun (x:Str×Yaf) (cs:List (Str×Addr))=>(if (x.2 == YJ)=true then do let c <- cellOf env x.1;pure (X4 ((x.1,c)::cs)) else pure (X4 cs):Sem (ForInStep (List (Str×Addr))))) >>= fun cs=>pure cs)) rfl ?_;rw [e];rfl
 .rcases h1 y c (ZlO hl) with z | z
  .cases z
  .exact z
 .obtain ⟨c,hc⟩:=h2 y (.inr hy);exact ZlJ hc
def fw (X:Cx) (scope:Scope) (cl:List (Str×Addr)) (M:List Str) (fp:List Addr) (C:Addr) (s:Shared) (H:Hp):Cx where
 prog:=X.prog
 w:=X.w
 K:=X.K
 mg:=X.mg
 base:=X.base
 A:=X.A
 N:=M
 ax:=s
 aP:=H
 env:=Yav scope cl C X.env
 outer:=X.stack
 stack:=X.stack
 ex:=fp
 fn:=fun y=>scope.names.lookup y == some .local
 calm:=X.calm
 pn:=[]
 xe:=fun _ _=>False
def Ds (X:Cx) (ifs:List Expr) (t:TT):Prop:=
 ∀ (pins:List (Addr×Obj)) (s:Shared) (σ:St) (H:Hp) (Q:Bool->Hp->Prop),Inv X pins σ H s->t σ H Q->
  wpAny (model X.prog X.w) X.A (forIn ifs true fun c r=>if r=true then do let ok <- isTrue c X.env (eval c X.env);pure (X4 ok) else pure (X4 r)) (TP X pins σ Q) X.xe s
def ui:TT:=fun _ H Q=>Q true H
theorem mU {X:Cx}:Ds X [] ui:=fun _ _ _ H _ I h=>wpAny_tests_nil ⟨H,I,h⟩
theorem Zua {X:Cx} {c:Expr} {t:TT} (h:PT X c t):Ds X [c] t:=by
 try unfold PE at *;try unfold PA at *
 exact fun pins s σ H Q I hw=>wpAny_tests_one (h pins s σ H Q I hw)
def ZxU (wi:TI) (k:Nat) (ix:List Nat) (g:TG) (tt:TT) (te:TE):TE:=fun σ H Q=>wi σ H fun J H1=>∀ D,H1 D=none->
 ∃ W:Nat->Nat->St->List V->Hp->Prop,(∃ m,W 0 m (List.replicate k none++ix.map fun i=>(σ[i]?).getD none) [] (upd H1 D (.lst [])))/\
  ∀ i m ar ys H',W i m ar ys H'->H' D=some (.lst ys)/\((J.stop i H'/\Q (.ref D) H')∨(J.go i H'/\ys.length < Yj/\
   ∀ x H2,J.ik i H' x H2->g x ar H2 fun aQ H3=>tt aQ H3 fun b H4=>
    if b=true then te aQ H4 fun v H5=>H5 D=some (.lst ys)/\∃ m',m' < m/\W (i + 1) m' aQ (ys++[v]) (upd H5 D (.lst (ys++[v])))
    else ∃ m',m' < m/\W (i + 1) m' aQ ys H4))
section
variable {prog:Program} {w:World} {A:Around} {R:Result->Shared->Prop} {s:Shared}
theorem ZcG {elt target iter:Expr} {ifs:List Expr} {scope:Scope} {pos:Pos} {it acc:Value} {env:Env} (I:Nat->Shared->Prop)
  (turn:∀ n s,I n s->wpAny (model prog w) A (WQ it) (fun r aC=>match r with
   | none=>R (.ok .next) aC
   | some v=>wpAny (model prog w) A (Yah target it v) (fun _ rT=>wpAny (model prog w) A (assign target env v) (fun _ ef=>
     wpAny (model prog w) A (forIn ifs true fun c r=>if r=true then do let ok <- isTrue c env (eval c env);pure (X4 ok) else pure (X4 r)) (fun ok jx=>
      if ok=true then wpAny (model prog w) A (eval elt env) (fun x zc=>
       wpAny (model prog w) A (call (.builtin "list.append") [acc,x]) (fun _ za=>∃ m,m < n/\I m za) (fun _ _=>False) zc) (fun _ _=>False) jx
      else ∃ m,m < n/\I m jx) (fun _ _=>False) ef) (fun _ _=>False) rT) (fun _ _=>False) aC) (fun _ _=>False) s)
  (n:Nat) (h:I n s) :
  codeAny (model prog w) A (.compLoop (.ListComp elt [⟨target,iter,ifs,0⟩] scope pos) 0 it acc env) R s:=by
 refine codeAny_loop rfl I (fun n s hI=>?_) n h;show wpAny _ A ((compTurn (.ListComp elt [⟨target,iter,ifs,0⟩] scope pos) 0 it acc env).onRaise (fun x=>do noteFrame x env;theTreesLotGoes x)) _ _ s;refine wpAny_noted ?_;rw [compTurn_list];refine Ya (wpAny_standAt (Ya (Xa (turn n s hI) (fun r aC qy=>?_) fun _ _ z=>z.elim)))
 cases r with
 | none=>exact Ye qy
 | some v=>
  refine Ya (Xa qy (fun _ rT Aj=>?_) fun _ _ z=>z.elim);refine Ya (Xa Aj (fun _ ef n6=>Ya (Xa n6 (fun ok jx qw=>?_) fun _ _ z=>z.elim)) fun _ _ z=>z.elim)
  cases ok with
  | false=>exact Ye ⟨rfl,qw⟩
  | true=>
   exact Ya (Ya (Xa qw (fun x zc LA=>Ya (Xa LA (fun _ za Lz=>Ye (Ye ⟨rfl,Lz⟩)) fun _ _ z=>z.elim)) fun _ _ z=>z.elim))
end
section
variable {X:Cx} {pins:List (Addr×Obj)} {σ:St} {H H2:Hp} {s:Shared} {scope:Scope} {own fv:List Str} {ix:List Nat} {cl:List (Str×Addr)}
theorem ql.cells {own fv:List Str} (S:ql X scope own fv ix) (ok:X.Ok):∀ y∈scope.names,y.2=.free->∃ c,X.env.cells.lookup y.1=some c:=
 fun y hy e=>ok.has y.1 (S.outer y hy e)
theorem ZqH (S:ql X scope own fv ix) (ok:X.Ok) {x:Str} (h:(Yav scope cl C X.env).kindOf x=some .cell∨(Yav scope cl C X.env).kindOf x=some .free):(x,YJ)∈scope.names:=by
 have e:(Yav scope cl C X.env).kindOf x=(scope.names.lookup x).map fun k=>if (k == YJ && X.env.scope.kind == .function && X.env.kindOf x == some .cell) then Yab else k:=J6 (scope:=scope) _ _
 cases q:scope.names.lookup x with
 | none=>
  rw [e,q] at h;rcases h with h | h <;> cases h
 | some k=>
  have m:=Zny q;rw [e,q] at h
  by_cases hk:k=.free
  .subst hk;exact m
  .have hb:(k == YJ)=false:=by simpa using hk
   simp only [Xm,hb,Bool.false_and,YY,if_false] at h
   rcases h with h | h
   .cases h
    exact absurd rfl (S.kM _ m)
   .cases h
    exact absurd rfl hk
theorem ZqI (S:ql X scope own fv ix) (ok:X.Ok) {x:Str} (h:(x,YJ)∈scope.names):(Yav scope cl C X.env).kindOf x=some .cell∨(Yav scope cl C X.env).kindOf x=some .free:=by
 have e:(Yav scope cl C X.env).kindOf x=(scope.names.lookup x).map fun k=>if (k == YJ && X.env.scope.kind == .function && X.env.kindOf x == some .cell) then Yab else k:=J6 (scope:=scope) _ _
 rw [e,S.once _ h rfl]
 by_cases hc:(YJ == YJ && X.env.scope.kind == .function && X.env.kindOf x == some .cell)=true
 .left;simp only [Xm,hc,if_true]
 .right;simp only [Xm,hc,if_false];rfl
theorem Zxt (S:ql X scope own fv ix) (I:Inv X pins σ H s) {fp:List Addr} (hf:∀ b∈fp,eg X pins H2 b) (aT:∀ b∈fp,b < s.heap.objs.size)
  (dh:∀ y c,cl.lookup y=some c->X.env.cells.lookup y=some c/\(y,YJ)∈scope.names) (jy:∀ y,(y,YJ)∈scope.names->∃ c,cl.lookup y=some c) :
  (fw X scope cl (own++fv) fp s.heap.objs.size s H).Ok where
 mod:=I.ok.mod
 kind:=S.kind
 glob:=I.ok.glob
 blt:=I.ok.blt
 above:=Yf _
 inj:=fun x y c h1 h2=>I.ok.inj x y c (dh x c h1).1 (dh y c h2).1
 has:=fun x h=>jy x (ZqH S I.ok h)
 qb:=fun x c h1 h2=>by
  have m:=(dh x c h2).2;have vD:(scope.names.lookup x == some .local)=true:=h1;rw [S.once _ m rfl] at vD
  cases vD
 hd:=I.ok.hd
 frames:=I.ok.frames
 qH:=.inl rfl
 vE:=fun b hb=>⟨Yy (aT b hb),fun x c e=>(hf b hb).2.2.2.2.1 x c (dh x c e).1⟩
 bs:=I.bs
 l8:=Yn I.ok.l8 I.sz
 iE:=fun b o e hb=>by
  rcases (hf b hb).2.2.2.1 with z | z
  .exact I.ok.iE b o e z
  .exact absurd (YD (Yl e) (Yn I.ok.l8 z)) (Y8 _)
 gy:=fun b hb z=>by
  rcases List.mem_cons.mp (I.cv b z) with e | e
  .exact (hf b hb).2.1 e
  .exact (hf b hb).2.2.1 e
 bQ:=I.stack
 nG:=I.dB
theorem ZuQ {σ:St} {i:Nat} {v:V} (h:(σ[i]?).getD none=some v):σ[i]?=some (some v):=by
 cases e:σ[i]? with
 | none=>rw [e] at h;cases h
 | some o=>rw [e] at h;exact congrArg some h
theorem ZnJ (S:ql X scope own fv ix) (I:Inv X pins σ H s) {fp:List Addr} (hf:∀ b∈fp,eg X pins H2 b) (aT:∀ b∈fp,b < s.heap.objs.size)
  (dh:∀ y c,cl.lookup y=some c->X.env.cells.lookup y=some c/\(y,YJ)∈scope.names) (jy:∀ y,(y,YJ)∈scope.names->∃ c,cl.lookup y=some c)
  {h1:Heap} {t1:Nat} {m:Str->Option Value} (sW:h1.Ns s.heap.objs.size m) (old:∀ b o,s.heap.get? b=some o->h1.get? b=some o) :
  Inv (fw X scope cl (own++fv) fp s.heap.objs.size s H) [] (List.replicate own.length none++ix.map fun i=>(σ[i]?).getD none) H {s with heap:=h1,toks:=t1}:=by
 refine ⟨Zxt S I hf aT dh jy,rfl,I.bare,Un.kept old,⟨m,sW,fun i x v e1 e2 e3=>?_⟩,fun x c e=>?_,I.ak.fresh (Yf _),fun x c e=>I.a_ x c (dh x c e).1,fun p hp=>(nomatch hp),I.ak.kept old,?_⟩
 .have vF:(own++fv)[i]?=some x:=e1
  by_cases hi:i < own.length
  .rw [Yay (by rw [YC];exact hi),List.getElem?_replicate,if_pos hi] at e2
   cases e2
  .have kX:own.length<=i:=Nat.not_lt.mp hi;rw [Wv kX] at vF;rw [Wv (by rw [YC];exact kX),YC,Yo] at e2;obtain ⟨j,hj,hN⟩:=S.slots _ x vF;rw [hj] at e2;have Bk:σ[j]?=some (some v):=ZuQ (Yu e2);have eL:(x,YJ)∈scope.names:=Zny (S.uS x (Ys vF));have hko:=S.outer _ eL rfl;obtain ⟨m0,vi,xH⟩:=I.loc;obtain ⟨u,r,l⟩:=xH j x v hN Bk (hko.elim (fun z=>.inr (.inl z)) fun z=>.inr (.inr z));refine ⟨u,r,.inr ⟨ZqI S I.ok eL,?_⟩⟩;rcases l with ⟨k,_⟩ | ⟨_,c,ec,z⟩
   .have k':X.env.kindOf x=some .local:=k;rcases hko with q | q <;> (rw [q] at k';cases k')
   .obtain ⟨c',p7⟩:=jy x eL;have ec':=(dh x c' p7).1;rw [ec] at ec'
    cases ec'
    obtain ⟨o,ho,hd⟩:=z;exact ⟨c,p7,o,old c o ho,hd⟩
 .obtain ⟨v,o,ho,hd⟩:=I.cell x c (dh x c e).1;exact ⟨v,o,old c o ho,hd⟩
 .show (List.replicate own.length none++ix.map fun i=>(σ[i]?).getD none:St).length=(own++fv).length;rw [Yd,Yd,YC,Yb,S.len]
theorem ZsA {H':Hp} {ar:St} {s':Shared} {j8:Heap} {fp:List Addr} (I:Inv X pins σ H s) (hf:∀ b∈fp,eg X pins H2 b)
  (I':Inv (fw X scope cl (own++fv) fp s.heap.objs.size s H) [] ar H' s') (hs:Xv s.heap.objs.size s'.heap j8):Inv X pins σ H' {s' with heap:=j8}:=by
 have ne:∀ b o,s.heap.get? b=some o->b≠s.heap.objs.size:=fun b o e=>Yy (Yl e);have B:Un (cg X.stack) fp H H' s.heap s'.heap:=I'.base;refine I.sk (ch:=fp) (s':={s' with heap:=j8}) I'.os ⟨fun b o e n hb hx=>?_,fun b o e n hb hx=>?_,B.free,fun b o e hx=>?_,B.cM,B.bR,B.cN⟩ (fun b u e=>?_) I'.bare fun b hb=>⟨(hf b hb).2.2.2.1,(hf b hb).2.1,(hf b hb).2.2.2.2.1,(hf b hb).2.2.2.2.2⟩
 .exact (hs.2 b (ne b o e)).trans (B.keep b o e n hb hx)
 .obtain ⟨sl,e1⟩:=B.slot b o e n hb hx;exact ⟨sl,(hs.2 b (ne b o e)).trans e1⟩
 .obtain ⟨o',e1⟩:=B.there b o e hx;exact ⟨o',(hs.2 b (ne b o e)).trans e1⟩
 .have fr:H' s.heap.objs.size=none:=I'.free;refine (I'.ak b u e).dA (fun c w' hc q=>(hs.2 c ?_).trans q) (fun _ q=>q) fun _ _ q=>q
  rintro rfl
  rcases hc with z | z
  .rw [<- z,fr] at e;cases e
  .rw [fr] at z;cases z
theorem mT {elt target iter:Expr} {ifs:List Expr} {pos:Pos} {wi:TI} {g:TG} {tt:TT} {te:TE} (S:ql X scope own fv ix) (hc:X.calm=true) (hi:PI X target iter wi)
  (hg:∀ cl fp C s H,PG (fw X scope cl (own++fv) fp C s H) target g) (ht:∀ cl fp C s H,Ds (fw X scope cl (own++fv) fp C s H) ifs tt) (he:∀ cl fp C s H,PE (fw X scope cl (own++fv) fp C s H) elt te)
  (hs:∀ x,foldedSetIterable iter X.env x=pure x:=by intro _;rfl):PE X (.ListComp elt [⟨target,iter,ifs,0⟩] scope pos) (ZxU wi own.length ix g tt te):=by
 try unfold PE at *
 intro pins s σ H Q I h;rw [eval_ListComp];obtain ⟨cl,oz,dh,jy⟩:=ZnK (scope:=scope) (env:=X.env) (S.cells I.ok);refine wpAny_comprehension_free (use:=none) rfl hs oz S.kind S.names (az (hi pins s σ H _ I h) fun v s1 h1=>az h1 fun AX s2 h2=>?_);obtain ⟨it,fp,tn,J,H2,e,I2,T,pO,f2,hW⟩:=h2;subst e
 have kz:∀ b∈fp,b < s2.heap.objs.size:=fun b hb=>by
  obtain ⟨o,e,_⟩:=T.obj _ _ pO b hb;exact Yl e
 obtain ⟨W,⟨m0,w0⟩,turn⟩:=hW s2.heap.objs.size I2.fresh;have I3:Inv X pins σ (upd H2 s2.heap.objs.size (.lst [])) {s2 with heap:=s2.heap.push {cls:=.type "list",data:=.seq ([]:List Value).toArray}}:=I2.n5 (t':=s2.toks) (its:=[]) .nil (Yt _);refine YG ?_;generalize xA:({s2 with heap:=s2.heap.push {cls:=.type "list",data:=.seq ([]:List Value).toArray}}:Shared)=s3 at I3;have uy:s3.heap.objs.size=s2.heap.objs.size + 1:=by rw [<- xA];exact XX ..
 have DB:∀ b o,s2.heap.get? b=some o->s3.heap.get? b=some o:=fun b o e=>by rw [<- xA];exact Yc _ e
 refine wpAny_newFunctionEnv (fun y hy=>S.kM y hy) (by intro y hy;simp at hy) (fun h4 uB uz=>?_) S.kind;have nZ:∀ b o,s3.heap.get? b=some o->h4.get? b=some o:=fun b o e=>uz.extBut b o (Yy (Yl e)) (Yc _ e);have n9:∀ b∈fp,b < s3.heap.objs.size:=fun b hb=>by rw [uy];exact Nat.lt_succ_of_lt (kz b hb)
 have I4:=ZnJ (t1:=s3.toks + ([]:List (Str×Value)).length) S I3 f2 n9 dh jy uB nZ;have sH:tn 0 h4:=T.keep _ _ _ pO fun b hb o e=>nZ b o (DB b o e);have EV:∀ b∈fp,(upd H2 s2.heap.objs.size (.lst [])) b=none:=fun b hb=>by rw [Ze (Yy (kz b hb))];exact (f2 b hb).1
 have fA:∀ {H':Hp},(∀ b∈fp,H' b=none)->∀ b∈fp,eg (fw X scope cl (own++fv) fp s3.heap.objs.size s3 (upd H2 s2.heap.objs.size (.lst []))) [] H' b:=fun hn b hb=>
  ⟨hn b hb,Yy (n9 b hb),(I4.ok.gy b hb),.inl hb,fun x c e=>(f2 b hb).2.2.2.2.1 x c (dh x c e).1,fun p hp=>(nomatch hp)⟩
 have loop:codeAny (model X.prog X.w) X.A (.compLoop (.ListComp elt [⟨target,iter,ifs,0⟩] scope pos) 0 (.ref it) (.ref s2.heap.objs.size) (Yav scope cl s3.heap.objs.size X.env))
   (compPost (model X.prog X.w) X.A X.xe none (EP X pins σ Q) (.ref s2.heap.objs.size) s3.heap.objs.size) {s3 with heap:=h4,toks:=s3.toks + ([]:List (Str×Value)).length}:=by
  refine ZcG (fun n s'=>∃ i ar ys H',Inv (fw X scope cl (own++fv) fp s3.heap.objs.size s3 (upd H2 s2.heap.objs.size (.lst []))) [] ar H' s'/\tn i s'.heap/\(∀ b∈fp,H' b=none)/\W i n ar ys H') ?_ m0 ⟨0,_,[],_,I4,sH,EV,w0⟩
  rintro n s5 ⟨i,pK,ys,H5,I5,pN,tH,w5⟩
  obtain ⟨hD,next⟩:=turn i n pK ys H5 w5;rcases next with ⟨stop,q⟩ | ⟨go,Eb,step⟩
  .refine az (T.done (fw X scope cl (own++fv) fp s3.heap.objs.size s3 (upd H2 s2.heap.objs.size (.lst []))) rfl rfl rfl hc i [] s5 pK H5 (fun _ _=>False) I5 (fA tH) pN stop) fun r s6 ⟨hr,I6⟩=>?_;subst hr;obtain ⟨m6,Em,_⟩:=id I6.loc;exact ⟨m6,Em,fun h7 hs7=>⟨.ref s2.heap.objs.size,H5,ZsA I3 f2 I6 hs7,rfl,q⟩⟩
  .refine az (T.item (fw X scope cl (own++fv) fp s3.heap.objs.size s3 (upd H2 s2.heap.objs.size (.lst []))) rfl rfl rfl hc i [] s5 pK H5 (fun _ _=>False) I5 (fA tH) pN go) fun r s6 ⟨u,hr,h6⟩=>?_;subst hr;refine az h6 fun _ s7 ⟨x,H7,I7,r7,y7,sG,EU⟩=>?_;have K2:=I7.pinned (fA EU) (T.obj _ _ sG);refine az (hg _ _ _ _ _ _ s7 pK H7 x u _ K2 r7 (step x H7 y7)) fun _ s8 ⟨j5,H8,I8,q8⟩=>?_;refine az (ht _ _ _ _ _ _ s8 j5 H8 _ I8 q8) fun b s9 ⟨H9,I9,q9⟩=>?_
   have again:∀ {ip:Shared} {iC:St} {gO:Hp} {pL:List V},Inv (fw X scope cl (own++fv) fp s3.heap.objs.size s3 (upd H2 s2.heap.objs.size (.lst []))) ([]++vX fp s7.heap) iC gO ip->(∃ m',m' < n/\W (i + 1) m' iC pL gO)->
     ∃ m,m < n/\∃ i ar ys H',Inv (fw X scope cl (own++fv) fp s3.heap.objs.size s3 (upd H2 s2.heap.objs.size (.lst []))) [] ar H' ip/\tn i ip.heap/\(∀ b∈fp,H' b=none)/\W i m ar ys H':=fun {ip iC gO pL} nX ⟨m',hm,DA⟩=>by
    refine ⟨m',hm,i + 1,iC,pL,gO,nX.cw,T.keep _ _ _ sG fun b hb o e=>(nX.pin (b,o) (YK _ (YK _ (wL hb e)))).1,fun b hb=>?_,DA⟩;obtain ⟨o,e,d⟩:=T.obj _ _ sG b hb;exact (nX.pin (b,o) (YK _ (YK _ (wL hb e)))).2.1
   cases b with
   | false=>
    rw [if_neg (by decide)] at q9;rw [if_neg (by decide)];exact again I9 q9
   | true=>
    rw [if_pos rfl] at q9;rw [if_pos rfl];refine az (he _ _ _ _ _ _ s9 j5 H9 _ I9 q9) fun u9 ip ⟨v9,gO,nX,sL,uI,DW⟩=>?_;refine az (pI (X:=fw X scope cl (own++fv) fp s3.heap.objs.size s3 (upd H2 s2.heap.objs.size (.lst []))) _ ip j5 gO (.ref s2.heap.objs.size) [v9] (.ref s2.heap.objs.size) [u9] (fun _ y0=>y0=upd gO s2.heap.objs.size (.lst (ys++[v9]))) nX rfl (.cons sL .nil) ⟨_,ys,v9,rfl,rfl,uI,Eb,rfl⟩) fun _ s11 ⟨_,y0,K3,_,DV⟩=>?_;subst DV;exact again K3 DW
 exact codeAny_compStart_list loop (T.self _ _ _ _ _ sH loop)
end
theorem Ztt {n:Nat} {lo:Int} (te:TE) {σ:St} {ix:List Nat} {H1:Hp} {D:Addr} {Q:Hp->Prop} (Pv:Nat->List V->Hp->Prop) (h0:Pv 0 [] (upd H1 D (.lst []))) (hn:n<=Yj)
  (gf:∀ i ys H',Pv i ys H'->H' D=some (.lst ys)/\ys.length<=i)
  (hs:∀ i ys H' (N:VK),i < n->Pv i ys H'->(∀ v H5,H5 D=some (.lst ys)->Pv (i + 1) (ys++[v]) (upd H5 D (.lst (ys++[v])))->N v H5)->te (some (.int (lo + (i:Nat)))::ix.map fun i=>(σ[i]?).getD none) H' N)
  (hd:∀ ys H',Pv n ys H'->Q H') :
  ∃ W:Nat->Nat->St->List V->Hp->Prop,(∃ m,W 0 m (List.replicate 1 none++ix.map fun i=>(σ[i]?).getD none) [] (upd H1 D (.lst [])))/\
   ∀ i m ar ys H',W i m ar ys H'->H' D=some (.lst ys)/\(((mX lo n).stop i H'/\Q H')∨((mX lo n).go i H'/\ys.length < Yj/\
    ∀ x H2,(mX lo n).ik i H' x H2->k6 0 x ar H2 fun aQ H3=>ui aQ H3 fun b H4=>
     if b=true then te aQ H4 fun v H5=>H5 D=some (.lst ys)/\∃ m',m' < m/\W (i + 1) m' aQ (ys++[v]) (upd H5 D (.lst (ys++[v])))
     else ∃ m',m' < m/\W (i + 1) m' aQ ys H4)):=by
 refine ⟨fun i m ar ys H'=>i<=n/\m=n - i/\(∃ o,ar=o::ix.map fun i=>(σ[i]?).getD none)/\Pv i ys H',⟨n,Yt _,rfl,⟨none,rfl⟩,h0⟩,?_⟩
 rintro i m ar ys H' ⟨hi,rfl,⟨o,rfl⟩,P⟩
 obtain ⟨a1,a2⟩:=gf i ys H' P;refine ⟨a1,?_⟩
 by_cases aT:i < n
 .refine .inr ⟨aT,by omega,fun x H2 hy=>?_⟩;obtain ⟨rfl,rfl⟩:=hy;exact hs i ys H2 _ aT P fun v H5 h1 h2=>⟨h1,n - (i + 1),by omega,aT,rfl,⟨_,rfl⟩,h2⟩
 .have e:i=n:=by omega
  subst e;exact .inl ⟨Yf _,hd ys H' P⟩
end L2
namespace L2
open PySem PySem.Spec PyProof.Rows
section
variable {P:Program} {w:World} {H H':Hp} {h h':Heap} {a:Addr} {o:HO}
theorem bH.there (x:bH P w H h a o):∃ ob,h.get? a=some ob:=by
 cases o with
 | lst xs=>obtain ⟨_,_,_,_,e⟩:=x;exact ⟨_,e⟩
 | tup xs=>obtain ⟨_,_,_,o,e,_⟩:=x;exact ⟨_,e⟩
 | dK kvs=>obtain ⟨_,_,_,_,o,_,_,e,_⟩:=x;exact ⟨_,e⟩
 | dT kvs=>obtain ⟨_,_,_,_,o,_,_,e,_⟩:=x;exact ⟨_,e⟩
 | set S n=>obtain ⟨o,_,_,_,e,_⟩:=x;exact ⟨_,e⟩
 | ins C dx fs=>obtain ⟨_,_,_,e,_⟩:=x;exact ⟨_,e⟩
 | own y=>obtain ⟨_,e⟩:=x;exact ⟨_,e⟩
 | xd fs=>obtain ⟨_,⟨_,_,_,e,_⟩,_⟩:=x;exact ⟨_,e⟩
 | AJ lo hi=>obtain ⟨_,_,_,e⟩:=x;exact ⟨_,e⟩
 | bf ob u=>obtain ⟨e,_⟩:=x;exact ⟨_,e⟩
 | nc ps=>exact ⟨_,(show h.get? a=some _ from x)⟩
 | met f y=>exact ⟨_,(show h.get? a=some _ from x)⟩
 | ext φ=>obtain ⟨_,⟨_,e⟩,_⟩:=x;exact ⟨_,e⟩
theorem b_.absent (x:b_ P w H h) (e:h.get? a=none):H a=none:=by
 cases q:H a with
 | none=>rfl
 | some u=>
  obtain ⟨ob,z⟩:=(x a u q).there;rw [e] at z
  cases z
theorem b_.hidden (x:b_ P w H h) {as:List Addr} (hf:∀ b∈as,H b=none):b_ P w H (YaY h as):=fun a o e=>
 (x a o e).dA (fun b u hb q=>Ybe _ q fun hm=>by
  have z:=hf b hm;rcases hb with rfl | hb
  .rw [z] at e;cases e
  .rw [z] at hb;cases hb) (fun _ q=>q) fun _ _ q=>q
end
abbrev Cx.mH (X:Cx) (A:Around):Cx:={X with A:=A,calm:=false}
theorem Cx.Ok.mH {X:Cx} (ok:X.Ok) {A:Around} (hf:A.frames=X.A.frames):(X.mH A).Ok:=
 ⟨ok.mod,ok.kind,ok.glob,ok.blt,ok.above,ok.inj,ok.has,ok.qb,fun z=>(nomatch z),hf.trans ok.frames,ok.qH,ok.vE,ok.bs,ok.l8,ok.iE,ok.gy,ok.bQ,ok.nG⟩
abbrev Cx.fe (X:Cx) (pn:List (Addr×Obj)) (E:Value->Shared->Prop):Cx:={X with pn:=pn,xe:=E}
theorem Cx.Ok.fe {X:Cx} (ok:X.Ok) (pn:List (Addr×Obj)) (E:Value->Shared->Prop):(X.fe pn E).Ok:=
 ⟨ok.mod,ok.kind,ok.glob,ok.blt,ok.above,ok.inj,ok.has,ok.qb,ok.hd,ok.frames,ok.qH,ok.vE,ok.bs,ok.l8,ok.iE,ok.gy,ok.bQ,ok.nG⟩
theorem Cx.Ok.bS {X:Cx} {pn:List (Addr×Obj)} {E:Value->Shared->Prop} (ok:(X.fe pn E).Ok):X.Ok:=
 ⟨ok.mod,ok.kind,ok.glob,ok.blt,ok.above,ok.inj,ok.has,ok.qb,ok.hd,ok.frames,ok.qH,ok.vE,ok.bs,ok.l8,ok.iE,ok.gy,ok.bQ,ok.nG⟩
section
variable {X:Cx} {pins lF:List (Addr×Obj)} {σ:St} {H:Hp} {s:Shared} {A:Around} {E:Value->Shared->Prop}
theorem Inv.mH (I:Inv X pins σ H s) (hf:A.frames=X.A.frames):Inv (X.mH A) pins σ H s:=⟨I.ok.mH hf,I.os,I.bare,I.base,I.loc,I.cell,I.free,I.a_,I.pin,I.ak,I.len⟩
theorem Inv.qE (I:Inv (X.mH A) pins σ H s) (ok:X.Ok):Inv X pins σ H s:=⟨ok,I.os,I.bare,I.base,I.loc,I.cell,I.free,I.a_,I.pin,I.ak,I.len⟩
theorem Inv.fe (I:Inv X pins σ H s) (E:Value->Shared->Prop):Inv (X.fe (X.pn++pins) E) [] σ H s:=
 ⟨I.ok.fe _ _,I.os,I.bare,I.base,I.loc,I.cell,I.free,I.a_,fun p hp=>I.pin p (by rwa [Y0] at hp),I.ak,I.len⟩
theorem Inv.bS (I:Inv (X.fe (X.pn++pins) E) lF σ H s):Inv X pins σ H s:=
 ⟨I.ok.bS,I.os,I.bare,I.base,I.loc,I.cell,I.free,I.a_,fun p hp=>I.pin p (Ya9 _ hp),I.ak,I.len⟩
theorem SP.bS {D:Ends} {f:Flow} {s':Shared} (h:SP (X.fe (X.pn++pins) E) [] D f s'):SP X pins D f s':=by
 cases f with
 | next=>obtain ⟨ar,H',I,q⟩:=h;exact ⟨ar,H',I.bS,q⟩
 | brk=>obtain ⟨ar,H',I,q⟩:=h;exact ⟨ar,H',I.bS,q⟩
 | cont=>obtain ⟨ar,H',I,q⟩:=h;exact ⟨ar,H',I.bS,q⟩
 | ret u=>obtain ⟨v,ar,H',I,r,q⟩:=h;exact ⟨v,ar,H',I.bS,r,q⟩
end
structure E_ (P:Program) (w:World) (outer:List Env) (H H':Hp) (s:Shared) (e:Addr) (cls:Value) (s':Shared):Prop where
 os:s'.os=s.os
 bare:AllBare s'.gens
 un:Un (cg outer) [] H H' s.heap s'.heap
 ex:∃ B a0,Heap.FlyingW B outer e cls a0 s'.heap/\b_ P w H' B/\(∀ b o,s.heap.get? b=some o->H b=none->b ∉ cg outer->B.get? b=some o)/\(∀ b o,s.heap.get? b=some o->b ∉ cg outer->∃ o',B.get? b=some o')
def aw (P:Program) (w:World):mY:=fun outer H s E e s'=>∃ (a:Addr) (cls:Value) (H':Hp),e=.ref a/\E_ P w outer H H' s a cls s'/\E cls none H'
section
variable {X:Cx} {pins:List (Addr×Obj)} {σ:St} {H:Hp} {s:Shared}
theorem ZrY (I:Inv X pins σ H s) (hex:X.ex=[]) {H':Hp} {j8:Heap}
  (kB:∀ b o,s.heap.get? b=some o->H b=none->b ∉ cg X.stack->j8.get? b=some o)
  (tB:∀ b o,s.heap.get? b=some o->b ∉ cg X.stack->∃ o',j8.get? b=some o')
  (sl:∀ b o,b∈X.fs->s.heap.get? b=some o->∃ sl,j8.get? b=some {o with slots:=sl})
  (fr:∀ b o,s.heap.get? b=some o->H b=none->H' b=none)
  (cM:∀ b xs,H b=some (.tup xs)->H' b=some (.tup xs)) (bR:∀ b o u,H b=some (.bf o u)->H' b=some (.bf o u)) (cN:∀ b ps,H b=some (.nc ps)->∃ more,H' b=some (.nc (ps++more))) :
  Un X.fs [] X.aP H' X.ax.heap j8:=by
 have nx:∀ b:Addr,b ∉ X.ex:=fun b z=>by rw [hex] at z;cases z
 have pQ:∀ b o,X.ax.heap.get? b=some o->b ∉ X.fs->b ∉ cg X.stack:=fun b o e hb z=>by
  rcases List.mem_cons.mp (I.cv b z) with q | q
  .have:=Yl e
   rw [q] at this;exact absurd (YD this I.ok.above) (Y8 _)
  .exact hb q
 refine ⟨fun b o e n hb _=>kB b o (I.base.keep b o e n hb (nx b)) (I.base.free b o e n (nx b)) (pQ b o e hb),fun b o e n hb _=>?_,fun b o e n _=>?_,fun b o e _=>?_,fun b xs e=>cM b xs (I.base.cM b xs e),fun b o u e=>bR b o u (I.base.bR b o u e),fun b ps e=>?_⟩
 .obtain ⟨sl1,e1⟩:=I.base.slot b o e n hb (nx b);obtain ⟨lU,e2⟩:=sl b _ hb e1;exact ⟨lU,e2⟩
 .obtain ⟨o',e1⟩:=I.base.there b o e (nx b);exact fr b o' e1 (I.base.free b o e n (nx b))
 .obtain ⟨o',e1⟩:=I.base.there b o e (nx b)
  by_cases hb:b∈X.fs
  .obtain ⟨lU,e2⟩:=sl b _ hb e1;exact ⟨_,e2⟩
  .exact tB b o' e1 (pQ b o e hb)
 .obtain ⟨m1,e1⟩:=I.base.cN b ps e;obtain ⟨m2,e2⟩:=cN b _ e1;exact ⟨m1++m2,by rw [e2,Array.append_assoc]⟩
end
section
variable {P:Program} {w:World} {K:Yg} {mg:Str->Option Value} {base:Heap} {N:List Str} {qual:Str} {scope:Scope} {f:Addr} {cd:Value} {A:Around} {outer:List Env} {ax:Shared} {aP:Hp} {E:XK}
theorem Zs2 {pins:List (Addr×Obj)} {σ:St} {H:Hp} {s:Shared} {h':Heap} {e C:Addr} {vs:List Value}
  (I:Inv (aV (aw P w) P w K mg base N qual scope f cd A outer ax aP E) pins σ H s) (hx:Heap.MadeExcOf s.heap h' e (.ref C) vs) (hE:E (.ref C) none H) :
  (aV (aw P w) P w K mg base N qual scope f cd A outer ax aP E).xe (.ref e) {s with heap:=h'}:=by
 have eL:∀ b∈cg (aV (aw P w) P w K mg base N qual scope f cd A outer ax aP E).stack,H b=none:=I.dB;have Et:∀ env∈(aV (aw P w) P w K mg base N qual scope f cd A outer ax aP E).stack,∀ b,env.frame=some b->b∈cg (aV (aw P w) P w K mg base N qual scope f cd A outer ax aP E).stack:=fun env he b hb=>List.mem_filterMap.mpr ⟨env,he,hb⟩;have hB:∀ b o,s.heap.get? b=some o->b ∉ cg (aV (aw P w) P w K mg base N qual scope f cd A outer ax aP E).stack->(YaY s.heap (cg (aV (aw P w) P w K mg base N qual scope f cd A outer ax aP E).stack)).get? b=some o:=fun b o q hb=>Ybe _ q hb;show wpAny (model P w) (A.deeper (Yae qual scope ax.heap.objs.size f cd)) (leaving (Yae qual scope ax.heap.objs.size f cd) (.ref e)) (fun _ ng=>aw P w outer aP ax E (.ref e) ng) (fun e' ng=>aw P w outer aP ax E e' ng) {s with heap:=h'};refine wpAny_leaves_madeW (s:={s with heap:=h'}) (base:=YaY s.heap (cg (aV (aw P w) P w K mg base N qual scope f cd A outer ax aP E).stack)) (h:=s.heap) (L:=ax.heap.objs.size) (outer:=outer) I.ok.frames rfl (fun b o q=>PySem.W.of_hideAll _ q) (PySem.W.funFrames_hide I.stack Et) hx fun j8 t x1 x2 x3 x4=>?_;have x4':h'.UpToSlots j8:=x4
 have slots:∀ b o,b∈cg outer->s.heap.get? b=some o->∃ sl,j8.get? b=some {o with slots:=sl}:=fun b o hb q=>by
  obtain ⟨_,o',fg,sX⟩:=I.bQ.mem hb;rw [q] at fg
  cases fg
  exact x4' b o (hx.keeps b o q) sX
 refine ⟨e,.ref C,H,rfl,⟨I.os,I.bare,ZrY I rfl (fun b o q _ hb=>x1.1 b o (hB b o q hb)) (fun b o q hb=>⟨o,x1.1 b o (hB b o q hb)⟩) slots (fun _ _ _ n=>n) (fun _ _ z=>z) (fun _ _ _ z=>z) (fun b ps z=>⟨#[],by rw [z];simp⟩),_,_,x1,I.ak.hidden eL,fun b o q n hb=>?_,fun b o q hb=>?_⟩,hE⟩
 .have gc:b ∉ cg (aV (aw P w) P w K mg base N qual scope f cd A outer ax aP E).stack:=fun z=>by
   rcases List.mem_cons.mp (I.cv b z) with q1 | q1
   .have:=Yl q
    rw [q1] at this;exact absurd (YD this I.ok.above) (Y8 _)
   .exact hb q1
  exact hB b o (I.base.keep b o q n hb (fun z=>nomatch z)) gc
 .obtain ⟨o',e1⟩:=I.base.there b o q (fun z=>nomatch z)
  have gc:b ∉ cg (aV (aw P w) P w K mg base N qual scope f cd A outer ax aP E).stack:=fun z=>by
   rcases List.mem_cons.mp (I.cv b z) with q1 | q1
   .have:=Yl q
    rw [q1] at this;exact absurd (YD this I.ok.above) (Y8 _)
   .exact hb q1
  exact ⟨o',hB b o' e1 gc⟩
theorem Zg:nN (aw P w) (aV (aw P w) P w K mg base N qual scope f cd A outer ax aP E) (fun _=>E):=by
 rintro pins σ H s e s' I ⟨a,cls,H',rfl,fl,hE⟩
 obtain ⟨B,a0,d9,ak,kB,tB⟩:=fl.ex;show wpAny (model P w) (A.deeper (Yae qual scope ax.heap.objs.size f cd)) (leaving (Yae qual scope ax.heap.objs.size f cd) (.ref a)) (fun _ ng=>aw P w outer aP ax E (.ref a) ng) (fun e' ng=>aw P w outer aP ax E e' ng) s';refine wpAny_leaves_onW (L:=ax.heap.objs.size) (outer:=outer) I.ok.frames rfl d9 fun j8 x1 x2=>?_
 have sub:∀ b∈cg outer,b∈cg (aV (aw P w) P w K mg base N qual scope f cd A outer ax aP E).stack:=fun b hb=>by
  show b∈List.filterMap (·.frame) (_::outer);rw [Xg];exact Yp _ hb
 have slots:∀ b o,b∈cg outer->s.heap.get? b=some o->∃ sl,j8.get? b=some {o with slots:=sl}:=fun b o hb q=>by
  obtain ⟨_,o',fg,sX⟩:=I.bQ.mem hb;rw [q] at fg
  cases fg
  obtain ⟨sl,e1⟩:=fl.un.slot b o q (I.dB b (sub b hb)) (sub b hb) (fun z=>nomatch z);obtain ⟨lU,e2⟩:=x2 b _ e1 sX;exact ⟨lU,e2⟩
 have pQ:∀ b o,ax.heap.get? b=some o->b ∉ cg outer->b ∉ cg (aV (aw P w) P w K mg base N qual scope f cd A outer ax aP E).stack:=fun b o q hb z=>by
  rcases List.mem_cons.mp (I.cv b z) with q1 | q1
  .have:=Yl q
   rw [q1] at this;exact absurd (YD this I.ok.above) (Y8 _)
  .exact hb q1
 refine ⟨a,cls,H',rfl,⟨fl.os.trans I.os,fl.bare,ZrY I rfl (fun b o q n hb=>x1.1 b o (kB b o q n hb)) (fun b o q hb=>?_) slots (fun b o q n=>fl.un.free b o q n (fun z=>nomatch z)) fl.un.cM fl.un.bR fl.un.cN,B,a0,x1,ak,fun b o q n hb=>?_,fun b o q hb=>?_⟩,hE⟩
 .obtain ⟨o',e1⟩:=tB b o q hb;exact ⟨o',x1.1 b o' e1⟩
 .exact kB b o (I.base.keep b o q n hb (fun z=>nomatch z)) (I.base.free b o q n (fun z=>nomatch z)) (pQ b o q hb)
 .obtain ⟨o',e1⟩:=I.base.there b o q (fun z=>nomatch z);exact tB b o' e1 (pQ b o q hb)
end
structure ZeO (K:Yg) (C:Addr):Prop where
 exc:PySem.W.excIn K C [.type "ValueError",.type "Exception",.type "BaseException",.type "object"] "ValueError.__new__"=true
theorem Zyy {K:Yg} {C:Addr} {bmB:List Value} {newId:String} (q:PySem.W.excIn K C bmB newId=true) :
  ∃ bm N nm qn bs hdct sn sub ab col dd k0 k1 k2 k3 k5,K.lookup C=some (excClassObj nm qn C N bs bm hdct sn sub ab col dd k0 k1 k2 k3 k5 newId)/\PySem.W.nsOkIn K N=true/\PySem.W.nsIn K N "__init__"=some none/\PySem.W.tailIn K bmB bm=true:=by
 unfold PySem.W.excIn at q
 split at q
 .rename_i dd cd sl ho
  split at q
  .rename_i C' bm k0 k1 k2 k3 n k5 hm hs
   simp only [Xz,beq_iff_eq,YaC] at q
   obtain ⟨⟨⟨⟨⟨rfl,rfl⟩,zP⟩,ht⟩,ak⟩,A4⟩:=q;obtain ⟨nm,bs,mro,ns,qn,hd,sn,sub,ab,col,del⟩:=cd;dsimp only at hm zP ak A4;subst hm zP
   have xy:sl=#[k0,k1,k2,k3,some (.builtin n),k5]:=by
    obtain ⟨l⟩:=sl
    simp only at hs
    rw [hs]
   subst xy;exact ⟨bm,ns,nm,qn,bs,hd,sn,sub,ab,col,dd,k0,k1,k2,k3,k5,ho,ak,A4,ht⟩
  .cases q
 .cases q
theorem Zrm {K:Yg} {N:Addr} (q:PySem.W.nsOkIn K N=true):∃ o,K.lookup N=some o:=by
 unfold PySem.W.nsOkIn at q
 split at q
 .rename_i ho
  exact ⟨_,ho⟩
 .cases q
def ZxO (E:XK) (C:Addr) (t:TA):TS:=fun _ σ H=>t σ H fun vs H1=>vs.length<=Yj/\E (.ref C) none H1
section
variable {P:Program} {w:World} {K:Yg} {mg:Str->Option Value} {base:Heap} {N:List Str} {qual:Str} {scope:Scope} {f:Addr} {cd:Value} {A:Around} {outer:List Env} {ax:Shared} {aP:Hp} {E:XK}
theorem ZN {x:Str} {C:Addr} {qD:Expr} {rest:List Expr} {t:TA} {np a8 pos:Pos} (hC:ZeO K C) (hg:Gl (aV (aw P w) P w K mg base N qual scope f cd A outer ax aP E) x) (hm:mg x=some (.ref C))
  (ha:PA (aV (aw P w) P w K mg base N qual scope f cd A outer ax aP E) (qD::rest) t)
  (he:YF (qD::rest) (aV (aw P w) P w K mg base N qual scope f cd A outer ax aP E).env=(false,eval qD (aV (aw P w) P w K mg base N qual scope f cd A outer ax aP E).env)::YF rest (aV (aw P w) P w K mg base N qual scope f cd A outer ax aP E).env:=by rfl)
  (fG:(Wx a8 (YF rest (aV (aw P w) P w K mg base N qual scope f cd A outer ax aP E).env)).any (·.1)=false:=by rfl) (hd:(x == ("__debug__":Str))=false:=by decide) :
  PS (aV (aw P w) P w K mg base N qual scope f cd A outer ax aP E) (.Raise (some (.Call (.Name x np) (qD::rest) [] a8)) none pos) (ZxO E C t):=by
 try unfold PA at *;try unfold PS at *
 intro pins s σ H D I h;obtain ⟨bm,N',nm,q,bs,hdct,sn,sub,ab,col,dd,k0,k1,k2,k3,k5,lk,ak,A4,ht⟩:=Zyy hC.exc;obtain ⟨oN,lkN⟩:=Zrm ak;have hN:s.heap.Ns N' (s.heap.nsMap N'):=.of_isNs (PySem.W.isNs_of_in I.cE ak)
 refine wpAny_Raise_call_subT (C:=C) (nm:=nm) (q:=q) (N:=N') (bs:=bs) (bm:=bm) (hdct:=hdct) (sn:=sn) (sub:=sub) (ab:=ab) (col:=col) (dd:=dd) (k0:=k0) (k1:=k1) (k2:=k2) (k3:=k3) (k5:=k5)
  PySem.F.excBase_ValueError (mN:=s.heap.nsMap N') ((PySem.W.tail_of_in I.cE ht).hasType PySem.F.excBase_ValueError.hasBase) (I.ok.hd rfl) (by rw [he];show (false || (Wx a8 (YF rest _)).any (·.1))=false;rw [fG];rfl) (PySem.W.nsMap_none_of_in I.cE ak A4) (wj I hg hm ⟨rfl,?_⟩ hd)
 have z:=ha a8 pins s σ H _ I h;rw [he] at z ⊢;refine Ybb (az z fun us s1 ⟨vs,H1,I1,r,hv,q1⟩=>⟨rfl,(by rw [<- r.length];exact hv),I1.cE _ _ lk,hN.at' fun o e=>?_,PySem.W.tail_of_in I1.cE ht,fun h' e hx=>Zs2 I1 hx q1⟩);have e2:=I.cE _ _ lkN;rw [e] at e2
 cases e2
 exact I1.cE _ _ lkN
end
end L2
namespace L2
open PySem PySem.Spec PyProof.Rows PySem.W
def rq (a:Addr) (cls:Value) (h:Heap):Prop:=∃ oe vs,h.get? a=some oe/\oe.cls=cls/\oe.data=.fields vs
def uZ (a:Addr) (cls:Value):HO:=.ext (rq a cls)
theorem rq.at {a:Addr} {cls:Value} {h h':Heap} (x:rq a cls h) (k:∀ o,h.get? a=some o->h'.get? a=some o):rq a cls h':=by
 obtain ⟨oe,vs,e,r⟩:=x;exact ⟨oe,vs,k oe e,r⟩
theorem Inv.exc {X:Cx} {pins:List (Addr×Obj)} {σ:St} {H:Hp} {s:Shared} {a:Addr} {cls:Value} (I:Inv X pins σ H s) (e:H a=some (uZ a cls)):rq a cls s.heap:=(I.ak a _ e).1
theorem Inv.Ah {X:Cx} {pins:List (Addr×Obj)} {σ:St} {H:Hp} {s:Shared} {a:Addr} {o:HO} (I:Inv X pins σ H s) (hn:H a=none) (new:bH X.prog X.w (upd H a o) s.heap a o)
  (h0:∀ b u,X.ax.heap.get? b=some u->X.aP b=none->b ∉ X.ex->b≠a) (hL:X.env.locals≠a) (hc:∀ x c,X.env.cells.lookup x=some c->c≠a) (hp:∀ p∈X.pn++pins,p.1≠a):Inv X pins σ (upd H a o) s:=by
 refine ⟨I.ok,I.os,I.bare,⟨I.base.keep,I.base.slot,fun b u e n hx=>?_,I.base.there,fun b xs e=>?_,fun b u v e=>?_,fun b ps e=>?_⟩,I.loc,I.cell,?_,fun x c e=>?_,fun p z=>?_,fun b u e=>?_,I.len⟩
 .rw [Ze (h0 b u e n hx)];exact I.base.free b u e n hx
 .have z:=I.base.cM b xs e;rw [Ze (Zc z hn)];exact z
 .have z:=I.base.bR b u v e;rw [Ze (Zc z hn)];exact z
 .obtain ⟨more,z⟩:=I.base.cN b ps e;exact ⟨more,by rw [Ze (Zc z hn)];exact z⟩
 .rw [Ze hL];exact I.free
 .rw [Ze (hc x c e)];exact I.a_ x c e
 .obtain ⟨z1,z2,z3⟩:=I.pin p z;exact ⟨z1,by rw [Ze (hp p z)];exact z2,z3⟩
 .by_cases hb:b=a
  .subst hb;rw [Zb] at e
   cases e
   exact new
  .rw [Ze hb] at e;exact (I.ak b u e).dA (fun _ _ _ q=>q) (fun c q=>by rw [Ze (Zc q hn)];exact q) fun c xs q=>by rw [Ze (Zc q hn)];exact q
structure Zjx (K:Frag) (D:Addr):Prop where
 ty:typeIn K (.ref D)=some (.type "type")
 cl:(clsIn K D).isSome=true
 ba:subIn K (.ref D) (.type "BaseException")=some true
theorem Zqk {K:Frag} {M:Model} {h:Heap} {D:Addr} (X:K.In h) (hc:(clsIn K D).isSome=true):Looks M h (isType (.ref D)) true:=by
 unfold clsIn at hc
 split at hc
 .rename_i c' d' cd' sl' ho
  intro A' Q' E' s' k q;unfold isType loadHead;exact Ya (wpAny_loadPart (k _ _ (X _ _ ho)) (Ye q))
 .cases hc
theorem ZoL {M:Model} {h:Heap} {a:Addr} {cls:Value} (x:rq a cls h):Looks M h (typeOf (.ref a)) cls:=by
 obtain ⟨oe,vs,e,hc,_⟩:=x;exact hc ▸ (Looks.ld e).andThen .now
theorem ZqD {M:Model} {A:Around} {E:Value->Shared->Prop} {s:Shared} {Q:Bool->Shared->Prop} {K:Frag} {e C D:Addr} {b:Bool} (X:K.In s.heap) (he:rq e (.ref C) s.heap) (hD:Zjx K D) (hs:subIn K (.ref C) (.ref D)=some b) (h:Q b s) :
  wpAny M A (excMatches (.ref e) (.ref D)) Q E s:=by
 obtain ⟨h0,g,d,tt,os⟩:=s;have L1:Looks M h0 (isInstance (.ref D) (.type "tuple")) false:=(looks_typeIn X hD.ty).andThen (Looks.of_pure tc_notTuple);have L2:=Zqk (M:=M) X hD.cl;have L3:=looks_subIn (M:=M) X hD.ba;have L4:=ZoL (M:=M) he;have L5:=looks_subIn (M:=M) X hs;unfold excMatches;refine Ya (L1.at ?_)
 simp only [YY,if_false]
 refine Ya (Ye ?_)
 simp only [Ya0,List.forIn_nil]
 unfold isExcClass;refine Ya (Ya (Ya (Ya (L2.at ?_))))
 simp only [if_true]
 refine L3.at ?_
 simp only [Bool.not_true,YY,if_false]
 refine Ye (Ye ?_);refine Ya (L4.at ?_);refine Ya (Ya (Ya (L5.at ?_)))
 cases b with
 | true=>
  simp only [if_true]
  exact Ye (Ye (Ye h))
 | false=>
  simp only [YY,if_false]
  exact Ye (Ye (Ye h))
def ZyO (X:Cx) (pins:List (Addr×Obj)) (E:St->XK) (e:Value) (s':Shared):Prop:=
 ∃ (a:Addr) (cls:Value) (fE:St) (cO Hc:Hp) (sc:Shared),e=.ref a/\Inv X pins fE Hc sc/\E_ X.prog X.w X.stack Hc cO sc a cls s'/\E fE cls none cO
theorem Zs4 {X:Cx} {pins:List (Addr×Obj)} {E:St->XK}:nN (aw X.prog X.w) (X.fe (X.pn++pins) (ZyO X pins E)) E:=by
 rintro pins1 σ H s e s' I ⟨a,cls,H',rfl,fl,hE⟩
 exact ⟨a,cls,σ,H',H,s,rfl,I.bS,fl,hE⟩
theorem Zqm {X:Cx} {pins:List (Addr×Obj)} {σ:St} {Hc cO:Hp} {sc s':Shared} {a:Addr} {cls:Value} {B:Heap} {a0:Value} {h5:Heap} (I:Inv X pins σ Hc sc) (hex:X.ex=[]) (fl:E_ X.prog X.w X.stack Hc cO sc a cls s')
  (kB:∀ b o,sc.heap.get? b=some o->Hc b=none->b ∉ cg X.stack->B.get? b=some o) (tB:∀ b o,sc.heap.get? b=some o->b ∉ cg X.stack->∃ o',B.get? b=some o') (ak:b_ X.prog X.w cO B)
  (d9:Heap.FlyingW B X.stack a cls a0 h5) (Eg:s'.heap.UpToSlots h5):Inv X pins σ (upd cO a (uZ a cls)) {s' with heap:=h5}/\cO a=none:=by
 have kT:cO a=none:=ak.absent d9.2.1
 have xy:∀ b o,b∈cg X.stack->sc.heap.get? b=some o->∃ sl,h5.get? b=some {o with slots:=sl}:=fun b o hb q=>by
  obtain ⟨_,o',fg,sX⟩:=I.stack.mem hb;rw [q] at fg
  cases fg
  obtain ⟨sl,e1⟩:=fl.un.slot b o q (I.dB b hb) hb (fun z=>nomatch z);obtain ⟨lU,e2⟩:=Eg b _ e1 sX;exact ⟨lU,e2⟩
 have LL:b_ X.prog X.w cO h5:=ak.kept d9.1
 have I5:Inv X pins σ cO {s' with heap:=h5}:=by
  refine I.sk (ch:=[]) (s':={s' with heap:=h5}) fl.os ⟨fun b o e n hb _=>d9.1 b o (kB b o e n hb),fun b o e n hb _=>xy b o hb e,fun b o e n _=>fl.un.free b o e n (fun z=>nomatch z),fun b o e _=>?_,fl.un.cM,fl.un.bR,fl.un.cN⟩ LL fl.bare fun b z=>nomatch z
  by_cases hb:b∈cg X.stack
  .obtain ⟨sl,e1⟩:=xy b o hb e;exact ⟨_,e1⟩
  .obtain ⟨o',e1⟩:=tB b o e hb;exact ⟨o',d9.1 b o' e1⟩
 have pQ:∀ b o,sc.heap.get? b=some o->Hc b=none->b ∉ cg X.stack->b≠a:=fun b o e n hb z=>by
  have:=kB b o e n hb
  rw [z,d9.2.1] at this
  cases this
 obtain ⟨oe,vs,T,oT,ts,he,⟨hc,h0⟩,hd,_⟩:=id d9.2.2.2;have hxo:rq a cls h5:=⟨oe,vs,he,hc,hd⟩
 have ET:∀ b∈X.env.locals::X.fs,b≠a:=fun b hb z=>by
  rcases List.mem_cons.mp hb with q | q
  .obtain ⟨m,⟨o,es,ep,ho,vp,_⟩,_⟩:=I5.loc;have fg:h5.get? X.env.locals=some o:=ho;rw [<- q,z,he] at fg
   cases fg
   rw [hd] at vp
   cases vp
  .obtain ⟨_,o,ho,sX⟩:=I5.bQ.mem q;have fg:h5.get? b=some o:=ho;rw [z,he] at fg
   cases fg
   exact sX vs hd
 have ow:∀ b,b≠X.env.locals->b ∉ X.fs->b ∉ cg X.stack:=fun b h1 h2 z=>(List.mem_cons.mp (I.cv b z)).elim h1 h2;refine ⟨I5.Ah kT ⟨hxo,⟨oe,he⟩,fun h1 h2 x k=>x.at k⟩ (fun b u e n hx=>?_) (ET _ Yw) (fun x c e=>?_) (fun p hp=>?_),kT⟩
 .by_cases hb:b∈X.fs
  .exact ET b (Yp _ hb)
  .exact pQ b u (I.base.keep b u e n hb hx) (I.base.free b u e n hx) (ow b (Yy (YD (Yl e) I.ok.above)) hb)
 .by_cases hb:c∈X.fs
  .exact ET c (Yp _ hb)
  .obtain ⟨v,o,ho,_⟩:=I.cell x c e;exact pQ c o ho (I.a_ x c e) (ow c (I.rm x c e) hb)
 .obtain ⟨e,n,ne,nf,_⟩:=I.pin p hp;exact pQ p.1 p.2 e n (ow p.1 ne nf)
section
variable {P:Program} {w:World} {K:Yg} {mg:Str->Option Value} {base:Heap}
end
theorem aA.okE {P:Program} {w:World} {K:Yg} {mg:Str->Option Value} {base:Heap} {x qual:Str} {st:Stmt} {f:Addr} {fd:Ym} {N ps:List Str} {k:Nat} {sp:Sp} (F:aA K x qual st f fd) (S:Zm N ps (Zi st)) (len:∀ vs H Q E,sp vs H Q E->vs.length=ps.length)
  (jC:∀ (bg:Value) (A:Around) (outer:List Env) (s:Shared) (H:Hp) (vs:List V) (Q:VK) (E:XK),aW k (A.deeper (Yae qual (Zi st) s.heap.objs.size f bg))->sp vs H Q E->
   ∃ t,d7 (aV (aw P w) P w K mg base N qual (Zi st) f bg A outer s H E) (mi st) t/\t {nx:=fun _ H'=>Q .aH H',rt:=Q} (bJ N vs) H):ah P w K mg base (aw P w) (k + 1) f fd ps sp:=by
 obtain ⟨oc,od,kV,doc,pm,an,bg,ct,oQ,rfl,lk,lW⟩:=F.ex;exact Zyx lk lW S len fun A outer s H vs Q E hr oU=>jC bg A outer s H vs Q E hr oU
section
variable {X:Cx} {k:Nat} {f:Addr} {fd:Ym} {ps:List Str} {sp:Sp} {x:Str} {p pos:Pos} {e:Expr} {es:List Expr} {t:TA}
end
end L2
namespace L2
open PySem PySem.Spec PyProof.Rows PySem.W
mutual
inductive Im (H:Hp):V->YO->Prop
 | aH:Im H .aH .none
 | bl (b:Bool):Im H (.bl b) (.bool b)
 | int (i:Int):Im H (.int i) (.int i)
 | str (x:Str):Im H (.str x) (.str x)
 | tup {a:Addr} {xs:List V} {ds:List YO}:H a=some (.tup xs)->dz H xs ds->Im H (.ref a) (.tuple ds)
inductive dz (H:Hp):List V->List YO->Prop
 | nil:dz H [] []
 | cons {x:V} {d:YO} {xs:List V} {ds:List YO}:Im H x d->dz H xs ds->dz H (x::xs) (d::ds)
end
def ZyQ (H H':Hp):Prop:=∀ a xs,H a=some (.tup xs)->H' a=some (.tup xs)
mutual
theorem Im.keep {H H':Hp} (k:ZyQ H H') {x:V} {d:YO} (h:Im H x d):Im H' x d:=by
 cases h with
 | aH=>exact .aH
 | bl b=>exact .bl b
 | int i=>exact .int i
 | str x=>exact .str x
 | tup e r=>exact .tup (k _ _ e) (dz.keep k r)
theorem dz.keep {H H':Hp} (k:ZyQ H H') {xs:List V} {ds:List YO} (h:dz H xs ds):dz H' xs ds:=by
 cases h with
 | nil=>exact .nil
 | cons a r=>exact .cons (Im.keep k a) (dz.keep k r)
end
mutual
theorem Im.reads {X:Cx} {pins:List (Addr×Obj)} {σ:St} {H:Hp} {s:Shared} (I:Inv X pins σ H s) {x:V} {d:YO} (h:Im H x d) {u:Value} (r:RelV x u):∃ as,Reads s.heap u d as:=by
 cases h with
 | aH=>cases (show u=Value.none from r);exact ⟨_,.none⟩
 | bl b=>cases (show u=Value.bool b from r);exact ⟨_,.bool b⟩
 | int i=>obtain ⟨t,z⟩:=(show ∃ t,u=Value.int i t from r);cases z;exact ⟨_,.int i t⟩
 | str y=>obtain ⟨t,z⟩:=(show ∃ t,u=Value.str y t from r);cases z;exact ⟨_,.str y t⟩
 | @tup a xs ds e q=>
  cases (show u=Value.ref a from r)
  obtain ⟨_,its,rv,o,h1,h2,n,h3⟩:=(show bH X.prog X.w H s.heap a (.tup xs) from I.ak a _ e)
  obtain ⟨as,z⟩:=dz.reads I q rv;exact ⟨_,.tuple h1 h2 h3 (by simpa using z)⟩
theorem dz.reads {X:Cx} {pins:List (Addr×Obj)} {σ:St} {H:Hp} {s:Shared} (I:Inv X pins σ H s) {xs:List V} {ds:List YO} (h:dz H xs ds) {us:List Value} (r:Vals xs us):∃ as,ReadsAll s.heap us ds as:=by
 cases h with
 | nil=>cases r;exact ⟨_,.nil⟩
 | cons a q=>
  cases r with
  | cons r1 r2=>
   obtain ⟨as,z1⟩:=Im.reads I a r1;obtain ⟨bs,z2⟩:=dz.reads I q r2;exact ⟨_,.cons z1 z2⟩
end
def Dat (K:Frag) (H:Hp) (x:V) (d:YO):Prop:=Im H x d∨∃ p xs ds,x=.ref p/\d=.list ds/\ay K H p xs/\dz H xs ds
theorem Dat.reads {X:Cx} {pins:List (Addr×Obj)} {σ:St} {H:Hp} {s:Shared} (I:Inv X pins σ H s) {x:V} {d:YO} (h:Dat X.K H x d) {u:Value} (r:RelV x u):∃ as,Reads s.heap u d as:=by
 rcases h with h | ⟨p,xs,ds,rfl,rfl,hp,hi⟩
 .exact h.reads I r
 .cases (show u=Value.ref p from r)
  obtain ⟨its,rv,⟨o,n,e,h1,_,h3⟩,_⟩:=I.list hp;obtain ⟨as,z⟩:=hi.reads I rv;exact ⟨_,.list e h1 h3 (by simpa using z)⟩
section
variable {X:Cx}
end
theorem CQ {d:YO} (h:Xe d=true):PyData.eqv d d=true:=SeqAt.eqv_refl d (SeqAt.canLay_of_shaped h)
theorem Zw0:du X (Ws .Mult) (rI (fun i j=>i.natAbs < 2 ^ 200/\j.natAbs < 2 ^ 200) fun i j=>.int (i * j)):=xg fun i j _ _ _ _ _ hc q=>
 mul_int q (IntMulOk.of_bits (Yn (intBits_le hc.1) (by decide)) (Yn (intBits_le hc.2) (by decide)))
theorem KI:fillsNumberSlot (.type "tuple") "mul"=pure false:=
 PySem.fillsNumberSlot_seq (id:="tuple.__mul__") (r:=some (.builtin "tuple.__rmul__")) F.slot_tuple_mul.lookup (by decide +kernel) F.slot_tuple_rmul.lookup (by decide +kernel)
theorem JU:seqRepeat? (.type "tuple")=pure (some (.builtin "tuple.__mul__")):=by
 unfold seqRepeat?;rw [PySem.seqSlot_of (T:="tuple") (name:="__mul__") (id:="tuple.__mul__") F.slot_tuple_mul.lookup (by decide +kernel),PySem.seqSlot_of (T:="tuple") (name:="__rmul__") (id:="tuple.__rmul__") F.slot_tuple_rmul.lookup (by decide +kernel)];rfl
theorem J1 (a:Int) (t:Tok) (l:Addr) (items:Array Value) (n:Nat) (dd:Option Addr) (sl:Array (Option Value)) :
  Meets (Builtin.«int.__rmul__» ⟨[.int a t,.ref l],[]⟩) (fun _ R s=>s.heap.get? l=some {cls:=.type "tuple",dict:=dd,data:=.seq items n,slots:=sl}/\R (.ok (.ret Value.notImplemented)) s):=
 .of_wp fun prog w A R s h=>by obtain ⟨hp,g,d,tk,os⟩:=s;obtain ⟨hl,h⟩:=h;wp_walk;exact ⟨_,rfl,h⟩
end L2
namespace L2
open PySem PySem.Spec PyProof.Rows PySem.W
theorem ZtM (l:Addr) (items:Array Value) (n:Nat) (dd:Option Addr) (sl:Array (Option Value)) (k:Int) (u:Tok) (bO:items.isEmpty=false) (h1:1 < k) (h2:k < 2 ^ 63) (hsz:items.size * k.toNat<=Yj) :
  Meets (Builtin.«tuple.__mul__» ⟨[.ref l,.int k u],[]⟩) (fun _ R s=>s.heap.get? l=some {cls:=.type "tuple",dict:=dd,data:=.seq items n,slots:=sl}/\
   R (.ok (.ret (.ref s.heap.objs.size))) {s with heap:=s.heap.push {cls:=.type "tuple",data:=.seq ((List.replicate k.toNat items).foldl (fun x1 x2=>x1++x2) #[])}}):=
 .of_wp fun prog w A R s h=>by
  obtain ⟨hp,g,d,tk,os⟩:=s;obtain ⟨hl,h⟩:=h
  have hmul:(items.size:Int) * k=((items.size * k.toNat:Nat):Int):=by
   rw [Int.natCast_mul,Int.toNat_of_nonneg (by omega)]
  have hL:(Yj:Nat)<=2 ^ 40:=by decide
  have tf:¬(decide (k < -2 ^ 63) || decide (k >= 2 ^ 63))=true:=by
   rw [Yaj,decide_eq_true_eq,decide_eq_true_eq];omega
  have lX:¬(items.isEmpty || k == 1)=true:=by
   rw [bO,Bool.false_or,beq_iff_eq];omega
  have nB:¬(decide (k<=0) || items.isEmpty)=true:=by
   rw [bO,Wr,decide_eq_true_eq];omega
  have hc3:¬((items.size:Int) * k > (2 ^ 63 - 1) / 8):=by
   rw [hmul]
   have:(2 ^ 63 - 1:Int) / 8=1152921504606846975:=by decide
   rw [this]
   have:(2:Nat) ^ 40=1099511627776:=by decide
   omega
  have hc4:¬Builtin.Tuple.tupleTooMany ((items.size:Int) * k)=true:=by
   rw [hmul];unfold Builtin.Tuple.tupleTooMany;rw [decide_eq_true_eq];omega
  wp_walk
  rw [if_neg tf]
  wp_walk
  rw [if_neg lX]
  wp_walk
  rw [if_neg nB]
  wp_walk
  rw [if_neg hc3]
  wp_walk
  rw [if_neg hc4]
  have hc5:¬((List.foldl (fun x1 x2=>x1++x2) #[] (List.replicate k.toNat items)).size > Yj):=by
   have e:=GU items.toList k.toNat [];rw [List.nil_append] at e;have e':List.foldl (fun x1 x2=>x1++x2) #[] (List.replicate k.toNat items)=(List.replicate k.toNat items.toList).flatten.toArray:=e;rw [e',Yq,ZuF,YQ,Nat.mul_comm];omega
  wp_walk
  exact ⟨_,rfl,h⟩
def Zx1:R2:=fun x y H Q=>∃ l k xs,x=.ref l/\y=.int k/\H l=some (.tup xs)/\xs≠[]/\1 < k/\k < 2 ^ 63/\xs.length * k.toNat<=Yj/\
 ∀ p,H p=none->Q (.ref p) (upd H p (.tup (List.replicate k.toNat xs).flatten))
section
variable {X:Cx}
theorem Inv.y8 {pins:List (Addr×Obj)} {σ:St} {H:Hp} {s:Shared} {ys:List V} {its:List Value} {t':Nat} (I:Inv X pins σ H s) (hv:Vals ys its) (hz:ys.length<=Yj) :
  Inv X pins σ (upd H s.heap.objs.size (.tup ys)) {s with heap:=s.heap.push {cls:=.type "tuple",data:=.seq its.toArray},toks:=t'}:=
 I.laid (fun _ _ e=>Yc _ e) (Yf _) ⟨hz,its,hv,_,Yh _ rfl,rfl,_,rfl⟩
theorem Zug:du X (Ws .Mult) Zx1:=by
 intro pins s σ H x y v u Q I rx ry h;obtain ⟨l,k,xs,rfl,rfl,hH,bO,h1,h2,hz,q⟩:=h
 cases rx
 obtain ⟨t,rfl⟩:=ry;obtain ⟨z,its,r,o,e,hc,n,hd⟩:=(show bH X.prog X.w H s.heap l (.tup xs) from I.ak l _ hH)
 obtain ⟨cls,dd,data,sl⟩:=o;dsimp only at hc hd;subst hc hd;have hl:xs.length=its.length:=r.length
 have uF:its.toArray.isEmpty=false:=by
  cases its with
  | nil=>cases r;exact absurd rfl bO
  | cons _ _=>rfl
 refine Yaw (T:="tuple") (U:="int") (by decide) ⟨_,e,rfl⟩ (fun s'=>Yat s' k t) KI F.fills_int_mul WO JU F.slot_int_index.lookup
  (XD WO (Yat s k t) F.entry_int_rmul (F.args_int_rmul_2 _ _) (J1 k t l its.toArray n dd sl)
   ⟨e,rfl,⟨_,e,rfl⟩,XD F.slot_tuple_mul ⟨_,e,rfl⟩ F.entry_tuple_mul (Ybj _ _) (ZtM l its.toArray n dd sl k t uF h1 h2 (by rw [Yq,<- hl];exact hz)) ⟨e,?_⟩⟩)
 have LO:(List.replicate k.toNat its.toArray).foldl (fun x1 x2=>x1++x2) #[]=(List.replicate k.toNat its).flatten.toArray:=by
  have:=GU its k.toNat []
  rw [List.nil_append] at this;exact this
 rw [LO];exact ⟨.ref _,_,I.y8 (t':=s.toks) (r.rep k.toNat) (by rw [ZuF,Nat.mul_comm];exact hz),rfl,q _ I.fresh⟩
theorem ZnI {x:V}:∀ {xs:List V} {us:List Value},Vals xs us->xs.all mR=true->us.countP (jg x)=xs.countP fun y=>mL y x
 | _,_,.nil,_=>rfl
 | _,_,.cons (a:=y) (b:=u) r t,h=>by
  rw [YaJ,Xz] at h;rw [List.countP_cons,List.countP_cons,ZnI t h.2,Fw r h.1]
inductive kL (K:Frag) (x:V) (vs:List V) (H:Hp) (Q:VK):Prop
 | mk (l:_) (xs:_) (y:_):x=.ref l->vs=[y]->ay K H l xs->mR y=true->xs.all mR=true->Q (.int (xs.countP fun z=>mL z y:Nat)) H->kL K x vs H Q
theorem Zsf:pJ X "list.count" (kL X.K):=by
 intro pins s σ H x xs v us Q I rx rs h;obtain ⟨l,ys,y,rfl,rfl,hl,fy,fa,q⟩:=h
 cases rx
 obtain ⟨u,rfl,ru⟩:=rs.one;obtain ⟨its,rv,⟨o,n,e,hc,_,hd⟩,_⟩:=I.list hl;obtain ⟨cls,dd,data,sl⟩:=o;dsimp only at hc hd;subst hc hd;refine XD F.slot_list_count ⟨_,e,rfl⟩ F.entry_list_count (F.args_list_count_2 _ _) (SeqAt.list_countAt l its.toArray n dd sl u (jg y)) ⟨e,fun z hz=>wx ru fy rv fa z (by simpa using hz),?_⟩;refine ⟨.int _,H,I.tok _,⟨_,rfl⟩,?_⟩;rw [ZnI rv fa];exact q
end
structure ZwC (K:Frag) (C:Addr):Prop where
 ga:findIn K (.ref C) "__getattribute__"=some (some (.builtin "BaseException.__getattribute__"))
 gh:findIn K (.ref C) "__getattr__"=some none
 cc:findIn K (.ref C) "__class__"=some (some (.builtin "object.__class__"))
 ob:mroIn K C (.type "object")=some true
 ba:mroIn K C (.type "BaseException")=some true
 cl:(clsIn K C).isSome=true
 gg:specialIn K (.builtin "object.__class__") "__get__"=some (some (.builtin "getset_descriptor.__get__"))
 tk:takesIn K (.builtin "object.__class__")=some true
section
variable {prog:Program} {w:World} {A:Around} {E:Value->Shared->Prop} {s:Shared} {K:Frag} {x C:Addr}
end
end L2
namespace L2
open PySem PySem.Spec PyProof.Rows PySem.W
section
variable {prog:Program} {w:World} {A:Around} {E:Value->Shared->Prop} {s:Shared} {K:Frag} {x C:Addr}
end
end L2
namespace L2
open PySem PySem.Spec PyProof.Rows PySem.W
section
variable {X:Cx} {pins:List (Addr×Obj)} {σ:St} {H:Hp} {s:Shared}
end
section
variable {prog:Program} {w:World} {A:Around} {E:Value->Shared->Prop} {s:Shared} {K:Frag} {x C t0:Addr}
end
def vK (sep:Str):List Str->Str
 | [p]=>p
 | l=>Builtin.Str.glued sep l
theorem ZtV:∀ {xs:List Str} {us:List Value},Vals (xs.map V.str) us->∃ l:List (Str×Tok),us=strValues l/\l.map (·.1)=xs
 | [],_,r=>by cases r;exact ⟨[],rfl,rfl⟩
 | x::xs,_,r=>by
  cases r with
  | cons h t=>
   obtain ⟨tk,rfl⟩:=h;obtain ⟨l,rfl,e⟩:=ZtV t;exact ⟨(x,tk)::l,rfl,by rw [Yx,e]⟩
inductive rJoin (K:Frag) (x:V) (vs:List V) (H:Hp) (Q:VK):Prop
 | mk (sep:_) (l:_) (xs:_):x=.str sep->vs=[.ref l]->ay K H l (xs.map V.str)->Builtin.Str.tooLong (xs.toArray.foldl (· + ·.length + sep.length) 0)=false->(Builtin.Str.glued sep xs).length<=Yj->Q (.str (vK sep xs)) H->rJoin K x vs H Q
theorem ZvO {X:Cx}:pJ X "str.join" (rJoin X.K):=by
 intro pins s σ H x xs v us Q I rx rs h;obtain ⟨sep,l,ys,rfl,rfl,hl,hz,hg,q⟩:=h;obtain ⟨t,rfl⟩:=rx;obtain ⟨u,rfl,ru⟩:=rs.one
 cases (show u=Value.ref l from ru)
 obtain ⟨its,rv,⟨o,n,e,hc,_,hd⟩,_⟩:=I.list hl;obtain ⟨ps,rfl,e2⟩:=ZtV rv;subst e2;refine XD F.slot_str_join (WB s sep t) F.entry_str_join (F.args_str_join_2 _ _) (meets_str_join_list sep t l ps hz) ⟨⟨o,e,hc,n,hd⟩,?_⟩
 match ps with
 | []=>exact ⟨hg,.str _,H,I.tok _,⟨_,rfl⟩,q⟩
 | [p]=>exact ⟨.str _,H,I,⟨_,rfl⟩,q⟩
 | p::p'::r=>exact ⟨hg,.str _,H,I.tok _,⟨_,rfl⟩,q⟩
def ZyZ (K:Frag) (D:Addr) (tb:(St->XK)->TS) (th:TS):TS:=fun D' σ H=>
 tb (fun fE cls _ cO=>∃ C,cls=.ref C/\subIn K (.ref C) (.ref D)=some true/\∀ a,cO a=none->th D' fE (upd cO a (uZ a (.ref C)))) D' σ H
theorem FI {X:Cx} {body rV:List Stmt} {zZ:Stmt} {x:Str} {np zG pos:Pos} {D:Addr} {tb:(St->XK)->TS} {th:TS} (gc:X.stack=X.env::X.outer) (vm:X.env.frame=some X.env.locals) (hex:X.ex=[]) (hgx:Gl X x) (hmx:X.mg x=some (.ref D)) (hD:Zjx X.K D)
  (hb:∀ pn E' E,nN (aw X.prog X.w) (X.fe pn E') E->d7 (X.fe pn E') body (tb E))
  (hh:∀ a,d7 (X.mH (X.A.mark (some (.ref a)))).u5 (zZ::rV) th) (nA:(x == ("__debug__":Str))=false:=by decide) :
  PS X (.Try body [.ExceptHandler (some (.Name x np)) none (zZ::rV) zG] [] [] pos) (ZyZ X.K D tb th):=by
 try unfold PS at *;try unfold d7 at *
 intro pins s σ H D' I h;refine wpAny_Try_except (Xa (hb _ _ _ Zs4 [] s σ H D' (I.fe (ZyO X pins _)) h) (fun f s1 q=>?_) fun e s1 q=>?_)
 .have q':=SP.bS q
  cases f with
  | next=>exact Yag q'
  | brk=>exact q'
  | cont=>exact q'
  | ret u=>exact q'
 .obtain ⟨a,cls,fE,cO,Hc,sc,rfl,Ic,fl,C,rfl,mr,hE⟩:=q;obtain ⟨B,a0,d9,ak,kB,tB⟩:=fl.ex;have LQ:X.A.frames=some (X.env::X.outer):=by rw [<- gc];exact Ic.ok.frames
  rw [gc] at d9;refine wpAny_looks_onW LQ vm d9 fun h4 As DL=>?_;refine wpAny_landsW As fun h5 fl5 sm5=>?_;have zf:=DL.trans sm5;have Mb:Heap.FlyingW B X.stack a (.ref C) a0 h5:=by rw [gc];exact fl5
  obtain ⟨I5,kT⟩:=Zqm Ic hex fl kB tB ak Mb zf;have I5h:Inv (X.mH (X.A.mark (some (.ref a)))) pins fE (upd cO a (uZ a (.ref C))) {s1 with heap:=h5}:=I5.mH rfl;refine wpAny_handleBy_cons (codeAny_handlers_test (wj (X:=X.mH (X.A.mark (some (.ref a)))) I5h hgx hmx ?_ nA)) (by intro z;cases z);refine ZqD I5.cE (I5.exc Zb) hD mr ?_;show codeAny _ _ _ _ _;refine codeAny_handlers_suite ?_;refine lands_againW fl5 fun h6 fl6 sm6=>?_;have Ma:Heap.FlyingW B X.stack a (.ref C) a0 h6:=by rw [gc];exact fl6
  obtain ⟨I6,_⟩:=Zqm Ic hex fl kB tB ak Ma (zf.trans sm6);have I6h:Inv (X.mH (X.A.mark (some (.ref a)))).u5 pins fE (upd cO a (uZ a (.ref C))) {s1 with heap:=h6}:=(I6.mH (A:=X.A.mark (some (.ref a))) rfl).fz _;refine Xa (hh a pins _ _ _ _ I6h (hE a kT)) (fun f s8 q8=>?_) fun _ _ z=>z.elim
  cases f with
  | next=>obtain ⟨j5,H8,I8,q9⟩:=q8;exact ⟨j5,H8,I8.bp.qE I.ok,q9⟩
  | brk=>obtain ⟨j5,H8,I8,q9⟩:=q8;exact ⟨j5,H8,I8.bp.qE I.ok,q9⟩
  | cont=>obtain ⟨j5,H8,I8,q9⟩:=q8;exact ⟨j5,H8,I8.bp.qE I.ok,q9⟩
  | ret u=>obtain ⟨v8,j5,H8,I8,r8,q9⟩:=q8;exact ⟨v8,j5,H8,I8.bp.qE I.ok,r8,q9⟩
def jz (K:Frag) (H:Hp) (x:V) (d:YO):Prop:=Dat K H x d∨∃ a xs ds,x=.ref a/\d=.tuple ds/\av K H a xs/\dz H xs ds
theorem jz.reads {X:Cx} {pins:List (Addr×Obj)} {σ:St} {H:Hp} {s:Shared} (I:Inv X pins σ H s) {x:V} {d:YO} (h:jz X.K H x d) {u:Value} (r:RelV x u):∃ as,Reads s.heap u d as:=by
 rcases h with h | ⟨p,xs,ds,rfl,rfl,hp,hi⟩
 .exact h.reads I r
 .cases (show u=Value.ref p from r)
  obtain ⟨its,rv,⟨o,e,h1,n,h3⟩,_⟩:=I.tuple hp;obtain ⟨as,z⟩:=hi.reads I rv;exact ⟨_,.tuple e h1 h3 (by simpa using z)⟩
inductive zq (K:Frag) (x:V) (y:V) (H:Hp) (Q:VK):Prop
 | mk (d:_) (e:_):jz K H x d->jz K H y e->Xe d=true->Xe e=true->Q (.bl (PyData.eqv d e)) H->zq K x y H Q
inductive zj (K:Frag) (x:V) (y:V) (H:Hp) (Q:VK):Prop
 | mk (d:_) (e:_):jz K H x d->jz K H y e->Xe d=true->Xe e=true->Q (.bl (!PyData.eqv d e)) H->zj K x y H Q
theorem Zwr {X:Cx} (hu:X.A.units + 64 < cLine):du X (XE .Eq) (zq X.K):=by
 intro pins s σ H x y v u Q I rx ry h;obtain ⟨d,e,hd,he,sd,se,q⟩:=h;obtain ⟨as,z1⟩:=hd.reads I rx;obtain ⟨bs,z2⟩:=he.reads I ry;exact eq_dataH z1 z2 sd se hu ⟨.bl _,H,I,rfl,q⟩
theorem Zwp {X:Cx} (hu:X.A.units + 64 < cLine):du X (XE .NotEq) (zj X.K):=by
 intro pins s σ H x y v u Q I rx ry h;obtain ⟨d,e,hd,he,sd,se,q⟩:=h;obtain ⟨as,z1⟩:=hd.reads I rx;obtain ⟨bs,z2⟩:=he.reads I ry;exact ne_dataH z1 z2 sd se hu ⟨.bl _,H,I,rfl,q⟩
theorem e_ {P:Program} {w:World} {X:Cx}:nN (aw P w) X (fun _=>E0):=fun _ _ _ _ _ _ _ ⟨_,_,_,_,_,z⟩=>z.elim
theorem Zk {H:Hp} {p:Addr} {o:HO} (h:H p=none):af H (upd H p o):=fun b u e=>by rw [Ze (Zc e h)];exact e
end L2
namespace L2
open PySem PySem.Spec PyProof.Rows
section
variable {κ:Type} [DecidableEq κ]
def aY (kvs:List (κ×V)) (k:κ):Option V:=(kvs.find? fun kv=>decide (kv.1=k)).map (·.2)
def putK (kvs:List (κ×V)) (k:κ) (v:V):List (κ×V):=
 if (kvs.any fun kv=>decide (kv.1=k))=true then kvs.map (fun kv=>if kv.1=k then (kv.1,v) else kv) else kvs++[(k,v)]
theorem mm {p:κ×V} {r:List (κ×V)} {k:κ} (e:p.1=k):aY (p::r) k=some p.2:=by simp [aY,X3,e]
theorem lD {p:κ×V} {r:List (κ×V)} {k:κ} (e:¬ p.1=k):aY (p::r) k=aY r k:=by simp [aY,X3,e]
theorem wB (k:κ):∀ kvs:List (κ×V),(kvs.any fun kv=>decide (kv.1=k))=(aY kvs k).isSome
 | []=>rfl
 | p::r=>by
  rw [WJ]
  by_cases e:p.1=k
  .simp only [mm e,decide_eq_true e,Bool.true_or,Option.isSome_some]
  .rw [lD e,decide_eq_false e,Bool.false_or];exact wB k r
theorem ZrX (k j:κ) (y:V):∀ kvs:List (κ×V),aY (kvs.map fun kv=>if kv.1=k then (kv.1,y) else kv) j=(aY kvs j).map fun x=>if j=k then y else x
 | []=>rfl
 | p::r=>by
  have ih:=ZrX k j y r;rw [Yx]
  by_cases h:p.1=k
  .rw [if_pos h]
   by_cases e:p.1=j
   .rw [mm (p:=(p.1,y)) e,mm e,Xm,if_pos (e.symm.trans h)]
   .rw [lD (p:=(p.1,y)) e,lD e,ih]
  .rw [if_neg h]
   by_cases e:p.1=j
   .rw [mm (p:=p) e,mm e,Xm,if_neg (fun z=>h (e.trans z))]
   .rw [lD (p:=p) e,lD e,ih]
theorem Zpr (k j:κ) (y:V):∀ kvs:List (κ×V),aY kvs k=none->aY (kvs++[(k,y)]) j=if j=k then some y else aY kvs j
 | [],_=>by
  by_cases e:k=j
  .rw [if_pos e.symm];exact mm (p:=(k,y)) e
  .rw [if_neg (fun z=>e z.symm)];exact lD (p:=(k,y)) e
 | p::r,hn=>by
  rw [List.cons_append];have hk:¬ p.1=k:=fun z=>by rw [mm z] at hn;cases hn
  rw [lD hk] at hn;have ih:=Zpr k j y r hn
  by_cases e:p.1=j
  .rw [mm e,mm e,if_neg (fun z=>hk (e.trans z))]
  .rw [lD e,lD e,ih]
theorem ZrW (kvs:List (κ×V)) (k j:κ) (y:V):aY (putK kvs k y) j=if j=k then some y else aY kvs j:=by
 unfold putK
 by_cases a:(kvs.any fun kv=>decide (kv.1=k))=true
 .rw [if_pos a,ZrX];rw [wB] at a
  by_cases e:j=k
  .obtain ⟨x,hx⟩:=Option.isSome_iff_exists.mp a;rw [if_pos e,e,hx,Xm,if_pos rfl]
  .rw [if_neg e]
   cases aY kvs j with
   | none=>rfl
   | some x=>rw [Xm,if_neg e]
 .rw [if_neg a];refine Zpr k j y kvs ?_;rw [wB] at a
  cases q:aY kvs k with
  | none=>rfl
  | some x=>rw [q] at a;exact (a rfl).elim
theorem CC (kvs:List (κ×V)) (k:κ) (v:V):(putK kvs k v).length<=kvs.length + 1:=by
 unfold putK
 split
 .rw [Yb];omega
 .rw [Yd,Yv,WN];omega
theorem cj.bL {o:Option V} {u:Option Value} (r:cj o u):o.isSome=u.isSome:=by
 cases o with
 | none=>cases u with
  | none=>rfl
  | some _=>exact (show False from r).elim
 | some _=>cases u with
  | none=>exact (show False from r).elim
  | some _=>rfl
theorem cj.getD {o:Option V} {u:Option Value} {d:V} {d':Value} (r:cj o u) (rd:RelV d d'):RelV (o.getD d) (u.getD d'):=by
 cases o with
 | none=>cases u with
  | none=>exact rd
  | some _=>exact (show False from r).elim
 | some _=>cases u with
  | none=>exact (show False from r).elim
  | some _=>exact r
theorem KV.val {kvs:List (κ×V)} {vs:List (κ×Value)} (r:KV kvs vs) (k:κ):cj (aY kvs k) (valueAt vs k):=by
 unfold KV at r
 induction r with
 | nil=>exact XZ
 | @cons p q ps qs h t ih=>
  obtain ⟨h1,h2⟩:=h
  by_cases e:p.1=k
  .have e':q.1=k:=h1.symm.trans e;have b:valueAt (q::qs) k=some q.2:=by simp [valueAt,X3,e']
   rw [mm e,b];exact h2
  .have e':¬ q.1=k:=fun z=>e (h1.trans z);have b:valueAt (q::qs) k=valueAt qs k:=by simp [valueAt,X3,e']
   rw [lD e,b];exact ih
theorem KV.any {kvs:List (κ×V)} {vs:List (κ×Value)} (r:KV kvs vs) (k:κ):(kvs.any fun kv=>decide (kv.1=k))=vs.any fun kv=>decide (kv.1=k):=by
 unfold KV at r
 induction r with
 | nil=>rfl
 | cons h t ih=>rw [WJ,WJ,ih,h.1]
theorem KV.mq {kvs:List (κ×V)} {vs:List (κ×Value)} (r:KV kvs vs) (k:κ) {y:V} {u:Value} (ry:RelV y u) :
  KV (kvs.map fun kv=>if kv.1=k then (kv.1,y) else kv) (vs.map fun kv=>if kv.1=k then (kv.1,u) else kv):=by
 unfold KV at r ⊢
 induction r with
 | nil=>exact .nil
 | @cons p q ps qs h t ih=>
  rw [Yx,Yx];refine .cons ?_ ih;obtain ⟨h1,h2⟩:=h
  by_cases e:p.1=k
  .rw [if_pos e,if_pos (h1.symm.trans e)];exact ⟨h1,ry⟩
  .rw [if_neg e,if_neg (fun z=>e (h1.trans z))];exact ⟨h1,h2⟩
theorem KV.put {kvs:List (κ×V)} {vs:List (κ×Value)} (r:KV kvs vs) (k:κ) {y:V} {u:Value} (ry:RelV y u):KV (putK kvs k y) (stored vs k u):=by
 unfold putK stored;rw [r.any k]
 by_cases e:(vs.any fun kv=>decide (kv.1=k))=true
 .rw [if_pos e,if_pos e];exact r.mq k ry
 .rw [if_neg e,if_neg e];exact YaE r ⟨rfl,ry⟩
theorem KV.keys {kvs:List (κ×V)} {vs:List (κ×Value)} (r:KV kvs vs):kvs.map (·.1)=vs.map (·.1):=by
 unfold KV at r
 induction r with
 | nil=>rfl
 | cons h t ih=>rw [Yx,Yx,ih,h.1]
theorem KV.length {kvs:List (κ×V)} {vs:List (κ×Value)} (r:KV kvs vs):kvs.length=vs.length:=Xk r
end
theorem tJ {P:Program} {w:World} {k:Key} {u:Value} (r:RelV (kV k) u):(ZW P w).is k u=true:=by
 cases k with
 | inl i=>obtain ⟨t,e⟩:=(show ∃ t,u=Value.int i t from r);subst e;exact Zrp P w i t
 | inr x=>obtain ⟨t,e⟩:=(show ∃ t,u=Value.str x t from r);subst e;exact Zro P w x t
theorem Zqp {P:Program} {w:World}:∀ {ks:List Key} {us:List Value},Vals (ks.map kV) us->ItemsAre (ZW P w) ks us
 | [],_,r=>by rw [List.map_nil] at r;cases r;exact .nil
 | k::ks,_,r=>by
  rw [Yx] at r
  cases r with
  | cons h t=>exact .cons (tJ h) (Zqp t)
abbrev KT (H:Hp):List (List Key×V)->List (List Key×Addr×Value)->Prop:=Wg fun p q=>p.1=q.1/\H q.2.1=some (.tup (p.1.map kV))/\RelV p.2 q.2.2
theorem KT.val {H:Hp} {kvs:List (List Key×V)} {xs:List (List Key×Addr×Value)} (r:KT H kvs xs) (k:List Key):cj (aY kvs k) ((atKey xs k).map (·.2)):=by
 induction r with
 | nil=>exact XZ
 | @cons p q ps qs h t ih=>
  obtain ⟨h1,_,h2⟩:=h
  by_cases e:p.1=k
  .have e':q.1=k:=h1.symm.trans e;have b:atKey (q::qs) k=some q.2:=by simp [atKey,X3,e']
   rw [mm e,b];exact h2
  .have e':¬ q.1=k:=fun z=>e (h1.trans z);have b:atKey (q::qs) k=atKey qs k:=by simp [atKey,X3,e']
   rw [lD e,b];exact ih
theorem KT.mq {H:Hp} {kvs:List (List Key×V)} {xs:List (List Key×Addr×Value)} (r:KT H kvs xs) (k:List Key) {y:V} {u:Value} (ry:RelV y u) :
  KT H (kvs.map fun kv=>if kv.1=k then (kv.1,y) else kv) (xs.map (putAt k u)):=by
 induction r with
 | nil=>exact .nil
 | @cons p q ps qs h t ih=>
  rw [Yx,Yx];refine .cons ?_ ih;obtain ⟨h1,h2,h3⟩:=h;unfold putAt
  by_cases e:p.1=k
  .rw [if_pos e,if_pos (h1.symm.trans e)];exact ⟨h1,h2,ry⟩
  .rw [if_neg e,if_neg (fun z=>e (h1.trans z))];exact ⟨h1,h2,h3⟩
theorem KT.put {H:Hp} {kvs:List (List Key×V)} {xs:List (List Key×Addr×Value)} (r:KT H kvs xs) (k:List Key) {b:Addr} {y:V} {u:Value} (hb:H b=some (.tup (k.map kV))) (ry:RelV y u) :
  KT H (putK kvs k y) (storedH xs k b u):=by
 have e:(kvs.any fun kv=>decide (kv.1=k))=(atKey xs k).isSome:=by
  rw [wB,(r.val k).bL,WY]
 unfold putK storedH;rw [e]
 by_cases q:(atKey xs k).isSome=true
 .rw [if_pos q,if_pos q];exact r.mq k ry
 .rw [if_neg q,if_neg q];exact YaE r ⟨rfl,hb,ry⟩
theorem KT.keeps {H H':Hp} {kvs:List (List Key×V)} {xs:List (List Key×Addr×Value)} (r:KT H kvs xs) (ht:∀ b ys,H b=some (.tup ys)->H' b=some (.tup ys)):KT H' kvs xs:=
 Paired.uq r fun _ _ z=>⟨z.1,ht _ _ z.2.1,z.2.2⟩
section
variable {P:Program} {w:World} {H:Hp} {h:Heap} {a:Addr}
theorem Fb {u:HO} (ok:b_ P w H h) (e:Rd H a u):bH P w H h a u:=e.ok ok
theorem me {kvs:List (Key×V)} (ok:b_ P w H h) (e:Rd H a (.dK kvs)):kvs.length<=Yj/\(a == Xw)=false/\∃ vs,KV kvs vs/\h.DictOf (ZW P w) a vs:=
 show bH P w H h a (.dK kvs) from Fb ok e
theorem ZyB {kvs:List (Key×V)} (ok:b_ P w H h) (e:H a=some (.dK kvs)):kvs.length<=Yj/\(a == Xw)=false/\∃ vs,KV kvs vs/\h.DictOf (ZW P w) a vs:=me ok (.inl e)
theorem v_ {ks:List Key} (ok:b_ P w H h) (e:H a=some (.tup (ks.map kV))):(WU (ZW P w)).is h ks a:=by
 obtain ⟨_,its,r,o,h1,h2,n,h3⟩:=(show bH P w H h a (.tup (ks.map kV)) from ok a _ e)
 exact ⟨o,its.toArray,n,h1,h2,h3,by simpa using Zqp r⟩
theorem tP {kvs:List (List Key×V)} (ok:b_ P w H h) (e:Rd H a (.dT kvs)):kvs.length<=Yj/\(a == Xw)=false/\
  ∃ xs,KT H kvs xs/\h.DictOfH (WU (ZW P w)) a xs:=by
 obtain ⟨z,y,xs,r,o,es,ep,h1,h2,h3,h4,h5⟩:=(show bH P w H h a (.dT kvs) from Fb ok e)
 refine ⟨z,y,xs,r,o,es,ep,h1,h2,h3,h4,fun x hx=>?_,h5⟩
 have all:∀ {l:List (List Key×V)} {m:List (List Key×Addr×Value)},KT H l m->∀ x∈m,(WU (ZW P w)).is h x.1 x.2.1:=by
  intro l m q
  induction q with
  | nil=>intro x hx;exact nomatch hx
  | @cons p q ps qs hq t ih=>
   intro x hx;rcases List.mem_cons.mp hx with e | hx
   .subst e;exact v_ ok (by rw [<- hq.1];exact hq.2.1)
   .exact ih x hx
 exact all r x hx
theorem Zzm {kvs:List (List Key×V)} (ok:b_ P w H h) (e:H a=some (.dT kvs)):kvs.length<=Yj/\(a == Xw)=false/\
  ∃ xs,KT H kvs xs/\h.DictOfH (WU (ZW P w)) a xs:=tP ok (.inl e)
end
def aE (H:Hp) (a:Addr) (y:V) (r:Option V):Prop:=
 (∃ kvs k,Rd H a (.dK kvs)/\y=kV k/\r=aY kvs k)∨∃ kvs k b,Rd H a (.dT kvs)/\y=.ref b/\H b=some (.tup (k.map kV))/\r=aY kvs k
def ck (H:Hp) (a:Addr) (y v:V) (H':Hp):Prop:=
 (∃ kvs k,H a=some (.dK kvs)/\y=kV k/\kvs.length < Yj/\H'=upd H a (.dK (putK kvs k v)))∨
 ∃ kvs k b,H a=some (.dT kvs)/\y=.ref b/\H b=some (.tup (k.map kV))/\kvs.length < Yj/\H'=upd H a (.dT (putK kvs k v))
theorem aE.k {H:Hp} {a:Addr} {kvs:List (Key×V)} {k:Key} (e:H a=some (.dK kvs)):aE H a (kV k) (aY kvs k):=.inl ⟨kvs,k,.inl e,rfl,rfl⟩
theorem aE.t {H:Hp} {a b:Addr} {kvs:List (List Key×V)} {k:List Key} (e:H a=some (.dT kvs)) (eb:H b=some (.tup (k.map kV))):aE H a (.ref b) (aY kvs k):=.inr ⟨kvs,k,b,.inl e,rfl,eb,rfl⟩
theorem ck.k {H:Hp} {a:Addr} {kvs:List (Key×V)} {k:Key} {v:V} (e:H a=some (.dK kvs)) (hl:kvs.length < Yj):ck H a (kV k) v (upd H a (.dK (putK kvs k v))):=.inl ⟨kvs,k,e,rfl,hl,rfl⟩
theorem ck.t {H:Hp} {a b:Addr} {kvs:List (List Key×V)} {k:List Key} {v:V} (e:H a=some (.dT kvs)) (eb:H b=some (.tup (k.map kV))) (hl:kvs.length < Yj) :
  ck H a (.ref b) v (upd H a (.dT (putK kvs k v))):=.inr ⟨kvs,k,b,e,rfl,eb,hl,rfl⟩
section
variable {X:Cx} {pins:List (Addr×Obj)} {σ:St} {H:Hp} {s:Shared} {a:Addr} {y v:V} {u r:Value} {o:Option V} {A:Around} {E:Value->Shared->Prop}
theorem Inv.big (I:Inv X pins σ H s):Xw < s.heap.objs.size:=by
 have h:X7 < s.heap.objs.size:=(I.mod.glob.keeps I.bk).lt;exact Nat.lt_trans (by decide) h
theorem Zu8 {Q:Value->Shared->Prop} (hu:A.units + 1 < cLine) (I:Inv X pins σ H s) (g:aE H a y (some v)) (ry:RelV y u) (h:∀ w' s',Inv X pins σ H s'->RelV v w'->Q w' s') :
  wpAny (model X.prog X.w) A (getItem (.ref a) u) Q E s:=by
 rcases g with ⟨kvs,k,e,ey,l⟩ | ⟨kvs,k,b,e,ey,eb,l⟩
 .subst ey;obtain ⟨z,hd,vs,rel,dd⟩:=me I.ak e;obtain ⟨w',hw,nh⟩:=cj.some_of (v:=v) (o:=valueAt vs k) (by rw [l];exact rel.val k);exact wpAny_getItem_of (tJ ry) dd.mapOf hw (h w' _ (I.tok _) nh)
 .subst ey
  cases (show u=Value.ref b from ry)
  obtain ⟨z,hd,xs,rel,dd⟩:=tP I.ak e;obtain ⟨w',hw,nh⟩:=cj.some_of (v:=v) (o:=(atKey xs k).map (·.2)) (by rw [l];exact rel.val k);obtain ⟨p,hp,oY⟩:=Option.map_eq_some_iff.mp hw;refine wpAny_getItem_heap (WS hu) (v_ I.ak eb) dd hp ?_;rw [oY];exact h w' _ (I.tok _) nh
theorem Me {Q:Value->Shared->Prop} (hu:A.units + 1 < cLine) (I:Inv X pins σ H s) (g:aE H a y o) (ry:RelV y u) (h:∀ s',Inv X pins σ H s'->Q (.bool o.isSome) s') :
  wpAny (model X.prog X.w) A (XE .In u (.ref a)) Q E s:=by
 rcases g with ⟨kvs,k,e,ey,l⟩ | ⟨kvs,k,b,e,ey,eb,l⟩
 .subst ey;obtain ⟨z,hd,vs,rel,dd⟩:=me I.ak e;refine wpAny_in_of (tJ ry) hd dd.mapOf ?_;rw [<- (rel.val k).bL,<- l];exact h _ (I.tok _)
 .subst ey
  cases (show u=Value.ref b from ry)
  obtain ⟨z,hd,xs,rel,dd⟩:=tP I.ak e;refine wpAny_in_heap (WS hu) (v_ I.ak eb) hd dd ?_;have q:=(rel.val k).bL;rw [WY] at q;rw [<- q,<- l];exact h _ (I.tok _)
theorem Zxr {Q:Value->Shared->Prop} (hu:A.units + 1 < cLine) (I:Inv X pins σ H s) (g:aE H a y o) (ry:RelV y u) (h:∀ s',Inv X pins σ H s'->Q (.bool (!o.isSome)) s') :
  wpAny (model X.prog X.w) A (XE .NotIn u (.ref a)) Q E s:=by
 rcases g with ⟨kvs,k,e,ey,l⟩ | ⟨kvs,k,b,e,ey,eb,l⟩
 .subst ey;obtain ⟨z,hd,vs,rel,dd⟩:=me I.ak e;refine wpAny_notIn_of (tJ ry) hd dd.mapOf ?_;rw [<- (rel.val k).bL,<- l];exact h _ (I.tok _)
 .subst ey
  cases (show u=Value.ref b from ry)
  obtain ⟨z,hd,xs,rel,dd⟩:=tP I.ak e;refine wpAny_notIn_heap (WS hu) (v_ I.ak eb) hd dd ?_;have q:=(rel.val k).bL;rw [WY] at q;rw [<- q,<- l];exact h _ (I.tok _)
theorem FO {h':Heap} {t':Nat} {ob:HO} (I:Inv X pins σ H s) (mu:yW (H a)) (hs:Xv a s.heap h') (he:∃ q,h'.get? a=some q) (new:bH X.prog X.w (upd H a ob) h' a ob) :
  Inv X pins σ (upd H a ob) {s with heap:=h',toks:=t'}:=
 I.write (x:=a) (e:=a) mu (.inl rfl) (fun b q hb z=>(hs.2 b hb).trans z) he new
theorem Fu {P:Program} {w:World} {H':Hp} {h':Heap} {kvs:List (Key×V)} {vs:List (Key×Value)} (z:kvs.length<=Yj) (hd:(a == Xw)=false) (rel:KV kvs vs) (dd:h'.DictOf (ZW P w) a vs) :
  bH P w H' h' a (.dK kvs):=⟨z,hd,vs,rel,dd⟩
theorem Zu7 {H':Hp} {Q:Unit->Shared->Prop} (hu:A.units + 1 < cLine) (I:Inv X pins σ H s) (g:ck H a y v H') (ry:RelV y u) (rv:RelV v r) (h:∀ s',Inv X pins σ H' s'->Q () s') :
  wpAny (model X.prog X.w) A (setItem (.ref a) u r) Q E s:=by
 rcases g with ⟨kvs,k,e,ey,l,eH⟩ | ⟨kvs,k,b,e,ey,eb,l,eH⟩
 .subst ey eH;obtain ⟨z,hd,vs,rel,dd⟩:=ZyB I.ak e;have hz:vs.length<=Yj:=by rw [<- rel.length];exact z
  have hl:(putK kvs k v).length<=Yj:=by have:=CC kvs k v;omega
  refine wpAny_setItem_pairs (hsz:=hz) (tJ ry) dd fun h' fh hs=>h _ ?_;have he:∃ q,h'.get? a=some q:=let ⟨q,_,_,hq,_⟩:=fh;⟨q,hq⟩
  exact FO I (by rw [e];exact XZ) hs he (Fu hl hd (rel.put k rv) fh)
 .subst ey eH
  cases (show u=Value.ref b from ry)
  obtain ⟨z,hd,xs,rel,dd⟩:=Zzm I.ak e;have hz:xs.length<=Yj:=by rw [<- Xk rel];exact z
  have hl:(putK kvs k v).length<=Yj:=by have:=CC kvs k v;omega
  refine wpAny_setItem_heap (hsz:=hz) (WS hu) (v_ I.ak eb) dd fun h' fh hs=>h _ ?_;obtain ⟨q,es,ep,hq,h2,h3,h4,_,h5⟩:=fh;refine FO I (by rw [e];exact XZ) hs ⟨q,hq⟩ ⟨hl,hd,_,(rel.put k eb rv).keeps fun c ys ec=>?_,q,es,ep,hq,h2,h3,h4,h5⟩;rw [Ze (ZD ec e (fun z=>nomatch z))];exact ec
end
section
variable {X:Cx} {pins:List (Addr×Obj)} {σ:St} {H:Hp} {s:Shared} {a:Addr} {kvs:List (Key×V)} {k:Key} {u:Value} {A:Around} {E:Value->Shared->Prop}
theorem Zzo {Q:Value->Shared->Prop} (I:Inv X pins σ H s) (e:Rd H a (.dK kvs)) (h:∀ t s',Inv X pins σ H s'->Q (.int kvs.length t) s'):wpAny (model X.prog X.w) A (call (.builtin "len") [.ref a]) Q E s:=by
 obtain ⟨z,hd,vs,rel,dd⟩:=me I.ak e;refine call_len_dict hd dd (by rw [<- rel.length];rw [Wz] at z;omega) ?_;rw [<- rel.length];exact h _ _ (I.tok _)
end
def Ad (i:Expr):Prop:=∀ ov iv,subscripted i false ov iv=operate [ov,iv] (getItem ov iv)
theorem ZwP {prog:Program} {w:World} {A:Around} {E:Value->Shared->Prop} {s:Shared} {env:Env} {value slice:Expr} {pos:Pos} {T id:String} {Q:Value->Shared->Prop}
  (hl:typeLookup (.type T) "__getitem__"=pure (some (.builtin id))) (hs:Ad slice)
  (h:wpAny (model prog w) A (eval value env) (fun o aC=>wpAny (model prog w) A (eval slice env) (fun i ef=>ef.TypeIs o T/\wpAny (model prog w) A (getItem o i) Q E ef) E aC) E s) :
  wpAny (model prog w) A (eval (.Subscript value slice pos) env) Q E s:=by
 refine Subscript_ (Xa h (fun o aC qy=>Xa qy (fun i ef n6=>?_) fun _ _ x=>x) fun _ _ x=>x);obtain ⟨hT,n6⟩:=n6;unfold subscriptTail;refine Ya ?_;rw [getitemInPython_of_ne hT.not_modules];refine Ya (wpAny_specialOf hT hl ?_)
 have fin:wpAny (model prog w) A (subscripted slice false o i) (fun r jx=>wpAny (model prog w) A (letTemporaryGo value o r >>= fun _=>pure r) Q E jx) E ef:=by
  rw [hs o i];exact wpAny_operating (Xa n6 (fun r jx qw=>Ya (wpAny_letTemporaryGo (Ye qw))) fun _ _ x=>x)
 first
  | exact Ye (Ya fin)
  | exact Ya (Ye (Ya fin))
  | exact Ya fin
theorem ZrF {X:Cx} {pins:List (Addr×Obj)} {σ:St} {H:Hp} {s:Shared} {a:Addr} {y:V} {o:Option V} (I:Inv X pins σ H s) (g:aE H a y o):s.TypeIs (.ref a) "dict":=by
 rcases g with ⟨kvs,k,e,_,_⟩ | ⟨kvs,k,b,e,_,_,_⟩
 .obtain ⟨_,_,vs,_,dd⟩:=me I.ak e;exact dd.typeIs
 .obtain ⟨_,_,xs,_,dd⟩:=tP I.ak e;exact dd.typeIs
inductive sx  (x y:V) (H2:Hp) (Q:VK):Prop
 | mk (a:_) (v:_):x=.ref a->aE H2 a y (some v)->Q v H2->sx x y H2 Q
def Zy6 (td ty:TE):TE:=fun σ H Q=>td σ H fun x H1=>ty σ H1 fun y H2=>sx x y H2 Q
inductive Ab  (x y:V) (H2:Hp) (Q:VK):Prop
 | mk (a:_) (o:_):x=.ref a->aE H2 a y o->Q (.bl o.isSome) H2->Ab x y H2 Q
def Lc (ty td:TE):TE:=fun σ H Q=>ty σ H fun y H1=>td σ H1 fun x H2=>Ab x y H2 Q
inductive Aa  (x y:V) (H2:Hp) (Q:VK):Prop
 | mk (a:_) (o:_):x=.ref a->aE H2 a y o->Q (.bl (!o.isSome)) H2->Aa x y H2 Q
def ZwM (ty td:TE):TE:=fun σ H Q=>ty σ H fun y H1=>td σ H1 fun x H2=>Aa x y H2 Q
inductive su  (D:Ends) (σ:St) (x y v:V) (H3:Hp):Prop
 | mk (a:_) (H4:_):x=.ref a->ck H3 a y v H4->D.nx σ H4->su D σ x y v H3
def Zy7 (td ty tv:TE):TS:=fun D σ H=>tv σ H fun v H1=>td σ H1 fun x H2=>ty σ H2 fun y H3=>su D σ x y v H3
section
variable {X:Cx} {o i e value:Expr} {pos pos' K7:Pos} {td ty tv:TE}
theorem kn (hu:X.A.units + 1 < cLine) (ho:PE X o td) (hi:PE X i ty) (hs:Ad i):PE X (.Subscript o i pos) (Zy6 td ty):=by
 try unfold PE at *
 intro pins s σ H Q I h;refine ZwP PySem.F.slot_dict_getitem.lookup hs (az (ho pins s σ H _ I h) fun u s1 ⟨x,H1,I1,rx,q1⟩=>az (hi pins s1 σ H1 _ I1 q1) fun iv s2 ⟨y,H2,I2,ry,a,v,ex,g,q2⟩=>?_);subst ex;obtain rfl:u=Value.ref a:=rx;exact ⟨ZrF I2 g,Zu8 hu I2 g ry fun w' s3 I3 nh=>⟨v,H2,I3,nh,q2⟩⟩
theorem nL (hu:X.A.units + 1 < cLine) (hi:PE X i ty) (ho:PE X o td):PC X .In i o (Lc ty td):=by
 try unfold PE at *
 intro pins s σ H Q I h;refine az (hi pins s σ H _ I h) fun iv s1 ⟨y,H1,I1,ry,q1⟩=>az (ho pins s1 σ H1 _ I1 q1) fun u s2 ⟨x,H2,I2,rx,a,ov,ex,g,q2⟩=>?_;subst ex;obtain rfl:u=Value.ref a:=rx;exact Me hu I2 g ry fun s3 I3=>⟨.bl ov.isSome,H2,I3,rfl,q2⟩
theorem ub (hu:X.A.units + 1 < cLine) (hi:PE X i ty) (ho:PE X o td):PC X .NotIn i o (ZwM ty td):=by
 try unfold PE at *
 intro pins s σ H Q I h;refine az (hi pins s σ H _ I h) fun iv s1 ⟨y,H1,I1,ry,q1⟩=>az (ho pins s1 σ H1 _ I1 q1) fun u s2 ⟨x,H2,I2,rx,a,ov,ex,g,q2⟩=>?_;subst ex;obtain rfl:u=Value.ref a:=rx;exact Zxr hu I2 g ry fun s3 I3=>⟨.bl (!ov.isSome),H2,I3,rfl,q2⟩
theorem nR (hu:X.A.units + 1 < cLine) (ho:PE X o td) (hi:PE X i ty) (hv:PE X value tv) (hs:swapsWith value (some (.Subscript o i pos')) pos.line X.env=pure false) :
  PS X (.Assign [.Subscript o i pos'] value pos) (Zy7 td ty tv):=by
 try unfold PE at *;try unfold PS at *
 intro pins s σ H D I h;refine wpAny_Assign_Subscript (az (hv pins s σ H _ I h) fun r s1 ⟨v,H1,I1,rv,q1⟩=>az (ho pins s1 σ H1 _ I1 q1) fun u s2 ⟨x,H2,I2,rx,q2⟩=>az (hi pins s2 σ H2 _ I2 q2) fun iv s3 ⟨y,H3,I3,ry,a,H4,ex,g,q3⟩=>?_) hs;subst ex;obtain rfl:u=Value.ref a:=rx;exact Zu7 hu I3 g ry rv fun s4 I4=>⟨σ,H4,I4,q3⟩
end
theorem Zsx {P:Program} {w:World} {H:Hp} (h:Heap) (hb:Xw < h.objs.size):bH P w H (h.push {cls:=.type "dict",data:=.dict #[]}) h.objs.size (.dK []):=
 ⟨Yt _,beq_eq_false_iff_ne.mpr (WT (Yy hb)),[],.nil,Heap.DictOf.new h⟩
theorem Zwb {P:Program} {w:World} {H:Hp} (h:Heap) (hb:Xw < h.objs.size):bH P w H (h.push {cls:=.type "dict",data:=.dict #[]}) h.objs.size (.dT []):=
 ⟨Yt _,beq_eq_false_iff_ne.mpr (WT (Yy hb)),[],.nil,_,#[],0,Yh _ rfl,⟨rfl,rfl,rfl⟩,rfl,rfl,List.nodup_nil⟩
def ZxS:TE:=fun _ H Q=>∀ p,H p=none->Q (.ref p) (upd H p (.dK []))
def ZxR:TE:=fun _ H Q=>∀ p,H p=none->Q (.ref p) (upd H p (.dT []))
section
variable {X:Cx} {pos:Pos}
theorem nV:PE X (.Dict [] [] pos) ZxS:=by
 try unfold PE at *
 exact fun pins s σ H Q I h=>
  wpAny_Dict_empty ⟨.ref s.heap.objs.size,_,I.laid (a:=s.heap.objs.size) (o:=.dK []) (t':=s.toks) (fun _ _ q=>Yc _ q) (Yf _) (Zsx s.heap I.big),rfl,h _ (I.ak.fresh (Yf _))⟩
theorem FZ:PE X (.Dict [] [] pos) ZxR:=by
 try unfold PE at *
 exact fun pins s σ H Q I h=>
  wpAny_Dict_empty ⟨.ref s.heap.objs.size,_,I.laid (a:=s.heap.objs.size) (o:=.dT []) (t':=s.toks) (fun _ _ q=>Yc _ q) (Yf _) (Zwb s.heap I.big),rfl,h _ (I.ak.fresh (Yf _))⟩
end
def Fx:List (TE×TE)->St->Hp->(List (V×V)->Hp->Prop)->Prop
  | [],_,H,Q=>Q [] H
  | (tk,tv)::r,σ,H,Q=>tk σ H fun x H1=>tv σ H1 fun y H2=>Fx r σ H2 fun ps H3=>Q ((x,y)::ps) H3
abbrev VV:List (V×V)->List (Value×Value)->Prop:=Wg fun p q=>RelV p.1 q.1/\RelV p.2 q.2
@[irreducible] def ug (X:Cx) (pos:Pos) (keys:List (Option Expr)) (values:List Expr) (pM:List (TE×TE)):Prop:=
 ∀ (pins:List (Addr×Obj)) (s:Shared) (σ:St) (H:Hp) (Q:List (V×V)->Hp->Prop),Inv X pins σ H s->Fx pM σ H Q->
  wpAny (model X.prog X.w) X.A (evalPairs (pairTrees keys values X.env pos)) (fun vs s'=>∃ ps H',Inv X pins σ H' s'/\VV ps vs/\Q ps H') X.xe s
theorem ZwY {X:Cx} {pos:Pos}:ug X pos [] [] []:=by
 try unfold ug at *
 exact fun pins s σ H Q I h=>pairTrees_nil_walk ⟨[],H,I,.nil,h⟩
theorem ZvD {X:Cx} {pos:Pos} {k v:Expr} {ks:List (Option Expr)} {vs:List Expr} {tk tv:TE} {pM:List (TE×TE)} (hk:PE X k tk) (hv:PE X v tv) (hr:ug X pos ks vs pM) :
  ug X pos (some k::ks) (v::vs) ((tk,tv)::pM):=by
 try unfold PE at *;try unfold ug at *
 exact fun pins s σ H Q I h=>
  pairTrees_cons_walk (az (hk pins s σ H _ I h) fun u s1 ⟨x,H1,I1,rx,q1⟩=>az (hv pins s1 σ H1 _ I1 q1) fun w2 s2 ⟨y,H2,I2,ry,q2⟩=>
   az (hr pins s2 σ H2 _ I2 q2) fun ws s3 ⟨ps,H3,I3,rel,q3⟩=>⟨(x,y)::ps,H3,I3,.cons ⟨rx,ry⟩ rel,q3⟩)
def vU (kvs more:List (Key×V)):List (Key×V):=more.foldl (fun acc kv=>putK acc kv.1 kv.2) kvs
theorem KV.merge:∀ {more:List (Key×V)} {rs:List (Key×Value)} {kvs:List (Key×V)} {vs:List (Key×Value)},KV more rs->KV kvs vs->KV (vU kvs more) (merged vs rs):=by
 intro more rs kvs vs r;unfold KV at r
 induction r generalizing kvs vs with
 | nil=>intro q;exact q
 | @cons p q ps qs h t ih=>
  intro r0
  have e:KV (putK kvs p.1 p.2) (stored vs q.1 q.2):=by
   have:=r0.put p.1 h.2
   rw [<- h.1];exact this
  exact ih e
theorem Zh5:∀ (more kvs:List (Key×V)),(vU kvs more).length<=kvs.length + more.length
 | [],kvs=>by show kvs.length<=kvs.length + 0;omega
 | p::r,kvs=>by
  have h1:=Zh5 r (putK kvs p.1 p.2);have h2:=CC kvs p.1 p.2;show (vU (putK kvs p.1 p.2) r).length<=_;rw [Yv];omega
theorem ZnL {P:Program} {w:World}:∀ {kvs:List (Key×V)} {ws:List (Value×Value)},VV (kvs.map fun kv=>(kV kv.1,kv.2)) ws->∃ rs,Carries (ZW P w) ws rs/\KV kvs rs
 | [],_,r=>by rw [List.map_nil] at r;cases r;exact ⟨[],XZ,.nil⟩
 | p::kvs,_,r=>by
  rw [Yx] at r
  cases r with
  | @cons a b as bs h t=>
   obtain ⟨rs,c,q⟩:=ZnL (P:=P) (w:=w) t;obtain ⟨b1,b2⟩:=b;exact ⟨(p.1,b2)::rs,⟨tJ h.1,rfl,c⟩,.cons ⟨rfl,h.2⟩ q⟩
def Zy5 (pM:List (TE×TE)):TE:=fun σ H Q=>∀ p,H p=none->Fx pM σ (upd H p (.dK [])) fun ps H2=>H2 p=some (.dK [])/\∃ kvs:List (Key×V),ps=kvs.map (fun kv=>(kV kv.1,kv.2))/\kvs.length<=15/\Q (.ref p) (upd H2 p (.dK (vU [] kvs)))
theorem ZwZ {X:Cx} {pos:Pos} {keys:List (Option Expr)} {values:List Expr} {pM:List (TE×TE)} (h:ug X pos keys values pM) (mw:keys.all (·.isSome)=true) (hl:keys.length=values.length) (h0:keys≠[])
  (h15:keys.length<=15):PE X (.Dict keys values pos) (Zy5 pM):=by
 try unfold PE at *;try unfold ug at *
 intro pins s σ H Q I q;have hn:=I.ak.fresh (Yf s.heap.objs.size);have I1:=I.laid (a:=s.heap.objs.size) (o:=.dK []) (h':=s.heap.push {cls:=.type "dict",data:=.dict #[]}) (t':=s.toks) (fun _ _ q=>Yc _ q) (Yf _) (Zsx s.heap I.big);refine wpAny_Dict_walk (knd:=ZW X.prog X.w) mw hl h0 h15 (az (h pins _ σ _ _ I1 (q _ hn)) fun ws s2 ⟨ps,H2,I2,rel,e,kvs,ep,lk,q2⟩=>?_);subst ep;obtain ⟨rs,c,rk⟩:=ZnL (P:=X.prog) (w:=X.w) rel;obtain ⟨z,hd,vs0,r0,dd⟩:=ZyB I2.ak e
 cases r0
 refine ⟨rs,c,dd,fun h' fh hs=>⟨.ref s.heap.objs.size,_,?_,rfl,q2⟩⟩
 have hz:(vU [] kvs).length<=Yj:=by
  have h1:=Zh5 kvs [];rw [WN] at h1;rw [Wz];omega
 have he:∃ q,h'.get? s.heap.objs.size=some q:=let ⟨q,_,_,hq,_⟩:=fh;⟨q,hq⟩
 exact FO I2 (by rw [e];exact XZ) hs he (Fu hz hd (rk.merge .nil) fh)
structure M2 (X:Cx) (o:Expr) (m:Str) (apos:Pos) (e f:Expr) (a8:Pos):Prop where
 base:Yaa o m X.env (eval o X.env)=eval o X.env
 few:((Wx a8 (YF [e,f] X.env)).all (fun x=>!x.1) && (backToKw a8 (keywordEach [] X.env)).all (fun x=>x.1.isSome)
  && decide (([e,f]:List Expr).length + ([]:List Keyword).length + (if ([]:List Keyword).isEmpty then 0 else 1) < 30))=true
 line:(apos.endLine == a8.line)=true
 trees:Wx a8 (YF [e,f] X.env)=[(false,eval e X.env),(false,eval f X.env)]
def IsD (H:Hp) (a:Addr):Prop:=(∃ kvs,Rd H a (.dK kvs))∨∃ kvs,Rd H a (.dT kvs)
theorem Zyq {X:Cx} {pins:List (Addr×Obj)} {σ:St} {H:Hp} {s:Shared} {a:Addr} (I:Inv X pins σ H s) (d:IsD H a) :
  s.TypeIs (.ref a) "dict"/\(∀ b,Value.ref a=.ref b->∃ ob,s.heap.get? b=some ob/\ob.dict=none)/\(a == Xw)=false:=by
 rcases d with ⟨kvs,e⟩ | ⟨kvs,e⟩
 .obtain ⟨_,hd,vs,_,dd⟩:=me I.ak e;refine ⟨dd.typeIs,fun b q=>?_,hd⟩
  cases q
  obtain ⟨ob,_,_,h1,h2,_⟩:=dd;exact ⟨ob,h1,h2.2.1⟩
 .obtain ⟨_,hd,xs,_,dd⟩:=tP I.ak e;refine ⟨dd.typeIs,fun b q=>?_,hd⟩
  cases q
  obtain ⟨ob,_,_,h1,h2,_⟩:=dd;exact ⟨ob,h1,h2.2.1⟩
section
variable {X:Cx} {pins:List (Addr×Obj)} {σ:St} {H:Hp} {s:Shared} {a:Addr} {y d:V} {u r:Value} {o:Option V} {A:Around} {E:Value->Shared->Prop}
theorem ZyD {Q:Value->Shared->Prop} (hu:A.units + 1 < cLine) (I:Inv X pins σ H s) (g:aE H a y o) (ry:RelV y u) (rd:RelV d r) (h:∀ w' s',Inv X pins σ H s'->RelV (o.getD d) w'->Q w' s') :
  wpAny (model X.prog X.w) A (call (.builtin "dict.get") [.ref a,u,r]) Q E s:=by
 rcases g with ⟨kvs,k,e,ey,l⟩ | ⟨kvs,k,b,e,ey,eb,l⟩
 .subst ey;obtain ⟨z,hd,vs,rel,dd⟩:=me I.ak e;refine call_meetsIn Ya4 dd.typeIs PySem.F.entry_dict_get (PySem.F.args_dict_get_3 _ _ _) (meets_dict_get_default (ZW X.prog X.w) a (tJ ry) hd r) ⟨_,dd.mapOf,h _ _ (I.tok _) ?_⟩;rw [l];exact (rel.val k).getD rd
 .subst ey
  cases (show u=Value.ref b from ry)
  obtain ⟨z,hd,xs,rel,dd⟩:=tP I.ak e;refine call_meetsIn Ya4 dd.typeIs PySem.F.entry_dict_get (PySem.F.args_dict_get_3 _ _ _) (meetsH_dict_get_default (WU (ZW X.prog X.w)) a b hd r) ⟨WS hu,k,xs,v_ I.ak eb,dd,h _ _ (I.tok _) ?_⟩;rw [l];exact (rel.val k).getD rd
end
def ZxT (td ty tx:TE):TE:=fun σ H Q=>td σ H fun x H1=>∃ a,x=.ref a/\IsD H1 a/\ty σ H1 fun y H2=>tx σ H2 fun z H3=>∃ o,aE H3 a y o/\Q (o.getD z) H3
section
variable {X:Cx} {o e f:Expr} {apos a8:Pos} {td ty tx:TE}
theorem ZvG (hu:X.A.units + 1 < cLine) (ho:PE X o td) (he:PE X e ty) (hf:PE X f tx) (m:M2 X o "get" apos e f a8):PE X (.Call (.Attribute o "get" apos) [e,f] [] a8) (ZxT td ty tx):=by
 try unfold PE at *
 intro pins s σ H Q I h;refine wpAny_Call_method m.base m.few m.line YT Ya4 PySem.F.type_dict_get (az (ho pins s σ H _ I h) fun u s1 ⟨x,H1,I1,rx,a,ex,d,q1⟩=>?_);subst ex;obtain rfl:u=Value.ref a:=rx;obtain ⟨t1,t2,_⟩:=Zyq I1 d;refine ⟨t1,t2,?_⟩;rw [m.trees]
 refine YaT rfl (Ybb (Ybl (az (he pins s1 σ H1 _ I1 q1) fun iv s2 ⟨y,H2,I2,ry,q2⟩=>
  Ybl (az (hf pins s2 σ H2 _ I2 q2) fun fv s3 ⟨z,H3,I3,rz,ov,g,q3⟩=>Calls.spliced_nil ?_))))
 exact ZyD hu I3 g ry rz fun w' s4 I4 nh=>⟨_,H3,I4,nh,q3⟩
end
section
variable {X:Cx} {pins:List (Addr×Obj)} {σ:St} {H:Hp} {s:Shared} {a:Addr} {kvs:List (Key×V)} {A:Around} {E:Value->Shared->Prop}
theorem Zwe {Q:Value->Shared->Prop} (I:Inv X pins σ H s) (e:Rd H a (.dK kvs)) (h:∀ p s',H p=none->Inv X pins σ (upd H p (.dK kvs)) s'->Q (.ref p) s'):wpAny (model X.prog X.w) A (call (.type "dict") [.ref a]) Q E s:=by
 obtain ⟨z,hd,vs,rel,dd⟩:=me I.ak e;refine kt_call_dict hd dd (by rw [<- rel.length];exact z) fun h' fh hs=>?_;refine h _ _ (I.ak.fresh (Yf _)) (I.laid (a:=s.heap.objs.size) (o:=.dK kvs) (t':=s.toks) (fun b q hq=>?_) (Yf _) (Fu z (beq_eq_false_iff_ne.mpr (WT (Yy I.big))) rel fh));exact (hs.2 b (Yy (Yl hq))).trans (Yc _ hq)
end
section
variable {X:Cx} {pins:List (Addr×Obj)} {σ:St} {H:Hp} {s:Shared} {a:Addr} {y:V} {u:Value} {A:Around} {E:Value->Shared->Prop}
end
end L2
namespace L2
open PySem PySem.Spec PyProof.Rows
section
variable {X:Cx}
theorem Ce:gK X (.builtin "len") (fun xs H Q=>∃ a kvs,xs=[V.ref a]/\H a=some (.dK kvs)/\Q (.int kvs.length) H):=by
 intro pins s σ H xs us Q I r h;obtain ⟨a,kvs,rfl,ha,q⟩:=h;obtain ⟨u,rfl,ru⟩:=yb r
 cases ru
 exact Zzo I (.inl ha) fun t s' I'=>⟨.int kvs.length,H,I',⟨t,rfl⟩,q⟩
end
section
variable {κ:Type} [DecidableEq κ]
end
end L2
namespace L2
open PySem PySem.Spec PyProof.Rows PySem.W
section
variable {X:Cx}
theorem ZmK:pJ X "str.startswith" (fun x vs H Q=>∃ a b,x=.str a/\vs=[.str b]/\Q (.bl (decide (0 + b.length<=a.length) && Wu a b 0)) H):=by
 intro pins s σ H x xs v us Q I rx rs h;obtain ⟨a,b,rfl,rfl,q⟩:=h;obtain ⟨t,rfl⟩:=rx;obtain ⟨u,rfl,ru⟩:=rs.one;obtain ⟨tk,rfl⟩:=ru;exact call_gives F.slot_str_startswith (WB _ _ _) F.entry_str_startswith (F.args_str_startswith_2 _ _) (gives_str_startswith a b t tk) ⟨.bl _,H,I,rfl,q⟩
theorem Zur:pJ X "str.index" (fun x vs H Q=>∃ a b i rest,x=.str a/\vs=[.str b]/\YU a b 0 a.length 1=i::rest/\Q (.int (i:Nat)) H):=by
 intro pins s σ H x xs v us Q I rx rs h;obtain ⟨a,b,i,rest,rfl,rfl,e,q⟩:=h;obtain ⟨t,rfl⟩:=rx;obtain ⟨u,rfl,ru⟩:=rs.one;obtain ⟨tk,rfl⟩:=ru;exact call_gives F.slot_str_index (WB _ _ _) F.entry_str_index (F.args_str_index_2 _ _) (gives_str_index a b t tk i rest e) ⟨.int _,H,I.tok _,⟨_,rfl⟩,q⟩
def lq (a b:Str):List Str:=
 if (decide (a.length < b.length) || decide (Yak a < Yak b))=true then [a]
 else if (YU a b 0 a.length (a.length + 1)).isEmpty=true then [a]
 else WI a (YU a b 0 a.length (a.length + 1)) b.length
theorem Zhj:∀ (ps:List Str) (n:Nat),Vals (ps.map V.str) (strsFrom n ps)
 | [],_=>.nil
 | p::r,n=>.cons ⟨_,rfl⟩ (Zhj r (n + 1))
theorem Zuq:pJ X "str.split" (fun x vs H Q=>∃ a b,x=.str a/\vs=[.str b]/\(b.length == 0)=false/\a.length<=Yj/\(lq a b).length<=Yj/\∀ p,H p=none->Q (.ref p) (upd H p (.lst ((lq a b).map V.str)))):=by
 intro pins s σ H x xs v us Q I rx rs h;obtain ⟨a,b,rfl,rfl,hb,ha,hz,q⟩:=h;obtain ⟨t,rfl⟩:=rx;obtain ⟨u,rfl,ru⟩:=rs.one;obtain ⟨tk,rfl⟩:=ru
 have one:lq a b=[a]->EP X pins σ Q (.ref s.heap.objs.size) {s with heap:=s.heap.push {cls:=.type "list",data:=.seq [Value.str a t].toArray}}:=fun e=>by
  have qq:=q _ I.fresh;rw [e] at qq;exact ⟨.ref _,_,I.n5 (t':=s.toks) (ys:=[V.str a]) (its:=[Value.str a t]) (.cons ⟨t,rfl⟩ .nil) (by show 1<=Yj;decide),rfl,qq⟩
 cases h1:(decide (a.length < b.length) || decide (Yak a < Yak b)) with
 | true=>exact XD F.slot_str_split (WB _ _ _) F.entry_str_split (Ybk _ _) (meets_str_split_cannot_occur a b t tk h1) (one (by unfold lq;rw [if_pos h1]))
 | false=>
  cases h2:(YU a b 0 a.length (a.length + 1)).isEmpty with
  | true=>exact XD F.slot_str_split (WB _ _ _) F.entry_str_split (Ybk _ _) (meets_str_split_not_found a b t tk h1 hb h2) (one (by unfold lq;rw [if_neg (by rw [h1];exact Yr),if_pos h2]))
  | false=>
   have e:lq a b=WI a (YU a b 0 a.length (a.length + 1)) b.length:=by
    unfold lq;rw [if_neg (by rw [h1];exact Yr),if_neg (by rw [h2];exact Yr)]
   refine XD F.slot_str_split (WB _ _ _) F.entry_str_split (Ybk _ _) (meets_str_split_sep a b t tk h1 hb h2 ha (by rw [<- e];exact hz)) ?_;rw [<- e];exact ⟨.ref _,_,I.n5 (Zhj _ _) (by rw [Yb];exact hz),rfl,q _ I.fresh⟩
def mx (x:Str) (lo hi:Option Int):Str:=
 if ((Wt lo hi 1 x.length).length == x.length)=true then x else ⟨((Wt lo hi 1 x.length).filterMap (x.cps[·]?)).toArray⟩
theorem Zuf {v:Value} {o:Option Int} (p:IsPart v o):∃ q:Option (Int×Tok),v=partValue q/\q.map (·.1)=o:=by
 cases p with
 | none=>exact ⟨none,rfl,rfl⟩
 | int i t=>exact ⟨some (i,t),rfl,rfl⟩
theorem ZxX:yV X (fun x lo hi H Q=>∃ a,x=.str a/\(mx a lo hi).length<=Yj/\Q (.str (mx a lo hi)) H):=by
 intro pins s σ H x v vl vu lo hi sl Q I rx hs pl pu h;obtain ⟨a,rfl,hz,q⟩:=h;obtain ⟨t,rfl⟩:=rx;obtain ⟨l,rfl,rfl⟩:=Zuf pl;obtain ⟨u,rfl,rfl⟩:=Zuf pu;refine ⟨"str",_,F.slot_str_getitem.lookup,WB _ _ _,?_⟩;refine getItem_meets (WB s a t) (by decide) F.slot_str_getitem F.entry_str_getitem (F.args_str_getitem_2 _ _) (meets_str_getitem_slice a t sl l u none rfl) ⟨hs,?_⟩;unfold mx at hz q;unfold sliceMade slicePicked
 by_cases hw:((Wt (l.map (·.1)) (u.map (·.1)) 1 a.length).length == a.length)=true
 .rw [if_pos hw] at hz q;rw [if_pos (by show (true && _)=true;rw [Bool.true_and];exact hw)];exact ⟨.str a,H,I,⟨t,rfl⟩,q⟩
 .rw [if_neg hw] at hz q;rw [if_neg (by show ¬ (true && _)=true;rw [Bool.true_and];exact hw)];exact ⟨hz,.str _,H,I.tok _,⟨_,rfl⟩,q⟩
def PJ (X:Cx) (es:List Expr) (t:Str->St->Hp->VK->Prop):Prop:=
 ∀ (acc:Str) (pins:List (Addr×Obj)) (s:Shared) (σ:St) (H:Hp) (Q:VK),Inv X pins σ H s->t acc σ H Q->wpAny (model X.prog X.w) X.A (joinParts acc (evalEach es X.env)) (EP X pins σ Q) X.xe s
theorem vY:PJ X [] (fun acc _ H Q=>acc.length<=Yj/\Q (.str acc) H):=fun acc pins s σ H Q I h=>
 joinParts_nil ⟨.str acc,H,I.tok _,⟨_,rfl⟩,h.2⟩ h.1
theorem vZ {y:Str} {j pos} {es:List Expr} {t:Str->St->Hp->VK->Prop} (h:PJ X es t):PJ X (.Constant (.str y) j pos::es) (fun acc σ H Q=>(acc++y).length<=Yj/\t (acc++y) σ H Q):=fun acc pins s σ H Q I hq=>
 joinParts_cons (Calls.Constant_str ⟨hq.1,h _ pins _ σ H Q (I.tok _) hq.2⟩)
theorem v5 {e:Expr} {pos} {es:List Expr} {te:TE} {t:Str->St->Hp->VK->Prop} (he:PE X e te) (h:PJ X es t):PJ X (.FormattedValue e (-1) none pos::es) (fun acc σ H Q=>te σ H fun x H1=>∃ y,x=.str y/\y.length<=Yj/\(acc++y).length<=Yj/\t (acc++y) σ H1 Q):=by
 try unfold PE at *
 exact fun acc pins s σ H Q I hq=>by
  refine joinParts_cons (FormattedValue_plain (az (he pins s σ H _ I hq) fun u s1 ⟨x,H1,I1,rx,y,ex,hy,hz,q1⟩=>?_));subst ex;obtain ⟨t,rfl⟩:=rx;exact formatField_str (fun t' tk=>⟨hz,h _ pins _ σ H1 Q (I1.tok _) q1⟩) hy
theorem wm {e f:Expr} {es:List Expr} {pos:Pos} {t:Str->St->Hp->VK->Prop} (h:PJ X (e::f::es) t):PE X (.JoinedStr (e::f::es) pos) (fun σ H Q=>t Str.empty σ H Q):=by
 try unfold PE at *
 exact fun pins s σ H Q I hq=>
  JoinedStr_many (h Str.empty pins s σ H Q I hq)
theorem ZsE {bs:List Bool} {its:List Value} (r:Vals (bs.map V.bl) its) {i:Nat} {v:Value} (h:its.toArray[i]?=some v):v=.bool (bs.getD i false):=by
 have h':its[i]?=some v:=by simpa using h
 have hl:=r.length;rw [Yb] at hl
 have hi:i < bs.length:=by
  have:=(List.getElem?_eq_some_iff.mp h').1
  omega
 obtain ⟨u,e,ru⟩:=r.get (i:=i) (x:=.bl (bs.getD i false)) (by rw [Yo,Yi,Yk hi];rfl);rw [h'] at e
 cases e
 exact ru
theorem Zt6 (bs:List Bool):((List.range bs.length).all fun i=>bs.getD i false)=bs.all id:=by
 rw [X5,W8,W8]
 constructor
 .intro h b hb;obtain ⟨i,hi,rfl⟩:=List.mem_iff_getElem.mp hb
  have:=h i (List.mem_range.mpr hi)
  rwa [Yi,Yk hi] at this
 .intro h i hi;have hi:=List.mem_range.mp hi;rw [Yi,Yk hi];exact h _ (List.getElem_mem hi)
theorem Zt5 (bs:List Bool):((List.range bs.length).any fun i=>bs.getD i false)=bs.any id:=by
 rw [X5,List.any_eq_true,List.any_eq_true]
 constructor
 .rintro ⟨i,hi,h⟩
  have hi:=List.mem_range.mp hi;rw [Yi,Yk hi] at h;exact ⟨_,List.getElem_mem hi,h⟩
 .rintro ⟨b,hb,h⟩
  obtain ⟨i,hi,rfl⟩:=List.mem_iff_getElem.mp hb;refine ⟨i,List.mem_range.mpr hi,?_⟩;rw [Yi,Yk hi];exact h
theorem Ge (hc:X.calm=true:=by rfl):gK X (.builtin "all") (fun xs H Q=>∃ (p:Addr) (bs:List Bool),xs=[.ref p]/\ay X.K H p (bs.map V.bl)/\Q (.bl (bs.all id)) H):=by
 intro pins s σ H xs us Q I r h;obtain ⟨p,bs,rfl,hp,q⟩:=h;obtain ⟨u,rfl,ru⟩:=r.one
 cases (show u=Value.ref p from ru)
 obtain ⟨its,rv,pl,hz⟩:=I.list hp;have hlen:its.toArray.size=bs.length:=by rw [Yq,<- rv.length,Yb]
 refine call_all_walk (YaB pl.isList ?_);have aT:p < s.heap.objs.size:=by obtain ⟨o,ho,_⟩:=pl.isList;exact Yl ho
 refine ⟨s.heap.objs.size,_,_,_,_,_,fun i=>bs.getD i false,rfl,Walks.list (A:=X.A.in1) (I.ok.hd hc) s.heap.objs.size p (Yy aT) its.toArray,⟨⟨_,Yh _ rfl,rfl,rfl⟩,pl.isList.at fun o e=>Yc _ e⟩,fun i v s' Q' E' hv hQ=>?_,fun h' tk hk=>?_⟩
 .rw [ZsE rv hv];exact XI hQ
 .rw [hlen,Zt6];exact ⟨.bl _,H,I.kept fun b o e=>hk b o (by intro z;rw [List.mem_singleton.mp z] at e;exact absurd (Yl e) (Y8 _)) (Yc _ e),rfl,q⟩
theorem BW (hc:X.calm=true:=by rfl):gK X (.builtin "any") (fun xs H Q=>∃ (p:Addr) (bs:List Bool),xs=[.ref p]/\ay X.K H p (bs.map V.bl)/\Q (.bl (bs.any id)) H):=by
 intro pins s σ H xs us Q I r h;obtain ⟨p,bs,rfl,hp,q⟩:=h;obtain ⟨u,rfl,ru⟩:=r.one
 cases (show u=Value.ref p from ru)
 obtain ⟨its,rv,pl,hz⟩:=I.list hp;have hlen:its.toArray.size=bs.length:=by rw [Yq,<- rv.length,Yb]
 refine call_any_walk (YaB pl.isList ?_);have aT:p < s.heap.objs.size:=by obtain ⟨o,ho,_⟩:=pl.isList;exact Yl ho
 refine ⟨s.heap.objs.size,_,_,_,_,_,fun i=>bs.getD i false,rfl,Walks.list (A:=X.A.in1) (I.ok.hd hc) s.heap.objs.size p (Yy aT) its.toArray,⟨⟨_,Yh _ rfl,rfl,rfl⟩,pl.isList.at fun o e=>Yc _ e⟩,fun i v s' Q' E' hv hQ=>?_,fun h' tk hk=>?_⟩
 .rw [ZsE rv hv];exact XI hQ
 .rw [hlen,Zt5];exact ⟨.bl _,H,I.kept fun b o e=>hk b o (by intro z;rw [List.mem_singleton.mp z] at e;exact absurd (Yl e) (Y8 _)) (Yc _ e),rfl,q⟩
theorem Zwf (hc:X.calm=true:=by rfl):gK X (.builtin "sum") (fun xs H Q=>∃ (p:Addr) (ns:List Int),xs=[.ref p]/\ay X.K H p (ns.map V.int)/\Q (.int ns.sum) H):=by
 intro pins s σ H xs us Q I r h;obtain ⟨p,ns,rfl,hp,q⟩:=h;obtain ⟨u,rfl,ru⟩:=r.one
 cases (show u=Value.ref p from ru)
 obtain ⟨its,rv,pl,hz⟩:=I.list hp;have hi:IntsAre its ns:=ZnC rv;obtain ⟨xs,e⟩:=hi.allInts.items;have hn:=hi.numsOf;refine sum_intListG (xs:=xs) (I.ok.hd hc) (by rw [<- e];exact pl.isList) fun h' tk t' hk=>?_
 have hs:preSum (numAt xs) xs.size=ns.sum:=by
  rw [preSum_eq,YW (by simp),<- hn,<- nums_intItems,<- e]
 rw [hs];exact ⟨.int _,H,I.kept hk,⟨_,rfl⟩,q⟩
end
end L2
namespace L2
open PySem PySem.Spec PyProof.Rows PySem.W
def jZ:HO->Bool
 | .dK _=>true
 | .dT _=>true
 | _=>false
def fj:HO->List V
 | .dK kvs=>kvs.map (·.2)
 | .dT kvs=>kvs.map (·.2)
 | _=>[]
section
variable {X:Cx} {pins:List (Addr×Obj)} {σ:St} {H:Hp} {s:Shared} {a:Addr} {o u:HO}
theorem Inv.swap (I:Inv X pins σ H s) (h:H a=some u) (new:bH X.prog X.w (upd H a o) s.heap a o) (h1:∀ x,u≠.own x) (h2:∀ xs,u≠.tup xs) (h3:∀ ps,u≠.nc ps) (h4:∀ ob v,X.aP a≠some (.bf ob v)):Inv X pins σ (upd H a o) s:=by
 have bO:∀ b,H b=none->b≠a:=fun b n z=>by rw [z,h] at n;cases n
 refine ⟨I.ok,I.os,I.bare,⟨I.base.keep,I.base.slot,fun b ob e n hx=>?_,I.base.there,fun b xs e=>?_,fun b ob v e=>?_,fun b ps e=>?_⟩,I.loc,I.cell,?_,fun x c e=>?_,fun p z=>?_,fun b ob e=>?_,I.len⟩
 .have z:=I.base.free b ob e n hx;rw [Ze (bO b z)];exact z
 .have z:=I.base.cM b xs e
  have:b≠a:=fun q=>by rw [q,h] at z;exact h2 xs (Yu z)
  rw [Ze this];exact z
 .have:b≠a:=fun q=>h4 ob v (by rw [<- q];exact e)
  rw [Ze this];exact I.base.bR b ob v e
 .obtain ⟨more,z⟩:=I.base.cN b ps e
  have:b≠a:=fun q=>by rw [q,h] at z;exact h3 _ (Yu z)
  exact ⟨more,by rw [Ze this];exact z⟩
 .rw [Ze (bO _ I.free)];exact I.free
 .rw [Ze (bO _ (I.a_ x c e))];exact I.a_ x c e
 .obtain ⟨z1,z2,z3⟩:=I.pin p z;exact ⟨z1,by rw [Ze (bO _ z2)];exact z2,z3⟩
 .by_cases hb:b=a
  .subst hb;rw [Zb] at e
   cases e
   exact new
  .rw [Ze hb] at e;refine (I.ak b ob e).dA (fun _ _ _ q=>q) (fun c q=>?_) fun c xs q=>?_
   .rw [Ze (fun z=>by rw [z,h] at q;exact h1 _ (Yu q))];exact q
   .rw [Ze (fun z=>by rw [z,h] at q;exact h2 _ (Yu q))];exact q
theorem Inv.freeze (I:Inv X pins σ H s) (h:H a=some u) (d:jZ u=true):∃ ob,s.heap.get? a=some ob/\Inv X pins σ (upd H a (.bf ob u)) s:=by
 obtain ⟨ob,e⟩:=(I.ak a u h).there;refine ⟨ob,e,I.swap h ⟨e,?_⟩ ?_ ?_ ?_ ?_⟩
 .refine (I.ak a u h).dA (fun _ _ _ q=>q) (fun c q=>?_) fun c xs q=>?_
  .rw [Ze (fun z=>by rw [z,h] at q;cases q;cases d)];exact q
  .rw [Ze (fun z=>by rw [z,h] at q;cases q;cases d)];exact q
 .rintro x rfl;cases d
 .rintro x rfl;cases d
 .rintro x rfl;cases d
 .intro ob' v z
  have:=I.base.bR a ob' v z
  rw [h] at this
  cases this
  cases d
theorem Inv.nY {ob:Obj} (I:Inv X pins σ H s) (h:H a=some (.bf ob u)) (d:jZ u=true) (h4:∀ ob v,X.aP a≠some (.bf ob v)):Inv X pins σ (upd H a u) s:=by
 refine I.swap h ?_ (fun _ z=>nomatch z) (fun _ z=>nomatch z) (fun _ z=>nomatch z) h4;refine (I.ak a _ h).2.dA (fun _ _ _ q=>q) (fun c q=>?_) fun c xs q=>?_
 .rw [Ze (fun z=>by rw [z,h] at q;cases q)];exact q
 .rw [Ze (fun z=>by rw [z,h] at q;cases q)];exact q
theorem Inv.rZ (I:Inv X pins σ H s) (h:H a=some u) (d:jZ u=true):∀ ob v,X.aP a≠some (.bf ob v):=fun ob v z=>by
 have:=I.base.bR a ob v z
 rw [h] at this
 cases this
 cases d
end
def ZyY (a:Addr) (D:Ends):Ends where
 nx:=fun σ H=>∃ ob u,H a=some (.bf ob u)/\jZ u=true/\D.nx σ (upd H a u)
 rt:=fun v H=>∃ ob u,H a=some (.bf ob u)/\jZ u=true/\D.rt v (upd H a u)
 bk:=fun σ H=>∃ ob u,H a=some (.bf ob u)/\jZ u=true/\D.bk σ (upd H a u)
 ct:=fun σ H=>∃ ob u,H a=some (.bf ob u)/\jZ u=true/\D.ct σ (upd H a u)
def Zy0 (t:TS):TS:=fun D σ H=>∃ a u,H a=some u/\jZ u=true/\t (ZyY a D) σ H
theorem yt {X:Cx} {st:Stmt} {t:TS} (h:PS X st t):PS X st (Zy0 t):=by
 try unfold PS at *
 rintro pins s σ H D I ⟨a,u,ha,hd,q⟩
 have h4:=I.rZ ha hd;refine Xa (h pins s σ H _ I q) (fun f s1 z=>?_) fun _ _ z=>z
 cases f with
 | next=>obtain ⟨ar,H',I',ob,u',e,d',q'⟩:=z;exact ⟨ar,_,I'.nY e d' h4,q'⟩
 | brk=>obtain ⟨ar,H',I',ob,u',e,d',q'⟩:=z;exact ⟨ar,_,I'.nY e d' h4,q'⟩
 | cont=>obtain ⟨ar,H',I',ob,u',e,d',q'⟩:=z;exact ⟨ar,_,I'.nY e d' h4,q'⟩
 | ret v=>obtain ⟨x,ar,H',I',r,ob,u',e,d',q'⟩:=z;exact ⟨x,ar,_,I'.nY e d' h4,r,q'⟩
def ZxN (t:TE):TE:=fun σ H Q=>∃ a u,H a=some u/\jZ u=true/\t σ H fun v H'=>∃ ob u',H' a=some (.bf ob u')/\jZ u'=true/\Q v (upd H' a u')
theorem FH {X:Cx} {e:Expr} {t:TE} (h:PE X e t):PE X e (ZxN t):=by
 try unfold PE at *
 rintro pins s σ H Q I ⟨a,u,ha,hd,q⟩
 have h4:=I.rZ ha hd;refine Xa (h pins s σ H _ I q) (fun v s1 z=>?_) fun _ _ z=>z;obtain ⟨x,H',I',r,ob,u',e',d',q'⟩:=z;exact ⟨x,_,I'.nY e' d' h4,r,q'⟩
theorem Znm {P:Program} {w:World}:∀ {es:List Xp} {vs:List (Key×Value)} {kvs:List (Key×V)},Pairs (ZW P w) es vs->KV kvs vs->Vals (kvs.map (·.2)) (es.map (·.val))
 | _,_,_,.nil,r=>by cases r;exact .nil
 | _,_,_,.cons _ e p,r=>by
  cases r with
  | cons h t=>
   refine .cons ?_ (Znm p t);have z:=h.2;rw [<- e] at z;exact z
theorem ZuG {P:Program} {w:World} {H:Hp}:∀ {kvs:List (List Key×V)} {xs:List (List Key×Addr×Value)},KT H kvs xs->Vals (kvs.map (·.2)) ((xs.map (entryOfKey (WU (ZW P w)))).map (·.val))
 | _,_,.nil=>.nil
 | _,_,.cons h t=>.cons h.2.2 (ZuG t)
theorem yy {P:Program} {w:World} {H:Hp} {h:Heap} {a:Addr} {u:HO} {ob:Obj} (x:bH P w H h a u) (d:jZ u=true) (e:h.get? a=some ob) :
  (a == Xw)=false/\(fj u).length<=Yj/\ob.ExactDict/\∃ es ep,ob.data=.dict es ep/\Vals (fj u) (es.toList.map (·.val)):=by
 cases u with
 | dK kvs=>
  obtain ⟨z,y,vs,r,o,es,ep,e1,ex,dd,_,pr,_⟩:=x;rw [e] at e1
  cases e1
  exact ⟨y,by show (kvs.map (·.2)).length<=_;rw [Yb];exact z,ex,es,ep,dd,Znm pr r⟩
 | dT kvs=>
  obtain ⟨z,y,xs,r,o,es,ep,e1,ex,dd,el,_⟩:=x;rw [e] at e1
  cases e1
  refine ⟨y,by show (kvs.map (·.2)).length<=_;rw [Yb];exact z,ex,es,ep,dd,?_⟩;rw [el];exact ZuG r
 | _=>cases d
def rD (r d:Addr):HO:=.ext fun h=>h.IsValuesView r d
section
variable {X:Cx} {pins:List (Addr×Obj)} {σ:St} {H:Hp} {s:Shared}
theorem Inv.dct {a:Addr} {u:HO} (I:Inv X pins σ H s) (h:Rd H a u) (d:jZ u=true):∃ ob,s.heap.get? a=some ob/\(a == Xw)=false/\(fj u).length<=Yj/\ob.ExactDict/\∃ es ep,ob.data=.dict es ep/\Vals (fj u) (es.toList.map (·.val)):=by
 have ok:=h.ok I.ak;obtain ⟨ob,e⟩:=ok.there;exact ⟨ob,e,yy ok d e⟩
theorem wM:pJ X "dict.values" (fun x vs H Q=>∃ a u,x=.ref a/\vs=[]/\Rd H a u/\jZ u=true/\∀ p,H p=none->Q (.ref p) (upd H p (rD p a))):=by
 intro pins s σ H x xs v us Q I rx rs h;obtain ⟨a,u,rfl,rfl,ha,hd,q⟩:=h
 cases (show v=Value.ref a from rx)
 have:=rs.zero
 subst this;obtain ⟨ob,e,hs,_,ex,es,ep,dd,_⟩:=I.dct ha hd;have hT:s.TypeIs (.ref a) "dict":=⟨ob,e,ex.1⟩
 have m:Meets (Builtin.«dict.values» ⟨[.ref a],[]⟩) (fun _ R s=>s.TypeIs (.ref a) "dict"/\R (.ok (.ret (.ref s.heap.objs.size))) {s with heap:=s.heap.push {cls:=.type "dict_values",data:=.fields #[.ref a]}}):=
  .of_wp fun P2 w2 A2 R2 s2 ⟨DD,k2⟩=>by
   refine Ya ?_;unfold Builtin.Dict.noArgs;refine Ya (Ya2 DD ?_);show wpAny _ _ (pure a) _ _ s2;refine Ye ?_;show wpAny _ _ (XY a >>= _) _ _ s2;unfold XY;rw [if_neg (by rw [hs];exact Yr)];exact Ya (Ye (Ya (YG (Ye ⟨_,rfl,k2⟩))))
 refine XD F.slot_dict_values hT F.entry_dict_values (F.args_dict_values_1 _) m ⟨hT,?_⟩;refine ⟨.ref _,upd H s.heap.objs.size (rD s.heap.objs.size a),I.laid (t':=s.toks) (fun b ob q=>Yc _ q) (Yf _) ?_,rfl,q _ I.fresh⟩;refine ⟨⟨_,Yh _ rfl,rfl,rfl⟩,⟨_,Yh _ rfl⟩,fun h1 h2 ⟨o,e1,e2⟩ k=>⟨o,k o e1,e2⟩⟩
theorem Zrd {r d:Addr} {ob:Obj} {es:Array Xp} {ep:Nat} {Q:Value->Shared->Prop} {A:Around} {E:Value->Shared->Prop} (v:s.heap.IsValuesView r d) (e:s.heap.get? d=some ob) (dd:ob.data=.dict es ep)
  (q:Q (.ref s.heap.objs.size) {s with heap:=s.heap.push {cls:=.type "dict_valueiterator",data:=.fields #[.ref d,.int 0 0,.int es.size 0,.int ep 0]}}):wpAny (model X.prog X.w) A (pyIter (.ref r)) Q E s:=by
 have tv:=v.typeIs;obtain ⟨oV,e1,c1,d1⟩:=v;refine wpAny_pyIter_slot tv F.slot_dict_values_iter (YM F.slot_dict_values_iter tv F.entry_dict_values_iter ?_ (F.args_dict_values_iter_1 _));unfold Builtin.«dict_values.__iter__» Builtin.Dict_items.dictOf Builtin.Dict_items.newIterator;refine Ya (Ye (Ya (Ya (YX e1 d1 (x:=.ref d) rfl (Ye ?_)))));refine Ya (Ya (Xr e dd (Ya (XM e dd ?_))));rw [show YV "dict_valueiterator"=false from by decide]
 simp only [YY,if_false]
 exact YG (Ye ⟨_,rfl,"dict_valueiterator",_,⟨_,Yh _ rfl,rfl⟩,F.slot_dict_valueiterator_next.lookup,by simpa [Wl] using q⟩)
theorem BR {it:Addr} {Q:String->Shared->Prop} {A:Around} {E:Value->Shared->Prop} (ty:s.TypeIs (.ref it) "dict_valueiterator") (q:Q "dict_valueiterator" s):wpAny (model X.prog X.w) A (typeNameOfWhole (.ref it)) Q E s:=wpAny_typeNameOfWhole_valiter ty q
theorem ZwI {it d:Addr} {ob:Obj} {es:Array Xp} {ep i:Nat} {x:Xp} {Q:Option Value->Shared->Prop} {A:Around} {E:Value->Shared->Prop} (v:s.heap.IsValIter it d i es.size ep) (e:s.heap.get? d=some ob) (dd:ob.data=.dict es ep)
  (hx:es[i]?=some x) (q:∀ h',h'.IsValIter it d (i + 1) es.size ep->Xv it s.heap h'->Q (some x.val) {s with heap:=h'}):wpAny (model X.prog X.w) A (WQ (.ref it)) Q E s:=by
 have ty:=v.typeIs;obtain ⟨oI,e1,c1,d1⟩:=v;have hi:i < es.size:=(Array.getElem?_eq_some_iff.mp hx).1
 have up:(s.heap.update it (YaH (·.setIfInBounds 1 (Wl ((i:Int) + 1))))).IsValIter it d (i + 1) es.size ep:=
  ⟨_,W5 _ e1 (Ya5 (Wj d1 _)),(Obj.cls_mapFields ..).trans c1,by rw [Wj d1];simp [Wl]⟩
 unfold WQ;refine Ya (X9 (YI (name:=Xt "__next__") ty Wc (YM Wc ty F.entry_dict_valueiterator_next ?_ (F.args_dict_valueiterator_next_1 _))));refine Ya (Ye (Ya (Ya (Ya (BR ty (Ye (Ya (WZ e1 d1 ?_))))))));rw [show YV "dict_valueiterator"=false from by decide]
 simp only [YY,if_false]
 show wpAny _ _ (if (Value.ref d == Value.none)=true then _ else _) _ _ s;rw [if_neg (show ¬ ((Value.ref d == Value.none)=true) by exact Yr)];refine Ya (Ye (Ya (Xr e dd ?_)));rw [if_neg (show ¬ ((((es.size:Nat):Int) != ((es.size:Nat):Int))=true) by simp)];refine Ya (Ye (Ya (XM e dd ?_)));rw [if_neg (show ¬ ((((ep:Nat):Int) != ((ep:Nat):Int))=true) by simp)];refine Ye ?_;have xt:es[i]=x:=by rw [Y3 hi] at hx;exact Yu hx
 simp only [show ¬ ((i:Int) < 0) by omega,if_false,YS,Y3 hi]
 refine Ya (Ya (BR ty (Ye (Ya (Ya3 ty ?_)))));show wpAny _ _ (setField (.ref it) 1 (Wl ((i:Int) + 1)) >>= _) _ _ s;refine Ya (Wy e1 d1 (by simp) (Ya (Xq ?_)));refine Ya (Ya3 (s:={s with heap:=s.heap.update it (YaH (·.setIfInBounds 1 (Wl ((i:Int) + 1))))}) up.typeIs (Ya (Ya3 (s:={s with heap:=s.heap.update it (YaH (·.setIfInBounds 1 (Wl ((i:Int) + 1))))}) up.typeIs ?_)));show wpAny _ _ (pure es[i].val) _ _ _;rw [xt];exact Ye (Ye ⟨_,rfl,Ye (q _ up (XO ..))⟩)
theorem ZxJ {it d:Addr} {ob:Obj} {es:Array Xp} {ep i:Nat} {Q:Option Value->Shared->Prop} {A:Around} {E:Value->Shared->Prop} (hA:A.handled=none) (v:s.heap.IsValIter it d i es.size ep) (e:s.heap.get? d=some ob) (dd:ob.data=.dict es ep)
  (hx:es.size<=i) (q:∀ h',Heap.ExtBut it s.heap h'->Q none {s with heap:=h'}):wpAny (model X.prog X.w) A (WQ (.ref it)) Q E s:=by
 have ty:=v.typeIs;obtain ⟨oI,e1,c1,d1⟩:=v;unfold WQ;refine Ya (X9 (YI (name:=Xt "__next__") ty Wc (YM Wc ty F.entry_dict_valueiterator_next ?_ (F.args_dict_valueiterator_next_1 _))));refine Ya (Ye (Ya (Ya (Ya (BR ty (Ye (Ya (WZ e1 d1 ?_))))))));rw [show YV "dict_valueiterator"=false from by decide]
 simp only [YY,if_false]
 show wpAny _ _ (if (Value.ref d == Value.none)=true then _ else _) _ _ s;rw [if_neg (show ¬ ((Value.ref d == Value.none)=true) by exact Yr)];refine Ya (Ye (Ya (Xr e dd ?_)));rw [if_neg (show ¬ ((((es.size:Nat):Int) != ((es.size:Nat):Int))=true) by simp)];refine Ya (Ye (Ya (XM e dd ?_)));rw [if_neg (show ¬ ((((ep:Nat):Int) != ((ep:Nat):Int))=true) by simp)];refine Ye ?_
 simp only [show ¬ ((i:Int) < 0) by omega,if_false,YS,YaU hx]
 refine Ya (Ya (BR ty (Ye ?_)));show wpAny _ _ (setField (.ref it) 0 .none >>= _) _ _ s;refine Ya (Wy e1 d1 (by simp) ?_);show wpAny _ _ (newExc (.type "StopIteration") [] >>= _) _ _ _;refine Ya ?_;simp only [newExc,newTuple];refine Ya (YG (Ya (m:=Wf _ _) (wpAny_of_eq (a:=Value.none) (by first | rfl | (simp only [Wf];rfl)) ?_)) (by size_fits));refine YG ?_ (by size_fits);simp only [raiseNew];refine Ya (wpAny_handled ?_);rw [show A.in1.handled=none from hA];refine Ya (Ye (wpAny_throw ?_));refine Ya (W7 (T:="StopIteration") (b:=true) ⟨_,Yh _ rfl,rfl⟩ Yar ?_);exact Ye (q _ (((XO ..).extBut.push _).push _))
end
def uh (d:Addr) (ob:Obj) (u:HO):It:=
 ⟨fun i H=>H d=some (.bf ob u)/\i < (fj u).length,fun i H x H'=>H'=H/\(fj u)[i]?=some x,fun i H=>H d=some (.bf ob u)/\(fj u).length<=i⟩
theorem ZtI {P:Program} {w:World} {K:Yg} {tg:Expr} (d it:Addr) (ob:Obj) (u:HO) (es:Array Xp) (ep:Nat) (hd:jZ u=true) (dd:ob.data=.dict es ep) :
  Turn P w K tg (uh d ob u) [it] it (fun i h=>h.IsValIter it d i es.size ep) where
 mem:=by simp
 obj:=fun i h st b hb=>by
  have e:b=it:=by simpa using hb
  subst e;obtain ⟨o,e,c,q⟩:=st;exact ⟨o,e,fun v z=>by rw [q] at z;cases z⟩
 keep:=fun i h h' st k=>st.at fun o e=>k it (by simp) o e
 item:=by
  intro X hP hw hK hc i pins s σ H E I hf st hg;subst hP hw hK;obtain ⟨hH,hi⟩:=hg;obtain ⟨e,ok⟩:=I.ak d _ hH;obtain ⟨_,_,_,rf,rg,fh,rv⟩:=yy ok hd e;rw [dd] at fh
  cases fh
  have hl:(fj u).length=es.size:=by rw [rv.length,Yb,YQ]
  obtain ⟨f0,f1,f2,f3,f4,f5⟩:=hf it (by simp);have hx:es[i]?=some es[i]:=Y3 (by omega);refine ZwI st e dd hx fun h' cY sb=>?_;have I1:Inv X pins σ H {s with heap:=h'}:=I.turned (t':=s.toks) (fun b o hb e=>(sb.2 b hb).trans e) f0 f1 f3 f4 f5;obtain ⟨v,hv⟩:∃ v,(fj u)[i]?=some v:=⟨_,Yk hi⟩
  obtain ⟨uv,huv,ruv⟩:=rv.get hv
  have:uv=es[i].val:=by
   rw [Yo,Xx,hx] at huv;exact (Yu huv).symm
  subst this;obtain ⟨o,e2,c,q⟩:=id cY;exact ⟨_,rfl,vJ (s:={s with heap:=h'}) e2 c q (by decide) ⟨v,H,I1,ruv,⟨rfl,hv⟩,cY,fun b hb=>(hf b hb).1⟩⟩
 done:=by
  intro X hP hw hK hc i pins s σ H E I hf st hg;subst hP hw hK;obtain ⟨hH,hi⟩:=hg;obtain ⟨e,ok⟩:=I.ak d _ hH;obtain ⟨_,_,_,rf,rg,fh,rv⟩:=yy ok hd e;rw [dd] at fh
  cases fh
  have hl:(fj u).length=es.size:=by rw [rv.length,Yb,YQ]
  obtain ⟨f0,f1,f2,f3,f4,f5⟩:=hf it (by simp);exact ZxJ (I.ok.hd hc) st e dd (by omega) fun h' eb=>⟨rfl,I.turned (t':=s.toks) (fun b o hb e=>eb b o hb e) f0 f1 f3 f4 f5⟩
 self:=fun _ _ _ _ _ st h=>wpAny_pyIter_valiter st h
def Zzd (tl:TE):TI:=fun σ H R=>tl σ H fun x H1=>∃ r d u,x=.ref r/\H1 r=some (rD r d)/\H1 d=some u/\jZ u=true/\∀ ob,R (uh d ob u) (upd H1 d (.bf ob u))
theorem yr {X:Cx} {tg l:Expr} {tl:TE} (hl:PE X l tl):PI X tg l (Zzd tl):=by
 try unfold PE at *
 intro pins s σ H R I h;refine az (hl pins s σ H _ I h) fun v s1 ⟨x,H1,I1,r1,r,d,u,ex,hr,hd,hu,q⟩=>?_;subst ex
 cases (show v=Value.ref r from r1)
 have hv:s1.heap.IsValuesView r d:=(I1.ak r _ hr).1;obtain ⟨ob,e,I2⟩:=I1.freeze hd hu;obtain ⟨_,_,_,es,ep,dd,_⟩:=yy (I1.ak d u hd) hu e;refine Zrd hv e dd ?_;refine ⟨s1.heap.objs.size,[s1.heap.objs.size],_,_,_,rfl,I2.kept (t':=s1.toks) fun b o e=>Yc _ e,ZtI d _ ob u es ep hu dd,⟨_,Yh _ rfl,rfl,rfl⟩,fun b hb=>?_,q ob⟩;have e:b=s1.heap.objs.size:=by simpa using hb
 subst e;exact I2.fC (Yf _) (I2.ak.fresh (Yf _))
end L2
namespace L2
open PySem PySem.Spec PyProof.Rows PySem.W
def tN (H:Hp) (ys:List V) (Q:VK):Prop:=∀ p H',af H H'->H' p=some (.tup ys)->Q (.ref p) H'
theorem tN.old {H:Hp} {ys:List V} {Q:VK} {p:Addr} (h:tN H ys Q) (e:H p=some (.tup ys)):Q (.ref p) H:=h p H (af.refl _) e
theorem tN.new {H:Hp} {ys:List V} {Q:VK} {p:Addr} (h:tN H ys Q) (e:H p=none):Q (.ref p) (upd H p (.tup ys)):=h p _ (Zk e) Zb
section
variable {X:Cx}
theorem ZsR (l b:Addr) (ws:Array Value) (n n2:Nat) (dd vG:Option Addr) (sl lU:Array (Option Value)) :
  Meets (Builtin.«tuple.__add__» ⟨[.ref l,.ref b],[]⟩) (fun _ R s=>s.heap.get? l=some {cls:=.type "tuple",dict:=dd,data:=.seq #[] n,slots:=sl}/\s.heap.get? b=some {cls:=.type "tuple",dict:=vG,data:=.seq ws n2,slots:=lU}/\R (.ok (.ret (.ref b))) s):=
 .of_wp fun prog w A R s h=>by
  obtain ⟨hp,g,d,tk,os⟩:=s;obtain ⟨hl,hb,h⟩:=h;have f0:=AutoSeq1.sub_tuple_tuple
  wp_walk
  exact ⟨_,rfl,h⟩
inductive ou (K:Frag) (x:V) (y:V) (H:Hp) (Q:VK):Prop
 | mk (a:_) (b:_) (xs:_) (ys:_):x=.ref a->y=.ref b->av K H a xs->av K H b ys->(xs=[]->H b=some (.tup ys))->(ys=[]->xs≠[]->H a=some (.tup xs))->xs.length + ys.length<=Yj->tN H (xs++ys) Q->ou K x y H Q
theorem jv:du X (Ws .Add) (ou X.K):=by
 intro pins s σ H x y v u Q I rx ry h;obtain ⟨a,b,xs,ys,rfl,rfl,ha,hb,e1,e2,hz,q⟩:=h
 by_cases hx:xs=[]
 .subst hx
  cases rx
  cases ry
  obtain ⟨its,r1,⟨o1,g1,c1,n1,d1⟩,_⟩:=I.tuple ha;obtain ⟨gx,r2,⟨o2,g2,c2,n2,d2⟩,_⟩:=I.tuple hb;have hn:=r1.zero;subst hn;obtain ⟨cls,dd,data,sl⟩:=o1;obtain ⟨Mf,vG,data2,lU⟩:=o2;dsimp only at c1 d1 c2 d2;subst c1 d1 c2 d2;exact concat_meets ⟨_,g1,rfl⟩ ⟨_,g2,rfl⟩ noFill_tuple_add seq_tuple_add YaR YaM (YaF _ _) (ZsR a b gx.toArray n1 n2 dd vG sl lU) ⟨g1,g2,.ref b,H,I,rfl,q.old (e1 rfl)⟩
 .refine Zw1 pins s σ H _ _ v u Q I rx ry ⟨a,b,xs,ys,rfl,rfl,ha,hb,hx,hz,fun z=>?_,fun z p hp=>q.new hp⟩;have q':=q;rw [z,Y0] at q';exact q'.old (e2 z hx)
theorem Zs5 {t sl:Addr} {items:Array Value} {vl vu:Value} {lo hi:Option Int} {Q:Value->Shared->Prop} {prog:Program} {w:World} {A:Around} {E:Value->Shared->Prop} {s:Shared} (ht:IsTup s.heap t items) (hs:s.heap.IsSliceOf sl vl vu .none) (pl:IsPart vl lo) (pu:IsPart vu hi)
  (hw:HT.aS items.size 0 lo=0/\HT.aS items.size items.size hi=items.size) (h:Q (.ref t) s):wpAny (model prog w) A (getItem (.ref t) (.ref sl)) Q E s:=by
 obtain ⟨oS,gS,cS,dS⟩:=id hs;have tyS:s.TypeIs (.ref sl) "slice":=⟨oS,gS,cS⟩
 unfold getItem
 try with_reducible refine Xq ?_
 first | refine Ya (Ye ?_) | skip
 refine Ya (wpAny_sequenceKey ht.typeIs (by decide) (Ya (YI (name:=Xt "__getitem__") ht.typeIs X8 (YM X8 ht.typeIs entry_tuple_getitem ?_ (args_tuple_getitem _ _)))));show wpAny _ _ (Builtin.Tuple.tupleItemsOf (.ref t) >>= _) _ _ s;refine Ya (tupleItemsOf_ ht (Ya (wpAny_typeOf tyS ?_)));rw [if_pos (by decide)];refine Ya (HT.bM hs pl pu ?_)
 have yes:(((HT.aS items.size 0 lo:Nat):Int) == 0 && (1:Int) == 1 && (HT.aS items.size items.size hi - HT.aS items.size 0 lo) == items.size)=true:=by
  rw [hw.1,hw.2]
  simp
 show wpAny _ _ (if (((HT.aS items.size 0 lo:Nat):Int) == 0 && (1:Int) == 1 && (HT.aS items.size items.size hi - HT.aS items.size 0 lo) == items.size)=true then _ else _) _ _ s;rw [if_pos yes];refine Ya ?_;unfold Builtin.Tuple.tupleIsExact;refine Ya (wpAny_typeOf ht.typeIs (Ye ?_));rw [if_pos (by decide)];refine Ya (wpAny_rule (Ya (Ye (Ye ⟨_,rfl,Ye h⟩))))
inductive zi (K:Frag) (x:V) (lo:Option Int) (hi:Option Int) (H:Hp) (Q:VK):Prop
 | mk (a:_) (xs:_):x=.ref a->H a=some (.tup xs)->tN H (br xs lo hi) Q->zi K x lo hi H Q
theorem Zts {xs:List V} {lo hi:Option Int} (h:HT.aS xs.length 0 lo=0/\HT.aS xs.length xs.length hi=xs.length):br xs lo hi=xs:=by
 unfold br;rw [h.1,h.2,List.drop_zero,Nat.sub_zero,Xc]
theorem lB:yV X (zi X.K):=by
 intro pins s σ H x v vl vu lo hi sl Q I rx hs pl pu h;obtain ⟨a,xs,rfl,ha,q⟩:=h
 by_cases hw:HT.aS xs.length 0 lo=0/\HT.aS xs.length xs.length hi=xs.length
 .cases rx
  obtain ⟨its,r,ht,hz⟩:=I.tuple (av.of ha);have hlen:its.toArray.size=xs.length:=by rw [Yq];exact r.length.symm
  refine ⟨"tuple",_,PyProof.Rows.slot_tuple_getitem.lookup,ht.typeIs,Zs5 ht hs pl pu (by rw [hlen];exact hw) ⟨.ref a,H,I,rfl,?_⟩⟩;rw [Zts hw] at q;exact q.old ha
 .exact ZxW pins s σ H _ v vl vu lo hi sl Q I rx hs pl pu ⟨a,xs,rfl,av.of ha,hw,fun p hp=>q.new hp⟩
theorem ZsP (l:Addr) (items:Array Value) (n:Nat) (dd:Option Addr) (sl:Array (Option Value)) (u:Tok) :
  Meets (Builtin.«tuple.__mul__» ⟨[.ref l,.int 1 u],[]⟩) (fun _ R s=>s.heap.get? l=some {cls:=.type "tuple",dict:=dd,data:=.seq items n,slots:=sl}/\R (.ok (.ret (.ref l))) s):=
 .of_wp fun prog w A R s h=>by
  obtain ⟨hp,g,d,tk,os⟩:=s;obtain ⟨hl,h⟩:=h;have tf:¬(decide ((1:Int) < -2 ^ 63) || decide ((1:Int) >= 2 ^ 63))=true:=by decide
  have lX:(items.isEmpty || (1:Int) == 1)=true:=by rw [Yaj];exact .inr rfl
  wp_walk
  exact ⟨_,rfl,h⟩
theorem ZsQ (l:Addr) (items:Array Value) (n:Nat) (dd:Option Addr) (sl:Array (Option Value)) (k:Int) (u:Tok) (bO:items.isEmpty=false) (h1:k<=0) (h2:-(2 ^ 63)<=k) :
  Meets (Builtin.«tuple.__mul__» ⟨[.ref l,.int k u],[]⟩) (fun _ R s=>s.heap.get? l=some {cls:=.type "tuple",dict:=dd,data:=.seq items n,slots:=sl}/\R (.ok (.ret (.ref s.heap.objs.size))) {s with heap:=s.heap.push {cls:=.type "tuple",data:=.seq #[]}}):=
 .of_wp fun prog w A R s h=>by
  obtain ⟨hp,g,d,tk,os⟩:=s;obtain ⟨hl,h⟩:=h
  have tf:¬(decide (k < -2 ^ 63) || decide (k >= 2 ^ 63))=true:=by
   rw [Yaj,decide_eq_true_eq,decide_eq_true_eq];omega
  have lX:¬(items.isEmpty || k == 1)=true:=by
   rw [bO,Bool.false_or,beq_iff_eq];omega
  have nB:(decide (k<=0) || items.isEmpty)=true:=by
   rw [bO,Wr,decide_eq_true_eq];exact h1
  wp_walk
  rw [if_neg tf]
  wp_walk
  rw [if_neg lX]
  wp_walk
  exact ⟨_,rfl,h⟩
inductive rY (x:V) (y:V) (H:Hp) (Q:VK):Prop
 | mk (l:_) (k:_) (xs:_):x=.ref l->y=.int k->H l=some (.tup xs)->xs≠[]->-(2 ^ 63)<=k->k < 2 ^ 63->xs.length * k.toNat<=Yj->tN H (List.replicate k.toNat xs).flatten Q->rY x y H Q
theorem yp:du X (Ws .Mult) rY:=by
 intro pins s σ H x y v u Q I rx ry h;obtain ⟨l,k,xs,rfl,rfl,hH,bO,h1,h2,hz,q⟩:=h
 by_cases hk:1 < k
 .exact Zug pins s σ H _ _ v u Q I rx ry ⟨l,k,xs,rfl,rfl,hH,bO,hk,h2,hz,fun p hp=>q.new hp⟩
 .cases rx
  obtain ⟨t,rfl⟩:=ry;obtain ⟨z,its,r,o,e,hc,n,hd⟩:=(show bH X.prog X.w H s.heap l (.tup xs) from I.ak l _ hH)
  obtain ⟨cls,dd,data,sl⟩:=o;dsimp only at hc hd;subst hc hd
  have uF:its.toArray.isEmpty=false:=by
   cases its with
   | nil=>cases r;exact absurd rfl bO
   | cons _ _=>rfl
  by_cases o_:k=1
  .subst o_
   refine Yaw (T:="tuple") (U:="int") (by decide) ⟨_,e,rfl⟩ (fun s'=>Yat s' 1 t) KI F.fills_int_mul WO JU F.slot_int_index.lookup
    (XD WO (Yat s 1 t) F.entry_int_rmul (F.args_int_rmul_2 _ _) (J1 1 t l its.toArray n dd sl)
     ⟨e,rfl,⟨_,e,rfl⟩,XD F.slot_tuple_mul ⟨_,e,rfl⟩ F.entry_tuple_mul (Ybj _ _) (ZsP l its.toArray n dd sl t) ⟨e,.ref l,H,I,rfl,?_⟩⟩)
   have e1:(List.replicate (1:Int).toNat xs).flatten=xs:=by
    show (List.replicate 1 xs).flatten=xs
    simp
   rw [e1] at q;exact q.old hH
  .have h0:k<=0:=by omega
   refine Yaw (T:="tuple") (U:="int") (by decide) ⟨_,e,rfl⟩ (fun s'=>Yat s' k t) KI F.fills_int_mul WO JU F.slot_int_index.lookup
    (XD WO (Yat s k t) F.entry_int_rmul (F.args_int_rmul_2 _ _) (J1 k t l its.toArray n dd sl)
     ⟨e,rfl,⟨_,e,rfl⟩,XD F.slot_tuple_mul ⟨_,e,rfl⟩ F.entry_tuple_mul (Ybj _ _) (ZsQ l its.toArray n dd sl k t uF h0 h1) ⟨e,?_⟩⟩)
   have e0:(List.replicate k.toNat xs).flatten=[]:=by
    rw [show k.toNat=0 by omega];rfl
   rw [e0] at q;exact ⟨.ref _,_,I.y8 (t':=s.toks) (ys:=[]) (its:=[]) .nil (Yt _),rfl,q.new I.fresh⟩
end
end L2
namespace L2
open PySem PySem.Spec PyProof.Rows PySem.W
section
variable {X:Cx} {pins:List (Addr×Obj)} {σ:St} {H:Hp} {s:Shared}
theorem BD {P:Program} {w:World} {k:Key} {v:Value} (h:(ZW P w).is k v=true):RelV (kV k) v:=by
 cases k with
 | inl i=>exact Value.isInt_shape h
 | inr x=>exact Value.isStrOf_shape h
theorem yz:∀ {xs:List V} {us:List Value},xs.length=us.length->(∀ (j:Nat) (x:V) (u:Value),xs[j]?=some x->us[j]?=some u->RelV x u)->Vals xs us
 | [],[],_,_=>.nil
 | x::xs,u::us,hl,h=>.cons (h 0 x u rfl rfl) (yz (by simpa using hl) fun j y w a b=>h (j + 1) y w (by simpa using a) (by simpa using b))
 | [],_::_,hl,_=>by simp at hl
 | _::_,[],hl,_=>by simp at hl
theorem Inv.qv {a:Addr} {h':Heap} {t' c:Nat} {ys:List V} {its:Array Value} (I:Inv X pins σ H s) (hk:∀ b o,s.heap.get? b=some o->h'.get? b=some o) (ha:s.heap.objs.size<=a) (he:h'.get? a=some {cls:=.type "list",data:=.seq its c}) (r:Vals ys its.toList) (hz:ys.length<=Yj) :
  Inv X pins σ (upd H a (.lst ys)) {s with heap:=h',toks:=t'}:=I.laid hk ha ⟨hz,its.toList,c,r,by rw [Array.toArray_toList];exact he⟩
theorem ZnM (hc:X.calm=true:=by rfl):gK X (.type "list") (fun xs H Q=>∃ p kvs,xs=[.ref p]/\Rd H p (.dK kvs)/\∀ l,H l=none->Q (.ref l) (upd H l (.lst (kvs.map fun q=>kV q.1)))):=by
 intro pins s σ H xs us Q I r h;obtain ⟨p,kvs,rfl,hp,q⟩:=h;obtain ⟨u,rfl,ru⟩:=r.one
 cases (show u=Value.ref p from ru)
 obtain ⟨hz,hs,vs,rel,dd⟩:=me I.ak hp;obtain ⟨ep,gf⟩:=dd.dictAt;refine kdl_call (kdl_dict (knd:=ZW X.prog X.w) (kvs:=vs) (ep:=ep) hs) (I.ok.hd hc) gf (by rw [<- rel.length];exact hz) fun h' tk acc c hk he hi=>?_;refine ⟨.ref _,_,I.qv hk (Yf _) he (yz ?_ fun j x w hx hw=>?_) (by rw [Yb];exact hz),rfl,q _ I.fresh⟩
 .have e3:acc.toList.length=acc.size:=YQ;rw [Yb,e3,hi.1,rel.length]
 .obtain ⟨k,y,hy,vk⟩:=hi.2 j w (by rw [<- Xx];exact hw);have e1:(kvs.map (·.1))[j]?=some k:=by rw [rel.keys,Yo,hy];rfl
  have e2:x=kV k:=by
   rw [Yo] at hx e1
   cases e:kvs[j]? with
   | none=>rw [e] at hx;cases hx
   | some z=>
    rw [e] at hx e1
    cases hx
    cases e1
    rfl
  rw [e2];exact BD vk
theorem Ztv (hc:X.calm=true:=by rfl):gK X (.type "list") (fun xs H Q=>∃ p d kvs,xs=[.ref p]/\H p=some (rD p d)/\Rd H d (.dK kvs)/\∀ l,H l=none->Q (.ref l) (upd H l (.lst (kvs.map fun q=>q.2)))):=by
 intro pins s σ H xs us Q I r h;obtain ⟨p,d,kvs,rfl,hp,hd,q⟩:=h;obtain ⟨u,rfl,ru⟩:=r.one
 cases (show u=Value.ref p from ru)
 have hv:s.heap.IsValuesView p d:=(I.ak p _ hp).1;obtain ⟨hz,hs,vs,rel,dd⟩:=me I.ak hd;obtain ⟨ep,gf⟩:=dd.dictAt;refine kdl_call (kdl_values (knd:=ZW X.prog X.w) (kvs:=vs) (ep:=ep)) (I.ok.hd hc) ⟨hv,gf⟩ (by rw [<- rel.length];exact hz) fun h' tk acc c hk he hi=>?_;refine ⟨.ref _,_,I.qv hk (Yf _) he (yz ?_ fun j x w hx hw=>?_) (by rw [Yb];exact hz),rfl,q _ I.fresh⟩
 .have e3:acc.toList.length=acc.size:=YQ;rw [Yb,e3,hi.1,rel.length]
 .obtain ⟨k,hy⟩:=hi.2 j w (by rw [<- Xx];exact hw)
  have:∀ {a:List (Key×V)} {b:List (Key×Value)},KV a b->∀ (j:Nat) (x:V),(a.map fun q=>q.2)[j]?=some x->b[j]?=some (k,w)->RelV x w:=by
   intro a b r;unfold KV at r
   induction r with
   | nil=>intro j x hx _;simp at hx
   | cons h t ih=>
    intro j x hx hb
    cases j with
    | zero=>
     simp at hx hb
     subst hx
     have:=h.2
     rw [hb] at this;exact this
    | succ j=>exact ih j x (by simpa using hx) (by simpa using hb)
  exact this rel j x hx hy
theorem Zqq:∀ {ns:List Int} {vs:List Value},IntsAre vs ns->Vals (ns.map V.int) vs
 | [],_,h=>by rw [h.nil_inv];exact .nil
 | n::r,_,h=>by
  obtain ⟨t,vs',rfl,h'⟩:=h.cons_inv;exact .cons ⟨t,rfl⟩ (Zqq h')
theorem Zkh:gK X (.builtin "sorted") (fun xs H Q=>∃ (p:Addr) (ns:List Int),xs=[.ref p]/\ay X.K H p (ns.map V.int)/\ns.length < 64/\∀ (l:Addr) (ms:List Int),H l=none->ms.Perm ns->ms.Pairwise (·<=·)->Q (.ref l) (upd H l (.lst (ms.map V.int)))):=by
 intro pins s σ H xs us Q I r h;obtain ⟨p,ns,rfl,hp,iu,q⟩:=h;obtain ⟨u,rfl,ru⟩:=r.one
 cases (show u=Value.ref p from ru)
 obtain ⟨its,rv,pl,hz⟩:=I.list hp;have hi:IntsAre its ns:=ZnC rv;have hl:its.length < 64:=by rw [<- rv.length,Yb];exact iu
 refine sorted_ints pl.isList hi hl fun out ms a1 a2 a3=>?_;obtain ⟨e,he⟩:=sortedAll_at s.heap its out;refine ⟨.ref _,_,I.qv (t':=s.toks) (fun _ _=>sortedAll_old) (Wk _) he (Zqq a1) ?_,rfl,q _ ms (I.ak.fresh (Wk _)) a2 a3⟩;rw [Yb,a2.length_eq]
 have:(64:Nat)<=Yj:=by decide
 omega
theorem Zr0:∀ {xs:List Str} {us:List Value},Vals (xs.map V.str) us->StrsAre us xs
 | [],_,r=>by cases r;exact .nil
 | x::xs,_,r=>by
  cases r with
  | cons h t=>
   obtain ⟨tk,rfl⟩:=h;exact .cons x tk (Zr0 t)
end
end L2
namespace L2
open PySem PySem.Spec PyProof.Rows PySem.W
def gk {α:Type} (lt:Nat->Nat->Bool):KasT α->α
 | .ret a=>a
 | .ask i j k=>gk lt (k (lt i j))
def eK {α:Type} (n:Nat) (R:α->Prop):KasT α->Prop
 | .ret a=>R a
 | .ask i j k=>i < n/\j < n/\∀ b,eK n R (k b)
theorem eK.bind {α β:Type} {n:Nat} {R:α->Prop} {S:β->Prop} {f:α->KasT β} (hf:∀ a,R a->eK n S (f a)):∀ {t:KasT α},eK n R t->eK n S (t.bind f)
 | .ret a,h=>hf a h
 | .ask i j k,h=>⟨h.1,h.2.1,fun b=>eK.bind hf (h.2.2 b)⟩
def d8 (n:Nat) (p:Array Nat):Prop:=p.Perm (Yan (List.range n))
theorem d8.lt {n:Nat} {p:Array Nat} (h:d8 n p) (x:Nat) (hx:x∈p):x < n:=by
 have:=(Array.Perm.mem_iff h).mp hx
 simpa using this
theorem d8.at {n:Nat} {p:Array Nat} (h:d8 n p) (hn:0 < n) (i:Nat):p.getD i 0 < n:=by
 unfold Array.getD
 split
 .exact h.lt _ (Array.getElem_mem _)
 .exact hn
theorem d8.rev {n:Nat} {p:Array Nat} (h:d8 n p) (i j:Nat):d8 n (kas_rev p i j):=(mirror_perm p i j ((j - i) / 2)).trans h
theorem d8.bub {n:Nat} {p:Array Nat} (h:d8 n p) (i j:Nat):d8 n (bubble p i j):=(bubble_perm p i j).trans h
section
variable {n:Nat} (hn:0 < n)
include hn
theorem Gb {p:Array Nat} (h:d8 n p):∀ (f k:Nat),eK n (fun _=>True) (kas_asc p f k)
 | 0,_=>trivial
 | f + 1,k=>by
  refine ⟨h.at hn _,h.at hn _,fun b=>?_⟩
  cases b with
  | true=>exact trivial
  | false=>exact Gb h f (k + 1)
theorem Cd:∀ (f:Nat) {p:Array Nat} (k q:Nat),d8 n p->eK n (fun r=>d8 n r.1) (kas_desc f p k q)
 | 0,_,_,_,h=>h
 | f + 1,p,k,q,h=>by
  refine ⟨h.at hn _,h.at hn _,fun b=>?_⟩
  cases b with
  | true=>
   show eK n _ (if q > 0 then kas_desc f (kas_rev p (k - (q + 1)) k) (k + 1) 0 else kas_desc f p (k + 1) 0)
   split
   .exact Cd f _ _ (h.rev _ _)
   .exact Cd f _ _ h
  | false=>
   refine ⟨h.at hn _,h.at hn _,fun c=>?_⟩
   cases c with
   | true=>exact h
   | false=>exact Cd f _ _ h
theorem ZnQ {p:Array Nat} (h:d8 n p) (k r:Nat):eK n (fun r=>d8 n r.2) (kas_tail3 k r p):=by
 unfold kas_tail3;refine eK.bind (R:=fun _=>True) (fun m _=>?_) (Gb hn (h.rev _ _) _ _);exact h.rev 0 k
theorem Zil {p:Array Nat} (h:d8 n p) (k r:Nat):eK n (fun r=>d8 n r.2) (kas_descPart k r p):=by
 refine eK.bind (fun a ha=>?_) (Cd hn _ _ _ h);show eK n _ (if a.2.2 > 0 then _ else _)
 split
 .exact ZnQ hn (ha.rev _ _) _ _
 .exact ZnQ hn ha _ _
theorem Ztx {p:Array Nat} (h:d8 n p) (r:Nat):eK n (fun r=>d8 n r.2) (kas_count r p):=by
 refine eK.bind (fun a _=>?_) (Gb hn h _ _);show eK n _ (if (a == r)=true then _ else _)
 split
 .exact h
 .split
  .refine ⟨h.at hn _,h.at hn _,fun b=>?_⟩
   cases b with
   | true=>exact h
   | false=>exact Zil hn (h.rev _ _) _ _
  .exact Zil hn h _ _
theorem Hj {p:Array Nat} (h:d8 n p) (k:Nat):∀ (f l r:Nat),eK n (fun _=>True) (kas_place p k f l r)
 | 0,_,_=>trivial
 | f + 1,l,r=>by
  show eK n _ (if l >= r then _ else _)
  split
  .exact trivial
  .refine ⟨h.at hn _,h.at hn _,fun b=>?_⟩
   cases b with
   | true=>exact Hj h k f _ _
   | false=>exact Hj h k f _ _
theorem ZsF:∀ (f:Nat) {p:Array Nat} (k:Nat),d8 n p->eK n (d8 n) (kas_bin f p k)
 | 0,_,_,h=>h
 | f + 1,p,k,h=>eK.bind (fun l _=>ZsF f _ (h.bub _ _)) (Hj hn h _ _ _ _)
theorem wF:eK n (d8 n) (X1 n):=by
 have h:d8 n (Yan (List.range n)):=Array.Perm.refl _;refine eK.bind (fun a ha=>?_) (Ztx hn h n);show eK n _ (if a.1 < n then _ else _)
 split
 .exact ZsF hn _ _ ha
 .exact ha
end
theorem ZnB {α:Type} {n:Nat} {R:α->Prop} {lt:Nat->Nat->Bool} {cmp:Nat->Nat->(Bool->Shared->Prop)->Shared->Prop} {s:Shared} (hc:∀ i j C,i < n->j < n->C (lt i j) s->cmp i j C s) {Q:α->Shared->Prop} :
  ∀ {t:KasT α},eK n R t->Q (gk lt t) s->t.kasWp cmp Q s
 | .ret _,_,h=>h
 | .ask i j k,a,h=>hc i j _ a.1 a.2.1 (ZnB hc (a.2.2 _) h)
theorem wR {α:Type} {n:Nat} {R:α->Prop} (lt:Nat->Nat->Bool):∀ {t:KasT α},eK n R t->R (gk lt t)
 | .ret _,h=>h
 | .ask i j k,h=>by
  show R (gk lt (k (lt i j)));exact wR lt (h.2.2 (lt i j))
def mP (a b:Str×Int):Bool:=if a.1=b.1 then (if a.2=b.2 then false else decide (a.2 < b.2)) else decide (a.1.cps.toList < b.1.cps.toList)
def d3 (es:List (Str×Int)):List (Str×Int):=
 if es.length < 2 then es else (gk (fun i j=>mP (es.getD i (Str.empty,0)) (es.getD j (Str.empty,0))) (X1 es.length)).toList.map fun i=>es.getD i (Str.empty,0)
def vQ (r d:Addr):HO:=.ext fun h=>h.IsItemsView r d
section
variable {X:Cx} {pins:List (Addr×Obj)} {σ:St} {H:Hp} {s:Shared}
theorem GL:pJ X "dict.items" (fun x vs H Q=>∃ a u,x=.ref a/\vs=[]/\Rd H a u/\jZ u=true/\∀ p,H p=none->Q (.ref p) (upd H p (vQ p a))):=by
 intro pins s σ H x xs v us Q I rx rs h;obtain ⟨a,u,rfl,rfl,ha,hd,q⟩:=h
 cases (show v=Value.ref a from rx)
 have:=rs.zero
 subst this;obtain ⟨ob,e,hs,_,ex,es,ep,dd,_⟩:=I.dct ha hd;have hT:s.TypeIs (.ref a) "dict":=⟨ob,e,ex.1⟩
 have m:Meets (Builtin.«dict.items» ⟨[.ref a],[]⟩) (fun _ R s=>s.TypeIs (.ref a) "dict"/\R (.ok (.ret (.ref s.heap.objs.size))) {s with heap:=s.heap.push {cls:=.type "dict_items",data:=.fields #[.ref a]}}):=
  .of_wp fun P2 w2 A2 R2 s2 ⟨DD,k2⟩=>by
   refine Ya ?_;unfold Builtin.Dict.noArgs;refine Ya (Ya2 DD ?_);show wpAny _ _ (pure a) _ _ s2;refine Ye ?_;show wpAny _ _ (XY a >>= _) _ _ s2;unfold XY;rw [if_neg (by rw [hs];exact Yr)];exact Ya (Ye (Ya (YG (Ye ⟨_,rfl,k2⟩))))
 refine XD F.slot_dict_items hT F.entry_dict_items (F.args_dict_items_1 _) m ⟨hT,?_⟩;refine ⟨.ref _,upd H s.heap.objs.size (vQ s.heap.objs.size a),I.laid (t':=s.toks) (fun b ob q=>Yc _ q) (Yf _) ?_,rfl,q _ I.fresh⟩;exact ⟨⟨_,Yh _ rfl,rfl,rfl⟩,⟨_,Yh _ rfl⟩,fun h1 h2 ⟨o,e1,e2⟩ k=>⟨o,k o e1,e2⟩⟩
end
section
variable {prog:Program} {w:World} {A:Around} {E:Value->Shared->Prop} {s:Shared} {a:Addr} {vs:List Value} {κ:SortKind} {lt:Nat->Nat->Bool} {P:PySem.Fin->Shared->Prop} {n:Nat}
theorem ZpB (ho:s.heap.get? a=some (YZ "list" vs.toArray n)) (h2:2<=vs.length) (iu:vs.length < 64)
  (hk:∀ (h':Heap) (Q:SortKind->Shared->Prop),(∀ b o,b≠a->s.heap.get? b=some o->h'.get? b=some o)->Q κ {s with heap:=h'}->wpAny (model prog w) A (keyKind' vs.toArray) Q (fun _ _=>False) {s with heap:=h'})
  (hc:∀ (h':Heap) (i j:Nat) (C:Bool->Shared->Prop),(∀ b o,b≠a->s.heap.get? b=some o->h'.get? b=some o)->i < vs.length->j < vs.length->C (lt i j) {s with heap:=h'}->kas_ask prog w A κ vs i j C {s with heap:=h'})
  (h:∀ (h':Heap) (c:Nat),(gk lt (X1 vs.length)).size=vs.length->(∀ b o,b≠a->s.heap.get? b=some o->h'.get? b=some o)->h'.get? a=some (YZ "list" ((gk lt (X1 vs.length)).toList.map fun i=>vs.getD i Value.none).toArray c)->P (.done (.ret .none)) {s with heap:=h'}) :
  wpAny (model prog w) A (Builtin.«list.sort» ⟨[.ref a],[]⟩) P E s:=by
 have low:a < s.heap.objs.size:=Yl ho;obtain ⟨c1,xF⟩:∃ c1,(s.heap.update a (Y5 fun _=>(#[]:Array Value))).get? a=some (YZ "list" #[] c1):=⟨_,YaX ho fun _=>#[]⟩
 have sV:(((s.heap.update a (Y5 fun _=>(#[]:Array Value))).push (YZ "tuple" vs.toArray 0)).push (YZ "list" #[] 0)).get? a=some (YZ "list" #[] c1):=Yc _ (Yc _ xF)
 have sO:∀ b o,b≠a->s.heap.get? b=some o->(((s.heap.update a (Y5 fun _=>(#[]:Array Value))).push (YZ "tuple" vs.toArray 0)).push (YZ "list" #[] 0)).get? b=some o:=fun b o hb e=>
  Yc _ (Yc _ ((XR _ _ (WT hb)).trans e))
 have big:vs.length<=Yj:=by rw [Wz];omega
 rw [list_sort_plain];refine Ya (listItems_at ho rfl (Ya (listUpdate_at ho rfl ?_ (by rw [Yq];exact big) (Yt _))));refine Ya (seqEpoch_at xF rfl (Ya (wpAny_newTuple ?_ big)));refine Ya (wpAny_newList (Xq ?_) (Yt _));show wpAny (model prog w) A _ P E {s with heap:=((s.heap.update a (Y5 fun _=>(#[]:Array Value))).push (YZ "tuple" vs.toArray 0)).push (YZ "list" #[] 0)};dsimp only;have two:¬ vs.toArray.size < 2:=by rw [Yq];omega
 rw [if_neg two,if_neg two];refine Ya (Xa (hk _ (fun Dz s'=>Dz=κ/\s'={s with heap:=((s.heap.update a (Y5 fun _=>(#[]:Array Value))).push (YZ "tuple" vs.toArray 0)).push (YZ "list" #[] 0)}) sO ⟨rfl,rfl⟩) (fun Dz s0 A7=>?_) fun _ _ x=>x.elim);obtain ⟨rfl,rfl⟩:=A7
 have asks:=ZnB (cmp:=kas_ask prog w A Dz vs) (s:={s with heap:=((s.heap.update a (Y5 fun _=>(#[]:Array Value))).push (YZ "tuple" vs.toArray 0)).push (YZ "list" #[] 0)}) (lt:=lt) (fun i j C hi hj q=>hc _ i j C sO hi hj q)
  (Q:=fun p s'=>p=gk lt (X1 vs.length)/\s'={s with heap:=((s.heap.update a (Y5 fun _=>(#[]:Array Value))).push (YZ "tuple" vs.toArray 0)).push (YZ "list" #[] 0)}) (wF (n:=vs.length) (by omega)) ⟨rfl,rfl⟩
 refine Ya (Xa (kat_run (Q:=fun cY s'=>∃ p:Array Nat,p.size=vs.length/\arrOf cY=p.map (kas_item (vs.toArray.zip vs.toArray))/\failedOf cY=none/\p=gk lt (X1 vs.length)/\s'={s with heap:=((s.heap.update a (Y5 fun _=>(#[]:Array Value))).push (YZ "tuple" vs.toArray 0)).push (YZ "list" #[] 0)})
  rfl h2 iu (fun p' cY s' b1 b2 b3 b4=>⟨p',b1,b2,b3,b4.1,b4.2⟩) asks) ?_ fun _ _ e=>e)
 rintro ⟨⟨⟩,cY⟩ s' ⟨p,hp,har,hf,rfl,rfl⟩
 dsimp only;have len:(Yan ((gk lt (X1 vs.length)).toList.map fun i=>vs.getD i Value.none)).size=vs.length:=by rw [Yq,Yb,YQ,hp]
 rw [kat_snds rfl har]
 obtain ⟨c2,nB⟩:∃ c2,((((s.heap.update a (Y5 fun _=>(#[]:Array Value))).push (YZ "tuple" vs.toArray 0)).push (YZ "list" #[] 0)).update a (Y5 fun _=>Yan ((gk lt (X1 vs.length)).toList.map fun i=>vs.getD i Value.none))).get? a=some (YZ "list" (Yan ((gk lt (X1 vs.length)).toList.map fun i=>vs.getD i Value.none)) c2):=
  ⟨_,YaX sV fun _=>Yan ((gk lt (X1 vs.length)).toList.map fun i=>vs.getD i Value.none)⟩
 refine Ya (seqEpoch_at sV rfl (Ya (listUpdate_at sV rfl ?_ (Yt _) (Yn (Yam len) (Nat.le_succ_of_le big)))));rw [hf]
 simp only [bne_self_eq_false,YY,if_false]
 exact Ye (h _ c2 hp (fun b o hb e=>(XR _ _ (WT hb)).trans (sO b o hb e)) nB)
theorem Zr1 (ho:s.heap.get? a=some (YZ "list" vs.toArray n)) (h2:vs.length < 2)
  (h:∀ (h':Heap) (c:Nat),(∀ b o,b≠a->s.heap.get? b=some o->h'.get? b=some o)->h'.get? a=some (YZ "list" vs.toArray c)->P (.done (.ret .none)) {s with heap:=h'}) :
  wpAny (model prog w) A (Builtin.«list.sort» ⟨[.ref a],[]⟩) P E s:=by
 have low:a < s.heap.objs.size:=Yl ho;obtain ⟨c1,xF⟩:∃ c1,(s.heap.update a (Y5 fun _=>(#[]:Array Value))).get? a=some (YZ "list" #[] c1):=⟨_,YaX ho fun _=>#[]⟩
 have sV:(((s.heap.update a (Y5 fun _=>(#[]:Array Value))).push (YZ "tuple" vs.toArray 0)).push (YZ "list" #[] 0)).get? a=some (YZ "list" #[] c1):=Yc _ (Yc _ xF)
 have sO:∀ b o,b≠a->s.heap.get? b=some o->(((s.heap.update a (Y5 fun _=>(#[]:Array Value))).push (YZ "tuple" vs.toArray 0)).push (YZ "list" #[] 0)).get? b=some o:=fun b o hb e=>
  Yc _ (Yc _ ((XR _ _ (WT hb)).trans e))
 have big:vs.length<=Yj:=by rw [Wz];omega
 rw [list_sort_plain];refine Ya (listItems_at ho rfl (Ya (listUpdate_at ho rfl ?_ (by rw [Yq];exact big) (Yt _))));refine Ya (seqEpoch_at xF rfl (Ya (wpAny_newTuple ?_ big)));refine Ya (wpAny_newList (Xq ?_) (Yt _));show wpAny (model prog w) A _ P E {s with heap:=((s.heap.update a (Y5 fun _=>(#[]:Array Value))).push (YZ "tuple" vs.toArray 0)).push (YZ "list" #[] 0)};dsimp only;have two:vs.toArray.size < 2:=by rw [Yq];omega
 rw [if_pos two,if_pos two];refine Ya (Ye ?_);rw [StateT.run_pure];refine Ya (Ye ?_);dsimp only
 have LH:Array.map (·.2) (arrOf (SortSt.mk' general' (vs.toArray.zip vs.toArray) #[] 7 none))=vs.toArray:=by
  show Array.map (·.2) (vs.toArray.zip vs.toArray)=vs.toArray
  simp only [List.zip_toArray,List.map_toArray]
  rw [show List.map (fun x=>x.2) (vs.zip vs)=vs from List.map_snd_zip (Yf _)]
 obtain ⟨c2,nB⟩:∃ c2,((((s.heap.update a (Y5 fun _=>(#[]:Array Value))).push (YZ "tuple" vs.toArray 0)).push (YZ "list" #[] 0)).update a (Y5 fun _=>vs.toArray)).get? a=some (YZ "list" vs.toArray c2):=⟨_,YaX sV fun _=>vs.toArray⟩
 rw [LH];refine Ya (seqEpoch_at sV rfl (Ya (listUpdate_at sV rfl ?_ (Yt _) (by rw [Yq];exact Nat.le_succ_of_le big))))
 simp only [bne_self_eq_false,YY,if_false]
 exact Ye (h _ c2 (fun b o hb e=>(XR _ _ (WT hb)).trans (sO b o hb e)) nB)
end
section
variable {X:Cx} {pins:List (Addr×Obj)} {σ:St} {H:Hp} {s:Shared}
theorem Inv.many {H':Hp} {h':Heap} {t':Nat} (I:Inv X pins σ H s) (old:∀ b o,s.heap.get? b=some o->h'.get? b=some o) (up:af H H') (nw:∀ b o,H' b=some o->H b=some o∨(s.heap.get? b=none/\bH X.prog X.w H' h' b o)):Inv X pins σ H' {s with heap:=h',toks:=t'}:=by
 refine I.un ⟨fun b o e _ _ _=>old b o e,fun b o e _ _ _=>⟨o.slots,old b o e⟩,fun b o e n _=>?_,fun b o e _=>⟨o,old b o e⟩,fun b xs e=>up _ _ e,fun b o u e=>up _ _ e,fun b ps e=>⟨#[],by rw [up _ _ e];simp⟩⟩ fun b o e=>?_
 .cases z:H' b with
  | none=>rfl
  | some q=>
   rcases nw b q z with y | ⟨y,_⟩
   .rw [n] at y;cases y
   .rw [e] at y;cases y
 .rcases nw b o e with y | ⟨_,y⟩
  .exact (I.ak b o y).dA (fun c u _ q=>old c u q) (fun c q=>up _ _ q) fun c xs q=>up _ _ q
  .exact y
def qf:List (Addr×List V)->Hp->Hp
 | [],H=>H
 | p::r,H=>upd (qf r H) p.1 (.tup p.2)
theorem Zpt:∀ (ps:List (Addr×List V)) (H:Hp) (b:Addr) (o:HO),qf ps H b=some o->H b=some o∨∃ xs,(b,xs)∈ps/\o=.tup xs
 | [],_,_,_,h=>.inl h
 | p::r,H,b,o,h=>by
  by_cases e:b=p.1
  .subst e;have h':upd (qf r H) p.1 (.tup p.2) p.1=some o:=h;rw [Zb] at h'
   cases h'
   exact .inr ⟨p.2,Yw,rfl⟩
  .have h':upd (qf r H) p.1 (.tup p.2) b=some o:=h;rw [Ze e] at h';rcases Zpt r H b o h' with q | ⟨xs,q,rfl⟩
   .exact .inl q
   .exact .inr ⟨xs,Yp _ q,rfl⟩
theorem ZmZ:∀ (ps:List (Addr×List V)) (H:Hp) (b:Addr),b ∉ ps.map (·.1)->qf ps H b=H b
 | [],_,_,_=>rfl
 | p::r,H,b,h=>by
  have h1:b≠p.1:=fun z=>h (by rw [z];exact Yw);show upd (qf r H) p.1 (.tup p.2) b=H b;rw [Ze h1];exact ZmZ r H b fun z=>h (Yp _ z)
theorem Zpu:∀ (ps:List (Addr×List V)) (H:Hp) (b:Addr) (xs:List V),(ps.map (·.1)).Nodup->(b,xs)∈ps->qf ps H b=some (.tup xs)
 | p::r,H,b,xs,nd,h=>by
  have nd':(p.1::r.map (·.1)).Nodup:=nd;obtain ⟨n1,n2⟩:=List.nodup_cons.mp nd';rcases List.mem_cons.mp h with e | h
  .subst e;exact Zb
  .have h1:b≠p.1:=fun z=>n1 (by rw [<- z];exact List.mem_map.mpr ⟨(b,xs),h,rfl⟩);show upd (qf r H) p.1 (.tup p.2) b=_;rw [Ze h1];exact Zpu r H b xs n2 h
end
end L2
namespace L2
open PySem PySem.Spec PyProof.Rows PySem.W
section
variable {X:Cx} {pins:List (Addr×Obj)} {σ:St} {H:Hp} {s:Shared}
theorem Inv.iL {t':Nat} {wr:List Addr} {T:Addr} {xs:List V} {h':Heap} (I:Inv X pins σ H s) (hf:∀ b∈wr,eg X pins H b) (k:∀ b o,b ∉ wr->s.heap.get? b=some o->h'.get? b=some o) (hT:s.heap.objs.size<=T)
  (new:bH X.prog X.w (upd H T (.tup xs)) h' T (.tup xs)):Inv X pins σ (upd H T (.tup xs)) {s with heap:=h',toks:=t'}:=by
 have EE:s.heap.get? T=none:=by
  cases z:s.heap.get? T with
  | none=>rfl
  | some o=>exact absurd (Yl z) (Nat.not_lt.mpr hT)
 have hHT:H T=none:=I.ak.fresh hT;have qL:∀ b u,H b=some u->b ∉ wr:=fun b u e z=>by rw [(hf b z).1] at e;cases e
 have nT:∀ b u,H b=some u->b≠T:=fun b u e z=>by rw [z,hHT] at e;cases e
 refine I.step (g':=s.gens) (d':=s.drawn) (ch:=wr) (fun b hb=>?_) (fun b o _ _ hc e _=>k b o hc e) (fun b o _ _ hc e _=>⟨o.slots,k b o hc e⟩) (fun b o hc e n=>?_)
  (fun b o hc e=>⟨o,k b o hc e⟩) (fun b ys e=>by rw [Ze (nT _ _ e)];exact e) (fun b o u e=>by rw [Ze (nT _ _ e)];exact e) (fun b ps e=>⟨#[],by rw [Ze (nT _ _ e),e];simp⟩) (fun m hm=>?_) (fun b u e=>?_) I.bare
 .obtain ⟨f0,f1,f2,f3,f4,f5⟩:=hf b hb;exact ⟨f3,f1,f4,f5⟩
 .rw [Ze (fun z=>by rw [z,EE] at e;cases e)];exact n
 .obtain ⟨o,es,ep,ho,r⟩:=hm;exact ⟨o,es,ep,k _ o (fun z=>(hf _ z).2.1 rfl) ho,r⟩
 .by_cases z:b=T
  .subst z;rw [Zb] at e
   cases e
   exact new
  .rw [Ze z] at e;refine (I.ak b u e).dA (fun c v hc q=>k c v ?_ q) (fun c q=>by rw [Ze (nT _ _ q)];exact q) fun c ys q=>by rw [Ze (nT _ _ q)];exact q
   rcases hc with y | y
   .rw [y];exact qL b u e
   .exact qL _ _ y
theorem Inv.iM {t':Nat} {wr:List Addr} {h':Heap} (I:Inv X pins σ H s) (hf:∀ b∈wr,eg X pins H b) (k:∀ b o,b ∉ wr->s.heap.get? b=some o->h'.get? b=some o):Inv X pins σ H {s with heap:=h',toks:=t'}:=by
 have qL:∀ b u,H b=some u->b ∉ wr:=fun b u e z=>by rw [(hf b z).1] at e;cases e
 refine I.step (g':=s.gens) (d':=s.drawn) (ch:=wr) (fun b hb=>?_) (fun b o _ _ hc e _=>k b o hc e) (fun b o _ _ hc e _=>⟨o.slots,k b o hc e⟩) (fun b o hc e n=>n)
  (fun b o hc e=>⟨o,k b o hc e⟩) (fun b ys e=>e) (fun b o u e=>e) (fun b ps e=>⟨#[],by rw [e];simp⟩) (fun m hm=>?_) (fun b u e=>?_) I.bare
 .obtain ⟨f0,f1,f2,f3,f4,f5⟩:=hf b hb;exact ⟨f3,f1,f4,f5⟩
 .obtain ⟨o,es,ep,ho,r⟩:=hm;exact ⟨o,es,ep,k _ o (fun z=>(hf _ z).2.1 rfl) ho,r⟩
 .refine (I.ak b u e).dA (fun c v hc q=>k c v ?_ q) (fun c q=>q) fun c ys q=>q;rcases hc with y | y
  .rw [y];exact qL b u e
  .exact qL _ _ y
end
section
variable {prog:Program} {w:World} {A:Around} {E:Value->Shared->Prop} {s:Shared}
theorem Fp {it a:Addr} {i:Nat} {vs:Array Value} {x:Value} {Q:Value->Shared->Prop} (st:s.heap.IsTupleIter it a i) (ha:s.heap.IsTuple a vs) (hx:vs[i]?=some x)
  (q:∀ k,k.IsTupleIter it a (i + 1)->Xv it s.heap k->Q x {s with heap:=k}):wpAny (model prog w) A (Y2 (.ref it)) Q E s:=by
 obtain ⟨u,e1,c1,d1⟩:=id st;obtain ⟨ua,e2,_,m,d2⟩:=ha;unfold Y2;refine Ya (YI (name:=Xt "__next__") st.typeIs Ww (YM Ww st.typeIs F.entry_tuple_iterator_next ?_ (F.args_tuple_iterator_next_1 _)));change wpAny _ _ (field (Value.ref it) 0 >>= _) _ _ s;refine Ya (YX e1 d1 (x:=.ref a) rfl ?_);show wpAny _ _ (if (Value.ref a == Value.none)=true then _ else _) _ _ s;rw [if_neg (by exact Yr)];change wpAny _ _ (field (Value.ref it) 1 >>= _) _ _ s;refine Ya (YX e1 d1 (x:=.int i 0) rfl ?_);change wpAny _ _ (seqItems? (Value.ref a) >>= _) _ _ s;refine (Ya (We e2 d2 ?_))
 simp only [YS,hx]
 refine Ya (Wy e1 d1 (by simp) (Ye ⟨x,rfl,Ye (q _ ?_ (XO ..))⟩));refine ⟨_,W5 _ e1 (Ya5 (Wj d1 _)),(Obj.cls_mapFields ..).trans c1,?_⟩;rw [Wj d1]
 simp [Wl]
theorem HB {it a:Addr} {i:Nat} {vs:Array Value} {Q:Value->Shared->Prop} (hh:A.handled=none) (st:s.heap.IsTupleIter it a i) (ha:s.heap.IsTuple a vs) (hx:vs[i]?=none)
  (q:∀ k x,Heap.ExtBut it s.heap k->(∃ o,k.get? x=some o/\o.cls=.type "StopIteration")->E (.ref x) {s with heap:=k}):wpAny (model prog w) A (Y2 (.ref it)) Q E s:=by
 obtain ⟨u,e1,c1,d1⟩:=id st;obtain ⟨ua,e2,_,m,d2⟩:=ha;unfold Y2;refine Ya (YI (name:=Xt "__next__") st.typeIs Ww (YM Ww st.typeIs F.entry_tuple_iterator_next ?_ (F.args_tuple_iterator_next_1 _)));change wpAny _ _ (field (Value.ref it) 0 >>= _) _ _ s;refine Ya (YX e1 d1 (x:=.ref a) rfl ?_);show wpAny _ _ (if (Value.ref a == Value.none)=true then _ else _) _ _ s;rw [if_neg (by exact Yr)];change wpAny _ _ (field (Value.ref it) 1 >>= _) _ _ s;refine Ya (YX e1 d1 (x:=.int i 0) rfl ?_);change wpAny _ _ (seqItems? (Value.ref a) >>= _) _ _ s;refine (Ya (We e2 d2 ?_))
 simp only [YS,hx]
 refine Ya (wpAny_rule (Ya (Wy e1 d1 (by simp) ?_)));change wpAny _ _ (newExc (Value.type "StopIteration") [] >>= _) _ _ _;refine Ya ?_;simp only [newExc,newTuple];refine Ya (YG (Ya (m:=Wf _ _) (wpAny_of_eq (a:=Value.none) (by first | rfl | (simp only [Wf];rfl)) ?_)) (by size_fits));refine YG ?_ (by size_fits);simp only [raiseNew];refine Ya (wpAny_handled ?_);first | rw [show A.in1.handled=none from hh] | rw [hh]
 refine Ya (Ye (wpAny_throw (q _ _ (((XO ..).extBut.push _).push _) ⟨_,Yh _ rfl,rfl⟩)))
theorem Zu4 (hh:A.handled=none) (it a:Addr) (bO:a≠it) (vs:Array Value) :
  Draws prog w A it [it,a] vs.size (fun i v=>vs[i]?=some v) (fun i h=>h.IsTupleIter it a i/\h.IsTuple a vs) where
 live:=fun _ _ st=>let ⟨o,ho,_⟩:=st.1;⟨o,ho⟩
 frame:=fun _ _ _ st hk=>⟨st.1.at fun o e=>hk it (by simp) o e,let ⟨o,e,r⟩:=st.2;⟨o,hk a (by simp) o e,r⟩⟩
 item:=fun i s Q E hi st hQ=>Fp st.1 st.2 (x:=vs[i]) (by simp [hi]) fun k cY sb=>hQ _ k s.toks (by simp [hi]) ⟨cY,st.2.extBut sb.extBut bO⟩ sb
 done:=fun s Q E st hE=>HB hh st.1 st.2 (by simp) hE
end
end L2
namespace L2
open PySem PySem.Spec PyProof.Rows PySem.W
open AutoSeq1 (wpAny_loadPart')
section
variable {prog:Program} {w:World} {A:Around} {E:Value->Shared->Prop} {s:Shared}
theorem Zrr (a:Addr) (vs:Array Value) (n:Nat) (dd:Option Addr) (sl:Array (Option Value)) :
  Meets (Builtin.«enumerate.__new__» ⟨[.type "enumerate",.ref a],[]⟩) (fun _ R s=>s.heap.get? a=some {cls:=.type "tuple",dict:=dd,data:=.seq vs n,slots:=sl}/\
   R (.ok (.ret (.ref (s.heap.push {cls:=.type "tuple_iterator",data:=.fields #[.ref a,.int 0 0]}).objs.size)))
    {s with heap:=(s.heap.push {cls:=.type "tuple_iterator",data:=.fields #[.ref a,.int 0 0]}).push {cls:=.type "enumerate",data:=.fields #[.none,.bool false,.ref s.heap.objs.size,Wl 0,.none,.none]}}):=
 .of_wp fun prog w A R s h=>by
  obtain ⟨hp,g,d,tk,os⟩:=s;obtain ⟨hl,h⟩:=h;have mr:=sub_enumerate;have hT:Heap.IsTuple (Shared.heap ⟨hp,g,d,tk,os⟩) a vs:=⟨_,hl,rfl,n,rfl⟩
  wp_walk using WK hl
  refine wpAny_stack_any fun st=>Ye ?_
  split
  .rename_i c _ _ _ _ _
   cases (c == Value.type "enumerate")
   all_goals (wp_walk using WK hl,Yao hT;exact ⟨_,rfl,h⟩)
  .wp_walk using WK hl,Yao hT;exact ⟨_,rfl,h⟩
theorem Ztw {a:Addr} {vs:Array Value} {Q:Value->Shared->Prop} (ha:s.heap.IsTuple a vs)
  (h:∀ k,IsEnum k (s.heap.objs.size + 1) s.heap.objs.size 0 .none->k.IsTupleIter s.heap.objs.size a 0->(∀ b o,s.heap.get? b=some o->k.get? b=some o)->Q (.ref (s.heap.objs.size + 1)) {s with heap:=k}) :
  wpAny (model prog w) A (call (.type "enumerate") [.ref a]) Q E s:=by
 obtain ⟨⟨c,dd,dt,sl⟩,e,hc,n,hd⟩:=ha
 replace hc:c=.type "tuple":=hc
 replace hd:dt=.seq vs n:=hd
 subst hc hd;refine callType_new F.called_enumerate (by decide) (F.typeCall_enumerate_1 _) (F.newCall_enumerate_1 _) (fun obj=>F.args_object_init_2 obj _) F.entry_enumerate_new (Zrr a vs n dd sl) ⟨e,?_⟩;have hz:(s.heap.push {cls:=.type "tuple_iterator",data:=.fields #[.ref a,.int 0 0]}).objs.size=s.heap.objs.size + 1:=XX ..;show _/\_;rw [hz]
 have he:IsEnum ((s.heap.push {cls:=.type "tuple_iterator",data:=.fields #[.ref a,.int 0 0]}).push {cls:=.type "enumerate",data:=.fields #[.none,.bool false,.ref s.heap.objs.size,Wl 0,.none,.none]}) (s.heap.objs.size + 1) s.heap.objs.size 0 .none:=by
  have:=Yh (s.heap.push {cls:=.type "tuple_iterator",data:=.fields #[.ref a,.int 0 0]}) (o:={cls:=.type "enumerate",data:=.fields #[.none,.bool false,.ref s.heap.objs.size,Wl 0,.none,.none]}) rfl
  rw [hz] at this;exact this
 exact ⟨⟨_,he,rfl⟩,h _ he ⟨_,Yc _ (Yh _ rfl),rfl,rfl⟩ fun b o x=>Yc _ (Yc _ x)⟩
end
theorem BA {P:Program} {w:World} {H:Hp} {h:Heap} {T:Addr} {xs:List V} {vs:Array Value} (hT:h.IsTuple T vs) (r:Vals xs vs.toList) (hz:xs.length<=Yj):bH P w H h T (.tup xs):=by
 exact ⟨hz,vs.toList,r,hT⟩
def om (K:Frag) (a:Addr):It:=
 ⟨fun i H=>∃ xs x,av K H a xs/\xs[i]?=some x,fun i H x H'=>∃ t y,H t=none/\x=.ref t/\(∀ xs,av K H a xs->xs[i]?=some y)/\H'=upd H t (.tup [.int (i:Nat),y]),fun i H=>∃ xs,av K H a xs/\xs.length<=i⟩
theorem ZsO {P:Program} {w:World} {K:Frag} {elts:List Expr} {k:Nat} {pos:Pos} (a e it:Addr) (h1:a≠it) (h2:e≠it) (h3:a≠e):Turn P w K (.Tuple elts k pos) (om K a) [e,it] e (fun i h=>(∃ old,IsEnum h e it i old)/\h.IsTupleIter it a i) where
 mem:=by simp
 obj:=fun i h st b hb=>by
  obtain ⟨⟨old,he⟩,o,ho,hc,hd⟩:=st;rcases List.mem_cons.mp hb with rfl | hb
  .exact ⟨_,he,fun v z=>by cases z⟩
  .have z:b=it:=by simpa using hb
   subst z;exact ⟨o,ho,fun v z=>by rw [hd] at z;cases z⟩
 keep:=fun i h h' st k=>by
  obtain ⟨⟨old,he⟩,st⟩:=st;exact ⟨⟨old,k e (by simp) _ he⟩,st.at fun o x=>k it (by simp) o x⟩
 item:=by
  intro X hP hw hK hc i pins s σ H E I hf st hg;subst hP hw hK;obtain ⟨xs,x,hq,hx⟩:=hg;obtain ⟨its,rv,p,hz⟩:=I.tuple hq;obtain ⟨u,hu,ru⟩:=rv.get hx;have hi:i < its.length:=(List.getElem?_eq_some_iff.mp hu).1;have W:=WalksT.enumerateD (prog:=X.prog) (w:=X.w) (A:=X.A) (Zu4 (A:=X.A.in1) (by first | exact I.ok.hd hc | exact (I.ok.hd hc)) it a h1 its.toArray) e h2 (by simp [h2,h3.symm]) (by simp);refine W.item i s _ _ (by simpa using hi) ⟨st.1,st.2,p⟩ fun T vals h' tk hv hT hI hM hk=>?_;obtain ⟨t,y,hy,rfl⟩:=hv
  have hyu:y=u:=by
   have:its[i]?=some y:=by simpa using hy
   rw [hu] at this;exact (Yu this).symm
  subst hyu;refine ⟨_,rfl,W.go elts k pos i T _ _ _ hM fun j8 zd zM=>?_⟩;have hTw:=W.apart i T h' hM;have LZ:j8.IsTuple T #[.int i t,y]:=let ⟨o,e1,r⟩:=hI;⟨o,zM T o hTw e1,r⟩
  have EE:H T=none:=I.ak.fresh hT;refine ⟨.ref T,_,I.iL (t':=tk) (wr:=[e,it]) hf (fun b o hb q=>zM b o hb (hk b o hb q)) hT (BA (xs:=[.int (i:Nat),x]) LZ (.cons ⟨t,rfl⟩ (.cons ru .nil)) (by show 2<=Yj;decide)),rfl,⟨T,x,EE,rfl,fun ys hy=>by rw [I.eo hy hq];exact hx,rfl⟩,⟨zd.1,zd.2.1⟩,fun b hb=>?_⟩;have hbT:b≠T:=fun z=>hTw (by rw [<- z];exact hb);show upd H T _ b=none;rw [Ze hbT];exact (hf b hb).1
 done:=by
  intro X hP hw hK hc i pins s σ H E I hf st hg;subst hP hw hK;obtain ⟨xs,hq,hx⟩:=hg;obtain ⟨its,rv,p,hz⟩:=I.tuple hq;have hl:=rv.length;obtain ⟨⟨old,he⟩,pO⟩:=st;have hT:s.TypeIs (.ref e) "enumerate":=⟨_,he,rfl⟩
  unfold WQ;refine Ya (X9 (YI (name:=Xt "__next__") hT F.slot_enumerate_next (YM F.slot_enumerate_next hT F.entry_enumerate_next ?_ (F.args_enumerate_next_1 _))));change wpAny _ _ (field (Value.ref e) 2 >>= _) _ _ _;refine Ya (YX he rfl (x:=.ref it) rfl (Ya (HB (I.ok.hd hc) pO (show s.heap.IsTuple a its.toArray from p) (by simp;omega) fun h' x hb nj=>?_)));obtain ⟨o,ho,dh⟩:=nj;refine Ya (W7 (T:="StopIteration") (b:=true) ⟨o,ho,dh⟩ Yar (Ye ⟨rfl,I.iM (t':=s.toks) (wr:=[e,it]) hf fun b o hn q=>hb b o (fun z=>hn (by simp [z])) q⟩))
 self:=fun _ _ _ _ _ st h=>by obtain ⟨⟨old,he⟩,_⟩:=st;exact wpAny_pyIter_enum he h
def Zyv (K:Frag) (ta:TA):TI:=fun σ H R=>ta σ H fun vs H1=>∃ a,vs=[.ref a]/\(∃ xs,av K H1 a xs)/\R (om K a) H1
theorem ZpX {X:Cx} {elts:List Expr} {k:Nat} {tp:Pos} {a:Expr} {ta:TA} {p pos:Pos} (hg:Gl X "enumerate") (hm:X.mg "enumerate"=none) (ha:PA X [a] ta) (hs:YF [a] X.env=[(false,eval a X.env)]:=by rfl):PI X (.Tuple elts k tp) (.Call (.Name "enumerate" p) [a] [] pos) (Zyv X.K ta):=by
 try unfold PA at *
 intro pins s σ H R I h;refine Call_ (tW I hg hm PyProof.Rows.Boot.«enumerate» (Xo (az (ha pos pins s σ H _ I h) fun us s1 ⟨vs,H1,I1,r1,q1⟩=>?_) hs rfl));obtain ⟨a,e,⟨xs,hq⟩,q⟩:=q1;subst e
 cases r1 with
 | cons r rr=>
  cases rr
  cases (show _=Value.ref a from r)
  obtain ⟨its,rv,p,hz⟩:=I1.tuple hq;have aT:a < s1.heap.objs.size:=by obtain ⟨o,e,_⟩:=p;exact Yl e
  refine Ztw (show s1.heap.IsTuple a its.toArray from p) fun k he st kk=>?_;refine wpAny_pyIter_enum he ?_;refine ⟨s1.heap.objs.size + 1,[s1.heap.objs.size + 1,s1.heap.objs.size],_,_,H1,rfl,I1.kept (t':=s1.toks) kk,ZsO a _ _ (Yy aT) (Nat.succ_ne_self _) (Yy (Nat.lt_succ_of_lt aT)),⟨⟨_,he⟩,st⟩,fun b hb=>?_,q⟩
  have qU:s1.heap.objs.size<=b:=by
   rcases List.mem_cons.mp hb with rfl | hb
   .exact Wk _
   .have:b=s1.heap.objs.size:=by simpa using hb
    exact Yam this.symm
  exact I1.fC qU (I1.ak.fresh qU)
end L2
namespace L2
open PySem PySem.Spec PyProof.Rows PySem.W
open AutoSeq1 (wpAny_loadPart')
section
variable {prog:Program} {w:World} {A:Around} {E:Value->Shared->Prop} {s:Shared}
theorem ZwF {z ti tu i1 i2 l1 l2:Addr} {k:Nat} {xs ys:Array Value} {x y a b:Value} {Q:Value->Shared->Prop} (D:ZipApart z ti tu i1 i2 l1 l2)
  (hz:IsZip s.heap z ti tu .none) (Ed:W6 s.heap ti (.ref i1) (.ref i2)) (oR:W6 s.heap tu a b)
  (g1:s.heap.IsTupleIter i1 l1 k) (g2:s.heap.IsListIter i2 l2 k) (dg:s.heap.IsTuple l1 xs) (j7:s.heap.IsList l2 ys) (hx:xs[k]?=some x) (hy:ys[k]?=some y)
  (q:∀ m,IsZip m z ti tu (Wl s.heap.objs.size)->W6 m tu x y->m.IsTupleIter i1 l1 (k + 1)->m.IsListIter i2 l2 (k + 1)->W6 m s.heap.objs.size x y->
   (∀ c o,c≠z->c≠tu->c≠i1->c≠i2->s.heap.get? c=some o->m.get? c=some o)->Q (.ref s.heap.objs.size) {s with heap:=m}) :
  wpAny (model prog w) A (Builtin.«zip.__next__» ⟨[.ref z],[]⟩) (fun fin t=>∃ v,fin=.done (.ret v)/\Q v t) E s:=by
 change wpAny _ _ (field (Value.ref z) 2 >>= _) _ _ _;refine Ya (YX hz rfl (x:=.bool false) rfl ?_);change wpAny _ _ (field (Value.ref z) 3 >>= _) _ _ _;refine Ya (YX hz rfl (x:=.ref ti) rfl (Ya (We Ed rfl ?_)));change wpAny _ _ (XS (Value.ref z) >>= _) _ _ _;refine Ya ?_;unfold XS;refine Ya (YX hz rfl (x:=.none) rfl (Ye ?_));simp only [if_true];refine Ya (wpAny_rule (Ya (YX hz rfl (x:=.ref tu) rfl ?_)));refine Ya (Y4 hz (by simp) fun m1 z1 b1=>?_)
 replace z1:IsZip m1 z ti tu .ellipsis:=z1
 refine Ya ?_;simp only [List.zipIdx_cons,List.zipIdx_nil,Ya0,List.forIn_nil];refine Ya (Ya (wpAny_onRaise ?_));change wpAny _ _ (Y2 (Value.ref i1) >>= _) _ _ _;refine Ya (Fp (g1.extBut b1.extBut D.i1z) (dg.extBut b1.extBut D.l1z) hx fun m2 g12 b2=>Ye ?_);have p2:W6 m2 tu a b:=b2.extBut _ _ D.TOi1 (b1.extBut _ _ D.TOz oR);refine Ya (We p2 rfl (Ya (Ya7 p2 fun m3 p3 b3=>?_)))
 replace p3:W6 m3 tu x b:=p3
 refine Ya (wpAny_letGo (Ye (Ya (Ya (wpAny_onRaise ?_)))));change wpAny _ _ (Y2 (Value.ref i2) >>= _) _ _ _;have EO:=((g2.extBut b1.extBut D.i2z).extBut b2.extBut D.i12.symm).extBut b3.extBut D.TOi2.symm;have D8:=((j7.extBut b1.extBut D.l2z).extBut b2.extBut D.l2i1).extBut b3.extBut D.l2TO;refine Ya (wpAny_nextOf_list_item EO D8 hy fun m4 g24 b4=>Ye ?_);have p4:W6 m4 tu x b:=b4.extBut _ _ D.TOi2 p3;refine Ya (We p4 rfl (Ya (Ya7 p4 fun m5 p5 b5=>?_)))
 replace p5:W6 m5 tu x y:=p5
 refine Ya (wpAny_letGo (Ye (Ye (Ya (We p5 rfl (Ya (wpAny_newTuple ?_)))))));have es:m5.objs.size=s.heap.objs.size:=by rw [b5.1,b4.1,b3.1,b2.1,b1.1]
 have z5:IsZip m5 z ti tu .ellipsis:=b5.extBut _ _ D.TOz.symm (b4.extBut _ _ D.i2z.symm (b3.extBut _ _ D.TOz.symm (b2.extBut _ _ D.i1z.symm z1)));have k5:∀ c o,c≠z->c≠tu->c≠i1->c≠i2->s.heap.get? c=some o->m5.get? c=some o:=fun c o c1 c2 c3 c4 e=>b5.extBut _ _ c2 (b4.extBut _ _ c4 (b3.extBut _ _ c2 (b2.extBut _ _ c3 (b1.extBut _ _ c1 e))));have g15:m5.IsTupleIter i1 l1 (k + 1):=((g12.extBut b3.extBut D.TOi1.symm).extBut b4.extBut D.i12).extBut b5.extBut D.TOi1.symm;have g25:m5.IsListIter i2 l2 (k + 1):=g24.extBut b5.extBut D.TOi2.symm;have zl:z < m5.objs.size:=Yl z5;change wpAny _ _ (Ybc (Value.ref z) (Value.ref m5.objs.size) >>= _) _ _ _;refine Ya ?_;unfold Ybc;have z6:IsZip (m5.push {cls:=.type "tuple",data:=.seq #[x,y]}) z ti tu .ellipsis:=Yc _ z5;refine Ya (Y4 z6 (by simp) fun m7 z7 b7=>?_)
 replace z7:IsZip m7 z ti tu (Wl m5.objs.size):=z7
 refine Y4 z7 (by simp) fun m8 z8 b8=>?_
 replace z8:IsZip m8 z ti tu (Wl m5.objs.size):=z8
 have up:∀ c o,c≠z->m5.get? c=some o->m8.get? c=some o:=fun c o c1 e=>b8.extBut _ _ c1 (b7.extBut _ _ c1 (Yc _ e));have T8:W6 m8 m5.objs.size x y:=b8.extBut _ _ (Yal zl) (b7.extBut _ _ (Yal zl) (Yh _ rfl));rw [es] at z8 T8;refine Ye ⟨_,rfl,?_⟩;show Q (.ref m5.objs.size) _;rw [es];exact q m8 z8 (up _ _ D.TOz p5) (g15.at fun o e=>up _ o D.i1z e) (g25.at fun o e=>up _ o D.i2z e) T8 fun c o c1 c2 c3 c4 e=>up c o c1 (k5 c o c1 c2 c3 c4 e)
theorem ZxH {z ti tu i1 i2 l1 l2:Addr} {k:Nat} {xs ys:Array Value} {a b:Value} {Q:PySem.Fin->Shared->Prop} (hh:A.handled=none) (D:ZipApart z ti tu i1 i2 l1 l2)
  (hz:IsZip s.heap z ti tu .none) (Ed:W6 s.heap ti (.ref i1) (.ref i2)) (oR:W6 s.heap tu a b)
  (g1:s.heap.IsTupleIter i1 l1 k) (g2:s.heap.IsListIter i2 l2 k) (dg:s.heap.IsTuple l1 xs) (j7:s.heap.IsList l2 ys) (he:xs[k]?=none∨ys[k]?=none)
  (q:∀ m e,(∀ c o,c≠z->c≠tu->c≠i1->c≠i2->s.heap.get? c=some o->m.get? c=some o)->(∃ o,m.get? e=some o/\o.cls=.type "StopIteration")->E (.ref e) {s with heap:=m}) :
  wpAny (model prog w) A (Builtin.«zip.__next__» ⟨[.ref z],[]⟩) Q E s:=by
 change wpAny _ _ (field (Value.ref z) 2 >>= _) _ _ _;refine Ya (YX hz rfl (x:=.bool false) rfl ?_);change wpAny _ _ (field (Value.ref z) 3 >>= _) _ _ _;refine Ya (YX hz rfl (x:=.ref ti) rfl (Ya (We Ed rfl ?_)));change wpAny _ _ (XS (Value.ref z) >>= _) _ _ _;refine Ya ?_;unfold XS;refine Ya (YX hz rfl (x:=.none) rfl (Ye ?_));simp only [if_true];refine Ya (wpAny_rule (Ya (YX hz rfl (x:=.ref tu) rfl ?_)));refine Ya (Y4 hz (by simp) fun m1 z1 b1=>?_)
 replace z1:IsZip m1 z ti tu .ellipsis:=z1
 refine Ya ?_;simp only [List.zipIdx_cons,List.zipIdx_nil,Ya0,List.forIn_nil];refine Ya (Ya (wpAny_onRaise ?_));change wpAny _ _ (Y2 (Value.ref i1) >>= _) _ _ _
 cases hx:xs[k]? with
 | none=>
  refine Ya (HB hh (g1.extBut b1.extBut D.i1z) (dg.extBut b1.extBut D.l1z) hx fun m2 e b2 hE=>?_);obtain ⟨u,hu,hc⟩:=hE;have z2:IsZip m2 z ti tu .ellipsis:=b2 _ _ D.i1z.symm z1;have ez:e≠z:=fun y=>by subst y;rw [z2] at hu;cases hu;simp at hc
  exact Y4 z2 (by simp) fun m3 _ b3=>q m3 e (fun c o c1 _ c3 _ y=>b3.extBut _ _ c1 (b2 _ _ c3 (b1.extBut _ _ c1 y))) ⟨u,b3.extBut _ _ ez hu,hc⟩
 | some x=>
  have hy:ys[k]?=none:=by
   rcases he with h | h
   .rw [hx] at h;cases h
   .exact h
  refine Ya (Fp (g1.extBut b1.extBut D.i1z) (dg.extBut b1.extBut D.l1z) hx fun m2 g12 b2=>Ye ?_);have p2:W6 m2 tu a b:=b2.extBut _ _ D.TOi1 (b1.extBut _ _ D.TOz oR);refine Ya (We p2 rfl (Ya (Ya7 p2 fun m3 p3 b3=>?_)));refine Ya (wpAny_letGo (Ye (Ya (Ya (wpAny_onRaise ?_)))));change wpAny _ _ (Y2 (Value.ref i2) >>= _) _ _ _;have EO:=((g2.extBut b1.extBut D.i2z).extBut b2.extBut D.i12.symm).extBut b3.extBut D.TOi2.symm;have D8:=((j7.extBut b1.extBut D.l2z).extBut b2.extBut D.l2i1).extBut b3.extBut D.l2TO;refine Ya (wpAny_nextOf_list_end hh EO D8 hy fun m4 e b4 hE=>?_);obtain ⟨u,hu,hc⟩:=hE;have z4:IsZip m4 z ti tu .ellipsis:=b4 _ _ D.i2z.symm (b3.extBut _ _ D.TOz.symm (b2.extBut _ _ D.i1z.symm z1));have ez:e≠z:=fun y=>by subst y;rw [z4] at hu;cases hu;simp at hc
  exact Y4 z4 (by simp) fun m5 _ b5=>q m5 e (fun c o c1 c2 c3 c4 y=>b5.extBut _ _ c1 (b4 _ _ c4 (b3.extBut _ _ c2 (b2.extBut _ _ c3 (b1.extBut _ _ c1 y))))) ⟨u,b5.extBut _ _ ez hu,hc⟩
abbrev AA (h:Heap) (a:Addr):Heap:=h.push {cls:=.type "tuple_iterator",data:=.fields #[.ref a,.int 0 0]}
abbrev Az (h:Heap) (a b:Addr):Heap:=(AA h a).push {cls:=.type "list_iterator",data:=.fields #[.ref b,.int 0 0]}
abbrev Ay (h:Heap) (a b:Addr):Heap:=(Az h a b).push {cls:=.type "tuple",data:=.seq #[.ref h.objs.size,.ref (AA h a).objs.size]}
abbrev Ax (h:Heap) (a b:Addr):Heap:=(Ay h a b).push {cls:=.type "tuple",data:=.seq #[.none,.none]}
abbrev uY (h:Heap) (a b:Addr):Heap:=(Ax h a b).push {cls:=.type "zip",data:=.fields #[.none,.bool false,.bool false,.ref (Az h a b).objs.size,.ref (Ay h a b).objs.size]}
theorem Zrq (a b:Addr) (xs ys:Array Value) :
  Meets (Builtin.«zip.__new__» ⟨[.type "zip",.ref a,.ref b],[]⟩) (fun _ R s=>s.heap.IsTuple a xs/\s.heap.IsList b ys/\R (.ok (.ret (.ref (Ax s.heap a b).objs.size))) {s with heap:=uY s.heap a b}):=
 .of_wp fun prog w A R s h=>by
  obtain ⟨hp,g,d,tk,os⟩:=s;obtain ⟨ha,hb,h⟩:=h;have mr:=sub_zip;have hA:Heap.IsTuple (Shared.heap ⟨hp,g,d,tk,os⟩) a xs:=ha;have hB:Heap.IsList (Shared.heap ⟨hp.push {cls:=.type "tuple_iterator",data:=.fields #[.ref a,.int 0 0]},g,d,tk,os⟩) b ys:=Heap.IsList.push hb _
  wp_walk using Yao hA,YaB hB
  exact ⟨_,rfl,h⟩
theorem Ztu {a b:Addr} {xs ys:Array Value} {Q:Value->Shared->Prop} (ha:s.heap.IsTuple a xs) (hb:s.heap.IsList b ys)
  (h:∀ m,IsZip m (s.heap.objs.size + 4) (s.heap.objs.size + 2) (s.heap.objs.size + 3) .none->W6 m (s.heap.objs.size + 2) (.ref s.heap.objs.size) (.ref (s.heap.objs.size + 1))->
   W6 m (s.heap.objs.size + 3) .none .none->m.IsTupleIter s.heap.objs.size a 0->m.IsListIter (s.heap.objs.size + 1) b 0->(∀ c o,s.heap.get? c=some o->m.get? c=some o)->Q (.ref (s.heap.objs.size + 4)) {s with heap:=m}) :
  wpAny (model prog w) A (call (.type "zip") [.ref a,.ref b]) Q E s:=by
 refine callType_new F.called_zip (by decide) (F.typeCall_zip_2 _ _) (F.newCall_zip_2 _ _) (fun obj=>F.args_object_init_3 obj _ _) F.entry_zip_new (Zrq a b xs ys) ⟨ha,hb,?_⟩;have y1:(AA s.heap a).objs.size=s.heap.objs.size + 1:=XX ..;have y2:(Az s.heap a b).objs.size=s.heap.objs.size + 2:=by rw [XX,y1]
 have y3:(Ay s.heap a b).objs.size=s.heap.objs.size + 3:=by rw [XX,y2]
 have y4:(Ax s.heap a b).objs.size=s.heap.objs.size + 4:=by rw [XX,y3]
 have f5:(uY s.heap a b).get? (Ax s.heap a b).objs.size=some _:=Yh _ rfl;have f4:(uY s.heap a b).get? (Ay s.heap a b).objs.size=some _:=Yc _ (Yh _ rfl);have f3:(uY s.heap a b).get? (Az s.heap a b).objs.size=some _:=Yc _ (Yc _ (Yh _ rfl));have f2:(uY s.heap a b).get? (AA s.heap a).objs.size=some _:=Yc _ (Yc _ (Yc _ (Yh _ rfl)));have f1:(uY s.heap a b).get? s.heap.objs.size=some _:=Yc _ (Yc _ (Yc _ (Yc _ (Yh _ rfl))));show _/\_;rw [y2,y3,y4] at f5;rw [y1,y2] at f3;rw [y3] at f4;rw [y1] at f2;rw [y4];exact ⟨⟨_,f5,rfl⟩,h _ f5 f3 f4 ⟨_,f1,rfl,rfl⟩ ⟨_,f2,rfl,rfl⟩ fun c o e=>Yc _ (Yc _ (Yc _ (Yc _ (Yc _ e))))⟩
end
def yX (K:Frag) (a b:Addr):It:=
  ⟨fun i H=>∃ xs ys x y,av K H a xs/\ay K H b ys/\xs[i]?=some x/\ys[i]?=some y,fun i H v H'=>∃ t x y,H t=none/\v=.ref t/\(∀ xs,av K H a xs->xs[i]?=some x)/\(∀ ys,ay K H b ys->ys[i]?=some y)/\H'=upd H t (.tup [x,y]),
   fun i H=>∃ xs ys,av K H a xs/\ay K H b ys/\(xs.length<=i∨ys.length<=i)⟩
theorem Zvp {P:Program} {w:World} {K:Frag} {elts:List Expr} {kk:Nat} {pos:Pos} (z ti tu i1 i2 a b:Addr) (D:ZipApart z ti tu i1 i2 a b) :
  Turn P w K (.Tuple elts kk pos) (yX K a b) [z,ti,tu,i1,i2] z (fun i h=>IsZip h z ti tu .none/\W6 h ti (.ref i1) (.ref i2)/\(∃ x y,W6 h tu x y)/\h.IsTupleIter i1 a i/\h.IsListIter i2 b i) where
 mem:=by simp
 obj:=fun i h st c hc=>by
  obtain ⟨h1,h2,⟨x,y,h3⟩,⟨o4,e4,_,d4⟩,⟨o5,e5,_,d5⟩⟩:=st
  simp only [XF,Y1,or_false] at hc
  rcases hc with rfl | rfl | rfl | rfl | rfl
  .exact ⟨_,h1,fun v q=>by cases q⟩
  .exact ⟨_,h2,fun v q=>by cases q⟩
  .exact ⟨_,h3,fun v q=>by cases q⟩
  .exact ⟨_,e4,fun v q=>by rw [d4] at q;cases q⟩
  .exact ⟨_,e5,fun v q=>by rw [d5] at q;cases q⟩
 keep:=fun i h h' st k=>by
  obtain ⟨h1,h2,⟨x,y,h3⟩,h4,h5⟩:=st;exact ⟨k z (by simp) _ h1,k ti (by simp) _ h2,⟨x,y,k tu (by simp) _ h3⟩,h4.at fun o e=>k i1 (by simp) o e,h5.at fun o e=>k i2 (by simp) o e⟩
 item:=by
  intro X hP hw hK hc i pins s σ H E I hf st hg;subst hP hw hK;obtain ⟨xs,ys,x,y,pV,pU,hx,hy⟩:=hg;obtain ⟨us,AI,p1,_⟩:=I.tuple pV;obtain ⟨vs,AH,p2,_⟩:=I.list pU;obtain ⟨u,hu,ru⟩:=AI.get hx;obtain ⟨v,hv,rv⟩:=AH.get hy;obtain ⟨h1,h2,⟨a0,b0,h3⟩,h4,h5⟩:=st;have hT:s.TypeIs (.ref z) "zip":=⟨_,h1,rfl⟩
  unfold WQ
  refine Ya (X9 (YI (name:=Xt "__next__") hT Ya1 (YM Ya1 hT F.entry_zip_next
   (ZwF D h1 h2 h3 h4 h5 (show s.heap.IsTuple a us.toArray from p1) p2.isList (x:=u) (y:=v) (by simpa using hu) (by simpa using hv) fun m z1 q1 g1 g2 T1 AW=>Ye ?_) (F.args_zip_next_1 _))))
  refine ⟨_,rfl,wpAny_letOwnedTupleGo_zip (s:={s with heap:=m}) z1 fun m' z2 sb=>?_⟩;have lz:z < s.heap.objs.size:=Yl h1;have lti:ti < s.heap.objs.size:=Yl h2;have ltu:tu < s.heap.objs.size:=Yl h3;have l1:i1 < s.heap.objs.size:=by obtain ⟨_,e,_⟩:=h4;exact Yl e
  have l2:i2 < s.heap.objs.size:=by obtain ⟨_,e,_⟩:=h5;exact Yl e
  have kp:∀ c o,c ∉ [z,ti,tu,i1,i2]->s.heap.get? c=some o->m'.get? c=some o:=fun c o hn e=>by
   simp only [XF,Y1,or_false,not_or] at hn
   exact sb.extBut _ _ hn.1 (AW c o hn.1 hn.2.2.1 hn.2.2.2.1 hn.2.2.2.2 e)
  have T2:m'.IsTuple s.heap.objs.size #[u,v]:=⟨_,sb.extBut _ _ (Yal lz) T1,rfl,_,rfl⟩
  refine ⟨.ref s.heap.objs.size,_,I.iL (t':=s.toks) (wr:=[z,ti,tu,i1,i2]) hf kp (Yf _) (BA (xs:=[x,y]) T2 (.cons ru (.cons rv .nil)) (by show 2<=Yj;decide)),rfl,
   ⟨_,x,y,I.ak.fresh (Yf _),rfl,fun pL vc=>by rw [I.eo vc pV];exact hx,fun pL vc=>by rw [I.jR vc pU];exact hy,rfl⟩,?_,fun c hc=>?_⟩
  .refine ⟨z2,sb.extBut _ _ D.TIz (AW _ _ D.TIz D.TITO D.TIi1 D.TIi2 h2),⟨u,v,sb.extBut _ _ D.TOz q1⟩,g1.extBut sb.extBut D.i1z,g2.extBut sb.extBut D.i2z⟩
  .have:c≠s.heap.objs.size:=by
    simp only [XF,Y1,or_false] at hc
    rcases hc with rfl | rfl | rfl | rfl | rfl
    .exact Yy lz
    .exact Yy lti
    .exact Yy ltu
    .exact Yy l1
    .exact Yy l2
   show upd H _ _ c=none;rw [Ze this];exact (hf c hc).1
 done:=by
  intro X hP hw hK hc i pins s σ H E I hf st hg;subst hP hw hK;obtain ⟨xs,ys,pV,pU,hl⟩:=hg;obtain ⟨us,AI,p1,_⟩:=I.tuple pV;obtain ⟨vs,AH,p2,_⟩:=I.list pU;have e1:=AI.length;have e2:=AH.length;obtain ⟨h1,h2,⟨a0,b0,h3⟩,h4,h5⟩:=st;have hT:s.TypeIs (.ref z) "zip":=⟨_,h1,rfl⟩
  unfold WQ
  refine Ya (X9 (YI (name:=Xt "__next__") hT Ya1 (YM Ya1 hT F.entry_zip_next
   (ZxH (I.ok.hd hc) D h1 h2 h3 h4 h5 (show s.heap.IsTuple a us.toArray from p1) p2.isList (by simp;omega) fun m e AW hE=>?_) (F.args_zip_next_1 _))))
  obtain ⟨o,ho,dh⟩:=hE;refine Ya (W7 (T:="StopIteration") (b:=true) ⟨o,ho,dh⟩ Yar (Ye ⟨rfl,I.iM (t':=s.toks) (wr:=[z,ti,tu,i1,i2]) hf fun c o hn q=>?_⟩))
  simp only [XF,Y1,or_false,not_or] at hn
  exact AW c o hn.1 hn.2.2.1 hn.2.2.2.1 hn.2.2.2.2 q
 self:=fun _ _ _ _ _ st h=>wpAny_pyIter_zip st.1 h
def Lw (K:Frag) (ta:TA):TI:=fun σ H R=>ta σ H fun vs H1=>∃ a b,vs=[.ref a,.ref b]/\(∃ xs,av K H1 a xs)/\(∃ ys,ay K H1 b ys)/\R (yX K a b) H1
theorem Zx7 {X:Cx} {elts:List Expr} {kk:Nat} {tp:Pos} {a b:Expr} {ta:TA} {p pos:Pos} (hg:Gl X "zip") (hm:X.mg "zip"=none) (ha:PA X [a,b] ta) (hs:YF [a,b] X.env=[(false,eval a X.env),(false,eval b X.env)]:=by rfl) (oW:YF [b] X.env=[(false,eval b X.env)]:=by rfl):PI X (.Tuple elts kk tp) (.Call (.Name "zip" p) [a,b] [] pos) (Lw X.K ta):=by
 try unfold PA at *
 intro pins s σ H R I h;refine Call_ (tW I hg hm PyProof.Rows.Boot.«zip» (Xo (az (ha pos pins s σ H _ I h) fun us s1 ⟨vs,H1,I1,r1,q1⟩=>?_) (by rw [hs,oW]) (by rw [oW];rfl)));obtain ⟨a,b,e,⟨xs,pV⟩,⟨ys,pU⟩,q⟩:=q1;subst e
 cases r1 with
 | cons r rr=>
  cases rr with
  | cons r' rr=>
   cases rr
   cases (show _=Value.ref a from r)
   cases (show _=Value.ref b from r')
   obtain ⟨us,AI,p1,_⟩:=I1.tuple pV;obtain ⟨vs,AH,p2,_⟩:=I1.list pU;have la:a < s1.heap.objs.size:=by obtain ⟨o,e,_⟩:=p1;exact Yl e
   have lb:b < s1.heap.objs.size:=by obtain ⟨o,e,_⟩:=p2.isList;exact Yl e
   refine Ztu (show s1.heap.IsTuple a us.toArray from p1) p2.isList fun m h1 h2 h3 h4 h5 kp=>?_;refine wpAny_pyIter_zip h1 ?_;refine ⟨_,[s1.heap.objs.size + 4,s1.heap.objs.size + 2,s1.heap.objs.size + 3,s1.heap.objs.size,s1.heap.objs.size + 1],_,_,H1,rfl,I1.kept (t':=s1.toks) kp,Zvp _ _ _ _ _ a b (zipApart_new la lb),⟨h1,h2,⟨_,_,h3⟩,h4,h5⟩,fun c hc=>?_,q⟩
   have qU:s1.heap.objs.size<=c:=by
    simp only [XF,Y1,or_false] at hc
    rcases hc with rfl | rfl | rfl | rfl | rfl
    .exact Xb _ _
    .exact Xb _ _
    .exact Xb _ _
    .exact Yf _
    .exact Xb _ _
   exact I1.fC qU (I1.ak.fresh qU)
end L2
namespace L2
open PySem PySem.Spec PyProof.Rows PySem.W
section
variable {prog:Program} {w:World} {A:Around} {E:Value->Shared->Prop} {s:Shared}
theorem Zys {v d:Addr} {ob:Obj} {es:Array Xp} {ep:Nat} {Q:Value->Shared->Prop} (hv:s.heap.IsItemsView v d) (e:s.heap.get? d=some ob) (dd:ob.data=.dict es ep)
  (q:Q (.ref s.heap.objs.size) {s with heap:=s.heap.push {cls:=.type "dict_itemiterator",data:=.fields #[.none,.bool false,.ref d,.int 0 0,.int es.size 0,.int ep 0,.none,.none]}}):wpAny (model prog w) A (pyIter (.ref v)) Q E s:=by
 have tv:=hv.typeIs;obtain ⟨oV,e1,c1,d1⟩:=hv;refine wpAny_pyIter_slot tv F.slot_dict_items_iter (YM F.slot_dict_items_iter tv F.entry_dict_items_iter ?_ (F.args_dict_items_iter_1 _));unfold Builtin.«dict_items.__iter__» Builtin.Dict_items.dictOf Builtin.Dict_items.newIterator;refine Ya (Ye (Ya (Ya (YX e1 d1 (x:=.ref d) rfl (Ye ?_)))));refine Ya (Ya (Xr e dd (Ya (XM e dd ?_))));rw [show YV "dict_itemiterator"=true from by decide]
 simp only [if_true]
 refine YG (Ye ⟨_,rfl,"dict_itemiterator",_,⟨_,Yh _ rfl,rfl⟩,F.slot_dict_itemiterator_next.lookup,?_⟩) (by simp only [sizeOk,Ybh,Yq,Yd,Yv,WN,Wz];omega)
 simpa [Wl,Ybh] using q
theorem Zxf {it d:Addr} {ob:Obj} {es:Array Xp} {ep i:Nat} {x:Xp} {k0 v0:Value} {Q:Option Value->Shared->Prop} (st:W9 s.heap it d i es.size ep k0 v0) (e:s.heap.get? d=some ob) (dd:ob.data=.dict es ep) (hx:es[i]?=some x)
  (q:∀ m,IsItemIterOut m it d (i + 1) es.size ep x.key x.val s.heap.objs.size->m.get? s.heap.objs.size=some {cls:=.type "tuple",data:=.seq #[x.key,x.val]}->(∀ b o,b≠it->s.heap.get? b=some o->m.get? b=some o)->Q (some (.ref s.heap.objs.size)) {s with heap:=m}) :
  wpAny (model prog w) A (WQ (.ref it)) Q E s:=by
 obtain ⟨hp,g,dr,tk,os⟩:=s;have ty:Shared.TypeIs ⟨hp,g,dr,tk,os⟩ (.ref it) "dict_itemiterator":=⟨_,st,rfl⟩
 have hi:i < es.size:=(Array.getElem?_eq_some_iff.mp hx).1;have xt:es[i]=x:=by rw [Y3 hi] at hx;exact Yu hx
 unfold WQ;refine Ya (X9 (YI (name:=Xt "__next__") ty Wi (YM Wi ty F.entry_dict_itemiterator_next ?_ (F.args_dict_itemiterator_next_1 _))));refine Ya (Ye (Ya (Ya (Ya (Wb ty (Ye (Ya (WZ st rfl ?_))))))));rw [show YV "dict_itemiterator"=true from by decide]
 simp only [if_true]
 change wpAny _ _ (if (Value.ref d == Value.none)=true then _ else _) _ _ _;rw [if_neg (show ¬ ((Value.ref d == Value.none)=true) by exact Yr)];refine Ya (Ye (Ya (Xr e dd ?_)));rw [if_neg (show ¬ ((((es.size:Nat):Int) != ((es.size:Nat):Int))=true) by simp)];refine Ya (Ye (Ya (XM e dd ?_)));rw [if_neg (show ¬ ((((ep:Nat):Int) != ((ep:Nat):Int))=true) by simp)];refine Ye ?_
 simp only [show ¬ ((i:Int) < 0) by omega,if_false,YS,Y3 hi]
 refine Ya (Ya (Wb ty (Ye (Ya (YaQ ty ?_)))));change wpAny _ _ (setField (Value.ref it) 3 (Wl ((i:Int) + 1)) >>= _) _ _ _;refine Ya (Y4 st (by simp) fun m1 s1 b1=>?_)
 replace b1:Xv it hp m1:=b1
 replace s1:W9 m1 it d (i + 1) es.size ep k0 v0:=by
  have z:((i + 1:Nat):Int)=(i:Int) + 1:=by omega
  unfold W9;rw [z]
  simpa [Wl] using s1
 have ty1:Shared.TypeIs ⟨m1,g,dr,tk,os⟩ (.ref it) "dict_itemiterator":=⟨_,s1,rfl⟩
 refine Ya (Xq (Ya (YaQ ty1 (Ya (YaQ ty1 ?_)))));change wpAny _ _ (Builtin.Dict_items.pairFromOwner (Value.ref it) 6 es[i].key es[i].val) _ _ _;rw [xt];unfold Builtin.Dict_items.pairFromOwner;refine Ya (wpAny_newTuple ?_);have s2:W9 (m1.push {cls:=.type "tuple",data:=.seq #[x.key,x.val]}) it d (i + 1) es.size ep k0 v0:=Yc _ s1;have sz:m1.objs.size=hp.objs.size:=b1.1;have t2:(m1.push {cls:=.type "tuple",data:=.seq #[x.key,x.val]}).get? hp.objs.size=some {cls:=.type "tuple",data:=.seq #[x.key,x.val]}:=by rw [<- sz];exact Yh _ rfl
 have k2:∀ b o,b≠it->hp.get? b=some o->(m1.push {cls:=.type "tuple",data:=.seq #[x.key,x.val]}).get? b=some o:=fun b o hb q=>Yc _ (b1.extBut b o hb q);have lt:it < hp.objs.size:=Yl st;generalize m1.push {cls:=.type "tuple",data:=.seq #[x.key,x.val]}=m2 at s2 t2 k2;change wpAny _ _ (Ybg (Value.ref it) >>= _) _ _ ⟨m2,g,dr,tk,os⟩;rw [sz];refine Ya ?_;unfold Ybg;refine Ya (YX s2 rfl (x:=.none) rfl (Ye ?_))
 simp only [if_true]
 refine Ya (YX s2 rfl (x:=k0) rfl (Ya (YX s2 rfl (x:=v0) rfl ?_)));refine Ya (Y4 s2 (by simp) fun m3 s3 b3=>?_)
 replace b3:Xv it m2 m3:=b3
 replace s3:W9 m3 it d (i + 1) es.size ep x.key v0:=s3
 refine Ya (Y4 s3 (by simp) fun m4 s4 b4=>?_)
 replace b4:Xv it m3 m4:=b4
 replace s4:W9 m4 it d (i + 1) es.size ep x.key x.val:=s4
 refine Ya (Y4 s4 (by simp) fun m5 s5 b5=>?_)
 replace b5:Xv it m4 m5:=b5
 replace s5:IsItemIterOut m5 it d (i + 1) es.size ep x.key x.val hp.objs.size:=s5
 refine Ya (Y4 s5 (by simp) fun m6 s6 b6=>?_)
 replace b6:Xv it m5 m6:=b6
 replace s6:IsItemIterOut m6 it d (i + 1) es.size ep x.key x.val hp.objs.size:=s6
 have up:∀ b o,b≠it->m2.get? b=some o->m6.get? b=some o:=fun b o hb e=>b6.extBut b o hb (b5.extBut b o hb (b4.extBut b o hb (b3.extBut b o hb e)));exact Ya (wpAny_letGo (Ye (Ye ⟨_,rfl,Ye (q m6 s6 (up _ _ (Yal lt) t2) fun b o hb e=>up b o hb (k2 b o hb e))⟩)))
theorem Zyt {it d:Addr} {ob:Obj} {es:Array Xp} {ep i:Nat} {k0 v0:Value} {Q:Option Value->Shared->Prop} (hh:A.handled=none) (st:W9 s.heap it d i es.size ep k0 v0) (e:s.heap.get? d=some ob) (dd:ob.data=.dict es ep) (hx:es.size<=i)
  (q:∀ m,Heap.ExtBut it s.heap m->Q none {s with heap:=m}):wpAny (model prog w) A (WQ (.ref it)) Q E s:=by
 have ty:s.TypeIs (.ref it) "dict_itemiterator":=⟨_,st,rfl⟩
 unfold WQ;refine Ya (X9 (YI (name:=Xt "__next__") ty Wi (YM Wi ty F.entry_dict_itemiterator_next ?_ (F.args_dict_itemiterator_next_1 _))));refine Ya (Ye (Ya (Ya (Ya (Wb ty (Ye (Ya (WZ st rfl ?_))))))));rw [show YV "dict_itemiterator"=true from by decide]
 simp only [if_true]
 change wpAny _ _ (if (Value.ref d == Value.none)=true then _ else _) _ _ _;rw [if_neg (show ¬ ((Value.ref d == Value.none)=true) by exact Yr)];refine Ya (Ye (Ya (Xr e dd ?_)));rw [if_neg (show ¬ ((((es.size:Nat):Int) != ((es.size:Nat):Int))=true) by simp)];refine Ya (Ye (Ya (XM e dd ?_)));rw [if_neg (show ¬ ((((ep:Nat):Int) != ((ep:Nat):Int))=true) by simp)];refine Ye ?_
 simp only [show ¬ ((i:Int) < 0) by omega,if_false,YS,YaU hx]
 refine Ya (Ya (Wb ty (Ye ?_)));change wpAny _ _ (setField (Value.ref it) 2 .none >>= _) _ _ s;refine Ya (Wy st rfl (by simp) ?_);change wpAny _ _ (newExc (Value.type "StopIteration") [] >>= _) _ _ _;refine Ya ?_;simp only [newExc,newTuple];refine Ya (YG (Ya (m:=Wf _ _) (wpAny_of_eq (a:=Value.none) (by first | rfl | (simp only [Wf];rfl)) ?_)) (by size_fits));refine YG ?_ (by size_fits);simp only [raiseNew];refine Ya (wpAny_handled ?_);rw [show A.in1.handled=none from hh];refine Ya (Ye (wpAny_throw ?_));refine Ya (W7 (T:="StopIteration") (b:=true) ⟨_,Yh _ rfl,rfl⟩ Yar ?_);exact Ye (q _ (((XO ..).extBut.push _).push _))
end
theorem Zyh {P:Program} {w:World} {H:Hp}:∀ {kvs:List (List Key×V)} {xs:List (List Key×Addr×Value)},KT H kvs xs->∀ (i:Nat) k v,kvs[i]?=some (k,v)->∃ b u,(xs.map (entryOfKey (WU (ZW P w))))[i]?=some (entryOfKey (WU (ZW P w)) (k,b,u))/\H b=some (.tup (k.map kV))/\RelV v u
 | _,_,.nil,i,k,v,h=>by simp at h
 | _,_,.cons (a:=p) (b:=q) h t,0,k,v,e=>by
  simp at e
  obtain ⟨h1,h2,h3⟩:=h;refine ⟨q.2.1,q.2.2,?_,?_,?_⟩
  .have:q=(k,q.2.1,q.2.2):=by rw [show k=q.1 by rw [<- h1,e]]
   rw [Yx];show some _=_;rw [<- this]
  .rw [e] at h2;exact h2
  .rw [e] at h3;exact h3
 | _,_,.cons h t,i + 1,k,v,e=>by
  obtain ⟨b,u,h1,h2,h3⟩:=Zyh (P:=P) (w:=w) t i k v (by simpa using e);exact ⟨b,u,by simpa using h1,h2,h3⟩
theorem Bx {P:Program} {w:World} {H:Hp} {h:Heap} {a:Addr} {kvs:List (List Key×V)} {ob:Obj} (x:bH P w H h a (.dT kvs)) (e:h.get? a=some ob) :
  kvs.length<=Yj/\(a == Xw)=false/\ob.ExactDict/\∃ es ep,ob.data=.dict es ep/\es.size=kvs.length/\∀ (i:Nat) k v,kvs[i]?=some (k,v)->∃ y b,es[i]?=some y/\y.key=.ref b/\H b=some (.tup (k.map kV))/\RelV v y.val:=by
 obtain ⟨z,y,xs,r,o,es,ep,e1,ex,dd,el,_⟩:=x;rw [e] at e1
 cases e1
 refine ⟨z,y,ex,es,ep,dd,?_,fun i k v hi=>?_⟩
 .have:es.toList.length=es.size:=YQ
  rw [<- this,el,Yb,<- Xk r]
 .obtain ⟨b,u,h1,h2,h3⟩:=Zyh (P:=P) (w:=w) r i k v hi;refine ⟨entryOfKey (WU (ZW P w)) (k,b,u),b,?_,rfl,h2,h3⟩;rw [<- Xx,el];exact h1
def yY (d:Addr) (ob:Obj) (kvs:List (List Key×V)):It:=
 ⟨fun i H=>H d=some (.bf ob (.dT kvs))/\i < kvs.length,fun i H x H'=>∃ t b k v,H t=none/\x=.ref t/\kvs[i]?=some (k,v)/\H b=some (.tup (k.map kV))/\H'=upd H t (.tup [.ref b,v]),fun i H=>H d=some (.bf ob (.dT kvs))/\kvs.length<=i⟩
theorem ZsN {P:Program} {w:World} {K:Frag} {elts:List Expr} {kk:Nat} {pos:Pos} (d it:Addr) (ob:Obj) (kvs:List (List Key×V)) (es:Array Xp) (ep:Nat) (dd:ob.data=.dict es ep) :
  Turn P w K (.Tuple elts kk pos) (yY d ob kvs) [it] it (fun i h=>∃ k0 v0,W9 h it d i es.size ep k0 v0) where
 mem:=by simp
 obj:=fun i h st b hb=>by
  have e:b=it:=by simpa using hb
  subst e;obtain ⟨k0,v0,st⟩:=st;exact ⟨_,st,fun v z=>by cases z⟩
 keep:=fun i h h' st k=>by
  obtain ⟨k0,v0,st⟩:=st;exact ⟨k0,v0,k it (by simp) _ st⟩
 item:=by
  intro X hP hw hK hc i pins s σ H E I hf st hg;subst hP hw hK;obtain ⟨hH,hi⟩:=hg;obtain ⟨e,ok⟩:=I.ak d _ hH;obtain ⟨_,_,_,rf,rg,fh,hl,gf⟩:=Bx ok e;rw [dd] at fh
  cases fh
  obtain ⟨⟨k,v⟩,mI⟩:∃ p,kvs[i]?=some p:=⟨_,Yk hi⟩
  obtain ⟨y,b,hy,kA,hb,rv⟩:=gf i k v mI;obtain ⟨k0,v0,st⟩:=st;have lt:it < s.heap.objs.size:=Yl st;refine Zxf st e dd hy fun m o1 t1 kp=>?_;refine ⟨_,rfl,wpAny_letOwnedTupleGo_items (s:={s with heap:=m}) o1 fun m' cY sb=>?_⟩;have T2:m'.IsTuple s.heap.objs.size #[y.key,y.val]:=⟨_,sb.extBut _ _ (Yal lt) t1,rfl,_,rfl⟩
  refine ⟨.ref s.heap.objs.size,_,I.iL (t':=s.toks) (wr:=[it]) hf (fun c o hn q=>?_) (Yf _) (BA (xs:=[.ref b,v]) T2 (.cons kA (.cons rv .nil)) (by show 2<=Yj;decide)),rfl,⟨_,b,k,v,I.ak.fresh (Yf _),rfl,mI,hb,rfl⟩,⟨_,_,cY⟩,fun c hc=>?_⟩
  .have nr:c≠it:=by simpa using hn
   exact sb.extBut _ _ nr (kp c o nr q)
  .have z:c=it:=by simpa using hc
   show upd H _ _ c=none;rw [Ze (by rw [z];exact Yy lt)];exact (hf c hc).1
 done:=by
  intro X hP hw hK hc i pins s σ H E I hf st hg;subst hP hw hK;obtain ⟨hH,hi⟩:=hg;obtain ⟨e,ok⟩:=I.ak d _ hH;obtain ⟨_,_,_,rf,rg,fh,hl,gf⟩:=Bx ok e;rw [dd] at fh
  cases fh
  obtain ⟨k0,v0,st⟩:=st;exact Zyt (I.ok.hd hc) st e dd (by omega) fun m eb=>⟨rfl,I.iM (t':=s.toks) (wr:=[it]) hf fun c o hn q=>eb c o (by simpa using hn) q⟩
 self:=fun _ _ _ _ _ st h=>by
  obtain ⟨k0,v0,st⟩:=st;exact kcp_self st h
def Zyu (tl:TE):TI:=fun σ H R=>tl σ H fun x H1=>∃ r d kvs,x=.ref r/\H1 r=some (vQ r d)/\H1 d=some (.dT kvs)/\∀ ob,R (yY d ob kvs) (upd H1 d (.bf ob (.dT kvs)))
theorem ZvF {X:Cx} {elts:List Expr} {kk:Nat} {tp:Pos} {l:Expr} {tl:TE} (hl:PE X l tl):PI X (.Tuple elts kk tp) l (Zyu tl):=by
 try unfold PE at *
 intro pins s σ H R I h;refine az (hl pins s σ H _ I h) fun v s1 ⟨x,H1,I1,r1,r,d,kvs,ex,hr,hd,q⟩=>?_;subst ex
 cases (show v=Value.ref r from r1)
 have hv:s1.heap.IsItemsView r d:=(I1.ak r _ hr).1;obtain ⟨ob,e,I2⟩:=I1.freeze hd rfl;obtain ⟨_,_,_,es,ep,dd,_⟩:=Bx (I1.ak d _ hd) e;refine Zys hv e dd ?_;refine ⟨s1.heap.objs.size,[s1.heap.objs.size],_,_,_,rfl,I2.kept (t':=s1.toks) fun b o e=>Yc _ e,ZsN d _ ob kvs es ep dd,⟨_,_,Yh _ rfl⟩,fun b hb=>?_,q ob⟩;have e:b=s1.heap.objs.size:=by simpa using hb
 subst e;exact I2.fC (Yf _) (I2.ak.fresh (Yf _))
section
variable {prog:Program} {w:World} {A:Around} {E:Value->Shared->Prop} {s:Shared}
theorem Zyi {d:Addr} {ob:Obj} {es:Array Xp} {ep:Nat} {Q:Value->Shared->Prop} (hs:(d == Xw)=false) (e:s.heap.get? d=some ob) (ex:ob.ExactDict) (dd:ob.data=.dict es ep)
  (q:Q (.ref s.heap.objs.size) {s with heap:=s.heap.push {cls:=.type "dict_keyiterator",data:=.fields #[.ref d,.int 0 0,.int es.size 0,.int ep 0]}}):wpAny (model prog w) A (pyIter (.ref d)) Q E s:=by
 have ty:s.TypeIs (.ref d) "dict":=⟨ob,e,ex.1⟩
 refine wpAny_pyIter_slot ty F.slot_dict_iter (YM F.slot_dict_iter ty F.entry_dict_iter ?_ (F.args_dict_iter_1 _));unfold Builtin.«dict.__iter__»;refine Ya ?_;unfold Builtin.Dict.dictSlotNone;refine Ya (Ya2 ty ?_);change wpAny _ _ (pure (Value.ref d)) _ _ s;refine Ye ?_;change wpAny _ _ (XY d >>= _) _ _ s;unfold XY;rw [if_neg (by rw [hs];exact Yr)];refine Ya (Ye (Ya (Xr e dd (Ya (XM e dd ?_)))));exact Ya (YG (Ye ⟨_,rfl,"dict_keyiterator",_,⟨_,Yh _ rfl,rfl⟩,F.slot_dict_keyiterator_next.lookup,by simpa [Wl] using q⟩))
theorem Zxd {it d:Addr} {ob:Obj} {es:Array Xp} {ep i:Nat} {x:Xp} {Q:Option Value->Shared->Prop} (st:s.heap.IsKeyIter it d i es.size ep) (e:s.heap.get? d=some ob) (dd:ob.data=.dict es ep) (hx:es[i]?=some x)
  (q:∀ m,m.IsKeyIter it d (i + 1) es.size ep->Xv it s.heap m->Q (some x.key) {s with heap:=m}):wpAny (model prog w) A (WQ (.ref it)) Q E s:=by
 have ty:=st.typeIs;obtain ⟨oI,e1,c1,d1⟩:=st;have hi:i < es.size:=(Array.getElem?_eq_some_iff.mp hx).1;have xt:es[i]=x:=by rw [Y3 hi] at hx;exact Yu hx
 have up:(s.heap.update it (YaH (·.setIfInBounds 1 (Wl ((i:Int) + 1))))).IsKeyIter it d (i + 1) es.size ep:=
  ⟨_,W5 _ e1 (Ya5 (Wj d1 _)),(Obj.cls_mapFields ..).trans c1,by rw [Wj d1];simp [Wl]⟩
 unfold WQ;refine Ya (X9 (YI (name:=Xt "__next__") ty Wm (YM Wm ty F.entry_dict_keyiterator_next ?_ (F.args_dict_keyiterator_next_1 _))));refine Ya (Ye (Ya (Ya (Ya (Wh ty (Ye (Ya (WZ e1 d1 ?_))))))));rw [show YV "dict_keyiterator"=false from by decide]
 simp only [YY,if_false]
 change wpAny _ _ (if (Value.ref d == Value.none)=true then _ else _) _ _ s;rw [if_neg (show ¬ ((Value.ref d == Value.none)=true) by exact Yr)];refine Ya (Ye (Ya (Xr e dd ?_)));rw [if_neg (show ¬ ((((es.size:Nat):Int) != ((es.size:Nat):Int))=true) by simp)];refine Ya (Ye (Ya (XM e dd ?_)));rw [if_neg (show ¬ ((((ep:Nat):Int) != ((ep:Nat):Int))=true) by simp)];refine Ye ?_
 simp only [show ¬ ((i:Int) < 0) by omega,if_false,YS,Y3 hi]
 refine Ya (Ya (Wh ty (Ye (Ya (wpAny_isOneOf_keyiter ty ?_)))));change wpAny _ _ (setField (Value.ref it) 1 (Wl ((i:Int) + 1)) >>= _) _ _ s;refine Ya (Wy e1 d1 (by simp) (Ya (Xq ?_)));refine Ya (wpAny_isOneOf_keyiter (s:={s with heap:=s.heap.update it (YaH (·.setIfInBounds 1 (Wl ((i:Int) + 1))))}) up.typeIs ?_);change wpAny _ _ (pure es[i].key) _ _ _;rw [xt];exact Ye (Ye ⟨_,rfl,Ye (q _ up (XO ..))⟩)
theorem Zyj {it d:Addr} {ob:Obj} {es:Array Xp} {ep i:Nat} {Q:Option Value->Shared->Prop} (hh:A.handled=none) (st:s.heap.IsKeyIter it d i es.size ep) (e:s.heap.get? d=some ob) (dd:ob.data=.dict es ep) (hx:es.size<=i)
  (q:∀ m,Heap.ExtBut it s.heap m->Q none {s with heap:=m}):wpAny (model prog w) A (WQ (.ref it)) Q E s:=by
 have ty:=st.typeIs;obtain ⟨oI,e1,c1,d1⟩:=st;unfold WQ;refine Ya (X9 (YI (name:=Xt "__next__") ty Wm (YM Wm ty F.entry_dict_keyiterator_next ?_ (F.args_dict_keyiterator_next_1 _))));refine Ya (Ye (Ya (Ya (Ya (Wh ty (Ye (Ya (WZ e1 d1 ?_))))))));rw [show YV "dict_keyiterator"=false from by decide]
 simp only [YY,if_false]
 change wpAny _ _ (if (Value.ref d == Value.none)=true then _ else _) _ _ s;rw [if_neg (show ¬ ((Value.ref d == Value.none)=true) by exact Yr)];refine Ya (Ye (Ya (Xr e dd ?_)));rw [if_neg (show ¬ ((((es.size:Nat):Int) != ((es.size:Nat):Int))=true) by simp)];refine Ya (Ye (Ya (XM e dd ?_)));rw [if_neg (show ¬ ((((ep:Nat):Int) != ((ep:Nat):Int))=true) by simp)];refine Ye ?_
 simp only [show ¬ ((i:Int) < 0) by omega,if_false,YS,YaU hx]
 refine Ya (Ya (Wh ty (Ye ?_)));change wpAny _ _ (setField (Value.ref it) 0 .none >>= _) _ _ s;refine Ya (Wy e1 d1 (by simp) ?_);change wpAny _ _ (newExc (Value.type "StopIteration") [] >>= _) _ _ _;refine Ya ?_;simp only [newExc,newTuple];refine Ya (YG (Ya (m:=Wf _ _) (wpAny_of_eq (a:=Value.none) (by first | rfl | (simp only [Wf];rfl)) ?_)) (by size_fits));refine YG ?_ (by size_fits);simp only [raiseNew];refine Ya (wpAny_handled ?_);rw [show A.in1.handled=none from hh];refine Ya (Ye (wpAny_throw ?_));refine Ya (W7 (T:="StopIteration") (b:=true) ⟨_,Yh _ rfl,rfl⟩ Yar ?_);exact Ye (q _ (((XO ..).extBut.push _).push _))
theorem Zxe (d:Addr) (ob:Obj) (es:Array Xp) (ep:Nat) (hs:(d == Xw)=false) (ex:ob.ExactDict) (dd:ob.data=.dict es ep) :
  KdlSrc prog w "dict" d d es.size (fun i v=>∃ x,es[i]?=some x/\v=x.key) (fun h=>h.get? d=some ob) where
 type:=fun _ e=>⟨ob,e,ex.1⟩
 there:=fun _ e=>⟨Yl e,Yl e⟩
 keep:=fun _ _ e hk=>hk d (.inl rfl) ob e
 notList:=by decide
 notTuple:=by decide
 hint:=fun _ _ _ _ e hq=>kdl_hint_dict ⟨ob,e,ex.1⟩ hq
 iter:=fun A s hh e=>⟨_,fun i h=>h.IsKeyIter s.heap.objs.size d i es.size ep/\h.get? d=some ob,(fun _ _ hq=>Zyi hs e ex dd hq),
  {sub:=fun b hb=>by simp at hb;simp [hb]
   frame:=fun _ _ _ st hk=>⟨st.1.at fun o e=>hk _ (by simp) o e,hk d (by simp) _ st.2⟩
   item:=fun i s' Q E hi st hQ=>by
    have bO:d≠s.heap.objs.size:=Yy (Yl e);refine Zxd st.1 st.2 dd (x:=es[i]) (by simp [hi]) fun m cY sb=>?_;exact hQ _ m s'.toks ⟨es[i],by simp [hi],rfl⟩ ⟨cY,sb.extBut _ _ bO st.2⟩ fun b o hb q=>sb.extBut b o (fun h=>hb (by simp [h])) q
   done:=fun s' Q E st hQ=>Zyj hh st.1 st.2 dd (Yf _) fun m eb=>hQ m s'.toks fun b o hb q=>eb b o (fun h=>hb (by simp [h])) q
   self:=fun _ _ _ _ st hQ=>wpAny_pyIter_keyiter st.1 hQ},
  ⟨⟨_,Yh _ rfl,rfl,rfl⟩,Yc _ e⟩⟩
end
def ZyP (H:Hp) (bs:List Addr) (ks:List (List Key)):Prop:=bs.length=ks.length/\∀ (i:Nat) b k,bs[i]?=some b->ks[i]?=some k->H b=some (.tup (k.map kV))
theorem ZrK {X:Cx} (hc:X.calm=true:=by rfl):gK X (.type "list") (fun xs H Q=>∃ p kvs,xs=[.ref p]/\Rd H p (.dT kvs)/\∀ l bs,H l=none->ZyP H bs (kvs.map (·.1))->Q (.ref l) (upd H l (.lst (bs.map V.ref)))):=by
 intro pins s σ H xs us Q I r h;obtain ⟨p,kvs,rfl,hp,q⟩:=h;obtain ⟨u,rfl,ru⟩:=r.one
 cases (show u=Value.ref p from ru)
 have ok:bH X.prog X.w H s.heap p (.dT kvs):=Fb I.ak hp;obtain ⟨ob,e⟩:=ok.there;obtain ⟨hz,hs,ex,es,ep,dd,hl,gf⟩:=Bx ok e;refine kdl_call (Zxe (prog:=X.prog) (w:=X.w) p ob es ep hs ex dd) (I.ok.hd hc) e (by rw [hl];exact hz) fun h' tk acc c hk he hi=>?_
 -- eF addresses of eF keys
 have key:∀ n,n<=kvs.length->∃ bs:List Addr,bs.length=n/\∀ (i:Nat) b,bs[i]?=some b->∃ y k v,es[i]?=some y/\y.key=.ref b/\kvs[i]?=some (k,v)/\H b=some (.tup (k.map kV)):=by
  intro n
  induction n with
  | zero=>intro _;exact ⟨[],rfl,fun i b h=>by simp at h⟩
  | succ n ih=>
   intro hn;obtain ⟨bs,h1,h2⟩:=ih (by omega);obtain ⟨⟨k,v⟩,mI⟩:∃ p,kvs[n]?=some p:=⟨_,Yk (by omega)⟩
   obtain ⟨y,b,hy,kA,hb,_⟩:=gf n k v mI;refine ⟨bs++[b],by rw [Yd,h1];rfl,fun i c hc=>?_⟩
   by_cases hi:i < bs.length
   .rw [Yay hi] at hc;exact h2 i c hc
   .rw [Wv (by omega)] at hc
    have:i - bs.length=0:=by
     cases hh:i - bs.length with
     | zero=>rfl
     | succ m=>rw [hh] at hc;simp at hc
    rw [this] at hc;have Et:i=n:=by omega
    subst Et
    simp at hc
    subst hc;exact ⟨y,k,v,hy,kA,mI,hb⟩
 obtain ⟨bs,tj,hbs⟩:=key kvs.length (Yf _);refine ⟨.ref _,_,I.qv hk (Yf _) he (yz (xs:=bs.map V.ref) ?_ fun j x w hx hw=>?_) (by rw [Yb,tj];exact hz),rfl,q _ bs I.fresh ⟨by rw [tj,Yb],fun i b k hb vk=>?_⟩⟩
 .have e3:acc.toList.length=acc.size:=YQ;rw [Yb,e3,hi.1,hl,tj]
 .obtain ⟨y,hy,rfl⟩:=hi.2 j w (by rw [<- Xx];exact hw);rw [Yo] at hx
  cases hb:bs[j]? with
  | none=>rw [hb] at hx;cases hx
  | some b=>
   rw [hb] at hx
   cases hx
   obtain ⟨y',k,v,vc,kA,_,_⟩:=hbs j b hb;rw [hy] at vc
   cases vc
   exact kA
 .obtain ⟨y,k',v,_,_,mI,hH⟩:=hbs i b hb;rw [Yo,mI] at vk
  cases vk
  exact hH
end L2
namespace L2
open PySem PySem.Spec PyProof.Rows PySem.W
def d0 (es:List (Str×Int)):List (Key×V):=es.map fun p=>(XC p.1,V.int p.2)
def nM (h:Heap) (es:List (Str×Int)) (as:List Addr):Prop:=
 as.length=es.length/\∀ (j:Nat) (a:Addr) (p:Str×Int),as[j]?=some a->es[j]?=some p->∃ t u o n,h.get? a=some o/\o.cls=.type "tuple"/\o.data=.seq #[.str p.1 t,.int p.2 u] n
theorem nM.keep {h h':Heap} {es:List (Str×Int)} {as:List Addr} (e:nM h es as) (k:∀ a∈as,∀ o,h.get? a=some o->h'.get? a=some o):nM h' es as:=
 ⟨e.1,fun j a p ha hp=>by obtain ⟨t,u,o,n,q,r⟩:=e.2 j a p ha hp;exact ⟨t,u,o,n,k a (Ys ha) _ q,r⟩⟩
theorem nM.at {h:Heap} {es:List (Str×Int)} {as:List Addr} (e:nM h es as) {i:Nat} (hi:i < es.length):∃ a t u o n,as.getD i 0=a/\as[i]?=some a/\h.get? a=some o/\o.data=.seq #[.str (es.getD i (Str.empty,0)).1 t,.int (es.getD i (Str.empty,0)).2 u] n:=by
 have kX:i < as.length:=by rw [e.1];exact hi
 obtain ⟨t,u,o,n,q,_,q2⟩:=e.2 i as[i] es[i] (Yk kX) (Yk hi);refine ⟨as[i],t,u,o,n,?_,Yk kX,q,?_⟩
 .rw [Yi,Yk kX];rfl
 .rw [Yi,Yk hi];exact q2
section
variable {prog:Program} {w:World} {A:Around} {E:Value->Shared->Prop} {s:Shared}
theorem Zv7 {es:List (Str×Int)} {as:List Addr} {i j:Nat} {C:Bool->Shared->Prop} (e:nM s.heap es as) (hi:i < es.length) (hj:j < es.length) (h:C (mP (es.getD i (Str.empty,0)) (es.getD j (Str.empty,0))) s) :
  kas_ask prog w A (tuples' true) (as.map Value.ref) i j C s:=by
 obtain ⟨a,t,u,o1,n1,h1,vD,h2,d2⟩:=e.at hi;obtain ⟨b,t',u',o2,n2,h3,h3',h4,d4⟩:=e.at hj;have g1:(as.map Value.ref).getD i Value.none=.ref a:=by rw [Yi,Yo,vD];rfl
 have g3:(as.map Value.ref).getD j Value.none=.ref b:=by rw [Yi,Yo,h3'];rfl
 unfold kas_ask;rw [g1,g3];refine kat_lt h2 d2 h4 d4 ?_;generalize es.getD i (Str.empty,0)=p at h d2;generalize es.getD j (Str.empty,0)=q at h d4;refine kat_cons (wpAny_eqBool_str ?_)
 by_cases z:p.1=q.1
 .rw [decide_eq_true z];refine kat_yes (kat_cons (wpAny_eqBool_int ?_))
  by_cases y:p.2=q.2
  .rw [show (p.2 == q.2)=true by simp [y]];refine kat_yes (kat_nil ?_);unfold mP at h;rw [if_pos z,if_pos y] at h;exact h
  .rw [show (p.2 == q.2)=false by simp [y]];refine kat_no (kat_one _ _ ?_);unfold mP at h;rw [if_pos z,if_neg y] at h;exact lt_int h
 .rw [decide_eq_false z];refine kat_no ?_;unfold mP at h;rw [if_neg z] at h;exact oneLt_str h
end
theorem Zxc {es:List (Str×Int)}:∀ {vs:List (Key×Value)},KV (d0 es) vs->∀ (j:Nat) k x,vs[j]?=some (k,x)->∃ p u,es[j]?=some p/\k=.inr p.1/\x=.int p.2 u:=by
 intro vs r j k x h
 induction es generalizing vs j with
 | nil=>cases r;simp at h
 | cons p es ih=>
  cases r with
  | cons a t=>
   cases j with
   | zero=>
    simp at h
    obtain ⟨a1,u,a2⟩:=a;rw [h] at a1 a2;exact ⟨p,u,rfl,a1.symm,a2⟩
   | succ j=>exact ih t j (by simpa using h)
theorem ZpT:∀ as:List Addr,Vals (as.map V.ref) (as.map Value.ref)
 | []=>.nil
 | _::r=>.cons rfl (ZpT r)
section
variable {X:Cx} {pins:List (Addr×Obj)} {σ:St} {H:Hp} {s:Shared}
def Bw (as:List Addr) (es:List (Str×Int)) (H:Hp):Hp:=qf (as.zip (es.map fun p=>[V.str p.1,V.int p.2])) H
theorem Zv8 {as:List Addr} {es:List (Str×Int)} {H:Hp} (nd:as.Nodup) (hl:as.length=es.length) {j:Nat} {a:Addr} {p:Str×Int} (ha:as[j]?=some a) (hp:es[j]?=some p):Bw as es H a=some (.tup [.str p.1,.int p.2]):=by
 refine Zpu _ H a _ ?_ ?_
 .have:(as.zip (es.map fun p=>[V.str p.1,V.int p.2])).map (·.1)=as:=by
   rw [show (as.zip (es.map fun p=>[V.str p.1,V.int p.2])).map (·.1)=(as.zip (es.map fun p=>[V.str p.1,V.int p.2])).unzip.1 by rw [List.unzip_fst]];rw [List.unzip_zip_left (by rw [Yb,hl];exact Yf _)]
  rw [this];exact nd
 .refine Ys (i:=j) ?_;rw [Yax];exact ⟨ha,by rw [Yo,hp];rfl⟩
theorem ZtX {prog:Program} {w:World} {A:Around} {E:Value->Shared->Prop} {P:PySem.Fin->Shared->Prop} {es:List (Str×Int)} {as:List Addr} {D:Addr} {n:Nat} (ent:nM s.heap es as) (nd:D ∉ as) (hD:s.heap.get? D=some (YZ "list" (as.map Value.ref).toArray n)) (iu:es.length < 64)
  (fin:∀ (h3:Heap) (c:Nat) (outs:List Addr),(∀ b o,b≠D->s.heap.get? b=some o->h3.get? b=some o)->h3.get? D=some (YZ "list" (outs.map Value.ref).toArray c)->
   outs.length=(d3 es).length->outs.length<=es.length->(∀ (j:Nat) a p,outs[j]?=some a->(d3 es)[j]?=some p->∃ i:Nat,as[i]?=some a/\es[i]?=some p)->P (.done (.ret .none)) {s with heap:=h3}) :
  wpAny (model prog w) A (Builtin.«list.sort» ⟨[.ref D],[]⟩) P E s:=by
 have fB:=ent.1;have hlen:(as.map Value.ref).length < 64:=by rw [Yb,fB];exact iu
 by_cases h2:(as.map Value.ref).length < 2
 .refine Zr1 hD h2 fun h3 c kp he=>?_;refine fin h3 c as kp he ?_ (Yam fB) fun j a p ha hp=>?_
  .unfold d3;rw [if_pos (by rw [Yb,fB] at h2;exact h2)];exact fB
  .unfold d3 at hp;rw [if_pos (by rw [Yb,fB] at h2;exact h2)] at hp;exact ⟨j,ha,hp⟩
 .have e2:¬ es.length < 2:=by rw [Yb,fB] at h2;exact h2
  have tG:2<=(as.map Value.ref).length:=by omega
  have hlm:(as.map Value.ref).length=es.length:=by rw [Yb,fB]
  refine ZpB (κ:=tuples' true) (lt:=fun i j=>mP (es.getD i (Str.empty,0)) (es.getD j (Str.empty,0))) hD tG hlen (fun h' Q' kp hq=>?_) (fun h' i j C kp hi hj hq=>?_) fun h3 c hsz kp he=>?_
  .have e':nM h' es as:=ent.keep fun a ha o e=>kp a o (fun z=>nd (z ▸ ha)) e
   have uT:∀ (es:List (Str×Int)) (as:List Addr),nM h' es as->∃ fs:List Value,fs.length=es.length/\KatTups h' (as.map Value.ref) fs/\∀ v∈fs,∃ x t,v=.str x t:=by
    intro es
    induction es with
    | nil=>
     intro as e
     have:as=[]:=List.length_eq_zero_iff.mp e.1
     subst this;exact ⟨[],rfl,KatTups.nil,fun v hv=>nomatch hv⟩
    | cons p es ih=>
     intro as e
     match as,e with
     | a::as,e=>
      obtain ⟨t,u,o,n,g,g1,g2⟩:=e.2 0 a p rfl rfl;obtain ⟨fs,f1,f2,f3⟩:=ih as ⟨by simpa using e.1,fun j b q hb hq=>e.2 (j + 1) b q (by simpa using hb) (by simpa using hq)⟩
      exact ⟨.str p.1 t::fs,by rw [Yv,Yv,f1],KatTups.cons g g1 g2 rfl f2,fun v hv=>by
       rcases List.mem_cons.mp hv with rfl | hv
       .exact ⟨_,_,rfl⟩
       .exact f3 v hv⟩
   obtain ⟨fs,f1,f2,f3⟩:=uT es as e';refine kat_kind (T:=.type "str") f2 (by omega) (fun v hv=>?_) (by decide) ?_
   .obtain ⟨x,t,rfl⟩:=f3 v hv;exact Looks.of_pure rfl
   .rw [show (Value.type "str" != Value.type "tuple")=true by decide];exact hq
  .exact Zv7 (ent.keep fun a ha o e=>kp a o (fun z=>nd (z ▸ ha)) e) (by omega) (by omega) hq
  .rw [hlm] at he hsz;have low:d8 es.length (gk (fun i j=>mP (es.getD i (Str.empty,0)) (es.getD j (Str.empty,0))) (X1 es.length)):=wR _ (wF (n:=es.length) (by omega));have sS:d3 es=(gk (fun i j=>mP (es.getD i (Str.empty,0)) (es.getD j (Str.empty,0))) (X1 es.length)).toList.map fun i=>es.getD i (Str.empty,0):=by unfold d3;rw [if_neg e2]
   generalize gk (fun i j=>mP (es.getD i (Str.empty,0)) (es.getD j (Str.empty,0))) (X1 es.length)=ix at he low sS hsz
   have mv:(ix.toList.map fun i=>(as.map Value.ref).getD i Value.none)=(ix.toList.map fun i=>as.getD i 0).map Value.ref:=by
    rw [Xu];refine List.map_congr_left fun i hi=>?_;have kX:i < es.length:=low.lt i (by simpa using hi);obtain ⟨a,t,u,_,_,g1,g2,_⟩:=ent.at kX;show (as.map Value.ref).getD i Value.none=Value.ref (as.getD i 0);rw [g1,Yi,Yo,g2];rfl
   rw [mv] at he;refine fin h3 c _ kp he ?_ ?_ fun j a p ha hp=>?_
   .rw [sS,Yb,Yb]
   .rw [Yb,YQ,hsz];exact Yf _
   .rw [sS] at hp;rw [Yo] at ha hp
    cases z:ix.toList[j]? with
    | none=>rw [z] at ha;cases ha
    | some i=>
     rw [z] at ha hp
     cases ha
     cases hp
     have kX:i < es.length:=low.lt i (by have:=Ys z;simpa using this);obtain ⟨a,t,u,_,_,g1,g2,_⟩:=ent.at kX;refine ⟨i,by show as[i]?=some (as.getD i 0);rw [g1];exact g2,?_⟩;show es[i]?=some (es.getD i (Str.empty,0));rw [Yi,Yk kX];rfl
theorem Zki (hc:X.calm=true:=by rfl):gK X (.builtin "sorted") (fun xs H Q=>∃ p d es,xs=[.ref p]/\H p=some (vQ p d)/\Rd H d (.dK (d0 es))/\es.length < 64/\
  ∀ (l:Addr) (as:List Addr) (H':Hp),af H H'->H l=none->H' l=some (.lst (as.map V.ref))->as.length=(d3 es).length->as.length<=es.length->(∀ (j:Nat) a p,as[j]?=some a->(d3 es)[j]?=some p->H' a=some (.tup [.str p.1,.int p.2]))->Q (.ref l) H'):=by
 intro pins s σ H xs us Q I r h;obtain ⟨p,d,es,rfl,hp,hd,iu,q⟩:=h;obtain ⟨u,rfl,ru⟩:=r.one
 cases (show u=Value.ref p from ru)
 have hv:s.heap.IsItemsView p d:=(I.ak p _ hp).1;obtain ⟨hz,hs,vs,rel,dd⟩:=me I.ak hd;obtain ⟨ep,gf⟩:=dd.dictAt;have hvl:vs.length=es.length:=by rw [<- rel.length];exact Yb ..
 refine Calls.call_function_entry kind_sorted plain_sorted entry_sorted (args_sorted1 _) ?_;unfold Builtin.«sorted»;refine Ya (m:=checkCount "sorted" 1 1 _) (Ye ?_);refine Ya (kdx_collect (knd:=ZW X.prog X.w) (kvs:=vs) (ep:=ep) (by first | exact I.ok.hd hc | exact (I.ok.hd hc)) hv gf (by rw [<- rel.length];exact hz) fun h1 tk as old vv G=>?_);have fB:as.length=es.length:=vv.trans hvl
 have ent:nM h1 es as:=⟨fB,fun j a p' ha oZ=>by
  obtain ⟨key,k,x,h2,h3,h4⟩:=G.pairs j a ha;obtain ⟨p2,u,h5,h6,h7⟩:=Zxc rel j k x h2;rw [oZ] at h5
  cases h5
  subst h6 h7;obtain ⟨t,rfl⟩:=(show RelV (.str p'.1) key from BD h3)
  exact ⟨t,u,_,_,h4,rfl,rfl⟩⟩
 have nd:as.Nodup:=G.rise.imp fun h=>Yy h;have lt1:∀ a∈as,a < h1.objs.size:=fun a ha=>G.there ha;refine Ya (wpAny_newList ?_ (by rw [Yb,fB,Wz];omega));have hD:(h1.push (YZ "list" (as.map Value.ref).toArray 0)).get? h1.objs.size=some (YZ "list" (as.map Value.ref).toArray 0):=Yh _ rfl
 have sD:s.heap.get? h1.objs.size=none:=by
  cases z:s.heap.get? h1.objs.size with
  | none=>rfl
  | some o=>exact absurd (Yl (old _ _ z)) (Y8 _)
 -- what every end Mn
 have fin:∀ (h3:Heap) (c:Nat) (outs:List Addr),(∀ b o,b≠h1.objs.size->(h1.push (YZ "list" (as.map Value.ref).toArray 0)).get? b=some o->h3.get? b=some o)->h3.get? h1.objs.size=some (YZ "list" (outs.map Value.ref).toArray c)->
   outs.length=(d3 es).length->outs.length<=es.length->(∀ (j:Nat) a p,outs[j]?=some a->(d3 es)[j]?=some p->∃ i:Nat,as[i]?=some a/\es[i]?=some p)->EP X pins σ Q (.ref h1.objs.size) {s with heap:=h3,toks:=tk}:=by
  intro h3 c outs kp he hol LK LX;have Lk:∀ b o,s.heap.get? b=some o->h3.get? b=some o:=fun b o e=>kp b o (Yy (Yl (old b o e))) (Yc _ (old b o e))
  have Bn:∀ a∈as,s.heap.get? a=none/\H a=none/\a≠h1.objs.size:=fun a ha=>by
   have:=G.above a ha
   refine ⟨?_,I.ak.fresh (W3 this),Yy (lt1 a ha)⟩
   cases z:s.heap.get? a with
   | none=>rfl
   | some o=>exact absurd (Yl z) (Nat.not_lt.mpr (W3 this))
  have Mc:nM h3 es as:=ent.keep fun a ha o e=>kp a o (Bn a ha).2.2 (Yc _ e)
  have mem:∀ b xs,(b,xs)∈as.zip (es.map fun p=>[V.str p.1,V.int p.2])->∃ (j:Nat) (p:Str×Int),as[j]?=some b/\es[j]?=some p/\xs=[V.str p.1,V.int p.2]:=fun b xs hm=>by
   obtain ⟨j,hj⟩:=List.mem_iff_getElem?.mp hm;rw [Yax] at hj;obtain ⟨j1,j2⟩:=hj;rw [Yo] at j2
   cases z:es[j]? with
   | none=>rw [z] at j2;cases j2
   | some p=>rw [z] at j2;cases j2;exact ⟨j,p,j1,z,rfl⟩
  have xS:H h1.objs.size=none:=(I.kept (h':=h1) (t':=tk) old).ak.fresh (Yf _)
  have sm:af H (upd (Bw as es H) h1.objs.size (.lst (outs.map V.ref))):=fun b o e=>by
   rw [Ze (Zc e xS)];unfold Bw;rw [ZmZ]
   .exact e
   .intro hm;obtain ⟨⟨b',xs⟩,hm1,rfl⟩:=List.mem_map.mp hm;obtain ⟨j,p,j1,_,_⟩:=mem _ _ hm1
    have:=(Bn _ (Ys j1)).2.1
    rw [show b'=(b',xs).1 from rfl] at this;rw [this] at e
    cases e
  have at3:∀ (j:Nat) a p,as[j]?=some a->es[j]?=some p->(upd (Bw as es H) h1.objs.size (.lst (outs.map V.ref))) a=some (.tup [.str p.1,.int p.2]):=fun j a p ha hp=>by
   rw [Ze (Bn a (Ys ha)).2.2];exact Zv8 nd fB ha hp
  refine ⟨.ref h1.objs.size,_,I.many (t':=tk) Lk sm (fun b o e=>?_),rfl,q _ outs _ sm xS Zb hol LK fun j a p ha hp=>?_⟩
  .by_cases z:b=h1.objs.size
   .subst z;rw [Zb] at e
    cases e
    refine .inr ⟨sD,?_,(outs.map Value.ref),c,?_,he⟩
    .rw [Yb]
     have:(64:Nat)<=Yj:=by decide
     omega
    .exact ZpT outs
   .rw [Ze z] at e;rcases Zpt _ H b o e with y | ⟨xs,y,rfl⟩
    .exact .inl y
    .obtain ⟨j,p,j1,j2,rfl⟩:=mem _ _ y;obtain ⟨t,u,o',n',g,g1,g2⟩:=Mc.2 j b p j1 j2;exact .inr ⟨(Bn b (Ys j1)).1,BA (vs:=#[.str p.1 t,.int p.2 u]) ⟨_,g,g1,_,g2⟩ (.cons ⟨t,rfl⟩ (.cons ⟨u,rfl⟩ .nil)) (by show 2<=Yj;decide)⟩
  .obtain ⟨i,i1,i2⟩:=LX j a p ha hp;exact at3 i a p i1 i2
 refine Ya (Xq (YM slot_list_sort ⟨_,hD,rfl⟩ entry_list_sort (ZtX (s:={s with heap:=h1.push (YZ "list" (as.map Value.ref).toArray 0),toks:=tk}) (ent.keep fun a _ o e=>Yc _ e) (fun z=>Y8 _ (lt1 _ z)) hD iu fun h3 c outs kp he a b d=>⟨_,rfl,Ye ⟨_,rfl,fin h3 c outs kp he a b d⟩⟩) (args_list_sort _)))
end
end L2
namespace L2
open PySem PySem.Spec PyProof.Rows PySem.W
def gi (ns:List Str):List Str:=
 if ns.length < 2 then ns else (gk (fun i j=>decide ((ns.getD i Str.empty).cps.toList < (ns.getD j Str.empty).cps.toList)) (X1 ns.length)).toList.map fun i=>ns.getD i Str.empty
theorem BQ:∀ {ns:List Str} {vs:List Value},Vals (ns.map V.str) vs->∀ {i:Nat},i < ns.length->∃ t,vs.getD i Value.none=.str (ns.getD i Str.empty) t
 | [],_,_,_,h=>absurd h (Nat.not_lt_zero _)
 | n::ns,_,.cons ⟨t,e⟩ r,0,_=>⟨t,e⟩
 | n::ns,_,.cons _ r,i + 1,h=>by
  obtain ⟨t,e⟩:=BQ r (i:=i) (by simpa using h);exact ⟨t,by simpa using e⟩
theorem Zxb {ks:List Str}:∀ {kvs:List (Key×V)},kvs.map (·.1)=ks.map XC->∀ {vs:List (Key×Value)},KV kvs vs->vs.map (·.1)=ks.map XC:=by
 intro kvs h vs r;rw [<- r.keys];exact h
section
variable {X:Cx} {pins:List (Addr×Obj)} {σ:St} {H:Hp} {s:Shared}
theorem Zkj (hc:X.calm=true:=by rfl):gK X (.builtin "sorted") (fun xs H Q=>∃ d kvs ns,xs=[.ref d]/\Rd H d (.dK kvs)/\kvs.map (·.1)=ns.map XC/\ns.length < 64/\
  ∀ (l:Addr),H l=none->Q (.ref l) (upd H l (.lst ((gi ns).map V.str)))):=by
 intro pins s σ H xs us Q I r h;obtain ⟨d,kvs,ns,rfl,hd,hks,iu,q⟩:=h;obtain ⟨u,rfl,ru⟩:=r.one
 cases (show u=Value.ref d from ru)
 obtain ⟨hz,hs,vs,rel,dd⟩:=me I.ak hd;obtain ⟨ep,gf⟩:=dd.dictAt
 have Er:kvs.length=ns.length:=by
  have:=congrArg List.length hks
  rw [Yb,Yb] at this;exact this
 refine Calls.call_function_entry kind_sorted plain_sorted entry_sorted (args_sorted1 _) ?_;unfold Builtin.«sorted»;refine Ya (m:=checkCount "sorted" 1 1 _) (Ye ?_);refine Ya (kdu_collect (kdl_dict (knd:=ZW X.prog X.w) (kvs:=vs) (ep:=ep) hs) (by first | exact I.ok.hd hc | exact (I.ok.hd hc)) gf (by rw [<- rel.length];exact hz) fun h1 tk acc old hi=>?_)
 have vv:acc.toList.length=ns.length:=by
  have e3:acc.toList.length=acc.size:=YQ;rw [e3,hi.1,<- rel.length,Er]
 have rv:Vals (ns.map V.str) acc.toList:=by
  refine yz (by rw [Yb,vv]) fun j x w hx hw=>?_;obtain ⟨k,y,hy,vk⟩:=hi.2 j w (by rw [<- Xx];exact hw);have e1:(vs.map (·.1))[j]?=some k:=by rw [Yo,hy];rfl
  rw [Zxb hks rel,Yo] at e1;rw [Yo] at hx
  cases z:ns[j]? with
  | none=>rw [z] at hx;cases hx
  | some n=>
   rw [z] at hx e1
   cases hx
   cases e1
   exact BD vk
 generalize acc.toList=us at vv rv;refine Ya (wpAny_newList ?_ (by rw [Wz];omega));have hD:(h1.push (YZ "list" us.toArray 0)).get? h1.objs.size=some (YZ "list" us.toArray 0):=Yh _ rfl
 have sD:s.heap.get? h1.objs.size=none:=by
  cases z:s.heap.get? h1.objs.size with
  | none=>rfl
  | some o=>exact absurd (Yl (old _ _ z)) (Y8 _)
 have xS:H h1.objs.size=none:=(I.kept (h':=h1) (t':=tk) old).ak.fresh (Yf _)
 have fin:∀ (h3:Heap) (c:Nat) (outs:List Value),(∀ b o,b≠h1.objs.size->(h1.push (YZ "list" us.toArray 0)).get? b=some o->h3.get? b=some o)->h3.get? h1.objs.size=some (YZ "list" outs.toArray c)->
   (gi ns).length<=ns.length->Vals ((gi ns).map V.str) outs->EP X pins σ Q (.ref h1.objs.size) {s with heap:=h3,toks:=tk}:=by
  intro h3 c outs kp he hl ro;refine ⟨.ref h1.objs.size,_,I.many (t':=tk) (fun b o e=>kp b o (Yy (Yl (old b o e))) (Yc _ (old b o e))) (Zk xS) (fun b o e=>?_),rfl,q _ xS⟩
  by_cases z:b=h1.objs.size
  .subst z;rw [Zb] at e
   cases e
   refine .inr ⟨sD,?_,outs,c,ro,he⟩;rw [Yb]
   have:(64:Nat)<=Yj:=by decide
   omega
  .rw [Ze z] at e;exact .inl e
 refine Ya (Xq (YM slot_list_sort ⟨_,hD,rfl⟩ entry_list_sort ?body (args_list_sort _)))
 case body=>
  by_cases h2:us.length < 2
  .refine Zr1 (s:={s with heap:=h1.push (YZ "list" us.toArray 0),toks:=tk}) hD h2 fun h3 c kp he=>?_;have e2:gi ns=ns:=by unfold gi;rw [if_pos (by omega)]
   exact ⟨_,rfl,Ye ⟨_,rfl,fin h3 c us kp he (by rw [e2];exact Yf _) (by rw [e2];exact rv)⟩⟩
  .have e2:¬ ns.length < 2:=by omega
   refine ZpB (s:={s with heap:=h1.push (YZ "list" us.toArray 0),toks:=tk}) (κ:=oneType') (lt:=fun i j=>decide ((ns.getD i Str.empty).cps.toList < (ns.getD j Str.empty).cps.toList)) hD (by omega) (by omega) (fun h' Q' kp hq=>?_) (fun h' i j C kp hi hj hq=>?_) fun h3 c hsz kp he=>?_
   .have hS:=Zr0 rv
    match us,h2,hS with
    | v1::v2::r,_,hS=>
     rw [keyKind_strs hS];exact Ye hq
    | [v1],h2,_=>exact absurd (by show 1 < 2;decide) h2
    | [],h2,_=>exact absurd (by decide) h2
   .obtain ⟨t,g1⟩:=BQ rv (i:=i) (by omega);obtain ⟨t',g2⟩:=BQ rv (i:=j) (by omega);unfold kas_ask;rw [g1,g2];exact kas_lt_str hq
   .rw [vv] at he hsz;have low:d8 ns.length (gk (fun i j=>decide ((ns.getD i Str.empty).cps.toList < (ns.getD j Str.empty).cps.toList)) (X1 ns.length)):=wR _ (wF (n:=ns.length) (by omega));have sS:gi ns=(gk (fun i j=>decide ((ns.getD i Str.empty).cps.toList < (ns.getD j Str.empty).cps.toList)) (X1 ns.length)).toList.map fun i=>ns.getD i Str.empty:=by unfold gi;rw [if_neg e2]
    generalize gk (fun i j=>decide ((ns.getD i Str.empty).cps.toList < (ns.getD j Str.empty).cps.toList)) (X1 ns.length)=ix at he low sS hsz;refine ⟨_,rfl,Ye ⟨_,rfl,fin h3 c _ kp he ?_ ?_⟩⟩
    .rw [sS,Yb,YQ,hsz];exact Yf _
    .rw [sS]
     have:∀ l:List Nat,(∀ i∈l,i < ns.length)->Vals ((l.map fun i=>ns.getD i Str.empty).map V.str) (l.map fun i=>us.getD i Value.none):=by
      intro l
      induction l with
      | nil=>intro _;exact .nil
      | cons i r ih=>
       intro hl;obtain ⟨t,g⟩:=BQ rv (i:=i) (hl i Yw);exact .cons ⟨t,g⟩ (ih fun j hj=>hl j (Yp _ hj))
     exact this _ fun i hi=>low.lt i (by simpa using hi)
end
end L2
namespace L2
open PySem PySem.Spec PyProof.Rows PySem.W
def Dw (x:Str):It:=⟨fun i _=>i < x.cps.size,fun i H v H'=>H'=H/\∃ c,x.cps[i]?=some c/\v=.str ⟨#[c]⟩,fun i _=>i=x.cps.size⟩
theorem Zvq {P:Program} {w:World} {K:Frag} {tg:Expr} (it:Addr) (x:Str) (ty:String) (t:Tok)
  (W:∀ A':Around,A'.handled=none->Walks P w A' it [it] [it] x.cps.size (SignAt x) fun i h=>h.IsStrIter it ty x t i) (oy:∀ (A:Around) (i:Nat) (s:Shared) (Q:Value->Shared->Prop) (E:Value->Shared->Prop),s.heap.IsStrIter it ty x t i->Q (.ref it) s->wpAny (model P w) A (pyIter (.ref it)) Q E s):Turn P w K tg (Dw x) [it] it (fun i h=>h.IsStrIter it ty x t i) where
 mem:=by simp
 obj:=fun i h st b hb=>by
  have e:b=it:=by simpa using hb
  subst e;obtain ⟨o,e,c,d⟩:=st;exact ⟨o,e,fun v z=>by rw [d] at z;cases z⟩
 keep:=fun i h h' st k=>let ⟨o,e,r⟩:=st;⟨o,k it (by simp) o e,r⟩
 item:=by
  intro X hP hw hK hc i pins s σ H E I hf st hg;subst hP hw hK;obtain ⟨f0,f1,f2,f3,f4,f5⟩:=hf it (by simp);refine (W X.A (I.ok.hd hc)).item i s _ _ hg st fun v h' tk hv cY kk=>?_;obtain ⟨c,t',hx,rfl⟩:=hv;have I1:Inv X pins σ H {s with heap:=h',toks:=tk}:=I.turned (fun b o hb e=>kk b o (by simpa using hb) e) f0 f1 f3 f4 f5;refine ⟨_,rfl,?_⟩;unfold Yah
  cases tg <;> exact Ye ⟨.str ⟨#[c]⟩,H,I1,⟨t',rfl⟩,⟨rfl,c,hx,rfl⟩,cY,fun b hb=>(hf b hb).1⟩
 done:=by
  intro X hP hw hK hc i pins s σ H E I hf st hg;subst hP hw hK;obtain ⟨f0,f1,f2,f3,f4,f5⟩:=hf it (by simp);have hg':i=x.cps.size:=hg;subst hg';exact (W X.A (I.ok.hd hc)).done s _ _ st fun h' tk kk=>⟨rfl,I.turned (fun b o hb e=>kk b o (by simpa using hb) e) f0 f1 f3 f4 f5⟩
 self:=fun A i s Q E st h=>oy A i s Q E st h
def Ly (tl:TE):TI:=fun σ H R=>tl σ H fun x H1=>∃ y,x=.str y/\R (Dw y) H1
theorem Zwl {X:Cx} {tg l:Expr} {tl:TE} (hl:PE X l tl):PI X tg l (Ly tl):=by
 try unfold PE at *
 intro pins s σ H R I h;refine az (hl pins s σ H _ I h) fun v s1 ⟨x,H1,I1,r1,y,ex,q⟩=>?_;subst ex;obtain ⟨t,rfl⟩:=(show ∃ t,v=Value.str y t from r1)
 have fin:∀ (ty:String),(∀ A':Around,A'.handled=none->Walks X.prog X.w A' s1.heap.objs.size [s1.heap.objs.size] [s1.heap.objs.size] y.cps.size (SignAt y) fun i h=>h.IsStrIter s1.heap.objs.size ty y t i)->
   (∀ (A:Around) (i:Nat) (s:Shared) (Q:Value->Shared->Prop) (E:Value->Shared->Prop),s.heap.IsStrIter s1.heap.objs.size ty y t i->Q (.ref s1.heap.objs.size) s->wpAny (model X.prog X.w) A (pyIter (.ref s1.heap.objs.size)) Q E s)->
   KU X pins σ tg R (.ref s1.heap.objs.size) {s1 with heap:=s1.heap.push {cls:=.type ty,data:=.fields #[.str y t,.int 0 0]}}:=by
  intro ty W oy;refine ⟨s1.heap.objs.size,[s1.heap.objs.size],_,_,H1,rfl,I1.kept (t':=s1.toks) fun b o e=>Yc _ e,Zvq _ y ty t W oy,⟨_,Yh _ rfl,rfl,rfl⟩,fun b hb=>?_,q⟩;have e:b=s1.heap.objs.size:=by simpa using hb
  subst e;exact I1.fC (Yf _) (I1.ak.fresh (Yf _))
 cases ha:y.cps.all (· < 128)
 .exact wpAny_pyIter_wide ha (fin _ (fun A' hA=>Walks.strWide hA _ y t) fun A i s Q E st h=>wpAny_pyIter_striter_wide st h)
 .exact wpAny_pyIter_ascii ha (fin _ (fun A' hA=>Walks.strAscii hA _ y t) fun A i s Q E st h=>wpAny_pyIter_striter_ascii st h)
theorem qk {J:It} {tt:TT} {te:TE} {σ:St} {ix:List Nat} {H1:Hp} {D:Addr} {Q:Hp->Prop} (n:Nat) (f:Nat->Option V) (Xi:Nat->V->Prop) (hD:H1 D=none) (hn:n<=Yj)
  (hgo:∀ i H',i < n->af H1 H'->J.go i H') (gc:∀ H',af H1 H'->J.stop n H') (hy:∀ i H' x H2,i < n->af H1 H'->J.ik i H' x H2->H2=H'/\Xi i x)
  (hs:∀ i x H' (N:Option V->Hp->Prop),i < n->Xi i x->af H1 H'->(∀ H5,af H' H5->N (f i) H5)->tt (some x::ix.map fun i=>(σ[i]?).getD none) H' fun b H4=>if b=true then te (some x::ix.map fun i=>(σ[i]?).getD none) H4 fun v H5=>N (some v) H5 else N none H4)
  (hd:∀ H',af H1 H'->H' D=some (.lst ((List.range n).filterMap f))->Q H') :
  ∃ W:Nat->Nat->St->List V->Hp->Prop,(∃ m,W 0 m (List.replicate 1 none++ix.map fun i=>(σ[i]?).getD none) [] (upd H1 D (.lst [])))/\
   ∀ i m ar ys H',W i m ar ys H'->H' D=some (.lst ys)/\((J.stop i H'/\Q H')∨(J.go i H'/\ys.length < Yj/\
    ∀ x H2,J.ik i H' x H2->k6 0 x ar H2 fun aQ H3=>tt aQ H3 fun b H4=>
     if b=true then te aQ H4 fun v H5=>H5 D=some (.lst ys)/\∃ m',m' < m/\W (i + 1) m' aQ (ys++[v]) (upd H5 D (.lst (ys++[v])))
     else ∃ m',m' < m/\W (i + 1) m' aQ ys H4)):=by
 refine ⟨fun i m ar ys H'=>i<=n/\m=n - i/\(∃ o,ar=o::ix.map fun i=>(σ[i]?).getD none)/\ys=(List.range i).filterMap f/\H' D=some (.lst ys)/\af H1 H',⟨n,Yt _,rfl,⟨none,rfl⟩,rfl,Zb,Zk hD⟩,?_⟩
 rintro i m ar ys H' ⟨hi,rfl,⟨o,rfl⟩,ey,hH,sm⟩
 refine ⟨hH,?_⟩
 by_cases aT:i < n
 .have u_:ys.length<=i:=by
   rw [ey];refine Yn (WG _ _) ?_;rw [Xh];exact Yf _
  refine .inr ⟨hgo i H' aT sm,by omega,fun x H2 hyy=>?_⟩;obtain ⟨rfl,hX⟩:=hy i H' x H2 aT sm hyy
  have key:=hs i x H2 (fun ov H5=>match ov with
   | some v=>H5 D=some (.lst ys)/\∃ m',m' < n - i/\(i + 1<=n/\m'=n - (i + 1)/\(∃ o,(some x::ix.map fun i=>(σ[i]?).getD none)=o::ix.map fun i=>(σ[i]?).getD none)/\ys++[v]=(List.range (i + 1)).filterMap f/\(upd H5 D (.lst (ys++[v]))) D=some (.lst (ys++[v]))/\af H1 (upd H5 D (.lst (ys++[v]))))
   | none=>∃ m',m' < n - i/\(i + 1<=n/\m'=n - (i + 1)/\(∃ o,(some x::ix.map fun i=>(σ[i]?).getD none)=o::ix.map fun i=>(σ[i]?).getD none)/\ys=(List.range (i + 1)).filterMap f/\H5 D=some (.lst ys)/\af H1 H5)) aT hX sm (fun H5 s5=>by
    have e1:(List.range (i + 1)).filterMap f=ys++(match f i with | some v=>[v] | none=>[]):=by
     rw [List.range_succ,List.filterMap_append,<- ey,List.append_cancel_left_eq]
     cases hf:f i <;> simp [Xg,hf]
    cases hf:f i with
    | some v=>
     refine ⟨s5 _ _ hH,n - (i + 1),by omega,aT,rfl,⟨_,rfl⟩,by rw [e1,hf],Zb,fun b o e=>?_⟩;rw [Ze (Zc e hD)];exact s5 _ _ (sm _ _ e)
    | none=>exact ⟨n - (i + 1),by omega,aT,rfl,⟨_,rfl⟩,by rw [e1,hf,Y0],s5 _ _ hH,sm.trans s5⟩)
  exact key
 .have e:i=n:=by omega
  subst e;refine .inl ⟨gc H' sm,hd H' sm ?_⟩;rw [<- ey];exact hH
end L2
namespace L2
open PySem
structure Zvj (K:Yg) (C:Addr):Prop where
 ha:Xj K (.ref C) "__class__"=some (some (.builtin "object.__class__"))
 hn:PySem.W.specialIn K (.builtin "object.__class__") "__get__"=some (some (.builtin "getset_descriptor.__get__"))
 jW:PySem.W.takesIn K (.builtin "object.__class__")=some true
 hm:PySem.W.mroIn K C (.type "object")=some true
 hk:Yas K (.ref C) (.ref C)=some true
inductive um (K:Yg) (xs:List V) (H:Hp) (Q:VK):Prop
 | mk (a C dx:Addr) (fs:List (Str×V)):xs=[.ref a,.ref C]->H a=some (.ins C dx fs)->Cls K C->Zvj K C->Q (.bl true) H->um K xs H Q
theorem Zwg {X:Cx}:gK X (.builtin "isinstance") (um X.K):=by
 intro pins s σ H xs us Q I r h;obtain ⟨a,C,dx,fs,rfl,ha,cl,O,q⟩:=h;obtain ⟨u,v,rfl,ru,rv⟩:=r.two
 cases (show v=Value.ref C from rv)
 exact ZuK I ru (.ins ha cl O.ha O.hn O.jW O.hm) O.hk fun tk=>⟨.bl true,H,I.tok tk,rfl,q⟩
theorem Zyb {X:Cx} {a b:Expr} {ta tb:TE} {p pos:Pos} (ha:PE X a ta) (hb:PE X b tb) (hg:Gl X "isinstance") (hm:X.mg "isinstance"=none)
  (h1:YF [a,b] X.env=(false,eval a X.env)::YF [b] X.env:=by rfl) (h2:YF [b] X.env=(false,eval b X.env)::YF [] X.env:=by rfl) (df:(Wx pos (YF [b] X.env)).any (·.1)=false:=by rfl) :
  PE X (.Call (.Name "isinstance" p) [a,b] [] pos) (w9 (um X.K) (gu ta (gu tb bB))):=
 Zv Zwg hg hm PyProof.Rows.Boot.«isinstance» (Za ha (Za hb Zf h2) h1) (by decide) (by decide) h1 df
end L2
namespace L2
open PySem PySem.Spec PyProof.Rows
end L2
namespace L2
open PySem
theorem ZwA {K:Yg} {C:Addr} {d:ClassData} (h:PySem.W.clsIn K C=some d):(PySem.W.clsIn K C).isSome=true:=by rw [h];rfl
end L2
namespace L2
open PySem
theorem Zzu {K:Yg} {x:Str} {f c P:Addr} {oc a1:Value} {od a2:Option Addr} {sl a4:Array (Option Value)} {fd:Ym} {vs:Array Value} (h1:PySem.W.nsIn K X7 x=some (some (.ref f))) (h2:K.lookup f=some ⟨oc,od,.func fd,sl⟩) (h3:fd.code=.ref c) (h4:K.lookup c=some ⟨a1,a2,.fields vs,a4⟩) (h5:vs[11]?=some (.ref P)):PySem.W.tabIn K x=some (c,P):=by
 unfold PySem.W.tabIn;rw [h1];dsimp only;rw [show XU f K=_ from h2];dsimp only;rw [h3];dsimp only;rw [show XU c K=_ from h4];dsimp only;rw [h5]
end L2
namespace L2
open PySem
theorem Zza {K:Yg} {C:Addr} {f:Str} (h:Xj K (.ref C) f=some none):d6 K C f:=h
end L2
namespace L2
open PySem PyProof.Rows
theorem aA.aG {P:Program} {w:World} {K:Yg} {mg:Str->Option Value} {base:Heap} {x qual:Str} {st:Stmt} {f:Addr} {fd:Ym} {N ps:List Str} {k:Nat} {sp:Sp} (F:aA K x qual st f fd) (S:Zm N ps (Zi st))
  (h:∀ vs H Q E,sp vs H Q E->vs.length=ps.length/\∀ (bg:Value) (A:Around) (outer:List Env) (s:Shared),aW k (A.deeper (Yae qual (Zi st) s.heap.objs.size f bg))->
   ∃ t,d7 (aV (aw P w) P w K mg base N qual (Zi st) f bg A outer s H E) (mi st) t/\t {nx:=fun _ H'=>Q .aH H',rt:=Q} (bJ N vs) H):ah P w K mg base (aw P w) (k + 1) f fd ps sp:=
 F.okE S (fun vs H Q E x=>(h vs H Q E x).1) fun bg A outer s H vs Q E hr x=>(h vs H Q E x).2 bg A outer s hr
end L2
namespace L2
open PySem
def scB (N P:List Str) (sc:Scope):Bool:=sc.kind == .function && !sc.isCoroutine && !sc.isGenerator && decide N.Nodup && decide (N.take P.length=P) && P.all (fun x=>decide (sc.names.lookup x=some .local) || decide (sc.names.lookup x=some .cell)) && sc.names.all fun y=>decide (y.2≠.free)
theorem ZE {N P:List Str} {sc:Scope} (h:scB N P sc=true):Zm N P sc:=by
 unfold scB at h
 simp only [Xz,Yaj,W8,beq_iff_eq,decide_eq_true_eq,YaC] at h
 obtain ⟨⟨⟨⟨⟨⟨h1,h2⟩,h3⟩,h4⟩,h5⟩,h6⟩,h7⟩:=h;exact ⟨h1,h2,h3,h4,h5,h6,h7⟩
section
variable {K:Yg} {x qual:Str} {st:Stmt} {f:Addr} {fd:Ym} {a b c d e:Str}
theorem aA.b0 (F:aA K x qual st f fd) (h:∀ (kV doc pm:Value) (an:Option Addr) (bg ct:Value),bindArgs (XG x qual (pC st) (mi st) (Zi st) .none kV doc pm an bg ct) ⟨[],[]⟩=pure []:=by intros;rfl):ZA K fd [] []:=F.binds fun _ _ _ _ _ _ us hl=>match us,hl with | [],_=>h ..
theorem aA.b1 (F:aA K x qual st f fd) (h:∀ (kV doc pm:Value) (an:Option Addr) (bg ct t:Value),bindArgs (XG x qual (pC st) (mi st) (Zi st) .none kV doc pm an bg ct) ⟨[t],[]⟩=pure [(a,t)]:=by intros;rfl):ZA K fd [a] []:=F.binds fun _ _ _ _ _ _ us hl=>match us,hl with | [_],_=>h ..
theorem aA.b2 (F:aA K x qual st f fd) (h:∀ (kV doc pm:Value) (an:Option Addr) (bg ct t u:Value),bindArgs (XG x qual (pC st) (mi st) (Zi st) .none kV doc pm an bg ct) ⟨[t,u],[]⟩=pure [(a,t),(b,u)]:=by intros;rfl):ZA K fd [a,b] []:=F.binds fun _ _ _ _ _ _ us hl=>match us,hl with | [_,_],_=>h ..
theorem aA.b3 (F:aA K x qual st f fd) (h:∀ (kV doc pm:Value) (an:Option Addr) (bg ct t u v:Value),bindArgs (XG x qual (pC st) (mi st) (Zi st) .none kV doc pm an bg ct) ⟨[t,u,v],[]⟩=pure [(a,t),(b,u),(c,v)]:=by intros;rfl):ZA K fd [a,b,c] []:=F.binds fun _ _ _ _ _ _ us hl=>match us,hl with | [_,_,_],_=>h ..
theorem aA.b4 (F:aA K x qual st f fd) (h:∀ (kV doc pm:Value) (an:Option Addr) (bg ct t u v w:Value),bindArgs (XG x qual (pC st) (mi st) (Zi st) .none kV doc pm an bg ct) ⟨[t,u,v,w],[]⟩=pure [(a,t),(b,u),(c,v),(d,w)]:=by intros;rfl):ZA K fd [a,b,c,d] []:=F.binds fun _ _ _ _ _ _ us hl=>match us,hl with | [_,_,_,_],_=>h ..
theorem aA.b5 (F:aA K x qual st f fd) (h:∀ (kV doc pm:Value) (an:Option Addr) (bg ct t u v w z:Value),bindArgs (XG x qual (pC st) (mi st) (Zi st) .none kV doc pm an bg ct) ⟨[t,u,v,w,z],[]⟩=pure [(a,t),(b,u),(c,v),(d,w),(e,z)]:=by intros;rfl):ZA K fd [a,b,c,d,e] []:=F.binds fun _ _ _ _ _ _ us hl=>match us,hl with | [_,_,_,_,_],_=>h ..
end
end L2
namespace L2
open PySem PySem.Spec PyProof.Rows
section
variable {X:Cx}
end
end L2
namespace L2
open PySem PySem.Spec PyProof.Rows
def yZ (lo c:Int) (n:Nat):It:=⟨fun i _=>i < n,fun i H x H'=>H'=H/\x=.int (lo + i * c),fun i _=>n<=i⟩
theorem Zq2 {P:Program} {w:World} {K:Yg} {tg:Expr} (it:Addr) (lo c:Int) (n:Nat):Turn P w K tg (yZ lo c n) [it] it (fun i h=>IsRangeIter h it (lo + (i:Nat) * c) ((n:Int) - (i:Nat)) c) where
 mem:=by simp
 obj:=fun i h st b hb=>by
  have e:b=it:=by simpa using hb
  subst e
  exact ⟨_,st,fun v z=>by
   have z':Data.fields _=Data.cell v:=z
   cases z'⟩
 keep:=fun i h h' st k=>k it (by simp) _ st
 item:=by
  intro X hP hw hK hc i pins s σ H E I hf st hg;subst hP hw hK;obtain ⟨f0,f1,f2,f3,f4,f5⟩:=hf it (by simp);have W:=Walks.range (prog:=X.prog) (w:=X.w) (I.ok.hd hc) it lo c n;refine W.item i s _ _ hg st fun v h' tk hv cY kk=>?_;obtain ⟨t,rfl⟩:=hv;have I1:Inv X pins σ H {s with heap:=h',toks:=tk}:=I.turned (fun b o hb e=>kk b o (by simpa using hb) e) f0 f1 f3 f4 f5;exact ⟨_,rfl,vJ (s:={s with heap:=h',toks:=tk}) (n:="range_iterator") cY rfl rfl (by decide) ⟨.int (lo + i * c),H,I1,⟨t,rfl⟩,⟨rfl,rfl⟩,cY,fun b hb=>(hf b hb).1⟩⟩
 done:=by
  intro X hP hw hK hc i pins s σ H E I hf st hg;subst hP hw hK;obtain ⟨f0,f1,f2,f3,f4,f5⟩:=hf it (by simp);exact wpAny_pyNext_range_end (I.ok.hd hc) st (by have:n<=i:=hg;omega) fun h' eb=>⟨rfl,I.turned (t':=s.toks) (fun b o hb e=>eb b o hb e) f0 f1 f3 f4 f5⟩
 self:=fun _ _ _ _ _ st h=>wpAny_pyIter_rangeiter st h
section
variable {X:Cx} {tg:Expr}
def Zze (ta:TA):TI:=fun σ H R=>ta σ H fun vs H1=>∃ (i j c:Int) (n:Nat),vs=[.int i,.int j,.int c]/\0 < c/\c < 1000000/\Ybf i j c=true/\XH i j c=((n:Nat):Int)/\R (yZ i c n) H1
theorem ZpW {a b d:Expr} {ta:TA} {p pos:Pos} (hg:Gl X "range") (hm:X.mg "range"=none) (ha:PA X [a,b,d] ta) (hs:YF [a,b,d] X.env=(false,eval a X.env)::YF [b,d] X.env:=by rfl) (oW:(Wx pos (YF [b,d] X.env)).any (·.1)=false:=by rfl) :
  PI X tg (.Call (.Name "range" p) [a,b,d] [] pos) (Zze ta):=by
 try unfold PA at *
 intro pins s σ H R I h;refine Call_ (tW I hg hm boot_range (Xo (az (ha pos pins s σ H _ I h) fun us s1 ⟨vs,H1,I1,r1,q1⟩=>?_) hs oW));obtain ⟨i,j,c,n,e,tf,lX,Eg,hsz,q⟩:=q1;subst e
 cases r1 with
 | cons r rr=>
  cases rr with
  | cons r' rr=>
   cases rr with
   | cons r'' rr=>
    cases rr
    obtain ⟨t,rfl⟩:=r;obtain ⟨u,rfl⟩:=r';obtain ⟨v,rfl⟩:=r'';refine call_range_3 (by omega) ?_ (.inl (PyProof.noPylong_small (by omega)));refine wpAny_pyIter_range (IsRange.new ..) Eg ?_;have I2:Inv X pins σ H1 {s1 with heap:=s1.heap.push {cls:=.type "range",data:=.fields #[.int i t,.int j u,.int c v]}}:=I1.kept (t':=s1.toks) fun b o e=>Yc _ e
    refine ⟨(s1.heap.push {cls:=.type "range",data:=.fields #[.int i t,.int j u,.int c v]}).objs.size,[(s1.heap.push {cls:=.type "range",data:=.fields #[.int i t,.int j u,.int c v]}).objs.size],_,_,H1,rfl,
     I2.kept (t':=s1.toks) fun b o e=>Yc _ e,Zq2 _ i c n,?_,fun b hb=>?_,q⟩
    .have e1:i + ((0:Nat):Int) * c=i:=by simp
     have e2:((n:Nat):Int) - ((0:Nat):Int)=XH i j c:=by rw [hsz];omega
     show IsRangeIter _ _ (i + ((0:Nat):Int) * c) (((n:Nat):Int) - ((0:Nat):Int)) c;rw [e1,e2];exact Yh _ rfl
    .have e:b=(s1.heap.push {cls:=.type "range",data:=.fields #[.int i t,.int j u,.int c v]}).objs.size:=by simpa using hb
     subst e;exact I2.fC (Yf _) (I2.ak.fresh (Yf _))
end
theorem ZnG {lo c:Int} {n:Nat} {g:TG} {tb:TS} {D:Ends} {σ:St} {H:Hp} (Pv:Nat->St->Hp->Prop) (h0:Pv 0 σ H)
  (hs:∀ i σ H,i < n->Pv i σ H->g (.int (lo + i * c)) σ H fun aQ H2=>tb {D with nx:=Pv (i + 1),ct:=Pv (i + 1),bk:=D.nx} aQ H2) (hd:∀ σ H,Pv n σ H->D.nx σ H) :
  ∃ W:Nat->Nat->St->Hp->Prop,(∃ m,W 0 m σ H)/\∀ i m σ H,W i m σ H->
   ((yZ lo c n).stop i H/\D.nx σ H)∨((yZ lo c n).go i H/\∃ N:St->Hp->Prop,(∀ ar H',N ar H'->∃ m',m' < m/\W (i + 1) m' ar H')/\∀ x H',(yZ lo c n).ik i H x H'->g x σ H' fun aQ H2=>tb {D with nx:=N,ct:=N,bk:=D.nx} aQ H2):=by
 refine ⟨fun i m σ H=>m=n - i/\i<=n/\Pv i σ H,⟨n,by simp,Yt _,h0⟩,?_⟩
 rintro i m σ H ⟨rfl,hi,p⟩
 by_cases aT:i < n
 .refine .inr ⟨aT,Pv (i + 1),fun ar H' p'=>⟨n - (i + 1),by omega,rfl,aT,p'⟩,fun x H' y=>?_⟩;obtain ⟨e,y⟩:=y;subst e y;exact hs i σ _ aT p
 .have e:i=n:=Nat.le_antisymm hi (Nat.not_lt.mp aT);subst e;exact .inl ⟨Yf _,hd σ H p⟩
theorem Zwi {hi c:Int} (h0:0<=hi) (h1:hi<=100000) (h2:0 < c) (h3:c<=100):Ybf 0 hi c=true/\XH 0 hi c=(((hi + c - 1) / c).toNat:Int):=by
 have hs:XH 0 hi c=(((hi + c - 1) / c).toNat:Int):=by
  unfold XH;rw [if_pos h2];have hd:0<=(hi + c - 1) / c:=Int.ediv_nonneg (by omega) (by omega)
  split
  .rename_i hp
   have:(hi + c - 1) / c=(hi - 0 - 1) / c + 1:=by
    rw [show hi + c - 1=(hi - 0 - 1) + c * 1 by omega,Int.add_mul_ediv_left _ _ (by omega)]
   omega
  .have:hi=0:=by omega
   have:(hi + c - 1) / c=0:=Int.ediv_eq_zero_of_lt (by omega) (by omega)
   omega
 refine ⟨?_,hs⟩;have hq:(hi + c - 1) / c<=hi + c:=Int.le_trans (Int.ediv_le_self _ (by omega)) (by omega);have hd:0<=(hi + c - 1) / c:=Int.ediv_nonneg (by omega) (by omega);unfold Ybf;rw [hs,if_pos h2]
 have fit:∀ x:Int,0<=x->x<=200000->Builtin.Range.rangeFitsLong x=true:=fun x a b=>by
  unfold Builtin.Range.rangeFitsLong
  simp only [Xz,decide_eq_true_eq]
  omega
 rw [fit 0 (by omega) (by omega),fit hi (by omega) (by omega),fit c (by omega) (by omega),fit _ (by omega) (by omega),fit (hi + (c - 1)) (by omega) (by omega)]
 simp
end L2
namespace L2
open PySem PySem.Spec PyProof.Rows PySem.W
def Dx (d:Addr) (ob:Obj) (kvs:List (Key×V)):It:=
 ⟨fun i H=>H d=some (.bf ob (.dK kvs))/\i < kvs.length,fun i H x H'=>H'=H/\(kvs.map fun q=>kV q.1)[i]?=some x,fun i H=>H d=some (.bf ob (.dK kvs))/\kvs.length<=i⟩
theorem E6 {P:Program} {w:World} {H:Hp} {h:Heap} {d:Addr} {kvs:List (Key×V)} {ob:Obj} {es:Array Xp} {ep:Nat} (ok:bH P w H h d (.dK kvs)) (e:h.get? d=some ob) (dd:ob.data=.dict es ep) :
  ∃ vs,KV kvs vs/\h.DictAt (ZW P w) d vs ep:=by
 obtain ⟨z,y,vs,r,o,rf,rg,e1,ex,fh,ks,pr,nd⟩:=ok;rw [e] at e1
 cases e1
 rw [dd] at fh
 cases fh
 exact ⟨vs,r,ob,es,e,ex,dd,ks,pr,nd⟩
theorem ZtL {P:Program} {w:World} {K:Yg} {tg:Expr} (d it:Addr) (ob:Obj) (kvs:List (Key×V)) (es:Array Xp) (ep:Nat) (dd:ob.data=.dict es ep) :
  Turn P w K tg (Dx d ob kvs) [it] it (fun i h=>h.IsKeyIter it d i kvs.length ep) where
 mem:=by simp
 obj:=fun i h st b hb=>by
  have e:b=it:=by simpa using hb
  subst e;obtain ⟨o,e,c,q⟩:=st;exact ⟨o,e,fun v z=>by rw [q] at z;cases z⟩
 keep:=fun i h h' st k=>st.at fun o e=>k it (by simp) o e
 item:=by
  intro X hP hw hK hc i pins s σ H E I hf st hg;subst hP hw hK;obtain ⟨hH,hi⟩:=hg;obtain ⟨e,ok⟩:=I.ak d _ hH;obtain ⟨vs,rel,hm⟩:=E6 ok e dd;have hl:=rel.length;obtain ⟨f0,f1,f2,f3,f4,f5⟩:=hf it (by simp);rw [hl] at st;have hx:vs[i]?=some ((vs[i]'(by omega)).1,(vs[i]'(by omega)).2):=Yk _;refine wpAny_pyNext_dict_item st hm hx fun key h' hk cY sb=>?_;have I1:Inv X pins σ H {s with heap:=h'}:=I.turned (t':=s.toks) (fun b o hb e=>(sb.2 b hb).trans e) f0 f1 f3 f4 f5;have e1:(kvs.map (·.1))[i]?=some (vs[i]'(by omega)).1:=by rw [rel.keys,Yo,hx];rfl
  have hv:(kvs.map fun q=>kV q.1)[i]?=some (kV (vs[i]'(by omega)).1):=by
   rw [show (kvs.map fun q=>kV q.1)=(kvs.map (·.1)).map kV by rw [Xu];rfl,Yo,e1];rfl
  rw [<- hl] at cY;obtain ⟨o,e2,c,q⟩:=id cY;exact ⟨_,rfl,vJ (s:={s with heap:=h'}) e2 c q (by decide) ⟨_,H,I1,BD hk,⟨rfl,hv⟩,cY,fun b hb=>(hf b hb).1⟩⟩
 done:=by
  intro X hP hw hK hc i pins s σ H E I hf st hg;subst hP hw hK;obtain ⟨hH,hi⟩:=hg;obtain ⟨e,ok⟩:=I.ak d _ hH;obtain ⟨vs,rel,hm⟩:=E6 ok e dd;have hl:=rel.length;obtain ⟨f0,f1,f2,f3,f4,f5⟩:=hf it (by simp);rw [hl] at st;exact wpAny_pyNext_dict_end (I.ok.hd hc) st hm (List.getElem?_eq_none (by omega)) fun h' eb=>⟨rfl,I.turned (t':=s.toks) (fun b o hb e=>eb b o hb e) f0 f1 f3 f4 f5⟩
 self:=fun _ _ _ _ _ st h=>wpAny_pyIter_keyiter st h
def Zzi (tl:TE):TI:=fun σ H R=>tl σ H fun x H1=>∃ d kvs,x=.ref d/\H1 d=some (.dK kvs)/\∀ ob,R (Dx d ob kvs) (upd H1 d (.bf ob (.dK kvs)))
theorem Zuc {X:Cx} {tg l:Expr} {tl:TE} (hl:PE X l tl):PI X tg l (Zzi tl):=by
 try unfold PE at *
 intro pins s σ H R I h;refine az (hl pins s σ H _ I h) fun v s1 ⟨x,H1,I1,r1,d,kvs,ex,hd,q⟩=>?_;subst ex
 cases (show v=Value.ref d from r1)
 obtain ⟨ob,e,I2⟩:=I1.freeze hd rfl;obtain ⟨hs,_,_,es,ep,dd,_⟩:=yy (I1.ak d _ hd) rfl e;obtain ⟨vs,rel,hm⟩:=E6 (I1.ak d _ hd) e dd;refine wpAny_pyIter_dict hs hm ?_;rw [<- rel.length];refine ⟨s1.heap.objs.size,[s1.heap.objs.size],_,_,_,rfl,I2.kept (t':=s1.toks) fun b o e=>Yc _ e,ZtL d _ ob kvs es ep dd,⟨_,Yh _ rfl,rfl,rfl⟩,fun b hb=>?_,q ob⟩;have e:b=s1.heap.objs.size:=by simpa using hb
 subst e;exact I2.fC (Yf _) (I2.ak.fresh (Yf _))
theorem Cu {α β:Type} (f:α->Option β):∀ xs:List α,(List.range xs.length).filterMap (fun i=>(xs[i]?).bind f)=xs.filterMap f
 | []=>rfl
 | x::r=>by
  rw [Yv,List.range_succ_eq_map,Xg,Yaq,Xg];have e:((fun i=>((x::r)[i]?).bind f) ∘ Nat.succ)=fun i=>(r[i]?).bind f:=rfl;rw [e,Cu f r];rfl
theorem Zwy {K:Frag} {a:Addr} {xs:List V} {tt:TT} {te:TE} {σ:St} {ix:List Nat} {H1:Hp} {D:Addr} {Q:Hp->Prop} (F:V->Option V) (ha:H1 a=some (.tup xs)) (hD:H1 D=none) (hn:xs.length<=Yj)
  (hs:∀ x H' (N:Option V->Hp->Prop),x∈xs->af H1 H'->(∀ H5,af H' H5->N (F x) H5)->tt (some x::ix.map fun i=>(σ[i]?).getD none) H' fun b H4=>if b=true then te (some x::ix.map fun i=>(σ[i]?).getD none) H4 fun v H5=>N (some v) H5 else N none H4)
  (hd:∀ H',af H1 H'->H' D=some (.lst (xs.filterMap F))->Q H') :
  ∃ W:Nat->Nat->St->List V->Hp->Prop,(∃ m,W 0 m (List.replicate 1 none++ix.map fun i=>(σ[i]?).getD none) [] (upd H1 D (.lst [])))/\
   ∀ i m ar ys H',W i m ar ys H'->H' D=some (.lst ys)/\(((qt K a).stop i H'/\Q H')∨((qt K a).go i H'/\ys.length < Yj/\
    ∀ x H2,(qt K a).ik i H' x H2->k6 0 x ar H2 fun aQ H3=>tt aQ H3 fun b H4=>
     if b=true then te aQ H4 fun v H5=>H5 D=some (.lst ys)/\∃ m',m' < m/\W (i + 1) m' aQ (ys++[v]) (upd H5 D (.lst (ys++[v])))
     else ∃ m',m' < m/\W (i + 1) m' aQ ys H4)):=by
 refine qk (J:=qt K a) xs.length (fun i=>(xs[i]?).bind F) (fun i x=>xs[i]?=some x) hD hn (fun i H' hi s=>⟨xs,xs[i],av.of (s _ _ ha),Yk hi⟩) (fun H' s=>⟨xs,av.of (s _ _ ha),Yf _⟩) (fun i H' x H2 hi s hy=>⟨hy.1,hy.2 xs (av.of (s _ _ ha))⟩) (fun i x H' N hi hx s k=>hs x H' N (Ys hx) s fun H5 s5=>by have:=k H5 s5;rw [hx] at this;exact this) fun H' s h=>hd H' s (by rw [h,Cu])
theorem Fm {J:It} {d:Addr} {ob:Obj} {u:HO} {xs:List V} {tt:TT} {te:TE} {σ:St} {ix:List Nat} {H0:Hp} {D:Addr} {Q:Hp->Prop} (F:V->Option V)
  (hJ:∀ i H,H d=some (.bf ob u)->(i < xs.length->J.go i H)/\(J.stop xs.length H)) (hy:∀ i H x H',J.ik i H x H'->H'=H/\xs[i]?=some x)
  (hd0:H0 d=some u) (hD:(upd H0 d (.bf ob u)) D=none) (hn:xs.length<=Yj)
  (hs:∀ x H' (N:Option V->Hp->Prop),x∈xs->af (upd H0 d (.bf ob u)) H'->(∀ H5,af H' H5->N (F x) H5)->tt (some x::ix.map fun i=>(σ[i]?).getD none) H' fun b H4=>if b=true then te (some x::ix.map fun i=>(σ[i]?).getD none) H4 fun v H5=>N (some v) H5 else N none H4)
  (hd:∀ H',H' d=some (.bf ob u)->af H0 (upd H' d u)->D≠d->(upd H' d u) D=some (.lst (xs.filterMap F))->Q H') :
  ∃ W:Nat->Nat->St->List V->Hp->Prop,(∃ m,W 0 m (List.replicate 1 none++ix.map fun i=>(σ[i]?).getD none) [] (upd (upd H0 d (.bf ob u)) D (.lst [])))/\
   ∀ i m ar ys H',W i m ar ys H'->H' D=some (.lst ys)/\((J.stop i H'/\Q H')∨(J.go i H'/\ys.length < Yj/\
    ∀ x H2,J.ik i H' x H2->k6 0 x ar H2 fun aQ H3=>tt aQ H3 fun b H4=>
     if b=true then te aQ H4 fun v H5=>H5 D=some (.lst ys)/\∃ m',m' < m/\W (i + 1) m' aQ (ys++[v]) (upd H5 D (.lst (ys++[v])))
     else ∃ m',m' < m/\W (i + 1) m' aQ ys H4)):=by
 have vp:∀ H',af (upd H0 d (.bf ob u)) H'->H' d=some (.bf ob u):=fun H' s=>s _ _ Zb;have nD:D≠d:=fun z=>by rw [z,Zb] at hD;cases hD
 refine qk (J:=J) xs.length (fun i=>(xs[i]?).bind F) (fun i x=>xs[i]?=some x) hD hn (fun i H' hi s=>(hJ i H' (vp H' s)).1 hi) (fun H' s=>(hJ 0 H' (vp H' s)).2) (fun i H' x H2 hi s h=>hy i H' x H2 h) (fun i x H' N hi hx s k=>hs x H' N (Ys hx) s fun H5 s5=>by have:=k H5 s5;rw [hx] at this;exact this) fun H' s h=>hd H' (vp H' s) (fun b o e=>?_) nD ?_
 .by_cases z:b=d
  .rw [z,Zb,<- e,z,hd0]
  .rw [Ze z];exact s _ _ (by rw [Ze z];exact e)
 .rw [Ze nD,h,Cu]
theorem Zww {d:Addr} {ob:Obj} {kvs:List (Key×V)} (i:Nat) (H:Hp) (h:H d=some (.bf ob (.dK kvs))):(i < (kvs.map fun q=>kV q.1).length->(Dx d ob kvs).go i H)/\(Dx d ob kvs).stop (kvs.map fun q=>kV q.1).length H:=by
 rw [Yb];exact ⟨fun hi=>⟨h,hi⟩,h,Yf _⟩
theorem Zyp {d:Addr} {ob:Obj} {u:HO} (i:Nat) (H:Hp) (h:H d=some (.bf ob u)):(i < (fj u).length->(uh d ob u).go i H)/\(uh d ob u).stop (fj u).length H:=⟨fun hi=>⟨h,hi⟩,h,Yf _⟩
theorem ZyF {K:Frag} {a:Addr} {xs:List V} {tt:TT} {te:TE} {σ:St} {ix:List Nat} {H1:Hp} {D:Addr} {Q:Hp->Prop} (F:V->Option V) (ha:H1 a=some (.lst xs)) (hD:H1 D=none) (hn:xs.length<=Yj)
  (hs:∀ x H' (N:Option V->Hp->Prop),x∈xs->af H1 H'->(∀ H5,af H' H5->N (F x) H5)->tt (some x::ix.map fun i=>(σ[i]?).getD none) H' fun b H4=>if b=true then te (some x::ix.map fun i=>(σ[i]?).getD none) H4 fun v H5=>N (some v) H5 else N none H4)
  (hd:∀ H',af H1 H'->H' D=some (.lst (xs.filterMap F))->Q H') :
  ∃ W:Nat->Nat->St->List V->Hp->Prop,(∃ m,W 0 m (List.replicate 1 none++ix.map fun i=>(σ[i]?).getD none) [] (upd H1 D (.lst [])))/\
   ∀ i m ar ys H',W i m ar ys H'->H' D=some (.lst ys)/\(((lE K a).stop i H'/\Q H')∨((lE K a).go i H'/\ys.length < Yj/\
    ∀ x H2,(lE K a).ik i H' x H2->k6 0 x ar H2 fun aQ H3=>tt aQ H3 fun b H4=>
     if b=true then te aQ H4 fun v H5=>H5 D=some (.lst ys)/\∃ m',m' < m/\W (i + 1) m' aQ (ys++[v]) (upd H5 D (.lst (ys++[v])))
     else ∃ m',m' < m/\W (i + 1) m' aQ ys H4)):=by
 refine qk (J:=lE K a) xs.length (fun i=>(xs[i]?).bind F) (fun i x=>xs[i]?=some x) hD hn (fun i H' hi s=>⟨xs,xs[i],ay.of (s _ _ ha),Yk hi⟩) (fun H' s=>⟨xs,ay.of (s _ _ ha),Yf _⟩) (fun i H' x H2 hi s hy=>⟨hy.1,hy.2 xs (ay.of (s _ _ ha))⟩) (fun i x H' N hi hx s k=>hs x H' N (Ys hx) s fun H5 s5=>by have:=k H5 s5;rw [hx] at this;exact this) fun H' s h=>hd H' s (by rw [h,Cu])
theorem Zo5 {X:Cx} {K:Frag} (h:X.K=K):gK X (.builtin "len") (fun xs H Q=>∃ p ys,xs=[.ref p]/\(ay K H p ys∨av K H p ys)/\Q (.int ys.length) H):=by subst h;exact Zw
theorem Lj {X:Cx} {K:Frag} {e:Expr} {f:Frag->TE} (h:X.K=K) (p:PE X e (f X.K)):PE X e (f K):=h ▸ p
end L2
namespace L2
open PySem PySem.Spec PyProof.Rows PySem.W
mutual
inductive Jm (H:Hp):V->YO->Prop
 | aH:Jm H .aH .none
 | bl (b:Bool):Jm H (.bl b) (.bool b)
 | int (i:Int):Jm H (.int i) (.int i)
 | str (x:Str):Jm H (.str x) (.str x)
 | tup {a:Addr} {xs:List V} {ds:List YO}:H a=some (.tup xs)->dv H xs ds->Jm H (.ref a) (.tuple ds)
 | lst {a:Addr} {xs:List V} {ds:List YO}:H a=some (.lst xs)->dv H xs ds->Jm H (.ref a) (.list ds)
inductive dv (H:Hp):List V->List YO->Prop
 | nil:dv H [] []
 | cons {x:V} {d:YO} {xs:List V} {ds:List YO}:Jm H x d->dv H xs ds->dv H (x::xs) (d::ds)
end
mutual
theorem Jm.reads {X:Cx} {pins:List (Addr×Obj)} {σ:St} {H:Hp} {s:Shared} (I:Inv X pins σ H s) {x:V} {d:YO} (h:Jm H x d) {u:Value} (r:RelV x u):∃ as,Reads s.heap u d as:=by
 cases h with
 | aH=>cases (show u=Value.none from r);exact ⟨_,.none⟩
 | bl b=>cases (show u=Value.bool b from r);exact ⟨_,.bool b⟩
 | int i=>obtain ⟨t,z⟩:=(show ∃ t,u=Value.int i t from r);cases z;exact ⟨_,.int i t⟩
 | str y=>obtain ⟨t,z⟩:=(show ∃ t,u=Value.str y t from r);cases z;exact ⟨_,.str y t⟩
 | @tup a xs ds e q=>
  cases (show u=Value.ref a from r)
  obtain ⟨_,its,rv,o,h1,h2,n,h3⟩:=(show bH X.prog X.w H s.heap a (.tup xs) from I.ak a _ e)
  obtain ⟨as,z⟩:=dv.reads I q rv;exact ⟨_,.tuple h1 h2 h3 (by simpa using z)⟩
 | @lst a xs ds e q=>
  cases (show u=Value.ref a from r)
  obtain ⟨its,rv,⟨o,n,h1,h2,_,h3⟩,_⟩:=I.list (ay.of e);obtain ⟨as,z⟩:=dv.reads I q rv;exact ⟨_,.list h1 h2 h3 (by simpa using z)⟩
theorem dv.reads {X:Cx} {pins:List (Addr×Obj)} {σ:St} {H:Hp} {s:Shared} (I:Inv X pins σ H s) {xs:List V} {ds:List YO} (h:dv H xs ds) {us:List Value} (r:Vals xs us):∃ as,ReadsAll s.heap us ds as:=by
 cases h with
 | nil=>cases r;exact ⟨_,.nil⟩
 | cons a q=>
  cases r with
  | cons r1 r2=>
   obtain ⟨as,z1⟩:=Jm.reads I a r1;obtain ⟨bs,z2⟩:=dv.reads I q r2;exact ⟨_,.cons z1 z2⟩
end
mutual
theorem Jm.keep {H H':Hp} (k:∀ a o,H a=some o->H' a=some o) {x:V} {d:YO} (h:Jm H x d):Jm H' x d:=by
 cases h with
 | aH=>exact .aH
 | bl b=>exact .bl b
 | int i=>exact .int i
 | str x=>exact .str x
 | tup e r=>exact .tup (k _ _ e) (dv.keep k r)
 | lst e r=>exact .lst (k _ _ e) (dv.keep k r)
theorem dv.keep {H H':Hp} (k:∀ a o,H a=some o->H' a=some o) {xs:List V} {ds:List YO} (h:dv H xs ds):dv H' xs ds:=by
 cases h with
 | nil=>exact .nil
 | cons a r=>exact .cons (Jm.keep k a) (dv.keep k r)
end
mutual
theorem Jm.im {H:Hp} {x:V} {d:YO} (h:Im H x d):Jm H x d:=by
 cases h with
 | aH=>exact .aH
 | bl b=>exact .bl b
 | int i=>exact .int i
 | str x=>exact .str x
 | tup e r=>exact .tup e (dv.im r)
theorem dv.im {H:Hp} {xs:List V} {ds:List YO} (h:dz H xs ds):dv H xs ds:=by
 cases h with
 | nil=>exact .nil
 | cons a r=>exact .cons (Jm.im a) (dv.im r)
end
theorem dv.snoc {H:Hp} {x:V} {d:YO} (hx:Jm H x d):∀ {xs:List V} {ds:List YO},dv H xs ds->dv H (xs++[x]) (ds++[d])
 | _,_,.nil=>.cons hx .nil
 | _,_,.cons a r=>.cons a (dv.snoc hx r)
theorem dv.len {H:Hp}:∀ {xs:List V} {ds:List YO},dv H xs ds->xs.length=ds.length
 | _,_,.nil=>rfl
 | _,_,.cons _ r=>congrArg (· + 1) r.len
def K4 (H0:Hp) (a:Addr) (o:HO):Prop:=(∃ xs,o=.tup xs)∨(H0 a=none/\∃ ys,o=.lst ys)
def JmN (H0:Hp) (U:Addr) (H:Hp) (x:V) (d:YO):Prop:=∀ H',(∀ a o,H a=some o->a≠U->K4 H0 a o->H' a=some o)->Jm H' x d
def mn (H0:Hp) (U:Addr) (H:Hp) (xs:List V) (ds:List YO):Prop:=∀ H',(∀ a o,H a=some o->a≠U->K4 H0 a o->H' a=some o)->dv H' xs ds
def Du (H0 H:Hp) (x:V) (d:YO):Prop:=∀ H',(∀ a o,H a=some o->K4 H0 a o->H' a=some o)->Jm H' x d
theorem mn.on {H0 H H1:Hp} {U:Addr} {xs:List V} {ds:List YO} (h:mn H0 U H xs ds) (k:∀ a o,H a=some o->a≠U->H1 a=some o):mn H0 U H1 xs ds:=fun H' k'=>h H' fun a o e n z=>k' _ _ (k _ _ e n) n z
theorem mn.snoc {H0 H:Hp} {U:Addr} {x:V} {d:YO} {xs:List V} {ds:List YO} (h:mn H0 U H xs ds) (hx:JmN H0 U H x d):mn H0 U H (xs++[x]) (ds++[d]):=fun H' k=>(h H' k).snoc (hx H' k)
theorem mn.fin {H0 H:Hp} {U:Addr} {xs:List V} {ds:List YO} (h:mn H0 U H xs ds) (hU:H U=some (.lst xs)) (hn:H0 U=none):Du H0 H (.ref U) (.list ds):=fun H' k=>.lst (k _ _ hU (.inr ⟨hn,_,rfl⟩)) (h H' fun a o e _ z=>k a o e z)
theorem Du.jm {H0 H:Hp} {x:V} {d:YO} (h:Du H0 H x d):Jm H x d:=h H fun _ _ e _=>e
inductive zk (x y:V) (H:Hp) (Q:VK):Prop
 | mk (d e:YO):Jm H x d->Jm H y e->Xe d=true->Xe e=true->Q (.bl (!PyData.eqv d e)) H->zk x y H Q
theorem Zwq {X:Cx} (hu:X.A.units + 64 < cLine):du X (XE .NotEq) zk:=by
 intro pins s σ H x y v u Q I rx ry h;obtain ⟨d,e,hd,he,sd,se,q⟩:=h;obtain ⟨as,z1⟩:=hd.reads I rx;obtain ⟨bs,z2⟩:=he.reads I ry;exact ne_dataH z1 z2 sd se hu ⟨.bl _,H,I,rfl,q⟩
theorem Zxu {K:Frag} {a:Addr} {xs:List V} (te:TE) {σ:St} {ix:List Nat} {H1:Hp} {D:Addr} {Q:Hp->Prop} (Pv:Nat->List V->Hp->Prop) (ha:H1 a=some (.lst xs)) (hD:H1 D=none) (hn:xs.length<=Yj)
  (h0:Pv 0 [] (upd H1 D (.lst [])))
  (hs:∀ i x ys H' (N:VK),xs[i]?=some x->af H1 H'->H' D=some (.lst ys)->Pv i ys H'->(∀ v H5,af H' H5->Pv (i + 1) (ys++[v]) (upd H5 D (.lst (ys++[v])))->N v H5)->te (some x::ix.map fun i=>(σ[i]?).getD none) H' N)
  (hd:∀ ys H',af H1 H'->H' D=some (.lst ys)->Pv xs.length ys H'->Q H') :
  ∃ W:Nat->Nat->St->List V->Hp->Prop,(∃ m,W 0 m (List.replicate 1 none++ix.map fun i=>(σ[i]?).getD none) [] (upd H1 D (.lst [])))/\
   ∀ i m ar ys H',W i m ar ys H'->H' D=some (.lst ys)/\(((lE K a).stop i H'/\Q H')∨((lE K a).go i H'/\ys.length < Yj/\
    ∀ x H2,(lE K a).ik i H' x H2->k6 0 x ar H2 fun aQ H3=>ui aQ H3 fun b H4=>
     if b=true then te aQ H4 fun v H5=>H5 D=some (.lst ys)/\∃ m',m' < m/\W (i + 1) m' aQ (ys++[v]) (upd H5 D (.lst (ys++[v])))
     else ∃ m',m' < m/\W (i + 1) m' aQ ys H4)):=by
 refine ⟨fun i m ar ys H'=>i<=xs.length/\m=xs.length - i/\(∃ o,ar=o::ix.map fun i=>(σ[i]?).getD none)/\ys.length=i/\H' D=some (.lst ys)/\af H1 H'/\Pv i ys H',⟨xs.length,Yt _,rfl,⟨none,rfl⟩,rfl,Zb,Zk hD,h0⟩,?_⟩
 rintro i m ar ys H' ⟨hi,rfl,⟨o,rfl⟩,hl,hH,sm,P⟩
 refine ⟨hH,?_⟩;have vw:=ay.of (K:=K) (sm _ _ ha)
 by_cases aT:i < xs.length
 .refine .inr ⟨⟨xs,xs[i],vw,Yk aT⟩,by omega,fun x H2 hy=>?_⟩;obtain ⟨e,hx⟩:=hy;subst e;refine hs i x ys H2 _ (hx xs vw) sm hH P fun v H5 s5 p5=>⟨s5 _ _ hH,xs.length - (i + 1),by omega,aT,rfl,⟨_,rfl⟩,by rw [Yd,hl];rfl,Zb,fun b u e=>?_,p5⟩
  rw [Ze (Zc e hD)];exact s5 _ _ (sm _ _ e)
 .have e:i=xs.length:=by omega
  subst e;exact .inl ⟨⟨xs,vw,Yf _⟩,hd ys H' sm hH P⟩
end L2
set_option genInjectivity false
set_option genSizeOf false
namespace KS
open PySem L2
def top (i:Nat):Stmt:=PySem.Challenge.pw_stillpoint_k24_whole_a_long_life.main.body.getD i (.Pass ⟨0,0,0,0⟩)
abbrev Ih:Stmt:=ZX (top 17) 0
abbrev Zln:Stmt:=ZX (top 17) 1
abbrev Zj0:Stmt:=ZX (top 17) 2
abbrev Zgu:Stmt:=ZX (top 17) 3
abbrev ZpP:Stmt:=top 18
abbrev ZhB:Stmt:=top 23
abbrev ZjO:Stmt:=top 24
abbrev J7:Stmt:=top 25
abbrev ZhI:Stmt:=ZX (top 26) 0
abbrev Zj1:Stmt:=ZX (top 26) 1
abbrev ZhH:Stmt:=ZX (top 26) 2
abbrev Zgt:Stmt:=top 27
abbrev ZhD:Stmt:=ZX (top 28) 0
abbrev Ze4:Stmt:=ZX (top 28) 1
abbrev ZdL:Stmt:=ZX (top 28) 2
abbrev GA:Stmt:=top 33
abbrev GB:Stmt:=top 34
abbrev ZjG:Stmt:=top 35
abbrev ZjS:Stmt:=ZX (top 42) 0
abbrev Zhy:Stmt:=top 43
abbrev ZhC:Stmt:=top 44
abbrev Znc:Stmt:=top 45
abbrev ZhA:Stmt:=top 46
abbrev ZpQ:Stmt:=top 47
abbrev ZjL:Stmt:=top 48
abbrev ZjI:Stmt:=top 49
abbrev Ze1:Stmt:=top 50
abbrev ZpO:Stmt:=top 51
abbrev Znb:Stmt:=top 52
abbrev ZpN:Stmt:=top 53
abbrev ZdJ:Stmt:=top 54
abbrev Zwj:Stmt:=top 55
abbrev Zcs:Stmt:=top 56
abbrev ZdI:Stmt:=top 57
abbrev yQ:Stmt:=top 58
abbrev HE:Stmt:=top 59
abbrev ZjM:Stmt:=top 61
abbrev ZeK:Stmt:=top 62
abbrev ZjK:Stmt:=top 64
abbrev Zle:Stmt:=top 65
abbrev Zgq:Stmt:=top 66
abbrev ZjE:Stmt:=top 67
abbrev Zwk:Stmt:=top 70
abbrev ZjH:Stmt:=top 75
abbrev ZpM:Stmt:=top 76
abbrev ZjT:Stmt:=ZX (top 91) 0
abbrev JW:Stmt:=top 92
abbrev Cg:Stmt:=top 93
abbrev Zhz:Stmt:=top 94
abbrev Zhw:Stmt:=top 95
abbrev ZjF:Stmt:=top 96
abbrev Zlf:Stmt:=top 97
abbrev Zna:Stmt:=top 98
abbrev Znd:Stmt:=top 99
abbrev JX:Stmt:=top 100
abbrev Znf:Stmt:=top 101
abbrev Kh:Stmt:=top 102
abbrev Zr4:Stmt:=top 103
abbrev ZjJ:Stmt:=top 104
abbrev Zm9:Stmt:=top 105
abbrev Zgr:Stmt:=top 106
abbrev ZjR:Stmt:=ZX (top 109) 0
abbrev ZdK:Stmt:=ZX (top 109) 1
abbrev ZjQ:Stmt:=ZX (top 109) 2
abbrev Zlg:Stmt:=top 110
abbrev Zgs:Stmt:=top 111
abbrev ZjN:Stmt:=top 114
abbrev ZjZ:Stmt:=ZX (top 115) 0
abbrev ZjX:Stmt:=ZX (top 115) 2
abbrev ZjV:Stmt:=ZX (top 115) 3
abbrev ZhG:Stmt:=ZX (top 115) 4
abbrev ZhF:Stmt:=ZX (top 115) 5
abbrev Zlm:Stmt:=ZX (top 115) 6
abbrev ZjY:Stmt:=ZX (top 115) 7
abbrev ZhE:Stmt:=ZX (top 115) 11
abbrev ZjW:Stmt:=ZX (top 115) 13
abbrev ZjU:Stmt:=ZX (top 115) 15
abbrev ZcU:Stmt:=ZX (top 115) 16
abbrev Za9:Stmt:=ZX (top 115) 17
abbrev Ze5:Stmt:=ZX (top 115) 18
abbrev Zlk:Stmt:=top 116
abbrev Zne:Stmt:=top 117
abbrev GC:Stmt:=top 118
abbrev Zll:Stmt:=top 120
abbrev ZjP:Stmt:=top 121
abbrev JV:Stmt:=top 127
abbrev Ku:Stmt:=top 128
abbrev Fd:Stmt:=top 129
inductive Rf where
 | aZ | aL | bV | dC | noRoom | oM | wrongKind | bK | readOnly | bD
 deriving DecidableEq,Repr
structure Gs where
 Gq:Addr
 HU:Ym
 Gr:Addr
 HV:Ym
 G4:Addr
 IV:Ym
 IU:Addr
 J_:Ym
 FQ:Addr
 GS:Ym
 Iy:Addr
 Ju:Ym
 Hk:Addr
 Jl:Ym
 IE:Addr
 J0:Ym
 HR:Addr
 JO:Ym
 G3:Addr
 IT:Ym
 HS:Addr
 JP:Ym
 IA:Addr
 JY:Ym
 Iv:Addr
 Jr:Ym
 Js:Addr
 Ko:Ym
 Kn:Addr
 Kx:Ym
 FD:Addr
 GF:Ym
 FE:Addr
 GG:Ym
 HC:Addr
 IS:Ym
 Hg:Addr
 Ji:Ym
 HZ:Addr
 Jy:Ym
 Iw:Addr
 Jt:Ym
 F6:Addr
 Hu:Ym
 HX:Addr
 Jw:Ym
 FP:Addr
 GR:Ym
 HK:Addr
 ID:Ym
 Hw:Addr
 IK:Ym
 JE:Addr
 Kj:Ym
 FF:Addr
 GI:Ym
 F8:Addr
 Hx:Ym
 FT:Addr
 GW:Ym
 Kr:Addr
 Kz:Ym
 walk:Addr
 Fy:Ym
 KC:Addr
 KP:Ym
 Kk:Addr
 KA:Ym
 IJ:Addr
 J2:Ym
 F7:Addr
 Hv:Ym
 Ho:Addr
 IC:Ym
 JZ:Addr
 KH:Ym
 HP:Addr
 IF:Ym
 GZ:Addr
 Il:Ym
 JM:Addr
 J9:Ym
 Hr:Addr
 JN:Ym
 made:Addr
 Fn:Ym
 c_:Addr
 IL:Ym
 written:Addr
 G0:Ym
 Hf:Addr
 Jh:Ym
 HA:Addr
 IM:Ym
 FG:Addr
 GN:Ym
 HY:Addr
 Jx:Ym
 Ig:Addr
 Kg:Ym
 Hq:Addr
 JL:Ym
 GY:Addr
 Ik:Ym
 Gj:Addr
 HH:Ym
 F5:Addr
 Ht:Ym
 Cv:Addr
 JH:Ym
 Gf:Addr
 Hn:Ym
 Iz:Addr
 Jv:Ym
 padded:Addr
 FY:Ym
 Hs:Addr
 II:Ym
 Gk:Addr
 HI:Ym
 JJ:Addr
 J8:Ym
 Hh:Addr
 Jj:Ym
 Kq:Addr
 Ky:Ym
 Hi:Addr
 Jk:Ym
 GO:Addr
 Ie:Ym
 IP:Addr
 J4:Ym
 Hm:Addr
 IB:Ym
 G_:Addr
 Jb:Ym
 Ha:Addr
 Jd:Ym
 Hd:Addr
 Jf:Ym
 Ip:Addr
 Jn:Ym
 Ir:Addr
 Jo:Ym
 Gz:Addr
 Iq:Ym
 G':Addr
 Jc:Ym
 Iu:Addr
 Jq:Ym
 Hb:Addr
 Je:Ym
 He:Addr
 Jg:Ym
 KG:Addr
 Kt:Ym
 KN:Addr
 KL:Ym
 Jp:Addr
 Km:Ym
 formatted:Addr
 H_:Ym
 Gh:Addr
 HL:Ym
 fq:Addr
 GK:Ym
 eA:Addr
 cA:Ym
 dc:Addr
 b9:Ym
 bW:Addr
 bZ:Ym
 bz:Addr
 bc:Ym
 D7:Addr
 E9:Ym
 aX:Addr
 aI:Addr
 Reader:Addr
 State:Addr
 cT:Addr
 aK:Addr
 au:Addr
 bE:Addr
 cB:Addr
 iS:Addr
 iR:Addr
 ei:Addr
 fK:Addr
 eB:Addr
 dE:Addr
 fJ:Addr
 cI:Addr
 fX:Addr
 Zmo:Tok
 Zpe:Tok
 Zpj:Tok
 Zpf:Tok
 ZtA:Tok
 ZrP:Tok
 ZqS:Tok
 ZmV:Tok
 ZmU:Tok
 ZyN:Tok
 Zpd:Tok
 ZqT:Tok
 ZmT:Tok
 ZqX:Tok
 MARK:Addr
 ZqQ:Tok
 Zpb:Tok
 Dg:Addr
 Zpi:Tok
 ZqV:Tok
 ZrR:Tok
 ZkH:Tok
 Zpg:Tok
 Zpa:Tok
 ZmW:Tok
 Zph:Tok
 ZxA:Tok
 ZkG:Tok
variable {P:Program} {w:World} {K:Yg} {mg:Str->Option Value} {base:Heap} {g:Gs}
def Gs.xa (g:Gs):Rf->Addr
 | .aZ=>g.bE
 | .aL=>g.cB
 | .bV=>g.iS
 | .dC=>g.iR
 | .noRoom=>g.ei
 | .oM=>g.fK
 | .wrongKind=>g.eB
 | .bK=>g.dE
 | .readOnly=>g.fJ
 | .bD=>g.cI
structure Tx (K:Yg) (mg:Str->Option Value) (g:Gs):Prop where
 Zwu:mg "Disk"=some (.ref g.aX)
 ZvV:mg "Chains"=some (.ref g.aI)
 ZvU:mg "Reader"=some (.ref g.Reader)
 BO:mg "State"=some (.ref g.State)
 Zw9:mg "Image"=some (.ref g.cT)
 ZuD:mg "Store"=some (.ref g.aK)
 BN:mg "Files"=some (.ref g.au)
 Ck:mg "NoThing"=some (.ref g.bE)
 ZoJ:mg "NoDirectory"=some (.ref g.cB)
 Zqj:mg "BadName"=some (.ref g.iS)
 GJ:mg "IsThere"=some (.ref g.iR)
 Zsj:mg "NoRoom"=some (.ref g.ei)
 ZxG:mg "NotEmpty"=some (.ref g.fK)
 ZlM:mg "WrongKind"=some (.ref g.eB)
 yF:mg "TooGreat"=some (.ref g.dE)
 Ztm:mg "ReadOnly"=some (.ref g.fJ)
 qm:mg "NoFiles"=some (.ref g.cI)
 Zwt:mg "StillError"=some (.ref g.fX)
 iy:Cls K g.aX
 wX:d6 K g.aX "blocks"
 Hz:d6 K g.aX "log"
 jq:Cls K g.aI
 yN:d6 K g.aI "free"
 J3:d6 K g.aI "older"
 wV:d6 K g.aI "places"
 pE:Cls K g.Reader
 CU:d6 K g.Reader "disk"
 Ki:d6 K g.Reader "places"
 ZM:Cls K g.State
 Z2:d6 K g.State "data"
 Zr:d6 K g.State "entries"
 tZ:Cls K g.cT
 yT:d6 K g.cT "places"
 Zh0:d6 K g.cT "heads"
 fu:Cls K g.aK
 wQ:d6 K g.aK "disk"
 Dd:d6 K g.aK "slot"
 De:d6 K g.aK "turn"
 yU:d6 K g.aK "synced"
 Zz:Cls K g.au
 ZL:d6 K g.au "state"
 Z3:d6 K g.au "kept"
 CT:d6 K g.au "store"
 JC:d6 K g.au "image"
 Zuv:Mk K g.aX g.Gq
 Zmn:aA K "__init__" "Disk.__init__" Ih g.Gq g.HU
 yL:Meth K g.aX "read" g.Gr
 Zmm:aA K "read" "Disk.read" Zln g.Gr g.HV
 IH:Meth K g.aX "write" g.G4
 Zkv:aA K "write" "Disk.write" Zj0 g.G4 g.IV
 ZgD:Meth K g.aX "barrier" g.IU
 ZgF:aA K "barrier" "Disk.barrier" Zgu g.IU g.J_
 ZuC:mg "disk_of"=some (.ref g.FQ)
 Gu:aA K "disk_of" "disk_of" ZpP g.FQ g.GS
 Zh3:mg "block_count"=some (.ref g.Iy)
 CO:aA K "block_count" "block_count" ZhB g.Iy g.Ju
 Zqi:mg "blocks_for"=some (.ref g.Hk)
 IW:aA K "blocks_for" "blocks_for" ZjO g.Hk g.Jl
 ZmO:mg "free_numbers"=some (.ref g.IE)
 Kb:aA K "free_numbers" "free_numbers" J7 g.IE g.J0
 Zuw:Mk K g.aI g.HR
 Ziw:aA K "__init__" "Chains.__init__" ZhI g.HR g.JO
 Zkf:Meth K g.aI "put" g.G3
 Zkw:aA K "put" "Chains.put" Zj1 g.G3 g.IT
 ZoU:Meth K g.aI "take" g.HS
 Ziv:aA K "take" "Chains.take" ZhH g.HS g.JP
 ZmP:mg "chain_blocks"=some (.ref g.IA)
 Ka:aA K "chain_blocks" "chain_blocks" Zgt g.IA g.JY
 Zuu:Mk K g.Reader g.Iv
 Zir:aA K "__init__" "Reader.__init__" ZhD g.Iv g.Jr
 Zfn:Meth K g.Reader "row_at" g.Js
 ZfU:aA K "row_at" "Reader.row_at" Ze4 g.Js g.Ko
 Zi0:Meth K g.Reader "block_at" g.Kn
 Zd1:aA K "block_at" "Reader.block_at" ZdL g.Kn g.Kx
 Cm:mg "is_name"=some (.ref g.FD)
 wD:aA K "is_name" "is_name" GA g.FD g.GF
 ZuB:mg "is_path"=some (.ref g.FE)
 Gv:aA K "is_path" "is_path" GB g.FE g.GG
 Dc:mg "path_names"=some (.ref g.HC)
 wO:aA K "path_names" "path_names" ZjG g.HC g.IS
 B8:Mk K g.State g.Hg
 Zkn:aA K "__init__" "State.__init__" ZjS g.Hg g.Ji
 ZoF:mg "first_state"=some (.ref g.HZ)
 JS:aA K "first_state" "first_state" Zhy g.HZ g.Jy
 CS:mg "all_numbers"=some (.ref g.Iw)
 wW:aA K "all_numbers" "all_numbers" ZhC g.Iw g.Jt
 Znw:mg "is_thing"=some (.ref g.F6)
 Co:aA K "is_thing" "is_thing" Znc g.F6 g.Hu
 JB:mg "check_thing"=some (.ref g.HX)
 yM:aA K "check_thing" "check_thing" ZhA g.HX g.Jw
 Zqg:mg "data_of"=some (.ref g.FP)
 Cb:aA K "data_of" "data_of" ZpQ g.FP g.GR
 Zqf:mg "entries_of"=some (.ref g.HK)
 IY:aA K "entries_of" "entries_of" ZjL g.HK g.ID
 Zka:mg "least_free"=some (.ref g.Hw)
 CJ:aA K "least_free" "least_free" ZjI g.Hw g.IK
 Zfh:mg "named_numbers"=some (.ref g.JE)
 Df:aA K "named_numbers" "named_numbers" Ze1 g.JE g.Kj
 ZuA:mg "kind_of"=some (.ref g.FF)
 Gw:aA K "kind_of" "kind_of" ZpO g.FF g.GI
 Zti:mg "links_of"=some (.ref g.F8)
 G8:aA K "links_of" "links_of" Znb g.F8 g.Hx
 Zuz:mg "size_of"=some (.ref g.FT)
 Gx:aA K "size_of" "size_of" ZpN g.FT g.GW
 ZdR:mg "check_directory"=some (.ref g.Kr)
 Dp:aA K "check_directory" "check_directory" ZdJ g.Kr g.Kz
 Zyf:mg "walk"=some (.ref g.walk)
 Fi:aA K "walk" "walk" Zwj g.walk g.Fy
 ZgR:mg "walk_to_directory"=some (.ref g.KC)
 KO:aA K "walk_to_directory" "walk_to_directory" Zcs g.KC g.KP
 ZiS:mg "reached_numbers"=some (.ref g.Kk)
 Kw:aA K "reached_numbers" "reached_numbers" ZdI g.Kk g.KA
 ZmN:mg "keeps_bounds"=some (.ref g.IJ)
 Kc:aA K "keeps_bounds" "keeps_bounds" yQ g.IJ g.J2
 Ztj:mg "is_whole"=some (.ref g.F7)
 G7:aA K "is_whole" "is_whole" HE g.F7 g.Hv
 Zqh:mg "check_path"=some (.ref g.Ho)
 IX:aA K "check_path" "check_path" ZjM g.Ho g.IC
 ZkA:mg "check_not_full"=some (.ref g.JZ)
 KD:aA K "check_not_full" "check_not_full" ZeK g.JZ g.KH
 Zqe:mg "free_place"=some (.ref g.HP)
 IZ:aA K "free_place" "free_place" ZjK g.HP g.IF
 ZlK:mg "with_data"=some (.ref g.GZ)
 CF:aA K "with_data" "with_data" Zle g.GZ g.Il
 ZgC:mg "with_entries"=some (.ref g.JM)
 Dk:aA K "with_entries" "with_entries" Zgq g.JM g.J9
 Zp9:mg "with_entry"=some (.ref g.Hr)
 Ja:aA K "with_entry" "with_entry" ZjE g.Hr g.JN
 Zyg:mg "made"=some (.ref g.made)
 Fh:aA K "made" "made" Zwk g.made g.Fn
 Zqd:mg "lengthened"=some (.ref g.c_)
 I0:aA K "lengthened" "lengthened" ZjH g.c_ g.IL
 Zuy:mg "written"=some (.ref g.written)
 Gy:aA K "written" "written" ZpM g.written g.G0
 ZvR:Mk K g.cT g.Hf
 Zko:aA K "__init__" "Image.__init__" ZjT g.Hf g.Jh
 Zj9:mg "name_codes"=some (.ref g.HA)
 CK:aA K "name_codes" "name_codes" JW g.HA g.IM
 Zqb:mg "name_of"=some (.ref g.FG)
 Cc:aA K "name_of" "name_of" Cg g.FG g.GN
 ZoG:mg "entries_row"=some (.ref g.HY)
 JR:aA K "entries_row" "entries_row" Zhz g.HY g.Jx
 ZoE:mg "row_entries"=some (.ref g.Ig)
 JT:aA K "row_entries" "row_entries" Zhw g.Ig g.Kg
 Zj8:mg "table_head"=some (.ref g.Hq)
 CL:aA K "table_head" "table_head" ZjF g.Hq g.JL
 ZlL:mg "thing_row"=some (.ref g.GY)
 CD:aA K "thing_row" "thing_row" Zlf g.GY g.Ik
 Znv:mg "state_at"=some (.ref g.Gj)
 Cp:aA K "state_at" "state_at" Zna g.Gj g.HH
 Znx:mg "image_of"=some (.ref g.F5)
 Cn:aA K "image_of" "image_of" Znd g.F5 g.Ht
 Zqa:mg "same_image"=some (.ref g.Cv)
 I_:aA K "same_image" "same_image" JX g.Cv g.JH
 Ztl:mg "check_of"=some (.ref g.Gf)
 G5:aA K "check_of" "check_of" Znf g.Gf g.Hn
 ZoH:mg "check_bytes"=some (.ref g.Iz)
 JQ:aA K "check_bytes" "check_bytes" Kh g.Iz g.Jv
 Zsi:mg "padded"=some (.ref g.padded)
 BV:aA K "padded" "padded" Zr4 g.padded g.FY
 Zkb:mg "head_block"=some (.ref g.Hs)
 CI:aA K "head_block" "head_block" ZjJ g.Hs g.II
 Zth:mg "state_in"=some (.ref g.Gk)
 G9:aA K "state_in" "state_in" Zm9 g.Gk g.HI
 ZmL:mg "snapshots_in"=some (.ref g.JJ)
 Ke:aA K "snapshots_in" "snapshots_in" Zgr g.JJ g.J8
 Zsh:Mk K g.aK g.Hh
 Zkm:aA K "__init__" "Store.__init__" ZjR g.Hh g.Jj
 ZdV:Meth K g.aK "image_for" g.Kq
 Zd0:aA K "image_for" "Store.image_for" ZdK g.Kq g.Ky
 Zke:Meth K g.aK "save" g.Hi
 Zkl:aA K "save" "Store.save" ZjQ g.Hi g.Jk
 Zrt:mg "new_store"=some (.ref g.GO)
 Io:aA K "new_store" "new_store" Zlg g.GO g.Ie
 ZmM:mg "newest_first"=some (.ref g.IP)
 Kd:aA K "newest_first" "newest_first" Zgs g.IP g.J4
 Zkc:mg "check_name"=some (.ref g.Hm)
 CH:aA K "check_name" "check_name" ZjN g.Hm g.IB
 F9:Mk K g.au g.G_
 Zku:aA K "__init__" "Files.__init__" ZjZ g.G_ g.Jb
 Zqx:Meth K g.au "read" g.Ha
 Zks:aA K "read" "Files.read" ZjX g.Ha g.Jd
 Zqv:Meth K g.au "stat" g.Hd
 Zkq:aA K "stat" "Files.stat" ZjV g.Hd g.Jf
 ZoT:Meth K g.au "names" g.Ip
 Ziu:aA K "names" "Files.names" ZhG g.Ip g.Jn
 ZoS:Meth K g.au "snaps" g.Ir
 Zit:aA K "snaps" "Files.snaps" ZhF g.Ir g.Jo
 Zl0:Meth K g.au "see" g.Gz
 Zml:aA K "see" "Files.see" Zlm g.Gz g.Iq
 Zqy:Meth K g.au "make" g.G'
 Zkt:aA K "make" "Files.make" ZjY g.G' g.Jc
 Zh6:Meth K g.au "write" g.Iu
 Zis:aA K "write" "Files.write" ZhE g.Iu g.Jq
 Zqw:Meth K g.au "snap" g.Hb
 Zkr:aA K "snap" "Files.snap" ZjW g.Hb g.Je
 Zqu:Meth K g.au "sync" g.He
 Zkp:aA K "sync" "Files.sync" ZjU g.He g.Jg
 Zh7:Meth K g.au "check_kept" g.KG
 Zdg:aA K "check_kept" "Files.check_kept" ZcU g.KG g.Kt
 Z6:Meth K g.au "check_changeable" g.KN
 Zbg:aA K "check_changeable" "Files.check_changeable" Za9 g.KN g.KL
 Ks:Meth K g.au "turn_to" g.Jp
 ZfV:aA K "turn_to" "Files.turn_to" Ze5 g.Jp g.Km
 Zru:mg "formatted"=some (.ref g.formatted)
 HW:aA K "formatted" "formatted" Zlk g.formatted g.H_
 Ztk:mg "files_of"=some (.ref g.Gh)
 G6:aA K "files_of" "files_of" Zne g.Gh g.HL
 Zqc:mg "mounted"=some (.ref g.fq)
 Zip:aA K "mounted" "mounted" GC g.fq g.GK
 Ib:mg "_law_cell"=some (.ref g.eA)
 yJ:aA K "_law_cell" "_law_cell" Zll g.eA g.cA
 Zkd:mg "_law_drawn"=some (.ref g.dc)
 CG:aA K "_law_drawn" "_law_drawn" ZjP g.dc g.b9
 C_:mg "_law_shown"=some (.ref g.bW)
 wN:aA K "_law_shown" "_law_shown" JV g.bW g.bZ
 ZeN:mg "_law_all_shown"=some (.ref g.bz)
 Dq:aA K "_law_all_shown" "_law_all_shown" Ku g.bz g.bc
 Zzb:mg "law"=some (.ref g.D7)
 ZyS:aA K "law" "law" Fd g.D7 g.E9
 G2:ZeO K g.bE
 ZnS:ZeO K g.cB
 Zpl:ZeO K g.iS
 G1:ZeO K g.iR
 Zvo:ZeO K g.ei
 ZxE:ZeO K g.fK
 Zk0:ZeO K g.eB
 yH:ZeO K g.dE
 ZsG:ZeO K g.fJ
 rQ:ZeO K g.cI
 Zw5:Zvj K g.au
 xf:∀ r:Rf,ZwC K (g.xa r)
 kit:∀ r u:Rf,Yas K (.ref (g.xa r)) (.ref (g.xa u))=some (decide (r=u))
 kitS:∀ r:Rf,Yas K (.ref (g.xa r)) (.ref g.fX)=some true
 kitV:∀ r:Rf,Yas K (.ref (g.xa r)) (.type "ValueError")=some true
 Zvu:Zjx K g.ei
 ZxF:PySem.W.subIn K (.ref g.ei) (.ref g.ei)=some true
 ZtR:Zjx K g.cI
 ZwO:PySem.W.subIn K (.ref g.cI) (.ref g.cI)=some true
 ZtQ:Zjx K g.bE
 Zq4:PySem.W.subIn K (.ref g.bE) (.ref g.bE)=some true
 Zfq:mg "FEWEST_BLOCKS"=some (.int 16 g.Zmo)
 Zib:mg "MOST_BLOCKS"=some (.int 256 g.Zpe)
 Jz:mg "BLOCK_BYTES"=some (.int 64 g.Zpj)
 Zic:mg "FIRST_BLOCK"=some (.int 2 g.Zpf)
 ZnF:mg "NO_BLOCK"=some (.int 0 g.ZtA)
 yK:mg "ROW_BYTES"=some (.int 63 g.ZrP)
 C8:mg "NAME_SIGNS"=some (.str "ABCDEFGHIJKLMNOPQRSTUVWXYZabcdefghijklmnopqrstuvwxyz0123456789._-" g.ZqS)
 Dl:mg "LONGEST_NAME"=some (.int 8 g.ZmV)
 ZmQ:mg "LONGEST_PATH"=some (.int 60 g.ZmU)
 yf:mg "ROOT"=some (.int 0 g.ZyN)
 Zia:mg "MOST_THINGS"=some (.int 32 g.Zpd)
 IG:mg "MOST_BYTES"=some (.int 600 g.ZqT)
 ZgE:mg "MOST_ENTRIES"=some (.int 40 g.ZmT)
 ZqB:mg "ENTRY_SIZE"=some (.int 10 g.ZqX)
 Ft:mg "MARK"=some (.ref g.MARK)
 FA:∀ H,av K H g.MARK [.int 83,.int 116,.int 105,.int 108]
 C9:mg "TURN_PLACE"=some (.int 4 g.ZqQ)
 Zh9:mg "STATE_PLACE"=some (.int 5 g.Zpb)
 Zi2:mg "SNAPSHOT_PLACES"=some (.ref g.Dg)
 ZdM:∀ H,av K H g.Dg [.int 7,.int 17,.int 27]
 ZoV:mg "CHECK_PLACE"=some (.int 37 g.Zpi)
 Zkg:mg "HEAD_BYTES"=some (.int 2 g.ZqV)
 Zl1:mg "FILE_KIND"=some (.int 1 g.ZrR)
 ZkC:mg "DIRECTORY_KIND"=some (.int 2 g.ZkH)
 Zid:mg "ENTRY_BYTES"=some (.int 9 g.Zpg)
 JA:mg "TABLE_BYTES"=some (.int 5 g.Zpa)
 ZmR:mg "CHECK_FACTOR"=some (.int 1000003 g.ZmW)
 Zie:mg "CHECK_PRIME"=some (.int 4294967291 g.Zph)
 FR:mg "TURNS"=some (.int 256 g.ZxA)
 ZkB:mg "MOST_SNAPSHOTS"=some (.int 3 g.ZkG)
 rK:mg "range"=none
 wb:mg "list"=none
 ZyW:mg "min"=none
 cR:mg "len"=none
 BS:mg "tuple"=none
 ZqY:mg "enumerate"=none
 Fg:mg "all"=none
 wC:mg "sorted"=none
 Br:mg "any"=none
 BB:mg "dict"=none
 ZyV:mg "sum"=none
 ZyU:mg "zip"=none
 Zpk:mg "isinstance"=none
section
variable {K:Yg} {mg:Str->Option Value} {g:Gs}
theorem Tx.eY (T:Tx K mg g):ZA K g.HU ["self","count"] []:=T.Zmn.b2
theorem Tx.bo (T:Tx K mg g):ZA K g.HV ["self","number"] []:=T.Zmm.b2
theorem Tx.bY (T:Tx K mg g):ZA K g.IV ["self","number","block"] []:=T.Zkv.b3
theorem Tx.cD (T:Tx K mg g):ZA K g.J_ ["self"] []:=T.ZgF.b1
theorem Tx.mE (T:Tx K mg g):ZA K g.GS ["blocks"] []:=T.Gu.b1
theorem Tx.cV (T:Tx K mg g):ZA K g.Ju ["disk"] []:=T.CO.b1
theorem Tx.iZ (T:Tx K mg g):ZA K g.Jl ["length"] []:=T.IW.b1
theorem Tx.f9 (T:Tx K mg g):ZA K g.J0 ["count","places"] []:=T.Kb.b2
theorem Tx.gI (T:Tx K mg g):ZA K g.JO ["self","free","older"] []:=T.Ziw.b3
theorem Tx.dU (T:Tx K mg g):ZA K g.IT ["self","row"] []:=T.Zkw.b2
theorem Tx.gH (T:Tx K mg g):ZA K g.JP ["self","many"] []:=T.Ziv.b2
theorem Tx.f_ (T:Tx K mg g):ZA K g.JY ["row","numbers"] []:=T.Ka.b2
theorem Tx.gE (T:Tx K mg g):ZA K g.Jr ["self","disk"] []:=T.Zir.b2
theorem Tx.cf (T:Tx K mg g):ZA K g.Ko ["self","head","length"] []:=T.ZfU.b3
theorem Tx.dY (T:Tx K mg g):ZA K g.Kx ["self","number"] []:=T.Zd1.b2
theorem Tx.cK (T:Tx K mg g):ZA K g.GF ["text"] []:=T.wD.b1
theorem Tx.mD (T:Tx K mg g):ZA K g.GG ["text"] []:=T.Gv.b1
theorem Tx.bu (T:Tx K mg g):ZA K g.IS ["path"] []:=T.wO.b1
theorem Tx.bx (T:Tx K mg g):ZA K g.Ji ["self","data","entries"] []:=T.Zkn.b3
theorem Tx.gB (T:Tx K mg g):ZA K g.Jy [] []:=T.JS.b0
theorem Tx.bh (T:Tx K mg g):ZA K g.Jt ["state"] []:=T.wW.b1
theorem Tx.fV (T:Tx K mg g):ZA K g.Hu ["state","number"] []:=T.Co.b2
theorem Tx.bI (T:Tx K mg g):ZA K g.Jw ["state","number"] []:=T.yM.b2
theorem Tx.ij (T:Tx K mg g):ZA K g.GR ["state","number"] []:=T.Cb.b2
theorem Tx.iX (T:Tx K mg g):ZA K g.ID ["state","number"] []:=T.IY.b2
theorem Tx.dM (T:Tx K mg g):ZA K g.IK ["state"] []:=T.CJ.b1
theorem Tx.cb (T:Tx K mg g):ZA K g.Kj ["state"] []:=T.Df.b1
theorem Tx.mC (T:Tx K mg g):ZA K g.GI ["state","number"] []:=T.Gw.b2
theorem Tx.kO (T:Tx K mg g):ZA K g.Hx ["state","number"] []:=T.G8.b2
theorem Tx.mB (T:Tx K mg g):ZA K g.GW ["state","number"] []:=T.Gx.b2
theorem Tx.bF (T:Tx K mg g):ZA K g.Kz ["state","number"] []:=T.Dp.b2
theorem Tx.uU (T:Tx K mg g):ZA K g.Fy ["state","names"] []:=T.Fi.b2
theorem Tx.cP (T:Tx K mg g):ZA K g.KP ["state","path"] []:=T.KO.b2
theorem Tx.dX (T:Tx K mg g):ZA K g.KA ["state"] []:=T.Kw.b1
theorem Tx.f7 (T:Tx K mg g):ZA K g.J2 ["state"] []:=T.Kc.b1
theorem Tx.kP (T:Tx K mg g):ZA K g.Hv ["state"] []:=T.G7.b1
theorem Tx.iY (T:Tx K mg g):ZA K g.IC ["path"] []:=T.IX.b1
theorem Tx.eC (T:Tx K mg g):ZA K g.KH ["state","directory"] []:=T.KD.b2
theorem Tx.iW (T:Tx K mg g):ZA K g.IF ["state","path"] []:=T.IZ.b2
theorem Tx.eV (T:Tx K mg g):ZA K g.Il ["state","number","row"] []:=T.CF.b3
theorem Tx.cC (T:Tx K mg g):ZA K g.J9 ["state","number","entries"] []:=T.Dk.b3
theorem Tx.iT (T:Tx K mg g):ZA K g.JN ["state","directory","name","number"] []:=T.Ja.b4
theorem Tx.uV (T:Tx K mg g):ZA K g.Fn ["state","path","kind"] []:=T.Fh.b3
theorem Tx.iV (T:Tx K mg g):ZA K g.IL ["row","size"] []:=T.I0.b2
theorem Tx.mz (T:Tx K mg g):ZA K g.G0 ["state","number","start","row"] []:=T.Gy.b4
theorem Tx.i3 (T:Tx K mg g):ZA K g.Jh ["self","places","heads"] []:=T.Zko.b3
theorem Tx.dJ (T:Tx K mg g):ZA K g.IM ["name"] []:=T.CK.b1
theorem Tx.ic (T:Tx K mg g):ZA K g.GN ["codes"] []:=T.Cc.b1
theorem Tx.gC (T:Tx K mg g):ZA K g.Jx ["entries"] []:=T.JR.b1
theorem Tx.gA (T:Tx K mg g):ZA K g.Kg ["row"] []:=T.JT.b1
theorem Tx.dI (T:Tx K mg g):ZA K g.JL ["state","chains"] []:=T.CL.b2
theorem Tx.eW (T:Tx K mg g):ZA K g.Ik ["reader","part"] []:=T.CD.b2
theorem Tx.fT (T:Tx K mg g):ZA K g.HH ["reader","head"] []:=T.Cp.b2
theorem Tx.fW (T:Tx K mg g):ZA K g.Ht ["state","kept","free","older"] []:=T.Cn.b4
theorem Tx.iU (T:Tx K mg g):ZA K g.JH ["state","kept","places"] []:=T.I_.b3
theorem Tx.kR (T:Tx K mg g):ZA K g.Hn ["row"] []:=T.G5.b1
theorem Tx.gD (T:Tx K mg g):ZA K g.Jv ["rows"] []:=T.JQ.b1
theorem Tx.jS (T:Tx K mg g):ZA K g.FY ["row","length"] []:=T.BV.b2
theorem Tx.dN (T:Tx K mg g):ZA K g.II ["image","turn"] []:=T.CI.b2
theorem Tx.kN (T:Tx K mg g):ZA K g.HI ["block","reader"] []:=T.G9.b2
theorem Tx.fY (T:Tx K mg g):ZA K g.J8 ["block","reader"] []:=T.Ke.b2
theorem Tx.dR (T:Tx K mg g):ZA K g.Jj ["self","disk","slot","turn","synced"] []:=T.Zkm.b5
theorem Tx.bG (T:Tx K mg g):ZA K g.Ky ["self","state","kept"] []:=T.Zd0.b3
theorem Tx.dQ (T:Tx K mg g):ZA K g.Jk ["self","image"] []:=T.Zkl.b2
theorem Tx.jT (T:Tx K mg g):ZA K g.Ie ["disk"] []:=T.Io.b1
theorem Tx.fZ (T:Tx K mg g):ZA K g.J4 ["disk"] []:=T.Kd.b1
theorem Tx.dO (T:Tx K mg g):ZA K g.IB ["name"] []:=T.CH.b1
theorem Tx.bX (T:Tx K mg g):ZA K g.Jb ["self","state","kept","store","image"] []:=T.Zku.b5
theorem Tx.i7 (T:Tx K mg g):ZA K g.Jd ["self","number","start","many"] []:=T.Zks.b4
theorem Tx.i5 (T:Tx K mg g):ZA K g.Jf ["self","number"] []:=T.Zkq.b2
theorem Tx.gG (T:Tx K mg g):ZA K g.Jn ["self","number"] []:=T.Ziu.b2
theorem Tx.gF (T:Tx K mg g):ZA K g.Jo ["self"] []:=T.Zit.b1
theorem Tx.eX (T:Tx K mg g):ZA K g.Iq ["self","name"] []:=T.Zml.b2
theorem Tx.i8 (T:Tx K mg g):ZA K g.Jc ["self","path","kind"] []:=T.Zkt.b3
theorem Tx.cW (T:Tx K mg g):ZA K g.Jq ["self","number","start","row"] []:=T.Zis.b4
theorem Tx.i6 (T:Tx K mg g):ZA K g.Je ["self","name"] []:=T.Zkr.b2
theorem Tx.i4 (T:Tx K mg g):ZA K g.Jg ["self"] []:=T.Zkp.b1
theorem Tx.de (T:Tx K mg g):ZA K g.Kt ["self","name"] []:=T.Zdg.b2
theorem Tx.aB (T:Tx K mg g):ZA K g.KL ["self"] []:=T.Zbg.b1
theorem Tx.bq (T:Tx K mg g):ZA K g.Km ["self","state","kept"] []:=T.ZfV.b3
theorem Tx.jU (T:Tx K mg g):ZA K g.H_ ["disk"] []:=T.HW.b1
theorem Tx.kQ (T:Tx K mg g):ZA K g.HL ["disk","slot"] []:=T.G6.b2
theorem Tx.ig (T:Tx K mg g):ZA K g.GK ["disk"] []:=T.Zip.b1
theorem Tx.cz (T:Tx K mg g):ZA K g.cA ["_law_script","_law_k"] []:=T.yJ.b2
theorem Tx.dP (T:Tx K mg g):ZA K g.b9 ["_law_cell_here","_law_k"] []:=T.CG.b2
theorem Tx.bw (T:Tx K mg g):ZA K g.bZ ["_law_files"] []:=T.wN.b1
theorem Tx.bN (T:Tx K mg g):ZA K g.bc ["_law_files"] []:=T.Dq.b1
end
theorem a9 (n:Nat) (h:n<=100:=by decide):n<=Yj:=Yn h (by decide)
theorem _root_.L2.aW.dn {j k:Nat} {A:Around} (r:aW k A) (h:j<=k:=by decide):aW j A:=r.mono h
def tO (ns:List Int) (k:Int):Int:=if ns=[] then k * 7919 else ns.getD (k % (ns.length:Int)).toNat 0 + k / (ns.length:Int) * 104729
def vN (c k:Int):Int:=(c * 6364136223846793005 + (k + 1) * 1442695040888963407) % 340282366920938463463374607431768211507
def Bo (c k:Int):Int:=vN c k * vN c k % 340282366920938463463374607431768211297
theorem ZvP (c k:Int):0<=vN c k:=XN _ (by decide)
theorem ZvQ (c k:Int):vN c k < 340282366920938463463374607431768211507:=Xy _ (by decide)
theorem Zsw (c k:Int):0<=Bo c k:=XN _ (by decide)
theorem Zwv {n:Int} {m:Nat} (h0:0<=n) (h1:n < (m:Int)):pS m n=some n.toNat:=by
 unfold pS;rw [if_pos h0,if_pos h1]
theorem v7 {α:Type} {xs:List α} {n:Int} {v:α} (h0:0<=n) (h:xs[n.toNat]?=some v):ji xs n=some v:=by
 have h1:n < (xs.length:Int):=by
  have:=(List.getElem?_eq_some_iff.mp h).1
  omega
 unfold ji;rw [Zwv h0 h1];exact h
theorem B6 (H:Hp):∀ ns:List Int,dz H (ns.map V.int) (ns.map WC)
 | []=>.nil
 | n::r=>.cons (.int n) (B6 H r)
def Flat (k:Nat) (d:YO):Prop:=d.canLay0=true/\d.depth<=k
theorem B0 {k:Nat}:∀ {ds:List YO},(∀ d∈ds,Flat k d)->PyData.canLayAll0 ds=true/\PyData.depthAll ds<=k
 | [],_=>⟨rfl,Yt _⟩
 | d::r,h=>by
  obtain ⟨h1,h2⟩:=h d Yw;obtain ⟨h3,h4⟩:=B0 (ds:=r) fun e he=>h e (Yp _ he);refine ⟨?_,?_⟩
  .show (PyData.canLay0 d && PyData.canLayAll0 r)=true;rw [h1,h3];rfl
  .show max d.depth (PyData.depthAll r)<=k;exact Nat.max_le.mpr ⟨h2,h4⟩
theorem Flat.tup {k:Nat} {ds:List YO} (h:∀ d∈ds,Flat k d):Flat (k + 1) (.tuple ds):=by
 obtain ⟨h1,h2⟩:=B0 h;exact ⟨h1,YN h2⟩
theorem Flat.mono {j k:Nat} {d:YO} (h:Flat j d) (l:j<=k):Flat k d:=⟨h.1,Yn h.2 l⟩
theorem Ii {k:Nat} {ds:List YO} (h:∀ d∈ds,Flat k d) (hk:k<=60):Xe (.list ds)=true:=by
 obtain ⟨h1,h2⟩:=B0 h
 have h3:PyData.depth (.list ds)<=64:=by
  show PyData.depthAll ds + 1<=64;omega
 unfold Xe;rw [show PyData.canLay0 (.list ds)=true from h1,decide_eq_true h3];rfl
theorem Zq9 {k:Nat} {d:YO} (h:Flat k d) (hk:k<=60):Xe d=true:=by
 have h3:d.depth<=64:=Yn h.2 (by omega);unfold Xe;rw [h.1,decide_eq_true h3];rfl
theorem pF (i:Int):Flat 0 (.int i):=⟨rfl,Yf _⟩
theorem B1 {i:Str} (h:(PyData.str i).canLay0=true):Flat 0 (.str i):=⟨h,Yf _⟩
theorem ZuY (ns:List Int):Flat 1 (.tuple (ns.map .int)):=Flat.tup fun d hd=>by
 obtain ⟨i,_,rfl⟩:=List.mem_map.mp hd;exact pF i
theorem CN (ns:List Int):Xe (.list (ns.map WC))=true:=Ii (k:=0) (fun d hd=>by
 obtain ⟨i,_,rfl⟩:=List.mem_map.mp hd;exact pF i) (by decide)
theorem dz.snoc {H:Hp} {v:V} {d:YO} (h:Im H v d):∀ {xs:List V} {ds:List YO},dz H xs ds->dz H (xs++[v]) (ds++[d])
 | _,_,.nil=>.cons h .nil
 | _,_,.cons a r=>.cons a (dz.snoc h r)
theorem wz (n:Nat) (v:V):(List.replicate n [v]).flatten=List.replicate n v:=by
 induction n with
 | zero=>rfl
 | succ n ih=>rw [Xf,XJ,ih];rfl
theorem ZyH:¬ (("blocks":Str)="log"):=by decide +kernel
def bC (b l:Addr):List (Str×V):=aq "log" (.ref l) (aq "blocks" (.ref b) [])
theorem ZuV (b l:Addr):bC b l=([("blocks",V.ref b),("log",V.ref l)]:List (Str×V)):=by
 show (if ("blocks":Str)="log" then [(("blocks":Str),V.ref l)] else (("blocks":Str),V.ref b)::aq "log" (V.ref l) [])=([("blocks",V.ref b),("log",V.ref l)]:List (Str×V));rw [if_neg ZyH]
 all_goals rfl
theorem By (b l:Addr):(bC b l).lookup ("blocks":Str)=some (.ref b):=by
 unfold bC;rw [Zj,if_neg ZyH,Zj,if_pos rfl]
theorem Fs (b l:Addr):(bC b l).lookup ("log":Str)=some (.ref l):=by
 unfold bC;rw [Zj,if_pos rfl]
theorem BI (b l:Addr) {m:Str} (h1:¬ m="log") (h2:¬ m="blocks"):(bC b l).lookup m=none:=by
 unfold bC;rw [Zj,if_neg h1,Zj,if_neg h2]
 all_goals rfl
theorem Zv4 (b c l:Addr):aq "blocks" (.ref c) (bC b l)=bC c l:=by
 rw [ZuV,ZuV];show (if ("blocks":Str)="blocks" then (("blocks":Str),V.ref c)::[(("log":Str),V.ref l)] else _)=([("blocks",V.ref c),("log",V.ref l)]:List (Str×V));rw [if_pos rfl]
def yc:YO:=.tuple (List.replicate 64 (.int 0))
structure ZwE (C:Addr) (H:Hp) (p b l:Addr) (vb vl:List V) (bs lg:List YO):Prop where
 ob:∃ dx,H p=some (.ins C dx (bC b l))
 hb:H b=some (.lst vb)
 hl:H l=some (.lst vl)
 ib:dz H vb bs
 il:dz H vl lg
 ne:b≠l
inductive oG (C TG:Addr) (vs:List V) (H:Hp) (Q:VK) (E:XK):Prop
 | mk (p dx:Addr) (n:Int):vs=[.ref p,.int n]->H p=some (.ins C dx [])->((n < 16∨256 < n)->E (.ref TG) none H)->(16<=n->n<=256->∀ (b l:Addr) (vb:List V) (H':Hp),H b=none->H l=none->ZwE C H' p b l vb [] (List.replicate n.toNat yc) []->(∀ c o,H c=some o->c≠p->H' c=some o)->Q .aH H')->oG C TG vs H Q E
inductive kI (C:Addr) (vs:List V) (H:Hp) (Q:VK) (aD:XK):Prop
 | mk (p dx b l:Addr) (vb:List V) (n:Int) (v:V):vs=[.ref p,.int n]->H p=some (.ins C dx (bC b l))->H b=some (.lst vb)->0<=n->vb[n.toNat]?=some v->Q v H->kI C vs H Q aD
inductive iN (C:Addr) (vs:List V) (H:Hp) (Q:VK) (aD:XK):Prop
 | mk (p dx b l:Addr) (vb vl:List V) (n:Int) (v:V):vs=[.ref p,.int n,v]->H p=some (.ins C dx (bC b l))->H b=some (.lst vb)->H l=some (.lst vl)->b≠l->0<=n->n < (vb.length:Int)->vl.length<=100000->(∀ t,H t=none->Q .aH (upd (upd (upd H b (.lst (vb.set n.toNat v))) t (.tup [.str "write",.int n,v])) l (.lst (vl++[.ref t]))))->iN C vs H Q aD
inductive ot (C:Addr) (vs:List V) (H:Hp) (Q:VK) (aD:XK):Prop
 | mk (p dx b l:Addr) (vl:List V):vs=[.ref p]->H p=some (.ins C dx (bC b l))->H l=some (.lst vl)->vl.length<=100000->(∀ t,H t=none->Q .aH (upd (upd H t (.tup [.str "barrier"])) l (.lst (vl++[.ref t]))))->ot C vs H Q aD
theorem ZpK:Zm ["self","number"] ["self","number"] (Zi Zln):=ZE (by decide +kernel)
theorem yP (T:Tx K mg g):ah P w K mg base (aw P w) 1 g.Gr g.HV ["self","number"] (kI g.aX):=by
 refine T.Zmm.aG ZpK fun vs H Q E h=>?_;obtain ⟨p,dx,b,l,vb,n,v,rfl,hp,hb,h0,hv,q⟩:=h;refine ⟨rfl,fun _ _ _ _ hr=>?_⟩;refine ⟨_,(Zh (Zu (d_ qj (Zp (pv 0) rfl) (pv 1) (fun _ _=>rfl)))),?_⟩;exact ⟨_,rfl,p,g.aX,dx,_,_,rfl,hp,T.iy,T.wX,By _ _,_,rfl,b,vb,n,v,rfl,rfl,ay.of hb,v7 h0 hv,q⟩
theorem Zof:Zm ["self","number","block"] ["self","number","block"] (Zi Zj0):=ZE (by decide +kernel)
theorem JF (T:Tx K mg g):ah P w K mg base (aw P w) 1 g.G4 g.IV ["self","number","block"] (iN g.aX):=by
 refine T.Zkv.aG Zof fun vs H Q E h=>?_;obtain ⟨p,dx,b,l,vb,vl,n,v,rfl,hp,hb,hl,ne,h0,h1,hz,q⟩:=h;refine ⟨rfl,fun _ _ _ _ hr=>?_⟩
 refine ⟨_,(Zd (Zx5 (pv 2) (Zx8 (Zp (pv 0) rfl) (pv 1) Zvz))
  (Zh (ZJ (kc YR Y7 Y6 pI (Zp (pv 0) rfl) (Za (ed (Za ZY (Za (pv 1) (Za (pv 2) Zf)))) Zf))))),?_⟩
 have AO:p≠b:=ZD hp hb (by intro z;cases z);have j6:∀ o,(upd H b o) p=some (.ins g.aX dx (bC b l)):=fun o=>by rw [Ze AO];exact hp
 have dg:∀ o,(upd H b o) l=some (.lst vl):=fun o=>by rw [Ze ne.symm];exact hl
 refine ⟨_,rfl,_,rfl,p,g.aX,dx,_,_,rfl,hp,T.iy,T.wX,By _ _,_,rfl,b,vb,n,n.toNat,rfl,rfl,hb,Zwv h0 h1,?_⟩;refine ⟨_,rfl,p,g.aX,dx,_,_,rfl,j6 _,T.iy,T.Hz,Fs _ _,.inl ⟨rfl,vl,ay.of (dg _)⟩,?_⟩;refine ⟨_,rfl,_,rfl,a9 3,fun t ht=>?_⟩;have nlt:l≠t:=Zc (dg _) ht
 have i9:H t=none:=by
  by_cases z:t=b
  .rw [z,Zb] at ht;cases ht
  .rw [Ze z] at ht;exact ht
 refine ⟨l,vl,_,rfl,rfl,(by rw [Ze nlt];exact dg _),(YL hz (by decide)),?_⟩;exact q t i9
theorem Zld:Zm ["self"] ["self"] (Zi Zgu):=ZE (by decide +kernel)
theorem Zfe (T:Tx K mg g):ah P w K mg base (aw P w) 1 g.IU g.J_ ["self"] (ot g.aX):=by
 refine T.ZgF.aG Zld fun vs H Q E h=>?_;obtain ⟨p,dx,b,l,vl,rfl,hp,hl,hz,q⟩:=h;refine ⟨rfl,fun _ _ _ _ hr=>?_⟩;refine ⟨_,(Zh (ZJ (kc YR Y7 Y6 pI (Zp (pv 0) rfl) (Za (ed (Za ZY Zf)) Zf)))),?_⟩;refine ⟨_,rfl,p,g.aX,dx,_,_,rfl,hp,T.iy,T.Hz,Fs _ _,.inl ⟨rfl,vl,ay.of hl⟩,?_⟩;refine ⟨a9 1,fun t ht=>?_⟩;exact ⟨l,vl,_,rfl,rfl,(by rw [Ze (Zc hl ht)];exact hl),(YL hz (by decide)),q t ht⟩
theorem ZuM {H:Hp} {v:V} {d:YO} (h:Im H v d):∀ n:Nat,dz H (List.replicate n v) (List.replicate n d)
 | 0=>.nil
 | n + 1=>.cons h (ZuM h n)
theorem ZpL:Zm ["self","count"] ["self","count"] (Zi Ih):=ZE (by decide +kernel)
theorem Zj7 (T:Tx K mg g):ah P w K mg base (aw P w) 1 g.Gq g.HU ["self","count"] (oG g.aX g.dE):=by
 refine T.Zmn.aG ZpL fun vs H Q E h=>?_;obtain ⟨p,dx,n,rfl,hp,hE,q⟩:=h;refine ⟨rfl,fun _ _ _ _ hr=>?_⟩
 refine ⟨_,(Zd (ZZ (PW.pt (lj (ZI rF (pv 1) (Zs (v:=.int 16) rfl T.Zfq ⟨_,rfl⟩) (ZU _)) (nO (ZI ma (pv 1) (Zs (v:=.int 256) rfl T.Zib ⟨_,rfl⟩) (ZU _))))) (Zh (ZN T.yH rfl T.yF (Za ZY Zf))) Zy)
  (Zd (ee (pv 0) (mT (own:=["number"]) (fv:=[]) (ix:=[]) (Z8 (sc:=Zi Ih) (N:=["self","count"]) rfl rfl (by decide +kernel)) rfl (yE rfl T.rK (Za (pv 1) Zf)) (fun _ _ _ _ _=>ZG (i:=0) (show (["number"]:List Str).Nodup from by decide +kernel) rfl (Or.inl rfl) (Or.inr rfl)) (fun _ _ _ _ _=>mU) (fun _ _ _ _ _=>(ZC Zug (ed (Za Zo Zf)) (Zs (v:=.int 64) rfl T.Jz ⟨_,rfl⟩)))) rfl)
  (Zh (ee (pv 0) (mf Zf) rfl)))),?_⟩
 refine ⟨_,rfl,_,_,rfl,rfl,_,rfl,?_⟩
 by_cases h1:n < 16
 .rw [decide_eq_true h1];refine ao (ao ?_);exact ⟨a9 1,hE (.inl h1)⟩
 .rw [decide_eq_false h1];refine aj ⟨_,rfl,_,_,rfl,rfl,_,rfl,?_⟩
  by_cases h2:256 < n
  .rw [decide_eq_true h2];refine ao ?_;exact ⟨a9 1,hE (.inr h2)⟩
  .rw [decide_eq_false h2];refine aj ?_;have vD:16<=n:=by omega
   have tG:n<=256:=by omega
   -- self.blocks=[(0,) * sy for number in range(count)]
   refine ⟨_,rfl,n,rfl,by omega,by omega,fun D hD=>?_⟩;have xk:p≠D:=Zc hp hD
   have hnL:n.toNat<=Yj:=by
    have:(256:Nat)<=Yj:=by decide
    omega
   refine Ztt (oO Zx1 (uj (gu (tC (V.int 0)) bB)) (tC (V.int 64))) (n:=n.toNat) (lo:=0) (fun i ys H'=>ys.length=i/\H' D=some (.lst ys)/\dz H' ys (List.replicate i yc)/\af H H') ⟨rfl,Zb,.nil,Zk hD⟩ hnL (fun i ys H' h=>⟨h.2.1,Yam h.1⟩) (fun i ys H' N hi h k=>?_) (fun ys H' h=>?_)
   .obtain ⟨e1,e2,e3,e4⟩:=h;refine ⟨a9 1,fun t ht=>?_⟩;refine ⟨t,64,[.int 0],rfl,rfl,Zb,by simp,by decide,by decide,by show 1 * 64<=Yj;decide,fun u hu=>?_⟩;have ntD:D≠t:=Zc e2 ht;have nuD:D≠u:=Zc (H:=upd H' t (.tup [.int 0])) (by rw [Ze ntD];exact e2) hu;have sm:af H' (upd (upd H' t (.tup [.int 0])) u (.tup (List.replicate (64:Int).toNat [V.int 0]).flatten)):=(Zk ht).trans (Zk hu);have vC:(upd (upd H' t (.tup [.int 0])) u (.tup (List.replicate (64:Int).toNat [V.int 0]).flatten)) D=some (.lst ys):=sm _ _ e2;refine k _ _ vC ⟨by rw [Yd,e1];rfl,Zb,?_,?_⟩
    .have hz:Im (upd (upd (upd H' t (.tup [.int 0])) u (.tup (List.replicate (64:Int).toNat [V.int 0]).flatten)) D (.lst (ys++[.ref u]))) (.ref u) yc:=by
      refine .tup (xs:=List.replicate 64 (V.int 0)) ?_ (ZuM (.int 0) 64);rw [Ze nuD.symm,Zb];rw [wz];rfl
     rw [List.replicate_succ'];refine dz.snoc hz (dz.keep (fun a xs e=>?_) e3);have e':=sm _ _ e
     have:a≠D:=ZD e e2 (by intro z;cases z)
     rw [Ze this];exact e'
    .intro b o e
     have:b≠D:=fun z=>by rw [z,hD] at e;cases e
     rw [Ze this];exact sm _ _ (e4 _ _ e)
   .obtain ⟨e1,e2,e3,e4⟩:=h;have oZ:H' p=some (.ins g.aX dx []):=e4 _ _ hp;refine ⟨_,rfl,p,g.aX,dx,[],rfl,oZ,T.iy,T.wX,(by show 0 < 1000;decide),?_⟩;refine ⟨Yt _,fun L hL=>?_⟩;have D4:p≠L:=Zc (H:=upd H' p (.ins g.aX dx (aq "blocks" (.ref D) []))) Zb hL;have nDL:D≠L:=Zc (H:=upd H' p (.ins g.aX dx (aq "blocks" (.ref D) []))) (by rw [Ze xk.symm];exact e2) hL;have lZ:H' L=none:=by rw [Ze D4.symm] at hL;exact hL
    refine ⟨_,rfl,p,g.aX,dx,_,rfl,(by rw [Ze D4,Zb]),T.iy,T.Hz,(by show 1 < 1000;decide),?_⟩
    have hLH:H L=none:=by
     cases z:H L with
     | none=>rfl
     | some o=>have:=e4 _ _ z;rw [lZ] at this;cases this
    refine q vD tG D L ys _ hD hLH ⟨⟨dx,Zb⟩,?_,?_,?_,.nil,nDL⟩ fun c o e hc=>?_
    .rw [Ze xk.symm,Ze nDL,Ze xk.symm];exact e2
    .rw [Ze D4.symm,Zb]
    .refine dz.keep (fun a xs e=>?_) e3;have a1:a≠p:=ZD e oZ (by intro z;cases z);have a2:a≠L:=Zc e lZ;rw [Ze a1,Ze a2,Ze a1];exact e
    .have c2:c≠L:=Zc e hLH;rw [Ze hc,Ze c2,Ze hc];exact e4 _ _ e
def k9:Str:="ABCDEFGHIJKLMNOPQRSTUVWXYZabcdefghijklmnopqrstuvwxyz0123456789._-"
def wd (c:Nat):Bool:=!(YU k9 ⟨#[c]⟩ 0 k9.length 1).isEmpty
def Z4 (t:Str):Bool:=if t.length < 1∨8 < t.length∨t="."∨t=".." then false else (List.range t.cps.size).all fun i=>wd (t.cps.getD i 0)
def ZF (p:Str):List Str:=if p="/" then [] else lq (mx p (some 1) none) "/"
def rJ (p:Str):Bool:=if 60 < p.length then false else if !(decide (0 + Yau "/"<=p.length) && Wu p "/" 0) then false else (ZF p).all Z4
inductive jK (vs:List V) (H:Hp) (Q:VK) (aD:XK):Prop
 | mk (t:_):vs=[.str t]->t.length<=Yj->(∀ H',af H H'->Q (.bl (Z4 t)) H')->jK vs H Q aD
theorem ZwB (n:Nat) (f:Nat->Bool):((List.range n).filterMap fun i=>some (V.bl (f i)))=((List.range n).map f).map V.bl:=by
 rw [WW,Xu];rfl
theorem all_map (n:Nat) (f:Nat->Bool):((List.range n).map f).all id=(List.range n).all f:=by
 rw [List.all_map];rfl
theorem Lv (t a b:Str):sQ (.str t) [.str a,.str b]=(decide (t=a) || decide (t=b)):=by
 show ((a == t) || ((b == t) || false))=_;rw [Wr]
 congr 1
 .rw [X5,beq_iff_eq,decide_eq_true_iff];exact eq_comm
 .rw [X5,beq_iff_eq,decide_eq_true_iff];exact eq_comm
theorem ZsY:Zm ["text"] ["text"] (Zi GA):=ZE (by decide +kernel)
theorem Ct (T:Tx K mg g):ah P w K mg base (aw P w) 1 g.FD g.GF ["text"] jK:=by
 refine T.wD.aG ZsY fun vs H Q E h=>?_;obtain ⟨t,rfl,hl,q⟩:=h;refine ⟨rfl,fun _ _ _ _ hr=>?_⟩;have hc:t.cps.size=t.length:=rfl
 refine ⟨_,(Zd (ZZ (PW.pt (lj (ZI rF (Zv C7 (by rfl) T.cR YA (Za (pv 0) Zf)) Zo (ZU _)) (lj (ZI ma (Zv C7 (by rfl) T.cR YA (Za (pv 0) Zf)) (Zs (v:=.int 8) rfl T.Dl ⟨_,rfl⟩) (ZU _)) (nO (ZI Zp2 (pv 0) (ed (Za ZY (Za ZY Zf))) rfl))))) (Zh (Zu mM)) Zy)
  (Zh (Zu (Zv Ge (by rfl) T.Fg PyProof.Rows.Boot.«all» (Za (mT (own:=["sign"]) (fv:=[]) (ix:=[]) (Z8 (sc:=Zi GA) (N:=["text"]) rfl rfl (by decide +kernel)) rfl (Zwl (pv 0)) (fun _ _ _ _ _=>ZG (i:=0) (show (["sign"]:List Str).Nodup from by decide +kernel) rfl (Or.inl rfl) (Or.inr rfl)) (fun _ _ _ _ _=>mU) (fun _ _ _ _ _=>(tY Zuh (pv 0) (Zs (v:=.str "ABCDEFGHIJKLMNOPQRSTUVWXYZabcdefghijklmnopqrstuvwxyz0123456789._-") rfl T.C8 ⟨_,rfl⟩) rfl))) Zf))))),?_⟩
 refine ⟨_,rfl,_,rfl,hl,_,_,rfl,rfl,_,rfl,?_⟩
 by_cases h1:t.length < 1
 .rw [decide_eq_true (show (t.length:Int) < 1 by omega)];refine ao (ao ?_)
  have:=q H (af.refl _)
  unfold Z4 at this;rw [if_pos (.inl h1)] at this;exact this
 .rw [decide_eq_false (show ¬ (t.length:Int) < 1 by omega)];refine aj ?_;refine ⟨_,rfl,_,rfl,hl,_,_,rfl,rfl,_,rfl,?_⟩
  by_cases h2:8 < t.length
  .rw [decide_eq_true (show (8:Int) < (t.length:Int) by omega)];refine ao (ao ?_)
   have:=q H (af.refl _)
   unfold Z4 at this;rw [if_pos (.inr (.inl h2))] at this;exact this
  .rw [decide_eq_false (show ¬ (8:Int) < (t.length:Int) by omega)];refine aj ?_;refine ⟨_,rfl,(a9 2),fun p hp=>?_⟩;refine ⟨p,_,rfl,.inr (av.of Zb),rfl,rfl,_,rfl,?_⟩;have s1:af H (upd H p (.tup [.str ".",.str ".."])):=Zk hp;rw [show (if false=true then !sQ (.str t) [.str ".",.str ".."] else sQ (.str t) [.str ".",.str ".."])=(decide (t=".") || decide (t="..")) from Lv _ _ _]
   by_cases h3:t="."∨t=".."
   .rw [show (decide (t=".") || decide (t=".."))=true by simpa using h3];refine ao ?_
    have:=q _ s1
    unfold Z4 at this;rw [if_pos (.inr (.inr h3))] at this;exact this
   .rw [show (decide (t=".") || decide (t=".."))=false by simpa using h3];refine aj ?_;refine ⟨_,rfl,_,rfl,fun D hD=>?_⟩;refine qk (J:=Dw t) t.cps.size (fun i=>some (V.bl (wd (t.cps.getD i 0)))) (fun i x=>x=.str ⟨#[t.cps.getD i 0]⟩) hD (by omega) (fun i H' hi _=>hi) (fun H' _=>rfl) (fun i H' x H2 hi _ hy=>?_) (fun i x H' N hi hx _ k=>?_) fun H' s' hH=>?_
    .obtain ⟨e,c,hc,e2⟩:=hy;refine ⟨e,?_⟩;rw [e2,show t.cps.getD i 0=c by rw [Array.getD_eq_getD_getElem?,hc];rfl]
    .subst hx;refine ao (B:=N none H') ?_;exact ⟨_,rfl,_,_,rfl,rfl,k _ (af.refl _)⟩
    .refine ⟨D,(List.range t.cps.size).map fun i=>wd (t.cps.getD i 0),rfl,ay.of (by rw [hH,ZwB]),?_⟩
     have:=q _ (s1.trans s')
     unfold Z4 at this;rw [if_neg (by intro z;rcases z with z | z | z;exact h1 z;exact h2 z;exact h3 z)] at this;rw [all_map];exact this
theorem ZwN (s:Str) (i j:Nat):(Builtin.Str.strSub s i j).length<=s.length:=by
 show (s.cps.extract i j).size<=s.cps.size;rw [Array.size_extract];omega
theorem Zue (s:Str) (o:List Nat) (w:Nat):(WI s o w).length<=o.length + 1:=by
 show (((0::o.map (· + w)).zip (o++[s.length])).map _).length<=_;rw [Yb,YaZ,Yv,Yb];omega
theorem Zpz (a b:Str):(lq a b).length<=a.length + 2:=by
 unfold lq
 split
 .show 1<=_;omega
 .split
  .show 1<=_;omega
  .refine Yn (Zue _ _ _) ?_
   have:=PySem.StrLaws.occ_length_le a b 0 a.length (a.length + 1)
   omega
theorem ZtW (a b:Str):∀ n∈lq a b,n.length<=a.length:=by
 intro n hn;unfold lq at hn
 split at hn
 .rw [List.mem_singleton.mp hn];exact Yf _
 .split at hn
  .rw [List.mem_singleton.mp hn];exact Yf _
  .obtain ⟨⟨i,j⟩,_,rfl⟩:=List.mem_map.mp hn;exact ZwN _ _ _
theorem FN (a:Str) (lo hi:Option Int):(mx a lo hi).length<=a.length:=by
 unfold mx
 split
 .exact Yf _
 .show (((Wt lo hi 1 a.length).filterMap (a.cps[·]?)).toArray).size<=_;rw [Yq];exact Yn (WG _ _) (PyProof.Rows.indices_len_le _ _ _)
theorem ZhM (p:Str):(ZF p).length<=p.length + 2:=by
 unfold ZF
 split
 .exact Yt _
 .exact Yn (Zpz _ _) (Ya8 (FN _ _ _) 2)
theorem ZhL (p:Str):∀ n∈ZF p,n.length<=p.length:=by
 intro n hn;unfold ZF at hn
 split at hn
 .exact nomatch hn
 .exact Yn (ZtW _ _ n hn) (FN _ _ _)
theorem Zv1 (p:Str) (i:Nat):((ZF p).getD i "").length<=p.length:=by
 rw [Yi]
 cases h:(ZF p)[i]? with
 | none=>exact Yt _
 | some n=>exact ZhL p n (Ys h)
inductive cy (vs:List V) (H:Hp) (Q:VK) (aD:XK):Prop
 | mk (p:_):vs=[.str p]->p.length<=1000->(∀ l H',af H H'->H l=none->H' l=some (.lst ((ZF p).map V.str))->Q (.ref l) H')->cy vs H Q aD
theorem Zn {n m:Nat} (h:n<=m) (hm:m<=100000):n<=Yj:=by
 have:(100000:Nat)<=Yj:=by decide
 omega
theorem Zn2:Zm ["path"] ["path"] (Zi ZjG):=ZE (by decide +kernel)
theorem CY (T:Tx K mg g):ah P w K mg base (aw P w) 1 g.HC g.IS ["path"] cy:=by
 refine T.wO.aG Zn2 fun vs H Q E h=>?_;obtain ⟨p,rfl,hl,q⟩:=h;refine ⟨rfl,fun _ _ _ _ hr=>?_⟩
 refine ⟨_,(Zd (ZZ (ZI nJ (pv 0) ZY (ZU _)) (Zh (Zu (mf Zf))) Zy)
  (Zh (Zu (kc WV PySem.F.slot_str_split PySem.F.type_str_split Zuq (jc ZxX (pv 0) (Z9 Zo) nQ) (Za ZY Zf))))),?_⟩
 refine ⟨_,rfl,rfl,_,rfl,?_⟩
 by_cases h1:p="/"
 .rw [decide_eq_true (show V.str p=V.str "/" by rw [h1])];refine ao ⟨Yt _,fun l hn=>?_⟩;refine q l _ (Zk hn) hn ?_;unfold ZF;rw [if_pos h1];exact Zb
 .rw [decide_eq_false (show ¬ V.str p=V.str "/" by intro z;injection z with z;exact h1 z)];refine aj ?_;have dh:=FN p (some 1) none;refine ⟨_,rfl,_,rfl,_,rfl,Zn (Yn dh hl) (by decide),rfl,_,_,rfl,rfl,rfl,Zn (Yn dh hl) (by decide),Zn (Yn (Zpz _ _) (Ya8 (Yn dh hl) 2)) (by decide),fun l hn=>?_⟩;refine q l _ (Zk hn) hn ?_;unfold ZF;rw [if_neg h1];exact Zb
theorem Zs1 (f:Str->Bool) (xs:List Str):((List.range xs.length).all fun i=>f (xs.getD i ""))=xs.all f:=by
 induction xs with
 | nil=>rfl
 | cons x xs ih=>
  rw [Yv,List.range_succ_eq_map,YaJ,List.all_map,YaJ,<- ih];rfl
inductive jJ (vs:List V) (H:Hp) (Q:VK) (aD:XK):Prop
 | mk (t:_):vs=[.str t]->t.length<=1000->(∀ H',af H H'->Q (.bl (rJ t)) H')->jJ vs H Q aD
theorem ZsX:Zm ["text"] ["text"] (Zi GB):=ZE (by decide +kernel)
theorem Zs9 (T:Tx K mg g):ah P w K mg base (aw P w) 2 g.FE g.GG ["text"] jJ:=by
 refine T.Gv.aG ZsX fun vs H Q E h=>?_;obtain ⟨t,rfl,hl,q⟩:=h;refine ⟨rfl,fun _ _ _ _ hr=>?_⟩
 refine ⟨_,(Zd (ZZ (PW.pt (lj (ZI ma (Zv C7 (by rfl) T.cR YA (Za (pv 0) Zf)) (Zs (v:=.int 60) rfl T.ZmQ ⟨_,rfl⟩) (ZU _)) (nO (px (ll (kc WV PySem.F.slot_str_startswith PySem.F.type_str_startswith ZmK (pv 0) (Za ZY Zf))))))) (Zh (Zu mM)) Zy)
  (Zh (Zu (Zv Ge (by rfl) T.Fg PyProof.Rows.Boot.«all» (Za (mT (own:=["name"]) (fv:=[]) (ix:=[]) (Z8 (sc:=Zi GB) (N:=["text"]) rfl rfl (by decide +kernel)) rfl (rL (Zl (CY T) hr.dn rfl T.Dc T.wO.kp T.bu .nil Zg (Za (pv 0) Zf))) (fun _ _ _ _ _=>ZG (i:=0) (show (["name"]:List Str).Nodup from by decide +kernel) rfl (Or.inl rfl) (Or.inr rfl)) (fun _ _ _ _ _=>mU) (fun _ _ _ _ _=>(Zl (Ct T) hr.dn rfl T.Cm T.wD.kp T.cK .nil e_ (Za (pv 0) Zf)))) Zf))))),?_⟩
 refine ⟨_,rfl,_,rfl,Zn hl (by decide),_,_,rfl,rfl,_,rfl,?_⟩
 by_cases h1:60 < t.length
 .rw [decide_eq_true (show (60:Int) < (t.length:Int) by omega)];refine ao (ao ?_)
  have:=q H (af.refl _)
  unfold rJ at this;rw [if_pos h1] at this;exact this
 .rw [decide_eq_false (show ¬ (60:Int) < (t.length:Int) by omega)];refine aj ?_;refine ⟨_,rfl,rfl,_,_,rfl,rfl,_,rfl,?_⟩
  by_cases h2:(!(decide (0 + Yau "/"<=t.length) && Wu t "/" 0))=true
  .have tG:(decide (0 + Yau "/"<=t.length) && Wu t "/" 0)=false:=(YaC _).mp h2;rw [tG];refine ao ?_
   have:=q H (af.refl _)
   unfold rJ at this;rw [if_neg h1,if_pos h2] at this;exact this
  .have tG:(decide (0 + Yau "/"<=t.length) && Wu t "/" 0)=true:=by
    cases z:(decide (0 + Yau "/"<=t.length) && Wu t "/" 0) with
    | true=>rfl
    | false=>rw [z] at h2;exact absurd rfl h2
   rw [tG];refine aj ?_;refine ⟨_,rfl,t,rfl,hl,fun l H1 s1 hn dg=>?_⟩;refine ⟨l,rfl,⟨_,ay.of dg⟩,fun D hD=>?_⟩;have hlen:(ZF t).length<=1002:=Yn (ZhM t) (Ya8 hl 2);have gf:∀ H',af H1 H'->ay K H' l ((ZF t).map V.str):=fun H' s'=>ay.of (s' _ _ dg);refine qk (J:=lE K l) (ZF t).length (fun i=>some (V.bl (Z4 ((ZF t).getD i "")))) (fun i x=>x=.str ((ZF t).getD i "")) hD (Zn hlen (by decide)) (fun i H' hi s'=>⟨_,.str ((ZF t).getD i ""),gf H' s',?_⟩) (fun H' s'=>⟨_,gf H' s',by rw [Yb];exact Yf _⟩) (fun i H' x H2 hi s' hy=>?_) (fun i x H' N hi hx s' k=>?_) fun H' s' hH=>?_
   .rw [Yo,Yi,Yk hi];rfl
   .obtain ⟨e,hx⟩:=hy;refine ⟨e,?_⟩
    have:=hx _ (gf H' s')
    rw [Yo,Yk hi] at this;rw [Yi,Yk hi];exact (Yu this).symm
   .subst hx;refine ao (B:=N none H') ?_;exact ⟨_,rfl,_,rfl,Zn (Yn (Zv1 t i) hl) (by decide),fun H5 s5=>k _ s5⟩
   .refine ⟨D,(List.range (ZF t).length).map fun i=>Z4 ((ZF t).getD i ""),rfl,ay.of (by rw [hH,ZwB]),?_⟩
    have:=q _ (s1.trans s')
    unfold rJ at this;rw [if_neg h1,if_neg h2] at this;rw [all_map,Zs1];exact this
theorem ZS (a b:Str):(a++b).length=a.length + b.length:=by
 show (a.cps++b.cps).size=_;exact Array.size_append
def gn {α:Type} (g:Gs) (R:Hp->α->V->Prop) (H:Hp) (m:Except Rf α) (Q:VK) (E:XK):Prop:=match m with
 | .ok x=>∀ v H',af H H'->R H' x v->Q v H'
 | .error r=>∀ H',af H H'->E (.ref (g.xa r)) none H'
theorem gn.ok {α:Type} {g:Gs} {R:Hp->α->V->Prop} {H:Hp} {m:Except Rf α} {Q:VK} {E:XK} (h:gn g R H m Q E) {x:α} (e:m=.ok x):∀ v H',af H H'->R H' x v->Q v H':=by subst e;exact h
theorem gn.no {α:Type} {g:Gs} {R:Hp->α->V->Prop} {H:Hp} {m:Except Rf α} {Q:VK} {E:XK} (h:gn g R H m Q E) {r:Rf} (e:m=.error r):∀ H',af H H'->E (.ref (g.xa r)) none H':=by subst e;exact h
def rA (_:Hp) (_:Unit) (v:V):Prop:=v=.aH
def ZyR (_:Hp) (n:Int) (v:V):Prop:=v=.int n
def Cf (p:Str):Except Rf Unit:=if rJ p then .ok () else .error .bV
inductive eQ (g:Gs) (vs:List V) (H:Hp) (Q:VK) (E:XK):Prop
 | mk (p:_):vs=[.str p]->p.length<=1000->gn g rA H (Cf p) Q E->eQ g vs H Q E
theorem Zn5:Zm ["path"] ["path"] (Zi ZjM):=ZE (by decide +kernel)
theorem Zot (T:Tx K mg g):ah P w K mg base (aw P w) 3 g.Ho g.IC ["path"] (eQ g):=by
 refine T.IX.aG Zn5 fun vs H Q E h=>?_;obtain ⟨p,rfl,hl,q⟩:=h;refine ⟨rfl,fun _ _ _ _ hr=>?_⟩;refine ⟨_,(Zh (ZZ (px (ll (Zl (Zs9 T) hr.dn rfl T.ZuB T.Gv.kp T.mD .nil Zg (Za (pv 0) Zf)))) (Zh (ZN T.Zpl rfl T.Zqj (Za (wm (v5 (pv 0) (vZ vY))) Zf))) Zy)),?_⟩;refine ⟨_,rfl,p,rfl,hl,fun H1 s1=>⟨_,rfl,?_⟩⟩
 cases hb:rJ p with
 | true=>exact aj (q.ok (x:=()) (by unfold Cf;rw [hb];rfl) _ _ s1 rfl)
 | false=>
  refine ao ?_;refine ⟨_,rfl,p,rfl,Zn hl (by decide),?_,?_,?_,?_,q.no (r:=.bV) (by unfold Cf;rw [hb];rfl) _ s1⟩
  .rw [ZS];exact Zn (m:=1000) (by show 0 + p.length<=1000;omega) (by decide)
  .rw [ZS,ZS];exact Zn (m:=1100) (by show 0 + p.length + 11<=1100;omega) (by decide)
  .rw [ZS,ZS];exact Zn (m:=1100) (by show 0 + p.length + 11<=1100;omega) (by decide)
  .show 1<=Yj;decide
abbrev Row:=List Int
abbrev aO:=List (Str×Int)
structure aF where
 dat:List (Int×Row)
 ent:List (Int×aO)
section
variable {κ α:Type} [DecidableEq κ]
def aa (xs:List (κ×α)) (k:κ):Option α:=(xs.find? fun p=>decide (p.1=k)).map (·.2)
def ai (xs:List (κ×α)) (k:κ) (x:α):List (κ×α):=if (xs.any fun p=>decide (p.1=k))=true then xs.map (fun p=>if p.1=k then (p.1,x) else p) else xs++[(k,x)]
theorem Z7 {p:κ×α} {r:List (κ×α)} {k:κ} (e:p.1=k):aa (p::r) k=some p.2:=by simp [aa,X3,e]
theorem js {p:κ×α} {r:List (κ×α)} {k:κ} (e:¬ p.1=k):aa (p::r) k=aa r k:=by simp [aa,X3,e]
theorem wt (k:κ):∀ xs:List (κ×α),(xs.any fun p=>decide (p.1=k))=(aa xs k).isSome
 | []=>rfl
 | p::r=>by
  rw [WJ,wt k r]
  by_cases e:p.1=k
  .rw [Z7 e,decide_eq_true e];rfl
  .rw [js e,decide_eq_false e];rfl
theorem ki (xs:List (κ×α)) (k:κ) (x:α):(ai xs k x).length<=xs.length + 1:=by
 unfold ai
 split
 .rw [Yb];omega
 .rw [Yd];exact Yf _
end
def ZT {κ α ρ:Type} (f:κ->ρ) (R:Hp->α->V->Prop) (H:Hp) (xs:List (κ×α)) (kvs:List (ρ×V)):Prop:=Wg (fun p q=>p.1=f q.1/\R H q.2 p.2) kvs xs
def kE {α:Type} (R:Hp->α->V->Prop):Prop:=∀ (H H':Hp) (x:α) (v:V),af H H'->R H x v->R H' x v
section
variable {κ α ρ:Type} [DecidableEq κ] [DecidableEq ρ] {f:κ->ρ} {R:Hp->α->V->Prop} {H:Hp}
theorem ZT.same {H':Hp} (m:kE R) (s:af H H') {xs:List (κ×α)} {kvs:List (ρ×V)} (h:ZT f R H xs kvs):ZT f R H' xs kvs:=by
 unfold ZT at *
 induction h with
 | nil=>exact .nil
 | cons a _ ih=>exact .cons ⟨a.1,m _ _ _ _ s a.2⟩ ih
theorem ZT.len {xs:List (κ×α)} {kvs:List (ρ×V)} (h:ZT f R H xs kvs):kvs.length=xs.length:=Xk h
theorem ZT.no (inj:∀ a b,f a=f b->a=b) {xs:List (κ×α)} {kvs:List (ρ×V)} (h:ZT f R H xs kvs) {k:κ} (e:aa xs k=none):aY kvs (f k)=none:=by
 unfold ZT at h
 induction h with
 | nil=>rfl
 | @cons p q _ _ a t ih=>
  by_cases z:q.1=k
  .rw [Z7 z] at e;cases e
  .rw [js z] at e;rw [lD (by rw [a.1];exact fun y=>z (inj _ _ y))];exact ih e
theorem ZT.yes (inj:∀ a b,f a=f b->a=b) {xs:List (κ×α)} {kvs:List (ρ×V)} (h:ZT f R H xs kvs) {k:κ} {x:α} (e:aa xs k=some x):∃ v,aY kvs (f k)=some v/\R H x v:=by
 unfold ZT at h
 induction h with
 | nil=>cases e
 | @cons p q _ _ a t ih=>
  by_cases z:q.1=k
  .rw [Z7 z] at e
   cases e
   exact ⟨p.2,mm (by rw [a.1,z]),a.2⟩
  .rw [js z] at e;obtain ⟨v,h1,h2⟩:=ih e;exact ⟨v,by rw [lD (by rw [a.1];exact fun y=>z (inj _ _ y))];exact h1,h2⟩
theorem ZT.some (inj:∀ a b,f a=f b->a=b) {xs:List (κ×α)} {kvs:List (ρ×V)} (h:ZT f R H xs kvs) (k:κ):(aY kvs (f k)).isSome=(aa xs k).isSome:=by
 cases e:aa xs k with
 | none=>rw [h.no inj e];rfl
 | some x=>obtain ⟨v,h1,_⟩:=h.yes inj e;rw [h1];rfl
theorem ZT.mq (inj:∀ a b,f a=f b->a=b) {k:κ} {x:α} {v:V} (r:R H x v):∀ {xs:List (κ×α)} {kvs:List (ρ×V)},ZT f R H xs kvs->ZT f R H (xs.map fun p=>if p.1=k then (p.1,x) else p) (kvs.map fun kv=>if kv.1=f k then (kv.1,v) else kv)
 | _,_,.nil=>.nil
 | q::_,p::_,.cons a t=>by
  refine .cons ?_ (ZT.mq inj r t);show (if p.1=f k then (p.1,v) else p).1=f (if q.1=k then (q.1,x) else q).1/\R H (if q.1=k then (q.1,x) else q).2 (if p.1=f k then (p.1,v) else p).2
  by_cases z:q.1=k
  .rw [if_pos z,if_pos (by rw [a.1,z])];exact ⟨a.1,r⟩
  .rw [if_neg z,if_neg (by rw [a.1];exact fun y=>z (inj _ _ y))];exact a
theorem ZT.put (inj:∀ a b,f a=f b->a=b) {xs:List (κ×α)} {kvs:List (ρ×V)} (h:ZT f R H xs kvs) {k:κ} {x:α} {v:V} (r:R H x v):ZT f R H (ai xs k x) (putK kvs (f k) v):=by
 unfold ai putK;rw [wB,wt,h.some inj k]
 split
 .exact ZT.mq inj r h
 .exact YaE h ⟨rfl,r⟩
end
theorem gv (a b:Int) (h:(XQ a:Key)=XQ b):a=b:=WA h
theorem BL (a b:Str) (h:(XC a:Key)=XC b):a=b:=YaD h
theorem BZ (es:aO) (n:Str):aY (d0 es) (.inr n)=(aa es n).map V.int:=by
 induction es with
 | nil=>rfl
 | cons p r ih=>
  by_cases z:p.1=n
  .rw [Z7 z];exact mm (p:=(XC p.1,V.int p.2)) (by rw [z])
  .rw [js z,<- ih];exact lD (p:=(XC p.1,V.int p.2)) (fun y=>z (YaD y))
theorem Zsu (es:aO) (n:Str) (i:Int):putK (d0 es) (.inr n) (.int i)=d0 (ai es n i):=by
 unfold ai putK;rw [wB,wt,BZ,WY]
 split
 .unfold d0;rw [Xu,Xu];refine List.map_congr_left fun p _=>?_;show (if (XC p.1:Key)=XC n then (XC p.1,V.int i) else (XC p.1,V.int p.2))=(XC (if p.1=n then (p.1,i) else p).1,V.int (if p.1=n then (p.1,i) else p).2)
  by_cases z:p.1=n
  .rw [if_pos z,if_pos (by rw [z])]
  .rw [if_neg z,if_neg (fun y=>z (YaD y))]
 .unfold d0;rw [Yz];rfl
theorem tX (es:aO):(d0 es).length=es.length:=Yb ..
def ZH (H:Hp) (row:Row) (v:V):Prop:=∃ t,v=.ref t/\H t=some (.tup (row.map V.int))
def iw (H:Hp) (es:aO) (v:V):Prop:=∃ a,v=.ref a/\H a=some (.dK (d0 es))
theorem ZH.mono:kE ZH:=fun _ _ _ _ s ⟨t,e,h⟩=>⟨t,e,s _ _ h⟩
theorem iw.mono:kE iw:=fun _ _ _ _ s ⟨t,e,h⟩=>⟨t,e,s _ _ h⟩
def sI (d e:V):List (Str×V):=aq "entries" e (aq "data" d [])
theorem Zzn:¬ (("data":Str)="entries"):=by decide +kernel
theorem mO (d e:V):(sI d e).lookup ("data":Str)=some d:=by
 unfold sI;rw [Zj,if_neg Zzn,Zj,if_pos rfl]
theorem gs (d e:V):(sI d e).lookup ("entries":Str)=some e:=by
 unfold sI;rw [Zj,if_pos rfl]
structure ZyK (g:Gs) (H:Hp) (S:aF) (p dx da ea:Addr) (dk ek:List (Key×V)):Prop where
 ob:H p=some (.ins g.State dx (sI (.ref da) (.ref ea)))
 hd:H da=some (.dK dk)
 he:H ea=some (.dK ek)
 rd:ZT XQ ZH H S.dat dk
 re:ZT XQ iw H S.ent ek
def ZB (g:Gs) (H:Hp) (S:aF) (v:V):Prop:=∃ p dx da ea dk ek,v=.ref p/\ZyK g H S p dx da ea dk ek
theorem ZB.mono {g:Gs}:kE (ZB g):=fun _ _ _ _ s ⟨p,dx,da,ea,dk,ek,e,h⟩=>⟨p,dx,da,ea,dk,ek,e,s _ _ h.ob,s _ _ h.hd,s _ _ h.he,h.rd.same ZH.mono s,h.re.same iw.mono s⟩
theorem u1 {n:Nat} (h:n + 64 < cLine):n + 1 < cLine:=by omega
def gw (S:aF) (n:Int):Bool:=(aa S.dat n).isSome || (aa S.ent n).isSome
inductive er (g:Gs) (vs:List V) (H:Hp) (Q:VK) (aD:XK):Prop
 | mk (p:_) (dx:_) (d:_) (e:_):vs=[.ref p,d,e]->H p=some (.ins g.State dx [])->(∀ H',(∀ b o,H b=some o->b≠p->H' b=some o)->H' p=some (.ins g.State dx (sI d e))->Q .aH H')->er g vs H Q aD
theorem Zn9:Zm ["self","data","entries"] ["self","data","entries"] (Zi ZjS):=ZE (by decide +kernel)
theorem CV (T:Tx K mg g):ah P w K mg base (aw P w) 1 g.Hg g.Ji ["self","data","entries"] (er g):=by
 refine T.Zkn.aG Zn9 fun vs H Q E h=>?_;obtain ⟨p,dx,d,e,rfl,hp,q⟩:=h;refine ⟨rfl,fun _ _ _ _ hr=>?_⟩
 refine ⟨_,(Zd (ee (pv 0) (pv 1) rfl)
  (Zh (ee (pv 0) (pv 2) rfl))),?_⟩
 refine ⟨_,rfl,_,rfl,p,g.State,dx,[],rfl,hp,T.ZM,T.Z2,(by show 0 < 1000;decide),?_⟩;refine ⟨_,rfl,_,rfl,p,g.State,dx,_,rfl,Zb,T.ZM,T.Zr,(by show 1 < 1000;decide),?_⟩;refine q _ (fun b o e hb=>?_) Zb;rw [Ze hb,Ze hb];exact e
theorem Hy {H1:Hp} {x dx:Addr} {d e:V} {Q:VK} {E:XK} (hx:H1 x=none) (ny:H1 dx=none) (ne:dx≠x) (q:∀ p dx H',af H1 H'->H' p=some (.ins g.State dx (sI d e))->Q (.ref p) H') :
  er g (.ref x::([d,e]++[])) (upd (upd H1 dx (.own x)) x (.ins g.State dx [])) (fun v H2=>v=.aH/\Q (.ref x) H2) E:=by
 refine ⟨x,dx,d,e,rfl,Zb,fun H' k hp=>⟨rfl,q x dx H' (fun b o eb=>?_) hp⟩⟩;have h1:b≠x:=Zc eb hx;have h2:b≠dx:=Zc eb ny;exact k b o (by rw [Ze h1,Ze h2];exact eb) h1
def ZwQ (g:Gs):Sp:=fun vs H Q _=>vs=[]/\∀ v H',af H H'->ZB g H' ⟨[],[(0,[])]⟩ v->Q v H'
theorem Zms:Zm [] [] (Zi Zhy):=ZE (by decide +kernel)
theorem ZmC (T:Tx K mg g):ah P w K mg base (aw P w) 3 g.HZ g.Jy [] (ZwQ g):=by
 refine T.JS.aG Zms fun vs H Q E h=>?_;obtain ⟨rfl,q⟩:=h;refine ⟨rfl,fun _ _ _ _ hr=>?_⟩;refine ⟨_,(Zh (Zu (lA T.B8 (CV T) hr.dn rfl T.BO T.bx .nil Zg (Za nV (Za (ZwZ (ZvD (Zs (v:=.int 0) rfl T.yf ⟨_,rfl⟩) nV ZwY) rfl rfl (by simp) (by decide)) Zf))))),?_⟩;refine fun a ha b hb c hc=>?_;have u7:a≠b:=Zc Zb hb;have D5:b≠c:=Zc Zb hc;have nac:a≠c:=Zc (H:=upd (upd H a (.dK [])) b (.dK [])) (by rw [Ze u7];exact Zb) hc;have qU:H b=none:=by rw [Ze u7.symm] at hb;exact hb
 have p7:H c=none:=by rw [Ze D5.symm,Ze nac.symm] at hc;exact hc
 refine ⟨by rw [Ze D5];exact Zb,[(XQ 0,.ref c)],rfl,(by show 1<=15;decide),fun x dx hx ny ne=>Hy hx ny ne fun p dx H' s' hp=>?_⟩
 have s0:af H (upd (upd (upd (upd H a (.dK [])) b (.dK [])) c (.dK [])) b (.dK (vU [] [(XQ 0,V.ref c)]))):=fun d o e=>by
  rw [Ze (Zc e qU),Ze (Zc e p7),Ze (Zc e qU),Ze (Zc e ha)];exact e
 refine q _ H' (s0.trans s') ⟨p,dx,a,b,_,_,rfl,hp,s' _ _ (by rw [Ze u7,Ze nac,Ze u7];exact Zb),s' _ _ Zb,.nil,.cons ⟨rfl,c,rfl,s' _ _ (by rw [Ze D5.symm];exact Zb)⟩ .nil⟩
inductive g9 (g:Gs) (vs:List V) (H:Hp) (Q:VK) (aD:XK):Prop
 | mk (v:_) (S:_) (n:_):vs=[v,.int n]->ZB g H S v->Q (.bl (gw S n)) H->g9 g vs H Q aD
theorem Zrc:Zm ["state","number"] ["state","number"] (Zi Znc):=ZE (by decide +kernel)
theorem Zlz (T:Tx K mg g):ah P w K mg base (aw P w) 1 g.F6 g.Hu ["state","number"] (g9 g):=by
 refine T.Co.aG Zrc fun vs H Q E h=>?_;obtain ⟨v,S,n,rfl,⟨p,dx,da,ea,dk,ek,rfl,hS⟩,q⟩:=h;refine ⟨rfl,fun _ _ _ _ hr=>?_⟩;have hu:=u1 hr.units;refine ⟨_,(Zh (Zu (Zya (Zwn (nL hu (pv 1) (Zp (pv 0) rfl))) (Zwm (Zwn (nL hu (pv 1) (Zp (pv 0) rfl))))))),?_⟩;refine ⟨_,rfl,_,rfl,p,_,dx,_,_,rfl,hS.ob,T.ZM,T.Z2,mO _ _,da,_,rfl,aE.k hS.hd (k:=.inl n),_,rfl,?_⟩;rw [hS.rd.some gv];unfold gw at q
 cases hd:(aa S.dat n).isSome with
 | true=>rw [hd] at q;exact ao q
 | false=>
  rw [hd] at q;refine aj ⟨_,rfl,_,rfl,p,_,dx,_,_,rfl,hS.ob,T.ZM,T.Zr,gs _ _,ea,_,rfl,aE.k hS.he (k:=.inl n),?_⟩;rw [hS.re.some gv];exact q
def rO (S:aF) (n:Int):Except Rf Unit:=if (aa S.ent n).isSome then .ok () else .error .aL
inductive fQ (g:Gs) (vs:List V) (H:Hp) (Q:VK) (E:XK):Prop
 | mk (v:_) (S:_) (n:_):vs=[v,.int n]->ZB g H S v->gn g rA H (rO S n) Q E->fQ g vs H Q E
theorem Zhr:Zm ["state","number"] ["state","number"] (Zi ZdJ):=ZE (by decide +kernel)
theorem ZcY (T:Tx K mg g):ah P w K mg base (aw P w) 1 g.Kr g.Kz ["state","number"] (fQ g):=by
 refine T.Dp.aG Zhr fun vs H Q E h=>?_;obtain ⟨v,S,n,rfl,⟨p,dx,da,ea,dk,ek,rfl,hS⟩,q⟩:=h;refine ⟨rfl,fun _ _ _ _ hr=>?_⟩;have hu:=u1 hr.units;refine ⟨_,(Zh (ZZ (fo (ub hu (pv 1) (Zp (pv 0) rfl))) (Zh (ZN T.ZnS rfl T.ZoJ (Za ZY Zf))) Zy)),?_⟩;refine ⟨_,rfl,_,rfl,p,_,dx,_,_,rfl,hS.ob,T.ZM,T.Zr,gs _ _,ea,_,rfl,aE.k hS.he (k:=.inl n),_,rfl,?_⟩;rw [hS.re.some gv]
 cases hd:(aa S.ent n).isSome with
 | true=>exact aj (q.ok (x:=()) (by unfold rO;rw [hd];rfl) _ _ (af.refl _) rfl)
 | false=>exact ao ⟨a9 1,q.no (r:=.aL) (by unfold rO;rw [hd];rfl) _ (af.refl _)⟩
def insI (n:Int):List Int->List Int
 | []=>[n]
 | m::r=>if n<=m then n::m::r else m::insI n r
def tS:List Int->List Int
 | []=>[]
 | n::r=>insI n (tS r)
theorem GD (n:Int):∀ l,(insI n l).Perm (n::l)
 | []=>.refl _
 | m::r=>by
  unfold insI
  split
  .exact .refl _
  .exact ((GD n r).cons m).trans (.swap ..)
theorem qp:∀ l,(tS l).Perm l
 | []=>.refl _
 | n::r=>(GD n (tS r)).trans ((qp r).cons n)
theorem ZlX (n:Int):∀ l:List Int,l.Pairwise (·<=·)->(insI n l).Pairwise (·<=·)
 | [],_=>by simp [insI]
 | m::r,h=>by
  obtain ⟨h1,h2⟩:=List.pairwise_cons.mp h;unfold insI
  split
  .rename_i hn
   exact List.pairwise_cons.mpr ⟨fun a ha=>by
    rcases List.mem_cons.mp ha with rfl | ha
    .exact hn
    .exact Int.le_trans hn (h1 a ha),h⟩
  .rename_i hn
   refine List.pairwise_cons.mpr ⟨fun a ha=>?_,ZlX n r h2⟩;rcases List.mem_cons.mp ((GD n r).mem_iff.mp ha) with rfl | ha
   .omega
   .exact h1 a ha
theorem JK:∀ l,(tS l).Pairwise (·<=·)
 | []=>.nil
 | n::r=>ZlX n _ (JK r)
theorem ZpA:∀ {a b:List Int},a.Perm b->a.Pairwise (·<=·)->b.Pairwise (·<=·)->a=b:=by
 intro a b p ha hb;exact p.eq_of_pairwise (fun x y _ _ h1 h2=>Int.le_antisymm h1 h2) ha hb
def Zx (S:aF):List Int:=tS (S.dat.map (·.1)++S.ent.map (·.1))
theorem ZT.ox {α:Type} {R:Hp->α->V->Prop} {H:Hp} {xs:List (Int×α)} {kvs:List (Key×V)} (h:ZT XQ R H xs kvs):(kvs.map fun q=>kV q.1)=(xs.map (·.1)).map V.int:=by
 unfold ZT at h
 induction h with
 | nil=>rfl
 | cons a _ ih=>rw [Yx,Yx,Yx,ih,a.1];rfl
inductive h_ (g:Gs) (vs:List V) (H:Hp) (Q:VK) (aD:XK):Prop
 | mk (v:_) (S:_):vs=[v]->ZB g H S v->S.dat.length + S.ent.length < 64->(∀ l H',af H H'->H' l=some (.lst ((Zx S).map V.int))->Q (.ref l) H')->h_ g vs H Q aD
theorem Zmv:Zm ["state"] ["state"] (Zi ZhC):=ZE (by decide +kernel)
theorem Dm (T:Tx K mg g):ah P w K mg base (aw P w) 1 g.Iw g.Jt ["state"] (h_ g):=by
 refine T.wW.aG Zmv fun vs H Q E h=>?_;obtain ⟨v,S,rfl,⟨p,dx,da,ea,dk,ek,rfl,hS⟩,hz,q⟩:=h;refine ⟨rfl,fun _ _ _ _ hr=>?_⟩;have hu:=u1 hr.units;refine ⟨_,(Zh (Zu (Zv Zkh (by rfl) T.wC PyProof.Rows.Boot.«sorted» (Za (ZC Fq (lC ZnM rfl T.wb PyProof.Rows.Boot.«list» (Za (Zp (pv 0) rfl) Zf)) (lC ZnM rfl T.wb PyProof.Rows.Boot.«list» (Za (Zp (pv 0) rfl) Zf))) Zf)))),?_⟩;refine ⟨_,rfl,p,_,dx,_,_,rfl,hS.ob,T.ZM,T.Z2,mO _ _,da,dk,rfl,.inl hS.hd,fun a ha=>?_⟩;have s1:=Zk (o:=.lst (dk.map fun q=>kV q.1)) ha;refine ⟨_,rfl,p,_,dx,_,_,rfl,s1 _ _ hS.ob,T.ZM,T.Zr,gs _ _,ea,ek,rfl,.inl (s1 _ _ hS.he),fun b hb=>?_⟩;have s2:=Zk (o:=.lst (ek.map fun q=>kV q.1)) hb;refine ⟨a,b,_,_,rfl,rfl,s2 _ _ Zb,Zb,?_,fun c hc=>?_⟩
 .rw [Yb,Yb,hS.rd.len,hS.re.len];exact Zn (W3 hz) (by decide)
 have s3:=Zk (o:=.lst ((dk.map fun q=>kV q.1)++(ek.map fun q=>kV q.1))) hc;refine ⟨c,S.dat.map (·.1)++S.ent.map (·.1),rfl,ay.of (by rw [Zb,hS.rd.ox,hS.re.ox,Yz]),?_,fun l ms hl pm pw=>?_⟩
 .rw [Yd,Yb,Yb];exact hz
 .have:ms=Zx S:=ZpA (pm.trans (qp _).symm) pw (JK _)
  subst this;exact q l _ (s1.trans (s2.trans (s3.trans (Zk hl)))) Zb
def wI (S:aF):Nat->Nat->Option Int
 | _,0=>none
 | i,k + 1=>if gw S (i:Int) then wI S (i + 1) k else some (i:Int)
def wH (S:aF):Option Int:=wI S 0 32
def zt:Option Int->V
 | none=>.aH
 | some n=>.int n
def nK (S:aF):List Str->List Int->Except Rf (List Int)
 | [],ps=>.ok ps
 | n::ns,ps=>match aa S.ent (ps.getLastD 0) with
  | none=>.error .aL
  | some es=>match aa es n with
   | none=>.error .aZ
   | some i=>nK S ns (ps++[i])
theorem ZrU (S:aF) (ps:List Int):nK S [] ps=.ok ps:=rfl
theorem Zpo (S:aF) (n:Str) (ns:List Str) (ps:List Int):nK S (n::ns) ps=match aa S.ent (ps.getLastD 0) with
  | none=>.error .aL
  | some es=>match aa es n with
   | none=>.error .aZ
   | some i=>nK S ns (ps++[i]):=rfl
def ZwD (H:Hp) (xs:List Int) (v:V):Prop:=∃ l,v=.ref l/\H l=some (.lst (xs.map V.int))
theorem yA (ps:List Int) (h:ps≠[]):ji (ps.map V.int) (-1)=some (.int (ps.getLastD 0)):=by
 have hl:0 < ps.length:=List.length_pos_iff.mpr h;unfold ji pS;rw [if_neg (by decide),if_pos (by rw [Yb];omega)];show (ps.map V.int)[(-1 + ((ps.map V.int).length:Int)).toNat]?=_;have e:(-1 + ((ps.map V.int).length:Int)).toNat=ps.length - 1:=by rw [Yb];omega
 rw [e,Yo,<- List.getLast?_eq_getElem?,List.getLastD_eq_getLast?]
 cases hh:ps.getLast? with
 | none=>exact absurd (List.getLast?_eq_none_iff.mp hh) h
 | some x=>rfl
inductive lM (g:Gs) (vs:List V) (H:Hp) (Q:VK) (aD:XK):Prop
 | mk (v:_) (S:_):vs=[v]->ZB g H S v->Q (zt (wH S)) H->lM g vs H Q aD
theorem Zho:Zm ["state","number"] ["state"] (Zi ZjI):=ZE (by decide +kernel)
theorem ZhQ (T:Tx K mg g):ah P w K mg base (aw P w) 2 g.Hw g.IK ["state"] (lM g):=by
 refine T.CJ.aG Zho fun vs H Q E h=>?_;obtain ⟨v,S,rfl,hS,q⟩:=h;refine ⟨rfl,fun _ _ _ _ hr=>?_⟩
 refine ⟨_,(Zd (gN YE rfl (yE rfl T.rK (Za (Zs (v:=.int 32) rfl T.Zia ⟨_,rfl⟩) Zf)) (ZG (i:=1) Zho.nd rfl (Or.inl rfl)) (Zh (ZZ (px (ll (Zl (Zlz T) hr.dn rfl T.Znw T.Co.kp T.fV .nil Zg (Za (pv 0) (Za (pv 1) Zf))))) (Zh (Zu (pv 1))) Zy)))
  (Zh (Zu yj))),?_⟩
 refine ⟨32,rfl,by decide,by decide,?_⟩;refine GV (fun i σ H'=>(∃ o,σ=[some v,o])/\H'=H/\wH S=wI S i (32 - i)) ⟨⟨none,rfl⟩,rfl,rfl⟩ (fun i σ H' hi h=>?_) (fun σ H' h=>?_)
 .obtain ⟨⟨o,rfl⟩,rfl,hk⟩:=h;have e1:(0:Int) + (i:Int)=(i:Int):=Int.zero_add _;refine ⟨_,rfl,_,rfl,v,S,_,rfl,hS,_,rfl,?_⟩;rw [e1]
  have e2:32 - i=(32 - (i + 1)) + 1:=by
   have:i < 32:=hi
   omega
  rw [e2] at hk;unfold wI at hk
  cases ht:gw S (i:Int) with
  | true=>
   rw [ht,if_pos rfl] at hk;exact aj ⟨⟨_,rfl⟩,rfl,hk⟩
  | false=>
   rw [ht,if_neg (by decide)] at hk;refine ao ?_;rw [hk] at q;exact ⟨_,rfl,q⟩
 .obtain ⟨_,rfl,hk⟩:=h;rw [hk] at q;exact q
inductive oA (g:Gs) (vs:List V) (H:Hp) (Q:VK) (E:XK):Prop
 | mk (v:_) (S:_) (l:_) (ns:_):vs=[v,.ref l]->ZB g H S v->H l=some (.lst (ns.map V.str))->ns.length<=2000->(∀ n∈ns,n.length<=2000)->gn g ZwD H (nK S ns [0]) Q E->oA g vs H Q E
theorem BU:Zm ["state","names","passed","name","entries"] ["state","names"] (Zi Zwj):=ZE (by decide +kernel)
theorem Zw2 (T:Tx K mg g):ah P w K mg base (aw P w) 2 g.walk g.Fy ["state","names"] (oA g):=by
 refine T.Fi.aG BU fun vs H Q E h=>?_;obtain ⟨v,S,l,ns,rfl,hS,hl,hz,iq,q⟩:=h;refine ⟨rfl,fun _ _ _ _ hr=>?_⟩;have hu:=u1 hr.units
 refine ⟨_,(Zd (Zt (i:=2) BU.nd rfl (Or.inl rfl) (mf (Za (Zs (v:=.int 0) rfl T.yf ⟨_,rfl⟩) Zf)))
  (Zd (gN YE rfl (rL (pv 1)) (ZG (i:=3) BU.nd rfl (Or.inl rfl)) (Zd (ZJ (Zl (ZcY T) hr.dn rfl T.ZdR T.Dp.kp T.bF .nil Zg (Za (pv 0) (Za (d_ qj (pv 2) (rE rG Zo) (fun _ _=>rfl)) Zf))))
  (Zd (Zt (i:=4) BU.nd rfl (Or.inl rfl) (kn hu (Zp (pv 0) rfl) (d_ qj (pv 2) (rE rG Zo) (fun _ _=>rfl)) (fun _ _=>rfl)))
  (Zd (ZZ (fo (ub hu (pv 3) (pv 4))) (Zh (ZN T.G2 rfl T.Ck (Za (wm (vZ (v5 (pv 3) vY))) Zf))) Zy)
  (Zh (ZJ (kc YR Y7 Y6 pI (pv 2) (Za (kn hu (pv 4) (pv 3) (fun _ _=>rfl)) Zf))))))))
  (Zh (Zu (pv 2))))),?_⟩
 refine ⟨a9 1,fun D hD=>?_⟩;have s0:=Zk (o:=.lst [.int 0]) hD;have nlD:l≠D:=Zc hl hD;refine ⟨_,rfl,l,rfl,⟨_,ay.of (s0 _ _ hl)⟩,?_⟩;refine B2 (xs:=ns.map V.str) (fun i σ H'=>∃ ps,(∃ o3 o4,σ=[some v,some (.ref l),some (.ref D),o3,o4])/\H' D=some (.lst (ps.map V.int))/\ps≠[]/\ps.length=i + 1/\af H H'/\nK S ns [0]=nK S (ns.drop i) ps) ⟨[0],⟨none,none,rfl⟩,Zb,by decide,rfl,s0,rfl⟩ (fun i σ H' _ h=>?_) (fun i x σ H' hx h=>?_) (fun σ H' h=>?_)
 .obtain ⟨ps,_,_,_,_,sm,_⟩:=h;exact ay.of (sm _ _ hl)
 .obtain ⟨ps,⟨o3,o4,rfl⟩,hp,bO,hlen,sm,hw⟩:=h;rw [Yo] at hx
  cases hn:ns[i]? with
  | none=>rw [hn] at hx;cases hx
  | some n=>
   rw [hn] at hx
   cases hx
   have hi:i < ns.length:=(List.getElem?_eq_some_iff.mp hn).1
   have s_:ns.drop i=n::ns.drop (i + 1):=by
    rw [Yaz hi];rw [(List.getElem?_eq_some_iff.mp hn).2]
   rw [s_,Zpo] at hw;have p8:=ZB.mono _ _ _ _ sm hS;refine ⟨_,rfl,_,rfl,_,rfl,D,_,_,_,rfl,rfl,ay.of hp,yA ps bO,v,S,_,rfl,p8,?_⟩
   cases hg:aa S.ent (ps.getLastD 0) with
   | none=>
    rw [hg] at hw;show gn g rA H' (rO S (ps.getLastD 0)) _ _;unfold rO;rw [hg];exact fun H2 s2=>q.no hw _ (sm.trans s2)
   | some es=>
    rw [hg] at hw;show gn g rA H' (rO S (ps.getLastD 0)) _ _;unfold rO;rw [hg];intro v2 H2 s2 _;dsimp only at hw;have jX:=ZB.mono _ _ _ _ s2 p8;obtain ⟨p,dx,da,ea,dk,ek,rfl,hP⟩:=jX;obtain ⟨ve,jf,⟨ae,rfl,di⟩⟩:=hP.re.yes gv hg;refine ⟨_,rfl,p,_,dx,_,_,rfl,hP.ob,T.ZM,T.Zr,gs _ _,_,rfl,_,rfl,D,_,_,_,rfl,rfl,ay.of (s2 _ _ hp),yA ps bO,ea,_,rfl,(by have:=aE.k hP.he (k:=.inl (ps.getLastD 0));rw [jf] at this;exact this),?_⟩;refine ⟨_,rfl,_,rfl,ae,_,rfl,aE.k di (k:=.inr n),_,rfl,?_⟩;rw [BZ]
    cases A8:aa es n with
    | none=>
     rw [A8] at hw;refine ao ?_;have pW:n.length<=2000:=iq n (Ys hn);refine ⟨?_,_,rfl,n,rfl,Zn pW (by decide),?_,?_,a9 1,q.no hw _ (sm.trans s2)⟩
     .rw [ZS];exact Zn (m:=100) (by decide) (by decide)
     .rw [ZS,ZS];exact Zn (m:=2100) (by show 0 + 18 + n.length<=2100;omega) (by decide)
     .rw [ZS,ZS];exact Zn (m:=2100) (by show 0 + 18 + n.length<=2100;omega) (by decide)
    | some j=>
     rw [A8] at hw;refine aj ?_;refine ⟨_,rfl,.inl ⟨rfl,_,ay.of (s2 _ _ hp)⟩,_,rfl,_,rfl,ae,.int j,rfl,(by have:=aE.k di (k:=.inr n);rw [BZ,A8] at this;exact this),D,_,_,rfl,rfl,s2 _ _ hp,?_,?_⟩
     .rw [Yb,hlen]
      have:(100000:Nat)<=Yj:=by decide
      omega
     .refine ⟨ps++[j],⟨_,_,rfl⟩,?_,by simp,by rw [Yd,hlen];rfl,fun b o e=>?_,hw⟩
      .rw [Yz];exact Zb
      .rw [Ze (Zc e hD)];exact s2 _ _ (sm _ _ e)
 .obtain ⟨ps,⟨o3,o4,rfl⟩,hp,bO,hlen,sm,hw⟩:=h;rw [Yb,Wd,ZrU] at hw;exact ⟨_,rfl,q.ok hw _ _ sm ⟨D,rfl,hp⟩⟩
def wg (S:aF) (p:Str):Except Rf (List Int):=match nK S (ZF p).dropLast [0] with
 | .error r=>.error r
 | .ok ps=>if (aa S.ent (ps.getLastD 0)).isSome then .ok ps else .error .aL
theorem FW {S:aF}:∀ {ns:List Str} {ps qs:List Int},nK S ns ps=.ok qs->ps≠[]->qs≠[]/\qs.length=ps.length + ns.length
 | [],ps,qs,h,hp=>by rw [ZrU] at h;cases h;exact ⟨hp,rfl⟩
 | n::ns,ps,qs,h,hp=>by
  rw [Zpo] at h
  cases h1:aa S.ent (ps.getLastD 0) with
  | none=>rw [h1] at h;cases h
  | some es=>
   rw [h1] at h;dsimp only at h
   cases h2:aa es n with
   | none=>rw [h2] at h;cases h
   | some i=>
    rw [h2] at h;obtain ⟨a,b⟩:=FW (ps:=ps++[i]) h (by simp);refine ⟨a,?_⟩;rw [b,Yd,Yv];show ps.length + 1 + ns.length=ps.length + (ns.length + 1);omega
theorem Zu9 (ns:List Str):br (ns.map V.str) none (some (-1))=ns.dropLast.map V.str:=by
 unfold br;have e1:HT.aS (ns.map V.str).length 0 none=0:=rfl
 have e2:HT.aS (ns.map V.str).length (ns.map V.str).length (some (-1))=ns.length - 1:=by
  show (if (-1:Int) < 0 then (-1 + ((ns.map V.str).length:Int)).toNat else min (-1:Int).toNat (ns.map V.str).length)=_;rw [if_pos (by decide),Yb];omega
 rw [e1,e2,List.drop_zero,Nat.sub_zero,<- Yac,List.dropLast_eq_take]
inductive gQ (g:Gs) (vs:List V) (H:Hp) (Q:VK) (E:XK):Prop
 | mk (v:_) (S:_) (p:_):vs=[v,.str p]->ZB g H S v->p.length<=1000->gn g ZwD H (wg S p) Q E->gQ g vs H Q E
theorem Zb9:Zm ["state","path","passed"] ["state","path"] (Zi Zcs):=ZE (by decide +kernel)
theorem Zgm (T:Tx K mg g):ah P w K mg base (aw P w) 3 g.KC g.KP ["state","path"] (gQ g):=by
 refine T.KO.aG Zb9 fun vs H Q E h=>?_;obtain ⟨v,S,p,rfl,hS,hl,q⟩:=h;refine ⟨rfl,fun _ _ _ _ hr=>?_⟩
 refine ⟨_,(Zd (Zt (i:=2) Zb9.nd rfl (Or.inl rfl) (Zl (Zw2 T) hr.dn rfl T.Zyf T.Fi.kp T.uU .nil Zg (Za (pv 0) (Za (jc FU (Zl (CY T) hr.dn rfl T.Dc T.wO.kp T.bu .nil Zg (Za (pv 1) Zf)) nQ (Z9 (rE rG Zo))) Zf))))
  (Zd (ZJ (Zl (ZcY T) hr.dn rfl T.ZdR T.Dp.kp T.bF .nil Zg (Za (pv 0) (Za (d_ qj (pv 2) (rE rG Zo) (fun _ _=>rfl)) Zf))))
  (Zh (Zu (pv 2))))),?_⟩
 refine ⟨_,rfl,_,rfl,p,rfl,hl,fun l H1 s1 hn dg=>?_⟩;refine ⟨_,rfl,_,rfl,l,_,rfl,ay.of dg,fun m hm=>?_⟩;rw [Zu9] at *;have s2:=Zk (o:=.lst ((ZF p).dropLast.map V.str)) hm;refine ⟨v,S,m,(ZF p).dropLast,rfl,ZB.mono _ _ _ _ (s1.trans s2) hS,Zb,?_,fun n h=>?_,?_⟩
 .rw [List.length_dropLast]
  have:=ZhM p
  omega
 .have:=ZhL p n (List.dropLast_subset _ h)
  omega
 .unfold wg at q
  cases hw:nK S (ZF p).dropLast [0] with
  | error r=>
   rw [hw] at q;exact fun H' s'=>q H' (s1.trans (s2.trans s'))
  | ok ps=>
   rw [hw] at q;dsimp only at q;intro v2 H2 s3 ⟨D,e,hD⟩;subst e;have bO:=(FW hw (by decide)).1;have sA:=s1.trans (s2.trans s3);refine ⟨_,rfl,_,rfl,_,rfl,D,_,_,_,rfl,rfl,ay.of hD,yA ps bO,v,S,_,rfl,ZB.mono _ _ _ _ sA hS,?_⟩;unfold rO
   cases hg:(aa S.ent (ps.getLastD 0)).isSome with
   | true=>
    rw [hg] at q;intro v3 H3 s4 _;exact ⟨_,rfl,q _ _ (sA.trans s4) ⟨D,rfl,s4 _ _ hD⟩⟩
   | false=>
    rw [hg] at q;exact fun H' s'=>q H' (sA.trans s')
end KS
namespace L2
open PySem PySem.Spec PyProof.Rows PySem.W
theorem Cq {X:Cx}:gK X (.type "dict") (fun xs H Q=>∃ a kvs,xs=[.ref a]/\Rd H a (.dK kvs)/\∀ p,H p=none->Q (.ref p) (upd H p (.dK kvs))):=by
 intro pins s σ H xs us Q I r h;obtain ⟨a,kvs,rfl,ha,q⟩:=h;obtain ⟨u,rfl,ru⟩:=r.one
 cases (show u=Value.ref a from ru)
 exact Zwe I ha fun p s' hp I'=>⟨.ref p,_,I',rfl,q p hp⟩
end L2
namespace KS
open PySem L2
variable {P:Program} {w:World} {K:Yg} {mg:Str->Option Value} {base:Heap} {g:Gs}
def wu (p:Str):Str:=(ZF p).getLastD ""
theorem Zvw (a b:Str):lq a b≠[]:=by
 unfold lq
 split
 .simp
 .split
  .simp
  .intro h
   have:=congrArg List.length h
   unfold WI at this
   simp at this
theorem Zj2 {p:Str} (h:¬ p="/"):ZF p≠[]:=by
 unfold ZF;rw [if_neg h];exact Zvw _ _
theorem ZqO (ps:List Str) (h:ps≠[]):ji (ps.map V.str) (-1)=some (.str (ps.getLastD "")):=by
 have hl:0 < ps.length:=List.length_pos_iff.mpr h;unfold ji pS;rw [if_neg (by decide),if_pos (by rw [Yb];omega)];show (ps.map V.str)[(-1 + ((ps.map V.str).length:Int)).toNat]?=_;have e:(-1 + ((ps.map V.str).length:Int)).toNat=ps.length - 1:=by rw [Yb];omega
 rw [e,Yo,<- List.getLast?_eq_getElem?,List.getLastD_eq_getLast?]
 cases hh:ps.getLast? with
 | none=>exact absurd (List.getLast?_eq_none_iff.mp hh) h
 | some x=>rfl
def wG (S:aF) (p:Str):Except Rf Int:=if p="/" then .error .dC else match wg S p with
 | .error r=>.error r
 | .ok ps=>match aa S.ent (ps.getLastD 0) with
  | none=>.error .aL
  | some es=>if (aa es (wu p)).isSome then .error .dC else .ok (ps.getLastD 0)
def Ci (S:aF) (d:Int) (name:Str) (n:Int):aF:=match aa S.ent d with
 | none=>S
 | some es=>⟨S.dat,ai S.ent d (ai es name n)⟩
def vM (S:aF) (p kind:Str):Except Rf aF:=if !rJ p then .error .bV else match wG S p with
 | .error r=>.error r
 | .ok d=>match wH S with
  | none=>.error .bK
  | some n=>match aa S.ent d with
   | none=>.error .aL
   | some es=>if 40<=es.length then .error .bK else .ok (Ci (if kind="dir" then ⟨S.dat,ai S.ent n []⟩ else ⟨ai S.dat n [],S.ent⟩) d (wu p) n)
structure nI (S:aF):Prop where
 d:S.dat.length<=1000
 e:S.ent.length<=1000
 en:∀ n es,aa S.ent n=some es->es.length<=1000
theorem lt_size {n:Nat} (h:n<=1001):n < Yj:=by
 have:(1002:Nat)<=Yj:=by decide
 omega
inductive g7 (g:Gs) (vs:List V) (H:Hp) (Q:VK) (E:XK):Prop
 | mk (v:_) (S:_) (d:_) (es:_):vs=[v,.int d]->ZB g H S v->aa S.ent d=some es->gn g rA H (if 40<=es.length then .error .bK else .ok ()) Q E->g7 g vs H Q E
theorem ZiE:Zm ["state","directory"] ["state","directory"] (Zi ZeK):=ZE (by decide +kernel)
theorem ZiN (T:Tx K mg g):ah P w K mg base (aw P w) 1 g.JZ g.KH ["state","directory"] (g7 g):=by
 refine T.KD.aG ZiE fun vs H Q E h=>?_;obtain ⟨v,S,d,es,rfl,⟨p,dx,da,ea,dk,ek,rfl,hS⟩,hg,q⟩:=h;refine ⟨rfl,fun _ _ _ _ hr=>?_⟩;have hu:=u1 hr.units;refine ⟨_,(Zh (ZZ (ZI Bu (Zv Ce (by rfl) T.cR YA (Za (kn hu (Zp (pv 0) rfl) (pv 1) (fun _ _=>rfl)) Zf)) (Zs (v:=.int 40) rfl T.ZgE ⟨_,rfl⟩) (ZU _)) (Zh (ZN T.yH rfl T.yF (Za ZY Zf))) Zy)),?_⟩;obtain ⟨ve,jf,⟨ae,rfl,di⟩⟩:=hS.re.yes gv hg;refine ⟨_,rfl,p,_,dx,_,_,rfl,hS.ob,T.ZM,T.Zr,gs _ _,_,rfl,ea,_,rfl,(by have:=aE.k hS.he (k:=.inl d);rw [jf] at this;exact this),ae,_,rfl,di,_,_,rfl,rfl,_,rfl,?_⟩;rw [tX]
 by_cases h4:40<=es.length
 .rw [if_pos h4] at q;rw [decide_eq_true (show (40:Int)<=(es.length:Int) by omega)];exact ao ⟨a9 1,q _ (af.refl _)⟩
 .rw [if_neg h4] at q;rw [decide_eq_false (show ¬ (40:Int)<=(es.length:Int) by omega)];exact aj (q _ _ (af.refl _) rfl)
inductive oJ (g:Gs) (vs:List V) (H:Hp) (Q:VK) (E:XK):Prop
 | mk (v:_) (S:_) (p:_):vs=[v,.str p]->ZB g H S v->p.length<=1000->gn g ZyR H (wG S p) Q E->oJ g vs H Q E
theorem Zhq:Zm ["state","path","directory"] ["state","path"] (Zi ZjK):=ZE (by decide +kernel)
theorem Zor (T:Tx K mg g):ah P w K mg base (aw P w) 4 g.HP g.IF ["state","path"] (oJ g):=by
 refine T.IZ.aG Zhq fun vs H Q E h=>?_;obtain ⟨v,S,p,rfl,hS,hl,q⟩:=h;refine ⟨rfl,fun _ _ _ _ hr=>?_⟩;have hu:=u1 hr.units
 refine ⟨_,(Zd (ZZ (ZI nJ (pv 1) ZY (ZU _)) (Zh (ZN T.G1 rfl T.GJ (Za ZY Zf))) Zy)
  (Zd (Zt (i:=2) Zhq.nd rfl (Or.inl rfl) (d_ qj (Zl (Zgm T) hr.dn rfl T.ZgR T.KO.kp T.cP .nil Zg (Za (pv 0) (Za (pv 1) Zf))) (rE rG Zo) (fun _ _=>rfl)))
  (Zd (ZZ (fo (nL hu (d_ qj (Zl (CY T) hr.dn rfl T.Dc T.wO.kp T.bu .nil Zg (Za (pv 1) Zf)) (rE rG Zo) (fun _ _=>rfl)) (kn hu (Zp (pv 0) rfl) (pv 2) (fun _ _=>rfl)))) (Zh (ZN T.G1 rfl T.GJ (Za (wm (v5 (pv 1) (vZ vY))) Zf))) Zy)
  (Zh (Zu (pv 2)))))),?_⟩
 refine ⟨_,rfl,rfl,_,rfl,?_⟩
 by_cases h1:p="/"
 .rw [decide_eq_true (show V.str p=V.str "/" by rw [h1])];exact ao ⟨a9 1,q.no (r:=.dC) (by unfold wG;rw [if_pos h1]) _ (af.refl _)⟩
 .rw [decide_eq_false (show ¬ V.str p=V.str "/" by intro z;injection z with z;exact h1 z)];refine aj ?_;unfold wG at q;rw [if_neg h1] at q;refine ⟨_,rfl,_,rfl,v,S,p,rfl,hS,hl,?_⟩
  cases hw:wg S p with
  | error r=>
   rw [hw] at q;exact q
  | ok ps=>
   rw [hw] at q;dsimp only at q
   have A0:ps≠[]/\∃ es,aa S.ent (ps.getLastD 0)=some es:=by
    unfold wg at hw
    cases h2:nK S (ZF p).dropLast [0] with
    | error r=>rw [h2] at hw;cases hw
    | ok qs=>
     rw [h2] at hw;dsimp only at hw
     cases h3:aa S.ent (qs.getLastD 0) with
     | none=>rw [h3] at hw;cases hw
     | some es=>
      rw [h3] at hw
      cases hw
      exact ⟨(FW h2 (by decide)).1,es,h3⟩
   obtain ⟨bO,es,hg⟩:=A0;rw [hg] at q;dsimp only at q;intro v2 H2 s2 ⟨D,e,hD⟩;subst e;refine ⟨_,rfl,D,_,_,_,rfl,rfl,ay.of hD,yA ps bO,?_⟩;refine ⟨_,rfl,p,rfl,hl,fun l H3 s3 hn kU=>?_⟩;have sA:=s2.trans s3;obtain ⟨p',dx,da,ea,dk,ek,rfl,hP⟩:=ZB.mono _ _ _ _ sA hS;obtain ⟨ve,jf,⟨ae,rfl,di⟩⟩:=hP.re.yes gv hg;refine ⟨_,rfl,l,_,_,_,rfl,rfl,ay.of kU,ZqO _ (Zj2 h1),?_⟩;refine ⟨_,rfl,p',_,dx,_,_,rfl,hP.ob,T.ZM,T.Zr,gs _ _,_,rfl,ea,_,rfl,(by have:=aE.k hP.he (k:=.inl (ps.getLastD 0));rw [jf] at this;exact this),ae,_,rfl,aE.k di (k:=.inr (wu p)),_,rfl,?_⟩;rw [BZ,WY]
   cases hb:(aa es (wu p)).isSome with
   | true=>
    rw [hb] at q;refine ao ?_;refine ⟨_,rfl,p,rfl,Zn hl (by decide),?_,?_,?_,a9 1,q _ sA⟩
    .rw [ZS];exact Zn (m:=1000) (by show 0 + p.length<=1000;omega) (by decide)
    .rw [ZS,ZS];exact Zn (m:=1100) (by show 0 + p.length + 9<=1100;omega) (by decide)
    .rw [ZS,ZS];exact Zn (m:=1100) (by show 0 + p.length + 9<=1100;omega) (by decide)
   | false=>
    rw [hb] at q;exact aj ⟨_,rfl,q _ _ sA rfl⟩
inductive fM (g:Gs) (vs:List V) (H:Hp) (Q:VK) (aD:XK):Prop
 | mk (v:_) (S:_) (n:_) (row:_) (r:_):vs=[v,.int n,r]->ZB g H S v->ZH H row r->S.dat.length<=1000->(∀ v' H',af H H'->ZB g H' ⟨ai S.dat n row,S.ent⟩ v'->Q v' H')->fM g vs H Q aD
theorem ZjC:Zm ["state","number","row","data"] ["state","number","row"] (Zi Zle):=ZE (by decide +kernel)
theorem Zj4 (T:Tx K mg g):ah P w K mg base (aw P w) 3 g.GZ g.Il ["state","number","row"] (fM g):=by
 refine T.CF.aG ZjC fun vs H Q E h=>?_;obtain ⟨v,S,n,row,r,rfl,⟨p,dx,da,ea,dk,ek,rfl,hS⟩,cm,hz,q⟩:=h;refine ⟨rfl,fun _ _ _ _ hr=>?_⟩;have hu:=u1 hr.units
 refine ⟨_,(Zd (Zt (i:=3) ZjC.nd rfl (Or.inl rfl) (lC Cq rfl T.BB PyProof.Rows.Boot.«dict» (Za (Zp (pv 0) rfl) Zf)))
  (Zd (nR hu (pv 3) (pv 1) (pv 2) rfl)
  (Zh (Zu (lA T.B8 (CV T) hr.dn rfl T.BO T.bx .nil Zg (Za (pv 3) (Za (Zp (pv 0) rfl) Zf))))))),?_⟩
 refine ⟨_,rfl,p,_,dx,_,_,rfl,hS.ob,T.ZM,T.Z2,mO _ _,da,dk,rfl,.inl hS.hd,fun a ha=>?_⟩;refine ⟨_,rfl,_,rfl,_,rfl,a,_,rfl,ck.k (k:=.inl n) Zb (lt_size (by rw [hS.rd.len];omega)),?_⟩;have s1:af H (upd (upd H a (.dK dk)) a (.dK (putK dk (.inl n) r))):=fun b o e=>by rw [Ze (Zc e ha),Ze (Zc e ha)];exact e
 refine ⟨_,rfl,_,rfl,p,_,dx,_,_,rfl,s1 _ _ hS.ob,T.ZM,T.Zr,gs _ _,fun x jh hx ny ne=>Hy hx ny ne fun p2 qa H' s' oY=>?_⟩;refine q _ H' (s1.trans s') ⟨p2,qa,a,ea,_,_,rfl,oY,s' _ _ Zb,s' _ _ (s1 _ _ hS.he),?_,hS.re.same iw.mono (s1.trans s')⟩;exact (hS.rd.same ZH.mono (s1.trans s')).put gv (ZH.mono _ _ _ _ (s1.trans s') cm)
inductive fL (g:Gs) (vs:List V) (H:Hp) (Q:VK) (aD:XK):Prop
 | mk (v:_) (S:_) (n:_) (es:_) (r:_):vs=[v,.int n,r]->ZB g H S v->iw H es r->S.ent.length<=1000->(∀ v' H',af H H'->ZB g H' ⟨S.dat,ai S.ent n es⟩ v'->Q v' H')->fL g vs H Q aD
theorem ZeW:Zm ["state","number","entries","changed"] ["state","number","entries"] (Zi Zgq):=ZE (by decide +kernel)
theorem Zfc (T:Tx K mg g):ah P w K mg base (aw P w) 3 g.JM g.J9 ["state","number","entries"] (fL g):=by
 refine T.Dk.aG ZeW fun vs H Q E h=>?_;obtain ⟨v,S,n,es,r,rfl,⟨p,dx,da,ea,dk,ek,rfl,hS⟩,cm,hz,q⟩:=h;refine ⟨rfl,fun _ _ _ _ hr=>?_⟩;have hu:=u1 hr.units
 refine ⟨_,(Zd (Zt (i:=3) ZeW.nd rfl (Or.inl rfl) (lC Cq rfl T.BB PyProof.Rows.Boot.«dict» (Za (Zp (pv 0) rfl) Zf)))
  (Zd (nR hu (pv 3) (pv 1) (pv 2) rfl)
  (Zh (Zu (lA T.B8 (CV T) hr.dn rfl T.BO T.bx .nil Zg (Za (Zp (pv 0) rfl) (Za (pv 3) Zf))))))),?_⟩
 refine ⟨_,rfl,p,_,dx,_,_,rfl,hS.ob,T.ZM,T.Zr,gs _ _,ea,ek,rfl,.inl hS.he,fun a ha=>?_⟩;refine ⟨_,rfl,_,rfl,_,rfl,a,_,rfl,ck.k (k:=.inl n) Zb (lt_size (by rw [hS.re.len];omega)),?_⟩;have s1:af H (upd (upd H a (.dK ek)) a (.dK (putK ek (.inl n) r))):=fun b o e=>by rw [Ze (Zc e ha),Ze (Zc e ha)];exact e
 refine ⟨_,rfl,p,_,dx,_,_,rfl,s1 _ _ hS.ob,T.ZM,T.Z2,mO _ _,_,rfl,fun x jh hx ny ne=>Hy hx ny ne fun p2 qa H' s' oY=>?_⟩;refine q _ H' (s1.trans s') ⟨p2,qa,da,a,_,_,rfl,oY,s' _ _ (s1 _ _ hS.hd),s' _ _ Zb,hS.rd.same ZH.mono (s1.trans s'),?_⟩;exact (hS.re.same iw.mono (s1.trans s')).put gv (iw.mono _ _ _ _ (s1.trans s') cm)
inductive cx (g:Gs) (vs:List V) (H:Hp) (Q:VK) (aD:XK):Prop
 | mk (v:_) (S:_) (d:_) (name:_) (n:_) (es:_):vs=[v,.int d,.str name,.int n]->ZB g H S v->nI S->aa S.ent d=some es->(∀ v' H',af H H'->ZB g H' (Ci S d name n) v'->Q v' H')->cx g vs H Q aD
theorem Zhl:Zm ["state","directory","name","number","entries"] ["state","directory","name","number"] (Zi ZjE):=ZE (by decide +kernel)
theorem Zoo (T:Tx K mg g):ah P w K mg base (aw P w) 4 g.Hr g.JN ["state","directory","name","number"] (cx g):=by
 refine T.Ja.aG Zhl fun vs H Q E h=>?_;obtain ⟨v,S,d,name,n,es,rfl,nC,sm,hg,q⟩:=h;refine ⟨rfl,fun _ _ _ _ hr=>?_⟩;obtain ⟨p,dx,da,ea,dk,ek,rfl,hS⟩:=id nC;have hu:=u1 hr.units
 refine ⟨_,(Zd (Zt (i:=4) Zhl.nd rfl (Or.inl rfl) (lC Cq rfl T.BB PyProof.Rows.Boot.«dict» (Za (kn hu (Zp (pv 0) rfl) (pv 1) (fun _ _=>rfl)) Zf)))
  (Zd (nR hu (pv 4) (pv 2) (pv 3) rfl)
  (Zh (Zu (Zl (Zfc T) hr.dn rfl T.ZgC T.Dk.kp T.cC .nil Zg (Za (pv 0) (Za (pv 1) (Za (pv 4) Zf)))))))),?_⟩
 obtain ⟨ve,jf,⟨ae,rfl,di⟩⟩:=hS.re.yes gv hg;refine ⟨_,rfl,p,_,dx,_,_,rfl,hS.ob,T.ZM,T.Zr,gs _ _,_,rfl,ea,_,rfl,(by have:=aE.k hS.he (k:=.inl d);rw [jf] at this;exact this),ae,_,rfl,.inl di,fun a ha=>?_⟩;refine ⟨_,rfl,_,rfl,_,rfl,a,_,rfl,ck.k (k:=.inr name) Zb (lt_size (by rw [tX];exact Nat.le_succ_of_le (sm.en _ _ hg))),?_⟩;rw [Zsu];have s1:af H (upd (upd H a (.dK (d0 es))) a (.dK (d0 (ai es name n)))):=fun b o e=>by rw [Ze (Zc e ha),Ze (Zc e ha)];exact e
 refine ⟨_,rfl,_,rfl,_,rfl,_,S,d,ai es name n,_,rfl,ZB.mono _ _ _ _ s1 nC,⟨a,rfl,Zb⟩,sm.e,fun v' H' s' h'=>q v' H' (s1.trans s') ?_⟩;unfold Ci;rw [hg];exact h'
section
variable {κ α:Type} [DecidableEq κ]
theorem Zsr (k j:κ) (y:α):∀ xs:List (κ×α),aa (xs.map fun p=>if p.1=k then (p.1,y) else p) j=(aa xs j).map fun x=>if j=k then y else x
 | []=>rfl
 | p::r=>by
  rw [Yx]
  by_cases z:p.1=j
  .rw [Z7 z,Xm]
   by_cases w:p.1=k
   .rw [if_pos w,if_pos (z.symm.trans w)];exact Z7 (p:=(p.1,y)) z
   .rw [if_neg w,if_neg (fun q=>w (z.trans q))];exact Z7 z
  .rw [js z];rw [<- Zsr k j y r]
   by_cases w:p.1=k
   .rw [if_pos w];exact js (p:=(p.1,y)) z
   .rw [if_neg w];exact js z
theorem Zqz (k j:κ) (y:α):∀ xs:List (κ×α),aa xs k=none->aa (xs++[(k,y)]) j=if j=k then some y else aa xs j
 | [],_=>by
  by_cases z:j=k
  .rw [if_pos z];exact Z7 (p:=(k,y)) z.symm
  .rw [if_neg z];exact js (p:=(k,y)) (fun q=>z q.symm)
 | p::r,h=>by
  by_cases w:p.1=k
  .rw [Z7 w] at h;cases h
  .rw [js w] at h;rw [List.cons_append]
   by_cases z:p.1=j
   .rw [Z7 z,Z7 z,if_neg (fun q=>w (z.trans q))]
   .rw [js z,js z];exact Zqz k j y r h
theorem ju (xs:List (κ×α)) (k j:κ) (y:α):aa (ai xs k y) j=if j=k then some y else aa xs j:=by
 unfold ai;rw [wt]
 cases h:aa xs k with
 | none=>
  rw [if_neg (by simp)];exact Zqz k j y xs h
 | some x=>
  rw [if_pos (by rfl),Zsr]
  by_cases z:j=k
  .rw [if_pos z,z,h];simp
  .rw [if_neg z]
   cases aa xs j with
   | none=>rfl
   | some u=>simp [z]
end
theorem Zql {S:aF} {n:Int}:∀ {k i:Nat},wI S i k=some n->gw S n=false
 | 0,i,h=>by cases h
 | k + 1,i,h=>by
  unfold wI at h
  split at h
  .exact Zql h
  .rename_i hh
   cases h
   simpa using hh
theorem nI.ent {S:aF} (h:nI S) (hl:S.ent.length<=999) (n:Int):nI ⟨S.dat,ai S.ent n []⟩:=
 ⟨h.d,Yn (ki _ _ _) (YN hl),fun m es hm=>by
  rw [ju] at hm
  by_cases z:m=n
  .rw [if_pos z] at hm;cases hm;exact Yt _
  .rw [if_neg z] at hm;exact h.en m es hm⟩
theorem nI.dat {S:aF} (h:nI S) (hl:S.dat.length<=999) (n:Int) (r:Row):nI ⟨ai S.dat n r,S.ent⟩:=⟨Yn (ki _ _ _) (YN hl),h.e,h.en⟩
inductive oF (g:Gs) (vs:List V) (H:Hp) (Q:VK) (E:XK):Prop
 | mk (v:_) (S:_) (p:_) (k:_):vs=[v,.str p,.str k]->ZB g H S v->nI S->S.dat.length<=999->S.ent.length<=999->p.length<=1000->gn g (ZB g) H (vM S p k) Q E->oF g vs H Q E
theorem yv:Zm ["state","path","kind","directory","number","changed"] ["state","path","kind"] (Zi Zwk):=ZE (by decide +kernel)
theorem Zw3 (T:Tx K mg g):ah P w K mg base (aw P w) 5 g.made g.Fn ["state","path","kind"] (oF g):=by
 refine T.Fh.aG yv fun vs H Q E h=>?_;obtain ⟨v,S,p,k,rfl,hS,sm,qN,xq,hl,q⟩:=h;refine ⟨rfl,fun _ _ _ _ hr=>?_⟩;have hu:=u1 hr.units
 refine ⟨_,(Zd (ZJ (Zl (Zot T) hr.dn rfl T.Zqh T.IX.kp T.iY .nil Zg (Za (pv 1) Zf)))
  (Zd (Zt (i:=3) yv.nd rfl (Or.inl rfl) (Zl (Zor T) hr.dn rfl T.Zqe T.IZ.kp T.iW .nil Zg (Za (pv 0) (Za (pv 1) Zf))))
  (Zd (Zt (i:=4) yv.nd rfl (Or.inl rfl) (Zl (ZhQ T) hr.dn rfl T.Zka T.CJ.kp T.dM .nil Zg (Za (pv 0) Zf)))
  (Zd (ZZ (fo (vV (pv 4))) (Zh (ZN T.yH rfl T.yF (Za ZY Zf))) Zy)
  (Zd (ZJ (Zl (ZiN T) hr.dn rfl T.ZkA T.KD.kp T.eC .nil Zg (Za (pv 0) (Za (pv 3) Zf))))
  (Zd (ZZ (ZI nJ (pv 2) ZY (ZU _)) (Zh (Zt (i:=5) yv.nd rfl (Or.inl rfl) (Zl (Zfc T) hr.dn rfl T.ZgC T.Dk.kp T.cC .nil Zg (Za (pv 0) (Za (pv 4) (Za nV Zf)))))) (Zh (Zt (i:=5) yv.nd rfl (Or.inl rfl) (Zl (Zj4 T) hr.dn rfl T.ZlK T.CF.kp T.eV .nil Zg (Za (pv 0) (Za (pv 4) (Za (ed Zf) Zf)))))))
  (Zh (Zu (Zl (Zoo T) hr.dn rfl T.Zp9 T.Ja.kp T.iT .nil Zg (Za (pv 5) (Za (pv 3) (Za (d_ qj (Zl (CY T) hr.dn rfl T.Dc T.wO.kp T.bu .nil Zg (Za (pv 1) Zf)) (rE rG Zo) (fun _ _=>rfl)) (Za (pv 4) Zf))))))))))))),?_⟩
 refine ⟨_,rfl,p,rfl,hl,?_⟩;unfold vM at q;unfold Cf
 cases hb:rJ p with
 | false=>
  rw [hb] at q;exact fun H' s'=>q H' s'
 | true=>
  rw [hb] at q;rw [if_neg (by decide)] at q;intro v1 H1 s1 _;refine ⟨_,rfl,_,rfl,v,S,p,rfl,ZB.mono _ _ _ _ s1 hS,hl,?_⟩
  cases hf:wG S p with
  | error r=>
   rw [hf] at q;exact fun H' s'=>q H' (s1.trans s')
  | ok d=>
   rw [hf] at q;dsimp only at q;intro v2 H2 s2 e
   cases e
   have sB:=s1.trans s2;have jX:=ZB.mono _ _ _ _ sB hS;refine ⟨_,rfl,v,S,rfl,jX,?_⟩
   cases Eo:wH S with
   | none=>
    rw [Eo] at q;refine ⟨_,rfl,_,rfl,ao ⟨a9 1,q _ sB⟩⟩
   | some n=>
    rw [Eo] at q;dsimp only at q;refine ⟨_,rfl,_,rfl,aj ?_⟩
    have hfe:¬ p="/"/\∃ es,aa S.ent d=some es:=by
     unfold wG at hf
     by_cases h1:p="/"
     .rw [if_pos h1] at hf;cases hf
     .rw [if_neg h1] at hf;refine ⟨h1,?_⟩
      cases hw:wg S p with
      | error r=>rw [hw] at hf;cases hf
      | ok ps=>
       rw [hw] at hf;dsimp only at hf
       cases hg:aa S.ent (ps.getLastD 0) with
       | none=>rw [hg] at hf;cases hf
       | some es=>
        rw [hg] at hf;dsimp only at hf
        split at hf
        .cases hf
        .cases hf;exact ⟨es,hg⟩
    obtain ⟨h1,es,hg⟩:=hfe;rw [hg] at q;dsimp only at q;refine ⟨_,rfl,_,rfl,v,S,d,es,rfl,jX,hg,?_⟩
    by_cases h4:40<=es.length
    .rw [if_pos h4] at q ⊢;exact fun H' s'=>q H' (sB.trans s')
    .rw [if_neg h4] at q ⊢;intro v3 H3 s3 _;have sC:=sB.trans s3;have tw:=ZB.mono _ _ _ _ sC hS
     have nd:d≠n:=fun z=>by
      have:=Zql Eo
      unfold gw at this;rw [<- z,hg] at this
      simp at this
     refine ⟨_,rfl,rfl,_,rfl,?_⟩
     -- eF last step,alike on both K6
     have last:∀ (S':aF) (u:V) (H4:Hp),af H3 H4->ZB g H4 S' u->nI S'->aa S'.ent d=some es->(∀ v' H',af H H'->ZB g H' (Ci S' d (wu p) n) v'->Q v' H')->
       cy [.str p] H4 (fun x H5=>∃ (pp:Addr) (xs:List V) (i:Int) (z:V),x=.ref pp/\V.int (-1)=.int i/\ay K H5 pp xs/\ji xs i=some z/\cx g [u,.int d,z,.int n] H5 Q E) E:=by
      intro S' u H4 s4 AY DL hg4 qq;refine ⟨p,rfl,hl,fun l H5 s5 hn pX=>⟨l,_,_,_,rfl,rfl,ay.of pX,ZqO _ (Zj2 h1),u,S',d,wu p,n,es,rfl,ZB.mono _ _ _ _ s5 AY,DL,hg4,fun v' H' s' h'=>qq v' H' (sC.trans (s4.trans (s5.trans s'))) h'⟩⟩
     by_cases hk:k="dir"
     .rw [decide_eq_true (show V.str k=V.str "dir" by rw [hk])];rw [if_pos hk] at q;refine ao ⟨_,rfl,_,rfl,fun a ha=>?_⟩;have s4:=Zk (o:=.dK []) ha;refine ⟨v,S,n,[],_,rfl,ZB.mono _ _ _ _ s4 tw,⟨a,rfl,Zb⟩,sm.e,fun v4 H4 s5 h4=>?_⟩
      have hge:aa (⟨S.dat,ai S.ent n []⟩:aF).ent d=some es:=by
       show aa (ai S.ent n []) d=_;rw [ju,if_neg nd];exact hg
      obtain ⟨p0,e0,xH,k0⟩:=last _ v4 H4 (s4.trans s5) h4 (sm.ent xq n) hge (fun v' H' s' h'=>q v' H' s' h')
      cases e0
      refine ⟨_,rfl,_,rfl,_,rfl,p,rfl,hl,fun l H5 s6 hn pX=>?_⟩;obtain ⟨pp,xs,i,z,a1,a2,a3,a4,a5⟩:=k0 l H5 s6 hn pX;refine ⟨_,rfl,pp,xs,i,z,a1,a2,a3,a4,?_⟩;exact ⟨_,rfl,a5⟩
     .rw [decide_eq_false (show ¬ V.str k=V.str "dir" by intro z;injection z with z;exact hk z)];rw [if_neg hk] at q;refine aj ⟨_,rfl,_,rfl,Yt _,fun a ha=>?_⟩;have s4:=Zk (o:=.tup []) ha;refine ⟨v,S,n,[],_,rfl,ZB.mono _ _ _ _ s4 tw,⟨a,rfl,Zb⟩,sm.d,fun v4 H4 s5 h4=>?_⟩;obtain ⟨p0,e0,xH,k0⟩:=last _ v4 H4 (s4.trans s5) h4 (sm.dat qN n []) hg (fun v' H' s' h'=>q v' H' s' h')
      cases e0
      refine ⟨_,rfl,_,rfl,_,rfl,p,rfl,hl,fun l H5 s6 hn pX=>?_⟩;obtain ⟨pp,xs,i,z,a1,a2,a3,a4,a5⟩:=k0 l H5 s6 hn pX;refine ⟨_,rfl,pp,xs,i,z,a1,a2,a3,a4,?_⟩;exact ⟨_,rfl,a5⟩
end KS
namespace L2
open PySem PySem.Spec PyProof.Rows PySem.W
theorem B3 {d:Addr} {ob:Obj} {u:HO} {g:TG} {tb:TS} {D:Ends} {σ:St} {H:Hp} (Pv:Nat->St->Hp->Prop) (h0:Pv 0 σ H) (hl:∀ i σ H,i<=(fj u).length->Pv i σ H->H d=some (.bf ob u))
  (hs:∀ i x σ H,(fj u)[i]?=some x->Pv i σ H->g x σ H fun aQ H2=>tb {D with nx:=Pv (i + 1),ct:=Pv (i + 1),bk:=D.nx} aQ H2) (hd:∀ σ H,Pv (fj u).length σ H->D.nx σ H) :
  ∃ W:Nat->Nat->St->Hp->Prop,(∃ m,W 0 m σ H)/\∀ i m σ H,W i m σ H->
   ((uh d ob u).stop i H/\D.nx σ H)∨((uh d ob u).go i H/\∃ N:St->Hp->Prop,(∀ ar H',N ar H'->∃ m',m' < m/\W (i + 1) m' ar H')/\∀ x H',(uh d ob u).ik i H x H'->g x σ H' fun aQ H2=>tb {D with nx:=N,ct:=N,bk:=D.nx} aQ H2):=by
 refine ⟨fun i m σ H=>m=(fj u).length - i/\i<=(fj u).length/\Pv i σ H,⟨(fj u).length,by simp,Yt _,h0⟩,?_⟩
 rintro i m σ H ⟨rfl,hi,p⟩
 have q:=hl i σ H hi p
 by_cases aT:i < (fj u).length
 .refine .inr ⟨⟨q,aT⟩,Pv (i + 1),fun ar H' p'=>⟨(fj u).length - (i + 1),by omega,rfl,aT,p'⟩,fun x H' y=>?_⟩;obtain ⟨e,y⟩:=y;subst e;exact hs i x σ _ y p
 .have e:i=(fj u).length:=by omega
  subst e;exact .inl ⟨⟨q,Yf _⟩,hd σ H p⟩
end L2
namespace KS
open PySem L2
variable {P:Program} {w:World} {K:Yg} {mg:Str->Option Value} {base:Heap} {g:Gs}
abbrev Zq:=List (Row×Row)
def rKey (r:Row):List Key:=r.map XQ
theorem t_ (a b:Row) (h:rKey a=rKey b):a=b:=by
 unfold rKey at h
 induction a generalizing b with
 | nil=>cases b with
  | nil=>rfl
  | cons=>simp at h
 | cons x xs ih=>cases b with
  | nil=>simp at h
  | cons y ys=>
   rw [Yx,Yx,List.cons.injEq] at h;rw [WA h.1,ih ys h.2]
theorem wo (r:Row):(rKey r).map kV=r.map V.int:=by
 unfold rKey;rw [Xu];rfl
def gJ (H:Hp) (pl:Zq) (v:V):Prop:=∃ a kvs,v=.ref a/\H a=some (.dT kvs)/\ZT rKey ZH H pl kvs
theorem gJ.mono:kE gJ:=fun _ _ _ _ s ⟨a,kvs,e,h,d⟩=>⟨a,kvs,e,s _ _ h,d.same ZH.mono s⟩
def kh (count:Int) (pl:Zq):List Int:=(List.range (count - 2).toNat).filterMap fun (i:Nat)=>if (pl.map (·.2)).flatten.contains (2 + (i:Int)) then none else some (2 + (i:Int))
def yh (ns:List Int) (kvs:List (Key×V)):Prop:=∀ n:Int,(aY kvs (.inl n)).isSome=ns.contains n
theorem yh.put {ns:List Int} {kvs:List (Key×V)} (h:yh ns kvs) (m:Int) (v:V):yh (ns++[m]) (putK kvs (.inl m) v):=fun n=>by
 rw [ZrW,List.contains_append,<- h n]
 by_cases z:n=m
 .rw [if_pos (by rw [z]),z];simp
 .rw [if_neg (fun y=>z (WA y))]
  have:[m].contains n=false:=by simp [z]
  rw [this,Wr]
theorem Zsy {κ α ρ:Type} {f:κ->ρ} {R:Hp->α->V->Prop} {H:Hp} {xs:List (κ×α)} {kvs:List (ρ×V)} (h:ZT f R H xs kvs) {i:Nat} {v:V} (hv:(kvs.map (·.2))[i]?=some v):∃ p,xs[i]?=some p/\R H p.2 v:=by
 unfold ZT at h
 induction h generalizing i with
 | nil=>simp at hv
 | @cons p q _ _ a t ih=>
  cases i with
  | zero=>simp at hv;subst hv;exact ⟨q,rfl,a.2⟩
  | succ i=>obtain ⟨p',h1,h2⟩:=ih (i:=i) (by simpa using hv);exact ⟨p',by simpa using h1,h2⟩
theorem ZuW (pl:Zq) {i:Nat} {p:Row×Row} (h:pl[i]?=some p):((pl.take (i + 1)).map (·.2)).flatten=((pl.take i).map (·.2)).flatten++p.2:=by
 have hi:i < pl.length:=(List.getElem?_eq_some_iff.mp h).1;rw [Y9 hi,Yz,Wa];rw [(List.getElem?_eq_some_iff.mp h).2]
 simp
inductive eU (vs:List V) (H:Hp) (Q:VK) (aD:XK):Prop
 | mk (n:Int):vs=[.int n]->Q (.int ((n + 62) / 63)) H->eU vs H Q aD
theorem Zn7:Zm ["length"] ["length"] (Zi ZjO):=ZE (by decide +kernel)
theorem Zou (T:Tx K mg g):ah P w K mg base (aw P w) 1 g.Hk g.Jl ["length"] eU:=by
 refine T.IW.aG Zn7 fun vs H Q E h=>?_;obtain ⟨n,rfl,q⟩:=h;refine ⟨rfl,fun _ _ _ _ hr=>?_⟩;refine ⟨_,(Zh (Zu (ZC pD (ZC pq (ZC gM (pv 0) (Zs (v:=.int 63) rfl T.yK ⟨_,rfl⟩)) Zo) (Zs (v:=.int 63) rfl T.yK ⟨_,rfl⟩)))),?_⟩;refine ⟨_,rfl,_,_,rfl,rfl,_,_,rfl,rfl,_,_,rfl,rfl,⟨by decide,by decide⟩,?_⟩;rw [show n + 63 - 1=n + 62 by omega];exact q
inductive fP (vs:List V) (H:Hp) (Q:VK) (aD:XK):Prop
 | mk (n:_) (v:_) (pl:_):vs=[.int n,v]->gJ H pl v->0<=n->n<=256->pl.length<=1000->(pl.map (·.2)).flatten.length<=100000->(∀ l H',af H H'->H' l=some (.lst ((kh n pl).map V.int))->Q (.ref l) H')->fP vs H Q aD
theorem Dh:Zm ["count","places","used","numbers","number"] ["count","places"] (Zi J7):=ZE (by decide +kernel)
theorem ZlB (T:Tx K mg g):ah P w K mg base (aw P w) 1 g.IE g.J0 ["count","places"] fP:=by
 refine T.Kb.aG Dh fun vs H Q E h=>?_;obtain ⟨n,v,pl,rfl,⟨a,kvs,rfl,ha,hd⟩,vi,A5,df,d9,q⟩:=h;refine ⟨rfl,fun _ _ _ _ hr=>?_⟩;have hu:=u1 hr.units
 refine ⟨_,(Zd (Zt (i:=2) Dh.nd rfl (Or.inr rfl) nV)
  (Zd (yt (gN YE rfl (yr (qg YT XB XA wM (pv 1))) (ZG (i:=3) Dh.nd rfl (Or.inl rfl)) (Zh (gN YE rfl (vW (pv 3)) (ZG (i:=4) Dh.nd rfl (Or.inl rfl)) (Zh (nR hu (pv 2) (pv 4) mM rfl))))))
  (Zh (Zu (mT (own:=["number"]) (fv:=["used"]) (ix:=[2]) (Z8 (sc:=Zi J7) (N:=["count","places","used","numbers","number"]) rfl rfl (by decide +kernel)) rfl (Zub rfl T.rK (Za (Zs (v:=.int 2) rfl T.Zic ⟨_,rfl⟩) (Za (pv 0) Zf))) (fun _ _ _ _ _=>ZG (i:=0) (show (["number","used"]:List Str).Nodup from by decide +kernel) rfl (Or.inl rfl) (Or.inr rfl)) (fun _ _ _ _ _=>Zua (fo (ub hu (pv 0) (pv 1)))) (fun _ _ _ _ _=>(pv 0))))))),?_⟩
 refine fun U hU=>?_;have qM:a≠U:=Zc ha hU;refine ⟨a,.dT kvs,(by rw [Ze qM];exact ha),rfl,?_⟩;refine ⟨_,rfl,.inr (.inr (.inl ⟨rfl,.inr ⟨kvs,(by rw [Ze qM];exact ha)⟩⟩)),a,.dT kvs,rfl,rfl,.inl (by rw [Ze qM];exact ha),rfl,fun r cm=>?_⟩;have sM:a≠r:=Zc (H:=upd H U (.dK [])) (by rw [Ze qM];exact ha) cm;have nUr:U≠r:=Zc (H:=upd H U (.dK [])) Zb cm;have Eh:H r=none:=by rw [Ze nUr.symm] at cm;exact cm
 refine ⟨r,a,.dT kvs,rfl,Zb,(by rw [Ze sM,Ze qM];exact ha),rfl,fun ob=>?_⟩
 refine B3 (d:=a) (ob:=ob) (u:=.dT kvs) (fun i σ H'=>(∃ o3 o4,σ=[some (.int n),some (.ref a),some (.ref U),o3,o4])/\H' a=some (.bf ob (.dT kvs))/\(∃ uk,H' U=some (.dK uk)/\yh ((pl.take i).map (·.2)).flatten uk/\uk.length<=((pl.take i).map (·.2)).flatten.length)/\∀ b o,H b=some o->b≠a->H' b=some o)
  ⟨⟨none,none,rfl⟩,Zb,⟨[],(by rw [Ze qM.symm,Ze nUr];exact Zb),fun m=>rfl,Yt _⟩,fun b o e hb=>by rw [Ze hb,Ze (Zc e Eh),Ze (Zc e hU)];exact e⟩ (fun i σ H' _ h=>h.2.1) (fun i x σ H' hx h=>?_) (fun σ H' h=>?_)
 .obtain ⟨⟨o3,o4,rfl⟩,dZ,⟨uk,qV,nk,kS⟩,kp⟩:=h;obtain ⟨p,hp,t,rfl,ht⟩:=Zsy hd hx;have nta:t≠a:=ZD ht ha (by intro z;cases z);have htU:t≠U:=Zc ht hU
  have aT:((pl.take (i + 1)).map (·.2)).flatten.length<=100000:=by
   have e1:(pl.map (·.2)).flatten=((pl.take (i + 1)).map (·.2)).flatten++((pl.drop (i + 1)).map (·.2)).flatten:=by
    rw [<- Wa,<- Yz,W4]
   rw [e1,Yd] at d9;omega
  rw [ZuW pl hp] at aT ⊢;generalize ((pl.take i).map (·.2)).flatten=F at nk kS aT;refine ⟨_,rfl,t,rfl,⟨_,av.of (kp _ _ ht nta)⟩,?_⟩
  refine BJ (xs:=p.2.map V.int) (fun j σ H'=>(∃ o4,σ=[some (.int n),some (.ref a),some (.ref U),some (.ref t),o4])/\H' a=some (.bf ob (.dT kvs))/\(∃ uk,H' U=some (.dK uk)/\yh (F++p.2.take j) uk/\uk.length<=F.length + j)/\∀ b o,H b=some o->b≠a->H' b=some o)
   ⟨⟨_,rfl⟩,dZ,⟨uk,qV,by rw [List.take_zero,Y0];exact nk,kS⟩,kp⟩ (fun j σ H' _ h=>av.of (h.2.2.2 _ _ ht nta)) (fun j y σ H' hy h=>?_) (fun σ H' h=>?_)
  .obtain ⟨⟨o4,rfl⟩,dZ,⟨uk,qV,nk,kS⟩,kp⟩:=h;rw [Yo] at hy
   cases hm:p.2[j]? with
   | none=>rw [hm] at hy;cases hy
   | some m=>
    rw [hm] at hy
    cases hy
    have hj:j < p.2.length:=(List.getElem?_eq_some_iff.mp hm).1;rw [Yd] at aT;refine ⟨_,rfl,_,rfl,U,_,rfl,ck.k (k:=.inl m) qV ?_,?_⟩
    .have:(100001:Nat)<=Yj:=by decide
     omega
    .refine ⟨⟨_,rfl⟩,(by rw [Ze qM];exact dZ),⟨_,Zb,?_,?_⟩,fun b o e hb=>?_⟩
     .rw [Y9 hj,(List.getElem?_eq_some_iff.mp hm).2,<- List.append_assoc];exact nk.put m _
     .exact Yn (CC _ _ _) (by omega)
     .rw [Ze (Zc e hU)];exact kp _ _ e hb
  .obtain ⟨⟨o4,rfl⟩,dZ,⟨uk,qV,nk,kS⟩,kp⟩:=h;rw [Yb] at nk kS;rw [Xc] at nk;exact ⟨⟨_,_,rfl⟩,dZ,⟨uk,qV,nk,by rw [Yd];exact kS⟩,kp⟩
 .obtain ⟨⟨o3,o4,rfl⟩,dZ,⟨uk,qV,nk,kS⟩,kp⟩:=h;have nz:(fj (.dT kvs)).length=pl.length:=by show (kvs.map (·.2)).length=_;rw [Yb,hd.len]
  rw [nz,Xc] at nk;refine ⟨ob,.dT kvs,dZ,rfl,?_⟩
  have sm:af H (upd H' a (.dT kvs)):=fun b o e=>by
   by_cases z:b=a
   .subst z;rw [Zb,<- e,ha]
   .rw [Ze z];exact kp _ _ e z
  have xO:(upd H' a (.dT kvs)) U=some (.dK uk):=by rw [Ze qM.symm];exact qV
  refine ⟨_,rfl,2,n,rfl,⟨by omega,by omega,by omega,by omega⟩,fun D hD=>?_⟩;refine qk (J:=mX 2 (n - 2).toNat) (n - 2).toNat (fun i=>(if (pl.map (·.2)).flatten.contains (2 + (i:Int)) then none else some (2 + (i:Int))).map V.int) (fun i x=>x=.int (2 + (i:Int))) hD (Zn (m:=256) (by omega) (by decide)) (fun i H3 hi _=>hi) (fun H3 _=>Yf _) (fun i H3 x H4 hi _ hy=>⟨hy.1,hy.2⟩) (fun i x H3 N hi hx s3 k=>?_) fun H3 s3 hH=>?_
  .subst hx;refine ⟨_,rfl,_,rfl,U,_,rfl,aE.k (s3 _ _ xO) (k:=.inl (2 + (i:Int))),_,rfl,?_⟩;have hk:=k H3 (af.refl _);rw [nk (2 + (i:Int))]
   cases hc:(pl.map (·.2)).flatten.contains (2 + (i:Int)) with
   | true=>
    rw [hc] at hk;exact aj hk
   | false=>
    rw [hc] at hk;exact ao ⟨_,rfl,hk⟩
  .refine q D H3 (sm.trans s3) ?_;rw [hH];unfold kh;rw [List.map_filterMap]
end KS
namespace L2
open PySem PySem.Spec PyProof.Rows
section
variable {X:Cx} {pins:List (Addr×Obj)} {σ:St} {H H2:Hp} {s:Shared} {scope:Scope} {own fv:List Str} {ix:List Nat} {cl:List (Str×Addr)}
theorem Zt8 {i₀:Nat} {iD:Str} {fF ze:Pos} {elt target iter:Expr} {ifs:List Expr} {pos:Pos} {wi:TI} {g:TG} {tt:TT} {te:TE} (hN:X.N.Nodup) (Aq:X.N[i₀]?=some iD) (Ak:Loc X.env.scope iD) (S:ql X scope own fv ix) (hc:X.calm=true) (hi:PI X target iter wi)
  (hg:∀ cl fp C s H,PG (fw X scope cl (own++fv) fp C s H) target g) (ht:∀ cl fp C s H,Ds (fw X scope cl (own++fv) fp C s H) ifs tt) (he:∀ cl fp C s H,PE (fw X scope cl (own++fv) fp C s H) elt te)
  (hsw:swapsWith (.ListComp elt [⟨target,iter,ifs,0⟩] scope pos) (some (.Name iD fF)) ze.line X.env=pure true:=by rfl) (Ar:X.fn iD=true∨X.env.scope.names.lookup iD=some .local:=by first | exact .inl rfl | exact .inr rfl | assumption)
  (hs:∀ x,foldedSetIterable iter X.env x=pure x:=by intro _;rfl):PS X (.Assign [.Name iD fF] (.ListComp elt [⟨target,iter,ifs,0⟩] scope pos) ze) (jw (ZxU wi own.length ix g tt te) (k6 i₀)):=by
 try unfold PE at *;try unfold PS at *
 intro pins s σ H D I h;rw [exec_Assign_Name_used _ _ _ _ hsw];refine Ya (wpAny_standAt (Ya ?_));change wpAny _ X.A (do let _ <- comprehension (.ListComp elt [⟨target,iter,ifs,0⟩] scope pos) scope X.env _ (newList []) false (eval iter X.env) (some (assign (.Name iD fF) X.env))) _ _ s;refine Ya (Xa (Q:=fun _ s'=>SP X pins D .next s') ?_ (fun _ s' hq=>Ye (Ye hq)) fun _ _ e=>e);obtain ⟨cl,oz,dh,jy⟩:=ZnK (scope:=scope) (env:=X.env) (S.cells I.ok);refine wpAny_comprehension_free (use:=some (assign (.Name iD fF) X.env)) rfl hs oz S.kind S.names (az (hi pins s σ H _ I h) fun v s1 h1=>az h1 fun AX s2 h2=>?_);obtain ⟨it,fp,tn,J,H2,e,I2,T,pO,f2,hW⟩:=h2;subst e
 have kz:∀ b∈fp,b < s2.heap.objs.size:=fun b hb=>by
  obtain ⟨o,e,_⟩:=T.obj _ _ pO b hb;exact Yl e
 obtain ⟨W,⟨m0,w0⟩,turn⟩:=hW s2.heap.objs.size I2.fresh;have I3:Inv X pins σ (upd H2 s2.heap.objs.size (.lst [])) {s2 with heap:=s2.heap.push {cls:=.type "list",data:=.seq ([]:List Value).toArray}}:=I2.n5 (t':=s2.toks) (its:=[]) .nil (Yt _);refine YG ?_;generalize xA:({s2 with heap:=s2.heap.push {cls:=.type "list",data:=.seq ([]:List Value).toArray}}:Shared)=s3 at I3;have uy:s3.heap.objs.size=s2.heap.objs.size + 1:=by rw [<- xA];exact XX ..
 have DB:∀ b o,s2.heap.get? b=some o->s3.heap.get? b=some o:=fun b o e=>by rw [<- xA];exact Yc _ e
 refine wpAny_newFunctionEnv (fun y hy=>S.kM y hy) (by intro y hy;simp at hy) (fun h4 uB uz=>?_) S.kind;have nZ:∀ b o,s3.heap.get? b=some o->h4.get? b=some o:=fun b o e=>uz.extBut b o (Yy (Yl e)) (Yc _ e);have n9:∀ b∈fp,b < s3.heap.objs.size:=fun b hb=>by rw [uy];exact Nat.lt_succ_of_lt (kz b hb)
 have I4:=ZnJ (t1:=s3.toks + ([]:List (Str×Value)).length) S I3 f2 n9 dh jy uB nZ;have sH:tn 0 h4:=T.keep _ _ _ pO fun b hb o e=>nZ b o (DB b o e);have EV:∀ b∈fp,(upd H2 s2.heap.objs.size (.lst [])) b=none:=fun b hb=>by rw [Ze (Yy (kz b hb))];exact (f2 b hb).1
 have fA:∀ {H':Hp},(∀ b∈fp,H' b=none)->∀ b∈fp,eg (fw X scope cl (own++fv) fp s3.heap.objs.size s3 (upd H2 s2.heap.objs.size (.lst []))) [] H' b:=fun hn b hb=>
  ⟨hn b hb,Yy (n9 b hb),(I4.ok.gy b hb),.inl hb,fun x c e=>(f2 b hb).2.2.2.2.1 x c (dh x c e).1,fun p hp=>(nomatch hp)⟩
 have loop:codeAny (model X.prog X.w) X.A (.compLoop (.ListComp elt [⟨target,iter,ifs,0⟩] scope pos) 0 (.ref it) (.ref s2.heap.objs.size) (Yav scope cl s3.heap.objs.size X.env))
   (compPost (model X.prog X.w) X.A X.xe (some (assign (.Name iD fF) X.env)) (fun _ s'=>SP X pins D .next s') (.ref s2.heap.objs.size) s3.heap.objs.size) {s3 with heap:=h4,toks:=s3.toks + ([]:List (Str×Value)).length}:=by
  refine ZcG (fun n s'=>∃ i ar ys H',Inv (fw X scope cl (own++fv) fp s3.heap.objs.size s3 (upd H2 s2.heap.objs.size (.lst []))) [] ar H' s'/\tn i s'.heap/\(∀ b∈fp,H' b=none)/\W i n ar ys H') ?_ m0 ⟨0,_,[],_,I4,sH,EV,w0⟩
  rintro n s5 ⟨i,pK,ys,H5,I5,pN,tH,w5⟩
  obtain ⟨hD,next⟩:=turn i n pK ys H5 w5;rcases next with ⟨stop,q⟩ | ⟨go,Eb,step⟩
  .refine az (T.done (fw X scope cl (own++fv) fp s3.heap.objs.size s3 (upd H2 s2.heap.objs.size (.lst []))) rfl rfl rfl hc i [] s5 pK H5 (fun _ _=>False) I5 (fA tH) pN stop) fun r s6 ⟨hr,I6⟩=>?_;subst hr;obtain ⟨m6,Em,_⟩:=id I6.loc;have J:Inv X pins σ H5 s6:=ZsA I3 f2 I6 ⟨rfl,fun _ _=>rfl⟩;have F:=I3.fC (H':=H5) (Yf s3.heap.objs.size) I6.free;refine wpAny_assign_Name (Zpy J hN Aq Ak (v:=.ref s2.heap.objs.size) (u:=.ref s2.heap.objs.size) rfl (fun s7 I7 ⟨a,sb,ha⟩=>?_) Ar)
   have naC:s3.heap.objs.size≠a:=fun z=>by
    rcases ha with ha | ha
    .exact F.2.1 (z.trans ha)
    .exact F.2.2.2.2.1 _ _ ha z.symm
   exact ⟨m6,Em.sameBut sb naC,fun h8 hs8=>⟨_,H5,I7.turned (t':=s7.toks) (fun b o hb e=>(hs8.2 b hb).trans e) F.1 F.2.1 F.2.2.2.1 F.2.2.2.2.1 F.2.2.2.2.2,q⟩⟩
  .refine az (T.item (fw X scope cl (own++fv) fp s3.heap.objs.size s3 (upd H2 s2.heap.objs.size (.lst []))) rfl rfl rfl hc i [] s5 pK H5 (fun _ _=>False) I5 (fA tH) pN go) fun r s6 ⟨u,hr,h6⟩=>?_;subst hr;refine az h6 fun _ s7 ⟨x,H7,I7,r7,y7,sG,EU⟩=>?_;have K2:=I7.pinned (fA EU) (T.obj _ _ sG);refine az (hg _ _ _ _ _ _ s7 pK H7 x u _ K2 r7 (step x H7 y7)) fun _ s8 ⟨j5,H8,I8,q8⟩=>?_;refine az (ht _ _ _ _ _ _ s8 j5 H8 _ I8 q8) fun b s9 ⟨H9,I9,q9⟩=>?_
   have again:∀ {ip:Shared} {iC:St} {gO:Hp} {pL:List V},Inv (fw X scope cl (own++fv) fp s3.heap.objs.size s3 (upd H2 s2.heap.objs.size (.lst []))) ([]++vX fp s7.heap) iC gO ip->(∃ m',m' < n/\W (i + 1) m' iC pL gO)->
     ∃ m,m < n/\∃ i ar ys H',Inv (fw X scope cl (own++fv) fp s3.heap.objs.size s3 (upd H2 s2.heap.objs.size (.lst []))) [] ar H' ip/\tn i ip.heap/\(∀ b∈fp,H' b=none)/\W i m ar ys H':=fun {ip iC gO pL} nX ⟨m',hm,DA⟩=>by
    refine ⟨m',hm,i + 1,iC,pL,gO,nX.cw,T.keep _ _ _ sG fun b hb o e=>(nX.pin (b,o) (YK _ (YK _ (wL hb e)))).1,fun b hb=>?_,DA⟩;obtain ⟨o,e,d⟩:=T.obj _ _ sG b hb;exact (nX.pin (b,o) (YK _ (YK _ (wL hb e)))).2.1
   cases b with
   | false=>
    rw [if_neg (by decide)] at q9;rw [if_neg (by decide)];exact again I9 q9
   | true=>
    rw [if_pos rfl] at q9;rw [if_pos rfl];refine az (he _ _ _ _ _ _ s9 j5 H9 _ I9 q9) fun u9 ip ⟨v9,gO,nX,sL,uI,DW⟩=>?_;refine az (pI (X:=fw X scope cl (own++fv) fp s3.heap.objs.size s3 (upd H2 s2.heap.objs.size (.lst []))) _ ip j5 gO (.ref s2.heap.objs.size) [v9] (.ref s2.heap.objs.size) [u9] (fun _ y0=>y0=upd gO s2.heap.objs.size (.lst (ys++[v9]))) nX rfl (.cons sL .nil) ⟨_,ys,v9,rfl,rfl,uI,Eb,rfl⟩) fun _ s11 ⟨_,y0,K3,_,DV⟩=>?_;subst DV;exact again K3 DW
 exact codeAny_compStart_list loop (T.self _ _ _ _ _ sH loop)
end
end L2
namespace L2
open PySem PySem.Spec PyProof.Rows PySem.W
section
variable {X:Cx} {o e:Expr} {es:List Expr} {to:TE} {t:TA} {name:Str} {apos a8:Pos} {T id:String} {r:V->List V->Hp->VK->Prop} {K:Frag}
theorem Zyc (hK:X.K=K) (pa:PlainAttrs T) (slot:Slot T name id) (xw:typeOf (.builtin id)=pure (.type "method_descriptor")) (hm:pJ X id r) (ho:PE X o to) (ha:PA X (e::es) t)
  (jD:Yaa o name X.env (eval o X.env)=eval o X.env:=by rfl)
  (uE:((Wx a8 (YF (e::es) X.env)).all (fun x=>!x.1) && (backToKw a8 (keywordEach [] X.env)).all (fun x=>x.1.isSome) && decide ((e::es).length + ([]:List Keyword).length + (if ([]:List Keyword).isEmpty then 0 else 1) < 30))=true:=by rfl)
  (jB:(apos.endLine == a8.line)=true:=by rfl) (hs:YF (e::es) X.env=(false,eval e X.env)::YF es X.env:=by rfl) (fG:(Wx a8 (YF es X.env)).any (·.1)=false:=by rfl) :
  PE X (.Call (.Attribute o name apos) (e::es) [] a8) (DK K T r to t):=by
 subst hK;exact kc pa slot xw hm ho ha jD uE jB hs fG
end
end L2
namespace KS
open PySem L2
variable {P:Program} {w:World} {K:Yg} {mg:Str->Option Value} {base:Heap} {g:Gs}
def tV (c:Nat):Nat:=(YU k9 ⟨#[c]⟩ 0 k9.length 1).headD 0
def Z1 (t:Str):Row:=((List.range t.cps.size).map fun i=>(tV (t.cps.getD i 0):Int) + 1)++List.replicate (8 - t.cps.size) 0
def t8 (p:Str×Int):Row:=Z1 p.1++[p.2]
def ud (es:aO):Row:=((d3 es).map t8).flatten
theorem yG {t:Str} (h:Z4 t=true):1<=t.cps.size/\t.cps.size<=8/\∀ i,i < t.cps.size->wd (t.cps.getD i 0)=true:=by
 unfold Z4 at h
 split at h
 .cases h
 .rename_i hh
  have e:t.length=t.cps.size:=rfl;refine ⟨?_,?_,fun i hi=>?_⟩
  .rw [<- e];exact Nat.not_lt.mp fun z=>hh (.inl z)
  .rw [<- e];exact Nat.not_lt.mp fun z=>hh (.inr (.inl z))
  .exact List.all_eq_true.mp h i (List.mem_range.mpr hi)
theorem JD {t:Str} (h:t.cps.size<=8):(Z1 t).length=8:=by
 unfold Z1;rw [Yd,Yb,Xh,YC];omega
theorem ZwR {c:Nat} (h:wd c=true):∃ rest,YU k9 ⟨#[c]⟩ 0 k9.length 1=tV c::rest:=by
 unfold wd at h;unfold tV
 cases e:YU k9 ⟨#[c]⟩ 0 k9.length 1 with
 | nil=>rw [e] at h;cases h
 | cons i r=>exact ⟨r,rfl⟩
inductive eM (vs:List V) (H:Hp) (Q:VK) (aD:XK):Prop
 | mk (t:_):vs=[.str t]->Z4 t=true->(∀ v H',af H H'->ZH H' (Z1 t) v->Q v H')->eM vs H Q aD
theorem Zhn:Zm ["name","codes"] ["name"] (Zi JW):=ZE (by decide +kernel)
theorem ZhP (T:Tx K mg g):ah P w K mg base (aw P w) 1 g.HA g.IM ["name"] eM:=by
 refine T.CK.aG Zhn fun vs H Q E h=>?_;obtain ⟨t,rfl,hb,q⟩:=h;refine ⟨rfl,fun _ _ _ _ hr=>?_⟩;obtain ⟨n1,n8,hsg⟩:=yG hb
 refine ⟨_,(Zd (Zt8 (i₀:=1) Zhn.nd rfl (Or.inl rfl) (own:=["sign"]) (fv:=[]) (ix:=[]) (Z8 (sc:=Zi JW) (N:=["name","codes"]) rfl rfl (by decide +kernel)) rfl (Zwl (pv 0)) (fun _ _ _ _ _=>ZG (i:=0) (show (["sign"]:List Str).Nodup from by decide +kernel) rfl (Or.inl rfl) (Or.inr rfl)) (fun _ _ _ _ _=>mU) (fun _ _ _ _ _=>(ZC gM (Zyc (K:=K) rfl WV PySem.F.slot_str_index PySem.F.type_str_index Zur (Zs (v:=.str "ABCDEFGHIJKLMNOPQRSTUVWXYZabcdefghijklmnopqrstuvwxyz0123456789._-") rfl T.C8 ⟨_,rfl⟩) (Za (pv 0) Zf)) Zo)))
  (Zh (Zu (ZC jv (lC CP rfl T.BS PyProof.Rows.Boot.«tuple» (Za (pv 1) Zf)) (ZC yp (ed (Za Zo Zf)) (ZC pq (Zs (v:=.int 8) rfl T.Dl ⟨_,rfl⟩) (Zv Zw (by rfl) T.cR YA (Za (pv 1) Zf)))))))),?_⟩
 refine ⟨_,rfl,_,rfl,fun D hD=>?_⟩;refine qk (J:=Dw t) t.cps.size (fun i=>some (V.int ((tV (t.cps.getD i 0):Int) + 1))) (fun i x=>i < t.cps.size/\x=.str ⟨#[t.cps.getD i 0]⟩) hD (Zn n8 (by decide)) (fun i H' hi _=>hi) (fun H' _=>rfl) (fun i H' x H2 hi _ hy=>?_) (fun i x H' N hi hx _ k=>?_) fun H' s' hH=>?_
 .obtain ⟨e,c,hc,e2⟩:=hy;refine ⟨e,hi,?_⟩;rw [e2,show t.cps.getD i 0=c by rw [Array.getD_eq_getD_getElem?,hc];rfl]
 .obtain ⟨hi,rfl⟩:=hx;obtain ⟨rest,ho⟩:=ZwR (hsg i hi);refine ao (B:=N none H') ?_;exact ⟨rfl,_,rfl,_,_,_,rest,rfl,rfl,ho,_,_,rfl,rfl,k _ (af.refl _)⟩
 .have dh:((List.range t.cps.size).filterMap fun i=>some (V.int ((tV (t.cps.getD i 0):Int) + 1)))=((List.range t.cps.size).map fun i=>(tV (t.cps.getD i 0):Int) + 1).map V.int:=by
   rw [WW,Xu];rfl
  rw [dh] at hH;generalize xN:((List.range t.cps.size).map fun i=>(tV (t.cps.getD i 0):Int) + 1)=cs at hH;have oh:cs.length=t.cps.size:=by rw [<- xN,Yb,Xh]
  refine ⟨_,rfl,D,_,rfl,.inl ⟨ay.of hH,fun a ha=>?_⟩⟩;have s1:=Zk (o:=.tup (cs.map V.int)) ha;refine ⟨a9 1,fun b hb=>?_⟩;have s2:=Zk (o:=.tup [.int 0]) hb;refine ⟨_,rfl,D,_,rfl,.inl (ay.of (s2 _ _ (s1 _ _ hH))),_,_,rfl,rfl,b,_,_,rfl,rfl,Zb,by simp,?_,?_,?_,fun c H2 s3 hc=>?_⟩
  .rw [Yb,oh];omega
  .rw [Yb,oh];omega
  .rw [Yb,oh];show 1 * _<=_;exact Zn (m:=8) (by omega) (by decide)
  rw [wz] at hc;have e8:((8:Int) - ((cs.map V.int).length:Int)).toNat=8 - t.cps.size:=by rw [Yb,oh];omega
  rw [e8] at hc;refine ⟨a,c,_,_,rfl,rfl,av.of (s3 _ _ (s2 _ _ Zb)),av.of hc,fun _=>hc,fun _ _=>s3 _ _ (s2 _ _ Zb),?_,fun d H3 s4 hd=>?_⟩
  .rw [Yb,YC,oh];exact Zn (m:=8) (by omega) (by decide)
  refine q _ H3 (s'.trans (s1.trans (s2.trans (s3.trans s4)))) ⟨d,rfl,?_⟩;rw [hd];unfold Z1;rw [xN,Yz,XW]
theorem GX (es:aO):∀ p∈d3 es,p∈es:=by
 intro p hp;unfold d3 at hp
 split at hp
 .exact hp
 .rename_i h2
  obtain ⟨i,hi,rfl⟩:=List.mem_map.mp hp;have low:=wR (fun i j=>mP (es.getD i (Str.empty,0)) (es.getD j (Str.empty,0))) (wF (n:=es.length) (by omega));have kX:i < es.length:=low.lt i (by simpa using hi);rw [Yi,Yk kX];exact List.getElem_mem kX
theorem ZuX {α β:Type} (f:α->List β) (xs:List α) {i:Nat} {p:α} (h:xs[i]?=some p):((xs.take (i + 1)).map f).flatten=((xs.take i).map f).flatten++f p:=by
 have hi:i < xs.length:=(List.getElem?_eq_some_iff.mp h).1;rw [Y9 hi,Yz,Wa,(List.getElem?_eq_some_iff.mp h).2]
 simp
def BG (es:aO):Prop:=∀ p∈es,Z4 p.1=true
theorem Gi (es:aO) (h:BG es):∀ l:aO,(∀ p∈l,p∈es)->((l.map t8).flatten).length=9 * l.length
 | [],_=>rfl
 | p::l,hl=>by
  rw [Yx,XJ,Yd,Gi es h l fun q hq=>hl q (Yp _ hq),Yv];unfold t8;rw [Yd,JD (yG (h p (hl p Yw))).2.1];show 8 + 1 + _=_;omega
inductive jN (vs:List V) (H:Hp) (Q:VK) (aD:XK):Prop
 | mk (v:_) (es:_):vs=[v]->iw H es v->es.length < 64->BG es->(∀ u H',af H H'->ZH H' (ud es) u->Q u H')->jN vs H Q aD
theorem yR:Zm ["entries","row","name","number"] ["entries"] (Zi Zhz):=ZE (by decide +kernel)
theorem ZmD (T:Tx K mg g):ah P w K mg base (aw P w) 2 g.HY g.Jx ["entries"] jN:=by
 refine T.JR.aG yR fun vs H Q E h=>?_;obtain ⟨v,es,rfl,⟨a,rfl,ha⟩,hz,iq,q⟩:=h;refine ⟨rfl,fun _ _ _ _ hr=>?_⟩
 refine ⟨_,(Zd (Zt (i:=1) yR.nd rfl (Or.inl rfl) (ed Zf))
  (Zd (gN YE rfl (rL (Zv Zki (by rfl) T.wC PyProof.Rows.Boot.«sorted» (Za (qg YT YaL YaK GL (pv 0)) Zf))) (Bz rfl (rN (ZG (i:=2) yR.nd rfl (Or.inl rfl)) (rN (ZG (i:=3) yR.nd rfl (Or.inl rfl)) BH))) (Zh (Zt (i:=1) yR.nd rfl (Or.inl rfl) (ZC jv (ZC jv (pv 1) (Zl (ZhP T) hr.dn rfl T.Zj9 T.CK.kp T.dJ .nil Zg (Za (pv 2) Zf))) (ed (Za (pv 3) Zf))))))
  (Zh (Zu (pv 1))))),?_⟩
 refine ⟨Yt _,fun r cm=>?_⟩;have s1:=Zk (o:=.tup []) cm;refine ⟨_,rfl,.inr (.inr (.inl ⟨rfl,.inl ⟨_,s1 _ _ ha⟩⟩)),a,_,rfl,rfl,.inl (s1 _ _ ha),rfl,fun p hp=>?_⟩;have s2:=Zk (o:=vQ p a) hp;refine ⟨p,a,es,rfl,Zb,.inl (s2 _ _ (s1 _ _ ha)),hz,fun l as H1 s3 hl dg hlen hle gf=>?_⟩;have sA:=s1.trans (s2.trans s3);refine ⟨l,rfl,⟨_,ay.of dg⟩,?_⟩;have xy:(d3 es).length<=64:=by rw [<- hlen];omega
 refine B2 (xs:=as.map V.ref) (fun i σ H'=>∃ t o2 o3,σ=[some (.ref a),some (.ref t),o2,o3]/\af H1 H'/\H' t=some (.tup ((((d3 es).take i).map t8).flatten.map V.int))) ⟨r,none,none,rfl,af.refl _,s3 _ _ (s2 _ _ Zb)⟩ (fun i σ H' _ h=>?_) (fun i x σ H' hx h=>?_) (fun σ H' h=>?_)
 .obtain ⟨t,o2,o3,rfl,sm,ht⟩:=h;exact ay.of (sm _ _ dg)
 .obtain ⟨t,o2,o3,rfl,sm,ht⟩:=h;rw [Yo] at hx
  cases hb:as[i]? with
  | none=>rw [hb] at hx;cases hx
  | some b=>
   rw [hb] at hx
   cases hx
   have hi:i < (d3 es).length:=by rw [<- hlen];exact (List.getElem?_eq_some_iff.mp hb).1
   obtain ⟨pr,Ej⟩:∃ pr,(d3 es)[i]?=some pr:=⟨_,Yk hi⟩
   have hbt:=sm _ _ (gf i b pr hb Ej);have iH:pr∈es:=GX es pr (Ys Ej);have d9:=Gi es iq ((d3 es).take i) fun q hq=>GX es q (Xn hq);have xx:((d3 es).take i).length<=64:=by rw [YH];omega
   rw [ZuX t8 _ Ej];generalize (((d3 es).take i).map t8).flatten=F at ht d9;refine ⟨b,_,rfl,av.of hbt,rfl,_,_,rfl,_,_,rfl,rfl,?_⟩;refine ⟨_,rfl,_,rfl,pr.1,rfl,iq pr iH,fun u H2 s4 ⟨c,e,hc⟩=>?_⟩;subst e;have pW:(Z1 pr.1).length=8:=JD (yG (iq pr iH)).2.1;refine ⟨t,c,_,_,rfl,rfl,av.of (s4 _ _ ht),av.of hc,fun _=>hc,fun _ _=>s4 _ _ ht,?_,fun d H3 s5 hd=>?_⟩
   .rw [Yb,Yb,pW,d9];exact Zn (m:=1000) (by omega) (by decide)
   refine ⟨_,rfl,a9 1,fun e he=>?_⟩;have s6:=Zk (o:=.tup [.int pr.2]) he;refine ⟨d,e,_,_,rfl,rfl,av.of (s6 _ _ hd),av.of Zb,fun _=>Zb,(fun h=>nomatch h),?_,fun f H4 s7 hf=>?_⟩
   .rw [Yd,Yb,Yb,pW,d9];exact Zn (m:=1000) (by show 9 * _ + 8 + 1<=1000;omega) (by decide)
   refine ⟨f,_,_,rfl,sm.trans (s4.trans (s5.trans (s6.trans s7))),?_⟩;rw [hf];unfold t8;rw [Yz,Yz,List.append_assoc];rfl
 .obtain ⟨t,o2,o3,rfl,sm,ht⟩:=h;rw [Yb,hlen,Xc] at ht;exact ⟨_,rfl,q _ _ (sA.trans sm) ⟨t,rfl,ht⟩⟩
structure cp where
 free:List Int
 older:Zq
 places:Zq
def ja (f o p:V):List (Str×V):=aq "places" p (aq "older" o (aq "free" f []))
theorem cf1:¬ (("free":Str)="places"):=by decide +kernel
theorem cf2:¬ (("free":Str)="older"):=by decide +kernel
theorem cf3:¬ (("older":Str)="places"):=by decide +kernel
theorem E5 (f o p:V):(ja f o p).lookup ("free":Str)=some f:=by unfold ja;rw [Zj,if_neg cf1,Zj,if_neg cf2,Zj,if_pos rfl]
theorem ZyG (f o p:V):(ja f o p).lookup ("older":Str)=some o:=by unfold ja;rw [Zj,if_neg cf3,Zj,if_pos rfl]
theorem x6 (f o p:V):(ja f o p).lookup ("places":Str)=some p:=by unfold ja;rw [Zj,if_pos rfl]
theorem Fl (f o p:V) {m:Str} (h1:¬ m="places") (h2:¬ m="older") (h3:¬ m="free"):(ja f o p).lookup m=none:=by
 unfold ja;rw [Zj,if_neg h1,Zj,if_neg h2,Zj,if_neg h3];rfl
theorem Fj (f o p:V):ja f o p=([("free",f),("older",o),("places",p)]:List (Str×V)):=by
 have e1:aq "older" o [(("free":Str),f)]=([("free",f),("older",o)]:List (Str×V)):=by
  show (if ("free":Str)="older" then [(("free":Str),o)] else (("free":Str),f)::aq "older" o [])=_;rw [if_neg cf2];rfl
 have e2:aq "places" p [(("free":Str),f),(("older":Str),o)]=([("free",f),("older",o),("places",p)]:List (Str×V)):=by
  show (if ("free":Str)="places" then (("free":Str),p)::[(("older":Str),o)] else (("free":Str),f)::(if ("older":Str)="places" then [(("older":Str),p)] else (("older":Str),o)::aq "places" p []))=_;rw [if_neg cf1,if_neg cf3];rfl
 show aq "places" p (aq "older" o [(("free":Str),f)])=_;rw [e1,e2]
theorem Zxv (f o p f':V):aq "free" f' (ja f o p)=ja f' o p:=by
 rw [Fj,Fj];show (if ("free":Str)="free" then (("free":Str),f')::[(("older":Str),o),(("places":Str),p)] else _)=_;rw [if_pos rfl]
structure Zzt (g:Gs) (H:Hp) (c pl:Addr) (C:cp) (dx f o:Addr) (ko kp:List (List Key×V)):Prop where
 ob:H c=some (.ins g.aI dx (ja (.ref f) (.ref o) (.ref pl)))
 hf:H f=some (.lst (C.free.map V.int))
 ho:H o=some (.dT ko)
 hp:H pl=some (.dT kp)
 ro:ZT rKey ZH H C.older ko
 rp:ZT rKey ZH H C.places kp
 ne:o≠pl
def kY (g:Gs) (H:Hp) (c pl:Addr) (C:cp):Prop:=∃ dx f o ko kp,Zzt g H c pl C dx f o ko kp
theorem kY.same {g:Gs} {H H':Hp} {c pl:Addr} {C:cp} (s:af H H'):kY g H c pl C->kY g H' c pl C
 | ⟨dx,f,o,ko,kp,h⟩=>⟨dx,f,o,ko,kp,s _ _ h.ob,s _ _ h.hf,s _ _ h.ho,s _ _ h.hp,h.ro.same ZH.mono s,h.rp.same ZH.mono s,h.ne⟩
def aJ (a b:Addr) (H H':Hp):Prop:=∀ d o,H d=some o->d≠a->d≠b->H' d=some o
theorem aJ.refl {a b:Addr} {H:Hp}:aJ a b H H:=fun _ _ e _ _=>e
theorem aJ.of {a b:Addr} {H H':Hp} (s:af H H'):aJ a b H H':=fun _ _ e _ _=>s _ _ e
theorem aJ.trans {a b:Addr} {H H' iB:Hp} (s:aJ a b H H') (t:aJ a b H' iB):aJ a b H iB:=fun d o e h1 h2=>t _ _ (s _ _ e h1 h2) h1 h2
theorem aJ.vH {c pl:Addr} {H0 H H':Hp} (s0:af H0 H) (h1:H0 c=none) (h2:H0 pl=none) (s:aJ c pl H H'):af H0 H':=fun d o e=>s _ _ (s0 _ _ e) (Zc e h1) (Zc e h2)
structure tL (C:cp):Prop where
 o:∀ p∈C.older,p.2≠[]
 p:∀ p∈C.places,p.2≠[]
def pj (C:cp) (n:Nat):Except Rf (Row×cp):=if C.free.length < n then .error .noRoom else .ok (C.free.take n,{C with free:=C.free.drop n})
def bb (C:cp) (row:Row):Except Rf (Int×cp):=if row=[] then .ok (0,C) else match aa C.places row with
 | some ns=>.ok (ns.headD 0,C)
 | none=>match aa C.older row with
  | some ns=>.ok (ns.headD 0,{C with places:=ai C.places row ns})
  | none=>match pj C ((row.length + 62) / 63) with
   | .error r=>.error r
   | .ok (ns,C')=>.ok (ns.headD 0,{C' with places:=ai C'.places row ns})
theorem yD (xs:List Int) (n:Nat):br (xs.map V.int) none (some (n:Int))=(xs.take n).map V.int:=by
 unfold br;rw [HT.fI,HT.bT,List.drop_zero,Nat.sub_zero,<- Yac,Yb]
 congr 1
 rcases W2 n xs.length with h | h
 .rw [Wo h]
 .rw [XT h,Xc,YW h]
theorem GQ (xs:List Int) (n:Nat):br (xs.map V.int) (some (n:Int)) none=(xs.drop n).map V.int:=by
 unfold br;rw [HT.fI,HT.bT,Yb,<- List.map_drop,<- Yac]
 congr 1
 rcases W2 n xs.length with h | h
 .rw [Wo h,YW (by rw [YB];exact Yf _)]
 .rw [XT h,Wd,WX h,YaI]
inductive hV (g:Gs) (vs:List V) (H:Hp) (Q:VK) (aD:XK):Prop
 | mk (c:_) (dx:_) (f:_) (o:_):vs=[.ref c,f,o]->H c=some (.ins g.aI dx [])->(∀ pl H',H pl=none->(∀ b u,H b=some u->b≠c->H' b=some u)->H' c=some (.ins g.aI dx (ja f o (.ref pl)))->H' pl=some (.dT [])->Q .aH H')->hV g vs H Q aD
theorem ZmA:Zm ["self","free","older"] ["self","free","older"] (Zi ZhI):=ZE (by decide +kernel)
theorem ZmJ (T:Tx K mg g):ah P w K mg base (aw P w) 1 g.HR g.JO ["self","free","older"] (hV g):=by
 refine T.Ziw.aG ZmA fun vs H Q E h=>?_;obtain ⟨c,dx,f,o,rfl,hc,q⟩:=h;refine ⟨rfl,fun _ _ _ _ hr=>?_⟩
 refine ⟨_,(Zd (ee (pv 0) (pv 1) rfl)
  (Zd (ee (pv 0) (pv 2) rfl)
  (Zh (ee (pv 0) FZ rfl)))),?_⟩
 refine ⟨_,rfl,_,rfl,c,g.aI,dx,[],rfl,hc,T.jq,T.yN,(by show 0 < 1000;decide),?_⟩;refine ⟨_,rfl,_,rfl,c,g.aI,dx,_,rfl,Zb,T.jq,T.J3,(by show 1 < 1000;decide),?_⟩;refine fun pl df=>?_;have AS:c≠pl:=Zc Zb df;have zH:H pl=none:=by rw [Ze AS.symm,Ze AS.symm] at df;exact df
 refine ⟨_,rfl,c,g.aI,dx,_,rfl,(by rw [Ze AS];exact Zb),T.jq,T.wV,(by show 2 < 1000;decide),?_⟩;refine q pl _ zH (fun b u e hb=>?_) Zb ?_
 .rw [Ze hb,Ze (Zc e zH),Ze hb,Ze hb];exact e
 .rw [Ze AS.symm];exact Zb
def uP {α:Type} (g:Gs) (R:Hp->α->V->Prop) (H:Hp) (c pl:Addr) (m:Except Rf (α×cp)) (Q:VK) (E:XK):Prop:=match m with
 | .ok (x,C)=>∀ v H',aJ c pl H H'->kY g H' c pl C->R H' x v->Q v H'
 | .error r=>∀ H',aJ c pl H H'->E (.ref (g.xa r)) none H'
inductive oB (g:Gs) (vs:List V) (H:Hp) (Q:VK) (E:XK):Prop
 | mk (c:_) (pl:_) (C:_) (n:Nat):vs=[.ref c,.int n]->kY g H c pl C->C.free.length<=1000->uP g ZH H c pl (pj C n) Q E->oB g vs H Q E
theorem Zgp:Zm ["self","many","taken"] ["self","many"] (Zi ZhH):=ZE (by decide +kernel)
theorem ZmI (T:Tx K mg g):ah P w K mg base (aw P w) 1 g.HS g.JP ["self","many"] (oB g):=by
 refine T.Ziv.aG Zgp fun vs H Q E h=>?_;obtain ⟨c,pl,C,n,rfl,⟨dx,f,o,ko,kp,hC⟩,hz,q⟩:=h;refine ⟨rfl,fun _ _ _ _ hr=>?_⟩
 refine ⟨_,(Zd (ZZ (ZI ma (pv 1) (Zv Zw (by rfl) T.cR YA (Za (Zp (pv 0) rfl) Zf)) (ZU _)) (Zh (ZN T.Zvo rfl T.Zsj (Za ZY Zf))) Zy)
  (Zd (Zt (i:=2) Zgp.nd rfl (Or.inl rfl) (jc FU (Zp (pv 0) rfl) nQ (Z9 (pv 1))))
  (Zd (ee (pv 0) (jc FU (Zp (pv 0) rfl) (Z9 (pv 1)) nQ) rfl)
  (Zh (Zu (lC CP rfl T.BS PyProof.Rows.Boot.«tuple» (Za (pv 2) Zf))))))),?_⟩
 refine ⟨_,rfl,_,rfl,c,_,dx,_,_,rfl,hC.ob,T.jq,T.yN,E5 _ _ _,f,_,rfl,.inl (ay.of hC.hf),_,_,rfl,rfl,_,rfl,?_⟩;rw [Yb];unfold pj at q
 by_cases h1:C.free.length < n
 .rw [if_pos h1] at q;rw [decide_eq_true (show (C.free.length:Int) < (n:Int) by omega)];exact ao ⟨a9 1,q _ aJ.refl⟩
 .rw [if_neg h1] at q;rw [decide_eq_false (show ¬ (C.free.length:Int) < (n:Int) by omega)];refine aj ?_;refine ⟨_,rfl,c,_,dx,_,_,rfl,hC.ob,T.jq,T.yN,E5 _ _ _,_,rfl,_,rfl,f,_,rfl,ay.of hC.hf,fun a ha=>?_⟩;rw [yD] at *;have s1:=Zk (o:=.lst ((C.free.take n).map V.int)) ha;refine ⟨_,rfl,c,_,dx,_,_,rfl,s1 _ _ hC.ob,T.jq,T.yN,E5 _ _ _,_,rfl,_,rfl,f,_,rfl,ay.of (s1 _ _ hC.hf),fun b hb=>?_⟩;rw [GQ] at *;have s2:=Zk (o:=.lst ((C.free.drop n).map V.int)) hb;have sA:=s1.trans s2;have ncb:c≠b:=Zc (s1 _ _ hC.ob) hb;have nca:c≠a:=Zc hC.ob ha;refine ⟨_,rfl,c,_,dx,_,rfl,sA _ _ hC.ob,T.jq,T.yN,(by rw [Fj];show 3 < 1000;decide),?_⟩;rw [Zxv];refine ⟨_,rfl,a,_,rfl,.inl ⟨ay.of (by rw [Ze nca.symm];exact s2 _ _ Zb),fun d hd=>?_⟩⟩
  have gb:∀ x u,H x=some u->x≠c->(upd (upd (upd (upd H a (.lst ((C.free.take n).map V.int))) b (.lst ((C.free.drop n).map V.int))) c (.ins g.aI dx (ja (.ref b) (.ref o) (.ref pl)))) d (.tup ((C.free.take n).map V.int))) x=some u:=fun x u e hx=>by
   have h1:(upd (upd (upd H a (.lst ((C.free.take n).map V.int))) b (.lst ((C.free.drop n).map V.int))) c (.ins g.aI dx (ja (.ref b) (.ref o) (.ref pl)))) x=some u:=by rw [Ze hx];exact sA _ _ e
   exact Zk hd _ _ h1
  have noc:o≠c:=ZD hC.ho hC.ob (by intro z;cases z);have u4:pl≠c:=ZD hC.hp hC.ob (by intro z;cases z);have ncd:c≠d:=Zc (H:=upd (upd (upd H a (.lst ((C.free.take n).map V.int))) b (.lst ((C.free.drop n).map V.int))) c (.ins g.aI dx (ja (.ref b) (.ref o) (.ref pl)))) Zb hd;have nbd:b≠d:=Zc (H:=upd (upd (upd H a (.lst ((C.free.take n).map V.int))) b (.lst ((C.free.drop n).map V.int))) c (.ins g.aI dx (ja (.ref b) (.ref o) (.ref pl)))) (by rw [Ze ncb.symm];exact Zb) hd
  have rows:∀ {xs:Zq} {kv:List (List Key×V)},ZT rKey ZH H xs kv->ZT rKey ZH (upd (upd (upd (upd H a (.lst ((C.free.take n).map V.int))) b (.lst ((C.free.drop n).map V.int))) c (.ins g.aI dx (ja (.ref b) (.ref o) (.ref pl)))) d (.tup ((C.free.take n).map V.int))) xs kv:=by
   intro xs kv hh;unfold ZT at *
   induction hh with
   | nil=>exact .nil
   | cons a1 _ ih=>
    obtain ⟨e1,t,e2,ht⟩:=a1;exact .cons ⟨e1,t,e2,gb _ _ ht (ZD ht hC.ob (by intro z;cases z))⟩ ih
  refine q _ _ (fun x u e h1 _=>gb x u e h1) ⟨dx,b,o,ko,kp,?_,?_,gb _ _ hC.ho noc,gb _ _ hC.hp u4,rows hC.ro,rows hC.rp,hC.ne⟩ ⟨d,rfl,Zb⟩
  .rw [Ze ncd];exact Zb
  .rw [Ze nbd,Ze ncb.symm];exact Zb
theorem ye {H:Hp} {a t:Addr} {kvs:List (List Key×V)} {row:Row} (e:H a=some (.dT kvs)) (ht:H t=some (.tup (row.map V.int))):aE H a (.ref t) (aY kvs (rKey row)):=aE.t e (by rw [wo];exact ht)
theorem Gd {ns:Row} (h:ns≠[]):ji (ns.map V.int) 0=some (.int (ns.headD 0)):=by
 cases ns with
 | nil=>exact absurd rfl h
 | cons n r=>exact v7 (by decide) rfl
theorem nU {κ α:Type} [DecidableEq κ] {k:κ} {x:α}:∀ {xs:List (κ×α)},aa xs k=some x->(k,x)∈xs
 | p::r,h=>by
  by_cases z:p.1=k
  .rw [Z7 z] at h
   cases h
   rw [<- z];exact Yw
  .rw [js z] at h;exact Yp _ (nU h)
theorem len0 (row:Row):decide (V.int ((row.map V.int).length:Int)=V.int 0)=decide (row=[]):=by
 rw [Yb]
 cases row with
 | nil=>rfl
 | cons a r=>
  rw [decide_eq_false (by intro z;injection z with z;rw [Yv] at z;omega),decide_eq_false (by intro z;cases z)]
inductive oq (g:Gs) (vs:List V) (H:Hp) (Q:VK) (E:XK):Prop
 | mk (c:_) (pl:_) (C:_) (row:_) (v:_):vs=[.ref c,v]->ZH H row v->kY g H c pl C->tL C->C.free.length<=1000->C.places.length<=1000->row.length<=100000->uP g ZyR H c pl (bb C row) Q E->oq g vs H Q E
theorem Zog:Zm ["self","row"] ["self","row"] (Zi Zj1):=ZE (by decide +kernel)
theorem ZhX (T:Tx K mg g):ah P w K mg base (aw P w) 2 g.G3 g.IT ["self","row"] (oq g):=by
 refine T.Zkw.aG Zog fun vs H Q E h=>?_;obtain ⟨c,pl,C,row,v,rfl,⟨t,rfl,ht⟩,xU,ok,qN,xq,hz3,q⟩:=h;refine ⟨rfl,fun _ _ _ _ hr=>?_⟩;obtain ⟨dx,f,o,ko,kp,hC⟩:=id xU;have hu:=u1 hr.units
 refine ⟨_,(Zd (ZZ (ZI nJ (Zv Zw (by rfl) T.cR YA (Za (pv 1) Zf)) Zo (ZU _)) (Zh (Zu (Zs (v:=.int 0) rfl T.ZnF ⟨_,rfl⟩))) Zy)
  (Zd (ZZ (fo (ub hu (pv 1) (Zp (pv 0) rfl))) (Zh (nR hu (Zp (pv 0) rfl) (pv 1) (Zsb (fo (nL hu (pv 1) (Zp (pv 0) rfl))) (kn hu (Zp (pv 0) rfl) (pv 1) (fun _ _=>rfl)) (ZQ (pv 0) T.jq T.ZoU (ZmI T) hr.dn T.gH .nil Zg (Za (Zl (Zou T) hr.dn rfl T.Zqi T.IW.kp T.iZ .nil Zg (Za (Zv Zw (by rfl) T.cR YA (Za (pv 1) Zf)) Zf)) Zf))) rfl)) Zy)
  (Zh (Zu (d_ jn (kn hu (Zp (pv 0) rfl) (pv 1) (fun _ _=>rfl)) Zo (fun _ _=>rfl)))))),?_⟩
 refine ⟨_,rfl,t,_,rfl,.inr (av.of ht),rfl,_,rfl,?_⟩;rw [len0];unfold bb at q
 by_cases h0:row=[]
 .rw [if_pos h0] at q;rw [decide_eq_true h0];exact ao (q _ _ aJ.refl xU rfl)
 .rw [if_neg h0] at q;rw [decide_eq_false h0];refine aj ?_;refine ⟨_,rfl,_,rfl,c,_,dx,_,_,rfl,hC.ob,T.jq,T.wV,x6 _ _ _,pl,_,rfl,ye hC.hp ht,_,rfl,?_⟩;have ntc:t≠c:=ZD ht hC.ob (by intro z;cases z);have ntp:t≠pl:=ZD ht hC.hp (by intro z;cases z)
  -- eF end: what Mm at eF row is told
  cases hg:aa C.places row with
  | some ns=>
   rw [hg] at q;obtain ⟨v,hv,⟨t2,rfl,cZ⟩⟩:=hC.rp.yes t_ hg;rw [hv];refine aj ?_;refine ⟨_,rfl,c,_,dx,_,_,rfl,hC.ob,T.jq,T.wV,x6 _ _ _,_,rfl,pl,_,rfl,(by have:=ye hC.hp ht;rw [hv] at this;exact this),t2,_,_,_,rfl,rfl,av.of cZ,Gd (ok.p _ (nU hg)),?_⟩;exact q _ _ aJ.refl xU rfl
  | none=>
   rw [hg] at q;dsimp only at q;rw [hC.rp.no t_ hg];refine ao ?_
   -- Dy ns,and telling its first
   have fin:∀ (C':cp) (ns:Row) (H1:Hp) (u:V),aJ c pl H H1->kY g H1 c pl C'->C'.places=C.places->ZH H1 ns u->ns≠[]->(∀ v H',aJ c pl H H'->kY g H' c pl {C' with places:=ai C'.places row ns}->v=.int (ns.headD 0)->Q v H')->
     ∃ a C0 Bm xW v0,V.ref c=.ref a/\H1 a=some (.ins C0 Bm xW)/\Cls K C0/\d6 K C0 "places"/\xW.lookup ("places":Str)=some v0/\∃ a2 H4,v0=.ref a2/\ck H1 a2 (.ref t) u H4/\
      ∃ a C0 Bm xW v0,V.ref c=.ref a/\H4 a=some (.ins C0 Bm xW)/\Cls K C0/\d6 K C0 "places"/\xW.lookup ("places":Str)=some v0/\∃ a3 v3,v0=.ref a3/\aE H4 a3 (.ref t) (some v3)/\∃ p xs i z,v3=.ref p/\V.int 0=.int i/\av K H4 p xs/\ji xs i=some z/\Q z H4:=by
    intro C' ns H1 u b1 xV ep vd bO qq;obtain ⟨j9,f1,o1,ko1,gb,h1⟩:=id xV;obtain ⟨t2,rfl,cZ⟩:=vd;have eJ:H1 t=some (.tup (row.map V.int)):=b1 _ _ ht ntc ntp;have A8:aa C'.places row=none:=by rw [ep];exact hg
    have u4:c≠pl:=ZD h1.ob h1.hp (by intro z;cases z);have nt2:t2≠pl:=ZD cZ h1.hp (by intro z;cases z);have nfp:f1≠pl:=ZD h1.hf h1.hp (by intro z;cases z);have k4:aJ c pl H1 (upd H1 pl (.dT (putK gb (rKey row) (.ref t2)))):=fun d o e _ h2=>by rw [Ze h2];exact e
    have rows:∀ {xs:Zq} {kv:List (List Key×V)},ZT rKey ZH H1 xs kv->ZT rKey ZH (upd H1 pl (.dT (putK gb (rKey row) (.ref t2)))) xs kv:=by
     intro xs kv hh;unfold ZT at *
     induction hh with
     | nil=>exact .nil
     | cons a1 _ ih=>
      obtain ⟨e1,t',e2,i9⟩:=a1;exact .cons ⟨e1,t',e2,by rw [Ze (ZD i9 h1.hp (by intro z;cases z))];exact i9⟩ ih
    have Bi:kY g (upd H1 pl (.dT (putK gb (rKey row) (.ref t2)))) c pl {C' with places:=ai C'.places row ns}:=⟨j9,f1,o1,ko1,_,by rw [Ze u4];exact h1.ob,by rw [Ze nfp];exact h1.hf,by rw [Ze h1.ne];exact h1.ho,Zb,rows h1.ro,(rows h1.rp).put t_ ⟨t2,rfl,by rw [Ze nt2];exact cZ⟩,h1.ne⟩
    refine ⟨c,_,j9,_,_,rfl,h1.ob,T.jq,T.wV,x6 _ _ _,pl,_,rfl,ck.t (k:=rKey row) h1.hp (by rw [wo];exact eJ) (lt_size (by rw [h1.rp.len,ep];omega)),?_⟩
    refine ⟨c,_,j9,_,_,rfl,(by rw [Ze u4];exact h1.ob),T.jq,T.wV,x6 _ _ _,pl,.ref t2,rfl,(by
     have:=ye (H:=upd H1 pl (.dT (putK gb (rKey row) (.ref t2)))) (a:=pl) (t:=t) (row:=row) Zb (by rw [Ze ntp];exact eJ)
     rw [ZrW,if_pos rfl] at this;exact this),t2,_,_,_,rfl,rfl,av.of (by rw [Ze nt2];exact cZ),Gd bO,?_⟩
    exact qq _ _ (b1.trans k4) Bi rfl
   refine ⟨_,rfl,_,rfl,c,_,dx,_,_,rfl,hC.ob,T.jq,T.J3,ZyG _ _ _,o,_,rfl,ye hC.ho ht,_,rfl,?_⟩
   cases xI:aa C.older row with
   | some ns=>
    rw [xI] at q;obtain ⟨v,hv,qQ⟩:=hC.ro.yes t_ xI;rw [hv];refine ao ?_;refine ⟨_,rfl,c,_,dx,_,_,rfl,hC.ob,T.jq,T.J3,ZyG _ _ _,_,rfl,o,v,rfl,(by have:=ye hC.ho ht;rw [hv] at this;exact this),?_⟩;obtain ⟨a1,C1,j9,ES,v1,e1,e2,e3,e4,e5,a2,H4,e6,e7,a3,C3,rj,ER,v3,e8,e9,xX,E2,E1,r1,r2,r3,r4,r5,r6,r7,r8,r9,sL,DU,DT,DS⟩:=fin C ns H v aJ.refl xU rfl qQ (ok.o _ (nU xI)) (fun v H' b h e=>q v H' b h e);refine ⟨_,rfl,a1,C1,j9,ES,v1,e1,e2,e3,e4,e5,_,rfl,a2,H4,e6,e7,_,rfl,a3,C3,rj,ER,v3,e8,e9,xX,E2,E1,_,rfl,r1,r2,r3,r4,r5,r6,r7,r8,r9,sL,DU,DT,DS⟩
   | none=>
    rw [xI] at q;dsimp only at q;rw [hC.ro.no t_ xI];refine aj ?_;refine ⟨_,rfl,c,dx,_,rfl,hC.ob,Fl _ _ _ (by decide +kernel) (by decide +kernel) (by decide +kernel),_,rfl,t,_,rfl,.inr (av.of ht),_,rfl,?_⟩;have tj:((((row.map V.int).length:Nat):Int) + 62) / 63=(((row.length + 62) / 63:Nat):Int):=by rw [Yb];omega
    rw [tj];refine ⟨c,pl,C,_,rfl,xU,qN,?_⟩
    cases jW:pj C ((row.length + 62) / 63) with
    | error r=>
     rw [jW] at q;exact fun H' b=>q H' b
    | ok pr=>
     obtain ⟨ns,C'⟩:=pr;rw [jW] at q;dsimp only at q;intro u H1 b1 xV vd
     have pf:C'.places=C.places/\ns≠[]:=by
      unfold pj at jW
      split at jW
      .cases jW
      .rename_i aT
       cases jW
       refine ⟨rfl,fun z=>?_⟩;have hl:(C.free.take ((row.length + 62) / 63)).length=0:=by rw [z];rfl
       rw [YH] at hl;have iG:1<=row.length:=List.length_pos_iff.mpr h0;omega
     obtain ⟨a1,C1,j9,ES,v1,e1,e2,e3,e4,e5,a2,H4,e6,e7,a3,C3,rj,ER,v3,e8,e9,xX,E2,E1,r1,r2,r3,r4,r5,r6,r7,r8,r9,sL,DU,DT,DS⟩:=fin C' ns H1 u b1 xV pf.1 vd pf.2 (fun v H' b h e=>q v H' b h e);refine ⟨_,rfl,a1,C1,j9,ES,v1,e1,e2,e3,e4,e5,_,rfl,a2,H4,e6,e7,_,rfl,a3,C3,rj,ER,v3,e8,e9,xX,E2,E1,_,rfl,r1,r2,r3,r4,r5,r6,r7,r8,r9,sL,DU,DT,DS⟩
def cL (S:aF) (n:Int):Int×Row:=match aa S.dat n with
 | some r=>(1,r)
 | none=>(2,ud ((aa S.ent n).getD []))
def kZ (n:Int) (t:Int×Row) (i:Int):Row:=[n,t.1,(t.2.length:Int) / 256,(t.2.length:Int) % 256,i]
def cq (S:aF):List Int->Row->cp->Except Rf (Row×cp)
 | [],t,C=>.ok (t,C)
 | n::ns,t,C=>match bb C (cL S n).2 with
  | .error r=>.error r
  | .ok (i,C')=>cq S ns (t++kZ n (cL S n) i) C'
theorem FV (S:aF) (t:Row) (C:cp):cq S [] t C=.ok (t,C):=rfl
theorem wA (S:aF) (n:Int) (ns:List Int) (t:Row) (C:cp):cq S (n::ns) t C=match bb C (cL S n).2 with
  | .error r=>.error r
  | .ok (i,C')=>cq S ns (t++kZ n (cL S n) i) C':=rfl
def j' (S:aF) (C:cp):Except Rf (Row×cp):=match cq S (Zx S) [] C with
 | .error r=>.error r
 | .ok (t,C')=>match bb C' t with
  | .error r=>.error r
  | .ok (i,K5)=>.ok ([((Zx S).length:Int),i],K5)
structure eZ (S:aF):Prop where
 n:S.dat.length + S.ent.length < 64
 row:∀ n r,aa S.dat n=some r->r.length<=1000
 ent:∀ n es,aa S.ent n=some es->es.length < 64/\BG es
theorem Ca {κ α:Type} [DecidableEq κ] {xs:List (κ×α)} {k:κ} {x:α} {p:κ×α} (h:p∈ai xs k x):p∈xs∨p.2=x:=by
 unfold ai at h
 split at h
 .obtain ⟨q,hq,e⟩:=List.mem_map.mp h
  split at e
  .right;rw [<- e]
  .left;rw [<- e];exact hq
 .rcases List.mem_append.mp h with h | h
  .exact .inl h
  .right;rw [List.mem_singleton.mp h]
structure vP (C C':cp) (k:Nat):Prop where
 ok:tL C'
 fr:C'.free.length<=C.free.length
 pl:C'.places.length<=C.places.length + k
 old:C'.older=C.older
theorem FJ {C C':cp} {row:Row} {i:Int} (h:bb C row=.ok (i,C')) (ok:tL C):vP C C' 1:=by
 unfold bb at h
 split at h
 .cases h;exact ⟨ok,Yf _,Wk _,rfl⟩
 .rename_i h0
  split at h
  .cases h;exact ⟨ok,Yf _,Wk _,rfl⟩
  .split at h
   .rename_i ns hg
    cases h
    refine ⟨⟨ok.o,fun p hp=>?_⟩,Yf _,ki _ _ _,rfl⟩;rcases Ca hp with hp | hp
    .exact ok.p p hp
    .rw [hp];exact ok.o _ (nU hg)
   .split at h
    .cases h
    .rename_i ns C1 jW
     cases h
     unfold pj at jW
     split at jW
     .cases jW
     .rename_i aT
      cases jW
      refine ⟨⟨ok.o,fun p hp=>?_⟩,by show (C.free.drop _).length<=_;rw [YB];omega,ki _ _ _,rfl⟩;rcases Ca hp with hp | hp
      .exact ok.p p hp
      .rw [hp];intro z;have hl:(C.free.take ((row.length + 62) / 63)).length=0:=by rw [z];rfl
       rw [YH] at hl;have iG:1<=row.length:=List.length_pos_iff.mpr h0;omega
theorem ZmS {es:aO} (h:BG es) (hl:(d3 es).length<=64):(ud es).length<=1000:=by
 unfold ud;rw [Gi es h (d3 es) fun q hq=>GX es q hq];omega
theorem yB {κ α:Type} [DecidableEq κ] {k:κ}:∀ {xs:List (κ×α)},aa xs k=none->¬ k∈xs.map (·.1)
 | [],_=>by simp
 | p::r,h=>by
  by_cases z:p.1=k
  .rw [Z7 z] at h;cases h
  .rw [js z] at h;rw [Yx];intro hm;rcases List.mem_cons.mp hm with e | hm
   .exact z e.symm
   .exact yB h hm
theorem HQ {α:Type} (es:List α) (d:α):(List.range es.length).map (fun i=>es.getD i d)=es:=by
 apply List.ext_getElem
 .rw [Yb,Xh]
 .intro i h1 h2;rw [List.getElem_map,List.getElem_range,Yi,Yk h2];rfl
theorem ZsT (es:aO):(d3 es).Perm es:=by
 unfold d3
 split
 .exact .refl _
 .rename_i h2
  have low:d8 es.length _:=wR (fun i j=>mP (es.getD i (Str.empty,0)) (es.getD j (Str.empty,0))) (wF (n:=es.length) (by omega))
  have p1:(gk (fun i j=>mP (es.getD i (Str.empty,0)) (es.getD j (Str.empty,0))) (PySem.W.kas_sort es.length)).toList.Perm (List.range es.length):=by
   have:=low.toList
   simpa using this
  have p2:=p1.map fun i=>es.getD i (Str.empty,0);rw [HQ] at p2;exact p2
theorem Zvx (es:aO) (h:es.length < 64):(d3 es).length<=64:=by
 rw [(ZsT es).length_eq];omega
inductive oH (g:Gs) (vs:List V) (H:Hp) (Q:VK) (E:XK):Prop
 | mk (v:_) (S:_) (c:_) (pl:_) (C:_) (H0:_):vs=[v,.ref c]->af H0 H->H0 c=none->H0 pl=none->ZB g H0 S v->eZ S->kY g H c pl C->tL C->C.free.length<=1000->C.places.length<=900->uP g ZH H c pl (j' S C) Q E->oH g vs H Q E
theorem rR:Zm ["state","chains","table","number","kind","row"] ["state","chains"] (Zi ZjF):=ZE (by decide +kernel)
theorem ZhN (T:Tx K mg g):ah P w K mg base (aw P w) 3 g.Hq g.JL ["state","chains"] (oH g):=by
 refine T.CL.aG rR fun vs H Q E h=>?_;obtain ⟨v,S,c,pl,C,H0,rfl,s0,n1,n2,hS,so,hC,ok,qN,xq,q⟩:=h;refine ⟨rfl,fun _ _ _ _ hr=>?_⟩;have hu:=u1 hr.units
 refine ⟨_,(Zd (Zt (i:=2) rR.nd rfl (Or.inl rfl) (ed Zf))
  (Zd (gN YE rfl (rL (Zl (Dm T) hr.dn rfl T.CS T.wW.kp T.bh .nil Zg (Za (pv 0) Zf))) (ZG (i:=3) rR.nd rfl (Or.inl rfl)) (Zd (ZZ (fo (nL hu (pv 3) (Zp (pv 0) rfl))) (Zd (Zt (i:=4) rR.nd rfl (Or.inl rfl) (Zs (v:=.int 1) rfl T.Zl1 ⟨_,rfl⟩))
  (Zh (Zt (i:=5) rR.nd rfl (Or.inl rfl) (kn hu (Zp (pv 0) rfl) (pv 3) (fun _ _=>rfl))))) (Zd (Zt (i:=4) rR.nd rfl (Or.inl rfl) (Zs (v:=.int 2) rfl T.ZkC ⟨_,rfl⟩))
  (Zh (Zt (i:=5) rR.nd rfl (Or.inl rfl) (Zl (ZmD T) hr.dn rfl T.ZoG T.JR.kp T.gC .nil Zg (Za (kn hu (Zp (pv 0) rfl) (pv 3) (fun _ _=>rfl)) Zf))))))
  (Zh (Zt (i:=2) rR.nd rfl (Or.inl rfl) (ZC jv (pv 2) (ed (Za (pv 3) (Za (pv 4) (Za (ZC pD (Zv Zw (by rfl) T.cR YA (Za (pv 5) Zf)) Zo) (Za (ZC jb (Zv Zw (by rfl) T.cR YA (Za (pv 5) Zf)) Zo) (Za (ZQ (pv 1) T.jq T.Zkf (ZhX T) hr.dn T.dU .nil Zg (Za (pv 5) Zf)) Zf)))))))))))
  (Zh (Zu (ed (Za (Zv Zw (by rfl) T.cR YA (Za (Zl (Dm T) hr.dn rfl T.CS T.wW.kp T.bh .nil Zg (Za (pv 0) Zf)) Zf)) (Za (ZQ (pv 1) T.jq T.Zkf (ZhX T) hr.dn T.dU .nil Zg (Za (pv 2) Zf)) Zf))))))),?_⟩
 refine ⟨Yt _,fun a ha=>?_⟩;have s1:=Zk (o:=.tup []) ha;refine ⟨_,rfl,v,S,rfl,ZB.mono _ _ _ _ (s0.trans s1) hS,so.n,fun l H1 s2 hl=>?_⟩;refine ⟨l,rfl,⟨_,ay.of hl⟩,?_⟩
 have sW:(Zx S).length < 64:=by
  unfold Zx;rw [(qp _).length_eq,Yd,Yb,Yb];exact so.n
 unfold j' at q;generalize zJ:Zx S=ns at q hl sW;have sB:=s1.trans s2
 refine B2 (xs:=ns.map V.int) (fun i σ H'=>∃ t tab C',(∃ o3 o4 o5,σ=[some v,some (.ref c),some (.ref t),o3,o4,o5])/\H' t=some (.tup (tab.map V.int))/\H' l=some (.lst (ns.map V.int))/\aJ c pl H H'/\kY g H' c pl C'/\vP C C' i/\tab.length=5 * i/\cq S ns [] C=cq S (ns.drop i) tab C')
  ⟨a,[],C,⟨none,none,none,rfl⟩,s2 _ _ Zb,hl,aJ.of sB,hC.same sB,⟨ok,Yf _,Yf _,rfl⟩,rfl,rfl⟩ (fun i σ H' _ h=>?_) (fun i x σ H' hx h=>?_) (fun σ H' h=>?_)
 .obtain ⟨t,tab,C',_,_,kW,_⟩:=h;exact ay.of kW
 .obtain ⟨t,tab,C',⟨o3,o4,o5,rfl⟩,ht,kW,b1,pf,gr,xx,hw⟩:=h;rw [Yo] at hx
  cases hn:ns[i]? with
  | none=>rw [hn] at hx;cases hx
  | some n=>
   rw [hn] at hx
   cases hx
   have hi:i < ns.length:=(List.getElem?_eq_some_iff.mp hn).1
   have s_:ns.drop i=n::ns.drop (i + 1):=by
    rw [Yaz hi];rw [(List.getElem?_eq_some_iff.mp hn).2]
   rw [s_,wA] at hw;have DM:af H0 H':=aJ.vH s0 n1 n2 b1;obtain ⟨p,dx,da,ea,dk,ek,rfl,hP⟩:=ZB.mono _ _ _ _ DM hS
   -- behind eF choice of eF row
   have fin:∀ (H2:Hp) (u:V),aJ c pl H H2->af H' H2->ZH H2 (cL S n).2 u->(cL S n).2.length<=1000->∀ (N:St->Hp->Prop),(∀ t2 kq C2 o3 o4 o5 H3,H3 t2=some (.tup (kq.map V.int))->H3 l=some (.lst (ns.map V.int))->aJ c pl H H3->kY g H3 c pl C2->vP C C2 (i + 1)->kq.length=5 * (i + 1)->cq S ns [] C=cq S (ns.drop (i + 1)) kq C2->N [some (.ref p),some (.ref c),some (.ref t2),o3,o4,o5] H3)->
     ∀ aQ,aQ=[some (.ref p),some (.ref c),some (.ref t),some (.int n),some (.int (cL S n).1),some u]->
     jw (oO (ou K) (bA 2) (uj (gu (bA 3) (gu (bA 4) (gu (oO (rI uO fun i j=>.int (i / j)) (w9 (fun xs H Q=>∃ p ys,xs=[V.ref p]/\(ay K H p ys∨av K H p ys)/\Q (.int ys.length) H) (gu (bA 5) bB)) (tC (.int 256))) (gu (oO (rI (fun _ j=>0 < j) fun i j=>.int (i % j)) (w9 (fun xs H Q=>∃ p ys,xs=[V.ref p]/\(ay K H p ys∨av K H p ys)/\Q (.int ys.length) H) (gu (bA 5) bB)) (tC (.int 256))) (gu (Bq g.aI "put" (oq g) [] (fun _=>E) (bA 1) (gu (bA 5) bB)) bB))))))) (k6 2) {nx:=N,rt:=Q,bk:=fun _ _=>True,ct:=N} aQ H2:=by
    intro H2 u b2 sJ xv hlen N hN aQ e2;subst e2;obtain ⟨t5,rfl,pT⟩:=xv;have tE:=pf.same sJ;obtain ⟨qa,f2,o2,ko2,sP,h2⟩:=id tE;refine ⟨_,rfl,_,rfl,_,rfl,_,rfl,t5,_,rfl,.inr (av.of pT),_,_,rfl,rfl,⟨by decide,by decide⟩,_,rfl,t5,_,rfl,.inr (av.of pT),_,_,rfl,rfl,(by show (0:Int) < 256;decide),_,rfl,c,qa,_,rfl,h2.ob,Fl _ _ _ (by decide +kernel) (by decide +kernel) (by decide +kernel),_,rfl,?_⟩;refine ⟨c,pl,C',_,_,rfl,⟨t5,rfl,pT⟩,tE,gr.ok,Yn gr.fr qN,(by have:=gr.pl;omega),by omega,?_⟩
    cases vg:bb C' (cL S n).2 with
    | error r=>
     rw [vg] at hw;rw [hw] at q;exact fun H3 b3=>q H3 (b2.trans b3)
    | ok pr=>
     obtain ⟨j,C2⟩:=pr;rw [vg] at hw;dsimp only at hw;intro vj H3 b3 EM ej
     cases ej
     have g1:=FJ vg gr.ok;refine ⟨a9 5,fun e he=>?_⟩;have s4:=Zk (o:=.tup [.int n,.int (cL S n).1,.int (((((cL S n).2.map V.int).length:Nat):Int) / 256),.int (((((cL S n).2.map V.int).length:Nat):Int) % 256),.int j]) he;have mG:H3 t=some (.tup (tab.map V.int)):=b3 _ _ (sJ _ _ ht) (ZD (sJ _ _ ht) h2.ob (by intro z;cases z)) (ZD (sJ _ _ ht) h2.hp (by intro z;cases z));have kU:H3 l=some (.lst (ns.map V.int)):=b3 _ _ (sJ _ _ kW) (ZD (sJ _ _ kW) h2.ob (by intro z;cases z)) (ZD (sJ _ _ kW) h2.hp (by intro z;cases z));refine ⟨t,e,_,_,rfl,rfl,av.of (s4 _ _ mG),av.of Zb,fun _=>Zb,(fun z=>nomatch z),?_,fun d H4 s5 hd=>?_⟩
     .rw [Yb,xx];exact Zn (m:=1000) (by show 5 * i + 5<=1000;omega) (by decide)
     refine hN d (tab++kZ n (cL S n) j) C2 _ _ _ H4 ?_ (s5 _ _ (s4 _ _ kU)) (b2.trans (b3.trans (aJ.of (s4.trans s5)))) (EM.same (s4.trans s5)) ⟨g1.ok,Yn g1.fr gr.fr,by have:=g1.pl;have:=gr.pl;omega,g1.old.trans gr.old⟩ ?_ hw
     .rw [hd,Yz];unfold kZ;rw [Yb];rfl
     .rw [Yd,xx];rfl
   refine ⟨_,rfl,_,rfl,p,_,dx,_,_,rfl,hP.ob,T.ZM,T.Z2,mO _ _,da,_,rfl,aE.k hP.hd (k:=.inl n),_,rfl,?_⟩;rw [hP.rd.some gv]
   cases hg:aa S.dat n with
   | some r=>
    have tI:cL S n=(1,r):=by unfold cL;rw [hg]
    refine ao ?_;obtain ⟨vr,hv,cm⟩:=hP.rd.yes gv hg;refine ⟨_,rfl,p,_,dx,_,_,rfl,hP.ob,T.ZM,T.Z2,mO _ _,_,rfl,da,vr,rfl,(by have:=aE.k hP.hd (k:=.inl n);rw [hv] at this;exact this),?_⟩;exact fin H' vr b1 (af.refl _) (by rw [tI];exact cm) (by rw [tI];exact so.row n r hg) _ (fun t2 kq C2 o3 o4 o5 H3 a1 a2 a3 a4 a5 a6 a7=>⟨t2,kq,C2,⟨o3,o4,o5,rfl⟩,a1,a2,a3,a4,a5,a6,a7⟩) _ (by rw [tI];rfl)
   | none=>
    refine aj ?_
    have A9:∃ es,aa S.ent n=some es:=by
     have iH:n∈S.dat.map (·.1)++S.ent.map (·.1):=by
      have:n∈ns:=Ys hn
      rw [<- zJ] at this;exact (qp _).mem_iff.mp this
     rcases List.mem_append.mp iH with hm | hm
     .exact absurd hm (yB hg)
     .cases he:aa S.ent n with
      | none=>exact absurd hm (yB he)
      | some es=>exact ⟨es,rfl⟩
    obtain ⟨es,he⟩:=A9;have tI:cL S n=(2,ud es):=by unfold cL;rw [hg,he];rfl
    obtain ⟨ve,hv,cm⟩:=hP.re.yes gv he;obtain ⟨A_,iq⟩:=so.ent n es he;refine ⟨_,rfl,p,_,dx,_,_,rfl,hP.ob,T.ZM,T.Zr,gs _ _,_,rfl,ea,ve,rfl,(by have:=aE.k hP.he (k:=.inl n);rw [hv] at this;exact this),ve,es,rfl,cm,A_,iq,fun u H2 s3 xv=>?_⟩;exact fin H2 u (b1.trans (aJ.of s3)) s3 (by rw [tI];exact xv) (by rw [tI];exact ZmS iq (Zvx es A_)) _ (fun t2 kq C2 o3 o4 o5 H3 a1 a2 a3 a4 a5 a6 a7=>⟨t2,kq,C2,⟨o3,o4,o5,rfl⟩,a1,a2,a3,a4,a5,a6,a7⟩) _ (by rw [tI];rfl)
 .obtain ⟨t,tab,C',⟨o3,o4,o5,rfl⟩,ht,kW,b1,pf,gr,xx,hw⟩:=h;rw [Yb,Wd,FV] at hw;rw [Yb] at xx gr;rw [hw] at q;dsimp only at q;have DM:af H0 H':=aJ.vH s0 n1 n2 b1;refine ⟨_,rfl,v,S,rfl,ZB.mono _ _ _ _ DM hS,so.n,fun l2 H2 s3 j7=>?_⟩;rw [zJ] at j7;have tE:=pf.same s3;obtain ⟨qa,f2,o2,ko2,sP,h2⟩:=id tE;refine ⟨l2,_,rfl,.inl (ay.of j7),_,rfl,c,qa,_,rfl,h2.ob,Fl _ _ _ (by decide +kernel) (by decide +kernel) (by decide +kernel),_,rfl,?_⟩;refine ⟨c,pl,C',tab,_,rfl,⟨t,rfl,s3 _ _ ht⟩,tE,gr.ok,Yn gr.fr qN,(by have:=gr.pl;omega),by omega,?_⟩
  cases vg:bb C' tab with
  | error r=>
   rw [vg] at q;exact fun H3 b3=>q H3 (b1.trans ((aJ.of s3).trans b3))
  | ok pr=>
   obtain ⟨j,C2⟩:=pr;rw [vg] at q;dsimp only at q;intro vj H3 b3 EM ej
   cases ej
   refine ⟨a9 2,fun e he=>?_⟩;refine q _ _ (b1.trans ((aJ.of s3).trans (b3.trans (aJ.of (Zk he))))) (EM.same (Zk he)) ⟨e,rfl,?_⟩;rw [Zb,Yb];rfl
structure iA where
 places:Zq
 heads:Row
def sR (p h:V):List (Str×V):=aq "heads" h (aq "places" p [])
theorem if1:¬ (("places":Str)="heads"):=by decide +kernel
theorem Bs (p h:V):(sR p h).lookup ("places":Str)=some p:=by unfold sR;rw [Zj,if_neg if1,Zj,if_pos rfl]
theorem E8 (p h:V):(sR p h).lookup ("heads":Str)=some h:=by unfold sR;rw [Zj,if_pos rfl]
def jj (g:Gs) (H:Hp) (I:iA) (v:V):Prop:=∃ p dx pl hd,v=.ref p/\H p=some (.ins g.cT dx (sR pl hd))/\gJ H I.places pl/\ZH H I.heads hd
theorem jj.mono {g:Gs}:kE (jj g):=fun _ _ _ _ s ⟨p,dx,pl,hd,e,h1,h2,h3⟩=>⟨p,dx,pl,hd,e,s _ _ h1,gJ.mono _ _ _ _ s h2,ZH.mono _ _ _ _ s h3⟩
abbrev Kept:=List (Str×aF)
def cQ (g:Gs) (H:Hp) (k:Kept) (v:V):Prop:=∃ a kvs,v=.ref a/\H a=some (.dK kvs)/\ZT XC (ZB g) H k kvs
theorem cQ.mono {g:Gs}:kE (cQ g):=fun _ _ _ _ s ⟨a,kvs,e,h,d⟩=>⟨a,kvs,e,s _ _ h,d.same ZB.mono s⟩
def tR (k:Kept):List Str->Row->cp->Except Rf (Row×cp)
 | [],h,C=>.ok (h,C)
 | n::ns,h,C=>match aa k n with
  | none=>.error .aZ
  | some S=>match j' S C with
   | .error r=>.error r
   | .ok (t,C')=>tR k ns (h++Z1 n++t) C'
theorem Zvy (k:Kept) (h:Row) (C:cp):tR k [] h C=.ok (h,C):=rfl
theorem ZpC (k:Kept) (n:Str) (ns:List Str) (h:Row) (C:cp):tR k (n::ns) h C=match aa k n with
  | none=>.error .aZ
  | some S=>match j' S C with
   | .error r=>.error r
   | .ok (t,C')=>tR k ns (h++Z1 n++t) C':=rfl
def ly (S:aF) (k:Kept) (free:List Int) (older:Zq):Except Rf iA:=match j' S ⟨free,older,[]⟩ with
 | .error r=>.error r
 | .ok (h,C)=>match tR k (gi (k.map (·.1))) h C with
  | .error r=>.error r
  | .ok (h',C')=>.ok ⟨C'.places,h'⟩
theorem ZtP {S:aF}:∀ {ns:List Int} {t t':Row} {C C':cp},cq S ns t C=.ok (t',C')->tL C->vP C C' ns.length/\t'.length=t.length + 5 * ns.length
 | [],t,t',C,C',h,ok=>by rw [FV] at h;cases h;exact ⟨⟨ok,Yf _,Yf _,rfl⟩,rfl⟩
 | n::ns,t,t',C,C',h,ok=>by
  rw [wA] at h
  cases hp:bb C (cL S n).2 with
  | error r=>rw [hp] at h;cases h
  | ok pr=>
   obtain ⟨i,C1⟩:=pr;rw [hp] at h;dsimp only at h;have g1:=FJ hp ok;obtain ⟨g2,l2⟩:=ZtP h g1.ok;refine ⟨⟨g2.ok,Yn g2.fr g1.fr,?_,g2.old.trans g1.old⟩,?_⟩
   .have:=g1.pl;have:=g2.pl;rw [Yv];omega
   .rw [l2,Yd,Yv];show t.length + 5 + _=_;omega
theorem Zsm {S:aF} {C C':cp} {t:Row} (h:j' S C=.ok (t,C')) (ok:tL C) (so:eZ S):vP C C' 64/\t.length=2:=by
 unfold j' at h
 cases ht:cq S (Zx S) [] C with
 | error r=>rw [ht] at h;cases h
 | ok pr=>
  obtain ⟨t1,C1⟩:=pr;rw [ht] at h;dsimp only at h;obtain ⟨g1,l1⟩:=ZtP ht ok
  cases hp:bb C1 t1 with
  | error r=>rw [hp] at h;cases h
  | ok pr=>
   obtain ⟨i,C2⟩:=pr;rw [hp] at h
   cases h
   have g2:=FJ hp g1.ok
   have sW:(Zx S).length < 64:=by
    unfold Zx;rw [(qp _).length_eq,Yd,Yb,Yb];exact so.n
   refine ⟨⟨g2.ok,Yn g2.fr g1.fr,?_,g2.old.trans g1.old⟩,rfl⟩
   have:=g1.pl;have:=g2.pl;omega
structure kf (k:Kept):Prop where
 n:k.length<=3
 nm:∀ n S,aa k n=some S->Z4 n=true/\eZ S
theorem Cz (ns:List Str):(gi ns).Perm ns:=by
 unfold gi
 split
 .exact .refl _
 .rename_i h2
  have low:d8 ns.length _:=wR (fun i j=>decide ((ns.getD i Str.empty).cps.toList < (ns.getD j Str.empty).cps.toList)) (wF (n:=ns.length) (by omega))
  have p1:(gk (fun i j=>decide ((ns.getD i Str.empty).cps.toList < (ns.getD j Str.empty).cps.toList)) (PySem.W.kas_sort ns.length)).toList.Perm (List.range ns.length):=by
   have:=low.toList
   simpa using this
  have p2:=p1.map fun i=>ns.getD i Str.empty;rw [HQ] at p2;exact p2
theorem ZT.r_ {α:Type} {R:Hp->α->V->Prop} {H:Hp} {xs:List (Str×α)} {kvs:List (Key×V)} (h:ZT XC R H xs kvs):kvs.map (·.1)=(xs.map (·.1)).map XC:=by
 unfold ZT at h
 induction h with
 | nil=>rfl
 | cons a _ ih=>rw [Yx,Yx,Yx,ih,a.1]
inductive g_ (g:Gs) (vs:List V) (H:Hp) (Q:VK) (aD:XK):Prop
 | mk (p:_) (dx:_) (d:_) (e:_):vs=[.ref p,d,e]->H p=some (.ins g.cT dx [])->(∀ H',(∀ b o,H b=some o->b≠p->H' b=some o)->H' p=some (.ins g.cT dx (sR d e))->Q .aH H')->g_ g vs H Q aD
theorem Zoa:Zm ["self","places","heads"] ["self","places","heads"] (Zi ZjT):=ZE (by decide +kernel)
theorem Zov (T:Tx K mg g):ah P w K mg base (aw P w) 1 g.Hf g.Jh ["self","places","heads"] (g_ g):=by
 refine T.Zko.aG Zoa fun vs H Q E h=>?_;obtain ⟨p,dx,d,e,rfl,hp,q⟩:=h;refine ⟨rfl,fun _ _ _ _ hr=>?_⟩
 refine ⟨_,(Zd (ee (pv 0) (pv 1) rfl)
  (Zh (ee (pv 0) (pv 2) rfl))),?_⟩
 refine ⟨_,rfl,_,rfl,p,g.cT,dx,[],rfl,hp,T.tZ,T.yT,(by show 0 < 1000;decide),?_⟩;refine ⟨_,rfl,_,rfl,p,g.cT,dx,_,rfl,Zb,T.tZ,T.Zh0,(by show 1 < 1000;decide),?_⟩;refine q _ (fun b o e hb=>?_) Zb;rw [Ze hb,Ze hb];exact e
inductive et (g:Gs) (vs:List V) (H:Hp) (Q:VK) (E:XK):Prop
 | mk (v:_) (S:_) (kv:_) (k:_) (fv:_) (free:_) (ov:_) (older:_):vs=[v,kv,.ref fv,ov]->ZB g H S v->cQ g H k kv->H fv=some (.lst (free.map V.int))->gJ H older ov->eZ S->kf k->free.length<=1000->(∀ p∈older,p.2≠[])->gn g (jj g) H (ly S k free older) Q E->et g vs H Q E
theorem yI:Zm ["state","kept","free","older","chains","heads","name"] ["state","kept","free","older"] (Zi Znd):=ZE (by decide +kernel)
theorem ZlA (T:Tx K mg g):ah P w K mg base (aw P w) 4 g.F5 g.Ht ["state","kept","free","older"] (et g):=by
 refine T.Cn.aG yI fun vs H Q E h=>?_;obtain ⟨v,S,kv,k,fv,free,ov,older,rfl,hS,⟨ka,kvs,rfl,qR,hkd⟩,hfv,⟨oa,ko,rfl,Ek,hod⟩,so,kk,d9,bO,q⟩:=h;refine ⟨rfl,fun _ _ _ _ hr=>?_⟩;have hu:=u1 hr.units
 refine ⟨_,(Zd (Zt (i:=4) yI.nd rfl (Or.inl rfl) (lA T.Zuw (ZmJ T) hr.dn rfl T.ZvV T.gI .nil Zg (Za (pv 2) (Za (pv 3) Zf))))
  (Zd (Zt (i:=5) yI.nd rfl (Or.inl rfl) (Zl (ZhN T) hr.dn rfl T.Zj8 T.CL.kp T.dI .nil Zg (Za (pv 0) (Za (pv 4) Zf))))
  (Zd (gN YE rfl (rL (Zv Zkj (by rfl) T.wC PyProof.Rows.Boot.«sorted» (Za (pv 1) Zf))) (ZG (i:=6) yI.nd rfl (Or.inl rfl)) (Zh (Zt (i:=5) yI.nd rfl (Or.inl rfl) (ZC jv (ZC jv (pv 5) (Zl (ZhP T) hr.dn rfl T.Zj9 T.CK.kp T.dJ .nil Zg (Za (pv 6) Zf))) (Zl (ZhN T) hr.dn rfl T.Zj8 T.CL.kp T.dI .nil Zg (Za (kn hu (pv 1) (pv 6) (fun _ _=>rfl)) (Za (pv 4) Zf)))))))
  (Zh (Zu (lA T.ZvR (Zov T) hr.dn rfl T.Zw9 T.i3 .nil Zg (Za (Zp (pv 4) rfl) (Za (pv 5) Zf)))))))),?_⟩
 refine ⟨_,rfl,_,rfl,fun c dx hc ny ne=>⟨c,dx,_,_,rfl,Zb,fun pl H1 df gb lX j6=>⟨rfl,?_⟩⟩⟩;have u4:pl≠c:=fun z=>by rw [z,Zb] at df;cases df
 have ku:H pl=none:=by
  by_cases z:pl=dx
  .rw [z,Ze ne,Zb] at df;cases df
  .rw [Ze u4,Ze z] at df;exact df
 have s1:af H H1:=fun b o e=>gb b o (by rw [Ze (Zc e hc),Ze (Zc e ny)];exact e) (Zc e hc);have xV:kY g H1 c pl ⟨free,older,[]⟩:=⟨dx,fv,oa,ko,[],lX,s1 _ _ hfv,s1 _ _ Ek,j6,hod.same ZH.mono s1,.nil,fun z=>by rw [z,ku] at Ek;cases Ek⟩
 have ok1:tL (⟨free,older,[]⟩:cp):=⟨bO,fun p hp=>nomatch hp⟩
 unfold ly at q;refine ⟨_,rfl,_,rfl,v,S,c,pl,_,H,rfl,s1,hc,ku,hS,so,xV,ok1,d9,Yt _,?_⟩
 cases hh:j' S ⟨free,older,[]⟩ with
 | error r=>
  rw [hh] at q;exact fun H2 b2=>q H2 (aJ.vH s1 hc ku b2)
 | ok pr=>
  obtain ⟨h0,C0⟩:=pr;rw [hh] at q;dsimp only at q;obtain ⟨EN,xH⟩:=Zsm hh ok1 so;intro vh H2 b2 tE ⟨t0,e,qP⟩;subst e;have s2:=aJ.vH s1 hc ku b2;have pW:(k.map (·.1)).length < 64:=by rw [Yb];have:=kk.n;omega
  refine ⟨_,rfl,ka,kvs,k.map (·.1),rfl,.inl (s2 _ _ qR),hkd.r_,pW,fun l hl=>?_⟩;refine ⟨l,rfl,⟨_,ay.of Zb⟩,?_⟩;have s3:=Zk (o:=.lst ((gi (k.map (·.1))).map V.str)) hl;have mr:∀ n∈gi (k.map (·.1)),n∈k.map (·.1):=fun n hn=>(Cz _).mem_iff.mp hn;have hlen:(gi (k.map (·.1))).length<=3:=by rw [(Cz _).length_eq,Yb];exact kk.n
  generalize gi (k.map (·.1))=ns at q s3 mr hlen
  refine B2 (xs:=ns.map V.str) (fun i σ H'=>∃ t hd C',(∃ o6,σ=[some v,some (.ref ka),some (.ref fv),some (.ref oa),some (.ref c),some (.ref t),o6])/\H' t=some (.tup (hd.map V.int))/\H' l=some (.lst (ns.map V.str))/\af H H'/\kY g H' c pl C'/\vP C0 C' (64 * i)/\hd.length=2 + 10 * i/\tR k ns h0 C0=tR k (ns.drop i) hd C')
   ⟨t0,h0,C0,⟨none,rfl⟩,s3 _ _ qP,Zb,s2.trans s3,tE.same s3,⟨EN.ok,Yf _,Yf _,rfl⟩,xH,rfl⟩ (fun i σ H' _ h=>?_) (fun i x σ H' hx h=>?_) (fun σ H' h=>?_)
  .obtain ⟨t,hd,C',_,_,kW,_⟩:=h;exact ay.of kW
  .obtain ⟨t,hd,C',⟨o6,rfl⟩,ht,kW,sm,pf,gr,nz,hw⟩:=h;rw [Yo] at hx
   cases hn:ns[i]? with
   | none=>rw [hn] at hx;cases hx
   | some n=>
    rw [hn] at hx
    cases hx
    have hi:i < ns.length:=(List.getElem?_eq_some_iff.mp hn).1
    have s_:ns.drop i=n::ns.drop (i + 1):=by
     rw [Yaz hi];rw [(List.getElem?_eq_some_iff.mp hn).2]
    rw [s_,ZpC] at hw
    have hgk:∃ S',aa k n=some S':=by
     cases hg:aa k n with
     | none=>exact absurd (mr n (Ys hn)) (yB hg)
     | some S'=>exact ⟨S',rfl⟩
    obtain ⟨S',hg⟩:=hgk;rw [hg] at hw;dsimp only at hw;obtain ⟨iq,AF⟩:=kk.nm n S' hg;obtain ⟨vS,hvS,p8⟩:=hkd.yes BL hg;have uC:(Z1 n).length=8:=JD (yG iq).2.1;refine ⟨_,rfl,_,rfl,n,rfl,iq,fun u H3 s4 ⟨t2,e,cZ⟩=>?_⟩;subst e;refine ⟨t,t2,_,_,rfl,rfl,av.of (s4 _ _ ht),av.of cZ,fun _=>cZ,fun _ _=>s4 _ _ ht,?_,fun d H4 s5 Ez=>?_⟩
    .rw [Yb,Yb,uC,nz];exact Zn (m:=1000) (by omega) (by decide)
    have s6:=sm.trans (s4.trans s5);have Bi:=pf.same (s4.trans s5);obtain ⟨p_,f4,o4,ko4,sN,h4⟩:=id Bi;refine ⟨_,rfl,_,rfl,ka,vS,rfl,(by have:=aE.k (s6 _ _ qR) (k:=.inr n);rw [hvS] at this;exact this),_,rfl,vS,S',c,pl,C',H,rfl,s6,hc,ku,p8,AF,Bi,gr.ok,Yn gr.fr (Yn EN.fr d9),?_,?_⟩
    .have:=gr.pl
     have h1:C0.places.length<=0 + 64:=EN.pl;omega
    cases Eu:j' S' C' with
    | error r=>
     rw [Eu] at hw;rw [hw] at q;exact fun H5 b5=>q H5 (aJ.vH s6 hc ku b5)
    | ok pr=>
     obtain ⟨t',K5⟩:=pr;rw [Eu] at hw;dsimp only at hw;obtain ⟨Bj,j7⟩:=Zsm Eu gr.ok AF;intro vt H5 b5 hC5 ⟨t3,e,mG⟩;subst e;have s7:=aJ.vH s6 hc ku b5;have xM:H5 d=some (.tup ((hd.map V.int)++(Z1 n).map V.int)):=b5 _ _ Ez (ZD Ez h4.ob (by intro z;cases z)) (ZD Ez h4.hp (by intro z;cases z));have Ep:=s5 _ _ (s4 _ _ kW);have pX:H5 l=some (.lst (ns.map V.str)):=b5 _ _ Ep (ZD Ep h4.ob (by intro z;cases z)) (ZD Ep h4.hp (by intro z;cases z));refine ⟨d,t3,_,_,rfl,rfl,av.of xM,av.of mG,fun _=>mG,fun _ _=>xM,?_,fun d2 H6 s8 hd6=>?_⟩
     .rw [Yd,Yb,Yb,Yb,uC,nz,j7];exact Zn (m:=1000) (by omega) (by decide)
     refine ⟨d2,hd++Z1 n++t',K5,⟨_,rfl⟩,?_,s8 _ _ pX,s7.trans s8,hC5.same s8,⟨Bj.ok,Yn Bj.fr gr.fr,by have:=Bj.pl;have:=gr.pl;omega,Bj.old.trans gr.old⟩,?_,hw⟩
     .rw [hd6,Yz,Yz]
     .rw [Yd,Yd,uC,nz,j7];omega
  .obtain ⟨t,hd,C',⟨o6,rfl⟩,ht,kW,sm,pf,gr,nz,hw⟩:=h;rw [Yb,Wd,Zvy] at hw;rw [hw] at q;dsimp only at q;obtain ⟨p_,f4,o4,ko4,sN,h4⟩:=id pf;refine ⟨_,rfl,c,_,p_,_,_,rfl,h4.ob,T.jq,T.wV,x6 _ _ _,_,rfl,fun x jh hx og ne'=>⟨x,jh,_,_,rfl,Zb,fun H5 kp hp=>⟨rfl,?_⟩⟩⟩
   have s5:af H' H5:=fun b o eb=>by
    have h1:b≠x:=Zc eb hx;have h2:b≠jh:=Zc eb og;exact kp b o (by rw [Ze h1,Ze h2];exact eb) h1
   exact q _ _ (sm.trans s5) ⟨x,jh,_,_,rfl,hp,⟨pl,sN,rfl,s5 _ _ h4.hp,h4.rp.same ZH.mono s5⟩,⟨t,rfl,s5 _ _ ht⟩⟩
end KS
namespace L2
open PySem PySem.Spec PyProof.Rows PySem.W
theorem Zv3 {K:Frag} {a:Addr} {xs:List V} {g:TG} {tb:TS} {D:Ends} {σ:St} {H:Hp} (Pv:Nat->St->Hp->Prop) (h0:Pv 0 σ H) (hl:∀ i σ H,i<=xs.length->Pv i σ H->av K H a xs)
  (hs:∀ i x t σ H,xs[i]?=some x->Pv i σ H->H t=none->g (.ref t) σ (upd H t (.tup [.int (i:Nat),x])) fun aQ H2=>tb {D with nx:=Pv (i + 1),ct:=Pv (i + 1),bk:=D.nx} aQ H2) (hd:∀ σ H,Pv xs.length σ H->D.nx σ H) :
  ∃ W:Nat->Nat->St->Hp->Prop,(∃ m,W 0 m σ H)/\∀ i m σ H,W i m σ H->
   ((om K a).stop i H/\D.nx σ H)∨((om K a).go i H/\∃ N:St->Hp->Prop,(∀ ar H',N ar H'->∃ m',m' < m/\W (i + 1) m' ar H')/\∀ x H',(om K a).ik i H x H'->g x σ H' fun aQ H2=>tb {D with nx:=N,ct:=N,bk:=D.nx} aQ H2):=by
 refine ⟨fun i m σ H=>m=xs.length - i/\i<=xs.length/\Pv i σ H,⟨xs.length,by simp,Yt _,h0⟩,?_⟩
 rintro i m σ H ⟨rfl,hi,p⟩
 have q:=hl i σ H hi p
 by_cases aT:i < xs.length
 .refine .inr ⟨⟨xs,xs[i],q,by simp [aT]⟩,Pv (i + 1),fun ar H' p'=>⟨xs.length - (i + 1),by omega,rfl,aT,p'⟩,fun x H' y=>?_⟩;obtain ⟨t,z,ht,rfl,hz,rfl⟩:=y;exact hs i z t σ _ (hz xs q) p ht
 .have e:i=xs.length:=by omega
  subst e;exact .inl ⟨⟨xs,q,Yf _⟩,hd σ H p⟩
end L2
namespace KS
open PySem L2
variable {P:Program} {w:World} {K:Yg} {mg:Str->Option Value} {base:Heap} {g:Gs}
def c8 (row:Row) (n:Int):Row:=row++List.replicate (n - (row.length:Int)).toNat 0
def qh (row:Row):Int:=row.foldl (fun c n=>(c * 1000003 + n) % 4294967291) (row.length:Int)
def rP (rows:List Row):Int:=(rows.map qh).sum % 4294967291
def Hl (rows:List Row):Row:=[rP rows / 16777216,rP rows / 65536 % 256,rP rows / 256 % 256,rP rows % 256]
def tK:Row:=[83,116,105,108]
def nP (I:iA) (turn:Int):Row:=c8 (tK++[turn]++I.heads) 37
def ZK (I:iA) (turn:Int):Row:=c8 (nP I turn++Hl (nP I turn::I.places.map (·.1))) 64
def ZyL (H:Hp) (rows:List Row) (v:V):Prop:=∃ l vs,v=.ref l/\H l=some (.lst vs)/\Wg (fun a b=>ZH H b a) vs rows
theorem wJ {α β:Type} {F:α->β->Prop}:∀ {xs:List α} {ys:List β},Wg F xs ys->∀ {i:Nat} {x:α},xs[i]?=some x->∃ y,ys[i]?=some y/\F x y
 | _,_,.nil,i,x,h=>by simp at h
 | _,_,.cons a t,0,x,h=>by simp at h;subst h;exact ⟨_,rfl,a⟩
 | _,_,.cons a t,i + 1,x,h=>by obtain ⟨y,h1,h2⟩:=wJ t (i:=i) (by simpa using h);exact ⟨y,by simpa using h1,h2⟩
theorem Zqn {H0 H:Hp}:∀ {pl:Zq} {kvs:List (List Key×V)},ZT rKey ZH H0 pl kvs->∀ {bs:List Addr},bs.length=(kvs.map (·.1)).length->(∀ (i:Nat) b k,bs[i]?=some b->(kvs.map (·.1))[i]?=some k->H b=some (.tup (k.map kV)))->Wg (fun a b=>ZH H b a) (bs.map V.ref) (pl.map (·.1))
 | _,_,.nil,bs,hl,_=>by
  have:bs=[]:=List.length_eq_zero_iff.mp hl
  subst this;exact .nil
 | q::_,p::_,.cons a t,bs,hl,h=>by
  match bs,hl,h with
  | b::bs,hl,h=>
   refine .cons ⟨b,rfl,?_⟩ (Zqn t (by simpa using hl) fun i b' k hb hk=>h (i + 1) b' k (by simpa using hb) (by simpa using hk))
   have:=h 0 b p.1 rfl rfl
   rw [a.1,wo] at this;exact this
inductive fH (vs:List V) (H:Hp) (Q:VK) (aD:XK):Prop
 | mk (row:_) (v:_) (n:_):vs=[v,.int n]->ZH H row v->row.length<=10000->-10000<=n->n<=10000->(∀ u H',af H H'->ZH H' (c8 row n) u->Q u H')->fH vs H Q aD
theorem Zt2:Zm ["row","length"] ["row","length"] (Zi Zr4):=ZE (by decide +kernel)
theorem Zp4 (T:Tx K mg g):ah P w K mg base (aw P w) 1 g.padded g.FY ["row","length"] fH:=by
 refine T.BV.aG Zt2 fun vs H Q E h=>?_;obtain ⟨row,v,n,rfl,⟨t,rfl,ht⟩,hl,vi,A5,q⟩:=h;refine ⟨rfl,fun _ _ _ _ hr=>?_⟩;refine ⟨_,(Zh (Zu (ZC jv (pv 0) (ZC yp (ed (Za Zo Zf)) (ZC pq (pv 1) (Zv Zw (by rfl) T.cR YA (Za (pv 0) Zf))))))),?_⟩;refine ⟨_,rfl,a9 1,fun b hb=>?_⟩;have s2:=Zk (o:=.tup [.int 0]) hb;refine ⟨_,rfl,_,rfl,t,_,rfl,.inr (av.of (s2 _ _ ht)),_,_,rfl,rfl,b,_,_,rfl,rfl,Zb,by simp,?_,?_,?_,fun c H2 s3 hc=>?_⟩
 .rw [Yb];omega
 .rw [Yb];omega
 .rw [Yb];show 1 * _<=_;exact Zn (m:=20000) (by omega) (by decide)
 rw [wz,Yb] at hc;have cZ:=s3 _ _ (s2 _ _ ht);refine ⟨t,c,_,_,rfl,rfl,av.of cZ,av.of hc,fun _=>hc,fun _ _=>cZ,?_,fun d H3 s4 hd=>?_⟩
 .rw [Yb,YC];exact Zn (m:=40000) (by omega) (by decide)
 refine q _ H3 (s2.trans (s3.trans s4)) ⟨d,rfl,?_⟩;rw [hd];unfold c8;rw [Yz,XW]
inductive hZ (vs:List V) (H:Hp) (Q:VK) (aD:XK):Prop
 | mk (row:_) (v:_):vs=[v]->ZH H row v->Q (.int (qh row)) H->hZ vs H Q aD
theorem CM:Zm ["row","check","number"] ["row"] (Zi Znf):=ZE (by decide +kernel)
theorem Zrl (T:Tx K mg g):ah P w K mg base (aw P w) 1 g.Gf g.Hn ["row"] hZ:=by
 refine T.G5.aG CM fun vs H Q E h=>?_;obtain ⟨row,v,rfl,⟨t,rfl,ht⟩,q⟩:=h;refine ⟨rfl,fun _ _ _ _ hr=>?_⟩
 refine ⟨_,(Zd (Zt (i:=1) CM.nd rfl (Or.inl rfl) (Zv Zw (by rfl) T.cR YA (Za (pv 0) Zf)))
  (Zd (gN YE rfl (vW (pv 0)) (ZG (i:=2) CM.nd rfl (Or.inl rfl)) (Zh (Zt (i:=1) CM.nd rfl (Or.inl rfl) (ZC jb (ZC gM (ZC pk (pv 1) (Zs (v:=.int 1000003) rfl T.ZmR ⟨_,rfl⟩)) (pv 2)) (Zs (v:=.int 4294967291) rfl T.Zie ⟨_,rfl⟩)))))
  (Zh (Zu (pv 1))))),?_⟩
 refine ⟨_,rfl,t,_,rfl,.inr (av.of ht),?_⟩;refine ⟨_,rfl,t,rfl,⟨_,av.of ht⟩,?_⟩;refine BJ (xs:=row.map V.int) (fun i σ H'=>H'=H/\∃ o2,σ=[some (.ref t),some (.int ((row.take i).foldl (fun c n=>(c * 1000003 + n) % 4294967291) (row.length:Int))),o2]) ⟨rfl,none,by rw [Yb];rfl⟩ (fun i σ H' _ h=>by rw [h.1];exact av.of ht) (fun i x σ H' hx h=>?_) (fun σ H' h=>?_)
 .obtain ⟨rfl,o2,rfl⟩:=h;rw [Yo] at hx
  cases hn:row[i]? with
  | none=>rw [hn] at hx;cases hx
  | some n=>
   rw [hn] at hx
   cases hx
   have hi:i < row.length:=(List.getElem?_eq_some_iff.mp hn).1;refine ⟨_,rfl,_,_,rfl,rfl,.inr ⟨by decide,by decide⟩,_,rfl,_,_,rfl,rfl,_,_,rfl,rfl,(by show (0:Int) < 4294967291;decide),?_⟩;refine ⟨rfl,some (.int n),?_⟩;rw [Y9 hi,List.foldl_append,(List.getElem?_eq_some_iff.mp hn).2];rfl
 .obtain ⟨rfl,o2,rfl⟩:=h;rw [Yb,Xc];exact ⟨_,rfl,q⟩
inductive dG (vs:List V) (H:Hp) (Q:VK) (aD:XK):Prop
 | mk (rows:_) (v:_):vs=[v]->ZyL H rows v->rows.length<=10000->(∀ u H',af H H'->ZH H' (Hl rows) u->Q u H')->dG vs H Q aD
theorem Zgo:Zm ["rows","check"] ["rows"] (Zi Kh):=ZE (by decide +kernel)
theorem ZmE (T:Tx K mg g):ah P w K mg base (aw P w) 2 g.Iz g.Jv ["rows"] dG:=by
 refine T.JQ.aG Zgo fun vs H Q E h=>?_;obtain ⟨rows,v,rfl,⟨l,us,rfl,hl,hp⟩,hz,q⟩:=h;refine ⟨rfl,fun _ _ _ _ hr=>?_⟩
 refine ⟨_,(Zd (Zt (i:=1) Zgo.nd rfl (Or.inl rfl) (ZC jb (Zv Zwf (by rfl) T.ZyV PyProof.Rows.Boot.«sum» (Za (mT (own:=["row"]) (fv:=[]) (ix:=[]) (Z8 (sc:=Zi Kh) (N:=["rows","check"]) rfl rfl (by decide +kernel)) rfl (rL (pv 0)) (fun _ _ _ _ _=>ZG (i:=0) (show (["row"]:List Str).Nodup from by decide +kernel) rfl (Or.inl rfl) (Or.inr rfl)) (fun _ _ _ _ _=>mU) (fun _ _ _ _ _=>(Zl (Zrl T) hr.dn rfl T.Ztl T.G5.kp T.kR .nil e_ (Za (pv 0) Zf)))) Zf)) (Zs (v:=.int 4294967291) rfl T.Zie ⟨_,rfl⟩)))
  (Zh (Zu (ed (Za (ZC pD (pv 1) (ZC Zwo Zo Zo)) (Za (ZC jb (ZC pD (pv 1) (ZC Zwo Zo Zo)) Zo) (Za (ZC jb (ZC pD (pv 1) Zo) Zo) (Za (ZC jb (pv 1) Zo) Zf)))))))),?_⟩
 refine ⟨_,rfl,l,rfl,⟨_,ay.of hl⟩,fun D hD=>?_⟩;have kS:us.length=rows.length:=Xk hp;refine qk (J:=lE K l) us.length (fun i=>some (V.int (qh (rows.getD i [])))) (fun i x=>us[i]?=some x) hD (by rw [kS];exact Zn hz (by decide)) (fun i H' hi s'=>⟨us,us[i],ay.of (s' _ _ hl),Yk hi⟩) (fun H' s'=>⟨us,ay.of (s' _ _ hl),Yf _⟩) (fun i H' x H2 hi s' hy=>⟨hy.1,hy.2 us (ay.of (s' _ _ hl))⟩) (fun i x H' N hi hx s' k=>?_) fun H' s' hH=>?_
 .obtain ⟨row,iG,cm⟩:=wJ hp hx;refine ao (B:=N none H') ?_;refine ⟨_,rfl,row,x,rfl,ZH.mono _ _ _ _ s' cm,?_⟩;have hk:=k H' (af.refl _);rw [Yi,iG] at hk;exact hk
 .have dh:((List.range us.length).filterMap fun i=>some (V.int (qh (rows.getD i []))))=(rows.map qh).map V.int:=by
   rw [WW,kS];have e1:(List.range rows.length).map (fun i=>V.int (qh (rows.getD i [])))=((List.range rows.length).map fun i=>rows.getD i []).map fun r=>V.int (qh r):=by rw [Xu];rfl
   show (List.range rows.length).map (fun i=>V.int (qh (rows.getD i [])))=_;rw [e1,HQ,Xu];rfl
  rw [dh] at hH;refine ⟨D,rows.map qh,rfl,ay.of hH,_,_,rfl,rfl,(by show (0:Int) < 4294967291;decide),?_⟩;refine ⟨_,rfl,_,_,rfl,rfl,⟨by decide,by decide,by decide⟩,_,_,rfl,rfl,⟨by decide,by decide⟩,?_⟩;refine ⟨_,rfl,_,_,rfl,rfl,⟨by decide,by decide,by decide⟩,_,_,rfl,rfl,⟨by decide,by decide⟩,_,_,rfl,rfl,(by show (0:Int) < 256;decide),?_⟩;refine ⟨_,rfl,_,_,rfl,rfl,⟨by decide,by decide⟩,_,_,rfl,rfl,(by show (0:Int) < 256;decide),_,rfl,_,_,rfl,rfl,(by show (0:Int) < 256;decide),a9 4,fun a ha=>?_⟩;refine q _ _ (s'.trans (Zk ha)) ⟨a,rfl,?_⟩;rw [Zb];rfl
inductive eN (g:Gs) (vs:List V) (H:Hp) (Q:VK) (aD:XK):Prop
 | mk (I:_) (v:_) (n:_):vs=[v,.int n]->jj g H I v->I.heads.length<=1000->I.places.length<=2000->(∀ u H',af H H'->ZH H' (ZK I n) u->Q u H')->eN g vs H Q aD
theorem Zhp:Zm ["image","turn","row"] ["image","turn"] (Zi ZjJ):=ZE (by decide +kernel)
theorem ZhR (T:Tx K mg g):ah P w K mg base (aw P w) 3 g.Hs g.II ["image","turn"] (eN g):=by
 refine T.CI.aG Zhp fun vs H Q E h=>?_;obtain ⟨I,v,n,rfl,⟨p,dx,plv,hdv,rfl,hp,⟨pa,kvs,rfl,i_,sT⟩,⟨ht,rfl,hht⟩⟩,hhl,df,q⟩:=h;refine ⟨rfl,fun _ _ _ _ hr=>?_⟩
 refine ⟨_,(Zd (Zt (i:=2) Zhp.nd rfl (Or.inl rfl) (Zl (Zp4 T) hr.dn rfl T.Zsi T.BV.kp T.jS .nil Zg (Za (ZC jv (ZC jv (Zs (v:=.ref g.MARK) rfl T.Ft rfl) (ed (Za (pv 1) Zf))) (Zp (pv 0) rfl)) (Za (Zs (v:=.int 37) rfl T.ZoV ⟨_,rfl⟩) Zf))))
  (Zh (Zu (Zl (Zp4 T) hr.dn rfl T.Zsi T.BV.kp T.jS .nil Zg (Za (ZC jv (pv 2) (Zl (ZmE T) hr.dn rfl T.ZoH T.JQ.kp T.gD .nil Zg (Za (ZC Fq (mf (Za (pv 2) Zf)) (lC ZrK rfl T.wb PyProof.Rows.Boot.«list» (Za (Zp (pv 0) rfl) Zf))) Zf))) (Za (Zs (v:=.int 64) rfl T.Jz ⟨_,rfl⟩) Zf)))))),?_⟩
 refine ⟨_,rfl,a9 1,fun a ha=>?_⟩;have s1:=Zk (o:=.tup [.int n]) ha;refine ⟨g.MARK,a,_,_,rfl,rfl,T.FA _,av.of Zb,(fun z=>nomatch z),(fun z=>nomatch z),by show 4 + 1<=Yj;decide,fun b H2 s2 hb=>?_⟩;have sA:=s1.trans s2;refine ⟨_,rfl,p,_,dx,_,_,rfl,sA _ _ hp,T.tZ,T.Zh0,E8 _ _,b,ht,_,_,rfl,rfl,av.of hb,av.of (sA _ _ hht),(fun z=>nomatch z),fun _ _=>hb,?_,fun c H3 s3 hc=>?_⟩
 .rw [Yb];exact Zn (m:=2000) (by show 5 + _<=2000;omega) (by decide)
 have p7:ZH H3 (tK++[n]++I.heads) (.ref c):=⟨c,rfl,by rw [hc,Yz];rfl⟩
 have sB:=sA.trans s3;refine ⟨_,_,_,rfl,p7,?_,by decide,by decide,fun u H4 s4 AY=>?_⟩
 .rw [Yd];show 5 + _<=_;omega
 have xB:(c8 (tK++[n]++I.heads) 37).length<=2000:=by
  unfold c8;rw [Yd,YC,Yd];show 5 + _ + _<=_;omega
 change ZH H4 (nP I n) u at AY;change (nP I n).length<=2000 at xB;obtain ⟨d,rfl,hd⟩:=AY;have sC:=sB.trans s4;unfold ZK at q;generalize nP I n=R at hd xB q;refine ⟨_,rfl,_,rfl,a9 1,fun e he=>?_⟩;have s5:=Zk (o:=.lst [.ref d]) he;have sD:=sC.trans s5;refine ⟨_,rfl,p,_,dx,_,_,rfl,sD _ _ hp,T.tZ,T.yT,Bs _ _,pa,kvs,rfl,.inl (sD _ _ i_),fun l bs hl hk=>?_⟩;have s6:=Zk (o:=.lst (bs.map V.ref)) hl;refine ⟨e,l,_,_,rfl,rfl,s6 _ _ Zb,Zb,?_,fun m hm=>?_⟩
 .rw [Yb,hk.1,Yb,sT.len];exact Zn (m:=3000) (by show 1 + _<=3000;omega) (by decide)
 have s7:=Zk (o:=.lst ([.ref d]++bs.map V.ref)) hm;have sE:=s5.trans (s6.trans s7);refine ⟨R::I.places.map (·.1),_,rfl,⟨m,_,rfl,Zb,.cons ⟨d,rfl,sE _ _ hd⟩ ?_⟩,?_,fun u H5 s8 ⟨x,e2,hx⟩=>?_⟩
 .refine Zqn (H:=upd (upd (upd H4 e (.lst [.ref d])) l (.lst (bs.map V.ref))) m (.lst ([.ref d]++bs.map V.ref))) sT hk.1 fun i b k hb hkk=>?_;exact s7 _ _ (s6 _ _ (hk.2 i b k hb hkk))
 .rw [Yv,Yb];omega
 subst e2;have xM:=s8 _ _ (sE _ _ hd);refine ⟨d,x,_,_,rfl,rfl,av.of xM,av.of hx,fun _=>hx,fun _ _=>xM,?_,fun y H6 s9 hy=>?_⟩
 .rw [Yb,Yb];exact Zn (m:=3000) (by show _ + 4<=3000;omega) (by decide)
 refine ⟨_,_,_,rfl,⟨y,rfl,by rw [hy,<- Yz]⟩,?_,by decide,by decide,fun u H7 ip hu7=>?_⟩
 .rw [Yd];show _ + 4<=_;omega
 exact q u H7 (sC.trans (sE.trans (s8.trans (s9.trans ip)))) hu7
def rH (row:Row) (i:Nat):Row:=(row.drop (i * 63)).take 63
def nS (ns:Row):Row:=ns.drop 1++[0]
def yo (row ns:Row) (i:Nat):Row:=(nS ns).getD i 0::(rH row i++List.replicate (63 - (rH row i).length) 0)
def nW (row ns:Row):List Row:=(List.range (nS ns).length).map (yo row ns)
theorem wq (row:Row) (a b:Nat) (h:a<=b):br (row.map V.int) (some (a:Int)) (some (b:Int))=((row.drop a).take (b - a)).map V.int:=by
 unfold br;rw [HT.bT,HT.bT,Yb,<- List.map_drop,<- Yac]
 congr 1
 rcases W2 a row.length with h1 | h1
 .rw [Wo h1];rcases W2 b row.length with h2 | h2
  .rw [Wo h2]
  .rw [XT h2,YW (by rw [YB];exact Yf _),YW (by rw [YB];omega)]
 .rw [XT h1,Wd,WX h1,YaI,YaI]
theorem ZvI (row:Row) (i:Nat):(rH row i).length<=63:=by unfold rH;rw [YH];omega
theorem ZpR {H H':Hp} {vs:List V} {rows:List Row} (h:Wg (fun a b=>ZH H b a) vs rows) (k:∀ a (r:Row),H a=some (.tup (r.map V.int))->H' a=some (.tup (r.map V.int))):Wg (fun a b=>ZH H' b a) vs rows:=by
 induction h with
 | nil=>exact .nil
 | cons a _ ih=>obtain ⟨t,e,ht⟩:=a;exact .cons ⟨t,e,k _ _ ht⟩ ih
inductive cU (vs:List V) (H:Hp) (Q:VK) (aD:XK):Prop
 | mk (row:_) (rv:_) (ns:_) (nv:_):vs=[rv,nv]->ZH H row rv->ZH H ns nv->ns.length<=10000->(∀ l us H',af H H'->H l=none->H' l=some (.lst us)->Wg (fun a b=>ZH H' b a) us (nW row ns)->Q (.ref l) H')->cU vs H Q aD
theorem yS:Zm ["row","numbers","blocks","place","following","part"] ["row","numbers"] (Zi Zgt):=ZE (by decide +kernel)
theorem ZlC (T:Tx K mg g):ah P w K mg base (aw P w) 1 g.IA g.JY ["row","numbers"] cU:=by
 refine T.Ka.aG yS fun vs H Q E h=>?_;obtain ⟨row,rv,ns,nv,rfl,⟨ra,rfl,hra⟩,⟨na,rfl,kT⟩,hz,q⟩:=h;refine ⟨rfl,fun _ _ _ _ hr=>?_⟩
 refine ⟨_,(Zd (Zt (i:=2) yS.nd rfl (Or.inl rfl) (mf Zf))
  (Zd (gN YE rfl (ZpX rfl T.ZqY (Za (ZC jv (jc lB (pv 1) (Z9 Zo) nQ) (ed (Za (Zs (v:=.int 0) rfl T.ZnF ⟨_,rfl⟩) Zf))) Zf)) (Bz rfl (rN (ZG (i:=3) yS.nd rfl (Or.inl rfl)) (rN (ZG (i:=4) yS.nd rfl (Or.inl rfl)) BH))) (Zd (Zt (i:=5) yS.nd rfl (Or.inl rfl) (jc lB (pv 0) (Z9 (ZC pk (pv 3) (Zs (v:=.int 63) rfl T.yK ⟨_,rfl⟩))) (Z9 (ZC pk (ZC gM (pv 3) Zo) (Zs (v:=.int 63) rfl T.yK ⟨_,rfl⟩)))))
  (Zh (ZJ (kc YR Y7 Y6 pI (pv 2) (Za (ZC jv (ZC jv (ed (Za (pv 4) Zf)) (pv 5)) (ZC yp (ed (Za Zo Zf)) (ZC pq (Zs (v:=.int 63) rfl T.yK ⟨_,rfl⟩) (Zv Zw (by rfl) T.cR YA (Za (pv 5) Zf))))) Zf))))))
  (Zh (Zu (pv 2))))),?_⟩
 refine ⟨Yt _,fun B hB=>?_⟩;have s0:=Zk (o:=.lst []) hB;refine ⟨_,rfl,_,rfl,na,_,rfl,s0 _ _ kT,fun c1 H1 s1 lX=>?_⟩;rw [show br (ns.map V.int) (some 1) none=(ns.drop 1).map V.int from GQ ns 1] at lX;refine ⟨a9 1,fun c2 nB=>?_⟩;have s2:=Zk (o:=.tup [.int 0]) nB;refine ⟨c1,c2,_,_,rfl,rfl,av.of (s2 _ _ lX),av.of Zb,fun _=>Zb,(fun z=>nomatch z),?_,fun f H3 s3 hf=>?_⟩
 .rw [Yb,YB];exact Zn (m:=20000) (by show _ + 1<=20000;omega) (by decide)
 have qT:H3 f=some (.tup ((nS ns).map V.int)):=by rw [hf];unfold nS;rw [Yz];rfl
 have sA:=s1.trans (s2.trans s3);have d9:(nS ns).length<=10001:=by unfold nS;rw [Yd,YB];show _ + 1<=_;omega
 refine ⟨f,rfl,⟨_,av.of qT⟩,?_⟩
 refine Zv3 (xs:=(nS ns).map V.int) (fun i σ H'=>∃ o3 o4 o5 us,σ=[some (.ref ra),some (.ref na),some (.ref B),o3,o4,o5]/\H' B=some (.lst us)/\Wg (fun a b=>ZH H' b a) us ((List.range i).map (yo row ns))/\H' f=some (.tup ((nS ns).map V.int))/\af H H')
  ⟨none,none,none,[],rfl,sA _ _ Zb,.nil,qT,s0.trans sA⟩ (fun i σ H' _ h=>?_) (fun i x t σ H' hx h ht=>?_) (fun σ H' h=>?_)
 .obtain ⟨o3,o4,o5,us,rfl,_,_,qT,_⟩:=h;exact av.of qT
 .obtain ⟨o3,o4,o5,us,rfl,tF,hp,qT,sm⟩:=h;rw [Yo] at hx
  cases hn:(nS ns)[i]? with
  | none=>rw [hn] at hx;cases hx
  | some n=>
   rw [hn] at hx
   cases hx
   have hi:i < (nS ns).length:=(List.getElem?_eq_some_iff.mp hn).1;have kS:us.length=i:=by rw [Xk hp,Yb,Xh]
   have s4:=Zk (o:=.tup [.int (i:Nat),.int n]) ht;refine ⟨t,_,rfl,av.of Zb,rfl,_,_,rfl,_,_,rfl,rfl,?_⟩;refine ⟨_,rfl,_,rfl,_,_,rfl,rfl,.inr ⟨by decide,by decide⟩,_,rfl,_,rfl,_,_,rfl,rfl,_,_,rfl,rfl,.inr ⟨by decide,by decide⟩,_,rfl,ra,_,rfl,s4 _ _ (sm _ _ hra),fun pp H5 s5 A1=>?_⟩
   have e1:br (row.map V.int) (some ((i:Int) * 63)) (some (((i:Int) + 1) * 63))=(rH row i).map V.int:=by
    have:=wq row (i * 63) ((i + 1) * 63) (by omega)
    rw [show (((i * 63:Nat):Int))=(i:Int) * 63 by omega,show ((((i + 1) * 63:Nat):Int))=((i:Int) + 1) * 63 by omega] at this;rw [this];unfold rH;rw [show (i + 1) * 63 - i * 63=63 by omega]
   rw [e1] at A1;have df:=ZvI row i;generalize xD:rH row i=part at A1 df;have sB:=s4.trans s5;refine ⟨_,rfl,.inl ⟨rfl,_,ay.of (sB _ _ tF)⟩,?_⟩;refine ⟨_,rfl,a9 1,fun x1 hx1=>?_⟩;have s6:=Zk (o:=.tup [.int n]) hx1;refine ⟨_,rfl,x1,pp,_,_,rfl,rfl,av.of Zb,av.of (s6 _ _ A1),(fun z=>nomatch z),fun _ _=>Zb,?_,fun x2 H7 s7 hx2=>?_⟩
   .rw [Yb];exact Zn (m:=100) (by show 1 + _<=100;omega) (by decide)
   refine ⟨a9 1,fun x3 hx3=>?_⟩;have s8:=Zk (o:=.tup [.int 0]) hx3;have LD:=s8 _ _ (s7 _ _ (s6 _ _ A1));refine ⟨_,rfl,pp,_,rfl,.inr (av.of LD),_,_,rfl,rfl,x3,_,_,rfl,rfl,Zb,by simp,?_,?_,?_,fun x4 H9 s9 hx4=>?_⟩
   .rw [Yb];omega
   .rw [Yb];omega
   .rw [Yb];show 1 * _<=_;exact Zn (m:=100) (by omega) (by decide)
   rw [wz,Yb] at hx4;have zA:=s9 _ _ (s8 _ _ hx2);refine ⟨x2,x4,_,_,rfl,rfl,av.of zA,av.of hx4,(fun z=>nomatch z),fun _ _=>zA,?_,fun x5 gO ip hx5=>?_⟩
   .rw [Yd,Yb,YC];exact Zn (m:=300) (by show 1 + _ + _<=300;omega) (by decide)
   have sC:=sB.trans (s6.trans (s7.trans (s8.trans (s9.trans ip))));refine ⟨B,us,_,rfl,rfl,sC _ _ tF,?_,?_⟩
   .rw [kS]
    have:(10002:Nat)<=Yj:=by decide
    omega
   have sD:∀ b o,H b=some o->(upd gO B (.lst (us++[.ref x5]))) b=some o:=fun b o e=>by rw [Ze (Zc e hB)];exact sC _ _ (sm _ _ e)
   have nfB:f≠B:=ZD qT tF (by intro z;cases z);have nx5:x5≠B:=ZD hx5 (sC _ _ tF) (by intro z;cases z);refine ⟨_,_,_,us++[.ref x5],rfl,Zb,?_,(by rw [Ze nfB];exact sC _ _ qT),sD⟩;rw [List.range_succ,Yz];refine YaE ?_ ⟨x5,rfl,?_⟩
   .refine ZpR hp fun a row' ha=>?_;have u7:a≠B:=ZD ha tF (by intro z;cases z);rw [Ze u7];exact sC _ _ ha
   .rw [Ze nx5,hx5];unfold yo;rw [xD,Yi,hn];rw [Yx,Yz,XW];have e2:((63:Int) - (part.length:Int)).toNat=63 - part.length:=by omega
    rw [e2];rfl
 .obtain ⟨o3,o4,o5,us,rfl,tF,hp,qT,sm⟩:=h;rw [Yb] at hp;exact ⟨_,rfl,q B us _ sm hB tF hp⟩
end KS
namespace L2
open PySem PySem.Spec PyProof.Rows PySem.W
theorem ZuT {d:Addr} {ob:Obj} {kvs:List (List Key×V)} {g:TG} {tb:TS} {D:Ends} {σ:St} {H:Hp} (Pv:Nat->St->Hp->Prop) (h0:Pv 0 σ H) (hl:∀ i σ H,i<=kvs.length->Pv i σ H->H d=some (.bf ob (.dT kvs)))
  (hs:∀ i t b k v σ H,kvs[i]?=some (k,v)->H b=some (.tup (k.map kV))->H t=none->Pv i σ H->g (.ref t) σ (upd H t (.tup [.ref b,v])) fun aQ H2=>tb {D with nx:=Pv (i + 1),ct:=Pv (i + 1),bk:=D.nx} aQ H2) (hd:∀ σ H,Pv kvs.length σ H->D.nx σ H) :
  ∃ W:Nat->Nat->St->Hp->Prop,(∃ m,W 0 m σ H)/\∀ i m σ H,W i m σ H->
   ((yY d ob kvs).stop i H/\D.nx σ H)∨((yY d ob kvs).go i H/\∃ N:St->Hp->Prop,(∀ ar H',N ar H'->∃ m',m' < m/\W (i + 1) m' ar H')/\∀ x H',(yY d ob kvs).ik i H x H'->g x σ H' fun aQ H2=>tb {D with nx:=N,ct:=N,bk:=D.nx} aQ H2):=by
 refine ⟨fun i m σ H=>m=kvs.length - i/\i<=kvs.length/\Pv i σ H,⟨kvs.length,by simp,Yt _,h0⟩,?_⟩
 rintro i m σ H ⟨rfl,hi,p⟩
 have q:=hl i σ H hi p
 by_cases aT:i < kvs.length
 .refine .inr ⟨⟨q,aT⟩,Pv (i + 1),fun ar H' p'=>⟨kvs.length - (i + 1),by omega,rfl,aT,p'⟩,fun x H' y=>?_⟩;obtain ⟨t,b,k,v,ht,rfl,hk,hb,rfl⟩:=y;exact hs i t b k v σ _ hk hb ht p
 .have e:i=kvs.length:=by omega
  subst e;exact .inl ⟨⟨q,Yf _⟩,hd σ H p⟩
theorem Zxk {K:Frag} {a b:Addr} {xs ys:List V} {g:TG} {tb:TS} {D:Ends} {σ:St} {H:Hp} (Pv:Nat->St->Hp->Prop) (hxy:xs.length=ys.length) (h0:Pv 0 σ H) (hl:∀ i σ H,i<=xs.length->Pv i σ H->av K H a xs/\ay K H b ys)
  (hs:∀ i x y t σ H,xs[i]?=some x->ys[i]?=some y->H t=none->Pv i σ H->g (.ref t) σ (upd H t (.tup [x,y])) fun aQ H2=>tb {D with nx:=Pv (i + 1),ct:=Pv (i + 1),bk:=D.nx} aQ H2) (hd:∀ σ H,Pv xs.length σ H->D.nx σ H) :
  ∃ W:Nat->Nat->St->Hp->Prop,(∃ m,W 0 m σ H)/\∀ i m σ H,W i m σ H->
   ((yX K a b).stop i H/\D.nx σ H)∨((yX K a b).go i H/\∃ N:St->Hp->Prop,(∀ ar H',N ar H'->∃ m',m' < m/\W (i + 1) m' ar H')/\∀ x H',(yX K a b).ik i H x H'->g x σ H' fun aQ H2=>tb {D with nx:=N,ct:=N,bk:=D.nx} aQ H2):=by
 refine ⟨fun i m σ H=>m=xs.length - i/\i<=xs.length/\Pv i σ H,⟨xs.length,by simp,Yt _,h0⟩,?_⟩
 rintro i m σ H ⟨rfl,hi,p⟩
 obtain ⟨q1,q2⟩:=hl i σ H hi p
 by_cases aT:i < xs.length
 .have kz:i < ys.length:=by omega
  refine .inr ⟨⟨xs,ys,xs[i],ys[i],q1,q2,by simp [aT],by simp [kz]⟩,Pv (i + 1),fun ar H' p'=>⟨xs.length - (i + 1),by omega,rfl,aT,p'⟩,fun z H' y=>?_⟩;obtain ⟨t,x,y,ht,rfl,h1,h2,rfl⟩:=y;exact hs i x y t σ _ (h1 xs q1) (h2 ys q2) ht p
 .have e:i=xs.length:=by omega
  subst e;exact .inl ⟨⟨xs,ys,q1,q2,.inl (Yf _)⟩,hd σ H p⟩
end L2
namespace KS
open PySem L2
variable {P:Program} {w:World} {K:Yg} {mg:Str->Option Value} {base:Heap} {g:Gs}
def l_ (H:Hp) (o:Option Row) (v:V):Prop:=match o with
 | none=>v=.aH
 | some r=>ZH H r v
inductive gz where
 | wr (n:Int) (b:Option Row)
 | bar
def tM (H:Hp) (e:gz) (v:V):Prop:=match e with
 | .wr n b=>∃ t u,v=.ref t/\H t=some (.tup [.str "write",.int n,u])/\l_ H b u
 | .bar=>∃ t,v=.ref t/\H t=some (.tup [.str "barrier"])
structure aR where
 blocks:List (Option Row)
 log:List gz
structure Zzr (g:Gs) (H:Hp) (p b l:Addr) (D:aR) (dx:Addr) (vb vl:List V):Prop where
 ob:H p=some (.ins g.aX dx (bC b l))
 hb:H b=some (.lst vb)
 hl:H l=some (.lst vl)
 rb:Wg (fun v o=>l_ H o v) vb D.blocks
 rl:Wg (fun v e=>tM H e v) vl D.log
 ne:b≠l
def cF (g:Gs) (H:Hp) (p b l:Addr) (D:aR):Prop:=∃ dx vb vl,Zzr g H p b l D dx vb vl
theorem l_.keep {H H':Hp} (k:∀ t xs,H t=some (.tup xs)->H' t=some (.tup xs)) {o:Option Row} {v:V} (h:l_ H o v):l_ H' o v:=by
 cases o with
 | none=>exact h
 | some r=>obtain ⟨t,e,ht⟩:=h;exact ⟨t,e,k _ _ ht⟩
theorem tM.keep {H H':Hp} (k:∀ t xs,H t=some (.tup xs)->H' t=some (.tup xs)) {e:gz} {v:V} (h:tM H e v):tM H' e v:=by
 cases e with
 | wr n b=>obtain ⟨t,u,e,ht,hb⟩:=h;exact ⟨t,u,e,k _ _ ht,hb.keep k⟩
 | bar=>obtain ⟨t,e,ht⟩:=h;exact ⟨t,e,k _ _ ht⟩
theorem mV {α β:Type} {F G:α->β->Prop} (k:∀ a b,F a b->G a b):∀ {xs:List α} {ys:List β},Wg F xs ys->Wg G xs ys
 | _,_,.nil=>.nil
 | _,_,.cons a t=>.cons (k _ _ a) (mV k t)
theorem Znn {α β:Type} {F:α->β->Prop} {a:α} {b:β} (h:F a b):∀ {xs:List α} {ys:List β} (i:Nat),Wg F xs ys->Wg F (xs.set i a) (ys.set i b)
 | _,_,_,.nil=>.nil
 | _,_,0,.cons _ t=>.cons h t
 | _,_,i + 1,.cons a' t=>.cons a' (Znn h i t)
def ZyT (o:HO):Prop:=(∃ xs,o=.tup xs)∨(∃ xs,o=.lst xs)∨∃ C dx b l,o=.ins C dx (bC b l)
theorem cF.keep {g:Gs} {H H':Hp} {p b l:Addr} {D:aR} (h:cF g H p b l D) (k:∀ d o,H d=some o->ZyT o->H' d=some o):cF g H' p b l D:=by
 obtain ⟨dx,vb,vl,h⟩:=h;have kt:∀ t xs,H t=some (.tup xs)->H' t=some (.tup xs):=fun t xs e=>k _ _ e (.inl ⟨xs,rfl⟩);exact ⟨dx,vb,vl,k _ _ h.ob (.inr (.inr ⟨_,_,_,_,rfl⟩)),k _ _ h.hb (.inr (.inl ⟨_,rfl⟩)),k _ _ h.hl (.inr (.inl ⟨_,rfl⟩)),mV (fun _ _ z=>l_.keep kt z) h.rb,mV (fun _ _ z=>tM.keep kt z) h.rl,h.ne⟩
theorem cF.same {g:Gs} {H H':Hp} {p b l:Addr} {D:aR} (s:af H H') (h:cF g H p b l D):cF g H' p b l D:=h.keep fun d o e _=>s _ _ e
def aR.write (D:aR) (n:Int) (b:Option Row):aR:=⟨D.blocks.set n.toNat b,D.log++[.wr n b]⟩
def aR.bU (D:aR):aR:=⟨D.blocks,D.log++[.bar]⟩
theorem Gp {g:Gs} {H:Hp} {p b l:Addr} {D:aR} {n:Int} {blk:Option Row} {v:V} {Q:VK} {E:XK} (hD:cF g H p b l D) (hv:l_ H blk v) (h0:0<=n) (h1:n < (D.blocks.length:Int)) (hz:D.log.length<=100000)
  (q:∀ H',aJ b l H H'->cF g H' p b l (D.write n blk)->Q .aH H'):iN g.aX [.ref p,.int n,v] H Q E:=by
 obtain ⟨dx,vb,vl,h⟩:=hD;have tj:vb.length=D.blocks.length:=Xk h.rb;have En:vl.length=D.log.length:=Xk h.rl;refine ⟨p,dx,b,l,vb,vl,n,v,rfl,h.ob,h.hb,h.hl,h.ne,h0,by rw [tj];exact h1,by rw [En];exact hz,fun t ht=>?_⟩;have ntb:b≠t:=Zc h.hb ht;have DY:l≠t:=Zc h.hl ht;have AO:p≠b:=ZD h.ob h.hb (by intro z;cases z);have D0:p≠l:=ZD h.ob h.hl (by intro z;cases z)
 have k:aJ b l H (upd (upd (upd H b (.lst (vb.set n.toNat v))) t (.tup [.str "write",.int n,v])) l (.lst (vl++[.ref t]))):=fun d o e pZ hd2=>by
  rw [Ze hd2,Ze (Zc e ht),Ze pZ];exact e
 have kt:∀ d xs,H d=some (.tup xs)->(upd (upd (upd H b (.lst (vb.set n.toNat v))) t (.tup [.str "write",.int n,v])) l (.lst (vl++[.ref t]))) d=some (.tup xs):=fun d xs e=>k _ _ e (ZD e h.hb (by intro z;cases z)) (ZD e h.hl (by intro z;cases z));refine q _ k ⟨dx,vb.set n.toNat v,_,k _ _ h.ob AO D0,?_,Zb,?_,?_,h.ne⟩
 .rw [Ze h.ne,Ze ntb,Zb]
 .exact Znn (F:=fun v o=>l_ _ o v) (hv.keep kt) _ (mV (fun _ _ z=>l_.keep kt z) h.rb)
 .refine YaE (mV (fun _ _ z=>tM.keep kt z) h.rl) ⟨t,v,rfl,?_,hv.keep kt⟩;rw [Ze DY.symm,Zb]
theorem ZnO {g:Gs} {H:Hp} {p b l:Addr} {D:aR} {Q:VK} {E:XK} (hD:cF g H p b l D) (hz:D.log.length<=100000) (q:∀ H',aJ b l H H'->cF g H' p b l D.bU->Q .aH H'):ot g.aX [.ref p] H Q E:=by
 obtain ⟨dx,vb,vl,h⟩:=hD;have En:vl.length=D.log.length:=Xk h.rl;refine ⟨p,dx,b,l,vl,rfl,h.ob,h.hl,by rw [En];exact hz,fun t ht=>?_⟩;have DY:l≠t:=Zc h.hl ht;have AO:p≠b:=ZD h.ob h.hb (by intro z;cases z);have D0:p≠l:=ZD h.ob h.hl (by intro z;cases z)
 have k:∀ d o,H d=some o->d≠l->(upd (upd H t (.tup [.str "barrier"])) l (.lst (vl++[.ref t]))) d=some o:=fun d o e hd2=>by
  rw [Ze hd2,Ze (Zc e ht)];exact e
 have kt:∀ d xs,H d=some (.tup xs)->(upd (upd H t (.tup [.str "barrier"])) l (.lst (vl++[.ref t]))) d=some (.tup xs):=fun d xs e=>k _ _ e (ZD e h.hl (by intro z;cases z));refine q _ (fun d o e _ h2=>k d o e h2) ⟨dx,_,_,k _ _ h.ob D0,k _ _ h.hb h.ne,Zb,mV (fun _ _ z=>l_.keep kt z) h.rb,?_,h.ne⟩;refine YaE (mV (fun _ _ z=>tM.keep kt z) h.rl) ⟨t,rfl,?_⟩;rw [Ze DY.symm,Zb]
def km (D:aR):Int:=if (256:Int) < (D.blocks.length:Int) then 256 else (D.blocks.length:Int)
structure qr where
 slot:Int
 turn:Int
 synced:Zq
def cX (d s t y:V):List (Str×V):=aq "synced" y (aq "turn" t (aq "slot" s (aq "disk" d [])))
theorem DJ:¬ (("disk":Str)="synced"):=by decide +kernel
theorem DI:¬ (("disk":Str)="turn"):=by decide +kernel
theorem DH:¬ (("disk":Str)="slot"):=by decide +kernel
theorem DG:¬ (("slot":Str)="synced"):=by decide +kernel
theorem DF:¬ (("slot":Str)="turn"):=by decide +kernel
theorem DE:¬ (("turn":Str)="synced"):=by decide +kernel
theorem x_ (d s t y:V):(cX d s t y).lookup ("disk":Str)=some d:=by unfold cX;rw [Zj,if_neg DJ,Zj,if_neg DI,Zj,if_neg DH,Zj,if_pos rfl]
theorem x' (d s t y:V):(cX d s t y).lookup ("slot":Str)=some s:=by unfold cX;rw [Zj,if_neg DG,Zj,if_neg DF,Zj,if_pos rfl]
theorem ZxK (d s t y:V):(cX d s t y).lookup ("turn":Str)=some t:=by unfold cX;rw [Zj,if_neg DE,Zj,if_pos rfl]
theorem Ff (d s t y:V):(cX d s t y).lookup ("synced":Str)=some y:=by unfold cX;rw [Zj,if_pos rfl]
theorem yg (d s t y:V) {m:Str} (h1:¬ m="synced":=by decide +kernel) (h2:¬ m="turn":=by decide +kernel) (h3:¬ m="slot":=by decide +kernel) (h4:¬ m="disk":=by decide +kernel):(cX d s t y).lookup m=none:=by
 unfold cX;rw [Zj,if_neg h1,Zj,if_neg h2,Zj,if_neg h3,Zj,if_neg h4];rfl
theorem qe (d s t y:V):cX d s t y=([("disk",d),("slot",s),("turn",t),("synced",y)]:List (Str×V)):=by
 have e1:aq "slot" s [(("disk":Str),d)]=([("disk",d),("slot",s)]:List (Str×V)):=by
  show (if ("disk":Str)="slot" then [(("disk":Str),s)] else (("disk":Str),d)::aq "slot" s [])=_;rw [if_neg DH];rfl
 have e2:aq "turn" t [(("disk":Str),d),(("slot":Str),s)]=([("disk",d),("slot",s),("turn",t)]:List (Str×V)):=by
  show (if ("disk":Str)="turn" then (("disk":Str),t)::[(("slot":Str),s)] else (("disk":Str),d)::(if ("slot":Str)="turn" then [(("slot":Str),t)] else (("slot":Str),s)::aq "turn" t []))=_;rw [if_neg DI,if_neg DF];rfl
 have e3:aq "synced" y [(("disk":Str),d),(("slot":Str),s),(("turn":Str),t)]=([("disk",d),("slot",s),("turn",t),("synced",y)]:List (Str×V)):=by
  show (if ("disk":Str)="synced" then (("disk":Str),y)::[(("slot":Str),s),(("turn":Str),t)] else (("disk":Str),d)::(if ("slot":Str)="synced" then (("slot":Str),y)::[(("turn":Str),t)] else (("slot":Str),s)::(if ("turn":Str)="synced" then [(("turn":Str),y)] else (("turn":Str),t)::aq "synced" y [])))=_;rw [if_neg DJ,if_neg DG,if_neg DE];rfl
 show aq "synced" y (aq "turn" t (aq "slot" s [(("disk":Str),d)]))=_;rw [e1,e2,e3]
theorem Zvt (d s t y s':V):aq "slot" s' (cX d s t y)=cX d s' t y:=by
 rw [qe,qe];show (if ("disk":Str)="slot" then (("disk":Str),s')::[(("slot":Str),s),(("turn":Str),t),(("synced":Str),y)] else (("disk":Str),d)::(if ("slot":Str)="slot" then (("slot":Str),s')::[(("turn":Str),t),(("synced":Str),y)] else _))=_;rw [if_neg DH,if_pos rfl]
theorem Zvr (d s t y t':V):aq "turn" t' (cX d s t y)=cX d s t' y:=by
 rw [qe,qe];show (if ("disk":Str)="turn" then (("disk":Str),t')::[(("slot":Str),s),(("turn":Str),t),(("synced":Str),y)] else (("disk":Str),d)::(if ("slot":Str)="turn" then (("slot":Str),t')::[(("turn":Str),t),(("synced":Str),y)] else (("slot":Str),s)::(if ("turn":Str)="turn" then (("turn":Str),t')::[(("synced":Str),y)] else _)))=_;rw [if_neg DI,if_neg DF,if_pos rfl]
theorem Zvs (d s t y y':V):aq "synced" y' (cX d s t y)=cX d s t y':=by
 rw [qe,qe];show (if ("disk":Str)="synced" then (("disk":Str),y')::[(("slot":Str),s),(("turn":Str),t),(("synced":Str),y)] else (("disk":Str),d)::(if ("slot":Str)="synced" then (("slot":Str),y')::[(("turn":Str),t),(("synced":Str),y)] else (("slot":Str),s)::(if ("turn":Str)="synced" then (("turn":Str),y')::[(("synced":Str),y)] else (("turn":Str),t)::(if ("synced":Str)="synced" then [(("synced":Str),y')] else _))))=_;rw [if_neg DJ,if_neg DG,if_neg DE,if_pos rfl]
def nH (g:Gs) (H:Hp) (q p:Addr) (S:qr):Prop:=∃ dx y,H q=some (.ins g.aK dx (cX (.ref p) (.int S.slot) (.int S.turn) y))/\gJ H S.synced y
theorem nH.same {g:Gs} {H H':Hp} {q p:Addr} {S:qr} (s:af H H'):nH g H q p S->nH g H' q p S
 | ⟨dx,y,h1,h2⟩=>⟨dx,y,s _ _ h1,gJ.mono _ _ _ _ s h2⟩
theorem F_ (b l:Addr):(bC b l).lookup ("write":Str)=none:=BI b l (by decide +kernel) (by decide +kernel)
theorem Znr (b l:Addr):(bC b l).lookup ("barrier":Str)=none:=BI b l (by decide +kernel) (by decide +kernel)
def mj (T:qr) (D:aR) (S:aF) (k:Kept):Except Rf iA:=ly S k (kh (km D) T.synced) T.synced
theorem ZqC (n:Int) (pl:Zq) (h:n<=256):(kh n pl).length<=256:=by
 unfold kh;refine Yn (WG _ _) ?_;rw [Xh];omega
structure vI (pl:Zq):Prop where
 n:pl.length<=1000
 ne:∀ p∈pl,p.2≠[]
 fl:(pl.map (·.2)).flatten.length<=100000
theorem ml (f:Str) (v:V):∀ fs:List (Str×V),(aq f v fs).length<=fs.length + 1
  | []=>Yf _
  | (k,x)::r=>by
    show (if k=f then (k,v)::r else (k,x)::aq f v r).length<=r.length + 1 + 1
    split
    · exact Wk _
    · exact YN (ml f v r)
inductive fR (g:Gs) (vs:List V) (H:Hp) (Q:VK) (aD:XK):Prop
 | mk (p:_) (b:_) (l:_) (D:_):vs=[.ref p]->cF g H p b l D->Q (.int (km D)) H->fR g vs H Q aD
theorem Zmu:Zm ["disk"] ["disk"] (Zi ZhB):=ZE (by decide +kernel)
theorem Zgy (T:Tx K mg g):ah P w K mg base (aw P w) 1 g.Iy g.Ju ["disk"] (fR g):=by
 refine T.CO.aG Zmu fun vs H Q E h=>?_;obtain ⟨p,b,l,D,rfl,⟨dx,vb,vl,hD⟩,q⟩:=h;refine ⟨rfl,fun _ _ _ _ hr=>?_⟩;refine ⟨_,(Zh (Zu (Zv (Zvi rfl) (by rfl) T.ZyW PyProof.Rows.Boot.«min» (Za (Zv Zw (by rfl) T.cR YA (Za (Zp (pv 0) rfl) Zf)) (Za (Zs (v:=.int 256) rfl T.Zib ⟨_,rfl⟩) Zf))))),?_⟩;refine ⟨_,rfl,p,_,dx,_,_,rfl,hD.ob,T.iy,T.wX,By _ _,b,_,rfl,.inl (ay.of hD.hb),_,_,rfl,?_⟩;rw [Xk hD.rb];exact q
inductive gR (g:Gs) (vs:List V) (H:Hp) (Q:VK) (aD:XK):Prop
 | mk (q:_) (dx:_) (d:_) (s:_) (t:_) (y:_):vs=[.ref q,d,s,t,y]->H q=some (.ins g.aK dx [])->(∀ H',(∀ b o,H b=some o->b≠q->H' b=some o)->H' q=some (.ins g.aK dx (cX d s t y))->Q .aH H')->gR g vs H Q aD
theorem Zn8:Zm ["self","disk","slot","turn","synced"] ["self","disk","slot","turn","synced"] (Zi ZjR):=ZE (by decide +kernel)
theorem ZhV (T:Tx K mg g):ah P w K mg base (aw P w) 1 g.Hh g.Jj ["self","disk","slot","turn","synced"] (gR g):=by
 refine T.Zkm.aG Zn8 fun vs H Q E h=>?_;obtain ⟨q0,dx,d,s0,t,y,rfl,hq,q⟩:=h;refine ⟨rfl,fun _ _ _ _ hr=>?_⟩
 refine ⟨_,(Zd (ee (pv 0) (pv 1) rfl)
  (Zd (ee (pv 0) (pv 2) rfl)
  (Zd (ee (pv 0) (pv 3) rfl)
  (Zh (ee (pv 0) (pv 4) rfl))))),?_⟩
 refine ⟨_,rfl,_,rfl,q0,g.aK,dx,[],rfl,hq,T.fu,T.wQ,(by show 0 < 1000;decide),?_⟩;refine ⟨_,rfl,_,rfl,q0,g.aK,dx,_,rfl,Zb,T.fu,T.Dd,(by show 1 < 1000;decide),?_⟩;refine ⟨_,rfl,_,rfl,q0,g.aK,dx,_,rfl,Zb,T.fu,T.De,?_,?_⟩
 .exact YL (ml _ _ _) (YL (YN (ml _ _ _)) (by show 2 < 1000;decide))
 refine ⟨_,rfl,_,rfl,q0,g.aK,dx,_,rfl,Zb,T.fu,T.yU,?_,?_⟩
 .exact YL (ml _ _ _) (YL (YN (ml _ _ _)) (YL (YN (YN (ml _ _ _))) (by show 3 < 1000;decide)))
 refine q _ (fun b o e hb=>?_) Zb;rw [Ze hb,Ze hb,Ze hb,Ze hb];exact e
inductive fO (g:Gs) (vs:List V) (H:Hp) (Q:VK) (E:XK):Prop
 | mk (q:_) (p:_) (b:_) (l:_) (T:_) (D:_) (v:_) (S:_) (kv:_) (k:_):vs=[.ref q,v,kv]->nH g H q p T->cF g H p b l D->ZB g H S v->cQ g H k kv->eZ S->kf k->vI T.synced->gn g (jj g) H (mj T D S k) Q E->fO g vs H Q E
theorem ZcT:Zm ["self","state","kept","free"] ["self","state","kept"] (Zi ZdK):=ZE (by decide +kernel)
theorem ZcZ (T:Tx K mg g):ah P w K mg base (aw P w) 5 g.Kq g.Ky ["self","state","kept"] (fO g):=by
 refine T.Zd0.aG ZcT fun vs H Q E h=>?_;obtain ⟨q0,p,b,l,T0,D,v,S,kv,k,rfl,⟨dx,y,hq,hy⟩,hD,hS,hk,so,kk,po,q⟩:=h;refine ⟨rfl,fun _ _ _ _ hr=>?_⟩
 refine ⟨_,(Zd (Zt (i:=3) ZcT.nd rfl (Or.inl rfl) (Zl (ZlB T) hr.dn rfl T.ZmO T.Kb.kp T.f9 .nil Zg (Za (Zl (Zgy T) hr.dn rfl T.Zh3 T.CO.kp T.cV .nil Zg (Za (Zp (pv 0) rfl) Zf)) (Za (Zp (pv 0) rfl) Zf))))
  (Zh (Zu (Zl (ZlA T) hr.dn rfl T.Znx T.Cn.kp T.fW .nil Zg (Za (pv 1) (Za (pv 2) (Za (pv 3) (Za (Zp (pv 0) rfl) Zf)))))))),?_⟩
 obtain ⟨ya,ky,rfl,va,hyd⟩:=id hy;refine ⟨_,rfl,q0,_,dx,_,_,rfl,hq,T.fu,T.wQ,x_ _ _ _ _,p,b,l,D,rfl,hD,_,rfl,q0,_,dx,_,_,rfl,hq,T.fu,T.yU,Ff _ _ _ _,?_⟩;have tf:0<=km D:=by unfold km;split <;> omega
 have lX:km D<=256:=by unfold km;split <;> omega
 refine ⟨_,_,T0.synced,rfl,hy,tf,lX,po.n,po.fl,fun f H1 s1 hf=>?_⟩;refine ⟨_,rfl,_,rfl,_,rfl,_,rfl,q0,_,dx,_,_,rfl,s1 _ _ hq,T.fu,T.yU,Ff _ _ _ _,?_⟩;refine ⟨v,S,kv,k,f,_,_,T0.synced,rfl,ZB.mono _ _ _ _ s1 hS,cQ.mono _ _ _ _ s1 hk,hf,gJ.mono _ _ _ _ s1 hy,so,kk,Yn (ZqC _ _ lX) (by decide),po.ne,?_⟩;unfold mj at q
 cases hm:ly S k (kh (km D) T0.synced) T0.synced with
 | error r=>rw [hm] at q;exact fun H' s'=>q H' (s1.trans s')
 | ok I=>rw [hm] at q;exact fun v' H' s' h'=>q v' H' (s1.trans s') h'
def yi (D:aR) (p:Int×Row):aR:=D.write p.1 (some p.2)
def FX (D:aR) (row ns:Row):aR:=(ns.zip (nW row ns)).foldl yi D
def gm (gp:Zq) (D:aR) (p:Row×Row):aR:=if (aa gp p.1).isSome then D else FX D p.1 p.2
def jk (T:qr) (D:aR) (I:iA):qr×aR:=
 (⟨1 - T.slot,(T.turn + 1) % 256,I.places⟩,((((I.places.foldl (gm T.synced) D).bU).write (1 - T.slot) (some (ZK I ((T.turn + 1) % 256)))).bU))
theorem Zfz {row ns:Row} (h:ns≠[]):(nW row ns).length=ns.length:=by
 unfold nW nS;rw [Yb,Xh,Yd,YB]
 have:0 < ns.length:=List.length_pos_iff.mpr h
 show ns.length - 1 + 1=ns.length;omega
theorem Fz:∀ (ps:List (Int×Row)) (D:aR),(ps.foldl yi D).blocks.length=D.blocks.length/\(ps.foldl yi D).log.length=D.log.length + ps.length
 | [],D=>⟨rfl,rfl⟩
 | p::ps,D=>by
  obtain ⟨h1,h2⟩:=Fz ps (yi D p);rw [Yai];refine ⟨h1.trans (WM ..),h2.trans ?_⟩;show (D.log++[gz.wr p.1 (some p.2)]).length + ps.length=_
  simp only [Yd,Yv,WN]
  omega
theorem BC (gp:Zq):∀ (pl:Zq) (D:aR),(∀ p∈pl,p.2≠[])->(pl.foldl (gm gp) D).blocks.length=D.blocks.length/\(pl.foldl (gm gp) D).log.length<=D.log.length + (pl.map (·.2)).flatten.length
 | [],D,_=>⟨rfl,Yf _⟩
 | p::pl,D,h=>by
  obtain ⟨h1,h2⟩:=BC gp pl (gm gp D p) fun q hq=>h q (Yp _ hq)
  have hs:(gm gp D p).blocks.length=D.blocks.length/\(gm gp D p).log.length<=D.log.length + p.2.length:=by
   unfold gm
   split
   .exact ⟨rfl,Xb _ _⟩
   .unfold FX;obtain ⟨a1,a2⟩:=Fz (p.2.zip (nW p.1 p.2)) D;refine ⟨a1,?_⟩;rw [a2,YaZ,Zfz (h p Yw),Nat.min_self];exact Yf _
  rw [Yai,Yx,XJ,Yd];refine ⟨h1.trans hs.1,?_⟩;omega
theorem HN {α β:Type} (f:β->α->β) (b:β) (xs:List α) {i:Nat} {x:α} (h:xs[i]?=some x):(xs.take (i + 1)).foldl f b=f ((xs.take i).foldl f b) x:=by
 have hi:i < xs.length:=(List.getElem?_eq_some_iff.mp h).1;rw [Y9 hi,List.foldl_append,(List.getElem?_eq_some_iff.mp h).2];rfl
theorem Zxn {H:Hp} {a t:Addr} {kvs:List (List Key×V)} {row:Row} (e:Rd H a (.dT kvs)) (ht:H t=some (.tup (row.map V.int))):aE H a (.ref t) (aY kvs (rKey row)):=.inr ⟨kvs,rKey row,t,e,rfl,by rw [wo];exact ht,rfl⟩
theorem ZqF {H:Hp}:∀ {pl:Zq} {kvs:List (List Key×V)},ZT rKey ZH H pl kvs->∀ {i:Nat} {k:List Key} {v:V},kvs[i]?=some (k,v)->∃ row ns,pl[i]?=some (row,ns)/\k=rKey row/\ZH H ns v
 | _,_,.nil,i,k,v,h=>by simp at h
 | q::_,p::_,.cons a t,0,k,v,h=>by
  simp at h
  obtain ⟨a1,a2⟩:=a;rw [h] at a1 a2;exact ⟨q.1,q.2,rfl,a1,a2⟩
 | _,_,.cons a t,i + 1,k,v,h=>by
  obtain ⟨row,ns,h1,h2,h3⟩:=ZqF t (i:=i) (by simpa using h);exact ⟨row,ns,by simpa using h1,h2,h3⟩
theorem BY {H H':Hp} (k:∀ d xs,H d=some (.tup xs)->H' d=some (.tup xs)) {pl:Zq} {kvs:List (List Key×V)} (h:ZT rKey ZH H pl kvs):ZT rKey ZH H' pl kvs:=by
 unfold ZT at *
 induction h with
 | nil=>exact .nil
 | cons a _ ih=>obtain ⟨e1,t,e2,ht⟩:=a;exact .cons ⟨e1,t,e2,k _ _ ht⟩ ih
structure xZ (D:aR) (I:iA):Prop where
 n:I.places.length<=1000
 h:I.heads.length<=1000
 ne:∀ p∈I.places,p.2≠[]/\p.2.length<=1000/\∀ n∈p.2,0<=n/\n < (D.blocks.length:Int)
 fl:(I.places.map (·.2)).flatten.length<=50000
inductive oC (g:Gs) (vs:List V) (H:Hp) (Q:VK) (aD:XK):Prop
 | mk (q:_) (p:_) (b:_) (l:_) (T:_) (D:_) (v:_) (I:_):vs=[.ref q,v]->nH g H q p T->cF g H p b l D->jj g H I v->xZ D I->(T.slot=0∨T.slot=1)->2<=D.blocks.length->D.log.length<=40000->(∀ H',(∀ d o,H d=some o->d≠b->d≠l->d≠q->H' d=some o)->nH g H' q p (jk T D I).1->cF g H' p b l (jk T D I).2->Q .aH H')->oC g vs H Q aD
theorem yO:Zm ["self","image","row","numbers","number","block"] ["self","image"] (Zi ZjQ):=ZE (by decide +kernel)
theorem ZhU (T:Tx K mg g):ah P w K mg base (aw P w) 8 g.Hi g.Jk ["self","image"] (oC g):=by
 refine T.Zkl.aG yO fun vs H Q E h=>?_;obtain ⟨q0,p,b,l,T0,D,v,I,rfl,⟨dw,y,hq,hy⟩,hD,⟨pi,E3,plv,hdv,rfl,oX,⟨pa,kvs,rfl,i_,sT⟩,hhd⟩,io,Am,tq,n_,q⟩:=h;refine ⟨rfl,fun _ _ _ _ hr=>?_⟩;obtain ⟨ya,ky,rfl,va,hyd⟩:=id hy;have hu:=u1 hr.units;obtain ⟨Bl,vb,vl,c7⟩:=id hD
 refine ⟨_,(Zd (yt (gN YE rfl (ZvF (qg YT YaL YaK GL (Zp (pv 1) rfl))) (Bz rfl (rN (ZG (i:=2) yO.nd rfl (Or.inl rfl)) (rN (ZG (i:=3) yO.nd rfl (Or.inl rfl)) BH))) (Zh (ZZ (fo (ub hu (pv 2) (Zp (pv 0) rfl))) (Zh (gN YE rfl (Zx7 rfl T.ZyU (Za (pv 3) (Za (Zl (ZlC T) hr.dn rfl T.ZmP T.Ka.kp T.f_ .nil Zg (Za (pv 2) (Za (pv 3) Zf))) Zf))) (Bz rfl (rN (ZG (i:=4) yO.nd rfl (Or.inl rfl)) (rN (ZG (i:=5) yO.nd rfl (Or.inl rfl)) BH))) (Zh (ZJ (ZQ (Zp (pv 0) rfl) T.iy T.IH (JF T) hr.dn T.bY .nil Zg (Za (pv 4) (Za (pv 5) Zf))))))) Zy))))
  (Zd (ZJ (rM (Zp (pv 0) rfl) T.iy T.ZgD (Zfe T) hr.dn T.cD .nil Zg))
  (Zd (ee (pv 0) (ZC pq Zo (Zp (pv 0) rfl)) rfl)
  (Zd (ee (pv 0) (ZC jb (ZC gM (Zp (pv 0) rfl) Zo) (Zs (v:=.int 256) rfl T.FR ⟨_,rfl⟩)) rfl)
  (Zd (ZJ (ZQ (Zp (pv 0) rfl) T.iy T.IH (JF T) hr.dn T.bY .nil Zg (Za (Zp (pv 0) rfl) (Za (Zl (ZhR T) hr.dn rfl T.Zkb T.CI.kp T.dN .nil Zg (Za (pv 1) (Za (Zp (pv 0) rfl) Zf))) Zf))))
  (Zd (ZJ (rM (Zp (pv 0) rfl) T.iy T.ZgD (Zfe T) hr.dn T.cD .nil Zg))
  (Zh (ee (pv 0) (Zp (pv 1) rfl) rfl)))))))),?_⟩
 refine ⟨pa,.dT kvs,i_,rfl,?_⟩;refine ⟨_,rfl,pi,_,E3,_,_,rfl,oX,T.tZ,T.yT,Bs _ _,.inr (.inr (.inl ⟨rfl,.inr ⟨kvs,i_⟩⟩)),pa,.dT kvs,rfl,rfl,.inl i_,rfl,fun r cm=>?_⟩;have npr:pa≠r:=Zc i_ cm;refine ⟨r,pa,kvs,rfl,Zb,(by rw [Ze npr];exact i_),fun ob=>?_⟩;have AN:q0≠pa:=ZD hq i_ (by intro z;cases z);have xo:b≠pa:=ZD c7.hb i_ (by intro z;cases z);have xm:l≠pa:=ZD c7.hl i_ (by intro z;cases z);have npp:p≠pa:=ZD c7.ob i_ (by intro z;cases z);have xj:q0≠b:=ZD hq c7.hb (by intro z;cases z);have xi:q0≠l:=ZD hq c7.hl (by intro z;cases z);have Er:kvs.length=I.places.length:=sT.len
 refine ZuT (d:=pa) (ob:=ob) (kvs:=kvs) (fun i σ H'=>(∃ o2 o3 o4 o5,σ=[some (.ref q0),some (.ref pi),o2,o3,o4,o5])/\H' pa=some (.bf ob (.dT kvs))/\(∀ d o,H d=some o->d≠b->d≠l->d≠pa->H' d=some o)/\cF g H' p b l ((I.places.take i).foldl (gm T0.synced) D))
  ⟨⟨none,none,none,none,rfl⟩,Zb,(fun d o e _ _ h3=>by rw [Ze h3,Ze (Zc e cm)];exact e),hD.keep (fun d o e _=>?_)⟩ (fun i σ H' _ h=>h.2.1) (fun i t b0 k v0 σ H' mI EC ht h=>?_) (fun σ H' h=>?_)
 .by_cases z:d=pa
  .rename_i lV
   subst z;rw [i_] at e
   cases e
   rcases lV with ⟨_,z⟩ | ⟨_,z⟩ | ⟨_,_,_,_,z⟩ <;> cases z
  .rw [Ze z,Ze (Zc e cm)];exact e
 .obtain ⟨⟨o2,o3,o4,o5,rfl⟩,dZ,kp,qY⟩:=h;obtain ⟨row,ns,df,rfl,⟨tv,rfl,qO⟩⟩:=ZqF sT mI;rw [wo] at EC;have iH:=Ys df;obtain ⟨bO,pW,zF⟩:=io.ne _ iH;change ns≠[] at bO;change ns.length<=1000 at pW;change ∀ n∈ns,_ at zF;have s1:=Zk (o:=.tup [.ref b0,.ref tv]) ht;refine ⟨t,_,rfl,av.of Zb,rfl,_,_,rfl,_,_,rfl,rfl,?_⟩;have hqA:∀ {H2:Hp},(∀ d o,H d=some o->d≠b->d≠l->d≠pa->H2 d=some o)->H2 q0=some (.ins g.aK dw (cX (.ref p) (.int T0.slot) (.int T0.turn) (.ref ya))):=fun k2=>k2 _ _ hq xj xi AN;have gb:∀ d o,H d=some o->d≠b->d≠l->d≠pa->(upd H' t (.tup [.ref b0,.ref tv])) d=some o:=fun d o e h1 h2 h3=>s1 _ _ (kp d o e h1 h2 h3)
  have hyR:Rd (upd H' t (.tup [.ref b0,.ref tv])) ya (.dT ky):=by
   by_cases z:ya=pa
   .subst z;rw [i_] at va
    cases va
    exact .inr ⟨ob,s1 _ _ dZ⟩
   .exact .inl (gb _ _ va (ZD va c7.hb (by intro z;cases z)) (ZD va c7.hl (by intro z;cases z)) z)
  refine ⟨_,rfl,_,rfl,q0,_,dw,_,_,rfl,hqA gb,T.fu,T.yU,Ff _ _ _ _,ya,_,rfl,Zxn hyR (s1 _ _ EC),_,rfl,?_⟩;rw [hyd.some t_,HN _ _ _ df];generalize hDe:(I.places.take i).foldl (gm T0.synced) D=Di at qY
  have hlen:Di.blocks.length=D.blocks.length/\Di.log.length<=90000:=by
   rw [<- hDe];obtain ⟨a1,a2⟩:=BC T0.synced (I.places.take i) D fun p hp=>(io.ne p (Xn hp)).1;refine ⟨a1,Yn a2 ?_⟩
   have e1:(I.places.map (·.2)).flatten=((I.places.take i).map (·.2)).flatten++((I.places.drop i).map (·.2)).flatten:=by
    rw [<- Wa,<- Yz,W4]
   have d9:=io.fl;rw [e1,Yd] at d9;omega
  unfold gm
  cases hg:(aa T0.synced row).isSome with
  | true=>
   refine aj ⟨⟨_,_,_,_,rfl⟩,s1 _ _ dZ,gb,?_⟩;rw [if_pos rfl];exact qY.same s1
  | false=>
   rw [if_neg (show ¬ (false=true) by decide)];refine ao ?_;have zB:=gb _ _ qO (ZD qO c7.hb (by intro z;cases z)) (ZD qO c7.hl (by intro z;cases z)) (ZD qO i_ (by intro z;cases z));refine ⟨_,rfl,_,rfl,_,rfl,row,_,ns,_,rfl,⟨b0,rfl,s1 _ _ EC⟩,⟨tv,rfl,zB⟩,Yn pW (by decide),fun lb us H4 s4 A6 zL hus=>?_⟩;have qZ:cF g H4 p b l Di:=(qY.same s1).same s4;obtain ⟨p_,vb4,vl4,h4⟩:=id qZ;obtain ⟨j9,vb1,vl1,h1D⟩:=id (qY.same s1);have nlb:lb≠b:=(Zc h1D.hb A6).symm;have nll:lb≠l:=(Zc h1D.hl A6).symm;have nlbp:lb≠pa:=(Zc (s1 _ _ dZ) A6).symm;have sN:∀ d o,H d=some o->d≠b->d≠l->d≠pa->H4 d=some o:=fun d o e h1 h2 h3=>s4 _ _ (gb d o e h1 h2 h3);have dh:=Zfz (row:=row) bO;have kS:us.length=ns.length:=by rw [Xk hus,dh]
   refine ⟨tv,lb,rfl,⟨_,av.of (s4 _ _ zB)⟩,⟨_,ay.of zL⟩,?_⟩
   refine Zxk (xs:=ns.map V.int) (ys:=us) (fun j σ H'=>(∃ o4 o5,σ=[some (.ref q0),some (.ref pi),some (.ref b0),some (.ref tv),o4,o5])/\H' pa=some (.bf ob (.dT kvs))/\(∀ d o,H d=some o->d≠b->d≠l->d≠pa->H' d=some o)/\H' lb=some (.lst us)/\Wg (fun a b=>ZH H' b a) us (nW row ns)/\cF g H' p b l (((ns.zip (nW row ns)).take j).foldl yi Di))
    (by rw [Yb,kS]) ⟨⟨_,_,rfl⟩,s4 _ _ (s1 _ _ dZ),sN,zL,hus,qZ⟩ (fun j σ H' _ h=>?_) (fun j x y t2 σ H' hx hy cZ h=>?_) (fun σ H' h=>?_)
   .obtain ⟨_,_,pR,qA,_,_⟩:=h;exact ⟨av.of (pR _ _ qO (ZD qO c7.hb (by intro z;cases z)) (ZD qO c7.hl (by intro z;cases z)) (ZD qO i_ (by intro z;cases z))),ay.of qA⟩
   .obtain ⟨⟨o4,o5,rfl⟩,uD,pR,qA,ur,vC⟩:=h;rw [Yo] at hx
    cases hn:ns[j]? with
    | none=>rw [hn] at hx;cases hx
    | some n=>
     rw [hn] at hx
     cases hx
     obtain ⟨blk,LW,iG⟩:=wJ ur hy;obtain ⟨vi,A5⟩:=zF n (Ys hn);have hz:(ns.zip (nW row ns))[j]?=some (n,blk):=by rw [Yax];exact ⟨hn,LW⟩
     have s6:=Zk (o:=.tup [.int n,y]) cZ;refine ⟨t2,_,rfl,av.of Zb,rfl,_,_,rfl,_,_,rfl,rfl,?_⟩;have xT:=vC.same s6;obtain ⟨ph,vb6,vl6,h6⟩:=id xT;obtain ⟨w1,w2⟩:=Fz ((ns.zip (nW row ns)).take j) Di
     have hjl:((ns.zip (nW row ns)).take j).length<=1000:=by
      rw [YH,YaZ];omega
     refine ⟨_,rfl,q0,_,dw,_,_,rfl,s6 _ _ (hqA pR),T.fu,T.wQ,x_ _ _ _ _,p,ph,_,rfl,h6.ob,F_ _ _,_,rfl,_,rfl,?_⟩;dsimp only [bB,Y0];refine Gp xT (blk:=some blk) (ZH.mono _ _ _ _ s6 iG) vi (by rw [w1,hlen.1];exact A5) (by omega) fun H7 b7 EK=>?_;have nbpa:=xo;have nlpa:=xm;refine ⟨⟨_,_,rfl⟩,b7 _ _ (s6 _ _ uD) xo.symm xm.symm,fun d o e h1 h2 h3=>b7 _ _ (s6 _ _ (pR d o e h1 h2 h3)) h1 h2,b7 _ _ (s6 _ _ qA) nlb nll,ZpR ur (fun a r' ha=>b7 _ _ (s6 _ _ ha) (ZD (s6 _ _ ha) h6.hb (by intro z;cases z)) (ZD (s6 _ _ ha) h6.hl (by intro z;cases z))),?_⟩;rw [HN _ _ _ hz];exact EK
   .obtain ⟨⟨o4,o5,rfl⟩,uD,pR,qA,ur,vC⟩:=h;refine ⟨⟨_,_,_,_,rfl⟩,uD,pR,?_⟩;rw [Yb,YW (by rw [YaZ,dh,Nat.min_self];exact Yf _)] at vC;exact vC
 .obtain ⟨⟨o2,o3,o4,o5,rfl⟩,dZ,kp,qY⟩:=h;rw [Er,Xc] at qY
  have hlen:(I.places.foldl (gm T0.synced) D).blocks.length=D.blocks.length/\(I.places.foldl (gm T0.synced) D).log.length<=90000:=by
   obtain ⟨a1,a2⟩:=BC T0.synced I.places D fun p hp=>(io.ne p hp).1;refine ⟨a1,Yn a2 ?_⟩
   have:=io.fl
   omega
  unfold jk at q;generalize I.places.foldl (gm T0.synced) D=D1 at qY hlen q;refine ⟨ob,.dT kvs,dZ,rfl,?_⟩
  -- all is Ml: H2
  have sP:∀ d o,H d=some o->d≠b->d≠l->(upd H' pa (.dT kvs)) d=some o:=fun d o e h1 h2=>by
   by_cases z:d=pa
   .subst z;rw [Zb,<- e,i_]
   .rw [Ze z];exact kp d o e h1 h2 z
  have l7:cF g (upd H' pa (.dT kvs)) p b l D1:=qY.keep fun d o e lV=>by
   by_cases z:d=pa
   .subst z;rw [dZ] at e
    cases e
    rcases lV with ⟨_,z⟩ | ⟨_,z⟩ | ⟨_,_,_,_,z⟩ <;> cases z
   .rw [Ze z];exact e
  generalize upd H' pa (.dT kvs)=H2 at sP l7;obtain ⟨qa,vb2,vl2,h2⟩:=id l7;have pU:=sP _ _ hq xj xi;refine ⟨_,rfl,q0,_,dw,_,_,rfl,pU,T.fu,T.wQ,x_ _ _ _ _,p,qa,_,rfl,h2.ob,Znr _ _,?_⟩;dsimp only [bB,Y0];refine ZnO l7 (by omega) fun H3 b3 nE=>?_;have vf:=b3 _ _ pU xj xi;have k3:∀ d o,H d=some o->d≠b->d≠l->H3 d=some o:=fun d o e h1 h2=>b3 _ _ (sP d o e h1 h2) h1 h2
  -- eF slot,eF turn
  refine ⟨_,rfl,q0,_,dw,_,_,rfl,vf,T.fu,T.Dd,x' _ _ _ _,_,_,rfl,rfl,_,rfl,q0,_,dw,_,rfl,vf,T.fu,T.Dd,(by rw [qe];show 4 < 1000;decide),?_⟩;rw [Zvt];refine ⟨_,rfl,q0,_,dw,_,_,rfl,Zb,T.fu,T.De,ZxK _ _ _ _,_,_,rfl,rfl,_,_,rfl,rfl,(by show (0:Int) < 256;decide),_,rfl,q0,_,dw,_,rfl,Zb,T.fu,T.De,(by rw [qe];show 4 < 1000;decide),?_⟩;rw [Zvr]
  have k4:∀ d o,H d=some o->d≠b->d≠l->d≠q0->(upd (upd H3 q0 (.ins g.aK dw (cX (.ref p) (.int (1 - T0.slot)) (.int T0.turn) (.ref ya)))) q0 (.ins g.aK dw (cX (.ref p) (.int (1 - T0.slot)) (.int ((T0.turn + 1) % 256)) (.ref ya)))) d=some o:=fun d o e h1 h2 h3=>by
   rw [Ze h3,Ze h3];exact k3 d o e h1 h2
  have dq:∀ {H5:Hp} {x:V} {d:Addr} {o:HO} {C:Addr} {dx:Addr} {a b c e:V},H5 q0=some (.ins C dx (cX a b c e))->H5 d=some o->ZyT o->d≠q0:=fun {H5 x d o C dx a b c e} h1 h2 h3 z=>by
   subst z;rw [h1] at h2
   cases h2
   rcases h3 with ⟨_,z⟩ | ⟨_,z⟩ | ⟨_,_,_,_,z⟩
   .cases z
   .cases z
   .injection z with _ _ z
    have:=congrArg (fun fs=>XU ("slot":Str) fs) z
    simp only [x'] at this
    rw [BI _ _ (by decide +kernel) (by decide +kernel)] at this
    cases this
  have qZ:cF g (upd (upd H3 q0 (.ins g.aK dw (cX (.ref p) (.int (1 - T0.slot)) (.int T0.turn) (.ref ya)))) q0 (.ins g.aK dw (cX (.ref p) (.int (1 - T0.slot)) (.int ((T0.turn + 1) % 256)) (.ref ya)))) p b l D1.bU:=nE.keep fun d o e lV=>by
   have:=dq (x:=.aH) vf e lV
   rw [Ze this,Ze this];exact e
  have xC:=Zb (H:=upd H3 q0 (.ins g.aK dw (cX (.ref p) (.int (1 - T0.slot)) (.int T0.turn) (.ref ya)))) (a:=q0) (o:=.ins g.aK dw (cX (.ref p) (.int (1 - T0.slot)) (.int ((T0.turn + 1) % 256)) (.ref ya)));generalize upd (upd H3 q0 (.ins g.aK dw (cX (.ref p) (.int (1 - T0.slot)) (.int T0.turn) (.ref ya)))) q0 (.ins g.aK dw (cX (.ref p) (.int (1 - T0.slot)) (.int ((T0.turn + 1) % 256)) (.ref ya)))=H4 at k4 qZ xC;obtain ⟨p_,vb4,vl4,h4⟩:=id qZ
  have Lo:pi≠q0:=fun z=>by
   rw [z,hq] at oX;injection oX with oX;injection oX with _ _ hf
   have:=congrArg (fun fs=>XU ("slot":Str) fs) hf
   simp only [x'] at this
   unfold sR at this;rw [Zj,if_neg (by decide +kernel),Zj,if_neg (by decide +kernel)] at this
   cases this
  have zI:=k4 _ _ oX (ZD oX c7.hb (by intro z;cases z)) (ZD oX c7.hl (by intro z;cases z)) Lo;have uu:∀ d xs,H d=some (.tup xs)->H4 d=some (.tup xs):=fun d xs e=>k4 _ _ e (ZD e c7.hb (by intro z;cases z)) (ZD e c7.hl (by intro z;cases z)) (ZD e hq (by intro z;cases z));have LF:gJ H4 I.places (.ref pa):=⟨pa,kvs,rfl,k4 _ _ i_ xo.symm xm.symm AN.symm,BY uu sT⟩
  have EG:jj g H4 I (.ref pi):=⟨pi,E3,.ref pa,hdv,rfl,zI,LF,by obtain ⟨ht,e,hh⟩:=hhd;exact ⟨ht,e,uu _ _ hh⟩⟩
  have zE:0<=1 - T0.slot/\1 - T0.slot < 2:=by rcases Am with z | z <;> omega
  -- eF head
  refine ⟨_,rfl,q0,_,dw,_,_,rfl,xC,T.fu,T.wQ,x_ _ _ _ _,p,p_,_,rfl,h4.ob,F_ _ _,_,rfl,q0,_,dw,_,_,rfl,xC,T.fu,T.Dd,x' _ _ _ _,_,rfl,_,rfl,q0,_,dw,_,_,rfl,xC,T.fu,T.De,ZxK _ _ _ _,?_⟩;refine ⟨I,_,_,rfl,EG,io.h,Yn io.n (by decide),fun u H5 s5 hu5=>?_⟩;dsimp only [bB,Y0]
  have A6:D1.bU.log.length<=90001:=by
   show (D1.log++[gz.bar]).length<=_;rw [Yd];show D1.log.length + 1<=_;omega
  refine Gp (qZ.same s5) (blk:=some (ZK I ((T0.turn + 1) % 256))) hu5 zE.1 (by show 1 - T0.slot < (D1.blocks.length:Int);rw [hlen.1];omega) (by omega) fun H6 b6 xT=>?_;have hq6:=b6 _ _ (s5 _ _ xC) xj xi;obtain ⟨ph,vb6,vl6,h6⟩:=id xT;refine ⟨_,rfl,q0,_,dw,_,_,rfl,hq6,T.fu,T.wQ,x_ _ _ _ _,p,ph,_,rfl,h6.ob,Znr _ _,?_⟩;dsimp only [bB,Y0];refine ZnO xT ?_ fun H7 b7 EK=>?_
  .show (D1.bU.log++[gz.wr _ _]).length<=_;rw [Yd];show D1.bU.log.length + 1<=_;omega
  have AZ:=b7 _ _ hq6 xj xi;have k7:∀ d o,H4 d=some o->d≠b->d≠l->H7 d=some o:=fun d o e h1 h2=>b7 _ _ (b6 _ _ (s5 _ _ e) h1 h2) h1 h2;have LG:=k7 _ _ zI (ZD oX c7.hb (by intro z;cases z)) (ZD oX c7.hl (by intro z;cases z));refine ⟨_,rfl,pi,_,E3,_,_,rfl,LG,T.tZ,T.yT,Bs _ _,_,rfl,q0,_,dw,_,rfl,AZ,T.fu,T.yU,(by rw [qe];show 4 < 1000;decide),?_⟩;rw [Zvs]
  have Al:∀ d xs,H d=some (.tup xs)->(upd H7 q0 (.ins g.aK dw (cX (.ref p) (.int (1 - T0.slot)) (.int ((T0.turn + 1) % 256)) (.ref pa)))) d=some (.tup xs):=fun d xs e=>by
   rw [Ze (ZD e hq (by intro z;cases z))];exact k7 _ _ (uu d xs e) (ZD e c7.hb (by intro z;cases z)) (ZD e c7.hl (by intro z;cases z))
  refine q _ (fun d o e h1 h2 h3=>?_) ⟨dw,.ref pa,Zb,pa,kvs,rfl,?_,BY Al sT⟩ (EK.keep fun d o e lV=>?_)
  .rw [Ze h3];exact k7 _ _ (k4 d o e h1 h2 h3) h1 h2
  .rw [Ze AN.symm];exact k7 _ _ (k4 _ _ i_ xo.symm xm.symm AN.symm) xo.symm xm.symm
  .rw [Ze (dq (x:=.aH) AZ e lV)];exact e
def cn (s k t i:V):List (Str×V):=aq "image" i (aq "store" t (aq "kept" k (aq "state" s [])))
theorem EZ:¬ (("state":Str)="image"):=by decide +kernel
theorem ff2:¬ (("state":Str)="store"):=by decide +kernel
theorem EY:¬ (("state":Str)="kept"):=by decide +kernel
theorem EX:¬ (("kept":Str)="image"):=by decide +kernel
theorem ff5:¬ (("kept":Str)="store"):=by decide +kernel
theorem EW:¬ (("store":Str)="image"):=by decide +kernel
theorem mQ (s k t i:V):(cn s k t i).lookup ("state":Str)=some s:=by unfold cn;rw [Zj,if_neg EZ,Zj,if_neg ff2,Zj,if_neg EY,Zj,if_pos rfl]
theorem qc (s k t i:V):(cn s k t i).lookup ("kept":Str)=some k:=by unfold cn;rw [Zj,if_neg EX,Zj,if_neg ff5,Zj,if_pos rfl]
theorem E7 (s k t i:V):(cn s k t i).lookup ("store":Str)=some t:=by unfold cn;rw [Zj,if_neg EW,Zj,if_pos rfl]
theorem Zzk (s k t i:V):(cn s k t i).lookup ("image":Str)=some i:=by unfold cn;rw [Zj,if_pos rfl]
theorem gL (s k t i:V) {m:Str} (h1:¬ m="image":=by decide +kernel) (h2:¬ m="store":=by decide +kernel) (h3:¬ m="kept":=by decide +kernel) (h4:¬ m="state":=by decide +kernel):(cn s k t i).lookup m=none:=by
 unfold cn;rw [Zj,if_neg h1,Zj,if_neg h2,Zj,if_neg h3,Zj,if_neg h4];rfl
theorem qd (s k t i:V):cn s k t i=([("state",s),("kept",k),("store",t),("image",i)]:List (Str×V)):=by
 have e1:aq "kept" k [(("state":Str),s)]=([("state",s),("kept",k)]:List (Str×V)):=by
  show (if ("state":Str)="kept" then [(("state":Str),k)] else (("state":Str),s)::aq "kept" k [])=_;rw [if_neg EY];rfl
 have e2:aq "store" t [(("state":Str),s),(("kept":Str),k)]=([("state",s),("kept",k),("store",t)]:List (Str×V)):=by
  show (if ("state":Str)="store" then (("state":Str),t)::[(("kept":Str),k)] else (("state":Str),s)::(if ("kept":Str)="store" then [(("kept":Str),t)] else (("kept":Str),k)::aq "store" t []))=_;rw [if_neg ff2,if_neg ff5];rfl
 have e3:aq "image" i [(("state":Str),s),(("kept":Str),k),(("store":Str),t)]=([("state",s),("kept",k),("store",t),("image",i)]:List (Str×V)):=by
  show (if ("state":Str)="image" then (("state":Str),i)::[(("kept":Str),k),(("store":Str),t)] else (("state":Str),s)::(if ("kept":Str)="image" then (("kept":Str),i)::[(("store":Str),t)] else (("kept":Str),k)::(if ("store":Str)="image" then [(("store":Str),i)] else (("store":Str),t)::aq "image" i [])))=_;rw [if_neg EZ,if_neg EX,if_neg EW];rfl
 show aq "image" i (aq "store" t (aq "kept" k [(("state":Str),s)]))=_;rw [e1,e2,e3]
theorem Zu1 (s k t i i':V):aq "image" i' (cn s k t i)=cn s k t i':=by
 rw [qd,qd];show (if ("state":Str)="image" then (("state":Str),i')::[(("kept":Str),k),(("store":Str),t),(("image":Str),i)] else (("state":Str),s)::(if ("kept":Str)="image" then (("kept":Str),i')::[(("store":Str),t),(("image":Str),i)] else (("kept":Str),k)::(if ("store":Str)="image" then (("store":Str),i')::[(("image":Str),i)] else (("store":Str),t)::(if ("image":Str)="image" then [(("image":Str),i')] else _))))=_;rw [if_neg EZ,if_neg EX,if_neg EW,if_pos rfl]
theorem Zu0 (s k t i s':V):aq "state" s' (cn s k t i)=cn s' k t i:=by
 rw [qd,qd];show (if ("state":Str)="state" then (("state":Str),s')::[(("kept":Str),k),(("store":Str),t),(("image":Str),i)] else _)=_;rw [if_pos rfl]
theorem Zv6 (s k t i k':V):aq "kept" k' (cn s k t i)=cn s k' t i:=by
 rw [qd,qd];show (if ("state":Str)="kept" then (("state":Str),k')::[(("kept":Str),k),(("store":Str),t),(("image":Str),i)] else (("state":Str),s)::(if ("kept":Str)="kept" then (("kept":Str),k')::[(("store":Str),t),(("image":Str),i)] else _))=_;rw [if_neg EY,if_pos rfl]
def my (o:HO):Prop:=∀ C dx s k t i,o≠.ins C dx (cn s k t i)
def l9 (H H':Hp):Prop:=∀ d o,H d=some o->my o->H' d=some o
theorem wc {H H':Hp} (s:af H H'):l9 H H':=fun d o e _=>s _ _ e
theorem l9.trans {H H' iB:Hp} (s:l9 H H') (t:l9 H' iB):l9 H iB:=fun d o e n=>t _ _ (s _ _ e n) n
theorem l9.upd {H:Hp} {f C dx:Addr} {s k t i:V} {o:HO} (h:H f=some (.ins C dx (cn s k t i))):l9 H (upd H f o):=fun d u e n=>by
 have:d≠f:=fun z=>by
  subst z;rw [h] at e
  cases e
  exact n _ _ _ _ _ _ rfl
 rw [Ze this];exact e
theorem Zsc (xs:List V):my (.tup xs):=by intro _ _ _ _ _ _ z;cases z
theorem ZvN (xs:List V):my (.lst xs):=by intro _ _ _ _ _ _ z;cases z
theorem BP (xs:List (Key×V)):my (.dK xs):=by intro _ _ _ _ _ _ z;cases z
theorem Zw6 (xs:List (List Key×V)):my (.dT xs):=by intro _ _ _ _ _ _ z;cases z
theorem B9 {C dx:Addr} {fs:List (Str×V)} (m:Str) {v:V} (h:fs.lookup m=some v) (h1:¬ m="image") (h2:¬ m="store") (h3:¬ m="kept") (h4:¬ m="state"):my (.ins C dx fs):=by
 intro C' jh s k t i z;injection z with _ _ z;rw [z,gL _ _ _ _ h1 h2 h3 h4] at h
 cases h
section
variable {g:Gs} {H H':Hp} (s:l9 H H')
include s
theorem ZH.f {r:Row} {v:V}:ZH H r v->ZH H' r v | ⟨t,e,h⟩=>⟨t,e,s _ _ h (Zsc _)⟩
theorem iw.f {r:aO} {v:V}:iw H r v->iw H' r v | ⟨t,e,h⟩=>⟨t,e,s _ _ h (BP _)⟩
omit s in
theorem ZT.gen {κ α ρ:Type} {f:κ->ρ} {R:Hp->α->V->Prop} (k:∀ x v,R H x v->R H' x v) {xs:List (κ×α)} {kvs:List (ρ×V)} (h:ZT f R H xs kvs):ZT f R H' xs kvs:=by
 unfold ZT at *
 induction h with
 | nil=>exact .nil
 | cons a _ ih=>exact .cons ⟨a.1,k _ _ a.2⟩ ih
theorem ZB.f {S:aF} {v:V}:ZB g H S v->ZB g H' S v | ⟨p,dx,da,ea,dk,ek,e,h⟩=>⟨p,dx,da,ea,dk,ek,e,s _ _ h.ob (B9 "data" (mO _ _) (by decide +kernel) (by decide +kernel) (by decide +kernel) (by decide +kernel)),s _ _ h.hd (BP _),s _ _ h.he (BP _),h.rd.gen (fun _ _ z=>z.f s),h.re.gen (fun _ _ z=>z.f s)⟩
theorem cQ.f {k:Kept} {v:V}:cQ g H k v->cQ g H' k v | ⟨a,kvs,e,h,d⟩=>⟨a,kvs,e,s _ _ h (BP _),d.gen (fun _ _ z=>z.f s)⟩
theorem gJ.f {k:Zq} {v:V}:gJ H k v->gJ H' k v | ⟨a,kvs,e,h,d⟩=>⟨a,kvs,e,s _ _ h (Zw6 _),d.gen (fun _ _ z=>z.f s)⟩
theorem jj.f {k:iA} {v:V}:jj g H k v->jj g H' k v | ⟨p,dx,pl,hd,e,h,h1,h2⟩=>⟨p,dx,pl,hd,e,s _ _ h (B9 "heads" (E8 _ _) (by decide +kernel) (by decide +kernel) (by decide +kernel) (by decide +kernel)),h1.f s,h2.f s⟩
theorem nH.f {q p:Addr} {T:qr}:nH g H q p T->nH g H' q p T | ⟨dx,y,h,h1⟩=>⟨dx,y,s _ _ h (B9 "slot" (x' _ _ _ _) (by decide +kernel) (by decide +kernel) (by decide +kernel) (by decide +kernel)),h1.f s⟩
theorem cF.f {p b l:Addr} {D:aR} (h:cF g H p b l D):cF g H' p b l D:=h.keep fun d o e lV=>s _ _ e (by
 rcases lV with ⟨xs,rfl⟩ | ⟨xs,rfl⟩ | ⟨C,dx,b,l,rfl⟩
 .exact Zsc _
 .exact ZvN _
 .exact B9 "log" (Fs _ _) (by decide +kernel) (by decide +kernel) (by decide +kernel) (by decide +kernel))
end
structure cH where
 S:aF
 k:Kept
 T:qr
 D:aR
 I:iA
structure Zzq (g:Gs) (H:Hp) (f q p b l:Addr) (F:cH) (dx:Addr) (sv kv iv:V):Prop where
 ob:H f=some (.ins g.au dx (cn sv kv (.ref q) iv))
 st:ZB g H F.S sv
 ke:cQ g H F.k kv
 sF:nH g H q p F.T
 j_:cF g H p b l F.D
 Ea:jj g H F.I iv
def dm (g:Gs) (H:Hp) (f q p b l:Addr) (F:cH):Prop:=∃ dx sv kv iv,Zzq g H f q p b l F dx sv kv iv
theorem dm.same {g:Gs} {H H':Hp} {f q p b l:Addr} {F:cH} (s:af H H'):dm g H f q p b l F->dm g H' f q p b l F
 | ⟨dx,sv,kv,iv,h⟩=>⟨dx,sv,kv,iv,s _ _ h.ob,h.st.f (wc s),h.ke.f (wc s),h.sF.f (wc s),h.j_.f (wc s),h.Ea.f (wc s)⟩
def aU (f:Addr) (H H':Hp):Prop:=∀ d o,H d=some o->d≠f->H' d=some o
inductive hG (g:Gs) (vs:List V) (H:Hp) (Q:VK) (aD:XK):Prop
 | mk (f:_) (dx:_) (a:_) (b:_) (c:_) (d:_):vs=[.ref f,a,b,c,d]->H f=some (.ins g.au dx [])->(∀ H',(∀ b o,H b=some o->b≠f->H' b=some o)->H' f=some (.ins g.au dx (cn a b c d))->Q .aH H')->hG g vs H Q aD
theorem Zoe:Zm ["self","state","kept","store","image"] ["self","state","kept","store","image"] (Zi ZjZ):=ZE (by decide +kernel)
theorem JG (T:Tx K mg g):ah P w K mg base (aw P w) 1 g.G_ g.Jb ["self","state","kept","store","image"] (hG g):=by
 refine T.Zku.aG Zoe fun vs H Q E h=>?_;obtain ⟨f,dx,a,b,c,d,rfl,hf,q⟩:=h;refine ⟨rfl,fun _ _ _ _ hr=>?_⟩
 refine ⟨_,(Zd (ee (pv 0) (pv 1) rfl)
  (Zd (ee (pv 0) (pv 2) rfl)
  (Zd (ee (pv 0) (pv 3) rfl)
  (Zh (ee (pv 0) (pv 4) rfl))))),?_⟩
 refine ⟨_,rfl,_,rfl,f,g.au,dx,[],rfl,hf,T.Zz,T.ZL,(by show 0 < 1000;decide),?_⟩;refine ⟨_,rfl,_,rfl,f,g.au,dx,_,rfl,Zb,T.Zz,T.Z3,(by show 1 < 1000;decide),?_⟩;refine ⟨_,rfl,_,rfl,f,g.au,dx,_,rfl,Zb,T.Zz,T.CT,?_,?_⟩
 .exact YL (ml _ _ _) (YL (YN (ml _ _ _)) (by show 2 < 1000;decide))
 refine ⟨_,rfl,_,rfl,f,g.au,dx,_,rfl,Zb,T.Zz,T.JC,?_,?_⟩
 .exact YL (ml _ _ _) (YL (YN (ml _ _ _)) (YL (YN (YN (ml _ _ _))) (by show 3 < 1000;decide)))
 refine q _ (fun b o e hb=>?_) Zb;rw [Ze hb,Ze hb,Ze hb,Ze hb];exact e
inductive dH (g:Gs) (vs:List V) (H:Hp) (Q:VK) (E:XK):Prop
 | mk (f:_) (dx:_) (s:_) (k:_) (t:_) (i:_):vs=[.ref f]->H f=some (.ins g.au dx (cn s k t i))->((t=.aH/\E (.ref (g.xa .readOnly)) none H)∨((∃ q,t=.ref q)/\Q .aH H))->dH g vs H Q E
theorem Zdl:Zm ["self"] ["self"] (Zi Za9):=ZE (by decide +kernel)
theorem Z0 (T:Tx K mg g):ah P w K mg base (aw P w) 1 g.KN g.KL ["self"] (dH g):=by
 refine T.Zbg.aG Zdl fun vs H Q E h=>?_;obtain ⟨f,dx,s0,k,t,i,rfl,hf,q⟩:=h;refine ⟨rfl,fun _ _ _ _ hr=>?_⟩;refine ⟨_,(Zh (ZZ (fo (vV (Zp (pv 0) rfl))) (Zh (ZN T.ZsG rfl T.Ztm (Za ZY Zf))) Zy)),?_⟩;refine ⟨_,rfl,f,_,dx,_,_,rfl,hf,T.Zz,T.CT,E7 _ _ _ _,_,rfl,?_⟩;rcases q with ⟨rfl,q⟩ | ⟨⟨q0,rfl⟩,q⟩
 .exact ao ⟨a9 1,q⟩
 .exact aj q
def k_ (F:cH) (S:aF) (k:Kept):Except Rf cH:=match mj F.T F.D S k with
 | .error r=>.error r
 | .ok I=>.ok ⟨S,k,F.T,F.D,I⟩
inductive jE (g:Gs) (vs:List V) (H:Hp) (Q:VK) (E:XK):Prop
 | mk (f:_) (q:_) (p:_) (b:_) (l:_) (F:_) (sv:_) (kv:_) (S:_) (k:_):vs=[.ref f,sv,kv]->dm g H f q p b l F->ZB g H S sv->cQ g H k kv->eZ S->kf k->vI F.T.synced->(match k_ F S k with
 | .error r=>∀ H',af H H'->E (.ref (g.xa r)) none H'
 | .ok F'=>∀ H',aU f H H'->dm g H' f q p b l F'->Q .aH H')->jE g vs H Q E
theorem Zky:Zm ["self","state","kept"] ["self","state","kept"] (Zi Ze5):=ZE (by decide +kernel)
theorem KJ (T:Tx K mg g):ah P w K mg base (aw P w) 6 g.Jp g.Km ["self","state","kept"] (jE g):=by
 refine T.ZfV.aG Zky fun vs H Q E h=>?_;obtain ⟨f,q0,p,b,l,F,sv,kv,S,k,rfl,⟨dx,sv0,D9,iv0,hF⟩,hS,hk,so,kk,po,q⟩:=h;refine ⟨rfl,fun _ _ _ _ hr=>?_⟩
 refine ⟨_,(Zd (ee (pv 0) (ZQ (Zp (pv 0) rfl) T.fu T.ZdV (ZcZ T) hr.dn T.bG .nil Zg (Za (pv 1) (Za (pv 2) Zf))) rfl)
  (Zd (ee (pv 0) (pv 1) rfl)
  (Zh (ee (pv 0) (pv 2) rfl)))),?_⟩
 obtain ⟨dw,y,hq,hy⟩:=id hF.sF;refine ⟨_,rfl,f,_,dx,_,_,rfl,hF.ob,T.Zz,T.CT,E7 _ _ _ _,q0,dw,_,rfl,hq,yg _ _ _ _,_,rfl,_,rfl,?_⟩;refine ⟨q0,p,b,l,F.T,F.D,sv,S,kv,k,rfl,hF.sF,hF.j_,hS,hk,so,kk,po,?_⟩;unfold k_ at q
 cases hm:mj F.T F.D S k with
 | error r=>
  rw [hm] at q;exact fun H' s'=>q H' s'
 | ok I=>
  rw [hm] at q;dsimp only at q;intro iv H1 s1 hI;refine ⟨_,rfl,f,_,dx,_,rfl,s1 _ _ hF.ob,T.Zz,T.JC,(by rw [qd];show 4 < 1000;decide),?_⟩;rw [Zu1];refine ⟨_,rfl,_,rfl,f,_,dx,_,rfl,Zb,T.Zz,T.ZL,(by rw [qd];show 4 < 1000;decide),?_⟩;rw [Zu0];refine ⟨_,rfl,_,rfl,f,_,dx,_,rfl,Zb,T.Zz,T.Z3,(by rw [qd];show 4 < 1000;decide),?_⟩;rw [Zv6];have sA:l9 H1 (upd (upd (upd H1 f (.ins g.au dx (cn sv0 D9 (.ref q0) iv))) f (.ins g.au dx (cn sv D9 (.ref q0) iv))) f (.ins g.au dx (cn sv kv (.ref q0) iv))):=(l9.upd (s1 _ _ hF.ob)).trans ((l9.upd Zb).trans (l9.upd Zb));have sB:=l9.trans (wc s1) sA;refine q _ (fun d o e hd=>?_) ⟨dx,sv,kv,iv,Zb,hS.f sB,hk.f sB,hF.sF.f sB,hF.j_.f sB,hI.f sA⟩;rw [Ze hd,Ze hd,Ze hd];exact s1 _ _ e
def gj:Row:=List.replicate 64 0
def lu:qr:=⟨1,255,[]⟩
def ZR:aF:=⟨[],[(0,[])]⟩
def BK (D:aR):Except Rf cH:=match mj lu (D.write 1 (some gj)) ZR [] with
 | .error r=>.error r
 | .ok I=>.ok ⟨ZR,[],(jk lu (D.write 1 (some gj)) I).1,(jk lu (D.write 1 (some gj)) I).2,I⟩
def Bt (F:cH) (p kind:Str):Except Rf cH:=match vM F.S p kind with
 | .error r=>.error r
 | .ok S=>k_ F S F.k
theorem Zst:eZ ZR:=by
 refine ⟨by decide,(fun n r h=>by cases h),fun n es h=>?_⟩
 have:es=[]:=by
  by_cases z:(0:Int)=n
  .have:=Z7 (p:=((0:Int),([]:aO))) (r:=[]) (k:=n) z
   rw [show aa ZR.ent n=aa [((0:Int),([]:aO))] n from rfl,this] at h
   cases h
   rfl
  .have:=js (p:=((0:Int),([]:aO))) (r:=[]) (k:=n) z
   rw [show aa ZR.ent n=aa [((0:Int),([]:aO))] n from rfl,this] at h
   cases h
 subst this;exact ⟨by decide,fun p hp=>nomatch hp⟩
def rB (o:HO):Prop:=(∀ xs,o≠.lst xs)/\∀ C dx a b c d,o≠.ins C dx (cX a b c d)
theorem Zuo (xs:List V):rB (.tup xs):=⟨(by intro _ z;cases z),(by intro _ _ _ _ _ _ z;cases z)⟩
theorem B_ (xs:List (Key×V)):rB (.dK xs):=⟨(by intro _ z;cases z),(by intro _ _ _ _ _ _ z;cases z)⟩
theorem ZvM (xs:List (List Key×V)):rB (.dT xs):=⟨(by intro _ z;cases z),(by intro _ _ _ _ _ _ z;cases z)⟩
theorem GP {C dx:Addr} {fs:List (Str×V)} (m:Str) {v:V} (h:fs.lookup m=some v) (h1:¬ m="synced") (h2:¬ m="turn") (h3:¬ m="slot") (h4:¬ m="disk"):rB (.ins C dx fs):=by
 refine ⟨(by intro _ z;cases z),fun C' jh s k t i z=>?_⟩;injection z with _ _ z;rw [z,yg _ _ _ _ h1 h2 h3 h4] at h
 cases h
section
variable {g:Gs} {H H':Hp} (s:∀ d o,H d=some o->rB o->H' d=some o)
include s
theorem ZH.ls {r:Row} {v:V}:ZH H r v->ZH H' r v | ⟨t,e,h⟩=>⟨t,e,s _ _ h (Zuo _)⟩
theorem iw.ls {r:aO} {v:V}:iw H r v->iw H' r v | ⟨t,e,h⟩=>⟨t,e,s _ _ h (B_ _)⟩
theorem ZB.ls {S:aF} {v:V}:ZB g H S v->ZB g H' S v | ⟨p,dx,da,ea,dk,ek,e,h⟩=>⟨p,dx,da,ea,dk,ek,e,s _ _ h.ob (GP "data" (mO _ _) (by decide +kernel) (by decide +kernel) (by decide +kernel) (by decide +kernel)),s _ _ h.hd (B_ _),s _ _ h.he (B_ _),h.rd.gen (fun _ _ z=>z.ls s),h.re.gen (fun _ _ z=>z.ls s)⟩
theorem cQ.ls {k:Kept} {v:V}:cQ g H k v->cQ g H' k v | ⟨a,kvs,e,h,d⟩=>⟨a,kvs,e,s _ _ h (B_ _),d.gen (fun _ _ z=>z.ls s)⟩
theorem gJ.ls {k:Zq} {v:V}:gJ H k v->gJ H' k v | ⟨a,kvs,e,h,d⟩=>⟨a,kvs,e,s _ _ h (ZvM _),d.gen (fun _ _ z=>z.ls s)⟩
theorem jj.ls {k:iA} {v:V}:jj g H k v->jj g H' k v | ⟨p,dx,pl,hd,e,h,h1,h2⟩=>⟨p,dx,pl,hd,e,s _ _ h (GP "heads" (E8 _ _) (by decide +kernel) (by decide +kernel) (by decide +kernel) (by decide +kernel)),h1.ls s,h2.ls s⟩
end
theorem B7:kf []:=⟨by decide,fun n S h=>by cases h⟩
inductive fN (g:Gs) (vs:List V) (H:Hp) (Q:VK) (aD:XK):Prop
 | mk (p:_) (b:_) (l:_) (D:_):vs=[.ref p]->cF g H p b l D->2<=D.blocks.length->D.log.length<=90000->(∀ q H',aJ b l H H'->H q=none->nH g H' q p lu->cF g H' p b l (D.write 1 (some gj))->Q (.ref q) H')->fN g vs H Q aD
theorem ZpH:Zm ["disk"] ["disk"] (Zi Zlg):=ZE (by decide +kernel)
theorem Zp5 (T:Tx K mg g):ah P w K mg base (aw P w) 8 g.GO g.Ie ["disk"] (fN g):=by
 refine T.Io.aG ZpH fun vs H Q E h=>?_;obtain ⟨p,b,l,D,rfl,hD,tq,n_,q⟩:=h;refine ⟨rfl,fun _ _ _ _ hr=>?_⟩;obtain ⟨dx,vb,vl,h⟩:=id hD
 refine ⟨_,(Zd (ZJ (ZQ (pv 0) T.iy T.IH (JF T) hr.dn T.bY .nil Zg (Za Zo (Za (ZC yp (ed (Za Zo Zf)) (Zs (v:=.int 64) rfl T.Jz ⟨_,rfl⟩)) Zf))))
  (Zh (Zu (lA T.Zsh (ZhV T) hr.dn rfl T.ZuD T.dR .nil Zg (Za (pv 0) (Za Zo (Za (ZC pq (Zs (v:=.int 256) rfl T.FR ⟨_,rfl⟩) Zo) (Za FZ Zf)))))))),?_⟩
 refine ⟨_,rfl,p,dx,_,rfl,h.ob,F_ _ _,a9 1,fun a ha=>?_⟩;have s1:=Zk (o:=.tup [.int 0]) ha;refine ⟨a,64,_,rfl,rfl,Zb,by simp,by decide,by decide,by show 1 * 64<=Yj;decide,fun c H2 s2 hc=>?_⟩;rw [wz] at hc;have sA:=s1.trans s2;dsimp only [bB,Y0];refine Gp (hD.same sA) (blk:=some gj) ⟨c,rfl,by rw [hc];unfold gj;rw [XW];rfl⟩ (by decide) (by omega) (by omega) fun H3 b3 nE=>?_;refine ⟨_,rfl,_,_,rfl,rfl,fun y hy=>fun x jh hx og ne=>⟨x,jh,_,_,_,_,rfl,Zb,fun H5 kp hq=>⟨rfl,?_⟩⟩⟩;have s4:=Zk (o:=.dT []) hy
 have s5:af (upd H3 y (.dT [])) H5:=fun d o eb=>by
  have h1:d≠x:=Zc eb hx;have h2:d≠jh:=Zc eb og;exact kp d o (by rw [Ze h1,Ze h2];exact eb) h1
 have sB:=s4.trans s5
 have hxH:H x=none:=by
  cases z:H x with
  | none=>rfl
  | some o=>
   by_cases zb:x=b
   .have:=s4 _ _ ((Option.some_get (by rw [show (H3 b).isSome=true by obtain ⟨_,_,_,h3⟩:=nE;rw [h3.hb];rfl]:(H3 b).isSome=true)).symm)
    rw [zb] at hx;obtain ⟨_,_,_,h3⟩:=nE;rw [s4 _ _ h3.hb] at hx
    cases hx
   .by_cases zl:x=l
    .rw [zl] at hx;obtain ⟨_,_,_,h3⟩:=nE;rw [s4 _ _ h3.hl] at hx
     cases hx
    .have:=s4 _ _ (b3 _ _ (sA _ _ z) zb zl)
     rw [hx] at this
     cases this
 refine q x H5 (fun d o e h1 h2=>sB _ _ (b3 _ _ (sA _ _ e) h1 h2)) hxH ⟨jh,.ref y,hq,y,[],rfl,s5 _ _ Zb,.nil⟩ (nE.same sB)
inductive kJ (g:Gs) (vs:List V) (H:Hp) (Q:VK) (E:XK):Prop
 | mk (f:_) (q:_) (p:_) (b:_) (l:_) (F:_) (pa:_) (kd:_):vs=[.ref f,.str pa,.str kd]->dm g H f q p b l F->nI F.S->F.S.dat.length<=999->F.S.ent.length<=999->pa.length<=1000->(∀ S,vM F.S pa kd=.ok S->eZ S)->kf F.k->vI F.T.synced->(match Bt F pa kd with
 | .error r=>∀ H',af H H'->E (.ref (g.xa r)) none H'
 | .ok F'=>∀ H',aU f H H'->dm g H' f q p b l F'->Q (zt (wH F.S)) H')->kJ g vs H Q E
theorem Zhv:Zm ["self","path","kind","number"] ["self","path","kind"] (Zi ZjY):=ZE (by decide +kernel)
theorem ZoA (T:Tx K mg g):ah P w K mg base (aw P w) 7 g.G' g.Jc ["self","path","kind"] (kJ g):=by
 refine T.Zkt.aG Zhv fun vs H Q E h=>?_;obtain ⟨f,q0,p,b,l,F,pa,kd,rfl,qX,sm,qN,xq,hl,hso,kk,po,q⟩:=h;refine ⟨rfl,fun _ _ _ _ hr=>?_⟩;obtain ⟨dx,sv,kv,iv,hF⟩:=id qX
 refine ⟨_,(Zd (ZJ (rM (pv 0) T.Zz T.Z6 (Z0 T) hr.dn T.aB .nil Zg))
  (Zd (Zt (i:=3) Zhv.nd rfl (Or.inl rfl) (Zl (ZhQ T) hr.dn rfl T.Zka T.CJ.kp T.dM .nil Zg (Za (Zp (pv 0) rfl) Zf)))
  (Zd (ZJ (ZQ (pv 0) T.Zz T.Ks (KJ T) hr.dn T.bq .nil Zg (Za (Zl (Zw3 T) hr.dn rfl T.Zyg T.Fh.kp T.uV .nil Zg (Za (Zp (pv 0) rfl) (Za (pv 1) (Za (pv 2) Zf)))) (Za (Zp (pv 0) rfl) Zf))))
  (Zh (Zu (pv 3)))))),?_⟩
 refine ⟨_,rfl,f,dx,_,rfl,hF.ob,gL _ _ _ _,?_⟩;refine ⟨f,dx,_,_,_,_,rfl,hF.ob,.inr ⟨⟨q0,rfl⟩,?_⟩⟩;refine ⟨_,rfl,f,_,dx,_,_,rfl,hF.ob,T.Zz,T.ZL,mQ _ _ _ _,sv,F.S,rfl,hF.st,?_⟩;refine ⟨_,rfl,f,dx,_,rfl,hF.ob,gL _ _ _ _,_,rfl,f,_,dx,_,_,rfl,hF.ob,T.Zz,T.ZL,mQ _ _ _ _,_,rfl,_,rfl,?_⟩;refine ⟨sv,F.S,pa,kd,rfl,hF.st,sm,qN,xq,hl,?_⟩;unfold Bt at q
 cases hm:vM F.S pa kd with
 | error r=>
  rw [hm] at q;exact fun H' s'=>q H' s'
 | ok S=>
  rw [hm] at q;dsimp only at q;intro v2 H2 s2 jX;have EI:=qX.same s2;refine ⟨_,rfl,f,_,dx,_,_,rfl,s2 _ _ hF.ob,T.Zz,T.Z3,qc _ _ _ _,?_⟩;refine ⟨f,q0,p,b,l,F,v2,kv,S,F.k,rfl,EI,jX,cQ.mono _ _ _ _ s2 hF.ke,hso S hm,kk,po,?_⟩
  cases ht:k_ F S F.k with
  | error r=>
   rw [ht] at q;exact fun H' s'=>q H' (s2.trans s')
  | ok F'=>
   rw [ht] at q;exact fun H' b1 h'=>⟨_,rfl,q H' (fun d o e hd=>b1 _ _ (s2 _ _ e) hd) h'⟩
inductive eO (g:Gs) (vs:List V) (H:Hp) (Q:VK) (E:XK):Prop
 | mk (p:_) (b:_) (l:_) (D:_):vs=[.ref p]->cF g H p b l D->2<=D.blocks.length->D.log.length<=30000->(∀ I,mj lu (D.write 1 (some gj)) ZR []=.ok I->xZ (D.write 1 (some gj)) I)->(match BK D with
 | .error r=>∀ H',aJ b l H H'->E (.ref (g.xa r)) none H'
 | .ok F=>∀ f q H',aJ b l H H'->dm g H' f q p b l F->Q (.ref f) H')->eO g vs H Q E
theorem CZ:Zm ["disk","state","store","image"] ["disk"] (Zi Zlk):=ZE (by decide +kernel)
theorem Zp6 (T:Tx K mg g):ah P w K mg base (aw P w) 9 g.formatted g.H_ ["disk"] (eO g):=by
 refine T.HW.aG CZ fun vs H Q E h=>?_;obtain ⟨p,b,l,D,rfl,hD,tq,n_,Es,q⟩:=h;refine ⟨rfl,fun _ _ _ _ hr=>?_⟩
 refine ⟨_,(Zd (Zt (i:=1) CZ.nd rfl (Or.inl rfl) (ZvH (ZmC T) hr.dn rfl T.ZoF T.JS.kp T.gB .nil Zg))
  (Zd (Zt (i:=2) CZ.nd rfl (Or.inl rfl) (Zl (Zp5 T) hr.dn rfl T.Zrt T.Io.kp T.jT .nil Zg (Za (pv 0) Zf)))
  (Zd (Zt (i:=3) CZ.nd rfl (Or.inl rfl) (ZQ (pv 2) T.fu T.ZdV (ZcZ T) hr.dn T.bG .nil Zg (Za (pv 1) (Za nV Zf))))
  (Zd (ZJ (ZQ (pv 2) T.fu T.Zke (ZhU T) hr.dn T.dQ .nil Zg (Za (pv 3) Zf)))
  (Zh (Zu (lA T.F9 (JG T) hr.dn rfl T.BN T.bX .nil Zg (Za (pv 1) (Za nV (Za (pv 2) (Za (pv 3) Zf))))))))))),?_⟩
 refine ⟨rfl,fun sv H1 s1 hS=>?_⟩;obtain ⟨_,vb0,vl0,h0⟩:=id hD;refine ⟨_,rfl,p,b,l,D,rfl,hD.same s1,tq,by omega,fun q0 H2 b2 hq0 hT l7=>?_⟩;have k2:∀ d o,H1 d=some o->rB o->H2 d=some o:=fun d o e n=>b2 _ _ e (fun z=>by subst z;rw [s1 _ _ h0.hb] at e;cases e;exact n.1 _ rfl) (fun z=>by subst z;rw [s1 _ _ h0.hl] at e;cases e;exact n.1 _ rfl);have jX:=hS.ls k2;obtain ⟨dw,y,hq,hy⟩:=id hT;refine ⟨_,rfl,q0,dw,_,rfl,hq,yg _ _ _ _,_,rfl,fun ka qR=>?_⟩;have s3:=Zk (o:=.dK []) qR;dsimp only [bB,Y0];refine ⟨q0,p,b,l,lu,_,sv,ZR,_,[],rfl,hT.same s3,l7.same s3,ZB.mono _ _ _ _ s3 jX,⟨ka,[],rfl,Zb,.nil⟩,Zst,B7,⟨Yt _,(fun p hp=>nomatch hp),Yt _⟩,?_⟩;unfold BK at q
 cases hm:mj lu (D.write 1 (some gj)) ZR [] with
 | error r=>
  rw [hm] at q;exact fun H' s'=>q H' (fun d o e h1 h2=>s' _ _ (s3 _ _ (b2 _ _ (s1 _ _ e) h1 h2)))
 | ok I=>
  rw [hm] at q;dsimp only at q;intro iv H3 s4 hI;have hT3:=(hT.same s3).same s4;have nE:=(l7.same s3).same s4;obtain ⟨rj,y3,vf,xr⟩:=id hT3;obtain ⟨_,vb3,vl3,h3⟩:=id nE;refine ⟨_,rfl,q0,rj,_,rfl,vf,yg _ _ _ _,_,rfl,?_⟩;dsimp only [bB,Y0];have io:=Es I hm;refine ⟨q0,p,b,l,lu,D.write 1 (some gj),iv,I,rfl,hT3,nE,hI,io,.inr rfl,?_,?_,fun H4 k4 hT4 qZ=>?_⟩
  .show 2<=(D.blocks.set _ _).length;rw [WM];exact tq
  .show (D.log++[_]).length<=_;rw [Yd];show D.log.length + 1<=_;omega
  have k4':∀ d o,H3 d=some o->rB o->H4 d=some o:=fun d o e n=>k4 _ _ e (fun z=>by subst z;rw [h3.hb] at e;cases e;exact n.1 _ rfl) (fun z=>by subst z;rw [h3.hl] at e;cases e;exact n.1 _ rfl) (fun z=>by subst z;rw [vf] at e;cases e;exact n.2 _ _ _ _ _ _ rfl);have Bc:ZB g H4 ZR sv:=ZB.ls k4' (ZB.mono _ _ _ _ (s3.trans s4) jX);have EG:=hI.ls k4';refine ⟨_,rfl,fun kb hkb=>?_⟩;have s5:=Zk (o:=.dK []) hkb;refine ⟨_,rfl,_,rfl,fun x jh hx og ne=>⟨x,jh,_,_,_,_,rfl,Zb,fun H6 kp hf=>⟨rfl,?_⟩⟩⟩
  have s6:af (upd H4 kb (.dK [])) H6:=fun d o eb=>by
   have h1:d≠x:=Zc eb hx;have h2:d≠jh:=Zc eb og;exact kp d o (by rw [Ze h1,Ze h2];exact eb) h1
  have sB:=s5.trans s6;refine q x q0 H6 (fun d o e h1 h2=>?_) ⟨jh,sv,.ref kb,iv,hf,ZB.mono _ _ _ _ sB Bc,⟨kb,[],rfl,s6 _ _ Zb,.nil⟩,hT4.same sB,qZ.same sB,jj.mono _ _ _ _ sB EG⟩;have hdq:d≠q0:=Zc (s1 _ _ e) hq0;exact sB _ _ (k4 _ _ (s4 _ _ (s3 _ _ (b2 _ _ (s1 _ _ e) h1 h2))) h1 h2 hdq)
def jo (row:Row):Nat:=(row.length + 62) / 63
theorem ZpU {C:cp} {row:Row} (h:jo row<=C.free.length):∃ i C',bb C row=.ok (i,C')/\C.free.length<=C'.free.length + jo row:=by
 unfold bb
 split
 .exact ⟨_,_,rfl,Xb _ _⟩
 .split
  .exact ⟨_,_,rfl,Xb _ _⟩
  .split
   .exact ⟨_,_,rfl,Xb _ _⟩
   .unfold pj;unfold jo at h ⊢;rw [if_neg (by omega)];refine ⟨_,_,rfl,?_⟩;show _<=(C.free.drop _).length + _;rw [YB];omega
theorem Zpw {S:aF}:∀ {ns:List Int} {t:Row} {C:cp},(ns.map fun n=>jo (cL S n).2).sum<=C.free.length->∃ t' C',cq S ns t C=.ok (t',C')/\t'.length=t.length + 5 * ns.length/\C.free.length<=C'.free.length + (ns.map fun n=>jo (cL S n).2).sum
 | [],t,C,_=>⟨t,C,rfl,rfl,Xb _ _⟩
 | n::ns,t,C,h=>by
  rw [Yx,List.sum_cons] at h ⊢;obtain ⟨i,C1,e1,h1⟩:=ZpU (C:=C) (row:=(cL S n).2) (by omega);obtain ⟨t',C',e2,h2,h3⟩:=Zpw (S:=S) (ns:=ns) (t:=t++kZ n (cL S n) i) (C:=C1) (by omega);refine ⟨t',C',?_,?_,by omega⟩
  .rw [wA,e1];exact e2
  .rw [h2,Yd,Yv];show t.length + 5 + _=_;omega
theorem Ztp {S:aF} {C:cp} (h:((Zx S).map fun n=>jo (cL S n).2).sum + (5 * (Zx S).length + 62) / 63<=C.free.length):∃ t C',j' S C=.ok (t,C'):=by
 obtain ⟨t,C1,e1,h1,h2⟩:=Zpw (S:=S) (ns:=Zx S) (t:=[]) (C:=C) (by omega);obtain ⟨i,C2,e2,_⟩:=ZpU (C:=C1) (row:=t) (by unfold jo;rw [h1];show (0 + _ + 62) / 63<=_;rw [Nat.zero_add];omega);refine ⟨[((Zx S).length:Int),i],C2,?_⟩;unfold j';rw [e1];dsimp only;rw [e2]
theorem Zqs {S:aF} {free:List Int} {older:Zq} (h:((Zx S).map fun n=>jo (cL S n).2).sum + (5 * (Zx S).length + 62) / 63<=free.length):∃ I,ly S [] free older=.ok I:=by
 obtain ⟨t,C',e⟩:=Ztp (S:=S) (C:=⟨free,older,[]⟩) h;unfold ly;rw [e];exact ⟨_,rfl⟩
def wK (S:aF) (n:Int):Except Rf Unit:=if gw S n then .ok () else .error .aZ
def kg (S:aF) (n:Int):Except Rf Row:=if gw S n then (match aa S.ent n with
 | some _=>.error .wrongKind
 | none=>.ok ((aa S.dat n).getD [])) else .error .aZ
def lh (S:aF):List Int:=(S.ent.map fun p=>p.2.map (·.2)).flatten
def kindOf (S:aF) (n:Int):Str:=if (aa S.ent n).isSome then "dir" else "file"
def yw (S:aF) (n:Int):Int:=if (aa S.ent n).isSome then 1 else ((lh S).count n:Nat)
def yl (S:aF) (n:Int):Int:=match aa S.ent n with
 | some es=>10 * (es.length:Int)
 | none=>(((aa S.dat n).getD []).length:Nat)
def pG (S:aF) (n bJ:Int) (row:Row):Except Rf aF:=match kg S n with
 | .error r=>.error r
 | .ok d=>if 600 < bJ + (row.length:Int) then .error .bK else if row=[] then .ok S else
  .ok ⟨ai S.dat n ((c8 d bJ).take bJ.toNat++row++d.drop (bJ + (row.length:Int)).toNat),S.ent⟩
theorem Zxs (xs:List Int) (n:Int) (h:0<=n):br (xs.map V.int) none (some n)=(xs.take n.toNat).map V.int:=by
 rw [show n=((n.toNat:Nat):Int) by omega,yD];rfl
theorem Zva (xs:List Int) (n:Int) (h:0<=n):br (xs.map V.int) (some n) none=(xs.drop n.toNat).map V.int:=by
 rw [show n=((n.toNat:Nat):Int) by omega];generalize n.toNat=m;unfold br;rw [HT.fI,HT.bT,<- List.map_drop,<- Yac,Yb]
 congr 1
 rw [YS];rcases W2 m xs.length with h | h
 .rw [Wo h];exact YW (by rw [YB];exact Yf _)
 .rw [XT h,WX h,Wd,Nat.sub_self];rfl
theorem Zvb (xs:List Int) (a b:Int) (h0:0<=a) (h1:0<=b):br (xs.map V.int) (some a) (some (a + b))=((xs.drop a.toNat).take b.toNat).map V.int:=by
 rw [show a + b=((a.toNat + b.toNat:Nat):Int) by omega,show a=((a.toNat:Nat):Int) by omega];rw [YS];generalize a.toNat=m;generalize b.toNat=k;unfold br;rw [HT.bT,HT.bT,<- List.map_drop,<- Yac,Yb]
 congr 1
 rcases W2 m xs.length with h | h
 .rw [Wo h];rcases W2 (m + k) xs.length with h2 | h2
  .rw [Wo h2,YaN]
  .rw [XT h2,YW (by rw [YB];omega),YW (by rw [YB];omega)]
 .rw [XT h,XT (by omega),Wd,WX h,YaI,YaI]
theorem ZqG (xs:List Int) (n:Int):((xs.map V.int).countP fun z=>mL z (.int n))=xs.count n:=by
 rw [List.countP_map,List.count]
 congr 1
inductive dF (g:Gs) (vs:List V) (H:Hp) (Q:VK) (E:XK):Prop
 | mk (v:_) (S:_) (n:_):vs=[v,.int n]->ZB g H S v->gn g rA H (wK S n) Q E->dF g vs H Q E
theorem Zmt:Zm ["state","number"] ["state","number"] (Zi ZhA):=ZE (by decide +kernel)
theorem J5 (T:Tx K mg g):ah P w K mg base (aw P w) 2 g.HX g.Jw ["state","number"] (dF g):=by
 refine T.yM.aG Zmt fun vs H Q E h=>?_;obtain ⟨v,S,n,rfl,hS,q⟩:=h;refine ⟨rfl,fun _ _ _ _ hr=>?_⟩;refine ⟨_,(Zh (ZZ (px (ll (Zl (Zlz T) hr.dn rfl T.Znw T.Co.kp T.fV .nil Zg (Za (pv 0) (Za (pv 1) Zf))))) (Zh (ZN T.G2 rfl T.Ck (Za ZY Zf))) Zy)),?_⟩;refine ⟨_,rfl,_,rfl,v,S,n,rfl,hS,_,rfl,?_⟩
 cases hb:gw S n with
 | true=>exact aj (q.ok (x:=()) (by unfold wK;rw [hb];rfl) _ _ (af.refl _) rfl)
 | false=>exact ao ⟨a9 1,q.no (r:=.aZ) (by unfold wK;rw [hb];rfl) _ (af.refl _)⟩
inductive jP (g:Gs) (vs:List V) (H:Hp) (Q:VK) (E:XK):Prop
 | mk (v:_) (S:_) (n:_):vs=[v,.int n]->ZB g H S v->gn g ZH H (kg S n) Q E->jP g vs H Q E
theorem ZsZ:Zm ["state","number"] ["state","number"] (Zi ZpQ):=ZE (by decide +kernel)
theorem Znq (T:Tx K mg g):ah P w K mg base (aw P w) 3 g.FP g.GR ["state","number"] (jP g):=by
 refine T.Cb.aG ZsZ fun vs H Q E h=>?_;obtain ⟨v,S,n,rfl,nC,q⟩:=h;refine ⟨rfl,fun _ _ _ _ hr=>?_⟩;have hu:=u1 hr.units
 refine ⟨_,(Zd (ZJ (Zl (J5 T) hr.dn rfl T.JB T.yM.kp T.bI .nil Zg (Za (pv 0) (Za (pv 1) Zf))))
  (Zd (ZZ (fo (nL hu (pv 1) (Zp (pv 0) rfl))) (Zh (ZN T.Zk0 rfl T.ZlM (Za ZY Zf))) Zy)
  (Zh (Zu (kn hu (Zp (pv 0) rfl) (pv 1) (fun _ _=>rfl)))))),?_⟩
 refine ⟨_,rfl,_,rfl,v,S,n,rfl,nC,?_⟩;unfold wK;unfold kg at q
 cases hb:gw S n with
 | false=>
  rw [hb] at q;exact fun H' s'=>q H' s'
 | true=>
  rw [hb,if_pos rfl] at q;intro v1 H1 s1 _;obtain ⟨p,dx,da,ea,dk,ek,rfl,hS⟩:=ZB.mono _ _ _ _ s1 nC;refine ⟨_,rfl,_,rfl,p,_,dx,_,_,rfl,hS.ob,T.ZM,T.Zr,gs _ _,ea,_,rfl,aE.k hS.he (k:=.inl n),_,rfl,?_⟩;rw [hS.re.some gv]
  cases hg:aa S.ent n with
  | some es=>
   rw [hg] at q;exact ao ⟨a9 1,q _ s1⟩
  | none=>
   rw [hg] at q
   have hd:∃ row,aa S.dat n=some row:=by
    unfold gw at hb;rw [hg,Yap,Wr] at hb;exact Option.isSome_iff_exists.mp hb
   obtain ⟨row,hd⟩:=hd;rw [hd] at q;obtain ⟨vr,jf,iG⟩:=hS.rd.yes gv hd;refine aj ⟨_,rfl,p,_,dx,_,_,rfl,hS.ob,T.ZM,T.Z2,mO _ _,_,rfl,da,vr,rfl,(by have:=aE.k hS.hd (k:=.inl n);rw [jf] at this;exact this),?_⟩;exact q _ _ s1 iG
inductive jI (g:Gs) (vs:List V) (H:Hp) (Q:VK) (aD:XK):Prop
 | mk (v:_) (S:_) (n:_):vs=[v,.int n]->ZB g H S v->Q (.str (kindOf S n)) H->jI g vs H Q aD
theorem ZsW:Zm ["state","number"] ["state","number"] (Zi ZpO):=ZE (by decide +kernel)
theorem Zs8 (T:Tx K mg g):ah P w K mg base (aw P w) 1 g.FF g.GI ["state","number"] (jI g):=by
 refine T.Gw.aG ZsW fun vs H Q E h=>?_;obtain ⟨v,S,n,rfl,⟨p,dx,da,ea,dk,ek,rfl,hS⟩,q⟩:=h;refine ⟨rfl,fun _ _ _ _ hr=>?_⟩;have hu:=u1 hr.units;refine ⟨_,(Zh (Zu (Zsb (fo (nL hu (pv 1) (Zp (pv 0) rfl))) ZY ZY))),?_⟩;refine ⟨_,rfl,_,rfl,p,_,dx,_,_,rfl,hS.ob,T.ZM,T.Zr,gs _ _,ea,_,rfl,aE.k hS.he (k:=.inl n),_,rfl,?_⟩;rw [hS.re.some gv];unfold kindOf at q
 cases hd:(aa S.ent n).isSome with
 | true=>rw [hd] at q;exact ao q
 | false=>rw [hd] at q;exact aj q
inductive jF (g:Gs) (vs:List V) (H:Hp) (Q:VK) (aD:XK):Prop
 | mk (v:_) (S:_) (n:_):vs=[v,.int n]->ZB g H S v->gw S n=true->Q (.int (yl S n)) H->jF g vs H Q aD
theorem ZsV:Zm ["state","number"] ["state","number"] (Zi ZpN):=ZE (by decide +kernel)
theorem Zs7 (T:Tx K mg g):ah P w K mg base (aw P w) 1 g.FT g.GW ["state","number"] (jF g):=by
 refine T.Gx.aG ZsV fun vs H Q E h=>?_;obtain ⟨v,S,n,rfl,⟨p,dx,da,ea,dk,ek,rfl,hS⟩,hb,q⟩:=h;refine ⟨rfl,fun _ _ _ _ hr=>?_⟩;have hu:=u1 hr.units
 refine ⟨_,(Zd (ZZ (fo (nL hu (pv 1) (Zp (pv 0) rfl))) (Zh (Zu (ZC pk (Zs (v:=.int 10) rfl T.ZqB ⟨_,rfl⟩) (Zv Ce (by rfl) T.cR YA (Za (kn hu (Zp (pv 0) rfl) (pv 1) (fun _ _=>rfl)) Zf))))) Zy)
  (Zh (Zu (Zv Zw (by rfl) T.cR YA (Za (kn hu (Zp (pv 0) rfl) (pv 1) (fun _ _=>rfl)) Zf))))),?_⟩
 refine ⟨_,rfl,_,rfl,p,_,dx,_,_,rfl,hS.ob,T.ZM,T.Zr,gs _ _,ea,_,rfl,aE.k hS.he (k:=.inl n),_,rfl,?_⟩;rw [hS.re.some gv];unfold yl at q
 cases hg:aa S.ent n with
 | some es=>
  rw [hg] at q;obtain ⟨ve,jf,⟨ae,rfl,di⟩⟩:=hS.re.yes gv hg;refine ao ⟨_,rfl,p,_,dx,_,_,rfl,hS.ob,T.ZM,T.Zr,gs _ _,_,rfl,ea,_,rfl,(by have:=aE.k hS.he (k:=.inl n);rw [jf] at this;exact this),ae,_,rfl,di,_,_,rfl,rfl,.inl ⟨by decide,by decide⟩,?_⟩;rw [tX];exact q
 | none=>
  rw [hg] at q
  have hd:∃ row,aa S.dat n=some row:=by
   unfold gw at hb;rw [hg,Yap,Wr] at hb;exact Option.isSome_iff_exists.mp hb
  obtain ⟨row,hd⟩:=hd;rw [hd] at q;obtain ⟨vr,jf,⟨t,rfl,ht⟩⟩:=hS.rd.yes gv hd;refine aj ⟨_,rfl,p,_,dx,_,_,rfl,hS.ob,T.ZM,T.Z2,mO _ _,_,rfl,da,_,rfl,(by have:=aE.k hS.hd (k:=.inl n);rw [jf] at this;exact this),t,_,rfl,.inr (av.of ht),?_⟩;rw [Yb];exact q
theorem Ztb (S:aF) {i:Nat} {p:Int×aO} (h:S.ent[i]?=some p):((S.ent.take (i + 1)).map fun p=>p.2.map (·.2)).flatten=((S.ent.take i).map fun p=>p.2.map (·.2)).flatten++p.2.map (·.2):=by
 have hi:i < S.ent.length:=(List.getElem?_eq_some_iff.mp h).1;rw [Y9 hi,Yz,Wa];rw [(List.getElem?_eq_some_iff.mp h).2]
 simp
inductive lL (g:Gs) (vs:List V) (H:Hp) (Q:VK) (aD:XK):Prop
 | mk (v:_) (S:_):vs=[v]->ZB g H S v->(lh S).length<=100000->(∀ l H',af H H'->H' l=some (.lst ((lh S).map V.int))->Q (.ref l) H')->lL g vs H Q aD
theorem Zu6 {H:Hp} {xs:List (Int×aO)} {kvs:List (Key×V)} (h:ZT XQ iw H xs kvs) {i:Nat} {v:V} (hv:(kvs.map (·.2))[i]?=some v):∃ p,xs[i]?=some p/\iw H p.2 v:=by
 unfold ZT at h
 induction h generalizing i with
 | nil=>simp at hv
 | @cons p q _ _ a t ih=>
  cases i with
  | zero=>simp at hv;subst hv;exact ⟨q,rfl,a.2⟩
  | succ i=>obtain ⟨p',h1,h2⟩:=ih (i:=i) (by simpa using hv);exact ⟨p',by simpa using h1,h2⟩
theorem Gg (es:aO):(d0 es).map (fun q=>q.2)=(es.map (·.2)).map V.int:=by
 unfold d0;rw [Xu,Xu];rfl
theorem Kv:Zm ["state","found","entries"] ["state"] (Zi Ze1):=ZE (by decide +kernel)
theorem ZeL (T:Tx K mg g):ah P w K mg base (aw P w) 1 g.JE g.Kj ["state"] (lL g):=by
 refine T.Df.aG Kv fun vs H Q E h=>?_;obtain ⟨v,S,rfl,⟨p,dx,da,ea,dk,ek,rfl,hS⟩,d9,q⟩:=h;refine ⟨rfl,fun _ _ _ _ hr=>?_⟩;have hu:=u1 hr.units
 refine ⟨_,(Zd (Zt (i:=1) Kv.nd rfl (Or.inl rfl) (mf Zf))
  (Zd (yt (gN YE rfl (yr (qg YT XB XA wM (Zp (pv 0) rfl))) (ZG (i:=2) Kv.nd rfl (Or.inl rfl)) (Zh (ZJ (kc YR PySem.F.slot_list_extend PySem.F.type_list_extend Zus (pv 1) (Za (lC Ztv rfl T.wb PyProof.Rows.Boot.«list» (Za (qg YT XB XA wM (pv 2)) Zf)) Zf))))))
  (Zh (Zu (pv 1))))),?_⟩
 refine ⟨Yt _,fun D hD=>?_⟩;have ha:=hS.he;have ni:ea≠D:=Zc ha hD;have xk:p≠D:=Zc hS.ob hD;refine ⟨ea,.dK ek,(by rw [Ze ni];exact ha),rfl,?_⟩;refine ⟨_,rfl,p,_,dx,_,_,rfl,(by rw [Ze xk];exact hS.ob),T.ZM,T.Zr,gs _ _,?_⟩;refine ⟨.inr (.inr (.inl ⟨rfl,.inl ⟨ek,(by rw [Ze ni];exact ha)⟩⟩)),ea,.dK ek,rfl,rfl,.inl (by rw [Ze ni];exact ha),rfl,fun r cm=>?_⟩;have sM:ea≠r:=Zc (H:=upd H D (.lst [])) (by rw [Ze ni];exact ha) cm;have nDr:D≠r:=Zc (H:=upd H D (.lst [])) Zb cm;have Eh:H r=none:=by rw [Ze nDr.symm] at cm;exact cm
 refine ⟨r,ea,.dK ek,rfl,Zb,(by rw [Ze sM,Ze ni];exact ha),rfl,fun ob=>?_⟩
 refine B3 (d:=ea) (ob:=ob) (u:=.dK ek) (fun i σ H'=>(∃ o2,σ=[some (.ref p),some (.ref D),o2])/\H' ea=some (.bf ob (.dK ek))/\H' D=some (.lst ((((S.ent.take i).map fun p=>p.2.map (·.2)).flatten).map V.int))/\∀ b o,H b=some o->b≠ea->H' b=some o)
  ⟨⟨none,rfl⟩,Zb,(by rw [Ze ni.symm,Ze nDr];exact Zb),fun b o e hb=>by rw [Ze hb,Ze (Zc e Eh),Ze (Zc e hD)];exact e⟩ (fun i σ H' _ h=>h.2.1) (fun i x σ H' hx h=>?_) (fun σ H' h=>?_)
 .obtain ⟨⟨o2,rfl⟩,dZ,vB,kp⟩:=h;obtain ⟨pe,hp,ae,rfl,di⟩:=Zu6 hS.re hx
  have u6:ae≠ea:=fun z=>by
   subst z;have e:=Yu (ha.symm.trans di);injection e with e;have nj:(ek.map (·.2))[i]?=some (.ref ae):=hx;rw [Yo] at nj
   cases hk:ek[i]? with
   | none=>rw [hk] at nj;cases nj
   | some kv=>
    obtain ⟨y,_,e1,_⟩:=wJ hS.re hk;rw [e] at hk;unfold d0 at hk;rw [Yo] at hk
    cases hq:pe.2[i]? with
    | none=>rw [hq] at hk;cases hk
    | some u=>
     rw [hq] at hk;rw [<- Yu hk] at e1
     cases e1
  have uG:=kp _ _ di u6
  have aT:(((S.ent.take (i + 1)).map fun p=>p.2.map (·.2)).flatten).length<=100000:=by
   have e1:lh S=((S.ent.take (i + 1)).map fun p=>p.2.map (·.2)).flatten++((S.ent.drop (i + 1)).map fun p=>p.2.map (·.2)).flatten:=by
    unfold lh;rw [<- Wa,<- Yz,W4]
   rw [e1,Yd] at d9;omega
  rw [Ztb S hp] at aT ⊢;generalize ((S.ent.take i).map fun p=>p.2.map (·.2)).flatten=F at vB aT;rw [Yd] at aT;refine ⟨_,rfl,.inl ⟨rfl,_,ay.of vB⟩,_,rfl,.inr (.inr (.inl ⟨rfl,.inl ⟨_,uG⟩⟩)),ae,.dK _,rfl,rfl,.inl uG,rfl,fun r2 qQ=>?_⟩;have s2:=Zk (o:=rD r2 ae) qQ;refine ⟨r2,ae,_,rfl,Zb,.inl (s2 _ _ uG),fun l2 j7=>?_⟩;have s3:=Zk (o:=.lst ((d0 pe.2).map fun q=>q.2)) j7;refine ⟨D,l2,_,_,rfl,rfl,s3 _ _ (s2 _ _ vB),Zb,?_,?_⟩
  .rw [Gg,Yb,Yb];exact Zn aT (by decide)
  .have sA:=s2.trans s3;have nlD:ea≠D:=ni;refine ⟨⟨_,rfl⟩,(by rw [Ze nlD];exact sA _ _ dZ),?_,fun b o e hb=>?_⟩
   .rw [Gg,Yz];exact Zb
   .rw [Ze (Zc e hD)];exact sA _ _ (kp _ _ e hb)
 .obtain ⟨⟨o2,rfl⟩,dZ,vB,kp⟩:=h;have nz:(fj (.dK ek)).length=S.ent.length:=by show (ek.map (·.2)).length=_;rw [Yb,hS.re.len]
  rw [nz,Xc] at vB;refine ⟨ob,.dK ek,dZ,rfl,?_⟩
  have sm:af H (upd H' ea (.dK ek)):=fun b o e=>by
   by_cases z:b=ea
   .subst z;rw [Zb,<- e,ha]
   .rw [Ze z];exact kp _ _ e z
  exact ⟨_,rfl,q _ _ sm (by rw [Ze ni.symm];exact vB)⟩
inductive g8 (g:Gs) (vs:List V) (H:Hp) (Q:VK) (aD:XK):Prop
 | mk (v:_) (S:_) (n:_):vs=[v,.int n]->ZB g H S v->(lh S).length<=100000->(∀ H',af H H'->Q (.int (yw S n)) H')->g8 g vs H Q aD
theorem Zrb:Zm ["state","number"] ["state","number"] (Zi Znb):=ZE (by decide +kernel)
theorem Zri (T:Tx K mg g):ah P w K mg base (aw P w) 2 g.F8 g.Hx ["state","number"] (g8 g):=by
 refine T.G8.aG Zrb fun vs H Q E h=>?_;obtain ⟨v,S,n,rfl,nC,hl,q⟩:=h;refine ⟨rfl,fun _ _ _ _ hr=>?_⟩;obtain ⟨p,dx,da,ea,dk,ek,rfl,hS⟩:=id nC;have hu:=u1 hr.units
 refine ⟨_,(Zd (ZZ (fo (nL hu (pv 1) (Zp (pv 0) rfl))) (Zh (Zu Zo)) Zy)
  (Zh (Zu (kc YR PySem.F.slot_list_count PySem.F.type_list_count Zsf (Zl (ZeL T) hr.dn rfl T.Zfh T.Df.kp T.cb .nil Zg (Za (pv 0) Zf)) (Za (pv 1) Zf))))),?_⟩
 refine ⟨_,rfl,_,rfl,p,_,dx,_,_,rfl,hS.ob,T.ZM,T.Zr,gs _ _,ea,_,rfl,aE.k hS.he (k:=.inl n),_,rfl,?_⟩;rw [hS.re.some gv];unfold yw at q
 cases hd:(aa S.ent n).isSome with
 | true=>rw [hd] at q;exact ao (q _ (af.refl _))
 | false=>
  rw [hd] at q;refine aj ⟨_,rfl,_,S,rfl,nC,hl,fun l H1 s1 dg=>?_⟩;refine ⟨.inl ⟨rfl,_,ay.of dg⟩,_,rfl,l,_,_,rfl,rfl,ay.of dg,rfl,?_,?_⟩
  .rw [List.all_map];exact List.all_eq_true.mpr fun _ _=>rfl
  .rw [ZqG];exact q _ s1
theorem Zn3:Zm ["row","size"] ["row","size"] (Zi ZjH):=ZE (by decide +kernel)
theorem Zoq (T:Tx K mg g):ah P w K mg base (aw P w) 1 g.c_ g.IL ["row","size"] fH:=by
 refine T.I0.aG Zn3 fun vs H Q E h=>?_;obtain ⟨row,v,n,rfl,⟨t,rfl,ht⟩,hl,vi,A5,q⟩:=h;refine ⟨rfl,fun _ _ _ _ hr=>?_⟩;refine ⟨_,(Zh (Zu (ZC jv (pv 0) (ZC yp (ed (Za Zo Zf)) (ZC pq (pv 1) (Zv Zw (by rfl) T.cR YA (Za (pv 0) Zf))))))),?_⟩;refine ⟨_,rfl,a9 1,fun b hb=>?_⟩;have s2:=Zk (o:=.tup [.int 0]) hb;refine ⟨_,rfl,_,rfl,t,_,rfl,.inr (av.of (s2 _ _ ht)),_,_,rfl,rfl,b,_,_,rfl,rfl,Zb,by simp,?_,?_,?_,fun c H2 s3 hc=>?_⟩
 .rw [Yb];omega
 .rw [Yb];omega
 .rw [Yb];show 1 * _<=_;exact Zn (m:=20000) (by omega) (by decide)
 rw [wz,Yb] at hc;have cZ:=s3 _ _ (s2 _ _ ht);refine ⟨t,c,_,_,rfl,rfl,av.of cZ,av.of hc,fun _=>hc,fun _ _=>cZ,?_,fun d H3 s4 hd=>?_⟩
 .rw [Yb,YC];exact Zn (m:=40000) (by omega) (by decide)
 refine q _ H3 (s2.trans (s3.trans s4)) ⟨d,rfl,?_⟩;rw [hd];unfold c8;rw [Yz,XW]
theorem Zsz {S:aF} (so:eZ S) {n:Int} {d:Row} (h:kg S n=.ok d):d.length<=1000:=by
 unfold kg at h
 split at h
 .split at h
  .cases h
  .cases h
   cases hd:aa S.dat n with
   | none=>exact Yt _
   | some r=>exact so.row n r hd
 .cases h
inductive gP (g:Gs) (vs:List V) (H:Hp) (Q:VK) (E:XK):Prop
 | mk (v:_) (S:_) (n:_) (bJ:_) (l:_) (row:_):vs=[v,.int n,.int bJ,.ref l]->ZB g H S v->eZ S->0<=bJ->H l=some (.lst (row.map V.int))->row.length<=1000->gn g (ZB g) H (pG S n bJ row) Q E->gP g vs H Q E
theorem Cw:Zm ["state","number","start","row","data","end","ahead"] ["state","number","start","row"] (Zi ZpM):=ZE (by decide +kernel)
theorem Zs6 (T:Tx K mg g):ah P w K mg base (aw P w) 4 g.written g.G0 ["state","number","start","row"] (gP g):=by
 refine T.Gy.aG Cw fun vs H Q E h=>?_;obtain ⟨v,S,n,bJ,l,row,rfl,hS,so,gc,hl,xB,q⟩:=h;refine ⟨rfl,fun _ _ _ _ hr=>?_⟩
 refine ⟨_,(Zd (Zt (i:=4) Cw.nd rfl (Or.inl rfl) (Zl (Znq T) hr.dn rfl T.Zqg T.Cb.kp T.ij .nil Zg (Za (pv 0) (Za (pv 1) Zf))))
  (Zd (Zt (i:=5) Cw.nd rfl (Or.inl rfl) (ZC gM (pv 2) (Zv Zw (by rfl) T.cR YA (Za (pv 3) Zf))))
  (Zd (ZZ (ZI ma (pv 5) (Zs (v:=.int 600) rfl T.IG ⟨_,rfl⟩) (ZU _)) (Zh (ZN T.yH rfl T.yF (Za ZY Zf))) Zy)
  (Zd (ZZ (ZI nJ (Zv Zw (by rfl) T.cR YA (Za (pv 3) Zf)) Zo (ZU _)) (Zh (Zu (pv 0))) Zy)
  (Zd (Zt (i:=6) Cw.nd rfl (Or.inl rfl) (jc lB (Zl (Zoq T) hr.dn rfl T.Zqd T.I0.kp T.iV .nil Zg (Za (pv 4) (Za (pv 2) Zf))) nQ (Z9 (pv 2))))
  (Zh (Zu (Zl (Zj4 T) hr.dn rfl T.ZlK T.CF.kp T.eV .nil Zg (Za (pv 0) (Za (pv 1) (Za (ZC jv (ZC jv (pv 6) (lC CP rfl T.BS PyProof.Rows.Boot.«tuple» (Za (pv 3) Zf))) (jc lB (pv 4) (Z9 (pv 5)) nQ)) Zf))))))))))),?_⟩
 refine ⟨_,rfl,_,rfl,v,S,n,rfl,hS,?_⟩;unfold pG at q
 cases hd:kg S n with
 | error r=>
  rw [hd] at q;exact fun H' s'=>q H' s'
 | ok d=>
  rw [hd] at q;dsimp only at q;intro u H1 s1 vd;have nz:=Zsz so hd;have dg:=s1 _ _ hl;refine ⟨_,rfl,_,rfl,l,_,rfl,.inl (ay.of dg),_,_,rfl,rfl,?_⟩;rw [Yb];refine ⟨_,rfl,_,_,rfl,rfl,_,rfl,?_⟩
  by_cases h6:600 < bJ + (row.length:Int)
  .rw [if_pos h6] at q;rw [decide_eq_true h6];exact ao ⟨a9 1,q _ s1⟩
  rw [if_neg h6] at q;rw [decide_eq_false h6];refine aj ⟨_,rfl,l,_,rfl,.inl (ay.of dg),rfl,_,rfl,?_⟩;rw [Yb]
  by_cases h0:row=[]
  .rw [if_pos h0] at q;rw [decide_eq_true (show V.int (row.length:Int)=V.int 0 by rw [h0];rfl)];exact ao ⟨_,rfl,q _ _ s1 (ZB.mono _ _ _ _ s1 hS)⟩
  rw [if_neg h0] at q
  rw [decide_eq_false (show ¬ V.int (row.length:Int)=V.int 0 by
   intro z;injection z with z;exact h0 (List.length_eq_zero_iff.mp (by omega)))]
  refine aj ?_;refine ⟨_,rfl,_,rfl,d,u,bJ,rfl,vd,by omega,by omega,by omega,fun u2 H2 s2 xv=>?_⟩;obtain ⟨t2,rfl,cZ⟩:=xv;refine ⟨_,rfl,_,rfl,t2,_,rfl,cZ,fun t3 H3 s3 mG=>?_⟩;rw [Zxs _ _ gc] at mG;have oP:=s2.trans s3;have kU:=oP _ _ dg;refine ⟨_,rfl,_,rfl,_,rfl,_,rfl,l,_,rfl,.inl ⟨ay.of kU,fun t4 hn4=>?_⟩⟩;have s4:=Zk (o:=.tup (row.map V.int)) hn4;have f4:=Zb (H:=H3) (a:=t4) (o:=.tup (row.map V.int));have zD:=s4 _ _ mG;refine ⟨t3,t4,_,_,rfl,rfl,av.of zD,av.of f4,fun _=>f4,fun _ _=>zD,?_,fun t5 H5 s5 pT=>?_⟩
  .rw [Yb,Yb,YH];exact Zn (m:=20000) (by omega) (by decide)
  obtain ⟨tu,rfl,oR⟩:=ZH.mono _ _ _ _ ((oP.trans s4).trans s5) vd;refine ⟨_,rfl,_,rfl,_,rfl,tu,_,rfl,oR,fun t6 H6 s6 Ef=>?_⟩;rw [Zva _ _ (by omega)] at Ef;have zC:=s6 _ _ pT;refine ⟨t5,t6,_,_,rfl,rfl,av.of zC,av.of Ef,fun _=>Ef,fun _ _=>zC,?_,fun t7 H7 s7 ht7=>?_⟩
  .rw [Yd,Yb,Yb,Yb,YH,YB];exact Zn (m:=20000) (by omega) (by decide)
  have sA:=(((oP.trans s4).trans s5).trans s6).trans s7;refine ⟨v,S,n,(c8 d bJ).take bJ.toNat++row++d.drop (bJ + (row.length:Int)).toNat,_,rfl,ZB.mono _ _ _ _ (s1.trans sA) hS,⟨t7,rfl,?_⟩,(by have:=so.n;omega),fun v' H' s' h'=>q _ _ ((s1.trans sA).trans s') h'⟩;rw [ht7,Yz,Yz]
theorem Cj {H H':Hp} {l:Addr} (s:af H H') (h:H' l=none):H l=none:=by
 cases e:H l with
 | none=>rfl
 | some o=>rw [s _ _ e] at h;cases h
def wa (F:cH) (n bJ:Int) (row:Row):Except Rf cH:=match pG F.S n bJ row with
 | .error r=>.error r
 | .ok S=>k_ F S F.k
theorem Zok {κ α:Type} [DecidableEq κ] {xs:List (κ×α)} {k:κ} {x y:α} (h:aa xs k=some y):(ai xs k x).length=xs.length:=by
 unfold ai;rw [wt,h,if_pos (by rfl),Yb]
theorem Zx3 {S:aF} (so:eZ S) {n:Int} {d row:Row} (hd:kg S n=.ok d) (hl:row.length<=1000):eZ ⟨ai S.dat n row,S.ent⟩:=by
 have hg:∃ y,aa S.dat n=some y:=by
  unfold kg at hd
  split at hd
  .rename_i hb
   split at hd
   .cases hd
   .rename_i hg
    unfold gw at hb;rw [hg,Yap,Wr] at hb;exact Option.isSome_iff_exists.mp hb
  .cases hd
 obtain ⟨y,hg⟩:=hg;refine ⟨?_,fun m r h=>?_,so.ent⟩
 .show (ai S.dat n row).length + S.ent.length < 64;rw [Zok hg];exact so.n
 .have h':aa (ai S.dat n row) m=some r:=h;rw [ju] at h'
  by_cases z:m=n
  .rw [if_pos z] at h';cases h';exact hl
  .rw [if_neg z] at h';exact so.row m r h'
theorem ZsI {S S':aF} (so:eZ S) {n bJ:Int} {row:Row} (h0:0<=bJ) (h:pG S n bJ row=.ok S'):eZ S':=by
 unfold pG at h
 cases hd:kg S n with
 | error r=>rw [hd] at h;cases h
 | ok d=>
  rw [hd] at h;dsimp only at h
  split at h
  .cases h
  .split at h
   .cases h;exact so
   .cases h
    refine Zx3 so hd ?_
    have:=Zsz so hd
    rw [Yd,Yd,YH,YB];omega
inductive dD (g:Gs) (vs:List V) (H:Hp) (Q:VK) (E:XK):Prop
 | mk (f:_) (q:_) (p:_) (b:_) (l:_) (F:_) (n:_) (bJ:_) (a:_) (row:_):vs=[.ref f,.int n,.int bJ,.ref a]->dm g H f q p b l F->eZ F.S->0<=bJ->H a=some (.lst (row.map V.int))->row.length<=1000->kf F.k->vI F.T.synced->(match wa F n bJ row with
 | .error r=>∀ H',af H H'->E (.ref (g.xa r)) none H'
 | .ok F'=>∀ H',aU f H H'->dm g H' f q p b l F'->Q (.int (row.length:Nat)) H')->dD g vs H Q E
theorem Zmx:Zm ["self","number","start","row"] ["self","number","start","row"] (Zi ZhE):=ZE (by decide +kernel)
theorem Zgz (T:Tx K mg g):ah P w K mg base (aw P w) 7 g.Iu g.Jq ["self","number","start","row"] (dD g):=by
 refine T.Zis.aG Zmx fun vs H Q E h=>?_;obtain ⟨f,q0,p,b,l,F,n,bJ,a,row,rfl,qX,so,gc,ha,xB,kk,po,q⟩:=h;refine ⟨rfl,fun _ _ _ _ hr=>?_⟩;obtain ⟨dx,sv,kv,iv,hF⟩:=id qX;have naf:a≠f:=ZD ha hF.ob (by intro z;cases z)
 refine ⟨_,(Zd (ZJ (rM (pv 0) T.Zz T.Z6 (Z0 T) hr.dn T.aB .nil Zg))
  (Zd (ZJ (ZQ (pv 0) T.Zz T.Ks (KJ T) hr.dn T.bq .nil Zg (Za (Zl (Zs6 T) hr.dn rfl T.Zuy T.Gy.kp T.mz .nil Zg (Za (Zp (pv 0) rfl) (Za (pv 1) (Za (pv 2) (Za (pv 3) Zf))))) (Za (Zp (pv 0) rfl) Zf))))
  (Zh (Zu (Zv Zw (by rfl) T.cR YA (Za (pv 3) Zf)))))),?_⟩
 refine ⟨_,rfl,f,dx,_,rfl,hF.ob,gL _ _ _ _,?_⟩;refine ⟨f,dx,_,_,_,_,rfl,hF.ob,.inr ⟨⟨q0,rfl⟩,?_⟩⟩;refine ⟨_,rfl,f,dx,_,rfl,hF.ob,gL _ _ _ _,_,rfl,f,_,dx,_,_,rfl,hF.ob,T.Zz,T.ZL,mQ _ _ _ _,_,rfl,_,rfl,_,rfl,?_⟩;refine ⟨sv,F.S,n,bJ,a,row,rfl,hF.st,so,gc,ha,xB,?_⟩;unfold wa at q
 cases hm:pG F.S n bJ row with
 | error r=>
  rw [hm] at q;exact fun H' s'=>q H' s'
 | ok S=>
  rw [hm] at q;dsimp only at q;intro v2 H2 s2 jX;have EI:=qX.same s2;refine ⟨_,rfl,f,_,dx,_,_,rfl,s2 _ _ hF.ob,T.Zz,T.Z3,qc _ _ _ _,?_⟩;refine ⟨f,q0,p,b,l,F,v2,kv,S,F.k,rfl,EI,jX,cQ.mono _ _ _ _ s2 hF.ke,ZsI so gc hm,kk,po,?_⟩
  cases ht:k_ F S F.k with
  | error r=>
   rw [ht] at q;exact fun H' s'=>q H' (s2.trans s')
  | ok F'=>
   rw [ht] at q;intro H' b1 h';refine ⟨_,rfl,a,_,rfl,.inl (ay.of (b1 _ _ (s2 _ _ ha) naf)),?_⟩;rw [Yb];exact q H' (fun d o e hd=>b1 _ _ (s2 _ _ e) hd) h'
inductive lO (g:Gs) (vs:List V) (H:Hp) (Q:VK) (E:XK):Prop
 | mk (f:_) (dx:_) (sv:_) (k:_) (t:_) (i:_) (S:_) (n:_) (bJ:_) (many:_):vs=[.ref f,.int n,.int bJ,.int many]->H f=some (.ins g.au dx (cn sv k t i))->ZB g H S sv->0<=bJ->0<=many->(match kg S n with
 | .error r=>∀ H',af H H'->E (.ref (g.xa r)) none H'
 | .ok d=>∀ l H',af H H'->H l=none->H' l=some (.lst (((d.drop bJ.toNat).take many.toNat).map V.int))->Q (.ref l) H')->lO g vs H Q E
theorem Zod:Zm ["self","number","start","many"] ["self","number","start","many"] (Zi ZjX):=ZE (by decide +kernel)
theorem Zoz (T:Tx K mg g):ah P w K mg base (aw P w) 4 g.Ha g.Jd ["self","number","start","many"] (lO g):=by
 refine T.Zks.aG Zod fun vs H Q E h=>?_;obtain ⟨f,dx,sv,k,t,i,S,n,bJ,many,rfl,hf,hS,h0,h1,q⟩:=h;refine ⟨rfl,fun _ _ _ _ hr=>?_⟩;refine ⟨_,(Zh (Zu (lC Zkk rfl T.wb PyProof.Rows.Boot.«list» (Za (jc lB (Zl (Znq T) hr.dn rfl T.Zqg T.Cb.kp T.ij .nil Zg (Za (Zp (pv 0) rfl) (Za (pv 1) Zf))) (Z9 (pv 2)) (Z9 (ZC gM (pv 2) (pv 3)))) Zf)))),?_⟩;refine ⟨_,rfl,f,_,dx,_,_,rfl,hf,T.Zz,T.ZL,mQ _ _ _ _,_,rfl,sv,S,n,rfl,hS,?_⟩
 cases hd:kg S n with
 | error r=>
  rw [hd] at q;exact fun H' s'=>q H' s'
 | ok d=>
  rw [hd] at q;dsimp only at q;intro u H1 s1 ⟨t1,e,eJ⟩;subst e;refine ⟨_,rfl,_,rfl,_,rfl,_,rfl,_,_,rfl,rfl,_,rfl,t1,_,rfl,eJ,fun t2 H2 s2 cZ=>?_⟩;rw [Zvb _ _ _ h0 h1] at cZ;refine ⟨t2,_,rfl,.inr (av.of cZ),fun l hl=>?_⟩;exact q l _ ((s1.trans s2).trans (Zk hl)) (Cj (s1.trans s2) hl) Zb
inductive iO (g:Gs) (vs:List V) (H:Hp) (Q:VK) (E:XK):Prop
 | mk (f:_) (dx:_) (sv:_) (k:_) (t:_) (i:_) (S:_) (n:_):vs=[.ref f,.int n]->H f=some (.ins g.au dx (cn sv k t i))->ZB g H S sv->(lh S).length<=100000->(if gw S n then
 ∀ t H',af H H'->H' t=some (.tup [.str (kindOf S n),.int (yw S n),.int (yl S n)])->Q (.ref t) H' else ∀ H',af H H'->E (.ref (g.xa .aZ)) none H')->iO g vs H Q E
theorem Zoc:Zm ["self","number"] ["self","number"] (Zi ZjV):=ZE (by decide +kernel)
theorem Zox (T:Tx K mg g):ah P w K mg base (aw P w) 3 g.Hd g.Jf ["self","number"] (iO g):=by
 refine T.Zkq.aG Zoc fun vs H Q E h=>?_;obtain ⟨f,dx,sv,k,t,i,S,n,rfl,hf,hS,hl,q⟩:=h;refine ⟨rfl,fun _ _ _ _ hr=>?_⟩
 refine ⟨_,(Zd (ZJ (Zl (J5 T) hr.dn rfl T.JB T.yM.kp T.bI .nil Zg (Za (Zp (pv 0) rfl) (Za (pv 1) Zf))))
  (Zh (Zu (ed (Za (Zl (Zs8 T) hr.dn rfl T.ZuA T.Gw.kp T.mC .nil Zg (Za (Zp (pv 0) rfl) (Za (pv 1) Zf))) (Za (Zl (Zri T) hr.dn rfl T.Zti T.G8.kp T.kO .nil Zg (Za (Zp (pv 0) rfl) (Za (pv 1) Zf))) (Za (Zl (Zs7 T) hr.dn rfl T.Zuz T.Gx.kp T.mB .nil Zg (Za (Zp (pv 0) rfl) (Za (pv 1) Zf))) Zf))))))),?_⟩
 refine ⟨_,rfl,f,_,dx,_,_,rfl,hf,T.Zz,T.ZL,mQ _ _ _ _,_,rfl,sv,S,n,rfl,hS,?_⟩;unfold wK
 cases hb:gw S n with
 | false=>
  rw [hb,if_neg (by decide)] at q;exact fun H' s'=>q H' s'
 | true=>
  rw [hb,if_pos rfl] at q;intro u H1 s1 _;have qS:=s1 _ _ hf;have xP:=ZB.mono _ _ _ _ s1 hS;refine ⟨_,rfl,f,_,dx,_,_,rfl,qS,T.Zz,T.ZL,mQ _ _ _ _,_,rfl,sv,S,n,rfl,xP,?_⟩;refine ⟨_,rfl,f,_,dx,_,_,rfl,qS,T.Zz,T.ZL,mQ _ _ _ _,_,rfl,sv,S,n,rfl,xP,hl,fun H2 s2=>?_⟩;refine ⟨_,rfl,f,_,dx,_,_,rfl,s2 _ _ qS,T.Zz,T.ZL,mQ _ _ _ _,_,rfl,sv,S,n,rfl,ZB.mono _ _ _ _ s2 xP,hb,?_⟩;exact ⟨a9 3,fun t ht=>q t _ ((s1.trans s2).trans (Zk ht)) Zb⟩
inductive oK (K:Yg) (vs:List V) (H:Hp) (Q:VK) (aD:XK):Prop
 | mk (a:Addr) (ns:List Int) (k:Int):vs=[.ref a,.int k]->ay K H a (ns.map V.int)->ns.length<=63->0<=k->k < 1000000->(∀ H',af H H'->Q (.int (tO ns k)) H')->oK K vs H Q aD
inductive lP (vs:List V) (H:Hp) (Q:VK) (aD:XK):Prop
 | mk (c k:Int):vs=[.int c,.int k]->Q (.int (Bo c k)) H->lP vs H Q aD
theorem ZpI:Zm ["_law_script","_law_k"] ["_law_script","_law_k"] (Zi Zll):=ZE (by decide +kernel)
theorem IQ (T:Tx K mg g):ah P w K mg base (aw P w) 1 g.eA g.cA ["_law_script","_law_k"] (oK K):=by
 refine T.yJ.aG ZpI fun vs H Q E h=>?_;obtain ⟨a,ns,k,rfl,hS,hl,A7,o_,q⟩:=h;refine ⟨rfl,fun _ _ _ _ hr=>?_⟩;have iF:=hr.units
 refine ⟨_,(Zd (ZZ (ZI (Zwr iF) (pv 0) (mf Zf) (ZU _)) (Zh (Zu (ZC pk (pv 1) Zo))) Zy)
  (Zh (Zu (ZC gM (d_ qj (pv 0) (ZC jb (pv 1) (Zv Zw (by rfl) T.cR YA (Za (pv 0) Zf))) (fun _ _=>rfl)) (ZC pk (ZC pD (pv 1) (Zv Zw (by rfl) T.cR YA (Za (pv 0) Zf))) Zo))))),?_⟩
 refine ⟨_,rfl,Yt _,fun p hp=>?_⟩;have sm:af H (upd H p (.lst [])):=Zk hp;have p8:=sm.seq hS;refine ⟨.list (ns.map .int),.list [],.inl (.inr ⟨a,_,_,rfl,rfl,p8,B6 _ ns⟩),.inl (.inr ⟨p,[],[],rfl,rfl,ay.of Zb,.nil⟩),CN ns,rfl,_,rfl,?_⟩
 cases ns with
 | nil=>
  refine ao ?_;refine ⟨_,rfl,_,_,rfl,rfl,.inr ⟨by decide,by decide⟩,?_⟩;exact q _ sm
 | cons n r=>
  refine aj ?_;have hL:(0:Int) < ((n::r).length:Int):=by rw [Yv];omega
  have hm0:0<=k % ((n::r).length:Int):=XN _ (by omega);have hm1:k % ((n::r).length:Int) < ((n::r).length:Int):=Xy _ hL;have aT:(k % ((n::r).length:Int)).toNat < (n::r).length:=by omega
  have hd0:0<=k / ((n::r).length:Int):=Int.ediv_nonneg A7 (by omega);have pZ:k / ((n::r).length:Int)<=k:=Int.ediv_le_self _ A7
  have gf:ji ((n::r).map V.int) (k % ((n::r).length:Int))=some (V.int ((n::r).getD (k % ((n::r).length:Int)).toNat 0)):=by
   refine v7 hm0 ?_;rw [Yo,Yk aT,Xm,Yi,Yk aT];rfl
  have mv:((n::r).map V.int).length=(n::r).length:=Yb ..;refine ⟨_,rfl,_,rfl,_,rfl,a,_,rfl,.inl p8,_,_,rfl,rfl,(by rw [mv];exact hL),a,_,_,_,rfl,rfl,p8,(by rw [mv];exact gf),?_⟩;refine ⟨_,rfl,_,rfl,a,_,rfl,.inl p8,_,_,rfl,rfl,(by rw [mv];exact ⟨hL,by omega⟩),_,_,rfl,rfl,.inr ⟨by decide,by decide⟩,_,_,rfl,rfl,?_⟩
  have:=q _ sm
  rw [mv];unfold tO at this;rw [if_neg (by simp)] at this;exact this
theorem Zhs:Zm ["_law_cell_here","_law_k","_law_more"] ["_law_cell_here","_law_k"] (Zi ZjP):=ZE (by decide +kernel)
theorem ZhT (T:Tx K mg g):ah P w K mg base (aw P w) 1 g.dc g.b9 ["_law_cell_here","_law_k"] lP:=by
 refine T.CG.aG Zhs fun vs H Q E h=>?_;obtain ⟨c,k,rfl,q⟩:=h;refine ⟨rfl,fun _ _ _ _ hr=>?_⟩
 refine ⟨_,(Zd (Zt (i:=2) Zhs.nd rfl (Or.inl rfl) (ZC jb (ZC gM (ZC pk (pv 0) Zo) (ZC pk (ZC gM (pv 1) Zo) Zo)) Zo))
  (Zh (Zu (ZC jb (ZC Zw0 (pv 2) (pv 2)) Zo)))),?_⟩
 refine ⟨_,rfl,_,_,rfl,rfl,.inr ⟨by decide,by decide⟩,_,rfl,_,_,rfl,rfl,_,_,rfl,rfl,.inr ⟨by decide,by decide⟩,_,_,rfl,rfl,_,_,rfl,rfl,(by show (0:Int) < 340282366920938463463374607431768211507;decide),?_⟩;have h1:=ZvP c k;have h2:=ZvQ c k
 have h3:(vN c k).natAbs < 2 ^ 200:=by
  have:(vN c k).natAbs < 340282366920938463463374607431768211507:=by omega
  exact Nat.lt_trans this (by decide)
 refine ⟨_,rfl,_,rfl,_,_,rfl,rfl,⟨h3,h3⟩,_,_,rfl,rfl,(by show (0:Int) < 340282366920938463463374607431768211297;decide),?_⟩;exact q
theorem Zsl (xs:List Int) (n:Int):sQ (.int n) (xs.map V.int)=xs.contains n:=by
 unfold sQ;rw [List.any_map]
 induction xs with
 | nil=>rfl
 | cons x r ih=>
  rw [WJ,List.contains_cons,ih]
  congr 1
  show (x == n)=(n == x);exact Bool.beq_comm
theorem Ga (xs:List Int):(xs.map V.int).all mR=true:=by rw [List.all_map];exact List.all_eq_true.mpr fun _ _=>rfl
def uc (S:aF) (n:Int):Except Rf aO:=if gw S n then (match aa S.dat n with
 | some _=>.error .wrongKind
 | none=>.ok ((aa S.ent n).getD [])) else .error .aZ
def yC (n:Str):Except Rf Unit:=if Z4 n then .ok () else .error .bV
def BF (F:cH) (n:Str):Except Rf cH:=if Z4 n then (if (aa F.k n).isSome then .error .dC else if 3<=F.k.length then .error .bK else k_ F F.S (ai F.k n F.S)) else .error .bV
inductive eP (g:Gs) (vs:List V) (H:Hp) (Q:VK) (E:XK):Prop
 | mk (v:_) (S:_) (n:_):vs=[v,.int n]->ZB g H S v->gn g iw H (uc S n) Q E->eP g vs H Q E
theorem Zn4:Zm ["state","number"] ["state","number"] (Zi ZjL):=ZE (by decide +kernel)
theorem Zos (T:Tx K mg g):ah P w K mg base (aw P w) 3 g.HK g.ID ["state","number"] (eP g):=by
 refine T.IY.aG Zn4 fun vs H Q E h=>?_;obtain ⟨v,S,n,rfl,nC,q⟩:=h;refine ⟨rfl,fun _ _ _ _ hr=>?_⟩;have hu:=u1 hr.units
 refine ⟨_,(Zd (ZJ (Zl (J5 T) hr.dn rfl T.JB T.yM.kp T.bI .nil Zg (Za (pv 0) (Za (pv 1) Zf))))
  (Zd (ZZ (fo (nL hu (pv 1) (Zp (pv 0) rfl))) (Zh (ZN T.Zk0 rfl T.ZlM (Za ZY Zf))) Zy)
  (Zh (Zu (kn hu (Zp (pv 0) rfl) (pv 1) (fun _ _=>rfl)))))),?_⟩
 refine ⟨_,rfl,_,rfl,v,S,n,rfl,nC,?_⟩;unfold wK;unfold uc at q
 cases hb:gw S n with
 | false=>
  rw [hb] at q;exact fun H' s'=>q H' s'
 | true=>
  rw [hb,if_pos rfl] at q;intro v1 H1 s1 _;obtain ⟨p,dx,da,ea,dk,ek,rfl,hS⟩:=ZB.mono _ _ _ _ s1 nC;refine ⟨_,rfl,_,rfl,p,_,dx,_,_,rfl,hS.ob,T.ZM,T.Z2,mO _ _,da,_,rfl,aE.k hS.hd (k:=.inl n),_,rfl,?_⟩;rw [hS.rd.some gv]
  cases hg:aa S.dat n with
  | some es=>
   rw [hg] at q;exact ao ⟨a9 1,q _ s1⟩
  | none=>
   rw [hg] at q
   have hd:∃ es,aa S.ent n=some es:=by
    unfold gw at hb;rw [hg,Yap,Bool.false_or] at hb;exact Option.isSome_iff_exists.mp hb
   obtain ⟨es,hd⟩:=hd;rw [hd] at q;obtain ⟨vr,jf,iG⟩:=hS.re.yes gv hd;refine aj ⟨_,rfl,p,_,dx,_,_,rfl,hS.ob,T.ZM,T.Zr,gs _ _,_,rfl,ea,vr,rfl,(by have:=aE.k hS.he (k:=.inl n);rw [jf] at this;exact this),?_⟩;exact q _ _ s1 iG
inductive eS (g:Gs) (vs:List V) (H:Hp) (Q:VK) (E:XK):Prop
 | mk (n:_):vs=[.str n]->n.length<=1000->gn g rA H (yC n) Q E->eS g vs H Q E
theorem Zn6:Zm ["name"] ["name"] (Zi ZjN):=ZE (by decide +kernel)
theorem ZhS (T:Tx K mg g):ah P w K mg base (aw P w) 2 g.Hm g.IB ["name"] (eS g):=by
 refine T.CH.aG Zn6 fun vs H Q E h=>?_;obtain ⟨p,rfl,hl,q⟩:=h;refine ⟨rfl,fun _ _ _ _ hr=>?_⟩;refine ⟨_,(Zh (ZZ (px (ll (Zl (Ct T) hr.dn rfl T.Cm T.wD.kp T.cK .nil Zg (Za (pv 0) Zf)))) (Zh (ZN T.Zpl rfl T.Zqj (Za (wm (v5 (pv 0) (vZ vY))) Zf))) Zy)),?_⟩;refine ⟨_,rfl,p,rfl,Zn hl (by decide),fun H1 s1=>⟨_,rfl,?_⟩⟩
 cases hb:Z4 p with
 | true=>exact aj (q.ok (x:=()) (by unfold yC;rw [hb];rfl) _ _ s1 rfl)
 | false=>
  refine ao ?_;refine ⟨_,rfl,p,rfl,Zn hl (by decide),?_,?_,?_,?_,q.no (r:=.bV) (by unfold yC;rw [hb];rfl) _ s1⟩
  .rw [ZS];exact Zn (m:=1000) (by show 0 + p.length<=1000;omega) (by decide)
  .rw [ZS,ZS];exact Zn (m:=1100) (by show 0 + p.length + 11<=1100;omega) (by decide)
  .rw [ZS,ZS];exact Zn (m:=1100) (by show 0 + p.length + 11<=1100;omega) (by decide)
  .exact a9 1
def ZxC (H:Hp) (es:aO) (l:Addr):Prop:=∃ as:List Addr,H l=some (.lst (as.map V.ref))/\as.length=es.length/\∀ (j:Nat) a p,as[j]?=some a->es[j]?=some p->H a=some (.tup [.str p.1,.int p.2])
inductive jM (g:Gs) (vs:List V) (H:Hp) (Q:VK) (E:XK):Prop
 | mk (f:_) (dx:_) (sv:_) (k:_) (t:_) (i:_) (S:_) (n:_):vs=[.ref f,.int n]->H f=some (.ins g.au dx (cn sv k t i))->ZB g H S sv->eZ S->(match uc S n with
 | .error r=>∀ H',af H H'->E (.ref (g.xa r)) none H'
 | .ok es=>∀ l H',af H H'->H l=none->ZxC H' (d3 es) l->Q (.ref l) H')->jM g vs H Q E
theorem Zmz:Zm ["self","number"] ["self","number"] (Zi ZhG):=ZE (by decide +kernel)
theorem ZmH (T:Tx K mg g):ah P w K mg base (aw P w) 4 g.Ip g.Jn ["self","number"] (jM g):=by
 refine T.Ziu.aG Zmz fun vs H Q E h=>?_;obtain ⟨f,dx,sv,k,t,i,S,n,rfl,hf,hS,so,q⟩:=h;refine ⟨rfl,fun _ _ _ _ hr=>?_⟩;refine ⟨_,(Zh (Zu (Zv Zki (by rfl) T.wC PyProof.Rows.Boot.«sorted» (Za (qg YT YaL YaK GL (Zl (Zos T) hr.dn rfl T.Zqf T.IY.kp T.iX .nil Zg (Za (Zp (pv 0) rfl) (Za (pv 1) Zf)))) Zf)))),?_⟩;refine ⟨_,rfl,f,_,dx,_,_,rfl,hf,T.Zz,T.ZL,mQ _ _ _ _,_,rfl,sv,S,n,rfl,hS,?_⟩
 cases hd:uc S n with
 | error r=>
  rw [hd] at q;exact fun H' s'=>q H' s'
 | ok es=>
  rw [hd] at q;dsimp only at q;intro u H1 s1 ⟨a,e,ha⟩;subst e
  have iu:es.length < 64:=by
   unfold uc at hd
   split at hd
   .split at hd
    .cases hd
    .cases hd
     cases he:aa S.ent n with
     | none=>decide
     | some es=>exact (so.ent n es he).1
   .cases hd
  refine ⟨.inr (.inr (.inl ⟨rfl,.inl ⟨_,ha⟩⟩)),a,.dK _,rfl,rfl,.inl ha,rfl,fun r cm=>?_⟩;have s2:=Zk (o:=vQ r a) cm;refine ⟨r,a,es,rfl,Zb,.inl (s2 _ _ ha),iu,fun l as H' s' hn hl hlen _ hp=>?_⟩;exact q l H' ((s1.trans s2).trans s') (Cj (s1.trans s2) hn) ⟨as,hl,hlen,hp⟩
inductive jL (g:Gs) (vs:List V) (H:Hp) (Q:VK) (aD:XK):Prop
 | mk (f:_) (dx:_) (sv:_) (kv:_) (t:_) (i:_) (k:_):vs=[.ref f]->H f=some (.ins g.au dx (cn sv kv t i))->cQ g H k kv->k.length < 64->(∀ l H',af H H'->H l=none->H' l=some (.lst ((gi (k.map (·.1))).map V.str))->Q (.ref l) H')->jL g vs H Q aD
theorem Zmy:Zm ["self"] ["self"] (Zi ZhF):=ZE (by decide +kernel)
theorem ZmG (T:Tx K mg g):ah P w K mg base (aw P w) 1 g.Ir g.Jo ["self"] (jL g):=by
 refine T.Zit.aG Zmy fun vs H Q E h=>?_;obtain ⟨f,dx,sv,kv,t,i,k,rfl,hf,⟨a,kvs,rfl,ha,hd⟩,iu,q⟩:=h;refine ⟨rfl,fun _ _ _ _ hr=>?_⟩;refine ⟨_,(Zh (Zu (Zv Zkj (by rfl) T.wC PyProof.Rows.Boot.«sorted» (Za (Zp (pv 0) rfl) Zf)))),?_⟩;refine ⟨_,rfl,f,_,dx,_,_,rfl,hf,T.Zz,T.Z3,qc _ _ _ _,a,kvs,k.map (·.1),rfl,.inl ha,hd.r_,(by rw [Yb];exact iu),fun l hl=>?_⟩;exact q l _ (Zk hl) hl Zb
inductive eT (g:Gs) (vs:List V) (H:Hp) (Q:VK) (E:XK):Prop
 | mk (f:_) (dx:_) (sv:_) (kv:_) (t:_) (i:_) (k:_) (n:_):vs=[.ref f,.str n]->H f=some (.ins g.au dx (cn sv kv t i))->cQ g H k kv->n.length<=1000->gn g rA H (if (aa k n).isSome then .ok () else .error .aZ) Q E->eT g vs H Q E
theorem ZgK:Zm ["self","name"] ["self","name"] (Zi ZcU):=ZE (by decide +kernel)
theorem ZgP (T:Tx K mg g):ah P w K mg base (aw P w) 1 g.KG g.Kt ["self","name"] (eT g):=by
 refine T.Zdg.aG ZgK fun vs H Q E h=>?_;obtain ⟨f,dx,sv,kv,t,i,k,n,rfl,hf,⟨a,kvs,rfl,ha,hd⟩,hl,q⟩:=h;refine ⟨rfl,fun _ _ _ _ hr=>?_⟩;have hu:=u1 hr.units;refine ⟨_,(Zh (ZZ (fo (ub hu (pv 1) (Zp (pv 0) rfl))) (Zh (ZN T.G2 rfl T.Ck (Za (wm (vZ (v5 (pv 1) vY))) Zf))) Zy)),?_⟩;refine ⟨_,rfl,_,rfl,f,_,dx,_,_,rfl,hf,T.Zz,T.Z3,qc _ _ _ _,a,_,rfl,aE.k ha (k:=.inr n),_,rfl,?_⟩;rw [hd.some BL]
 cases hb:(aa k n).isSome with
 | true=>
  rw [hb,if_pos rfl] at q;exact aj (q _ _ (af.refl _) rfl)
 | false=>
  rw [hb,if_neg (by decide)] at q;refine ao ?_;refine ⟨?_,_,rfl,n,rfl,Zn hl (by decide),?_,?_,a9 1,q _ (af.refl _)⟩
  .rw [ZS];exact Zn (m:=100) (by decide) (by decide)
  .rw [ZS,ZS];exact Zn (m:=2100) (by show 0 + 21 + n.length<=2100;omega) (by decide)
  .rw [ZS,ZS];exact Zn (m:=2100) (by show 0 + 21 + n.length<=2100;omega) (by decide)
theorem kf.put {k:Kept} (h:kf k) {n:Str} {S:aF} (hn:Z4 n=true) (so:eZ S) (hl:¬ 3<=k.length):kf (ai k n S):=by
 refine ⟨?_,fun m S' e=>?_⟩
 .have:=ki k n S;omega
 .rw [ju] at e
  by_cases z:m=n
  .rw [if_pos z] at e;cases e;rw [z];exact ⟨hn,so⟩
  .rw [if_neg z] at e;exact h.nm m S' e
inductive iP (g:Gs) (vs:List V) (H:Hp) (Q:VK) (E:XK):Prop
 | mk (f:_) (q:_) (p:_) (b:_) (l:_) (F:_) (n:_):vs=[.ref f,.str n]->dm g H f q p b l F->eZ F.S->n.length<=1000->kf F.k->vI F.T.synced->(match BF F n with
 | .error r=>∀ H',af H H'->E (.ref (g.xa r)) none H'
 | .ok F'=>∀ H',aU f H H'->dm g H' f q p b l F'->Q .aH H')->iP g vs H Q E
theorem Zhu:Zm ["self","name","kept"] ["self","name"] (Zi ZjW):=ZE (by decide +kernel)
theorem Zoy (T:Tx K mg g):ah P w K mg base (aw P w) 7 g.Hb g.Je ["self","name"] (iP g):=by
 refine T.Zkr.aG Zhu fun vs H Q E h=>?_;obtain ⟨f,q0,p,b,l,F,n,rfl,qX,so,hl,kk,po,q⟩:=h;refine ⟨rfl,fun _ _ _ _ hr=>?_⟩;obtain ⟨dx,sv,kv,iv,hF⟩:=id qX;have hu:=u1 hr.units
 refine ⟨_,(Zd (ZJ (rM (pv 0) T.Zz T.Z6 (Z0 T) hr.dn T.aB .nil Zg))
  (Zd (ZJ (Zl (ZhS T) hr.dn rfl T.Zkc T.CH.kp T.dO .nil Zg (Za (pv 1) Zf)))
  (Zd (ZZ (fo (nL hu (pv 1) (Zp (pv 0) rfl))) (Zh (ZN T.G1 rfl T.GJ (Za (wm (vZ (v5 (pv 1) vY))) Zf))) Zy)
  (Zd (ZZ (ZI Bu (Zv Ce (by rfl) T.cR YA (Za (Zp (pv 0) rfl) Zf)) (Zs (v:=.int 3) rfl T.ZkB ⟨_,rfl⟩) (ZU _)) (Zh (ZN T.yH rfl T.yF (Za ZY Zf))) Zy)
  (Zd (Zt (i:=2) Zhu.nd rfl (Or.inl rfl) (lC Cq rfl T.BB PyProof.Rows.Boot.«dict» (Za (Zp (pv 0) rfl) Zf)))
  (Zd (nR hu (pv 2) (pv 1) (Zp (pv 0) rfl) rfl)
  (Zh (ZJ (ZQ (pv 0) T.Zz T.Ks (KJ T) hr.dn T.bq .nil Zg (Za (Zp (pv 0) rfl) (Za (pv 2) Zf))))))))))),?_⟩
 refine ⟨_,rfl,f,dx,_,rfl,hF.ob,gL _ _ _ _,?_⟩;refine ⟨f,dx,_,_,_,_,rfl,hF.ob,.inr ⟨⟨q0,rfl⟩,?_⟩⟩;refine ⟨_,rfl,n,rfl,hl,?_⟩;unfold BF at q;unfold yC
 cases hb:Z4 n with
 | false=>
  rw [hb] at q;exact fun H' s'=>q H' s'
 | true=>
  rw [hb,if_pos rfl] at q;intro v1 H1 s1 _;obtain ⟨ka,kvs,rfl,qR,hd⟩:=cQ.mono _ _ _ _ s1 hF.ke;have AL:=s1 _ _ hF.ob;refine ⟨_,rfl,_,rfl,f,_,dx,_,_,rfl,AL,T.Zz,T.Z3,qc _ _ _ _,ka,_,rfl,aE.k qR (k:=.inr n),_,rfl,?_⟩;rw [hd.some BL]
  cases hk:(aa F.k n).isSome with
  | true=>
   rw [hk,if_pos rfl] at q;refine ao ?_;refine ⟨?_,_,rfl,n,rfl,Zn hl (by decide),?_,?_,a9 1,q _ s1⟩
   .rw [ZS];exact Zn (m:=100) (by decide) (by decide)
   .rw [ZS,ZS];exact Zn (m:=2100) (by show 0 + 20 + n.length<=2100;omega) (by decide)
   .rw [ZS,ZS];exact Zn (m:=2100) (by show 0 + 20 + n.length<=2100;omega) (by decide)
  | false=>
   rw [hk,if_neg (by decide)] at q;refine aj ⟨_,rfl,f,_,dx,_,_,rfl,AL,T.Zz,T.Z3,qc _ _ _ _,ka,_,rfl,qR,_,_,rfl,rfl,_,rfl,?_⟩;rw [hd.len]
   by_cases h3:3<=F.k.length
   .rw [if_pos h3] at q;rw [decide_eq_true (show (3:Int)<=(F.k.length:Int) by omega)];exact ao ⟨a9 1,q _ s1⟩
   .rw [if_neg h3] at q;rw [decide_eq_false (show ¬ (3:Int)<=(F.k.length:Int) by omega)];refine aj ⟨_,rfl,f,_,dx,_,_,rfl,AL,T.Zz,T.Z3,qc _ _ _ _,ka,kvs,rfl,.inl qR,fun a ha=>?_⟩;have s2:=Zk (o:=.dK kvs) ha;have xh:=s2 _ _ AL;refine ⟨_,rfl,f,_,dx,_,_,rfl,xh,T.Zz,T.ZL,mQ _ _ _ _,_,rfl,_,rfl,a,_,rfl,ck.k (k:=.inr n) Zb (lt_size (by rw [hd.len];omega)),?_⟩;have s3:af H1 (upd (upd H1 a (.dK kvs)) a (.dK (putK kvs (.inr n) sv))):=fun b o e=>by rw [Ze (Zc e ha),Ze (Zc e ha)];exact e
    have f3:=Zb (H:=upd H1 a (.dK kvs)) (a:=a) (o:=.dK (putK kvs (.inr n) sv));generalize upd (upd H1 a (.dK kvs)) a (.dK (putK kvs (.inr n) sv))=H3 at s3 f3 ⊢;have oP:=s1.trans s3;have tw:=ZB.mono _ _ _ _ oP hF.st;refine ⟨_,rfl,f,dx,_,rfl,oP _ _ hF.ob,gL _ _ _ _,_,rfl,f,_,dx,_,_,rfl,oP _ _ hF.ob,T.Zz,T.ZL,mQ _ _ _ _,_,rfl,?_⟩;refine ⟨f,q0,p,b,l,F,sv,_,F.S,ai F.k n F.S,rfl,qX.same oP,tw,⟨a,_,rfl,f3,(hd.same ZB.mono s3).put BL tw⟩,so,kk.put hb so h3,po,?_⟩
    cases ht:k_ F F.S (ai F.k n F.S) with
    | error r=>
     rw [ht] at q;exact fun H' s'=>q H' (oP.trans s')
    | ok F'=>
     rw [ht] at q;exact fun H' b1 h'=>q H' (fun d o e hd=>b1 _ _ (oP _ _ e) hd) h'
def pz (codes:Row):List Str:=codes.filterMap fun c=>if 0 < c then some ⟨#[k9.cps.getD (c - 1).toNat 0]⟩ else none
def pA (codes:Row):Except Rf Str:=if codes.any (fun c=>decide (65 < c))=true then .error .bD else if Z4 (vK "" (pz codes))=true then .ok (vK "" (pz codes)) else .error .bD
def Zzp (_:Hp) (s:Str) (v:V):Prop:=v=.str s
theorem ZtU:∀ (xs:List Str) (a:Nat),(∀ x∈xs,x.length=1)->xs.foldl (fun n x=>n + x.length + Yau "") a=a + xs.length
 | [],a,_=>rfl
 | x::r,a,h=>by
  rw [Yai,ZtU r _ fun y hy=>h y (Yp _ hy),h x Yw,Yv];show a + 1 + 0 + r.length=_;omega
theorem Zsp {xs:List Str} (h:∀ x∈xs,x.length=1):(Builtin.Str.glued "" xs).length=xs.length:=by
 have e:∀ ys:List Str,(∀ x∈ys,x.length=1)->(ys.map (·.length)).sum=ys.length:=by
  intro ys
  induction ys with
  | nil=>intro _;rfl
  | cons y r ih=>intro h;rw [Yx,List.sum_cons,ih fun x hx=>h x (Yp _ hx),h y Yw,Yv];omega
 rw [PySem.size_glued,e xs h];show xs.length + (xs.length - 1) * 0=_;omega
theorem Zns (codes:Row):∀ x∈pz codes,x.length=1:=by
 intro x hx;obtain ⟨c,_,h⟩:=List.mem_filterMap.mp hx
 split at h <;> cases h
 rfl
theorem Znt (codes:Row):(pz codes).length<=codes.length:=WG _ _
theorem Zp8 {codes:Row} (h:codes.length<=100):(vK "" (pz codes)).length<=100:=by
 have h1:=Zns codes;have h2:=Znt codes;unfold vK
 split
 .rename_i p e
  rw [e] at h1;rw [h1 p Yw]
  decide
 .rw [Zsp h1];omega
theorem ZyI (codes:Row):(codes.map V.int).filterMap (fun v=>some (V.bl (match v with | .int c=>decide (65 < c) | _=>false)))=(codes.map fun c=>decide (65 < c)).map V.bl:=by
 rw [Yaq,Xu,<- List.filterMap_eq_map];rfl
theorem ZyE (codes:Row):(codes.map V.int).filterMap (fun v=>match v with | .int c=>if 0 < c then some (V.str ⟨#[k9.cps.getD (c - 1).toNat 0]⟩) else none | _=>none)=(pz codes).map V.str:=by
 unfold pz;rw [Yaq,List.map_filterMap]
 congr 1
 funext c
 show (if 0 < c then some (V.str _) else none)=_
 split <;> rfl
inductive jH (g:Gs) (vs:List V) (H:Hp) (Q:VK) (E:XK):Prop
 | mk (codes:_) (v:_):vs=[v]->ZH H codes v->codes.length<=100->gn g Zzp H (pA codes) Q E->jH g vs H Q E
theorem Zm6:Zm ["codes","name"] ["codes"] (Zi Cg):=ZE (by decide +kernel)
theorem Zno (T:Tx K mg g):ah P w K mg base (aw P w) 2 g.FG g.GN ["codes"] (jH g):=by
 refine T.Cc.aG Zm6 fun vs H Q E h=>?_;obtain ⟨codes,v,rfl,⟨t,rfl,ht⟩,hl,q⟩:=h;refine ⟨rfl,fun _ _ _ _ hr=>?_⟩
 refine ⟨_,(Zd (ZZ (ll (Zv BW (by rfl) T.Br PyProof.Rows.Boot.«any» (Za (mT (own:=["code"]) (fv:=[]) (ix:=[]) (Z8 (sc:=Zi Cg) (N:=["codes","name"]) rfl rfl (by decide +kernel)) rfl (vW (pv 0)) (fun _ _ _ _ _=>ZG (i:=0) (show (["code"]:List Str).Nodup from by decide +kernel) rfl (Or.inl rfl) (Or.inr rfl)) (fun _ _ _ _ _=>mU) (fun _ _ _ _ _=>(tY ma (pv 0) (Zv C7 (by rfl) T.cR YA (Za (Zs (v:=.str "ABCDEFGHIJKLMNOPQRSTUVWXYZabcdefghijklmnopqrstuvwxyz0123456789._-") rfl T.C8 ⟨_,rfl⟩) Zf)) (ZU _)))) Zf))) (Zh (ZN T.rQ rfl T.qm (Za ZY Zf))) Zy)
  (Zd (Zt (i:=1) Zm6.nd rfl (Or.inl rfl) (kc WV PySem.F.slot_str_join PySem.F.type_str_join ZvO ZY (Za (mT (own:=["code"]) (fv:=[]) (ix:=[]) (Z8 (sc:=Zi Cg) (N:=["codes","name"]) rfl rfl (by decide +kernel)) rfl (vW (pv 0)) (fun _ _ _ _ _=>ZG (i:=0) (show (["code"]:List Str).Nodup from by decide +kernel) rfl (Or.inl rfl) (Or.inr rfl)) (fun _ _ _ _ _=>Zua (ZI ma (pv 0) Zo (ZU _))) (fun _ _ _ _ _=>(d_ Zyo (Zs (v:=.str "ABCDEFGHIJKLMNOPQRSTUVWXYZabcdefghijklmnopqrstuvwxyz0123456789._-") rfl T.C8 ⟨_,rfl⟩) (ZC pq (pv 0) Zo) (fun _ _=>rfl)))) Zf)))
  (Zd (ZZ (px (ll (Zl (Ct T) hr.dn rfl T.Cm T.wD.kp T.cK .nil Zg (Za (pv 1) Zf)))) (Zh (ZN T.rQ rfl T.qm (Za ZY Zf))) Zy)
  (Zh (Zu (pv 1)))))),?_⟩
 refine ⟨_,rfl,t,rfl,⟨_,av.of ht⟩,fun D hD=>?_⟩;refine Zwy (fun v=>some (V.bl (match v with | .int c=>decide (65 < c) | _=>false))) ht hD (by rw [Yb];exact Zn hl (by decide)) (fun x H' N hx s k=>?_) (fun H' s hH=>?_)
 .obtain ⟨c,_,rfl⟩:=List.mem_map.mp hx;refine ao (B:=N none H') ?_;exact ⟨_,rfl,_,rfl,a9 65,_,_,rfl,rfl,k _ (af.refl _)⟩
 .rw [ZyI] at hH;refine ⟨D,_,rfl,ay.of hH,_,rfl,?_⟩;rw [List.any_map,show (codes.any (id ∘ fun c=>decide (65 < c)))=codes.any (fun c=>decide (65 < c)) from rfl];unfold pA at q
  cases ha:codes.any fun c=>decide (65 < c) with
  | true=>
   rw [ha,if_pos rfl] at q;exact ao ⟨a9 1,q _ s⟩
  | false=>
   rw [ha,if_neg (by decide)] at q;refine aj ?_;refine ⟨rfl,_,rfl,t,rfl,⟨_,av.of (s _ _ ht)⟩,fun D2 l7=>?_⟩;refine Zwy (fun v=>match v with | .int c=>if 0 < c then some (V.str ⟨#[k9.cps.getD (c - 1).toNat 0]⟩) else none | _=>none) (s _ _ ht) l7 (by rw [Yb];exact Zn hl (by decide)) (fun x H2 N hx s2 k=>?_) (fun H2 s2 hH2=>?_)
   .obtain ⟨c,hc,rfl⟩:=List.mem_map.mp hx
    have h65:¬ 65 < c:=fun z=>by
     have:(codes.any fun c=>decide (65 < c))=true:=List.any_eq_true.mpr ⟨c,hc,decide_eq_true z⟩
     rw [ha] at this;cases this
    have hk:=k H2 (af.refl _);refine ⟨_,rfl,_,_,rfl,rfl,_,rfl,?_⟩
    by_cases hp:0 < c
    .rw [decide_eq_true hp]
     simp only [if_pos hp] at hk
     refine ao ⟨_,rfl,_,_,rfl,rfl,_,_,_,rfl,rfl,by decide,v7 (v:=k9.cps.getD (c - 1).toNat 0) (by omega) ?_,hk⟩
     have hs:(c - 1).toNat < k9.cps.size:=by
      have:k9.cps.size=65:=by decide
      omega
     rw [Xx];unfold Array.getD;rw [dif_pos hs];exact Y3 hs
    .rw [decide_eq_false hp]
     simp only [if_neg hp] at hk
     exact aj hk
   .rw [ZyE] at hH2;have h1:=Zns codes;have h2:=Znt codes;refine ⟨_,D2,pz codes,rfl,rfl,ay.of hH2,?_,?_,?_⟩
    .rw [List.foldl_toArray,ZtU _ 0 h1,Nat.zero_add];unfold Builtin.Str.tooLong;rw [decide_eq_false_iff_not]
     have:=Zn (n:=(pz codes).length) (m:=100) (by omega) (by decide)
     omega
    .rw [Zsp h1];exact Zn (m:=100) (by omega) (by decide)
    .refine ⟨_,rfl,_,rfl,Zn (Zp8 hl) (by decide),fun H3 s3=>⟨_,rfl,?_⟩⟩;have s4:=(s.trans s2).trans s3
     cases hb:Z4 (vK "" (pz codes)) with
     | true=>
      rw [hb,if_pos rfl] at q;exact aj ⟨_,rfl,q _ _ s4 rfl⟩
     | false=>
      rw [hb,if_neg (by decide)] at q;exact ao ⟨a9 1,q _ s4⟩
def Bp:Nat->Row->aO->Except Rf aO
 | 0,_,es=>.ok es
 | n + 1,row,es=>match pA (row.take 8) with
  | .error r=>.error r
  | .ok nm=>Bp n (row.drop 9) (ai es nm ((row.take 9).getLastD 0))
def pH (row:Row):Except Rf aO:=Bp ((row.length + 8) / 9) row []
def Mj (g:Gs) (H:Hp) (m:Except Rf aO) (Q:VK) (E:XK):Prop:=match m with
 | .ok es=>∀ a H',H a=none->af H H'->H' a=some (.dK (d0 es))->Q (.ref a) H'
 | .error r=>∀ H',af H H'->E (.ref (g.xa r)) none H'
inductive gX (g:Gs) (vs:List V) (H:Hp) (Q:VK) (E:XK):Prop
 | mk (row:_) (v:_):vs=[v]->ZH H row v->row.length<=2000->Mj g H (pH row) Q E->gX g vs H Q E
theorem Dn:Zm ["row","entries","place","entry"] ["row"] (Zi Zhw):=ZE (by decide +kernel)
theorem ZmB (T:Tx K mg g):ah P w K mg base (aw P w) 3 g.Ig g.Kg ["row"] (gX g):=by
 refine T.JT.aG Dn fun vs H Q E h=>?_;obtain ⟨row,v,rfl,⟨t,rfl,ht⟩,hl,q⟩:=h;refine ⟨rfl,fun _ _ _ _ hr=>?_⟩;have hu:=u1 hr.units
 refine ⟨_,(Zd (Zt (i:=1) Dn.nd rfl (Or.inl rfl) nV)
  (Zd (gN YE rfl (ZpW rfl T.rK (Za Zo (Za (Zv Zw (by rfl) T.cR YA (Za (pv 0) Zf)) (Za (Zs (v:=.int 9) rfl T.Zid ⟨_,rfl⟩) Zf)))) (ZG (i:=2) Dn.nd rfl (Or.inl rfl)) (Zd (Zt (i:=3) Dn.nd rfl (Or.inl rfl) (jc lB (pv 0) (Z9 (pv 2)) (Z9 (ZC gM (pv 2) (Zs (v:=.int 9) rfl T.Zid ⟨_,rfl⟩)))))
  (Zh (nR hu (pv 1) (Zl (Zno T) hr.dn rfl T.Zqb T.Cc.kp T.ic .nil Zg (Za (jc lB (pv 3) nQ (Z9 (Zs (v:=.int 8) rfl T.Dl ⟨_,rfl⟩))) Zf)) (d_ jn (pv 3) (rE rG Zo) (fun _ _=>rfl)) rfl))))
  (Zh (Zu (pv 1))))),?_⟩
 intro U hU;have ntU:t≠U:=Zc ht hU;obtain ⟨k1,k2⟩:=Zwi (hi:=(row.length:Int)) (c:=9) (by omega) (by omega) (by decide) (by decide);refine ⟨_,rfl,t,_,rfl,.inr (av.of (by rw [Ze ntU];exact ht)),0,_,9,_,rfl,by decide,by decide,(by rw [Yb];exact k1),(by rw [Yb];exact k2),?_⟩;generalize hn:(((row.length:Int) + 9 - 1) / 9).toNat=n;have nr:(row.length + 8) / 9=n:=by omega
 refine ZnG (fun i σ H'=>(∃ o2 o3,σ=[some (.ref t),some (.ref U),o2,o3])/\af H H'/\∃ es,H' U=some (.dK (d0 es))/\es.length<=i/\Bp (n - i) (row.drop (9 * i)) es=pH row)
  ⟨⟨_,_,rfl⟩,Zk hU,[],Zb,Yt _,by unfold pH;rw [nr];rfl⟩ (fun i σ H' hi h=>?_) (fun σ H' h=>?_)
 .obtain ⟨⟨o2,o3,rfl⟩,sm,es,he,A_,hm⟩:=h;have e1:(0:Int) + (i:Nat) * 9=((9 * i:Nat):Int):=by omega
  have e2:((9 * i:Nat):Int) + 9=((9 * i + 9:Nat):Int):=by omega
  refine ⟨_,rfl,_,rfl,_,rfl,_,rfl,_,_,rfl,rfl,_,rfl,t,_,rfl,sm _ _ ht,fun p1 H1 s1 j6=>?_⟩;rw [e1,e2,wq _ _ _ (Xb _ _),YaN] at j6;have hri:9 * i < row.length:=by omega
  have bO:(row.drop (9 * i)).take 9≠[]:=by
   intro z
   have:=congrArg List.length z
   rw [YH,YB] at this
   simp only [WN] at this
   omega
  refine ⟨_,rfl,_,rfl,p1,_,_,_,rfl,rfl,av.of j6,yA _ bO,?_⟩;refine ⟨_,rfl,_,rfl,_,rfl,p1,_,rfl,j6,fun p2 H2 s2 oY=>?_⟩;rw [show (8:Int)=((8:Nat):Int) from rfl,yD,List.take_take,show min 8 9=8 from rfl] at oY;refine ⟨_,_,rfl,⟨p2,rfl,oY⟩,by rw [YH];omega,?_⟩;rw [show n - i=(n - (i + 1)) + 1 by omega] at hm;unfold Bp at hm;have s3:=(sm.trans s1).trans s2
  cases ho:pA ((row.drop (9 * i)).take 8) with
  | error r=>
   rw [ho] at hm;have bP:(YaW r:Except Rf aO)=pH row:=hm;rw [<- bP] at q;exact fun H' s'=>q H' (s3.trans s')
  | ok nm=>
   rw [ho] at hm;intro v H3 s4 hv
   cases hv
   have hU3:=(s1.trans (s2.trans s4)) _ _ he;refine ⟨U,_,rfl,ck.k (k:=.inr nm) hU3 (lt_size (by rw [tX];omega)),⟨_,_,rfl⟩,fun b o eb=>?_,_,by rw [Zsu];exact Zb,Yn (ki _ _ _) (by omega),?_⟩
   .rw [Ze (Zc eb hU)];exact s4 _ _ (s3 _ _ eb)
   .rw [<- hm,List.drop_drop,show 9 * i + 9=9 * (i + 1) by omega]
 .obtain ⟨⟨o2,o3,rfl⟩,sm,es,he,A_,hm⟩:=h;rw [Nat.sub_self] at hm;have bP:(Except.ok es:Except Rf aO)=pH row:=hm;rw [<- bP] at q;exact ⟨_,rfl,q _ _ hU sm he⟩
def qJ (d p:V):List (Str×V):=aq "places" p (aq "disk" d [])
theorem rd1:¬ (("disk":Str)="places"):=by decide +kernel
theorem Fc (d p:V):(qJ d p).lookup ("disk":Str)=some d:=by unfold qJ;rw [Zj,if_neg rd1,Zj,if_pos rfl]
theorem Zx0 (d p:V):(qJ d p).lookup ("places":Str)=some p:=by unfold qJ;rw [Zj,if_pos rfl]
theorem FC (d p:V) {m:Str} (h1:¬ m="places":=by decide +kernel) (h2:¬ m="disk":=by decide +kernel):(qJ d p).lookup m=none:=by
 unfold qJ;rw [Zj,if_neg h1,Zj,if_neg h2]
 all_goals rfl
structure ZyM (g:Gs) (H:Hp) (r a p b l:Addr) (D:aR) (pl:Zq) (dx:Addr) (kvs:List (List Key×V)):Prop where
 ob:H r=some (.ins g.Reader dx (qJ (.ref p) (.ref a)))
 ha:H a=some (.dT kvs)
 rp:ZT rKey ZH H pl kvs
 dk:cF g H p b l D
def gq (g:Gs) (H:Hp) (r a p b l:Addr) (D:aR) (pl:Zq):Prop:=∃ dx kvs,ZyM g H r a p b l D pl dx kvs
theorem gq.same {g:Gs} {H H':Hp} {r a p b l:Addr} {D:aR} {pl:Zq} (s:af H H'):gq g H r a p b l D pl->gq g H' r a p b l D pl
 | ⟨dx,kvs,h⟩=>⟨dx,kvs,s _ _ h.ob,s _ _ h.ha,h.rp.same ZH.mono s,h.dk.same s⟩
inductive gZ (g:Gs) (vs:List V) (H:Hp) (Q:VK) (aD:XK):Prop
 | mk (r:_) (dx:_) (d:_):vs=[.ref r,d]->H r=some (.ins g.Reader dx [])->(∀ a H',H a=none->(∀ b u,H b=some u->b≠r->H' b=some u)->H' r=some (.ins g.Reader dx (qJ d (.ref a)))->H' a=some (.dT [])->Q .aH H')->gZ g vs H Q aD
theorem Zmw:Zm ["self","disk"] ["self","disk"] (Zi ZhD):=ZE (by decide +kernel)
theorem ZmF (T:Tx K mg g):ah P w K mg base (aw P w) 1 g.Iv g.Jr ["self","disk"] (gZ g):=by
 refine T.Zir.aG Zmw fun vs H Q E h=>?_;obtain ⟨r,dx,d,rfl,hc,q⟩:=h;refine ⟨rfl,fun _ _ _ _ hr=>?_⟩
 refine ⟨_,(Zd (ee (pv 0) (pv 1) rfl)
  (Zh (ee (pv 0) FZ rfl))),?_⟩
 refine ⟨_,rfl,_,rfl,r,g.Reader,dx,[],rfl,hc,T.pE,T.CU,(by show 0 < 1000;decide),?_⟩;refine fun a ha=>?_;have DZ:r≠a:=Zc Zb ha;have vw:H a=none:=by rw [Ze DZ.symm] at ha;exact ha
 refine ⟨_,rfl,r,g.Reader,dx,_,rfl,(by rw [Ze DZ];exact Zb),T.pE,T.Ki,(by show 1 < 1000;decide),?_⟩;refine q a _ vw (fun b u e hb=>?_) Zb ?_
 .rw [Ze hb,Ze (Zc e vw),Ze hb];exact e
 .rw [Ze DZ.symm];exact Zb
def pB (D:aR) (n:Int):Option Row:=if n < 2 then none else if km D<=n then none else D.blocks.getD n.toNat none
theorem ZrL (D:aR):km D<=(D.blocks.length:Int):=by unfold km;split <;> omega
theorem yx (b l:Addr):(bC b l).lookup ("read":Str)=none:=BI b l (by decide +kernel) (by decide +kernel)
theorem yu {H:Hp} {p b l:Addr} {D:aR} {n:Int} {Q:VK} {E:XK} (hD:cF g H p b l D) (h0:0<=n) (h1:n < (D.blocks.length:Int)) (q:∀ v,l_ H (D.blocks.getD n.toNat none) v->Q v H):kI g.aX [.ref p,.int n] H Q E:=by
 obtain ⟨dx,vb,vl,h⟩:=hD;have hl:=Xk h.rb;have hv:vb[n.toNat]?=some (vb[n.toNat]'(by omega)):=Yk _;obtain ⟨o,ho,hb⟩:=wJ h.rb hv;refine ⟨p,dx,b,l,vb,n,_,rfl,h.ob,h.hb,h0,hv,q _ ?_⟩;rw [Yi,ho];exact hb
inductive h9 (g:Gs) (vs:List V) (H:Hp) (Q:VK) (E:XK):Prop
 | mk (r:_) (a:_) (p:_) (b:_) (l:_) (D:_) (pl:_) (n:_):vs=[.ref r,.int n]->gq g H r a p b l D pl->(match pB D n with
 | some row=>∀ v,ZH H row v->Q v H
 | none=>E (.ref (g.xa .bD)) none H)->h9 g vs H Q E
theorem Zht:Zm ["self","number"] ["self","number"] (Zi ZdL):=ZE (by decide +kernel)
theorem ZhW (T:Tx K mg g):ah P w K mg base (aw P w) 5 g.Kn g.Kx ["self","number"] (h9 g):=by
 refine T.Zd1.aG Zht fun vs H Q E h=>?_;obtain ⟨r,a,p,b,l,D,pl,n,rfl,⟨dx,kvs,hR⟩,q⟩:=h;refine ⟨rfl,fun _ _ _ _ hr=>?_⟩
 refine ⟨_,(Zd (ZZ (PW.pt (lj (ZI rF (pv 1) (Zs (v:=.int 2) rfl T.Zic ⟨_,rfl⟩) (ZU _)) (lj (ZI Bu (pv 1) (Zl (Zgy T) hr.dn rfl T.Zh3 T.CO.kp T.cV .nil Zg (Za (Zp (pv 0) rfl) Zf)) (ZU _)) (nO (fo (vV (ZQ (Zp (pv 0) rfl) T.iy T.yL (yP T) hr.dn T.bo .nil Zg (Za (pv 1) Zf)))))))) (Zh (ZN T.rQ rfl T.qm (Za ZY Zf))) Zy)
  (Zh (Zu (ZQ (Zp (pv 0) rfl) T.iy T.yL (yP T) hr.dn T.bo .nil Zg (Za (pv 1) Zf))))),?_⟩
 obtain ⟨dd,vb,vl,hD⟩:=id hR.dk;refine ⟨_,rfl,_,_,rfl,rfl,_,rfl,?_⟩;unfold pB at q
 by_cases h1:n < 2
 .rw [if_pos h1] at q;rw [decide_eq_true h1];exact ao (ao ⟨a9 1,q⟩)
 rw [if_neg h1] at q;rw [decide_eq_false h1];refine aj ⟨_,rfl,_,rfl,r,_,dx,_,_,rfl,hR.ob,T.pE,T.CU,Fc _ _,p,b,l,D,rfl,hR.dk,_,_,rfl,rfl,_,rfl,?_⟩
 by_cases h2:km D<=n
 .rw [if_pos h2] at q;rw [decide_eq_true h2];exact ao (ao ⟨a9 1,q⟩)
 rw [if_neg h2] at q;rw [decide_eq_false h2];have hc:=ZrL D;refine aj ⟨_,rfl,r,_,dx,_,_,rfl,hR.ob,T.pE,T.CU,Fc _ _,p,dd,_,rfl,hD.ob,yx _ _,_,rfl,yu (E:=E) hR.dk (by omega) (by omega) fun v hv=>?_⟩
 cases ho:D.blocks.getD n.toNat none with
 | none=>
  rw [ho] at hv q
  cases hv
  exact ⟨_,rfl,ao ⟨a9 1,q⟩⟩
 | some row=>
  rw [ho] at hv q;obtain ⟨t,rfl,ht⟩:=hv;refine ⟨_,rfl,aj ?_⟩;refine ⟨_,rfl,r,_,dx,_,_,rfl,hR.ob,T.pE,T.CU,Fc _ _,p,dd,_,rfl,hD.ob,yx _ _,_,rfl,yu (E:=E) hR.dk (by omega) (by omega) fun v hv=>?_⟩;rw [ho] at hv;exact q v hv
def jl (D:aR) (len:Nat):Nat->Row->Row->Int->Except Rf (Row×Row)
 | 0,ns,r,_=>.ok (r,ns)
 | k + 1,ns,r,f=>if r.length < len then (match pB D f with
  | none=>.error .bD
  | some b=>jl D len k (ns++[f]) (r++b.drop 1) (b.headD 0)) else .ok (r,ns)
theorem ZsC {D:aR} {len k:Nat} {ns r:Row} {f:Int} (h:r.length < len):jl D len (k + 1) ns r f=match pB D f with
  | none=>.error .bD
  | some b=>jl D len k (ns++[f]) (r++b.drop 1) (b.headD 0):=if_pos h
def md (D:aR) (pl:Zq) (h:Int) (len:Nat):Except Rf (Row×Zq):=match jl D len len [] [] h with
 | .error e=>.error e
 | .ok x=>.ok (x.1.take len,if 0 < len then ai pl (x.1.take len) x.2 else pl)
def fi (D:aR):Prop:=∀ r,some r∈D.blocks->r.length=64/\∀ x∈r,0<=x/\x < 256
theorem ZnN {D:aR} (ok:fi D) {n:Int} {r:Row} (h:pB D n=some r):r.length=64/\∀ x∈r,0<=x/\x < 256:=by
 unfold pB at h
 split at h
 .cases h
 .split at h
  .cases h
  .refine ok r ?_;rw [Yi] at h
   cases hh:D.blocks[n.toNat]? with
   | none=>rw [hh] at h;cases h
   | some z=>rw [hh] at h;cases h;exact Ys hh
theorem ZsB {D:aR} (ok:fi D) {len:Nat}:∀ {k:Nat} {ns r:Row} {f:Int} {x:Row×Row},jl D len k ns r f=.ok x->len<=r.length + k->(∀ y∈r,0<=y/\y < 256)->ns.length<=r.length->(0 < r.length->ns≠[])->
  len<=x.1.length/\(∀ y∈x.1,0<=y/\y < 256)/\(0 < len->x.2≠[])
 | 0,ns,r,f,x,h,h1,h2,h3,h4=>by
  cases h
  exact ⟨by omega,h2,fun z=>h4 (by omega)⟩
 | k + 1,ns,r,f,x,h,h1,h2,h3,h4=>by
  unfold jl at h
  split at h
  .cases hb:pB D f with
   | none=>rw [hb] at h;cases h
   | some b=>
    rw [hb] at h;obtain ⟨e1,e2⟩:=ZnN ok hb;refine ZsB ok h ?_ ?_ ?_ ?_
    .rw [Yd,YB];omega
    .intro y hy;rcases List.mem_append.mp hy with z | z
     .exact h2 y z
     .exact e2 y (X6 z)
    .rw [Yd,Yd,YB];simp only [Ya6];omega
    .intro _ z;simp at z
  .cases h
   exact ⟨by show len<=r.length;omega,h2,fun z=>h4 (by omega)⟩
theorem F1 {D:aR} (ok:fi D) {pl:Zq} {h:Int} {len:Nat} {x:Row×Zq} (e:md D pl h len=.ok x):x.1.length=len/\(∀ y∈x.1,0<=y/\y < 256)/\x.2.length<=pl.length + 1/\((∀ p∈pl,p.2≠[])->∀ p∈x.2,p.2≠[]):=by
 unfold md at e
 cases hc:jl D len len [] [] h with
 | error r=>rw [hc] at e;cases e
 | ok z=>
  rw [hc] at e
  cases e
  obtain ⟨h1,h2,h3⟩:=ZsB ok hc (by omega) (fun y hy=>nomatch hy) (Yf _) (fun z=>absurd z (by decide));refine ⟨by show (z.1.take len).length=len;rw [YH];omega,fun y hy=>h2 y (Xn hy),?_,fun hp p hm=>?_⟩
  .show (if 0 < len then ai pl _ _ else pl).length<=_
   split
   .exact ki _ _ _
   .omega
  .have bP:p∈(if 0 < len then ai pl (z.1.take len) z.2 else pl):=hm
   split at bP
   .rename_i hl
    rcases Ca bP with y | y
    .exact hp p y
    .rw [y];exact h3 hl
   .exact hp p bP
def iK {α:Type} (g:Gs) (R:Hp->α->V->Prop) (H:Hp) (r a p b l:Addr) (D:aR) (m:Except Rf (α×Zq)) (Q:VK) (E:XK):Prop:=match m with
 | .ok x=>∀ v H',aU a H H'->gq g H' r a p b l D x.2->R H' x.1 v->Q v H'
 | .error e=>∀ H',aU a H H'->E (.ref (g.xa e)) none H'
theorem iK.ok {α:Type} {g:Gs} {R:Hp->α->V->Prop} {H:Hp} {r a p b l:Addr} {D:aR} {m:Except Rf (α×Zq)} {Q:VK} {E:XK} (h:iK g R H r a p b l D m Q E) {x:α×Zq} (e:m=.ok x):∀ v H',aU a H H'->gq g H' r a p b l D x.2->R H' x.1 v->Q v H':=by subst e;exact h
theorem iK.no {α:Type} {g:Gs} {R:Hp->α->V->Prop} {H:Hp} {r a p b l:Addr} {D:aR} {m:Except Rf (α×Zq)} {Q:VK} {E:XK} (h:iK g R H r a p b l D m Q E) {e:Rf} (he:m=.error e):∀ H',aU a H H'->E (.ref (g.xa e)) none H':=by subst he;exact h
theorem aU.of {f:Addr} {H H':Hp} (s:af H H'):aU f H H':=fun _ _ e _=>s _ _ e
theorem aU.trans {f:Addr} {H H' iB:Hp} (s:aU f H H') (t:aU f H' iB):aU f H iB:=fun d o e h=>t _ _ (s _ _ e h) h
theorem gq.put {g:Gs} {H:Hp} {r a p b l:Addr} {D:aR} {pl:Zq} {dx:Addr} {kvs:List (List Key×V)} (h:ZyM g H r a p b l D pl dx kvs) {row ns:Row} {u:Addr} (hu:H u=some (.tup (ns.map V.int))):gq g (upd H a (.dT (putK kvs (rKey row) (.ref u)))) r a p b l D (ai pl row ns):=by
 have kt:∀ d xs,H d=some (.tup xs)->(upd H a (.dT (putK kvs (rKey row) (.ref u)))) d=some (.tup xs):=fun d xs e=>by rw [Ze (ZD e h.ha (by intro z;cases z))];exact e
 refine ⟨dx,_,?_,Zb,(BY kt h.rp).put t_ ⟨u,rfl,kt _ _ hu⟩,h.dk.keep fun d o e ho=>?_⟩
 .rw [Ze (ZD h.ob h.ha (by intro z;cases z))];exact h.ob
 .rw [Ze (fun z=>by subst z;rw [h.ha] at e;cases e;rcases ho with ⟨_,z⟩ | ⟨_,z⟩ | ⟨_,_,_,_,z⟩ <;> cases z)];exact e
inductive lK (g:Gs) (vs:List V) (H:Hp) (Q:VK) (E:XK):Prop
 | mk (r:_) (a:_) (p:_) (b:_) (l:_) (D:_) (pl:_) (h:_) (len:Nat):vs=[.ref r,.int h,.int len]->gq g H r a p b l D pl->fi D->len<=2000->pl.length<=5000->iK g ZH H r a p b l D (md D pl h len) Q E->lK g vs H Q E
theorem ZV:Zm ["self","head","length","numbers","row","following","block"] ["self","head","length"] (Zi Ze4):=ZE (by decide +kernel)
theorem ZeM (T:Tx K mg g):ah P w K mg base (aw P w) 6 g.Js g.Ko ["self","head","length"] (lK g):=by
 refine T.ZfU.aG ZV fun vs H Q E h=>?_;obtain ⟨r,a,p,b,l,D,pl,h,len,rfl,hR,ok,hl,hp,q⟩:=h;refine ⟨rfl,fun _ _ _ _ hr=>?_⟩;have hu:=u1 hr.units
 refine ⟨_,(Zd (Zt (i:=3) ZV.nd rfl (Or.inl rfl) (mf Zf))
  (Zd (Zt (i:=4) ZV.nd rfl (Or.inl rfl) (ed Zf))
  (Zd (Zt (i:=5) ZV.nd rfl (Or.inl rfl) (pv 1))
  (Zd (Zr8 YE (ZI rF (Zv Zw (by rfl) T.cR YA (Za (pv 4) Zf)) (pv 2) (ZU _)) (Zd (Zt (i:=6) ZV.nd rfl (Or.inl rfl) (ZQ (pv 0) T.pE T.Zi0 (ZhW T) hr.dn T.dY .nil Zg (Za (pv 5) Zf)))
  (Zd (ZJ (kc YR Y7 Y6 pI (pv 3) (Za (pv 5) Zf)))
  (Zd (Zt (i:=4) ZV.nd rfl (Or.inl rfl) (ZC jv (pv 4) (jc lB (pv 6) (Z9 Zo) nQ)))
  (Zh (Zt (i:=5) ZV.nd rfl (Or.inl rfl) (d_ jn (pv 6) Zo (fun _ _=>rfl))))))))
  (Zd (Zt (i:=4) ZV.nd rfl (Or.inl rfl) (jc lB (pv 4) nQ (Z9 (pv 2))))
  (Zd (ZZ (ZI ma (pv 2) Zo (ZU _)) (Zh (nR hu (Zp (pv 0) rfl) (pv 4) (lC CP rfl T.BS PyProof.Rows.Boot.«tuple» (Za (pv 3) Zf)) rfl)) Zy)
  (Zh (Zu (pv 4))))))))),?_⟩
 refine ⟨a9 0,fun L hL=>⟨a9 0,fun t ht=>?_⟩⟩;have s0:af H (upd (upd H L (.lst [])) t (.tup [])):=(Zk hL).trans (Zk ht);have ntL:L≠t:=Zc Zb ht;refine ⟨_,rfl,?_⟩
 refine ⟨fun m σ H'=>∃ ns row f t o6,σ=[some (.ref r),some (.int h),some (.int len),some (.ref L),some (.ref t),some (.int f),o6]/\af H H'/\H' L=some (.lst (ns.map V.int))/\H' t=some (.tup (row.map V.int))/\jl D len m ns row f=jl D len len [] [] h/\len<=row.length + m/\ns.length<=row.length/\row.length<=len + 63,
  ⟨len,[],[],h,t,none,rfl,s0,by rw [Ze ntL];exact Zb,Zb,rfl,Nat.le_add_left _ _,Yf _,Yt _⟩,?_⟩
 rintro m σ H' ⟨ns,row,f,t',o6,rfl,sm,lZ,i9,hm,l1,l2,l3⟩
 refine ⟨_,rfl,t',_,rfl,.inr (av.of i9),_,rfl,_,_,rfl,rfl,_,rfl,?_⟩;rw [Yb]
 by_cases aT:row.length < len
 .rw [decide_eq_true (show (row.length:Int) < (len:Int) by omega)];obtain ⟨m,rfl⟩:∃ k,m=k + 1:=⟨m - 1,by omega⟩
  rw [ZsC aT] at hm;obtain ⟨dx,kvs,mK⟩:=hR.same sm;refine ao ⟨_,fun ar H' h=>⟨m,YaP _,h⟩,?_⟩;refine ⟨_,rfl,r,dx,_,rfl,mK.ob,FC _ _,_,rfl,r,a,p,b,l,D,pl,f,rfl,⟨dx,kvs,mK⟩,?_⟩
  cases hb:pB D f with
  | none=>
   rw [hb] at hm;have bP:(YaW .bD:Except Rf (Row×Row))=_:=hm;exact q.no (by unfold md;rw [<- bP]) _ (.of sm)
  | some bk=>
   rw [hb] at hm;obtain ⟨e1,e2⟩:=ZnN ok hb
   rintro v ⟨tb,rfl,Ee⟩
   have nbL:tb≠L:=ZD Ee lZ (by intro z;cases z);have Ln:t'≠L:=ZD i9 lZ (by intro z;cases z);refine ⟨_,rfl,.inl ⟨rfl,_,ay.of lZ⟩,_,rfl,L,_,_,rfl,rfl,lZ,YL (m:=5000) (by rw [Yb];omega) (by decide),?_⟩;refine ⟨_,rfl,_,rfl,_,rfl,tb,_,rfl,by rw [Ze nbL];exact Ee,fun t2 H2 s2 cZ=>?_⟩;rw [show (1:Int)=((1:Nat):Int) from rfl,GQ] at cZ;have sg:=s2 t' (.tup (row.map V.int)) (by rw [Ze Ln];exact i9);refine ⟨t',t2,_,_,rfl,rfl,av.of sg,av.of cZ,fun _=>cZ,fun _ _=>sg,Zn (m:=5000) (by rw [Yb,Yb,YB];omega) (by decide),fun t3 H3 s3 mG=>?_⟩;have LC:=s3 _ _ (s2 tb (.tup (bk.map V.int)) (by rw [Ze nbL];exact Ee));refine ⟨_,rfl,tb,_,_,_,rfl,rfl,av.of LC,Gd (by intro z;rw [z] at e1;cases e1),?_⟩;refine ⟨ns++[f],row++bk.drop 1,bk.headD 0,t3,_,rfl,fun d o e=>?_,?_,by rw [mG,Yz],hm,?_,?_,?_⟩
   .exact s3 _ _ (s2 _ _ (by rw [Ze (Zc e hL)];exact sm _ _ e))
   .rw [Yz];exact s3 _ _ (s2 _ _ Zb)
   .rw [Yd,YB];omega
   .rw [Yd,Yd,YB,Ya6];omega
   .rw [Yd,YB];omega
 .rw [decide_eq_false (show ¬ (row.length:Int) < (len:Int) by omega)]
  have bP:jl D len len [] [] h=.ok (row,ns):=by
   rw [<- hm]
   cases m with
   | zero=>rfl
   | succ m=>unfold jl;rw [if_neg aT]
  have q':=q.ok (x:=(row.take len,if 0 < len then ai pl (row.take len) ns else pl)) (by unfold md;rw [bP]);refine aj ?_;refine ⟨_,rfl,_,rfl,_,rfl,t',_,rfl,i9,fun t2 H2 s2 cZ=>?_⟩;rw [yD] at cZ;have s3:=sm.trans s2;refine ⟨_,rfl,_,_,rfl,rfl,_,rfl,?_⟩
  by_cases h0:0 < len
  .rw [decide_eq_true (show (0:Int) < (len:Int) by omega)];rw [if_pos h0] at q';refine ao ⟨_,rfl,L,_,rfl,.inl ⟨ay.of (s2 _ _ lZ),fun t3 hn3=>?_⟩⟩;have s4:=s3.trans (Zk (o:=.tup (ns.map V.int)) hn3);obtain ⟨dx,kvs,mK⟩:=hR.same s4;have uw:=Zk (o:=.tup (ns.map V.int)) hn3 _ _ cZ;refine ⟨_,rfl,r,_,dx,_,_,rfl,mK.ob,T.pE,T.Ki,Zx0 _ _,_,rfl,a,_,rfl,ck.t (k:=rKey (row.take len)) mK.ha (by rw [wo];exact uw) (YL (show kvs.length<=5000 by rw [mK.rp.len];exact hp) (by decide)),?_⟩;refine ⟨_,rfl,q' _ _ (fun d o e hd=>by rw [Ze hd];exact s4 _ _ e) (gq.put mK Zb) ⟨t2,rfl,?_⟩⟩;rw [Ze (ZD uw mK.ha (by intro z;cases z))];exact uw
  .rw [decide_eq_false (show ¬ (0:Int) < (len:Int) by omega)];rw [if_neg h0] at q';exact aj ⟨_,rfl,q' _ _ (.of s3) (hR.same s3) ⟨t2,rfl,cZ⟩⟩
def yq (part:Row):Int:=part.getD 2 0 * 256 + part.getD 3 0
def mW (D:aR) (pl:Zq) (part:Row):Except Rf (Row×Zq):=if 600 < yq part then .error .bD else md D pl (part.getD 4 0) (yq part).toNat
theorem lx {row:Row} {i:Nat} (h:i < row.length):ji (row.map V.int) (i:Int)=some (.int (row.getD i 0)):=by
 refine v7 (by omega) ?_;rw [Yo,Yi,show ((i:Int)).toNat=i by omega,Yk h];rfl
theorem B5 {row:Row} (h:∀ x∈row,0<=x/\x < 256) (i:Nat):0<=row.getD i 0/\row.getD i 0 < 256:=by
 rw [Yi]
 cases hh:row[i]? with
 | none=>exact ⟨Int.le_refl _,by decide⟩
 | some z=>exact h z (Ys hh)
inductive c9 (g:Gs) (vs:List V) (H:Hp) (Q:VK) (E:XK):Prop
 | mk (r:_) (a:_) (p:_) (b:_) (l:_) (D:_) (pl:_) (part:_) (v:_):vs=[.ref r,v]->ZH H part v->part.length=5->(∀ x∈part,0<=x/\x < 256)->gq g H r a p b l D pl->fi D->pl.length<=5000->iK g ZH H r a p b l D (mW D pl part) Q E->c9 g vs H Q E
theorem ZjD:Zm ["reader","part","length"] ["reader","part"] (Zi Zlf):=ZE (by decide +kernel)
theorem Zj5 (T:Tx K mg g):ah P w K mg base (aw P w) 7 g.GY g.Ik ["reader","part"] (c9 g):=by
 refine T.CD.aG ZjD fun vs H Q E h=>?_;obtain ⟨r,a,p,b,l,D,pl,part,v,rfl,⟨t,rfl,ht⟩,h5,hb,hR,ok,hp,q⟩:=h;refine ⟨rfl,fun _ _ _ _ hr=>?_⟩
 refine ⟨_,(Zd (Zt (i:=2) ZjD.nd rfl (Or.inl rfl) (ZC gM (ZC pk (d_ jn (pv 1) Zo (fun _ _=>rfl)) Zo) (d_ jn (pv 1) Zo (fun _ _=>rfl))))
  (Zd (ZZ (ZI ma (pv 2) (Zs (v:=.int 600) rfl T.IG ⟨_,rfl⟩) (ZU _)) (Zh (ZN T.rQ rfl T.qm (Za ZY Zf))) Zy)
  (Zh (Zu (ZQ (pv 0) T.pE T.Zfn (ZeM T) hr.dn T.cf .nil Zg (Za (d_ jn (pv 1) Zo (fun _ _=>rfl)) (Za (pv 2) Zf))))))),?_⟩
 have h2:=B5 hb 2;have h3:=B5 hb 3;refine ⟨_,rfl,t,_,_,_,rfl,rfl,av.of ht,lx (i:=2) (by omega),_,_,rfl,rfl,.inr ⟨by decide,by decide⟩,_,rfl,t,_,_,_,rfl,rfl,av.of ht,lx (i:=3) (by omega),_,_,rfl,rfl,?_⟩;refine ⟨_,rfl,_,_,rfl,rfl,_,rfl,?_⟩;unfold mW at q
 by_cases hq:600 < yq part
 .rw [if_pos hq] at q;rw [decide_eq_true (show 600 < part.getD 2 0 * 256 + part.getD 3 0 from hq)];exact ao ⟨a9 1,q _ (.of (af.refl _))⟩
 .rw [if_neg hq] at q;rw [decide_eq_false (show ¬ 600 < part.getD 2 0 * 256 + part.getD 3 0 from hq)];unfold yq at hq q;obtain ⟨dx,kvs,mK⟩:=id hR;refine aj ⟨_,rfl,r,dx,_,rfl,mK.ob,FC _ _,?_⟩;refine ⟨_,rfl,t,_,_,_,rfl,rfl,av.of ht,lx (i:=4) (by omega),_,rfl,?_⟩;refine ⟨r,a,p,b,l,D,pl,_,(part.getD 2 0 * 256 + part.getD 3 0).toNat,?_,hR,ok,by omega,hp,q⟩;rw [show (((part.getD 2 0 * 256 + part.getD 3 0).toNat:Nat):Int)=part.getD 2 0 * 256 + part.getD 3 0 by omega];rfl
def kj (es:aO) (fd:List Int):List Int:=es.foldl (fun fd p=>if fd.contains p.2 then fd else fd++[p.2]) fd
def tU (S:aF):Nat->Nat->List Int->Option (List Int)
 | 0,_,_=>none
 | k + 1,i,fd=>if i < fd.length then tU S k (i + 1) (kj ((aa S.ent (fd.getD i 0)).getD []) fd) else some fd
theorem Kf:∀ (es:aO) (fd:List Int),fd.length<=(kj es fd).length
 | [],fd=>Yf _
 | p::r,fd=>by
  show _<=(kj r (if fd.contains p.2 then fd else fd++[p.2])).length;refine Yn ?_ (Kf r _)
  split
  .exact Yf _
  .rw [Yd];omega
theorem HD {S:aF}:∀ {k i:Nat} {fd r:List Int},tU S k i fd=some r->fd.length<=r.length
 | k + 1,i,fd,r,h=>by
  unfold tU at h
  split at h
  .exact Yn (Kf _ _) (HD h)
  .cases h;exact Yf _
inductive gY (g:Gs) (vs:List V) (H:Hp) (Q:VK) (aD:XK):Prop
 | mk (v:_) (S:_) (fd:_):vs=[v]->ZB g H S v->tU S 64 0 [0]=some fd->fd.length < 64->(∀ l H',af H H'->H' l=some (.lst ((tS fd).map V.int))->Q (.ref l) H')->gY g vs H Q aD
theorem Z5:Zm ["state","found","place","entries","number"] ["state"] (Zi ZdI):=ZE (by decide +kernel)
theorem ZhO (T:Tx K mg g):ah P w K mg base (aw P w) 1 g.Kk g.KA ["state"] (gY g):=by
 refine T.Kw.aG Z5 fun vs H Q E h=>?_;obtain ⟨v,S,r,rfl,⟨p,dx,da,ea,dk,ek,rfl,hS⟩,hm,hl,q⟩:=h;refine ⟨rfl,fun _ _ _ _ hr=>?_⟩;have hu:=u1 hr.units
 refine ⟨_,(Zd (Zt (i:=1) Z5.nd rfl (Or.inl rfl) (mf (Za (Zs (v:=.int 0) rfl T.yf ⟨_,rfl⟩) Zf)))
  (Zd (Zt (i:=2) Z5.nd rfl (Or.inl rfl) Zo)
  (Zd (Zr8 YE (ZI rF (pv 2) (Zv Zw (by rfl) T.cR YA (Za (pv 1) Zf)) (ZU _)) (Zd (Zt (i:=3) Z5.nd rfl (Or.inl rfl) (ZvG hu (Zp (pv 0) rfl) (d_ qj (pv 1) (pv 2) (fun _ _=>rfl)) nV ⟨rfl,rfl,rfl,rfl⟩))
  (Zd (yt (gN YE rfl (yr (qg YT XB XA wM (pv 3))) (ZG (i:=4) Z5.nd rfl (Or.inl rfl)) (Zh (ZZ (ZI Zp0 (pv 4) (pv 1) rfl) (Zh (ZJ (kc YR Y7 Y6 pI (pv 1) (Za (pv 4) Zf)))) Zy))))
  (Zh (Zx4 (i:=2) Z5.nd rfl (Or.inl rfl) Zo Zyr)))))
  (Zh (Zu (Zv Zkh (by rfl) T.wC PyProof.Rows.Boot.«sorted» (Za (pv 1) Zf))))))),?_⟩
 refine ⟨a9 1,fun L hL=>?_⟩
 refine ⟨fun m σ H'=>∃ (i:Nat) (fd:List Int) (o3 o4:Option V),σ=[some (.ref p),some (.ref L),some (.int i),o3,o4]/\af H H'/\H' L=some (.lst (fd.map V.int))/\tU S m i fd=some r,
  ⟨64,0,[0],none,none,rfl,Zk hL,Zb,hm⟩,?_⟩
 rintro m σ H' ⟨i,fd,o3,o4,rfl,sm,lZ,bP⟩
 obtain ⟨m,rfl⟩:∃ k,m=k + 1:=⟨m - 1,by cases m with
  | zero=>cases bP
  | succ m=>rfl⟩
 have hle:=HD bP;refine ⟨_,rfl,_,rfl,L,_,rfl,.inl (ay.of lZ),_,_,rfl,rfl,_,rfl,?_⟩;rw [Yb];unfold tU at bP
 by_cases hi:i < fd.length
 .rw [if_pos hi] at bP;rw [decide_eq_true (show (i:Int) < (fd.length:Int) by omega)];refine ao ⟨_,fun ar H' h=>⟨m,YaP _,h⟩,?_⟩;have hea:=sm _ _ hS.he;refine ⟨_,rfl,p,_,dx,_,_,rfl,sm _ _ hS.ob,T.ZM,T.Zr,gs _ _,ea,rfl,.inl ⟨ek,.inl hea⟩,?_⟩;refine ⟨_,rfl,_,rfl,L,_,_,_,rfl,rfl,ay.of lZ,lx hi,?_⟩;refine fun U hU=>?_;have zO:=Zk (o:=.dK []) hU _ _ hea;refine ⟨_,aE.k zO (k:=.inl (fd.getD i 0)),?_⟩
  have key:∃ ae,(aY ek (.inl (fd.getD i 0))).getD (.ref U)=.ref ae/\(upd H' U (.dK [])) ae=some (.dK (d0 ((aa S.ent (fd.getD i 0)).getD []))):=by
   cases hg:aa S.ent (fd.getD i 0) with
   | none=>rw [hS.re.no (fun _ _ z=>WA z) hg];exact ⟨U,rfl,Zb⟩
   | some es=>
    obtain ⟨v,hv,ae,rfl,ha⟩:=hS.re.yes (fun _ _ z=>WA z) hg;rw [hv];exact ⟨ae,rfl,Zk hU _ _ (sm _ _ ha)⟩
  obtain ⟨ae,e1,di⟩:=key;rw [e1];generalize (aa S.ent (fd.getD i 0)).getD []=es at bP di;have s1:=sm.trans (Zk (o:=.dK []) hU);have Be:=Zk (o:=.dK []) hU _ _ lZ;generalize upd H' U (.dK [])=H1 at zO di s1 Be ⊢;have D6:L≠ae:=ZD Be di (by intro z;cases z);refine ⟨ae,_,di,rfl,?_⟩;refine ⟨_,rfl,.inr (.inr (.inl ⟨rfl,.inl ⟨_,di⟩⟩)),ae,_,rfl,rfl,.inl di,rfl,fun r1 cm=>?_⟩;have sM:ae≠r1:=Zc di cm;have nLr:L≠r1:=Zc Be cm;refine ⟨r1,ae,_,rfl,Zb,(by rw [Ze sM];exact di),rfl,fun ob=>?_⟩
  refine B3 (d:=ae) (ob:=ob) (u:=.dK (d0 es)) (fun j σ H2=>(∃ o4,σ=[some (.ref p),some (.ref L),some (.int i),some (.ref ae),o4])/\H2 ae=some (.bf ob (.dK (d0 es)))/\H2 L=some (.lst ((kj (es.take j) fd).map V.int))/\∀ b o,H1 b=some o->b≠ae->b≠L->H2 b=some o)
   ⟨⟨_,rfl⟩,Zb,(by rw [Ze D6,Ze nLr];exact Be),fun b o e h1 _=>by rw [Ze h1,Ze (Zc e cm)];exact e⟩ (fun i σ H' _ h=>h.2.1) (fun j x σ H2 hx h=>?_) (fun σ H2 h=>?_)
  .obtain ⟨⟨o4,rfl⟩,dZ,pd,kp⟩:=h;have nj:((d0 es).map fun q=>q.2)[j]?=some x:=hx;rw [Gg,Yo,Yo] at nj
   cases hj:es[j]? with
   | none=>rw [hj] at nj;cases nj
   | some pe=>
    rw [hj] at nj
    cases nj
    have hjl:j < es.length:=(List.getElem?_eq_some_iff.mp hj).1
    have est:kj (es.take (j + 1)) fd=if (kj (es.take j) fd).contains pe.2 then kj (es.take j) fd else kj (es.take j) fd++[pe.2]:=by
     unfold kj;exact HN _ _ _ hj
    rw [est]
    have zK:(kj (es.take (j + 1)) fd).length<=r.length:=by
     refine Yn ?_ (HD bP)
     have e2:kj es fd=kj (es.drop (j + 1)) (kj (es.take (j + 1)) fd):=by
      unfold kj;rw [<- List.foldl_append,W4]
     rw [e2];exact Kf _ _
    rw [est] at zK;refine ⟨_,rfl,_,rfl,L,_,rfl,.inl (ay.of pd),rfl,Ga _,_,rfl,?_⟩;rw [Zsl]
    cases hc:(kj (es.take j) fd).contains pe.2 with
    | true=>
     rw [show (if true=true then !true else true)=false from rfl,if_pos rfl];exact aj ⟨⟨_,rfl⟩,dZ,pd,kp⟩
    | false=>
     rw [hc,if_neg (by decide),Yd] at zK;rw [show (if true=true then !false else false)=true from rfl,if_neg (show ¬ (false=true) by decide)];refine ao ⟨_,rfl,.inl ⟨rfl,_,ay.of pd⟩,_,rfl,L,_,_,rfl,rfl,pd,lt_size (by rw [Yb];omega),?_⟩;refine ⟨⟨_,rfl⟩,by rw [Ze D6.symm];exact dZ,by rw [Yz];exact Zb,fun b o e h1 h2=>by rw [Ze h2];exact kp _ _ e h1 h2⟩
  .obtain ⟨⟨o4,rfl⟩,dZ,pd,kp⟩:=h;have nz:(fj (.dK (d0 es))).length=es.length:=by show ((d0 es).map (·.2)).length=_;rw [Yb,tX]
   rw [nz,Xc] at pd;refine ⟨ob,.dK (d0 es),dZ,rfl,?_⟩;refine ⟨_,rfl,_,_,rfl,rfl,?_⟩;refine ⟨i + 1,_,_,_,rfl,fun b o e=>?_,by rw [Ze D6];exact pd,bP⟩
   by_cases z:b=ae
   .rw [z,Zb,<- di,<- z];exact s1 _ _ e
   .rw [Ze z];exact kp _ _ (s1 _ _ e) z (Zc e hL)
 .rw [if_neg hi] at bP
  cases bP
  rw [decide_eq_false (show ¬ (i:Int) < (r.length:Int) by omega)];refine aj ⟨_,rfl,L,r,rfl,ay.of lZ,hl,fun l ms hn hp hs=>?_⟩;rw [ZpA (hp.trans (qp _).symm) hs (JK _)];exact q l _ (sm.trans (Zk hn)) Zb
structure rC (S:aF):Prop where
 root:(aa S.ent 0).isSome=true
 len:S.dat.length + S.ent.length < 64
 nums:∀ n∈Zx S,0<=n/\n < 32
 dat:∀ p∈S.dat,p.2.length<=600
 ent:∀ p∈S.ent,p.2.length<=40/\∀ q∈p.2,Z4 q.1=true
 nl:(lh S).length<=10000
 no0:(lh S).contains 0=false
 once:∀ p∈S.ent,(lh S).count p.1<=1
 rch:∃ fd,tU S 64 0 [0]=some fd/\tS fd=Zx S
theorem zY {K:Yg} {H:Hp} {a:Addr} {d:Row} (h:H a=some (.lst (d.map V.int))):jz K H (.ref a) (.list (d.map WC)):=.inl (.inr ⟨a,_,_,rfl,rfl,ay.of h,B6 _ d⟩)
theorem BX (b:Bool) (xs:List V):xs.filterMap (fun _=>some (V.bl b))=(List.replicate xs.length b).map V.bl:=by
 rw [XW]
 induction xs with
 | nil=>rfl
 | cons x r ih=>rw [Xg,ih];rfl
theorem FK (n:Nat):(List.replicate n false).any id=false:=by
 rw [List.any_eq_false];intro x hx;rw [(List.mem_replicate.mp hx).2]
 decide
theorem Zxz (n:Nat):(List.replicate n true).all id=true:=by
 rw [W8];intro x hx;rw [(List.mem_replicate.mp hx).2];rfl
theorem ZrV {α:Type} {R:Hp->α->V->Prop} {H:Hp} {xs:List (Int×α)} {kvs:List (Key×V)} (h:ZT XQ R H xs kvs) {v:V} (hv:v∈kvs.map (·.2)):∃ p∈xs,R H p.2 v:=by
 obtain ⟨i,hi⟩:=List.mem_iff_getElem?.mp hv;obtain ⟨p,h1,h2⟩:=Zsy h hi;exact ⟨p,Ys h1,h2⟩
theorem ZyA {H:Hp} {S:List (Int×aO)} {ek:List (Key×V)} {ea ae:Addr} {es:aO} {i:Nat} (h:ZT XQ iw H S ek) (ha:H ea=some (.dK ek)) (hx:(ek.map (·.2))[i]?=some (.ref ae)) (di:H ae=some (.dK (d0 es))):ae≠ea:=fun z=>by
 subst z;have e:=Yu (ha.symm.trans di);injection e with e;rw [Yo] at hx
 cases hk:ek[i]? with
 | none=>rw [hk] at hx;cases hx
 | some kv=>
  obtain ⟨y,_,e1,_⟩:=wJ h hk;rw [e] at hk;unfold d0 at hk;rw [Yo] at hk
  cases hq:es[i]? with
  | none=>rw [hq] at hk;cases hk
  | some u=>
   rw [hq] at hk;rw [<- Yu hk] at e1
   cases e1
inductive lN (g:Gs) (vs:List V) (H:Hp) (Q:VK) (aD:XK):Prop
 | mk (v:_) (S:_):vs=[v]->ZB g H S v->rC S->(∀ H',af H H'->Q (.bl true) H')->lN g vs H Q aD
theorem ZeX:Zm ["state","entries"] ["state"] (Zi yQ):=ZE (by decide +kernel)
theorem Zly (T:Tx K mg g):ah P w K mg base (aw P w) 2 g.IJ g.J2 ["state"] (lN g):=by
 refine T.Kc.aG ZeX fun vs H Q E h=>?_;obtain ⟨v,S,rfl,qW,W,q⟩:=h;refine ⟨rfl,fun _ _ _ _ hr=>?_⟩;obtain ⟨p,dx,da,ea,dk,ek,rfl,hS⟩:=id qW
 refine ⟨_,(Zd (ZZ (ll (Zv BW (by rfl) T.Br PyProof.Rows.Boot.«any» (Za (mT (own:=["number"]) (fv:=[]) (ix:=[]) (Z8 (sc:=Zi yQ) (N:=["state","entries"]) rfl rfl (by decide +kernel)) rfl (rL (Zl (Dm T) hr.dn rfl T.CS T.wW.kp T.bh .nil Zg (Za (pv 0) Zf))) (fun _ _ _ _ _=>ZG (i:=0) (show (["number"]:List Str).Nodup from by decide +kernel) rfl (Or.inl rfl) (Or.inr rfl)) (fun _ _ _ _ _=>mU) (fun _ _ _ _ _=>(Zya (tY rF (pv 0) Zo (ZU _)) (Zwm (tY Bu (pv 0) (Zs (v:=.int 32) rfl T.Zia ⟨_,rfl⟩) (ZU _)))))) Zf))) (Zh (Zu mM)) Zy)
  (Zd (ZZ (ll (Zv BW (by rfl) T.Br PyProof.Rows.Boot.«any» (Za (FH (mT (own:=["row"]) (fv:=[]) (ix:=[]) (Z8 (sc:=Zi yQ) (N:=["state","entries"]) rfl rfl (by decide +kernel)) rfl (yr (qg YT XB XA wM (Zp (pv 0) rfl))) (fun _ _ _ _ _=>ZG (i:=0) (show (["row"]:List Str).Nodup from by decide +kernel) rfl (Or.inl rfl) (Or.inr rfl)) (fun _ _ _ _ _=>mU) (fun _ _ _ _ _=>(tY ma (Zv (Zo5 (K:=K) rfl) (by rfl) T.cR YA (Za (pv 0) Zf)) (Zs (v:=.int 600) rfl T.IG ⟨_,rfl⟩) (ZU _))))) Zf))) (Zh (Zu mM)) Zy)
  (Zd (yt (gN YE rfl (yr (qg YT XB XA wM (Zp (pv 0) rfl))) (ZG (i:=1) ZeX.nd rfl (Or.inl rfl)) (Zh (ZZ (PW.pt (lj (ZI ma (Zv Ce (by rfl) T.cR YA (Za (pv 1) Zf)) (Zs (v:=.int 40) rfl T.ZgE ⟨_,rfl⟩) (ZU _)) (nO (px (ll (Zv Ge (by rfl) T.Fg PyProof.Rows.Boot.«all» (Za (FH (mT (own:=["name"]) (fv:=[]) (ix:=[]) (Z8 (sc:=Zi yQ) (N:=["state","entries"]) rfl rfl (by decide +kernel)) rfl (Zuc (pv 1)) (fun _ _ _ _ _=>ZG (i:=0) (show (["name"]:List Str).Nodup from by decide +kernel) rfl (Or.inl rfl) (Or.inr rfl)) (fun _ _ _ _ _=>mU) (fun _ _ _ _ _=>(Zl (Ct T) hr.dn rfl T.Cm T.wD.kp T.cK .nil e_ (Za (pv 0) Zf))))) Zf))))))) (Zh (Zu mM)) Zy))))
  (Zh (Zu mM))))),?_⟩
 refine ⟨_,rfl,_,S,rfl,qW,W.len,fun l H1 s1 hl=>⟨l,rfl,⟨_,ay.of hl⟩,fun D hD=>?_⟩⟩
 have vv:(Zx S).length < 64:=by
  have:=(qp (S.dat.map (·.1)++S.ent.map (·.1))).length_eq
  unfold Zx;rw [this,Yd,Yb,Yb];exact W.len
 refine ZyF (fun _=>some (.bl false)) hl hD (by rw [Yb];exact Zn (m:=100) (by omega) (by decide)) (fun x H' N hx s k=>?_) (fun H' s hH=>?_)
 .obtain ⟨n,hn,rfl⟩:=List.mem_map.mp hx;obtain ⟨n0,n1⟩:=W.nums n hn;refine ao (B:=N none H') ?_;refine ⟨_,rfl,_,_,rfl,rfl,_,rfl,?_⟩;rw [decide_eq_false (show ¬ n < 0 by omega)];refine aj ⟨_,rfl,_,_,rfl,rfl,?_⟩;show N (some (V.bl (decide (32<=n)))) H';rw [decide_eq_false (show ¬ 32<=n by omega)];exact k _ (af.refl _)
 rw [BX] at hH;refine ⟨D,_,rfl,ay.of hH,_,rfl,?_⟩;rw [FK];refine aj ?_;have s2:=s1.trans s;have hd2:=s2 _ _ hS.hd;refine ⟨da,_,hd2,rfl,?_⟩;refine ⟨_,rfl,p,_,dx,_,_,rfl,s2 _ _ hS.ob,T.ZM,T.Z2,mO _ _,?_⟩;refine ⟨.inr (.inr (.inl ⟨rfl,.inl ⟨dk,hd2⟩⟩)),da,.dK dk,rfl,rfl,.inl hd2,rfl,fun r cm=>?_⟩;have sM:da≠r:=Zc hd2 cm;refine ⟨r,da,.dK dk,rfl,Zb,(by rw [Ze sM];exact hd2),rfl,fun ob D2 l7=>?_⟩;have s3:=s2.trans (Zk (o:=rD r da) cm);have EA:=Zk (o:=rD r da) cm _ _ hd2;generalize upd H' r (rD r da)=H3 at s3 EA l7 ⊢;refine Fm (fun _=>some (.bl false)) Zyp (fun i H x H' h=>h) EA l7 (Zn (m:=100) (by show (dk.map (·.2)).length<=100;rw [Yb,hS.rd.len];have:=W.len;omega) (by decide)) (fun x H' N hx s k=>?_) (fun H' hz s nD hH=>?_)
 .obtain ⟨pr,hp,t,rfl,ht⟩:=ZrV hS.rd hx;have hl6:=W.dat pr hp;have i9:H' t=some (.tup (pr.2.map V.int)):=s _ _ (by rw [Ze (ZD (s3 _ _ ht) EA (by intro z;cases z))];exact s3 _ _ ht);refine ao (B:=N none H') ?_;refine ⟨_,rfl,t,_,rfl,.inr (av.of i9),_,_,rfl,rfl,?_⟩;show N (some (V.bl (decide ((600:Int) < ((pr.2.map V.int).length:Int))))) H';rw [Yb,decide_eq_false (show ¬ (600:Int) < (pr.2.length:Int) by omega)];exact k _ (af.refl _)
 refine ⟨ob,_,hz,rfl,?_⟩;rw [BX] at hH;have s4:=s3.trans s;generalize upd H' da (.dK dk)=H4 at hH s4 ⊢;refine ⟨D2,_,rfl,ay.of hH,_,rfl,?_⟩;rw [FK];refine aj ?_;have xJ:=s4 _ _ hS.he;refine ⟨ea,_,xJ,rfl,?_⟩;refine ⟨_,rfl,p,_,dx,_,_,rfl,s4 _ _ hS.ob,T.ZM,T.Zr,gs _ _,?_⟩;refine ⟨.inr (.inr (.inl ⟨rfl,.inl ⟨ek,xJ⟩⟩)),ea,.dK ek,rfl,rfl,.inl xJ,rfl,fun r2 qQ=>?_⟩;have Lr:ea≠r2:=Zc xJ qQ;refine ⟨r2,ea,.dK ek,rfl,Zb,(by rw [Ze Lr];exact xJ),rfl,fun xh=>?_⟩
 refine B3 (d:=ea) (ob:=xh) (u:=.dK ek) (fun i σ H'=>(∃ o1,σ=[some (.ref p),o1])/\H' ea=some (.bf xh (.dK ek))/\∀ b o,H4 b=some o->b≠ea->H' b=some o)
  ⟨⟨_,rfl⟩,Zb,fun b o e hb=>by rw [Ze hb,Ze (Zc e qQ)];exact e⟩ (fun i σ H' _ h=>h.2.1) (fun i x σ H5 hx h=>?_) (fun σ H5 h=>?_)
 .obtain ⟨⟨o1,rfl⟩,dZ,kp⟩:=h;obtain ⟨pe,xD,ae,rfl,di⟩:=ZrV hS.re (Ys hx);obtain ⟨l1,l2⟩:=W.ent pe xD;have LY:=s4 _ _ di;have u6:ae≠ea:=ZyA hS.re hS.he hx di;have qB:=kp _ _ LY u6;refine ⟨_,rfl,ae,_,rfl,qB,_,_,rfl,rfl,_,rfl,?_⟩;rw [tX,decide_eq_false (show ¬ (40:Int) < (pe.2.length:Int) by omega)];refine aj ⟨ae,_,qB,rfl,?_⟩;refine ⟨_,rfl,ae,_,rfl,qB,fun ob3 D3 nE=>?_⟩;refine Fm (fun _=>some (.bl true)) Zww (fun i H x H' h=>h) qB nE (Zn (m:=100) (by rw [Yb,tX];omega) (by decide)) (fun x H' N hx s k=>?_) (fun H' hz s nD hH=>?_)
  .obtain ⟨kv,mI,rfl⟩:=List.mem_map.mp hx;unfold d0 at mI;obtain ⟨en,A9,rfl⟩:=List.mem_map.mp mI;refine ao (B:=N none H') ?_;refine ⟨_,rfl,en.1,rfl,?_,fun H6 s6=>?_⟩
   .exact Zn (Yn (yG (l2 en A9)).2.1 (show 8<=100 by decide)) (by decide)
   .rw [l2 en A9];exact k _ s6
  .rw [BX] at hH;refine ⟨ob3,_,hz,rfl,D3,_,rfl,ay.of hH,_,rfl,?_⟩;rw [Zxz];refine aj ⟨⟨_,rfl⟩,?_,fun b o e hb=>?_⟩
   .exact s _ _ dZ
   .exact s _ _ (kp _ _ e hb)
 .obtain ⟨⟨o1,rfl⟩,dZ,kp⟩:=h;refine ⟨xh,_,dZ,rfl,q _ fun b o e=>?_⟩
  by_cases z:b=ea
  .rw [z,Zb,<- hS.he,<- z,e]
  .rw [Ze z];exact kp _ _ (s4 _ _ e) z
inductive lI (g:Gs) (vs:List V) (H:Hp) (Q:VK) (aD:XK):Prop
 | mk (v:_) (S:_):vs=[v]->ZB g H S v->rC S->(∀ H',af H H'->Q (.bl true) H')->lI g vs H Q aD
theorem Zlc:Zm ["state","named"] ["state"] (Zi HE):=ZE (by decide +kernel)
theorem Zrj (T:Tx K mg g):ah P w K mg base (aw P w) 3 g.F7 g.Hv ["state"] (lI g):=by
 refine T.G7.aG Zlc fun vs H Q E h=>?_;obtain ⟨v,S,rfl,qW,W,q⟩:=h;refine ⟨rfl,fun _ _ _ _ hr=>?_⟩;have iF:=hr.units;have hu:=u1 hr.units;obtain ⟨p,dx,da,ea,dk,ek,rfl,hS⟩:=id qW
 refine ⟨_,(Zd (ZZ (PW.pt (lj (fo (ub hu (Zs (v:=.int 0) rfl T.yf ⟨_,rfl⟩) (Zp (pv 0) rfl))) (nO (px (ll (Zl (Zly T) hr.dn rfl T.ZmN T.Kc.kp T.f7 .nil Zg (Za (pv 0) Zf))))))) (Zh (Zu mM)) Zy)
  (Zd (Zt (i:=1) Zlc.nd rfl (Or.inr rfl) (Zl (ZeL T) hr.dn rfl T.Zfh T.Df.kp T.cb .nil Zg (Za (pv 0) Zf)))
  (Zd (ZZ (PW.pt (lj (ZI Zp2 (Zs (v:=.int 0) rfl T.yf ⟨_,rfl⟩) (pv 1) rfl) (nO (ll (Zv BW (by rfl) T.Br PyProof.Rows.Boot.«any» (Za (FH (mT (own:=["number"]) (fv:=["named"]) (ix:=[1]) (Z8 (sc:=Zi HE) (N:=["state","named"]) rfl rfl (by decide +kernel)) rfl (Zuc (Zp (pv 0) rfl)) (fun _ _ _ _ _=>ZG (i:=0) (show (["number","named"]:List Str).Nodup from by decide +kernel) rfl (Or.inl rfl) (Or.inr rfl)) (fun _ _ _ _ _=>mU) (fun _ _ _ _ _=>(tY ma (Lj (K:=K) (f:=fun K=>DK K "list" (kL K) (bA 1) (gu (bA 0) bB)) rfl (kc YR PySem.F.slot_list_count PySem.F.type_list_count Zsf (pv 1) (Za (pv 0) Zf))) Zo (ZU _))))) Zf)))))) (Zh (Zu mM)) Zy)
  (Zh (Zu (tY (Zwr iF) (Zl (ZhO T) hr.dn rfl T.ZiS T.Kw.kp T.dX .nil Zg (Za (pv 0) Zf)) (Zl (Dm T) hr.dn rfl T.CS T.wW.kp T.bh .nil Zg (Za (pv 0) Zf)) (ZU _))))))),?_⟩
 refine ⟨_,rfl,p,_,dx,_,_,rfl,hS.ob,T.ZM,T.Zr,gs _ _,ea,_,rfl,aE.k hS.he (k:=.inl 0),_,rfl,?_⟩;rw [hS.re.some (fun _ _ z=>WA z),W.root];refine aj ⟨_,rfl,_,S,rfl,qW,W,fun H1 s1=>⟨_,rfl,aj ?_⟩⟩;refine ⟨_,rfl,_,S,rfl,ZB.mono _ _ _ _ s1 qW,Yn W.nl (by decide),fun l H2 s2 hl=>?_⟩;have s3:=s1.trans s2;refine ⟨_,rfl,l,_,rfl,.inl (ay.of hl),rfl,Ga _,_,rfl,?_⟩;rw [Zsl,W.no0];refine aj ?_;have pb:=s3 _ _ hS.he;refine ⟨ea,_,pb,rfl,_,rfl,p,_,dx,_,_,rfl,s3 _ _ hS.ob,T.ZM,T.Zr,gs _ _,ea,_,rfl,pb,fun ob D hD=>?_⟩;refine Fm (fun _=>some (.bl false)) Zww (fun i H x H' h=>h) pb hD (Zn (m:=100) (by rw [Yb,hS.re.len];have:=W.len;omega) (by decide)) (fun x H' N hx s k=>?_) (fun H' hz s nD hH=>?_)
 .rw [hS.re.ox] at hx;obtain ⟨n,hn,rfl⟩:=List.mem_map.mp hx;obtain ⟨pe,xD,rfl⟩:=List.mem_map.mp hn;have kW:H' l=some (.lst ((lh S).map V.int)):=s _ _ (by rw [Ze (ZD hl pb (by intro z;cases z))];exact hl);refine ao (B:=N none H') ?_;refine ⟨_,rfl,.inl ⟨rfl,_,ay.of kW⟩,_,rfl,l,_,_,rfl,rfl,ay.of kW,rfl,Ga _,_,_,rfl,rfl,?_⟩;show N (some (V.bl (decide ((1:Int) < ((((lh S).map V.int).countP fun z=>mL z (.int pe.1):Nat):Int))))) H';have ho:=W.once pe xD;rw [ZqG,decide_eq_false (show ¬ (1:Int) < (((lh S).count pe.1:Nat):Int) by omega)];exact k _ (af.refl _)
 .rw [BX] at hH;have s4:=s3.trans s;refine ⟨ob,_,hz,rfl,D,_,rfl,ay.of hH,_,rfl,?_⟩;rw [FK];generalize upd H' ea (.dK ek)=H4 at s4 ⊢;obtain ⟨fd,hf,hsf⟩:=W.rch
  have d9:fd.length < 64:=by
   have h1:=(qp fd).length_eq;rw [hsf] at h1;have h2:=(qp (S.dat.map (·.1)++S.ent.map (·.1))).length_eq;rw [Yd,Yb,Yb] at h2
   have:=W.len
   unfold Zx at h1;omega
  refine aj ⟨_,rfl,_,S,fd,rfl,ZB.mono _ _ _ _ s4 qW,hf,d9,fun l1 H5 s5 dg=>?_⟩;refine ⟨_,rfl,_,S,rfl,ZB.mono _ _ _ _ (s4.trans s5) qW,W.len,fun l2 H6 s6 j7=>?_⟩;rw [hsf] at dg;refine ⟨_,_,zY (s6 _ _ dg),zY j7,CN _,CN _,?_⟩;rw [CQ (CN _)];exact q _ ((s4.trans s5).trans s6)
def lr (D:aR):Nat->Row->aF->Zq->Except Rf (aF×Zq)
 | 0,_,S,pl=>.ok (S,pl)
 | n + 1,t,S,pl=>match mW D pl (t.take 5) with
  | .error e=>.error e
  | .ok x=>if t.getD 1 0=1 then lr D n (t.drop 5) ⟨ai S.dat (t.getD 0 0) x.1,S.ent⟩ x.2 else match pH x.1 with
   | .error e=>.error e
   | .ok es=>lr D n (t.drop 5) ⟨S.dat,ai S.ent (t.getD 0 0) es⟩ x.2
theorem CA (D:aR) (n:Nat) (t:Row) (S:aF) (pl:Zq):lr D (n + 1) t S pl=match mW D pl (t.take 5) with
  | .error e=>.error e
  | .ok x=>if t.getD 1 0=1 then lr D n (t.drop 5) ⟨ai S.dat (t.getD 0 0) x.1,S.ent⟩ x.2 else match pH x.1 with
   | .error e=>.error e
   | .ok es=>lr D n (t.drop 5) ⟨S.dat,ai S.ent (t.getD 0 0) es⟩ x.2:=rfl
def j4 (D:aR) (pl:Zq) (head:Row):Except Rf (aF×Zq):=match md D pl (head.getD 1 0) (head.getD 0 0 * 5).toNat with
 | .error e=>.error e
 | .ok x=>lr D (head.getD 0 0).toNat x.1 ⟨[],[]⟩ x.2
theorem Ij {D:aR} (ok:fi D) {pl:Zq} {part:Row} {x:Row×Zq} (e:mW D pl part=.ok x):x.1.length<=600/\x.2.length<=pl.length + 1/\((∀ p∈pl,p.2≠[])->∀ p∈x.2,p.2≠[]):=by
 unfold mW at e
 split at e
 .cases e
 .obtain ⟨h1,_,h3,h4⟩:=F1 ok e;exact ⟨by omega,h3,h4⟩
def Ae (d e:Addr) (H0 H:Hp) (es:aO) (v:V):Prop:=∃ a,v=.ref a/\a≠d/\a≠e/\H0 a=none/\H a=some (.dK (d0 es))
def Zzs (H0 H H':Hp):Prop:=∀ d o,H d=some o->(H0 d=none∨((∀ k,o≠.dK k)/\∀ k,o≠.dT k))->H' d=some o
def oi (g:Gs) (H0 H:Hp) (S:aF) (v:V):Prop:=∀ H',Zzs H0 H H'->ZB g H' S v
theorem gq.dk {g:Gs} {H:Hp} {r a p b l X:Addr} {D:aR} {pl:Zq} {k:List (Key×V)} {o:HO} (h:gq g H r a p b l D pl) (hX:H X=some (.dK k)):gq g (upd H X o) r a p b l D pl:=by
 obtain ⟨dx,kvs,h⟩:=h;refine ⟨dx,kvs,by rw [Ze (ZD h.ob hX (by intro z;cases z))];exact h.ob,by rw [Ze (ZD h.ha hX (by intro z;cases z))];exact h.ha,BY (fun d xs e=>by rw [Ze (ZD e hX (by intro z;cases z))];exact e) h.rp,h.dk.keep fun d u e ho=>?_⟩;rw [Ze (fun z=>by rw [z,hX] at e;cases e;rcases ho with ⟨_,z⟩ | ⟨_,z⟩ | ⟨_,_,_,_,z⟩ <;> cases z)];exact e
inductive gU (g:Gs) (vs:List V) (H:Hp) (Q:VK) (E:XK):Prop
 | mk (r:_) (a:_) (p:_) (b:_) (l:_) (D:_) (pl:_) (head:_) (v:_):vs=[.ref r,v]->ZH H head v->head.length=2->(∀ x∈head,0<=x/\x < 256)->gq g H r a p b l D pl->fi D->pl.length<=4000->(∀ x,j4 D pl head=.ok x->rC x.1)->iK g (oi g H) H r a p b l D (j4 D pl head) Q E->gU g vs H Q E
theorem ue:Zm ["reader","head","table","data","entries","place","part","state"] ["reader","head"] (Zi Zna):=ZE (by decide +kernel)
theorem Zlv (T:Tx K mg g):ah P w K mg base (aw P w) 8 g.Gj g.HH ["reader","head"] (gU g):=by
 refine T.Cp.aG ue fun vs H Q E h=>?_;obtain ⟨r,a,p,b,l,D,pl,head,v,rfl,⟨hv,rfl,hh⟩,h2,vq,hR,ok,hp,hW,q⟩:=h;refine ⟨rfl,fun _ _ _ _ hr=>?_⟩;have hu:=u1 hr.units
 refine ⟨_,(Zd (Zt (i:=2) ue.nd rfl (Or.inl rfl) (ZQ (pv 0) T.pE T.Zfn (ZeM T) hr.dn T.cf .nil Zg (Za (d_ jn (pv 1) Zo (fun _ _=>rfl)) (Za (ZC pk (d_ jn (pv 1) Zo (fun _ _=>rfl)) (Zs (v:=.int 5) rfl T.JA ⟨_,rfl⟩)) Zf))))
  (Zd (Zt (i:=3) ue.nd rfl (Or.inl rfl) nV)
  (Zd (Zt (i:=4) ue.nd rfl (Or.inl rfl) nV)
  (Zd (gN YE rfl (ZpW rfl T.rK (Za Zo (Za (Zv Zw (by rfl) T.cR YA (Za (pv 2) Zf)) (Za (Zs (v:=.int 5) rfl T.JA ⟨_,rfl⟩) Zf)))) (ZG (i:=5) ue.nd rfl (Or.inl rfl)) (Zd (Zt (i:=6) ue.nd rfl (Or.inl rfl) (jc lB (pv 2) (Z9 (pv 5)) (Z9 (ZC gM (pv 5) (Zs (v:=.int 5) rfl T.JA ⟨_,rfl⟩)))))
  (Zh (ZZ (ZI nJ (d_ jn (pv 6) Zo (fun _ _=>rfl)) (Zs (v:=.int 1) rfl T.Zl1 ⟨_,rfl⟩) (ZU _)) (Zh (nR hu (pv 3) (d_ jn (pv 6) Zo (fun _ _=>rfl)) (Zl (Zj5 T) hr.dn rfl T.ZlL T.CD.kp T.eW .nil Zg (Za (pv 0) (Za (pv 6) Zf))) rfl)) (Zh (nR hu (pv 4) (d_ jn (pv 6) Zo (fun _ _=>rfl)) (Zl (ZmB T) hr.dn rfl T.ZoE T.JT.kp T.gA .nil Zg (Za (Zl (Zj5 T) hr.dn rfl T.ZlL T.CD.kp T.eW .nil Zg (Za (pv 0) (Za (pv 6) Zf))) Zf)) rfl))))))
  (Zd (Zt (i:=7) ue.nd rfl (Or.inl rfl) (lA T.B8 (CV T) hr.dn rfl T.BO T.bx .nil Zg (Za (pv 3) (Za (pv 4) Zf))))
  (Zd (ZZ (px (ll (Zl (Zrj T) hr.dn rfl T.Ztj T.G7.kp T.kP .nil Zg (Za (pv 7) Zf)))) (Zh (ZN T.rQ rfl T.qm (Za ZY Zf))) Zy)
  (Zh (Zu (pv 7))))))))),?_⟩
 have b0:=B5 vq 0;obtain ⟨dx,kvs,mK⟩:=id hR;refine ⟨_,rfl,r,dx,_,rfl,mK.ob,FC _ _,_,rfl,hv,_,_,_,rfl,rfl,av.of hh,lx (i:=1) (by omega),_,rfl,hv,_,_,_,rfl,rfl,av.of hh,lx (i:=0) (by omega),_,_,rfl,rfl,.inr ⟨by decide,by decide⟩,?_⟩;refine ⟨r,a,p,b,l,D,pl,_,(head.getD 0 0 * 5).toNat,(by rw [show (((head.getD 0 0 * 5).toNat:Nat):Int)=head.getD 0 0 * 5 by omega];rfl),hR,ok,by omega,by omega,?_⟩;unfold j4 at hW q
 cases hc:md D pl (head.getD 1 0) (head.getD 0 0 * 5).toNat with
 | error e=>
  rw [hc] at q;exact q
 | ok x=>
  rw [hc] at q hW;obtain ⟨x1,x2,x3,x4⟩:=F1 ok hc
  rintro _ H1 k1 hR1 ⟨t,rfl,ht⟩
  dsimp only at q hW;generalize hn:(head.getD 0 0).toNat=n at q hW;have hlen:x.1.length=5 * n:=by omega
  have xG:n < 256:=by omega
  intro Ud hUd Ue ED;have zS:H1 Ud=none:=hUd
  have fr:∀ d H',aU a H1 H'->(∃ o,H' a=some o)->H' d=none->H d=none:=fun d H' kb ⟨o,ho⟩ hd=>by
   cases hh:H d with
   | none=>rfl
   | some u=>
    by_cases z:d=a
    .rw [z,ho] at hd;cases hd
    .rw [kb _ _ (k1 _ _ hh z) z] at hd;cases hd
  obtain ⟨j9,kvs1,zV⟩:=id hR1;have AR:Ud≠Ue:=Zc (H:=upd H1 Ud (.dK [])) Zb ED;have zR:H1 Ue=none:=by have z:=ED;rw [Ze AR.symm] at z;exact z
  have s0:af H1 (upd (upd H1 Ud (.dK [])) Ue (.dK [])):=(Zk hUd).trans (Zk ED);obtain ⟨z1,z2⟩:=Zwi (hi:=(x.1.length:Int)) (c:=5) (by omega) (by omega) (by decide) (by decide);refine ⟨_,rfl,t,_,rfl,.inr (av.of (s0 _ _ ht)),0,_,5,_,rfl,by decide,by decide,(by rw [Yb];exact z1),(by rw [Yb];exact z2),?_⟩;rw [show (((x.1.length:Int) + 5 - 1) / 5).toNat=n by omega]
  -- what stays rS eF two dicts and eF places grow
  refine ZnG (fun i σ H'=>(∃ o5 o6 o7,σ=[some (.ref r),some (.ref hv),some (.ref t),some (.ref Ud),some (.ref Ue),o5,o6,o7])/\aU a H1 H'/\∃ (S:aF) (eI:Zq) (dk ek:List (Key×V)),gq g H' r a p b l D eI/\H' Ud=some (.dK dk)/\H' Ue=some (.dK ek)/\ZT XQ ZH H' S.dat dk/\ZT XQ (Ae Ud Ue H) H' S.ent ek/\S.dat.length<=i/\S.ent.length<=i/\eI.length<=x.2.length + i/\lr D (n - i) (x.1.drop (5 * i)) S eI=lr D n x.1 ⟨[],[]⟩ x.2)
   ⟨⟨_,_,_,rfl⟩,.of s0,⟨[],[]⟩,x.2,[],[],hR1.same s0,(by rw [Ze AR];exact Zb),Zb,.nil,.nil,Yt _,Yt _,Yf _,rfl⟩ (fun i σ H' hi h=>?_) (fun σ H' h=>?_)
  .obtain ⟨⟨o5,o6,o7,rfl⟩,kb,S,eI,dk,ek,lY,hd,he,rd,re,ld,le,lp,hm⟩:=h;have e1:(0:Int) + (i:Nat) * 5=((5 * i:Nat):Int):=by omega
   have e2:((5 * i:Nat):Int) + 5=((5 * i + 5:Nat):Int):=by omega
   obtain ⟨jh,kvs',zW⟩:=id lY;have i9:H' t=some (.tup (x.1.map V.int)):=kb _ _ ht (ZD ht zV.ha (by intro z;cases z));refine ⟨_,rfl,_,rfl,_,rfl,_,rfl,_,_,rfl,rfl,_,rfl,t,_,rfl,i9,fun p1 H2 s2 j6=>?_⟩;rw [e1,e2,wq _ _ _ (Xb _ _),YaN] at j6;have pX:((x.1.drop (5 * i)).take 5).length=5:=by rw [YH,YB];omega
   have Ew:∀ j,j < 5->((x.1.drop (5 * i)).take 5).getD j 0=(x.1.drop (5 * i)).getD j 0:=fun j hj=>by
    rw [Yi,List.getElem?_take_of_lt hj,<- Yi]
   have hb5:∀ y∈(x.1.drop (5 * i)).take 5,0<=y/\y < 256:=fun y hy=>x2 y (X6 (Xn hy));rw [show n - i=(n - (i + 1)) + 1 by omega] at hm;rw [CA] at hm;refine ⟨_,rfl,p1,_,_,_,rfl,rfl,av.of j6,lx (i:=1) (by omega),rfl,_,rfl,?_⟩;rw [Ew 1 (by decide)]
   -- eF row is read,in both K6
   have kd:∀ H3,aU a H2 H3->H3 Ud=some (.dK dk)/\H3 Ue=some (.dK ek)/\ZT XQ ZH H3 S.dat dk/\ZT XQ (Ae Ud Ue H) H3 S.ent ek/\aU a H1 H3/\H3 p1=some (.tup (((x.1.drop (5 * i)).take 5).map V.int)):=fun H3 k3=>by
    have hk:∀ d o,H' d=some o->(∀ k,o≠.dT k)->H3 d=some o:=fun d o e no=>k3 _ _ (s2 _ _ e) (fun z=>no _ (by rw [z,zW.ha] at e;exact (Yu e).symm));refine ⟨hk _ _ hd (by intro k z;cases z),hk _ _ he (by intro k z;cases z),rd.gen ?_,re.gen ?_,fun d o e h=>k3 _ _ (s2 _ _ (kb _ _ e h)) h,?_⟩
    .rintro _ _ ⟨u,e,hu⟩;exact ⟨u,e,hk _ _ hu (by intro k z;cases z)⟩
    .rintro _ _ ⟨u,e,n1,n2,n3,hu⟩;exact ⟨u,e,n1,n2,n3,hk _ _ hu (by intro k z;cases z)⟩
    .exact k3 _ _ j6 (ZD j6 (s2 _ _ zW.ha) (by intro z;cases z))
   have call:∀ (Q':VK),(∀ e,mW D eI ((x.1.drop (5 * i)).take 5)=.error e->∀ H3,aU a H2 H3->E (.ref (g.xa e)) none H3)->(∀ y,mW D eI ((x.1.drop (5 * i)).take 5)=.ok y->∀ u H3,aU a H2 H3->gq g H3 r a p b l D y.2->ZH H3 y.1 u->Q' u H3)->c9 g [.ref r,.ref p1] H2 Q' E:=fun Q' h1 h2=>by
    refine ⟨r,a,p,b,l,D,eI,_,_,rfl,⟨p1,rfl,j6⟩,pX,hb5,lY.same s2,ok,by omega,?_⟩
    cases hth:mW D eI ((x.1.drop (5 * i)).take 5) with
    | error e=>exact h1 e hth
    | ok y=>exact h2 y hth
   have err:∀ e,lr D n x.1 ⟨[],[]⟩ x.2=.error e->∀ H3,aU a H2 H3->E (.ref (g.xa e)) none H3:=fun e pb H3 k3=>by
    rw [pb] at q;exact q H3 (k1.trans (kd H3 k3).2.2.2.2.1)
   by_cases o_:(x.1.drop (5 * i)).getD 1 0=1
   .rw [decide_eq_true (by rw [o_])];refine ao ⟨_,rfl,_,rfl,call _ (fun e pb=>err e (by rw [<- hm,pb])) fun y hy u H3 k3 tD xu=>?_⟩;rw [hy] at hm;have bP:(if (x.1.drop (5 * i)).getD 1 0=1 then lr D (n - (i + 1)) ((x.1.drop (5 * i)).drop 5) ⟨ai S.dat ((x.1.drop (5 * i)).getD 0 0) y.1,S.ent⟩ y.2 else _)=_:=hm;rw [if_pos o_] at bP;obtain ⟨y1,y2,_⟩:=Ij ok hy;obtain ⟨g1,g2,g3,g4,g5,g6⟩:=kd H3 k3;obtain ⟨tu,rfl,oR⟩:=xu;have nu:∀ d o,H3 d=some o->d≠Ud->(upd H3 Ud (.dK (putK dk (.inl ((x.1.drop (5 * i)).getD 0 0)) (.ref tu)))) d=some o:=fun d o e h=>by rw [Ze h];exact e
    have dp:=ck.k (k:=.inl ((x.1.drop (5 * i)).getD 0 0)) (v:=.ref tu) g1 (lt_size (by rw [rd.len];omega));refine ⟨_,rfl,_,rfl,p1,_,_,_,rfl,rfl,av.of g6,(Ew 0 (by decide) ▸ lx (i:=0) (by omega)),Ud,_,rfl,dp,?_⟩;refine ⟨⟨_,_,_,rfl⟩,fun d o e h=>nu _ _ (g5 _ _ e h) (Zc e zS),⟨ai S.dat ((x.1.drop (5 * i)).getD 0 0) y.1,S.ent⟩,y.2,_,ek,?_,Zb,nu _ _ g2 AR.symm,(g3.gen ?_).put (fun _ _ z=>WA z) ⟨tu,rfl,nu _ _ oR (ZD oR g1 (by intro z;cases z))⟩,g4.gen ?_,Yn (ki _ _ _) (by omega),by show S.ent.length<=_;omega,by omega,?_⟩
    .exact tD.dk g1
    .rintro _ _ ⟨u,e,hu⟩;exact ⟨u,e,nu _ _ hu (ZD hu g1 (by intro z;cases z))⟩
    .rintro _ _ ⟨u,e,n1,n2,n3,hu⟩;exact ⟨u,e,n1,n2,n3,nu _ _ hu n1⟩
    .rw [<- bP,List.drop_drop];rfl
   .rw [decide_eq_false (by intro z;injection z with z;exact o_ z)];refine aj ⟨_,rfl,_,rfl,call _ (fun e pb=>err e (by rw [<- hm,pb])) fun y hy u H3 k3 tD xu=>?_⟩;rw [hy] at hm
    have bP:(if (x.1.drop (5 * i)).getD 1 0=1 then _ else match pH y.1 with
     | .error e=>(YaW e:Except Rf (aF×Zq))
     | .ok es=>lr D (n - (i + 1)) ((x.1.drop (5 * i)).drop 5) ⟨S.dat,ai S.ent ((x.1.drop (5 * i)).getD 0 0) es⟩ y.2)=_:=hm
    rw [if_neg o_] at bP;obtain ⟨y1,y2,_⟩:=Ij ok hy;refine ⟨_,_,rfl,xu,by omega,?_⟩
    cases hre:pH y.1 with
    | error e=>
     rw [hre] at bP;exact fun H4 s4=>err e bP.symm H4 (k3.trans (.of s4))
    | ok es=>
     rw [hre] at bP;intro ae H4 kT s4 di;obtain ⟨f1,f2,_⟩:=kd H3 k3;have nad:ae≠Ud:=fun z=>by rw [z,f1] at kT;cases kT
     have u6:ae≠Ue:=fun z=>by rw [z,f2] at kT;cases kT
     obtain ⟨g1,g2,g3,g4,g5,g6⟩:=kd H4 (k3.trans (.of s4));have nu:∀ d o,H4 d=some o->d≠Ue->(upd H4 Ue (.dK (putK ek (.inl ((x.1.drop (5 * i)).getD 0 0)) (.ref ae)))) d=some o:=fun d o e h=>by rw [Ze h];exact e
     have dp:=ck.k (k:=.inl ((x.1.drop (5 * i)).getD 0 0)) (v:=.ref ae) g2 (lt_size (by rw [re.len];omega));refine ⟨_,rfl,_,rfl,p1,_,_,_,rfl,rfl,av.of g6,(Ew 0 (by decide) ▸ lx (i:=0) (by omega)),Ue,_,rfl,dp,?_⟩;refine ⟨⟨_,_,_,rfl⟩,fun d o e h=>nu _ _ (g5 _ _ e h) (Zc e zR),⟨S.dat,ai S.ent ((x.1.drop (5 * i)).getD 0 0) es⟩,y.2,dk,_,(tD.same s4).dk g2,nu _ _ g1 AR,Zb,g3.gen ?_,(g4.gen ?_).put (fun _ _ z=>WA z) ⟨ae,rfl,nad,u6,fr ae H3 (kd H3 k3).2.2.2.2.1 (tD.elim fun _ z=>z.elim fun _ z=>⟨_,z.ha⟩) kT,nu _ _ di u6⟩,by show S.dat.length<=_;omega,Yn (ki _ _ _) (by omega),by omega,?_⟩
     .rintro _ _ ⟨u,e,hu⟩;exact ⟨u,e,nu _ _ hu (ZD hu g2 (by intro z;cases z))⟩
     .rintro _ _ ⟨u,e,n1,n2,n3,hu⟩;exact ⟨u,e,n1,n2,n3,nu _ _ hu n2⟩
     .rw [<- bP,List.drop_drop];rfl
  .obtain ⟨⟨o5,o6,o7,rfl⟩,kb,S,eI,dk,ek,lY,hd,he,rd,re,ld,le,lp,hm⟩:=h;rw [Nat.sub_self] at hm;have bP:(Except.ok (S,eI):Except Rf (aF×Zq))=lr D n x.1 ⟨[],[]⟩ x.2:=hm;rw [<- bP] at q hW;refine ⟨_,rfl,_,rfl,fun y dy hy hdy ne=>?_⟩;refine ⟨y,dy,.ref Ud,.ref Ue,rfl,Zb,fun H2 kk A0=>⟨rfl,?_⟩⟩;have s2:af H' H2:=fun b o eb=>kk b o (by rw [Ze (Zc eb hy),Ze (Zc eb hdy)];exact eb) (Zc eb hy);have hS:ZB g H2 S (.ref y):=⟨y,dy,Ud,Ue,dk,ek,rfl,A0,s2 _ _ hd,s2 _ _ he,rd.same ZH.mono s2,mV (fun _ _ z=>⟨z.1,z.2.elim fun u h=>⟨u,h.1,s2 _ _ h.2.2.2.2⟩⟩) re⟩
   refine ⟨_,rfl,_,S,rfl,hS,hW _ rfl,fun H3 s3=>⟨_,rfl,aj ?_⟩⟩;have s4:=s2.trans s3;refine ⟨_,rfl,q _ _ (k1.trans (kb.trans (.of s4))) (lY.same s4) fun H5 xY=>?_⟩;obtain ⟨dxr,kvr,xQ⟩:=id lY;have fU:∀ d,H1 d=none->H d=none:=fun d h=>fr d H1 (.of (af.refl _)) ⟨_,zV.ha⟩ h;refine ⟨y,dy,Ud,Ue,dk,ek,rfl,xY _ _ (s3 _ _ A0) (.inl (fr y H' kb ⟨_,xQ.ha⟩ hy)),xY _ _ (s4 _ _ hd) (.inl (fU _ zS)),xY _ _ (s4 _ _ he) (.inl (fU _ zR)),mV (fun _ _ z=>⟨z.1,z.2.elim fun u h=>⟨u,h.1,xY _ _ (s4 _ _ h.2) (.inr ⟨(by intro k z;cases z),(by intro k z;cases z)⟩)⟩⟩) rd,mV (fun _ _ z=>⟨z.1,z.2.elim fun u h=>⟨u,h.1,xY _ _ (s4 _ _ h.2.2.2.2) (.inl h.2.2.2.1)⟩⟩) re⟩
def mh (D:aR) (blk:Row):List Nat->Kept->Zq->Except Rf (Kept×Zq)
 | [],k,pl=>.ok (k,pl)
 | n::r,k,pl=>if 0 < blk.getD (n + 8) 0 then (match j4 D pl ((blk.drop (n + 8)).take 2) with
  | .error e=>.error e
  | .ok x=>match pA ((blk.drop n).take 8) with
   | .error e=>.error e
   | .ok nm=>mh D blk r (ai k nm x.1) x.2) else mh D blk r k pl
theorem Zm2 (D:aR) (blk:Row) (n:Nat) (r:List Nat) (k:Kept) (pl:Zq):mh D blk (n::r) k pl=if 0 < blk.getD (n + 8) 0 then (match j4 D pl ((blk.drop (n + 8)).take 2) with
  | .error e=>.error e
  | .ok x=>match pA ((blk.drop n).take 8) with
   | .error e=>.error e
   | .ok nm=>mh D blk r (ai k nm x.1) x.2) else mh D blk r k pl:=rfl
theorem Gm {D:aR} (ok:fi D):∀ {n:Nat} {t:Row} {S:aF} {pl:Zq} {x:aF×Zq},lr D n t S pl=.ok x->x.2.length<=pl.length + n/\((∀ p∈pl,p.2≠[])->∀ p∈x.2,p.2≠[])
 | 0,t,S,pl,x,h=>by cases h;exact ⟨Yf _,id⟩
 | n + 1,t,S,pl,x,h=>by
  rw [CA] at h
  cases ht:mW D pl (t.take 5) with
  | error e=>rw [ht] at h;cases h
  | ok y=>
   rw [ht] at h;obtain ⟨_,y2,y3⟩:=Ij ok ht;dsimp only at h
   split at h
   .obtain ⟨a,b⟩:=Gm ok h;exact ⟨by omega,fun z=>b (y3 z)⟩
   .split at h
    .cases h
    .obtain ⟨a,b⟩:=Gm ok h;exact ⟨by omega,fun z=>b (y3 z)⟩
theorem ZsS {D:aR} (ok:fi D) {pl:Zq} {head:Row} {x:aF×Zq} (hb:head.getD 0 0 < 256) (h:j4 D pl head=.ok x):x.2.length<=pl.length + 256/\((∀ p∈pl,p.2≠[])->∀ p∈x.2,p.2≠[]):=by
 unfold j4 at h
 cases hr:md D pl (head.getD 1 0) (head.getD 0 0 * 5).toNat with
 | error e=>rw [hr] at h;cases h
 | ok y=>
  rw [hr] at h;obtain ⟨_,_,y2,y3⟩:=F1 ok hr;obtain ⟨a,b⟩:=Gm ok h;exact ⟨by omega,fun z=>b (y3 z)⟩
def Mh (g:Gs) (U a:Addr) (H:Hp) (S:aF) (v:V):Prop:=∀ H',(∀ d o,H d=some o->d≠U->d≠a->H' d=some o)->ZB g H' S v
inductive gT (g:Gs) (vs:List V) (H:Hp) (Q:VK) (E:XK):Prop
 | mk (r:_) (a:_) (p:_) (b:_) (l:_) (D:_) (pl:_) (blk:_) (v:_):vs=[v,.ref r]->ZH H blk v->blk.length=64->(∀ x∈blk,0<=x/\x < 256)->gq g H r a p b l D pl->fi D->pl.length<=3000->(∀ x,j4 D pl ((blk.drop 5).take 2)=.ok x->rC x.1)->iK g (oi g H) H r a p b l D (j4 D pl ((blk.drop 5).take 2)) Q E->gT g vs H Q E
theorem oi.bs {H0 H1 H:Hp} {S:aF} {v:V} (s:af H0 H1) (h:oi g H1 H S v):oi g H0 H S v:=fun H' k=>h H' fun d o e z=>k d o e (z.imp (fun y=>by
 cases hh:H0 d with
 | none=>rfl
 | some u=>rw [s _ _ hh] at y;cases y) id)
theorem Zra:Zm ["block","reader"] ["block","reader"] (Zi Zm9):=ZE (by decide +kernel)
theorem Zrh (T:Tx K mg g):ah P w K mg base (aw P w) 9 g.Gk g.HI ["block","reader"] (gT g):=by
 refine T.G9.aG Zra fun vs H Q E h=>?_;obtain ⟨r,a,p,b,l,D,pl,blk,v,rfl,⟨t,rfl,ht⟩,iu,vq,hR,ok,hp,hW,q⟩:=h;refine ⟨rfl,fun _ _ _ _ hr=>?_⟩;refine ⟨_,(Zh (Zu (Zl (Zlv T) hr.dn rfl T.Znv T.Cp.kp T.fT .nil Zg (Za (pv 1) (Za (jc lB (pv 0) (Z9 (Zs (v:=.int 5) rfl T.Zh9 ⟨_,rfl⟩)) (Z9 (ZC gM (Zs (v:=.int 5) rfl T.Zh9 ⟨_,rfl⟩) (Zs (v:=.int 2) rfl T.Zkg ⟨_,rfl⟩)))) Zf))))),?_⟩;refine ⟨_,rfl,_,rfl,_,rfl,_,_,rfl,rfl,_,rfl,t,_,rfl,ht,fun t1 H1 s1 eJ=>?_⟩;rw [show (5:Int)=((5:Nat):Int) from rfl,show ((5:Nat):Int) + 2=((7:Nat):Int) from rfl,wq _ _ _ (by decide)] at eJ;refine ⟨r,a,p,b,l,D,pl,_,_,rfl,⟨t1,rfl,eJ⟩,by rw [YH,YB,iu];rfl,fun x hx=>vq x (X6 (Xn hx)),hR.same s1,ok,by omega,hW,?_⟩
 cases hs:j4 D pl ((blk.drop 5).take 2) with
 | error e=>exact fun H' k=>q.no hs H' ((aU.of s1).trans k)
 | ok x=>exact fun u H' k lY hS=>q.ok hs u H' ((aU.of s1).trans k) lY (hS.bs s1)
inductive gW (g:Gs) (vs:List V) (H:Hp) (Q:VK) (E:XK):Prop
 | mk (r:_) (a:_) (p:_) (b:_) (l:_) (D:_) (pl:_) (blk:_) (v:_):vs=[v,.ref r]->ZH H blk v->blk.length=64->(∀ x∈blk,0<=x/\x < 256)->gq g H r a p b l D pl->fi D->pl.length<=2000->(∀ n∈[7,17,27],0 < blk.getD (n + 8) 0->∀ eI x,j4 D eI ((blk.drop (n + 8)).take 2)=.ok x->rC x.1)->iK g (cQ g) H r a p b l D (mh D blk [7,17,27] [] pl) Q E->gW g vs H Q E
theorem Dj:Zm ["block","reader","kept","place","behind"] ["block","reader"] (Zi Zgr):=ZE (by decide +kernel)
theorem Zlw (T:Tx K mg g):ah P w K mg base (aw P w) 9 g.JJ g.J8 ["block","reader"] (gW g):=by
 refine T.Ke.aG Dj fun vs H Q E h=>?_;obtain ⟨r,a,p,b,l,D,pl,blk,v,rfl,⟨t,rfl,ht⟩,iu,vq,hR,ok,hp,hW,q⟩:=h;refine ⟨rfl,fun _ _ _ _ hr=>?_⟩;have hu:=u1 hr.units
 refine ⟨_,(Zd (Zt (i:=2) Dj.nd rfl (Or.inl rfl) nV)
  (Zd (gN YE rfl (vW (Zs (v:=.ref g.Dg) rfl T.Zi2 rfl)) (ZG (i:=3) Dj.nd rfl (Or.inl rfl)) (Zd (Zt (i:=4) Dj.nd rfl (Or.inl rfl) (ZC gM (pv 3) (Zs (v:=.int 8) rfl T.Dl ⟨_,rfl⟩)))
  (Zh (ZZ (ZI ma (d_ jn (pv 0) (pv 4) (fun _ _=>rfl)) Zo (ZU _)) (Zh (nR hu (pv 2) (Zl (Zno T) hr.dn rfl T.Zqb T.Cc.kp T.ic .nil Zg (Za (jc lB (pv 0) (Z9 (pv 3)) (Z9 (pv 4))) Zf)) (Zl (Zlv T) hr.dn rfl T.Znv T.Cp.kp T.fT .nil Zg (Za (pv 1) (Za (jc lB (pv 0) (Z9 (pv 4)) (Z9 (ZC gM (pv 4) (Zs (v:=.int 2) rfl T.Zkg ⟨_,rfl⟩)))) Zf))) rfl)) Zy))))
  (Zh (Zu (pv 2))))),?_⟩
 intro U hU;refine ⟨g.Dg,rfl,⟨_,T.ZdM _⟩,?_⟩
 refine BJ (xs:=[.int 7,.int 17,.int 27]) (fun i σ H'=>(∃ o3 o4,σ=[some (.ref t),some (.ref r),some (.ref U),o3,o4])/\aU a H H'/\∃ (k:Kept) (eI:Zq) (kv:List (Key×V)),gq g H' r a p b l D eI/\H' U=some (.dK kv)/\ZT XC (Mh g U a) H' k kv/\k.length<=i/\eI.length<=pl.length + 256 * i/\mh D blk ([7,17,27].drop i) k eI=mh D blk [7,17,27] [] pl)
  ⟨⟨_,_,rfl⟩,.of (Zk hU),[],pl,[],hR.same (Zk hU),Zb,.nil,Yf _,Yf _,rfl⟩ (fun i σ H' _ h=>T.ZdM _) (fun i x σ H' hx h=>?_) (fun σ H' h=>?_)
 .obtain ⟨⟨o3,o4,rfl⟩,kb,k,eI,kv,lY,vx,rk,lk,lp,hm⟩:=h
  obtain ⟨m,iH,rfl,s_,hm3⟩:∃ m:Nat,m∈[7,17,27]/\x=.int (m:Int)/\[7,17,27].drop i=m::[7,17,27].drop (i + 1)/\i < 3:=by
   match i,hx with
   | 0,hx=>cases hx;exact ⟨7,by decide,rfl,rfl,by decide⟩
   | 1,hx=>cases hx;exact ⟨17,by decide,rfl,rfl,by decide⟩
   | 2,hx=>cases hx;exact ⟨27,by decide,rfl,rfl,by decide⟩
  have hm40:m<=27:=by rcases iH with _ | ⟨_,_ | ⟨_,_ | ⟨_,z⟩⟩⟩ <;> first | decide | cases z
  rw [s_,Zm2] at hm;obtain ⟨dxr,kvr,xQ⟩:=id lY;obtain ⟨Bm,D9,hR0⟩:=id hR;have i9:H' t=some (.tup (blk.map V.int)):=kb _ _ ht (ZD ht hR0.ha (by intro z;cases z));have e8:(m:Int) + 8=((m + 8:Nat):Int):=by omega
  refine ⟨_,rfl,_,_,rfl,rfl,?_⟩;refine ⟨_,rfl,_,rfl,t,_,_,_,rfl,rfl,av.of i9,lx (i:=m + 8) (by omega),_,_,rfl,rfl,_,rfl,?_⟩
  by_cases hg:0 < blk.getD (m + 8) 0
  .rw [if_pos hg] at hm;rw [decide_eq_true hg];have xX:((m + 8:Nat):Int) + 2=((m + 10:Nat):Int):=by omega
   refine ao ⟨_,rfl,_,rfl,_,rfl,_,rfl,_,rfl,_,_,rfl,rfl,_,rfl,t,_,rfl,i9,fun t1 H1 s1 eJ=>?_⟩;rw [e8,xX,wq _ _ _ (by omega),show m + 10 - (m + 8)=2 by omega] at eJ;refine ⟨r,a,p,b,l,D,eI,_,_,rfl,⟨t1,rfl,eJ⟩,by rw [YH,YB,iu];omega,fun x hx=>vq x (X6 (Xn hx)),lY.same s1,ok,by omega,hW m iH hg eI,?_⟩;have err:∀ e,mh D blk [7,17,27] [] pl=.error e->∀ H3,aU a H1 H3->E (.ref (g.xa e)) none H3:=fun e he H3 k3=>q.no he H3 (kb.trans ((aU.of s1).trans k3))
   cases hs:j4 D eI ((blk.drop (m + 8)).take 2) with
   | error e=>
    rw [hs] at hm;exact err e hm.symm
   | ok y=>
    rw [hs] at hm;intro u H2 k2 Bd jX;have D_:aU a H' H2:=(aU.of s1).trans k2;have cZ:H2 t=some (.tup (blk.map V.int)):=D_ _ _ i9 (ZD i9 xQ.ha (by intro z;cases z));have nUa:U≠a:=ZD vx xQ.ha (by intro z;cases z);have xO:H2 U=some (.dK kv):=D_ _ _ vx nUa;refine ⟨_,rfl,_,rfl,_,rfl,_,rfl,_,rfl,_,rfl,t,_,rfl,cZ,fun t3 H3 s3 mG=>?_⟩;rw [e8,wq _ _ _ (by omega),show m + 8 - m=8 by omega] at mG;refine ⟨_,_,rfl,⟨t3,rfl,mG⟩,by rw [YH];omega,?_⟩
    cases hn:pA ((blk.drop m).take 8) with
    | error e=>
     have bP:(match pA ((blk.drop m).take 8) with
      | .error e=>(YaW e:Except Rf (Kept×Zq))
      | .ok nm=>mh D blk ([7,17,27].drop (i + 1)) (ai k nm y.1) y.2)=_:=hm
     rw [hn] at bP;exact fun H4 s4=>err e bP.symm H4 (k2.trans ((aU.of s3).trans (.of s4)))
    | ok nm=>
     have bP:(match pA ((blk.drop m).take 8) with
      | .error e=>(YaW e:Except Rf (Kept×Zq))
      | .ok nm=>mh D blk ([7,17,27].drop (i + 1)) (ai k nm y.1) y.2)=_:=hm
     rw [hn] at bP
     rintro _ H4 s4 rfl
     have qI:=s3.trans s4;have hU4:=qI _ _ xO;have k4:aU a H' H4:=D_.trans (.of qI);obtain ⟨l1,_⟩:=ZsS ok (B5 (fun x hx=>vq x (X6 (Xn hx))) 0).2 hs;refine ⟨U,_,rfl,ck.k (k:=.inr nm) hU4 (lt_size (by rw [rk.len];omega)),⟨_,_,rfl⟩,fun d o e h=>?_,_,y.2,_,(Bd.same qI).dk hU4,Zb,(rk.gen ?_).put (fun _ _ z=>YaD z) ?_,Yn (ki _ _ _) (by omega),by omega,bP⟩
     .rw [Ze (Zc e hU)];exact k4 _ _ (kb _ _ e h) h
     .intro S v hv H5 h5;exact hv H5 fun d o e n1 n2=>h5 _ _ (by rw [Ze n1];exact k4 _ _ e n2) n1 n2
     .intro H5 h5;refine jX H5 fun d o e hz=>?_
      have n1:d≠U:=fun z=>by
       subst z;rw [xO] at e
       cases e
       rcases hz with z | ⟨z,_⟩
       .rw [s1 _ _ vx] at z;cases z
       .exact z _ rfl
      have n2:d≠a:=fun z=>by
       subst z;obtain ⟨_,_,h2⟩:=Bd;rw [h2.ha] at e
       cases e
       rcases hz with z | ⟨_,z⟩
       .rw [s1 _ _ xQ.ha] at z;cases z
       .exact z _ rfl
      exact h5 _ _ (by rw [Ze n1];exact qI _ _ e) n1 n2
  .rw [if_neg hg] at hm;rw [decide_eq_false hg];exact aj ⟨⟨_,_,rfl⟩,kb,k,eI,kv,lY,vx,rk,by omega,by omega,hm⟩
 .obtain ⟨⟨o3,o4,rfl⟩,kb,k,eI,kv,lY,vx,rk,lk,lp,hm⟩:=h;have bP:(Except.ok (k,eI):Except Rf (Kept×Zq))=_:=hm;exact ⟨_,rfl,q.ok bP.symm _ _ kb lY ⟨U,kv,rfl,vx,mV (fun _ _ z=>⟨z.1,z.2 _ fun d o e _ _=>e⟩) rk⟩⟩
theorem Cy (ns:Row):Xe (.tuple (ns.map WC))=true:=Zq9 (ZuY ns) (by decide)
theorem uJ {K:Yg} {H:Hp} {a:Addr} {d:Row} (h:H a=some (.tup (d.map V.int))):jz K H (.ref a) (.tuple (d.map WC)):=.inl (.inl (.tup h (B6 _ d)))
structure we (D:aR) (slot:Int) (blk:Row) (S:aF) (k:Kept) (I:iA):Prop where
 hb:D.blocks.getD slot.toNat none=some blk
 s01:slot=0∨slot=1
 len:2<=D.blocks.length
 mark:blk.take 4=tK
 st:∃ xc xb,j4 D [] ((blk.drop 5).take 2)=.ok (S,xc)/\mh D blk [7,17,27] [] xc=.ok (k,xb)/\ly S k [] xb=.ok I/\xc.length<=2000/\∀ p∈xb,p.2≠[]
 wS:rC S
 wk:∀ n∈[7,17,27],0 < blk.getD (n + 8) 0->∀ eI x,j4 D eI ((blk.drop (n + 8)).take 2)=.ok x->rC x.1
 so:eZ S
 ko:kf k
 hd:ZK I (blk.getD 4 0)=blk
 hl:I.heads.length<=1000
 pl:I.places.length<=2000
def jd (r0 r1:Row):Int×Int:=if (r1.getD 4 0 - r0.getD 4 0) % 256=1 then (1,0) else (0,1)
theorem ZB.b1 {H H':Hp} {a:Addr} {kvs:List (List Key×V)} (ha:H a=some (.dT kvs)) (k:aU a H H') {S:aF} {v:V}:ZB g H S v->ZB g H' S v
 | ⟨p,dx,da,ea,dk,ek,e,h⟩=>⟨p,dx,da,ea,dk,ek,e,k _ _ h.ob (ZD h.ob ha (by intro z;cases z)),k _ _ h.hd (ZD h.hd ha (by intro z;cases z)),k _ _ h.he (ZD h.he ha (by intro z;cases z)),
  h.rd.gen (fun _ _ z=>z.elim fun u h=>⟨u,h.1,k _ _ h.2 (ZD h.2 ha (by intro z;cases z))⟩),h.re.gen (fun _ _ z=>z.elim fun u h=>⟨u,h.1,k _ _ h.2 (ZD h.2 ha (by intro z;cases z))⟩)⟩
inductive oE (g:Gs) (vs:List V) (H:Hp) (Q:VK) (aD:XK):Prop
 | mk (v:_) (S:_) (kv:_) (k:_) (ov:_) (older:_) (I:_):vs=[v,kv,ov]->ZB g H S v->cQ g H k kv->gJ H older ov->eZ S->kf k->(∀ p∈older,p.2≠[])->ly S k [] older=.ok I->(∀ u H',af H H'->jj g H' I u->Q u H')->oE g vs H Q aD
theorem Zhm:Zm ["state","kept","places","image"] ["state","kept","places"] (Zi JX):=ZE (by decide +kernel)
theorem Zop (T:Tx K mg g):ah P w K mg base (aw P w) 5 g.Cv g.JH ["state","kept","places"] (oE g):=by
 refine T.I_.aG Zhm fun vs H Q E h=>?_;obtain ⟨v,S,kv,k,ov,older,I,rfl,hS,hk,ho,so,ko,bO,hi,q⟩:=h;refine ⟨rfl,fun bg A outer s hr=>?_⟩
 refine ⟨_,(Zd (FI (X:=aV (aw P w) P w K mg base ["state","kept","places","image"] "same_image" (Zi JX) g.Cv bg A outer s H E) (tb:=fun E=>jw (x9 (et g) [] E (gu (bA 0) (gu (bA 1) (gu (y_ bB) (gu (bA 2) bB))))) (k6 3)) (th:=fun _ _ _=>False) rfl rfl rfl rfl T.Zsj T.Zvu
  (fun pn E' E hE=>(Zh (Zt (i:=3) Zhm.nd rfl (Or.inl rfl) (Zl (ZlA T) hr.dn rfl T.Znx T.Cn.kp T.fW .nil hE (Za (pv 0) (Za (pv 1) (Za (mf Zf) (Za (pv 2) Zf))))))))
  (fun a=>ZpV))
  (Zh (Zu (pv 3)))),?_⟩
 refine ⟨_,rfl,_,rfl,a9 0,fun l hl=>⟨_,rfl,?_⟩⟩;have s1:=Zk (o:=.lst []) hl;refine ⟨v,S,kv,k,l,[],ov,older,rfl,ZB.mono _ _ _ _ s1 hS,cQ.mono _ _ _ _ s1 hk,Zb,gJ.mono _ _ _ _ s1 ho,so,ko,Yt _,bO,?_⟩;rw [hi];exact fun u H' s' hI=>⟨_,rfl,q u H' (s1.trans s') hI⟩
inductive jG (g:Gs) (vs:List V) (H:Hp) (Q:VK) (aD:XK):Prop
 | mk (p:_) (b:_) (l:_) (D:_) (r0:_) (r1:_):vs=[.ref p]->cF g H p b l D->D.blocks.getD 0 none=some r0->D.blocks.getD 1 none=some r1->r0.length=64->r1.length=64->2<=D.blocks.length->(∀ t,H t=none->Q (.ref t) (upd H t (.tup [.int (jd r0 r1).1,.int (jd r0 r1).2])))->jG g vs H Q aD
theorem Kl:Zm ["disk","first","second"] ["disk"] (Zi Zgs):=ZE (by decide +kernel)
theorem Zlx (T:Tx K mg g):ah P w K mg base (aw P w) 5 g.IP g.J4 ["disk"] (jG g):=by
 refine T.Kd.aG Kl fun vs H Q E h=>?_;obtain ⟨p,b,l,D,r0,r1,rfl,nF,h0,h1,l0,l1,hl,q⟩:=h;refine ⟨rfl,fun _ _ _ _ hr=>?_⟩;obtain ⟨dx,vb,vl,hD⟩:=id nF
 refine ⟨_,(Zd (Zt (i:=1) Kl.nd rfl (Or.inl rfl) (ZQ (pv 0) T.iy T.yL (yP T) hr.dn T.bo .nil Zg (Za Zo Zf)))
  (Zd (Zt (i:=2) Kl.nd rfl (Or.inl rfl) (ZQ (pv 0) T.iy T.yL (yP T) hr.dn T.bo .nil Zg (Za Zo Zf)))
  (Zd (ZZ (PW.pt (lj (fo (vV (pv 1))) (nO (fo (vV (pv 2)))))) (Zh (Zu (ed (Za Zo (Za Zo Zf))))) Zy)
  (Zd (ZZ (ZI nJ (ZC jb (ZC pq (d_ jn (pv 2) (Zs (v:=.int 4) rfl T.C9 ⟨_,rfl⟩) (fun _ _=>rfl)) (d_ jn (pv 1) (Zs (v:=.int 4) rfl T.C9 ⟨_,rfl⟩) (fun _ _=>rfl))) (Zs (v:=.int 256) rfl T.FR ⟨_,rfl⟩)) Zo (ZU _)) (Zh (Zu (ed (Za Zo (Za Zo Zf))))) Zy)
  (Zh (Zu (ed (Za Zo (Za Zo Zf))))))))),?_⟩
 refine ⟨_,rfl,p,dx,_,rfl,hD.ob,yx _ _,yu (E:=E) nF (by decide) (by omega) fun v hv=>?_⟩;rw [show ((0:Int)).toNat=0 from rfl,h0] at hv;obtain ⟨t0,rfl,qP⟩:=hv;refine ⟨_,rfl,p,dx,_,rfl,hD.ob,yx _ _,yu (E:=E) nF (by decide) (by omega) fun v hv=>?_⟩;rw [show ((1:Int)).toNat=1 from rfl,h1] at hv;obtain ⟨t1,rfl,eJ⟩:=hv;refine ⟨_,rfl,_,rfl,aj ⟨_,rfl,_,rfl,aj ?_⟩⟩;refine ⟨_,rfl,t1,_,_,_,rfl,rfl,av.of eJ,lx (i:=4) (by omega),_,rfl,t0,_,_,_,rfl,rfl,av.of qP,lx (i:=4) (by omega),_,_,rfl,rfl,_,_,rfl,rfl,(by show (0:Int) < 256;decide),rfl,_,rfl,?_⟩;unfold jd at q
 by_cases hc:(r1.getD 4 0 - r0.getD 4 0) % 256=1
 .rw [if_pos hc] at q;rw [decide_eq_true (congrArg V.int hc)];exact ao ⟨a9 2,fun t ht=>q t ht⟩
 .rw [if_neg hc] at q;rw [decide_eq_false (by intro z;injection z with z;exact hc z)];exact aj ⟨a9 2,fun t ht=>q t ht⟩
def x8 (D:aR) (slot:Int) (blk:Row) (S:aF) (k:Kept) (I:iA):cH:=⟨S,k,⟨slot,blk.getD 4 0,I.places⟩,D,I⟩
inductive eu (g:Gs) (vs:List V) (H:Hp) (Q:VK) (aD:XK):Prop
 | mk (p:_) (b:_) (l:_) (D:_) (slot:_) (blk:_) (S:_) (k:_) (I:_):vs=[.ref p,.int slot]->cF g H p b l D->fi D->we D slot blk S k I->(∀ f q H',af H H'->dm g H' f q p b l (x8 D slot blk S k I)->Q (.ref f) H')->eu g vs H Q aD
theorem wU:Zm ["disk","slot","block","reader","state","kept","image"] ["disk","slot"] (Zi Zne):=ZE (by decide +kernel)
theorem Zrk (T:Tx K mg g):ah P w K mg base (aw P w) 10 g.Gh g.HL ["disk","slot"] (eu g):=by
 refine T.G6.aG wU fun vs H Q E h=>?_;obtain ⟨p,b,l,D,slot,blk,S,k,I,rfl,nF,ok,M,q⟩:=h;refine ⟨rfl,fun _ _ _ _ hr=>?_⟩;have iF:=hr.units;obtain ⟨dx,vb,vl,hD⟩:=id nF;have zE:=M.s01;have hlen:=M.len
 obtain ⟨zQ,Bb⟩:=ok blk (by
  have h:=M.hb;rw [Yi] at h
  cases hh:D.blocks[slot.toNat]? with
  | none=>rw [hh] at h;cases h
  | some z=>rw [hh] at h;cases h;exact Ys hh)
 refine ⟨_,(Zd (Zt (i:=2) wU.nd rfl (Or.inl rfl) (ZQ (pv 0) T.iy T.yL (yP T) hr.dn T.bo .nil Zg (Za (pv 1) Zf)))
  (Zd (ZZ (PW.pt (lj (fo (vV (pv 2))) (nO (ZI (Zwp iF) (jc lB (pv 2) nQ (Z9 (Zv Zw (by rfl) T.cR YA (Za (Zs (v:=.ref g.MARK) rfl T.Ft rfl) Zf)))) (Zs (v:=.ref g.MARK) rfl T.Ft rfl) (ZU _))))) (Zh (ZN T.rQ rfl T.qm (Za ZY Zf))) Zy)
  (Zd (Zt (i:=3) wU.nd rfl (Or.inl rfl) (lA T.Zuu (ZmF T) hr.dn rfl T.ZvU T.gE .nil Zg (Za (pv 0) Zf)))
  (Zd (Zt (i:=4) wU.nd rfl (Or.inl rfl) (Zl (Zrh T) hr.dn rfl T.Zth T.G9.kp T.kN .nil Zg (Za (pv 2) (Za (pv 3) Zf))))
  (Zd (Zt (i:=5) wU.nd rfl (Or.inl rfl) (Zl (Zlw T) hr.dn rfl T.ZmL T.Ke.kp T.fY .nil Zg (Za (pv 2) (Za (pv 3) Zf))))
  (Zd (Zt (i:=6) wU.nd rfl (Or.inl rfl) (Zl (Zop T) hr.dn rfl T.Zqa T.I_.kp T.iU .nil Zg (Za (pv 4) (Za (pv 5) (Za (Zp (pv 3) rfl) Zf)))))
  (Zd (ZZ (ZI (Zwp iF) (Zl (ZhR T) hr.dn rfl T.Zkb T.CI.kp T.dN .nil Zg (Za (pv 6) (Za (d_ jn (pv 2) (Zs (v:=.int 4) rfl T.C9 ⟨_,rfl⟩) (fun _ _=>rfl)) Zf))) (pv 2) (ZU _)) (Zh (ZN T.rQ rfl T.qm (Za ZY Zf))) Zy)
  (Zh (Zu (lA T.F9 (JG T) hr.dn rfl T.BN T.bX .nil Zg (Za (pv 4) (Za (pv 5) (Za (lA T.Zsh (ZhV T) hr.dn rfl T.ZuD T.dR .nil Zg (Za (pv 0) (Za (pv 1) (Za (d_ jn (pv 2) (Zs (v:=.int 4) rfl T.C9 ⟨_,rfl⟩) (fun _ _=>rfl)) (Za (Zp (pv 6) rfl) Zf))))) (Za (pv 6) Zf)))))))))))))),?_⟩
 refine ⟨_,rfl,p,dx,_,rfl,hD.ob,yx _ _,_,rfl,yu (E:=E) nF (by omega) (by omega) fun v hv=>?_⟩;rw [M.hb] at hv;obtain ⟨t,rfl,ht⟩:=hv;refine ⟨_,rfl,_,rfl,aj ?_⟩;refine ⟨_,rfl,g.MARK,_,rfl,.inr (T.FA _),_,rfl,t,_,rfl,ht,fun t1 H1 s1 eJ=>?_⟩;rw [show (([V.int 83,V.int 116,V.int 105,V.int 108].length:Nat):Int)=((4:Nat):Int) from rfl,yD,M.mark] at eJ;refine ⟨_,_,uJ eJ,.inr ⟨g.MARK,_,_,rfl,rfl,T.FA _,.cons (.int _) (.cons (.int _) (.cons (.int _) (.cons (.int _) .nil)))⟩,Cy _,rfl,_,rfl,?_⟩;rw [show (!PyData.eqv (.tuple (tK.map WC)) (.tuple [.int 83,.int 116,.int 105,.int 108]))=false by decide];refine aj ?_;obtain ⟨xc,xb,gc,hsn,him,j6,oY⟩:=M.st;refine ⟨_,rfl,fun r rx gd hrx nrx=>⟨r,rx,_,rfl,Zb,fun a H2 ha k2 qQ ha2=>⟨rfl,?_⟩⟩⟩;have s2:af H1 H2:=fun d o e=>k2 d o (by rw [Ze (Zc e gd),Ze (Zc e hrx)];exact e) (Zc e gd)
 have kT:H1 a=none:=by
  cases hh:H1 a with
  | none=>rfl
  | some o=>
   rw [show (upd (upd H1 rx (.own r)) r (.ins g.Reader rx [])) a=some o by rw [Ze (Zc hh gd),Ze (Zc hh hrx)];exact hh] at ha
   cases ha
 have mF:=s1.trans s2;have Bd:gq g H2 r a p b l D []:=⟨rx,[],qQ,ha2,.nil,nF.same mF⟩
 refine ⟨_,rfl,_,rfl,r,a,p,b,l,D,[],blk,_,rfl,⟨t,rfl,mF _ _ ht⟩,zQ,Bb,Bd,ok,Yt _,fun x hx=>by rw [gc] at hx;cases hx;exact M.wS,?_⟩;rw [gc];intro sv H3 k3 tD tw;have L6:ZB g H3 S sv:=tw H3 fun d o e _=>e;obtain ⟨rj,kv3,L7⟩:=id tD;have kt:∀ {H4},aU a H2 H4->H4 t=some (.tup (blk.map V.int)):=fun k=>k _ _ (mF _ _ ht) (ZD (mF _ _ ht) ha2 (by intro z;cases z));refine ⟨_,rfl,_,rfl,r,a,p,b,l,D,xc,blk,_,rfl,⟨t,rfl,kt k3⟩,zQ,Bb,tD,ok,j6,M.wk,?_⟩;rw [hsn];intro kv H4 k4 hR4 hK4;have Bc:=ZB.b1 L7.ha k4 L6;obtain ⟨p_,AV,uH⟩:=id hR4;refine ⟨_,rfl,_,rfl,_,rfl,r,_,p_,_,_,rfl,uH.ob,T.pE,T.Ki,Zx0 _ _,?_⟩;refine ⟨sv,S,kv,k,_,xb,I,rfl,Bc,hK4,⟨a,AV,rfl,uH.ha,uH.rp⟩,M.so,M.ko,oY,him,fun iv H5 s5 hI5=>?_⟩;have pT:=s5 _ _ (kt (k3.trans k4));refine ⟨_,rfl,_,rfl,t,_,_,_,rfl,rfl,av.of pT,lx (i:=4) (by omega),?_⟩;refine ⟨I,iv,_,rfl,hI5,M.hl,M.pl,fun u H6 s6 hu6=>?_⟩;rw [M.hd] at hu6;obtain ⟨tu,rfl,oR⟩:=hu6;refine ⟨_,rfl,_,_,uJ oR,uJ (s6 _ _ pT),Cy _,Cy _,_,rfl,?_⟩;rw [CQ (Cy _)];refine aj ?_;have w_:=s5.trans s6;obtain ⟨ia,idx,pv,hv,rfl,hi1,hi2,hi3⟩:=jj.mono _ _ _ _ s6 hI5;refine ⟨_,rfl,_,rfl,_,rfl,_,rfl,_,rfl,t,_,_,_,rfl,rfl,av.of (s6 _ _ pT),lx (i:=4) (by omega),_,rfl,ia,_,idx,_,_,rfl,hi1,T.tZ,T.yT,Bs _ _,?_⟩;refine fun q1 qx pV hqx nqx=>⟨q1,qx,_,_,_,_,rfl,Zb,fun H7 k7 AZ=>⟨rfl,?_⟩⟩
 have s7:af H6 H7:=fun d o e=>k7 d o (by rw [Ze (Zc e pV),Ze (Zc e hqx)];exact e) (Zc e pV);refine ⟨_,rfl,fun f fx hf hfx nfx=>⟨f,fx,_,_,_,_,rfl,Zb,fun H8 k8 vn=>⟨rfl,?_⟩⟩⟩;have s8:af H7 H8:=fun d o e=>k8 d o (by rw [Ze (Zc e hf),Ze (Zc e hfx)];exact e) (Zc e hf);have DO:=w_.trans (s7.trans s8)
 have zg:af H H8:=fun d o e=>by
  have e2:=mF _ _ e;have nda:d≠a:=Zc (s1 _ _ e) kT;exact DO _ _ (k4 _ _ (k3 _ _ e2 nda) nda)
 exact q f q1 H8 zg ⟨fx,sv,kv,.ref ia,vn,ZB.mono _ _ _ _ DO Bc,cQ.mono _ _ _ _ DO hK4,⟨qx,pv,s8 _ _ AZ,gJ.mono _ _ _ _ (s7.trans s8) hi2⟩,nF.same zg,⟨ia,idx,pv,hv,rfl,(s7.trans s8) _ _ hi1,gJ.mono _ _ _ _ (s7.trans s8) hi2,ZH.mono _ _ _ _ (s7.trans s8) hi3⟩⟩
inductive cJ (g:Gs) (vs:List V) (H:Hp) (Q:VK) (aD:XK):Prop
 | mk (p:_) (b:_) (l:_) (D:_) (r0:_) (r1:_) (blk:_) (S:_) (k:_) (I:_):vs=[.ref p]->cF g H p b l D->fi D->D.blocks.getD 0 none=some r0->D.blocks.getD 1 none=some r1->we D (jd r0 r1).1 blk S k I->(∀ f q H',af H H'->dm g H' f q p b l (x8 D (jd r0 r1).1 blk S k I)->Q (.ref f) H')->cJ g vs H Q aD
theorem HF:Zm ["disk","slot","files"] ["disk"] (Zi GC):=ZE (by decide +kernel)
theorem Znp (T:Tx K mg g):ah P w K mg base (aw P w) 11 g.fq g.GK ["disk"] (cJ g):=by
 refine T.Zip.aG HF fun vs H Q E h=>?_;obtain ⟨p,b,l,D,r0,r1,blk,S,k,I,rfl,nF,ok,h0,h1,M,q⟩:=h;refine ⟨rfl,fun bg A outer s hr=>?_⟩;have hlen:=M.len
 have gl:∀ (i:Nat) r,D.blocks.getD i none=some r->r.length=64:=fun i r h=>(ok r (by
  rw [Yi] at h
  cases hh:D.blocks[i]? with
  | none=>rw [hh] at h;cases h
  | some z=>rw [hh] at h;cases h;exact Ys hh)).1
 refine ⟨_,Zd (gN YE rfl (vW (Zl (Zlx T) hr.dn rfl T.ZmM T.Kd.kp T.fZ .nil Zg (Za (pv 0) Zf))) (ZG (i:=1) HF.nd rfl (Or.inl rfl))
   (Zd (FI (X:=aV (aw P w) P w K mg base ["disk","slot","files"] "mounted" (Zi GC) g.fq bg A outer s H E) (tb:=fun E=>jw (x9 (eu g) [] E (gu (bA 0) (gu (bA 1) bB))) (k6 2)) (th:=fun _ _ _=>False) rfl rfl rfl rfl T.qm T.ZtR
    (fun pn E' E hE=>Zh (Zt (i:=2) HF.nd rfl (Or.inl rfl) (Zl (Zrk T) hr.dn rfl T.Ztk T.G6.kp T.kQ .nil hE (Za (pv 0) (Za (pv 1) Zf)))))
    (fun a=>ZpV)) (Zh (Zu (pv 2)))))
  (Zh (ZN T.rQ rfl T.qm (Za ZY Zf))),?_⟩
 refine ⟨_,rfl,p,b,l,D,r0,r1,rfl,nF,h0,h1,gl 0 _ h0,gl 1 _ h1,hlen,fun t ht=>?_⟩;refine ⟨t,rfl,⟨_,av.of Zb⟩,?_⟩;have s1:=Zk (o:=.tup [.int (jd r0 r1).1,.int (jd r0 r1).2]) ht;refine BJ (xs:=[.int (jd r0 r1).1,.int (jd r0 r1).2]) (fun i σ H'=>i=0/\σ=[some (.ref p),none,none]/\H'=upd H t (.tup [.int (jd r0 r1).1,.int (jd r0 r1).2])) ⟨rfl,rfl,rfl⟩ (fun i σ H' _ h=>by rw [h.2.2];exact av.of Zb) (fun i x σ H' hx h=>?_) (fun σ H' h=>absurd h.1 (Nat.succ_ne_zero 1));obtain ⟨rfl,rfl,rfl⟩:=h
 cases hx
 refine ⟨_,rfl,_,rfl,p,b,l,D,_,blk,S,k,I,rfl,nF.same s1,ok,M,fun f q1 H2 s2 hF=>⟨_,rfl,q f q1 H2 (s1.trans s2) hF⟩⟩
def eh (r:Row):Prop:=∀ y∈r,0<=y/\y < 256
structure One (cnt:Nat) (pl:Zq):Prop where
 row:∀ r x,aa pl r=some x->∃ n:Int,x=[n]/\r≠[]/\r.length<=63/\eh r/\2<=n/\n < (cnt:Int)
 inj:∀ r s n,aa pl r=some [n]->aa pl s=some [n]->r=s
 nd:(pl.map (·.1)).Nodup
def Ag (old pl:Zq):Prop:=∀ r n,aa pl r=some [n]->aa old r=some [n]∨(aa old r=none/\∀ s,aa old s≠some [n])
structure y6 (cnt:Nat) (old:Zq) (C:cp):Prop where
 oe:C.older=old
 one:One cnt C.places
 oo:One cnt old
 fr:∀ n∈C.free,2<=n/\n < (cnt:Int)/\(∀ r,aa old r≠some [n])/\∀ r,aa C.places r≠some [n]
 fnd:C.free.Nodup
 ag:Ag old C.places
def vO (p q:Zq):Prop:=∀ s x,aa p s=some x->aa q s=some x
theorem vO.trans {p q r:Zq} (h:vO p q) (k:vO q r):vO p r:=fun s x e=>k s x (h s x e)
theorem Zw7 {κ α:Type} [DecidableEq κ] {xs:List (κ×α)} {k:κ} {x:α} (h:(xs.map (·.1)).Nodup) (e:aa xs k=none):((ai xs k x).map (·.1)).Nodup:=by
 unfold ai;rw [wt,e];show ((xs++[(k,x)]).map (·.1)).Nodup;rw [Yz,List.nodup_append];refine ⟨h,by simp,fun a ha b hb=>?_⟩
 have:b=k:=by simpa using hb
 subst this;exact fun z=>yB e (z ▸ ha)
theorem One.put {cnt:Nat} {pl:Zq} (h:One cnt pl) {r:Row} {n:Int} (e:aa pl r=none) (h1:r≠[]) (h2:r.length<=63) (h3:eh r) (h4:2<=n) (h5:n < (cnt:Int)) (h6:∀ s,aa pl s≠some [n]):One cnt (ai pl r [n]):=by
 refine ⟨fun s x hx=>?_,fun a b m ha hb=>?_,Zw7 h.nd e⟩
 .rw [ju] at hx
  split at hx
  .rename_i z
   subst z;exact ⟨n,(Yu hx).symm,h1,h2,h3,h4,h5⟩
  .exact h.row s x hx
 .rw [ju] at ha hb
  split at ha <;> split at hb
  .rename_i z y;rw [z,y]
  .exact absurd (Yu ha ▸ hb) (h6 b)
  .exact absurd (Yu hb ▸ ha) (h6 a)
  .exact h.inj a b m ha hb
theorem Zso {pl:Zq} {r x:Row} (e:aa pl r=none):vO pl (ai pl r x):=fun s y h=>by
 rw [ju]
 split
 .rename_i z;subst z;rw [e] at h;cases h
 .exact h
theorem t9 {cnt:Nat} {old:Zq} {C:cp} {row:Row} (h:y6 cnt old C) (hr:row≠[]) (hl:row.length<=63) (hb:eh row) (hf:0 < C.free.length) :
  ∃ i C',bb C row=.ok (i,C')/\y6 cnt old C'/\aa C'.places row=some [i]/\vO C.places C'.places/\C.free.length<=C'.free.length + 1/\C'.places.length<=C.places.length + 1:=by
 unfold bb;rw [if_neg hr]
 cases h1:aa C.places row with
 | some ns=>
  obtain ⟨n,rfl,_⟩:=h.one.row _ _ h1;exact ⟨n,C,rfl,h,h1,fun _ _ e=>e,Wk _,Wk _⟩
 | none=>
  have hold:=h.oe
  cases h2:aa C.older row with
  | some ns=>
   rw [hold] at h2;obtain ⟨n,rfl,_,_,_,n2,n3⟩:=h.oo.row _ _ h2;refine ⟨n,{C with places:=ai C.places row [n]},rfl,⟨hold,h.one.put h1 hr hl hb n2 n3 fun s e=>?_,h.oo,fun m hm=>?_,h.fnd,fun s m e=>?_⟩,?_,Zso h1,Wk _,ki _ _ _⟩
   .rcases h.ag s n e with z | ⟨_,z⟩
    .rw [h.oo.inj s row n z h2] at e;rw [h1] at e;cases e
    .exact z row h2
   .obtain ⟨a,b,c,d⟩:=h.fr m hm;refine ⟨a,b,c,fun s e=>?_⟩;have e':aa (ai C.places row [n]) s=some [m]:=e;rw [ju] at e'
    split at e'
    .rw [Yu e'] at h2;exact c row h2
    .exact d s e'
   .have e':aa (ai C.places row [n]) s=some [m]:=e;rw [ju] at e'
    split at e'
    .rename_i z;subst z;rw [<- e'];exact .inl h2
    .exact h.ag s m e'
   .show aa (ai C.places row [n]) row=_;rw [ju,if_pos rfl]
  | none=>
   rw [hold] at h2;have zG:0 < row.length:=List.length_pos_iff.mpr hr;have e1:(row.length + 62) / 63=1:=by omega
   rw [e1];unfold pj;rw [if_neg (by omega)]
   cases vm:C.free with
   | nil=>rw [vm] at hf;cases hf
   | cons n rest=>
    obtain ⟨a,b,c,d⟩:=h.fr n (by rw [vm];exact Yw);have El:=h.fnd;rw [vm,WL] at El;refine ⟨n,⟨rest,C.older,ai C.places row [n]⟩,rfl,⟨hold,h.one.put h1 hr hl hb a b d,h.oo,fun m hm=>?_,El.2,fun s m e=>?_⟩,?_,Zso h1,Yf _,ki _ _ _⟩
    .obtain ⟨a',b',c',d'⟩:=h.fr m (by rw [vm];exact Yp _ hm);refine ⟨a',b',c',fun s e=>?_⟩;have e':aa (ai C.places row [n]) s=some [m]:=e;rw [ju] at e'
     split at e'
     .have z:n=m:=by injection (Yu e')
      exact El.1 (z ▸ hm)
     .exact d' s e'
    .have e':aa (ai C.places row [n]) s=some [m]:=e;rw [ju] at e'
     split at e'
     .rename_i z
      subst z;have z:n=m:=by injection (Yu e')
      exact .inr ⟨h2,z ▸ c⟩
     .exact h.ag s m e'
    .show aa (ai C.places row [n]) row=_;rw [ju,if_pos rfl]
theorem wy {C C':cp} {row:Row} {i:Int} (pl:Zq) (hr:row≠[]) (h:bb C row=.ok (i,C')) (e:aa pl row=aa C'.places row):bb ⟨[],pl,C.places⟩ row=.ok (i,⟨[],pl,C'.places⟩):=by
 unfold bb at h ⊢;rw [if_neg hr] at h ⊢
 show (match aa C.places row with
  | some ns=>_
  | none=>match aa pl row with
   | some ns=>_
   | none=>_)=_
 cases h1:aa C.places row with
 | some ns=>rw [h1] at h;cases h;rfl
 | none=>
  rw [h1] at h
  cases h2:aa C.older row with
  | some ns=>
   rw [h2] at h
   cases h
   have e':aa pl row=aa (ai C.places row ns) row:=e;rw [ju,if_pos rfl] at e';rw [e']
  | none=>
   rw [h2] at h;dsimp only at h
   cases ht:pj C ((row.length + 62) / 63) with
   | error r=>rw [ht] at h;cases h
   | ok x=>
    rw [ht] at h
    have hc:x.2.places=C.places:=by
     unfold pj at ht
     split at ht
     .cases ht
     .cases ht;rfl
    cases h
    have e':aa pl row=aa (ai x.2.places row x.1) row:=e;rw [ju,if_pos rfl] at e';rw [e',hc]
def aN:Str:="a"
def ZP:Str:="early"
def eE:aO:=[(aN,1)]
def eR:Row:=ud eE
theorem Fv:eR.length=9:=by decide +kernel
theorem Zzl:eR≠[]/\eR.length<=63/\eh eR:=⟨by decide +kernel,by decide +kernel,by unfold eh;decide +kernel⟩
theorem ZtY (n:Str):gi [n]=[n]:=rfl
def aM (r:Row):aF:=⟨[(1,r)],[(0,eE)]⟩
def eG (ie ir:Int) (r:Row):Row:=kZ 0 (2,eR) ie++kZ 1 (1,r) ir
theorem Zsn {r:Row} {C C1 C2 C3:cp} {ie ir it:Int} (h1:bb C eR=.ok (ie,C1)) (h2:bb C1 r=.ok (ir,C2)) (h3:bb C2 (eG ie ir r)=.ok (it,C3)):j' (aM r) C=.ok ([2,it],C3):=by
 unfold j'
 have e:cq (aM r) (Zx (aM r)) [] C=.ok (eG ie ir r,C2):=by
  show cq (aM r) [0,1] [] C=_;rw [wA,show (cL (aM r) 0).2=eR from rfl,h1];dsimp only;rw [wA,show (cL (aM r) 1).2=r from rfl,h2];rfl
 rw [e];dsimp only;rw [h3];rfl
theorem ZnD {r r0:Row} {free:List Int} {old:Zq} {C1 C2 C3 C4 C5 C6:cp} {ie ir it je jr jt:Int} (h1:bb ⟨free,old,[]⟩ eR=.ok (ie,C1)) (h2:bb C1 r=.ok (ir,C2)) (h3:bb C2 (eG ie ir r)=.ok (it,C3))
  (h4:bb C3 eR=.ok (je,C4)) (h5:bb C4 r0=.ok (jr,C5)) (h6:bb C5 (eG je jr r0)=.ok (jt,C6)):ly (aM r) [(ZP,aM r0)] free old=.ok ⟨C6.places,[2,it]++Z1 ZP++[2,jt]⟩:=by
 unfold ly;rw [Zsn h1 h2 h3];dsimp only;rw [show gi (List.map (fun x=>x.1) [(ZP,aM r0)])=[ZP] from ZtY _,ZpC,show aa [(ZP,aM r0)] ZP=some (aM r0) from Z7 rfl];dsimp only;rw [Zsn h4 h5 h6];rfl
theorem ZxL {ie ir:Int} {r:Row} (h1:0<=ie/\ie < 256) (h2:0<=ir/\ir < 256) (hl:r.length<=40):eG ie ir r≠[]/\(eG ie ir r).length<=63/\eh (eG ie ir r):=by
 refine ⟨by unfold eG kZ;simp,by show 10<=63;decide,fun y hy=>?_⟩;have e9:eR.length=9:=Fv;unfold eG kZ at hy
 simp only [List.mem_append,XF,Y1,or_false,e9] at hy
 omega
structure K1 (cnt:Nat) (old:Zq) (r r0:Row) (I:iA) (ie ir it jr jt:Int):Prop where
 one:One cnt I.places
 ag:Ag old I.places
 len:I.places.length<=6
 heads:I.heads=[2,it]++Z1 ZP++[2,jt]
 he:aa I.places eR=some [ie]
 hr:aa I.places r=some [ir]
 ht:aa I.places (eG ie ir r)=some [it]
 gd:aa I.places r0=some [jr]
 qP:aa I.places (eG ie jr r0)=some [jt]
 sim:∀ pl,aa pl eR=some [ie]->aa pl r=some [ir]->aa pl (eG ie ir r)=some [it]->aa pl r0=some [jr]->aa pl (eG ie jr r0)=some [jt]->ly (aM r) [(ZP,aM r0)] [] pl=.ok I
theorem One.lt {cnt:Nat} {pl:Zq} (h:One cnt pl) (hc:cnt<=256) {r:Row} {n:Int} (e:aa pl r=some [n]):2<=n/\n < (cnt:Int)/\0<=n/\n < 256:=by
 obtain ⟨m,z,_,_,_,a,b⟩:=h.row _ _ e;injection z with z _;omega
structure cu (r:Row):Prop where
 ne:r≠[]
 len:r.length<=40
 jY:eh r
theorem Zqr {cnt:Nat} {old:Zq} {free:List Int} {r r0:Row} (hc:cnt<=256) (h:y6 cnt old ⟨free,old,[]⟩) (hr:cu r) (gd:cu r0) (hf:6<=free.length) :
  ∃ I ie ir it jr jt,ly (aM r) [(ZP,aM r0)] free old=.ok I/\K1 cnt old r r0 I ie ir it jr jt:=by
 have f0:6<=(cp.mk free old []).free.length:=hf;have l0:(cp.mk free old []).places.length=0:=rfl;have rh:eR≠[]/\eR.length<=63/\eh eR:=Zzl;obtain ⟨ie,C1,p1,c1,g1,w1,f1,l1⟩:=t9 h rh.1 rh.2.1 rh.2.2 (by omega);obtain ⟨ir,C2,p2,c2,g2,w2,f2,l2⟩:=t9 c1 hr.ne (by have:=hr.len;omega) hr.jY (by omega);have a1:=c1.one.lt hc g1;have a2:=c2.one.lt hc g2;obtain ⟨t1,t2,t3⟩:=ZxL (ie:=ie) (ir:=ir) (r:=r) (by omega) (by omega) hr.len;obtain ⟨it,C3,p3,c3,g3,w3,f3,l3⟩:=t9 c2 t1 t2 t3 (by omega);obtain ⟨je,C4,p4,c4,g4,w4,f4,l4⟩:=t9 c3 rh.1 rh.2.1 rh.2.2 (by omega)
 have e4:je=ie:=by
  have z:=w4 _ _ (w3 _ _ (w2 _ _ g1));rw [g4] at z;injection (Yu z)
 subst e4;obtain ⟨jr,C5,p5,c5,g5,w5,f5,l5⟩:=t9 c4 gd.ne (by have:=gd.len;omega) gd.jY (by omega);have a5:=c5.one.lt hc g5;obtain ⟨u1,u2,u3⟩:=ZxL (ie:=je) (ir:=jr) (r:=r0) (by omega) (by omega) gd.len;obtain ⟨jt,C6,p6,c6,g6,w6,f6,l6⟩:=t9 c5 u1 u2 u3 (by omega);have w46:=w5.trans w6;have w36:=w4.trans w46;refine ⟨_,je,ir,it,jr,jt,ZnD p1 p2 p3 p4 p5 p6,c6.one,c6.ag,by show C6.places.length<=6;omega,rfl,w46 _ _ g4,w36 _ _ (w3 _ _ g2),w36 _ _ g3,w6 _ _ g5,g6,fun pl q1 q2 q3 q4 q5=>?_⟩;have s1:=wy pl rh.1 p1 (q1.trans g1.symm);have s2:=wy pl hr.ne p2 (q2.trans g2.symm);have s3:=wy pl t1 p3 (q3.trans g3.symm);have s4:=wy pl rh.1 p4 (q1.trans g4.symm);have s5:=wy pl gd.ne p5 (q4.trans g5.symm);have s6:=wy pl u1 p6 (q5.trans g6.symm);have z:=ZnD s1 s2 s3 s4 s5 s6;exact z
theorem ZnH {α:Type} [DecidableEq α] (a:α):∀ xs:List α,xs.Nodup->xs.length<=(xs.filter fun x=>decide (x≠a)).length + 1
 | [],_=>Yt _
 | x::r,h=>by
  rw [WL] at h
  by_cases z:x=a
  .subst z;rw [List.filter_cons_of_neg (by simp)]
   have:r.filter (fun y=>decide (y≠x))=r:=List.filter_eq_self.mpr fun y hy=>by
    have:y≠x:=fun z=>h.1 (z ▸ hy)
    simpa using this
   rw [this];exact Yf _
  .rw [List.filter_cons_of_pos (by simpa using z),Yv,Yv]
   have:=ZnH a r h.2
   omega
theorem Zl4 {α:Type} [DecidableEq α] (xs:List α) (h:xs.Nodup):∀ L:List α,xs.length<=(xs.filter fun x=>!L.contains x).length + L.length
 | []=>by rw [show (xs.filter fun x=>!([]:List α).contains x)=xs from List.filter_eq_self.mpr fun _ _=>rfl];exact Yf _
 | a::L=>by
  have e:(xs.filter fun x=>!(a::L).contains x)=(xs.filter fun x=>!L.contains x).filter fun x=>decide (x≠a):=by
   rw [List.filter_filter]
   congr 1
   funext x
   by_cases z:x=a
   .simp [z]
   .have:(x == a)=false:=by simpa using z
    rw [List.contains_cons,this]
    simp [z]
  have h1:=Zl4 xs h L;have h2:=ZnH a (xs.filter fun x=>!L.contains x) (h.filter _);rw [e,Yv];omega
theorem Ia (c:Int) (pl:Zq):kh c pl=((List.range (c - 2).toNat).map fun (i:Nat)=>(2 + (i:Int))).filter fun n=>!(pl.map (·.2)).flatten.contains n:=by
 unfold kh;generalize List.range (c - 2).toNat=xs
 induction xs with
 | nil=>rfl
 | cons x r ih=>
  rw [Xg,Yx]
  cases hc:(pl.map (·.2)).flatten.contains (2 + (x:Int)) with
  | true=>rw [if_pos rfl,List.filter_cons_of_neg (by rw [hc];decide)];exact ih
  | false=>rw [if_neg (by decide),List.filter_cons_of_pos (by rw [hc];rfl)];dsimp only;rw [ih]
theorem Zun (m:Nat):((List.range m).map fun (i:Nat)=>(2 + (i:Int))).Nodup:=by
 refine List.Pairwise.map _ (fun a b h=>?_) (List.nodup_range (n:=m));intro z;exact h (by omega)
theorem B' {cnt:Nat} {pl:Zq} (h:One cnt pl):(pl.map (·.2)).flatten.length=pl.length/\∀ r n,aa pl r=some [n]->n∈(pl.map (·.2)).flatten:=by
 have mw:∀ p∈pl,∃ n:Int,p.2=[n]:=by
  have key:∀ (xs:Zq),(xs.map (·.1)).Nodup->∀ p∈xs,aa xs p.1=some p.2:=by
   intro xs
   induction xs with
   | nil=>intro _ p hp;cases hp
   | cons q t ih=>
    intro hn p hp;rw [Yx,WL] at hn;rcases List.mem_cons.mp hp with z | z
    .subst z;exact Z7 rfl
    .rw [js (fun e=>hn.1 (e ▸ List.mem_map.mpr ⟨p,z,rfl⟩))];exact ih hn.2 p z
  intro p hp;obtain ⟨n,e,_⟩:=h.row p.1 p.2 (key pl h.nd p hp);exact ⟨n,e⟩
 refine ⟨?_,fun r n e=>?_⟩
 .clear h
  induction pl with
  | nil=>rfl
  | cons q t ih=>
   obtain ⟨n,e⟩:=mw q Yw;rw [Yx,XJ,Yd,e,ih fun p hp=>mw p (Yp _ hp),Yv];show 1 + _=_;exact Nat.add_comm _ _
 .exact List.mem_flatten.mpr ⟨[n],List.mem_map.mpr ⟨_,nU e,rfl⟩,Yw⟩
theorem B4 {cnt:Nat} {pl:Zq} (h:One cnt pl):y6 cnt pl ⟨kh (cnt:Int) pl,pl,[]⟩/\cnt - 2<=(kh (cnt:Int) pl).length + pl.length:=by
 obtain ⟨fl,fm⟩:=B' h;refine ⟨⟨rfl,⟨fun r x e=>(by cases e),fun r s n e=>(by cases e),List.nodup_nil⟩,h,fun n hn=>?_,?_,fun r n e=>by cases e⟩,?_⟩
 .have nr:n∈kh (cnt:Int) pl:=hn;rw [Ia,List.mem_filter] at nr;obtain ⟨h1,h2⟩:=nr;obtain ⟨i,hi,rfl⟩:=List.mem_map.mp h1;rw [List.mem_range] at hi;refine ⟨by omega,by omega,fun r e=>?_,fun r e=>by cases e⟩
  have:=fm r _ e
  rw [YaC] at h2;rw [<- List.contains_iff_mem] at this;rw [this] at h2
  cases h2
 .show (kh (cnt:Int) pl).Nodup;rw [Ia];exact (Zun _).filter _
 .rw [Ia]
  have:=Zl4 ((List.range ((cnt:Int) - 2).toNat).map fun (i:Nat)=>(2 + (i:Int))) (Zun _) (pl.map (·.2)).flatten
  rw [Yb,Xh,fl] at this;omega
def fc (r:Row):Row:=0::(r++List.replicate (63 - r.length) 0)
theorem Zve {r:Row} {n:Int} (h:r.length<=63):nW r [n]=[fc r]:=by
 show [yo r [n] 0]=_;unfold yo rH;rw [Nat.zero_mul,List.drop_zero,YW h];rfl
theorem Zx6 {gp:Zq} {D:aR} {r:Row} {n:Int} (h:r.length<=63):gm gp D (r,[n])=if (aa gp r).isSome then D else D.write n (some (fc r)):=by
 unfold gm FX;dsimp only;rw [Zve h];rfl
def tT (D:aR) (pl:Zq):Prop:=∀ r n,aa pl r=some [n]->D.blocks.getD n.toNat none=some (fc r)
theorem Zsq {α:Type} (xs:List α) (i j:Nat) (a d:α) (h:i < xs.length):(xs.set i a).getD j d=if i=j then a else xs.getD j d:=by
 rw [Yi,Yi]
 by_cases z:i=j
 .subst z;rw [if_pos rfl,YaS h];rfl
 .rw [if_neg z,Yba z]
theorem Zxx {r:Row} (h:r.length<=63) (hb:eh r):(fc r).length=64/\∀ x∈fc r,0<=x/\x < 256:=by
 unfold fc;refine ⟨by rw [Yv,Yd,YC];omega,fun x hx=>?_⟩;rcases List.mem_cons.mp hx with z | z
 .omega
 .rcases List.mem_append.mp z with y | y
  .exact hb x y
  .have:=(List.mem_replicate.mp y).2;omega
theorem fi.write {D:aR} (h:fi D) {n:Int} {b:Row} (hb:b.length=64/\∀ x∈b,0<=x/\x < 256):fi (D.write n (some b)):=fun r hr=>by
 rcases List.mem_or_eq_of_mem_set hr with z | z
 .exact h r z
 .cases z;exact hb
theorem F4 (gp:Zq):∀ (xs:Zq) (D:aR),fi D->(∀ p∈xs,∃ n:Int,p.2=[n]/\p.1.length<=63/\eh p.1/\2<=n/\n < (D.blocks.length:Int))->(xs.map (·.2)).Nodup->
  fi (xs.foldl (gm gp) D)/\(∀ p∈xs,aa gp p.1=none->∀ n:Int,p.2=[n]->(xs.foldl (gm gp) D).blocks.getD n.toNat none=some (fc p.1))/\
   ∀ m:Nat,(∀ p∈xs,aa gp p.1=none->p.2≠[(m:Int)])->(xs.foldl (gm gp) D).blocks.getD m none=D.blocks.getD m none
 | [],D,ok,_,_=>⟨ok,fun p hp=>(nomatch hp),fun m _=>rfl⟩
 | p::xs,D,ok,h,nd=>by
  obtain ⟨n,e,hl,hb,h2,h3⟩:=h p Yw;obtain ⟨r,x⟩:=p;have e':x=[n]:=e;subst e';rw [Yx,WL] at nd;rw [Yai,Zx6 hl]
  cases hs:aa gp r with
  | some y=>
   rw [show (some y).isSome=true from rfl,if_pos rfl];obtain ⟨a,b,c⟩:=F4 gp xs D ok (fun p hp=>h p (Yp _ hp)) nd.2;refine ⟨a,fun p hp hn=>?_,fun m hm=>c m fun p hp=>hm p (Yp _ hp)⟩;rcases List.mem_cons.mp hp with z | z
   .subst z;rw [show aa gp r=none from hn] at hs;cases hs
   .exact b p z hn
  | none=>
   rw [show (none:Option Row).isSome=false from rfl,if_neg (by decide)];have hlen:(D.write n (some (fc r))).blocks.length=D.blocks.length:=WM ..;obtain ⟨a,b,c⟩:=F4 gp xs (D.write n (some (fc r))) (ok.write (Zxx hl hb)) (fun p hp=>by rw [hlen];exact h p (Yp _ hp)) nd.2;have hw:∀ m:Nat,(D.write n (some (fc r))).blocks.getD m none=if n.toNat=m then some (fc r) else D.blocks.getD m none:=fun m=>Zsq _ _ _ _ _ (by omega)
   refine ⟨a,fun p hp hn m hm=>?_,fun m hm=>?_⟩
   .rcases List.mem_cons.mp hp with z | z
    .subst z
     have:n=m:=by injection hm
     subst this;rw [c n.toNat fun p hp _ hz=>nd.1 (List.mem_map.mpr ⟨p,hp,by rw [hz];congr 1;omega⟩),hw,if_pos rfl]
    .exact b p z hn m hm
   .rw [c m fun p hp=>hm p (Yp _ hp),hw,if_neg];intro z;exact hm _ Yw hs (by show [n]=[(m:Int)];congr 1;omega)
theorem Cr {κ α:Type} [DecidableEq κ]:∀ {xs:List (κ×α)},(xs.map (·.1)).Nodup->∀ {p:κ×α},p∈xs->aa xs p.1=some p.2
 | [],_,p,hp=>nomatch hp
 | q::t,hn,p,hp=>by
  rw [Yx,WL] at hn;rcases List.mem_cons.mp hp with z | z
  .subst z;exact Z7 rfl
  .rw [js (fun e=>hn.1 (e ▸ List.mem_map.mpr ⟨p,z,rfl⟩))];exact Cr hn.2 z
theorem One.mem {cnt:Nat} {pl:Zq} (h:One cnt pl) {p:Row×Row} (hp:p∈pl):∃ n:Int,p.2=[n]/\p.1.length<=63/\eh p.1/\2<=n/\n < (cnt:Int):=by
 obtain ⟨n,a,_,b,c,d⟩:=h.row _ _ (Cr h.nd hp);exact ⟨n,a,b,c,d⟩
theorem One.nd2 {cnt:Nat} {pl:Zq} (h:One cnt pl):(pl.map (·.2)).Nodup:=by
 have key:∀ xs:Zq,(∀ p∈xs,aa pl p.1=some p.2)->(xs.map (·.1)).Nodup->(xs.map (·.2)).Nodup:=by
  intro xs
  induction xs with
  | nil=>intro _ _;exact List.nodup_nil
  | cons q t ih=>
   intro hm hn;rw [Yx,WL] at hn ⊢;refine ⟨fun z=>?_,ih (fun p hp=>hm p (Yp _ hp)) hn.2⟩;obtain ⟨p,hp,e⟩:=List.mem_map.mp z;have h1:=hm q Yw;have h2:=hm p (Yp _ hp);obtain ⟨n,a,_⟩:=h.row _ _ h1;have e':p.2=q.2:=e;rw [e',a] at h2;rw [a] at h1;exact hn.1 (List.mem_map.mpr ⟨p,hp,h.inj _ _ _ h2 h1⟩)
 exact key pl (fun p hp=>Cr h.nd hp) h.nd
theorem Zr3 {cnt:Nat} {T:qr} {D:aR} {I:iA} (hT:One cnt T.synced) (hD:tT D T.synced) (hI:One cnt I.places) (ag:Ag T.synced I.places) (hl:D.blocks.length=cnt) (ok:fi D) (hs:T.slot=0∨T.slot=1) (hc:2<=cnt)
  (hb:(ZK I ((T.turn + 1) % 256)).length=64/\∀ x∈ZK I ((T.turn + 1) % 256),0<=x/\x < 256) :
  tT (jk T D I).2 I.places/\fi (jk T D I).2/\(jk T D I).2.blocks.length=cnt/\(jk T D I).2.log.length<=D.log.length + I.places.length + 3/\(jk T D I).2.blocks.getD (1 - T.slot).toNat none=some (ZK I ((T.turn + 1) % 256))/\
   (jk T D I).2.blocks.getD T.slot.toNat none=D.blocks.getD T.slot.toNat none:=by
 obtain ⟨a,b,c⟩:=F4 T.synced I.places D ok (fun p hp=>by rw [hl];exact hI.mem hp) hI.nd2;have bO:∀ p∈I.places,p.2≠[]:=fun p hp=>by obtain ⟨n,e,_⟩:=hI.mem hp;rw [e];simp
 obtain ⟨n1,n2⟩:=BC T.synced I.places D bO;rw [(B' hI).1] at n2;have hw:∀ m:Nat,(jk T D I).2.blocks.getD m none=if (1 - T.slot).toNat=m then some (ZK I ((T.turn + 1) % 256)) else (I.places.foldl (gm T.synced) D).blocks.getD m none:=fun m=>Zsq _ _ _ _ _ (by show _ < (I.places.foldl (gm T.synced) D).blocks.length;omega)
 refine ⟨fun r n e=>?_,?_,?_,?_,?_,?_⟩
 .obtain ⟨n',z,_,_,_,g2,g3⟩:=hI.row _ _ e;injection z with z _;subst z;rw [hw,if_neg (by omega)];have nn:((n.toNat:Nat):Int)=n:=by omega
  rcases ag r n e with q | ⟨q,_⟩
  .rw [c n.toNat fun p hp hn hz=>?_]
   .exact hD r n q
   .rw [nn] at hz
    have:=Cr hI.nd hp
    rw [hz] at this;rcases ag _ _ this with y | ⟨_,y⟩
    .rw [hn] at y;cases y
    .exact y r q
  .exact b (r,[n]) (nU e) q n rfl
 .exact fun r hr=>(a.write hb) r hr
 .show ((I.places.foldl (gm T.synced) D).blocks.set _ _).length=cnt;rw [WM,n1,hl]
 .show ((((I.places.foldl (gm T.synced) D).log++[gz.bar])++[gz.wr _ _])++[gz.bar]).length<=_
  simp only [Yd,Yv,WN]
  omega
 .rw [hw,if_pos rfl]
 .rw [hw,if_neg (by omega),c _ fun p hp _ hz=>?_];obtain ⟨n,e,_,_,g2,_⟩:=hI.mem hp;rw [e] at hz
  have:n=((T.slot.toNat:Nat):Int):=by injection hz
  omega
theorem yd {cnt:Nat} {D:aR} (hl:D.blocks.length=cnt) (hc:cnt<=256):km D=(cnt:Int):=by
 unfold km;rw [hl,if_neg (by omega)]
theorem F2 {cnt:Nat} {D:aR} {pl:Zq} (one:One cnt pl) (hd:tT D pl) (hl:D.blocks.length=cnt) (hc:cnt<=256) {r:Row} {n:Int} (e:aa pl r=some [n]) (q:Zq):md D q n r.length=.ok (r,ai q r [n]):=by
 obtain ⟨n',z,h1,h2,_,g2,g3⟩:=one.row _ _ e;injection z with z _;subst z
 have hb:pB D n=some (fc r):=by
  unfold pB;rw [if_neg (by omega),yd hl hc,if_neg (by omega)];exact hd r n e
 have hp:0 < r.length:=List.length_pos_iff.mpr h1
 have mJ:jl D r.length r.length [] [] n=.ok (r++List.replicate (63 - r.length) 0,[n]):=by
  have key:∀ k,jl D r.length k [n] (r++List.replicate (63 - r.length) 0) 0=.ok (r++List.replicate (63 - r.length) 0,[n]):=fun k=>by
   cases k with
   | zero=>rfl
   | succ k=>
    unfold jl;rw [if_neg (by rw [Yd,YC];omega)]
  obtain ⟨k,hk⟩:∃ k,r.length=k + 1:=⟨r.length - 1,by omega⟩
  have h3:jl D r.length (k + 1) [] [] n=_:=ZsC (by show 0 < r.length;exact hp);rw [hb] at h3;have h4:jl D r.length r.length [] [] n=jl D r.length (k + 1) [] [] n:=by rw [<- hk]
  rw [h4,h3];exact key k
 unfold md;rw [mJ];dsimp only;rw [if_pos hp,List.take_append_of_le_length (Yf _),Xc]
theorem Zm0 {D:aR} {q:Zq} {n i:Int} {t:Int×Row} (h:t.2.length<=600):mW D q (kZ n t i)=md D q i t.2.length:=by
 have e:yq (kZ n t i)=(t.2.length:Int):=by
  show (t.2.length:Int) / 256 * 256 + (t.2.length:Int) % 256=_;omega
 unfold mW;rw [e,if_neg (by omega),YS];rfl
theorem Zoi:pH eR=.ok eE:=by kernel_rfl
theorem Zm1 {cnt:Nat} {D:aR} {pl:Zq} (one:One cnt pl) (hd:tT D pl) (hl:D.blocks.length=cnt) (hc:cnt<=256) {r:Row} {ie ir it:Int} (he:aa pl eR=some [ie]) (hr:aa pl r=some [ir]) (ht:aa pl (eG ie ir r)=some [it]) (q:Zq) :
  j4 D q [2,it]=.ok (aM r,ai (ai (ai q (eG ie ir r) [it]) eR [ie]) r [ir]):=by
 obtain ⟨_,_,_,l2,_⟩:=one.row _ _ he;obtain ⟨_,_,_,l3,_⟩:=one.row _ _ hr;have h1:md D q it 10=.ok (eG ie ir r,ai q (eG ie ir r) [it]):=F2 one hd hl hc ht q;unfold j4;have e:(([2,it]:Row).getD 0 0 * 5).toNat=10:=rfl;rw [e,show ([2,it]:Row).getD 1 0=it from rfl,h1];show lr D 2 (eG ie ir r) ⟨[],[]⟩ (ai q (eG ie ir r) [it])=_;rw [CA,show (eG ie ir r).take 5=kZ 0 (2,eR) ie from rfl,Zm0 (by show eR.length<=600;omega),show ((2:Int),eR).2.length=eR.length from rfl,F2 one hd hl hc he];dsimp only;rw [show (eG ie ir r).getD 1 0=2 from rfl,if_neg (by decide),Zoi];dsimp only;rw [CA,show ((eG ie ir r).drop 5).take 5=kZ 1 (1,r) ir from rfl,Zm0 (by show r.length<=600;omega),show ((1:Int),r).2.length=r.length from rfl,F2 one hd hl hc hr];dsimp only;rw [show ((eG ie ir r).drop 5).getD 1 0=1 from rfl,if_pos rfl];rfl
theorem CB:Z1 ZP=[31,27,44,38,51,0,0,0]:=by decide +kernel
theorem Zp7:pA (Z1 ZP)=.ok ZP:=by kernel_rfl
theorem Fo:Z4 aN=true:=by decide +kernel
theorem Cs:Z4 ZP=true:=by decide +kernel
def rn (t it jt c0 c1 c2 c3:Int):Row:=[83,116,105,108,t,2,it,31,27,44,38,51,0,0,0,2,jt,0,0,0,0,0,0,0,0,0,0,0,0,0,0,0,0,0,0,0,0,c0,c1,c2,c3,0,0,0,0,0,0,0,0,0,0,0,0,0,0,0,0,0,0,0,0,0,0,0]
theorem ZuO {I:iA} {it jt:Int} (h:I.heads=[2,it]++Z1 ZP++[2,jt]) (t:Int):∃ c0 c1 c2 c3:Int,ZK I t=rn t it jt c0 c1 c2 c3/\(0<=c0/\c0 < 256)/\(0<=c1/\c1 < 256)/\(0<=c2/\c2 < 256)/\(0<=c3/\c3 < 256):=by
 rw [CB] at h;obtain ⟨pl,hd⟩:=I;have h':hd=[2,it,31,27,44,38,51,0,0,0,2,jt]:=h;subst h';have hs:∀ rows,0<=rP rows/\rP rows < 4294967291:=fun rows=>⟨XN _ (by decide),Xy _ (by decide)⟩
 have hz:=hs (nP ⟨pl,[2,it,31,27,44,38,51,0,0,0,2,jt]⟩ t::(iA.mk pl [2,it,31,27,44,38,51,0,0,0,2,jt]).places.map (·.1));refine ⟨_,_,_,_,rfl,?_,?_,?_,?_⟩
 all_goals
  constructor <;> omega
theorem ZvZ {t it jt c0 c1 c2 c3:Int} (ht:0<=t/\t < 256) (hi:0<=it/\it < 256) (hj:0<=jt/\jt < 256) (h0:0<=c0/\c0 < 256) (h1:0<=c1/\c1 < 256) (h2:0<=c2/\c2 < 256) (h3:0<=c3/\c3 < 256):(rn t it jt c0 c1 c2 c3).length=64/\∀ x∈rn t it jt c0 c1 c2 c3,0<=x/\x < 256:=by
 refine ⟨rfl,fun x hx=>?_⟩;unfold rn at hx
 simp only [XF,Y1,or_false] at hx
 omega
theorem Zpn {r:Row} (h:cu r):rC (aM r):=by
 have hl:=h.len;refine ⟨rfl,by show 2 < 64;decide,fun n hn=>?_,fun p hp=>?_,fun p hp=>?_,by show 1<=10000;decide,rfl,fun p hp=>?_,⟨[0,1],rfl,rfl⟩⟩
 .have nr:n∈([0,1]:List Int):=hn
  simp only [XF,Y1,or_false] at nr
  omega
 .have oZ:p∈[((1:Int),r)]:=hp;rw [List.mem_singleton.mp oZ];show r.length<=600;omega
 .have oZ:p∈[((0:Int),eE)]:=hp;rw [List.mem_singleton.mp oZ];refine ⟨by decide,fun q hq=>?_⟩;have nq:q∈[(aN,(1:Int))]:=hq;rw [List.mem_singleton.mp nq];exact Fo
 .have oZ:p∈[((0:Int),eE)]:=hp;rw [List.mem_singleton.mp oZ];show List.count (0:Int) [1]<=1
  decide
theorem ym {r:Row} (h:cu r):eZ (aM r):=by
 have hl:=h.len;refine ⟨by show 2 < 64;decide,fun n x e=>?_,fun n es e=>?_⟩
 .have hm:(n,x)∈[((1:Int),r)]:=nU e
  cases List.mem_singleton.mp hm
  omega
 .have hm:(n,es)∈[((0:Int),eE)]:=nU e
  cases List.mem_singleton.mp hm
  refine ⟨by decide,fun q hq=>?_⟩;have nq:q∈[(aN,(1:Int))]:=hq;rw [List.mem_singleton.mp nq];exact Fo
theorem Zuk {r:Row} (h:cu r):kf [(ZP,aM r)]:=by
 refine ⟨by show 1<=3;decide,fun n S e=>?_⟩;have hm:(n,S)∈[(ZP,aM r)]:=nU e
 cases List.mem_singleton.mp hm
 exact ⟨Cs,ym h⟩
def kC (pl I:Zq):Prop:=∀ s x,aa pl s=some x->aa I s=some x
theorem kC.put {pl I:Zq} (h:kC pl I) {k y:Row} (e:aa I k=some y):kC (ai pl k y) I:=fun s x hx=>by
 rw [ju] at hx
 split at hx
 .rename_i z;subst z;rw [<- hx];exact e
 .exact h s x hx
theorem kC.at {pl I:Zq} (h:kC pl I) {s y:Row} (e:aa I s=some y) (hs:(aa pl s).isSome=true):aa pl s=some y:=by
 cases hh:aa pl s with
 | none=>rw [hh] at hs;cases hs
 | some x=>rw [<- e];exact (h s x hh).symm
theorem j3 {pl:Zq} {k y s:Row} (h:k=s∨(aa pl s).isSome=true):(aa (ai pl k y) s).isSome=true:=by
 rw [ju]
 split
 .rfl
 .rcases h with z | z
  .rename_i n;exact absurd z.symm n
  .exact z
theorem Zut {cnt:Nat} {old:Zq} {D:aR} {r r0:Row} {I:iA} {ie ir it jr jt slot t:Int} (hc:cnt<=256) (h2:2<=cnt) (J:K1 cnt old r r0 I ie ir it jr jt) (hd:tT D I.places) (hl:D.blocks.length=cnt) (hs:slot=0∨slot=1) (hb:D.blocks.getD slot.toNat none=some (ZK I t)) (hr:cu r) (gd:cu r0) :
  we D slot (ZK I t) (aM r) [(ZP,aM r0)] I/\(ZK I t).getD 4 0=t:=by
 obtain ⟨c0,c1,c2,c3,e,_⟩:=ZuO J.heads t;have r1:=Zm1 J.one hd hl hc J.he J.hr J.ht [];have r2:=fun q=>Zm1 J.one hd hl hc J.he J.gd J.qP q
 have hn:∀ q,mh D (ZK I t) [7,17,27] [] q=.ok ([(ZP,aM r0)],ai (ai (ai q (eG ie jr r0) [jt]) eR [ie]) r0 [jr]):=fun q=>by
  rw [e,Zm2,show (rn t it jt c0 c1 c2 c3).getD (7 + 8) 0=2 from rfl,if_pos (by decide),show ((rn t it jt c0 c1 c2 c3).drop (7 + 8)).take 2=[2,jt] from rfl,r2];dsimp only;rw [show ((rn t it jt c0 c1 c2 c3).drop 7).take 8=Z1 ZP by rw [CB];rfl,Zp7];rfl
 have g4:(ZK I t).getD 4 0=t:=by rw [e];rfl
 have sA:kC (ai (ai (ai (ai (ai (ai [] (eG ie ir r) [it]) eR [ie]) r [ir]) (eG ie jr r0) [jt]) eR [ie]) r0 [jr]) I.places:=(((((kC.put (fun s x h=>by cases h) J.ht).put J.he).put J.hr).put J.qP).put J.he).put J.gd;refine ⟨⟨hb,hs,by omega,by rw [e];rfl,⟨_,_,(by rw [e];exact r1),hn _,J.sim _ ?_ ?_ ?_ ?_ ?_,?_,?_⟩,Zpn hr,fun n hn hp eI x hx=>?_,ym hr,Zuk gd,by rw [g4],?_,?_⟩,g4⟩
 .exact sA.at J.he (j3 (.inr (j3 (.inl rfl))))
 .exact sA.at J.hr (j3 (.inr (j3 (.inr (j3 (.inr (j3 (.inl rfl))))))))
 .exact sA.at J.ht (j3 (.inr (j3 (.inr (j3 (.inr (j3 (.inr (j3 (.inr (j3 (.inl rfl))))))))))))
 .exact sA.at J.gd (j3 (.inl rfl))
 .exact sA.at J.qP (j3 (.inr (j3 (.inr (j3 (.inl rfl))))))
 .refine Yn (Yn (ki _ _ _) (YN (Yn (ki _ _ _) (YN (ki _ _ _))))) ?_;show 3<=2000
  decide
 .intro p hp z
  have hx:∀ (q:Zq),(∀ p∈q,p.2≠[])->∀ (k:Row) (n:Int),∀ p∈ai q k [n],p.2≠[]:=fun q hq k n p hp=>by
   rcases Ca hp with y | y
   .exact hq p y
   .rw [y];simp
  exact hx _ (hx _ (hx _ (hx _ (hx _ (hx _ (fun p hp=>absurd hp Y1) _ _) _ _) _ _) _ _) _ _) _ _ p hp z
 .rw [e] at hp hx;rcases List.mem_cons.mp hn with z | z
  .subst z;rw [show ((rn t it jt c0 c1 c2 c3).drop (7 + 8)).take 2=[2,jt] from rfl,r2] at hx
   cases hx
   exact Zpn gd
  .rcases List.mem_cons.mp z with z | z
   .subst z;exact absurd hp (by show ¬ (0:Int) < 0;decide)
   .rw [List.mem_singleton.mp z] at hp;exact absurd hp (by show ¬ (0:Int) < 0;decide)
 .rw [J.heads,CB];show 12<=1000;decide
 .have:=J.len;omega
structure LI (cnt:Nat) (r0 r:Row) (F:cH):Prop where
 s:F.S=aM r
 k:F.k=[(ZP,aM r0)]
 hr:cu r
 gd:cu r0
 c:60<=cnt/\cnt<=100
 one:One cnt F.T.synced
 pl:F.T.synced.length<=6
 j_:tT F.D F.T.synced
 len:F.D.blocks.length=cnt
 ok:fi F.D
 slot:F.T.slot=0∨F.T.slot=1
 turn:0<=F.T.turn/\F.T.turn < 256
 cur:∃ b,F.D.blocks.getD F.T.slot.toNat none=some b/\b.getD 4 0=F.T.turn
def kF (cnt:Nat) (r0 r:Row) (F:cH):Prop:=∃ ie ir it jr jt,K1 cnt F.T.synced r r0 F.I ie ir it jr jt
theorem ZtJ {cnt:Nat} {r0 r r':Row} {F:cH} (L:LI cnt r0 r F) (hr:cu r'):∃ I,k_ F (aM r') F.k=.ok ⟨aM r',F.k,F.T,F.D,I⟩/\LI cnt r0 r' ⟨aM r',F.k,F.T,F.D,I⟩/\kF cnt r0 r' ⟨aM r',F.k,F.T,F.D,I⟩:=by
 have hc:=L.c;have hp:=L.pl;obtain ⟨c1,c2⟩:=B4 L.one;obtain ⟨I,ie,ir,it,jr,jt,e,J⟩:=Zqr (by omega) c1 hr L.gd (by omega);refine ⟨I,?_,⟨rfl,L.k,hr,L.gd,L.c,L.one,L.pl,L.j_,L.len,L.ok,L.slot,L.turn,L.cur⟩,ie,ir,it,jr,jt,J⟩;unfold k_ mj;rw [yd L.len (by omega),L.k,e]
def m_ (r:Row) (i:Nat) (b:Int):Row:=(r++List.replicate (i - r.length) 0).take i++[b]++r.drop (i + 1)
theorem ZxI {r:Row} (h:cu r) {i:Nat} (hi:i < 40) {b:Int} (hb:0<=b/\b < 256):cu (m_ r i b):=by
 have hl:=h.len;refine ⟨by unfold m_;simp,?_,fun y hy=>?_⟩
 .unfold m_;rw [Yd,Yd,YH,Yd,YC,YB];show _ + 1 + _<=40;omega
 .unfold m_ at hy;rcases List.mem_append.mp hy with z | z
  .rcases List.mem_append.mp z with z | z
   .rcases List.mem_append.mp (Xn z) with z | z
    .exact h.jY y z
    .have:=(List.mem_replicate.mp z).2;omega
   .rw [List.mem_singleton.mp z];exact hb
  .exact h.jY y (X6 z)
def cG (F:cH):cH:=⟨F.S,F.k,(jk F.T F.D F.I).1,(jk F.T F.D F.I).2,F.I⟩
theorem Zpx {cnt:Nat} {r0 r:Row} {F:cH} (L:LI cnt r0 r F) (J:kF cnt r0 r F):LI cnt r0 r (cG F)/\(cG F).D.log.length<=F.D.log.length + 9/\
  ∃ b0 b1 blk,(cG F).D.blocks.getD 0 none=some b0/\(cG F).D.blocks.getD 1 none=some b1/\(∀ lg,we ⟨(cG F).D.blocks,lg⟩ (jd b0 b1).1 blk (aM r) [(ZP,aM r0)] F.I)/\
   ∀ lg,x8 ⟨(cG F).D.blocks,lg⟩ (jd b0 b1).1 blk (aM r) [(ZP,aM r0)] F.I=⟨(cG F).S,(cG F).k,(cG F).T,⟨(cG F).D.blocks,lg⟩,(cG F).I⟩:=by
 obtain ⟨ie,ir,it,jr,jt,J⟩:=J;have hc:=L.c;have hl:=J.len;have ht:0<=(F.T.turn + 1) % 256/\(F.T.turn + 1) % 256 < 256:=⟨by omega,by omega⟩
 obtain ⟨c0,c1,c2,c3,e,k0,k1,k2,k3⟩:=ZuO J.heads ((F.T.turn + 1) % 256);have bt:=J.one.lt (by omega) J.ht;have bj:=J.one.lt (by omega) J.qP;have hb:=ZvZ ht (it:=it) (jt:=jt) (by omega) (by omega) k0 k1 k2 k3;rw [<- e] at hb;obtain ⟨s1,s2,s3,s4,s5,s6⟩:=Zr3 L.one L.j_ J.one J.ag L.len L.ok L.slot (by omega) hb;obtain ⟨b,hb1,tq⟩:=L.cur;rw [hb1] at s6;have g4:(ZK F.I ((F.T.turn + 1) % 256)).getD 4 0=(F.T.turn + 1) % 256:=by rw [e];rfl
 have htn:=L.turn;refine ⟨⟨L.s,L.k,L.hr,L.gd,L.c,J.one,J.len,s1,s3,s2,?_,ht,_,s5,g4⟩,?_,?_⟩
 .show 1 - F.T.slot=0∨1 - F.T.slot=1;rcases L.slot with z | z
  .exact .inr (by omega)
  .exact .inl (by omega)
 .show (jk F.T F.D F.I).2.log.length<=_;omega
 .have mk:∀ lg,we ⟨(cG F).D.blocks,lg⟩ (1 - F.T.slot) (ZK F.I ((F.T.turn + 1) % 256)) (aM r) [(ZP,aM r0)] F.I:=fun lg=>(Zut (D:=⟨(cG F).D.blocks,lg⟩) (by omega) (by omega) J s1 s3 (by rcases L.slot with z | z <;> omega) s5 L.hr L.gd).1
  have fin:∀ b0 b1,(jd b0 b1).1=1 - F.T.slot->(∀ lg,we ⟨(cG F).D.blocks,lg⟩ (jd b0 b1).1 (ZK F.I ((F.T.turn + 1) % 256)) (aM r) [(ZP,aM r0)] F.I)/\
    ∀ lg,x8 ⟨(cG F).D.blocks,lg⟩ (jd b0 b1).1 (ZK F.I ((F.T.turn + 1) % 256)) (aM r) [(ZP,aM r0)] F.I=⟨(cG F).S,(cG F).k,(cG F).T,⟨(cG F).D.blocks,lg⟩,(cG F).I⟩:=fun b0 b1 hn=>by
   rw [hn];refine ⟨mk,fun lg=>?_⟩;unfold x8;rw [g4];show cH.mk _ _ _ _ _=cH.mk F.S F.k _ _ _;rw [L.s,L.k];rfl
  rcases L.slot with z | z
  .rw [z] at s5 s6;refine ⟨b,_,_,s6,s5,fin _ _ ?_⟩;unfold jd;rw [g4,tq,if_pos (by omega),z];rfl
  .rw [z] at s5 s6;refine ⟨_,b,_,s5,s6,fin _ _ ?_⟩;unfold jd;rw [g4,tq,if_neg (by omega),z];rfl
theorem Zuj (cnt:Nat):One cnt []:=⟨fun r x e=>(by cases e),fun r s n e=>(by cases e),List.nodup_nil⟩
theorem Zxi {I:iA} {t:Int} (h:I.heads.length<=32) (hb:eh I.heads) (ht:0<=t/\t < 256):(ZK I t).length=64/\(∀ x∈ZK I t,0<=x/\x < 256)/\(ZK I t).getD 4 0=t:=by
 have hr:(nP I t).length=37:=by
  have e5:(tK++[t]++I.heads).length=5 + I.heads.length:=by rw [Yd];rfl
  unfold nP c8;rw [Yd,YC,e5];omega
 have hm:∀ x∈nP I t,0<=x/\x < 256:=fun x hx=>by
  unfold nP c8 tK at hx
  simp only [List.mem_append,XF,Y1,or_false,List.mem_replicate] at hx
  rcases hx with (z | z) | z
  .omega
  .exact hb x z
  .omega
 have hs:∀ rows,0<=rP rows/\rP rows < 4294967291:=fun rows=>⟨XN _ (by decide),Xy _ (by decide)⟩
 have hz:=hs (nP I t::I.places.map (·.1));refine ⟨?_,fun x hx=>?_,rfl⟩
 .unfold ZK c8;rw [Yd,YC,Yd,hr];show 37 + 4 + (64 - ((37 + 4:Nat):Int)).toNat=64;rfl
 .unfold ZK c8 Hl at hx
  simp only [List.mem_append,XF,Y1,or_false,List.mem_replicate] at hx
  rcases hx with (z | z) | z
  .exact hm x z
  .omega
  .omega
structure LB (cnt:Nat) (F:cH):Prop where
 c:60<=cnt/\cnt<=100
 one:One cnt F.T.synced
 pl:F.T.synced.length<=6
 j_:tT F.D F.T.synced
 len:F.D.blocks.length=cnt
 ok:fi F.D
 slot:F.T.slot=0∨F.T.slot=1
 turn:0<=F.T.turn/\F.T.turn < 256
 cur:∃ b,F.D.blocks.getD F.T.slot.toNat none=some b/\b.getD 4 0=F.T.turn
theorem LI.b {cnt:Nat} {r0 r:Row} {F:cH} (L:LI cnt r0 r F):LB cnt F:=⟨L.c,L.one,L.pl,L.j_,L.len,L.ok,L.slot,L.turn,L.cur⟩
theorem LB.free {cnt:Nat} {F:cH} (L:LB cnt F):50<=(kh (km F.D) F.T.synced).length:=by
 have:=L.c
 have:=L.pl
 rw [yd L.len (by omega)]
 have:=(B4 L.one).2
 omega
theorem LB.AK {cnt:Nat} {F:cH} (L:LB cnt F):vI F.T.synced:=by
 have:=L.pl
 refine ⟨by omega,fun p hp=>?_,by rw [(B' L.one).1];omega⟩;obtain ⟨n,e,_⟩:=L.one.mem hp;rw [e];simp
theorem One.sf {cnt:Nat} {D:aR} {I:iA} (h:One cnt I.places) (hl:I.places.length<=6) (hh:I.heads.length<=1000) (hD:D.blocks.length=cnt):xZ D I:=by
 refine ⟨by omega,hh,fun p hp=>?_,by rw [(B' h).1];omega⟩;obtain ⟨n,e,_,_,h2,h3⟩:=h.mem hp;rw [e,hD];exact ⟨by simp,by show 1<=1000;decide,fun m hm=>by rw [List.mem_singleton.mp hm];omega⟩
theorem Zwx:ud []=[]:=rfl
theorem Zrz {cnt:Nat} {free:List Int} (h:y6 cnt [] ⟨free,[],[]⟩) (hf:1<=free.length):∃ I n,ly ZR [] free []=.ok I/\One cnt I.places/\Ag [] I.places/\I.places.length<=6/\I.heads=[1,n]/\2<=n/\n < (cnt:Int):=by
 obtain ⟨n,C,p,c,g,_,_,l⟩:=t9 (row:=[0,2,0,0,0]) h (by simp) (by decide) (by unfold eh;decide) hf;have l':C.places.length<=1:=l;obtain ⟨m,z,_,_,_,a,b⟩:=c.one.row _ _ g;injection z with z _;subst z
 have e:j' ZR ⟨free,[],[]⟩=.ok ([1,n],C):=by
  unfold j'
  have e1:cq ZR (Zx ZR) [] ⟨free,[],[]⟩=.ok ([0,2,0,0,0],⟨free,[],[]⟩):=by
   show cq ZR [0] [] _=_;rw [wA,show (cL ZR 0).2=[] from Zwx];show cq ZR [] ([]++kZ 0 (cL ZR 0) 0) _=_;rw [FV,show cL ZR 0=(2,[]) by rw [<- Zwx];rfl];rfl
  rw [e1];dsimp only;rw [p];rfl
 refine ⟨⟨C.places,[1,n]⟩,n,?_,c.one,c.ag,by show C.places.length<=6;omega,rfl,a,b⟩;unfold ly;rw [e];rfl
def iJ (cnt:Nat):aR:=⟨List.replicate cnt (some gj),[]⟩
theorem ZtE:gj.length=64/\∀ x∈gj,0<=x/\x < 256:=⟨YC ..,fun x hx=>by have:=(List.mem_replicate.mp hx).2;omega⟩
theorem ZrC {cnt:Nat} (hc:60<=cnt/\cnt<=100):∃ F,BK (iJ cnt)=.ok F/\F.S=ZR/\F.k=[]/\LB cnt F/\F.D.log.length<=20/\∀ I,mj lu ((iJ cnt).write 1 (some gj)) ZR []=.ok I->xZ ((iJ cnt).write 1 (some gj)) I:=by
 have hlen:((iJ cnt).write 1 (some gj)).blocks.length=cnt:=(WM ..).trans (YC ..)
 have ak:fi ((iJ cnt).write 1 (some gj)):=fi.write (fun r hr=>by
  have:=(List.mem_replicate.mp hr).2
  cases this
  exact ZtE) ZtE
 obtain ⟨c1,c2⟩:=B4 (Zuj cnt);have c2':cnt - 2<=(kh (cnt:Int) []).length:=c2;obtain ⟨I,n,e,o1,ag,o2,o3,n2,n3⟩:=Zrz c1 (by omega)
 have e':mj lu ((iJ cnt).write 1 (some gj)) ZR []=.ok I:=by
  unfold mj;rw [yd hlen (by omega)];exact e
 have hb:=Zxi (I:=I) (t:=(lu.turn + 1) % 256) (by rw [o3];show 2<=32;decide) (by rw [o3];intro y hy;simp only [XF,Y1,or_false] at hy;omega) (by decide);obtain ⟨s1,s2,s3,s4,s5,s6⟩:=Zr3 (T:=lu) (Zuj cnt) (fun r n e=>by cases e) o1 ag hlen ak (.inr rfl) (by omega) ⟨hb.1,hb.2.1⟩;refine ⟨⟨ZR,[],(jk lu ((iJ cnt).write 1 (some gj)) I).1,(jk lu ((iJ cnt).write 1 (some gj)) I).2,I⟩,?_,rfl,rfl,⟨hc,o1,o2,s1,s3,s2,by exact .inl rfl,by show (0:Int)<=(255 + 1) % 256/\(255 + 1:Int) % 256 < 256;decide,_,s5,hb.2.2⟩,?_,fun I' h=>?_⟩
 .unfold BK;rw [e']
 .refine Yn s4 ?_;show 1 + I.places.length + 3<=20;omega
 .rw [e'] at h
  cases h
  exact o1.sf o2 (by rw [o3];show 2<=1000;decide) hlen
def sE:aF:=⟨[(1,[])],[(0,eE)]⟩
theorem ZpS {cnt:Nat} {F:cH} (L:LB cnt F) (hk:F.k=[]) {S:aF} (h:((Zx S).map fun n=>jo (cL S n).2).sum + (5 * (Zx S).length + 62) / 63<=50):∃ I,k_ F S F.k=.ok ⟨S,F.k,F.T,F.D,I⟩/\LB cnt ⟨S,F.k,F.T,F.D,I⟩:=by
 obtain ⟨I,e⟩:=Zqs (S:=S) (free:=kh (km F.D) F.T.synced) (older:=F.T.synced) (Yn h L.free);refine ⟨I,?_,L.c,L.one,L.pl,L.j_,L.len,L.ok,L.slot,L.turn,L.cur⟩;unfold k_ mj;rw [hk,e]
theorem ZwU:((Zx sE).map fun n=>jo (cL sE n).2).sum + (5 * (Zx sE).length + 62) / 63<=50:=by
 show (jo eR + (jo [] + 0)) + (5 * 2 + 62) / 63<=50;unfold jo;rw [Fv]
 decide
theorem ZvB {r:Row} (h:cu r):((Zx (aM r)).map fun n=>jo (cL (aM r) n).2).sum + (5 * (Zx (aM r)).length + 62) / 63<=50:=by
 have:=h.len
 show (jo eR + (jo r + 0)) + (5 * 2 + 62) / 63<=50;unfold jo;rw [Fv];omega
theorem ZsH {r:Row} (h:cu r):pG sE 1 0 r=.ok (aM r):=by
 have:=h.len
 unfold pG;rw [show kg sE 1=.ok [] from rfl];dsimp only;rw [if_neg (by omega),if_neg h.ne];show Except.ok (aF.mk [(1,([]:Row).take 0++r++([]:Row).drop _)] _)=_;rw [List.drop_nil,Y0];rfl
theorem ZqZ {r:Row} {i:Nat} (hi:i < 40) (b:Int):pG (aM r) 1 (i:Int) [b]=.ok (aM (m_ r i b)):=by
 unfold pG;rw [show kg (aM r) 1=.ok r from rfl];dsimp only;rw [if_neg (by show ¬ (600 < (i:Int) + 1);omega),if_neg (by simp)];show Except.ok (aF.mk [(1,(c8 r (i:Int)).take (i:Int).toNat++[b]++r.drop ((i:Int) + 1).toNat)] _)=_;rw [YS,show ((i:Int) + 1).toNat=i + 1 by omega];unfold c8 m_;rw [show ((i:Int) - (r.length:Int)).toNat=i - r.length by omega];rfl
theorem ZsJ {cnt:Nat} {r0 r:Row} {F:cH} (L:LI cnt r0 r F) {i:Nat} (hi:i < 40) {b:Int} (hb:0<=b/\b < 256):∃ F',wa F 1 (i:Int) [b]=.ok F'/\LI cnt r0 (m_ r i b) F'/\kF cnt r0 (m_ r i b) F'/\F'.D=F.D:=by
 obtain ⟨I,h1,h2,h3⟩:=ZtJ L (ZxI L.hr hi hb);refine ⟨_,?_,h2,h3,rfl⟩;unfold wa;rw [L.s,ZqZ hi];exact h1
theorem ZtZ {cnt:Nat} {r:Row} {F:cH} (L:LB cnt F) (hk:F.k=[]) (hs:F.S=aM r) (hr:cu r):∃ F',BF F ZP=.ok F'/\LI cnt r r F'/\F'.D=F.D:=by
 have hc:=L.c;have hp:=L.pl;obtain ⟨c1,c2⟩:=B4 L.one;obtain ⟨I,ie,ir,it,jr,jt,e,J⟩:=Zqr (by omega) c1 hr hr (by omega);refine ⟨⟨aM r,[(ZP,aM r)],F.T,F.D,I⟩,?_,⟨rfl,rfl,hr,hr,L.c,L.one,L.pl,L.j_,L.len,L.ok,L.slot,L.turn,L.cur⟩,rfl⟩;unfold BF;rw [if_pos Cs,hk,if_neg (by intro z;cases z),if_neg (by show ¬ 3<=0;decide),hs];show k_ F (aM r) [(ZP,aM r)]=_;unfold k_ mj;rw [yd L.len (by omega),e]
theorem Zv5 (b l:Addr):(bC b l).length < 1000:=by
 unfold bC;exact YL (ml _ _ _) (YL (YN (ml _ _ _)) (by decide))
inductive jO (g:Gs) (vs:List V) (H:Hp) (Q:VK) (aD:XK):Prop
 | mk (a:_) (vb:_) (bs:_):vs=[.ref a]->H a=some (.lst vb)->Wg (fun v o=>l_ H o v) vb bs->(∀ p b l H',af H H'->cF g H' p b l ⟨bs,[]⟩->Q (.ref p) H')->jO g vs H Q aD
theorem Zm7:Zm ["blocks","disk"] ["blocks"] (Zi ZpP):=ZE (by decide +kernel)
theorem Zta (T:Tx K mg g):ah P w K mg base (aw P w) 3 g.FQ g.GS ["blocks"] (jO g):=by
 refine T.Gu.aG Zm7 fun vs H Q E h=>?_;obtain ⟨a,vb,bs,rfl,ha,hp,q⟩:=h;refine ⟨rfl,fun _ _ _ _ hr=>?_⟩
 refine ⟨_,(Zd (Zt (i:=1) Zm7.nd rfl (Or.inl rfl) (lA T.Zuv (Zj7 T) hr.dn rfl T.Zwu T.eY .nil Zg (Za (Zs (v:=.int 16) rfl T.Zfq ⟨_,rfl⟩) Zf)))
  (Zd (ee (pv 1) (lC Zkk rfl T.wb PyProof.Rows.Boot.«list» (Za (pv 0) Zf)) rfl)
  (Zh (Zu (pv 1))))),?_⟩
 intro x dx hx ny ne;have s0:af H (upd (upd H dx (.own x)) x (.ins g.aX dx [])):=fun d o e=>by rw [Ze (Zc e hx),Ze (Zc e ny)];exact e
 refine ⟨x,dx,16,rfl,Zb,(fun z=>absurd z (by omega)),fun _ _ b l vb0 H1 hb hl hD k1=>⟨rfl,?_⟩⟩;have s1:af H H1:=fun d o e=>k1 _ _ (s0 _ _ e) (Zc e hx);obtain ⟨⟨j9,lV⟩,_,dg,_,hil,ne1⟩:=hD;refine ⟨_,rfl,a,_,rfl,.inl (ay.of (s1 _ _ ha)),fun c hc=>?_⟩;have s2:=Zk (o:=.lst vb) hc;refine ⟨_,rfl,x,_,j9,_,rfl,s2 _ _ lV,T.iy,T.wX,Zv5 _ _,?_⟩;rw [Zv4];have nxc:c≠x:=(Zc lV hc).symm;have nxl:l≠x:=ZD dg lV (by intro z;cases z);have ncl:c≠l:=(Zc dg hc).symm
 have si:∀ d o,H d=some o->(upd (upd H1 c (.lst vb)) x (.ins g.aX j9 (bC c l))) d=some o:=fun d o e=>by
  rw [Ze (Zc e hx)];exact s2 _ _ (s1 _ _ e)
 refine ⟨_,rfl,q x c l _ si ⟨j9,vb,[],Zb,by rw [Ze nxc];exact Zb,by rw [Ze nxl];exact s2 _ _ dg,mV (fun _ _ z=>l_.keep (fun t xs e=>si _ _ e) z) hp,.nil,ncl⟩⟩
inductive kH (g:Gs) (vs:List V) (H:Hp) (Q:VK) (aD:XK):Prop
 | mk (f:_) (q:_) (p:_) (b:_) (l:_) (F:_):vs=[.ref f]->dm g H f q p b l F->xZ F.D F.I->(F.T.slot=0∨F.T.slot=1)->2<=F.D.blocks.length->F.D.log.length<=40000->(∀ H',(∀ d o,H d=some o->d≠b->d≠l->d≠q->H' d=some o)->dm g H' f q p b l (cG F)->Q .aH H')->kH g vs H Q aD
theorem Zob:Zm ["self"] ["self"] (Zi ZjU):=ZE (by decide +kernel)
theorem Zow (T:Tx K mg g):ah P w K mg base (aw P w) 9 g.He g.Jg ["self"] (kH g):=by
 refine T.Zkp.aG Zob fun vs H Q E h=>?_;obtain ⟨f,q0,p,b,l,F,rfl,⟨dx,sv,kv,iv,hF⟩,io,hs,h2,n_,q⟩:=h;refine ⟨rfl,fun _ _ _ _ hr=>?_⟩
 refine ⟨_,(Zd (ZJ (rM (pv 0) T.Zz T.Z6 (Z0 T) hr.dn T.aB .nil Zg))
  (Zh (ZJ (ZQ (Zp (pv 0) rfl) T.fu T.Zke (ZhU T) hr.dn T.dQ .nil Zg (Za (Zp (pv 0) rfl) Zf))))),?_⟩
 refine ⟨_,rfl,f,dx,_,rfl,hF.ob,gL _ _ _ _,f,dx,_,_,_,_,rfl,hF.ob,.inr ⟨⟨q0,rfl⟩,?_⟩⟩;obtain ⟨dw,y,hq,hy⟩:=id hF.sF;refine ⟨_,rfl,f,_,dx,_,_,rfl,hF.ob,T.Zz,T.CT,E7 _ _ _ _,q0,dw,_,rfl,hq,yg _ _ _ _,_,rfl,f,_,dx,_,_,rfl,hF.ob,T.Zz,T.JC,Zzk _ _ _ _,?_⟩;refine ⟨q0,p,b,l,F.T,F.D,iv,F.I,rfl,hF.sF,hF.j_,hF.Ea,io,hs,h2,n_,fun H' k hS hD=>q H' k ?_⟩;obtain ⟨Bl,vb,vl,c7⟩:=id hF.j_;have kl:∀ d o,H d=some o->rB o->H' d=some o:=fun d o e n=>k d o e (fun z=>by subst z;rw [c7.hb] at e;cases e;exact n.1 _ rfl) (fun z=>by subst z;rw [c7.hl] at e;cases e;exact n.1 _ rfl) (fun z=>by subst z;rw [hq] at e;cases e;exact n.2 _ _ _ _ _ _ rfl);have nf:H' f=some (.ins g.au dx (cn sv kv (.ref q0) iv)):=kl _ _ hF.ob (GP "state" (mQ _ _ _ _) (by decide +kernel) (by decide +kernel) (by decide +kernel) (by decide +kernel));exact ⟨dx,sv,kv,iv,nf,hF.st.ls kl,hF.ke.ls kl,hS,hD,hF.Ea.ls kl⟩
inductive rW (g:Gs) (vs:List V) (H:Hp) (Q:VK) (aD:XK):Prop
 | mk (f:_) (dx:_) (sv:_) (kv:_) (t:_) (i:_) (k:_) (n:_) (S:_):vs=[.ref f,.str n]->H f=some (.ins g.au dx (cn sv kv t i))->cQ g H k kv->Z4 n=true->n.length<=1000->aa k n=some S->(∀ u ux v H',af H H'->H' u=some (.ins g.au ux (cn v kv .aH .aH))->ZB g H' S v->Q (.ref u) H')->rW g vs H Q aD
theorem ZpJ:Zm ["self","name"] ["self","name"] (Zi Zlm):=ZE (by decide +kernel)
theorem Zj6 (T:Tx K mg g):ah P w K mg base (aw P w) 3 g.Gz g.Iq ["self","name"] (rW g):=by
 refine T.Zml.aG ZpJ fun vs H Q E h=>?_;obtain ⟨f,dx,sv,kv,t,i,k,n,S,rfl,hf,hk,hn,hl,hg,q⟩:=h;refine ⟨rfl,fun _ _ _ _ hr=>?_⟩;have hu:=u1 hr.units
 refine ⟨_,(Zd (ZJ (Zl (ZhS T) hr.dn rfl T.Zkc T.CH.kp T.dO .nil Zg (Za (pv 1) Zf)))
  (Zd (ZJ (ZQ (pv 0) T.Zz T.Zh7 (ZgP T) hr.dn T.de .nil Zg (Za (pv 1) Zf)))
  (Zh (Zu (lA T.F9 (JG T) hr.dn rfl T.BN T.bX .nil Zg (Za (kn hu (Zp (pv 0) rfl) (pv 1) (fun _ _=>rfl)) (Za (Zp (pv 0) rfl) (Za yj (Za yj Zf))))))))),?_⟩
 refine ⟨_,rfl,n,rfl,hl,?_⟩;unfold yC;rw [if_pos hn];intro v1 H1 s1 _;refine ⟨_,rfl,f,dx,_,rfl,s1 _ _ hf,gL _ _ _ _,_,rfl,f,dx,sv,kv,t,i,k,n,rfl,s1 _ _ hf,cQ.mono _ _ _ _ s1 hk,hl,?_⟩;rw [hg];intro v2 H2 s2 _;have mF:=s1.trans s2;have sZ:=mF _ _ hf;obtain ⟨a,kvs,rfl,ha,hd⟩:=cQ.mono _ _ _ _ mF hk;obtain ⟨sv',jf,hv2⟩:=hd.yes (fun _ _ z=>YaD z) hg;refine ⟨_,rfl,f,_,dx,_,_,rfl,sZ,T.Zz,T.Z3,qc _ _ _ _,_,rfl,a,sv',rfl,?_,?_⟩
 .exact jf ▸ aE.k ha (k:=.inr n)
 refine ⟨_,rfl,f,_,dx,_,_,rfl,sZ,T.Zz,T.Z3,qc _ _ _ _,fun u ux hu0 hux nux=>⟨u,ux,_,_,_,_,rfl,Zb,fun H3 k3 xu=>⟨rfl,?_⟩⟩⟩;have s3:af H2 H3:=fun d o e=>k3 d o (by rw [Ze (Zc e hu0),Ze (Zc e hux)];exact e) (Zc e hu0);exact q u ux sv' H3 (mF.trans s3) xu (ZB.mono _ _ _ _ s3 hv2)
abbrev Bv (p:Str×Int):YO:=.tuple [.str p.1,.int p.2]
theorem Zqo {H:Hp}:∀ {es:aO} {as:List Addr},as.length=es.length->(∀ (j:Nat) a (p:Str×Int),as[j]?=some a->es[j]?=some p->H a=some (.tup [.str p.1,.int p.2]))->dv H (as.map V.ref) (es.map Bv)
 | [],[],_,_=>.nil
 | p::es,a::as,hl,h=>.cons (.tup (h 0 a p rfl rfl) (.cons (.str _) (.cons (.int _) .nil))) (Zqo (by simpa using hl) fun j b q hb hq=>h (j + 1) b q (by simpa using hb) (by simpa using hq))
theorem Zsk (H:Hp):∀ ns:List Int,dv H (ns.map V.int) (ns.map WC)
 | []=>.nil
 | n::r=>.cons (.int n) (Zsk H r)
def vR (S:aF) (n:Int):YO:=match aa S.ent n with
 | some es=>.list ((d3 es).map Bv)
 | none=>.list ((((aa S.dat n).getD []).take 700).map WC)
def kr (S:aF) (n:Int):Option YO:=if gw S n then some (.tuple [.int n,.tuple [.str (kindOf S n),.int (yw S n),.int (yl S n)],vR S n]) else none
def iz (S:aF) (m:Nat):List YO:=(List.range m).filterMap fun (i:Nat)=>kr S (i:Int)
theorem Zm5 (S:aF) (m:Nat):iz S (m + 1)=iz S m++(kr S (m:Int)).toList:=by
 unfold iz;rw [List.range_succ,List.filterMap_append]
 congr 1
theorem at0 (a:V) (xs:List V):ji (a::xs) 0=some a:=v7 (by decide) rfl
theorem Md:decide (V.str "dir"=V.str "file")=false:=by decide +kernel
structure oj (S:aF):Prop where
 ok:eZ S
 nm:(lh S).length<=100000
 dj:∀ n,(aa S.ent n).isSome=true->aa S.dat n=none
theorem ZpF {H H' H2 H3:Hp} {U t1 l x:Addr} {ys xs:List V} {ds:List YO} {S:aF} {i:Nat} {kd:Str} {lk sz:Int} (s1:af H H') (hU:H U=none) (hy:H' U=some (.lst ys)) (u_:ys.length<=i) (hj:mn H U H' ys (iz S i)) (s2:af H' H2) (eJ:H2 t1=some (.tup [.str kd,.int lk,.int sz]))
  (s3:af H2 H3) (hl:H2 l=none) (kU:H3 l=some (.lst xs)) (hx:H3 x=none) (hd:kr S i=some (.tuple [.int i,.tuple [.str kd,.int lk,.int sz],.list ds])) (hjs:∀ iB,(∀ a xs,H3 a=some (.tup xs)->iB a=some (.tup xs))->dv iB xs ds) :
  af H (upd (upd H3 x (.tup [.int i,.ref t1,.ref l])) U (.lst (ys++[.ref x])))/\∃ zs,(upd (upd H3 x (.tup [.int i,.ref t1,.ref l])) U (.lst (ys++[.ref x]))) U=some (.lst zs)/\zs.length<=i + 1/\mn H U (upd (upd H3 x (.tup [.int i,.ref t1,.ref l])) U (.lst (ys++[.ref x]))) zs (iz S (i + 1)):=by
 have DQ:=s2.trans s3;have xr:=DQ _ _ hy;have nx:x≠U:=(Zc xr hx).symm;have nt:t1≠U:=ZD (s3 _ _ eJ) xr (by intro z;cases z);have nl:l≠U:=fun z=>by rw [z,s2 _ _ hy] at hl;cases hl
 have fl:H l=none:=Cj (s1.trans s2) hl;have kk:∀ a o,H3 a=some o->a≠U->(upd (upd H3 x (.tup [.int i,.ref t1,.ref l])) U (.lst (ys++[.ref x]))) a=some o:=fun a o e n=>by rw [Ze n,Ze (Zc e hx)];exact e
 refine ⟨fun a o e=>kk _ _ (DQ _ _ (s1 _ _ e)) (Zc e hU),_,Zb,by rw [Yd];exact YN u_,?_⟩;rw [Zm5,hd];refine (hj.on fun a o e n=>kk _ _ (DQ _ _ e) n).snoc fun iB k=>?_;have kt:∀ a xs,H3 a=some (.tup xs)->iB a=some (.tup xs):=fun a xs e=>k _ _ (kk _ _ e (ZD e xr (by intro z;cases z))) (ZD e xr (by intro z;cases z)) (.inl ⟨_,rfl⟩);exact .tup (k _ _ ((Ze nx).trans Zb) nx (.inl ⟨_,rfl⟩)) (.cons (.int _) (.cons (.tup (kt _ _ (s3 _ _ eJ)) (.cons (.str _) (.cons (.int _) (.cons (.int _) .nil)))) (.cons (.lst (k _ _ (kk _ _ kU nl) nl (.inr ⟨fl,_,rfl⟩)) (hjs iB kt)) .nil)))
inductive lJ (g:Gs) (vs:List V) (H:Hp) (Q:VK) (aD:XK):Prop
 | mk (f:_) (dx:_) (sv:_) (k:_) (t:_) (i:_) (S:_):vs=[.ref f]->H f=some (.ins g.au dx (cn sv k t i))->ZB g H S sv->oj S->(∀ U H',af H H'->H U=none->Du H H' (.ref U) (.list (iz S 32))->Q (.ref U) H')->lJ g vs H Q aD
theorem wY:Zm ["_law_files","_law_found","_law_number","_law_one"] ["_law_files"] (Zi JV):=ZE (by decide +kernel)
theorem CW (T:Tx K mg g):ah P w K mg base (aw P w) 5 g.bW g.bZ ["_law_files"] (lJ g):=by
 refine T.wN.aG wY fun vs H Q E h=>?_;obtain ⟨f,dx,sv,k,t,i0,S,rfl,hf,hS,so,q⟩:=h;refine ⟨rfl,fun bg A outer s hr=>?_⟩
 refine ⟨_,(Zd (Zt (i:=1) wY.nd rfl (Or.inl rfl) (mf Zf))
  (Zd (gN YE rfl (yE rfl T.rK (Za Zo Zf)) (ZG (i:=2) wY.nd rfl (Or.inl rfl)) (Zd (Zt (i:=3) wY.nd rfl (Or.inl rfl) yj)
  (Zd (FI (X:=aV (aw P w) P w K mg base ["_law_files","_law_found","_law_number","_law_one"] "_law_shown" (Zi JV) g.bW bg A outer s H E) (tb:=fun E=>jw (Bq g.au "stat" (iO g) [] E (bA 0) (gu (bA 2) bB)) (k6 3)) rfl rfl rfl rfl T.Ck T.ZtQ
  (fun pn E' E hE=>(Zh (Zt (i:=3) wY.nd rfl (Or.inl rfl) (ZQ (pv 0) T.Zz T.Zqv (Zox T) hr.dn T.i5 .nil hE (Za (pv 2) Zf)))))
  (fun a=>(Zh (Zt (i:=3) wY.nd rfl (Or.inl rfl) yj))))
  (Zh (ZZ (PW.pt (Zx2 (fo (Zud (pv 3))) (ZwX (ZI nJ (d_ jn (pv 3) Zo (fun _ _=>rfl)) ZY (ZU _))))) (Zh (ZJ (kc YR Y7 Y6 pI (pv 1) (Za (ed (Za (pv 2) (Za (pv 3) (Za (ZQ (pv 0) T.Zz T.Zqx (Zoz T) hr.dn T.i7 .nil Zg (Za (pv 2) (Za Zo (Za Zo Zf)))) Zf)))) Zf)))) (Zh (ZZ (fo (Zud (pv 3))) (Zh (ZJ (kc YR Y7 Y6 pI (pv 1) (Za (ed (Za (pv 2) (Za (pv 3) (Za (ZQ (pv 0) T.Zz T.ZoT (ZmH T) hr.dn T.gG .nil Zg (Za (pv 2) Zf)) Zf)))) Zf)))) Zy)))))))
  (Zh (Zu (pv 1))))),?_⟩
 refine ⟨a9 0,fun U hU=>?_⟩;have sU:=Zk (o:=.lst []) hU;refine ⟨32,rfl,by decide,by decide,?_⟩;refine GV (fun i σ H'=>(∃ o2 o3,σ=[some (.ref f),some (.ref U),o2,o3])/\af H H'/\∃ ys,H' U=some (.lst ys)/\ys.length<=i/\mn H U H' ys (iz S i)) ⟨⟨_,_,rfl⟩,sU,[],Zb,Yt _,fun H' _=>.nil⟩ (fun i σ H' hi h=>?_) (fun σ H' h=>?_)
 .obtain ⟨⟨o2,o3,rfl⟩,s1,ys,hy,u_,hj⟩:=h;have qS:=s1 _ _ hf;have xP:=ZB.mono _ _ _ _ s1 hS;refine ⟨_,rfl,f,dx,_,rfl,qS,gL _ _ _ _,_,rfl,f,dx,sv,k,t,i0,S,_,rfl,qS,xP,so.nm,?_⟩;rw [show (0:Int) + ((i:Nat):Int)=(i:Int) by omega]
  cases hb:gw S (i:Int) with
  | false=>
   rw [if_neg (by decide)];intro H2 s2;refine ⟨g.bE,rfl,T.Zq4,fun a na=>?_⟩;have s3:=s2.trans (Zk (o:=uZ a (.ref g.bE)) na);refine ⟨_,rfl,_,rfl,aj (aj ⟨_,rfl,_,rfl,aj ⟨⟨_,_,rfl⟩,s1.trans s3,ys,s3 _ _ hy,by omega,?_⟩⟩)⟩;rw [Zm5,show kr S (i:Int)=none by unfold kr;rw [hb];rfl];refine mn.on ?_ (fun a o e _=>s3 a o e);rw [Option.toList_none,Y0];exact hj
  | true=>
   rw [if_pos rfl];intro t1 H2 s2 eJ;have pZ:kr S (i:Int)=some (.tuple [.int i,.tuple [.str (kindOf S i),.int (yw S i),.int (yl S i)],vR S i]):=by unfold kr;rw [hb];rfl
   have mF:=s1.trans s2;have sZ:=mF _ _ hf;have jX:=ZB.mono _ _ _ _ mF hS;have nt:t1≠U:=ZD eJ (s2 _ _ hy) (by intro z;cases z)
   cases hE:aa S.ent (i:Int) with
   | none=>
    have hk:kindOf S i="file":=by unfold kindOf;rw [hE];rfl
    rw [hk] at eJ pZ;refine ⟨_,rfl,_,rfl,ao ⟨_,rfl,t1,_,_,_,rfl,rfl,av.of eJ,at0 _ _,rfl,_,rfl,?_⟩⟩;rw [decide_eq_true rfl];refine ao ⟨_,rfl,.inl ⟨rfl,_,ay.of (s2 _ _ hy)⟩,_,rfl,_,rfl,_,rfl,f,dx,_,rfl,sZ,gL _ _ _ _,_,rfl,f,dx,sv,k,t,i0,S,_,0,700,rfl,sZ,jX,by decide,by decide,?_⟩;have LS:kg S (i:Int)=.ok ((aa S.dat (i:Int)).getD []):=by unfold kg;rw [hb,if_pos rfl,hE]
    rw [LS];intro l H3 s3 hl kU;have Ei:vR S i=.list ((((aa S.dat (i:Int)).getD []).take 700).map WC):=by unfold vR;rw [hE]
    have hz:ys.length < Yj:=YD (show ys.length < 100 by omega) (by decide);refine ⟨a9 3,fun x hx=>⟨U,ys,_,rfl,rfl,Zk hx _ _ (s3 _ _ (s2 _ _ hy)),hz,⟨_,_,rfl⟩,?_⟩⟩;rw [Ei] at pZ;exact ZpF s1 hU hy u_ hj s2 eJ s3 hl kU hx pZ fun iB _=>Zsk _ _
   | some es=>
    have hk:kindOf S i="dir":=by unfold kindOf;rw [hE];rfl
    rw [hk] at eJ pZ;refine ⟨_,rfl,_,rfl,ao ⟨_,rfl,t1,_,_,_,rfl,rfl,av.of eJ,at0 _ _,rfl,_,rfl,?_⟩⟩;rw [Md];refine aj ⟨_,rfl,_,rfl,ao ⟨_,rfl,.inl ⟨rfl,_,ay.of (s2 _ _ hy)⟩,_,rfl,_,rfl,_,rfl,f,dx,_,rfl,sZ,gL _ _ _ _,_,rfl,f,dx,sv,k,t,i0,S,_,rfl,sZ,jX,so.ok,?_⟩⟩;have LR:uc S (i:Int)=.ok es:=by unfold uc;rw [hb,if_pos rfl,so.dj _ (by rw [hE];rfl),hE];rfl
    rw [LR];intro l H3 s3 hl ⟨as,kU,hlen,hp⟩;have Ei:vR S i=.list ((d3 es).map Bv):=by unfold vR;rw [hE]
    have hz:ys.length < Yj:=YD (show ys.length < 100 by omega) (by decide);refine ⟨a9 3,fun x hx=>⟨U,ys,_,rfl,rfl,Zk hx _ _ (s3 _ _ (s2 _ _ hy)),hz,⟨_,_,rfl⟩,?_⟩⟩;rw [Ei] at pZ;exact ZpF s1 hU hy u_ hj s2 eJ s3 hl kU hx pZ fun iB kt=>Zqo hlen fun j a p ha he=>kt _ _ (hp j a p ha he)
 .obtain ⟨⟨o2,o3,rfl⟩,s1,ys,hy,u_,hj⟩:=h;exact ⟨_,rfl,q U H' s1 hU (hj.fin hy hU)⟩
def z0 (S:aF) (k:Kept):List YO:=.list (iz S 32)::(gi (k.map (·.1))).map fun n=>.tuple [.str n,.list (iz ((aa k n).getD ⟨[],[]⟩) 32)]
inductive rX (g:Gs) (vs:List V) (H:Hp) (Q:VK) (aD:XK):Prop
 | mk (f:_) (dx:_) (sv:_) (kv:_) (t:_) (i:_) (S:_) (k:_):vs=[.ref f]->H f=some (.ins g.au dx (cn sv kv t i))->ZB g H S sv->oj S->cQ g H k kv->k.length < 64->(∀ n∈k.map (·.1),Z4 n=true/\n.length<=1000/\∃ S',aa k n=some S'/\oj S')->(∀ R H',af H H'->Jm H' (.ref R) (.list (z0 S k))->Q (.ref R) H')->rX g vs H Q aD
theorem ZiF:Zm ["_law_files"] ["_law_files"] (Zi Ku):=ZE (by decide +kernel)
theorem ZdP (T:Tx K mg g):ah P w K mg base (aw P w) 6 g.bz g.bc ["_law_files"] (rX g):=by
 refine T.Dq.aG ZiF fun vs H Q E h=>?_;obtain ⟨f,dx,sv,kv,t,i,S,k,rfl,hf,hS,so,hk,iu,hn,q⟩:=h;refine ⟨rfl,fun _ _ _ _ hr=>?_⟩;refine ⟨_,(Zh (Zu (ZC Fq (mf (Za (Zl (CW T) hr.dn rfl T.C_ T.wN.kp T.bw .nil Zg (Za (pv 0) Zf)) Zf)) (mT (own:=["_law_name"]) (fv:=["_law_files"]) (ix:=[0]) (Z8 (sc:=Zi Ku) (N:=["_law_files"]) rfl rfl (by decide +kernel)) rfl (rL (rM (pv 0) T.Zz T.ZoS (ZmG T) hr.dn T.gF .nil Zg)) (fun _ _ _ _ _=>ZG (i:=0) (show (["_law_name","_law_files"]:List Str).Nodup from by decide +kernel) rfl (Or.inl rfl) (Or.inr rfl)) (fun _ _ _ _ _=>mU) (fun _ _ _ _ _=>(ed (Za (pv 0) (Za (Zl (CW T) hr.dn rfl T.C_ T.wN.kp T.bw .nil e_ (Za (ZQ (pv 1) T.Zz T.Zl0 (Zj6 T) hr.dn T.eX .nil e_ (Za (pv 0) Zf)) Zf)) Zf)))))))),?_⟩;refine ⟨_,rfl,f,dx,sv,kv,t,i,S,rfl,hf,hS,so,fun U H1 s1 hU hJ=>?_⟩;refine ⟨a9 1,fun L hL=>?_⟩;have s2:=s1.trans (Zk (o:=.lst [.ref U]) hL);have pd:=Zb (H:=H1) (a:=L) (o:=.lst [.ref U]);have Bf:=hJ.jm.keep (Zk (o:=.lst [.ref U]) hL);generalize upd H1 L (.lst [.ref U])=H2 at s2 pd Bf ⊢;refine ⟨_,rfl,f,dx,_,rfl,s2 _ _ hf,gL _ _ _ _,f,dx,sv,kv,t,i,k,rfl,s2 _ _ hf,cQ.mono _ _ _ _ s2 hk,iu,fun l H3 s3 hl kU=>?_⟩;refine ⟨l,rfl,⟨_,ay.of kU⟩,fun D hD=>?_⟩;have hlen:(gi (k.map (·.1))).length < 64:=by rw [(Cz _).length_eq,Yb];exact iu
 refine Zxu (xs:=(gi (k.map (·.1))).map V.str) _ (fun j ys H'=>mn H3 D H' ys (((gi (k.map (·.1))).take j).map fun n=>.tuple [.str n,.list (iz ((aa k n).getD ⟨[],[]⟩) 32)])) kU hD (by rw [Yb];exact Yn (W3 hlen) (by decide)) (fun H' _=>.nil) (fun j x ys H' N hx s4 xR hj hN=>?_) (fun ys H' s4 xR hj=>?_)
 .have s24:=(s2.trans s3).trans s4;have sY:=s24 _ _ hf;rw [Yo] at hx
  cases iq:(gi (k.map (·.1)))[j]? with
  | none=>rw [iq] at hx;cases hx
  | some nm=>
   rw [iq] at hx
   cases hx
   obtain ⟨n1,n2,S',hg,AF⟩:=hn nm ((Cz _).mem_iff.mp (Ys iq));refine ⟨_,rfl,_,rfl,f,dx,_,rfl,sY,gL _ _ _ _,_,rfl,f,dx,sv,kv,t,i,k,nm,S',rfl,sY,cQ.mono _ _ _ _ s24 hk,n1,n2,hg,fun u ux v H5 s5 hu hv=>?_⟩;refine ⟨u,ux,v,kv,.aH,.aH,S',rfl,hu,hv,AF,fun U' H6 s6 qV hJ'=>⟨a9 2,fun z hz=>?_⟩⟩;have w_:=s5.trans s6;have s57:=w_.trans (Zk (o:=.tup [.str nm,.ref U']) hz);have nzD:z≠D:=(Zc (w_ _ _ xR) hz).symm;refine hN _ _ s57 ?_;rw [List.take_add_one,iq,Yz];refine (hj.on fun a o e n=>by rw [Ze n];exact s57 _ _ e).snoc fun iB kk=>?_;show Jm iB _ (.tuple [.str nm,.list (iz ((aa k nm).getD ⟨[],[]⟩) 32)]);rw [hg];refine .tup (kk _ _ ((Ze nzD).trans Zb) nzD (.inl ⟨_,rfl⟩)) (.cons (.str _) (.cons (hJ' iB fun a o e dt=>?_) .nil))
   have ni:a≠D:=fun y=>by
    subst y;rw [w_ _ _ xR] at e
    cases e
    rcases dt with ⟨_,y⟩ | ⟨y,_⟩
    .cases y
    .rw [s5 _ _ xR] at y;cases y
   exact kk _ _ (by show (upd _ _ _) a=_;rw [Ze ni];exact Zk hz _ _ e) ni (dt.imp id fun y=>⟨Cj (s4.trans s5) y.1,y.2⟩)
 .have qI:=s3.trans s4;refine ⟨L,D,_,_,rfl,rfl,qI _ _ pd,xR,?_,fun R hR=>q R _ (((s2.trans qI)).trans (Zk hR)) (.lst Zb (.cons ((Bf.keep qI).keep (Zk hR)) ?_))⟩
  .have:=(hj H' fun _ _ e _ _=>e).len
   rw [this,Yb,YH];exact Yn (show 1 + _<=100 by rw [Yb];omega) (by decide)
  .have:=hj (upd H' R (.lst ([.ref U]++ys))) fun a o e _ _=>Zk hR a o e
   rw [Yb,Xc] at this;exact this
set_option maxHeartbeats 8000000
theorem Flat.lst {k:Nat} {ds:List YO} (h:∀ d∈ds,Flat k d):Flat (k + 1) (.list ds):=by
 obtain ⟨h1,h2⟩:=B0 h;exact ⟨h1,YN h2⟩
theorem ZO {k:Nat} {d:YO} {ds:List YO} (h:Flat k d) (t:∀ x∈ds,Flat k x):∀ x∈d::ds,Flat k x:=List.forall_mem_cons.mpr ⟨h,t⟩
theorem qi {k:Nat}:∀ x∈([]:List YO),Flat k x:=fun _ h=>absurd h Y1
theorem Zt0 (r:Row):iz (aM r) 32=[.tuple [.int 0,.tuple [.str "dir",.int 1,.int 10],.list [Bv (aN,1)]],.tuple [.int 1,.tuple [.str "file",.int 1,.int (r.length:Nat)],.list ((r.take 700).map WC)]]:=by kernel_rfl
theorem HM (r:Row):∀ d∈iz (aM r) 32,Flat 3 d:=by
 rw [Zt0];refine ZO (Flat.tup (ZO ((pF _).mono (by decide)) (ZO ((Flat.tup (k:=0) (ZO (B1 (by decide +kernel)) (ZO (pF _) (ZO (pF _) qi)))).mono (by decide)) (ZO (Flat.lst (k:=1) (ZO (Flat.tup (k:=0) (ZO (B1 (by decide +kernel)) (ZO (pF _) qi))) qi)) qi)))) (ZO (Flat.tup (ZO ((pF _).mono (by decide)) (ZO ((Flat.tup (k:=0) (ZO (B1 (by decide +kernel)) (ZO (pF _) (ZO (pF _) qi)))).mono (by decide)) (ZO ((Flat.lst (k:=0) fun d hd=>?_).mono (by decide)) qi)))) qi);obtain ⟨i,_,rfl⟩:=List.mem_map.mp hd;exact pF i
theorem JI (r:Row):Xe (.list (iz (aM r) 32))=true:=Ii (HM r) (by decide)
theorem HG (r r0:Row):Xe (.list (z0 (aM r) [(ZP,aM r0)]))=true:=Ii (k:=5) (ZO ((Flat.lst (HM r)).mono (by decide)) (by
 show ∀ x∈[PyData.tuple [.str ZP,.list (iz ((aa [(ZP,aM r0)] ZP).getD ⟨[],[]⟩) 32)]],Flat 5 x;rw [show aa [(ZP,aM r0)] ZP=some (aM r0) from Z7 rfl];exact ZO (Flat.tup (k:=4) (ZO ((B1 (by decide +kernel)).mono (by decide)) (ZO (Flat.lst (HM r0)) qi))) qi)) (by decide)
theorem yk {r:Row} (h:cu r):oj (aM r):=⟨ym h,by show 1<=100000;decide,fun n e=>by
 by_cases z:(0:Int)=n
 .subst z;rfl
 .rw [show aa (aM r).ent n=aa [((0:Int),eE)] n from rfl,js z] at e;cases e⟩
def Kp (b l:Addr) (H H':Hp):Prop:=∀ d o,H d=some o->d≠b->d≠l->(∀ C dx fs,o≠.ins C dx fs)->H' d=some o
theorem Kp.trans {b l:Addr} {H H1 H2:Hp} (h:Kp b l H H1) (k:Kp b l H1 H2):Kp b l H H2:=fun d o e n1 n2 n3=>k _ _ (h _ _ e n1 n2 n3) n1 n2 n3
theorem Kp.same {b l:Addr} {H H':Hp} (s:af H H'):Kp b l H H':=fun d o e _ _ _=>s _ _ e
def qF (b l:Addr) (H:Hp) (v:V) (d:YO):Prop:=∀ H',Kp b l H H'->Jm H' v d
def wZ (K:Yg) (b l:Addr) (H:Hp) (a:Addr) (xs:List V):Prop:=∀ H',Kp b l H H'->ay K H' a xs
theorem dm.gb {H H':Hp} {f q p b l:Addr} {F:cH} (h:dm g H f q p b l F) (k:aU f H H'):Kp b l H H':=fun d o e _ _ n=>k _ _ e (fun z=>by
 obtain ⟨dx,sv,kv,iv,h⟩:=h;subst z;rw [h.ob] at e;cases e;exact n _ _ _ rfl)
theorem dm.sP {H H':Hp} {f q p b l:Addr} {F:cH} (h:dm g H f q p b l F) (k:∀ d o,H d=some o->d≠b->d≠l->d≠q->H' d=some o):Kp b l H H':=fun d o e n1 n2 n=>k _ _ e n1 n2 (fun z=>by
 obtain ⟨dx,sv,kv,iv,h⟩:=h;obtain ⟨jh,y,hq,_⟩:=h.sF;subst z;rw [hq] at e;cases e;exact n _ _ _ rfl)
theorem ZuS {H:Hp} {f q x b l:Addr} {F:cH} {cnt:Nat} {r0 r:Row} (hF:dm g H f q x b l F) (L:LI cnt r0 r F) {i:Nat} (hi:i < 40) {bt:Int} (hb:0<=bt/\bt < 256) {a:Addr} (ha:H a=some (.lst [.int bt])) {Q:VK} {E:XK}
  (k:∀ F' H',LI cnt r0 (m_ r i bt) F'->kF cnt r0 (m_ r i bt) F'->F'.D=F.D->Kp b l H H'->dm g H' f q x b l F'->Q (.int 1) H'):dD g [.ref f,.int 1,.int (i:Int),.ref a] H Q E:=by
 obtain ⟨F',e,h1,h2,h3⟩:=ZsJ L hi hb;refine ⟨f,q,x,b,l,F,1,i,a,[bt],rfl,hF,by rw [L.s];exact ym L.hr,by omega,ha,by show 1<=1000;decide,by rw [L.k];exact Zuk L.gd,L.b.AK,?_⟩;rw [e];exact fun H' b1 EJ=>k F' H' h1 h2 h3 (hF.gb b1) EJ
theorem Zv2 {H:Hp} {f q x b l:Addr} {F:cH} {cnt:Nat} {r0 r:Row} (hF:dm g H f q x b l F) (L:LI cnt r0 r F) (J:kF cnt r0 r F) (hl:F.D.log.length<=40000) {Q:VK} {E:XK}
  (k:∀ H',Kp b l H H'->dm g H' f q x b l (cG F)->Q .aH H'):kH g [.ref f] H Q E:=by
 obtain ⟨ie,ir,it,jr,jt,J⟩:=J;have hc:=L.c;refine ⟨f,q,x,b,l,F,rfl,hF,J.one.sf J.len (by rw [J.heads,CB];show 12<=1000;decide) L.len,L.slot,by rw [L.len];omega,hl,fun H' kk h'=>k H' (hF.sP kk) h'⟩
theorem Zsg {H:Hp} {p b l:Addr} {F:cH} {cnt:Nat} {r0 r:Row} {lg:List gz} (L:LI cnt r0 r F) (J:kF cnt r0 r F) (hD:cF g H p b l ⟨(cG F).D.blocks,lg⟩) {Q:VK} {E:XK}
  (k:∀ f q H',af H H'->dm g H' f q p b l ⟨(cG F).S,(cG F).k,(cG F).T,⟨(cG F).D.blocks,lg⟩,(cG F).I⟩->Q (.ref f) H'):cJ g [.ref p] H Q E:=by
 obtain ⟨h1,_,b0,b1,blk,g0,g1,hM,hE⟩:=Zpx L J;refine ⟨p,b,l,_,b0,b1,blk,_,_,_,rfl,hD,h1.ok,g0,g1,hM lg,fun f q H' s' h'=>k f q H' s' ?_⟩;rw [<- hE lg];exact h'
theorem Zzc {tt:TT} {ta tb:TS} {D:Ends} {σ:St} {H:Hp} (ht:∀ R:Bool->Hp->Prop,R true H->R false H->tt σ H R) (ha:ta D σ H) (hb:tb D σ H):qu tt ta tb D σ H:=ht _ (ao ha) (aj hb)
theorem ZxY {tt:TT} {ta tb u:TS} {D:Ends} {σ:St} {H:Hp} (ht:∀ R:Bool->Hp->Prop,R true H->R false H->tt σ H R) (ha:ta {D with nx:=u D} σ H) (hb:tb {D with nx:=u D} σ H):y9 (qu tt ta tb) u D σ H:=ht _ (ao ha) (aj hb)
theorem Zt3 {H:Hp} {D:Ends} {a f q x b l U B:Addr} {m k M:Int} {o9 pP:Option V} {F:cH} {cnt:Nat} {r0 r:Row} (L:LI cnt r0 r F) (J:kF cnt r0 r F) (hF:dm g H f q x b l (cG F))
  (kk:∀ f' q' H',af H H'->dm g H' f' q' x b l (cG F)->D.nx [some (.ref a),some (.int m),some (.ref x),some (.ref f'),some (.ref B),some (.int 1),some (.ref U),some (.int M),some (.int k),o9,pP] H') :
  qu (Fe (oO rEq (bA 8) (oO (rI uO fun i j=>V.int (i / j)) (bA 7) (tC (V.int 2))))) (jw (x9 (cJ g) [] (fun _=>E0) (gu (bA 2) bB)) (k6 3)) ZxP D [some (.ref a),some (.int m),some (.ref x),some (.ref f),some (.ref B),some (.int 1),some (.ref U),some (.int M),some (.int k),o9,pP] H:=by
 refine Zzc (fun R h1 h2=>⟨_,rfl,_,rfl,_,_,rfl,rfl,⟨by decide,by decide⟩,rfl,_,rfl,?_⟩) ?_ (kk f q H (af.refl _) hF)
 .cases decide (V.int k=V.int (M / 2))
  .exact h2
  .exact h1
 .obtain ⟨dx,sv,kv,iv,hf⟩:=id hF;refine ⟨_,rfl,Zsg (lg:=(cG F).D.log) L J hf.j_ fun f' q' H' s' EJ=>kk f' q' H' s' EJ⟩
inductive jA (K:Yg) (vs:List V) (H:Hp) (Q:VK) (aD:XK):Prop
 | mk (a:Addr) (ns:List Int):vs=[.ref a]->ay K H a (ns.map V.int)->ns.length<=63->(∀ H',Q (.bl true) H')->jA K vs H Q aD
theorem ZlZ {H:Hp}:∀ {n:Nat} {vs:List V},dz H vs (List.replicate n (.int 0))->vs=List.replicate n (.int 0)
 | 0,_,h=>by cases h;rfl
 | n + 1,_,h=>by
  rw [Xf] at h
  cases h with
  | cons a r=>
   cases a
   rw [ZlZ r,Xf]
theorem Zwd {H:Hp} {p b l:Addr} {vb:List V} {n:Nat} (h:ZwE g.aX H p b l vb [] (List.replicate n yc) []):cF g H p b l ⟨List.replicate n (some gj),[]⟩:=by
 obtain ⟨⟨dx,ob⟩,hb,hl,ib,_,ne⟩:=h;refine ⟨dx,vb,[],ob,hb,hl,?_,.nil,ne⟩;clear hb
 induction n generalizing vb with
 | zero=>cases ib;exact .nil
 | succ n ih=>
  rw [Xf] at ib ⊢
  cases ib with
  | cons a r=>
   refine .cons ?_ (ih r);unfold yc at a
   cases a with
   | tup e r2=>exact ⟨_,rfl,by rw [e,ZlZ r2];unfold gj;rw [XW]⟩
theorem eZ.small {S:aF} (h:eZ S):nI S:=⟨by have:=h.n;omega,by have:=h.n;omega,fun n es e=>by have:=(h.ent n es e).1;omega⟩
def tQ (ns:List Int) (n:Nat):Row:=(List.range n).map fun (i:Nat)=>(tO ns (i:Int) + (i:Int)) % 256
theorem Zxh (ns:List Int) {n:Nat} (h0:0 < n) (h1:n<=40):cu (tQ ns n):=by
 refine ⟨fun z=>?_,by unfold tQ;rw [Yb,Xh];exact h1,fun y hy=>?_⟩
 .have:(tQ ns n).length=0:=by rw [z];rfl
  unfold tQ at this;rw [Yb,Xh] at this;omega
 .obtain ⟨i,_,rfl⟩:=List.mem_map.mp hy;exact ⟨XN _ (by decide),Xy _ (by decide)⟩
theorem Zws:vM ZR "/a" "file"=.ok sE:=by kernel_rfl
theorem Zyd:eZ sE:=by
 refine ⟨by decide,fun n x e=>?_,fun n es e=>?_⟩
 .have hm:(n,x)∈[((1:Int),([]:Row))]:=nU e
  cases List.mem_singleton.mp hm
  decide
 .have hm:(n,es)∈[((0:Int),eE)]:=nU e
  cases List.mem_singleton.mp hm
  refine ⟨by decide,fun q hq=>?_⟩;have nq:q∈[(aN,(1:Int))]:=hq;rw [List.mem_singleton.mp nq];exact Fo
theorem mS:Zm ["_law_script","_law_more","_law_disk","_law_files","_law_held","_law_number","_law_due","_law_many","_law_k","_law_one","_law_again"] ["_law_script"] (Zi Fd):=ZE (by decide +kernel)
theorem Zye (T:Tx K mg g):ah P w K mg base w8 12 g.D7 g.E9 ["_law_script"] (jA K):=by
 refine T.ZyS.ok mS (fun vs H Q E h=>?_) (fun bg A outer s H vs Q E hr h=>?_)
 .obtain ⟨a,ns,rfl,_⟩:=h;rfl
 .obtain ⟨a,ns,rfl,hS,hlen,q⟩:=h;have iF:=hr.units;have hu:=u1 hr.units;have hSZ:(100000:Nat)<=Yj:=by decide
  refine ⟨_,(Zd (Zt (i:=1) mS.nd rfl (Or.inl rfl) (Zl (ZhT T) hr.dn rfl T.Zkd T.CG.kp T.dP .nil e_ (Za (Zl (IQ T) hr.dn rfl T.Ib T.yJ.kp T.cz .nil e_ (Za (pv 0) (Za Zo Zf))) (Za Zo Zf))))
   (Zd (Zt (i:=2) mS.nd rfl (Or.inl rfl) (lA T.Zuv (Zj7 T) hr.dn rfl T.Zwu T.eY .nil e_ (Za (ZC gM Zo (ZC jb (pv 1) Zo)) Zf)))
   (Zd (Zt (i:=3) mS.nd rfl (Or.inl rfl) (Zl (Zp6 T) hr.dn rfl T.Zru T.HW.kp T.jU .nil e_ (Za (pv 2) Zf)))
   (Zd (Zt8 (i₀:=4) mS.nd rfl (Or.inl rfl) (own:=["_law_k"]) (fv:=["_law_script"]) (ix:=[0]) (Z8 (sc:=Zi Fd) (N:=["_law_script","_law_more","_law_disk","_law_files","_law_held","_law_number","_law_due","_law_many","_law_k","_law_one","_law_again"]) rfl rfl (by decide +kernel)) rfl (yE rfl T.rK (Za (ZC gM Zo (ZC jb (ZC pD (pv 1) Zo) Zo)) Zf)) (fun _ _ _ _ _=>ZG (i:=0) (show (["_law_k","_law_script"]:List Str).Nodup from by decide +kernel) rfl (Or.inl rfl) (Or.inr rfl)) (fun _ _ _ _ _=>mU) (fun _ _ _ _ _=>(ZC jb (ZC gM (Zl (IQ T) hr.dn rfl T.Ib T.yJ.kp T.cz .nil e_ (Za (pv 1) (Za (pv 0) Zf))) (pv 0)) Zo)))
   (Zd (Zt (i:=5) mS.nd rfl (Or.inl rfl) (ZQ (pv 3) T.Zz T.Zqy (ZoA T) hr.dn T.i8 .nil e_ (Za ZY (Za ZY Zf))))
   (Zd (ZJ (ZQ (pv 3) T.Zz T.Zh6 (Zgz T) hr.dn T.cW .nil e_ (Za (pv 5) (Za Zo (Za (pv 4) Zf)))))
   (Zd (ZJ (ZQ (pv 3) T.Zz T.Zqw (Zoy T) hr.dn T.i6 .nil e_ (Za ZY Zf)))
   (Zd (Zt (i:=6) mS.nd rfl (Or.inl rfl) (Zl (CW T) hr.dn rfl T.C_ T.wN.kp T.bw .nil e_ (Za (pv 3) Zf)))
   (Zd (Zt (i:=7) mS.nd rfl (Or.inl rfl) (ZC gM Zo (ZC jb (ZC pD (pv 1) Zo) Zo)))
   (Zd (gN PassesOwn.never rfl (yE rfl T.rK (Za (pv 7) Zf)) (ZG (i:=8) mS.nd rfl (Or.inl rfl)) (Zd (Zt (i:=9) mS.nd rfl (Or.inl rfl) (Zl (ZhT T) hr.dn rfl T.Zkd T.CG.kp T.dP .nil e_ (Za (Zl (IQ T) hr.dn rfl T.Ib T.yJ.kp T.cz .nil e_ (Za (pv 0) (Za (pv 8) Zf))) (Za (pv 8) Zf))))
   (Zd (ZJ (ZQ (pv 3) T.Zz T.Zh6 (Zgz T) hr.dn T.cW .nil e_ (Za (pv 5) (Za (ZC jb (pv 9) Zo) (Za (mf (Za (ZC jb (ZC pD (pv 9) Zo) Zo) Zf)) Zf)))))
   (Zd (ZJ (rM (pv 3) T.Zz T.Zqu (Zow T) hr.dn T.i4 .nil e_))
   (Zd (ZZ (PW.pt (lj (ZI nJ (ZC jb (pv 8) Zo) Zo (ZU _)) (lj (ZvC rF rF Zo (pv 8) Zo) (nO (ZI nJ (pv 8) (ZC pq (pv 7) Zo) (ZU _)))))) (Zd (Zt (i:=10) mS.nd rfl (Or.inl rfl) (Zl (Znp T) hr.dn rfl T.Zqc T.Zip.kp T.ig .nil e_ (Za (Zl (Zta T) hr.dn rfl T.ZuC T.Gu.kp T.mE .nil e_ (Za (Zp (pv 2) rfl) Zf)) Zf)))
   (Zd (ZZ (PW.pt (lj (px (ll (Zyb (pv 10) (Zs (v:=.ref g.au) rfl T.BN rfl) rfl T.Zpk))) (nO (ZI (Zwq iF) (Zl (ZdP T) hr.dn rfl T.ZeN T.Dq.kp T.bN .nil e_ (Za (pv 10) Zf)) (Zl (ZdP T) hr.dn rfl T.ZeN T.Dq.kp T.bN .nil e_ (Za (pv 3) Zf)) (ZU _))))) (Zh (Zu mM)) Zy)
   (Zh (ZZ (ZI (Zwq iF) (Zl (CW T) hr.dn rfl T.C_ T.wN.kp T.bw .nil e_ (Za (ZQ (pv 10) T.Zz T.Zl0 (Zj6 T) hr.dn T.eX .nil e_ (Za ZY Zf)) Zf)) (pv 6) (ZU _)) (Zh (Zu mM)) Zy)))) Zy)
   (Zh (ZZ (ZI nJ (pv 8) (ZC pD (pv 7) Zo) (ZU _)) (Zh (Zt (i:=3) mS.nd rfl (Or.inl rfl) (Zl (Znp T) hr.dn rfl T.Zqc T.Zip.kp T.ig .nil e_ (Za (pv 2) Zf)))) Zy)))))))
   (Zh (Zu mM)))))))))))),?_⟩
  refine ⟨_,rfl,a,ns,0,rfl,hS,hlen,by decide,by decide,fun H1 s1=>⟨_,_,rfl,?_⟩⟩;generalize hm:Bo (tO ns 0) 5=m;have hm0:0<=m:=by rw [<- hm];exact Zsw _ _
  refine ⟨_,rfl,_,_,rfl,rfl,by decide,_,_,rfl,rfl,?_⟩;intro x dx nx ndx nex;obtain ⟨cnt,LU⟩:∃ cnt:Nat,(60 + m % 30)=(cnt:Int):=⟨(60 + m % 30).toNat,by omega⟩
  have hc:60<=cnt/\cnt<=100:=by omega
  refine ⟨x,dx,_,rfl,Zb,fun z=>by omega,fun _ _ b l vb H3 fb fl D3 kp=>⟨rfl,?_⟩⟩
  have s0:af H1 (upd (upd H1 dx (.own x)) x (.ins g.aX dx [])):=fun b o e=>by
   rw [Ze (Zc e nx),Ze (Zc e ndx)];exact e
  have s3:af H1 H3:=fun c o e=>kp c o (s0 c o e) (Zc e nx);rw [LU,YS] at D3;obtain ⟨F0,hf0,fS,fk,K0,Ao,Es⟩:=ZrC hc;refine ⟨_,rfl,x,b,l,iJ cnt,rfl,Zwd D3,by show 2<=(List.replicate cnt _).length;rw [YC];omega,Yt _,Es,?_⟩;rw [hf0];intro f q0 H4 b4 vA
  -- eF kK stays
  have vy:wZ K b l H4 a (ns.map V.int):=fun H' kk=>by
   have kx:∀ o,H1 a=some o->(∀ C dx fs,o≠.ins C dx fs)->H' a=some o:=fun o e n=>kk _ _ (b4 _ _ (s3 _ _ e) (Zc (s0 _ _ e) fb) (Zc (s0 _ _ e) fl)) (Zc (s0 _ _ e) fb) (Zc (s0 _ _ e) fl) n;rcases s1.seq hS with (h | ⟨o,h⟩) | h
   .exact .inl (.inl (kx _ h (by intro _ _ _ z;cases z)))
   .exact .inl (.inr ⟨o,kx _ h (by intro _ _ _ z;cases z)⟩)
   .exact .inr h
  clear hS D3 kp s3 s0 b4 s1
  -- held
  have vi:0<=m / 64 % 40/\m / 64 % 40 < 40:=⟨XN _ (by decide),Xy _ (by decide)⟩
  obtain ⟨hn,hhn⟩:∃ hn:Nat,(1 + m / 64 % 40)=(hn:Int):=⟨(1 + m / 64 % 40).toNat,by omega⟩
  refine ⟨_,rfl,_,_,rfl,rfl,⟨by decide,by decide⟩,_,_,rfl,rfl,by decide,_,_,rfl,rfl,_,rfl,by omega,by omega,fun D hD=>?_⟩;rw [hhn];refine qk (J:=mX 0 hn) hn (fun i=>some (V.int ((tO ns (i:Int) + (i:Int)) % 256))) (fun i x=>x=.int (0 + (i:Int))) hD (by omega) (fun i H3 hi _=>hi) (fun H3 _=>Yf _) (fun i H3 x H4 hi _ hy=>⟨hy.1,hy.2⟩) (fun i x H5 N hi hx s5 k=>?_) fun H5 s5 hH=>?_
  .subst hx;rw [Int.zero_add];show (if true=true then _ else N none H5);rw [if_pos rfl];exact ⟨_,rfl,_,rfl,a,ns,_,rfl,vy H5 (.same s5),hlen,by omega,by omega,fun H6 s6=>⟨_,rfl,_,_,rfl,rfl,_,_,rfl,rfl,by decide,k H6 s6⟩⟩
  have p9:=Zxh ns (n:=hn) (by omega) (by omega);rw [show (List.range hn).filterMap (fun (i:Nat)=>some (V.int ((tO ns (i:Int) + (i:Int)) % 256)))=(tQ ns hn).map V.int by unfold tQ;rw [Xu,WW];rfl] at hH;generalize tQ ns hn=r0 at hH p9;have Bh:=vA.same s5;have pR:Kp b l H4 H5:=.same s5;obtain ⟨dx5,sv5,kv5,iv5,Ey⟩:=id Bh
  -- make
  obtain ⟨I1,e1,KZ⟩:=ZpS K0 fk (S:=sE) ZwU;refine ⟨_,rfl,f,dx5,_,rfl,Ey.ob,gL _ _ _ _,?_⟩;show kJ g [.ref f,.str "/a",.str "file"] _ _ _;refine ⟨f,q0,x,b,l,F0,"/a","file",rfl,Bh,by rw [fS];exact Zst.small,by rw [fS];decide,by rw [fS];decide,by decide +kernel,fun S hS=>?_,by rw [fk];exact B7,K0.AK,?_⟩
  .rw [fS,Zws] at hS
   cases hS
   exact Zyd
  have vF:Bt F0 "/a" "file"=.ok ⟨sE,F0.k,F0.T,F0.D,I1⟩:=by unfold Bt;rw [fS,Zws];exact e1
  rw [vF];intro H6 b6 vz;rw [fS,show wH ZR=some 1 by kernel_rfl];have kp6:=pR.trans (Bh.gb b6);have hH6:H6 D=some (.lst (r0.map V.int)):=b6 _ _ hH (ZD hH Ey.ob (by intro z;cases z));obtain ⟨ph,AE,AU,iv6,pY⟩:=id vz
  -- write
  obtain ⟨I2,e2,KY⟩:=ZpS KZ fk (S:=aM r0) (ZvB p9);refine ⟨_,rfl,f,ph,_,rfl,pY.ob,gL _ _ _ _,_,rfl,_,rfl,?_⟩;show dD g [.ref f,.int 1,.int 0,.ref D] _ _ _;refine ⟨f,q0,x,b,l,_,1,0,D,r0,rfl,vz,Zyd,by decide,hH6,by have:=p9.len;omega,by show kf F0.k;rw [fk];exact B7,KZ.AK,?_⟩;have Bk:wa ⟨sE,F0.k,F0.T,F0.D,I1⟩ 1 0 r0=.ok ⟨aM r0,F0.k,F0.T,F0.D,I2⟩:=by unfold wa;rw [ZsH p9];exact e2
  rw [Bk];intro H7 b7 Bg;have kp7:=kp6.trans (vz.gb b7);obtain ⟨dx7,sv7,kv7,iv7,hf7⟩:=id Bg
  -- snap
  obtain ⟨F3,e3,KW,fD⟩:=ZtZ KY fk rfl p9;refine ⟨_,rfl,f,dx7,_,rfl,hf7.ob,gL _ _ _ _,?_⟩;show iP g [.ref f,.str "early"] _ _ _;refine ⟨f,q0,x,b,l,_,ZP,rfl,Bg,ym p9,by decide +kernel,by show kf F0.k;rw [fk];exact B7,KY.AK,?_⟩;rw [e3];intro H8 b8 EH;have kp8:=kp7.trans (Bg.gb b8);have zU:wZ K b l H8 a (ns.map V.int):=fun H' k=>vy H' (kp8.trans k);have sh:F3.D.log.length<=20:=by rw [fD];exact Ao
  clear kp8 kp7 kp6 pR vy hf7 pY Ey hH6 hH b8 b7 b6 Bg vz Bh vA e1 e2 vF Bk e3 K0 KZ KY;obtain ⟨dx8,sv8,kv8,iv8,vn⟩:=id EH
  -- due
  have EF:=vn.st;rw [KW.s] at EF;refine ⟨_,rfl,f,dx8,_,_,_,_,_,rfl,vn.ob,EF,yk p9,fun U H9 s9 hU hJ=>?_⟩
  have qC:qF b l H9 (.ref U) (.list (iz (aM r0) 32)):=fun H' k=>hJ H' fun d o e dt=>by
   obtain ⟨Bl,vb',vl',c7⟩:=id vn.j_;have hb9:=s9 _ _ c7.hb;have hl9:=s9 _ _ c7.hl;rcases dt with ⟨xs,rfl⟩ | ⟨hn,ys,rfl⟩
   .exact k _ _ e (ZD e hb9 (by intro z;cases z)) (ZD e hl9 (by intro z;cases z)) (by intro _ _ _ z;cases z)
   .exact k _ _ e (fun z=>by rw [z,c7.hb] at hn;cases hn) (fun z=>by rw [z,c7.hl] at hn;cases hn) (by intro _ _ _ z;cases z)
  have zT:wZ K b l H9 a (ns.map V.int):=fun H' k=>zU H' ((Kp.same s9).trans k);have hF9:=EH.same s9;clear zU EH vn EF hJ hU s9;have hM0:0<=m / 4096 % 31/\m / 4096 % 31 < 31:=⟨XN _ (by decide),Xy _ (by decide)⟩
  obtain ⟨M,hM⟩:∃ M:Nat,(270 + m / 4096 % 31)=(M:Int):=⟨(270 + m / 4096 % 31).toNat,by omega⟩
  refine ⟨_,rfl,_,_,rfl,rfl,⟨by decide,by decide⟩,_,_,rfl,rfl,by decide,_,_,rfl,rfl,?_⟩;rw [hM];refine ⟨_,rfl,_,rfl,by omega,by omega,?_⟩
  refine GV (fun i σ H'=>∃ f q r F o8 o9 pP,σ=[some (.ref a),some (.int m),some (.ref x),some (.ref f),some (.ref D),some (.int 1),some (.ref U),some (.int (M:Int)),o8,o9,pP]/\LI cnt r0 r F/\dm g H' f q x b l F/\F.D.log.length<=20 + 9 * i/\wZ K b l H' a (ns.map V.int)/\qF b l H' (.ref U) (.list (iz (aM r0) 32)))
   ⟨f,q0,r0,F3,_,_,_,rfl,KW,hF9,sh,zT,qC⟩ (fun i σ H' hi h=>?_) (fun σ H' h=>?_)
  .clear qC zT hF9 KW sh;obtain ⟨f,q1,r,F,o8,o9,pP,rfl,L,hF,n_,vy,qC⟩:=h;rw [Int.zero_add];refine ⟨_,rfl,_,rfl,a,ns,_,rfl,vy H' (.same (af.refl _)),hlen,by omega,by omega,fun H1 s1=>⟨_,rfl,_,_,rfl,?_⟩⟩;generalize LJ:Bo (tO ns (i:Int)) (i:Int)=one;have ho0:0<=one:=by rw [<- LJ];exact Zsw _ _
   have hF1:=hF.same s1;obtain ⟨j9,sv1,kv1,iv1,qS⟩:=id hF1;refine ⟨_,rfl,f,j9,_,rfl,qS.ob,gL _ _ _ _,_,rfl,_,rfl,_,_,rfl,rfl,by decide,_,rfl,_,_,rfl,rfl,⟨by decide,by decide⟩,_,_,rfl,rfl,by decide,a9 1,fun B hB=>?_⟩;have s2:=Zk (o:=.lst [.int (one / 64 % 256)]) hB;obtain ⟨j,hj⟩:∃ j:Nat,one % 40=(j:Int):=⟨(one % 40).toNat,by omega⟩
   rw [hj];refine ZuS (hF1.same s2) L (i:=j) (by omega) (bt:=one / 64 % 256) ⟨XN _ (by decide),Xy _ (by decide)⟩ Zb fun F' H3 L' J' eD k3 hF3=>?_;have sO:Kp b l H' H3:=(Kp.same (s1.trans s2)).trans k3;obtain ⟨rj,sv3,kv3,iv3,hf3⟩:=id hF3;generalize m_ r j (one / 64 % 256)=r' at L' J';refine ⟨_,rfl,f,rj,_,rfl,hf3.ob,gL _ _ _ _,?_⟩;refine Zv2 hF3 L' J' (by rw [eD];omega) fun H4 k4 vA=>?_;have sN:=sO.trans k4;obtain ⟨L4,lg4,_⟩:=Zpx L' J';have L0:wZ K b l H4 a (ns.map V.int):=fun H' k=>vy H' (sN.trans k);have sj:qF b l H4 (.ref U) (.list (iz (aM r0) 32)):=fun H' k=>qC H' (sN.trans k);have hlg:(cG F').D.log.length<=20 + 9 * (i + 1):=by rw [eD] at lg4;omega
   have fin:∀ (pP:Option V) H5,af H4 H5->∀ f' q' H6,af H5 H6->dm g H6 f' q' x b l (cG F')->∃ f q r F o8 o9 Ll,[some (.ref a),some (.int m),some (.ref x),some (.ref f'),some (.ref D),some (.int 1),some (.ref U),some (.int (M:Int)),some (.int (i:Int)),some (.int one),pP]=[some (.ref a),some (.int m),some (.ref x),some (.ref f),some (.ref D),some (.int 1),some (.ref U),some (.int (M:Int)),o8,o9,Ll]/\LI cnt r0 r F/\dm g H6 f q x b l F/\F.D.log.length<=20 + 9 * (i + 1)/\wZ K b l H6 a (ns.map V.int)/\qF b l H6 (.ref U) (.list (iz (aM r0) 32)):=
    fun pP H5 s5 f' q' H6 s6 h6=>⟨f',q',r',cG F',_,_,_,rfl,L4,h6,hlg,fun H' k=>L0 H' ((Kp.same (s5.trans s6)).trans k),fun H' k=>sj H' ((Kp.same (s5.trans s6)).trans k)⟩
   dsimp only;refine ZxY (fun R h1 h2=>?_) ?_ ?_
   .have orT:∀ (c:Bool) {A:Prop},(c=false->A)->if c=true then R true H4 else A:=fun c A h=>by
     cases c
     .exact aj (h rfl)
     .exact ao h1
    refine ⟨_,rfl,_,_,rfl,rfl,by decide,rfl,_,rfl,orT _ fun _=>?_⟩;refine ⟨_,rfl,_,_,rfl,rfl,_,rfl,?_⟩
    have last:∀ c:Bool,R c H4:=fun c=>by
     cases c
     .exact h2
     .exact h1
    cases decide ((250:Int) < (i:Int))
    .exact aj ⟨_,rfl,aj ⟨_,rfl,_,rfl,_,_,rfl,rfl,rfl,_,rfl,last _⟩⟩
    .exact ao ⟨_,_,rfl,rfl,_,rfl,orT _ fun _=>⟨_,rfl,_,rfl,_,_,rfl,rfl,rfl,_,rfl,last _⟩⟩
   .obtain ⟨p_,sv4,AV,iv4,sY⟩:=id vA;obtain ⟨Bl,vb,vl,c7⟩:=id sY.j_;refine ⟨_,rfl,x,_,Bl,_,_,rfl,c7.ob,T.iy,T.wX,By _ _,b,vb,_,rfl,c7.hb,c7.rb,fun p2 b2 l2 H5 s5 l7=>?_⟩;refine Zsg L' J' l7 fun f2 q2 H6 s6 vz=>?_;obtain ⟨ph,AE,AU,iv6,pY⟩:=id vz;have s46:=s5.trans s6;have st6:ZB g H6 (aM r') AE:=L4.s ▸ pY.st;have ke6:cQ g H6 [(ZP,aM r0)] AU:=L4.k ▸ pY.ke;have sH:ZB g H4 (aM r') sv4:=L4.s ▸ sY.st;have ke4:cQ g H4 [(ZP,aM r0)] AV:=L4.k ▸ sY.ke;have o_:([(ZP,aM r0)]:Kept).length < 64:=by show 1 < 64;decide
    have iq:∀ n∈[(ZP,aM r0)].map (·.1),Z4 n=true/\n.length<=1000/\∃ S',aa [(ZP,aM r0)] n=some S'/\oj S':=fun n h=>by
     rw [List.mem_singleton.mp h];exact ⟨Cs,(by show ZP.length<=1000;decide +kernel),_,Z7 rfl,yk p9⟩
    refine ⟨_,rfl,f2,g.au,ph,_,rfl,pY.ob,T.Zz,T.Zw5,_,rfl,aj ?_⟩;refine ⟨_,rfl,f2,ph,AE,AU,_,_,_,_,rfl,pY.ob,st6,yk L'.hr,ke6,o_,iq,fun R1 H7 s7 hJ1=>?_⟩;have AG:=s46.trans s7;refine ⟨_,rfl,f,p_,sv4,AV,_,_,_,_,rfl,AG _ _ sY.ob,ZB.mono _ _ _ _ AG sH,yk L'.hr,cQ.mono _ _ _ _ AG ke4,o_,iq,fun R2 H8 s8 Bf=>?_⟩;refine ⟨_,_,hJ1.keep s8,Bf,HG _ _,HG _ _,?_⟩;rw [CQ (HG _ _)];refine ⟨_,rfl,aj ?_⟩;have DN:=s7.trans s8;refine ⟨_,rfl,f2,ph,_,rfl,DN _ _ pY.ob,gL _ _ _ _,f2,ph,AE,AU,_,_,_,ZP,aM r0,rfl,DN _ _ pY.ob,cQ.mono _ _ _ _ DN ke6,Cs,by decide +kernel,Z7 rfl,fun u ux v H9 s9 hu hv=>?_⟩;refine ⟨u,ux,v,_,_,_,aM r0,rfl,hu,hv,yk p9,fun U2 gO ip xO hJ3=>?_⟩;have DP:=(AG.trans s8).trans (s9.trans ip);refine ⟨_,rfl,_,_,hJ3.jm,sj gO (.same DP),JI _,JI _,?_⟩;rw [CQ (JI _)];refine ⟨_,rfl,aj ?_⟩;refine Zt3 L' J' (vA.same DP) ?_;exact fin _ gO DP
   .refine Zt3 L' J' vA ?_;exact fin _ H4 (af.refl _)
  .obtain ⟨f,q1,r,F,o8,o9,pP,rfl,_⟩:=h;exact q _
set_option maxHeartbeats 16000000
open PySem L2 PySem.W
theorem Zw8 {K:Frag} {a:Addr} {d:Option Addr} {u0 u1 u2 u3:Tok} {n:Nat} {o:Array (Option Value)} (h:K.lookup a=some ⟨.type "tuple",d,.seq #[.int 83 u0,.int 116 u1,.int 105 u2,.int 108 u3] n,o⟩):∀ H,av K H a [.int 83,.int 116,.int 105,.int 108]:=fun H=>.inr ⟨_,_,_,h,rfl,rfl,(by show 4<=Yj;decide),(.cons ⟨u0,rfl⟩ (.cons ⟨u1,rfl⟩ (.cons ⟨u2,rfl⟩ (.cons ⟨u3,rfl⟩ .nil))))⟩
theorem Zh1 {K:Frag} {a:Addr} {d:Option Addr} {u0 u1 u2:Tok} {n:Nat} {o:Array (Option Value)} (h:K.lookup a=some ⟨.type "tuple",d,.seq #[.int 7 u0,.int 17 u1,.int 27 u2] n,o⟩):∀ H,av K H a [.int 7,.int 17,.int 27]:=fun H=>.inr ⟨_,_,_,h,rfl,rfl,(by show 3<=Yj;decide),(.cons ⟨u0,rfl⟩ (.cons ⟨u1,rfl⟩ (.cons ⟨u2,rfl⟩ .nil)))⟩
theorem ZyJ {l:OpenLaw} {w:World} {K:Frag} {mg:Str->Option Value} {fa:Addr} {g:Gs} (hfa:mg "law"=some (.ref fa)) (T:Tx K mg g):∃ fd:Ym,(∀ (s:Shared) (v:Value),BindsTo s fd ⟨[v],[]⟩ [("_law_script",v)])/\∀ base:Heap,K.In base->base.Ns X7 mg->ah l.prog w K mg base w8 12 fa fd ["_law_script"] (jA K):=by
 have e:=hfa.symm.trans T.Zzb
 cases e
 refine ⟨g.E9,fun s v=>?_,fun base _ _=>Zye T⟩
 .obtain ⟨oc,od,kV,doc,pm,an,bg,ct,oQ,e,_⟩:=T.ZyS.ex;rw [e];exact .of_eq rfl
theorem walk {l:OpenLaw} {q:Program} {loose:List Str} {XP:(Str->Option Value)->Heap->Prop} {YP:World->Heap->Prop} {d:DefRec} {K:Params->Frag} (hn:l.most=some 63) (xK:d.params.defaults=[])
  (hY:∀ (w:World) (h:Heap),YP w h->(K w.params).In h)
  (F:∀ (w:World) (mg:Str->Option Value) (fa:Addr) (h:Heap),(K w.params).In h->h.Ns X7 mg->mg d.name=some (.ref fa)->∃ fd:Ym,(∀ (s:Shared) (v:Value),BindsTo s fd ⟨[v],[]⟩ [("_law_script",v)])/\∀ base:Heap,(K w.params).In base->base.Ns X7 mg->ah l.prog w (K w.params) mg base w8 12 fa fd ["_law_script"] (jA (K w.params))) :
  WalkO q loose XP YP l.row.toRowW d [] (fun f vs=>PySem.call f vs):=
 L2.ZwH (n:=63) (k:=12) (x:="_law_script") (CX:=fun _=>w8) (sp:=fun w=>jA (K w.params)) hn (by decide) xK ⟨rfl,by decide,by decide⟩ hY F (fun _ _ a ns hl _ hS=>⟨a,ns,rfl,hS,hl,fun _=>rfl⟩) fun _ _ _ _ _ z=>z
end KS
structure PySem.W.Fast:Prop where(tw18282388549454407450 tw7602325167872448735 tw16906046570161159468 tw6755562889475899229 tw5338121689408797281 tw3786786577323691216 tw7165199137019866395 tw813415892490308131 tw1001442650880037057 tw7363676876324949910 tw2827948333646644502 tw12191727599933681845 tw14192832428377931651 tw5259780895626183659 tw148599575722104382 tw1667136217112016860 tw2372389601889649012 tw6801375756170693727 tw8764622776572490956 tw10022273379912657451 tw18073467326269440397 tw1965487253327145739 tw13910012380463558985 tw146561637325307761 tw17066779599131733446 tw5376527722059443765 tw11240351168540065041 tw5234012759092043547 tw9036966022221128990 tw16716502644654594448 tw13116582069620800072 tw14427459538637408532 tw9085461806549588416 tw4383421512244496049 tw280048860894866073 tw5471993698150172540 tw9585583835700928086 tw13912827716281101384 tw7142427357247640533 tw848378022781546868 tw16033877836448680809 tw4677802576248212992 tw13710162363682712234 tw7556570091408431878 tw10153959491719582569 tw9092907819517776720 tw1259514312048958885 tw11782266162567261993 tw3796227936251443979 tw14479535899508436072 tw11598165255580680671 tw4123940951691431360 tw16903477314705795764 tw5767243694562588328 tw16331584808764710698 tw2440318769642548486 tw2284239679946256049 tw18124671027619295843 tw4491879515806330375 tw1539417281900252484 tw1463558446335075537 tw14950498225180772356 tw16407685830160516272 tw8478253460931232483 tw11277384905378328522 tw8169420858751126762 tw11261716698604530749 tw7324020179613146860 tw3976917592515904434 tw7955784354058421132 tw15988675371440098538 tw16918517526582391802 tw12690862032233996094 tw2263686097284713072 tw10648392469910339180 tw17029402369503313028 tw11548157778357510987 tw2373880180306797034 tw9768282167753849831 tw15796657789369962166 tw4162723614304589556 tw6555888420552416081 tw11494656172819010629 tw8574890770241252221 tw6588045908397979742 tw5058320524962623861 tw15020822952276216190 tw9837161519461172956 tw6600308890087679659 tw2568510240674646451 tw9461581563876459019 tw6627377277649761805 tw16751143574481401681 tw15743866370529138895 tw2586923185969012202 tw861986064247186594 tw11863329694358788750 tw7227250382034346079 tw635405496230507086 tw16949861684653640662 tw3344542850420481002 tw11161716328584585468 tw15138366037707326889 tw5342819972462833684 tw12819098890592239203 tw3057426165875123884 tw15639523291248094448 tw5586683695486348372 tw5524919753026365751 tw17614319845146933644 tw17241096481539198190 tw12034510742499719929 tw6238458554834822103 tw4521018915514187236 tw3285306192485555742 tw2884413787125196826 tw15339441973605646354 tw13305883490864032388 tw9338238812864512024 tw17366674484878646381 tw17954889354516480719 tw10420249362962394974 tw16762441972336316031 tw16232638458302112145 tw3506735529077923963 tw5918849816773661062 tw8481299508524598436 tw14779399560598543127 tw7805733943027267505 tw11071494346893928459 tw15420638329954561828 tw14480320741173078554 tw18301695154063781072 tw7867568496798216084 tw9973615562827608572 tw10857261204659132657 tw14874190597548001003 tw17006334904680664177 tw7334091383154997093 tw5270027184395533806 tw5767315469845058375 tw15554113014407304550 tw1139448707262433180 tw18049108332677491412 tw10330910593439208807 tw3701370857159868561 tw3970064881874794581 tw14905989173314977381 tw5589670855139985688 tw11851095176082529890 tw15651086506982445347 tw15117316634404079483 tw15504396684411807377 tw14792306900539909258 tw4431445813139436086 tw4746171535766257897 tw11033268509113745835 tw10883240272858645335 tw14008684408746226539 tw5730084009221755599 tw15882810305494010827 tw17693739352707899936 tw13894760610598673688 tw18133628405791099876 tw5240255566146138342 tw5078455758831049985 tw16121844531997396109 tw17045264195683845354 tw10468689257384980725 tw1519600738006267883 tw12174571159006969720 tw8413400590373882831 tw7667851228300310722 tw14157669541625371401 tw6011996623453522583 tw16519187823797773037 tw14207707194972863752 tw3086410764237763930 tw14710274772129194964 tw5614256974953332453 tw16190640672928807942 tw311889358731456820 tw12367297604269657445 tw17762983463705317578 tw12450028690503420847 tw8903499629887444796 tw11911177028983094162 tw13416296821198297554 tw17066610946089585984 tw9217189405561930978 tw5127777787747605643 tw801829036283352464 tw6744051531873148819 tw18363191605369163526 tw679156683170134608 tw6598856897461718932 tw17581532673887773874 tw989883516967922209 tw5098925584098215447 tw11222611410221073827 tw3894800332728881666 tw5811450093715792004 tw12995093173318524206 tw9027217281974216037 tw14361691314015592939 tw1333150942344318894 tw11073154042778306816 tw13371707159490241378 tw12033733151357750461 tw3390223975402010196 tw16556676301344364203 tw9305872082891869311 tw1524409110697428313 tw8536898108190010064 tw11225796422999357355 tw3414465578727008454 tw14858702792888772738 tw3676775419622203600 tw14284126928731530867 tw12282503827323393787 tw5098076469566943211 tw5167071266812920898 tw17072018353695021613 tw6105242571904251076 tw3369780067069179738 tw2673007865405869373 tw12962233331201079082 tw17566750240576137348 tw17428575060689498624 tw4010520010966621228 tw8379984169180467005 tw13854803989653463425 tw14765310513261648288 tw10955388773616683710 tw16281483044649307289 tw2900756265075524003 tw2431833634819908993 tw10817489793589023630 tw17294206998268903339 tw17376186929035189574 tw9599037851277284675 tw12613992976135193573 tw7380665433561879333 tw17090369990845752203 tw1273742496117717874 tw13752831808360698969 tw16859206561018278748 tw2154584540636952074 tw13931221873482629671 tw17870945600845240169 tw7726942175529954364 tw17839183635953523117 tw14661211641235798703 tw11704291507787886358 tw15160226737352539230 tw3338726473652300911 tw8003909155048199598 tw8462470620005955715 tw9369296533128907067 tw11688093817080052184 tw14984158744219073081 tw16645135990634093376 tw8036113880322473028 tw1005187919191219230 tw18207811523871051189 tw7450613622085421781 tw7928490142158101530 tw7503611093066084054 tw14363543937166341378 tw4339499576727030416 tw9150215932825424745 tw13185425459663010480 tw5447413550017197222 tw4511771281612884174 tw12233897702772038338 tw16333743016132885937 tw8594490054902867936 tw1510554807739207141 tw3970542271966344391 tw15286914916985960635 tw16958808345888234956 tw896346848555990995 tw13379691617594843157 tw12167063985840046212 tw7577764758316082223 tw9455823589418701863 tw10297269254925714711 tw9960852626324466920 tw16442555153882101229 tw17503025419219981604 tw12605866251293872867 tw14381033745765584701 tw11680978264928187141 tw10628447770045322908 tw12399460835760115410 tw16764989151497445217 tw3632215660947308986 tw2699717123579384964 tw12726620873974167673 tw11538002095643419659 tw7204346121864070992 tw713670886182288395 tw17529738856211512211 tw4664323944905894003 tw17871920521839481663 tw1314255245252402080 tw3426041833306184520 tw9650312749085475977 tw17062341955279580176 tw1395072103572747028 tw11447427549777771070 tw18330360070462016713 tw8424177945782960954 tw864841326439311118 tw14059262477236149177 tw12057138985835062853 tw8063908501336403221 tw6553550053028162700 tw13191615334245354533 tw12497765037631485033 tw123188812675236469 tw17532766486709293187 tw14199870085658777123 tw439037508106785973 tw479083528263176965 tw3235205357222468406 tw9462520930572787712 tw6486843187078003568 tw4190102216952290117 tw5471682017209149276 tw16345676951744247833 tw13330430977706474436 tw5930032706701760670 tw14524046917432597625 tw10267002727444555603 tw12015775231027338987 tw6604495532251060171 tw11975735098936704407 tw973047686391492216 tw8557479115045764747 tw8119005926184137803 tw7512803194649948185 tw6970369256780566403 tw5942249070795226873 tw1978362321872181069 tw11204999896788527357 tw8716960483652006390 tw2661368683870424161 tw3911664143768624019 tw16126099413854978678 tw5814868333541499913 tw8491983937589045595 tw4937355542971826553 tw10701369603983721662 tw12509678444232896636 tw12113725771255139318 tw4324075190846473144 tw4191676377468689723 tw3504544487749491716 tw6582400033976844453 tw12967552902792607547 tw13299960648173891695 tw6312160521075881854 tw6189265833786967266 tw447961191339449506 tw14914832617473052780 tw9266036230785835968 tw5731456331547367797 tw15313351803081613150 tw11845210940057023765 tw13968552182371103012 tw10668401733810666370 tw10548290729634831236 tw8181228280846212097 tw2100947105475718764 tw1944480748172166559 tw17706401153165155005 tw10356709904460283005 tw3770462518058209506 tw1938175793648204177 tw8324894300516443553 tw7308578525744779874 tw396340359764876772 tw3137535348143537385 tw5664301552713847769 tw17725618284218154105 tw14672906976110596195 tw15475910076749909154 tw10351051991094464098 tw9148948829355196849 tw7640500240562028272 tw6444490795081763214 tw6207221816079168823 tw4973158937009758447 tw11152588290924415273 tw13348491003059546000 tw11650075673395521048 tw9967092510301472867 tw826318925125522691 tw5886242053233797403 tw1946883629342299825 tw1510338727957838500 tw7918221702798975481 tw8612120783889934578 tw14329655929797346492 tw9570796707736638450 tw17659420486782167997 tw9742555817186059927 tw8510949441093357389 tw11901965951481593760 tw977807241238718173 tw16099876758304644017 tw13600742534564542180 tw13173898760879735856 tw5545789120284120786 tw17000184043354716434 tw13030918465898600626 tw12264244491350437086 tw5571873905854513242 tw1827227280786987418 tw17029809660775994469 tw15925865269972474367 tw16946182700489672091 tw11237649630327557751 tw12504339950180054135 tw10217472617822661911 tw9502509012114874706 tw17392920671425473188 tw3209924429128730224 tw13648095856437722534 tw863309557979147882 tw222222617730057268 tw10254927104770485195 tw636473815177677236 tw12373040318217960272 tw8099235377921601536 tw5587559186694191459 tw17762205017081249430 tw2978830438782550404 tw2576305032790346567 tw15010096648890096294 tw13341713823126592080 tw17818532335451414088 tw1759702004773533210 tw11149777680043847750 tw16775596218495192596 tw1533462904215282526 tw1431351751750986660 tw8743657757739929144 tw8039652088428422049 tw4323480253260511395 tw16127817119628254141 tw1728237098970969496 tw14627321897660097361 tw2988233311341916698 tw1908252848620785837 tw14939908752134888244 tw10078553824715936917 tw9133200792396260869 tw3421654401008986726 tw8883323173530095900 tw8795215373447847244 tw8259424235951636357 tw5750235302223236702 tw5203832572141345544 tw4571834469155765100 tw4509397664513080625 tw2247393461118549762 tw15219066033268686384 tw14348135947916571585 tw5775662845000447772 tw5047391794759738922 tw3458490173104779443 tw2620209816348804872 tw17902266202362781758 tw9673432358485908461 tw2408790065770181067 tw16216870398204469704 tw15949841406498064104 tw12649391580056196035 tw1141449399707775014 tw10468015789170514817 tw2859960277262436635 tw9931488833085735269 tw8542191068377387576 tw9461147455950315149 tw3860233991452257875 tw14784370528559596841 tw9270747293156479478 tw7108262810210555032 tw6801702741684114950 tw5744917580819381659 tw3794422223258568084 tw2812240253485466514 tw15215831856997492968 tw7672826270546542489 tw7063654583785551857 tw10604537081746173932 tw5591753489794603591 tw2324134282496630128 tw4834116080104971504 tw16822567441913062286 tw11892586190543981593 tw707730393593019806 tw8227292857696056847 tw12365932203544202355 tw9720652163535215085 tw789272849079722853 tw12893433464754545827 tw12853984127642295509 tw10433357051510163666 tw4015848525497125552 tw2940677555652866147 tw14421753349131225849 tw16550457681657857577 tw16107535024225525947 tw12501189768963842865 tw17062638207601420853 tw11393082106548185191 tw1903943028238132487 tw8914873680116320815 tw6245396030527291788 tw14000707311000991629 tw12561803365705625872 tw3690967806434501309 tw16718364483077787091 tw4999355100199634794 tw448998596301665337 tw15800244090763344135 tw5514495492978326104 tw17962473582213082563 tw8543560382466003057 tw5689429512770178133 tw1080421575622270439 tw9993038017455461979 tw9951045343709015573 tw15943351652910334151 tw17337348244237615842 tw5569342758215566466 tw3794838323994183926 tw14684763164181350439 tw10981589828965410777 tw3566487440871156007 tw17523648687409447044 tw11408149225577947300 tw17940382380052334598 tw3185526201984323934 tw17485051595270679590 tw12609099339522328351 tw14383925452774753315 tw11019256641768496558 tw14630341223604062309 tw16867882424913109372 tw6261344069124180056 tw10482995043557831096 tw5939165876297130820 tw4538571093756994517 tw7152312913440655451 tw9549123564435227805 tw8426097743316791538 tw16381704416592525964 tw577628900327909404 tw15745345015017903713 tw12994920988977092654 tw3279736053103541197 tw2845443753029460037 tw7692572861257184274 tw15442150909313432291 tw10904033503990393730 tw540749133822704690 tw17683307063161057509 tw7154453620582207199 tw3066567422597657583 tw14963805859888403637 tw11350263813344074292 tw7931585527938743133 tw15909618444733360906 tw11144034611578876357 tw9257576532492456263 tw7248517095022348874 tw15275952123138627350 tw10056227773071464427 tw16045834996087894963 tw11871871305759227548 tw413069627667058705 tw13531218756058368219 tw3427842958934074216 tw8426022649572732032 tw6504059660206391011 tw9733766386146963906 tw8836895223249103843 tw8673218638712045826 tw6397805338416052336 tw15760897867878432211 tw10775389479338496153 tw1061706413210369951 tw15787036035058368420 tw1695939469112546218 tw9967310594116309296 tw8344906171985105586 tw7116581457122847626 tw6846448324725868773 tw6159361331089641856 tw5872191436820521619 tw17409968674951280803 tw14885583476584290844 tw14724147674918367600 tw13476172670751013680 tw13354347744298096874 tw13351036866186711183 tw10347131621546003096 tw9743140712050896005 tw2918796086552882457 tw195971239039691652 tw17313552854551415145 tw12484067590793927877 tw12130159491369437087 tw10645904292864819338 tw8998598864152247484 tw6219866037753986291 tw2574301907361712924 tw2047174748700652202 tw1941784516196275016 tw17002549945639769171 tw16389871610097133203 tw14625211371294486412 tw14107614821728468686 tw13931257711192662637 tw12200195214299284946 tw120958818024025369 tw11648288834695072889 tw10350235611824976775 tw11207322815560999922 tw8115232278561091695 tw5239202708883461381 tw2901573669283169253 tw11746121555784580090 tw196346233366558400 tw5945864180439330893 tw15530581329258401340 tw12577461119272330770 tw10154614478040260101 tw1718853869763404275 tw924459489082967614 tw7893927332560655060 tw6648181491260252336 tw4814217055023934582 tw3860275232173912533 tw18329062215506331022 tw16928435821882469026 tw15224713740798898676 tw7232689555492875829 tw558071612088756627 tw513418276270403000 tw14122852048177289474 tw8193563159211047936 tw17614757723889537180 tw10536269174718606032 tw4966467741894674778 tw9762370858731369728 tw4572961763999151340 tw985993750718739100 tw9673043533278190600 tw8602434437701090916 tw8269580263410052086 tw7834084808207118503 tw7618585282185314957 tw5596504361293782879 tw508395175747695606 tw419606738839366497 tw1340020224340621295 tw5580963673215304100 tw17381042409513646742 tw9808201005473843387 tw8909508957974695661 tw8064553757852689028 tw5979695088584960844 tw5689014896786638666 tw5429146313034638175 tw455547281661698771 tw3071087861624106674 tw2414185843986572695 tw208652668349245068 tw18318910307073535627 tw17678825125279202643 tw1538992288393778245 tw14548868357464065299 tw14180924615458112651 tw14049018324493985485 tw13458196905661797024 tw13187533329090380064 tw12449984264561185310 tw576189646773230731 tw12857424235253192383 tw9414888754108064143 tw9183036798479423525 tw8461158005526608559 tw7575113881530904487 tw7096362411203992159 tw5700860777725165929 tw5074932464126610054 tw5037189146808498080 tw15424876622299265319 tw15117972752119123758 tw14967188892537569523 tw14663320883001325509 tw137838508527904672 tw11293944558817431647 tw10959273813094707229 tw10652144788091583257 tw10276557136178096024 tw10100769562464806652 tw11454558946938456400 tw9768925398169700692 tw5742866400147998739 tw5001732077604172685 tw3098611341476854896 tw1860353945983374824 tw16942787502531368109 tw1638306021339100317 tw16358104318494384673 tw14321666082580971097 tw13780461381145151218 tw8880339459160812001 tw7466446027060828430 tw5647972880629015265 tw4686703094801089123 tw400349059314661063 tw307804137343975008 tw2238003758857528806 tw17446938636858003709 tw17094540085792897049 tw16064000650614924829 tw15982839885908499060 tw15261241222093703679 tw14392849493427477507 tw13086058512700630661 tw12208123252938016430 tw12089665100949155383 tw11130792979450062648 tw10916816944376387091 tw9896149642326604473 tw9871772923676913015 tw9869019730814551719 tw9731986933201326779 tw9424342114007430134 tw9309574306720580625 tw9267738450666598489 tw9197268256932182086 tw9194467378987854909 tw9187725608685242102 tw911883827657000335 tw910530986623680682 tw9075704785539262983 tw8900497515378159616 tw8880531657023933671 tw8873394618256708192 tw8861670665980429286 tw8846567044246011448 tw8788393600851474123 tw876275550217845083 tw8664087202811819512 tw8579521049414556350 tw8492659100701591718 tw8319744083118893921 tw8183684554440576499 tw817303358730174783 tw8158708752953559064 tw8005449622700055143 tw7957851328294016582 tw7885242605331028314 tw7731978564365650890 tw771935599411945103 tw7701957525802424312 tw7631074410204874810 tw7626236401999834560 tw7615717962320923717 tw7528651699078733779 tw751590558330538747 tw7468994120717765190 tw744800535726089638 tw7406016497818765050 tw7405609219412531361 tw738660962231202369 tw7319802442375320446 tw7272436892352262494 tw7270364327424579297 tw7254592889305987752 tw7202990582138589698 tw7186908900933226627 tw7153100319329749148 tw7086629853887430173 tw6979228460540795271 tw6867592642877238931 tw6657238260244898485 tw6641599487899182003 tw6635979489932729201 tw6499449700319687380 tw6441506887860210882 tw6415414481836793148 tw6371429146537317374 tw6331878872092600960 tw622757770651344507 tw6168175490461262197 tw6143666294878889700 tw6095536483250536964 tw6095511960332542492 tw5959019151624531461 tw5917173404396725560 tw5747989841532250922 tw5713441710038995085 tw562401458607272677 tw55804694279672230 tw5401050685647985713 tw537204833878782989 tw5370963515474383783 tw5357412275733294994 tw5256966043870998523 tw5239503590792340419 tw4989731344313107890 tw4880794572527124112 tw4865162211329273266 tw4821606941792291638 tw4739975490062565602 tw4685548543735885584 tw4402718666806116957 tw4369912363194428449 tw4365333704766777613 tw4274963228504495407 tw4246112106575969501 tw4141798582930419197 tw4041893478399528592 tw4033973487352290553 tw4018185707209128798 tw4001349579508459367 tw3879484518790955940 tw3856358495500244210 tw380595761386787941 tw3784828385398416975 tw3769832784665470164 tw3643689220588338996 tw3540537842206419379 tw3441000965848280391 tw3428474806509959614 tw33023580759319677 tw3292125573598681350 tw3259252963103697876 tw3075029551135512914 tw3052924276880559194 tw2990201790460310651 tw2950035186883755445 tw2842288158801583852 tw2793021849836170498 tw2790746478097794490 tw2756852903673128982 tw2737686401464650922 tw2719685458025499111 tw2668456100366271799 tw260037923087240761 tw2571191804361947840 tw2483490189752052018 tw2482855679666338096 tw2422229067852174049 tw239725255435984035 tw2349860303400498771 tw2244274865909194421 tw2208962326617158191 tw218487458453693161 tw2036162909527241791 tw1995843613754840947 tw199134433100202381 tw1885320555502577181 tw18360762451627840468 tw18324754860155302627 tw18191373814876445849 tw18081848716825070358 tw1799992333969276624 tw17907560820352769320 tw17841481608751614545 tw17814641483963572551 tw17807590444837398225 tw17706524662627885807 tw17635695618662900959 tw17628713282373078129 tw1757388876536262037 tw17494356632932403118 tw17341564774691715653 tw17293674353277062292 tw17225457154653406036 tw17207640796480942190 tw17071074645750323665 tw1700912458587687086 tw16992380019506116655 tw16947336314268753297 tw1692277088178348704 tw16862200837463137050 tw16806324567187644357 tw16653178388537554779 tw16589161929703669912 tw16485601006811255151 tw16478368255463240608 tw1641833039180028144 tw16399984390891068335 tw16382651057844702253 tw16346844378187412051 tw16317476273346865753 tw16254272066288520293 tw1615569758413084312 tw16154751705778923947 tw16149197420138072862 tw16124217289522242653 tw15990531364406361591 tw15872759191025479653 tw15826726230157730826 tw15724006592571273089 tw15588259602215875100 tw15397608036892116504 tw15351621998954878382 tw15309516274658362080 tw15169813586673327080 tw1513716793305201695 tw15111950137901002398 tw15101849925836283366 tw15088873518766085794 tw15079730851801526158 tw15027895803919557366 tw15025922827157998686 tw14962467353867469019 tw14958556027537325556 tw14774514153573842528 tw14739047656468701586 tw14714451766835020411 tw14635271465607648925 tw1462376370198377442 tw14618239256458383717 tw14606473483847520424 tw14582206705126452705 tw14571633616972019173 tw14500449970416244506 tw14424240850964345522 tw14338726230988534878 tw14150602955052576411 tw14103357677939046708 tw13997440697497790275 tw13959226302760917180 tw13956288724669680274 tw13891146175834921899 tw13888340830003466371 tw13763381775825893588 tw13550425014256810576 tw13530477248483759437 tw13441945151865862090 tw13363733751625869255 tw13355232794002599071 tw13293276947167380507 tw13257526133472436467 tw13170271501995104974 tw13145871468137390593 tw13124446871997301075 tw12909137180743399712 tw12870025315088087226 tw12869775132551770938 tw12810952226504774384 tw12769486964296765332 tw12736077161221401168 tw12315804799125436642 tw12311566921493215333 tw12103592374120167288 tw1205974390057858252 tw11959889793517268181 tw11891054472947568288 tw11889614820214965164 tw11811352591162443294 tw11662599880291049477 tw11652495465570560727 tw11589376192896486383 tw1158728592477896622 tw11505548287047209721 tw11502759865348925186 tw11449074175003504656 tw11388819215653338468 tw11342079912799203881 tw11278665131866181037 tw11244366374214130095 tw11226653216728642207 tw11179340546514722314 tw11172772492660760697 tw11155222481154548015 tw1111664766375711779 tw11049054510159569755 tw10989737674179815061 tw10830199931046125458 tw10821156547311603346 tw10814860859082736815 tw1081000537727769011 tw1078980633261734818 tw10676179486185343618 tw10662342298098088291 tw10556802174240938385 tw10545601889975307985 tw10528753303409120968 tw10494158277887872445 tw10359215814888912988 tw10134683283909380857 tw10079417615534680389 tw10062589545688757374 tw10012129457032685617:True)
open PySem PySem.W PyProof.Rows
set_option maxRecDepth 100000 in
set_option maxHeartbeats 0 in
theorem PySem.Challenge.cw_stillpoint_k24_whole_a_long_life_holds : PySem.Challenge.rw_stillpoint_k24_whole_a_long_life.Holds := by
 w_on;o_law;k_head;(case hw=>w_witness2)
 k_fill
 refine KS.walk (l:=PySem.Challenge.rw_stillpoint_k24_whole_a_long_life) rfl rfl (fun w h Y=>PySem.W.kIn_of Y) ?F
 case F=>
  intro w mg fa h KX G hmg
  refine' KS.ZyJ (g:=KS.Gs.mk ..) hmg (KS.Tx.mk ..)
  all_goals try dsimp only
  try any_goals refine' mg_of KX G ?_
  try any_goals refine' mg_none_of KX G ?_
  try any_goals refine' L2.Cls.mk ?_ ?_ ?_ ?_
  try any_goals refine' L2.Mk.mk ?_ ?_ ?_ ?_
  try any_goals refine' L2.Meth.mk ?_ ?_ ?_
  try any_goals refine' L2.Zyw ?_ ?_ ?_
  try any_goals refine' L2.ZeO.mk ?_
  try any_goals refine' L2.Zjx.mk ?_ (L2.ZwA ?_) ?_
  try any_goals refine' L2.Zvj.mk ?_ ?_ ?_ ?_ ?_
  try any_goals refine' L2.Zza ?_
  try any_goals refine' KS.Zw8 ?_
  try any_goals refine' KS.Zh1 ?_
  try any_goals k_is
  try any_goals kit_is
  try any_goals k_exc
  try any_goals (intro r;cases r <;> refine' L2.ZwC.mk ?_ ?_ ?_ ?_ ?_ (L2.ZwA ?_) ?_ ?_ <;> try dsimp only [KS.Gs.xa])
  try any_goals (intro r u;cases r <;> cases u <;> (try dsimp only [KS.Gs.xa]) <;> first | (show _=some true;kit_is) | (show _=some false;kit_is))
  try any_goals (intro r;cases r <;> try dsimp only [KS.Gs.xa])
  try any_goals k_is
  try any_goals kit_is
