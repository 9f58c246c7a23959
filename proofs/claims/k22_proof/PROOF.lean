import PyProof.Rows.All
import Wide.All
import OpenK.AllK
import Wide.FinOn
import Lean
import PyProof.EqAt
import PyProof.EqKinds
import PyProof.TupleCall
import PyProof.StrOps2
import KE.KEqDict
import PySem.Challenge.RW_stillpoint_k22_answers_of_ones_own
open PySem renaming wpAny_bind→Ya,wpAny_pure→Yd,FuncData→Yl,sizeLine→Ym,starEach→Yx,boot_len→YC,wpAny_newObj_type→YF,wpAny_callSpecial?_slot→YJ,wpAny_call_entry→YK,wpAny_field→Y3,wpAny_holding→Y6,wpAny_setField_rec→Y8,wpAny_mono→Xd,mainGlobals→Xj,wpAny_dictEntries→Xt,sysModules→Xy,wpAny_Call_Name_kw→XC,call_meets→XF,DictEntry→XG,wpAny_attempt→XH,wpAny_dictEpoch→XR,compareOp→XS,mem_of_lookup→XT,rawInt→X7,PyData→Wd,backTo→Wi,wpAny_typeNameOfWhole_itemiter→Wk,wpAny_seqItems→Wr,firstArgMember→Ws,wpAny_typeNameOfWhole_keyiter→Wt,binaryOp→Wv,tupleKind_room_in1→Ww,Paired→WA,behindInMarks→WG,wpAny_truthy_bool→WI,wpAny_setField→WQ,sizeLine_eq→WR,tupleKind→WY,attributeBase→W2,wpAny_loadPart'→W5,pyNext→W8,wpAny_fieldsOf→Yad,IsPair→Yaj,wpAny_isInstance→Yak,typeIs_str→Yam,IsItemIter→Yan,sliceBounds→Yar,codeAny→Yas,NameKind→Yau,wpAny_passesOwn→Yaw,letOwnedTupleGo→Yax,codeAny_mono→YaA,call_meetsIn→YaB,bootBuiltins→YaC,wpAny_pyIter_tuple→YaE,recursionLimit→YaF,isSubtype_stop→YaG,typeIs_int→YaJ,compEnvC→YaK,wpAny_binaryOp_repeat_ref→YaL,wpAny_Call_method→YaS,keywordEach→YaW,wpAny_newList→Ya3,wpAny_isOneOf_itemiter→Ybh,wpAny_execs_nil→Ybp,wpAny_notOrdered_dict→Ybz,wpAny_isOneOf_valiter→YbA,wpAny_updateSeq_pair→YbD,wpAny_newFunctionEnv→YbE
open List renaming length_map→Yb,length_append→Yf,getElem?_eq_getElem→Yh,size_toArray→Yn,getElem?_map→Yo,mem_cons_of_mem→Yr,getD_eq_getElem?_getD→Ys,map_cons→Yt,map_append→Yw,mem_of_getElem?→Yy,length_cons→Yz,mem_cons_self→YA,mem_append_right→YL,length_replicate→YM,take_of_length_le→YS,length_drop→YU,length_take→Y0,lookup_cons→Y5,take_succ_eq_append_getElem→Xb,append_nil→Xf,replicate_succ→Xg,flatten_cons→Xh,length_range→Xv,filterMap_cons→Xw,length_filter_le→XA,take_length→XE,map_map→XJ,lookup→XO,flatten_append→XU,not_mem_nil→X3,find?_cons→Wb,filter_cons_of_pos→Wm,filter_cons_of_neg→Wn,getElem_map→Wo,drop_length→Wq,map_replicate→Wy,getElem?_append_right→WL,getLastD_eq_getLast?→WT,mem_cons→W3,any_cons→W4,drop_of_length_le→Yab,toArray→Yag,cons_append→Yal,map_take→Yap,nodup_cons→Yay,map_nil→YaD,nodup_nil→YaH,drop_zero→YaI,getLast?_eq_getElem?→YaM,getElem?_zip_eq_some→YaN,getElem?_append_left→YaO,drop_eq_getElem_cons→YaP,count_append→YaU,length_filterMap_le→Ya1,take_nil→Ya5,lt_trans→Ya6,all_cons→Ya7,pairwise_singleton→Ybc,getElem_mem→Ybe,getElem_inj→Ybf,filter_cons→Ybg,getElem?_set_self→Ybl,filterMap_eq_map'→Ybm,of_mem_zip→Ybt,length_zip→Ybu,length_set→Ybv,length_nil→Ybw,forIn_cons→Ybx,take_append_drop→YbC,mem_append_left→YbG,length_dropLast→YbH,getElem?_set_ne→YbI,map_congr_left→YbO
open PySem.Heap renaming get?_push_of_some→Yc,get?_push_size→Yi,lt_size→Yj,get?_update_other→Xq,SameBut→Xx,size_push→XN,get?_update_self→Yai
open Nat renaming le_refl→Ye,le_trans→Yk,lt_of_lt_of_le→Yq,ne_of_lt→Yu,zero_le→Yv,lt_irrefl→YN,lt_of_le_of_lt→YO,succ_le_succ→Y4,min_eq_right→X2,le_succ→Wz,ne_of_gt→WB,min_eq_left→WD,le_add_right→WS,le_of_lt→WV,le_of_eq→WW,le_total→Yaf,le_succ_of_le→YaT,add_le_add_right→YbF
open PySem.W renaming Frag→Yg,findIn→Xm,tabIn→Xn,kia_one→Xo,emptyDict→Xu,fnOf→XI,keepIn→XM,kas_sort→XQ,envX→X1,instObj→X9,kas_asc→Wj,kla_obj→W6,callWith_K→W9,kitOne→Yae,kas_desc→Yat,plainGet→Ybd,cellsFrom_some→Ybi,nsIn→Ybo,hideAll→Ybr,plainGet_of→YbL,hideAll_get→YbM,callWith_K0→YbN
open Bool renaming false_ne_true→Yp,false_eq_true→YQ,and_eq_true→YV,or_false→Xs,or_eq_true→Xz,eq_iff_iff→WE,or_true→WX,false_or→Ya8,or_eq_false_iff→YbJ
open Option.some renaming inj→YB
open Option renaming getD_some→YD,map_some→Xe,isSome_none→X4,isSome_map→Yac
open Array renaming getD_eq_getD_getElem?→YE,length_toList→YH,getElem?_eq_getElem→YI,getElem?_toList→XB,getElem_toList→Yaq,getElem?_eq_none→Ybn
open PySem.NameKind renaming free→YG,cell→Yao
open PySem.F renaming plainAttrs_list→YR,plainAttrs_dict→YW,type_list_append→Xk,slot_list_append→Xl,slot_dict_get→X5,slot_dict_valueiterator_next→Wl,slot_dict_itemiterator_next→Wu,slot_dict_keyiterator_next→WC,slot_tuple_iterator_next→WM,slot_int_rmul→W7,entry_dict_get→Yaa,slot_dict_pop→Yah,type_dict_values→YaY,slot_dict_values→YaZ,args_tuple_add_2→Ya0,type_dict_items→Ya9,slot_dict_items→Yba,entry_tuple_add→Ybb,slot_tuple_add→Ybj,plainAttrs_str→Ybk,slot_zip_next→Yby,args_tuple_mul_2→YbS,args_str_split_2→YbT
open PyProof.Rows renaming seqObj→YT,callWith_type1→XY,slot_tuple_getitem→Wh,envOfC→WO,get?_update_seq→Ybq
open PySem.Builtin.Str renaming occurrences→YX,strSliceIndices→WH,subAt→WK,partsBetween→W0,strKind→Yaz
open PySem.SeqAt renaming shaped→YY
open PySem.Builtin.Dict_items renaming ownsTuple→YZ,ownedTupleIsFree→YbP,ownedTupleFields→YbQ
open PySem.Obj renaming mapSeq→Y1,data_mapFields→Wx,mapFields→Ya4,isFreed_of_fields→YbB
open PySem.PassesOwn renaming leaving→Y2,never→Ybs
open PySem.Builtin.SmallTypes renaming nextOf→Y7,ownedTupleIsFree→X0,ownedTupleHandOut→YbK
open PySem.Str renaming ofString→Y9
open False renaming elim→Xa
open Int renaming toNat_natCast→Xc,emod_lt_of_pos→YbR
open Sum renaming inr→Xp,inl→X8
open PySem.Paired renaming length→Xr,snoc→YaX
open PySem.Calls renaming spliced_cons→XD,callWith_builtin→XZ,evalArgs_plain→Wg,spliced_nil→WJ,call_function_entry→YaQ
open PySem.Heap.SameBut renaming update→XW
open True renaming intro→XX
open PySem.Builtin.Dict renaming showsAll→X6
open ForInStep renaming yield→Wc
open Ne renaming symm→WN
open PySem.Builtin.Slice renaming slicePlaces→WU,sliceAdjust→YaR
open PySem.Builtin.Tuple renaming tupleExact→WZ
open PySem.W.KasT renaming ret→Yav
open List.Pairwise renaming nil→YaV
open PySem.Builtin.List renaming listTooLong→Ya2
-- Li: your row's module here,as gs last of these rows
set_option Elab.async false
set_option linter.all false
set_option maxRecDepth 100000
namespace L2
open PySem PySem.Spec PyProof.Rows
abbrev Key:=Sum Int Str
def u_:Key->Value->Bool
 | .inl k,v=>Value.isInt k v
 | .inr x,v=>Value.isStrOf x v
def Km (w:World):Key->Int
 | .inl k=>hashInt k
 | .inr x=>hashStr w x
theorem oQ:∀ {k:Key} {v:Value},u_ k v=true->(∃ i t,k=X8 i/\v=Value.int i t)∨(∃ x t,k=Xp x/\v=Value.str x t)
 | .inl i,v,h=>by
  obtain ⟨t,e⟩:=Value.isInt_shape (k:=i) (v:=v) h;exact .inl ⟨i,t,rfl,e⟩
 | .inr x,v,h=>by
  obtain ⟨t,e⟩:=Value.isStrOf_shape (x:=x) (v:=v) h;exact .inr ⟨x,t,rfl,e⟩
theorem ZuS (i:Int) (t:Tok):u_ (.inl i) (.int i t)=true:=by simp [u_,Value.isInt]
theorem ZuR (x:Str) (t:Tok):u_ (.inr x) (.str x t)=true:=by simp [u_,Value.isStrOf]
theorem Zzp (a b:Int):decide ((X8 a:Key)=X8 b)=(a == b):=by
 by_cases e:a=b
 ·subst e;simp
 ·have h:¬ (X8 a:Key)=X8 b:=fun q=>e (Sum.inl.inj q);rw [decide_eq_false h];exact (beq_eq_false_iff_ne.mpr e).symm
theorem Zzm (a b:Str):decide ((Xp a:Key)=Xp b)=decide (a=b):=by
 by_cases e:a=b
 ·subst e;simp
 ·have h:¬ (Xp a:Key)=Xp b:=fun q=>e (Sum.inr.inj q);rw [decide_eq_false h,decide_eq_false e]
theorem Zzo (a:Int) (b:Str):decide ((X8 a:Key)=Xp b)=false:=decide_eq_false (fun q=>nomatch q)
theorem Zzn (a:Str) (b:Int):decide ((Xp a:Key)=X8 b)=false:=decide_eq_false (fun q=>nomatch q)
def Z4 (prog:Program) (w:World):PySem.KeyKind prog w Key where
 is:=u_
 hash:=Km w
 inj:=fun v a b ha hb=>by
  rcases oQ ha with ⟨i,t,rfl,rfl⟩ | ⟨x,t,rfl,rfl⟩
  ·rcases oQ hb with ⟨j,u,rfl,e⟩ | ⟨y,u,rfl,e⟩
   ·injection e with e1 _;rw [e1]
   ·exact nomatch e
  ·rcases oQ hb with ⟨j,u,rfl,e⟩ | ⟨y,u,rfl,e⟩
   ·exact nomatch e
   ·injection e with e1 _;rw [e1]
 byValue:=fun k v h=>by
  rcases oQ h with ⟨i,t,rfl,rfl⟩ | ⟨x,t,rfl,rfl⟩ <;> rfl
 pyHash:=fun hv h=>by
  rcases oQ hv with ⟨i,t,rfl,rfl⟩ | ⟨x,t,rfl,rfl⟩
  ·exact wpAny_pyHash_int h
  ·exact wpAny_pyHash_str h
 eqBool:=fun hu hv h=>by
  rcases oQ hu with ⟨i,t,rfl,rfl⟩ | ⟨x,t,rfl,rfl⟩
  ·rcases oQ hv with ⟨j,u,rfl,rfl⟩ | ⟨y,u,rfl,rfl⟩
   ·rw [Zzp] at h;exact wpAny_eqBool_int h
   ·rw [Zzo] at h;exact SeqAt.EqAt.int_str i t y u _ _ _ _ h
  ·rcases oQ hv with ⟨j,u,rfl,rfl⟩ | ⟨y,u,rfl,rfl⟩
   ·rw [Zzn] at h;exact SeqAt.EqAt.str_int x t j u _ _ _ _ h
   ·rw [Zzm] at h;exact wpAny_eqBool_str h
 «strs»:=fun k x t v h=>by
  rcases oQ h with ⟨i,u,rfl,e⟩ | ⟨y,u,rfl,e⟩
  ·exact nomatch e
  ·injection e with e1 _;subst e1
   cases v <;> rfl
theorem Zrb (prog:Program) (w:World) (i:Int) (t:Tok):(Z4 prog w).is (.inl i) (.int i t)=true:=ZuS i t
theorem Zra (prog:Program) (w:World) (x:Str) (t:Tok):(Z4 prog w).is (.inr x) (.str x t)=true:=ZuR x t
end L2
namespace L2
open PySem PySem.Spec PyProof.Rows
inductive V where
 | aL | bl (b:Bool) | int (i:Int) | str (x:Str) | j5 (b:Array UInt8) | oo (b:UInt64) | ref (a:Addr) | ty (n:String)
 deriving DecidableEq
def RelV:V->Value->Prop
 | .aL,u=>u=Value.none
 | .bl b,u=>u=Value.bool b
 | .int i,u=>∃ t,u=Value.int i t
 | .str x,u=>∃ t,u=Value.str x t
 | .j5 b,u=>∃ t,u=Value.bytes b t
 | .oo b,u=>∃ t,u=Value.float b t
 | .ref a,u=>u=Value.ref a
 | .ty n,u=>u=Value.type n
abbrev Vals:List V->List Value->Prop:=WA RelV
theorem Vals.length {xs:List V} {us:List Value} (r:Vals xs us):xs.length=us.length:=Xr r
theorem Vals.get:∀ {xs:List V} {us:List Value} {i:Nat} {x:V},Vals xs us->xs[i]?=some x->∃ u,us[i]?=some u/\RelV x u
 | _,_,_,_,.nil,e=>by simp at e
 | _,_,0,_,.cons r _,e=>by simp at e;subst e;exact ⟨_,rfl,r⟩
 | _,_,i + 1,x,.cons _ t,e=>by
  obtain ⟨u,h1,h2⟩:=Vals.get (i:=i) (x:=x) t (by simpa using e);exact ⟨u,by simpa using h1,h2⟩
theorem Vals.set {x:V} {u:Value} (r:RelV x u):∀ {xs:List V} {us:List Value} (i:Nat),Vals xs us->Vals (xs.set i x) (us.set i u)
 | _,_,_,.nil=>.nil
 | _,_,0,.cons _ t=>.cons r t
 | _,_,i + 1,.cons q t=>.cons q (Vals.set r i t)
theorem Vals.append:∀ {xs ys:List V} {us ws:List Value},Vals xs us->Vals ys ws->Vals (xs++ys) (us++ws)
 | _,_,_,_,.nil,s=>s
 | _,_,_,_,.cons r t,s=>.cons r (Vals.append t s)
theorem Vals.take:∀ {xs:List V} {us:List Value} (n:Nat),Vals xs us->Vals (xs.take n) (us.take n)
 | _,_,0,_=>.nil
 | _,_,_ + 1,.nil=>.nil
 | _,_,n + 1,.cons r t=>.cons r (Vals.take n t)
theorem Vals.drop:∀ {xs:List V} {us:List Value} (n:Nat),Vals xs us->Vals (xs.drop n) (us.drop n)
 | _,_,0,r=>r
 | _,_,_ + 1,.nil=>.nil
 | _,_,n + 1,.cons _ t=>Vals.drop n t
def bZ:Option V->Option Value->Prop
 | some v,some u=>RelV v u
 | none,none=>True
 | _,_=>False
def KV {κ:Type}:List (κ×V)->List (κ×Value)->Prop:=WA fun (p:κ×V) (q:κ×Value)=>p.1=q.1/\RelV p.2 q.2
def kV:Key->V
 | .inl i=>.int i
 | .inr x=>.str x
inductive HO where
 /-- a list -/
 | lst (xs:List V)
 /-- a tuple (never changes) -/
 | tup (xs:List V)
 /-- a dict zH keys are ints and texts;one zH keys are tuples of ints and texts (gs empty one is both) -/
 | dK (kvs:List (Key×V)) | dT (kvs:List (List Key×V))
 /-- a set of ints: its members,its size -/
 | set (S:Int->Bool) (n:Nat)
 /-- an instance of gs class at C,its dict at dx,its attributes -/
 | ins (C dx:Addr) (fs:List (Str×V))
 /-- gs dict of gs instance at x -/
 | own (x:Addr)
 /-- gs dict of an exception -/
 | xd (fs:List (Str×V))
 /-- a bound method,f of x -/
 | met (f x:Addr)
 /-- a range object lo,lo + 1,.. below hi -/
 | nR (lo hi:Int)
 /-- a gX JS is known to gs object (gs Lg;a dict zI a loop walks it): read,never written zI it is so -/
 | bt (o:Obj) (u:HO)
 /-- a code zZ table -/
 | cM (ps:Array Value)
 /-- any other gX,by what is true of its one object (a def of one's own: SetO a S n:=HO.ext fun h=>..) -/
 | ext (φ:Heap->Prop)
abbrev Hp:=Addr->Option HO
def upd (H:Hp) (a:Addr) (o:HO):Hp:=fun b=>if b=a then some o else H b
theorem Zb {H:Hp} {a:Addr} {o:HO}:upd H a o a=some o:=by unfold upd;rw [if_pos rfl]
theorem Zf {H:Hp} {a b:Addr} {o:HO} (h:b≠a):upd H a o b=H b:=by unfold upd;rw [if_neg h]
theorem ZR {H:Hp} {a b:Addr} {o u:HO} (h:H a=some o) (h':H b=some u) (d:o≠u):a≠b:=by
 intro e;subst e;rw [h] at h';exact d (YB h')
theorem Zg {H:Hp} {a b:Addr} {o:HO} (h:H a=some o) (h':H b=none):a≠b:=by
 intro e;subst e;rw [h] at h';cases h'
section
variable (P:Program) (w:World)
def bT (H:Hp) (h:Heap) (a:Addr):HO->Prop
 | .lst xs=>xs.length<=Ym/\∃ (its:List Value) (n:Nat),Vals xs its/\h.get? a=some {cls:=.type "list",data:=.seq its.toArray n}
 | .tup xs=>xs.length<=Ym/\∃ its:List Value,Vals xs its/\IsTup h a its.toArray
 | .dK kvs=>kvs.length<=Ym/\(a == Xy)=false/\∃ vs,KV kvs vs/\h.DictOf (Z4 P w) a vs
 | .dT kvs=>kvs.length<=Ym/\(a == Xy)=false/\∃ xs:List (List Key×Addr×Value),
   WA (fun (p:List Key×V) (q:List Key×Addr×Value)=>p.1=q.1/\H q.2.1=some (.tup (p.1.map kV))/\RelV p.2 q.2.2) kvs xs/\
   ∃ o es ep,h.get? a=some o/\o.ExactDict/\o.data=.dict es ep/\es.toList=xs.map (entryOfKey (WY (Z4 P w)))/\(xs.map (·.1)).Nodup
 | .set S n=>h.SetOf (intKind P w) a S n
 | .ins C dx fs=>H dx=some (.own a)/\fs.length<=1000/\dx≠a/\h.get? a=some (X9 C dx)/\
   ∃ mA,h.Ns1 dx mA/\(∀ f,bZ (fs.lookup f) (mA f))/\PySem.Within mA (fs.map (·.1))
 | .own _=>∃ o,h.get? a=some o
 | .xd fs=>∃ mA,h.Ns1 a mA/\∀ f,bZ (fs.lookup f) (mA f)
 | .nR lo hi=>∃ t u v,h.get? a=some {cls:=.type "range",data:=.fields #[.int lo t,.int hi u,.int 1 v]}
 | .bt o u=>h.get? a=some o/\bT H h a u
 | .cM ps=>h.get? a=some {cls:=.none,data:=.fields ps}
 | .met f x=>h.get? a=some (PySem.W.methodObj (.ref f) (.ref x))
 | .ext φ=>φ h/\(∃ o,h.get? a=some o)/\∀ h1 h2:Heap,φ h1->(∀ o,h1.get? a=some o->h2.get? a=some o)->φ h2
def cC (H:Hp) (h:Heap):Prop:=∀ a o,H a=some o->bT P w H h a o
end
section
variable {P:Program} {w:World} {H H':Hp} {h h':Heap} {a:Addr} {o:HO}
theorem bT.lt (x:bT P w H h a o):a < h.objs.size:=by
 cases o with
 | lst xs=>obtain ⟨_,_,_,_,e⟩:=x;exact Yj e
 | tup xs=>obtain ⟨_,_,_,p⟩:=x;exact p.lt
 | dK kvs=>obtain ⟨_,_,_,_,o,_,_,e,_⟩:=x;exact Yj e
 | dT kvs=>obtain ⟨_,_,_,_,o,_,_,e,_⟩:=x;exact Yj e
 | set S n=>obtain ⟨o,_,_,_,e,_⟩:=x;exact Yj e
 | ins C dx fs=>obtain ⟨_,_,_,e,_⟩:=x;exact Yj e
 | own y=>obtain ⟨_,e⟩:=x;exact Yj e
 | xd fs=>obtain ⟨_,⟨_,_,_,e,_⟩,_⟩:=x;exact Yj e
 | nR lo hi=>obtain ⟨_,_,_,e⟩:=x;exact Yj e
 | bt ob u=>obtain ⟨e,_⟩:=x;exact Yj e
 | cM ps=>exact Yj (show h.get? a=some _ from x)
 | met f y=>exact Yj (show h.get? a=some _ from x)
 | ext φ=>obtain ⟨_,⟨_,e⟩,_⟩:=x;exact Yj e
theorem Paired.tI {α β:Type} {F G:α->β->Prop}:∀ {zc:List α} {za:List β},WA F zc za->(∀ a b,F a b->G a b)->WA G zc za
 | _,_,.nil,_=>.nil
 | _,_,.cons r t,f=>.cons (f _ _ r) (Paired.tI t f)
theorem bT.c9 (x:bT P w H h a o) (k:∀ b u,(b=a∨H b=some (.own a))->h.get? b=some u->h'.get? b=some u)
  (ho:∀ b,H b=some (.own a)->H' b=some (.own a)) (ht:∀ b xs,H b=some (.tup xs)->H' b=some (.tup xs)):bT P w H' h' a o:=by
 induction o with
 | lst xs=>obtain ⟨z,its,n,r,e⟩:=x;exact ⟨z,its,n,r,k _ _ (.inl rfl) e⟩
 | tup xs=>obtain ⟨z,its,r,ob,e,c⟩:=x;exact ⟨z,its,r,ob,k _ _ (.inl rfl) e,c⟩
 | dK kvs=>obtain ⟨z,y,vs,r,ob,es,ep,e,c⟩:=x;exact ⟨z,y,vs,r,ob,es,ep,k _ _ (.inl rfl) e,c⟩
 | dT kvs=>
  obtain ⟨z,y,xs,r,ob,es,ep,e,c⟩:=x;exact ⟨z,y,xs,Paired.tI r fun p q z=>⟨z.1,ht _ _ z.2.1,z.2.2⟩,ob,es,ep,k _ _ (.inl rfl) e,c⟩
 | set S n=>obtain ⟨ob,es,ep,t,e,c⟩:=x;exact ⟨ob,es,ep,t,k _ _ (.inl rfl) e,c⟩
 | ins C dx fs=>
  obtain ⟨d,z,ne,e,mA,⟨od,es,ep,e2,c⟩,r⟩:=x;exact ⟨ho _ d,z,ne,k _ _ (.inl rfl) e,mA,⟨od,es,ep,k _ _ (.inr d) e2,c⟩,r⟩
 | own y=>obtain ⟨ob,e⟩:=x;exact ⟨ob,k _ _ (.inl rfl) e⟩
 | xd fs=>obtain ⟨mA,⟨od,es,ep,e,c⟩,r⟩:=x;exact ⟨mA,⟨od,es,ep,k _ _ (.inl rfl) e,c⟩,r⟩
 | nR lo hi=>obtain ⟨t,u,v,e⟩:=x;exact ⟨t,u,v,k _ _ (.inl rfl) e⟩
 | bt ob u ih=>obtain ⟨e,q⟩:=x;exact ⟨k _ _ (.inl rfl) e,ih q⟩
 | cM ps=>
  have e:h.get? a=some {cls:=.none,data:=.fields ps}:=x;show h'.get? a=some {cls:=.none,data:=.fields ps};exact k a _ (.inl rfl) e
 | met f y=>
  have e:h.get? a=some (PySem.W.methodObj (.ref f) (.ref y)):=x;show h'.get? a=some (PySem.W.methodObj (.ref f) (.ref y));exact k a _ (.inl rfl) e
 | ext φ=>obtain ⟨p,⟨o,e⟩,st⟩:=x;exact ⟨st _ _ p fun o q=>k _ _ (.inl rfl) q,⟨o,k _ _ (.inl rfl) e⟩,st⟩
theorem cC.lt (x:cC P w H h) (e:H a=some o):a < h.objs.size:=(x a o e).lt
theorem cC.fresh (x:cC P w H h) (e:h.objs.size<=a):H a=none:=by
 cases q:H a with
 | none=>rfl
 | some u=>exact absurd (Yq (x.lt q) e) (YN _)
theorem cC.kept (x:cC P w H h) (k:∀ b u,h.get? b=some u->h'.get? b=some u):cC P w H h':=fun a o e=>
 (x a o e).c9 (fun b u _ q=>k b u q) (fun _ q=>q) fun _ _ q=>q
theorem cC.laid (x:cC P w H h) (k:∀ b u,h.get? b=some u->h'.get? b=some u) (hp:h.objs.size<=a) (new:bT P w (upd H a o) h' a o):cC P w (upd H a o) h':=fun b u e=>by
 have hn:=x.fresh hp
 by_cases hb:b=a
 ·subst hb;rw [Zb] at e;cases e;exact new
 ·rw [Zf hb] at e;exact (x b u e).c9 (fun c v _ q=>k c v q) (fun c q=>by rw [Zf (Zg q hn)];exact q) fun c xs q=>by rw [Zf (Zg q hn)];exact q
end
def Rd (H:Hp) (a:Addr) (u:HO):Prop:=H a=some u∨∃ o,H a=some (.bt o u)
theorem Rd.ok {P:Program} {w:World} {H:Hp} {h:Heap} {a:Addr} {u:HO} (r:Rd H a u) (x:cC P w H h):bT P w H h a u:=by
 rcases r with r | ⟨o,r⟩
 ·exact x a u r
 ·obtain ⟨_,q⟩:=x a _ r;exact q
def yJ:Option HO->Prop
 | some (.lst _)=>True
 | some (.dK _)=>True
 | some (.dT _)=>True
 | some (.set _ _)=>True
 | some (.ins _ _ _)=>True
 | some (.ext _)=>True
 | _=>False
section
variable {P:Program} {w:World} {H:Hp} {h h':Heap} {x e:Addr} {o':HO}
theorem cC.write (ok:cC P w H h) (mu:yJ (H x)) (he:e=x∨H e=some (.own x)) (k:∀ b u,b≠e->h.get? b=some u->h'.get? b=some u) (uP:∃ u,h'.get? e=some u)
  (new:bT P w (upd H x o') h' x o'):cC P w (upd H x o') h':=fun b u q=>by
 have y_:∀ c y,H c=some (.own y)->c≠x:=fun c y r z=>by subst z;rw [r] at mu;exact mu
 have Kf:∀ c xs,H c=some (.tup xs)->c≠x:=fun c xs r z=>by subst z;rw [r] at mu;exact mu
 by_cases hb:b=x
 ·subst hb;rw [Zb] at q;cases q;exact new
 ·rw [Zf hb] at q
  by_cases rR:b=e
  ·have q':H b=some (.own x):=by
    rcases he with z | z
    ·exact absurd (rR.trans z) hb
    ·rw [rR];exact z
   rw [q] at q';cases q';obtain ⟨v,hv⟩:=uP;exact ⟨v,by rw [rR];exact hv⟩
  ·refine (ok b u q).c9 (fun c v hc r=>k c v ?_ r) (fun c r=>by rw [Zf (y_ c b r)];exact r) fun c xs r=>by rw [Zf (Kf c xs r)];exact r
   rcases hc with rfl | hc
   ·exact rR
   ·rintro rfl
    rcases he with z | z
    ·exact y_ c b hc z
    ·rw [hc] at z;cases z;exact hb rfl
end
structure Un (fs ex:List Addr) (H H':Hp) (h h':Heap):Prop where
 keep:∀ b o,h.get? b=some o->H b=none->b ∉ fs->b ∉ ex->h'.get? b=some o
 slot:∀ b o,h.get? b=some o->H b=none->b∈fs->b ∉ ex->∃ sl,h'.get? b=some {o with slots:=sl}
 free:∀ b o,h.get? b=some o->H b=none->b ∉ ex->H' b=none
 there:∀ b o,h.get? b=some o->b ∉ ex->∃ o',h'.get? b=some o'
 cG:∀ b xs,H b=some (.tup xs)->H' b=some (.tup xs)
 bU:∀ b o u,H b=some (.bt o u)->H' b=some (.bt o u)
 cj:∀ b ps,H b=some (.cM ps)->∃ more,H' b=some (.cM (ps++more))
section
variable {fs fs' ex ex':List Addr} {H H1 H2:Hp} {h h1 h2 h':Heap} {a x e:Addr} {o:HO}
theorem Un.any (u:Un fs ex H H1 h h1) {b:Addr} {ob:Obj} (q:h.get? b=some ob) (n:H b=none) (hx:b ∉ ex):∃ sl,h1.get? b=some {ob with slots:=sl}:=by
 by_cases hb:b∈fs
 ·exact u.slot b ob q n hb hx
 ·exact ⟨ob.slots,u.keep b ob q n hb hx⟩
theorem Un.kept (k:∀ b u,h.get? b=some u->h'.get? b=some u):Un fs ex H H h h':=
 ⟨fun b ob q _ _ _=>k b ob q,fun b ob q _ _ _=>⟨ob.slots,k b ob q⟩,fun _ _ _ n _=>n,fun b ob q _=>⟨ob,k b ob q⟩,fun _ _ q=>q,fun _ _ _ q=>q,fun _ ps q=>⟨#[],by rw [q];simp⟩⟩
theorem Un.refl:Un fs ex H H h h:=Un.kept fun _ _ q=>q
theorem Un.laid (k:∀ b u,h.get? b=some u->h'.get? b=some u) (hp:h.objs.size<=a) (hn:H a=none):Un fs ex H (upd H a o) h h' where
 keep:=fun b u q _ _ _=>k b u q
 slot:=fun b u q _ _ _=>⟨u.slots,k b u q⟩
 free:=fun b u q n _=>by rw [Zf (Yu (Yq (Yj q) hp))];exact n
 there:=fun b u q _=>⟨u,k b u q⟩
 cG:=fun b xs q=>by rw [Zf (Zg q hn)];exact q
 bU:=fun b u xs q=>by rw [Zf (Zg q hn)];exact q
 cj:=fun b ps q=>⟨#[],by rw [Zf (Zg q hn),q];simp⟩
theorem Un.write (mu:yJ (H x)) (he:e=x∨H e=some (.own x)) (k:∀ b u,b≠e->h.get? b=some u->h'.get? b=some u) (uP:∃ u,h'.get? e=some u):Un fs ex H (upd H x o) h h':=by
 have hx:∀ b,H b=none->b≠x:=fun b n z=>by subst z;rw [n] at mu;exact mu
 have hb:∀ b,H b=none->b≠e:=fun b n z=>by
  subst z;rcases he with r | r
  ·exact hx b n r
  ·rw [n] at r;cases r
 have hm:∀ b u,H b=some u->¬ yJ (some u)->b≠x:=fun b u q nm z=>by subst z;rw [q] at mu;exact nm mu
 refine ⟨fun b u q n _ _=>k b u (hb b n) q,fun b u q n _ _=>⟨u.slots,k b u (hb b n) q⟩,fun b u q n _=>by rw [Zf (hx b n)];exact n,fun b u q _=>?_,
  fun b xs q=>by rw [Zf (hm b _ q fun z=>z)];exact q,fun b u xs q=>by rw [Zf (hm b _ q fun z=>z)];exact q,fun b ps q=>⟨#[],by rw [Zf (hm b _ q fun z=>z),q];simp⟩⟩
 by_cases rR:b=e
 ·subst rR;exact uP
 ·exact ⟨u,k b u rR q⟩
end
def Ab (h:Heap) (H:Hp):List Addr:=(List.range h.objs.size).filter fun a=>(H a).isSome
def ck (h:Heap) (H:Hp):Heap:=Ybr h (Ab h H)
theorem Zp8 (h:Heap) (H:Hp):(ck h H).objs.size=h.objs.size:=PySem.W.hideAll_size _ _
theorem Zsd {h:Heap} {H:Hp} {b:Addr} {o:Obj} (e:h.get? b=some o) (n:H b=none):(ck h H).get? b=some o:=
 YbM _ e fun hm=>by
  have q:(H b).isSome=true:=(List.mem_filter.mp hm).2;rw [n] at q;simp at q
theorem Zut {h:Heap} {H:Hp} {b:Addr} {o:Obj} (e:(ck h H).get? b=some o):h.get? b=some o/\H b=none:=by
 have e':h.get? b=some o:=PySem.W.of_hideAll (Ab h H) e;refine ⟨e',?_⟩
 cases q:H b with
 | none=>rfl
 | some x=>
  have hm:b∈Ab h H:=List.mem_filter.mpr ⟨List.mem_range.mpr (Yj e'),by simp [q]⟩;have z:(ck h H).get? b=none:=PySem.W.hideAll_none (Ab h H) hm;rw [z] at e;cases e
end L2
namespace L2
open PySem PySem.Spec PyProof.Rows
structure Mod (K:Yg) (mg:Str->Option Value) (base:Heap):Prop where
 lP:K.In base
 glob:base.Ns Xj mg
 blt:∃ mb,base.Ns builtinsNs mb/\∀ x:Str,x≠"__name__"->mb x=YaC x
 nolimit:base.NoLimit
structure Cx where
 prog:Program
 w:World
 K:Yg
 mg:Str->Option Value
 base:Heap
 A:Around
 N:List Str
 au:Shared
 aN:Hp
 env:Env
 outer:List Env
 stack:List Env
 ex:List Addr
 fn:Str->Bool
 calm:Bool
 pn:List (Addr×Obj)
 xe:Value->Shared->Prop
def bL (l:List Env):List Addr:=l.filterMap (·.frame)
abbrev Cx.fs (X:Cx):List Addr:=bL X.outer
def Cn (sc:Scope) (x:Str):Prop:=sc.names.lookup x=some .local∨sc.names.lookup x=some .cell∨sc.names.lookup x=some .free
def Loc (sc:Scope) (x:Str):Prop:=sc.names.lookup x=some .local∨sc.names.lookup x=some .cell
def Look (env:Env) (h:Heap) (m:Str->Option Value) (x:Str) (u:Value):Prop:=
 (env.kindOf x=some .local/\m x=some u)∨((env.kindOf x=some .cell∨env.kindOf x=some .free)/\∃ c,env.cells.lookup x=some c/\h.IsCell c (some u))
structure Cx.Ok (X:Cx):Prop where
 mod:Mod X.K X.mg X.base
 kind:X.env.scope.kind=.function
 glob:X.env.globals=Xj
 blt:X.env.builtins=builtinsNs
 above:X.au.heap.objs.size<=X.env.locals
 inj:∀ x y c,X.env.cells.lookup x=some c->X.env.cells.lookup y=some c->x=y
 has:∀ x,(X.env.kindOf x=some .cell∨X.env.kindOf x=some .free)->∃ c,X.env.cells.lookup x=some c
 ng:∀ x c,X.fn x=true->X.env.cells.lookup x=some c->X.au.heap.objs.size<=c
 hd:X.calm=true->X.A.handled=none
 frames:X.A.frames=some X.stack
 pD:X.stack=X.outer∨(X.stack=X.env::X.outer/\X.env.frame=some X.env.locals)
 uY:∀ b∈X.ex,b≠X.env.locals/\∀ x c,X.env.cells.lookup x=some c->c≠b
 bs:∀ b o,X.base.get? b=some o->X.au.heap.get? b=some o/\X.aN b=none
 jB:X.base.objs.size<=X.au.heap.objs.size
 ig:∀ b o,X.base.get? b=some o->b ∉ X.ex
 gF:∀ b∈X.ex,b ∉ X.fs
 bI:X.au.heap.FunFrames X.base X.outer
 kJ:∀ b∈X.fs,X.aN b=none
structure Inv (X:Cx) (pins:List (Addr×Obj)) (σ:List (Option V)) (H:Hp) (s:Shared):Prop where
 ok:X.Ok
 os:s.os=X.au.os
 bare:AllBare s.gens
 base:Un X.fs X.ex X.aN H X.au.heap s.heap
 loc:∃ m,s.heap.Ns X.env.locals m/\∀ (i:Nat) (x:Str) (v:V),X.N[i]?=some x->σ[i]?=some (some v)->Cn X.env.scope x->∃ u,RelV v u/\Look X.env s.heap m x u
 cell:∀ x c,X.env.cells.lookup x=some c->∃ v,s.heap.IsCell c v
 free:H X.env.locals=none
 bf:∀ x c,X.env.cells.lookup x=some c->H c=none
 pin:∀ p∈X.pn++pins,s.heap.get? p.1=some p.2/\H p.1=none/\p.1≠X.env.locals/\p.1 ∉ X.fs/\∀ v,p.2.data≠.cell v
 aj:cC X.prog X.w H s.heap
 len:σ.length=X.N.length
section
variable {X:Cx} {pins:List (Addr×Obj)} {σ:List (Option V)} {H H':Hp} {s:Shared} {h':Heap}
theorem Cx.Ok.tH (ok:X.Ok) {b:Addr} {o:Obj} (e:X.base.get? b=some o):b ∉ X.fs:=fun hb=>by
 have:=(ok.bI.mem hb).1
 rw [e] at this;cases this
theorem Inv.bs (I:Inv X pins σ H s):∀ b o,X.base.get? b=some o->s.heap.get? b=some o/\H b=none:=fun b o e=>
 ⟨I.base.keep b o (I.ok.bs b o e).1 (I.ok.bs b o e).2 (I.ok.tH e) (I.ok.ig b o e),I.base.free b o (I.ok.bs b o e).1 (I.ok.bs b o e).2 (I.ok.ig b o e)⟩
theorem Inv.bk (I:Inv X pins σ H s):∀ b o,X.base.get? b=some o->s.heap.get? b=some o:=fun b o e=>(I.bs b o e).1
theorem Inv.mod (I:Inv X pins σ H s):Mod X.K X.mg X.base:=I.ok.mod
theorem Inv.cf (I:Inv X pins σ H s):X.K.In s.heap:=I.ok.mod.lP.keeps I.bk
theorem Inv.lt (I:Inv X pins σ H s):X.env.locals < s.heap.objs.size:=let ⟨_,hn,_⟩:=I.loc;hn.lt
theorem Inv.sz (I:Inv X pins σ H s):X.au.heap.objs.size<=s.heap.objs.size:=Yk I.ok.above (WV I.lt)
theorem Inv.Kh (I:Inv X pins σ H s) {a:Addr} (h:s.heap.objs.size<=a):a ∉ X.fs:=fun hb=>by
 obtain ⟨_,o,ho,_⟩:=I.ok.bI.mem hb;exact absurd (Yq (Yj ho) (Yk I.sz h)) (YN _)
theorem Inv.l_ (I:Inv X pins σ H s):∀ x c,X.env.cells.lookup x=some c->c≠X.env.locals:=fun x c e z=>by
 obtain ⟨v,o,ho,hd⟩:=I.cell x c e;obtain ⟨m,⟨o',es,ep,dP,xx,_⟩,_⟩:=I.loc;rw [z,dP] at ho;cases ho;rw [xx] at hd;cases hd
theorem Inv.bI (I:Inv X pins σ H s):s.heap.FunFrames X.base X.outer:=by
 have all:∀ (l:List Env),(∀ b∈bL l,b∈X.fs)->X.au.heap.FunFrames X.base l->s.heap.FunFrames X.base l:=by
  intro l
  induction l with
  | nil=>intro _ _;trivial
  | cons env r ih=>
   intro hs hl;obtain ⟨hk,⟨L,o,hf,hn,ho,hd⟩,hr⟩:=hl;have hL:L∈X.fs:=hs L (by unfold bL;rw [Xw,hf];exact YA);obtain ⟨sl,e⟩:=I.base.slot L o ho (I.ok.kJ L hL) hL fun z=>I.ok.gF L z hL;exact ⟨hk,⟨L,_,hf,hn,e,hd⟩,ih (fun b hb=>hs b (by unfold bL;rw [Xw,hf];exact Yr _ hb)) hr⟩
 exact all X.outer (fun _ hb=>hb) I.ok.bI
theorem Inv.stack (I:Inv X pins σ H s):s.heap.FunFrames X.base X.stack:=by
 rcases I.ok.pD with e | ⟨e,hf⟩
 ·rw [e];exact I.bI
 ·rw [e];obtain ⟨m,hn,_⟩:=I.loc;refine .cons (by rw [I.ok.kind];decide) hf hn ?_ I.bI;exact Heap.get?_none_of_le (Yk I.ok.jB I.ok.above)
theorem Inv.bV (I:Inv X pins σ H s):∀ b∈bL X.stack,b∈X.env.locals::X.fs:=fun b hb=>by
 rcases I.ok.pD with e | ⟨e,hf⟩
 ·rw [e] at hb;exact Yr _ hb
 ·rw [e] at hb;unfold bL at hb;rw [Xw,hf] at hb;exact hb
theorem Inv.cq (I:Inv X pins σ H s):∀ b∈bL X.stack,H b=none:=fun b hb=>by
 rcases List.mem_cons.mp (I.bV b hb) with e | hb
 ·rw [e];exact I.free
 ·obtain ⟨_,o,ho,_⟩:=I.ok.bI.mem hb;exact I.base.free b o ho (I.ok.kJ b hb) fun z=>I.ok.gF b z hb
theorem Inv.step {g':Array GenState} {t':Nat} {d':Drawn} {ch:List Addr} (I:Inv X pins σ H s)
  (jo:∀ b∈ch,(b∈X.ex∨X.au.heap.objs.size<=b)/\b≠X.env.locals/\(∀ x c,X.env.cells.lookup x=some c->c≠b)/\∀ p∈X.pn++pins,p.1≠b)
  (keep:∀ b o,b≠X.env.locals->b ∉ X.fs->b ∉ ch->s.heap.get? b=some o->H b=none->h'.get? b=some o)
  (slot:∀ b o,b≠X.env.locals->b∈X.fs->b ∉ ch->s.heap.get? b=some o->H b=none->∃ sl,h'.get? b=some {o with slots:=sl}) (free:∀ b o,b ∉ ch->s.heap.get? b=some o->H b=none->H' b=none)
  (there:∀ b o,b ∉ ch->s.heap.get? b=some o->∃ o',h'.get? b=some o')
  (cG:∀ b xs,H b=some (.tup xs)->H' b=some (.tup xs)) (bU:∀ b o u,H b=some (.bt o u)->H' b=some (.bt o u)) (cj:∀ b ps,H b=some (.cM ps)->∃ more,H' b=some (.cM (ps++more)))
  (ns:∀ m,s.heap.Ns X.env.locals m->h'.Ns X.env.locals m) (aj:cC X.prog X.w H' h') (hg:AllBare g') :
  Inv X pins σ H' {s with heap:=h',gens:=g',drawn:=d',toks:=t'}:=by
 have uC:∀ b o,X.au.heap.get? b=some o->b≠X.env.locals:=fun b o e=>Yu (Yq (Yj e) I.ok.above)
 have Ah:∀ b o,X.au.heap.get? b=some o->b ∉ X.ex->b ∉ ch:=fun b o e hx hb=>by
  rcases (jo b hb).1 with z | z
  ·exact hx z
  ·exact absurd (Yq (Yj e) z) (YN _)
 have cellK:∀ x c,X.env.cells.lookup x=some c->∀ v,s.heap.IsCell c v->h'.IsCell c v:=fun x c e v ⟨o,ho,hd⟩=>by
  have wN:c ∉ ch:=fun z=>(jo c z).2.2.1 x c e rfl
  by_cases hc:c∈X.fs
  ·obtain ⟨sl,q⟩:=slot c o (I.l_ x c e) hc wN ho (I.bf x c e);exact ⟨_,q,hd⟩
  ·exact ⟨o,keep c o (I.l_ x c e) hc wN ho (I.bf x c e),hd⟩
 refine ⟨I.ok,I.os,hg,⟨fun b o e n hb hx=>?_,fun b o e n hb hx=>?_,fun b o e n hx=>?_,fun b o e hx=>?_,fun b xs e=>cG b xs (I.base.cG b xs e),fun b o xs e=>bU b o xs (I.base.bU b o xs e),fun b ps e=>?_⟩,?_,fun x c e=>?_,?_,fun x c e=>?_,fun p hp=>?_,aj,I.len⟩
 ·exact keep b o (uC b o e) hb (Ah b o e hx) (I.base.keep b o e n hb hx) (I.base.free b o e n hx)
 ·obtain ⟨sl,e1⟩:=I.base.slot b o e n hb hx;obtain ⟨CJ,e2⟩:=slot b _ (uC b o e) hb (Ah b o e hx) e1 (I.base.free b o e n hx);exact ⟨CJ,e2⟩
 ·obtain ⟨o',e1⟩:=I.base.there b o e hx;exact free b o' (Ah b o e hx) e1 (I.base.free b o e n hx)
 ·obtain ⟨o',e1⟩:=I.base.there b o e hx;exact there b o' (Ah b o e hx) e1
 ·obtain ⟨m1,e1⟩:=I.base.cj b ps e;obtain ⟨m2,e2⟩:=cj b _ e1;exact ⟨m1++m2,by rw [e2,Array.append_assoc]⟩
 ·obtain ⟨m,hn,hl⟩:=I.loc;refine ⟨m,ns m hn,fun i x v e1 e2 e3=>?_⟩;obtain ⟨u,r,l⟩:=hl i x v e1 e2 e3;refine ⟨u,r,?_⟩;rcases l with l | ⟨k,c,e,z⟩
  ·exact .inl l
  ·exact .inr ⟨k,c,e,cellK x c e _ z⟩
 ·obtain ⟨v,z⟩:=I.cell x c e;exact ⟨v,cellK x c e v z⟩
 ·obtain ⟨m,⟨o,_,_,ho,_⟩,_⟩:=I.loc;exact free _ o (fun z=>(jo _ z).2.1 rfl) ho I.free
 ·obtain ⟨v,o,ho,hd⟩:=I.cell x c e;exact free c o (fun z=>(jo c z).2.2.1 x c e rfl) ho (I.bf x c e)
 ·obtain ⟨e,n,ne,nf,d⟩:=I.pin p hp;have wN:p.1 ∉ ch:=fun z=>(jo p.1 z).2.2.2 p hp rfl;exact ⟨keep p.1 p.2 ne nf wN e n,free p.1 p.2 wN e n,ne,nf,d⟩
theorem Inv.un {t':Nat} (I:Inv X pins σ H s) (u:Un X.fs [] H H' s.heap h') (aj:cC X.prog X.w H' h'):Inv X pins σ H' {s with heap:=h',toks:=t'}:=by
 obtain ⟨m,⟨o,es,ep,ho,r⟩,_⟩:=id I.loc;obtain ⟨sl,hL⟩:=u.any ho I.free (by simp)
 exact I.step (g':=s.gens) (d':=s.drawn) (ch:=[]) (fun _ z=>nomatch z) (fun b o _ hb _ e n=>u.keep b o e n hb (by simp)) (fun b o _ hb _ e n=>u.slot b o e n hb (by simp)) (fun b o _ e n=>u.free b o e n (by simp)) (fun b o _ e=>u.there b o e (by simp)) u.cG u.bU u.cj (fun m' hm=>by
  obtain ⟨o',es',r_,dP,r'⟩:=hm;rw [ho] at dP;cases dP;exact ⟨_,es',r_,hL,r'⟩) aj I.bare
theorem Inv.call {g':Array GenState} {t':Nat} {d':Drawn} {ch:List Addr} (I:Inv X pins σ H s) (u:Un (bL X.stack) ch H H' s.heap h') (aj:cC X.prog X.w H' h') (hg:AllBare g')
  (jo:∀ b∈ch,(b∈X.ex∨X.au.heap.objs.size<=b)/\b≠X.env.locals/\(∀ x c,X.env.cells.lookup x=some c->c≠b)/\∀ p∈X.pn++pins,p.1≠b) :
  Inv X pins σ H' {s with heap:=h',gens:=g',drawn:=d',toks:=t'}:=by
 obtain ⟨m,⟨o,es,ep,ho,r⟩,_⟩:=id I.loc;obtain ⟨sl,hL⟩:=u.any ho I.free fun z=>(jo _ z).2.1 rfl
 exact I.step (ch:=ch) jo (fun b o hL hb hc e n=>u.keep b o e n (fun z=>(List.mem_cons.mp (I.bV b z)).elim hL hb) hc) (fun b o _ _ hc e n=>u.any e n hc) (fun b o hc e n=>u.free b o e n hc) (fun b o hc e=>u.there b o e hc) u.cG u.bU u.cj (fun m' hm=>by
  obtain ⟨o',es',r_,dP,r'⟩:=hm;rw [ho] at dP;cases dP;exact ⟨_,es',r_,hL,r'⟩) aj hg
theorem Inv.turned {t':Nat} {it:Addr} (I:Inv X pins σ H s) (k:∀ b o,b≠it->s.heap.get? b=some o->h'.get? b=some o) (hn:H it=none) (hL:it≠X.env.locals)
  (h1:it∈X.ex∨X.au.heap.objs.size<=it) (h2:∀ x c,X.env.cells.lookup x=some c->c≠it) (h3:∀ p∈X.pn++pins,p.1≠it):Inv X pins σ H {s with heap:=h',toks:=t'}:=by
 have pH:∀ b u,H b=some u->b≠it:=fun b u e z=>by rw [z,hn] at e;cases e
 refine I.step (g':=s.gens) (d':=s.drawn) (ch:=[it]) (fun b hb=>?_) (fun b o _ _ hc e _=>k b o (fun z=>hc (by simp [z])) e) (fun b o _ _ hc e _=>⟨o.slots,k b o (fun z=>hc (by simp [z])) e⟩) (fun _ _ _ _ n=>n)
  (fun b o hc e=>⟨o,k b o (fun z=>hc (by simp [z])) e⟩) (fun _ _ e=>e) (fun _ _ _ e=>e) (fun b ps e=>⟨#[],by rw [e];simp⟩) (fun m hm=>?_) (fun b u e=>?_) I.bare
 ·have e:b=it:=by simpa using hb
  subst e;exact ⟨h1,hL,h2,h3⟩
 ·obtain ⟨o,es,ep,ho,r⟩:=hm;exact ⟨o,es,ep,k _ o (WN hL) ho,r⟩
 ·refine (I.aj b u e).c9 (fun c v hc q=>k c v ?_ q) (fun _ q=>q) fun _ _ q=>q;rcases hc with z | z
  ·rw [z];exact pH b u e
  ·exact pH c _ z
theorem Inv.tok (I:Inv X pins σ H s) (t:Nat):Inv X pins σ H {s with toks:=t}:=I.un (h':=s.heap) (t':=t) Un.refl I.aj
theorem Inv.kept {t':Nat} (I:Inv X pins σ H s) (k:∀ b u,s.heap.get? b=some u->h'.get? b=some u):Inv X pins σ H {s with heap:=h',toks:=t'}:=I.un (Un.kept k) (I.aj.kept k)
theorem Inv.laid {a:Addr} {o:HO} {t':Nat} (I:Inv X pins σ H s) (k:∀ b u,s.heap.get? b=some u->h'.get? b=some u) (hp:s.heap.objs.size<=a) (new:bT X.prog X.w (upd H a o) h' a o) :
  Inv X pins σ (upd H a o) {s with heap:=h',toks:=t'}:=I.un (Un.laid k hp (I.aj.fresh hp)) (I.aj.laid k hp new)
theorem Inv.write {x e:Addr} {o:HO} {t':Nat} (I:Inv X pins σ H s) (mu:yJ (H x)) (he:e=x∨H e=some (.own x)) (k:∀ b u,b≠e->s.heap.get? b=some u->h'.get? b=some u) (uP:∃ u,h'.get? e=some u)
  (new:bT X.prog X.w (upd H x o) h' x o):Inv X pins σ (upd H x o) {s with heap:=h',toks:=t'}:=I.un (Un.write mu he k uP) (I.aj.write mu he k uP new)
theorem Inv.kx {kq:List (Addr×Obj)} (I:Inv X pins σ H s) (h:∀ p∈kq,s.heap.get? p.1=some p.2/\H p.1=none/\p.1≠X.env.locals/\p.1 ∉ X.fs/\∀ v,p.2.data≠.cell v):Inv X kq σ H s:=
 ⟨I.ok,I.os,I.bare,I.base,I.loc,I.cell,I.free,I.bf,fun p hp=>(List.mem_append.mp hp).elim (fun z=>I.pin p (YbG _ z)) (h p),I.aj,I.len⟩
theorem EX {N:List Str} (hN:N.Nodup) {i j:Nat} {x:Str} (a:N[i]?=some x) (b:N[j]?=some x):i=j:=by
 obtain ⟨h1,e1⟩:=List.getElem?_eq_some_iff.mp a;obtain ⟨h2,e2⟩:=List.getElem?_eq_some_iff.mp b;exact (Ybf hN).mp (e1.trans e2.symm)
theorem Zpc {M:Model} {A:Around} {E:Value->Shared->Prop} {i:Nat} {x:Str} {v:V} {u:Value} {Q:Unit->Shared->Prop} (I:Inv X pins σ H s) (hN:X.N.Nodup) (hi:X.N[i]?=some x) (hx:Loc X.env.scope x) (r:RelV v u)
  (h:∀ s',Inv X pins (σ.set i (some v)) H s'->(∃ a,Xx a s.heap s'.heap/\(a=X.env.locals∨X.env.cells.lookup x=some a))->Q () s') (hf:X.fn x=true∨X.env.scope.names.lookup x=some .local:=by first | exact .inl rfl | exact .inr rfl | assumption):wpAny M A (storeName X.env x u) Q E s:=by
 obtain ⟨m,hn,hl⟩:=id I.loc;have tZ:(X.env.scope.kind == .class || (X.env.scope.kind == .module && X.env.locals != X.env.globals))=false:=by rw [I.ok.kind];rfl
 have zu:i < σ.length:=by rw [I.len];exact (List.getElem?_eq_some_iff.mp hi).1
 have l_:=I.l_
 have tracked:∀ {a:Addr} {h':Heap},(∃ o,s.heap.get? a=some o/\H a=none)->Xx a s.heap h'->cC X.prog X.w H h':=fun {a h'} ha hs b ob e=>by
  obtain ⟨_,_,eS⟩:=ha;refine (I.aj b ob e).c9 (fun c w' hc q=>(hs.2 c ?_).trans q) (fun _ q=>q) fun _ _ q=>q
  rintro rfl
  rcases hc with rfl | hc
  ·rw [eS] at e;cases e
  ·rw [eS] at hc;cases hc
 rcases hx with hk | hk
 ·refine wpAny_storeName_local hk hn (fun h' uM hs=>?_) tZ;obtain ⟨oL,_,_,hoL,_⟩:=id hn;refine h _ ⟨I.ok,I.os,I.bare,⟨fun b o e n hb hx=>?_,fun b o e n hb hx=>?_,I.base.free,fun b o e hx=>?_,I.base.cG,I.base.bU,I.base.cj⟩,⟨_,uM,fun j y v' e1 e2 e3=>?_⟩,fun y c e=>?_,I.free,I.bf,fun p hp=>?_,tracked ⟨oL,hoL,I.free⟩ hs,by simpa using I.len⟩ ⟨_,hs,.inl rfl⟩
  ·exact (hs.2 b (Yu (Yq (Yj e) I.ok.above))).trans (I.base.keep b o e n hb hx)
  ·obtain ⟨sl,e1⟩:=I.base.slot b o e n hb hx;exact ⟨sl,(hs.2 b (Yu (Yq (Yj e) I.ok.above))).trans e1⟩
  ·obtain ⟨o',e1⟩:=I.base.there b o e hx;exact ⟨o',(hs.2 b (Yu (Yq (Yj e) I.ok.above))).trans e1⟩
  ·by_cases hj:j=i
   ·subst hj;rw [hi] at e1;cases e1;rw [Ybl zu] at e2
    cases e2
    exact ⟨u,r,.inl ⟨hk,by simp⟩⟩
   ·rw [YbI (WN hj)] at e2;obtain ⟨u',r',q⟩:=hl j y v' e1 e2 e3;refine ⟨u',r',?_⟩;rcases q with ⟨k,e⟩ | ⟨k,c,e,z⟩
    ·refine .inl ⟨k,?_⟩
     have:y≠x:=fun e=>hj (EX hN e1 (e ▸ hi))
     simp [this,e]
    ·exact .inr ⟨k,c,e,z.sameBut hs (l_ y c e)⟩
  ·obtain ⟨w',z⟩:=I.cell y c e;exact ⟨w',z.sameBut hs (l_ y c e)⟩
  ·obtain ⟨e,n,ne,nf,d⟩:=I.pin p hp;exact ⟨(hs.2 p.1 ne).trans e,n,ne,nf,d⟩
 ·have xp:X.fn x=true:=by
   rcases hf with z | z
   ·exact z
   ·rw [z] at hk;cases hk
  obtain ⟨c,hc⟩:=I.ok.has x (.inl hk);obtain ⟨w',z⟩:=I.cell x c hc;refine wpAny_storeName_cell I.ok.kind hk hc z (fun h' kI hs=>?_);obtain ⟨oc,xi,KH⟩:=id z;refine h {s with heap:=h'} ⟨I.ok,I.os,I.bare,⟨fun b o e n hb hx=>?_,fun b o e n hb hx=>?_,I.base.free,fun b o e hx=>?_,I.base.cG,I.base.bU,I.base.cj⟩,⟨m,hn.sameBut hs (WN (l_ x c hc)),fun j y v' e1 e2 e3=>?_⟩,fun y c' e=>?_,I.free,I.bf,fun p hp=>?_,tracked ⟨oc,xi,I.bf x c hc⟩ hs,by simpa using I.len⟩ ⟨c,hs,.inr hc⟩
  ·exact (hs.2 b (Yu (Yq (Yj e) (I.ok.ng x c xp hc)))).trans (I.base.keep b o e n hb hx)
  ·obtain ⟨sl,e1⟩:=I.base.slot b o e n hb hx;exact ⟨sl,(hs.2 b (Yu (Yq (Yj e) (I.ok.ng x c xp hc)))).trans e1⟩
  ·obtain ⟨o',e1⟩:=I.base.there b o e hx;exact ⟨o',(hs.2 b (Yu (Yq (Yj e) (I.ok.ng x c xp hc)))).trans e1⟩
  ·by_cases hj:j=i
   ·subst hj;rw [hi] at e1;cases e1;rw [Ybl zu] at e2
    cases e2
    exact ⟨u,r,.inr ⟨.inl hk,c,hc,kI⟩⟩
   ·rw [YbI (WN hj)] at e2;obtain ⟨u',r',q⟩:=hl j y v' e1 e2 e3;refine ⟨u',r',?_⟩;rcases q with q | ⟨k,c',e,z'⟩
    ·exact .inl q
    ·refine .inr ⟨k,c',e,z'.sameBut hs ?_⟩
     rintro rfl
     exact hj (EX hN e1 (I.ok.inj _ _ _ e hc ▸ hi))
  ·by_cases AA:c'=c
   ·subst AA;exact ⟨_,kI⟩
   ·obtain ⟨w2,z2⟩:=I.cell y c' e;exact ⟨w2,z2.sameBut hs AA⟩
  ·obtain ⟨e,n,ne,nf,d⟩:=I.pin p hp;refine ⟨(hs.2 p.1 ?_).trans e,n,ne,nf,d⟩;intro q;rw [q,xi] at e;have q':oc=p.2:=YB e;exact d w' (by rw [<- q'];exact KH)
theorem Fe {M:Model} {A:Around} {E:Value->Shared->Prop} {i:Nat} {x:Str} {v:V} {u:Value} {Q:Unit->Shared->Prop} (I:Inv X pins σ H s) (hN:X.N.Nodup) (hi:X.N[i]?=some x) (hx:Loc X.env.scope x) (r:RelV v u)
  (h:∀ s',Inv X pins (σ.set i (some v)) H s'->Q () s') (hf:X.fn x=true∨X.env.scope.names.lookup x=some .local:=by first | exact .inl rfl | exact .inr rfl | assumption):wpAny M A (storeName X.env x u) Q E s:=
 Zpc I hN hi hx r (fun s' I' _=>h s' I') hf
theorem Inv.qS {s':Shared} {ch:List Addr} (I:Inv X pins σ H s) (ho:s'.os=s.os) (u:Un (bL X.stack) ch H H' s.heap s'.heap) (aj:cC X.prog X.w H' s'.heap) (hg:AllBare s'.gens)
  (jo:∀ b∈ch,(b∈X.ex∨X.au.heap.objs.size<=b)/\b≠X.env.locals/\(∀ x c,X.env.cells.lookup x=some c->c≠b)/\∀ p∈X.pn++pins,p.1≠b):Inv X pins σ H' s':=by
 obtain ⟨h',g',d',t',o'⟩:=s';have e:o'=s.os:=ho;subst e;exact I.call (g':=g') (t':=t') (d':=d') u aj hg jo
end
abbrev XK:=Value->Option Addr->Hp->Prop
abbrev St:=List (Option V)
abbrev VK:=V->Hp->Prop
abbrev TE:=St->Hp->VK->Prop
abbrev TT:=St->Hp->(Bool->Hp->Prop)->Prop
abbrev TA:=St->Hp->(List V->Hp->Prop)->Prop
structure Ends where
 nx:St->Hp->Prop
 rt:VK
 bk:St->Hp->Prop:=fun _ _=>False
 ct:St->Hp->Prop:=fun _ _=>False
abbrev TS:=Ends->St->Hp->Prop
def EP (X:Cx) (pins:List (Addr×Obj)) (σ:St) (Q:VK) (u:Value) (s':Shared):Prop:=∃ v H',Inv X pins σ H' s'/\RelV v u/\Q v H'
def TP (X:Cx) (pins:List (Addr×Obj)) (σ:St) (Q:Bool->Hp->Prop) (b:Bool) (s':Shared):Prop:=∃ H',Inv X pins σ H' s'/\Q b H'
def AP (X:Cx) (pins:List (Addr×Obj)) (σ:St) (Q:List V->Hp->Prop) (us:List Value) (s':Shared):Prop:=∃ vs H',Inv X pins σ H' s'/\Vals vs us/\Q vs H'
def SP (X:Cx) (pins:List (Addr×Obj)) (D:Ends) (f:Flow) (s':Shared):Prop:=
 match f with
 | .next=>∃ aC H',Inv X pins aC H' s'/\D.nx aC H'
 | .brk=>∃ aC H',Inv X pins aC H' s'/\D.bk aC H'
 | .cont=>∃ aC H',Inv X pins aC H' s'/\D.ct aC H'
 | .ret u=>∃ v aC H',Inv X pins aC H' s'/\RelV v u/\D.rt v H'
@[irreducible] def PE (X:Cx) (e:Expr) (t:TE):Prop:=
 ∀ (pins:List (Addr×Obj)) (s:Shared) (σ:St) (H:Hp) (Q:VK),Inv X pins σ H s->t σ H Q->wpAny (model X.prog X.w) X.A (eval e X.env) (EP X pins σ Q) X.xe s
def PT (X:Cx) (e:Expr) (t:TT):Prop:=
 ∀ (pins:List (Addr×Obj)) (s:Shared) (σ:St) (H:Hp) (Q:Bool->Hp->Prop),Inv X pins σ H s->t σ H Q->wpAny (model X.prog X.w) X.A (isTrue e X.env (eval e X.env)) (TP X pins σ Q) X.xe s
def PW (X:Cx) (e:Expr) (t:TT):Prop:=
 ∀ (whole:Sem Value) (pins:List (Addr×Obj)) (s:Shared) (σ:St) (H:Hp) (Q:Bool->Hp->Prop),Inv X pins σ H s->t σ H Q->wpAny (model X.prog X.w) X.A (isTrue e X.env whole) (TP X pins σ Q) X.xe s
theorem PW.pt {X:Cx} {e:Expr} {t:TT} (h:PW X e t):PT X e t:=h _
@[irreducible] def PA (X:Cx) (es:List Expr) (t:TA):Prop:=
 ∀ (pos:Pos) (pins:List (Addr×Obj)) (s:Shared) (σ:St) (H:Hp) (Q:List V->Hp->Prop),Inv X pins σ H s->t σ H Q->wpAny (model X.prog X.w) X.A (spliced (Wi pos (Yx es X.env))) (AP X pins σ Q) X.xe s
@[irreducible] def PS (X:Cx) (st:Stmt) (t:TS):Prop:=
 ∀ (pins:List (Addr×Obj)) (s:Shared) (σ:St) (H:Hp) (D:Ends),Inv X pins σ H s->t D σ H->wpAny (model X.prog X.w) X.A (exec st X.env) (SP X pins D) X.xe s
@[irreducible] def eR (X:Cx) (st:List Stmt) (t:TS):Prop:=
 ∀ (pins:List (Addr×Obj)) (s:Shared) (σ:St) (H:Hp) (D:Ends),Inv X pins σ H s->t D σ H->wpAny (model X.prog X.w) X.A (execs st X.env) (SP X pins D) X.xe s
theorem aH {α:Type} {t:Sem α} {Q Q':α->Shared->Prop} {M:Model} {A:Around} {E:Value->Shared->Prop} {s:Shared} (h:wpAny M A t Q E s) (hQ:∀ a s,Q a s->Q' a s):wpAny M A t Q' E s:=Xd h hQ fun _ _ x=>x
end L2
namespace L2
open PySem PySem.Spec PyProof.Rows
section
variable {X:Cx}
def aO (i:Nat):TE:=fun σ H Q=>∃ v,σ[i]?=some (some v)/\Q v H
def tC (v:V):TE:=fun _ H Q=>Q v H
theorem Zw1 {i:Nat} {x:Str} {pos:Pos} (hN:X.N[i]?=some x) (hv:Cn X.env.scope x) (hd:(x == ("__debug__":Str))=false:=by decide) (gx:(x == ("__classdict__":Str))=false:=by decide):PE X (.Name x pos) (aO i):=by
 try unfold PE at *
 intro pins s σ H Q I h;obtain ⟨v,e,h⟩:=h;obtain ⟨m,hn,hl⟩:=I.loc;obtain ⟨u,r,l⟩:=hl i x v hN e hv;have fin:EP X pins σ Q u s:=⟨v,H,I,r,h⟩
 rcases l with ⟨hk,hm⟩ | ⟨hk,c,hc,qP⟩
 ·exact wpAny_Name (wpAny_loadName_local I.ok.kind hk hn hm fin) hd
 ·rcases hk with hk | hk
  ·exact wpAny_Name (wpAny_loadName_cell I.ok.kind hk hc qP fin) hd
  ·exact wpAny_Name (wpAny_loadName_free I.ok.kind hk hc qP fin gx) hd
theorem Zl {i j pos}:PE X (.Constant (.int i) j pos) (tC (.int i)):=by
 try unfold PE at *
 exact fun _ _ _ H _ I h=>wpAny_Constant_int ⟨.int i,H,I.tok _,⟨_,rfl⟩,h⟩
theorem nh {b j pos}:PE X (.Constant (.bool b) j pos) (tC (.bl b)):=by
 try unfold PE at *
 exact fun _ _ _ H _ I h=>Constant_bool ⟨.bl b,H,I,rfl,h⟩
theorem Eo {j pos}:PE X (.Constant .none j pos) (tC .aL):=by
 try unfold PE at *
 exact fun _ _ _ H _ I h=>Constant_none ⟨.aL,H,I,rfl,h⟩
theorem Zr {x j pos}:PE X (.Constant (.str x) j pos) (tC (.str x)):=by
 try unfold PE at *
 exact fun _ _ _ H _ I h=>Calls.Constant_str ⟨.str x,H,I.tok _,⟨_,rfl⟩,h⟩
def Gl (X:Cx) (x:Str):Prop:=X.env.kindOf x=some .globalImplicit
theorem qi {E:Value->Shared->Prop} {pins:List (Addr×Obj)} {s:Shared} {σ:St} {H:Hp} {x:Str} {u:Value} {pos:Pos} {Q:Value->Shared->Prop} (I:Inv X pins σ H s) (hg:Gl X x) (hm:X.mg x=some u) (h:Q u s)
  (hd:(x == ("__debug__":Str))=false:=by decide):wpAny (model X.prog X.w) X.A (eval (.Name x pos) X.env) Q E s:=
 Calls.Name_function_global I.ok.kind hg (Calls.loadGlobal_global (by rw [I.ok.glob];exact I.mod.glob.keeps I.bk) hm h) hd
theorem sG {E:Value->Shared->Prop} {pins:List (Addr×Obj)} {s:Shared} {σ:St} {H:Hp} {x:Str} {u:Value} {pos:Pos} {Q:Value->Shared->Prop} (I:Inv X pins σ H s) (hg:Gl X x) (hm:X.mg x=none) (hv:YaC x=some u) (h:Q u s)
  (hn:x≠"__name__":=by decide) (hd:(x == ("__debug__":Str))=false:=by decide):wpAny (model X.prog X.w) X.A (eval (.Name x pos) X.env) Q E s:=by
 obtain ⟨mb,h1,h2⟩:=I.mod.blt;exact Calls.Name_function_global I.ok.kind hg (Calls.loadGlobal_builtin (by rw [I.ok.glob];exact I.mod.glob.keeps I.bk) hm (by rw [I.ok.blt];exact h1.keeps I.bk) ((h2 x hn).trans hv) h) hd
theorem ZJ {x:Str} {v:V} {u:Value} {pos:Pos} (hg:Gl X x) (hm:X.mg x=some u) (r:RelV v u) (hd:(x == ("__debug__":Str))=false:=by decide):PE X (.Name x pos) (tC v):=by
 try unfold PE at *
 exact
  fun _ _ _ H _ I h=>qi I hg hm ⟨v,H,I,r,h⟩ hd
theorem EM {x:Str} {v:V} {u:Value} {pos:Pos} (hg:Gl X x) (hm:X.mg x=none) (hv:YaC x=some u) (r:RelV v u) (hn:x≠"__name__":=by decide) (hd:(x == ("__debug__":Str))=false:=by decide):PE X (.Name x pos) (tC v):=by
 try unfold PE at *
 exact
  fun _ _ _ H _ I h=>sG I hg hm hv ⟨v,H,I,r,h⟩ hn hd
variable {a b:Expr} {ta tb:TE} {pos:Pos}
def PC (X:Cx) (op:CmpOp) (a b:Expr) (t:TE):Prop:=
 ∀ (pins:List (Addr×Obj)) (s:Shared) (σ:St) (H:Hp) (Q:VK),Inv X pins σ H s->t σ H Q->
  wpAny (model X.prog X.w) X.A (eval a X.env) (fun v aD=>wpAny (model X.prog X.w) X.A (eval b X.env) (fun u fN=>wpAny (model X.prog X.w) X.A (XS op v u) (EP X pins σ Q) X.xe fN) X.xe aD) X.xe s
theorem Zr0 (b:Expr) {op:CmpOp} (h:op≠.In) (h2:op≠.NotIn):WG op b=false:=by
 have e1:(op == CmpOp.In)=false:=by cases op <;> first | rfl | exact absurd rfl h
 have e2:(op == CmpOp.NotIn)=false:=by cases op <;> first | rfl | exact absurd rfl h2
 cases b <;> simp [WG,e1,e2]
def JY (ta:TE):TE:=fun σ H Q=>ta σ H fun x H1=>Q (.bl (decide (x=.aL))) H1
def Zz2 (ta:TE):TE:=fun σ H Q=>ta σ H fun x H1=>Q (.bl (!decide (x=.aL))) H1
theorem RelV.jd {x:V} {v:Value} (r:RelV x v):(v == Value.none)=decide (x=.aL):=by
 cases x with
 | aL=>cases r;rfl
 | bl _=>cases r;rfl
 | int _=>obtain ⟨t,rfl⟩:=r;rfl
 | str _=>obtain ⟨t,rfl⟩:=r;rfl
 | j5 _=>obtain ⟨t,rfl⟩:=r;rfl
 | oo _=>obtain ⟨t,rfl⟩:=r;rfl
 | ref _=>cases r;rfl
 | ty _=>cases r;rfl
theorem Zw4 {j pos'} (ha:PE X a ta):PC X .Is a (.Constant .none j pos') (JY ta):=by
 try unfold PE at *
 intro pins s σ H Q I h;refine aH (ha pins s σ H _ I h) fun v s1 ⟨x,H1,I1,r1,q1⟩=>?_;exact Constant_none (is_none_gen ⟨.bl _,H1,I1,by rw [r1.jd];rfl,q1⟩)
theorem ZxO {j pos'} (ha:PE X a ta):PC X .IsNot a (.Constant .none j pos') (Zz2 ta):=by
 try unfold PE at *
 intro pins s σ H Q I h;refine aH (ha pins s σ H _ I h) fun v s1 ⟨x,H1,I1,r1,q1⟩=>?_;exact Constant_none (isnot_none_gen ⟨.bl _,H1,I1,by rw [r1.jd];rfl,q1⟩)
def tB (t:TE):TT:=fun σ H Q=>t σ H fun x H1=>∃ c,x=.bl c/\Q c H1
theorem Zw3 {op:CmpOp} {t:TE} (h:PC X op a b t) (h1:WG op b=false:=by first | exact Zr0 _ (by decide) (by decide) | rfl):PE X (.Compare a [op] [b] pos) t:=by
 try unfold PE at *
 exact fun pins s σ H Q I hw=>wpAny_Compare1 (h pins s σ H Q I hw) h1
theorem h9 {op:CmpOp} {t:TE} (h:PC X op a b t) (h1:WG op b=false:=by first | exact Zr0 _ (by decide) (by decide) | rfl):PT X (.Compare a [op] [b] pos) (tB t):=by
 try unfold PE at *;try unfold PA at *
 intro pins s σ H Q I hw;refine wpAny_isTrue_Compare1 (aH (h pins s σ H _ I hw) fun v s1 h1=>aH h1 fun u s2 h2=>aH h2 fun c s3 ⟨x,H1,I1,r1,q1⟩=>?_) h1;obtain ⟨d,rfl,q⟩:=q1
 cases r1
 exact WI ⟨H1,I1,q⟩
theorem md {e:Expr} {t:TE} (h:PE X e t) (he:∀ whole,isTrue e X.env whole=(do let v <- whole;standAt e.pos;holding [v] (truthy v)):=by intro _;rfl):PT X e (tB t):=by
 try unfold PE at *
 intro pins s σ H Q I hw;refine isTrue_plain (aH (h pins s σ H _ I hw) fun v s1 ⟨x,H1,I1,r1,q1⟩=>?_) (he _);obtain ⟨d,rfl,q⟩:=q1
 cases r1
 exact WI ⟨H1,I1,q⟩
variable {tA tB':TT} {rest:List Expr}
def tOr (t u:TT):TT:=fun σ H Q=>t σ H fun c H1=>if c=true then Q true H1 else u σ H1 Q
def JV (t:TT):TT:=fun σ H Q=>t σ H fun c H1=>Q (!c) H1
theorem qf (ha:PT X a tA):PW X (.BoolOp .Or [a] pos) tA:=by
 try unfold PE at *;try unfold PA at *
 intro wh pins s σ H Q I h;refine isTrue_or (aH (ha pins s σ H Q I h) fun c s1 e=>?_)
 cases c with
 | false=>exact isTrue_or_nil e
 | true=>exact e
theorem l' (ha:PT X a tA) (hb:PW X (.BoolOp .Or (b::rest) pos) tB'):PW X (.BoolOp .Or (a::b::rest) pos) (tOr tA tB'):=by
 try unfold PE at *;try unfold PA at *
 intro wh pins s σ H Q I h;refine isTrue_or (aH (ha pins s σ H _ I h) fun c s1 ⟨H1,I1,q1⟩=>?_)
 cases c with
 | true=>exact ⟨H1,I1,q1⟩
 | false=>exact hb wh pins s1 σ H1 Q I1 q1
theorem nz (ha:PT X a tA):PT X (.UnaryOp .Not a pos) (JV tA):=by
 try unfold PE at *;try unfold PA at *
 intro pins s σ H Q I h;exact isTrue_not (ha pins s σ H (fun c H1=>Q (!c) H1) I h)
def Zz7 (ta tb:TE):TE:=fun σ H Q=>ta σ H fun x H1=>∃ c,x=.bl c/\if c=true then tb σ H1 Q else Q (.bl false) H1
def JU (ta tb:TE):TE:=fun σ H Q=>ta σ H fun x H1=>∃ c,x=.bl c/\if c=true then Q (.bl true) H1 else tb σ H1 Q
theorem A3 {op} {t:TE} (h:PE X a t):PE X (.BoolOp op [a] pos) t:=by
 try unfold PE at *
 exact fun pins s σ H Q I hw=>BoolOp_one (h pins s σ H Q I hw)
theorem A0 (ha:PE X a ta) (hb:PE X (.BoolOp .And (b::rest) pos) tb):PE X (.BoolOp .And (a::b::rest) pos) (Zz7 ta tb):=by
 try unfold PE at *
 intro pins s σ H Q I h;refine BoolOp_and (aH (ha pins s σ H _ I h) fun v s1 ⟨x,H1,I1,r1,q1⟩=>?_);obtain ⟨c,rfl,q1⟩:=q1
 cases r1
 refine WI ?_
 cases c with
 | true=>exact hb pins s1 σ H1 Q I1 q1
 | false=>exact ⟨.bl false,H1,I1,rfl,q1⟩
theorem ZAf (ha:PE X a ta) (hb:PE X (.BoolOp .Or (b::rest) pos) tb):PE X (.BoolOp .Or (a::b::rest) pos) (JU ta tb):=by
 try unfold PE at *
 intro pins s σ H Q I h;refine BoolOp_or (aH (ha pins s σ H _ I h) fun v s1 ⟨x,H1,I1,r1,q1⟩=>?_);obtain ⟨c,rfl,q1⟩:=q1
 cases r1
 refine WI ?_
 cases c with
 | false=>exact hb pins s1 σ H1 Q I1 q1
 | true=>exact ⟨.bl true,H1,I1,rfl,q1⟩
def tIf (t:TT) (ta tb:TE):TE:=fun σ H Q=>t σ H fun c H1=>if c=true then ta σ H1 Q else tb σ H1 Q
theorem ZrT {c:Expr} (hc:PT X c tA) (ha:PE X a ta) (hb:PE X b tb):PE X (.IfExp c a b pos) (tIf tA ta tb):=by
 try unfold PE at *
 intro pins s σ H Q I h;refine wpAny_IfExp (aH (hc pins s σ H _ I h) fun d s1 ⟨H1,I1,q1⟩=>?_)
 cases d with
 | true=>exact ha pins s1 σ H1 Q I1 q1
 | false=>exact hb pins s1 σ H1 Q I1 q1
end
end L2
namespace L2
open PySem PySem.Spec PyProof.Rows
def ar (K:Yg) (H:Hp) (a:Addr) (xs:List V):Prop:=
 Rd H a (.lst xs)∨
  ∃ (o:Obj) (its:Array Value) (n:Nat),K.lookup a=some o/\o.cls=.type "list"/\o.dict=none/\o.data=.seq its n/\its.size<=Ym/\Vals xs its.toList
def aG (K:Yg) (H:Hp) (a:Addr) (xs:List V):Prop:=
 Rd H a (.tup xs)∨
  ∃ (o:Obj) (its:Array Value) (n:Nat),K.lookup a=some o/\o.cls=.type "tuple"/\o.data=.seq its n/\its.size<=Ym/\Vals xs its.toList
def Lc:Value->Option V
 | .none=>some .aL
 | .bool b=>some (.bl b)
 | .int i _=>some (.int i)
 | .str x _=>some (.str x)
 | .bytes b _=>some (.j5 b)
 | .float b _=>some (.oo b)
 | .ref a=>some (.ref a)
 | .type n=>some (.ty n)
 | _=>none
theorem RelV.abs {x:V} {u:Value} (r:RelV x u):Lc u=some x:=by
 cases x with
 | aL=>cases r;rfl
 | bl _=>cases r;rfl
 | int _=>obtain ⟨t,rfl⟩:=r;rfl
 | str _=>obtain ⟨t,rfl⟩:=r;rfl
 | j5 _=>obtain ⟨t,rfl⟩:=r;rfl
 | oo _=>obtain ⟨t,rfl⟩:=r;rfl
 | ref _=>cases r;rfl
 | ty _=>cases r;rfl
theorem RelV.inj {x y:V} {u:Value} (r:RelV x u) (q:RelV y u):x=y:=YB (r.abs.symm.trans q.abs)
theorem Vals.inj:∀ {xs ys:List V} {us:List Value},Vals xs us->Vals ys us->xs=ys
 | _,_,_,.nil,.nil=>rfl
 | _,_,_,.cons r t,.cons r' t'=>by rw [r.inj r',Vals.inj t t']
section
variable {X:Cx} {pins:List (Addr×Obj)} {σ:St} {H:Hp} {s:Shared} {a:Addr} {xs ys:List V}
theorem ar.of {K:Yg} (h:H a=some (.lst xs)):ar K H a xs:=.inl (.inl h)
theorem aG.of {K:Yg} (h:H a=some (.tup xs)):aG K H a xs:=.inl (.inl h)
theorem Inv.list (I:Inv X pins σ H s) (h:ar X.K H a xs):∃ its:List Value,Vals xs its/\PlainL s.heap a its.toArray/\xs.length<=Ym:=by
 rcases h with h | ⟨o,its,n,hk,hc,hd,hs,hz,r⟩
 ·obtain ⟨z,its,n,r,e⟩:=h.ok I.aj;exact ⟨its,r,⟨_,n,e,rfl,rfl,rfl⟩,z⟩
 ·refine ⟨its.toList,r,⟨o,n,I.cf a o hk,hc,hd,by simpa using hs⟩,?_⟩;have e:=r.length
  simp only [YH] at e
  omega
theorem Inv.tuple (I:Inv X pins σ H s) (h:aG X.K H a xs):∃ its:List Value,Vals xs its/\IsTup s.heap a its.toArray/\xs.length<=Ym:=by
 rcases h with h | ⟨o,its,n,hk,hc,hs,hz,r⟩
 ·obtain ⟨z,its,r,p⟩:=h.ok I.aj;exact ⟨its,r,p,z⟩
 ·refine ⟨its.toList,r,⟨o,I.cf a o hk,hc,n,by simpa using hs⟩,?_⟩;have e:=r.length
  simp only [YH] at e
  omega
theorem Inv.je (I:Inv X pins σ H s) (h:ar X.K H a xs) (h':ar X.K H a ys):xs=ys:=by
 obtain ⟨its,r,⟨o,n,e,_,_,d⟩,_⟩:=I.list h;obtain ⟨its',r',⟨o',n',e',_,_,d'⟩,_⟩:=I.list h';rw [e] at e';cases e';rw [d] at d';injection d' with d1 _
 have:its=its':=by simpa using congrArg Array.toList d1
 subst this;exact r.inj r'
theorem Inv.eE (I:Inv X pins σ H s) (h:aG X.K H a xs) (h':aG X.K H a ys):xs=ys:=by
 obtain ⟨its,r,⟨o,e,_,n,d⟩,_⟩:=I.tuple h;obtain ⟨its',r',⟨o',e',_,n',d'⟩,_⟩:=I.tuple h';rw [e] at e';cases e';rw [d] at d';injection d' with d1 _
 have:its=its':=by simpa using congrArg Array.toList d1
 subst this;exact r.inj r'
end
abbrev Cx.eZ (X:Cx) (E:Value->Shared->Prop):Cx:={X with xe:=E}
abbrev Cx.lO (X:Cx):Cx:=X.eZ fun _ _=>False
theorem Cx.Ok.eZ {X:Cx} (ok:X.Ok) (E:Value->Shared->Prop):(X.eZ E).Ok:=
 ⟨ok.mod,ok.kind,ok.glob,ok.blt,ok.above,ok.inj,ok.has,ok.ng,ok.hd,ok.frames,ok.pD,ok.uY,ok.bs,ok.jB,ok.ig,ok.gF,ok.bI,ok.kJ⟩
theorem Cx.Ok.cm {X:Cx} {E:Value->Shared->Prop} (ok:(X.eZ E).Ok):X.Ok:=
 ⟨ok.mod,ok.kind,ok.glob,ok.blt,ok.above,ok.inj,ok.has,ok.ng,ok.hd,ok.frames,ok.pD,ok.uY,ok.bs,ok.jB,ok.ig,ok.gF,ok.bI,ok.kJ⟩
section
variable {X:Cx} {pins:List (Addr×Obj)} {σ:St} {H:Hp} {s:Shared} {E:Value->Shared->Prop}
theorem Inv.eZ (I:Inv X pins σ H s) (E:Value->Shared->Prop):Inv (X.eZ E) pins σ H s:=⟨I.ok.eZ E,I.os,I.bare,I.base,I.loc,I.cell,I.free,I.bf,I.pin,I.aj,I.len⟩
theorem Inv.cm (I:Inv (X.eZ E) pins σ H s):Inv X pins σ H s:=⟨I.ok.cm,I.os,I.bare,I.base,I.loc,I.cell,I.free,I.bf,I.pin,I.aj,I.len⟩
theorem SP.cm {D:Ends} {f:Flow} {s':Shared} (h:SP (X.eZ E) pins D f s'):SP X pins D f s':=by
 cases f with
 | next=>obtain ⟨aC,H',I,q⟩:=h;exact ⟨aC,H',I.cm,q⟩
 | brk=>obtain ⟨aC,H',I,q⟩:=h;exact ⟨aC,H',I.cm,q⟩
 | cont=>obtain ⟨aC,H',I,q⟩:=h;exact ⟨aC,H',I.cm,q⟩
 | ret u=>obtain ⟨v,aC,H',I,r,q⟩:=h;exact ⟨v,aC,H',I.cm,r,q⟩
theorem eR.lO {st:List Stmt} {t:TS} (h:eR X.lO st t):eR X st t:=by
 try unfold eR at *
 exact fun pins s σ H D I hw=>
  Xd (h pins s σ H D (I.eZ _) hw) (fun _ _ q=>q.cm) fun _ _ z=>Xa z
end
section
variable {X:Cx} {st:Stmt} {rest:List Stmt} {t u:TS} {e:Expr} {te:TE} {pos:Pos}
def p9:TS:=fun D σ H=>D.nx σ H
def i5 (t u:TS):TS:=fun D σ H=>t {D with nx:=u D} σ H
theorem Zx:eR X [] p9:=by
 try unfold eR at *
 exact fun _ _ σ H _ I h=>Ybp ⟨σ,H,I,h⟩
theorem Zd (h1:PS X st t) (h2:eR X rest u):eR X (st::rest) (i5 t u):=by
 try unfold PS at *;try unfold eR at *
 intro pins s σ H D I h;refine wpAny_execs_cons (aH (h1 pins s σ H {D with nx:=u D} I h) fun f s1 q=>?_)
 cases f with
 | next=>
  obtain ⟨aC,H',I',q⟩:=q;exact h2 pins s1 aC H' D I' q
 | ret v=>exact q
 | brk=>exact q
 | cont=>exact q
theorem Zh (h1:PS X st t):eR X [st] t:=by
 try unfold PS at *;try unfold eR at *
 intro pins s σ H D I h;refine wpAny_execs_cons (aH (h1 pins s σ H D I h) fun f s1 q=>?_)
 cases f with
 | next=>exact Ybp q
 | ret v=>exact q
 | brk=>exact q
 | cont=>exact q
theorem Inv.quiet {pins:List (Addr×Obj)} {σ:St} {H:Hp} {s:Shared} (I:Inv X pins σ H s):interactive X.env=false:=by simp [interactive,I.ok.kind]
def Zz4 (te:TE):TS:=fun D σ H=>te σ H fun _ H1=>D.nx σ H1
theorem ZC (he:PE X e te) (hs:swapsWith e none pos.line X.env=pure false:=by rfl):PS X (.Expr e pos) (Zz4 te):=by
 try unfold PE at *;try unfold PS at *
 intro pins s σ H D I h;exact wpAny_Expr_any (aH (he pins s σ H _ I h) fun v s1 ⟨x,H1,I1,r1,q1⟩=>⟨σ,H1,I1,q1⟩) I.quiet hs
def gC (te:TE):TS:=fun D σ H=>te σ H D.rt
theorem Zt (he:PE X e te):PS X (.Return (some e) pos) (gC te):=by
 try unfold PE at *;try unfold PS at *
 intro pins s σ H D I h;exact wpAny_Return_some (aH (he pins s σ H _ I h) fun v s1 ⟨x,H1,I1,r1,q1⟩=>⟨x,σ,H1,I1,r1,q1⟩)
def i6 (c:TT) (t u:TS):TS:=fun D σ H=>c σ H fun b H1=>if b=true then t D σ H1 else u D σ H1
theorem Z0 {c:Expr} {a b:List Stmt} {tc:TT} (hc:PT X c tc) (ha:eR X a t) (hb:eR X b u):PS X (.If c a b pos) (i6 tc t u):=by
 try unfold PS at *;try unfold eR at *
 intro pins s σ H D I h;refine wpAny_If (aH (hc pins s σ H _ I h) fun d s1 ⟨H1,I1,q1⟩=>?_)
 cases d with
 | true=>exact ha pins s1 σ H1 D I1 q1
 | false=>exact hb pins s1 σ H1 D I1 q1
end
abbrev TG:=V->St->Hp->(St->Hp->Prop)->Prop
abbrev tq:=List V->St->Hp->(St->Hp->Prop)->Prop
def PG (X:Cx) (target:Expr) (t:TG):Prop:=
 ∀ (pins:List (Addr×Obj)) (s:Shared) (σ:St) (H:Hp) (v:V) (u:Value) (Q:St->Hp->Prop),Inv X pins σ H s->RelV v u->t v σ H Q->
  wpAny (model X.prog X.w) X.A (assign target X.env u) (fun _ s'=>∃ aC H',Inv X pins aC H' s'/\Q aC H') X.xe s
def Cp (X:Cx) (ts:List Expr) (t:tq):Prop:=
 ∀ (pins:List (Addr×Obj)) (s:Shared) (σ:St) (H:Hp) (vs:List V) (us:List Value) (Q:St->Hp->Prop),Inv X pins σ H s->Vals vs us->t vs σ H Q->
  wpAny (model X.prog X.w) X.A (assignInOrder ((assignEach ts X.env).map (·.2)) us) (fun _ s'=>∃ aC H',Inv X pins aC H' s'/\Q aC H') X.xe s
abbrev ue:=V->V->V->Hp->(Hp->Prop)->Prop
def zE (X:Cx) (t:ue):Prop:=
 ∀ (pins:List (Addr×Obj)) (s:Shared) (σ:St) (H:Hp) (o i v:V) (ov iv u:Value) (Q:Hp->Prop),Inv X pins σ H s->RelV o ov->RelV i iv->RelV v u->t o i v H Q->
  wpAny (model X.prog X.w) X.A (setItem ov iv u) (fun _ s'=>∃ H',Inv X pins σ H' s'/\Q H') X.xe s
section
variable {X:Cx} {pos:Pos}
def u7 (i:Nat):TG:=fun v σ H Q=>Q (σ.set i (some v)) H
theorem Z9 {i:Nat} {x:Str} (hN:X.N.Nodup) (hi:X.N[i]?=some x) (hx:Loc X.env.scope x) (hf:X.fn x=true∨X.env.scope.names.lookup x=some .local:=by first | exact .inl rfl | exact .inr rfl | assumption):PG X (.Name x pos) (u7 i):=by
 intro pins s σ H v u Q I r h;exact wpAny_assign_Name (Fe I hN hi hx r (fun s' I'=>⟨_,H,I',h⟩) hf)
def K7:tq:=fun vs σ H Q=>vs=[]/\Q σ H
def ZAp (t:TG) (u:tq):tq:=fun vs σ H Q=>∃ v r,vs=v::r/\t v σ H fun aC H'=>u r aC H' Q
theorem x8:Cp X [] K7:=by
 intro pins s σ H vs us Q I r h;obtain ⟨e,h⟩:=h;subst e
 cases r
 exact assignInOrder_nil ⟨σ,H,I,h⟩
theorem nG {e:Expr} {es:List Expr} {t:TG} {u:tq} (h1:PG X e t) (h2:Cp X es u)
  (hs:(assignEach (e::es) X.env).map (·.2)=assign e X.env::(assignEach es X.env).map (·.2):=by rfl):Cp X (e::es) (ZAp t u):=by
 try unfold PE at *;try unfold PA at *
 intro pins s σ H vs us Q I r h;obtain ⟨v,vr,e1,h⟩:=h;subst e1
 cases r with
 | cons r rr=>
  rw [hs];refine assignInOrder_cons (aH (h1 pins s σ H _ _ _ I r h) fun _ s1 ⟨σ1,H1,I1,q1⟩=>?_);exact h2 pins s1 σ1 H1 _ _ Q I1 rr q1
def K5 (K:Yg) (n:Nat) (t:tq):TG:=fun v σ H Q=>∃ a xs,v=.ref a/\aG K H a xs/\xs.length=n/\t xs σ H Q
theorem xW {es:List Expr} {k:Nat} {t:tq} {n:Nat} (hc:X.calm=true) (h:Cp X es t)
  (hn:(assignEach es X.env).length=n:=by rfl) (cN:(assignEach es X.env).findIdx? (·.1)=none:=by rfl):PG X (.Tuple es k pos) (K5 X.K n t):=by
 intro pins s σ H v u Q I r hw;obtain ⟨a,xs,e1,hq,hl,hw⟩:=hw;subst e1
 cases r
 obtain ⟨its,rv,ht,hz⟩:=I.tuple hq;refine assign_Tuple_tuple (I.ok.hd hc) ht (by simp [hn,<- hl,rv.length]) cN fun h' hx=>?_;have I1:Inv X pins σ H {s with heap:=h'}:=I.kept (t':=s.toks) fun b o e=>hx b o (Yu (Yj e)) e;exact h pins _ σ H xs _ Q I1 (by simpa using rv) hw
def K6 (to ti:TE) (t:ue):TG:=fun v σ H Q=>to σ H fun o H1=>ti σ H1 fun i H2=>t o i v H2 fun H3=>Q σ H3
theorem Zy8 {o i:Expr} {to ti:TE} {t:ue} (ho:PE X o to) (hi:PE X i ti) (hs:zE X t)
  (ha:∀ v,assign (.Subscript o i pos) X.env v=(do
   let ov <- holding [v] (eval o X.env)
   let iv <- holding [v,ov] (eval i X.env)
   standAt pos
   holding [v,ov,iv] (setItem ov iv v)
   release [v,ov,iv] []):=by intro _;rfl):PG X (.Subscript o i pos) (K6 to ti t):=by
 try unfold PE at *
 intro pins s σ H v u Q I r h;rw [ha];refine Ya (Y6 (aH (ho pins s σ H _ I h) fun ov s1 ⟨x,H1,I1,r1,q1⟩=>?_));refine Ya (Y6 (aH (hi pins s1 σ H1 _ I1 q1) fun iv s2 ⟨y,H2,I2,r2,q2⟩=>?_));refine Ya (wpAny_standAt (Ya (Y6 (aH (hs pins s2 σ H2 x y v ov iv u _ I2 r1 r2 r q2) fun _ s3 ⟨H3,I3,q3⟩=>?_))));exact wpAny_release ⟨σ,H3,I3,q3⟩
def oW (te:TE) (g:TG):TS:=fun D σ H=>te σ H fun x H1=>g x σ H1 D.nx
theorem Zy6 {tg e:Expr} {te:TE} {g:TG} (he:PE X e te) (hg:PG X tg g) (hs:swapsWithSole [tg] e pos.line X.env=pure false:=by rfl) (hw:swappedStores [tg] e X.env=pure none:=by rfl)
  (h1:(assignEach [tg] X.env).map (·.2)=[assign tg X.env]:=by rfl):PS X (.Assign [tg] e pos) (oW te g):=by
 try unfold PE at *;try unfold PS at *
 intro pins s σ H D I h;refine wpAny_Assign_stores (aH (he pins s σ H _ I h) fun v s1 ⟨x,H1,I1,r1,q1⟩=>?_) hs hw;rw [h1];exact aH (hg pins s1 σ H1 x v _ I1 r1 q1) fun _ s2 q=>q
theorem Zz {i:Nat} {x:Str} {e:Expr} {te:TE} {pos':Pos} (hN:X.N.Nodup) (hi:X.N[i]?=some x) (hx:Loc X.env.scope x) (he:PE X e te) (hs:swapsWith e (some (.Name x pos')) pos.line X.env=pure false:=by rfl) (hf:X.fn x=true∨X.env.scope.names.lookup x=some .local:=by first | exact .inl rfl | exact .inr rfl | assumption) :
  PS X (.Assign [.Name x pos'] e pos) (oW te (u7 i)):=by
 try unfold PE at *;try unfold PS at *
 intro pins s σ H D I h;refine wpAny_Assign_Name (aH (he pins s σ H _ I h) fun v s1 ⟨y,H1,I1,r1,q1⟩=>?_) hs;exact Fe I1 hN hi hx r1 (fun s2 I2=>⟨_,H1,I2,q1⟩) hf
end
section
variable {X:Cx} {pos:Pos}
end
structure It where
 go:Nat->Hp->Prop
 kz:Nat->Hp->V->Hp->Prop
 stop:Nat->Hp->Prop
def eD (X:Cx) (pins:List (Addr×Obj)) (H:Hp) (b:Addr):Prop:=
 H b=none/\b≠X.env.locals/\b ∉ X.fs/\(b∈X.ex∨X.au.heap.objs.size<=b)/\(∀ x c,X.env.cells.lookup x=some c->c≠b)/\∀ p∈X.pn++pins,p.1≠b
theorem Inv.ij {X:Cx} {pins:List (Addr×Obj)} {σ:St} {H H':Hp} {s:Shared} {b:Addr} (I:Inv X pins σ H s) (hb:s.heap.objs.size<=b) (hn:H' b=none):eD X pins H' b:=by
 refine ⟨hn,WB (Yq I.lt hb),I.Kh hb,.inr (Yk I.sz hb),fun x c e z=>?_,fun p hp z=>?_⟩
 ·obtain ⟨v,q⟩:=I.cell x c e;exact absurd (Yq q.lt (by rw [z];exact hb)) (YN _)
 ·exact absurd (Yq (Yj (I.pin p hp).1) (by rw [z];exact hb)) (YN _)
structure Turn (P:Program) (w:World) (K:Yg) (tg:Expr) (J:It) (fp:List Addr) (it:Addr) (tn:Nat->Heap->Prop):Prop where
 mem:it∈fp
 obj:∀ i h,tn i h->∀ b∈fp,∃ o,h.get? b=some o/\∀ v,o.data≠.cell v
 keep:∀ i h h',tn i h->(∀ b∈fp,∀ o,h.get? b=some o->h'.get? b=some o)->tn i h'
 item:∀ (X:Cx),X.prog=P->X.w=w->X.K=K->X.calm=true->∀ (i:Nat) (pins:List (Addr×Obj)) (s:Shared) (σ:St) (H:Hp) (E:Value->Shared->Prop),Inv X pins σ H s->(∀ b∈fp,eD X pins H b)->tn i s.heap->J.go i H->
  wpAny (model P w) X.A (W8 (.ref it)) (fun r s1=>∃ u,r=some u/\
   wpAny (model P w) X.A (Yax tg (.ref it) u) (fun _ s2=>∃ x H',Inv X pins σ H' s2/\RelV x u/\J.kz i H x H'/\tn (i + 1) s2.heap/\∀ b∈fp,H' b=none) E s1) E s
 done:∀ (X:Cx),X.prog=P->X.w=w->X.K=K->X.calm=true->∀ (i:Nat) (pins:List (Addr×Obj)) (s:Shared) (σ:St) (H:Hp) (E:Value->Shared->Prop),Inv X pins σ H s->(∀ b∈fp,eD X pins H b)->tn i s.heap->J.stop i H->
  wpAny (model P w) X.A (W8 (.ref it)) (fun r s1=>r=none/\Inv X pins σ H s1) E s
 self:∀ (A:Around) (i:Nat) (s:Shared) (Q:Value->Shared->Prop) (E:Value->Shared->Prop),tn i s.heap->Q (.ref it) s->wpAny (model P w) A (pyIter (.ref it)) Q E s
abbrev TI:=St->Hp->(It->Hp->Prop)->Prop
def JK (X:Cx) (pins:List (Addr×Obj)) (σ:St) (tg:Expr) (R:It->Hp->Prop) (Am:Value) (s2:Shared):Prop:=
 ∃ (it:Addr) (fp:List Addr) (tn:Nat->Heap->Prop) (J:It) (H':Hp),Am=.ref it/\Inv X pins σ H' s2/\Turn X.prog X.w X.K tg J fp it tn/\tn 0 s2.heap/\(∀ b∈fp,eD X pins H' b)/\R J H'
def PI (X:Cx) (tg iter:Expr) (wi:TI):Prop:=
 ∀ (pins:List (Addr×Obj)) (s:Shared) (σ:St) (H:Hp) (R:It->Hp->Prop),Inv X pins σ H s->wi σ H R->
  wpAny (model X.prog X.w) X.A (eval iter X.env) (fun v s1=>wpAny (model X.prog X.w) X.A (pyIter v) (JK X pins σ tg R) X.xe s1) X.xe s
theorem AM {M:Model} {A:Around} {E:Value->Shared->Prop} {s:Shared} {tg:Expr} {it:Addr} {u:Value} {o:Obj} {n:String} {vs:Array Value} {Q:Unit->Shared->Prop} (ho:s.heap.get? it=some o) (hc:o.cls=.type n) (hd:o.data=.fields vs)
    (hn:["enumerate","zip","dict_itemiterator","dict_reverseitemiterator","odict_iterator","itertools.zip_longest","itertools.pairwise"].contains n=false) (hQ:Q () s):wpAny M A (Yax tg (.ref it) u) Q E s:=by
  unfold Yax
  cases tg <;> first
    | exact Yd hQ
    | (cases u <;> first
        | exact Yd hQ
        | (refine Ya (wpAny_load ho ?_)
           rw [hc,hd];show wpAny M A (if (["enumerate","zip","dict_itemiterator","dict_reverseitemiterator","odict_iterator","itertools.zip_longest","itertools.pairwise"].contains n && vs[0]? == some (X7 _))=true then _ else _) Q E s;rw [if_neg (by intro h;rw [hn,Bool.false_and] at h;cases h)];exact Yd hQ))
def tD (K:Yg) (a:Addr):It:=
 ⟨fun i H=>∃ xs x,ar K H a xs/\xs[i]?=some x,fun i H x H'=>H'=H/\∀ xs,ar K H a xs->xs[i]?=some x,fun i H=>∃ xs,ar K H a xs/\xs.length<=i⟩
def yM (K:Yg) (a:Addr):It:=
 ⟨fun i H=>∃ xs x,aG K H a xs/\xs[i]?=some x,fun i H x H'=>H'=H/\∀ xs,aG K H a xs->xs[i]?=some x,fun i H=>∃ xs,aG K H a xs/\xs.length<=i⟩
def mw (lo:Int) (n:Nat):It:=⟨fun i _=>i < n,fun i H x H'=>H'=H/\x=.int (lo + i),fun i _=>n<=i⟩
theorem ZtI {P:Program} {w:World} {K:Yg} {tg:Expr} (a it:Addr):Turn P w K tg (tD K a) [it] it (fun i h=>h.IsListIter it a i) where
 mem:=by simp
 obj:=fun i h st b hb=>by
  have e:b=it:=by simpa using hb
  subst e;obtain ⟨o,e,c,d⟩:=st;exact ⟨o,e,fun v z=>by rw [d] at z;cases z⟩
 keep:=fun i h h' st k=>st.at fun o e=>k it (by simp) o e
 item:=by
  intro X hP hw hK hc i pins s σ H E I hf st hg;subst hP hw hK;obtain ⟨xs,x,hq,hx⟩:=hg;obtain ⟨its,rv,p,hz⟩:=I.list hq;obtain ⟨u,hu,ru⟩:=rv.get hx;obtain ⟨f0,f1,f2,f3,f4,f5⟩:=hf it (by simp);refine wpAny_pyNext_list_item st p.isList (x:=u) (by simpa using hu) fun h' ff sb=>?_;have I1:Inv X pins σ H {s with heap:=h'}:=I.turned (t':=s.toks) (fun b o hb e=>(sb.2 b hb).trans e) f0 f1 f3 f4 f5;obtain ⟨o,e,c,d⟩:=id ff;exact ⟨u,rfl,AM (s:={s with heap:=h'}) e c d (by decide) ⟨x,H,I1,ru,⟨rfl,fun ys hy=>by rw [I.je hy hq];exact hx⟩,ff,fun b hb=>(hf b hb).1⟩⟩
 done:=by
  intro X hP hw hK hc i pins s σ H E I hf st hg;subst hP hw hK;obtain ⟨xs,hq,hx⟩:=hg;obtain ⟨its,rv,p,hz⟩:=I.list hq;obtain ⟨f0,f1,f2,f3,f4,f5⟩:=hf it (by simp);have hl:=rv.length;exact wpAny_pyNext_list_end (I.ok.hd hc) st p.isList (by simp;omega) fun h' eb=>⟨rfl,I.turned (t':=s.toks) (fun b o hb e=>eb b o hb e) f0 f1 f3 f4 f5⟩
 self:=fun _ _ _ _ _ st h=>wpAny_pyIter_listiter st h
theorem ZsB {P:Program} {w:World} {K:Yg} {tg:Expr} (a it:Addr):Turn P w K tg (yM K a) [it] it (fun i h=>h.IsTupleIter it a i) where
 mem:=by simp
 obj:=fun i h st b hb=>by
  have e:b=it:=by simpa using hb
  subst e;obtain ⟨o,e,c,d⟩:=st;exact ⟨o,e,fun v z=>by rw [d] at z;cases z⟩
 keep:=fun i h h' st k=>st.at fun o e=>k it (by simp) o e
 item:=by
  intro X hP hw hK hc i pins s σ H E I hf st hg;subst hP hw hK;obtain ⟨xs,x,hq,hx⟩:=hg;obtain ⟨its,rv,p,hz⟩:=I.tuple hq;obtain ⟨u,hu,ru⟩:=rv.get hx;obtain ⟨f0,f1,f2,f3,f4,f5⟩:=hf it (by simp);refine wpAny_pyNext_tuple_item st (show s.heap.IsTuple a its.toArray from p) (x:=u) (by simpa using hu) fun h' ff sb=>?_;have I1:Inv X pins σ H {s with heap:=h'}:=I.turned (t':=s.toks) (fun b o hb e=>(sb.2 b hb).trans e) f0 f1 f3 f4 f5;obtain ⟨o,e,c,d⟩:=id ff;exact ⟨u,rfl,AM (s:={s with heap:=h'}) e c d (by decide) ⟨x,H,I1,ru,⟨rfl,fun ys hy=>by rw [I.eE hy hq];exact hx⟩,ff,fun b hb=>(hf b hb).1⟩⟩
 done:=by
  intro X hP hw hK hc i pins s σ H E I hf st hg;subst hP hw hK;obtain ⟨xs,hq,hx⟩:=hg;obtain ⟨its,rv,p,hz⟩:=I.tuple hq;obtain ⟨f0,f1,f2,f3,f4,f5⟩:=hf it (by simp);have hl:=rv.length;exact wpAny_pyNext_tuple_end (I.ok.hd hc) st (show s.heap.IsTuple a its.toArray from p) (by simp;omega) fun h' eb=>⟨rfl,I.turned (t':=s.toks) (fun b o hb e=>eb b o hb e) f0 f1 f3 f4 f5⟩
 self:=fun _ _ _ _ _ st h=>wpAny_pyIter_tupleiter st h
theorem ZsC {P:Program} {w:World} {K:Yg} {tg:Expr} (it:Addr) (lo:Int) (n:Nat):Turn P w K tg (mw lo n) [it] it (fun i h=>IsRangeIter h it (lo + (i:Nat) * 1) ((n:Int) - (i:Nat)) 1) where
 mem:=by simp
 obj:=fun i h st b hb=>by
  have e:b=it:=by simpa using hb
  subst e
  exact ⟨_,st,fun v z=>by
   have z':Data.fields _=Data.cell v:=z
   cases z'⟩
 keep:=fun i h h' st k=>k it (by simp) _ st
 item:=by
  intro X hP hw hK hc i pins s σ H E I hf st hg;subst hP hw hK;obtain ⟨f0,f1,f2,f3,f4,f5⟩:=hf it (by simp);have W:=Walks.range (prog:=X.prog) (w:=X.w) (I.ok.hd hc) it lo 1 n;refine W.item i s _ _ hg st fun v h' tk hv ff kk=>?_;obtain ⟨t,rfl⟩:=hv;have I1:Inv X pins σ H {s with heap:=h',toks:=tk}:=I.turned (fun b o hb e=>kk b o (by simpa using hb) e) f0 f1 f3 f4 f5;refine ⟨_,rfl,AM (s:={s with heap:=h',toks:=tk}) (n:="range_iterator") ff rfl rfl (by decide) ⟨.int (lo + i),H,I1,⟨t,?_⟩,⟨rfl,rfl⟩,ff,fun b hb=>(hf b hb).1⟩⟩;rw [Int.mul_one]
 done:=by
  intro X hP hw hK hc i pins s σ H E I hf st hg;subst hP hw hK;obtain ⟨f0,f1,f2,f3,f4,f5⟩:=hf it (by simp);exact wpAny_pyNext_range_end (I.ok.hd hc) st (by have:n<=i:=hg;omega) fun h' eb=>⟨rfl,I.turned (t':=s.toks) (fun b o hb e=>eb b o hb e) f0 f1 f3 f4 f5⟩
 self:=fun _ _ _ _ _ st h=>wpAny_pyIter_rangeiter st h
end L2
namespace L2
open PySem PySem.Spec PyProof.Rows
section
variable {X:Cx} {tg:Expr}
def ZAn (K:Yg) (tl:TE):TI:=fun σ H R=>tl σ H fun x H1=>∃ a,x=.ref a/\(∃ xs,ar K H1 a xs)/\R (tD K a) H1
def Kq (K:Yg) (tl:TE):TI:=fun σ H R=>tl σ H fun x H1=>∃ a,x=.ref a/\(∃ xs,aG K H1 a xs)/\R (yM K a) H1
theorem qk {l:Expr} {tl:TE} (hl:PE X l tl):PI X tg l (ZAn X.K tl):=by
 try unfold PE at *
 intro pins s σ H R I h;refine aH (hl pins s σ H _ I h) fun v s1 ⟨x,H1,I1,r1,q1⟩=>?_;obtain ⟨a,e,⟨xs,hq⟩,q⟩:=q1;subst e
 cases r1
 obtain ⟨its,rv,p,hz⟩:=I1.list hq;refine wpAny_pyIter_list p.isList ?_;refine ⟨s1.heap.objs.size,[s1.heap.objs.size],_,_,H1,rfl,I1.kept (t':=s1.toks) fun b o e=>Yc _ e,ZtI a _,⟨_,Yi _ rfl,rfl,rfl⟩,fun b hb=>?_,q⟩;have e:b=s1.heap.objs.size:=by simpa using hb
 subst e;exact I1.ij (Ye _) (I1.aj.fresh (Ye _))
theorem ZwZ {l:Expr} {tl:TE} (hl:PE X l tl):PI X tg l (Kq X.K tl):=by
 try unfold PE at *
 intro pins s σ H R I h;refine aH (hl pins s σ H _ I h) fun v s1 ⟨x,H1,I1,r1,q1⟩=>?_;obtain ⟨a,e,⟨xs,hq⟩,q⟩:=q1;subst e
 cases r1
 obtain ⟨its,rv,p,hz⟩:=I1.tuple hq;refine YaE (show s1.heap.IsTuple a its.toArray from p) ?_;refine ⟨s1.heap.objs.size,[s1.heap.objs.size],_,_,H1,rfl,I1.kept (t':=s1.toks) fun b o e=>Yc _ e,ZsB a _,⟨_,Yi _ rfl,rfl,rfl⟩,fun b hb=>?_,q⟩;have e:b=s1.heap.objs.size:=by simpa using hb
 subst e;exact I1.ij (Ye _) (I1.aj.fresh (Ye _))
theorem ZrO {pins:List (Addr×Obj)} {σ:St} {H:Hp} {s:Shared} {R:It->Hp->Prop} {E:Value->Shared->Prop} {lo hi:Int} {t u v:Tok} {tk:Nat} (I:Inv X pins σ H s) (h1:-(2 ^ 62)<=lo) (h2:lo < 2 ^ 62) (h3:-(2 ^ 62)<=hi) (h4:hi < 2 ^ 62)
  (q:R (mw lo (hi - lo).toNat) H):wpAny (model X.prog X.w) X.A (pyIter (.ref s.heap.objs.size)) (JK X pins σ tg R) E {s with heap:=s.heap.push {cls:=.type "range",data:=.fields #[.int lo t,.int hi u,.int 1 v]},toks:=tk}:=by
 refine wpAny_pyIter_range (IsRange.new ..) (small_one h1 h2 h3 h4) ?_;have I1:Inv X pins σ H {s with heap:=s.heap.push {cls:=.type "range",data:=.fields #[.int lo t,.int hi u,.int 1 v]},toks:=tk}:=I.kept fun b o e=>Yc _ e
 refine ⟨(s.heap.push {cls:=.type "range",data:=.fields #[.int lo t,.int hi u,.int 1 v]}).objs.size,[(s.heap.push {cls:=.type "range",data:=.fields #[.int lo t,.int hi u,.int 1 v]}).objs.size],_,_,H,rfl,
  I1.kept (t':=tk) fun b o e=>Yc _ e,ZsC _ lo (hi - lo).toNat,?_,fun b hb=>?_,q⟩
 ·have e1:lo + ((0:Nat):Int) * 1=lo:=by simp
  have e2:(((hi - lo).toNat:Nat):Int) - ((0:Nat):Int)=Builtin.Range.rangeSize lo hi 1:=by rw [rangeSize_one];split <;> omega
  show IsRangeIter _ _ (lo + ((0:Nat):Int) * 1) ((((hi - lo).toNat:Nat):Int) - ((0:Nat):Int)) 1;rw [e1,e2];exact Yi _ rfl
 ·have e:b=(s.heap.push {cls:=.type "range",data:=.fields #[.int lo t,.int hi u,.int 1 v]}).objs.size:=by simpa using hb
  subst e;exact I1.ij (Ye _) (I1.aj.fresh (Ye _))
def ZAm (ta:TA):TI:=fun σ H R=>ta σ H fun vs H1=>∃ j:Int,vs=[.int j]/\-(2 ^ 62)<=j/\j < 2 ^ 62/\R (mw 0 j.toNat) H1
def ZAl (ta:TA):TI:=fun σ H R=>ta σ H fun vs H1=>∃ i j:Int,vs=[.int i,.int j]/\(-(2 ^ 62)<=i/\i < 2 ^ 62/\-(2 ^ 62)<=j/\j < 2 ^ 62)/\R (mw i (j - i).toNat) H1
theorem vT {a:Expr} {ta:TA} {p pos:Pos} (hg:Gl X "range") (hm:X.mg "range"=none) (ha:PA X [a] ta) (hs:Yx [a] X.env=[(false,eval a X.env)]:=by rfl):PI X tg (.Call (.Name "range" p) [a] [] pos) (ZAm ta):=by
 try unfold PA at *
 intro pins s σ H R I h;refine Call_ (sG I hg hm boot_range (XY (aH (ha pos pins s σ H _ I h) fun us s1 ⟨vs,H1,I1,r1,q1⟩=>?_) hs rfl));obtain ⟨j,e,q1,q2,q⟩:=q1;subst e
 cases r1 with
 | cons r rr=>
  cases rr
  obtain ⟨t,rfl⟩:=r;exact call_range_1 (ZrO I1 (by omega) (by omega) q1 q2 (by simpa using q))
theorem Zul {a b:Expr} {ta:TA} {p pos:Pos} (hg:Gl X "range") (hm:X.mg "range"=none) (ha:PA X [a,b] ta) (hs:Yx [a,b] X.env=[(false,eval a X.env),(false,eval b X.env)]:=by rfl) (pP:Yx [b] X.env=[(false,eval b X.env)]:=by rfl) :
  PI X tg (.Call (.Name "range" p) [a,b] [] pos) (ZAl ta):=by
 try unfold PA at *
 intro pins s σ H R I h;refine Call_ (sG I hg hm boot_range (XY (aH (ha pos pins s σ H _ I h) fun us s1 ⟨vs,H1,I1,r1,q1⟩=>?_) (by rw [hs,pP]) (by rw [pP];rfl)));obtain ⟨i,j,e,⟨q1,q2,q3,q4⟩,q⟩:=q1;subst e
 cases r1 with
 | cons r rr=>
  cases rr with
  | cons r' rr=>
   cases rr
   obtain ⟨t,rfl⟩:=r;obtain ⟨t',rfl⟩:=r';exact call_range_2 (ZrO I1 q1 q2 q3 q4 q)
def JZ (wi:TI) (g:TG) (tb:TS):TS:=fun D σ H=>wi σ H fun J H1=>∃ W:Nat->Nat->St->Hp->Prop,(∃ m,W 0 m σ H1)/\∀ i m σ H,W i m σ H->
 (J.stop i H/\D.nx σ H)∨(J.go i H/\∃ N:St->Hp->Prop,(∀ aC H',N aC H'->∃ m',m' < m/\W (i + 1) m' aC H')/\∀ x H',J.kz i H x H'->g x σ H' fun bH H2=>tb {D with nx:=N,ct:=N,bk:=D.nx} bH H2)
def vv (fp:List Addr) (h:Heap):List (Addr×Obj):=fp.filterMap fun b=>(h.get? b).map fun o=>(b,o)
theorem vW {fp:List Addr} {h:Heap} {b:Addr} {o:Obj} (hb:b∈fp) (e:h.get? b=some o):(b,o)∈vv fp h:=List.mem_filterMap.mpr ⟨b,hb,by rw [e];rfl⟩
theorem Zus {fp:List Addr} {h:Heap} {p:Addr×Obj} (hp:p∈vv fp h):p.1∈fp/\h.get? p.1=some p.2:=by
 obtain ⟨b,hb,e⟩:=List.mem_filterMap.mp hp
 cases q:h.get? b with
 | none=>rw [q] at e;cases e
 | some o=>
  rw [q] at e;have e':(b,o)=p:=YB e;subst e';exact ⟨hb,q⟩
theorem Inv.pinned {pins:List (Addr×Obj)} {σ:St} {H:Hp} {s:Shared} {fp:List Addr} (I:Inv X pins σ H s) (hf:∀ b∈fp,eD X pins H b) (ho:∀ b∈fp,∃ o,s.heap.get? b=some o/\∀ v,o.data≠.cell v):Inv X (pins++vv fp s.heap) σ H s:=
 I.kx fun p hp=>(List.mem_append.mp hp).elim (fun z=>I.pin p (YL _ z)) fun z=>by
  obtain ⟨hb,e⟩:=Zus z;obtain ⟨f0,f1,f2,_⟩:=hf p.1 hb;obtain ⟨o,e',d⟩:=ho p.1 hb;rw [e] at e';cases e';exact ⟨e,f0,f1,f2,d⟩
theorem Inv.cO {pins pl:List (Addr×Obj)} {σ:St} {H:Hp} {s:Shared} (I:Inv X (pins++pl) σ H s):Inv X pins σ H s:=I.kx fun p hp=>I.pin p (YL _ (YbG _ hp))
theorem i3 {iter:Expr} {body:List Stmt} {wi:TI} {g:TG} {tb:TS} {pos:Pos} (hp:PassesOwn (model X.prog X.w) X.A X.env X.xe) (hc:X.calm=true) (hi:PI X tg iter wi) (hg:PG X tg g) (hb:eR X body tb)
  (hs:∀ x,foldedSetIterable iter X.env x=pure x:=by intro _;rfl):PS X (.For tg iter body [] pos) (JZ wi g tb):=by
 try unfold PS at *;try unfold eR at *
 intro pins s σ H D I h;refine wpAny_For (aH (hi pins s σ H _ I h) fun v s1 h1=>aH h1 fun Am s2 h2=>?_) hs;obtain ⟨it,fp,tn,J,H2,e,I2,T,jy,f2,W,⟨m0,w0⟩,turn⟩:=h2;subst e
 -- what stays true of gs uu objects through gs loop
 have fO:∀ {H':Hp},(∀ b∈fp,H' b=none)->∀ b∈fp,eD X pins H' b:=fun hn b hb=>⟨hn b hb,(f2 b hb).2⟩
 refine codeAny_forLoop_any (fun n s'=>∃ i aC H',Inv X pins aC H' s'/\tn i s'.heap/\(∀ b∈fp,H' b=none)/\W i n aC H') ?_ m0 ⟨0,σ,H2,I2,jy,fun b hb=>(f2 b hb).1,w0⟩
 rintro n s3 ⟨i,wu,H3,I3,pE,fr3,w3⟩
 rcases turn i n wu H3 w3 with ⟨stop,qn⟩ | ⟨go,N,hN,step⟩
 ·refine Yaw hp (aH (T.done X rfl rfl rfl hc i pins s3 wu H3 X.xe I3 (fO fr3) pE stop) fun r s4 ⟨hr,I4⟩=>?_);subst hr;exact Ybp ⟨wu,H3,I4,qn⟩
 ·refine Yaw hp (aH (T.item X rfl rfl rfl hc i pins s3 wu H3 X.xe I3 (fO fr3) pE go) fun r s4 ⟨u,hr,h4⟩=>?_);subst hr;refine Yaw hp (aH h4 fun _ s5 ⟨x,H5,I5,r5,y5,nQ,rZ⟩=>?_);have I5':=I5.pinned (fO rZ) (T.obj _ _ nQ);refine Yaw hp (aH (hg _ s5 wu H5 x u _ I5' r5 (step x H5 y5)) fun _ s6 ⟨σ6,H6,I6,q6⟩=>?_);refine Yaw hp (aH (hb _ s6 σ6 H6 _ I6 q6) fun f s7 q7=>?_)
  have again:∀ {lN:St} {H7:Hp},Inv X (pins++vv fp s5.heap) lN H7 s7->N lN H7->∃ m,m < n/\∃ i aC H',Inv X pins aC H' s7/\tn i s7.heap/\(∀ b∈fp,H' b=none)/\W i m aC H':=fun {lN H7} I7 n7=>by
   obtain ⟨m',hm,w7⟩:=hN lN H7 n7;refine ⟨m',hm,i + 1,lN,H7,I7.cO,T.keep _ _ _ nQ fun b hb o e=>(I7.pin (b,o) (YL _ (YL _ (vW hb e)))).1,fun b hb=>?_,w7⟩;obtain ⟨o,e,d⟩:=T.obj _ _ nQ b hb;exact (I7.pin (b,o) (YL _ (YL _ (vW hb e)))).2.1
  cases f with
  | next=>obtain ⟨lN,H7,I7,n7⟩:=q7;exact again I7 n7
  | cont=>obtain ⟨lN,H7,I7,n7⟩:=q7;exact again I7 n7
  | brk=>obtain ⟨lN,H7,I7,q7⟩:=q7;exact ⟨lN,H7,I7.cO,q7⟩
  | ret v=>obtain ⟨x7,lN,H7,I7,r7,q7⟩:=q7;exact ⟨x7,lN,H7,I7.cO,r7,q7⟩
end
theorem vK {K:Yg} {a:Addr} {xs:List V} {g:TG} {tb:TS} {D:Ends} {σ:St} {H:Hp} (Pv:Nat->St->Hp->Prop) (h0:Pv 0 σ H) (hl:∀ i σ H,i<=xs.length->Pv i σ H->ar K H a xs)
  (hs:∀ i x σ H,xs[i]?=some x->Pv i σ H->g x σ H fun bH H2=>tb {D with nx:=Pv (i + 1),ct:=Pv (i + 1),bk:=D.nx} bH H2) (hd:∀ σ H,Pv xs.length σ H->D.nx σ H) :
  ∃ W:Nat->Nat->St->Hp->Prop,(∃ m,W 0 m σ H)/\∀ i m σ H,W i m σ H->
   ((tD K a).stop i H/\D.nx σ H)∨((tD K a).go i H/\∃ N:St->Hp->Prop,(∀ aC H',N aC H'->∃ m',m' < m/\W (i + 1) m' aC H')/\∀ x H',(tD K a).kz i H x H'->g x σ H' fun bH H2=>tb {D with nx:=N,ct:=N,bk:=D.nx} bH H2):=by
 refine ⟨fun i m σ H=>m=xs.length - i/\i<=xs.length/\Pv i σ H,⟨xs.length,by simp,Yv _,h0⟩,?_⟩
 rintro i m σ H ⟨rfl,hi,p⟩
 have q:=hl i σ H hi p
 by_cases bq:i < xs.length
 ·refine .inr ⟨⟨xs,xs[i],q,by simp [bq]⟩,Pv (i + 1),fun aC H' p'=>⟨xs.length - (i + 1),by omega,rfl,bq,p'⟩,fun x H' y=>?_⟩;obtain ⟨e,y⟩:=y;subst e;exact hs i x σ _ (y xs q) p
 ·have e:i=xs.length:=by omega
  subst e;exact .inl ⟨⟨xs,q,Ye _⟩,hd σ H p⟩
theorem ZuZ {K:Yg} {a:Addr} {xs:List V} {g:TG} {tb:TS} {D:Ends} {σ:St} {H:Hp} (Pv:Nat->St->Hp->Prop) (h0:Pv 0 σ H) (hl:∀ i σ H,i<=xs.length->Pv i σ H->aG K H a xs)
  (hs:∀ i x σ H,xs[i]?=some x->Pv i σ H->g x σ H fun bH H2=>tb {D with nx:=Pv (i + 1),ct:=Pv (i + 1),bk:=D.nx} bH H2) (hd:∀ σ H,Pv xs.length σ H->D.nx σ H) :
  ∃ W:Nat->Nat->St->Hp->Prop,(∃ m,W 0 m σ H)/\∀ i m σ H,W i m σ H->
   ((yM K a).stop i H/\D.nx σ H)∨((yM K a).go i H/\∃ N:St->Hp->Prop,(∀ aC H',N aC H'->∃ m',m' < m/\W (i + 1) m' aC H')/\∀ x H',(yM K a).kz i H x H'->g x σ H' fun bH H2=>tb {D with nx:=N,ct:=N,bk:=D.nx} bH H2):=by
 refine ⟨fun i m σ H=>m=xs.length - i/\i<=xs.length/\Pv i σ H,⟨xs.length,by simp,Yv _,h0⟩,?_⟩
 rintro i m σ H ⟨rfl,hi,p⟩
 have q:=hl i σ H hi p
 by_cases bq:i < xs.length
 ·refine .inr ⟨⟨xs,xs[i],q,by simp [bq]⟩,Pv (i + 1),fun aC H' p'=>⟨xs.length - (i + 1),by omega,rfl,bq,p'⟩,fun x H' y=>?_⟩;obtain ⟨e,y⟩:=y;subst e;exact hs i x σ _ (y xs q) p
 ·have e:i=xs.length:=by omega
  subst e;exact .inl ⟨⟨xs,q,Ye _⟩,hd σ H p⟩
theorem BC {lo:Int} {n:Nat} {g:TG} {tb:TS} {D:Ends} {σ:St} {H:Hp} (Pv:Nat->St->Hp->Prop) (h0:Pv 0 σ H)
  (hs:∀ i σ H,i < n->Pv i σ H->g (.int (lo + i)) σ H fun bH H2=>tb {D with nx:=Pv (i + 1),ct:=Pv (i + 1),bk:=D.nx} bH H2) (hd:∀ σ H,Pv n σ H->D.nx σ H) :
  ∃ W:Nat->Nat->St->Hp->Prop,(∃ m,W 0 m σ H)/\∀ i m σ H,W i m σ H->
   ((mw lo n).stop i H/\D.nx σ H)∨((mw lo n).go i H/\∃ N:St->Hp->Prop,(∀ aC H',N aC H'->∃ m',m' < m/\W (i + 1) m' aC H')/\∀ x H',(mw lo n).kz i H x H'->g x σ H' fun bH H2=>tb {D with nx:=N,ct:=N,bk:=D.nx} bH H2):=by
 refine ⟨fun i m σ H=>m=n - i/\i<=n/\Pv i σ H,⟨n,by simp,Yv _,h0⟩,?_⟩
 rintro i m σ H ⟨rfl,hi,p⟩
 by_cases bq:i < n
 ·refine .inr ⟨bq,Pv (i + 1),fun aC H' p'=>⟨n - (i + 1),by omega,rfl,bq,p'⟩,fun x H' y=>?_⟩;obtain ⟨e,y⟩:=y;subst e y;exact hs i σ _ bq p
 ·have e:i=n:=by omega
  subst e;exact .inl ⟨Ye _,hd σ H p⟩
end L2
namespace L2
open PySem PySem.Spec PyProof.Rows
abbrev R2:=V->V->Hp->VK->Prop
def dJ (X:Cx) (f:Value->Value->Sem Value) (r:R2):Prop:=
 ∀ (pins:List (Addr×Obj)) (s:Shared) (σ:St) (H:Hp) (x y:V) (v u:Value) (Q:VK),Inv X pins σ H s->RelV x v->RelV y u->r x y H Q->
  wpAny (model X.prog X.w) X.A (f v u) (EP X pins σ Q) X.xe s
def JJ (X:Cx) (f:Value->Sem Value) (r:V->Hp->VK->Prop):Prop:=
 ∀ (pins:List (Addr×Obj)) (s:Shared) (σ:St) (H:Hp) (x:V) (v:Value) (Q:VK),Inv X pins σ H s->RelV x v->r x H Q->
  wpAny (model X.prog X.w) X.A (f v) (EP X pins σ Q) X.xe s
def eN (X:Cx) (f:Value) (r:List V->Hp->VK->Prop):Prop:=
 ∀ (pins:List (Addr×Obj)) (s:Shared) (σ:St) (H:Hp) (xs:List V) (us:List Value) (Q:VK),Inv X pins σ H s->Vals xs us->r xs H Q->
  wpAny (model X.prog X.w) X.A (call f us) (EP X pins σ Q) X.xe s
def dN (r:R2) (ta tb:TE):TE:=fun σ H Q=>ta σ H fun x H1=>tb σ H1 fun y H2=>r x y H2 Q
def tUn (r:V->Hp->VK->Prop) (ta:TE):TE:=fun σ H Q=>ta σ H fun x H1=>r x H1 Q
def rI (C:Int->Int->Prop) (g:Int->Int->V):R2:=fun x y H Q=>∃ i j,x=.int i/\y=.int j/\C i j/\Q (g i j) H
def q_ (g:Int->Int->V):R2:=fun x y H Q=>∃ i j,x=.int i/\y=.int j/\Q (g i j) H
def rU (g:Int->V):V->Hp->VK->Prop:=fun x H Q=>∃ i,x=.int i/\Q (g i) H
section
variable {X:Cx} {a b c:Expr} {ta tb tc:TE} {pos:Pos}
theorem ud (ha:PE X a ta) (hb:PE X b tb) {pins:List (Addr×Obj)} {s:Shared} {σ:St} {H:Hp} {R:V->V->Hp->Prop} (I:Inv X pins σ H s)
  (h:ta σ H fun x H1=>tb σ H1 fun y H2=>R x y H2) {Q:Value->Shared->Prop} {f:Value->Value->Sem Value}
  (hf:∀ v u s2 x y H2,Inv X pins σ H2 s2->RelV x v->RelV y u->R x y H2->wpAny (model X.prog X.w) X.A (f v u) Q X.xe s2) :
  wpAny (model X.prog X.w) X.A (eval a X.env) (fun v aD=>wpAny (model X.prog X.w) X.A (eval b X.env) (fun u fN=>wpAny (model X.prog X.w) X.A (f v u) Q X.xe fN) X.xe aD) X.xe s:=by
 try unfold PE at *
 refine aH (ha pins s σ H _ I h) fun v s1 ⟨x,H1,I1,r1,q1⟩=>?_;refine aH (hb pins s1 σ H1 _ I1 q1) fun u s2 ⟨y,H2,I2,r2,q2⟩=>?_;exact hf v u s2 x y H2 I2 r1 r2 q2
theorem Zy {op:Operator} {r:R2} (ho:dJ X (Wv op) r) (ha:PE X a ta) (hb:PE X b tb):PE X (.BinOp a op b pos) (dN r ta tb):=by
 try unfold PE
 intro pins s σ H Q I h;exact wpAny_BinOp (ud ha hb I h fun v u s2 x y H2 I2 rx ry q=>ho pins s2 σ H2 x y v u Q I2 rx ry q)
theorem fH {op:UnaryOp} {r:V->Hp->VK->Prop} (ho:JJ X (unaryOp op) r) (ha:PE X a ta):PE X (.UnaryOp op a pos) (tUn r ta):=by
 try unfold PE at *
 intro pins s σ H Q I h;exact UnaryOp_ (aH (ha pins s σ H _ I h) fun v s1 ⟨x,H1,I1,r1,q1⟩=>ho pins s1 σ H1 x v Q I1 r1 q1)
theorem wI {f:Value->Value->Sem Value} {C:Int->Int->Prop} {g:Int->Int->Int}
  (rule:∀ (i j:Int) (t u:Tok) (s:Shared) (Q:Value->Shared->Prop) (E:Value->Shared->Prop),C i j->Q (.int (g i j) s.toks) {s with toks:=s.toks + 1}->wpAny (model X.prog X.w) X.A (f (.int i t) (.int j u)) Q E s) :
  dJ X f (rI C fun i j=>.int (g i j)):=by
 intro pins s σ H x y v u Q I rx ry h;obtain ⟨i,j,rfl,rfl,hc,q⟩:=h;obtain ⟨t,rfl⟩:=rx;obtain ⟨t',rfl⟩:=ry;exact rule i j t t' s _ _ hc ⟨.int (g i j),H,I.tok _,⟨_,rfl⟩,q⟩
theorem y8 {f:Value->Value->Sem Value} {g:Int->Int->Int}
  (rule:∀ (i j:Int) (t u:Tok) (s:Shared) (Q:Value->Shared->Prop) (E:Value->Shared->Prop),Q (.int (g i j) s.toks) {s with toks:=s.toks + 1}->wpAny (model X.prog X.w) X.A (f (.int i t) (.int j u)) Q E s) :
  dJ X f (q_ fun i j=>.int (g i j)):=by
 intro pins s σ H x y v u Q I rx ry h;obtain ⟨i,j,rfl,rfl,q⟩:=h;obtain ⟨t,rfl⟩:=rx;obtain ⟨t',rfl⟩:=ry;exact rule i j t t' s _ _ ⟨.int (g i j),H,I.tok _,⟨_,rfl⟩,q⟩
theorem tF {f:Value->Value->Sem Value} {g:Int->Int->Bool}
  (rule:∀ (i j:Int) (t u:Tok) (s:Shared) (Q:Value->Shared->Prop) (E:Value->Shared->Prop),Q (.bool (g i j)) s->wpAny (model X.prog X.w) X.A (f (.int i t) (.int j u)) Q E s) :
  dJ X f (q_ fun i j=>.bl (g i j)):=by
 intro pins s σ H x y v u Q I rx ry h;obtain ⟨i,j,rfl,rfl,q⟩:=h;obtain ⟨t,rfl⟩:=rx;obtain ⟨t',rfl⟩:=ry;exact rule i j t t' s _ _ ⟨.bl (g i j),H,I,rfl,q⟩
def zG (i j:Int):Prop:=0 < j/\j < 1073741824
def Ld (i j:Int):Prop:=0<=j/\j<=1000000/\i.natAbs < 2 ^ 64
def uf (i j:Int):Prop:=(-(2 ^ 64) < i/\i < 2 ^ 64)∨(-(2 ^ 64) < j/\j < 2 ^ 64)
theorem uf.ok {i j:Int} (h:uf i j):IntMulOk i j:=by
 rcases h with ⟨h1,h2⟩ | ⟨h1,h2⟩
 ·exact .of_left (intBits_le_64 h1 h2)
 ·exact .of_right (intBits_le_64 h1 h2)
theorem jt:dJ X (Wv .Add) (q_ fun i j=>.int (i + j)):=y8 fun _ _ _ _ _ _ _ q=>add_int q
theorem su:dJ X (Wv .Sub) (q_ fun i j=>.int (i - j)):=y8 fun _ _ _ _ _ _ _ q=>sub_int q
theorem lC:dJ X (Wv .Mult) (rI uf fun i j=>.int (i * j)):=wI fun _ _ _ _ _ _ _ hc q=>mul_int q hc.ok
theorem eX:dJ X (Wv .FloorDiv) (rI zG fun i j=>.int (i / j)):=wI fun i j _ _ _ _ _ hc q=>by
 have h1:(0:Int) < j:=hc.1;have h2:j < 1073741824:=hc.2;exact floordiv_int (by omega) (by rw [Int.fdiv_eq_ediv_of_nonneg i (by omega)];exact q) (.inl (PyProof.noPylong_small (by omega)))
theorem c7:dJ X (Wv .Mod) (rI (fun _ j=>0 < j) fun i j=>.int (i % j)):=wI fun i j _ _ _ _ _ hc q=>by
 have h1:(0:Int) < j:=hc;exact mod_int' (by omega) (by rw [Int.fmod_eq_emod_of_nonneg i (by omega)];exact q)
theorem Zw5:dJ X (Wv .Pow) (rI Ld fun i j=>.int (i ^ j.toNat)):=wI fun _ _ _ _ _ _ _ hc q=>pow_int_small hc.1 hc.2.1 hc.2.2 q
theorem unI {f:Value->Sem Value} {g:Int->Int}
  (rule:∀ (i:Int) (t:Tok) (s:Shared) (Q:Value->Shared->Prop) (E:Value->Shared->Prop),Q (.int (g i) s.toks) {s with toks:=s.toks + 1}->wpAny (model X.prog X.w) X.A (f (.int i t)) Q E s) :
  JJ X f (rU fun i=>.int (g i)):=by
 intro pins s σ H x v Q I rx h;obtain ⟨i,rfl,q⟩:=h;obtain ⟨t,rfl⟩:=rx;exact rule i t s _ _ ⟨.int (g i),H,I.tok _,⟨_,rfl⟩,q⟩
theorem fK:JJ X (unaryOp .USub) (rU fun i=>.int (-i)):=unI fun _ _ _ _ _ q=>neg_int q
end
def yX:V->V->Bool
 | .aL,.aL=>true | .aL,.int _=>true | .int _,.aL=>true | .aL,.bl _=>true | .bl _,.aL=>true | .aL,.str _=>true | .str _,.aL=>true
 | .int _,.int _=>true | .bl _,.bl _=>true | .str _,.str _=>true | .j5 _,.j5 _=>true
 | .int _,.str _=>true | .str _,.int _=>true | .bl _,.str _=>true | .str _,.bl _=>true
 | _,_=>false
def pF:R2:=fun x y H Q=>yX x y=true/\Q (.bl (decide (x=y))) H
def rNe:R2:=fun x y H Q=>yX x y=true/\Q (.bl (!decide (x=y))) H
theorem Zve {i j:Int}:decide (V.int i=V.int j)=(i == j):=by
 rw [WE]
 simp
theorem Zxd {i j:Bool}:decide (V.bl i=V.bl j)=(i == j):=by
 rw [WE]
 simp
theorem Zvd {i j:Str}:decide (V.str i=V.str j)=(i == j):=by
 rw [WE]
 simp
theorem Zvf {i j:Array UInt8}:decide (V.j5 i=V.j5 j)=(i.toList == j.toList):=by
 rw [WE]
 cases i
 cases j
 simp
section
variable {X:Cx} {a b c:Expr} {ta tb tc:TE} {pos:Pos}
theorem dy {pins:List (Addr×Obj)} {σ:St} {H:Hp} {s:Shared} {Q:VK} {k k':Bool} (I:Inv X pins σ H s) (q:Q (.bl k) H) (e:k=k'):EP X pins σ Q (.bool k') s:=by
 subst e;exact ⟨.bl k,H,I,rfl,q⟩
theorem fm:dJ X (XS .Eq) pF:=by
 intro pins s σ H x y v u Q I rx ry h;obtain ⟨hs,q⟩:=h
 cases x with
 | aL=>
  cases rx
  cases y with
  | aL=>cases ry;exact PySem.EqNone.eq_none_none (dy I q (by simp))
  | bl j=>cases ry;exact PySem.EqNone.eq_none_bool (dy I q (by simp))
  | int j=>obtain ⟨t',rfl⟩:=ry;exact PySem.EqNone.eq_none_int (dy I q (by simp))
  | str j=>obtain ⟨t',rfl⟩:=ry;exact PySem.EqNone.eq_none_str (dy I q (by simp))
  | _=>exact absurd (show false=true from hs) Yp
 | bl i=>
  cases rx
  cases y with
  | aL=>cases ry;exact PySem.EqNone.eq_bool_none (dy I q (by simp))
  | bl j=>cases ry;exact eq_bool (dy I q Zxd)
  | str j=>obtain ⟨t',rfl⟩:=ry;exact PySem.EqMixed.eq_bool_str (dy I q (by simp))
  | _=>exact absurd (show false=true from hs) Yp
 | int i=>
  obtain ⟨t,rfl⟩:=rx
  cases y with
  | aL=>cases ry;exact PySem.EqNone.eq_int_none (dy I q (by simp))
  | int j=>obtain ⟨t',rfl⟩:=ry;exact eq_int (dy I q Zve)
  | str j=>obtain ⟨t',rfl⟩:=ry;exact PySem.EqMixed.eq_int_str (dy I q (by simp))
  | _=>exact absurd (show false=true from hs) Yp
 | str i=>
  obtain ⟨t,rfl⟩:=rx
  cases y with
  | aL=>cases ry;exact PySem.EqNone.eq_str_none (dy I q (by simp))
  | bl j=>cases ry;exact PySem.EqMixed.eq_str_bool (dy I q (by simp))
  | int j=>obtain ⟨t',rfl⟩:=ry;exact PySem.EqMixed.eq_str_int (dy I q (by simp))
  | str j=>obtain ⟨t',rfl⟩:=ry;exact eq_str (dy I q Zvd)
  | _=>exact absurd (show false=true from hs) Yp
 | j5 i=>
  obtain ⟨t,rfl⟩:=rx
  cases y with
  | j5 j=>obtain ⟨t',rfl⟩:=ry;exact PySem.W.eq_bytes (dy I q Zvf)
  | _=>exact absurd (show false=true from hs) Yp
 | _=>cases y <;> exact absurd (show false=true from hs) Yp
theorem Ee:dJ X (XS .NotEq) rNe:=by
 intro pins s σ H x y v u Q I rx ry h;obtain ⟨hs,q⟩:=h
 cases x with
 | aL=>
  cases rx
  cases y with
  | aL=>cases ry;exact PySem.EqNone.ne_none_none (dy I q (by simp))
  | bl j=>cases ry;exact PySem.EqNone.ne_none_bool (dy I q (by simp))
  | int j=>obtain ⟨t',rfl⟩:=ry;exact PySem.EqNone.ne_none_int (dy I q (by simp))
  | str j=>obtain ⟨t',rfl⟩:=ry;exact PySem.EqNone.ne_none_str (dy I q (by simp))
  | _=>exact absurd (show false=true from hs) Yp
 | bl i=>
  cases rx
  cases y with
  | aL=>cases ry;exact PySem.EqNone.ne_bool_none (dy I q (by simp))
  | bl j=>cases ry;exact ne_bool (dy I q (congrArg not Zxd))
  | str j=>obtain ⟨t',rfl⟩:=ry;exact PySem.EqMixed.ne_bool_str (dy I q (by simp))
  | _=>exact absurd (show false=true from hs) Yp
 | int i=>
  obtain ⟨t,rfl⟩:=rx
  cases y with
  | aL=>cases ry;exact PySem.EqNone.ne_int_none (dy I q (by simp))
  | int j=>obtain ⟨t',rfl⟩:=ry;exact ne_int (dy I q (congrArg not Zve))
  | str j=>obtain ⟨t',rfl⟩:=ry;exact PySem.EqMixed.ne_int_str (dy I q (by simp))
  | _=>exact absurd (show false=true from hs) Yp
 | str i=>
  obtain ⟨t,rfl⟩:=rx
  cases y with
  | aL=>cases ry;exact PySem.EqNone.ne_str_none (dy I q (by simp))
  | bl j=>cases ry;exact PySem.EqMixed.ne_str_bool (dy I q (by simp))
  | int j=>obtain ⟨t',rfl⟩:=ry;exact PySem.EqMixed.ne_str_int (dy I q (by simp))
  | str j=>obtain ⟨t',rfl⟩:=ry;exact ne_str (dy I q (congrArg not Zvd))
  | _=>exact absurd (show false=true from hs) Yp
 | j5 i=>
  obtain ⟨t,rfl⟩:=rx
  cases y with
  | j5 j=>obtain ⟨t',rfl⟩:=ry;exact PySem.W.ne_bytes (dy I q (congrArg not Zvf))
  | _=>exact absurd (show false=true from hs) Yp
 | _=>cases y <;> exact absurd (show false=true from hs) Yp
theorem vg:dJ X (XS .Lt) (q_ fun i j=>.bl (decide (i < j))):=tF fun _ _ _ _ _ _ _ q=>lt_int q
theorem sq:dJ X (XS .Gt) (q_ fun i j=>.bl (decide (j < i))):=tF fun _ _ _ _ _ _ _ q=>gt_int q
theorem Zzd:dJ X (XS .GtE) (q_ fun i j=>.bl (decide (j<=i))):=tF fun _ _ _ _ _ _ _ q=>ge_int q
theorem Zuq:dJ X (XS .In) (fun x y H Q=>∃ i j,x=.str i/\y=.str j/\Q (.bl (!(YX j i 0 j.length 1).isEmpty)) H):=by
 intro pins s σ H x y v u Q I rx ry h;obtain ⟨i,j,rfl,rfl,q⟩:=h;obtain ⟨t,rfl⟩:=rx;obtain ⟨t',rfl⟩:=ry;exact in_str (dy I q rfl)
theorem ZO (b:Expr) {op:CmpOp} (h:op≠.In:=by decide) (h2:op≠.NotIn:=by decide):WG op b=false:=by
 have e1:(op == CmpOp.In)=false:=by cases op <;> first | rfl | exact absurd rfl h
 have e2:(op == CmpOp.NotIn)=false:=by cases op <;> first | rfl | exact absurd rfl h2
 cases b <;> simp [WG,e1,e2]
theorem mh {op:CmpOp} {r:R2} (ho:dJ X (XS op) r) (ha:PE X a ta) (hb:PE X b tb) (hm:WG op b=false):PE X (.Compare a [op] [b] pos) (dN r ta tb):=by
 try unfold PE
 intro pins s σ H Q I h;exact wpAny_Compare1 (ud ha hb I h fun v u s2 x y H2 I2 rx ry q=>ho pins s2 σ H2 x y v u Q I2 rx ry q) hm
def qa (t:TE):TT:=fun σ H Q=>t σ H fun x H'=>∃ k,x=.bl k/\Q k H'
theorem ZG {op:CmpOp} {r:R2} (ho:dJ X (XS op) r) (ha:PE X a ta) (hb:PE X b tb) (hm:WG op b=false):PT X (.Compare a [op] [b] pos) (qa (dN r ta tb)):=by
 try unfold PE at *
 intro pins s σ H Q I h
 refine wpAny_isTrue_Compare1 (aH (ha pins s σ H _ I h) fun v s1 ⟨x,H1,I1,r1,q1⟩=>aH (hb pins s1 σ H1 _ I1 q1) fun u s2 ⟨y,H2,I2,r2,q2⟩=>
  aH (ho pins s2 σ H2 x y v u _ I2 r1 r2 q2) fun c s3 ⟨z,H3,I3,r3,k,e,q3⟩=>?_) hm
 subst e
 cases r3
 exact WI ⟨H3,I3,q3⟩
theorem xU:(Ym:Nat) < 2 ^ 63:=by rw [WR];decide
theorem GK:dJ X (Wv .Add) (fun x y H Q=>∃ i j,x=.str i/\y=.str j/\i.length + j.length<=Ym/\Q (.str (i++j)) H):=by
 intro pins s σ H x y v u Q I rx ry h;obtain ⟨i,j,rfl,rfl,hz,q⟩:=h;obtain ⟨t,rfl⟩:=rx;obtain ⟨t',rfl⟩:=ry;exact add_str (fun t' tk=>⟨.str (i++j),H,I.tok _,⟨_,rfl⟩,q⟩) hz
theorem sk {x:V} {us:List Value} (r:Vals [x] us):∃ u,us=[u]/\RelV x u:=by
 cases r with
 | cons r1 r2=>cases r2;exact ⟨_,rfl,r1⟩
theorem ZyA {x y:V} {us:List Value} (r:Vals [x,y] us):∃ u w',us=[u,w']/\RelV x u/\RelV y w':=by
 cases r with
 | cons r1 r2=>
  cases r2 with
  | cons r3 r4=>cases r4;exact ⟨_,_,rfl,r1,r3⟩
theorem Zvu (hc:X.calm=true):eN X (.builtin "max") (fun xs H Q=>∃ i j,xs=[.int i,.int j]/\Q (.int (if j > i then j else i)) H):=by
 intro pins s σ H xs us Q I r h;obtain ⟨i,j,rfl,q⟩:=h;obtain ⟨u,w',rfl,⟨t,rfl⟩,⟨t',rfl⟩⟩:=ZyA r;refine max_two_ints (I.ok.hd hc) fun h' tk k=>⟨_,H,I.kept k,?_,q⟩
 by_cases hj:j > i
 ·rw [if_pos hj,if_pos hj];exact ⟨_,rfl⟩
 ·rw [if_neg hj,if_neg hj];exact ⟨_,rfl⟩
theorem Zqx (hc:X.calm=true):eN X (.builtin "min") (fun xs H Q=>∃ i j,xs=[.int i,.int j]/\Q (.int (if j < i then j else i)) H):=by
 intro pins s σ H xs us Q I r h;obtain ⟨i,j,rfl,q⟩:=h;obtain ⟨u,w',rfl,⟨t,rfl⟩,⟨t',rfl⟩⟩:=ZyA r;refine min_two_ints (I.ok.hd hc) fun h' tk k=>⟨_,H,I.kept k,?_,q⟩
 by_cases hj:j < i
 ·rw [if_pos hj,if_pos hj];exact ⟨_,rfl⟩
 ·rw [if_neg hj,if_neg hj];exact ⟨_,rfl⟩
theorem Zqy:eN X (.type "int") (fun xs H Q=>(∃ i,xs=[.int i]/\Q (.int i) H)∨∃ k,xs=[.bl k]/\Q (.int (if k then 1 else 0)) H):=by
 intro pins s σ H xs us Q I r h;rcases h with ⟨i,rfl,q⟩ | ⟨k,rfl,q⟩
 ·obtain ⟨u,rfl,t,rfl⟩:=sk r;exact call_int_int ⟨.int i,H,I,⟨_,rfl⟩,q⟩
 ·obtain ⟨u,rfl,r1⟩:=sk r
  cases r1
  exact call_int_bool ⟨.int (if k then 1 else 0),H,I.tok _,⟨_,rfl⟩,q⟩
end
end L2
namespace L2
open PySem PySem.Spec PyProof.Rows
structure jQ (h:Heap) (x dx C:Addr) (mA:Str->Option Value):Prop where
 obj:h.get? x=some (X9 C dx)
 ns:h.Ns1 dx mA
 ne:dx≠x
theorem ZuN {h:Heap} {dx:Addr} {mA:Str->Option Value} (n:h.Ns1 dx mA):∃ od,h.get? dx=some od/\∀ name,PySem.W.lookIn name od=some (mA name):=by
 obtain ⟨o,es,ep,ho,hd,hk,_,hm⟩:=n;refine ⟨o,ho,fun name=>?_⟩;have e:=hm name;unfold nsFind findBy at e;rw [<- Array.find?_toList] at e;unfold PySem.W.lookIn;rw [hd];dsimp only
 split
 ·rename_i y q
  rw [q] at e;exact congrArg some e
 ·rename_i q
  rw [q] at e
  have a:es.toList.any (·.refKey)=false:=by
   rw [List.any_eq_false];intro y hy;obtain ⟨z,t,jM⟩:=hk y (Array.mem_toList_iff.mp hy)
   simp [DictEntry.refKey,jM]
  have a':¬ es.toList.any (·.refKey)=true:=by rw [a];exact Yp
  rw [if_neg a'];exact congrArg some e
theorem jQ.look {h:Heap} {x dx C:Addr} {mA:Str->Option Value} (I:jQ h x dx C mA):∃ od,PySem.W.InstAt h x (X9 C dx) C (some od)/\∀ name,PySem.W.lookIn name od=some (mA name):=
 let ⟨od,ho,hl⟩:=ZuN I.ns
 ⟨od,⟨I.obj,rfl,rfl,ho⟩,hl⟩
section
variable {prog:Program} {w:World} {A:Around} {E:Value->Shared->Prop} {s:Shared} {K:Yg} {x dx C f:Addr} {mA:Str->Option Value} {name:Str} {v:Value}
theorem Zyb {expr:Bool} {Q:Value->Shared->Prop} (X:K.In s.heap) (I:jQ s.heap x dx C mA) (hg:Ybd K C name=true) (hh:PySem.W.hasDictIn K C=true)
  (ha:Xm K (.ref C) name=some none) (hv:mA name=some v) (hv':PySem.W.handedIn v=true) (h:Q v {s with toks:=s.toks + 1}) :
  wpAny (model prog w) A (getAttr (.ref x) name expr) Q E s:=by
 obtain ⟨od,J,hl⟩:=I.look;exact PySem.W.get_value X J (YbL hg).1 (PySem.W.findObj_own hh ha rfl (by rw [hl,hv])) hv' h
theorem Zwr {pl:Sem Bool} {Q:Value×List Value->Shared->Prop} (X:K.In s.heap) (I:jQ s.heap x dx C mA) (hg:Ybd K C name=true)
  (hf:Xm K (.ref C) name=some (some (.ref f))) (ht:PySem.W.isFn K (.ref f)=true) (hv:mA name=none) (h:Q (.ref f,[.ref x]) s) :
  wpAny (model prog w) A (getMethod (.ref x) name pl) Q E s:=by
 obtain ⟨od,J,hl⟩:=I.look;exact PySem.W.method_fn X J (YbL hg).1 (YbL hg).2 hf (beq_iff_eq.mp ht) (by show (PySem.W.lookIn name od).map (·.isSome)=some false;rw [hl,hv];rfl) h
theorem ZxD {ns:List Str} {Q:Unit->Shared->Prop} (X:K.In s.heap) (I:jQ s.heap x dx C mA)
  (hs:Xm K (.ref C) "__setattr__"=some (some (.builtin "object.__setattr__"))) (hp:PySem.W.plainOver K C=true) (ht:PySem.W.takerIn K C name=some none) (hh:PySem.W.hasDictIn K C=true)
  (hw:PySem.Within mA ns) (hsz:ns.length<=Ym)
  (h:∀ h',jQ h' x dx C (fun y=>if y=name then some v else mA y)->Xx dx s.heap h'->Q () {s with heap:=h',toks:=s.toks + 2}) :
  wpAny (model prog w) A (setAttr (.ref x) name v) Q E s:=by
 obtain ⟨od,J,hl⟩:=I.look;refine PySem.W.set_plain X J hs (PySem.W.osa_open (s:={s with toks:=s.toks + 1}) (r:=none) X J hp ht fun b=>?_);obtain ⟨cd,hc,xx⟩:=PySem.W.any_some hh;have hx:s.heap.get? x=some ⟨.ref C,some dx,.plain,#[]⟩:=I.obj;refine Ya (Yd (Ya (Ya (wpAny_loadPart hx (Ya (PySem.W.Looks.here (s:={s with toks:=s.toks + 1}) (PySem.W.looks_clsIn X hc) ?_))))));rw [xx];refine Yd (a:=some dx) (Ya (Yd (Ya ?_)));refine wpAny_nsSet1 (s:={s with toks:=s.toks + 1}) I.ns fun h' Au pP=>?_;obtain ⟨oD,esD,epD,hoD,hdD,xA⟩:=Au.count (PySem.Within.cons name v hw);refine Ya (wpAny_lookBehind hoD (by rw [hdD];exact pastItsLine_dict (Yk xA (by rw [Yz];omega))) ?_);exact Yd (h _ ⟨(pP.2 _ (WN I.ne)).trans I.obj,Au,I.ne⟩ pP)
theorem Zwi {R:Result->Shared->Prop} {vs:List Value} {kw:List (Str×Value)} (X:K.In s.heap) (hm:PySem.W.makesIn K C=true)
  (hi:Xm K (.ref C) "__init__"=some (some (.ref f))) (hf:PySem.W.typeIn K (.ref f)=some (.type "function"))
  (h:Yas (model prog w) (A.under (.builtin "type.__call__" ⟨.ref C::vs,kw⟩)) (.call (.ref f) ⟨.ref (s.heap.objs.size + 1)::vs,kw⟩) (PySem.W.InitBack (s.heap.objs.size + 1) R)
   {s with heap:=(s.heap.push Xu).push (X9 C s.heap.objs.size)}) :
  Yas (model prog w) A (.call (.ref C) ⟨vs,kw⟩) R s:=by
 obtain ⟨hh,g,d,t,os⟩:=s;exact PySem.W.make_core (PySem.W.makes_of X hm) (PySem.W.looks_findIn X hi) (fun self=>PySem.W.bind_fn X self hf) (.inl rfl) h
end
def av (f:Str) (v:V):List (Str×V)->List (Str×V)
  | []=>[(f,v)]
  | (g,x)::r=>if g=f then (g,v)::r else (g,x)::av f v r
theorem Zo (f g:Str) (v:V):∀ fs:List (Str×V),(av f v fs).lookup g=if g=f then some v else fs.lookup g
  | []=>by
    show XO g [(f,v)]=_
    by_cases h:g=f
    · have hb:(g == f)=true:=beq_iff_eq.mpr h
      simp only [XO,hb,if_pos h]
    · have hb:(g == f)=false:=beq_eq_false_iff_ne.mpr h
      simp only [XO,hb,if_neg h]
  | (k,x)::r=>by
    have ih:=Zo f g v r;rw [show av f v ((k,x)::r)=(if k=f then (k,v)::r else (k,x)::av f v r) from rfl]
    by_cases hk:k=f
    · rw [if_pos hk]
      by_cases h:g=k
      · have hb:(g == k)=true:=beq_iff_eq.mpr h
        simp only [XO,hb,if_pos (h.trans hk)]
      · have hb:(g == k)=false:=beq_eq_false_iff_ne.mpr h
        simp only [XO,hb,if_neg (fun e:g=f=>h (e.trans hk.symm))]
    · rw [if_neg hk]
      by_cases h:g=k
      · have hb:(g == k)=true:=beq_iff_eq.mpr h
        simp only [XO,hb,if_neg (fun e:g=f=>hk (h.symm.trans e))]
      · have hb:(g == k)=false:=beq_eq_false_iff_ne.mpr h
        simp only [XO,hb]
        exact ih
theorem FI (f:Str) (v:V):∀ fs:List (Str×V),f∈(av f v fs).map (·.1)/\∀ g,g∈fs.map (·.1)->g∈(av f v fs).map (·.1)
  | []=>⟨by simp [av],fun g h=>by simp at h⟩
  | (k,x)::r=>by
    obtain ⟨i1,i2⟩:=FI f v r;rw [show av f v ((k,x)::r)=(if k=f then (k,v)::r else (k,x)::av f v r) from rfl]
    by_cases hk:k=f
    · rw [if_pos hk]
      subst hk;exact ⟨by simp,fun g h=>by simpa using h⟩
    · rw [if_neg hk]
      refine ⟨?_,fun g h=>?_⟩
      · rw [Yt]
        exact Yr _ i1
      · rw [Yt] at h ⊢
        rcases List.mem_cons.mp h with e | e
        · exact List.mem_cons.mpr (.inl e)
        · exact Yr _ (i2 g e)
theorem ZlI (f:Str) (v:V):∀ fs:List (Str×V),(av f v fs).length<=fs.length + 1
  | []=>by simp [av]
  | (k,x)::r=>by
    have ih:=ZlI f v r;rw [show av f v ((k,x)::r)=(if k=f then (k,v)::r else (k,x)::av f v r) from rfl]
    by_cases hk:k=f
    · rw [if_pos hk,Yz,Yz];omega
    · rw [if_neg hk,Yz,Yz];omega
theorem bZ.some_of {v:V} {o:Option Value} (r:bZ (some v) o):∃ u,o=some u/\RelV v u:=by
 cases o with
 | none=>exact (show False from r).elim
 | some u=>exact ⟨u,rfl,r⟩
theorem bZ.none_of {o:Option Value} (r:bZ none o):o=none:=by
 cases o with
 | none=>rfl
 | some u=>exact (show False from r).elim
theorem ZuW {v:V} {u:Value} (r:RelV v u):PySem.W.handedIn u=true:=by
 cases v with
 | aL=>cases (show u=Value.none from r);rfl
 | bl b=>cases (show u=Value.bool b from r);rfl
 | int i=>obtain ⟨t,e⟩:=(show ∃ t,u=Value.int i t from r);cases e;rfl
 | str x=>obtain ⟨t,e⟩:=(show ∃ t,u=Value.str x t from r);cases e;rfl
 | j5 b=>obtain ⟨t,e⟩:=(show ∃ t,u=Value.bytes b t from r);cases e;rfl
 | oo b=>obtain ⟨t,e⟩:=(show ∃ t,u=Value.float b t from r);cases e;rfl
 | ref a=>cases (show u=Value.ref a from r);rfl
 | ty n=>cases (show u=Value.type n from r);rfl
section
variable {P:Program} {w:World} {H H':Hp} {h h':Heap} {a C dx:Addr} {fs fs':List (Str×V)}
theorem Bc (aj:cC P w H h) (e:H a=some (.ins C dx fs)):∃ mA,jQ h a dx C mA/\(∀ f,bZ (fs.lookup f) (mA f))/\PySem.Within mA (fs.map (·.1))/\fs.length<=1000/\H dx=some (.own a):=by
 obtain ⟨d,z,ne,ob,mA,n,r,q⟩:=(show bT P w H h a (.ins C dx fs) from aj a _ e)
 exact ⟨mA,⟨ob,n,ne⟩,r,q,z,d⟩
end
structure Cls (K:Yg) (C:Addr):Prop where
 pg:Ybd K C Str.empty=true
 hd:PySem.W.hasDictIn K C=true
 po:PySem.W.plainOver K C=true
 sa:Xm K (.ref C) "__setattr__"=some (some (.builtin "object.__setattr__"))
theorem Cls.get {K:Yg} {C:Addr} (c:Cls K C) (f:Str):Ybd K C f=true:=c.pg
def eP (K:Yg) (C:Addr) (f:Str):Prop:=Xm K (.ref C) f=some none
theorem eP.zL {K:Yg} {C:Addr} {f:Str} (n:eP K C f):PySem.W.takerIn K C f=some none:=by
 unfold PySem.W.takerIn;rw [show Xm K (.ref C) f=some none from n];rfl
structure Meth (K:Yg) (C:Addr) (m:Str) (f:Addr):Prop where
 at_:Xm K (.ref C) m=some (some (.ref f))
 fn:PySem.W.isFn K (.ref f)=true
 kp:XM K (.ref f)=true
section
variable {X:Cx} {pins:List (Addr×Obj)} {σ:St} {H:Hp} {s:Shared} {a C dx:Addr} {fs:List (Str×V)} {f:Str} {v:V} {A:Around} {E:Value->Shared->Prop}
theorem Zto {b:Bool} {Q:Value->Shared->Prop} (I:Inv X pins σ H s) (e:H a=some (.ins C dx fs)) (c:Cls X.K C) (n:eP X.K C f) (l:fs.lookup f=some v)
  (h:∀ u s',Inv X pins σ H s'->RelV v u->Q u s'):wpAny (model X.prog X.w) A (getAttr (.ref a) f b) Q E s:=by
 obtain ⟨mA,O,r,_,_,_⟩:=Bc I.aj e;obtain ⟨u,hu,ru⟩:=bZ.some_of (v:=v) (o:=mA f) (by rw [<- l];exact r f);exact Zyb I.cf O (c.get f) c.hd n hu (ZuW ru) (h u _ (I.tok _) ru)
theorem Znk {m:Str} {g:Addr} {pl:Sem Bool} {Q:Value×List Value->Shared->Prop} (I:Inv X pins σ H s) (e:H a=some (.ins C dx fs)) (c:Cls X.K C) (k:Meth X.K C m g) (l:fs.lookup m=none)
  (h:Q (.ref g,[.ref a]) s):wpAny (model X.prog X.w) A (getMethod (.ref a) m pl) Q E s:=by
 obtain ⟨mA,O,r,_,_,_⟩:=Bc I.aj e;have hn:mA m=none:=bZ.none_of (by rw [<- l];exact r m);exact Zwr I.cf O (c.get m) k.at_ k.fn hn h
theorem ZsU {y:V} {u:Value} {Q:Unit->Shared->Prop} (I:Inv X pins σ H s) (e:H a=some (.ins C dx fs)) (c:Cls X.K C) (n:eP X.K C f) (hl:fs.length < 1000) (ry:RelV y u)
  (h:∀ s',Inv X pins σ (upd H a (.ins C dx (av f y fs))) s'->Q () s'):wpAny (model X.prog X.w) A (setAttr (.ref a) f u) Q E s:=by
 obtain ⟨mA,O,r,wi,_,ho⟩:=Bc I.aj e;have hz:(fs.map (·.1)).length<=Ym:=by rw [Yb,WR];omega
 refine ZxD I.cf O c.sa c.po n.zL c.hd wi hz fun h' O' sb=>h _ ?_;have hd:∃ o,h'.get? dx=some o:=let ⟨o,_,_,e',_⟩:=O'.ns;⟨o,e'⟩
 refine I.write (x:=a) (e:=dx) (by rw [e];exact XX) (.inr ho) (fun b q hb z=>(sb.2 b hb).trans z) hd ?_;refine ⟨by rw [Zf O.ne];exact ho,?_,O.ne,O'.obj,_,O'.ns,fun g=>?_,fun g hg=>?_⟩
 ·have:=ZlI f y fs;omega
 ·show bZ ((av f y fs).lookup g) (if g=f then some u else mA g);rw [Zo]
  by_cases q:g=f
  ·rw [if_pos q,if_pos q];exact ry
  ·rw [if_neg q,if_neg q];exact r g
 ·by_cases q:g=f
  ·rw [q];exact (FI f y fs).1
  ·refine (FI f y fs).2 g (wi g fun z=>hg ?_);show (if g=f then some u else mA g)=none;rw [if_neg q];exact z
theorem Inv.made (I:Inv X pins σ H s):Inv X pins σ (upd (upd H s.heap.objs.size (.own (s.heap.objs.size + 1))) (s.heap.objs.size + 1) (.ins C s.heap.objs.size []))
  {s with heap:=(s.heap.push Xu).push (X9 C s.heap.objs.size)}:=by
 have e1:(s.heap.push Xu).get? s.heap.objs.size=some Xu:=Yi s.heap rfl
 have e2:((s.heap.push Xu).push (X9 C s.heap.objs.size)).get? (s.heap.objs.size + 1)=some (X9 C s.heap.objs.size):=by
  have:=Yi (s.heap.push Xu) (o:=X9 C s.heap.objs.size) rfl
  rwa [XN] at this
 have e3:(s.heap.push Xu).Ns s.heap.objs.size (fun _=>none):=⟨Xu,#[],_,e1,rfl,(fun e he=>absurd he (by simp)),fun _=>rfl⟩
 have I1:=I.laid (a:=s.heap.objs.size) (o:=.own (s.heap.objs.size + 1)) (h':=s.heap.push Xu) (t':=s.toks) (fun b u q=>Yc _ q) (Ye _) ⟨_,e1⟩;refine I1.laid (a:=s.heap.objs.size + 1) (o:=.ins C s.heap.objs.size []) (t':=s.toks) (fun b u q=>Yc _ q) (WW (XN _ _)) ?_;have ne:s.heap.objs.size≠s.heap.objs.size + 1:=Yu (Nat.lt_succ_self _);refine ⟨by rw [Zf ne,Zb],Yv _,ne,e2,fun _=>none,(Heap.Ns1.of_empty e3).at fun o q=>Yc _ q,fun _=>XX,fun y hy=>absurd rfl hy⟩
theorem Zyl {prog:Program} {w:World} {env:Env} {e:Expr} {f:Str} {pos:Pos} {s:Shared} {Q:Value->Shared->Prop} (hb:W2 e f env (eval e env)=eval e env)
  (h:wpAny (model prog w) A (eval e env) (fun o aD=>wpAny (model prog w) A (getAttr o f true) Q E aD) E s):wpAny (model prog w) A (eval (.Attribute e f pos) env) Q E s:=
 Attribute_any_ h (by rw [arm_eval_Attribute,hb])
end
def J0 (K:Yg) (ta:TE) (f:Str):TE:=fun σ H Q=>ta σ H fun x H1=>∃ a C dx fs v,x=.ref a/\H1 a=some (.ins C dx fs)/\Cls K C/\eP K C f/\fs.lookup f=some v/\Q v H1
def J7 (K:Yg) (ta tv:TE) (f:Str):TS:=fun D σ H=>tv σ H fun y H1=>ta σ H1 fun x H2=>∃ a C dx fs,x=.ref a/\H2 a=some (.ins C dx fs)/\Cls K C/\eP K C f/\fs.length < 1000/\
 D.nx σ (upd H2 a (.ins C dx (av f y fs)))
section
variable {X:Cx} {o e value:Expr} {f:Str} {pos pos' JR:Pos} {ta tv:TE}
theorem Zv (he:PE X e ta) (hb:W2 e f X.env (eval e X.env)=eval e X.env):PE X (.Attribute e f pos) (J0 X.K ta f):=by
 try unfold PE at *
 intro pins s σ H Q I h;refine Zyl hb (aH (he pins s σ H _ I h) fun u s1 ⟨x,H1,I1,rx,a,C,dx,fs,v,ex,ea,c,n,l,q⟩=>?_);subst ex;obtain rfl:u=Value.ref a:=rx;exact Zto I1 ea c n l fun u' s2 I2 ru=>⟨v,H1,I2,ru,q⟩
theorem fu (ha:PE X o ta) (hv:PE X value tv) (hs:swapsWith value (some (.Attribute o f pos')) pos.line X.env=pure false):PS X (.Assign [.Attribute o f pos'] value pos) (J7 X.K ta tv f):=by
 try unfold PE at *;try unfold PS at *
 intro pins s σ H D I h;refine plainObj_wpAny_Assign_Attribute (aH (hv pins s σ H _ I h) fun u s1 ⟨y,H1,I1,ry,q⟩=>aH (ha pins s1 σ H1 _ I1 q) fun ov s2 ⟨x,H2,I2,rx,a,C,dx,fs,ex,ea,c,n,l,q2⟩=>?_) hs;subst ex;obtain rfl:ov=Value.ref a:=rx;exact ZsU I2 ea c n l ry fun s3 I3=>⟨σ,_,I3,q2⟩
end
section
variable {X:Cx} {pins:List (Addr×Obj)} {σ:St} {H:Hp} {s:Shared} {A:Around} {E:Value->Shared->Prop} {Q:Value->Shared->Prop} {c:Value} {b:Bool}
inductive eC (K:Yg) (H:Hp):V->Value->Prop where
 | aL:eC K H .aL (.type "NoneType")
 | bl (x:Bool):eC K H (.bl x) (.type "bool")
 | int (i:Int):eC K H (.int i) (.type "int")
 | str (x:Str):eC K H (.str x) (.type "str")
 | oo (x:UInt64):eC K H (.oo x) (.type "float")
 | lst {a:Addr} {xs:List V} (e:H a=some (.lst xs)):eC K H (.ref a) (.type "list")
 | bt {a:Addr} {o:Obj} {xs:List V} (e:H a=some (.bt o (.lst xs))):eC K H (.ref a) (.type "list")
 | tup {a:Addr} {xs:List V} (e:H a=some (.tup xs)):eC K H (.ref a) (.type "tuple")
 | dK {a:Addr} {kvs:List (Key×V)} (e:H a=some (.dK kvs)):eC K H (.ref a) (.type "dict")
 | dT {a:Addr} {kvs:List (List Key×V)} (e:H a=some (.dT kvs)):eC K H (.ref a) (.type "dict")
 | ins {a C dx:Addr} {fs:List (Str×V)} (e:H a=some (.ins C dx fs)) (cl:Cls K C) (ha:Xm K (.ref C) "__class__"=some (some (.builtin "object.__class__")))
   (hn:PySem.W.specialIn K (.builtin "object.__class__") "__get__"=some (some (.builtin "getset_descriptor.__get__"))) (jn:PySem.W.takesIn K (.builtin "object.__class__")=some true)
   (hm:PySem.W.mroIn K C (.type "object")=some true):eC K H (.ref a) (.ref C)
theorem Zp4 {x:V} {u t:Value} (I:Inv X pins σ H s) (rx:RelV x u) (ty:eC X.K H x t) (e:Yae X.K t c=some b) (h:∀ tk,Q (.bool b) {s with toks:=tk}) :
  wpAny (model X.prog X.w) A (call (.builtin "isinstance") [u,c]) Q E s:=by
 cases ty with
 | aL=>cases (show u=Value.none from rx);exact Xo PySem.W.kitx_none I.cf XX e (fun z=>nomatch z) h
 | bl y=>cases (show u=Value.bool y from rx);exact Xo PySem.W.kitx_bool I.cf XX e (fun z=>nomatch z) h
 | int i=>obtain ⟨t,q⟩:=(show ∃ t,u=Value.int i t from rx);cases q;exact Xo PySem.W.kitx_int I.cf XX e (fun z=>nomatch z) h
 | str y=>obtain ⟨t,q⟩:=(show ∃ t,u=Value.str y t from rx);cases q;exact Xo PySem.W.kitx_str I.cf XX e (fun z=>nomatch z) h
 | oo y=>obtain ⟨t,q⟩:=(show ∃ t,u=Value.float y t from rx);cases q;exact Xo PySem.W.kitx_float I.cf XX e (fun z=>nomatch z) h
 | @lst a xs ea=>
  cases (show u=Value.ref a from rx)
  obtain ⟨_,_,n,_,h1⟩:=(show bT X.prog X.w H s.heap a (.lst xs) from I.aj a _ ea)
  exact Xo PySem.W.kitx_list I.cf ⟨_,h1,rfl⟩ e (fun z=>nomatch z) h
 | @bt a ob xs ea=>
  cases (show u=Value.ref a from rx)
  obtain ⟨_,_,_,n,_,h1⟩:=(show bT X.prog X.w H s.heap a (.bt ob (.lst xs)) from I.aj a _ ea)
  exact Xo PySem.W.kitx_list I.cf ⟨_,h1,rfl⟩ e (fun z=>nomatch z) h
 | @tup a xs ea=>
  cases (show u=Value.ref a from rx)
  obtain ⟨_,_,_,p⟩:=(show bT X.prog X.w H s.heap a (.tup xs) from I.aj a _ ea)
  obtain ⟨o,h1,h2,_⟩:=p;exact Xo PySem.W.kitx_tuple I.cf ⟨o,h1,h2⟩ e (fun z=>nomatch z) h
 | @dK a kvs ea=>
  cases (show u=Value.ref a from rx)
  obtain ⟨_,_,vs,_,p⟩:=(show bT X.prog X.w H s.heap a (.dK kvs) from I.aj a _ ea)
  obtain ⟨o,es,ep,h1,h2,_⟩:=p;exact Xo PySem.W.kitx_dict I.cf ⟨o,h1,h2.1⟩ e (fun z=>nomatch z) h
 | @dT a kvs ea=>
  cases (show u=Value.ref a from rx)
  obtain ⟨_,_,xs,_,o,es,ep,h1,h2,_⟩:=(show bT X.prog X.w H s.heap a (.dT kvs) from I.aj a _ ea)
  exact Xo PySem.W.kitx_dict I.cf ⟨o,h1,h2.1⟩ e (fun z=>nomatch z) h
 | @ins a C dx fs ea cl ha hn jn hm=>
  cases (show u=Value.ref a from rx)
  obtain ⟨mA,O,_⟩:=Bc I.aj ea;obtain ⟨od,J,_⟩:=O.look;exact Xo (PySem.W.kitx_own (cl.get _) cl.hd ha hn jn hm) I.cf J e (fun z=>nomatch z) h
end
end L2
namespace L2
open PySem PySem.Spec PyProof.Rows
structure aW (k:Nat) (A:Around):Prop where
 hd:A.handled=none
 dp:A.depth + 3 * k + 5 < YaF
 un:A.units + 16 * k + 200 < cLine
theorem aW.mono {j k:Nat} {A:Around} (r:aW k A) (h:j<=k):aW j A:=⟨r.hd,by have:=r.dp;omega,by have:=r.un;omega⟩
theorem aW.deeper {k:Nat} {A:Around} (r:aW (k + 1) A) (env:Env):aW k (A.deeper env):=
 ⟨r.hd,by have:=r.dp;show A.depth + 1 + 3 * k + 5 < _;omega,by have:=r.un;show A.units + 3 + 16 * k + 200 < _;omega⟩
theorem Zth {A:Around} {C:Addr} {us:List Value} {kw:List (Str×Value)}:(A.under (.builtin "type.__call__" ⟨.ref C::us,kw⟩)).depth=A.depth + 1:=by
 first | rfl | simp [Around.under,Code.weight,Code.isCreation,Code.isGuard,Code.isCaller,Code.frames,Code.isFrame,guardIds]
theorem Ztg {A:Around} {C:Addr} {us:List Value} {kw:List (Str×Value)}:(A.under (.builtin "type.__call__" ⟨.ref C::us,kw⟩)).units=A.units + 1:=by
 first | rfl | simp [Around.under,Code.cUnits,Code.frames,Code.isFrame]
theorem aW.make {k:Nat} {A:Around} (r:aW (k + 1) A) (C:Addr) (us:List Value) (kw:List (Str×Value)):aW k (A.under (.builtin "type.__call__" ⟨.ref C::us,kw⟩)):=
 ⟨r.hd,by have:=r.dp;rw [Zth];omega,by have:=r.un;rw [Ztg];omega⟩
theorem aW.depth {k:Nat} {A:Around} (r:aW k A):A.depth < YaF:=by have:=r.dp;omega
theorem aW.units {k:Nat} {A:Around} (r:aW k A):A.units + 64 < cLine:=by have:=r.un;omega
def bp:TA:=fun _ H Q=>Q [] H
def cY (ta:TE) (tr:TA):TA:=fun σ H Q=>ta σ H fun x H1=>tr σ H1 fun xs H2=>Q (x::xs) H2
section
variable {X:Cx} {e:Expr} {es:List Expr} {te:TE} {t:TA} {pos:Pos}
theorem Ze:PA X [] bp:=by
 try unfold PA at *
 exact fun _ _ _ _ H Q I h=>WJ ⟨[],H,I,.nil,h⟩
theorem Za (ha:PE X e te) (hr:PA X es t) (hs:Yx (e::es) X.env=(false,eval e X.env)::Yx es X.env:=by rfl):PA X (e::es) (cY te t):=by
 try unfold PE at *;try unfold PA at *
 intro pos pins s σ H Q I h;rw [hs];show wpAny _ _ (spliced ((false,eval e X.env)::Wi pos (Yx es X.env))) _ _ s;refine XD (aH (ha pins s σ H _ I h) fun u s1 ⟨x,H1,I1,r1,q1⟩=>?_);exact aH (hr pos pins s1 σ H1 _ I1 q1) fun us s2 ⟨xs,H2,I2,r2,q2⟩=>⟨x::xs,H2,I2,.cons r1 r2,q2⟩
def tE (t:TA):TE:=fun σ H Q=>t σ H fun xs H1=>xs.length<=Ym/\∀ p,H1 p=none->Q (.ref p) (upd H1 p (.tup xs))
def JW (t:TA):TE:=fun σ H Q=>t σ H fun xs H1=>xs.length<=Ym/\∀ p,H1 p=none->Q (.ref p) (upd H1 p (.lst xs))
theorem dz {x1} (h:PA X es t):PE X (.Tuple es x1 pos) (tE t):=by
 try unfold PE at *;try unfold PA at *
 intro pins s σ H Q I hq;refine wpAny_Tuple_spliced (aH (h pos pins s σ H _ I hq) fun us s1 ⟨xs,H1,I1,r,z,q⟩=>⟨by rw [<- r.length];exact z,?_⟩);have hf:H1 s1.heap.objs.size=none:=I1.aj.fresh (Ye _);refine ⟨.ref s1.heap.objs.size,upd H1 s1.heap.objs.size (.tup xs),I1.laid (t':=s1.toks) (fun b u e=>Yc _ e) (Ye _) ?_,rfl,q _ hf⟩;exact ⟨z,us,r,⟨_,Yi _ rfl,rfl,_,rfl⟩⟩
theorem fq (h:PA X es t):PE X (.List es pos) (JW t):=by
 try unfold PE at *;try unfold PA at *
 intro pins s σ H Q I hq;refine wpAny_List_spliced (aH (h pos pins s σ H _ I hq) fun us s1 ⟨xs,H1,I1,r,z,q⟩=>⟨by rw [<- r.length];exact z,?_⟩);have hf:H1 s1.heap.objs.size=none:=I1.aj.fresh (Ye _);refine ⟨.ref s1.heap.objs.size,upd H1 s1.heap.objs.size (.lst xs),I1.laid (t':=s1.toks) (fun b u e=>Yc _ e) (Ye _) ?_,rfl,q _ hf⟩;exact ⟨z,us,0,r,Yi _ rfl⟩
end
abbrev Sp:=List V->Hp->VK->XK->Prop
abbrev iS:=List Env->Hp->Shared->XK->Value->Shared->Prop
structure ik (P:Program) (w:World) (K:Yg) (mg:Str->Option Value) (base:Heap) (A:Around) (outer:List Env) (s:Shared) (H:Hp):Prop where
 frames:A.frames=some outer
 mod:Mod K mg base
 bs:∀ b o,base.get? b=some o->s.heap.get? b=some o/\H b=none
 jB:base.objs.size<=s.heap.objs.size
 bI:s.heap.FunFrames base outer
 kJ:∀ b∈bL outer,H b=none
 aj:cC P w H s.heap
 bare:AllBare s.gens
def CE (outer:List Env) (P:Program) (w:World) (H:Hp) (s:Shared) (Q:VK) (u:Value) (s':Shared):Prop:=
 ∃ v H',s'.os=s.os/\AllBare s'.gens/\Un (bL outer) [] H H' s.heap s'.heap/\cC P w H' s'.heap/\RelV v u/\Q v H'
def CR (CX:iS) (outer:List Env) (P:Program) (w:World) (H:Hp) (s:Shared) (Q:VK) (E:XK) (r:Result) (s':Shared):Prop:=
 match r with
 | .ok (.ret u)=>CE outer P w H s Q u s'
 | .ok _=>False
 | .error e=>CX outer H s E e s'
structure ah (P:Program) (w:World) (K:Yg) (mg:Str->Option Value) (base:Heap) (CX:iS) (k:Nat) (f:Addr) (fd:Yl) (ps:List Str) (sp:Sp):Prop where
 len:∀ vs H Q E,sp vs H Q E->vs.length=ps.length
 run:∀ (A:Around) (outer:List Env) (s:Shared) (H:Hp) (args:Args) (us:List Value) (vs:List V) (Q:VK) (E:XK),aW k A->ik P w K mg base A outer s H->BindsTo s fd args (ps.zip us)->Vals vs us->sp vs H Q E->
  Yas (model P w) A (.call (.ref f) args) (CR CX outer P w H s Q E) s
theorem ik.make {P:Program} {w:World} {K:Yg} {mg:Str->Option Value} {base:Heap} {A:Around} {outer:List Env} {s:Shared} {H:Hp} (e:ik P w K mg base A outer s H) (C:Addr) (us:List Value) (kw:List (Str×Value)) :
  ik P w K mg base (A.under (.builtin "type.__call__" ⟨.ref C::us,kw⟩)) outer s H:=⟨by first | exact e.frames | (simpa [Around.under,Code.envs,Code.isFrame,pushEnvs] using e.frames),e.mod,e.bs,e.jB,e.bI,e.kJ,e.aj,e.bare⟩
section
variable {X:Cx} {pins:List (Addr×Obj)} {σ:St} {H:Hp} {s s':Shared}
theorem Inv.uc (I:Inv X pins σ H s):ik X.prog X.w X.K X.mg X.base X.A X.stack s H:=
 ⟨I.ok.frames,I.ok.mod,I.bs,Yk I.ok.jB I.sz,I.stack,I.cq,I.aj,I.bare⟩
theorem Inv.after {Q:VK} {u:Value} (I:Inv X pins σ H s) (h:CE X.stack X.prog X.w H s Q u s'):EP X pins σ Q u s':=by
 obtain ⟨v,H',os,bare,un,aj,r,q⟩:=h;obtain ⟨hh,g,d,t,os'⟩:=s';obtain rfl:os'=s.os:=os;exact ⟨v,H',I.call (h':=hh) (g':=g) (d':=d) (t':=t) (ch:=[]) un aj bare (fun b z=>absurd z (by simp)),r,q⟩
end
def Eb (sp:Sp) (fG:List V) (E:St->XK) (t:TA):TE:=fun σ H Q=>t σ H fun vs H1=>sp (vs++fG) H1 Q (E σ)
def kK (C:Addr) (m:Str) (sp:Sp) (fG:List V) (E:St->XK) (ta:TE) (t:TA):TE:=fun σ H Q=>ta σ H fun x H1=>∃ a dx fs,x=.ref a/\H1 a=some (.ins C dx fs)/\fs.lookup m=none/\
 t σ H1 fun vs H2=>sp (x::(vs++fG)) H2 Q (E σ)
def Zz3 (C:Addr) (sp:Sp) (fG:List V) (E:St->XK) (t:TA):TE:=fun σ H Q=>t σ H fun vs H1=>∀ x dx,H1 x=none->H1 dx=none->dx≠x->
 sp (.ref x::(vs++fG)) (upd (upd H1 dx (.own x)) x (.ins C dx [])) (fun v H2=>v=.aL/\Q (.ref x) H2) (E σ)
def ZF (K:Yg) (fd:Yl) (ps:List Str) (ds:List Value):Prop:=
 ∀ (s:Shared) (us:List Value),K.In s.heap->(us++ds).length=ps.length->BindsTo s fd ⟨us,[]⟩ (ps.zip (us++ds))
theorem ZF.all {K:Yg} {fd:Yl} {ps:List Str} (h:∀ us:List Value,us.length=ps.length->bindArgs fd ⟨us,[]⟩=pure (ps.zip us)):ZF K fd ps []:=fun s us _ hl=>by
 rw [Xf] at hl ⊢;exact .of_eq (h us hl)
def j_ (CX:iS) (X:Cx) (E:St->XK):Prop:=∀ (pins:List (Addr×Obj)) (σ:St) (H:Hp) (s:Shared) (e:Value) (s':Shared),Inv X pins σ H s->CX X.stack H s (E σ) e s'->X.xe e s'
section
variable {X:Cx} {CX:iS} {k:Nat} {f C:Addr} {fd:Yl} {ps:List Str} {sp:Sp} {fG:List V} {ds:List Value} {E:St->XK} {x m:Str} {p pos apos:Pos} {e o:Expr} {es:List Expr} {ta:TE} {t:TA}
theorem xX {pins:List (Addr×Obj)} {σ:St} {H:Hp} {s:Shared} {Q:VK} {us:List Value} {vs:List V} (F:ah X.prog X.w X.K X.mg X.base CX k f fd ps sp) (hr:aW k X.A) (hb:ZF X.K fd ps ds) (hd:Vals fG ds) (hx:j_ CX X E)
  (I:Inv X pins σ H s) (r:Vals vs us) (h:sp (vs++fG) H Q (E σ)):wpAny (model X.prog X.w) X.A (call (.ref f) us) (EP X pins σ Q) X.xe s:=by
 have r2:Vals (vs++fG) (us++ds):=r.append hd;have hl:(us++ds).length=ps.length:=by rw [<- r2.length];exact F.len _ _ _ _ h
 refine wpAny_call (YaA (F.run X.A X.stack s H ⟨us,[]⟩ (us++ds) (vs++fG) Q (E σ) hr I.uc (hb s us I.cf hl) r2 h) fun r s' hq=>?_)
 cases r with
 | error e=>exact hx pins σ H s e s' I hq
 | ok fl=>
  cases fl with
  | ret u=>exact I.after hq
  | next=>exact Xa hq
  | brk=>exact Xa hq
  | cont=>exact Xa hq
theorem Zn (F:ah X.prog X.w X.K X.mg X.base CX k f fd ps sp) (hr:aW k X.A) (hg:Gl X x) (hm:X.mg x=some (.ref f)) (hk:XM X.K (.ref f)=true) (hb:ZF X.K fd ps ds) (hd:Vals fG ds) (hx:j_ CX X E)
  (ha:PA X (e::es) t) (jA:(x == ("__debug__":Str))=false:=by decide) (he:Yx (e::es) X.env=(false,eval e X.env)::Yx es X.env:=by rfl) (cI:(Wi pos (Yx es X.env)).any (·.1)=false:=by rfl) :
  PE X (.Call (.Name x p) (e::es) [] pos) (Eb sp fG E t):=by
 try unfold PE at *;try unfold PA at *
 intro pins s σ H Q I h;refine XC (qi I hg hm ?_ jA);refine W9 (h₀:=X.base) I.ok.mod.lP hk (aH (ha pos pins s σ H _ I h) fun us s1 ⟨vs,H1,I1,r,q⟩=>⟨I1.cf,?_⟩) he cI;exact xX F hr hb hd hx I1 r q
theorem Zv7 (F:ah X.prog X.w X.K X.mg X.base CX k f fd ps sp) (hr:aW k X.A) (hg:Gl X x) (hm:X.mg x=some (.ref f)) (hk:XM X.K (.ref f)=true) (hb:ZF X.K fd ps ds) (hd:Vals fG ds) (hx:j_ CX X E)
  (jA:(x == ("__debug__":Str))=false:=by decide):PE X (.Call (.Name x p) [] [] pos) (Eb sp fG E bp):=by
 try unfold PE at *
 intro pins s σ H Q I h;refine XC (qi I hg hm ?_ jA);exact YbN I.cf hk (xX (us:=[]) F hr hb hd hx I .nil h)
theorem ZP {pl:Sem Bool} (he:PE X o ta) (c:Cls X.K C) (hm:Meth X.K C m f) (F:ah X.prog X.w X.K X.mg X.base CX k f fd ps sp) (hr:aW k X.A) (hb:ZF X.K fd ps ds) (hd:Vals fG ds) (hx:j_ CX X E) (ha:PA X (e::es) t)
  (cN:Yx (e::es) X.env=(false,eval e X.env)::Yx es X.env:=by rfl) (cI:(Wi pos (Yx es X.env)).any (·.1)=false:=by rfl)
  (ht:eval (.Call (.Attribute o m apos) (e::es) [] pos) X.env=(do
   let ov <- eval o X.env
   standAt apos.atName
   let (f,first) <- holding [ov] (getMethod ov m pl)
   callWith pos f first (Wi pos (Yx (e::es) X.env)) (backToKw pos (YaW [] X.env))):=by rfl) :
  PE X (.Call (.Attribute o m apos) (e::es) [] pos) (kK C m sp fG E ta t):=by
 try unfold PE at *;try unfold PA at *
 intro pins s σ H Q I h;refine PySem.W.methodCall_KW (pl:=pl) (aH (he pins s σ H _ I h) fun u s1 ⟨x,H1,I1,rx,a,dx,fs,ex,ea,l,q⟩=>?_) ht;subst ex;obtain rfl:u=Value.ref a:=rx;refine Znk I1 ea c hm l ?_;refine W9 (first:=[.ref a]) (h₀:=X.base) I.ok.mod.lP hm.kp (aH (ha pos pins s1 σ H1 _ I1 q) fun us s2 ⟨vs,H2,I2,r,q2⟩=>⟨I2.cf,?_⟩) cN cI;exact xX (us:=.ref a::us) (vs:=.ref a::vs) F hr hb hd hx I2 (.cons rfl r) q2
theorem lJ {pl:Sem Bool} (he:PE X o ta) (c:Cls X.K C) (hm:Meth X.K C m f) (F:ah X.prog X.w X.K X.mg X.base CX k f fd ps sp) (hr:aW k X.A) (hb:ZF X.K fd ps ds) (hd:Vals fG ds) (hx:j_ CX X E)
  (ht:eval (.Call (.Attribute o m apos) [] [] pos) X.env=(do
   let ov <- eval o X.env
   standAt apos.atName
   let (f,first) <- holding [ov] (getMethod ov m pl)
   callWith pos f first (Wi pos (Yx [] X.env)) (backToKw pos (YaW [] X.env))):=by rfl) :
  PE X (.Call (.Attribute o m apos) [] [] pos) (kK C m sp fG E ta bp):=by
 try unfold PE at *
 intro pins s σ H Q I h;refine PySem.W.methodCall_KW (pl:=pl) (aH (he pins s σ H _ I h) fun u s1 ⟨x,H1,I1,rx,a,dx,fs,ex,ea,l,q⟩=>?_) ht;subst ex;obtain rfl:u=Value.ref a:=rx;refine Znk I1 ea c hm l ?_;exact YbN (first:=[.ref a]) I1.cf hm.kp (xX (us:=[.ref a]) (vs:=[.ref a]) F hr hb hd hx I1 (.cons rfl .nil) q)
structure Mk (K:Yg) (C f:Addr):Prop where
 makes:PySem.W.makesIn K C=true
 init:Xm K (.ref C) "__init__"=some (some (.ref f))
 fn:PySem.W.isFn K (.ref f)=true
 kp:XM K (.ref C)=true
theorem ZvY {pins:List (Addr×Obj)} {σ:St} {H:Hp} {s:Shared} {Q:VK} {us:List Value} {vs:List V} (M:Mk X.K C f) (F:ah X.prog X.w X.K X.mg X.base CX k f fd ps sp) (hr:aW (k + 1) X.A) (hb:ZF X.K fd ps ds) (hd:Vals fG ds)
  (hx:j_ CX X E) (I:Inv X pins σ H s) (r:Vals vs us)
  (h:∀ x dx,H x=none->H dx=none->dx≠x->sp (.ref x::(vs++fG)) (upd (upd H dx (.own x)) x (.ins C dx [])) (fun v H2=>v=.aL/\Q (.ref x) H2) (E σ)) :
  wpAny (model X.prog X.w) X.A (call (.ref C) us) (EP X pins σ Q) X.xe s:=by
 have hq:=h (s.heap.objs.size + 1) s.heap.objs.size (I.aj.fresh (Wz _)) (I.aj.fresh (Ye _)) (Yu (Nat.lt_succ_self _));have I2:=Inv.made (C:=C) I;have r2:Vals (V.ref (s.heap.objs.size + 1)::(vs++fG)) (Value.ref (s.heap.objs.size + 1)::(us++ds)):=.cons rfl (r.append hd)
 have hl:(Value.ref (s.heap.objs.size + 1)::us++ds).length=ps.length:=by
  have e:=r2.length;rw [F.len _ _ _ _ hq] at e;exact e.symm
 refine wpAny_call (Zwi (f:=f) I.cf M.makes M.init (beq_iff_eq.mp M.fn) (YaA (F.run _ X.stack _ _ ⟨Value.ref (s.heap.objs.size + 1)::us,[]⟩ (Value.ref (s.heap.objs.size + 1)::(us++ds)) _ _ (E σ) (hr.make C us [])
  (I2.uc.make C us []) (hb _ (Value.ref (s.heap.objs.size + 1)::us) I2.cf hl) r2 hq) fun r s' xg=>?_))
 cases r with
 | error e=>exact hx pins σ _ _ e s' I2 xg
 | ok fl=>
  cases fl with
  | ret u=>
   obtain ⟨v,H',I3,rv,ev,q3⟩:=I2.after xg;subst ev;exact ⟨rv,⟨V.ref (s.heap.objs.size + 1),H',I3,rfl,q3⟩⟩
  | next=>exact Xa xg
  | brk=>exact Xa xg
  | cont=>exact Xa xg
theorem oB (M:Mk X.K C f) (F:ah X.prog X.w X.K X.mg X.base CX k f fd ps sp) (hr:aW (k + 1) X.A) (hg:Gl X x) (hm:X.mg x=some (.ref C)) (hb:ZF X.K fd ps ds) (hd:Vals fG ds) (hx:j_ CX X E)
  (ha:PA X (e::es) t) (jA:(x == ("__debug__":Str))=false:=by decide) (he:Yx (e::es) X.env=(false,eval e X.env)::Yx es X.env:=by rfl) (cI:(Wi pos (Yx es X.env)).any (·.1)=false:=by rfl) :
  PE X (.Call (.Name x p) (e::es) [] pos) (Zz3 C sp fG E t):=by
 try unfold PE at *;try unfold PA at *
 intro pins s σ H Q I h;refine XC (qi I hg hm ?_ jA);refine W9 (h₀:=X.base) I.ok.mod.lP M.kp (aH (ha pos pins s σ H _ I h) fun us s1 ⟨vs,H1,I1,r,q⟩=>⟨I1.cf,?_⟩) he cI;exact ZvY M F hr hb hd hx I1 r q
end
section
variable {X:Cx} {CX:iS} {k:Nat} {f C:Addr} {fd:Yl} {ps ks:List Str} {sp:Sp} {E:St->XK} {x m:Str} {p pos apos kpos:Pos} {e o:Expr} {es:List Expr} {kws:List Keyword} {te ta:TE} {t tk:TA} {nm:Option Str}
variable {g:List Value->List Value->List Value} {gV:List V->List V->List V}
end
structure Zp (N P:List Str) (sc:Scope):Prop where
 kind:sc.kind=.function
 co:sc.isCoroutine=false
 gen:sc.isGenerator=false
 nd:N.Nodup
 pre:N.take P.length=P
 par:∀ x∈P,sc.names.lookup x=some .local∨sc.names.lookup x=some .cell
 ui:∀ y∈sc.names,y.2≠.free
theorem Zqz {kindOf:Str->Option Yau} {x:Str}:∀ {binds:List (Str×Value)} {m:Str->Option Value},(∀ v,(x,v) ∉ binds)->bindL kindOf binds m x=m x
  | [],_,_=>rfl
  | (n,v)::r,m,h=>by
    unfold bindL;rw [Zqz fun w hw=>h w (Yr _ hw)]
    split
    · have:x≠n:=by rintro rfl;exact h v YA
      simp [this]
    · rfl
theorem ZqB {kindOf:Str->Option Yau} {x:Str}:∀ {binds:List (Str×Value)} {m:Str->Option Value},(∀ v,(x,v) ∉ binds)->bindC kindOf binds m x=m x
  | [],_,_=>rfl
  | (n,v)::r,m,h=>by
    unfold bindC;rw [ZqB fun w hw=>h w (Yr _ hw)]
    split
    · rfl
    · have:x≠n:=by rintro rfl;exact h v YA
      simp [this]
theorem ZqA {kindOf:Str->Option Yau} {x:Str} {v:Value}:∀ {P:List Str} {vs:List Value} {i:Nat} {m:Str->Option Value},P.Nodup->P[i]?=some x->vs[i]?=some v->kindOf x=some .local->
  bindL kindOf (P.zip vs) m x=some v
 | [],_,_,_,_,h,_,_=>by simp at h
 | _::_,[],_,_,_,_,h,_=>by simp at h
 | p::P,w::vs,0,m,nd,h1,h2,hk=>by
  simp at h1 h2;subst h1;subst h2
  show bindL kindOf ((p,w)::P.zip vs) m p=_;unfold bindL;rw [Zqz fun v hv=>(List.nodup_cons.mp nd).1 (Ybt hv).1,if_pos hk]
  simp
 | p::P,w::vs,i + 1,m,nd,h1,h2,hk=>by
  show bindL kindOf ((p,w)::P.zip vs) m x=_;unfold bindL;exact ZqA (i:=i) (List.nodup_cons.mp nd).2 (by simpa using h1) (by simpa using h2) hk
theorem ZqC {kindOf:Str->Option Yau} {x:Str} {v:Value}:∀ {P:List Str} {vs:List Value} {i:Nat} {m:Str->Option Value},P.Nodup->P[i]?=some x->vs[i]?=some v->kindOf x≠some .local->
  bindC kindOf (P.zip vs) m x=some v
 | [],_,_,_,_,h,_,_=>by simp at h
 | _::_,[],_,_,_,_,h,_=>by simp at h
 | p::P,w::vs,0,m,nd,h1,h2,hk=>by
  simp at h1 h2;subst h1;subst h2
  show bindC kindOf ((p,w)::P.zip vs) m p=_;unfold bindC;rw [ZqB fun v hv=>(List.nodup_cons.mp nd).1 (Ybt hv).1,if_neg hk]
  simp
 | p::P,w::vs,i + 1,m,nd,h1,h2,hk=>by
  show bindC kindOf ((p,w)::P.zip vs) m x=_;unfold bindC;exact ZqC (i:=i) (List.nodup_cons.mp nd).2 (by simpa using h1) (by simpa using h2) hk
def bx (N:List Str) (vs:List V):St:=vs.map some++List.replicate (N.length - vs.length) none
def aZ (CX:iS) (P:Program) (w:World) (K:Yg) (mg:Str->Option Value) (base:Heap) (N:List Str) (qual:Str) (scope:Scope) (f:Addr) (cd:Value) (A:Around) (outer:List Env) (s:Shared) (H:Hp) (E:XK):Cx where
 prog:=P
 w:=w
 K:=K
 mg:=mg
 base:=base
 A:=A.deeper (WO qual scope s.heap.objs.size f cd)
 N:=N
 au:=s
 aN:=H
 env:=WO qual scope s.heap.objs.size f cd
 outer:=outer
 stack:=WO qual scope s.heap.objs.size f cd::outer
 ex:=[]
 calm:=true
 fn:=fun _=>true
 pn:=[]
 xe:=fun e s'=>wpAny (model P w) (A.deeper (WO qual scope s.heap.objs.size f cd)) (leaving (WO qual scope s.heap.objs.size f cd) e) (fun _ g5=>CX outer H s E e g5) (fun e' g5=>CX outer H s E e' g5) s'
theorem Zsq {sc:Scope} {n:Nat} {x:Str} (h:sc.names.lookup x=some .cell):∃ c,(cellsFrom n sc.names []).lookup x=some c:=by
 have q:=Ybi sc.names n [] (.inl h);exact Option.isSome_iff_exists.mp q
theorem Zp5 {CX:iS} {P:Program} {w:World} {K:Yg} {mg:Str->Option Value} {base:Heap} {N ps:List Str} {qual:Str} {scope:Scope} {f:Addr} {cd:Value} {A:Around} {outer:List Env} {s s1:Shared} {H:Hp} {E:XK} {us:List Value} {vs:List V}
  (S:Zp N ps scope) (hd:A.handled=none) (e0:ik P w K mg base A outer s H) (hl:vs.length=ps.length) (r:Vals vs us)
  (x:InCallC s s.heap.objs.size (bindL (WO qual scope s.heap.objs.size f cd).kindOf (ps.zip us) fun _=>none) (cellsFrom (s.heap.objs.size + 1) scope.names []) (bindC (WO qual scope s.heap.objs.size f cd).kindOf (ps.zip us) fun _=>none) s1) :
  Inv (aZ CX P w K mg base N qual scope f cd A outer s H E) [] (bx N vs) H s1:=by
 have cI:ps.length<=N.length:=by have:=congrArg List.length S.pre;rw [Y0] at this;omega
 obtain ⟨h1,tk,rfl,hk⟩:=x.done;have rj:∀ b:Addr,b ∉ (aZ CX P w K mg base N qual scope f cd A outer s H E).ex:=fun b z=>absurd (show b∈([]:List Addr) from z) (by simp)
 refine ⟨⟨e0.mod,S.kind,rfl,rfl,Ye _,fun y z c h1 h2=>?_,fun y hy=>?_,fun y c _ h=>?_,fun _=>hd,Around.frames_deeper e0.frames,.inr ⟨rfl,rfl⟩,fun b z=>absurd z (rj b),e0.bs,e0.jB,fun b _ _=>rj b,fun b z=>absurd z (rj b),e0.bI,e0.kJ⟩,
  rfl,e0.bare,Un.kept hk,⟨_,x.toInCall.ns,fun i y v h1 h2 h3=>?_⟩,fun y c h=>⟨_,x.cell y c h⟩,e0.aj.fresh (Ye _),fun y c h=>?_,fun p hp=>absurd (show p∈([]:List (Addr×Obj)) from hp) (by simp),e0.aj.kept hk,?_⟩
 ·exact name_of_addr x.apart (XT h1) (XT h2)
 ·have hy:scope.names.lookup y=some .cell∨scope.names.lookup y=some .free:=hy;rcases hy with hy | hy
  ·exact Zsq hy
  ·exact absurd rfl (S.ui _ (XT hy))
 ·exact WV (x.above y c (XT h))
 ·have hi:i < vs.length:=by
   unfold bx at h2
   by_cases hi:i < vs.length
   ·exact hi
   ·rw [WL (by simpa using hi)] at h2;rw [List.getElem?_replicate] at h2
    split at h2 <;> cases h2
  have ha:vs[i]?=some v:=by
   unfold bx at h2;rw [YaO (by simpa using hi),Yo] at h2
   cases e:vs[i]? with
   | none=>rw [e] at h2;cases h2
   | some a=>rw [e] at h2;cases h2;rfl
  obtain ⟨u,hu,rv⟩:=r.get ha
  have hp:ps[i]?=some y:=by
   rw [<- S.pre,List.getElem?_take_of_lt (by omega)];exact h1
  have ndP:ps.Nodup:=by rw [<- S.pre];exact S.nd.sublist (List.take_sublist _ _)
  refine ⟨u,rv,?_⟩;rcases S.par y (Yy hp) with k | k
  ·exact .inl ⟨k,ZqA ndP hp hu k⟩
  ·obtain ⟨c,e⟩:=Zsq (n:=s.heap.objs.size + 1) k;refine .inr ⟨.inl k,c,e,?_⟩;have q:=x.cell y c e;rw [ZqC ndP hp hu (by show scope.names.lookup y≠_;rw [k];decide)] at q;exact q
 ·exact e0.aj.fresh (WV (x.above y c (XT h)))
 ·unfold bx;show _=N.length;rw [Yf,Yb,YM];omega
theorem D_ {CX:iS} {P:Program} {w:World} {K:Yg} {mg:Str->Option Value} {base:Heap} {k:Nat} {f:Addr} {name qual:Str} {params:Arguments} {body:List Stmt} {scope:Scope} {dV kV doc pm aq ct oc:Value} {an od:Option Addr}
  {kA:Array (Option Value)} {N ps:List Str} {sp:Sp} (lk:K.lookup f=some ⟨oc,od,.func (XI name qual params body scope dV kV doc pm an aq ct),kA⟩) (gx:PySem.W.codeIn K aq qual=true) (S:Zp N ps scope)
  (len:∀ vs H Q E,sp vs H Q E->vs.length=ps.length)
  (b9:∀ (A:Around) (outer:List Env) (s:Shared) (H:Hp) (vs:List V) (Q:VK) (E:XK),aW k (A.deeper (WO qual scope s.heap.objs.size f aq))->sp vs H Q E->
   ∃ t,eR (aZ CX P w K mg base N qual scope f aq A outer s H E) body t/\t {nx:=fun _ H'=>Q .aL H',rt:=Q} (bx N vs) H) :
  ah P w K mg base CX (k + 1) f (XI name qual params body scope dV kV doc pm an aq ct) ps sp:=by
 refine ⟨len,fun A outer s H args us vs Q E hr e0 hb r eM=>?_⟩;have hl:=len _ _ _ _ eM;have KX:K.In s.heap:=e0.mod.lP.keeps fun b o e=>(e0.bs b o e).1;have lim:s.heap.NoLimit:=e0.mod.nolimit.keeps fun b o e=>(e0.bs b o e).1
 have mQ:∀ y∈ps.zip us,scope.names.lookup y.1=some .local∨(scope.names.lookup y.1=some .cell/\((cellsFrom (s.heap.objs.size + 1) scope.names []).lookup y.1).isSome=true):=fun ⟨n,v⟩ hy=>by
  rcases S.par n (Ybt hy).1 with q | q
  ·exact .inl q
  ·exact .inr ⟨q,Ybi _ _ _ (.inl q)⟩
 refine codeAny_call_function hr.depth (KX _ _ lk) rfl S.co S.gen rfl (PySem.W.codeRec_of KX gx) (hb _ _ _ _ ?_);refine wpAny_newFunctionEnv_cells S.kind mQ fun env he s1 x=>?_;subst he;refine ⟨lim.keeps x.toInCall.keep,codeAny_func ?_⟩;obtain ⟨t,ht,hq⟩:=b9 A outer s H vs Q E (hr.deeper _) eM;unfold eR at ht;have I:Inv (aZ CX P w K mg base N qual scope f aq A outer s H E) [] (bx N vs) H s1:=Zp5 S hr.hd e0 hl r x;refine Xd (ht [] s1 (bx N vs) H _ I hq) (fun fl s' hs=>?_) fun e s' hs=>hs
 have fin:∀ {aC:St} {H':Hp} {v:V} {u:Value},Inv (aZ CX P w K mg base N qual scope f aq A outer s H E) [] aC H' s'->RelV v u->Q v H'->CE outer P w H s Q u s':=
  fun {aC H' v u} J rv q=>⟨v,H',J.os,J.bare,J.base,J.aj,rv,q⟩
 cases fl with
 | ret u=>
  obtain ⟨v,aC,H',J,rv,q⟩:=hs;exact fin J rv q
 | next=>
  obtain ⟨aC,H',J,q⟩:=hs;exact fin (v:=V.aL) (u:=Value.none) J rfl q
 | brk=>
  obtain ⟨_,_,_,q⟩:=hs;exact Xa q
 | cont=>
  obtain ⟨_,_,_,q⟩:=hs;exact Xa q
end L2
namespace L2
open PySem PySem.Spec PyProof.Rows
section
variable {X:Cx} {x:Str} {p pos:Pos} {e:Expr} {es:List Expr} {t:TA} {id T:String} {r:List V->Hp->VK->Prop}
def qU (r:List V->Hp->VK->Prop) (t:TA):TE:=fun σ H Q=>t σ H fun vs H1=>r vs H1 Q
theorem ZD (hc:eN X (.builtin id) r) (hg:Gl X x) (hm:X.mg x=none) (hv:YaC x=some (.builtin id)) (ha:PA X (e::es) t) (hn:x≠"__name__":=by decide) (jA:(x == ("__debug__":Str))=false:=by decide)
  (he:Yx (e::es) X.env=(false,eval e X.env)::Yx es X.env:=by rfl) (cI:(Wi pos (Yx es X.env)).any (·.1)=false:=by rfl):PE X (.Call (.Name x p) (e::es) [] pos) (qU r t):=by
 try unfold PE at *;try unfold PA at *
 intro pins s σ H Q I h;refine XC (sG I hg hm hv ?_ hn jA);exact PyProof.Rows.callWith_builtin1 (aH (ha pos pins s σ H _ I h) fun us s1 ⟨vs,H1,I1,r1,q1⟩=>hc pins s1 σ H1 vs us Q I1 r1 q1) he cI
theorem ZT (hc:eN X (.type T) r) (hg:Gl X x) (hm:X.mg x=none) (hv:YaC x=some (.type T)) (ha:PA X (e::es) t) (hn:x≠"__name__":=by decide) (jA:(x == ("__debug__":Str))=false:=by decide)
  (he:Yx (e::es) X.env=(false,eval e X.env)::Yx es X.env:=by rfl) (cI:(Wi pos (Yx es X.env)).any (·.1)=false:=by rfl):PE X (.Call (.Name x p) (e::es) [] pos) (qU r t):=by
 try unfold PE at *;try unfold PA at *
 intro pins s σ H Q I h;refine XC (sG I hg hm hv ?_ hn jA);exact XY (aH (ha pos pins s σ H _ I h) fun us s1 ⟨vs,H1,I1,r1,q1⟩=>hc pins s1 σ H1 vs us Q I1 r1 q1) he cI
end
end L2
namespace HT
open PySem PyProof.Rows
section
open PySem.SeqAt
open PySem.AutoSeq1 (wpAny_loadPart')
open PySem.MeetsSeq PySem.MeetsSeq2 PySem.MeetsSeq3
end
section
variable {prog:Program} {w:World} {A:Around} {E:Value->Shared->Prop} {s:Shared}
theorem pB {t b:Addr} {vs ws:List Value} {Q:Value->Shared->Prop} (ht:IsTup s.heap t vs.toArray) (hb:IsTup s.heap b ws.toArray) (hv:vs≠[])
  (h1:ws=[]->Q (.ref t) s) (h2:ws≠[]->Q (.ref s.heap.objs.size) {s with heap:=s.heap.push {cls:=.type "tuple",data:=.seq (vs++ws).toArray}})
  (hsz:vs.length + ws.length<=Ym):wpAny (model prog w) A (Wv .Add (.ref t) (.ref b)) Q E s:=by
 obtain ⟨⟨cls,dd,data,sl⟩,ho,hc,n,hd⟩:=id ht;obtain ⟨⟨La,u4,data2,jz⟩,nY,iW,n2,hd2⟩:=id hb
 simp only at hc hd iW hd2
 subst hc hd iW hd2;have e:vs.toArray++ws.toArray=(vs++ws).toArray:=by simp
 by_cases hw:ws=[]
 ·exact concat_meets ⟨_,ho,rfl⟩ ⟨_,nY,rfl⟩ noFill_tuple_add seq_tuple_add Ybj Ybb (Ya0 _ _)
   (tuple_addW1 t b vs.toArray ws.toArray n n2 dd u4 sl jz (by simpa using hv) (by simp [hw])) ⟨ho,nY,h1 hw⟩
 ·refine concat_meets ⟨_,ho,rfl⟩ ⟨_,nY,rfl⟩ noFill_tuple_add seq_tuple_add Ybj Ybb (Ya0 _ _)
   (tuple_addW2 t b vs.toArray ws.toArray n n2 dd u4 sl jz (by simpa using hv) (by simpa using hw) (by rw [Yn,Yn];exact hsz)) ⟨ho,nY,?_⟩
  rw [e];exact h2 hw
def a9 (n d:Nat):Option Int->Nat
 | none=>d
 | some v=>if v < 0 then (v + (n:Int)).toNat else min v.toNat n
theorem fY (n d:Nat):a9 n d none=d:=rfl
theorem cu (n d k:Nat):a9 n d (some (k:Int))=min k n:=by
 show (if (k:Int) < 0 then ((k:Int) + (n:Int)).toNat else min (k:Int).toNat n)=min k n;rw [if_neg (by omega),Xc]
theorem Zy0 (n d:Nat) (hd:d<=n) (o:Option Int):a9 n d o<=n:=by
 cases o with
 | none=>exact hd
 | some v=>
  show (if v < 0 then (v + (n:Int)).toNat else min v.toNat n)<=n
  by_cases hv:v < 0
  ·rw [if_pos hv];omega
  ·rw [if_neg hv];exact Nat.min_le_right _ _
theorem Zvq (v:Int) (n d:Nat):(if v < 0 then max (v + (n:Int)) 0 else min v (n:Int))=((a9 n d (some v):Nat):Int):=by
 show (if v < 0 then max (v + (n:Int)) 0 else min v (n:Int))=(((if v < 0 then (v + (n:Int)).toNat else min v.toNat n):Nat):Int)
 by_cases hv:v < 0
 ·simp only [if_pos hv];omega
 ·simp only [if_neg hv];omega
theorem Ztx (lo hi:Option Int) (n:Nat):YaR lo hi 1 (n:Int)=(((a9 n 0 lo:Nat):Int),((a9 n n hi:Nat):Int)):=by
 have h1:¬ ((1:Int) < 0):=by omega
 unfold YaR
 simp only [h1,if_false]
 refine Prod.ext ?_ ?_
 ·cases lo with
  | none=>rfl
  | some v=>exact Zvq v n 0
 ·cases hi with
  | none=>rfl
  | some v=>exact Zvq v n n
theorem Zs4 (i j:Nat):WU (i:Int) (j:Int) 1=j - i:=by
 unfold WU;have h1:(1:Int) > 0:=by omega
 simp only [h1,if_true,Int.ediv_one]
 split <;> omega
theorem ZmT {v:Value} {o:Option Int} {Q:Option Int->Shared->Prop} (p:IsPart v o) (h:Q o s):wpAny (model prog w) A (Builtin.Slice.slicePartIndex v) Q E s:=by
 cases p with
 | none=>exact slicePart_none h
 | int i t=>exact slicePart_int h
theorem cb {sl:Addr} {vl vu:Value} {lo hi:Option Int} {n:Nat} {Q:Int×Int×Nat->Shared->Prop} (hs:s.heap.IsSliceOf sl vl vu .none) (pl:IsPart vl lo) (pu:IsPart vu hi)
  (h:Q (((a9 n 0 lo:Nat):Int),1,a9 n n hi - a9 n 0 lo) s):wpAny (model prog w) A (Builtin.Slice.sliceApplied (.ref sl) (pure (n:Int))) Q E s:=by
 obtain ⟨os,xh,xy,Az⟩:=id hs;unfold Builtin.Slice.sliceApplied Builtin.Slice.sliceFields;refine Ya (Ya (Y3 xh Az (x:=vl) rfl (Ya (Y3 xh Az (x:=vu) rfl (Ya (Y3 xh Az (x:=.none) rfl (Yd ?_)))))));refine Ya (slicePart_none ?_);show wpAny _ _ (if ((1:Int) == 0)=true then _ else _) _ _ s;rw [if_neg (by decide)];refine Ya (ZmT pl (Ya (ZmT pu (Ya (Yd ?_)))));show wpAny _ _ (match YaR lo hi 1 (n:Int) with | (lo,hi)=>pure (lo,(1:Int),WU lo hi 1)) _ _ s;rw [Ztx lo hi n];show wpAny _ _ (pure (((a9 n 0 lo:Nat):Int),(1:Int),WU ((a9 n 0 lo:Nat):Int) ((a9 n n hi:Nat):Int) 1)) _ _ s;rw [Zs4];exact Yd h
theorem Zv3 (xs:Array Value) (i k:Nat):((List.range k).filterMap fun (m:Nat)=>xs[((i:Int) + (m:Int) * 1).toNat]?).toArray=((xs.toList.drop i).take k).toArray:=by
 have e:(fun (m:Nat)=>xs[((i:Int) + (m:Int) * 1).toNat]?)=fun m=>xs[i + m]?:=by
  funext m
  have:((i:Int) + (m:Int) * 1).toNat=i + m:=by omega
  rw [this]
 rw [e]
 have:=pick_run xs i k
 rw [List.filterMap_map] at this;have e2:((fun x=>xs[x]?) ∘ fun x=>i + x)=fun m=>xs[i + m]?:=rfl;rw [e2] at this;rw [this]
theorem d9 {t sl:Addr} {items:Array Value} {vl vu:Value} {lo hi:Option Int} {Q:Value->Shared->Prop} (ht:IsTup s.heap t items) (hs:s.heap.IsSliceOf sl vl vu .none) (pl:IsPart vl lo) (pu:IsPart vu hi)
  (hw:¬ (a9 items.size 0 lo=0/\a9 items.size items.size hi=items.size))
  (h:Q (.ref s.heap.objs.size) {s with heap:=s.heap.push {cls:=.type "tuple",data:=.seq ((items.toList.drop (a9 items.size 0 lo)).take (a9 items.size items.size hi - a9 items.size 0 lo)).toArray}})
  (hsz:items.size<=Ym):wpAny (model prog w) A (getItem (.ref t) (.ref sl)) Q E s:=by
 have ku:sizeOk (.seq ((items.toList.drop (a9 items.size 0 lo)).take (a9 items.size items.size hi - a9 items.size 0 lo)).toArray):=by
  show ((items.toList.drop (a9 items.size 0 lo)).take (a9 items.size items.size hi - a9 items.size 0 lo)).toArray.size<=Ym;rw [Yn,Y0,YU,YH];omega
 have hj:a9 items.size items.size hi<=items.size:=Zy0 _ _ (Ye _) hi;obtain ⟨os,xh,xy,Az⟩:=id hs;have hTs:s.TypeIs (.ref sl) "slice":=⟨os,xh,xy⟩
 unfold getItem
 try with_reducible refine Y6 ?_
 first | refine Ya (Yd ?_) | skip
 refine Ya (wpAny_sequenceKey ht.typeIs (by decide) ?_)
 refine Ya (YJ (name:=Y9 "__getitem__") ht.typeIs Wh
  (YK Wh ht.typeIs entry_tuple_getitem ?_ (args_tuple_getitem _ _)))
 show wpAny _ _ (Builtin.Tuple.tupleItemsOf (.ref t) >>= _) _ _ s;refine Ya (tupleItemsOf_ ht ?_);refine Ya (wpAny_typeOf hTs ?_);rw [if_pos (by decide)];refine Ya (cb hs pl pu ?_)
 have uK:¬ ((((a9 items.size 0 lo:Nat):Int) == 0 && (1:Int) == 1 && (a9 items.size items.size hi - a9 items.size 0 lo) == items.size)=true):=by
  intro q;rw [YV,YV] at q;have q1:((a9 items.size 0 lo:Nat):Int)=0:=eq_of_beq q.1.1;have q2:a9 items.size items.size hi - a9 items.size 0 lo=items.size:=eq_of_beq q.2;exact hw ⟨by omega,by omega⟩
 show wpAny _ _ (if (((a9 items.size 0 lo:Nat):Int) == 0 && (1:Int) == 1 && (a9 items.size items.size hi - a9 items.size 0 lo) == items.size)=true then _ else _) _ _ s;rw [if_neg uK,Zv3]
 first
  | exact Ya (m:=WZ _) (YF (Yd ⟨_,rfl,Yd h⟩) ku)
  | exact Ya (m:=WZ _) (YF (Ya (Yd (Yd ⟨_,rfl,Yd h⟩))) ku)
  | exact Ya (Ya (m:=WZ _) (YF (Yd (Yd ⟨_,rfl,Yd h⟩)) ku))
  | exact Ya (Ya (m:=WZ _) (YF (Yd ⟨_,rfl,Yd h⟩) ku))
end
end HT
namespace L2
open PySem PySem.Spec PyProof.Rows
abbrev TO:=St->Hp->(Option Int->Hp->Prop)->Prop
def PO (X:Cx) (e:Option Expr) (t:TO):Prop:=
 ∀ (pins:List (Addr×Obj)) (s:Shared) (σ:St) (H:Hp) (Q:Option Int->Hp->Prop),Inv X pins σ H s->t σ H Q->
  wpAny (model X.prog X.w) X.A (evalPart e X.env) (fun u s'=>∃ o H',Inv X pins σ H' s'/\IsPart u o/\Q o H') X.xe s
def Zxp:TO:=fun _ H Q=>Q none H
def Zz1 (t:TE):TO:=fun σ H Q=>t σ H fun x H1=>∃ i,x=.int i/\Q (some i) H1
theorem Znj {ns:List Int}:∀ {us:List Value},Vals (ns.map V.int) us->IntsAre us ns:=by
 induction ns with
 | nil=>intro us r;rw [YaD] at r;cases r;exact .nil
 | cons n ns ih=>
  intro us r;rw [Yt] at r
  cases r with
  | cons r1 r2=>
   obtain ⟨t,e⟩:=r1;subst e;exact .cons n t (ih r2)
section
variable {X:Cx} {e:Expr} {te:TE} {lo hi:Option Expr} {tl th:TO} {pos p2:Pos}
theorem ql:PO X none Zxp:=by
 intro pins s σ H Q I h;rw [evalPart_none];exact Yd ⟨none,H,I,.none,h⟩
theorem lI (h:PE X e te):PO X (some e) (Zz1 te):=by
 try unfold PE at *
 intro pins s σ H Q I hw;rw [evalPart_some];refine aH (h pins s σ H _ I hw) fun u s1 ⟨x,H1,I1,r1,q1⟩=>?_;obtain ⟨i,rfl,q⟩:=q1;obtain ⟨t,rfl⟩:=r1;exact ⟨some i,H1,I1,.int i t,q⟩
def yI (X:Cx) (r:V->Option Int->Option Int->Hp->VK->Prop):Prop:=
 ∀ (pins:List (Addr×Obj)) (s:Shared) (σ:St) (H:Hp) (x:V) (v vl vu:Value) (lo hi:Option Int) (sl:Addr) (Q:VK),Inv X pins σ H s->RelV x v->s.heap.IsSliceOf sl vl vu .none->IsPart vl lo->IsPart vu hi->r x lo hi H Q->
  ∃ T id,typeLookup (.type T) "__getitem__"=pure (some (.builtin id))/\s.TypeIs v T/\wpAny (model X.prog X.w) X.A (getItem v (.ref sl)) (EP X pins σ Q) X.xe s
def tSl (r:V->Option Int->Option Int->Hp->VK->Prop) (te:TE) (tl th:TO):TE:=fun σ H Q=>te σ H fun x H1=>tl σ H1 fun l H2=>th σ H2 fun u H3=>r x l u H3 Q
theorem nF {r:V->Option Int->Option Int->Hp->VK->Prop} (hr:yI X r) (he:PE X e te) (hl:PO X lo tl) (hu:PO X hi th):PE X (.Subscript e (.Slice lo hi none p2) pos) (tSl r te tl th):=by
 try unfold PE at *
 intro pins s σ H Q I h;refine Subscript_ (aH (he pins s σ H _ I h) fun v s1 ⟨x,H1,I1,r1,q1⟩=>?_);refine wpAny_Slice (aH (hl pins s1 σ H1 _ I1 q1) fun vl s2 ⟨l,H2,I2,pl,q2⟩=>aH (hu pins s2 σ H2 _ I2 q2) fun vu s3 ⟨u,H3,I3,pu,q3⟩=>?_);rw [evalPart_none];refine Yd ?_;have I4:Inv X pins σ H3 {s3 with heap:=s3.heap.push {cls:=.type "slice",data:=.fields #[vl,vu,.none]}}:=I3.kept (t':=s3.toks) fun b ob q=>Yc _ q;obtain ⟨T,id,hT,ht,hg⟩:=hr pins {s3 with heap:=s3.heap.push {cls:=.type "slice",data:=.fields #[vl,vu,.none]}} σ H3 x v vl vu l u s3.heap.objs.size Q I4 r1 (Heap.IsSliceOf.new ..) pl pu q3;show wpAny (model X.prog X.w) X.A (subscriptTail e (.Slice lo hi none p2) v (.ref s3.heap.objs.size)) (EP X pins σ Q) X.xe {s3 with heap:=s3.heap.push {cls:=.type "slice",data:=.fields #[vl,vu,.none]}};exact tail_any (ops:=[.ref s3.heap.objs.size,v]) ht hT hg (by with_unfolding_all rfl)
def bC (xs:List V) (lo hi:Option Int):List V:=(xs.drop (HT.a9 xs.length 0 lo)).take (HT.a9 xs.length xs.length hi - HT.a9 xs.length 0 lo)
theorem ZlZ (xs:List V) (lo hi:Option Int):(bC xs lo hi).length<=xs.length:=by
 unfold bC;rw [Y0,YU];omega
def J8 (K:Yg):V->Option Int->Option Int->Hp->VK->Prop:=fun x lo hi H Q=>∃ a xs,x=.ref a/\aG K H a xs/\
 ¬ (HT.a9 xs.length 0 lo=0/\HT.a9 xs.length xs.length hi=xs.length)/\∀ p,H p=none->Q (.ref p) (upd H p (.tup (bC xs lo hi)))
theorem ZyY:yI X (J8 X.K):=by
 intro pins s σ H x v vl vu lo hi sl Q I rx hs pl pu h;obtain ⟨a,xs,rfl,hx,hw,q⟩:=h
 cases rx
 obtain ⟨its,r,ht,hz⟩:=I.tuple hx;have hlen:its.toArray.size=xs.length:=by rw [Yn];exact r.length.symm
 refine ⟨"tuple",_,PyProof.Rows.slot_tuple_getitem.lookup,ht.typeIs,?_⟩;refine HT.d9 ht hs pl pu (by rw [hlen];exact hw) ?_ (by rw [hlen];exact hz);rw [hlen];refine ⟨.ref s.heap.objs.size,_,I.laid (t':=s.toks) (o:=.tup (bC xs lo hi)) (fun b ob q=>Yc _ q) (Ye _) ?_,rfl,q _ (I.aj.fresh (Ye _))⟩;exact ⟨Yk (ZlZ xs lo hi) hz,_,(r.drop (HT.a9 xs.length 0 lo)).take (HT.a9 xs.length xs.length hi - HT.a9 xs.length 0 lo),IsTup.new _ _⟩
def ZAd (K:Yg):R2:=fun x y H Q=>∃ a b xs ys,x=.ref a/\y=.ref b/\aG K H a xs/\aG K H b ys/\xs≠[]/\xs.length + ys.length<=Ym/\
 (ys=[]->Q (.ref a) H)/\(ys≠[]->∀ p,H p=none->Q (.ref p) (upd H p (.tup (xs++ys))))
theorem Vals.iy {xs:List V} {us:List Value} (r:Vals xs us):us=[] ↔ xs=[]:=by
 cases r with
 | nil=>simp
 | cons _ _=>simp
theorem ZxS:dJ X (Wv .Add) (ZAd X.K):=by
 intro pins s σ H x y v u Q I rx ry h;obtain ⟨a,b,xs,ys,rfl,rfl,ha,hb,hx,hz,q1,q2⟩:=h
 cases rx
 cases ry
 obtain ⟨its,r1,p1,_⟩:=I.tuple ha;obtain ⟨gD,r2,p2,_⟩:=I.tuple hb;refine HT.pB p1 p2 (fun z=>hx (r1.iy.mp z)) (fun z=>⟨.ref a,H,I,rfl,q1 (r2.iy.mp z)⟩) (fun z=>?_) (by rw [<- r1.length,<- r2.length];exact hz);refine ⟨.ref s.heap.objs.size,_,I.laid (t':=s.toks) (o:=.tup (xs++ys)) (fun b ob q=>Yc _ q) (Ye _) ?_,rfl,q2 (fun w=>z (r2.iy.mpr w)) _ (I.aj.fresh (Ye _))⟩;exact ⟨by rw [Yf];exact hz,_,r1.append r2,IsTup.new _ _⟩
end
end L2
namespace L2
open PySem PySem.Spec PyProof.Rows
def mV (n:Nat) (i:Int):Option Nat:=if 0<=i then (if i < n then some i.toNat else none) else if -(n:Int)<=i then some (i + n).toNat else none
def fj {α:Type} (xs:List α) (i:Int):Option α:=(mV xs.length i).bind fun j=>xs[j]?
theorem ZuT {n:Nat} {i:Int} {j:Nat} (h:mV n i=some j):seqIndex? i n=some j/\j < n/\-(n:Int)<=i/\i < n:=by
 unfold mV at h
 by_cases h0:0<=i
 ·rw [if_pos h0] at h
  by_cases h1:i < n
  ·rw [if_pos h1] at h;have e:i.toNat=j:=YB h;exact ⟨by rw [seqIndex_of h0 h1,e],by omega,by omega,h1⟩
  ·rw [if_neg h1] at h;cases h
 ·rw [if_neg h0] at h
  by_cases h1:-(n:Int)<=i
  ·rw [if_pos h1] at h;have e:(i + n).toNat=j:=YB h;exact ⟨by rw [seqIndex_neg (by omega) h1,e],by omega,h1,by omega⟩
  ·rw [if_neg h1] at h;cases h
theorem Zvv {α:Type} {xs:List α} {i:Int} {v:α} (h:fj xs i=some v):∃ j,seqIndex? i xs.length=some j/\xs[j]?=some v/\j < xs.length/\-(xs.length:Int)<=i/\i < xs.length:=by
 unfold fj at h
 cases e:mV xs.length i with
 | none=>rw [e] at h;cases h
 | some j=>
  rw [e] at h;obtain ⟨h1,h2,h3,h4⟩:=ZuT e;exact ⟨j,h1,h,h2,h3,h4⟩
def Zyn (b:Expr):Prop:=∀ o i,subscripted b false o i=operate [o,i] (getItem o i)
def JL (X:Cx) (r:R2):Prop:=
 ∀ (value slice:Expr) (pins:List (Addr×Obj)) (s:Shared) (σ:St) (H:Hp) (x y:V) (v u:Value) (Q:VK),Inv X pins σ H s->RelV x v->RelV y u->r x y H Q->
  subscripted slice false v u=operate [v,u] (getItem v u)->wpAny (model X.prog X.w) X.A (subscriptTail value slice v u) (EP X pins σ Q) X.xe s
def nK (X:Cx) (id:String) (r:V->List V->Hp->VK->Prop):Prop:=
 ∀ (pins:List (Addr×Obj)) (s:Shared) (σ:St) (H:Hp) (x:V) (xs:List V) (v:Value) (us:List Value) (Q:VK),Inv X pins σ H s->RelV x v->Vals xs us->r x xs H Q->
  wpAny (model X.prog X.w) X.A (call (.builtin id) (v::us)) (EP X pins σ Q) X.xe s
section
variable {X:Cx} {a b:Expr} {ta tb:TE} {pos:Pos}
theorem bw {r:R2} (hr:JL X r) (ha:PE X a ta) (hb:PE X b tb) (hs:Zyn b):PE X (.Subscript a b pos) (dN r ta tb):=by
 try unfold PE
 intro pins s σ H Q I h;exact Subscript_ (ud ha hb I h fun v u s2 x y H2 I2 rx ry q=>hr a b pins s2 σ H2 x y v u Q I2 rx ry q (hs _ _))
def Ka (K:Yg):R2:=fun x y H Q=>∃ p xs i v,x=.ref p/\y=.int i/\ar K H p xs/\fj xs i=some v/\Q v H
def dA (K:Yg):R2:=fun x y H Q=>∃ p xs i v,x=.ref p/\y=.int i/\aG K H p xs/\fj xs i=some v/\Q v H
theorem ZU:JL X (Ka X.K):=by
 intro value slice pins s σ H x y v u Q I rx ry h hs;obtain ⟨p,xs,i,z,rfl,rfl,hq,he,q⟩:=h
 cases rx
 obtain ⟨t,rfl⟩:=ry;obtain ⟨its,r,pl,hz⟩:=I.list hq;obtain ⟨j,h1,h2,h3,h4,h5⟩:=Zvv he;obtain ⟨w,ew,g6⟩:=r.get h2;have hl:=r.length;have hn:=xU;have fin:EP X pins σ Q w s:=⟨z,H,I,g6,q⟩
 by_cases h0:0<=i
 ·have hj:i.toNat=j:=by
   rw [seqIndex_of h0 h5] at h1;exact YB h1
  exact item_listR pl.isList h0 (by omega) (by rw [hj];simpa using ew) fin hs
 ·have hj:(i + (its.toArray.size:Int)).toNat=j:=by
   rw [seqIndex_neg (by omega) h4] at h1;rw [Yn,<- hl];exact YB h1
  exact subscriptTail_builtinR (x:=w) pl.isList.typeIs slot_list_getitem.lookup
   (wpAny_getItem_list_neg (Q:=fun r s'=>r=w/\EP X pins σ Q r s') pl.isList (by omega) (by rw [Yn] <;> omega) (by omega) (by rw [hj];simpa using ew) ⟨rfl,fin⟩) hs
theorem iQ:JL X (dA X.K):=by
 intro value slice pins s σ H x y v u Q I rx ry h hs;obtain ⟨p,xs,i,z,rfl,rfl,hq,he,q⟩:=h
 cases rx
 obtain ⟨t,rfl⟩:=ry;obtain ⟨its,r,pl,hz⟩:=I.tuple hq;obtain ⟨j,h1,h2,h3,h4,h5⟩:=Zvv he;obtain ⟨w,ew,g6⟩:=r.get h2;have hl:=r.length;have hn:=xU;have fin:EP X pins σ Q w s:=⟨z,H,I,g6,q⟩
 exact subscriptTail_builtinR (x:=w) pl.typeIs slot_tuple_getitem.lookup
  (getItem_tuple (j:=j) (Q:=fun r s'=>r=w/\EP X pins σ Q r s') pl (by omega) (by omega) (by rw [Yn,<- hl];exact h1) (by simpa using ew) ⟨rfl,fin⟩) hs
theorem Ztf (its:List Value) (n j:Nat) (u:Value):Y1 (·.setIfInBounds j u) {cls:=.type "list",data:=.seq its.toArray n}={cls:=.type "list",data:=.seq (its.set j u).toArray n}:=by
 simp [Y1]
theorem Inv.lst {pins:List (Addr×Obj)} {σ:St} {H:Hp} {s:Shared} {p:Addr} {xs:List V} (I:Inv X pins σ H s) (h:H p=some (.lst xs)) :
  ∃ (its:List Value) (n:Nat),Vals xs its/\s.heap.get? p=some {cls:=.type "list",data:=.seq its.toArray n}/\xs.length<=Ym:=by
 obtain ⟨z,its,n,r,e⟩:=I.aj p _ h;exact ⟨its,n,r,e,z⟩
theorem Inv.uj {pins:List (Addr×Obj)} {σ:St} {H:Hp} {s:Shared} {p:Addr} {xs ys:List V} {its its':List Value} {n n':Nat} {f:Obj->Obj} (I:Inv X pins σ H s) (h:H p=some (.lst xs))
  (ho:s.heap.get? p=some {cls:=.type "list",data:=.seq its.toArray n}) (hf:f {cls:=.type "list",data:=.seq its.toArray n}={cls:=.type "list",data:=.seq its'.toArray n'}) (r:Vals ys its') (hz:ys.length<=Ym) (t:Nat) :
  Inv X pins σ (upd H p (.lst ys)) {s with heap:=s.heap.update p f,toks:=t}:=by
 have e:(s.heap.update p f).get? p=some {cls:=.type "list",data:=.seq its'.toArray n'}:=by
  rw [Yai f ho (by rw [hf] <;> rfl),hf]
 refine I.write (x:=p) (e:=p) (by rw [h];trivial) (.inl rfl) (fun b u hb q=>(Xq _ _ (WN hb)).trans q) ⟨_,e⟩ ?_;exact ⟨hz,its',n',r,e⟩
def ZAb:V->V->V->Hp->(Hp->Prop)->Prop:=fun o i v H Q=>∃ p xs k j,o=.ref p/\i=.int k/\H p=some (.lst xs)/\mV xs.length k=some j/\Q (upd H p (.lst (xs.set j v)))
theorem ZvX:zE X ZAb:=by
 intro pins s σ H o i v ov iv u Q I ro ri rv h;obtain ⟨p,xs,k,j,rfl,rfl,hp,hj,q⟩:=h
 cases ro
 obtain ⟨t,rfl⟩:=ri;obtain ⟨its,n,r,ho,hz⟩:=I.lst hp;obtain ⟨h1,h2,h3,h4⟩:=ZuT hj;have hl:=r.length;have hn:=xU
 have I':Inv X pins σ (upd H p (.lst (xs.set j v))) {s with heap:=s.heap.update p (Y1 (·.setIfInBounds j u))}:=
  I.uj hp ho (Ztf its n j u) (r.set rv j) (by rw [Ybv];exact hz) s.toks
 by_cases h0:0<=k
 ·have hk:k.toNat=j:=by
   rw [seqIndex_of h0 h4] at h1;exact YB h1
  exact PySem.W.ki_setAt ho h0 (by omega) (by rw [Yn,<- hl];exact h4) (by rw [hk];exact ⟨_,I',q⟩)
 ·have hk:(k + (its.toArray.size:Int)).toNat=j:=by
   rw [seqIndex_neg (by omega) h3] at h1;rw [Yn,<- hl];exact YB h1
  exact PySem.W.ki_setBack ho (by omega) (by rw [Yn,<- hl];exact h3) (by omega) (by rw [hk];exact ⟨_,I',q⟩)
theorem Zpo (lo hi:Option Int) (n:Nat):(Yar lo hi none n).1=((HT.a9 n 0 lo:Nat):Int)/\(Yar lo hi none n).2.1=((HT.a9 n n hi:Nat):Int)/\(Yar lo hi none n).2.2=1:=by
 refine ⟨?_,?_,rfl⟩
 ·cases lo with
  | none=>simp [Yar,HT.a9]
  | some i=>
   simp only [Yar,HT.a9,Option.getD_none,show (1:Int) > 0 by decide,if_true]
   by_cases h:i < 0
   ·simp only [h,if_true] <;> omega
   ·simp only [h,if_false] <;> omega
 ·cases hi with
  | none=>simp [Yar,HT.a9]
  | some i=>
   simp only [Yar,HT.a9,Option.getD_none,show (1:Int) > 0 by decide,if_true]
   by_cases h:i < 0
   ·simp only [h,if_true] <;> omega
   ·simp only [h,if_false] <;> omega
theorem ZnI (its:List Value) (lo hi:Option Int):slicePick its.toArray lo hi none=((its.drop (HT.a9 its.length 0 lo)).take (HT.a9 its.length its.length hi - HT.a9 its.length 0 lo)).toArray:=by
 obtain ⟨h1,h2,h3⟩:=Zpo lo hi its.toArray.size;unfold slicePick;rw [h1,h2,h3]
 simp only [sliceRange_one,pick_run,Yn] <;> rfl
def J9 (K:Yg):V->Option Int->Option Int->Hp->VK->Prop:=fun x lo hi H Q=>∃ a xs,x=.ref a/\ar K H a xs/\∀ p,H p=none->Q (.ref p) (upd H p (.lst (bC xs lo hi)))
theorem EK:yI X (J9 X.K):=by
 intro pins s σ H x v vl vu lo hi sl Q I rx hs pl pu h;obtain ⟨a,xs,rfl,hx,q⟩:=h
 cases rx
 obtain ⟨its,r,ht,hz⟩:=I.list hx;have hlen:=r.length;refine ⟨"list",_,slot_list_getitem.lookup,ht.isList.typeIs,?_⟩;refine wpAny_getItem_list_slice ht.isList hs pl pu .none (by simp) ?_ (by rw [Yn] <;> omega);rw [ZnI,<- hlen];refine ⟨.ref s.heap.objs.size,_,I.laid (t':=s.toks) (o:=.lst (bC xs lo hi)) (fun b ob q=>Yc _ q) (Ye _) ?_,rfl,q _ (I.aj.fresh (Ye _))⟩;exact ⟨Yk (ZlZ xs lo hi) hz,_,0,(r.drop (HT.a9 xs.length 0 lo)).take (HT.a9 xs.length xs.length hi - HT.a9 xs.length 0 lo),Yi _ rfl⟩
def js:V->Bool
 | .aL=>true
 | .bl _=>true
 | .int _=>true
 | .str _=>true
 | _=>false
def iY:V->V->Bool
 | .aL,.aL=>true
 | .bl a,.bl b=>a == b
 | .bl a,.int b=>(if a then 1 else 0) == b
 | .int a,.bl b=>a == (if b then 1 else 0)
 | .int a,.int b=>a == b
 | .str a,.str b=>a == b
 | _,_=>false
theorem ZzC {A:Around} {s:Shared} {y x:V} {u v:Value} (ry:RelV y u) (rx:RelV x v) (fy:js y=true) (fx:js x=true):SeqAt.EqAt A s u v (iY y x):=by
 cases y with
 | aL=>
  cases ry
  cases x with
  | aL=>cases rx;exact SeqAt.EqAt.same _
  | bl b=>cases rx;exact SeqAt.EqAt.none_bool b
  | int b=>obtain ⟨t,rfl⟩:=rx;exact SeqAt.EqAt.none_int b t
  | str b=>obtain ⟨t,rfl⟩:=rx;exact SeqAt.EqAt.none_str b t
  | _=>exact absurd (show false=true from fx) Yp
 | bl a=>
  cases ry
  cases x with
  | aL=>cases rx;exact SeqAt.EqAt.bool_none a
  | bl b=>cases rx;exact SeqAt.EqAt.bool_bool a b
  | int b=>obtain ⟨t,rfl⟩:=rx;exact SeqAt.EqAt.bool_int a b t
  | str b=>obtain ⟨t,rfl⟩:=rx;exact SeqAt.EqAt.bool_str a b t
  | _=>exact absurd (show false=true from fx) Yp
 | int a=>
  obtain ⟨t',rfl⟩:=ry
  cases x with
  | aL=>cases rx;exact SeqAt.EqAt.int_none a t'
  | bl b=>cases rx;exact SeqAt.EqAt.int_bool a t' b
  | int b=>obtain ⟨t,rfl⟩:=rx;exact SeqAt.EqAt.int_int a t' b t
  | str b=>obtain ⟨t,rfl⟩:=rx;exact SeqAt.EqAt.int_str a t' b t
  | _=>exact absurd (show false=true from fx) Yp
 | str a=>
  obtain ⟨t',rfl⟩:=ry
  cases x with
  | aL=>cases rx;exact SeqAt.EqAt.str_none a t'
  | bl b=>cases rx;exact SeqAt.EqAt.str_bool a t' b
  | int b=>obtain ⟨t,rfl⟩:=rx;exact SeqAt.EqAt.str_int a t' b t
  | str b=>obtain ⟨t,rfl⟩:=rx;exact SeqAt.EqAt.str_str a t' b t
  | _=>exact absurd (show false=true from fx) Yp
 | _=>exact absurd (show false=true from fy) Yp
def hR (x:V) (u:Value):Bool:=match u with
 | .none=>iY .aL x
 | .bool b=>iY (.bl b) x
 | .int i _=>iY (.int i) x
 | .str z _=>iY (.str z) x
 | _=>false
theorem AZ {x y:V} {u:Value} (r:RelV y u) (f:js y=true):hR x u=iY y x:=by
 cases y with
 | aL=>cases r;rfl
 | bl b=>cases r;rfl
 | int i=>obtain ⟨t,rfl⟩:=r;rfl
 | str z=>obtain ⟨t,rfl⟩:=r;rfl
 | _=>exact absurd (show false=true from f) Yp
theorem x' {x:V}:∀ {xs:List V} {us:List Value},Vals xs us->xs.all js=true->us.any (hR x)=xs.any fun y=>iY y x
 | _,_,.nil,_=>rfl
 | y::xs,u::us,.cons r t,f=>by
  rw [Ya7,YV] at f;rw [W4,W4,AZ r f.1,x' t f.2]
theorem sT {A:Around} {s:Shared} {x:V} {v:Value} (rx:RelV x v) (fx:js x=true):∀ {xs:List V} {us:List Value},Vals xs us->xs.all js=true->∀ u∈us,SeqAt.EqAt A s u v (hR x u)
 | _,_,.nil,_=>fun u hu=>by cases hu
 | y::xs,u::us,.cons r t,f=>fun u' hu=>by
  rw [Ya7,YV] at f;rcases List.mem_cons.mp hu with rfl | hu
  ·rw [AZ r f.1];exact ZzC r rx f.1 fx
  ·exact sT rx fx t f.2 u' hu
def pK (x:V) (xs:List V):Bool:=xs.any fun y=>iY y x
def rIn (K:Yg) (neg:Bool):R2:=fun x y H Q=>∃ p xs,y=.ref p/\(ar K H p xs∨aG K H p xs)/\js x=true/\xs.all js=true/\Q (.bl (if neg then !pK x xs else pK x xs)) H
theorem Fv:dJ X (XS .In) (rIn X.K false):=by
 intro pins s σ H x y v u Q I rx ry h;obtain ⟨p,xs,rfl,hq,fx,fs,q⟩:=h
 cases ry
 rcases hq with hq | hq
 ·obtain ⟨its,r,pl,hz⟩:=I.list hq;refine SeqAt.in_listAt (hR x) pl.isList (fun w hw=>sT rx fx r fs w (by simpa using hw)) ⟨.bl _,H,I,rfl,?_⟩;rw [show its.toArray.any (hR x)=its.any (hR x) by simp,x' r fs];exact q
 ·obtain ⟨its,r,pl,hz⟩:=I.tuple hq;refine SeqAt.in_tupleAt (hR x) pl (fun w hw=>sT rx fx r fs w (by simpa using hw)) ⟨.bl _,H,I,rfl,?_⟩;rw [show its.toArray.any (hR x)=its.any (hR x) by simp,x' r fs];exact q
theorem ZpF:dJ X (XS .NotIn) (rIn X.K true):=by
 intro pins s σ H x y v u Q I rx ry h;obtain ⟨p,xs,rfl,hq,fx,fs,q⟩:=h
 cases ry
 rcases hq with hq | hq
 ·obtain ⟨its,r,pl,hz⟩:=I.list hq;refine SeqAt.notIn_listAt (hR x) pl.isList (fun w hw=>sT rx fx r fs w (by simpa using hw)) ⟨.bl _,H,I,rfl,?_⟩;rw [show its.toArray.any (hR x)=its.any (hR x) by simp,x' r fs];exact q
 ·obtain ⟨its,r,pl,hz⟩:=I.tuple hq;refine SeqAt.notIn_tupleAt (hR x) pl (fun w hw=>sT rx fx r fs w (by simpa using hw)) ⟨.bl _,H,I,rfl,?_⟩;rw [show its.toArray.any (hR x)=its.any (hR x) by simp,x' r fs];exact q
theorem ZI:eN X (.builtin "len") (fun xs H Q=>∃ p ys,xs=[.ref p]/\(ar X.K H p ys∨aG X.K H p ys)/\Q (.int ys.length) H):=by
 intro pins s σ H xs us Q I r h;obtain ⟨p,ys,rfl,hq,q⟩:=h;obtain ⟨u,rfl,rx⟩:=sk r
 cases rx
 have hn:=xU;rcases hq with hq | hq
 ·obtain ⟨its,r',pl,hz⟩:=I.list hq;have hlen:=r'.length;exact Calls.call_len_list pl.isList (by simp only [Yn] <;> omega) ⟨.int ys.length,H,I.tok _,⟨s.toks + 1,by rw [Yn,hlen]⟩,q⟩
 ·obtain ⟨its,r',pl,hz⟩:=I.tuple hq;have hlen:=r'.length;exact len_tuple pl (by simp only [Yn] <;> omega) ⟨.int ys.length,H,I.tok _,⟨s.toks + 1,by rw [Yn,hlen]⟩,q⟩
theorem HM:eN X (.builtin "len") (fun xs H Q=>∃ z,xs=[.str z]/\z.length<=Ym/\Q (.int z.length) H):=by
 intro pins s σ H xs us Q I r h;obtain ⟨z,rfl,hz,q⟩:=h;obtain ⟨u,rfl,t,rfl⟩:=sk r;have hn:=xU;exact len_str (by omega) ⟨.int z.length,H,I.tok _,⟨_,rfl⟩,q⟩
theorem B0:eN X (.type "list") (fun xs H Q=>∃ p ys,xs=[.ref p]/\(ar X.K H p ys∨aG X.K H p ys)/\∀ l,H l=none->Q (.ref l) (upd H l (.lst ys))):=by
 intro pins s σ H xs us Q I r h;obtain ⟨p,ys,rfl,hq,q⟩:=h;obtain ⟨u,rfl,rx⟩:=sk r
 cases rx
 have fin:∀ (its:List Value),Vals ys its->ys.length<=Ym->∀ (h':Heap) (c':Nat),(∀ b o',s.heap.get? b=some o'->h'.get? b=some o')->
   h'.get? s.heap.objs.size=some {cls:=.type "list",dict:=none,data:=.seq its.toArray c',slots:=#[]}->EP X pins σ Q (.ref s.heap.objs.size) {s with heap:=h'}:=fun its r' hz h' c' kp e=>
  ⟨.ref s.heap.objs.size,_,I.laid (t':=s.toks) kp (Ye _) (show bT X.prog X.w _ h' _ (.lst ys) from ⟨hz,its,c',r',e⟩),rfl,q _ (I.aj.fresh (Ye _))⟩
 rcases hq with hq | hq
 ·obtain ⟨its,r',pl,hz⟩:=I.list hq;have hlen:=r'.length;obtain ⟨o,ho,hc,n,hd⟩:=pl.isList;exact call_list_seq p (.inl rfl) ho hc hd (fun h' c' kp e=>fin its r' hz h' c' kp e) (by simp only [Yn] <;> omega)
 ·obtain ⟨its,r',pl,hz⟩:=I.tuple hq;have hlen:=r'.length;obtain ⟨o,ho,hc,n,hd⟩:=pl;exact call_list_seq p (.inr rfl) ho hc hd (fun h' c' kp e=>fin its r' hz h' c' kp e) (by simp only [Yn] <;> omega)
theorem IH:eN X (.type "tuple") (fun xs H Q=>∃ p ys,xs=[.ref p]/\((ar X.K H p ys/\∀ l,H l=none->Q (.ref l) (upd H l (.tup ys)))∨(aG X.K H p ys/\Q (.ref p) H))):=by
 intro pins s σ H xs us Q I r h;obtain ⟨p,ys,rfl,h⟩:=h;obtain ⟨u,rfl,rx⟩:=sk r
 cases rx
 rcases h with ⟨hq,q⟩ | ⟨hq,q⟩
 ·obtain ⟨its,r',pl,hz⟩:=I.list hq;have hlen:=r'.length;refine call_tuple_list pl.isList (fun h' kp=>?_) (by simp only [Yn] <;> omega);have I1:Inv X pins σ H {s with heap:=h'}:=I.kept (t':=s.toks) kp
  have I2:Inv X pins σ (upd H h'.objs.size (.tup ys)) {s with heap:=h'.push {cls:=.type "tuple",data:=.seq its.toArray}}:=
   I1.laid (t':=s.toks) (fun b o e=>Yc _ e) (Ye _) (show bT X.prog X.w _ _ _ (.tup ys) from ⟨hz,its,r',IsTup.new _ _⟩)
  exact ⟨.ref h'.objs.size,_,I2,rfl,q _ (I1.aj.fresh (Ye _))⟩
 ·obtain ⟨its,r',pl,hz⟩:=I.tuple hq;exact call_tuple_same pl ⟨.ref p,H,I,rfl,q⟩
def Cy (K:Yg) (T:String) (x:V) (H:Hp):Prop:=match x with
 | .str _=>T="str"
 | .int _=>T="int"
 | .ref p=>(T="list"/\∃ xs,ar K H p xs)∨(T="tuple"/\∃ o,K.lookup p=some o/\o.cls=.type "tuple"/\o.dict=none)∨
   (T="dict"/\((∃ kvs,H p=some (.dK kvs))∨∃ kvs,H p=some (.dT kvs)))∨(T="set"/\∃ S n,H p=some (.set S n))
 | _=>False
theorem ZwP {pins:List (Addr×Obj)} {σ:St} {H:Hp} {s:Shared} {T:String} {x:V} {v:Value} (I:Inv X pins σ H s) (r:RelV x v) (ty:Cy X.K T x H) :
  s.TypeIs v T/\∀ a,v=.ref a->∃ ob,s.heap.get? a=some ob/\ob.dict=none:=by
 cases x with
 | str z=>
  obtain ⟨t,rfl⟩:=r
  cases (show T="str" from ty)
  exact ⟨Yam s z t,fun _ e=>nomatch e⟩
 | int i=>
  obtain ⟨t,rfl⟩:=r
  cases (show T="int" from ty)
  exact ⟨YaJ s i t,fun _ e=>nomatch e⟩
 | ref p=>
  cases r
  rcases ty with ⟨rfl,xs,hq⟩ | ⟨rfl,o,hk,hc,hd⟩ | ⟨rfl,hk⟩ | ⟨rfl,S,n,hk⟩
  ·obtain ⟨its,_,pl,_⟩:=I.list hq;refine ⟨pl.isList.typeIs,fun a e=>?_⟩
   cases e
   obtain ⟨o,n,e,c,hd,_⟩:=pl;exact ⟨o,e,hd⟩
  ·refine ⟨⟨o,I.cf p o hk,hc⟩,fun a e=>?_⟩
   cases e
   exact ⟨o,I.cf _ o hk,hd⟩
  ·have z:∃ o,s.heap.get? p=some o/\o.ExactDict:=by
    rcases hk with ⟨kvs,hk⟩ | ⟨kvs,hk⟩
    ·obtain ⟨_,_,_,_,o,_,_,e,ex,_⟩:=I.aj p _ hk;exact ⟨o,e,ex⟩
    ·obtain ⟨_,_,_,_,o,_,_,e,ex,_⟩:=I.aj p _ hk;exact ⟨o,e,ex⟩
   obtain ⟨o,e,ex⟩:=z;refine ⟨⟨o,e,ex.1⟩,fun a e2=>?_⟩
   cases e2
   exact ⟨o,e,ex.2.1⟩
  ·obtain ⟨o,_,_,_,e,ex,_⟩:=I.aj p _ hk;refine ⟨⟨o,e,ex.1⟩,fun a e2=>?_⟩
   cases e2
   exact ⟨o,e,ex.2.1⟩
 | _=>exact Xa ty
def J5 (K:Yg) (T:String) (r:V->List V->Hp->VK->Prop) (to:TE):TE:=fun σ H Q=>to σ H fun x H1=>Cy K T x H1/\r x [] H1 Q
def tBM (K:Yg) (T:String) (r:V->List V->Hp->VK->Prop) (to:TE) (t:TA):TE:=fun σ H Q=>to σ H fun x H1=>Cy K T x H1/\t σ H1 fun xs H2=>r x xs H2 Q
variable {o e:Expr} {es:List Expr} {to:TE} {t:TA} {name:Str} {apos aU:Pos} {T id:String} {r:V->List V->Hp->VK->Prop}
theorem vq (pa:PlainAttrs T) (slot:Slot T name id) (w4:typeOf (.builtin id)=pure (.type "method_descriptor")) (hm:nK X id r) (ho:PE X o to)
  (jb:W2 o name X.env (eval o X.env)=eval o X.env:=by rfl) (i_:(apos.endLine == aU.line)=true:=by rfl):PE X (.Call (.Attribute o name apos) [] [] aU) (J5 X.K T r to):=by
 try unfold PE at *
 intro pins s σ H Q I h;refine wpAny_Call_method0_late jb i_ (aH (ho pins s σ H _ I h) fun v s1 ⟨x,H1,I1,r1,ty,q1⟩=>?_);obtain ⟨h1,h2⟩:=ZwP I1 r1 ty;exact ⟨T,id,pa,slot,w4,h1,h2,XZ rfl (PySem.evalArgs_none (hm pins s1 σ H1 x [] v [] Q I1 r1 .nil q1))⟩
theorem j9 (pa:PlainAttrs T) (slot:Slot T name id) (w4:typeOf (.builtin id)=pure (.type "method_descriptor")) (hm:nK X id r) (ho:PE X o to) (ha:PA X (e::es) t)
  (jb:W2 o name X.env (eval o X.env)=eval o X.env:=by rfl)
  (tX:((Wi aU (Yx (e::es) X.env)).all (fun x=>!x.1) && (backToKw aU (YaW [] X.env)).all (fun x=>x.1.isSome)
   && decide ((e::es).length + ([]:List Keyword).length + (if ([]:List Keyword).isEmpty then 0 else 1) < 30))=true:=by rfl)
  (i_:(apos.endLine == aU.line)=true:=by rfl) (hs:Yx (e::es) X.env=(false,eval e X.env)::Yx es X.env:=by rfl) (fW:(Wi aU (Yx es X.env)).any (·.1)=false:=by rfl) :
  PE X (.Call (.Attribute o name apos) (e::es) [] aU) (tBM X.K T r to t):=by
 try unfold PE at *;try unfold PA at *
 intro pins s σ H Q I h;refine wpAny_Call_method_late jb tX i_ rfl (aH (ho pins s σ H _ I h) fun v s1 ⟨x,H1,I1,r1,ty,q1⟩=>?_);obtain ⟨h1,h2⟩:=ZwP I1 r1 ty;refine ⟨T,id,pa,slot,w4,h1,h2,?_⟩;have hA:=ha aU pins s1 σ H1 _ I1 q1;rw [hs] at hA ⊢;refine XZ (by show (false || (Wi aU (Yx es X.env)).any (·.1))=false;rw [fW] <;> rfl) (Wg ?_);exact aH hA fun us s2 ⟨vs,H2,I2,r2,q2⟩=>hm pins s2 σ H2 x vs v us Q I2 r1 r2 q2
end
end L2
namespace L2
open PySem PySem.Spec PyProof.Rows
def MtM (X:Cx) (id:String) (r:V->List V->Hp->VK->Prop):Prop:=
 ∀ (pins:List (Addr×Obj)) (s:Shared) (σ:St) (H:Hp) (x:V) (xs:List V) (v:Value) (us:List Value) (Q:VK),Inv X pins σ H s->RelV x v->Vals xs us->r x xs H Q->
  wpAny (model X.prog X.w) X.A (call (.builtin id) (v::us)) (EP X pins σ Q) X.xe s
theorem Vals.one:∀ {x:V} {us:List Value},Vals [x] us->∃ u,us=[u]/\RelV x u
 | _,_,.cons r .nil=>⟨_,rfl,r⟩
theorem Vals.two:∀ {x y:V} {us:List Value},Vals [x,y] us->∃ u v,us=[u,v]/\RelV x u/\RelV y v
 | _,_,_,.cons r (.cons q .nil)=>⟨_,_,rfl,r,q⟩
theorem Vals.zero:∀ {us:List Value},Vals [] us->us=[]
 | _,.nil=>rfl
theorem Vals.rep {xs:List V} {us:List Value} (h:Vals xs us):∀ k:Nat,Vals (List.replicate k xs).flatten (List.replicate k us).flatten
 | 0=>.nil
 | k + 1=>by
  rw [Xg,Xg,Xh,Xh];exact Vals.append h (Vals.rep h k)
theorem FD (its:List Value):∀ (k:Nat) (acc:List Value),
  List.foldl (fun x1 x2=>x1++x2) acc.toArray (List.replicate k its.toArray)=(acc++(List.replicate k its).flatten).toArray
 | 0,acc=>by simp
 | k + 1,acc=>by
  have e:acc.toArray++its.toArray=(acc++its).toArray:=by simp
  have e2:(acc++its)++(List.replicate k its).flatten=acc++(List.replicate (k + 1) its).flatten:=by
   rw [Xg,Xh,List.append_assoc]
  rw [<- e2,<- FD its k (acc++its),<- e,Xg,List.foldl_cons]
section
variable {X:Cx} {pins:List (Addr×Obj)} {σ:St} {H:Hp} {s:Shared} {l b:Addr} {xs ys zs:List V}
theorem Inv.zd {its its':List Value} {n:Nat} {f:Array Value->Array Value} {t':Nat} (I:Inv X pins σ H s) (hH:H l=some (.lst xs))
  (e:s.heap.get? l=some {cls:=.type "list",data:=.seq its.toArray n}) (hf:f its.toArray=its'.toArray) (hv:Vals ys its') (hz:ys.length<=Ym) :
  Inv X pins σ (upd H l (.lst ys)) {s with heap:=s.heap.update l (Y1 f),toks:=t'}:=by
 have q:=PySem.IsL.update e f;rw [hf] at q;refine I.write (x:=l) (e:=l) (by rw [hH];exact trivial) (.inl rfl) (fun b' u hb hu=>(Xq s.heap (Y1 f) (WN hb)).trans hu) ⟨_,q⟩ ?_;exact ⟨hz,its',_,hv,q⟩
theorem Inv.mC {its:List Value} {t':Nat} (I:Inv X pins σ H s) (hv:Vals ys its) (hz:ys.length<=Ym) :
  Inv X pins σ (upd H s.heap.objs.size (.lst ys)) {s with heap:=s.heap.push {cls:=.type "list",data:=.seq its.toArray},toks:=t'}:=
 I.laid (fun _ _ q=>Yc _ q) (Ye _) ⟨hz,its,0,hv,Yi _ rfl⟩
theorem Inv.fresh (I:Inv X pins σ H s):H s.heap.objs.size=none:=I.aj.fresh (Ye _)
theorem Inv.mB (I:Inv X pins σ H s) (hH:H l=some (.lst xs)):xs.length<=Ym/\∃ (its:List Value) (n:Nat),Vals xs its/\xs.length=its.length/\s.heap.get? l=some {cls:=.type "list",data:=.seq its.toArray n}:=by
 obtain ⟨z,its,n,r,e⟩:=I.aj l _ hH;exact ⟨z,its,n,r,r.length,e⟩
theorem Zv9 {n:Nat} (h:n<=Ym):Ya2 n=false:=by
 unfold Ya2;exact decide_eq_false (by omega)
end
section
variable {X:Cx}
def ZxJ:V->List V->Hp->VK->Prop:=fun x vs H Q=>∃ l xs y,x=.ref l/\vs=[y]/\H l=some (.lst xs)/\xs.length < Ym/\Q .aL (upd H l (.lst (xs++[y])))
theorem oP:MtM X "list.append" ZxJ:=by
 intro pins s σ H x vs v us Q I rx rv h;obtain ⟨l,xs,y,rfl,rfl,hH,hz,q⟩:=h
 cases rx
 obtain ⟨u,rfl,ru⟩:=rv.one;obtain ⟨z,its,n,r,hl,e⟩:=I.mB hH;refine XF F.slot_list_append ⟨_,e,rfl⟩ F.entry_list_append (F.args_list_append_2 _ _) (PySem.list_append l its.toArray n u (by rw [Yn];omega)) ⟨e,?_⟩;refine ⟨.aL,_,I.zd (its':=its++[u]) hH e (by simp) (r.append (.cons ru .nil)) ?_,rfl,q⟩;rw [Yf,List.length_singleton];omega
def ZxI:V->List V->Hp->VK->Prop:=fun x vs H Q=>∃ l b xs zs,x=.ref l/\vs=[.ref b]/\H l=some (.lst xs)/\H b=some (.lst zs)/\xs.length + zs.length<=Ym/\Q .aL (upd H l (.lst (xs++zs)))
theorem ZuB:MtM X "list.extend" ZxI:=by
 intro pins s σ H x vs v us Q I rx rv h;obtain ⟨l,b,xs,zs,rfl,rfl,hH,hB,hz,q⟩:=h
 cases rx
 obtain ⟨u,rfl,ru⟩:=rv.one
 cases ru
 obtain ⟨z,its,n,r,hl,e⟩:=I.mB hH;obtain ⟨z2,gD,n2,r2,cJ,e2⟩:=I.mB hB;have hsz:its.toArray.size + gD.toArray.size<=Ym:=by rw [Yn,Yn];omega
 have zT:¬ (!its.toArray.isEmpty && Ya2 (its.toArray.size + gD.toArray.size))=true:=by
  rw [Zv9 hsz,Bool.and_false];exact Yp
 refine XF F.slot_list_extend ⟨_,e,rfl⟩ F.entry_list_extend (F.args_list_extend_2 _ _)
  (AutoSeq1.list_extend_list_list_0 l its.toArray n b gD.toArray n2 zT (by rw [Yn];omega) (by omega)) ⟨e,e2,?_⟩
 refine ⟨.aL,_,I.zd (its':=its++gD) hH e (by simp) (r.append r2) ?_,rfl,q⟩;rw [Yf];omega
def Kc:R2:=fun x y H Q=>∃ l b xs zs,x=.ref l/\y=.ref b/\H l=some (.lst xs)/\H b=some (.lst zs)/\xs.length + zs.length<=Ym/\∀ p,H p=none->Q (.ref p) (upd H p (.lst (xs++zs)))
theorem vn:dJ X (Wv .Add) Kc:=by
 intro pins s σ H x y v u Q I rx ry h;obtain ⟨l,b,xs,zs,rfl,rfl,hH,hB,hz,q⟩:=h
 cases rx
 cases ry
 obtain ⟨z,its,n,r,hl,e⟩:=I.mB hH;obtain ⟨z2,gD,n2,r2,cJ,e2⟩:=I.mB hB;refine PySem.P.add_list e e2 ?_ (by rw [Yn,Yn];omega);have ea:its.toArray++gD.toArray=(its++gD).toArray:=by simp
 rw [ea];exact ⟨.ref _,_,I.mC (t':=s.toks) (r.append r2) (by rw [Yf];omega),rfl,q _ I.fresh⟩
theorem ZuO {α:Type} (xs:List α) (k:Nat):(List.replicate k xs).flatten.length=k * xs.length:=by
 induction k with
 | zero=>simp
 | succ k ih=>rw [Xg,Xh,Yf,ih,Nat.succ_mul,Nat.add_comm]
end
section
variable {prog:Program} {w:World} {A:Around} {E:Value->Shared->Prop} {s:Shared}
end
section
variable {X:Cx}
end
end L2
namespace Att
open PySem PySem.W PySem.Calls PyProof.Rows
theorem ZlP {P:Params} {h:Heap}:∀ (ns:List Int) (vs:List Value),WellAll P h vs (ns.map WData.int)->IntsAre vs ns:=by
 intro ns
 induction ns with
 | nil=>
  intro vs w;rw [YaD] at w
  cases w
  exact .nil
 | cons n ns ih=>
  intro vs w;rw [Yt] at w
  cases w with
  | cons a b=>
   cases a
   exact .cons _ _ (ih _ b)
theorem Zuc {l:OpenLaw} {n:Nat} (hn:l.most=some n) {P:Params} {h:Heap} {args:List WData} {vals:List Value}
    (oZ:l.row.toRowW.claim.pre args=true) (C8:WellAll P h vals args) :
    ∃ a vs ns,vals=[Value.ref a]/\args=[WData.list (ns.map WData.int)]/\h.get? a=some {cls:=.type "list",data:=.seq vs.toArray}/\IntsAre vs ns/\ns.length<=n:=by
  have pO:WShape.hasAll [] args [.list .int]=true:=(pre_splitW oZ).1;have hc:l.pre.holds [] {args:=args}=true:=(pre_splitW oZ).2;obtain ⟨d,r,rfl,h1,h2⟩:=hasAllW_cons pO;obtain rfl:=hasAllW_nil h2;obtain ⟨xs,rfl,h3⟩:=hasW_list h1;obtain ⟨ns,rfl⟩:=items_int h3
  have hlen:ns.length<=n:=by
    unfold OpenLaw.pre at hc
    have h4:(WTm.not (.lt (.lit (.int (n:Int))) (.len (.arg 0)))).holds [] {args:=[.list (ns.map .int)]}=true:=by
      have h4:=(holds_andW hc).1;rw [hn] at h4;exact h4
    have h5:=condW_of h4 (w_not (w_lt w_lit (w_len_list (w_arg rfl))));rw [Yb] at h5;refine Nat.le_of_not_lt fun q=>?_;have q':(n:Int) < ((ns.length:Nat):Int):=by omega
    first
      | (rw [decide_eq_true q'] at h5;exact absurd h5 (by decide))
      | (simp at h5;omega)
  cases C8 with
  | cons w1 w2=>
    cases w2
    cases w1 with
    | list ho t8=>exact ⟨_,_,ns,rfl,rfl,ho,ZlP ns _ t8,hlen⟩
theorem Zui (l:OpenLaw) (args:List WData):l.row.toRowW.claim.post args (.bool true) args=true:=
 postW_of (r:=l.row.toRowW) (X:=(true == true))
  (show WShape.has [] (.bool true) .bool=true by first | rfl | decide | simp [WShape.has,WShape.arms,WShape.armsAll])
  (show (WTm.eq .res (.lit (.bool true))).value [] {args:=args,res:=some (.bool true),after:=args}=some (.bool (true == true)) from w_eq_bool (w_res rfl) w_lit) rfl
theorem jl {l:OpenLaw} {n:Nat} {q:Program} {loose:List Str} {XP:(Str->Option Value)->Heap->Prop} {YP:World->Heap->Prop} {d:DefRec}
  (hn:l.most=some n) (rO:d.params.defaults=[])
  (call:∀ (w:World) (au aD:Shared) (mg mb:Str->Option Value) (fa:Addr) (o:Obj) (pm cd doc:Value) (a:Addr) (vs:List Value) (ns:List Int),
   Ground q loose [] XP w au mg mb aD.heap->YP w aD.heap->
   aD.heap.get? fa=some o->o.data=.func (docDef d.name d.params d.body d.scope pm cd doc)->aD.heap.CodeRec cd d.name->mg d.name=some (.ref fa)->
   aD.heap.get? a=some {cls:=.type "list",data:=.seq vs.toArray}->IntsAre vs ns->ns.length<=n->aD.gens=#[]->
   Yas (model l.prog w) callerA (.call (.ref fa) ⟨[.ref a],[]⟩) (fun r s'=>r=.ok (.ret (.bool true))/\OldK aD.heap s'.heap/\s'.os=aD.os/\AllBare s'.gens) aD) :
  WalkO q loose XP YP l.row.toRowW d [] (fun f vs=>PySem.call f vs):=by
 intro w au aD mg mb G Y fa o pm cd doc dV kV ho hd gx hD hmg hg args vals as oZ hlay hrd C8 kF;obtain rfl:dV=.none:=Dflts.none hD rO;obtain rfl:kV=.none:=Dflts.noKw hD;obtain ⟨a,vs,ns,rfl,rfl,tS,hints,hlen⟩:=Zuc hn oZ C8;refine enter_call (YaA (call w au aD mg mb fa o pm cd doc a vs ns G Y ho (fd_plain hd) gx hmg tS hints hlen hg) fun r s' hq=>?_);obtain ⟨rfl,h2,h3,h4⟩:=hq;exact ⟨.inl ⟨.bool true,.bool true,[],rfl,fun _=>rfl,.bool true,Zui l _,fun _=>⟨YaV,fun _ hm=>(nomatch hm)⟩⟩,h2,h3,h4⟩
section
variable {prog:Program} {w:World} {A:Around} {E:Value->Shared->Prop} {s:Shared} {K:Frag}
end
end Att
namespace L2
open PySem PySem.Spec PyProof.Rows
theorem Zo3:∀ {vs:List Value} {ns:List Int},IntsAre vs ns->Vals (ns.map V.int) vs
 | _,_,.nil=>.nil
 | _,_,.cons n t h=>.cons ⟨t,rfl⟩ (Zo3 h)
end L2
namespace L2
open PySem PySem.Spec PyProof.Rows
end L2
namespace L2
open PySem PySem.Spec PyProof.Rows
def eA (s:Stmt) (j:Nat):Stmt:=match s with
 | .ClassDef _ _ _ body _ _ _ _ _ _ _=>body.getD j (.Pass ⟨0,0,0,0⟩)
 | _=>.Pass ⟨0,0,0,0⟩
def nC (s:Stmt):Arguments:=match s with
 | .FunctionDef _ a _ _ _ _ _ _ _ _=>a
 | _=>{posonlyargs:=[],args:=[],vararg:=none,kwonlyargs:=[],kw_defaults:=[],kwarg:=none,defaults:=[]}
def kj (s:Stmt):List Stmt:=match s with
 | .FunctionDef _ _ b _ _ _ _ _ _ _=>b
 | _=>[]
def Zi (s:Stmt):Scope:=match s with
 | .FunctionDef _ _ _ _ _ _ sc _ _ _=>sc
 | _=>{kind:=.function,names:=[],isGenerator:=false,isCoroutine:=false}
abbrev my:iS:=fun _ _ _ _ _ _=>False
abbrev E0:XK:=fun _ _ _=>False
structure aI (K:Yg) (x qual:Str) (st:Stmt) (f:Addr) (fd:Yl):Prop where
 ex:∃ (oc:Value) (od:Option Addr) (kV doc pm:Value) (an:Option Addr) (aq ct:Value) (kA:Array (Option Value)),
  fd=XI x qual (nC st) (kj st) (Zi st) .none kV doc pm an aq ct/\K.lookup f=some ⟨oc,od,.func fd,kA⟩/\PySem.W.codeIn K aq qual=true
 kp:XM K (.ref f)=true
section
variable {P:Program} {w:World} {K:Yg} {mg:Str->Option Value} {base:Heap}
theorem aI.binds {x qual:Str} {st:Stmt} {f:Addr} {fd:Yl} {ps:List Str} (F:aI K x qual st f fd)
  (h:∀ (kV doc pm:Value) (an:Option Addr) (aq ct:Value) (us:List Value),us.length=ps.length->bindArgs (XI x qual (nC st) (kj st) (Zi st) .none kV doc pm an aq ct) ⟨us,[]⟩=pure (ps.zip us)):ZF K fd ps []:=by
 obtain ⟨oc,od,kV,doc,pm,an,aq,ct,kA,rfl,lk,gx⟩:=F.ex;exact .all (h kV doc pm an aq ct)
theorem Zzx {x qual:Str} {st:Stmt} {f:Addr} {oc:Value} {od an:Option Addr} {kA:Array (Option Value)} {kV doc pm aq ct:Value} (l:K.lookup f=some ⟨oc,od,.func (XI x qual (nC st) (kj st) (Zi st) .none kV doc pm an aq ct),kA⟩)
  (c:PySem.W.codeIn K aq qual=true) (k:XM K (.ref f)=true):aI K x qual st f (XI x qual (nC st) (kj st) (Zi st) .none kV doc pm an aq ct):=⟨⟨oc,od,kV,doc,pm,an,aq,ct,kA,rfl,l,c⟩,k⟩
end
section
variable {X:Cx}
theorem pv (i:Nat) {x:Str} {pos:Pos} (hN:X.N[i]?=some x:=by rfl) (hv:Cn X.env.scope x:=by first | exact Or.inl rfl | exact Or.inr (Or.inl rfl) | exact Or.inr (Or.inr rfl)) (hd:(x == ("__debug__":Str))=false:=by decide)
  (gx:(x == ("__classdict__":Str))=false:=by decide):PE X (.Name x pos) (aO i):=Zw1 hN hv hd gx
end
theorem aw {A B:Prop} (h:B):if false=true then A else B:=by
 rw [if_neg Yp];exact h
theorem ay {A B:Prop} (h:A):if true=true then A else B:=by
 rw [if_pos rfl];exact h
theorem i8 {c A B:Prop} [Decidable c] (h1:c->A) (h2:¬ c->B):if c then A else B:=by
 by_cases h:c
 ·rw [if_pos h];exact h1 h
 ·rw [if_neg h];exact h2 h
theorem Zzq {c A B:Prop} [Decidable c] (hc:c) (h:B):if (!decide c)=true then A else B:=by
 rw [decide_eq_true hc];exact aw h
def ag (H H':Hp):Prop:=∀ b o,H b=some o->H' b=some o
theorem ag.refl (H:Hp):ag H H:=fun _ _ h=>h
theorem ag.trans {H H1 H2:Hp} (a:ag H H1) (b:ag H1 H2):ag H H2:=fun c o h=>b c o (a c o h)
theorem ag.seq {K:Yg} {H H':Hp} {a:Addr} {xs:List V} (e:ag H H') (h:ar K H a xs):ar K H' a xs:=by
 rcases h with (h | ⟨o,h⟩) | h
 ·exact .inl (.inl (e _ _ h))
 ·exact .inl (.inr ⟨o,e _ _ h⟩)
 ·exact .inr h
end L2
set_option maxHeartbeats 4000000
namespace L2
open PySem PySem.Spec PyProof.Rows
structure nD (X:Cx) (scope:Scope) (own fv:List Str) (ix:List Nat):Prop where
 kind:scope.kind=.function
 jS:∀ y∈scope.names,y.2≠.cell
 names:∀ y∈scope.names,y.2=.local->scope.names.lookup y.1=some .local
 once:∀ y∈scope.names,y.2=.free->scope.names.lookup y.1=some .free
 outer:∀ y∈scope.names,y.2=.free->X.env.kindOf y.1=some .cell∨X.env.kindOf y.1=some .free
 um:∀ y∈fv,scope.names.lookup y=some .free
 slots:∀ (j:Nat) (y:Str),fv[j]?=some y->∃ i,ix[j]?=some i/\X.N[i]?=some y
 len:ix.length=fv.length
def Zxe (sc:Scope) (N:List Str) (scope:Scope) (fv:List Str) (ix:List Nat):Bool:=
 scope.kind == .function && scope.names.all (fun y=>y.2 != .cell && (y.2 != .local || scope.names.lookup y.1 == some .local) && (y.2 != .free || (scope.names.lookup y.1 == some .free && (sc.names.lookup y.1 == some .cell || sc.names.lookup y.1 == some .free)))) &&
  fv.all (fun y=>scope.names.lookup y == some .free) && ix.length == fv.length && (List.range fv.length).all fun j=>((ix[j]?).bind fun i=>N[i]?) == fv[j]?
theorem mq {X:Cx} {scope sc:Scope} {N own fv:List Str} {ix:List Nat} (hs:X.env.scope=sc) (hN:X.N=N) (h:Zxe sc N scope fv ix=true):nD X scope own fv ix:=by
 unfold Zxe at h
 simp only [YV,List.all_eq_true,beq_iff_eq,bne_iff_ne,Xz,ne_eq] at h
 obtain ⟨⟨⟨⟨h1,h2⟩,h3⟩,h4⟩,h5⟩:=h;refine ⟨h1,fun y hy=>(h2 y hy).1.1,fun y hy e=>((h2 y hy).1.2).resolve_left fun z=>z e,fun y hy e=>(((h2 y hy).2).resolve_left fun z=>z e).1,fun y hy e=>?_,h3,fun j y e=>?_,h4⟩
 ·have z:=(((h2 y hy).2).resolve_left fun z=>z e).2;unfold Env.kindOf;rw [hs];exact z
 ·have hj:j < fv.length:=(List.getElem?_eq_some_iff.mp e).1;have z:=h5 j (List.mem_range.mpr hj);rw [e] at z
  cases q:ix[j]? with
  | none=>rw [q] at z;cases z
  | some i=>
   rw [q] at z;exact ⟨i,rfl,by rw [hN];exact z⟩
theorem GB {names:List (Str×Yau)} {x:Str} {k:Yau} (h:names.lookup x=some k):(x,k)∈names:=by
 induction names with
 | nil=>simp at h
 | cons p r ih=>
  obtain ⟨n,k'⟩:=p;rw [Y5] at h
  cases e:x == n with
  | true=>
   rw [e] at h
   have:=eq_of_beq e
   cases h
   rw [this];exact YA
  | false=>
   rw [e] at h;exact Yr _ (ih h)
theorem Jg {scope:Scope} {env:Env}:∀ (names:List (Str×Yau)) (x:Str),
    (names.map fun (n,k)=>if (k == YG && env.scope.kind == .function && env.kindOf n == some .cell) then (n,Yao) else (n,k)).lookup x =
      (names.lookup x).map fun k=>if (k == YG && env.scope.kind == .function && env.kindOf x == some .cell) then Yao else k
  | [],_=>rfl
  | (n,k)::r,x=>by
    have ih:=Jg (scope:=scope) (env:=env) r x;show XO x ((if (k == YG && env.scope.kind == .function && env.kindOf n == some .cell)=true then (n,Yao) else (n,k))::_)=_
    cases e:x == n with
    | true=>
      have e':=eq_of_beq e;subst e'
      by_cases hc:(k == YG && env.scope.kind == .function && env.kindOf x == some .cell)=true
      · rw [if_pos hc,Y5,Y5,e]
        show some Yao=Option.map _ (some k);rw [Xe,if_pos hc]
      · rw [if_neg hc,Y5,Y5,e]
        show some k=Option.map _ (some k);rw [Xe,if_neg hc]
    | false=>
      by_cases hc:(k == YG && env.scope.kind == .function && env.kindOf n == some .cell)=true
      · rw [if_pos hc,Y5,Y5,e]
        exact ih
      · rw [if_neg hc,Y5,Y5,e]
        exact ih
theorem Gp (env:Env):∀ (names:List (Str×Yau)) (acc:List (Str×Addr)),
    (∀ y∈names,y.2=.free->∃ c,env.cells.lookup y.1=some c)->
    ∃ cl,(forIn names acc fun (x:Str×Yau) (cs:List (Str×Addr))=>(if (x.2 == YG)=true then do let c <- cellOf env x.1;pure (Wc ((x.1,c)::cs)) else pure (Wc cs):Sem (ForInStep (List (Str×Addr)))))=pure cl/\
      (∀ y c,(y,c)∈cl->(y,c)∈acc∨(env.cells.lookup y=some c/\(y,YG)∈names))/\
      (∀ y,(∃ c,(y,c)∈acc)∨(y,YG)∈names->∃ c,(y,c)∈cl)
  | [],acc,_=>⟨acc,rfl,fun y c h=>.inl h,fun y h=>h.elim (fun z=>z) fun z=>nomatch z⟩
  | (n,k)::r,acc,h=>by
    rw [Ybx]
    by_cases hk:k=.free
    · subst hk
      obtain ⟨c,hc⟩:=h (n,.free) YA rfl;obtain ⟨cl,e,h1,h2⟩:=Gp env r ((n,c)::acc) fun y hy=>h y (Yr _ hy);refine ⟨cl,?_,fun y c' hm=>?_,fun y hy=>h2 y ?_⟩
      · simp only [beq_self_eq_true,if_true]
        have:cellOf env n=pure c:=by unfold cellOf;rw [hc]
        rw [this,pure_bind,pure_bind];exact e
      · rcases h1 y c' hm with z | ⟨z1,z2⟩
        · rcases List.mem_cons.mp z with z | z
          · cases z
            exact .inr ⟨hc,YA⟩
          · exact .inl z
        · exact .inr ⟨z1,Yr _ z2⟩
      · rcases hy with ⟨c',z⟩ | z
        · exact .inl ⟨c',Yr _ z⟩
        · rcases List.mem_cons.mp z with z | z
          · cases z
            exact .inl ⟨c,YA⟩
          · exact .inr z
    · obtain ⟨cl,e,h1,h2⟩:=Gp env r acc fun y hy=>h y (Yr _ hy)
      have hb:(k == YG)=false:=by simpa using hk
      refine ⟨cl,?_,fun y c' hm=>?_,fun y hy=>h2 y ?_⟩
      · simp only [hb,YQ,if_false]
        rw [pure_bind];exact e
      · rcases h1 y c' hm with z | ⟨z1,z2⟩
        · exact .inl z
        · exact .inr ⟨z1,Yr _ z2⟩
      · rcases hy with z | z
        · exact .inl z
        · rcases List.mem_cons.mp z with z | z
          · cases z
            exact absurd rfl hk
          · exact .inr z
theorem ZlH {l:List (Str×Addr)} {x:Str} {c:Addr} (h:l.lookup x=some c):(x,c)∈l:=by
 induction l with
 | nil=>simp at h
 | cons p r ih=>
  obtain ⟨n,k'⟩:=p;rw [Y5] at h
  cases e:x == n with
  | true=>
   rw [e] at h
   have:=eq_of_beq e
   cases h
   rw [this];exact YA
  | false=>
   rw [e] at h;exact Yr _ (ih h)
theorem ZlA {l:List (Str×Addr)} {x:Str} {c:Addr} (h:(x,c)∈l):∃ c',l.lookup x=some c':=by
 induction l with
 | nil=>cases h
 | cons p r ih=>
  obtain ⟨n,k'⟩:=p;rw [Y5]
  cases e:x == n with
  | true=>exact ⟨k',rfl⟩
  | false=>
   rcases List.mem_cons.mp h with z | z
   ·cases z
    rw [beq_self_eq_true] at e
    cases e
   ·exact ih z
theorem Gq {scope:Scope} {env:Env} (h:∀ y∈scope.names,y.2=.free->∃ c,env.cells.lookup y.1=some c) :
  ∃ cl,closureFor scope env=pure cl/\(∀ y c,cl.lookup y=some c->env.cells.lookup y=some c/\(y,YG)∈scope.names)/\(∀ y,(y,YG)∈scope.names->∃ c,cl.lookup y=some c):=by
 obtain ⟨cl,e,h1,h2⟩:=Gp env scope.names [] h;refine ⟨cl,?_,fun y c hl=>?_,fun y hy=>?_⟩
 ·unfold closureFor;refine Eq.trans (b:=((forIn scope.names [] fun (x:Str×Yau) (cs:List (Str×Addr))=>(if (x.2 == YG)=true then do let c <- cellOf env x.1;pure (Wc ((x.1,c)::cs)) else pure (Wc cs):Sem (ForInStep (List (Str×Addr))))) >>= fun cs=>pure cs)) rfl ?_;rw [e];rfl
 ·rcases h1 y c (ZlH hl) with z | z
  ·cases z
  ·exact z
 ·obtain ⟨c,hc⟩:=h2 y (.inr hy);exact ZlA hc
def fL (X:Cx) (scope:Scope) (cl:List (Str×Addr)) (M:List Str) (fp:List Addr) (C:Addr) (s:Shared) (H:Hp):Cx where
 prog:=X.prog
 w:=X.w
 K:=X.K
 mg:=X.mg
 base:=X.base
 A:=X.A
 N:=M
 au:=s
 aN:=H
 env:=YaK scope cl C X.env
 outer:=X.stack
 stack:=X.stack
 ex:=fp
 fn:=fun y=>scope.names.lookup y == some .local
 calm:=X.calm
 pn:=[]
 xe:=fun _ _=>False
def Co (X:Cx) (ifs:List Expr) (t:TT):Prop:=
 ∀ (pins:List (Addr×Obj)) (s:Shared) (σ:St) (H:Hp) (Q:Bool->Hp->Prop),Inv X pins σ H s->t σ H Q->
  wpAny (model X.prog X.w) X.A (forIn ifs true fun c r=>if r=true then do let ok <- isTrue c X.env (eval c X.env);pure (Wc ok) else pure (Wc r)) (TP X pins σ Q) X.xe s
def yR:TT:=fun _ H Q=>Q true H
theorem vA {X:Cx}:Co X [] yR:=fun _ _ _ H _ I h=>wpAny_tests_nil ⟨H,I,h⟩
theorem ZxM {X:Cx} {c:Expr} {t:TT} (h:PT X c t):Co X [c] t:=by
 try unfold PE at *;try unfold PA at *
 exact fun pins s σ H Q I hw=>wpAny_tests_one (h pins s σ H Q I hw)
def ZyL (wi:TI) (k:Nat) (ix:List Nat) (g:TG) (tt:TT) (te:TE):TE:=fun σ H Q=>wi σ H fun J H1=>∀ D,H1 D=none->
 ∃ W:Nat->Nat->St->List V->Hp->Prop,(∃ m,W 0 m (List.replicate k none++ix.map fun i=>(σ[i]?).getD none) [] (upd H1 D (.lst [])))/\
  ∀ i m aC ys H',W i m aC ys H'->H' D=some (.lst ys)/\((J.stop i H'/\Q (.ref D) H')∨(J.go i H'/\ys.length < Ym/\
   ∀ x H2,J.kz i H' x H2->g x aC H2 fun bH H3=>tt bH H3 fun b H4=>
    if b=true then te bH H4 fun v H5=>H5 D=some (.lst ys)/\∃ m',m' < m/\W (i + 1) m' bH (ys++[v]) (upd H5 D (.lst (ys++[v])))
    else ∃ m',m' < m/\W (i + 1) m' bH ys H4))
section
variable {prog:Program} {w:World} {A:Around} {R:Result->Shared->Prop} {s:Shared}
theorem Zc5 {elt target iter:Expr} {ifs:List Expr} {scope:Scope} {pos:Pos} {it acc:Value} {env:Env} (I:Nat->Shared->Prop)
  (turn:∀ n s,I n s->wpAny (model prog w) A (W8 it) (fun r aD=>match r with
   | none=>R (.ok .next) aD
   | some v=>wpAny (model prog w) A (Yax target it v) (fun _ qG=>wpAny (model prog w) A (assign target env v) (fun _ fN=>
     wpAny (model prog w) A (forIn ifs true fun c r=>if r=true then do let ok <- isTrue c env (eval c env);pure (Wc ok) else pure (Wc r)) (fun ok kO=>
      if ok=true then wpAny (model prog w) A (eval elt env) (fun x yT=>
       wpAny (model prog w) A (call (.builtin "list.append") [acc,x]) (fun _ yS=>∃ m,m < n/\I m yS) (fun _ _=>False) yT) (fun _ _=>False) kO
      else ∃ m,m < n/\I m kO) (fun _ _=>False) fN) (fun _ _=>False) qG) (fun _ _=>False) aD) (fun _ _=>False) s)
  (n:Nat) (h:I n s) :
  Yas (model prog w) A (.compLoop (.ListComp elt [⟨target,iter,ifs,0⟩] scope pos) 0 it acc env) R s:=by
 refine codeAny_loop rfl I (fun n s hI=>?_) n h;show wpAny _ A ((compTurn (.ListComp elt [⟨target,iter,ifs,0⟩] scope pos) 0 it acc env).onRaise (fun x=>do noteFrame x env;theTreesLotGoes x)) _ _ s;refine wpAny_noted ?_;rw [compTurn_list];refine Ya (wpAny_standAt (Ya (Xd (turn n s hI) (fun r aD oY=>?_) fun _ _ z=>z.elim)))
 cases r with
 | none=>exact Yd oY
 | some v=>
  refine Ya (Xd oY (fun _ qG zO=>?_) fun _ _ z=>z.elim);refine Ya (Xd zO (fun _ fN mD=>Ya (Xd mD (fun ok kO oX=>?_) fun _ _ z=>z.elim)) fun _ _ z=>z.elim)
  cases ok with
  | false=>exact Yd ⟨rfl,oX⟩
  | true=>
   exact Ya (Ya (Xd oX (fun x yT Kt=>Ya (Xd Kt (fun _ yS Ks=>Yd (Yd ⟨rfl,Ks⟩)) fun _ _ z=>z.elim)) fun _ _ z=>z.elim))
end
section
variable {X:Cx} {pins:List (Addr×Obj)} {σ:St} {H H2:Hp} {s:Shared} {scope:Scope} {own fv:List Str} {ix:List Nat} {cl:List (Str×Addr)}
theorem nD.cells {own fv:List Str} (S:nD X scope own fv ix) (ok:X.Ok):∀ y∈scope.names,y.2=.free->∃ c,X.env.cells.lookup y.1=some c:=
 fun y hy e=>ok.has y.1 (S.outer y hy e)
theorem Zqq (S:nD X scope own fv ix) (ok:X.Ok) {x:Str} (h:(YaK scope cl C X.env).kindOf x=some .cell∨(YaK scope cl C X.env).kindOf x=some .free):(x,YG)∈scope.names:=by
 have e:(YaK scope cl C X.env).kindOf x=(scope.names.lookup x).map fun k=>if (k == YG && X.env.scope.kind == .function && X.env.kindOf x == some .cell) then Yao else k:=Jg (scope:=scope) _ _
 cases q:scope.names.lookup x with
 | none=>
  rw [e,q] at h;rcases h with h | h <;> cases h
 | some k=>
  have m:=GB q;rw [e,q] at h
  by_cases hk:k=.free
  ·subst hk;exact m
  ·have hb:(k == YG)=false:=by simpa using hk
   simp only [Xe,hb,Bool.false_and,YQ,if_false] at h
   rcases h with h | h
   ·cases h
    exact absurd rfl (S.jS _ m)
   ·cases h
    exact absurd rfl hk
theorem Zqr (S:nD X scope own fv ix) (ok:X.Ok) {x:Str} (h:(x,YG)∈scope.names):(YaK scope cl C X.env).kindOf x=some .cell∨(YaK scope cl C X.env).kindOf x=some .free:=by
 have e:(YaK scope cl C X.env).kindOf x=(scope.names.lookup x).map fun k=>if (k == YG && X.env.scope.kind == .function && X.env.kindOf x == some .cell) then Yao else k:=Jg (scope:=scope) _ _
 rw [e,S.once _ h rfl]
 by_cases hc:(YG == YG && X.env.scope.kind == .function && X.env.kindOf x == some .cell)=true
 ·left;simp only [Xe,hc,if_true]
 ·right;simp only [Xe,hc,if_false];rfl
theorem Zyh (S:nD X scope own fv ix) (I:Inv X pins σ H s) {fp:List Addr} (hf:∀ b∈fp,eD X pins H2 b) (bq:∀ b∈fp,b < s.heap.objs.size)
  (cE:∀ y c,cl.lookup y=some c->X.env.cells.lookup y=some c/\(y,YG)∈scope.names) (fR:∀ y,(y,YG)∈scope.names->∃ c,cl.lookup y=some c) :
  (fL X scope cl (own++fv) fp s.heap.objs.size s H).Ok where
 mod:=I.ok.mod
 kind:=S.kind
 glob:=I.ok.glob
 blt:=I.ok.blt
 above:=Ye _
 inj:=fun x y c h1 h2=>I.ok.inj x y c (cE x c h1).1 (cE y c h2).1
 has:=fun x h=>fR x (Zqq S I.ok h)
 ng:=fun x c h1 h2=>by
  have m:=(cE x c h2).2;have uX:(scope.names.lookup x == some .local)=true:=h1;rw [S.once _ m rfl] at uX
  cases uX
 hd:=I.ok.hd
 frames:=I.ok.frames
 pD:=.inl rfl
 uY:=fun b hb=>⟨Yu (bq b hb),fun x c e=>(hf b hb).2.2.2.2.1 x c (cE x c e).1⟩
 bs:=I.bs
 jB:=Yk I.ok.jB I.sz
 ig:=fun b o e hb=>by
  rcases (hf b hb).2.2.2.1 with z | z
  ·exact I.ok.ig b o e z
  ·exact absurd (Yq (Yj e) (Yk I.ok.jB z)) (YN _)
 gF:=fun b hb z=>by
  rcases List.mem_cons.mp (I.bV b z) with e | e
  ·exact (hf b hb).2.1 e
  ·exact (hf b hb).2.2.1 e
 bI:=I.stack
 kJ:=I.cq
theorem Zqd {σ:St} {i:Nat} {v:V} (h:(σ[i]?).getD none=some v):σ[i]?=some (some v):=by
 cases e:σ[i]? with
 | none=>rw [e] at h;cases h
 | some o=>rw [e] at h;exact congrArg some h
theorem Znp (S:nD X scope own fv ix) (I:Inv X pins σ H s) {fp:List Addr} (hf:∀ b∈fp,eD X pins H2 b) (bq:∀ b∈fp,b < s.heap.objs.size)
  (cE:∀ y c,cl.lookup y=some c->X.env.cells.lookup y=some c/\(y,YG)∈scope.names) (fR:∀ y,(y,YG)∈scope.names->∃ c,cl.lookup y=some c)
  {h1:Heap} {t1:Nat} {m:Str->Option Value} (kE:h1.Ns s.heap.objs.size m) (old:∀ b o,s.heap.get? b=some o->h1.get? b=some o) :
  Inv (fL X scope cl (own++fv) fp s.heap.objs.size s H) [] (List.replicate own.length none++ix.map fun i=>(σ[i]?).getD none) H {s with heap:=h1,toks:=t1}:=by
 refine ⟨Zyh S I hf bq cE fR,rfl,I.bare,Un.kept old,⟨m,kE,fun i x v e1 e2 e3=>?_⟩,fun x c e=>?_,I.aj.fresh (Ye _),fun x c e=>I.bf x c (cE x c e).1,fun p hp=>(nomatch hp),I.aj.kept old,?_⟩
 ·have DW:(own++fv)[i]?=some x:=e1
  by_cases hi:i < own.length
  ·rw [YaO (by rw [YM];exact hi),List.getElem?_replicate,if_pos hi] at e2
   cases e2
  ·have j0:own.length<=i:=Nat.not_lt.mp hi;rw [WL j0] at DW;rw [WL (by rw [YM];exact j0),YM,Yo] at e2;obtain ⟨j,hj,hN⟩:=S.slots _ x DW;rw [hj] at e2;have e2':σ[j]?=some (some v):=Zqd (YB e2);have eS:(x,YG)∈scope.names:=GB (S.um x (Yy DW));have xm:=S.outer _ eS rfl;obtain ⟨m0,rM,rN⟩:=I.loc;obtain ⟨u,r,l⟩:=rN j x v hN e2' (xm.elim (fun z=>.inr (.inl z)) fun z=>.inr (.inr z));refine ⟨u,r,.inr ⟨Zqr S I.ok eS,?_⟩⟩;rcases l with ⟨k,_⟩ | ⟨_,c,ec,z⟩
   ·have k':X.env.kindOf x=some .local:=k;rcases xm with q | q <;> (rw [q] at k';cases k')
   ·obtain ⟨c',kI⟩:=fR x eS;have xK:=(cE x c' kI).1;rw [ec] at xK
    cases xK
    obtain ⟨o,ho,hd⟩:=z;exact ⟨c,kI,o,old c o ho,hd⟩
 ·obtain ⟨v,o,ho,hd⟩:=I.cell x c (cE x c e).1;exact ⟨v,o,old c o ho,hd⟩
 ·show (List.replicate own.length none++ix.map fun i=>(σ[i]?).getD none:St).length=(own++fv).length;rw [Yf,Yf,YM,Yb,S.len]
theorem Zso {H':Hp} {aC:St} {s':Shared} {iX:Heap} {fp:List Addr} (I:Inv X pins σ H s) (hf:∀ b∈fp,eD X pins H2 b)
  (I':Inv (fL X scope cl (own++fv) fp s.heap.objs.size s H) [] aC H' s') (hs:Xx s.heap.objs.size s'.heap iX):Inv X pins σ H' {s' with heap:=iX}:=by
 have ne:∀ b o,s.heap.get? b=some o->b≠s.heap.objs.size:=fun b o e=>Yu (Yj e);have B:Un (bL X.stack) fp H H' s.heap s'.heap:=I'.base;refine I.qS (ch:=fp) (s':={s' with heap:=iX}) I'.os ⟨fun b o e n hb hx=>?_,fun b o e n hb hx=>?_,B.free,fun b o e hx=>?_,B.cG,B.bU,B.cj⟩ (fun b u e=>?_) I'.bare fun b hb=>⟨(hf b hb).2.2.2.1,(hf b hb).2.1,(hf b hb).2.2.2.2.1,(hf b hb).2.2.2.2.2⟩
 ·exact (hs.2 b (ne b o e)).trans (B.keep b o e n hb hx)
 ·obtain ⟨sl,e1⟩:=B.slot b o e n hb hx;exact ⟨sl,(hs.2 b (ne b o e)).trans e1⟩
 ·obtain ⟨o',e1⟩:=B.there b o e hx;exact ⟨o',(hs.2 b (ne b o e)).trans e1⟩
 ·have fr:H' s.heap.objs.size=none:=I'.free;refine (I'.aj b u e).c9 (fun c w' hc q=>(hs.2 c ?_).trans q) (fun _ q=>q) fun _ _ q=>q
  rintro rfl
  rcases hc with z | z
  ·rw [<- z,fr] at e;cases e
  ·rw [fr] at z;cases z
theorem vF {elt target iter:Expr} {ifs:List Expr} {pos:Pos} {wi:TI} {g:TG} {tt:TT} {te:TE} (S:nD X scope own fv ix) (hc:X.calm=true) (hi:PI X target iter wi)
  (hg:∀ cl fp C s H,PG (fL X scope cl (own++fv) fp C s H) target g) (ht:∀ cl fp C s H,Co (fL X scope cl (own++fv) fp C s H) ifs tt) (he:∀ cl fp C s H,PE (fL X scope cl (own++fv) fp C s H) elt te)
  (hs:∀ x,foldedSetIterable iter X.env x=pure x:=by intro _;rfl):PE X (.ListComp elt [⟨target,iter,ifs,0⟩] scope pos) (ZyL wi own.length ix g tt te):=by
 try unfold PE at *
 intro pins s σ H Q I h;rw [eval_ListComp];obtain ⟨cl,g0,cE,fR⟩:=Gq (scope:=scope) (env:=X.env) (S.cells I.ok);refine wpAny_comprehension_free (use:=none) rfl hs g0 S.kind S.names (aH (hi pins s σ H _ I h) fun v s1 h1=>aH h1 fun Am s2 h2=>?_);obtain ⟨it,fp,tn,J,H2,e,I2,T,jy,f2,hW⟩:=h2;subst e
 have jL:∀ b∈fp,b < s2.heap.objs.size:=fun b hb=>by
  obtain ⟨o,e,_⟩:=T.obj _ _ jy b hb;exact Yj e
 obtain ⟨W,⟨m0,w0⟩,turn⟩:=hW s2.heap.objs.size I2.fresh;have I3:Inv X pins σ (upd H2 s2.heap.objs.size (.lst [])) {s2 with heap:=s2.heap.push {cls:=.type "list",data:=.seq ([]:List Value).toArray}}:=I2.mC (t':=s2.toks) (its:=[]) .nil (Yv _);refine YF ?_;generalize w_:({s2 with heap:=s2.heap.push {cls:=.type "list",data:=.seq ([]:List Value).toArray}}:Shared)=s3 at I3;have tQ:s3.heap.objs.size=s2.heap.objs.size + 1:=by rw [<- w_];exact XN ..
 have Cw:∀ b o,s2.heap.get? b=some o->s3.heap.get? b=some o:=fun b o e=>by rw [<- w_];exact Yc _ e
 refine YbE (fun y hy=>S.jS y hy) (by intro y hy;simp at hy) (fun h4 tT tR=>?_) S.kind;have mz:∀ b o,s3.heap.get? b=some o->h4.get? b=some o:=fun b o e=>tR.extBut b o (Yu (Yj e)) (Yc _ e);have mF:∀ b∈fp,b < s3.heap.objs.size:=fun b hb=>by rw [tQ];exact Nat.lt_succ_of_lt (jL b hb)
 have I4:=Znp (t1:=s3.toks + ([]:List (Str×Value)).length) S I3 f2 mF cE fR tT mz;have wA:tn 0 h4:=T.keep _ _ _ jy fun b hb o e=>mz b o (Cw b o e);have DM:∀ b∈fp,(upd H2 s2.heap.objs.size (.lst [])) b=none:=fun b hb=>by rw [Zf (Yu (jL b hb))];exact (f2 b hb).1
 have fO:∀ {H':Hp},(∀ b∈fp,H' b=none)->∀ b∈fp,eD (fL X scope cl (own++fv) fp s3.heap.objs.size s3 (upd H2 s2.heap.objs.size (.lst []))) [] H' b:=fun hn b hb=>
  ⟨hn b hb,Yu (mF b hb),(I4.ok.gF b hb),.inl hb,fun x c e=>(f2 b hb).2.2.2.2.1 x c (cE x c e).1,fun p hp=>(nomatch hp)⟩
 have loop:Yas (model X.prog X.w) X.A (.compLoop (.ListComp elt [⟨target,iter,ifs,0⟩] scope pos) 0 (.ref it) (.ref s2.heap.objs.size) (YaK scope cl s3.heap.objs.size X.env))
   (compPost (model X.prog X.w) X.A X.xe none (EP X pins σ Q) (.ref s2.heap.objs.size) s3.heap.objs.size) {s3 with heap:=h4,toks:=s3.toks + ([]:List (Str×Value)).length}:=by
  refine Zc5 (fun n s'=>∃ i aC ys H',Inv (fL X scope cl (own++fv) fp s3.heap.objs.size s3 (upd H2 s2.heap.objs.size (.lst []))) [] aC H' s'/\tn i s'.heap/\(∀ b∈fp,H' b=none)/\W i n aC ys H') ?_ m0 ⟨0,_,[],_,I4,wA,DM,w0⟩
  rintro n s5 ⟨i,nL,ys,H5,I5,nQ,rZ,w5⟩
  obtain ⟨hD,next⟩:=turn i n nL ys H5 w5;rcases next with ⟨stop,q⟩ | ⟨go,C5,step⟩
  ·refine aH (T.done (fL X scope cl (own++fv) fp s3.heap.objs.size s3 (upd H2 s2.heap.objs.size (.lst []))) rfl rfl rfl hc i [] s5 nL H5 (fun _ _=>False) I5 (fO rZ) nQ stop) fun r s6 ⟨hr,I6⟩=>?_;subst hr;obtain ⟨m6,As,_⟩:=id I6.loc;exact ⟨m6,As,fun h7 hs7=>⟨.ref s2.heap.objs.size,H5,Zso I3 f2 I6 hs7,rfl,q⟩⟩
  ·refine aH (T.item (fL X scope cl (own++fv) fp s3.heap.objs.size s3 (upd H2 s2.heap.objs.size (.lst []))) rfl rfl rfl hc i [] s5 nL H5 (fun _ _=>False) I5 (fO rZ) nQ go) fun r s6 ⟨u,hr,h6⟩=>?_;subst hr;refine aH h6 fun _ s7 ⟨x,H7,I7,r7,y7,qW,DL⟩=>?_;have JM:=I7.pinned (fO DL) (T.obj _ _ qW);refine aH (hg _ _ _ _ _ _ s7 nL H7 x u _ JM r7 (step x H7 y7)) fun _ s8 ⟨jx,H8,I8,q8⟩=>?_;refine aH (ht _ _ _ _ _ _ s8 jx H8 _ I8 q8) fun b s9 ⟨H9,I9,q9⟩=>?_
   have again:∀ {iT:Shared} {ic:St} {ia:Hp} {nM:List V},Inv (fL X scope cl (own++fv) fp s3.heap.objs.size s3 (upd H2 s2.heap.objs.size (.lst []))) ([]++vv fp s7.heap) ic ia iT->(∃ m',m' < n/\W (i + 1) m' ic nM ia)->
     ∃ m,m < n/\∃ i aC ys H',Inv (fL X scope cl (own++fv) fp s3.heap.objs.size s3 (upd H2 s2.heap.objs.size (.lst []))) [] aC H' iT/\tn i iT.heap/\(∀ b∈fp,H' b=none)/\W i m aC ys H':=fun {iT ic ia nM} mx ⟨m',hm,Cv⟩=>by
    refine ⟨m',hm,i + 1,ic,nM,ia,mx.cO,T.keep _ _ _ qW fun b hb o e=>(mx.pin (b,o) (YL _ (YL _ (vW hb e)))).1,fun b hb=>?_,Cv⟩;obtain ⟨o,e,d⟩:=T.obj _ _ qW b hb;exact (mx.pin (b,o) (YL _ (YL _ (vW hb e)))).2.1
   cases b with
   | false=>
    rw [if_neg (by decide)] at q9;rw [if_neg (by decide)];exact again I9 q9
   | true=>
    rw [if_pos rfl] at q9;rw [if_pos rfl];refine aH (he _ _ _ _ _ _ s9 jx H9 _ I9 q9) fun u9 iT ⟨v9,ia,mx,CM,t_,CO⟩=>?_;refine aH (oP (X:=fL X scope cl (own++fv) fp s3.heap.objs.size s3 (upd H2 s2.heap.objs.size (.lst []))) _ iT jx ia (.ref s2.heap.objs.size) [v9] (.ref s2.heap.objs.size) [u9] (fun _ wo=>wo=upd ia s2.heap.objs.size (.lst (ys++[v9]))) mx rfl (.cons CM .nil) ⟨_,ys,v9,rfl,rfl,t_,C5,rfl⟩) fun _ wD ⟨_,wo,JN,_,CN⟩=>?_;subst CN;exact again JN CO
 exact codeAny_compStart_list loop (T.self _ _ _ _ _ wA loop)
end
theorem Znq {n:Nat} {lo:Int} (te:TE) {σ:St} {ix:List Nat} {H1:Hp} {D:Addr} {Q:Hp->Prop} (Pv:Nat->List V->Hp->Prop) (h0:Pv 0 [] (upd H1 D (.lst []))) (hn:n<=Ym)
  (bO:∀ i ys H',Pv i ys H'->H' D=some (.lst ys)/\ys.length<=i)
  (hs:∀ i ys H' (N:VK),i < n->Pv i ys H'->(∀ v H5,H5 D=some (.lst ys)->Pv (i + 1) (ys++[v]) (upd H5 D (.lst (ys++[v])))->N v H5)->te (some (.int (lo + (i:Nat)))::ix.map fun i=>(σ[i]?).getD none) H' N)
  (hd:∀ ys H',Pv n ys H'->Q H') :
  ∃ W:Nat->Nat->St->List V->Hp->Prop,(∃ m,W 0 m (List.replicate 1 none++ix.map fun i=>(σ[i]?).getD none) [] (upd H1 D (.lst [])))/\
   ∀ i m aC ys H',W i m aC ys H'->H' D=some (.lst ys)/\(((mw lo n).stop i H'/\Q H')∨((mw lo n).go i H'/\ys.length < Ym/\
    ∀ x H2,(mw lo n).kz i H' x H2->u7 0 x aC H2 fun bH H3=>yR bH H3 fun b H4=>
     if b=true then te bH H4 fun v H5=>H5 D=some (.lst ys)/\∃ m',m' < m/\W (i + 1) m' bH (ys++[v]) (upd H5 D (.lst (ys++[v])))
     else ∃ m',m' < m/\W (i + 1) m' bH ys H4)):=by
 refine ⟨fun i m aC ys H'=>i<=n/\m=n - i/\(∃ o,aC=o::ix.map fun i=>(σ[i]?).getD none)/\Pv i ys H',⟨n,Yv _,rfl,⟨none,rfl⟩,h0⟩,?_⟩
 rintro i m aC ys H' ⟨hi,rfl,⟨o,rfl⟩,P⟩
 obtain ⟨a1,a2⟩:=bO i ys H' P;refine ⟨a1,?_⟩
 by_cases bq:i < n
 ·refine .inr ⟨bq,by omega,fun x H2 hy=>?_⟩;obtain ⟨rfl,rfl⟩:=hy;exact hs i ys H2 _ bq P fun v H5 h1 h2=>⟨h1,n - (i + 1),by omega,bq,rfl,⟨_,rfl⟩,h2⟩
 ·have e:i=n:=by omega
  subst e;exact .inl ⟨Ye _,hd ys H' P⟩
end L2
namespace L2
open PySem PySem.Spec PyProof.Rows
section
variable {P:Program} {w:World} {H H':Hp} {h h':Heap} {a:Addr} {o:HO}
theorem bT.there (x:bT P w H h a o):∃ ob,h.get? a=some ob:=by
 cases o with
 | lst xs=>obtain ⟨_,_,_,_,e⟩:=x;exact ⟨_,e⟩
 | tup xs=>obtain ⟨_,_,_,o,e,_⟩:=x;exact ⟨_,e⟩
 | dK kvs=>obtain ⟨_,_,_,_,o,_,_,e,_⟩:=x;exact ⟨_,e⟩
 | dT kvs=>obtain ⟨_,_,_,_,o,_,_,e,_⟩:=x;exact ⟨_,e⟩
 | set S n=>obtain ⟨o,_,_,_,e,_⟩:=x;exact ⟨_,e⟩
 | ins C dx fs=>obtain ⟨_,_,_,e,_⟩:=x;exact ⟨_,e⟩
 | own y=>obtain ⟨_,e⟩:=x;exact ⟨_,e⟩
 | xd fs=>obtain ⟨_,⟨_,_,_,e,_⟩,_⟩:=x;exact ⟨_,e⟩
 | nR lo hi=>obtain ⟨_,_,_,e⟩:=x;exact ⟨_,e⟩
 | bt ob u=>obtain ⟨e,_⟩:=x;exact ⟨_,e⟩
 | cM ps=>exact ⟨_,(show h.get? a=some _ from x)⟩
 | met f y=>exact ⟨_,(show h.get? a=some _ from x)⟩
 | ext φ=>obtain ⟨_,⟨_,e⟩,_⟩:=x;exact ⟨_,e⟩
theorem cC.absent (x:cC P w H h) (e:h.get? a=none):H a=none:=by
 cases q:H a with
 | none=>rfl
 | some u=>
  obtain ⟨ob,z⟩:=(x a u q).there;rw [e] at z
  cases z
theorem cC.hidden (x:cC P w H h) {as:List Addr} (hf:∀ b∈as,H b=none):cC P w H (Ybr h as):=fun a o e=>
 (x a o e).c9 (fun b u hb q=>YbM _ q fun hm=>by
  have z:=hf b hm;rcases hb with rfl | hb
  ·rw [z] at e;cases e
  ·rw [z] at hb;cases hb) (fun _ q=>q) fun _ _ q=>q
end
abbrev Cx.gv (X:Cx) (A:Around):Cx:={X with A:=A,calm:=false}
theorem Cx.Ok.gv {X:Cx} (ok:X.Ok) {A:Around} (hf:A.frames=X.A.frames):(X.gv A).Ok:=
 ⟨ok.mod,ok.kind,ok.glob,ok.blt,ok.above,ok.inj,ok.has,ok.ng,fun z=>(nomatch z),hf.trans ok.frames,ok.pD,ok.uY,ok.bs,ok.jB,ok.ig,ok.gF,ok.bI,ok.kJ⟩
abbrev Cx.fc (X:Cx) (pn:List (Addr×Obj)) (E:Value->Shared->Prop):Cx:={X with pn:=pn,xe:=E}
theorem Cx.Ok.fc {X:Cx} (ok:X.Ok) (pn:List (Addr×Obj)) (E:Value->Shared->Prop):(X.fc pn E).Ok:=
 ⟨ok.mod,ok.kind,ok.glob,ok.blt,ok.above,ok.inj,ok.has,ok.ng,ok.hd,ok.frames,ok.pD,ok.uY,ok.bs,ok.jB,ok.ig,ok.gF,ok.bI,ok.kJ⟩
theorem Cx.Ok.cp {X:Cx} {pn:List (Addr×Obj)} {E:Value->Shared->Prop} (ok:(X.fc pn E).Ok):X.Ok:=
 ⟨ok.mod,ok.kind,ok.glob,ok.blt,ok.above,ok.inj,ok.has,ok.ng,ok.hd,ok.frames,ok.pD,ok.uY,ok.bs,ok.jB,ok.ig,ok.gF,ok.bI,ok.kJ⟩
section
variable {X:Cx} {pins kq:List (Addr×Obj)} {σ:St} {H:Hp} {s:Shared} {A:Around} {E:Value->Shared->Prop}
theorem Inv.gv (I:Inv X pins σ H s) (hf:A.frames=X.A.frames):Inv (X.gv A) pins σ H s:=⟨I.ok.gv hf,I.os,I.bare,I.base,I.loc,I.cell,I.free,I.bf,I.pin,I.aj,I.len⟩
theorem Inv.jP (I:Inv (X.gv A) pins σ H s) (ok:X.Ok):Inv X pins σ H s:=⟨ok,I.os,I.bare,I.base,I.loc,I.cell,I.free,I.bf,I.pin,I.aj,I.len⟩
theorem Inv.fc (I:Inv X pins σ H s) (E:Value->Shared->Prop):Inv (X.fc (X.pn++pins) E) [] σ H s:=
 ⟨I.ok.fc _ _,I.os,I.bare,I.base,I.loc,I.cell,I.free,I.bf,fun p hp=>I.pin p (by rwa [Xf] at hp),I.aj,I.len⟩
theorem Inv.cp (I:Inv (X.fc (X.pn++pins) E) kq σ H s):Inv X pins σ H s:=
 ⟨I.ok.cp,I.os,I.bare,I.base,I.loc,I.cell,I.free,I.bf,fun p hp=>I.pin p (YbG _ hp),I.aj,I.len⟩
theorem SP.cp {D:Ends} {f:Flow} {s':Shared} (h:SP (X.fc (X.pn++pins) E) [] D f s'):SP X pins D f s':=by
 cases f with
 | next=>obtain ⟨aC,H',I,q⟩:=h;exact ⟨aC,H',I.cp,q⟩
 | brk=>obtain ⟨aC,H',I,q⟩:=h;exact ⟨aC,H',I.cp,q⟩
 | cont=>obtain ⟨aC,H',I,q⟩:=h;exact ⟨aC,H',I.cp,q⟩
 | ret u=>obtain ⟨v,aC,H',I,r,q⟩:=h;exact ⟨v,aC,H',I.cp,r,q⟩
end
structure D6 (P:Program) (w:World) (outer:List Env) (H H':Hp) (s:Shared) (e:Addr) (cls:Value) (s':Shared):Prop where
 os:s'.os=s.os
 bare:AllBare s'.gens
 un:Un (bL outer) [] H H' s.heap s'.heap
 ex:∃ B a0,Heap.FlyingW B outer e cls a0 s'.heap/\cC P w H' B/\(∀ b o,s.heap.get? b=some o->H b=none->b ∉ bL outer->B.get? b=some o)/\(∀ b o,s.heap.get? b=some o->b ∉ bL outer->∃ o',B.get? b=some o')
def aA (P:Program) (w:World):iS:=fun outer H s E e s'=>∃ (a:Addr) (cls:Value) (H':Hp),e=.ref a/\D6 P w outer H H' s a cls s'/\E cls none H'
section
variable {X:Cx} {pins:List (Addr×Obj)} {σ:St} {H:Hp} {s:Shared}
theorem Fg (I:Inv X pins σ H s) (hex:X.ex=[]) {H':Hp} {iX:Heap}
  (kB:∀ b o,s.heap.get? b=some o->H b=none->b ∉ bL X.stack->iX.get? b=some o)
  (tB:∀ b o,s.heap.get? b=some o->b ∉ bL X.stack->∃ o',iX.get? b=some o')
  (sl:∀ b o,b∈X.fs->s.heap.get? b=some o->∃ sl,iX.get? b=some {o with slots:=sl})
  (fr:∀ b o,s.heap.get? b=some o->H b=none->H' b=none)
  (cG:∀ b xs,H b=some (.tup xs)->H' b=some (.tup xs)) (bU:∀ b o u,H b=some (.bt o u)->H' b=some (.bt o u)) (cj:∀ b ps,H b=some (.cM ps)->∃ more,H' b=some (.cM (ps++more))) :
  Un X.fs [] X.aN H' X.au.heap iX:=by
 have nx:∀ b:Addr,b ∉ X.ex:=fun b z=>by rw [hex] at z;cases z
 have ll:∀ b o,X.au.heap.get? b=some o->b ∉ X.fs->b ∉ bL X.stack:=fun b o e hb z=>by
  rcases List.mem_cons.mp (I.bV b z) with q | q
  ·have:=Yj e
   rw [q] at this;exact absurd (Yq this I.ok.above) (YN _)
  ·exact hb q
 refine ⟨fun b o e n hb _=>kB b o (I.base.keep b o e n hb (nx b)) (I.base.free b o e n (nx b)) (ll b o e hb),fun b o e n hb _=>?_,fun b o e n _=>?_,fun b o e _=>?_,fun b xs e=>cG b xs (I.base.cG b xs e),fun b o u e=>bU b o u (I.base.bU b o u e),fun b ps e=>?_⟩
 ·obtain ⟨wB,e1⟩:=I.base.slot b o e n hb (nx b);obtain ⟨jz,e2⟩:=sl b _ hb e1;exact ⟨jz,e2⟩
 ·obtain ⟨o',e1⟩:=I.base.there b o e (nx b);exact fr b o' e1 (I.base.free b o e n (nx b))
 ·obtain ⟨o',e1⟩:=I.base.there b o e (nx b)
  by_cases hb:b∈X.fs
  ·obtain ⟨jz,e2⟩:=sl b _ hb e1;exact ⟨_,e2⟩
  ·exact tB b o' e1 (ll b o e hb)
 ·obtain ⟨m1,e1⟩:=I.base.cj b ps e;obtain ⟨m2,e2⟩:=cj b _ e1;exact ⟨m1++m2,by rw [e2,Array.append_assoc]⟩
end
section
variable {P:Program} {w:World} {K:Yg} {mg:Str->Option Value} {base:Heap} {N:List Str} {qual:Str} {scope:Scope} {f:Addr} {cd:Value} {A:Around} {outer:List Env} {au:Shared} {aN:Hp} {E:XK}
theorem Zs3 {pins:List (Addr×Obj)} {σ:St} {H:Hp} {s:Shared} {h':Heap} {e C:Addr} {vs:List Value}
  (I:Inv (aZ (aA P w) P w K mg base N qual scope f cd A outer au aN E) pins σ H s) (hx:Heap.MadeExcOf s.heap h' e (.ref C) vs) (hE:E (.ref C) none H) :
  (aZ (aA P w) P w K mg base N qual scope f cd A outer au aN E).xe (.ref e) {s with heap:=h'}:=by
 have eS:∀ b∈bL (aZ (aA P w) P w K mg base N qual scope f cd A outer au aN E).stack,H b=none:=I.cq;have Dp:∀ env∈(aZ (aA P w) P w K mg base N qual scope f cd A outer au aN E).stack,∀ b,env.frame=some b->b∈bL (aZ (aA P w) P w K mg base N qual scope f cd A outer au aN E).stack:=fun env he b hb=>List.mem_filterMap.mpr ⟨env,he,hb⟩;have hB:∀ b o,s.heap.get? b=some o->b ∉ bL (aZ (aA P w) P w K mg base N qual scope f cd A outer au aN E).stack->(Ybr s.heap (bL (aZ (aA P w) P w K mg base N qual scope f cd A outer au aN E).stack)).get? b=some o:=fun b o q hb=>YbM _ q hb;show wpAny (model P w) (A.deeper (WO qual scope au.heap.objs.size f cd)) (leaving (WO qual scope au.heap.objs.size f cd) (.ref e)) (fun _ g5=>aA P w outer aN au E (.ref e) g5) (fun e' g5=>aA P w outer aN au E e' g5) {s with heap:=h'};refine wpAny_leaves_madeW (s:={s with heap:=h'}) (base:=Ybr s.heap (bL (aZ (aA P w) P w K mg base N qual scope f cd A outer au aN E).stack)) (h:=s.heap) (L:=au.heap.objs.size) (outer:=outer) I.ok.frames rfl (fun b o q=>PySem.W.of_hideAll _ q) (PySem.W.funFrames_hide I.stack Dp) hx fun iX t x1 x2 x3 x4=>?_;have x4':h'.UpToSlots iX:=x4
 have slots:∀ b o,b∈bL outer->s.heap.get? b=some o->∃ sl,iX.get? b=some {o with slots:=sl}:=fun b o hb q=>by
  obtain ⟨_,o',dP,nZ⟩:=I.bI.mem hb;rw [q] at dP
  cases dP
  exact x4' b o (hx.keeps b o q) nZ
 refine ⟨e,.ref C,H,rfl,⟨I.os,I.bare,Fg I rfl (fun b o q _ hb=>x1.1 b o (hB b o q hb)) (fun b o q hb=>⟨o,x1.1 b o (hB b o q hb)⟩) slots (fun _ _ _ n=>n) (fun _ _ z=>z) (fun _ _ _ z=>z) (fun b ps z=>⟨#[],by rw [z];simp⟩),_,_,x1,I.aj.hidden eS,fun b o q n hb=>?_,fun b o q hb=>?_⟩,hE⟩
 ·have cN:b ∉ bL (aZ (aA P w) P w K mg base N qual scope f cd A outer au aN E).stack:=fun z=>by
   rcases List.mem_cons.mp (I.bV b z) with q1 | q1
   ·have:=Yj q
    rw [q1] at this;exact absurd (Yq this I.ok.above) (YN _)
   ·exact hb q1
  exact hB b o (I.base.keep b o q n hb (fun z=>nomatch z)) cN
 ·obtain ⟨o',e1⟩:=I.base.there b o q (fun z=>nomatch z)
  have cN:b ∉ bL (aZ (aA P w) P w K mg base N qual scope f cd A outer au aN E).stack:=fun z=>by
   rcases List.mem_cons.mp (I.bV b z) with q1 | q1
   ·have:=Yj q
    rw [q1] at this;exact absurd (Yq this I.ok.above) (YN _)
   ·exact hb q1
  exact ⟨o',hB b o' e1 cN⟩
theorem Zc:j_ (aA P w) (aZ (aA P w) P w K mg base N qual scope f cd A outer au aN E) (fun _=>E):=by
 rintro pins σ H s e s' I ⟨a,cls,H',rfl,fl,hE⟩
 obtain ⟨B,a0,dg,aj,kB,tB⟩:=fl.ex;show wpAny (model P w) (A.deeper (WO qual scope au.heap.objs.size f cd)) (leaving (WO qual scope au.heap.objs.size f cd) (.ref a)) (fun _ g5=>aA P w outer aN au E (.ref a) g5) (fun e' g5=>aA P w outer aN au E e' g5) s';refine wpAny_leaves_onW (L:=au.heap.objs.size) (outer:=outer) I.ok.frames rfl dg fun iX x1 x2=>?_
 have sub:∀ b∈bL outer,b∈bL (aZ (aA P w) P w K mg base N qual scope f cd A outer au aN E).stack:=fun b hb=>by
  show b∈List.filterMap (·.frame) (_::outer);rw [Xw];exact Yr _ hb
 have slots:∀ b o,b∈bL outer->s.heap.get? b=some o->∃ sl,iX.get? b=some {o with slots:=sl}:=fun b o hb q=>by
  obtain ⟨_,o',dP,nZ⟩:=I.bI.mem hb;rw [q] at dP
  cases dP
  obtain ⟨sl,e1⟩:=fl.un.slot b o q (I.cq b (sub b hb)) (sub b hb) (fun z=>nomatch z);obtain ⟨jz,e2⟩:=x2 b _ e1 nZ;exact ⟨jz,e2⟩
 have ll:∀ b o,au.heap.get? b=some o->b ∉ bL outer->b ∉ bL (aZ (aA P w) P w K mg base N qual scope f cd A outer au aN E).stack:=fun b o q hb z=>by
  rcases List.mem_cons.mp (I.bV b z) with q1 | q1
  ·have:=Yj q
   rw [q1] at this;exact absurd (Yq this I.ok.above) (YN _)
  ·exact hb q1
 refine ⟨a,cls,H',rfl,⟨fl.os.trans I.os,fl.bare,Fg I rfl (fun b o q n hb=>x1.1 b o (kB b o q n hb)) (fun b o q hb=>?_) slots (fun b o q n=>fl.un.free b o q n (fun z=>nomatch z)) fl.un.cG fl.un.bU fl.un.cj,B,a0,x1,aj,fun b o q n hb=>?_,fun b o q hb=>?_⟩,hE⟩
 ·obtain ⟨o',e1⟩:=tB b o q hb;exact ⟨o',x1.1 b o' e1⟩
 ·exact kB b o (I.base.keep b o q n hb (fun z=>nomatch z)) (I.base.free b o q n (fun z=>nomatch z)) (ll b o q hb)
 ·obtain ⟨o',e1⟩:=I.base.there b o q (fun z=>nomatch z);exact tB b o' e1 (ll b o q hb)
end
structure Ze2 (K:Yg) (C:Addr):Prop where
 exc:PySem.W.excIn K C [.type "ValueError",.type "Exception",.type "BaseException",.type "object"] "ValueError.__new__"=true
theorem ZzA {K:Yg} {C:Addr} {bmB:List Value} {newId:String} (q:PySem.W.excIn K C bmB newId=true) :
  ∃ bm N nm qn bs hdct sn sub ab col dd k0 k1 k2 k3 k5,K.lookup C=some (excClassObj nm qn C N bs bm hdct sn sub ab col dd k0 k1 k2 k3 k5 newId)/\PySem.W.nsOkIn K N=true/\Ybo K N "__init__"=some none/\PySem.W.tailIn K bmB bm=true:=by
 unfold PySem.W.excIn at q
 split at q
 ·rename_i dd cd sl ho
  split at q
  ·rename_i C' bm k0 k1 k2 k3 n k5 hm hs
   simp only [YV,beq_iff_eq,Bool.not_eq_true'] at q
   obtain ⟨⟨⟨⟨⟨rfl,rfl⟩,zv⟩,ht⟩,aj⟩,Ar⟩:=q;obtain ⟨nm,bs,mro,ns,qn,hd,sn,sub,ab,col,del⟩:=cd;dsimp only at hm zv aj Ar;subst hm zv
   have rE:sl=#[k0,k1,k2,k3,some (.builtin n),k5]:=by
    obtain ⟨l⟩:=sl
    simp only at hs
    rw [hs]
   subst rE;exact ⟨bm,ns,nm,qn,bs,hd,sn,sub,ab,col,dd,k0,k1,k2,k3,k5,ho,aj,Ar,ht⟩
  ·cases q
 ·cases q
theorem Zq9 {K:Yg} {N:Addr} (q:PySem.W.nsOkIn K N=true):∃ o,K.lookup N=some o:=by
 unfold PySem.W.nsOkIn at q
 split at q
 ·rename_i ho
  exact ⟨_,ho⟩
 ·cases q
def ZyE (E:XK) (C:Addr) (t:TA):TS:=fun _ σ H=>t σ H fun vs H1=>vs.length<=Ym/\E (.ref C) none H1
section
variable {P:Program} {w:World} {K:Yg} {mg:Str->Option Value} {base:Heap} {N:List Str} {qual:Str} {scope:Scope} {f:Addr} {cd:Value} {A:Around} {outer:List Env} {au:Shared} {aN:Hp} {E:XK}
theorem Z2 {x:Str} {C:Addr} {pk:Expr} {rest:List Expr} {t:TA} {np aU pos:Pos} (hC:Ze2 K C) (hg:Gl (aZ (aA P w) P w K mg base N qual scope f cd A outer au aN E) x) (hm:mg x=some (.ref C))
  (ha:PA (aZ (aA P w) P w K mg base N qual scope f cd A outer au aN E) (pk::rest) t)
  (he:Yx (pk::rest) (aZ (aA P w) P w K mg base N qual scope f cd A outer au aN E).env=(false,eval pk (aZ (aA P w) P w K mg base N qual scope f cd A outer au aN E).env)::Yx rest (aZ (aA P w) P w K mg base N qual scope f cd A outer au aN E).env:=by rfl)
  (fW:(Wi aU (Yx rest (aZ (aA P w) P w K mg base N qual scope f cd A outer au aN E).env)).any (·.1)=false:=by rfl) (hd:(x == ("__debug__":Str))=false:=by decide) :
  PS (aZ (aA P w) P w K mg base N qual scope f cd A outer au aN E) (.Raise (some (.Call (.Name x np) (pk::rest) [] aU)) none pos) (ZyE E C t):=by
 try unfold PA at *;try unfold PS at *
 intro pins s σ H D I h;obtain ⟨bm,N',nm,q,bs,hdct,sn,sub,ab,col,dd,k0,k1,k2,k3,k5,lk,aj,Ar,ht⟩:=ZzA hC.exc;obtain ⟨oN,lkN⟩:=Zq9 aj;have hN:s.heap.Ns N' (s.heap.nsMap N'):=.of_isNs (PySem.W.isNs_of_in I.cf aj)
 refine wpAny_Raise_call_subT (C:=C) (nm:=nm) (q:=q) (N:=N') (bs:=bs) (bm:=bm) (hdct:=hdct) (sn:=sn) (sub:=sub) (ab:=ab) (col:=col) (dd:=dd) (k0:=k0) (k1:=k1) (k2:=k2) (k3:=k3) (k5:=k5)
  PySem.F.excBase_ValueError (mN:=s.heap.nsMap N') ((PySem.W.tail_of_in I.cf ht).hasType PySem.F.excBase_ValueError.hasBase) (I.ok.hd rfl) (by rw [he];show (false || (Wi aU (Yx rest _)).any (·.1))=false;rw [fW];rfl) (PySem.W.nsMap_none_of_in I.cf aj Ar) (qi I hg hm ⟨rfl,?_⟩ hd)
 have z:=ha aU pins s σ H _ I h;rw [he] at z ⊢;refine Wg (aH z fun us s1 ⟨vs,H1,I1,r,hv,q1⟩=>⟨rfl,(by rw [<- r.length];exact hv),I1.cf _ _ lk,hN.at' fun o e=>?_,PySem.W.tail_of_in I1.cf ht,fun h' e hx=>Zs3 I1 hx q1⟩);have e2:=I.cf _ _ lkN;rw [e] at e2
 cases e2
 exact I1.cf _ _ lkN
end
end L2
namespace L2
open PySem PySem.Spec PyProof.Rows PySem.W
def jC (a:Addr) (cls:Value) (h:Heap):Prop:=∃ oe vs,h.get? a=some oe/\oe.cls=cls/\oe.data=.fields vs
def ux (a:Addr) (cls:Value):HO:=.ext (jC a cls)
theorem jC.at {a:Addr} {cls:Value} {h h':Heap} (x:jC a cls h) (k:∀ o,h.get? a=some o->h'.get? a=some o):jC a cls h':=by
 obtain ⟨oe,vs,e,r⟩:=x;exact ⟨oe,vs,k oe e,r⟩
theorem Inv.exc {X:Cx} {pins:List (Addr×Obj)} {σ:St} {H:Hp} {s:Shared} {a:Addr} {cls:Value} (I:Inv X pins σ H s) (e:H a=some (ux a cls)):jC a cls s.heap:=(I.aj a _ e).1
theorem Inv.zJ {X:Cx} {pins:List (Addr×Obj)} {σ:St} {H:Hp} {s:Shared} {a:Addr} {o:HO} (I:Inv X pins σ H s) (hn:H a=none) (new:bT X.prog X.w (upd H a o) s.heap a o)
  (h0:∀ b u,X.au.heap.get? b=some u->X.aN b=none->b ∉ X.ex->b≠a) (hL:X.env.locals≠a) (hc:∀ x c,X.env.cells.lookup x=some c->c≠a) (hp:∀ p∈X.pn++pins,p.1≠a):Inv X pins σ (upd H a o) s:=by
 refine ⟨I.ok,I.os,I.bare,⟨I.base.keep,I.base.slot,fun b u e n hx=>?_,I.base.there,fun b xs e=>?_,fun b u v e=>?_,fun b ps e=>?_⟩,I.loc,I.cell,?_,fun x c e=>?_,fun p z=>?_,fun b u e=>?_,I.len⟩
 ·rw [Zf (h0 b u e n hx)];exact I.base.free b u e n hx
 ·have z:=I.base.cG b xs e;rw [Zf (Zg z hn)];exact z
 ·have z:=I.base.bU b u v e;rw [Zf (Zg z hn)];exact z
 ·obtain ⟨more,z⟩:=I.base.cj b ps e;exact ⟨more,by rw [Zf (Zg z hn)];exact z⟩
 ·rw [Zf hL];exact I.free
 ·rw [Zf (hc x c e)];exact I.bf x c e
 ·obtain ⟨z1,z2,z3⟩:=I.pin p z;exact ⟨z1,by rw [Zf (hp p z)];exact z2,z3⟩
 ·by_cases hb:b=a
  ·subst hb;rw [Zb] at e
   cases e
   exact new
  ·rw [Zf hb] at e;exact (I.aj b u e).c9 (fun _ _ _ q=>q) (fun c q=>by rw [Zf (Zg q hn)];exact q) fun c xs q=>by rw [Zf (Zg q hn)];exact q
structure ZoW (K:Frag) (D:Addr):Prop where
 ty:typeIn K (.ref D)=some (.type "type")
 cl:(clsIn K D).isSome=true
 ba:subIn K (.ref D) (.type "BaseException")=some true
theorem Zj1 {K:Frag} {M:Model} {h:Heap} {D:Addr} (X:K.In h) (hc:(clsIn K D).isSome=true):Looks M h (isType (.ref D)) true:=by
 unfold clsIn at hc
 split at hc
 ·rename_i c' d' cd' CJ ho
  intro A' Q' E' s' k q;unfold isType loadHead;exact Ya (wpAny_loadPart (k _ _ (X _ _ ho)) (Yd q))
 ·cases hc
theorem wc {M:Model} {h:Heap} {a:Addr} {cls:Value} (x:jC a cls h):Looks M h (typeOf (.ref a)) cls:=by
 obtain ⟨oe,vs,e,hc,_⟩:=x;exact hc ▸ (Looks.ld e).andThen .now
theorem Zqj {M:Model} {A:Around} {E:Value->Shared->Prop} {s:Shared} {Q:Bool->Shared->Prop} {K:Frag} {e C D:Addr} {b:Bool} (X:K.In s.heap) (he:jC e (.ref C) s.heap) (hD:ZoW K D) (hs:subIn K (.ref C) (.ref D)=some b) (h:Q b s) :
  wpAny M A (excMatches (.ref e) (.ref D)) Q E s:=by
 obtain ⟨h0,g,d,tt,os⟩:=s;have L1:Looks M h0 (isInstance (.ref D) (.type "tuple")) false:=(looks_typeIn X hD.ty).andThen (Looks.of_pure tc_notTuple);have L2:=Zj1 (M:=M) X hD.cl;have L3:=looks_subIn (M:=M) X hD.ba;have L4:=wc (M:=M) he;have L5:=looks_subIn (M:=M) X hs;unfold excMatches;refine Ya (L1.at ?_)
 simp only [YQ,if_false]
 refine Ya (Yd ?_)
 simp only [Ybx,List.forIn_nil]
 unfold isExcClass;refine Ya (Ya (Ya (Ya (L2.at ?_))))
 simp only [if_true]
 refine L3.at ?_
 simp only [Bool.not_true,YQ,if_false]
 refine Yd (Yd ?_);refine Ya (L4.at ?_);refine Ya (Ya (Ya (L5.at ?_)))
 cases b with
 | true=>
  simp only [if_true]
  exact Yd (Yd (Yd h))
 | false=>
  simp only [YQ,if_false]
  exact Yd (Yd (Yd h))
theorem ZuY {X:Cx} {pins:List (Addr×Obj)} {σ:St} {H:Hp} {s:Shared} {M:Model} {A:Around} {E:Value->Shared->Prop} {i:Nat} {n:Str} {pos:Pos} {Q:Unit->Shared->Prop} (I:Inv X pins σ H s) (hN:X.N.Nodup) (hi:X.N[i]?=some n)
  (hl:X.env.scope.names.lookup n=some .local) (h:∀ s',Inv X pins (σ.set i none) H s'->Q () s'):wpAny M A (do bindName X.env n .none;unbindBehindTheSuite X.env n pos) Q E s:=by
 obtain ⟨m,hn,KN⟩:=id I.loc;have tZ:(X.env.scope.kind == .class || (X.env.scope.kind == .module && X.env.locals != X.env.globals))=false:=by rw [I.ok.kind];rfl
 refine wpAny_nameGoes_keeps hl hn tZ fun h' v uM hs=>?_;obtain ⟨oL,_,_,hoL,_⟩:=id hn;have uC:∀ b o,X.au.heap.get? b=some o->b≠X.env.locals:=fun b o e=>Yu (Yq (Yj e) I.ok.above);refine h _ ⟨I.ok,I.os,I.bare,⟨fun b o e n hb hx=>(hs.2 b (uC b o e)).trans (I.base.keep b o e n hb hx),fun b o e n hb hx=>?_,I.base.free,fun b o e hx=>?_,I.base.cG,I.base.bU,I.base.cj⟩,⟨_,uM,fun j y v' e1 e2 e3=>?_⟩,fun y c e=>?_,I.free,I.bf,fun p hp=>?_,fun b ob e=>?_,by simpa using I.len⟩
 ·obtain ⟨sl,e1⟩:=I.base.slot b o e n hb hx;exact ⟨sl,(hs.2 b (uC b o e)).trans e1⟩
 ·obtain ⟨o',e1⟩:=I.base.there b o e hx;exact ⟨o',(hs.2 b (uC b o e)).trans e1⟩
 ·by_cases hj:j=i
  ·subst hj;have bq:j < σ.length:=by rw [I.len];exact (List.getElem?_eq_some_iff.mp hi).1
   rw [Ybl bq] at e2
   cases e2
  ·rw [YbI (WN hj)] at e2;obtain ⟨u',r',q⟩:=KN j y v' e1 e2 e3;refine ⟨u',r',?_⟩;rcases q with ⟨k,e⟩ | ⟨k,c,e,z⟩
   ·refine .inl ⟨k,?_⟩;have ne:y≠n:=fun e=>hj (EX hN e1 (e ▸ hi))
    simp [ne,e]
   ·exact .inr ⟨k,c,e,z.sameBut hs (I.l_ y c e)⟩
 ·obtain ⟨w',z⟩:=I.cell y c e;exact ⟨w',z.sameBut hs (I.l_ y c e)⟩
 ·obtain ⟨e,n,ne,nf,d⟩:=I.pin p hp;exact ⟨(hs.2 p.1 ne).trans e,n,ne,nf,d⟩
 ·refine (I.aj b ob e).c9 (fun c w' hc q=>(hs.2 c ?_).trans q) (fun _ q=>q) fun _ _ q=>q
  rintro rfl
  rcases hc with rfl | hc
  ·rw [I.free] at e;cases e
  ·rw [I.free] at hc;cases hc
def ZzQ (X:Cx) (pins:List (Addr×Obj)) (E:St->XK) (e:Value) (s':Shared):Prop:=
 ∃ (a:Addr) (cls:Value) (fU:St) (dc Hc:Hp) (sc:Shared),e=.ref a/\Inv X pins fU Hc sc/\D6 X.prog X.w X.stack Hc dc sc a cls s'/\E fU cls none dc
theorem Zs5 {X:Cx} {pins:List (Addr×Obj)} {E:St->XK}:j_ (aA X.prog X.w) (X.fc (X.pn++pins) (ZzQ X pins E)) E:=by
 rintro pins1 σ H s e s' I ⟨a,cls,H',rfl,fl,hE⟩
 exact ⟨a,cls,σ,H',H,s,rfl,I.cp,fl,hE⟩
theorem Zp0 {X:Cx} {pins:List (Addr×Obj)} {σ:St} {Hc dc:Hp} {sc s':Shared} {a:Addr} {cls:Value} {B:Heap} {a0:Value} {h5:Heap} (I:Inv X pins σ Hc sc) (hex:X.ex=[]) (fl:D6 X.prog X.w X.stack Hc dc sc a cls s')
  (kB:∀ b o,sc.heap.get? b=some o->Hc b=none->b ∉ bL X.stack->B.get? b=some o) (tB:∀ b o,sc.heap.get? b=some o->b ∉ bL X.stack->∃ o',B.get? b=some o') (aj:cC X.prog X.w dc B)
  (dg:Heap.FlyingW B X.stack a cls a0 h5) (De:s'.heap.UpToSlots h5):Inv X pins σ (upd dc a (ux a cls)) {s' with heap:=h5}/\dc a=none:=by
 have uL:dc a=none:=aj.absent dg.2.1
 have rE:∀ b o,b∈bL X.stack->sc.heap.get? b=some o->∃ sl,h5.get? b=some {o with slots:=sl}:=fun b o hb q=>by
  obtain ⟨_,o',dP,nZ⟩:=I.stack.mem hb;rw [q] at dP
  cases dP
  obtain ⟨sl,e1⟩:=fl.un.slot b o q (I.cq b hb) hb (fun z=>nomatch z);obtain ⟨jz,e2⟩:=De b _ e1 nZ;exact ⟨jz,e2⟩
 have KG:cC X.prog X.w dc h5:=aj.kept dg.1
 have I5:Inv X pins σ dc {s' with heap:=h5}:=by
  refine I.qS (ch:=[]) (s':={s' with heap:=h5}) fl.os ⟨fun b o e n hb _=>dg.1 b o (kB b o e n hb),fun b o e n hb _=>rE b o hb e,fun b o e n _=>fl.un.free b o e n (fun z=>nomatch z),fun b o e _=>?_,fl.un.cG,fl.un.bU,fl.un.cj⟩ KG fl.bare fun b z=>nomatch z
  by_cases hb:b∈bL X.stack
  ·obtain ⟨sl,e1⟩:=rE b o hb e;exact ⟨_,e1⟩
  ·obtain ⟨o',e1⟩:=tB b o e hb;exact ⟨o',dg.1 b o' e1⟩
 have ll:∀ b o,sc.heap.get? b=some o->Hc b=none->b ∉ bL X.stack->b≠a:=fun b o e n hb z=>by
  have:=kB b o e n hb
  rw [z,dg.2.1] at this
  cases this
 obtain ⟨oe,vs,T,oT,ts,he,⟨hc,h0⟩,hd,_⟩:=id dg.2.2.2;have hxo:jC a cls h5:=⟨oe,vs,he,hc,hd⟩
 have DK:∀ b∈X.env.locals::X.fs,b≠a:=fun b hb z=>by
  rcases List.mem_cons.mp hb with q | q
  ·obtain ⟨m,⟨o,es,ep,ho,hdd,_⟩,_⟩:=I5.loc;have dP:h5.get? X.env.locals=some o:=ho;rw [<- q,z,he] at dP
   cases dP
   rw [hd] at hdd
   cases hdd
  ·obtain ⟨_,o,ho,nZ⟩:=I5.bI.mem q;have dP:h5.get? b=some o:=ho;rw [z,he] at dP
   cases dP
   exact nZ vs hd
 have mM:∀ b,b≠X.env.locals->b ∉ X.fs->b ∉ bL X.stack:=fun b h1 h2 z=>(List.mem_cons.mp (I.bV b z)).elim h1 h2;refine ⟨I5.zJ uL ⟨hxo,⟨oe,he⟩,fun h1 h2 x k=>x.at k⟩ (fun b u e n hx=>?_) (DK _ YA) (fun x c e=>?_) (fun p hp=>?_),uL⟩
 ·by_cases hb:b∈X.fs
  ·exact DK b (Yr _ hb)
  ·exact ll b u (I.base.keep b u e n hb hx) (I.base.free b u e n hx) (mM b (Yu (Yq (Yj e) I.ok.above)) hb)
 ·by_cases hb:c∈X.fs
  ·exact DK c (Yr _ hb)
  ·obtain ⟨v,o,ho,_⟩:=I.cell x c e;exact ll c o ho (I.bf x c e) (mM c (I.l_ x c e) hb)
 ·obtain ⟨e,n,ne,nf,_⟩:=I.pin p hp;exact ll p.1 p.2 e n (mM p.1 ne nf)
def JT (K:Frag) (D:Addr) (i:Nat) (tb:(St->XK)->TS) (th:TS):TS:=fun D' σ H=>
 tb (fun fU cls _ dc=>∃ C,cls=.ref C/\subIn K (.ref C) (.ref D)=some true/\∀ a,dc a=none->
  th {nx:=fun i9 mL=>D'.nx (i9.set i none) mL,rt:=D'.rt,bk:=fun i9 mL=>D'.bk (i9.set i none) mL,ct:=fun i9 mL=>D'.ct (i9.set i none) mL} (fU.set i (some (.ref a))) (upd dc a (ux a (.ref C)))) D' σ H
theorem ZwX {X:Cx} {body qH:List Stmt} {zD:Stmt} {x n:Str} {np o_ pos:Pos} {D:Addr} {i:Nat} {tb:(St->XK)->TS} {th:TS} (cN:X.stack=X.env::X.outer) (hfr:X.env.frame=some X.env.locals) (hex:X.ex=[]) (hgx:Gl X x) (hmx:X.mg x=some (.ref D)) (hD:ZoW X.K D)
  (hN:X.N.Nodup) (hi:X.N[i]?=some n) (hl:X.env.scope.names.lookup n=some .local)
  (hb:∀ pn E' E,j_ (aA X.prog X.w) (X.fc pn E') E->eR (X.fc pn E') body (tb E))
  (hh:∀ a,eR (X.gv (X.A.mark (some (.ref a)))).lO (zD::qH) th) (jA:(x == ("__debug__":Str))=false:=by decide) :
  PS X (.Try body [.ExceptHandler (some (.Name x np)) (some n) (zD::qH) o_] [] [] pos) (JT X.K D i tb th):=by
 try unfold PS at *;try unfold eR at *
 intro pins s σ H D' I h;refine wpAny_Try_except (Xd (hb _ _ _ Zs5 [] s σ H D' (I.fc (ZzQ X pins _)) h) (fun f s1 q=>?_) fun e s1 q=>?_)
 ·have q':=SP.cp q
  cases f with
  | next=>exact Ybp q'
  | brk=>exact q'
  | cont=>exact q'
  | ret u=>exact q'
 ·obtain ⟨a,cls,fU,dc,Hc,sc,rfl,Ic,fl,C,rfl,kS,hE⟩:=q;obtain ⟨B,a0,dg,aj,kB,tB⟩:=fl.ex;have KQ:X.A.frames=some (X.env::X.outer):=by rw [<- cN];exact Ic.ok.frames
  rw [cN] at dg;refine wpAny_looks_onW KQ hfr dg fun h4 zW CH=>?_;refine wpAny_landsW zW fun h5 fl5 sm5=>?_;have yW:=CH.trans sm5;have K9:Heap.FlyingW B X.stack a (.ref C) a0 h5:=by rw [cN];exact fl5
  obtain ⟨I5,uL⟩:=Zp0 Ic hex fl kB tB aj K9 yW;have I5h:Inv (X.gv (X.A.mark (some (.ref a)))) pins fU (upd dc a (ux a (.ref C))) {s1 with heap:=h5}:=I5.gv rfl;refine wpAny_handleBy_cons (codeAny_handlers_test (qi (X:=X.gv (X.A.mark (some (.ref a)))) I5h hgx hmx ?_ jA)) (by intro z;cases z);refine Zqj I5.cf (I5.exc Zb) hD kS ?_;show Yas _ _ _ _ _;refine codeAny_handlers_suite_as ?_;refine lands_againW fl5 fun h6 fl6 sm6=>?_;have K8:Heap.FlyingW B X.stack a (.ref C) a0 h6:=by rw [cN];exact fl6
  obtain ⟨I6,_⟩:=Zp0 Ic hex fl kB tB aj K8 (yW.trans sm6);have I6h:Inv (X.gv (X.A.mark (some (.ref a)))).lO pins fU (upd dc a (ux a (.ref C))) {s1 with heap:=h6}:=(I6.gv (A:=X.A.mark (some (.ref a))) rfl).eZ _;refine Fe (X:=(X.gv (X.A.mark (some (.ref a)))).lO) (v:=.ref a) I6h hN hi (.inl hl) rfl (fun s7 I7=>?_) (.inr hl);refine Xd (hh a pins s7 _ _ _ I7 (hE a uL)) (fun f s8 q8=>?_) fun _ _ z=>z.elim
  have back:∀ {jx:St} {H8:Hp} {Q':Unit->Shared->Prop},Inv (X.gv (X.A.mark (some (.ref a)))).lO pins jx H8 s8->(∀ s9,Inv X pins (jx.set i none) H8 s9->Q' () s9)->wpAny (model X.prog X.w) X.A (do bindName X.env n .none;unbindBehindTheSuite X.env n o_) Q' X.xe s8:=fun {jx H8 Q'} I8 k=>
   ZuY (X:=X) (I8.cm.jP I.ok) hN hi hl k
  cases f with
  | next=>obtain ⟨jx,H8,I8,q9⟩:=q8;exact back I8 fun s9 I9=>⟨_,H8,I9,q9⟩
  | brk=>obtain ⟨jx,H8,I8,q9⟩:=q8;exact back I8 fun s9 I9=>⟨_,H8,I9,q9⟩
  | cont=>obtain ⟨jx,H8,I8,q9⟩:=q8;exact back I8 fun s9 I9=>⟨_,H8,I9,q9⟩
  | ret u=>obtain ⟨v8,jx,H8,I8,r8,q9⟩:=q8;exact back I8 fun s9 I9=>⟨v8,_,H8,I9,r8,q9⟩
structure ot (k:Nat) (A:Around):Prop where
 dp:A.depth + 3 * k + 5 < YaF
 un:A.units + 16 * k + 200 < cLine
theorem ot.deeper {k:Nat} {A:Around} (r:ot (k + 1) A) (env:Env):ot k (A.deeper env):=by
 refine ⟨?_,?_⟩
 ·have:=r.dp
  show A.depth + 1 + 3 * k + 5 < YaF;omega
 ·have:=r.un
  show A.units + 3 + 16 * k + 200 < cLine;omega
theorem ot.depth {k:Nat} {A:Around} (r:ot k A):A.depth < YaF:=by have:=r.dp;omega
theorem aW.gv {k:Nat} {A:Around} (r:aW k A) (v:Option Value):ot k (A.mark v):=⟨r.dp,r.un⟩
structure D7 (P:Program) (w:World) (K:Yg) (mg:Str->Option Value) (base:Heap) (k:Nat) (f:Addr) (fd:Yl) (ps:List Str) (sp:Sp):Prop where
 len:∀ vs H Q E,sp vs H Q E->vs.length=ps.length
 run:∀ (A:Around) (outer:List Env) (s:Shared) (H:Hp) (args:Args) (us:List Value) (vs:List V) (Q:VK) (E:XK),ot k A->ik P w K mg base A outer s H->BindsTo s fd args (ps.zip us)->Vals vs us->sp vs H Q E->
  Yas (model P w) A (.call (.ref f) args) (CR my outer P w H s Q E) s
abbrev jP (A:Around):Around:={A with handled:=none}
section
variable {P:Program} {w:World} {K:Yg} {mg:Str->Option Value} {base:Heap}
theorem aI.okH {x qual:Str} {st:Stmt} {f:Addr} {fd:Yl} {N ps:List Str} {k:Nat} {sp:Sp} (F:aI K x qual st f fd) (S:Zp N ps (Zi st)) (len:∀ vs H Q E,sp vs H Q E->vs.length=ps.length)
  (b9:∀ (aq:Value) (A:Around) (outer:List Env) (s:Shared) (H:Hp) (vs:List V) (Q:VK) (E:XK),ot k (A.deeper (WO qual (Zi st) s.heap.objs.size f aq))->sp vs H Q E->
   ∃ t,eR ((aZ my P w K mg base N qual (Zi st) f aq (jP A) outer s H E).gv (A.deeper (WO qual (Zi st) s.heap.objs.size f aq))).lO (kj st) t/\t {nx:=fun _ H'=>Q .aL H',rt:=Q} (bx N vs) H) :
  D7 P w K mg base (k + 1) f fd ps sp:=by
 obtain ⟨oc,od,kV,doc,pm,an,aq,ct,kA,rfl,lk,gx⟩:=F.ex;refine ⟨len,fun A outer s H args us vs Q E hr e0 hb r eM=>?_⟩;have hl:=len _ _ _ _ eM;have KX:K.In s.heap:=e0.mod.lP.keeps fun b o e=>(e0.bs b o e).1;have lim:s.heap.NoLimit:=e0.mod.nolimit.keeps fun b o e=>(e0.bs b o e).1
 have mQ:∀ y∈ps.zip us,(Zi st).names.lookup y.1=some .local∨((Zi st).names.lookup y.1=some .cell/\((cellsFrom (s.heap.objs.size + 1) (Zi st).names []).lookup y.1).isSome=true):=fun ⟨n,v⟩ hy=>by
  rcases S.par n (Ybt hy).1 with q | q
  ·exact .inl q
  ·exact .inr ⟨q,Ybi _ _ _ (.inl q)⟩
 refine codeAny_call_function hr.depth (KX _ _ lk) rfl S.co S.gen rfl (PySem.W.codeRec_of KX gx) (hb _ _ _ _ ?_);refine wpAny_newFunctionEnv_cells S.kind mQ fun env he s1 x=>?_;subst he;refine ⟨lim.keeps x.toInCall.keep,codeAny_func ?_⟩;obtain ⟨t,ht,hq⟩:=b9 aq A outer s H vs Q E (hr.deeper _) eM;unfold eR at ht;have I0:Inv (aZ my P w K mg base N qual (Zi st) f aq (jP A) outer s H E) [] (bx N vs) H s1:=Zp5 (A:=jP A) S rfl ⟨e0.frames,e0.mod,e0.bs,e0.jB,e0.bI,e0.kJ,e0.aj,e0.bare⟩ hl r x;have I:Inv ((aZ my P w K mg base N qual (Zi st) f aq (jP A) outer s H E).gv (A.deeper (WO qual (Zi st) s.heap.objs.size f aq))).lO [] (bx N vs) H s1:=(I0.gv (A:=A.deeper (WO qual (Zi st) s.heap.objs.size f aq)) rfl).eZ _;refine Xd (ht [] s1 (bx N vs) H _ I hq) (fun fl s' hs=>?_) fun e s' hs=>hs.elim
 have fin:∀ {aC:St} {H':Hp} {v:V} {u:Value},Inv ((aZ my P w K mg base N qual (Zi st) f aq (jP A) outer s H E).gv (A.deeper (WO qual (Zi st) s.heap.objs.size f aq))).lO [] aC H' s'->RelV v u->Q v H'->CE outer P w H s Q u s':=
  fun {aC H' v u} J rv q=>⟨v,H',J.os,J.bare,J.base,J.aj,rv,q⟩
 cases fl with
 | ret u=>
  obtain ⟨v,aC,H',J,rv,q⟩:=hs;exact fin J rv q
 | next=>
  obtain ⟨aC,H',J,q⟩:=hs;exact fin (v:=V.aL) (u:=Value.none) J rfl q
 | brk=>
  obtain ⟨_,_,_,q⟩:=hs;exact Xa q
 | cont=>
  obtain ⟨_,_,_,q⟩:=hs;exact Xa q
end
theorem aI.aP {P:Program} {w:World} {K:Yg} {mg:Str->Option Value} {base:Heap} {x qual:Str} {st:Stmt} {f:Addr} {fd:Yl} {N ps:List Str} {k:Nat} {sp:Sp} (F:aI K x qual st f fd) (S:Zp N ps (Zi st)) (len:∀ vs H Q E,sp vs H Q E->vs.length=ps.length)
  (b9:∀ (aq:Value) (A:Around) (outer:List Env) (s:Shared) (H:Hp) (vs:List V) (Q:VK) (E:XK),aW k (A.deeper (WO qual (Zi st) s.heap.objs.size f aq))->sp vs H Q E->
   ∃ t,eR (aZ (aA P w) P w K mg base N qual (Zi st) f aq A outer s H E) (kj st) t/\t {nx:=fun _ H'=>Q .aL H',rt:=Q} (bx N vs) H):ah P w K mg base (aA P w) (k + 1) f fd ps sp:=by
 obtain ⟨oc,od,kV,doc,pm,an,aq,ct,kA,rfl,lk,gx⟩:=F.ex;exact D_ lk gx S len fun A outer s H vs Q E hr eM=>b9 aq A outer s H vs Q E hr eM
section
variable {X:Cx} {k:Nat} {f:Addr} {fd:Yl} {ps:List Str} {sp:Sp} {x:Str} {p pos:Pos} {e:Expr} {es:List Expr} {t:TA}
theorem ZrX (F:D7 X.prog X.w X.K X.mg X.base k f fd ps sp) (hr:ot k X.A) (hg:Gl X x) (hm:X.mg x=some (.ref f)) (hk:XM X.K (.ref f)=true) (hb:ZF X.K fd ps [])
  (ha:PA X (e::es) t) (jA:(x == ("__debug__":Str))=false:=by decide) (he:Yx (e::es) X.env=(false,eval e X.env)::Yx es X.env:=by rfl) (cI:(Wi pos (Yx es X.env)).any (·.1)=false:=by rfl) :
  PE X (.Call (.Name x p) (e::es) [] pos) (Eb sp [] (fun _=>E0) t):=by
 try unfold PE at *;try unfold PA at *
 intro pins s σ H Q I h;refine XC (qi I hg hm ?_ jA);refine W9 (h₀:=X.base) I.ok.mod.lP hk (aH (ha pos pins s σ H _ I h) fun us s1 ⟨vs,H1,I1,r,q⟩=>⟨I1.cf,?_⟩) he cI;have r2:Vals (vs++[]) (us++[]):=r.append .nil;have hl:(us++[]).length=ps.length:=by rw [<- r2.length];exact F.len _ _ _ _ q
 refine wpAny_call (YaA (F.run X.A X.stack s1 H1 ⟨us,[]⟩ (us++[]) (vs++[]) Q E0 hr I1.uc (hb s1 us I1.cf hl) r2 q) fun r s' hq=>?_)
 cases r with
 | error e=>exact hq.elim
 | ok fl=>
  cases fl with
  | ret u=>exact I1.after hq
  | next=>exact Xa hq
  | brk=>exact Xa hq
  | cont=>exact Xa hq
end
end L2
namespace L2
open PySem PySem.Spec PyProof.Rows PySem.W
mutual
inductive Im (H:Hp):V->Wd->Prop
 | aL:Im H .aL .none
 | bl (b:Bool):Im H (.bl b) (.bool b)
 | int (i:Int):Im H (.int i) (.int i)
 | str (x:Str):Im H (.str x) (.str x)
 | tup {a:Addr} {xs:List V} {ds:List Wd}:H a=some (.tup xs)->dM H xs ds->Im H (.ref a) (.tuple ds)
inductive dM (H:Hp):List V->List Wd->Prop
 | nil:dM H [] []
 | cons {x:V} {d:Wd} {xs:List V} {ds:List Wd}:Im H x d->dM H xs ds->dM H (x::xs) (d::ds)
end
def ZzS (H H':Hp):Prop:=∀ a xs,H a=some (.tup xs)->H' a=some (.tup xs)
mutual
theorem Im.keep {H H':Hp} (k:ZzS H H') {x:V} {d:Wd} (h:Im H x d):Im H' x d:=by
 cases h with
 | aL=>exact .aL
 | bl b=>exact .bl b
 | int i=>exact .int i
 | str x=>exact .str x
 | tup e r=>exact .tup (k _ _ e) (dM.keep k r)
theorem dM.keep {H H':Hp} (k:ZzS H H') {xs:List V} {ds:List Wd} (h:dM H xs ds):dM H' xs ds:=by
 cases h with
 | nil=>exact .nil
 | cons a r=>exact .cons (Im.keep k a) (dM.keep k r)
end
mutual
theorem Im.reads {X:Cx} {pins:List (Addr×Obj)} {σ:St} {H:Hp} {s:Shared} (I:Inv X pins σ H s) {x:V} {d:Wd} (h:Im H x d) {u:Value} (r:RelV x u):∃ as,Reads s.heap u d as:=by
 cases h with
 | aL=>cases (show u=Value.none from r);exact ⟨_,.none⟩
 | bl b=>cases (show u=Value.bool b from r);exact ⟨_,.bool b⟩
 | int i=>obtain ⟨t,z⟩:=(show ∃ t,u=Value.int i t from r);cases z;exact ⟨_,.int i t⟩
 | str y=>obtain ⟨t,z⟩:=(show ∃ t,u=Value.str y t from r);cases z;exact ⟨_,.str y t⟩
 | @tup a xs ds e q=>
  cases (show u=Value.ref a from r)
  obtain ⟨_,its,rv,o,h1,h2,n,h3⟩:=(show bT X.prog X.w H s.heap a (.tup xs) from I.aj a _ e)
  obtain ⟨as,z⟩:=dM.reads I q rv;exact ⟨_,.tuple h1 h2 h3 (by simpa using z)⟩
theorem dM.reads {X:Cx} {pins:List (Addr×Obj)} {σ:St} {H:Hp} {s:Shared} (I:Inv X pins σ H s) {xs:List V} {ds:List Wd} (h:dM H xs ds) {us:List Value} (r:Vals xs us):∃ as,ReadsAll s.heap us ds as:=by
 cases h with
 | nil=>cases r;exact ⟨_,.nil⟩
 | cons a q=>
  cases r with
  | cons r1 r2=>
   obtain ⟨as,z1⟩:=Im.reads I a r1;obtain ⟨bs,z2⟩:=dM.reads I q r2;exact ⟨_,.cons z1 z2⟩
end
def Dat (K:Frag) (H:Hp) (x:V) (d:Wd):Prop:=Im H x d∨∃ p xs ds,x=.ref p/\d=.list ds/\ar K H p xs/\dM H xs ds
theorem Dat.reads {X:Cx} {pins:List (Addr×Obj)} {σ:St} {H:Hp} {s:Shared} (I:Inv X pins σ H s) {x:V} {d:Wd} (h:Dat X.K H x d) {u:Value} (r:RelV x u):∃ as,Reads s.heap u d as:=by
 rcases h with h | ⟨p,xs,ds,rfl,rfl,hp,hi⟩
 ·exact h.reads I r
 ·cases (show u=Value.ref p from r)
  obtain ⟨its,rv,⟨o,n,e,h1,_,h3⟩,_⟩:=I.list hp;obtain ⟨as,z⟩:=hi.reads I rv;exact ⟨_,.list e h1 h3 (by simpa using z)⟩
section
variable {X:Cx}
end
theorem Z3 {d:Wd} (h:YY d=true):PyData.eqv d d=true:=SeqAt.eqv_refl d (SeqAt.canLay_of_shaped h)
theorem ZxR:dJ X (Wv .Mult) (rI (fun i j=>i.natAbs < 2 ^ 200/\j.natAbs < 2 ^ 200) fun i j=>.int (i * j)):=wI fun i j _ _ _ _ _ hc q=>
 mul_int q (IntMulOk.of_bits (Yk (intBits_le hc.1) (by decide)) (Yk (intBits_le hc.2) (by decide)))
theorem Jm:fillsNumberSlot (.type "tuple") "mul"=pure false:=
 PySem.fillsNumberSlot_seq (id:="tuple.__mul__") (r:=some (.builtin "tuple.__rmul__")) F.slot_tuple_mul.lookup (by decide +kernel) F.slot_tuple_rmul.lookup (by decide +kernel)
theorem Hu:seqRepeat? (.type "tuple")=pure (some (.builtin "tuple.__mul__")):=by
 unfold seqRepeat?;rw [PySem.seqSlot_of (T:="tuple") (name:="__mul__") (id:="tuple.__mul__") F.slot_tuple_mul.lookup (by decide +kernel),PySem.seqSlot_of (T:="tuple") (name:="__rmul__") (id:="tuple.__rmul__") F.slot_tuple_rmul.lookup (by decide +kernel)];rfl
theorem Jc (a:Int) (t:Tok) (l:Addr) (items:Array Value) (n:Nat) (dd:Option Addr) (sl:Array (Option Value)) :
  Meets (Builtin.«int.__rmul__» ⟨[.int a t,.ref l],[]⟩) (fun _ R s=>s.heap.get? l=some {cls:=.type "tuple",dict:=dd,data:=.seq items n,slots:=sl}/\R (.ok (.ret Value.notImplemented)) s):=
 .of_wp fun prog w A R s h=>by obtain ⟨hp,g,d,tk,os⟩:=s;obtain ⟨hl,h⟩:=h;wp_walk;exact ⟨_,rfl,h⟩
end L2
namespace L2
open PySem PySem.Spec PyProof.Rows PySem.W
theorem ZtK (l:Addr) (items:Array Value) (n:Nat) (dd:Option Addr) (sl:Array (Option Value)) (k:Int) (u:Tok) (bY:items.isEmpty=false) (h1:1 < k) (h2:k < 2 ^ 63) (hsz:items.size * k.toNat<=Ym) :
  Meets (Builtin.«tuple.__mul__» ⟨[.ref l,.int k u],[]⟩) (fun _ R s=>s.heap.get? l=some {cls:=.type "tuple",dict:=dd,data:=.seq items n,slots:=sl}/\
   R (.ok (.ret (.ref s.heap.objs.size))) {s with heap:=s.heap.push {cls:=.type "tuple",data:=.seq ((List.replicate k.toNat items).foldl (fun x1 x2=>x1++x2) #[])}}):=
 .of_wp fun prog w A R s h=>by
  obtain ⟨hp,g,d,tk,os⟩:=s;obtain ⟨hl,h⟩:=h
  have hmul:(items.size:Int) * k=((items.size * k.toNat:Nat):Int):=by
   rw [Int.natCast_mul,Int.toNat_of_nonneg (by omega)]
  have hL:(Ym:Nat)<=2 ^ 40:=by decide
  have uR:¬(decide (k < -2 ^ 63) || decide (k >= 2 ^ 63))=true:=by
   rw [Xz,decide_eq_true_eq,decide_eq_true_eq];omega
  have gP:¬(items.isEmpty || k == 1)=true:=by
   rw [bY,Ya8,beq_iff_eq];omega
  have iW:¬(decide (k<=0) || items.isEmpty)=true:=by
   rw [bY,Xs,decide_eq_true_eq];omega
  have rP:¬((items.size:Int) * k > (2 ^ 63 - 1) / 8):=by
   rw [hmul]
   have:(2 ^ 63 - 1:Int) / 8=1152921504606846975:=by decide
   rw [this]
   have:(2:Nat) ^ 40=1099511627776:=by decide
   omega
  have hc4:¬Builtin.Tuple.tupleTooMany ((items.size:Int) * k)=true:=by
   rw [hmul];unfold Builtin.Tuple.tupleTooMany;rw [decide_eq_true_eq];omega
  wp_walk
  rw [if_neg uR]
  wp_walk
  rw [if_neg gP]
  wp_walk
  rw [if_neg iW]
  wp_walk
  rw [if_neg rP]
  wp_walk
  rw [if_neg hc4]
  have hc5:¬((List.foldl (fun x1 x2=>x1++x2) #[] (List.replicate k.toNat items)).size > Ym):=by
   have e:=FD items.toList k.toNat [];rw [List.nil_append] at e;have e':List.foldl (fun x1 x2=>x1++x2) #[] (List.replicate k.toNat items)=(List.replicate k.toNat items.toList).flatten.toArray:=e;rw [e',Yn,ZuO,YH,Nat.mul_comm];omega
  wp_walk
  exact ⟨_,rfl,h⟩
def Zy1:R2:=fun x y H Q=>∃ l k xs,x=.ref l/\y=.int k/\H l=some (.tup xs)/\xs≠[]/\1 < k/\k < 2 ^ 63/\xs.length * k.toNat<=Ym/\
 ∀ p,H p=none->Q (.ref p) (upd H p (.tup (List.replicate k.toNat xs).flatten))
section
variable {X:Cx}
theorem Inv.yQ {pins:List (Addr×Obj)} {σ:St} {H:Hp} {s:Shared} {ys:List V} {its:List Value} {t':Nat} (I:Inv X pins σ H s) (hv:Vals ys its) (hz:ys.length<=Ym) :
  Inv X pins σ (upd H s.heap.objs.size (.tup ys)) {s with heap:=s.heap.push {cls:=.type "tuple",data:=.seq its.toArray},toks:=t'}:=
 I.laid (fun _ _ e=>Yc _ e) (Ye _) ⟨hz,its,hv,_,Yi _ rfl,rfl,_,rfl⟩
theorem Zup:dJ X (Wv .Mult) Zy1:=by
 intro pins s σ H x y v u Q I rx ry h;obtain ⟨l,k,xs,rfl,rfl,hH,bY,h1,h2,hz,q⟩:=h
 cases rx
 obtain ⟨t,rfl⟩:=ry;obtain ⟨z,its,r,o,e,hc,n,hd⟩:=(show bT X.prog X.w H s.heap l (.tup xs) from I.aj l _ hH)
 obtain ⟨cls,dd,data,sl⟩:=o;dsimp only at hc hd;subst hc hd;have hl:xs.length=its.length:=r.length
 have tY:its.toArray.isEmpty=false:=by
  cases its with
  | nil=>cases r;exact absurd rfl bY
  | cons _ _=>rfl
 refine YaL (T:="tuple") (U:="int") (by decide) ⟨_,e,rfl⟩ (fun s'=>YaJ s' k t) Jm F.fills_int_mul W7 Hu F.slot_int_index.lookup
  (XF W7 (YaJ s k t) F.entry_int_rmul (F.args_int_rmul_2 _ _) (Jc k t l its.toArray n dd sl)
   ⟨e,rfl,⟨_,e,rfl⟩,XF F.slot_tuple_mul ⟨_,e,rfl⟩ F.entry_tuple_mul (YbS _ _) (ZtK l its.toArray n dd sl k t tY h1 h2 (by rw [Yn,<- hl];exact hz)) ⟨e,?_⟩⟩)
 have KJ:(List.replicate k.toNat its.toArray).foldl (fun x1 x2=>x1++x2) #[]=(List.replicate k.toNat its).flatten.toArray:=by
  have:=FD its k.toNat []
  rw [List.nil_append] at this;exact this
 rw [KJ];exact ⟨.ref _,_,I.yQ (t':=s.toks) (r.rep k.toNat) (by rw [ZuO,Nat.mul_comm];exact hz),rfl,q _ I.fresh⟩
theorem Zno {x:V}:∀ {xs:List V} {us:List Value},Vals xs us->xs.all js=true->us.countP (hR x)=xs.countP fun y=>iY y x
 | _,_,.nil,_=>rfl
 | _,_,.cons (a:=y) (b:=u) r t,h=>by
  rw [Ya7,YV] at h;rw [List.countP_cons,List.countP_cons,Zno t h.2,AZ r h.1]
def Zy3 (K:Frag):V->List V->Hp->VK->Prop:=fun x vs H Q=>∃ l xs y,x=.ref l/\vs=[y]/\ar K H l xs/\js y=true/\xs.all js=true/\Q (.int (xs.countP fun z=>iY z y:Nat)) H
theorem Zr2:nK X "list.count" (Zy3 X.K):=by
 intro pins s σ H x xs v us Q I rx rs h;obtain ⟨l,ys,y,rfl,rfl,hl,fy,fa,q⟩:=h
 cases rx
 obtain ⟨u,rfl,ru⟩:=rs.one;obtain ⟨its,rv,⟨o,n,e,hc,_,hd⟩,_⟩:=I.list hl;obtain ⟨cls,dd,data,sl⟩:=o;dsimp only at hc hd;subst hc hd;refine XF F.slot_list_count ⟨_,e,rfl⟩ F.entry_list_count (F.args_list_count_2 _ _) (SeqAt.list_countAt l its.toArray n dd sl u (hR y)) ⟨e,fun z hz=>sT ru fy rv fa z (by simpa using hz),?_⟩;refine ⟨.int _,H,I.tok _,⟨_,rfl⟩,?_⟩;rw [Zno rv fa];exact q
def Zy2 (K:Frag):V->List V->Hp->VK->Prop:=fun x vs H Q=>∃ l xs y j,x=.ref l/\vs=[y]/\ar K H l xs/\js y=true/\xs.all js=true/\(∃ z,xs[j]?=some z/\iY z y=true)/\(∀ m z,m < j->xs[m]?=some z->iY z y=false)/\Q (.int (j:Nat)) H
theorem Zwc:nK X "list.index" (Zy2 X.K):=by
 intro pins s σ H x xs v us Q I rx rs h;obtain ⟨l,ys,y,j,rfl,rfl,hl,fy,fa,⟨z,hz,hit⟩,uK,q⟩:=h
 cases rx
 obtain ⟨u,rfl,ru⟩:=rs.one;obtain ⟨its,rv,⟨o,n,e,hc,_,hd⟩,hlen⟩:=I.list hl;obtain ⟨cls,dd,data,sl⟩:=o;dsimp only at hc hd;subst hc hd;have Aw:=rv.length;have hjy:j < ys.length:=(List.getElem?_eq_some_iff.mp hz).1;have hj:j < its.toArray.size:=by rw [Yn];omega
 have Lb:∀ w∈ys,js w=true:=fun w hw=>List.all_eq_true.mp fa w hw
 have val:∀ m (hm:m < its.toArray.size) w,ys[m]?=some w->hR y its.toArray[m]=iY w y:=fun m hm w hw=>by
  obtain ⟨u',hu',ru'⟩:=rv.get hw
  have:its.toArray[m]=u':=by
   have h1:its[m]?=some its.toArray[m]:=by simp
   rw [h1] at hu';exact YB hu'
  rw [this];exact AZ ru' (Lb w (Yy hw))
 have h63:(j:Int) < 2 ^ 63 - 1:=by
  have:(Ym:Nat) < 2 ^ 62:=by decide
  omega
 refine XF F.slot_list_index ⟨_,e,rfl⟩ F.entry_list_index (F.args_list_index_2 _ _) (SeqAt.list_indexAt l its.toArray n dd sl u (hR y) j hj h63 (by rw [val j hj z hz];exact hit) fun m hm hmj=>?_) ⟨e,fun z hz=>sT ru fy rv fa z (by simpa using hz),⟨.int _,H,I.tok _,⟨_,rfl⟩,q⟩⟩;have hmy:m < ys.length:=by omega
 rw [val m hm ys[m] (Yh hmy)];exact uK m _ hmj (Yh hmy)
end
structure Zl4 (K:Frag) (C:Addr):Prop where
 ga:findIn K (.ref C) "__getattribute__"=some (some (.builtin "BaseException.__getattribute__"))
 gh:findIn K (.ref C) "__getattr__"=some none
 cc:findIn K (.ref C) "__class__"=some (some (.builtin "object.__class__"))
 ob:mroIn K C (.type "object")=some true
 ba:mroIn K C (.type "BaseException")=some true
 cl:(clsIn K C).isSome=true
 gg:specialIn K (.builtin "object.__class__") "__get__"=some (some (.builtin "getset_descriptor.__get__"))
 tk:takesIn K (.builtin "object.__class__")=some true
section
variable {prog:Program} {w:World} {A:Around} {E:Value->Shared->Prop} {s:Shared} {K:Frag} {x C:Addr}
theorem Ztr {tp:Value} {R:Result->Shared->Prop} (X:K.In s.heap) (I:jC x (.ref C) s.heap) (hm:mroIn K C (.type "object")=some true)
  (h:R (.ok (.ret (.ref C))) s):Yas (model prog w) A (.call (.builtin "getset_descriptor.__get__") ⟨[.builtin "object.__class__",.ref x,tp],[]⟩) R s:=by
 obtain ⟨hh,g,dr,t,os⟩:=s;have L0:=wc (M:=model prog w) I;have L1:=looks_mroIn (M:=model prog w) X hm;refine codeAny_call_builtin KF.slot_gs.plain KF.entry_gs (KF.slot_gs.check _ _ _ _ _ _ _ _ KF.type_class (KF.args_gs _ _ _) ?_);unfold Builtin.«getset_descriptor.__get__» Builtin.Getset_descriptor.descrGet;rw [dga_obj];refine Ya (Yd ?_);unfold Builtin.Getset_descriptor.descrGetter Builtin.Getset_descriptor.descrCheckInstance Builtin.Getset_descriptor.descrNameAndClass isInstance
 simp only [KF.owner_class]
 repeat lk
 refine ⟨Code.quiet_builtin _ (by decide +kernel),codeAny_builtin KF.entry_class ?_⟩;unfold Builtin.«object.__class__» shownTypeOf
 repeat lk
 exact h
theorem ZzB {tk:Tok} {Q:PySem.Fin->Shared->Prop} (X:K.In s.heap) (I:jC x (.ref C) s.heap) (T:Zl4 K C) (h:Q (.done (.ret (.ref C))) s) :
  wpAny (model prog w) A (Builtin.«object.__getattribute__» ⟨[.ref x,.str "__class__" tk],[]⟩) Q E s:=by
 obtain ⟨hh,g,d,t,os⟩:=s;have L0:=wc (M:=model prog w) I;have L3:=looks_findIn (M:=model prog w) X T.cc;have L4:Looks (model prog w) hh (Builtin.ObjectAttr.getOf (some (.builtin "object.__class__"))) (some (.builtin "getset_descriptor.__get__")):=looks_specialIn X T.gg;have L5:=looks_takesIn (M:=model prog w) X T.tk;unfold Builtin.«object.__getattribute__»;refine Ya (Yd ?_);dsimp only;refine Ya (Yd ?_);refine Ya (L0.at ?_);unfold Builtin.ObjectAttr.find Builtin.ObjectAttr.dataDescriptor?;refine Ya (Ya (L3.at (Ya (L4.at ?_))));dsimp only;refine Ya (Ya (L5.at ?_))
 simp only [if_true]
 refine Yd ?_;dsimp only;refine Ya (wpAny_rule (Yd ?_));dsimp only;unfold Builtin.ObjectAttr.bindTo;dsimp only;refine Ya (Y6 (wpAny_call (Ztr (s:=⟨hh,g,d,t,os⟩) X I T.ob ?_)));exact Yd h
theorem Zu7 {M:Model} {qK:Value} {Q:Unit->Shared->Prop} (X:K.In s.heap) (I:jC x (.ref C) s.heap) (T:Zl4 K C) (hq:Q () s):wpAny M A (checkBuiltinCall "BaseException.__getattribute__" ⟨[.ref x,qK],[]⟩) Q E s:=by
 obtain ⟨hh,g,d,t,os⟩:=s;have hk:builtinKind "BaseException.__getattribute__"=some .slot:=by decide +kernel
 have uo:splitId "BaseException.__getattribute__"=some ("BaseException","__getattribute__"):=by decide +kernel
 have L0:=wc (M:=M) I;have L1:Looks M hh (isInstance (.ref x) (.type "BaseException")) true:=L0.andThen (looks_mroIn X T.ba);have ha:=F.args_bexc_ga (.ref x) qK
 simp only [checkBuiltinCall,hk,uo]
 refine Ya (L1.at ?_)
 simp only [Bool.not_true,YQ,if_false]
 exact wpAny_of_eq ha hq
theorem Zu6 {Q:Option Value->Shared->Prop} (X:K.In s.heap) (I:jC x (.ref C) s.heap) (T:Zl4 K C) (h:Q (some (.ref C)) {s with toks:=s.toks + 1}):wpAny (model prog w) A (getAttr? (.ref x) "__class__") Q E s:=by
 obtain ⟨hh,g,d,t,os⟩:=s;have L0:=wc (M:=model prog w) I;have L1:=looks_findIn (M:=model prog w) X T.ga;have L2:=looks_findIn (M:=model prog w) X T.gh;have C6:(Value.builtin "BaseException.__getattribute__" == Value.builtin "object.__getattribute__")=false:=by decide +kernel
 have f3:=F.excAttr_ValueError.ga.bind (.ref x);unfold getAttr? getAttrBy? getAttrBy;refine Ya (wpAny_mkText (Ya (XH (Y6 (Ya (L0.at (Ya (L1.at ?_))))))))
 simp only [C6,Bool.and_false,YQ,if_false]
 unfold getAttrByItsOwn hookBefore
 simp only [onTheHeap,if_true]
 refine Ya (L2.at ?_);refine Ya (XH (Y6 ?_));unfold callGetattribute boundAndCalled
 simp only [Bool.false_and,YQ,if_false]
 rw [f3];refine Ya (Yd ?_);dsimp only;refine wpAny_call (codeAny_call_builtin F.excAttr_ValueError.ga.plain F.entry_bexc_ga (Zu7 (s:=⟨hh,g,d,t + 1,os⟩) X I T ?_));refine ZzB (s:=⟨hh,g,d,t + 1,os⟩) X I T ?_;exact Yd (Yd h)
end
end L2
namespace L2
open PySem PySem.Spec PyProof.Rows PySem.W
section
variable {prog:Program} {w:World} {A:Around} {E:Value->Shared->Prop} {s:Shared} {K:Frag} {x C:Addr}
theorem Zw8 (K:Frag) (C a:Addr) (T:Zl4 K C):KitX K (.ref a) (.ref C) (jC a (.ref C)) where
 ty:=fun _ _ _ p=>wc p
 it:=fun _ _ X _=>Zj1 X T.cl
 ne:=fun h tp dd its n sl X htp=>by
  refine Bool.eq_false_iff.mpr fun q=>?_;have e:C=tp:=Value.ref.inj (beq_iff_eq.mp q);subst e;have xA:=T.cl;unfold clsIn at xA
  split at xA
  ·rename_i c' d' cd' CJ ho
   have z:=(X _ _ ho).symm.trans htp
   cases z
  ·cases xA
 ca:=fun X p k=>Zu6 X p T k
end
def tM (K:Frag) (C:Addr):V->Option Bool
 | .ref d=>kitOne K (.ref C) (.ref d)
 | .ty n=>kitOne K (.ref C) (.type n)
 | _=>none
end L2
namespace L2
open PySem PySem.Spec PyProof.Rows PySem.W
def AW (a:Addr) (cls:Value) (t:Addr) (h:Heap):Prop:=∃ oe vs,h.get? a=some oe/\oe.cls=cls/\oe.data=.fields vs/\vs[0]?=some (.ref t)
def JQ (a:Addr) (cls:Value) (t:Addr):HO:=.ext (AW a cls t)
theorem AW.exc {a t:Addr} {cls:Value} {h:Heap} (x:AW a cls t h):jC a cls h:=by
 obtain ⟨oe,vs,e,h1,h2,_⟩:=x;exact ⟨oe,vs,e,h1,h2⟩
def wm (H:Hp) (a C:Addr):Prop:=H a=some (ux a (.ref C))∨∃ t,H a=some (JQ a (.ref C) t)
theorem wm.same {H H':Hp} {a C:Addr} (h:wm H a C) (s:ag H H'):wm H' a C:=by
 rcases h with h | ⟨t,h⟩
 ·exact .inl (s _ _ h)
 ·exact .inr ⟨t,s _ _ h⟩
section
variable {X:Cx} {pins:List (Addr×Obj)} {σ:St} {H:Hp} {s:Shared}
theorem Inv.isX {a C:Addr} (I:Inv X pins σ H s) (h:wm H a C):jC a (.ref C) s.heap:=by
 rcases h with h | ⟨t,h⟩
 ·exact I.exc h
 ·exact (show AW a (.ref C) t s.heap from (I.aj a _ h).1).exc
end
section
variable {prog:Program} {w:World} {A:Around} {E:Value->Shared->Prop} {s:Shared} {K:Frag} {x C t0:Addr}
end
def yY (K:Frag):List V->Hp->VK->Prop:=fun xs H Q=>∃ (a C:Addr) (c:V) (b:Bool),xs=[.ref a,c]/\wm H a C/\Zl4 K C/\tM K C c=some b/\Q (.bl b) H
theorem ZwJ {X:Cx}:eN X (.builtin "isinstance") (yY X.K):=by
 intro pins s σ H xs us Q I r h;obtain ⟨a,C,c,b,rfl,ha,T,e,q⟩:=h;obtain ⟨u,v,rfl,ru,rv⟩:=r.two
 cases (show u=Value.ref a from ru)
 have fin:∀ tk,EP X pins σ Q (.bool b) {s with toks:=tk}:=fun tk=>⟨.bl b,H,I.tok tk,rfl,q⟩
 cases c with
 | ref d=>
  cases (show v=Value.ref d from rv)
  exact kia_one (Zw8 X.K C a T) I.cf (I.isX ha) e (fun z=>nomatch z) fin
 | ty n=>
  cases (show v=Value.type n from rv)
  exact kia_one (Zw8 X.K C a T) I.cf (I.isX ha) e (fun z=>nomatch z) fin
 | aL=>cases e
 | bl _=>cases e
 | int _=>cases e
 | str _=>cases e
 | j5 _=>cases e
 | oo _=>cases e
theorem lE {X:Cx} {a b:Expr} {ta tb:TE} {p pos:Pos} (ha:PE X a ta) (hb:PE X b tb) (hg:Gl X "isinstance") (hm:X.mg "isinstance"=none)
  (h1:Yx [a,b] X.env=(false,eval a X.env)::Yx [b] X.env:=by rfl) (h2:Yx [b] X.env=(false,eval b X.env)::Yx [] X.env:=by rfl) (cI:(Wi pos (Yx [b] X.env)).any (·.1)=false:=by rfl) :
  PE X (.Call (.Name "isinstance" p) [a,b] [] pos) (qU (yY X.K) (cY ta (cY tb bp))):=
 ZD ZwJ hg hm PyProof.Rows.Boot.«isinstance» (Za ha (Za hb Ze h2) h1) (by decide) (by decide) h1 cI
def fS (K:Frag) (H:Hp) (x:V) (d:Wd):Prop:=Dat K H x d∨∃ a xs ds,x=.ref a/\d=.tuple ds/\aG K H a xs/\dM H xs ds
theorem fS.reads {X:Cx} {pins:List (Addr×Obj)} {σ:St} {H:Hp} {s:Shared} (I:Inv X pins σ H s) {x:V} {d:Wd} (h:fS X.K H x d) {u:Value} (r:RelV x u):∃ as,Reads s.heap u d as:=by
 rcases h with h | ⟨p,xs,ds,rfl,rfl,hp,hi⟩
 ·exact h.reads I r
 ·cases (show u=Value.ref p from r)
  obtain ⟨its,rv,⟨o,e,h1,n,h3⟩,_⟩:=I.tuple hp;obtain ⟨as,z⟩:=hi.reads I rv;exact ⟨_,.tuple e h1 h3 (by simpa using z)⟩
def Kb (K:Frag):R2:=fun x y H Q=>∃ d e,fS K H x d/\fS K H y e/\YY d=true/\YY e=true/\Q (.bl (PyData.eqv d e)) H
def J' (K:Frag):R2:=fun x y H Q=>∃ d e,fS K H x d/\fS K H y e/\YY d=true/\YY e=true/\Q (.bl (!PyData.eqv d e)) H
theorem qe {X:Cx} (hu:X.A.units + 64 < cLine):dJ X (XS .Eq) (Kb X.K):=by
 intro pins s σ H x y v u Q I rx ry h;obtain ⟨d,e,hd,he,sd,se,q⟩:=h;obtain ⟨as,z1⟩:=hd.reads I rx;obtain ⟨bs,z2⟩:=he.reads I ry;exact eq_dataH z1 z2 sd se hu ⟨.bl _,H,I,rfl,q⟩
theorem xV {X:Cx} (hu:X.A.units + 64 < cLine):dJ X (XS .NotEq) (J' X.K):=by
 intro pins s σ H x y v u Q I rx ry h;obtain ⟨d,e,hd,he,sd,se,q⟩:=h;obtain ⟨as,z1⟩:=hd.reads I rx;obtain ⟨bs,z2⟩:=he.reads I ry;exact ne_dataH z1 z2 sd se hu ⟨.bl _,H,I,rfl,q⟩
theorem lA {P:Program} {w:World} {X:Cx}:j_ (aA P w) X (fun _=>E0):=fun _ _ _ _ _ _ _ ⟨_,_,_,_,_,z⟩=>z.elim
theorem Zj {H:Hp} {p:Addr} {o:HO} (h:H p=none):ag H (upd H p o):=fun b u e=>by rw [Zf (Zg e h)];exact e
end L2
namespace L2
open PySem PySem.Spec PyProof.Rows
section
variable {κ:Type} [DecidableEq κ]
def aV (kvs:List (κ×V)) (k:κ):Option V:=(kvs.find? fun kv=>decide (kv.1=k)).map (·.2)
def putK (kvs:List (κ×V)) (k:κ) (v:V):List (κ×V):=
 if (kvs.any fun kv=>decide (kv.1=k))=true then kvs.map (fun kv=>if kv.1=k then (kv.1,v) else kv) else kvs++[(k,v)]
def gz (kvs:List (κ×V)) (k:κ):List (κ×V):=kvs.filter fun kv=>decide (kv.1≠k)
theorem kN {p:κ×V} {r:List (κ×V)} {k:κ} (e:p.1=k):aV (p::r) k=some p.2:=by simp [aV,Wb,e]
theorem kn {p:κ×V} {r:List (κ×V)} {k:κ} (e:¬ p.1=k):aV (p::r) k=aV r k:=by simp [aV,Wb,e]
theorem vP (k:κ):∀ kvs:List (κ×V),(kvs.any fun kv=>decide (kv.1=k))=(aV kvs k).isSome
 | []=>rfl
 | p::r=>by
  rw [W4]
  by_cases e:p.1=k
  ·simp only [kN e,decide_eq_true e,Bool.true_or,Option.isSome_some]
  ·rw [kn e,decide_eq_false e,Ya8];exact vP k r
theorem ZrD (k j:κ) (y:V):∀ kvs:List (κ×V),aV (kvs.map fun kv=>if kv.1=k then (kv.1,y) else kv) j=(aV kvs j).map fun x=>if j=k then y else x
 | []=>rfl
 | p::r=>by
  have ih:=ZrD k j y r;rw [Yt]
  by_cases h:p.1=k
  ·rw [if_pos h]
   by_cases e:p.1=j
   ·rw [kN (p:=(p.1,y)) e,kN e,Xe,if_pos (e.symm.trans h)]
   ·rw [kn (p:=(p.1,y)) e,kn e,ih]
  ·rw [if_neg h]
   by_cases e:p.1=j
   ·rw [kN (p:=p) e,kN e,Xe,if_neg (fun z=>h (e.trans z))]
   ·rw [kn (p:=p) e,kn e,ih]
theorem Zo4 (k j:κ) (y:V):∀ kvs:List (κ×V),aV kvs k=none->aV (kvs++[(k,y)]) j=if j=k then some y else aV kvs j
 | [],_=>by
  by_cases e:k=j
  ·rw [if_pos e.symm];exact kN (p:=(k,y)) e
  ·rw [if_neg (fun z=>e z.symm)];exact kn (p:=(k,y)) e
 | p::r,hn=>by
  rw [Yal];have hk:¬ p.1=k:=fun z=>by rw [kN z] at hn;cases hn
  rw [kn hk] at hn;have ih:=Zo4 k j y r hn
  by_cases e:p.1=j
  ·rw [kN e,kN e,if_neg (fun z=>hk (e.trans z))]
  ·rw [kn e,kn e,ih]
theorem Fh (kvs:List (κ×V)) (k j:κ) (y:V):aV (putK kvs k y) j=if j=k then some y else aV kvs j:=by
 unfold putK
 by_cases a:(kvs.any fun kv=>decide (kv.1=k))=true
 ·rw [if_pos a,ZrD];rw [vP] at a
  by_cases e:j=k
  ·obtain ⟨x,hx⟩:=Option.isSome_iff_exists.mp a;rw [if_pos e,e,hx,Xe,if_pos rfl]
  ·rw [if_neg e]
   cases aV kvs j with
   | none=>rfl
   | some x=>rw [Xe,if_neg e]
 ·rw [if_neg a];refine Zo4 k j y kvs ?_;rw [vP] at a
  cases q:aV kvs k with
  | none=>rfl
  | some x=>rw [q] at a;exact (a rfl).elim
theorem BQ (kvs:List (κ×V)) (k:κ) (v:V):(putK kvs k v).length<=kvs.length + 1:=by
 unfold putK
 split
 ·rw [Yb];omega
 ·rw [Yf,Yz,Ybw];omega
theorem bZ.b_ {o:Option V} {u:Option Value} (r:bZ o u):o.isSome=u.isSome:=by
 cases o with
 | none=>cases u with
  | none=>rfl
  | some _=>exact (show False from r).elim
 | some _=>cases u with
  | none=>exact (show False from r).elim
  | some _=>rfl
theorem bZ.getD {o:Option V} {u:Option Value} {d:V} {d':Value} (r:bZ o u) (rd:RelV d d'):RelV (o.getD d) (u.getD d'):=by
 cases o with
 | none=>cases u with
  | none=>exact rd
  | some _=>exact (show False from r).elim
 | some _=>cases u with
  | none=>exact (show False from r).elim
  | some _=>exact r
theorem KV.val {kvs:List (κ×V)} {vs:List (κ×Value)} (r:KV kvs vs) (k:κ):bZ (aV kvs k) (valueAt vs k):=by
 unfold KV at r
 induction r with
 | nil=>exact XX
 | @cons p q ps qs h t ih=>
  obtain ⟨h1,h2⟩:=h
  by_cases e:p.1=k
  ·have e':q.1=k:=h1.symm.trans e;have b:valueAt (q::qs) k=some q.2:=by simp [valueAt,Wb,e']
   rw [kN e,b];exact h2
  ·have e':¬ q.1=k:=fun z=>e (h1.trans z);have b:valueAt (q::qs) k=valueAt qs k:=by simp [valueAt,Wb,e']
   rw [kn e,b];exact ih
theorem KV.any {kvs:List (κ×V)} {vs:List (κ×Value)} (r:KV kvs vs) (k:κ):(kvs.any fun kv=>decide (kv.1=k))=vs.any fun kv=>decide (kv.1=k):=by
 unfold KV at r
 induction r with
 | nil=>rfl
 | cons h t ih=>rw [W4,W4,ih,h.1]
theorem KV.kQ {kvs:List (κ×V)} {vs:List (κ×Value)} (r:KV kvs vs) (k:κ) {y:V} {u:Value} (ry:RelV y u) :
  KV (kvs.map fun kv=>if kv.1=k then (kv.1,y) else kv) (vs.map fun kv=>if kv.1=k then (kv.1,u) else kv):=by
 unfold KV at r ⊢
 induction r with
 | nil=>exact .nil
 | @cons p q ps qs h t ih=>
  rw [Yt,Yt];refine .cons ?_ ih;obtain ⟨h1,h2⟩:=h
  by_cases e:p.1=k
  ·rw [if_pos e,if_pos (h1.symm.trans e)];exact ⟨h1,ry⟩
  ·rw [if_neg e,if_neg (fun z=>e (h1.trans z))];exact ⟨h1,h2⟩
theorem KV.put {kvs:List (κ×V)} {vs:List (κ×Value)} (r:KV kvs vs) (k:κ) {y:V} {u:Value} (ry:RelV y u):KV (putK kvs k y) (stored vs k u):=by
 unfold putK stored;rw [r.any k]
 by_cases e:(vs.any fun kv=>decide (kv.1=k))=true
 ·rw [if_pos e,if_pos e];exact r.kQ k ry
 ·rw [if_neg e,if_neg e];exact YaX r ⟨rfl,ry⟩
theorem KV.drop {kvs:List (κ×V)} {vs:List (κ×Value)} (r:KV kvs vs) (k:κ):KV (gz kvs k) (without vs k):=by
 unfold KV at r ⊢;unfold gz without
 induction r with
 | nil=>exact .nil
 | @cons p q ps qs h t ih=>
  obtain ⟨h1,h2⟩:=h;rw [Ybg,Ybg]
  by_cases e:p.1=k
  ·have a:¬ decide (p.1≠k)=true:=by simp [e]
   have b:¬ decide (q.1≠k)=true:=by simp [h1.symm.trans e]
   rw [if_neg a,if_neg b];exact ih
  ·have e':¬ q.1=k:=fun z=>e (h1.trans z);have a:decide (p.1≠k)=true:=by simp [e]
   have b:decide (q.1≠k)=true:=by simp [e']
   rw [if_pos a,if_pos b];exact .cons ⟨h1,h2⟩ ih
theorem KV.keys {kvs:List (κ×V)} {vs:List (κ×Value)} (r:KV kvs vs):kvs.map (·.1)=vs.map (·.1):=by
 unfold KV at r
 induction r with
 | nil=>rfl
 | cons h t ih=>rw [Yt,Yt,ih,h.1]
theorem KV.length {kvs:List (κ×V)} {vs:List (κ×Value)} (r:KV kvs vs):kvs.length=vs.length:=Xr r
theorem ZwB (kvs:List (κ×V)) (k:κ):(gz kvs k).length<=kvs.length:=XA _ _
end
theorem nq {P:Program} {w:World} {k:Key} {u:Value} (r:RelV (kV k) u):(Z4 P w).is k u=true:=by
 cases k with
 | inl i=>obtain ⟨t,e⟩:=(show ∃ t,u=Value.int i t from r);subst e;exact Zrb P w i t
 | inr x=>obtain ⟨t,e⟩:=(show ∃ t,u=Value.str x t from r);subst e;exact Zra P w x t
theorem Zp3 {P:Program} {w:World}:∀ {ks:List Key} {us:List Value},Vals (ks.map kV) us->ItemsAre (Z4 P w) ks us
 | [],_,r=>by rw [YaD] at r;cases r;exact .nil
 | k::ks,_,r=>by
  rw [Yt] at r
  cases r with
  | cons h t=>exact .cons (nq h) (Zp3 t)
abbrev KT (H:Hp):List (List Key×V)->List (List Key×Addr×Value)->Prop:=WA fun p q=>p.1=q.1/\H q.2.1=some (.tup (p.1.map kV))/\RelV p.2 q.2.2
theorem KT.val {H:Hp} {kvs:List (List Key×V)} {xs:List (List Key×Addr×Value)} (r:KT H kvs xs) (k:List Key):bZ (aV kvs k) ((atKey xs k).map (·.2)):=by
 induction r with
 | nil=>exact XX
 | @cons p q ps qs h t ih=>
  obtain ⟨h1,_,h2⟩:=h
  by_cases e:p.1=k
  ·have e':q.1=k:=h1.symm.trans e;have b:atKey (q::qs) k=some q.2:=by simp [atKey,Wb,e']
   rw [kN e,b];exact h2
  ·have e':¬ q.1=k:=fun z=>e (h1.trans z);have b:atKey (q::qs) k=atKey qs k:=by simp [atKey,Wb,e']
   rw [kn e,b];exact ih
theorem KT.kQ {H:Hp} {kvs:List (List Key×V)} {xs:List (List Key×Addr×Value)} (r:KT H kvs xs) (k:List Key) {y:V} {u:Value} (ry:RelV y u) :
  KT H (kvs.map fun kv=>if kv.1=k then (kv.1,y) else kv) (xs.map (putAt k u)):=by
 induction r with
 | nil=>exact .nil
 | @cons p q ps qs h t ih=>
  rw [Yt,Yt];refine .cons ?_ ih;obtain ⟨h1,h2,h3⟩:=h;unfold putAt
  by_cases e:p.1=k
  ·rw [if_pos e,if_pos (h1.symm.trans e)];exact ⟨h1,h2,ry⟩
  ·rw [if_neg e,if_neg (fun z=>e (h1.trans z))];exact ⟨h1,h2,h3⟩
theorem KT.put {H:Hp} {kvs:List (List Key×V)} {xs:List (List Key×Addr×Value)} (r:KT H kvs xs) (k:List Key) {b:Addr} {y:V} {u:Value} (hb:H b=some (.tup (k.map kV))) (ry:RelV y u) :
  KT H (putK kvs k y) (storedH xs k b u):=by
 have e:(kvs.any fun kv=>decide (kv.1=k))=(atKey xs k).isSome:=by
  rw [vP,(r.val k).b_,Yac]
 unfold putK storedH;rw [e]
 by_cases q:(atKey xs k).isSome=true
 ·rw [if_pos q,if_pos q];exact r.kQ k ry
 ·rw [if_neg q,if_neg q];exact YaX r ⟨rfl,hb,ry⟩
theorem KT.keeps {H H':Hp} {kvs:List (List Key×V)} {xs:List (List Key×Addr×Value)} (r:KT H kvs xs) (ht:∀ b ys,H b=some (.tup ys)->H' b=some (.tup ys)):KT H' kvs xs:=
 Paired.tI r fun _ _ z=>⟨z.1,ht _ _ z.2.1,z.2.2⟩
section
variable {P:Program} {w:World} {H:Hp} {h:Heap} {a:Addr}
theorem Eg {u:HO} (ok:cC P w H h) (e:Rd H a u):bT P w H h a u:=e.ok ok
theorem jq {kvs:List (Key×V)} (ok:cC P w H h) (e:Rd H a (.dK kvs)):kvs.length<=Ym/\(a == Xy)=false/\∃ vs,KV kvs vs/\h.DictOf (Z4 P w) a vs:=
 show bT P w H h a (.dK kvs) from Eg ok e
theorem AS {kvs:List (Key×V)} (ok:cC P w H h) (e:H a=some (.dK kvs)):kvs.length<=Ym/\(a == Xy)=false/\∃ vs,KV kvs vs/\h.DictOf (Z4 P w) a vs:=jq ok (.inl e)
theorem sy {ks:List Key} (ok:cC P w H h) (e:H a=some (.tup (ks.map kV))):(WY (Z4 P w)).is h ks a:=by
 obtain ⟨_,its,r,o,h1,h2,n,h3⟩:=(show bT P w H h a (.tup (ks.map kV)) from ok a _ e)
 exact ⟨o,its.toArray,n,h1,h2,h3,by simpa using Zp3 r⟩
theorem pZ {kvs:List (List Key×V)} (ok:cC P w H h) (e:Rd H a (.dT kvs)):kvs.length<=Ym/\(a == Xy)=false/\
  ∃ xs,KT H kvs xs/\h.DictOfH (WY (Z4 P w)) a xs:=by
 obtain ⟨z,y,xs,r,o,es,ep,h1,h2,h3,h4,h5⟩:=(show bT P w H h a (.dT kvs) from Eg ok e)
 refine ⟨z,y,xs,r,o,es,ep,h1,h2,h3,h4,fun x hx=>?_,h5⟩
 have all:∀ {l:List (List Key×V)} {m:List (List Key×Addr×Value)},KT H l m->∀ x∈m,(WY (Z4 P w)).is h x.1 x.2.1:=by
  intro l m q
  induction q with
  | nil=>intro x hx;exact nomatch hx
  | @cons p q ps qs hq t ih=>
   intro x hx;rcases List.mem_cons.mp hx with e | hx
   ·subst e;exact sy ok (by rw [<- hq.1];exact hq.2.1)
   ·exact ih x hx
 exact all r x hx
theorem ZAq {kvs:List (List Key×V)} (ok:cC P w H h) (e:H a=some (.dT kvs)):kvs.length<=Ym/\(a == Xy)=false/\
  ∃ xs,KT H kvs xs/\h.DictOfH (WY (Z4 P w)) a xs:=pZ ok (.inl e)
end
def aJ (H:Hp) (a:Addr) (y:V) (r:Option V):Prop:=
 (∃ kvs k,Rd H a (.dK kvs)/\y=kV k/\r=aV kvs k)∨∃ kvs k b,Rd H a (.dT kvs)/\y=.ref b/\H b=some (.tup (k.map kV))/\r=aV kvs k
def dU (H:Hp) (a:Addr) (y v:V) (H':Hp):Prop:=
 (∃ kvs k,H a=some (.dK kvs)/\y=kV k/\kvs.length < Ym/\H'=upd H a (.dK (putK kvs k v)))∨
 ∃ kvs k b,H a=some (.dT kvs)/\y=.ref b/\H b=some (.tup (k.map kV))/\kvs.length < Ym/\H'=upd H a (.dT (putK kvs k v))
theorem aJ.k {H:Hp} {a:Addr} {kvs:List (Key×V)} {k:Key} (e:H a=some (.dK kvs)):aJ H a (kV k) (aV kvs k):=.inl ⟨kvs,k,.inl e,rfl,rfl⟩
theorem aJ.t {H:Hp} {a b:Addr} {kvs:List (List Key×V)} {k:List Key} (e:H a=some (.dT kvs)) (eb:H b=some (.tup (k.map kV))):aJ H a (.ref b) (aV kvs k):=.inr ⟨kvs,k,b,.inl e,rfl,eb,rfl⟩
theorem dU.k {H:Hp} {a:Addr} {kvs:List (Key×V)} {k:Key} {v:V} (e:H a=some (.dK kvs)) (hl:kvs.length < Ym):dU H a (kV k) v (upd H a (.dK (putK kvs k v))):=.inl ⟨kvs,k,e,rfl,hl,rfl⟩
theorem dU.t {H:Hp} {a b:Addr} {kvs:List (List Key×V)} {k:List Key} {v:V} (e:H a=some (.dT kvs)) (eb:H b=some (.tup (k.map kV))) (hl:kvs.length < Ym) :
  dU H a (.ref b) v (upd H a (.dT (putK kvs k v))):=.inr ⟨kvs,k,b,e,rfl,eb,hl,rfl⟩
section
variable {X:Cx} {pins:List (Addr×Obj)} {σ:St} {H:Hp} {s:Shared} {a:Addr} {y v:V} {u r:Value} {o:Option V} {A:Around} {E:Value->Shared->Prop}
theorem Inv.big (I:Inv X pins σ H s):Xy < s.heap.objs.size:=by
 have h:Xj < s.heap.objs.size:=(I.mod.glob.keeps I.bk).lt;exact Nat.lt_trans (by decide) h
theorem Zvi {Q:Value->Shared->Prop} (hu:A.units + 1 < cLine) (I:Inv X pins σ H s) (g:aJ H a y (some v)) (ry:RelV y u) (h:∀ w' s',Inv X pins σ H s'->RelV v w'->Q w' s') :
  wpAny (model X.prog X.w) A (getItem (.ref a) u) Q E s:=by
 rcases g with ⟨kvs,k,e,ey,l⟩ | ⟨kvs,k,b,e,ey,eb,l⟩
 ·subst ey;obtain ⟨z,hd,vs,rel,dd⟩:=jq I.aj e;obtain ⟨w',hw,g6⟩:=bZ.some_of (v:=v) (o:=valueAt vs k) (by rw [l];exact rel.val k);exact wpAny_getItem_of (nq ry) dd.mapOf hw (h w' _ (I.tok _) g6)
 ·subst ey
  cases (show u=Value.ref b from ry)
  obtain ⟨z,hd,xs,rel,dd⟩:=pZ I.aj e;obtain ⟨w',hw,g6⟩:=bZ.some_of (v:=v) (o:=(atKey xs k).map (·.2)) (by rw [l];exact rel.val k);obtain ⟨p,hp,eo⟩:=Option.map_eq_some_iff.mp hw;refine wpAny_getItem_heap (Ww hu) (sy I.aj eb) dd hp ?_;rw [eo];exact h w' _ (I.tok _) g6
theorem K' {Q:Value->Shared->Prop} (hu:A.units + 1 < cLine) (I:Inv X pins σ H s) (g:aJ H a y o) (ry:RelV y u) (h:∀ s',Inv X pins σ H s'->Q (.bool o.isSome) s') :
  wpAny (model X.prog X.w) A (XS .In u (.ref a)) Q E s:=by
 rcases g with ⟨kvs,k,e,ey,l⟩ | ⟨kvs,k,b,e,ey,eb,l⟩
 ·subst ey;obtain ⟨z,hd,vs,rel,dd⟩:=jq I.aj e;refine wpAny_in_of (nq ry) hd dd.mapOf ?_;rw [<- (rel.val k).b_,<- l];exact h _ (I.tok _)
 ·subst ey
  cases (show u=Value.ref b from ry)
  obtain ⟨z,hd,xs,rel,dd⟩:=pZ I.aj e;refine wpAny_in_heap (Ww hu) (sy I.aj eb) hd dd ?_;have q:=(rel.val k).b_;rw [Yac] at q;rw [<- q,<- l];exact h _ (I.tok _)
theorem Zyg {Q:Value->Shared->Prop} (hu:A.units + 1 < cLine) (I:Inv X pins σ H s) (g:aJ H a y o) (ry:RelV y u) (h:∀ s',Inv X pins σ H s'->Q (.bool (!o.isSome)) s') :
  wpAny (model X.prog X.w) A (XS .NotIn u (.ref a)) Q E s:=by
 rcases g with ⟨kvs,k,e,ey,l⟩ | ⟨kvs,k,b,e,ey,eb,l⟩
 ·subst ey;obtain ⟨z,hd,vs,rel,dd⟩:=jq I.aj e;refine wpAny_notIn_of (nq ry) hd dd.mapOf ?_;rw [<- (rel.val k).b_,<- l];exact h _ (I.tok _)
 ·subst ey
  cases (show u=Value.ref b from ry)
  obtain ⟨z,hd,xs,rel,dd⟩:=pZ I.aj e;refine wpAny_notIn_heap (Ww hu) (sy I.aj eb) hd dd ?_;have q:=(rel.val k).b_;rw [Yac] at q;rw [<- q,<- l];exact h _ (I.tok _)
theorem Bg {h':Heap} {t':Nat} {ob:HO} (I:Inv X pins σ H s) (mu:yJ (H a)) (hs:Xx a s.heap h') (he:∃ q,h'.get? a=some q) (new:bT X.prog X.w (upd H a ob) h' a ob) :
  Inv X pins σ (upd H a ob) {s with heap:=h',toks:=t'}:=
 I.write (x:=a) (e:=a) mu (.inl rfl) (fun b q hb z=>(hs.2 b hb).trans z) he new
theorem AX {P:Program} {w:World} {H':Hp} {h':Heap} {kvs:List (Key×V)} {vs:List (Key×Value)} (z:kvs.length<=Ym) (hd:(a == Xy)=false) (rel:KV kvs vs) (dd:h'.DictOf (Z4 P w) a vs) :
  bT P w H' h' a (.dK kvs):=⟨z,hd,vs,rel,dd⟩
theorem Zvh {H':Hp} {Q:Unit->Shared->Prop} (hu:A.units + 1 < cLine) (I:Inv X pins σ H s) (g:dU H a y v H') (ry:RelV y u) (rv:RelV v r) (h:∀ s',Inv X pins σ H' s'->Q () s') :
  wpAny (model X.prog X.w) A (setItem (.ref a) u r) Q E s:=by
 rcases g with ⟨kvs,k,e,ey,l,eH⟩ | ⟨kvs,k,b,e,ey,eb,l,eH⟩
 ·subst ey eH;obtain ⟨z,hd,vs,rel,dd⟩:=AS I.aj e;have hz:vs.length<=Ym:=by rw [<- rel.length];exact z
  have hl:(putK kvs k v).length<=Ym:=by have:=BQ kvs k v;omega
  refine wpAny_setItem_pairs (hsz:=hz) (nq ry) dd fun h' fi hs=>h _ ?_;have he:∃ q,h'.get? a=some q:=let ⟨q,_,_,hq,_⟩:=fi;⟨q,hq⟩
  exact Bg I (by rw [e];exact XX) hs he (AX hl hd (rel.put k rv) fi)
 ·subst ey eH
  cases (show u=Value.ref b from ry)
  obtain ⟨z,hd,xs,rel,dd⟩:=ZAq I.aj e;have hz:xs.length<=Ym:=by rw [<- Xr rel];exact z
  have hl:(putK kvs k v).length<=Ym:=by have:=BQ kvs k v;omega
  refine wpAny_setItem_heap (hsz:=hz) (Ww hu) (sy I.aj eb) dd fun h' fi hs=>h _ ?_;obtain ⟨q,es,ep,hq,h2,h3,h4,_,h5⟩:=fi;refine Bg I (by rw [e];exact XX) hs ⟨q,hq⟩ ⟨hl,hd,_,(rel.put k eb rv).keeps fun c ys ec=>?_,q,es,ep,hq,h2,h3,h4,h5⟩;rw [Zf (ZR ec e (fun z=>nomatch z))];exact ec
end
section
variable {X:Cx} {pins:List (Addr×Obj)} {σ:St} {H:Hp} {s:Shared} {a:Addr} {kvs:List (Key×V)} {k:Key} {u:Value} {A:Around} {E:Value->Shared->Prop}
theorem ZzG {v:V} {more:List Value} {Q:Value->Shared->Prop} (I:Inv X pins σ H s) (e:H a=some (.dK kvs)) (ry:RelV (kV k) u) (l:aV kvs k=some v) (hm:more=[]∨∃ x,more=[x])
  (h:∀ w' s',Inv X pins σ (upd H a (.dK (gz kvs k))) s'->RelV v w'->Q w' s'):wpAny (model X.prog X.w) A (call (.builtin "dict.pop") (.ref a::u::more)) Q E s:=by
 obtain ⟨z,hd,vs,rel,dd⟩:=AS I.aj e;obtain ⟨w',hw,g6⟩:=bZ.some_of (v:=v) (o:=valueAt vs k) (by rw [<- l];exact rel.val k)
 have hp:(keyPart u).isSome=true:=by
  cases k with
  | inl i=>obtain ⟨t,q⟩:=(show ∃ t,u=Value.int i t from ry);subst q;rfl
  | inr x=>obtain ⟨t,q⟩:=(show ∃ t,u=Value.str x t from ry);subst q;rfl
 have ha:argsOk "dict.pop" ⟨.ref a::u::more,[]⟩:=by
  rcases hm with q | ⟨x,q⟩
  ·subst q;exact PySem.F.args_dict_pop_2 _ _
  ·subst q;exact PySem.F.args_dict_pop_3 _ _ _
 refine YaB Yah dd.typeIs PySem.F.entry_dict_pop ha (meets_dict_pop_there (Z4 X.prog X.w) a (nq ry) more hm hp)
  ⟨vs,w',dd,by rw [<- rel.length];exact z,hw,fun h' fi hs=>h w' _ ?_ g6⟩
 have he:∃ q,h'.get? a=some q:=let ⟨q,_,_,hq,_⟩:=fi;⟨q,hq⟩
 exact Bg I (by rw [e];exact XX) hs he (AX (Yk (ZwB kvs k) z) hd (rel.drop k) fi)
theorem ZzF {r:Value} {Q:Value->Shared->Prop} (I:Inv X pins σ H s) (e:H a=some (.dK kvs)) (ry:RelV (kV k) u) (l:aV kvs k=none) (h:∀ s',Inv X pins σ H s'->Q r s') :
  wpAny (model X.prog X.w) A (call (.builtin "dict.pop") [.ref a,u,r]) Q E s:=by
 obtain ⟨z,hd,vs,rel,dd⟩:=AS I.aj e;have hn:valueAt vs k=none:=bZ.none_of (by rw [<- l];exact rel.val k)
 have hp:(keyPart u).isSome=true:=by
  cases k with
  | inl i=>obtain ⟨t,q⟩:=(show ∃ t,u=Value.int i t from ry);subst q;rfl
  | inr x=>obtain ⟨t,q⟩:=(show ∃ t,u=Value.str x t from ry);subst q;rfl
 exact YaB Yah dd.typeIs PySem.F.entry_dict_pop (PySem.F.args_dict_pop_3 _ _ _) (meets_dict_pop_default (Z4 X.prog X.w) a (nq ry) hd hp r) ⟨vs,dd,hn,h _ (I.tok _)⟩
theorem ZAs {Q:Value->Shared->Prop} (I:Inv X pins σ H s) (e:Rd H a (.dK kvs)) (h:∀ t s',Inv X pins σ H s'->Q (.int kvs.length t) s'):wpAny (model X.prog X.w) A (call (.builtin "len") [.ref a]) Q E s:=by
 obtain ⟨z,hd,vs,rel,dd⟩:=jq I.aj e;refine call_len_dict hd dd (by rw [<- rel.length];rw [WR] at z;omega) ?_;rw [<- rel.length];exact h _ _ (I.tok _)
end
def zF (i:Expr):Prop:=∀ ov iv,subscripted i false ov iv=operate [ov,iv] (getItem ov iv)
theorem Zxt {prog:Program} {w:World} {A:Around} {E:Value->Shared->Prop} {s:Shared} {env:Env} {value slice:Expr} {pos:Pos} {T id:String} {Q:Value->Shared->Prop}
  (hl:typeLookup (.type T) "__getitem__"=pure (some (.builtin id))) (hs:zF slice)
  (h:wpAny (model prog w) A (eval value env) (fun o aD=>wpAny (model prog w) A (eval slice env) (fun i fN=>fN.TypeIs o T/\wpAny (model prog w) A (getItem o i) Q E fN) E aD) E s) :
  wpAny (model prog w) A (eval (.Subscript value slice pos) env) Q E s:=by
 refine Subscript_ (Xd h (fun o aD oY=>Xd oY (fun i fN mD=>?_) fun _ _ x=>x) fun _ _ x=>x);obtain ⟨hT,mD⟩:=mD;unfold subscriptTail;refine Ya ?_;rw [getitemInPython_of_ne hT.not_modules];refine Ya (wpAny_specialOf hT hl ?_)
 have fin:wpAny (model prog w) A (subscripted slice false o i) (fun r kO=>wpAny (model prog w) A (letTemporaryGo value o r >>= fun _=>pure r) Q E kO) E fN:=by
  rw [hs o i];exact wpAny_operating (Xd mD (fun r kO oX=>Ya (wpAny_letTemporaryGo (Yd oX))) fun _ _ x=>x)
 first
  | exact Yd (Ya fin)
  | exact Ya (Yd (Ya fin))
  | exact Ya fin
theorem Zrp {X:Cx} {pins:List (Addr×Obj)} {σ:St} {H:Hp} {s:Shared} {a:Addr} {y:V} {o:Option V} (I:Inv X pins σ H s) (g:aJ H a y o):s.TypeIs (.ref a) "dict":=by
 rcases g with ⟨kvs,k,e,_,_⟩ | ⟨kvs,k,b,e,_,_,_⟩
 ·obtain ⟨_,_,vs,_,dd⟩:=jq I.aj e;exact dd.typeIs
 ·obtain ⟨_,_,xs,_,dd⟩:=pZ I.aj e;exact dd.typeIs
def Zz6 (td ty:TE):TE:=fun σ H Q=>td σ H fun x H1=>ty σ H1 fun y H2=>∃ a v,x=.ref a/\aJ H2 a y (some v)/\Q v H2
def J4 (ty td:TE):TE:=fun σ H Q=>ty σ H fun y H1=>td σ H1 fun x H2=>∃ a o,x=.ref a/\aJ H2 a y o/\Q (.bl o.isSome) H2
def Zxq (ty td:TE):TE:=fun σ H Q=>ty σ H fun y H1=>td σ H1 fun x H2=>∃ a o,x=.ref a/\aJ H2 a y o/\Q (.bl (!o.isSome)) H2
def Zz9 (td ty tv:TE):TS:=fun D σ H=>tv σ H fun v H1=>td σ H1 fun x H2=>ty σ H2 fun y H3=>∃ a H4,x=.ref a/\dU H3 a y v H4/\D.nx σ H4
section
variable {X:Cx} {o i e value:Expr} {pos pos' JR:Pos} {td ty tv:TE}
theorem jv (hu:X.A.units + 1 < cLine) (ho:PE X o td) (hi:PE X i ty) (hs:zF i):PE X (.Subscript o i pos) (Zz6 td ty):=by
 try unfold PE at *
 intro pins s σ H Q I h;refine Zxt PySem.F.slot_dict_getitem.lookup hs (aH (ho pins s σ H _ I h) fun u s1 ⟨x,H1,I1,rx,q1⟩=>aH (hi pins s1 σ H1 _ I1 q1) fun iv s2 ⟨y,H2,I2,ry,a,v,ex,g,q2⟩=>?_);subst ex;obtain rfl:u=Value.ref a:=rx;exact ⟨Zrp I2 g,Zvi hu I2 g ry fun w' s3 I3 g6=>⟨v,H2,I3,g6,q2⟩⟩
theorem lD (hu:X.A.units + 1 < cLine) (hi:PE X i ty) (ho:PE X o td):PC X .In i o (J4 ty td):=by
 try unfold PE at *
 intro pins s σ H Q I h;refine aH (hi pins s σ H _ I h) fun iv s1 ⟨y,H1,I1,ry,q1⟩=>aH (ho pins s1 σ H1 _ I1 q1) fun u s2 ⟨x,H2,I2,rx,a,ov,ex,g,q2⟩=>?_;subst ex;obtain rfl:u=Value.ref a:=rx;exact K' hu I2 g ry fun s3 I3=>⟨.bl ov.isSome,H2,I3,rfl,q2⟩
theorem vR (hu:X.A.units + 1 < cLine) (hi:PE X i ty) (ho:PE X o td):PC X .NotIn i o (Zxq ty td):=by
 try unfold PE at *
 intro pins s σ H Q I h;refine aH (hi pins s σ H _ I h) fun iv s1 ⟨y,H1,I1,ry,q1⟩=>aH (ho pins s1 σ H1 _ I1 q1) fun u s2 ⟨x,H2,I2,rx,a,ov,ex,g,q2⟩=>?_;subst ex;obtain rfl:u=Value.ref a:=rx;exact Zyg hu I2 g ry fun s3 I3=>⟨.bl (!ov.isSome),H2,I3,rfl,q2⟩
theorem sM (hu:X.A.units + 1 < cLine) (ho:PE X o td) (hi:PE X i ty) (hv:PE X value tv) (hs:swapsWith value (some (.Subscript o i pos')) pos.line X.env=pure false) :
  PS X (.Assign [.Subscript o i pos'] value pos) (Zz9 td ty tv):=by
 try unfold PE at *;try unfold PS at *
 intro pins s σ H D I h;refine wpAny_Assign_Subscript (aH (hv pins s σ H _ I h) fun r s1 ⟨v,H1,I1,rv,q1⟩=>aH (ho pins s1 σ H1 _ I1 q1) fun u s2 ⟨x,H2,I2,rx,q2⟩=>aH (hi pins s2 σ H2 _ I2 q2) fun iv s3 ⟨y,H3,I3,ry,a,H4,ex,g,q3⟩=>?_) hs;subst ex;obtain rfl:u=Value.ref a:=rx;exact Zvh hu I3 g ry rv fun s4 I4=>⟨σ,H4,I4,q3⟩
end
theorem Zsm {P:Program} {w:World} {H:Hp} (h:Heap) (hb:Xy < h.objs.size):bT P w H (h.push {cls:=.type "dict",data:=.dict #[]}) h.objs.size (.dK []):=
 ⟨Yv _,beq_eq_false_iff_ne.mpr (WN (Yu hb)),[],.nil,Heap.DictOf.new h⟩
theorem ZwA {P:Program} {w:World} {H:Hp} (h:Heap) (hb:Xy < h.objs.size):bT P w H (h.push {cls:=.type "dict",data:=.dict #[]}) h.objs.size (.dT []):=
 ⟨Yv _,beq_eq_false_iff_ne.mpr (WN (Yu hb)),[],.nil,_,#[],0,Yi _ rfl,⟨rfl,rfl,rfl⟩,rfl,rfl,YaH⟩
def ZyI:TE:=fun _ H Q=>∀ p,H p=none->Q (.ref p) (upd H p (.dK []))
def ZyH:TE:=fun _ H Q=>∀ p,H p=none->Q (.ref p) (upd H p (.dT []))
section
variable {X:Cx} {pos:Pos}
theorem oJ:PE X (.Dict [] [] pos) ZyI:=by
 try unfold PE at *
 exact fun pins s σ H Q I h=>
  wpAny_Dict_empty ⟨.ref s.heap.objs.size,_,I.laid (a:=s.heap.objs.size) (o:=.dK []) (t':=s.toks) (fun _ _ q=>Yc _ q) (Ye _) (Zsm s.heap I.big),rfl,h _ (I.aj.fresh (Ye _))⟩
theorem ZrW:PE X (.Dict [] [] pos) ZyH:=by
 try unfold PE at *
 exact fun pins s σ H Q I h=>
  wpAny_Dict_empty ⟨.ref s.heap.objs.size,_,I.laid (a:=s.heap.objs.size) (o:=.dT []) (t':=s.toks) (fun _ _ q=>Yc _ q) (Ye _) (ZwA s.heap I.big),rfl,h _ (I.aj.fresh (Ye _))⟩
end
def Et:List (TE×TE)->St->Hp->(List (V×V)->Hp->Prop)->Prop
  | [],_,H,Q=>Q [] H
  | (tk,tv)::r,σ,H,Q=>tk σ H fun x H1=>tv σ H1 fun y H2=>Et r σ H2 fun ps H3=>Q ((x,y)::ps) H3
abbrev VV:List (V×V)->List (Value×Value)->Prop:=WA fun p q=>RelV p.1 q.1/\RelV p.2 q.2
@[irreducible] def tw (X:Cx) (pos:Pos) (keys:List (Option Expr)) (values:List Expr) (nN:List (TE×TE)):Prop:=
 ∀ (pins:List (Addr×Obj)) (s:Shared) (σ:St) (H:Hp) (Q:List (V×V)->Hp->Prop),Inv X pins σ H s->Et nN σ H Q->
  wpAny (model X.prog X.w) X.A (evalPairs (pairTrees keys values X.env pos)) (fun vs s'=>∃ ps H',Inv X pins σ H' s'/\VV ps vs/\Q ps H') X.xe s
theorem ZxL {X:Cx} {pos:Pos}:tw X pos [] [] []:=by
 try unfold tw at *
 exact fun pins s σ H Q I h=>pairTrees_nil_walk ⟨[],H,I,.nil,h⟩
theorem Zv2 {X:Cx} {pos:Pos} {k v:Expr} {ks:List (Option Expr)} {vs:List Expr} {tk tv:TE} {nN:List (TE×TE)} (hk:PE X k tk) (hv:PE X v tv) (hr:tw X pos ks vs nN) :
  tw X pos (some k::ks) (v::vs) ((tk,tv)::nN):=by
 try unfold PE at *;try unfold tw at *
 exact fun pins s σ H Q I h=>
  pairTrees_cons_walk (aH (hk pins s σ H _ I h) fun u s1 ⟨x,H1,I1,rx,q1⟩=>aH (hv pins s1 σ H1 _ I1 q1) fun w2 s2 ⟨y,H2,I2,ry,q2⟩=>
   aH (hr pins s2 σ H2 _ I2 q2) fun ws s3 ⟨ps,H3,I3,rel,q3⟩=>⟨(x,y)::ps,H3,I3,.cons ⟨rx,ry⟩ rel,q3⟩)
def vm (kvs more:List (Key×V)):List (Key×V):=more.foldl (fun acc kv=>putK acc kv.1 kv.2) kvs
theorem KV.merge:∀ {more:List (Key×V)} {rs:List (Key×Value)} {kvs:List (Key×V)} {vs:List (Key×Value)},KV more rs->KV kvs vs->KV (vm kvs more) (merged vs rs):=by
 intro more rs kvs vs r;unfold KV at r
 induction r generalizing kvs vs with
 | nil=>intro q;exact q
 | @cons p q ps qs h t ih=>
  intro r0
  have e:KV (putK kvs p.1 p.2) (stored vs q.1 q.2):=by
   have:=r0.put p.1 h.2
   rw [<- h.1];exact this
  exact ih e
theorem Zh3:∀ (more kvs:List (Key×V)),(vm kvs more).length<=kvs.length + more.length
 | [],kvs=>by show kvs.length<=kvs.length + 0;omega
 | p::r,kvs=>by
  have h1:=Zh3 r (putK kvs p.1 p.2);have h2:=BQ kvs p.1 p.2;show (vm (putK kvs p.1 p.2) r).length<=_;rw [Yz];omega
theorem Zns {P:Program} {w:World}:∀ {kvs:List (Key×V)} {ws:List (Value×Value)},VV (kvs.map fun kv=>(kV kv.1,kv.2)) ws->∃ rs,Carries (Z4 P w) ws rs/\KV kvs rs
 | [],_,r=>by rw [YaD] at r;cases r;exact ⟨[],XX,.nil⟩
 | p::kvs,_,r=>by
  rw [Yt] at r
  cases r with
  | @cons a b as bs h t=>
   obtain ⟨rs,c,q⟩:=Zns (P:=P) (w:=w) t;obtain ⟨b1,b2⟩:=b;exact ⟨(p.1,b2)::rs,⟨nq h.1,rfl,c⟩,.cons ⟨rfl,h.2⟩ q⟩
def Zz5 (nN:List (TE×TE)):TE:=fun σ H Q=>∀ p,H p=none->Et nN σ (upd H p (.dK [])) fun ps H2=>H2 p=some (.dK [])/\∃ kvs:List (Key×V),ps=kvs.map (fun kv=>(kV kv.1,kv.2))/\kvs.length<=15/\Q (.ref p) (upd H2 p (.dK (vm [] kvs)))
theorem ZxN {X:Cx} {pos:Pos} {keys:List (Option Expr)} {values:List Expr} {nN:List (TE×TE)} (h:tw X pos keys values nN) (t8:keys.all (·.isSome)=true) (hl:keys.length=values.length) (h0:keys≠[])
  (h15:keys.length<=15):PE X (.Dict keys values pos) (Zz5 nN):=by
 try unfold PE at *;try unfold tw at *
 intro pins s σ H Q I q;have hn:=I.aj.fresh (Ye s.heap.objs.size);have I1:=I.laid (a:=s.heap.objs.size) (o:=.dK []) (h':=s.heap.push {cls:=.type "dict",data:=.dict #[]}) (t':=s.toks) (fun _ _ q=>Yc _ q) (Ye _) (Zsm s.heap I.big);refine wpAny_Dict_walk (knd:=Z4 X.prog X.w) t8 hl h0 h15 (aH (h pins _ σ _ _ I1 (q _ hn)) fun ws s2 ⟨ps,H2,I2,rel,e,kvs,ep,lk,q2⟩=>?_);subst ep;obtain ⟨rs,c,rk⟩:=Zns (P:=X.prog) (w:=X.w) rel;obtain ⟨z,hd,vs0,r0,dd⟩:=AS I2.aj e
 cases r0
 refine ⟨rs,c,dd,fun h' fi hs=>⟨.ref s.heap.objs.size,_,?_,rfl,q2⟩⟩
 have hz:(vm [] kvs).length<=Ym:=by
  have h1:=Zh3 kvs [];rw [Ybw] at h1;rw [WR];omega
 have he:∃ q,h'.get? s.heap.objs.size=some q:=let ⟨q,_,_,hq,_⟩:=fi;⟨q,hq⟩
 exact Bg I2 (by rw [e];exact XX) hs he (AX hz hd (rk.merge .nil) fi)
structure M1 (X:Cx) (o:Expr) (m:Str) (apos:Pos) (e:Expr) (aU:Pos):Prop where
 base:W2 o m X.env (eval o X.env)=eval o X.env
 hJ:((Wi aU (Yx [e] X.env)).all (fun x=>!x.1) && (backToKw aU (YaW [] X.env)).all (fun x=>x.1.isSome)
  && decide (([e]:List Expr).length + ([]:List Keyword).length + (if ([]:List Keyword).isEmpty then 0 else 1) < 30))=true
 line:(apos.endLine == aU.line)=true
 trees:Wi aU (Yx [e] X.env)=[(false,eval e X.env)]
structure M2 (X:Cx) (o:Expr) (m:Str) (apos:Pos) (e f:Expr) (aU:Pos):Prop where
 base:W2 o m X.env (eval o X.env)=eval o X.env
 hJ:((Wi aU (Yx [e,f] X.env)).all (fun x=>!x.1) && (backToKw aU (YaW [] X.env)).all (fun x=>x.1.isSome)
  && decide (([e,f]:List Expr).length + ([]:List Keyword).length + (if ([]:List Keyword).isEmpty then 0 else 1) < 30))=true
 line:(apos.endLine == aU.line)=true
 trees:Wi aU (Yx [e,f] X.env)=[(false,eval e X.env),(false,eval f X.env)]
def yO (H:Hp) (a:Addr):Prop:=(∃ kvs,Rd H a (.dK kvs))∨∃ kvs,Rd H a (.dT kvs)
theorem A_ {X:Cx} {pins:List (Addr×Obj)} {σ:St} {H:Hp} {s:Shared} {a:Addr} (I:Inv X pins σ H s) (d:yO H a) :
  s.TypeIs (.ref a) "dict"/\(∀ b,Value.ref a=.ref b->∃ ob,s.heap.get? b=some ob/\ob.dict=none)/\(a == Xy)=false:=by
 rcases d with ⟨kvs,e⟩ | ⟨kvs,e⟩
 ·obtain ⟨_,hd,vs,_,dd⟩:=jq I.aj e;refine ⟨dd.typeIs,fun b q=>?_,hd⟩
  cases q
  obtain ⟨ob,_,_,h1,h2,_⟩:=dd;exact ⟨ob,h1,h2.2.1⟩
 ·obtain ⟨_,hd,xs,_,dd⟩:=pZ I.aj e;refine ⟨dd.typeIs,fun b q=>?_,hd⟩
  cases q
  obtain ⟨ob,_,_,h1,h2,_⟩:=dd;exact ⟨ob,h1,h2.2.1⟩
section
variable {X:Cx} {pins:List (Addr×Obj)} {σ:St} {H:Hp} {s:Shared} {a:Addr} {y d:V} {u r:Value} {o:Option V} {A:Around} {E:Value->Shared->Prop}
theorem ZzI {Q:Value->Shared->Prop} (hu:A.units + 1 < cLine) (I:Inv X pins σ H s) (g:aJ H a y o) (ry:RelV y u) (h:∀ w' s',Inv X pins σ H s'->RelV (o.getD .aL) w'->Q w' s') :
  wpAny (model X.prog X.w) A (call (.builtin "dict.get") [.ref a,u]) Q E s:=by
 rcases g with ⟨kvs,k,e,ey,l⟩ | ⟨kvs,k,b,e,ey,eb,l⟩
 ·subst ey;obtain ⟨z,hd,vs,rel,dd⟩:=jq I.aj e;refine YaB X5 dd.typeIs Yaa (PySem.F.args_dict_get_2 _ _) (meets_dict_get (Z4 X.prog X.w) a (nq ry) hd) ⟨_,dd.mapOf,h _ _ (I.tok _) ?_⟩;rw [l];exact (rel.val k).getD rfl
 ·subst ey
  cases (show u=Value.ref b from ry)
  obtain ⟨z,hd,xs,rel,dd⟩:=pZ I.aj e;refine YaB X5 dd.typeIs Yaa (PySem.F.args_dict_get_2 _ _) (meetsH_dict_get (WY (Z4 X.prog X.w)) a b hd) ⟨Ww hu,k,xs,sy I.aj eb,dd,h _ _ (I.tok _) ?_⟩;rw [l];exact (rel.val k).getD rfl
theorem ZzH {Q:Value->Shared->Prop} (hu:A.units + 1 < cLine) (I:Inv X pins σ H s) (g:aJ H a y o) (ry:RelV y u) (rd:RelV d r) (h:∀ w' s',Inv X pins σ H s'->RelV (o.getD d) w'->Q w' s') :
  wpAny (model X.prog X.w) A (call (.builtin "dict.get") [.ref a,u,r]) Q E s:=by
 rcases g with ⟨kvs,k,e,ey,l⟩ | ⟨kvs,k,b,e,ey,eb,l⟩
 ·subst ey;obtain ⟨z,hd,vs,rel,dd⟩:=jq I.aj e;refine YaB X5 dd.typeIs Yaa (PySem.F.args_dict_get_3 _ _ _) (meets_dict_get_default (Z4 X.prog X.w) a (nq ry) hd r) ⟨_,dd.mapOf,h _ _ (I.tok _) ?_⟩;rw [l];exact (rel.val k).getD rd
 ·subst ey
  cases (show u=Value.ref b from ry)
  obtain ⟨z,hd,xs,rel,dd⟩:=pZ I.aj e;refine YaB X5 dd.typeIs Yaa (PySem.F.args_dict_get_3 _ _ _) (meetsH_dict_get_default (WY (Z4 X.prog X.w)) a b hd r) ⟨Ww hu,k,xs,sy I.aj eb,dd,h _ _ (I.tok _) ?_⟩;rw [l];exact (rel.val k).getD rd
end
def ZyK (td ty:TE):TE:=fun σ H Q=>td σ H fun x H1=>∃ a,x=.ref a/\yO H1 a/\ty σ H1 fun y H2=>∃ o,aJ H2 a y o/\Q (o.getD .aL) H2
def ZyJ (td ty tx:TE):TE:=fun σ H Q=>td σ H fun x H1=>∃ a,x=.ref a/\yO H1 a/\ty σ H1 fun y H2=>tx σ H2 fun z H3=>∃ o,aJ H3 a y o/\Q (o.getD z) H3
def ZyG (td ty:TE):TE:=fun σ H Q=>td σ H fun x H1=>∃ a,x=.ref a/\yO H1 a/\ty σ H1 fun y H2=>∃ kvs k v,H2 a=some (.dK kvs)/\y=kV k/\aV kvs k=some v/\Q v (upd H2 a (.dK (gz kvs k)))
def ZyF (td ty tx:TE):TE:=fun σ H Q=>td σ H fun x H1=>∃ a,x=.ref a/\yO H1 a/\ty σ H1 fun y H2=>tx σ H2 fun z H3=>∃ kvs k,H3 a=some (.dK kvs)/\y=kV k/\
 (∀ v,aV kvs k=some v->Q v (upd H3 a (.dK (gz kvs k))))/\(aV kvs k=none->Q z H3)
section
variable {X:Cx} {o e f:Expr} {apos aU:Pos} {td ty tx:TE}
theorem Zv5 (hu:X.A.units + 1 < cLine) (ho:PE X o td) (he:PE X e ty) (m:M1 X o "get" apos e aU):PE X (.Call (.Attribute o "get" apos) [e] [] aU) (ZyK td ty):=by
 try unfold PE at *
 intro pins s σ H Q I h;refine YaS m.base m.hJ m.line YW X5 PySem.F.type_dict_get (aH (ho pins s σ H _ I h) fun u s1 ⟨x,H1,I1,rx,a,ex,d,q1⟩=>?_);subst ex;obtain rfl:u=Value.ref a:=rx;obtain ⟨t1,t2,_⟩:=A_ I1 d;refine ⟨t1,t2,?_⟩;rw [m.trees];refine XZ rfl (Wg (XD (aH (he pins s1 σ H1 _ I1 q1) fun iv s2 ⟨y,H2,I2,ry,ov,g,q2⟩=>WJ ?_)));exact ZzI hu I2 g ry fun w' s3 I3 g6=>⟨_,H2,I3,g6,q2⟩
theorem Fj (hu:X.A.units + 1 < cLine) (ho:PE X o td) (he:PE X e ty) (hf:PE X f tx) (m:M2 X o "get" apos e f aU):PE X (.Call (.Attribute o "get" apos) [e,f] [] aU) (ZyJ td ty tx):=by
 try unfold PE at *
 intro pins s σ H Q I h;refine YaS m.base m.hJ m.line YW X5 PySem.F.type_dict_get (aH (ho pins s σ H _ I h) fun u s1 ⟨x,H1,I1,rx,a,ex,d,q1⟩=>?_);subst ex;obtain rfl:u=Value.ref a:=rx;obtain ⟨t1,t2,_⟩:=A_ I1 d;refine ⟨t1,t2,?_⟩;rw [m.trees]
 refine XZ rfl (Wg (XD (aH (he pins s1 σ H1 _ I1 q1) fun iv s2 ⟨y,H2,I2,ry,q2⟩=>
  XD (aH (hf pins s2 σ H2 _ I2 q2) fun fv s3 ⟨z,H3,I3,rz,ov,g,q3⟩=>WJ ?_))))
 exact ZzH hu I3 g ry rz fun w' s4 I4 g6=>⟨_,H3,I4,g6,q3⟩
theorem ZrV (ho:PE X o td) (he:PE X e ty) (m:M1 X o "pop" apos e aU):PE X (.Call (.Attribute o "pop" apos) [e] [] aU) (ZyG td ty):=by
 try unfold PE at *
 intro pins s σ H Q I h;refine YaS m.base m.hJ m.line YW Yah PySem.F.type_dict_pop (aH (ho pins s σ H _ I h) fun u s1 ⟨x,H1,I1,rx,a,ex,d,q1⟩=>?_);subst ex;obtain rfl:u=Value.ref a:=rx;obtain ⟨t1,t2,_⟩:=A_ I1 d;refine ⟨t1,t2,?_⟩;rw [m.trees];refine XZ rfl (Wg (XD (aH (he pins s1 σ H1 _ I1 q1) fun iv s2 ⟨y,H2,I2,ry,kvs,k,v,ea,ey,l,q2⟩=>WJ ?_)));subst ey;exact ZzG I2 ea ry l (.inl rfl) fun w' s3 I3 g6=>⟨v,_,I3,g6,q2⟩
theorem ZrU (ho:PE X o td) (he:PE X e ty) (hf:PE X f tx) (m:M2 X o "pop" apos e f aU):PE X (.Call (.Attribute o "pop" apos) [e,f] [] aU) (ZyF td ty tx):=by
 try unfold PE at *
 intro pins s σ H Q I h;refine YaS m.base m.hJ m.line YW Yah PySem.F.type_dict_pop (aH (ho pins s σ H _ I h) fun u s1 ⟨x,H1,I1,rx,a,ex,d,q1⟩=>?_);subst ex;obtain rfl:u=Value.ref a:=rx;obtain ⟨t1,t2,_⟩:=A_ I1 d;refine ⟨t1,t2,?_⟩;rw [m.trees]
 refine XZ rfl (Wg (XD (aH (he pins s1 σ H1 _ I1 q1) fun iv s2 ⟨y,H2,I2,ry,q2⟩=>
  XD (aH (hf pins s2 σ H2 _ I2 q2) fun fv s3 ⟨z,H3,I3,rz,kvs,k,ea,ey,q3,q4⟩=>WJ ?_))))
 subst ey
 cases l:aV kvs k with
 | some v=>exact ZzG I3 ea ry l (.inr ⟨fv,rfl⟩) fun w' s4 I4 g6=>⟨v,_,I4,g6,q3 v l⟩
 | none=>exact ZzF I3 ea ry l fun s4 I4=>⟨z,H3,I4,rz,q4 l⟩
end
section
variable {X:Cx} {pins:List (Addr×Obj)} {σ:St} {H:Hp} {s:Shared} {a:Addr} {kvs:List (Key×V)} {A:Around} {E:Value->Shared->Prop}
theorem ZwF {Q:Value->Shared->Prop} (I:Inv X pins σ H s) (e:Rd H a (.dK kvs)) (h:∀ p s',H p=none->Inv X pins σ (upd H p (.dK kvs)) s'->Q (.ref p) s'):wpAny (model X.prog X.w) A (call (.type "dict") [.ref a]) Q E s:=by
 obtain ⟨z,hd,vs,rel,dd⟩:=jq I.aj e;refine kt_call_dict hd dd (by rw [<- rel.length];exact z) fun h' fi hs=>?_;refine h _ _ (I.aj.fresh (Ye _)) (I.laid (a:=s.heap.objs.size) (o:=.dK kvs) (t':=s.toks) (fun b q hq=>?_) (Ye _) (AX z (beq_eq_false_iff_ne.mpr (WN (Yu I.big))) rel fi));exact (hs.2 b (Yu (Yj hq))).trans (Yc _ hq)
end
section
variable {X:Cx} {pins:List (Addr×Obj)} {σ:St} {H:Hp} {s:Shared} {a:Addr} {y:V} {u:Value} {A:Around} {E:Value->Shared->Prop}
end
end L2
namespace L2
open PySem PySem.Spec PyProof.Rows
section
variable {X:Cx}
theorem FT:eN X (.builtin "len") (fun xs H Q=>∃ a kvs,xs=[V.ref a]/\H a=some (.dK kvs)/\Q (.int kvs.length) H):=by
 intro pins s σ H xs us Q I r h;obtain ⟨a,kvs,rfl,ha,q⟩:=h;obtain ⟨u,rfl,ru⟩:=sk r
 cases ru
 exact ZAs I (.inl ha) fun t s' I'=>⟨.int kvs.length,H,I',⟨t,rfl⟩,q⟩
end
section
variable {κ:Type} [DecidableEq κ]
theorem Zva {p:κ×V} {r:List (κ×V)} {k:κ} (e:p.1=k):gz (p::r) k=gz r k:=by
 unfold gz;rw [Ybg,if_neg (by simp [e])]
theorem Zql {p:κ×V} {r:List (κ×V)} {k:κ} (e:¬ p.1=k):gz (p::r) k=p::gz r k:=by
 unfold gz;rw [Ybg,if_pos (by simp [e])]
theorem Zsk:∀ {kvs:List (κ×V)} {k:κ},¬ k∈kvs.map (·.1)->gz kvs k=kvs
 | [],_,_=>rfl
 | p::r,k,h=>by
  have h':¬ k∈r.map (·.1):=fun m=>by
   obtain ⟨q,hq,e⟩:=List.mem_map.mp m;exact h (List.mem_map.mpr ⟨q,List.mem_cons.mpr (Or.inr hq),e⟩)
  rw [Zql fun e=>h (List.mem_map.mpr ⟨p,List.mem_cons.mpr (Or.inl rfl),e⟩),Zsk h']
end
end L2
namespace L2
open PySem PySem.Spec PyProof.Rows PySem.W
section
variable {X:Cx}
theorem Zmz:nK X "str.startswith" (fun x vs H Q=>∃ a b,x=.str a/\vs=[.str b]/\Q (.bl (decide (0 + b.length<=a.length) && WK a b 0)) H):=by
 intro pins s σ H x xs v us Q I rx rs h;obtain ⟨a,b,rfl,rfl,q⟩:=h;obtain ⟨t,rfl⟩:=rx;obtain ⟨u,rfl,ru⟩:=rs.one;obtain ⟨tk,rfl⟩:=ru;exact call_gives F.slot_str_startswith (Yam _ _ _) F.entry_str_startswith (F.args_str_startswith_2 _ _) (gives_str_startswith a b t tk) ⟨.bl _,H,I,rfl,q⟩
theorem ZuA:nK X "str.index" (fun x vs H Q=>∃ a b i rest,x=.str a/\vs=[.str b]/\YX a b 0 a.length 1=i::rest/\Q (.int (i:Nat)) H):=by
 intro pins s σ H x xs v us Q I rx rs h;obtain ⟨a,b,i,rest,rfl,rfl,e,q⟩:=h;obtain ⟨t,rfl⟩:=rx;obtain ⟨u,rfl,ru⟩:=rs.one;obtain ⟨tk,rfl⟩:=ru;exact call_gives F.slot_str_index (Yam _ _ _) F.entry_str_index (F.args_str_index_2 _ _) (gives_str_index a b t tk i rest e) ⟨.int _,H,I.tok _,⟨_,rfl⟩,q⟩
def ki (a b:Str):List Str:=
 if (decide (a.length < b.length) || decide (Yaz a < Yaz b))=true then [a]
 else if (YX a b 0 a.length (a.length + 1)).isEmpty=true then [a]
 else W0 a (YX a b 0 a.length (a.length + 1)) b.length
theorem Zhs:∀ (ps:List Str) (n:Nat),Vals (ps.map V.str) (strsFrom n ps)
 | [],_=>.nil
 | p::r,n=>.cons ⟨_,rfl⟩ (Zhs r (n + 1))
theorem Zuz:nK X "str.split" (fun x vs H Q=>∃ a b,x=.str a/\vs=[.str b]/\(b.length == 0)=false/\a.length<=Ym/\(ki a b).length<=Ym/\∀ p,H p=none->Q (.ref p) (upd H p (.lst ((ki a b).map V.str)))):=by
 intro pins s σ H x xs v us Q I rx rs h;obtain ⟨a,b,rfl,rfl,hb,ha,hz,q⟩:=h;obtain ⟨t,rfl⟩:=rx;obtain ⟨u,rfl,ru⟩:=rs.one;obtain ⟨tk,rfl⟩:=ru
 have one:ki a b=[a]->EP X pins σ Q (.ref s.heap.objs.size) {s with heap:=s.heap.push {cls:=.type "list",data:=.seq [Value.str a t].toArray}}:=fun e=>by
  have qq:=q _ I.fresh;rw [e] at qq;exact ⟨.ref _,_,I.mC (t':=s.toks) (ys:=[V.str a]) (its:=[Value.str a t]) (.cons ⟨t,rfl⟩ .nil) (by show 1<=Ym;decide),rfl,qq⟩
 cases h1:(decide (a.length < b.length) || decide (Yaz a < Yaz b)) with
 | true=>exact XF F.slot_str_split (Yam _ _ _) F.entry_str_split (YbT _ _) (meets_str_split_cannot_occur a b t tk h1) (one (by unfold ki;rw [if_pos h1]))
 | false=>
  cases h2:(YX a b 0 a.length (a.length + 1)).isEmpty with
  | true=>exact XF F.slot_str_split (Yam _ _ _) F.entry_str_split (YbT _ _) (meets_str_split_not_found a b t tk h1 hb h2) (one (by unfold ki;rw [if_neg (by rw [h1];exact Yp),if_pos h2]))
  | false=>
   have e:ki a b=W0 a (YX a b 0 a.length (a.length + 1)) b.length:=by
    unfold ki;rw [if_neg (by rw [h1];exact Yp),if_neg (by rw [h2];exact Yp)]
   refine XF F.slot_str_split (Yam _ _ _) F.entry_str_split (YbT _ _) (meets_str_split_sep a b t tk h1 hb h2 ha (by rw [<- e];exact hz)) ?_;rw [<- e];exact ⟨.ref _,_,I.mC (Zhs _ _) (by rw [Yb];exact hz),rfl,q _ I.fresh⟩
def kX (x:Str) (lo hi:Option Int):Str:=
 if ((WH lo hi 1 x.length).length == x.length)=true then x else ⟨((WH lo hi 1 x.length).filterMap (x.cps[·]?)).toArray⟩
theorem Zuo {v:Value} {o:Option Int} (p:IsPart v o):∃ q:Option (Int×Tok),v=partValue q/\q.map (·.1)=o:=by
 cases p with
 | none=>exact ⟨none,rfl,rfl⟩
 | int i t=>exact ⟨some (i,t),rfl,rfl⟩
theorem ZyZ:yI X (fun x lo hi H Q=>∃ a,x=.str a/\(kX a lo hi).length<=Ym/\Q (.str (kX a lo hi)) H):=by
 intro pins s σ H x v vl vu lo hi sl Q I rx hs pl pu h;obtain ⟨a,rfl,hz,q⟩:=h;obtain ⟨t,rfl⟩:=rx;obtain ⟨l,rfl,rfl⟩:=Zuo pl;obtain ⟨u,rfl,rfl⟩:=Zuo pu;refine ⟨"str",_,F.slot_str_getitem.lookup,Yam _ _ _,?_⟩;refine getItem_meets (Yam s a t) (by decide) F.slot_str_getitem F.entry_str_getitem (F.args_str_getitem_2 _ _) (meets_str_getitem_slice a t sl l u none rfl) ⟨hs,?_⟩;unfold kX at hz q;unfold sliceMade slicePicked
 by_cases hw:((WH (l.map (·.1)) (u.map (·.1)) 1 a.length).length == a.length)=true
 ·rw [if_pos hw] at hz q;rw [if_pos (by show (true && _)=true;rw [Bool.true_and];exact hw)];exact ⟨.str a,H,I,⟨t,rfl⟩,q⟩
 ·rw [if_neg hw] at hz q;rw [if_neg (by show ¬ (true && _)=true;rw [Bool.true_and];exact hw)];exact ⟨hz,.str _,H,I.tok _,⟨_,rfl⟩,q⟩
def PJ (X:Cx) (es:List Expr) (t:Str->St->Hp->VK->Prop):Prop:=
 ∀ (acc:Str) (pins:List (Addr×Obj)) (s:Shared) (σ:St) (H:Hp) (Q:VK),Inv X pins σ H s->t acc σ H Q->wpAny (model X.prog X.w) X.A (joinParts acc (evalEach es X.env)) (EP X pins σ Q) X.xe s
theorem vw:PJ X [] (fun acc _ H Q=>acc.length<=Ym/\Q (.str acc) H):=fun acc pins s σ H Q I h=>
 joinParts_nil ⟨.str acc,H,I.tok _,⟨_,rfl⟩,h.2⟩ h.1
theorem vx {y:Str} {j pos} {es:List Expr} {t:Str->St->Hp->VK->Prop} (h:PJ X es t):PJ X (.Constant (.str y) j pos::es) (fun acc σ H Q=>(acc++y).length<=Ym/\t (acc++y) σ H Q):=fun acc pins s σ H Q I hq=>
 joinParts_cons (Calls.Constant_str ⟨hq.1,h _ pins _ σ H Q (I.tok _) hq.2⟩)
theorem vy {e:Expr} {pos} {es:List Expr} {te:TE} {t:Str->St->Hp->VK->Prop} (he:PE X e te) (h:PJ X es t):PJ X (.FormattedValue e (-1) none pos::es) (fun acc σ H Q=>te σ H fun x H1=>∃ y,x=.str y/\y.length<=Ym/\(acc++y).length<=Ym/\t (acc++y) σ H1 Q):=by
 try unfold PE at *
 exact fun acc pins s σ H Q I hq=>by
  refine joinParts_cons (FormattedValue_plain (aH (he pins s σ H _ I hq) fun u s1 ⟨x,H1,I1,rx,y,ex,hy,hz,q1⟩=>?_));subst ex;obtain ⟨t,rfl⟩:=rx;exact formatField_str (fun t' tk=>⟨hz,h _ pins _ σ H1 Q (I1.tok _) q1⟩) hy
theorem vz {e f:Expr} {es:List Expr} {pos:Pos} {t:Str->St->Hp->VK->Prop} (h:PJ X (e::f::es) t):PE X (.JoinedStr (e::f::es) pos) (fun σ H Q=>t Str.empty σ H Q):=by
 try unfold PE at *
 exact fun pins s σ H Q I hq=>
  JoinedStr_many (h Str.empty pins s σ H Q I hq)
theorem ZwN {bs:List Bool} {its:List Value} (r:Vals (bs.map V.bl) its) {i:Nat} {v:Value} (h:its.toArray[i]?=some v):v=.bool (bs.getD i false):=by
 have h':its[i]?=some v:=by simpa using h
 have hl:=r.length;rw [Yb] at hl
 have hi:i < bs.length:=by
  have:=(List.getElem?_eq_some_iff.mp h').1
  omega
 obtain ⟨u,e,ru⟩:=r.get (i:=i) (x:=.bl (bs.getD i false)) (by rw [Yo,Ys,Yh hi];rfl);rw [h'] at e
 cases e
 exact ru
theorem Zug (bs:List Bool):((List.range bs.length).all fun i=>bs.getD i false)=bs.all id:=by
 rw [WE,List.all_eq_true,List.all_eq_true]
 constructor
 ·intro h b hb;obtain ⟨i,hi,rfl⟩:=List.mem_iff_getElem.mp hb
  have:=h i (List.mem_range.mpr hi)
  rwa [Ys,Yh hi] at this
 ·intro h i hi;have hi:=List.mem_range.mp hi;rw [Ys,Yh hi];exact h _ (Ybe hi)
theorem Zsr (hc:X.calm=true:=by rfl):eN X (.builtin "all") (fun xs H Q=>∃ (p:Addr) (bs:List Bool),xs=[.ref p]/\ar X.K H p (bs.map V.bl)/\Q (.bl (bs.all id)) H):=by
 intro pins s σ H xs us Q I r h;obtain ⟨p,bs,rfl,hp,q⟩:=h;obtain ⟨u,rfl,ru⟩:=r.one
 cases (show u=Value.ref p from ru)
 obtain ⟨its,rv,pl,hz⟩:=I.list hp;have hlen:its.toArray.size=bs.length:=by rw [Yn,<- rv.length,Yb]
 refine call_all_walk (wpAny_pyIter_list pl.isList ?_);have bq:p < s.heap.objs.size:=by obtain ⟨o,ho,_⟩:=pl.isList;exact Yj ho
 refine ⟨s.heap.objs.size,_,_,_,_,_,fun i=>bs.getD i false,rfl,Walks.list (A:=X.A.in1) (I.ok.hd hc) s.heap.objs.size p (Yu bq) its.toArray,⟨⟨_,Yi _ rfl,rfl,rfl⟩,pl.isList.at fun o e=>Yc _ e⟩,fun i v s' Q' E' hv hQ=>?_,fun h' tk hk=>?_⟩
 ·rw [ZwN rv hv];exact WI hQ
 ·rw [hlen,Zug];exact ⟨.bl _,H,I.kept fun b o e=>hk b o (by intro z;rw [List.mem_singleton.mp z] at e;exact absurd (Yj e) (YN _)) (Yc _ e),rfl,q⟩
theorem ZwI (hc:X.calm=true:=by rfl):eN X (.builtin "sum") (fun xs H Q=>∃ (p:Addr) (ns:List Int),xs=[.ref p]/\ar X.K H p (ns.map V.int)/\Q (.int ns.sum) H):=by
 intro pins s σ H xs us Q I r h;obtain ⟨p,ns,rfl,hp,q⟩:=h;obtain ⟨u,rfl,ru⟩:=r.one
 cases (show u=Value.ref p from ru)
 obtain ⟨its,rv,pl,hz⟩:=I.list hp;have hi:IntsAre its ns:=Znj rv;obtain ⟨xs,e⟩:=hi.allInts.items;have hn:=hi.numsOf;refine sum_intListG (xs:=xs) (I.ok.hd hc) (by rw [<- e];exact pl.isList) fun h' tk t' hk=>?_
 have hs:preSum (numAt xs) xs.size=ns.sum:=by
  rw [preSum_eq,YS (by simp),<- hn,<- nums_intItems,<- e]
 rw [hs];exact ⟨.int _,H,I.kept hk,⟨_,rfl⟩,q⟩
end
end L2
namespace L2
open PySem PySem.Spec PyProof.Rows PySem.W
def j7:HO->Bool
 | .dK _=>true
 | .dT _=>true
 | _=>false
def gA:HO->List V
 | .dK kvs=>kvs.map (·.2)
 | .dT kvs=>kvs.map (·.2)
 | _=>[]
section
variable {X:Cx} {pins:List (Addr×Obj)} {σ:St} {H:Hp} {s:Shared} {a:Addr} {o u:HO}
theorem Inv.swap (I:Inv X pins σ H s) (h:H a=some u) (new:bT X.prog X.w (upd H a o) s.heap a o) (h1:∀ x,u≠.own x) (h2:∀ xs,u≠.tup xs) (h3:∀ ps,u≠.cM ps) (h4:∀ ob v,X.aN a≠some (.bt ob v)):Inv X pins σ (upd H a o) s:=by
 have bY:∀ b,H b=none->b≠a:=fun b n z=>by rw [z,h] at n;cases n
 refine ⟨I.ok,I.os,I.bare,⟨I.base.keep,I.base.slot,fun b ob e n hx=>?_,I.base.there,fun b xs e=>?_,fun b ob v e=>?_,fun b ps e=>?_⟩,I.loc,I.cell,?_,fun x c e=>?_,fun p z=>?_,fun b ob e=>?_,I.len⟩
 ·have z:=I.base.free b ob e n hx;rw [Zf (bY b z)];exact z
 ·have z:=I.base.cG b xs e
  have:b≠a:=fun q=>by rw [q,h] at z;exact h2 xs (YB z)
  rw [Zf this];exact z
 ·have:b≠a:=fun q=>h4 ob v (by rw [<- q];exact e)
  rw [Zf this];exact I.base.bU b ob v e
 ·obtain ⟨more,z⟩:=I.base.cj b ps e
  have:b≠a:=fun q=>by rw [q,h] at z;exact h3 _ (YB z)
  exact ⟨more,by rw [Zf this];exact z⟩
 ·rw [Zf (bY _ I.free)];exact I.free
 ·rw [Zf (bY _ (I.bf x c e))];exact I.bf x c e
 ·obtain ⟨z1,z2,z3⟩:=I.pin p z;exact ⟨z1,by rw [Zf (bY _ z2)];exact z2,z3⟩
 ·by_cases hb:b=a
  ·subst hb;rw [Zb] at e
   cases e
   exact new
  ·rw [Zf hb] at e;refine (I.aj b ob e).c9 (fun _ _ _ q=>q) (fun c q=>?_) fun c xs q=>?_
   ·rw [Zf (fun z=>by rw [z,h] at q;exact h1 _ (YB q))];exact q
   ·rw [Zf (fun z=>by rw [z,h] at q;exact h2 _ (YB q))];exact q
theorem Inv.freeze (I:Inv X pins σ H s) (h:H a=some u) (d:j7 u=true):∃ ob,s.heap.get? a=some ob/\Inv X pins σ (upd H a (.bt ob u)) s:=by
 obtain ⟨ob,e⟩:=(I.aj a u h).there;refine ⟨ob,e,I.swap h ⟨e,?_⟩ ?_ ?_ ?_ ?_⟩
 ·refine (I.aj a u h).c9 (fun _ _ _ q=>q) (fun c q=>?_) fun c xs q=>?_
  ·rw [Zf (fun z=>by rw [z,h] at q;cases q;cases d)];exact q
  ·rw [Zf (fun z=>by rw [z,h] at q;cases q;cases d)];exact q
 ·rintro x rfl;cases d
 ·rintro x rfl;cases d
 ·rintro x rfl;cases d
 ·intro ob' v z
  have:=I.base.bU a ob' v z
  rw [h] at this
  cases this
  cases d
theorem Inv.oU {ob:Obj} (I:Inv X pins σ H s) (h:H a=some (.bt ob u)) (d:j7 u=true) (h4:∀ ob v,X.aN a≠some (.bt ob v)):Inv X pins σ (upd H a u) s:=by
 refine I.swap h ?_ (fun _ z=>nomatch z) (fun _ z=>nomatch z) (fun _ z=>nomatch z) h4;refine (I.aj a _ h).2.c9 (fun _ _ _ q=>q) (fun c q=>?_) fun c xs q=>?_
 ·rw [Zf (fun z=>by rw [z,h] at q;cases q)];exact q
 ·rw [Zf (fun z=>by rw [z,h] at q;cases q)];exact q
theorem Inv.zN (I:Inv X pins σ H s) (h:H a=some u) (d:j7 u=true):∀ ob v,X.aN a≠some (.bt ob v):=fun ob v z=>by
 have:=I.base.bU a ob v z
 rw [h] at this
 cases this
 cases d
end
def ZzZ (a:Addr) (D:Ends):Ends where
 nx:=fun σ H=>∃ ob u,H a=some (.bt ob u)/\j7 u=true/\D.nx σ (upd H a u)
 rt:=fun v H=>∃ ob u,H a=some (.bt ob u)/\j7 u=true/\D.rt v (upd H a u)
 bk:=fun σ H=>∃ ob u,H a=some (.bt ob u)/\j7 u=true/\D.bk σ (upd H a u)
 ct:=fun σ H=>∃ ob u,H a=some (.bt ob u)/\j7 u=true/\D.ct σ (upd H a u)
def Zz0 (t:TS):TS:=fun D σ H=>∃ a u,H a=some u/\j7 u=true/\t (ZzZ a D) σ H
theorem EN {X:Cx} {st:Stmt} {t:TS} (h:PS X st t):PS X st (Zz0 t):=by
 try unfold PS at *
 rintro pins s σ H D I ⟨a,u,ha,hd,q⟩
 have h4:=I.zN ha hd;refine Xd (h pins s σ H _ I q) (fun f s1 z=>?_) fun _ _ z=>z
 cases f with
 | next=>obtain ⟨aC,H',I',ob,u',e,d',q'⟩:=z;exact ⟨aC,_,I'.oU e d' h4,q'⟩
 | brk=>obtain ⟨aC,H',I',ob,u',e,d',q'⟩:=z;exact ⟨aC,_,I'.oU e d' h4,q'⟩
 | cont=>obtain ⟨aC,H',I',ob,u',e,d',q'⟩:=z;exact ⟨aC,_,I'.oU e d' h4,q'⟩
 | ret v=>obtain ⟨x,aC,H',I',r,ob,u',e,d',q'⟩:=z;exact ⟨x,aC,_,I'.oU e d' h4,r,q'⟩
theorem Zm9 {P:Program} {w:World}:∀ {es:List XG} {vs:List (Key×Value)} {kvs:List (Key×V)},Pairs (Z4 P w) es vs->KV kvs vs->Vals (kvs.map (·.2)) (es.map (·.val))
 | _,_,_,.nil,r=>by cases r;exact .nil
 | _,_,_,.cons _ e p,r=>by
  cases r with
  | cons h t=>
   refine .cons ?_ (Zm9 p t);have z:=h.2;rw [<- e] at z;exact z
theorem ZuQ {P:Program} {w:World} {H:Hp}:∀ {kvs:List (List Key×V)} {xs:List (List Key×Addr×Value)},KT H kvs xs->Vals (kvs.map (·.2)) ((xs.map (entryOfKey (WY (Z4 P w)))).map (·.val))
 | _,_,.nil=>.nil
 | _,_,.cons h t=>.cons h.2.2 (ZuQ t)
theorem Bh {P:Program} {w:World} {H:Hp} {h:Heap} {a:Addr} {u:HO} {ob:Obj} (x:bT P w H h a u) (d:j7 u=true) (e:h.get? a=some ob) :
  (a == Xy)=false/\(gA u).length<=Ym/\ob.ExactDict/\∃ es ep,ob.data=.dict es ep/\Vals (gA u) (es.toList.map (·.val)):=by
 cases u with
 | dK kvs=>
  obtain ⟨z,y,vs,r,o,es,ep,e1,ex,dd,_,pr,_⟩:=x;rw [e] at e1
  cases e1
  exact ⟨y,by show (kvs.map (·.2)).length<=_;rw [Yb];exact z,ex,es,ep,dd,Zm9 pr r⟩
 | dT kvs=>
  obtain ⟨z,y,xs,r,o,es,ep,e1,ex,dd,el,_⟩:=x;rw [e] at e1
  cases e1
  refine ⟨y,by show (kvs.map (·.2)).length<=_;rw [Yb];exact z,ex,es,ep,dd,?_⟩;rw [el];exact ZuQ r
 | _=>cases d
def xR (r d:Addr):HO:=.ext fun h=>h.IsValuesView r d
section
variable {X:Cx} {pins:List (Addr×Obj)} {σ:St} {H:Hp} {s:Shared}
theorem Inv.dct {a:Addr} {u:HO} (I:Inv X pins σ H s) (h:Rd H a u) (d:j7 u=true):∃ ob,s.heap.get? a=some ob/\(a == Xy)=false/\(gA u).length<=Ym/\ob.ExactDict/\∃ es ep,ob.data=.dict es ep/\Vals (gA u) (es.toList.map (·.val)):=by
 have ok:=h.ok I.aj;obtain ⟨ob,e⟩:=ok.there;exact ⟨ob,e,Bh ok d e⟩
theorem GC:nK X "dict.values" (fun x vs H Q=>∃ a u,x=.ref a/\vs=[]/\Rd H a u/\j7 u=true/\∀ p,H p=none->Q (.ref p) (upd H p (xR p a))):=by
 intro pins s σ H x xs v us Q I rx rs h;obtain ⟨a,u,rfl,rfl,ha,hd,q⟩:=h
 cases (show v=Value.ref a from rx)
 have:=rs.zero
 subst this;obtain ⟨ob,e,hs,_,ex,es,ep,dd,_⟩:=I.dct ha hd;have hT:s.TypeIs (.ref a) "dict":=⟨ob,e,ex.1⟩
 have m:Meets (Builtin.«dict.values» ⟨[.ref a],[]⟩) (fun _ R s=>s.TypeIs (.ref a) "dict"/\R (.ok (.ret (.ref s.heap.objs.size))) {s with heap:=s.heap.push {cls:=.type "dict_values",data:=.fields #[.ref a]}}):=
  .of_wp fun P2 w2 A2 R2 s2 ⟨Cz,k2⟩=>by
   refine Ya ?_;unfold Builtin.Dict.noArgs;refine Ya (Ybz Cz ?_);show wpAny _ _ (pure a) _ _ s2;refine Yd ?_;show wpAny _ _ (X6 a >>= _) _ _ s2;unfold X6;rw [if_neg (by rw [hs];exact Yp)];exact Ya (Yd (Ya (YF (Yd ⟨_,rfl,k2⟩))))
 refine XF F.slot_dict_values hT F.entry_dict_values (F.args_dict_values_1 _) m ⟨hT,?_⟩;refine ⟨.ref _,upd H s.heap.objs.size (xR s.heap.objs.size a),I.laid (t':=s.toks) (fun b ob q=>Yc _ q) (Ye _) ?_,rfl,q _ I.fresh⟩;refine ⟨⟨_,Yi _ rfl,rfl,rfl⟩,⟨_,Yi _ rfl⟩,fun h1 h2 ⟨o,e1,e2⟩ k=>⟨o,k o e1,e2⟩⟩
theorem ZqZ {r d:Addr} {ob:Obj} {es:Array XG} {ep:Nat} {Q:Value->Shared->Prop} {A:Around} {E:Value->Shared->Prop} (v:s.heap.IsValuesView r d) (e:s.heap.get? d=some ob) (dd:ob.data=.dict es ep)
  (q:Q (.ref s.heap.objs.size) {s with heap:=s.heap.push {cls:=.type "dict_valueiterator",data:=.fields #[.ref d,.int 0 0,.int es.size 0,.int ep 0]}}):wpAny (model X.prog X.w) A (pyIter (.ref r)) Q E s:=by
 have tv:=v.typeIs;obtain ⟨oV,e1,c1,d1⟩:=v;refine wpAny_pyIter_slot tv F.slot_dict_values_iter (YK F.slot_dict_values_iter tv F.entry_dict_values_iter ?_ (F.args_dict_values_iter_1 _));unfold Builtin.«dict_values.__iter__» Builtin.Dict_items.dictOf Builtin.Dict_items.newIterator;refine Ya (Yd (Ya (Ya (Y3 e1 d1 (x:=.ref d) rfl (Yd ?_)))));refine Ya (Ya (Xt e dd (Ya (XR e dd ?_))));rw [show YZ "dict_valueiterator"=false from by decide]
 simp only [YQ,if_false]
 exact YF (Yd ⟨_,rfl,"dict_valueiterator",_,⟨_,Yi _ rfl,rfl⟩,F.slot_dict_valueiterator_next.lookup,by simpa [X7] using q⟩)
theorem Bn {it:Addr} {Q:String->Shared->Prop} {A:Around} {E:Value->Shared->Prop} (ty:s.TypeIs (.ref it) "dict_valueiterator") (q:Q "dict_valueiterator" s):wpAny (model X.prog X.w) A (typeNameOfWhole (.ref it)) Q E s:=wpAny_typeNameOfWhole_valiter ty q
theorem Zxm {it d:Addr} {ob:Obj} {es:Array XG} {ep i:Nat} {x:XG} {Q:Option Value->Shared->Prop} {A:Around} {E:Value->Shared->Prop} (v:s.heap.IsValIter it d i es.size ep) (e:s.heap.get? d=some ob) (dd:ob.data=.dict es ep)
  (hx:es[i]?=some x) (q:∀ h',h'.IsValIter it d (i + 1) es.size ep->Xx it s.heap h'->Q (some x.val) {s with heap:=h'}):wpAny (model X.prog X.w) A (W8 (.ref it)) Q E s:=by
 have ty:=v.typeIs;obtain ⟨oI,e1,c1,d1⟩:=v;have hi:i < es.size:=(Array.getElem?_eq_some_iff.mp hx).1
 have up:(s.heap.update it (Ya4 (·.setIfInBounds 1 (X7 ((i:Int) + 1))))).IsValIter it d (i + 1) es.size ep:=
  ⟨_,Yai _ e1 (YbB (Wx d1 _)),(Obj.cls_mapFields ..).trans c1,by rw [Wx d1];simp [X7]⟩
 unfold W8;refine Ya (XH (YJ (name:=Y9 "__next__") ty Wl (YK Wl ty F.entry_dict_valueiterator_next ?_ (F.args_dict_valueiterator_next_1 _))));refine Ya (Yd (Ya (Ya (Ya (Bn ty (Yd (Ya (Yad e1 d1 ?_))))))));rw [show YZ "dict_valueiterator"=false from by decide]
 simp only [YQ,if_false]
 show wpAny _ _ (if (Value.ref d == Value.none)=true then _ else _) _ _ s;rw [if_neg (show ¬ ((Value.ref d == Value.none)=true) by exact Yp)];refine Ya (Yd (Ya (Xt e dd ?_)));rw [if_neg (show ¬ ((((es.size:Nat):Int) != ((es.size:Nat):Int))=true) by simp)];refine Ya (Yd (Ya (XR e dd ?_)));rw [if_neg (show ¬ ((((ep:Nat):Int) != ((ep:Nat):Int))=true) by simp)];refine Yd ?_;have wY:es[i]=x:=by rw [YI hi] at hx;exact YB hx
 simp only [show ¬ ((i:Int) < 0) by omega,if_false,Xc,YI hi]
 refine Ya (Ya (Bn ty (Yd (Ya (YbA ty ?_)))));show wpAny _ _ (setField (.ref it) 1 (X7 ((i:Int) + 1)) >>= _) _ _ s;refine Ya (WQ e1 d1 (by simp) (Ya (Y6 ?_)));refine Ya (YbA (s:={s with heap:=s.heap.update it (Ya4 (·.setIfInBounds 1 (X7 ((i:Int) + 1))))}) up.typeIs (Ya (YbA (s:={s with heap:=s.heap.update it (Ya4 (·.setIfInBounds 1 (X7 ((i:Int) + 1))))}) up.typeIs ?_)));show wpAny _ _ (pure es[i].val) _ _ _;rw [wY];exact Yd (Yd ⟨_,rfl,Yd (q _ up (XW ..))⟩)
theorem Zyz {it d:Addr} {ob:Obj} {es:Array XG} {ep i:Nat} {Q:Option Value->Shared->Prop} {A:Around} {E:Value->Shared->Prop} (hA:A.handled=none) (v:s.heap.IsValIter it d i es.size ep) (e:s.heap.get? d=some ob) (dd:ob.data=.dict es ep)
  (hx:es.size<=i) (q:∀ h',Heap.ExtBut it s.heap h'->Q none {s with heap:=h'}):wpAny (model X.prog X.w) A (W8 (.ref it)) Q E s:=by
 have ty:=v.typeIs;obtain ⟨oI,e1,c1,d1⟩:=v;unfold W8;refine Ya (XH (YJ (name:=Y9 "__next__") ty Wl (YK Wl ty F.entry_dict_valueiterator_next ?_ (F.args_dict_valueiterator_next_1 _))));refine Ya (Yd (Ya (Ya (Ya (Bn ty (Yd (Ya (Yad e1 d1 ?_))))))));rw [show YZ "dict_valueiterator"=false from by decide]
 simp only [YQ,if_false]
 show wpAny _ _ (if (Value.ref d == Value.none)=true then _ else _) _ _ s;rw [if_neg (show ¬ ((Value.ref d == Value.none)=true) by exact Yp)];refine Ya (Yd (Ya (Xt e dd ?_)));rw [if_neg (show ¬ ((((es.size:Nat):Int) != ((es.size:Nat):Int))=true) by simp)];refine Ya (Yd (Ya (XR e dd ?_)));rw [if_neg (show ¬ ((((ep:Nat):Int) != ((ep:Nat):Int))=true) by simp)];refine Yd ?_
 simp only [show ¬ ((i:Int) < 0) by omega,if_false,Xc,Ybn hx]
 refine Ya (Ya (Bn ty (Yd ?_)));show wpAny _ _ (setField (.ref it) 0 .none >>= _) _ _ s;refine Ya (WQ e1 d1 (by simp) ?_);show wpAny _ _ (newExc (.type "StopIteration") [] >>= _) _ _ _;refine Ya ?_;simp only [newExc,newTuple];refine Ya (YF (Ya (m:=Ws _ _) (wpAny_of_eq (a:=Value.none) (by first | rfl | (simp only [Ws];rfl)) ?_)) (by size_fits));refine YF ?_ (by size_fits);simp only [raiseNew];refine Ya (wpAny_handled ?_);rw [show A.in1.handled=none from hA];refine Ya (Yd (wpAny_throw ?_));refine Ya (Yak (T:="StopIteration") (b:=true) ⟨_,Yi _ rfl,rfl⟩ YaG ?_);exact Yd (q _ (((XW ..).extBut.push _).push _))
end
def yL (d:Addr) (ob:Obj) (u:HO):It:=
 ⟨fun i H=>H d=some (.bt ob u)/\i < (gA u).length,fun i H x H'=>H'=H/\(gA u)[i]?=some x,fun i H=>H d=some (.bt ob u)/\(gA u).length<=i⟩
theorem ZtH {P:Program} {w:World} {K:Yg} {tg:Expr} (d it:Addr) (ob:Obj) (u:HO) (es:Array XG) (ep:Nat) (hd:j7 u=true) (dd:ob.data=.dict es ep) :
  Turn P w K tg (yL d ob u) [it] it (fun i h=>h.IsValIter it d i es.size ep) where
 mem:=by simp
 obj:=fun i h st b hb=>by
  have e:b=it:=by simpa using hb
  subst e;obtain ⟨o,e,c,q⟩:=st;exact ⟨o,e,fun v z=>by rw [q] at z;cases z⟩
 keep:=fun i h h' st k=>st.at fun o e=>k it (by simp) o e
 item:=by
  intro X hP hw hK hc i pins s σ H E I hf st hg;subst hP hw hK;obtain ⟨hH,hi⟩:=hg;obtain ⟨e,ok⟩:=I.aj d _ hH;obtain ⟨_,_,_,es',r_,fi,rv⟩:=Bh ok hd e;rw [dd] at fi
  cases fi
  have hl:(gA u).length=es.size:=by rw [rv.length,Yb,YH]
  obtain ⟨f0,f1,f2,f3,f4,f5⟩:=hf it (by simp);have hx:es[i]?=some es[i]:=YI (by omega);refine Zxm st e dd hx fun h' ff sb=>?_;have I1:Inv X pins σ H {s with heap:=h'}:=I.turned (t':=s.toks) (fun b o hb e=>(sb.2 b hb).trans e) f0 f1 f3 f4 f5;obtain ⟨v,hv⟩:∃ v,(gA u)[i]?=some v:=⟨_,Yh hi⟩
  obtain ⟨uv,huv,ruv⟩:=rv.get hv
  have:uv=es[i].val:=by
   rw [Yo,XB,hx] at huv;exact (YB huv).symm
  subst this;obtain ⟨o,e2,c,q⟩:=id ff;exact ⟨_,rfl,AM (s:={s with heap:=h'}) e2 c q (by decide) ⟨v,H,I1,ruv,⟨rfl,hv⟩,ff,fun b hb=>(hf b hb).1⟩⟩
 done:=by
  intro X hP hw hK hc i pins s σ H E I hf st hg;subst hP hw hK;obtain ⟨hH,hi⟩:=hg;obtain ⟨e,ok⟩:=I.aj d _ hH;obtain ⟨_,_,_,es',r_,fi,rv⟩:=Bh ok hd e;rw [dd] at fi
  cases fi
  have hl:(gA u).length=es.size:=by rw [rv.length,Yb,YH]
  obtain ⟨f0,f1,f2,f3,f4,f5⟩:=hf it (by simp);exact Zyz (I.ok.hd hc) st e dd (by omega) fun h' eb=>⟨rfl,I.turned (t':=s.toks) (fun b o hb e=>eb b o hb e) f0 f1 f3 f4 f5⟩
 self:=fun _ _ _ _ _ st h=>wpAny_pyIter_valiter st h
def ZAk (tl:TE):TI:=fun σ H R=>tl σ H fun x H1=>∃ r d u,x=.ref r/\H1 r=some (xR r d)/\H1 d=some u/\j7 u=true/\∀ ob,R (yL d ob u) (upd H1 d (.bt ob u))
theorem Zuk {X:Cx} {tg l:Expr} {tl:TE} (hl:PE X l tl):PI X tg l (ZAk tl):=by
 try unfold PE at *
 intro pins s σ H R I h;refine aH (hl pins s σ H _ I h) fun v s1 ⟨x,H1,I1,r1,r,d,u,ex,hr,hd,hu,q⟩=>?_;subst ex
 cases (show v=Value.ref r from r1)
 have hv:s1.heap.IsValuesView r d:=(I1.aj r _ hr).1;obtain ⟨ob,e,I2⟩:=I1.freeze hd hu;obtain ⟨_,_,_,es,ep,dd,_⟩:=Bh (I1.aj d u hd) hu e;refine ZqZ hv e dd ?_;refine ⟨s1.heap.objs.size,[s1.heap.objs.size],_,_,_,rfl,I2.kept (t':=s1.toks) fun b o e=>Yc _ e,ZtH d _ ob u es ep hu dd,⟨_,Yi _ rfl,rfl,rfl⟩,fun b hb=>?_,q ob⟩;have e:b=s1.heap.objs.size:=by simpa using hb
 subst e;exact I2.ij (Ye _) (I2.aj.fresh (Ye _))
end L2
namespace L2
open PySem PySem.Spec PyProof.Rows PySem.W
def sh (H:Hp) (ys:List V) (Q:VK):Prop:=∀ p H',ag H H'->H' p=some (.tup ys)->Q (.ref p) H'
theorem sh.old {H:Hp} {ys:List V} {Q:VK} {p:Addr} (h:sh H ys Q) (e:H p=some (.tup ys)):Q (.ref p) H:=h p H (ag.refl _) e
theorem sh.new {H:Hp} {ys:List V} {Q:VK} {p:Addr} (h:sh H ys Q) (e:H p=none):Q (.ref p) (upd H p (.tup ys)):=h p _ (Zj e) Zb
section
variable {X:Cx}
theorem ZsH (l b:Addr) (ws:Array Value) (n n2:Nat) (dd u4:Option Addr) (sl jz:Array (Option Value)) :
  Meets (Builtin.«tuple.__add__» ⟨[.ref l,.ref b],[]⟩) (fun _ R s=>s.heap.get? l=some {cls:=.type "tuple",dict:=dd,data:=.seq #[] n,slots:=sl}/\s.heap.get? b=some {cls:=.type "tuple",dict:=u4,data:=.seq ws n2,slots:=jz}/\R (.ok (.ret (.ref b))) s):=
 .of_wp fun prog w A R s h=>by
  obtain ⟨hp,g,d,tk,os⟩:=s;obtain ⟨hl,hb,h⟩:=h;have f0:=AutoSeq1.sub_tuple_tuple
  wp_walk
  exact ⟨_,rfl,h⟩
def Zy4 (K:Frag):R2:=fun x y H Q=>∃ a b xs ys,x=.ref a/\y=.ref b/\aG K H a xs/\aG K H b ys/\(xs=[]->H b=some (.tup ys))/\(ys=[]->xs≠[]->H a=some (.tup xs))/\xs.length + ys.length<=Ym/\sh H (xs++ys) Q
theorem ju:dJ X (Wv .Add) (Zy4 X.K):=by
 intro pins s σ H x y v u Q I rx ry h;obtain ⟨a,b,xs,ys,rfl,rfl,ha,hb,e1,e2,hz,q⟩:=h
 by_cases hx:xs=[]
 ·subst hx
  cases rx
  cases ry
  obtain ⟨its,r1,⟨o1,g1,c1,n1,d1⟩,_⟩:=I.tuple ha;obtain ⟨gD,r2,⟨o2,g2,c2,n2,d2⟩,_⟩:=I.tuple hb;have hn:=r1.zero;subst hn;obtain ⟨cls,dd,data,sl⟩:=o1;obtain ⟨La,u4,data2,jz⟩:=o2;dsimp only at c1 d1 c2 d2;subst c1 d1 c2 d2;exact concat_meets ⟨_,g1,rfl⟩ ⟨_,g2,rfl⟩ noFill_tuple_add seq_tuple_add Ybj Ybb (Ya0 _ _) (ZsH a b gD.toArray n1 n2 dd u4 sl jz) ⟨g1,g2,.ref b,H,I,rfl,q.old (e1 rfl)⟩
 ·refine ZxS pins s σ H _ _ v u Q I rx ry ⟨a,b,xs,ys,rfl,rfl,ha,hb,hx,hz,fun z=>?_,fun z p hp=>q.new hp⟩;have q':=q;rw [z,Xf] at q';exact q'.old (e2 z hx)
theorem Zs6 {t sl:Addr} {items:Array Value} {vl vu:Value} {lo hi:Option Int} {Q:Value->Shared->Prop} {prog:Program} {w:World} {A:Around} {E:Value->Shared->Prop} {s:Shared} (ht:IsTup s.heap t items) (hs:s.heap.IsSliceOf sl vl vu .none) (pl:IsPart vl lo) (pu:IsPart vu hi)
  (hw:HT.a9 items.size 0 lo=0/\HT.a9 items.size items.size hi=items.size) (h:Q (.ref t) s):wpAny (model prog w) A (getItem (.ref t) (.ref sl)) Q E s:=by
 obtain ⟨oS,gS,cS,dS⟩:=id hs;have tyS:s.TypeIs (.ref sl) "slice":=⟨oS,gS,cS⟩
 unfold getItem
 try with_reducible refine Y6 ?_
 first | refine Ya (Yd ?_) | skip
 refine Ya (wpAny_sequenceKey ht.typeIs (by decide) (Ya (YJ (name:=Y9 "__getitem__") ht.typeIs Wh (YK Wh ht.typeIs entry_tuple_getitem ?_ (args_tuple_getitem _ _)))));show wpAny _ _ (Builtin.Tuple.tupleItemsOf (.ref t) >>= _) _ _ s;refine Ya (tupleItemsOf_ ht (Ya (wpAny_typeOf tyS ?_)));rw [if_pos (by decide)];refine Ya (HT.cb hs pl pu ?_)
 have yes:(((HT.a9 items.size 0 lo:Nat):Int) == 0 && (1:Int) == 1 && (HT.a9 items.size items.size hi - HT.a9 items.size 0 lo) == items.size)=true:=by
  rw [hw.1,hw.2]
  simp
 show wpAny _ _ (if (((HT.a9 items.size 0 lo:Nat):Int) == 0 && (1:Int) == 1 && (HT.a9 items.size items.size hi - HT.a9 items.size 0 lo) == items.size)=true then _ else _) _ _ s;rw [if_pos yes];refine Ya ?_;unfold Builtin.Tuple.tupleIsExact;refine Ya (wpAny_typeOf ht.typeIs (Yd ?_));rw [if_pos (by decide)];refine Ya (wpAny_rule (Ya (Yd (Yd ⟨_,rfl,Yd h⟩))))
def J_ (K:Frag):V->Option Int->Option Int->Hp->VK->Prop:=fun x lo hi H Q=>∃ a xs,x=.ref a/\H a=some (.tup xs)/\sh H (bC xs lo hi) Q
theorem Ztq {xs:List V} {lo hi:Option Int} (h:HT.a9 xs.length 0 lo=0/\HT.a9 xs.length xs.length hi=xs.length):bC xs lo hi=xs:=by
 unfold bC;rw [h.1,h.2,YaI,Nat.sub_zero,XE]
theorem vB:yI X (J_ X.K):=by
 intro pins s σ H x v vl vu lo hi sl Q I rx hs pl pu h;obtain ⟨a,xs,rfl,ha,q⟩:=h
 by_cases hw:HT.a9 xs.length 0 lo=0/\HT.a9 xs.length xs.length hi=xs.length
 ·cases rx
  obtain ⟨its,r,ht,hz⟩:=I.tuple (aG.of ha);have hlen:its.toArray.size=xs.length:=by rw [Yn];exact r.length.symm
  refine ⟨"tuple",_,PyProof.Rows.slot_tuple_getitem.lookup,ht.typeIs,Zs6 ht hs pl pu (by rw [hlen];exact hw) ⟨.ref a,H,I,rfl,?_⟩⟩;rw [Ztq hw] at q;exact q.old ha
 ·exact ZyY pins s σ H _ v vl vu lo hi sl Q I rx hs pl pu ⟨a,xs,rfl,aG.of ha,hw,fun p hp=>q.new hp⟩
theorem ZsF (l:Addr) (items:Array Value) (n:Nat) (dd:Option Addr) (sl:Array (Option Value)) (u:Tok) :
  Meets (Builtin.«tuple.__mul__» ⟨[.ref l,.int 1 u],[]⟩) (fun _ R s=>s.heap.get? l=some {cls:=.type "tuple",dict:=dd,data:=.seq items n,slots:=sl}/\R (.ok (.ret (.ref l))) s):=
 .of_wp fun prog w A R s h=>by
  obtain ⟨hp,g,d,tk,os⟩:=s;obtain ⟨hl,h⟩:=h;have uR:¬(decide ((1:Int) < -2 ^ 63) || decide ((1:Int) >= 2 ^ 63))=true:=by decide
  have gP:(items.isEmpty || (1:Int) == 1)=true:=by rw [Xz];exact .inr rfl
  wp_walk
  exact ⟨_,rfl,h⟩
theorem ZsG (l:Addr) (items:Array Value) (n:Nat) (dd:Option Addr) (sl:Array (Option Value)) (k:Int) (u:Tok) (bY:items.isEmpty=false) (h1:k<=0) (h2:-(2 ^ 63)<=k) :
  Meets (Builtin.«tuple.__mul__» ⟨[.ref l,.int k u],[]⟩) (fun _ R s=>s.heap.get? l=some {cls:=.type "tuple",dict:=dd,data:=.seq items n,slots:=sl}/\R (.ok (.ret (.ref s.heap.objs.size))) {s with heap:=s.heap.push {cls:=.type "tuple",data:=.seq #[]}}):=
 .of_wp fun prog w A R s h=>by
  obtain ⟨hp,g,d,tk,os⟩:=s;obtain ⟨hl,h⟩:=h
  have uR:¬(decide (k < -2 ^ 63) || decide (k >= 2 ^ 63))=true:=by
   rw [Xz,decide_eq_true_eq,decide_eq_true_eq];omega
  have gP:¬(items.isEmpty || k == 1)=true:=by
   rw [bY,Ya8,beq_iff_eq];omega
  have iW:(decide (k<=0) || items.isEmpty)=true:=by
   rw [bY,Xs,decide_eq_true_eq];exact h1
  wp_walk
  rw [if_neg uR]
  wp_walk
  rw [if_neg gP]
  wp_walk
  exact ⟨_,rfl,h⟩
def ZAc:R2:=fun x y H Q=>∃ l k xs,x=.ref l/\y=.int k/\H l=some (.tup xs)/\xs≠[]/\-(2 ^ 63)<=k/\k < 2 ^ 63/\xs.length * k.toNat<=Ym/\sh H (List.replicate k.toNat xs).flatten Q
theorem x6:dJ X (Wv .Mult) ZAc:=by
 intro pins s σ H x y v u Q I rx ry h;obtain ⟨l,k,xs,rfl,rfl,hH,bY,h1,h2,hz,q⟩:=h
 by_cases hk:1 < k
 ·exact Zup pins s σ H _ _ v u Q I rx ry ⟨l,k,xs,rfl,rfl,hH,bY,hk,h2,hz,fun p hp=>q.new hp⟩
 ·cases rx
  obtain ⟨t,rfl⟩:=ry;obtain ⟨z,its,r,o,e,hc,n,hd⟩:=(show bT X.prog X.w H s.heap l (.tup xs) from I.aj l _ hH)
  obtain ⟨cls,dd,data,sl⟩:=o;dsimp only at hc hd;subst hc hd
  have tY:its.toArray.isEmpty=false:=by
   cases its with
   | nil=>cases r;exact absurd rfl bY
   | cons _ _=>rfl
  by_cases Ay:k=1
  ·subst Ay
   refine YaL (T:="tuple") (U:="int") (by decide) ⟨_,e,rfl⟩ (fun s'=>YaJ s' 1 t) Jm F.fills_int_mul W7 Hu F.slot_int_index.lookup
    (XF W7 (YaJ s 1 t) F.entry_int_rmul (F.args_int_rmul_2 _ _) (Jc 1 t l its.toArray n dd sl)
     ⟨e,rfl,⟨_,e,rfl⟩,XF F.slot_tuple_mul ⟨_,e,rfl⟩ F.entry_tuple_mul (YbS _ _) (ZsF l its.toArray n dd sl t) ⟨e,.ref l,H,I,rfl,?_⟩⟩)
   have e1:(List.replicate (1:Int).toNat xs).flatten=xs:=by
    show (List.replicate 1 xs).flatten=xs
    simp
   rw [e1] at q;exact q.old hH
  ·have h0:k<=0:=by omega
   refine YaL (T:="tuple") (U:="int") (by decide) ⟨_,e,rfl⟩ (fun s'=>YaJ s' k t) Jm F.fills_int_mul W7 Hu F.slot_int_index.lookup
    (XF W7 (YaJ s k t) F.entry_int_rmul (F.args_int_rmul_2 _ _) (Jc k t l its.toArray n dd sl)
     ⟨e,rfl,⟨_,e,rfl⟩,XF F.slot_tuple_mul ⟨_,e,rfl⟩ F.entry_tuple_mul (YbS _ _) (ZsG l its.toArray n dd sl k t tY h0 h1) ⟨e,?_⟩⟩)
   have e0:(List.replicate k.toNat xs).flatten=[]:=by
    rw [show k.toNat=0 by omega];rfl
   rw [e0] at q;exact ⟨.ref _,_,I.yQ (t':=s.toks) (ys:=[]) (its:=[]) .nil (Yv _),rfl,q.new I.fresh⟩
end
end L2
namespace L2
open PySem PySem.Spec PyProof.Rows PySem.W
section
variable {X:Cx} {pins:List (Addr×Obj)} {σ:St} {H:Hp} {s:Shared}
theorem Ep {P:Program} {w:World} {k:Key} {v:Value} (h:(Z4 P w).is k v=true):RelV (kV k) v:=by
 cases k with
 | inl i=>exact Value.isInt_shape h
 | inr x=>exact Value.isStrOf_shape h
theorem vC:∀ {xs:List V} {us:List Value},xs.length=us.length->(∀ (j:Nat) (x:V) (u:Value),xs[j]?=some x->us[j]?=some u->RelV x u)->Vals xs us
 | [],[],_,_=>.nil
 | x::xs,u::us,hl,h=>.cons (h 0 x u rfl rfl) (vC (by simpa using hl) fun j y w a b=>h (j + 1) y w (by simpa using a) (by simpa using b))
 | [],_::_,hl,_=>by simp at hl
 | _::_,[],hl,_=>by simp at hl
theorem Inv.jG {a:Addr} {h':Heap} {t' c:Nat} {ys:List V} {its:Array Value} (I:Inv X pins σ H s) (hk:∀ b o,s.heap.get? b=some o->h'.get? b=some o) (ha:s.heap.objs.size<=a) (he:h'.get? a=some {cls:=.type "list",data:=.seq its c}) (r:Vals ys its.toList) (hz:ys.length<=Ym) :
  Inv X pins σ (upd H a (.lst ys)) {s with heap:=h',toks:=t'}:=I.laid hk ha ⟨hz,its.toList,c,r,by rw [Array.toArray_toList];exact he⟩
theorem Znt (hc:X.calm=true:=by rfl):eN X (.type "list") (fun xs H Q=>∃ p kvs,xs=[.ref p]/\Rd H p (.dK kvs)/\∀ l,H l=none->Q (.ref l) (upd H l (.lst (kvs.map fun q=>kV q.1)))):=by
 intro pins s σ H xs us Q I r h;obtain ⟨p,kvs,rfl,hp,q⟩:=h;obtain ⟨u,rfl,ru⟩:=r.one
 cases (show u=Value.ref p from ru)
 obtain ⟨hz,hs,vs,rel,dd⟩:=jq I.aj hp;obtain ⟨ep,bO⟩:=dd.dictAt;refine kdl_call (kdl_dict (knd:=Z4 X.prog X.w) (kvs:=vs) (ep:=ep) hs) (I.ok.hd hc) bO (by rw [<- rel.length];exact hz) fun h' tk acc c hk he hi=>?_;refine ⟨.ref _,_,I.jG hk (Ye _) he (vC ?_ fun j x w hx hw=>?_) (by rw [Yb];exact hz),rfl,q _ I.fresh⟩
 ·have e3:acc.toList.length=acc.size:=YH;rw [Yb,e3,hi.1,rel.length]
 ·obtain ⟨k,y,hy,uO⟩:=hi.2 j w (by rw [<- XB];exact hw);have e1:(kvs.map (·.1))[j]?=some k:=by rw [rel.keys,Yo,hy];rfl
  have e2:x=kV k:=by
   rw [Yo] at hx e1
   cases e:kvs[j]? with
   | none=>rw [e] at hx;cases hx
   | some z=>
    rw [e] at hx e1
    cases hx
    cases e1
    rfl
  rw [e2];exact Ep uO
theorem Ztt (hc:X.calm=true:=by rfl):eN X (.type "list") (fun xs H Q=>∃ p d kvs,xs=[.ref p]/\H p=some (xR p d)/\Rd H d (.dK kvs)/\∀ l,H l=none->Q (.ref l) (upd H l (.lst (kvs.map fun q=>q.2)))):=by
 intro pins s σ H xs us Q I r h;obtain ⟨p,d,kvs,rfl,hp,hd,q⟩:=h;obtain ⟨u,rfl,ru⟩:=r.one
 cases (show u=Value.ref p from ru)
 have hv:s.heap.IsValuesView p d:=(I.aj p _ hp).1;obtain ⟨hz,hs,vs,rel,dd⟩:=jq I.aj hd;obtain ⟨ep,bO⟩:=dd.dictAt;refine kdl_call (kdl_values (knd:=Z4 X.prog X.w) (kvs:=vs) (ep:=ep)) (I.ok.hd hc) ⟨hv,bO⟩ (by rw [<- rel.length];exact hz) fun h' tk acc c hk he hi=>?_;refine ⟨.ref _,_,I.jG hk (Ye _) he (vC ?_ fun j x w hx hw=>?_) (by rw [Yb];exact hz),rfl,q _ I.fresh⟩
 ·have e3:acc.toList.length=acc.size:=YH;rw [Yb,e3,hi.1,rel.length]
 ·obtain ⟨k,hy⟩:=hi.2 j w (by rw [<- XB];exact hw)
  have:∀ {a:List (Key×V)} {b:List (Key×Value)},KV a b->∀ (j:Nat) (x:V),(a.map fun q=>q.2)[j]?=some x->b[j]?=some (k,w)->RelV x w:=by
   intro a b r;unfold KV at r
   induction r with
   | nil=>intro j x hx _;simp at hx
   | cons h t ih=>
    intro j x hx hb
    cases j with
    | zero=>
     simp at hx hb
     subst hx
     have:=h.2
     rw [hb] at this;exact this
    | succ j=>exact ih j x (by simpa using hx) (by simpa using hb)
  exact this rel j x hx hy
theorem Zp6:∀ {ns:List Int} {vs:List Value},IntsAre vs ns->Vals (ns.map V.int) vs
 | [],_,h=>by rw [h.nil_inv];exact .nil
 | n::r,_,h=>by
  obtain ⟨t,vs',rfl,h'⟩:=h.cons_inv;exact .cons ⟨t,rfl⟩ (Zp6 h')
theorem Zqw:eN X (.builtin "sorted") (fun xs H Q=>∃ (p:Addr) (ns:List Int),xs=[.ref p]/\ar X.K H p (ns.map V.int)/\ns.length < 64/\∀ (l:Addr) (ms:List Int),H l=none->ms.Perm ns->ms.Pairwise (·<=·)->Q (.ref l) (upd H l (.lst (ms.map V.int)))):=by
 intro pins s σ H xs us Q I r h;obtain ⟨p,ns,rfl,hp,iN,q⟩:=h;obtain ⟨u,rfl,ru⟩:=r.one
 cases (show u=Value.ref p from ru)
 obtain ⟨its,rv,pl,hz⟩:=I.list hp;have hi:IntsAre its ns:=Znj rv;have hl:its.length < 64:=by rw [<- rv.length,Yb];exact iN
 refine sorted_ints pl.isList hi hl fun out ms a1 a2 a3=>?_;obtain ⟨e,he⟩:=sortedAll_at s.heap its out;refine ⟨.ref _,_,I.jG (t':=s.toks) (fun _ _=>sortedAll_old) (Wz _) he (Zp6 a1) ?_,rfl,q _ ms (I.aj.fresh (Wz _)) a2 a3⟩;rw [Yb,a2.length_eq]
 have:(64:Nat)<=Ym:=by decide
 omega
theorem Ff:∀ {xs:List Str} {us:List Value},Vals (xs.map V.str) us->StrsAre us xs
 | [],_,r=>by cases r;exact .nil
 | x::xs,_,r=>by
  cases r with
  | cons h t=>
   obtain ⟨tk,rfl⟩:=h;exact .cons x tk (Ff t)
theorem Zpb:∀ {xs:List Str} {us:List Value},StrsAre us xs->Vals (xs.map V.str) us
 | _,_,.nil=>.nil
 | _,_,.cons y t h=>.cons ⟨t,rfl⟩ (Zpb h)
theorem Zqu:eN X (.builtin "sorted") (fun xs H Q=>∃ (p:Addr) (ns:List Str),xs=[.ref p]/\ar X.K H p (ns.map V.str)/\ns.length < 64/\∀ (l:Addr) (ms:List Str),H l=none->ms.Perm ns->sortedS ms=true->Q (.ref l) (upd H l (.lst (ms.map V.str)))):=by
 intro pins s σ H xs us Q I r h;obtain ⟨p,ns,rfl,hp,iN,q⟩:=h;obtain ⟨u,rfl,ru⟩:=r.one
 cases (show u=Value.ref p from ru)
 obtain ⟨its,rv,pl,hz⟩:=I.list hp;have hl:its.length < 64:=by rw [<- rv.length,Yb];exact iN
 refine sorted_strs pl.isList (Ff rv) hl fun out ms a1 a2 a3=>?_;obtain ⟨e,he⟩:=sortedAll_at s.heap its out;refine ⟨.ref _,_,I.jG (t':=s.toks) (fun _ _=>sortedAll_old) (Wz _) he (Zpb a1) ?_,rfl,q _ ms (I.aj.fresh (Wz _)) a2 a3⟩;rw [Yb,a2.length_eq]
 have:(64:Nat)<=Ym:=by decide
 omega
end
end L2
namespace L2
open PySem PySem.Spec PyProof.Rows PySem.W
def ZB {α:Type} (lt:Nat->Nat->Bool):KasT α->α
 | .ret a=>a
 | .ask i j k=>ZB lt (k (lt i j))
def eO {α:Type} (n:Nat) (R:α->Prop):KasT α->Prop
 | .ret a=>R a
 | .ask i j k=>i < n/\j < n/\∀ b,eO n R (k b)
theorem eO.bind {α β:Type} {n:Nat} {R:α->Prop} {S:β->Prop} {f:α->KasT β} (hf:∀ a,R a->eO n S (f a)):∀ {t:KasT α},eO n R t->eO n S (t.bind f)
 | .ret a,h=>hf a h
 | .ask i j k,h=>⟨h.1,h.2.1,fun b=>eO.bind hf (h.2.2 b)⟩
def bM (n:Nat) (p:Array Nat):Prop:=p.Perm (Yag (List.range n))
theorem bM.lt {n:Nat} {p:Array Nat} (h:bM n p) (x:Nat) (hx:x∈p):x < n:=by
 have:=(Array.Perm.mem_iff h).mp hx
 simpa using this
theorem bM.at {n:Nat} {p:Array Nat} (h:bM n p) (hn:0 < n) (i:Nat):p.getD i 0 < n:=by
 unfold Array.getD
 split
 ·exact h.lt _ (Array.getElem_mem _)
 ·exact hn
theorem bM.rev {n:Nat} {p:Array Nat} (h:bM n p) (i j:Nat):bM n (kas_rev p i j):=(mirror_perm p i j ((j - i) / 2)).trans h
theorem bM.bub {n:Nat} {p:Array Nat} (h:bM n p) (i j:Nat):bM n (bubble p i j):=(bubble_perm p i j).trans h
section
variable {n:Nat} (hn:0 < n)
include hn
theorem E4 {p:Array Nat} (h:bM n p):∀ (f k:Nat),eO n (fun _=>True) (Wj p f k)
 | 0,_=>trivial
 | f + 1,k=>by
  refine ⟨h.at hn _,h.at hn _,fun b=>?_⟩
  cases b with
  | true=>exact trivial
  | false=>exact E4 h f (k + 1)
theorem BB:∀ (f:Nat) {p:Array Nat} (k q:Nat),bM n p->eO n (fun r=>bM n r.1) (Yat f p k q)
 | 0,_,_,_,h=>h
 | f + 1,p,k,q,h=>by
  refine ⟨h.at hn _,h.at hn _,fun b=>?_⟩
  cases b with
  | true=>
   show eO n _ (if q > 0 then Yat f (kas_rev p (k - (q + 1)) k) (k + 1) 0 else Yat f p (k + 1) 0)
   split
   ·exact BB f _ _ (h.rev _ _)
   ·exact BB f _ _ h
  | false=>
   refine ⟨h.at hn _,h.at hn _,fun c=>?_⟩
   cases c with
   | true=>exact h
   | false=>exact BB f _ _ h
theorem Znv {p:Array Nat} (h:bM n p) (k r:Nat):eO n (fun r=>bM n r.2) (kas_tail3 k r p):=by
 unfold kas_tail3;refine eO.bind (R:=fun _=>True) (fun m _=>?_) (E4 hn (h.rev _ _) _ _);exact h.rev 0 k
theorem Zie {p:Array Nat} (h:bM n p) (k r:Nat):eO n (fun r=>bM n r.2) (kas_descPart k r p):=by
 refine eO.bind (fun a ha=>?_) (BB hn _ _ _ h);show eO n _ (if a.2.2 > 0 then _ else _)
 split
 ·exact Znv hn (ha.rev _ _) _ _
 ·exact Znv hn ha _ _
theorem Znw {p:Array Nat} (h:bM n p) (r:Nat):eO n (fun r=>bM n r.2) (kas_count r p):=by
 refine eO.bind (fun a _=>?_) (E4 hn h _ _);show eO n _ (if (a == r)=true then _ else _)
 split
 ·exact h
 ·split
  ·refine ⟨h.at hn _,h.at hn _,fun b=>?_⟩
   cases b with
   | true=>exact h
   | false=>exact Zie hn (h.rev _ _) _ _
  ·exact Zie hn h _ _
theorem GR {p:Array Nat} (h:bM n p) (k:Nat):∀ (f l r:Nat),eO n (fun _=>True) (kas_place p k f l r)
 | 0,_,_=>trivial
 | f + 1,l,r=>by
  show eO n _ (if l >= r then _ else _)
  split
  ·exact trivial
  ·refine ⟨h.at hn _,h.at hn _,fun b=>?_⟩
   cases b with
   | true=>exact GR h k f _ _
   | false=>exact GR h k f _ _
theorem Zst:∀ (f:Nat) {p:Array Nat} (k:Nat),bM n p->eO n (bM n) (kas_bin f p k)
 | 0,_,_,h=>h
 | f + 1,p,k,h=>eO.bind (fun l _=>Zst f _ (h.bub _ _)) (GR hn h _ _ _ _)
theorem sW:eO n (bM n) (XQ n):=by
 have h:bM n (Yag (List.range n)):=Array.Perm.refl _;refine eO.bind (fun a ha=>?_) (Znw hn h n);show eO n _ (if a.1 < n then _ else _)
 split
 ·exact Zst hn _ _ ha
 ·exact ha
end
theorem Zni {α:Type} {n:Nat} {R:α->Prop} {lt:Nat->Nat->Bool} {cmp:Nat->Nat->(Bool->Shared->Prop)->Shared->Prop} {s:Shared} (hc:∀ i j C,i < n->j < n->C (lt i j) s->cmp i j C s) {Q:α->Shared->Prop} :
  ∀ {t:KasT α},eO n R t->Q (ZB lt t) s->t.kasWp cmp Q s
 | .ret _,_,h=>h
 | .ask i j k,a,h=>hc i j _ a.1 a.2.1 (Zni hc (a.2.2 _) h)
theorem qE {α:Type} {n:Nat} {R:α->Prop} (lt:Nat->Nat->Bool):∀ {t:KasT α},eO n R t->R (ZB lt t)
 | .ret _,h=>h
 | .ask i j k,h=>by
  show R (ZB lt (k (lt i j)));exact qE lt (h.2.2 (lt i j))
def kL (a b:Str×Int):Bool:=if a.1=b.1 then (if a.2=b.2 then false else decide (a.2 < b.2)) else decide (a.1.cps.toList < b.1.cps.toList)
def bB (es:List (Str×Int)):List (Str×Int):=
 if es.length < 2 then es else (ZB (fun i j=>kL (es.getD i (Str.empty,0)) (es.getD j (Str.empty,0))) (XQ es.length)).toList.map fun i=>es.getD i (Str.empty,0)
def vf (r d:Addr):HO:=.ext fun h=>h.IsItemsView r d
section
variable {X:Cx} {pins:List (Addr×Obj)} {σ:St} {H:Hp} {s:Shared}
theorem Fq:nK X "dict.items" (fun x vs H Q=>∃ a u,x=.ref a/\vs=[]/\Rd H a u/\j7 u=true/\∀ p,H p=none->Q (.ref p) (upd H p (vf p a))):=by
 intro pins s σ H x xs v us Q I rx rs h;obtain ⟨a,u,rfl,rfl,ha,hd,q⟩:=h
 cases (show v=Value.ref a from rx)
 have:=rs.zero
 subst this;obtain ⟨ob,e,hs,_,ex,es,ep,dd,_⟩:=I.dct ha hd;have hT:s.TypeIs (.ref a) "dict":=⟨ob,e,ex.1⟩
 have m:Meets (Builtin.«dict.items» ⟨[.ref a],[]⟩) (fun _ R s=>s.TypeIs (.ref a) "dict"/\R (.ok (.ret (.ref s.heap.objs.size))) {s with heap:=s.heap.push {cls:=.type "dict_items",data:=.fields #[.ref a]}}):=
  .of_wp fun P2 w2 A2 R2 s2 ⟨Cz,k2⟩=>by
   refine Ya ?_;unfold Builtin.Dict.noArgs;refine Ya (Ybz Cz ?_);show wpAny _ _ (pure a) _ _ s2;refine Yd ?_;show wpAny _ _ (X6 a >>= _) _ _ s2;unfold X6;rw [if_neg (by rw [hs];exact Yp)];exact Ya (Yd (Ya (YF (Yd ⟨_,rfl,k2⟩))))
 refine XF F.slot_dict_items hT F.entry_dict_items (F.args_dict_items_1 _) m ⟨hT,?_⟩;refine ⟨.ref _,upd H s.heap.objs.size (vf s.heap.objs.size a),I.laid (t':=s.toks) (fun b ob q=>Yc _ q) (Ye _) ?_,rfl,q _ I.fresh⟩;exact ⟨⟨_,Yi _ rfl,rfl,rfl⟩,⟨_,Yi _ rfl⟩,fun h1 h2 ⟨o,e1,e2⟩ k=>⟨o,k o e1,e2⟩⟩
end
section
variable {prog:Program} {w:World} {A:Around} {E:Value->Shared->Prop} {s:Shared} {a:Addr} {vs:List Value} {κ:SortKind} {lt:Nat->Nat->Bool} {P:PySem.Fin->Shared->Prop} {n:Nat}
theorem Zpm (ho:s.heap.get? a=some (YT "list" vs.toArray n)) (h2:2<=vs.length) (iN:vs.length < 64)
  (hk:∀ (h':Heap) (Q:SortKind->Shared->Prop),(∀ b o,b≠a->s.heap.get? b=some o->h'.get? b=some o)->Q κ {s with heap:=h'}->wpAny (model prog w) A (keyKind' vs.toArray) Q (fun _ _=>False) {s with heap:=h'})
  (hc:∀ (h':Heap) (i j:Nat) (C:Bool->Shared->Prop),(∀ b o,b≠a->s.heap.get? b=some o->h'.get? b=some o)->i < vs.length->j < vs.length->C (lt i j) {s with heap:=h'}->kas_ask prog w A κ vs i j C {s with heap:=h'})
  (h:∀ (h':Heap) (c:Nat),(ZB lt (XQ vs.length)).size=vs.length->(∀ b o,b≠a->s.heap.get? b=some o->h'.get? b=some o)->h'.get? a=some (YT "list" ((ZB lt (XQ vs.length)).toList.map fun i=>vs.getD i Value.none).toArray c)->P (.done (.ret .none)) {s with heap:=h'}) :
  wpAny (model prog w) A (Builtin.«list.sort» ⟨[.ref a],[]⟩) P E s:=by
 have low:a < s.heap.objs.size:=Yj ho;obtain ⟨c1,rL⟩:∃ c1,(s.heap.update a (Y1 fun _=>(#[]:Array Value))).get? a=some (YT "list" #[] c1):=⟨_,Ybq ho fun _=>#[]⟩
 have rK:(((s.heap.update a (Y1 fun _=>(#[]:Array Value))).push (YT "tuple" vs.toArray 0)).push (YT "list" #[] 0)).get? a=some (YT "list" #[] c1):=Yc _ (Yc _ rL)
 have wU:∀ b o,b≠a->s.heap.get? b=some o->(((s.heap.update a (Y1 fun _=>(#[]:Array Value))).push (YT "tuple" vs.toArray 0)).push (YT "list" #[] 0)).get? b=some o:=fun b o hb e=>
  Yc _ (Yc _ ((Xq _ _ (WN hb)).trans e))
 have big:vs.length<=Ym:=by rw [WR];omega
 rw [list_sort_plain];refine Ya (listItems_at ho rfl (Ya (listUpdate_at ho rfl ?_ (by rw [Yn];exact big) (Yv _))));refine Ya (seqEpoch_at rL rfl (Ya (wpAny_newTuple ?_ big)));refine Ya (Ya3 (Y6 ?_) (Yv _));show wpAny (model prog w) A _ P E {s with heap:=((s.heap.update a (Y1 fun _=>(#[]:Array Value))).push (YT "tuple" vs.toArray 0)).push (YT "list" #[] 0)};dsimp only;have two:¬ vs.toArray.size < 2:=by rw [Yn];omega
 rw [if_neg two,if_neg two];refine Ya (Xd (hk _ (fun Cu s'=>Cu=κ/\s'={s with heap:=((s.heap.update a (Y1 fun _=>(#[]:Array Value))).push (YT "tuple" vs.toArray 0)).push (YT "list" #[] 0)}) wU ⟨rfl,rfl⟩) (fun Cu s0 uN=>?_) fun _ _ x=>x.elim);obtain ⟨rfl,rfl⟩:=uN
 have asks:=Zni (cmp:=kas_ask prog w A Cu vs) (s:={s with heap:=((s.heap.update a (Y1 fun _=>(#[]:Array Value))).push (YT "tuple" vs.toArray 0)).push (YT "list" #[] 0)}) (lt:=lt) (fun i j C hi hj q=>hc _ i j C wU hi hj q)
  (Q:=fun p s'=>p=ZB lt (XQ vs.length)/\s'={s with heap:=((s.heap.update a (Y1 fun _=>(#[]:Array Value))).push (YT "tuple" vs.toArray 0)).push (YT "list" #[] 0)}) (sW (n:=vs.length) (by omega)) ⟨rfl,rfl⟩
 refine Ya (Xd (kat_run (Q:=fun ff s'=>∃ p:Array Nat,p.size=vs.length/\arrOf ff=p.map (kas_item (vs.toArray.zip vs.toArray))/\failedOf ff=none/\p=ZB lt (XQ vs.length)/\s'={s with heap:=((s.heap.update a (Y1 fun _=>(#[]:Array Value))).push (YT "tuple" vs.toArray 0)).push (YT "list" #[] 0)})
  rfl h2 iN (fun p' ff s' b1 b2 b3 b4=>⟨p',b1,b2,b3,b4.1,b4.2⟩) asks) ?_ fun _ _ e=>e)
 rintro ⟨⟨⟩,ff⟩ s' ⟨p,hp,har,hf,rfl,rfl⟩
 dsimp only;have len:(Yag ((ZB lt (XQ vs.length)).toList.map fun i=>vs.getD i Value.none)).size=vs.length:=by rw [Yn,Yb,YH,hp]
 rw [kat_snds rfl har]
 obtain ⟨c2,iW⟩:∃ c2,((((s.heap.update a (Y1 fun _=>(#[]:Array Value))).push (YT "tuple" vs.toArray 0)).push (YT "list" #[] 0)).update a (Y1 fun _=>Yag ((ZB lt (XQ vs.length)).toList.map fun i=>vs.getD i Value.none))).get? a=some (YT "list" (Yag ((ZB lt (XQ vs.length)).toList.map fun i=>vs.getD i Value.none)) c2):=
  ⟨_,Ybq rK fun _=>Yag ((ZB lt (XQ vs.length)).toList.map fun i=>vs.getD i Value.none)⟩
 refine Ya (seqEpoch_at rK rfl (Ya (listUpdate_at rK rfl ?_ (Yv _) (Yk (WW len) (YaT big)))));rw [hf]
 simp only [bne_self_eq_false,YQ,if_false]
 exact Yd (h _ c2 hp (fun b o hb e=>(Xq _ _ (WN hb)).trans (wU b o hb e)) iW)
theorem ZrJ (ho:s.heap.get? a=some (YT "list" vs.toArray n)) (h2:vs.length < 2)
  (h:∀ (h':Heap) (c:Nat),(∀ b o,b≠a->s.heap.get? b=some o->h'.get? b=some o)->h'.get? a=some (YT "list" vs.toArray c)->P (.done (.ret .none)) {s with heap:=h'}) :
  wpAny (model prog w) A (Builtin.«list.sort» ⟨[.ref a],[]⟩) P E s:=by
 have low:a < s.heap.objs.size:=Yj ho;obtain ⟨c1,rL⟩:∃ c1,(s.heap.update a (Y1 fun _=>(#[]:Array Value))).get? a=some (YT "list" #[] c1):=⟨_,Ybq ho fun _=>#[]⟩
 have rK:(((s.heap.update a (Y1 fun _=>(#[]:Array Value))).push (YT "tuple" vs.toArray 0)).push (YT "list" #[] 0)).get? a=some (YT "list" #[] c1):=Yc _ (Yc _ rL)
 have wU:∀ b o,b≠a->s.heap.get? b=some o->(((s.heap.update a (Y1 fun _=>(#[]:Array Value))).push (YT "tuple" vs.toArray 0)).push (YT "list" #[] 0)).get? b=some o:=fun b o hb e=>
  Yc _ (Yc _ ((Xq _ _ (WN hb)).trans e))
 have big:vs.length<=Ym:=by rw [WR];omega
 rw [list_sort_plain];refine Ya (listItems_at ho rfl (Ya (listUpdate_at ho rfl ?_ (by rw [Yn];exact big) (Yv _))));refine Ya (seqEpoch_at rL rfl (Ya (wpAny_newTuple ?_ big)));refine Ya (Ya3 (Y6 ?_) (Yv _));show wpAny (model prog w) A _ P E {s with heap:=((s.heap.update a (Y1 fun _=>(#[]:Array Value))).push (YT "tuple" vs.toArray 0)).push (YT "list" #[] 0)};dsimp only;have two:vs.toArray.size < 2:=by rw [Yn];omega
 rw [if_pos two,if_pos two];refine Ya (Yd ?_);rw [StateT.run_pure];refine Ya (Yd ?_);dsimp only
 have KC:Array.map (·.2) (arrOf (SortSt.mk' general' (vs.toArray.zip vs.toArray) #[] 7 none))=vs.toArray:=by
  show Array.map (·.2) (vs.toArray.zip vs.toArray)=vs.toArray
  simp only [List.zip_toArray,List.map_toArray]
  rw [show List.map (fun x=>x.2) (vs.zip vs)=vs from List.map_snd_zip (Ye _)]
 obtain ⟨c2,iW⟩:∃ c2,((((s.heap.update a (Y1 fun _=>(#[]:Array Value))).push (YT "tuple" vs.toArray 0)).push (YT "list" #[] 0)).update a (Y1 fun _=>vs.toArray)).get? a=some (YT "list" vs.toArray c2):=⟨_,Ybq rK fun _=>vs.toArray⟩
 rw [KC];refine Ya (seqEpoch_at rK rfl (Ya (listUpdate_at rK rfl ?_ (Yv _) (by rw [Yn];exact YaT big))))
 simp only [bne_self_eq_false,YQ,if_false]
 exact Yd (h _ c2 (fun b o hb e=>(Xq _ _ (WN hb)).trans (wU b o hb e)) iW)
end
section
variable {X:Cx} {pins:List (Addr×Obj)} {σ:St} {H:Hp} {s:Shared}
theorem Inv.many {H':Hp} {h':Heap} {t':Nat} (I:Inv X pins σ H s) (old:∀ b o,s.heap.get? b=some o->h'.get? b=some o) (up:ag H H') (nw:∀ b o,H' b=some o->H b=some o∨(s.heap.get? b=none/\bT X.prog X.w H' h' b o)):Inv X pins σ H' {s with heap:=h',toks:=t'}:=by
 refine I.un ⟨fun b o e _ _ _=>old b o e,fun b o e _ _ _=>⟨o.slots,old b o e⟩,fun b o e n _=>?_,fun b o e _=>⟨o,old b o e⟩,fun b xs e=>up _ _ e,fun b o u e=>up _ _ e,fun b ps e=>⟨#[],by rw [up _ _ e];simp⟩⟩ fun b o e=>?_
 ·cases z:H' b with
  | none=>rfl
  | some q=>
   rcases nw b q z with y | ⟨y,_⟩
   ·rw [n] at y;cases y
   ·rw [e] at y;cases y
 ·rcases nw b o e with y | ⟨_,y⟩
  ·exact (I.aj b o y).c9 (fun c u _ q=>old c u q) (fun c q=>up _ _ q) fun c xs q=>up _ _ q
  ·exact y
def oA:List (Addr×List V)->Hp->Hp
 | [],H=>H
 | p::r,H=>upd (oA r H) p.1 (.tup p.2)
theorem Zo6:∀ (ps:List (Addr×List V)) (H:Hp) (b:Addr) (o:HO),oA ps H b=some o->H b=some o∨∃ xs,(b,xs)∈ps/\o=.tup xs
 | [],_,_,_,h=>.inl h
 | p::r,H,b,o,h=>by
  by_cases e:b=p.1
  ·subst e;have h':upd (oA r H) p.1 (.tup p.2) p.1=some o:=h;rw [Zb] at h'
   cases h'
   exact .inr ⟨p.2,YA,rfl⟩
  ·have h':upd (oA r H) p.1 (.tup p.2) b=some o:=h;rw [Zf e] at h';rcases Zo6 r H b o h' with q | ⟨xs,q,rfl⟩
   ·exact .inl q
   ·exact .inr ⟨xs,Yr _ q,rfl⟩
theorem ZmQ:∀ (ps:List (Addr×List V)) (H:Hp) (b:Addr),b ∉ ps.map (·.1)->oA ps H b=H b
 | [],_,_,_=>rfl
 | p::r,H,b,h=>by
  have h1:b≠p.1:=fun z=>h (by rw [z];exact YA);show upd (oA r H) p.1 (.tup p.2) b=H b;rw [Zf h1];exact ZmQ r H b fun z=>h (Yr _ z)
theorem Zo7:∀ (ps:List (Addr×List V)) (H:Hp) (b:Addr) (xs:List V),(ps.map (·.1)).Nodup->(b,xs)∈ps->oA ps H b=some (.tup xs)
 | p::r,H,b,xs,nd,h=>by
  have nd':(p.1::r.map (·.1)).Nodup:=nd;obtain ⟨n1,n2⟩:=List.nodup_cons.mp nd';rcases List.mem_cons.mp h with e | h
  ·subst e;exact Zb
  ·have h1:b≠p.1:=fun z=>n1 (by rw [<- z];exact List.mem_map.mpr ⟨(b,xs),h,rfl⟩);show upd (oA r H) p.1 (.tup p.2) b=_;rw [Zf h1];exact Zo7 r H b xs n2 h
end
end L2
namespace L2
open PySem PySem.Spec PyProof.Rows PySem.W
section
variable {X:Cx} {pins:List (Addr×Obj)} {σ:St} {H:Hp} {s:Shared}
theorem Inv.ir {t':Nat} {wr:List Addr} {T:Addr} {xs:List V} {h':Heap} (I:Inv X pins σ H s) (hf:∀ b∈wr,eD X pins H b) (k:∀ b o,b ∉ wr->s.heap.get? b=some o->h'.get? b=some o) (hT:s.heap.objs.size<=T)
  (new:bT X.prog X.w (upd H T (.tup xs)) h' T (.tup xs)):Inv X pins σ (upd H T (.tup xs)) {s with heap:=h',toks:=t'}:=by
 have DA:s.heap.get? T=none:=by
  cases z:s.heap.get? T with
  | none=>rfl
  | some o=>exact absurd (Yj z) (Nat.not_lt.mpr hT)
 have hHT:H T=none:=I.aj.fresh hT;have pH:∀ b u,H b=some u->b ∉ wr:=fun b u e z=>by rw [(hf b z).1] at e;cases e
 have nT:∀ b u,H b=some u->b≠T:=fun b u e z=>by rw [z,hHT] at e;cases e
 refine I.step (g':=s.gens) (d':=s.drawn) (ch:=wr) (fun b hb=>?_) (fun b o _ _ hc e _=>k b o hc e) (fun b o _ _ hc e _=>⟨o.slots,k b o hc e⟩) (fun b o hc e n=>?_)
  (fun b o hc e=>⟨o,k b o hc e⟩) (fun b ys e=>by rw [Zf (nT _ _ e)];exact e) (fun b o u e=>by rw [Zf (nT _ _ e)];exact e) (fun b ps e=>⟨#[],by rw [Zf (nT _ _ e),e];simp⟩) (fun m hm=>?_) (fun b u e=>?_) I.bare
 ·obtain ⟨f0,f1,f2,f3,f4,f5⟩:=hf b hb;exact ⟨f3,f1,f4,f5⟩
 ·rw [Zf (fun z=>by rw [z,DA] at e;cases e)];exact n
 ·obtain ⟨o,es,ep,ho,r⟩:=hm;exact ⟨o,es,ep,k _ o (fun z=>(hf _ z).2.1 rfl) ho,r⟩
 ·by_cases z:b=T
  ·subst z;rw [Zb] at e
   cases e
   exact new
  ·rw [Zf z] at e;refine (I.aj b u e).c9 (fun c v hc q=>k c v ?_ q) (fun c q=>by rw [Zf (nT _ _ q)];exact q) fun c ys q=>by rw [Zf (nT _ _ q)];exact q
   rcases hc with y | y
   ·rw [y];exact pH b u e
   ·exact pH _ _ y
theorem Inv.iu {t':Nat} {wr:List Addr} {h':Heap} (I:Inv X pins σ H s) (hf:∀ b∈wr,eD X pins H b) (k:∀ b o,b ∉ wr->s.heap.get? b=some o->h'.get? b=some o):Inv X pins σ H {s with heap:=h',toks:=t'}:=by
 have pH:∀ b u,H b=some u->b ∉ wr:=fun b u e z=>by rw [(hf b z).1] at e;cases e
 refine I.step (g':=s.gens) (d':=s.drawn) (ch:=wr) (fun b hb=>?_) (fun b o _ _ hc e _=>k b o hc e) (fun b o _ _ hc e _=>⟨o.slots,k b o hc e⟩) (fun b o hc e n=>n)
  (fun b o hc e=>⟨o,k b o hc e⟩) (fun b ys e=>e) (fun b o u e=>e) (fun b ps e=>⟨#[],by rw [e];simp⟩) (fun m hm=>?_) (fun b u e=>?_) I.bare
 ·obtain ⟨f0,f1,f2,f3,f4,f5⟩:=hf b hb;exact ⟨f3,f1,f4,f5⟩
 ·obtain ⟨o,es,ep,ho,r⟩:=hm;exact ⟨o,es,ep,k _ o (fun z=>(hf _ z).2.1 rfl) ho,r⟩
 ·refine (I.aj b u e).c9 (fun c v hc q=>k c v ?_ q) (fun c q=>q) fun c ys q=>q;rcases hc with y | y
  ·rw [y];exact pH b u e
  ·exact pH _ _ y
end
section
variable {prog:Program} {w:World} {A:Around} {E:Value->Shared->Prop} {s:Shared}
theorem En {it a:Addr} {i:Nat} {vs:Array Value} {x:Value} {Q:Value->Shared->Prop} (st:s.heap.IsTupleIter it a i) (ha:s.heap.IsTuple a vs) (hx:vs[i]?=some x)
  (q:∀ k,k.IsTupleIter it a (i + 1)->Xx it s.heap k->Q x {s with heap:=k}):wpAny (model prog w) A (Y7 (.ref it)) Q E s:=by
 obtain ⟨u,e1,c1,d1⟩:=id st;obtain ⟨ua,e2,_,m,d2⟩:=ha;unfold Y7;refine Ya (YJ (name:=Y9 "__next__") st.typeIs WM (YK WM st.typeIs F.entry_tuple_iterator_next ?_ (F.args_tuple_iterator_next_1 _)));change wpAny _ _ (field (Value.ref it) 0 >>= _) _ _ s;refine Ya (Y3 e1 d1 (x:=.ref a) rfl ?_);show wpAny _ _ (if (Value.ref a == Value.none)=true then _ else _) _ _ s;rw [if_neg (by exact Yp)];change wpAny _ _ (field (Value.ref it) 1 >>= _) _ _ s;refine Ya (Y3 e1 d1 (x:=.int i 0) rfl ?_);change wpAny _ _ (seqItems? (Value.ref a) >>= _) _ _ s;refine (Ya (Wr e2 d2 ?_))
 simp only [Xc,hx]
 refine Ya (WQ e1 d1 (by simp) (Yd ⟨x,rfl,Yd (q _ ?_ (XW ..))⟩));refine ⟨_,Yai _ e1 (YbB (Wx d1 _)),(Obj.cls_mapFields ..).trans c1,?_⟩;rw [Wx d1]
 simp [X7]
theorem GH {it a:Addr} {i:Nat} {vs:Array Value} {Q:Value->Shared->Prop} (hh:A.handled=none) (st:s.heap.IsTupleIter it a i) (ha:s.heap.IsTuple a vs) (hx:vs[i]?=none)
  (q:∀ k x,Heap.ExtBut it s.heap k->(∃ o,k.get? x=some o/\o.cls=.type "StopIteration")->E (.ref x) {s with heap:=k}):wpAny (model prog w) A (Y7 (.ref it)) Q E s:=by
 obtain ⟨u,e1,c1,d1⟩:=id st;obtain ⟨ua,e2,_,m,d2⟩:=ha;unfold Y7;refine Ya (YJ (name:=Y9 "__next__") st.typeIs WM (YK WM st.typeIs F.entry_tuple_iterator_next ?_ (F.args_tuple_iterator_next_1 _)));change wpAny _ _ (field (Value.ref it) 0 >>= _) _ _ s;refine Ya (Y3 e1 d1 (x:=.ref a) rfl ?_);show wpAny _ _ (if (Value.ref a == Value.none)=true then _ else _) _ _ s;rw [if_neg (by exact Yp)];change wpAny _ _ (field (Value.ref it) 1 >>= _) _ _ s;refine Ya (Y3 e1 d1 (x:=.int i 0) rfl ?_);change wpAny _ _ (seqItems? (Value.ref a) >>= _) _ _ s;refine (Ya (Wr e2 d2 ?_))
 simp only [Xc,hx]
 refine Ya (wpAny_rule (Ya (WQ e1 d1 (by simp) ?_)));change wpAny _ _ (newExc (Value.type "StopIteration") [] >>= _) _ _ _;refine Ya ?_;simp only [newExc,newTuple];refine Ya (YF (Ya (m:=Ws _ _) (wpAny_of_eq (a:=Value.none) (by first | rfl | (simp only [Ws];rfl)) ?_)) (by size_fits));refine YF ?_ (by size_fits);simp only [raiseNew];refine Ya (wpAny_handled ?_);first | rw [show A.in1.handled=none from hh] | rw [hh]
 refine Ya (Yd (wpAny_throw (q _ _ (((XW ..).extBut.push _).push _) ⟨_,Yi _ rfl,rfl⟩)))
theorem Zvb (hh:A.handled=none) (it a:Addr) (bY:a≠it) (vs:Array Value) :
  Draws prog w A it [it,a] vs.size (fun i v=>vs[i]?=some v) (fun i h=>h.IsTupleIter it a i/\h.IsTuple a vs) where
 live:=fun _ _ st=>let ⟨o,ho,_⟩:=st.1;⟨o,ho⟩
 frame:=fun _ _ _ st hk=>⟨st.1.at fun o e=>hk it (by simp) o e,let ⟨o,e,r⟩:=st.2;⟨o,hk a (by simp) o e,r⟩⟩
 item:=fun i s Q E hi st hQ=>En st.1 st.2 (x:=vs[i]) (by simp [hi]) fun k ff sb=>hQ _ k s.toks (by simp [hi]) ⟨ff,st.2.extBut sb.extBut bY⟩ sb
 done:=fun s Q E st hE=>GH hh st.1 st.2 (by simp) hE
end
end L2
namespace L2
open PySem PySem.Spec PyProof.Rows PySem.W
open AutoSeq1 (wpAny_loadPart')
section
variable {prog:Program} {w:World} {A:Around} {E:Value->Shared->Prop} {s:Shared}
theorem Zrd (a:Addr) (vs:Array Value) (n:Nat) (dd:Option Addr) (sl:Array (Option Value)) :
  Meets (Builtin.«enumerate.__new__» ⟨[.type "enumerate",.ref a],[]⟩) (fun _ R s=>s.heap.get? a=some {cls:=.type "tuple",dict:=dd,data:=.seq vs n,slots:=sl}/\
   R (.ok (.ret (.ref (s.heap.push {cls:=.type "tuple_iterator",data:=.fields #[.ref a,.int 0 0]}).objs.size)))
    {s with heap:=(s.heap.push {cls:=.type "tuple_iterator",data:=.fields #[.ref a,.int 0 0]}).push {cls:=.type "enumerate",data:=.fields #[.none,.bool false,.ref s.heap.objs.size,X7 0,.none,.none]}}):=
 .of_wp fun prog w A R s h=>by
  obtain ⟨hp,g,d,tk,os⟩:=s;obtain ⟨hl,h⟩:=h;have kS:=sub_enumerate;have hT:Heap.IsTuple (Shared.heap ⟨hp,g,d,tk,os⟩) a vs:=⟨_,hl,rfl,n,rfl⟩
  wp_walk using W5 hl
  refine wpAny_stack_any fun st=>Yd ?_
  split
  ·rename_i c _ _ _ _ _
   cases (c == Value.type "enumerate")
   all_goals (wp_walk using W5 hl,YaE hT;exact ⟨_,rfl,h⟩)
  ·wp_walk using W5 hl,YaE hT;exact ⟨_,rfl,h⟩
theorem Ztv {a:Addr} {vs:Array Value} {Q:Value->Shared->Prop} (ha:s.heap.IsTuple a vs)
  (h:∀ k,IsEnum k (s.heap.objs.size + 1) s.heap.objs.size 0 .none->k.IsTupleIter s.heap.objs.size a 0->(∀ b o,s.heap.get? b=some o->k.get? b=some o)->Q (.ref (s.heap.objs.size + 1)) {s with heap:=k}) :
  wpAny (model prog w) A (call (.type "enumerate") [.ref a]) Q E s:=by
 obtain ⟨⟨c,dd,dt,sl⟩,e,hc,n,hd⟩:=ha
 replace hc:c=.type "tuple":=hc
 replace hd:dt=.seq vs n:=hd
 subst hc hd;refine callType_new F.called_enumerate (by decide) (F.typeCall_enumerate_1 _) (F.newCall_enumerate_1 _) (fun obj=>F.args_object_init_2 obj _) F.entry_enumerate_new (Zrd a vs n dd sl) ⟨e,?_⟩;have hz:(s.heap.push {cls:=.type "tuple_iterator",data:=.fields #[.ref a,.int 0 0]}).objs.size=s.heap.objs.size + 1:=XN ..;show _/\_;rw [hz]
 have he:IsEnum ((s.heap.push {cls:=.type "tuple_iterator",data:=.fields #[.ref a,.int 0 0]}).push {cls:=.type "enumerate",data:=.fields #[.none,.bool false,.ref s.heap.objs.size,X7 0,.none,.none]}) (s.heap.objs.size + 1) s.heap.objs.size 0 .none:=by
  have:=Yi (s.heap.push {cls:=.type "tuple_iterator",data:=.fields #[.ref a,.int 0 0]}) (o:={cls:=.type "enumerate",data:=.fields #[.none,.bool false,.ref s.heap.objs.size,X7 0,.none,.none]}) rfl
  rw [hz] at this;exact this
 exact ⟨⟨_,he,rfl⟩,h _ he ⟨_,Yc _ (Yi _ rfl),rfl,rfl⟩ fun b o x=>Yc _ (Yc _ x)⟩
end
theorem A8 {P:Program} {w:World} {H:Hp} {h:Heap} {T:Addr} {xs:List V} {vs:Array Value} (hT:h.IsTuple T vs) (r:Vals xs vs.toList) (hz:xs.length<=Ym):bT P w H h T (.tup xs):=by
 exact ⟨hz,vs.toList,r,hT⟩
def mK (K:Frag) (a:Addr):It:=
 ⟨fun i H=>∃ xs x,aG K H a xs/\xs[i]?=some x,fun i H x H'=>∃ t y,H t=none/\x=.ref t/\(∀ xs,aG K H a xs->xs[i]?=some y)/\H'=upd H t (.tup [.int (i:Nat),y]),fun i H=>∃ xs,aG K H a xs/\xs.length<=i⟩
theorem ZsE {P:Program} {w:World} {K:Frag} {elts:List Expr} {k:Nat} {pos:Pos} (a e it:Addr) (h1:a≠it) (h2:e≠it) (h3:a≠e):Turn P w K (.Tuple elts k pos) (mK K a) [e,it] e (fun i h=>(∃ old,IsEnum h e it i old)/\h.IsTupleIter it a i) where
 mem:=by simp
 obj:=fun i h st b hb=>by
  obtain ⟨⟨old,he⟩,o,ho,hc,hd⟩:=st;rcases List.mem_cons.mp hb with rfl | hb
  ·exact ⟨_,he,fun v z=>by cases z⟩
  ·have z:b=it:=by simpa using hb
   subst z;exact ⟨o,ho,fun v z=>by rw [hd] at z;cases z⟩
 keep:=fun i h h' st k=>by
  obtain ⟨⟨old,he⟩,st⟩:=st;exact ⟨⟨old,k e (by simp) _ he⟩,st.at fun o x=>k it (by simp) o x⟩
 item:=by
  intro X hP hw hK hc i pins s σ H E I hf st hg;subst hP hw hK;obtain ⟨xs,x,hq,hx⟩:=hg;obtain ⟨its,rv,p,hz⟩:=I.tuple hq;obtain ⟨u,hu,ru⟩:=rv.get hx;have hi:i < its.length:=(List.getElem?_eq_some_iff.mp hu).1;have W:=WalksT.enumerateD (prog:=X.prog) (w:=X.w) (A:=X.A) (Zvb (A:=X.A.in1) (by first | exact I.ok.hd hc | exact (I.ok.hd hc)) it a h1 its.toArray) e h2 (by simp [h2,h3.symm]) (by simp);refine W.item i s _ _ (by simpa using hi) ⟨st.1,st.2,p⟩ fun T vals h' tk hv hT hI hM hk=>?_;obtain ⟨t,y,hy,rfl⟩:=hv
  have hyu:y=u:=by
   have:its[i]?=some y:=by simpa using hy
   rw [hu] at this;exact (YB this).symm
  subst hyu;refine ⟨_,rfl,W.go elts k pos i T _ _ _ hM fun iX yU zt=>?_⟩;have hTw:=W.apart i T h' hM;have K2:iX.IsTuple T #[.int i t,y]:=let ⟨o,e1,r⟩:=hI;⟨o,zt T o hTw e1,r⟩
  have DA:H T=none:=I.aj.fresh hT;refine ⟨.ref T,_,I.ir (t':=tk) (wr:=[e,it]) hf (fun b o hb q=>zt b o hb (hk b o hb q)) hT (A8 (xs:=[.int (i:Nat),x]) K2 (.cons ⟨t,rfl⟩ (.cons ru .nil)) (by show 2<=Ym;decide)),rfl,⟨T,x,DA,rfl,fun ys hy=>by rw [I.eE hy hq];exact hx,rfl⟩,⟨yU.1,yU.2.1⟩,fun b hb=>?_⟩;have hbT:b≠T:=fun z=>hTw (by rw [<- z];exact hb);show upd H T _ b=none;rw [Zf hbT];exact (hf b hb).1
 done:=by
  intro X hP hw hK hc i pins s σ H E I hf st hg;subst hP hw hK;obtain ⟨xs,hq,hx⟩:=hg;obtain ⟨its,rv,p,hz⟩:=I.tuple hq;have hl:=rv.length;obtain ⟨⟨old,he⟩,jy⟩:=st;have hT:s.TypeIs (.ref e) "enumerate":=⟨_,he,rfl⟩
  unfold W8;refine Ya (XH (YJ (name:=Y9 "__next__") hT F.slot_enumerate_next (YK F.slot_enumerate_next hT F.entry_enumerate_next ?_ (F.args_enumerate_next_1 _))));change wpAny _ _ (field (Value.ref e) 2 >>= _) _ _ _;refine Ya (Y3 he rfl (x:=.ref it) rfl (Ya (GH (I.ok.hd hc) jy (show s.heap.IsTuple a its.toArray from p) (by simp;omega) fun h' x hb wZ=>?_)));obtain ⟨o,ho,cE⟩:=wZ;refine Ya (Yak (T:="StopIteration") (b:=true) ⟨o,ho,cE⟩ YaG (Yd ⟨rfl,I.iu (t':=s.toks) (wr:=[e,it]) hf fun b o hn q=>hb b o (fun z=>hn (by simp [z])) q⟩))
 self:=fun _ _ _ _ _ st h=>by obtain ⟨⟨old,he⟩,_⟩:=st;exact wpAny_pyIter_enum he h
def Zzv (K:Frag) (ta:TA):TI:=fun σ H R=>ta σ H fun vs H1=>∃ a,vs=[.ref a]/\(∃ xs,aG K H1 a xs)/\R (mK K a) H1
theorem ZpD {X:Cx} {elts:List Expr} {k:Nat} {tp:Pos} {a:Expr} {ta:TA} {p pos:Pos} (hg:Gl X "enumerate") (hm:X.mg "enumerate"=none) (ha:PA X [a] ta) (hs:Yx [a] X.env=[(false,eval a X.env)]:=by rfl):PI X (.Tuple elts k tp) (.Call (.Name "enumerate" p) [a] [] pos) (Zzv X.K ta):=by
 try unfold PA at *
 intro pins s σ H R I h;refine Call_ (sG I hg hm PyProof.Rows.Boot.«enumerate» (XY (aH (ha pos pins s σ H _ I h) fun us s1 ⟨vs,H1,I1,r1,q1⟩=>?_) hs rfl));obtain ⟨a,e,⟨xs,hq⟩,q⟩:=q1;subst e
 cases r1 with
 | cons r rr=>
  cases rr
  cases (show _=Value.ref a from r)
  obtain ⟨its,rv,p,hz⟩:=I1.tuple hq;have bq:a < s1.heap.objs.size:=by obtain ⟨o,e,_⟩:=p;exact Yj e
  refine Ztv (show s1.heap.IsTuple a its.toArray from p) fun k he st kk=>?_;refine wpAny_pyIter_enum he ?_;refine ⟨s1.heap.objs.size + 1,[s1.heap.objs.size + 1,s1.heap.objs.size],_,_,H1,rfl,I1.kept (t':=s1.toks) kk,ZsE a _ _ (Yu bq) (Nat.succ_ne_self _) (Yu (Nat.lt_succ_of_lt bq)),⟨⟨_,he⟩,st⟩,fun b hb=>?_,q⟩
  have pT:s1.heap.objs.size<=b:=by
   rcases List.mem_cons.mp hb with rfl | hb
   ·exact Wz _
   ·have:b=s1.heap.objs.size:=by simpa using hb
    exact WW this.symm
  exact I1.ij pT (I1.aj.fresh pT)
end L2
namespace L2
open PySem PySem.Spec PyProof.Rows PySem.W
open AutoSeq1 (wpAny_loadPart')
section
variable {prog:Program} {w:World} {A:Around} {E:Value->Shared->Prop} {s:Shared}
theorem Zxl {z ti tu i1 i2 l1 l2:Addr} {k:Nat} {xs ys:Array Value} {x y a b:Value} {Q:Value->Shared->Prop} (D:ZipApart z ti tu i1 i2 l1 l2)
  (hz:IsZip s.heap z ti tu .none) (C_:Yaj s.heap ti (.ref i1) (.ref i2)) (w6:Yaj s.heap tu a b)
  (g1:s.heap.IsTupleIter i1 l1 k) (g2:s.heap.IsListIter i2 l2 k) (d_:s.heap.IsTuple l1 xs) (cJ:s.heap.IsList l2 ys) (hx:xs[k]?=some x) (hy:ys[k]?=some y)
  (q:∀ m,IsZip m z ti tu (X7 s.heap.objs.size)->Yaj m tu x y->m.IsTupleIter i1 l1 (k + 1)->m.IsListIter i2 l2 (k + 1)->Yaj m s.heap.objs.size x y->
   (∀ c o,c≠z->c≠tu->c≠i1->c≠i2->s.heap.get? c=some o->m.get? c=some o)->Q (.ref s.heap.objs.size) {s with heap:=m}) :
  wpAny (model prog w) A (Builtin.«zip.__next__» ⟨[.ref z],[]⟩) (fun fin t=>∃ v,fin=.done (.ret v)/\Q v t) E s:=by
 change wpAny _ _ (field (Value.ref z) 2 >>= _) _ _ _;refine Ya (Y3 hz rfl (x:=.bool false) rfl ?_);change wpAny _ _ (field (Value.ref z) 3 >>= _) _ _ _;refine Ya (Y3 hz rfl (x:=.ref ti) rfl (Ya (Wr C_ rfl ?_)));change wpAny _ _ (X0 (Value.ref z) >>= _) _ _ _;refine Ya ?_;unfold X0;refine Ya (Y3 hz rfl (x:=.none) rfl (Yd ?_));simp only [if_true];refine Ya (wpAny_rule (Ya (Y3 hz rfl (x:=.ref tu) rfl ?_)));refine Ya (Y8 hz (by simp) fun m1 z1 b1=>?_)
 replace z1:IsZip m1 z ti tu .ellipsis:=z1
 refine Ya ?_;simp only [List.zipIdx_cons,List.zipIdx_nil,Ybx,List.forIn_nil];refine Ya (Ya (wpAny_onRaise ?_));change wpAny _ _ (Y7 (Value.ref i1) >>= _) _ _ _;refine Ya (En (g1.extBut b1.extBut D.i1z) (d_.extBut b1.extBut D.l1z) hx fun m2 g12 b2=>Yd ?_);have p2:Yaj m2 tu a b:=b2.extBut _ _ D.TOi1 (b1.extBut _ _ D.TOz w6);refine Ya (Wr p2 rfl (Ya (YbD p2 fun m3 p3 b3=>?_)))
 replace p3:Yaj m3 tu x b:=p3
 refine Ya (wpAny_letGo (Yd (Ya (Ya (wpAny_onRaise ?_)))));change wpAny _ _ (Y7 (Value.ref i2) >>= _) _ _ _;have DH:=((g2.extBut b1.extBut D.i2z).extBut b2.extBut D.i12.symm).extBut b3.extBut D.TOi2.symm;have CZ:=((cJ.extBut b1.extBut D.l2z).extBut b2.extBut D.l2i1).extBut b3.extBut D.l2TO;refine Ya (wpAny_nextOf_list_item DH CZ hy fun m4 g24 b4=>Yd ?_);have p4:Yaj m4 tu x b:=b4.extBut _ _ D.TOi2 p3;refine Ya (Wr p4 rfl (Ya (YbD p4 fun m5 p5 b5=>?_)))
 replace p5:Yaj m5 tu x y:=p5
 refine Ya (wpAny_letGo (Yd (Yd (Ya (Wr p5 rfl (Ya (wpAny_newTuple ?_)))))));have es:m5.objs.size=s.heap.objs.size:=by rw [b5.1,b4.1,b3.1,b2.1,b1.1]
 have z5:IsZip m5 z ti tu .ellipsis:=b5.extBut _ _ D.TOz.symm (b4.extBut _ _ D.i2z.symm (b3.extBut _ _ D.TOz.symm (b2.extBut _ _ D.i1z.symm z1)));have k5:∀ c o,c≠z->c≠tu->c≠i1->c≠i2->s.heap.get? c=some o->m5.get? c=some o:=fun c o c1 c2 c3 c4 e=>b5.extBut _ _ c2 (b4.extBut _ _ c4 (b3.extBut _ _ c2 (b2.extBut _ _ c3 (b1.extBut _ _ c1 e))));have g15:m5.IsTupleIter i1 l1 (k + 1):=((g12.extBut b3.extBut D.TOi1.symm).extBut b4.extBut D.i12).extBut b5.extBut D.TOi1.symm;have g25:m5.IsListIter i2 l2 (k + 1):=g24.extBut b5.extBut D.TOi2.symm;have zl:z < m5.objs.size:=Yj z5;change wpAny _ _ (YbK (Value.ref z) (Value.ref m5.objs.size) >>= _) _ _ _;refine Ya ?_;unfold YbK;have z6:IsZip (m5.push {cls:=.type "tuple",data:=.seq #[x,y]}) z ti tu .ellipsis:=Yc _ z5;refine Ya (Y8 z6 (by simp) fun m7 z7 b7=>?_)
 replace z7:IsZip m7 z ti tu (X7 m5.objs.size):=z7
 refine Y8 z7 (by simp) fun m8 z8 b8=>?_
 replace z8:IsZip m8 z ti tu (X7 m5.objs.size):=z8
 have up:∀ c o,c≠z->m5.get? c=some o->m8.get? c=some o:=fun c o c1 e=>b8.extBut _ _ c1 (b7.extBut _ _ c1 (Yc _ e));have T8:Yaj m8 m5.objs.size x y:=b8.extBut _ _ (WB zl) (b7.extBut _ _ (WB zl) (Yi _ rfl));rw [es] at z8 T8;refine Yd ⟨_,rfl,?_⟩;show Q (.ref m5.objs.size) _;rw [es];exact q m8 z8 (up _ _ D.TOz p5) (g15.at fun o e=>up _ o D.i1z e) (g25.at fun o e=>up _ o D.i2z e) T8 fun c o c1 c2 c3 c4 e=>up c o c1 (k5 c o c1 c2 c3 c4 e)
theorem Zyt {z ti tu i1 i2 l1 l2:Addr} {k:Nat} {xs ys:Array Value} {a b:Value} {Q:PySem.Fin->Shared->Prop} (hh:A.handled=none) (D:ZipApart z ti tu i1 i2 l1 l2)
  (hz:IsZip s.heap z ti tu .none) (C_:Yaj s.heap ti (.ref i1) (.ref i2)) (w6:Yaj s.heap tu a b)
  (g1:s.heap.IsTupleIter i1 l1 k) (g2:s.heap.IsListIter i2 l2 k) (d_:s.heap.IsTuple l1 xs) (cJ:s.heap.IsList l2 ys) (he:xs[k]?=none∨ys[k]?=none)
  (q:∀ m e,(∀ c o,c≠z->c≠tu->c≠i1->c≠i2->s.heap.get? c=some o->m.get? c=some o)->(∃ o,m.get? e=some o/\o.cls=.type "StopIteration")->E (.ref e) {s with heap:=m}) :
  wpAny (model prog w) A (Builtin.«zip.__next__» ⟨[.ref z],[]⟩) Q E s:=by
 change wpAny _ _ (field (Value.ref z) 2 >>= _) _ _ _;refine Ya (Y3 hz rfl (x:=.bool false) rfl ?_);change wpAny _ _ (field (Value.ref z) 3 >>= _) _ _ _;refine Ya (Y3 hz rfl (x:=.ref ti) rfl (Ya (Wr C_ rfl ?_)));change wpAny _ _ (X0 (Value.ref z) >>= _) _ _ _;refine Ya ?_;unfold X0;refine Ya (Y3 hz rfl (x:=.none) rfl (Yd ?_));simp only [if_true];refine Ya (wpAny_rule (Ya (Y3 hz rfl (x:=.ref tu) rfl ?_)));refine Ya (Y8 hz (by simp) fun m1 z1 b1=>?_)
 replace z1:IsZip m1 z ti tu .ellipsis:=z1
 refine Ya ?_;simp only [List.zipIdx_cons,List.zipIdx_nil,Ybx,List.forIn_nil];refine Ya (Ya (wpAny_onRaise ?_));change wpAny _ _ (Y7 (Value.ref i1) >>= _) _ _ _
 cases hx:xs[k]? with
 | none=>
  refine Ya (GH hh (g1.extBut b1.extBut D.i1z) (d_.extBut b1.extBut D.l1z) hx fun m2 e b2 hE=>?_);obtain ⟨u,hu,hc⟩:=hE;have z2:IsZip m2 z ti tu .ellipsis:=b2 _ _ D.i1z.symm z1;have ez:e≠z:=fun y=>by subst y;rw [z2] at hu;cases hu;simp at hc
  exact Y8 z2 (by simp) fun m3 _ b3=>q m3 e (fun c o c1 _ c3 _ y=>b3.extBut _ _ c1 (b2 _ _ c3 (b1.extBut _ _ c1 y))) ⟨u,b3.extBut _ _ ez hu,hc⟩
 | some x=>
  have hy:ys[k]?=none:=by
   rcases he with h | h
   ·rw [hx] at h;cases h
   ·exact h
  refine Ya (En (g1.extBut b1.extBut D.i1z) (d_.extBut b1.extBut D.l1z) hx fun m2 g12 b2=>Yd ?_);have p2:Yaj m2 tu a b:=b2.extBut _ _ D.TOi1 (b1.extBut _ _ D.TOz w6);refine Ya (Wr p2 rfl (Ya (YbD p2 fun m3 p3 b3=>?_)));refine Ya (wpAny_letGo (Yd (Ya (Ya (wpAny_onRaise ?_)))));change wpAny _ _ (Y7 (Value.ref i2) >>= _) _ _ _;have DH:=((g2.extBut b1.extBut D.i2z).extBut b2.extBut D.i12.symm).extBut b3.extBut D.TOi2.symm;have CZ:=((cJ.extBut b1.extBut D.l2z).extBut b2.extBut D.l2i1).extBut b3.extBut D.l2TO;refine Ya (wpAny_nextOf_list_end hh DH CZ hy fun m4 e b4 hE=>?_);obtain ⟨u,hu,hc⟩:=hE;have z4:IsZip m4 z ti tu .ellipsis:=b4 _ _ D.i2z.symm (b3.extBut _ _ D.TOz.symm (b2.extBut _ _ D.i1z.symm z1));have ez:e≠z:=fun y=>by subst y;rw [z4] at hu;cases hu;simp at hc
  exact Y8 z4 (by simp) fun m5 _ b5=>q m5 e (fun c o c1 c2 c3 c4 y=>b5.extBut _ _ c1 (b4 _ _ c4 (b3.extBut _ _ c2 (b2.extBut _ _ c3 (b1.extBut _ _ c1 y))))) ⟨u,b5.extBut _ _ ez hu,hc⟩
abbrev Aa (h:Heap) (a:Addr):Heap:=h.push {cls:=.type "tuple_iterator",data:=.fields #[.ref a,.int 0 0]}
abbrev z_ (h:Heap) (a b:Addr):Heap:=(Aa h a).push {cls:=.type "list_iterator",data:=.fields #[.ref b,.int 0 0]}
abbrev z9 (h:Heap) (a b:Addr):Heap:=(z_ h a b).push {cls:=.type "tuple",data:=.seq #[.ref h.objs.size,.ref (Aa h a).objs.size]}
abbrev z0 (h:Heap) (a b:Addr):Heap:=(z9 h a b).push {cls:=.type "tuple",data:=.seq #[.none,.none]}
abbrev uw (h:Heap) (a b:Addr):Heap:=(z0 h a b).push {cls:=.type "zip",data:=.fields #[.none,.bool false,.bool false,.ref (z_ h a b).objs.size,.ref (z9 h a b).objs.size]}
theorem Zrc (a b:Addr) (xs ys:Array Value) :
  Meets (Builtin.«zip.__new__» ⟨[.type "zip",.ref a,.ref b],[]⟩) (fun _ R s=>s.heap.IsTuple a xs/\s.heap.IsList b ys/\R (.ok (.ret (.ref (z0 s.heap a b).objs.size))) {s with heap:=uw s.heap a b}):=
 .of_wp fun prog w A R s h=>by
  obtain ⟨hp,g,d,tk,os⟩:=s;obtain ⟨ha,hb,h⟩:=h;have kS:=sub_zip;have hA:Heap.IsTuple (Shared.heap ⟨hp,g,d,tk,os⟩) a xs:=ha;have hB:Heap.IsList (Shared.heap ⟨hp.push {cls:=.type "tuple_iterator",data:=.fields #[.ref a,.int 0 0]},g,d,tk,os⟩) b ys:=Heap.IsList.push hb _
  wp_walk using YaE hA,wpAny_pyIter_list hB
  exact ⟨_,rfl,h⟩
theorem Zts {a b:Addr} {xs ys:Array Value} {Q:Value->Shared->Prop} (ha:s.heap.IsTuple a xs) (hb:s.heap.IsList b ys)
  (h:∀ m,IsZip m (s.heap.objs.size + 4) (s.heap.objs.size + 2) (s.heap.objs.size + 3) .none->Yaj m (s.heap.objs.size + 2) (.ref s.heap.objs.size) (.ref (s.heap.objs.size + 1))->
   Yaj m (s.heap.objs.size + 3) .none .none->m.IsTupleIter s.heap.objs.size a 0->m.IsListIter (s.heap.objs.size + 1) b 0->(∀ c o,s.heap.get? c=some o->m.get? c=some o)->Q (.ref (s.heap.objs.size + 4)) {s with heap:=m}) :
  wpAny (model prog w) A (call (.type "zip") [.ref a,.ref b]) Q E s:=by
 refine callType_new F.called_zip (by decide) (F.typeCall_zip_2 _ _) (F.newCall_zip_2 _ _) (fun obj=>F.args_object_init_3 obj _ _) F.entry_zip_new (Zrc a b xs ys) ⟨ha,hb,?_⟩;have y1:(Aa s.heap a).objs.size=s.heap.objs.size + 1:=XN ..;have y2:(z_ s.heap a b).objs.size=s.heap.objs.size + 2:=by rw [XN,y1]
 have y3:(z9 s.heap a b).objs.size=s.heap.objs.size + 3:=by rw [XN,y2]
 have y4:(z0 s.heap a b).objs.size=s.heap.objs.size + 4:=by rw [XN,y3]
 have f5:(uw s.heap a b).get? (z0 s.heap a b).objs.size=some _:=Yi _ rfl;have f4:(uw s.heap a b).get? (z9 s.heap a b).objs.size=some _:=Yc _ (Yi _ rfl);have f3:(uw s.heap a b).get? (z_ s.heap a b).objs.size=some _:=Yc _ (Yc _ (Yi _ rfl));have f2:(uw s.heap a b).get? (Aa s.heap a).objs.size=some _:=Yc _ (Yc _ (Yc _ (Yi _ rfl)));have f1:(uw s.heap a b).get? s.heap.objs.size=some _:=Yc _ (Yc _ (Yc _ (Yc _ (Yi _ rfl))));show _/\_;rw [y2,y3,y4] at f5;rw [y1,y2] at f3;rw [y3] at f4;rw [y1] at f2;rw [y4];exact ⟨⟨_,f5,rfl⟩,h _ f5 f3 f4 ⟨_,f1,rfl,rfl⟩ ⟨_,f2,rfl,rfl⟩ fun c o e=>Yc _ (Yc _ (Yc _ (Yc _ (Yc _ e))))⟩
end
def yK (K:Frag) (a b:Addr):It:=
  ⟨fun i H=>∃ xs ys x y,aG K H a xs/\ar K H b ys/\xs[i]?=some x/\ys[i]?=some y,fun i H v H'=>∃ t x y,H t=none/\v=.ref t/\(∀ xs,aG K H a xs->xs[i]?=some x)/\(∀ ys,ar K H b ys->ys[i]?=some y)/\H'=upd H t (.tup [x,y]),
   fun i H=>∃ xs ys,aG K H a xs/\ar K H b ys/\(xs.length<=i∨ys.length<=i)⟩
theorem ZvC {P:Program} {w:World} {K:Frag} {elts:List Expr} {kk:Nat} {pos:Pos} (z ti tu i1 i2 a b:Addr) (D:ZipApart z ti tu i1 i2 a b) :
  Turn P w K (.Tuple elts kk pos) (yK K a b) [z,ti,tu,i1,i2] z (fun i h=>IsZip h z ti tu .none/\Yaj h ti (.ref i1) (.ref i2)/\(∃ x y,Yaj h tu x y)/\h.IsTupleIter i1 a i/\h.IsListIter i2 b i) where
 mem:=by simp
 obj:=fun i h st c hc=>by
  obtain ⟨h1,h2,⟨x,y,h3⟩,⟨o4,e4,_,d4⟩,⟨o5,e5,_,d5⟩⟩:=st
  simp only [W3,X3,or_false] at hc
  rcases hc with rfl | rfl | rfl | rfl | rfl
  ·exact ⟨_,h1,fun v q=>by cases q⟩
  ·exact ⟨_,h2,fun v q=>by cases q⟩
  ·exact ⟨_,h3,fun v q=>by cases q⟩
  ·exact ⟨_,e4,fun v q=>by rw [d4] at q;cases q⟩
  ·exact ⟨_,e5,fun v q=>by rw [d5] at q;cases q⟩
 keep:=fun i h h' st k=>by
  obtain ⟨h1,h2,⟨x,y,h3⟩,h4,h5⟩:=st;exact ⟨k z (by simp) _ h1,k ti (by simp) _ h2,⟨x,y,k tu (by simp) _ h3⟩,h4.at fun o e=>k i1 (by simp) o e,h5.at fun o e=>k i2 (by simp) o e⟩
 item:=by
  intro X hP hw hK hc i pins s σ H E I hf st hg;subst hP hw hK;obtain ⟨xs,ys,x,y,uI,nW,hx,hy⟩:=hg;obtain ⟨us,Ad,p1,_⟩:=I.tuple uI;obtain ⟨vs,Ac,p2,_⟩:=I.list nW;obtain ⟨u,hu,ru⟩:=Ad.get hx;obtain ⟨v,hv,rv⟩:=Ac.get hy;obtain ⟨h1,h2,⟨a0,b0,h3⟩,h4,h5⟩:=st;have hT:s.TypeIs (.ref z) "zip":=⟨_,h1,rfl⟩
  unfold W8
  refine Ya (XH (YJ (name:=Y9 "__next__") hT Yby (YK Yby hT F.entry_zip_next
   (Zxl D h1 h2 h3 h4 h5 (show s.heap.IsTuple a us.toArray from p1) p2.isList (x:=u) (y:=v) (by simpa using hu) (by simpa using hv) fun m z1 q1 g1 g2 T1 Al=>Yd ?_) (F.args_zip_next_1 _))))
  refine ⟨_,rfl,wpAny_letOwnedTupleGo_zip (s:={s with heap:=m}) z1 fun m' z2 sb=>?_⟩;have lz:z < s.heap.objs.size:=Yj h1;have lti:ti < s.heap.objs.size:=Yj h2;have ltu:tu < s.heap.objs.size:=Yj h3;have l1:i1 < s.heap.objs.size:=by obtain ⟨_,e,_⟩:=h4;exact Yj e
  have l2:i2 < s.heap.objs.size:=by obtain ⟨_,e,_⟩:=h5;exact Yj e
  have kp:∀ c o,c ∉ [z,ti,tu,i1,i2]->s.heap.get? c=some o->m'.get? c=some o:=fun c o hn e=>by
   simp only [W3,X3,or_false,not_or] at hn
   exact sb.extBut _ _ hn.1 (Al c o hn.1 hn.2.2.1 hn.2.2.2.1 hn.2.2.2.2 e)
  have T2:m'.IsTuple s.heap.objs.size #[u,v]:=⟨_,sb.extBut _ _ (WB lz) T1,rfl,_,rfl⟩
  refine ⟨.ref s.heap.objs.size,_,I.ir (t':=s.toks) (wr:=[z,ti,tu,i1,i2]) hf kp (Ye _) (A8 (xs:=[x,y]) T2 (.cons ru (.cons rv .nil)) (by show 2<=Ym;decide)),rfl,
   ⟨_,x,y,I.aj.fresh (Ye _),rfl,fun nM uG=>by rw [I.eE uG uI];exact hx,fun nM uG=>by rw [I.je uG nW];exact hy,rfl⟩,?_,fun c hc=>?_⟩
  ·refine ⟨z2,sb.extBut _ _ D.TIz (Al _ _ D.TIz D.TITO D.TIi1 D.TIi2 h2),⟨u,v,sb.extBut _ _ D.TOz q1⟩,g1.extBut sb.extBut D.i1z,g2.extBut sb.extBut D.i2z⟩
  ·have:c≠s.heap.objs.size:=by
    simp only [W3,X3,or_false] at hc
    rcases hc with rfl | rfl | rfl | rfl | rfl
    ·exact Yu lz
    ·exact Yu lti
    ·exact Yu ltu
    ·exact Yu l1
    ·exact Yu l2
   show upd H _ _ c=none;rw [Zf this];exact (hf c hc).1
 done:=by
  intro X hP hw hK hc i pins s σ H E I hf st hg;subst hP hw hK;obtain ⟨xs,ys,uI,nW,hl⟩:=hg;obtain ⟨us,Ad,p1,_⟩:=I.tuple uI;obtain ⟨vs,Ac,p2,_⟩:=I.list nW;have e1:=Ad.length;have e2:=Ac.length;obtain ⟨h1,h2,⟨a0,b0,h3⟩,h4,h5⟩:=st;have hT:s.TypeIs (.ref z) "zip":=⟨_,h1,rfl⟩
  unfold W8
  refine Ya (XH (YJ (name:=Y9 "__next__") hT Yby (YK Yby hT F.entry_zip_next
   (Zyt (I.ok.hd hc) D h1 h2 h3 h4 h5 (show s.heap.IsTuple a us.toArray from p1) p2.isList (by simp;omega) fun m e Al hE=>?_) (F.args_zip_next_1 _))))
  obtain ⟨o,ho,cE⟩:=hE;refine Ya (Yak (T:="StopIteration") (b:=true) ⟨o,ho,cE⟩ YaG (Yd ⟨rfl,I.iu (t':=s.toks) (wr:=[z,ti,tu,i1,i2]) hf fun c o hn q=>?_⟩))
  simp only [W3,X3,or_false,not_or] at hn
  exact Al c o hn.1 hn.2.2.1 hn.2.2.2.1 hn.2.2.2.2 q
 self:=fun _ _ _ _ _ st h=>wpAny_pyIter_zip st.1 h
def Kp (K:Frag) (ta:TA):TI:=fun σ H R=>ta σ H fun vs H1=>∃ a b,vs=[.ref a,.ref b]/\(∃ xs,aG K H1 a xs)/\(∃ ys,ar K H1 b ys)/\R (yK K a b) H1
theorem Zy7 {X:Cx} {elts:List Expr} {kk:Nat} {tp:Pos} {a b:Expr} {ta:TA} {p pos:Pos} (hg:Gl X "zip") (hm:X.mg "zip"=none) (ha:PA X [a,b] ta) (hs:Yx [a,b] X.env=[(false,eval a X.env),(false,eval b X.env)]:=by rfl) (pP:Yx [b] X.env=[(false,eval b X.env)]:=by rfl):PI X (.Tuple elts kk tp) (.Call (.Name "zip" p) [a,b] [] pos) (Kp X.K ta):=by
 try unfold PA at *
 intro pins s σ H R I h;refine Call_ (sG I hg hm PyProof.Rows.Boot.«zip» (XY (aH (ha pos pins s σ H _ I h) fun us s1 ⟨vs,H1,I1,r1,q1⟩=>?_) (by rw [hs,pP]) (by rw [pP];rfl)));obtain ⟨a,b,e,⟨xs,uI⟩,⟨ys,nW⟩,q⟩:=q1;subst e
 cases r1 with
 | cons r rr=>
  cases rr with
  | cons r' rr=>
   cases rr
   cases (show _=Value.ref a from r)
   cases (show _=Value.ref b from r')
   obtain ⟨us,Ad,p1,_⟩:=I1.tuple uI;obtain ⟨vs,Ac,p2,_⟩:=I1.list nW;have la:a < s1.heap.objs.size:=by obtain ⟨o,e,_⟩:=p1;exact Yj e
   have lb:b < s1.heap.objs.size:=by obtain ⟨o,e,_⟩:=p2.isList;exact Yj e
   refine Zts (show s1.heap.IsTuple a us.toArray from p1) p2.isList fun m h1 h2 h3 h4 h5 kp=>?_;refine wpAny_pyIter_zip h1 ?_;refine ⟨_,[s1.heap.objs.size + 4,s1.heap.objs.size + 2,s1.heap.objs.size + 3,s1.heap.objs.size,s1.heap.objs.size + 1],_,_,H1,rfl,I1.kept (t':=s1.toks) kp,ZvC _ _ _ _ _ a b (zipApart_new la lb),⟨h1,h2,⟨_,_,h3⟩,h4,h5⟩,fun c hc=>?_,q⟩
   have pT:s1.heap.objs.size<=c:=by
    simp only [W3,X3,or_false] at hc
    rcases hc with rfl | rfl | rfl | rfl | rfl
    ·exact WS _ _
    ·exact WS _ _
    ·exact WS _ _
    ·exact Ye _
    ·exact WS _ _
   exact I1.ij pT (I1.aj.fresh pT)
end L2
namespace L2
open PySem PySem.Spec PyProof.Rows PySem.W
section
variable {prog:Program} {w:World} {A:Around} {E:Value->Shared->Prop} {s:Shared}
theorem Zzs {v d:Addr} {ob:Obj} {es:Array XG} {ep:Nat} {Q:Value->Shared->Prop} (hv:s.heap.IsItemsView v d) (e:s.heap.get? d=some ob) (dd:ob.data=.dict es ep)
  (q:Q (.ref s.heap.objs.size) {s with heap:=s.heap.push {cls:=.type "dict_itemiterator",data:=.fields #[.none,.bool false,.ref d,.int 0 0,.int es.size 0,.int ep 0,.none,.none]}}):wpAny (model prog w) A (pyIter (.ref v)) Q E s:=by
 have tv:=hv.typeIs;obtain ⟨oV,e1,c1,d1⟩:=hv;refine wpAny_pyIter_slot tv F.slot_dict_items_iter (YK F.slot_dict_items_iter tv F.entry_dict_items_iter ?_ (F.args_dict_items_iter_1 _));unfold Builtin.«dict_items.__iter__» Builtin.Dict_items.dictOf Builtin.Dict_items.newIterator;refine Ya (Yd (Ya (Ya (Y3 e1 d1 (x:=.ref d) rfl (Yd ?_)))));refine Ya (Ya (Xt e dd (Ya (XR e dd ?_))));rw [show YZ "dict_itemiterator"=true from by decide]
 simp only [if_true]
 refine YF (Yd ⟨_,rfl,"dict_itemiterator",_,⟨_,Yi _ rfl,rfl⟩,F.slot_dict_itemiterator_next.lookup,?_⟩) (by simp only [sizeOk,YbQ,Yn,Yf,Yz,Ybw,WR];omega)
 simpa [X7,YbQ] using q
theorem Zx8 {it d:Addr} {ob:Obj} {es:Array XG} {ep i:Nat} {x:XG} {k0 v0:Value} {Q:Option Value->Shared->Prop} (st:Yan s.heap it d i es.size ep k0 v0) (e:s.heap.get? d=some ob) (dd:ob.data=.dict es ep) (hx:es[i]?=some x)
  (q:∀ m,IsItemIterOut m it d (i + 1) es.size ep x.key x.val s.heap.objs.size->m.get? s.heap.objs.size=some {cls:=.type "tuple",data:=.seq #[x.key,x.val]}->(∀ b o,b≠it->s.heap.get? b=some o->m.get? b=some o)->Q (some (.ref s.heap.objs.size)) {s with heap:=m}) :
  wpAny (model prog w) A (W8 (.ref it)) Q E s:=by
 obtain ⟨hp,g,dr,tk,os⟩:=s;have ty:Shared.TypeIs ⟨hp,g,dr,tk,os⟩ (.ref it) "dict_itemiterator":=⟨_,st,rfl⟩
 have hi:i < es.size:=(Array.getElem?_eq_some_iff.mp hx).1;have wY:es[i]=x:=by rw [YI hi] at hx;exact YB hx
 unfold W8;refine Ya (XH (YJ (name:=Y9 "__next__") ty Wu (YK Wu ty F.entry_dict_itemiterator_next ?_ (F.args_dict_itemiterator_next_1 _))));refine Ya (Yd (Ya (Ya (Ya (Wk ty (Yd (Ya (Yad st rfl ?_))))))));rw [show YZ "dict_itemiterator"=true from by decide]
 simp only [if_true]
 change wpAny _ _ (if (Value.ref d == Value.none)=true then _ else _) _ _ _;rw [if_neg (show ¬ ((Value.ref d == Value.none)=true) by exact Yp)];refine Ya (Yd (Ya (Xt e dd ?_)));rw [if_neg (show ¬ ((((es.size:Nat):Int) != ((es.size:Nat):Int))=true) by simp)];refine Ya (Yd (Ya (XR e dd ?_)));rw [if_neg (show ¬ ((((ep:Nat):Int) != ((ep:Nat):Int))=true) by simp)];refine Yd ?_
 simp only [show ¬ ((i:Int) < 0) by omega,if_false,Xc,YI hi]
 refine Ya (Ya (Wk ty (Yd (Ya (Ybh ty ?_)))));change wpAny _ _ (setField (Value.ref it) 3 (X7 ((i:Int) + 1)) >>= _) _ _ _;refine Ya (Y8 st (by simp) fun m1 s1 b1=>?_)
 replace b1:Xx it hp m1:=b1
 replace s1:Yan m1 it d (i + 1) es.size ep k0 v0:=by
  have z:((i + 1:Nat):Int)=(i:Int) + 1:=by omega
  unfold Yan;rw [z]
  simpa [X7] using s1
 have ty1:Shared.TypeIs ⟨m1,g,dr,tk,os⟩ (.ref it) "dict_itemiterator":=⟨_,s1,rfl⟩
 refine Ya (Y6 (Ya (Ybh ty1 (Ya (Ybh ty1 ?_)))));change wpAny _ _ (Builtin.Dict_items.pairFromOwner (Value.ref it) 6 es[i].key es[i].val) _ _ _;rw [wY];unfold Builtin.Dict_items.pairFromOwner;refine Ya (wpAny_newTuple ?_);have s2:Yan (m1.push {cls:=.type "tuple",data:=.seq #[x.key,x.val]}) it d (i + 1) es.size ep k0 v0:=Yc _ s1;have sz:m1.objs.size=hp.objs.size:=b1.1;have t2:(m1.push {cls:=.type "tuple",data:=.seq #[x.key,x.val]}).get? hp.objs.size=some {cls:=.type "tuple",data:=.seq #[x.key,x.val]}:=by rw [<- sz];exact Yi _ rfl
 have k2:∀ b o,b≠it->hp.get? b=some o->(m1.push {cls:=.type "tuple",data:=.seq #[x.key,x.val]}).get? b=some o:=fun b o hb q=>Yc _ (b1.extBut b o hb q);have lt:it < hp.objs.size:=Yj st;generalize m1.push {cls:=.type "tuple",data:=.seq #[x.key,x.val]}=m2 at s2 t2 k2;change wpAny _ _ (YbP (Value.ref it) >>= _) _ _ ⟨m2,g,dr,tk,os⟩;rw [sz];refine Ya ?_;unfold YbP;refine Ya (Y3 s2 rfl (x:=.none) rfl (Yd ?_))
 simp only [if_true]
 refine Ya (Y3 s2 rfl (x:=k0) rfl (Ya (Y3 s2 rfl (x:=v0) rfl ?_)));refine Ya (Y8 s2 (by simp) fun m3 s3 b3=>?_)
 replace b3:Xx it m2 m3:=b3
 replace s3:Yan m3 it d (i + 1) es.size ep x.key v0:=s3
 refine Ya (Y8 s3 (by simp) fun m4 s4 b4=>?_)
 replace b4:Xx it m3 m4:=b4
 replace s4:Yan m4 it d (i + 1) es.size ep x.key x.val:=s4
 refine Ya (Y8 s4 (by simp) fun m5 s5 b5=>?_)
 replace b5:Xx it m4 m5:=b5
 replace s5:IsItemIterOut m5 it d (i + 1) es.size ep x.key x.val hp.objs.size:=s5
 refine Ya (Y8 s5 (by simp) fun m6 s6 b6=>?_)
 replace b6:Xx it m5 m6:=b6
 replace s6:IsItemIterOut m6 it d (i + 1) es.size ep x.key x.val hp.objs.size:=s6
 have up:∀ b o,b≠it->m2.get? b=some o->m6.get? b=some o:=fun b o hb e=>b6.extBut b o hb (b5.extBut b o hb (b4.extBut b o hb (b3.extBut b o hb e)));exact Ya (wpAny_letGo (Yd (Yd ⟨_,rfl,Yd (q m6 s6 (up _ _ (WB lt) t2) fun b o hb e=>up b o hb (k2 b o hb e))⟩)))
theorem Zzt {it d:Addr} {ob:Obj} {es:Array XG} {ep i:Nat} {k0 v0:Value} {Q:Option Value->Shared->Prop} (hh:A.handled=none) (st:Yan s.heap it d i es.size ep k0 v0) (e:s.heap.get? d=some ob) (dd:ob.data=.dict es ep) (hx:es.size<=i)
  (q:∀ m,Heap.ExtBut it s.heap m->Q none {s with heap:=m}):wpAny (model prog w) A (W8 (.ref it)) Q E s:=by
 have ty:s.TypeIs (.ref it) "dict_itemiterator":=⟨_,st,rfl⟩
 unfold W8;refine Ya (XH (YJ (name:=Y9 "__next__") ty Wu (YK Wu ty F.entry_dict_itemiterator_next ?_ (F.args_dict_itemiterator_next_1 _))));refine Ya (Yd (Ya (Ya (Ya (Wk ty (Yd (Ya (Yad st rfl ?_))))))));rw [show YZ "dict_itemiterator"=true from by decide]
 simp only [if_true]
 change wpAny _ _ (if (Value.ref d == Value.none)=true then _ else _) _ _ _;rw [if_neg (show ¬ ((Value.ref d == Value.none)=true) by exact Yp)];refine Ya (Yd (Ya (Xt e dd ?_)));rw [if_neg (show ¬ ((((es.size:Nat):Int) != ((es.size:Nat):Int))=true) by simp)];refine Ya (Yd (Ya (XR e dd ?_)));rw [if_neg (show ¬ ((((ep:Nat):Int) != ((ep:Nat):Int))=true) by simp)];refine Yd ?_
 simp only [show ¬ ((i:Int) < 0) by omega,if_false,Xc,Ybn hx]
 refine Ya (Ya (Wk ty (Yd ?_)));change wpAny _ _ (setField (Value.ref it) 2 .none >>= _) _ _ s;refine Ya (WQ st rfl (by simp) ?_);change wpAny _ _ (newExc (Value.type "StopIteration") [] >>= _) _ _ _;refine Ya ?_;simp only [newExc,newTuple];refine Ya (YF (Ya (m:=Ws _ _) (wpAny_of_eq (a:=Value.none) (by first | rfl | (simp only [Ws];rfl)) ?_)) (by size_fits));refine YF ?_ (by size_fits);simp only [raiseNew];refine Ya (wpAny_handled ?_);rw [show A.in1.handled=none from hh];refine Ya (Yd (wpAny_throw ?_));refine Ya (Yak (T:="StopIteration") (b:=true) ⟨_,Yi _ rfl,rfl⟩ YaG ?_);exact Yd (q _ (((XW ..).extBut.push _).push _))
end
theorem Zzj {P:Program} {w:World} {H:Hp}:∀ {kvs:List (List Key×V)} {xs:List (List Key×Addr×Value)},KT H kvs xs->∀ (i:Nat) k v,kvs[i]?=some (k,v)->∃ b u,(xs.map (entryOfKey (WY (Z4 P w))))[i]?=some (entryOfKey (WY (Z4 P w)) (k,b,u))/\H b=some (.tup (k.map kV))/\RelV v u
 | _,_,.nil,i,k,v,h=>by simp at h
 | _,_,.cons (a:=p) (b:=q) h t,0,k,v,e=>by
  simp at e
  obtain ⟨h1,h2,h3⟩:=h;refine ⟨q.2.1,q.2.2,?_,?_,?_⟩
  ·have:q=(k,q.2.1,q.2.2):=by rw [show k=q.1 by rw [<- h1,e]]
   rw [Yt];show some _=_;rw [<- this]
  ·rw [e] at h2;exact h2
  ·rw [e] at h3;exact h3
 | _,_,.cons h t,i + 1,k,v,e=>by
  obtain ⟨b,u,h1,h2,h3⟩:=Zzj (P:=P) (w:=w) t i k v (by simpa using e);exact ⟨b,u,by simpa using h1,h2,h3⟩
theorem AY {P:Program} {w:World} {H:Hp} {h:Heap} {a:Addr} {kvs:List (List Key×V)} {ob:Obj} (x:bT P w H h a (.dT kvs)) (e:h.get? a=some ob) :
  kvs.length<=Ym/\(a == Xy)=false/\ob.ExactDict/\∃ es ep,ob.data=.dict es ep/\es.size=kvs.length/\∀ (i:Nat) k v,kvs[i]?=some (k,v)->∃ y b,es[i]?=some y/\y.key=.ref b/\H b=some (.tup (k.map kV))/\RelV v y.val:=by
 obtain ⟨z,y,xs,r,o,es,ep,e1,ex,dd,el,_⟩:=x;rw [e] at e1
 cases e1
 refine ⟨z,y,ex,es,ep,dd,?_,fun i k v hi=>?_⟩
 ·have:es.toList.length=es.size:=YH
  rw [<- this,el,Yb,<- Xr r]
 ·obtain ⟨b,u,h1,h2,h3⟩:=Zzj (P:=P) (w:=w) r i k v hi;refine ⟨entryOfKey (WY (Z4 P w)) (k,b,u),b,?_,rfl,h2,h3⟩;rw [<- XB,el];exact h1
def yN (d:Addr) (ob:Obj) (kvs:List (List Key×V)):It:=
 ⟨fun i H=>H d=some (.bt ob (.dT kvs))/\i < kvs.length,fun i H x H'=>∃ t b k v,H t=none/\x=.ref t/\kvs[i]?=some (k,v)/\H b=some (.tup (k.map kV))/\H'=upd H t (.tup [.ref b,v]),fun i H=>H d=some (.bt ob (.dT kvs))/\kvs.length<=i⟩
theorem ZsD {P:Program} {w:World} {K:Frag} {elts:List Expr} {kk:Nat} {pos:Pos} (d it:Addr) (ob:Obj) (kvs:List (List Key×V)) (es:Array XG) (ep:Nat) (dd:ob.data=.dict es ep) :
  Turn P w K (.Tuple elts kk pos) (yN d ob kvs) [it] it (fun i h=>∃ k0 v0,Yan h it d i es.size ep k0 v0) where
 mem:=by simp
 obj:=fun i h st b hb=>by
  have e:b=it:=by simpa using hb
  subst e;obtain ⟨k0,v0,st⟩:=st;exact ⟨_,st,fun v z=>by cases z⟩
 keep:=fun i h h' st k=>by
  obtain ⟨k0,v0,st⟩:=st;exact ⟨k0,v0,k it (by simp) _ st⟩
 item:=by
  intro X hP hw hK hc i pins s σ H E I hf st hg;subst hP hw hK;obtain ⟨hH,hi⟩:=hg;obtain ⟨e,ok⟩:=I.aj d _ hH;obtain ⟨_,_,_,es',r_,fi,hl,bO⟩:=AY ok e;rw [dd] at fi
  cases fi
  obtain ⟨⟨k,v⟩,og⟩:∃ p,kvs[i]?=some p:=⟨_,Yh hi⟩
  obtain ⟨y,b,hy,jM,hb,rv⟩:=bO i k v og;obtain ⟨k0,v0,st⟩:=st;have lt:it < s.heap.objs.size:=Yj st;refine Zx8 st e dd hy fun m o1 t1 kp=>?_;refine ⟨_,rfl,wpAny_letOwnedTupleGo_items (s:={s with heap:=m}) o1 fun m' ff sb=>?_⟩;have T2:m'.IsTuple s.heap.objs.size #[y.key,y.val]:=⟨_,sb.extBut _ _ (WB lt) t1,rfl,_,rfl⟩
  refine ⟨.ref s.heap.objs.size,_,I.ir (t':=s.toks) (wr:=[it]) hf (fun c o hn q=>?_) (Ye _) (A8 (xs:=[.ref b,v]) T2 (.cons jM (.cons rv .nil)) (by show 2<=Ym;decide)),rfl,⟨_,b,k,v,I.aj.fresh (Ye _),rfl,og,hb,rfl⟩,⟨_,_,ff⟩,fun c hc=>?_⟩
  ·have uM:c≠it:=by simpa using hn
   exact sb.extBut _ _ uM (kp c o uM q)
  ·have z:c=it:=by simpa using hc
   show upd H _ _ c=none;rw [Zf (by rw [z];exact Yu lt)];exact (hf c hc).1
 done:=by
  intro X hP hw hK hc i pins s σ H E I hf st hg;subst hP hw hK;obtain ⟨hH,hi⟩:=hg;obtain ⟨e,ok⟩:=I.aj d _ hH;obtain ⟨_,_,_,es',r_,fi,hl,bO⟩:=AY ok e;rw [dd] at fi
  cases fi
  obtain ⟨k0,v0,st⟩:=st;exact Zzt (I.ok.hd hc) st e dd (by omega) fun m eb=>⟨rfl,I.iu (t':=s.toks) (wr:=[it]) hf fun c o hn q=>eb c o (by simpa using hn) q⟩
 self:=fun _ _ _ _ _ st h=>by
  obtain ⟨k0,v0,st⟩:=st;exact kcp_self st h
def Zzu (tl:TE):TI:=fun σ H R=>tl σ H fun x H1=>∃ r d kvs,x=.ref r/\H1 r=some (vf r d)/\H1 d=some (.dT kvs)/\∀ ob,R (yN d ob kvs) (upd H1 d (.bt ob (.dT kvs)))
theorem Zv4 {X:Cx} {elts:List Expr} {kk:Nat} {tp:Pos} {l:Expr} {tl:TE} (hl:PE X l tl):PI X (.Tuple elts kk tp) l (Zzu tl):=by
 try unfold PE at *
 intro pins s σ H R I h;refine aH (hl pins s σ H _ I h) fun v s1 ⟨x,H1,I1,r1,r,d,kvs,ex,hr,hd,q⟩=>?_;subst ex
 cases (show v=Value.ref r from r1)
 have hv:s1.heap.IsItemsView r d:=(I1.aj r _ hr).1;obtain ⟨ob,e,I2⟩:=I1.freeze hd rfl;obtain ⟨_,_,_,es,ep,dd,_⟩:=AY (I1.aj d _ hd) e;refine Zzs hv e dd ?_;refine ⟨s1.heap.objs.size,[s1.heap.objs.size],_,_,_,rfl,I2.kept (t':=s1.toks) fun b o e=>Yc _ e,ZsD d _ ob kvs es ep dd,⟨_,_,Yi _ rfl⟩,fun b hb=>?_,q ob⟩;have e:b=s1.heap.objs.size:=by simpa using hb
 subst e;exact I2.ij (Ye _) (I2.aj.fresh (Ye _))
section
variable {prog:Program} {w:World} {A:Around} {E:Value->Shared->Prop} {s:Shared}
theorem Zzk {d:Addr} {ob:Obj} {es:Array XG} {ep:Nat} {Q:Value->Shared->Prop} (hs:(d == Xy)=false) (e:s.heap.get? d=some ob) (ex:ob.ExactDict) (dd:ob.data=.dict es ep)
  (q:Q (.ref s.heap.objs.size) {s with heap:=s.heap.push {cls:=.type "dict_keyiterator",data:=.fields #[.ref d,.int 0 0,.int es.size 0,.int ep 0]}}):wpAny (model prog w) A (pyIter (.ref d)) Q E s:=by
 have ty:s.TypeIs (.ref d) "dict":=⟨ob,e,ex.1⟩
 refine wpAny_pyIter_slot ty F.slot_dict_iter (YK F.slot_dict_iter ty F.entry_dict_iter ?_ (F.args_dict_iter_1 _));unfold Builtin.«dict.__iter__»;refine Ya ?_;unfold Builtin.Dict.dictSlotNone;refine Ya (Ybz ty ?_);change wpAny _ _ (pure (Value.ref d)) _ _ s;refine Yd ?_;change wpAny _ _ (X6 d >>= _) _ _ s;unfold X6;rw [if_neg (by rw [hs];exact Yp)];refine Ya (Yd (Ya (Xt e dd (Ya (XR e dd ?_)))));exact Ya (YF (Yd ⟨_,rfl,"dict_keyiterator",_,⟨_,Yi _ rfl,rfl⟩,F.slot_dict_keyiterator_next.lookup,by simpa [X7] using q⟩))
theorem Zx5 {it d:Addr} {ob:Obj} {es:Array XG} {ep i:Nat} {x:XG} {Q:Option Value->Shared->Prop} (st:s.heap.IsKeyIter it d i es.size ep) (e:s.heap.get? d=some ob) (dd:ob.data=.dict es ep) (hx:es[i]?=some x)
  (q:∀ m,m.IsKeyIter it d (i + 1) es.size ep->Xx it s.heap m->Q (some x.key) {s with heap:=m}):wpAny (model prog w) A (W8 (.ref it)) Q E s:=by
 have ty:=st.typeIs;obtain ⟨oI,e1,c1,d1⟩:=st;have hi:i < es.size:=(Array.getElem?_eq_some_iff.mp hx).1;have wY:es[i]=x:=by rw [YI hi] at hx;exact YB hx
 have up:(s.heap.update it (Ya4 (·.setIfInBounds 1 (X7 ((i:Int) + 1))))).IsKeyIter it d (i + 1) es.size ep:=
  ⟨_,Yai _ e1 (YbB (Wx d1 _)),(Obj.cls_mapFields ..).trans c1,by rw [Wx d1];simp [X7]⟩
 unfold W8;refine Ya (XH (YJ (name:=Y9 "__next__") ty WC (YK WC ty F.entry_dict_keyiterator_next ?_ (F.args_dict_keyiterator_next_1 _))));refine Ya (Yd (Ya (Ya (Ya (Wt ty (Yd (Ya (Yad e1 d1 ?_))))))));rw [show YZ "dict_keyiterator"=false from by decide]
 simp only [YQ,if_false]
 change wpAny _ _ (if (Value.ref d == Value.none)=true then _ else _) _ _ s;rw [if_neg (show ¬ ((Value.ref d == Value.none)=true) by exact Yp)];refine Ya (Yd (Ya (Xt e dd ?_)));rw [if_neg (show ¬ ((((es.size:Nat):Int) != ((es.size:Nat):Int))=true) by simp)];refine Ya (Yd (Ya (XR e dd ?_)));rw [if_neg (show ¬ ((((ep:Nat):Int) != ((ep:Nat):Int))=true) by simp)];refine Yd ?_
 simp only [show ¬ ((i:Int) < 0) by omega,if_false,Xc,YI hi]
 refine Ya (Ya (Wt ty (Yd (Ya (wpAny_isOneOf_keyiter ty ?_)))));change wpAny _ _ (setField (Value.ref it) 1 (X7 ((i:Int) + 1)) >>= _) _ _ s;refine Ya (WQ e1 d1 (by simp) (Ya (Y6 ?_)));refine Ya (wpAny_isOneOf_keyiter (s:={s with heap:=s.heap.update it (Ya4 (·.setIfInBounds 1 (X7 ((i:Int) + 1))))}) up.typeIs ?_);change wpAny _ _ (pure es[i].key) _ _ _;rw [wY];exact Yd (Yd ⟨_,rfl,Yd (q _ up (XW ..))⟩)
theorem Zzl {it d:Addr} {ob:Obj} {es:Array XG} {ep i:Nat} {Q:Option Value->Shared->Prop} (hh:A.handled=none) (st:s.heap.IsKeyIter it d i es.size ep) (e:s.heap.get? d=some ob) (dd:ob.data=.dict es ep) (hx:es.size<=i)
  (q:∀ m,Heap.ExtBut it s.heap m->Q none {s with heap:=m}):wpAny (model prog w) A (W8 (.ref it)) Q E s:=by
 have ty:=st.typeIs;obtain ⟨oI,e1,c1,d1⟩:=st;unfold W8;refine Ya (XH (YJ (name:=Y9 "__next__") ty WC (YK WC ty F.entry_dict_keyiterator_next ?_ (F.args_dict_keyiterator_next_1 _))));refine Ya (Yd (Ya (Ya (Ya (Wt ty (Yd (Ya (Yad e1 d1 ?_))))))));rw [show YZ "dict_keyiterator"=false from by decide]
 simp only [YQ,if_false]
 change wpAny _ _ (if (Value.ref d == Value.none)=true then _ else _) _ _ s;rw [if_neg (show ¬ ((Value.ref d == Value.none)=true) by exact Yp)];refine Ya (Yd (Ya (Xt e dd ?_)));rw [if_neg (show ¬ ((((es.size:Nat):Int) != ((es.size:Nat):Int))=true) by simp)];refine Ya (Yd (Ya (XR e dd ?_)));rw [if_neg (show ¬ ((((ep:Nat):Int) != ((ep:Nat):Int))=true) by simp)];refine Yd ?_
 simp only [show ¬ ((i:Int) < 0) by omega,if_false,Xc,Ybn hx]
 refine Ya (Ya (Wt ty (Yd ?_)));change wpAny _ _ (setField (Value.ref it) 0 .none >>= _) _ _ s;refine Ya (WQ e1 d1 (by simp) ?_);change wpAny _ _ (newExc (Value.type "StopIteration") [] >>= _) _ _ _;refine Ya ?_;simp only [newExc,newTuple];refine Ya (YF (Ya (m:=Ws _ _) (wpAny_of_eq (a:=Value.none) (by first | rfl | (simp only [Ws];rfl)) ?_)) (by size_fits));refine YF ?_ (by size_fits);simp only [raiseNew];refine Ya (wpAny_handled ?_);rw [show A.in1.handled=none from hh];refine Ya (Yd (wpAny_throw ?_));refine Ya (Yak (T:="StopIteration") (b:=true) ⟨_,Yi _ rfl,rfl⟩ YaG ?_);exact Yd (q _ (((XW ..).extBut.push _).push _))
theorem Zx6 (d:Addr) (ob:Obj) (es:Array XG) (ep:Nat) (hs:(d == Xy)=false) (ex:ob.ExactDict) (dd:ob.data=.dict es ep) :
  KdlSrc prog w "dict" d d es.size (fun i v=>∃ x,es[i]?=some x/\v=x.key) (fun h=>h.get? d=some ob) where
 type:=fun _ e=>⟨ob,e,ex.1⟩
 there:=fun _ e=>⟨Yj e,Yj e⟩
 keep:=fun _ _ e hk=>hk d (.inl rfl) ob e
 notList:=by decide
 notTuple:=by decide
 hint:=fun _ _ _ _ e hq=>kdl_hint_dict ⟨ob,e,ex.1⟩ hq
 iter:=fun A s hh e=>⟨_,fun i h=>h.IsKeyIter s.heap.objs.size d i es.size ep/\h.get? d=some ob,(fun _ _ hq=>Zzk hs e ex dd hq),
  {sub:=fun b hb=>by simp at hb;simp [hb]
   frame:=fun _ _ _ st hk=>⟨st.1.at fun o e=>hk _ (by simp) o e,hk d (by simp) _ st.2⟩
   item:=fun i s' Q E hi st hQ=>by
    have bY:d≠s.heap.objs.size:=Yu (Yj e);refine Zx5 st.1 st.2 dd (x:=es[i]) (by simp [hi]) fun m ff sb=>?_;exact hQ _ m s'.toks ⟨es[i],by simp [hi],rfl⟩ ⟨ff,sb.extBut _ _ bY st.2⟩ fun b o hb q=>sb.extBut b o (fun h=>hb (by simp [h])) q
   done:=fun s' Q E st hQ=>Zzl hh st.1 st.2 dd (Ye _) fun m eb=>hQ m s'.toks fun b o hb q=>eb b o (fun h=>hb (by simp [h])) q
   self:=fun _ _ _ _ st hQ=>wpAny_pyIter_keyiter st.1 hQ},
  ⟨⟨_,Yi _ rfl,rfl,rfl⟩,Yc _ e⟩⟩
end
def ZzR (H:Hp) (bs:List Addr) (ks:List (List Key)):Prop:=bs.length=ks.length/\∀ (i:Nat) b k,bs[i]?=some b->ks[i]?=some k->H b=some (.tup (k.map kV))
theorem Zru {X:Cx} (hc:X.calm=true:=by rfl):eN X (.type "list") (fun xs H Q=>∃ p kvs,xs=[.ref p]/\Rd H p (.dT kvs)/\∀ l bs,H l=none->ZzR H bs (kvs.map (·.1))->Q (.ref l) (upd H l (.lst (bs.map V.ref)))):=by
 intro pins s σ H xs us Q I r h;obtain ⟨p,kvs,rfl,hp,q⟩:=h;obtain ⟨u,rfl,ru⟩:=r.one
 cases (show u=Value.ref p from ru)
 have ok:bT X.prog X.w H s.heap p (.dT kvs):=Eg I.aj hp;obtain ⟨ob,e⟩:=ok.there;obtain ⟨hz,hs,ex,es,ep,dd,hl,bO⟩:=AY ok e;refine kdl_call (Zx6 (prog:=X.prog) (w:=X.w) p ob es ep hs ex dd) (I.ok.hd hc) e (by rw [hl];exact hz) fun h' tk acc c hk he hi=>?_
 -- gs addresses of gs keys
 have key:∀ n,n<=kvs.length->∃ bs:List Addr,bs.length=n/\∀ (i:Nat) b,bs[i]?=some b->∃ y k v,es[i]?=some y/\y.key=.ref b/\kvs[i]?=some (k,v)/\H b=some (.tup (k.map kV)):=by
  intro n
  induction n with
  | zero=>intro _;exact ⟨[],rfl,fun i b h=>by simp at h⟩
  | succ n ih=>
   intro hn;obtain ⟨bs,h1,h2⟩:=ih (by omega);obtain ⟨⟨k,v⟩,og⟩:∃ p,kvs[n]?=some p:=⟨_,Yh (by omega)⟩
   obtain ⟨y,b,hy,jM,hb,_⟩:=bO n k v og;refine ⟨bs++[b],by rw [Yf,h1];rfl,fun i c hc=>?_⟩
   by_cases hi:i < bs.length
   ·rw [YaO hi] at hc;exact h2 i c hc
   ·rw [WL (by omega)] at hc
    have:i - bs.length=0:=by
     cases hh:i - bs.length with
     | zero=>rfl
     | succ m=>rw [hh] at hc;simp at hc
    rw [this] at hc;have Dp:i=n:=by omega
    subst Dp
    simp at hc
    subst hc;exact ⟨y,k,v,hy,jM,og,hb⟩
 obtain ⟨bs,rQ,hbs⟩:=key kvs.length (Ye _);refine ⟨.ref _,_,I.jG hk (Ye _) he (vC (xs:=bs.map V.ref) ?_ fun j x w hx hw=>?_) (by rw [Yb,rQ];exact hz),rfl,q _ bs I.fresh ⟨by rw [rQ,Yb],fun i b k hb uO=>?_⟩⟩
 ·have e3:acc.toList.length=acc.size:=YH;rw [Yb,e3,hi.1,hl,rQ]
 ·obtain ⟨y,hy,rfl⟩:=hi.2 j w (by rw [<- XB];exact hw);rw [Yo] at hx
  cases hb:bs[j]? with
  | none=>rw [hb] at hx;cases hx
  | some b=>
   rw [hb] at hx
   cases hx
   obtain ⟨y',k,v,uG,jM,_,_⟩:=hbs j b hb;rw [hy] at uG
   cases uG
   exact jM
 ·obtain ⟨y,k',v,_,_,og,hH⟩:=hbs i b hb;rw [Yo,og] at uO
  cases uO
  exact hH
end L2
namespace L2
open PySem PySem.Spec PyProof.Rows PySem.W
def er (es:List (Str×Int)):List (Key×V):=es.map fun p=>(Xp p.1,V.int p.2)
def lF (h:Heap) (es:List (Str×Int)) (as:List Addr):Prop:=
 as.length=es.length/\∀ (j:Nat) (a:Addr) (p:Str×Int),as[j]?=some a->es[j]?=some p->∃ t u o n,h.get? a=some o/\o.cls=.type "tuple"/\o.data=.seq #[.str p.1 t,.int p.2 u] n
theorem lF.keep {h h':Heap} {es:List (Str×Int)} {as:List Addr} (e:lF h es as) (k:∀ a∈as,∀ o,h.get? a=some o->h'.get? a=some o):lF h' es as:=
 ⟨e.1,fun j a p ha hp=>by obtain ⟨t,u,o,n,q,r⟩:=e.2 j a p ha hp;exact ⟨t,u,o,n,k a (Yy ha) _ q,r⟩⟩
theorem lF.at {h:Heap} {es:List (Str×Int)} {as:List Addr} (e:lF h es as) {i:Nat} (hi:i < es.length):∃ a t u o n,as.getD i 0=a/\as[i]?=some a/\h.get? a=some o/\o.data=.seq #[.str (es.getD i (Str.empty,0)).1 t,.int (es.getD i (Str.empty,0)).2 u] n:=by
 have j0:i < as.length:=by rw [e.1];exact hi
 obtain ⟨t,u,o,n,q,_,q2⟩:=e.2 i as[i] es[i] (Yh j0) (Yh hi);refine ⟨as[i],t,u,o,n,?_,Yh j0,q,?_⟩
 ·rw [Ys,Yh j0];rfl
 ·rw [Ys,Yh hi];exact q2
section
variable {prog:Program} {w:World} {A:Around} {E:Value->Shared->Prop} {s:Shared}
theorem Zwx {es:List (Str×Int)} {as:List Addr} {i j:Nat} {C:Bool->Shared->Prop} (e:lF s.heap es as) (hi:i < es.length) (hj:j < es.length) (h:C (kL (es.getD i (Str.empty,0)) (es.getD j (Str.empty,0))) s) :
  kas_ask prog w A (tuples' true) (as.map Value.ref) i j C s:=by
 obtain ⟨a,t,u,o1,n1,h1,uX,h2,d2⟩:=e.at hi;obtain ⟨b,t',u',o2,n2,h3,uW,h4,d4⟩:=e.at hj;have g1:(as.map Value.ref).getD i Value.none=.ref a:=by rw [Ys,Yo,uX];rfl
 have g3:(as.map Value.ref).getD j Value.none=.ref b:=by rw [Ys,Yo,uW];rfl
 unfold kas_ask;rw [g1,g3];refine kat_lt h2 d2 h4 d4 ?_;generalize es.getD i (Str.empty,0)=p at h d2;generalize es.getD j (Str.empty,0)=q at h d4;refine kat_cons (wpAny_eqBool_str ?_)
 by_cases z:p.1=q.1
 ·rw [decide_eq_true z];refine kat_yes (kat_cons (wpAny_eqBool_int ?_))
  by_cases y:p.2=q.2
  ·rw [show (p.2 == q.2)=true by simp [y]];refine kat_yes (kat_nil ?_);unfold kL at h;rw [if_pos z,if_pos y] at h;exact h
  ·rw [show (p.2 == q.2)=false by simp [y]];refine kat_no (kat_one _ _ ?_);unfold kL at h;rw [if_pos z,if_neg y] at h;exact lt_int h
 ·rw [decide_eq_false z];refine kat_no ?_;unfold kL at h;rw [if_neg z] at h;exact oneLt_str h
end
theorem Zx4 {es:List (Str×Int)}:∀ {vs:List (Key×Value)},KV (er es) vs->∀ (j:Nat) k x,vs[j]?=some (k,x)->∃ p u,es[j]?=some p/\k=.inr p.1/\x=.int p.2 u:=by
 intro vs r j k x h
 induction es generalizing vs j with
 | nil=>cases r;simp at h
 | cons p es ih=>
  cases r with
  | cons a t=>
   cases j with
   | zero=>
    simp at h
    obtain ⟨a1,u,a2⟩:=a;rw [h] at a1 a2;exact ⟨p,u,rfl,a1.symm,a2⟩
   | succ j=>exact ih t j (by simpa using h)
theorem Fw:∀ as:List Addr,Vals (as.map V.ref) (as.map Value.ref)
 | []=>.nil
 | _::r=>.cons rfl (Fw r)
section
variable {X:Cx} {pins:List (Addr×Obj)} {σ:St} {H:Hp} {s:Shared}
def AL (as:List Addr) (es:List (Str×Int)) (H:Hp):Hp:=oA (as.zip (es.map fun p=>[V.str p.1,V.int p.2])) H
theorem Zwy {as:List Addr} {es:List (Str×Int)} {H:Hp} (nd:as.Nodup) (hl:as.length=es.length) {j:Nat} {a:Addr} {p:Str×Int} (ha:as[j]?=some a) (hp:es[j]?=some p):AL as es H a=some (.tup [.str p.1,.int p.2]):=by
 refine Zo7 _ H a _ ?_ ?_
 ·have:(as.zip (es.map fun p=>[V.str p.1,V.int p.2])).map (·.1)=as:=by
   rw [show (as.zip (es.map fun p=>[V.str p.1,V.int p.2])).map (·.1)=(as.zip (es.map fun p=>[V.str p.1,V.int p.2])).unzip.1 by rw [List.unzip_fst]];rw [List.unzip_zip_left (by rw [Yb,hl];exact Ye _)]
  rw [this];exact nd
 ·refine Yy (i:=j) ?_;rw [YaN];exact ⟨ha,by rw [Yo,hp];rfl⟩
theorem Zpn {prog:Program} {w:World} {A:Around} {E:Value->Shared->Prop} {P:PySem.Fin->Shared->Prop} {es:List (Str×Int)} {as:List Addr} {D:Addr} {n:Nat} (ent:lF s.heap es as) (nd:D ∉ as) (hD:s.heap.get? D=some (YT "list" (as.map Value.ref).toArray n)) (iN:es.length < 64)
  (fin:∀ (h3:Heap) (c:Nat) (outs:List Addr),(∀ b o,b≠D->s.heap.get? b=some o->h3.get? b=some o)->h3.get? D=some (YT "list" (outs.map Value.ref).toArray c)->
   outs.length=(bB es).length->outs.length<=es.length->(∀ (j:Nat) a p,outs[j]?=some a->(bB es)[j]?=some p->∃ i:Nat,as[i]?=some a/\es[i]?=some p)->P (.done (.ret .none)) {s with heap:=h3}) :
  wpAny (model prog w) A (Builtin.«list.sort» ⟨[.ref D],[]⟩) P E s:=by
 have c_:=ent.1;have hlen:(as.map Value.ref).length < 64:=by rw [Yb,c_];exact iN
 by_cases h2:(as.map Value.ref).length < 2
 ·refine ZrJ hD h2 fun h3 c kp he=>?_;refine fin h3 c as kp he ?_ (WW c_) fun j a p ha hp=>?_
  ·unfold bB;rw [if_pos (by rw [Yb,c_] at h2;exact h2)];exact c_
  ·unfold bB at hp;rw [if_pos (by rw [Yb,c_] at h2;exact h2)] at hp;exact ⟨j,ha,hp⟩
 ·have e2:¬ es.length < 2:=by rw [Yb,c_] at h2;exact h2
  have rY:2<=(as.map Value.ref).length:=by omega
  have hlm:(as.map Value.ref).length=es.length:=by rw [Yb,c_]
  refine Zpm (κ:=tuples' true) (lt:=fun i j=>kL (es.getD i (Str.empty,0)) (es.getD j (Str.empty,0))) hD rY hlen (fun h' Q' kp hq=>?_) (fun h' i j C kp hi hj hq=>?_) fun h3 c hsz kp he=>?_
  ·have e':lF h' es as:=ent.keep fun a ha o e=>kp a o (fun z=>nd (z ▸ ha)) e
   have uq:∀ (es:List (Str×Int)) (as:List Addr),lF h' es as->∃ fs:List Value,fs.length=es.length/\KatTups h' (as.map Value.ref) fs/\∀ v∈fs,∃ x t,v=.str x t:=by
    intro es
    induction es with
    | nil=>
     intro as e
     have:as=[]:=List.length_eq_zero_iff.mp e.1
     subst this;exact ⟨[],rfl,KatTups.nil,fun v hv=>nomatch hv⟩
    | cons p es ih=>
     intro as e
     match as,e with
     | a::as,e=>
      obtain ⟨t,u,o,n,g,g1,g2⟩:=e.2 0 a p rfl rfl;obtain ⟨fs,f1,f2,f3⟩:=ih as ⟨by simpa using e.1,fun j b q hb hq=>e.2 (j + 1) b q (by simpa using hb) (by simpa using hq)⟩
      exact ⟨.str p.1 t::fs,by rw [Yz,Yz,f1],KatTups.cons g g1 g2 rfl f2,fun v hv=>by
       rcases List.mem_cons.mp hv with rfl | hv
       ·exact ⟨_,_,rfl⟩
       ·exact f3 v hv⟩
   obtain ⟨fs,f1,f2,f3⟩:=uq es as e';refine kat_kind (T:=.type "str") f2 (by omega) (fun v hv=>?_) (by decide) ?_
   ·obtain ⟨x,t,rfl⟩:=f3 v hv;exact Looks.of_pure rfl
   ·rw [show (Value.type "str" != Value.type "tuple")=true by decide];exact hq
  ·exact Zwx (ent.keep fun a ha o e=>kp a o (fun z=>nd (z ▸ ha)) e) (by omega) (by omega) hq
  ·rw [hlm] at he hsz;have low:bM es.length (ZB (fun i j=>kL (es.getD i (Str.empty,0)) (es.getD j (Str.empty,0))) (XQ es.length)):=qE _ (sW (n:=es.length) (by omega));have rF:bB es=(ZB (fun i j=>kL (es.getD i (Str.empty,0)) (es.getD j (Str.empty,0))) (XQ es.length)).toList.map fun i=>es.getD i (Str.empty,0):=by unfold bB;rw [if_neg e2]
   generalize ZB (fun i j=>kL (es.getD i (Str.empty,0)) (es.getD j (Str.empty,0))) (XQ es.length)=ix at he low rF hsz
   have kU:(ix.toList.map fun i=>(as.map Value.ref).getD i Value.none)=(ix.toList.map fun i=>as.getD i 0).map Value.ref:=by
    rw [XJ];refine YbO fun i hi=>?_;have j0:i < es.length:=low.lt i (by simpa using hi);obtain ⟨a,t,u,_,_,g1,g2,_⟩:=ent.at j0;show (as.map Value.ref).getD i Value.none=Value.ref (as.getD i 0);rw [g1,Ys,Yo,g2];rfl
   rw [kU] at he;refine fin h3 c _ kp he ?_ ?_ fun j a p ha hp=>?_
   ·rw [rF,Yb,Yb]
   ·rw [Yb,YH,hsz];exact Ye _
   ·rw [rF] at hp;rw [Yo] at ha hp
    cases z:ix.toList[j]? with
    | none=>rw [z] at ha;cases ha
    | some i=>
     rw [z] at ha hp
     cases ha
     cases hp
     have j0:i < es.length:=low.lt i (by have:=Yy z;simpa using this);obtain ⟨a,t,u,_,_,g1,g2,_⟩:=ent.at j0;refine ⟨i,by show as[i]?=some (as.getD i 0);rw [g1];exact g2,?_⟩;show es[i]?=some (es.getD i (Str.empty,0));rw [Ys,Yh j0];rfl
theorem Zj8 (hc:X.calm=true:=by rfl):eN X (.builtin "sorted") (fun xs H Q=>∃ p d es,xs=[.ref p]/\H p=some (vf p d)/\Rd H d (.dK (er es))/\es.length < 64/\
  ∀ (l:Addr) (as:List Addr) (H':Hp),ag H H'->H l=none->H' l=some (.lst (as.map V.ref))->as.length=(bB es).length->as.length<=es.length->(∀ (j:Nat) a p,as[j]?=some a->(bB es)[j]?=some p->H' a=some (.tup [.str p.1,.int p.2]))->Q (.ref l) H'):=by
 intro pins s σ H xs us Q I r h;obtain ⟨p,d,es,rfl,hp,hd,iN,q⟩:=h;obtain ⟨u,rfl,ru⟩:=r.one
 cases (show u=Value.ref p from ru)
 have hv:s.heap.IsItemsView p d:=(I.aj p _ hp).1;obtain ⟨hz,hs,vs,rel,dd⟩:=jq I.aj hd;obtain ⟨ep,bO⟩:=dd.dictAt;have hvl:vs.length=es.length:=by rw [<- rel.length];exact Yb ..
 refine YaQ kind_sorted plain_sorted entry_sorted (args_sorted1 _) ?_;unfold Builtin.«sorted»;refine Ya (m:=checkCount "sorted" 1 1 _) (Yd ?_);refine Ya (kdx_collect (knd:=Z4 X.prog X.w) (kvs:=vs) (ep:=ep) (by first | exact I.ok.hd hc | exact (I.ok.hd hc)) hv bO (by rw [<- rel.length];exact hz) fun h1 tk as old j3 G=>?_);have c_:as.length=es.length:=j3.trans hvl
 have ent:lF h1 es as:=⟨c_,fun j a p' ha pQ=>by
  obtain ⟨key,k,x,h2,h3,h4⟩:=G.pairs j a ha;obtain ⟨p2,u,h5,h6,h7⟩:=Zx4 rel j k x h2;rw [pQ] at h5
  cases h5
  subst h6 h7;obtain ⟨t,rfl⟩:=(show RelV (.str p'.1) key from Ep h3)
  exact ⟨t,u,_,_,h4,rfl,rfl⟩⟩
 have nd:as.Nodup:=G.rise.imp fun h=>Yu h;have lt1:∀ a∈as,a < h1.objs.size:=fun a ha=>G.there ha;refine Ya (Ya3 ?_ (by rw [Yb,c_,WR];omega));have hD:(h1.push (YT "list" (as.map Value.ref).toArray 0)).get? h1.objs.size=some (YT "list" (as.map Value.ref).toArray 0):=Yi _ rfl
 have sD:s.heap.get? h1.objs.size=none:=by
  cases z:s.heap.get? h1.objs.size with
  | none=>rfl
  | some o=>exact absurd (Yj (old _ _ z)) (YN _)
 -- what every end Lh
 have fin:∀ (h3:Heap) (c:Nat) (outs:List Addr),(∀ b o,b≠h1.objs.size->(h1.push (YT "list" (as.map Value.ref).toArray 0)).get? b=some o->h3.get? b=some o)->h3.get? h1.objs.size=some (YT "list" (outs.map Value.ref).toArray c)->
   outs.length=(bB es).length->outs.length<=es.length->(∀ (j:Nat) a p,outs[j]?=some a->(bB es)[j]?=some p->∃ i:Nat,as[i]?=some a/\es[i]?=some p)->EP X pins σ Q (.ref h1.objs.size) {s with heap:=h3,toks:=tk}:=by
  intro h3 c outs kp he hol KD KY;have Kd:∀ b o,s.heap.get? b=some o->h3.get? b=some o:=fun b o e=>kp b o (Yu (Yj (old b o e))) (Yc _ (old b o e))
  have AK:∀ a∈as,s.heap.get? a=none/\H a=none/\a≠h1.objs.size:=fun a ha=>by
   have:=G.above a ha
   refine ⟨?_,I.aj.fresh (WV this),Yu (lt1 a ha)⟩
   cases z:s.heap.get? a with
   | none=>rfl
   | some o=>exact absurd (Yj z) (Nat.not_lt.mpr (WV this))
  have K_:lF h3 es as:=ent.keep fun a ha o e=>kp a o (AK a ha).2.2 (Yc _ e)
  have mem:∀ b xs,(b,xs)∈as.zip (es.map fun p=>[V.str p.1,V.int p.2])->∃ (j:Nat) (p:Str×Int),as[j]?=some b/\es[j]?=some p/\xs=[V.str p.1,V.int p.2]:=fun b xs hm=>by
   obtain ⟨j,hj⟩:=List.mem_iff_getElem?.mp hm;rw [YaN] at hj;obtain ⟨j1,j2⟩:=hj;rw [Yo] at j2
   cases z:es[j]? with
   | none=>rw [z] at j2;cases j2
   | some p=>rw [z] at j2;cases j2;exact ⟨j,p,j1,z,rfl⟩
  have xF:H h1.objs.size=none:=(I.kept (h':=h1) (t':=tk) old).aj.fresh (Ye _)
  have sm:ag H (upd (AL as es H) h1.objs.size (.lst (outs.map V.ref))):=fun b o e=>by
   rw [Zf (Zg e xF)];unfold AL;rw [ZmQ]
   ·exact e
   ·intro hm;obtain ⟨⟨b',xs⟩,hm1,rfl⟩:=List.mem_map.mp hm;obtain ⟨j,p,j1,_,_⟩:=mem _ _ hm1
    have:=(AK _ (Yy j1)).2.1
    rw [show b'=(b',xs).1 from rfl] at this;rw [this] at e
    cases e
  have D4:∀ (j:Nat) a p,as[j]?=some a->es[j]?=some p->(upd (AL as es H) h1.objs.size (.lst (outs.map V.ref))) a=some (.tup [.str p.1,.int p.2]):=fun j a p ha hp=>by
   rw [Zf (AK a (Yy ha)).2.2];exact Zwy nd c_ ha hp
  refine ⟨.ref h1.objs.size,_,I.many (t':=tk) Kd sm (fun b o e=>?_),rfl,q _ outs _ sm xF Zb hol KD fun j a p ha hp=>?_⟩
  ·by_cases z:b=h1.objs.size
   ·subst z;rw [Zb] at e
    cases e
    refine .inr ⟨sD,?_,(outs.map Value.ref),c,?_,he⟩
    ·rw [Yb]
     have:(64:Nat)<=Ym:=by decide
     omega
    ·exact Fw outs
   ·rw [Zf z] at e;rcases Zo6 _ H b o e with y | ⟨xs,y,rfl⟩
    ·exact .inl y
    ·obtain ⟨j,p,j1,j2,rfl⟩:=mem _ _ y;obtain ⟨t,u,o',n',g,g1,g2⟩:=K_.2 j b p j1 j2;exact .inr ⟨(AK b (Yy j1)).1,A8 (vs:=#[.str p.1 t,.int p.2 u]) ⟨_,g,g1,_,g2⟩ (.cons ⟨t,rfl⟩ (.cons ⟨u,rfl⟩ .nil)) (by show 2<=Ym;decide)⟩
  ·obtain ⟨i,i1,i2⟩:=KY j a p ha hp;exact D4 i a p i1 i2
 refine Ya (Y6 (YK slot_list_sort ⟨_,hD,rfl⟩ entry_list_sort (Zpn (s:={s with heap:=h1.push (YT "list" (as.map Value.ref).toArray 0),toks:=tk}) (ent.keep fun a _ o e=>Yc _ e) (fun z=>YN _ (lt1 _ z)) hD iN fun h3 c outs kp he a b d=>⟨_,rfl,Yd ⟨_,rfl,fin h3 c outs kp he a b d⟩⟩) (args_list_sort _)))
theorem le64 {n:Nat} (h:n < 64):n<=Ym:=Yk (WV h) (by decide)
theorem ZrN:∀ {as:List Addr} {its:List Value},Vals (as.map V.ref) its->its=as.map Value.ref
 | [],_,r=>by cases r;rfl
 | a::as,_,r=>by
  cases r with
  | cons h t=>rw [show _=Value.ref a from h,ZrN t];rfl
theorem Zqv:eN X (.builtin "sorted") (fun xs H Q=>∃ (p:Addr) (as:List Addr) (es:List (Str×Int)),xs=[.ref p]/\Rd H p (.lst (as.map V.ref))/\as.length=es.length/\(∀ (j:Nat) a (q:Str×Int),as[j]?=some a->es[j]?=some q->H a=some (.tup [.str q.1,.int q.2]))/\es.length < 64/\
  ∀ (l:Addr) (outs:List Addr),H l=none->outs.length=(bB es).length->(∀ (j:Nat) a q,outs[j]?=some a->(bB es)[j]?=some q->H a=some (.tup [.str q.1,.int q.2]))->Q (.ref l) (upd H l (.lst (outs.map V.ref)))):=by
 intro pins s σ H xs us Q I r h;obtain ⟨p,as,es,rfl,hp,c_,bO,iN,q⟩:=h;obtain ⟨u,rfl,ru⟩:=r.one
 cases (show u=Value.ref p from ru)
 obtain ⟨its,rv,pl,hz⟩:=I.list (.inl hp);have hi:=ZrN rv;subst hi
 have ent:lF s.heap es as:=⟨c_,fun j a p' ha pQ=>by
  obtain ⟨_,its,rr,o,g,g1,n,g2⟩:=(show bT X.prog X.w H s.heap a (.tup [.str p'.1,.int p'.2]) from I.aj a _ (bO j a p' ha pQ))
  cases rr with
  | cons r1 rr=>
   cases rr with
   | cons r2 rr=>
    cases rr
    obtain ⟨t,rfl⟩:=r1;obtain ⟨u,rfl⟩:=r2;exact ⟨t,u,o,n,g,g1,g2⟩⟩
 have lt:∀ a∈as,a < s.heap.objs.size:=fun a ha=>by
  obtain ⟨j,hj⟩:=List.mem_iff_getElem?.mp ha
  have:j < es.length:=by rw [<- c_];exact (List.getElem?_eq_some_iff.mp hj).1
  exact I.aj.lt (bO j a _ hj (Yh this))
 refine YaQ kind_sorted plain_sorted entry_sorted (args_sorted1 _) ?_;unfold Builtin.«sorted»;refine Ya (m:=checkCount "sorted" 1 1 _) (Yd ?_);refine Ya (collect_list pl.isList ?_ (by rw [Yb,c_];exact le64 iN));have tG:∀ b o,s.heap.get? b=some o->((s.heap.push (YT "list" #[] 0)).update s.heap.objs.size (Y1 fun x=>x++(as.map Value.ref).toArray)).get? b=some o:=fun b o e=>(Xq _ _ (WB (Yj e))).trans (Yc _ e);have wx:s.heap.objs.size<=((s.heap.push (YT "list" #[] 0)).update s.heap.objs.size (Y1 fun x=>x++(as.map Value.ref).toArray)).objs.size:=by rw [Heap.size_update,XN];omega
 generalize (s.heap.push (YT "list" #[] 0)).update s.heap.objs.size (Y1 fun x=>x++(as.map Value.ref).toArray)=h1 at tG wx ⊢;refine Ya (Ya3 ?_ (by rw [Yb,c_];exact le64 iN));have hD:(h1.push (YT "list" (as.map Value.ref).toArray 0)).get? h1.objs.size=some (YT "list" (as.map Value.ref).toArray 0):=Yi _ rfl;refine Ya (Y6 (YK slot_list_sort ⟨_,hD,rfl⟩ entry_list_sort (Zpn (s:={s with heap:=h1.push (YT "list" (as.map Value.ref).toArray 0)}) (ent.keep fun a _ o e=>Yc _ (tG a o e)) (fun z=>absurd (Yq (lt _ z) wx) (YN _)) hD iN fun h3 c outs kp he e1 e2 d=>⟨_,rfl,Yd ⟨_,rfl,?_⟩⟩) (args_list_sort _)));have hn:H h1.objs.size=none:=I.aj.fresh wx;refine ⟨.ref h1.objs.size,_,I.jG (t':=s.toks) (fun b o e=>kp b o (Yu (Yq (Yj e) wx)) (Yc _ (tG b o e))) wx he (Fw outs) ?_,rfl,q _ outs hn e1 fun j a p' ha pQ=>?_⟩
 ·rw [Yb]
  have:(64:Nat)<=Ym:=by decide
  omega
 ·obtain ⟨i,i1,i2⟩:=d j a p' ha pQ;exact bO i a p' i1 i2
end
end L2
namespace L2
open PySem PySem.Spec PyProof.Rows PySem.W
def eV (ns:List Str):List Str:=
 if ns.length < 2 then ns else (ZB (fun i j=>decide ((ns.getD i Str.empty).cps.toList < (ns.getD j Str.empty).cps.toList)) (XQ ns.length)).toList.map fun i=>ns.getD i Str.empty
theorem Bk:∀ {ns:List Str} {vs:List Value},Vals (ns.map V.str) vs->∀ {i:Nat},i < ns.length->∃ t,vs.getD i Value.none=.str (ns.getD i Str.empty) t
 | [],_,_,_,h=>absurd h (Nat.not_lt_zero _)
 | n::ns,_,.cons ⟨t,e⟩ r,0,_=>⟨t,e⟩
 | n::ns,_,.cons _ r,i + 1,h=>by
  obtain ⟨t,e⟩:=Bk r (i:=i) (by simpa using h);exact ⟨t,by simpa using e⟩
theorem Zx3 {ks:List Str}:∀ {kvs:List (Key×V)},kvs.map (·.1)=ks.map Xp->∀ {vs:List (Key×Value)},KV kvs vs->vs.map (·.1)=ks.map Xp:=by
 intro kvs h vs r;rw [<- r.keys];exact h
section
variable {X:Cx} {pins:List (Addr×Obj)} {σ:St} {H:Hp} {s:Shared}
theorem Zj9 (hc:X.calm=true:=by rfl):eN X (.builtin "sorted") (fun xs H Q=>∃ d kvs ns,xs=[.ref d]/\Rd H d (.dK kvs)/\kvs.map (·.1)=ns.map Xp/\ns.length < 64/\
  ∀ (l:Addr),H l=none->Q (.ref l) (upd H l (.lst ((eV ns).map V.str)))):=by
 intro pins s σ H xs us Q I r h;obtain ⟨d,kvs,ns,rfl,hd,hks,iN,q⟩:=h;obtain ⟨u,rfl,ru⟩:=r.one
 cases (show u=Value.ref d from ru)
 obtain ⟨hz,hs,vs,rel,dd⟩:=jq I.aj hd;obtain ⟨ep,bO⟩:=dd.dictAt
 have xn:kvs.length=ns.length:=by
  have:=congrArg List.length hks
  rw [Yb,Yb] at this;exact this
 refine YaQ kind_sorted plain_sorted entry_sorted (args_sorted1 _) ?_;unfold Builtin.«sorted»;refine Ya (m:=checkCount "sorted" 1 1 _) (Yd ?_);refine Ya (kdu_collect (kdl_dict (knd:=Z4 X.prog X.w) (kvs:=vs) (ep:=ep) hs) (by first | exact I.ok.hd hc | exact (I.ok.hd hc)) bO (by rw [<- rel.length];exact hz) fun h1 tk acc old hi=>?_)
 have j3:acc.toList.length=ns.length:=by
  have e3:acc.toList.length=acc.size:=YH;rw [e3,hi.1,<- rel.length,xn]
 have rv:Vals (ns.map V.str) acc.toList:=by
  refine vC (by rw [Yb,j3]) fun j x w hx hw=>?_;obtain ⟨k,y,hy,uO⟩:=hi.2 j w (by rw [<- XB];exact hw);have e1:(vs.map (·.1))[j]?=some k:=by rw [Yo,hy];rfl
  rw [Zx3 hks rel,Yo] at e1;rw [Yo] at hx
  cases z:ns[j]? with
  | none=>rw [z] at hx;cases hx
  | some n=>
   rw [z] at hx e1
   cases hx
   cases e1
   exact Ep uO
 generalize acc.toList=us at j3 rv;refine Ya (Ya3 ?_ (by rw [WR];omega));have hD:(h1.push (YT "list" us.toArray 0)).get? h1.objs.size=some (YT "list" us.toArray 0):=Yi _ rfl
 have sD:s.heap.get? h1.objs.size=none:=by
  cases z:s.heap.get? h1.objs.size with
  | none=>rfl
  | some o=>exact absurd (Yj (old _ _ z)) (YN _)
 have xF:H h1.objs.size=none:=(I.kept (h':=h1) (t':=tk) old).aj.fresh (Ye _)
 have fin:∀ (h3:Heap) (c:Nat) (outs:List Value),(∀ b o,b≠h1.objs.size->(h1.push (YT "list" us.toArray 0)).get? b=some o->h3.get? b=some o)->h3.get? h1.objs.size=some (YT "list" outs.toArray c)->
   (eV ns).length<=ns.length->Vals ((eV ns).map V.str) outs->EP X pins σ Q (.ref h1.objs.size) {s with heap:=h3,toks:=tk}:=by
  intro h3 c outs kp he hl ro;refine ⟨.ref h1.objs.size,_,I.many (t':=tk) (fun b o e=>kp b o (Yu (Yj (old b o e))) (Yc _ (old b o e))) (Zj xF) (fun b o e=>?_),rfl,q _ xF⟩
  by_cases z:b=h1.objs.size
  ·subst z;rw [Zb] at e
   cases e
   refine .inr ⟨sD,?_,outs,c,ro,he⟩;rw [Yb]
   have:(64:Nat)<=Ym:=by decide
   omega
  ·rw [Zf z] at e;exact .inl e
 refine Ya (Y6 (YK slot_list_sort ⟨_,hD,rfl⟩ entry_list_sort ?body (args_list_sort _)))
 case body=>
  by_cases h2:us.length < 2
  ·refine ZrJ (s:={s with heap:=h1.push (YT "list" us.toArray 0),toks:=tk}) hD h2 fun h3 c kp he=>?_;have e2:eV ns=ns:=by unfold eV;rw [if_pos (by omega)]
   exact ⟨_,rfl,Yd ⟨_,rfl,fin h3 c us kp he (by rw [e2];exact Ye _) (by rw [e2];exact rv)⟩⟩
  ·have e2:¬ ns.length < 2:=by omega
   refine Zpm (s:={s with heap:=h1.push (YT "list" us.toArray 0),toks:=tk}) (κ:=oneType') (lt:=fun i j=>decide ((ns.getD i Str.empty).cps.toList < (ns.getD j Str.empty).cps.toList)) hD (by omega) (by omega) (fun h' Q' kp hq=>?_) (fun h' i j C kp hi hj hq=>?_) fun h3 c hsz kp he=>?_
   ·have hS:=Ff rv
    match us,h2,hS with
    | v1::v2::r,_,hS=>
     rw [keyKind_strs hS];exact Yd hq
    | [v1],h2,_=>exact absurd (by show 1 < 2;decide) h2
    | [],h2,_=>exact absurd (by decide) h2
   ·obtain ⟨t,g1⟩:=Bk rv (i:=i) (by omega);obtain ⟨t',g2⟩:=Bk rv (i:=j) (by omega);unfold kas_ask;rw [g1,g2];exact kas_lt_str hq
   ·rw [j3] at he hsz;have low:bM ns.length (ZB (fun i j=>decide ((ns.getD i Str.empty).cps.toList < (ns.getD j Str.empty).cps.toList)) (XQ ns.length)):=qE _ (sW (n:=ns.length) (by omega));have rF:eV ns=(ZB (fun i j=>decide ((ns.getD i Str.empty).cps.toList < (ns.getD j Str.empty).cps.toList)) (XQ ns.length)).toList.map fun i=>ns.getD i Str.empty:=by unfold eV;rw [if_neg e2]
    generalize ZB (fun i j=>decide ((ns.getD i Str.empty).cps.toList < (ns.getD j Str.empty).cps.toList)) (XQ ns.length)=ix at he low rF hsz;refine ⟨_,rfl,Yd ⟨_,rfl,fin h3 c _ kp he ?_ ?_⟩⟩
    ·rw [rF,Yb,YH,hsz];exact Ye _
    ·rw [rF]
     have:∀ l:List Nat,(∀ i∈l,i < ns.length)->Vals ((l.map fun i=>ns.getD i Str.empty).map V.str) (l.map fun i=>us.getD i Value.none):=by
      intro l
      induction l with
      | nil=>intro _;exact .nil
      | cons i r ih=>
       intro hl;obtain ⟨t,g⟩:=Bk rv (i:=i) (hl i YA);exact .cons ⟨t,g⟩ (ih fun j hj=>hl j (Yr _ hj))
     exact this _ fun i hi=>low.lt i (by simpa using hi)
end
end L2
namespace L2
open PySem PySem.Spec PyProof.Rows PySem.W
def Cq (x:Str):It:=⟨fun i _=>i < x.cps.size,fun i H v H'=>H'=H/\∃ c,x.cps[i]?=some c/\v=.str ⟨#[c]⟩,fun i _=>i=x.cps.size⟩
theorem ZvD {P:Program} {w:World} {K:Frag} {tg:Expr} (it:Addr) (x:Str) (ty:String) (t:Tok)
  (W:∀ A':Around,A'.handled=none->Walks P w A' it [it] [it] x.cps.size (SignAt x) fun i h=>h.IsStrIter it ty x t i) (mP:∀ (A:Around) (i:Nat) (s:Shared) (Q:Value->Shared->Prop) (E:Value->Shared->Prop),s.heap.IsStrIter it ty x t i->Q (.ref it) s->wpAny (model P w) A (pyIter (.ref it)) Q E s):Turn P w K tg (Cq x) [it] it (fun i h=>h.IsStrIter it ty x t i) where
 mem:=by simp
 obj:=fun i h st b hb=>by
  have e:b=it:=by simpa using hb
  subst e;obtain ⟨o,e,c,d⟩:=st;exact ⟨o,e,fun v z=>by rw [d] at z;cases z⟩
 keep:=fun i h h' st k=>let ⟨o,e,r⟩:=st;⟨o,k it (by simp) o e,r⟩
 item:=by
  intro X hP hw hK hc i pins s σ H E I hf st hg;subst hP hw hK;obtain ⟨f0,f1,f2,f3,f4,f5⟩:=hf it (by simp);refine (W X.A (I.ok.hd hc)).item i s _ _ hg st fun v h' tk hv ff kk=>?_;obtain ⟨c,t',hx,rfl⟩:=hv;have I1:Inv X pins σ H {s with heap:=h',toks:=tk}:=I.turned (fun b o hb e=>kk b o (by simpa using hb) e) f0 f1 f3 f4 f5;refine ⟨_,rfl,?_⟩;unfold Yax
  cases tg <;> exact Yd ⟨.str ⟨#[c]⟩,H,I1,⟨t',rfl⟩,⟨rfl,c,hx,rfl⟩,ff,fun b hb=>(hf b hb).1⟩
 done:=by
  intro X hP hw hK hc i pins s σ H E I hf st hg;subst hP hw hK;obtain ⟨f0,f1,f2,f3,f4,f5⟩:=hf it (by simp);have hg':i=x.cps.size:=hg;subst hg';exact (W X.A (I.ok.hd hc)).done s _ _ st fun h' tk kk=>⟨rfl,I.turned (fun b o hb e=>kk b o (by simpa using hb) e) f0 f1 f3 f4 f5⟩
 self:=fun A i s Q E st h=>mP A i s Q E st h
def Kr (tl:TE):TI:=fun σ H R=>tl σ H fun x H1=>∃ y,x=.str y/\R (Cq y) H1
theorem Zw0 {X:Cx} {tg l:Expr} {tl:TE} (hl:PE X l tl):PI X tg l (Kr tl):=by
 try unfold PE at *
 intro pins s σ H R I h;refine aH (hl pins s σ H _ I h) fun v s1 ⟨x,H1,I1,r1,y,ex,q⟩=>?_;subst ex;obtain ⟨t,rfl⟩:=(show ∃ t,v=Value.str y t from r1)
 have fin:∀ (ty:String),(∀ A':Around,A'.handled=none->Walks X.prog X.w A' s1.heap.objs.size [s1.heap.objs.size] [s1.heap.objs.size] y.cps.size (SignAt y) fun i h=>h.IsStrIter s1.heap.objs.size ty y t i)->
   (∀ (A:Around) (i:Nat) (s:Shared) (Q:Value->Shared->Prop) (E:Value->Shared->Prop),s.heap.IsStrIter s1.heap.objs.size ty y t i->Q (.ref s1.heap.objs.size) s->wpAny (model X.prog X.w) A (pyIter (.ref s1.heap.objs.size)) Q E s)->
   JK X pins σ tg R (.ref s1.heap.objs.size) {s1 with heap:=s1.heap.push {cls:=.type ty,data:=.fields #[.str y t,.int 0 0]}}:=by
  intro ty W mP;refine ⟨s1.heap.objs.size,[s1.heap.objs.size],_,_,H1,rfl,I1.kept (t':=s1.toks) fun b o e=>Yc _ e,ZvD _ y ty t W mP,⟨_,Yi _ rfl,rfl,rfl⟩,fun b hb=>?_,q⟩;have e:b=s1.heap.objs.size:=by simpa using hb
  subst e;exact I1.ij (Ye _) (I1.aj.fresh (Ye _))
 cases ha:y.cps.all (· < 128)
 ·exact wpAny_pyIter_wide ha (fin _ (fun A' hA=>Walks.strWide hA _ y t) fun A i s Q E st h=>wpAny_pyIter_striter_wide st h)
 ·exact wpAny_pyIter_ascii ha (fin _ (fun A' hA=>Walks.strAscii hA _ y t) fun A i s Q E st h=>wpAny_pyIter_striter_ascii st h)
theorem yf {J:It} {tt:TT} {te:TE} {σ:St} {ix:List Nat} {H1:Hp} {D:Addr} {Q:Hp->Prop} (n:Nat) (f:Nat->Option V) (Xi:Nat->V->Prop) (hD:H1 D=none) (hn:n<=Ym)
  (hgo:∀ i H',i < n->ag H1 H'->J.go i H') (cN:∀ H',ag H1 H'->J.stop n H') (hy:∀ i H' x H2,i < n->ag H1 H'->J.kz i H' x H2->H2=H'/\Xi i x)
  (hs:∀ i x H' (N:Option V->Hp->Prop),i < n->Xi i x->ag H1 H'->(∀ H5,ag H' H5->N (f i) H5)->tt (some x::ix.map fun i=>(σ[i]?).getD none) H' fun b H4=>if b=true then te (some x::ix.map fun i=>(σ[i]?).getD none) H4 fun v H5=>N (some v) H5 else N none H4)
  (hd:∀ H',ag H1 H'->H' D=some (.lst ((List.range n).filterMap f))->Q H') :
  ∃ W:Nat->Nat->St->List V->Hp->Prop,(∃ m,W 0 m (List.replicate 1 none++ix.map fun i=>(σ[i]?).getD none) [] (upd H1 D (.lst [])))/\
   ∀ i m aC ys H',W i m aC ys H'->H' D=some (.lst ys)/\((J.stop i H'/\Q H')∨(J.go i H'/\ys.length < Ym/\
    ∀ x H2,J.kz i H' x H2->u7 0 x aC H2 fun bH H3=>tt bH H3 fun b H4=>
     if b=true then te bH H4 fun v H5=>H5 D=some (.lst ys)/\∃ m',m' < m/\W (i + 1) m' bH (ys++[v]) (upd H5 D (.lst (ys++[v])))
     else ∃ m',m' < m/\W (i + 1) m' bH ys H4)):=by
 refine ⟨fun i m aC ys H'=>i<=n/\m=n - i/\(∃ o,aC=o::ix.map fun i=>(σ[i]?).getD none)/\ys=(List.range i).filterMap f/\H' D=some (.lst ys)/\ag H1 H',⟨n,Yv _,rfl,⟨none,rfl⟩,rfl,Zb,Zj hD⟩,?_⟩
 rintro i m aC ys H' ⟨hi,rfl,⟨o,rfl⟩,ey,hH,sm⟩
 refine ⟨hH,?_⟩
 by_cases bq:i < n
 ·have hyl:ys.length<=i:=by
   rw [ey];refine Yk (Ya1 _ _) ?_;rw [Xv];exact Ye _
  refine .inr ⟨hgo i H' bq sm,by omega,fun x H2 hyy=>?_⟩;obtain ⟨rfl,hX⟩:=hy i H' x H2 bq sm hyy
  have key:=hs i x H2 (fun ov H5=>match ov with
   | some v=>H5 D=some (.lst ys)/\∃ m',m' < n - i/\(i + 1<=n/\m'=n - (i + 1)/\(∃ o,(some x::ix.map fun i=>(σ[i]?).getD none)=o::ix.map fun i=>(σ[i]?).getD none)/\ys++[v]=(List.range (i + 1)).filterMap f/\(upd H5 D (.lst (ys++[v]))) D=some (.lst (ys++[v]))/\ag H1 (upd H5 D (.lst (ys++[v]))))
   | none=>∃ m',m' < n - i/\(i + 1<=n/\m'=n - (i + 1)/\(∃ o,(some x::ix.map fun i=>(σ[i]?).getD none)=o::ix.map fun i=>(σ[i]?).getD none)/\ys=(List.range (i + 1)).filterMap f/\H5 D=some (.lst ys)/\ag H1 H5)) bq hX sm (fun H5 s5=>by
    have e1:(List.range (i + 1)).filterMap f=ys++(match f i with | some v=>[v] | none=>[]):=by
     rw [List.range_succ,List.filterMap_append,<- ey,List.append_cancel_left_eq]
     cases hf:f i <;> simp [Xw,hf]
    cases hf:f i with
    | some v=>
     refine ⟨s5 _ _ hH,n - (i + 1),by omega,bq,rfl,⟨_,rfl⟩,by rw [e1,hf],Zb,fun b o e=>?_⟩;rw [Zf (Zg e hD)];exact s5 _ _ (sm _ _ e)
    | none=>exact ⟨n - (i + 1),by omega,bq,rfl,⟨_,rfl⟩,by rw [e1,hf,Xf],s5 _ _ hH,sm.trans s5⟩)
  exact key
 ·have e:i=n:=by omega
  subst e;refine .inl ⟨cN H' sm,hd H' sm ?_⟩;rw [<- ey];exact hH
end L2
namespace L2
open PySem
structure Zvx (K:Yg) (C:Addr):Prop where
 ha:Xm K (.ref C) "__class__"=some (some (.builtin "object.__class__"))
 hn:PySem.W.specialIn K (.builtin "object.__class__") "__get__"=some (some (.builtin "getset_descriptor.__get__"))
 jn:PySem.W.takesIn K (.builtin "object.__class__")=some true
 hm:PySem.W.mroIn K C (.type "object")=some true
 hk:Yae K (.ref C) (.ref C)=some true
def y0 (K:Yg):List V->Hp->VK->Prop:=fun xs H Q=>∃ (a C dx:Addr) (fs:List (Str×V)),xs=[.ref a,.ref C]/\H a=some (.ins C dx fs)/\Cls K C/\Zvx K C/\Q (.bl true) H
theorem ZwL {X:Cx}:eN X (.builtin "isinstance") (y0 X.K):=by
 intro pins s σ H xs us Q I r h;obtain ⟨a,C,dx,fs,rfl,ha,cl,O,q⟩:=h;obtain ⟨u,v,rfl,ru,rv⟩:=r.two
 cases (show v=Value.ref C from rv)
 exact Zp4 I ru (.ins ha cl O.ha O.hn O.jn O.hm) O.hk fun tk=>⟨.bl true,H,I.tok tk,rfl,q⟩
theorem Zy9 {X:Cx} {a b:Expr} {ta tb:TE} {p pos:Pos} (ha:PE X a ta) (hb:PE X b tb) (hg:Gl X "isinstance") (hm:X.mg "isinstance"=none)
  (h1:Yx [a,b] X.env=(false,eval a X.env)::Yx [b] X.env:=by rfl) (h2:Yx [b] X.env=(false,eval b X.env)::Yx [] X.env:=by rfl) (cI:(Wi pos (Yx [b] X.env)).any (·.1)=false:=by rfl) :
  PE X (.Call (.Name "isinstance" p) [a,b] [] pos) (qU (y0 X.K) (cY ta (cY tb bp))):=
 ZD ZwL hg hm PyProof.Rows.Boot.«isinstance» (Za ha (Za hb Ze h2) h1) (by decide) (by decide) h1 cI
end L2
namespace L2
open PySem PySem.Spec PyProof.Rows
end L2
namespace L2
open PySem
theorem Zzc {X:Cx} (hu:X.A.units + 1 < cLine):dJ X (XS .NotEq) (fun x y H Q=>∃ a b kvs,x=.ref a/\y=.ref b/\Rd H a (.dK kvs)/\Rd H b (.dK [])/\Q (.bl (!kvs.isEmpty)) H):=by
 intro pins s σ H x y v u Q I rx ry h;obtain ⟨a,b,kvs,rfl,rfl,ha,hb,q⟩:=h
 cases rx
 cases ry
 obtain ⟨_,sa,vs,ra,da⟩:=jq I.aj ha;obtain ⟨_,sb,ws,rb,db⟩:=jq I.aj hb
 cases rb
 refine PySem.W.keq_ne (r:=true) sa sb da db (by omega) (fun hl=>?_) ?_
 ·have:vs=[]:=List.length_eq_zero_iff.mp hl
  subst this;exact .nil
 ·refine ⟨.bl (!kvs.isEmpty),H,I,?_,q⟩
  cases ra with
  | nil=>rfl
  | cons _ _=>rfl
theorem Zuj {H3:Hp} {a:Addr} {kvs:List (Key×V)} {k:Key} {z:V} {Q:VK} (h:H3 a=some (.dK kvs)) (q:∀ v H',H' a=some (.dK (gz kvs k))->(∀ d o,d≠a->H3 d=some o->H' d=some o)->Q v H') :
  ∃ kvs k',H3 a=some (.dK kvs)/\kV k=kV k'/\(∀ v,aV kvs k'=some v->Q v (upd H3 a (.dK (gz kvs k'))))/\(aV kvs k'=none->Q z H3):=by
 refine ⟨kvs,k,h,rfl,fun v _=>q v _ Zb fun d o hd e=>by rw [Zf hd];exact e,fun hn=>q z H3 ?_ fun _ _ _ e=>e⟩;rw [Zsk fun hm=>?_]
 ·exact h
 ·obtain ⟨p,hp,e⟩:=List.mem_map.mp hm;unfold aV at hn
  have:=List.find?_eq_none.mp (Option.map_eq_none_iff.mp hn) p hp
  simp [e] at this
end L2
namespace L2
open PySem PySem.Spec PyProof.Rows
def ou (CX:iS) (P:Program) (w:World) (K:Yg) (mg:Str->Option Value) (base:Heap) (N:List Str) (qual:Str) (scope:Scope) (f:Addr) (cd:Value) (cl:List (Str×Addr)) (A:Around) (outer:List Env) (s:Shared) (H:Hp) (E:XK):Cx where
 prog:=P
 w:=w
 K:=K
 mg:=mg
 base:=base
 A:=A.deeper (X1 qual scope s.heap.objs.size f cd cl)
 N:=N
 au:=s
 aN:=H
 env:=X1 qual scope s.heap.objs.size f cd cl
 outer:=outer
 stack:=X1 qual scope s.heap.objs.size f cd cl::outer
 ex:=[]
 calm:=true
 fn:=fun _=>false
 pn:=[]
 xe:=fun e s'=>wpAny (model P w) (A.deeper (X1 qual scope s.heap.objs.size f cd cl)) (leaving (X1 qual scope s.heap.objs.size f cd cl) e) (fun _ g5=>CX outer H s E e g5) (fun e' g5=>CX outer H s E e' g5) s'
section
variable {P:Program} {w:World} {K:Yg} {mg:Str->Option Value} {base:Heap} {N:List Str} {qual:Str} {scope:Scope} {f:Addr} {cd:Value} {cl:List (Str×Addr)} {A:Around} {outer:List Env} {au:Shared} {aN:Hp} {E:XK}
theorem nJ:j_ (aA P w) (ou (aA P w) P w K mg base N qual scope f cd cl A outer au aN E) (fun _=>E):=by
 rintro pins σ H s e s' I ⟨a,cls,H',rfl,fl,hE⟩
 obtain ⟨B,a0,dg,aj,kB,tB⟩:=fl.ex;show wpAny (model P w) (A.deeper (X1 qual scope au.heap.objs.size f cd cl)) (leaving (X1 qual scope au.heap.objs.size f cd cl) (.ref a)) (fun _ g5=>aA P w outer aN au E (.ref a) g5) (fun e' g5=>aA P w outer aN au E e' g5) s';refine wpAny_leaves_onW (L:=au.heap.objs.size) (outer:=outer) I.ok.frames rfl dg fun iX x1 x2=>?_
 have sub:∀ b∈bL outer,b∈bL (ou (aA P w) P w K mg base N qual scope f cd cl A outer au aN E).stack:=fun b hb=>by
  show b∈List.filterMap (·.frame) (_::outer);rw [Xw];exact Yr _ hb
 have slots:∀ b o,b∈bL outer->s.heap.get? b=some o->∃ sl,iX.get? b=some {o with slots:=sl}:=fun b o hb q=>by
  obtain ⟨_,o',dP,nZ⟩:=I.bI.mem hb;rw [q] at dP
  cases dP
  obtain ⟨sl,e1⟩:=fl.un.slot b o q (I.cq b (sub b hb)) (sub b hb) (fun z=>nomatch z);obtain ⟨jz,e2⟩:=x2 b _ e1 nZ;exact ⟨jz,e2⟩
 have ll:∀ b o,au.heap.get? b=some o->b ∉ bL outer->b ∉ bL (ou (aA P w) P w K mg base N qual scope f cd cl A outer au aN E).stack:=fun b o q hb z=>by
  rcases List.mem_cons.mp (I.bV b z) with q1 | q1
  ·have:=Yj q
   rw [q1] at this;exact absurd (Yq this I.ok.above) (YN _)
  ·exact hb q1
 refine ⟨a,cls,H',rfl,⟨fl.os.trans I.os,fl.bare,Fg I rfl (fun b o q n hb=>x1.1 b o (kB b o q n hb)) (fun b o q hb=>?_) slots (fun b o q n=>fl.un.free b o q n (fun z=>nomatch z)) fl.un.cG fl.un.bU fl.un.cj,B,a0,x1,aj,fun b o q n hb=>?_,fun b o q hb=>?_⟩,hE⟩
 ·obtain ⟨o',e1⟩:=tB b o q hb;exact ⟨o',x1.1 b o' e1⟩
 ·exact kB b o (I.base.keep b o q n hb (fun z=>nomatch z)) (I.base.free b o q n (fun z=>nomatch z)) (ll b o q hb)
 ·obtain ⟨o',e1⟩:=I.base.there b o q (fun z=>nomatch z);exact tB b o' e1 (ll b o q hb)
end
structure Bs (scope:Scope) (fv:List Str):Prop where
 kind:scope.kind=.function
 co:scope.isCoroutine=false
 gen:scope.isGenerator=false
 free:∀ y∈scope.names,y.2=.free
 lk:∀ y∈fv,scope.names.lookup y=some .free
 all:∀ y∈scope.names,y.1∈fv
structure wq (base:Heap) (cl:List (Str×Addr)) (fv:List Str) (vs:List V):Prop where
 has:∀ y∈fv,∃ c,cl.lookup y=some c
 inj:∀ x y c,cl.lookup x=some c->cl.lookup y=some c->x=y
 only:∀ x c,cl.lookup x=some c->∃ v,base.IsCell c v
 val:∀ (j:Nat) y v,fv[j]?=some y->vs[j]?=some v->∃ c u,cl.lookup y=some c/\base.IsCell c (some u)/\RelV v u
 len:vs.length=fv.length
def nB (qual:Str) (H:Hp) (c:Addr):Prop:=∃ oc vs t,H c=some (.bt oc (.ext fun _=>True))/\oc.data=.fields vs/\vs[1]?=some (Value.str qual t)
theorem Zzy {CX:iS} {P:Program} {w:World} {K:Yg} {mg:Str->Option Value} {base:Heap} {k:Nat} {f c':Addr} {qual:Str} {params:Arguments} {body:Expr} {scope:Scope} {cl:List (Str×Addr)} {pm gT:Value} {fv:List Str} {vs:List V} {sp:Hp->VK->XK->Prop}
  (hf:base.get? f=some (W6 "<lambda>" qual params body scope cl pm c' gT)) (S:Bs scope fv) (C:wq base cl fv vs)
  (b9:∀ (A:Around) (outer:List Env) (s:Shared) (H:Hp) (Q:VK) (E:XK),aW k (A.deeper (X1 qual scope s.heap.objs.size f (.ref c') cl))->sp H Q E->
   ∃ t,PE (ou CX P w K mg base fv qual scope f (.ref c') cl A outer s H E) body t/\t (vs.map some) H Q) :
  ah P w K mg base CX (k + 1) f (PySem.W.kla_fn "<lambda>" qual params body scope cl pm (.ref c') gT) [] (fun us H Q E=>us=[]/\nB qual H c'/\sp H Q E):=by
 refine ⟨fun us H Q E h=>by rw [h.1];rfl,fun A outer s H args us vs' Q E hr e0 hb r eM=>?_⟩;obtain ⟨rfl,⟨oc,fs,t,hc,hd,h1⟩,eM⟩:=eM
 cases r
 have lim:s.heap.NoLimit:=e0.mod.nolimit.keeps fun b o e=>(e0.bs b o e).1;have hcr:s.heap.CodeRec (.ref c') qual:=⟨c',oc,fs,t,rfl,(e0.aj c' _ hc).1,hd,h1⟩
 refine PySem.W.kla_callFunE hr.depth (e0.bs _ _ hf).1 rfl S.co S.gen rfl hcr (hb _ _ _ _ ?_);refine YbE (fun y hy=>by rw [S.free y hy];decide) (fun y hy=>absurd (show y∈([]:List (Str×Value)) from hy) (by simp)) (fun h' kE hsb=>?_) S.kind;have old:∀ b o,s.heap.get? b=some o->h'.get? b=some o:=fun b o e=>hsb.extBut b o (Yu (Yj e)) (Yc _ e);refine ⟨lim.keeps old,PySem.W.kla_codeExpr ?_⟩;obtain ⟨t,ht,hq⟩:=b9 A outer s H Q E (hr.deeper _) eM;unfold PE at ht;have mR:∀ c v,base.IsCell c v->h'.IsCell c v/\H c=none:=fun c v ⟨o,ho,hd⟩=>⟨⟨o,old c o (e0.bs c o ho).1,hd⟩,(e0.bs c o ho).2⟩
 have I:Inv (ou CX P w K mg base fv qual scope f (.ref c') cl A outer s H E) [] (vs.map some) H {s with heap:=h',toks:=s.toks + ([]:List (Str×Value)).length}:=by
  have rj:∀ b:Addr,b ∉ (ou CX P w K mg base fv qual scope f (.ref c') cl A outer s H E).ex:=fun b z=>absurd (show b∈([]:List Addr) from z) (by simp)
  refine ⟨⟨e0.mod,S.kind,rfl,rfl,Ye _,C.inj,fun y hy=>?_,fun y c z=>(nomatch z),fun _=>hr.hd,Around.frames_deeper e0.frames,.inr ⟨rfl,rfl⟩,fun b z=>absurd z (rj b),e0.bs,e0.jB,fun b _ _=>rj b,fun b z=>absurd z (rj b),e0.bI,e0.kJ⟩,
   rfl,e0.bare,Un.kept old,⟨_,kE,fun i y v h1 h2 h3=>?_⟩,fun y c h=>?_,e0.aj.fresh (Ye _),fun y c h=>?_,fun p hp=>absurd (show p∈([]:List (Addr×Obj)) from hp) (by simp),e0.aj.kept old,?_⟩
  ·have hy:scope.names.lookup y=some .cell∨scope.names.lookup y=some .free:=hy;rcases hy with hy | hy
   ·exact C.has y (S.all _ (XT hy))
   ·exact C.has y (S.all _ (XT hy))
  ·have hv:vs[i]?=some v:=by
    rw [Yo] at h2
    cases e:vs[i]? with
    | none=>rw [e] at h2;cases h2
    | some a=>rw [e] at h2;cases h2;rfl
   obtain ⟨c,u,e1,e2,e3⟩:=C.val i y v h1 hv;exact ⟨u,e3,.inr ⟨.inr (S.lk y (Yy h1)),c,e1,(mR c _ e2).1⟩⟩
  ·obtain ⟨v,e⟩:=C.only y c h;exact ⟨v,(mR c v e).1⟩
  ·obtain ⟨v,e⟩:=C.only y c h;exact (mR c v e).2
  ·show (vs.map some).length=fv.length;rw [Yb,C.len]
 refine Xd (ht [] _ (vs.map some) H _ I hq) (fun u s' hs=>?_) fun e s' hs=>hs;obtain ⟨v,H',J,rv,q⟩:=hs;exact ⟨v,H',J.os,J.bare,J.base,J.aj,rv,q⟩
def ZwQ (P:Program) (w:World) (K:Yg) (mg:Str->Option Value) (base:Heap) (CX:iS) (k:Nat) (E:St->XK) (i:Nat):TE:=fun σ H Q=>∃ f fd sp o,σ[i]?=some (some (.ref f))/\ah P w K mg base CX k f fd [] sp/\ZF K fd [] []/\base.get? f=some o/\o.data=.func fd/\sp [] H Q (E σ)
theorem Zv6 {X:Cx} {CX:iS} {k i:Nat} {x:Str} {p pos:Pos} {E:St->XK} (hr:aW k X.A) (hx:j_ CX X E) (hN:X.N[i]?=some x:=by rfl) (hv:Cn X.env.scope x:=by first | exact Or.inl rfl | exact Or.inr (Or.inl rfl) | exact Or.inr (Or.inr rfl)) (hd:(x == ("__debug__":Str))=false:=by decide) (gx:(x == ("__classdict__":Str))=false:=by decide) :
  PE X (.Call (.Name x p) [] [] pos) (ZwQ X.prog X.w X.K X.mg X.base CX k E i):=by
 have hn:=Zw1 (X:=X) (pos:=p) hN hv hd gx;unfold PE at *
 rintro pins s σ H Q I ⟨f,fd,sp,o,hi,F,hb,ho,Dj,h⟩
 refine XC (aH (hn pins s σ H (fun v H1=>v=.ref f/\H1=H) I ⟨_,hi,rfl,rfl⟩) fun u s1 ⟨v,H1,I1,rv,e1,e2⟩=>?_);subst e1 e2;obtain rfl:u=Value.ref f:=rv
 have lP:PySem.W.Frag.In [(f,o)] s1.heap:=fun a o' e=>by
  rw [Y5] at e
  cases z:a == f with
  | true=>
   rw [z] at e
   cases e
   rw [eq_of_beq z];exact I1.bk f o ho
  | false=>rw [z] at e;cases e
 have kp:XM [(f,o)] (.ref f)=true:=by
  obtain ⟨oc,od,da,sl⟩:=o
  cases Dj
  unfold XM;dsimp only;rw [Y5,beq_self_eq_true]
 exact YbN lP kp (xX (us:=[]) F hr hb .nil hx I1 .nil h)
def ma (qual:Str) (H:Hp) (ps:Array Value):Prop:=TriplesOk ps.toList/\∀ pos cv,codeAmong pos ps.toList=some cv->∃ c,cv=.ref c/\nB qual H c
def sL (qual:Str) (P:Addr) (H H1:Hp):Prop:=(∀ b o,H b=some o->b≠P->H1 b=some o)/\∃ ps,H1 P=some (.cM ps)/\ma qual H1 ps
theorem Ztw {pos:Pos} {a b:Int} {c cv:Value}:∀ (l:List Value),TriplesOk l->codeAmong pos (l++[X7 a,X7 b,c])=some cv->codeAmong pos l=some cv∨cv=c:=by
 intro l
 induction l using TriplesOk.induct with
 | case1=>
  intro _ h
  right
  have h:codeAmong pos [Value.int a 0,Value.int b 0,c]=some cv:=h;rw [codeAmong.eq_1] at h
  split at h
  ·cases h;rfl
  ·rw [codeAmong.eq_2 _ _ (by intro _ _ _ _ _ _ z;cases z)] at h;cases h
 | case2 i t j t2 hd rest ih=>
  intro ht h;rw [TriplesOk.eq_2] at ht;rw [Yal,Yal,Yal,codeAmong.eq_1] at h;rw [codeAmong.eq_1]
  split at h
  ·rename_i z;rw [if_pos z];exact .inl h
  ·rename_i z;rw [if_neg z];exact ih ht h
 | case3 t h1 h2=>
  intro ht _;rw [TriplesOk.eq_3 t h1 h2] at ht;exact ht.elim
theorem nB.mono {qual:Str} {H H1:Hp} {c:Addr} (k:∀ b o u,H b=some (.bt o u)->H1 b=some (.bt o u)):nB qual H c->nB qual H1 c | ⟨oc,vs,t,h,r⟩=>⟨oc,vs,t,k _ _ _ h,r⟩
theorem ma.mono {qual:Str} {H H1:Hp} {ps:Array Value} (k:∀ b o u,H b=some (.bt o u)->H1 b=some (.bt o u)) (h:ma qual H ps):ma qual H1 ps:=⟨h.1,fun pos cv e=>let ⟨c,e1,e2⟩:=h.2 pos cv e;⟨c,e1,e2.mono k⟩⟩
section
variable {X:Cx} {pins:List (Addr×Obj)} {σ:St} {H:Hp} {s:Shared} {h':Heap}
theorem Inv.uh {P c:Addr} {ps more:Array Value} {oc:Obj} {t':Nat} (I:Inv X pins σ H s) (hP:H P=some (.cM ps)) (k:∀ b o,b≠P->s.heap.get? b=some o->h'.get? b=some o)
  (hp:h'.get? P=some (PySem.W.tabObj (ps++more))) (hc:s.heap.objs.size<=c) (xi:h'.get? c=some oc):Inv X pins σ (upd (upd H P (.cM (ps++more))) c (.bt oc (.ext fun _=>True))) {s with heap:=h',toks:=t'}:=by
 have lt:∀ b u,H b=some u->b≠c:=fun b u e z=>absurd (Yq (I.aj.lt e) hc) (by rw [z];exact YN _);have lt2:∀ b o,s.heap.get? b=some o->b≠c:=fun b o e z=>absurd (Yq (Yj e) hc) (by rw [z];exact YN _);have nP:∀ b,H b=none->b≠P:=fun b e z=>by rw [z,hP] at e;cases e
 have pX:∀ b u,H b=some u->b≠P->upd (upd H P (.cM (ps++more))) c (.bt oc (.ext fun _=>True)) b=some u:=fun b u e z=>by rw [Zf (lt b u e),Zf z];exact e
 refine I.step (g':=s.gens) (d':=s.drawn) (ch:=[]) (fun _ z=>nomatch z) (fun b o _ _ _ e n=>k b o (nP b n) e) (fun b o _ _ _ e n=>⟨o.slots,k b o (nP b n) e⟩) (fun b o _ e n=>?_) (fun b o _ e=>?_) (fun b xs e=>pX b _ e ?_) (fun b o u e=>pX b _ e ?_) (fun b qs e=>?_) (fun m hm=>?_) (fun b u e=>?_) I.bare
 ·rw [Zf (lt2 b o e),Zf (nP b n)];exact n
 ·by_cases z:b=P
  ·rw [z];exact ⟨_,hp⟩
  ·exact ⟨o,k b o z e⟩
 ·intro z;rw [z,hP] at e;cases e
 ·intro z;rw [z,hP] at e;cases e
 ·by_cases z:b=P
  ·rw [z,hP] at e
   cases e
   exact ⟨more,by rw [z,Zf (lt P _ hP),Zb]⟩
  ·exact ⟨#[],by rw [pX b _ e z];simp⟩
 ·obtain ⟨o,es,ep,ho,r⟩:=hm;exact ⟨o,es,ep,k _ o (nP _ I.free) ho,r⟩
 ·by_cases z:b=c
  ·subst z;rw [Zb] at e
   cases e
   exact ⟨xi,trivial,⟨oc,xi⟩,fun _ _ _ _=>trivial⟩
  ·rw [Zf z] at e
   by_cases y:b=P
   ·subst y;rw [Zb] at e
    cases e
    exact hp
   ·rw [Zf y] at e;refine (I.aj b u e).c9 (fun d v hd q=>k d v ?_ q) (fun d q=>pX d _ q ?_) (fun d xs q=>pX d _ q ?_)
    ·rcases hd with rfl | hd
     ·exact y
     ·intro w;rw [w,hP] at hd;cases hd
    ·intro w;rw [w,hP] at q;cases q
    ·intro w;rw [w,hP] at q;cases q
end
theorem Zqg {h base jc:Heap}:∀ {l:List Env},h.FunFrames base l->(∀ b∈bL l,jc.get? b=none)->h.FunFrames jc l
 | [],_,_=>trivial
 | env::r,hl,hn=>by
  obtain ⟨hk,⟨L,o,hf,rM,ho,hd⟩,hr⟩:=hl;exact ⟨hk,⟨L,o,hf,hn L (by unfold bL;rw [Xw,hf];exact YA),ho,hd⟩,Zqg hr fun b hb=>hn b (by unfold bL;rw [Xw,hf];exact Yr _ hb)⟩
def Bm (mg:Str->Option Value) (base:Heap):Prop:=∃ bm o,mg "__builtins__"=some (.ref bm)/\bm≠builtinsNs/\base.get? bm=some o/\o.cls=.type "module"/\o.dict=some builtinsNs/\o.data=.plain
def JX (spT:Heap->Sp) (E:St->XK) (P:Addr) (qual:Str) (params:Arguments) (body:Expr) (scope:Scope) (fv:List Str) (ix:List Nat):TE:=fun σ H Q=>∃ ps vs,H P=some (.cM ps)/\ma qual H ps/\(ix.map fun i=>(σ[i]?).getD none)=vs.map some/\
 ∀ base f c cl pm gT H1,sL qual P H H1->nB qual H1 c->base.get? f=some (W6 "<lambda>" qual params body scope cl pm c gT)->wq base cl fv vs->spT base [.ref f] H1 Q (E σ)
theorem A1 {X:Cx} {CX:iS} {x rn:Str} {p pos kR:Pos} {ft c P:Addr} {fdt:Yl} {spT:Heap->Sp} {kt:Nat} {E:St->XK} {params:Arguments} {body:Expr} {scope:Scope} {fv:List Str} {ix:List Nat}
  (F:∀ base:Heap,ah X.prog X.w X.K X.mg base CX kt ft fdt [rn] (spT base)) (hr:aW kt X.A) (hg:Gl X x) (hm:X.mg x=some (.ref ft)) (hk:XM X.K (.ref ft)=true) (hb:ZF X.K fdt [rn] []) (hx:j_ CX X E)
  (hc:X.env.code=.ref c) (gx:PySem.W.CodeHd X.base c P) (Du:Bm X.mg X.base) (S:nD X scope [] fv ix) (L:Bs scope fv) (xp:∀ y,X.fn y=true) (rO:defaultsOf params X.env=([],[])) (jA:(x == ("__debug__":Str))=false:=by decide) :
  PE X (.Call (.Name x p) [.Lambda params body scope kR] [] pos) (JX spT E P (X.env.qual++"<lambda>") params body scope fv ix):=by
 unfold PE
 rintro pins s σ H Q I ⟨ps,vs,hP,hT,hvs,q⟩
 obtain ⟨cl,g0,cE,fR⟩:=Gq (scope:=scope) (env:=X.env) (S.cells I.ok);have kE:∀ {b:Addr} {m:Str->Option Value} {jc:Heap},(∀ b o,X.base.get? b=some o->jc.get? b=some o)->X.base.Ns b m->jc.Ns b m:=fun k ⟨o,es,ep,e,r⟩=>⟨o,es,ep,k _ _ e,r⟩
 have fin:∀ (f c:Addr) (gT:Value) (s1:Shared) (H1:Hp),Inv X pins σ H1 s1->s1.heap.get? f=some (W6 "<lambda>" (X.env.qual++"<lambda>") params body scope cl ((X.mg "__name__").getD .none) c gT)->s.heap.objs.size<=f->H1 f=none->sL (X.env.qual++"<lambda>") P H H1->nB (X.env.qual++"<lambda>") H1 c->
   wpAny (model X.prog X.w) X.A (spliced []) (fun us s2=>X.K.In s2.heap/\wpAny (model X.prog X.w) X.A (call (.ref ft) ([]++(.ref f::us))) (EP X pins σ Q) X.xe s2) X.xe s1:=by
  intro f c gT s1 H1 I1 hf hsz KR zS ja;refine WJ ⟨I1.cf,?_⟩
  let kp:Addr->Bool:=fun b=>(X.base.get? b).isSome || decide (b=f) || fv.any fun y=>cl.lookup y == some b
  let Hs:Hp:=fun b=>if kp b=true then none else some (.own 0)
  have ph:∀ b o,kp b=true->s1.heap.get? b=some o->(ck s1.heap Hs).get? b=some o:=fun b o z e=>Zsd e (if_pos z)
  have qQ:∀ b o,(ck s1.heap Hs).get? b=some o->s1.heap.get? b=some o/\kp b=true:=fun b o e=>by
   obtain ⟨e1,e2⟩:=Zut e;refine ⟨e1,?_⟩
   by_cases z:kp b=true
   ·exact z
   ·have e2:(if kp b=true then none else some (HO.own 0))=none:=e2;rw [if_neg z] at e2;cases e2
  have kr:∀ b o,X.base.get? b=some o->(ck s1.heap Hs).get? b=some o:=fun b o e=>ph b o (by show ((X.base.get? b).isSome || _ || _)=true;rw [e];rfl) (I1.bk b o e);have kf:kp f=true:=by show (_ || decide (f=f) || _)=true;rw [decide_eq_true rfl,WX];rfl
  have kc:∀ y c,y∈fv->cl.lookup y=some c->kp c=true:=fun y c hy e=>by
   show (_ || _ || fv.any fun y=>cl.lookup y == some c)=true;rw [List.any_eq_true.mpr ⟨y,hy,by rw [e];exact beq_self_eq_true _⟩,WX]
  have of:∀ b,kp b=true->(∃ o,X.base.get? b=some o)∨b=f∨∃ y,X.env.cells.lookup y=some b:=fun b z=>by
   have z:((X.base.get? b).isSome || decide (b=f) || fv.any fun y=>cl.lookup y == some b)=true:=z;rw [Xz,Xz] at z;rcases z with (z | z) | z
   ·exact .inl (Option.isSome_iff_exists.mp z)
   ·exact .inr (.inl (of_decide_eq_true z))
   ·obtain ⟨y,_,e⟩:=List.any_eq_true.mp z;exact .inr (.inr ⟨y,(cE y b (eq_of_beq e)).1⟩)
  have tH:∀ b∈bL X.stack,(ck s1.heap Hs).get? b=none:=fun b hb=>by
   cases e:(ck s1.heap Hs).get? b with
   | none=>rfl
   | some o=>
    exfalso
    obtain ⟨e1,e2⟩:=qQ b o e;rcases of b e2 with ⟨o',z⟩ | z | ⟨y,z⟩
    ·have:=(I1.stack.mem hb).1
     rw [z] at this;cases this
    ·obtain ⟨_,o',dP,_⟩:=I.stack.mem hb;exact absurd (Yq (Yj dP) hsz) (by rw [z];exact YN _)
    ·rcases List.mem_cons.mp (I1.bV b hb) with w | w
     ·exact I1.l_ y b z w
     ·obtain ⟨_,o',dP,_⟩:=I1.ok.bI.mem w;exact absurd (Yq (Yj dP) (I1.ok.ng y b (xp y) z)) (YN _)
  have KL:Mod X.K X.mg (ck s1.heap Hs):=⟨I1.ok.mod.lP.keeps kr,kE kr I1.ok.mod.glob,let ⟨mb,h1,h2⟩:=I1.ok.mod.blt;⟨mb,kE kr h1,h2⟩,I1.ok.mod.nolimit.keeps kr⟩
  have e0:ik X.prog X.w X.K X.mg (ck s1.heap Hs) X.A X.stack s1 H1:=⟨I1.ok.frames,KL,fun b o e=>by
   obtain ⟨e1,e2⟩:=qQ b o e;refine ⟨e1,?_⟩;rcases of b e2 with ⟨o',z⟩ | z | ⟨y,z⟩
   ·exact (I1.bs b o' z).2
   ·rw [z];exact KR
   ·exact I1.bf y b z,WW (Zp8 _ _),Zqg I1.stack tH,I1.cq,I1.aj,I1.bare⟩
  have KU:wq (ck s1.heap Hs) cl fv vs:=by
   have mem:∀ y,y∈fv->(y,YG)∈scope.names:=fun y hy=>GB (L.lk y hy);refine ⟨fun y hy=>fR y (mem y hy),fun y z c h1 h2=>I1.ok.inj y z c (cE y c h1).1 (cE z c h2).1,fun y c h=>?_,fun j y v h1 h2=>?_,?_⟩
   ·obtain ⟨v,o,ho,hd⟩:=I1.cell y c (cE y c h).1;exact ⟨v,o,ph c o (kc y c (L.all _ (cE y c h).2) h) ho,hd⟩
   ·obtain ⟨i,hi,hN⟩:=S.slots j y h1
    have e2:σ[i]?=some (some v):=by
     have z:=congrArg (fun l=>l[j]?) hvs
     simp only [Yo] at z
     rw [hi,h2] at z;exact Zqd (YB z)
    have hy:y∈fv:=Yy h1;have xm:=S.outer _ (mem y hy) rfl;obtain ⟨m0,rM,rN⟩:=I1.loc;obtain ⟨u,r,l⟩:=rN i y v hN e2 (xm.elim (fun z=>.inr (.inl z)) fun z=>.inr (.inr z));rcases l with ⟨k,_⟩ | ⟨_,d,ed,o,ho,hd⟩
    ·have k':X.env.kindOf y=some .local:=k;rcases xm with q | q <;> (rw [q] at k';cases k')
    ·obtain ⟨c',kI⟩:=fR y (mem y hy);have xK:=(cE y c' kI).1;rw [ed] at xK
     cases xK
     exact ⟨d,u,kI,⟨o,ph d o (kc y d hy kI) ho,hd⟩,r⟩
   ·have z:=congrArg List.length hvs;rw [Yb,Yb,S.len] at z;exact z.symm
  refine wpAny_call (YaA ((F (ck s1.heap Hs)).run X.A X.stack s1 H1 ⟨[.ref f],[]⟩ [.ref f] [.ref f] Q (E σ) hr e0 (hb s1 [.ref f] I1.cf rfl) (.cons rfl .nil) (q _ f c cl _ gT H1 zS ja (ph f _ kf hf) KU)) fun r s' hq=>?_)
  cases r with
  | error e=>exact hx pins σ H1 s1 e s' I1 hq
  | ok fl=>
   cases fl with
   | ret u=>exact I1.after hq
   | next=>exact Xa hq
   | brk=>exact Xa hq
   | cont=>exact Xa hq
 have zw:PySem.W.CodeHd s.heap c P:=gx.keeps I.bk;have xC:s.heap.get? P=some (PySem.W.tabObj ps):=I.aj P _ hP;have pb:s.heap.Ns Xj X.mg:=kE I.bk I.ok.mod.glob
 have nP:Xj≠P:=fun z=>by
  obtain ⟨o,es,ep,e,d,_⟩:=pb;rw [z,xC] at e;cases e;cases d
 have AB:s.heap.BuiltinsAt X.mg P:=by
  obtain ⟨bm,o,h1,h2,h3,h4,h5,h6⟩:=Du;have uW:=I.bk bm o h3;refine ⟨bm,o,h1,h2,fun z=>?_,fun z=>?_,uW,h4,h5,h6⟩
  ·obtain ⟨o',es,ep,e,d,_⟩:=pb;rw [<- z,uW] at e;cases e;rw [h6] at d;cases d
  ·rw [z,xC] at uW;cases uW;cases h6
 refine XC (qi I hg hm ?_ jA);refine W9 (h₀:=X.base) I.ok.mod.lP hk ?_ rfl rfl;show wpAny _ _ (spliced ((false,eval (.Lambda params body scope kR) X.env)::[])) _ _ s;refine XD (PySem.W.kla_eval rO ?_)
 cases Dt:codeAmong kR ps.toList with
 | some cv=>
  obtain ⟨c',rfl,AA⟩:=hT.2 kR cv Dt;refine PySem.W.kla_makeFunctionHit g0 I.ok.glob pb hc zw xC hT.1 Dt AB fun gT h' tk k hsz=>?_;refine fin h'.objs.size c' gT _ H (I.kept fun b o e=>Yc _ (k b o e)) (Yi _ rfl) hsz (I.aj.fresh hsz) ⟨fun b o e _=>e,ps,hP,hT⟩ AA
 | none=>
  refine PySem.W.kla_makeFunction g0 I.ok.glob pb hc zw xC hT.1 Dt nP AB fun c' gT h' tk C7 h1 h2 h3 h4=>?_;obtain ⟨cc,oc,fs,t,e1,e2,e3,e4⟩:=h3
  cases e1
  have sz:s.heap.objs.size<=h'.objs.size:=Yk h1 (WV h2);have ltP:P < s.heap.objs.size:=Yj xC;refine fin h'.objs.size c' gT _ _ (I.uh (h':=h'.push _) hP (fun b o n e=>Yc _ (C7 b o n e)) (Yc _ h4) h1 (Yc _ e2)) (Yi _ rfl) sz ?_ ?_ ?_
  ·rw [Zf (WB h2),Zf (WB (Yq ltP sz))];exact I.aj.fresh sz
  ·have pX:∀ b o,H b=some o->b≠P->upd (upd H P (.cM (ps++#[X7 kR.line,X7 kR.col,.ref c']))) c' (.bt oc (.ext fun _=>True)) b=some o:=fun b o e n=>by
    rw [Zf (Yu (Yq (I.aj.lt e) h1)),Zf n];exact e
   refine ⟨pX,_,by rw [Zf (Yu (Yq ltP h1)),Zb],?_,fun pos' cv e=>?_⟩
   ·rw [Array.toList_append];exact TriplesOk_snoc _ _ _ _ hT.1
   ·rw [Array.toList_append] at e;rcases Ztw _ hT.1 e with z | z
    ·obtain ⟨d,z1,z2⟩:=hT.2 pos' cv z;exact ⟨d,z1,z2.mono fun b o u e=>pX b _ e fun w=>by rw [w,hP] at e;cases e⟩
    ·exact ⟨c',z,oc,fs,t,Zb,e3,e4⟩
  ·exact ⟨oc,fs,t,Zb,e3,e4⟩
end L2
namespace L2
open PySem PySem.Spec PyProof.Rows PySem.W
theorem vQ {α β:Type} (lt:Nat->Nat->Bool) (f:α->KasT β):∀ t:KasT α,ZB lt (t.bind f)=ZB lt (f (ZB lt t))
 | .ret _=>rfl
 | .ask i j k=>vQ lt f (k (lt i j))
structure Ord (n:Nat) (lt:Nat->Nat->Bool):Prop where
 tr:∀ i j k,i < n->j < n->k < n->lt i j=true->lt j k=true->lt i k=true
 ap:∀ i j,i < n->j < n->i≠j->lt i j=!lt j i
def Up (lt:Nat->Nat->Bool) (p:Array Nat) (m:Nat):Prop:=∀ i j,i < j->j < m->lt (p.getD i 0) (p.getD j 0)=true
def Dn (lt:Nat->Nat->Bool) (p:Array Nat) (m:Nat):Prop:=∀ i j,i < j->j < m->lt (p.getD j 0) (p.getD i 0)=true
theorem bM.size {n:Nat} {p:Array Nat} (h:bM n p):p.size=n:=by
 have:=Array.Perm.size_eq h
 simpa using this
theorem bM.ne {n:Nat} {p:Array Nat} (h:bM n p) {i j:Nat} (hi:i < n) (hj:j < n) (e:i≠j):p.getD i 0≠p.getD j 0:=by
 have hs:=h.size
 have nd:p.toList.Nodup:=by
  have h2:p.toList.Perm (List.range n):=by simpa using h.toList
  exact h2.nodup_iff.mpr List.nodup_range
 intro z;rw [YE,YE,YI (by omega),YI (by omega),YD,YD] at z;rw [<- Yaq,<- Yaq] at z;exact e ((Ybf nd).mp z)
section
variable {n:Nat} {lt:Nat->Nat->Bool} (O:Ord n lt) (hn:0 < n)
include O hn
theorem Ord.flip {p:Array Nat} (h:bM n p) {i j:Nat} (hi:i < n) (hj:j < n) (e:i≠j) (c:lt (p.getD i 0) (p.getD j 0)=false):lt (p.getD j 0) (p.getD i 0)=true:=by
 rw [O.ap _ _ (h.at hn j) (h.at hn i) (h.ne hj hi (WN e)),c];rfl
theorem Up.next {p:Array Nat} (h:bM n p) {x:Nat} (h1:1<=x) (hx:x < n) (u:Up lt p x) (c:lt (p.getD (x - 1) 0) (p.getD x 0)=true):Up lt p (x + 1):=by
 intro i j oh hj
 by_cases z:j=x
 ·subst z
  by_cases y:i=j - 1
  ·rw [y];exact c
  ·exact O.tr _ _ _ (h.at hn _) (h.at hn _) (h.at hn _) (u i (j - 1) (by omega) (by omega)) c
 ·exact u i j oh (by omega)
theorem Ew {p:Array Nat} (h:bM n p):∀ (f x:Nat),1<=x->x + f<=n->Up lt p x->x<=ZB lt (Wj p f x)/\ZB lt (Wj p f x)<=x + f/\Up lt p (ZB lt (Wj p f x))/\(ZB lt (Wj p f x) < x + f->lt (p.getD (ZB lt (Wj p f x)) 0) (p.getD (ZB lt (Wj p f x) - 1) 0)=true)
 | 0,x,_,_,u=>⟨Ye _,Ye _,u,fun z=>absurd z (YN _)⟩
 | f + 1,x,h1,hf,u=>by
  rw [show Wj p (f + 1) x=_ from kas_asc.eq_2 p x f];show x<=ZB lt ((fun c=>if c=true then Yav x else Wj p f (x + 1)) (lt (p.getD x 0) (p.getD (x - 1) 0)))/\_;show x<=ZB lt ((fun c=>if c=true then Yav x else Wj p f (x + 1)) (lt (p.getD x 0) (p.getD (x - 1) 0)))/\ZB lt ((fun c=>if c=true then Yav x else Wj p f (x + 1)) (lt (p.getD x 0) (p.getD (x - 1) 0)))<=x + (f + 1)/\Up lt p (ZB lt ((fun c=>if c=true then Yav x else Wj p f (x + 1)) (lt (p.getD x 0) (p.getD (x - 1) 0))))/\(ZB lt ((fun c=>if c=true then Yav x else Wj p f (x + 1)) (lt (p.getD x 0) (p.getD (x - 1) 0))) < x + (f + 1)->lt (p.getD (ZB lt ((fun c=>if c=true then Yav x else Wj p f (x + 1)) (lt (p.getD x 0) (p.getD (x - 1) 0)))) 0) (p.getD (ZB lt ((fun c=>if c=true then Yav x else Wj p f (x + 1)) (lt (p.getD x 0) (p.getD (x - 1) 0))) - 1) 0)=true)
  cases c:lt (p.getD x 0) (p.getD (x - 1) 0) with
  | true=>exact ⟨Ye _,WS _ _,u,fun _=>c⟩
  | false=>
   obtain ⟨a1,a2,a3,a4⟩:=Ew h f (x + 1) (by omega) (by omega) (Up.next O hn h h1 (by omega) u (O.flip hn h (by omega) (by omega) (by omega) c));exact ⟨Yk (Wz x) a1,by show ZB lt (Wj p f (x + 1))<=_;omega,a3,fun z=>a4 (by have z:ZB lt (Wj p f (x + 1)) < x + (f + 1):=z;omega)⟩
theorem Zvc {p:Array Nat} (h:bM n p):∀ (f x:Nat),2<=x->x + f<=n->Dn lt p x->∃ m,ZB lt (Yat f p x 0)=(p,m,0)/\x<=m/\m<=n/\Dn lt p m
 | 0,x,_,hf,u=>⟨x,rfl,Ye _,hf,u⟩
 | f + 1,x,h1,hf,u=>by
  rw [show Yat (f + 1) p x 0=_ from kas_desc.eq_2 p x 0 f];show ∃ m,ZB lt ((fun c=>if c=true then (if 0 > 0 then Yat f (kas_rev p (x - (0 + 1)) x) (x + 1) 0 else Yat f p (x + 1) 0) else KasT.ask (p.getD (x - 1) 0) (p.getD x 0) fun d=>if d=true then Yav (p,x,0) else Yat f p (x + 1) (0 + 1)) (lt (p.getD x 0) (p.getD (x - 1) 0)))=(p,m,0)/\_
  cases c:lt (p.getD x 0) (p.getD (x - 1) 0) with
  | true=>
   have d2:Dn lt p (x + 1):=by
    intro i j oh hj
    by_cases z:j=x
    ·subst z
     by_cases y:i=j - 1
     ·rw [y];exact c
     ·exact O.tr _ _ _ (h.at hn _) (h.at hn _) (h.at hn _) c (u i (j - 1) (by omega) (by omega))
    ·exact u i j oh (by omega)
   obtain ⟨m,e,m1,m2,m3⟩:=Zvc h f (x + 1) (by omega) (by omega) d2;exact ⟨m,e,by omega,m2,m3⟩
  | false=>
   have c2:=O.flip hn h (by omega) (by omega) (by omega) c;refine ⟨x,?_,Ye _,by omega,u⟩;show ZB lt ((fun d=>if d=true then Yav (p,x,0) else Yat f p (x + 1) (0 + 1)) (lt (p.getD (x - 1) 0) (p.getD x 0)))=_;rw [c2];rfl
omit O hn in
theorem ZwV {p:Array Nat} {m k:Nat} (hm:m<=p.size) (hk:k < m):(kas_rev p 0 m).getD k 0=p.getD (m - 1 - k) 0:=by
 unfold kas_rev;rw [YE,getElem?_mirror_all hm,if_pos ⟨Yv _,hk⟩,YE,show 0 + m - 1 - k=m - 1 - k by omega]
theorem ZvA {p:Array Nat} (h:bM n p) {m:Nat} (h1:1<=m) (hm:m<=n) (d:Dn lt p m):∃ r,ZB lt (kas_tail3 m n p)=r/\Up lt r.2 r.1/\1<=r.1/\r.1<=n:=by
 refine ⟨_,rfl,?_⟩;unfold kas_tail3;rw [vQ]
 have u:Up lt (kas_rev p 0 m) m:=by
  intro i j oh hj;rw [ZwV (by rw [h.size];exact hm) (by omega),ZwV (by rw [h.size];exact hm) hj];exact d _ _ (by omega) (by omega)
 obtain ⟨a1,a2,a3,_⟩:=Ew O hn (h.rev 0 m) (n - m) m h1 (by omega) u;exact ⟨a3,Yk h1 a1,by show ZB lt (Wj (kas_rev p 0 m) (n - m) m)<=n;omega⟩
theorem ZvB {p:Array Nat} (h:bM n p) (h2:2<=n):∃ r,ZB lt (kas_count n p)=r/\Up lt r.2 r.1/\1<=r.1/\r.1<=n:=by
 have u1:Up lt p 1:=fun i j a b=>by omega
 obtain ⟨a1,a2,a3,a4⟩:=Ew O hn h (n - 1) 1 (Ye _) (by omega) u1;unfold kas_count;rw [vQ];generalize ZB lt (Wj p (n - 1) 1)=m at a1 a2 a3 a4 ⊢
 by_cases z:m=n
 ·rw [if_pos (by rw [z];exact beq_self_eq_true _)];exact ⟨_,rfl,a3,a1,by show m<=n;omega⟩
 ·rw [if_neg (by intro e;exact z (eq_of_beq e))]
  by_cases y:m > 1
  ·rw [if_pos y];have c:=a3 0 (m - 1) (by omega) (by omega);show ∃ r,ZB lt ((fun c=>if c=true then Yav (m,p) else kas_descPart m n (kas_rev p 0 m)) (lt (p.getD 0 0) (p.getD (m - 1) 0)))=r/\_;rw [c];exact ⟨_,rfl,a3,a1,by show m<=n;omega⟩
  ·rw [if_neg y];have m1:m=1:=by omega
   subst m1;unfold kas_descPart;rw [vQ]
   have d2:Dn lt p 2:=by
    intro i j oh hj
    have:i=0/\j=1:=by omega
    rw [this.1,this.2];exact a4 (by omega)
   obtain ⟨k,e,k1,k2,k3⟩:=Zvc O hn h (n - (1 + 1)) 2 (Ye _) (by omega) d2;have e:ZB lt (Yat (n - (1 + 1)) p (1 + 1) 0)=(p,k,0):=e;rw [e];show ∃ r,ZB lt (if 0 > 0 then _ else kas_tail3 k n p)=r/\_;rw [if_neg (by decide)];exact ZvA O hn h (by omega) k2 k3
theorem E5 {p:Array Nat} (h:bM n p) {k:Nat} (hk:k < n) (u:Up lt p k):∀ (f l r:Nat),l<=r->r<=k->r - l<=f->(∀ i,i < l->lt (p.getD i 0) (p.getD k 0)=true)->(∀ i,r<=i->i < k->lt (p.getD k 0) (p.getD i 0)=true)->
  ∃ m,ZB lt (kas_place p k f l r)=m/\m<=k/\(∀ i,i < m->lt (p.getD i 0) (p.getD k 0)=true)/\(∀ i,m<=i->i < k->lt (p.getD k 0) (p.getD i 0)=true)
 | 0,l,r,h1,h2,h3,a,b=>⟨l,rfl,by omega,a,fun i h4 h5=>b i (by omega) h5⟩
 | f + 1,l,r,h1,h2,h3,a,b=>by
  rw [show kas_place p k (f + 1) l r=_ from kas_place.eq_2 p k l r f]
  by_cases z:l >= r
  ·rw [if_pos z];exact ⟨l,rfl,by omega,a,fun i h4 h5=>b i (by omega) h5⟩
  ·rw [if_neg z];show ∃ m,ZB lt ((fun c=>if c=true then kas_place p k f l ((l + r) / 2) else kas_place p k f ((l + r) / 2 + 1) r) (lt (p.getD k 0) (p.getD ((l + r) / 2) 0)))=m/\_;have q1:(l + r) / 2 < r:=by omega
   have q2:l<=(l + r) / 2:=by omega
   generalize (l + r) / 2=q at q1 q2 ⊢
   cases c:lt (p.getD k 0) (p.getD q 0) with
   | true=>
    refine E5 h hk u f l q q2 (by omega) (by omega) a fun i h4 h5=>?_
    by_cases y:i=q
    ·rw [y];exact c
    ·exact O.tr _ _ _ (h.at hn _) (h.at hn _) (h.at hn _) c (u q i (by omega) h5)
   | false=>
    have c2:=O.flip hn h hk (by omega) (by omega) c;refine E5 h hk u f (q + 1) r (by omega) h2 (by omega) (fun i h4=>?_) b
    by_cases y:i=q
    ·rw [y];exact c2
    ·exact O.tr _ _ _ (h.at hn _) (h.at hn _) (h.at hn _) (u i q (by omega) (by omega)) c2
theorem ZwO:∀ (f:Nat) {p:Array Nat} (k:Nat),bM n p->k + f=n->Up lt p k->Up lt (ZB lt (kas_bin f p k)) n
 | 0,p,k,h,e,u=>by rw [<- e];exact u
 | f + 1,p,k,h,e,u=>by
  rw [show kas_bin (f + 1) p k=_ from kas_bin.eq_2 p k f,vQ];obtain ⟨m,em,m1,m2,m3⟩:=E5 O hn h (k:=k) (by omega) u k 0 k (Yv _) (Ye _) (by omega) (fun i z=>by omega) (fun i z y=>by omega);rw [em];refine ZwO f (k + 1) (h.bub _ _) (by omega) fun i j oh hj=>?_;have hs:=h.size
  have at':∀ i,(bubble p k (k - m)).getD i 0=if i=m then p.getD k 0 else if m < i/\i<=k then p.getD (i - 1) 0 else p.getD i 0:=fun i=>by
   rw [YE,getElem?_bubble (by omega) _ (by omega),show k - (k - m)=m by omega]
   split
   ·rw [YE]
   ·split <;> rw [YE]
  rw [at',at']
  by_cases i1:i=m
  ·rw [if_pos i1,if_neg (by omega),if_pos (by omega)];exact m3 (j - 1) (by omega) (by omega)
  ·rw [if_neg i1]
   by_cases i2:m < i/\i<=k
   ·rw [if_pos i2,if_neg (by omega),if_pos (by omega)];exact u _ _ (by omega) (by omega)
   ·rw [if_neg i2]
    by_cases j1:j=m
    ·rw [if_pos j1];exact m2 i (by omega)
    ·rw [if_neg j1]
     by_cases j2:m < j/\j<=k
     ·rw [if_pos j2];exact u _ _ (by omega) (by omega)
     ·rw [if_neg j2];exact u _ _ oh (by omega)
theorem Zxn (h2:2<=n):Up lt (ZB lt (XQ n)) n:=by
 have h:bM n (Yag (List.range n)):=Array.Perm.refl _;obtain ⟨r,e,r1,r2,r3⟩:=ZvB O hn h h2;have lr:bM n r.2:=by rw [<- e];exact qE lt (Znw hn h n)
 unfold XQ;rw [vQ,e]
 by_cases z:r.1 < n
 ·rw [if_pos z,Nat.max_eq_left r2];exact ZwO O hn _ _ lr (by omega) r1
 ·rw [if_neg z];intro i j a b;exact r1 i j a (by omega)
end
end L2
namespace L2
open PySem PySem.Spec PyProof.Rows
structure BT (names:List Str) (K:Yg) (mg:Str->Option Value) (base:Heap):Prop where
 bm:Bm mg base
 cd:∀ x∈names,∀ c P,Xn K x=some (c,P)->PySem.W.CodeHd base c P
theorem ZuP {P:Program} {w:World} {K:Yg} {mg mb:Str->Option Value} {CX:iS} {k:Nat} {fa a:Addr} {fd:Yl} {x:Str} {sp:Sp} {aD:Shared} {vs:List Value} {ns:List Int} {names:List Str}
  (KX:K.In aD.heap) (kE:aD.heap.Ns Xj mg) (hb:aD.heap.Ns builtinsNs mb) (hbb:∀ x:Str,x≠"__name__"->mb x=YaC x) (KO:aD.heap.NoLimit) (hg:aD.gens=#[]) (Du:Bm mg aD.heap)
  (ht:∀ x∈names,∃ c T,Xn K x=some (c,T)/\K.lookup T=none/\PySem.W.CodeHd aD.heap c T/\aD.heap.get? T=some (PySem.W.tabObj #[]))
  (ha:aD.heap.get? a=some {cls:=.type "list",data:=.seq vs.toArray}) (hi:IntsAre vs ns) (hl:ns.length<=Ym) (hr:aW k callerA)
  (F:∀ base:Heap,K.In base->base.Ns Xj mg->BT names K mg base->ah P w K mg base CX k fa fd [x] sp) (zX:∀ (s:Shared) (u:Value),BindsTo s fd ⟨[u],[]⟩ [(x,u)])
  (eM:∀ H:Hp,ar K H a (ns.map V.int)->(∀ x∈names,∀ c T,Xn K x=some (c,T)->H T=some (.cM #[]))->sp [.ref a] H (fun v _=>v=.bl true) fun _ _ _=>False)
  (DE:∀ H e s',CX [] H aD (fun _ _ _=>False) e s'->False) :
  Yas (model P w) callerA (.call (.ref fa) ⟨[.ref a],[]⟩) (fun r s'=>r=.ok (.ret (.bool true))/\OldK aD.heap s'.heap/\s'.os=aD.os/\AllBare s'.gens) aD:=by
 have rv:=Zo3 hi;have Kj:=hi.length
 let tb:Addr->Prop:=fun b=>∃ x∈names,∃ c,Xn K x=some (c,b)
 have uz:∀ b,tb b->K.lookup b=none/\aD.heap.get? b=some (PySem.W.tabObj #[])/\isCodeTable aD.heap b:=fun b ⟨x,hx,c,e⟩=>by
  obtain ⟨c',T,e1,e2,e3,e4⟩:=ht x hx;rw [e] at e1
  cases e1
  exact ⟨e2,e4,(e3.tab e4).isCodeTable⟩
 have aT:¬ tb a:=fun z=>by
  have:=(uz a z).2.1
  rw [ha] at this;cases this
 have core:∀ H:Hp,(∀ b,tb b->H b=some (.cM #[]))->(∀ b o,H b=some o->tb b∨(b=a/\∃ o' xs,o=.bt o' (.lst xs)))->ar K H a (ns.map V.int)->cC P w H aD.heap->(H a≠none->K.lookup a=none)->
   Yas (model P w) callerA (.call (.ref fa) ⟨[.ref a],[]⟩) (fun r s'=>r=.ok (.ret (.bool true))/\OldK aD.heap s'.heap/\s'.os=aD.os/\AllBare s'.gens) aD:=by
  intro H hT hO hS aj hK;have fw:∀ {b:Addr} {o:Obj},aD.heap.get? b=some o->H b=none->(ck aD.heap H).get? b=some o:=fun e n=>Zsd e n
  -- a gX JS is Ct a list nor a table is not tracked
  have CV:∀ {b:Addr} {o:Obj},aD.heap.get? b=some o->(∀ its n,o.data≠.seq its n)->(o.cls=.none->∀ ps,o.data≠.fields ps)->H b=none:=fun {b o} e h1 h2=>by
   cases q:H b with
   | none=>rfl
   | some u=>
    exfalso
    rcases hO b u q with z | ⟨z,_⟩
    ·have:=(uz b z).2.1
     rw [e] at this;cases this;exact h2 rfl #[] rfl
    ·rw [z,ha] at e;cases e;exact h1 _ _ rfl
  have noD:∀ {b:Addr} {o:Obj} {es:Array XG} {ep:Nat},aD.heap.get? b=some o->o.data=.dict es ep->H b=none:=fun e d=>CV e (fun _ _ z=>by rw [d] at z;cases z) (fun _ _ z=>by rw [d] at z;cases z);have Ae:∀ {b:Addr} {m:Str->Option Value},aD.heap.Ns b m->(ck aD.heap H).Ns b m:=fun {b m} ⟨o,es,ep,e,d,r⟩=>⟨o,es,ep,fw e (noD e d),d,r⟩
  have hKb:K.In (ck aD.heap H):=fun b o e=>fw (KX b o e) (by
   cases q:H b with
   | none=>rfl
   | some u=>
    exfalso
    rcases hO b u q with z | ⟨z,_⟩
    ·rw [(uz b z).1] at e;cases e
    ·rw [z] at e q;rw [hK (by rw [q];simp)] at e;cases e)
  have hM:Mod K mg (ck aD.heap H):=⟨hKb,Ae kE,⟨mb,Ae hb,hbb⟩,let ⟨mc,h1,h2⟩:=KO;⟨mc,Ae h1,h2⟩⟩
  have hB:BT names K mg (ck aD.heap H):=by
   refine ⟨?_,fun x hx c T e=>?_⟩
   ·obtain ⟨bm,o,h1,h2,h3,h4,h5,h6⟩:=Du;exact ⟨bm,o,h1,h2,fw h3 (CV h3 (fun _ _ z=>by rw [h6] at z;cases z) (fun _ _ z=>by rw [h6] at z;cases z)),h4,h5,h6⟩
   ·obtain ⟨c',T',e1,e2,⟨o,fs,fl,tf,fg,tg,inF,tx,tt,g1,g2,g3⟩,e4⟩:=ht x hx;rw [e] at e1
    cases e1
    exact ⟨o,fs,fl,tf,fg,tg,inF,tx,tt,fw g1 (CV g1 (fun _ _ z=>by rw [g3.1] at z;cases z) (fun z=>by rw [g2] at z;cases z)),g2,g3⟩
  have e0:ik P w K mg (ck aD.heap H) callerA [] aD H:=⟨rfl,hM,fun b o e=>Zut e,WW (Zp8 _ _),trivial,fun b hb=>absurd (show b∈([]:List Addr) from hb) (by simp),aj,.of_eq hg⟩
  refine YaA ((F _ hKb (Ae kE) hB).run callerA [] aD H ⟨[.ref a],[]⟩ [.ref a] [.ref a] _ _ hr e0 (zX aD (.ref a)) (.cons rfl .nil) (eM H hS fun x hx c T e=>hT T ⟨x,hx,c,e⟩)) fun r s' h=>?_
  cases r with
  | error e=>exact (DE H e s' h).elim
  | ok fl=>
   cases fl with
   | next=>exact Xa h
   | brk=>exact Xa h
   | cont=>exact Xa h
   | ret u=>
    obtain ⟨v,H',os,bare,un,zm,r',q⟩:=h;have q':v=.bl true:=q;subst q';obtain rfl:u=Value.bool true:=r';refine ⟨rfl,⟨fun b o e=>?_,fun b o e=>un.there b o e (by simp)⟩,os,bare⟩
    cases q:H b with
    | none=>exact .inl (un.keep b o e q (by intro z;exact absurd (show b∈([]:List Addr) from z) (by simp)) (by simp))
    | some u=>
     rcases hO b u q with z | ⟨rfl,o',xs,rfl⟩
     ·obtain ⟨_,t2,t3⟩:=uz b z;rw [e] at t2;cases t2;obtain ⟨more,z2⟩:=un.cj b #[] (hT b z);have z3:s'.heap.get? b=some {cls:=.none,data:=.fields (#[]++more)}:=zm b _ z2;exact .inr (.inl ⟨t3,rfl,#[],more,rfl,z3⟩)
     ·have z2:=un.bU b o' _ q;obtain ⟨e1,_⟩:=aj b _ q;obtain ⟨e2,_⟩:=zm b _ z2;rw [e] at e1;cases e1;exact .inl e2
 open Classical in
 cases hk:K.lookup a with
 | some o=>
  have e:=KX a o hk;rw [ha] at e
  cases e
  refine core (fun b=>if tb b then some (.cM #[]) else none) (fun b z=>if_pos z) (fun b o e=>?_) (.inr ⟨_,vs.toArray,_,hk,rfl,rfl,rfl,by rw [Yn,Kj];exact hl,by simpa using rv⟩) (fun b o e=>?_) (fun z=>absurd (if_neg aT) z)
  ·try dsimp only at e
   by_cases z:tb b
   ·exact .inl z
   ·rw [if_neg z] at e;cases e
  ·try dsimp only at e
   by_cases z:tb b
   ·rw [if_pos z] at e;cases e;exact (uz b z).2.1
   ·rw [if_neg z] at e;cases e
 | none=>
  refine core (fun b=>if tb b then some (.cM #[]) else if b=a then some (.bt {cls:=.type "list",data:=.seq vs.toArray} (.lst (ns.map V.int))) else none) (fun b z=>if_pos z) (fun b o e=>?_) (.inl (.inr ⟨{cls:=.type "list",data:=.seq vs.toArray},?_⟩)) (fun b o e=>?_) fun _=>hk
  ·try dsimp only at e
   by_cases z:tb b
   ·exact .inl z
   ·rw [if_neg z] at e
    by_cases y:b=a
    ·rw [if_pos y] at e;cases e;exact .inr ⟨y,_,_,rfl⟩
    ·rw [if_neg y] at e;cases e
  ·show (if tb a then _ else _)=_;rw [if_neg aT,if_pos rfl]
  ·try dsimp only at e
   by_cases z:tb b
   ·rw [if_pos z] at e;cases e;exact (uz b z).2.1
   ·rw [if_neg z] at e
    by_cases y:b=a
    ·rw [if_pos y] at e
     cases e
     subst y;exact ⟨ha,by rw [Yb];exact hl,vs,_,rv,ha⟩
    ·rw [if_neg y] at e;cases e
theorem Zyy {l:PySem.W.OpenLaw} {n k:Nat} {q:Program} {loose:List Str} {XP:(Str->Option Value)->Heap->Prop} {YP:World->Heap->Prop} {d:DefRec} {K:Params->Yg} {CX:World->iS} {sp:World->Sp} {x:Str} (names:List Str)
  (hn:l.most=some n) (Au:n<=Ym) (rO:d.params.defaults=[]) (hr:aW k callerA)
  (hY:∀ (w:World) (h:Heap),YP w h->(K w.params).In h) (hq:∀ x∈names,((recsOf q).find? fun e=>e.name == x).isSome=true)
  (F:∀ (w:World) (mg:Str->Option Value) (fa:Addr) (h:Heap),(K w.params).In h->h.Ns Xj mg->mg d.name=some (.ref fa)->
   (∀ x∈names,∃ c T,Xn (K w.params) x=some (c,T)/\(K w.params).lookup T=none)/\
   ∃ fd:Yl,(∀ (s:Shared) (u:Value),BindsTo s fd ⟨[u],[]⟩ [(x,u)])/\
    ∀ base:Heap,(K w.params).In base->base.Ns Xj mg->BT names (K w.params) mg base->ah l.prog w (K w.params) mg base (CX w) k fa fd [x] (sp w))
  (eM:∀ (w:World) (H:Hp) (a:Addr) (ns:List Int),ns.length<=n->ar (K w.params) H a (ns.map V.int)->(∀ x∈names,∀ c T,Xn (K w.params) x=some (c,T)->H T=some (.cM #[]))->sp w [.ref a] H (fun v _=>v=.bl true) fun _ _ _=>False)
  (DE:∀ (w:World) (H:Hp) (s:Shared) (e:Value) (s':Shared),CX w [] H s (fun _ _ _=>False) e s'->False) :
  PySem.W.WalkO q loose XP YP l.row.toRowW d [] (fun f vs=>PySem.call f vs):=by
 refine Att.jl hn rO fun w au aD mg mb fa o pm cd doc a vs ns G Y ho hd gx hmg tS hints hlen hg=>?_;have KX:=hY w _ Y;obtain ⟨ht,fd,hb,hF⟩:=F w mg fa _ KX G.T.g hmg;refine ZuP KX G.T.g G.T.b G.T.builtins G.T.nolimit hg G.T.bmain (fun x hx=>?_) tS hints (Yk hlen Au) hr hF hb (fun H hS hT=>eM w H a ns hlen hS hT) fun H e s'=>DE w H aD e s';obtain ⟨c,T,h1,h2⟩:=ht x hx;obtain ⟨d',xx⟩:=Option.isSome_iff_exists.mp (hq x hx);obtain ⟨h3,h4⟩:=PySem.W.tab_of G.T KX xx h1;exact ⟨c,T,h1,h2,h3,h4⟩
theorem Zvo {K:Yg} {x name qual:Str} {st:Stmt} {f c T:Addr} {fd:Yl} (hn:Ybo K Xj x=some (some (.ref f))) (F:aI K name qual st f fd) (ht:Xn K x=some (c,T)):fd.code=.ref c:=by
 obtain ⟨oc,od,kV,doc,pm,an,aq,ct,kA,_,lk,_⟩:=F.ex;unfold Xn at ht;rw [hn] at ht;dsimp only at ht;rw [show XO f K=_ from lk] at ht;dsimp only at ht
 split at ht
 ·rename_i c' hc
  split at ht
  ·split at ht
   ·cases ht;exact hc
   ·cases ht
  ·cases ht
 ·cases ht
theorem aI.okC {CX:iS} {P:Program} {w:World} {K:Yg} {mg:Str->Option Value} {base:Heap} {x qual:Str} {st:Stmt} {f:Addr} {fd:Yl} {N ps:List Str} {k:Nat} {sp:Sp} (F:aI K x qual st f fd) (S:Zp N ps (Zi st)) (len:∀ vs H Q E,sp vs H Q E->vs.length=ps.length)
  (b9:∀ (aq:Value) (A:Around) (outer:List Env) (s:Shared) (H:Hp) (vs:List V) (Q:VK) (E:XK),fd.code=aq->aW k (A.deeper (WO qual (Zi st) s.heap.objs.size f aq))->sp vs H Q E->
   ∃ t,eR (aZ CX P w K mg base N qual (Zi st) f aq A outer s H E) (kj st) t/\t {nx:=fun _ H'=>Q .aL H',rt:=Q} (bx N vs) H):ah P w K mg base CX (k + 1) f fd ps sp:=by
 obtain ⟨oc,od,kV,doc,pm,an,aq,ct,kA,rfl,lk,gx⟩:=F.ex;exact D_ lk gx S len fun A outer s H vs Q E hr eM=>b9 aq A outer s H vs Q E rfl hr eM
end L2
namespace L2
open PySem
theorem Zxf {K:Yg} {C:Addr} {d:ClassData} (h:PySem.W.clsIn K C=some d):(PySem.W.clsIn K C).isSome=true:=by rw [h];rfl
end L2
namespace L2
open PySem
theorem ZyD {K:Yg} {x:Str} {f c P:Addr} {oc a1:Value} {od a2:Option Addr} {sl a4:Array (Option Value)} {fd:Yl} {vs:Array Value} (h1:Ybo K Xj x=some (some (.ref f))) (h2:K.lookup f=some ⟨oc,od,.func fd,sl⟩) (h3:fd.code=.ref c) (h4:K.lookup c=some ⟨a1,a2,.fields vs,a4⟩) (h5:vs[11]?=some (.ref P)):Xn K x=some (c,P):=by
 unfold Xn;rw [h1];dsimp only;rw [show XO f K=_ from h2];dsimp only;rw [h3];dsimp only;rw [show XO c K=_ from h4];dsimp only;rw [h5]
end L2
namespace L2
open PySem
theorem ZAh {K:Yg} {C:Addr} {f:Str} (h:Xm K (.ref C) f=some none):eP K C f:=h
end L2
namespace L2
open PySem PyProof.Rows
theorem aI.Ke {P:Program} {w:World} {K:Yg} {mg:Str->Option Value} {base:Heap} {x qual:Str} {st:Stmt} {f:Addr} {fd:Yl} {N ps:List Str} {k:Nat} {sp:Sp} (F:aI K x qual st f fd) (S:Zp N ps (Zi st)) (len:∀ vs H Q E,sp vs H Q E->vs.length=ps.length)
  (b9:∀ (aq:Value) (A:Around) (outer:List Env) (s:Shared) (H:Hp) (vs:List V) (Q:VK) (E:XK),fd.code=aq->aW k (A.deeper (WO qual (Zi st) s.heap.objs.size f aq))->sp vs H Q E->
   ∃ t,eR (aZ my P w K mg base N qual (Zi st) f aq A outer s H E).lO (kj st) t/\t {nx:=fun _ H'=>Q .aL H',rt:=Q} (bx N vs) H):ah P w K mg base my (k + 1) f fd ps sp:=by
 obtain ⟨oc,od,kV,doc,pm,an,aq,ct,kA,rfl,lk,gx⟩:=F.ex;refine D_ lk gx S len fun A outer s H vs Q E hr eM=>?_;obtain ⟨t,h,q⟩:=b9 aq A outer s H vs Q E rfl hr eM;exact ⟨t,h.lO,q⟩
end L2
namespace L2
open PySem
def scB (N P:List Str) (sc:Scope):Bool:=sc.kind == .function && !sc.isCoroutine && !sc.isGenerator && decide N.Nodup && decide (N.take P.length=P) && P.all (fun x=>decide (sc.names.lookup x=some .local) || decide (sc.names.lookup x=some .cell)) && sc.names.all fun y=>decide (y.2≠.free)
theorem ZN {N P:List Str} {sc:Scope} (h:scB N P sc=true):Zp N P sc:=by
 unfold scB at h
 simp only [YV,Xz,List.all_eq_true,beq_iff_eq,decide_eq_true_eq,Bool.not_eq_true'] at h
 obtain ⟨⟨⟨⟨⟨⟨h1,h2⟩,h3⟩,h4⟩,h5⟩,h6⟩,h7⟩:=h;exact ⟨h1,h2,h3,h4,h5,h6,h7⟩
section
variable {K:Yg} {x qual:Str} {st:Stmt} {f:Addr} {fd:Yl} {a b c d e:Str}
theorem aI.b0 (F:aI K x qual st f fd) (h:∀ (kV doc pm:Value) (an:Option Addr) (aq ct:Value),bindArgs (XI x qual (nC st) (kj st) (Zi st) .none kV doc pm an aq ct) ⟨[],[]⟩=pure []:=by intros;rfl):ZF K fd [] []:=F.binds fun _ _ _ _ _ _ us hl=>match us,hl with | [],_=>h ..
theorem aI.b1 (F:aI K x qual st f fd) (h:∀ (kV doc pm:Value) (an:Option Addr) (aq ct t:Value),bindArgs (XI x qual (nC st) (kj st) (Zi st) .none kV doc pm an aq ct) ⟨[t],[]⟩=pure [(a,t)]:=by intros;rfl):ZF K fd [a] []:=F.binds fun _ _ _ _ _ _ us hl=>match us,hl with | [_],_=>h ..
theorem aI.b2 (F:aI K x qual st f fd) (h:∀ (kV doc pm:Value) (an:Option Addr) (aq ct t u:Value),bindArgs (XI x qual (nC st) (kj st) (Zi st) .none kV doc pm an aq ct) ⟨[t,u],[]⟩=pure [(a,t),(b,u)]:=by intros;rfl):ZF K fd [a,b] []:=F.binds fun _ _ _ _ _ _ us hl=>match us,hl with | [_,_],_=>h ..
theorem aI.b3 (F:aI K x qual st f fd) (h:∀ (kV doc pm:Value) (an:Option Addr) (aq ct t u v:Value),bindArgs (XI x qual (nC st) (kj st) (Zi st) .none kV doc pm an aq ct) ⟨[t,u,v],[]⟩=pure [(a,t),(b,u),(c,v)]:=by intros;rfl):ZF K fd [a,b,c] []:=F.binds fun _ _ _ _ _ _ us hl=>match us,hl with | [_,_,_],_=>h ..
theorem aI.b4 (F:aI K x qual st f fd) (h:∀ (kV doc pm:Value) (an:Option Addr) (aq ct t u v w:Value),bindArgs (XI x qual (nC st) (kj st) (Zi st) .none kV doc pm an aq ct) ⟨[t,u,v,w],[]⟩=pure [(a,t),(b,u),(c,v),(d,w)]:=by intros;rfl):ZF K fd [a,b,c,d] []:=F.binds fun _ _ _ _ _ _ us hl=>match us,hl with | [_,_,_,_],_=>h ..
theorem aI.b5 (F:aI K x qual st f fd) (h:∀ (kV doc pm:Value) (an:Option Addr) (aq ct t u v w z:Value),bindArgs (XI x qual (nC st) (kj st) (Zi st) .none kV doc pm an aq ct) ⟨[t,u,v,w,z],[]⟩=pure [(a,t),(b,u),(c,v),(d,w),(e,z)]:=by intros;rfl):ZF K fd [a,b,c,d,e] []:=F.binds fun _ _ _ _ _ _ us hl=>match us,hl with | [_,_,_,_,_],_=>h ..
end
end L2
namespace L2
open PySem PySem.Spec PyProof.Rows
section
variable {X:Cx}
theorem Zrt:eN X (.type "range") (fun xs H Q=>∃ a b,xs=[.int a,.int b]/\∀ p,H p=none->Q (.ref p) (upd H p (.nR a b))):=by
 intro pins s σ H xs us Q I r h;obtain ⟨a,b,rfl,q⟩:=h
 cases r with
 | cons r1 r=>
  cases r with
  | cons r2 r=>
   cases r
   obtain ⟨t,rfl⟩:=r1;obtain ⟨u,rfl⟩:=r2;refine call_range_2 ⟨.ref s.heap.objs.size,_,I.laid (t':=s.toks + 1) (fun b o e=>Yc _ e) (Ye _) ?_,rfl,q _ I.fresh⟩;exact ⟨t,u,s.toks,Yi _ rfl⟩
theorem Ztu (hc:X.calm=true:=by rfl):eN X (.type "list") (fun xs H Q=>∃ p a b n,xs=[.ref p]/\H p=some (.nR a b)/\Builtin.Range.small a b 1=true/\Builtin.Range.rangeSize a b 1=((n:Nat):Int)/\n<=1000/\∀ l,H l=none->Q (.ref l) (upd H l (.lst ((List.range n).map fun (i:Nat)=>V.int (a + (i:Int)))))):=by
 intro pins s σ H xs us Q I r h;obtain ⟨p,a,b,n,rfl,hp,h1,h2,h3,q⟩:=h;obtain ⟨u,rfl,ru⟩:=r.one
 cases (show u=Value.ref p from ru)
 obtain ⟨t,u,v,e⟩:=(show bT X.prog X.w H s.heap p (.nR a b) from I.aj p _ hp)
 refine call_list_range (t:=t) (u:=u) (v:=v) (I.ok.hd hc) ?_ h1 h2 (Yk h3 (by decide)) fun h' tk acc c' kp he hi=>?_
 ·first | exact ⟨_,e,rfl,rfl⟩ | exact e | exact ⟨_,e,rfl⟩
 ·have hlen:acc.toList.length=n:=by rw [YH];exact hi.1
  refine ⟨.ref _,_,I.jG kp (Ye _) he (vC ?_ fun j x w hx hw=>?_) ?_,rfl,q _ I.fresh⟩
  ·rw [Yb,Xv,hlen]
  ·obtain ⟨t,rfl⟩:=hi.2 j w (by rw [<- XB];exact hw);rw [Yo] at hx
   cases z:(List.range n)[j]? with
   | none=>rw [z] at hx;cases hx
   | some i=>
    rw [z] at hx
    cases hx
    have:i=j:=by
     obtain ⟨hj,e⟩:=List.getElem?_eq_some_iff.mp z;rw [List.getElem_range] at e;exact e.symm
    subst this;exact ⟨t,by rw [Int.mul_one]⟩
  ·rw [Yb,Xv]
   have:(1000:Nat)<=Ym:=by decide
   omega
def yZ (K:Yg):List V->Hp->VK->Prop:=fun xs H Q=>∃ x t n b,xs=[x,.ty n]/\eC K H x t/\Yae K t (.type n)=some b/\Q (.bl b) H
theorem ZwK:eN X (.builtin "isinstance") (yZ X.K):=by
 intro pins s σ H xs us Q I r h;obtain ⟨x,t,n,b,rfl,ty,e,q⟩:=h
 cases r with
 | cons r1 r=>
  cases r with
  | cons r2 r=>
   cases r
   cases r2
   exact Zp4 I r1 ty e fun tk=>⟨.bl b,H,I.tok tk,rfl,q⟩
theorem Zw2 {a b:Expr} {ta tb:TE} {p pos:Pos} (ha:PE X a ta) (hb:PE X b tb) (hg:Gl X "isinstance") (hm:X.mg "isinstance"=none)
  (h1:Yx [a,b] X.env=(false,eval a X.env)::Yx [b] X.env:=by rfl) (h2:Yx [b] X.env=(false,eval b X.env)::Yx [] X.env:=by rfl) (cI:(Wi pos (Yx [b] X.env)).any (·.1)=false:=by rfl) :
  PE X (.Call (.Name "isinstance" p) [a,b] [] pos) (qU (yZ X.K) (cY ta (cY tb bp))):=
 ZD ZwK hg hm PyProof.Rows.Boot.«isinstance» (Za ha (Za hb Ze h2) h1) (by decide) (by decide) h1 cI
end
end L2
namespace KS
open PySem L2
def top (i:Nat):Stmt:=PySem.Challenge.pw_stillpoint_k22_answers_of_ones_own.main.body.getD i (.Pass ⟨0,0,0,0⟩)
abbrev G9:Stmt:=eA (top 17) 0
abbrev ZjP:Stmt:=eA (top 17) 2
abbrev ZgD:Stmt:=eA (top 17) 3
abbrev ZhG:Stmt:=top 22
abbrev ZjD:Stmt:=top 23
abbrev Jh:Stmt:=top 24
abbrev ZhM:Stmt:=eA (top 25) 0
abbrev ZjQ:Stmt:=eA (top 25) 1
abbrev ZhL:Stmt:=eA (top 25) 2
abbrev Zgz:Stmt:=top 26
abbrev F2:Stmt:=top 31
abbrev F3:Stmt:=top 32
abbrev Zjv:Stmt:=top 33
abbrev ZjH:Stmt:=eA (top 40) 0
abbrev ZhC:Stmt:=top 41
abbrev ZhH:Stmt:=top 42
abbrev ZmY:Stmt:=top 43
abbrev ZhE:Stmt:=top 44
abbrev Zpz:Stmt:=top 45
abbrev ZjA:Stmt:=top 46
abbrev Zjx:Stmt:=top 47
abbrev Zfe:Stmt:=top 48
abbrev Zpy:Stmt:=top 49
abbrev ZmX:Stmt:=top 50
abbrev Zpv:Stmt:=top 51
abbrev Zd3:Stmt:=top 52
abbrev ZwT:Stmt:=top 53
abbrev ZcT:Stmt:=top 54
abbrev ZjB:Stmt:=top 56
abbrev ZeW:Stmt:=top 57
abbrev ZhF:Stmt:=top 58
abbrev Zjz:Stmt:=top 59
abbrev Zk3:Stmt:=top 60
abbrev Zgy:Stmt:=top 61
abbrev Zjt:Stmt:=top 62
abbrev Zfc:Stmt:=top 63
abbrev Zfd:Stmt:=top 64
abbrev ZwU:Stmt:=top 65
abbrev ZrL:Stmt:=top 66
abbrev ZmW:Stmt:=top 67
abbrev ZcU:Stmt:=top 68
abbrev Zpx:Stmt:=top 69
abbrev Zjw:Stmt:=top 70
abbrev Zpu:Stmt:=top 71
abbrev Zpw:Stmt:=top 72
abbrev ZjI:Stmt:=eA (top 80) 0
abbrev Hw:Stmt:=top 81
abbrev ZhD:Stmt:=top 82
abbrev Zju:Stmt:=top 83
abbrev ZmZ:Stmt:=top 84
abbrev Zm0:Stmt:=top 85
abbrev Io:Stmt:=top 86
abbrev ZrK:Stmt:=top 87
abbrev Zjy:Stmt:=top 88
abbrev ZjG:Stmt:=eA (top 91) 0
abbrev Zd4:Stmt:=eA (top 91) 1
abbrev ZjF:Stmt:=eA (top 91) 2
abbrev Zk4:Stmt:=top 92
abbrev ZjC:Stmt:=top 95
abbrev ZjO:Stmt:=eA (top 96) 0
abbrev ZjL:Stmt:=eA (top 96) 2
abbrev ZjJ:Stmt:=eA (top 96) 3
abbrev ZhK:Stmt:=eA (top 96) 4
abbrev ZhJ:Stmt:=eA (top 96) 5
abbrev ZjM:Stmt:=eA (top 96) 7
abbrev ZjN:Stmt:=eA (top 96) 8
abbrev ZgB:Stmt:=eA (top 96) 9
abbrev ZgC:Stmt:=eA (top 96) 10
abbrev ZhI:Stmt:=eA (top 96) 11
abbrev Zlc:Stmt:=eA (top 96) 12
abbrev ZjK:Stmt:=eA (top 96) 13
abbrev ZgA:Stmt:=eA (top 96) 14
abbrev Zdi:Stmt:=eA (top 96) 16
abbrev Zbw:Stmt:=eA (top 96) 17
abbrev Zfh:Stmt:=eA (top 96) 18
abbrev Zk7:Stmt:=top 97
abbrev Zlb:Stmt:=top 99
abbrev ZjE:Stmt:=top 100
abbrev Zk8:Stmt:=top 101
abbrev Hv:Stmt:=top 102
abbrev Zk9:Stmt:=top 103
abbrev Gh:Stmt:=top 104
abbrev Zla:Stmt:=top 105
abbrev G_:Stmt:=top 106
abbrev yE:Stmt:=top 107
abbrev Eh:Stmt:=top 108
inductive Rf where
 | aB | ax | aK | bj | noRoom | bo | wrongKind | aM | readOnly | cZ
 deriving DecidableEq,Repr
structure Gs where
 Fn:Addr
 GX:Yl
 F5:Addr
 HX:Yl
 HW:Addr
 IU:Yl
 G6:Addr
 IG:Yl
 GS:Addr
 HL:Yl
 HS:Addr
 Jb:Yl
 GV:Addr
 Iu:Yl
 F4:Addr
 HV:Yl
 GW:Addr
 Iv:Yl
 HN:Addr
 I_:Yl
 EF:Addr
 FG:Yl
 EG:Addr
 FH:Yl
 GL:Addr
 Ht:Yl
 GO:Addr
 HI:Yl
 Hh:Addr
 IM:Yl
 G5:Addr
 IF:Yl
 ET:Addr
 Gy:Yl
 Hf:Addr
 IK:Yl
 EC:Addr
 FA:Yl
 Gr:Addr
 HR:Yl
 Gz:Addr
 Hl:Yl
 Ij:Addr
 Jq:Yl
 EH:Addr
 FJ:Yl
 EV:Addr
 GA:Yl
 EJ:Addr
 FV:Yl
 Jw:Addr
 JF:Yl
 walk:Addr
 Ex:Yl
 JC:Addr
 JA:Yl
 Gn:Addr
 HQ:Yl
 Ja:Addr
 Jk:Yl
 He:Addr
 IJ:Yl
 Gu:Addr
 HU:Yl
 FX:Addr
 Ha:Yl
 IQ:Addr
 Ji:Yl
 Zip:Addr
 IS:Yl
 Ir:Addr
 Jt:Yl
 Iq:Addr
 Js:Yl
 made:Addr
 Er:Yl
 jT:Addr
 EU:Yl
 fX:Addr
 Gj:Yl
 JG:Addr
 Jz:Yl
 renamed:Addr
 Fy:Yl
 dD:Addr
 Hm:Yl
 written:Addr
 FY:Yl
 iw:Addr
 Fz:Yl
 GN:Addr
 HH:Yl
 GF:Addr
 Hq:Yl
 Hg:Addr
 IL:Yl
 Gi:Addr
 IP:Yl
 ER:Addr
 Gx:Yl
 E6:Addr
 Gm:Yl
 Hd:Addr
 II:Yl
 padded:Addr
 Fi:Yl
 Gw:Addr
 Hk:Yl
 GP:Addr
 HJ:Yl
 Jv:Addr
 JE:Yl
 GQ:Addr
 HK:Yl
 Ft:Addr
 G8:Yl
 GU:Addr
 HP:Yl
 Ga:Addr
 Hy:Yl
 Ge:Addr
 HB:Yl
 Gg:Addr
 HE:Yl
 G2:Addr
 IB:Yl
 G3:Addr
 IC:Yl
 Gd:Addr
 HA:Yl
 Gb:Addr
 Hz:Yl
 HF:Addr
 IY:Yl
 HC:Addr
 IX:Yl
 G4:Addr
 IE:Yl
 FR:Addr
 G1:Yl
 Gf:Addr
 HD:Yl
 HG:Addr
 IZ:Yl
 Jj:Addr
 JD:Yl
 JH:Addr
 JI:Yl
 ID:Addr
 Ju:Yl
 formatted:Addr
 Hi:Yl
 eL:Addr
 cW:Yl
 dF:Addr
 cA:Yl
 eI:Addr
 cR:Yl
 cx:Addr
 cB:Yl
 eJ:Addr
 cU:Yl
 fZ:Addr
 dE:Yl
 eK:Addr
 cV:Yl
 c5:Addr
 cT:Yl
 aY:Addr
 bb:Yl
 Aj:Addr
 Ej:Yl
 bD:Addr
 aQ:Addr
 State:Addr
 dh:Addr
 aS:Addr
 ak:Addr
 fA:Addr
 bQ:Addr
 fD:Addr
 fC:Addr
 iq:Addr
 dX:Addr
 c6:Addr
 cP:Addr
 dW:Addr
 fB:Addr
 bJ:Addr
 Zcx:Addr
 Zk:Addr
 Zxg:Addr
 fJ:Addr
 Zme:Tok
 ZoT:Tok
 ZoZ:Tok
 ZoV:Tok
 Ztz:Tok
 Zrx:Tok
 ZqD:Tok
 ZmN:Tok
 ZmM:Tok
 ZzO:Tok
 ZoS:Tok
 ZqE:Tok
 ZmL:Tok
 ZqF:Tok
 MARK:Addr
 ZoY:Tok
 ZrA:Tok
 Zkx:Tok
 ZmO:Tok
 ZoX:Tok
 Zym:Tok
 Zkv:Tok
variable {P:Program} {w:World} {K:Yg} {mg:Str->Option Value} {base:Heap} {g:Gs}
def Gs.xa (g:Gs):Rf->Addr
 | .aB=>g.fA
 | .ax=>g.bQ
 | .aK=>g.fD
 | .bj=>g.fC
 | .noRoom=>g.iq
 | .bo=>g.dX
 | .wrongKind=>g.c6
 | .aM=>g.cP
 | .readOnly=>g.dW
 | .cZ=>g.fB
def Rf.word:Rf->Str
 | .aB=>"NoThing"
 | .ax=>"NoDirectory"
 | .aK=>"BadName"
 | .bj=>"IsThere"
 | .noRoom=>"NoRoom"
 | .bo=>"NotEmpty"
 | .wrongKind=>"WrongKind"
 | .aM=>"TooGreat"
 | .readOnly=>"ReadOnly"
 | .cZ=>"NoFiles"
structure Tx (K:Yg) (mg:Str->Option Value) (g:Gs):Prop where
 Zzi:mg "Disk"=some (.ref g.bD)
 Zwl:mg "Chains"=some (.ref g.aQ)
 Be:mg "State"=some (.ref g.State)
 Zx1:mg "Image"=some (.ref g.dh)
 Zx0:mg "Store"=some (.ref g.aS)
 ZuL:mg "Files"=some (.ref g.ak)
 BJ:mg "NoThing"=some (.ref g.fA)
 Zh1:mg "NoDirectory"=some (.ref g.bQ)
 FK:mg "BadName"=some (.ref g.fD)
 BI:mg "IsThere"=some (.ref g.fC)
 Zr6:mg "NoRoom"=some (.ref g.iq)
 Znh:mg "NotEmpty"=some (.ref g.dX)
 qF:mg "WrongKind"=some (.ref g.c6)
 tj:mg "TooGreat"=some (.ref g.cP)
 Zng:mg "ReadOnly"=some (.ref g.dW)
 ZuK:mg "NoFiles"=some (.ref g.fB)
 Hn:mg "StillError"=some (.ref g.bJ)
 mf:Cls K g.bD
 Ig:eP K g.bD "blocks"
 GD:eP K g.bD "log"
 i4:Cls K g.aQ
 yz:eP K g.aQ "free"
 Je:eP K g.aQ "older"
 wk:eP K g.aQ "places"
 ZW:Cls K g.State
 mm:eP K g.State "data"
 Zu:eP K g.State "entries"
 vH:Cls K g.dh
 Cj:eP K g.dh "places"
 ZhW:eP K g.dh "heads"
 gq:Cls K g.aS
 v_:eP K g.aS "disk"
 B3:eP K g.aS "slot"
 B4:eP K g.aS "turn"
 yu:eP K g.aS "synced"
 Zq:Cls K g.ak
 ZK:eP K g.ak "state"
 ZY:eP K g.ak "kept"
 Ih:eP K g.ak "store"
 ZhX:eP K g.ak "image"
 ZxY:Mk K g.bD g.Fn
 Zmd:aI K "__init__" "Disk.__init__" G9 g.Fn g.GX
 Hj:Meth K g.bD "write" g.F5
 Zkl:aI K "write" "Disk.write" ZjP g.F5 g.HX
 ZgJ:Meth K g.bD "barrier" g.HW
 ZgP:aI K "barrier" "Disk.barrier" ZgD g.HW g.IU
 Zoq:mg "block_count"=some (.ref g.G6)
 Iw:aI K "block_count" "block_count" ZhG g.G6 g.IG
 ZpU:mg "blocks_for"=some (.ref g.GS)
 H_:aI K "blocks_for" "blocks_for" ZjD g.GS g.HL
 ZmA:mg "free_numbers"=some (.ref g.HS)
 IW:aI K "free_numbers" "free_numbers" Jh g.HS g.Jb
 ZuC:Mk K g.aQ g.GV
 Zio:aI K "__init__" "Chains.__init__" ZhM g.GV g.Iu
 Zj3:Meth K g.aQ "put" g.F4
 Zkm:aI K "put" "Chains.put" ZjQ g.F4 g.HV
 ZoA:Meth K g.aQ "take" g.GW
 Zin:aI K "take" "Chains.take" ZhL g.GW g.Iv
 ZmB:mg "chain_blocks"=some (.ref g.HN)
 IV:aI K "chain_blocks" "chain_blocks" Zgz g.HN g.I_
 ZpR:mg "is_name"=some (.ref g.EF)
 BA:aI K "is_name" "is_name" F2 g.EF g.FG
 ZuJ:mg "is_path"=some (.ref g.EG)
 Fo:aI K "is_path" "is_path" F3 g.EG g.FH
 ml:mg "path_names"=some (.ref g.GL)
 Z7:aI K "path_names" "path_names" Zjv g.GL g.Ht
 Bx:Mk K g.State g.GO
 Zkd:aI K "__init__" "State.__init__" ZjH g.GO g.HI
 Zon:mg "first_state"=some (.ref g.Hh)
 IA:aI K "first_state" "first_state" ZhC g.Hh g.IM
 ZhZ:mg "all_numbers"=some (.ref g.G5)
 B_:aI K "all_numbers" "all_numbers" ZhH g.G5 g.IF
 Znf:mg "is_thing"=some (.ref g.ET)
 BK:aI K "is_thing" "is_thing" ZmY g.ET g.Gy
 Ie:mg "check_thing"=some (.ref g.Hf)
 yx:aI K "check_thing" "check_thing" ZhE g.Hf g.IK
 FL:mg "data_of"=some (.ref g.EC)
 yj:aI K "data_of" "data_of" Zpz g.EC g.FA
 ZpT:mg "entries_of"=some (.ref g.Gr)
 Ia:aI K "entries_of" "entries_of" ZjA g.Gr g.HR
 ZjY:mg "least_free"=some (.ref g.Gz)
 B9:aI K "least_free" "least_free" Zjx g.Gz g.Hl
 Zfr:mg "named_numbers"=some (.ref g.Ij)
 Cf:aI K "named_numbers" "named_numbers" Zfe g.Ij g.Jq
 FN:mg "kind_of"=some (.ref g.EH)
 yh:aI K "kind_of" "kind_of" Zpy g.EH g.FJ
 Ztj:mg "links_of"=some (.ref g.EV)
 F9:aI K "links_of" "links_of" ZmX g.EV g.GA
 ZuG:mg "size_of"=some (.ref g.EJ)
 FP:aI K "size_of" "size_of" Zpv g.EJ g.FV
 Zd8:mg "check_directory"=some (.ref g.Jw)
 Ce:aI K "check_directory" "check_directory" Zd3 g.Jw g.JF
 Bb:mg "walk"=some (.ref g.walk)
 vi:aI K "walk" "walk" ZwT g.walk g.Ex
 Zc1:mg "walk_to_directory"=some (.ref g.JC)
 Cm:aI K "walk_to_directory" "walk_to_directory" ZcT g.JC g.JA
 vZ:mg "check_path"=some (.ref g.Gn)
 qC:aI K "check_path" "check_path" ZjB g.Gn g.HQ
 Jl:mg "check_not_full"=some (.ref g.Ja)
 yF:aI K "check_not_full" "check_not_full" ZeW g.Ja g.Jk
 ZhY:mg "check_empty"=some (.ref g.He)
 B':aI K "check_empty" "check_empty" ZhF g.He g.IJ
 ZjZ:mg "free_place"=some (.ref g.Gu)
 B8:aI K "free_place" "free_place" Zjz g.Gu g.HU
 G7:mg "with_data"=some (.ref g.FX)
 yl:aI K "with_data" "with_data" Zk3 g.FX g.Ha
 Jd:mg "with_entries"=some (.ref g.IQ)
 yt:aI K "with_entries" "with_entries" Zgy g.IQ g.Ji
 Ho:mg "with_entry"=some (.ref g.Zip)
 yn:aI K "with_entry" "with_entry" Zjt g.Zip g.IS
 ZlB:mg "without_thing"=some (.ref g.Ir)
 IT:aI K "without_thing" "without_thing" Zfc g.Ir g.Jt
 Jx:mg "without_entry"=some (.ref g.Iq)
 yG:aI K "without_entry" "without_entry" Zfd g.Iq g.Js
 Zzh:mg "made"=some (.ref g.made)
 Ek:aI K "made" "made" ZwU g.made g.Er
 Zwk:mg "linked"=some (.ref g.jT)
 EZ:aI K "linked" "linked" ZrL g.jT g.EU
 Zti:mg "unlinked"=some (.ref g.fX)
 F_:aI K "unlinked" "unlinked" ZmW g.fX g.Gj
 Zg0:mg "check_replaceable"=some (.ref g.JG)
 Jy:aI K "check_replaceable" "check_replaceable" ZcU g.JG g.Jz
 ZuI:mg "renamed"=some (.ref g.renamed)
 Fp:aI K "renamed" "renamed" Zpx g.renamed g.Fy
 ZjX:mg "lengthened"=some (.ref g.dD)
 BX:aI K "lengthened" "lengthened" Zjw g.dD g.Hm
 ZuF:mg "written"=some (.ref g.written)
 FQ:aI K "written" "written" Zpu g.written g.FY
 ZuH:mg "resized"=some (.ref g.iw)
 FO:aI K "resized" "resized" Zpw g.iw g.Fz
 Zwg:Mk K g.dh g.GN
 Zke:aI K "__init__" "Image.__init__" ZjI g.GN g.HH
 ZjW:mg "name_codes"=some (.ref g.GF)
 BY:aI K "name_codes" "name_codes" Hw g.GF g.Hq
 Zoo:mg "entries_row"=some (.ref g.Hg)
 Iz:aI K "entries_row" "entries_row" ZhD g.Hg g.IL
 ZjV:mg "table_head"=some (.ref g.Gi)
 BZ:aI K "table_head" "table_head" Zju g.Gi g.IP
 Ztk:mg "image_of"=some (.ref g.ER)
 F8:aI K "image_of" "image_of" ZmZ g.ER g.Gx
 Ztl:mg "check_of"=some (.ref g.E6)
 F7:aI K "check_of" "check_of" Zm0 g.E6 g.Gm
 Zop:mg "check_bytes"=some (.ref g.Hd)
 Iy:aI K "check_bytes" "check_bytes" Io g.Hd g.II
 Zr5:mg "padded"=some (.ref g.padded)
 Br:aI K "padded" "padded" ZrK g.padded g.Fi
 ZpS:mg "head_block"=some (.ref g.Gw)
 Hx:aI K "head_block" "head_block" Zjy g.Gw g.Hk
 Zwf:Mk K g.aS g.GP
 Zkc:aI K "__init__" "Store.__init__" ZjG g.GP g.HJ
 Zd9:Meth K g.aS "image_for" g.Jv
 Zed:aI K "image_for" "Store.image_for" Zd4 g.Jv g.JE
 Zp9:Meth K g.aS "save" g.GQ
 Zkb:aI K "save" "Store.save" ZjF g.GQ g.HK
 Zre:mg "new_store"=some (.ref g.Ft)
 G0:aI K "new_store" "new_store" Zk4 g.Ft g.G8
 Zj0:mg "check_name"=some (.ref g.GU)
 B7:aI K "check_name" "check_name" ZjC g.GU g.HP
 Zwh:Mk K g.ak g.Ga
 Zkk:aI K "__init__" "Files.__init__" ZjO g.Ga g.Hy
 B1:Meth K g.ak "read" g.Ge
 Zkh:aI K "read" "Files.read" ZjL g.Ge g.HB
 B2:Meth K g.ak "stat" g.Gg
 Zkf:aI K "stat" "Files.stat" ZjJ g.Gg g.HE
 yy:Meth K g.ak "names" g.G2
 Zim:aI K "names" "Files.names" ZhK g.G2 g.IB
 Zh6:Meth K g.ak "snaps" g.G3
 Zil:aI K "snaps" "Files.snaps" ZhJ g.G3 g.IC
 Zqb:Meth K g.ak "make" g.Gd
 Zki:aI K "make" "Files.make" ZjM g.Gd g.HA
 Zqc:Meth K g.ak "link" g.Gb
 Zkj:aI K "link" "Files.link" ZjN g.Gb g.Hz
 ZmE:Meth K g.ak "unlink" g.HF
 ZgN:aI K "unlink" "Files.unlink" ZgB g.HF g.IY
 ZmF:Meth K g.ak "rename" g.HC
 ZgO:aI K "rename" "Files.rename" ZgC g.HC g.IX
 Zoz:Meth K g.ak "write" g.G4
 Zik:aI K "write" "Files.write" ZhI g.G4 g.IE
 Zrk:Meth K g.ak "cut" g.FR
 Zmc:aI K "cut" "Files.cut" Zlc g.FR g.G1
 Zqa:Meth K g.ak "snap" g.Gf
 Zkg:aI K "snap" "Files.snap" ZjK g.Gf g.HD
 ZmD:Meth K g.ak "unsnap" g.HG
 ZgM:aI K "unsnap" "Files.unsnap" ZgA g.HG g.IZ
 Zh7:Meth K g.ak "check_kept" g.Jj
 ZdD:aI K "check_kept" "Files.check_kept" Zdi g.Jj g.JD
 ZL:Meth K g.ak "check_changeable" g.JH
 ZbB:aI K "check_changeable" "Files.check_changeable" Zbw g.JH g.JI
 qA:Meth K g.ak "turn_to" g.ID
 Zf5:aI K "turn_to" "Files.turn_to" Zfh g.ID g.Ju
 Zrf:mg "formatted"=some (.ref g.formatted)
 GZ:aI K "formatted" "formatted" Zk7 g.formatted g.Hi
 ZlF:mg "_law_cell"=some (.ref g.eL)
 BV:aI K "_law_cell" "_law_cell" Zlb g.eL g.cW
 ZpV:mg "_law_drawn"=some (.ref g.dF)
 HZ:aI K "_law_drawn" "_law_drawn" ZjE g.dF g.cA
 ZlE:mg "_law_word"=some (.ref g.eI)
 BW:aI K "_law_word" "_law_word" Zk8 g.eI g.cR
 ZpW:mg "_law_asked"=some (.ref g.cx)
 HY:aI K "_law_asked" "_law_asked" Hv g.cx g.cB
 wg:mg "_law_path"=some (.ref g.eJ)
 qD:aI K "_law_path" "_law_path" Zk9 g.eJ g.cU
 Ztm:mg "_law_row"=some (.ref g.fZ)
 F6:aI K "_law_row" "_law_row" Gh g.fZ g.dE
 Zrg:mg "_law_deed"=some (.ref g.eK)
 GY:aI K "_law_deed" "_law_deed" Zla g.eK g.cV
 BR:mg "_law_told"=some (.ref g.c5)
 we:aI K "_law_told" "_law_told" G_ g.c5 g.cT
 Zg1:mg "_law_number_right"=some (.ref g.aY)
 Zgr:Ybo K Xj "_law_number_right"=some (some (.ref g.aY))
 Ck:aI K "_law_number_right" "_law_number_right" yE g.aY g.bb
 Zk:Xn K "_law_number_right"=some (g.Zcx,g.Zk)
 Zgn:K.lookup g.Zk=none
 ZAi:mg "law"=some (.ref g.Aj)
 Zzf:Ybo K Xj "law"=some (some (.ref g.Aj))
 D5:aI K "law" "law" Eh g.Aj g.Ej
 fJ:Xn K "law"=some (g.Zxg,g.fJ)
 ZyB:K.lookup g.fJ=none
 zK:g.Zk≠g.fJ
 F1:Ze2 K g.fA
 Zny:Ze2 K g.bQ
 Zo1:Ze2 K g.fD
 FZ:Ze2 K g.fC
 Zvz:Ze2 K g.iq
 Zsx:Ze2 K g.dX
 sY:Ze2 K g.c6
 vY:Ze2 K g.cP
 Zsw:Ze2 K g.dW
 Zyx:Ze2 K g.fB
 ZxV:Zvx K g.ak
 xf:∀ r:Rf,Zl4 K (g.xa r)
 mU:∀ r u:Rf,Yae K (.ref (g.xa r)) (.ref (g.xa u))=some (decide (r=u))
 Kl:∀ r:Rf,Yae K (.ref (g.xa r)) (.ref g.bJ)=some true
 tM:∀ r:Rf,Yae K (.ref (g.xa r)) (.type "ValueError")=some true
 Zjo:ZoW K g.bJ
 sub:∀ r:Rf,PySem.W.subIn K (.ref (g.xa r)) (.ref g.bJ)=some true
 ZlV:mg "FEWEST_BLOCKS"=some (.int 16 g.Zme)
 Zh8:mg "MOST_BLOCKS"=some (.int 256 g.ZoT)
 Ib:mg "BLOCK_BYTES"=some (.int 64 g.ZoZ)
 ZoC:mg "FIRST_BLOCK"=some (.int 2 g.ZoV)
 Znl:mg "NO_BLOCK"=some (.int 0 g.Ztz)
 yr:mg "ROW_BYTES"=some (.int 63 g.Zrx)
 Zj5:mg "NAME_SIGNS"=some (.str "ABCDEFGHIJKLMNOPQRSTUVWXYZabcdefghijklmnopqrstuvwxyz0123456789._-" g.ZqD)
 ZgK:mg "LONGEST_NAME"=some (.int 8 g.ZmN)
 ZmH:mg "LONGEST_PATH"=some (.int 60 g.ZmM)
 Zxb:mg "ROOT"=some (.int 0 g.ZzO)
 ZoB:mg "MOST_THINGS"=some (.int 32 g.ZoS)
 Zj6:mg "MOST_BYTES"=some (.int 600 g.ZqE)
 ZmG:mg "MOST_ENTRIES"=some (.int 40 g.ZmL)
 Zqf:mg "ENTRY_SIZE"=some (.int 10 g.ZqF)
 Zzw:mg "MARK"=some (.ref g.MARK)
 Zy5:∀ H,aG K H g.MARK [.int 83,.int 116,.int 105,.int 108]
 ZoD:mg "CHECK_PLACE"=some (.int 37 g.ZoY)
 Zrl:mg "FILE_KIND"=some (.int 1 g.ZrA)
 Zks:mg "DIRECTORY_KIND"=some (.int 2 g.Zkx)
 ZmI:mg "CHECK_FACTOR"=some (.int 1000003 g.ZmO)
 Zh9:mg "CHECK_PRIME"=some (.int 4294967291 g.ZoX)
 ZuX:mg "TURNS"=some (.int 256 g.Zym)
 Zkr:mg "MOST_SNAPSHOTS"=some (.int 3 g.Zkv)
 qm:mg "range"=none
 Zyu:mg "min"=none
 eu:mg "len"=none
 EL:mg "tuple"=none
 ZqH:mg "enumerate"=none
 Zyw:mg "all"=none
 sU:mg "sorted"=none
 nu:mg "list"=none
 qd:mg "dict"=none
 ZzW:mg "sum"=none
 ZzV:mg "zip"=none
 ZS:mg "isinstance"=none
 Zo0:mg "ValueError"=none
 Zyv:mg "int"=none
 ZzY:mg "max"=none
 ZzX:mg "str"=none
section
variable {K:Yg} {mg:Str->Option Value} {g:Gs}
theorem Tx.jk (T:Tx K mg g):ZF K g.GX ["self","count"] []:=T.Zmd.b2
theorem Tx.cz (T:Tx K mg g):ZF K g.HX ["self","number","block"] []:=T.Zkl.b3
theorem Tx.cX (T:Tx K mg g):ZF K g.IU ["self"] []:=T.ZgP.b1
theorem Tx.gK (T:Tx K mg g):ZF K g.IG ["disk"] []:=T.Iw.b1
theorem Tx.iB (T:Tx K mg g):ZF K g.HL ["length"] []:=T.H_.b1
theorem Tx.f7 (T:Tx K mg g):ZF K g.Jb ["count","places"] []:=T.IW.b2
theorem Tx.gN (T:Tx K mg g):ZF K g.Iu ["self","free","older"] []:=T.Zio.b3
theorem Tx.d8 (T:Tx K mg g):ZF K g.HV ["self","row"] []:=T.Zkm.b2
theorem Tx.gM (T:Tx K mg g):ZF K g.Iv ["self","many"] []:=T.Zin.b2
theorem Tx.f_ (T:Tx K mg g):ZF K g.I_ ["row","numbers"] []:=T.IV.b2
theorem Tx.g4 (T:Tx K mg g):ZF K g.FG ["text"] []:=T.BA.b1
theorem Tx.lj (T:Tx K mg g):ZF K g.FH ["text"] []:=T.Fo.b1
theorem Tx.aE (T:Tx K mg g):ZF K g.Ht ["path"] []:=T.Z7.b1
theorem Tx.bE (T:Tx K mg g):ZF K g.HI ["self","data","entries"] []:=T.Zkd.b3
theorem Tx.gH (T:Tx K mg g):ZF K g.IM [] []:=T.IA.b0
theorem Tx.dm (T:Tx K mg g):ZF K g.IF ["state"] []:=T.B_.b1
theorem Tx.f6 (T:Tx K mg g):ZF K g.Gy ["state","number"] []:=T.BK.b2
theorem Tx.bW (T:Tx K mg g):ZF K g.IK ["state","number"] []:=T.yx.b2
theorem Tx.eG (T:Tx K mg g):ZF K g.FA ["state","number"] []:=T.yj.b2
theorem Tx.iA (T:Tx K mg g):ZF K g.HR ["state","number"] []:=T.Ia.b2
theorem Tx.d3 (T:Tx K mg g):ZF K g.Hl ["state"] []:=T.B9.b1
theorem Tx.cD (T:Tx K mg g):ZF K g.Jq ["state"] []:=T.Cf.b1
theorem Tx.eF (T:Tx K mg g):ZF K g.FJ ["state","number"] []:=T.yh.b2
theorem Tx.jV (T:Tx K mg g):ZF K g.GA ["state","number"] []:=T.F9.b2
theorem Tx.k8 (T:Tx K mg g):ZF K g.FV ["state","number"] []:=T.FP.b2
theorem Tx.bR (T:Tx K mg g):ZF K g.JF ["state","number"] []:=T.Ce.b2
theorem Tx.ip (T:Tx K mg g):ZF K g.Ex ["state","names"] []:=T.vi.b2
theorem Tx.bA (T:Tx K mg g):ZF K g.JA ["state","path"] []:=T.Cm.b2
theorem Tx.a8 (T:Tx K mg g):ZF K g.HQ ["path"] []:=T.qC.b1
theorem Tx.br (T:Tx K mg g):ZF K g.Jk ["state","directory"] []:=T.yF.b2
theorem Tx.di (T:Tx K mg g):ZF K g.IJ ["state","number"] []:=T.B'.b2
theorem Tx.d6 (T:Tx K mg g):ZF K g.HU ["state","path"] []:=T.B8.b2
theorem Tx.cQ (T:Tx K mg g):ZF K g.Ha ["state","number","row"] []:=T.yl.b3
theorem Tx.bK (T:Tx K mg g):ZF K g.Ji ["state","number","entries"] []:=T.yt.b3
theorem Tx.cy (T:Tx K mg g):ZF K g.IS ["state","directory","name","number"] []:=T.yn.b4
theorem Tx.fe (T:Tx K mg g):ZF K g.Jt ["state","number"] []:=T.IT.b2
theorem Tx.bz (T:Tx K mg g):ZF K g.Js ["state","directory","name"] []:=T.yG.b3
theorem Tx.ur (T:Tx K mg g):ZF K g.Er ["state","path","kind"] []:=T.Ek.b3
theorem Tx.mT (T:Tx K mg g):ZF K g.EU ["state","old","new"] []:=T.EZ.b3
theorem Tx.jU (T:Tx K mg g):ZF K g.Gj ["state","path"] []:=T.F_.b2
theorem Tx.de (T:Tx K mg g):ZF K g.Jz ["state","number","there"] []:=T.Jy.b3
theorem Tx.lh (T:Tx K mg g):ZF K g.Fy ["state","old","new"] []:=T.Fp.b3
theorem Tx.d0 (T:Tx K mg g):ZF K g.Hm ["row","size"] []:=T.BX.b2
theorem Tx.k6 (T:Tx K mg g):ZF K g.FY ["state","number","start","row"] []:=T.FQ.b4
theorem Tx.k_ (T:Tx K mg g):ZF K g.Fz ["state","number","size"] []:=T.FO.b3
theorem Tx.iG (T:Tx K mg g):ZF K g.HH ["self","places","heads"] []:=T.Zke.b3
theorem Tx.dZ (T:Tx K mg g):ZF K g.Hq ["name"] []:=T.BY.b1
theorem Tx.gI (T:Tx K mg g):ZF K g.IL ["entries"] []:=T.Iz.b1
theorem Tx.dY (T:Tx K mg g):ZF K g.IP ["state","chains"] []:=T.BZ.b2
theorem Tx.jW (T:Tx K mg g):ZF K g.Gx ["state","kept","free","older"] []:=T.F8.b4
theorem Tx.jX (T:Tx K mg g):ZF K g.Gm ["row"] []:=T.F7.b1
theorem Tx.gJ (T:Tx K mg g):ZF K g.II ["rows"] []:=T.Iy.b1
theorem Tx.jf (T:Tx K mg g):ZF K g.Fi ["row","length"] []:=T.Br.b2
theorem Tx.iz (T:Tx K mg g):ZF K g.Hk ["image","turn"] []:=T.Hx.b2
theorem Tx.iF (T:Tx K mg g):ZF K g.HJ ["self","disk","slot","turn","synced"] []:=T.Zkc.b5
theorem Tx.bS (T:Tx K mg g):ZF K g.JE ["self","state","kept"] []:=T.Zed.b3
theorem Tx.iE (T:Tx K mg g):ZF K g.HK ["self","image"] []:=T.Zkb.b2
theorem Tx.jg (T:Tx K mg g):ZF K g.G8 ["disk"] []:=T.G0.b1
theorem Tx.d7 (T:Tx K mg g):ZF K g.HP ["name"] []:=T.B7.b1
theorem Tx.iK (T:Tx K mg g):ZF K g.Hy ["self","state","kept","store","image"] []:=T.Zkk.b5
theorem Tx.bG (T:Tx K mg g):ZF K g.HB ["self","number","start","many"] []:=T.Zkh.b4
theorem Tx.bF (T:Tx K mg g):ZF K g.HE ["self","number"] []:=T.Zkf.b2
theorem Tx.bc (T:Tx K mg g):ZF K g.IB ["self","number"] []:=T.Zim.b2
theorem Tx.du (T:Tx K mg g):ZF K g.IC ["self"] []:=T.Zil.b1
theorem Tx.iI (T:Tx K mg g):ZF K g.HA ["self","path","kind"] []:=T.Zki.b3
theorem Tx.iJ (T:Tx K mg g):ZF K g.Hz ["self","old","new"] []:=T.Zkj.b3
theorem Tx.gc (T:Tx K mg g):ZF K g.IY ["self","path"] []:=T.ZgN.b2
theorem Tx.gf (T:Tx K mg g):ZF K g.IX ["self","old","new"] []:=T.ZgO.b3
theorem Tx.gL (T:Tx K mg g):ZF K g.IE ["self","number","start","row"] []:=T.Zik.b4
theorem Tx.jj (T:Tx K mg g):ZF K g.G1 ["self","number","size"] []:=T.Zmc.b3
theorem Tx.iH (T:Tx K mg g):ZF K g.HD ["self","name"] []:=T.Zkg.b2
theorem Tx.gb (T:Tx K mg g):ZF K g.IZ ["self","name"] []:=T.ZgM.b2
theorem Tx.dG (T:Tx K mg g):ZF K g.JD ["self","name"] []:=T.ZdD.b2
theorem Tx.ai (T:Tx K mg g):ZF K g.JI ["self"] []:=T.ZbB.b1
theorem Tx.aF (T:Tx K mg g):ZF K g.Ju ["self","state","kept"] []:=T.Zf5.b3
theorem Tx.jh (T:Tx K mg g):ZF K g.Hi ["disk"] []:=T.GZ.b1
theorem Tx.eU (T:Tx K mg g):ZF K g.cW ["_law_script","_law_k"] []:=T.BV.b2
theorem Tx.iC (T:Tx K mg g):ZF K g.cA ["_law_cell_here","_law_k"] []:=T.HZ.b2
theorem Tx.eT (T:Tx K mg g):ZF K g.cR ["_law_e"] []:=T.BW.b1
theorem Tx.iD (T:Tx K mg g):ZF K g.cB ["_law_files","_law_deed_here"] []:=T.HY.b2
theorem Tx.bg (T:Tx K mg g):ZF K g.cU ["_law_more"] []:=T.qD.b1
theorem Tx.jY (T:Tx K mg g):ZF K g.dE ["_law_cell_here","_law_more"] []:=T.F6.b2
theorem Tx.ji (T:Tx K mg g):ZF K g.cV ["_law_script","_law_k"] []:=T.GY.b2
theorem Tx.bP (T:Tx K mg g):ZF K g.cT ["_law_rule"] []:=T.we.b1
theorem Tx.df (T:Tx K mg g):ZF K g.bb ["_law_files","_law_number","_law_links"] []:=T.Ck.b3
end
abbrev e_:List Str:=["_law_number_right","law"]
theorem aX (n:Nat) (h:n<=100:=by decide):n<=Ym:=Yk h (by decide)
theorem _root_.L2.aW.dn {j k:Nat} {A:Around} (r:aW k A) (h:j<=k:=by decide):aW j A:=r.mono h
def nj (ns:List Int) (k:Int):Int:=if ns=[] then k * 7919 else ns.getD (k % (ns.length:Int)).toNat 0 + k / (ns.length:Int) * 104729
def va (c k:Int):Int:=(c * 6364136223846793005 + (k + 1) * 1442695040888963407) % 340282366920938463463374607431768211507
def ZzE (c k:Int):Int:=va c k * va c k % 340282366920938463463374607431768211297
theorem Zwd (c k:Int):0<=va c k:=Int.emod_nonneg _ (by decide)
theorem Zwe (c k:Int):va c k < 340282366920938463463374607431768211507:=YbR _ (by decide)
theorem Zw9 {n:Int} {m:Nat} (h0:0<=n) (h1:n < (m:Int)):mV m n=some n.toNat:=by
 unfold mV;rw [if_pos h0,if_pos h1]
theorem qb {α:Type} {xs:List α} {n:Int} {v:α} (h0:0<=n) (h:xs[n.toNat]?=some v):fj xs n=some v:=by
 have h1:n < (xs.length:Int):=by
  have:=(List.getElem?_eq_some_iff.mp h).1
  omega
 unfold fj;rw [Zw9 h0 h1];exact h
theorem ES (H:Hp):∀ ns:List Int,dM H (ns.map V.int) (ns.map PyData.int)
 | []=>.nil
 | n::r=>.cons (.int n) (ES H r)
theorem Zsb (H:Hp):∀ ns:List Str,dM H (ns.map V.str) (ns.map PyData.str)
 | []=>.nil
 | n::r=>.cons (.str n) (Zsb H r)
def Flat (k:Nat) (d:Wd):Prop:=d.canLay0=true/\d.depth<=k
theorem E9 {k:Nat}:∀ {ds:List Wd},(∀ d∈ds,Flat k d)->PyData.canLayAll0 ds=true/\PyData.depthAll ds<=k
 | [],_=>⟨rfl,Yv _⟩
 | d::r,h=>by
  obtain ⟨h1,h2⟩:=h d YA;obtain ⟨h3,h4⟩:=E9 (ds:=r) fun e he=>h e (Yr _ he);refine ⟨?_,?_⟩
  ·show (PyData.canLay0 d && PyData.canLayAll0 r)=true;rw [h1,h3];rfl
  ·show max d.depth (PyData.depthAll r)<=k;exact Nat.max_le.mpr ⟨h2,h4⟩
theorem Flat.tup {k:Nat} {ds:List Wd} (h:∀ d∈ds,Flat k d):Flat (k + 1) (.tuple ds):=by
 obtain ⟨h1,h2⟩:=E9 h;exact ⟨h1,Y4 h2⟩
theorem G' {k:Nat} {ds:List Wd} (h:∀ d∈ds,Flat k d) (hk:k<=60):YY (.list ds)=true:=by
 obtain ⟨h1,h2⟩:=E9 h
 have h3:PyData.depth (.list ds)<=64:=by
  show PyData.depthAll ds + 1<=64;omega
 unfold YY;rw [show PyData.canLay0 (.list ds)=true from h1,decide_eq_true h3];rfl
theorem ZqV {k:Nat} {d:Wd} (h:Flat k d) (hk:k<=60):YY d=true:=by
 have h3:d.depth<=64:=Yk h.2 (by omega);unfold YY;rw [h.1,decide_eq_true h3];rfl
theorem Bw (i:Int):Flat 0 (.int i):=⟨rfl,Ye _⟩
theorem Fb {i:Str} (h:(PyData.str i).canLay0=true):Flat 0 (.str i):=⟨h,Ye _⟩
theorem BU (ns:List Int):YY (.list (ns.map PyData.int))=true:=G' (k:=0) (fun d hd=>by
 obtain ⟨i,_,rfl⟩:=List.mem_map.mp hd;exact Bw i) (by decide)
theorem dM.snoc {H:Hp} {v:V} {d:Wd} (h:Im H v d):∀ {xs:List V} {ds:List Wd},dM H xs ds->dM H (xs++[v]) (ds++[d])
 | _,_,.nil=>.cons h .nil
 | _,_,.cons a r=>.cons a (dM.snoc h r)
theorem vN (n:Nat) (v:V):(List.replicate n [v]).flatten=List.replicate n v:=by
 induction n with
 | zero=>rfl
 | succ n ih=>rw [Xg,Xh,ih];rfl
theorem ZAt:¬ (("blocks":Str)="log"):=by decide +kernel
def dR (b l:Addr):List (Str×V):=av "log" (.ref l) (av "blocks" (.ref b) [])
theorem Zxc (b l:Addr):(dR b l).lookup ("blocks":Str)=some (.ref b):=by
 unfold dR;rw [Zo,if_neg ZAt,Zo,if_pos rfl]
theorem Es (b l:Addr):(dR b l).lookup ("log":Str)=some (.ref l):=by
 unfold dR;rw [Zo,if_pos rfl]
theorem EE (b l:Addr) {m:Str} (h1:¬ m="log") (h2:¬ m="blocks"):(dR b l).lookup m=none:=by
 unfold dR;rw [Zo,if_neg h1,Zo,if_neg h2]
 all_goals rfl
def xS:Wd:=.tuple (List.replicate 64 (.int 0))
structure Zxk (C:Addr) (H:Hp) (p b l:Addr) (vb vl:List V) (bs lg:List Wd):Prop where
 ob:∃ dx,H p=some (.ins C dx (dR b l))
 hb:H b=some (.lst vb)
 hl:H l=some (.lst vl)
 ib:dM H vb bs
 il:dM H vl lg
 ne:b≠l
def ZyS (C TG:Addr):Sp:=fun vs H Q E=>∃ (p dx:Addr) (n:Int),vs=[.ref p,.int n]/\H p=some (.ins C dx [])/\((n < 16∨256 < n)->E (.ref TG) none H)/\
 (16<=n->n<=256->∀ (b l:Addr) (vb:List V) (H':Hp),H b=none->H l=none->Zxk C H' p b l vb [] (List.replicate n.toNat xS) []->(∀ c o,H c=some o->c≠p->H' c=some o)->Q .aL H')
def ZtT (C:Addr):Sp:=fun vs H Q _=>∃ (p dx b l:Addr) (vb vl:List V) (n:Int) (v:V),vs=[.ref p,.int n,v]/\H p=some (.ins C dx (dR b l))/\H b=some (.lst vb)/\H l=some (.lst vl)/\b≠l/\0<=n/\n < (vb.length:Int)/\vl.length<=100000/\
 ∀ t,H t=none->Q .aL (upd (upd (upd H b (.lst (vb.set n.toNat v))) t (.tup [.str "write",.int n,v])) l (.lst (vl++[.ref t])))
def ZyX (C:Addr):Sp:=fun vs H Q _=>∃ (p dx b l:Addr) (vl:List V),vs=[.ref p]/\H p=some (.ins C dx (dR b l))/\H l=some (.lst vl)/\vl.length<=100000/\
 ∀ t,H t=none->Q .aL (upd (upd H t (.tup [.str "barrier"])) l (.lst (vl++[.ref t])))
theorem ZnY:Zp ["self","number","block"] ["self","number","block"] (Zi ZjP):=ZN (by decide +kernel)
theorem Ik (T:Tx K mg g):ah P w K mg base (aA P w) 1 g.F5 g.HX ["self","number","block"] (ZtT g.bD):=by
 refine T.Zkl.aP ZnY (fun vs H Q E h=>?_) (fun aq A outer s H vs Q E hr h=>?_)
 ·obtain ⟨p,dx,b,l,vb,vl,n,v,rfl,_⟩:=h;rfl
 ·obtain ⟨p,dx,b,l,vb,vl,n,v,rfl,hp,hb,hl,ne,h0,h1,hz,q⟩:=h
  refine ⟨_,(Zd (Zy6 (pv 2) (Zy8 (Zv (pv 0) rfl) (pv 1) ZvX))
   (Zh (ZC (j9 YR Xl Xk oP (Zv (pv 0) rfl) (Za (dz (Za Zr (Za (pv 1) (Za (pv 2) Ze)))) Ze))))),?_⟩
  have Ag:p≠b:=ZR hp hb (by intro z;cases z);have g7:∀ o,(upd H b o) p=some (.ins g.bD dx (dR b l)):=fun o=>by rw [Zf Ag];exact hp
  have d_:∀ o,(upd H b o) l=some (.lst vl):=fun o=>by rw [Zf ne.symm];exact hl
  refine ⟨_,rfl,_,rfl,p,g.bD,dx,_,_,rfl,hp,T.mf,T.Ig,Zxc _ _,_,rfl,b,vb,n,n.toNat,rfl,rfl,hb,Zw9 h0 h1,?_⟩;refine ⟨_,rfl,p,g.bD,dx,_,_,rfl,g7 _,T.mf,T.GD,Es _ _,.inl ⟨rfl,vl,ar.of (d_ _)⟩,?_⟩;refine ⟨_,rfl,_,rfl,aX 3,fun t ht=>?_⟩;have nlt:l≠t:=Zg (d_ _) ht
  have Ap:H t=none:=by
   by_cases z:t=b
   ·rw [z,Zb] at ht;cases ht
   ·rw [Zf z] at ht;exact ht
  refine ⟨l,vl,_,rfl,rfl,(by rw [Zf nlt];exact d_ _),(YO hz (by decide)),?_⟩;exact q t Ap
theorem Zk2:Zp ["self"] ["self"] (Zi ZgD):=ZN (by decide +kernel)
theorem Zfo (T:Tx K mg g):ah P w K mg base (aA P w) 1 g.HW g.IU ["self"] (ZyX g.bD):=by
 refine T.ZgP.aP Zk2 (fun vs H Q E h=>?_) (fun aq A outer s H vs Q E hr h=>?_)
 ·obtain ⟨p,dx,b,l,vl,rfl,_⟩:=h;rfl
 ·obtain ⟨p,dx,b,l,vl,rfl,hp,hl,hz,q⟩:=h;refine ⟨_,(Zh (ZC (j9 YR Xl Xk oP (Zv (pv 0) rfl) (Za (dz (Za Zr Ze)) Ze)))),?_⟩;refine ⟨_,rfl,p,g.bD,dx,_,_,rfl,hp,T.mf,T.GD,Es _ _,.inl ⟨rfl,vl,ar.of hl⟩,?_⟩;refine ⟨aX 1,fun t ht=>?_⟩;exact ⟨l,vl,_,rfl,rfl,(by rw [Zf (Zg hl ht)];exact hl),(YO hz (by decide)),q t ht⟩
theorem ZuU {H:Hp} {v:V} {d:Wd} (h:Im H v d):∀ n:Nat,dM H (List.replicate n v) (List.replicate n d)
 | 0=>.nil
 | n + 1=>.cons h (ZuU h n)
theorem Zpt:Zp ["self","count"] ["self","count"] (Zi G9):=ZN (by decide +kernel)
theorem ZpM (T:Tx K mg g):ah P w K mg base (aA P w) 1 g.Fn g.GX ["self","count"] (ZyS g.bD g.cP):=by
 refine T.Zmd.aP Zpt (fun vs H Q E h=>?_) (fun aq A outer s H vs Q E hr h=>?_)
 ·obtain ⟨p,dx,n,rfl,_⟩:=h;rfl
 ·obtain ⟨p,dx,n,rfl,hp,hE,q⟩:=h
  refine ⟨_,(Zd (Z0 (PW.pt (l' (ZG vg (pv 1) (ZJ (v:=.int 16) rfl T.ZlV ⟨_,rfl⟩) (ZO _)) (qf (ZG sq (pv 1) (ZJ (v:=.int 256) rfl T.Zh8 ⟨_,rfl⟩) (ZO _))))) (Zh (Z2 T.vY rfl T.tj (Za Zr Ze))) Zx)
   (Zd (fu (pv 0) (vF (own:=["number"]) (fv:=[]) (ix:=[]) (mq (sc:=Zi G9) (N:=["self","count"]) rfl rfl (by decide +kernel)) rfl (vT rfl T.qm (Za (pv 1) Ze)) (fun _ _ _ _ _=>Z9 (i:=0) (show (["number"]:List Str).Nodup from by decide +kernel) rfl (Or.inl rfl) (Or.inr rfl)) (fun _ _ _ _ _=>vA) (fun _ _ _ _ _=>(Zy Zup (dz (Za Zl Ze)) (ZJ (v:=.int 64) rfl T.Ib ⟨_,rfl⟩)))) rfl)
   (Zh (fu (pv 0) (fq Ze) rfl)))),?_⟩
  refine ⟨_,rfl,_,_,rfl,rfl,_,rfl,?_⟩
  by_cases h1:n < 16
  ·rw [decide_eq_true h1];refine ay (ay ?_);exact ⟨aX 1,hE (.inl h1)⟩
  ·rw [decide_eq_false h1];refine aw ⟨_,rfl,_,_,rfl,rfl,_,rfl,?_⟩
   by_cases h2:256 < n
   ·rw [decide_eq_true h2];refine ay ?_;exact ⟨aX 1,hE (.inr h2)⟩
   ·rw [decide_eq_false h2];refine aw ?_;have uX:16<=n:=by omega
    have rY:n<=256:=by omega
    -- self.blocks=[(0,) * qT for number in range(count)]
    refine ⟨_,rfl,n,rfl,by omega,by omega,fun D hD=>?_⟩;have wL:p≠D:=Zg hp hD
    have hnL:n.toNat<=Ym:=by
     have:(256:Nat)<=Ym:=by decide
     omega
    refine Znq (dN Zy1 (tE (cY (tC (V.int 0)) bp)) (tC (V.int 64))) (n:=n.toNat) (lo:=0) (fun i ys H'=>ys.length=i/\H' D=some (.lst ys)/\dM H' ys (List.replicate i xS)/\ag H H') ⟨rfl,Zb,.nil,Zj hD⟩ hnL (fun i ys H' h=>⟨h.2.1,WW h.1⟩) (fun i ys H' N hi h k=>?_) (fun ys H' h=>?_)
    ·obtain ⟨e1,e2,e3,e4⟩:=h;refine ⟨aX 1,fun t ht=>?_⟩;refine ⟨t,64,[.int 0],rfl,rfl,Zb,by simp,by decide,by decide,by show 1 * 64<=Ym;decide,fun u hu=>?_⟩;have ntD:D≠t:=Zg e2 ht;have nuD:D≠u:=Zg (H:=upd H' t (.tup [.int 0])) (by rw [Zf ntD];exact e2) hu;have sm:ag H' (upd (upd H' t (.tup [.int 0])) u (.tup (List.replicate (64:Int).toNat [V.int 0]).flatten)):=(Zj ht).trans (Zj hu);have uU:(upd (upd H' t (.tup [.int 0])) u (.tup (List.replicate (64:Int).toNat [V.int 0]).flatten)) D=some (.lst ys):=sm _ _ e2;refine k _ _ uU ⟨by rw [Yf,e1];rfl,Zb,?_,?_⟩
     ·have hz:Im (upd (upd (upd H' t (.tup [.int 0])) u (.tup (List.replicate (64:Int).toNat [V.int 0]).flatten)) D (.lst (ys++[.ref u]))) (.ref u) xS:=by
       refine .tup (xs:=List.replicate 64 (V.int 0)) ?_ (ZuU (.int 0) 64);rw [Zf nuD.symm,Zb];rw [vN];rfl
      rw [List.replicate_succ'];refine dM.snoc hz (dM.keep (fun a xs e=>?_) e3);have e':=sm _ _ e
      have:a≠D:=ZR e e2 (by intro z;cases z)
      rw [Zf this];exact e'
     ·intro b o e
      have:b≠D:=fun z=>by rw [z,hD] at e;cases e
      rw [Zf this];exact sm _ _ (e4 _ _ e)
    ·obtain ⟨e1,e2,e3,e4⟩:=h;have pQ:H' p=some (.ins g.bD dx []):=e4 _ _ hp;refine ⟨_,rfl,p,g.bD,dx,[],rfl,pQ,T.mf,T.Ig,(by show 0 < 1000;decide),?_⟩;refine ⟨Yv _,fun L hL=>?_⟩;have CU:p≠L:=Zg (H:=upd H' p (.ins g.bD dx (av "blocks" (.ref D) []))) Zb hL;have nDL:D≠L:=Zg (H:=upd H' p (.ins g.bD dx (av "blocks" (.ref D) []))) (by rw [Zf wL.symm];exact e2) hL;have hL':H' L=none:=by rw [Zf CU.symm] at hL;exact hL
     refine ⟨_,rfl,p,g.bD,dx,_,rfl,(by rw [Zf CU,Zb]),T.mf,T.GD,(by show 1 < 1000;decide),?_⟩
     have hLH:H L=none:=by
      cases z:H L with
      | none=>rfl
      | some o=>have:=e4 _ _ z;rw [hL'] at this;cases this
     refine q uX rY D L ys _ hD hLH ⟨⟨dx,Zb⟩,?_,?_,?_,.nil,nDL⟩ fun c o e hc=>?_
     ·rw [Zf wL.symm,Zf nDL,Zf wL.symm];exact e2
     ·rw [Zf CU.symm,Zb]
     ·refine dM.keep (fun a xs e=>?_) e3;have a1:a≠p:=ZR e pQ (by intro z;cases z);have a2:a≠L:=Zg e hL';rw [Zf a1,Zf a2,Zf a1];exact e
     ·have c2:c≠L:=Zg e hLH;rw [Zf hc,Zf c2,Zf hc];exact e4 _ _ e
def ow:Str:="ABCDEFGHIJKLMNOPQRSTUVWXYZabcdefghijklmnopqrstuvwxyz0123456789._-"
def sH (c:Nat):Bool:=!(YX ow ⟨#[c]⟩ 0 ow.length 1).isEmpty
def ef (t:Str):Bool:=if t.length < 1∨8 < t.length∨t="."∨t=".." then false else (List.range t.cps.size).all fun i=>sH (t.cps.getD i 0)
def Zw (p:Str):List Str:=if p="/" then [] else ki (kX p (some 1) none) "/"
def eW (p:Str):Bool:=if 60 < p.length then false else if !(decide (0 + Str.length "/"<=p.length) && WK p "/" 0) then false else (Zw p).all ef
def ZvP:Sp:=fun vs H Q _=>∃ t,vs=[.str t]/\t.length<=Ym/\∀ H',ag H H'->Q (.bl (ef t)) H'
theorem Zxh (n:Nat) (f:Nat->Bool):((List.range n).filterMap fun i=>some (V.bl (f i)))=((List.range n).map f).map V.bl:=by
 rw [Ybm,XJ];rfl
theorem all_map (n:Nat) (f:Nat->Bool):((List.range n).map f).all id=(List.range n).all f:=by
 rw [List.all_map];rfl
theorem Ko (t a b:Str):pK (.str t) [.str a,.str b]=(decide (t=a) || decide (t=b)):=by
 show ((a == t) || ((b == t) || false))=_;rw [Xs]
 congr 1
 ·rw [WE,beq_iff_eq,decide_eq_true_iff];exact eq_comm
 ·rw [WE,beq_iff_eq,decide_eq_true_iff];exact eq_comm
theorem ZsY:Zp ["text"] ["text"] (Zi F2):=ZN (by decide +kernel)
theorem Znc (T:Tx K mg g):ah P w K mg base (aA P w) 1 g.EF g.FG ["text"] ZvP:=by
 refine T.BA.aP ZsY (fun vs H Q E h=>?_) (fun aq A outer s H vs Q E hr h=>?_)
 ·obtain ⟨t,rfl,_⟩:=h;rfl
 ·obtain ⟨t,rfl,hl,q⟩:=h;have hc:t.cps.size=t.length:=rfl
  refine ⟨_,(Zd (Z0 (PW.pt (l' (ZG vg (ZD HM (by rfl) T.eu YC (Za (pv 0) Ze)) Zl (ZO _)) (l' (ZG sq (ZD HM (by rfl) T.eu YC (Za (pv 0) Ze)) (ZJ (v:=.int 8) rfl T.ZgK ⟨_,rfl⟩) (ZO _)) (qf (ZG Fv (pv 0) (dz (Za Zr (Za Zr Ze))) rfl))))) (Zh (Zt nh)) Zx)
   (Zh (Zt (ZD Zsr (by rfl) T.Zyw PyProof.Rows.Boot.«all» (Za (vF (own:=["sign"]) (fv:=[]) (ix:=[]) (mq (sc:=Zi F2) (N:=["text"]) rfl rfl (by decide +kernel)) rfl (Zw0 (pv 0)) (fun _ _ _ _ _=>Z9 (i:=0) (show (["sign"]:List Str).Nodup from by decide +kernel) rfl (Or.inl rfl) (Or.inr rfl)) (fun _ _ _ _ _=>vA) (fun _ _ _ _ _=>(mh Zuq (pv 0) (ZJ (v:=.str "ABCDEFGHIJKLMNOPQRSTUVWXYZabcdefghijklmnopqrstuvwxyz0123456789._-") rfl T.Zj5 ⟨_,rfl⟩) rfl))) Ze))))),?_⟩
  refine ⟨_,rfl,_,rfl,hl,_,_,rfl,rfl,_,rfl,?_⟩
  by_cases h1:t.length < 1
  ·rw [decide_eq_true (show (t.length:Int) < 1 by omega)];refine ay (ay ?_)
   have:=q H (ag.refl _)
   unfold ef at this;rw [if_pos (.inl h1)] at this;exact this
  ·rw [decide_eq_false (show ¬ (t.length:Int) < 1 by omega)];refine aw ?_;refine ⟨_,rfl,_,rfl,hl,_,_,rfl,rfl,_,rfl,?_⟩
   by_cases h2:8 < t.length
   ·rw [decide_eq_true (show (8:Int) < (t.length:Int) by omega)];refine ay (ay ?_)
    have:=q H (ag.refl _)
    unfold ef at this;rw [if_pos (.inr (.inl h2))] at this;exact this
   ·rw [decide_eq_false (show ¬ (8:Int) < (t.length:Int) by omega)];refine aw ?_;refine ⟨_,rfl,(aX 2),fun p hp=>?_⟩;refine ⟨p,_,rfl,.inr (aG.of Zb),rfl,rfl,_,rfl,?_⟩;have s1:ag H (upd H p (.tup [.str ".",.str ".."])):=Zj hp;rw [show (if false=true then !pK (.str t) [.str ".",.str ".."] else pK (.str t) [.str ".",.str ".."])=(decide (t=".") || decide (t="..")) from Ko _ _ _]
    by_cases h3:t="."∨t=".."
    ·rw [show (decide (t=".") || decide (t=".."))=true by simpa using h3];refine ay ?_
     have:=q _ s1
     unfold ef at this;rw [if_pos (.inr (.inr h3))] at this;exact this
    ·rw [show (decide (t=".") || decide (t=".."))=false by simpa using h3];refine aw ?_;refine ⟨_,rfl,_,rfl,fun D hD=>?_⟩;refine yf (J:=Cq t) t.cps.size (fun i=>some (V.bl (sH (t.cps.getD i 0)))) (fun i x=>x=.str ⟨#[t.cps.getD i 0]⟩) hD (by omega) (fun i H' hi _=>hi) (fun H' _=>rfl) (fun i H' x H2 hi _ hy=>?_) (fun i x H' N hi hx _ k=>?_) fun H' s' hH=>?_
     ·obtain ⟨e,c,hc,e2⟩:=hy;refine ⟨e,?_⟩;rw [e2,show t.cps.getD i 0=c by rw [YE,hc];rfl]
     ·subst hx;refine ay (B:=N none H') ?_;exact ⟨_,rfl,_,_,rfl,rfl,k _ (ag.refl _)⟩
     ·refine ⟨D,(List.range t.cps.size).map fun i=>sH (t.cps.getD i 0),rfl,ar.of (by rw [hH,Zxh]),?_⟩
      have:=q _ (s1.trans s')
      unfold ef at this;rw [if_neg (by intro z;rcases z with z | z | z;exact h1 z;exact h2 z;exact h3 z)] at this;rw [all_map];exact this
theorem Zxs (s:Str) (i j:Nat):(Builtin.Str.strSub s i j).length<=s.length:=by
 show (s.cps.extract i j).size<=s.cps.size;rw [Array.size_extract];omega
theorem Zun (s:Str) (o:List Nat) (w:Nat):(W0 s o w).length<=o.length + 1:=by
 show (((0::o.map (· + w)).zip (o++[s.length])).map _).length<=_;rw [Yb,Ybu,Yz,Yb];omega
theorem Zpd (a b:Str):(ki a b).length<=a.length + 2:=by
 unfold ki
 split
 ·show 1<=_;omega
 ·split
  ·show 1<=_;omega
  ·refine Yk (Zun _ _ _) ?_
   have:=PySem.StrLaws.occ_length_le a b 0 a.length (a.length + 1)
   omega
theorem ZtR (a b:Str):∀ n∈ki a b,n.length<=a.length:=by
 intro n hn;unfold ki at hn
 split at hn
 ·rw [List.mem_singleton.mp hn];exact Ye _
 ·split at hn
  ·rw [List.mem_singleton.mp hn];exact Ye _
  ·obtain ⟨⟨i,j⟩,_,rfl⟩:=List.mem_map.mp hn;exact Zxs _ _ _
theorem EB (a:Str) (lo hi:Option Int):(kX a lo hi).length<=a.length:=by
 unfold kX
 split
 ·exact Ye _
 ·show (((WH lo hi 1 a.length).filterMap (a.cps[·]?)).toArray).size<=_;rw [Yn];exact Yk (Ya1 _ _) (PyProof.Rows.indices_len_le _ _ _)
theorem yA (p:Str):(Zw p).length<=p.length + 2:=by
 unfold Zw
 split
 ·exact Yv _
 ·exact Yk (Zpd _ _) (YbF (EB _ _ _) 2)
theorem yB (p:Str):∀ n∈Zw p,n.length<=p.length:=by
 intro n hn;unfold Zw at hn
 split at hn
 ·exact nomatch hn
 ·exact Yk (ZtR _ _ n hn) (EB _ _ _)
theorem Zws (p:Str) (i:Nat):((Zw p).getD i "").length<=p.length:=by
 rw [Ys]
 cases h:(Zw p)[i]? with
 | none=>exact Yv _
 | some n=>exact yB p n (Yy h)
def ZkP:Sp:=fun vs H Q _=>∃ p,vs=[.str p]/\p.length<=1000/\∀ l H',ag H H'->H l=none->H' l=some (.lst ((Zw p).map V.str))->Q (.ref l) H'
theorem Zs {n m:Nat} (h:n<=m) (hm:m<=100000):n<=Ym:=by
 have:(100000:Nat)<=Ym:=by decide
 omega
theorem ZnL:Zp ["path"] ["path"] (Zi Zjv):=ZN (by decide +kernel)
theorem mn (T:Tx K mg g):ah P w K mg base (aA P w) 1 g.GL g.Ht ["path"] ZkP:=by
 refine T.Z7.aP ZnL (fun vs H Q E h=>?_) (fun aq A outer s H vs Q E hr h=>?_)
 ·obtain ⟨p,rfl,_⟩:=h;rfl
 ·obtain ⟨p,rfl,hl,q⟩:=h
  refine ⟨_,(Zd (Z0 (ZG fm (pv 0) Zr (ZO _)) (Zh (Zt (fq Ze))) Zx)
   (Zh (Zt (j9 Ybk PySem.F.slot_str_split PySem.F.type_str_split Zuz (nF ZyZ (pv 0) (lI Zl) ql) (Za Zr Ze))))),?_⟩
  refine ⟨_,rfl,rfl,_,rfl,?_⟩
  by_cases h1:p="/"
  ·rw [decide_eq_true (show V.str p=V.str "/" by rw [h1])];refine ay ⟨Yv _,fun l hn=>?_⟩;refine q l _ (Zj hn) hn ?_;unfold Zw;rw [if_pos h1];exact Zb
  ·rw [decide_eq_false (show ¬ V.str p=V.str "/" by intro z;injection z with z;exact h1 z)];refine aw ?_;have cE:=EB p (some 1) none;refine ⟨_,rfl,_,rfl,_,rfl,Zs (Yk cE hl) (by decide),rfl,_,_,rfl,rfl,rfl,Zs (Yk cE hl) (by decide),Zs (Yk (Zpd _ _) (YbF (Yk cE hl) 2)) (by decide),fun l hn=>?_⟩;refine q l _ (Zj hn) hn ?_;unfold Zw;rw [if_neg h1];exact Zb
theorem Zs2 (f:Str->Bool) (xs:List Str):((List.range xs.length).all fun i=>f (xs.getD i ""))=xs.all f:=by
 induction xs with
 | nil=>rfl
 | cons x xs ih=>
  rw [Yz,List.range_succ_eq_map,Ya7,List.all_map,Ya7,<- ih];rfl
def ZvO:Sp:=fun vs H Q _=>∃ t,vs=[.str t]/\t.length<=1000/\∀ H',ag H H'->Q (.bl (eW t)) H'
theorem ZsX:Zp ["text"] ["text"] (Zi F3):=ZN (by decide +kernel)
theorem Ztc (T:Tx K mg g):ah P w K mg base (aA P w) 2 g.EG g.FH ["text"] ZvO:=by
 refine T.Fo.aP ZsX (fun vs H Q E h=>?_) (fun aq A outer s H vs Q E hr h=>?_)
 ·obtain ⟨t,rfl,_⟩:=h;rfl
 ·obtain ⟨t,rfl,hl,q⟩:=h
  refine ⟨_,(Zd (Z0 (PW.pt (l' (ZG sq (ZD HM (by rfl) T.eu YC (Za (pv 0) Ze)) (ZJ (v:=.int 60) rfl T.ZmH ⟨_,rfl⟩) (ZO _)) (qf (nz (md (j9 Ybk PySem.F.slot_str_startswith PySem.F.type_str_startswith Zmz (pv 0) (Za Zr Ze))))))) (Zh (Zt nh)) Zx)
   (Zh (Zt (ZD Zsr (by rfl) T.Zyw PyProof.Rows.Boot.«all» (Za (vF (own:=["name"]) (fv:=[]) (ix:=[]) (mq (sc:=Zi F3) (N:=["text"]) rfl rfl (by decide +kernel)) rfl (qk (Zn (mn T) hr.dn rfl T.ml T.Z7.kp T.aE .nil Zc (Za (pv 0) Ze))) (fun _ _ _ _ _=>Z9 (i:=0) (show (["name"]:List Str).Nodup from by decide +kernel) rfl (Or.inl rfl) (Or.inr rfl)) (fun _ _ _ _ _=>vA) (fun _ _ _ _ _=>(Zn (Znc T) hr.dn rfl T.ZpR T.BA.kp T.g4 .nil lA (Za (pv 0) Ze)))) Ze))))),?_⟩
  refine ⟨_,rfl,_,rfl,Zs hl (by decide),_,_,rfl,rfl,_,rfl,?_⟩
  by_cases h1:60 < t.length
  ·rw [decide_eq_true (show (60:Int) < (t.length:Int) by omega)];refine ay (ay ?_)
   have:=q H (ag.refl _)
   unfold eW at this;rw [if_pos h1] at this;exact this
  ·rw [decide_eq_false (show ¬ (60:Int) < (t.length:Int) by omega)];refine aw ?_;refine ⟨_,rfl,rfl,_,_,rfl,rfl,_,rfl,?_⟩
   by_cases h2:(!(decide (0 + Str.length "/"<=t.length) && WK t "/" 0))=true
   ·have rY:(decide (0 + Str.length "/"<=t.length) && WK t "/" 0)=false:=(Bool.not_eq_true' _).mp h2;rw [rY];refine ay ?_
    have:=q H (ag.refl _)
    unfold eW at this;rw [if_neg h1,if_pos h2] at this;exact this
   ·have rY:(decide (0 + Str.length "/"<=t.length) && WK t "/" 0)=true:=by
     cases z:(decide (0 + Str.length "/"<=t.length) && WK t "/" 0) with
     | true=>rfl
     | false=>rw [z] at h2;exact absurd rfl h2
    rw [rY];refine aw ?_;refine ⟨_,rfl,t,rfl,hl,fun l H1 s1 hn d_=>?_⟩;refine ⟨l,rfl,⟨_,ar.of d_⟩,fun D hD=>?_⟩;have hlen:(Zw t).length<=1002:=Yk (yA t) (YbF hl 2);have bO:∀ H',ag H1 H'->ar K H' l ((Zw t).map V.str):=fun H' s'=>ar.of (s' _ _ d_);refine yf (J:=tD K l) (Zw t).length (fun i=>some (V.bl (ef ((Zw t).getD i "")))) (fun i x=>x=.str ((Zw t).getD i "")) hD (Zs hlen (by decide)) (fun i H' hi s'=>⟨_,.str ((Zw t).getD i ""),bO H' s',?_⟩) (fun H' s'=>⟨_,bO H' s',by rw [Yb];exact Ye _⟩) (fun i H' x H2 hi s' hy=>?_) (fun i x H' N hi hx s' k=>?_) fun H' s' hH=>?_
    ·rw [Yo,Ys,Yh hi];rfl
    ·obtain ⟨e,hx⟩:=hy;refine ⟨e,?_⟩
     have:=hx _ (bO H' s')
     rw [Yo,Yh hi] at this;rw [Ys,Yh hi];exact (YB this).symm
    ·subst hx;refine ay (B:=N none H') ?_;exact ⟨_,rfl,_,rfl,Zs (Yk (Zws t i) hl) (by decide),fun H5 s5=>k _ s5⟩
    ·refine ⟨D,(List.range (Zw t).length).map fun i=>ef ((Zw t).getD i ""),rfl,ar.of (by rw [hH,Zxh]),?_⟩
     have:=q _ (s1.trans s')
     unfold eW at this;rw [if_neg h1,if_neg h2] at this;rw [all_map,Zs2];exact this
theorem ZX (a b:Str):(a++b).length=a.length + b.length:=by
 show (a.cps++b.cps).size=_;exact Array.size_append
def dQ {α:Type} (g:Gs) (R:Hp->α->V->Prop) (H:Hp) (m:Except Rf α) (Q:VK) (E:XK):Prop:=match m with
 | .ok x=>∀ v H',ag H H'->R H' x v->Q v H'
 | .error r=>∀ H',ag H H'->E (.ref (g.xa r)) none H'
theorem dQ.ok {α:Type} {g:Gs} {R:Hp->α->V->Prop} {H:Hp} {m:Except Rf α} {Q:VK} {E:XK} (h:dQ g R H m Q E) {x:α} (e:m=.ok x):∀ v H',ag H H'->R H' x v->Q v H':=by subst e;exact h
theorem dQ.no {α:Type} {g:Gs} {R:Hp->α->V->Prop} {H:Hp} {m:Except Rf α} {Q:VK} {E:XK} (h:dQ g R H m Q E) {r:Rf} (e:m=.error r):∀ H',ag H H'->E (.ref (g.xa r)) none H':=by subst e;exact h
def lu (_:Hp) (_:Unit) (v:V):Prop:=v=.aL
def ZzT (_:Hp) (n:Int) (v:V):Prop:=v=.int n
def mr (p:Str):Except Rf Unit:=if eW p then .ok () else .error .aK
def ZqO (g:Gs):Sp:=fun vs H Q E=>∃ p,vs=[.str p]/\p.length<=1000/\dQ g lu H (mr p) Q E
theorem ZnO:Zp ["path"] ["path"] (Zi ZjB):=ZN (by decide +kernel)
theorem wd (T:Tx K mg g):ah P w K mg base (aA P w) 3 g.Gn g.HQ ["path"] (ZqO g):=by
 refine T.qC.aP ZnO (fun vs H Q E h=>?_) (fun aq A outer s H vs Q E hr h=>?_)
 ·obtain ⟨p,rfl,_⟩:=h;rfl
 ·obtain ⟨p,rfl,hl,q⟩:=h;refine ⟨_,(Zh (Z0 (nz (md (Zn (Ztc T) hr.dn rfl T.ZuJ T.Fo.kp T.lj .nil Zc (Za (pv 0) Ze)))) (Zh (Z2 T.Zo1 rfl T.FK (Za (vz (vy (pv 0) (vx vw))) Ze))) Zx)),?_⟩;refine ⟨_,rfl,p,rfl,hl,fun H1 s1=>⟨_,rfl,?_⟩⟩
  cases hb:eW p with
  | true=>exact aw (q.ok (x:=()) (by unfold mr;rw [hb];rfl) _ _ s1 rfl)
  | false=>
   refine ay ?_;refine ⟨_,rfl,p,rfl,Zs hl (by decide),?_,?_,?_,?_,q.no (r:=.aK) (by unfold mr;rw [hb];rfl) _ s1⟩
   ·rw [ZX];exact Zs (m:=1000) (by show 0 + p.length<=1000;omega) (by decide)
   ·rw [ZX,ZX];exact Zs (m:=1100) (by show 0 + p.length + 11<=1100;omega) (by decide)
   ·rw [ZX,ZX];exact Zs (m:=1100) (by show 0 + p.length + 11<=1100;omega) (by decide)
   ·show 1<=Ym;decide
abbrev Row:=List Int
abbrev ao:=List (Str×Int)
structure az where
 dat:List (Int×Row)
 ent:List (Int×ao)
section
variable {κ α:Type} [DecidableEq κ]
def aa (xs:List (κ×α)) (k:κ):Option α:=(xs.find? fun p=>decide (p.1=k)).map (·.2)
def af (xs:List (κ×α)) (k:κ) (x:α):List (κ×α):=if (xs.any fun p=>decide (p.1=k))=true then xs.map (fun p=>if p.1=k then (p.1,x) else p) else xs++[(k,x)]
def ZQ (xs:List (κ×α)) (k:κ):List (κ×α):=xs.filter fun p=>decide (p.1≠k)
theorem fI {p:κ×α} {r:List (κ×α)} {k:κ} (e:p.1=k):aa (p::r) k=some p.2:=by simp [aa,Wb,e]
theorem ZZ {p:κ×α} {r:List (κ×α)} {k:κ} (e:¬ p.1=k):aa (p::r) k=aa r k:=by simp [aa,Wb,e]
theorem sQ (k:κ):∀ xs:List (κ×α),(xs.any fun p=>decide (p.1=k))=(aa xs k).isSome
 | []=>rfl
 | p::r=>by
  rw [W4,sQ k r]
  by_cases e:p.1=k
  ·rw [fI e,decide_eq_true e];rfl
  ·rw [ZZ e,decide_eq_false e];rfl
theorem qp (xs:List (κ×α)) (k:κ) (x:α):(af xs k x).length<=xs.length + 1:=by
 unfold af
 split
 ·rw [Yb];omega
 ·rw [Yf];exact Ye _
end
def Z8 {κ α ρ:Type} (f:κ->ρ) (R:Hp->α->V->Prop) (H:Hp) (xs:List (κ×α)) (kvs:List (ρ×V)):Prop:=WA (fun p q=>p.1=f q.1/\R H q.2 p.2) kvs xs
def jR {α:Type} (R:Hp->α->V->Prop):Prop:=∀ (H H':Hp) (x:α) (v:V),ag H H'->R H x v->R H' x v
section
variable {κ α ρ:Type} [DecidableEq κ] [DecidableEq ρ] {f:κ->ρ} {R:Hp->α->V->Prop} {H:Hp}
theorem Z8.same {H':Hp} (m:jR R) (s:ag H H') {xs:List (κ×α)} {kvs:List (ρ×V)} (h:Z8 f R H xs kvs):Z8 f R H' xs kvs:=by
 unfold Z8 at *
 induction h with
 | nil=>exact .nil
 | cons a _ ih=>exact .cons ⟨a.1,m _ _ _ _ s a.2⟩ ih
theorem Z8.len {xs:List (κ×α)} {kvs:List (ρ×V)} (h:Z8 f R H xs kvs):kvs.length=xs.length:=Xr h
theorem Z8.no (inj:∀ a b,f a=f b->a=b) {xs:List (κ×α)} {kvs:List (ρ×V)} (h:Z8 f R H xs kvs) {k:κ} (e:aa xs k=none):aV kvs (f k)=none:=by
 unfold Z8 at h
 induction h with
 | nil=>rfl
 | @cons p q _ _ a t ih=>
  by_cases z:q.1=k
  ·rw [fI z] at e;cases e
  ·rw [ZZ z] at e;rw [kn (by rw [a.1];exact fun y=>z (inj _ _ y))];exact ih e
theorem Z8.yes (inj:∀ a b,f a=f b->a=b) {xs:List (κ×α)} {kvs:List (ρ×V)} (h:Z8 f R H xs kvs) {k:κ} {x:α} (e:aa xs k=some x):∃ v,aV kvs (f k)=some v/\R H x v:=by
 unfold Z8 at h
 induction h with
 | nil=>cases e
 | @cons p q _ _ a t ih=>
  by_cases z:q.1=k
  ·rw [fI z] at e
   cases e
   exact ⟨p.2,kN (by rw [a.1,z]),a.2⟩
  ·rw [ZZ z] at e;obtain ⟨v,h1,h2⟩:=ih e;exact ⟨v,by rw [kn (by rw [a.1];exact fun y=>z (inj _ _ y))];exact h1,h2⟩
theorem Z8.some (inj:∀ a b,f a=f b->a=b) {xs:List (κ×α)} {kvs:List (ρ×V)} (h:Z8 f R H xs kvs) (k:κ):(aV kvs (f k)).isSome=(aa xs k).isSome:=by
 cases e:aa xs k with
 | none=>rw [h.no inj e];rfl
 | some x=>obtain ⟨v,h1,_⟩:=h.yes inj e;rw [h1];rfl
theorem Z8.kQ (inj:∀ a b,f a=f b->a=b) {k:κ} {x:α} {v:V} (r:R H x v):∀ {xs:List (κ×α)} {kvs:List (ρ×V)},Z8 f R H xs kvs->Z8 f R H (xs.map fun p=>if p.1=k then (p.1,x) else p) (kvs.map fun kv=>if kv.1=f k then (kv.1,v) else kv)
 | _,_,.nil=>.nil
 | q::_,p::_,.cons a t=>by
  refine .cons ?_ (Z8.kQ inj r t);show (if p.1=f k then (p.1,v) else p).1=f (if q.1=k then (q.1,x) else q).1/\R H (if q.1=k then (q.1,x) else q).2 (if p.1=f k then (p.1,v) else p).2
  by_cases z:q.1=k
  ·rw [if_pos z,if_pos (by rw [a.1,z])];exact ⟨a.1,r⟩
  ·rw [if_neg z,if_neg (by rw [a.1];exact fun y=>z (inj _ _ y))];exact a
theorem Z8.put (inj:∀ a b,f a=f b->a=b) {xs:List (κ×α)} {kvs:List (ρ×V)} (h:Z8 f R H xs kvs) {k:κ} {x:α} {v:V} (r:R H x v):Z8 f R H (af xs k x) (putK kvs (f k) v):=by
 unfold af putK;rw [vP,sQ,h.some inj k]
 split
 ·exact Z8.kQ inj r h
 ·exact YaX h ⟨rfl,r⟩
end
theorem ee (a b:Int) (h:(X8 a:Key)=X8 b):a=b:=Sum.inl.inj h
theorem vE (a b:Str) (h:(Xp a:Key)=Xp b):a=b:=Sum.inr.inj h
theorem vJ (es:ao) (n:Str):aV (er es) (.inr n)=(aa es n).map V.int:=by
 induction es with
 | nil=>rfl
 | cons p r ih=>
  by_cases z:p.1=n
  ·rw [fI z];exact kN (p:=(Xp p.1,V.int p.2)) (by rw [z])
  ·rw [ZZ z,<- ih];exact kn (p:=(Xp p.1,V.int p.2)) (fun y=>z (Sum.inr.inj y))
theorem Zww (es:ao) (n:Str) (i:Int):putK (er es) (.inr n) (.int i)=er (af es n i):=by
 unfold af putK;rw [vP,sQ,vJ,Yac]
 split
 ·unfold er;rw [XJ,XJ];refine YbO fun p _=>?_;show (if (Xp p.1:Key)=Xp n then (Xp p.1,V.int i) else (Xp p.1,V.int p.2))=(Xp (if p.1=n then (p.1,i) else p).1,V.int (if p.1=n then (p.1,i) else p).2)
  by_cases z:p.1=n
  ·rw [if_pos z,if_pos (by rw [z])]
  ·rw [if_neg z,if_neg (fun y=>z (Sum.inr.inj y))]
 ·unfold er;rw [Yw];rfl
theorem Zu8 (es:ao) (n:Str):gz (er es) (.inr n)=er (ZQ es n):=by
 unfold gz ZQ er;rw [List.filter_map]
 congr 1
 refine List.filter_congr fun p _=>?_;show decide ((Xp p.1:Key)≠Xp n)=decide (p.1≠n)
 by_cases z:p.1=n
 ·simp [z]
 ·have:(Xp p.1:Key)≠Xp n:=fun y=>z (Sum.inr.inj y)
  rw [decide_eq_true this,decide_eq_true z]
theorem ED (es:ao):(er es).length=es.length:=Yb ..
def Z1 (H:Hp) (row:Row) (v:V):Prop:=∃ t,v=.ref t/\H t=some (.tup (row.map V.int))
def gk (H:Hp) (es:ao) (v:V):Prop:=∃ a,v=.ref a/\H a=some (.dK (er es))
theorem Z1.mono:jR Z1:=fun _ _ _ _ s ⟨t,e,h⟩=>⟨t,e,s _ _ h⟩
theorem gk.mono:jR gk:=fun _ _ _ _ s ⟨t,e,h⟩=>⟨t,e,s _ _ h⟩
def qY (d e:V):List (Str×V):=av "entries" e (av "data" d [])
theorem ZAr:¬ (("data":Str)="entries"):=by decide +kernel
theorem lB (d e:V):(qY d e).lookup ("data":Str)=some d:=by
 unfold qY;rw [Zo,if_neg ZAr,Zo,if_pos rfl]
theorem gm (d e:V):(qY d e).lookup ("entries":Str)=some e:=by
 unfold qY;rw [Zo,if_pos rfl]
structure ZzM (g:Gs) (H:Hp) (S:az) (p dx da ea:Addr) (dk ek:List (Key×V)):Prop where
 ob:H p=some (.ins g.State dx (qY (.ref da) (.ref ea)))
 hd:H da=some (.dK dk)
 he:H ea=some (.dK ek)
 rd:Z8 X8 Z1 H S.dat dk
 re:Z8 X8 gk H S.ent ek
def ZA (g:Gs) (H:Hp) (S:az) (v:V):Prop:=∃ p dx da ea dk ek,v=.ref p/\ZzM g H S p dx da ea dk ek
theorem ZA.mono {g:Gs}:jR (ZA g):=fun _ _ _ _ s ⟨p,dx,da,ea,dk,ek,e,h⟩=>⟨p,dx,da,ea,dk,ek,e,s _ _ h.ob,s _ _ h.hd,s _ _ h.he,h.rd.same Z1.mono s,h.re.same gk.mono s⟩
theorem u1 {n:Nat} (h:n + 64 < cLine):n + 1 < cLine:=by omega
def ZE (S:az) (n:Int):Bool:=(aa S.dat n).isSome || (aa S.ent n).isSome
def Zpe (g:Gs):Sp:=fun vs H Q _=>∃ p dx d e,vs=[.ref p,d,e]/\H p=some (.ins g.State dx [])/\∀ H',(∀ b o,H b=some o->b≠p->H' b=some o)->H' p=some (.ins g.State dx (qY d e))->Q .aL H'
theorem ZnS:Zp ["self","data","entries"] ["self","data","entries"] (Zi ZjH):=ZN (by decide +kernel)
theorem Cc (T:Tx K mg g):ah P w K mg base (aA P w) 1 g.GO g.HI ["self","data","entries"] (Zpe g):=by
 refine T.Zkd.aP ZnS (fun vs H Q E h=>?_) (fun aq A outer s H vs Q E hr h=>?_)
 ·obtain ⟨p,dx,d,e,rfl,_⟩:=h;rfl
 ·obtain ⟨p,dx,d,e,rfl,hp,q⟩:=h
  refine ⟨_,(Zd (fu (pv 0) (pv 1) rfl)
   (Zh (fu (pv 0) (pv 2) rfl))),?_⟩
  refine ⟨_,rfl,_,rfl,p,g.State,dx,[],rfl,hp,T.ZW,T.mm,(by show 0 < 1000;decide),?_⟩;refine ⟨_,rfl,_,rfl,p,g.State,dx,_,rfl,Zb,T.ZW,T.Zu,(by show 1 < 1000;decide),?_⟩;refine q _ (fun b o e hb=>?_) Zb;rw [Zf hb,Zf hb];exact e
theorem BL {H1:Hp} {x dx:Addr} {d e:V} {Q:VK} {E:XK} (hx:H1 x=none) (lX:H1 dx=none) (ne:dx≠x) (q:∀ p dx H',ag H1 H'->H' p=some (.ins g.State dx (qY d e))->Q (.ref p) H') :
  Zpe g (.ref x::([d,e]++[])) (upd (upd H1 dx (.own x)) x (.ins g.State dx [])) (fun v H2=>v=.aL/\Q (.ref x) H2) E:=by
 refine ⟨x,dx,d,e,rfl,Zb,fun H' k hp=>⟨rfl,q x dx H' (fun b o eb=>?_) hp⟩⟩;have h1:b≠x:=Zg eb hx;have h2:b≠dx:=Zg eb lX;exact k b o (by rw [Zf h1,Zf h2];exact eb) h1
def Zxx (g:Gs):Sp:=fun vs H Q _=>vs=[]/\∀ v H',ag H H'->ZA g H' ⟨[],[(0,[])]⟩ v->Q v H'
theorem Zmi:Zp [] [] (Zi ZhC):=ZN (by decide +kernel)
theorem Zms (T:Tx K mg g):ah P w K mg base (aA P w) 3 g.Hh g.IM [] (Zxx g):=by
 refine T.IA.aP Zmi (fun vs H Q E h=>?_) (fun aq A outer s H vs Q E hr h=>?_)
 ·obtain ⟨rfl,_⟩:=h;rfl
 ·obtain ⟨rfl,q⟩:=h;refine ⟨_,(Zh (Zt (oB T.Bx (Cc T) hr.dn rfl T.Be T.bE .nil Zc (Za oJ (Za (ZxN (Zv2 (ZJ (v:=.int 0) rfl T.Zxb ⟨_,rfl⟩) oJ ZxL) rfl rfl (by simp) (by decide)) Ze))))),?_⟩;refine fun a ha b hb c hc=>?_;have uD:a≠b:=Zg Zb hb;have CW:b≠c:=Zg Zb hc;have nac:a≠c:=Zg (H:=upd (upd H a (.dK [])) b (.dK [])) (by rw [Zf uD];exact Zb) hc;have pT:H b=none:=by rw [Zf uD.symm] at hb;exact hb
  have kI:H c=none:=by rw [Zf CW.symm,Zf nac.symm] at hc;exact hc
  refine ⟨by rw [Zf CW];exact Zb,[(X8 0,.ref c)],rfl,(by show 1<=15;decide),fun x dx hx lX ne=>BL hx lX ne fun p dx H' s' hp=>?_⟩
  have s0:ag H (upd (upd (upd (upd H a (.dK [])) b (.dK [])) c (.dK [])) b (.dK (vm [] [(X8 0,V.ref c)]))):=fun d o e=>by
   rw [Zf (Zg e pT),Zf (Zg e kI),Zf (Zg e pT),Zf (Zg e ha)];exact e
  refine q _ H' (s0.trans s') ⟨p,dx,a,b,_,_,rfl,hp,s' _ _ (by rw [Zf uD,Zf nac,Zf uD];exact Zb),s' _ _ Zb,.nil,.cons ⟨rfl,c,rfl,s' _ _ (by rw [Zf CW.symm];exact Zb)⟩ .nil⟩
def Zt0 (g:Gs):Sp:=fun vs H Q _=>∃ v S n,vs=[v,.int n]/\ZA g H S v/\Q (.bl (ZE S n)) H
theorem ZqX:Zp ["state","number"] ["state","number"] (Zi ZmY):=ZN (by decide +kernel)
theorem Zlo (T:Tx K mg g):ah P w K mg base (aA P w) 1 g.ET g.Gy ["state","number"] (Zt0 g):=by
 refine T.BK.aP ZqX (fun vs H Q E h=>?_) (fun aq A outer s H vs Q E hr h=>?_)
 ·obtain ⟨v,S,n,rfl,_⟩:=h;rfl
 ·obtain ⟨v,S,n,rfl,⟨p,dx,da,ea,dk,ek,rfl,hS⟩,q⟩:=h;have hu:=u1 hr.units;refine ⟨_,(Zh (Zt (ZAf (Zw3 (lD hu (pv 1) (Zv (pv 0) rfl))) (A3 (Zw3 (lD hu (pv 1) (Zv (pv 0) rfl))))))),?_⟩;refine ⟨_,rfl,_,rfl,p,_,dx,_,_,rfl,hS.ob,T.ZW,T.mm,lB _ _,da,_,rfl,aJ.k hS.hd (k:=.inl n),_,rfl,?_⟩;rw [hS.rd.some ee];unfold ZE at q
  cases hd:(aa S.dat n).isSome with
  | true=>rw [hd] at q;exact ay q
  | false=>
   rw [hd] at q;refine aw ⟨_,rfl,_,rfl,p,_,dx,_,_,rfl,hS.ob,T.ZW,T.Zu,gm _ _,ea,_,rfl,aJ.k hS.he (k:=.inl n),?_⟩;rw [hS.re.some ee];exact q
def qo (S:az) (n:Int):Except Rf Unit:=if (aa S.ent n).isSome then .ok () else .error .ax
def ZsP (g:Gs):Sp:=fun vs H Q E=>∃ v S n,vs=[v,.int n]/\ZA g H S v/\dQ g lu H (qo S n) Q E
theorem Zhy:Zp ["state","number"] ["state","number"] (Zi Zd3):=ZN (by decide +kernel)
theorem Zdm (T:Tx K mg g):ah P w K mg base (aA P w) 1 g.Jw g.JF ["state","number"] (ZsP g):=by
 refine T.Ce.aP Zhy (fun vs H Q E h=>?_) (fun aq A outer s H vs Q E hr h=>?_)
 ·obtain ⟨v,S,n,rfl,_⟩:=h;rfl
 ·obtain ⟨v,S,n,rfl,⟨p,dx,da,ea,dk,ek,rfl,hS⟩,q⟩:=h;have hu:=u1 hr.units;refine ⟨_,(Zh (Z0 (h9 (vR hu (pv 1) (Zv (pv 0) rfl))) (Zh (Z2 T.Zny rfl T.Zh1 (Za Zr Ze))) Zx)),?_⟩;refine ⟨_,rfl,_,rfl,p,_,dx,_,_,rfl,hS.ob,T.ZW,T.Zu,gm _ _,ea,_,rfl,aJ.k hS.he (k:=.inl n),_,rfl,?_⟩;rw [hS.re.some ee]
  cases hd:(aa S.ent n).isSome with
  | true=>exact aw (q.ok (x:=()) (by unfold qo;rw [hd];rfl) _ _ (ag.refl _) rfl)
  | false=>exact ay ⟨aX 1,q.no (r:=.ax) (by unfold qo;rw [hd];rfl) _ (ag.refl _)⟩
def insI (n:Int):List Int->List Int
 | []=>[n]
 | m::r=>if n<=m then n::m::r else m::insI n r
def xO:List Int->List Int
 | []=>[]
 | n::r=>insI n (xO r)
theorem FF (n:Int):∀ l,(insI n l).Perm (n::l)
 | []=>.refl _
 | m::r=>by
  unfold insI
  split
  ·exact .refl _
  ·exact ((FF n r).cons m).trans (.swap ..)
theorem ym:∀ l,(xO l).Perm l
 | []=>.refl _
 | n::r=>(FF n (xO r)).trans ((ym r).cons n)
theorem ZlQ (n:Int):∀ l:List Int,l.Pairwise (·<=·)->(insI n l).Pairwise (·<=·)
 | [],_=>by simp [insI]
 | m::r,h=>by
  obtain ⟨h1,h2⟩:=List.pairwise_cons.mp h;unfold insI
  split
  ·rename_i hn
   exact List.pairwise_cons.mpr ⟨fun a ha=>by
    rcases List.mem_cons.mp ha with rfl | ha
    ·exact hn
    ·exact Int.le_trans hn (h1 a ha),h⟩
  ·rename_i hn
   refine List.pairwise_cons.mpr ⟨fun a ha=>?_,ZlQ n r h2⟩;rcases List.mem_cons.mp ((FF n r).mem_iff.mp ha) with rfl | ha
   ·omega
   ·exact h1 a ha
theorem Zjq:∀ l,(xO l).Pairwise (·<=·)
 | []=>.nil
 | n::r=>ZlQ n _ (Zjq r)
theorem Zt9:∀ {a b:List Int},a.Perm b->a.Pairwise (·<=·)->b.Pairwise (·<=·)->a=b:=by
 intro a b p ha hb;exact p.eq_of_pairwise (fun x y _ _ h1 h2=>Int.le_antisymm h1 h2) ha hb
def nI (S:az):List Int:=xO (S.dat.map (·.1)++S.ent.map (·.1))
theorem Z8.qM {α:Type} {R:Hp->α->V->Prop} {H:Hp} {xs:List (Int×α)} {kvs:List (Key×V)} (h:Z8 X8 R H xs kvs):(kvs.map fun q=>kV q.1)=(xs.map (·.1)).map V.int:=by
 unfold Z8 at h
 induction h with
 | nil=>rfl
 | cons a _ ih=>rw [Yt,Yt,Yt,ih,a.1];rfl
def Zt8 (g:Gs):Sp:=fun vs H Q _=>∃ v S,vs=[v]/\ZA g H S v/\S.dat.length + S.ent.length < 64/\∀ l H',ag H H'->H' l=some (.lst ((nI S).map V.int))->Q (.ref l) H'
theorem Zmm:Zp ["state"] ["state"] (Zi ZhH):=ZN (by decide +kernel)
theorem ZgH (T:Tx K mg g):ah P w K mg base (aA P w) 1 g.G5 g.IF ["state"] (Zt8 g):=by
 refine T.B_.aP Zmm (fun vs H Q E h=>?_) (fun aq A outer s H vs Q E hr h=>?_)
 ·obtain ⟨v,S,rfl,_⟩:=h;rfl
 ·obtain ⟨v,S,rfl,⟨p,dx,da,ea,dk,ek,rfl,hS⟩,hz,q⟩:=h;have hu:=u1 hr.units;refine ⟨_,(Zh (Zt (ZD Zqw (by rfl) T.sU PyProof.Rows.Boot.«sorted» (Za (Zy vn (ZT Znt rfl T.nu PyProof.Rows.Boot.«list» (Za (Zv (pv 0) rfl) Ze)) (ZT Znt rfl T.nu PyProof.Rows.Boot.«list» (Za (Zv (pv 0) rfl) Ze))) Ze)))),?_⟩;refine ⟨_,rfl,p,_,dx,_,_,rfl,hS.ob,T.ZW,T.mm,lB _ _,da,dk,rfl,.inl hS.hd,fun a ha=>?_⟩;have s1:=Zj (o:=.lst (dk.map fun q=>kV q.1)) ha;refine ⟨_,rfl,p,_,dx,_,_,rfl,s1 _ _ hS.ob,T.ZW,T.Zu,gm _ _,ea,ek,rfl,.inl (s1 _ _ hS.he),fun b hb=>?_⟩;have s2:=Zj (o:=.lst (ek.map fun q=>kV q.1)) hb;refine ⟨a,b,_,_,rfl,rfl,s2 _ _ Zb,Zb,?_,fun c hc=>?_⟩
  ·rw [Yb,Yb,hS.rd.len,hS.re.len];exact Zs (WV hz) (by decide)
  have s3:=Zj (o:=.lst ((dk.map fun q=>kV q.1)++(ek.map fun q=>kV q.1))) hc;refine ⟨c,S.dat.map (·.1)++S.ent.map (·.1),rfl,ar.of (by rw [Zb,hS.rd.qM,hS.re.qM,Yw]),?_,fun l ms hl pm pw=>?_⟩
  ·rw [Yf,Yb,Yb];exact hz
  ·have:ms=nI S:=Zt9 (pm.trans (ym _).symm) pw (Zjq _)
   subst this;exact q l _ (s1.trans (s2.trans (s3.trans (Zj hl)))) Zb
def qw (S:az):Nat->Nat->Option Int
 | _,0=>none
 | i,k + 1=>if ZE S (i:Int) then qw S (i + 1) k else some (i:Int)
def yg (S:az):Option Int:=qw S 0 32
def y6:Option Int->V
 | none=>.aL
 | some n=>.int n
def fk (S:az):List Str->List Int->Except Rf (List Int)
 | [],ps=>.ok ps
 | n::ns,ps=>match aa S.ent (ps.getLastD 0) with
  | none=>.error .ax
  | some es=>match aa es n with
   | none=>.error .aB
   | some i=>fk S ns (ps++[i])
theorem Bq (S:az) (ps:List Int):fk S [] ps=.ok ps:=rfl
theorem BD (S:az) (n:Str) (ns:List Str) (ps:List Int):fk S (n::ns) ps=match aa S.ent (ps.getLastD 0) with
  | none=>.error .ax
  | some es=>match aa es n with
   | none=>.error .aB
   | some i=>fk S ns (ps++[i]):=rfl
def Zxj (H:Hp) (xs:List Int) (v:V):Prop:=∃ l,v=.ref l/\H l=some (.lst (xs.map V.int))
theorem km (ps:List Int) (h:ps≠[]):fj (ps.map V.int) (-1)=some (.int (ps.getLastD 0)):=by
 have hl:0 < ps.length:=List.length_pos_iff.mpr h;unfold fj mV;rw [if_neg (by decide),if_pos (by rw [Yb];omega)];show (ps.map V.int)[(-1 + ((ps.map V.int).length:Int)).toNat]?=_;have e:(-1 + ((ps.map V.int).length:Int)).toNat=ps.length - 1:=by rw [Yb];omega
 rw [e,Yo,<- YaM,WT]
 cases hh:ps.getLast? with
 | none=>exact absurd (List.getLast?_eq_none_iff.mp hh) h
 | some x=>rfl
def Zxw (g:Gs):Sp:=fun vs H Q _=>∃ v S,vs=[v]/\ZA g H S v/\Q (y6 (yg S)) H
theorem Zhv:Zp ["state","number"] ["state"] (Zi Zjx):=ZN (by decide +kernel)
theorem ZhS (T:Tx K mg g):ah P w K mg base (aA P w) 2 g.Gz g.Hl ["state"] (Zxw g):=by
 refine T.B9.aP Zhv (fun vs H Q E h=>?_) (fun aq A outer s H vs Q E hr h=>?_)
 ·obtain ⟨v,S,rfl,_⟩:=h;rfl
 ·obtain ⟨v,S,rfl,hS,q⟩:=h
  refine ⟨_,(Zd (i3 Y2 rfl (vT rfl T.qm (Za (ZJ (v:=.int 32) rfl T.ZoB ⟨_,rfl⟩) Ze)) (Z9 (i:=1) Zhv.nd rfl (Or.inl rfl)) (Zh (Z0 (nz (md (Zn (Zlo T) hr.dn rfl T.Znf T.BK.kp T.f6 .nil Zc (Za (pv 0) (Za (pv 1) Ze))))) (Zh (Zt (pv 1))) Zx)))
   (Zh (Zt Eo))),?_⟩
  refine ⟨32,rfl,by decide,by decide,?_⟩;refine BC (fun i σ H'=>(∃ o,σ=[some v,o])/\H'=H/\yg S=qw S i (32 - i)) ⟨⟨none,rfl⟩,rfl,rfl⟩ (fun i σ H' hi h=>?_) (fun σ H' h=>?_)
  ·obtain ⟨⟨o,rfl⟩,rfl,hk⟩:=h;have e1:(0:Int) + (i:Int)=(i:Int):=Int.zero_add _;refine ⟨_,rfl,_,rfl,v,S,_,rfl,hS,_,rfl,?_⟩;rw [e1]
   have e2:32 - i=(32 - (i + 1)) + 1:=by
    have:i < 32:=hi
    omega
   rw [e2] at hk;unfold qw at hk
   cases ht:ZE S (i:Int) with
   | true=>
    rw [ht,if_pos rfl] at hk;exact aw ⟨⟨_,rfl⟩,rfl,hk⟩
   | false=>
    rw [ht,if_neg (by decide)] at hk;refine ay ?_;rw [hk] at q;exact ⟨_,rfl,q⟩
  ·obtain ⟨_,rfl,hk⟩:=h;rw [hk] at q;exact q
def ZyN (g:Gs):Sp:=fun vs H Q E=>∃ v S l ns,vs=[v,.ref l]/\ZA g H S v/\H l=some (.lst (ns.map V.str))/\ns.length<=2000/\(∀ n∈ns,n.length<=2000)/\dQ g Zxj H (fk S ns [0]) Q E
theorem Bj:Zp ["state","names","passed","name","entries"] ["state","names"] (Zi ZwT):=ZN (by decide +kernel)
theorem Bo (T:Tx K mg g):ah P w K mg base (aA P w) 2 g.walk g.Ex ["state","names"] (ZyN g):=by
 refine T.vi.aP Bj (fun vs H Q E h=>?_) (fun aq A outer s H vs Q E hr h=>?_)
 ·obtain ⟨v,S,l,ns,rfl,_⟩:=h;rfl
 ·obtain ⟨v,S,l,ns,rfl,hS,hl,hz,g8,q⟩:=h;have hu:=u1 hr.units
  refine ⟨_,(Zd (Zz (i:=2) Bj.nd rfl (Or.inl rfl) (fq (Za (ZJ (v:=.int 0) rfl T.Zxb ⟨_,rfl⟩) Ze)))
   (Zd (i3 Y2 rfl (qk (pv 1)) (Z9 (i:=3) Bj.nd rfl (Or.inl rfl)) (Zd (ZC (Zn (Zdm T) hr.dn rfl T.Zd8 T.Ce.kp T.bR .nil Zc (Za (pv 0) (Za (bw ZU (pv 2) (fH fK Zl) (fun _ _=>rfl)) Ze))))
   (Zd (Zz (i:=4) Bj.nd rfl (Or.inl rfl) (jv hu (Zv (pv 0) rfl) (bw ZU (pv 2) (fH fK Zl) (fun _ _=>rfl)) (fun _ _=>rfl)))
   (Zd (Z0 (h9 (vR hu (pv 3) (pv 4))) (Zh (Z2 T.F1 rfl T.BJ (Za (vz (vx (vy (pv 3) vw))) Ze))) Zx)
   (Zh (ZC (j9 YR Xl Xk oP (pv 2) (Za (jv hu (pv 4) (pv 3) (fun _ _=>rfl)) Ze))))))))
   (Zh (Zt (pv 2))))),?_⟩
  refine ⟨aX 1,fun D hD=>?_⟩;have s0:=Zj (o:=.lst [.int 0]) hD;have nlD:l≠D:=Zg hl hD;refine ⟨_,rfl,l,rfl,⟨_,ar.of (s0 _ _ hl)⟩,?_⟩;refine vK (xs:=ns.map V.str) (fun i σ H'=>∃ ps,(∃ o3 o4,σ=[some v,some (.ref l),some (.ref D),o3,o4])/\H' D=some (.lst (ps.map V.int))/\ps≠[]/\ps.length=i + 1/\ag H H'/\fk S ns [0]=fk S (ns.drop i) ps) ⟨[0],⟨none,none,rfl⟩,Zb,by decide,rfl,s0,rfl⟩ (fun i σ H' _ h=>?_) (fun i x σ H' hx h=>?_) (fun σ H' h=>?_)
  ·obtain ⟨ps,_,_,_,_,sm,_⟩:=h;exact ar.of (sm _ _ hl)
  ·obtain ⟨ps,⟨o3,o4,rfl⟩,hp,bY,hlen,sm,hw⟩:=h;rw [Yo] at hx
   cases hn:ns[i]? with
   | none=>rw [hn] at hx;cases hx
   | some n=>
    rw [hn] at hx
    cases hx
    have hi:i < ns.length:=(List.getElem?_eq_some_iff.mp hn).1
    have xu:ns.drop i=n::ns.drop (i + 1):=by
     rw [YaP hi];rw [(List.getElem?_eq_some_iff.mp hn).2]
    rw [xu,BD] at hw;have oj:=ZA.mono _ _ _ _ sm hS;refine ⟨_,rfl,_,rfl,_,rfl,D,_,_,_,rfl,rfl,ar.of hp,km ps bY,v,S,_,rfl,oj,?_⟩
    cases hg:aa S.ent (ps.getLastD 0) with
    | none=>
     rw [hg] at hw;show dQ g lu H' (qo S (ps.getLastD 0)) _ _;unfold qo;rw [hg];exact fun H2 s2=>q.no hw _ (sm.trans s2)
    | some es=>
     rw [hg] at hw;show dQ g lu H' (qo S (ps.getLastD 0)) _ _;unfold qo;rw [hg];intro v2 H2 s2 _;dsimp only at hw;have fF:=ZA.mono _ _ _ _ s2 oj;obtain ⟨p,dx,da,ea,dk,ek,rfl,hP⟩:=fF;obtain ⟨ve,gu,⟨ae,rfl,gQ⟩⟩:=hP.re.yes ee hg;refine ⟨_,rfl,p,_,dx,_,_,rfl,hP.ob,T.ZW,T.Zu,gm _ _,_,rfl,_,rfl,D,_,_,_,rfl,rfl,ar.of (s2 _ _ hp),km ps bY,ea,_,rfl,(by have:=aJ.k hP.he (k:=.inl (ps.getLastD 0));rw [gu] at this;exact this),?_⟩;refine ⟨_,rfl,_,rfl,ae,_,rfl,aJ.k gQ (k:=.inr n),_,rfl,?_⟩;rw [vJ]
     cases kH:aa es n with
     | none=>
      rw [kH] at hw;refine ay ?_;have lT:n.length<=2000:=g8 n (Yy hn);refine ⟨?_,_,rfl,n,rfl,Zs lT (by decide),?_,?_,aX 1,q.no hw _ (sm.trans s2)⟩
      ·rw [ZX];exact Zs (m:=100) (by decide) (by decide)
      ·rw [ZX,ZX];exact Zs (m:=2100) (by show 0 + 18 + n.length<=2100;omega) (by decide)
      ·rw [ZX,ZX];exact Zs (m:=2100) (by show 0 + 18 + n.length<=2100;omega) (by decide)
     | some j=>
      rw [kH] at hw;refine aw ?_;refine ⟨_,rfl,.inl ⟨rfl,_,ar.of (s2 _ _ hp)⟩,_,rfl,_,rfl,ae,.int j,rfl,(by have:=aJ.k gQ (k:=.inr n);rw [vJ,kH] at this;exact this),D,_,_,rfl,rfl,s2 _ _ hp,?_,?_⟩
      ·rw [Yb,hlen]
       have:(100000:Nat)<=Ym:=by decide
       omega
      ·refine ⟨ps++[j],⟨_,_,rfl⟩,?_,by simp,by rw [Yf,hlen];rfl,fun b o e=>?_,hw⟩
       ·rw [Yw];exact Zb
       ·rw [Zf (Zg e hD)];exact s2 _ _ (sm _ _ e)
  ·obtain ⟨ps,⟨o3,o4,rfl⟩,hp,bY,hlen,sm,hw⟩:=h;rw [Yb,Wq,Bq] at hw;exact ⟨_,rfl,q.ok hw _ _ sm ⟨D,rfl,hp⟩⟩
def kl (S:az) (p:Str):Except Rf (List Int):=match fk S (Zw p).dropLast [0] with
 | .error r=>.error r
 | .ok ps=>if (aa S.ent (ps.getLastD 0)).isSome then .ok ps else .error .ax
theorem sN {S:az}:∀ {ns:List Str} {ps qs:List Int},fk S ns ps=.ok qs->ps≠[]->qs≠[]/\qs.length=ps.length + ns.length
 | [],ps,qs,h,hp=>by rw [Bq] at h;cases h;exact ⟨hp,rfl⟩
 | n::ns,ps,qs,h,hp=>by
  rw [BD] at h
  cases h1:aa S.ent (ps.getLastD 0) with
  | none=>rw [h1] at h;cases h
  | some es=>
   rw [h1] at h;dsimp only at h
   cases h2:aa es n with
   | none=>rw [h2] at h;cases h
   | some i=>
    rw [h2] at h;obtain ⟨a,b⟩:=sN (ps:=ps++[i]) h (by simp);refine ⟨a,?_⟩;rw [b,Yf,Yz];show ps.length + 1 + ns.length=ps.length + (ns.length + 1);omega
theorem Zvk (ns:List Str):bC (ns.map V.str) none (some (-1))=ns.dropLast.map V.str:=by
 unfold bC;have e1:HT.a9 (ns.map V.str).length 0 none=0:=rfl
 have e2:HT.a9 (ns.map V.str).length (ns.map V.str).length (some (-1))=ns.length - 1:=by
  show (if (-1:Int) < 0 then (-1 + ((ns.map V.str).length:Int)).toNat else min (-1:Int).toNat (ns.map V.str).length)=_;rw [if_pos (by decide),Yb];omega
 rw [e1,e2,YaI,Nat.sub_zero,<- Yap,List.dropLast_eq_take]
def ZtU (g:Gs):Sp:=fun vs H Q E=>∃ v S p,vs=[v,.str p]/\ZA g H S v/\p.length<=1000/\dQ g Zxj H (kl S p) Q E
theorem Zcu:Zp ["state","path","passed"] ["state","path"] (Zi ZcT):=ZN (by decide +kernel)
theorem Zcw (T:Tx K mg g):ah P w K mg base (aA P w) 3 g.JC g.JA ["state","path"] (ZtU g):=by
 refine T.Cm.aP Zcu (fun vs H Q E h=>?_) (fun aq A outer s H vs Q E hr h=>?_)
 ·obtain ⟨v,S,p,rfl,_⟩:=h;rfl
 ·obtain ⟨v,S,p,rfl,hS,hl,q⟩:=h
  refine ⟨_,(Zd (Zz (i:=2) Zcu.nd rfl (Or.inl rfl) (Zn (Bo T) hr.dn rfl T.Bb T.vi.kp T.ip .nil Zc (Za (pv 0) (Za (nF EK (Zn (mn T) hr.dn rfl T.ml T.Z7.kp T.aE .nil Zc (Za (pv 1) Ze)) ql (lI (fH fK Zl))) Ze))))
   (Zd (ZC (Zn (Zdm T) hr.dn rfl T.Zd8 T.Ce.kp T.bR .nil Zc (Za (pv 0) (Za (bw ZU (pv 2) (fH fK Zl) (fun _ _=>rfl)) Ze))))
   (Zh (Zt (pv 2))))),?_⟩
  refine ⟨_,rfl,_,rfl,p,rfl,hl,fun l H1 s1 hn d_=>?_⟩;refine ⟨_,rfl,_,rfl,l,_,rfl,ar.of d_,fun m hm=>?_⟩;rw [Zvk] at *;have s2:=Zj (o:=.lst ((Zw p).dropLast.map V.str)) hm;refine ⟨v,S,m,(Zw p).dropLast,rfl,ZA.mono _ _ _ _ (s1.trans s2) hS,Zb,?_,fun n h=>?_,?_⟩
  ·rw [YbH]
   have:=yA p
   omega
  ·have:=yB p n (List.dropLast_subset _ h)
   omega
  ·unfold kl at q
   cases hw:fk S (Zw p).dropLast [0] with
   | error r=>
    rw [hw] at q;exact fun H' s'=>q H' (s1.trans (s2.trans s'))
   | ok ps=>
    rw [hw] at q;dsimp only at q;intro v2 H2 s3 ⟨D,e,hD⟩;subst e;have bY:=(sN hw (by decide)).1;have sA:=s1.trans (s2.trans s3);refine ⟨_,rfl,_,rfl,_,rfl,D,_,_,_,rfl,rfl,ar.of hD,km ps bY,v,S,_,rfl,ZA.mono _ _ _ _ sA hS,?_⟩;unfold qo
    cases hg:(aa S.ent (ps.getLastD 0)).isSome with
    | true=>
     rw [hg] at q;intro v3 H3 s4 _;exact ⟨_,rfl,q _ _ (sA.trans s4) ⟨D,rfl,s4 _ _ hD⟩⟩
    | false=>
     rw [hg] at q;exact fun H' s'=>q H' (sA.trans s')
end KS
namespace L2
open PySem PySem.Spec PyProof.Rows PySem.W
theorem qy {X:Cx}:eN X (.type "dict") (fun xs H Q=>∃ a kvs,xs=[.ref a]/\Rd H a (.dK kvs)/\∀ p,H p=none->Q (.ref p) (upd H p (.dK kvs))):=by
 intro pins s σ H xs us Q I r h;obtain ⟨a,kvs,rfl,ha,q⟩:=h;obtain ⟨u,rfl,ru⟩:=r.one
 cases (show u=Value.ref a from ru)
 exact ZwF I ha fun p s' hp I'=>⟨.ref p,_,I',rfl,q p hp⟩
end L2
namespace KS
open PySem L2
variable {P:Program} {w:World} {K:Yg} {mg:Str->Option Value} {base:Heap} {g:Gs}
def Zm (p:Str):Str:=(Zw p).getLastD ""
theorem ZvI (a b:Str):ki a b≠[]:=by
 unfold ki
 split
 ·simp
 ·split
  ·simp
  ·intro h
   have:=congrArg List.length h
   unfold W0 at this
   simp at this
theorem lK {p:Str} (h:¬ p="/"):Zw p≠[]:=by
 unfold Zw;rw [if_neg h];exact ZvI _ _
theorem qt (ps:List Str) (h:ps≠[]):fj (ps.map V.str) (-1)=some (.str (ps.getLastD "")):=by
 have hl:0 < ps.length:=List.length_pos_iff.mpr h;unfold fj mV;rw [if_neg (by decide),if_pos (by rw [Yb];omega)];show (ps.map V.str)[(-1 + ((ps.map V.str).length:Int)).toNat]?=_;have e:(-1 + ((ps.map V.str).length:Int)).toNat=ps.length - 1:=by rw [Yb];omega
 rw [e,Yo,<- YaM,WT]
 cases hh:ps.getLast? with
 | none=>exact absurd (List.getLast?_eq_none_iff.mp hh) h
 | some x=>rfl
def lL (S:az) (p:Str):Except Rf Int:=if p="/" then .error .bj else match kl S p with
 | .error r=>.error r
 | .ok ps=>match aa S.ent (ps.getLastD 0) with
  | none=>.error .ax
  | some es=>if (aa es (Zm p)).isSome then .error .bj else .ok (ps.getLastD 0)
def Z5 (S:az) (d:Int) (name:Str) (n:Int):az:=match aa S.ent d with
 | none=>S
 | some es=>⟨S.dat,af S.ent d (af es name n)⟩
def p_ (S:az) (p kind:Str):Except Rf az:=if !eW p then .error .aK else match lL S p with
 | .error r=>.error r
 | .ok d=>match yg S with
  | none=>.error .aM
  | some n=>match aa S.ent d with
   | none=>.error .ax
   | some es=>if 40<=es.length then .error .aM else .ok (Z5 (if kind="dir" then ⟨S.dat,af S.ent n []⟩ else ⟨af S.dat n [],S.ent⟩) d (Zm p) n)
structure gU (S:az):Prop where
 d:S.dat.length<=1000
 e:S.ent.length<=1000
 en:∀ n es,aa S.ent n=some es->es.length<=1000
theorem lt_size {n:Nat} (h:n<=1001):n < Ym:=by
 have:(1002:Nat)<=Ym:=by decide
 omega
def ZtY (g:Gs):Sp:=fun vs H Q E=>∃ v S d es,vs=[v,.int d]/\ZA g H S v/\aa S.ent d=some es/\dQ g lu H (if 40<=es.length then .error .aM else .ok ()) Q E
theorem Ziw:Zp ["state","directory"] ["state","directory"] (Zi ZeW):=ZN (by decide +kernel)
theorem JB (T:Tx K mg g):ah P w K mg base (aA P w) 1 g.Ja g.Jk ["state","directory"] (ZtY g):=by
 refine T.yF.aP Ziw (fun vs H Q E h=>?_) (fun aq A outer s H vs Q E hr h=>?_)
 ·obtain ⟨v,S,d,es,rfl,_⟩:=h;rfl
 ·obtain ⟨v,S,d,es,rfl,⟨p,dx,da,ea,dk,ek,rfl,hS⟩,hg,q⟩:=h;have hu:=u1 hr.units;refine ⟨_,(Zh (Z0 (ZG Zzd (ZD FT (by rfl) T.eu YC (Za (jv hu (Zv (pv 0) rfl) (pv 1) (fun _ _=>rfl)) Ze)) (ZJ (v:=.int 40) rfl T.ZmG ⟨_,rfl⟩) (ZO _)) (Zh (Z2 T.vY rfl T.tj (Za Zr Ze))) Zx)),?_⟩;obtain ⟨ve,gu,⟨ae,rfl,gQ⟩⟩:=hS.re.yes ee hg;refine ⟨_,rfl,p,_,dx,_,_,rfl,hS.ob,T.ZW,T.Zu,gm _ _,_,rfl,ea,_,rfl,(by have:=aJ.k hS.he (k:=.inl d);rw [gu] at this;exact this),ae,_,rfl,gQ,_,_,rfl,rfl,_,rfl,?_⟩;rw [ED]
  by_cases h4:40<=es.length
  ·rw [if_pos h4] at q;rw [decide_eq_true (show (40:Int)<=(es.length:Int) by omega)];exact ay ⟨aX 1,q _ (ag.refl _)⟩
  ·rw [if_neg h4] at q;rw [decide_eq_false (show ¬ (40:Int)<=(es.length:Int) by omega)];exact aw (q _ _ (ag.refl _) rfl)
def ZyU (g:Gs):Sp:=fun vs H Q E=>∃ v S p,vs=[v,.str p]/\ZA g H S v/\p.length<=1000/\dQ g ZzT H (lL S p) Q E
theorem Zhx:Zp ["state","path","directory"] ["state","path"] (Zi Zjz):=ZN (by decide +kernel)
theorem ZhT (T:Tx K mg g):ah P w K mg base (aA P w) 4 g.Gu g.HU ["state","path"] (ZyU g):=by
 refine T.B8.aP Zhx (fun vs H Q E h=>?_) (fun aq A outer s H vs Q E hr h=>?_)
 ·obtain ⟨v,S,p,rfl,_⟩:=h;rfl
 ·obtain ⟨v,S,p,rfl,hS,hl,q⟩:=h;have hu:=u1 hr.units
  refine ⟨_,(Zd (Z0 (ZG fm (pv 1) Zr (ZO _)) (Zh (Z2 T.FZ rfl T.BI (Za Zr Ze))) Zx)
   (Zd (Zz (i:=2) Zhx.nd rfl (Or.inl rfl) (bw ZU (Zn (Zcw T) hr.dn rfl T.Zc1 T.Cm.kp T.bA .nil Zc (Za (pv 0) (Za (pv 1) Ze))) (fH fK Zl) (fun _ _=>rfl)))
   (Zd (Z0 (h9 (lD hu (bw ZU (Zn (mn T) hr.dn rfl T.ml T.Z7.kp T.aE .nil Zc (Za (pv 1) Ze)) (fH fK Zl) (fun _ _=>rfl)) (jv hu (Zv (pv 0) rfl) (pv 2) (fun _ _=>rfl)))) (Zh (Z2 T.FZ rfl T.BI (Za (vz (vy (pv 1) (vx vw))) Ze))) Zx)
   (Zh (Zt (pv 2)))))),?_⟩
  refine ⟨_,rfl,rfl,_,rfl,?_⟩
  by_cases h1:p="/"
  ·rw [decide_eq_true (show V.str p=V.str "/" by rw [h1])];exact ay ⟨aX 1,q.no (r:=.bj) (by unfold lL;rw [if_pos h1]) _ (ag.refl _)⟩
  ·rw [decide_eq_false (show ¬ V.str p=V.str "/" by intro z;injection z with z;exact h1 z)];refine aw ?_;unfold lL at q;rw [if_neg h1] at q;refine ⟨_,rfl,_,rfl,v,S,p,rfl,hS,hl,?_⟩
   cases hw:kl S p with
   | error r=>
    rw [hw] at q;exact q
   | ok ps=>
    rw [hw] at q;dsimp only at q
    have Dh:ps≠[]/\∃ es,aa S.ent (ps.getLastD 0)=some es:=by
     unfold kl at hw
     cases h2:fk S (Zw p).dropLast [0] with
     | error r=>rw [h2] at hw;cases hw
     | ok qs=>
      rw [h2] at hw;dsimp only at hw
      cases h3:aa S.ent (qs.getLastD 0) with
      | none=>rw [h3] at hw;cases hw
      | some es=>
       rw [h3] at hw
       cases hw
       exact ⟨(sN h2 (by decide)).1,es,h3⟩
    obtain ⟨bY,es,hg⟩:=Dh;rw [hg] at q;dsimp only at q;intro v2 H2 s2 ⟨D,e,hD⟩;subst e;refine ⟨_,rfl,D,_,_,_,rfl,rfl,ar.of hD,km ps bY,?_⟩;refine ⟨_,rfl,p,rfl,hl,fun l H3 s3 hn gw=>?_⟩;have sA:=s2.trans s3;obtain ⟨p',dx,da,ea,dk,ek,rfl,hP⟩:=ZA.mono _ _ _ _ sA hS;obtain ⟨ve,gu,⟨ae,rfl,gQ⟩⟩:=hP.re.yes ee hg;refine ⟨_,rfl,l,_,_,_,rfl,rfl,ar.of gw,qt _ (lK h1),?_⟩;refine ⟨_,rfl,p',_,dx,_,_,rfl,hP.ob,T.ZW,T.Zu,gm _ _,_,rfl,ea,_,rfl,(by have:=aJ.k hP.he (k:=.inl (ps.getLastD 0));rw [gu] at this;exact this),ae,_,rfl,aJ.k gQ (k:=.inr (Zm p)),_,rfl,?_⟩;rw [vJ,Yac]
    cases hb:(aa es (Zm p)).isSome with
    | true=>
     rw [hb] at q;refine ay ?_;refine ⟨_,rfl,p,rfl,Zs hl (by decide),?_,?_,?_,aX 1,q _ sA⟩
     ·rw [ZX];exact Zs (m:=1000) (by show 0 + p.length<=1000;omega) (by decide)
     ·rw [ZX,ZX];exact Zs (m:=1100) (by show 0 + p.length + 9<=1100;omega) (by decide)
     ·rw [ZX,ZX];exact Zs (m:=1100) (by show 0 + p.length + 9<=1100;omega) (by decide)
    | false=>
     rw [hb] at q;exact aw ⟨_,rfl,q _ _ sA rfl⟩
def ZsK (g:Gs):Sp:=fun vs H Q _=>∃ v S n row r,vs=[v,.int n,r]/\ZA g H S v/\Z1 H row r/\S.dat.length<=1000/\∀ v' H',ag H H'->ZA g H' ⟨af S.dat n row,S.ent⟩ v'->Q v' H'
theorem Zjr:Zp ["state","number","row","data"] ["state","number","row"] (Zi Zk3):=ZN (by decide +kernel)
theorem Hr (T:Tx K mg g):ah P w K mg base (aA P w) 3 g.FX g.Ha ["state","number","row"] (ZsK g):=by
 refine T.yl.aP Zjr (fun vs H Q E h=>?_) (fun aq A outer s H vs Q E hr h=>?_)
 ·obtain ⟨v,S,n,row,r,rfl,_⟩:=h;rfl
 ·obtain ⟨v,S,n,row,r,rfl,⟨p,dx,da,ea,dk,ek,rfl,hS⟩,ei,hz,q⟩:=h;have hu:=u1 hr.units
  refine ⟨_,(Zd (Zz (i:=3) Zjr.nd rfl (Or.inl rfl) (ZT qy rfl T.qd PyProof.Rows.Boot.«dict» (Za (Zv (pv 0) rfl) Ze)))
   (Zd (sM hu (pv 3) (pv 1) (pv 2) rfl)
   (Zh (Zt (oB T.Bx (Cc T) hr.dn rfl T.Be T.bE .nil Zc (Za (pv 3) (Za (Zv (pv 0) rfl) Ze))))))),?_⟩
  refine ⟨_,rfl,p,_,dx,_,_,rfl,hS.ob,T.ZW,T.mm,lB _ _,da,dk,rfl,.inl hS.hd,fun a ha=>?_⟩;refine ⟨_,rfl,_,rfl,_,rfl,a,_,rfl,dU.k (k:=.inl n) Zb (lt_size (by rw [hS.rd.len];omega)),?_⟩;have s1:ag H (upd (upd H a (.dK dk)) a (.dK (putK dk (.inl n) r))):=fun b o e=>by rw [Zf (Zg e ha),Zf (Zg e ha)];exact e
  refine ⟨_,rfl,_,rfl,p,_,dx,_,_,rfl,s1 _ _ hS.ob,T.ZW,T.Zu,gm _ _,fun x iZ hx lX ne=>BL hx lX ne fun p2 gR H' s' eo=>?_⟩;refine q _ H' (s1.trans s') ⟨p2,gR,a,ea,_,_,rfl,eo,s' _ _ Zb,s' _ _ (s1 _ _ hS.he),?_,hS.re.same gk.mono (s1.trans s')⟩;exact (hS.rd.same Z1.mono (s1.trans s')).put ee (Z1.mono _ _ _ _ (s1.trans s') ei)
def ZsJ (g:Gs):Sp:=fun vs H Q _=>∃ v S n es r,vs=[v,.int n,r]/\ZA g H S v/\gk H es r/\S.ent.length<=1000/\∀ v' H',ag H H'->ZA g H' ⟨S.dat,af S.ent n es⟩ v'->Q v' H'
theorem Ze9:Zp ["state","number","entries","changed"] ["state","number","entries"] (Zi Zgy):=ZN (by decide +kernel)
theorem Jr (T:Tx K mg g):ah P w K mg base (aA P w) 3 g.IQ g.Ji ["state","number","entries"] (ZsJ g):=by
 refine T.yt.aP Ze9 (fun vs H Q E h=>?_) (fun aq A outer s H vs Q E hr h=>?_)
 ·obtain ⟨v,S,n,row,r,rfl,_⟩:=h;rfl
 ·obtain ⟨v,S,n,es,r,rfl,⟨p,dx,da,ea,dk,ek,rfl,hS⟩,ei,hz,q⟩:=h;have hu:=u1 hr.units
  refine ⟨_,(Zd (Zz (i:=3) Ze9.nd rfl (Or.inl rfl) (ZT qy rfl T.qd PyProof.Rows.Boot.«dict» (Za (Zv (pv 0) rfl) Ze)))
   (Zd (sM hu (pv 3) (pv 1) (pv 2) rfl)
   (Zh (Zt (oB T.Bx (Cc T) hr.dn rfl T.Be T.bE .nil Zc (Za (Zv (pv 0) rfl) (Za (pv 3) Ze))))))),?_⟩
  refine ⟨_,rfl,p,_,dx,_,_,rfl,hS.ob,T.ZW,T.Zu,gm _ _,ea,ek,rfl,.inl hS.he,fun a ha=>?_⟩;refine ⟨_,rfl,_,rfl,_,rfl,a,_,rfl,dU.k (k:=.inl n) Zb (lt_size (by rw [hS.re.len];omega)),?_⟩;have s1:ag H (upd (upd H a (.dK ek)) a (.dK (putK ek (.inl n) r))):=fun b o e=>by rw [Zf (Zg e ha),Zf (Zg e ha)];exact e
  refine ⟨_,rfl,p,_,dx,_,_,rfl,s1 _ _ hS.ob,T.ZW,T.mm,lB _ _,_,rfl,fun x iZ hx lX ne=>BL hx lX ne fun p2 gR H' s' eo=>?_⟩;refine q _ H' (s1.trans s') ⟨p2,gR,da,a,_,_,rfl,eo,s' _ _ (s1 _ _ hS.hd),s' _ _ Zb,hS.rd.same Z1.mono (s1.trans s'),?_⟩;exact (hS.re.same gk.mono (s1.trans s')).put ee (gk.mono _ _ _ _ (s1.trans s') ei)
def ZkO (g:Gs):Sp:=fun vs H Q _=>∃ v S d name n es,vs=[v,.int d,.str name,.int n]/\ZA g H S v/\gU S/\aa S.ent d=some es/\∀ v' H',ag H H'->ZA g H' (Z5 S d name n) v'->Q v' H'
theorem Zht:Zp ["state","directory","name","number","entries"] ["state","directory","name","number"] (Zi Zjt):=ZN (by decide +kernel)
theorem Il (T:Tx K mg g):ah P w K mg base (aA P w) 4 g.Zip g.IS ["state","directory","name","number"] (ZkO g):=by
 refine T.yn.aP Zht (fun vs H Q E h=>?_) (fun aq A outer s H vs Q E hr h=>?_)
 ·obtain ⟨v,S,d,name,n,es,rfl,_⟩:=h;rfl
 ·obtain ⟨v,S,d,name,n,es,rfl,j4,sm,hg,q⟩:=h;obtain ⟨p,dx,da,ea,dk,ek,rfl,hS⟩:=id j4;have hu:=u1 hr.units
  refine ⟨_,(Zd (Zz (i:=4) Zht.nd rfl (Or.inl rfl) (ZT qy rfl T.qd PyProof.Rows.Boot.«dict» (Za (jv hu (Zv (pv 0) rfl) (pv 1) (fun _ _=>rfl)) Ze)))
   (Zd (sM hu (pv 4) (pv 2) (pv 3) rfl)
   (Zh (Zt (Zn (Jr T) hr.dn rfl T.Jd T.yt.kp T.bK .nil Zc (Za (pv 0) (Za (pv 1) (Za (pv 4) Ze)))))))),?_⟩
  obtain ⟨ve,gu,⟨ae,rfl,gQ⟩⟩:=hS.re.yes ee hg;refine ⟨_,rfl,p,_,dx,_,_,rfl,hS.ob,T.ZW,T.Zu,gm _ _,_,rfl,ea,_,rfl,(by have:=aJ.k hS.he (k:=.inl d);rw [gu] at this;exact this),ae,_,rfl,.inl gQ,fun a ha=>?_⟩;refine ⟨_,rfl,_,rfl,_,rfl,a,_,rfl,dU.k (k:=.inr name) Zb (lt_size (by rw [ED];exact YaT (sm.en _ _ hg))),?_⟩;rw [Zww];have s1:ag H (upd (upd H a (.dK (er es))) a (.dK (er (af es name n)))):=fun b o e=>by rw [Zf (Zg e ha),Zf (Zg e ha)];exact e
  refine ⟨_,rfl,_,rfl,_,rfl,_,S,d,af es name n,_,rfl,ZA.mono _ _ _ _ s1 j4,⟨a,rfl,Zb⟩,sm.e,fun v' H' s' h'=>q v' H' (s1.trans s') ?_⟩;unfold Z5;rw [hg];exact h'
section
variable {κ α:Type} [DecidableEq κ]
theorem Zsf (k j:κ) (y:α):∀ xs:List (κ×α),aa (xs.map fun p=>if p.1=k then (p.1,y) else p) j=(aa xs j).map fun x=>if j=k then y else x
 | []=>rfl
 | p::r=>by
  rw [Yt]
  by_cases z:p.1=j
  ·rw [fI z,Xe]
   by_cases w:p.1=k
   ·rw [if_pos w,if_pos (z.symm.trans w)];exact fI (p:=(p.1,y)) z
   ·rw [if_neg w,if_neg (fun q=>w (z.trans q))];exact fI z
  ·rw [ZZ z];rw [<- Zsf k j y r]
   by_cases w:p.1=k
   ·rw [if_pos w];exact ZZ (p:=(p.1,y)) z
   ·rw [if_neg w];exact ZZ z
theorem Zqe (k j:κ) (y:α):∀ xs:List (κ×α),aa xs k=none->aa (xs++[(k,y)]) j=if j=k then some y else aa xs j
 | [],_=>by
  by_cases z:j=k
  ·rw [if_pos z];exact fI (p:=(k,y)) z.symm
  ·rw [if_neg z];exact ZZ (p:=(k,y)) (fun q=>z q.symm)
 | p::r,h=>by
  by_cases w:p.1=k
  ·rw [fI w] at h;cases h
  ·rw [ZZ w] at h;rw [Yal]
   by_cases z:p.1=j
   ·rw [fI z,fI z,if_neg (fun q=>w (z.trans q))]
   ·rw [ZZ z,ZZ z];exact Zqe k j y r h
theorem ZV (xs:List (κ×α)) (k j:κ) (y:α):aa (af xs k y) j=if j=k then some y else aa xs j:=by
 unfold af;rw [sQ]
 cases h:aa xs k with
 | none=>
  rw [if_neg (by simp)];exact Zqe k j y xs h
 | some x=>
  rw [if_pos (by rfl),Zsf]
  by_cases z:j=k
  ·rw [if_pos z,z,h];simp
  ·rw [if_neg z]
   cases aa xs j with
   | none=>rfl
   | some u=>simp [z]
end
theorem ZpZ {S:az} {n:Int}:∀ {k i:Nat},qw S i k=some n->ZE S n=false
 | 0,i,h=>by cases h
 | k + 1,i,h=>by
  unfold qw at h
  split at h
  ·exact ZpZ h
  ·rename_i hh
   cases h
   simpa using hh
theorem gU.ent {S:az} (h:gU S) (hl:S.ent.length<=999) (n:Int):gU ⟨S.dat,af S.ent n []⟩:=
 ⟨h.d,Yk (qp _ _ _) (Y4 hl),fun m es hm=>by
  rw [ZV] at hm
  by_cases z:m=n
  ·rw [if_pos z] at hm;cases hm;exact Yv _
  ·rw [if_neg z] at hm;exact h.en m es hm⟩
theorem gU.dat {S:az} (h:gU S) (hl:S.dat.length<=999) (n:Int) (r:Row):gU ⟨af S.dat n r,S.ent⟩:=⟨Yk (qp _ _ _) (Y4 hl),h.e,h.en⟩
def ZyR (g:Gs):Sp:=fun vs H Q E=>∃ v S p k,vs=[v,.str p,.str k]/\ZA g H S v/\gU S/\S.dat.length<=999/\S.ent.length<=999/\p.length<=1000/\dQ g (ZA g) H (p_ S p k) Q E
theorem yd:Zp ["state","path","kind","directory","number","changed"] ["state","path","kind"] (Zi ZwU):=ZN (by decide +kernel)
theorem ZxT (T:Tx K mg g):ah P w K mg base (aA P w) 5 g.made g.Er ["state","path","kind"] (ZyR g):=by
 refine T.Ek.aP yd (fun vs H Q E h=>?_) (fun aq A outer s H vs Q E hr h=>?_)
 ·obtain ⟨v,S,p,k,rfl,_⟩:=h;rfl
 ·obtain ⟨v,S,p,k,rfl,hS,sm,pL,wX,hl,q⟩:=h;have hu:=u1 hr.units
  refine ⟨_,(Zd (ZC (Zn (wd T) hr.dn rfl T.vZ T.qC.kp T.a8 .nil Zc (Za (pv 1) Ze)))
   (Zd (Zz (i:=3) yd.nd rfl (Or.inl rfl) (Zn (ZhT T) hr.dn rfl T.ZjZ T.B8.kp T.d6 .nil Zc (Za (pv 0) (Za (pv 1) Ze))))
   (Zd (Zz (i:=4) yd.nd rfl (Or.inl rfl) (Zn (ZhS T) hr.dn rfl T.ZjY T.B9.kp T.d3 .nil Zc (Za (pv 0) Ze)))
   (Zd (Z0 (h9 (Zw4 (pv 4))) (Zh (Z2 T.vY rfl T.tj (Za Zr Ze))) Zx)
   (Zd (ZC (Zn (JB T) hr.dn rfl T.Jl T.yF.kp T.br .nil Zc (Za (pv 0) (Za (pv 3) Ze))))
   (Zd (Z0 (ZG fm (pv 2) Zr (ZO _)) (Zh (Zz (i:=5) yd.nd rfl (Or.inl rfl) (Zn (Jr T) hr.dn rfl T.Jd T.yt.kp T.bK .nil Zc (Za (pv 0) (Za (pv 4) (Za oJ Ze)))))) (Zh (Zz (i:=5) yd.nd rfl (Or.inl rfl) (Zn (Hr T) hr.dn rfl T.G7 T.yl.kp T.cQ .nil Zc (Za (pv 0) (Za (pv 4) (Za (dz Ze) Ze)))))))
   (Zh (Zt (Zn (Il T) hr.dn rfl T.Ho T.yn.kp T.cy .nil Zc (Za (pv 5) (Za (pv 3) (Za (bw ZU (Zn (mn T) hr.dn rfl T.ml T.Z7.kp T.aE .nil Zc (Za (pv 1) Ze)) (fH fK Zl) (fun _ _=>rfl)) (Za (pv 4) Ze))))))))))))),?_⟩
  refine ⟨_,rfl,p,rfl,hl,?_⟩;unfold p_ at q;unfold mr
  cases hb:eW p with
  | false=>
   rw [hb] at q;exact fun H' s'=>q H' s'
  | true=>
   rw [hb] at q;rw [if_neg (by decide)] at q;intro v1 H1 s1 _;refine ⟨_,rfl,_,rfl,v,S,p,rfl,ZA.mono _ _ _ _ s1 hS,hl,?_⟩
   cases hf:lL S p with
   | error r=>
    rw [hf] at q;exact fun H' s'=>q H' (s1.trans s')
   | ok d=>
    rw [hf] at q;dsimp only at q;intro v2 H2 s2 e
    cases e
    have sB:=s1.trans s2;have fF:=ZA.mono _ _ _ _ sB hS;refine ⟨_,rfl,v,S,rfl,fF,?_⟩
    cases Dl:yg S with
    | none=>
     rw [Dl] at q;refine ⟨_,rfl,_,rfl,ay ⟨aX 1,q _ sB⟩⟩
    | some n=>
     rw [Dl] at q;dsimp only at q;refine ⟨_,rfl,_,rfl,aw ?_⟩
     have hfe:¬ p="/"/\∃ es,aa S.ent d=some es:=by
      unfold lL at hf
      by_cases h1:p="/"
      ·rw [if_pos h1] at hf;cases hf
      ·rw [if_neg h1] at hf;refine ⟨h1,?_⟩
       cases hw:kl S p with
       | error r=>rw [hw] at hf;cases hf
       | ok ps=>
        rw [hw] at hf;dsimp only at hf
        cases hg:aa S.ent (ps.getLastD 0) with
        | none=>rw [hg] at hf;cases hf
        | some es=>
         rw [hg] at hf;dsimp only at hf
         split at hf
         ·cases hf
         ·cases hf;exact ⟨es,hg⟩
     obtain ⟨h1,es,hg⟩:=hfe;rw [hg] at q;dsimp only at q;refine ⟨_,rfl,_,rfl,v,S,d,es,rfl,fF,hg,?_⟩
     by_cases h4:40<=es.length
     ·rw [if_pos h4] at q ⊢;exact fun H' s'=>q H' (sB.trans s')
     ·rw [if_neg h4] at q ⊢;intro v3 H3 s3 _;have sC:=sB.trans s3;have rT:=ZA.mono _ _ _ _ sC hS
      have nd:d≠n:=fun z=>by
       have:=ZpZ Dl
       unfold ZE at this;rw [<- z,hg] at this
       simp at this
      refine ⟨_,rfl,rfl,_,rfl,?_⟩
      -- gs last step,alike on both ways
      have last:∀ (S':az) (u:V) (H4:Hp),ag H3 H4->ZA g H4 S' u->gU S'->aa S'.ent d=some es->(∀ v' H',ag H H'->ZA g H' (Z5 S' d (Zm p) n) v'->Q v' H')->
        ZkP [.str p] H4 (fun x H5=>∃ (pp:Addr) (xs:List V) (i:Int) (z:V),x=.ref pp/\V.int (-1)=.int i/\ar K H5 pp xs/\fj xs i=some z/\ZkO g [u,.int d,z,.int n] H5 Q E) E:=by
       intro S' u H4 s4 Ao CH hg4 qq;refine ⟨p,rfl,hl,fun l H5 s5 hn fE=>⟨l,_,_,_,rfl,rfl,ar.of fE,qt _ (lK h1),u,S',d,Zm p,n,es,rfl,ZA.mono _ _ _ _ s5 Ao,CH,hg4,fun v' H' s' h'=>qq v' H' (sC.trans (s4.trans (s5.trans s'))) h'⟩⟩
      by_cases hk:k="dir"
      ·rw [decide_eq_true (show V.str k=V.str "dir" by rw [hk])];rw [if_pos hk] at q;refine ay ⟨_,rfl,_,rfl,fun a ha=>?_⟩;have s4:=Zj (o:=.dK []) ha;refine ⟨v,S,n,[],_,rfl,ZA.mono _ _ _ _ s4 rT,⟨a,rfl,Zb⟩,sm.e,fun v4 H4 s5 h4=>?_⟩
       have hge:aa (⟨S.dat,af S.ent n []⟩:az).ent d=some es:=by
        show aa (af S.ent n []) d=_;rw [ZV,if_neg nd];exact hg
       obtain ⟨p0,e0,rN,k0⟩:=last _ v4 H4 (s4.trans s5) h4 (sm.ent wX n) hge (fun v' H' s' h'=>q v' H' s' h')
       cases e0
       refine ⟨_,rfl,_,rfl,_,rfl,p,rfl,hl,fun l H5 s6 hn fE=>?_⟩;obtain ⟨pp,xs,i,z,a1,a2,a3,a4,a5⟩:=k0 l H5 s6 hn fE;refine ⟨_,rfl,pp,xs,i,z,a1,a2,a3,a4,?_⟩;exact ⟨_,rfl,a5⟩
      ·rw [decide_eq_false (show ¬ V.str k=V.str "dir" by intro z;injection z with z;exact hk z)];rw [if_neg hk] at q;refine aw ⟨_,rfl,_,rfl,Yv _,fun a ha=>?_⟩;have s4:=Zj (o:=.tup []) ha;refine ⟨v,S,n,[],_,rfl,ZA.mono _ _ _ _ s4 rT,⟨a,rfl,Zb⟩,sm.d,fun v4 H4 s5 h4=>?_⟩;obtain ⟨p0,e0,rN,k0⟩:=last _ v4 H4 (s4.trans s5) h4 (sm.dat pL n []) hg (fun v' H' s' h'=>q v' H' s' h')
       cases e0
       refine ⟨_,rfl,_,rfl,_,rfl,p,rfl,hl,fun l H5 s6 hn fE=>?_⟩;obtain ⟨pp,xs,i,z,a1,a2,a3,a4,a5⟩:=k0 l H5 s6 hn fE;refine ⟨_,rfl,pp,xs,i,z,a1,a2,a3,a4,?_⟩;exact ⟨_,rfl,a5⟩
end KS
namespace L2
open PySem PySem.Spec PyProof.Rows PySem.W
theorem Zsg {d:Addr} {ob:Obj} {u:HO} {g:TG} {tb:TS} {D:Ends} {σ:St} {H:Hp} (Pv:Nat->St->Hp->Prop) (h0:Pv 0 σ H) (hl:∀ i σ H,i<=(gA u).length->Pv i σ H->H d=some (.bt ob u))
  (hs:∀ i x σ H,(gA u)[i]?=some x->Pv i σ H->g x σ H fun bH H2=>tb {D with nx:=Pv (i + 1),ct:=Pv (i + 1),bk:=D.nx} bH H2) (hd:∀ σ H,Pv (gA u).length σ H->D.nx σ H) :
  ∃ W:Nat->Nat->St->Hp->Prop,(∃ m,W 0 m σ H)/\∀ i m σ H,W i m σ H->
   ((yL d ob u).stop i H/\D.nx σ H)∨((yL d ob u).go i H/\∃ N:St->Hp->Prop,(∀ aC H',N aC H'->∃ m',m' < m/\W (i + 1) m' aC H')/\∀ x H',(yL d ob u).kz i H x H'->g x σ H' fun bH H2=>tb {D with nx:=N,ct:=N,bk:=D.nx} bH H2):=by
 refine ⟨fun i m σ H=>m=(gA u).length - i/\i<=(gA u).length/\Pv i σ H,⟨(gA u).length,by simp,Yv _,h0⟩,?_⟩
 rintro i m σ H ⟨rfl,hi,p⟩
 have q:=hl i σ H hi p
 by_cases bq:i < (gA u).length
 ·refine .inr ⟨⟨q,bq⟩,Pv (i + 1),fun aC H' p'=>⟨(gA u).length - (i + 1),by omega,rfl,bq,p'⟩,fun x H' y=>?_⟩;obtain ⟨e,y⟩:=y;subst e;exact hs i x σ _ y p
 ·have e:i=(gA u).length:=by omega
  subst e;exact .inl ⟨⟨q,Ye _⟩,hd σ H p⟩
end L2
namespace KS
open PySem L2
variable {P:Program} {w:World} {K:Yg} {mg:Str->Option Value} {base:Heap} {g:Gs}
abbrev gp:=List (Row×Row)
def rKey (r:Row):List Key:=r.map X8
theorem vM (a b:Row) (h:rKey a=rKey b):a=b:=by
 unfold rKey at h
 induction a generalizing b with
 | nil=>cases b with
  | nil=>rfl
  | cons=>simp at h
 | cons x xs ih=>cases b with
  | nil=>simp at h
  | cons y ys=>
   rw [Yt,Yt,List.cons.injEq] at h;rw [Sum.inl.inj h.1,ih ys h.2]
theorem x9 (r:Row):(rKey r).map kV=r.map V.int:=by
 unfold rKey;rw [XJ];rfl
def gy (H:Hp) (pl:gp) (v:V):Prop:=∃ a kvs,v=.ref a/\H a=some (.dT kvs)/\Z8 rKey Z1 H pl kvs
theorem gy.mono:jR gy:=fun _ _ _ _ s ⟨a,kvs,e,h,d⟩=>⟨a,kvs,e,s _ _ h,d.same Z1.mono s⟩
def oG (count:Int) (pl:gp):List Int:=(List.range (count - 2).toNat).filterMap fun (i:Nat)=>if (pl.map (·.2)).flatten.contains (2 + (i:Int)) then none else some (2 + (i:Int))
def xY (ns:List Int) (kvs:List (Key×V)):Prop:=∀ n:Int,(aV kvs (.inl n)).isSome=ns.contains n
theorem xY.put {ns:List Int} {kvs:List (Key×V)} (h:xY ns kvs) (m:Int) (v:V):xY (ns++[m]) (putK kvs (.inl m) v):=fun n=>by
 rw [Fh,List.contains_append,<- h n]
 by_cases z:n=m
 ·rw [if_pos (by rw [z]),z];simp
 ·rw [if_neg (fun y=>z (Sum.inl.inj y))]
  have:[m].contains n=false:=by simp [z]
  rw [this,Xs]
theorem ZwE {κ α ρ:Type} {f:κ->ρ} {R:Hp->α->V->Prop} {H:Hp} {xs:List (κ×α)} {kvs:List (ρ×V)} (h:Z8 f R H xs kvs) {i:Nat} {v:V} (hv:(kvs.map (·.2))[i]?=some v):∃ p,xs[i]?=some p/\R H p.2 v:=by
 unfold Z8 at h
 induction h generalizing i with
 | nil=>simp at hv
 | @cons p q _ _ a t ih=>
  cases i with
  | zero=>simp at hv;subst hv;exact ⟨q,rfl,a.2⟩
  | succ i=>obtain ⟨p',h1,h2⟩:=ih (i:=i) (by simpa using hv);exact ⟨p',by simpa using h1,h2⟩
theorem Zu2 (pl:gp) {i:Nat} {p:Row×Row} (h:pl[i]?=some p):((pl.take (i + 1)).map (·.2)).flatten=((pl.take i).map (·.2)).flatten++p.2:=by
 have hi:i < pl.length:=(List.getElem?_eq_some_iff.mp h).1;rw [Xb hi,Yw,XU];rw [(List.getElem?_eq_some_iff.mp h).2]
 simp
def ZqR:Sp:=fun vs H Q _=>∃ n:Int,vs=[.int n]/\Q (.int ((n + 62) / 63)) H
theorem ZnQ:Zp ["length"] ["length"] (Zi ZjD):=ZN (by decide +kernel)
theorem Zn9 (T:Tx K mg g):ah P w K mg base (aA P w) 1 g.GS g.HL ["length"] ZqR:=by
 refine T.H_.aP ZnQ (fun vs H Q E h=>?_) (fun aq A outer s H vs Q E hr h=>?_)
 ·obtain ⟨n,rfl,_⟩:=h;rfl
 ·obtain ⟨n,rfl,q⟩:=h;refine ⟨_,(Zh (Zt (Zy eX (Zy su (Zy jt (pv 0) (ZJ (v:=.int 63) rfl T.yr ⟨_,rfl⟩)) Zl) (ZJ (v:=.int 63) rfl T.yr ⟨_,rfl⟩)))),?_⟩;refine ⟨_,rfl,_,_,rfl,rfl,_,_,rfl,rfl,_,_,rfl,rfl,⟨by decide,by decide⟩,?_⟩;rw [show n + 63 - 1=n + 62 by omega];exact q
def ZsO:Sp:=fun vs H Q _=>∃ n v pl,vs=[.int n,v]/\gy H pl v/\0<=n/\n<=256/\pl.length<=1000/\(pl.map (·.2)).flatten.length<=100000/\∀ l H',ag H H'->H' l=some (.lst ((oG n pl).map V.int))->Q (.ref l) H'
theorem Cg:Zp ["count","places","used","numbers","number"] ["count","places"] (Zi Jh):=ZN (by decide +kernel)
theorem Zlp (T:Tx K mg g):ah P w K mg base (aA P w) 1 g.HS g.Jb ["count","places"] ZsO:=by
 refine T.IW.aP Cg (fun vs H Q E h=>?_) (fun aq A outer s H vs Q E hr h=>?_)
 ·obtain ⟨n,v,pl,rfl,_⟩:=h;rfl
 ·obtain ⟨n,v,pl,rfl,⟨a,kvs,rfl,ha,hd⟩,rM,Av,cI,dg,q⟩:=h;have hu:=u1 hr.units
  refine ⟨_,(Zd (Zz (i:=2) Cg.nd rfl (Or.inr rfl) oJ)
   (Zd (EN (i3 Y2 rfl (Zuk (vq YW YaZ YaY GC (pv 1))) (Z9 (i:=3) Cg.nd rfl (Or.inl rfl)) (Zh (i3 Y2 rfl (ZwZ (pv 3)) (Z9 (i:=4) Cg.nd rfl (Or.inl rfl)) (Zh (sM hu (pv 2) (pv 4) nh rfl))))))
   (Zh (Zt (vF (own:=["number"]) (fv:=["used"]) (ix:=[2]) (mq (sc:=Zi Jh) (N:=["count","places","used","numbers","number"]) rfl rfl (by decide +kernel)) rfl (Zul rfl T.qm (Za (ZJ (v:=.int 2) rfl T.ZoC ⟨_,rfl⟩) (Za (pv 0) Ze))) (fun _ _ _ _ _=>Z9 (i:=0) (show (["number","used"]:List Str).Nodup from by decide +kernel) rfl (Or.inl rfl) (Or.inr rfl)) (fun _ _ _ _ _=>ZxM (h9 (vR hu (pv 0) (pv 1)))) (fun _ _ _ _ _=>(pv 0))))))),?_⟩
  refine fun U hU=>?_;have pI:a≠U:=Zg ha hU;refine ⟨a,.dT kvs,(by rw [Zf pI];exact ha),rfl,?_⟩;refine ⟨_,rfl,.inr (.inr (.inl ⟨rfl,.inr ⟨kvs,(by rw [Zf pI];exact ha)⟩⟩)),a,.dT kvs,rfl,rfl,.inl (by rw [Zf pI];exact ha),rfl,fun r ei=>?_⟩;have CY:a≠r:=Zg (H:=upd H U (.dK [])) (by rw [Zf pI];exact ha) ei;have nUr:U≠r:=Zg (H:=upd H U (.dK [])) Zb ei;have Df:H r=none:=by rw [Zf nUr.symm] at ei;exact ei
  refine ⟨r,a,.dT kvs,rfl,Zb,(by rw [Zf CY,Zf pI];exact ha),rfl,fun ob=>?_⟩
  refine Zsg (d:=a) (ob:=ob) (u:=.dT kvs) (fun i σ H'=>(∃ o3 o4,σ=[some (.int n),some (.ref a),some (.ref U),o3,o4])/\H' a=some (.bt ob (.dT kvs))/\(∃ uk,H' U=some (.dK uk)/\xY ((pl.take i).map (·.2)).flatten uk/\uk.length<=((pl.take i).map (·.2)).flatten.length)/\∀ b o,H b=some o->b≠a->H' b=some o)
   ⟨⟨none,none,rfl⟩,Zb,⟨[],(by rw [Zf pI.symm,Zf nUr];exact Zb),fun m=>rfl,Yv _⟩,fun b o e hb=>by rw [Zf hb,Zf (Zg e Df),Zf (Zg e hU)];exact e⟩ (fun i σ H' _ h=>h.2.1) (fun i x σ H' hx h=>?_) (fun σ H' h=>?_)
  ·obtain ⟨⟨o3,o4,rfl⟩,g9,⟨uk,rS,lQ,jZ⟩,kp⟩:=h;obtain ⟨p,hp,t,rfl,ht⟩:=ZwE hd hx;have nta:t≠a:=ZR ht ha (by intro z;cases z);have htU:t≠U:=Zg ht hU
   have bq:((pl.take (i + 1)).map (·.2)).flatten.length<=100000:=by
    have e1:(pl.map (·.2)).flatten=((pl.take (i + 1)).map (·.2)).flatten++((pl.drop (i + 1)).map (·.2)).flatten:=by
     rw [<- XU,<- Yw,YbC]
    rw [e1,Yf] at dg;omega
   rw [Zu2 pl hp] at bq ⊢;generalize ((pl.take i).map (·.2)).flatten=F at lQ jZ bq;refine ⟨_,rfl,t,rfl,⟨_,aG.of (kp _ _ ht nta)⟩,?_⟩
   refine ZuZ (xs:=p.2.map V.int) (fun j σ H'=>(∃ o4,σ=[some (.int n),some (.ref a),some (.ref U),some (.ref t),o4])/\H' a=some (.bt ob (.dT kvs))/\(∃ uk,H' U=some (.dK uk)/\xY (F++p.2.take j) uk/\uk.length<=F.length + j)/\∀ b o,H b=some o->b≠a->H' b=some o)
    ⟨⟨_,rfl⟩,g9,⟨uk,rS,by rw [List.take_zero,Xf];exact lQ,jZ⟩,kp⟩ (fun j σ H' _ h=>aG.of (h.2.2.2 _ _ ht nta)) (fun j y σ H' hy h=>?_) (fun σ H' h=>?_)
   ·obtain ⟨⟨o4,rfl⟩,g9,⟨uk,rS,lQ,jZ⟩,kp⟩:=h;rw [Yo] at hy
    cases hm:p.2[j]? with
    | none=>rw [hm] at hy;cases hy
    | some m=>
     rw [hm] at hy
     cases hy
     have hj:j < p.2.length:=(List.getElem?_eq_some_iff.mp hm).1;rw [Yf] at bq;refine ⟨_,rfl,_,rfl,U,_,rfl,dU.k (k:=.inl m) rS ?_,?_⟩
     ·have:(100001:Nat)<=Ym:=by decide
      omega
     ·refine ⟨⟨_,rfl⟩,(by rw [Zf pI];exact g9),⟨_,Zb,?_,?_⟩,fun b o e hb=>?_⟩
      ·rw [Xb hj,(List.getElem?_eq_some_iff.mp hm).2,<- List.append_assoc];exact lQ.put m _
      ·exact Yk (BQ _ _ _) (by omega)
      ·rw [Zf (Zg e hU)];exact kp _ _ e hb
   ·obtain ⟨⟨o4,rfl⟩,g9,⟨uk,rS,lQ,jZ⟩,kp⟩:=h;rw [Yb] at lQ jZ;rw [XE] at lQ;exact ⟨⟨_,_,rfl⟩,g9,⟨uk,rS,lQ,by rw [Yf];exact jZ⟩,kp⟩
  ·obtain ⟨⟨o3,o4,rfl⟩,g9,⟨uk,rS,lQ,jZ⟩,kp⟩:=h;have m9:(gA (.dT kvs)).length=pl.length:=by show (kvs.map (·.2)).length=_;rw [Yb,hd.len]
   rw [m9,XE] at lQ;refine ⟨ob,.dT kvs,g9,rfl,?_⟩
   have sm:ag H (upd H' a (.dT kvs)):=fun b o e=>by
    by_cases z:b=a
    ·subst z;rw [Zb,<- e,ha]
    ·rw [Zf z];exact kp _ _ e z
   have hU2:(upd H' a (.dT kvs)) U=some (.dK uk):=by rw [Zf pI.symm];exact rS
   refine ⟨_,rfl,2,n,rfl,⟨by omega,by omega,by omega,by omega⟩,fun D hD=>?_⟩;refine yf (J:=mw 2 (n - 2).toNat) (n - 2).toNat (fun i=>(if (pl.map (·.2)).flatten.contains (2 + (i:Int)) then none else some (2 + (i:Int))).map V.int) (fun i x=>x=.int (2 + (i:Int))) hD (Zs (m:=256) (by omega) (by decide)) (fun i H3 hi _=>hi) (fun H3 _=>Ye _) (fun i H3 x H4 hi _ hy=>⟨hy.1,hy.2⟩) (fun i x H3 N hi hx s3 k=>?_) fun H3 s3 hH=>?_
   ·subst hx;refine ⟨_,rfl,_,rfl,U,_,rfl,aJ.k (s3 _ _ hU2) (k:=.inl (2 + (i:Int))),_,rfl,?_⟩;have hk:=k H3 (ag.refl _);rw [lQ (2 + (i:Int))]
    cases hc:(pl.map (·.2)).flatten.contains (2 + (i:Int)) with
    | true=>
     rw [hc] at hk;exact aw hk
    | false=>
     rw [hc] at hk;exact ay ⟨_,rfl,hk⟩
   ·refine q D H3 (sm.trans s3) ?_;rw [hH];unfold oG;rw [List.map_filterMap]
end KS
namespace L2
open PySem PySem.Spec PyProof.Rows
section
variable {X:Cx} {pins:List (Addr×Obj)} {σ:St} {H H2:Hp} {s:Shared} {scope:Scope} {own fv:List Str} {ix:List Nat} {cl:List (Str×Addr)}
theorem ZxK {i₀:Nat} {ie:Str} {fV yV:Pos} {elt target iter:Expr} {ifs:List Expr} {pos:Pos} {wi:TI} {g:TG} {tt:TT} {te:TE} (hN:X.N.Nodup) (zU:X.N[i₀]?=some ie) (zP:Loc X.env.scope ie) (S:nD X scope own fv ix) (hc:X.calm=true) (hi:PI X target iter wi)
  (hg:∀ cl fp C s H,PG (fL X scope cl (own++fv) fp C s H) target g) (ht:∀ cl fp C s H,Co (fL X scope cl (own++fv) fp C s H) ifs tt) (he:∀ cl fp C s H,PE (fL X scope cl (own++fv) fp C s H) elt te)
  (hsw:swapsWith (.ListComp elt [⟨target,iter,ifs,0⟩] scope pos) (some (.Name ie fV)) yV.line X.env=pure true:=by rfl) (zV:X.fn ie=true∨X.env.scope.names.lookup ie=some .local:=by first | exact .inl rfl | exact .inr rfl | assumption)
  (hs:∀ x,foldedSetIterable iter X.env x=pure x:=by intro _;rfl):PS X (.Assign [.Name ie fV] (.ListComp elt [⟨target,iter,ifs,0⟩] scope pos) yV) (oW (ZyL wi own.length ix g tt te) (u7 i₀)):=by
 try unfold PE at *;try unfold PS at *
 intro pins s σ H D I h;rw [exec_Assign_Name_used _ _ _ _ hsw];refine Ya (wpAny_standAt (Ya ?_));change wpAny _ X.A (do let _ <- comprehension (.ListComp elt [⟨target,iter,ifs,0⟩] scope pos) scope X.env _ (newList []) false (eval iter X.env) (some (assign (.Name ie fV) X.env))) _ _ s;refine Ya (Xd (Q:=fun _ s'=>SP X pins D .next s') ?_ (fun _ s' hq=>Yd (Yd hq)) fun _ _ e=>e);obtain ⟨cl,g0,cE,fR⟩:=Gq (scope:=scope) (env:=X.env) (S.cells I.ok);refine wpAny_comprehension_free (use:=some (assign (.Name ie fV) X.env)) rfl hs g0 S.kind S.names (aH (hi pins s σ H _ I h) fun v s1 h1=>aH h1 fun Am s2 h2=>?_);obtain ⟨it,fp,tn,J,H2,e,I2,T,jy,f2,hW⟩:=h2;subst e
 have jL:∀ b∈fp,b < s2.heap.objs.size:=fun b hb=>by
  obtain ⟨o,e,_⟩:=T.obj _ _ jy b hb;exact Yj e
 obtain ⟨W,⟨m0,w0⟩,turn⟩:=hW s2.heap.objs.size I2.fresh;have I3:Inv X pins σ (upd H2 s2.heap.objs.size (.lst [])) {s2 with heap:=s2.heap.push {cls:=.type "list",data:=.seq ([]:List Value).toArray}}:=I2.mC (t':=s2.toks) (its:=[]) .nil (Yv _);refine YF ?_;generalize w_:({s2 with heap:=s2.heap.push {cls:=.type "list",data:=.seq ([]:List Value).toArray}}:Shared)=s3 at I3;have tQ:s3.heap.objs.size=s2.heap.objs.size + 1:=by rw [<- w_];exact XN ..
 have Cw:∀ b o,s2.heap.get? b=some o->s3.heap.get? b=some o:=fun b o e=>by rw [<- w_];exact Yc _ e
 refine YbE (fun y hy=>S.jS y hy) (by intro y hy;simp at hy) (fun h4 tT tR=>?_) S.kind;have mz:∀ b o,s3.heap.get? b=some o->h4.get? b=some o:=fun b o e=>tR.extBut b o (Yu (Yj e)) (Yc _ e);have mF:∀ b∈fp,b < s3.heap.objs.size:=fun b hb=>by rw [tQ];exact Nat.lt_succ_of_lt (jL b hb)
 have I4:=Znp (t1:=s3.toks + ([]:List (Str×Value)).length) S I3 f2 mF cE fR tT mz;have wA:tn 0 h4:=T.keep _ _ _ jy fun b hb o e=>mz b o (Cw b o e);have DM:∀ b∈fp,(upd H2 s2.heap.objs.size (.lst [])) b=none:=fun b hb=>by rw [Zf (Yu (jL b hb))];exact (f2 b hb).1
 have fO:∀ {H':Hp},(∀ b∈fp,H' b=none)->∀ b∈fp,eD (fL X scope cl (own++fv) fp s3.heap.objs.size s3 (upd H2 s2.heap.objs.size (.lst []))) [] H' b:=fun hn b hb=>
  ⟨hn b hb,Yu (mF b hb),(I4.ok.gF b hb),.inl hb,fun x c e=>(f2 b hb).2.2.2.2.1 x c (cE x c e).1,fun p hp=>(nomatch hp)⟩
 have loop:Yas (model X.prog X.w) X.A (.compLoop (.ListComp elt [⟨target,iter,ifs,0⟩] scope pos) 0 (.ref it) (.ref s2.heap.objs.size) (YaK scope cl s3.heap.objs.size X.env))
   (compPost (model X.prog X.w) X.A X.xe (some (assign (.Name ie fV) X.env)) (fun _ s'=>SP X pins D .next s') (.ref s2.heap.objs.size) s3.heap.objs.size) {s3 with heap:=h4,toks:=s3.toks + ([]:List (Str×Value)).length}:=by
  refine Zc5 (fun n s'=>∃ i aC ys H',Inv (fL X scope cl (own++fv) fp s3.heap.objs.size s3 (upd H2 s2.heap.objs.size (.lst []))) [] aC H' s'/\tn i s'.heap/\(∀ b∈fp,H' b=none)/\W i n aC ys H') ?_ m0 ⟨0,_,[],_,I4,wA,DM,w0⟩
  rintro n s5 ⟨i,nL,ys,H5,I5,nQ,rZ,w5⟩
  obtain ⟨hD,next⟩:=turn i n nL ys H5 w5;rcases next with ⟨stop,q⟩ | ⟨go,C5,step⟩
  ·refine aH (T.done (fL X scope cl (own++fv) fp s3.heap.objs.size s3 (upd H2 s2.heap.objs.size (.lst []))) rfl rfl rfl hc i [] s5 nL H5 (fun _ _=>False) I5 (fO rZ) nQ stop) fun r s6 ⟨hr,I6⟩=>?_;subst hr;obtain ⟨m6,As,_⟩:=id I6.loc;have J:Inv X pins σ H5 s6:=Zso I3 f2 I6 ⟨rfl,fun _ _=>rfl⟩;have F:=I3.ij (H':=H5) (Ye s3.heap.objs.size) I6.free;refine wpAny_assign_Name (Zpc J hN zU zP (v:=.ref s2.heap.objs.size) (u:=.ref s2.heap.objs.size) rfl (fun s7 I7 ⟨a,sb,ha⟩=>?_) zV)
   have naC:s3.heap.objs.size≠a:=fun z=>by
    rcases ha with ha | ha
    ·exact F.2.1 (z.trans ha)
    ·exact F.2.2.2.2.1 _ _ ha z.symm
   exact ⟨m6,As.sameBut sb naC,fun h8 hs8=>⟨_,H5,I7.turned (t':=s7.toks) (fun b o hb e=>(hs8.2 b hb).trans e) F.1 F.2.1 F.2.2.2.1 F.2.2.2.2.1 F.2.2.2.2.2,q⟩⟩
  ·refine aH (T.item (fL X scope cl (own++fv) fp s3.heap.objs.size s3 (upd H2 s2.heap.objs.size (.lst []))) rfl rfl rfl hc i [] s5 nL H5 (fun _ _=>False) I5 (fO rZ) nQ go) fun r s6 ⟨u,hr,h6⟩=>?_;subst hr;refine aH h6 fun _ s7 ⟨x,H7,I7,r7,y7,qW,DL⟩=>?_;have JM:=I7.pinned (fO DL) (T.obj _ _ qW);refine aH (hg _ _ _ _ _ _ s7 nL H7 x u _ JM r7 (step x H7 y7)) fun _ s8 ⟨jx,H8,I8,q8⟩=>?_;refine aH (ht _ _ _ _ _ _ s8 jx H8 _ I8 q8) fun b s9 ⟨H9,I9,q9⟩=>?_
   have again:∀ {iT:Shared} {ic:St} {ia:Hp} {nM:List V},Inv (fL X scope cl (own++fv) fp s3.heap.objs.size s3 (upd H2 s2.heap.objs.size (.lst []))) ([]++vv fp s7.heap) ic ia iT->(∃ m',m' < n/\W (i + 1) m' ic nM ia)->
     ∃ m,m < n/\∃ i aC ys H',Inv (fL X scope cl (own++fv) fp s3.heap.objs.size s3 (upd H2 s2.heap.objs.size (.lst []))) [] aC H' iT/\tn i iT.heap/\(∀ b∈fp,H' b=none)/\W i m aC ys H':=fun {iT ic ia nM} mx ⟨m',hm,Cv⟩=>by
    refine ⟨m',hm,i + 1,ic,nM,ia,mx.cO,T.keep _ _ _ qW fun b hb o e=>(mx.pin (b,o) (YL _ (YL _ (vW hb e)))).1,fun b hb=>?_,Cv⟩;obtain ⟨o,e,d⟩:=T.obj _ _ qW b hb;exact (mx.pin (b,o) (YL _ (YL _ (vW hb e)))).2.1
   cases b with
   | false=>
    rw [if_neg (by decide)] at q9;rw [if_neg (by decide)];exact again I9 q9
   | true=>
    rw [if_pos rfl] at q9;rw [if_pos rfl];refine aH (he _ _ _ _ _ _ s9 jx H9 _ I9 q9) fun u9 iT ⟨v9,ia,mx,CM,t_,CO⟩=>?_;refine aH (oP (X:=fL X scope cl (own++fv) fp s3.heap.objs.size s3 (upd H2 s2.heap.objs.size (.lst []))) _ iT jx ia (.ref s2.heap.objs.size) [v9] (.ref s2.heap.objs.size) [u9] (fun _ wo=>wo=upd ia s2.heap.objs.size (.lst (ys++[v9]))) mx rfl (.cons CM .nil) ⟨_,ys,v9,rfl,rfl,t_,C5,rfl⟩) fun _ wD ⟨_,wo,JN,_,CN⟩=>?_;subst CN;exact again JN CO
 exact codeAny_compStart_list loop (T.self _ _ _ _ _ wA loop)
end
end L2
namespace L2
open PySem PySem.Spec PyProof.Rows PySem.W
section
variable {X:Cx} {o e:Expr} {es:List Expr} {to:TE} {t:TA} {name:Str} {apos aU:Pos} {T id:String} {r:V->List V->Hp->VK->Prop} {K:Frag}
theorem Zza (hK:X.K=K) (pa:PlainAttrs T) (slot:Slot T name id) (w4:typeOf (.builtin id)=pure (.type "method_descriptor")) (hm:nK X id r) (ho:PE X o to) (ha:PA X (e::es) t)
  (jb:W2 o name X.env (eval o X.env)=eval o X.env:=by rfl)
  (tX:((Wi aU (Yx (e::es) X.env)).all (fun x=>!x.1) && (backToKw aU (YaW [] X.env)).all (fun x=>x.1.isSome) && decide ((e::es).length + ([]:List Keyword).length + (if ([]:List Keyword).isEmpty then 0 else 1) < 30))=true:=by rfl)
  (i_:(apos.endLine == aU.line)=true:=by rfl) (hs:Yx (e::es) X.env=(false,eval e X.env)::Yx es X.env:=by rfl) (fW:(Wi aU (Yx es X.env)).any (·.1)=false:=by rfl) :
  PE X (.Call (.Attribute o name apos) (e::es) [] aU) (tBM K T r to t):=by
 subst hK;exact j9 pa slot w4 hm ho ha jb tX i_ hs fW
end
end L2
namespace KS
open PySem L2
variable {P:Program} {w:World} {K:Yg} {mg:Str->Option Value} {base:Heap} {g:Gs}
def sI (c:Nat):Nat:=(YX ow ⟨#[c]⟩ 0 ow.length 1).headD 0
def mv (t:Str):Row:=((List.range t.cps.size).map fun i=>(sI (t.cps.getD i 0):Int) + 1)++List.replicate (8 - t.cps.size) 0
def sV (p:Str×Int):Row:=mv p.1++[p.2]
def yk (es:ao):Row:=((bB es).map sV).flatten
theorem BM {t:Str} (h:ef t=true):1<=t.cps.size/\t.cps.size<=8/\∀ i,i < t.cps.size->sH (t.cps.getD i 0)=true:=by
 unfold ef at h
 split at h
 ·cases h
 ·rename_i hh
  have e:t.length=t.cps.size:=rfl;refine ⟨?_,?_,fun i hi=>?_⟩
  ·rw [<- e];exact Nat.not_lt.mp fun z=>hh (.inl z)
  ·rw [<- e];exact Nat.not_lt.mp fun z=>hh (.inr (.inl z))
  ·exact List.all_eq_true.mp h i (List.mem_range.mpr hi)
theorem Ii {t:Str} (h:t.cps.size<=8):(mv t).length=8:=by
 unfold mv;rw [Yf,Yb,Xv,YM];omega
theorem ZxC {c:Nat} (h:sH c=true):∃ rest,YX ow ⟨#[c]⟩ 0 ow.length 1=sI c::rest:=by
 unfold sH at h;unfold sI
 cases e:YX ow ⟨#[c]⟩ 0 ow.length 1 with
 | nil=>rw [e] at h;cases h
 | cons i r=>exact ⟨r,rfl⟩
def ZqJ:Sp:=fun vs H Q _=>∃ t,vs=[.str t]/\ef t=true/\∀ v H',ag H H'->Z1 H' (mv t) v->Q v H'
theorem Zhu:Zp ["name","codes"] ["name"] (Zi Hw):=ZN (by decide +kernel)
theorem ZhQ (T:Tx K mg g):ah P w K mg base (aA P w) 1 g.GF g.Hq ["name"] ZqJ:=by
 refine T.BY.aP Zhu (fun vs H Q E h=>?_) (fun aq A outer s H vs Q E hr h=>?_)
 ·obtain ⟨t,rfl,_⟩:=h;rfl
 ·obtain ⟨t,rfl,hb,q⟩:=h;obtain ⟨n1,n8,hsg⟩:=BM hb
  refine ⟨_,(Zd (ZxK (i₀:=1) Zhu.nd rfl (Or.inl rfl) (own:=["sign"]) (fv:=[]) (ix:=[]) (mq (sc:=Zi Hw) (N:=["name","codes"]) rfl rfl (by decide +kernel)) rfl (Zw0 (pv 0)) (fun _ _ _ _ _=>Z9 (i:=0) (show (["sign"]:List Str).Nodup from by decide +kernel) rfl (Or.inl rfl) (Or.inr rfl)) (fun _ _ _ _ _=>vA) (fun _ _ _ _ _=>(Zy jt (Zza (K:=K) rfl Ybk PySem.F.slot_str_index PySem.F.type_str_index ZuA (ZJ (v:=.str "ABCDEFGHIJKLMNOPQRSTUVWXYZabcdefghijklmnopqrstuvwxyz0123456789._-") rfl T.Zj5 ⟨_,rfl⟩) (Za (pv 0) Ze)) Zl)))
   (Zh (Zt (Zy ju (ZT IH rfl T.EL PyProof.Rows.Boot.«tuple» (Za (pv 1) Ze)) (Zy x6 (dz (Za Zl Ze)) (Zy su (ZJ (v:=.int 8) rfl T.ZgK ⟨_,rfl⟩) (ZD ZI (by rfl) T.eu YC (Za (pv 1) Ze)))))))),?_⟩
  refine ⟨_,rfl,_,rfl,fun D hD=>?_⟩;refine yf (J:=Cq t) t.cps.size (fun i=>some (V.int ((sI (t.cps.getD i 0):Int) + 1))) (fun i x=>i < t.cps.size/\x=.str ⟨#[t.cps.getD i 0]⟩) hD (Zs n8 (by decide)) (fun i H' hi _=>hi) (fun H' _=>rfl) (fun i H' x H2 hi _ hy=>?_) (fun i x H' N hi hx _ k=>?_) fun H' s' hH=>?_
  ·obtain ⟨e,c,hc,e2⟩:=hy;refine ⟨e,hi,?_⟩;rw [e2,show t.cps.getD i 0=c by rw [YE,hc];rfl]
  ·obtain ⟨hi,rfl⟩:=hx;obtain ⟨rest,ho⟩:=ZxC (hsg i hi);refine ay (B:=N none H') ?_;exact ⟨rfl,_,rfl,_,_,_,rest,rfl,rfl,ho,_,_,rfl,rfl,k _ (ag.refl _)⟩
  ·have cE:((List.range t.cps.size).filterMap fun i=>some (V.int ((sI (t.cps.getD i 0):Int) + 1)))=((List.range t.cps.size).map fun i=>(sI (t.cps.getD i 0):Int) + 1).map V.int:=by
    rw [Ybm,XJ];rfl
   rw [cE] at hH;generalize xy:((List.range t.cps.size).map fun i=>(sI (t.cps.getD i 0):Int) + 1)=cs at hH;have mJ:cs.length=t.cps.size:=by rw [<- xy,Yb,Xv]
   refine ⟨_,rfl,D,_,rfl,.inl ⟨ar.of hH,fun a ha=>?_⟩⟩;have s1:=Zj (o:=.tup (cs.map V.int)) ha;refine ⟨aX 1,fun b hb=>?_⟩;have s2:=Zj (o:=.tup [.int 0]) hb;refine ⟨_,rfl,D,_,rfl,.inl (ar.of (s2 _ _ (s1 _ _ hH))),_,_,rfl,rfl,b,_,_,rfl,rfl,Zb,by simp,?_,?_,?_,fun c H2 s3 hc=>?_⟩
   ·rw [Yb,mJ];omega
   ·rw [Yb,mJ];omega
   ·rw [Yb,mJ];show 1 * _<=_;exact Zs (m:=8) (by omega) (by decide)
   rw [vN] at hc;have e8:((8:Int) - ((cs.map V.int).length:Int)).toNat=8 - t.cps.size:=by rw [Yb,mJ];omega
   rw [e8] at hc;refine ⟨a,c,_,_,rfl,rfl,aG.of (s3 _ _ (s2 _ _ Zb)),aG.of hc,fun _=>hc,fun _ _=>s3 _ _ (s2 _ _ Zb),?_,fun d H3 s4 hd=>?_⟩
   ·rw [Yb,YM,mJ];exact Zs (m:=8) (by omega) (by decide)
   refine q _ H3 (s'.trans (s1.trans (s2.trans (s3.trans s4)))) ⟨d,rfl,?_⟩;rw [hd];unfold mv;rw [xy,Yw,Wy]
theorem FW (es:ao):∀ p∈bB es,p∈es:=by
 intro p hp;unfold bB at hp
 split at hp
 ·exact hp
 ·rename_i h2
  obtain ⟨i,hi,rfl⟩:=List.mem_map.mp hp;have low:=qE (fun i j=>kL (es.getD i (Str.empty,0)) (es.getD j (Str.empty,0))) (sW (n:=es.length) (by omega));have j0:i < es.length:=low.lt i (by simpa using hi);rw [Ys,Yh j0];exact Ybe j0
theorem Zu3 {α β:Type} (f:α->List β) (xs:List α) {i:Nat} {p:α} (h:xs[i]?=some p):((xs.take (i + 1)).map f).flatten=((xs.take i).map f).flatten++f p:=by
 have hi:i < xs.length:=(List.getElem?_eq_some_iff.mp h).1;rw [Xb hi,Yw,XU,(List.getElem?_eq_some_iff.mp h).2]
 simp
def lH (es:ao):Prop:=∀ p∈es,ef p.1=true
theorem E_ (es:ao) (h:lH es):∀ l:ao,(∀ p∈l,p∈es)->((l.map sV).flatten).length=9 * l.length
 | [],_=>rfl
 | p::l,hl=>by
  rw [Yt,Xh,Yf,E_ es h l fun q hq=>hl q (Yr _ hq),Yz];unfold sV;rw [Yf,Ii (BM (h p (hl p YA))).2.1];show 8 + 1 + _=_;omega
def ZvS:Sp:=fun vs H Q _=>∃ v es,vs=[v]/\gk H es v/\es.length < 64/\lH es/\∀ u H',ag H H'->Z1 H' (yk es) u->Q u H'
theorem yw:Zp ["entries","row","name","number"] ["entries"] (Zi ZhD):=ZN (by decide +kernel)
theorem Zmt (T:Tx K mg g):ah P w K mg base (aA P w) 2 g.Hg g.IL ["entries"] ZvS:=by
 refine T.Iz.aP yw (fun vs H Q E h=>?_) (fun aq A outer s H vs Q E hr h=>?_)
 ·obtain ⟨v,es,rfl,_⟩:=h;rfl
 ·obtain ⟨v,es,rfl,⟨a,rfl,ha⟩,hz,g8,q⟩:=h
  refine ⟨_,(Zd (Zz (i:=1) yw.nd rfl (Or.inl rfl) (dz Ze))
   (Zd (i3 Y2 rfl (qk (ZD Zj8 (by rfl) T.sU PyProof.Rows.Boot.«sorted» (Za (vq YW Yba Ya9 Fq (pv 0)) Ze))) (xW rfl (nG (Z9 (i:=2) yw.nd rfl (Or.inl rfl)) (nG (Z9 (i:=3) yw.nd rfl (Or.inl rfl)) x8))) (Zh (Zz (i:=1) yw.nd rfl (Or.inl rfl) (Zy ju (Zy ju (pv 1) (Zn (ZhQ T) hr.dn rfl T.ZjW T.BY.kp T.dZ .nil Zc (Za (pv 2) Ze))) (dz (Za (pv 3) Ze))))))
   (Zh (Zt (pv 1))))),?_⟩
  refine ⟨Yv _,fun r ei=>?_⟩;have s1:=Zj (o:=.tup []) ei;refine ⟨_,rfl,.inr (.inr (.inl ⟨rfl,.inl ⟨_,s1 _ _ ha⟩⟩)),a,_,rfl,rfl,.inl (s1 _ _ ha),rfl,fun p hp=>?_⟩;have s2:=Zj (o:=vf p a) hp;refine ⟨p,a,es,rfl,Zb,.inl (s2 _ _ (s1 _ _ ha)),hz,fun l as H1 s3 hl d_ hlen hle bO=>?_⟩;have sA:=s1.trans (s2.trans s3);refine ⟨l,rfl,⟨_,ar.of d_⟩,?_⟩;have rE:(bB es).length<=64:=by rw [<- hlen];omega
  refine vK (xs:=as.map V.ref) (fun i σ H'=>∃ t o2 o3,σ=[some (.ref a),some (.ref t),o2,o3]/\ag H1 H'/\H' t=some (.tup ((((bB es).take i).map sV).flatten.map V.int))) ⟨r,none,none,rfl,ag.refl _,s3 _ _ (s2 _ _ Zb)⟩ (fun i σ H' _ h=>?_) (fun i x σ H' hx h=>?_) (fun σ H' h=>?_)
  ·obtain ⟨t,o2,o3,rfl,sm,ht⟩:=h;exact ar.of (sm _ _ d_)
  ·obtain ⟨t,o2,o3,rfl,sm,ht⟩:=h;rw [Yo] at hx
   cases hb:as[i]? with
   | none=>rw [hb] at hx;cases hx
   | some b=>
    rw [hb] at hx
    cases hx
    have hi:i < (bB es).length:=by rw [<- hlen];exact (List.getElem?_eq_some_iff.mp hb).1
    obtain ⟨pr,rG⟩:∃ pr,(bB es)[i]?=some pr:=⟨_,Yh hi⟩
    have AB:=sm _ _ (bO i b pr hb rG);have kT:pr∈es:=FW es pr (Yy rG);have dg:=E_ es g8 ((bB es).take i) fun q hq=>FW es q (List.mem_of_mem_take hq);have rD:((bB es).take i).length<=64:=by rw [Y0];omega
    rw [Zu3 sV _ rG];generalize (((bB es).take i).map sV).flatten=F at ht dg;refine ⟨b,_,rfl,aG.of AB,rfl,_,_,rfl,_,_,rfl,rfl,?_⟩;refine ⟨_,rfl,_,rfl,pr.1,rfl,g8 pr kT,fun u H2 s4 ⟨c,e,hc⟩=>?_⟩;subst e;have lT:(mv pr.1).length=8:=Ii (BM (g8 pr kT)).2.1;refine ⟨t,c,_,_,rfl,rfl,aG.of (s4 _ _ ht),aG.of hc,fun _=>hc,fun _ _=>s4 _ _ ht,?_,fun d H3 s5 hd=>?_⟩
    ·rw [Yb,Yb,lT,dg];exact Zs (m:=1000) (by omega) (by decide)
    refine ⟨_,rfl,aX 1,fun e he=>?_⟩;have s6:=Zj (o:=.tup [.int pr.2]) he;refine ⟨d,e,_,_,rfl,rfl,aG.of (s6 _ _ hd),aG.of Zb,fun _=>Zb,(fun h=>nomatch h),?_,fun f H4 s7 hf=>?_⟩
    ·rw [Yf,Yb,Yb,lT,dg];exact Zs (m:=1000) (by show 9 * _ + 8 + 1<=1000;omega) (by decide)
    refine ⟨f,_,_,rfl,sm.trans (s4.trans (s5.trans (s6.trans s7))),?_⟩;rw [hf];unfold sV;rw [Yw,Yw,List.append_assoc];rfl
  ·obtain ⟨t,o2,o3,rfl,sm,ht⟩:=h;rw [Yb,hlen,XE] at ht;exact ⟨_,rfl,q _ _ (sA.trans sm) ⟨t,rfl,ht⟩⟩
structure eY where
 free:List Int
 bu:gp
 places:gp
def iO (f o p:V):List (Str×V):=av "places" p (av "older" o (av "free" f []))
theorem cf1:¬ (("free":Str)="places"):=by decide +kernel
theorem cf2:¬ (("free":Str)="older"):=by decide +kernel
theorem cf3:¬ (("older":Str)="places"):=by decide +kernel
theorem D9 (f o p:V):(iO f o p).lookup ("free":Str)=some f:=by unfold iO;rw [Zo,if_neg cf1,Zo,if_neg cf2,Zo,if_pos rfl]
theorem ZzK (f o p:V):(iO f o p).lookup ("older":Str)=some o:=by unfold iO;rw [Zo,if_neg cf3,Zo,if_pos rfl]
theorem xN (f o p:V):(iO f o p).lookup ("places":Str)=some p:=by unfold iO;rw [Zo,if_pos rfl]
theorem Em (f o p:V) {m:Str} (h1:¬ m="places") (h2:¬ m="older") (h3:¬ m="free"):(iO f o p).lookup m=none:=by
 unfold iO;rw [Zo,if_neg h1,Zo,if_neg h2,Zo,if_neg h3];rfl
theorem El (f o p:V):iO f o p=([("free",f),("older",o),("places",p)]:List (Str×V)):=by
 have e1:av "older" o [(("free":Str),f)]=([("free",f),("older",o)]:List (Str×V)):=by
  show (if ("free":Str)="older" then [(("free":Str),o)] else (("free":Str),f)::av "older" o [])=_;rw [if_neg cf2];rfl
 have e2:av "places" p [(("free":Str),f),(("older":Str),o)]=([("free",f),("older",o),("places",p)]:List (Str×V)):=by
  show (if ("free":Str)="places" then (("free":Str),p)::[(("older":Str),o)] else (("free":Str),f)::(if ("older":Str)="places" then [(("older":Str),p)] else (("older":Str),o)::av "places" p []))=_;rw [if_neg cf1,if_neg cf3];rfl
 show av "places" p (av "older" o [(("free":Str),f)])=_;rw [e1,e2]
theorem Zyj (f o p f':V):av "free" f' (iO f o p)=iO f' o p:=by
 rw [El,El];show (if ("free":Str)="free" then (("free":Str),f')::[(("older":Str),o),(("places":Str),p)] else _)=_;rw [if_pos rfl]
structure ZAw (g:Gs) (H:Hp) (c pl:Addr) (C:eY) (dx f o:Addr) (ko kp:List (List Key×V)):Prop where
 ob:H c=some (.ins g.aQ dx (iO (.ref f) (.ref o) (.ref pl)))
 hf:H f=some (.lst (C.free.map V.int))
 ho:H o=some (.dT ko)
 hp:H pl=some (.dT kp)
 ro:Z8 rKey Z1 H C.bu ko
 rp:Z8 rKey Z1 H C.places kp
 ne:o≠pl
def j6 (g:Gs) (H:Hp) (c pl:Addr) (C:eY):Prop:=∃ dx f o ko kp,ZAw g H c pl C dx f o ko kp
theorem j6.same {g:Gs} {H H':Hp} {c pl:Addr} {C:eY} (s:ag H H'):j6 g H c pl C->j6 g H' c pl C
 | ⟨dx,f,o,ko,kp,h⟩=>⟨dx,f,o,ko,kp,s _ _ h.ob,s _ _ h.hf,s _ _ h.ho,s _ _ h.hp,h.ro.same Z1.mono s,h.rp.same Z1.mono s,h.ne⟩
def aR (a b:Addr) (H H':Hp):Prop:=∀ d o,H d=some o->d≠a->d≠b->H' d=some o
theorem aR.refl {a b:Addr} {H:Hp}:aR a b H H:=fun _ _ e _ _=>e
theorem aR.of {a b:Addr} {H H':Hp} (s:ag H H'):aR a b H H':=fun _ _ e _ _=>s _ _ e
theorem aR.trans {a b:Addr} {H H' yP:Hp} (s:aR a b H H') (t:aR a b H' yP):aR a b H yP:=fun d o e h1 h2=>t _ _ (s _ _ e h1 h2) h1 h2
theorem aR.u5 {c pl:Addr} {H0 H H':Hp} (s0:ag H0 H) (h1:H0 c=none) (h2:H0 pl=none) (s:aR c pl H H'):ag H0 H':=fun d o e=>s _ _ (s0 _ _ e) (Zg e h1) (Zg e h2)
structure si (C:eY):Prop where
 o:∀ p∈C.bu,p.2≠[]
 p:∀ p∈C.places,p.2≠[]
def vd (C:eY) (n:Nat):Except Rf (Row×eY):=if C.free.length < n then .error .noRoom else .ok (C.free.take n,{C with free:=C.free.drop n})
def fP (C:eY) (row:Row):Except Rf (Int×eY):=if row=[] then .ok (0,C) else match aa C.places row with
 | some ns=>.ok (ns.headD 0,C)
 | none=>match aa C.bu row with
  | some ns=>.ok (ns.headD 0,{C with places:=af C.places row ns})
  | none=>match vd C ((row.length + 62) / 63) with
   | .error r=>.error r
   | .ok (ns,C')=>.ok (ns.headD 0,{C' with places:=af C'.places row ns})
theorem Zqo (xs:List Int) (n:Nat):bC (xs.map V.int) none (some (n:Int))=(xs.take n).map V.int:=by
 unfold bC;rw [HT.fY,HT.cu,YaI,Nat.sub_zero,<- Yap,Yb]
 congr 1
 rcases Yaf n xs.length with h | h
 ·rw [WD h]
 ·rw [X2 h,XE,YS h]
theorem Zqp (xs:List Int) (n:Nat):bC (xs.map V.int) (some (n:Int)) none=(xs.drop n).map V.int:=by
 unfold bC;rw [HT.fY,HT.cu,Yb,<- List.map_drop,<- Yap]
 congr 1
 rcases Yaf n xs.length with h | h
 ·rw [WD h,YS (by rw [YU];exact Ye _)]
 ·rw [X2 h,Wq,Yab h,Ya5]
def Zt6 (g:Gs):Sp:=fun vs H Q _=>∃ c dx f o,vs=[.ref c,f,o]/\H c=some (.ins g.aQ dx [])/\∀ pl H',H pl=none->(∀ b u,H b=some u->b≠c->H' b=some u)->H' c=some (.ins g.aQ dx (iO f o (.ref pl)))->H' pl=some (.dT [])->Q .aL H'
theorem Zmq:Zp ["self","free","older"] ["self","free","older"] (Zi ZhM):=ZN (by decide +kernel)
theorem Zmy (T:Tx K mg g):ah P w K mg base (aA P w) 1 g.GV g.Iu ["self","free","older"] (Zt6 g):=by
 refine T.Zio.aP Zmq (fun vs H Q E h=>?_) (fun aq A outer s H vs Q E hr h=>?_)
 ·obtain ⟨c,dx,f,o,rfl,_⟩:=h;rfl
 ·obtain ⟨c,dx,f,o,rfl,hc,q⟩:=h
  refine ⟨_,(Zd (fu (pv 0) (pv 1) rfl)
   (Zd (fu (pv 0) (pv 2) rfl)
   (Zh (fu (pv 0) ZrW rfl)))),?_⟩
  refine ⟨_,rfl,_,rfl,c,g.aQ,dx,[],rfl,hc,T.i4,T.yz,(by show 0 < 1000;decide),?_⟩;refine ⟨_,rfl,_,rfl,c,g.aQ,dx,_,rfl,Zb,T.i4,T.Je,(by show 1 < 1000;decide),?_⟩;refine fun pl cI=>?_;have Ai:c≠pl:=Zg Zb cI;have zj:H pl=none:=by rw [Zf Ai.symm,Zf Ai.symm] at cI;exact cI
  refine ⟨_,rfl,c,g.aQ,dx,_,rfl,(by rw [Zf Ai];exact Zb),T.i4,T.wk,(by show 2 < 1000;decide),?_⟩;refine q pl _ zj (fun b u e hb=>?_) Zb ?_
  ·rw [Zf hb,Zf (Zg e zj),Zf hb,Zf hb];exact e
  ·rw [Zf Ai.symm];exact Zb
def ug {α:Type} (g:Gs) (R:Hp->α->V->Prop) (H:Hp) (c pl:Addr) (m:Except Rf (α×eY)) (Q:VK) (E:XK):Prop:=match m with
 | .ok (x,C)=>∀ v H',aR c pl H H'->j6 g H' c pl C->R H' x v->Q v H'
 | .error r=>∀ H',aR c pl H H'->E (.ref (g.xa r)) none H'
def ZyO (g:Gs):Sp:=fun vs H Q E=>∃ c pl C,∃ n:Nat,vs=[.ref c,.int n]/\j6 g H c pl C/\C.free.length<=1000/\ug g Z1 H c pl (vd C n) Q E
theorem Zgx:Zp ["self","many","taken"] ["self","many"] (Zi ZhL):=ZN (by decide +kernel)
theorem Zmx (T:Tx K mg g):ah P w K mg base (aA P w) 1 g.GW g.Iv ["self","many"] (ZyO g):=by
 refine T.Zin.aP Zgx (fun vs H Q E h=>?_) (fun aq A outer s H vs Q E hr h=>?_)
 ·obtain ⟨c,pl,C,n,rfl,_⟩:=h;rfl
 ·obtain ⟨c,pl,C,n,rfl,⟨dx,f,o,ko,kp,hC⟩,hz,q⟩:=h
  refine ⟨_,(Zd (Z0 (ZG sq (pv 1) (ZD ZI (by rfl) T.eu YC (Za (Zv (pv 0) rfl) Ze)) (ZO _)) (Zh (Z2 T.Zvz rfl T.Zr6 (Za Zr Ze))) Zx)
   (Zd (Zz (i:=2) Zgx.nd rfl (Or.inl rfl) (nF EK (Zv (pv 0) rfl) ql (lI (pv 1))))
   (Zd (fu (pv 0) (nF EK (Zv (pv 0) rfl) (lI (pv 1)) ql) rfl)
   (Zh (Zt (ZT IH rfl T.EL PyProof.Rows.Boot.«tuple» (Za (pv 2) Ze))))))),?_⟩
  refine ⟨_,rfl,_,rfl,c,_,dx,_,_,rfl,hC.ob,T.i4,T.yz,D9 _ _ _,f,_,rfl,.inl (ar.of hC.hf),_,_,rfl,rfl,_,rfl,?_⟩;rw [Yb];unfold vd at q
  by_cases h1:C.free.length < n
  ·rw [if_pos h1] at q;rw [decide_eq_true (show (C.free.length:Int) < (n:Int) by omega)];exact ay ⟨aX 1,q _ aR.refl⟩
  ·rw [if_neg h1] at q;rw [decide_eq_false (show ¬ (C.free.length:Int) < (n:Int) by omega)];refine aw ?_;refine ⟨_,rfl,c,_,dx,_,_,rfl,hC.ob,T.i4,T.yz,D9 _ _ _,_,rfl,_,rfl,f,_,rfl,ar.of hC.hf,fun a ha=>?_⟩;rw [Zqo] at *;have s1:=Zj (o:=.lst ((C.free.take n).map V.int)) ha;refine ⟨_,rfl,c,_,dx,_,_,rfl,s1 _ _ hC.ob,T.i4,T.yz,D9 _ _ _,_,rfl,_,rfl,f,_,rfl,ar.of (s1 _ _ hC.hf),fun b hb=>?_⟩;rw [Zqp] at *;have s2:=Zj (o:=.lst ((C.free.drop n).map V.int)) hb;have sA:=s1.trans s2;have ncb:c≠b:=Zg (s1 _ _ hC.ob) hb;have nca:c≠a:=Zg hC.ob ha;refine ⟨_,rfl,c,_,dx,_,rfl,sA _ _ hC.ob,T.i4,T.yz,(by rw [El];show 3 < 1000;decide),?_⟩;rw [Zyj];refine ⟨_,rfl,a,_,rfl,.inl ⟨ar.of (by rw [Zf nca.symm];exact s2 _ _ Zb),fun d hd=>?_⟩⟩
   have iU:∀ x u,H x=some u->x≠c->(upd (upd (upd (upd H a (.lst ((C.free.take n).map V.int))) b (.lst ((C.free.drop n).map V.int))) c (.ins g.aQ dx (iO (.ref b) (.ref o) (.ref pl)))) d (.tup ((C.free.take n).map V.int))) x=some u:=fun x u e hx=>by
    have h1:(upd (upd (upd H a (.lst ((C.free.take n).map V.int))) b (.lst ((C.free.drop n).map V.int))) c (.ins g.aQ dx (iO (.ref b) (.ref o) (.ref pl)))) x=some u:=by rw [Zf hx];exact sA _ _ e
    exact Zj hd _ _ h1
   have noc:o≠c:=ZR hC.ho hC.ob (by intro z;cases z);have uB:pl≠c:=ZR hC.hp hC.ob (by intro z;cases z);have ncd:c≠d:=Zg (H:=upd (upd (upd H a (.lst ((C.free.take n).map V.int))) b (.lst ((C.free.drop n).map V.int))) c (.ins g.aQ dx (iO (.ref b) (.ref o) (.ref pl)))) Zb hd;have nbd:b≠d:=Zg (H:=upd (upd (upd H a (.lst ((C.free.take n).map V.int))) b (.lst ((C.free.drop n).map V.int))) c (.ins g.aQ dx (iO (.ref b) (.ref o) (.ref pl)))) (by rw [Zf ncb.symm];exact Zb) hd
   have rows:∀ {xs:gp} {kv:List (List Key×V)},Z8 rKey Z1 H xs kv->Z8 rKey Z1 (upd (upd (upd (upd H a (.lst ((C.free.take n).map V.int))) b (.lst ((C.free.drop n).map V.int))) c (.ins g.aQ dx (iO (.ref b) (.ref o) (.ref pl)))) d (.tup ((C.free.take n).map V.int))) xs kv:=by
    intro xs kv hh;unfold Z8 at *
    induction hh with
    | nil=>exact .nil
    | cons a1 _ ih=>
     obtain ⟨e1,t,e2,ht⟩:=a1;exact .cons ⟨e1,t,e2,iU _ _ ht (ZR ht hC.ob (by intro z;cases z))⟩ ih
   refine q _ _ (fun x u e h1 _=>iU x u e h1) ⟨dx,b,o,ko,kp,?_,?_,iU _ _ hC.ho noc,iU _ _ hC.hp uB,rows hC.ro,rows hC.rp,hC.ne⟩ ⟨d,rfl,Zb⟩
   ·rw [Zf ncd];exact Zb
   ·rw [Zf nbd,Zf ncb.symm];exact Zb
theorem xT {H:Hp} {a t:Addr} {kvs:List (List Key×V)} {row:Row} (e:H a=some (.dT kvs)) (ht:H t=some (.tup (row.map V.int))):aJ H a (.ref t) (aV kvs (rKey row)):=aJ.t e (by rw [x9];exact ht)
theorem Zss {ns:Row} (h:ns≠[]):fj (ns.map V.int) 0=some (.int (ns.headD 0)):=by
 cases ns with
 | nil=>exact absurd rfl h
 | cons n r=>exact qb (by decide) rfl
theorem sR {κ α:Type} [DecidableEq κ] {k:κ} {x:α}:∀ {xs:List (κ×α)},aa xs k=some x->(k,x)∈xs
 | p::r,h=>by
  by_cases z:p.1=k
  ·rw [fI z] at h
   cases h
   rw [<- z];exact YA
  ·rw [ZZ z] at h;exact Yr _ (sR h)
theorem len0 (row:Row):decide (V.int ((row.map V.int).length:Int)=V.int 0)=decide (row=[]):=by
 rw [Yb]
 cases row with
 | nil=>rfl
 | cons a r=>
  rw [decide_eq_false (by intro z;injection z with z;rw [Yz] at z;omega),decide_eq_false (by intro z;cases z)]
def ZyQ (g:Gs):Sp:=fun vs H Q E=>∃ c pl C row v,vs=[.ref c,v]/\Z1 H row v/\j6 g H c pl C/\si C/\C.free.length<=1000/\C.places.length<=1000/\row.length<=100000/\ug g ZzT H c pl (fP C row) Q E
theorem ZnZ:Zp ["self","row"] ["self","row"] (Zi ZjQ):=ZN (by decide +kernel)
theorem ZhV (T:Tx K mg g):ah P w K mg base (aA P w) 2 g.F4 g.HV ["self","row"] (ZyQ g):=by
 refine T.Zkm.aP ZnZ (fun vs H Q E h=>?_) (fun aq A outer s H vs Q E hr h=>?_)
 ·obtain ⟨c,pl,C,row,v,rfl,_⟩:=h;rfl
 ·obtain ⟨c,pl,C,row,v,rfl,⟨t,rfl,ht⟩,xG,ok,pL,wX,hz3,q⟩:=h;obtain ⟨dx,f,o,ko,kp,hC⟩:=id xG;have hu:=u1 hr.units
  refine ⟨_,(Zd (Z0 (ZG fm (ZD ZI (by rfl) T.eu YC (Za (pv 1) Ze)) Zl (ZO _)) (Zh (Zt (ZJ (v:=.int 0) rfl T.Znl ⟨_,rfl⟩))) Zx)
   (Zd (Z0 (h9 (vR hu (pv 1) (Zv (pv 0) rfl))) (Zh (sM hu (Zv (pv 0) rfl) (pv 1) (ZrT (h9 (lD hu (pv 1) (Zv (pv 0) rfl))) (jv hu (Zv (pv 0) rfl) (pv 1) (fun _ _=>rfl)) (ZP (pv 0) T.i4 T.ZoA (Zmx T) hr.dn T.gM .nil Zc (Za (Zn (Zn9 T) hr.dn rfl T.ZpU T.H_.kp T.iB .nil Zc (Za (ZD ZI (by rfl) T.eu YC (Za (pv 1) Ze)) Ze)) Ze))) rfl)) Zx)
   (Zh (Zt (bw iQ (jv hu (Zv (pv 0) rfl) (pv 1) (fun _ _=>rfl)) Zl (fun _ _=>rfl)))))),?_⟩
  refine ⟨_,rfl,t,_,rfl,.inr (aG.of ht),rfl,_,rfl,?_⟩;rw [len0];unfold fP at q
  by_cases h0:row=[]
  ·rw [if_pos h0] at q;rw [decide_eq_true h0];exact ay (q _ _ aR.refl xG rfl)
  ·rw [if_neg h0] at q;rw [decide_eq_false h0];refine aw ?_;refine ⟨_,rfl,_,rfl,c,_,dx,_,_,rfl,hC.ob,T.i4,T.wk,xN _ _ _,pl,_,rfl,xT hC.hp ht,_,rfl,?_⟩;have ntc:t≠c:=ZR ht hC.ob (by intro z;cases z);have ntp:t≠pl:=ZR ht hC.hp (by intro z;cases z)
   -- gs end: what Lf at gs row is told
   cases hg:aa C.places row with
   | some ns=>
    rw [hg] at q;obtain ⟨v,hv,⟨t2,rfl,dO⟩⟩:=hC.rp.yes vM hg;rw [hv];refine aw ?_;refine ⟨_,rfl,c,_,dx,_,_,rfl,hC.ob,T.i4,T.wk,xN _ _ _,_,rfl,pl,_,rfl,(by have:=xT hC.hp ht;rw [hv] at this;exact this),t2,_,_,_,rfl,rfl,aG.of dO,Zss (ok.p _ (sR hg)),?_⟩;exact q _ _ aR.refl xG rfl
   | none=>
    rw [hg] at q;dsimp only at q;rw [hC.rp.no vM hg];refine ay ?_
    -- Cr ns,and telling its first
    have fin:∀ (C':eY) (ns:Row) (H1:Hp) (u:V),aR c pl H H1->j6 g H1 c pl C'->C'.places=C.places->Z1 H1 ns u->ns≠[]->(∀ v H',aR c pl H H'->j6 g H' c pl {C' with places:=af C'.places row ns}->v=.int (ns.headD 0)->Q v H')->
      ∃ a C0 DY xI v0,V.ref c=.ref a/\H1 a=some (.ins C0 DY xI)/\Cls K C0/\eP K C0 "places"/\xI.lookup ("places":Str)=some v0/\∃ a2 H4,v0=.ref a2/\dU H1 a2 (.ref t) u H4/\
       ∃ a C0 DY xI v0,V.ref c=.ref a/\H4 a=some (.ins C0 DY xI)/\Cls K C0/\eP K C0 "places"/\xI.lookup ("places":Str)=some v0/\∃ a3 v3,v0=.ref a3/\aJ H4 a3 (.ref t) (some v3)/\∃ p xs i z,v3=.ref p/\V.int 0=.int i/\aG K H4 p xs/\fj xs i=some z/\Q z H4:=by
     intro C' ns H1 u b1 xH ep pM bY qq;obtain ⟨hV,f1,o1,ko1,iU,h1⟩:=id xH;obtain ⟨t2,rfl,dO⟩:=pM;have kD:H1 t=some (.tup (row.map V.int)):=b1 _ _ ht ntc ntp;have kH:aa C'.places row=none:=by rw [ep];exact hg
     have uB:c≠pl:=ZR h1.ob h1.hp (by intro z;cases z);have nt2:t2≠pl:=ZR dO h1.hp (by intro z;cases z);have nfp:f1≠pl:=ZR h1.hf h1.hp (by intro z;cases z);have k4:aR c pl H1 (upd H1 pl (.dT (putK iU (rKey row) (.ref t2)))):=fun d o e _ h2=>by rw [Zf h2];exact e
     have rows:∀ {xs:gp} {kv:List (List Key×V)},Z8 rKey Z1 H1 xs kv->Z8 rKey Z1 (upd H1 pl (.dT (putK iU (rKey row) (.ref t2)))) xs kv:=by
      intro xs kv hh;unfold Z8 at *
      induction hh with
      | nil=>exact .nil
      | cons a1 _ ih=>
       obtain ⟨e1,t',e2,Ap⟩:=a1;exact .cons ⟨e1,t',e2,by rw [Zf (ZR Ap h1.hp (by intro z;cases z))];exact Ap⟩ ih
     have AG:j6 g (upd H1 pl (.dT (putK iU (rKey row) (.ref t2)))) c pl {C' with places:=af C'.places row ns}:=⟨hV,f1,o1,ko1,_,by rw [Zf uB];exact h1.ob,by rw [Zf nfp];exact h1.hf,by rw [Zf h1.ne];exact h1.ho,Zb,rows h1.ro,(rows h1.rp).put vM ⟨t2,rfl,by rw [Zf nt2];exact dO⟩,h1.ne⟩
     refine ⟨c,_,hV,_,_,rfl,h1.ob,T.i4,T.wk,xN _ _ _,pl,_,rfl,dU.t (k:=rKey row) h1.hp (by rw [x9];exact kD) (lt_size (by rw [h1.rp.len,ep];omega)),?_⟩
     refine ⟨c,_,hV,_,_,rfl,(by rw [Zf uB];exact h1.ob),T.i4,T.wk,xN _ _ _,pl,.ref t2,rfl,(by
      have:=xT (H:=upd H1 pl (.dT (putK iU (rKey row) (.ref t2)))) (a:=pl) (t:=t) (row:=row) Zb (by rw [Zf ntp];exact kD)
      rw [Fh,if_pos rfl] at this;exact this),t2,_,_,_,rfl,rfl,aG.of (by rw [Zf nt2];exact dO),Zss bY,?_⟩
     exact qq _ _ (b1.trans k4) AG rfl
    refine ⟨_,rfl,_,rfl,c,_,dx,_,_,rfl,hC.ob,T.i4,T.Je,ZzK _ _ _,o,_,rfl,xT hC.ho ht,_,rfl,?_⟩
    cases xo:aa C.bu row with
    | some ns=>
     rw [xo] at q;obtain ⟨v,hv,Dg⟩:=hC.ro.yes vM xo;rw [hv];refine ay ?_;refine ⟨_,rfl,c,_,dx,_,_,rfl,hC.ob,T.i4,T.Je,ZzK _ _ _,_,rfl,o,v,rfl,(by have:=xT hC.ho ht;rw [hv] at this;exact this),?_⟩;obtain ⟨a1,C1,hV,DJ,v1,e1,e2,e3,e4,e5,a2,H4,e6,e7,a3,C3,l0,DI,v3,e8,e9,DV,DU,DT,rest⟩:=fin C ns H v aR.refl xG rfl Dg (ok.o _ (sR xo)) (fun v H' b h e=>q v H' b h e);refine ⟨_,rfl,a1,C1,hV,DJ,v1,e1,e2,e3,e4,e5,_,rfl,a2,H4,e6,e7,_,rfl,a3,C3,l0,DI,v3,e8,e9,DV,DU,DT,_,rfl,rest⟩
    | none=>
     rw [xo] at q;dsimp only at q;rw [hC.ro.no vM xo];refine aw ?_;refine ⟨_,rfl,c,dx,_,rfl,hC.ob,Em _ _ _ (by decide +kernel) (by decide +kernel) (by decide +kernel),_,rfl,t,_,rfl,.inr (aG.of ht),_,rfl,?_⟩;have rQ:((((row.map V.int).length:Nat):Int) + 62) / 63=(((row.length + 62) / 63:Nat):Int):=by rw [Yb];omega
     rw [rQ];refine ⟨c,pl,C,_,rfl,xG,pL,?_⟩
     cases jn:vd C ((row.length + 62) / 63) with
     | error r=>
      rw [jn] at q;exact fun H' b=>q H' b
     | ok pr=>
      obtain ⟨ns,C'⟩:=pr;rw [jn] at q;dsimp only at q;intro u H1 b1 xH pM
      have nc:C'.places=C.places/\ns≠[]:=by
       unfold vd at jn
       split at jn
       ·cases jn
       ·rename_i bq
        cases jn
        refine ⟨rfl,fun z=>?_⟩;have hl:(C.free.take ((row.length + 62) / 63)).length=0:=by rw [z];rfl
        rw [Y0] at hl;have gE:1<=row.length:=List.length_pos_iff.mpr h0;omega
      obtain ⟨a1,C1,hV,DJ,v1,e1,e2,e3,e4,e5,a2,H4,e6,e7,a3,C3,l0,DI,v3,e8,e9,DV,DU,DT,rest⟩:=fin C' ns H1 u b1 xH nc.1 pM nc.2 (fun v H' b h e=>q v H' b h e);refine ⟨_,rfl,a1,C1,hV,DJ,v1,e1,e2,e3,e4,e5,_,rfl,a2,H4,e6,e7,_,rfl,a3,C3,l0,DI,v3,e8,e9,DV,DU,DT,_,rfl,rest⟩
def gX (S:az) (n:Int):Int×Row:=match aa S.dat n with
 | some r=>(1,r)
 | none=>(2,yk ((aa S.ent n).getD []))
def AR (n:Int) (t:Int×Row) (i:Int):Row:=[n,t.1,(t.2.length:Int) / 256,(t.2.length:Int) % 256,i]
def fM (S:az):List Int->Row->eY->Except Rf (Row×eY)
 | [],t,C=>.ok (t,C)
 | n::ns,t,C=>match fP C (gX S n).2 with
  | .error r=>.error r
  | .ok (i,C')=>fM S ns (t++AR n (gX S n) i) C'
theorem ZtO (S:az) (t:Row) (C:eY):fM S [] t C=.ok (t,C):=rfl
theorem ZrG (S:az) (n:Int) (ns:List Int) (t:Row) (C:eY):fM S (n::ns) t C=match fP C (gX S n).2 with
  | .error r=>.error r
  | .ok (i,C')=>fM S ns (t++AR n (gX S n) i) C':=rfl
def oq (S:az) (C:eY):Except Rf (Row×eY):=match fM S (nI S) [] C with
 | .error r=>.error r
 | .ok (t,C')=>match fP C' t with
  | .error r=>.error r
  | .ok (i,JP)=>.ok ([((nI S).length:Int),i],JP)
structure dI (S:az):Prop where
 n:S.dat.length + S.ent.length < 64
 row:∀ n r,aa S.dat n=some r->r.length<=1000
 ent:∀ n es,aa S.ent n=some es->es.length < 64/\lH es
theorem Fl {κ α:Type} [DecidableEq κ] {xs:List (κ×α)} {k:κ} {x:α} {p:κ×α} (h:p∈af xs k x):p∈xs∨p.2=x:=by
 unfold af at h
 split at h
 ·obtain ⟨q,hq,e⟩:=List.mem_map.mp h
  split at e
  ·right;rw [<- e]
  ·left;rw [<- e];exact hq
 ·rcases List.mem_append.mp h with h | h
  ·exact .inl h
  ·right;rw [List.mem_singleton.mp h]
structure vc (C C':eY) (k:Nat):Prop where
 ok:si C'
 fr:C'.free.length<=C.free.length
 pl:C'.places.length<=C.places.length + k
 old:C'.bu=C.bu
theorem EO {C C':eY} {row:Row} {i:Int} (h:fP C row=.ok (i,C')) (ok:si C):vc C C' 1:=by
 unfold fP at h
 split at h
 ·cases h;exact ⟨ok,Ye _,Wz _,rfl⟩
 ·rename_i h0
  split at h
  ·cases h;exact ⟨ok,Ye _,Wz _,rfl⟩
  ·split at h
   ·rename_i ns hg
    cases h
    refine ⟨⟨ok.o,fun p hp=>?_⟩,Ye _,qp _ _ _,rfl⟩;rcases Fl hp with hp | hp
    ·exact ok.p p hp
    ·rw [hp];exact ok.o _ (sR hg)
   ·split at h
    ·cases h
    ·rename_i ns C1 jn
     cases h
     unfold vd at jn
     split at jn
     ·cases jn
     ·rename_i bq
      cases jn
      refine ⟨⟨ok.o,fun p hp=>?_⟩,by show (C.free.drop _).length<=_;rw [YU];omega,qp _ _ _,rfl⟩;rcases Fl hp with hp | hp
      ·exact ok.p p hp
      ·rw [hp];intro z;have hl:(C.free.take ((row.length + 62) / 63)).length=0:=by rw [z];rfl
       rw [Y0] at hl;have gE:1<=row.length:=List.length_pos_iff.mpr h0;omega
theorem ZmJ {es:ao} (h:lH es) (hl:(bB es).length<=64):(yk es).length<=1000:=by
 unfold yk;rw [E_ es h (bB es) fun q hq=>FW es q hq];omega
theorem sS {κ α:Type} [DecidableEq κ] {k:κ}:∀ {xs:List (κ×α)},aa xs k=none->¬ k∈xs.map (·.1)
 | [],_=>by simp
 | p::r,h=>by
  by_cases z:p.1=k
  ·rw [fI z] at h;cases h
  ·rw [ZZ z] at h;rw [Yt];intro hm;rcases List.mem_cons.mp hm with e | hm
   ·exact z e.symm
   ·exact sS h hm
theorem Gv {α:Type} (es:List α) (d:α):(List.range es.length).map (fun i=>es.getD i d)=es:=by
 apply List.ext_getElem
 ·rw [Yb,Xv]
 ·intro i h1 h2;rw [Wo,List.getElem_range,Ys,Yh h2];rfl
theorem s_ (es:ao):(bB es).Perm es:=by
 unfold bB
 split
 ·exact .refl _
 ·rename_i h2
  have low:bM es.length _:=qE (fun i j=>kL (es.getD i (Str.empty,0)) (es.getD j (Str.empty,0))) (sW (n:=es.length) (by omega))
  have p1:(ZB (fun i j=>kL (es.getD i (Str.empty,0)) (es.getD j (Str.empty,0))) (PySem.W.kas_sort es.length)).toList.Perm (List.range es.length):=by
   have:=low.toList
   simpa using this
  have p2:=p1.map fun i=>es.getD i (Str.empty,0);rw [Gv] at p2;exact p2
theorem ZvV (es:ao) (h:es.length < 64):(bB es).length<=64:=by
 rw [(s_ es).length_eq];omega
def ZyT (g:Gs):Sp:=fun vs H Q E=>∃ v S c pl C H0,vs=[v,.ref c]/\ag H0 H/\H0 c=none/\H0 pl=none/\ZA g H0 S v/\dI S/\j6 g H c pl C/\si C/\C.free.length<=1000/\C.places.length<=900/\ug g Z1 H c pl (oq S C) Q E
theorem qz:Zp ["state","chains","table","number","kind","row"] ["state","chains"] (Zi Zju):=ZN (by decide +kernel)
theorem ZhP (T:Tx K mg g):ah P w K mg base (aA P w) 3 g.Gi g.IP ["state","chains"] (ZyT g):=by
 refine T.BZ.aP qz (fun vs H Q E h=>?_) (fun aq A outer s H vs Q E hr h=>?_)
 ·obtain ⟨v,S,c,pl,C,H0,rfl,_⟩:=h;rfl
 ·obtain ⟨v,S,c,pl,C,H0,rfl,s0,n1,n2,hS,so,hC,ok,pL,wX,q⟩:=h;have hu:=u1 hr.units
  refine ⟨_,(Zd (Zz (i:=2) qz.nd rfl (Or.inl rfl) (dz Ze))
   (Zd (i3 Y2 rfl (qk (Zn (ZgH T) hr.dn rfl T.ZhZ T.B_.kp T.dm .nil Zc (Za (pv 0) Ze))) (Z9 (i:=3) qz.nd rfl (Or.inl rfl)) (Zd (Z0 (h9 (lD hu (pv 3) (Zv (pv 0) rfl))) (Zd (Zz (i:=4) qz.nd rfl (Or.inl rfl) (ZJ (v:=.int 1) rfl T.Zrl ⟨_,rfl⟩))
   (Zh (Zz (i:=5) qz.nd rfl (Or.inl rfl) (jv hu (Zv (pv 0) rfl) (pv 3) (fun _ _=>rfl))))) (Zd (Zz (i:=4) qz.nd rfl (Or.inl rfl) (ZJ (v:=.int 2) rfl T.Zks ⟨_,rfl⟩))
   (Zh (Zz (i:=5) qz.nd rfl (Or.inl rfl) (Zn (Zmt T) hr.dn rfl T.Zoo T.Iz.kp T.gI .nil Zc (Za (jv hu (Zv (pv 0) rfl) (pv 3) (fun _ _=>rfl)) Ze))))))
   (Zh (Zz (i:=2) qz.nd rfl (Or.inl rfl) (Zy ju (pv 2) (dz (Za (pv 3) (Za (pv 4) (Za (Zy eX (ZD ZI (by rfl) T.eu YC (Za (pv 5) Ze)) Zl) (Za (Zy c7 (ZD ZI (by rfl) T.eu YC (Za (pv 5) Ze)) Zl) (Za (ZP (pv 1) T.i4 T.Zj3 (ZhV T) hr.dn T.d8 .nil Zc (Za (pv 5) Ze)) Ze)))))))))))
   (Zh (Zt (dz (Za (ZD ZI (by rfl) T.eu YC (Za (Zn (ZgH T) hr.dn rfl T.ZhZ T.B_.kp T.dm .nil Zc (Za (pv 0) Ze)) Ze)) (Za (ZP (pv 1) T.i4 T.Zj3 (ZhV T) hr.dn T.d8 .nil Zc (Za (pv 2) Ze)) Ze))))))),?_⟩
  refine ⟨Yv _,fun a ha=>?_⟩;have s1:=Zj (o:=.tup []) ha;refine ⟨_,rfl,v,S,rfl,ZA.mono _ _ _ _ (s0.trans s1) hS,so.n,fun l H1 s2 hl=>?_⟩;refine ⟨l,rfl,⟨_,ar.of hl⟩,?_⟩
  have kE:(nI S).length < 64:=by
   unfold nI;rw [(ym _).length_eq,Yf,Yb,Yb];exact so.n
  unfold oq at q;generalize zo:nI S=ns at q hl kE;have sB:=s1.trans s2
  refine vK (xs:=ns.map V.int) (fun i σ H'=>∃ t tab C',(∃ o3 o4 o5,σ=[some v,some (.ref c),some (.ref t),o3,o4,o5])/\H' t=some (.tup (tab.map V.int))/\H' l=some (.lst (ns.map V.int))/\aR c pl H H'/\j6 g H' c pl C'/\vc C C' i/\tab.length=5 * i/\fM S ns [] C=fM S (ns.drop i) tab C')
   ⟨a,[],C,⟨none,none,none,rfl⟩,s2 _ _ Zb,hl,aR.of sB,hC.same sB,⟨ok,Ye _,Ye _,rfl⟩,rfl,rfl⟩ (fun i σ H' _ h=>?_) (fun i x σ H' hx h=>?_) (fun σ H' h=>?_)
  ·obtain ⟨t,tab,C',_,_,lV,_⟩:=h;exact ar.of lV
  ·obtain ⟨t,tab,C',⟨o3,o4,o5,rfl⟩,ht,lV,b1,nc,gr,rD,hw⟩:=h;rw [Yo] at hx
   cases hn:ns[i]? with
   | none=>rw [hn] at hx;cases hx
   | some n=>
    rw [hn] at hx
    cases hx
    have hi:i < ns.length:=(List.getElem?_eq_some_iff.mp hn).1
    have xu:ns.drop i=n::ns.drop (i + 1):=by
     rw [YaP hi];rw [(List.getElem?_eq_some_iff.mp hn).2]
    rw [xu,ZrG] at hw;have CK:ag H0 H':=aR.u5 s0 n1 n2 b1;obtain ⟨p,dx,da,ea,dk,ek,rfl,hP⟩:=ZA.mono _ _ _ _ CK hS
    -- behind gs choice of gs row
    have fin:∀ (H2:Hp) (u:V),aR c pl H H2->ag H' H2->Z1 H2 (gX S n).2 u->(gX S n).2.length<=1000->∀ (N:St->Hp->Prop),(∀ t2 jE C2 o3 o4 o5 H3,H3 t2=some (.tup (jE.map V.int))->H3 l=some (.lst (ns.map V.int))->aR c pl H H3->j6 g H3 c pl C2->vc C C2 (i + 1)->jE.length=5 * (i + 1)->fM S ns [] C=fM S (ns.drop (i + 1)) jE C2->N [some (.ref p),some (.ref c),some (.ref t2),o3,o4,o5] H3)->
      ∀ bH,bH=[some (.ref p),some (.ref c),some (.ref t),some (.int n),some (.int (gX S n).1),some u]->
      oW (dN (Zy4 K) (aO 2) (tE (cY (aO 3) (cY (aO 4) (cY (dN (rI zG fun i j=>.int (i / j)) (qU (fun xs H Q=>∃ p ys,xs=[V.ref p]/\(ar K H p ys∨aG K H p ys)/\Q (.int ys.length) H) (cY (aO 5) bp)) (tC (.int 256))) (cY (dN (rI (fun _ j=>0 < j) fun i j=>.int (i % j)) (qU (fun xs H Q=>∃ p ys,xs=[V.ref p]/\(ar K H p ys∨aG K H p ys)/\Q (.int ys.length) H) (cY (aO 5) bp)) (tC (.int 256))) (cY (kK g.aQ "put" (ZyQ g) [] (fun _=>E) (aO 1) (cY (aO 5) bp)) bp))))))) (u7 2) {nx:=N,rt:=Q,bk:=fun _ _=>True,ct:=N} bH H2:=by
     intro H2 u b2 qZ rC hlen N hN bH e2;subst e2;obtain ⟨t5,rfl,w9⟩:=rC;have rV:=nc.same qZ;obtain ⟨gR,f2,o2,ko2,wV,h2⟩:=id rV;refine ⟨_,rfl,_,rfl,_,rfl,_,rfl,t5,_,rfl,.inr (aG.of w9),_,_,rfl,rfl,⟨by decide,by decide⟩,_,rfl,t5,_,rfl,.inr (aG.of w9),_,_,rfl,rfl,(by show (0:Int) < 256;decide),_,rfl,c,gR,_,rfl,h2.ob,Em _ _ _ (by decide +kernel) (by decide +kernel) (by decide +kernel),_,rfl,?_⟩;refine ⟨c,pl,C',_,_,rfl,⟨t5,rfl,w9⟩,rV,gr.ok,Yk gr.fr pL,(by have:=gr.pl;omega),by omega,?_⟩
     cases uJ:fP C' (gX S n).2 with
     | error r=>
      rw [uJ] at hw;rw [hw] at q;exact fun H3 b3=>q H3 (b2.trans b3)
     | ok pr=>
      obtain ⟨j,C2⟩:=pr;rw [uJ] at hw;dsimp only at hw;intro vj H3 b3 DF ej
      cases ej
      have g1:=EO uJ gr.ok;refine ⟨aX 5,fun e he=>?_⟩;have s4:=Zj (o:=.tup [.int n,.int (gX S n).1,.int (((((gX S n).2.map V.int).length:Nat):Int) / 256),.int (((((gX S n).2.map V.int).length:Nat):Int) % 256),.int j]) he;have iL:H3 t=some (.tup (tab.map V.int)):=b3 _ _ (qZ _ _ ht) (ZR (qZ _ _ ht) h2.ob (by intro z;cases z)) (ZR (qZ _ _ ht) h2.hp (by intro z;cases z));have gw:H3 l=some (.lst (ns.map V.int)):=b3 _ _ (qZ _ _ lV) (ZR (qZ _ _ lV) h2.ob (by intro z;cases z)) (ZR (qZ _ _ lV) h2.hp (by intro z;cases z));refine ⟨t,e,_,_,rfl,rfl,aG.of (s4 _ _ iL),aG.of Zb,fun _=>Zb,(fun z=>nomatch z),?_,fun d H4 s5 hd=>?_⟩
      ·rw [Yb,rD];exact Zs (m:=1000) (by show 5 * i + 5<=1000;omega) (by decide)
      refine hN d (tab++AR n (gX S n) j) C2 _ _ _ H4 ?_ (s5 _ _ (s4 _ _ gw)) (b2.trans (b3.trans (aR.of (s4.trans s5)))) (DF.same (s4.trans s5)) ⟨g1.ok,Yk g1.fr gr.fr,by have:=g1.pl;have:=gr.pl;omega,g1.old.trans gr.old⟩ ?_ hw
      ·rw [hd,Yw];unfold AR;rw [Yb];rfl
      ·rw [Yf,rD];rfl
    refine ⟨_,rfl,_,rfl,p,_,dx,_,_,rfl,hP.ob,T.ZW,T.mm,lB _ _,da,_,rfl,aJ.k hP.hd (k:=.inl n),_,rfl,?_⟩;rw [hP.rd.some ee]
    cases hg:aa S.dat n with
    | some r=>
     have r6:gX S n=(1,r):=by unfold gX;rw [hg]
     refine ay ?_;obtain ⟨vr,hv,ei⟩:=hP.rd.yes ee hg;refine ⟨_,rfl,p,_,dx,_,_,rfl,hP.ob,T.ZW,T.mm,lB _ _,_,rfl,da,vr,rfl,(by have:=aJ.k hP.hd (k:=.inl n);rw [hv] at this;exact this),?_⟩;exact fin H' vr b1 (ag.refl _) (by rw [r6];exact ei) (by rw [r6];exact so.row n r hg) _ (fun t2 jE C2 o3 o4 o5 H3 a1 a2 a3 a4 a5 a6 a7=>⟨t2,jE,C2,⟨o3,o4,o5,rfl⟩,a1,a2,a3,a4,a5,a6,a7⟩) _ (by rw [r6];rfl)
    | none=>
     refine aw ?_
     have g_:∃ es,aa S.ent n=some es:=by
      have kT:n∈S.dat.map (·.1)++S.ent.map (·.1):=by
       have:n∈ns:=Yy hn
       rw [<- zo] at this;exact (ym _).mem_iff.mp this
      rcases List.mem_append.mp kT with hm | hm
      ·exact absurd hm (sS hg)
      ·cases he:aa S.ent n with
       | none=>exact absurd hm (sS he)
       | some es=>exact ⟨es,rfl⟩
     obtain ⟨es,he⟩:=g_;have r6:gX S n=(2,yk es):=by unfold gX;rw [hg,he];rfl
     obtain ⟨ve,hv,ei⟩:=hP.re.yes ee he;obtain ⟨hel,g8⟩:=so.ent n es he;refine ⟨_,rfl,p,_,dx,_,_,rfl,hP.ob,T.ZW,T.Zu,gm _ _,_,rfl,ea,ve,rfl,(by have:=aJ.k hP.he (k:=.inl n);rw [hv] at this;exact this),ve,es,rfl,ei,hel,g8,fun u H2 s3 rC=>?_⟩;exact fin H2 u (b1.trans (aR.of s3)) s3 (by rw [r6];exact rC) (by rw [r6];exact ZmJ g8 (ZvV es hel)) _ (fun t2 jE C2 o3 o4 o5 H3 a1 a2 a3 a4 a5 a6 a7=>⟨t2,jE,C2,⟨o3,o4,o5,rfl⟩,a1,a2,a3,a4,a5,a6,a7⟩) _ (by rw [r6];rfl)
  ·obtain ⟨t,tab,C',⟨o3,o4,o5,rfl⟩,ht,lV,b1,nc,gr,rD,hw⟩:=h;rw [Yb,Wq,ZtO] at hw;rw [Yb] at rD gr;rw [hw] at q;dsimp only at q;have CK:ag H0 H':=aR.u5 s0 n1 n2 b1;refine ⟨_,rfl,v,S,rfl,ZA.mono _ _ _ _ CK hS,so.n,fun l2 H2 s3 cJ=>?_⟩;rw [zo] at cJ;have rV:=nc.same s3;obtain ⟨gR,f2,o2,ko2,wV,h2⟩:=id rV;refine ⟨l2,_,rfl,.inl (ar.of cJ),_,rfl,c,gR,_,rfl,h2.ob,Em _ _ _ (by decide +kernel) (by decide +kernel) (by decide +kernel),_,rfl,?_⟩;refine ⟨c,pl,C',tab,_,rfl,⟨t,rfl,s3 _ _ ht⟩,rV,gr.ok,Yk gr.fr pL,(by have:=gr.pl;omega),by omega,?_⟩
   cases uJ:fP C' tab with
   | error r=>
    rw [uJ] at q;exact fun H3 b3=>q H3 (b1.trans ((aR.of s3).trans b3))
   | ok pr=>
    obtain ⟨j,C2⟩:=pr;rw [uJ] at q;dsimp only at q;intro vj H3 b3 DF ej
    cases ej
    refine ⟨aX 2,fun e he=>?_⟩;refine q _ _ (b1.trans ((aR.of s3).trans (b3.trans (aR.of (Zj he))))) (DF.same (Zj he)) ⟨e,rfl,?_⟩;rw [Zb,Yb];rfl
structure lM where
 places:gp
 heads:Row
def rA (p h:V):List (Str×V):=av "heads" h (av "places" p [])
theorem if1:¬ (("places":Str)="heads"):=by decide +kernel
theorem Ei (p h:V):(rA p h).lookup ("places":Str)=some p:=by unfold rA;rw [Zo,if_neg if1,Zo,if_pos rfl]
theorem Ea (p h:V):(rA p h).lookup ("heads":Str)=some h:=by unfold rA;rw [Zo,if_pos rfl]
def iP (g:Gs) (H:Hp) (I:lM) (v:V):Prop:=∃ p dx pl hd,v=.ref p/\H p=some (.ins g.dh dx (rA pl hd))/\gy H I.places pl/\Z1 H I.heads hd
theorem iP.mono {g:Gs}:jR (iP g):=fun _ _ _ _ s ⟨p,dx,pl,hd,e,h1,h2,h3⟩=>⟨p,dx,pl,hd,e,s _ _ h1,gy.mono _ _ _ _ s h2,Z1.mono _ _ _ _ s h3⟩
abbrev Kept:=List (Str×az)
def eB (g:Gs) (H:Hp) (k:Kept) (v:V):Prop:=∃ a kvs,v=.ref a/\H a=some (.dK kvs)/\Z8 Xp (ZA g) H k kvs
theorem eB.mono {g:Gs}:jR (eB g):=fun _ _ _ _ s ⟨a,kvs,e,h,d⟩=>⟨a,kvs,e,s _ _ h,d.same ZA.mono s⟩
def sj (k:Kept):List Str->Row->eY->Except Rf (Row×eY)
 | [],h,C=>.ok (h,C)
 | n::ns,h,C=>match aa k n with
  | none=>.error .aB
  | some S=>match oq S C with
   | .error r=>.error r
   | .ok (t,C')=>sj k ns (h++mv n++t) C'
theorem ZvW (k:Kept) (h:Row) (C:eY):sj k [] h C=.ok (h,C):=rfl
theorem Zub (k:Kept) (n:Str) (ns:List Str) (h:Row) (C:eY):sj k (n::ns) h C=match aa k n with
  | none=>.error .aB
  | some S=>match oq S C with
   | .error r=>.error r
   | .ok (t,C')=>sj k ns (h++mv n++t) C':=rfl
def sO (S:az) (k:Kept) (free:List Int) (bu:gp):Except Rf lM:=match oq S ⟨free,bu,[]⟩ with
 | .error r=>.error r
 | .ok (h,C)=>match sj k (eV (k.map (·.1))) h C with
  | .error r=>.error r
  | .ok (h',C')=>.ok ⟨C'.places,h'⟩
theorem ZtP {S:az}:∀ {ns:List Int} {t t':Row} {C C':eY},fM S ns t C=.ok (t',C')->si C->vc C C' ns.length/\t'.length=t.length + 5 * ns.length
 | [],t,t',C,C',h,ok=>by rw [ZtO] at h;cases h;exact ⟨⟨ok,Ye _,Ye _,rfl⟩,rfl⟩
 | n::ns,t,t',C,C',h,ok=>by
  rw [ZrG] at h
  cases hp:fP C (gX S n).2 with
  | error r=>rw [hp] at h;cases h
  | ok pr=>
   obtain ⟨i,C1⟩:=pr;rw [hp] at h;dsimp only at h;have g1:=EO hp ok;obtain ⟨g2,l2⟩:=ZtP h g1.ok;refine ⟨⟨g2.ok,Yk g2.fr g1.fr,?_,g2.old.trans g1.old⟩,?_⟩
   ·have:=g1.pl;have:=g2.pl;rw [Yz];omega
   ·rw [l2,Yf,Yz];show t.length + 5 + _=_;omega
theorem Zse {S:az} {C C':eY} {t:Row} (h:oq S C=.ok (t,C')) (ok:si C) (so:dI S):vc C C' 64/\t.length=2:=by
 unfold oq at h
 cases ht:fM S (nI S) [] C with
 | error r=>rw [ht] at h;cases h
 | ok pr=>
  obtain ⟨t1,C1⟩:=pr;rw [ht] at h;dsimp only at h;obtain ⟨g1,l1⟩:=ZtP ht ok
  cases hp:fP C1 t1 with
  | error r=>rw [hp] at h;cases h
  | ok pr=>
   obtain ⟨i,C2⟩:=pr;rw [hp] at h
   cases h
   have g2:=EO hp g1.ok
   have kE:(nI S).length < 64:=by
    unfold nI;rw [(ym _).length_eq,Yf,Yb,Yb];exact so.n
   refine ⟨⟨g2.ok,Yk g2.fr g1.fr,?_,g2.old.trans g1.old⟩,rfl⟩
   have:=g1.pl;have:=g2.pl;omega
structure hZ (k:Kept):Prop where
 n:k.length<=3
 nm:∀ n S,aa k n=some S->ef n=true/\dI S
theorem BO (ns:List Str):(eV ns).Perm ns:=by
 unfold eV
 split
 ·exact .refl _
 ·rename_i h2
  have low:bM ns.length _:=qE (fun i j=>decide ((ns.getD i Str.empty).cps.toList < (ns.getD j Str.empty).cps.toList)) (sW (n:=ns.length) (by omega))
  have p1:(ZB (fun i j=>decide ((ns.getD i Str.empty).cps.toList < (ns.getD j Str.empty).cps.toList)) (PySem.W.kas_sort ns.length)).toList.Perm (List.range ns.length):=by
   have:=low.toList
   simpa using this
  have p2:=p1.map fun i=>ns.getD i Str.empty;rw [Gv] at p2;exact p2
theorem Z8.qL {α:Type} {R:Hp->α->V->Prop} {H:Hp} {xs:List (Str×α)} {kvs:List (Key×V)} (h:Z8 Xp R H xs kvs):kvs.map (·.1)=(xs.map (·.1)).map Xp:=by
 unfold Z8 at h
 induction h with
 | nil=>rfl
 | cons a _ ih=>rw [Yt,Yt,Yt,ih,a.1]
def Zt1 (g:Gs):Sp:=fun vs H Q _=>∃ p dx d e,vs=[.ref p,d,e]/\H p=some (.ins g.dh dx [])/\∀ H',(∀ b o,H b=some o->b≠p->H' b=some o)->H' p=some (.ins g.dh dx (rA d e))->Q .aL H'
theorem ZnT:Zp ["self","places","heads"] ["self","places","heads"] (Zi ZjI):=ZN (by decide +kernel)
theorem Zoe (T:Tx K mg g):ah P w K mg base (aA P w) 1 g.GN g.HH ["self","places","heads"] (Zt1 g):=by
 refine T.Zke.aP ZnT (fun vs H Q E h=>?_) (fun aq A outer s H vs Q E hr h=>?_)
 ·obtain ⟨p,dx,d,e,rfl,_⟩:=h;rfl
 ·obtain ⟨p,dx,d,e,rfl,hp,q⟩:=h
  refine ⟨_,(Zd (fu (pv 0) (pv 1) rfl)
   (Zh (fu (pv 0) (pv 2) rfl))),?_⟩
  refine ⟨_,rfl,_,rfl,p,g.dh,dx,[],rfl,hp,T.vH,T.Cj,(by show 0 < 1000;decide),?_⟩;refine ⟨_,rfl,_,rfl,p,g.dh,dx,_,rfl,Zb,T.vH,T.ZhW,(by show 1 < 1000;decide),?_⟩;refine q _ (fun b o e hb=>?_) Zb;rw [Zf hb,Zf hb];exact e
def Zt2 (g:Gs):Sp:=fun vs H Q E=>∃ v S kv k fv free ov bu,vs=[v,kv,.ref fv,ov]/\ZA g H S v/\eB g H k kv/\H fv=some (.lst (free.map V.int))/\gy H bu ov/\dI S/\hZ k/\free.length<=1000/\(∀ p∈bu,p.2≠[])/\dQ g (iP g) H (sO S k free bu) Q E
theorem yq:Zp ["state","kept","free","older","chains","heads","name"] ["state","kept","free","older"] (Zi ZmZ):=ZN (by decide +kernel)
theorem Zq6 (T:Tx K mg g):ah P w K mg base (aA P w) 4 g.ER g.Gx ["state","kept","free","older"] (Zt2 g):=by
 refine T.F8.aP yq (fun vs H Q E h=>?_) (fun aq A outer s H vs Q E hr h=>?_)
 ·obtain ⟨v,S,kv,k,fv,free,ov,bu,rfl,_⟩:=h;rfl
 ·obtain ⟨v,S,kv,k,fv,free,ov,bu,rfl,hS,⟨ka,kvs,rfl,mZ,hkd⟩,hfv,⟨oa,ko,rfl,Dk,Dj⟩,so,kk,dg,bY,q⟩:=h;have hu:=u1 hr.units
  refine ⟨_,(Zd (Zz (i:=4) yq.nd rfl (Or.inl rfl) (oB T.ZuC (Zmy T) hr.dn rfl T.Zwl T.gN .nil Zc (Za (pv 2) (Za (pv 3) Ze))))
   (Zd (Zz (i:=5) yq.nd rfl (Or.inl rfl) (Zn (ZhP T) hr.dn rfl T.ZjV T.BZ.kp T.dY .nil Zc (Za (pv 0) (Za (pv 4) Ze))))
   (Zd (i3 Y2 rfl (qk (ZD Zj9 (by rfl) T.sU PyProof.Rows.Boot.«sorted» (Za (pv 1) Ze))) (Z9 (i:=6) yq.nd rfl (Or.inl rfl)) (Zh (Zz (i:=5) yq.nd rfl (Or.inl rfl) (Zy ju (Zy ju (pv 5) (Zn (ZhQ T) hr.dn rfl T.ZjW T.BY.kp T.dZ .nil Zc (Za (pv 6) Ze))) (Zn (ZhP T) hr.dn rfl T.ZjV T.BZ.kp T.dY .nil Zc (Za (jv hu (pv 1) (pv 6) (fun _ _=>rfl)) (Za (pv 4) Ze)))))))
   (Zh (Zt (oB T.Zwg (Zoe T) hr.dn rfl T.Zx1 T.iG .nil Zc (Za (Zv (pv 4) rfl) (Za (pv 5) Ze)))))))),?_⟩
  refine ⟨_,rfl,_,rfl,fun c dx hc lX ne=>⟨c,dx,_,_,rfl,Zb,fun pl H1 cI iU gP g7=>⟨rfl,?_⟩⟩⟩;have uB:pl≠c:=fun z=>by rw [z,Zb] at cI;cases cI
  have jK:H pl=none:=by
   by_cases z:pl=dx
   ·rw [z,Zf ne,Zb] at cI;cases cI
   ·rw [Zf uB,Zf z] at cI;exact cI
  have s1:ag H H1:=fun b o e=>iU b o (by rw [Zf (Zg e hc),Zf (Zg e lX)];exact e) (Zg e hc);have xH:j6 g H1 c pl ⟨free,bu,[]⟩:=⟨dx,fv,oa,ko,[],gP,s1 _ _ hfv,s1 _ _ Dk,g7,Dj.same Z1.mono s1,.nil,fun z=>by rw [z,jK] at Dk;cases Dk⟩
  have ok1:si (⟨free,bu,[]⟩:eY):=⟨bY,fun p hp=>nomatch hp⟩
  unfold sO at q;refine ⟨_,rfl,_,rfl,v,S,c,pl,_,H,rfl,s1,hc,jK,hS,so,xH,ok1,dg,Yv _,?_⟩
  cases hh:oq S ⟨free,bu,[]⟩ with
  | error r=>
   rw [hh] at q;exact fun H2 b2=>q H2 (aR.u5 s1 hc jK b2)
  | ok pr=>
   obtain ⟨h0,C0⟩:=pr;rw [hh] at q;dsimp only at q;obtain ⟨DG,rN⟩:=Zse hh ok1 so;intro vh H2 b2 rV ⟨t0,e,ht0⟩;subst e;have s2:=aR.u5 s1 hc jK b2;have lT:(k.map (·.1)).length < 64:=by rw [Yb];have:=kk.n;omega
   refine ⟨_,rfl,ka,kvs,k.map (·.1),rfl,.inl (s2 _ _ mZ),hkd.qL,lT,fun l hl=>?_⟩;refine ⟨l,rfl,⟨_,ar.of Zb⟩,?_⟩;have s3:=Zj (o:=.lst ((eV (k.map (·.1))).map V.str)) hl;have kS:∀ n∈eV (k.map (·.1)),n∈k.map (·.1):=fun n hn=>(BO _).mem_iff.mp hn;have hlen:(eV (k.map (·.1))).length<=3:=by rw [(BO _).length_eq,Yb];exact kk.n
   generalize eV (k.map (·.1))=ns at q s3 kS hlen
   refine vK (xs:=ns.map V.str) (fun i σ H'=>∃ t hd C',(∃ o6,σ=[some v,some (.ref ka),some (.ref fv),some (.ref oa),some (.ref c),some (.ref t),o6])/\H' t=some (.tup (hd.map V.int))/\H' l=some (.lst (ns.map V.str))/\ag H H'/\j6 g H' c pl C'/\vc C0 C' (64 * i)/\hd.length=2 + 10 * i/\sj k ns h0 C0=sj k (ns.drop i) hd C')
    ⟨t0,h0,C0,⟨none,rfl⟩,s3 _ _ ht0,Zb,s2.trans s3,rV.same s3,⟨DG.ok,Ye _,Ye _,rfl⟩,rN,rfl⟩ (fun i σ H' _ h=>?_) (fun i x σ H' hx h=>?_) (fun σ H' h=>?_)
   ·obtain ⟨t,hd,C',_,_,lV,_⟩:=h;exact ar.of lV
   ·obtain ⟨t,hd,C',⟨o6,rfl⟩,ht,lV,sm,nc,gr,m9,hw⟩:=h;rw [Yo] at hx
    cases hn:ns[i]? with
    | none=>rw [hn] at hx;cases hx
    | some n=>
     rw [hn] at hx
     cases hx
     have hi:i < ns.length:=(List.getElem?_eq_some_iff.mp hn).1
     have xu:ns.drop i=n::ns.drop (i + 1):=by
      rw [YaP hi];rw [(List.getElem?_eq_some_iff.mp hn).2]
     rw [xu,Zub] at hw
     have hgk:∃ S',aa k n=some S':=by
      cases hg:aa k n with
      | none=>exact absurd (kS n (Yy hn)) (sS hg)
      | some S'=>exact ⟨S',rfl⟩
     obtain ⟨S',hg⟩:=hgk;rw [hg] at hw;dsimp only at hw;obtain ⟨g8,so'⟩:=kk.nm n S' hg;obtain ⟨vS,hvS,oj⟩:=hkd.yes vE hg;have tU:(mv n).length=8:=Ii (BM g8).2.1;refine ⟨_,rfl,_,rfl,n,rfl,g8,fun u H3 s4 ⟨t2,e,dO⟩=>?_⟩;subst e;refine ⟨t,t2,_,_,rfl,rfl,aG.of (s4 _ _ ht),aG.of dO,fun _=>dO,fun _ _=>s4 _ _ ht,?_,fun d H4 s5 Dr=>?_⟩
     ·rw [Yb,Yb,tU,m9];exact Zs (m:=1000) (by omega) (by decide)
     have s6:=sm.trans (s4.trans s5);have AG:=nc.same (s4.trans s5);obtain ⟨xM,f4,o4,ko4,Ak,h4⟩:=id AG;refine ⟨_,rfl,_,rfl,ka,vS,rfl,(by have:=aJ.k (s6 _ _ mZ) (k:=.inr n);rw [hvS] at this;exact this),_,rfl,vS,S',c,pl,C',H,rfl,s6,hc,jK,oj,so',AG,gr.ok,Yk gr.fr (Yk DG.fr dg),?_,?_⟩
     ·have:=gr.pl
      have h1:C0.places.length<=0 + 64:=DG.pl;omega
     cases Dq:oq S' C' with
     | error r=>
      rw [Dq] at hw;rw [hw] at q;exact fun H5 b5=>q H5 (aR.u5 s6 hc jK b5)
     | ok pr=>
      obtain ⟨t',JP⟩:=pr;rw [Dq] at hw;dsimp only at hw;obtain ⟨AH,cJ⟩:=Zse Dq gr.ok so';intro vt H5 b5 hC5 ⟨t3,e,iL⟩;subst e;have s7:=aR.u5 s6 hc jK b5;have xw:H5 d=some (.tup ((hd.map V.int)++(mv n).map V.int)):=b5 _ _ Dr (ZR Dr h4.ob (by intro z;cases z)) (ZR Dr h4.hp (by intro z;cases z));have kG:=s5 _ _ (s4 _ _ lV);have fE:H5 l=some (.lst (ns.map V.str)):=b5 _ _ kG (ZR kG h4.ob (by intro z;cases z)) (ZR kG h4.hp (by intro z;cases z));refine ⟨d,t3,_,_,rfl,rfl,aG.of xw,aG.of iL,fun _=>iL,fun _ _=>xw,?_,fun d2 H6 s8 xv=>?_⟩
      ·rw [Yf,Yb,Yb,Yb,tU,m9,cJ];exact Zs (m:=1000) (by omega) (by decide)
      refine ⟨d2,hd++mv n++t',JP,⟨_,rfl⟩,?_,s8 _ _ fE,s7.trans s8,hC5.same s8,⟨AH.ok,Yk AH.fr gr.fr,by have:=AH.pl;have:=gr.pl;omega,AH.old.trans gr.old⟩,?_,hw⟩
      ·rw [xv,Yw,Yw]
      ·rw [Yf,Yf,tU,m9,cJ];omega
   ·obtain ⟨t,hd,C',⟨o6,rfl⟩,ht,lV,sm,nc,gr,m9,hw⟩:=h;rw [Yb,Wq,ZvW] at hw;rw [hw] at q;dsimp only at q;obtain ⟨xM,f4,o4,ko4,Ak,h4⟩:=id nc;refine ⟨_,rfl,c,_,xM,_,_,rfl,h4.ob,T.i4,T.wk,xN _ _ _,_,rfl,fun x iZ hx mI ne'=>⟨x,iZ,_,_,rfl,Zb,fun H5 kp hp=>⟨rfl,?_⟩⟩⟩
    have s5:ag H' H5:=fun b o eb=>by
     have h1:b≠x:=Zg eb hx;have h2:b≠iZ:=Zg eb mI;exact kp b o (by rw [Zf h1,Zf h2];exact eb) h1
    exact q _ _ (sm.trans s5) ⟨x,iZ,_,_,rfl,hp,⟨pl,Ak,rfl,s5 _ _ h4.hp,h4.rp.same Z1.mono s5⟩,⟨t,rfl,s5 _ _ ht⟩⟩
end KS
namespace L2
open PySem PySem.Spec PyProof.Rows PySem.W
theorem Zwt {K:Frag} {a:Addr} {xs:List V} {g:TG} {tb:TS} {D:Ends} {σ:St} {H:Hp} (Pv:Nat->St->Hp->Prop) (h0:Pv 0 σ H) (hl:∀ i σ H,i<=xs.length->Pv i σ H->aG K H a xs)
  (hs:∀ i x t σ H,xs[i]?=some x->Pv i σ H->H t=none->g (.ref t) σ (upd H t (.tup [.int (i:Nat),x])) fun bH H2=>tb {D with nx:=Pv (i + 1),ct:=Pv (i + 1),bk:=D.nx} bH H2) (hd:∀ σ H,Pv xs.length σ H->D.nx σ H) :
  ∃ W:Nat->Nat->St->Hp->Prop,(∃ m,W 0 m σ H)/\∀ i m σ H,W i m σ H->
   ((mK K a).stop i H/\D.nx σ H)∨((mK K a).go i H/\∃ N:St->Hp->Prop,(∀ aC H',N aC H'->∃ m',m' < m/\W (i + 1) m' aC H')/\∀ x H',(mK K a).kz i H x H'->g x σ H' fun bH H2=>tb {D with nx:=N,ct:=N,bk:=D.nx} bH H2):=by
 refine ⟨fun i m σ H=>m=xs.length - i/\i<=xs.length/\Pv i σ H,⟨xs.length,by simp,Yv _,h0⟩,?_⟩
 rintro i m σ H ⟨rfl,hi,p⟩
 have q:=hl i σ H hi p
 by_cases bq:i < xs.length
 ·refine .inr ⟨⟨xs,xs[i],q,by simp [bq]⟩,Pv (i + 1),fun aC H' p'=>⟨xs.length - (i + 1),by omega,rfl,bq,p'⟩,fun x H' y=>?_⟩;obtain ⟨t,z,ht,rfl,hz,rfl⟩:=y;exact hs i z t σ _ (hz xs q) p ht
 ·have e:i=xs.length:=by omega
  subst e;exact .inl ⟨⟨xs,q,Ye _⟩,hd σ H p⟩
end L2
namespace KS
open PySem L2
variable {P:Program} {w:World} {K:Yg} {mg:Str->Option Value} {base:Heap} {g:Gs}
def fQ (row:Row) (n:Int):Row:=row++List.replicate (n - (row.length:Int)).toNat 0
def oC (row:Row):Int:=row.foldl (fun c n=>(c * 1000003 + n) % 4294967291) (row.length:Int)
def Bt (rows:List Row):Int:=(rows.map oC).sum % 4294967291
def Znr (rows:List Row):Row:=[Bt rows / 16777216,Bt rows / 65536 % 256,Bt rows / 256 % 256,Bt rows % 256]
def Ed:Row:=[83,116,105,108]
def x_ (I:lM) (turn:Int):Row:=fQ (Ed++[turn]++I.heads) 37
def BG (I:lM) (turn:Int):Row:=fQ (x_ I turn++Znr (x_ I turn::I.places.map (·.1))) 64
def ZzN (H:Hp) (rows:List Row) (v:V):Prop:=∃ l vs,v=.ref l/\H l=some (.lst vs)/\WA (fun a b=>Z1 H b a) vs rows
theorem BF {α β:Type} {F:α->β->Prop}:∀ {xs:List α} {ys:List β},WA F xs ys->∀ {i:Nat} {x:α},xs[i]?=some x->∃ y,ys[i]?=some y/\F x y
 | _,_,.nil,i,x,h=>by simp at h
 | _,_,.cons a t,0,x,h=>by simp at h;subst h;exact ⟨_,rfl,a⟩
 | _,_,.cons a t,i + 1,x,h=>by obtain ⟨y,h1,h2⟩:=BF t (i:=i) (by simpa using h);exact ⟨y,by simpa using h1,h2⟩
theorem Zp2 {H0 H:Hp}:∀ {pl:gp} {kvs:List (List Key×V)},Z8 rKey Z1 H0 pl kvs->∀ {bs:List Addr},bs.length=(kvs.map (·.1)).length->(∀ (i:Nat) b k,bs[i]?=some b->(kvs.map (·.1))[i]?=some k->H b=some (.tup (k.map kV)))->WA (fun a b=>Z1 H b a) (bs.map V.ref) (pl.map (·.1))
 | _,_,.nil,bs,hl,_=>by
  have:bs=[]:=List.length_eq_zero_iff.mp hl
  subst this;exact .nil
 | q::_,p::_,.cons a t,bs,hl,h=>by
  match bs,hl,h with
  | b::bs,hl,h=>
   refine .cons ⟨b,rfl,?_⟩ (Zp2 t (by simpa using hl) fun i b' k hb hk=>h (i + 1) b' k (by simpa using hb) (by simpa using hk))
   have:=h 0 b p.1 rfl rfl
   rw [a.1,x9] at this;exact this
def ZrH:Sp:=fun vs H Q _=>∃ row v n,vs=[v,.int n]/\Z1 H row v/\row.length<=10000/\-10000<=n/\n<=10000/\∀ u H',ag H H'->Z1 H' (fQ row n) u->Q u H'
theorem Zud:Zp ["row","length"] ["row","length"] (Zi ZrK):=ZN (by decide +kernel)
theorem ZpH (T:Tx K mg g):ah P w K mg base (aA P w) 1 g.padded g.Fi ["row","length"] ZrH:=by
 refine T.Br.aP Zud (fun vs H Q E h=>?_) (fun aq A outer s H vs Q E hr h=>?_)
 ·obtain ⟨row,v,n,rfl,_⟩:=h;rfl
 ·obtain ⟨row,v,n,rfl,⟨t,rfl,ht⟩,hl,rM,Av,q⟩:=h;refine ⟨_,(Zh (Zt (Zy ju (pv 0) (Zy x6 (dz (Za Zl Ze)) (Zy su (pv 1) (ZD ZI (by rfl) T.eu YC (Za (pv 0) Ze))))))),?_⟩;refine ⟨_,rfl,aX 1,fun b hb=>?_⟩;have s2:=Zj (o:=.tup [.int 0]) hb;refine ⟨_,rfl,_,rfl,t,_,rfl,.inr (aG.of (s2 _ _ ht)),_,_,rfl,rfl,b,_,_,rfl,rfl,Zb,by simp,?_,?_,?_,fun c H2 s3 hc=>?_⟩
  ·rw [Yb];omega
  ·rw [Yb];omega
  ·rw [Yb];show 1 * _<=_;exact Zs (m:=20000) (by omega) (by decide)
  rw [vN,Yb] at hc;have dO:=s3 _ _ (s2 _ _ ht);refine ⟨t,c,_,_,rfl,rfl,aG.of dO,aG.of hc,fun _=>hc,fun _ _=>dO,?_,fun d H3 s4 hd=>?_⟩
  ·rw [Yb,YM];exact Zs (m:=40000) (by omega) (by decide)
  refine q _ H3 (s2.trans (s3.trans s4)) ⟨d,rfl,?_⟩;rw [hd];unfold fQ;rw [Yw,Wy]
def Zt7:Sp:=fun vs H Q _=>∃ row v,vs=[v]/\Z1 H row v/\Q (.int (oC row)) H
theorem BS:Zp ["row","check","number"] ["row"] (Zi Zm0):=ZN (by decide +kernel)
theorem Zq7 (T:Tx K mg g):ah P w K mg base (aA P w) 1 g.E6 g.Gm ["row"] Zt7:=by
 refine T.F7.aP BS (fun vs H Q E h=>?_) (fun aq A outer s H vs Q E hr h=>?_)
 ·obtain ⟨row,v,rfl,_⟩:=h;rfl
 ·obtain ⟨row,v,rfl,⟨t,rfl,ht⟩,q⟩:=h
  refine ⟨_,(Zd (Zz (i:=1) BS.nd rfl (Or.inl rfl) (ZD ZI (by rfl) T.eu YC (Za (pv 0) Ze)))
   (Zd (i3 Y2 rfl (ZwZ (pv 0)) (Z9 (i:=2) BS.nd rfl (Or.inl rfl)) (Zh (Zz (i:=1) BS.nd rfl (Or.inl rfl) (Zy c7 (Zy jt (Zy lC (pv 1) (ZJ (v:=.int 1000003) rfl T.ZmI ⟨_,rfl⟩)) (pv 2)) (ZJ (v:=.int 4294967291) rfl T.Zh9 ⟨_,rfl⟩)))))
   (Zh (Zt (pv 1))))),?_⟩
  refine ⟨_,rfl,t,_,rfl,.inr (aG.of ht),?_⟩;refine ⟨_,rfl,t,rfl,⟨_,aG.of ht⟩,?_⟩;refine ZuZ (xs:=row.map V.int) (fun i σ H'=>H'=H/\∃ o2,σ=[some (.ref t),some (.int ((row.take i).foldl (fun c n=>(c * 1000003 + n) % 4294967291) (row.length:Int))),o2]) ⟨rfl,none,by rw [Yb];rfl⟩ (fun i σ H' _ h=>by rw [h.1];exact aG.of ht) (fun i x σ H' hx h=>?_) (fun σ H' h=>?_)
  ·obtain ⟨rfl,o2,rfl⟩:=h;rw [Yo] at hx
   cases hn:row[i]? with
   | none=>rw [hn] at hx;cases hx
   | some n=>
    rw [hn] at hx
    cases hx
    have hi:i < row.length:=(List.getElem?_eq_some_iff.mp hn).1;refine ⟨_,rfl,_,_,rfl,rfl,.inr ⟨by decide,by decide⟩,_,rfl,_,_,rfl,rfl,_,_,rfl,rfl,(by show (0:Int) < 4294967291;decide),?_⟩;refine ⟨rfl,some (.int n),?_⟩;rw [Xb hi,List.foldl_append,(List.getElem?_eq_some_iff.mp hn).2];rfl
  ·obtain ⟨rfl,o2,rfl⟩:=h;rw [Yb,XE];exact ⟨_,rfl,q⟩
def Zpk:Sp:=fun vs H Q _=>∃ rows v,vs=[v]/\ZzN H rows v/\rows.length<=10000/\∀ u H',ag H H'->Z1 H' (Znr rows) u->Q u H'
theorem Zgw:Zp ["rows","check"] ["rows"] (Zi Io):=ZN (by decide +kernel)
theorem Zmu (T:Tx K mg g):ah P w K mg base (aA P w) 2 g.Hd g.II ["rows"] Zpk:=by
 refine T.Iy.aP Zgw (fun vs H Q E h=>?_) (fun aq A outer s H vs Q E hr h=>?_)
 ·obtain ⟨rows,v,rfl,_⟩:=h;rfl
 ·obtain ⟨rows,v,rfl,⟨l,us,rfl,hl,hp⟩,hz,q⟩:=h
  refine ⟨_,(Zd (Zz (i:=1) Zgw.nd rfl (Or.inl rfl) (Zy c7 (ZD ZwI (by rfl) T.ZzW PyProof.Rows.Boot.«sum» (Za (vF (own:=["row"]) (fv:=[]) (ix:=[]) (mq (sc:=Zi Io) (N:=["rows","check"]) rfl rfl (by decide +kernel)) rfl (qk (pv 0)) (fun _ _ _ _ _=>Z9 (i:=0) (show (["row"]:List Str).Nodup from by decide +kernel) rfl (Or.inl rfl) (Or.inr rfl)) (fun _ _ _ _ _=>vA) (fun _ _ _ _ _=>(Zn (Zq7 T) hr.dn rfl T.Ztl T.F7.kp T.jX .nil lA (Za (pv 0) Ze)))) Ze)) (ZJ (v:=.int 4294967291) rfl T.Zh9 ⟨_,rfl⟩)))
   (Zh (Zt (dz (Za (Zy eX (pv 1) (Zy Zw5 Zl Zl)) (Za (Zy c7 (Zy eX (pv 1) (Zy Zw5 Zl Zl)) Zl) (Za (Zy c7 (Zy eX (pv 1) Zl) Zl) (Za (Zy c7 (pv 1) Zl) Ze)))))))),?_⟩
  refine ⟨_,rfl,l,rfl,⟨_,ar.of hl⟩,fun D hD=>?_⟩;have jZ:us.length=rows.length:=Xr hp;refine yf (J:=tD K l) us.length (fun i=>some (V.int (oC (rows.getD i [])))) (fun i x=>us[i]?=some x) hD (by rw [jZ];exact Zs hz (by decide)) (fun i H' hi s'=>⟨us,us[i],ar.of (s' _ _ hl),Yh hi⟩) (fun H' s'=>⟨us,ar.of (s' _ _ hl),Ye _⟩) (fun i H' x H2 hi s' hy=>⟨hy.1,hy.2 us (ar.of (s' _ _ hl))⟩) (fun i x H' N hi hx s' k=>?_) fun H' s' hH=>?_
  ·obtain ⟨row,gE,ei⟩:=BF hp hx;refine ay (B:=N none H') ?_;refine ⟨_,rfl,row,x,rfl,Z1.mono _ _ _ _ s' ei,?_⟩;have hk:=k H' (ag.refl _);rw [Ys,gE] at hk;exact hk
  ·have cE:((List.range us.length).filterMap fun i=>some (V.int (oC (rows.getD i []))))=(rows.map oC).map V.int:=by
    rw [Ybm,jZ];have e1:(List.range rows.length).map (fun i=>V.int (oC (rows.getD i [])))=((List.range rows.length).map fun i=>rows.getD i []).map fun r=>V.int (oC r):=by rw [XJ];rfl
    show (List.range rows.length).map (fun i=>V.int (oC (rows.getD i [])))=_;rw [e1,Gv,XJ];rfl
   rw [cE] at hH;refine ⟨D,rows.map oC,rfl,ar.of hH,_,_,rfl,rfl,(by show (0:Int) < 4294967291;decide),?_⟩;refine ⟨_,rfl,_,_,rfl,rfl,⟨by decide,by decide,by decide⟩,_,_,rfl,rfl,⟨by decide,by decide⟩,?_⟩;refine ⟨_,rfl,_,_,rfl,rfl,⟨by decide,by decide,by decide⟩,_,_,rfl,rfl,⟨by decide,by decide⟩,_,_,rfl,rfl,(by show (0:Int) < 256;decide),?_⟩;refine ⟨_,rfl,_,_,rfl,rfl,⟨by decide,by decide⟩,_,_,rfl,rfl,(by show (0:Int) < 256;decide),_,rfl,_,_,rfl,rfl,(by show (0:Int) < 256;decide),aX 4,fun a ha=>?_⟩;refine q _ _ (s'.trans (Zj ha)) ⟨a,rfl,?_⟩;rw [Zb];rfl
def ZqK (g:Gs):Sp:=fun vs H Q _=>∃ I v n,vs=[v,.int n]/\iP g H I v/\I.heads.length<=1000/\I.places.length<=2000/\∀ u H',ag H H'->Z1 H' (BG I n) u->Q u H'
theorem Zhw:Zp ["image","turn","row"] ["image","turn"] (Zi Zjy):=ZN (by decide +kernel)
theorem Zn7 (T:Tx K mg g):ah P w K mg base (aA P w) 3 g.Gw g.Hk ["image","turn"] (ZqK g):=by
 refine T.Hx.aP Zhw (fun vs H Q E h=>?_) (fun aq A outer s H vs Q E hr h=>?_)
 ·obtain ⟨I,v,n,rfl,_⟩:=h;rfl
 ·obtain ⟨I,v,n,rfl,⟨p,dx,plv,hdv,rfl,hp,⟨pa,kvs,rfl,iM,rJ⟩,⟨ht,rfl,hht⟩⟩,hhl,cI,q⟩:=h
  refine ⟨_,(Zd (Zz (i:=2) Zhw.nd rfl (Or.inl rfl) (Zn (ZpH T) hr.dn rfl T.Zr5 T.Br.kp T.jf .nil Zc (Za (Zy ju (Zy ju (ZJ (v:=.ref g.MARK) rfl T.Zzw rfl) (dz (Za (pv 1) Ze))) (Zv (pv 0) rfl)) (Za (ZJ (v:=.int 37) rfl T.ZoD ⟨_,rfl⟩) Ze))))
   (Zh (Zt (Zn (ZpH T) hr.dn rfl T.Zr5 T.Br.kp T.jf .nil Zc (Za (Zy ju (pv 2) (Zn (Zmu T) hr.dn rfl T.Zop T.Iy.kp T.gJ .nil Zc (Za (Zy vn (fq (Za (pv 2) Ze)) (ZT Zru rfl T.nu PyProof.Rows.Boot.«list» (Za (Zv (pv 0) rfl) Ze))) Ze))) (Za (ZJ (v:=.int 64) rfl T.Ib ⟨_,rfl⟩) Ze)))))),?_⟩
  refine ⟨_,rfl,aX 1,fun a ha=>?_⟩;have s1:=Zj (o:=.tup [.int n]) ha;refine ⟨g.MARK,a,_,_,rfl,rfl,T.Zy5 _,aG.of Zb,(fun z=>nomatch z),(fun z=>nomatch z),by show 4 + 1<=Ym;decide,fun b H2 s2 hb=>?_⟩;have sA:=s1.trans s2;refine ⟨_,rfl,p,_,dx,_,_,rfl,sA _ _ hp,T.vH,T.ZhW,Ea _ _,b,ht,_,_,rfl,rfl,aG.of hb,aG.of (sA _ _ hht),(fun z=>nomatch z),fun _ _=>hb,?_,fun c H3 s3 hc=>?_⟩
  ·rw [Yb];exact Zs (m:=2000) (by show 5 + _<=2000;omega) (by decide)
  have kI:Z1 H3 (Ed++[n]++I.heads) (.ref c):=⟨c,rfl,by rw [hc,Yw];rfl⟩
  have sB:=sA.trans s3;refine ⟨_,_,_,rfl,kI,?_,by decide,by decide,fun u H4 s4 Ao=>?_⟩
  ·rw [Yf];show 5 + _<=_;omega
  have xb:(fQ (Ed++[n]++I.heads) 37).length<=2000:=by
   unfold fQ;rw [Yf,YM,Yf];show 5 + _ + _<=_;omega
  change Z1 H4 (x_ I n) u at Ao;change (x_ I n).length<=2000 at xb;obtain ⟨d,rfl,hd⟩:=Ao;have sC:=sB.trans s4;unfold BG at q;generalize x_ I n=R at hd xb q;refine ⟨_,rfl,_,rfl,aX 1,fun e he=>?_⟩;have s5:=Zj (o:=.lst [.ref d]) he;have sD:=sC.trans s5;refine ⟨_,rfl,p,_,dx,_,_,rfl,sD _ _ hp,T.vH,T.Cj,Ei _ _,pa,kvs,rfl,.inl (sD _ _ iM),fun l bs hl hk=>?_⟩;have s6:=Zj (o:=.lst (bs.map V.ref)) hl;refine ⟨e,l,_,_,rfl,rfl,s6 _ _ Zb,Zb,?_,fun m hm=>?_⟩
  ·rw [Yb,hk.1,Yb,rJ.len];exact Zs (m:=3000) (by show 1 + _<=3000;omega) (by decide)
  have s7:=Zj (o:=.lst ([.ref d]++bs.map V.ref)) hm;have sE:=s5.trans (s6.trans s7);refine ⟨R::I.places.map (·.1),_,rfl,⟨m,_,rfl,Zb,.cons ⟨d,rfl,sE _ _ hd⟩ ?_⟩,?_,fun u H5 s8 ⟨x,e2,hx⟩=>?_⟩
  ·refine Zp2 (H:=upd (upd (upd H4 e (.lst [.ref d])) l (.lst (bs.map V.ref))) m (.lst ([.ref d]++bs.map V.ref))) rJ hk.1 fun i b k hb hkk=>?_;exact s7 _ _ (s6 _ _ (hk.2 i b k hb hkk))
  ·rw [Yz,Yb];omega
  subst e2;have xw:=s8 _ _ (sE _ _ hd);refine ⟨d,x,_,_,rfl,rfl,aG.of xw,aG.of hx,fun _=>hx,fun _ _=>xw,?_,fun y H6 s9 hy=>?_⟩
  ·rw [Yb,Yb];exact Zs (m:=3000) (by show _ + 4<=3000;omega) (by decide)
  refine ⟨_,_,_,rfl,⟨y,rfl,by rw [hy,<- Yw]⟩,?_,by decide,by decide,fun u H7 iT hu7=>?_⟩
  ·rw [Yf];show _ + 4<=_;omega
  exact q u H7 (sC.trans (sE.trans (s8.trans (s9.trans iT)))) hu7
def sx (row:Row) (i:Nat):Row:=(row.drop (i * 63)).take 63
def mi (ns:Row):Row:=ns.drop 1++[0]
def Ez (row ns:Row) (i:Nat):Row:=(mi ns).getD i 0::(sx row i++List.replicate (63 - (sx row i).length) 0)
def nH (row ns:Row):List Row:=(List.range (mi ns).length).map (Ez row ns)
theorem ZwG (row:Row) (a b:Nat) (h:a<=b):bC (row.map V.int) (some (a:Int)) (some (b:Int))=((row.drop a).take (b - a)).map V.int:=by
 unfold bC;rw [HT.cu,HT.cu,Yb,<- List.map_drop,<- Yap]
 congr 1
 rcases Yaf a row.length with h1 | h1
 ·rw [WD h1];rcases Yaf b row.length with h2 | h2
  ·rw [WD h2]
  ·rw [X2 h2,YS (by rw [YU];exact Ye _),YS (by rw [YU];omega)]
 ·rw [X2 h1,Wq,Yab h1,Ya5,Ya5]
theorem Zv8 (row:Row) (i:Nat):(sx row i).length<=63:=by unfold sx;rw [Y0];omega
theorem ZpB {H H':Hp} {vs:List V} {rows:List Row} (h:WA (fun a b=>Z1 H b a) vs rows) (k:∀ a (r:Row),H a=some (.tup (r.map V.int))->H' a=some (.tup (r.map V.int))):WA (fun a b=>Z1 H' b a) vs rows:=by
 induction h with
 | nil=>exact .nil
 | cons a _ ih=>obtain ⟨t,e,ht⟩:=a;exact .cons ⟨t,e,k _ _ ht⟩ ih
def ZnH:Sp:=fun vs H Q _=>∃ row rv ns nv,vs=[rv,nv]/\Z1 H row rv/\Z1 H ns nv/\ns.length<=10000/\∀ l us H',ag H H'->H l=none->H' l=some (.lst us)->WA (fun a b=>Z1 H' b a) us (nH row ns)->Q (.ref l) H'
theorem yH:Zp ["row","numbers","blocks","place","following","part"] ["row","numbers"] (Zi Zgz):=ZN (by decide +kernel)
theorem Zlq (T:Tx K mg g):ah P w K mg base (aA P w) 1 g.HN g.I_ ["row","numbers"] ZnH:=by
 refine T.IV.aP yH (fun vs H Q E h=>?_) (fun aq A outer s H vs Q E hr h=>?_)
 ·obtain ⟨row,rv,ns,nv,rfl,_⟩:=h;rfl
 ·obtain ⟨row,rv,ns,nv,rfl,⟨ra,rfl,hra⟩,⟨na,rfl,uL⟩,hz,q⟩:=h
  refine ⟨_,(Zd (Zz (i:=2) yH.nd rfl (Or.inl rfl) (fq Ze))
   (Zd (i3 Y2 rfl (ZpD rfl T.ZqH (Za (Zy ju (nF vB (pv 1) (lI Zl) ql) (dz (Za (ZJ (v:=.int 0) rfl T.Znl ⟨_,rfl⟩) Ze))) Ze)) (xW rfl (nG (Z9 (i:=3) yH.nd rfl (Or.inl rfl)) (nG (Z9 (i:=4) yH.nd rfl (Or.inl rfl)) x8))) (Zd (Zz (i:=5) yH.nd rfl (Or.inl rfl) (nF vB (pv 0) (lI (Zy lC (pv 3) (ZJ (v:=.int 63) rfl T.yr ⟨_,rfl⟩))) (lI (Zy lC (Zy jt (pv 3) Zl) (ZJ (v:=.int 63) rfl T.yr ⟨_,rfl⟩)))))
   (Zh (ZC (j9 YR Xl Xk oP (pv 2) (Za (Zy ju (Zy ju (dz (Za (pv 4) Ze)) (pv 5)) (Zy x6 (dz (Za Zl Ze)) (Zy su (ZJ (v:=.int 63) rfl T.yr ⟨_,rfl⟩) (ZD ZI (by rfl) T.eu YC (Za (pv 5) Ze))))) Ze))))))
   (Zh (Zt (pv 2))))),?_⟩
  refine ⟨Yv _,fun B hB=>?_⟩;have s0:=Zj (o:=.lst []) hB;refine ⟨_,rfl,_,rfl,na,_,rfl,s0 _ _ uL,fun c1 H1 s1 gP=>?_⟩;rw [show bC (ns.map V.int) (some 1) none=(ns.drop 1).map V.int from Zqp ns 1] at gP;refine ⟨aX 1,fun c2 iW=>?_⟩;have s2:=Zj (o:=.tup [.int 0]) iW;refine ⟨c1,c2,_,_,rfl,rfl,aG.of (s2 _ _ gP),aG.of Zb,fun _=>Zb,(fun z=>nomatch z),?_,fun f H3 s3 hf=>?_⟩
  ·rw [Yb,YU];exact Zs (m:=20000) (by show _ + 1<=20000;omega) (by decide)
  have pS:H3 f=some (.tup ((mi ns).map V.int)):=by rw [hf];unfold mi;rw [Yw];rfl
  have sA:=s1.trans (s2.trans s3);have dg:(mi ns).length<=10001:=by unfold mi;rw [Yf,YU];show _ + 1<=_;omega
  refine ⟨f,rfl,⟨_,aG.of pS⟩,?_⟩
  refine Zwt (xs:=(mi ns).map V.int) (fun i σ H'=>∃ o3 o4 o5 us,σ=[some (.ref ra),some (.ref na),some (.ref B),o3,o4,o5]/\H' B=some (.lst us)/\WA (fun a b=>Z1 H' b a) us ((List.range i).map (Ez row ns))/\H' f=some (.tup ((mi ns).map V.int))/\ag H H')
   ⟨none,none,none,[],rfl,sA _ _ Zb,.nil,pS,s0.trans sA⟩ (fun i σ H' _ h=>?_) (fun i x t σ H' hx h ht=>?_) (fun σ H' h=>?_)
  ·obtain ⟨o3,o4,o5,us,rfl,_,_,pS,_⟩:=h;exact aG.of pS
  ·obtain ⟨o3,o4,o5,us,rfl,rW,hp,pS,sm⟩:=h;rw [Yo] at hx
   cases hn:(mi ns)[i]? with
   | none=>rw [hn] at hx;cases hx
   | some n=>
    rw [hn] at hx
    cases hx
    have hi:i < (mi ns).length:=(List.getElem?_eq_some_iff.mp hn).1;have jZ:us.length=i:=by rw [Xr hp,Yb,Xv]
    have s4:=Zj (o:=.tup [.int (i:Nat),.int n]) ht;refine ⟨t,_,rfl,aG.of Zb,rfl,_,_,rfl,_,_,rfl,rfl,?_⟩;refine ⟨_,rfl,_,rfl,_,_,rfl,rfl,.inr ⟨by decide,by decide⟩,_,rfl,_,rfl,_,_,rfl,rfl,_,_,rfl,rfl,.inr ⟨by decide,by decide⟩,_,rfl,ra,_,rfl,s4 _ _ (sm _ _ hra),fun pp H5 s5 Aq=>?_⟩
    have e1:bC (row.map V.int) (some ((i:Int) * 63)) (some (((i:Int) + 1) * 63))=(sx row i).map V.int:=by
     have:=ZwG row (i * 63) ((i + 1) * 63) (by omega)
     rw [show (((i * 63:Nat):Int))=(i:Int) * 63 by omega,show ((((i + 1) * 63:Nat):Int))=((i:Int) + 1) * 63 by omega] at this;rw [this];unfold sx;rw [show (i + 1) * 63 - i * 63=63 by omega]
    rw [e1] at Aq;have cI:=Zv8 row i;generalize hpe:sx row i=part at Aq cI;have sB:=s4.trans s5;refine ⟨_,rfl,.inl ⟨rfl,_,ar.of (sB _ _ rW)⟩,?_⟩;refine ⟨_,rfl,aX 1,fun x1 C7=>?_⟩;have s6:=Zj (o:=.tup [.int n]) C7;refine ⟨_,rfl,x1,pp,_,_,rfl,rfl,aG.of Zb,aG.of (s6 _ _ Aq),(fun z=>nomatch z),fun _ _=>Zb,?_,fun x2 H7 s7 C6=>?_⟩
    ·rw [Yb];exact Zs (m:=100) (by show 1 + _<=100;omega) (by decide)
    refine ⟨aX 1,fun x3 hx3=>?_⟩;have s8:=Zj (o:=.tup [.int 0]) hx3;have Kx:=s8 _ _ (s7 _ _ (s6 _ _ Aq));refine ⟨_,rfl,pp,_,rfl,.inr (aG.of Kx),_,_,rfl,rfl,x3,_,_,rfl,rfl,Zb,by simp,?_,?_,?_,fun x4 H9 s9 hx4=>?_⟩
    ·rw [Yb];omega
    ·rw [Yb];omega
    ·rw [Yb];show 1 * _<=_;exact Zs (m:=100) (by omega) (by decide)
    rw [vN,Yb] at hx4;have ze:=s9 _ _ (s8 _ _ C6);refine ⟨x2,x4,_,_,rfl,rfl,aG.of ze,aG.of hx4,(fun z=>nomatch z),fun _ _=>ze,?_,fun x5 ia iT hx5=>?_⟩
    ·rw [Yf,Yb,YM];exact Zs (m:=300) (by show 1 + _ + _<=300;omega) (by decide)
    have sC:=sB.trans (s6.trans (s7.trans (s8.trans (s9.trans iT))));refine ⟨B,us,_,rfl,rfl,sC _ _ rW,?_,?_⟩
    ·rw [jZ]
     have:(10002:Nat)<=Ym:=by decide
     omega
    have sD:∀ b o,H b=some o->(upd ia B (.lst (us++[.ref x5]))) b=some o:=fun b o e=>by rw [Zf (Zg e hB)];exact sC _ _ (sm _ _ e)
    have nfB:f≠B:=ZR pS rW (by intro z;cases z);have nx5:x5≠B:=ZR hx5 (sC _ _ rW) (by intro z;cases z);refine ⟨_,_,_,us++[.ref x5],rfl,Zb,?_,(by rw [Zf nfB];exact sC _ _ pS),sD⟩;rw [List.range_succ,Yw];refine YaX ?_ ⟨x5,rfl,?_⟩
    ·refine ZpB hp fun a row' ha=>?_;have uD:a≠B:=ZR ha rW (by intro z;cases z);rw [Zf uD];exact sC _ _ ha
    ·rw [Zf nx5,hx5];unfold Ez;rw [hpe,Ys,hn];rw [Yt,Yw,Wy];have e2:((63:Int) - (part.length:Int)).toNat=63 - part.length:=by omega
     rw [e2];rfl
  ·obtain ⟨o3,o4,o5,us,rfl,rW,hp,pS,sm⟩:=h;rw [Yb] at hp;exact ⟨_,rfl,q B us _ sm hB rW hp⟩
end KS
namespace L2
open PySem PySem.Spec PyProof.Rows PySem.W
theorem Zu0 {d:Addr} {ob:Obj} {kvs:List (List Key×V)} {g:TG} {tb:TS} {D:Ends} {σ:St} {H:Hp} (Pv:Nat->St->Hp->Prop) (h0:Pv 0 σ H) (hl:∀ i σ H,i<=kvs.length->Pv i σ H->H d=some (.bt ob (.dT kvs)))
  (hs:∀ i t b k v σ H,kvs[i]?=some (k,v)->H b=some (.tup (k.map kV))->H t=none->Pv i σ H->g (.ref t) σ (upd H t (.tup [.ref b,v])) fun bH H2=>tb {D with nx:=Pv (i + 1),ct:=Pv (i + 1),bk:=D.nx} bH H2) (hd:∀ σ H,Pv kvs.length σ H->D.nx σ H) :
  ∃ W:Nat->Nat->St->Hp->Prop,(∃ m,W 0 m σ H)/\∀ i m σ H,W i m σ H->
   ((yN d ob kvs).stop i H/\D.nx σ H)∨((yN d ob kvs).go i H/\∃ N:St->Hp->Prop,(∀ aC H',N aC H'->∃ m',m' < m/\W (i + 1) m' aC H')/\∀ x H',(yN d ob kvs).kz i H x H'->g x σ H' fun bH H2=>tb {D with nx:=N,ct:=N,bk:=D.nx} bH H2):=by
 refine ⟨fun i m σ H=>m=kvs.length - i/\i<=kvs.length/\Pv i σ H,⟨kvs.length,by simp,Yv _,h0⟩,?_⟩
 rintro i m σ H ⟨rfl,hi,p⟩
 have q:=hl i σ H hi p
 by_cases bq:i < kvs.length
 ·refine .inr ⟨⟨q,bq⟩,Pv (i + 1),fun aC H' p'=>⟨kvs.length - (i + 1),by omega,rfl,bq,p'⟩,fun x H' y=>?_⟩;obtain ⟨t,b,k,v,ht,rfl,hk,hb,rfl⟩:=y;exact hs i t b k v σ _ hk hb ht p
 ·have e:i=kvs.length:=by omega
  subst e;exact .inl ⟨⟨q,Ye _⟩,hd σ H p⟩
theorem Zyc {K:Frag} {a b:Addr} {xs ys:List V} {g:TG} {tb:TS} {D:Ends} {σ:St} {H:Hp} (Pv:Nat->St->Hp->Prop) (hxy:xs.length=ys.length) (h0:Pv 0 σ H) (hl:∀ i σ H,i<=xs.length->Pv i σ H->aG K H a xs/\ar K H b ys)
  (hs:∀ i x y t σ H,xs[i]?=some x->ys[i]?=some y->H t=none->Pv i σ H->g (.ref t) σ (upd H t (.tup [x,y])) fun bH H2=>tb {D with nx:=Pv (i + 1),ct:=Pv (i + 1),bk:=D.nx} bH H2) (hd:∀ σ H,Pv xs.length σ H->D.nx σ H) :
  ∃ W:Nat->Nat->St->Hp->Prop,(∃ m,W 0 m σ H)/\∀ i m σ H,W i m σ H->
   ((yK K a b).stop i H/\D.nx σ H)∨((yK K a b).go i H/\∃ N:St->Hp->Prop,(∀ aC H',N aC H'->∃ m',m' < m/\W (i + 1) m' aC H')/\∀ x H',(yK K a b).kz i H x H'->g x σ H' fun bH H2=>tb {D with nx:=N,ct:=N,bk:=D.nx} bH H2):=by
 refine ⟨fun i m σ H=>m=xs.length - i/\i<=xs.length/\Pv i σ H,⟨xs.length,by simp,Yv _,h0⟩,?_⟩
 rintro i m σ H ⟨rfl,hi,p⟩
 obtain ⟨q1,q2⟩:=hl i σ H hi p
 by_cases bq:i < xs.length
 ·have jL:i < ys.length:=by omega
  refine .inr ⟨⟨xs,ys,xs[i],ys[i],q1,q2,by simp [bq],by simp [jL]⟩,Pv (i + 1),fun aC H' p'=>⟨xs.length - (i + 1),by omega,rfl,bq,p'⟩,fun z H' y=>?_⟩;obtain ⟨t,x,y,ht,rfl,h1,h2,rfl⟩:=y;exact hs i x y t σ _ (h1 xs q1) (h2 ys q2) ht p
 ·have e:i=xs.length:=by omega
  subst e;exact .inl ⟨⟨xs,ys,q1,q2,.inl (Ye _)⟩,hd σ H p⟩
end L2
namespace KS
open PySem L2
variable {P:Program} {w:World} {K:Yg} {mg:Str->Option Value} {base:Heap} {g:Gs}
def ni (H:Hp) (o:Option Row) (v:V):Prop:=match o with
 | none=>v=.aL
 | some r=>Z1 H r v
inductive kZ where
 | wr (n:Int) (b:Option Row)
 | bar
def sf (H:Hp) (e:kZ) (v:V):Prop:=match e with
 | .wr n b=>∃ t u,v=.ref t/\H t=some (.tup [.str "write",.int n,u])/\ni H b u
 | .bar=>∃ t,v=.ref t/\H t=some (.tup [.str "barrier"])
structure c8 where
 blocks:List (Option Row)
 log:List kZ
structure ZAv (g:Gs) (H:Hp) (p b l:Addr) (D:c8) (dx:Addr) (vb vl:List V):Prop where
 ob:H p=some (.ins g.bD dx (dR b l))
 hb:H b=some (.lst vb)
 hl:H l=some (.lst vl)
 rb:WA (fun v o=>ni H o v) vb D.blocks
 rl:WA (fun v e=>sf H e v) vl D.log
 ne:b≠l
def dH (g:Gs) (H:Hp) (p b l:Addr) (D:c8):Prop:=∃ dx vb vl,ZAv g H p b l D dx vb vl
theorem ni.keep {H H':Hp} (k:∀ t xs,H t=some (.tup xs)->H' t=some (.tup xs)) {o:Option Row} {v:V} (h:ni H o v):ni H' o v:=by
 cases o with
 | none=>exact h
 | some r=>obtain ⟨t,e,ht⟩:=h;exact ⟨t,e,k _ _ ht⟩
theorem sf.keep {H H':Hp} (k:∀ t xs,H t=some (.tup xs)->H' t=some (.tup xs)) {e:kZ} {v:V} (h:sf H e v):sf H' e v:=by
 cases e with
 | wr n b=>obtain ⟨t,u,e,ht,hb⟩:=h;exact ⟨t,u,e,k _ _ ht,hb.keep k⟩
 | bar=>obtain ⟨t,e,ht⟩:=h;exact ⟨t,e,k _ _ ht⟩
theorem sZ {α β:Type} {F G:α->β->Prop} (k:∀ a b,F a b->G a b):∀ {xs:List α} {ys:List β},WA F xs ys->WA G xs ys
 | _,_,.nil=>.nil
 | _,_,.cons a t=>.cons (k _ _ a) (sZ k t)
theorem Zna {α β:Type} {F:α->β->Prop} {a:α} {b:β} (h:F a b):∀ {xs:List α} {ys:List β} (i:Nat),WA F xs ys->WA F (xs.set i a) (ys.set i b)
 | _,_,_,.nil=>.nil
 | _,_,0,.cons _ t=>.cons h t
 | _,_,i + 1,.cons a' t=>.cons a' (Zna h i t)
def ZzU (o:HO):Prop:=(∃ xs,o=.tup xs)∨(∃ xs,o=.lst xs)∨∃ C dx b l,o=.ins C dx (dR b l)
theorem dH.keep {g:Gs} {H H':Hp} {p b l:Addr} {D:c8} (h:dH g H p b l D) (k:∀ d o,H d=some o->ZzU o->H' d=some o):dH g H' p b l D:=by
 obtain ⟨dx,vb,vl,h⟩:=h;have kt:∀ t xs,H t=some (.tup xs)->H' t=some (.tup xs):=fun t xs e=>k _ _ e (.inl ⟨xs,rfl⟩);exact ⟨dx,vb,vl,k _ _ h.ob (.inr (.inr ⟨_,_,_,_,rfl⟩)),k _ _ h.hb (.inr (.inl ⟨_,rfl⟩)),k _ _ h.hl (.inr (.inl ⟨_,rfl⟩)),sZ (fun _ _ z=>ni.keep kt z) h.rb,sZ (fun _ _ z=>sf.keep kt z) h.rl,h.ne⟩
theorem dH.same {g:Gs} {H H':Hp} {p b l:Addr} {D:c8} (s:ag H H') (h:dH g H p b l D):dH g H' p b l D:=h.keep fun d o e _=>s _ _ e
def c8.write (D:c8) (n:Int) (b:Option Row):c8:=⟨D.blocks.set n.toNat b,D.log++[.wr n b]⟩
def c8.cw (D:c8):c8:=⟨D.blocks,D.log++[.bar]⟩
theorem Fd {g:Gs} {H:Hp} {p b l:Addr} {D:c8} {n:Int} {blk:Option Row} {v:V} {Q:VK} {E:XK} (hD:dH g H p b l D) (hv:ni H blk v) (h0:0<=n) (h1:n < (D.blocks.length:Int)) (hz:D.log.length<=100000)
  (q:∀ H',aR b l H H'->dH g H' p b l (D.write n blk)->Q .aL H'):ZtT g.bD [.ref p,.int n,v] H Q E:=by
 obtain ⟨dx,vb,vl,h⟩:=hD;have rQ:vb.length=D.blocks.length:=Xr h.rb;have Aw:vl.length=D.log.length:=Xr h.rl;refine ⟨p,dx,b,l,vb,vl,n,v,rfl,h.ob,h.hb,h.hl,h.ne,h0,by rw [rQ];exact h1,by rw [Aw];exact hz,fun t ht=>?_⟩;have ntb:b≠t:=Zg h.hb ht;have CS:l≠t:=Zg h.hl ht;have Ag:p≠b:=ZR h.ob h.hb (by intro z;cases z);have CT:p≠l:=ZR h.ob h.hl (by intro z;cases z)
 have k:aR b l H (upd (upd (upd H b (.lst (vb.set n.toNat v))) t (.tup [.str "write",.int n,v])) l (.lst (vl++[.ref t]))):=fun d o e hd1 hd2=>by
  rw [Zf hd2,Zf (Zg e ht),Zf hd1];exact e
 have kt:∀ d xs,H d=some (.tup xs)->(upd (upd (upd H b (.lst (vb.set n.toNat v))) t (.tup [.str "write",.int n,v])) l (.lst (vl++[.ref t]))) d=some (.tup xs):=fun d xs e=>k _ _ e (ZR e h.hb (by intro z;cases z)) (ZR e h.hl (by intro z;cases z));refine q _ k ⟨dx,vb.set n.toNat v,_,k _ _ h.ob Ag CT,?_,Zb,?_,?_,h.ne⟩
 ·rw [Zf h.ne,Zf ntb,Zb]
 ·exact Zna (F:=fun v o=>ni _ o v) (hv.keep kt) _ (sZ (fun _ _ z=>ni.keep kt z) h.rb)
 ·refine YaX (sZ (fun _ _ z=>sf.keep kt z) h.rl) ⟨t,v,rfl,?_,hv.keep kt⟩;rw [Zf CS.symm,Zb]
theorem Znu {g:Gs} {H:Hp} {p b l:Addr} {D:c8} {Q:VK} {E:XK} (hD:dH g H p b l D) (hz:D.log.length<=100000) (q:∀ H',aR b l H H'->dH g H' p b l D.cw->Q .aL H'):ZyX g.bD [.ref p] H Q E:=by
 obtain ⟨dx,vb,vl,h⟩:=hD;have Aw:vl.length=D.log.length:=Xr h.rl;refine ⟨p,dx,b,l,vl,rfl,h.ob,h.hl,by rw [Aw];exact hz,fun t ht=>?_⟩;have CS:l≠t:=Zg h.hl ht;have Ag:p≠b:=ZR h.ob h.hb (by intro z;cases z);have CT:p≠l:=ZR h.ob h.hl (by intro z;cases z)
 have k:∀ d o,H d=some o->d≠l->(upd (upd H t (.tup [.str "barrier"])) l (.lst (vl++[.ref t]))) d=some o:=fun d o e hd2=>by
  rw [Zf hd2,Zf (Zg e ht)];exact e
 have kt:∀ d xs,H d=some (.tup xs)->(upd (upd H t (.tup [.str "barrier"])) l (.lst (vl++[.ref t]))) d=some (.tup xs):=fun d xs e=>k _ _ e (ZR e h.hl (by intro z;cases z));refine q _ (fun d o e _ h2=>k d o e h2) ⟨dx,_,_,k _ _ h.ob CT,k _ _ h.hb h.ne,Zb,sZ (fun _ _ z=>ni.keep kt z) h.rb,?_,h.ne⟩;refine YaX (sZ (fun _ _ z=>sf.keep kt z) h.rl) ⟨t,rfl,?_⟩;rw [Zf CS.symm,Zb]
def oF (D:c8):Int:=if (256:Int) < (D.blocks.length:Int) then 256 else (D.blocks.length:Int)
structure oR where
 slot:Int
 turn:Int
 synced:gp
def dv (d s t y:V):List (Str×V):=av "synced" y (av "turn" t (av "slot" s (av "disk" d [])))
theorem CG:¬ (("disk":Str)="synced"):=by decide +kernel
theorem CF:¬ (("disk":Str)="turn"):=by decide +kernel
theorem CD:¬ (("disk":Str)="slot"):=by decide +kernel
theorem CC:¬ (("slot":Str)="synced"):=by decide +kernel
theorem CB:¬ (("slot":Str)="turn"):=by decide +kernel
theorem CA:¬ (("turn":Str)="synced"):=by decide +kernel
theorem xP (d s t y:V):(dv d s t y).lookup ("disk":Str)=some d:=by unfold dv;rw [Zo,if_neg CG,Zo,if_neg CF,Zo,if_neg CD,Zo,if_pos rfl]
theorem xQ (d s t y:V):(dv d s t y).lookup ("slot":Str)=some s:=by unfold dv;rw [Zo,if_neg CC,Zo,if_neg CB,Zo,if_pos rfl]
theorem ZyC (d s t y:V):(dv d s t y).lookup ("turn":Str)=some t:=by unfold dv;rw [Zo,if_neg CA,Zo,if_pos rfl]
theorem Ec (d s t y:V):(dv d s t y).lookup ("synced":Str)=some y:=by unfold dv;rw [Zo,if_pos rfl]
theorem A7 (d s t y:V) {m:Str} (h1:¬ m="synced":=by decide +kernel) (h2:¬ m="turn":=by decide +kernel) (h3:¬ m="slot":=by decide +kernel) (h4:¬ m="disk":=by decide +kernel):(dv d s t y).lookup m=none:=by
 unfold dv;rw [Zo,if_neg h1,Zo,if_neg h2,Zo,if_neg h3,Zo,if_neg h4];rfl
theorem oz (d s t y:V):dv d s t y=([("disk",d),("slot",s),("turn",t),("synced",y)]:List (Str×V)):=by
 have e1:av "slot" s [(("disk":Str),d)]=([("disk",d),("slot",s)]:List (Str×V)):=by
  show (if ("disk":Str)="slot" then [(("disk":Str),s)] else (("disk":Str),d)::av "slot" s [])=_;rw [if_neg CD];rfl
 have e2:av "turn" t [(("disk":Str),d),(("slot":Str),s)]=([("disk",d),("slot",s),("turn",t)]:List (Str×V)):=by
  show (if ("disk":Str)="turn" then (("disk":Str),t)::[(("slot":Str),s)] else (("disk":Str),d)::(if ("slot":Str)="turn" then [(("slot":Str),t)] else (("slot":Str),s)::av "turn" t []))=_;rw [if_neg CF,if_neg CB];rfl
 have e3:av "synced" y [(("disk":Str),d),(("slot":Str),s),(("turn":Str),t)]=([("disk",d),("slot",s),("turn",t),("synced",y)]:List (Str×V)):=by
  show (if ("disk":Str)="synced" then (("disk":Str),y)::[(("slot":Str),s),(("turn":Str),t)] else (("disk":Str),d)::(if ("slot":Str)="synced" then (("slot":Str),y)::[(("turn":Str),t)] else (("slot":Str),s)::(if ("turn":Str)="synced" then [(("turn":Str),y)] else (("turn":Str),t)::av "synced" y [])))=_;rw [if_neg CG,if_neg CC,if_neg CA];rfl
 show av "synced" y (av "turn" t (av "slot" s [(("disk":Str),d)]))=_;rw [e1,e2,e3]
theorem ZvG (d s t y s':V):av "slot" s' (dv d s t y)=dv d s' t y:=by
 rw [oz,oz];show (if ("disk":Str)="slot" then (("disk":Str),s')::[(("slot":Str),s),(("turn":Str),t),(("synced":Str),y)] else (("disk":Str),d)::(if ("slot":Str)="slot" then (("slot":Str),s')::[(("turn":Str),t),(("synced":Str),y)] else _))=_;rw [if_neg CD,if_pos rfl]
theorem ZvE (d s t y t':V):av "turn" t' (dv d s t y)=dv d s t' y:=by
 rw [oz,oz];show (if ("disk":Str)="turn" then (("disk":Str),t')::[(("slot":Str),s),(("turn":Str),t),(("synced":Str),y)] else (("disk":Str),d)::(if ("slot":Str)="turn" then (("slot":Str),t')::[(("turn":Str),t),(("synced":Str),y)] else (("slot":Str),s)::(if ("turn":Str)="turn" then (("turn":Str),t')::[(("synced":Str),y)] else _)))=_;rw [if_neg CF,if_neg CB,if_pos rfl]
theorem ZvF (d s t y y':V):av "synced" y' (dv d s t y)=dv d s t y':=by
 rw [oz,oz];show (if ("disk":Str)="synced" then (("disk":Str),y')::[(("slot":Str),s),(("turn":Str),t),(("synced":Str),y)] else (("disk":Str),d)::(if ("slot":Str)="synced" then (("slot":Str),y')::[(("turn":Str),t),(("synced":Str),y)] else (("slot":Str),s)::(if ("turn":Str)="synced" then (("turn":Str),y')::[(("synced":Str),y)] else (("turn":Str),t)::(if ("synced":Str)="synced" then [(("synced":Str),y')] else _))))=_;rw [if_neg CG,if_neg CC,if_neg CA,if_pos rfl]
def j8 (g:Gs) (H:Hp) (q p:Addr) (S:oR):Prop:=∃ dx y,H q=some (.ins g.aS dx (dv (.ref p) (.int S.slot) (.int S.turn) y))/\gy H S.synced y
theorem j8.same {g:Gs} {H H':Hp} {q p:Addr} {S:oR} (s:ag H H'):j8 g H q p S->j8 g H' q p S
 | ⟨dx,y,h1,h2⟩=>⟨dx,y,s _ _ h1,gy.mono _ _ _ _ s h2⟩
theorem EW (b l:Addr):(dR b l).lookup ("write":Str)=none:=EE b l (by decide +kernel) (by decide +kernel)
theorem Znd (b l:Addr):(dR b l).lookup ("barrier":Str)=none:=EE b l (by decide +kernel) (by decide +kernel)
def oH (T:oR) (D:c8) (S:az) (k:Kept):Except Rf lM:=sO S k (oG (oF D) T.synced) T.synced
theorem Zqi (n:Int) (pl:gp) (h:n<=256):(oG n pl).length<=256:=by
 unfold oG;refine Yk (Ya1 _ _) ?_;rw [Xv];omega
structure lx (pl:gp):Prop where
 n:pl.length<=1000
 ne:∀ p∈pl,p.2≠[]
 fl:(pl.map (·.2)).flatten.length<=100000
theorem mj (f:Str) (v:V):∀ fs:List (Str×V),(av f v fs).length<=fs.length + 1
  | []=>Ye _
  | (k,x)::r=>by
    show (if k=f then (k,v)::r else (k,x)::av f v r).length<=r.length + 1 + 1
    split
    · exact Wz _
    · exact Y4 (mj f v r)
def ZsQ (g:Gs):Sp:=fun vs H Q _=>∃ p b l D,vs=[.ref p]/\dH g H p b l D/\Q (.int (oF D)) H
theorem Zml:Zp ["disk"] ["disk"] (Zi ZhG):=ZN (by decide +kernel)
theorem Zmv (T:Tx K mg g):ah P w K mg base (aA P w) 1 g.G6 g.IG ["disk"] (ZsQ g):=by
 refine T.Iw.aP Zml (fun vs H Q E h=>?_) (fun aq A outer s H vs Q E hr h=>?_)
 ·obtain ⟨p,b,l,D,rfl,_⟩:=h;rfl
 ·obtain ⟨p,b,l,D,rfl,⟨dx,vb,vl,hD⟩,q⟩:=h;refine ⟨_,(Zh (Zt (ZD (Zqx rfl) (by rfl) T.Zyu PyProof.Rows.Boot.«min» (Za (ZD ZI (by rfl) T.eu YC (Za (Zv (pv 0) rfl) Ze)) (Za (ZJ (v:=.int 256) rfl T.Zh8 ⟨_,rfl⟩) Ze))))),?_⟩;refine ⟨_,rfl,p,_,dx,_,_,rfl,hD.ob,T.mf,T.Ig,Zxc _ _,b,_,rfl,.inl (ar.of hD.hb),_,_,rfl,?_⟩;rw [Xr hD.rb];exact q
def ZtV (g:Gs):Sp:=fun vs H Q _=>∃ q dx d s t y,vs=[.ref q,d,s,t,y]/\H q=some (.ins g.aS dx [])/\∀ H',(∀ b o,H b=some o->b≠q->H' b=some o)->H' q=some (.ins g.aS dx (dv d s t y))->Q .aL H'
theorem ZnR:Zp ["self","disk","slot","turn","synced"] ["self","disk","slot","turn","synced"] (Zi ZjG):=ZN (by decide +kernel)
theorem Zod (T:Tx K mg g):ah P w K mg base (aA P w) 1 g.GP g.HJ ["self","disk","slot","turn","synced"] (ZtV g):=by
 refine T.Zkc.aP ZnR (fun vs H Q E h=>?_) (fun aq A outer s H vs Q E hr h=>?_)
 ·obtain ⟨q0,dx,d,s0,t,y,rfl,_⟩:=h;rfl
 ·obtain ⟨q0,dx,d,s0,t,y,rfl,hq,q⟩:=h
  refine ⟨_,(Zd (fu (pv 0) (pv 1) rfl)
   (Zd (fu (pv 0) (pv 2) rfl)
   (Zd (fu (pv 0) (pv 3) rfl)
   (Zh (fu (pv 0) (pv 4) rfl))))),?_⟩
  refine ⟨_,rfl,_,rfl,q0,g.aS,dx,[],rfl,hq,T.gq,T.v_,(by show 0 < 1000;decide),?_⟩;refine ⟨_,rfl,_,rfl,q0,g.aS,dx,_,rfl,Zb,T.gq,T.B3,(by show 1 < 1000;decide),?_⟩;refine ⟨_,rfl,_,rfl,q0,g.aS,dx,_,rfl,Zb,T.gq,T.B4,?_,?_⟩
  ·exact YO (mj _ _ _) (YO (Y4 (mj _ _ _)) (by show 2 < 1000;decide))
  refine ⟨_,rfl,_,rfl,q0,g.aS,dx,_,rfl,Zb,T.gq,T.yu,?_,?_⟩
  ·exact YO (mj _ _ _) (YO (Y4 (mj _ _ _)) (YO (Y4 (Y4 (mj _ _ _))) (by show 3 < 1000;decide)))
  refine q _ (fun b o e hb=>?_) Zb;rw [Zf hb,Zf hb,Zf hb,Zf hb];exact e
def ZsN (g:Gs):Sp:=fun vs H Q E=>∃ q p b l T D v S kv k,vs=[.ref q,v,kv]/\j8 g H q p T/\dH g H p b l D/\ZA g H S v/\eB g H k kv/\dI S/\hZ k/\lx T.synced/\dQ g (iP g) H (oH T D S k) Q E
theorem Zdh:Zp ["self","state","kept","free"] ["self","state","kept"] (Zi Zd4):=ZN (by decide +kernel)
theorem Zdo (T:Tx K mg g):ah P w K mg base (aA P w) 5 g.Jv g.JE ["self","state","kept"] (ZsN g):=by
 refine T.Zed.aP Zdh (fun vs H Q E h=>?_) (fun aq A outer s H vs Q E hr h=>?_)
 ·obtain ⟨q0,p,b,l,T0,D,v,S,kv,k,rfl,_⟩:=h;rfl
 ·obtain ⟨q0,p,b,l,T0,D,v,S,kv,k,rfl,⟨dx,y,hq,hy⟩,hD,hS,hk,so,kk,po,q⟩:=h
  refine ⟨_,(Zd (Zz (i:=3) Zdh.nd rfl (Or.inl rfl) (Zn (Zlp T) hr.dn rfl T.ZmA T.IW.kp T.f7 .nil Zc (Za (Zn (Zmv T) hr.dn rfl T.Zoq T.Iw.kp T.gK .nil Zc (Za (Zv (pv 0) rfl) Ze)) (Za (Zv (pv 0) rfl) Ze))))
   (Zh (Zt (Zn (Zq6 T) hr.dn rfl T.Ztk T.F8.kp T.jW .nil Zc (Za (pv 1) (Za (pv 2) (Za (pv 3) (Za (Zv (pv 0) rfl) Ze)))))))),?_⟩
  obtain ⟨ya,ky,rfl,uF,hyd⟩:=id hy;refine ⟨_,rfl,q0,_,dx,_,_,rfl,hq,T.gq,T.v_,xP _ _ _ _,p,b,l,D,rfl,hD,_,rfl,q0,_,dx,_,_,rfl,hq,T.gq,T.yu,Ec _ _ _ _,?_⟩;have uR:0<=oF D:=by unfold oF;split <;> omega
  have gP:oF D<=256:=by unfold oF;split <;> omega
  refine ⟨_,_,T0.synced,rfl,hy,uR,gP,po.n,po.fl,fun f H1 s1 hf=>?_⟩;refine ⟨_,rfl,_,rfl,_,rfl,_,rfl,q0,_,dx,_,_,rfl,s1 _ _ hq,T.gq,T.yu,Ec _ _ _ _,?_⟩;refine ⟨v,S,kv,k,f,_,_,T0.synced,rfl,ZA.mono _ _ _ _ s1 hS,eB.mono _ _ _ _ s1 hk,hf,gy.mono _ _ _ _ s1 hy,so,kk,Yk (Zqi _ _ gP) (by decide),po.ne,?_⟩;unfold oH at q
  cases hm:sO S k (oG (oF D) T0.synced) T0.synced with
  | error r=>rw [hm] at q;exact fun H' s'=>q H' (s1.trans s')
  | ok I=>rw [hm] at q;exact fun v' H' s' h'=>q v' H' (s1.trans s') h'
def xZ (D:c8) (p:Int×Row):c8:=D.write p.1 (some p.2)
def ZtD (D:c8) (row ns:Row):c8:=(ns.zip (nH row ns)).foldl xZ D
def kh (pC:gp) (D:c8) (p:Row×Row):c8:=if (aa pC p.1).isSome then D else ZtD D p.1 p.2
def ox (T:oR) (D:c8) (I:lM):oR×c8:=
 (⟨1 - T.slot,(T.turn + 1) % 256,I.places⟩,((((I.places.foldl (kh T.synced) D).cw).write (1 - T.slot) (some (BG I ((T.turn + 1) % 256)))).cw))
theorem ZfH {row ns:Row} (h:ns≠[]):(nH row ns).length=ns.length:=by
 unfold nH mi;rw [Yb,Xv,Yf,YU]
 have:0 < ns.length:=List.length_pos_iff.mpr h
 show ns.length - 1 + 1=ns.length;omega
theorem Ey:∀ (ps:List (Int×Row)) (D:c8),(ps.foldl xZ D).blocks.length=D.blocks.length/\(ps.foldl xZ D).log.length=D.log.length + ps.length
 | [],D=>⟨rfl,rfl⟩
 | p::ps,D=>by
  obtain ⟨h1,h2⟩:=Ey ps (xZ D p);rw [List.foldl_cons];refine ⟨h1.trans (Ybv ..),h2.trans ?_⟩;show (D.log++[kZ.wr p.1 (some p.2)]).length + ps.length=_
  simp only [Yf,Yz,Ybw]
  omega
theorem A4 (pC:gp):∀ (pl:gp) (D:c8),(∀ p∈pl,p.2≠[])->(pl.foldl (kh pC) D).blocks.length=D.blocks.length/\(pl.foldl (kh pC) D).log.length<=D.log.length + (pl.map (·.2)).flatten.length
 | [],D,_=>⟨rfl,Ye _⟩
 | p::pl,D,h=>by
  obtain ⟨h1,h2⟩:=A4 pC pl (kh pC D p) fun q hq=>h q (Yr _ hq)
  have hs:(kh pC D p).blocks.length=D.blocks.length/\(kh pC D p).log.length<=D.log.length + p.2.length:=by
   unfold kh
   split
   ·exact ⟨rfl,WS _ _⟩
   ·unfold ZtD;obtain ⟨a1,a2⟩:=Ey (p.2.zip (nH p.1 p.2)) D;refine ⟨a1,?_⟩;rw [a2,Ybu,ZfH (h p YA),Nat.min_self];exact Ye _
  rw [List.foldl_cons,Yt,Xh,Yf];refine ⟨h1.trans hs.1,?_⟩;omega
theorem Znm {α β:Type} (f:β->α->β) (b:β) (xs:List α) {i:Nat} {x:α} (h:xs[i]?=some x):(xs.take (i + 1)).foldl f b=f ((xs.take i).foldl f b) x:=by
 have hi:i < xs.length:=(List.getElem?_eq_some_iff.mp h).1;rw [Xb hi,List.foldl_append,(List.getElem?_eq_some_iff.mp h).2];rfl
theorem Zyf {H:Hp} {a t:Addr} {kvs:List (List Key×V)} {row:Row} (e:Rd H a (.dT kvs)) (ht:H t=some (.tup (row.map V.int))):aJ H a (.ref t) (aV kvs (rKey row)):=.inr ⟨kvs,rKey row,t,e,rfl,by rw [x9];exact ht,rfl⟩
theorem Zqn {H:Hp}:∀ {pl:gp} {kvs:List (List Key×V)},Z8 rKey Z1 H pl kvs->∀ {i:Nat} {k:List Key} {v:V},kvs[i]?=some (k,v)->∃ row ns,pl[i]?=some (row,ns)/\k=rKey row/\Z1 H ns v
 | _,_,.nil,i,k,v,h=>by simp at h
 | q::_,p::_,.cons a t,0,k,v,h=>by
  simp at h
  obtain ⟨a1,a2⟩:=a;rw [h] at a1 a2;exact ⟨q.1,q.2,rfl,a1,a2⟩
 | _,_,.cons a t,i + 1,k,v,h=>by
  obtain ⟨row,ns,h1,h2,h3⟩:=Zqn t (i:=i) (by simpa using h);exact ⟨row,ns,by simpa using h1,h2,h3⟩
theorem Zsn {H H':Hp} (k:∀ d xs,H d=some (.tup xs)->H' d=some (.tup xs)) {pl:gp} {kvs:List (List Key×V)} (h:Z8 rKey Z1 H pl kvs):Z8 rKey Z1 H' pl kvs:=by
 unfold Z8 at *
 induction h with
 | nil=>exact .nil
 | cons a _ ih=>obtain ⟨e1,t,e2,ht⟩:=a;exact .cons ⟨e1,t,e2,k _ _ ht⟩ ih
structure D8 (D:c8) (I:lM):Prop where
 n:I.places.length<=1000
 h:I.heads.length<=1000
 ne:∀ p∈I.places,p.2≠[]/\p.2.length<=1000/\∀ n∈p.2,0<=n/\n < (D.blocks.length:Int)
 fl:(I.places.map (·.2)).flatten.length<=50000
def ZyP (g:Gs):Sp:=fun vs H Q _=>∃ q p b l T D v I,vs=[.ref q,v]/\j8 g H q p T/\dH g H p b l D/\iP g H I v/\D8 D I/\(T.slot=0∨T.slot=1)/\2<=D.blocks.length/\D.log.length<=40000/\
 ∀ H',(∀ d o,H d=some o->d≠b->d≠l->d≠q->H' d=some o)->j8 g H' q p (ox T D I).1->dH g H' p b l (ox T D I).2->Q .aL H'
theorem yC:Zp ["self","image","row","numbers","number","block"] ["self","image"] (Zi ZjF):=ZN (by decide +kernel)
theorem Zoc (T:Tx K mg g):ah P w K mg base (aA P w) 8 g.GQ g.HK ["self","image"] (ZyP g):=by
 refine T.Zkb.aP yC (fun vs H Q E h=>?_) (fun aq A outer s H vs Q E hr h=>?_)
 ·obtain ⟨q0,p,b,l,T0,D,v,I,rfl,_⟩:=h;rfl
 ·obtain ⟨q0,p,b,l,T0,D,v,I,rfl,⟨et,y,hq,hy⟩,hD,⟨pi,DX,plv,hdv,rfl,mW,⟨pa,kvs,rfl,iM,rJ⟩,hhd⟩,io,zR,lY,zp,q⟩:=h;obtain ⟨ya,ky,rfl,uF,hyd⟩:=id hy;have hu:=u1 hr.units;obtain ⟨dxd,vb,vl,hG⟩:=id hD
  refine ⟨_,(Zd (EN (i3 Y2 rfl (Zv4 (vq YW Yba Ya9 Fq (Zv (pv 1) rfl))) (xW rfl (nG (Z9 (i:=2) yC.nd rfl (Or.inl rfl)) (nG (Z9 (i:=3) yC.nd rfl (Or.inl rfl)) x8))) (Zh (Z0 (h9 (vR hu (pv 2) (Zv (pv 0) rfl))) (Zh (i3 Y2 rfl (Zy7 rfl T.ZzV (Za (pv 3) (Za (Zn (Zlq T) hr.dn rfl T.ZmB T.IV.kp T.f_ .nil Zc (Za (pv 2) (Za (pv 3) Ze))) Ze))) (xW rfl (nG (Z9 (i:=4) yC.nd rfl (Or.inl rfl)) (nG (Z9 (i:=5) yC.nd rfl (Or.inl rfl)) x8))) (Zh (ZC (ZP (Zv (pv 0) rfl) T.mf T.Hj (Ik T) hr.dn T.cz .nil Zc (Za (pv 4) (Za (pv 5) Ze))))))) Zx))))
   (Zd (ZC (lJ (Zv (pv 0) rfl) T.mf T.ZgJ (Zfo T) hr.dn T.cX .nil Zc))
   (Zd (fu (pv 0) (Zy su Zl (Zv (pv 0) rfl)) rfl)
   (Zd (fu (pv 0) (Zy c7 (Zy jt (Zv (pv 0) rfl) Zl) (ZJ (v:=.int 256) rfl T.ZuX ⟨_,rfl⟩)) rfl)
   (Zd (ZC (ZP (Zv (pv 0) rfl) T.mf T.Hj (Ik T) hr.dn T.cz .nil Zc (Za (Zv (pv 0) rfl) (Za (Zn (Zn7 T) hr.dn rfl T.ZpS T.Hx.kp T.iz .nil Zc (Za (pv 1) (Za (Zv (pv 0) rfl) Ze))) Ze))))
   (Zd (ZC (lJ (Zv (pv 0) rfl) T.mf T.ZgJ (Zfo T) hr.dn T.cX .nil Zc))
   (Zh (fu (pv 0) (Zv (pv 1) rfl) rfl)))))))),?_⟩
  refine ⟨pa,.dT kvs,iM,rfl,?_⟩;refine ⟨_,rfl,pi,_,DX,_,_,rfl,mW,T.vH,T.Cj,Ei _ _,.inr (.inr (.inl ⟨rfl,.inr ⟨kvs,iM⟩⟩)),pa,.dT kvs,rfl,rfl,.inl iM,rfl,fun r ei=>?_⟩;have npr:pa≠r:=Zg iM ei;refine ⟨r,pa,kvs,rfl,Zb,(by rw [Zf npr];exact iM),fun ob=>?_⟩;have Af:q0≠pa:=ZR hq iM (by intro z;cases z);have wO:b≠pa:=ZR hG.hb iM (by intro z;cases z);have wM:l≠pa:=ZR hG.hl iM (by intro z;cases z);have npp:p≠pa:=ZR hG.ob iM (by intro z;cases z);have wK:q0≠b:=ZR hq hG.hb (by intro z;cases z);have wJ:q0≠l:=ZR hq hG.hl (by intro z;cases z);have xn:kvs.length=I.places.length:=rJ.len
  refine Zu0 (d:=pa) (ob:=ob) (kvs:=kvs) (fun i σ H'=>(∃ o2 o3 o4 o5,σ=[some (.ref q0),some (.ref pi),o2,o3,o4,o5])/\H' pa=some (.bt ob (.dT kvs))/\(∀ d o,H d=some o->d≠b->d≠l->d≠pa->H' d=some o)/\dH g H' p b l ((I.places.take i).foldl (kh T0.synced) D))
   ⟨⟨none,none,none,none,rfl⟩,Zb,(fun d o e _ _ h3=>by rw [Zf h3,Zf (Zg e ei)];exact e),hD.keep (fun d o e _=>?_)⟩ (fun i σ H' _ h=>h.2.1) (fun i t b0 k v0 σ H' og Dv ht h=>?_) (fun σ H' h=>?_)
  ·by_cases z:d=pa
   ·rename_i lS
    subst z;rw [iM] at e
    cases e
    rcases lS with ⟨_,z⟩ | ⟨_,z⟩ | ⟨_,_,_,_,z⟩ <;> cases z
   ·rw [Zf z,Zf (Zg e ei)];exact e
  ·obtain ⟨⟨o2,o3,o4,o5,rfl⟩,g9,kp,pV⟩:=h;obtain ⟨row,ns,cI,rfl,⟨tv,rfl,pN⟩⟩:=Zqn rJ og;rw [x9] at Dv;have kT:=Yy cI;obtain ⟨bY,lT,zi⟩:=io.ne _ kT;change ns≠[] at bY;change ns.length<=1000 at lT;change ∀ n∈ns,_ at zi;have s1:=Zj (o:=.tup [.ref b0,.ref tv]) ht;refine ⟨t,_,rfl,aG.of Zb,rfl,_,_,rfl,_,_,rfl,rfl,?_⟩;have hqA:∀ {H2:Hp},(∀ d o,H d=some o->d≠b->d≠l->d≠pa->H2 d=some o)->H2 q0=some (.ins g.aS et (dv (.ref p) (.int T0.slot) (.int T0.turn) (.ref ya))):=fun k2=>k2 _ _ hq wK wJ Af;have iU:∀ d o,H d=some o->d≠b->d≠l->d≠pa->(upd H' t (.tup [.ref b0,.ref tv])) d=some o:=fun d o e h1 h2 h3=>s1 _ _ (kp d o e h1 h2 h3)
   have hyR:Rd (upd H' t (.tup [.ref b0,.ref tv])) ya (.dT ky):=by
    by_cases z:ya=pa
    ·subst z;rw [iM] at uF
     cases uF
     exact .inr ⟨ob,s1 _ _ g9⟩
    ·exact .inl (iU _ _ uF (ZR uF hG.hb (by intro z;cases z)) (ZR uF hG.hl (by intro z;cases z)) z)
   refine ⟨_,rfl,_,rfl,q0,_,et,_,_,rfl,hqA iU,T.gq,T.yu,Ec _ _ _ _,ya,_,rfl,Zyf hyR (s1 _ _ Dv),_,rfl,?_⟩;rw [hyd.some vM,Znm _ _ _ cI];generalize hDe:(I.places.take i).foldl (kh T0.synced) D=Di at pV
   have hlen:Di.blocks.length=D.blocks.length/\Di.log.length<=90000:=by
    rw [<- hDe];obtain ⟨a1,a2⟩:=A4 T0.synced (I.places.take i) D fun p hp=>(io.ne p (List.mem_of_mem_take hp)).1;refine ⟨a1,Yk a2 ?_⟩
    have e1:(I.places.map (·.2)).flatten=((I.places.take i).map (·.2)).flatten++((I.places.drop i).map (·.2)).flatten:=by
     rw [<- XU,<- Yw,YbC]
    have dg:=io.fl;rw [e1,Yf] at dg;omega
   unfold kh
   cases hg:(aa T0.synced row).isSome with
   | true=>
    refine aw ⟨⟨_,_,_,_,rfl⟩,s1 _ _ g9,iU,?_⟩;rw [if_pos rfl];exact pV.same s1
   | false=>
    rw [if_neg (show ¬ (false=true) by decide)];refine ay ?_;have zf:=iU _ _ pN (ZR pN hG.hb (by intro z;cases z)) (ZR pN hG.hl (by intro z;cases z)) (ZR pN iM (by intro z;cases z));refine ⟨_,rfl,_,rfl,_,rfl,row,_,ns,_,rfl,⟨b0,rfl,s1 _ _ Dv⟩,⟨tv,rfl,zf⟩,Yk lT (by decide),fun lb us H4 s4 Ax zq hus=>?_⟩;have pW:dH g H4 p b l Di:=(pV.same s1).same s4;obtain ⟨xM,vb4,vl4,h4⟩:=id pW;obtain ⟨hV,vb1,vl1,h1D⟩:=id (pV.same s1);have nlb:lb≠b:=(Zg h1D.hb Ax).symm;have nll:lb≠l:=(Zg h1D.hl Ax).symm;have nlbp:lb≠pa:=(Zg (s1 _ _ g9) Ax).symm;have Ak:∀ d o,H d=some o->d≠b->d≠l->d≠pa->H4 d=some o:=fun d o e h1 h2 h3=>s4 _ _ (iU d o e h1 h2 h3);have cE:=ZfH (row:=row) bY;have jZ:us.length=ns.length:=by rw [Xr hus,cE]
    refine ⟨tv,lb,rfl,⟨_,aG.of (s4 _ _ zf)⟩,⟨_,ar.of zq⟩,?_⟩
    refine Zyc (xs:=ns.map V.int) (ys:=us) (fun j σ H'=>(∃ o4 o5,σ=[some (.ref q0),some (.ref pi),some (.ref b0),some (.ref tv),o4,o5])/\H' pa=some (.bt ob (.dT kvs))/\(∀ d o,H d=some o->d≠b->d≠l->d≠pa->H' d=some o)/\H' lb=some (.lst us)/\WA (fun a b=>Z1 H' b a) us (nH row ns)/\dH g H' p b l (((ns.zip (nH row ns)).take j).foldl xZ Di))
     (by rw [Yb,jZ]) ⟨⟨_,_,rfl⟩,s4 _ _ (s1 _ _ g9),Ak,zq,hus,pW⟩ (fun j σ H' _ h=>?_) (fun j x y t2 σ H' hx hy dO h=>?_) (fun σ H' h=>?_)
    ·obtain ⟨_,_,uE,pd,_,_⟩:=h;exact ⟨aG.of (uE _ _ pN (ZR pN hG.hb (by intro z;cases z)) (ZR pN hG.hl (by intro z;cases z)) (ZR pN iM (by intro z;cases z))),ar.of pd⟩
    ·obtain ⟨⟨o4,o5,rfl⟩,tW,uE,pd,tO,uU⟩:=h;rw [Yo] at hx
     cases hn:ns[j]? with
     | none=>rw [hn] at hx;cases hx
     | some n=>
      rw [hn] at hx
      cases hx
      obtain ⟨blk,KW,gE⟩:=BF tO hy;obtain ⟨rM,Av⟩:=zi n (Yy hn);have hz:(ns.zip (nH row ns))[j]?=some (n,blk):=by rw [YaN];exact ⟨hn,KW⟩
      have s6:=Zj (o:=.tup [.int n,y]) dO;refine ⟨t2,_,rfl,aG.of Zb,rfl,_,_,rfl,_,_,rfl,rfl,?_⟩;have m_:=uU.same s6;obtain ⟨uZ,vb6,vl6,h6⟩:=id m_;obtain ⟨w1,w2⟩:=Ey ((ns.zip (nH row ns)).take j) Di
      have hjl:((ns.zip (nH row ns)).take j).length<=1000:=by
       rw [Y0,Ybu];omega
      refine ⟨_,rfl,q0,_,et,_,_,rfl,s6 _ _ (hqA uE),T.gq,T.v_,xP _ _ _ _,p,uZ,_,rfl,h6.ob,EW _ _,_,rfl,_,rfl,?_⟩;dsimp only [bp,Xf];refine Fd m_ (blk:=some blk) (Z1.mono _ _ _ _ s6 gE) rM (by rw [w1,hlen.1];exact Av) (by omega) fun H7 b7 DD=>?_;have nbpa:=wO;have nlpa:=wM;refine ⟨⟨_,_,rfl⟩,b7 _ _ (s6 _ _ tW) wO.symm wM.symm,fun d o e h1 h2 h3=>b7 _ _ (s6 _ _ (uE d o e h1 h2 h3)) h1 h2,b7 _ _ (s6 _ _ pd) nlb nll,ZpB tO (fun a r' ha=>b7 _ _ (s6 _ _ ha) (ZR (s6 _ _ ha) h6.hb (by intro z;cases z)) (ZR (s6 _ _ ha) h6.hl (by intro z;cases z))),?_⟩;rw [Znm _ _ _ hz];exact DD
    ·obtain ⟨⟨o4,o5,rfl⟩,tW,uE,pd,tO,uU⟩:=h;refine ⟨⟨_,_,_,_,rfl⟩,tW,uE,?_⟩;rw [Yb,YS (by rw [Ybu,cE,Nat.min_self];exact Ye _)] at uU;exact uU
  ·obtain ⟨⟨o2,o3,o4,o5,rfl⟩,g9,kp,pV⟩:=h;rw [xn,XE] at pV
   have hlen:(I.places.foldl (kh T0.synced) D).blocks.length=D.blocks.length/\(I.places.foldl (kh T0.synced) D).log.length<=90000:=by
    obtain ⟨a1,a2⟩:=A4 T0.synced I.places D fun p hp=>(io.ne p hp).1;refine ⟨a1,Yk a2 ?_⟩
    have:=io.fl
    omega
   unfold ox at q;generalize I.places.foldl (kh T0.synced) D=D1 at pV hlen q;refine ⟨ob,.dT kvs,g9,rfl,?_⟩
   -- all is Le: H2
   have wV:∀ d o,H d=some o->d≠b->d≠l->(upd H' pa (.dT kvs)) d=some o:=fun d o e h1 h2=>by
    by_cases z:d=pa
    ·subst z;rw [Zb,<- e,iM]
    ·rw [Zf z];exact kp d o e h1 h2 z
   have uV:dH g (upd H' pa (.dT kvs)) p b l D1:=pV.keep fun d o e lS=>by
    by_cases z:d=pa
    ·subst z;rw [g9] at e
     cases e
     rcases lS with ⟨_,z⟩ | ⟨_,z⟩ | ⟨_,_,_,_,z⟩ <;> cases z
    ·rw [Zf z];exact e
   generalize upd H' pa (.dT kvs)=H2 at wV uV;obtain ⟨gR,vb2,vl2,h2⟩:=id uV;have nW:=wV _ _ hq wK wJ;refine ⟨_,rfl,q0,_,et,_,_,rfl,nW,T.gq,T.v_,xP _ _ _ _,p,gR,_,rfl,h2.ob,Znd _ _,?_⟩;dsimp only [bp,Xf];refine Znu uV (by omega) fun H3 b3 om=>?_;have uH:=b3 _ _ nW wK wJ;have k3:∀ d o,H d=some o->d≠b->d≠l->H3 d=some o:=fun d o e h1 h2=>b3 _ _ (wV d o e h1 h2) h1 h2
   -- gs slot,gs turn
   refine ⟨_,rfl,q0,_,et,_,_,rfl,uH,T.gq,T.B3,xQ _ _ _ _,_,_,rfl,rfl,_,rfl,q0,_,et,_,rfl,uH,T.gq,T.B3,(by rw [oz];show 4 < 1000;decide),?_⟩;rw [ZvG];refine ⟨_,rfl,q0,_,et,_,_,rfl,Zb,T.gq,T.B4,ZyC _ _ _ _,_,_,rfl,rfl,_,_,rfl,rfl,(by show (0:Int) < 256;decide),_,rfl,q0,_,et,_,rfl,Zb,T.gq,T.B4,(by rw [oz];show 4 < 1000;decide),?_⟩;rw [ZvE]
   have k4:∀ d o,H d=some o->d≠b->d≠l->d≠q0->(upd (upd H3 q0 (.ins g.aS et (dv (.ref p) (.int (1 - T0.slot)) (.int T0.turn) (.ref ya)))) q0 (.ins g.aS et (dv (.ref p) (.int (1 - T0.slot)) (.int ((T0.turn + 1) % 256)) (.ref ya)))) d=some o:=fun d o e h1 h2 h3=>by
    rw [Zf h3,Zf h3];exact k3 d o e h1 h2
   have dq:∀ {H5:Hp} {x:V} {d:Addr} {o:HO} {C:Addr} {dx:Addr} {a b c e:V},H5 q0=some (.ins C dx (dv a b c e))->H5 d=some o->ZzU o->d≠q0:=fun {H5 x d o C dx a b c e} h1 h2 h3 z=>by
    subst z;rw [h1] at h2
    cases h2
    rcases h3 with ⟨_,z⟩ | ⟨_,z⟩ | ⟨_,_,_,_,z⟩
    ·cases z
    ·cases z
    ·injection z with _ _ z
     have:=congrArg (fun fs=>XO ("slot":Str) fs) z
     simp only [xQ] at this
     rw [EE _ _ (by decide +kernel) (by decide +kernel)] at this
     cases this
   have pW:dH g (upd (upd H3 q0 (.ins g.aS et (dv (.ref p) (.int (1 - T0.slot)) (.int T0.turn) (.ref ya)))) q0 (.ins g.aS et (dv (.ref p) (.int (1 - T0.slot)) (.int ((T0.turn + 1) % 256)) (.ref ya)))) p b l D1.cw:=om.keep fun d o e lS=>by
    have:=dq (x:=.aL) uH e lS
    rw [Zf this,Zf this];exact e
   have xc:=Zb (H:=upd H3 q0 (.ins g.aS et (dv (.ref p) (.int (1 - T0.slot)) (.int T0.turn) (.ref ya)))) (a:=q0) (o:=.ins g.aS et (dv (.ref p) (.int (1 - T0.slot)) (.int ((T0.turn + 1) % 256)) (.ref ya)));generalize upd (upd H3 q0 (.ins g.aS et (dv (.ref p) (.int (1 - T0.slot)) (.int T0.turn) (.ref ya)))) q0 (.ins g.aS et (dv (.ref p) (.int (1 - T0.slot)) (.int ((T0.turn + 1) % 256)) (.ref ya)))=H4 at k4 pW xc;obtain ⟨xM,vb4,vl4,h4⟩:=id pW
   have Kg:pi≠q0:=fun z=>by
    rw [z,hq] at mW;injection mW with mW;injection mW with _ _ hf
    have:=congrArg (fun fs=>XO ("slot":Str) fs) hf
    simp only [xQ] at this
    unfold rA at this;rw [Zo,if_neg (by decide +kernel),Zo,if_neg (by decide +kernel)] at this
    cases this
   have zk:=k4 _ _ mW (ZR mW hG.hb (by intro z;cases z)) (ZR mW hG.hl (by intro z;cases z)) Kg;have tP:∀ d xs,H d=some (.tup xs)->H4 d=some (.tup xs):=fun d xs e=>k4 _ _ e (ZR e hG.hb (by intro z;cases z)) (ZR e hG.hl (by intro z;cases z)) (ZR e hq (by intro z;cases z));have Ky:gy H4 I.places (.ref pa):=⟨pa,kvs,rfl,k4 _ _ iM wO.symm wM.symm Af.symm,Zsn tP rJ⟩
   have DC:iP g H4 I (.ref pi):=⟨pi,DX,.ref pa,hdv,rfl,zk,Ky,by obtain ⟨ht,e,hh⟩:=hhd;exact ⟨ht,e,tP _ _ hh⟩⟩
   have Kw:0<=1 - T0.slot/\1 - T0.slot < 2:=by rcases zR with z | z <;> omega
   -- gs head
   refine ⟨_,rfl,q0,_,et,_,_,rfl,xc,T.gq,T.v_,xP _ _ _ _,p,xM,_,rfl,h4.ob,EW _ _,_,rfl,q0,_,et,_,_,rfl,xc,T.gq,T.B3,xQ _ _ _ _,_,rfl,_,rfl,q0,_,et,_,_,rfl,xc,T.gq,T.B4,ZyC _ _ _ _,?_⟩;refine ⟨I,_,_,rfl,DC,io.h,Yk io.n (by decide),fun u H5 s5 hu5=>?_⟩;dsimp only [bp,Xf]
   have Ax:D1.cw.log.length<=90001:=by
    show (D1.log++[kZ.bar]).length<=_;rw [Yf];show D1.log.length + 1<=_;omega
   refine Fd (pW.same s5) (blk:=some (BG I ((T0.turn + 1) % 256))) hu5 Kw.1 (by show 1 - T0.slot < (D1.blocks.length:Int);rw [hlen.1];omega) (by omega) fun H6 b6 m_=>?_;have hq6:=b6 _ _ (s5 _ _ xc) wK wJ;obtain ⟨uZ,vb6,vl6,h6⟩:=id m_;refine ⟨_,rfl,q0,_,et,_,_,rfl,hq6,T.gq,T.v_,xP _ _ _ _,p,uZ,_,rfl,h6.ob,Znd _ _,?_⟩;dsimp only [bp,Xf];refine Znu m_ ?_ fun H7 b7 DD=>?_
   ·show (D1.cw.log++[kZ.wr _ _]).length<=_;rw [Yf];show D1.cw.log.length + 1<=_;omega
   have hq7:=b7 _ _ hq6 wK wJ;have k7:∀ d o,H4 d=some o->d≠b->d≠l->H7 d=some o:=fun d o e h1 h2=>b7 _ _ (b6 _ _ (s5 _ _ e) h1 h2) h1 h2;have Kz:=k7 _ _ zk (ZR mW hG.hb (by intro z;cases z)) (ZR mW hG.hl (by intro z;cases z));refine ⟨_,rfl,pi,_,DX,_,_,rfl,Kz,T.vH,T.Cj,Ei _ _,_,rfl,q0,_,et,_,rfl,hq7,T.gq,T.yu,(by rw [oz];show 4 < 1000;decide),?_⟩;rw [ZvF]
   have zQ:∀ d xs,H d=some (.tup xs)->(upd H7 q0 (.ins g.aS et (dv (.ref p) (.int (1 - T0.slot)) (.int ((T0.turn + 1) % 256)) (.ref pa)))) d=some (.tup xs):=fun d xs e=>by
    rw [Zf (ZR e hq (by intro z;cases z))];exact k7 _ _ (tP d xs e) (ZR e hG.hb (by intro z;cases z)) (ZR e hG.hl (by intro z;cases z))
   refine q _ (fun d o e h1 h2 h3=>?_) ⟨et,.ref pa,Zb,pa,kvs,rfl,?_,Zsn zQ rJ⟩ (DD.keep fun d o e lS=>?_)
   ·rw [Zf h3];exact k7 _ _ (k4 d o e h1 h2 h3) h1 h2
   ·rw [Zf Af.symm];exact k7 _ _ (k4 _ _ iM wO.symm wM.symm Af.symm) wO.symm wM.symm
   ·rw [Zf (dq (x:=.aL) hq7 e lS)];exact e
def cL (s k t i:V):List (Str×V):=av "image" i (av "store" t (av "kept" k (av "state" s [])))
theorem DQ:¬ (("state":Str)="image"):=by decide +kernel
theorem ff2:¬ (("state":Str)="store"):=by decide +kernel
theorem DP:¬ (("state":Str)="kept"):=by decide +kernel
theorem DO:¬ (("kept":Str)="image"):=by decide +kernel
theorem ff5:¬ (("kept":Str)="store"):=by decide +kernel
theorem DN:¬ (("store":Str)="image"):=by decide +kernel
theorem jr (s k t i:V):(cL s k t i).lookup ("state":Str)=some s:=by unfold cL;rw [Zo,if_neg DQ,Zo,if_neg ff2,Zo,if_neg DP,Zo,if_pos rfl]
theorem ly (s k t i:V):(cL s k t i).lookup ("kept":Str)=some k:=by unfold cL;rw [Zo,if_neg DO,Zo,if_neg ff5,Zo,if_pos rfl]
theorem Zzz (s k t i:V):(cL s k t i).lookup ("store":Str)=some t:=by unfold cL;rw [Zo,if_neg DN,Zo,if_pos rfl]
theorem Z6 (s k t i:V) {m:Str} (h1:¬ m="image":=by decide +kernel) (h2:¬ m="store":=by decide +kernel) (h3:¬ m="kept":=by decide +kernel) (h4:¬ m="state":=by decide +kernel):(cL s k t i).lookup m=none:=by
 unfold cL;rw [Zo,if_neg h1,Zo,if_neg h2,Zo,if_neg h3,Zo,if_neg h4];rfl
theorem oy (s k t i:V):cL s k t i=([("state",s),("kept",k),("store",t),("image",i)]:List (Str×V)):=by
 have e1:av "kept" k [(("state":Str),s)]=([("state",s),("kept",k)]:List (Str×V)):=by
  show (if ("state":Str)="kept" then [(("state":Str),k)] else (("state":Str),s)::av "kept" k [])=_;rw [if_neg DP];rfl
 have e2:av "store" t [(("state":Str),s),(("kept":Str),k)]=([("state",s),("kept",k),("store",t)]:List (Str×V)):=by
  show (if ("state":Str)="store" then (("state":Str),t)::[(("kept":Str),k)] else (("state":Str),s)::(if ("kept":Str)="store" then [(("kept":Str),t)] else (("kept":Str),k)::av "store" t []))=_;rw [if_neg ff2,if_neg ff5];rfl
 have e3:av "image" i [(("state":Str),s),(("kept":Str),k),(("store":Str),t)]=([("state",s),("kept",k),("store",t),("image",i)]:List (Str×V)):=by
  show (if ("state":Str)="image" then (("state":Str),i)::[(("kept":Str),k),(("store":Str),t)] else (("state":Str),s)::(if ("kept":Str)="image" then (("kept":Str),i)::[(("store":Str),t)] else (("kept":Str),k)::(if ("store":Str)="image" then [(("store":Str),i)] else (("store":Str),t)::av "image" i [])))=_;rw [if_neg DQ,if_neg DO,if_neg DN];rfl
 show av "image" i (av "store" t (av "kept" k [(("state":Str),s)]))=_;rw [e1,e2,e3]
theorem Zu5 (s k t i i':V):av "image" i' (cL s k t i)=cL s k t i':=by
 rw [oy,oy];show (if ("state":Str)="image" then (("state":Str),i')::[(("kept":Str),k),(("store":Str),t),(("image":Str),i)] else (("state":Str),s)::(if ("kept":Str)="image" then (("kept":Str),i')::[(("store":Str),t),(("image":Str),i)] else (("kept":Str),k)::(if ("store":Str)="image" then (("store":Str),i')::[(("image":Str),i)] else (("store":Str),t)::(if ("image":Str)="image" then [(("image":Str),i')] else _))))=_;rw [if_neg DQ,if_neg DO,if_neg DN,if_pos rfl]
theorem Zu4 (s k t i s':V):av "state" s' (cL s k t i)=cL s' k t i:=by
 rw [oy,oy];show (if ("state":Str)="state" then (("state":Str),s')::[(("kept":Str),k),(("store":Str),t),(("image":Str),i)] else _)=_;rw [if_pos rfl]
theorem Zwv (s k t i k':V):av "kept" k' (cL s k t i)=cL s k' t i:=by
 rw [oy,oy];show (if ("state":Str)="kept" then (("state":Str),k')::[(("kept":Str),k),(("store":Str),t),(("image":Str),i)] else (("state":Str),s)::(if ("kept":Str)="kept" then (("kept":Str),k')::[(("store":Str),t),(("image":Str),i)] else _))=_;rw [if_neg DP,if_pos rfl]
def kY (o:HO):Prop:=∀ C dx s k t i,o≠.ins C dx (cL s k t i)
def kM (H H':Hp):Prop:=∀ d o,H d=some o->kY o->H' d=some o
theorem vo {H H':Hp} (s:ag H H'):kM H H':=fun d o e _=>s _ _ e
theorem kM.trans {H H' yP:Hp} (s:kM H H') (t:kM H' yP):kM H yP:=fun d o e n=>t _ _ (s _ _ e n) n
theorem kM.upd {H:Hp} {f C dx:Addr} {s k t i:V} {o:HO} (h:H f=some (.ins C dx (cL s k t i))):kM H (upd H f o):=fun d u e n=>by
 have:d≠f:=fun z=>by
  subst z;rw [h] at e
  cases e
  exact n _ _ _ _ _ _ rfl
 rw [Zf this];exact e
theorem ZrZ (xs:List V):kY (.tup xs):=by intro _ _ _ _ _ _ z;cases z
theorem Zwb (xs:List V):kY (.lst xs):=by intro _ _ _ _ _ _ z;cases z
theorem Bf (xs:List (Key×V)):kY (.dK xs):=by intro _ _ _ _ _ _ z;cases z
theorem ZxW (xs:List (List Key×V)):kY (.dT xs):=by intro _ _ _ _ _ _ z;cases z
theorem By {C dx:Addr} {fs:List (Str×V)} (m:Str) {v:V} (h:fs.lookup m=some v) (h1:¬ m="image") (h2:¬ m="store") (h3:¬ m="kept") (h4:¬ m="state"):kY (.ins C dx fs):=by
 intro C' iZ s k t i z;injection z with _ _ z;rw [z,Z6 _ _ _ _ h1 h2 h3 h4] at h
 cases h
section
variable {g:Gs} {H H':Hp} (s:kM H H')
include s
theorem Z1.f {r:Row} {v:V}:Z1 H r v->Z1 H' r v | ⟨t,e,h⟩=>⟨t,e,s _ _ h (ZrZ _)⟩
theorem gk.f {r:ao} {v:V}:gk H r v->gk H' r v | ⟨t,e,h⟩=>⟨t,e,s _ _ h (Bf _)⟩
omit s in
theorem Z8.gen {κ α ρ:Type} {f:κ->ρ} {R:Hp->α->V->Prop} (k:∀ x v,R H x v->R H' x v) {xs:List (κ×α)} {kvs:List (ρ×V)} (h:Z8 f R H xs kvs):Z8 f R H' xs kvs:=by
 unfold Z8 at *
 induction h with
 | nil=>exact .nil
 | cons a _ ih=>exact .cons ⟨a.1,k _ _ a.2⟩ ih
theorem ZA.f {S:az} {v:V}:ZA g H S v->ZA g H' S v | ⟨p,dx,da,ea,dk,ek,e,h⟩=>⟨p,dx,da,ea,dk,ek,e,s _ _ h.ob (By "data" (lB _ _) (by decide +kernel) (by decide +kernel) (by decide +kernel) (by decide +kernel)),s _ _ h.hd (Bf _),s _ _ h.he (Bf _),h.rd.gen (fun _ _ z=>z.f s),h.re.gen (fun _ _ z=>z.f s)⟩
theorem eB.f {k:Kept} {v:V}:eB g H k v->eB g H' k v | ⟨a,kvs,e,h,d⟩=>⟨a,kvs,e,s _ _ h (Bf _),d.gen (fun _ _ z=>z.f s)⟩
theorem gy.f {k:gp} {v:V}:gy H k v->gy H' k v | ⟨a,kvs,e,h,d⟩=>⟨a,kvs,e,s _ _ h (ZxW _),d.gen (fun _ _ z=>z.f s)⟩
theorem iP.f {k:lM} {v:V}:iP g H k v->iP g H' k v | ⟨p,dx,pl,hd,e,h,h1,h2⟩=>⟨p,dx,pl,hd,e,s _ _ h (By "heads" (Ea _ _) (by decide +kernel) (by decide +kernel) (by decide +kernel) (by decide +kernel)),h1.f s,h2.f s⟩
theorem j8.f {q p:Addr} {T:oR}:j8 g H q p T->j8 g H' q p T | ⟨dx,y,h,h1⟩=>⟨dx,y,s _ _ h (By "slot" (xQ _ _ _ _) (by decide +kernel) (by decide +kernel) (by decide +kernel) (by decide +kernel)),h1.f s⟩
theorem dH.f {p b l:Addr} {D:c8} (h:dH g H p b l D):dH g H' p b l D:=h.keep fun d o e lS=>s _ _ e (by
 rcases lS with ⟨xs,rfl⟩ | ⟨xs,rfl⟩ | ⟨C,dx,b,l,rfl⟩
 ·exact ZrZ _
 ·exact Zwb _
 ·exact By "log" (Es _ _) (by decide +kernel) (by decide +kernel) (by decide +kernel) (by decide +kernel))
end
structure bX where
 S:az
 k:Kept
 T:oR
 D:c8
 I:lM
structure ZAu (g:Gs) (H:Hp) (f q p b l:Addr) (F:bX) (dx:Addr) (sv kv iv:V):Prop where
 ob:H f=some (.ins g.ak dx (cL sv kv (.ref q) iv))
 st:ZA g H F.S sv
 ke:eB g H F.k kv
 uA:j8 g H q p F.T
 AI:dH g H p b l F.D
 img:iP g H F.I iv
def cF (g:Gs) (H:Hp) (f q p b l:Addr) (F:bX):Prop:=∃ dx sv kv iv,ZAu g H f q p b l F dx sv kv iv
theorem cF.same {g:Gs} {H H':Hp} {f q p b l:Addr} {F:bX} (s:ag H H'):cF g H f q p b l F->cF g H' f q p b l F
 | ⟨dx,sv,kv,iv,h⟩=>⟨dx,sv,kv,iv,s _ _ h.ob,h.st.f (vo s),h.ke.f (vo s),h.uA.f (vo s),h.AI.f (vo s),h.img.f (vo s)⟩
def fT (f:Addr) (H H':Hp):Prop:=∀ d o,H d=some o->d≠f->H' d=some o
def Zt3 (g:Gs):Sp:=fun vs H Q _=>∃ f dx a b c d,vs=[.ref f,a,b,c,d]/\H f=some (.ins g.ak dx [])/\∀ H',(∀ b o,H b=some o->b≠f->H' b=some o)->H' f=some (.ins g.ak dx (cL a b c d))->Q .aL H'
theorem ZnX:Zp ["self","state","kept","store","image"] ["self","state","kept","store","image"] (Zi ZjO):=ZN (by decide +kernel)
theorem Zoi (T:Tx K mg g):ah P w K mg base (aA P w) 1 g.Ga g.Hy ["self","state","kept","store","image"] (Zt3 g):=by
 refine T.Zkk.aP ZnX (fun vs H Q E h=>?_) (fun aq A outer s H vs Q E hr h=>?_)
 ·obtain ⟨f,dx,a,b,c,d,rfl,_⟩:=h;rfl
 ·obtain ⟨f,dx,a,b,c,d,rfl,hf,q⟩:=h
  refine ⟨_,(Zd (fu (pv 0) (pv 1) rfl)
   (Zd (fu (pv 0) (pv 2) rfl)
   (Zd (fu (pv 0) (pv 3) rfl)
   (Zh (fu (pv 0) (pv 4) rfl))))),?_⟩
  refine ⟨_,rfl,_,rfl,f,g.ak,dx,[],rfl,hf,T.Zq,T.ZK,(by show 0 < 1000;decide),?_⟩;refine ⟨_,rfl,_,rfl,f,g.ak,dx,_,rfl,Zb,T.Zq,T.ZY,(by show 1 < 1000;decide),?_⟩;refine ⟨_,rfl,_,rfl,f,g.ak,dx,_,rfl,Zb,T.Zq,T.Ih,?_,?_⟩
  ·exact YO (mj _ _ _) (YO (Y4 (mj _ _ _)) (by show 2 < 1000;decide))
  refine ⟨_,rfl,_,rfl,f,g.ak,dx,_,rfl,Zb,T.Zq,T.ZhX,?_,?_⟩
  ·exact YO (mj _ _ _) (YO (Y4 (mj _ _ _)) (YO (Y4 (Y4 (mj _ _ _))) (by show 3 < 1000;decide)))
  refine q _ (fun b o e hb=>?_) Zb;rw [Zf hb,Zf hb,Zf hb,Zf hb];exact e
def Zpl (g:Gs):Sp:=fun vs H Q E=>∃ f dx s k t i,vs=[.ref f]/\H f=some (.ins g.ak dx (cL s k t i))/\((t=.aL/\E (.ref (g.xa .readOnly)) none H)∨((∃ q,t=.ref q)/\Q .aL H))
theorem ZdF:Zp ["self"] ["self"] (Zi Zbw):=ZN (by decide +kernel)
theorem ZH (T:Tx K mg g):ah P w K mg base (aA P w) 1 g.JH g.JI ["self"] (Zpl g):=by
 refine T.ZbB.aP ZdF (fun vs H Q E h=>?_) (fun aq A outer s H vs Q E hr h=>?_)
 ·obtain ⟨f,dx,s0,k,t,i,rfl,_⟩:=h;rfl
 ·obtain ⟨f,dx,s0,k,t,i,rfl,hf,q⟩:=h;refine ⟨_,(Zh (Z0 (h9 (Zw4 (Zv (pv 0) rfl))) (Zh (Z2 T.Zsw rfl T.Zng (Za Zr Ze))) Zx)),?_⟩;refine ⟨_,rfl,f,_,dx,_,_,rfl,hf,T.Zq,T.Ih,Zzz _ _ _ _,_,rfl,?_⟩;rcases q with ⟨rfl,q⟩ | ⟨⟨q0,rfl⟩,q⟩
  ·exact ay ⟨aX 1,q⟩
  ·exact aw q
def gn (F:bX) (S:az) (k:Kept):Except Rf bX:=match oH F.T F.D S k with
 | .error r=>.error r
 | .ok I=>.ok ⟨S,k,F.T,F.D,I⟩
def ZvJ (g:Gs):Sp:=fun vs H Q E=>∃ f q p b l F sv kv S k,vs=[.ref f,sv,kv]/\cF g H f q p b l F/\ZA g H S sv/\eB g H k kv/\dI S/\hZ k/\lx F.T.synced/\(match gn F S k with
 | .error r=>∀ H',ag H H'->E (.ref (g.xa r)) none H'
 | .ok F'=>∀ H',fT f H H'->cF g H' f q p b l F'->Q .aL H')
theorem Zko:Zp ["self","state","kept"] ["self","state","kept"] (Zi Zfh):=ZN (by decide +kernel)
theorem qB (T:Tx K mg g):ah P w K mg base (aA P w) 6 g.ID g.Ju ["self","state","kept"] (ZvJ g):=by
 refine T.Zf5.aP Zko (fun vs H Q E h=>?_) (fun aq A outer s H vs Q E hr h=>?_)
 ·obtain ⟨f,q0,p,b,l,F,sv,kv,S,k,rfl,_⟩:=h;rfl
 ·obtain ⟨f,q0,p,b,l,F,sv,kv,S,k,rfl,⟨dx,sv0,C4,iv0,hF⟩,hS,hk,so,kk,po,q⟩:=h
  refine ⟨_,(Zd (fu (pv 0) (ZP (Zv (pv 0) rfl) T.gq T.Zd9 (Zdo T) hr.dn T.bS .nil Zc (Za (pv 1) (Za (pv 2) Ze))) rfl)
   (Zd (fu (pv 0) (pv 1) rfl)
   (Zh (fu (pv 0) (pv 2) rfl)))),?_⟩
  obtain ⟨et,y,hq,hy⟩:=id hF.uA;refine ⟨_,rfl,f,_,dx,_,_,rfl,hF.ob,T.Zq,T.Ih,Zzz _ _ _ _,q0,et,_,rfl,hq,A7 _ _ _ _,_,rfl,_,rfl,?_⟩;refine ⟨q0,p,b,l,F.T,F.D,sv,S,kv,k,rfl,hF.uA,hF.AI,hS,hk,so,kk,po,?_⟩;unfold gn at q
  cases hm:oH F.T F.D S k with
  | error r=>
   rw [hm] at q;exact fun H' s'=>q H' s'
  | ok I=>
   rw [hm] at q;dsimp only at q;intro iv H1 s1 hI;refine ⟨_,rfl,f,_,dx,_,rfl,s1 _ _ hF.ob,T.Zq,T.ZhX,(by rw [oy];show 4 < 1000;decide),?_⟩;rw [Zu5];refine ⟨_,rfl,_,rfl,f,_,dx,_,rfl,Zb,T.Zq,T.ZK,(by rw [oy];show 4 < 1000;decide),?_⟩;rw [Zu4];refine ⟨_,rfl,_,rfl,f,_,dx,_,rfl,Zb,T.Zq,T.ZY,(by rw [oy];show 4 < 1000;decide),?_⟩;rw [Zwv];have sA:kM H1 (upd (upd (upd H1 f (.ins g.ak dx (cL sv0 C4 (.ref q0) iv))) f (.ins g.ak dx (cL sv C4 (.ref q0) iv))) f (.ins g.ak dx (cL sv kv (.ref q0) iv))):=(kM.upd (s1 _ _ hF.ob)).trans ((kM.upd Zb).trans (kM.upd Zb));have sB:=kM.trans (vo s1) sA;refine q _ (fun d o e hd=>?_) ⟨dx,sv,kv,iv,Zb,hS.f sB,hk.f sB,hF.uA.f sB,hF.AI.f sB,hI.f sA⟩;rw [Zf hd,Zf hd,Zf hd];exact s1 _ _ e
def gY:Row:=List.replicate 64 0
def kg:oR:=⟨1,255,[]⟩
def h_:az:=⟨[],[(0,[])]⟩
def Bi (D:c8):Except Rf bX:=match oH kg (D.write 1 (some gY)) h_ [] with
 | .error r=>.error r
 | .ok I=>.ok ⟨h_,[],(ox kg (D.write 1 (some gY)) I).1,(ox kg (D.write 1 (some gY)) I).2,I⟩
def AQ (F:bX) (p kind:Str):Except Rf bX:=match p_ F.S p kind with
 | .error r=>.error r
 | .ok S=>gn F S F.k
theorem Zwu:dI h_:=by
 refine ⟨by decide,(fun n r h=>by cases h),fun n es h=>?_⟩
 have:es=[]:=by
  by_cases z:(0:Int)=n
  ·have:=fI (p:=((0:Int),([]:ao))) (r:=[]) (k:=n) z
   rw [show aa h_.ent n=aa [((0:Int),([]:ao))] n from rfl,this] at h
   cases h
   rfl
  ·have:=ZZ (p:=((0:Int),([]:ao))) (r:=[]) (k:=n) z
   rw [show aa h_.ent n=aa [((0:Int),([]:ao))] n from rfl,this] at h
   cases h
 subst this;exact ⟨by decide,fun p hp=>nomatch hp⟩
def sg (o:HO):Prop:=(∀ xs,o≠.lst xs)/\∀ C dx a b c d,o≠.ins C dx (dv a b c d)
theorem Zuw (xs:List V):sg (.tup xs):=⟨(by intro _ z;cases z),(by intro _ _ _ _ _ _ z;cases z)⟩
theorem EY (xs:List (Key×V)):sg (.dK xs):=⟨(by intro _ z;cases z),(by intro _ _ _ _ _ _ z;cases z)⟩
theorem Zwa (xs:List (List Key×V)):sg (.dT xs):=⟨(by intro _ z;cases z),(by intro _ _ _ _ _ _ z;cases z)⟩
theorem ZpN {C dx:Addr} {fs:List (Str×V)} (m:Str) {v:V} (h:fs.lookup m=some v) (h1:¬ m="synced") (h2:¬ m="turn") (h3:¬ m="slot") (h4:¬ m="disk"):sg (.ins C dx fs):=by
 refine ⟨(by intro _ z;cases z),fun C' iZ s k t i z=>?_⟩;injection z with _ _ z;rw [z,A7 _ _ _ _ h1 h2 h3 h4] at h
 cases h
section
variable {g:Gs} {H H':Hp} (s:∀ d o,H d=some o->sg o->H' d=some o)
include s
theorem Z1.ls {r:Row} {v:V}:Z1 H r v->Z1 H' r v | ⟨t,e,h⟩=>⟨t,e,s _ _ h (Zuw _)⟩
theorem gk.ls {r:ao} {v:V}:gk H r v->gk H' r v | ⟨t,e,h⟩=>⟨t,e,s _ _ h (EY _)⟩
theorem ZA.ls {S:az} {v:V}:ZA g H S v->ZA g H' S v | ⟨p,dx,da,ea,dk,ek,e,h⟩=>⟨p,dx,da,ea,dk,ek,e,s _ _ h.ob (ZpN "data" (lB _ _) (by decide +kernel) (by decide +kernel) (by decide +kernel) (by decide +kernel)),s _ _ h.hd (EY _),s _ _ h.he (EY _),h.rd.gen (fun _ _ z=>z.ls s),h.re.gen (fun _ _ z=>z.ls s)⟩
theorem gy.ls {k:gp} {v:V}:gy H k v->gy H' k v | ⟨a,kvs,e,h,d⟩=>⟨a,kvs,e,s _ _ h (Zwa _),d.gen (fun _ _ z=>z.ls s)⟩
theorem iP.ls {k:lM} {v:V}:iP g H k v->iP g H' k v | ⟨p,dx,pl,hd,e,h,h1,h2⟩=>⟨p,dx,pl,hd,e,s _ _ h (ZpN "heads" (Ea _ _) (by decide +kernel) (by decide +kernel) (by decide +kernel) (by decide +kernel)),h1.ls s,h2.ls s⟩
end
theorem Zwp:hZ []:=⟨by decide,fun n S h=>by cases h⟩
def ZsM (g:Gs):Sp:=fun vs H Q _=>∃ p b l D,vs=[.ref p]/\dH g H p b l D/\2<=D.blocks.length/\D.log.length<=90000/\∀ q H',aR b l H H'->H q=none->j8 g H' q p kg->dH g H' p b l (D.write 1 (some gY))->Q (.ref q) H'
theorem Zpq:Zp ["disk"] ["disk"] (Zi Zk4):=ZN (by decide +kernel)
theorem ZpI (T:Tx K mg g):ah P w K mg base (aA P w) 8 g.Ft g.G8 ["disk"] (ZsM g):=by
 refine T.G0.aP Zpq (fun vs H Q E h=>?_) (fun aq A outer s H vs Q E hr h=>?_)
 ·obtain ⟨p,b,l,D,rfl,_⟩:=h;rfl
 ·obtain ⟨p,b,l,D,rfl,hD,lY,zp,q⟩:=h;obtain ⟨dx,vb,vl,h⟩:=id hD
  refine ⟨_,(Zd (ZC (ZP (pv 0) T.mf T.Hj (Ik T) hr.dn T.cz .nil Zc (Za Zl (Za (Zy x6 (dz (Za Zl Ze)) (ZJ (v:=.int 64) rfl T.Ib ⟨_,rfl⟩)) Ze))))
   (Zh (Zt (oB T.Zwf (Zod T) hr.dn rfl T.Zx0 T.iF .nil Zc (Za (pv 0) (Za Zl (Za (Zy su (ZJ (v:=.int 256) rfl T.ZuX ⟨_,rfl⟩) Zl) (Za ZrW Ze)))))))),?_⟩
  refine ⟨_,rfl,p,dx,_,rfl,h.ob,EW _ _,aX 1,fun a ha=>?_⟩;have s1:=Zj (o:=.tup [.int 0]) ha;refine ⟨a,64,_,rfl,rfl,Zb,by simp,by decide,by decide,by show 1 * 64<=Ym;decide,fun c H2 s2 hc=>?_⟩;rw [vN] at hc;have sA:=s1.trans s2;dsimp only [bp,Xf];refine Fd (hD.same sA) (blk:=some gY) ⟨c,rfl,by rw [hc];unfold gY;rw [Wy];rfl⟩ (by decide) (by omega) (by omega) fun H3 b3 om=>?_;refine ⟨_,rfl,_,_,rfl,rfl,fun y hy=>fun x iZ hx mI ne=>⟨x,iZ,_,_,_,_,rfl,Zb,fun H5 kp hq=>⟨rfl,?_⟩⟩⟩;have s4:=Zj (o:=.dT []) hy
  have s5:ag (upd H3 y (.dT [])) H5:=fun d o eb=>by
   have h1:d≠x:=Zg eb hx;have h2:d≠iZ:=Zg eb mI;exact kp d o (by rw [Zf h1,Zf h2];exact eb) h1
  have sB:=s4.trans s5
  have hxH:H x=none:=by
   cases z:H x with
   | none=>rfl
   | some o=>
    by_cases zb:x=b
    ·have:=s4 _ _ ((Option.some_get (by rw [show (H3 b).isSome=true by obtain ⟨_,_,_,h3⟩:=om;rw [h3.hb];rfl]:(H3 b).isSome=true)).symm)
     rw [zb] at hx;obtain ⟨_,_,_,h3⟩:=om;rw [s4 _ _ h3.hb] at hx
     cases hx
    ·by_cases zl:x=l
     ·rw [zl] at hx;obtain ⟨_,_,_,h3⟩:=om;rw [s4 _ _ h3.hl] at hx
      cases hx
     ·have:=s4 _ _ (b3 _ _ (sA _ _ z) zb zl)
      rw [hx] at this
      cases this
  refine q x H5 (fun d o e h1 h2=>sB _ _ (b3 _ _ (sA _ _ e) h1 h2)) hxH ⟨iZ,.ref y,hq,y,[],rfl,s5 _ _ Zb,.nil⟩ (om.same sB)
def ZwR (g:Gs):Sp:=fun vs H Q E=>∃ f q p b l F pa kd,vs=[.ref f,.str pa,.str kd]/\cF g H f q p b l F/\gU F.S/\F.S.dat.length<=999/\F.S.ent.length<=999/\pa.length<=1000/\(∀ S,p_ F.S pa kd=.ok S->dI S)/\hZ F.k/\lx F.T.synced/\(match AQ F pa kd with
 | .error r=>∀ H',ag H H'->E (.ref (g.xa r)) none H'
 | .ok F'=>∀ H',fT f H H'->cF g H' f q p b l F'->Q (y6 (yg F.S)) H')
theorem ZhB:Zp ["self","path","kind","number"] ["self","path","kind"] (Zi ZjM):=ZN (by decide +kernel)
theorem Zog (T:Tx K mg g):ah P w K mg base (aA P w) 7 g.Gd g.HA ["self","path","kind"] (ZwR g):=by
 refine T.Zki.aP ZhB (fun vs H Q E h=>?_) (fun aq A outer s H vs Q E hr h=>?_)
 ·obtain ⟨f,q0,p,b,l,F,pa,kd,rfl,_⟩:=h;rfl
 ·obtain ⟨f,q0,p,b,l,F,pa,kd,rfl,cK,sm,pL,wX,hl,lR,kk,po,q⟩:=h;obtain ⟨dx,sv,kv,iv,hF⟩:=id cK
  refine ⟨_,(Zd (ZC (lJ (pv 0) T.Zq T.ZL (ZH T) hr.dn T.ai .nil Zc))
   (Zd (Zz (i:=3) ZhB.nd rfl (Or.inl rfl) (Zn (ZhS T) hr.dn rfl T.ZjY T.B9.kp T.d3 .nil Zc (Za (Zv (pv 0) rfl) Ze)))
   (Zd (ZC (ZP (pv 0) T.Zq T.qA (qB T) hr.dn T.aF .nil Zc (Za (Zn (ZxT T) hr.dn rfl T.Zzh T.Ek.kp T.ur .nil Zc (Za (Zv (pv 0) rfl) (Za (pv 1) (Za (pv 2) Ze)))) (Za (Zv (pv 0) rfl) Ze))))
   (Zh (Zt (pv 3)))))),?_⟩
  refine ⟨_,rfl,f,dx,_,rfl,hF.ob,Z6 _ _ _ _,?_⟩;refine ⟨f,dx,_,_,_,_,rfl,hF.ob,.inr ⟨⟨q0,rfl⟩,?_⟩⟩;refine ⟨_,rfl,f,_,dx,_,_,rfl,hF.ob,T.Zq,T.ZK,jr _ _ _ _,sv,F.S,rfl,hF.st,?_⟩;refine ⟨_,rfl,f,dx,_,rfl,hF.ob,Z6 _ _ _ _,_,rfl,f,_,dx,_,_,rfl,hF.ob,T.Zq,T.ZK,jr _ _ _ _,_,rfl,_,rfl,?_⟩;refine ⟨sv,F.S,pa,kd,rfl,hF.st,sm,pL,wX,hl,?_⟩;unfold AQ at q
  cases hm:p_ F.S pa kd with
  | error r=>
   rw [hm] at q;exact fun H' s'=>q H' s'
  | ok S=>
   rw [hm] at q;dsimp only at q;intro v2 H2 s2 fF;have lZ:=cK.same s2;refine ⟨_,rfl,f,_,dx,_,_,rfl,s2 _ _ hF.ob,T.Zq,T.ZY,ly _ _ _ _,?_⟩;refine ⟨f,q0,p,b,l,F,v2,kv,S,F.k,rfl,lZ,fF,eB.mono _ _ _ _ s2 hF.ke,lR S hm,kk,po,?_⟩
   cases ht:gn F S F.k with
   | error r=>
    rw [ht] at q;exact fun H' s'=>q H' (s2.trans s')
   | ok F'=>
    rw [ht] at q;exact fun H' b1 h'=>⟨_,rfl,q H' (fun d o e hd=>b1 _ _ (s2 _ _ e) hd) h'⟩
def ZqL (g:Gs):Sp:=fun vs H Q E=>∃ p b l D,vs=[.ref p]/\dH g H p b l D/\2<=D.blocks.length/\D.log.length<=30000/\(∀ I,oH kg (D.write 1 (some gY)) h_ []=.ok I->D8 (D.write 1 (some gY)) I)/\(match Bi D with
 | .error r=>∀ H',aR b l H H'->E (.ref (g.xa r)) none H'
 | .ok F=>∀ f q H',aR b l H H'->cF g H' f q p b l F->Q (.ref f) H')
theorem B6:Zp ["disk","state","store","image"] ["disk"] (Zi Zk7):=ZN (by decide +kernel)
theorem ZpJ (T:Tx K mg g):ah P w K mg base (aA P w) 9 g.formatted g.Hi ["disk"] (ZqL g):=by
 refine T.GZ.aP B6 (fun vs H Q E h=>?_) (fun aq A outer s H vs Q E hr h=>?_)
 ·obtain ⟨p,b,l,D,rfl,_⟩:=h;rfl
 ·obtain ⟨p,b,l,D,rfl,hD,lY,zp,hio,q⟩:=h
  refine ⟨_,(Zd (Zz (i:=1) B6.nd rfl (Or.inl rfl) (Zv7 (Zms T) hr.dn rfl T.Zon T.IA.kp T.gH .nil Zc))
   (Zd (Zz (i:=2) B6.nd rfl (Or.inl rfl) (Zn (ZpI T) hr.dn rfl T.Zre T.G0.kp T.jg .nil Zc (Za (pv 0) Ze)))
   (Zd (Zz (i:=3) B6.nd rfl (Or.inl rfl) (ZP (pv 2) T.gq T.Zd9 (Zdo T) hr.dn T.bS .nil Zc (Za (pv 1) (Za oJ Ze))))
   (Zd (ZC (ZP (pv 2) T.gq T.Zp9 (Zoc T) hr.dn T.iE .nil Zc (Za (pv 3) Ze)))
   (Zh (Zt (oB T.Zwh (Zoi T) hr.dn rfl T.ZuL T.iK .nil Zc (Za (pv 1) (Za oJ (Za (pv 2) (Za (pv 3) Ze))))))))))),?_⟩
  refine ⟨rfl,fun sv H1 s1 hS=>?_⟩;obtain ⟨_,vb0,vl0,h0⟩:=id hD;refine ⟨_,rfl,p,b,l,D,rfl,hD.same s1,lY,by omega,fun q0 H2 b2 hq0 hT uV=>?_⟩;have k2:∀ d o,H1 d=some o->sg o->H2 d=some o:=fun d o e n=>b2 _ _ e (fun z=>by subst z;rw [s1 _ _ h0.hb] at e;cases e;exact n.1 _ rfl) (fun z=>by subst z;rw [s1 _ _ h0.hl] at e;cases e;exact n.1 _ rfl);have fF:=hS.ls k2;obtain ⟨et,y,hq,hy⟩:=id hT;refine ⟨_,rfl,q0,et,_,rfl,hq,A7 _ _ _ _,_,rfl,fun ka mZ=>?_⟩;have s3:=Zj (o:=.dK []) mZ;dsimp only [bp,Xf];refine ⟨q0,p,b,l,kg,_,sv,h_,_,[],rfl,hT.same s3,uV.same s3,ZA.mono _ _ _ _ s3 fF,⟨ka,[],rfl,Zb,.nil⟩,Zwu,Zwp,⟨Yv _,(fun p hp=>nomatch hp),Yv _⟩,?_⟩;unfold Bi at q
  cases hm:oH kg (D.write 1 (some gY)) h_ [] with
  | error r=>
   rw [hm] at q;exact fun H' s'=>q H' (fun d o e h1 h2=>s' _ _ (s3 _ _ (b2 _ _ (s1 _ _ e) h1 h2)))
  | ok I=>
   rw [hm] at q;dsimp only at q;intro iv H3 s4 hI;have hT3:=(hT.same s3).same s4;have om:=(uV.same s3).same s4;obtain ⟨l0,y3,uH,hy3⟩:=id hT3;obtain ⟨_,vb3,vl3,h3⟩:=id om;refine ⟨_,rfl,q0,l0,_,rfl,uH,A7 _ _ _ _,_,rfl,?_⟩;dsimp only [bp,Xf];have io:=hio I hm;refine ⟨q0,p,b,l,kg,D.write 1 (some gY),iv,I,rfl,hT3,om,hI,io,.inr rfl,?_,?_,fun H4 k4 hT4 pW=>?_⟩
   ·show 2<=(D.blocks.set _ _).length;rw [Ybv];exact lY
   ·show (D.log++[_]).length<=_;rw [Yf];show D.log.length + 1<=_;omega
   have k4':∀ d o,H3 d=some o->sg o->H4 d=some o:=fun d o e n=>k4 _ _ e (fun z=>by subst z;rw [h3.hb] at e;cases e;exact n.1 _ rfl) (fun z=>by subst z;rw [h3.hl] at e;cases e;exact n.1 _ rfl) (fun z=>by subst z;rw [uH] at e;cases e;exact n.2 _ _ _ _ _ _ rfl);have hS4:ZA g H4 h_ sv:=ZA.ls k4' (ZA.mono _ _ _ _ (s3.trans s4) fF);have DC:=hI.ls k4';refine ⟨_,rfl,fun kb hkb=>?_⟩;have s5:=Zj (o:=.dK []) hkb;refine ⟨_,rfl,_,rfl,fun x iZ hx mI ne=>⟨x,iZ,_,_,_,_,rfl,Zb,fun H6 kp hf=>⟨rfl,?_⟩⟩⟩
   have s6:ag (upd H4 kb (.dK [])) H6:=fun d o eb=>by
    have h1:d≠x:=Zg eb hx;have h2:d≠iZ:=Zg eb mI;exact kp d o (by rw [Zf h1,Zf h2];exact eb) h1
   have sB:=s5.trans s6;refine q x q0 H6 (fun d o e h1 h2=>?_) ⟨iZ,sv,.ref kb,iv,hf,ZA.mono _ _ _ _ sB hS4,⟨kb,[],rfl,s6 _ _ Zb,.nil⟩,hT4.same sB,pW.same sB,iP.mono _ _ _ _ sB DC⟩;have hdq:d≠q0:=Zg (s1 _ _ e) hq0;exact sB _ _ (k4 _ _ (s4 _ _ (s3 _ _ (b2 _ _ (s1 _ _ e) h1 h2))) h1 h2 hdq)
def vV (S:az) (n:Int):Except Rf Unit:=if ZE S n then .ok () else .error .aB
def eQ (S:az) (n:Int):Except Rf Row:=if ZE S n then (match aa S.ent n with
 | some _=>.error .wrongKind
 | none=>.ok ((aa S.dat n).getD [])) else .error .aB
def gW (S:az):List Int:=(S.ent.map fun p=>p.2.map (·.2)).flatten
def kindOf (S:az) (n:Int):Str:=if (aa S.ent n).isSome then "dir" else "file"
def sP (S:az) (n:Int):Int:=if (aa S.ent n).isSome then 1 else ((gW S).count n:Nat)
def sJ (S:az) (n:Int):Int:=match aa S.ent n with
 | some es=>10 * (es.length:Int)
 | none=>(((aa S.dat n).getD []).length:Nat)
def oE (S:az) (n bx:Int) (row:Row):Except Rf az:=match eQ S n with
 | .error r=>.error r
 | .ok d=>if 600 < bx + (row.length:Int) then .error .aM else if row=[] then .ok S else
  .ok ⟨af S.dat n ((fQ d bx).take bx.toNat++row++d.drop (bx + (row.length:Int)).toNat),S.ent⟩
def oK (S:az) (n size:Int):Except Rf az:=match eQ S n with
 | .error r=>.error r
 | .ok d=>if 600 < size then .error .aM else .ok ⟨af S.dat n ((fQ d size).take size.toNat),S.ent⟩
def qj (S:az) (old new:Str):Except Rf az:=if !eW old then .error .aK else if !eW new then .error .aK else
 match fk S (Zw old) [0] with
 | .error r=>.error r
 | .ok ps=>if (aa S.ent (ps.getLastD 0)).isSome then .error .wrongKind else match lL S new with
  | .error r=>.error r
  | .ok d=>if 40<=((aa S.ent d).getD []).length then .error .aM else .ok (Z5 S d (Zm new) (ps.getLastD 0))
theorem Fc {S:az} {p:Str} {d:Int} (h:lL S p=.ok d):p≠"/"/\∃ es,aa S.ent d=some es:=by
 unfold lL at h
 split at h
 ·cases h
 ·rename_i h0
  cases hw:kl S p with
  | error r=>rw [hw] at h;cases h
  | ok ps=>
   rw [hw] at h;dsimp only at h;unfold kl at hw
   cases h2:fk S (Zw p).dropLast [0] with
   | error r=>rw [h2] at hw;cases hw
   | ok qs=>
    rw [h2] at hw;dsimp only at hw
    cases h3:aa S.ent (qs.getLastD 0) with
    | none=>rw [h3] at hw;cases hw
    | some es=>
     rw [h3] at hw
     cases hw
     rw [h3] at h;dsimp only at h
     split at h
     ·cases h
     ·cases h
      exact ⟨h0,es,h3⟩
theorem Zvj (xs:List Int) (n:Int) (h:0<=n):bC (xs.map V.int) none (some n)=(xs.take n.toNat).map V.int:=by
 rw [show n=((n.toNat:Nat):Int) by omega,Zqo];rfl
theorem Zvl (xs:List Int) (n:Int) (h:0<=n):bC (xs.map V.int) (some n) none=(xs.drop n.toNat).map V.int:=by
 rw [show n=((n.toNat:Nat):Int) by omega];generalize n.toNat=m;unfold bC;rw [HT.fY,HT.cu,<- List.map_drop,<- Yap,Yb]
 congr 1
 rw [Xc];rcases Yaf m xs.length with h | h
 ·rw [WD h];exact YS (by rw [YU];exact Ye _)
 ·rw [X2 h,Yab h,Wq,Nat.sub_self];rfl
theorem Zvm (xs:List Int) (a b:Int) (h0:0<=a) (h1:0<=b):bC (xs.map V.int) (some a) (some (a + b))=((xs.drop a.toNat).take b.toNat).map V.int:=by
 rw [show a + b=((a.toNat + b.toNat:Nat):Int) by omega,show a=((a.toNat:Nat):Int) by omega];rw [Xc];generalize a.toNat=m;generalize b.toNat=k;unfold bC;rw [HT.cu,HT.cu,<- List.map_drop,<- Yap,Yb]
 congr 1
 rcases Yaf m xs.length with h | h
 ·rw [WD h];rcases Yaf (m + k) xs.length with h2 | h2
  ·rw [WD h2,Nat.add_sub_cancel_left]
  ·rw [X2 h2,YS (by rw [YU];omega),YS (by rw [YU];omega)]
 ·rw [X2 h,X2 (by omega),Wq,Yab h,Ya5,Ya5]
theorem Zvn (xs:List Int) (n:Int):((xs.map V.int).countP fun z=>iY z (.int n))=xs.count n:=by
 rw [List.countP_map,List.count]
 congr 1
def Zpi (g:Gs):Sp:=fun vs H Q E=>∃ v S n,vs=[v,.int n]/\ZA g H S v/\dQ g lu H (vV S n) Q E
theorem Zmj:Zp ["state","number"] ["state","number"] (Zi ZhE):=ZN (by decide +kernel)
theorem Jf (T:Tx K mg g):ah P w K mg base (aA P w) 2 g.Hf g.IK ["state","number"] (Zpi g):=by
 refine T.yx.aP Zmj (fun vs H Q E h=>?_) (fun aq A outer s H vs Q E hr h=>?_)
 ·obtain ⟨v,S,n,rfl,_⟩:=h;rfl
 ·obtain ⟨v,S,n,rfl,hS,q⟩:=h;refine ⟨_,(Zh (Z0 (nz (md (Zn (Zlo T) hr.dn rfl T.Znf T.BK.kp T.f6 .nil Zc (Za (pv 0) (Za (pv 1) Ze))))) (Zh (Z2 T.F1 rfl T.BJ (Za Zr Ze))) Zx)),?_⟩;refine ⟨_,rfl,_,rfl,v,S,n,rfl,hS,_,rfl,?_⟩
  cases hb:ZE S n with
  | true=>exact aw (q.ok (x:=()) (by unfold vV;rw [hb];rfl) _ _ (ag.refl _) rfl)
  | false=>exact ay ⟨aX 1,q.no (r:=.aB) (by unfold vV;rw [hb];rfl) _ (ag.refl _)⟩
def ZvT (g:Gs):Sp:=fun vs H Q E=>∃ v S n,vs=[v,.int n]/\ZA g H S v/\dQ g Z1 H (eQ S n) Q E
theorem ZsZ:Zp ["state","number"] ["state","number"] (Zi Zpz):=ZN (by decide +kernel)
theorem GI (T:Tx K mg g):ah P w K mg base (aA P w) 3 g.EC g.FA ["state","number"] (ZvT g):=by
 refine T.yj.aP ZsZ (fun vs H Q E h=>?_) (fun aq A outer s H vs Q E hr h=>?_)
 ·obtain ⟨v,S,n,rfl,_⟩:=h;rfl
 ·obtain ⟨v,S,n,rfl,j4,q⟩:=h;have hu:=u1 hr.units
  refine ⟨_,(Zd (ZC (Zn (Jf T) hr.dn rfl T.Ie T.yx.kp T.bW .nil Zc (Za (pv 0) (Za (pv 1) Ze))))
   (Zd (Z0 (h9 (lD hu (pv 1) (Zv (pv 0) rfl))) (Zh (Z2 T.sY rfl T.qF (Za Zr Ze))) Zx)
   (Zh (Zt (jv hu (Zv (pv 0) rfl) (pv 1) (fun _ _=>rfl)))))),?_⟩
  refine ⟨_,rfl,_,rfl,v,S,n,rfl,j4,?_⟩;unfold vV;unfold eQ at q
  cases hb:ZE S n with
  | false=>
   rw [hb] at q;exact fun H' s'=>q H' s'
  | true=>
   rw [hb,if_pos rfl] at q;intro v1 H1 s1 _;obtain ⟨p,dx,da,ea,dk,ek,rfl,hS⟩:=ZA.mono _ _ _ _ s1 j4;refine ⟨_,rfl,_,rfl,p,_,dx,_,_,rfl,hS.ob,T.ZW,T.Zu,gm _ _,ea,_,rfl,aJ.k hS.he (k:=.inl n),_,rfl,?_⟩;rw [hS.re.some ee]
   cases hg:aa S.ent n with
   | some es=>
    rw [hg] at q;exact ay ⟨aX 1,q _ s1⟩
   | none=>
    rw [hg] at q
    have hd:∃ row,aa S.dat n=some row:=by
     unfold ZE at hb;rw [hg,X4,Xs] at hb;exact Option.isSome_iff_exists.mp hb
    obtain ⟨row,hd⟩:=hd;rw [hd] at q;obtain ⟨vr,gu,gE⟩:=hS.rd.yes ee hd;refine aw ⟨_,rfl,p,_,dx,_,_,rfl,hS.ob,T.ZW,T.mm,lB _ _,_,rfl,da,vr,rfl,(by have:=aJ.k hS.hd (k:=.inl n);rw [gu] at this;exact this),?_⟩;exact q _ _ s1 gE
def ZvN (g:Gs):Sp:=fun vs H Q _=>∃ v S n,vs=[v,.int n]/\ZA g H S v/\Q (.str (kindOf S n)) H
theorem ZsW:Zp ["state","number"] ["state","number"] (Zi Zpy):=ZN (by decide +kernel)
theorem GJ (T:Tx K mg g):ah P w K mg base (aA P w) 1 g.EH g.FJ ["state","number"] (ZvN g):=by
 refine T.yh.aP ZsW (fun vs H Q E h=>?_) (fun aq A outer s H vs Q E hr h=>?_)
 ·obtain ⟨v,S,n,rfl,_⟩:=h;rfl
 ·obtain ⟨v,S,n,rfl,⟨p,dx,da,ea,dk,ek,rfl,hS⟩,q⟩:=h;have hu:=u1 hr.units;refine ⟨_,(Zh (Zt (ZrT (h9 (lD hu (pv 1) (Zv (pv 0) rfl))) Zr Zr))),?_⟩;refine ⟨_,rfl,_,rfl,p,_,dx,_,_,rfl,hS.ob,T.ZW,T.Zu,gm _ _,ea,_,rfl,aJ.k hS.he (k:=.inl n),_,rfl,?_⟩;rw [hS.re.some ee];unfold kindOf at q
  cases hd:(aa S.ent n).isSome with
  | true=>rw [hd] at q;exact ay q
  | false=>rw [hd] at q;exact aw q
def ZvK (g:Gs):Sp:=fun vs H Q _=>∃ v S n,vs=[v,.int n]/\ZA g H S v/\ZE S n=true/\Q (.int (sJ S n)) H
theorem ZsV:Zp ["state","number"] ["state","number"] (Zi Zpv):=ZN (by decide +kernel)
theorem Zs9 (T:Tx K mg g):ah P w K mg base (aA P w) 1 g.EJ g.FV ["state","number"] (ZvK g):=by
 refine T.FP.aP ZsV (fun vs H Q E h=>?_) (fun aq A outer s H vs Q E hr h=>?_)
 ·obtain ⟨v,S,n,rfl,_⟩:=h;rfl
 ·obtain ⟨v,S,n,rfl,⟨p,dx,da,ea,dk,ek,rfl,hS⟩,hb,q⟩:=h;have hu:=u1 hr.units
  refine ⟨_,(Zd (Z0 (h9 (lD hu (pv 1) (Zv (pv 0) rfl))) (Zh (Zt (Zy lC (ZJ (v:=.int 10) rfl T.Zqf ⟨_,rfl⟩) (ZD FT (by rfl) T.eu YC (Za (jv hu (Zv (pv 0) rfl) (pv 1) (fun _ _=>rfl)) Ze))))) Zx)
   (Zh (Zt (ZD ZI (by rfl) T.eu YC (Za (jv hu (Zv (pv 0) rfl) (pv 1) (fun _ _=>rfl)) Ze))))),?_⟩
  refine ⟨_,rfl,_,rfl,p,_,dx,_,_,rfl,hS.ob,T.ZW,T.Zu,gm _ _,ea,_,rfl,aJ.k hS.he (k:=.inl n),_,rfl,?_⟩;rw [hS.re.some ee];unfold sJ at q
  cases hg:aa S.ent n with
  | some es=>
   rw [hg] at q;obtain ⟨ve,gu,⟨ae,rfl,gQ⟩⟩:=hS.re.yes ee hg;refine ay ⟨_,rfl,p,_,dx,_,_,rfl,hS.ob,T.ZW,T.Zu,gm _ _,_,rfl,ea,_,rfl,(by have:=aJ.k hS.he (k:=.inl n);rw [gu] at this;exact this),ae,_,rfl,gQ,_,_,rfl,rfl,.inl ⟨by decide,by decide⟩,?_⟩;rw [ED];exact q
  | none=>
   rw [hg] at q
   have hd:∃ row,aa S.dat n=some row:=by
    unfold ZE at hb;rw [hg,X4,Xs] at hb;exact Option.isSome_iff_exists.mp hb
   obtain ⟨row,hd⟩:=hd;rw [hd] at q;obtain ⟨vr,gu,⟨t,rfl,ht⟩⟩:=hS.rd.yes ee hd;refine aw ⟨_,rfl,p,_,dx,_,_,rfl,hS.ob,T.ZW,T.mm,lB _ _,_,rfl,da,_,rfl,(by have:=aJ.k hS.hd (k:=.inl n);rw [gu] at this;exact this),t,_,rfl,.inr (aG.of ht),?_⟩;rw [Yb];exact q
theorem Ztd (S:az) {i:Nat} {p:Int×ao} (h:S.ent[i]?=some p):((S.ent.take (i + 1)).map fun p=>p.2.map (·.2)).flatten=((S.ent.take i).map fun p=>p.2.map (·.2)).flatten++p.2.map (·.2):=by
 have hi:i < S.ent.length:=(List.getElem?_eq_some_iff.mp h).1;rw [Xb hi,Yw,XU];rw [(List.getElem?_eq_some_iff.mp h).2]
 simp
def Zxv (g:Gs):Sp:=fun vs H Q _=>∃ v S,vs=[v]/\ZA g H S v/\(gW S).length<=100000/\∀ l H',ag H H'->H' l=some (.lst ((gW S).map V.int))->Q (.ref l) H'
theorem Zvg {H:Hp} {xs:List (Int×ao)} {kvs:List (Key×V)} (h:Z8 X8 gk H xs kvs) {i:Nat} {v:V} (hv:(kvs.map (·.2))[i]?=some v):∃ p,xs[i]?=some p/\gk H p.2 v:=by
 unfold Z8 at h
 induction h generalizing i with
 | nil=>simp at hv
 | @cons p q _ _ a t ih=>
  cases i with
  | zero=>simp at hv;subst hv;exact ⟨q,rfl,a.2⟩
  | succ i=>obtain ⟨p',h1,h2⟩:=ih (i:=i) (by simpa using hv);exact ⟨p',by simpa using h1,h2⟩
theorem Zsi (es:ao):(er es).map (fun q=>q.2)=(es.map (·.2)).map V.int:=by
 unfold er;rw [XJ,XJ];rfl
theorem Jo:Zp ["state","found","entries"] ["state"] (Zi Zfe):=ZN (by decide +kernel)
theorem Ze0 (T:Tx K mg g):ah P w K mg base (aA P w) 1 g.Ij g.Jq ["state"] (Zxv g):=by
 refine T.Cf.aP Jo (fun vs H Q E h=>?_) (fun aq A outer s H vs Q E hr h=>?_)
 ·obtain ⟨v,S,rfl,_⟩:=h;rfl
 ·obtain ⟨v,S,rfl,⟨p,dx,da,ea,dk,ek,rfl,hS⟩,dg,q⟩:=h;have hu:=u1 hr.units
  refine ⟨_,(Zd (Zz (i:=1) Jo.nd rfl (Or.inl rfl) (fq Ze))
   (Zd (EN (i3 Y2 rfl (Zuk (vq YW YaZ YaY GC (Zv (pv 0) rfl))) (Z9 (i:=2) Jo.nd rfl (Or.inl rfl)) (Zh (ZC (j9 YR PySem.F.slot_list_extend PySem.F.type_list_extend ZuB (pv 1) (Za (ZT Ztt rfl T.nu PyProof.Rows.Boot.«list» (Za (vq YW YaZ YaY GC (pv 2)) Ze)) Ze))))))
   (Zh (Zt (pv 1))))),?_⟩
  refine ⟨Yv _,fun D hD=>?_⟩;have ha:=hS.he;have pJ:ea≠D:=Zg ha hD;have wL:p≠D:=Zg hS.ob hD;refine ⟨ea,.dK ek,(by rw [Zf pJ];exact ha),rfl,?_⟩;refine ⟨_,rfl,p,_,dx,_,_,rfl,(by rw [Zf wL];exact hS.ob),T.ZW,T.Zu,gm _ _,?_⟩;refine ⟨.inr (.inr (.inl ⟨rfl,.inl ⟨ek,(by rw [Zf pJ];exact ha)⟩⟩)),ea,.dK ek,rfl,rfl,.inl (by rw [Zf pJ];exact ha),rfl,fun r ei=>?_⟩;have CY:ea≠r:=Zg (H:=upd H D (.lst [])) (by rw [Zf pJ];exact ha) ei;have nDr:D≠r:=Zg (H:=upd H D (.lst [])) Zb ei;have Df:H r=none:=by rw [Zf nDr.symm] at ei;exact ei
  refine ⟨r,ea,.dK ek,rfl,Zb,(by rw [Zf CY,Zf pJ];exact ha),rfl,fun ob=>?_⟩
  refine Zsg (d:=ea) (ob:=ob) (u:=.dK ek) (fun i σ H'=>(∃ o2,σ=[some (.ref p),some (.ref D),o2])/\H' ea=some (.bt ob (.dK ek))/\H' D=some (.lst ((((S.ent.take i).map fun p=>p.2.map (·.2)).flatten).map V.int))/\∀ b o,H b=some o->b≠ea->H' b=some o)
   ⟨⟨none,rfl⟩,Zb,(by rw [Zf pJ.symm,Zf nDr];exact Zb),fun b o e hb=>by rw [Zf hb,Zf (Zg e Df),Zf (Zg e hD)];exact e⟩ (fun i σ H' _ h=>h.2.1) (fun i x σ H' hx h=>?_) (fun σ H' h=>?_)
  ·obtain ⟨⟨o2,rfl⟩,g9,uT,kp⟩:=h;obtain ⟨pe,hp,ae,rfl,gQ⟩:=Zvg hS.re hx
   have nae:ae≠ea:=fun z=>by
    subst z;have e:=YB (ha.symm.trans gQ);injection e with e;have wZ:(ek.map (·.2))[i]?=some (.ref ae):=hx;rw [Yo] at wZ
    cases hk:ek[i]? with
    | none=>rw [hk] at wZ;cases wZ
    | some kv=>
     obtain ⟨y,_,e1,_⟩:=BF hS.re hk;rw [e] at hk;unfold er at hk;rw [Yo] at hk
     cases hq:pe.2[i]? with
     | none=>rw [hq] at hk;cases hk
     | some u=>
      rw [hq] at hk;rw [<- YB hk] at e1
      cases e1
   have t9:=kp _ _ gQ nae
   have bq:(((S.ent.take (i + 1)).map fun p=>p.2.map (·.2)).flatten).length<=100000:=by
    have e1:gW S=((S.ent.take (i + 1)).map fun p=>p.2.map (·.2)).flatten++((S.ent.drop (i + 1)).map fun p=>p.2.map (·.2)).flatten:=by
     unfold gW;rw [<- XU,<- Yw,YbC]
    rw [e1,Yf] at dg;omega
   rw [Ztd S hp] at bq ⊢;generalize ((S.ent.take i).map fun p=>p.2.map (·.2)).flatten=F at uT bq;rw [Yf] at bq;refine ⟨_,rfl,.inl ⟨rfl,_,ar.of uT⟩,_,rfl,.inr (.inr (.inl ⟨rfl,.inl ⟨_,t9⟩⟩)),ae,.dK _,rfl,rfl,.inl t9,rfl,fun r2 Dg=>?_⟩;have s2:=Zj (o:=xR r2 ae) Dg;refine ⟨r2,ae,_,rfl,Zb,.inl (s2 _ _ t9),fun l2 cJ=>?_⟩;have s3:=Zj (o:=.lst ((er pe.2).map fun q=>q.2)) cJ;refine ⟨D,l2,_,_,rfl,rfl,s3 _ _ (s2 _ _ uT),Zb,?_,?_⟩
   ·rw [Zsi,Yb,Yb];exact Zs bq (by decide)
   ·have sA:=s2.trans s3;have nlD:ea≠D:=pJ;refine ⟨⟨_,rfl⟩,(by rw [Zf nlD];exact sA _ _ g9),?_,fun b o e hb=>?_⟩
    ·rw [Zsi,Yw];exact Zb
    ·rw [Zf (Zg e hD)];exact sA _ _ (kp _ _ e hb)
  ·obtain ⟨⟨o2,rfl⟩,g9,uT,kp⟩:=h;have m9:(gA (.dK ek)).length=S.ent.length:=by show (ek.map (·.2)).length=_;rw [Yb,hS.re.len]
   rw [m9,XE] at uT;refine ⟨ob,.dK ek,g9,rfl,?_⟩
   have sm:ag H (upd H' ea (.dK ek)):=fun b o e=>by
    by_cases z:b=ea
    ·subst z;rw [Zb,<- e,ha]
    ·rw [Zf z];exact kp _ _ e z
   exact ⟨_,rfl,q _ _ sm (by rw [Zf pJ.symm];exact uT)⟩
def ZtZ (g:Gs):Sp:=fun vs H Q _=>∃ v S n,vs=[v,.int n]/\ZA g H S v/\(gW S).length<=100000/\∀ H',ag H H'->Q (.int (sP S n)) H'
theorem ZqW:Zp ["state","number"] ["state","number"] (Zi ZmX):=ZN (by decide +kernel)
theorem Zq5 (T:Tx K mg g):ah P w K mg base (aA P w) 2 g.EV g.GA ["state","number"] (ZtZ g):=by
 refine T.F9.aP ZqW (fun vs H Q E h=>?_) (fun aq A outer s H vs Q E hr h=>?_)
 ·obtain ⟨v,S,n,rfl,_⟩:=h;rfl
 ·obtain ⟨v,S,n,rfl,j4,hl,q⟩:=h;obtain ⟨p,dx,da,ea,dk,ek,rfl,hS⟩:=id j4;have hu:=u1 hr.units
  refine ⟨_,(Zd (Z0 (h9 (lD hu (pv 1) (Zv (pv 0) rfl))) (Zh (Zt Zl)) Zx)
   (Zh (Zt (j9 YR PySem.F.slot_list_count PySem.F.type_list_count Zr2 (Zn (Ze0 T) hr.dn rfl T.Zfr T.Cf.kp T.cD .nil Zc (Za (pv 0) Ze)) (Za (pv 1) Ze))))),?_⟩
  refine ⟨_,rfl,_,rfl,p,_,dx,_,_,rfl,hS.ob,T.ZW,T.Zu,gm _ _,ea,_,rfl,aJ.k hS.he (k:=.inl n),_,rfl,?_⟩;rw [hS.re.some ee];unfold sP at q
  cases hd:(aa S.ent n).isSome with
  | true=>rw [hd] at q;exact ay (q _ (ag.refl _))
  | false=>
   rw [hd] at q;refine aw ⟨_,rfl,_,S,rfl,j4,hl,fun l H1 s1 d_=>?_⟩;refine ⟨.inl ⟨rfl,_,ar.of d_⟩,_,rfl,l,_,_,rfl,rfl,ar.of d_,rfl,?_,?_⟩
   ·rw [List.all_map];exact List.all_eq_true.mpr fun _ _=>rfl
   ·rw [Zvn];exact q _ s1
theorem ZnM:Zp ["row","size"] ["row","size"] (Zi Zjw):=ZN (by decide +kernel)
theorem ZhR (T:Tx K mg g):ah P w K mg base (aA P w) 1 g.dD g.Hm ["row","size"] ZrH:=by
 refine T.BX.aP ZnM (fun vs H Q E h=>?_) (fun aq A outer s H vs Q E hr h=>?_)
 ·obtain ⟨row,v,n,rfl,_⟩:=h;rfl
 ·obtain ⟨row,v,n,rfl,⟨t,rfl,ht⟩,hl,rM,Av,q⟩:=h;refine ⟨_,(Zh (Zt (Zy ju (pv 0) (Zy x6 (dz (Za Zl Ze)) (Zy su (pv 1) (ZD ZI (by rfl) T.eu YC (Za (pv 0) Ze))))))),?_⟩;refine ⟨_,rfl,aX 1,fun b hb=>?_⟩;have s2:=Zj (o:=.tup [.int 0]) hb;refine ⟨_,rfl,_,rfl,t,_,rfl,.inr (aG.of (s2 _ _ ht)),_,_,rfl,rfl,b,_,_,rfl,rfl,Zb,by simp,?_,?_,?_,fun c H2 s3 hc=>?_⟩
  ·rw [Yb];omega
  ·rw [Yb];omega
  ·rw [Yb];show 1 * _<=_;exact Zs (m:=20000) (by omega) (by decide)
  rw [vN,Yb] at hc;have dO:=s3 _ _ (s2 _ _ ht);refine ⟨t,c,_,_,rfl,rfl,aG.of dO,aG.of hc,fun _=>hc,fun _ _=>dO,?_,fun d H3 s4 hd=>?_⟩
  ·rw [Yb,YM];exact Zs (m:=40000) (by omega) (by decide)
  refine q _ H3 (s2.trans (s3.trans s4)) ⟨d,rfl,?_⟩;rw [hd];unfold fQ;rw [Yw,Wy]
theorem E8 {S:az} (so:dI S) {n:Int} {d:Row} (h:eQ S n=.ok d):d.length<=1000:=by
 unfold eQ at h
 split at h
 ·split at h
  ·cases h
  ·cases h
   cases hd:aa S.dat n with
   | none=>exact Yv _
   | some r=>exact so.row n r hd
 ·cases h
def ZtS (g:Gs):Sp:=fun vs H Q E=>∃ v S n bx l row,vs=[v,.int n,.int bx,.ref l]/\ZA g H S v/\dI S/\0<=bx/\H l=some (.lst (row.map V.int))/\row.length<=1000/\dQ g (ZA g) H (oE S n bx row) Q E
theorem BN:Zp ["state","number","start","row","data","end","ahead"] ["state","number","start","row"] (Zi Zpu):=ZN (by decide +kernel)
theorem Zs8 (T:Tx K mg g):ah P w K mg base (aA P w) 4 g.written g.FY ["state","number","start","row"] (ZtS g):=by
 refine T.FQ.aP BN (fun vs H Q E h=>?_) (fun aq A outer s H vs Q E hr h=>?_)
 ·obtain ⟨v,S,n,bx,l,row,rfl,_⟩:=h;rfl
 ·obtain ⟨v,S,n,bx,l,row,rfl,hS,so,cN,hl,xb,q⟩:=h
  refine ⟨_,(Zd (Zz (i:=4) BN.nd rfl (Or.inl rfl) (Zn (GI T) hr.dn rfl T.FL T.yj.kp T.eG .nil Zc (Za (pv 0) (Za (pv 1) Ze))))
   (Zd (Zz (i:=5) BN.nd rfl (Or.inl rfl) (Zy jt (pv 2) (ZD ZI (by rfl) T.eu YC (Za (pv 3) Ze))))
   (Zd (Z0 (ZG sq (pv 5) (ZJ (v:=.int 600) rfl T.Zj6 ⟨_,rfl⟩) (ZO _)) (Zh (Z2 T.vY rfl T.tj (Za Zr Ze))) Zx)
   (Zd (Z0 (ZG fm (ZD ZI (by rfl) T.eu YC (Za (pv 3) Ze)) Zl (ZO _)) (Zh (Zt (pv 0))) Zx)
   (Zd (Zz (i:=6) BN.nd rfl (Or.inl rfl) (nF vB (Zn (ZhR T) hr.dn rfl T.ZjX T.BX.kp T.d0 .nil Zc (Za (pv 4) (Za (pv 2) Ze))) ql (lI (pv 2))))
   (Zh (Zt (Zn (Hr T) hr.dn rfl T.G7 T.yl.kp T.cQ .nil Zc (Za (pv 0) (Za (pv 1) (Za (Zy ju (Zy ju (pv 6) (ZT IH rfl T.EL PyProof.Rows.Boot.«tuple» (Za (pv 3) Ze))) (nF vB (pv 4) (lI (pv 5)) ql)) Ze))))))))))),?_⟩
  refine ⟨_,rfl,_,rfl,v,S,n,rfl,hS,?_⟩;unfold oE at q
  cases hd:eQ S n with
  | error r=>
   rw [hd] at q;exact fun H' s'=>q H' s'
  | ok d=>
   rw [hd] at q;dsimp only at q;intro u H1 s1 pM;have m9:=E8 so hd;have d_:=s1 _ _ hl;refine ⟨_,rfl,_,rfl,l,_,rfl,.inl (ar.of d_),_,_,rfl,rfl,?_⟩;rw [Yb];refine ⟨_,rfl,_,_,rfl,rfl,_,rfl,?_⟩
   by_cases h6:600 < bx + (row.length:Int)
   ·rw [if_pos h6] at q;rw [decide_eq_true h6];exact ay ⟨aX 1,q _ s1⟩
   rw [if_neg h6] at q;rw [decide_eq_false h6];refine aw ⟨_,rfl,l,_,rfl,.inl (ar.of d_),rfl,_,rfl,?_⟩;rw [Yb]
   by_cases h0:row=[]
   ·rw [if_pos h0] at q;rw [decide_eq_true (show V.int (row.length:Int)=V.int 0 by rw [h0];rfl)];exact ay ⟨_,rfl,q _ _ s1 (ZA.mono _ _ _ _ s1 hS)⟩
   rw [if_neg h0] at q
   rw [decide_eq_false (show ¬ V.int (row.length:Int)=V.int 0 by
    intro z;injection z with z;exact h0 (List.length_eq_zero_iff.mp (by omega)))]
   refine aw ?_;refine ⟨_,rfl,_,rfl,d,u,bx,rfl,pM,by omega,by omega,by omega,fun u2 H2 s2 rC=>?_⟩;obtain ⟨t2,rfl,dO⟩:=rC;refine ⟨_,rfl,_,rfl,t2,_,rfl,dO,fun t3 H3 s3 iL=>?_⟩;rw [Zvj _ _ cN] at iL;have dw:=s2.trans s3;have gw:=dw _ _ d_;refine ⟨_,rfl,_,rfl,_,rfl,_,rfl,l,_,rfl,.inl ⟨ar.of gw,fun t4 hn4=>?_⟩⟩;have s4:=Zj (o:=.tup (row.map V.int)) hn4;have f4:=Zb (H:=H3) (a:=t4) (o:=.tup (row.map V.int));have zh:=s4 _ _ iL;refine ⟨t3,t4,_,_,rfl,rfl,aG.of zh,aG.of f4,fun _=>f4,fun _ _=>zh,?_,fun t5 H5 s5 w9=>?_⟩
   ·rw [Yb,Yb,Y0];exact Zs (m:=20000) (by omega) (by decide)
   obtain ⟨tu,rfl,w6⟩:=Z1.mono _ _ _ _ ((dw.trans s4).trans s5) pM;refine ⟨_,rfl,_,rfl,_,rfl,tu,_,rfl,w6,fun t6 H6 s6 Dc=>?_⟩;rw [Zvl _ _ (by omega)] at Dc;have zg:=s6 _ _ w9;refine ⟨t5,t6,_,_,rfl,rfl,aG.of zg,aG.of Dc,fun _=>Dc,fun _ _=>zg,?_,fun t7 H7 s7 ht7=>?_⟩
   ·rw [Yf,Yb,Yb,Yb,Y0,YU];exact Zs (m:=20000) (by omega) (by decide)
   have sA:=(((dw.trans s4).trans s5).trans s6).trans s7;refine ⟨v,S,n,(fQ d bx).take bx.toNat++row++d.drop (bx + (row.length:Int)).toNat,_,rfl,ZA.mono _ _ _ _ (s1.trans sA) hS,⟨t7,rfl,?_⟩,(by have:=so.n;omega),fun v' H' s' h'=>q _ _ ((s1.trans sA).trans s') h'⟩;rw [ht7,Yw,Yw]
def ZtW (g:Gs):Sp:=fun vs H Q E=>∃ v S n size,vs=[v,.int n,.int size]/\ZA g H S v/\dI S/\0<=size/\dQ g (ZA g) H (oK S n size) Q E
theorem ZmU:Zp ["state","number","size","data"] ["state","number","size"] (Zi Zpw):=ZN (by decide +kernel)
theorem Zta (T:Tx K mg g):ah P w K mg base (aA P w) 4 g.iw g.Fz ["state","number","size"] (ZtW g):=by
 refine T.FO.aP ZmU (fun vs H Q E h=>?_) (fun aq A outer s H vs Q E hr h=>?_)
 ·obtain ⟨v,S,n,size,rfl,_⟩:=h;rfl
 ·obtain ⟨v,S,n,size,rfl,hS,so,cN,q⟩:=h
  refine ⟨_,(Zd (Zz (i:=3) ZmU.nd rfl (Or.inl rfl) (Zn (GI T) hr.dn rfl T.FL T.yj.kp T.eG .nil Zc (Za (pv 0) (Za (pv 1) Ze))))
   (Zd (Z0 (ZG sq (pv 2) (ZJ (v:=.int 600) rfl T.Zj6 ⟨_,rfl⟩) (ZO _)) (Zh (Z2 T.vY rfl T.tj (Za Zr Ze))) Zx)
   (Zh (Zt (Zn (Hr T) hr.dn rfl T.G7 T.yl.kp T.cQ .nil Zc (Za (pv 0) (Za (pv 1) (Za (nF vB (Zn (ZhR T) hr.dn rfl T.ZjX T.BX.kp T.d0 .nil Zc (Za (pv 3) (Za (pv 2) Ze))) ql (lI (pv 2))) Ze)))))))),?_⟩
  refine ⟨_,rfl,_,rfl,v,S,n,rfl,hS,?_⟩;unfold oK at q
  cases hd:eQ S n with
  | error r=>
   rw [hd] at q;exact fun H' s'=>q H' s'
  | ok d=>
   rw [hd] at q;dsimp only at q;intro u H1 s1 pM;have m9:=E8 so hd;refine ⟨_,rfl,_,_,rfl,rfl,_,rfl,?_⟩
   by_cases h6:600 < size
   ·rw [if_pos h6] at q;rw [decide_eq_true h6];exact ay ⟨aX 1,q _ s1⟩
   rw [if_neg h6] at q;rw [decide_eq_false h6];refine aw ⟨_,rfl,_,rfl,_,rfl,_,rfl,d,u,size,rfl,pM,by omega,by omega,by omega,fun u2 H2 s2 rC=>?_⟩;obtain ⟨t2,rfl,dO⟩:=rC;refine ⟨_,rfl,_,rfl,t2,_,rfl,dO,fun t3 H3 s3 iL=>?_⟩;rw [Zvj _ _ cN] at iL;have sA:=(s1.trans s2).trans s3;exact ⟨v,S,n,(fQ d size).take size.toNat,_,rfl,ZA.mono _ _ _ _ sA hS,⟨t3,rfl,iL⟩,(by have:=so.n;omega),fun v' H' s' h'=>q _ _ (sA.trans s') h'⟩
def ZvL (g:Gs):Sp:=fun vs H Q E=>∃ v S old new,vs=[v,.str old,.str new]/\ZA g H S v/\gU S/\old.length<=1000/\new.length<=1000/\dQ g (ZA g) H (qj S old new) Q E
theorem FU:Zp ["state","old","new","number","directory"] ["state","old","new"] (Zi ZrL):=ZN (by decide +kernel)
theorem Zur (T:Tx K mg g):ah P w K mg base (aA P w) 5 g.jT g.EU ["state","old","new"] (ZvL g):=by
 refine T.EZ.aP FU (fun vs H Q E h=>?_) (fun aq A outer s H vs Q E hr h=>?_)
 ·obtain ⟨v,S,old,new,rfl,_⟩:=h;rfl
 ·obtain ⟨v,S,old,new,rfl,hS,sm,kF,lU,q⟩:=h;have hu:=u1 hr.units
  refine ⟨_,(Zd (ZC (Zn (wd T) hr.dn rfl T.vZ T.qC.kp T.a8 .nil Zc (Za (pv 1) Ze)))
   (Zd (ZC (Zn (wd T) hr.dn rfl T.vZ T.qC.kp T.a8 .nil Zc (Za (pv 2) Ze)))
   (Zd (Zz (i:=3) FU.nd rfl (Or.inl rfl) (bw ZU (Zn (Bo T) hr.dn rfl T.Bb T.vi.kp T.ip .nil Zc (Za (pv 0) (Za (Zn (mn T) hr.dn rfl T.ml T.Z7.kp T.aE .nil Zc (Za (pv 1) Ze)) Ze))) (fH fK Zl) (fun _ _=>rfl)))
   (Zd (Z0 (h9 (lD hu (pv 3) (Zv (pv 0) rfl))) (Zh (Z2 T.sY rfl T.qF (Za Zr Ze))) Zx)
   (Zd (Zz (i:=4) FU.nd rfl (Or.inl rfl) (Zn (ZhT T) hr.dn rfl T.ZjZ T.B8.kp T.d6 .nil Zc (Za (pv 0) (Za (pv 2) Ze))))
   (Zd (ZC (Zn (JB T) hr.dn rfl T.Jl T.yF.kp T.br .nil Zc (Za (pv 0) (Za (pv 4) Ze))))
   (Zh (Zt (Zn (Il T) hr.dn rfl T.Ho T.yn.kp T.cy .nil Zc (Za (pv 0) (Za (pv 4) (Za (bw ZU (Zn (mn T) hr.dn rfl T.ml T.Z7.kp T.aE .nil Zc (Za (pv 2) Ze)) (fH fK Zl) (fun _ _=>rfl)) (Za (pv 3) Ze))))))))))))),?_⟩
  refine ⟨_,rfl,old,rfl,kF,?_⟩;unfold qj at q;unfold mr
  cases hb:eW old with
  | false=>
   rw [hb] at q;exact fun H' s'=>q H' s'
  | true=>
   rw [hb,if_neg (by decide)] at q;intro v1 H1 s1 _;refine ⟨_,rfl,new,rfl,lU,?_⟩;show dQ g lu H1 (mr new) _ _;unfold mr
   cases lY:eW new with
   | false=>
    rw [lY] at q;exact fun H' s'=>q H' (s1.trans s')
   | true=>
    rw [lY,if_neg (by decide)] at q;intro v2 H2 s2 _;have sB:=s1.trans s2;refine ⟨_,rfl,_,rfl,old,rfl,kF,fun l H3 s3 hn gw=>?_⟩;have sC:=sB.trans s3;refine ⟨v,S,l,Zw old,rfl,ZA.mono _ _ _ _ sC hS,gw,?_,fun n hn=>?_,?_⟩
    ·have:=yA old;omega
    ·have:=yB old n hn;omega
    cases hw:fk S (Zw old) [0] with
    | error r=>
     rw [hw] at q;exact fun H' s'=>q H' (sC.trans s')
    | ok ps=>
     rw [hw] at q;dsimp only at q;intro v4 H4 s4 ⟨D,e,hD⟩;subst e;have sD:=sC.trans s4;refine ⟨_,rfl,D,_,_,_,rfl,rfl,ar.of hD,km ps (sN hw (by decide)).1,?_⟩;obtain ⟨p,dx,da,ea,dk,ek,rfl,hP⟩:=ZA.mono _ _ _ _ sD hS;refine ⟨_,rfl,_,rfl,p,_,dx,_,_,rfl,hP.ob,T.ZW,T.Zu,gm _ _,ea,_,rfl,aJ.k hP.he (k:=.inl (ps.getLastD 0)),_,rfl,?_⟩;rw [hP.re.some ee]
     cases hd:(aa S.ent (ps.getLastD 0)).isSome with
     | true=>
      rw [hd,if_pos rfl] at q;exact ay ⟨aX 1,q _ sD⟩
     | false=>
      rw [hd,if_neg (by decide)] at q;refine aw ⟨_,rfl,_,rfl,.ref p,S,new,rfl,ZA.mono _ _ _ _ sD hS,lU,?_⟩
      cases hf:lL S new with
      | error r=>
       rw [hf] at q;exact fun H' s'=>q H' (sD.trans s')
      | ok d=>
       rw [hf] at q;dsimp only at q;obtain ⟨h0,es,cg⟩:=Fc hf;rw [cg] at q;intro v5 H5 s5 e5
       cases e5
       have sE:=sD.trans s5;refine ⟨_,rfl,_,rfl,.ref p,S,d,es,rfl,ZA.mono _ _ _ _ sE hS,cg,?_⟩
       by_cases h4:40<=es.length
       ·rw [if_pos h4];rw [YD,if_pos h4] at q;exact fun H' s'=>q H' (sE.trans s')
       ·rw [if_neg h4];rw [YD,if_neg h4] at q;intro v6 H6 s6 _;have sF:=sE.trans s6;refine ⟨_,rfl,_,rfl,_,rfl,new,rfl,lU,fun l7 H7 s7 hn7 n_=>?_⟩;refine ⟨_,rfl,l7,_,_,_,rfl,rfl,ar.of n_,qt _ (lK h0),_,rfl,?_⟩;exact ⟨.ref p,S,d,Zm new,ps.getLastD 0,es,rfl,ZA.mono _ _ _ _ (sF.trans s7) hS,sm,cg,fun v' H' s' h'=>q _ _ ((sF.trans s7).trans s') h'⟩
theorem Fu {H H':Hp} {l:Addr} (s:ag H H') (h:H' l=none):H l=none:=by
 cases e:H l with
 | none=>rfl
 | some o=>rw [s _ _ e] at h;cases h
def A9 (F:bX) (n bx:Int) (row:Row):Except Rf bX:=match oE F.S n bx row with
 | .error r=>.error r
 | .ok S=>gn F S F.k
def pz (F:bX) (n size:Int):Except Rf bX:=match oK F.S n size with
 | .error r=>.error r
 | .ok S=>gn F S F.k
def AO (F:bX) (old new:Str):Except Rf bX:=match qj F.S old new with
 | .error r=>.error r
 | .ok S=>gn F S F.k
theorem Zn3 {κ α:Type} [DecidableEq κ] {xs:List (κ×α)} {k:κ} {x y:α} (h:aa xs k=some y):(af xs k x).length=xs.length:=by
 unfold af;rw [sQ,h,if_pos (by rfl),Yb]
theorem ZwW {S:az} (so:dI S) {n:Int} {d row:Row} (hd:eQ S n=.ok d) (hl:row.length<=1000):dI ⟨af S.dat n row,S.ent⟩:=by
 have hg:∃ y,aa S.dat n=some y:=by
  unfold eQ at hd
  split at hd
  ·rename_i hb
   split at hd
   ·cases hd
   ·rename_i hg
    unfold ZE at hb;rw [hg,X4,Xs] at hb;exact Option.isSome_iff_exists.mp hb
  ·cases hd
 obtain ⟨y,hg⟩:=hg;refine ⟨?_,fun m r h=>?_,so.ent⟩
 ·show (af S.dat n row).length + S.ent.length < 64;rw [Zn3 hg];exact so.n
 ·have h':aa (af S.dat n row) m=some r:=h;rw [ZV] at h'
  by_cases z:m=n
  ·rw [if_pos z] at h';cases h';exact hl
  ·rw [if_neg z] at h';exact so.row m r h'
theorem Zsz {S S':az} (so:dI S) {n bx:Int} {row:Row} (h0:0<=bx) (h:oE S n bx row=.ok S'):dI S':=by
 unfold oE at h
 cases hd:eQ S n with
 | error r=>rw [hd] at h;cases h
 | ok d=>
  rw [hd] at h;dsimp only at h
  split at h
  ·cases h
  ·split at h
   ·cases h;exact so
   ·cases h
    refine ZwW so hd ?_
    have:=E8 so hd
    rw [Yf,Yf,Y0,YU];omega
theorem Zs1 {S S':az} (so:dI S) {n size:Int} (h:oK S n size=.ok S'):dI S':=by
 unfold oK at h
 cases hd:eQ S n with
 | error r=>rw [hd] at h;cases h
 | ok d=>
  rw [hd] at h;dsimp only at h
  split at h
  ·cases h
  ·cases h
   refine ZwW so hd ?_;rw [Y0];omega
def ZrI (g:Gs):Sp:=fun vs H Q E=>∃ f q p b l F n bx a row,vs=[.ref f,.int n,.int bx,.ref a]/\cF g H f q p b l F/\dI F.S/\0<=bx/\H a=some (.lst (row.map V.int))/\row.length<=1000/\hZ F.k/\lx F.T.synced/\(match A9 F n bx row with
 | .error r=>∀ H',ag H H'->E (.ref (g.xa r)) none H'
 | .ok F'=>∀ H',fT f H H'->cF g H' f q p b l F'->Q (.int (row.length:Nat)) H')
theorem Zmn:Zp ["self","number","start","row"] ["self","number","start","row"] (Zi ZhI):=ZN (by decide +kernel)
theorem Zmw (T:Tx K mg g):ah P w K mg base (aA P w) 7 g.G4 g.IE ["self","number","start","row"] (ZrI g):=by
 refine T.Zik.aP Zmn (fun vs H Q E h=>?_) (fun aq A outer s H vs Q E hr h=>?_)
 ·obtain ⟨f,q0,p,b,l,F,n,bx,a,row,rfl,_⟩:=h;rfl
 ·obtain ⟨f,q0,p,b,l,F,n,bx,a,row,rfl,cK,so,cN,ha,xb,kk,po,q⟩:=h;obtain ⟨dx,sv,kv,iv,hF⟩:=id cK;have naf:a≠f:=ZR ha hF.ob (by intro z;cases z)
  refine ⟨_,(Zd (ZC (lJ (pv 0) T.Zq T.ZL (ZH T) hr.dn T.ai .nil Zc))
   (Zd (ZC (ZP (pv 0) T.Zq T.qA (qB T) hr.dn T.aF .nil Zc (Za (Zn (Zs8 T) hr.dn rfl T.ZuF T.FQ.kp T.k6 .nil Zc (Za (Zv (pv 0) rfl) (Za (pv 1) (Za (pv 2) (Za (pv 3) Ze))))) (Za (Zv (pv 0) rfl) Ze))))
   (Zh (Zt (ZD ZI (by rfl) T.eu YC (Za (pv 3) Ze)))))),?_⟩
  refine ⟨_,rfl,f,dx,_,rfl,hF.ob,Z6 _ _ _ _,?_⟩;refine ⟨f,dx,_,_,_,_,rfl,hF.ob,.inr ⟨⟨q0,rfl⟩,?_⟩⟩;refine ⟨_,rfl,f,dx,_,rfl,hF.ob,Z6 _ _ _ _,_,rfl,f,_,dx,_,_,rfl,hF.ob,T.Zq,T.ZK,jr _ _ _ _,_,rfl,_,rfl,_,rfl,?_⟩;refine ⟨sv,F.S,n,bx,a,row,rfl,hF.st,so,cN,ha,xb,?_⟩;unfold A9 at q
  cases hm:oE F.S n bx row with
  | error r=>
   rw [hm] at q;exact fun H' s'=>q H' s'
  | ok S=>
   rw [hm] at q;dsimp only at q;intro v2 H2 s2 fF;have lZ:=cK.same s2;refine ⟨_,rfl,f,_,dx,_,_,rfl,s2 _ _ hF.ob,T.Zq,T.ZY,ly _ _ _ _,?_⟩;refine ⟨f,q0,p,b,l,F,v2,kv,S,F.k,rfl,lZ,fF,eB.mono _ _ _ _ s2 hF.ke,Zsz so cN hm,kk,po,?_⟩
   cases ht:gn F S F.k with
   | error r=>
    rw [ht] at q;exact fun H' s'=>q H' (s2.trans s')
   | ok F'=>
    rw [ht] at q;intro H' b1 h';refine ⟨_,rfl,a,_,rfl,.inl (ar.of (b1 _ _ (s2 _ _ ha) naf)),?_⟩;rw [Yb];exact q H' (fun d o e hd=>b1 _ _ (s2 _ _ e) hd) h'
def ZwS (g:Gs):Sp:=fun vs H Q E=>∃ f q p b l F n size,vs=[.ref f,.int n,.int size]/\cF g H f q p b l F/\dI F.S/\0<=size/\hZ F.k/\lx F.T.synced/\(match pz F n size with
 | .error r=>∀ H',ag H H'->E (.ref (g.xa r)) none H'
 | .ok F'=>∀ H',fT f H H'->cF g H' f q p b l F'->Q .aL H')
theorem Zps:Zp ["self","number","size"] ["self","number","size"] (Zi Zlc):=ZN (by decide +kernel)
theorem ZpL (T:Tx K mg g):ah P w K mg base (aA P w) 7 g.FR g.G1 ["self","number","size"] (ZwS g):=by
 refine T.Zmc.aP Zps (fun vs H Q E h=>?_) (fun aq A outer s H vs Q E hr h=>?_)
 ·obtain ⟨f,q0,p,b,l,F,n,size,rfl,_⟩:=h;rfl
 ·obtain ⟨f,q0,p,b,l,F,n,size,rfl,cK,so,cN,kk,po,q⟩:=h;obtain ⟨dx,sv,kv,iv,hF⟩:=id cK
  refine ⟨_,(Zd (ZC (lJ (pv 0) T.Zq T.ZL (ZH T) hr.dn T.ai .nil Zc))
   (Zh (ZC (ZP (pv 0) T.Zq T.qA (qB T) hr.dn T.aF .nil Zc (Za (Zn (Zta T) hr.dn rfl T.ZuH T.FO.kp T.k_ .nil Zc (Za (Zv (pv 0) rfl) (Za (pv 1) (Za (pv 2) Ze)))) (Za (Zv (pv 0) rfl) Ze)))))),?_⟩
  refine ⟨_,rfl,f,dx,_,rfl,hF.ob,Z6 _ _ _ _,?_⟩;refine ⟨f,dx,_,_,_,_,rfl,hF.ob,.inr ⟨⟨q0,rfl⟩,?_⟩⟩;refine ⟨_,rfl,f,dx,_,rfl,hF.ob,Z6 _ _ _ _,_,rfl,f,_,dx,_,_,rfl,hF.ob,T.Zq,T.ZK,jr _ _ _ _,_,rfl,_,rfl,?_⟩;refine ⟨sv,F.S,n,size,rfl,hF.st,so,cN,?_⟩;unfold pz at q
  cases hm:oK F.S n size with
  | error r=>
   rw [hm] at q;exact fun H' s'=>q H' s'
  | ok S=>
   rw [hm] at q;dsimp only at q;intro v2 H2 s2 fF;have lZ:=cK.same s2;refine ⟨_,rfl,f,_,dx,_,_,rfl,s2 _ _ hF.ob,T.Zq,T.ZY,ly _ _ _ _,?_⟩;refine ⟨f,q0,p,b,l,F,v2,kv,S,F.k,rfl,lZ,fF,eB.mono _ _ _ _ s2 hF.ke,Zs1 so hm,kk,po,?_⟩
   cases ht:gn F S F.k with
   | error r=>
    rw [ht] at q;exact fun H' s'=>q H' (s2.trans s')
   | ok F'=>
    rw [ht] at q;exact fun H' b1 h'=>q H' (fun d o e hd=>b1 _ _ (s2 _ _ e) hd) h'
def Zt5 (g:Gs):Sp:=fun vs H Q E=>∃ f q p b l F old new,vs=[.ref f,.str old,.str new]/\cF g H f q p b l F/\gU F.S/\old.length<=1000/\new.length<=1000/\(∀ S,qj F.S old new=.ok S->dI S)/\hZ F.k/\lx F.T.synced/\(match AO F old new with
 | .error r=>∀ H',ag H H'->E (.ref (g.xa r)) none H'
 | .ok F'=>∀ H',fT f H H'->cF g H' f q p b l F'->Q .aL H')
theorem ZnW:Zp ["self","old","new"] ["self","old","new"] (Zi ZjN):=ZN (by decide +kernel)
theorem Zoh (T:Tx K mg g):ah P w K mg base (aA P w) 7 g.Gb g.Hz ["self","old","new"] (Zt5 g):=by
 refine T.Zkj.aP ZnW (fun vs H Q E h=>?_) (fun aq A outer s H vs Q E hr h=>?_)
 ·obtain ⟨f,q0,p,b,l,F,old,new,rfl,_⟩:=h;rfl
 ·obtain ⟨f,q0,p,b,l,F,old,new,rfl,cK,sm,kF,lU,lR,kk,po,q⟩:=h;obtain ⟨dx,sv,kv,iv,hF⟩:=id cK
  refine ⟨_,(Zd (ZC (lJ (pv 0) T.Zq T.ZL (ZH T) hr.dn T.ai .nil Zc))
   (Zh (ZC (ZP (pv 0) T.Zq T.qA (qB T) hr.dn T.aF .nil Zc (Za (Zn (Zur T) hr.dn rfl T.Zwk T.EZ.kp T.mT .nil Zc (Za (Zv (pv 0) rfl) (Za (pv 1) (Za (pv 2) Ze)))) (Za (Zv (pv 0) rfl) Ze)))))),?_⟩
  refine ⟨_,rfl,f,dx,_,rfl,hF.ob,Z6 _ _ _ _,?_⟩;refine ⟨f,dx,_,_,_,_,rfl,hF.ob,.inr ⟨⟨q0,rfl⟩,?_⟩⟩;refine ⟨_,rfl,f,dx,_,rfl,hF.ob,Z6 _ _ _ _,_,rfl,f,_,dx,_,_,rfl,hF.ob,T.Zq,T.ZK,jr _ _ _ _,_,rfl,_,rfl,?_⟩;refine ⟨sv,F.S,old,new,rfl,hF.st,sm,kF,lU,?_⟩;unfold AO at q
  cases hm:qj F.S old new with
  | error r=>
   rw [hm] at q;exact fun H' s'=>q H' s'
  | ok S=>
   rw [hm] at q;dsimp only at q;intro v2 H2 s2 fF;have lZ:=cK.same s2;refine ⟨_,rfl,f,_,dx,_,_,rfl,s2 _ _ hF.ob,T.Zq,T.ZY,ly _ _ _ _,?_⟩;refine ⟨f,q0,p,b,l,F,v2,kv,S,F.k,rfl,lZ,fF,eB.mono _ _ _ _ s2 hF.ke,lR S hm,kk,po,?_⟩
   cases ht:gn F S F.k with
   | error r=>
    rw [ht] at q;exact fun H' s'=>q H' (s2.trans s')
   | ok F'=>
    rw [ht] at q;exact fun H' b1 h'=>q H' (fun d o e hd=>b1 _ _ (s2 _ _ e) hd) h'
def Zxz (g:Gs):Sp:=fun vs H Q E=>∃ f dx sv k t i S n bx many,vs=[.ref f,.int n,.int bx,.int many]/\H f=some (.ins g.ak dx (cL sv k t i))/\ZA g H S sv/\0<=bx/\0<=many/\(match eQ S n with
 | .error r=>∀ H',ag H H'->E (.ref (g.xa r)) none H'
 | .ok d=>∀ l H',ag H H'->H l=none->H' l=some (.lst (((d.drop bx.toNat).take many.toNat).map V.int))->Q (.ref l) H')
theorem ZnV:Zp ["self","number","start","many"] ["self","number","start","many"] (Zi ZjL):=ZN (by decide +kernel)
theorem Ca (T:Tx K mg g):ah P w K mg base (aA P w) 4 g.Ge g.HB ["self","number","start","many"] (Zxz g):=by
 refine T.Zkh.aP ZnV (fun vs H Q E h=>?_) (fun aq A outer s H vs Q E hr h=>?_)
 ·obtain ⟨f,dx,sv,k,t,i,S,n,bx,many,rfl,_⟩:=h;rfl
 ·obtain ⟨f,dx,sv,k,t,i,S,n,bx,many,rfl,hf,hS,h0,h1,q⟩:=h;refine ⟨_,(Zh (Zt (ZT B0 rfl T.nu PyProof.Rows.Boot.«list» (Za (nF vB (Zn (GI T) hr.dn rfl T.FL T.yj.kp T.eG .nil Zc (Za (Zv (pv 0) rfl) (Za (pv 1) Ze))) (lI (pv 2)) (lI (Zy jt (pv 2) (pv 3)))) Ze)))),?_⟩;refine ⟨_,rfl,f,_,dx,_,_,rfl,hf,T.Zq,T.ZK,jr _ _ _ _,_,rfl,sv,S,n,rfl,hS,?_⟩
  cases hd:eQ S n with
  | error r=>
   rw [hd] at q;exact fun H' s'=>q H' s'
  | ok d=>
   rw [hd] at q;dsimp only at q;intro u H1 s1 ⟨t1,e,kD⟩;subst e;refine ⟨_,rfl,_,rfl,_,rfl,_,rfl,_,_,rfl,rfl,_,rfl,t1,_,rfl,kD,fun t2 H2 s2 dO=>?_⟩;rw [Zvm _ _ _ h0 h1] at dO;refine ⟨t2,_,rfl,.inr (aG.of dO),fun l hl=>?_⟩;exact q l _ ((s1.trans s2).trans (Zj hl)) (Fu (s1.trans s2) hl) Zb
def Zxy (g:Gs):Sp:=fun vs H Q E=>∃ f dx sv k t i S n,vs=[.ref f,.int n]/\H f=some (.ins g.ak dx (cL sv k t i))/\ZA g H S sv/\(gW S).length<=100000/\(if ZE S n then
 ∀ t H',ag H H'->H' t=some (.tup [.str (kindOf S n),.int (sP S n),.int (sJ S n)])->Q (.ref t) H' else ∀ H',ag H H'->E (.ref (g.xa .aB)) none H')
theorem ZnU:Zp ["self","number"] ["self","number"] (Zi ZjJ):=ZN (by decide +kernel)
theorem Cb (T:Tx K mg g):ah P w K mg base (aA P w) 3 g.Gg g.HE ["self","number"] (Zxy g):=by
 refine T.Zkf.aP ZnU (fun vs H Q E h=>?_) (fun aq A outer s H vs Q E hr h=>?_)
 ·obtain ⟨f,dx,sv,k,t,i,S,n,rfl,_⟩:=h;rfl
 ·obtain ⟨f,dx,sv,k,t,i,S,n,rfl,hf,hS,hl,q⟩:=h
  refine ⟨_,(Zd (ZC (Zn (Jf T) hr.dn rfl T.Ie T.yx.kp T.bW .nil Zc (Za (Zv (pv 0) rfl) (Za (pv 1) Ze))))
   (Zh (Zt (dz (Za (Zn (GJ T) hr.dn rfl T.FN T.yh.kp T.eF .nil Zc (Za (Zv (pv 0) rfl) (Za (pv 1) Ze))) (Za (Zn (Zq5 T) hr.dn rfl T.Ztj T.F9.kp T.jV .nil Zc (Za (Zv (pv 0) rfl) (Za (pv 1) Ze))) (Za (Zn (Zs9 T) hr.dn rfl T.ZuG T.FP.kp T.k8 .nil Zc (Za (Zv (pv 0) rfl) (Za (pv 1) Ze))) Ze))))))),?_⟩
  refine ⟨_,rfl,f,_,dx,_,_,rfl,hf,T.Zq,T.ZK,jr _ _ _ _,_,rfl,sv,S,n,rfl,hS,?_⟩;unfold vV
  cases hb:ZE S n with
  | false=>
   rw [hb,if_neg (by decide)] at q;exact fun H' s'=>q H' s'
  | true=>
   rw [hb,if_pos rfl] at q;intro u H1 s1 _;have lW:=s1 _ _ hf;have DB:=ZA.mono _ _ _ _ s1 hS;refine ⟨_,rfl,f,_,dx,_,_,rfl,lW,T.Zq,T.ZK,jr _ _ _ _,_,rfl,sv,S,n,rfl,DB,?_⟩;refine ⟨_,rfl,f,_,dx,_,_,rfl,lW,T.Zq,T.ZK,jr _ _ _ _,_,rfl,sv,S,n,rfl,DB,hl,fun H2 s2=>?_⟩;refine ⟨_,rfl,f,_,dx,_,_,rfl,s2 _ _ lW,T.Zq,T.ZK,jr _ _ _ _,_,rfl,sv,S,n,rfl,ZA.mono _ _ _ _ s2 DB,hb,?_⟩;exact ⟨aX 3,fun t ht=>q t _ ((s1.trans s2).trans (Zj ht)) Zb⟩
theorem j8.keep {g:Gs} {H H':Hp} {q p:Addr} {T:oR} (h:j8 g H q p T) (h1:∀ o,H q=some o->H' q=some o) (h2:∀ v,gy H T.synced v->gy H' T.synced v):j8 g H' q p T:=by
 obtain ⟨dx,y,a,b⟩:=h;exact ⟨dx,y,h1 _ a,h2 _ b⟩
def Kn:HO->Bool
 | .bt _ _=>true
 | .cM _=>true
 | _=>false
def Odd (H:Hp) (o:HO):Prop:=(∃ _ _:Unit,Kn o=true)∨∃ (n:Int) (L:Addr) (r:List (Key×V)) (zs:List V),o=.dK ((X8 n,.ref L)::r)/\H L=some (.lst zs)
section
variable {g:Gs} {H H':Hp} (s:∀ d o,H d=some o->¬ Odd H o->H' d=some o)
include s
theorem Z1.od {r:Row} {v:V}:Z1 H r v->Z1 H' r v | ⟨t,e,h⟩=>⟨t,e,s _ _ h (by rintro (⟨_,_,z⟩ | ⟨_,_,_,_,z,_⟩) <;> cases z)⟩
theorem gk.od {r:ao} {v:V}:gk H r v->gk H' r v | ⟨t,e,h⟩=>⟨t,e,s _ _ h (by
 rintro (⟨_,_,z⟩ | ⟨n,L,rr,_,z,_⟩)
 ·cases z
 injection z with z;unfold er at z
 cases r with
 | nil=>cases z
 | cons p r=>cases z)⟩
theorem ZA.od {S:az} {v:V}:ZA g H S v->ZA g H' S v | ⟨p,dx,da,ea,dk,ek,e,h⟩=>⟨p,dx,da,ea,dk,ek,e,s _ _ h.ob (by rintro (⟨_,_,z⟩ | ⟨_,_,_,_,z,_⟩) <;> cases z),s _ _ h.hd (by
  rintro (⟨_,_,z⟩ | ⟨n,L,rr,zs,z,hL⟩)
  ·cases z
  injection z with z;have rd:=h.rd;rw [z] at rd;unfold Z8 at rd;generalize S.dat=xs at rd
  cases rd with
  | cons a _=>
   obtain ⟨_,t,e1,e2⟩:=a
   cases e1
   rw [hL] at e2
   cases e2),s _ _ h.he (by
  rintro (⟨_,_,z⟩ | ⟨n,L,rr,zs,z,hL⟩)
  ·cases z
  injection z with z;have re:=h.re;rw [z] at re;unfold Z8 at re;generalize S.ent=xs at re
  cases re with
  | cons a _=>
   obtain ⟨_,t,e1,e2⟩:=a
   cases e1
   rw [hL] at e2
   cases e2),h.rd.gen (fun _ _ z=>z.od s),h.re.gen (fun _ _ z=>z.od s)⟩
theorem eB.od {k:Kept} {v:V}:eB g H k v->eB g H' k v | ⟨a,kvs,e,h,d⟩=>⟨a,kvs,e,s _ _ h (by
  rintro (⟨_,_,z⟩ | ⟨n,L,rr,zs,z,hL⟩)
  ·cases z
  injection z with z;rw [z] at d;unfold Z8 at d
  cases d with
  | cons a _=>cases a.1),d.gen (fun _ _ z=>z.od s)⟩
theorem gy.od {k:gp} {v:V}:gy H k v->gy H' k v | ⟨a,kvs,e,h,d⟩=>⟨a,kvs,e,s _ _ h (by rintro (⟨_,_,z⟩ | ⟨_,_,_,_,z,_⟩) <;> cases z),d.gen (fun _ _ z=>z.od s)⟩
theorem iP.od {k:lM} {v:V}:iP g H k v->iP g H' k v | ⟨p,dx,pl,hd,e,h,h1,h2⟩=>⟨p,dx,pl,hd,e,s _ _ h (by rintro (⟨_,_,z⟩ | ⟨_,_,_,_,z,_⟩) <;> cases z),h1.od s,h2.od s⟩
theorem dH.od {p b l:Addr} {D:c8} (h:dH g H p b l D):dH g H' p b l D:=h.keep fun d o e lS=>s _ _ e (by
 rcases lS with ⟨xs,rfl⟩ | ⟨xs,rfl⟩ | ⟨C,dx,b,l,rfl⟩ <;> (rintro (⟨_,_,z⟩ | ⟨_,_,_,_,z,_⟩) <;> cases z))
theorem cF.od {f q p b l:Addr} {F:bX} (h:cF g H f q p b l F):cF g H' f q p b l F:=by
 obtain ⟨dx,sv,kv,iv,h⟩:=h;refine ⟨dx,sv,kv,iv,s _ _ h.ob (by rintro (⟨_,_,z⟩ | ⟨_,_,_,_,z,_⟩) <;> cases z),h.st.od s,h.ke.od s,h.uA.keep (fun o e=>?_) (fun v z=>z.od s),h.AI.od s,h.img.od s⟩;obtain ⟨iZ,y,a,_⟩:=h.uA;rw [a] at e
 cases e
 exact s _ _ a (by rintro (⟨_,_,z⟩ | ⟨_,_,_,_,z,_⟩) <;> cases z)
end
def ZyW (K:Yg):Sp:=fun vs H Q _=>∃ (a:Addr) (ns:List Int) (k:Int),vs=[.ref a,.int k]/\ar K H a (ns.map V.int)/\ns.length<=63/\0<=k/\k < 1000000/\∀ H',ag H H'->Q (.int (nj ns k)) H'
def ZxA:Sp:=fun vs H Q _=>∃ c k:Int,vs=[.int c,.int k]/\Q (.int (ZzE c k)) H
theorem Zpr:Zp ["_law_script","_law_k"] ["_law_script","_law_k"] (Zi Zlb):=ZN (by decide +kernel)
theorem ZjU (T:Tx K mg g):ah P w K mg base (aA P w) 1 g.eL g.cW ["_law_script","_law_k"] (ZyW K):=by
 refine T.BV.aP Zpr (fun vs H Q E h=>?_) (fun aq A outer s H vs Q E hr h=>?_)
 ·obtain ⟨a,ns,k,rfl,_⟩:=h;rfl
 ·obtain ⟨a,ns,k,rfl,hS,hl,uN,Ay,q⟩:=h;have dB:=hr.units
  refine ⟨_,(Zd (Z0 (ZG (qe dB) (pv 0) (fq Ze) (ZO _)) (Zh (Zt (Zy lC (pv 1) Zl))) Zx)
   (Zh (Zt (Zy jt (bw ZU (pv 0) (Zy c7 (pv 1) (ZD ZI (by rfl) T.eu YC (Za (pv 0) Ze))) (fun _ _=>rfl)) (Zy lC (Zy eX (pv 1) (ZD ZI (by rfl) T.eu YC (Za (pv 0) Ze))) Zl))))),?_⟩
  refine ⟨_,rfl,Yv _,fun p hp=>?_⟩;have sm:ag H (upd H p (.lst [])):=Zj hp;have oj:=sm.seq hS;refine ⟨.list (ns.map .int),.list [],.inl (.inr ⟨a,_,_,rfl,rfl,oj,ES _ ns⟩),.inl (.inr ⟨p,[],[],rfl,rfl,ar.of Zb,.nil⟩),BU ns,rfl,_,rfl,?_⟩
  cases ns with
  | nil=>
   refine ay ?_;refine ⟨_,rfl,_,_,rfl,rfl,.inr ⟨by decide,by decide⟩,?_⟩;exact q _ sm
  | cons n r=>
   refine aw ?_;have hL:(0:Int) < ((n::r).length:Int):=by rw [Yz];omega
   have hm0:0<=k % ((n::r).length:Int):=Int.emod_nonneg _ (by omega);have hm1:k % ((n::r).length:Int) < ((n::r).length:Int):=YbR _ hL;have bq:(k % ((n::r).length:Int)).toNat < (n::r).length:=by omega
   have hd0:0<=k / ((n::r).length:Int):=Int.ediv_nonneg uN (by omega);have hd1:k / ((n::r).length:Int)<=k:=Int.ediv_le_self _ uN
   have bO:fj ((n::r).map V.int) (k % ((n::r).length:Int))=some (V.int ((n::r).getD (k % ((n::r).length:Int)).toNat 0)):=by
    refine qb hm0 ?_;rw [Yo,Yh bq,Xe,Ys,Yh bq];rfl
   have kU:((n::r).map V.int).length=(n::r).length:=Yb ..;refine ⟨_,rfl,_,rfl,_,rfl,a,_,rfl,.inl oj,_,_,rfl,rfl,(by rw [kU];exact hL),a,_,_,_,rfl,rfl,oj,(by rw [kU];exact bO),?_⟩;refine ⟨_,rfl,_,rfl,a,_,rfl,.inl oj,_,_,rfl,rfl,(by rw [kU];exact ⟨hL,by omega⟩),_,_,rfl,rfl,.inr ⟨by decide,by decide⟩,_,_,rfl,rfl,?_⟩
   have:=q _ sm
   rw [kU];unfold nj at this;rw [if_neg (by simp)] at this;exact this
theorem Zhz:Zp ["_law_cell_here","_law_k","_law_more"] ["_law_cell_here","_law_k"] (Zi ZjE):=ZN (by decide +kernel)
theorem Zoa (T:Tx K mg g):ah P w K mg base (aA P w) 1 g.dF g.cA ["_law_cell_here","_law_k"] ZxA:=by
 refine T.HZ.aP Zhz (fun vs H Q E h=>?_) (fun aq A outer s H vs Q E hr h=>?_)
 ·obtain ⟨c,k,rfl,_⟩:=h;rfl
 ·obtain ⟨c,k,rfl,q⟩:=h
  refine ⟨_,(Zd (Zz (i:=2) Zhz.nd rfl (Or.inl rfl) (Zy c7 (Zy jt (Zy lC (pv 0) Zl) (Zy lC (Zy jt (pv 1) Zl) Zl)) Zl))
   (Zh (Zt (Zy c7 (Zy ZxR (pv 2) (pv 2)) Zl)))),?_⟩
  refine ⟨_,rfl,_,_,rfl,rfl,.inr ⟨by decide,by decide⟩,_,rfl,_,_,rfl,rfl,_,_,rfl,rfl,.inr ⟨by decide,by decide⟩,_,_,rfl,rfl,_,_,rfl,rfl,(by show (0:Int) < 340282366920938463463374607431768211507;decide),?_⟩;have h1:=Zwd c k;have h2:=Zwe c k
  have h3:(va c k).natAbs < 2 ^ 200:=by
   have:(va c k).natAbs < 340282366920938463463374607431768211507:=by omega
   exact Nat.lt_trans this (by decide)
  refine ⟨_,rfl,_,rfl,_,_,rfl,rfl,⟨h3,h3⟩,_,_,rfl,rfl,(by show (0:Int) < 340282366920938463463374607431768211297;decide),?_⟩;exact q
def ZyM (g:Gs):Sp:=fun vs H Q _=>∃ (a:Addr) (r:Rf),vs=[.ref a]/\wm H a (g.xa r)/\∀ H',ag H H'->Q (.str r.word) H'
def q5:List Rf:=[.aB,.ax,.aK,.bj,.noRoom,.bo,.wrongKind,.aM,.readOnly,.cZ]
theorem ZvZ (r:Rf):((q5.map fun u=>V.bl (decide (r=u))).countP fun z=>iY z (.bl true))=1:=by cases r <;> decide
def kP:Rf->Nat
 | .aB=>0 | .ax=>1 | .aK=>2 | .bj=>3 | .noRoom=>4 | .bo=>5 | .wrongKind=>6 | .aM=>7 | .readOnly=>8 | .cZ=>9
theorem ZAa (r:Rf):∃ z,(q5.map fun u=>V.bl (decide (r=u)))[kP r]?=some z/\iY z (.bl true)=true:=by cases r <;> exact ⟨_,rfl,rfl⟩
theorem Zv0 (r:Rf):∀ m z,m < kP r->(q5.map fun u=>V.bl (decide (r=u)))[m]?=some z->iY z (.bl true)=false:=by
 intro m z hm hz;have hm':m < 10:=by cases r <;> simp only [kP] at hm <;> omega
 have key:∀ r:Rf,∀ m:Fin 10,m.val < kP r->(q5.map fun u=>V.bl (decide (r=u)))[m.val]?=some (.bl false):=by
  intro r m
  cases r <;> revert m <;> decide
 have:=key r ⟨m,hm'⟩ hm
 rw [this] at hz
 cases hz
 rfl
theorem ZxF (r:Rf):fj [V.str "NoThing",.str "NoDirectory",.str "BadName",.str "IsThere",.str "NoRoom",.str "NotEmpty",.str "WrongKind",.str "TooGreat",.str "ReadOnly",.str "NoFiles"] ((kP r:Nat):Int)=some (.str r.word):=by
 cases r <;> rfl
theorem yp:Zp ["_law_e","_law_flags","_law_names"] ["_law_e"] (Zi Zk8):=ZN (by decide +kernel)
theorem ZjT (T:Tx K mg g):D7 P w K mg base 1 g.eI g.cR ["_law_e"] (ZyM g):=by
 refine T.BW.okH yp (fun vs H Q E h=>?_) (fun aq A outer s H vs Q E hr h=>?_)
 ·obtain ⟨a,r,rfl,_⟩:=h;rfl
 ·obtain ⟨a,r,rfl,ha,q⟩:=h
  refine ⟨_,(Zd (Zz (i:=1) yp.nd rfl (Or.inl rfl) (fq (Za (lE (pv 0) (ZJ (v:=.ref g.fA) rfl T.BJ rfl) rfl T.ZS) (Za (lE (pv 0) (ZJ (v:=.ref g.bQ) rfl T.Zh1 rfl) rfl T.ZS) (Za (lE (pv 0) (ZJ (v:=.ref g.fD) rfl T.FK rfl) rfl T.ZS) (Za (lE (pv 0) (ZJ (v:=.ref g.fC) rfl T.BI rfl) rfl T.ZS) Ze))))))
   (Zd (Zz (i:=1) yp.nd rfl (Or.inl rfl) (Zy vn (pv 1) (fq (Za (lE (pv 0) (ZJ (v:=.ref g.iq) rfl T.Zr6 rfl) rfl T.ZS) (Za (lE (pv 0) (ZJ (v:=.ref g.dX) rfl T.Znh rfl) rfl T.ZS) (Za (lE (pv 0) (ZJ (v:=.ref g.c6) rfl T.qF rfl) rfl T.ZS) Ze))))))
   (Zd (Zz (i:=1) yp.nd rfl (Or.inl rfl) (Zy vn (pv 1) (fq (Za (lE (pv 0) (ZJ (v:=.ref g.cP) rfl T.tj rfl) rfl T.ZS) (Za (lE (pv 0) (ZJ (v:=.ref g.dW) rfl T.Zng rfl) rfl T.ZS) (Za (lE (pv 0) (ZJ (v:=.ref g.fB) rfl T.ZuK rfl) rfl T.ZS) Ze))))))
   (Zd (Zz (i:=2) yp.nd rfl (Or.inl rfl) (fq (Za Zr (Za Zr (Za Zr (Za Zr (Za Zr (Za Zr (Za Zr (Za Zr (Za Zr Ze)))))))))))
   (Zd (Z0 (PW.pt (l' (ZG Ee (j9 YR PySem.F.slot_list_count PySem.F.type_list_count Zr2 (pv 1) (Za nh Ze)) Zl (ZO _)) (l' (nz (md (lE (pv 0) (ZJ (v:=.ref g.bJ) rfl T.Hn rfl) rfl T.ZS))) (qf (nz (md (lE (pv 0) (EM (v:=.ty "ValueError") rfl T.Zo0 PyProof.Rows.Boot.«ValueError» rfl) rfl T.ZS))))))) (Zh (Zt Zr)) Zx)
   (Zh (Zt (bw ZU (Zy vn (pv 2) (fq (Za Zr Ze))) (j9 YR PySem.F.slot_list_index PySem.F.type_list_index Zwc (pv 1) (Za nh Ze)) (fun _ _=>rfl))))))))),?_⟩
  have xf:=T.xf r;refine ⟨_,rfl,a,_,_,_,rfl,ha,xf,T.mU r .aB,_,rfl,a,_,_,_,rfl,ha,xf,T.mU r .ax,_,rfl,a,_,_,_,rfl,ha,xf,T.mU r .aK,_,rfl,a,_,_,_,rfl,ha,xf,T.mU r .bj,(aX 4),fun p1 n1=>?_⟩;have s1:=Zj (o:=.lst [.bl (decide (r=.aB)),.bl (decide (r=.ax)),.bl (decide (r=.aK)),.bl (decide (r=.bj))]) n1;have h1:=ha.same s1;refine ⟨_,rfl,_,rfl,a,_,_,_,rfl,h1,xf,T.mU r .noRoom,_,rfl,a,_,_,_,rfl,h1,xf,T.mU r .bo,_,rfl,a,_,_,_,rfl,h1,xf,T.mU r .wrongKind,(aX 3),fun p2 n2=>?_⟩;have s2:=Zj (o:=.lst [.bl (decide (r=.noRoom)),.bl (decide (r=.bo)),.bl (decide (r=.wrongKind))]) n2;refine ⟨p1,p2,_,_,rfl,rfl,s2 _ _ Zb,Zb,(aX 7),fun p3 n3=>?_⟩;have s3:=Zj (o:=.lst ([.bl (decide (r=.aB)),.bl (decide (r=.ax)),.bl (decide (r=.aK)),.bl (decide (r=.bj))]++[.bl (decide (r=.noRoom)),.bl (decide (r=.bo)),.bl (decide (r=.wrongKind))])) n3;have h3:=(h1.same s2).same s3;refine ⟨_,rfl,_,rfl,a,_,_,_,rfl,h3,xf,T.mU r .aM,_,rfl,a,_,_,_,rfl,h3,xf,T.mU r .readOnly,_,rfl,a,_,_,_,rfl,h3,xf,T.mU r .cZ,(aX 3),fun p4 n4=>?_⟩;have s4:=Zj (o:=.lst [.bl (decide (r=.aM)),.bl (decide (r=.readOnly)),.bl (decide (r=.cZ))]) n4;refine ⟨p3,p4,_,_,rfl,rfl,s4 _ _ Zb,Zb,(aX 10),fun p5 n5=>?_⟩;have s5:=Zj (o:=.lst (q5.map fun u=>V.bl (decide (r=u)))) n5;have h5:=(h3.same s4).same s5;refine ⟨(aX 9),fun p6 n6=>?_⟩;have s6:=Zj (o:=.lst [.str "NoThing",.str "NoDirectory",.str "BadName",.str "IsThere",.str "NoRoom",.str "NotEmpty",.str "WrongKind",.str "TooGreat",.str "ReadOnly"]) n6;have h6:=h5.same s6;have hf:=s6 _ _ (Zb (H:=upd (upd (upd (upd H p1 _) p2 _) p3 _) p4 _) (a:=p5) (o:=.lst (q5.map fun u=>V.bl (decide (r=u)))));have dg:(q5.map fun u=>V.bl (decide (r=u))).all js=true:=rfl;refine ⟨_,rfl,.inl ⟨rfl,_,ar.of hf⟩,p5,_,_,rfl,rfl,ar.of hf,rfl,dg,rfl,_,rfl,?_⟩;rw [ZvZ];refine aw ?_;refine ⟨_,rfl,a,_,_,_,rfl,h6,xf,T.Kl r,_,rfl,?_⟩;refine aw ?_;refine ⟨_,rfl,a,_,_,_,rfl,h6,xf,T.tM r,_,rfl,?_⟩;refine aw ?_;refine ⟨_,rfl,(aX 1),fun p7 n7=>?_⟩;have s7:=Zj (o:=.lst [.str "NoFiles"]) n7;refine ⟨p6,p7,_,_,rfl,rfl,s7 _ _ Zb,Zb,(aX 10),fun p8 n8=>?_⟩;have s8:=Zj (o:=.lst ([.str "NoThing",.str "NoDirectory",.str "BadName",.str "IsThere",.str "NoRoom",.str "NotEmpty",.str "WrongKind",.str "TooGreat",.str "ReadOnly"]++[.str "NoFiles"])) n8;have hf8:=s8 _ _ (s7 _ _ hf);refine ⟨_,rfl,.inl ⟨rfl,_,ar.of hf8⟩,p5,_,_,kP r,rfl,rfl,ar.of hf8,rfl,dg,ZAa r,Zv0 r,p8,_,_,_,rfl,rfl,ar.of Zb,ZxF r,?_⟩;exact q _ (s1.trans (s2.trans (s3.trans (s4.trans (s5.trans (s6.trans (s7.trans s8)))))))
theorem Z8.drop {κ α ρ:Type} [DecidableEq κ] [DecidableEq ρ] {f:κ->ρ} (inj:∀ a b,f a=f b->a=b) {R:Hp->α->V->Prop} {H:Hp} {k:κ}:∀ {xs:List (κ×α)} {kvs:List (ρ×V)},Z8 f R H xs kvs->Z8 f R H (ZQ xs k) (gz kvs (f k))
 | _,_,.nil=>.nil
 | q::_,p::_,.cons a t=>by
  have ih:=Z8.drop inj (k:=k) t
  by_cases z:q.1=k
  ·have z2:p.1=f k:=by rw [a.1,z]
   rw [Zva z2];unfold ZQ at ih ⊢;rw [Wn (by simp [z])];exact ih
  ·have z2:¬ p.1=f k:=fun e=>z (inj _ _ (a.1.symm.trans e));rw [Zql z2];unfold ZQ at ih ⊢;rw [Wm (by simp [z])];exact .cons a ih
def ny (S:az) (n:Int):Bool:=((aa S.ent n).getD []).isEmpty
def vU (S:az) (n:Int):Except Rf Unit:=if ny S n then .ok () else .error .bo
def yD (S:az) (n:Int):az:=⟨ZQ S.dat n,ZQ S.ent n⟩
def ZM (S:az) (d:Int) (name:Str):az:=match aa S.ent d with
 | none=>S
 | some es=>if (gW ⟨S.dat,af S.ent d (ZQ es name)⟩).contains ((aa es name).getD 0) then ⟨S.dat,af S.ent d (ZQ es name)⟩ else yD ⟨S.dat,af S.ent d (ZQ es name)⟩ ((aa es name).getD 0)
def Zpj (g:Gs):Sp:=fun vs H Q E=>∃ v S n,vs=[v,.int n]/\ZA g H S v/\dQ g lu H (vU S n) Q E
theorem Zmk:Zp ["state","number"] ["state","number"] (Zi ZhF):=ZN (by decide +kernel)
theorem ZgG (T:Tx K mg g):ah P w K mg base (aA P w) 1 g.He g.IJ ["state","number"] (Zpj g):=by
 refine T.B'.aP Zmk (fun vs H Q E h=>?_) (fun aq A outer s H vs Q E hr h=>?_)
 ·obtain ⟨v,S,n,rfl,_⟩:=h;rfl
 ·obtain ⟨v,S,n,rfl,⟨p,dx,da,ea,dk,ek,rfl,hS⟩,q⟩:=h;have hu:=u1 hr.units;refine ⟨_,(Zh (Z0 (ZG (Zzc hu) (Fj hu (Zv (pv 0) rfl) (pv 1) oJ ⟨rfl,rfl,rfl,rfl⟩) oJ (ZO _)) (Zh (Z2 T.Zsx rfl T.Znh (Za Zr Ze))) Zx)),?_⟩;refine ⟨_,rfl,p,_,dx,_,_,rfl,hS.ob,T.ZW,T.Zu,gm _ _,ea,rfl,.inl ⟨_,.inl hS.he⟩,_,rfl,fun e1 n1=>?_⟩;have s1:=Zj (o:=.dK []) n1;refine ⟨_,aJ.k (s1 _ _ hS.he) (k:=.inl n),fun e2 n2=>?_⟩;have s2:=Zj (o:=.dK []) n2;have f2:=Zb (H:=upd H e1 (.dK [])) (a:=e2) (o:=.dK []);have f1:=s2 _ _ (Zb (H:=H) (a:=e1) (o:=.dK []));generalize upd (upd H e1 (.dK [])) e2 (.dK [])=H2 at s2 f2 f1 ⊢;have jm:=s1.trans s2;unfold vU ny at q
  cases hg:aa S.ent n with
  | none=>
   rw [hg] at q;rw [hS.re.no ee hg];refine ⟨e1,e2,[],rfl,rfl,.inl f1,.inl f2,_,rfl,aw ?_⟩;exact q _ _ jm rfl
  | some es=>
   rw [hg] at q;obtain ⟨ve,gu,⟨ae,rfl,gQ⟩⟩:=hS.re.yes ee hg;rw [gu];refine ⟨ae,e2,er es,rfl,rfl,.inl (jm _ _ gQ),.inl f2,_,rfl,?_⟩
   cases es with
   | nil=>exact aw (q _ _ jm rfl)
   | cons y r=>exact ay ⟨aX 1,q _ jm⟩
def Zmg (g:Gs):Sp:=fun vs H Q _=>∃ v S n,vs=[v,.int n]/\ZA g H S v/\∀ v' H',ag H H'->ZA g H' (yD S n) v'->Q v' H'
theorem Jp:Zp ["state","number","data","entries"] ["state","number"] (Zi Zfc):=ZN (by decide +kernel)
theorem Zkq (T:Tx K mg g):ah P w K mg base (aA P w) 3 g.Ir g.Jt ["state","number"] (Zmg g):=by
 refine T.IT.aP Jp (fun vs H Q E h=>?_) (fun aq A outer s H vs Q E hr h=>?_)
 ·obtain ⟨v,S,n,rfl,_⟩:=h;rfl
 ·obtain ⟨v,S,n,rfl,⟨p,dx,da,ea,dk,ek,rfl,hS⟩,q⟩:=h
  refine ⟨_,(Zd (Zz (i:=2) Jp.nd rfl (Or.inl rfl) (ZT qy rfl T.qd PyProof.Rows.Boot.«dict» (Za (Zv (pv 0) rfl) Ze)))
   (Zd (ZC (ZrU (pv 2) (pv 1) Eo ⟨rfl,rfl,rfl,rfl⟩))
   (Zd (Zz (i:=3) Jp.nd rfl (Or.inl rfl) (ZT qy rfl T.qd PyProof.Rows.Boot.«dict» (Za (Zv (pv 0) rfl) Ze)))
   (Zd (ZC (ZrU (pv 3) (pv 1) Eo ⟨rfl,rfl,rfl,rfl⟩))
   (Zh (Zt (oB T.Bx (Cc T) hr.dn rfl T.Be T.bE .nil Zc (Za (pv 2) (Za (pv 3) Ze))))))))),?_⟩
  refine ⟨_,rfl,p,_,dx,_,_,rfl,hS.ob,T.ZW,T.mm,lB _ _,da,dk,rfl,.inl hS.hd,fun a ha=>?_⟩;refine ⟨_,rfl,a,rfl,.inl ⟨_,.inl Zb⟩,_,rfl,Zuj (k:=.inl n) (z:=.aL) Zb fun _ H1 h1 k1=>?_⟩;have s1:ag H H1:=fun d o e=>k1 d o (Zg e ha) (by rw [Zf (Zg e ha)];exact e);refine ⟨_,rfl,p,_,dx,_,_,rfl,s1 _ _ hS.ob,T.ZW,T.Zu,gm _ _,ea,ek,rfl,.inl (s1 _ _ hS.he),fun b hb=>?_⟩;refine ⟨_,rfl,b,rfl,.inl ⟨_,.inl Zb⟩,_,rfl,Zuj (k:=.inl n) (z:=.aL) Zb fun _ H2 h2 k2=>?_⟩;have s2:ag H1 H2:=fun d o e=>k2 d o (Zg e hb) (by rw [Zf (Zg e hb)];exact e);have jm:=s1.trans s2;refine ⟨_,rfl,_,rfl,fun x iZ hx lX ne=>BL hx lX ne fun p2 gR H' s' eo=>?_⟩;refine q _ H' (jm.trans s') ⟨p2,gR,a,b,_,_,rfl,eo,s' _ _ (s2 _ _ h1),s' _ _ h2,?_,?_⟩
  ·exact (hS.rd.same Z1.mono (jm.trans s')).drop ee
  ·exact (hS.re.same gk.mono (jm.trans s')).drop ee
theorem Zsa (xs:List Int) (n:Int):pK (.int n) (xs.map V.int)=xs.contains n:=by
 unfold pK;rw [List.any_map]
 induction xs with
 | nil=>rfl
 | cons x r ih=>
  rw [W4,List.contains_cons,ih]
  congr 1
  show (x == n)=(n == x);exact Bool.beq_comm
theorem Zsu (xs:List Int):(xs.map V.int).all js=true:=by rw [List.all_map];exact List.all_eq_true.mpr fun _ _=>rfl
def qx (S:az) (p:Str):Except Rf az:=if eW p then (match fk S (Zw p) [0] with
 | .error r=>.error r
 | .ok ps=>if p="/" then .error .wrongKind else if ny S (ps.getLastD 0) then .ok (ZM S (ps.dropLast.getLastD 0) (Zm p)) else .error .bo) else .error .aK
theorem BE {S:az}:∀ {ns:List Str} {ps qs:List Int},ns≠[]->ps≠[]->fk S ns ps=.ok qs->∃ es,aa S.ent (qs.dropLast.getLastD 0)=some es/\aa es (ns.getLastD "")=some (qs.getLastD 0)/\2<=qs.length
 | [n],ps,qs,_,hp,h=>by
  rw [BD] at h
  cases h1:aa S.ent (ps.getLastD 0) with
  | none=>rw [h1] at h;cases h
  | some es=>
   rw [h1] at h;dsimp only at h
   cases h2:aa es n with
   | none=>rw [h2] at h;cases h
   | some i=>
    rw [h2] at h;dsimp only at h;rw [Bq] at h
    cases h
    refine ⟨es,?_,?_,?_⟩
    ·rw [List.dropLast_concat];exact h1
    ·show aa es n=some ((ps++[i]).getLastD 0);rw [h2];simp
    ·rw [Yf]
     have:0 < ps.length:=List.length_pos_iff.mpr hp
     show 2<=ps.length + 1;omega
 | n::m::ns,ps,qs,_,hp,h=>by
  rw [BD] at h
  cases h1:aa S.ent (ps.getLastD 0) with
  | none=>rw [h1] at h;cases h
  | some es=>
   rw [h1] at h;dsimp only at h
   cases h2:aa es n with
   | none=>rw [h2] at h;cases h
   | some i=>
    rw [h2] at h;exact BE (ns:=m::ns) (ps:=ps++[i]) (by simp) (by simp) h
theorem ye (ps:List Int) (h:2<=ps.length):fj (ps.map V.int) (-2)=some (.int (ps.dropLast.getLastD 0)):=by
 have hl:ps.length - 2 < ps.length:=by omega
 unfold fj mV;rw [if_neg (by decide),Yb,if_pos (by omega)];show (ps.map V.int)[(-2 + (ps.length:Int)).toNat]?=_;rw [show (-2 + (ps.length:Int)).toNat=ps.length - 2 by omega,Yo,Yh hl]
 have e:ps.dropLast.getLastD 0=ps[ps.length - 2]:=by
  have hd:ps.dropLast≠[]:=fun z=>by have:=congrArg List.length z;rw [YbH] at this;simp at this;omega
  rw [WT,YaM,YbH,List.getElem?_dropLast,if_pos (by omega),show ps.length - 1 - 1=ps.length - 2 by omega,Yh hl];rfl
 rw [e];rfl
def Zmh (g:Gs):Sp:=fun vs H Q _=>∃ v S d name es n,vs=[v,.int d,.str name]/\ZA g H S v/\gU S/\aa S.ent d=some es/\aa es name=some n/\(gW ⟨S.dat,af S.ent d (ZQ es name)⟩).length<=100000/\∀ v' H',ag H H'->ZA g H' (ZM S d name) v'->Q v' H'
theorem Cd:Zp ["state","directory","name","entries","number","changed"] ["state","directory","name"] (Zi Zfd):=ZN (by decide +kernel)
theorem Jn (T:Tx K mg g):ah P w K mg base (aA P w) 4 g.Iq g.Js ["state","directory","name"] (Zmh g):=by
 refine T.yG.aP Cd (fun vs H Q E h=>?_) (fun aq A outer s H vs Q E hr h=>?_)
 ·obtain ⟨v,S,d,name,es,n,rfl,_⟩:=h;rfl
 ·obtain ⟨v,S,d,name,es,n,rfl,j4,sm,hg,kH,dg,q⟩:=h;obtain ⟨p,dx,da,ea,dk,ek,rfl,hS⟩:=id j4;have hu:=u1 hr.units
  refine ⟨_,(Zd (Zz (i:=3) Cd.nd rfl (Or.inl rfl) (ZT qy rfl T.qd PyProof.Rows.Boot.«dict» (Za (jv hu (Zv (pv 0) rfl) (pv 1) (fun _ _=>rfl)) Ze)))
   (Zd (Zz (i:=4) Cd.nd rfl (Or.inl rfl) (ZrV (pv 3) (pv 2) ⟨rfl,rfl,rfl,rfl⟩))
   (Zd (Zz (i:=5) Cd.nd rfl (Or.inl rfl) (Zn (Jr T) hr.dn rfl T.Jd T.yt.kp T.bK .nil Zc (Za (pv 0) (Za (pv 1) (Za (pv 3) Ze)))))
   (Zd (Z0 (ZG Fv (pv 4) (Zn (Ze0 T) hr.dn rfl T.Zfr T.Cf.kp T.cD .nil Zc (Za (pv 5) Ze)) rfl) (Zh (Zt (pv 5))) Zx)
   (Zh (Zt (Zn (Zkq T) hr.dn rfl T.ZlB T.IT.kp T.fe .nil Zc (Za (pv 5) (Za (pv 4) Ze))))))))),?_⟩
  obtain ⟨ve,gu,⟨ae,rfl,gQ⟩⟩:=hS.re.yes ee hg;refine ⟨_,rfl,p,_,dx,_,_,rfl,hS.ob,T.ZW,T.Zu,gm _ _,_,rfl,ea,_,rfl,(by have:=aJ.k hS.he (k:=.inl d);rw [gu] at this;exact this),ae,_,rfl,.inl gQ,fun a ha=>?_⟩;refine ⟨_,rfl,a,rfl,.inl ⟨_,.inl Zb⟩,_,rfl,er es,.inr name,.int n,Zb,rfl,(by rw [vJ,kH];rfl),?_⟩;rw [Zu8];have s1:ag H (upd (upd H a (.dK (er es))) a (.dK (er (ZQ es name)))):=fun b o e=>by rw [Zf (Zg e ha),Zf (Zg e ha)];exact e
  have f1:=Zb (H:=upd H a (.dK (er es))) (a:=a) (o:=.dK (er (ZQ es name)));generalize upd (upd H a (.dK (er es))) a (.dK (er (ZQ es name)))=H1 at s1 f1 ⊢;refine ⟨_,rfl,_,rfl,_,rfl,.ref p,S,d,ZQ es name,_,rfl,ZA.mono _ _ _ _ s1 j4,⟨a,rfl,f1⟩,sm.e,fun v2 H2 s2 fF=>?_⟩;refine ⟨_,rfl,_,rfl,v2,_,rfl,fF,dg,fun l H3 s3 gw=>?_⟩;refine ⟨l,_,rfl,.inl (ar.of gw),rfl,Zsu _,_,rfl,?_⟩;rw [if_neg (by decide),Zsa];unfold ZM at q;rw [hg] at q;dsimp only at q;rw [kH,YD] at q;have dw:=(s1.trans s2).trans s3
  cases hc:(gW ⟨S.dat,af S.ent d (ZQ es name)⟩).contains n with
  | true=>
   rw [hc,if_pos rfl] at q;exact ay ⟨_,rfl,q _ _ dw (ZA.mono _ _ _ _ s3 fF)⟩
  | false=>
   rw [hc,if_neg (by decide)] at q;exact aw ⟨_,rfl,_,rfl,v2,_,n,rfl,ZA.mono _ _ _ _ s3 fF,fun v' H' s' h'=>q _ _ (dw.trans s') h'⟩
theorem Fs {S:az} {d:Int} {es:ao} (hn:S.ent.length<=100) (hm:∀ p∈S.ent,p.2.length<=100) (he:es.length<=100):(gW ⟨S.dat,af S.ent d es⟩).length<=100000:=by
 have key:∀ (xs:List (Int×ao)),(∀ p∈xs,p.2.length<=100)->((xs.map fun p=>p.2.map (·.2)).flatten).length<=100 * xs.length:=by
  intro xs
  induction xs with
  | nil=>intro _;exact Yv _
  | cons p r ih=>
   intro h;rw [Yt,Xh,Yf,Yb,Yz];have h1:=h p YA;have h2:=ih fun q hq=>h q (Yr _ hq);omega
 have h2:=key (af S.ent d es) fun p hp=>by
  rcases Fl hp with h | h
  ·exact hm p h
  ·rw [h];exact he
 have h3:=qp S.ent d es;show ((af S.ent d es).map fun p=>p.2.map (·.2)).flatten.length<=_;omega
def ZsL (g:Gs):Sp:=fun vs H Q E=>∃ v S p,vs=[v,.str p]/\ZA g H S v/\dI S/\(∀ q∈S.ent,q.2.length<=100)/\p.length<=1000/\dQ g (ZA g) H (qx S p) Q E
theorem ZkW:Zp ["state","path","passed"] ["state","path"] (Zi ZmW):=ZN (by decide +kernel)
theorem Zq4 (T:Tx K mg g):ah P w K mg base (aA P w) 5 g.fX g.Gj ["state","path"] (ZsL g):=by
 refine T.F_.aP ZkW (fun vs H Q E h=>?_) (fun aq A outer s H vs Q E hr h=>?_)
 ·obtain ⟨v,S,p,rfl,_⟩:=h;rfl
 ·obtain ⟨v,S,p,rfl,hS,so,hm,hl,q⟩:=h
  refine ⟨_,(Zd (ZC (Zn (wd T) hr.dn rfl T.vZ T.qC.kp T.a8 .nil Zc (Za (pv 1) Ze)))
   (Zd (Zz (i:=2) ZkW.nd rfl (Or.inl rfl) (Zn (Bo T) hr.dn rfl T.Bb T.vi.kp T.ip .nil Zc (Za (pv 0) (Za (Zn (mn T) hr.dn rfl T.ml T.Z7.kp T.aE .nil Zc (Za (pv 1) Ze)) Ze))))
   (Zd (Z0 (ZG fm (pv 1) Zr (ZO _)) (Zh (Z2 T.sY rfl T.qF (Za Zr Ze))) Zx)
   (Zd (ZC (Zn (ZgG T) hr.dn rfl T.ZhY T.B'.kp T.di .nil Zc (Za (pv 0) (Za (bw ZU (pv 2) (fH fK Zl) (fun _ _=>rfl)) Ze))))
   (Zh (Zt (Zn (Jn T) hr.dn rfl T.Jx T.yG.kp T.bz .nil Zc (Za (pv 0) (Za (bw ZU (pv 2) (fH fK Zl) (fun _ _=>rfl)) (Za (bw ZU (Zn (mn T) hr.dn rfl T.ml T.Z7.kp T.aE .nil Zc (Za (pv 1) Ze)) (fH fK Zl) (fun _ _=>rfl)) Ze)))))))))),?_⟩
  refine ⟨_,rfl,p,rfl,hl,?_⟩;unfold qx at q;unfold mr
  cases hb:eW p with
  | false=>
   rw [hb] at q;exact fun H' s'=>q H' s'
  | true=>
   rw [hb,if_pos rfl] at q;intro v1 H1 s1 _;refine ⟨_,rfl,_,rfl,p,rfl,hl,fun l H2 s2 hn cJ=>?_⟩;have jm:=s1.trans s2;refine ⟨v,S,l,Zw p,rfl,ZA.mono _ _ _ _ jm hS,cJ,?_,fun n hn=>?_,?_⟩
   ·have:=yA p;omega
   ·have:=yB p n hn;omega
   cases hw:fk S (Zw p) [0] with
   | error r=>
    rw [hw] at q;exact fun H' s'=>q H' (jm.trans s')
   | ok ps=>
    rw [hw] at q;dsimp only at q;intro v3 H3 s3 ⟨D,e,hD⟩;subst e;have dw:=jm.trans s3;refine ⟨_,rfl,rfl,_,rfl,?_⟩
    by_cases h0:p="/"
    ·rw [if_pos h0] at q;rw [decide_eq_true (show V.str p=V.str "/" by rw [h0])];exact ay ⟨aX 1,q _ dw⟩
    rw [if_neg h0] at q;rw [decide_eq_false (show ¬ V.str p=V.str "/" by intro z;injection z with z;exact h0 z)];obtain ⟨es,cg,g_,h2⟩:=BE (lK h0) (by decide) hw;refine aw ⟨_,rfl,_,rfl,_,rfl,D,_,_,_,rfl,rfl,ar.of hD,km ps (sN hw (by decide)).1,v,S,_,rfl,ZA.mono _ _ _ _ dw hS,?_⟩;unfold vU
    cases he:ny S (ps.getLastD 0) with
    | false=>
     rw [he,if_neg (by decide)] at q;exact fun H' s'=>q H' (dw.trans s')
    | true=>
     rw [he,if_pos rfl] at q;intro v4 H4 s4 _;have s14:=dw.trans s4;refine ⟨_,rfl,_,rfl,_,rfl,D,_,_,_,rfl,rfl,ar.of (s4 _ _ hD),ye ps h2,_,rfl,p,rfl,hl,fun l5 H5 s5 hn5 fE=>?_⟩;refine ⟨_,rfl,l5,_,_,_,rfl,rfl,ar.of fE,qt _ (lK h0),?_⟩;have De:gU S:=⟨by have:=so.n;omega,by have:=so.n;omega,fun n es e=>by have:=(so.ent n es e).1;omega⟩
     refine ⟨v,S,_,Zm p,es,_,rfl,ZA.mono _ _ _ _ (s14.trans s5) hS,De,cg,g_,?_,fun v' H' s' h'=>q _ _ ((s14.trans s5).trans s') h'⟩;refine Fs (by have:=so.n;omega) hm ?_;exact Yk (XA _ _) (by have:=(so.ent _ _ cg).1;omega)
def jw (S:az) (n:Int):Except Rf ao:=if ZE S n then (match aa S.dat n with
 | some _=>.error .wrongKind
 | none=>.ok ((aa S.ent n).getD [])) else .error .aB
def yi (n:Str):Except Rf Unit:=if ef n then .ok () else .error .aK
def Bl (F:bX) (p:Str):Except Rf bX:=match qx F.S p with
 | .error r=>.error r
 | .ok S=>gn F S F.k
def vp (F:bX) (n:Str):Except Rf bX:=if ef n then (if (aa F.k n).isSome then .error .bj else if 3<=F.k.length then .error .aM else gn F F.S (af F.k n F.S)) else .error .aK
def vO (F:bX) (n:Str):Except Rf bX:=if ef n then (if (aa F.k n).isSome then gn F F.S (ZQ F.k n) else .error .aB) else .error .aK
def ZqM (g:Gs):Sp:=fun vs H Q E=>∃ v S n,vs=[v,.int n]/\ZA g H S v/\dQ g gk H (jw S n) Q E
theorem ZnN:Zp ["state","number"] ["state","number"] (Zi ZjA):=ZN (by decide +kernel)
theorem Zn8 (T:Tx K mg g):ah P w K mg base (aA P w) 3 g.Gr g.HR ["state","number"] (ZqM g):=by
 refine T.Ia.aP ZnN (fun vs H Q E h=>?_) (fun aq A outer s H vs Q E hr h=>?_)
 ·obtain ⟨v,S,n,rfl,_⟩:=h;rfl
 ·obtain ⟨v,S,n,rfl,j4,q⟩:=h;have hu:=u1 hr.units
  refine ⟨_,(Zd (ZC (Zn (Jf T) hr.dn rfl T.Ie T.yx.kp T.bW .nil Zc (Za (pv 0) (Za (pv 1) Ze))))
   (Zd (Z0 (h9 (lD hu (pv 1) (Zv (pv 0) rfl))) (Zh (Z2 T.sY rfl T.qF (Za Zr Ze))) Zx)
   (Zh (Zt (jv hu (Zv (pv 0) rfl) (pv 1) (fun _ _=>rfl)))))),?_⟩
  refine ⟨_,rfl,_,rfl,v,S,n,rfl,j4,?_⟩;unfold vV;unfold jw at q
  cases hb:ZE S n with
  | false=>
   rw [hb] at q;exact fun H' s'=>q H' s'
  | true=>
   rw [hb,if_pos rfl] at q;intro v1 H1 s1 _;obtain ⟨p,dx,da,ea,dk,ek,rfl,hS⟩:=ZA.mono _ _ _ _ s1 j4;refine ⟨_,rfl,_,rfl,p,_,dx,_,_,rfl,hS.ob,T.ZW,T.mm,lB _ _,da,_,rfl,aJ.k hS.hd (k:=.inl n),_,rfl,?_⟩;rw [hS.rd.some ee]
   cases hg:aa S.dat n with
   | some es=>
    rw [hg] at q;exact ay ⟨aX 1,q _ s1⟩
   | none=>
    rw [hg] at q
    have hd:∃ es,aa S.ent n=some es:=by
     unfold ZE at hb;rw [hg,X4,Ya8] at hb;exact Option.isSome_iff_exists.mp hb
    obtain ⟨es,hd⟩:=hd;rw [hd] at q;obtain ⟨vr,gu,gE⟩:=hS.re.yes ee hd;refine aw ⟨_,rfl,p,_,dx,_,_,rfl,hS.ob,T.ZW,T.Zu,gm _ _,_,rfl,ea,vr,rfl,(by have:=aJ.k hS.he (k:=.inl n);rw [gu] at this;exact this),?_⟩;exact q _ _ s1 gE
def ZqP (g:Gs):Sp:=fun vs H Q E=>∃ n,vs=[.str n]/\n.length<=1000/\dQ g lu H (yi n) Q E
theorem ZnP:Zp ["name"] ["name"] (Zi ZjC):=ZN (by decide +kernel)
theorem ZhU (T:Tx K mg g):ah P w K mg base (aA P w) 2 g.GU g.HP ["name"] (ZqP g):=by
 refine T.B7.aP ZnP (fun vs H Q E h=>?_) (fun aq A outer s H vs Q E hr h=>?_)
 ·obtain ⟨p,rfl,_⟩:=h;rfl
 ·obtain ⟨p,rfl,hl,q⟩:=h;refine ⟨_,(Zh (Z0 (nz (md (Zn (Znc T) hr.dn rfl T.ZpR T.BA.kp T.g4 .nil Zc (Za (pv 0) Ze)))) (Zh (Z2 T.Zo1 rfl T.FK (Za (vz (vy (pv 0) (vx vw))) Ze))) Zx)),?_⟩;refine ⟨_,rfl,p,rfl,Zs hl (by decide),fun H1 s1=>⟨_,rfl,?_⟩⟩
  cases hb:ef p with
  | true=>exact aw (q.ok (x:=()) (by unfold yi;rw [hb];rfl) _ _ s1 rfl)
  | false=>
   refine ay ?_;refine ⟨_,rfl,p,rfl,Zs hl (by decide),?_,?_,?_,?_,q.no (r:=.aK) (by unfold yi;rw [hb];rfl) _ s1⟩
   ·rw [ZX];exact Zs (m:=1000) (by show 0 + p.length<=1000;omega) (by decide)
   ·rw [ZX,ZX];exact Zs (m:=1100) (by show 0 + p.length + 11<=1100;omega) (by decide)
   ·rw [ZX,ZX];exact Zs (m:=1100) (by show 0 + p.length + 11<=1100;omega) (by decide)
   ·exact aX 1
def Zpg (g:Gs):Sp:=fun vs H Q E=>∃ f q p b l F pa,vs=[.ref f,.str pa]/\cF g H f q p b l F/\dI F.S/\(∀ q∈F.S.ent,q.2.length<=100)/\pa.length<=1000/\(∀ S,qx F.S pa=.ok S->dI S)/\hZ F.k/\lx F.T.synced/\(match Bl F pa with
 | .error r=>∀ H',ag H H'->E (.ref (g.xa r)) none H'
 | .ok F'=>∀ H',fT f H H'->cF g H' f q p b l F'->Q .aL H')
theorem Zk0:Zp ["self","path"] ["self","path"] (Zi ZgB):=ZN (by decide +kernel)
theorem Zls (T:Tx K mg g):ah P w K mg base (aA P w) 7 g.HF g.IY ["self","path"] (Zpg g):=by
 refine T.ZgN.aP Zk0 (fun vs H Q E h=>?_) (fun aq A outer s H vs Q E hr h=>?_)
 ·obtain ⟨f,q0,p,b,l,F,pa,rfl,_⟩:=h;rfl
 ·obtain ⟨f,q0,p,b,l,F,pa,rfl,cK,so,hm,hl,lR,kk,po,q⟩:=h;obtain ⟨dx,sv,kv,iv,hF⟩:=id cK
  refine ⟨_,(Zd (ZC (lJ (pv 0) T.Zq T.ZL (ZH T) hr.dn T.ai .nil Zc))
   (Zh (ZC (ZP (pv 0) T.Zq T.qA (qB T) hr.dn T.aF .nil Zc (Za (Zn (Zq4 T) hr.dn rfl T.Zti T.F_.kp T.jU .nil Zc (Za (Zv (pv 0) rfl) (Za (pv 1) Ze))) (Za (Zv (pv 0) rfl) Ze)))))),?_⟩
  refine ⟨_,rfl,f,dx,_,rfl,hF.ob,Z6 _ _ _ _,?_⟩;refine ⟨f,dx,_,_,_,_,rfl,hF.ob,.inr ⟨⟨q0,rfl⟩,?_⟩⟩;refine ⟨_,rfl,f,dx,_,rfl,hF.ob,Z6 _ _ _ _,_,rfl,f,_,dx,_,_,rfl,hF.ob,T.Zq,T.ZK,jr _ _ _ _,_,rfl,?_⟩;refine ⟨sv,F.S,pa,rfl,hF.st,so,hm,hl,?_⟩;unfold Bl at q
  cases hm:qx F.S pa with
  | error r=>
   rw [hm] at q;exact fun H' s'=>q H' s'
  | ok S=>
   rw [hm] at q;dsimp only at q;intro v2 H2 s2 fF;have lZ:=cK.same s2;refine ⟨_,rfl,f,_,dx,_,_,rfl,s2 _ _ hF.ob,T.Zq,T.ZY,ly _ _ _ _,?_⟩;refine ⟨f,q0,p,b,l,F,v2,kv,S,F.k,rfl,lZ,fF,eB.mono _ _ _ _ s2 hF.ke,lR S hm,kk,po,?_⟩
   cases ht:gn F S F.k with
   | error r=>
    rw [ht] at q;exact fun H' s'=>q H' (s2.trans s')
   | ok F'=>
    rw [ht] at q;exact fun H' b1 h'=>q H' (fun d o e hd=>b1 _ _ (s2 _ _ e) hd) h'
def Zyo (H:Hp) (es:ao) (l:Addr):Prop:=∃ as:List Addr,H l=some (.lst (as.map V.ref))/\as.length=es.length/\∀ (j:Nat) a p,as[j]?=some a->es[j]?=some p->H a=some (.tup [.str p.1,.int p.2])
def ZvR (g:Gs):Sp:=fun vs H Q E=>∃ f dx sv k t i S n,vs=[.ref f,.int n]/\H f=some (.ins g.ak dx (cL sv k t i))/\ZA g H S sv/\dI S/\(match jw S n with
 | .error r=>∀ H',ag H H'->E (.ref (g.xa r)) none H'
 | .ok es=>∀ l H',ag H H'->H l=none->Zyo H' (bB es) l->Q (.ref l) H')
theorem Zmp:Zp ["self","number"] ["self","number"] (Zi ZhK):=ZN (by decide +kernel)
theorem yv (T:Tx K mg g):ah P w K mg base (aA P w) 4 g.G2 g.IB ["self","number"] (ZvR g):=by
 refine T.Zim.aP Zmp (fun vs H Q E h=>?_) (fun aq A outer s H vs Q E hr h=>?_)
 ·obtain ⟨f,dx,sv,k,t,i,S,n,rfl,_⟩:=h;rfl
 ·obtain ⟨f,dx,sv,k,t,i,S,n,rfl,hf,hS,so,q⟩:=h;refine ⟨_,(Zh (Zt (ZD Zj8 (by rfl) T.sU PyProof.Rows.Boot.«sorted» (Za (vq YW Yba Ya9 Fq (Zn (Zn8 T) hr.dn rfl T.ZpT T.Ia.kp T.iA .nil Zc (Za (Zv (pv 0) rfl) (Za (pv 1) Ze)))) Ze)))),?_⟩;refine ⟨_,rfl,f,_,dx,_,_,rfl,hf,T.Zq,T.ZK,jr _ _ _ _,_,rfl,sv,S,n,rfl,hS,?_⟩
  cases hd:jw S n with
  | error r=>
   rw [hd] at q;exact fun H' s'=>q H' s'
  | ok es=>
   rw [hd] at q;dsimp only at q;intro u H1 s1 ⟨a,e,ha⟩;subst e
   have iN:es.length < 64:=by
    unfold jw at hd
    split at hd
    ·split at hd
     ·cases hd
     ·cases hd
      cases he:aa S.ent n with
      | none=>decide
      | some es=>exact (so.ent n es he).1
    ·cases hd
   refine ⟨.inr (.inr (.inl ⟨rfl,.inl ⟨_,ha⟩⟩)),a,.dK _,rfl,rfl,.inl ha,rfl,fun r ei=>?_⟩;have s2:=Zj (o:=vf r a) ei;refine ⟨r,a,es,rfl,Zb,.inl (s2 _ _ ha),iN,fun l as H' s' hn hl hlen _ hp=>?_⟩;exact q l H' ((s1.trans s2).trans s') (Fu (s1.trans s2) hn) ⟨as,hl,hlen,hp⟩
def ZvQ (g:Gs):Sp:=fun vs H Q _=>∃ f dx sv kv t i k,vs=[.ref f]/\H f=some (.ins g.ak dx (cL sv kv t i))/\eB g H k kv/\k.length < 64/\∀ l H',ag H H'->H l=none->H' l=some (.lst ((eV (k.map (·.1))).map V.str))->Q (.ref l) H'
theorem Zmo:Zp ["self"] ["self"] (Zi ZhJ):=ZN (by decide +kernel)
theorem ZgI (T:Tx K mg g):ah P w K mg base (aA P w) 1 g.G3 g.IC ["self"] (ZvQ g):=by
 refine T.Zil.aP Zmo (fun vs H Q E h=>?_) (fun aq A outer s H vs Q E hr h=>?_)
 ·obtain ⟨f,dx,sv,kv,t,i,k,rfl,_⟩:=h;rfl
 ·obtain ⟨f,dx,sv,kv,t,i,k,rfl,hf,⟨a,kvs,rfl,ha,hd⟩,iN,q⟩:=h;refine ⟨_,(Zh (Zt (ZD Zj9 (by rfl) T.sU PyProof.Rows.Boot.«sorted» (Za (Zv (pv 0) rfl) Ze)))),?_⟩;refine ⟨_,rfl,f,_,dx,_,_,rfl,hf,T.Zq,T.ZY,ly _ _ _ _,a,kvs,k.map (·.1),rfl,.inl ha,hd.qL,(by rw [Yb];exact iN),fun l hl=>?_⟩;exact q l _ (Zj hl) hl Zb
def ZqQ (g:Gs):Sp:=fun vs H Q E=>∃ f dx sv kv t i k n,vs=[.ref f,.str n]/\H f=some (.ins g.ak dx (cL sv kv t i))/\eB g H k kv/\n.length<=1000/\dQ g lu H (if (aa k n).isSome then .ok () else .error .aB) Q E
theorem ZgT:Zp ["self","name"] ["self","name"] (Zi Zdi):=ZN (by decide +kernel)
theorem ZgX (T:Tx K mg g):ah P w K mg base (aA P w) 1 g.Jj g.JD ["self","name"] (ZqQ g):=by
 refine T.ZdD.aP ZgT (fun vs H Q E h=>?_) (fun aq A outer s H vs Q E hr h=>?_)
 ·obtain ⟨f,dx,sv,kv,t,i,k,n,rfl,_⟩:=h;rfl
 ·obtain ⟨f,dx,sv,kv,t,i,k,n,rfl,hf,⟨a,kvs,rfl,ha,hd⟩,hl,q⟩:=h;have hu:=u1 hr.units;refine ⟨_,(Zh (Z0 (h9 (vR hu (pv 1) (Zv (pv 0) rfl))) (Zh (Z2 T.F1 rfl T.BJ (Za (vz (vx (vy (pv 1) vw))) Ze))) Zx)),?_⟩;refine ⟨_,rfl,_,rfl,f,_,dx,_,_,rfl,hf,T.Zq,T.ZY,ly _ _ _ _,a,_,rfl,aJ.k ha (k:=.inr n),_,rfl,?_⟩;rw [hd.some vE]
  cases hb:(aa k n).isSome with
  | true=>
   rw [hb,if_pos rfl] at q;exact aw (q _ _ (ag.refl _) rfl)
  | false=>
   rw [hb,if_neg (by decide)] at q;refine ay ?_;refine ⟨?_,_,rfl,n,rfl,Zs hl (by decide),?_,?_,aX 1,q _ (ag.refl _)⟩
   ·rw [ZX];exact Zs (m:=100) (by decide) (by decide)
   ·rw [ZX,ZX];exact Zs (m:=2100) (by show 0 + 21 + n.length<=2100;omega) (by decide)
   ·rw [ZX,ZX];exact Zs (m:=2100) (by show 0 + 21 + n.length<=2100;omega) (by decide)
theorem hZ.put {k:Kept} (h:hZ k) {n:Str} {S:az} (hn:ef n=true) (so:dI S) (hl:¬ 3<=k.length):hZ (af k n S):=by
 refine ⟨?_,fun m S' e=>?_⟩
 ·have:=qp k n S;omega
 ·rw [ZV] at e
  by_cases z:m=n
  ·rw [if_pos z] at e;cases e;rw [z];exact ⟨hn,so⟩
  ·rw [if_neg z] at e;exact h.nm m S' e
theorem sX {κ α:Type} [DecidableEq κ] {k m:κ} {x:α}:∀ {xs:List (κ×α)},aa (ZQ xs k) m=some x->aa xs m=some x
 | [],h=>by cases h
 | p::r,h=>by
  unfold ZQ at h
  by_cases z:p.1=k
  ·rw [Wn (by simp [z])] at h;have ih:=sX (xs:=r) (k:=k) h
   by_cases y:p.1=m
   ·exfalso
    have hm:=sR h;rw [List.mem_filter] at hm
    have:=hm.2
    simp at this
    exact this (y.symm.trans z)
   ·rw [ZZ y];exact ih
  ·rw [Wm (by simp [z])] at h
   by_cases y:p.1=m
   ·rw [fI y] at h ⊢;exact h
   ·rw [ZZ y] at h ⊢;exact sX (xs:=r) (k:=k) h
theorem hZ.drop {k:Kept} (h:hZ k) (n:Str):hZ (ZQ k n):=⟨Yk (XA _ _) h.n,fun m S e=>h.nm m S (sX e)⟩
def Zt4 (g:Gs):Sp:=fun vs H Q E=>∃ f q p b l F n,vs=[.ref f,.str n]/\cF g H f q p b l F/\dI F.S/\n.length<=1000/\hZ F.k/\lx F.T.synced/\(match vp F n with
 | .error r=>∀ H',ag H H'->E (.ref (g.xa r)) none H'
 | .ok F'=>∀ H',fT f H H'->cF g H' f q p b l F'->Q .aL H')
theorem ZhA:Zp ["self","name","kept"] ["self","name"] (Zi ZjK):=ZN (by decide +kernel)
theorem Zof (T:Tx K mg g):ah P w K mg base (aA P w) 7 g.Gf g.HD ["self","name"] (Zt4 g):=by
 refine T.Zkg.aP ZhA (fun vs H Q E h=>?_) (fun aq A outer s H vs Q E hr h=>?_)
 ·obtain ⟨f,q0,p,b,l,F,n,rfl,_⟩:=h;rfl
 ·obtain ⟨f,q0,p,b,l,F,n,rfl,cK,so,hl,kk,po,q⟩:=h;obtain ⟨dx,sv,kv,iv,hF⟩:=id cK;have hu:=u1 hr.units
  refine ⟨_,(Zd (ZC (lJ (pv 0) T.Zq T.ZL (ZH T) hr.dn T.ai .nil Zc))
   (Zd (ZC (Zn (ZhU T) hr.dn rfl T.Zj0 T.B7.kp T.d7 .nil Zc (Za (pv 1) Ze)))
   (Zd (Z0 (h9 (lD hu (pv 1) (Zv (pv 0) rfl))) (Zh (Z2 T.FZ rfl T.BI (Za (vz (vx (vy (pv 1) vw))) Ze))) Zx)
   (Zd (Z0 (ZG Zzd (ZD FT (by rfl) T.eu YC (Za (Zv (pv 0) rfl) Ze)) (ZJ (v:=.int 3) rfl T.Zkr ⟨_,rfl⟩) (ZO _)) (Zh (Z2 T.vY rfl T.tj (Za Zr Ze))) Zx)
   (Zd (Zz (i:=2) ZhA.nd rfl (Or.inl rfl) (ZT qy rfl T.qd PyProof.Rows.Boot.«dict» (Za (Zv (pv 0) rfl) Ze)))
   (Zd (sM hu (pv 2) (pv 1) (Zv (pv 0) rfl) rfl)
   (Zh (ZC (ZP (pv 0) T.Zq T.qA (qB T) hr.dn T.aF .nil Zc (Za (Zv (pv 0) rfl) (Za (pv 2) Ze))))))))))),?_⟩
  refine ⟨_,rfl,f,dx,_,rfl,hF.ob,Z6 _ _ _ _,?_⟩;refine ⟨f,dx,_,_,_,_,rfl,hF.ob,.inr ⟨⟨q0,rfl⟩,?_⟩⟩;refine ⟨_,rfl,n,rfl,hl,?_⟩;unfold vp at q;unfold yi
  cases hb:ef n with
  | false=>
   rw [hb] at q;exact fun H' s'=>q H' s'
  | true=>
   rw [hb,if_pos rfl] at q;intro v1 H1 s1 _;obtain ⟨ka,kvs,rfl,mZ,hd⟩:=eB.mono _ _ _ _ s1 hF.ke;have gj:=s1 _ _ hF.ob;refine ⟨_,rfl,_,rfl,f,_,dx,_,_,rfl,gj,T.Zq,T.ZY,ly _ _ _ _,ka,_,rfl,aJ.k mZ (k:=.inr n),_,rfl,?_⟩;rw [hd.some vE]
   cases hk:(aa F.k n).isSome with
   | true=>
    rw [hk,if_pos rfl] at q;refine ay ?_;refine ⟨?_,_,rfl,n,rfl,Zs hl (by decide),?_,?_,aX 1,q _ s1⟩
    ·rw [ZX];exact Zs (m:=100) (by decide) (by decide)
    ·rw [ZX,ZX];exact Zs (m:=2100) (by show 0 + 20 + n.length<=2100;omega) (by decide)
    ·rw [ZX,ZX];exact Zs (m:=2100) (by show 0 + 20 + n.length<=2100;omega) (by decide)
   | false=>
    rw [hk,if_neg (by decide)] at q;refine aw ⟨_,rfl,f,_,dx,_,_,rfl,gj,T.Zq,T.ZY,ly _ _ _ _,ka,_,rfl,mZ,_,_,rfl,rfl,_,rfl,?_⟩;rw [hd.len]
    by_cases h3:3<=F.k.length
    ·rw [if_pos h3] at q;rw [decide_eq_true (show (3:Int)<=(F.k.length:Int) by omega)];exact ay ⟨aX 1,q _ s1⟩
    ·rw [if_neg h3] at q;rw [decide_eq_false (show ¬ (3:Int)<=(F.k.length:Int) by omega)];refine aw ⟨_,rfl,f,_,dx,_,_,rfl,gj,T.Zq,T.ZY,ly _ _ _ _,ka,kvs,rfl,.inl mZ,fun a ha=>?_⟩;have s2:=Zj (o:=.dK kvs) ha;have kC:=s2 _ _ gj;refine ⟨_,rfl,f,_,dx,_,_,rfl,kC,T.Zq,T.ZK,jr _ _ _ _,_,rfl,_,rfl,a,_,rfl,dU.k (k:=.inr n) Zb (lt_size (by rw [hd.len];omega)),?_⟩;have s3:ag H1 (upd (upd H1 a (.dK kvs)) a (.dK (putK kvs (.inr n) sv))):=fun b o e=>by rw [Zf (Zg e ha),Zf (Zg e ha)];exact e
     have f3:=Zb (H:=upd H1 a (.dK kvs)) (a:=a) (o:=.dK (putK kvs (.inr n) sv));generalize upd (upd H1 a (.dK kvs)) a (.dK (putK kvs (.inr n) sv))=H3 at s3 f3 ⊢;have dw:=s1.trans s3;have rT:=ZA.mono _ _ _ _ dw hF.st;refine ⟨_,rfl,f,dx,_,rfl,dw _ _ hF.ob,Z6 _ _ _ _,_,rfl,f,_,dx,_,_,rfl,dw _ _ hF.ob,T.Zq,T.ZK,jr _ _ _ _,_,rfl,?_⟩;refine ⟨f,q0,p,b,l,F,sv,_,F.S,af F.k n F.S,rfl,cK.same dw,rT,⟨a,_,rfl,f3,(hd.same ZA.mono s3).put vE rT⟩,so,kk.put hb so h3,po,?_⟩
     cases ht:gn F F.S (af F.k n F.S) with
     | error r=>
      rw [ht] at q;exact fun H' s'=>q H' (dw.trans s')
     | ok F'=>
      rw [ht] at q;exact fun H' b1 h'=>q H' (fun d o e hd=>b1 _ _ (dw _ _ e) hd) h'
def Zpf (g:Gs):Sp:=fun vs H Q E=>∃ f q p b l F n,vs=[.ref f,.str n]/\cF g H f q p b l F/\dI F.S/\n.length<=1000/\hZ F.k/\lx F.T.synced/\(match vO F n with
 | .error r=>∀ H',ag H H'->E (.ref (g.xa r)) none H'
 | .ok F'=>∀ H',fT f H H'->cF g H' f q p b l F'->Q .aL H')
theorem Zfb:Zp ["self","name","kept"] ["self","name"] (Zi ZgA):=ZN (by decide +kernel)
theorem Zlr (T:Tx K mg g):ah P w K mg base (aA P w) 7 g.HG g.IZ ["self","name"] (Zpf g):=by
 refine T.ZgM.aP Zfb (fun vs H Q E h=>?_) (fun aq A outer s H vs Q E hr h=>?_)
 ·obtain ⟨f,q0,p,b,l,F,n,rfl,_⟩:=h;rfl
 ·obtain ⟨f,q0,p,b,l,F,n,rfl,cK,so,hl,kk,po,q⟩:=h;obtain ⟨dx,sv,kv,iv,hF⟩:=id cK
  refine ⟨_,(Zd (ZC (lJ (pv 0) T.Zq T.ZL (ZH T) hr.dn T.ai .nil Zc))
   (Zd (ZC (Zn (ZhU T) hr.dn rfl T.Zj0 T.B7.kp T.d7 .nil Zc (Za (pv 1) Ze)))
   (Zd (ZC (ZP (pv 0) T.Zq T.Zh7 (ZgX T) hr.dn T.dG .nil Zc (Za (pv 1) Ze)))
   (Zd (Zz (i:=2) Zfb.nd rfl (Or.inl rfl) (ZT qy rfl T.qd PyProof.Rows.Boot.«dict» (Za (Zv (pv 0) rfl) Ze)))
   (Zd (ZC (ZrV (pv 2) (pv 1) ⟨rfl,rfl,rfl,rfl⟩))
   (Zh (ZC (ZP (pv 0) T.Zq T.qA (qB T) hr.dn T.aF .nil Zc (Za (Zv (pv 0) rfl) (Za (pv 2) Ze)))))))))),?_⟩
  refine ⟨_,rfl,f,dx,_,rfl,hF.ob,Z6 _ _ _ _,?_⟩;refine ⟨f,dx,_,_,_,_,rfl,hF.ob,.inr ⟨⟨q0,rfl⟩,?_⟩⟩;refine ⟨_,rfl,n,rfl,hl,?_⟩;unfold vO at q;unfold yi
  cases hb:ef n with
  | false=>
   rw [hb] at q;exact fun H' s'=>q H' s'
  | true=>
   rw [hb,if_pos rfl] at q;intro v1 H1 s1 _;have gj:=s1 _ _ hF.ob;refine ⟨_,rfl,f,dx,_,rfl,gj,Z6 _ _ _ _,_,rfl,f,dx,_,_,_,_,F.k,n,rfl,gj,eB.mono _ _ _ _ s1 hF.ke,hl,?_⟩
   cases hk:(aa F.k n).isSome with
   | false=>
    rw [hk,if_neg (by decide)] at q;exact fun H' s'=>q H' (s1.trans s')
   | true=>
    rw [hk,if_pos rfl] at q;intro v2 H2 s2 _;have jm:=s1.trans s2;obtain ⟨ka,kvs,rfl,mZ,hd⟩:=eB.mono _ _ _ _ jm hF.ke;refine ⟨_,rfl,f,_,dx,_,_,rfl,jm _ _ hF.ob,T.Zq,T.ZY,ly _ _ _ _,ka,kvs,rfl,.inl mZ,fun a ha=>?_⟩;obtain ⟨S0,hS0⟩:=Option.isSome_iff_exists.mp hk;obtain ⟨v0,hv0,_⟩:=hd.yes vE hS0;refine ⟨_,rfl,a,rfl,.inl ⟨_,.inl Zb⟩,_,rfl,kvs,.inr n,v0,Zb,rfl,hv0,?_⟩;have s3:ag H2 (upd (upd H2 a (.dK kvs)) a (.dK (gz kvs (.inr n)))):=fun b o e=>by rw [Zf (Zg e ha),Zf (Zg e ha)];exact e
    have f3:=Zb (H:=upd H2 a (.dK kvs)) (a:=a) (o:=.dK (gz kvs (.inr n)));generalize upd (upd H2 a (.dK kvs)) a (.dK (gz kvs (.inr n)))=H3 at s3 f3 ⊢;have dw:=jm.trans s3;have rT:=ZA.mono _ _ _ _ dw hF.st;refine ⟨_,rfl,f,dx,_,rfl,dw _ _ hF.ob,Z6 _ _ _ _,_,rfl,f,_,dx,_,_,rfl,dw _ _ hF.ob,T.Zq,T.ZK,jr _ _ _ _,_,rfl,?_⟩;refine ⟨f,q0,p,b,l,F,sv,_,F.S,ZQ F.k n,rfl,cK.same dw,rT,⟨a,_,rfl,f3,(hd.same ZA.mono s3).drop vE⟩,so,kk.drop n,po,?_⟩
    cases ht:gn F F.S (ZQ F.k n) with
    | error r=>
     rw [ht] at q;exact fun H' s'=>q H' (dw.trans s')
    | ok F'=>
     rw [ht] at q;exact fun H' b1 h'=>q H' (fun d o e hd=>b1 _ _ (dw _ _ e) hd) h'
def qu (S:az) (n t:Int):Except Rf Unit:=if kindOf S n=kindOf S t then vU S t else .error .wrongKind
def gB (ps:List Int):Int:=ps.dropLast.getLastD 0
def A6 (S:az) (ps as:List Int) (old new:Str):az:=ZM (Z5 S (as.getLastD 0) (Zm new) (ps.getLastD 0)) (gB ps) (Zm old)
def EI (S:az) (ps as:List Int) (old new:Str):Except Rf az:=match aa ((aa S.ent (as.getLastD 0)).getD []) (Zm new) with
 | some t=>if t=ps.getLastD 0 then .ok S else (match qu S (ps.getLastD 0) t with
  | .error r=>.error r
  | .ok _=>.ok (A6 (ZM S (as.getLastD 0) (Zm new)) ps as old new))
 | none=>if as.getLastD 0≠gB ps/\40<=((aa S.ent (as.getLastD 0)).getD []).length then .error .aM else .ok (A6 S ps as old new)
def qr (S:az) (old new:Str):Except Rf az:=if !eW old then .error .aK else if !eW new then .error .aK else
 match fk S (Zw old) [0] with
 | .error r=>.error r
 | .ok ps=>if old="/"∨new="/" then .error .wrongKind else match kl S new with
  | .error r=>.error r
  | .ok as=>if as.contains (ps.getLastD 0) then .error .wrongKind else EI S ps as old new
structure u6 (S:az) (ps as:List Int) (old new:Str):Prop where
 sm:gU S
 en:∃ es,aa S.ent (as.getLastD 0)=some es
 CI:gU (Z5 S (as.getLastD 0) (Zm new) (ps.getLastD 0))
 DS:∃ es n,aa (Z5 S (as.getLastD 0) (Zm new) (ps.getLastD 0)).ent (gB ps)=some es/\aa es (Zm old)=some n/\
  (gW ⟨(Z5 S (as.getLastD 0) (Zm new) (ps.getLastD 0)).dat,af (Z5 S (as.getLastD 0) (Zm new) (ps.getLastD 0)).ent (gB ps) (ZQ es (Zm old))⟩).length<=100000
theorem Gk {S:az} {p:Str} {as:List Int} (h:kl S p=.ok as):as≠[]/\∃ es,aa S.ent (as.getLastD 0)=some es:=by
 unfold kl at h
 cases h2:fk S (Zw p).dropLast [0] with
 | error r=>rw [h2] at h;cases h
 | ok qs=>
  rw [h2] at h;dsimp only at h
  cases h3:aa S.ent (qs.getLastD 0) with
  | none=>rw [h3] at h;cases h
  | some es=>
   rw [h3] at h
   cases h
   exact ⟨(sN h2 (by decide)).1,es,h3⟩
def ZqN (g:Gs):Sp:=fun vs H Q E=>∃ v S n t,vs=[v,.int n,.int t]/\ZA g H S v/\dQ g lu H (qu S n t) Q E
theorem Zgo:Zp ["state","number","there"] ["state","number","there"] (Zi ZcU):=ZN (by decide +kernel)
theorem Zgp (T:Tx K mg g):ah P w K mg base (aA P w) 2 g.JG g.Jz ["state","number","there"] (ZqN g):=by
 refine T.Jy.aP Zgo (fun vs H Q E h=>?_) (fun aq A outer s H vs Q E hr h=>?_)
 ·obtain ⟨v,S,n,t,rfl,_⟩:=h;rfl
 ·obtain ⟨v,S,n,t,rfl,hS,q⟩:=h
  refine ⟨_,(Zd (Z0 (ZG Ee (Zn (GJ T) hr.dn rfl T.FN T.yh.kp T.eF .nil Zc (Za (pv 0) (Za (pv 1) Ze))) (Zn (GJ T) hr.dn rfl T.FN T.yh.kp T.eF .nil Zc (Za (pv 0) (Za (pv 2) Ze))) (ZO _)) (Zh (Z2 T.sY rfl T.qF (Za Zr Ze))) Zx)
   (Zh (ZC (Zn (ZgG T) hr.dn rfl T.ZhY T.B'.kp T.di .nil Zc (Za (pv 0) (Za (pv 2) Ze)))))),?_⟩
  refine ⟨_,rfl,_,rfl,v,S,n,rfl,hS,_,rfl,_,rfl,v,S,t,rfl,hS,rfl,_,rfl,?_⟩;unfold qu at q
  by_cases h:kindOf S n=kindOf S t
  ·rw [if_pos h] at q;refine Zzq (by rw [h]) ?_;refine ⟨_,rfl,_,rfl,v,S,t,rfl,hS,?_⟩
   cases hce:vU S t with
   | error r=>
    rw [hce] at q;exact fun H' s'=>q H' s'
   | ok u=>
    rw [hce] at q;intro v1 H1 s1 _;exact q _ _ s1 rfl
  ·rw [if_neg h] at q;rw [decide_eq_false (show ¬ V.str (kindOf S n)=V.str (kindOf S t) by intro z;injection z with z;exact h z)];exact ay ⟨aX 1,q _ (ag.refl _)⟩
def ZtX (g:Gs):Sp:=fun vs H Q E=>∃ v S old new,vs=[v,.str old,.str new]/\ZA g H S v/\gU S/\old.length<=1000/\new.length<=1000/\
 (∀ ps as,eW new=true->fk S (Zw old) [0]=.ok ps->kl S new=.ok as->old≠"/"->new≠"/"->as.contains (ps.getLastD 0)=false->
  (aa ((aa S.ent (as.getLastD 0)).getD []) (Zm new)=none->u6 S ps as old new)/\
  (∀ t,aa ((aa S.ent (as.getLastD 0)).getD []) (Zm new)=some t->t≠ps.getLastD 0->qu S (ps.getLastD 0) t=.ok ()->(gW ⟨S.dat,af S.ent (as.getLastD 0) (ZQ ((aa S.ent (as.getLastD 0)).getD []) (Zm new))⟩).length<=100000/\u6 (ZM S (as.getLastD 0) (Zm new)) ps as old new))/\
 dQ g (ZA g) H (qr S old new) Q E
theorem oO:Zp ["state","old","new","passed","number","ahead","name","there","changed"] ["state","old","new"] (Zi Zpx):=ZN (by decide +kernel)
theorem Ztb (T:Tx K mg g):ah P w K mg base (aA P w) 5 g.renamed g.Fy ["state","old","new"] (ZtX g):=by
 refine T.Fp.aP oO (fun vs H Q E h=>?_) (fun aq A outer s H vs Q E hr h=>?_)
 ·obtain ⟨v,S,old,new,rfl,_⟩:=h;rfl
 ·obtain ⟨v,S,old,new,rfl,hS,sm,kF,lU,mO,q⟩:=h;have hu:=u1 hr.units
  refine ⟨_,(Zd (ZC (Zn (wd T) hr.dn rfl T.vZ T.qC.kp T.a8 .nil Zc (Za (pv 1) Ze)))
   (Zd (ZC (Zn (wd T) hr.dn rfl T.vZ T.qC.kp T.a8 .nil Zc (Za (pv 2) Ze)))
   (Zd (Zz (i:=3) oO.nd rfl (Or.inl rfl) (Zn (Bo T) hr.dn rfl T.Bb T.vi.kp T.ip .nil Zc (Za (pv 0) (Za (Zn (mn T) hr.dn rfl T.ml T.Z7.kp T.aE .nil Zc (Za (pv 1) Ze)) Ze))))
   (Zd (Z0 (PW.pt (l' (ZG fm (pv 1) Zr (ZO _)) (qf (ZG fm (pv 2) Zr (ZO _))))) (Zh (Z2 T.sY rfl T.qF (Za Zr Ze))) Zx)
   (Zd (Zz (i:=4) oO.nd rfl (Or.inl rfl) (bw ZU (pv 3) (fH fK Zl) (fun _ _=>rfl)))
   (Zd (Zz (i:=5) oO.nd rfl (Or.inl rfl) (Zn (Zcw T) hr.dn rfl T.Zc1 T.Cm.kp T.bA .nil Zc (Za (pv 0) (Za (pv 2) Ze))))
   (Zd (Z0 (ZG Fv (pv 4) (pv 5) rfl) (Zh (Z2 T.sY rfl T.qF (Za Zr Ze))) Zx)
   (Zd (Zz (i:=6) oO.nd rfl (Or.inl rfl) (bw ZU (Zn (mn T) hr.dn rfl T.ml T.Z7.kp T.aE .nil Zc (Za (pv 2) Ze)) (fH fK Zl) (fun _ _=>rfl)))
   (Zd (Zz (i:=7) oO.nd rfl (Or.inl rfl) (Zv5 hu (jv hu (Zv (pv 0) rfl) (bw ZU (pv 5) (fH fK Zl) (fun _ _=>rfl)) (fun _ _=>rfl)) (pv 6) ⟨rfl,rfl,rfl,rfl⟩))
   (Zd (Z0 (ZG fm (pv 7) (pv 4) (ZO _)) (Zh (Zt (pv 0))) Zx)
   (Zd (Zz (i:=8) oO.nd rfl (Or.inl rfl) (pv 0))
   (Zd (Z0 (h9 (ZxO (pv 7))) (Zd (ZC (Zn (Zgp T) hr.dn rfl T.Zg0 T.Jy.kp T.de .nil Zc (Za (pv 0) (Za (pv 4) (Za (pv 7) Ze)))))
   (Zh (Zz (i:=8) oO.nd rfl (Or.inl rfl) (Zn (Jn T) hr.dn rfl T.Jx T.yG.kp T.bz .nil Zc (Za (pv 0) (Za (bw ZU (pv 5) (fH fK Zl) (fun _ _=>rfl)) (Za (pv 6) Ze))))))) (Zh (Z0 (ZG Ee (bw ZU (pv 5) (fH fK Zl) (fun _ _=>rfl)) (bw ZU (pv 3) (fH fK Zl) (fun _ _=>rfl)) (ZO _)) (Zh (ZC (Zn (JB T) hr.dn rfl T.Jl T.yF.kp T.br .nil Zc (Za (pv 0) (Za (bw ZU (pv 5) (fH fK Zl) (fun _ _=>rfl)) Ze))))) Zx)))
   (Zd (Zz (i:=8) oO.nd rfl (Or.inl rfl) (Zn (Il T) hr.dn rfl T.Ho T.yn.kp T.cy .nil Zc (Za (pv 8) (Za (bw ZU (pv 5) (fH fK Zl) (fun _ _=>rfl)) (Za (pv 6) (Za (pv 4) Ze))))))
   (Zh (Zt (Zn (Jn T) hr.dn rfl T.Jx T.yG.kp T.bz .nil Zc (Za (pv 8) (Za (bw ZU (pv 3) (fH fK Zl) (fun _ _=>rfl)) (Za (bw ZU (Zn (mn T) hr.dn rfl T.ml T.Z7.kp T.aE .nil Zc (Za (pv 1) Ze)) (fH fK Zl) (fun _ _=>rfl)) Ze))))))))))))))))))),?_⟩
  refine ⟨_,rfl,old,rfl,kF,?_⟩;unfold qr at q;unfold mr
  cases hb:eW old with
  | false=>
   rw [hb] at q;exact fun H' s'=>q H' s'
  | true=>
   rw [hb,if_neg (by decide)] at q;intro v1 H1 s1 _;refine ⟨_,rfl,new,rfl,lU,?_⟩;show dQ g lu H1 (mr new) _ _;unfold mr
   cases lY:eW new with
   | false=>
    rw [lY] at q;exact fun H' s'=>q H' (s1.trans s')
   | true=>
    rw [lY,if_neg (by decide)] at q;intro v2 H2 s2 _;have sB:=s1.trans s2;refine ⟨_,rfl,_,rfl,old,rfl,kF,fun l H3 s3 hn gw=>?_⟩;have sC:=sB.trans s3;refine ⟨v,S,l,Zw old,rfl,ZA.mono _ _ _ _ sC hS,gw,?_,fun n hn=>?_,?_⟩
    ·have:=yA old;omega
    ·have:=yB old n hn;omega
    cases hw:fk S (Zw old) [0] with
    | error r=>
     rw [hw] at q;exact fun H' s'=>q H' (sC.trans s')
    | ok ps=>
     rw [hw] at q;dsimp only at q;intro v4 H4 s4 ⟨D,e,hD⟩;subst e;have sD:=sC.trans s4;refine ⟨_,rfl,rfl,_,rfl,?_⟩
     by_cases h0:old="/"
     ·rw [if_pos (.inl h0)] at q;rw [decide_eq_true (show V.str old=V.str "/" by rw [h0])];exact ay (ay ⟨aX 1,q _ sD⟩)
     rw [decide_eq_false (show ¬ V.str old=V.str "/" by intro z;injection z with z;exact h0 z)];refine aw ⟨_,rfl,rfl,_,rfl,?_⟩
     by_cases h1:new="/"
     ·rw [if_pos (.inr h1)] at q;rw [decide_eq_true (show V.str new=V.str "/" by rw [h1])];exact ay ⟨aX 1,q _ sD⟩
     rw [decide_eq_false (show ¬ V.str new=V.str "/" by intro z;injection z with z;exact h1 z)];rw [if_neg (by intro z;rcases z with z | z;exact h0 z;exact h1 z)] at q;obtain ⟨esO,hesO,henO,h2⟩:=BE (lK h0) (by decide) hw;have rH:=(sN hw (by decide)).1;refine aw ⟨_,rfl,_,rfl,D,_,_,_,rfl,rfl,ar.of hD,km ps rH,?_⟩;refine ⟨_,rfl,_,rfl,v,S,new,rfl,ZA.mono _ _ _ _ sD hS,lU,?_⟩
     cases An:kl S new with
     | error r=>
      rw [An] at q;exact fun H' s'=>q H' (sD.trans s')
     | ok as=>
      rw [An] at q;dsimp only at q;obtain ⟨jN,es,cg⟩:=Gk An;intro v5 H5 s5 ⟨A5,e,hA⟩;subst e;have sE:=sD.trans s5;refine ⟨_,rfl,_,rfl,A5,_,rfl,.inl (ar.of hA),rfl,Zsu _,_,rfl,?_⟩;rw [if_neg (by decide),Zsa]
      cases hc:as.contains (ps.getLastD 0) with
      | true=>
       rw [hc,if_pos rfl] at q;exact ay ⟨aX 1,q _ sE⟩
      | false=>
       rw [hc,if_neg (by decide)] at q;obtain ⟨qJ,qI⟩:=mO ps as lY hw An h0 h1 hc;refine aw ⟨_,rfl,new,rfl,lU,fun l6 H6 s6 As pR=>?_⟩;have sF:=sE.trans s6;refine ⟨_,rfl,l6,_,_,_,rfl,rfl,ar.of pR,qt _ (lK h1),?_⟩;obtain ⟨p,dx,da,ea,dk,ek,ev,hP⟩:=ZA.mono _ _ _ _ sF hS;obtain ⟨ve,gu,⟨ae,eve,gQ⟩⟩:=hP.re.yes ee cg;subst ev eve;have rX:=s6 _ _ hA;have m_:=s6 _ _ (s5 _ _ hD);refine ⟨_,rfl,p,_,dx,_,_,rfl,hP.ob,T.ZW,T.Zu,gm _ _,_,rfl,_,rfl,A5,_,_,_,rfl,rfl,ar.of rX,km as jN,ea,_,rfl,(by have:=aJ.k hP.he (k:=.inl (as.getLastD 0));rw [gu] at this;exact this),ae,rfl,.inl ⟨_,.inl gQ⟩,_,rfl,_,aJ.k gQ (k:=.inr (Zm new)),?_⟩;rw [vJ];unfold EI at q;rw [cg,YD] at q qJ qI;have uS:ZA g H6 S (.ref p):=⟨p,dx,da,ea,dk,ek,rfl,hP⟩
       cases kH:aa es (Zm new) with
       | none=>
        rw [kH] at q;have R:=qJ kH;dsimp only at q;refine ⟨_,rfl,_,rfl,rfl,_,rfl,aw ?_⟩;refine ⟨_,rfl,_,rfl,_,rfl,aw ?_⟩;refine ⟨_,rfl,_,rfl,A5,_,_,_,rfl,rfl,ar.of rX,km as jN,_,rfl,_,rfl,D,_,_,_,rfl,rfl,ar.of m_,ye ps h2,rfl,_,rfl,?_⟩
        by_cases hp:as.getLastD 0=gB ps
        ·rw [if_neg (fun z=>z.1 hp)] at q;refine Zzq (by show V.int (as.getLastD 0)=V.int (gB ps);rw [hp]) ?_;obtain ⟨xJ,mH⟩:=(R).en;obtain ⟨fh,m,xt,xk,cJ⟩:=(R).DS;refine ⟨_,rfl,_,rfl,_,rfl,A5,_,_,_,rfl,rfl,ar.of rX,km as jN,_,rfl,_,rfl,?_⟩;refine ⟨.ref p,S,_,Zm new,_,xJ,rfl,uS,(R).sm,mH,fun v8 H8 s8 xB=>?_⟩;refine ⟨_,rfl,_,rfl,_,rfl,D,_,_,_,rfl,rfl,ar.of (s8 _ _ m_),ye ps h2,_,rfl,old,rfl,kF,fun l9 H9 s9 hn9 mY=>?_⟩;refine ⟨_,rfl,l9,_,_,_,rfl,rfl,ar.of mY,qt _ (lK h0),?_⟩;exact ⟨v8,_,_,Zm old,fh,m,rfl,ZA.mono _ _ _ _ s9 xB,(R).CI,xt,xk,cJ,fun v' H' s' h'=>q _ _ (sF.trans ((s8.trans s9).trans s')) h'⟩
        ·rw [decide_eq_false (show ¬ V.int (as.getLastD 0)=V.int (ps.dropLast.getLastD 0) by intro z;injection z with z;exact hp z)];refine ay ⟨_,rfl,_,rfl,_,rfl,A5,_,_,_,rfl,rfl,ar.of rX,km as jN,.ref p,S,_,es,rfl,uS,cg,?_⟩
         by_cases h4:40<=es.length
         ·rw [if_pos ⟨hp,h4⟩] at q;rw [if_pos h4];exact fun H' s'=>q H' (sF.trans s')
         ·rw [if_neg (fun z=>h4 z.2)] at q;rw [if_neg h4];intro v7 H7 s7 _;obtain ⟨xJ,mH⟩:=(R).en;obtain ⟨fh,m,xt,xk,cJ⟩:=(R).DS;refine ⟨_,rfl,_,rfl,_,rfl,A5,_,_,_,rfl,rfl,ar.of (s7 _ _ rX),km as jN,_,rfl,_,rfl,?_⟩;refine ⟨.ref p,S,_,Zm new,_,xJ,rfl,(ZA.mono _ _ _ _ s7 uS),(R).sm,mH,fun v8 H8 s8 xB=>?_⟩;refine ⟨_,rfl,_,rfl,_,rfl,D,_,_,_,rfl,rfl,ar.of (s8 _ _ (s7 _ _ m_)),ye ps h2,_,rfl,old,rfl,kF,fun l9 H9 s9 hn9 mY=>?_⟩;refine ⟨_,rfl,l9,_,_,_,rfl,rfl,ar.of mY,qt _ (lK h0),?_⟩;exact ⟨v8,_,_,Zm old,fh,m,rfl,ZA.mono _ _ _ _ s9 xB,(R).CI,xt,xk,cJ,fun v' H' s' h'=>q _ _ ((sF.trans s7).trans ((s8.trans s9).trans s')) h'⟩
       | some t=>
        rw [kH] at q;dsimp only at q;rw [Xe,YD];refine ⟨_,rfl,_,rfl,rfl,_,rfl,?_⟩
        by_cases ht:t=ps.getLastD 0
        ·rw [if_pos ht] at q;rw [decide_eq_true (show V.int t=V.int (ps.getLastD 0) by rw [ht])];exact ay ⟨_,rfl,q _ _ sF uS⟩
        rw [if_neg ht] at q;rw [decide_eq_false (show ¬ V.int t=V.int (ps.getLastD 0) by intro z;injection z with z;exact ht z)];refine aw ⟨_,rfl,_,rfl,_,rfl,ay ?_⟩;refine ⟨_,rfl,_,rfl,_,rfl,.ref p,S,_,_,rfl,uS,?_⟩
        cases Ds:qu S (ps.getLastD 0) t with
        | error r=>
         rw [Ds] at q;exact fun H' s'=>q H' (sF.trans s')
        | ok u=>
         rw [Ds] at q;obtain ⟨lT,R⟩:=qI t kH ht Ds;dsimp only at q;intro v7 H7 s7 _;refine ⟨_,rfl,_,rfl,_,rfl,A5,_,_,_,rfl,rfl,ar.of (s7 _ _ rX),km as jN,_,rfl,?_⟩;refine ⟨.ref p,S,_,Zm new,es,t,rfl,ZA.mono _ _ _ _ s7 uS,sm,cg,kH,lT,fun v7b H7b CL K3=>?_⟩;obtain ⟨xJ,mH⟩:=(R).en;obtain ⟨fh,m,xt,xk,cJ⟩:=(R).DS;refine ⟨_,rfl,_,rfl,_,rfl,A5,_,_,_,rfl,rfl,ar.of (CL _ _ (s7 _ _ rX)),km as jN,_,rfl,_,rfl,?_⟩;refine ⟨v7b,_,_,Zm new,_,xJ,rfl,K3,(R).sm,mH,fun v8 H8 s8 xB=>?_⟩;refine ⟨_,rfl,_,rfl,_,rfl,D,_,_,_,rfl,rfl,ar.of (s8 _ _ (CL _ _ (s7 _ _ m_))),ye ps h2,_,rfl,old,rfl,kF,fun l9 H9 s9 hn9 mY=>?_⟩;refine ⟨_,rfl,l9,_,_,_,rfl,rfl,ar.of mY,qt _ (lK h0),?_⟩;exact ⟨v8,_,_,Zm old,fh,m,rfl,ZA.mono _ _ _ _ s9 xB,(R).CI,xt,xk,cJ,fun v' H' s' h'=>q _ _ (((sF.trans s7).trans CL).trans ((s8.trans s9).trans s')) h'⟩
def Bp (F:bX) (old new:Str):Except Rf bX:=match qr F.S old new with
 | .error r=>.error r
 | .ok S=>gn F S F.k
def Zvw (S:az) (old new:Str):Prop:=∀ ps as,eW new=true->fk S (Zw old) [0]=.ok ps->kl S new=.ok as->old≠"/"->new≠"/"->as.contains (ps.getLastD 0)=false->
  (aa ((aa S.ent (as.getLastD 0)).getD []) (Zm new)=none->u6 S ps as old new)/\
  (∀ t,aa ((aa S.ent (as.getLastD 0)).getD []) (Zm new)=some t->t≠ps.getLastD 0->qu S (ps.getLastD 0) t=.ok ()->(gW ⟨S.dat,af S.ent (as.getLastD 0) (ZQ ((aa S.ent (as.getLastD 0)).getD []) (Zm new))⟩).length<=100000/\u6 (ZM S (as.getLastD 0) (Zm new)) ps as old new)
def Zph (g:Gs):Sp:=fun vs H Q E=>∃ f q p b l F old new,vs=[.ref f,.str old,.str new]/\cF g H f q p b l F/\gU F.S/\old.length<=1000/\new.length<=1000/\Zvw F.S old new/\(∀ S,qr F.S old new=.ok S->dI S)/\hZ F.k/\lx F.T.synced/\(match Bp F old new with
 | .error r=>∀ H',ag H H'->E (.ref (g.xa r)) none H'
 | .ok F'=>∀ H',fT f H H'->cF g H' f q p b l F'->Q .aL H')
theorem Zk1:Zp ["self","old","new"] ["self","old","new"] (Zi ZgC):=ZN (by decide +kernel)
theorem Zlt (T:Tx K mg g):ah P w K mg base (aA P w) 7 g.HC g.IX ["self","old","new"] (Zph g):=by
 refine T.ZgO.aP Zk1 (fun vs H Q E h=>?_) (fun aq A outer s H vs Q E hr h=>?_)
 ·obtain ⟨f,q0,p,b,l,F,old,new,rfl,_⟩:=h;rfl
 ·obtain ⟨f,q0,p,b,l,F,old,new,rfl,cK,sm,kF,lU,mO,lR,kk,po,q⟩:=h;obtain ⟨dx,sv,kv,iv,hF⟩:=id cK
  refine ⟨_,(Zd (ZC (lJ (pv 0) T.Zq T.ZL (ZH T) hr.dn T.ai .nil Zc))
   (Zh (ZC (ZP (pv 0) T.Zq T.qA (qB T) hr.dn T.aF .nil Zc (Za (Zn (Ztb T) hr.dn rfl T.ZuI T.Fp.kp T.lh .nil Zc (Za (Zv (pv 0) rfl) (Za (pv 1) (Za (pv 2) Ze)))) (Za (Zv (pv 0) rfl) Ze)))))),?_⟩
  refine ⟨_,rfl,f,dx,_,rfl,hF.ob,Z6 _ _ _ _,?_⟩;refine ⟨f,dx,_,_,_,_,rfl,hF.ob,.inr ⟨⟨q0,rfl⟩,?_⟩⟩;refine ⟨_,rfl,f,dx,_,rfl,hF.ob,Z6 _ _ _ _,_,rfl,f,_,dx,_,_,rfl,hF.ob,T.Zq,T.ZK,jr _ _ _ _,_,rfl,_,rfl,?_⟩;refine ⟨sv,F.S,old,new,rfl,hF.st,sm,kF,lU,mO,?_⟩;unfold Bp at q
  cases hm:qr F.S old new with
  | error r=>
   rw [hm] at q;exact fun H' s'=>q H' s'
  | ok S=>
   rw [hm] at q;dsimp only at q;intro v2 H2 s2 fF;have lZ:=cK.same s2;refine ⟨_,rfl,f,_,dx,_,_,rfl,s2 _ _ hF.ob,T.Zq,T.ZY,ly _ _ _ _,?_⟩;refine ⟨f,q0,p,b,l,F,v2,kv,S,F.k,rfl,lZ,fF,eB.mono _ _ _ _ s2 hF.ke,lR S hm,kk,po,?_⟩
   cases ht:gn F S F.k with
   | error r=>
    rw [ht] at q;exact fun H' s'=>q H' (s2.trans s')
   | ok F'=>
    rw [ht] at q;exact fun H' b1 h'=>q H' (fun d o e hd=>b1 _ _ (s2 _ _ e) hd) h'
section
variable {κ α:Type} [DecidableEq κ]
theorem oM {k m:κ}:∀ {xs:List (κ×α)},aa (ZQ xs k) m=if m=k then none else aa xs m
 | []=>by split <;> rfl
 | p::r=>by
  have ih:=oM (k:=k) (m:=m) (xs:=r);unfold ZQ at ih ⊢
  by_cases z:p.1=k
  ·rw [Wn (by simp [z]),ih]
   by_cases y:m=k
   ·rw [if_pos y,if_pos y]
   ·rw [if_neg y,if_neg y,ZZ (fun e=>y (e.symm.trans z))]
  ·rw [Wm (by simp [z])]
   by_cases y:p.1=m
   ·rw [fI y,fI y,if_neg (fun e=>z (y.trans e))]
   ·rw [ZZ y,ZZ y,ih]
theorem FE {k:κ} {x:α} {xs:List (κ×α)} (h:aa xs k=some x):k∈xs.map (·.1):=List.mem_map.mpr ⟨_,sR h,rfl⟩
theorem vD {k:κ} {xs:List (κ×α)} (h:k∈xs.map (·.1)):(aa xs k).isSome=true:=by
 cases e:aa xs k with
 | none=>exact absurd h (sS e)
 | some x=>rfl
theorem FC {k:κ} {xs:List (κ×α)} (h:aa xs k=none):ZQ xs k=xs:=by
 unfold ZQ;rw [List.filter_eq_self];intro p hp
 have:=sS h
 simp only [ne_eq,decide_not,Bool.not_eq_eq_eq_not,Bool.not_true,decide_eq_false_iff_not]
 exact fun e=>this (List.mem_map.mpr ⟨p,hp,e⟩)
theorem Bz {k:κ} {x:α} {xs:List (κ×α)} (h:aa xs k=none):af xs k x=xs++[(k,x)]:=by
 unfold af;rw [sQ,h];rfl
theorem Fm {k:κ} {x y:α} {xs:List (κ×α)} (h:aa xs k=some y):af xs k x=xs.map (fun p=>if p.1=k then (p.1,x) else p):=by
 unfold af;rw [sQ,h];rfl
theorem Zwo {k:κ} {x y:α} {xs:List (κ×α)} (h:aa xs k=some y):(af xs k x).map (·.1)=xs.map (·.1):=by
 rw [Fm h,XJ]
 apply YbO
 intro p _;show (if p.1=k then (p.1,x) else p).1=p.1
 split <;> rfl
theorem nE {k:κ} {x:α} {xs:List (κ×α)} (h:(xs.map (·.1)).Nodup):((af xs k x).map (·.1)).Nodup:=by
 cases e:aa xs k with
 | some y=>rw [Zwo e];exact h
 | none=>
  rw [Bz e,Yw,List.nodup_append];refine ⟨h,by simp,fun a ha b hb=>?_⟩
  simp only [Yt,YaD,List.mem_singleton] at hb
  subst hb;exact fun z=>sS e (z ▸ ha)
theorem vX {k:κ} {xs:List (κ×α)} (h:(xs.map (·.1)).Nodup):((ZQ xs k).map (·.1)).Nodup:=h.sublist (List.Sublist.map _ List.filter_sublist)
theorem Zr3 {k:κ} {x:α}:∀ {xs:List (κ×α)},¬ k∈xs.map (·.1)->xs.map (fun p=>if p.1=k then (p.1,x) else p)=xs
 | [],_=>rfl
 | p::r,h=>by
  rw [Yt,W3,not_or] at h;rw [Yt,if_neg (fun e=>h.1 e.symm),Zr3 h.2]
end
def a_ (es:ao) (n:Int):Nat:=(es.map (·.2)).count n
def cnt (E:List (Int×ao)) (n:Int):Nat:=((E.map fun p=>p.2.map (·.2)).flatten).count n
theorem vI (p:Int×ao) (r:List (Int×ao)) (n:Int):cnt (p::r) n=a_ p.2 n + cnt r n:=by
 unfold cnt a_;rw [Yt,Xh,YaU]
theorem Zqt (p:Str×Int) (r:ao) (n:Int):a_ (p::r) n=a_ r n + if n=p.2 then 1 else 0:=by
 unfold a_;rw [Yt,List.count_cons]
 congr 1
 by_cases z:n=p.2
 ·rw [if_pos z,if_pos (by rw [z];exact beq_self_eq_true _)]
 ·rw [if_neg z,if_neg (by intro e;exact z (beq_iff_eq.mp e).symm)]
theorem yc {d:Int} {es es':ao} {n:Int}:∀ {E:List (Int×ao)},(E.map (·.1)).Nodup->aa E d=some es->cnt (af E d es') n + a_ es n=cnt E n + a_ es' n:=by
 intro E nd h;rw [Fm h]
 induction E with
 | nil=>cases h
 | cons p r ih=>
  rw [Yt,Yay] at nd;rw [Yt,vI,vI]
  by_cases z:p.1=d
  ·rw [fI z] at h
   cases h
   rw [if_pos z,Zr3 (by rw [<- z];exact nd.1)];show a_ es' n + cnt r n + a_ p.2 n=_;omega
  ·rw [ZZ z] at h
   have:=ih nd.2 h
   rw [if_neg z];omega
theorem Zyi {E:List (Int×ao)} {d:Int} {es:ao} {n:Int} (h:aa E d=none):cnt (af E d es) n=cnt E n + a_ es n:=by
 rw [Bz h];unfold cnt a_;rw [Yw,XU,YaU]
 simp
theorem Zsp {d:Int} {es:ao} {n:Int}:∀ {E:List (Int×ao)},(E.map (·.1)).Nodup->aa E d=some es->cnt (ZQ E d) n + a_ es n=cnt E n
 | [],_,h=>by cases h
 | p::r,nd,h=>by
  rw [Yt,Yay] at nd;rw [vI]
  by_cases z:p.1=d
  ·rw [fI z] at h
   cases h
   have e:ZQ (p::r) d=ZQ r d:=by unfold ZQ;rw [Wn (by simp [z])]
   have hn:aa r d=none:=by
    cases q:aa r d with
    | none=>rfl
    | some y=>exact absurd (FE q) (by rw [<- z];exact nd.1)
   rw [e,FC hn];omega
  ·rw [ZZ z] at h;have e:ZQ (p::r) d=p::ZQ r d:=by unfold ZQ;rw [Wm (by simp [z])]
   rw [e,vI]
   have:=Zsp nd.2 h (n:=n)
   omega
theorem Bu {es:ao} {name:Str} {m n:Int} (h:aa es name=none):a_ (af es name m) n=a_ es n + if n=m then 1 else 0:=by
 rw [Bz h];unfold a_;rw [Yw,YaU,Yt,YaD,List.count_singleton]
 congr 1
 by_cases z:n=m
 ·rw [if_pos z,if_pos (by rw [z];exact beq_self_eq_true _)]
 ·rw [if_neg z,if_neg (by intro e;exact z (beq_iff_eq.mp e).symm)]
theorem qv {name:Str} {m n:Int}:∀ {es:ao},(es.map (·.1)).Nodup->aa es name=some m->a_ (ZQ es name) n + (if n=m then 1 else 0)=a_ es n/\(ZQ es name).length + 1=es.length
 | [],_,h=>by cases h
 | p::r,nd,h=>by
  rw [Yt,Yay] at nd;rw [Zqt]
  by_cases z:p.1=name
  ·rw [fI z] at h
   cases h
   have e:ZQ (p::r) name=ZQ r name:=by unfold ZQ;rw [Wn (by simp [z])]
   have hn:aa r name=none:=by
    cases q:aa r name with
    | none=>rfl
    | some y=>exact absurd (FE q) (by rw [<- z];exact nd.1)
   rw [e,FC hn];exact ⟨rfl,rfl⟩
  ·rw [ZZ z] at h;have e:ZQ (p::r) name=p::ZQ r name:=by unfold ZQ;rw [Wm (by simp [z])]
   obtain ⟨h1,h2⟩:=qv nd.2 h (n:=n);rw [e,Zqt];refine ⟨by omega,?_⟩;rw [Yz,Yz];omega
theorem E7 {es:ao} {name:Str} {m:Int} (h:aa es name=some m):0 < a_ es m:=List.count_pos_iff.mpr (List.mem_map.mpr ⟨_,sR h,rfl⟩)
theorem qg {d:Int} {es:ao} {n:Int}:∀ {E:List (Int×ao)},aa E d=some es->a_ es n<=cnt E n
 | [],h=>by cases h
 | p::r,h=>by
  rw [vI]
  by_cases z:p.1=d
  ·rw [fI z] at h;cases h;omega
  ·rw [ZZ z] at h
   have:=qg h (n:=n)
   omega
theorem Zuy (S:az) (n:Int):(gW S).contains n=decide (0 < cnt S.ent n):=by
 have:cnt S.ent n=(gW S).count n:=rfl
 rw [this]
 by_cases h:n∈gW S
 ·rw [decide_eq_true (List.count_pos_iff.mpr h),List.contains_iff_mem.mpr h]
 ·rw [decide_eq_false (fun z=>h (List.count_pos_iff.mp z))]
  cases q:(gW S).contains n with
  | false=>rfl
  | true=>exact absurd (List.contains_iff_mem.mp q) h
structure eh (S:az) (ex:Int->Nat):Prop where
 kd:(S.dat.map (·.1)).Nodup
 ke:(S.ent.map (·.1)).Nodup
 dj:∀ n,(aa S.ent n).isSome=true->aa S.dat n=none
 rg:∀ n,ZE S n=true->0<=n/\n < 32
 rt:(aa S.ent 0).isSome=true
 row:∀ n r,aa S.dat n=some r->r.length<=600
 es:∀ n es,aa S.ent n=some es->lH es/\(es.map (·.1)).Nodup
 nm:∀ n,0 < cnt S.ent n->ZE S n=true
 one:∀ n,(aa S.ent n).isSome=true->cnt S.ent n=(if n=0 then 0 else 1) + ex n
def Bd (b:Nat) (S:az):Prop:=∀ n es,aa S.ent n=some es->es.length<=b
structure Wf (S:az):Prop where
 x:eh S (fun _=>0)
 b:Bd 40 S
theorem nA {E:List (Int×ao)} {d:Int} {es es':ao} (h:aa E d=some es) (n:Int):(aa (af E d es') n).isSome=(aa E n).isSome:=by
 rw [ZV]
 by_cases z:n=d
 ·rw [if_pos z,z,h];rfl
 ·rw [if_neg z]
theorem Zo8 {S:az} {d:Int} {es es':ao} (h:aa S.ent d=some es) (n:Int):ZE ⟨S.dat,af S.ent d es'⟩ n=ZE S n:=by
 unfold ZE;show ((aa S.dat n).isSome || (aa (af S.ent d es') n).isSome)=_;rw [nA h]
theorem ZpO {es:ao} {name:Str} {n:Int} (h:lH es) (hn:ef name=true):lH (af es name n):=by
 intro p hp
 cases e:aa es name with
 | none=>
  rw [Bz e] at hp;rcases List.mem_append.mp hp with q | q
  ·exact h p q
  ·rw [List.mem_singleton] at q;rw [q];exact hn
 | some y=>
  rw [Fm e] at hp;obtain ⟨q,hq,e2⟩:=List.mem_map.mp hp;rw [<- e2]
  split
  ·exact h q hq
  ·exact h q hq
theorem GG {es:ao} {name:Str} (h:lH es):lH (ZQ es name):=fun p hp=>h p (List.mem_filter.mp hp).1
theorem eh.set {S:az} {ex ex':Int->Nat} (W:eh S ex) {d:Int} {es es':ao} (h:aa S.ent d=some es) (hn:lH es') (nd:(es'.map (·.1)).Nodup)
  (hc:∀ n,0 < a_ es' n->0 < a_ es n∨ZE S n=true) (ho:∀ n,(aa S.ent n).isSome=true->a_ es' n + ex n=a_ es n + ex' n):eh ⟨S.dat,af S.ent d es'⟩ ex':=by
 refine ⟨W.kd,nE W.ke,fun n e=>W.dj n (by rw [<- nA h];exact e),fun n e=>W.rg n (by rw [<- Zo8 h];exact e),by rw [<- W.rt];exact nA h 0,W.row,fun n fh e=>?_,fun n e=>?_,fun n e=>?_⟩
 ·have e:aa (af S.ent d es') n=some fh:=e;rw [ZV] at e
  by_cases z:n=d
  ·rw [if_pos z] at e;cases e;exact ⟨hn,nd⟩
  ·rw [if_neg z] at e;exact W.es n fh e
 ·rw [Zo8 h];have e:0 < cnt (af S.ent d es') n:=e;have c:=yc (es':=es') (n:=n) W.ke h;have l:=qg h (n:=n)
  by_cases z:0 < a_ es' n
  ·rcases hc n z with q | q
   ·exact W.nm n (by omega)
   ·exact q
  ·exact W.nm n (by omega)
 ·have e:(aa (af S.ent d es') n).isSome=true:=e;rw [nA h] at e;show cnt (af S.ent d es') n=_;have c:=yc (es':=es') (n:=n) W.ke h;have o:=ho n e;have w:=W.one n e;have l:=qg h (n:=n);omega
theorem tm {S:az} {d:Int} {es:ao} {name:Str} {n:Int} (h:aa S.ent d=some es):Z5 S d name n=⟨S.dat,af S.ent d (af es name n)⟩:=by unfold Z5;rw [h]
theorem eh.add {S:az} {ex:Int->Nat} (W:eh S ex) {d:Int} {es:ao} {name:Str} {m:Int} (h:aa S.ent d=some es) (hg:aa es name=none) (hn:ef name=true) (ht:ZE S m=true):eh (Z5 S d name m) (fun n=>ex n + if n=m then 1 else 0):=by
 rw [tm h];obtain ⟨h1,h2⟩:=W.es d es h;refine W.set h (ZpO h1 hn) (nE h2) (fun n e=>?_) (fun n e=>?_)
 ·rw [Bu hg] at e
  by_cases z:n=m
  ·right;rw [z];exact ht
  ·rw [if_neg z] at e;exact .inl e
 ·rw [Bu hg];omega
theorem eh.congr {S:az} {ex ex':Int->Nat} (W:eh S ex) (h:∀ n,(aa S.ent n).isSome=true->ex n=ex' n):eh S ex':=⟨W.kd,W.ke,W.dj,W.rg,W.rt,W.row,W.es,W.nm,fun n e=>by rw [W.one n e,h n e]⟩
theorem Ci {S:az} {d:Int} {es:ao} {name:Str} {m:Int} (h:aa S.ent d=some es) (hg:aa es name=some m):ZM S d name=if 0 < cnt (af S.ent d (ZQ es name)) m then ⟨S.dat,af S.ent d (ZQ es name)⟩ else yD ⟨S.dat,af S.ent d (ZQ es name)⟩ m:=by
 unfold ZM;rw [h];dsimp only;rw [hg,YD,Zuy]
 by_cases z:0 < cnt (af S.ent d (ZQ es name)) m
 ·rw [if_pos z,if_pos (decide_eq_true z)]
 ·rw [if_neg z,if_neg (by rw [decide_eq_false z];decide)]
theorem Bv {S:az} {ex:Int->Nat} (W:eh S ex) {d:Int} {es:ao} {name:Str} {m:Int} (h:aa S.ent d=some es) (hg:aa es name=some m) (n:Int):cnt (af S.ent d (ZQ es name)) n + (if n=m then 1 else 0)=cnt S.ent n:=by
 have c:=yc (es':=ZQ es name) (n:=n) W.ke h;have l:=qg h (n:=n);have e:=(qv (n:=n) (W.es d es h).2 hg).1;omega
theorem eh.less {S:az} {ex ex':Int->Nat} (W:eh S ex) {d:Int} {es:ao} {name:Str} {m:Int} (h:aa S.ent d=some es) (hg:aa es name=some m) (h2:2<=cnt S.ent m) (he:∀ n,ex n=ex' n + if n=m then 1 else 0):eh (ZM S d name) ex':=by
 have c:=Bv W h hg m;rw [if_pos rfl] at c;rw [Ci h hg,if_pos (by omega)];obtain ⟨h3,h4⟩:=W.es d es h;refine W.set h (GG h3) (vX h4) (fun n e=>?_) (fun n e=>?_)
 ·have:=(qv (n:=n) h4 hg).1
  left;omega
 ·have:=(qv (n:=n) h4 hg).1
  have:=he n
  omega
theorem Zu9 {E:List (Int×ao)} {m n:Int} (h:(aa (ZQ E m) n).isSome=true):(aa E n).isSome=true/\n≠m:=by
 rw [oM] at h
 by_cases z:n=m
 ·rw [if_pos z] at h;cases h
 ·rw [if_neg z] at h;exact ⟨h,z⟩
theorem eh.gone {S:az} (W:eh S (fun _=>0)) {d:Int} {es:ao} {name:Str} {m:Int} (h:aa S.ent d=some es) (hg:aa es name=some m) (hm:ny S m=true):eh (ZM S d name) (fun _=>0):=by
 have c:=Bv W h hg m;rw [if_pos rfl] at c;obtain ⟨h3,h4⟩:=W.es d es h;have hml:=qg h (n:=m);have o_:=E7 hg
 have m0:m≠0:=by
  intro z
  have:=W.one 0 W.rt
  rw [if_pos rfl] at this;rw [z] at hml o_;omega
 rw [Ci h hg]
 split
 ·rename_i z
  refine W.set h (GG h3) (vX h4) (fun n e=>?_) (fun n e=>?_)
  ·have:=(qv (n:=n) h4 hg).1
   left;omega
  ·have:=(qv (n:=n) h4 hg).1
   by_cases y:n=m
   ·exfalso
    have:=W.one n e
    rw [y,if_neg m0] at this;omega
   ·rw [if_neg y] at this;omega
 ·rename_i z
  have hme:∀ e0,aa (af S.ent d (ZQ es name)) m=some e0->e0=[]:=by
   intro e0 e;rw [ZV] at e
   by_cases y:m=d
   ·exfalso
    unfold ny at hm;rw [y,h,YD,List.isEmpty_iff] at hm;rw [hm] at hg
    cases hg
   ·rw [if_neg y] at e;unfold ny at hm;rw [e,YD,List.isEmpty_iff] at hm;exact hm
  have nk:((af S.ent d (ZQ es name)).map (·.1)).Nodup:=nE W.ke
  have cc:∀ n,cnt (ZQ (af S.ent d (ZQ es name)) m) n=cnt (af S.ent d (ZQ es name)) n:=by
   intro n
   cases e:aa (af S.ent d (ZQ es name)) m with
   | none=>rw [FC e]
   | some e0=>
    have:=Zsp (n:=n) nk e
    rw [hme e0 e] at this;exact this
  have things:∀ n,ZE (yD ⟨S.dat,af S.ent d (ZQ es name)⟩ m) n=(ZE S n && decide (n≠m)):=by
   intro n;unfold yD ZE;show ((aa (ZQ S.dat m) n).isSome || (aa (ZQ (af S.ent d (ZQ es name)) m) n).isSome)=_;rw [oM,oM]
   by_cases y:n=m
   ·rw [if_pos y,if_pos y,decide_eq_false (fun q=>q y),Bool.and_false];rfl
   ·rw [if_neg y,if_neg y,nA h,decide_eq_true y,Bool.and_true]
  refine ⟨vX W.kd,vX nk,fun n e=>?_,fun n e=>?_,?_,fun n r e=>?_,fun n fh e=>?_,fun n e=>?_,fun n e=>?_⟩
  ·obtain ⟨e1,e2⟩:=Zu9 e;rw [nA h] at e1;show aa (ZQ S.dat m) n=none;rw [oM,if_neg e2];exact W.dj n e1
  ·rw [things,YV] at e;exact W.rg n e.1
  ·show (aa (ZQ (af S.ent d (ZQ es name)) m) 0).isSome=true;rw [oM,if_neg (fun q=>m0 q.symm),nA h];exact W.rt
  ·have e:aa (ZQ S.dat m) n=some r:=e;exact W.row n r (sX e)
  ·have e:aa (ZQ (af S.ent d (ZQ es name)) m) n=some fh:=e;have e:=sX e;rw [ZV] at e
   by_cases y:n=d
   ·rw [if_pos y] at e;cases e;exact ⟨GG h3,vX h4⟩
   ·rw [if_neg y] at e;exact W.es n fh e
  ·have e:0 < cnt (ZQ (af S.ent d (ZQ es name)) m) n:=e;rw [cc] at e;have k:=Bv W h hg n;rw [things,W.nm n (by omega),Bool.true_and];exact decide_eq_true (fun y=>z (by rw [<- y];exact e))
  ·obtain ⟨e1,e2⟩:=Zu9 e;rw [nA h] at e1;show cnt (ZQ (af S.ent d (ZQ es name)) m) n=_;have k:=Bv W h hg n;rw [if_neg e2] at k
   have:=W.one n e1
   rw [cc];omega
theorem hJ:∀ (m:Nat) (l:List Int),l.Nodup->(∀ x∈l,0<=x/\x < (m:Int))->l.length<=m
 | 0,l,_,h=>by
  cases l with
  | nil=>exact Ye _
  | cons x r=>have:=h x YA;omega
 | m + 1,l,nd,h=>by
  have ih:=hJ m (l.filter fun x=>decide (x≠(m:Int))) (nd.sublist List.filter_sublist) fun x hx=>by
   rw [List.mem_filter] at hx;have h1:=h x hx.1;have h2:=of_decide_eq_true hx.2;omega
  have e:=List.length_eq_countP_add_countP (fun x=>decide (x≠(m:Int))) (l:=l);rw [List.countP_eq_length_filter] at e
  have c:List.countP (fun a=>decide ¬decide (a≠(m:Int))=true) l<=1:=by
   have c1:=List.nodup_iff_count.mp nd (m:Int);refine Yk (WW ?_) c1;unfold List.count;refine List.countP_congr fun x _=>?_
   by_cases z:x=(m:Int)
   ·simp [z]
   ·simp [z]
  omega
theorem eh.hJ {S:az} {ex:Int->Nat} (W:eh S ex):S.dat.length + S.ent.length<=32:=by
 have:=KS.hJ 32 (S.dat.map (·.1)++S.ent.map (·.1)) (by
  rw [List.nodup_append];refine ⟨W.kd,W.ke,fun a ha b hb z=>?_⟩;subst z;have h1:=vD ha;rw [W.dj a (vD hb)] at h1
  cases h1) fun x hx=>W.rg x (by
  unfold ZE;rcases List.mem_append.mp hx with h | h
  ·rw [vD h];rfl
  ·rw [vD h,WX])
 rw [Yf,Yb,Yb] at this;exact this
theorem eh.zM {S:az} {ex:Int->Nat} {b:Nat} (W:eh S ex) (hb:Bd b S) (h:b < 64):dI S:=
 ⟨YO W.hJ (by decide),fun n r e=>Yk (W.row n r e) (by decide),fun n es e=>⟨YO (hb n es e) h,(W.es n es e).1⟩⟩
theorem eh.small {S:az} {ex:Int->Nat} {b:Nat} (W:eh S ex) (hb:Bd b S) (h:b<=1000):gU S:=by
 have:=W.hJ
 exact ⟨by omega,by omega,fun n es e=>Yk (hb n es e) h⟩
theorem Wf.ok {S:az} (W:Wf S):dI S:=W.x.zM W.b (by decide)
theorem Wf.sm {S:az} (W:Wf S):gU S:=W.x.small W.b (by decide)
theorem eh.len {S:az} {ex:Int->Nat} {b:Nat} (W:eh S ex) (hb:Bd b S) (h:b<=100):∀ q∈S.ent,q.2.length<=100:=fun q hq=>by
 obtain ⟨k,es⟩:=q
 have key:∀ {E:List (Int×ao)},(E.map (·.1)).Nodup->(k,es)∈E->aa E k=some es:=by
  intro E
  induction E with
  | nil=>intro _ z;cases z
  | cons p r ih=>
   intro nd z;rw [Yt,Yay] at nd;rcases List.mem_cons.mp z with e | e
   ·rw [<- e,fI rfl]
   ·have:¬ p.1=k:=fun y=>nd.1 (y ▸ List.mem_map.mpr ⟨_,e,rfl⟩)
    rw [ZZ this];exact ih nd.2 e
 exact Yk (hb k es (key W.ke hq)) h
theorem Zr7 {S:az}:∀ (k i:Nat) {n:Int},qw S i k=some n->ZE S n=false/\(i:Int)<=n/\n < (i + k:Nat)
 | 0,_,_,h=>by cases h
 | k + 1,i,n,h=>by
  unfold qw at h
  split at h
  ·have:=Zr7 k (i + 1) h
   refine ⟨this.1,?_,?_⟩ <;> omega
  ·rename_i z
   cases h
   exact ⟨by simpa using z,Int.le_refl _,by omega⟩
theorem BH {p:Str} (hp:eW p=true) (h0:p≠"/"):ef (Zm p)=true:=by
 unfold eW at hp
 split at hp
 ·cases hp
 ·split at hp
  ·cases hp
  ·have hm:Zm p∈Zw p:=by
    have bY:=lK h0;unfold Zm;rw [WT]
    cases e:(Zw p).getLast? with
    | none=>exact absurd (List.getLast?_eq_none_iff.mp e) bY
    | some x=>exact List.mem_of_getLast? e
   exact List.all_eq_true.mp hp _ hm
theorem Zqh {S:az} {p:Str} {d:Int} {es:ao} (h:lL S p=.ok d) (he:aa S.ent d=some es):aa es (Zm p)=none:=by
 unfold lL at h
 split at h
 ·cases h
 ·split at h
  ·cases h
  ·split at h
   ·cases h
   ·rename_i es' he'
    split at h
    ·cases h
    ·rename_i hn
     cases h
     rw [he] at he'
     cases he'
     cases q:aa es (Zm p) with
     | none=>rfl
     | some x=>rw [q] at hn;exact absurd rfl hn
theorem Bd.put {b:Nat} {S:az} (h:Bd b S) {d:Int} {es:ao} (hl:es.length<=b):Bd b ⟨S.dat,af S.ent d es⟩:=fun n es' e=>by
 have e:aa (af S.ent d es) n=some es':=e;rw [ZV] at e
 by_cases z:n=d
 ·rw [if_pos z] at e;cases e;exact hl
 ·rw [if_neg z] at e;exact h n es' e
theorem vL {es:ao} {name:Str} {n:Int}:(af es name n).length<=es.length + 1:=qp _ _ _
theorem Wf.pA {S:az} (W:Wf S) {n:Int} (hn:ZE S n=false) (h0:0<=n) (h1:n < 32):eh ⟨af S.dat n [],S.ent⟩ (fun _=>0):=by
 have hd:aa S.dat n=none:=by
  unfold ZE at hn;rw [YbJ] at hn;exact Option.not_isSome_iff_eq_none.mp (by rw [hn.1];decide)
 have he:aa S.ent n=none:=by
  unfold ZE at hn;rw [YbJ] at hn;exact Option.not_isSome_iff_eq_none.mp (by rw [hn.2];decide)
 have th:∀ m,ZE ⟨af S.dat n [],S.ent⟩ m=(ZE S m || decide (m=n)):=fun m=>by
  unfold ZE;show ((aa (af S.dat n []) m).isSome || (aa S.ent m).isSome)=_;rw [ZV]
  by_cases z:m=n
  ·rw [if_pos z,decide_eq_true z,WX];rfl
  ·rw [if_neg z,decide_eq_false z,Xs]
 refine ⟨nE W.x.kd,W.x.ke,fun m e=>?_,fun m e=>?_,W.x.rt,fun m r e=>?_,W.x.es,fun m e=>?_,W.x.one⟩
 ·show aa (af S.dat n []) m=none;rw [ZV]
  by_cases z:m=n
  ·rw [z] at e;have e:(aa S.ent n).isSome=true:=e;rw [he] at e;cases e
  ·rw [if_neg z];exact W.x.dj m e
 ·rw [th,Xz] at e;rcases e with e | e
  ·exact W.x.rg m e
  ·rw [of_decide_eq_true e];exact ⟨h0,h1⟩
 ·have e:aa (af S.dat n []) m=some r:=e;rw [ZV] at e
  by_cases z:m=n
  ·rw [if_pos z] at e;cases e;decide
  ·rw [if_neg z] at e;exact W.x.row m r e
 ·rw [th,W.x.nm m e];rfl
theorem ZuD {S S':az} (W:Wf S) {p kind:Str} (h:p_ S p kind=.ok S'):Wf S':=by
 unfold p_ at h
 split at h
 ·cases h
 ·rename_i hp
  have hp:eW p=true:=by simpa using hp
  split at h
  ·cases h
  ·rename_i d hf
   obtain ⟨h0,es,cg⟩:=Fc hf;have qN:=Zqh hf cg;have qO:=BH hp h0
   split at h
   ·cases h
   ·rename_i n hl
    obtain ⟨t1,t2,t3⟩:=Zr7 32 0 hl;rw [cg] at h;dsimp only at h
    have hd:aa S.dat n=none/\aa S.ent n=none:=by
     unfold ZE at t1;rw [YbJ] at t1;exact ⟨Option.not_isSome_iff_eq_none.mp (by rw [t1.1];decide),Option.not_isSome_iff_eq_none.mp (by rw [t1.2];decide)⟩
    split at h
    ·cases h
    ·rename_i h40
     cases h
     have n0:¬ n=0:=fun z=>by
      have:=W.x.rt
      rw [<- z,hd.2] at this
      cases this
     split
     ·have dn:¬ d=n:=fun z=>by rw [z,hd.2] at cg;cases cg
      have kW:aa (af S.ent n []) d=some es:=by rw [ZV,if_neg dn];exact cg
      have key:eh ⟨S.dat,af (af S.ent n []) d (af es (Zm p) n)⟩ (fun _=>0):=by
       have c1:∀ m,cnt (af S.ent n []) m=cnt S.ent m:=fun m=>by rw [Zyi hd.2];rfl
       have c2:∀ m,cnt (af (af S.ent n []) d (af es (Zm p) n)) m=cnt S.ent m + if m=n then 1 else 0:=fun m=>by
        have a:=yc (es':=af es (Zm p) n) (n:=m) (nE W.x.ke (k:=n) (x:=[])) kW;rw [c1,Bu qN] at a;omega
       have g:∀ m,aa (af (af S.ent n []) d (af es (Zm p) n)) m=if m=d then some (af es (Zm p) n) else if m=n then some [] else aa S.ent m:=fun m=>by rw [ZV,ZV]
       have gi:∀ m,(aa (af (af S.ent n []) d (af es (Zm p) n)) m).isSome=((aa S.ent m).isSome || decide (m=n)):=fun m=>by
        rw [g]
        by_cases z:m=d
        ·rw [if_pos z,z,cg];rfl
        ·rw [if_neg z]
         by_cases y:m=n
         ·rw [if_pos y,decide_eq_true y,WX];rfl
         ·rw [if_neg y,decide_eq_false y,Xs]
       have th:∀ m,ZE ⟨S.dat,af (af S.ent n []) d (af es (Zm p) n)⟩ m=(ZE S m || decide (m=n)):=fun m=>by
        unfold ZE;show ((aa S.dat m).isSome || (aa (af (af S.ent n []) d (af es (Zm p) n)) m).isSome)=_;rw [gi,Bool.or_assoc]
       have cn:cnt S.ent n=0:=by
        cases q:cnt S.ent n with
        | zero=>rfl
        | succ k=>have:=W.x.nm n (by omega);rw [t1] at this;cases this
       refine ⟨W.x.kd,nE (nE W.x.ke),fun m e=>?_,fun m e=>?_,?_,W.x.row,fun m fh e=>?_,fun m e=>?_,fun m e=>?_⟩
       ·have e:(aa (af (af S.ent n []) d (af es (Zm p) n)) m).isSome=true:=e;rw [gi,Xz] at e;rcases e with e | e
        ·exact W.x.dj m e
        ·rw [of_decide_eq_true e];exact hd.1
       ·rw [th,Xz] at e;rcases e with e | e
        ·exact W.x.rg m e
        ·rw [of_decide_eq_true e];exact ⟨by omega,by omega⟩
       ·show (aa (af (af S.ent n []) d (af es (Zm p) n)) 0).isSome=true;rw [gi,W.x.rt];rfl
       ·have e:aa (af (af S.ent n []) d (af es (Zm p) n)) m=some fh:=e;rw [g] at e
        by_cases z:m=d
        ·rw [if_pos z] at e;cases e;obtain ⟨a1,a2⟩:=W.x.es d es cg;exact ⟨ZpO a1 qO,nE a2⟩
        ·rw [if_neg z] at e
         by_cases y:m=n
         ·rw [if_pos y] at e;cases e;exact ⟨(fun p hp=>absurd hp X3),YaH⟩
         ·rw [if_neg y] at e;exact W.x.es m fh e
       ·have e:0 < cnt (af (af S.ent n []) d (af es (Zm p) n)) m:=e;rw [c2] at e;rw [th]
        by_cases y:m=n
        ·rw [decide_eq_true y,WX]
        ·rw [if_neg y] at e;rw [W.x.nm m (by omega)];rfl
       ·have e:(aa (af (af S.ent n []) d (af es (Zm p) n)) m).isSome=true:=e;rw [gi] at e;show cnt (af (af S.ent n []) d (af es (Zm p) n)) m=_;rw [c2]
        by_cases y:m=n
        ·rw [if_pos y,y,cn,if_neg n0]
        ·rw [decide_eq_false y,Xs] at e;rw [if_neg y];exact W.x.one m e
      have e:Z5 ⟨S.dat,af S.ent n []⟩ d (Zm p) n=⟨S.dat,af (af S.ent n []) d (af es (Zm p) n)⟩:=tm (S:=⟨S.dat,af S.ent n []⟩) kW;rw [e];refine ⟨key,Bd.put (S:=⟨S.dat,af S.ent n []⟩) (Bd.put W.b (Yv _)) ?_⟩
      have:=vL (es:=es) (name:=Zm p) (n:=n)
      omega
     ·have kW:aa (⟨af S.dat n [],S.ent⟩:az).ent d=some es:=cg
      have key:=(W.pA t1 (by omega) (by omega)).add (m:=n) kW qN qO (by
       unfold ZE;show ((aa (af S.dat n []) n).isSome || _)=true;rw [ZV,if_pos rfl];rfl)
      refine ⟨key.congr fun m e=>?_,?_⟩
      ·have e:(aa (Z5 ⟨af S.dat n [],S.ent⟩ d (Zm p) n).ent m).isSome=true:=e;rw [tm kW] at e;have e:(aa (af S.ent d (af es (Zm p) n)) m).isSome=true:=e;rw [nA cg] at e;rw [if_neg (fun z=>by rw [z,hd.2] at e;cases e)]
      ·rw [tm kW];refine Bd.put (S:=⟨af S.dat n [],S.ent⟩) W.b ?_
       have:=vL (es:=es) (name:=Zm p) (n:=n)
       omega
theorem Wf.mS {S:az} (W:Wf S) {n:Int} {d row:Row} (hd:eQ S n=.ok d) (hl:row.length<=600):Wf ⟨af S.dat n row,S.ent⟩:=by
 have hg:(∃ y,aa S.dat n=some y)/\aa S.ent n=none:=by
  unfold eQ at hd
  split at hd
  ·rename_i hb
   split at hd
   ·cases hd
   ·rename_i hg
    unfold ZE at hb;rw [hg,X4,Xs] at hb;exact ⟨Option.isSome_iff_exists.mp hb,hg⟩
  ·cases hd
 obtain ⟨⟨y,hy⟩,he⟩:=hg
 have gi:∀ m,(aa (af S.dat n row) m).isSome=(aa S.dat m).isSome:=fun m=>by
  rw [ZV]
  by_cases z:m=n
  ·rw [if_pos z,z,hy];rfl
  ·rw [if_neg z]
 have th:∀ m,ZE ⟨af S.dat n row,S.ent⟩ m=ZE S m:=fun m=>by
  unfold ZE;show ((aa (af S.dat n row) m).isSome || _)=_;rw [gi]
 refine ⟨⟨nE W.x.kd,W.x.ke,fun m e=>?_,fun m e=>W.x.rg m (by rw [<- th];exact e),W.x.rt,fun m r e=>?_,W.x.es,fun m e=>by rw [th];exact W.x.nm m e,W.x.one⟩,W.b⟩
 ·have:=W.x.dj m e
  have z:=gi m;rw [this] at z;exact Option.not_isSome_iff_eq_none.mp (by show ¬ (aa (af S.dat n row) m).isSome=true;rw [z];decide)
 ·have e:aa (af S.dat n row) m=some r:=e;rw [ZV] at e
  by_cases z:m=n
  ·rw [if_pos z] at e;cases e;exact hl
  ·rw [if_neg z] at e;exact W.x.row m r e
theorem Wf.data {S:az} (W:Wf S) {n:Int} {d:Row} (h:eQ S n=.ok d):d.length<=600:=by
 unfold eQ at h
 split at h
 ·split at h
  ·cases h
  ·cases h
   cases q:aa S.dat n with
   | none=>decide
   | some r=>exact W.x.row n r q
 ·cases h
theorem Zsy {S S':az} (W:Wf S) {n bx:Int} {row:Row} (h0:0<=bx) (h:oE S n bx row=.ok S'):Wf S':=by
 unfold oE at h
 split at h
 ·cases h
 ·rename_i d hd
  split at h
  ·cases h
  ·rename_i hz
   split at h
   ·cases h;exact W
   ·cases h
    refine W.mS hd ?_
    have:=W.data hd
    rw [Yf,Yf,Y0,YU];omega
theorem Zs0 {S S':az} (W:Wf S) {n size:Int} (h:oK S n size=.ok S'):Wf S':=by
 unfold oK at h
 split at h
 ·cases h
 ·rename_i d hd
  split at h
  ·cases h
  ·cases h
   refine W.mS hd ?_;rw [Y0];omega
theorem BP {S:az} {ex:Int->Nat} (W:eh S ex) {p:Str} {ps:List Int} (h0:¬ p="/") (h:fk S (Zw p) [0]=.ok ps):∃ es,aa S.ent (gB ps)=some es/\aa es (Zm p)=some (ps.getLastD 0)/\0 < cnt S.ent (ps.getLastD 0)/\ZE S (ps.getLastD 0)=true:=by
 obtain ⟨es,h1,h2,_⟩:=BE (lK h0) (by decide) h;have c:0 < cnt S.ent (ps.getLastD 0):=Yq (E7 h2) (qg h1);exact ⟨es,h1,h2,c,W.nm _ c⟩
theorem ZpX {S S':az} (W:Wf S) {old new:Str} (h:qj S old new=.ok S'):Wf S':=by
 unfold qj at h
 split at h
 ·cases h
 ·split at h
  ·cases h
  ·rename_i _ hp
   have hp:eW new=true:=by simpa using hp
   split at h
   ·cases h
   ·rename_i ps hw
    split at h
    ·cases h
    ·rename_i bY
     split at h
     ·cases h
     ·rename_i d hf
      split at h
      ·cases h
      ·rename_i h40
       cases h
       obtain ⟨h0,es,cg⟩:=Fc hf
       have o0:¬ old="/":=fun z=>by
        have hw:fk S (Zw old) [0]=.ok ps:=hw;rw [z] at hw;have e:Zw "/"=[]:=by unfold Zw;rw [if_pos rfl]
        rw [e,Bq] at hw
        cases hw
        exact bY W.x.rt
       obtain ⟨_,_,_,_,ht⟩:=BP W.x o0 hw;refine ⟨(W.x.add cg (Zqh hf cg) (BH hp h0) ht).congr fun m e=>?_,?_⟩
       ·rw [tm cg] at e;have e:(aa (af S.ent d (af es (Zm new) (ps.getLastD 0))) m).isSome=true:=e;rw [nA cg] at e;rw [if_neg (fun z=>bY (by rw [<- z];exact e))]
       ·rw [tm cg];refine W.b.put ?_;rw [cg,YD] at h40
        have:=vL (es:=es) (name:=Zm new) (n:=ps.getLastD 0)
        omega
theorem Zj4 {S:az} {d:Int} {es:ao} {name:Str} {m:Int} (h:aa S.ent d=some es) (hg:aa es name=some m) (k:Int) (fh:ao):aa (ZM S d name).ent k=some fh->aa (af S.ent d (ZQ es name)) k=some fh:=by
 rw [Ci h hg]
 split
 ·exact fun e=>e
 ·exact fun e=>sX e
theorem Bd.without {b:Nat} {S:az} (B:Bd b S) {d:Int} {es:ao} {name:Str} {m:Int} (h:aa S.ent d=some es) (hg:aa es name=some m):Bd b (ZM S d name):=fun k fh e=>by
 have e:=Zj4 h hg k fh e;rw [ZV] at e
 by_cases z:k=d
 ·rw [if_pos z] at e;cases e;exact Yk (XA _ _) (B d es h)
 ·rw [if_neg z] at e;exact B k fh e
theorem ZkN {S S':az} (W:Wf S) {p:Str} (h:qx S p=.ok S'):Wf S':=by
 unfold qx at h
 split at h
 ·split at h
  ·cases h
  ·rename_i ps hw
   split at h
   ·cases h
   ·rename_i h0
    split at h
    ·rename_i uQ
     cases h
     obtain ⟨es,h1,h2,_⟩:=BP W.x h0 hw;exact ⟨W.x.gone h1 h2 uQ,W.b.without h1 h2⟩
    ·cases h
 ·cases h
theorem Fx {S:az} (W:Wf S) {ps as:List Int} {old new:Str} {es ep:ao} (hn:ef (Zm new)=true) (ha:aa S.ent (as.getLastD 0)=some es) (hg:aa es (Zm new)=none)
  (hp:aa S.ent (gB ps)=some ep) (ho:aa ep (Zm old)=some (ps.getLastD 0)):u6 S ps as old new/\((as.getLastD 0=gB ps∨es.length<=39)->Wf (A6 S ps as old new)):=by
 have c:0 < cnt S.ent (ps.getLastD 0):=Yq (E7 ho) (qg hp);have ht:=W.x.nm _ c;have Wa:=W.x.add ha hg hn ht;have e1:Z5 S (as.getLastD 0) (Zm new) (ps.getLastD 0)=⟨S.dat,af S.ent (as.getLastD 0) (af es (Zm new) (ps.getLastD 0))⟩:=tm ha
 have D2:Bd 41 (Z5 S (as.getLastD 0) (Zm new) (ps.getLastD 0)):=by
  rw [e1];refine Bd.put (fun n es e=>YaT (W.b n es e)) ?_
  have:=vL (es:=es) (name:=Zm new) (n:=ps.getLastD 0)
  have:=W.b _ _ ha
  omega
 have bY:∀ x y,aa ep x=some y->as.getLastD 0=gB ps->x≠Zm new:=fun x y e z w=>by
  rw [z,hp] at ha
  cases ha
  rw [w,hg] at e
  cases e
 obtain ⟨r9,eo,nY,hlen⟩:∃ r9,aa (Z5 S (as.getLastD 0) (Zm new) (ps.getLastD 0)).ent (gB ps)=some r9/\aa r9 (Zm old)=some (ps.getLastD 0)/\(as.getLastD 0=gB ps->r9.length<=es.length + 1):=by
  rw [e1];show ∃ r9,aa (af S.ent (as.getLastD 0) (af es (Zm new) (ps.getLastD 0))) (gB ps)=some r9/\_;rw [ZV]
  by_cases z:gB ps=as.getLastD 0
  ·rw [if_pos z];have zY:ep=es:=by rw [z,ha] at hp;cases hp;rfl
   refine ⟨_,rfl,?_,fun _=>vL⟩;rw [ZV,if_neg (bY _ _ ho z.symm),<- zY];exact ho
  ·rw [if_neg z];exact ⟨ep,hp,ho,fun w=>absurd w.symm z⟩
 have Ki:=Wa.len D2 (by decide);have hJ:=Wa.hJ
 have c2:cnt (Z5 S (as.getLastD 0) (Zm new) (ps.getLastD 0)).ent (ps.getLastD 0)=cnt S.ent (ps.getLastD 0) + 1:=by
  rw [e1];have a:=yc (es':=af es (Zm new) (ps.getLastD 0)) (n:=ps.getLastD 0) W.x.ke ha;rw [Bu hg,if_pos rfl] at a;show cnt (af S.ent (as.getLastD 0) (af es (Zm new) (ps.getLastD 0))) (ps.getLastD 0)=_;omega
 have We:=Wa.less (ex':=fun _=>0) eo nY (by omega) fun n=>rfl;refine ⟨⟨W.sm,⟨es,ha⟩,Wa.small D2 (by decide),r9,_,eo,nY,Fs (by omega) Ki (Yk (XA _ _) (Yk (D2 _ _ eo) (by decide)))⟩,fun hl=>⟨We,fun k fh e=>?_⟩⟩;have e:=Zj4 eo nY k fh e;rw [ZV] at e
 by_cases z:k=gB ps
 ·rw [if_pos z] at e
  cases e
  have l:=(qv (n:=0) (Wa.es _ _ eo).2 nY).2
  by_cases y:as.getLastD 0=gB ps
  ·have:=hlen y
   have:=W.b _ _ ha
   omega
  ·have mX:aa (Z5 S (as.getLastD 0) (Zm new) (ps.getLastD 0)).ent (gB ps)=some ep:=by
    rw [e1];show aa (af _ _ _) _=_;rw [ZV,if_neg (fun w=>y w.symm)];exact hp
   rw [mX] at eo
   cases eo
   have:=W.b _ _ hp
   omega
 ·rw [if_neg z,e1] at e;have e:aa (af S.ent (as.getLastD 0) (af es (Zm new) (ps.getLastD 0))) k=some fh:=e;rw [ZV] at e
  by_cases y:k=as.getLastD 0
  ·rw [if_pos y] at e
   cases e
   have:=vL (es:=es) (name:=Zm new) (n:=ps.getLastD 0)
   rcases hl with w | w
   ·exact absurd (y.trans w) z
   ·omega
  ·rw [if_neg y] at e;exact W.b k fh e
theorem Zm3 {S:az} (W:Wf S) {ps as:List Int} {old new:Str} {es ep:ao} {t:Int} (hn:ef (Zm new)=true) (ha:aa S.ent (as.getLastD 0)=some es) (hg:aa es (Zm new)=some t) (uQ:ny S t=true) (htn:t≠ps.getLastD 0)
  (hp:aa S.ent (gB ps)=some ep) (ho:aa ep (Zm old)=some (ps.getLastD 0)):u6 (ZM S (as.getLastD 0) (Zm new)) ps as old new/\Wf (A6 (ZM S (as.getLastD 0) (Zm new)) ps as old new):=by
 have W1:Wf (ZM S (as.getLastD 0) (Zm new)):=⟨W.x.gone ha hg uQ,W.b.without ha hg⟩
 have full:∀ k e0 nm x,aa S.ent k=some e0->aa e0 nm=some x->k≠t:=fun k e0 nm x h1 h2 z=>by
  unfold ny at uQ;rw [<- z,h1,YD,List.isEmpty_iff] at uQ;rw [uQ] at h2
  cases h2
 have keep:∀ k e0,k≠t->aa (af S.ent (as.getLastD 0) (ZQ es (Zm new))) k=some e0->aa (ZM S (as.getLastD 0) (Zm new)).ent k=some e0:=fun k e0 h1 h2=>by
  rw [Ci ha hg]
  split
  ·exact h2
  ·show aa (ZQ _ t) k=some e0;rw [oM,if_neg h1];exact h2
 have ha1:aa (ZM S (as.getLastD 0) (Zm new)).ent (as.getLastD 0)=some (ZQ es (Zm new)):=keep _ _ (full _ _ _ _ ha hg) (by rw [ZV,if_pos rfl]);have xj:=qv (n:=0) (W.x.es _ _ ha).2 hg
 obtain ⟨DR,g7,rL⟩:∃ DR,aa (ZM S (as.getLastD 0) (Zm new)).ent (gB ps)=some DR/\aa DR (Zm old)=some (ps.getLastD 0):=by
  by_cases z:gB ps=as.getLastD 0
  ·have:ep=es:=by rw [z,ha] at hp;cases hp;rfl
   refine ⟨_,by rw [z];exact ha1,?_⟩;rw [oM,if_neg,<- this]
   ·exact ho
   ·intro w;rw [this,w,hg] at ho
    cases ho
    exact htn rfl
  ·exact ⟨ep,keep _ _ (full _ _ _ _ hp ho) (by rw [ZV,if_neg z];exact hp),ho⟩
 obtain ⟨r1,r2⟩:=Fx W1 hn ha1 (by rw [oM,if_pos rfl]) g7 rL;refine ⟨r1,r2 (.inr ?_)⟩
 have:=W.b _ _ ha
 omega
theorem Zm1 {S:az} {n t:Int} (h:qu S n t=.ok ()):ny S t=true:=by
 unfold qu at h
 split at h
 ·unfold vU at h
  split at h
  ·assumption
  ·cases h
 ·cases h
theorem ZxG {S:az} (W:Wf S) {old new:Str}:Zvw S old new:=fun ps as rH hw ha h0 h1 _=>by
 obtain ⟨_,es,cg⟩:=Gk ha;obtain ⟨ep,h2,h3,_⟩:=BP W.x h0 hw;have hn:=BH rH h1;rw [cg,YD];refine ⟨fun hg=>(Fx W hn cg hg h2 h3).1,fun t hg ht hc=>⟨?_,(Zm3 W hn cg hg (Zm1 hc) ht h2 h3).1⟩⟩
 have:=W.x.hJ
 refine Fs (by omega) (W.x.len W.b (by decide)) (Yk (XA _ _) (Yk (W.b _ _ cg) (by decide)))
theorem Zm2 {S S':az} (W:Wf S) {old new:Str} (h:qr S old new=.ok S'):Wf S':=by
 unfold qr at h
 split at h
 ·cases h
 ·split at h
  ·cases h
  ·rename_i _ rH
   have rH:eW new=true:=by simpa using rH
   split at h
   ·cases h
   ·rename_i ps hw
    split at h
    ·cases h
    ·rename_i h01
     have h0:¬ old="/":=fun z=>h01 (.inl z);have h1:¬ new="/":=fun z=>h01 (.inr z)
     split at h
     ·cases h
     ·rename_i as ha
      split at h
      ·cases h
      ·obtain ⟨_,es,cg⟩:=Gk ha;obtain ⟨ep,h2,h3,_⟩:=BP W.x h0 hw;have hn:=BH rH h1;unfold EI at h;rw [cg,YD] at h
       split at h
       ·rename_i t hg
        split at h
        ·cases h;exact W
        ·rename_i ht
         split at h
         ·cases h
         ·rename_i hc
          cases h
          exact (Zm3 W hn cg hg (Zm1 hc) ht h2 h3).2
       ·rename_i hg
        split at h
        ·cases h
        ·rename_i hz
         cases h
         refine (Fx W hn cg hg h2 h3).2 ?_
         by_cases y:as.getLastD 0=gB ps
         ·exact .inl y
         ·exact .inr (by
           have:¬ 40<=es.length:=fun z=>hz ⟨y,z⟩
           omega)
theorem yb {xs:List Int} {i:Int} {p:Int->Prop} (h0:0<=i) (h1:i < (xs.length:Int)) (hm:∀ x∈xs,p x):∃ s:Int,p s/\fj (xs.map V.int) i=some (.int s):=by
 have hi:i.toNat < xs.length:=by omega
 refine ⟨xs[i.toNat],hm _ (Ybe hi),qb h0 ?_⟩;rw [Yo,Yh hi];rfl
theorem vG {xs:List Str} {i:Int} {m:Nat} (h0:0<=i) (h1:i < (xs.length:Int)) (hm:∀ x∈xs,x.length<=m):∃ s:Str,s.length<=m/\fj (xs.map V.str) i=some (.str s):=by
 have hi:i.toNat < xs.length:=by omega
 refine ⟨xs[i.toNat],hm _ (Ybe hi),qb h0 ?_⟩;rw [Yo,Yh hi];rfl
theorem eg (m:Int) {d:Int} (h:0 < d):0<=m % d/\m % d < d:=⟨Int.emod_nonneg _ (by omega),YbR _ h⟩
def sr:List Str:=["a","b","c","d1","E.x","longname"]
theorem Zlw:∀ x∈sr,x.length<=8:=by decide +kernel
theorem ZpP:((sr.length:Nat):Int)=6:=rfl
def y9:List Str:=["","a","//","/a/","/..","/toolongname","/a b","/","/a/b/c/d1/E.x/longname/a/b"]
theorem Zuu:∀ x∈y9,x.length<=1000:=by decide +kernel
theorem wB:Str.length "/"=1:=by decide +kernel
def Zxu:Sp:=fun vs H Q _=>∃ m:Int,vs=[.int m]/\∀ (p:Str) H',ag H H'->p.length<=1000->Q (.str p) H'
theorem yo:Zp ["_law_more","_law_names","_law_path_here","_law_k"] ["_law_more"] (Zi Zk9):=ZN (by decide +kernel)
theorem wa (T:Tx K mg g):ah P w K mg base (aA P w) 1 g.eJ g.cU ["_law_more"] Zxu:=by
 refine T.qD.aP yo (fun vs H Q E h=>?_) (fun aq A outer s H vs Q E hr h=>?_)
 ·obtain ⟨m,rfl,_⟩:=h;rfl
 ·obtain ⟨m,rfl,q⟩:=h
  refine ⟨_,(Zd (Zz (i:=1) yo.nd rfl (Or.inl rfl) (fq (Za Zr (Za Zr (Za Zr (Za Zr (Za Zr (Za Zr Ze))))))))
   (Zd (Z0 (ZG fm (Zy c7 (pv 0) Zl) Zl (ZO _)) (Zh (Zt (bw ZU (fq (Za Zr (Za Zr (Za Zr (Za Zr (Za Zr (Za Zr (Za Zr (Za Zr (Za Zr Ze)))))))))) (Zy c7 (Zy eX (pv 0) Zl) Zl) (fun _ _=>rfl)))) Zx)
   (Zd (Zz (i:=2) yo.nd rfl (Or.inl rfl) (Zy GK Zr (bw ZU (pv 1) (Zy c7 (Zy eX (pv 0) Zl) (bw ZU (fq (Za Zl (Za Zl Ze))) (Zy c7 (Zy eX (pv 0) Zl) Zl) (fun _ _=>rfl))) (fun _ _=>rfl))))
   (Zd (i3 Y2 rfl (vT rfl T.qm (Za (Zy c7 (Zy eX (pv 0) Zl) Zl) Ze)) (Z9 (i:=3) yo.nd rfl (Or.inl rfl)) (Zh (Zz (i:=2) yo.nd rfl (Or.inl rfl) (Zy GK (Zy GK (pv 2) Zr) (bw ZU (pv 1) (Zy c7 (Zy eX (pv 0) (Zy lC Zl (Zy jt (Zy lC (pv 3) Zl) Zl))) Zl) (fun _ _=>rfl))))))
   (Zh (Zt (pv 2))))))),?_⟩
  have hSZ:(100000:Nat)<=Ym:=by decide
  refine ⟨aX 6,fun l hl=>?_⟩;have s1:=Zj (o:=.lst (sr.map V.str)) hl;have f1:(upd H l (.lst (sr.map V.str))) l=some (.lst (sr.map V.str)):=Zb;refine ⟨_,rfl,_,_,rfl,rfl,(by show (0:Int) < 23;decide),rfl,_,rfl,i8 (fun _=>?_) (fun _=>?_)⟩
  ·refine ⟨aX 9,fun l2 cJ=>?_⟩;obtain ⟨t,ht,bO⟩:=vG (xs:=y9) (i:=m / 23 % 9) (m:=1000) (eg _ (by decide)).1 (eg _ (by decide)).2 Zuu;refine ⟨_,rfl,_,_,rfl,rfl,⟨by decide,by decide⟩,_,_,rfl,rfl,(by show (0:Int) < 9;decide),l2,_,_,_,rfl,rfl,ar.of Zb,bO,?_⟩;exact q t _ (s1.trans (Zj cJ)) ht
  ·refine ⟨_,rfl,_,rfl,_,_,rfl,rfl,⟨by decide,by decide⟩,aX 2,fun l3 gw=>?_⟩;obtain ⟨d,hd,bO⟩:=yb (xs:=[3,6]) (i:=m / 7 % 2) (p:=fun d=>0 < d/\d<=6) (eg _ (by decide)).1 (eg _ (by decide)).2 (by decide);have s3:=Zj (o:=.lst [V.int 3,V.int 6]) gw;have f3:=s3 _ _ f1;refine ⟨_,rfl,_,_,rfl,rfl,⟨by decide,by decide⟩,_,_,rfl,rfl,(by show (0:Int) < 2;decide),l3,_,_,_,rfl,rfl,ar.of Zb,bO,_,_,rfl,rfl,hd.1,?_⟩;obtain ⟨nm,g8,Dx⟩:=vG (xs:=sr) (i:=m / 23 % d) (m:=8) (eg _ hd.1).1 (by have:=(eg (m / 23) hd.1).2;rw [ZpP];omega) Zlw;refine ⟨l,_,_,_,rfl,rfl,ar.of f3,Dx,_,_,rfl,rfl,(by rw [wB];omega),?_⟩;have i0:=eg (m / 1000) (d:=3) (by decide);refine ⟨_,rfl,_,_,rfl,rfl,⟨by decide,by decide⟩,_,_,rfl,rfl,(by show (0:Int) < 3;decide),?_⟩;have dw:=s1.trans s3;generalize upd (upd H l _) l3 _=H3 at f3 dw ⊢;refine ⟨m / 1000 % 3,rfl,by omega,by omega,?_⟩;refine BC (n:=(m / 1000 % 3).toNat) (fun i σ H'=>∃ t o3,σ=[some (.int m),some (.ref l),some (.str t),o3]/\H'=H3/\t.length<=10 + 10 * i) ⟨_,_,rfl,rfl,by rw [ZX,wB];omega⟩ (fun i σ H' hi h=>?_) (fun σ H' h=>?_)
   ·obtain ⟨t,o3,rfl,rfl,rD⟩:=h;have kD:(t++("/":Str)).length=t.length + 1:=by rw [ZX,wB]
    refine ⟨_,rfl,_,_,rfl,rfl,(by rw [wB];omega),_,rfl,_,rfl,_,rfl,_,_,rfl,rfl,.inr ⟨by omega,by omega⟩,_,_,rfl,rfl,_,_,rfl,rfl,.inl ⟨by decide,by decide⟩,_,_,rfl,rfl,⟨by omega,by omega⟩,_,_,rfl,rfl,(by show (0:Int) < 3;decide),?_⟩;generalize m / (4000 * ((0 + (i:Int)) * 7 + 1))=dd;obtain ⟨nm,g8,Dx⟩:=vG (xs:=sr) (i:=dd % 3) (m:=8) (eg _ (by decide)).1 (by have:=(eg dd (d:=3) (by decide)).2;rw [ZpP];omega) Zlw;refine ⟨l,_,_,_,rfl,rfl,ar.of f3,Dx,_,_,rfl,rfl,(by rw [kD];omega),?_⟩;exact ⟨_,_,rfl,rfl,by rw [ZX,kD];omega⟩
   ·obtain ⟨t,o3,rfl,rfl,rD⟩:=h;exact ⟨_,rfl,q _ _ dw (by omega)⟩
def Zz8:Sp:=fun vs H Q _=>∃ c m:Int,vs=[.int c,.int m]/\∀ (l:Addr) (row:Row) H',ag H H'->row.length<=200->H' l=some (.lst (row.map V.int))->Q (.ref l) H'
theorem ZkZ:Zp ["_law_cell_here","_law_more","_law_many"] ["_law_cell_here","_law_more"] (Zi Gh):=ZN (by decide +kernel)
theorem Zq8 (T:Tx K mg g):ah P w K mg base (aA P w) 1 g.fZ g.dE ["_law_cell_here","_law_more"] Zz8:=by
 refine T.F6.aP ZkZ (fun vs H Q E h=>?_) (fun aq A outer s H vs Q E hr h=>?_)
 ·obtain ⟨c,m,rfl,_⟩:=h;rfl
 ·obtain ⟨c,m,rfl,q⟩:=h
  refine ⟨_,(Zd (Zz (i:=2) ZkZ.nd rfl (Or.inl rfl) (bw ZU (fq (Za (Zy c7 (pv 1) Zl) (Za (Zy c7 (pv 1) Zl) (Za (Zy c7 (pv 1) Zl) Ze)))) (Zy c7 (Zy eX (pv 1) Zl) Zl) (fun _ _=>rfl)))
   (Zh (Zt (vF (own:=["_law_k"]) (fv:=["_law_cell_here","_law_more"]) (ix:=[0,1]) (mq (sc:=Zi Gh) (N:=["_law_cell_here","_law_more","_law_many"]) rfl rfl (by decide +kernel)) rfl (vT rfl T.qm (Za (pv 2) Ze)) (fun _ _ _ _ _=>Z9 (i:=0) (show (["_law_k","_law_cell_here","_law_more"]:List Str).Nodup from by decide +kernel) rfl (Or.inl rfl) (Or.inr rfl)) (fun _ _ _ _ _=>vA) (fun _ _ _ _ _=>(Zy c7 (Zy jt (Zy lC (pv 1) (Zy jt (pv 0) Zl)) (Zy eX (pv 2) (Zy jt (pv 0) Zl))) Zl)))))),?_⟩
  have hSZ:(100000:Nat)<=Ym:=by decide
  have a5:=eg m (d:=5) (by decide);have a4:=eg m (d:=40) (by decide);have a2:=eg m (d:=200) (by decide);refine ⟨_,rfl,_,_,rfl,rfl,(by show (0:Int) < 5;decide),_,rfl,_,_,rfl,rfl,(by show (0:Int) < 40;decide),_,rfl,_,_,rfl,rfl,(by show (0:Int) < 200;decide),aX 3,fun l1 d_=>?_⟩;obtain ⟨many,hm,bO⟩:=yb (xs:=[m % 5,m % 40,m % 200]) (i:=m / 200 % 3) (p:=fun d=>0<=d/\d<=200) (eg _ (by decide)).1 (eg _ (by decide)).2 (List.forall_mem_cons.mpr ⟨⟨by omega,by omega⟩,List.forall_mem_cons.mpr ⟨⟨by omega,by omega⟩,List.forall_mem_cons.mpr ⟨⟨by omega,by omega⟩,fun _ h=>nomatch h⟩⟩⟩);refine ⟨_,rfl,_,_,rfl,rfl,⟨by decide,by decide⟩,_,_,rfl,rfl,(by show (0:Int) < 3;decide),l1,_,_,_,rfl,rfl,ar.of Zb,bO,?_⟩;refine ⟨_,rfl,many,rfl,by omega,by omega,fun D hD=>?_⟩;refine Znq _ (n:=many.toNat) (lo:=0) (fun i ys H'=>∃ xs:Row,ys=xs.map V.int/\xs.length=i/\H' D=some (.lst ys)/\ag H H') ⟨[],rfl,rfl,Zb,(Zj d_).trans (Zj hD)⟩ (by omega) (fun i ys H' h=>?_) (fun i ys H' N hi h kk=>?_) (fun ys H' h=>?_)
  ·obtain ⟨xs,rfl,e,h4,_⟩:=h;exact ⟨h4,by rw [Yb];omega⟩
  ·obtain ⟨xs,rfl,e,h4,h5⟩:=h;refine ⟨_,rfl,_,rfl,_,_,rfl,rfl,_,_,rfl,rfl,.inr ⟨by omega,by omega⟩,_,rfl,_,rfl,_,_,rfl,rfl,_,_,rfl,rfl,⟨by omega,by omega⟩,_,_,rfl,rfl,_,_,rfl,rfl,(by show (0:Int) < 256;decide),?_⟩;refine kk _ _ h4 ⟨xs++[_],by rw [Yw];rfl,by rw [Yf,e];rfl,Zb,fun b o eb=>?_⟩;have hDH:=Fu (Zj d_) hD
   have:b≠D:=fun z=>by rw [z,hDH] at eb;cases eb
   rw [Zf this];exact h5 _ _ eb
  ·obtain ⟨xs,rfl,e,h4,h5⟩:=h;exact q D xs _ h5 (by omega) h4
inductive Dd where
 | make (p k:Str)
 | link (a b:Str)
 | unlink (p:Str)
 | rename (a b:Str)
 | write (n st:Int) (row:Row) (l:Addr)
 | cut (n size:Int)
 | snap (s:Str)
 | dC (s:Str)
def Dd.vs:Dd->List V
 | .make p k=>[.str "make",.str p,.str k]
 | .link a b=>[.str "link",.str a,.str b]
 | .unlink p=>[.str "unlink",.str p]
 | .rename a b=>[.str "rename",.str a,.str b]
 | .write n st _ l=>[.str "write",.int n,.int st,.ref l]
 | .cut n size=>[.str "cut",.int n,.int size]
 | .snap s=>[.str "snap",.str s]
 | .dC s=>[.str "unsnap",.str s]
def Dd.JO (H:Hp):Dd->Prop
 | .make p _=>p.length<=1000
 | .link a b=>a.length<=1000/\b.length<=1000
 | .unlink p=>p.length<=1000
 | .rename a b=>a.length<=1000/\b.length<=1000
 | .write _ st row l=>0<=st/\row.length<=1000/\H l=some (.lst (row.map V.int))
 | .cut _ size=>0<=size
 | .snap s=>s.length<=1000
 | .dC s=>s.length<=1000
def ZyV (K:Yg):Sp:=fun vs H Q _=>∃ (a:Addr) (ns:List Int) (k:Int),vs=[.ref a,.int k]/\ar K H a (ns.map V.int)/\ns.length<=63/\0<=k/\k < 1000000/\∀ (D:Dd) t H',ag H H'->H' t=some (.tup D.vs)->D.JO H'->Q (.ref t) H'
theorem wb:Zp ["_law_script","_law_k","_law_cell_here","_law_more","_law_way","_law_number"] ["_law_script","_law_k"] (Zi Zla):=ZN (by decide +kernel)
theorem ZpK (T:Tx K mg g):ah P w K mg base (aA P w) 2 g.eK g.cV ["_law_script","_law_k"] (ZyV K):=by
 refine T.GY.aP wb (fun vs H Q E h=>?_) (fun aq A outer s H vs Q E hr h=>?_)
 ·obtain ⟨a,ns,k,rfl,_⟩:=h;rfl
 ·obtain ⟨a,ns,k,rfl,hS,hl,uN,Ay,q⟩:=h
  refine ⟨_,(Zd (Zz (i:=2) wb.nd rfl (Or.inl rfl) (Zn (ZjU T) hr.dn rfl T.ZlF T.BV.kp T.eU .nil Zc (Za (pv 0) (Za (pv 1) Ze))))
   (Zd (Zz (i:=3) wb.nd rfl (Or.inl rfl) (Zn (Zoa T) hr.dn rfl T.ZpV T.HZ.kp T.iC .nil Zc (Za (pv 2) (Za (pv 1) Ze))))
   (Zd (Zz (i:=4) wb.nd rfl (Or.inl rfl) (Zy c7 (pv 3) Zl))
   (Zd (Zz (i:=3) wb.nd rfl (Or.inl rfl) (Zy eX (pv 3) Zl))
   (Zd (Zz (i:=5) wb.nd rfl (Or.inl rfl) (Zy jt (Zy c7 (pv 3) Zl) (bw ZU (fq (Za Zl (Za Zl Ze))) (ZT Zqy rfl T.Zyv PyProof.Rows.Boot.«int» (Za (mh fm (Zy c7 (Zy eX (pv 3) Zl) Zl) Zl (ZO _)) Ze)) (fun _ _=>rfl))))
   (Zd (Z0 (ZG vg (pv 4) Zl (ZO _)) (Zh (Zt (dz (Za Zr (Za (Zn (wa T) hr.dn rfl T.wg T.qD.kp T.bg .nil Zc (Za (pv 3) Ze)) (Za (bw ZU (fq (Za Zr (Za Zr Ze))) (Zy c7 (Zy eX (pv 3) Zl) Zl) (fun _ _=>rfl)) Ze)))))) Zx)
   (Zd (Z0 (ZG fm (pv 4) Zl (ZO _)) (Zh (Zt (dz (Za Zr (Za (Zn (wa T) hr.dn rfl T.wg T.qD.kp T.bg .nil Zc (Za (pv 3) Ze)) (Za (Zn (wa T) hr.dn rfl T.wg T.qD.kp T.bg .nil Zc (Za (Zy eX (pv 3) Zl) Ze)) Ze)))))) Zx)
   (Zd (Z0 (ZG vg (pv 4) Zl (ZO _)) (Zh (Zt (dz (Za Zr (Za (Zn (wa T) hr.dn rfl T.wg T.qD.kp T.bg .nil Zc (Za (pv 3) Ze)) Ze))))) Zx)
   (Zd (Z0 (ZG vg (pv 4) Zl (ZO _)) (Zh (Zt (dz (Za Zr (Za (Zn (wa T) hr.dn rfl T.wg T.qD.kp T.bg .nil Zc (Za (pv 3) Ze)) (Za (Zn (wa T) hr.dn rfl T.wg T.qD.kp T.bg .nil Zc (Za (Zy eX (pv 3) Zl) Ze)) Ze)))))) Zx)
   (Zd (Z0 (ZG vg (pv 4) Zl (ZO _)) (Zh (Zt (dz (Za Zr (Za (pv 5) (Za (bw ZU (fq (Za Zl (Za (Zy c7 (Zy eX (pv 3) Zl) Zl) (Za (Zy c7 (Zy eX (pv 3) Zl) Zl) Ze)))) (Zy c7 (Zy eX (pv 3) Zl) Zl) (fun _ _=>rfl)) (Za (Zn (Zq8 T) hr.dn rfl T.Ztm T.F6.kp T.jY .nil Zc (Za (pv 2) (Za (Zy eX (pv 3) Zl) Ze))) Ze))))))) Zx)
   (Zd (Z0 (ZG fm (pv 4) Zl (ZO _)) (Zh (Zt (dz (Za Zr (Za (pv 5) (Za (bw ZU (fq (Za (Zy c7 (Zy eX (pv 3) Zl) Zl) (Za (Zy c7 (Zy eX (pv 3) Zl) Zl) Ze))) (Zy c7 (Zy eX (pv 3) Zl) Zl) (fun _ _=>rfl)) Ze)))))) Zx)
   (Zd (Z0 (ZG fm (pv 4) Zl (ZO _)) (Zh (Zt (dz (Za Zr (Za (bw ZU (fq (Za Zr (Za Zr (Za Zr (Za Zr (Za Zr (Za Zr (Za Zr Ze)))))))) (Zy c7 (pv 3) Zl) (fun _ _=>rfl)) Ze))))) Zx)
   (Zh (Zt (dz (Za Zr (Za (bw ZU (fq (Za Zr (Za Zr (Za Zr (Za Zr (Za Zr (Za Zr Ze))))))) (Zy c7 (pv 3) Zl) (fun _ _=>rfl)) Ze))))))))))))))))),?_⟩
  refine ⟨_,rfl,_,rfl,a,ns,k,rfl,hS,hl,uN,Ay,fun H0 s0=>?_⟩;refine ⟨_,rfl,_,rfl,_,k,rfl,?_⟩;generalize nj ns k=c;generalize ZzE c k=m0;refine ⟨_,rfl,_,_,rfl,rfl,(by show (0:Int) < 16;decide),?_⟩;refine ⟨_,rfl,_,_,rfl,rfl,⟨by decide,by decide⟩,?_⟩;dsimp only;generalize m0 % 16=wy;generalize m0 / 16=m;refine ⟨_,rfl,_,_,rfl,rfl,(by show (0:Int) < 8;decide),aX 2,fun l1 d_=>?_⟩;refine ⟨_,rfl,_,_,rfl,rfl,⟨by decide,by decide⟩,_,_,rfl,rfl,(by show (0:Int) < 30;decide),rfl,.inr ⟨_,rfl,?_⟩⟩;obtain ⟨n4,_,bO⟩:=yb (xs:=[0,40]) (i:=if decide ((fun i j=>V.int (i % j)) (m / 8) 30=V.int 0)=true then 1 else 0) (p:=fun _=>True) (by split <;> decide) (by split <;> decide) (by decide);refine ⟨l1,_,_,_,rfl,rfl,ar.of Zb,bO,_,_,rfl,rfl,?_⟩;have s1:=s0.trans (Zj (o:=.lst [V.int 0,V.int 40]) d_);generalize upd H0 l1 _=H1 at s1 ⊢
  -- make
  refine ⟨_,rfl,_,_,rfl,rfl,_,rfl,i8 (fun _=>?_) (fun _=>?_)⟩
  ·refine ⟨_,rfl,m,rfl,fun p1 H2 s2 g7=>?_⟩;refine ⟨aX 2,fun l2 cJ=>?_⟩;obtain ⟨kd,_,bO⟩:=vG (xs:=["file","dir"]) (i:=m / 9 % 2) (m:=1000) (eg _ (by decide)).1 (eg _ (by decide)).2 (by decide +kernel);refine ⟨_,rfl,_,_,rfl,rfl,⟨by decide,by decide⟩,_,_,rfl,rfl,(by show (0:Int) < 2;decide),l2,_,_,_,rfl,rfl,ar.of Zb,bO,?_⟩;exact ⟨aX 3,fun t ht=>q (.make p1 kd) t _ ((s1.trans s2).trans ((Zj cJ).trans (Zj ht))) Zb g7⟩
  -- link
  refine ⟨_,rfl,rfl,_,rfl,i8 (fun _=>?_) (fun _=>?_)⟩
  ·refine ⟨_,rfl,m,rfl,fun p1 H2 s2 g7=>?_⟩;refine ⟨_,rfl,_,_,rfl,rfl,⟨by decide,by decide⟩,_,rfl,fun p2 H3 s3 eo=>?_⟩;exact ⟨aX 3,fun t ht=>q (.link p1 p2) t _ ((s1.trans s2).trans (s3.trans (Zj ht))) Zb ⟨g7,eo⟩⟩
  -- unlink
  refine ⟨_,rfl,_,_,rfl,rfl,_,rfl,i8 (fun _=>?_) (fun _=>?_)⟩
  ·refine ⟨_,rfl,m,rfl,fun p1 H2 s2 g7=>?_⟩;exact ⟨aX 2,fun t ht=>q (.unlink p1) t _ ((s1.trans s2).trans (Zj ht)) Zb g7⟩
  -- rename
  refine ⟨_,rfl,_,_,rfl,rfl,_,rfl,i8 (fun _=>?_) (fun _=>?_)⟩
  ·refine ⟨_,rfl,m,rfl,fun p1 H2 s2 g7=>?_⟩;refine ⟨_,rfl,_,_,rfl,rfl,⟨by decide,by decide⟩,_,rfl,fun p2 H3 s3 eo=>?_⟩;exact ⟨aX 3,fun t ht=>q (.rename p1 p2) t _ ((s1.trans s2).trans (s3.trans (Zj ht))) Zb ⟨g7,eo⟩⟩
  -- write
  refine ⟨_,rfl,_,_,rfl,rfl,_,rfl,i8 (fun _=>?_) (fun _=>?_)⟩
  ·refine ⟨_,rfl,_,rfl,_,_,rfl,rfl,⟨by decide,by decide⟩,_,_,rfl,rfl,(by show (0:Int) < 50;decide),_,rfl,_,_,rfl,rfl,⟨by decide,by decide⟩,_,_,rfl,rfl,(by show (0:Int) < 610;decide),aX 3,fun l2 cJ=>?_⟩;have b1:=eg (m / 16) (d:=50) (by decide);have b2:=eg (m / 16) (d:=610) (by decide);obtain ⟨st,cN,bO⟩:=yb (xs:=[0,m / 16 % 50,m / 16 % 610]) (i:=m / 64 % 3) (p:=fun d=>0<=d) (eg _ (by decide)).1 (eg _ (by decide)).2 (List.forall_mem_cons.mpr ⟨by decide,List.forall_mem_cons.mpr ⟨b1.1,List.forall_mem_cons.mpr ⟨b2.1,fun _ h=>nomatch h⟩⟩⟩);refine ⟨_,rfl,_,_,rfl,rfl,⟨by decide,by decide⟩,_,_,rfl,rfl,(by show (0:Int) < 3;decide),l2,_,_,_,rfl,rfl,ar.of Zb,bO,?_⟩;refine ⟨_,rfl,_,rfl,_,_,rfl,rfl,⟨by decide,by decide⟩,c,_,rfl,fun l3 row H3 s3 gE gw=>?_⟩;exact ⟨aX 4,fun t ht=>q (.write (m % 8 + n4) st row l3) t _ (s1.trans ((Zj cJ).trans (s3.trans (Zj ht)))) Zb ⟨cN,by omega,Zj ht _ _ gw⟩⟩
  -- cut
  refine ⟨_,rfl,rfl,_,rfl,i8 (fun _=>?_) (fun _=>?_)⟩
  ·refine ⟨_,rfl,_,rfl,_,_,rfl,rfl,⟨by decide,by decide⟩,_,_,rfl,rfl,(by show (0:Int) < 30;decide),_,rfl,_,_,rfl,rfl,⟨by decide,by decide⟩,_,_,rfl,rfl,(by show (0:Int) < 605;decide),aX 2,fun l2 cJ=>?_⟩;have b1:=eg (m / 16) (d:=30) (by decide);have b2:=eg (m / 16) (d:=605) (by decide);obtain ⟨sz,hsz,bO⟩:=yb (xs:=[m / 16 % 30,m / 16 % 605]) (i:=m / 64 % 2) (p:=fun d=>0<=d) (eg _ (by decide)).1 (eg _ (by decide)).2 (List.forall_mem_cons.mpr ⟨b1.1,List.forall_mem_cons.mpr ⟨b2.1,fun _ h=>nomatch h⟩⟩);refine ⟨_,rfl,_,_,rfl,rfl,⟨by decide,by decide⟩,_,_,rfl,rfl,(by show (0:Int) < 2;decide),l2,_,_,_,rfl,rfl,ar.of Zb,bO,?_⟩;exact ⟨aX 3,fun t ht=>q (.cut (m % 8 + n4) sz) t _ (s1.trans ((Zj cJ).trans (Zj ht))) Zb hsz⟩
  -- snap
  refine ⟨_,rfl,rfl,_,rfl,i8 (fun _=>?_) (fun _=>?_)⟩
  ·refine ⟨aX 7,fun l2 cJ=>?_⟩;obtain ⟨nm,g8,bO⟩:=vG (xs:=["s1","s2","s3","s4","","a/b","S."]) (i:=m % 7) (m:=1000) (eg _ (by decide)).1 (eg _ (by decide)).2 (by decide +kernel);refine ⟨_,rfl,_,_,rfl,rfl,(by show (0:Int) < 7;decide),l2,_,_,_,rfl,rfl,ar.of Zb,bO,?_⟩;exact ⟨aX 2,fun t ht=>q (.snap nm) t _ (s1.trans ((Zj cJ).trans (Zj ht))) Zb g8⟩
  ·refine ⟨aX 6,fun l2 cJ=>?_⟩;obtain ⟨nm,g8,bO⟩:=vG (xs:=["s1","s2","s3","s4","..","gone"]) (i:=m % 6) (m:=1000) (eg _ (by decide)).1 (eg _ (by decide)).2 (by decide +kernel);refine ⟨_,rfl,_,_,rfl,rfl,(by show (0:Int) < 6;decide),l2,_,_,_,rfl,rfl,ar.of Zb,bO,?_⟩;exact ⟨aX 2,fun t ht=>q (.dC nm) t _ (s1.trans ((Zj cJ).trans (Zj ht))) Zb g8⟩
structure iR (F:bX):Prop where
 s:Wf F.S
 n:F.k.length<=3
 nd:(F.k.map (·.1)).Nodup
 k:∀ n S,aa F.k n=some S->ef n=true/\Wf S
 p:lx F.T.synced
theorem iR.kk {F:bX} (h:iR F):hZ F.k:=⟨h.n,fun n S e=>⟨(h.k n S e).1,(h.k n S e).2.ok⟩⟩
theorem Eu {F F':bX} {S:az} {k:Kept} (h:gn F S k=.ok F'):F'.S=S/\F'.k=k/\F'.T=F.T:=by
 unfold gn at h
 split at h
 ·cases h
 ·cases h;exact ⟨rfl,rfl,rfl⟩
theorem iR.turn {F F':bX} (h:iR F) {S:az} (W:Wf S) (e:gn F S F.k=.ok F'):iR F':=by
 obtain ⟨e1,e2,e3⟩:=Eu e;exact ⟨by rw [e1];exact W,by rw [e2];exact h.n,by rw [e2];exact h.nd,by rw [e2];exact h.k,by rw [e3];exact h.p⟩
def ddF (F:bX):Dd->Except Rf bX
 | .make p k=>AQ F p k
 | .link a b=>AO F a b
 | .unlink p=>Bl F p
 | .rename a b=>Bp F a b
 | .write n st row _=>A9 F n st row
 | .cut n size=>pz F n size
 | .snap s=>vp F s
 | .dC s=>vO F s
theorem iR.uy {F F':bX} (h:iR F) (R:Except Rf az) (hw:∀ S,R=.ok S->Wf S) (e:(match R with | .error r=>(.error r:Except Rf bX) | .ok S=>gn F S F.k)=.ok F'):iR F':=by
 cases q:R with
 | error r=>rw [q] at e;cases e
 | ok S=>rw [q] at e;exact h.turn (hw S q) e
theorem iR.dd {F F':bX} (h:iR F) {H:Hp} {D:Dd} (hf:D.JO H) (e:ddF F D=.ok F'):iR F':=by
 cases D with
 | make p k=>exact h.uy (p_ F.S p k) (fun S z=>ZuD h.s z) e
 | link a b=>exact h.uy (qj F.S a b) (fun S z=>ZpX h.s z) e
 | unlink p=>exact h.uy (qx F.S p) (fun S z=>ZkN h.s z) e
 | rename a b=>exact h.uy (qr F.S a b) (fun S z=>Zm2 h.s z) e
 | write n st row l=>exact h.uy (oE F.S n st row) (fun S z=>Zsy h.s hf.1 z) e
 | cut n size=>exact h.uy (oK F.S n size) (fun S z=>Zs0 h.s z) e
 | snap s=>
  have e:vp F s=.ok F':=e;unfold vp at e
  split at e
  ·rename_i hn
   split at e
   ·cases e
   ·rename_i hi
    split at e
    ·cases e
    ·rename_i h3
     obtain ⟨e1,e2,e3⟩:=Eu e;refine ⟨by rw [e1];exact h.s,?_,by rw [e2];exact nE h.nd,fun n S z=>?_,by rw [e3];exact h.p⟩
     ·rw [e2];have:=qp F.k s F.S;omega
     ·rw [e2,ZV] at z
      by_cases y:n=s
      ·rw [if_pos y] at z;cases z;rw [y];exact ⟨hn,h.s⟩
      ·rw [if_neg y] at z;exact h.k n S z
  ·cases e
 | dC s=>
  have e:vO F s=.ok F':=e;unfold vO at e
  split at e
  ·split at e
   ·obtain ⟨e1,e2,e3⟩:=Eu e;exact ⟨by rw [e1];exact h.s,by rw [e2];exact Yk (XA _ _) h.n,by rw [e2];exact vX h.nd,fun n S z=>h.k n S (by rw [e2] at z;exact sX z),by rw [e3];exact h.p⟩
   ·cases e
  ·cases e
def ZxB (g:Gs):Sp:=fun vs H Q _=>∃ f q p b l F t D,vs=[.ref f,.ref t]/\cF g H f q p b l F/\iR F/\H t=some (.tup (Dd.vs D))/\D.JO H/\∀ v F' H',fT f H H'->cF g H' f q p b l F'->iR F'->Q v H'
theorem AJ (x:V) (r:List V):fj (x::r) 0=some x:=qb (by decide) rfl
theorem pY (x y:V) (r:List V):fj (x::y::r) 1=some y:=qb (by decide) rfl
theorem at2 (x y z:V) (r:List V):fj (x::y::z::r) 2=some z:=qb (by decide) rfl
theorem D4 (x y z u:V) (r:List V):fj (x::y::z::u::r) 3=some u:=qb (by decide) rfl
theorem bh {s t:Str} {a b:Prop} (e:s≠t) (h:b):if decide (V.str s=V.str t)=true then a else b:=by
 rw [if_neg (by rw [decide_eq_false (fun z=>e (by injection z))];decide)];exact h
theorem i7 {s:Str} {a b:Prop} (h:a):if decide (V.str s=V.str s)=true then a else b:=by
 rw [if_pos (decide_eq_true rfl)];exact h
theorem Ip:Zp ["_law_files","_law_deed_here","_law_word_here","_law_e"] ["_law_files","_law_deed_here"] (Zi Hv):=ZN (by decide +kernel)
theorem Zob (T:Tx K mg g):ah P w K mg base (aA P w) 8 g.cx g.cB ["_law_files","_law_deed_here"] (ZxB g):=by
 refine T.HY.aP Ip (fun vs H Q E h=>?_) (fun aq A outer s H vs Q E hr h=>?_)
 ·obtain ⟨f,q0,p0,b,l,F,t,D,rfl,_⟩:=h;rfl
 ·obtain ⟨f,q0,p0,b,l,F,t,D,rfl,cK,fo,ht,bN,q⟩:=h;obtain ⟨dx,sv,kv,iv,hF⟩:=id cK;have done:∀ {v:V} {H':Hp},ag H H'->Q v H':=fun s=>q _ F _ (fun d o e _=>s _ _ e) (cK.same s) fo;have so:=fo.s.ok;have sm:=fo.s.sm;have kk:=fo.kk;have po:=fo.p;have hJ:=fo.s.x.hJ
  refine ⟨_,(Zd (Zz (i:=2) Ip.nd rfl (Or.inl rfl) (bw iQ (pv 1) Zl (fun _ _=>rfl)))
   (Zh (ZwX (X:=aZ (aA P w) P w K mg base ["_law_files","_law_deed_here","_law_word_here","_law_e"] "_law_asked" (Zi Hv) g.cx aq A outer s H E) (i:=3) (tb:=fun E=>(i5 (i6 (qa (dN pF (aO 2) (tC (.str "make")))) (gC (kK g.ak "make" (ZwR g) [] E (aO 0) (cY (dN (dA K) (aO 1) (tC (.int 1))) (cY (dN (dA K) (aO 1) (tC (.int 2))) bp)))) p9) (i5 (i6 (qa (dN pF (aO 2) (tC (.str "link")))) (gC (kK g.ak "link" (Zt5 g) [] E (aO 0) (cY (dN (dA K) (aO 1) (tC (.int 1))) (cY (dN (dA K) (aO 1) (tC (.int 2))) bp)))) p9) (i5 (i6 (qa (dN pF (aO 2) (tC (.str "unlink")))) (gC (kK g.ak "unlink" (Zpg g) [] E (aO 0) (cY (dN (dA K) (aO 1) (tC (.int 1))) bp))) p9) (i5 (i6 (qa (dN pF (aO 2) (tC (.str "rename")))) (gC (kK g.ak "rename" (Zph g) [] E (aO 0) (cY (dN (dA K) (aO 1) (tC (.int 1))) (cY (dN (dA K) (aO 1) (tC (.int 2))) bp)))) p9) (i5 (i6 (qa (dN pF (aO 2) (tC (.str "write")))) (gC (kK g.ak "write" (ZrI g) [] E (aO 0) (cY (dN (dA K) (aO 1) (tC (.int 1))) (cY (dN (dA K) (aO 1) (tC (.int 2))) (cY (dN (dA K) (aO 1) (tC (.int 3))) bp))))) p9) (i5 (i6 (qa (dN pF (aO 2) (tC (.str "cut")))) (gC (kK g.ak "cut" (ZwS g) [] E (aO 0) (cY (dN (dA K) (aO 1) (tC (.int 1))) (cY (dN (dA K) (aO 1) (tC (.int 2))) bp)))) p9) (i5 (i6 (qa (dN pF (aO 2) (tC (.str "snap")))) (gC (kK g.ak "snap" (Zt4 g) [] E (aO 0) (cY (dN (dA K) (aO 1) (tC (.int 1))) bp))) p9) (gC (kK g.ak "unsnap" (Zpf g) [] E (aO 0) (cY (dN (dA K) (aO 1) (tC (.int 1))) bp))))))))))) rfl rfl rfl rfl T.Hn T.Zjo Ip.nd rfl rfl
   (fun pn E' E hE=>(Zd (Z0 (ZG fm (pv 2) Zr (ZO _)) (Zh (Zt (ZP (pv 0) T.Zq T.Zqb (Zog T) hr.dn T.iI .nil hE (Za (bw iQ (pv 1) Zl (fun _ _=>rfl)) (Za (bw iQ (pv 1) Zl (fun _ _=>rfl)) Ze))))) Zx)
   (Zd (Z0 (ZG fm (pv 2) Zr (ZO _)) (Zh (Zt (ZP (pv 0) T.Zq T.Zqc (Zoh T) hr.dn T.iJ .nil hE (Za (bw iQ (pv 1) Zl (fun _ _=>rfl)) (Za (bw iQ (pv 1) Zl (fun _ _=>rfl)) Ze))))) Zx)
   (Zd (Z0 (ZG fm (pv 2) Zr (ZO _)) (Zh (Zt (ZP (pv 0) T.Zq T.ZmE (Zls T) hr.dn T.gc .nil hE (Za (bw iQ (pv 1) Zl (fun _ _=>rfl)) Ze)))) Zx)
   (Zd (Z0 (ZG fm (pv 2) Zr (ZO _)) (Zh (Zt (ZP (pv 0) T.Zq T.ZmF (Zlt T) hr.dn T.gf .nil hE (Za (bw iQ (pv 1) Zl (fun _ _=>rfl)) (Za (bw iQ (pv 1) Zl (fun _ _=>rfl)) Ze))))) Zx)
   (Zd (Z0 (ZG fm (pv 2) Zr (ZO _)) (Zh (Zt (ZP (pv 0) T.Zq T.Zoz (Zmw T) hr.dn T.gL .nil hE (Za (bw iQ (pv 1) Zl (fun _ _=>rfl)) (Za (bw iQ (pv 1) Zl (fun _ _=>rfl)) (Za (bw iQ (pv 1) Zl (fun _ _=>rfl)) Ze)))))) Zx)
   (Zd (Z0 (ZG fm (pv 2) Zr (ZO _)) (Zh (Zt (ZP (pv 0) T.Zq T.Zrk (ZpL T) hr.dn T.jj .nil hE (Za (bw iQ (pv 1) Zl (fun _ _=>rfl)) (Za (bw iQ (pv 1) Zl (fun _ _=>rfl)) Ze))))) Zx)
   (Zd (Z0 (ZG fm (pv 2) Zr (ZO _)) (Zh (Zt (ZP (pv 0) T.Zq T.Zqa (Zof T) hr.dn T.iH .nil hE (Za (bw iQ (pv 1) Zl (fun _ _=>rfl)) Ze)))) Zx)
   (Zh (Zt (ZP (pv 0) T.Zq T.ZmD (Zlr T) hr.dn T.gb .nil hE (Za (bw iQ (pv 1) Zl (fun _ _=>rfl)) Ze))))))))))))
   (fun a=>(Zh (Zt (ZrX (ZjT T) (hr.dn.gv _) rfl T.ZlE T.BW.kp T.eT (Za (pv 3) Ze)))))))),?_⟩
  refine ⟨_,rfl,t,_,_,_,rfl,rfl,aG.of ht,(by cases D <;> exact AJ _ _:fj D.vs 0=some (D.vs.headD .aL)),?_⟩
  cases D with
  | make p k=>
   refine ⟨_,rfl,rfl,_,rfl,i7 ?_⟩;refine ⟨_,rfl,f,dx,_,rfl,hF.ob,Z6 _ _ _ _,_,rfl,t,_,_,_,rfl,rfl,aG.of ht,pY _ _ _,_,rfl,t,_,_,_,rfl,rfl,aG.of ht,at2 _ _ _ _,?_⟩;refine ⟨f,q0,p0,b,l,F,p,k,rfl,cK,sm,(by have:=hJ;omega),(by have:=hJ;omega),bN,(fun S z=>(ZuD fo.s z).ok),kk,po,?_⟩
   cases hm:AQ F p k with
   | ok F'=>exact fun H' b1 h'=>q _ F' H' b1 h' (fo.dd (D:=.make p k) bN hm)
   | error r=>exact fun H1 s1=>⟨g.xa r,rfl,T.sub r,fun a na=>⟨_,rfl,a,r,rfl,.inl Zb,fun H' sm=>done (s1.trans ((Zj na).trans sm))⟩⟩
  | link a c=>
   refine ⟨_,rfl,rfl,_,rfl,bh (by decide +kernel) ?_⟩;refine ⟨_,rfl,rfl,_,rfl,i7 ?_⟩;refine ⟨_,rfl,f,dx,_,rfl,hF.ob,Z6 _ _ _ _,_,rfl,t,_,_,_,rfl,rfl,aG.of ht,pY _ _ _,_,rfl,t,_,_,_,rfl,rfl,aG.of ht,at2 _ _ _ _,?_⟩;refine ⟨f,q0,p0,b,l,F,a,c,rfl,cK,sm,bN.1,bN.2,(fun S z=>(ZpX fo.s z).ok),kk,po,?_⟩
   cases hm:AO F a c with
   | ok F'=>exact fun H' b1 h'=>q _ F' H' b1 h' (fo.dd (D:=.link a c) bN hm)
   | error r=>exact fun H1 s1=>⟨g.xa r,rfl,T.sub r,fun a na=>⟨_,rfl,a,r,rfl,.inl Zb,fun H' sm=>done (s1.trans ((Zj na).trans sm))⟩⟩
  | unlink p=>
   refine ⟨_,rfl,rfl,_,rfl,bh (by decide +kernel) ?_⟩;refine ⟨_,rfl,rfl,_,rfl,bh (by decide +kernel) ?_⟩;refine ⟨_,rfl,rfl,_,rfl,i7 ?_⟩;refine ⟨_,rfl,f,dx,_,rfl,hF.ob,Z6 _ _ _ _,_,rfl,t,_,_,_,rfl,rfl,aG.of ht,pY _ _ _,?_⟩;refine ⟨f,q0,p0,b,l,F,p,rfl,cK,so,fo.s.x.len fo.s.b (by decide),bN,(fun S z=>(ZkN fo.s z).ok),kk,po,?_⟩
   cases hm:Bl F p with
   | ok F'=>exact fun H' b1 h'=>q _ F' H' b1 h' (fo.dd (D:=.unlink p) bN hm)
   | error r=>exact fun H1 s1=>⟨g.xa r,rfl,T.sub r,fun a na=>⟨_,rfl,a,r,rfl,.inl Zb,fun H' sm=>done (s1.trans ((Zj na).trans sm))⟩⟩
  | rename a c=>
   refine ⟨_,rfl,rfl,_,rfl,bh (by decide +kernel) ?_⟩;refine ⟨_,rfl,rfl,_,rfl,bh (by decide +kernel) ?_⟩;refine ⟨_,rfl,rfl,_,rfl,bh (by decide +kernel) ?_⟩;refine ⟨_,rfl,rfl,_,rfl,i7 ?_⟩;refine ⟨_,rfl,f,dx,_,rfl,hF.ob,Z6 _ _ _ _,_,rfl,t,_,_,_,rfl,rfl,aG.of ht,pY _ _ _,_,rfl,t,_,_,_,rfl,rfl,aG.of ht,at2 _ _ _ _,?_⟩;refine ⟨f,q0,p0,b,l,F,a,c,rfl,cK,sm,bN.1,bN.2,ZxG fo.s,(fun S z=>(Zm2 fo.s z).ok),kk,po,?_⟩
   cases hm:Bp F a c with
   | ok F'=>exact fun H' b1 h'=>q _ F' H' b1 h' (fo.dd (D:=.rename a c) bN hm)
   | error r=>exact fun H1 s1=>⟨g.xa r,rfl,T.sub r,fun a na=>⟨_,rfl,a,r,rfl,.inl Zb,fun H' sm=>done (s1.trans ((Zj na).trans sm))⟩⟩
  | write n st row wl=>
   refine ⟨_,rfl,rfl,_,rfl,bh (by decide +kernel) ?_⟩;refine ⟨_,rfl,rfl,_,rfl,bh (by decide +kernel) ?_⟩;refine ⟨_,rfl,rfl,_,rfl,bh (by decide +kernel) ?_⟩;refine ⟨_,rfl,rfl,_,rfl,bh (by decide +kernel) ?_⟩;refine ⟨_,rfl,rfl,_,rfl,i7 ?_⟩;refine ⟨_,rfl,f,dx,_,rfl,hF.ob,Z6 _ _ _ _,_,rfl,t,_,_,_,rfl,rfl,aG.of ht,pY _ _ _,_,rfl,t,_,_,_,rfl,rfl,aG.of ht,at2 _ _ _ _,_,rfl,t,_,_,_,rfl,rfl,aG.of ht,D4 _ _ _ _ _,?_⟩;refine ⟨f,q0,p0,b,l,F,n,st,wl,row,rfl,cK,so,bN.1,bN.2.2,bN.2.1,kk,po,?_⟩
   cases hm:A9 F n st row with
   | ok F'=>exact fun H' b1 h'=>q _ F' H' b1 h' (fo.dd (D:=.write n st row wl) bN hm)
   | error r=>exact fun H1 s1=>⟨g.xa r,rfl,T.sub r,fun a na=>⟨_,rfl,a,r,rfl,.inl Zb,fun H' sm=>done (s1.trans ((Zj na).trans sm))⟩⟩
  | cut n size=>
   refine ⟨_,rfl,rfl,_,rfl,bh (by decide +kernel) ?_⟩;refine ⟨_,rfl,rfl,_,rfl,bh (by decide +kernel) ?_⟩;refine ⟨_,rfl,rfl,_,rfl,bh (by decide +kernel) ?_⟩;refine ⟨_,rfl,rfl,_,rfl,bh (by decide +kernel) ?_⟩;refine ⟨_,rfl,rfl,_,rfl,bh (by decide +kernel) ?_⟩;refine ⟨_,rfl,rfl,_,rfl,i7 ?_⟩;refine ⟨_,rfl,f,dx,_,rfl,hF.ob,Z6 _ _ _ _,_,rfl,t,_,_,_,rfl,rfl,aG.of ht,pY _ _ _,_,rfl,t,_,_,_,rfl,rfl,aG.of ht,at2 _ _ _ _,?_⟩;refine ⟨f,q0,p0,b,l,F,n,size,rfl,cK,so,bN,kk,po,?_⟩
   cases hm:pz F n size with
   | ok F'=>exact fun H' b1 h'=>q _ F' H' b1 h' (fo.dd (D:=.cut n size) bN hm)
   | error r=>exact fun H1 s1=>⟨g.xa r,rfl,T.sub r,fun a na=>⟨_,rfl,a,r,rfl,.inl Zb,fun H' sm=>done (s1.trans ((Zj na).trans sm))⟩⟩
  | snap s1=>
   refine ⟨_,rfl,rfl,_,rfl,bh (by decide +kernel) ?_⟩;refine ⟨_,rfl,rfl,_,rfl,bh (by decide +kernel) ?_⟩;refine ⟨_,rfl,rfl,_,rfl,bh (by decide +kernel) ?_⟩;refine ⟨_,rfl,rfl,_,rfl,bh (by decide +kernel) ?_⟩;refine ⟨_,rfl,rfl,_,rfl,bh (by decide +kernel) ?_⟩;refine ⟨_,rfl,rfl,_,rfl,bh (by decide +kernel) ?_⟩;refine ⟨_,rfl,rfl,_,rfl,i7 ?_⟩;refine ⟨_,rfl,f,dx,_,rfl,hF.ob,Z6 _ _ _ _,_,rfl,t,_,_,_,rfl,rfl,aG.of ht,pY _ _ _,?_⟩;refine ⟨f,q0,p0,b,l,F,s1,rfl,cK,so,bN,kk,po,?_⟩
   cases hm:vp F s1 with
   | ok F'=>exact fun H' b1 h'=>q _ F' H' b1 h' (fo.dd (D:=.snap s1) bN hm)
   | error r=>exact fun H1 s1=>⟨g.xa r,rfl,T.sub r,fun a na=>⟨_,rfl,a,r,rfl,.inl Zb,fun H' sm=>done (s1.trans ((Zj na).trans sm))⟩⟩
  | dC s1=>
   refine ⟨_,rfl,rfl,_,rfl,bh (by decide +kernel) ?_⟩;refine ⟨_,rfl,rfl,_,rfl,bh (by decide +kernel) ?_⟩;refine ⟨_,rfl,rfl,_,rfl,bh (by decide +kernel) ?_⟩;refine ⟨_,rfl,rfl,_,rfl,bh (by decide +kernel) ?_⟩;refine ⟨_,rfl,rfl,_,rfl,bh (by decide +kernel) ?_⟩;refine ⟨_,rfl,rfl,_,rfl,bh (by decide +kernel) ?_⟩;refine ⟨_,rfl,rfl,_,rfl,bh (by decide +kernel) ?_⟩;refine ⟨_,rfl,f,dx,_,rfl,hF.ob,Z6 _ _ _ _,_,rfl,t,_,_,_,rfl,rfl,aG.of ht,pY _ _ _,?_⟩;refine ⟨f,q0,p0,b,l,F,s1,rfl,cK,so,bN,kk,po,?_⟩
   cases hm:vO F s1 with
   | ok F'=>exact fun H' b1 h'=>q _ F' H' b1 h' (fo.dd (D:=.dC s1) bN hm)
   | error r=>exact fun H1 s1=>⟨g.xa r,rfl,T.sub r,fun a na=>⟨_,rfl,a,r,rfl,.inl Zb,fun H' sm=>done (s1.trans ((Zj na).trans sm))⟩⟩
def gO (H:Hp) (a:Addr):Hp:=fun b=>if b=a then none else H b
theorem qh {H:Hp} {a b:Addr} {o:HO} (h:H b=some o) (n:b≠a):gO H a b=some o:=by unfold gO;rw [if_neg n];exact h
theorem jD {H:Hp} {a b:Addr} {o:HO} (h:gO H a b=some o):H b=some o/\b≠a:=by
 unfold gO at h
 split at h
 ·cases h
 ·exact ⟨h,by assumption⟩
theorem Zsc (H:Hp) (a:Addr):ag (gO H a) H:=fun _ _ e=>(jD e).1
theorem Zxa {H H':Hp} {a:Addr} (k:∀ b o,H b=some o->b≠a->H' b=some o):ag (gO H a) (gO H' a):=fun b o e=>qh (k b o (jD e).1 (jD e).2) (jD e).2
theorem cF.tab {g:Gs} {H:Hp} {f q p b l P:Addr} {F:bX} {ps:Array Value} (h:cF g H f q p b l F) (hP:H P=some (.cM ps)):cF g (gO H P) f q p b l F:=
 h.od fun d u e n=>qh e fun z=>by
  rw [z,hP] at e
  cases e
  exact n (.inl ⟨(),(),rfl⟩)
abbrev lq (q:Str):Str:=(q++Y9 ".<locals>.")++Y9 "<lambda>"
def qc (P:Program) (w:World) (K:Yg) (mg:Str->Option Value) (base:Heap) (g:Gs):Sp:=fun vs H Q _=>∃ f fd sp o,vs=[.ref f]/\ah P w K mg base (aA P w) 6 f fd [] sp/\ZF K fd [] []/\base.get? f=some o/\o.data=.func fd/\
 ∀ E:XK,(∀ (r:Rf) H1,(∀ H',ag H1 H'->Q (.str r.word) H')->E (.ref (g.xa r)) none H1)->sp [] H Q E
theorem Zjs:Zp ["_law_rule","_law_e"] ["_law_rule"] (Zi G_):=ZN (by decide +kernel)
theorem B5 (T:Tx K mg g):ah P w K mg base (aA P w) 8 g.c5 g.cT ["_law_rule"] (qc P w K mg base g):=by
 refine T.we.aP Zjs (fun vs H Q E h=>?_) (fun aq A outer s H vs Q E hr h=>?_)
 ·obtain ⟨f,fd,sp,o,rfl,_⟩:=h;rfl
 ·obtain ⟨f,fd,sp,o,rfl,F,hb,ho,hd,q⟩:=h
  refine ⟨_,(Zh (ZwX (X:=aZ (aA P w) P w K mg base ["_law_rule","_law_e"] "_law_told" (Zi G_) g.c5 aq A outer s H E) (i:=1) (tb:=fun E=>gC (ZwQ P w K mg base (aA P w) 6 E 0)) rfl rfl rfl rfl T.Hn T.Zjo Zjs.nd rfl rfl
   (fun pn E' E hE=>(Zh (Zt (Zv6 (k:=6) hr.dn hE))))
   (fun a=>(Zh (Zt (ZrX (ZjT T) (hr.dn.gv _) rfl T.ZlE T.BW.kp T.eT (Za (pv 1) Ze))))))),?_⟩
  refine ⟨f,fd,sp,o,rfl,F,hb,ho,hd,q _ fun r H1 k=>?_⟩;exact ⟨g.xa r,rfl,T.sub r,fun a na=>⟨_,rfl,a,r,rfl,.inl Zb,fun H' sm=>k H' ((Zj na).trans sm)⟩⟩
abbrev wQ:List Str:=["_law_files","_law_number"]
theorem ZtL {f c:Addr} {cl:List (Str×Addr)} {pm gT:Value} {H1:Hp} {Q:VK} {E:XK} {qual:Str} {params:Arguments} {body:Expr} {scope:Scope} {fv:List Str} {vs:List V} {sp:Hp->VK->XK->Prop}
  (hf:base.get? f=some (W6 "<lambda>" qual params body scope cl pm c gT)) (S:Bs scope fv) (C:wq base cl fv vs) (hc:nB qual H1 c) (hb:ZF K (PySem.W.kla_fn "<lambda>" qual params body scope cl pm (.ref c) gT) [] [])
  (b9:∀ (A:Around) (outer:List Env) (s:Shared) (H:Hp) (Q:VK) (E:XK),aW 5 (A.deeper (X1 qual scope s.heap.objs.size f (.ref c) cl))->sp H Q E->∃ t,PE (ou (aA P w) P w K mg base fv qual scope f (.ref c) cl A outer s H E) body t/\t (vs.map some) H Q)
  (h:∀ E:XK,(∀ (r:Rf) H2,(∀ H',ag H2 H'->Q (.str r.word) H')->E (.ref (g.xa r)) none H2)->sp H1 Q E):qc P w K mg base g [.ref f] H1 Q E:=
 ⟨f,_,_,_,rfl,Zzy hf S C b9,hb,hf,rfl,fun E' h'=>⟨rfl,hc,h E' h'⟩⟩
abbrev tJ:Arguments:={posonlyargs:=[],args:=[],vararg:=none,kwonlyargs:=[],kw_defaults:=[],kwarg:=none,defaults:=[]}
abbrev jH:Scope:={kind:=.function,names:=[(Y9 "_law_files",.free),(Y9 "_law_number",.free)],isGenerator:=false,isCoroutine:=false,more:=[]}
theorem Zw7:Bs jH wQ:=⟨rfl,rfl,rfl,by decide +kernel,by decide +kernel,by decide +kernel⟩
theorem Zp1 {qual:Str} {body:Expr} {scope:Scope} {cl:List (Str×Addr)} {pm gT:Value} {c:Addr}:ZF K (PySem.W.kla_fn "<lambda>" qual tJ body scope cl pm (.ref c) gT) [] []:=ZF.all fun us hl=>match us,hl with | [],_=>rfl
section
variable {f c f0 dx:Addr} {cl:List (Str×Addr)} {pm gT:Value} {H1:Hp} {Q:VK} {E:XK} {qual:Str} {body:Expr} {sv k t i:V} {n:Int} {m:Str} {sp:Sp}
theorem jI (hf:base.get? f=some (W6 "<lambda>" qual tJ body jH cl pm c gT)) (C:wq base cl wQ [.ref f0,.int n]) (hc:nB qual H1 c)
  (ho:H1 f0=some (.ins g.ak dx (cL sv k t i))) (hl:(cL sv k t i).lookup m=none)
  (hb:∀ (A:Around) (outer:List Env) (s:Shared) (H:Hp) (E:XK),aW 5 (A.deeper (X1 qual jH s.heap.objs.size f (.ref c) cl))->PE (ou (aA P w) P w K mg base wQ qual jH f (.ref c) cl A outer s H E) body (kK g.ak m sp [] (fun _=>E) (aO 0) (cY (aO 1) bp)))
  (h:∀ E:XK,(∀ (r:Rf) H2,(∀ H',ag H2 H'->Q (.str r.word) H')->E (.ref (g.xa r)) none H2)->sp [.ref f0,.int n] H1 Q E):qc P w K mg base g [.ref f] H1 Q E:=
 ZtL (sp:=fun H Q E=>H f0=some (.ins g.ak dx (cL sv k t i))/\sp [.ref f0,.int n] H Q E) hf Zw7 C hc Zp1 (fun A outer s H Q E hr h=>⟨_,hb A outer s H E hr,_,rfl,f0,dx,_,rfl,h.1,hl,_,rfl,h.2⟩) fun E hE=>⟨ho,h E hE⟩
theorem tK (hf:base.get? f=some (W6 "<lambda>" qual tJ body jH cl pm c gT)) (C:wq base cl wQ [.ref f0,.int n]) (hc:nB qual H1 c)
  (ho:H1 f0=some (.ins g.ak dx (cL sv k t i))) (hl:(cL sv k t i).lookup m=none) {a b:Int}
  (hb:∀ (A:Around) (outer:List Env) (s:Shared) (H:Hp) (E:XK),aW 5 (A.deeper (X1 qual jH s.heap.objs.size f (.ref c) cl))->PE (ou (aA P w) P w K mg base wQ qual jH f (.ref c) cl A outer s H E) body (kK g.ak m sp [] (fun _=>E) (aO 0) (cY (aO 1) (cY (tC (.int a)) (cY (tC (.int b)) bp)))))
  (h:∀ E:XK,(∀ (r:Rf) H2,(∀ H',ag H2 H'->Q (.str r.word) H')->E (.ref (g.xa r)) none H2)->sp [.ref f0,.int n,.int a,.int b] H1 Q E):qc P w K mg base g [.ref f] H1 Q E:=
 ZtL (sp:=fun H Q E=>H f0=some (.ins g.ak dx (cL sv k t i))/\sp [.ref f0,.int n,.int a,.int b] H Q E) hf Zw7 C hc Zp1 (fun A outer s H Q E hr h=>⟨_,hb A outer s H E hr,_,rfl,f0,dx,_,rfl,h.1,hl,_,rfl,h.2⟩) fun E hE=>⟨ho,h E hE⟩
end
theorem Zzb {n:Nat} {key:Nat->List Nat} (inj:∀ i j,i < n->j < n->key i=key j->i=j):Ord n (fun i j=>decide (key i < key j)):=by
 refine ⟨fun i j k _ _ _ h1 h2=>decide_eq_true (Ya6 (of_decide_eq_true h1) (of_decide_eq_true h2)),fun i j hi hj ne=>?_⟩
 by_cases h:key i < key j
 ·rw [decide_eq_true h,decide_eq_false (fun z=>List.lt_irrefl _ (Ya6 h z))];rfl
 ·rw [decide_eq_false h]
  by_cases h2:key j < key i
  ·rw [decide_eq_true h2];rfl
  ·exact absurd (inj i j hi hj (List.le_antisymm h2 h)) ne
theorem EA {a b:Str} (h:a.cps.toList=b.cps.toList):a=b:=by
 obtain ⟨x⟩:=a;obtain ⟨y⟩:=b
 have:x=y:=Array.toList_inj.mp h
 rw [this]
theorem Zue {α:Type} {d:α} {xs:List α} {key:α->List Nat} {lt:Nat->Nat->Bool} (hl:∀ i j,i < xs.length->j < xs.length->lt i j=decide (key (xs.getD i d) < key (xs.getD j d))) (nd:(xs.map key).Nodup) (h2:2<=xs.length) :
  ((ZB lt (PySem.W.kas_sort xs.length)).toList.map fun i=>xs.getD i d).Pairwise fun a b=>key a < key b:=by
 have O':Ord xs.length (fun i j=>decide (key (xs.getD i d) < key (xs.getD j d))):=by
  refine Zzb fun i j hi hj z=>?_;rw [Ys,Ys,Yh hi,Yh hj,YD,YD] at z;have z2:(xs.map key)[i]'(by rw [Yb];exact hi)=(xs.map key)[j]'(by rw [Yb];exact hj):=by rw [Wo,Wo];exact z
  exact (Ybf nd).mp z2
 have O:Ord xs.length lt:=⟨fun i j k a b c h1 h2=>by rw [hl i k a c];rw [hl i j a b] at h1;rw [hl j k b c] at h2;exact O'.tr i j k a b c h1 h2,fun i j a b n=>by rw [hl i j a b,hl j i b a];exact O'.ap i j a b n⟩
 have u:=Zxn O (by omega) h2;have low:=qE lt (sW (n:=xs.length) (by omega));have hs:=bM.size low;rw [List.pairwise_iff_getElem];intro i j hi hj oh;rw [Yb,YH] at hi hj;have c:=u i j oh (by omega);rw [hl _ _ (bM.at low (by omega) _) (bM.at low (by omega) _)] at c;have c:=of_decide_eq_true c;rw [YE,YE,YI hi,YI hj,YD,YD] at c;rw [Wo,Wo,Yaq,Yaq];exact c
theorem ZmR {es:ao} (nd:(es.map (·.1)).Nodup):(bB es).Pairwise fun a b=>a.1.cps.toList < b.1.cps.toList:=by
 unfold bB
 split
 ·rename_i h
  match es,h with
  | [],_=>exact YaV
  | [x],_=>exact Ybc _ _
 ·rename_i h
  have nd2:(es.map fun p=>p.1.cps.toList).Nodup:=by
   have:(es.map fun p=>p.1.cps.toList)=(es.map (·.1)).map fun n=>n.cps.toList:=by rw [XJ];rfl
   rw [this];exact List.pairwise_map.mpr (nd.imp fun h z=>h (EA z))
  refine Zue (key:=fun p:Str×Int=>p.1.cps.toList) (fun i j hi hj=>?_) nd2 (by omega);unfold kL
  by_cases z:(es.getD i (Str.empty,0)).1=(es.getD j (Str.empty,0)).1
  ·have y:i=j:=by
    rw [Ys,Ys,Yh hi,Yh hj,YD,YD] at z;have z2:(es.map (·.1))[i]'(by rw [Yb];exact hi)=(es.map (·.1))[j]'(by rw [Yb];exact hj):=by rw [Wo,Wo];exact z
    exact (Ybf nd).mp z2
   rw [y,if_pos rfl,if_pos rfl,decide_eq_false (List.lt_irrefl _)]
  ·rw [if_neg z]
theorem ZvU {es:ao} (nd:(es.map (·.1)).Nodup):((bB es).map (·.1)).Nodup:=((s_ es).map _).nodup_iff.mpr nd
theorem ZsT {es:ao} (nd:(es.map (·.1)).Nodup):bB (bB es)=bB es:=
 List.Perm.eq_of_pairwise (fun a b _ _ h1 h2=>absurd (Ya6 h1 h2) (List.lt_irrefl _)) (ZmR (ZvU nd)) (ZmR nd) (s_ _)
theorem ZsS {ns:List Str} (nd:ns.Nodup):(eV ns).Pairwise fun a b=>a.cps.toList < b.cps.toList:=by
 unfold eV
 split
 ·rename_i h
  match ns,h with
  | [],_=>exact YaV
  | [x],_=>exact Ybc _ _
 ·exact Zue (key:=fun p:Str=>p.cps.toList) (fun i j _ _=>rfl) (List.pairwise_map.mpr (nd.imp fun h z=>h (EA z))) (by omega)
theorem ZpC:∀ (r:List Str) (x:Str),PyProof.Rows.risingS x r=true->(x::r).Pairwise fun a b=>¬ b.cps.toList < a.cps.toList
 | [],x,_=>Ybc _ _
 | y::r,x,h=>by
  rw [PyProof.Rows.risingS.eq_2,YV,PyProof.Rows.ltCps_eq] at h
  have h1:¬ y.cps.toList < x.cps.toList:=by
   intro z
   have:=h.1
   rw [decide_eq_true z] at this
   cases this
  have ih:=ZpC r y h.2;refine List.Pairwise.cons (fun b hb z=>?_) ih;rcases List.mem_cons.mp hb with e | e
  ·rw [e] at z;exact h1 z
  ·have h2:=(List.pairwise_cons.mp ih).1 b e
   by_cases w:b.cps.toList < y.cps.toList
   ·exact h2 w
   ·by_cases v:y.cps.toList < b.cps.toList
    ·exact h1 (Ya6 v z)
    ·have:b.cps.toList=y.cps.toList:=List.le_antisymm v w
     rw [this] at z;exact h1 z
theorem ZsR {ms ns:List Str} (hp:ms.Perm ns) (hs:PyProof.Rows.sortedS ms=true) (hr:ns.Pairwise fun a b=>a.cps.toList < b.cps.toList):ms=ns:=by
 have h1:ms.Pairwise fun a b=>¬ b.cps.toList < a.cps.toList:=by
  cases ms with
  | nil=>exact YaV
  | cons x r=>exact ZpC r x hs
 exact List.Perm.eq_of_pairwise (fun a b _ _ h1 h2=>EA (List.le_antisymm h1 h2)) h1 (hr.imp fun h z=>List.lt_irrefl _ (Ya6 h z)) hp
theorem ZuM:∀ c∈ow.cps.toList,c < 128:=by decide +kernel
theorem Zr1 {t:Str} (h:ef t=true):(PyData.str t).canLay0=true:=by
 unfold PyData.canLay0;show t.cps.all (fun x=>decide (x < 1114112))=true;rw [Array.all_eq_true];intro i hi;unfold ef at h
 split at h
 ·cases h
 ·have hc:=List.all_eq_true.mp h i (List.mem_range.mpr hi);rw [YE,YI hi,YD] at hc;unfold sH at hc;rw [PySem.StrLaws.found_one] at hc
  have:=ZuM _ (of_decide_eq_true hc)
  exact decide_eq_true (by omega)
abbrev Ef (p:Str×Int):Wd:=.tuple [.str p.1,.int p.2]
theorem Zpp {es:ao} (h:lH es):YY (.list (es.map Ef))=true:=G' (k:=1) (fun d hd=>by
 obtain ⟨p,hp,rfl⟩:=List.mem_map.mp hd;exact Flat.tup (k:=0) (List.forall_mem_cons.mpr ⟨Fb (Zr1 (h p hp)),List.forall_mem_cons.mpr ⟨Bw _,fun _ h=>nomatch h⟩⟩)) (by decide)
theorem Zp7 {H:Hp}:∀ {es:ao} {as:List Addr},as.length=es.length->(∀ (j:Nat) a (p:Str×Int),as[j]?=some a->es[j]?=some p->H a=some (.tup [.str p.1,.int p.2]))->dM H (as.map V.ref) (es.map Ef)
 | [],[],_,_=>.nil
 | p::es,a::as,hl,h=>.cons (.tup (h 0 a p rfl rfl) (.cons (.str _) (.cons (.int _) .nil))) (Zp7 (by simpa using hl) fun j b q hb hq=>h (j + 1) b q (by simpa using hb) (by simpa using hq))
theorem ZkV {s:Str} (h:(PyData.str s).canLay0=true) (b c:Int):YY (.tuple [.str s,.int b,.int c])=true:=ZqV (Flat.tup (k:=0) (List.forall_mem_cons.mpr ⟨Fb h,List.forall_mem_cons.mpr ⟨Bw _,List.forall_mem_cons.mpr ⟨Bw _,fun _ h=>nomatch h⟩⟩⟩)) (by decide)
theorem lG {K:Yg} {H:Hp} (s:Str):fS K H (.str s) (.str s):=.inl (.inl (.str s))
theorem vk {K:Yg} {H:Hp} {a:Addr} {s:Str} {b c:Int} (h:H a=some (.tup [.str s,.int b,.int c])):fS K H (.ref a) (.tuple [.str s,.int b,.int c]):=.inl (.inl (.tup h (.cons (.str _) (.cons (.int _) (.cons (.int _) .nil)))))
theorem zC {K:Yg} {H:Hp} {a:Addr} {d:Row} (h:H a=some (.lst (d.map V.int))):fS K H (.ref a) (.list (d.map PyData.int)):=.inl (.inr ⟨a,_,_,rfl,rfl,ar.of h,ES _ d⟩)
theorem px {K:Yg} {H:Hp} {a:Addr} {as:List Addr} {es:ao} (h:H a=some (.lst (as.map V.ref))) (hl:as.length=es.length) (hp:∀ (j:Nat) a (p:Str×Int),as[j]?=some a->es[j]?=some p->H a=some (.tup [.str p.1,.int p.2])):fS K H (.ref a) (.list (es.map Ef)):=.inl (.inr ⟨a,_,_,rfl,rfl,ar.of h,Zp7 hl hp⟩)
theorem Zux {S:az} (hn:S.ent.length<=100) (hm:∀ p∈S.ent,p.2.length<=100):(gW S).length<=100000:=by
 have key:∀ (xs:List (Int×ao)),(∀ p∈xs,p.2.length<=100)->((xs.map fun p=>p.2.map (·.2)).flatten).length<=100 * xs.length:=by
  intro xs
  induction xs with
  | nil=>intro _;exact Yv _
  | cons p r ih=>
   intro h;rw [Yt,Xh,Yf,Yb,Yz];have h1:=h p YA;have h2:=ih fun q hq=>h q (Yr _ hq);omega
 have:=key S.ent hm
 show ((S.ent.map fun p=>p.2.map (·.2)).flatten).length<=_;omega
theorem Wf.nl {S:az} (W:Wf S):(gW S).length<=100000:=Zux (by have:=W.x.hJ;omega) (W.x.len W.b (by decide))
structure NS (g:Gs) (tb:Addr) (qual:Str) (H0 H:Hp) (f q p b l:Addr) (F:bX):Prop where
 nx:sL qual tb H0 H
 fl:cF g (gO H tb) f q p b l F
theorem NS.lam {g:Gs} {tb:Addr} {qual:Str} {H0 H H1:Hp} {f q p b l:Addr} {F:bX} (h:NS g tb qual H0 H f q p b l F) (n:sL qual tb H H1):NS g tb qual H0 H1 f q p b l F:=⟨⟨fun b o e ne=>n.1 _ _ (h.nx.1 b o e ne) ne,n.2⟩,h.fl.same (Zxa n.1)⟩
theorem NS.same {g:Gs} {tb:Addr} {qual:Str} {H0 H H1:Hp} {f q p b l:Addr} {F:bX} (h:NS g tb qual H0 H f q p b l F) (s:ag H H1):NS g tb qual H0 H1 f q p b l F:=by
 obtain ⟨ps,h1,h2⟩:=h.nx.2;exact ⟨⟨fun b o e ne=>s _ _ (h.nx.1 b o e ne),ps,s _ _ h1,h2.mono fun b o u e=>s _ _ e⟩,h.fl.same (Zxa fun b o e _=>s _ _ e)⟩
theorem NS.put {g:Gs} {tb:Addr} {qual:Str} {H0 Hb H:Hp} {f q p b l x:Addr} {F:bX} {o:HO} {xs:List V} (hb:NS g tb qual H0 Hb f q p b l F) (h:NS g tb qual H0 H f q p b l F) (k:∀ b o,Hb b=some o->b≠tb->H b=some o) (n:Hb x=none) (hx:H x=some (.lst xs)):NS g tb qual H0 (upd H x o) f q p b l F:=by
 obtain ⟨ps,h1,h2⟩:=h.nx.2;have nt:tb≠x:=ZR h1 hx (by intro z;cases z);refine ⟨⟨fun b u e ne=>by rw [Zf (Zg (hb.nx.1 b u e ne) n)];exact h.nx.1 b u e ne,ps,by rw [Zf nt];exact h1,h2.mono fun b ob u e=>by rw [Zf (ZR e hx (by intro z;cases z))];exact e⟩,hb.fl.same fun b u e=>?_⟩;obtain ⟨e1,e2⟩:=jD e;exact qh (by rw [Zf (Zg e1 n)];exact k b u e1 e2) e2
theorem NS.at {g:Gs} {tb:Addr} {qual:Str} {H0 H:Hp} {f q p b l:Addr} {F:bX} (h:NS g tb qual H0 H f q p b l F):∃ dx sv kv iv,H f=some (.ins g.ak dx (cL sv kv (.ref q) iv))/\ZA g H F.S sv/\eB g H F.k kv:=by
 obtain ⟨dx,sv,kv,iv,h⟩:=h.fl;exact ⟨dx,sv,kv,iv,(jD h.ob).1,ZA.mono _ _ _ _ (Zsc _ _) h.st,eB.mono _ _ _ _ (Zsc _ _) h.ke⟩
def J6 (g:Gs):Sp:=fun vs H Q _=>∃ f q p b l F n ps,vs=[.ref f,.int n,.int ((cnt F.S.ent n:Nat):Int)]/\cF g (gO H g.Zk) f q p b l F/\iR F/\H g.Zk=some (.cM ps)/\ma (lq "_law_number_right") H ps/\∀ H',sL (lq "_law_number_right") g.Zk H H'->Q (.bl true) H'
theorem wj:Zp ["_law_files","_law_number","_law_links","_law_told_here","_law_held","_law_entries","_law_kept"] ["_law_files","_law_number","_law_links"] (Zi yE):=ZN (by decide +kernel)
theorem Zgq (T:Tx K mg g) (hB:BT e_ K mg base):ah P w K mg base (aA P w) 9 g.aY g.bb ["_law_files","_law_number","_law_links"] (J6 g):=by
 refine T.Ck.okC wj (fun vs H Q E h=>?_) (fun aq A outer s H vs Q E ja hr h=>?_)
 ·obtain ⟨f,q0,p,b,l,F,n,ps,rfl,_⟩:=h;rfl
 ·obtain ⟨f,q0,p,b,l,F,n,ps,rfl,cK,fo,Dh,Ku,q⟩:=h;have jo:=hB.cd "_law_number_right" (by decide +kernel) _ _ T.Zk;have hc:aq=.ref g.Zcx:=ja.symm.trans (Zvo T.Zgr T.Ck T.Zk);have dB:=hr.units;have nl:=fo.s.nl;have N0:NS g g.Zk (lq "_law_number_right") H H f q0 p b l F:=⟨⟨fun _ _ e _=>e,ps,Dh,Ku⟩,cK⟩
  refine ⟨_,(Zd (Zz (i:=3) wj.nd rfl (Or.inl rfl) (A1 (spT:=fun b=>qc P w K mg b g) (fv:=["_law_files","_law_number"]) (ix:=[0,1]) (P:=g.Zk) (fun b=>B5 T) hr.dn rfl T.BR T.we.kp T.bP Zc hc jo hB.bm (mq (sc:=Zi yE) (N:=["_law_files","_law_number","_law_links","_law_told_here","_law_held","_law_entries","_law_kept"]) rfl rfl (by decide +kernel)) ⟨rfl,rfl,rfl,by decide +kernel,by decide +kernel,by decide +kernel⟩ (fun _=>rfl) rfl))
   (Zd (Zz (i:=4) wj.nd rfl (Or.inl rfl) (A1 (spT:=fun b=>qc P w K mg b g) (fv:=["_law_files","_law_number"]) (ix:=[0,1]) (P:=g.Zk) (fun b=>B5 T) hr.dn rfl T.BR T.we.kp T.bP Zc hc jo hB.bm (mq (sc:=Zi yE) (N:=["_law_files","_law_number","_law_links","_law_told_here","_law_held","_law_entries","_law_kept"]) rfl rfl (by decide +kernel)) ⟨rfl,rfl,rfl,by decide +kernel,by decide +kernel,by decide +kernel⟩ (fun _=>rfl) rfl))
   (Zd (Zz (i:=5) wj.nd rfl (Or.inl rfl) (A1 (spT:=fun b=>qc P w K mg b g) (fv:=["_law_files","_law_number"]) (ix:=[0,1]) (P:=g.Zk) (fun b=>B5 T) hr.dn rfl T.BR T.we.kp T.bP Zc hc jo hB.bm (mq (sc:=Zi yE) (N:=["_law_files","_law_number","_law_links","_law_told_here","_law_held","_law_entries","_law_kept"]) rfl rfl (by decide +kernel)) ⟨rfl,rfl,rfl,by decide +kernel,by decide +kernel,by decide +kernel⟩ (fun _=>rfl) rfl))
   (Zd (Z0 (ZG (qe dB) (pv 3) Zr (ZO _)) (Zh (Zt (A0 (mh (qe dB) (pv 4) Zr (ZO _)) (A0 (mh (qe dB) (pv 5) Zr (ZO _)) (A3 (mh fm (pv 2) Zl (ZO _))))))) Zx)
   (Zd (Z0 (ZG fm (bw iQ (pv 3) Zl (fun _ _=>rfl)) Zr (ZO _)) (Zd (Z0 (PW.pt (l' (ZG (xV dB) (pv 5) Zr (ZO _)) (qf (ZG (xV dB) (pv 3) (dz (Za Zr (Za (pv 2) (Za (ZD ZI (by rfl) T.eu YC (Za (pv 4) Ze)) Ze)))) (ZO _))))) (Zh (Zt nh)) Zx)
   (Zd (Zz (i:=6) wj.nd rfl (Or.inl rfl) (ZT B0 rfl T.nu PyProof.Rows.Boot.«list» (Za (pv 4) Ze)))
   (Zd (ZC (j9 YR Xl Xk oP (pv 4) (Za Zl Ze)))
   (Zh (Zt (mh (qe dB) (ZP (pv 0) T.Zq T.B1 (Ca T) hr.dn T.bG .nil Zc (Za (pv 1) (Za Zl (Za Zl Ze)))) (pv 6) (ZO _))))))) Zx)
   (Zd (Z0 (PW.pt (l' (ZG (xV dB) (pv 4) Zr (ZO _)) (l' (ZG (xV dB) (pv 3) (dz (Za Zr (Za Zl (Za (Zy lC Zl (ZD ZI (by rfl) T.eu YC (Za (pv 5) Ze))) Ze)))) (ZO _)) (qf (ZG (xV dB) (pv 5) (ZD Zqv (by rfl) T.sU PyProof.Rows.Boot.«sorted» (Za (pv 5) Ze)) (ZO _)))))) (Zh (Zt nh)) Zx)
   (Zd (Zz (i:=6) wj.nd rfl (Or.inl rfl) (ZT B0 rfl T.nu PyProof.Rows.Boot.«list» (Za (pv 5) Ze)))
   (Zd (ZC (j9 YR Xl Xk oP (pv 5) (Za (dz (Za Zr (Za Zl Ze))) Ze)))
   (Zh (Zt (A0 (mh (qe dB) (ZP (pv 0) T.Zq T.yy (yv T) hr.dn T.bc .nil Zc (Za (pv 1) Ze)) (pv 6) (ZO _)) (A3 (mh fm (pv 2) (ZT Zqy rfl T.Zyv PyProof.Rows.Boot.«int» (Za (mh sq (pv 1) Zl (ZO _)) Ze)) (ZO _)))))))))))))),?_⟩
  cases iV:ZE F.S n with
  | false=>
   obtain ⟨wH,g7,kD⟩:=N0.nx.2;refine ⟨wH,[.ref f,.int n],g7,kD,rfl,fun b1 f1 c1 D0 CP DZ L1 rh gP lW C1=>?_⟩;have M1:=N0.lam rh;obtain ⟨hV,nO,nU,nV,gj,qX,_⟩:=M1.at;refine jI lW C1 gP gj (Z6 _ _ _ _) (fun A outer s H E hr=>ZP (pv 0) T.Zq T.B2 (Cb T) hr.dn T.bF .nil nJ (Za (pv 1) Ze)) fun E1 xE=>⟨f,hV,nO,nU,_,nV,F.S,n,rfl,gj,qX,nl,?_⟩
   rw [iV,if_neg (by decide)];refine fun H1 s1=>xE .aB H1 fun J1 t1=>?_;have N1:=M1.same (s1.trans t1);obtain ⟨wG,eo,dO⟩:=N1.nx.2;refine ⟨wG,[.ref f,.int n],eo,dO,rfl,fun b2 f2 c2 cl2 pm2 ct2 L2 rf iW xr C2=>?_⟩;have M2:=N1.lam rf;obtain ⟨gR,qV,rm,rq,kC,jy,_⟩:=M2.at;refine tK xr C2 iW kC (Z6 _ _ _ _) (fun A outer s H E hr=>ZP (pv 0) T.Zq T.B1 (Ca T) hr.dn T.bG .nil nJ (Za (pv 1) (Za Zl (Za Zl Ze)))) fun E2 AF=>⟨f,gR,qV,rm,_,rq,F.S,n,0,700,rfl,kC,jy,by decide,by decide,?_⟩
   rw [show eQ F.S n=.error .aB by unfold eQ;rw [iV];rfl];refine fun H2 s2=>AF .aB H2 fun J2 t2=>?_;have N2:=M2.same (s2.trans t2);obtain ⟨wF,mX,iL⟩:=N2.nx.2;refine ⟨wF,[.ref f,.int n],mX,iL,rfl,fun b3 f3 c3 cl3 pm3 ct3 L3 nS rP xq C3=>?_⟩;have M3:=N2.lam nS;obtain ⟨l0,wz,wR,wW,pG,pE,_⟩:=M3.at;refine jI xq C3 rP pG (Z6 _ _ _ _) (fun A outer s H E hr=>ZP (pv 0) T.Zq T.yy (yv T) hr.dn T.bc .nil nJ (Za (pv 1) Ze)) fun E3 AE=>⟨f,l0,wz,wR,_,wW,F.S,n,rfl,pG,pE,fo.s.ok,?_⟩
   rw [show jw F.S n=.error .aB by unfold jw;rw [iV];rfl];refine fun H3 s3=>AE .aB H3 fun J3 t3=>?_;have N3:=M3.same (s3.trans t3)
   have c0:cnt F.S.ent n=0:=by
    cases z:cnt F.S.ent n with
    | zero=>rfl
    | succ k=>have:=fo.s.x.nm n (by omega);rw [iV] at this;cases this
   have hw:YY (.str "NoThing")=true:=by decide +kernel
   refine ⟨_,rfl,_,_,lG _,lG _,hw,hw,_,rfl,?_⟩;rw [show Rf.word .aB="NoThing" from rfl,Z3 hw];refine ay ⟨_,rfl,_,_,lG _,lG _,hw,hw,_,rfl,?_⟩;rw [Z3 hw];refine ay ⟨_,rfl,_,_,lG _,lG _,hw,hw,_,rfl,?_⟩;rw [Z3 hw];refine ay ⟨_,rfl,rfl,?_⟩;rw [c0];exact q _ N3.nx
  | true=>
   cases g_:aa F.S.ent n with
   | none=>
    have oi:∃ d,aa F.S.dat n=some d:=by
     unfold ZE at iV;rw [g_,X4,Xs] at iV;exact Option.isSome_iff_exists.mp iV
    obtain ⟨d,oi⟩:=oi;have xv:=fo.s.x.row n d oi;have e1:kindOf F.S n="file":=by unfold kindOf;rw [g_];rfl
    have e2:sP F.S n=((cnt F.S.ent n:Nat):Int):=by unfold sP;rw [g_];rfl
    have e3:sJ F.S n=((d.length:Nat):Int):=by unfold sJ;rw [g_,oi];rfl
    obtain ⟨wH,g7,kD⟩:=N0.nx.2;refine ⟨wH,[.ref f,.int n],g7,kD,rfl,fun b1 f1 c1 D0 CP DZ L1 rh gP lW C1=>?_⟩;have M1:=N0.lam rh;obtain ⟨hV,nO,nU,nV,gj,qX,_⟩:=M1.at;refine jI lW C1 gP gj (Z6 _ _ _ _) (fun A outer s H E hr=>ZP (pv 0) T.Zq T.B2 (Cb T) hr.dn T.bF .nil nJ (Za (pv 1) Ze)) fun E1 xE=>⟨f,hV,nO,nU,_,nV,F.S,n,rfl,gj,qX,nl,?_⟩
    rw [iV,if_pos rfl,e1,e2,e3];intro tt H1 s1 w8;have N1:=M1.same s1;obtain ⟨wG,eo,dO⟩:=N1.nx.2;refine ⟨wG,[.ref f,.int n],eo,dO,rfl,fun b2 f2 c2 cl2 pm2 ct2 L2 rf iW xr C2=>?_⟩;have M2:=N1.lam rf;obtain ⟨gR,qV,rm,rq,kC,jy,_⟩:=M2.at;refine tK xr C2 iW kC (Z6 _ _ _ _) (fun A outer s H E hr=>ZP (pv 0) T.Zq T.B1 (Ca T) hr.dn T.bG .nil nJ (Za (pv 1) (Za Zl (Za Zl Ze)))) fun E2 AF=>⟨f,gR,qV,rm,_,rq,F.S,n,0,700,rfl,kC,jy,by decide,by decide,?_⟩
    rw [show eQ F.S n=.ok d by unfold eQ;rw [iV,if_pos rfl,g_,oi];rfl];dsimp only;rw [show (d.drop (0:Int).toNat).take (700:Int).toNat=d from by rw [show (0:Int).toNat=0 from rfl,YaI];exact YS (Yk xv (by decide))];intro l2 H2 s2 n2 cJ;have N2:=M2.same s2;obtain ⟨wF,mX,iL⟩:=N2.nx.2;refine ⟨wF,[.ref f,.int n],mX,iL,rfl,fun b3 f3 c3 cl3 pm3 ct3 L3 nS rP xq C3=>?_⟩;have M3:=N2.lam nS;obtain ⟨l0,wz,wR,wW,pG,pE,_⟩:=M3.at;refine jI xq C3 rP pG (Z6 _ _ _ _) (fun A outer s H E hr=>ZP (pv 0) T.Zq T.yy (yv T) hr.dn T.bc .nil nJ (Za (pv 1) Ze)) fun E3 AE=>⟨f,l0,wz,wR,_,wW,F.S,n,rfl,pG,pE,fo.s.ok,?_⟩
    rw [show jw F.S n=.error .wrongKind by unfold jw;rw [iV,if_pos rfl,oi]];refine fun H3 s3=>AE .wrongKind H3 fun J3 t3=>?_;have u3:=s3.trans t3;have N3:=M3.same u3;have gZ:∀ {H:Hp} {a:Addr} {o:HO} {qs:Array Value},H g.Zk=some (.cM qs)->H a=some o->(∀ qs,o≠.cM qs)->a≠g.Zk:=fun h1 h2 h3 z=>by rw [z,h1] at h2;cases h2;exact h3 _ rfl
    have mE:=s2 _ _ (rf.1 _ _ w8 (gZ eo w8 (by intro _ z;cases z)));have jJ:=u3 _ _ (nS.1 _ _ mE (gZ mX mE (by intro _ z;cases z)));have gw:=u3 _ _ (nS.1 _ _ cJ (gZ mX cJ (by intro _ z;cases z)));have C9:YY (.str "NoThing")=true:=by decide +kernel
    have rB:YY (.str "WrongKind")=true:=by decide +kernel
    have cN:YY (.tuple [.str "file",.int ((cnt F.S.ent n:Nat):Int),.int ((d.length:Nat):Int)])=true:=ZkV (by decide +kernel) _ _;refine ⟨_,rfl,_,_,vk jJ,lG _,cN,C9,_,rfl,aw ?_⟩;refine ⟨_,rfl,tt,_,_,_,rfl,rfl,aG.of jJ,AJ _ _,rfl,_,rfl,i7 ?_⟩;refine ⟨_,rfl,_,_,lG _,lG _,rB,rB,_,rfl,?_⟩;rw [show Rf.word .wrongKind="WrongKind" from rfl,Z3 rB];refine aw ⟨_,rfl,_,rfl,_,rfl,l2,_,rfl,.inl (ar.of gw),aX 3,fun tu CQ=>?_⟩;rw [Yb];have s4:=Zj (o:=.tup [.str "file",.int ((cnt F.S.ent n:Nat):Int),.int ((d.length:Nat):Int)]) CQ;refine ⟨_,_,vk (s4 _ _ jJ),vk Zb,cN,cN,_,rfl,?_⟩;rw [Z3 cN];have N4:=N3.same s4;have kG:=s4 _ _ gw;generalize upd J3 tu _=H4 at s4 N4 kG ⊢;refine aw ⟨_,rfl,l2,_,rfl,.inl (ar.of kG),fun l6 n6=>?_⟩;have s5:=Zj (o:=.lst (d.map V.int)) n6;have N5:=N4.same s5;have fE:=s5 _ _ kG;have pR:(upd H4 l6 (.lst (d.map V.int))) l6=some (.lst (d.map V.int)):=Zb;have n26:l6≠l2:=fun z=>by rw [z,kG] at n6;cases n6
    generalize upd H4 l6 (.lst (d.map V.int))=H5 at s5 N5 fE pR ⊢;refine ⟨_,rfl,.inl ⟨rfl,_,ar.of fE⟩,l2,_,_,rfl,rfl,fE,(by rw [Yb];exact Zs (m:=601) (Y4 xv) (by decide)),?_⟩;have N6:=M2.put N5 (o:=.lst (d.map V.int++[.int 1])) (fun b o e ne=>s5 _ _ (s4 _ _ (u3 _ _ (nS.1 _ _ (s2 _ _ e) ne)))) n2 fE;have n_:(upd H5 l2 (.lst (d.map V.int++[.int 1]))) l6=some (.lst (d.map V.int)):=by rw [Zf n26];exact pR
    generalize upd H5 l2 _=H6 at N6 n_ ⊢;obtain ⟨uZ,sv6,kv6,iv6,ob6,st6,_⟩:=N6.at;refine ⟨_,rfl,f,uZ,_,rfl,ob6,Z6 _ _ _ _,_,rfl,f,uZ,sv6,kv6,_,iv6,F.S,n,0,700,rfl,ob6,st6,by decide,by decide,?_⟩;rw [show eQ F.S n=.ok d by unfold eQ;rw [iV,if_pos rfl,g_,oi];rfl];dsimp only;rw [show (d.drop (0:Int).toNat).take (700:Int).toNat=d from by rw [show (0:Int).toNat=0 from rfl,YaI];exact YS (Yk xv (by decide))];intro l8 H8 s8 _ xl;refine ⟨_,rfl,_,_,zC xl,zC (s8 _ _ n_),BU d,BU d,?_⟩;rw [Z3 (BU d)];exact q _ (N6.same s8).nx
   | some es=>
    have oi:aa F.S.dat n=none:=fo.s.x.dj n (by rw [g_];rfl);obtain ⟨uK,xj⟩:=fo.s.x.es n es g_;have cg:=fo.s.b n es g_;have lR:(bB es).length=es.length:=(s_ es).length_eq;have KI:lH (bB es):=fun p hp=>uK p ((s_ es).mem_iff.mp hp);have hcn:=fo.s.x.one n (by rw [g_];rfl);have e1:kindOf F.S n="dir":=by unfold kindOf;rw [g_];rfl
    have e2:sP F.S n=1:=by unfold sP;rw [g_];rfl
    have e3:sJ F.S n=10 * ((es.length:Nat):Int):=by unfold sJ;rw [g_]
    have een:jw F.S n=.ok es:=by unfold jw;rw [iV,if_pos rfl,oi,g_];rfl
    obtain ⟨wH,g7,kD⟩:=N0.nx.2;refine ⟨wH,[.ref f,.int n],g7,kD,rfl,fun b1 f1 c1 D0 CP DZ L1 rh gP lW C1=>?_⟩;have M1:=N0.lam rh;obtain ⟨hV,nO,nU,nV,gj,qX,_⟩:=M1.at;refine jI lW C1 gP gj (Z6 _ _ _ _) (fun A outer s H E hr=>ZP (pv 0) T.Zq T.B2 (Cb T) hr.dn T.bF .nil nJ (Za (pv 1) Ze)) fun E1 xE=>⟨f,hV,nO,nU,_,nV,F.S,n,rfl,gj,qX,nl,?_⟩
    rw [iV,if_pos rfl,e1,e2,e3];intro tt H1 s1 w8;have N1:=M1.same s1;obtain ⟨wG,eo,dO⟩:=N1.nx.2;refine ⟨wG,[.ref f,.int n],eo,dO,rfl,fun b2 f2 c2 cl2 pm2 ct2 L2 rf iW xr C2=>?_⟩;have M2:=N1.lam rf;obtain ⟨gR,qV,rm,rq,kC,jy,_⟩:=M2.at;refine tK xr C2 iW kC (Z6 _ _ _ _) (fun A outer s H E hr=>ZP (pv 0) T.Zq T.B1 (Ca T) hr.dn T.bG .nil nJ (Za (pv 1) (Za Zl (Za Zl Ze)))) fun E2 AF=>⟨f,gR,qV,rm,_,rq,F.S,n,0,700,rfl,kC,jy,by decide,by decide,?_⟩
    rw [show eQ F.S n=.error .wrongKind by unfold eQ;rw [iV,if_pos rfl,g_]];refine fun H2 s2=>AF .wrongKind H2 fun J2 t2=>?_;have u2:=s2.trans t2;have N2:=M2.same u2;obtain ⟨wF,mX,iL⟩:=N2.nx.2;refine ⟨wF,[.ref f,.int n],mX,iL,rfl,fun b3 f3 c3 cl3 pm3 ct3 L3 nS rP xq C3=>?_⟩;have M3:=N2.lam nS;obtain ⟨l0,wz,wR,wW,pG,pE,_⟩:=M3.at;refine jI xq C3 rP pG (Z6 _ _ _ _) (fun A outer s H E hr=>ZP (pv 0) T.Zq T.yy (yv T) hr.dn T.bc .nil nJ (Za (pv 1) Ze)) fun E3 AE=>⟨f,l0,wz,wR,_,wW,F.S,n,rfl,pG,pE,fo.s.ok,?_⟩
    rw [een];intro l3 H3 s3 n3 ⟨as,gw,j3,Dw⟩;have N3:=M3.same s3;have gZ:∀ {H:Hp} {a:Addr} {o:HO} {qs:Array Value},H g.Zk=some (.cM qs)->H a=some o->(∀ qs,o≠.cM qs)->a≠g.Zk:=fun h1 h2 h3 z=>by rw [z,h1] at h2;cases h2;exact h3 _ rfl
    have mE:=u2 _ _ (rf.1 _ _ w8 (gZ eo w8 (by intro _ z;cases z)));have jJ:=s3 _ _ (nS.1 _ _ mE (gZ mX mE (by intro _ z;cases z)));have C9:YY (.str "NoThing")=true:=by decide +kernel
    have rB:YY (.str "WrongKind")=true:=by decide +kernel
    have cN:YY (.tuple [.str "dir",.int 1,.int (10 * ((es.length:Nat):Int))])=true:=ZkV (by decide +kernel) _ _;have eM:=Zpp KI;refine ⟨_,rfl,_,_,vk jJ,lG _,cN,C9,_,rfl,aw ?_⟩;refine ⟨_,rfl,tt,_,_,_,rfl,rfl,aG.of jJ,AJ _ _,rfl,_,rfl,bh (by decide +kernel) ?_⟩;refine ⟨_,rfl,_,_,lG _,lG _,rB,rB,_,rfl,?_⟩;rw [show Rf.word .wrongKind="WrongKind" from rfl,Z3 rB];refine aw ⟨_,rfl,_,rfl,l3,_,rfl,.inl (ar.of gw),_,_,rfl,rfl,.inl ⟨by decide,by decide⟩,aX 3,fun tu CQ=>?_⟩;rw [Yb,j3,lR];have s4:=Zj (o:=.tup [.str "dir",.int 1,.int (10 * ((es.length:Nat):Int))]) CQ;refine ⟨_,_,vk (s4 _ _ jJ),vk Zb,cN,cN,_,rfl,?_⟩;rw [Z3 cN];have N4:=N3.same s4;have kG:=s4 _ _ gw;have pj:∀ (j:Nat) a (p:Str×Int),as[j]?=some a->(bB es)[j]?=some p->(upd H3 tu (.tup [.str "dir",.int 1,.int (10 * ((es.length:Nat):Int))])) a=some (.tup [.str p.1,.int p.2]):=fun j a p h1 h2=>s4 _ _ (Dw j a p h1 h2);generalize upd H3 tu _=H4 at s4 N4 kG pj ⊢;refine aw ⟨_,rfl,_,rfl,l3,as,bB es,rfl,.inl kG,j3,pj,by omega,fun l5 outs n5 ho5 hp5=>?_⟩;rw [ZsT xj] at ho5 hp5;have s5:=Zj (o:=.lst (outs.map V.ref)) n5;refine ⟨_,_,px (s5 _ _ kG) j3 (fun j a p h1 h2=>s5 _ _ (pj j a p h1 h2)),px Zb ho5 (fun j a p h1 h2=>s5 _ _ (hp5 j a p h1 h2)),eM,eM,_,rfl,?_⟩;rw [Z3 eM];have N5:=N4.same s5;have fE:=s5 _ _ kG;have zB:∀ (j:Nat) a (p:Str×Int),as[j]?=some a->(bB es)[j]?=some p->(upd H4 l5 (.lst (outs.map V.ref))) a=some (.tup [.str p.1,.int p.2]):=fun j a p h1 h2=>s5 _ _ (pj j a p h1 h2);generalize upd H4 l5 _=H5 at s5 N5 fE zB ⊢;refine aw ⟨_,rfl,l3,_,rfl,.inl (ar.of fE),fun l6 n6=>?_⟩;have s6:=Zj (o:=.lst (as.map V.ref)) n6;have N6:=N5.same s6;have pR:=s6 _ _ fE;have hk6:(upd H5 l6 (.lst (as.map V.ref))) l6=some (.lst (as.map V.ref)):=Zb;have zA:∀ (j:Nat) a (p:Str×Int),as[j]?=some a->(bB es)[j]?=some p->(upd H5 l6 (.lst (as.map V.ref))) a=some (.tup [.str p.1,.int p.2]):=fun j a p h1 h2=>s6 _ _ (zB j a p h1 h2);have n36:l6≠l3:=fun z=>by rw [z,fE] at n6;cases n6
    generalize upd H5 l6 _=H6 at s6 N6 pR hk6 zA ⊢;refine ⟨_,rfl,.inl ⟨rfl,_,ar.of pR⟩,aX 2,fun t7 n7=>?_⟩;have s7:=Zj (o:=.tup [.str "x",.int 1]) n7;have N7:=N6.same s7;have n_:=s7 _ _ pR;have hk7:=s7 _ _ hk6;have zz:∀ (j:Nat) a (p:Str×Int),as[j]?=some a->(bB es)[j]?=some p->(upd H6 t7 (.tup [.str "x",.int 1])) a=some (.tup [.str p.1,.int p.2]):=fun j a p h1 h2=>s7 _ _ (zA j a p h1 h2);generalize upd H6 t7 _=H7 at s7 N7 n_ hk7 zz ⊢;refine ⟨l3,_,_,rfl,rfl,n_,(by rw [Yb,j3,lR];exact Zs (m:=600) (by omega) (by decide)),?_⟩;have N8:=M3.put N7 (o:=.lst (as.map V.ref++[.ref t7])) (fun b o e ne=>s7 _ _ (s6 _ _ (s5 _ _ (s4 _ _ (s3 _ _ e))))) n3 n_;have hk8:(upd H7 l3 (.lst (as.map V.ref++[.ref t7]))) l6=some (.lst (as.map V.ref)):=by rw [Zf n36];exact hk7
    have zy:∀ (j:Nat) a (p:Str×Int),as[j]?=some a->(bB es)[j]?=some p->(upd H7 l3 (.lst (as.map V.ref++[.ref t7]))) a=some (.tup [.str p.1,.int p.2]):=fun j a p h1 h2=>by
     have z:=zz j a p h1 h2;rw [Zf (ZR z n_ (by intro y;cases y))];exact z
    generalize upd H7 l3 _=H8 at N8 hk8 zy ⊢;obtain ⟨dx8,sv8,kv8,iv8,ob8,st8,_⟩:=N8.at;refine ⟨_,rfl,f,dx8,_,rfl,ob8,Z6 _ _ _ _,_,rfl,f,dx8,sv8,kv8,_,iv8,F.S,n,rfl,ob8,st8,fo.s.ok,?_⟩;rw [een];intro l9 H9 s9 _ ⟨as9,mY,K0,KZ⟩;refine ⟨_,rfl,_,_,px mY K0 KZ,px (s9 _ _ hk8) j3 (fun j a p h1 h2=>s9 _ _ (zy j a p h1 h2)),eM,eM,_,rfl,?_⟩;rw [Z3 eM];refine ay ⟨_,rfl,_,rfl,_,_,rfl,rfl,.inr ⟨_,rfl,rfl,?_⟩⟩
    have fin:V.int ((cnt F.S.ent n:Nat):Int)=V.int (if decide ((0:Int) < n)=true then 1 else 0):=by
     rw [hcn];have h0:=(fo.s.x.rg n iV).1
     by_cases z:n=0
     ·rw [if_pos z,z];rfl
     ·rw [if_neg z,if_pos (decide_eq_true (by omega))];rfl
    rw [decide_eq_true fin];exact q _ (N8.same s9).nx
def okB {ε α:Type}:Except ε α->Bool
 | .ok _=>true
 | .error _=>false
theorem ZxU {ε α:Type} {m:Except ε α} (h:okB m=true):∃ x,m=.ok x:=by
 cases m with
 | ok x=>exact ⟨x,rfl⟩
 | error _=>cases h
def cH:lM:=match sO h_ [] (oG 256 []) [] with
 | .ok I=>I
 | .error _=>⟨[],[]⟩
theorem ZAj:okB (sO h_ [] (oG 256 []) [])=true:=by decide +kernel
theorem Zx7:sO h_ [] (oG 256 []) []=.ok cH:=by
 obtain ⟨I,hI⟩:=ZxU ZAj
 have:cH=I:=by unfold cH;rw [hI]
 rw [this,hI]
def ZwY (pl:gp):Bool:=decide (pl.length<=100) && pl.all (fun p=>decide (p.2≠[]) && decide (p.2.length<=100) && p.2.all fun n=>decide (0<=n) && decide (n < 200)) && decide ((pl.map (·.2)).flatten.length<=1000)
theorem ZAe:ZwY cH.places=true:=by decide +kernel
theorem ZAo:decide (cH.heads.length<=1000)=true:=by decide +kernel
theorem jF:cH.places.length<=1000/\(∀ p∈cH.places,p.2≠[]/\p.2.length<=1000/\∀ n∈p.2,0<=n/\n < (256:Int))/\(cH.places.map (·.2)).flatten.length<=1000:=by
 have h:=ZAe;unfold ZwY at h;rw [YV,YV,decide_eq_true_iff,decide_eq_true_iff] at h;refine ⟨by omega,fun p hp=>?_,h.2⟩
 have:=List.all_eq_true.mp h.1.2 p hp
 rw [YV,YV,decide_eq_true_iff,decide_eq_true_iff] at this;refine ⟨this.1.1,by omega,fun n hn=>?_⟩
 have:=List.all_eq_true.mp this.2 n hn
 rw [YV,decide_eq_true_iff,decide_eq_true_iff] at this;omega
theorem ZzP:lx cH.places:=⟨jF.1,fun p hp=>(jF.2.1 p hp).1,by have:=jF.2.2;omega⟩
def gG:c8:=⟨List.replicate 256 (some gY),[]⟩
theorem AN (D:c8) (n:Int) (b:Option Row):(D.write n b).blocks.length=D.blocks.length:=Ybv ..
theorem ZzJ {D:c8} (h:D.blocks.length=256):oF D=256:=by unfold oF;rw [h];rfl
theorem ZuV:oH kg (gG.write 1 (some gY)) h_ []=.ok cH:=by
 unfold oH;rw [ZzJ (by rw [AN];exact YM ..)];exact Zx7
theorem Zzr:D8 (gG.write 1 (some gY)) cH:=by
 refine ⟨jF.1,of_decide_eq_true ZAo,fun p hp=>?_,by have:=jF.2.2;omega⟩;rw [AN,show gG.blocks.length=256 from YM ..];exact jF.2.1 p hp
structure At (S:az) (F:bX):Prop where
 s:F.S=S
 k:F.k=[]
 t:F.T.synced=cH.places
 d:F.D.blocks.length=256
theorem Zrm:∃ F,Bi gG=.ok F/\At h_ F:=by
 refine ⟨⟨h_,[],(ox kg (gG.write 1 (some gY)) cH).1,(ox kg (gG.write 1 (some gY)) cH).2,cH⟩,?_,rfl,rfl,rfl,?_⟩
 ·unfold Bi;rw [ZuV]
 ·show (ox kg (gG.write 1 (some gY)) cH).2.blocks.length=256;have e:=(A4 kg.synced cH.places (gG.write 1 (some gY)) fun p hp=>(jF.2.1 p hp).1).1;unfold ox;show ((c8.write _ _ _).blocks).length=256;rw [AN];show ((cH.places.foldl (kh kg.synced) (gG.write 1 (some gY))).blocks).length=256;rw [e,AN];exact YM ..
theorem wf0:Wf h_:=by
 have g:∀ n,aa h_.ent n=if n=0 then some [] else none:=fun n=>by
  by_cases z:n=0
  ·rw [if_pos z,z];rfl
  ·rw [if_neg z];exact ZZ (fun e=>z e.symm)
 have gd:∀ n,aa h_.dat n=none:=fun n=>rfl;refine ⟨⟨YaH,by decide,fun n _=>gd n,fun n e=>?_,rfl,fun n r e=>(nomatch e),fun n es e=>?_,fun n e=>absurd e (YN _),fun n e=>?_⟩,fun n es e=>?_⟩
 ·unfold ZE at e;rw [gd,g] at e
  by_cases z:n=0
  ·rw [z];decide
  ·rw [if_neg z] at e;cases e
 ·rw [g] at e
  by_cases z:n=0
  ·rw [if_pos z] at e;cases e;exact ⟨(fun p hp=>absurd hp X3),YaH⟩
  ·rw [if_neg z] at e;cases e
 ·rw [g] at e
  by_cases z:n=0
  ·rw [if_pos z];rfl
  ·rw [if_neg z] at e;cases e
 ·rw [g] at e
  by_cases z:n=0
  ·rw [if_pos z] at e;cases e;exact Yv _
  ·rw [if_neg z] at e;cases e
theorem fo0 {F:bX} (h:At h_ F):iR F:=⟨by rw [h.s];exact wf0,by rw [h.k];decide,by rw [h.k];exact YaH,fun n S e=>(by rw [h.k] at e;cases e),by rw [h.t];exact ZzP⟩
def lp (E:List (Int×ao)) (n k:Int):Nat:=match aa E k with
 | some es=>a_ es n
 | none=>0
def pre (E:List (Int×ao)) (n:Int):Nat->Nat
 | 0=>0
 | i + 1=>pre E n i + lp E n (i:Int)
theorem ZwM {p:Int×ao} {r:List (Int×ao)} {n k:Int}:lp (p::r) n k=if p.1=k then a_ p.2 n else lp r n k:=by
 unfold lp
 by_cases z:p.1=k
 ·rw [fI z,if_pos z]
 ·rw [ZZ z,if_neg z]
theorem ZrP {p:Int×ao} {r:List (Int×ao)} {n:Int} (h0:0<=p.1) (hn:¬ p.1∈r.map (·.1)):∀ i:Nat,pre (p::r) n i=pre r n i + if p.1 < (i:Int) then a_ p.2 n else 0
 | 0=>by rw [if_neg (by omega)];rfl
 | i + 1=>by
  show pre (p::r) n i + lp (p::r) n (i:Int)=pre r n i + lp r n (i:Int) + _;rw [ZrP h0 hn i,ZwM]
  by_cases z:p.1=(i:Int)
  ·have c:lp r n (i:Int)=0:=by
    unfold lp
    cases q:aa r (i:Int) with
    | none=>rfl
    | some es=>exact absurd (FE q) (by rw [<- z];exact hn)
   rw [if_pos z,if_neg (by omega),if_pos (by omega),c]
   try omega
  ·rw [if_neg z]
   by_cases y:p.1 < (i:Int)
   ·rw [if_pos y,if_pos (by omega)];omega
   ·rw [if_neg y,if_neg (by omega)];omega
theorem Zuh {n:Int}:∀ {E:List (Int×ao)},(E.map (·.1)).Nodup->(∀ k∈E.map (·.1),0<=k/\k < 32)->pre E n 32=cnt E n
 | [],_,_=>rfl
 | p::r,nd,h=>by
  rw [Yt,Yay] at nd;have hp:=h p.1 YA;rw [ZrP hp.1 nd.1,if_pos (show p.1 < ((32:Nat):Int) from hp.2),vI,Zuh nd.2 fun k hk=>h k (Yr _ hk)];omega
theorem Wf.pre {S:az} (W:Wf S) (n:Int):pre S.ent n 32=cnt S.ent n:=Zuh W.x.ke fun k hk=>W.x.rg k (by unfold ZE;rw [vD hk,WX])
theorem Zqs (es:ao) (n:Int):a_ (bB es) n=a_ es n:=List.Perm.count_eq (List.Perm.map (fun p:Str×Int=>p.2) (s_ es)) n
theorem Zvp {xs:ao} {j:Nat} {p:Str×Int} (h:xs[j]?=some p) (n:Int):a_ (xs.take (j + 1)) n=a_ (xs.take j) n + if n=p.2 then 1 else 0:=by
 rw [List.take_add_one,h];unfold a_;rw [Yw,YaU]
 congr 1
 show List.count n [p.2]=_;rw [List.count_singleton]
 by_cases z:n=p.2
 ·rw [if_pos z,if_pos (by rw [z];exact beq_self_eq_true _)]
 ·rw [if_neg z,if_neg (by intro e;exact z (beq_iff_eq.mp e).symm)]
def LD (kvs:List (Key×V)) (c:Int->Nat):Prop:=∀ n:Int,(aV kvs (X8 n)).getD (.int 0)=.int ((c n:Nat):Int)
theorem LD.put {kvs:List (Key×V)} {c:Int->Nat} (h:LD kvs c) (m:Int):LD (putK kvs (X8 m) (.int (((c m:Nat):Int) + 1))) (fun n=>c n + if n=m then 1 else 0):=fun n=>by
 rw [Fh];show _=V.int ((c n + if n=m then 1 else 0:Nat):Int)
 by_cases z:n=m
 ·rw [if_pos (by rw [z]),YD,if_pos z,z];rfl
 ·rw [if_neg (by intro e;injection e with e;exact z e),if_neg z,h n,Nat.add_zero]
theorem LD.congr {kvs:List (Key×V)} {c d:Int->Nat} (h:LD kvs c) (e:∀ n,c n=d n):LD kvs d:=fun n=>by rw [h n,e n]
theorem ZlS {H:Hp}:∀ {n:Nat} {vs:List V},dM H vs (List.replicate n (.int 0))->vs=List.replicate n (.int 0)
 | 0,_,h=>by cases h;rfl
 | n + 1,_,h=>by
  rw [Xg] at h
  cases h with
  | cons a r=>
   cases a
   rw [ZlS r,Xg]
theorem ZwD {H:Hp} {p b l:Addr} {vb:List V} {n:Nat} (h:Zxk g.bD H p b l vb [] (List.replicate n xS) []):dH g H p b l ⟨List.replicate n (some gY),[]⟩:=by
 obtain ⟨⟨dx,ob⟩,hb,hl,ib,_,ne⟩:=h;refine ⟨dx,vb,[],ob,hb,hl,?_,.nil,ne⟩;clear hb
 induction n generalizing vb with
 | zero=>cases ib;exact .nil
 | succ n ih=>
  rw [Xg] at ib ⊢
  cases ib with
  | cons a r=>
   refine .cons ?_ (ih r);unfold xS at a
   cases a with
   | tup e r2=>exact ⟨_,rfl,by rw [e,ZlS r2];unfold gY;rw [Wy]⟩
def IsL (o:HO):Prop:=(∃ ys,o=.lst ys)∨∃ ob ys,o=.bt ob (.lst ys)
theorem AV {H H':Hp} {a:Addr} {xs:List V} (h:ar K H a xs) (k:∀ o,H a=some o->IsL o->H' a=some o):ar K H' a xs:=by
 rcases h with (h | ⟨ob,h⟩) | h
 ·exact .inl (.inl (k _ h (.inl ⟨_,rfl⟩)))
 ·exact .inl (.inr ⟨ob,k _ h (.inr ⟨_,_,rfl⟩)⟩)
 ·exact .inr h
theorem Ba {H:Hp} {a b:Addr} {o u:HO} (h:H a=some o) (l:IsL o) (hb:H b=some u) (n:¬ IsL u):a≠b:=ZR h hb fun z=>n (z ▸ l)
theorem Zw6 (ps:Array Value):¬ IsL (.cM ps):=by rintro (⟨_,z⟩ | ⟨_,_,z⟩) <;> cases z
theorem ZAg (ps:List (Key×V)):¬ IsL (.dK ps):=by rintro (⟨_,z⟩ | ⟨_,_,z⟩) <;> cases z
theorem Zzg (C dx:Addr) (fs:List (Str×V)):¬ IsL (.ins C dx fs):=by rintro (⟨_,z⟩ | ⟨_,_,z⟩) <;> cases z
theorem mG {H H':Hp} {t u X X':Addr} (k:∀ b o,H b=some o->b≠t->b≠u->b≠X->H' b=some o/\b≠X'):ag (gO (gO (gO H t) u) X) (gO (gO (gO H' t) u) X'):=fun b o e=>by
 obtain ⟨e1,n1⟩:=jD e;obtain ⟨e2,n2⟩:=jD e1;obtain ⟨e3,n3⟩:=jD e2;obtain ⟨k1,k2⟩:=k b o e3 n3 n2 n1;exact qh (qh (qh k1 n3) n2) k2
structure LS (K:Yg) (g:Gs) (X:Addr) (H:Hp) (f q p b l:Addr) (F:bX) (a:Addr) (ns:List Int):Prop where
 fl:cF g (gO (gO (gO H g.Zk) g.fJ) X) f q p b l F
 fo:iR F
 tN:∃ ps,H g.Zk=some (.cM ps)/\ma (lq "_law_number_right") H ps
 tL:∃ ps,H g.fJ=some (.cM ps)/\ma (lq "law") H ps
 sc:ar K H a (ns.map V.int)
section
variable {X:Addr} {H H':Hp} {f q p b l a:Addr} {F F':bX} {ns:List Int} {kvs:List (Key×V)}
theorem LS.same (h:LS K g X H f q p b l F a ns) (s:ag H H'):LS K g X H' f q p b l F a ns:=by
 obtain ⟨ps,h1,h2⟩:=h.tN;obtain ⟨qs,h3,h4⟩:=h.tL;exact ⟨h.fl.same (mG fun b o e _ _ n=>⟨s _ _ e,n⟩),h.fo,⟨ps,s _ _ h1,h2.mono fun b o u e=>s _ _ e⟩,⟨qs,s _ _ h3,h4.mono fun b o u e=>s _ _ e⟩,s.seq h.sc⟩
theorem LS.isF (h:LS K g X H f q p b l F a ns):cF g H f q p b l F:=h.fl.same fun _ _ e=>(jD (jD (jD e).1).1).1
theorem LS.files (h:LS K g X H f q p b l F a ns):∃ dx sv kv iv,H f=some (.ins g.ak dx (cL sv kv (.ref q) iv))/\ZA g H F.S sv/\eB g H F.k kv:=by
 obtain ⟨dx,sv,kv,iv,h⟩:=h.isF;exact ⟨dx,sv,kv,iv,h.ob,h.st,h.ke⟩
theorem LS.mk0 (hF:cF g H f q p b l F) (fo:iR F) (hN:∃ ps,H g.Zk=some (.cM ps)/\ma (lq "_law_number_right") H ps) (hL:∃ ps,H g.fJ=some (.cM ps)/\ma (lq "law") H ps) (ne:g.Zk≠g.fJ) (sc:ar K H a (ns.map V.int)):LS K g g.fJ H f q p b l F a ns:=by
 obtain ⟨ps,h1,h2⟩:=hN;obtain ⟨qs,h3,h4⟩:=hL;exact ⟨((hF.tab h1).tab (qh h3 ne.symm)).same fun _ _ e=>qh e (jD e).2,fo,⟨ps,h1,h2⟩,⟨qs,h3,h4⟩,sc⟩
theorem LS.asked (h:LS K g g.fJ H f q p b l F a ns) (ne:g.Zk≠g.fJ) (b1:fT f H H') (hF:cF g H' f q p b l F') (fo:iR F'):LS K g g.fJ H' f q p b l F' a ns:=by
 obtain ⟨ps,h1,h2⟩:=h.tN;obtain ⟨qs,h3,h4⟩:=h.tL;obtain ⟨dx,sv,kv,iv,ho,_⟩:=h.files;have fz:∀ b o u,H b=some (.bt o u)->H' b=some (.bt o u):=fun b o u e=>b1 _ _ e (ZR e ho (by intro z;cases z));exact LS.mk0 hF fo ⟨ps,b1 _ _ h1 (ZR h1 ho (by intro z;cases z)),h2.mono fz⟩ ⟨qs,b1 _ _ h3 (ZR h3 ho (by intro z;cases z)),h4.mono fz⟩ ne (AV h.sc fun o e il=>b1 _ _ e (Ba e il ho (Zzg _ _ _)))
theorem LS.dict (h:LS K g g.fJ H f q p b l F a ns) (n:H X=none):LS K g X (upd H X (.dK [])) f q p b l F a ns:=by
 have s:=Zj (o:=.dK []) n
 have:=h.same s
 exact ⟨h.fl.same (mG fun b o e _ _ _=>⟨s _ _ e,Zg e n⟩),this.fo,this.tN,this.tL,this.sc⟩
theorem LS.upd (h:LS K g X H f q p b l F a ns) (hX:H X=some (.dK kvs)) (o:HO):LS K g X (upd H X o) f q p b l F a ns:=by
 obtain ⟨ps,h1,h2⟩:=h.tN;obtain ⟨qs,h3,h4⟩:=h.tL;have fz:∀ b ob u,H b=some (.bt ob u)->L2.upd H X o b=some (.bt ob u):=fun b ob u e=>by rw [Zf (ZR e hX (by intro z;cases z))];exact e
 exact ⟨h.fl.same (mG fun b o e _ _ n=>⟨by rw [Zf n];exact e,n⟩),h.fo,⟨ps,by rw [Zf (ZR h1 hX (by intro z;cases z))];exact h1,h2.mono fz⟩,⟨qs,by rw [Zf (ZR h3 hX (by intro z;cases z))];exact h3,h4.mono fz⟩,AV h.sc fun u e il=>by rw [Zf (Ba e il hX (ZAg _))];exact e⟩
theorem LS.Kk (h:LS K g X H f q p b l F a ns) (ne:g.Zk≠g.fJ) (hX:H X=some (.dK kvs)) (n:sL (lq "law") g.fJ H H'):LS K g X H' f q p b l F a ns/\H' X=some (.dK kvs):=by
 obtain ⟨ps,h1,h2⟩:=h.tN;obtain ⟨qs,h3,h4⟩:=h.tL;exact ⟨⟨h.fl.same (mG fun b o e _ n2 n3=>⟨n.1 _ _ e n2,n3⟩),h.fo,⟨ps,n.1 _ _ h1 ne,h2.mono fun b o u e=>n.1 _ _ e (ZR e h3 (by intro z;cases z))⟩,n.2,AV h.sc fun o e il=>n.1 _ _ e (Ba e il h3 (Zw6 _))⟩,n.1 _ _ hX (ZR hX h3 (by intro z;cases z))⟩
theorem LS.e_ (h:LS K g X H f q p b l F a ns) (ne:g.Zk≠g.fJ) (hX:H X=some (.dK kvs)) (n:sL (lq "_law_number_right") g.Zk H H'):LS K g X H' f q p b l F a ns/\H' X=some (.dK kvs):=by
 obtain ⟨ps,h1,h2⟩:=h.tN;obtain ⟨qs,h3,h4⟩:=h.tL;exact ⟨⟨h.fl.same (mG fun b o e n2 _ n3=>⟨n.1 _ _ e n2,n3⟩),h.fo,n.2,⟨qs,n.1 _ _ h3 ne.symm,h4.mono fun b o u e=>n.1 _ _ e (ZR e h1 (by intro z;cases z))⟩,AV h.sc fun o e il=>n.1 _ _ e (Ba e il h1 (Zw6 _))⟩,n.1 _ _ hX (ZR hX h1 (by intro z;cases z))⟩
theorem LS.nr (h:LS K g X H f q p b l F a ns):cF g (gO H g.Zk) f q p b l F:=h.fl.same fun _ _ e=>(jD (jD e).1).1
end
theorem Zv1 (kvs:List (Key×V)) (k:Key) (v:V):(putK kvs k v).length<=kvs.length + 1:=by
 unfold putK
 split
 ·rw [Yb];omega
 ·rw [Yf];exact Ye _
theorem pq {H:Hp} {a:Addr} {ns:List Str} (h:H a=some (.lst (ns.map V.str))):fS K H (.ref a) (.list (ns.map PyData.str)):=.inl (.inr ⟨a,_,_,rfl,rfl,ar.of h,Zsb _ ns⟩)
theorem Zxi (q:Str) (H:Hp):ma q H #[]:=⟨by rw [show (#[]:Array Value).toList=[] from rfl,TriplesOk.eq_1];trivial,fun pos cv e=>by rw [show (#[]:Array Value).toList=[] from rfl,codeAmong.eq_2 _ _ (by intro _ _ _ _ _ _ z;cases z)] at e;cases e⟩
theorem Zye {S:az} (W:Wf S) {n:Int} {r:Rf} (h:jw S n=.error r):aa S.ent n=none:=by
 unfold jw at h
 split at h
 ·split at h
  ·rename_i d hd
   cases q:aa S.ent n with
   | none=>rfl
   | some es=>have:=W.x.dj n (by rw [q];rfl);rw [hd] at this;cases this
  ·cases h
 ·rename_i ht
  unfold ZE at ht
  cases q:aa S.ent n with
  | none=>rfl
  | some es=>rw [q] at ht;exact absurd (WX _) ht
theorem ZzD {S:az} {n:Int} {es:ao} (h:jw S n=.ok es):aa S.ent n=some es:=by
 unfold jw at h
 split at h
 ·rename_i ht
  split at h
  ·cases h
  ·rename_i hd
   cases h
   unfold ZE at ht;rw [hd,X4,Ya8] at ht;obtain ⟨es,he⟩:=Option.isSome_iff_exists.mp ht;rw [he];rfl
 ·cases h
def AU (K:Yg):Sp:=fun vs H Q _=>∃ (a:Addr) (ns:List Int),vs=[.ref a]/\ar K H a (ns.map V.int)/\ns.length<=63/\(∀ x∈e_,∀ c T,Xn K x=some (c,T)->H T=some (.cM #[]))/\∀ H',Q (.bl true) H'
theorem me:Zp ["_law_script","_law_files","_law_k","_law_links","_law_number","_law_entries","_law_name","_law_other","_law_names","_law_kept"] ["_law_script"] (Zi Eh):=ZN (by decide +kernel)
theorem Zze (T:Tx K mg g) (hB:BT e_ K mg base):ah P w K mg base my 10 g.Aj g.Ej ["_law_script"] (AU K):=by
 refine T.D5.Ke me (fun vs H Q E h=>?_) (fun aq A outer s H vs Q E ja hr h=>?_)
 ·obtain ⟨a,ns,rfl,_⟩:=h;rfl
 ·obtain ⟨a,ns,rfl,hS,hlen,hT,q⟩:=h;have hL0:=hT "law" (by decide +kernel) _ _ T.fJ;have hN0:=hT "_law_number_right" (by decide +kernel) _ _ T.Zk;have jo:=hB.cd "law" (by decide +kernel) _ _ T.fJ;have hc:aq=.ref g.Zxg:=ja.symm.trans (Zvo T.Zzf T.D5 T.fJ);have ne:=T.zK;have dB:=hr.units;have hu:=u1 hr.units;have hSZ:(100000:Nat)<=Ym:=by decide
  refine ⟨_,(Zd (Zz (i:=1) me.nd rfl (Or.inr rfl) (Zn (ZpJ T) hr.dn rfl T.Zrf T.GZ.kp T.jh .nil lA (Za (oB T.ZxY (ZpM T) hr.dn rfl T.Zzi T.jk .nil lA (Za Zl Ze)) Ze)))
   (Zd (Z0 (nz (md (Zy9 (pv 1) (ZJ (v:=.ref g.ak) rfl T.ZuL rfl) rfl T.ZS))) (Zh (Zt nh)) Zx)
   (Zd (i3 Ybs rfl (vT rfl T.qm (Za (ZD (Zvu rfl) (by rfl) T.ZzY PyProof.Rows.Boot.«max» (Za Zl (Za (ZD (Zqx rfl) (by rfl) T.Zyu PyProof.Rows.Boot.«min» (Za Zl (Za (ZD ZI (by rfl) T.eu YC (Za (pv 0) Ze)) Ze))) Ze))) Ze)) (Z9 (i:=2) me.nd rfl (Or.inl rfl)) (Zh (ZC (Zn (Zob T) hr.dn rfl T.ZpW T.HY.kp T.iD .nil lA (Za (pv 1) (Za (Zn (ZpK T) hr.dn rfl T.Zrg T.GY.kp T.ji .nil lA (Za (pv 0) (Za (pv 2) Ze))) Ze))))))
   (Zd (Zz (i:=3) me.nd rfl (Or.inl rfl) oJ)
   (Zd (i3 Ybs rfl (vT rfl T.qm (Za Zl Ze)) (Z9 (i:=4) me.nd rfl (Or.inr rfl)) (Zd (Zz (i:=5) me.nd rfl (Or.inl rfl) (A1 (spT:=fun b=>qc P w K mg b g) (fv:=["_law_files","_law_number"]) (ix:=[1,4]) (P:=g.fJ) (fun b=>B5 T) hr.dn rfl T.BR T.we.kp T.bP lA hc jo hB.bm (mq (sc:=Zi Eh) (N:=["_law_script","_law_files","_law_k","_law_links","_law_number","_law_entries","_law_name","_law_other","_law_names","_law_kept"]) rfl rfl (by decide +kernel)) ⟨rfl,rfl,rfl,by decide +kernel,by decide +kernel,by decide +kernel⟩ (fun _=>rfl) rfl))
   (Zh (Z0 (md (Zw2 (pv 5) (EM (v:=.ty "list") rfl T.nu PyProof.Rows.Boot.«list» rfl) rfl T.ZS)) (Zh (i3 Ybs rfl (qk (pv 5)) (xW rfl (nG (Z9 (i:=6) me.nd rfl (Or.inl rfl)) (nG (Z9 (i:=7) me.nd rfl (Or.inl rfl)) x8))) (Zd (Z0 (PW.pt (l' (nz (md (Zw2 (pv 6) (EM (v:=.ty "str") rfl T.ZzX PyProof.Rows.Boot.«str» rfl) rfl T.ZS))) (qf (ZG ZpF (bw iQ (ZP (pv 1) T.Zq T.B2 (Cb T) hr.dn T.bF .nil lA (Za (pv 7) Ze)) Zl (fun _ _=>rfl)) (fq (Za Zr (Za Zr Ze))) rfl)))) (Zh (Zt nh)) Zx)
   (Zh (sM hu (pv 3) (pv 7) (Zy jt (Fj hu (pv 3) (pv 7) Zl ⟨rfl,rfl,rfl,rfl⟩) Zl) rfl))))) Zx))))
   (Zd (i3 Ybs rfl (qk (Zy vn (ZT Ztu rfl T.nu PyProof.Rows.Boot.«list» (Za (ZT Zrt rfl T.qm PyProof.Rows.Boot.«range» (Za (fH fK Zl) (Za Zl Ze))) Ze)) (fq (Za (Zn (ZjU T) hr.dn rfl T.ZlF T.BV.kp T.eU .nil lA (Za (pv 0) (Za Zl Ze))) Ze)))) (Z9 (i:=4) me.nd rfl (Or.inr rfl)) (Zh (Z0 (nz (md (Zn (Zgq T hB) hr.dn rfl T.Zg1 T.Ck.kp T.df .nil lA (Za (pv 1) (Za (pv 4) (Za (Fj hu (pv 3) (pv 4) Zl ⟨rfl,rfl,rfl,rfl⟩) Ze)))))) (Zh (Zt nh)) Zx)))
   (Zd (Zz (i:=8) me.nd rfl (Or.inl rfl) (lJ (pv 1) T.Zq T.Zh6 (ZgI T) hr.dn T.du .nil lA))
   (Zd (Zz (i:=9) me.nd rfl (Or.inl rfl) (ZT B0 rfl T.nu PyProof.Rows.Boot.«list» (Za (pv 8) Ze)))
   (Zd (ZC (j9 YR Xl Xk oP (pv 8) (Za Zr Ze)))
   (Zh (Zt (A0 (mh (qe dB) (lJ (pv 1) T.Zq T.Zh6 (ZgI T) hr.dn T.du .nil lA) (pv 9) (ZO _)) (A3 (mh (qe dB) (pv 9) (ZD Zqu (by rfl) T.sU PyProof.Rows.Boot.«sorted» (Za (pv 9) Ze)) (ZO _))))))))))))))),?_⟩
  intro x dx nx ndx nex;refine ⟨x,dx,256,rfl,Zb,fun z=>by omega,fun _ _ b l vb H3 fb fl D3 kp=>⟨rfl,?_⟩⟩
  have s0:ag H (upd (upd H dx (.own x)) x (.ins g.bD dx [])):=fun b o e=>by
   rw [Zf (Zg e nx),Zf (Zg e ndx)];exact e
  have s3:ag H H3:=fun c o e=>kp c o (s0 c o e) (Zg e nx);obtain ⟨F0,hf0,atF⟩:=Zrm;refine ⟨x,b,l,gG,rfl,ZwD D3,by decide,by decide,fun I hI=>?_,?_⟩
  ·rw [ZuV] at hI
   cases hI
   exact Zzr
  rw [hf0];intro f q0 H4 b4 hF4;have k4:ag H H4:=fun d o e=>b4 _ _ (s3 _ _ e) (Zg (s0 _ _ e) fb) (Zg (s0 _ _ e) fl);have L4:LS K g g.fJ H4 f q0 x b l F0 a ns:=LS.mk0 hF4 (fo0 atF) ⟨_,k4 _ _ hN0,Zxi _ _⟩ ⟨_,k4 _ _ hL0,Zxi _ _⟩ ne (k4.seq hS);clear hS D3 kp s3 s0 hT hF4 b4 k4 hN0 hL0;obtain ⟨dxf,sv0,C4,iv0,ho4,_,_⟩:=L4.files;refine ⟨_,rfl,f,g.ak,dxf,_,rfl,ho4,T.Zq,T.ZxV,_,rfl,aw ?_⟩;refine ⟨_,rfl,a,_,rfl,.inl L4.sc,_,_,rfl,_,_,rfl,?_⟩;rw [Yb];generalize hN:(if (if (ns.length:Int) < 20 then (ns.length:Int) else 20) > 1 then (if (ns.length:Int) < 20 then (ns.length:Int) else 20) else 1)=N;have hN1:N<=20:=by rw [<- hN];split <;> split <;> omega
  refine ⟨N,rfl,by omega,by omega,?_⟩;refine BC (n:=N.toNat) (fun i σ H'=>∃ F o2 o3 o4 o5 o6 o7 o8 o9,σ=[some (.ref a),some (.ref f),o2,o3,o4,o5,o6,o7,o8,o9]/\LS K g g.fJ H' f q0 x b l F a ns) ⟨F0,_,_,_,_,_,_,_,_,rfl,L4⟩ (fun i σ H' hi h=>?_) (fun σ H' h=>?_)
  ·obtain ⟨F,o2,o3,o4,o5,o6,o7,o8,o9,rfl,LF⟩:=h;refine ⟨_,rfl,_,rfl,_,rfl,a,ns,_,rfl,LF.sc,hlen,by omega,by omega,fun D t H5 s5 ht bN=>?_⟩;have L5:=LF.same s5;refine ⟨f,q0,x,b,l,F,t,D,rfl,L5.isF,L5.fo,ht,bN,fun v F' H6 b6 hF6 fo6=>?_⟩;exact ⟨F',_,_,_,_,_,_,_,_,rfl,L5.asked ne b6 hF6 fo6⟩
  obtain ⟨F,o2,o3,o4,o5,o6,o7,o8,o9,rfl,LF⟩:=h;clear L4 ho4;intro X nX;have L6:=LF.dict nX;have Dz:(upd H' X (.dK [])) X=some (.dK []):=Zb;generalize upd H' X (.dK [])=H6 at L6 Dz ⊢;have fo:=L6.fo;refine ⟨32,rfl,by decide,by decide,?_⟩;refine BC (n:=(32:Int).toNat) (fun i σ H'=>∃ kvs o2 o4 o5 o6 o7 o8 o9,σ=[some (.ref a),some (.ref f),o2,some (.ref X),o4,o5,o6,o7,o8,o9]/\LS K g X H' f q0 x b l F a ns/\H' X=some (.dK kvs)/\LD kvs (fun n=>pre F.S.ent n i)/\kvs.length<=50 * i) ⟨[],_,_,_,_,_,_,_,rfl,L6,Dz,fun n=>rfl,Ye _⟩ (fun i σ H' hi h=>?_) (fun σ H' h=>?_)
  ·obtain ⟨kvs,o2,o4,o5,o6,o7,o8,o9,rfl,LH,hX,AD,xn⟩:=h;have hi32:i < 32:=hi;obtain ⟨ps,hp,ht⟩:=LH.tL;refine ⟨ps,[.ref f,.int (0 + (i:Int))],hp,ht,rfl,fun b1 f1 c1 D0 CP DZ H1 rh gP lW C1=>?_⟩;obtain ⟨L1,hX1⟩:=LH.Kk ne hX rh;obtain ⟨hV,nO,nU,nV,gj,qX,_⟩:=L1.files;refine jI lW C1 gP gj (Z6 _ _ _ _) (fun A outer s H E hr=>ZP (pv 0) T.Zq T.yy (yv T) hr.dn T.bc .nil nJ (Za (pv 1) Ze)) fun E1 xE=>⟨f,hV,nO,nU,_,nV,F.S,_,rfl,gj,qX,fo.s.ok,?_⟩
   cases he:jw F.S (0 + (i:Int)) with
   | error r=>
    refine fun H2 s2=>xE r H2 fun H3 s3=>?_;refine ⟨_,rfl,.str r.word,_,"list",false,rfl,.str _,rfl,_,rfl,aw ?_⟩;have s23:=s2.trans s3;have e0:=Zye fo.s he;rw [Int.zero_add] at e0;refine ⟨kvs,_,_,_,_,_,_,_,rfl,L1.same s23,s23 _ _ hX1,AD.congr fun n=>?_,by omega⟩;show pre F.S.ent n i=pre F.S.ent n i + lp F.S.ent n (i:Int);unfold lp;rw [e0];rfl
   | ok es=>
    have e0:=ZzD he;rw [Int.zero_add] at e0;obtain ⟨uK,xj⟩:=fo.s.x.es _ es e0;have cg:=fo.s.b _ es e0;have lR:(bB es).length=es.length:=(s_ es).length_eq;intro l5 H2 s2 n5 ⟨as,fE,j3,Dw⟩;have L2':=L1.same s2;have hX2:=s2 _ _ hX1;refine ⟨_,rfl,.ref l5,_,"list",true,rfl,.lst fE,rfl,_,rfl,ay ?_⟩;refine ⟨_,rfl,l5,rfl,⟨_,ar.of fE⟩,?_⟩;refine vK (xs:=as.map V.ref) (fun j σ H'=>∃ kvs o2 o5 o6 o7 o8 o9,σ=[some (.ref a),some (.ref f),o2,some (.ref X),some (.int (0 + (i:Int))),o5,o6,o7,o8,o9]/\LS K g X H' f q0 x b l F a ns/\H' X=some (.dK kvs)/\LD kvs (fun n=>pre F.S.ent n i + a_ ((bB es).take j) n)/\kvs.length<=50 * i + j/\H' l5=some (.lst (as.map V.ref))/\∀ (j:Nat) a p,as[j]?=some a->(bB es)[j]?=some p->H' a=some (.tup [.str p.1,.int p.2])) ⟨kvs,_,_,_,_,_,_,rfl,L2',hX2,AD,by omega,fE,Dw⟩ (fun j σ H' _ h=>?_) (fun j y σ H' hy h=>?_) (fun σ H' h=>?_)
    ·obtain ⟨kvs,o2,o5,o6,o7,o8,o9,rfl,_,_,_,_,h5,_⟩:=h;exact ar.of h5
    ·obtain ⟨kvs,o2,o5,o6,o7,o8,o9,rfl,LJ,pU,xD,Dm,h5,zx⟩:=h;rw [Yo] at hy
     cases hb:as[j]? with
     | none=>rw [hb] at hy;cases hy
     | some ya=>
      rw [hb] at hy
      cases hy
      have hj:j < (bB es).length:=by rw [<- j3];exact (List.getElem?_eq_some_iff.mp hb).1
      obtain ⟨pr,rG⟩:∃ pr,(bB es)[j]?=some pr:=⟨_,Yh hj⟩
      have hyt:=zx j ya pr hb rG;refine ⟨ya,_,rfl,aG.of hyt,rfl,_,_,rfl,_,_,rfl,rfl,?_⟩;refine ⟨_,rfl,.str pr.1,_,"str",true,rfl,.str _,rfl,_,rfl,aw ?_⟩
      have iV:ZE F.S pr.2=true:=by
       refine fo.s.x.nm _ (Yq ?_ (qg e0));rw [<- Zqs];exact List.count_pos_iff.mpr (List.mem_map.mpr ⟨pr,Yy rG,rfl⟩)
      obtain ⟨dxJ,svJ,kvJ,ivJ,obJ,stJ,_⟩:=LJ.files;refine ⟨_,rfl,f,dxJ,_,rfl,obJ,Z6 _ _ _ _,_,rfl,f,dxJ,svJ,kvJ,_,ivJ,F.S,pr.2,rfl,obJ,stJ,fo.s.nl,?_⟩;rw [iV,if_pos rfl];intro t3 H3 s3 iL;refine ⟨t3,_,_,_,rfl,rfl,aG.of iL,AJ _ _,aX 2,fun l4 n4=>?_⟩;have s4:=Zj (o:=.lst [.str "file",.str "dir"]) n4;refine ⟨l4,_,rfl,.inl (ar.of Zb),rfl,rfl,_,rfl,?_⟩;have hk:pK (.str (kindOf F.S pr.2)) [.str "file",.str "dir"]=true:=by unfold kindOf;split <;> rfl
      rw [hk];refine aw ?_;have wC:=s3.trans s4;have L34:=LJ.same wC;have jO:=wC _ _ pU;have ub:=wC _ _ h5;have qR:∀ (j:Nat) a p,as[j]?=some a->(bB es)[j]?=some p->(upd H3 l4 (.lst [.str "file",.str "dir"])) a=some (.tup [.str p.1,.int p.2]):=fun j a p h1 h2=>wC _ _ (zx j a p h1 h2);generalize upd H3 l4 _=H4 at s4 wC L34 jO ub qR ⊢;refine ⟨_,rfl,X,rfl,.inl ⟨_,.inl jO⟩,_,rfl,_,aJ.k jO (k:=.inl pr.2),_,_,xD pr.2,rfl,?_⟩;refine ⟨_,rfl,_,rfl,X,_,rfl,dU.k (k:=.inl pr.2) jO (YO Dm (by omega)),?_⟩;refine ⟨_,_,_,_,_,_,_,rfl,L34.upd jO _,Zb,(xD.put pr.2).congr fun n=>?_,?_,?_,fun j' a' p' h1 h2=>?_⟩
      ·rw [Zvp rG];omega
      ·refine Yk (Zv1 kvs (X8 pr.2) _) ?_;omega
      ·rw [Zf (ZR ub jO (by intro z;cases z))];exact ub
      ·have z:=qR j' a' p' h1 h2;rw [Zf (ZR z jO (by intro y;cases y))];exact z
    ·obtain ⟨kvs,o2,o5,o6,o7,o8,o9,rfl,LJ,pU,xD,Dm,_,_⟩:=h;rw [Yb] at xD Dm;refine ⟨kvs,_,_,_,_,_,_,_,rfl,LJ,pU,xD.congr fun n=>?_,by omega⟩;show _=pre F.S.ent n i + lp F.S.ent n (i:Int);rw [j3,XE,Zqs];unfold lp;rw [e0]
  obtain ⟨kvs,o2,o4,o5,o6,o7,o8,o9,rfl,L7,hX7,K4,xn⟩:=h;clear LF L6 Dz;have AD:LD kvs (fun n=>cnt F.S.ent n):=K4.congr fun n=>fo.s.pre n
  -- gs Cs
  refine ⟨_,rfl,-2,34,rfl,fun p1 n1=>?_⟩;have s1:=Zj (o:=.nR (-2) 34) n1;refine ⟨p1,-2,34,36,rfl,Zb,by decide +kernel,by decide +kernel,by decide,fun p2 n2=>?_⟩;have s2:=Zj (o:=.lst ((List.range 36).map fun (i:Nat)=>V.int (-2 + (i:Int)))) n2;refine ⟨_,rfl,a,ns,0,rfl,(s1.trans s2).seq L7.sc,hlen,by decide,by decide,fun H8 s3=>?_⟩;have f2:=s3 _ _ (Zb (H:=upd H' p1 (.nR (-2) 34)) (a:=p2) (o:=.lst ((List.range 36).map fun (i:Nat)=>V.int (-2 + (i:Int)))));have dw:=(s1.trans s2).trans s3;refine ⟨aX 1,fun p3 n3=>?_⟩;have s4:=Zj (o:=.lst [.int (nj ns 0)]) n3;refine ⟨p2,p3,_,_,rfl,rfl,s4 _ _ f2,Zb,(by show 36 + 1<=Ym;omega),fun p4 n4=>?_⟩;have s5:=Zj (o:=.lst (((List.range 36).map fun (i:Nat)=>V.int (-2 + (i:Int)))++[.int (nj ns 0)])) n4;have L9:=L7.same ((dw.trans s4).trans s5);have Dy:=((dw.trans s4).trans s5) _ _ hX7;have f9:=Zb (H:=upd H8 p3 (.lst [.int (nj ns 0)])) (a:=p4) (o:=.lst (((List.range 36).map fun (i:Nat)=>V.int (-2 + (i:Int)))++[.int (nj ns 0)]));generalize upd (upd H8 p3 (.lst [.int (nj ns 0)])) p4 _=H9 at L9 Dy f9 ⊢;refine ⟨p4,rfl,⟨_,ar.of f9⟩,?_⟩;refine vK (xs:=((List.range 36).map fun (i:Nat)=>V.int (-2 + (i:Int)))++[.int (nj ns 0)]) (fun j σ H'=>∃ o2 o4 o5 o6 o7 o8 o9,σ=[some (.ref a),some (.ref f),o2,some (.ref X),o4,o5,o6,o7,o8,o9]/\LS K g X H' f q0 x b l F a ns/\H' X=some (.dK kvs)/\H' p4=some (.lst (((List.range 36).map fun (i:Nat)=>V.int (-2 + (i:Int)))++[.int (nj ns 0)]))) ⟨_,_,_,_,_,_,_,rfl,L9,Dy,f9⟩ (fun j σ H' _ h=>?_) (fun j y σ H' hy h=>?_) (fun σ H' h=>?_)
  ·obtain ⟨o2,o4,o5,o6,o7,o8,o9,rfl,_,_,h5⟩:=h;exact ar.of h5
  ·obtain ⟨o2,o4,o5,o6,o7,o8,o9,rfl,LJ,pU,h5⟩:=h
   obtain ⟨n,rfl⟩:∃ n,y=.int n:=by
    rcases List.mem_append.mp (Yy hy) with z | z
    ·obtain ⟨i,_,e⟩:=List.mem_map.mp z;exact ⟨_,e.symm⟩
    ·exact ⟨_,List.mem_singleton.mp z⟩
   obtain ⟨ps,hp,ht⟩:=LJ.tN;refine ⟨_,rfl,_,rfl,_,rfl,X,rfl,.inl ⟨_,.inl pU⟩,_,rfl,_,aJ.k pU (k:=.inl n),?_⟩;rw [AD n];refine ⟨f,q0,x,b,l,F,n,ps,rfl,LJ.nr,fo,hp,ht,fun ia nx=>⟨_,rfl,aw ?_⟩⟩;obtain ⟨L10,K1⟩:=LJ.e_ ne pU nx;exact ⟨_,_,_,_,_,_,_,rfl,L10,K1,nx.1 _ _ h5 (ZR h5 hp (by intro z;cases z))⟩
  obtain ⟨o2,o4,o5,o6,o7,o8,o9,rfl,LJ,pU,_⟩:=h;clear L7 L9 hX7 Dy f9
  -- gs wt
  have zr:F.k.length < 64:=by have:=fo.n;omega
  have xj:(F.k.map (·.1)).Nodup:=fo.nd;have rE:(eV (F.k.map (·.1))).length=F.k.length:=by rw [(BO _).length_eq,Yb]
  have pO:YY (.list ((eV (F.k.map (·.1))).map PyData.str))=true:=G' (k:=0) (fun d hd=>by
   obtain ⟨nm,g8,rfl⟩:=List.mem_map.mp hd;have hm:=(BO _).mem_iff.mp g8;obtain ⟨S,hS⟩:=Option.isSome_iff_exists.mp (vD hm);exact Fb (Zr1 (fo.k nm S hS).1)) (by decide)
  obtain ⟨hV,nO,nU,nV,gj,_,ke1⟩:=LJ.files;refine ⟨_,rfl,f,hV,_,rfl,gj,Z6 _ _ _ _,f,hV,nO,nU,_,nV,F.k,rfl,gj,ke1,zr,fun l8 H8 s8 n8 xl=>?_⟩;refine ⟨_,rfl,l8,_,rfl,.inl (ar.of xl),fun l9 n9=>?_⟩;have s9:=Zj (o:=.lst ((eV (F.k.map (·.1))).map V.str)) n9;have mY:(upd H8 l9 (.lst ((eV (F.k.map (·.1))).map V.str))) l9=some (.lst ((eV (F.k.map (·.1))).map V.str)):=Zb;have tV:=s9 _ _ xl;have n89:l9≠l8:=fun z=>by rw [z,xl] at n9;cases n9
  have k9:=s8.trans s9;generalize upd H8 l9 _=H9 at s9 mY tV k9 ⊢;refine ⟨_,rfl,.inl ⟨rfl,_,ar.of tV⟩,l8,_,_,rfl,rfl,tV,(by rw [Yb,rE];omega),?_⟩;have k10:ag H' (upd H9 l8 (.lst ((eV (F.k.map (·.1))).map V.str++[.str "x"]))):=fun b o e=>by rw [Zf (Zg e n8)];exact k9 _ _ e
  have pf:(upd H9 l8 (.lst ((eV (F.k.map (·.1))).map V.str++[.str "x"]))) l9=some (.lst ((eV (F.k.map (·.1))).map V.str)):=by rw [Zf n89];exact mY
  generalize upd H9 l8 _=ia at k10 pf ⊢;obtain ⟨gR,qV,rm,rq,kC,_,ke2⟩:=(LJ.same k10).files;refine ⟨_,rfl,f,gR,_,rfl,kC,Z6 _ _ _ _,f,gR,qV,rm,_,rq,F.k,rfl,kC,ke2,zr,fun l11 wo wD _ KP=>?_⟩;refine ⟨_,rfl,_,_,pq KP,pq (wD _ _ pf),pO,pO,_,rfl,?_⟩;rw [Z3 pO];refine ay ⟨_,rfl,_,rfl,l9,_,rfl,ar.of (wD _ _ pf),by omega,fun l12 ms n12 KA Kv=>?_⟩;rw [ZsR KA Kv (ZsS xj)];refine ⟨_,_,pq (Zj n12 _ _ (wD _ _ pf)),pq Zb,pO,pO,?_⟩;rw [Z3 pO];exact q _
set_option maxHeartbeats 16000000
open PySem L2 PySem.W
theorem ZxX {K:Frag} {a:Addr} {d:Option Addr} {u0 u1 u2 u3:Tok} {n:Nat} {o:Array (Option Value)} (h:K.lookup a=some ⟨.type "tuple",d,.seq #[.int 83 u0,.int 116 u1,.int 105 u2,.int 108 u3] n,o⟩):∀ H,aG K H a [.int 83,.int 116,.int 105,.int 108]:=fun H=>.inr ⟨_,_,_,h,rfl,rfl,(by show 4<=Ym;decide),(.cons ⟨u0,rfl⟩ (.cons ⟨u1,rfl⟩ (.cons ⟨u2,rfl⟩ (.cons ⟨u3,rfl⟩ .nil))))⟩
theorem ZzL {l:OpenLaw} {w:World} {K:Frag} {mg:Str->Option Value} {fa:Addr} {g:Gs} (hfa:mg "law"=some (.ref fa)) (T:Tx K mg g):(∀ x∈e_,∃ c T,tabIn K x=some (c,T)/\K.lookup T=none)/\∃ fd:Yl,(∀ (s:Shared) (v:Value),BindsTo s fd ⟨[v],[]⟩ [("_law_script",v)])/\∀ base:Heap,K.In base->base.Ns Xj mg->BT e_ K mg base->ah l.prog w K mg base my 10 fa fd ["_law_script"] (AU K):=by
 have e:=hfa.symm.trans T.ZAi
 cases e
 refine ⟨fun x hx=>?_,g.Ej,fun s v=>?_,fun base _ _ hB=>Zze T hB⟩
 ·simp only [e_,W3,X3,or_false] at hx
  rcases hx with rfl | rfl
  ·exact ⟨_,_,T.Zk,T.Zgn⟩
  ·exact ⟨_,_,T.fJ,T.ZyB⟩
 ·obtain ⟨oc,od,kV,doc,pm,an,aq,ct,kA,e,_⟩:=T.D5.ex;rw [e];exact .of_eq rfl
theorem walk {l:OpenLaw} {q:Program} {loose:List Str} {XP:(Str->Option Value)->Heap->Prop} {YP:World->Heap->Prop} {d:DefRec} {K:Params->Frag} (hn:l.most=some 63) (rO:d.params.defaults=[])
  (hY:∀ (w:World) (h:Heap),YP w h->(K w.params).In h) (hq:∀ x∈e_,((PyProof.Rows.recsOf q).find? fun e=>e.name == x).isSome=true)
  (F:∀ (w:World) (mg:Str->Option Value) (fa:Addr) (h:Heap),(K w.params).In h->h.Ns Xj mg->mg d.name=some (.ref fa)->(∀ x∈e_,∃ c T,tabIn (K w.params) x=some (c,T)/\(K w.params).lookup T=none)/\∃ fd:Yl,(∀ (s:Shared) (v:Value),BindsTo s fd ⟨[v],[]⟩ [("_law_script",v)])/\∀ base:Heap,(K w.params).In base->base.Ns Xj mg->BT e_ (K w.params) mg base->ah l.prog w (K w.params) mg base my 10 fa fd ["_law_script"] (AU (K w.params))) :
  WalkO q loose XP YP l.row.toRowW d [] (fun f vs=>PySem.call f vs):=
 L2.Zyy (n:=63) (k:=10) (x:="_law_script") (CX:=fun _=>my) (sp:=fun w=>AU (K w.params)) e_ hn (by decide) rO ⟨rfl,by decide,by decide⟩ hY hq F (fun _ _ a ns hl hS hT=>⟨a,ns,rfl,hS,hl,hT,fun _=>rfl⟩) fun _ _ _ _ _ z=>z
end KS
namespace PySem.W.Fast
abbrev tw6553563635621132567:=0
abbrev tw17968164827799424028:=0
abbrev tw5125626486073163821:=0
abbrev tw6456096921740432414:=0
abbrev tw4989994653747643059:=0
abbrev tw4580338387708092960:=0
abbrev tw10031589105544857099:=0
abbrev tw6591559617172383278:=0
abbrev tw3861231036261401000:=0
abbrev tw16564340373551842826:=0
abbrev tw6338501749382732955:=0
abbrev tw3572521946858198689:=0
abbrev tw177454285487014426:=0
abbrev tw4999211170601393234:=0
abbrev tw12993062067593658865:=0
abbrev tw2313750358028508398:=0
abbrev tw13454628217817387447:=0
abbrev tw17937979171790839520:=0
abbrev tw9578388758209149107:=0
abbrev tw9703362512841236150:=0
abbrev tw5414534038178430821:=0
abbrev tw1047049146531802769:=0
abbrev tw17512607334381555181:=0
abbrev tw4265378621542441543:=0
abbrev tw8354920017734690929:=0
abbrev tw10538178771226412958:=0
abbrev tw5376977775413557129:=0
abbrev tw9384041605074110009:=0
abbrev tw16120834411418461752:=0
abbrev tw18347018129916384291:=0
abbrev tw5240323645396683798:=0
abbrev tw14098299245245328347:=0
abbrev tw8395493499459300252:=0
abbrev tw11981039264364899999:=0
abbrev tw14612460585093457618:=0
abbrev tw11130338408534350199:=0
abbrev tw1197050442994219087:=0
abbrev tw18377175130559883736:=0
abbrev tw2700948594706357779:=0
abbrev tw11570625390459457233:=0
abbrev tw2780646413690523397:=0
abbrev tw137770728198170965:=0
abbrev tw2596161084395280157:=0
abbrev tw1870874599155050018:=0
abbrev tw299725936082029877:=0
abbrev tw12046357286560508009:=0
abbrev tw4624006198494882909:=0
abbrev tw2518117256032511184:=0
abbrev tw17825299214199741537:=0
abbrev tw1482846396626789075:=0
abbrev tw16129947700836570706:=0
abbrev tw16998720130301914292:=0
abbrev tw11155247262056968367:=0
abbrev tw3691047172574619333:=0
abbrev tw8412338823215868135:=0
abbrev tw5557542892376721012:=0
abbrev tw11854768123605547786:=0
abbrev tw8680563410860281172:=0
abbrev tw10347237985199003371:=0
abbrev tw15584639116570312074:=0
abbrev tw8437219516473465342:=0
abbrev tw14672926662753455304:=0
abbrev tw9803746760370335325:=0
abbrev tw10279309094642577260:=0
abbrev tw9688308307944014151:=0
abbrev tw16305833581651845379:=0
abbrev tw16599018259360551875:=0
abbrev tw14731702527925394816:=0
abbrev tw12789607216676968947:=0
abbrev tw3788737181182734698:=0
abbrev tw1498788810852974892:=0
abbrev tw11328835267212435167:=0
abbrev tw969400859576289186:=0
abbrev tw12760934907203048702:=0
abbrev tw514466288568604969:=0
abbrev tw2196574057049563820:=0
abbrev tw18103075557144917995:=0
abbrev tw2935866614771540130:=0
abbrev tw14281837208905029283:=0
abbrev tw8120117222442403405:=0
abbrev tw11237428402117573596:=0
abbrev tw11687874747631517619:=0
abbrev tw1143466962030717448:=0
abbrev tw11257406656797725590:=0
abbrev tw4404245419747019441:=0
abbrev tw5195251081963393689:=0
abbrev tw12680123917210768657:=0
abbrev tw14822872716742418080:=0
abbrev tw15249746399008649516:=0
abbrev tw4659784642060604001:=0
abbrev tw2071434263265448390:=0
abbrev tw12478848359633913151:=0
abbrev tw10176231805636465610:=0
abbrev tw3331855937573352677:=0
abbrev tw14715997161358191501:=0
abbrev tw12766270495523436771:=0
abbrev tw8777538465067534676:=0
abbrev tw1243031018426719726:=0
abbrev tw6861655446992512810:=0
abbrev tw9173149415432198682:=0
abbrev tw10763481543498617530:=0
abbrev tw5147992704630674488:=0
abbrev tw1850514441724544280:=0
abbrev tw5719473622065839453:=0
abbrev tw18219091582597078065:=0
abbrev tw11113945372540482765:=0
abbrev tw6842597238456360418:=0
abbrev tw12643941776517960506:=0
abbrev tw14841329102116939564:=0
abbrev tw17564188216722609944:=0
abbrev tw1804941811655250507:=0
abbrev tw11221577869838955773:=0
abbrev tw16614062156044584114:=0
abbrev tw15362672717741252586:=0
abbrev tw6356393282101938398:=0
abbrev tw17158588886131163421:=0
abbrev tw8591991759084460532:=0
abbrev tw5480779756243646775:=0
abbrev tw3308503055735952542:=0
abbrev tw2251368242724714085:=0
abbrev tw2415488145261813371:=0
abbrev tw11437074278143100535:=0
abbrev tw7995143887320555298:=0
abbrev tw14536207226271052699:=0
abbrev tw14537268827317860419:=0
abbrev tw10827205281270389026:=0
abbrev tw672544276541975943:=0
abbrev tw853422821407208241:=0
abbrev tw3982891851795754392:=0
abbrev tw6433031002362243080:=0
abbrev tw9811576709790483244:=0
end PySem.W.Fast
open PySem PySem.W PyProof.Rows
set_option maxRecDepth 100000 in
set_option maxHeartbeats 0 in
theorem PySem.Challenge.cw_stillpoint_k22_answers_of_ones_own_holds : PySem.Challenge.rw_stillpoint_k22_answers_of_ones_own.Holds := by
 w_on;o_law;k_head;(case hw=>w_witness2)
 k_fill
 refine KS.walk (l:=PySem.Challenge.rw_stillpoint_k22_answers_of_ones_own) rfl rfl (fun w h Y=>PySem.W.km_in_of Y) (by decide +kernel) ?F
 case F=>
  intro w mg fa h KX G hmg
  refine' KS.ZzL (g:=KS.Gs.mk ..) hmg (KS.Tx.mk ..)
  all_goals try dsimp only
  try any_goals refine' mg_of KX G ?_
  try any_goals refine' mg_none_of KX G ?_
  try any_goals refine' L2.Cls.mk ?_ ?_ ?_ ?_
  try any_goals refine' L2.Mk.mk ?_ ?_ ?_ ?_
  try any_goals refine' L2.Meth.mk ?_ ?_ ?_
  try any_goals refine' L2.Zzx ?_ ?_ ?_
  try any_goals refine' L2.Ze2.mk ?_
  try any_goals refine' L2.ZoW.mk ?_ (L2.Zxf ?_) ?_
  try any_goals refine' L2.Zvx.mk ?_ ?_ ?_ ?_ ?_
  try any_goals refine' L2.ZAh ?_
  try any_goals refine' L2.ZyD ?_ ?_ ?_ ?_ ?_
  try any_goals refine' KS.ZxX ?_
  try any_goals k_is
  try any_goals rfl
  try any_goals k_is
  try any_goals rfl
  try any_goals decide
  try any_goals kit_is
  try any_goals k_exc
  try any_goals (intro r;cases r <;> refine' L2.Zl4.mk ?_ ?_ ?_ ?_ ?_ (L2.Zxf ?_) ?_ ?_ <;> try dsimp only [KS.Gs.xa])
  try any_goals (intro r u;cases r <;> cases u <;> (try dsimp only [KS.Gs.xa]) <;> first | (show _=some true;kit_is) | (show _=some false;kit_is))
  try any_goals (intro r;cases r <;> try dsimp only [KS.Gs.xa])
  try any_goals k_is
  try any_goals kit_is
