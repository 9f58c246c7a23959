import PyProof.Rows.All
import Wide.All
import OpenK.AllK
import Wide.FinOn
import Lean
import PyProof.EqAt
import PyProof.EqKinds
import PyProof.TupleCall
import PyProof.StrOps2
import KE.KEqDict
import PySem.Challenge.RW_stillpoint_k22_answers_of_ones_own
open PySem renaming wpAny_bind→Ya,wpAny_pure→Yd,FuncData→Yl,sizeLine→Ym,starEach→Yx,boot_len→YC,wpAny_newObj_type→YF,wpAny_callSpecial?_slot→YJ,wpAny_call_entry→YK,wpAny_field→Y3,wpAny_holding→Y6,wpAny_setField_rec→Y8,wpAny_mono→Xd,mainGlobals→Xj,wpAny_dictEntries→Xt,sysModules→Xy,wpAny_Call_Name_kw→XC,call_meets→XF,DictEntry→XG,wpAny_attempt→XH,wpAny_dictEpoch→XR,compareOp→XS,mem_of_lookup→XT,rawInt→X7,PyData→Wd,backTo→Wi,wpAny_typeNameOfWhole_itemiter→Wk,wpAny_seqItems→Wr,firstArgMember→Ws,wpAny_typeNameOfWhole_keyiter→Wt,binaryOp→Wv,tupleKind_room_in1→Ww,Paired→WA,behindInMarks→WG,wpAny_truthy_bool→WJ,wpAny_setField→WQ,sizeLine_eq→WR,tupleKind→WY,attributeBase→W2,wpAny_loadPart'→W5,pyNext→W8,wpAny_fieldsOf→Yad,IsPair→Yaj,wpAny_isInstance→Yak,typeIs_str→Yam,IsItemIter→Yan,sliceBounds→Yar,codeAny→Yas,NameKind→Yau,wpAny_passesOwn→Yaw,letOwnedTupleGo→Yax,codeAny_mono→YaA,call_meetsIn→YaB,bootBuiltins→YaC,wpAny_pyIter_tuple→YaE,recursionLimit→YaF,isSubtype_stop→YaG,typeIs_int→YaJ,compEnvC→YaK,wpAny_binaryOp_repeat_ref→YaL,wpAny_Call_method→YaS,keywordEach→YaW,wpAny_newList→Ya3,wpAny_isOneOf_itemiter→Ybi,wpAny_execs_nil→Ybq,wpAny_notOrdered_dict→YbA,wpAny_isOneOf_valiter→YbB,wpAny_updateSeq_pair→YbE,wpAny_newFunctionEnv→YbF
open List renaming length_map→Yb,length_append→Yg,getElem?_eq_getElem→Yh,size_toArray→Yn,getElem?_map→Yo,mem_cons_of_mem→Yr,getD_eq_getElem?_getD→Ys,map_cons→Yt,map_append→Yw,mem_of_getElem?→Yy,length_cons→Yz,mem_cons_self→YA,mem_append_right→YL,length_replicate→YM,take_of_length_le→YS,length_drop→YU,length_take→Y0,lookup_cons→Y5,take_succ_eq_append_getElem→Xb,append_nil→Xf,replicate_succ→Xg,flatten_cons→Xh,length_range→Xv,filterMap_cons→Xw,length_filter_le→XA,take_length→XE,map_map→XJ,lookup→XO,flatten_append→XU,not_mem_nil→X3,find?_cons→Wb,filter_cons_of_pos→Wm,filter_cons_of_neg→Wn,getElem_map→Wo,drop_length→Wq,map_replicate→Wy,getElem?_append_right→WM,getLastD_eq_getLast?→WT,mem_cons→W3,any_cons→W4,drop_of_length_le→Yab,toArray→Yag,cons_append→Yal,map_take→Yap,nodup_cons→Yay,map_nil→YaD,nodup_nil→YaH,drop_zero→YaI,getLast?_eq_getElem?→YaM,getElem?_zip_eq_some→YaN,getElem?_append_left→YaO,drop_eq_getElem_cons→YaP,count_append→YaU,length_filterMap_le→Ya1,take_nil→Ya5,lt_trans→Ya6,all_cons→Ya7,pairwise_singleton→Ybc,getElem_mem→Ybe,getElem_inj→Ybf,filter_cons→Ybg,all_eq_true→Ybh,getElem?_set_self→Ybm,filterMap_eq_map'→Ybn,of_mem_zip→Ybu,length_zip→Ybv,length_set→Ybw,length_nil→Ybx,forIn_cons→Yby,take_append_drop→YbD,mem_append_left→YbH,length_dropLast→YbI,getElem?_set_ne→YbJ,map_congr_left→YbP
open PySem.Heap renaming get?_push_of_some→Yc,get?_push_size→Yi,lt_size→Yj,get?_update_other→Xq,SameBut→Xx,size_push→XN,get?_update_self→Yai
open Nat renaming le_refl→Ye,le_trans→Yk,lt_of_lt_of_le→Yq,ne_of_lt→Yu,zero_le→Yv,lt_irrefl→YN,lt_of_le_of_lt→YO,succ_le_succ→Y4,min_eq_right→X2,le_succ→Wz,ne_of_gt→WB,min_eq_left→WD,le_add_right→WS,le_of_lt→WV,le_of_eq→WW,le_total→Yaf,le_succ_of_le→YaT,add_le_add_right→YbG
open PySem.W renaming Frag→Yf,findIn→Xm,tabIn→Xn,kia_one→Xo,emptyDict→Xu,fnOf→XI,keepIn→XM,kas_sort→XQ,envX→X1,instObj→X9,kas_asc→Wj,kla_obj→W6,callWith_K→W9,kitOne→Yae,kas_desc→Yat,plainGet→Ybd,cellsFrom_some→Ybj,nsIn→Ybp,hideAll→Ybs,plainGet_of→YbM,hideAll_get→YbN,callWith_K0→YbO
open Bool renaming false_ne_true→Yp,false_eq_true→YQ,and_eq_true→YV,or_false→Xs,or_eq_true→Xz,eq_iff_iff→WE,or_true→WX,false_or→Ya8,or_eq_false_iff→YbK
open Option.some renaming inj→YB
open Option renaming getD_some→YD,map_some→Xe,isSome_none→X4,isSome_map→Yac
open Array renaming getD_eq_getD_getElem?→YE,length_toList→YH,getElem?_eq_getElem→YI,getElem?_toList→XB,getElem_toList→Yaq,getElem?_eq_none→Ybo
open PySem.NameKind renaming free→YG,cell→Yao
open PySem.F renaming plainAttrs_list→YR,plainAttrs_dict→YW,type_list_append→Xk,slot_list_append→Xl,slot_dict_get→X5,slot_dict_valueiterator_next→Wl,slot_dict_itemiterator_next→Wu,slot_dict_keyiterator_next→WC,slot_tuple_iterator_next→WN,slot_int_rmul→W7,entry_dict_get→Yaa,slot_dict_pop→Yah,type_dict_values→YaY,slot_dict_values→YaZ,args_tuple_add_2→Ya0,type_dict_items→Ya9,slot_dict_items→Yba,entry_tuple_add→Ybb,slot_tuple_add→Ybk,plainAttrs_str→Ybl,slot_zip_next→Ybz,args_tuple_mul_2→YbT,args_str_split_2→YbU
open PyProof.Rows renaming seqObj→YT,callWith_type1→XY,slot_tuple_getitem→Wh,envOfC→WI,get?_update_seq→Ybr
open PySem.Builtin.Str renaming occurrences→YX,strSliceIndices→WH,subAt→WL,partsBetween→W0,strKind→Yaz
open PySem.SeqAt renaming shaped→YY
open PySem.Builtin.Dict_items renaming ownsTuple→YZ,ownedTupleIsFree→YbQ,ownedTupleFields→YbR
open PySem.Obj renaming mapSeq→Y1,data_mapFields→Wx,mapFields→Ya4,isFreed_of_fields→YbC
open PySem.PassesOwn renaming leaving→Y2,never→Ybt
open PySem.Builtin.SmallTypes renaming nextOf→Y7,ownedTupleIsFree→X0,ownedTupleHandOut→YbL
open PySem.Str renaming ofString→Y9
open False renaming elim→Xa
open Int renaming toNat_natCast→Xc,emod_lt_of_pos→YbS
open Sum renaming inr→Xp,inl→X8
open PySem.Paired renaming length→Xr,snoc→YaX
open PySem.Calls renaming spliced_cons→XD,callWith_builtin→XZ,evalArgs_plain→Wg,spliced_nil→WK,call_function_entry→YaQ
open PySem.Heap.SameBut renaming update→XW
open True renaming intro→XX
open PySem.Builtin.Dict renaming showsAll→X6
open ForInStep renaming yield→Wc
open Ne renaming symm→WO
open PySem.Builtin.Slice renaming slicePlaces→WU,sliceAdjust→YaR
open PySem.Builtin.Tuple renaming tupleExact→WZ
open PySem.W.KasT renaming ret→Yav
open List.Pairwise renaming nil→YaV
open PySem.Builtin.List renaming listTooLong→Ya2
-- Nf: your row's module here,as g6 last of these rows
set_option Elab.async false
set_option linter.all false
set_option maxRecDepth 100000
namespace L2
open PySem PySem.Spec PyProof.Rows
abbrev Key:=Sum Int Str
def xr:Key->Value->Bool
 | .inl k,v=>Value.isInt k v
 | .inr x,v=>Value.isStrOf x v
def Mo (w:World):Key->Int
 | .inl k=>hashInt k
 | .inr x=>hashStr w x
theorem qU:∀ {k:Key} {v:Value},xr k v=true->(∃ i t,k=X8 i/\v=Value.int i t)∨(∃ x t,k=Xp x/\v=Value.str x t)
 | .inl i,v,h=>by
  obtain ⟨t,e⟩:=Value.isInt_shape (k:=i) (v:=v) h;exact .inl ⟨i,t,rfl,e⟩
 | .inr x,v,h=>by
  obtain ⟨t,e⟩:=Value.isStrOf_shape (x:=x) (v:=v) h;exact .inr ⟨x,t,rfl,e⟩
theorem Zt4 (i:Int) (t:Tok):xr (.inl i) (.int i t)=true:=by simp [xr,Value.isInt]
theorem Zt3 (x:Str) (t:Tok):xr (.inr x) (.str x t)=true:=by simp [xr,Value.isStrOf]
theorem Zx0 (a b:Int):decide ((X8 a:Key)=X8 b)=(a == b):=by
 by_cases e:a=b
 .subst e;simp
 .have h:¬ (X8 a:Key)=X8 b:=fun q=>e (Sum.inl.inj q);rw [decide_eq_false h];exact (beq_eq_false_iff_ne.mpr e).symm
theorem ZxX (a b:Str):decide ((Xp a:Key)=Xp b)=decide (a=b):=by
 by_cases e:a=b
 .subst e;simp
 .have h:¬ (Xp a:Key)=Xp b:=fun q=>e (Sum.inr.inj q);rw [decide_eq_false h,decide_eq_false e]
theorem ZxZ (a:Int) (b:Str):decide ((X8 a:Key)=Xp b)=false:=decide_eq_false (fun q=>nomatch q)
theorem ZxY (a:Str) (b:Int):decide ((Xp a:Key)=X8 b)=false:=decide_eq_false (fun q=>nomatch q)
def Z4 (prog:Program) (w:World):PySem.KeyKind prog w Key where
 is:=xr
 hash:=Mo w
 inj:=fun v a b ha hb=>by
  rcases qU ha with ⟨i,t,rfl,rfl⟩ | ⟨x,t,rfl,rfl⟩
  .rcases qU hb with ⟨j,u,rfl,e⟩ | ⟨y,u,rfl,e⟩
   .injection e with e1 _;rw [e1]
   .exact nomatch e
  .rcases qU hb with ⟨j,u,rfl,e⟩ | ⟨y,u,rfl,e⟩
   .exact nomatch e
   .injection e with e1 _;rw [e1]
 byValue:=fun k v h=>by
  rcases qU h with ⟨i,t,rfl,rfl⟩ | ⟨x,t,rfl,rfl⟩ <;> rfl
 pyHash:=fun hv h=>by
  rcases qU hv with ⟨i,t,rfl,rfl⟩ | ⟨x,t,rfl,rfl⟩
  .exact wpAny_pyHash_int h
  .exact wpAny_pyHash_str h
 eqBool:=fun hu hv h=>by
  rcases qU hu with ⟨i,t,rfl,rfl⟩ | ⟨x,t,rfl,rfl⟩
  .rcases qU hv with ⟨j,u,rfl,rfl⟩ | ⟨y,u,rfl,rfl⟩
   .rw [Zx0] at h;exact wpAny_eqBool_int h
   .rw [ZxZ] at h;exact SeqAt.EqAt.int_str i t y u _ _ _ _ h
  .rcases qU hv with ⟨j,u,rfl,rfl⟩ | ⟨y,u,rfl,rfl⟩
   .rw [ZxY] at h;exact SeqAt.EqAt.str_int x t j u _ _ _ _ h
   .rw [ZxX] at h;exact wpAny_eqBool_str h
 «strs»:=fun k x t v h=>by
  rcases qU h with ⟨i,u,rfl,e⟩ | ⟨y,u,rfl,e⟩
  .exact nomatch e
  .injection e with e1 _;subst e1
   cases v <;> rfl
theorem ZqO (prog:Program) (w:World) (i:Int) (t:Tok):(Z4 prog w).is (.inl i) (.int i t)=true:=Zt4 i t
theorem ZqN (prog:Program) (w:World) (x:Str) (t:Tok):(Z4 prog w).is (.inr x) (.str x t)=true:=Zt3 x t
end L2
namespace L2
open PySem PySem.Spec PyProof.Rows
inductive V where
 | aK | bl (b:Bool) | int (i:Int) | str (x:Str) | lN (b:Array UInt8) | qA (b:UInt64) | ref (a:Addr) | ty (n:String)
 deriving DecidableEq
def RelV:V->Value->Prop
 | .aK,u=>u=Value.none
 | .bl b,u=>u=Value.bool b
 | .int i,u=>∃ t,u=Value.int i t
 | .str x,u=>∃ t,u=Value.str x t
 | .lN b,u=>∃ t,u=Value.bytes b t
 | .qA b,u=>∃ t,u=Value.float b t
 | .ref a,u=>u=Value.ref a
 | .ty n,u=>u=Value.type n
abbrev Vals:List V->List Value->Prop:=WA RelV
theorem Vals.length {xs:List V} {us:List Value} (r:Vals xs us):xs.length=us.length:=Xr r
theorem Vals.get:∀ {xs:List V} {us:List Value} {i:Nat} {x:V},Vals xs us->xs[i]?=some x->∃ u,us[i]?=some u/\RelV x u
 | _,_,_,_,.nil,e=>by simp at e
 | _,_,0,_,.cons r _,e=>by simp at e;subst e;exact ⟨_,rfl,r⟩
 | _,_,i + 1,x,.cons _ t,e=>by
  obtain ⟨u,h1,h2⟩:=Vals.get (i:=i) (x:=x) t (by simpa using e);exact ⟨u,by simpa using h1,h2⟩
theorem Vals.set {x:V} {u:Value} (r:RelV x u):∀ {xs:List V} {us:List Value} (i:Nat),Vals xs us->Vals (xs.set i x) (us.set i u)
 | _,_,_,.nil=>.nil
 | _,_,0,.cons _ t=>.cons r t
 | _,_,i + 1,.cons q t=>.cons q (Vals.set r i t)
theorem Vals.append:∀ {xs ys:List V} {us ws:List Value},Vals xs us->Vals ys ws->Vals (xs++ys) (us++ws)
 | _,_,_,_,.nil,s=>s
 | _,_,_,_,.cons r t,s=>.cons r (Vals.append t s)
theorem Vals.take:∀ {xs:List V} {us:List Value} (n:Nat),Vals xs us->Vals (xs.take n) (us.take n)
 | _,_,0,_=>.nil
 | _,_,_ + 1,.nil=>.nil
 | _,_,n + 1,.cons r t=>.cons r (Vals.take n t)
theorem Vals.drop:∀ {xs:List V} {us:List Value} (n:Nat),Vals xs us->Vals (xs.drop n) (us.drop n)
 | _,_,0,r=>r
 | _,_,_ + 1,.nil=>.nil
 | _,_,n + 1,.cons _ t=>Vals.drop n t
def b9:Option V->Option Value->Prop
 | some v,some u=>RelV v u
 | none,none=>True
 | _,_=>False
def KV {κ:Type}:List (κ×V)->List (κ×Value)->Prop:=WA fun (p:κ×V) (q:κ×Value)=>p.1=q.1/\RelV p.2 q.2
def kV:Key->V
 | .inl i=>.int i
 | .inr x=>.str x
inductive HO where
 /-- a list -/
 | lst (xs:List V)
 /-- a tuple (never changes) -/
 | tup (xs:List V)
 /-- a dict BE keys are ints and texts;one BE keys are tuples of ints and texts (g6 empty one is both) -/
 | dK (kvs:List (Key×V)) | dT (kvs:List (List Key×V))
 /-- a set of ints: its members,its size -/
 | set (S:Int->Bool) (n:Nat)
 /-- an instance of g6 class at C,its dict at dx,its attributes -/
 | ins (C dx:Addr) (fs:List (Str×V))
 /-- g6 dict of g6 instance at x -/
 | own (x:Addr)
 /-- g6 dict of an exception -/
 | xd (fs:List (Str×V))
 /-- a bound method,f of x -/
 | met (f x:Addr)
 /-- a range object lo,lo + 1,.. below hi -/
 | qk (lo hi:Int)
 /-- a iD LU is known to g6 object (g6 Nc;a dict BF a loop walks it): read,never written BF it is so -/
 | bu (o:Obj) (u:HO)
 /-- a code BX table -/
 | cO (ps:Array Value)
 /-- any other iD,by what is true of its one object (a def of one's own: SetO a S n:=HO.ext fun h=>..) -/
 | ext (φ:Heap->Prop)
abbrev Hp:=Addr->Option HO
def upd (H:Hp) (a:Addr) (o:HO):Hp:=fun b=>if b=a then some o else H b
theorem Zb {H:Hp} {a:Addr} {o:HO}:upd H a o a=some o:=by unfold upd;rw [if_pos rfl]
theorem Zf {H:Hp} {a b:Addr} {o:HO} (h:b≠a):upd H a o b=H b:=by unfold upd;rw [if_neg h]
theorem ZR {H:Hp} {a b:Addr} {o u:HO} (h:H a=some o) (h':H b=some u) (d:o≠u):a≠b:=by
 intro e;subst e;rw [h] at h';exact d (YB h')
theorem Zg {H:Hp} {a b:Addr} {o:HO} (h:H a=some o) (h':H b=none):a≠b:=by
 intro e;subst e;rw [h] at h';cases h'
section
variable (P:Program) (w:World)
def bU (H:Hp) (h:Heap) (a:Addr):HO->Prop
 | .lst xs=>xs.length<=Ym/\∃ (its:List Value) (n:Nat),Vals xs its/\h.get? a=some {cls:=.type "list",data:=.seq its.toArray n}
 | .tup xs=>xs.length<=Ym/\∃ its:List Value,Vals xs its/\IsTup h a its.toArray
 | .dK kvs=>kvs.length<=Ym/\(a == Xy)=false/\∃ vs,KV kvs vs/\h.DictOf (Z4 P w) a vs
 | .dT kvs=>kvs.length<=Ym/\(a == Xy)=false/\∃ xs:List (List Key×Addr×Value),
   WA (fun (p:List Key×V) (q:List Key×Addr×Value)=>p.1=q.1/\H q.2.1=some (.tup (p.1.map kV))/\RelV p.2 q.2.2) kvs xs/\
   ∃ o es ep,h.get? a=some o/\o.ExactDict/\o.data=.dict es ep/\es.toList=xs.map (entryOfKey (WY (Z4 P w)))/\(xs.map (·.1)).Nodup
 | .set S n=>h.SetOf (intKind P w) a S n
 | .ins C dx fs=>H dx=some (.own a)/\fs.length<=1000/\dx≠a/\h.get? a=some (X9 C dx)/\
   ∃ mA,h.Ns1 dx mA/\(∀ f,b9 (fs.lookup f) (mA f))/\PySem.Within mA (fs.map (·.1))
 | .own _=>∃ o,h.get? a=some o
 | .xd fs=>∃ mA,h.Ns1 a mA/\∀ f,b9 (fs.lookup f) (mA f)
 | .qk lo hi=>∃ t u v,h.get? a=some {cls:=.type "range",data:=.fields #[.int lo t,.int hi u,.int 1 v]}
 | .bu o u=>h.get? a=some o/\bU H h a u
 | .cO ps=>h.get? a=some {cls:=.none,data:=.fields ps}
 | .met f x=>h.get? a=some (PySem.W.methodObj (.ref f) (.ref x))
 | .ext φ=>φ h/\(∃ o,h.get? a=some o)/\∀ h1 h2:Heap,φ h1->(∀ o,h1.get? a=some o->h2.get? a=some o)->φ h2
def cE (H:Hp) (h:Heap):Prop:=∀ a o,H a=some o->bU P w H h a o
end
section
variable {P:Program} {w:World} {H H':Hp} {h h':Heap} {a:Addr} {o:HO}
theorem bU.lt (x:bU P w H h a o):a < h.objs.size:=by
 cases o with
 | lst xs=>obtain ⟨_,_,_,_,e⟩:=x;exact Yj e
 | tup xs=>obtain ⟨_,_,_,p⟩:=x;exact p.lt
 | dK kvs=>obtain ⟨_,_,_,_,o,_,_,e,_⟩:=x;exact Yj e
 | dT kvs=>obtain ⟨_,_,_,_,o,_,_,e,_⟩:=x;exact Yj e
 | set S n=>obtain ⟨o,_,_,_,e,_⟩:=x;exact Yj e
 | ins C dx fs=>obtain ⟨_,_,_,e,_⟩:=x;exact Yj e
 | own y=>obtain ⟨_,e⟩:=x;exact Yj e
 | xd fs=>obtain ⟨_,⟨_,_,_,e,_⟩,_⟩:=x;exact Yj e
 | qk lo hi=>obtain ⟨_,_,_,e⟩:=x;exact Yj e
 | bu ob u=>obtain ⟨e,_⟩:=x;exact Yj e
 | cO ps=>exact Yj (show h.get? a=some _ from x)
 | met f y=>exact Yj (show h.get? a=some _ from x)
 | ext φ=>obtain ⟨_,⟨_,e⟩,_⟩:=x;exact Yj e
theorem Paired.vN {α β:Type} {F G:α->β->Prop}:∀ {A7:List α} {A6:List β},WA F A7 A6->(∀ a b,F a b->G a b)->WA G A7 A6
 | _,_,.nil,_=>.nil
 | _,_,.cons r t,f=>.cons (f _ _ r) (Paired.vN t f)
theorem bU.dh (x:bU P w H h a o) (k:∀ b u,(b=a∨H b=some (.own a))->h.get? b=some u->h'.get? b=some u)
  (ho:∀ b,H b=some (.own a)->H' b=some (.own a)) (ht:∀ b xs,H b=some (.tup xs)->H' b=some (.tup xs)):bU P w H' h' a o:=by
 induction o with
 | lst xs=>obtain ⟨z,its,n,r,e⟩:=x;exact ⟨z,its,n,r,k _ _ (.inl rfl) e⟩
 | tup xs=>obtain ⟨z,its,r,ob,e,c⟩:=x;exact ⟨z,its,r,ob,k _ _ (.inl rfl) e,c⟩
 | dK kvs=>obtain ⟨z,y,vs,r,ob,es,ep,e,c⟩:=x;exact ⟨z,y,vs,r,ob,es,ep,k _ _ (.inl rfl) e,c⟩
 | dT kvs=>
  obtain ⟨z,y,xs,r,ob,es,ep,e,c⟩:=x;exact ⟨z,y,xs,Paired.vN r fun p q z=>⟨z.1,ht _ _ z.2.1,z.2.2⟩,ob,es,ep,k _ _ (.inl rfl) e,c⟩
 | set S n=>obtain ⟨ob,es,ep,t,e,c⟩:=x;exact ⟨ob,es,ep,t,k _ _ (.inl rfl) e,c⟩
 | ins C dx fs=>
  obtain ⟨d,z,ne,e,mA,⟨od,es,ep,e2,c⟩,r⟩:=x;exact ⟨ho _ d,z,ne,k _ _ (.inl rfl) e,mA,⟨od,es,ep,k _ _ (.inr d) e2,c⟩,r⟩
 | own y=>obtain ⟨ob,e⟩:=x;exact ⟨ob,k _ _ (.inl rfl) e⟩
 | xd fs=>obtain ⟨mA,⟨od,es,ep,e,c⟩,r⟩:=x;exact ⟨mA,⟨od,es,ep,k _ _ (.inl rfl) e,c⟩,r⟩
 | qk lo hi=>obtain ⟨t,u,v,e⟩:=x;exact ⟨t,u,v,k _ _ (.inl rfl) e⟩
 | bu ob u ih=>obtain ⟨e,q⟩:=x;exact ⟨k _ _ (.inl rfl) e,ih q⟩
 | cO ps=>
  have e:h.get? a=some {cls:=.none,data:=.fields ps}:=x;show h'.get? a=some {cls:=.none,data:=.fields ps};exact k a _ (.inl rfl) e
 | met f y=>
  have e:h.get? a=some (PySem.W.methodObj (.ref f) (.ref y)):=x;show h'.get? a=some (PySem.W.methodObj (.ref f) (.ref y));exact k a _ (.inl rfl) e
 | ext φ=>obtain ⟨p,⟨o,e⟩,st⟩:=x;exact ⟨st _ _ p fun o q=>k _ _ (.inl rfl) q,⟨o,k _ _ (.inl rfl) e⟩,st⟩
theorem cE.lt (x:cE P w H h) (e:H a=some o):a < h.objs.size:=(x a o e).lt
theorem cE.fresh (x:cE P w H h) (e:h.objs.size<=a):H a=none:=by
 cases q:H a with
 | none=>rfl
 | some u=>exact absurd (Yq (x.lt q) e) (YN _)
theorem cE.kept (x:cE P w H h) (k:∀ b u,h.get? b=some u->h'.get? b=some u):cE P w H h':=fun a o e=>
 (x a o e).dh (fun b u _ q=>k b u q) (fun _ q=>q) fun _ _ q=>q
theorem cE.laid (x:cE P w H h) (k:∀ b u,h.get? b=some u->h'.get? b=some u) (hp:h.objs.size<=a) (new:bU P w (upd H a o) h' a o):cE P w (upd H a o) h':=fun b u e=>by
 have hn:=x.fresh hp
 by_cases hb:b=a
 .subst hb;rw [Zb] at e;cases e;exact new
 .rw [Zf hb] at e;exact (x b u e).dh (fun c v _ q=>k c v q) (fun c q=>by rw [Zf (Zg q hn)];exact q) fun c xs q=>by rw [Zf (Zg q hn)];exact q
end
def Rd (H:Hp) (a:Addr) (u:HO):Prop:=H a=some u∨∃ o,H a=some (.bu o u)
theorem Rd.ok {P:Program} {w:World} {H:Hp} {h:Heap} {a:Addr} {u:HO} (r:Rd H a u) (x:cE P w H h):bU P w H h a u:=by
 rcases r with r | ⟨o,r⟩
 .exact x a u r
 .obtain ⟨_,q⟩:=x a _ r;exact q
def AA:Option HO->Prop
 | some (.lst _)=>True
 | some (.dK _)=>True
 | some (.dT _)=>True
 | some (.set _ _)=>True
 | some (.ins _ _ _)=>True
 | some (.ext _)=>True
 | _=>False
section
variable {P:Program} {w:World} {H:Hp} {h h':Heap} {x e:Addr} {o':HO}
theorem cE.write (ok:cE P w H h) (mu:AA (H x)) (he:e=x∨H e=some (.own x)) (k:∀ b u,b≠e->h.get? b=some u->h'.get? b=some u) (w8:∃ u,h'.get? e=some u)
  (new:bU P w (upd H x o') h' x o'):cE P w (upd H x o') h':=fun b u q=>by
 have A4:∀ c y,H c=some (.own y)->c≠x:=fun c y r z=>by subst z;rw [r] at mu;exact mu
 have Mg:∀ c xs,H c=some (.tup xs)->c≠x:=fun c xs r z=>by subst z;rw [r] at mu;exact mu
 by_cases hb:b=x
 .subst hb;rw [Zb] at q;cases q;exact new
 .rw [Zf hb] at q
  by_cases uI:b=e
  .have q':H b=some (.own x):=by
    rcases he with z | z
    .exact absurd (uI.trans z) hb
    .rw [uI];exact z
   rw [q] at q';cases q';obtain ⟨v,hv⟩:=w8;exact ⟨v,by rw [uI];exact hv⟩
  .refine (ok b u q).dh (fun c v hc r=>k c v ?_ r) (fun c r=>by rw [Zf (A4 c b r)];exact r) fun c xs r=>by rw [Zf (Mg c xs r)];exact r
   rcases hc with rfl | hc
   .exact uI
   .rintro rfl
    rcases he with z | z
    .exact A4 c b hc z
    .rw [hc] at z;cases z;exact hb rfl
end
structure Un (fs ex:List Addr) (H H':Hp) (h h':Heap):Prop where
 keep:∀ b o,h.get? b=some o->H b=none->b ∉ fs->b ∉ ex->h'.get? b=some o
 slot:∀ b o,h.get? b=some o->H b=none->b∈fs->b ∉ ex->∃ sl,h'.get? b=some {o with slots:=sl}
 free:∀ b o,h.get? b=some o->H b=none->b ∉ ex->H' b=none
 there:∀ b o,h.get? b=some o->b ∉ ex->∃ o',h'.get? b=some o'
 cI:∀ b xs,H b=some (.tup xs)->H' b=some (.tup xs)
 bV:∀ b o u,H b=some (.bu o u)->H' b=some (.bu o u)
 ck:∀ b ps,H b=some (.cO ps)->∃ more,H' b=some (.cO (ps++more))
section
variable {fs fs' ex ex':List Addr} {H H1 H2:Hp} {h h1 h2 h':Heap} {a x e:Addr} {o:HO}
theorem Un.any (u:Un fs ex H H1 h h1) {b:Addr} {ob:Obj} (q:h.get? b=some ob) (n:H b=none) (hx:b ∉ ex):∃ sl,h1.get? b=some {ob with slots:=sl}:=by
 by_cases hb:b∈fs
 .exact u.slot b ob q n hb hx
 .exact ⟨ob.slots,u.keep b ob q n hb hx⟩
theorem Un.kept (k:∀ b u,h.get? b=some u->h'.get? b=some u):Un fs ex H H h h':=
 ⟨fun b ob q _ _ _=>k b ob q,fun b ob q _ _ _=>⟨ob.slots,k b ob q⟩,fun _ _ _ n _=>n,fun b ob q _=>⟨ob,k b ob q⟩,fun _ _ q=>q,fun _ _ _ q=>q,fun _ ps q=>⟨#[],by rw [q];simp⟩⟩
theorem Un.refl:Un fs ex H H h h:=Un.kept fun _ _ q=>q
theorem Un.laid (k:∀ b u,h.get? b=some u->h'.get? b=some u) (hp:h.objs.size<=a) (hn:H a=none):Un fs ex H (upd H a o) h h' where
 keep:=fun b u q _ _ _=>k b u q
 slot:=fun b u q _ _ _=>⟨u.slots,k b u q⟩
 free:=fun b u q n _=>by rw [Zf (Yu (Yq (Yj q) hp))];exact n
 there:=fun b u q _=>⟨u,k b u q⟩
 cI:=fun b xs q=>by rw [Zf (Zg q hn)];exact q
 bV:=fun b u xs q=>by rw [Zf (Zg q hn)];exact q
 ck:=fun b ps q=>⟨#[],by rw [Zf (Zg q hn),q];simp⟩
theorem Un.write (mu:AA (H x)) (he:e=x∨H e=some (.own x)) (k:∀ b u,b≠e->h.get? b=some u->h'.get? b=some u) (w8:∃ u,h'.get? e=some u):Un fs ex H (upd H x o) h h':=by
 have hx:∀ b,H b=none->b≠x:=fun b n z=>by subst z;rw [n] at mu;exact mu
 have hb:∀ b,H b=none->b≠e:=fun b n z=>by
  subst z;rcases he with r | r
  .exact hx b n r
  .rw [n] at r;cases r
 have hm:∀ b u,H b=some u->¬ AA (some u)->b≠x:=fun b u q nm z=>by subst z;rw [q] at mu;exact nm mu
 refine ⟨fun b u q n _ _=>k b u (hb b n) q,fun b u q n _ _=>⟨u.slots,k b u (hb b n) q⟩,fun b u q n _=>by rw [Zf (hx b n)];exact n,fun b u q _=>?_,
  fun b xs q=>by rw [Zf (hm b _ q fun z=>z)];exact q,fun b u xs q=>by rw [Zf (hm b _ q fun z=>z)];exact q,fun b ps q=>⟨#[],by rw [Zf (hm b _ q fun z=>z),q];simp⟩⟩
 by_cases uI:b=e
 .subst uI;exact w8
 .exact ⟨u,k b u uI q⟩
end
def B2 (h:Heap) (H:Hp):List Addr:=(List.range h.objs.size).filter fun a=>(H a).isSome
def cm (h:Heap) (H:Hp):Heap:=Ybs h (B2 h H)
theorem ZpU (h:Heap) (H:Hp):(cm h H).objs.size=h.objs.size:=PySem.W.hideAll_size _ _
theorem ZrO {h:Heap} {H:Hp} {b:Addr} {o:Obj} (e:h.get? b=some o) (n:H b=none):(cm h H).get? b=some o:=
 YbN _ e fun hm=>by
  have q:(H b).isSome=true:=(List.mem_filter.mp hm).2;rw [n] at q;simp at q
theorem ZtF {h:Heap} {H:Hp} {b:Addr} {o:Obj} (e:(cm h H).get? b=some o):h.get? b=some o/\H b=none:=by
 have e':h.get? b=some o:=PySem.W.of_hideAll (B2 h H) e;refine ⟨e',?_⟩
 cases q:H b with
 | none=>rfl
 | some x=>
  have hm:b∈B2 h H:=List.mem_filter.mpr ⟨List.mem_range.mpr (Yj e'),by simp [q]⟩;have z:(cm h H).get? b=none:=PySem.W.hideAll_none (B2 h H) hm;rw [z] at e;cases e
end L2
namespace L2
open PySem PySem.Spec PyProof.Rows
structure Mod (K:Yf) (mg:Str->Option Value) (base:Heap):Prop where
 nH:K.In base
 glob:base.Ns Xj mg
 blt:∃ mb,base.Ns builtinsNs mb/\∀ x:Str,x≠"__name__"->mb x=YaC x
 nolimit:base.NoLimit
structure Cx where
 prog:Program
 w:World
 K:Yf
 mg:Str->Option Value
 base:Heap
 A:Around
 N:List Str
 ar:Shared
 aO:Hp
 env:Env
 outer:List Env
 stack:List Env
 ex:List Addr
 fn:Str->Bool
 calm:Bool
 pn:List (Addr×Obj)
 xe:Value->Shared->Prop
def bM (l:List Env):List Addr:=l.filterMap (·.frame)
abbrev Cx.fs (X:Cx):List Addr:=bM X.outer
def Ej (sc:Scope) (x:Str):Prop:=sc.names.lookup x=some .local∨sc.names.lookup x=some .cell∨sc.names.lookup x=some .free
def Loc (sc:Scope) (x:Str):Prop:=sc.names.lookup x=some .local∨sc.names.lookup x=some .cell
def Look (env:Env) (h:Heap) (m:Str->Option Value) (x:Str) (u:Value):Prop:=
 (env.kindOf x=some .local/\m x=some u)∨((env.kindOf x=some .cell∨env.kindOf x=some .free)/\∃ c,env.cells.lookup x=some c/\h.IsCell c (some u))
structure Cx.Ok (X:Cx):Prop where
 mod:Mod X.K X.mg X.base
 kind:X.env.scope.kind=.function
 glob:X.env.globals=Xj
 blt:X.env.builtins=builtinsNs
 above:X.ar.heap.objs.size<=X.env.locals
 inj:∀ x y c,X.env.cells.lookup x=some c->X.env.cells.lookup y=some c->x=y
 has:∀ x,(X.env.kindOf x=some .cell∨X.env.kindOf x=some .free)->∃ c,X.env.cells.lookup x=some c
 pO:∀ x c,X.fn x=true->X.env.cells.lookup x=some c->X.ar.heap.objs.size<=c
 hd:X.calm=true->X.A.handled=none
 frames:X.A.frames=some X.stack
 rH:X.stack=X.outer∨(X.stack=X.env::X.outer/\X.env.frame=some X.env.locals)
 xk:∀ b∈X.ex,b≠X.env.locals/\∀ x c,X.env.cells.lookup x=some c->c≠b
 bs:∀ b o,X.base.get? b=some o->X.ar.heap.get? b=some o/\X.aO b=none
 kR:X.base.objs.size<=X.ar.heap.objs.size
 je:∀ b o,X.base.get? b=some o->b ∉ X.ex
 ia:∀ b∈X.ex,b ∉ X.fs
 bJ:X.ar.heap.FunFrames X.base X.outer
 mC:∀ b∈X.fs,X.aO b=none
structure Inv (X:Cx) (pins:List (Addr×Obj)) (σ:List (Option V)) (H:Hp) (s:Shared):Prop where
 ok:X.Ok
 os:s.os=X.ar.os
 bare:AllBare s.gens
 base:Un X.fs X.ex X.aO H X.ar.heap s.heap
 loc:∃ m,s.heap.Ns X.env.locals m/\∀ (i:Nat) (x:Str) (v:V),X.N[i]?=some x->σ[i]?=some (some v)->Ej X.env.scope x->∃ u,RelV v u/\Look X.env s.heap m x u
 cell:∀ x c,X.env.cells.lookup x=some c->∃ v,s.heap.IsCell c v
 free:H X.env.locals=none
 bg:∀ x c,X.env.cells.lookup x=some c->H c=none
 pin:∀ p∈X.pn++pins,s.heap.get? p.1=some p.2/\H p.1=none/\p.1≠X.env.locals/\p.1 ∉ X.fs/\∀ v,p.2.data≠.cell v
 aj:cE X.prog X.w H s.heap
 len:σ.length=X.N.length
section
variable {X:Cx} {pins:List (Addr×Obj)} {σ:List (Option V)} {H H':Hp} {s:Shared} {h':Heap}
theorem Cx.Ok.vM (ok:X.Ok) {b:Addr} {o:Obj} (e:X.base.get? b=some o):b ∉ X.fs:=fun hb=>by
 have:=(ok.bJ.mem hb).1
 rw [e] at this;cases this
theorem Inv.bs (I:Inv X pins σ H s):∀ b o,X.base.get? b=some o->s.heap.get? b=some o/\H b=none:=fun b o e=>
 ⟨I.base.keep b o (I.ok.bs b o e).1 (I.ok.bs b o e).2 (I.ok.vM e) (I.ok.je b o e),I.base.free b o (I.ok.bs b o e).1 (I.ok.bs b o e).2 (I.ok.je b o e)⟩
theorem Inv.bk (I:Inv X pins σ H s):∀ b o,X.base.get? b=some o->s.heap.get? b=some o:=fun b o e=>(I.bs b o e).1
theorem Inv.mod (I:Inv X pins σ H s):Mod X.K X.mg X.base:=I.ok.mod
theorem Inv.cg (I:Inv X pins σ H s):X.K.In s.heap:=I.ok.mod.nH.keeps I.bk
theorem Inv.lt (I:Inv X pins σ H s):X.env.locals < s.heap.objs.size:=let ⟨_,hn,_⟩:=I.loc;hn.lt
theorem Inv.sz (I:Inv X pins σ H s):X.ar.heap.objs.size<=s.heap.objs.size:=Yk I.ok.above (WV I.lt)
theorem Inv.Mi (I:Inv X pins σ H s) {a:Addr} (h:s.heap.objs.size<=a):a ∉ X.fs:=fun hb=>by
 obtain ⟨_,o,ho,_⟩:=I.ok.bJ.mem hb;exact absurd (Yq (Yj ho) (Yk I.sz h)) (YN _)
theorem Inv.nV (I:Inv X pins σ H s):∀ x c,X.env.cells.lookup x=some c->c≠X.env.locals:=fun x c e z=>by
 obtain ⟨v,o,ho,hd⟩:=I.cell x c e;obtain ⟨m,⟨o',es,ep,dZ,zo,_⟩,_⟩:=I.loc;rw [z,dZ] at ho;cases ho;rw [zo] at hd;cases hd
theorem Inv.bJ (I:Inv X pins σ H s):s.heap.FunFrames X.base X.outer:=by
 have all:∀ (l:List Env),(∀ b∈bM l,b∈X.fs)->X.ar.heap.FunFrames X.base l->s.heap.FunFrames X.base l:=by
  intro l
  induction l with
  | nil=>intro _ _;trivial
  | cons env r ih=>
   intro hs hl;obtain ⟨hk,⟨L,o,hf,hn,ho,hd⟩,hr⟩:=hl;have hL:L∈X.fs:=hs L (by unfold bM;rw [Xw,hf];exact YA);obtain ⟨sl,e⟩:=I.base.slot L o ho (I.ok.mC L hL) hL fun z=>I.ok.ia L z hL;exact ⟨hk,⟨L,_,hf,hn,e,hd⟩,ih (fun b hb=>hs b (by unfold bM;rw [Xw,hf];exact Yr _ hb)) hr⟩
 exact all X.outer (fun _ hb=>hb) I.ok.bJ
theorem Inv.stack (I:Inv X pins σ H s):s.heap.FunFrames X.base X.stack:=by
 rcases I.ok.rH with e | ⟨e,hf⟩
 .rw [e];exact I.bJ
 .rw [e];obtain ⟨m,hn,_⟩:=I.loc;refine .cons (by rw [I.ok.kind];decide) hf hn ?_ I.bJ;exact Heap.get?_none_of_le (Yk I.ok.kR I.ok.above)
theorem Inv.bW (I:Inv X pins σ H s):∀ b∈bM X.stack,b∈X.env.locals::X.fs:=fun b hb=>by
 rcases I.ok.rH with e | ⟨e,hf⟩
 .rw [e] at hb;exact Yr _ hb
 .rw [e] at hb;unfold bM at hb;rw [Xw,hf] at hb;exact hb
theorem Inv.cw (I:Inv X pins σ H s):∀ b∈bM X.stack,H b=none:=fun b hb=>by
 rcases List.mem_cons.mp (I.bW b hb) with e | hb
 .rw [e];exact I.free
 .obtain ⟨_,o,ho,_⟩:=I.ok.bJ.mem hb;exact I.base.free b o ho (I.ok.mC b hb) fun z=>I.ok.ia b z hb
theorem Inv.step {g':Array GenState} {t':Nat} {d':Drawn} {ch:List Addr} (I:Inv X pins σ H s)
  (kF:∀ b∈ch,(b∈X.ex∨X.ar.heap.objs.size<=b)/\b≠X.env.locals/\(∀ x c,X.env.cells.lookup x=some c->c≠b)/\∀ p∈X.pn++pins,p.1≠b)
  (keep:∀ b o,b≠X.env.locals->b ∉ X.fs->b ∉ ch->s.heap.get? b=some o->H b=none->h'.get? b=some o)
  (slot:∀ b o,b≠X.env.locals->b∈X.fs->b ∉ ch->s.heap.get? b=some o->H b=none->∃ sl,h'.get? b=some {o with slots:=sl}) (free:∀ b o,b ∉ ch->s.heap.get? b=some o->H b=none->H' b=none)
  (there:∀ b o,b ∉ ch->s.heap.get? b=some o->∃ o',h'.get? b=some o')
  (cI:∀ b xs,H b=some (.tup xs)->H' b=some (.tup xs)) (bV:∀ b o u,H b=some (.bu o u)->H' b=some (.bu o u)) (ck:∀ b ps,H b=some (.cO ps)->∃ more,H' b=some (.cO (ps++more)))
  (ns:∀ m,s.heap.Ns X.env.locals m->h'.Ns X.env.locals m) (aj:cE X.prog X.w H' h') (hg:AllBare g') :
  Inv X pins σ H' {s with heap:=h',gens:=g',drawn:=d',toks:=t'}:=by
 have wM:∀ b o,X.ar.heap.get? b=some o->b≠X.env.locals:=fun b o e=>Yu (Yq (Yj e) I.ok.above)
 have B8:∀ b o,X.ar.heap.get? b=some o->b ∉ X.ex->b ∉ ch:=fun b o e hx hb=>by
  rcases (kF b hb).1 with z | z
  .exact hx z
  .exact absurd (Yq (Yj e) z) (YN _)
 have cellK:∀ x c,X.env.cells.lookup x=some c->∀ v,s.heap.IsCell c v->h'.IsCell c v:=fun x c e v ⟨o,ho,hd⟩=>by
  have yJ:c ∉ ch:=fun z=>(kF c z).2.2.1 x c e rfl
  by_cases hc:c∈X.fs
  .obtain ⟨sl,q⟩:=slot c o (I.nV x c e) hc yJ ho (I.bg x c e);exact ⟨_,q,hd⟩
  .exact ⟨o,keep c o (I.nV x c e) hc yJ ho (I.bg x c e),hd⟩
 refine ⟨I.ok,I.os,hg,⟨fun b o e n hb hx=>?_,fun b o e n hb hx=>?_,fun b o e n hx=>?_,fun b o e hx=>?_,fun b xs e=>cI b xs (I.base.cI b xs e),fun b o xs e=>bV b o xs (I.base.bV b o xs e),fun b ps e=>?_⟩,?_,fun x c e=>?_,?_,fun x c e=>?_,fun p hp=>?_,aj,I.len⟩
 .exact keep b o (wM b o e) hb (B8 b o e hx) (I.base.keep b o e n hb hx) (I.base.free b o e n hx)
 .obtain ⟨sl,e1⟩:=I.base.slot b o e n hb hx;obtain ⟨EF,e2⟩:=slot b _ (wM b o e) hb (B8 b o e hx) e1 (I.base.free b o e n hx);exact ⟨EF,e2⟩
 .obtain ⟨o',e1⟩:=I.base.there b o e hx;exact free b o' (B8 b o e hx) e1 (I.base.free b o e n hx)
 .obtain ⟨o',e1⟩:=I.base.there b o e hx;exact there b o' (B8 b o e hx) e1
 .obtain ⟨m1,e1⟩:=I.base.ck b ps e;obtain ⟨m2,e2⟩:=ck b _ e1;exact ⟨m1++m2,by rw [e2,Array.append_assoc]⟩
 .obtain ⟨m,hn,hl⟩:=I.loc;refine ⟨m,ns m hn,fun i x v e1 e2 e3=>?_⟩;obtain ⟨u,r,l⟩:=hl i x v e1 e2 e3;refine ⟨u,r,?_⟩;rcases l with l | ⟨k,c,e,z⟩
  .exact .inl l
  .exact .inr ⟨k,c,e,cellK x c e _ z⟩
 .obtain ⟨v,z⟩:=I.cell x c e;exact ⟨v,cellK x c e v z⟩
 .obtain ⟨m,⟨o,_,_,ho,_⟩,_⟩:=I.loc;exact free _ o (fun z=>(kF _ z).2.1 rfl) ho I.free
 .obtain ⟨v,o,ho,hd⟩:=I.cell x c e;exact free c o (fun z=>(kF c z).2.2.1 x c e rfl) ho (I.bg x c e)
 .obtain ⟨e,n,ne,nf,d⟩:=I.pin p hp;have yJ:p.1 ∉ ch:=fun z=>(kF p.1 z).2.2.2 p hp rfl;exact ⟨keep p.1 p.2 ne nf yJ e n,free p.1 p.2 yJ e n,ne,nf,d⟩
theorem Inv.un {t':Nat} (I:Inv X pins σ H s) (u:Un X.fs [] H H' s.heap h') (aj:cE X.prog X.w H' h'):Inv X pins σ H' {s with heap:=h',toks:=t'}:=by
 obtain ⟨m,⟨o,es,ep,ho,r⟩,_⟩:=id I.loc;obtain ⟨sl,hL⟩:=u.any ho I.free (by simp)
 exact I.step (g':=s.gens) (d':=s.drawn) (ch:=[]) (fun _ z=>nomatch z) (fun b o _ hb _ e n=>u.keep b o e n hb (by simp)) (fun b o _ hb _ e n=>u.slot b o e n hb (by simp)) (fun b o _ e n=>u.free b o e n (by simp)) (fun b o _ e=>u.there b o e (by simp)) u.cI u.bV u.ck (fun m' hm=>by
  obtain ⟨o',es',uS,dZ,r'⟩:=hm;rw [ho] at dZ;cases dZ;exact ⟨_,es',uS,hL,r'⟩) aj I.bare
theorem Inv.call {g':Array GenState} {t':Nat} {d':Drawn} {ch:List Addr} (I:Inv X pins σ H s) (u:Un (bM X.stack) ch H H' s.heap h') (aj:cE X.prog X.w H' h') (hg:AllBare g')
  (kF:∀ b∈ch,(b∈X.ex∨X.ar.heap.objs.size<=b)/\b≠X.env.locals/\(∀ x c,X.env.cells.lookup x=some c->c≠b)/\∀ p∈X.pn++pins,p.1≠b) :
  Inv X pins σ H' {s with heap:=h',gens:=g',drawn:=d',toks:=t'}:=by
 obtain ⟨m,⟨o,es,ep,ho,r⟩,_⟩:=id I.loc;obtain ⟨sl,hL⟩:=u.any ho I.free fun z=>(kF _ z).2.1 rfl
 exact I.step (ch:=ch) kF (fun b o hL hb hc e n=>u.keep b o e n (fun z=>(List.mem_cons.mp (I.bW b z)).elim hL hb) hc) (fun b o _ _ hc e n=>u.any e n hc) (fun b o hc e n=>u.free b o e n hc) (fun b o hc e=>u.there b o e hc) u.cI u.bV u.ck (fun m' hm=>by
  obtain ⟨o',es',uS,dZ,r'⟩:=hm;rw [ho] at dZ;cases dZ;exact ⟨_,es',uS,hL,r'⟩) aj hg
theorem Inv.turned {t':Nat} {it:Addr} (I:Inv X pins σ H s) (k:∀ b o,b≠it->s.heap.get? b=some o->h'.get? b=some o) (hn:H it=none) (hL:it≠X.env.locals)
  (h1:it∈X.ex∨X.ar.heap.objs.size<=it) (h2:∀ x c,X.env.cells.lookup x=some c->c≠it) (h3:∀ p∈X.pn++pins,p.1≠it):Inv X pins σ H {s with heap:=h',toks:=t'}:=by
 have rN:∀ b u,H b=some u->b≠it:=fun b u e z=>by rw [z,hn] at e;cases e
 refine I.step (g':=s.gens) (d':=s.drawn) (ch:=[it]) (fun b hb=>?_) (fun b o _ _ hc e _=>k b o (fun z=>hc (by simp [z])) e) (fun b o _ _ hc e _=>⟨o.slots,k b o (fun z=>hc (by simp [z])) e⟩) (fun _ _ _ _ n=>n)
  (fun b o hc e=>⟨o,k b o (fun z=>hc (by simp [z])) e⟩) (fun _ _ e=>e) (fun _ _ _ e=>e) (fun b ps e=>⟨#[],by rw [e];simp⟩) (fun m hm=>?_) (fun b u e=>?_) I.bare
 .have e:b=it:=by simpa using hb
  subst e;exact ⟨h1,hL,h2,h3⟩
 .obtain ⟨o,es,ep,ho,r⟩:=hm;exact ⟨o,es,ep,k _ o (WO hL) ho,r⟩
 .refine (I.aj b u e).dh (fun c v hc q=>k c v ?_ q) (fun _ q=>q) fun _ _ q=>q;rcases hc with z | z
  .rw [z];exact rN b u e
  .exact rN c _ z
theorem Inv.tok (I:Inv X pins σ H s) (t:Nat):Inv X pins σ H {s with toks:=t}:=I.un (h':=s.heap) (t':=t) Un.refl I.aj
theorem Inv.kept {t':Nat} (I:Inv X pins σ H s) (k:∀ b u,s.heap.get? b=some u->h'.get? b=some u):Inv X pins σ H {s with heap:=h',toks:=t'}:=I.un (Un.kept k) (I.aj.kept k)
theorem Inv.laid {a:Addr} {o:HO} {t':Nat} (I:Inv X pins σ H s) (k:∀ b u,s.heap.get? b=some u->h'.get? b=some u) (hp:s.heap.objs.size<=a) (new:bU X.prog X.w (upd H a o) h' a o) :
  Inv X pins σ (upd H a o) {s with heap:=h',toks:=t'}:=I.un (Un.laid k hp (I.aj.fresh hp)) (I.aj.laid k hp new)
theorem Inv.write {x e:Addr} {o:HO} {t':Nat} (I:Inv X pins σ H s) (mu:AA (H x)) (he:e=x∨H e=some (.own x)) (k:∀ b u,b≠e->s.heap.get? b=some u->h'.get? b=some u) (w8:∃ u,h'.get? e=some u)
  (new:bU X.prog X.w (upd H x o) h' x o):Inv X pins σ (upd H x o) {s with heap:=h',toks:=t'}:=I.un (Un.write mu he k w8) (I.aj.write mu he k w8 new)
theorem Inv.mm {lZ:List (Addr×Obj)} (I:Inv X pins σ H s) (h:∀ p∈lZ,s.heap.get? p.1=some p.2/\H p.1=none/\p.1≠X.env.locals/\p.1 ∉ X.fs/\∀ v,p.2.data≠.cell v):Inv X lZ σ H s:=
 ⟨I.ok,I.os,I.bare,I.base,I.loc,I.cell,I.free,I.bg,fun p hp=>(List.mem_append.mp hp).elim (fun z=>I.pin p (YbH _ z)) (h p),I.aj,I.len⟩
theorem G1 {N:List Str} (hN:N.Nodup) {i j:Nat} {x:Str} (a:N[i]?=some x) (b:N[j]?=some x):i=j:=by
 obtain ⟨h1,e1⟩:=List.getElem?_eq_some_iff.mp a;obtain ⟨h2,e2⟩:=List.getElem?_eq_some_iff.mp b;exact (Ybf hN).mp (e1.trans e2.symm)
theorem Zo6 {M:Model} {A:Around} {E:Value->Shared->Prop} {i:Nat} {x:Str} {v:V} {u:Value} {Q:Unit->Shared->Prop} (I:Inv X pins σ H s) (hN:X.N.Nodup) (hi:X.N[i]?=some x) (hx:Loc X.env.scope x) (r:RelV v u)
  (h:∀ s',Inv X pins (σ.set i (some v)) H s'->(∃ a,Xx a s.heap s'.heap/\(a=X.env.locals∨X.env.cells.lookup x=some a))->Q () s') (hf:X.fn x=true∨X.env.scope.names.lookup x=some .local:=by first | exact .inl rfl | exact .inr rfl | assumption):wpAny M A (storeName X.env x u) Q E s:=by
 obtain ⟨m,hn,hl⟩:=id I.loc;have wc:(X.env.scope.kind == .class || (X.env.scope.kind == .module && X.env.locals != X.env.globals))=false:=by rw [I.ok.kind];rfl
 have Bn:i < σ.length:=by rw [I.len];exact (List.getElem?_eq_some_iff.mp hi).1
 have nV:=I.nV
 have tracked:∀ {a:Addr} {h':Heap},(∃ o,s.heap.get? a=some o/\H a=none)->Xx a s.heap h'->cE X.prog X.w H h':=fun {a h'} ha hs b ob e=>by
  obtain ⟨_,_,fk⟩:=ha;refine (I.aj b ob e).dh (fun c w' hc q=>(hs.2 c ?_).trans q) (fun _ q=>q) fun _ _ q=>q
  rintro rfl
  rcases hc with rfl | hc
  .rw [fk] at e;cases e
  .rw [fk] at hc;cases hc
 rcases hx with hk | hk
 .refine wpAny_storeName_local hk hn (fun h' wZ hs=>?_) wc;obtain ⟨oL,_,_,hoL,_⟩:=id hn;refine h _ ⟨I.ok,I.os,I.bare,⟨fun b o e n hb hx=>?_,fun b o e n hb hx=>?_,I.base.free,fun b o e hx=>?_,I.base.cI,I.base.bV,I.base.ck⟩,⟨_,wZ,fun j y v' e1 e2 e3=>?_⟩,fun y c e=>?_,I.free,I.bg,fun p hp=>?_,tracked ⟨oL,hoL,I.free⟩ hs,by simpa using I.len⟩ ⟨_,hs,.inl rfl⟩
  .exact (hs.2 b (Yu (Yq (Yj e) I.ok.above))).trans (I.base.keep b o e n hb hx)
  .obtain ⟨sl,e1⟩:=I.base.slot b o e n hb hx;exact ⟨sl,(hs.2 b (Yu (Yq (Yj e) I.ok.above))).trans e1⟩
  .obtain ⟨o',e1⟩:=I.base.there b o e hx;exact ⟨o',(hs.2 b (Yu (Yq (Yj e) I.ok.above))).trans e1⟩
  .by_cases hj:j=i
   .subst hj;rw [hi] at e1;cases e1;rw [Ybm Bn] at e2
    cases e2
    exact ⟨u,r,.inl ⟨hk,by simp⟩⟩
   .rw [YbJ (WO hj)] at e2;obtain ⟨u',r',q⟩:=hl j y v' e1 e2 e3;refine ⟨u',r',?_⟩;rcases q with ⟨k,e⟩ | ⟨k,c,e,z⟩
    .refine .inl ⟨k,?_⟩
     have:y≠x:=fun e=>hj (G1 hN e1 (e ▸ hi))
     simp [this,e]
    .exact .inr ⟨k,c,e,z.sameBut hs (nV y c e)⟩
  .obtain ⟨w',z⟩:=I.cell y c e;exact ⟨w',z.sameBut hs (nV y c e)⟩
  .obtain ⟨e,n,ne,nf,d⟩:=I.pin p hp;exact ⟨(hs.2 p.1 ne).trans e,n,ne,nf,d⟩
 .have zf:X.fn x=true:=by
   rcases hf with z | z
   .exact z
   .rw [z] at hk;cases hk
  obtain ⟨c,hc⟩:=I.ok.has x (.inl hk);obtain ⟨w',z⟩:=I.cell x c hc;refine wpAny_storeName_cell I.ok.kind hk hc z (fun h' mB hs=>?_);obtain ⟨oc,y8,MG⟩:=id z;refine h {s with heap:=h'} ⟨I.ok,I.os,I.bare,⟨fun b o e n hb hx=>?_,fun b o e n hb hx=>?_,I.base.free,fun b o e hx=>?_,I.base.cI,I.base.bV,I.base.ck⟩,⟨m,hn.sameBut hs (WO (nV x c hc)),fun j y v' e1 e2 e3=>?_⟩,fun y c' e=>?_,I.free,I.bg,fun p hp=>?_,tracked ⟨oc,y8,I.bg x c hc⟩ hs,by simpa using I.len⟩ ⟨c,hs,.inr hc⟩
  .exact (hs.2 b (Yu (Yq (Yj e) (I.ok.pO x c zf hc)))).trans (I.base.keep b o e n hb hx)
  .obtain ⟨sl,e1⟩:=I.base.slot b o e n hb hx;exact ⟨sl,(hs.2 b (Yu (Yq (Yj e) (I.ok.pO x c zf hc)))).trans e1⟩
  .obtain ⟨o',e1⟩:=I.base.there b o e hx;exact ⟨o',(hs.2 b (Yu (Yq (Yj e) (I.ok.pO x c zf hc)))).trans e1⟩
  .by_cases hj:j=i
   .subst hj;rw [hi] at e1;cases e1;rw [Ybm Bn] at e2
    cases e2
    exact ⟨u,r,.inr ⟨.inl hk,c,hc,mB⟩⟩
   .rw [YbJ (WO hj)] at e2;obtain ⟨u',r',q⟩:=hl j y v' e1 e2 e3;refine ⟨u',r',?_⟩;rcases q with q | ⟨k,c',e,z'⟩
    .exact .inl q
    .refine .inr ⟨k,c',e,z'.sameBut hs ?_⟩
     rintro rfl
     exact hj (G1 hN e1 (I.ok.inj _ _ _ e hc ▸ hi))
  .by_cases Cq:c'=c
   .subst Cq;exact ⟨_,mB⟩
   .obtain ⟨w2,z2⟩:=I.cell y c' e;exact ⟨w2,z2.sameBut hs Cq⟩
  .obtain ⟨e,n,ne,nf,d⟩:=I.pin p hp;refine ⟨(hs.2 p.1 ?_).trans e,n,ne,nf,d⟩;intro q;rw [q,y8] at e;have q':oc=p.2:=YB e;exact d w' (by rw [<- q'];exact MG)
theorem Hj {M:Model} {A:Around} {E:Value->Shared->Prop} {i:Nat} {x:Str} {v:V} {u:Value} {Q:Unit->Shared->Prop} (I:Inv X pins σ H s) (hN:X.N.Nodup) (hi:X.N[i]?=some x) (hx:Loc X.env.scope x) (r:RelV v u)
  (h:∀ s',Inv X pins (σ.set i (some v)) H s'->Q () s') (hf:X.fn x=true∨X.env.scope.names.lookup x=some .local:=by first | exact .inl rfl | exact .inr rfl | assumption):wpAny M A (storeName X.env x u) Q E s:=
 Zo6 I hN hi hx r (fun s' I' _=>h s' I') hf
theorem Inv.tU {s':Shared} {ch:List Addr} (I:Inv X pins σ H s) (ho:s'.os=s.os) (u:Un (bM X.stack) ch H H' s.heap s'.heap) (aj:cE X.prog X.w H' s'.heap) (hg:AllBare s'.gens)
  (kF:∀ b∈ch,(b∈X.ex∨X.ar.heap.objs.size<=b)/\b≠X.env.locals/\(∀ x c,X.env.cells.lookup x=some c->c≠b)/\∀ p∈X.pn++pins,p.1≠b):Inv X pins σ H' s':=by
 obtain ⟨h',g',d',t',o'⟩:=s';have e:o'=s.os:=ho;subst e;exact I.call (g':=g') (t':=t') (d':=d') u aj hg kF
end
abbrev XK:=Value->Option Addr->Hp->Prop
abbrev St:=List (Option V)
abbrev VK:=V->Hp->Prop
abbrev TE:=St->Hp->VK->Prop
abbrev TT:=St->Hp->(Bool->Hp->Prop)->Prop
abbrev TA:=St->Hp->(List V->Hp->Prop)->Prop
structure Ends where
 nx:St->Hp->Prop
 rt:VK
 bk:St->Hp->Prop:=fun _ _=>False
 ct:St->Hp->Prop:=fun _ _=>False
abbrev TS:=Ends->St->Hp->Prop
def EP (X:Cx) (pins:List (Addr×Obj)) (σ:St) (Q:VK) (u:Value) (s':Shared):Prop:=∃ v H',Inv X pins σ H' s'/\RelV v u/\Q v H'
def TP (X:Cx) (pins:List (Addr×Obj)) (σ:St) (Q:Bool->Hp->Prop) (b:Bool) (s':Shared):Prop:=∃ H',Inv X pins σ H' s'/\Q b H'
def AP (X:Cx) (pins:List (Addr×Obj)) (σ:St) (Q:List V->Hp->Prop) (us:List Value) (s':Shared):Prop:=∃ vs H',Inv X pins σ H' s'/\Vals vs us/\Q vs H'
def SP (X:Cx) (pins:List (Addr×Obj)) (D:Ends) (f:Flow) (s':Shared):Prop:=
 match f with
 | .next=>∃ aB H',Inv X pins aB H' s'/\D.nx aB H'
 | .brk=>∃ aB H',Inv X pins aB H' s'/\D.bk aB H'
 | .cont=>∃ aB H',Inv X pins aB H' s'/\D.ct aB H'
 | .ret u=>∃ v aB H',Inv X pins aB H' s'/\RelV v u/\D.rt v H'
@[irreducible] def PE (X:Cx) (e:Expr) (t:TE):Prop:=
 ∀ (pins:List (Addr×Obj)) (s:Shared) (σ:St) (H:Hp) (Q:VK),Inv X pins σ H s->t σ H Q->wpAny (model X.prog X.w) X.A (eval e X.env) (EP X pins σ Q) X.xe s
def PT (X:Cx) (e:Expr) (t:TT):Prop:=
 ∀ (pins:List (Addr×Obj)) (s:Shared) (σ:St) (H:Hp) (Q:Bool->Hp->Prop),Inv X pins σ H s->t σ H Q->wpAny (model X.prog X.w) X.A (isTrue e X.env (eval e X.env)) (TP X pins σ Q) X.xe s
def PW (X:Cx) (e:Expr) (t:TT):Prop:=
 ∀ (whole:Sem Value) (pins:List (Addr×Obj)) (s:Shared) (σ:St) (H:Hp) (Q:Bool->Hp->Prop),Inv X pins σ H s->t σ H Q->wpAny (model X.prog X.w) X.A (isTrue e X.env whole) (TP X pins σ Q) X.xe s
theorem PW.pt {X:Cx} {e:Expr} {t:TT} (h:PW X e t):PT X e t:=h _
@[irreducible] def PA (X:Cx) (es:List Expr) (t:TA):Prop:=
 ∀ (pos:Pos) (pins:List (Addr×Obj)) (s:Shared) (σ:St) (H:Hp) (Q:List V->Hp->Prop),Inv X pins σ H s->t σ H Q->wpAny (model X.prog X.w) X.A (spliced (Wi pos (Yx es X.env))) (AP X pins σ Q) X.xe s
@[irreducible] def PS (X:Cx) (st:Stmt) (t:TS):Prop:=
 ∀ (pins:List (Addr×Obj)) (s:Shared) (σ:St) (H:Hp) (D:Ends),Inv X pins σ H s->t D σ H->wpAny (model X.prog X.w) X.A (exec st X.env) (SP X pins D) X.xe s
@[irreducible] def eO (X:Cx) (st:List Stmt) (t:TS):Prop:=
 ∀ (pins:List (Addr×Obj)) (s:Shared) (σ:St) (H:Hp) (D:Ends),Inv X pins σ H s->t D σ H->wpAny (model X.prog X.w) X.A (execs st X.env) (SP X pins D) X.xe s
theorem aH {α:Type} {t:Sem α} {Q Q':α->Shared->Prop} {M:Model} {A:Around} {E:Value->Shared->Prop} {s:Shared} (h:wpAny M A t Q E s) (hQ:∀ a s,Q a s->Q' a s):wpAny M A t Q' E s:=Xd h hQ fun _ _ x=>x
end L2
namespace L2
open PySem PySem.Spec PyProof.Rows
section
variable {X:Cx}
inductive aN (i:Nat) (σ:St) (H:Hp) (Q:VK):Prop
 | mk (v:_):σ[i]?=some (some v)->Q v H->aN i σ H Q
def tC (v:V):TE:=fun _ H Q=>Q v H
theorem Zv0 {i:Nat} {x:Str} {pos:Pos} (hN:X.N[i]?=some x) (hv:Ej X.env.scope x) (hd:(x == ("__debug__":Str))=false:=by decide) (g_:(x == ("__classdict__":Str))=false:=by decide):PE X (.Name x pos) (aN i):=by
 try unfold PE at *
 intro pins s σ H Q I h;obtain ⟨v,e,h⟩:=h;obtain ⟨m,hn,hl⟩:=I.loc;obtain ⟨u,r,l⟩:=hl i x v hN e hv;have fin:EP X pins σ Q u s:=⟨v,H,I,r,h⟩
 rcases l with ⟨hk,hm⟩ | ⟨hk,c,hc,tR⟩
 .exact wpAny_Name (wpAny_loadName_local I.ok.kind hk hn hm fin) hd
 .rcases hk with hk | hk
  .exact wpAny_Name (wpAny_loadName_cell I.ok.kind hk hc tR fin) hd
  .exact wpAny_Name (wpAny_loadName_free I.ok.kind hk hc tR fin g_) hd
theorem Zl {i j pos}:PE X (.Constant (.int i) j pos) (tC (.int i)):=by
 try unfold PE at *
 exact fun _ _ _ H _ I h=>wpAny_Constant_int ⟨.int i,H,I.tok _,⟨_,rfl⟩,h⟩
theorem pQ {b j pos}:PE X (.Constant (.bool b) j pos) (tC (.bl b)):=by
 try unfold PE at *
 exact fun _ _ _ H _ I h=>Constant_bool ⟨.bl b,H,I,rfl,h⟩
theorem Gq {j pos}:PE X (.Constant .none j pos) (tC .aK):=by
 try unfold PE at *
 exact fun _ _ _ H _ I h=>Constant_none ⟨.aK,H,I,rfl,h⟩
theorem Zr {x j pos}:PE X (.Constant (.str x) j pos) (tC (.str x)):=by
 try unfold PE at *
 exact fun _ _ _ H _ I h=>Calls.Constant_str ⟨.str x,H,I.tok _,⟨_,rfl⟩,h⟩
def Gl (X:Cx) (x:Str):Prop:=X.env.kindOf x=some .globalImplicit
theorem sL {E:Value->Shared->Prop} {pins:List (Addr×Obj)} {s:Shared} {σ:St} {H:Hp} {x:Str} {u:Value} {pos:Pos} {Q:Value->Shared->Prop} (I:Inv X pins σ H s) (hg:Gl X x) (hm:X.mg x=some u) (h:Q u s)
  (hd:(x == ("__debug__":Str))=false:=by decide):wpAny (model X.prog X.w) X.A (eval (.Name x pos) X.env) Q E s:=
 Calls.Name_function_global I.ok.kind hg (Calls.loadGlobal_global (by rw [I.ok.glob];exact I.mod.glob.keeps I.bk) hm h) hd
theorem u_ {E:Value->Shared->Prop} {pins:List (Addr×Obj)} {s:Shared} {σ:St} {H:Hp} {x:Str} {u:Value} {pos:Pos} {Q:Value->Shared->Prop} (I:Inv X pins σ H s) (hg:Gl X x) (hm:X.mg x=none) (hv:YaC x=some u) (h:Q u s)
  (hn:x≠"__name__":=by decide) (hd:(x == ("__debug__":Str))=false:=by decide):wpAny (model X.prog X.w) X.A (eval (.Name x pos) X.env) Q E s:=by
 obtain ⟨mb,h1,h2⟩:=I.mod.blt;exact Calls.Name_function_global I.ok.kind hg (Calls.loadGlobal_builtin (by rw [I.ok.glob];exact I.mod.glob.keeps I.bk) hm (by rw [I.ok.blt];exact h1.keeps I.bk) ((h2 x hn).trans hv) h) hd
theorem ZJ {x:Str} {v:V} {u:Value} {pos:Pos} (hg:Gl X x) (hm:X.mg x=some u) (r:RelV v u) (hd:(x == ("__debug__":Str))=false:=by decide):PE X (.Name x pos) (tC v):=by
 try unfold PE at *
 exact
  fun _ _ _ H _ I h=>sL I hg hm ⟨v,H,I,r,h⟩ hd
theorem GI {x:Str} {v:V} {u:Value} {pos:Pos} (hg:Gl X x) (hm:X.mg x=none) (hv:YaC x=some u) (r:RelV v u) (hn:x≠"__name__":=by decide) (hd:(x == ("__debug__":Str))=false:=by decide):PE X (.Name x pos) (tC v):=by
 try unfold PE at *
 exact
  fun _ _ _ H _ I h=>u_ I hg hm hv ⟨v,H,I,r,h⟩ hn hd
variable {a b:Expr} {ta tb:TE} {pos:Pos}
def PC (X:Cx) (op:CmpOp) (a b:Expr) (t:TE):Prop:=
 ∀ (pins:List (Addr×Obj)) (s:Shared) (σ:St) (H:Hp) (Q:VK),Inv X pins σ H s->t σ H Q->
  wpAny (model X.prog X.w) X.A (eval a X.env) (fun v aC=>wpAny (model X.prog X.w) X.A (eval b X.env) (fun u gq=>wpAny (model X.prog X.w) X.A (XS op v u) (EP X pins σ Q) X.xe gq) X.xe aC) X.xe s
theorem ZrB (b:Expr) {op:CmpOp} (h:op≠.In) (h2:op≠.NotIn):WG op b=false:=by
 have e1:(op == CmpOp.In)=false:=by cases op <;> first | rfl | exact absurd rfl h
 have e2:(op == CmpOp.NotIn)=false:=by cases op <;> first | rfl | exact absurd rfl h2
 cases b <;> simp [WG,e1,e2]
def L8 (ta:TE):TE:=fun σ H Q=>ta σ H fun x H1=>Q (.bl (decide (x=.aK))) H1
def ZyD (ta:TE):TE:=fun σ H Q=>ta σ H fun x H1=>Q (.bl (!decide (x=.aK))) H1
theorem RelV.km {x:V} {v:Value} (r:RelV x v):(v == Value.none)=decide (x=.aK):=by
 cases x with
 | aK=>cases r;rfl
 | bl _=>cases r;rfl
 | int _=>obtain ⟨t,rfl⟩:=r;rfl
 | str _=>obtain ⟨t,rfl⟩:=r;rfl
 | lN _=>obtain ⟨t,rfl⟩:=r;rfl
 | qA _=>obtain ⟨t,rfl⟩:=r;rfl
 | ref _=>cases r;rfl
 | ty _=>cases r;rfl
theorem Zv3 {j pos'} (ha:PE X a ta):PC X .Is a (.Constant .none j pos') (L8 ta):=by
 try unfold PE at *
 intro pins s σ H Q I h;refine aH (ha pins s σ H _ I h) fun v s1 ⟨x,H1,I1,r1,q1⟩=>?_;exact Constant_none (is_none_gen ⟨.bl _,H1,I1,by rw [r1.km];rfl,q1⟩)
theorem ZwE {j pos'} (ha:PE X a ta):PC X .IsNot a (.Constant .none j pos') (ZyD ta):=by
 try unfold PE at *
 intro pins s σ H Q I h;refine aH (ha pins s σ H _ I h) fun v s1 ⟨x,H1,I1,r1,q1⟩=>?_;exact Constant_none (isnot_none_gen ⟨.bl _,H1,I1,by rw [r1.km];rfl,q1⟩)
inductive F3  (x:V) (H1:Hp) (Q:Bool->Hp->Prop):Prop
 | mk (c:_):x=.bl c->Q c H1->F3 x H1 Q
def tB (t:TE):TT:=fun σ H Q=>t σ H fun x H1=>F3 x H1 Q
theorem Zv2 {op:CmpOp} {t:TE} (h:PC X op a b t) (h1:WG op b=false:=by first | exact ZrB _ (by decide) (by decide) | rfl):PE X (.Compare a [op] [b] pos) t:=by
 try unfold PE at *
 exact fun pins s σ H Q I hw=>wpAny_Compare1 (h pins s σ H Q I hw) h1
theorem i_ {op:CmpOp} {t:TE} (h:PC X op a b t) (h1:WG op b=false:=by first | exact ZrB _ (by decide) (by decide) | rfl):PT X (.Compare a [op] [b] pos) (tB t):=by
 try unfold PE at *;try unfold PA at *
 intro pins s σ H Q I hw;refine wpAny_isTrue_Compare1 (aH (h pins s σ H _ I hw) fun v s1 h1=>aH h1 fun u s2 h2=>aH h2 fun c s3 ⟨x,H1,I1,r1,q1⟩=>?_) h1;obtain ⟨d,rfl,q⟩:=q1
 cases r1
 exact WJ ⟨H1,I1,q⟩
theorem nZ {e:Expr} {t:TE} (h:PE X e t) (he:∀ whole,isTrue e X.env whole=(do let v <- whole;standAt e.pos;holding [v] (truthy v)):=by intro _;rfl):PT X e (tB t):=by
 try unfold PE at *
 intro pins s σ H Q I hw;refine isTrue_plain (aH (h pins s σ H _ I hw) fun v s1 ⟨x,H1,I1,r1,q1⟩=>?_) (he _);obtain ⟨d,rfl,q⟩:=q1
 cases r1
 exact WJ ⟨H1,I1,q⟩
variable {tA tB':TT} {rest:List Expr}
def tOr (t u:TT):TT:=fun σ H Q=>t σ H fun c H1=>if c=true then Q true H1 else u σ H1 Q
def LX (t:TT):TT:=fun σ H Q=>t σ H fun c H1=>Q (!c) H1
theorem sG (ha:PT X a tA):PW X (.BoolOp .Or [a] pos) tA:=by
 try unfold PE at *;try unfold PA at *
 intro wh pins s σ H Q I h;refine isTrue_or (aH (ha pins s σ H Q I h) fun c s1 e=>?_)
 cases c with
 | false=>exact isTrue_or_nil e
 | true=>exact e
theorem nW (ha:PT X a tA) (hb:PW X (.BoolOp .Or (b::rest) pos) tB'):PW X (.BoolOp .Or (a::b::rest) pos) (tOr tA tB'):=by
 try unfold PE at *;try unfold PA at *
 intro wh pins s σ H Q I h;refine isTrue_or (aH (ha pins s σ H _ I h) fun c s1 ⟨H1,I1,q1⟩=>?_)
 cases c with
 | true=>exact ⟨H1,I1,q1⟩
 | false=>exact hb wh pins s1 σ H1 Q I1 q1
theorem pV (ha:PT X a tA):PT X (.UnaryOp .Not a pos) (LX tA):=by
 try unfold PE at *;try unfold PA at *
 intro pins s σ H Q I h;exact isTrue_not (ha pins s σ H (fun c H1=>Q (!c) H1) I h)
def ZyI (ta tb:TE):TE:=fun σ H Q=>ta σ H fun x H1=>∃ c,x=.bl c/\if c=true then tb σ H1 Q else Q (.bl false) H1
def LW (ta tb:TE):TE:=fun σ H Q=>ta σ H fun x H1=>∃ c,x=.bl c/\if c=true then Q (.bl true) H1 else tb σ H1 Q
theorem CM {op} {t:TE} (h:PE X a t):PE X (.BoolOp op [a] pos) t:=by
 try unfold PE at *
 exact fun pins s σ H Q I hw=>BoolOp_one (h pins s σ H Q I hw)
theorem CK (ha:PE X a ta) (hb:PE X (.BoolOp .And (b::rest) pos) tb):PE X (.BoolOp .And (a::b::rest) pos) (ZyI ta tb):=by
 try unfold PE at *
 intro pins s σ H Q I h;refine BoolOp_and (aH (ha pins s σ H _ I h) fun v s1 ⟨x,H1,I1,r1,q1⟩=>?_);obtain ⟨c,rfl,q1⟩:=q1
 cases r1
 refine WJ ?_
 cases c with
 | true=>exact hb pins s1 σ H1 Q I1 q1
 | false=>exact ⟨.bl false,H1,I1,rfl,q1⟩
theorem ZyO (ha:PE X a ta) (hb:PE X (.BoolOp .Or (b::rest) pos) tb):PE X (.BoolOp .Or (a::b::rest) pos) (LW ta tb):=by
 try unfold PE at *
 intro pins s σ H Q I h;refine BoolOp_or (aH (ha pins s σ H _ I h) fun v s1 ⟨x,H1,I1,r1,q1⟩=>?_);obtain ⟨c,rfl,q1⟩:=q1
 cases r1
 refine WJ ?_
 cases c with
 | false=>exact hb pins s1 σ H1 Q I1 q1
 | true=>exact ⟨.bl true,H1,I1,rfl,q1⟩
def tIf (t:TT) (ta tb:TE):TE:=fun σ H Q=>t σ H fun c H1=>if c=true then ta σ H1 Q else tb σ H1 Q
theorem Zru {c:Expr} (hc:PT X c tA) (ha:PE X a ta) (hb:PE X b tb):PE X (.IfExp c a b pos) (tIf tA ta tb):=by
 try unfold PE at *
 intro pins s σ H Q I h;refine wpAny_IfExp (aH (hc pins s σ H _ I h) fun d s1 ⟨H1,I1,q1⟩=>?_)
 cases d with
 | true=>exact ha pins s1 σ H1 Q I1 q1
 | false=>exact hb pins s1 σ H1 Q I1 q1
end
end L2
namespace L2
open PySem PySem.Spec PyProof.Rows
def aq (K:Yf) (H:Hp) (a:Addr) (xs:List V):Prop:=
 Rd H a (.lst xs)∨
  ∃ (o:Obj) (its:Array Value) (n:Nat),K.lookup a=some o/\o.cls=.type "list"/\o.dict=none/\o.data=.seq its n/\its.size<=Ym/\Vals xs its.toList
def aF (K:Yf) (H:Hp) (a:Addr) (xs:List V):Prop:=
 Rd H a (.tup xs)∨
  ∃ (o:Obj) (its:Array Value) (n:Nat),K.lookup a=some o/\o.cls=.type "tuple"/\o.data=.seq its n/\its.size<=Ym/\Vals xs its.toList
def M_:Value->Option V
 | .none=>some .aK
 | .bool b=>some (.bl b)
 | .int i _=>some (.int i)
 | .str x _=>some (.str x)
 | .bytes b _=>some (.lN b)
 | .float b _=>some (.qA b)
 | .ref a=>some (.ref a)
 | .type n=>some (.ty n)
 | _=>none
theorem RelV.abs {x:V} {u:Value} (r:RelV x u):M_ u=some x:=by
 cases x with
 | aK=>cases r;rfl
 | bl _=>cases r;rfl
 | int _=>obtain ⟨t,rfl⟩:=r;rfl
 | str _=>obtain ⟨t,rfl⟩:=r;rfl
 | lN _=>obtain ⟨t,rfl⟩:=r;rfl
 | qA _=>obtain ⟨t,rfl⟩:=r;rfl
 | ref _=>cases r;rfl
 | ty _=>cases r;rfl
theorem RelV.inj {x y:V} {u:Value} (r:RelV x u) (q:RelV y u):x=y:=YB (r.abs.symm.trans q.abs)
theorem Vals.inj:∀ {xs ys:List V} {us:List Value},Vals xs us->Vals ys us->xs=ys
 | _,_,_,.nil,.nil=>rfl
 | _,_,_,.cons r t,.cons r' t'=>by rw [r.inj r',Vals.inj t t']
section
variable {X:Cx} {pins:List (Addr×Obj)} {σ:St} {H:Hp} {s:Shared} {a:Addr} {xs ys:List V}
theorem aq.of {K:Yf} (h:H a=some (.lst xs)):aq K H a xs:=.inl (.inl h)
theorem aF.of {K:Yf} (h:H a=some (.tup xs)):aF K H a xs:=.inl (.inl h)
theorem Inv.list (I:Inv X pins σ H s) (h:aq X.K H a xs):∃ its:List Value,Vals xs its/\PlainL s.heap a its.toArray/\xs.length<=Ym:=by
 rcases h with h | ⟨o,its,n,hk,hc,hd,hs,hz,r⟩
 .obtain ⟨z,its,n,r,e⟩:=h.ok I.aj;exact ⟨its,r,⟨_,n,e,rfl,rfl,rfl⟩,z⟩
 .refine ⟨its.toList,r,⟨o,n,I.cg a o hk,hc,hd,by simpa using hs⟩,?_⟩;have e:=r.length
  simp only [YH] at e
  omega
theorem Inv.tuple (I:Inv X pins σ H s) (h:aF X.K H a xs):∃ its:List Value,Vals xs its/\IsTup s.heap a its.toArray/\xs.length<=Ym:=by
 rcases h with h | ⟨o,its,n,hk,hc,hs,hz,r⟩
 .obtain ⟨z,its,r,p⟩:=h.ok I.aj;exact ⟨its,r,p,z⟩
 .refine ⟨its.toList,r,⟨o,I.cg a o hk,hc,n,by simpa using hs⟩,?_⟩;have e:=r.length
  simp only [YH] at e
  omega
theorem Inv.kn (I:Inv X pins σ H s) (h:aq X.K H a xs) (h':aq X.K H a ys):xs=ys:=by
 obtain ⟨its,r,⟨o,n,e,_,_,d⟩,_⟩:=I.list h;obtain ⟨its',r',⟨o',n',e',_,_,d'⟩,_⟩:=I.list h';rw [e] at e';cases e';rw [d] at d';injection d' with d1 _
 have:its=its':=by simpa using congrArg Array.toList d1
 subst this;exact r.inj r'
theorem Inv.eR (I:Inv X pins σ H s) (h:aF X.K H a xs) (h':aF X.K H a ys):xs=ys:=by
 obtain ⟨its,r,⟨o,e,_,n,d⟩,_⟩:=I.tuple h;obtain ⟨its',r',⟨o',e',_,n',d'⟩,_⟩:=I.tuple h';rw [e] at e';cases e';rw [d] at d';injection d' with d1 _
 have:its=its':=by simpa using congrArg Array.toList d1
 subst this;exact r.inj r'
end
abbrev Cx.fL (X:Cx) (E:Value->Shared->Prop):Cx:={X with xe:=E}
abbrev Cx.nG (X:Cx):Cx:=X.fL fun _ _=>False
theorem Cx.Ok.fL {X:Cx} (ok:X.Ok) (E:Value->Shared->Prop):(X.fL E).Ok:=
 ⟨ok.mod,ok.kind,ok.glob,ok.blt,ok.above,ok.inj,ok.has,ok.pO,ok.hd,ok.frames,ok.rH,ok.xk,ok.bs,ok.kR,ok.je,ok.ia,ok.bJ,ok.mC⟩
theorem Cx.Ok.cp {X:Cx} {E:Value->Shared->Prop} (ok:(X.fL E).Ok):X.Ok:=
 ⟨ok.mod,ok.kind,ok.glob,ok.blt,ok.above,ok.inj,ok.has,ok.pO,ok.hd,ok.frames,ok.rH,ok.xk,ok.bs,ok.kR,ok.je,ok.ia,ok.bJ,ok.mC⟩
section
variable {X:Cx} {pins:List (Addr×Obj)} {σ:St} {H:Hp} {s:Shared} {E:Value->Shared->Prop}
theorem Inv.fL (I:Inv X pins σ H s) (E:Value->Shared->Prop):Inv (X.fL E) pins σ H s:=⟨I.ok.fL E,I.os,I.bare,I.base,I.loc,I.cell,I.free,I.bg,I.pin,I.aj,I.len⟩
theorem Inv.cp (I:Inv (X.fL E) pins σ H s):Inv X pins σ H s:=⟨I.ok.cp,I.os,I.bare,I.base,I.loc,I.cell,I.free,I.bg,I.pin,I.aj,I.len⟩
theorem SP.cp {D:Ends} {f:Flow} {s':Shared} (h:SP (X.fL E) pins D f s'):SP X pins D f s':=by
 cases f with
 | next=>obtain ⟨aB,H',I,q⟩:=h;exact ⟨aB,H',I.cp,q⟩
 | brk=>obtain ⟨aB,H',I,q⟩:=h;exact ⟨aB,H',I.cp,q⟩
 | cont=>obtain ⟨aB,H',I,q⟩:=h;exact ⟨aB,H',I.cp,q⟩
 | ret u=>obtain ⟨v,aB,H',I,r,q⟩:=h;exact ⟨v,aB,H',I.cp,r,q⟩
theorem eO.nG {st:List Stmt} {t:TS} (h:eO X.nG st t):eO X st t:=by
 try unfold eO at *
 exact fun pins s σ H D I hw=>
  Xd (h pins s σ H D (I.fL _) hw) (fun _ _ q=>q.cp) fun _ _ z=>Xa z
end
section
variable {X:Cx} {st:Stmt} {rest:List Stmt} {t u:TS} {e:Expr} {te:TE} {pos:Pos}
def sr:TS:=fun D σ H=>D.nx σ H
def jU (t u:TS):TS:=fun D σ H=>t {D with nx:=u D} σ H
theorem Zx:eO X [] sr:=by
 try unfold eO at *
 exact fun _ _ σ H _ I h=>Ybq ⟨σ,H,I,h⟩
theorem Zd (h1:PS X st t) (h2:eO X rest u):eO X (st::rest) (jU t u):=by
 try unfold PS at *;try unfold eO at *
 intro pins s σ H D I h;refine wpAny_execs_cons (aH (h1 pins s σ H {D with nx:=u D} I h) fun f s1 q=>?_)
 cases f with
 | next=>
  obtain ⟨aB,H',I',q⟩:=q;exact h2 pins s1 aB H' D I' q
 | ret v=>exact q
 | brk=>exact q
 | cont=>exact q
theorem Zh (h1:PS X st t):eO X [st] t:=by
 try unfold PS at *;try unfold eO at *
 intro pins s σ H D I h;refine wpAny_execs_cons (aH (h1 pins s σ H D I h) fun f s1 q=>?_)
 cases f with
 | next=>exact Ybq q
 | ret v=>exact q
 | brk=>exact q
 | cont=>exact q
theorem Inv.quiet {pins:List (Addr×Obj)} {σ:St} {H:Hp} {s:Shared} (I:Inv X pins σ H s):interactive X.env=false:=by simp [interactive,I.ok.kind]
def ZyF (te:TE):TS:=fun D σ H=>te σ H fun _ H1=>D.nx σ H1
theorem ZC (he:PE X e te) (hs:swapsWith e none pos.line X.env=pure false:=by rfl):PS X (.Expr e pos) (ZyF te):=by
 try unfold PE at *;try unfold PS at *
 intro pins s σ H D I h;exact wpAny_Expr_any (aH (he pins s σ H _ I h) fun v s1 ⟨x,H1,I1,r1,q1⟩=>⟨σ,H1,I1,q1⟩) I.quiet hs
def hZ (te:TE):TS:=fun D σ H=>te σ H D.rt
theorem Zt (he:PE X e te):PS X (.Return (some e) pos) (hZ te):=by
 try unfold PE at *;try unfold PS at *
 intro pins s σ H D I h;exact wpAny_Return_some (aH (he pins s σ H _ I h) fun v s1 ⟨x,H1,I1,r1,q1⟩=>⟨x,σ,H1,I1,r1,q1⟩)
def jV (c:TT) (t u:TS):TS:=fun D σ H=>c σ H fun b H1=>if b=true then t D σ H1 else u D σ H1
theorem Z0 {c:Expr} {a b:List Stmt} {tc:TT} (hc:PT X c tc) (ha:eO X a t) (hb:eO X b u):PS X (.If c a b pos) (jV tc t u):=by
 try unfold PS at *;try unfold eO at *
 intro pins s σ H D I h;refine wpAny_If (aH (hc pins s σ H _ I h) fun d s1 ⟨H1,I1,q1⟩=>?_)
 cases d with
 | true=>exact ha pins s1 σ H1 D I1 q1
 | false=>exact hb pins s1 σ H1 D I1 q1
end
abbrev TG:=V->St->Hp->(St->Hp->Prop)->Prop
abbrev vE:=List V->St->Hp->(St->Hp->Prop)->Prop
def PG (X:Cx) (target:Expr) (t:TG):Prop:=
 ∀ (pins:List (Addr×Obj)) (s:Shared) (σ:St) (H:Hp) (v:V) (u:Value) (Q:St->Hp->Prop),Inv X pins σ H s->RelV v u->t v σ H Q->
  wpAny (model X.prog X.w) X.A (assign target X.env u) (fun _ s'=>∃ aB H',Inv X pins aB H' s'/\Q aB H') X.xe s
def El (X:Cx) (ts:List Expr) (t:vE):Prop:=
 ∀ (pins:List (Addr×Obj)) (s:Shared) (σ:St) (H:Hp) (vs:List V) (us:List Value) (Q:St->Hp->Prop),Inv X pins σ H s->Vals vs us->t vs σ H Q->
  wpAny (model X.prog X.w) X.A (assignInOrder ((assignEach ts X.env).map (·.2)) us) (fun _ s'=>∃ aB H',Inv X pins aB H' s'/\Q aB H') X.xe s
abbrev wo:=V->V->V->Hp->(Hp->Prop)->Prop
def BB (X:Cx) (t:wo):Prop:=
 ∀ (pins:List (Addr×Obj)) (s:Shared) (σ:St) (H:Hp) (o i v:V) (ov iv u:Value) (Q:Hp->Prop),Inv X pins σ H s->RelV o ov->RelV i iv->RelV v u->t o i v H Q->
  wpAny (model X.prog X.w) X.A (setItem ov iv u) (fun _ s'=>∃ H',Inv X pins σ H' s'/\Q H') X.xe s
section
variable {X:Cx} {pos:Pos}
def xq (i:Nat):TG:=fun v σ H Q=>Q (σ.set i (some v)) H
theorem Z9 {i:Nat} {x:Str} (hN:X.N.Nodup) (hi:X.N[i]?=some x) (hx:Loc X.env.scope x) (hf:X.fn x=true∨X.env.scope.names.lookup x=some .local:=by first | exact .inl rfl | exact .inr rfl | assumption):PG X (.Name x pos) (xq i):=by
 intro pins s σ H v u Q I r h;exact wpAny_assign_Name (Hj I hN hi hx r (fun s' I'=>⟨_,H,I',h⟩) hf)
def M0:vE:=fun vs σ H Q=>vs=[]/\Q σ H
def ZyY (t:TG) (u:vE):vE:=fun vs σ H Q=>∃ v r,vs=v::r/\t v σ H fun aB H'=>u r aB H' Q
theorem zR:El X [] M0:=by
 intro pins s σ H vs us Q I r h;obtain ⟨e,h⟩:=h;subst e
 cases r
 exact assignInOrder_nil ⟨σ,H,I,h⟩
theorem qa {e:Expr} {es:List Expr} {t:TG} {u:vE} (h1:PG X e t) (h2:El X es u)
  (hs:(assignEach (e::es) X.env).map (·.2)=assign e X.env::(assignEach es X.env).map (·.2):=by rfl):El X (e::es) (ZyY t u):=by
 try unfold PE at *;try unfold PA at *
 intro pins s σ H vs us Q I r h;obtain ⟨v,vr,e1,h⟩:=h;subst e1
 cases r with
 | cons r rr=>
  rw [hs];refine assignInOrder_cons (aH (h1 pins s σ H _ _ _ I r h) fun _ s1 ⟨σ1,H1,I1,q1⟩=>?_);exact h2 pins s1 σ1 H1 _ _ Q I1 rr q1
def MY (K:Yf) (n:Nat) (t:vE):TG:=fun v σ H Q=>∃ a xs,v=.ref a/\aF K H a xs/\xs.length=n/\t xs σ H Q
theorem zK {es:List Expr} {k:Nat} {t:vE} {n:Nat} (hc:X.calm=true) (h:El X es t)
  (hn:(assignEach es X.env).length=n:=by rfl) (cP:(assignEach es X.env).findIdx? (·.1)=none:=by rfl):PG X (.Tuple es k pos) (MY X.K n t):=by
 intro pins s σ H v u Q I r hw;obtain ⟨a,xs,e1,hq,hl,hw⟩:=hw;subst e1
 cases r
 obtain ⟨its,rv,ht,hz⟩:=I.tuple hq;refine assign_Tuple_tuple (I.ok.hd hc) ht (by simp [hn,<- hl,rv.length]) cP fun h' hx=>?_;have I1:Inv X pins σ H {s with heap:=h'}:=I.kept (t':=s.toks) fun b o e=>hx b o (Yu (Yj e)) e;exact h pins _ σ H xs _ Q I1 (by simpa using rv) hw
def MZ (to ti:TE) (t:wo):TG:=fun v σ H Q=>to σ H fun o H1=>ti σ H1 fun i H2=>t o i v H2 fun H3=>Q σ H3
theorem ZxJ {o i:Expr} {to ti:TE} {t:wo} (ho:PE X o to) (hi:PE X i ti) (hs:BB X t)
  (ha:∀ v,assign (.Subscript o i pos) X.env v=(do
   let ov <- holding [v] (eval o X.env)
   let iv <- holding [v,ov] (eval i X.env)
   standAt pos
   holding [v,ov,iv] (setItem ov iv v)
   release [v,ov,iv] []):=by intro _;rfl):PG X (.Subscript o i pos) (MZ to ti t):=by
 try unfold PE at *
 intro pins s σ H v u Q I r h;rw [ha];refine Ya (Y6 (aH (ho pins s σ H _ I h) fun ov s1 ⟨x,H1,I1,r1,q1⟩=>?_));refine Ya (Y6 (aH (hi pins s1 σ H1 _ I1 q1) fun iv s2 ⟨y,H2,I2,r2,q2⟩=>?_));refine Ya (wpAny_standAt (Ya (Y6 (aH (hs pins s2 σ H2 x y v ov iv u _ I2 r1 r2 r q2) fun _ s3 ⟨H3,I3,q3⟩=>?_))));exact wpAny_release ⟨σ,H3,I3,q3⟩
def qX (te:TE) (g:TG):TS:=fun D σ H=>te σ H fun x H1=>g x σ H1 D.nx
theorem ZxH {tg e:Expr} {te:TE} {g:TG} (he:PE X e te) (hg:PG X tg g) (hs:swapsWithSole [tg] e pos.line X.env=pure false:=by rfl) (hw:swappedStores [tg] e X.env=pure none:=by rfl)
  (h1:(assignEach [tg] X.env).map (·.2)=[assign tg X.env]:=by rfl):PS X (.Assign [tg] e pos) (qX te g):=by
 try unfold PE at *;try unfold PS at *
 intro pins s σ H D I h;refine wpAny_Assign_stores (aH (he pins s σ H _ I h) fun v s1 ⟨x,H1,I1,r1,q1⟩=>?_) hs hw;rw [h1];exact aH (hg pins s1 σ H1 x v _ I1 r1 q1) fun _ s2 q=>q
theorem Zz {i:Nat} {x:Str} {e:Expr} {te:TE} {pos':Pos} (hN:X.N.Nodup) (hi:X.N[i]?=some x) (hx:Loc X.env.scope x) (he:PE X e te) (hs:swapsWith e (some (.Name x pos')) pos.line X.env=pure false:=by rfl) (hf:X.fn x=true∨X.env.scope.names.lookup x=some .local:=by first | exact .inl rfl | exact .inr rfl | assumption) :
  PS X (.Assign [.Name x pos'] e pos) (qX te (xq i)):=by
 try unfold PE at *;try unfold PS at *
 intro pins s σ H D I h;refine wpAny_Assign_Name (aH (he pins s σ H _ I h) fun v s1 ⟨y,H1,I1,r1,q1⟩=>?_) hs;exact Hj I1 hN hi hx r1 (fun s2 I2=>⟨_,H1,I2,q1⟩) hf
end
section
variable {X:Cx} {pos:Pos}
end
structure It where
 go:Nat->Hp->Prop
 mn:Nat->Hp->V->Hp->Prop
 stop:Nat->Hp->Prop
def eQ (X:Cx) (pins:List (Addr×Obj)) (H:Hp) (b:Addr):Prop:=
 H b=none/\b≠X.env.locals/\b ∉ X.fs/\(b∈X.ex∨X.ar.heap.objs.size<=b)/\(∀ x c,X.env.cells.lookup x=some c->c≠b)/\∀ p∈X.pn++pins,p.1≠b
theorem Inv.jf {X:Cx} {pins:List (Addr×Obj)} {σ:St} {H H':Hp} {s:Shared} {b:Addr} (I:Inv X pins σ H s) (hb:s.heap.objs.size<=b) (hn:H' b=none):eQ X pins H' b:=by
 refine ⟨hn,WB (Yq I.lt hb),I.Mi hb,.inr (Yk I.sz hb),fun x c e z=>?_,fun p hp z=>?_⟩
 .obtain ⟨v,q⟩:=I.cell x c e;exact absurd (Yq q.lt (by rw [z];exact hb)) (YN _)
 .exact absurd (Yq (Yj (I.pin p hp).1) (by rw [z];exact hb)) (YN _)
structure Turn (P:Program) (w:World) (K:Yf) (tg:Expr) (J:It) (fp:List Addr) (it:Addr) (tn:Nat->Heap->Prop):Prop where
 mem:it∈fp
 obj:∀ i h,tn i h->∀ b∈fp,∃ o,h.get? b=some o/\∀ v,o.data≠.cell v
 keep:∀ i h h',tn i h->(∀ b∈fp,∀ o,h.get? b=some o->h'.get? b=some o)->tn i h'
 item:∀ (X:Cx),X.prog=P->X.w=w->X.K=K->X.calm=true->∀ (i:Nat) (pins:List (Addr×Obj)) (s:Shared) (σ:St) (H:Hp) (E:Value->Shared->Prop),Inv X pins σ H s->(∀ b∈fp,eQ X pins H b)->tn i s.heap->J.go i H->
  wpAny (model P w) X.A (W8 (.ref it)) (fun r s1=>∃ u,r=some u/\
   wpAny (model P w) X.A (Yax tg (.ref it) u) (fun _ s2=>∃ x H',Inv X pins σ H' s2/\RelV x u/\J.mn i H x H'/\tn (i + 1) s2.heap/\∀ b∈fp,H' b=none) E s1) E s
 done:∀ (X:Cx),X.prog=P->X.w=w->X.K=K->X.calm=true->∀ (i:Nat) (pins:List (Addr×Obj)) (s:Shared) (σ:St) (H:Hp) (E:Value->Shared->Prop),Inv X pins σ H s->(∀ b∈fp,eQ X pins H b)->tn i s.heap->J.stop i H->
  wpAny (model P w) X.A (W8 (.ref it)) (fun r s1=>r=none/\Inv X pins σ H s1) E s
 self:∀ (A:Around) (i:Nat) (s:Shared) (Q:Value->Shared->Prop) (E:Value->Shared->Prop),tn i s.heap->Q (.ref it) s->wpAny (model P w) A (pyIter (.ref it)) Q E s
abbrev TI:=St->Hp->(It->Hp->Prop)->Prop
def LK (X:Cx) (pins:List (Addr×Obj)) (σ:St) (tg:Expr) (R:It->Hp->Prop) (Cb:Value) (s2:Shared):Prop:=
 ∃ (it:Addr) (fp:List Addr) (tn:Nat->Heap->Prop) (J:It) (H':Hp),Cb=.ref it/\Inv X pins σ H' s2/\Turn X.prog X.w X.K tg J fp it tn/\tn 0 s2.heap/\(∀ b∈fp,eQ X pins H' b)/\R J H'
def PI (X:Cx) (tg iter:Expr) (wi:TI):Prop:=
 ∀ (pins:List (Addr×Obj)) (s:Shared) (σ:St) (H:Hp) (R:It->Hp->Prop),Inv X pins σ H s->wi σ H R->
  wpAny (model X.prog X.w) X.A (eval iter X.env) (fun v s1=>wpAny (model X.prog X.w) X.A (pyIter v) (LK X pins σ tg R) X.xe s1) X.xe s
theorem CB {M:Model} {A:Around} {E:Value->Shared->Prop} {s:Shared} {tg:Expr} {it:Addr} {u:Value} {o:Obj} {n:String} {vs:Array Value} {Q:Unit->Shared->Prop} (ho:s.heap.get? it=some o) (hc:o.cls=.type n) (hd:o.data=.fields vs)
    (hn:["enumerate","zip","dict_itemiterator","dict_reverseitemiterator","odict_iterator","itertools.zip_longest","itertools.pairwise"].contains n=false) (hQ:Q () s):wpAny M A (Yax tg (.ref it) u) Q E s:=by
  unfold Yax
  cases tg <;> first
    | exact Yd hQ
    | (cases u <;> first
        | exact Yd hQ
        | (refine Ya (wpAny_load ho ?_)
           rw [hc,hd];show wpAny M A (if (["enumerate","zip","dict_itemiterator","dict_reverseitemiterator","odict_iterator","itertools.zip_longest","itertools.pairwise"].contains n && vs[0]? == some (X7 _))=true then _ else _) Q E s;rw [if_neg (by intro h;rw [hn,Bool.false_and] at h;cases h)];exact Yd hQ))
def vG (K:Yf) (a:Addr):It:=
 ⟨fun i H=>∃ xs x,aq K H a xs/\xs[i]?=some x,fun i H x H'=>H'=H/\∀ xs,aq K H a xs->xs[i]?=some x,fun i H=>∃ xs,aq K H a xs/\xs.length<=i⟩
def AE (K:Yf) (a:Addr):It:=
 ⟨fun i H=>∃ xs x,aF K H a xs/\xs[i]?=some x,fun i H x H'=>H'=H/\∀ xs,aF K H a xs->xs[i]?=some x,fun i H=>∃ xs,aF K H a xs/\xs.length<=i⟩
def ox (lo:Int) (n:Nat):It:=⟨fun i _=>i < n,fun i H x H'=>H'=H/\x=.int (lo + i),fun i _=>n<=i⟩
theorem Ztb {P:Program} {w:World} {K:Yf} {tg:Expr} (a it:Addr):Turn P w K tg (vG K a) [it] it (fun i h=>h.IsListIter it a i) where
 mem:=by simp
 obj:=fun i h st b hb=>by
  have e:b=it:=by simpa using hb
  subst e;obtain ⟨o,e,c,d⟩:=st;exact ⟨o,e,fun v z=>by rw [d] at z;cases z⟩
 keep:=fun i h h' st k=>st.at fun o e=>k it (by simp) o e
 item:=by
  intro X hP hw hK hc i pins s σ H E I hf st hg;subst hP hw hK;obtain ⟨xs,x,hq,hx⟩:=hg;obtain ⟨its,rv,p,hz⟩:=I.list hq;obtain ⟨u,hu,ru⟩:=rv.get hx;obtain ⟨f0,f1,f2,f3,f4,f5⟩:=hf it (by simp);refine wpAny_pyNext_list_item st p.isList (x:=u) (by simpa using hu) fun h' fP sb=>?_;have I1:Inv X pins σ H {s with heap:=h'}:=I.turned (t':=s.toks) (fun b o hb e=>(sb.2 b hb).trans e) f0 f1 f3 f4 f5;obtain ⟨o,e,c,d⟩:=id fP;exact ⟨u,rfl,CB (s:={s with heap:=h'}) e c d (by decide) ⟨x,H,I1,ru,⟨rfl,fun ys hy=>by rw [I.kn hy hq];exact hx⟩,fP,fun b hb=>(hf b hb).1⟩⟩
 done:=by
  intro X hP hw hK hc i pins s σ H E I hf st hg;subst hP hw hK;obtain ⟨xs,hq,hx⟩:=hg;obtain ⟨its,rv,p,hz⟩:=I.list hq;obtain ⟨f0,f1,f2,f3,f4,f5⟩:=hf it (by simp);have hl:=rv.length;exact wpAny_pyNext_list_end (I.ok.hd hc) st p.isList (by simp;omega) fun h' eb=>⟨rfl,I.turned (t':=s.toks) (fun b o hb e=>eb b o hb e) f0 f1 f3 f4 f5⟩
 self:=fun _ _ _ _ _ st h=>wpAny_pyIter_listiter st h
theorem Zsc {P:Program} {w:World} {K:Yf} {tg:Expr} (a it:Addr):Turn P w K tg (AE K a) [it] it (fun i h=>h.IsTupleIter it a i) where
 mem:=by simp
 obj:=fun i h st b hb=>by
  have e:b=it:=by simpa using hb
  subst e;obtain ⟨o,e,c,d⟩:=st;exact ⟨o,e,fun v z=>by rw [d] at z;cases z⟩
 keep:=fun i h h' st k=>st.at fun o e=>k it (by simp) o e
 item:=by
  intro X hP hw hK hc i pins s σ H E I hf st hg;subst hP hw hK;obtain ⟨xs,x,hq,hx⟩:=hg;obtain ⟨its,rv,p,hz⟩:=I.tuple hq;obtain ⟨u,hu,ru⟩:=rv.get hx;obtain ⟨f0,f1,f2,f3,f4,f5⟩:=hf it (by simp);refine wpAny_pyNext_tuple_item st (show s.heap.IsTuple a its.toArray from p) (x:=u) (by simpa using hu) fun h' fP sb=>?_;have I1:Inv X pins σ H {s with heap:=h'}:=I.turned (t':=s.toks) (fun b o hb e=>(sb.2 b hb).trans e) f0 f1 f3 f4 f5;obtain ⟨o,e,c,d⟩:=id fP;exact ⟨u,rfl,CB (s:={s with heap:=h'}) e c d (by decide) ⟨x,H,I1,ru,⟨rfl,fun ys hy=>by rw [I.eR hy hq];exact hx⟩,fP,fun b hb=>(hf b hb).1⟩⟩
 done:=by
  intro X hP hw hK hc i pins s σ H E I hf st hg;subst hP hw hK;obtain ⟨xs,hq,hx⟩:=hg;obtain ⟨its,rv,p,hz⟩:=I.tuple hq;obtain ⟨f0,f1,f2,f3,f4,f5⟩:=hf it (by simp);have hl:=rv.length;exact wpAny_pyNext_tuple_end (I.ok.hd hc) st (show s.heap.IsTuple a its.toArray from p) (by simp;omega) fun h' eb=>⟨rfl,I.turned (t':=s.toks) (fun b o hb e=>eb b o hb e) f0 f1 f3 f4 f5⟩
 self:=fun _ _ _ _ _ st h=>wpAny_pyIter_tupleiter st h
theorem Zsd {P:Program} {w:World} {K:Yf} {tg:Expr} (it:Addr) (lo:Int) (n:Nat):Turn P w K tg (ox lo n) [it] it (fun i h=>IsRangeIter h it (lo + (i:Nat) * 1) ((n:Int) - (i:Nat)) 1) where
 mem:=by simp
 obj:=fun i h st b hb=>by
  have e:b=it:=by simpa using hb
  subst e
  exact ⟨_,st,fun v z=>by
   have z':Data.fields _=Data.cell v:=z
   cases z'⟩
 keep:=fun i h h' st k=>k it (by simp) _ st
 item:=by
  intro X hP hw hK hc i pins s σ H E I hf st hg;subst hP hw hK;obtain ⟨f0,f1,f2,f3,f4,f5⟩:=hf it (by simp);have W:=Walks.range (prog:=X.prog) (w:=X.w) (I.ok.hd hc) it lo 1 n;refine W.item i s _ _ hg st fun v h' tk hv fP kk=>?_;obtain ⟨t,rfl⟩:=hv;have I1:Inv X pins σ H {s with heap:=h',toks:=tk}:=I.turned (fun b o hb e=>kk b o (by simpa using hb) e) f0 f1 f3 f4 f5;refine ⟨_,rfl,CB (s:={s with heap:=h',toks:=tk}) (n:="range_iterator") fP rfl rfl (by decide) ⟨.int (lo + i),H,I1,⟨t,?_⟩,⟨rfl,rfl⟩,fP,fun b hb=>(hf b hb).1⟩⟩;rw [Int.mul_one]
 done:=by
  intro X hP hw hK hc i pins s σ H E I hf st hg;subst hP hw hK;obtain ⟨f0,f1,f2,f3,f4,f5⟩:=hf it (by simp);exact wpAny_pyNext_range_end (I.ok.hd hc) st (by have:n<=i:=hg;omega) fun h' eb=>⟨rfl,I.turned (t':=s.toks) (fun b o hb e=>eb b o hb e) f0 f1 f3 f4 f5⟩
 self:=fun _ _ _ _ _ st h=>wpAny_pyIter_rangeiter st h
end L2
namespace L2
open PySem PySem.Spec PyProof.Rows
section
variable {X:Cx} {tg:Expr}
inductive tW (K:Yf) (x:V) (H1:Hp) (R:It->Hp->Prop):Prop
 | mk (a:_):x=.ref a->(∃ xs,aq K H1 a xs)->R (vG K a) H1->tW K x H1 R
def ZyW (K:Yf) (tl:TE):TI:=fun σ H R=>tl σ H fun x H1=>tW K x H1 R
inductive Bx (K:Yf) (x:V) (H1:Hp) (R:It->Hp->Prop):Prop
 | mk (a:_):x=.ref a->(∃ xs,aF K H1 a xs)->R (AE K a) H1->Bx K x H1 R
def Ms (K:Yf) (tl:TE):TI:=fun σ H R=>tl σ H fun x H1=>Bx K x H1 R
theorem sN {l:Expr} {tl:TE} (hl:PE X l tl):PI X tg l (ZyW X.K tl):=by
 try unfold PE at *
 intro pins s σ H R I h;refine aH (hl pins s σ H _ I h) fun v s1 ⟨x,H1,I1,r1,q1⟩=>?_;obtain ⟨a,e,⟨xs,hq⟩,q⟩:=q1;subst e
 cases r1
 obtain ⟨its,rv,p,hz⟩:=I1.list hq;refine wpAny_pyIter_list p.isList ?_;refine ⟨s1.heap.objs.size,[s1.heap.objs.size],_,_,H1,rfl,I1.kept (t':=s1.toks) fun b o e=>Yc _ e,Ztb a _,⟨_,Yi _ rfl,rfl,rfl⟩,fun b hb=>?_,q⟩;have e:b=s1.heap.objs.size:=by simpa using hb
 subst e;exact I1.jf (Ye _) (I1.aj.fresh (Ye _))
theorem ZvY {l:Expr} {tl:TE} (hl:PE X l tl):PI X tg l (Ms X.K tl):=by
 try unfold PE at *
 intro pins s σ H R I h;refine aH (hl pins s σ H _ I h) fun v s1 ⟨x,H1,I1,r1,q1⟩=>?_;obtain ⟨a,e,⟨xs,hq⟩,q⟩:=q1;subst e
 cases r1
 obtain ⟨its,rv,p,hz⟩:=I1.tuple hq;refine YaE (show s1.heap.IsTuple a its.toArray from p) ?_;refine ⟨s1.heap.objs.size,[s1.heap.objs.size],_,_,H1,rfl,I1.kept (t':=s1.toks) fun b o e=>Yc _ e,Zsc a _,⟨_,Yi _ rfl,rfl,rfl⟩,fun b hb=>?_,q⟩;have e:b=s1.heap.objs.size:=by simpa using hb
 subst e;exact I1.jf (Ye _) (I1.aj.fresh (Ye _))
theorem Zrp {pins:List (Addr×Obj)} {σ:St} {H:Hp} {s:Shared} {R:It->Hp->Prop} {E:Value->Shared->Prop} {lo hi:Int} {t u v:Tok} {tk:Nat} (I:Inv X pins σ H s) (h1:-(2 ^ 62)<=lo) (h2:lo < 2 ^ 62) (h3:-(2 ^ 62)<=hi) (h4:hi < 2 ^ 62)
  (q:R (ox lo (hi - lo).toNat) H):wpAny (model X.prog X.w) X.A (pyIter (.ref s.heap.objs.size)) (LK X pins σ tg R) E {s with heap:=s.heap.push {cls:=.type "range",data:=.fields #[.int lo t,.int hi u,.int 1 v]},toks:=tk}:=by
 refine wpAny_pyIter_range (IsRange.new ..) (small_one h1 h2 h3 h4) ?_;have I1:Inv X pins σ H {s with heap:=s.heap.push {cls:=.type "range",data:=.fields #[.int lo t,.int hi u,.int 1 v]},toks:=tk}:=I.kept fun b o e=>Yc _ e
 refine ⟨(s.heap.push {cls:=.type "range",data:=.fields #[.int lo t,.int hi u,.int 1 v]}).objs.size,[(s.heap.push {cls:=.type "range",data:=.fields #[.int lo t,.int hi u,.int 1 v]}).objs.size],_,_,H,rfl,
  I1.kept (t':=tk) fun b o e=>Yc _ e,Zsd _ lo (hi - lo).toNat,?_,fun b hb=>?_,q⟩
 .have e1:lo + ((0:Nat):Int) * 1=lo:=by simp
  have e2:(((hi - lo).toNat:Nat):Int) - ((0:Nat):Int)=Builtin.Range.rangeSize lo hi 1:=by rw [rangeSize_one];split <;> omega
  show IsRangeIter _ _ (lo + ((0:Nat):Int) * 1) ((((hi - lo).toNat:Nat):Int) - ((0:Nat):Int)) 1;rw [e1,e2];exact Yi _ rfl
 .have e:b=(s.heap.push {cls:=.type "range",data:=.fields #[.int lo t,.int hi u,.int 1 v]}).objs.size:=by simpa using hb
  subst e;exact I1.jf (Ye _) (I1.aj.fresh (Ye _))
def ZyV (ta:TA):TI:=fun σ H R=>ta σ H fun vs H1=>∃ j:Int,vs=[.int j]/\-(2 ^ 62)<=j/\j < 2 ^ 62/\R (ox 0 j.toNat) H1
def ZyU (ta:TA):TI:=fun σ H R=>ta σ H fun vs H1=>∃ i j:Int,vs=[.int i,.int j]/\(-(2 ^ 62)<=i/\i < 2 ^ 62/\-(2 ^ 62)<=j/\j < 2 ^ 62)/\R (ox i (j - i).toNat) H1
theorem x_ {a:Expr} {ta:TA} {p pos:Pos} (hg:Gl X "range") (hm:X.mg "range"=none) (ha:PA X [a] ta) (hs:Yx [a] X.env=[(false,eval a X.env)]:=by rfl):PI X tg (.Call (.Name "range" p) [a] [] pos) (ZyV ta):=by
 try unfold PA at *
 intro pins s σ H R I h;refine Call_ (u_ I hg hm boot_range (XY (aH (ha pos pins s σ H _ I h) fun us s1 ⟨vs,H1,I1,r1,q1⟩=>?_) hs rfl));obtain ⟨j,e,q1,q2,q⟩:=q1;subst e
 cases r1 with
 | cons r rr=>
  cases rr
  obtain ⟨t,rfl⟩:=r;exact call_range_1 (Zrp I1 (by omega) (by omega) q1 q2 (by simpa using q))
theorem Ztx {a b:Expr} {ta:TA} {p pos:Pos} (hg:Gl X "range") (hm:X.mg "range"=none) (ha:PA X [a,b] ta) (hs:Yx [a,b] X.env=[(false,eval a X.env),(false,eval b X.env)]:=by rfl) (rW:Yx [b] X.env=[(false,eval b X.env)]:=by rfl) :
  PI X tg (.Call (.Name "range" p) [a,b] [] pos) (ZyU ta):=by
 try unfold PA at *
 intro pins s σ H R I h;refine Call_ (u_ I hg hm boot_range (XY (aH (ha pos pins s σ H _ I h) fun us s1 ⟨vs,H1,I1,r1,q1⟩=>?_) (by rw [hs,rW]) (by rw [rW];rfl)));obtain ⟨i,j,e,⟨q1,q2,q3,q4⟩,q⟩:=q1;subst e
 cases r1 with
 | cons r rr=>
  cases rr with
  | cons r' rr=>
   cases rr
   obtain ⟨t,rfl⟩:=r;obtain ⟨t',rfl⟩:=r';exact call_range_2 (Zrp I1 q1 q2 q3 q4 q)
def L_ (wi:TI) (g:TG) (tb:TS):TS:=fun D σ H=>wi σ H fun J H1=>∃ W:Nat->Nat->St->Hp->Prop,(∃ m,W 0 m σ H1)/\∀ i m σ H,W i m σ H->
 (J.stop i H/\D.nx σ H)∨(J.go i H/\∃ N:St->Hp->Prop,(∀ aB H',N aB H'->∃ m',m' < m/\W (i + 1) m' aB H')/\∀ x H',J.mn i H x H'->g x σ H' fun bI H2=>tb {D with nx:=N,ct:=N,bk:=D.nx} bI H2)
def xG (fp:List Addr) (h:Heap):List (Addr×Obj):=fp.filterMap fun b=>(h.get? b).map fun o=>(b,o)
theorem yc {fp:List Addr} {h:Heap} {b:Addr} {o:Obj} (hb:b∈fp) (e:h.get? b=some o):(b,o)∈xG fp h:=List.mem_filterMap.mpr ⟨b,hb,by rw [e];rfl⟩
theorem ZtE {fp:List Addr} {h:Heap} {p:Addr×Obj} (hp:p∈xG fp h):p.1∈fp/\h.get? p.1=some p.2:=by
 obtain ⟨b,hb,e⟩:=List.mem_filterMap.mp hp
 cases q:h.get? b with
 | none=>rw [q] at e;cases e
 | some o=>
  rw [q] at e;have e':(b,o)=p:=YB e;subst e';exact ⟨hb,q⟩
theorem Inv.pinned {pins:List (Addr×Obj)} {σ:St} {H:Hp} {s:Shared} {fp:List Addr} (I:Inv X pins σ H s) (hf:∀ b∈fp,eQ X pins H b) (ho:∀ b∈fp,∃ o,s.heap.get? b=some o/\∀ v,o.data≠.cell v):Inv X (pins++xG fp s.heap) σ H s:=
 I.mm fun p hp=>(List.mem_append.mp hp).elim (fun z=>I.pin p (YL _ z)) fun z=>by
  obtain ⟨hb,e⟩:=ZtE z;obtain ⟨f0,f1,f2,_⟩:=hf p.1 hb;obtain ⟨o,e',d⟩:=ho p.1 hb;rw [e] at e';cases e';exact ⟨e,f0,f1,f2,d⟩
theorem Inv.cQ {pins pl:List (Addr×Obj)} {σ:St} {H:Hp} {s:Shared} (I:Inv X (pins++pl) σ H s):Inv X pins σ H s:=I.mm fun p hp=>I.pin p (YL _ (YbH _ hp))
theorem jS {iter:Expr} {body:List Stmt} {wi:TI} {g:TG} {tb:TS} {pos:Pos} (hp:PassesOwn (model X.prog X.w) X.A X.env X.xe) (hc:X.calm=true) (hi:PI X tg iter wi) (hg:PG X tg g) (hb:eO X body tb)
  (hs:∀ x,foldedSetIterable iter X.env x=pure x:=by intro _;rfl):PS X (.For tg iter body [] pos) (L_ wi g tb):=by
 try unfold PS at *;try unfold eO at *
 intro pins s σ H D I h;refine wpAny_For (aH (hi pins s σ H _ I h) fun v s1 h1=>aH h1 fun Cb s2 h2=>?_) hs;obtain ⟨it,fp,tn,J,H2,e,I2,T,kO,f2,W,⟨m0,w0⟩,turn⟩:=h2;subst e
 -- what stays true of g6 wF objects through g6 loop
 have gs:∀ {H':Hp},(∀ b∈fp,H' b=none)->∀ b∈fp,eQ X pins H' b:=fun hn b hb=>⟨hn b hb,(f2 b hb).2⟩
 refine codeAny_forLoop_any (fun n s'=>∃ i aB H',Inv X pins aB H' s'/\tn i s'.heap/\(∀ b∈fp,H' b=none)/\W i n aB H') ?_ m0 ⟨0,σ,H2,I2,kO,fun b hb=>(f2 b hb).1,w0⟩
 rintro n s3 ⟨i,yu,H3,I3,rJ,fr3,w3⟩
 rcases turn i n yu H3 w3 with ⟨stop,qn⟩ | ⟨go,N,hN,step⟩
 .refine Yaw hp (aH (T.done X rfl rfl rfl hc i pins s3 yu H3 X.xe I3 (gs fr3) rJ stop) fun r s4 ⟨hr,I4⟩=>?_);subst hr;exact Ybq ⟨yu,H3,I4,qn⟩
 .refine Yaw hp (aH (T.item X rfl rfl rfl hc i pins s3 yu H3 X.xe I3 (gs fr3) rJ go) fun r s4 ⟨u,hr,h4⟩=>?_);subst hr;refine Yaw hp (aH h4 fun _ s5 ⟨x,H5,I5,r5,y5,qj,uP⟩=>?_);have I5':=I5.pinned (gs uP) (T.obj _ _ qj);refine Yaw hp (aH (hg _ s5 yu H5 x u _ I5' r5 (step x H5 y5)) fun _ s6 ⟨σ6,H6,I6,q6⟩=>?_);refine Yaw hp (aH (hb _ s6 σ6 H6 _ I6 q6) fun f s7 q7=>?_)
  have again:∀ {nF:St} {H7:Hp},Inv X (pins++xG fp s5.heap) nF H7 s7->N nF H7->∃ m,m < n/\∃ i aB H',Inv X pins aB H' s7/\tn i s7.heap/\(∀ b∈fp,H' b=none)/\W i m aB H':=fun {nF H7} I7 n7=>by
   obtain ⟨m',hm,w7⟩:=hN nF H7 n7;refine ⟨m',hm,i + 1,nF,H7,I7.cQ,T.keep _ _ _ qj fun b hb o e=>(I7.pin (b,o) (YL _ (YL _ (yc hb e)))).1,fun b hb=>?_,w7⟩;obtain ⟨o,e,d⟩:=T.obj _ _ qj b hb;exact (I7.pin (b,o) (YL _ (YL _ (yc hb e)))).2.1
  cases f with
  | next=>obtain ⟨nF,H7,I7,n7⟩:=q7;exact again I7 n7
  | cont=>obtain ⟨nF,H7,I7,n7⟩:=q7;exact again I7 n7
  | brk=>obtain ⟨nF,H7,I7,q7⟩:=q7;exact ⟨nF,H7,I7.cQ,q7⟩
  | ret v=>obtain ⟨x7,nF,H7,I7,r7,q7⟩:=q7;exact ⟨x7,nF,H7,I7.cQ,r7,q7⟩
end
theorem xV {K:Yf} {a:Addr} {xs:List V} {g:TG} {tb:TS} {D:Ends} {σ:St} {H:Hp} (Pv:Nat->St->Hp->Prop) (h0:Pv 0 σ H) (hl:∀ i σ H,i<=xs.length->Pv i σ H->aq K H a xs)
  (hs:∀ i x σ H,xs[i]?=some x->Pv i σ H->g x σ H fun bI H2=>tb {D with nx:=Pv (i + 1),ct:=Pv (i + 1),bk:=D.nx} bI H2) (hd:∀ σ H,Pv xs.length σ H->D.nx σ H) :
  ∃ W:Nat->Nat->St->Hp->Prop,(∃ m,W 0 m σ H)/\∀ i m σ H,W i m σ H->
   ((vG K a).stop i H/\D.nx σ H)∨((vG K a).go i H/\∃ N:St->Hp->Prop,(∀ aB H',N aB H'->∃ m',m' < m/\W (i + 1) m' aB H')/\∀ x H',(vG K a).mn i H x H'->g x σ H' fun bI H2=>tb {D with nx:=N,ct:=N,bk:=D.nx} bI H2):=by
 refine ⟨fun i m σ H=>m=xs.length - i/\i<=xs.length/\Pv i σ H,⟨xs.length,by simp,Yv _,h0⟩,?_⟩
 rintro i m σ H ⟨rfl,hi,p⟩
 have q:=hl i σ H hi p
 by_cases br:i < xs.length
 .refine .inr ⟨⟨xs,xs[i],q,by simp [br]⟩,Pv (i + 1),fun aB H' p'=>⟨xs.length - (i + 1),by omega,rfl,br,p'⟩,fun x H' y=>?_⟩;obtain ⟨e,y⟩:=y;subst e;exact hs i x σ _ (y xs q) p
 .have e:i=xs.length:=by omega
  subst e;exact .inl ⟨⟨xs,q,Ye _⟩,hd σ H p⟩
theorem Zub {K:Yf} {a:Addr} {xs:List V} {g:TG} {tb:TS} {D:Ends} {σ:St} {H:Hp} (Pv:Nat->St->Hp->Prop) (h0:Pv 0 σ H) (hl:∀ i σ H,i<=xs.length->Pv i σ H->aF K H a xs)
  (hs:∀ i x σ H,xs[i]?=some x->Pv i σ H->g x σ H fun bI H2=>tb {D with nx:=Pv (i + 1),ct:=Pv (i + 1),bk:=D.nx} bI H2) (hd:∀ σ H,Pv xs.length σ H->D.nx σ H) :
  ∃ W:Nat->Nat->St->Hp->Prop,(∃ m,W 0 m σ H)/\∀ i m σ H,W i m σ H->
   ((AE K a).stop i H/\D.nx σ H)∨((AE K a).go i H/\∃ N:St->Hp->Prop,(∀ aB H',N aB H'->∃ m',m' < m/\W (i + 1) m' aB H')/\∀ x H',(AE K a).mn i H x H'->g x σ H' fun bI H2=>tb {D with nx:=N,ct:=N,bk:=D.nx} bI H2):=by
 refine ⟨fun i m σ H=>m=xs.length - i/\i<=xs.length/\Pv i σ H,⟨xs.length,by simp,Yv _,h0⟩,?_⟩
 rintro i m σ H ⟨rfl,hi,p⟩
 have q:=hl i σ H hi p
 by_cases br:i < xs.length
 .refine .inr ⟨⟨xs,xs[i],q,by simp [br]⟩,Pv (i + 1),fun aB H' p'=>⟨xs.length - (i + 1),by omega,rfl,br,p'⟩,fun x H' y=>?_⟩;obtain ⟨e,y⟩:=y;subst e;exact hs i x σ _ (y xs q) p
 .have e:i=xs.length:=by omega
  subst e;exact .inl ⟨⟨xs,q,Ye _⟩,hd σ H p⟩
theorem Dy {lo:Int} {n:Nat} {g:TG} {tb:TS} {D:Ends} {σ:St} {H:Hp} (Pv:Nat->St->Hp->Prop) (h0:Pv 0 σ H)
  (hs:∀ i σ H,i < n->Pv i σ H->g (.int (lo + i)) σ H fun bI H2=>tb {D with nx:=Pv (i + 1),ct:=Pv (i + 1),bk:=D.nx} bI H2) (hd:∀ σ H,Pv n σ H->D.nx σ H) :
  ∃ W:Nat->Nat->St->Hp->Prop,(∃ m,W 0 m σ H)/\∀ i m σ H,W i m σ H->
   ((ox lo n).stop i H/\D.nx σ H)∨((ox lo n).go i H/\∃ N:St->Hp->Prop,(∀ aB H',N aB H'->∃ m',m' < m/\W (i + 1) m' aB H')/\∀ x H',(ox lo n).mn i H x H'->g x σ H' fun bI H2=>tb {D with nx:=N,ct:=N,bk:=D.nx} bI H2):=by
 refine ⟨fun i m σ H=>m=n - i/\i<=n/\Pv i σ H,⟨n,by simp,Yv _,h0⟩,?_⟩
 rintro i m σ H ⟨rfl,hi,p⟩
 by_cases br:i < n
 .refine .inr ⟨br,Pv (i + 1),fun aB H' p'=>⟨n - (i + 1),by omega,rfl,br,p'⟩,fun x H' y=>?_⟩;obtain ⟨e,y⟩:=y;subst e y;exact hs i σ _ br p
 .have e:i=n:=by omega
  subst e;exact .inl ⟨Ye _,hd σ H p⟩
end L2
namespace L2
open PySem PySem.Spec PyProof.Rows
abbrev R2:=V->V->Hp->VK->Prop
def dU (X:Cx) (f:Value->Value->Sem Value) (r:R2):Prop:=
 ∀ (pins:List (Addr×Obj)) (s:Shared) (σ:St) (H:Hp) (x y:V) (v u:Value) (Q:VK),Inv X pins σ H s->RelV x v->RelV y u->r x y H Q->
  wpAny (model X.prog X.w) X.A (f v u) (EP X pins σ Q) X.xe s
def LI (X:Cx) (f:Value->Sem Value) (r:V->Hp->VK->Prop):Prop:=
 ∀ (pins:List (Addr×Obj)) (s:Shared) (σ:St) (H:Hp) (x:V) (v:Value) (Q:VK),Inv X pins σ H s->RelV x v->r x H Q->
  wpAny (model X.prog X.w) X.A (f v) (EP X pins σ Q) X.xe s
def ff (X:Cx) (f:Value) (r:List V->Hp->VK->Prop):Prop:=
 ∀ (pins:List (Addr×Obj)) (s:Shared) (σ:St) (H:Hp) (xs:List V) (us:List Value) (Q:VK),Inv X pins σ H s->Vals xs us->r xs H Q->
  wpAny (model X.prog X.w) X.A (call f us) (EP X pins σ Q) X.xe s
def dX (r:R2) (ta tb:TE):TE:=fun σ H Q=>ta σ H fun x H1=>tb σ H1 fun y H2=>r x y H2 Q
def tUn (r:V->Hp->VK->Prop) (ta:TE):TE:=fun σ H Q=>ta σ H fun x H1=>r x H1 Q
inductive rI (C:Int->Int->Prop) (g:Int->Int->V) (x:V) (y:V) (H:Hp) (Q:VK):Prop
 | mk (i:_) (j:_):x=.int i->y=.int j->C i j->Q (g i j) H->rI C g x y H Q
inductive rK (g:Int->Int->V) (x:V) (y:V) (H:Hp) (Q:VK):Prop
 | mk (i:_) (j:_):x=.int i->y=.int j->Q (g i j) H->rK g x y H Q
inductive rU (g:Int->V) (x:V) (H:Hp) (Q:VK):Prop
 | mk (i:_):x=.int i->Q (g i) H->rU g x H Q
section
variable {X:Cx} {a b c:Expr} {ta tb tc:TE} {pos:Pos}
theorem wm (ha:PE X a ta) (hb:PE X b tb) {pins:List (Addr×Obj)} {s:Shared} {σ:St} {H:Hp} {R:V->V->Hp->Prop} (I:Inv X pins σ H s)
  (h:ta σ H fun x H1=>tb σ H1 fun y H2=>R x y H2) {Q:Value->Shared->Prop} {f:Value->Value->Sem Value}
  (hf:∀ v u s2 x y H2,Inv X pins σ H2 s2->RelV x v->RelV y u->R x y H2->wpAny (model X.prog X.w) X.A (f v u) Q X.xe s2) :
  wpAny (model X.prog X.w) X.A (eval a X.env) (fun v aC=>wpAny (model X.prog X.w) X.A (eval b X.env) (fun u gq=>wpAny (model X.prog X.w) X.A (f v u) Q X.xe gq) X.xe aC) X.xe s:=by
 try unfold PE at *
 refine aH (ha pins s σ H _ I h) fun v s1 ⟨x,H1,I1,r1,q1⟩=>?_;refine aH (hb pins s1 σ H1 _ I1 q1) fun u s2 ⟨y,H2,I2,r2,q2⟩=>?_;exact hf v u s2 x y H2 I2 r1 r2 q2
theorem Zy {op:Operator} {r:R2} (ho:dU X (Wv op) r) (ha:PE X a ta) (hb:PE X b tb):PE X (.BinOp a op b pos) (dX r ta tb):=by
 try unfold PE
 intro pins s σ H Q I h;exact wpAny_BinOp (wm ha hb I h fun v u s2 x y H2 I2 rx ry q=>ho pins s2 σ H2 x y v u Q I2 rx ry q)
theorem gf {op:UnaryOp} {r:V->Hp->VK->Prop} (ho:LI X (unaryOp op) r) (ha:PE X a ta):PE X (.UnaryOp op a pos) (tUn r ta):=by
 try unfold PE at *
 intro pins s σ H Q I h;exact UnaryOp_ (aH (ha pins s σ H _ I h) fun v s1 ⟨x,H1,I1,r1,q1⟩=>ho pins s1 σ H1 x v Q I1 r1 q1)
theorem yE {f:Value->Value->Sem Value} {C:Int->Int->Prop} {g:Int->Int->Int}
  (rule:∀ (i j:Int) (t u:Tok) (s:Shared) (Q:Value->Shared->Prop) (E:Value->Shared->Prop),C i j->Q (.int (g i j) s.toks) {s with toks:=s.toks + 1}->wpAny (model X.prog X.w) X.A (f (.int i t) (.int j u)) Q E s) :
  dU X f (rI C fun i j=>.int (g i j)):=by
 intro pins s σ H x y v u Q I rx ry h;obtain ⟨i,j,rfl,rfl,hc,q⟩:=h;obtain ⟨t,rfl⟩:=rx;obtain ⟨t',rfl⟩:=ry;exact rule i j t t' s _ _ hc ⟨.int (g i j),H,I.tok _,⟨_,rfl⟩,q⟩
theorem A1 {f:Value->Value->Sem Value} {g:Int->Int->Int}
  (rule:∀ (i j:Int) (t u:Tok) (s:Shared) (Q:Value->Shared->Prop) (E:Value->Shared->Prop),Q (.int (g i j) s.toks) {s with toks:=s.toks + 1}->wpAny (model X.prog X.w) X.A (f (.int i t) (.int j u)) Q E s) :
  dU X f (rK fun i j=>.int (g i j)):=by
 intro pins s σ H x y v u Q I rx ry h;obtain ⟨i,j,rfl,rfl,q⟩:=h;obtain ⟨t,rfl⟩:=rx;obtain ⟨t',rfl⟩:=ry;exact rule i j t t' s _ _ ⟨.int (g i j),H,I.tok _,⟨_,rfl⟩,q⟩
theorem vK {f:Value->Value->Sem Value} {g:Int->Int->Bool}
  (rule:∀ (i j:Int) (t u:Tok) (s:Shared) (Q:Value->Shared->Prop) (E:Value->Shared->Prop),Q (.bool (g i j)) s->wpAny (model X.prog X.w) X.A (f (.int i t) (.int j u)) Q E s) :
  dU X f (rK fun i j=>.bl (g i j)):=by
 intro pins s σ H x y v u Q I rx ry h;obtain ⟨i,j,rfl,rfl,q⟩:=h;obtain ⟨t,rfl⟩:=rx;obtain ⟨t',rfl⟩:=ry;exact rule i j t t' s _ _ ⟨.bl (g i j),H,I,rfl,q⟩
def BD (i j:Int):Prop:=0 < j/\j < 1073741824
def M' (i j:Int):Prop:=0<=j/\j<=1000000/\i.natAbs < 2 ^ 64
def wq (i j:Int):Prop:=(-(2 ^ 64) < i/\i < 2 ^ 64)∨(-(2 ^ 64) < j/\j < 2 ^ 64)
theorem wq.ok {i j:Int} (h:wq i j):IntMulOk i j:=by
 rcases h with ⟨h1,h2⟩ | ⟨h1,h2⟩
 .exact .of_left (intBits_le_64 h1 h2)
 .exact .of_right (intBits_le_64 h1 h2)
theorem kJ:dU X (Wv .Add) (rK fun i j=>.int (i + j)):=A1 fun _ _ _ _ _ _ _ q=>add_int q
theorem u5:dU X (Wv .Sub) (rK fun i j=>.int (i - j)):=A1 fun _ _ _ _ _ _ _ q=>sub_int q
theorem ni:dU X (Wv .Mult) (rI wq fun i j=>.int (i * j)):=yE fun _ _ _ _ _ _ _ hc q=>mul_int q hc.ok
theorem fJ:dU X (Wv .FloorDiv) (rI BD fun i j=>.int (i / j)):=yE fun i j _ _ _ _ _ hc q=>by
 have h1:(0:Int) < j:=hc.1;have h2:j < 1073741824:=hc.2;exact floordiv_int (by omega) (by rw [Int.fdiv_eq_ediv_of_nonneg i (by omega)];exact q) (.inl (PyProof.noPylong_small (by omega)))
theorem df:dU X (Wv .Mod) (rI (fun _ j=>0 < j) fun i j=>.int (i % j)):=yE fun i j _ _ _ _ _ hc q=>by
 have h1:(0:Int) < j:=hc;exact mod_int' (by omega) (by rw [Int.fmod_eq_emod_of_nonneg i (by omega)];exact q)
theorem Zv4:dU X (Wv .Pow) (rI M' fun i j=>.int (i ^ j.toNat)):=yE fun _ _ _ _ _ _ _ hc q=>pow_int_small hc.1 hc.2.1 hc.2.2 q
theorem unI {f:Value->Sem Value} {g:Int->Int}
  (rule:∀ (i:Int) (t:Tok) (s:Shared) (Q:Value->Shared->Prop) (E:Value->Shared->Prop),Q (.int (g i) s.toks) {s with toks:=s.toks + 1}->wpAny (model X.prog X.w) X.A (f (.int i t)) Q E s) :
  LI X f (rU fun i=>.int (g i)):=by
 intro pins s σ H x v Q I rx h;obtain ⟨i,rfl,q⟩:=h;obtain ⟨t,rfl⟩:=rx;exact rule i t s _ _ ⟨.int (g i),H,I.tok _,⟨_,rfl⟩,q⟩
theorem gm:LI X (unaryOp .USub) (rU fun i=>.int (-i)):=unI fun _ _ _ _ _ q=>neg_int q
end
def AR:V->V->Bool
 | .aK,.aK=>true | .aK,.int _=>true | .int _,.aK=>true | .aK,.bl _=>true | .bl _,.aK=>true | .aK,.str _=>true | .str _,.aK=>true
 | .int _,.int _=>true | .bl _,.bl _=>true | .str _,.str _=>true | .lN _,.lN _=>true
 | .int _,.str _=>true | .str _,.int _=>true | .bl _,.str _=>true | .str _,.bl _=>true
 | _,_=>false
def rL:R2:=fun x y H Q=>AR x y=true/\Q (.bl (decide (x=y))) H
def rNe:R2:=fun x y H Q=>AR x y=true/\Q (.bl (!decide (x=y))) H
theorem Zuq {i j:Int}:decide (V.int i=V.int j)=(i == j):=by
 rw [WE]
 simp
theorem Zwc {i j:Bool}:decide (V.bl i=V.bl j)=(i == j):=by
 rw [WE]
 simp
theorem Zup {i j:Str}:decide (V.str i=V.str j)=(i == j):=by
 rw [WE]
 simp
theorem Zur {i j:Array UInt8}:decide (V.lN i=V.lN j)=(i.toList == j.toList):=by
 rw [WE]
 cases i
 cases j
 simp
section
variable {X:Cx} {a b c:Expr} {ta tb tc:TE} {pos:Pos}
theorem dG {pins:List (Addr×Obj)} {σ:St} {H:Hp} {s:Shared} {Q:VK} {k k':Bool} (I:Inv X pins σ H s) (q:Q (.bl k) H) (e:k=k'):EP X pins σ Q (.bool k') s:=by
 subst e;exact ⟨.bl k,H,I,rfl,q⟩
theorem fU:dU X (XS .Eq) rL:=by
 intro pins s σ H x y v u Q I rx ry h;obtain ⟨hs,q⟩:=h
 cases x with
 | aK=>
  cases rx
  cases y with
  | aK=>cases ry;exact PySem.EqNone.eq_none_none (dG I q (by simp))
  | bl j=>cases ry;exact PySem.EqNone.eq_none_bool (dG I q (by simp))
  | int j=>obtain ⟨t',rfl⟩:=ry;exact PySem.EqNone.eq_none_int (dG I q (by simp))
  | str j=>obtain ⟨t',rfl⟩:=ry;exact PySem.EqNone.eq_none_str (dG I q (by simp))
  | _=>exact absurd (show false=true from hs) Yp
 | bl i=>
  cases rx
  cases y with
  | aK=>cases ry;exact PySem.EqNone.eq_bool_none (dG I q (by simp))
  | bl j=>cases ry;exact eq_bool (dG I q Zwc)
  | str j=>obtain ⟨t',rfl⟩:=ry;exact PySem.EqMixed.eq_bool_str (dG I q (by simp))
  | _=>exact absurd (show false=true from hs) Yp
 | int i=>
  obtain ⟨t,rfl⟩:=rx
  cases y with
  | aK=>cases ry;exact PySem.EqNone.eq_int_none (dG I q (by simp))
  | int j=>obtain ⟨t',rfl⟩:=ry;exact eq_int (dG I q Zuq)
  | str j=>obtain ⟨t',rfl⟩:=ry;exact PySem.EqMixed.eq_int_str (dG I q (by simp))
  | _=>exact absurd (show false=true from hs) Yp
 | str i=>
  obtain ⟨t,rfl⟩:=rx
  cases y with
  | aK=>cases ry;exact PySem.EqNone.eq_str_none (dG I q (by simp))
  | bl j=>cases ry;exact PySem.EqMixed.eq_str_bool (dG I q (by simp))
  | int j=>obtain ⟨t',rfl⟩:=ry;exact PySem.EqMixed.eq_str_int (dG I q (by simp))
  | str j=>obtain ⟨t',rfl⟩:=ry;exact eq_str (dG I q Zup)
  | _=>exact absurd (show false=true from hs) Yp
 | lN i=>
  obtain ⟨t,rfl⟩:=rx
  cases y with
  | lN j=>obtain ⟨t',rfl⟩:=ry;exact PySem.W.eq_bytes (dG I q Zur)
  | _=>exact absurd (show false=true from hs) Yp
 | _=>cases y <;> exact absurd (show false=true from hs) Yp
theorem Gg:dU X (XS .NotEq) rNe:=by
 intro pins s σ H x y v u Q I rx ry h;obtain ⟨hs,q⟩:=h
 cases x with
 | aK=>
  cases rx
  cases y with
  | aK=>cases ry;exact PySem.EqNone.ne_none_none (dG I q (by simp))
  | bl j=>cases ry;exact PySem.EqNone.ne_none_bool (dG I q (by simp))
  | int j=>obtain ⟨t',rfl⟩:=ry;exact PySem.EqNone.ne_none_int (dG I q (by simp))
  | str j=>obtain ⟨t',rfl⟩:=ry;exact PySem.EqNone.ne_none_str (dG I q (by simp))
  | _=>exact absurd (show false=true from hs) Yp
 | bl i=>
  cases rx
  cases y with
  | aK=>cases ry;exact PySem.EqNone.ne_bool_none (dG I q (by simp))
  | bl j=>cases ry;exact ne_bool (dG I q (congrArg not Zwc))
  | str j=>obtain ⟨t',rfl⟩:=ry;exact PySem.EqMixed.ne_bool_str (dG I q (by simp))
  | _=>exact absurd (show false=true from hs) Yp
 | int i=>
  obtain ⟨t,rfl⟩:=rx
  cases y with
  | aK=>cases ry;exact PySem.EqNone.ne_int_none (dG I q (by simp))
  | int j=>obtain ⟨t',rfl⟩:=ry;exact ne_int (dG I q (congrArg not Zuq))
  | str j=>obtain ⟨t',rfl⟩:=ry;exact PySem.EqMixed.ne_int_str (dG I q (by simp))
  | _=>exact absurd (show false=true from hs) Yp
 | str i=>
  obtain ⟨t,rfl⟩:=rx
  cases y with
  | aK=>cases ry;exact PySem.EqNone.ne_str_none (dG I q (by simp))
  | bl j=>cases ry;exact PySem.EqMixed.ne_str_bool (dG I q (by simp))
  | int j=>obtain ⟨t',rfl⟩:=ry;exact PySem.EqMixed.ne_str_int (dG I q (by simp))
  | str j=>obtain ⟨t',rfl⟩:=ry;exact ne_str (dG I q (congrArg not Zup))
  | _=>exact absurd (show false=true from hs) Yp
 | lN i=>
  obtain ⟨t,rfl⟩:=rx
  cases y with
  | lN j=>obtain ⟨t',rfl⟩:=ry;exact PySem.W.ne_bytes (dG I q (congrArg not Zur))
  | _=>exact absurd (show false=true from hs) Yp
 | _=>cases y <;> exact absurd (show false=true from hs) Yp
theorem xu:dU X (XS .Lt) (rK fun i j=>.bl (decide (i < j))):=vK fun _ _ _ _ _ _ _ q=>lt_int q
theorem uY:dU X (XS .Gt) (rK fun i j=>.bl (decide (j < i))):=vK fun _ _ _ _ _ _ _ q=>gt_int q
theorem ZxO:dU X (XS .GtE) (rK fun i j=>.bl (decide (j<=i))):=vK fun _ _ _ _ _ _ _ q=>ge_int q
theorem ZtC:dU X (XS .In) (fun x y H Q=>∃ i j,x=.str i/\y=.str j/\Q (.bl (!(YX j i 0 j.length 1).isEmpty)) H):=by
 intro pins s σ H x y v u Q I rx ry h;obtain ⟨i,j,rfl,rfl,q⟩:=h;obtain ⟨t,rfl⟩:=rx;obtain ⟨t',rfl⟩:=ry;exact in_str (dG I q rfl)
theorem ZO (b:Expr) {op:CmpOp} (h:op≠.In:=by decide) (h2:op≠.NotIn:=by decide):WG op b=false:=by
 have e1:(op == CmpOp.In)=false:=by cases op <;> first | rfl | exact absurd rfl h
 have e2:(op == CmpOp.NotIn)=false:=by cases op <;> first | rfl | exact absurd rfl h2
 cases b <;> simp [WG,e1,e2]
theorem oh {op:CmpOp} {r:R2} (ho:dU X (XS op) r) (ha:PE X a ta) (hb:PE X b tb) (hm:WG op b=false):PE X (.Compare a [op] [b] pos) (dX r ta tb):=by
 try unfold PE
 intro pins s σ H Q I h;exact wpAny_Compare1 (wm ha hb I h fun v u s2 x y H2 I2 rx ry q=>ho pins s2 σ H2 x y v u Q I2 rx ry q) hm
def su (t:TE):TT:=fun σ H Q=>t σ H fun x H'=>F3 x H' Q
theorem ZG {op:CmpOp} {r:R2} (ho:dU X (XS op) r) (ha:PE X a ta) (hb:PE X b tb) (hm:WG op b=false):PT X (.Compare a [op] [b] pos) (su (dX r ta tb)):=by
 try unfold PE at *
 intro pins s σ H Q I h
 refine wpAny_isTrue_Compare1 (aH (ha pins s σ H _ I h) fun v s1 ⟨x,H1,I1,r1,q1⟩=>aH (hb pins s1 σ H1 _ I1 q1) fun u s2 ⟨y,H2,I2,r2,q2⟩=>
  aH (ho pins s2 σ H2 x y v u _ I2 r1 r2 q2) fun c s3 ⟨z,H3,I3,r3,k,e,q3⟩=>?_) hm
 subst e
 cases r3
 exact WJ ⟨H3,I3,q3⟩
theorem zM:(Ym:Nat) < 2 ^ 63:=by rw [WR];decide
theorem IW:dU X (Wv .Add) (fun x y H Q=>∃ i j,x=.str i/\y=.str j/\i.length + j.length<=Ym/\Q (.str (i++j)) H):=by
 intro pins s σ H x y v u Q I rx ry h;obtain ⟨i,j,rfl,rfl,hz,q⟩:=h;obtain ⟨t,rfl⟩:=rx;obtain ⟨t',rfl⟩:=ry;exact add_str (fun t' tk=>⟨.str (i++j),H,I.tok _,⟨_,rfl⟩,q⟩) hz
theorem uX {x:V} {us:List Value} (r:Vals [x] us):∃ u,us=[u]/\RelV x u:=by
 cases r with
 | cons r1 r2=>cases r2;exact ⟨_,rfl,r1⟩
theorem Zxq {x y:V} {us:List Value} (r:Vals [x,y] us):∃ u w',us=[u,w']/\RelV x u/\RelV y w':=by
 cases r with
 | cons r1 r2=>
  cases r2 with
  | cons r3 r4=>cases r4;exact ⟨_,_,rfl,r1,r3⟩
theorem ZuG (hc:X.calm=true):ff X (.builtin "max") (fun xs H Q=>∃ i j,xs=[.int i,.int j]/\Q (.int (if j > i then j else i)) H):=by
 intro pins s σ H xs us Q I r h;obtain ⟨i,j,rfl,q⟩:=h;obtain ⟨u,w',rfl,⟨t,rfl⟩,⟨t',rfl⟩⟩:=Zxq r;refine max_two_ints (I.ok.hd hc) fun h' tk k=>⟨_,H,I.kept k,?_,q⟩
 by_cases hj:j > i
 .rw [if_pos hj,if_pos hj];exact ⟨_,rfl⟩
 .rw [if_neg hj,if_neg hj];exact ⟨_,rfl⟩
theorem Zqj (hc:X.calm=true):ff X (.builtin "min") (fun xs H Q=>∃ i j,xs=[.int i,.int j]/\Q (.int (if j < i then j else i)) H):=by
 intro pins s σ H xs us Q I r h;obtain ⟨i,j,rfl,q⟩:=h;obtain ⟨u,w',rfl,⟨t,rfl⟩,⟨t',rfl⟩⟩:=Zxq r;refine min_two_ints (I.ok.hd hc) fun h' tk k=>⟨_,H,I.kept k,?_,q⟩
 by_cases hj:j < i
 .rw [if_pos hj,if_pos hj];exact ⟨_,rfl⟩
 .rw [if_neg hj,if_neg hj];exact ⟨_,rfl⟩
theorem Zqk:ff X (.type "int") (fun xs H Q=>(∃ i,xs=[.int i]/\Q (.int i) H)∨∃ k,xs=[.bl k]/\Q (.int (if k then 1 else 0)) H):=by
 intro pins s σ H xs us Q I r h;rcases h with ⟨i,rfl,q⟩ | ⟨k,rfl,q⟩
 .obtain ⟨u,rfl,t,rfl⟩:=uX r;exact call_int_int ⟨.int i,H,I,⟨_,rfl⟩,q⟩
 .obtain ⟨u,rfl,r1⟩:=uX r
  cases r1
  exact call_int_bool ⟨.int (if k then 1 else 0),H,I.tok _,⟨_,rfl⟩,q⟩
end
end L2
namespace L2
open PySem PySem.Spec PyProof.Rows
structure lx (h:Heap) (x dx C:Addr) (mA:Str->Option Value):Prop where
 obj:h.get? x=some (X9 C dx)
 ns:h.Ns1 dx mA
 ne:dx≠x
theorem ZtZ {h:Heap} {dx:Addr} {mA:Str->Option Value} (n:h.Ns1 dx mA):∃ od,h.get? dx=some od/\∀ name,PySem.W.lookIn name od=some (mA name):=by
 obtain ⟨o,es,ep,ho,hd,hk,_,hm⟩:=n;refine ⟨o,ho,fun name=>?_⟩;have e:=hm name;unfold nsFind findBy at e;rw [<- Array.find?_toList] at e;unfold PySem.W.lookIn;rw [hd];dsimp only
 split
 .rename_i y q
  rw [q] at e;exact congrArg some e
 .rename_i q
  rw [q] at e
  have a:es.toList.any (·.refKey)=false:=by
   rw [List.any_eq_false];intro y hy;obtain ⟨z,t,lj⟩:=hk y (Array.mem_toList_iff.mp hy)
   simp [DictEntry.refKey,lj]
  have a':¬ es.toList.any (·.refKey)=true:=by rw [a];exact Yp
  rw [if_neg a'];exact congrArg some e
theorem lx.look {h:Heap} {x dx C:Addr} {mA:Str->Option Value} (I:lx h x dx C mA):∃ od,PySem.W.InstAt h x (X9 C dx) C (some od)/\∀ name,PySem.W.lookIn name od=some (mA name):=
 let ⟨od,ho,hl⟩:=ZtZ I.ns
 ⟨od,⟨I.obj,rfl,rfl,ho⟩,hl⟩
section
variable {prog:Program} {w:World} {A:Around} {E:Value->Shared->Prop} {s:Shared} {K:Yf} {x dx C f:Addr} {mA:Str->Option Value} {name:Str} {v:Value}
theorem Zw1 {expr:Bool} {Q:Value->Shared->Prop} (X:K.In s.heap) (I:lx s.heap x dx C mA) (hg:Ybd K C name=true) (hh:PySem.W.hasDictIn K C=true)
  (ha:Xm K (.ref C) name=some none) (hv:mA name=some v) (hv':PySem.W.handedIn v=true) (h:Q v {s with toks:=s.toks + 1}) :
  wpAny (model prog w) A (getAttr (.ref x) name expr) Q E s:=by
 obtain ⟨od,J,hl⟩:=I.look;exact PySem.W.get_value X J (YbM hg).1 (PySem.W.findObj_own hh ha rfl (by rw [hl,hv])) hv' h
theorem Zvs {pl:Sem Bool} {Q:Value×List Value->Shared->Prop} (X:K.In s.heap) (I:lx s.heap x dx C mA) (hg:Ybd K C name=true)
  (hf:Xm K (.ref C) name=some (some (.ref f))) (ht:PySem.W.isFn K (.ref f)=true) (hv:mA name=none) (h:Q (.ref f,[.ref x]) s) :
  wpAny (model prog w) A (getMethod (.ref x) name pl) Q E s:=by
 obtain ⟨od,J,hl⟩:=I.look;exact PySem.W.method_fn X J (YbM hg).1 (YbM hg).2 hf (beq_iff_eq.mp ht) (by show (PySem.W.lookIn name od).map (·.isSome)=some false;rw [hl,hv];rfl) h
theorem Zwv {ns:List Str} {Q:Unit->Shared->Prop} (X:K.In s.heap) (I:lx s.heap x dx C mA)
  (hs:Xm K (.ref C) "__setattr__"=some (some (.builtin "object.__setattr__"))) (hp:PySem.W.plainOver K C=true) (ht:PySem.W.takerIn K C name=some none) (hh:PySem.W.hasDictIn K C=true)
  (hw:PySem.Within mA ns) (hsz:ns.length<=Ym)
  (h:∀ h',lx h' x dx C (fun y=>if y=name then some v else mA y)->Xx dx s.heap h'->Q () {s with heap:=h',toks:=s.toks + 2}) :
  wpAny (model prog w) A (setAttr (.ref x) name v) Q E s:=by
 obtain ⟨od,J,hl⟩:=I.look;refine PySem.W.set_plain X J hs (PySem.W.osa_open (s:={s with toks:=s.toks + 1}) (r:=none) X J hp ht fun b=>?_);obtain ⟨cd,hc,zo⟩:=PySem.W.any_some hh;have hx:s.heap.get? x=some ⟨.ref C,some dx,.plain,#[]⟩:=I.obj;refine Ya (Yd (Ya (Ya (wpAny_loadPart hx (Ya (PySem.W.Looks.here (s:={s with toks:=s.toks + 1}) (PySem.W.looks_clsIn X hc) ?_))))));rw [zo];refine Yd (a:=some dx) (Ya (Yd (Ya ?_)));refine wpAny_nsSet1 (s:={s with toks:=s.toks + 1}) I.ns fun h' Cj rW=>?_;obtain ⟨oD,esD,epD,hoD,hdD,zq⟩:=Cj.count (PySem.Within.cons name v hw);refine Ya (wpAny_lookBehind hoD (by rw [hdD];exact pastItsLine_dict (Yk zq (by rw [Yz];omega))) ?_);exact Yd (h _ ⟨(rW.2 _ (WO I.ne)).trans I.obj,Cj,I.ne⟩ rW)
theorem Zvj {R:Result->Shared->Prop} {vs:List Value} {kw:List (Str×Value)} (X:K.In s.heap) (hm:PySem.W.makesIn K C=true)
  (hi:Xm K (.ref C) "__init__"=some (some (.ref f))) (hf:PySem.W.typeIn K (.ref f)=some (.type "function"))
  (h:Yas (model prog w) (A.under (.builtin "type.__call__" ⟨.ref C::vs,kw⟩)) (.call (.ref f) ⟨.ref (s.heap.objs.size + 1)::vs,kw⟩) (PySem.W.InitBack (s.heap.objs.size + 1) R)
   {s with heap:=(s.heap.push Xu).push (X9 C s.heap.objs.size)}) :
  Yas (model prog w) A (.call (.ref C) ⟨vs,kw⟩) R s:=by
 obtain ⟨hh,g,d,t,os⟩:=s;exact PySem.W.make_core (PySem.W.makes_of X hm) (PySem.W.looks_findIn X hi) (fun self=>PySem.W.bind_fn X self hf) (.inl rfl) h
end
def au (f:Str) (v:V):List (Str×V)->List (Str×V)
  | []=>[(f,v)]
  | (g,x)::r=>if g=f then (g,v)::r else (g,x)::au f v r
theorem Zo (f g:Str) (v:V):∀ fs:List (Str×V),(au f v fs).lookup g=if g=f then some v else fs.lookup g
  | []=>by
    show XO g [(f,v)]=_
    by_cases h:g=f
    · have hb:(g == f)=true:=beq_iff_eq.mpr h
      simp only [XO,hb,if_pos h]
    · have hb:(g == f)=false:=beq_eq_false_iff_ne.mpr h
      simp only [XO,hb,if_neg h]
  | (k,x)::r=>by
    have ih:=Zo f g v r;rw [show au f v ((k,x)::r)=(if k=f then (k,v)::r else (k,x)::au f v r) from rfl]
    by_cases hk:k=f
    · rw [if_pos hk]
      by_cases h:g=k
      · have hb:(g == k)=true:=beq_iff_eq.mpr h
        simp only [XO,hb,if_pos (h.trans hk)]
      · have hb:(g == k)=false:=beq_eq_false_iff_ne.mpr h
        simp only [XO,hb,if_neg (fun e:g=f=>h (e.trans hk.symm))]
    · rw [if_neg hk]
      by_cases h:g=k
      · have hb:(g == k)=true:=beq_iff_eq.mpr h
        simp only [XO,hb,if_neg (fun e:g=f=>hk (h.symm.trans e))]
      · have hb:(g == k)=false:=beq_eq_false_iff_ne.mpr h
        simp only [XO,hb]
        exact ih
theorem HG (f:Str) (v:V):∀ fs:List (Str×V),f∈(au f v fs).map (·.1)/\∀ g,g∈fs.map (·.1)->g∈(au f v fs).map (·.1)
  | []=>⟨by simp [au],fun g h=>by simp at h⟩
  | (k,x)::r=>by
    obtain ⟨i1,i2⟩:=HG f v r;rw [show au f v ((k,x)::r)=(if k=f then (k,v)::r else (k,x)::au f v r) from rfl]
    by_cases hk:k=f
    · rw [if_pos hk]
      subst hk;exact ⟨by simp,fun g h=>by simpa using h⟩
    · rw [if_neg hk]
      refine ⟨?_,fun g h=>?_⟩
      · rw [Yt]
        exact Yr _ i1
      · rw [Yt] at h ⊢
        rcases List.mem_cons.mp h with e | e
        · exact List.mem_cons.mpr (.inl e)
        · exact Yr _ (i2 g e)
theorem ZlF (f:Str) (v:V):∀ fs:List (Str×V),(au f v fs).length<=fs.length + 1
  | []=>by simp [au]
  | (k,x)::r=>by
    have ih:=ZlF f v r;rw [show au f v ((k,x)::r)=(if k=f then (k,v)::r else (k,x)::au f v r) from rfl]
    by_cases hk:k=f
    · rw [if_pos hk,Yz,Yz];omega
    · rw [if_neg hk,Yz,Yz];omega
theorem b9.some_of {v:V} {o:Option Value} (r:b9 (some v) o):∃ u,o=some u/\RelV v u:=by
 cases o with
 | none=>exact (show False from r).elim
 | some u=>exact ⟨u,rfl,r⟩
theorem b9.none_of {o:Option Value} (r:b9 none o):o=none:=by
 cases o with
 | none=>rfl
 | some u=>exact (show False from r).elim
theorem Zt8 {v:V} {u:Value} (r:RelV v u):PySem.W.handedIn u=true:=by
 cases v with
 | aK=>cases (show u=Value.none from r);rfl
 | bl b=>cases (show u=Value.bool b from r);rfl
 | int i=>obtain ⟨t,e⟩:=(show ∃ t,u=Value.int i t from r);cases e;rfl
 | str x=>obtain ⟨t,e⟩:=(show ∃ t,u=Value.str x t from r);cases e;rfl
 | lN b=>obtain ⟨t,e⟩:=(show ∃ t,u=Value.bytes b t from r);cases e;rfl
 | qA b=>obtain ⟨t,e⟩:=(show ∃ t,u=Value.float b t from r);cases e;rfl
 | ref a=>cases (show u=Value.ref a from r);rfl
 | ty n=>cases (show u=Value.type n from r);rfl
section
variable {P:Program} {w:World} {H H':Hp} {h h':Heap} {a C dx:Addr} {fs fs':List (Str×V)}
theorem C6 (aj:cE P w H h) (e:H a=some (.ins C dx fs)):∃ mA,lx h a dx C mA/\(∀ f,b9 (fs.lookup f) (mA f))/\PySem.Within mA (fs.map (·.1))/\fs.length<=1000/\H dx=some (.own a):=by
 obtain ⟨d,z,ne,ob,mA,n,r,q⟩:=(show bU P w H h a (.ins C dx fs) from aj a _ e)
 exact ⟨mA,⟨ob,n,ne⟩,r,q,z,d⟩
end
structure Cls (K:Yf) (C:Addr):Prop where
 pg:Ybd K C Str.empty=true
 hd:PySem.W.hasDictIn K C=true
 po:PySem.W.plainOver K C=true
 sa:Xm K (.ref C) "__setattr__"=some (some (.builtin "object.__setattr__"))
theorem Cls.get {K:Yf} {C:Addr} (c:Cls K C) (f:Str):Ybd K C f=true:=c.pg
def fi (K:Yf) (C:Addr) (f:Str):Prop:=Xm K (.ref C) f=some none
theorem fi.BI {K:Yf} {C:Addr} {f:Str} (n:fi K C f):PySem.W.takerIn K C f=some none:=by
 unfold PySem.W.takerIn;rw [show Xm K (.ref C) f=some none from n];rfl
structure Meth (K:Yf) (C:Addr) (m:Str) (f:Addr):Prop where
 at_:Xm K (.ref C) m=some (some (.ref f))
 fn:PySem.W.isFn K (.ref f)=true
 kp:XM K (.ref f)=true
section
variable {X:Cx} {pins:List (Addr×Obj)} {σ:St} {H:Hp} {s:Shared} {a C dx:Addr} {fs:List (Str×V)} {f:Str} {v:V} {A:Around} {E:Value->Shared->Prop}
theorem ZsR {b:Bool} {Q:Value->Shared->Prop} (I:Inv X pins σ H s) (e:H a=some (.ins C dx fs)) (c:Cls X.K C) (n:fi X.K C f) (l:fs.lookup f=some v)
  (h:∀ u s',Inv X pins σ H s'->RelV v u->Q u s'):wpAny (model X.prog X.w) A (getAttr (.ref a) f b) Q E s:=by
 obtain ⟨mA,O,r,_,_,_⟩:=C6 I.aj e;obtain ⟨u,hu,ru⟩:=b9.some_of (v:=v) (o:=mA f) (by rw [<- l];exact r f);exact Zw1 I.cg O (c.get f) c.hd n hu (Zt8 ru) (h u _ (I.tok _) ru)
theorem Znf {m:Str} {g:Addr} {pl:Sem Bool} {Q:Value×List Value->Shared->Prop} (I:Inv X pins σ H s) (e:H a=some (.ins C dx fs)) (c:Cls X.K C) (k:Meth X.K C m g) (l:fs.lookup m=none)
  (h:Q (.ref g,[.ref a]) s):wpAny (model X.prog X.w) A (getMethod (.ref a) m pl) Q E s:=by
 obtain ⟨mA,O,r,_,_,_⟩:=C6 I.aj e;have hn:mA m=none:=b9.none_of (by rw [<- l];exact r m);exact Zvs I.cg O (c.get m) k.at_ k.fn hn h
theorem Zsn {y:V} {u:Value} {Q:Unit->Shared->Prop} (I:Inv X pins σ H s) (e:H a=some (.ins C dx fs)) (c:Cls X.K C) (n:fi X.K C f) (hl:fs.length < 1000) (ry:RelV y u)
  (h:∀ s',Inv X pins σ (upd H a (.ins C dx (au f y fs))) s'->Q () s'):wpAny (model X.prog X.w) A (setAttr (.ref a) f u) Q E s:=by
 obtain ⟨mA,O,r,wi,_,ho⟩:=C6 I.aj e;have hz:(fs.map (·.1)).length<=Ym:=by rw [Yb,WR];omega
 refine Zwv I.cg O c.sa c.po n.BI c.hd wi hz fun h' O' sb=>h _ ?_;have hd:∃ o,h'.get? dx=some o:=let ⟨o,_,_,e',_⟩:=O'.ns;⟨o,e'⟩
 refine I.write (x:=a) (e:=dx) (by rw [e];exact XX) (.inr ho) (fun b q hb z=>(sb.2 b hb).trans z) hd ?_;refine ⟨by rw [Zf O.ne];exact ho,?_,O.ne,O'.obj,_,O'.ns,fun g=>?_,fun g hg=>?_⟩
 .have:=ZlF f y fs;omega
 .show b9 ((au f y fs).lookup g) (if g=f then some u else mA g);rw [Zo]
  by_cases q:g=f
  .rw [if_pos q,if_pos q];exact ry
  .rw [if_neg q,if_neg q];exact r g
 .by_cases q:g=f
  .rw [q];exact (HG f y fs).1
  .refine (HG f y fs).2 g (wi g fun z=>hg ?_);show (if g=f then some u else mA g)=none;rw [if_neg q];exact z
theorem Inv.made (I:Inv X pins σ H s):Inv X pins σ (upd (upd H s.heap.objs.size (.own (s.heap.objs.size + 1))) (s.heap.objs.size + 1) (.ins C s.heap.objs.size []))
  {s with heap:=(s.heap.push Xu).push (X9 C s.heap.objs.size)}:=by
 have e1:(s.heap.push Xu).get? s.heap.objs.size=some Xu:=Yi s.heap rfl
 have e2:((s.heap.push Xu).push (X9 C s.heap.objs.size)).get? (s.heap.objs.size + 1)=some (X9 C s.heap.objs.size):=by
  have:=Yi (s.heap.push Xu) (o:=X9 C s.heap.objs.size) rfl
  rwa [XN] at this
 have e3:(s.heap.push Xu).Ns s.heap.objs.size (fun _=>none):=⟨Xu,#[],_,e1,rfl,(fun e he=>absurd he (by simp)),fun _=>rfl⟩
 have I1:=I.laid (a:=s.heap.objs.size) (o:=.own (s.heap.objs.size + 1)) (h':=s.heap.push Xu) (t':=s.toks) (fun b u q=>Yc _ q) (Ye _) ⟨_,e1⟩;refine I1.laid (a:=s.heap.objs.size + 1) (o:=.ins C s.heap.objs.size []) (t':=s.toks) (fun b u q=>Yc _ q) (WW (XN _ _)) ?_;have ne:s.heap.objs.size≠s.heap.objs.size + 1:=Yu (Nat.lt_succ_self _);refine ⟨by rw [Zf ne,Zb],Yv _,ne,e2,fun _=>none,(Heap.Ns1.of_empty e3).at fun o q=>Yc _ q,fun _=>XX,fun y hy=>absurd rfl hy⟩
theorem Zxb {prog:Program} {w:World} {env:Env} {e:Expr} {f:Str} {pos:Pos} {s:Shared} {Q:Value->Shared->Prop} (hb:W2 e f env (eval e env)=eval e env)
  (h:wpAny (model prog w) A (eval e env) (fun o aC=>wpAny (model prog w) A (getAttr o f true) Q E aC) E s):wpAny (model prog w) A (eval (.Attribute e f pos) env) Q E s:=
 Attribute_any_ h (by rw [arm_eval_Attribute,hb])
end
inductive By (K:Yf) (f:Str) (x:V) (H1:Hp) (Q:VK):Prop
 | mk (a:_) (C:_) (dx:_) (fs:_) (v:_):x=.ref a->H1 a=some (.ins C dx fs)->Cls K C->fi K C f->fs.lookup f=some v->Q v H1->By K f x H1 Q
def L' (K:Yf) (ta:TE) (f:Str):TE:=fun σ H Q=>ta σ H fun x H1=>By K f x H1 Q
def Mc (K:Yf) (ta tv:TE) (f:Str):TS:=fun D σ H=>tv σ H fun y H1=>ta σ H1 fun x H2=>∃ a C dx fs,x=.ref a/\H2 a=some (.ins C dx fs)/\Cls K C/\fi K C f/\fs.length < 1000/\
 D.nx σ (upd H2 a (.ins C dx (au f y fs)))
section
variable {X:Cx} {o e value:Expr} {f:Str} {pos pos' LR:Pos} {ta tv:TE}
theorem Zv (he:PE X e ta) (hb:W2 e f X.env (eval e X.env)=eval e X.env):PE X (.Attribute e f pos) (L' X.K ta f):=by
 try unfold PE at *
 intro pins s σ H Q I h;refine Zxb hb (aH (he pins s σ H _ I h) fun u s1 ⟨x,H1,I1,rx,a,C,dx,fs,v,ex,ea,c,n,l,q⟩=>?_);subst ex;obtain rfl:u=Value.ref a:=rx;exact ZsR I1 ea c n l fun u' s2 I2 ru=>⟨v,H1,I2,ru,q⟩
theorem fW (ha:PE X o ta) (hv:PE X value tv) (hs:swapsWith value (some (.Attribute o f pos')) pos.line X.env=pure false):PS X (.Assign [.Attribute o f pos'] value pos) (Mc X.K ta tv f):=by
 try unfold PE at *;try unfold PS at *
 intro pins s σ H D I h;refine plainObj_wpAny_Assign_Attribute (aH (hv pins s σ H _ I h) fun u s1 ⟨y,H1,I1,ry,q⟩=>aH (ha pins s1 σ H1 _ I1 q) fun ov s2 ⟨x,H2,I2,rx,a,C,dx,fs,ex,ea,c,n,l,q2⟩=>?_) hs;subst ex;obtain rfl:ov=Value.ref a:=rx;exact Zsn I2 ea c n l ry fun s3 I3=>⟨σ,_,I3,q2⟩
end
section
variable {X:Cx} {pins:List (Addr×Obj)} {σ:St} {H:Hp} {s:Shared} {A:Around} {E:Value->Shared->Prop} {Q:Value->Shared->Prop} {c:Value} {b:Bool}
inductive eP (K:Yf) (H:Hp):V->Value->Prop where
 | aK:eP K H .aK (.type "NoneType")
 | bl (x:Bool):eP K H (.bl x) (.type "bool")
 | int (i:Int):eP K H (.int i) (.type "int")
 | str (x:Str):eP K H (.str x) (.type "str")
 | qA (x:UInt64):eP K H (.qA x) (.type "float")
 | lst {a:Addr} {xs:List V} (e:H a=some (.lst xs)):eP K H (.ref a) (.type "list")
 | bu {a:Addr} {o:Obj} {xs:List V} (e:H a=some (.bu o (.lst xs))):eP K H (.ref a) (.type "list")
 | tup {a:Addr} {xs:List V} (e:H a=some (.tup xs)):eP K H (.ref a) (.type "tuple")
 | dK {a:Addr} {kvs:List (Key×V)} (e:H a=some (.dK kvs)):eP K H (.ref a) (.type "dict")
 | dT {a:Addr} {kvs:List (List Key×V)} (e:H a=some (.dT kvs)):eP K H (.ref a) (.type "dict")
 | ins {a C dx:Addr} {fs:List (Str×V)} (e:H a=some (.ins C dx fs)) (cl:Cls K C) (ha:Xm K (.ref C) "__class__"=some (some (.builtin "object.__class__")))
   (hn:PySem.W.specialIn K (.builtin "object.__class__") "__get__"=some (some (.builtin "getset_descriptor.__get__"))) (kE:PySem.W.takesIn K (.builtin "object.__class__")=some true)
   (hm:PySem.W.mroIn K C (.type "object")=some true):eP K H (.ref a) (.ref C)
theorem ZpQ {x:V} {u t:Value} (I:Inv X pins σ H s) (rx:RelV x u) (ty:eP X.K H x t) (e:Yae X.K t c=some b) (h:∀ tk,Q (.bool b) {s with toks:=tk}) :
  wpAny (model X.prog X.w) A (call (.builtin "isinstance") [u,c]) Q E s:=by
 cases ty with
 | aK=>cases (show u=Value.none from rx);exact Xo PySem.W.kitx_none I.cg XX e (fun z=>nomatch z) h
 | bl y=>cases (show u=Value.bool y from rx);exact Xo PySem.W.kitx_bool I.cg XX e (fun z=>nomatch z) h
 | int i=>obtain ⟨t,q⟩:=(show ∃ t,u=Value.int i t from rx);cases q;exact Xo PySem.W.kitx_int I.cg XX e (fun z=>nomatch z) h
 | str y=>obtain ⟨t,q⟩:=(show ∃ t,u=Value.str y t from rx);cases q;exact Xo PySem.W.kitx_str I.cg XX e (fun z=>nomatch z) h
 | qA y=>obtain ⟨t,q⟩:=(show ∃ t,u=Value.float y t from rx);cases q;exact Xo PySem.W.kitx_float I.cg XX e (fun z=>nomatch z) h
 | @lst a xs ea=>
  cases (show u=Value.ref a from rx)
  obtain ⟨_,_,n,_,h1⟩:=(show bU X.prog X.w H s.heap a (.lst xs) from I.aj a _ ea)
  exact Xo PySem.W.kitx_list I.cg ⟨_,h1,rfl⟩ e (fun z=>nomatch z) h
 | @bu a ob xs ea=>
  cases (show u=Value.ref a from rx)
  obtain ⟨_,_,_,n,_,h1⟩:=(show bU X.prog X.w H s.heap a (.bu ob (.lst xs)) from I.aj a _ ea)
  exact Xo PySem.W.kitx_list I.cg ⟨_,h1,rfl⟩ e (fun z=>nomatch z) h
 | @tup a xs ea=>
  cases (show u=Value.ref a from rx)
  obtain ⟨_,_,_,p⟩:=(show bU X.prog X.w H s.heap a (.tup xs) from I.aj a _ ea)
  obtain ⟨o,h1,h2,_⟩:=p;exact Xo PySem.W.kitx_tuple I.cg ⟨o,h1,h2⟩ e (fun z=>nomatch z) h
 | @dK a kvs ea=>
  cases (show u=Value.ref a from rx)
  obtain ⟨_,_,vs,_,p⟩:=(show bU X.prog X.w H s.heap a (.dK kvs) from I.aj a _ ea)
  obtain ⟨o,es,ep,h1,h2,_⟩:=p;exact Xo PySem.W.kitx_dict I.cg ⟨o,h1,h2.1⟩ e (fun z=>nomatch z) h
 | @dT a kvs ea=>
  cases (show u=Value.ref a from rx)
  obtain ⟨_,_,xs,_,o,es,ep,h1,h2,_⟩:=(show bU X.prog X.w H s.heap a (.dT kvs) from I.aj a _ ea)
  exact Xo PySem.W.kitx_dict I.cg ⟨o,h1,h2.1⟩ e (fun z=>nomatch z) h
 | @ins a C dx fs ea cl ha hn kE hm=>
  cases (show u=Value.ref a from rx)
  obtain ⟨mA,O,_⟩:=C6 I.aj ea;obtain ⟨od,J,_⟩:=O.look;exact Xo (PySem.W.kitx_own (cl.get _) cl.hd ha hn kE hm) I.cg J e (fun z=>nomatch z) h
end
end L2
namespace L2
open PySem PySem.Spec PyProof.Rows
structure aV (k:Nat) (A:Around):Prop where
 hd:A.handled=none
 dp:A.depth + 3 * k + 5 < YaF
 un:A.units + 16 * k + 200 < cLine
theorem aV.mono {j k:Nat} {A:Around} (r:aV k A) (h:j<=k):aV j A:=⟨r.hd,by have:=r.dp;omega,by have:=r.un;omega⟩
theorem aV.deeper {k:Nat} {A:Around} (r:aV (k + 1) A) (env:Env):aV k (A.deeper env):=
 ⟨r.hd,by have:=r.dp;show A.depth + 1 + 3 * k + 5 < _;omega,by have:=r.un;show A.units + 3 + 16 * k + 200 < _;omega⟩
theorem ZsK {A:Around} {C:Addr} {us:List Value} {kw:List (Str×Value)}:(A.under (.builtin "type.__call__" ⟨.ref C::us,kw⟩)).depth=A.depth + 1:=by
 first | rfl | simp [Around.under,Code.weight,Code.isCreation,Code.isGuard,Code.isCaller,Code.frames,Code.isFrame,guardIds]
theorem ZsJ {A:Around} {C:Addr} {us:List Value} {kw:List (Str×Value)}:(A.under (.builtin "type.__call__" ⟨.ref C::us,kw⟩)).units=A.units + 1:=by
 first | rfl | simp [Around.under,Code.cUnits,Code.frames,Code.isFrame]
theorem aV.make {k:Nat} {A:Around} (r:aV (k + 1) A) (C:Addr) (us:List Value) (kw:List (Str×Value)):aV k (A.under (.builtin "type.__call__" ⟨.ref C::us,kw⟩)):=
 ⟨r.hd,by have:=r.dp;rw [ZsK];omega,by have:=r.un;rw [ZsJ];omega⟩
theorem aV.depth {k:Nat} {A:Around} (r:aV k A):A.depth < YaF:=by have:=r.dp;omega
theorem aV.units {k:Nat} {A:Around} (r:aV k A):A.units + 64 < cLine:=by have:=r.un;omega
def bq:TA:=fun _ H Q=>Q [] H
def c9 (ta:TE) (tr:TA):TA:=fun σ H Q=>ta σ H fun x H1=>tr σ H1 fun xs H2=>Q (x::xs) H2
section
variable {X:Cx} {e:Expr} {es:List Expr} {te:TE} {t:TA} {pos:Pos}
theorem Ze:PA X [] bq:=by
 try unfold PA at *
 exact fun _ _ _ _ H Q I h=>WK ⟨[],H,I,.nil,h⟩
theorem Za (ha:PE X e te) (hr:PA X es t) (hs:Yx (e::es) X.env=(false,eval e X.env)::Yx es X.env:=by rfl):PA X (e::es) (c9 te t):=by
 try unfold PE at *;try unfold PA at *
 intro pos pins s σ H Q I h;rw [hs];show wpAny _ _ (spliced ((false,eval e X.env)::Wi pos (Yx es X.env))) _ _ s;refine XD (aH (ha pins s σ H _ I h) fun u s1 ⟨x,H1,I1,r1,q1⟩=>?_);exact aH (hr pos pins s1 σ H1 _ I1 q1) fun us s2 ⟨xs,H2,I2,r2,q2⟩=>⟨x::xs,H2,I2,.cons r1 r2,q2⟩
def vH (t:TA):TE:=fun σ H Q=>t σ H fun xs H1=>xs.length<=Ym/\∀ p,H1 p=none->Q (.ref p) (upd H1 p (.tup xs))
def LY (t:TA):TE:=fun σ H Q=>t σ H fun xs H1=>xs.length<=Ym/\∀ p,H1 p=none->Q (.ref p) (upd H1 p (.lst xs))
theorem dH {x1} (h:PA X es t):PE X (.Tuple es x1 pos) (vH t):=by
 try unfold PE at *;try unfold PA at *
 intro pins s σ H Q I hq;refine wpAny_Tuple_spliced (aH (h pos pins s σ H _ I hq) fun us s1 ⟨xs,H1,I1,r,z,q⟩=>⟨by rw [<- r.length];exact z,?_⟩);have hf:H1 s1.heap.objs.size=none:=I1.aj.fresh (Ye _);refine ⟨.ref s1.heap.objs.size,upd H1 s1.heap.objs.size (.tup xs),I1.laid (t':=s1.toks) (fun b u e=>Yc _ e) (Ye _) ?_,rfl,q _ hf⟩;exact ⟨z,us,r,⟨_,Yi _ rfl,rfl,_,rfl⟩⟩
theorem fV (h:PA X es t):PE X (.List es pos) (LY t):=by
 try unfold PE at *;try unfold PA at *
 intro pins s σ H Q I hq;refine wpAny_List_spliced (aH (h pos pins s σ H _ I hq) fun us s1 ⟨xs,H1,I1,r,z,q⟩=>⟨by rw [<- r.length];exact z,?_⟩);have hf:H1 s1.heap.objs.size=none:=I1.aj.fresh (Ye _);refine ⟨.ref s1.heap.objs.size,upd H1 s1.heap.objs.size (.lst xs),I1.laid (t':=s1.toks) (fun b u e=>Yc _ e) (Ye _) ?_,rfl,q _ hf⟩;exact ⟨z,us,0,r,Yi _ rfl⟩
end
abbrev Sp:=List V->Hp->VK->XK->Prop
abbrev jK:=List Env->Hp->Shared->XK->Value->Shared->Prop
structure jg (P:Program) (w:World) (K:Yf) (mg:Str->Option Value) (base:Heap) (A:Around) (outer:List Env) (s:Shared) (H:Hp):Prop where
 frames:A.frames=some outer
 mod:Mod K mg base
 bs:∀ b o,base.get? b=some o->s.heap.get? b=some o/\H b=none
 kR:base.objs.size<=s.heap.objs.size
 bJ:s.heap.FunFrames base outer
 mC:∀ b∈bM outer,H b=none
 aj:cE P w H s.heap
 bare:AllBare s.gens
def CE (outer:List Env) (P:Program) (w:World) (H:Hp) (s:Shared) (Q:VK) (u:Value) (s':Shared):Prop:=
 ∃ v H',s'.os=s.os/\AllBare s'.gens/\Un (bM outer) [] H H' s.heap s'.heap/\cE P w H' s'.heap/\RelV v u/\Q v H'
def CR (CX:jK) (outer:List Env) (P:Program) (w:World) (H:Hp) (s:Shared) (Q:VK) (E:XK) (r:Result) (s':Shared):Prop:=
 match r with
 | .ok (.ret u)=>CE outer P w H s Q u s'
 | .ok _=>False
 | .error e=>CX outer H s E e s'
structure ah (P:Program) (w:World) (K:Yf) (mg:Str->Option Value) (base:Heap) (CX:jK) (k:Nat) (f:Addr) (fd:Yl) (ps:List Str) (sp:Sp):Prop where
 len:∀ vs H Q E,sp vs H Q E->vs.length=ps.length
 run:∀ (A:Around) (outer:List Env) (s:Shared) (H:Hp) (args:Args) (us:List Value) (vs:List V) (Q:VK) (E:XK),aV k A->jg P w K mg base A outer s H->BindsTo s fd args (ps.zip us)->Vals vs us->sp vs H Q E->
  Yas (model P w) A (.call (.ref f) args) (CR CX outer P w H s Q E) s
theorem jg.make {P:Program} {w:World} {K:Yf} {mg:Str->Option Value} {base:Heap} {A:Around} {outer:List Env} {s:Shared} {H:Hp} (e:jg P w K mg base A outer s H) (C:Addr) (us:List Value) (kw:List (Str×Value)) :
  jg P w K mg base (A.under (.builtin "type.__call__" ⟨.ref C::us,kw⟩)) outer s H:=⟨by first | exact e.frames | (simpa [Around.under,Code.envs,Code.isFrame,pushEnvs] using e.frames),e.mod,e.bs,e.kR,e.bJ,e.mC,e.aj,e.bare⟩
section
variable {X:Cx} {pins:List (Addr×Obj)} {σ:St} {H:Hp} {s s':Shared}
theorem Inv.wk (I:Inv X pins σ H s):jg X.prog X.w X.K X.mg X.base X.A X.stack s H:=
 ⟨I.ok.frames,I.ok.mod,I.bs,Yk I.ok.kR I.sz,I.stack,I.cw,I.aj,I.bare⟩
theorem Inv.after {Q:VK} {u:Value} (I:Inv X pins σ H s) (h:CE X.stack X.prog X.w H s Q u s'):EP X pins σ Q u s':=by
 obtain ⟨v,H',os,bare,un,aj,r,q⟩:=h;obtain ⟨hh,g,d,t,os'⟩:=s';obtain rfl:os'=s.os:=os;exact ⟨v,H',I.call (h':=hh) (g':=g) (d':=d) (t':=t) (ch:=[]) un aj bare (fun b z=>absurd z (by simp)),r,q⟩
end
def Ga (sp:Sp) (gc:List V) (E:St->XK) (t:TA):TE:=fun σ H Q=>t σ H fun vs H1=>sp (vs++gc) H1 Q (E σ)
def mD (C:Addr) (m:Str) (sp:Sp) (gc:List V) (E:St->XK) (ta:TE) (t:TA):TE:=fun σ H Q=>ta σ H fun x H1=>∃ a dx fs,x=.ref a/\H1 a=some (.ins C dx fs)/\fs.lookup m=none/\
 t σ H1 fun vs H2=>sp (x::(vs++gc)) H2 Q (E σ)
def ZyE (C:Addr) (sp:Sp) (gc:List V) (E:St->XK) (t:TA):TE:=fun σ H Q=>t σ H fun vs H1=>∀ x dx,H1 x=none->H1 dx=none->dx≠x->
 sp (.ref x::(vs++gc)) (upd (upd H1 dx (.own x)) x (.ins C dx [])) (fun v H2=>v=.aK/\Q (.ref x) H2) (E σ)
def ZF (K:Yf) (fd:Yl) (ps:List Str) (ds:List Value):Prop:=
 ∀ (s:Shared) (us:List Value),K.In s.heap->(us++ds).length=ps.length->BindsTo s fd ⟨us,[]⟩ (ps.zip (us++ds))
theorem ZF.all {K:Yf} {fd:Yl} {ps:List Str} (h:∀ us:List Value,us.length=ps.length->bindArgs fd ⟨us,[]⟩=pure (ps.zip us)):ZF K fd ps []:=fun s us _ hl=>by
 rw [Xf] at hl ⊢;exact .of_eq (h us hl)
def lS (CX:jK) (X:Cx) (E:St->XK):Prop:=∀ (pins:List (Addr×Obj)) (σ:St) (H:Hp) (s:Shared) (e:Value) (s':Shared),Inv X pins σ H s->CX X.stack H s (E σ) e s'->X.xe e s'
section
variable {X:Cx} {CX:jK} {k:Nat} {f C:Addr} {fd:Yl} {ps:List Str} {sp:Sp} {gc:List V} {ds:List Value} {E:St->XK} {x m:Str} {p pos apos:Pos} {e o:Expr} {es:List Expr} {ta:TE} {t:TA}
theorem zL {pins:List (Addr×Obj)} {σ:St} {H:Hp} {s:Shared} {Q:VK} {us:List Value} {vs:List V} (F:ah X.prog X.w X.K X.mg X.base CX k f fd ps sp) (hr:aV k X.A) (hb:ZF X.K fd ps ds) (hd:Vals gc ds) (hx:lS CX X E)
  (I:Inv X pins σ H s) (r:Vals vs us) (h:sp (vs++gc) H Q (E σ)):wpAny (model X.prog X.w) X.A (call (.ref f) us) (EP X pins σ Q) X.xe s:=by
 have r2:Vals (vs++gc) (us++ds):=r.append hd;have hl:(us++ds).length=ps.length:=by rw [<- r2.length];exact F.len _ _ _ _ h
 refine wpAny_call (YaA (F.run X.A X.stack s H ⟨us,[]⟩ (us++ds) (vs++gc) Q (E σ) hr I.wk (hb s us I.cg hl) r2 h) fun r s' hq=>?_)
 cases r with
 | error e=>exact hx pins σ H s e s' I hq
 | ok fl=>
  cases fl with
  | ret u=>exact I.after hq
  | next=>exact Xa hq
  | brk=>exact Xa hq
  | cont=>exact Xa hq
theorem Zn (F:ah X.prog X.w X.K X.mg X.base CX k f fd ps sp) (hr:aV k X.A) (hg:Gl X x) (hm:X.mg x=some (.ref f)) (hk:XM X.K (.ref f)=true) (hb:ZF X.K fd ps ds) (hd:Vals gc ds) (hx:lS CX X E)
  (ha:PA X (e::es) t) (kQ:(x == ("__debug__":Str))=false:=by decide) (he:Yx (e::es) X.env=(false,eval e X.env)::Yx es X.env:=by rfl) (cK:(Wi pos (Yx es X.env)).any (·.1)=false:=by rfl) :
  PE X (.Call (.Name x p) (e::es) [] pos) (Ga sp gc E t):=by
 try unfold PE at *;try unfold PA at *
 intro pins s σ H Q I h;refine XC (sL I hg hm ?_ kQ);refine W9 (h₀:=X.base) I.ok.mod.nH hk (aH (ha pos pins s σ H _ I h) fun us s1 ⟨vs,H1,I1,r,q⟩=>⟨I1.cg,?_⟩) he cK;exact zL F hr hb hd hx I1 r q
theorem Zu8 (F:ah X.prog X.w X.K X.mg X.base CX k f fd ps sp) (hr:aV k X.A) (hg:Gl X x) (hm:X.mg x=some (.ref f)) (hk:XM X.K (.ref f)=true) (hb:ZF X.K fd ps ds) (hd:Vals gc ds) (hx:lS CX X E)
  (kQ:(x == ("__debug__":Str))=false:=by decide):PE X (.Call (.Name x p) [] [] pos) (Ga sp gc E bq):=by
 try unfold PE at *
 intro pins s σ H Q I h;refine XC (sL I hg hm ?_ kQ);exact YbO I.cg hk (zL (us:=[]) F hr hb hd hx I .nil h)
theorem ZP {pl:Sem Bool} (he:PE X o ta) (c:Cls X.K C) (hm:Meth X.K C m f) (F:ah X.prog X.w X.K X.mg X.base CX k f fd ps sp) (hr:aV k X.A) (hb:ZF X.K fd ps ds) (hd:Vals gc ds) (hx:lS CX X E) (ha:PA X (e::es) t)
  (cP:Yx (e::es) X.env=(false,eval e X.env)::Yx es X.env:=by rfl) (cK:(Wi pos (Yx es X.env)).any (·.1)=false:=by rfl)
  (ht:eval (.Call (.Attribute o m apos) (e::es) [] pos) X.env=(do
   let ov <- eval o X.env
   standAt apos.atName
   let (f,first) <- holding [ov] (getMethod ov m pl)
   callWith pos f first (Wi pos (Yx (e::es) X.env)) (backToKw pos (YaW [] X.env))):=by rfl) :
  PE X (.Call (.Attribute o m apos) (e::es) [] pos) (mD C m sp gc E ta t):=by
 try unfold PE at *;try unfold PA at *
 intro pins s σ H Q I h;refine PySem.W.methodCall_KW (pl:=pl) (aH (he pins s σ H _ I h) fun u s1 ⟨x,H1,I1,rx,a,dx,fs,ex,ea,l,q⟩=>?_) ht;subst ex;obtain rfl:u=Value.ref a:=rx;refine Znf I1 ea c hm l ?_;refine W9 (first:=[.ref a]) (h₀:=X.base) I.ok.mod.nH hm.kp (aH (ha pos pins s1 σ H1 _ I1 q) fun us s2 ⟨vs,H2,I2,r,q2⟩=>⟨I2.cg,?_⟩) cP cK;exact zL (us:=.ref a::us) (vs:=.ref a::vs) F hr hb hd hx I2 (.cons rfl r) q2
theorem nB {pl:Sem Bool} (he:PE X o ta) (c:Cls X.K C) (hm:Meth X.K C m f) (F:ah X.prog X.w X.K X.mg X.base CX k f fd ps sp) (hr:aV k X.A) (hb:ZF X.K fd ps ds) (hd:Vals gc ds) (hx:lS CX X E)
  (ht:eval (.Call (.Attribute o m apos) [] [] pos) X.env=(do
   let ov <- eval o X.env
   standAt apos.atName
   let (f,first) <- holding [ov] (getMethod ov m pl)
   callWith pos f first (Wi pos (Yx [] X.env)) (backToKw pos (YaW [] X.env))):=by rfl) :
  PE X (.Call (.Attribute o m apos) [] [] pos) (mD C m sp gc E ta bq):=by
 try unfold PE at *
 intro pins s σ H Q I h;refine PySem.W.methodCall_KW (pl:=pl) (aH (he pins s σ H _ I h) fun u s1 ⟨x,H1,I1,rx,a,dx,fs,ex,ea,l,q⟩=>?_) ht;subst ex;obtain rfl:u=Value.ref a:=rx;refine Znf I1 ea c hm l ?_;exact YbO (first:=[.ref a]) I1.cg hm.kp (zL (us:=[.ref a]) (vs:=[.ref a]) F hr hb hd hx I1 (.cons rfl .nil) q)
structure Mk (K:Yf) (C f:Addr):Prop where
 makes:PySem.W.makesIn K C=true
 init:Xm K (.ref C) "__init__"=some (some (.ref f))
 fn:PySem.W.isFn K (.ref f)=true
 kp:XM K (.ref C)=true
theorem ZuZ {pins:List (Addr×Obj)} {σ:St} {H:Hp} {s:Shared} {Q:VK} {us:List Value} {vs:List V} (M:Mk X.K C f) (F:ah X.prog X.w X.K X.mg X.base CX k f fd ps sp) (hr:aV (k + 1) X.A) (hb:ZF X.K fd ps ds) (hd:Vals gc ds)
  (hx:lS CX X E) (I:Inv X pins σ H s) (r:Vals vs us)
  (h:∀ x dx,H x=none->H dx=none->dx≠x->sp (.ref x::(vs++gc)) (upd (upd H dx (.own x)) x (.ins C dx [])) (fun v H2=>v=.aK/\Q (.ref x) H2) (E σ)) :
  wpAny (model X.prog X.w) X.A (call (.ref C) us) (EP X pins σ Q) X.xe s:=by
 have hq:=h (s.heap.objs.size + 1) s.heap.objs.size (I.aj.fresh (Wz _)) (I.aj.fresh (Ye _)) (Yu (Nat.lt_succ_self _));have I2:=Inv.made (C:=C) I;have r2:Vals (V.ref (s.heap.objs.size + 1)::(vs++gc)) (Value.ref (s.heap.objs.size + 1)::(us++ds)):=.cons rfl (r.append hd)
 have hl:(Value.ref (s.heap.objs.size + 1)::us++ds).length=ps.length:=by
  have e:=r2.length;rw [F.len _ _ _ _ hq] at e;exact e.symm
 refine wpAny_call (Zvj (f:=f) I.cg M.makes M.init (beq_iff_eq.mp M.fn) (YaA (F.run _ X.stack _ _ ⟨Value.ref (s.heap.objs.size + 1)::us,[]⟩ (Value.ref (s.heap.objs.size + 1)::(us++ds)) _ _ (E σ) (hr.make C us [])
  (I2.wk.make C us []) (hb _ (Value.ref (s.heap.objs.size + 1)::us) I2.cg hl) r2 hq) fun r s' y0=>?_))
 cases r with
 | error e=>exact hx pins σ _ _ e s' I2 y0
 | ok fl=>
  cases fl with
  | ret u=>
   obtain ⟨v,H',I3,rv,ev,q3⟩:=I2.after y0;subst ev;exact ⟨rv,⟨V.ref (s.heap.objs.size + 1),H',I3,rfl,q3⟩⟩
  | next=>exact Xa y0
  | brk=>exact Xa y0
  | cont=>exact Xa y0
theorem qJ (M:Mk X.K C f) (F:ah X.prog X.w X.K X.mg X.base CX k f fd ps sp) (hr:aV (k + 1) X.A) (hg:Gl X x) (hm:X.mg x=some (.ref C)) (hb:ZF X.K fd ps ds) (hd:Vals gc ds) (hx:lS CX X E)
  (ha:PA X (e::es) t) (kQ:(x == ("__debug__":Str))=false:=by decide) (he:Yx (e::es) X.env=(false,eval e X.env)::Yx es X.env:=by rfl) (cK:(Wi pos (Yx es X.env)).any (·.1)=false:=by rfl) :
  PE X (.Call (.Name x p) (e::es) [] pos) (ZyE C sp gc E t):=by
 try unfold PE at *;try unfold PA at *
 intro pins s σ H Q I h;refine XC (sL I hg hm ?_ kQ);refine W9 (h₀:=X.base) I.ok.mod.nH M.kp (aH (ha pos pins s σ H _ I h) fun us s1 ⟨vs,H1,I1,r,q⟩=>⟨I1.cg,?_⟩) he cK;exact ZuZ M F hr hb hd hx I1 r q
end
section
variable {X:Cx} {CX:jK} {k:Nat} {f C:Addr} {fd:Yl} {ps ks:List Str} {sp:Sp} {E:St->XK} {x m:Str} {p pos apos kpos:Pos} {e o:Expr} {es:List Expr} {kws:List Keyword} {te ta:TE} {t tk:TA} {nm:Option Str}
variable {g:List Value->List Value->List Value} {gV:List V->List V->List V}
end
structure Zp (N P:List Str) (sc:Scope):Prop where
 kind:sc.kind=.function
 co:sc.isCoroutine=false
 gen:sc.isGenerator=false
 nd:N.Nodup
 pre:N.take P.length=P
 par:∀ x∈P,sc.names.lookup x=some .local∨sc.names.lookup x=some .cell
 wx:∀ y∈sc.names,y.2≠.free
theorem Zql {kindOf:Str->Option Yau} {x:Str}:∀ {binds:List (Str×Value)} {m:Str->Option Value},(∀ v,(x,v) ∉ binds)->bindL kindOf binds m x=m x
  | [],_,_=>rfl
  | (n,v)::r,m,h=>by
    unfold bindL;rw [Zql fun w hw=>h w (Yr _ hw)]
    split
    · have:x≠n:=by rintro rfl;exact h v YA
      simp [this]
    · rfl
theorem Zqn {kindOf:Str->Option Yau} {x:Str}:∀ {binds:List (Str×Value)} {m:Str->Option Value},(∀ v,(x,v) ∉ binds)->bindC kindOf binds m x=m x
  | [],_,_=>rfl
  | (n,v)::r,m,h=>by
    unfold bindC;rw [Zqn fun w hw=>h w (Yr _ hw)]
    split
    · rfl
    · have:x≠n:=by rintro rfl;exact h v YA
      simp [this]
theorem Zqm {kindOf:Str->Option Yau} {x:Str} {v:Value}:∀ {P:List Str} {vs:List Value} {i:Nat} {m:Str->Option Value},P.Nodup->P[i]?=some x->vs[i]?=some v->kindOf x=some .local->
  bindL kindOf (P.zip vs) m x=some v
 | [],_,_,_,_,h,_,_=>by simp at h
 | _::_,[],_,_,_,_,h,_=>by simp at h
 | p::P,w::vs,0,m,nd,h1,h2,hk=>by
  simp at h1 h2;subst h1;subst h2
  show bindL kindOf ((p,w)::P.zip vs) m p=_;unfold bindL;rw [Zql fun v hv=>(List.nodup_cons.mp nd).1 (Ybu hv).1,if_pos hk]
  simp
 | p::P,w::vs,i + 1,m,nd,h1,h2,hk=>by
  show bindL kindOf ((p,w)::P.zip vs) m x=_;unfold bindL;exact Zqm (i:=i) (List.nodup_cons.mp nd).2 (by simpa using h1) (by simpa using h2) hk
theorem Zqo {kindOf:Str->Option Yau} {x:Str} {v:Value}:∀ {P:List Str} {vs:List Value} {i:Nat} {m:Str->Option Value},P.Nodup->P[i]?=some x->vs[i]?=some v->kindOf x≠some .local->
  bindC kindOf (P.zip vs) m x=some v
 | [],_,_,_,_,h,_,_=>by simp at h
 | _::_,[],_,_,_,_,h,_=>by simp at h
 | p::P,w::vs,0,m,nd,h1,h2,hk=>by
  simp at h1 h2;subst h1;subst h2
  show bindC kindOf ((p,w)::P.zip vs) m p=_;unfold bindC;rw [Zqn fun v hv=>(List.nodup_cons.mp nd).1 (Ybu hv).1,if_neg hk]
  simp
 | p::P,w::vs,i + 1,m,nd,h1,h2,hk=>by
  show bindC kindOf ((p,w)::P.zip vs) m x=_;unfold bindC;exact Zqo (i:=i) (List.nodup_cons.mp nd).2 (by simpa using h1) (by simpa using h2) hk
def bz (N:List Str) (vs:List V):St:=vs.map some++List.replicate (N.length - vs.length) none
def a8 (CX:jK) (P:Program) (w:World) (K:Yf) (mg:Str->Option Value) (base:Heap) (N:List Str) (qual:Str) (scope:Scope) (f:Addr) (cd:Value) (A:Around) (outer:List Env) (s:Shared) (H:Hp) (E:XK):Cx where
 prog:=P
 w:=w
 K:=K
 mg:=mg
 base:=base
 A:=A.deeper (WI qual scope s.heap.objs.size f cd)
 N:=N
 ar:=s
 aO:=H
 env:=WI qual scope s.heap.objs.size f cd
 outer:=outer
 stack:=WI qual scope s.heap.objs.size f cd::outer
 ex:=[]
 calm:=true
 fn:=fun _=>true
 pn:=[]
 xe:=fun e s'=>wpAny (model P w) (A.deeper (WI qual scope s.heap.objs.size f cd)) (leaving (WI qual scope s.heap.objs.size f cd) e) (fun _ iW=>CX outer H s E e iW) (fun e' iW=>CX outer H s E e' iW) s'
theorem Zr1 {sc:Scope} {n:Nat} {x:Str} (h:sc.names.lookup x=some .cell):∃ c,(cellsFrom n sc.names []).lookup x=some c:=by
 have q:=Ybj sc.names n [] (.inl h);exact Option.isSome_iff_exists.mp q
theorem ZpR {CX:jK} {P:Program} {w:World} {K:Yf} {mg:Str->Option Value} {base:Heap} {N ps:List Str} {qual:Str} {scope:Scope} {f:Addr} {cd:Value} {A:Around} {outer:List Env} {s s1:Shared} {H:Hp} {E:XK} {us:List Value} {vs:List V}
  (S:Zp N ps scope) (hd:A.handled=none) (e0:jg P w K mg base A outer s H) (hl:vs.length=ps.length) (r:Vals vs us)
  (x:InCallC s s.heap.objs.size (bindL (WI qual scope s.heap.objs.size f cd).kindOf (ps.zip us) fun _=>none) (cellsFrom (s.heap.objs.size + 1) scope.names []) (bindC (WI qual scope s.heap.objs.size f cd).kindOf (ps.zip us) fun _=>none) s1) :
  Inv (a8 CX P w K mg base N qual scope f cd A outer s H E) [] (bz N vs) H s1:=by
 have cK:ps.length<=N.length:=by have:=congrArg List.length S.pre;rw [Y0] at this;omega
 obtain ⟨h1,tk,rfl,hk⟩:=x.done;have ui:∀ b:Addr,b ∉ (a8 CX P w K mg base N qual scope f cd A outer s H E).ex:=fun b z=>absurd (show b∈([]:List Addr) from z) (by simp)
 refine ⟨⟨e0.mod,S.kind,rfl,rfl,Ye _,fun y z c h1 h2=>?_,fun y hy=>?_,fun y c _ h=>?_,fun _=>hd,Around.frames_deeper e0.frames,.inr ⟨rfl,rfl⟩,fun b z=>absurd z (ui b),e0.bs,e0.kR,fun b _ _=>ui b,fun b z=>absurd z (ui b),e0.bJ,e0.mC⟩,
  rfl,e0.bare,Un.kept hk,⟨_,x.toInCall.ns,fun i y v h1 h2 h3=>?_⟩,fun y c h=>⟨_,x.cell y c h⟩,e0.aj.fresh (Ye _),fun y c h=>?_,fun p hp=>absurd (show p∈([]:List (Addr×Obj)) from hp) (by simp),e0.aj.kept hk,?_⟩
 .exact name_of_addr x.apart (XT h1) (XT h2)
 .have hy:scope.names.lookup y=some .cell∨scope.names.lookup y=some .free:=hy;rcases hy with hy | hy
  .exact Zr1 hy
  .exact absurd rfl (S.wx _ (XT hy))
 .exact WV (x.above y c (XT h))
 .have hi:i < vs.length:=by
   unfold bz at h2
   by_cases hi:i < vs.length
   .exact hi
   .rw [WM (by simpa using hi)] at h2;rw [List.getElem?_replicate] at h2
    split at h2 <;> cases h2
  have ha:vs[i]?=some v:=by
   unfold bz at h2;rw [YaO (by simpa using hi),Yo] at h2
   cases e:vs[i]? with
   | none=>rw [e] at h2;cases h2
   | some a=>rw [e] at h2;cases h2;rfl
  obtain ⟨u,hu,rv⟩:=r.get ha
  have hp:ps[i]?=some y:=by
   rw [<- S.pre,List.getElem?_take_of_lt (by omega)];exact h1
  have ndP:ps.Nodup:=by rw [<- S.pre];exact S.nd.sublist (List.take_sublist _ _)
  refine ⟨u,rv,?_⟩;rcases S.par y (Yy hp) with k | k
  .exact .inl ⟨k,Zqm ndP hp hu k⟩
  .obtain ⟨c,e⟩:=Zr1 (n:=s.heap.objs.size + 1) k;refine .inr ⟨.inl k,c,e,?_⟩;have q:=x.cell y c e;rw [Zqo ndP hp hu (by show scope.names.lookup y≠_;rw [k];decide)] at q;exact q
 .exact e0.aj.fresh (WV (x.above y c (XT h)))
 .unfold bz;show _=N.length;rw [Yg,Yb,YM];omega
theorem Gi {CX:jK} {P:Program} {w:World} {K:Yf} {mg:Str->Option Value} {base:Heap} {k:Nat} {f:Addr} {name qual:Str} {params:Arguments} {body:List Stmt} {scope:Scope} {dV kV doc pm aY ct oc:Value} {an od:Option Addr}
  {mq:Array (Option Value)} {N ps:List Str} {sp:Sp} (lk:K.lookup f=some ⟨oc,od,.func (XI name qual params body scope dV kV doc pm an aY ct),mq⟩) (g_:PySem.W.codeIn K aY qual=true) (S:Zp N ps scope)
  (len:∀ vs H Q E,sp vs H Q E->vs.length=ps.length)
  (b_:∀ (A:Around) (outer:List Env) (s:Shared) (H:Hp) (vs:List V) (Q:VK) (E:XK),aV k (A.deeper (WI qual scope s.heap.objs.size f aY))->sp vs H Q E->
   ∃ t,eO (a8 CX P w K mg base N qual scope f aY A outer s H E) body t/\t {nx:=fun _ H'=>Q .aK H',rt:=Q} (bz N vs) H) :
  ah P w K mg base CX (k + 1) f (XI name qual params body scope dV kV doc pm an aY ct) ps sp:=by
 refine ⟨len,fun A outer s H args us vs Q E hr e0 hb r fe=>?_⟩;have hl:=len _ _ _ _ fe;have KX:K.In s.heap:=e0.mod.nH.keeps fun b o e=>(e0.bs b o e).1;have lim:s.heap.NoLimit:=e0.mod.nolimit.keeps fun b o e=>(e0.bs b o e).1
 have oZ:∀ y∈ps.zip us,scope.names.lookup y.1=some .local∨(scope.names.lookup y.1=some .cell/\((cellsFrom (s.heap.objs.size + 1) scope.names []).lookup y.1).isSome=true):=fun ⟨n,v⟩ hy=>by
  rcases S.par n (Ybu hy).1 with q | q
  .exact .inl q
  .exact .inr ⟨q,Ybj _ _ _ (.inl q)⟩
 refine codeAny_call_function hr.depth (KX _ _ lk) rfl S.co S.gen rfl (PySem.W.codeRec_of KX g_) (hb _ _ _ _ ?_);refine wpAny_newFunctionEnv_cells S.kind oZ fun env he s1 x=>?_;subst he;refine ⟨lim.keeps x.toInCall.keep,codeAny_func ?_⟩;obtain ⟨t,ht,hq⟩:=b_ A outer s H vs Q E (hr.deeper _) fe;unfold eO at ht;have I:Inv (a8 CX P w K mg base N qual scope f aY A outer s H E) [] (bz N vs) H s1:=ZpR S hr.hd e0 hl r x;refine Xd (ht [] s1 (bz N vs) H _ I hq) (fun fl s' hs=>?_) fun e s' hs=>hs
 have fin:∀ {aB:St} {H':Hp} {v:V} {u:Value},Inv (a8 CX P w K mg base N qual scope f aY A outer s H E) [] aB H' s'->RelV v u->Q v H'->CE outer P w H s Q u s':=
  fun {aB H' v u} J rv q=>⟨v,H',J.os,J.bare,J.base,J.aj,rv,q⟩
 cases fl with
 | ret u=>
  obtain ⟨v,aB,H',J,rv,q⟩:=hs;exact fin J rv q
 | next=>
  obtain ⟨aB,H',J,q⟩:=hs;exact fin (v:=V.aK) (u:=Value.none) J rfl q
 | brk=>
  obtain ⟨_,_,_,q⟩:=hs;exact Xa q
 | cont=>
  obtain ⟨_,_,_,q⟩:=hs;exact Xa q
end L2
namespace L2
open PySem PySem.Spec PyProof.Rows
section
variable {X:Cx} {x:Str} {p pos:Pos} {e:Expr} {es:List Expr} {t:TA} {id T:String} {r:List V->Hp->VK->Prop}
def t8 (r:List V->Hp->VK->Prop) (t:TA):TE:=fun σ H Q=>t σ H fun vs H1=>r vs H1 Q
theorem ZD (hc:ff X (.builtin id) r) (hg:Gl X x) (hm:X.mg x=none) (hv:YaC x=some (.builtin id)) (ha:PA X (e::es) t) (hn:x≠"__name__":=by decide) (kQ:(x == ("__debug__":Str))=false:=by decide)
  (he:Yx (e::es) X.env=(false,eval e X.env)::Yx es X.env:=by rfl) (cK:(Wi pos (Yx es X.env)).any (·.1)=false:=by rfl):PE X (.Call (.Name x p) (e::es) [] pos) (t8 r t):=by
 try unfold PE at *;try unfold PA at *
 intro pins s σ H Q I h;refine XC (u_ I hg hm hv ?_ hn kQ);exact PyProof.Rows.callWith_builtin1 (aH (ha pos pins s σ H _ I h) fun us s1 ⟨vs,H1,I1,r1,q1⟩=>hc pins s1 σ H1 vs us Q I1 r1 q1) he cK
theorem ZT (hc:ff X (.type T) r) (hg:Gl X x) (hm:X.mg x=none) (hv:YaC x=some (.type T)) (ha:PA X (e::es) t) (hn:x≠"__name__":=by decide) (kQ:(x == ("__debug__":Str))=false:=by decide)
  (he:Yx (e::es) X.env=(false,eval e X.env)::Yx es X.env:=by rfl) (cK:(Wi pos (Yx es X.env)).any (·.1)=false:=by rfl):PE X (.Call (.Name x p) (e::es) [] pos) (t8 r t):=by
 try unfold PE at *;try unfold PA at *
 intro pins s σ H Q I h;refine XC (u_ I hg hm hv ?_ hn kQ);exact XY (aH (ha pos pins s σ H _ I h) fun us s1 ⟨vs,H1,I1,r1,q1⟩=>hc pins s1 σ H1 vs us Q I1 r1 q1) he cK
end
end L2
namespace HT
open PySem PyProof.Rows
section
open PySem.SeqAt
open PySem.AutoSeq1 (wpAny_loadPart')
open PySem.MeetsSeq PySem.MeetsSeq2 PySem.MeetsSeq3
end
section
variable {prog:Program} {w:World} {A:Around} {E:Value->Shared->Prop} {s:Shared}
theorem rF {t b:Addr} {vs ws:List Value} {Q:Value->Shared->Prop} (ht:IsTup s.heap t vs.toArray) (hb:IsTup s.heap b ws.toArray) (hv:vs≠[])
  (h1:ws=[]->Q (.ref t) s) (h2:ws≠[]->Q (.ref s.heap.objs.size) {s with heap:=s.heap.push {cls:=.type "tuple",data:=.seq (vs++ws).toArray}})
  (hsz:vs.length + ws.length<=Ym):wpAny (model prog w) A (Wv .Add (.ref t) (.ref b)) Q E s:=by
 obtain ⟨⟨cls,dd,data,sl⟩,ho,hc,n,hd⟩:=id ht;obtain ⟨⟨M8,xm,data2,kP⟩,qr,jO,n2,hd2⟩:=id hb
 simp only at hc hd jO hd2
 subst hc hd jO hd2;have e:vs.toArray++ws.toArray=(vs++ws).toArray:=by simp
 by_cases hw:ws=[]
 .exact concat_meets ⟨_,ho,rfl⟩ ⟨_,qr,rfl⟩ noFill_tuple_add seq_tuple_add Ybk Ybb (Ya0 _ _)
   (tuple_addW1 t b vs.toArray ws.toArray n n2 dd xm sl kP (by simpa using hv) (by simp [hw])) ⟨ho,qr,h1 hw⟩
 .refine concat_meets ⟨_,ho,rfl⟩ ⟨_,qr,rfl⟩ noFill_tuple_add seq_tuple_add Ybk Ybb (Ya0 _ _)
   (tuple_addW2 t b vs.toArray ws.toArray n n2 dd xm sl kP (by simpa using hv) (by simpa using hw) (by rw [Yn,Yn];exact hsz)) ⟨ho,qr,?_⟩
  rw [e];exact h2 hw
def a_ (n d:Nat):Option Int->Nat
 | none=>d
 | some v=>if v < 0 then (v + (n:Int)).toNat else min v.toNat n
theorem gF (n d:Nat):a_ n d none=d:=rfl
theorem cx (n d k:Nat):a_ n d (some (k:Int))=min k n:=by
 show (if (k:Int) < 0 then ((k:Int) + (n:Int)).toNat else min (k:Int).toNat n)=min k n;rw [if_neg (by omega),Xc]
theorem ZxE (n d:Nat) (hd:d<=n) (o:Option Int):a_ n d o<=n:=by
 cases o with
 | none=>exact hd
 | some v=>
  show (if v < 0 then (v + (n:Int)).toNat else min v.toNat n)<=n
  by_cases hv:v < 0
  .rw [if_pos hv];omega
  .rw [if_neg hv];exact Nat.min_le_right _ _
theorem ZuC (v:Int) (n d:Nat):(if v < 0 then max (v + (n:Int)) 0 else min v (n:Int))=((a_ n d (some v):Nat):Int):=by
 show (if v < 0 then max (v + (n:Int)) 0 else min v (n:Int))=(((if v < 0 then (v + (n:Int)).toNat else min v.toNat n):Nat):Int)
 by_cases hv:v < 0
 .simp only [if_pos hv];omega
 .simp only [if_neg hv];omega
theorem Zs0 (lo hi:Option Int) (n:Nat):YaR lo hi 1 (n:Int)=(((a_ n 0 lo:Nat):Int),((a_ n n hi:Nat):Int)):=by
 have h1:¬ ((1:Int) < 0):=by omega
 unfold YaR
 simp only [h1,if_false]
 refine Prod.ext ?_ ?_
 .cases lo with
  | none=>rfl
  | some v=>exact ZuC v n 0
 .cases hi with
  | none=>rfl
  | some v=>exact ZuC v n n
theorem Zsx (i j:Nat):WU (i:Int) (j:Int) 1=j - i:=by
 unfold WU;have h1:(1:Int) > 0:=by omega
 simp only [h1,if_true,Int.ediv_one]
 split <;> omega
theorem ZmO {v:Value} {o:Option Int} {Q:Option Int->Shared->Prop} (p:IsPart v o) (h:Q o s):wpAny (model prog w) A (Builtin.Slice.slicePartIndex v) Q E s:=by
 cases p with
 | none=>exact slicePart_none h
 | int i t=>exact slicePart_int h
theorem cf {sl:Addr} {vl vu:Value} {lo hi:Option Int} {n:Nat} {Q:Int×Int×Nat->Shared->Prop} (hs:s.heap.IsSliceOf sl vl vu .none) (pl:IsPart vl lo) (pu:IsPart vu hi)
  (h:Q (((a_ n 0 lo:Nat):Int),1,a_ n n hi - a_ n 0 lo) s):wpAny (model prog w) A (Builtin.Slice.sliceApplied (.ref sl) (pure (n:Int))) Q E s:=by
 obtain ⟨os,y6,zp,Cp⟩:=id hs;unfold Builtin.Slice.sliceApplied Builtin.Slice.sliceFields;refine Ya (Ya (Y3 y6 Cp (x:=vl) rfl (Ya (Y3 y6 Cp (x:=vu) rfl (Ya (Y3 y6 Cp (x:=.none) rfl (Yd ?_)))))));refine Ya (slicePart_none ?_);show wpAny _ _ (if ((1:Int) == 0)=true then _ else _) _ _ s;rw [if_neg (by decide)];refine Ya (ZmO pl (Ya (ZmO pu (Ya (Yd ?_)))));show wpAny _ _ (match YaR lo hi 1 (n:Int) with | (lo,hi)=>pure (lo,(1:Int),WU lo hi 1)) _ _ s;rw [Zs0 lo hi n];show wpAny _ _ (pure (((a_ n 0 lo:Nat):Int),(1:Int),WU ((a_ n 0 lo:Nat):Int) ((a_ n n hi:Nat):Int) 1)) _ _ s;rw [Zsx];exact Yd h
theorem Zu4 (xs:Array Value) (i k:Nat):((List.range k).filterMap fun (m:Nat)=>xs[((i:Int) + (m:Int) * 1).toNat]?).toArray=((xs.toList.drop i).take k).toArray:=by
 have e:(fun (m:Nat)=>xs[((i:Int) + (m:Int) * 1).toNat]?)=fun m=>xs[i + m]?:=by
  funext m
  have:((i:Int) + (m:Int) * 1).toNat=i + m:=by omega
  rw [this]
 rw [e]
 have:=pick_run xs i k
 rw [List.filterMap_map] at this;have e2:((fun x=>xs[x]?) ∘ fun x=>i + x)=fun m=>xs[i + m]?:=rfl;rw [e2] at this;rw [this]
theorem eA {t sl:Addr} {items:Array Value} {vl vu:Value} {lo hi:Option Int} {Q:Value->Shared->Prop} (ht:IsTup s.heap t items) (hs:s.heap.IsSliceOf sl vl vu .none) (pl:IsPart vl lo) (pu:IsPart vu hi)
  (hw:¬ (a_ items.size 0 lo=0/\a_ items.size items.size hi=items.size))
  (h:Q (.ref s.heap.objs.size) {s with heap:=s.heap.push {cls:=.type "tuple",data:=.seq ((items.toList.drop (a_ items.size 0 lo)).take (a_ items.size items.size hi - a_ items.size 0 lo)).toArray}})
  (hsz:items.size<=Ym):wpAny (model prog w) A (getItem (.ref t) (.ref sl)) Q E s:=by
 have l_:sizeOk (.seq ((items.toList.drop (a_ items.size 0 lo)).take (a_ items.size items.size hi - a_ items.size 0 lo)).toArray):=by
  show ((items.toList.drop (a_ items.size 0 lo)).take (a_ items.size items.size hi - a_ items.size 0 lo)).toArray.size<=Ym;rw [Yn,Y0,YU,YH];omega
 have hj:a_ items.size items.size hi<=items.size:=ZxE _ _ (Ye _) hi;obtain ⟨os,y6,zp,Cp⟩:=id hs;have hTs:s.TypeIs (.ref sl) "slice":=⟨os,y6,zp⟩
 unfold getItem
 try with_reducible refine Y6 ?_
 first | refine Ya (Yd ?_) | skip
 refine Ya (wpAny_sequenceKey ht.typeIs (by decide) ?_)
 refine Ya (YJ (name:=Y9 "__getitem__") ht.typeIs Wh
  (YK Wh ht.typeIs entry_tuple_getitem ?_ (args_tuple_getitem _ _)))
 show wpAny _ _ (Builtin.Tuple.tupleItemsOf (.ref t) >>= _) _ _ s;refine Ya (tupleItemsOf_ ht ?_);refine Ya (wpAny_typeOf hTs ?_);rw [if_pos (by decide)];refine Ya (cf hs pl pu ?_)
 have wX:¬ ((((a_ items.size 0 lo:Nat):Int) == 0 && (1:Int) == 1 && (a_ items.size items.size hi - a_ items.size 0 lo) == items.size)=true):=by
  intro q;rw [YV,YV] at q;have q1:((a_ items.size 0 lo:Nat):Int)=0:=eq_of_beq q.1.1;have q2:a_ items.size items.size hi - a_ items.size 0 lo=items.size:=eq_of_beq q.2;exact hw ⟨by omega,by omega⟩
 show wpAny _ _ (if (((a_ items.size 0 lo:Nat):Int) == 0 && (1:Int) == 1 && (a_ items.size items.size hi - a_ items.size 0 lo) == items.size)=true then _ else _) _ _ s;rw [if_neg wX,Zu4]
 first
  | exact Ya (m:=WZ _) (YF (Yd ⟨_,rfl,Yd h⟩) l_)
  | exact Ya (m:=WZ _) (YF (Ya (Yd (Yd ⟨_,rfl,Yd h⟩))) l_)
  | exact Ya (Ya (m:=WZ _) (YF (Yd (Yd ⟨_,rfl,Yd h⟩)) l_))
  | exact Ya (Ya (m:=WZ _) (YF (Yd ⟨_,rfl,Yd h⟩) l_))
end
end HT
namespace L2
open PySem PySem.Spec PyProof.Rows
abbrev TO:=St->Hp->(Option Int->Hp->Prop)->Prop
def PO (X:Cx) (e:Option Expr) (t:TO):Prop:=
 ∀ (pins:List (Addr×Obj)) (s:Shared) (σ:St) (H:Hp) (Q:Option Int->Hp->Prop),Inv X pins σ H s->t σ H Q->
  wpAny (model X.prog X.w) X.A (evalPart e X.env) (fun u s'=>∃ o H',Inv X pins σ H' s'/\IsPart u o/\Q o H') X.xe s
def Zwo:TO:=fun _ H Q=>Q none H
inductive tV  (x:V) (H1:Hp) (Q:Option Int->Hp->Prop):Prop
 | mk (i:_):x=.int i->Q (some i) H1->tV x H1 Q
def ZyC (t:TE):TO:=fun σ H Q=>t σ H fun x H1=>tV x H1 Q
theorem Zne {ns:List Int}:∀ {us:List Value},Vals (ns.map V.int) us->IntsAre us ns:=by
 induction ns with
 | nil=>intro us r;rw [YaD] at r;cases r;exact .nil
 | cons n ns ih=>
  intro us r;rw [Yt] at r
  cases r with
  | cons r1 r2=>
   obtain ⟨t,e⟩:=r1;subst e;exact .cons n t (ih r2)
section
variable {X:Cx} {e:Expr} {te:TE} {lo hi:Option Expr} {tl th:TO} {pos p2:Pos}
theorem sO:PO X none Zwo:=by
 intro pins s σ H Q I h;rw [evalPart_none];exact Yd ⟨none,H,I,.none,h⟩
theorem nA (h:PE X e te):PO X (some e) (ZyC te):=by
 try unfold PE at *
 intro pins s σ H Q I hw;rw [evalPart_some];refine aH (h pins s σ H _ I hw) fun u s1 ⟨x,H1,I1,r1,q1⟩=>?_;obtain ⟨i,rfl,q⟩:=q1;obtain ⟨t,rfl⟩:=r1;exact ⟨some i,H1,I1,.int i t,q⟩
def Az (X:Cx) (r:V->Option Int->Option Int->Hp->VK->Prop):Prop:=
 ∀ (pins:List (Addr×Obj)) (s:Shared) (σ:St) (H:Hp) (x:V) (v vl vu:Value) (lo hi:Option Int) (sl:Addr) (Q:VK),Inv X pins σ H s->RelV x v->s.heap.IsSliceOf sl vl vu .none->IsPart vl lo->IsPart vu hi->r x lo hi H Q->
  ∃ T id,typeLookup (.type T) "__getitem__"=pure (some (.builtin id))/\s.TypeIs v T/\wpAny (model X.prog X.w) X.A (getItem v (.ref sl)) (EP X pins σ Q) X.xe s
def tSl (r:V->Option Int->Option Int->Hp->VK->Prop) (te:TE) (tl th:TO):TE:=fun σ H Q=>te σ H fun x H1=>tl σ H1 fun l H2=>th σ H2 fun u H3=>r x l u H3 Q
theorem p_ {r:V->Option Int->Option Int->Hp->VK->Prop} (hr:Az X r) (he:PE X e te) (hl:PO X lo tl) (hu:PO X hi th):PE X (.Subscript e (.Slice lo hi none p2) pos) (tSl r te tl th):=by
 try unfold PE at *
 intro pins s σ H Q I h;refine Subscript_ (aH (he pins s σ H _ I h) fun v s1 ⟨x,H1,I1,r1,q1⟩=>?_);refine wpAny_Slice (aH (hl pins s1 σ H1 _ I1 q1) fun vl s2 ⟨l,H2,I2,pl,q2⟩=>aH (hu pins s2 σ H2 _ I2 q2) fun vu s3 ⟨u,H3,I3,pu,q3⟩=>?_);rw [evalPart_none];refine Yd ?_;have I4:Inv X pins σ H3 {s3 with heap:=s3.heap.push {cls:=.type "slice",data:=.fields #[vl,vu,.none]}}:=I3.kept (t':=s3.toks) fun b ob q=>Yc _ q;obtain ⟨T,id,hT,ht,hg⟩:=hr pins {s3 with heap:=s3.heap.push {cls:=.type "slice",data:=.fields #[vl,vu,.none]}} σ H3 x v vl vu l u s3.heap.objs.size Q I4 r1 (Heap.IsSliceOf.new ..) pl pu q3;show wpAny (model X.prog X.w) X.A (subscriptTail e (.Slice lo hi none p2) v (.ref s3.heap.objs.size)) (EP X pins σ Q) X.xe {s3 with heap:=s3.heap.push {cls:=.type "slice",data:=.fields #[vl,vu,.none]}};exact tail_any (ops:=[.ref s3.heap.objs.size,v]) ht hT hg (by with_unfolding_all rfl)
def bD (xs:List V) (lo hi:Option Int):List V:=(xs.drop (HT.a_ xs.length 0 lo)).take (HT.a_ xs.length xs.length hi - HT.a_ xs.length 0 lo)
theorem ZlW (xs:List V) (lo hi:Option Int):(bD xs lo hi).length<=xs.length:=by
 unfold bD;rw [Y0,YU];omega
def Md (K:Yf):V->Option Int->Option Int->Hp->VK->Prop:=fun x lo hi H Q=>∃ a xs,x=.ref a/\aF K H a xs/\
 ¬ (HT.a_ xs.length 0 lo=0/\HT.a_ xs.length xs.length hi=xs.length)/\∀ p,H p=none->Q (.ref p) (upd H p (.tup (bD xs lo hi)))
theorem ZxC:Az X (Md X.K):=by
 intro pins s σ H x v vl vu lo hi sl Q I rx hs pl pu h;obtain ⟨a,xs,rfl,hx,hw,q⟩:=h
 cases rx
 obtain ⟨its,r,ht,hz⟩:=I.tuple hx;have hlen:its.toArray.size=xs.length:=by rw [Yn];exact r.length.symm
 refine ⟨"tuple",_,PyProof.Rows.slot_tuple_getitem.lookup,ht.typeIs,?_⟩;refine HT.eA ht hs pl pu (by rw [hlen];exact hw) ?_ (by rw [hlen];exact hz);rw [hlen];refine ⟨.ref s.heap.objs.size,_,I.laid (t':=s.toks) (o:=.tup (bD xs lo hi)) (fun b ob q=>Yc _ q) (Ye _) ?_,rfl,q _ (I.aj.fresh (Ye _))⟩;exact ⟨Yk (ZlW xs lo hi) hz,_,(r.drop (HT.a_ xs.length 0 lo)).take (HT.a_ xs.length xs.length hi - HT.a_ xs.length 0 lo),IsTup.new _ _⟩
def ZyM (K:Yf):R2:=fun x y H Q=>∃ a b xs ys,x=.ref a/\y=.ref b/\aF K H a xs/\aF K H b ys/\xs≠[]/\xs.length + ys.length<=Ym/\
 (ys=[]->Q (.ref a) H)/\(ys≠[]->∀ p,H p=none->Q (.ref p) (upd H p (.tup (xs++ys))))
theorem Vals.jq {xs:List V} {us:List Value} (r:Vals xs us):us=[] ↔ xs=[]:=by
 cases r with
 | nil=>simp
 | cons _ _=>simp
theorem ZwI:dU X (Wv .Add) (ZyM X.K):=by
 intro pins s σ H x y v u Q I rx ry h;obtain ⟨a,b,xs,ys,rfl,rfl,ha,hb,hx,hz,q1,q2⟩:=h
 cases rx
 cases ry
 obtain ⟨its,r1,p1,_⟩:=I.tuple ha;obtain ⟨h9,r2,p2,_⟩:=I.tuple hb;refine HT.rF p1 p2 (fun z=>hx (r1.jq.mp z)) (fun z=>⟨.ref a,H,I,rfl,q1 (r2.jq.mp z)⟩) (fun z=>?_) (by rw [<- r1.length,<- r2.length];exact hz);refine ⟨.ref s.heap.objs.size,_,I.laid (t':=s.toks) (o:=.tup (xs++ys)) (fun b ob q=>Yc _ q) (Ye _) ?_,rfl,q2 (fun w=>z (r2.jq.mpr w)) _ (I.aj.fresh (Ye _))⟩;exact ⟨by rw [Yg];exact hz,_,r1.append r2,IsTup.new _ _⟩
end
end L2
namespace L2
open PySem PySem.Spec PyProof.Rows
def pG (n:Nat) (i:Int):Option Nat:=if 0<=i then (if i < n then some i.toNat else none) else if -(n:Int)<=i then some (i + n).toNat else none
def fS {α:Type} (xs:List α) (i:Int):Option α:=(pG xs.length i).bind fun j=>xs[j]?
theorem Zt5 {n:Nat} {i:Int} {j:Nat} (h:pG n i=some j):seqIndex? i n=some j/\j < n/\-(n:Int)<=i/\i < n:=by
 unfold pG at h
 by_cases h0:0<=i
 .rw [if_pos h0] at h
  by_cases h1:i < n
  .rw [if_pos h1] at h;have e:i.toNat=j:=YB h;exact ⟨by rw [seqIndex_of h0 h1,e],by omega,by omega,h1⟩
  .rw [if_neg h1] at h;cases h
 .rw [if_neg h0] at h
  by_cases h1:-(n:Int)<=i
  .rw [if_pos h1] at h;have e:(i + n).toNat=j:=YB h;exact ⟨by rw [seqIndex_neg (by omega) h1,e],by omega,h1,by omega⟩
  .rw [if_neg h1] at h;cases h
theorem ZuH {α:Type} {xs:List α} {i:Int} {v:α} (h:fS xs i=some v):∃ j,seqIndex? i xs.length=some j/\xs[j]?=some v/\j < xs.length/\-(xs.length:Int)<=i/\i < xs.length:=by
 unfold fS at h
 cases e:pG xs.length i with
 | none=>rw [e] at h;cases h
 | some j=>
  rw [e] at h;obtain ⟨h1,h2,h3,h4⟩:=Zt5 e;exact ⟨j,h1,h,h2,h3,h4⟩
def Zxd (b:Expr):Prop:=∀ o i,subscripted b false o i=operate [o,i] (getItem o i)
def LL (X:Cx) (r:R2):Prop:=
 ∀ (value slice:Expr) (pins:List (Addr×Obj)) (s:Shared) (σ:St) (H:Hp) (x y:V) (v u:Value) (Q:VK),Inv X pins σ H s->RelV x v->RelV y u->r x y H Q->
  subscripted slice false v u=operate [v,u] (getItem v u)->wpAny (model X.prog X.w) X.A (subscriptTail value slice v u) (EP X pins σ Q) X.xe s
def qe (X:Cx) (id:String) (r:V->List V->Hp->VK->Prop):Prop:=
 ∀ (pins:List (Addr×Obj)) (s:Shared) (σ:St) (H:Hp) (x:V) (xs:List V) (v:Value) (us:List Value) (Q:VK),Inv X pins σ H s->RelV x v->Vals xs us->r x xs H Q->
  wpAny (model X.prog X.w) X.A (call (.builtin id) (v::us)) (EP X pins σ Q) X.xe s
section
variable {X:Cx} {a b:Expr} {ta tb:TE} {pos:Pos}
theorem bw {r:R2} (hr:LL X r) (ha:PE X a ta) (hb:PE X b tb) (hs:Zxd b):PE X (.Subscript a b pos) (dX r ta tb):=by
 try unfold PE
 intro pins s σ H Q I h;exact Subscript_ (wm ha hb I h fun v u s2 x y H2 I2 rx ry q=>hr a b pins s2 σ H2 x y v u Q I2 rx ry q (hs _ _))
inductive AW (K:Yf) (x:V) (y:V) (H:Hp) (Q:VK):Prop
 | mk (p:_) (xs:_) (i:_) (v:_):x=.ref p->y=.int i->aq K H p xs->fS xs i=some v->Q v H->AW K x y H Q
inductive di (K:Yf) (x:V) (y:V) (H:Hp) (Q:VK):Prop
 | mk (p:_) (xs:_) (i:_) (v:_):x=.ref p->y=.int i->aF K H p xs->fS xs i=some v->Q v H->di K x y H Q
theorem ZU:LL X (AW X.K):=by
 intro value slice pins s σ H x y v u Q I rx ry h hs;obtain ⟨p,xs,i,z,rfl,rfl,hq,he,q⟩:=h
 cases rx
 obtain ⟨t,rfl⟩:=ry;obtain ⟨its,r,pl,hz⟩:=I.list hq;obtain ⟨j,h1,h2,h3,h4,h5⟩:=ZuH he;obtain ⟨w,ew,iX⟩:=r.get h2;have hl:=r.length;have hn:=zM;have fin:EP X pins σ Q w s:=⟨z,H,I,iX,q⟩
 by_cases h0:0<=i
 .have hj:i.toNat=j:=by
   rw [seqIndex_of h0 h5] at h1;exact YB h1
  exact item_listR pl.isList h0 (by omega) (by rw [hj];simpa using ew) fin hs
 .have hj:(i + (its.toArray.size:Int)).toNat=j:=by
   rw [seqIndex_neg (by omega) h4] at h1;rw [Yn,<- hl];exact YB h1
  exact subscriptTail_builtinR (x:=w) pl.isList.typeIs slot_list_getitem.lookup
   (wpAny_getItem_list_neg (Q:=fun r s'=>r=w/\EP X pins σ Q r s') pl.isList (by omega) (by rw [Yn] <;> omega) (by omega) (by rw [hj];simpa using ew) ⟨rfl,fin⟩) hs
theorem jI:LL X (di X.K):=by
 intro value slice pins s σ H x y v u Q I rx ry h hs;obtain ⟨p,xs,i,z,rfl,rfl,hq,he,q⟩:=h
 cases rx
 obtain ⟨t,rfl⟩:=ry;obtain ⟨its,r,pl,hz⟩:=I.tuple hq;obtain ⟨j,h1,h2,h3,h4,h5⟩:=ZuH he;obtain ⟨w,ew,iX⟩:=r.get h2;have hl:=r.length;have hn:=zM;have fin:EP X pins σ Q w s:=⟨z,H,I,iX,q⟩
 exact subscriptTail_builtinR (x:=w) pl.typeIs slot_tuple_getitem.lookup
  (getItem_tuple (j:=j) (Q:=fun r s'=>r=w/\EP X pins σ Q r s') pl (by omega) (by omega) (by rw [Yn,<- hl];exact h1) (by simpa using ew) ⟨rfl,fin⟩) hs
theorem ZsI (its:List Value) (n j:Nat) (u:Value):Y1 (·.setIfInBounds j u) {cls:=.type "list",data:=.seq its.toArray n}={cls:=.type "list",data:=.seq (its.set j u).toArray n}:=by
 simp [Y1]
theorem Inv.lst {pins:List (Addr×Obj)} {σ:St} {H:Hp} {s:Shared} {p:Addr} {xs:List V} (I:Inv X pins σ H s) (h:H p=some (.lst xs)) :
  ∃ (its:List Value) (n:Nat),Vals xs its/\s.heap.get? p=some {cls:=.type "list",data:=.seq its.toArray n}/\xs.length<=Ym:=by
 obtain ⟨z,its,n,r,e⟩:=I.aj p _ h;exact ⟨its,n,r,e,z⟩
theorem Inv.wz {pins:List (Addr×Obj)} {σ:St} {H:Hp} {s:Shared} {p:Addr} {xs ys:List V} {its its':List Value} {n n':Nat} {f:Obj->Obj} (I:Inv X pins σ H s) (h:H p=some (.lst xs))
  (ho:s.heap.get? p=some {cls:=.type "list",data:=.seq its.toArray n}) (hf:f {cls:=.type "list",data:=.seq its.toArray n}={cls:=.type "list",data:=.seq its'.toArray n'}) (r:Vals ys its') (hz:ys.length<=Ym) (t:Nat) :
  Inv X pins σ (upd H p (.lst ys)) {s with heap:=s.heap.update p f,toks:=t}:=by
 have e:(s.heap.update p f).get? p=some {cls:=.type "list",data:=.seq its'.toArray n'}:=by
  rw [Yai f ho (by rw [hf] <;> rfl),hf]
 refine I.write (x:=p) (e:=p) (by rw [h];trivial) (.inl rfl) (fun b u hb q=>(Xq _ _ (WO hb)).trans q) ⟨_,e⟩ ?_;exact ⟨hz,its',n',r,e⟩
def ZyL:V->V->V->Hp->(Hp->Prop)->Prop:=fun o i v H Q=>∃ p xs k j,o=.ref p/\i=.int k/\H p=some (.lst xs)/\pG xs.length k=some j/\Q (upd H p (.lst (xs.set j v)))
theorem ZuY:BB X ZyL:=by
 intro pins s σ H o i v ov iv u Q I ro ri rv h;obtain ⟨p,xs,k,j,rfl,rfl,hp,hj,q⟩:=h
 cases ro
 obtain ⟨t,rfl⟩:=ri;obtain ⟨its,n,r,ho,hz⟩:=I.lst hp;obtain ⟨h1,h2,h3,h4⟩:=Zt5 hj;have hl:=r.length;have hn:=zM
 have I':Inv X pins σ (upd H p (.lst (xs.set j v))) {s with heap:=s.heap.update p (Y1 (·.setIfInBounds j u))}:=
  I.wz hp ho (ZsI its n j u) (r.set rv j) (by rw [Ybw];exact hz) s.toks
 by_cases h0:0<=k
 .have hk:k.toNat=j:=by
   rw [seqIndex_of h0 h4] at h1;exact YB h1
  exact PySem.W.ki_setAt ho h0 (by omega) (by rw [Yn,<- hl];exact h4) (by rw [hk];exact ⟨_,I',q⟩)
 .have hk:(k + (its.toArray.size:Int)).toNat=j:=by
   rw [seqIndex_neg (by omega) h3] at h1;rw [Yn,<- hl];exact YB h1
  exact PySem.W.ki_setBack ho (by omega) (by rw [Yn,<- hl];exact h3) (by omega) (by rw [hk];exact ⟨_,I',q⟩)
theorem Zpa (lo hi:Option Int) (n:Nat):(Yar lo hi none n).1=((HT.a_ n 0 lo:Nat):Int)/\(Yar lo hi none n).2.1=((HT.a_ n n hi:Nat):Int)/\(Yar lo hi none n).2.2=1:=by
 refine ⟨?_,?_,rfl⟩
 .cases lo with
  | none=>simp [Yar,HT.a_]
  | some i=>
   simp only [Yar,HT.a_,Option.getD_none,show (1:Int) > 0 by decide,if_true]
   by_cases h:i < 0
   .simp only [h,if_true] <;> omega
   .simp only [h,if_false] <;> omega
 .cases hi with
  | none=>simp [Yar,HT.a_]
  | some i=>
   simp only [Yar,HT.a_,Option.getD_none,show (1:Int) > 0 by decide,if_true]
   by_cases h:i < 0
   .simp only [h,if_true] <;> omega
   .simp only [h,if_false] <;> omega
theorem ZnC (its:List Value) (lo hi:Option Int):slicePick its.toArray lo hi none=((its.drop (HT.a_ its.length 0 lo)).take (HT.a_ its.length its.length hi - HT.a_ its.length 0 lo)).toArray:=by
 obtain ⟨h1,h2,h3⟩:=Zpa lo hi its.toArray.size;unfold slicePick;rw [h1,h2,h3]
 simp only [sliceRange_one,pick_run,Yn] <;> rfl
inductive AS (K:Yf) (x:V) (lo:Option Int) (hi:Option Int) (H:Hp) (Q:VK):Prop
 | mk (a:_) (xs:_):x=.ref a->aq K H a xs->(∀ p,H p=none->Q (.ref p) (upd H p (.lst (bD xs lo hi))))->AS K x lo hi H Q
theorem GC:Az X (AS X.K):=by
 intro pins s σ H x v vl vu lo hi sl Q I rx hs pl pu h;obtain ⟨a,xs,rfl,hx,q⟩:=h
 cases rx
 obtain ⟨its,r,ht,hz⟩:=I.list hx;have hlen:=r.length;refine ⟨"list",_,slot_list_getitem.lookup,ht.isList.typeIs,?_⟩;refine wpAny_getItem_list_slice ht.isList hs pl pu .none (by simp) ?_ (by rw [Yn] <;> omega);rw [ZnC,<- hlen];refine ⟨.ref s.heap.objs.size,_,I.laid (t':=s.toks) (o:=.lst (bD xs lo hi)) (fun b ob q=>Yc _ q) (Ye _) ?_,rfl,q _ (I.aj.fresh (Ye _))⟩;exact ⟨Yk (ZlW xs lo hi) hz,_,0,(r.drop (HT.a_ xs.length 0 lo)).take (HT.a_ xs.length xs.length hi - HT.a_ xs.length 0 lo),Yi _ rfl⟩
def kI:V->Bool
 | .aK=>true
 | .bl _=>true
 | .int _=>true
 | .str _=>true
 | _=>false
def jQ:V->V->Bool
 | .aK,.aK=>true
 | .bl a,.bl b=>a == b
 | .bl a,.int b=>(if a then 1 else 0) == b
 | .int a,.bl b=>a == (if b then 1 else 0)
 | .int a,.int b=>a == b
 | .str a,.str b=>a == b
 | _,_=>false
theorem Zyd {A:Around} {s:Shared} {y x:V} {u v:Value} (ry:RelV y u) (rx:RelV x v) (fy:kI y=true) (fx:kI x=true):SeqAt.EqAt A s u v (jQ y x):=by
 cases y with
 | aK=>
  cases ry
  cases x with
  | aK=>cases rx;exact SeqAt.EqAt.same _
  | bl b=>cases rx;exact SeqAt.EqAt.none_bool b
  | int b=>obtain ⟨t,rfl⟩:=rx;exact SeqAt.EqAt.none_int b t
  | str b=>obtain ⟨t,rfl⟩:=rx;exact SeqAt.EqAt.none_str b t
  | _=>exact absurd (show false=true from fx) Yp
 | bl a=>
  cases ry
  cases x with
  | aK=>cases rx;exact SeqAt.EqAt.bool_none a
  | bl b=>cases rx;exact SeqAt.EqAt.bool_bool a b
  | int b=>obtain ⟨t,rfl⟩:=rx;exact SeqAt.EqAt.bool_int a b t
  | str b=>obtain ⟨t,rfl⟩:=rx;exact SeqAt.EqAt.bool_str a b t
  | _=>exact absurd (show false=true from fx) Yp
 | int a=>
  obtain ⟨t',rfl⟩:=ry
  cases x with
  | aK=>cases rx;exact SeqAt.EqAt.int_none a t'
  | bl b=>cases rx;exact SeqAt.EqAt.int_bool a t' b
  | int b=>obtain ⟨t,rfl⟩:=rx;exact SeqAt.EqAt.int_int a t' b t
  | str b=>obtain ⟨t,rfl⟩:=rx;exact SeqAt.EqAt.int_str a t' b t
  | _=>exact absurd (show false=true from fx) Yp
 | str a=>
  obtain ⟨t',rfl⟩:=ry
  cases x with
  | aK=>cases rx;exact SeqAt.EqAt.str_none a t'
  | bl b=>cases rx;exact SeqAt.EqAt.str_bool a t' b
  | int b=>obtain ⟨t,rfl⟩:=rx;exact SeqAt.EqAt.str_int a t' b t
  | str b=>obtain ⟨t,rfl⟩:=rx;exact SeqAt.EqAt.str_str a t' b t
  | _=>exact absurd (show false=true from fx) Yp
 | _=>exact absurd (show false=true from fy) Yp
def i7 (x:V) (u:Value):Bool:=match u with
 | .none=>jQ .aK x
 | .bool b=>jQ (.bl b) x
 | .int i _=>jQ (.int i) x
 | .str z _=>jQ (.str z) x
 | _=>false
theorem CV {x y:V} {u:Value} (r:RelV y u) (f:kI y=true):i7 x u=jQ y x:=by
 cases y with
 | aK=>cases r;rfl
 | bl b=>cases r;rfl
 | int i=>obtain ⟨t,rfl⟩:=r;rfl
 | str z=>obtain ⟨t,rfl⟩:=r;rfl
 | _=>exact absurd (show false=true from f) Yp
theorem zW {x:V}:∀ {xs:List V} {us:List Value},Vals xs us->xs.all kI=true->us.any (i7 x)=xs.any fun y=>jQ y x
 | _,_,.nil,_=>rfl
 | y::xs,u::us,.cons r t,f=>by
  rw [Ya7,YV] at f;rw [W4,W4,CV r f.1,zW t f.2]
theorem vq {A:Around} {s:Shared} {x:V} {v:Value} (rx:RelV x v) (fx:kI x=true):∀ {xs:List V} {us:List Value},Vals xs us->xs.all kI=true->∀ u∈us,SeqAt.EqAt A s u v (i7 x u)
 | _,_,.nil,_=>fun u hu=>by cases hu
 | y::xs,u::us,.cons r t,f=>fun u' hu=>by
  rw [Ya7,YV] at f;rcases List.mem_cons.mp hu with rfl | hu
  .rw [CV r f.1];exact Zyd r rx f.1 fx
  .exact vq rx fx t f.2 u' hu
def rQ (x:V) (xs:List V):Bool:=xs.any fun y=>jQ y x
inductive EI (K:Yf) (neg:Bool) (x:V) (y:V) (H:Hp) (Q:VK):Prop
 | mk (p:_) (xs:_):y=.ref p->(aq K H p xs∨aF K H p xs)->kI x=true->xs.all kI=true->Q (.bl (if neg then !rQ x xs else rQ x xs)) H->EI K neg x y H Q
theorem Ht:dU X (XS .In) (EI X.K false):=by
 intro pins s σ H x y v u Q I rx ry h;obtain ⟨p,xs,rfl,hq,fx,fs,q⟩:=h
 cases ry
 rcases hq with hq | hq
 .obtain ⟨its,r,pl,hz⟩:=I.list hq;refine SeqAt.in_listAt (i7 x) pl.isList (fun w hw=>vq rx fx r fs w (by simpa using hw)) ⟨.bl _,H,I,rfl,?_⟩;rw [show its.toArray.any (i7 x)=its.any (i7 x) by simp,zW r fs];exact q
 .obtain ⟨its,r,pl,hz⟩:=I.tuple hq;refine SeqAt.in_tupleAt (i7 x) pl (fun w hw=>vq rx fx r fs w (by simpa using hw)) ⟨.bl _,H,I,rfl,?_⟩;rw [show its.toArray.any (i7 x)=its.any (i7 x) by simp,zW r fs];exact q
theorem Zpr:dU X (XS .NotIn) (EI X.K true):=by
 intro pins s σ H x y v u Q I rx ry h;obtain ⟨p,xs,rfl,hq,fx,fs,q⟩:=h
 cases ry
 rcases hq with hq | hq
 .obtain ⟨its,r,pl,hz⟩:=I.list hq;refine SeqAt.notIn_listAt (i7 x) pl.isList (fun w hw=>vq rx fx r fs w (by simpa using hw)) ⟨.bl _,H,I,rfl,?_⟩;rw [show its.toArray.any (i7 x)=its.any (i7 x) by simp,zW r fs];exact q
 .obtain ⟨its,r,pl,hz⟩:=I.tuple hq;refine SeqAt.notIn_tupleAt (i7 x) pl (fun w hw=>vq rx fx r fs w (by simpa using hw)) ⟨.bl _,H,I,rfl,?_⟩;rw [show its.toArray.any (i7 x)=its.any (i7 x) by simp,zW r fs];exact q
theorem ZI:ff X (.builtin "len") (fun xs H Q=>∃ p ys,xs=[.ref p]/\(aq X.K H p ys∨aF X.K H p ys)/\Q (.int ys.length) H):=by
 intro pins s σ H xs us Q I r h;obtain ⟨p,ys,rfl,hq,q⟩:=h;obtain ⟨u,rfl,rx⟩:=uX r
 cases rx
 have hn:=zM;rcases hq with hq | hq
 .obtain ⟨its,r',pl,hz⟩:=I.list hq;have hlen:=r'.length;exact Calls.call_len_list pl.isList (by simp only [Yn] <;> omega) ⟨.int ys.length,H,I.tok _,⟨s.toks + 1,by rw [Yn,hlen]⟩,q⟩
 .obtain ⟨its,r',pl,hz⟩:=I.tuple hq;have hlen:=r'.length;exact len_tuple pl (by simp only [Yn] <;> omega) ⟨.int ys.length,H,I.tok _,⟨s.toks + 1,by rw [Yn,hlen]⟩,q⟩
theorem J6:ff X (.builtin "len") (fun xs H Q=>∃ z,xs=[.str z]/\z.length<=Ym/\Q (.int z.length) H):=by
 intro pins s σ H xs us Q I r h;obtain ⟨z,rfl,hz,q⟩:=h;obtain ⟨u,rfl,t,rfl⟩:=uX r;have hn:=zM;exact len_str (by omega) ⟨.int z.length,H,I.tok _,⟨_,rfl⟩,q⟩
theorem DV:ff X (.type "list") (fun xs H Q=>∃ p ys,xs=[.ref p]/\(aq X.K H p ys∨aF X.K H p ys)/\∀ l,H l=none->Q (.ref l) (upd H l (.lst ys))):=by
 intro pins s σ H xs us Q I r h;obtain ⟨p,ys,rfl,hq,q⟩:=h;obtain ⟨u,rfl,rx⟩:=uX r
 cases rx
 have fin:∀ (its:List Value),Vals ys its->ys.length<=Ym->∀ (h':Heap) (c':Nat),(∀ b o',s.heap.get? b=some o'->h'.get? b=some o')->
   h'.get? s.heap.objs.size=some {cls:=.type "list",dict:=none,data:=.seq its.toArray c',slots:=#[]}->EP X pins σ Q (.ref s.heap.objs.size) {s with heap:=h'}:=fun its r' hz h' c' kp e=>
  ⟨.ref s.heap.objs.size,_,I.laid (t':=s.toks) kp (Ye _) (show bU X.prog X.w _ h' _ (.lst ys) from ⟨hz,its,c',r',e⟩),rfl,q _ (I.aj.fresh (Ye _))⟩
 rcases hq with hq | hq
 .obtain ⟨its,r',pl,hz⟩:=I.list hq;have hlen:=r'.length;obtain ⟨o,ho,hc,n,hd⟩:=pl.isList;exact call_list_seq p (.inl rfl) ho hc hd (fun h' c' kp e=>fin its r' hz h' c' kp e) (by simp only [Yn] <;> omega)
 .obtain ⟨its,r',pl,hz⟩:=I.tuple hq;have hlen:=r'.length;obtain ⟨o,ho,hc,n,hd⟩:=pl;exact call_list_seq p (.inr rfl) ho hc hd (fun h' c' kp e=>fin its r' hz h' c' kp e) (by simp only [Yn] <;> omega)
theorem KJ:ff X (.type "tuple") (fun xs H Q=>∃ p ys,xs=[.ref p]/\((aq X.K H p ys/\∀ l,H l=none->Q (.ref l) (upd H l (.tup ys)))∨(aF X.K H p ys/\Q (.ref p) H))):=by
 intro pins s σ H xs us Q I r h;obtain ⟨p,ys,rfl,h⟩:=h;obtain ⟨u,rfl,rx⟩:=uX r
 cases rx
 rcases h with ⟨hq,q⟩ | ⟨hq,q⟩
 .obtain ⟨its,r',pl,hz⟩:=I.list hq;have hlen:=r'.length;refine call_tuple_list pl.isList (fun h' kp=>?_) (by simp only [Yn] <;> omega);have I1:Inv X pins σ H {s with heap:=h'}:=I.kept (t':=s.toks) kp
  have I2:Inv X pins σ (upd H h'.objs.size (.tup ys)) {s with heap:=h'.push {cls:=.type "tuple",data:=.seq its.toArray}}:=
   I1.laid (t':=s.toks) (fun b o e=>Yc _ e) (Ye _) (show bU X.prog X.w _ _ _ (.tup ys) from ⟨hz,its,r',IsTup.new _ _⟩)
  exact ⟨.ref h'.objs.size,_,I2,rfl,q _ (I1.aj.fresh (Ye _))⟩
 .obtain ⟨its,r',pl,hz⟩:=I.tuple hq;exact call_tuple_same pl ⟨.ref p,H,I,rfl,q⟩
def Eu (K:Yf) (T:String) (x:V) (H:Hp):Prop:=match x with
 | .str _=>T="str"
 | .int _=>T="int"
 | .ref p=>(T="list"/\∃ xs,aq K H p xs)∨(T="tuple"/\∃ o,K.lookup p=some o/\o.cls=.type "tuple"/\o.dict=none)∨
   (T="dict"/\((∃ kvs,H p=some (.dK kvs))∨∃ kvs,H p=some (.dT kvs)))∨(T="set"/\∃ S n,H p=some (.set S n))
 | _=>False
theorem ZvQ {pins:List (Addr×Obj)} {σ:St} {H:Hp} {s:Shared} {T:String} {x:V} {v:Value} (I:Inv X pins σ H s) (r:RelV x v) (ty:Eu X.K T x H) :
  s.TypeIs v T/\∀ a,v=.ref a->∃ ob,s.heap.get? a=some ob/\ob.dict=none:=by
 cases x with
 | str z=>
  obtain ⟨t,rfl⟩:=r
  cases (show T="str" from ty)
  exact ⟨Yam s z t,fun _ e=>nomatch e⟩
 | int i=>
  obtain ⟨t,rfl⟩:=r
  cases (show T="int" from ty)
  exact ⟨YaJ s i t,fun _ e=>nomatch e⟩
 | ref p=>
  cases r
  rcases ty with ⟨rfl,xs,hq⟩ | ⟨rfl,o,hk,hc,hd⟩ | ⟨rfl,hk⟩ | ⟨rfl,S,n,hk⟩
  .obtain ⟨its,_,pl,_⟩:=I.list hq;refine ⟨pl.isList.typeIs,fun a e=>?_⟩
   cases e
   obtain ⟨o,n,e,c,hd,_⟩:=pl;exact ⟨o,e,hd⟩
  .refine ⟨⟨o,I.cg p o hk,hc⟩,fun a e=>?_⟩
   cases e
   exact ⟨o,I.cg _ o hk,hd⟩
  .have z:∃ o,s.heap.get? p=some o/\o.ExactDict:=by
    rcases hk with ⟨kvs,hk⟩ | ⟨kvs,hk⟩
    .obtain ⟨_,_,_,_,o,_,_,e,ex,_⟩:=I.aj p _ hk;exact ⟨o,e,ex⟩
    .obtain ⟨_,_,_,_,o,_,_,e,ex,_⟩:=I.aj p _ hk;exact ⟨o,e,ex⟩
   obtain ⟨o,e,ex⟩:=z;refine ⟨⟨o,e,ex.1⟩,fun a e2=>?_⟩
   cases e2
   exact ⟨o,e,ex.2.1⟩
  .obtain ⟨o,_,_,_,e,ex,_⟩:=I.aj p _ hk;refine ⟨⟨o,e,ex.1⟩,fun a e2=>?_⟩
   cases e2
   exact ⟨o,e,ex.2.1⟩
 | _=>exact Xa ty
def Mb (K:Yf) (T:String) (r:V->List V->Hp->VK->Prop) (to:TE):TE:=fun σ H Q=>to σ H fun x H1=>Eu K T x H1/\r x [] H1 Q
def tBM (K:Yf) (T:String) (r:V->List V->Hp->VK->Prop) (to:TE) (t:TA):TE:=fun σ H Q=>to σ H fun x H1=>Eu K T x H1/\t σ H1 fun xs H2=>r x xs H2 Q
variable {o e:Expr} {es:List Expr} {to:TE} {t:TA} {name:Str} {apos aU:Pos} {T id:String} {r:V->List V->Hp->VK->Prop}
theorem xF (pa:PlainAttrs T) (slot:Slot T name id) (yT:typeOf (.builtin id)=pure (.type "method_descriptor")) (hm:qe X id r) (ho:PE X o to)
  (j4:W2 o name X.env (eval o X.env)=eval o X.env:=by rfl) (j0:(apos.endLine == aU.line)=true:=by rfl):PE X (.Call (.Attribute o name apos) [] [] aU) (Mb X.K T r to):=by
 try unfold PE at *
 intro pins s σ H Q I h;refine wpAny_Call_method0_late j4 j0 (aH (ho pins s σ H _ I h) fun v s1 ⟨x,H1,I1,r1,ty,q1⟩=>?_);obtain ⟨h1,h2⟩:=ZvQ I1 r1 ty;exact ⟨T,id,pa,slot,yT,h1,h2,XZ rfl (PySem.evalArgs_none (hm pins s1 σ H1 x [] v [] Q I1 r1 .nil q1))⟩
theorem lR (pa:PlainAttrs T) (slot:Slot T name id) (yT:typeOf (.builtin id)=pure (.type "method_descriptor")) (hm:qe X id r) (ho:PE X o to) (ha:PA X (e::es) t)
  (j4:W2 o name X.env (eval o X.env)=eval o X.env:=by rfl)
  (wa:((Wi aU (Yx (e::es) X.env)).all (fun x=>!x.1) && (backToKw aU (YaW [] X.env)).all (fun x=>x.1.isSome)
   && decide ((e::es).length + ([]:List Keyword).length + (if ([]:List Keyword).isEmpty then 0 else 1) < 30))=true:=by rfl)
  (j0:(apos.endLine == aU.line)=true:=by rfl) (hs:Yx (e::es) X.env=(false,eval e X.env)::Yx es X.env:=by rfl) (gB:(Wi aU (Yx es X.env)).any (·.1)=false:=by rfl) :
  PE X (.Call (.Attribute o name apos) (e::es) [] aU) (tBM X.K T r to t):=by
 try unfold PE at *;try unfold PA at *
 intro pins s σ H Q I h;refine wpAny_Call_method_late j4 wa j0 rfl (aH (ho pins s σ H _ I h) fun v s1 ⟨x,H1,I1,r1,ty,q1⟩=>?_);obtain ⟨h1,h2⟩:=ZvQ I1 r1 ty;refine ⟨T,id,pa,slot,yT,h1,h2,?_⟩;have hA:=ha aU pins s1 σ H1 _ I1 q1;rw [hs] at hA ⊢;refine XZ (by show (false || (Wi aU (Yx es X.env)).any (·.1))=false;rw [gB] <;> rfl) (Wg ?_);exact aH hA fun us s2 ⟨vs,H2,I2,r2,q2⟩=>hm pins s2 σ H2 x vs v us Q I2 r1 r2 q2
end
end L2
namespace L2
open PySem PySem.Spec PyProof.Rows
def MtM (X:Cx) (id:String) (r:V->List V->Hp->VK->Prop):Prop:=
 ∀ (pins:List (Addr×Obj)) (s:Shared) (σ:St) (H:Hp) (x:V) (xs:List V) (v:Value) (us:List Value) (Q:VK),Inv X pins σ H s->RelV x v->Vals xs us->r x xs H Q->
  wpAny (model X.prog X.w) X.A (call (.builtin id) (v::us)) (EP X pins σ Q) X.xe s
theorem Vals.one:∀ {x:V} {us:List Value},Vals [x] us->∃ u,us=[u]/\RelV x u
 | _,_,.cons r .nil=>⟨_,rfl,r⟩
theorem Vals.two:∀ {x y:V} {us:List Value},Vals [x,y] us->∃ u v,us=[u,v]/\RelV x u/\RelV y v
 | _,_,_,.cons r (.cons q .nil)=>⟨_,_,rfl,r,q⟩
theorem Vals.zero:∀ {us:List Value},Vals [] us->us=[]
 | _,.nil=>rfl
theorem Vals.rep {xs:List V} {us:List Value} (h:Vals xs us):∀ k:Nat,Vals (List.replicate k xs).flatten (List.replicate k us).flatten
 | 0=>.nil
 | k + 1=>by
  rw [Xg,Xg,Xh,Xh];exact Vals.append h (Vals.rep h k)
theorem HB (its:List Value):∀ (k:Nat) (acc:List Value),
  List.foldl (fun x1 x2=>x1++x2) acc.toArray (List.replicate k its.toArray)=(acc++(List.replicate k its).flatten).toArray
 | 0,acc=>by simp
 | k + 1,acc=>by
  have e:acc.toArray++its.toArray=(acc++its).toArray:=by simp
  have e2:(acc++its)++(List.replicate k its).flatten=acc++(List.replicate (k + 1) its).flatten:=by
   rw [Xg,Xh,List.append_assoc]
  rw [<- e2,<- HB its k (acc++its),<- e,Xg,List.foldl_cons]
section
variable {X:Cx} {pins:List (Addr×Obj)} {σ:St} {H:Hp} {s:Shared} {l b:Addr} {xs ys zs:List V}
theorem Inv.A8 {its its':List Value} {n:Nat} {f:Array Value->Array Value} {t':Nat} (I:Inv X pins σ H s) (hH:H l=some (.lst xs))
  (e:s.heap.get? l=some {cls:=.type "list",data:=.seq its.toArray n}) (hf:f its.toArray=its'.toArray) (hv:Vals ys its') (hz:ys.length<=Ym) :
  Inv X pins σ (upd H l (.lst ys)) {s with heap:=s.heap.update l (Y1 f),toks:=t'}:=by
 have q:=PySem.IsL.update e f;rw [hf] at q;refine I.write (x:=l) (e:=l) (by rw [hH];exact trivial) (.inl rfl) (fun b' u hb hu=>(Xq s.heap (Y1 f) (WO hb)).trans hu) ⟨_,q⟩ ?_;exact ⟨hz,its',_,hv,q⟩
theorem Inv.oC {its:List Value} {t':Nat} (I:Inv X pins σ H s) (hv:Vals ys its) (hz:ys.length<=Ym) :
  Inv X pins σ (upd H s.heap.objs.size (.lst ys)) {s with heap:=s.heap.push {cls:=.type "list",data:=.seq its.toArray},toks:=t'}:=
 I.laid (fun _ _ q=>Yc _ q) (Ye _) ⟨hz,its,0,hv,Yi _ rfl⟩
theorem Inv.fresh (I:Inv X pins σ H s):H s.heap.objs.size=none:=I.aj.fresh (Ye _)
theorem Inv.oB (I:Inv X pins σ H s) (hH:H l=some (.lst xs)):xs.length<=Ym/\∃ (its:List Value) (n:Nat),Vals xs its/\xs.length=its.length/\s.heap.get? l=some {cls:=.type "list",data:=.seq its.toArray n}:=by
 obtain ⟨z,its,n,r,e⟩:=I.aj l _ hH;exact ⟨z,its,n,r,r.length,e⟩
theorem Zva {n:Nat} (h:n<=Ym):Ya2 n=false:=by
 unfold Ya2;exact decide_eq_false (by omega)
end
section
variable {X:Cx}
inductive ml (x:V) (vs:List V) (H:Hp) (Q:VK):Prop
 | mk (l:_) (xs:_) (y:_):x=.ref l->vs=[y]->H l=some (.lst xs)->xs.length < Ym->Q .aK (upd H l (.lst (xs++[y])))->ml x vs H Q
theorem qT:MtM X "list.append" ml:=by
 intro pins s σ H x vs v us Q I rx rv h;obtain ⟨l,xs,y,rfl,rfl,hH,hz,q⟩:=h
 cases rx
 obtain ⟨u,rfl,ru⟩:=rv.one;obtain ⟨z,its,n,r,hl,e⟩:=I.oB hH;refine XF F.slot_list_append ⟨_,e,rfl⟩ F.entry_list_append (F.args_list_append_2 _ _) (PySem.list_append l its.toArray n u (by rw [Yn];omega)) ⟨e,?_⟩;refine ⟨.aK,_,I.A8 (its':=its++[u]) hH e (by simp) (r.append (.cons ru .nil)) ?_,rfl,q⟩;rw [Yg,List.length_singleton];omega
inductive mj (x:V) (vs:List V) (H:Hp) (Q:VK):Prop
 | mk (l:_) (b:_) (xs:_) (zs:_):x=.ref l->vs=[.ref b]->H l=some (.lst xs)->H b=some (.lst zs)->xs.length + zs.length<=Ym->Q .aK (upd H l (.lst (xs++zs)))->mj x vs H Q
theorem ZtN:MtM X "list.extend" mj:=by
 intro pins s σ H x vs v us Q I rx rv h;obtain ⟨l,b,xs,zs,rfl,rfl,hH,hB,hz,q⟩:=h
 cases rx
 obtain ⟨u,rfl,ru⟩:=rv.one
 cases ru
 obtain ⟨z,its,n,r,hl,e⟩:=I.oB hH;obtain ⟨z2,h9,n2,r2,cL,e2⟩:=I.oB hB;have hsz:its.toArray.size + h9.toArray.size<=Ym:=by rw [Yn,Yn];omega
 have BQ:¬ (!its.toArray.isEmpty && Ya2 (its.toArray.size + h9.toArray.size))=true:=by
  rw [Zva hsz,Bool.and_false];exact Yp
 refine XF F.slot_list_extend ⟨_,e,rfl⟩ F.entry_list_extend (F.args_list_extend_2 _ _)
  (AutoSeq1.list_extend_list_list_0 l its.toArray n b h9.toArray n2 BQ (by rw [Yn];omega) (by omega)) ⟨e,e2,?_⟩
 refine ⟨.aK,_,I.A8 (its':=its++h9) hH e (by simp) (r.append r2) ?_,rfl,q⟩;rw [Yg];omega
inductive AZ (x:V) (y:V) (H:Hp) (Q:VK):Prop
 | mk (l:_) (b:_) (xs:_) (zs:_):x=.ref l->y=.ref b->H l=some (.lst xs)->H b=some (.lst zs)->xs.length + zs.length<=Ym->(∀ p,H p=none->Q (.ref p) (upd H p (.lst (xs++zs))))->AZ x y H Q
theorem xE:dU X (Wv .Add) AZ:=by
 intro pins s σ H x y v u Q I rx ry h;obtain ⟨l,b,xs,zs,rfl,rfl,hH,hB,hz,q⟩:=h
 cases rx
 cases ry
 obtain ⟨z,its,n,r,hl,e⟩:=I.oB hH;obtain ⟨z2,h9,n2,r2,cL,e2⟩:=I.oB hB;refine PySem.P.add_list e e2 ?_ (by rw [Yn,Yn];omega);have ea:its.toArray++h9.toArray=(its++h9).toArray:=by simp
 rw [ea];exact ⟨.ref _,_,I.oC (t':=s.toks) (r.append r2) (by rw [Yg];omega),rfl,q _ I.fresh⟩
theorem Zt0 {α:Type} (xs:List α) (k:Nat):(List.replicate k xs).flatten.length=k * xs.length:=by
 induction k with
 | zero=>simp
 | succ k ih=>rw [Xg,Xh,Yg,ih,Nat.succ_mul,Nat.add_comm]
end
section
variable {prog:Program} {w:World} {A:Around} {E:Value->Shared->Prop} {s:Shared}
end
section
variable {X:Cx}
end
end L2
namespace Att
open PySem PySem.W PySem.Calls PyProof.Rows
theorem ZlM {P:Params} {h:Heap}:∀ (ns:List Int) (vs:List Value),WellAll P h vs (ns.map WData.int)->IntsAre vs ns:=by
 intro ns
 induction ns with
 | nil=>
  intro vs w;rw [YaD] at w
  cases w
  exact .nil
 | cons n ns ih=>
  intro vs w;rw [Yt] at w
  cases w with
  | cons a b=>
   cases a
   exact .cons _ _ (ih _ b)
theorem Zto {l:OpenLaw} {n:Nat} (hn:l.most=some n) {P:Params} {h:Heap} {args:List WData} {vals:List Value}
    (q5:l.row.toRowW.claim.pre args=true) (E7:WellAll P h vals args) :
    ∃ a vs ns,vals=[Value.ref a]/\args=[WData.list (ns.map WData.int)]/\h.get? a=some {cls:=.type "list",data:=.seq vs.toArray}/\IntsAre vs ns/\ns.length<=n:=by
  have rV:WShape.hasAll [] args [.list .int]=true:=(pre_splitW q5).1;have hc:l.pre.holds [] {args:=args}=true:=(pre_splitW q5).2;obtain ⟨d,r,rfl,h1,h2⟩:=hasAllW_cons rV;obtain rfl:=hasAllW_nil h2;obtain ⟨xs,rfl,h3⟩:=hasW_list h1;obtain ⟨ns,rfl⟩:=items_int h3
  have hlen:ns.length<=n:=by
    unfold OpenLaw.pre at hc
    have h4:(WTm.not (.lt (.lit (.int (n:Int))) (.len (.arg 0)))).holds [] {args:=[.list (ns.map .int)]}=true:=by
      have h4:=(holds_andW hc).1;rw [hn] at h4;exact h4
    have h5:=condW_of h4 (w_not (w_lt w_lit (w_len_list (w_arg rfl))));rw [Yb] at h5;refine Nat.le_of_not_lt fun q=>?_;have q':(n:Int) < ((ns.length:Nat):Int):=by omega
    first
      | (rw [decide_eq_true q'] at h5;exact absurd h5 (by decide))
      | (simp at h5;omega)
  cases E7 with
  | cons w1 w2=>
    cases w2
    cases w1 with
    | list ho wd=>exact ⟨_,_,ns,rfl,rfl,ho,ZlM ns _ wd,hlen⟩
theorem Ztu (l:OpenLaw) (args:List WData):l.row.toRowW.claim.post args (.bool true) args=true:=
 postW_of (r:=l.row.toRowW) (X:=(true == true))
  (show WShape.has [] (.bool true) .bool=true by first | rfl | decide | simp [WShape.has,WShape.arms,WShape.armsAll])
  (show (WTm.eq .res (.lit (.bool true))).value [] {args:=args,res:=some (.bool true),after:=args}=some (.bool (true == true)) from w_eq_bool (w_res rfl) w_lit) rfl
theorem kC {l:OpenLaw} {n:Nat} {q:Program} {loose:List Str} {XP:(Str->Option Value)->Heap->Prop} {YP:World->Heap->Prop} {d:DefRec}
  (hn:l.most=some n) (uF:d.params.defaults=[])
  (call:∀ (w:World) (ar aC:Shared) (mg mb:Str->Option Value) (fa:Addr) (o:Obj) (pm cd doc:Value) (a:Addr) (vs:List Value) (ns:List Int),
   Ground q loose [] XP w ar mg mb aC.heap->YP w aC.heap->
   aC.heap.get? fa=some o->o.data=.func (docDef d.name d.params d.body d.scope pm cd doc)->aC.heap.CodeRec cd d.name->mg d.name=some (.ref fa)->
   aC.heap.get? a=some {cls:=.type "list",data:=.seq vs.toArray}->IntsAre vs ns->ns.length<=n->aC.gens=#[]->
   Yas (model l.prog w) callerA (.call (.ref fa) ⟨[.ref a],[]⟩) (fun r s'=>r=.ok (.ret (.bool true))/\OldK aC.heap s'.heap/\s'.os=aC.os/\AllBare s'.gens) aC) :
  WalkO q loose XP YP l.row.toRowW d [] (fun f vs=>PySem.call f vs):=by
 intro w ar aC mg mb G Y fa o pm cd doc dV kV ho hd g_ hD hmg hg args vals as q5 hlay hrd E7 mx;obtain rfl:dV=.none:=Dflts.none hD uF;obtain rfl:kV=.none:=Dflts.noKw hD;obtain ⟨a,vs,ns,rfl,rfl,vW,hints,hlen⟩:=Zto hn q5 E7;refine enter_call (YaA (call w ar aC mg mb fa o pm cd doc a vs ns G Y ho (fd_plain hd) g_ hmg vW hints hlen hg) fun r s' hq=>?_);obtain ⟨rfl,h2,h3,h4⟩:=hq;exact ⟨.inl ⟨.bool true,.bool true,[],rfl,fun _=>rfl,.bool true,Ztu l _,fun _=>⟨YaV,fun _ hm=>(nomatch hm)⟩⟩,h2,h3,h4⟩
section
variable {prog:Program} {w:World} {A:Around} {E:Value->Shared->Prop} {s:Shared} {K:Frag}
end
end Att
namespace L2
open PySem PySem.Spec PyProof.Rows
theorem ZoX:∀ {vs:List Value} {ns:List Int},IntsAre vs ns->Vals (ns.map V.int) vs
 | _,_,.nil=>.nil
 | _,_,.cons n t h=>.cons ⟨t,rfl⟩ (ZoX h)
end L2
namespace L2
open PySem PySem.Spec PyProof.Rows
end L2
namespace L2
open PySem PySem.Spec PyProof.Rows
def eM (s:Stmt) (j:Nat):Stmt:=match s with
 | .ClassDef _ _ _ body _ _ _ _ _ _ _=>body.getD j (.Pass ⟨0,0,0,0⟩)
 | _=>.Pass ⟨0,0,0,0⟩
def pY (s:Stmt):Arguments:=match s with
 | .FunctionDef _ a _ _ _ _ _ _ _ _=>a
 | _=>{posonlyargs:=[],args:=[],vararg:=none,kwonlyargs:=[],kw_defaults:=[],kwarg:=none,defaults:=[]}
def kU (s:Stmt):List Stmt:=match s with
 | .FunctionDef _ _ b _ _ _ _ _ _ _=>b
 | _=>[]
def Zi (s:Stmt):Scope:=match s with
 | .FunctionDef _ _ _ _ _ _ sc _ _ _=>sc
 | _=>{kind:=.function,names:=[],isGenerator:=false,isCoroutine:=false}
abbrev oz:jK:=fun _ _ _ _ _ _=>False
abbrev E0:XK:=fun _ _ _=>False
structure aG (K:Yf) (x qual:Str) (st:Stmt) (f:Addr) (fd:Yl):Prop where
 ex:∃ (oc:Value) (od:Option Addr) (kV doc pm:Value) (an:Option Addr) (aY ct:Value) (mq:Array (Option Value)),
  fd=XI x qual (pY st) (kU st) (Zi st) .none kV doc pm an aY ct/\K.lookup f=some ⟨oc,od,.func fd,mq⟩/\PySem.W.codeIn K aY qual=true
 kp:XM K (.ref f)=true
section
variable {P:Program} {w:World} {K:Yf} {mg:Str->Option Value} {base:Heap}
theorem aG.binds {x qual:Str} {st:Stmt} {f:Addr} {fd:Yl} {ps:List Str} (F:aG K x qual st f fd)
  (h:∀ (kV doc pm:Value) (an:Option Addr) (aY ct:Value) (us:List Value),us.length=ps.length->bindArgs (XI x qual (pY st) (kU st) (Zi st) .none kV doc pm an aY ct) ⟨us,[]⟩=pure (ps.zip us)):ZF K fd ps []:=by
 obtain ⟨oc,od,kV,doc,pm,an,aY,ct,mq,rfl,lk,g_⟩:=F.ex;exact .all (h kV doc pm an aY ct)
theorem Zx8 {x qual:Str} {st:Stmt} {f:Addr} {oc:Value} {od an:Option Addr} {mq:Array (Option Value)} {kV doc pm aY ct:Value} (l:K.lookup f=some ⟨oc,od,.func (XI x qual (pY st) (kU st) (Zi st) .none kV doc pm an aY ct),mq⟩)
  (c:PySem.W.codeIn K aY qual=true) (k:XM K (.ref f)=true):aG K x qual st f (XI x qual (pY st) (kU st) (Zi st) .none kV doc pm an aY ct):=⟨⟨oc,od,kV,doc,pm,an,aY,ct,mq,rfl,l,c⟩,k⟩
end
section
variable {X:Cx}
theorem pv (i:Nat) {x:Str} {pos:Pos} (hN:X.N[i]?=some x:=by rfl) (hv:Ej X.env.scope x:=by first | exact Or.inl rfl | exact Or.inr (Or.inl rfl) | exact Or.inr (Or.inr rfl)) (hd:(x == ("__debug__":Str))=false:=by decide)
  (g_:(x == ("__classdict__":Str))=false:=by decide):PE X (.Name x pos) (aN i):=Zv0 hN hv hd g_
end
theorem av {A B:Prop} (h:B):if false=true then A else B:=by
 rw [if_neg Yp];exact h
theorem ax {A B:Prop} (h:A):if true=true then A else B:=by
 rw [if_pos rfl];exact h
theorem jX {c A B:Prop} [Decidable c] (h1:c->A) (h2:¬ c->B):if c then A else B:=by
 by_cases h:c
 .rw [if_pos h];exact h1 h
 .rw [if_neg h];exact h2 h
theorem Zx1 {c A B:Prop} [Decidable c] (hc:c) (h:B):if (!decide c)=true then A else B:=by
 rw [decide_eq_true hc];exact av h
def ag (H H':Hp):Prop:=∀ b o,H b=some o->H' b=some o
theorem ag.refl (H:Hp):ag H H:=fun _ _ h=>h
theorem ag.trans {H H1 H2:Hp} (a:ag H H1) (b:ag H1 H2):ag H H2:=fun c o h=>b c o (a c o h)
theorem ag.seq {K:Yf} {H H':Hp} {a:Addr} {xs:List V} (e:ag H H') (h:aq K H a xs):aq K H' a xs:=by
 rcases h with (h | ⟨o,h⟩) | h
 .exact .inl (.inl (e _ _ h))
 .exact .inl (.inr ⟨o,e _ _ h⟩)
 .exact .inr h
end L2
set_option maxHeartbeats 4000000
namespace L2
open PySem PySem.Spec PyProof.Rows
structure pZ (X:Cx) (scope:Scope) (own fv:List Str) (ix:List Nat):Prop where
 kind:scope.kind=.function
 lC:∀ y∈scope.names,y.2≠.cell
 names:∀ y∈scope.names,y.2=.local->scope.names.lookup y.1=some .local
 once:∀ y∈scope.names,y.2=.free->scope.names.lookup y.1=some .free
 outer:∀ y∈scope.names,y.2=.free->X.env.kindOf y.1=some .cell∨X.env.kindOf y.1=some .free
 wA:∀ y∈fv,scope.names.lookup y=some .free
 slots:∀ (j:Nat) (y:Str),fv[j]?=some y->∃ i,ix[j]?=some i/\X.N[i]?=some y
 len:ix.length=fv.length
def Zwd (sc:Scope) (N:List Str) (scope:Scope) (fv:List Str) (ix:List Nat):Bool:=
 scope.kind == .function && scope.names.all (fun y=>y.2 != .cell && (y.2 != .local || scope.names.lookup y.1 == some .local) && (y.2 != .free || (scope.names.lookup y.1 == some .free && (sc.names.lookup y.1 == some .cell || sc.names.lookup y.1 == some .free)))) &&
  fv.all (fun y=>scope.names.lookup y == some .free) && ix.length == fv.length && (List.range fv.length).all fun j=>((ix[j]?).bind fun i=>N[i]?) == fv[j]?
theorem ot {X:Cx} {scope sc:Scope} {N own fv:List Str} {ix:List Nat} (hs:X.env.scope=sc) (hN:X.N=N) (h:Zwd sc N scope fv ix=true):pZ X scope own fv ix:=by
 unfold Zwd at h
 simp only [YV,Ybh,beq_iff_eq,bne_iff_ne,Xz,ne_eq] at h
 obtain ⟨⟨⟨⟨h1,h2⟩,h3⟩,h4⟩,h5⟩:=h;refine ⟨h1,fun y hy=>(h2 y hy).1.1,fun y hy e=>((h2 y hy).1.2).resolve_left fun z=>z e,fun y hy e=>(((h2 y hy).2).resolve_left fun z=>z e).1,fun y hy e=>?_,h3,fun j y e=>?_,h4⟩
 .have z:=(((h2 y hy).2).resolve_left fun z=>z e).2;unfold Env.kindOf;rw [hs];exact z
 .have hj:j < fv.length:=(List.getElem?_eq_some_iff.mp e).1;have z:=h5 j (List.mem_range.mpr hj);rw [e] at z
  cases q:ix[j]? with
  | none=>rw [q] at z;cases z
  | some i=>
   rw [q] at z;exact ⟨i,rfl,by rw [hN];exact z⟩
theorem IL {names:List (Str×Yau)} {x:Str} {k:Yau} (h:names.lookup x=some k):(x,k)∈names:=by
 induction names with
 | nil=>simp at h
 | cons p r ih=>
  obtain ⟨n,k'⟩:=p;rw [Y5] at h
  cases e:x == n with
  | true=>
   rw [e] at h
   have:=eq_of_beq e
   cases h
   rw [this];exact YA
  | false=>
   rw [e] at h;exact Yr _ (ih h)
theorem La {scope:Scope} {env:Env}:∀ (names:List (Str×Yau)) (x:Str),
    (names.map fun (n,k)=>if (k == YG && env.scope.kind == .function && env.kindOf n == some .cell) then (n,Yao) else (n,k)).lookup x =
      (names.lookup x).map fun k=>if (k == YG && env.scope.kind == .function && env.kindOf x == some .cell) then Yao else k
  | [],_=>rfl
  | (n,k)::r,x=>by
    have ih:=La (scope:=scope) (env:=env) r x;show XO x ((if (k == YG && env.scope.kind == .function && env.kindOf n == some .cell)=true then (n,Yao) else (n,k))::_)=_
    cases e:x == n with
    | true=>
      have e':=eq_of_beq e;subst e'
      by_cases hc:(k == YG && env.scope.kind == .function && env.kindOf x == some .cell)=true
      · rw [if_pos hc,Y5,Y5,e]
        show some Yao=Option.map _ (some k);rw [Xe,if_pos hc]
      · rw [if_neg hc,Y5,Y5,e]
        show some k=Option.map _ (some k);rw [Xe,if_neg hc]
    | false=>
      by_cases hc:(k == YG && env.scope.kind == .function && env.kindOf n == some .cell)=true
      · rw [if_pos hc,Y5,Y5,e]
        exact ih
      · rw [if_neg hc,Y5,Y5,e]
        exact ih
theorem IB (env:Env):∀ (names:List (Str×Yau)) (acc:List (Str×Addr)),
    (∀ y∈names,y.2=.free->∃ c,env.cells.lookup y.1=some c)->
    ∃ cl,(forIn names acc fun (x:Str×Yau) (cs:List (Str×Addr))=>(if (x.2 == YG)=true then do let c <- cellOf env x.1;pure (Wc ((x.1,c)::cs)) else pure (Wc cs):Sem (ForInStep (List (Str×Addr)))))=pure cl/\
      (∀ y c,(y,c)∈cl->(y,c)∈acc∨(env.cells.lookup y=some c/\(y,YG)∈names))/\
      (∀ y,(∃ c,(y,c)∈acc)∨(y,YG)∈names->∃ c,(y,c)∈cl)
  | [],acc,_=>⟨acc,rfl,fun y c h=>.inl h,fun y h=>h.elim (fun z=>z) fun z=>nomatch z⟩
  | (n,k)::r,acc,h=>by
    rw [Yby]
    by_cases hk:k=.free
    · subst hk
      obtain ⟨c,hc⟩:=h (n,.free) YA rfl;obtain ⟨cl,e,h1,h2⟩:=IB env r ((n,c)::acc) fun y hy=>h y (Yr _ hy);refine ⟨cl,?_,fun y c' hm=>?_,fun y hy=>h2 y ?_⟩
      · simp only [beq_self_eq_true,if_true]
        have:cellOf env n=pure c:=by unfold cellOf;rw [hc]
        rw [this,pure_bind,pure_bind];exact e
      · rcases h1 y c' hm with z | ⟨z1,z2⟩
        · rcases List.mem_cons.mp z with z | z
          · cases z
            exact .inr ⟨hc,YA⟩
          · exact .inl z
        · exact .inr ⟨z1,Yr _ z2⟩
      · rcases hy with ⟨c',z⟩ | z
        · exact .inl ⟨c',Yr _ z⟩
        · rcases List.mem_cons.mp z with z | z
          · cases z
            exact .inl ⟨c,YA⟩
          · exact .inr z
    · obtain ⟨cl,e,h1,h2⟩:=IB env r acc fun y hy=>h y (Yr _ hy)
      have hb:(k == YG)=false:=by simpa using hk
      refine ⟨cl,?_,fun y c' hm=>?_,fun y hy=>h2 y ?_⟩
      · simp only [hb,YQ,if_false]
        rw [pure_bind];exact e
      · rcases h1 y c' hm with z | ⟨z1,z2⟩
        · exact .inl z
        · exact .inr ⟨z1,Yr _ z2⟩
      · rcases hy with z | z
        · exact .inl z
        · rcases List.mem_cons.mp z with z | z
          · cases z
            exact absurd rfl hk
          · exact .inr z
theorem ZlE {l:List (Str×Addr)} {x:Str} {c:Addr} (h:l.lookup x=some c):(x,c)∈l:=by
 induction l with
 | nil=>simp at h
 | cons p r ih=>
  obtain ⟨n,k'⟩:=p;rw [Y5] at h
  cases e:x == n with
  | true=>
   rw [e] at h
   have:=eq_of_beq e
   cases h
   rw [this];exact YA
  | false=>
   rw [e] at h;exact Yr _ (ih h)
theorem Zlx {l:List (Str×Addr)} {x:Str} {c:Addr} (h:(x,c)∈l):∃ c',l.lookup x=some c':=by
 induction l with
 | nil=>cases h
 | cons p r ih=>
  obtain ⟨n,k'⟩:=p;rw [Y5]
  cases e:x == n with
  | true=>exact ⟨k',rfl⟩
  | false=>
   rcases List.mem_cons.mp h with z | z
   .cases z
    rw [beq_self_eq_true] at e
    cases e
   .exact ih z
theorem IC {scope:Scope} {env:Env} (h:∀ y∈scope.names,y.2=.free->∃ c,env.cells.lookup y.1=some c) :
  ∃ cl,closureFor scope env=pure cl/\(∀ y c,cl.lookup y=some c->env.cells.lookup y=some c/\(y,YG)∈scope.names)/\(∀ y,(y,YG)∈scope.names->∃ c,cl.lookup y=some c):=by
 obtain ⟨cl,e,h1,h2⟩:=IB env scope.names [] h;refine ⟨cl,?_,fun y c hl=>?_,fun y hy=>?_⟩
 .unfold closureFor;refine Eq.trans (b:=((forIn scope.names [] fun (x:Str×Yau) (cs:List (Str×Addr))=>(if (x.2 == YG)=true then do let c <- cellOf env x.1;pure (Wc ((x.1,c)::cs)) else pure (Wc cs):Sem (ForInStep (List (Str×Addr))))) >>= fun cs=>pure cs)) rfl ?_;rw [e];rfl
 .rcases h1 y c (ZlE hl) with z | z
  .cases z
  .exact z
 .obtain ⟨c,hc⟩:=h2 y (.inr hy);exact Zlx hc
def gn (X:Cx) (scope:Scope) (cl:List (Str×Addr)) (M:List Str) (fp:List Addr) (C:Addr) (s:Shared) (H:Hp):Cx where
 prog:=X.prog
 w:=X.w
 K:=X.K
 mg:=X.mg
 base:=X.base
 A:=X.A
 N:=M
 ar:=s
 aO:=H
 env:=YaK scope cl C X.env
 outer:=X.stack
 stack:=X.stack
 ex:=fp
 fn:=fun y=>scope.names.lookup y == some .local
 calm:=X.calm
 pn:=[]
 xe:=fun _ _=>False
def Ek (X:Cx) (ifs:List Expr) (t:TT):Prop:=
 ∀ (pins:List (Addr×Obj)) (s:Shared) (σ:St) (H:Hp) (Q:Bool->Hp->Prop),Inv X pins σ H s->t σ H Q->
  wpAny (model X.prog X.w) X.A (forIn ifs true fun c r=>if r=true then do let ok <- isTrue c X.env (eval c X.env);pure (Wc ok) else pure (Wc r)) (TP X pins σ Q) X.xe s
def AJ:TT:=fun _ H Q=>Q true H
theorem xK {X:Cx}:Ek X [] AJ:=fun _ _ _ H _ I h=>wpAny_tests_nil ⟨H,I,h⟩
theorem ZwC {X:Cx} {c:Expr} {t:TT} (h:PT X c t):Ek X [c] t:=by
 try unfold PE at *;try unfold PA at *
 exact fun pins s σ H Q I hw=>wpAny_tests_one (h pins s σ H Q I hw)
def ZxB (wi:TI) (k:Nat) (ix:List Nat) (g:TG) (tt:TT) (te:TE):TE:=fun σ H Q=>wi σ H fun J H1=>∀ D,H1 D=none->
 ∃ W:Nat->Nat->St->List V->Hp->Prop,(∃ m,W 0 m (List.replicate k none++ix.map fun i=>(σ[i]?).getD none) [] (upd H1 D (.lst [])))/\
  ∀ i m aB ys H',W i m aB ys H'->H' D=some (.lst ys)/\((J.stop i H'/\Q (.ref D) H')∨(J.go i H'/\ys.length < Ym/\
   ∀ x H2,J.mn i H' x H2->g x aB H2 fun bI H3=>tt bI H3 fun b H4=>
    if b=true then te bI H4 fun v H5=>H5 D=some (.lst ys)/\∃ m',m' < m/\W (i + 1) m' bI (ys++[v]) (upd H5 D (.lst (ys++[v])))
    else ∃ m',m' < m/\W (i + 1) m' bI ys H4))
section
variable {prog:Program} {w:World} {A:Around} {R:Result->Shared->Prop} {s:Shared}
theorem Zc5 {elt target iter:Expr} {ifs:List Expr} {scope:Scope} {pos:Pos} {it acc:Value} {env:Env} (I:Nat->Shared->Prop)
  (turn:∀ n s,I n s->wpAny (model prog w) A (W8 it) (fun r aC=>match r with
   | none=>R (.ok .next) aC
   | some v=>wpAny (model prog w) A (Yax target it v) (fun _ tE=>wpAny (model prog w) A (assign target env v) (fun _ gq=>
     wpAny (model prog w) A (forIn ifs true fun c r=>if r=true then do let ok <- isTrue c env (eval c env);pure (Wc ok) else pure (Wc r)) (fun ok mH=>
      if ok=true then wpAny (model prog w) A (eval elt env) (fun x AL=>
       wpAny (model prog w) A (call (.builtin "list.append") [acc,x]) (fun _ AK=>∃ m,m < n/\I m AK) (fun _ _=>False) AL) (fun _ _=>False) mH
      else ∃ m,m < n/\I m mH) (fun _ _=>False) gq) (fun _ _=>False) tE) (fun _ _=>False) aC) (fun _ _=>False) s)
  (n:Nat) (h:I n s) :
  Yas (model prog w) A (.compLoop (.ListComp elt [⟨target,iter,ifs,0⟩] scope pos) 0 it acc env) R s:=by
 refine codeAny_loop rfl I (fun n s hI=>?_) n h;show wpAny _ A ((compTurn (.ListComp elt [⟨target,iter,ifs,0⟩] scope pos) 0 it acc env).onRaise (fun x=>do noteFrame x env;theTreesLotGoes x)) _ _ s;refine wpAny_noted ?_;rw [compTurn_list];refine Ya (wpAny_standAt (Ya (Xd (turn n s hI) (fun r aC qZ=>?_) fun _ _ z=>z.elim)))
 cases r with
 | none=>exact Yd qZ
 | some v=>
  refine Ya (Xd qZ (fun _ tE BL=>?_) fun _ _ z=>z.elim);refine Ya (Xd BL (fun _ gq oE=>Ya (Xd oE (fun ok mH qY=>?_) fun _ _ z=>z.elim)) fun _ _ z=>z.elim)
  cases ok with
  | false=>exact Yd ⟨rfl,qY⟩
  | true=>
   exact Ya (Ya (Xd qY (fun x AL Mv=>Ya (Xd Mv (fun _ AK Mu=>Yd (Yd ⟨rfl,Mu⟩)) fun _ _ z=>z.elim)) fun _ _ z=>z.elim))
end
section
variable {X:Cx} {pins:List (Addr×Obj)} {σ:St} {H H2:Hp} {s:Shared} {scope:Scope} {own fv:List Str} {ix:List Nat} {cl:List (Str×Addr)}
theorem pZ.cells {own fv:List Str} (S:pZ X scope own fv ix) (ok:X.Ok):∀ y∈scope.names,y.2=.free->∃ c,X.env.cells.lookup y.1=some c:=
 fun y hy e=>ok.has y.1 (S.outer y hy e)
theorem Zqc (S:pZ X scope own fv ix) (ok:X.Ok) {x:Str} (h:(YaK scope cl C X.env).kindOf x=some .cell∨(YaK scope cl C X.env).kindOf x=some .free):(x,YG)∈scope.names:=by
 have e:(YaK scope cl C X.env).kindOf x=(scope.names.lookup x).map fun k=>if (k == YG && X.env.scope.kind == .function && X.env.kindOf x == some .cell) then Yao else k:=La (scope:=scope) _ _
 cases q:scope.names.lookup x with
 | none=>
  rw [e,q] at h;rcases h with h | h <;> cases h
 | some k=>
  have m:=IL q;rw [e,q] at h
  by_cases hk:k=.free
  .subst hk;exact m
  .have hb:(k == YG)=false:=by simpa using hk
   simp only [Xe,hb,Bool.false_and,YQ,if_false] at h
   rcases h with h | h
   .cases h
    exact absurd rfl (S.lC _ m)
   .cases h
    exact absurd rfl hk
theorem Zqd (S:pZ X scope own fv ix) (ok:X.Ok) {x:Str} (h:(x,YG)∈scope.names):(YaK scope cl C X.env).kindOf x=some .cell∨(YaK scope cl C X.env).kindOf x=some .free:=by
 have e:(YaK scope cl C X.env).kindOf x=(scope.names.lookup x).map fun k=>if (k == YG && X.env.scope.kind == .function && X.env.kindOf x == some .cell) then Yao else k:=La (scope:=scope) _ _
 rw [e,S.once _ h rfl]
 by_cases hc:(YG == YG && X.env.scope.kind == .function && X.env.kindOf x == some .cell)=true
 .left;simp only [Xe,hc,if_true]
 .right;simp only [Xe,hc,if_false];rfl
theorem Zw7 (S:pZ X scope own fv ix) (I:Inv X pins σ H s) {fp:List Addr} (hf:∀ b∈fp,eQ X pins H2 b) (br:∀ b∈fp,b < s.heap.objs.size)
  (cG:∀ y c,cl.lookup y=some c->X.env.cells.lookup y=some c/\(y,YG)∈scope.names) (gw:∀ y,(y,YG)∈scope.names->∃ c,cl.lookup y=some c) :
  (gn X scope cl (own++fv) fp s.heap.objs.size s H).Ok where
 mod:=I.ok.mod
 kind:=S.kind
 glob:=I.ok.glob
 blt:=I.ok.blt
 above:=Ye _
 inj:=fun x y c h1 h2=>I.ok.inj x y c (cG x c h1).1 (cG y c h2).1
 has:=fun x h=>gw x (Zqc S I.ok h)
 pO:=fun x c h1 h2=>by
  have m:=(cG x c h2).2;have xj:(scope.names.lookup x == some .local)=true:=h1;rw [S.once _ m rfl] at xj
  cases xj
 hd:=I.ok.hd
 frames:=I.ok.frames
 rH:=.inl rfl
 xk:=fun b hb=>⟨Yu (br b hb),fun x c e=>(hf b hb).2.2.2.2.1 x c (cG x c e).1⟩
 bs:=I.bs
 kR:=Yk I.ok.kR I.sz
 je:=fun b o e hb=>by
  rcases (hf b hb).2.2.2.1 with z | z
  .exact I.ok.je b o e z
  .exact absurd (Yq (Yj e) (Yk I.ok.kR z)) (YN _)
 ia:=fun b hb z=>by
  rcases List.mem_cons.mp (I.bW b z) with e | e
  .exact (hf b hb).2.1 e
  .exact (hf b hb).2.2.1 e
 bJ:=I.stack
 mC:=I.cw
theorem ZpZ {σ:St} {i:Nat} {v:V} (h:(σ[i]?).getD none=some v):σ[i]?=some (some v):=by
 cases e:σ[i]? with
 | none=>rw [e] at h;cases h
 | some o=>rw [e] at h;exact congrArg some h
theorem Znk (S:pZ X scope own fv ix) (I:Inv X pins σ H s) {fp:List Addr} (hf:∀ b∈fp,eQ X pins H2 b) (br:∀ b∈fp,b < s.heap.objs.size)
  (cG:∀ y c,cl.lookup y=some c->X.env.cells.lookup y=some c/\(y,YG)∈scope.names) (gw:∀ y,(y,YG)∈scope.names->∃ c,cl.lookup y=some c)
  {h1:Heap} {t1:Nat} {m:Str->Option Value} (mw:h1.Ns s.heap.objs.size m) (old:∀ b o,s.heap.get? b=some o->h1.get? b=some o) :
  Inv (gn X scope cl (own++fv) fp s.heap.objs.size s H) [] (List.replicate own.length none++ix.map fun i=>(σ[i]?).getD none) H {s with heap:=h1,toks:=t1}:=by
 refine ⟨Zw7 S I hf br cG gw,rfl,I.bare,Un.kept old,⟨m,mw,fun i x v e1 e2 e3=>?_⟩,fun x c e=>?_,I.aj.fresh (Ye _),fun x c e=>I.bg x c (cG x c e).1,fun p hp=>(nomatch hp),I.aj.kept old,?_⟩
 .have FV:(own++fv)[i]?=some x:=e1
  by_cases hi:i < own.length
  .rw [YaO (by rw [YM];exact hi),List.getElem?_replicate,if_pos hi] at e2
   cases e2
  .have lK:own.length<=i:=Nat.not_lt.mp hi;rw [WM lK] at FV;rw [WM (by rw [YM];exact lK),YM,Yo] at e2;obtain ⟨j,hj,hN⟩:=S.slots _ x FV;rw [hj] at e2;have e2':σ[j]?=some (some v):=ZpZ (YB e2);have fk:(x,YG)∈scope.names:=IL (S.wA x (Yy FV));have zc:=S.outer _ fk rfl;obtain ⟨m0,uD,uE⟩:=I.loc;obtain ⟨u,r,l⟩:=uE j x v hN e2' (zc.elim (fun z=>.inr (.inl z)) fun z=>.inr (.inr z));refine ⟨u,r,.inr ⟨Zqd S I.ok fk,?_⟩⟩;rcases l with ⟨k,_⟩ | ⟨_,c,ec,z⟩
   .have k':X.env.kindOf x=some .local:=k;rcases zc with q | q <;> (rw [q] at k';cases k')
   .obtain ⟨c',mB⟩:=gw x fk;have zB:=(cG x c' mB).1;rw [ec] at zB
    cases zB
    obtain ⟨o,ho,hd⟩:=z;exact ⟨c,mB,o,old c o ho,hd⟩
 .obtain ⟨v,o,ho,hd⟩:=I.cell x c (cG x c e).1;exact ⟨v,o,old c o ho,hd⟩
 .show (List.replicate own.length none++ix.map fun i=>(σ[i]?).getD none:St).length=(own++fv).length;rw [Yg,Yg,YM,Yb,S.len]
theorem ZrZ {H':Hp} {aB:St} {s':Shared} {jP:Heap} {fp:List Addr} (I:Inv X pins σ H s) (hf:∀ b∈fp,eQ X pins H2 b)
  (I':Inv (gn X scope cl (own++fv) fp s.heap.objs.size s H) [] aB H' s') (hs:Xx s.heap.objs.size s'.heap jP):Inv X pins σ H' {s' with heap:=jP}:=by
 have ne:∀ b o,s.heap.get? b=some o->b≠s.heap.objs.size:=fun b o e=>Yu (Yj e);have B:Un (bM X.stack) fp H H' s.heap s'.heap:=I'.base;refine I.tU (ch:=fp) (s':={s' with heap:=jP}) I'.os ⟨fun b o e n hb hx=>?_,fun b o e n hb hx=>?_,B.free,fun b o e hx=>?_,B.cI,B.bV,B.ck⟩ (fun b u e=>?_) I'.bare fun b hb=>⟨(hf b hb).2.2.2.1,(hf b hb).2.1,(hf b hb).2.2.2.2.1,(hf b hb).2.2.2.2.2⟩
 .exact (hs.2 b (ne b o e)).trans (B.keep b o e n hb hx)
 .obtain ⟨sl,e1⟩:=B.slot b o e n hb hx;exact ⟨sl,(hs.2 b (ne b o e)).trans e1⟩
 .obtain ⟨o',e1⟩:=B.there b o e hx;exact ⟨o',(hs.2 b (ne b o e)).trans e1⟩
 .have fr:H' s.heap.objs.size=none:=I'.free;refine (I'.aj b u e).dh (fun c w' hc q=>(hs.2 c ?_).trans q) (fun _ q=>q) fun _ _ q=>q
  rintro rfl
  rcases hc with z | z
  .rw [<- z,fr] at e;cases e
  .rw [fr] at z;cases z
theorem xQ {elt target iter:Expr} {ifs:List Expr} {pos:Pos} {wi:TI} {g:TG} {tt:TT} {te:TE} (S:pZ X scope own fv ix) (hc:X.calm=true) (hi:PI X target iter wi)
  (hg:∀ cl fp C s H,PG (gn X scope cl (own++fv) fp C s H) target g) (ht:∀ cl fp C s H,Ek (gn X scope cl (own++fv) fp C s H) ifs tt) (he:∀ cl fp C s H,PE (gn X scope cl (own++fv) fp C s H) elt te)
  (hs:∀ x,foldedSetIterable iter X.env x=pure x:=by intro _;rfl):PE X (.ListComp elt [⟨target,iter,ifs,0⟩] scope pos) (ZxB wi own.length ix g tt te):=by
 try unfold PE at *
 intro pins s σ H Q I h;rw [eval_ListComp];obtain ⟨cl,iG,cG,gw⟩:=IC (scope:=scope) (env:=X.env) (S.cells I.ok);refine wpAny_comprehension_free (use:=none) rfl hs iG S.kind S.names (aH (hi pins s σ H _ I h) fun v s1 h1=>aH h1 fun Cb s2 h2=>?_);obtain ⟨it,fp,tn,J,H2,e,I2,T,kO,f2,hW⟩:=h2;subst e
 have lh:∀ b∈fp,b < s2.heap.objs.size:=fun b hb=>by
  obtain ⟨o,e,_⟩:=T.obj _ _ kO b hb;exact Yj e
 obtain ⟨W,⟨m0,w0⟩,turn⟩:=hW s2.heap.objs.size I2.fresh;have I3:Inv X pins σ (upd H2 s2.heap.objs.size (.lst [])) {s2 with heap:=s2.heap.push {cls:=.type "list",data:=.seq ([]:List Value).toArray}}:=I2.oC (t':=s2.toks) (its:=[]) .nil (Yv _);refine YF ?_;generalize yX:({s2 with heap:=s2.heap.push {cls:=.type "list",data:=.seq ([]:List Value).toArray}}:Shared)=s3 at I3;have vU:s3.heap.objs.size=s2.heap.objs.size + 1:=by rw [<- yX];exact XN ..
 have Et:∀ b o,s2.heap.get? b=some o->s3.heap.get? b=some o:=fun b o e=>by rw [<- yX];exact Yc _ e
 refine YbF (fun y hy=>S.lC y hy) (by intro y hy;simp at hy) (fun h4 vX vV=>?_) S.kind;have oA:∀ b o,s3.heap.get? b=some o->h4.get? b=some o:=fun b o e=>vV.extBut b o (Yu (Yj e)) (Yc _ e);have oG:∀ b∈fp,b < s3.heap.objs.size:=fun b hb=>by rw [vU];exact Nat.lt_succ_of_lt (lh b hb)
 have I4:=Znk (t1:=s3.toks + ([]:List (Str×Value)).length) S I3 f2 oG cG gw vX oA;have yx:tn 0 h4:=T.keep _ _ _ kO fun b hb o e=>oA b o (Et b o e);have FJ:∀ b∈fp,(upd H2 s2.heap.objs.size (.lst [])) b=none:=fun b hb=>by rw [Zf (Yu (lh b hb))];exact (f2 b hb).1
 have gs:∀ {H':Hp},(∀ b∈fp,H' b=none)->∀ b∈fp,eQ (gn X scope cl (own++fv) fp s3.heap.objs.size s3 (upd H2 s2.heap.objs.size (.lst []))) [] H' b:=fun hn b hb=>
  ⟨hn b hb,Yu (oG b hb),(I4.ok.ia b hb),.inl hb,fun x c e=>(f2 b hb).2.2.2.2.1 x c (cG x c e).1,fun p hp=>(nomatch hp)⟩
 have loop:Yas (model X.prog X.w) X.A (.compLoop (.ListComp elt [⟨target,iter,ifs,0⟩] scope pos) 0 (.ref it) (.ref s2.heap.objs.size) (YaK scope cl s3.heap.objs.size X.env))
   (compPost (model X.prog X.w) X.A X.xe none (EP X pins σ Q) (.ref s2.heap.objs.size) s3.heap.objs.size) {s3 with heap:=h4,toks:=s3.toks + ([]:List (Str×Value)).length}:=by
  refine Zc5 (fun n s'=>∃ i aB ys H',Inv (gn X scope cl (own++fv) fp s3.heap.objs.size s3 (upd H2 s2.heap.objs.size (.lst []))) [] aB H' s'/\tn i s'.heap/\(∀ b∈fp,H' b=none)/\W i n aB ys H') ?_ m0 ⟨0,_,[],_,I4,yx,FJ,w0⟩
  rintro n s5 ⟨i,qf,ys,H5,I5,qj,uP,w5⟩
  obtain ⟨hD,next⟩:=turn i n qf ys H5 w5;rcases next with ⟨stop,q⟩ | ⟨go,E4,step⟩
  .refine aH (T.done (gn X scope cl (own++fv) fp s3.heap.objs.size s3 (upd H2 s2.heap.objs.size (.lst []))) rfl rfl rfl hc i [] s5 qf H5 (fun _ _=>False) I5 (gs uP) qj stop) fun r s6 ⟨hr,I6⟩=>?_;subst hr;obtain ⟨m6,Ci,_⟩:=id I6.loc;exact ⟨m6,Ci,fun h7 hs7=>⟨.ref s2.heap.objs.size,H5,ZrZ I3 f2 I6 hs7,rfl,q⟩⟩
  .refine aH (T.item (gn X scope cl (own++fv) fp s3.heap.objs.size s3 (upd H2 s2.heap.objs.size (.lst []))) rfl rfl rfl hc i [] s5 qf H5 (fun _ _=>False) I5 (gs uP) qj go) fun r s6 ⟨u,hr,h6⟩=>?_;subst hr;refine aH h6 fun _ s7 ⟨x,H7,I7,r7,y7,t_,FI⟩=>?_;have LM:=I7.pinned (gs FI) (T.obj _ _ t_);refine aH (hg _ _ _ _ _ _ s7 qf H7 x u _ LM r7 (step x H7 y7)) fun _ s8 ⟨kN,H8,I8,q8⟩=>?_;refine aH (ht _ _ _ _ _ _ s8 kN H8 _ I8 q8) fun b s9 ⟨H9,I9,q9⟩=>?_
   have again:∀ {jL:Shared} {jc:St} {jb:Hp} {qg:List V},Inv (gn X scope cl (own++fv) fp s3.heap.objs.size s3 (upd H2 s2.heap.objs.size (.lst []))) ([]++xG fp s7.heap) jc jb jL->(∃ m',m' < n/\W (i + 1) m' jc qg jb)->
     ∃ m,m < n/\∃ i aB ys H',Inv (gn X scope cl (own++fv) fp s3.heap.objs.size s3 (upd H2 s2.heap.objs.size (.lst []))) [] aB H' jL/\tn i jL.heap/\(∀ b∈fp,H' b=none)/\W i m aB ys H':=fun {jL jc jb qg} oy ⟨m',hm,Es⟩=>by
    refine ⟨m',hm,i + 1,jc,qg,jb,oy.cQ,T.keep _ _ _ t_ fun b hb o e=>(oy.pin (b,o) (YL _ (YL _ (yc hb e)))).1,fun b hb=>?_,Es⟩;obtain ⟨o,e,d⟩:=T.obj _ _ t_ b hb;exact (oy.pin (b,o) (YL _ (YL _ (yc hb e)))).2.1
   cases b with
   | false=>
    rw [if_neg (by decide)] at q9;rw [if_neg (by decide)];exact again I9 q9
   | true=>
    rw [if_pos rfl] at q9;rw [if_pos rfl];refine aH (he _ _ _ _ _ _ s9 kN H9 _ I9 q9) fun u9 jL ⟨v9,jb,oy,uf,wg,EN⟩=>?_;refine aH (qT (X:=gn X scope cl (own++fv) fp s3.heap.objs.size s3 (upd H2 s2.heap.objs.size (.lst []))) _ jL kN jb (.ref s2.heap.objs.size) [v9] (.ref s2.heap.objs.size) [u9] (fun _ yq=>yq=upd jb s2.heap.objs.size (.lst (ys++[v9]))) oy rfl (.cons uf .nil) ⟨_,ys,v9,rfl,rfl,wg,E4,rfl⟩) fun _ yA ⟨_,yq,LN,_,EM⟩=>?_;subst EM;exact again LN EN
 exact codeAny_compStart_list loop (T.self _ _ _ _ _ yx loop)
end
theorem Znl {n:Nat} {lo:Int} (te:TE) {σ:St} {ix:List Nat} {H1:Hp} {D:Addr} {Q:Hp->Prop} (Pv:Nat->List V->Hp->Prop) (h0:Pv 0 [] (upd H1 D (.lst []))) (hn:n<=Ym)
  (bP:∀ i ys H',Pv i ys H'->H' D=some (.lst ys)/\ys.length<=i)
  (hs:∀ i ys H' (N:VK),i < n->Pv i ys H'->(∀ v H5,H5 D=some (.lst ys)->Pv (i + 1) (ys++[v]) (upd H5 D (.lst (ys++[v])))->N v H5)->te (some (.int (lo + (i:Nat)))::ix.map fun i=>(σ[i]?).getD none) H' N)
  (hd:∀ ys H',Pv n ys H'->Q H') :
  ∃ W:Nat->Nat->St->List V->Hp->Prop,(∃ m,W 0 m (List.replicate 1 none++ix.map fun i=>(σ[i]?).getD none) [] (upd H1 D (.lst [])))/\
   ∀ i m aB ys H',W i m aB ys H'->H' D=some (.lst ys)/\(((ox lo n).stop i H'/\Q H')∨((ox lo n).go i H'/\ys.length < Ym/\
    ∀ x H2,(ox lo n).mn i H' x H2->xq 0 x aB H2 fun bI H3=>AJ bI H3 fun b H4=>
     if b=true then te bI H4 fun v H5=>H5 D=some (.lst ys)/\∃ m',m' < m/\W (i + 1) m' bI (ys++[v]) (upd H5 D (.lst (ys++[v])))
     else ∃ m',m' < m/\W (i + 1) m' bI ys H4)):=by
 refine ⟨fun i m aB ys H'=>i<=n/\m=n - i/\(∃ o,aB=o::ix.map fun i=>(σ[i]?).getD none)/\Pv i ys H',⟨n,Yv _,rfl,⟨none,rfl⟩,h0⟩,?_⟩
 rintro i m aB ys H' ⟨hi,rfl,⟨o,rfl⟩,P⟩
 obtain ⟨a1,a2⟩:=bP i ys H' P;refine ⟨a1,?_⟩
 by_cases br:i < n
 .refine .inr ⟨br,by omega,fun x H2 hy=>?_⟩;obtain ⟨rfl,rfl⟩:=hy;exact hs i ys H2 _ br P fun v H5 h1 h2=>⟨h1,n - (i + 1),by omega,br,rfl,⟨_,rfl⟩,h2⟩
 .have e:i=n:=by omega
  subst e;exact .inl ⟨Ye _,hd ys H' P⟩
end L2
namespace L2
open PySem PySem.Spec PyProof.Rows
section
variable {P:Program} {w:World} {H H':Hp} {h h':Heap} {a:Addr} {o:HO}
theorem bU.there (x:bU P w H h a o):∃ ob,h.get? a=some ob:=by
 cases o with
 | lst xs=>obtain ⟨_,_,_,_,e⟩:=x;exact ⟨_,e⟩
 | tup xs=>obtain ⟨_,_,_,o,e,_⟩:=x;exact ⟨_,e⟩
 | dK kvs=>obtain ⟨_,_,_,_,o,_,_,e,_⟩:=x;exact ⟨_,e⟩
 | dT kvs=>obtain ⟨_,_,_,_,o,_,_,e,_⟩:=x;exact ⟨_,e⟩
 | set S n=>obtain ⟨o,_,_,_,e,_⟩:=x;exact ⟨_,e⟩
 | ins C dx fs=>obtain ⟨_,_,_,e,_⟩:=x;exact ⟨_,e⟩
 | own y=>obtain ⟨_,e⟩:=x;exact ⟨_,e⟩
 | xd fs=>obtain ⟨_,⟨_,_,_,e,_⟩,_⟩:=x;exact ⟨_,e⟩
 | qk lo hi=>obtain ⟨_,_,_,e⟩:=x;exact ⟨_,e⟩
 | bu ob u=>obtain ⟨e,_⟩:=x;exact ⟨_,e⟩
 | cO ps=>exact ⟨_,(show h.get? a=some _ from x)⟩
 | met f y=>exact ⟨_,(show h.get? a=some _ from x)⟩
 | ext φ=>obtain ⟨_,⟨_,e⟩,_⟩:=x;exact ⟨_,e⟩
theorem cE.absent (x:cE P w H h) (e:h.get? a=none):H a=none:=by
 cases q:H a with
 | none=>rfl
 | some u=>
  obtain ⟨ob,z⟩:=(x a u q).there;rw [e] at z
  cases z
theorem cE.hidden (x:cE P w H h) {as:List Addr} (hf:∀ b∈as,H b=none):cE P w H (Ybs h as):=fun a o e=>
 (x a o e).dh (fun b u hb q=>YbN _ q fun hm=>by
  have z:=hf b hm;rcases hb with rfl | hb
  .rw [z] at e;cases e
  .rw [z] at hb;cases hb) (fun _ q=>q) fun _ _ q=>q
end
abbrev Cx.g8 (X:Cx) (A:Around):Cx:={X with A:=A,calm:=false}
theorem Cx.Ok.g8 {X:Cx} (ok:X.Ok) {A:Around} (hf:A.frames=X.A.frames):(X.g8 A).Ok:=
 ⟨ok.mod,ok.kind,ok.glob,ok.blt,ok.above,ok.inj,ok.has,ok.pO,fun z=>(nomatch z),hf.trans ok.frames,ok.rH,ok.xk,ok.bs,ok.kR,ok.je,ok.ia,ok.bJ,ok.mC⟩
abbrev Cx.fN (X:Cx) (pn:List (Addr×Obj)) (E:Value->Shared->Prop):Cx:={X with pn:=pn,xe:=E}
theorem Cx.Ok.fN {X:Cx} (ok:X.Ok) (pn:List (Addr×Obj)) (E:Value->Shared->Prop):(X.fN pn E).Ok:=
 ⟨ok.mod,ok.kind,ok.glob,ok.blt,ok.above,ok.inj,ok.has,ok.pO,ok.hd,ok.frames,ok.rH,ok.xk,ok.bs,ok.kR,ok.je,ok.ia,ok.bJ,ok.mC⟩
theorem Cx.Ok.cq {X:Cx} {pn:List (Addr×Obj)} {E:Value->Shared->Prop} (ok:(X.fN pn E).Ok):X.Ok:=
 ⟨ok.mod,ok.kind,ok.glob,ok.blt,ok.above,ok.inj,ok.has,ok.pO,ok.hd,ok.frames,ok.rH,ok.xk,ok.bs,ok.kR,ok.je,ok.ia,ok.bJ,ok.mC⟩
section
variable {X:Cx} {pins lZ:List (Addr×Obj)} {σ:St} {H:Hp} {s:Shared} {A:Around} {E:Value->Shared->Prop}
theorem Inv.g8 (I:Inv X pins σ H s) (hf:A.frames=X.A.frames):Inv (X.g8 A) pins σ H s:=⟨I.ok.g8 hf,I.os,I.bare,I.base,I.loc,I.cell,I.free,I.bg,I.pin,I.aj,I.len⟩
theorem Inv.lu (I:Inv (X.g8 A) pins σ H s) (ok:X.Ok):Inv X pins σ H s:=⟨ok,I.os,I.bare,I.base,I.loc,I.cell,I.free,I.bg,I.pin,I.aj,I.len⟩
theorem Inv.fN (I:Inv X pins σ H s) (E:Value->Shared->Prop):Inv (X.fN (X.pn++pins) E) [] σ H s:=
 ⟨I.ok.fN _ _,I.os,I.bare,I.base,I.loc,I.cell,I.free,I.bg,fun p hp=>I.pin p (by rwa [Xf] at hp),I.aj,I.len⟩
theorem Inv.cq (I:Inv (X.fN (X.pn++pins) E) lZ σ H s):Inv X pins σ H s:=
 ⟨I.ok.cq,I.os,I.bare,I.base,I.loc,I.cell,I.free,I.bg,fun p hp=>I.pin p (YbH _ hp),I.aj,I.len⟩
theorem SP.cq {D:Ends} {f:Flow} {s':Shared} (h:SP (X.fN (X.pn++pins) E) [] D f s'):SP X pins D f s':=by
 cases f with
 | next=>obtain ⟨aB,H',I,q⟩:=h;exact ⟨aB,H',I.cq,q⟩
 | brk=>obtain ⟨aB,H',I,q⟩:=h;exact ⟨aB,H',I.cq,q⟩
 | cont=>obtain ⟨aB,H',I,q⟩:=h;exact ⟨aB,H',I.cq,q⟩
 | ret u=>obtain ⟨v,aB,H',I,r,q⟩:=h;exact ⟨v,aB,H',I.cq,r,q⟩
end
structure F5 (P:Program) (w:World) (outer:List Env) (H H':Hp) (s:Shared) (e:Addr) (cls:Value) (s':Shared):Prop where
 os:s'.os=s.os
 bare:AllBare s'.gens
 un:Un (bM outer) [] H H' s.heap s'.heap
 ex:∃ B a0,Heap.FlyingW B outer e cls a0 s'.heap/\cE P w H' B/\(∀ b o,s.heap.get? b=some o->H b=none->b ∉ bM outer->B.get? b=some o)/\(∀ b o,s.heap.get? b=some o->b ∉ bM outer->∃ o',B.get? b=some o')
def ay (P:Program) (w:World):jK:=fun outer H s E e s'=>∃ (a:Addr) (cls:Value) (H':Hp),e=.ref a/\F5 P w outer H H' s a cls s'/\E cls none H'
section
variable {X:Cx} {pins:List (Addr×Obj)} {σ:St} {H:Hp} {s:Shared}
theorem Ha (I:Inv X pins σ H s) (hex:X.ex=[]) {H':Hp} {jP:Heap}
  (kB:∀ b o,s.heap.get? b=some o->H b=none->b ∉ bM X.stack->jP.get? b=some o)
  (tB:∀ b o,s.heap.get? b=some o->b ∉ bM X.stack->∃ o',jP.get? b=some o')
  (sl:∀ b o,b∈X.fs->s.heap.get? b=some o->∃ sl,jP.get? b=some {o with slots:=sl})
  (fr:∀ b o,s.heap.get? b=some o->H b=none->H' b=none)
  (cI:∀ b xs,H b=some (.tup xs)->H' b=some (.tup xs)) (bV:∀ b o u,H b=some (.bu o u)->H' b=some (.bu o u)) (ck:∀ b ps,H b=some (.cO ps)->∃ more,H' b=some (.cO (ps++more))) :
  Un X.fs [] X.aO H' X.ar.heap jP:=by
 have nx:∀ b:Addr,b ∉ X.ex:=fun b z=>by rw [hex] at z;cases z
 have mY:∀ b o,X.ar.heap.get? b=some o->b ∉ X.fs->b ∉ bM X.stack:=fun b o e hb z=>by
  rcases List.mem_cons.mp (I.bW b z) with q | q
  .have:=Yj e
   rw [q] at this;exact absurd (Yq this I.ok.above) (YN _)
  .exact hb q
 refine ⟨fun b o e n hb _=>kB b o (I.base.keep b o e n hb (nx b)) (I.base.free b o e n (nx b)) (mY b o e hb),fun b o e n hb _=>?_,fun b o e n _=>?_,fun b o e _=>?_,fun b xs e=>cI b xs (I.base.cI b xs e),fun b o u e=>bV b o u (I.base.bV b o u e),fun b ps e=>?_⟩
 .obtain ⟨yy,e1⟩:=I.base.slot b o e n hb (nx b);obtain ⟨kP,e2⟩:=sl b _ hb e1;exact ⟨kP,e2⟩
 .obtain ⟨o',e1⟩:=I.base.there b o e (nx b);exact fr b o' e1 (I.base.free b o e n (nx b))
 .obtain ⟨o',e1⟩:=I.base.there b o e (nx b)
  by_cases hb:b∈X.fs
  .obtain ⟨kP,e2⟩:=sl b _ hb e1;exact ⟨_,e2⟩
  .exact tB b o' e1 (mY b o e hb)
 .obtain ⟨m1,e1⟩:=I.base.ck b ps e;obtain ⟨m2,e2⟩:=ck b _ e1;exact ⟨m1++m2,by rw [e2,Array.append_assoc]⟩
end
section
variable {P:Program} {w:World} {K:Yf} {mg:Str->Option Value} {base:Heap} {N:List Str} {qual:Str} {scope:Scope} {f:Addr} {cd:Value} {A:Around} {outer:List Env} {ar:Shared} {aO:Hp} {E:XK}
theorem Zsw {pins:List (Addr×Obj)} {σ:St} {H:Hp} {s:Shared} {h':Heap} {e C:Addr} {vs:List Value}
  (I:Inv (a8 (ay P w) P w K mg base N qual scope f cd A outer ar aO E) pins σ H s) (hx:Heap.MadeExcOf s.heap h' e (.ref C) vs) (hE:E (.ref C) none H) :
  (a8 (ay P w) P w K mg base N qual scope f cd A outer ar aO E).xe (.ref e) {s with heap:=h'}:=by
 have fk:∀ b∈bM (a8 (ay P w) P w K mg base N qual scope f cd A outer ar aO E).stack,H b=none:=I.cw;have Fj:∀ env∈(a8 (ay P w) P w K mg base N qual scope f cd A outer ar aO E).stack,∀ b,env.frame=some b->b∈bM (a8 (ay P w) P w K mg base N qual scope f cd A outer ar aO E).stack:=fun env he b hb=>List.mem_filterMap.mpr ⟨env,he,hb⟩;have hB:∀ b o,s.heap.get? b=some o->b ∉ bM (a8 (ay P w) P w K mg base N qual scope f cd A outer ar aO E).stack->(Ybs s.heap (bM (a8 (ay P w) P w K mg base N qual scope f cd A outer ar aO E).stack)).get? b=some o:=fun b o q hb=>YbN _ q hb;show wpAny (model P w) (A.deeper (WI qual scope ar.heap.objs.size f cd)) (leaving (WI qual scope ar.heap.objs.size f cd) (.ref e)) (fun _ iW=>ay P w outer aO ar E (.ref e) iW) (fun e' iW=>ay P w outer aO ar E e' iW) {s with heap:=h'};refine wpAny_leaves_madeW (s:={s with heap:=h'}) (base:=Ybs s.heap (bM (a8 (ay P w) P w K mg base N qual scope f cd A outer ar aO E).stack)) (h:=s.heap) (L:=ar.heap.objs.size) (outer:=outer) I.ok.frames rfl (fun b o q=>PySem.W.of_hideAll _ q) (PySem.W.funFrames_hide I.stack Fj) hx fun jP t x1 x2 x3 x4=>?_;have x4':h'.UpToSlots jP:=x4
 have slots:∀ b o,b∈bM outer->s.heap.get? b=some o->∃ sl,jP.get? b=some {o with slots:=sl}:=fun b o hb q=>by
  obtain ⟨_,o',dZ,qt⟩:=I.bJ.mem hb;rw [q] at dZ
  cases dZ
  exact x4' b o (hx.keeps b o q) qt
 refine ⟨e,.ref C,H,rfl,⟨I.os,I.bare,Ha I rfl (fun b o q _ hb=>x1.1 b o (hB b o q hb)) (fun b o q hb=>⟨o,x1.1 b o (hB b o q hb)⟩) slots (fun _ _ _ n=>n) (fun _ _ z=>z) (fun _ _ _ z=>z) (fun b ps z=>⟨#[],by rw [z];simp⟩),_,_,x1,I.aj.hidden fk,fun b o q n hb=>?_,fun b o q hb=>?_⟩,hE⟩
 .have cP:b ∉ bM (a8 (ay P w) P w K mg base N qual scope f cd A outer ar aO E).stack:=fun z=>by
   rcases List.mem_cons.mp (I.bW b z) with q1 | q1
   .have:=Yj q
    rw [q1] at this;exact absurd (Yq this I.ok.above) (YN _)
   .exact hb q1
  exact hB b o (I.base.keep b o q n hb (fun z=>nomatch z)) cP
 .obtain ⟨o',e1⟩:=I.base.there b o q (fun z=>nomatch z)
  have cP:b ∉ bM (a8 (ay P w) P w K mg base N qual scope f cd A outer ar aO E).stack:=fun z=>by
   rcases List.mem_cons.mp (I.bW b z) with q1 | q1
   .have:=Yj q
    rw [q1] at this;exact absurd (Yq this I.ok.above) (YN _)
   .exact hb q1
  exact ⟨o',hB b o' e1 cP⟩
theorem Zc:lS (ay P w) (a8 (ay P w) P w K mg base N qual scope f cd A outer ar aO E) (fun _=>E):=by
 rintro pins σ H s e s' I ⟨a,cls,H',rfl,fl,hE⟩
 obtain ⟨B,a0,dy,aj,kB,tB⟩:=fl.ex;show wpAny (model P w) (A.deeper (WI qual scope ar.heap.objs.size f cd)) (leaving (WI qual scope ar.heap.objs.size f cd) (.ref a)) (fun _ iW=>ay P w outer aO ar E (.ref a) iW) (fun e' iW=>ay P w outer aO ar E e' iW) s';refine wpAny_leaves_onW (L:=ar.heap.objs.size) (outer:=outer) I.ok.frames rfl dy fun jP x1 x2=>?_
 have sub:∀ b∈bM outer,b∈bM (a8 (ay P w) P w K mg base N qual scope f cd A outer ar aO E).stack:=fun b hb=>by
  show b∈List.filterMap (·.frame) (_::outer);rw [Xw];exact Yr _ hb
 have slots:∀ b o,b∈bM outer->s.heap.get? b=some o->∃ sl,jP.get? b=some {o with slots:=sl}:=fun b o hb q=>by
  obtain ⟨_,o',dZ,qt⟩:=I.bJ.mem hb;rw [q] at dZ
  cases dZ
  obtain ⟨sl,e1⟩:=fl.un.slot b o q (I.cw b (sub b hb)) (sub b hb) (fun z=>nomatch z);obtain ⟨kP,e2⟩:=x2 b _ e1 qt;exact ⟨kP,e2⟩
 have mY:∀ b o,ar.heap.get? b=some o->b ∉ bM outer->b ∉ bM (a8 (ay P w) P w K mg base N qual scope f cd A outer ar aO E).stack:=fun b o q hb z=>by
  rcases List.mem_cons.mp (I.bW b z) with q1 | q1
  .have:=Yj q
   rw [q1] at this;exact absurd (Yq this I.ok.above) (YN _)
  .exact hb q1
 refine ⟨a,cls,H',rfl,⟨fl.os.trans I.os,fl.bare,Ha I rfl (fun b o q n hb=>x1.1 b o (kB b o q n hb)) (fun b o q hb=>?_) slots (fun b o q n=>fl.un.free b o q n (fun z=>nomatch z)) fl.un.cI fl.un.bV fl.un.ck,B,a0,x1,aj,fun b o q n hb=>?_,fun b o q hb=>?_⟩,hE⟩
 .obtain ⟨o',e1⟩:=tB b o q hb;exact ⟨o',x1.1 b o' e1⟩
 .exact kB b o (I.base.keep b o q n hb (fun z=>nomatch z)) (I.base.free b o q n (fun z=>nomatch z)) (mY b o q hb)
 .obtain ⟨o',e1⟩:=I.base.there b o q (fun z=>nomatch z);exact tB b o' e1 (mY b o q hb)
end
structure Ze2 (K:Yf) (C:Addr):Prop where
 exc:PySem.W.excIn K C [.type "ValueError",.type "Exception",.type "BaseException",.type "object"] "ValueError.__new__"=true
theorem Zyb {K:Yf} {C:Addr} {bmB:List Value} {newId:String} (q:PySem.W.excIn K C bmB newId=true) :
  ∃ bm N nm qn bs hdct sn sub ab col dd k0 k1 k2 k3 k5,K.lookup C=some (excClassObj nm qn C N bs bm hdct sn sub ab col dd k0 k1 k2 k3 k5 newId)/\PySem.W.nsOkIn K N=true/\Ybp K N "__init__"=some none/\PySem.W.tailIn K bmB bm=true:=by
 unfold PySem.W.excIn at q
 split at q
 .rename_i dd cd sl ho
  split at q
  .rename_i C' bm k0 k1 k2 k3 n k5 hm hs
   simp only [YV,beq_iff_eq,Bool.not_eq_true'] at q
   obtain ⟨⟨⟨⟨⟨rfl,rfl⟩,Bo⟩,ht⟩,aj⟩,Cg⟩:=q;obtain ⟨nm,bs,mro,ns,qn,hd,sn,sub,ab,col,del⟩:=cd;dsimp only at hm Bo aj Cg;subst hm Bo
   have uw:sl=#[k0,k1,k2,k3,some (.builtin n),k5]:=by
    obtain ⟨l⟩:=sl
    simp only at hs
    rw [hs]
   subst uw;exact ⟨bm,ns,nm,qn,bs,hd,sn,sub,ab,col,dd,k0,k1,k2,k3,k5,ho,aj,Cg,ht⟩
  .cases q
 .cases q
theorem ZqM {K:Yf} {N:Addr} (q:PySem.W.nsOkIn K N=true):∃ o,K.lookup N=some o:=by
 unfold PySem.W.nsOkIn at q
 split at q
 .rename_i ho
  exact ⟨_,ho⟩
 .cases q
def Zxu (E:XK) (C:Addr) (t:TA):TS:=fun _ σ H=>t σ H fun vs H1=>vs.length<=Ym/\E (.ref C) none H1
section
variable {P:Program} {w:World} {K:Yf} {mg:Str->Option Value} {base:Heap} {N:List Str} {qual:Str} {scope:Scope} {f:Addr} {cd:Value} {A:Around} {outer:List Env} {ar:Shared} {aO:Hp} {E:XK}
theorem Z2 {x:Str} {C:Addr} {rA:Expr} {rest:List Expr} {t:TA} {np aU pos:Pos} (hC:Ze2 K C) (hg:Gl (a8 (ay P w) P w K mg base N qual scope f cd A outer ar aO E) x) (hm:mg x=some (.ref C))
  (ha:PA (a8 (ay P w) P w K mg base N qual scope f cd A outer ar aO E) (rA::rest) t)
  (he:Yx (rA::rest) (a8 (ay P w) P w K mg base N qual scope f cd A outer ar aO E).env=(false,eval rA (a8 (ay P w) P w K mg base N qual scope f cd A outer ar aO E).env)::Yx rest (a8 (ay P w) P w K mg base N qual scope f cd A outer ar aO E).env:=by rfl)
  (gB:(Wi aU (Yx rest (a8 (ay P w) P w K mg base N qual scope f cd A outer ar aO E).env)).any (·.1)=false:=by rfl) (hd:(x == ("__debug__":Str))=false:=by decide) :
  PS (a8 (ay P w) P w K mg base N qual scope f cd A outer ar aO E) (.Raise (some (.Call (.Name x np) (rA::rest) [] aU)) none pos) (Zxu E C t):=by
 try unfold PA at *;try unfold PS at *
 intro pins s σ H D I h;obtain ⟨bm,N',nm,q,bs,hdct,sn,sub,ab,col,dd,k0,k1,k2,k3,k5,lk,aj,Cg,ht⟩:=Zyb hC.exc;obtain ⟨oN,lkN⟩:=ZqM aj;have hN:s.heap.Ns N' (s.heap.nsMap N'):=.of_isNs (PySem.W.isNs_of_in I.cg aj)
 refine wpAny_Raise_call_subT (C:=C) (nm:=nm) (q:=q) (N:=N') (bs:=bs) (bm:=bm) (hdct:=hdct) (sn:=sn) (sub:=sub) (ab:=ab) (col:=col) (dd:=dd) (k0:=k0) (k1:=k1) (k2:=k2) (k3:=k3) (k5:=k5)
  PySem.F.excBase_ValueError (mN:=s.heap.nsMap N') ((PySem.W.tail_of_in I.cg ht).hasType PySem.F.excBase_ValueError.hasBase) (I.ok.hd rfl) (by rw [he];show (false || (Wi aU (Yx rest _)).any (·.1))=false;rw [gB];rfl) (PySem.W.nsMap_none_of_in I.cg aj Cg) (sL I hg hm ⟨rfl,?_⟩ hd)
 have z:=ha aU pins s σ H _ I h;rw [he] at z ⊢;refine Wg (aH z fun us s1 ⟨vs,H1,I1,r,hv,q1⟩=>⟨rfl,(by rw [<- r.length];exact hv),I1.cg _ _ lk,hN.at' fun o e=>?_,PySem.W.tail_of_in I1.cg ht,fun h' e hx=>Zsw I1 hx q1⟩);have e2:=I.cg _ _ lkN;rw [e] at e2
 cases e2
 exact I1.cg _ _ lkN
end
end L2
namespace L2
open PySem PySem.Spec PyProof.Rows PySem.W
def kS (a:Addr) (cls:Value) (h:Heap):Prop:=∃ oe vs,h.get? a=some oe/\oe.cls=cls/\oe.data=.fields vs
def wH (a:Addr) (cls:Value):HO:=.ext (kS a cls)
theorem kS.at {a:Addr} {cls:Value} {h h':Heap} (x:kS a cls h) (k:∀ o,h.get? a=some o->h'.get? a=some o):kS a cls h':=by
 obtain ⟨oe,vs,e,r⟩:=x;exact ⟨oe,vs,k oe e,r⟩
theorem Inv.exc {X:Cx} {pins:List (Addr×Obj)} {σ:St} {H:Hp} {s:Shared} {a:Addr} {cls:Value} (I:Inv X pins σ H s) (e:H a=some (wH a cls)):kS a cls s.heap:=(I.aj a _ e).1
theorem Inv.BG {X:Cx} {pins:List (Addr×Obj)} {σ:St} {H:Hp} {s:Shared} {a:Addr} {o:HO} (I:Inv X pins σ H s) (hn:H a=none) (new:bU X.prog X.w (upd H a o) s.heap a o)
  (h0:∀ b u,X.ar.heap.get? b=some u->X.aO b=none->b ∉ X.ex->b≠a) (hL:X.env.locals≠a) (hc:∀ x c,X.env.cells.lookup x=some c->c≠a) (hp:∀ p∈X.pn++pins,p.1≠a):Inv X pins σ (upd H a o) s:=by
 refine ⟨I.ok,I.os,I.bare,⟨I.base.keep,I.base.slot,fun b u e n hx=>?_,I.base.there,fun b xs e=>?_,fun b u v e=>?_,fun b ps e=>?_⟩,I.loc,I.cell,?_,fun x c e=>?_,fun p z=>?_,fun b u e=>?_,I.len⟩
 .rw [Zf (h0 b u e n hx)];exact I.base.free b u e n hx
 .have z:=I.base.cI b xs e;rw [Zf (Zg z hn)];exact z
 .have z:=I.base.bV b u v e;rw [Zf (Zg z hn)];exact z
 .obtain ⟨more,z⟩:=I.base.ck b ps e;exact ⟨more,by rw [Zf (Zg z hn)];exact z⟩
 .rw [Zf hL];exact I.free
 .rw [Zf (hc x c e)];exact I.bg x c e
 .obtain ⟨z1,z2,z3⟩:=I.pin p z;exact ⟨z1,by rw [Zf (hp p z)];exact z2,z3⟩
 .by_cases hb:b=a
  .subst hb;rw [Zb] at e
   cases e
   exact new
  .rw [Zf hb] at e;exact (I.aj b u e).dh (fun _ _ _ q=>q) (fun c q=>by rw [Zf (Zg q hn)];exact q) fun c xs q=>by rw [Zf (Zg q hn)];exact q
structure ZoQ (K:Frag) (D:Addr):Prop where
 ty:typeIn K (.ref D)=some (.type "type")
 cl:(clsIn K D).isSome=true
 ba:subIn K (.ref D) (.type "BaseException")=some true
theorem Zj0 {K:Frag} {M:Model} {h:Heap} {D:Addr} (X:K.In h) (hc:(clsIn K D).isSome=true):Looks M h (isType (.ref D)) true:=by
 unfold clsIn at hc
 split at hc
 .rename_i c' d' cd' EF ho
  intro A' Q' E' s' k q;unfold isType loadHead;exact Ya (wpAny_loadPart (k _ _ (X _ _ ho)) (Yd q))
 .cases hc
theorem yi {M:Model} {h:Heap} {a:Addr} {cls:Value} (x:kS a cls h):Looks M h (typeOf (.ref a)) cls:=by
 obtain ⟨oe,vs,e,hc,_⟩:=x;exact hc ▸ (Looks.ld e).andThen .now
theorem Zp5 {M:Model} {A:Around} {E:Value->Shared->Prop} {s:Shared} {Q:Bool->Shared->Prop} {K:Frag} {e C D:Addr} {b:Bool} (X:K.In s.heap) (he:kS e (.ref C) s.heap) (hD:ZoQ K D) (hs:subIn K (.ref C) (.ref D)=some b) (h:Q b s) :
  wpAny M A (excMatches (.ref e) (.ref D)) Q E s:=by
 obtain ⟨h0,g,d,tt,os⟩:=s;have L1:Looks M h0 (isInstance (.ref D) (.type "tuple")) false:=(looks_typeIn X hD.ty).andThen (Looks.of_pure tc_notTuple);have L2:=Zj0 (M:=M) X hD.cl;have L3:=looks_subIn (M:=M) X hD.ba;have L4:=yi (M:=M) he;have L5:=looks_subIn (M:=M) X hs;unfold excMatches;refine Ya (L1.at ?_)
 simp only [YQ,if_false]
 refine Ya (Yd ?_)
 simp only [Yby,List.forIn_nil]
 unfold isExcClass;refine Ya (Ya (Ya (Ya (L2.at ?_))))
 simp only [if_true]
 refine L3.at ?_
 simp only [Bool.not_true,YQ,if_false]
 refine Yd (Yd ?_);refine Ya (L4.at ?_);refine Ya (Ya (Ya (L5.at ?_)))
 cases b with
 | true=>
  simp only [if_true]
  exact Yd (Yd (Yd h))
 | false=>
  simp only [YQ,if_false]
  exact Yd (Yd (Yd h))
theorem Zua {X:Cx} {pins:List (Addr×Obj)} {σ:St} {H:Hp} {s:Shared} {M:Model} {A:Around} {E:Value->Shared->Prop} {i:Nat} {n:Str} {pos:Pos} {Q:Unit->Shared->Prop} (I:Inv X pins σ H s) (hN:X.N.Nodup) (hi:X.N[i]?=some n)
  (hl:X.env.scope.names.lookup n=some .local) (h:∀ s',Inv X pins (σ.set i none) H s'->Q () s'):wpAny M A (do bindName X.env n .none;unbindBehindTheSuite X.env n pos) Q E s:=by
 obtain ⟨m,hn,MK⟩:=id I.loc;have wc:(X.env.scope.kind == .class || (X.env.scope.kind == .module && X.env.locals != X.env.globals))=false:=by rw [I.ok.kind];rfl
 refine wpAny_nameGoes_keeps hl hn wc fun h' v wZ hs=>?_;obtain ⟨oL,_,_,hoL,_⟩:=id hn;have wM:∀ b o,X.ar.heap.get? b=some o->b≠X.env.locals:=fun b o e=>Yu (Yq (Yj e) I.ok.above);refine h _ ⟨I.ok,I.os,I.bare,⟨fun b o e n hb hx=>(hs.2 b (wM b o e)).trans (I.base.keep b o e n hb hx),fun b o e n hb hx=>?_,I.base.free,fun b o e hx=>?_,I.base.cI,I.base.bV,I.base.ck⟩,⟨_,wZ,fun j y v' e1 e2 e3=>?_⟩,fun y c e=>?_,I.free,I.bg,fun p hp=>?_,fun b ob e=>?_,by simpa using I.len⟩
 .obtain ⟨sl,e1⟩:=I.base.slot b o e n hb hx;exact ⟨sl,(hs.2 b (wM b o e)).trans e1⟩
 .obtain ⟨o',e1⟩:=I.base.there b o e hx;exact ⟨o',(hs.2 b (wM b o e)).trans e1⟩
 .by_cases hj:j=i
  .subst hj;have br:j < σ.length:=by rw [I.len];exact (List.getElem?_eq_some_iff.mp hi).1
   rw [Ybm br] at e2
   cases e2
  .rw [YbJ (WO hj)] at e2;obtain ⟨u',r',q⟩:=MK j y v' e1 e2 e3;refine ⟨u',r',?_⟩;rcases q with ⟨k,e⟩ | ⟨k,c,e,z⟩
   .refine .inl ⟨k,?_⟩;have ne:y≠n:=fun e=>hj (G1 hN e1 (e ▸ hi))
    simp [ne,e]
   .exact .inr ⟨k,c,e,z.sameBut hs (I.nV y c e)⟩
 .obtain ⟨w',z⟩:=I.cell y c e;exact ⟨w',z.sameBut hs (I.nV y c e)⟩
 .obtain ⟨e,n,ne,nf,d⟩:=I.pin p hp;exact ⟨(hs.2 p.1 ne).trans e,n,ne,nf,d⟩
 .refine (I.aj b ob e).dh (fun c w' hc q=>(hs.2 c ?_).trans q) (fun _ q=>q) fun _ _ q=>q
  rintro rfl
  rcases hc with rfl | hc
  .rw [I.free] at e;cases e
  .rw [I.free] at hc;cases hc
def Zyr (X:Cx) (pins:List (Addr×Obj)) (E:St->XK) (e:Value) (s':Shared):Prop:=
 ∃ (a:Addr) (cls:Value) (gz:St) (du Hc:Hp) (sc:Shared),e=.ref a/\Inv X pins gz Hc sc/\F5 X.prog X.w X.stack Hc du sc a cls s'/\E gz cls none du
theorem Zsy {X:Cx} {pins:List (Addr×Obj)} {E:St->XK}:lS (ay X.prog X.w) (X.fN (X.pn++pins) (Zyr X pins E)) E:=by
 rintro pins1 σ H s e s' I ⟨a,cls,H',rfl,fl,hE⟩
 exact ⟨a,cls,σ,H',H,s,rfl,I.cq,fl,hE⟩
theorem ZpM {X:Cx} {pins:List (Addr×Obj)} {σ:St} {Hc du:Hp} {sc s':Shared} {a:Addr} {cls:Value} {B:Heap} {a0:Value} {h5:Heap} (I:Inv X pins σ Hc sc) (hex:X.ex=[]) (fl:F5 X.prog X.w X.stack Hc du sc a cls s')
  (kB:∀ b o,sc.heap.get? b=some o->Hc b=none->b ∉ bM X.stack->B.get? b=some o) (tB:∀ b o,sc.heap.get? b=some o->b ∉ bM X.stack->∃ o',B.get? b=some o') (aj:cE X.prog X.w du B)
  (dy:Heap.FlyingW B X.stack a cls a0 h5) (Fb:s'.heap.UpToSlots h5):Inv X pins σ (upd du a (wH a cls)) {s' with heap:=h5}/\du a=none:=by
 have wY:du a=none:=aj.absent dy.2.1
 have uw:∀ b o,b∈bM X.stack->sc.heap.get? b=some o->∃ sl,h5.get? b=some {o with slots:=sl}:=fun b o hb q=>by
  obtain ⟨_,o',dZ,qt⟩:=I.stack.mem hb;rw [q] at dZ
  cases dZ
  obtain ⟨sl,e1⟩:=fl.un.slot b o q (I.cw b hb) hb (fun z=>nomatch z);obtain ⟨kP,e2⟩:=Fb b _ e1 qt;exact ⟨kP,e2⟩
 have MF:cE X.prog X.w du h5:=aj.kept dy.1
 have I5:Inv X pins σ du {s' with heap:=h5}:=by
  refine I.tU (ch:=[]) (s':={s' with heap:=h5}) fl.os ⟨fun b o e n hb _=>dy.1 b o (kB b o e n hb),fun b o e n hb _=>uw b o hb e,fun b o e n _=>fl.un.free b o e n (fun z=>nomatch z),fun b o e _=>?_,fl.un.cI,fl.un.bV,fl.un.ck⟩ MF fl.bare fun b z=>nomatch z
  by_cases hb:b∈bM X.stack
  .obtain ⟨sl,e1⟩:=uw b o hb e;exact ⟨_,e1⟩
  .obtain ⟨o',e1⟩:=tB b o e hb;exact ⟨o',dy.1 b o' e1⟩
 have mY:∀ b o,sc.heap.get? b=some o->Hc b=none->b ∉ bM X.stack->b≠a:=fun b o e n hb z=>by
  have:=kB b o e n hb
  rw [z,dy.2.1] at this
  cases this
 obtain ⟨oe,vs,T,oT,ts,he,⟨hc,h0⟩,hd,_⟩:=id dy.2.2.2;have hxo:kS a cls h5:=⟨oe,vs,he,hc,hd⟩
 have FH:∀ b∈X.env.locals::X.fs,b≠a:=fun b hb z=>by
  rcases List.mem_cons.mp hb with q | q
  .obtain ⟨m,⟨o,es,ep,ho,hdd,_⟩,_⟩:=I5.loc;have dZ:h5.get? X.env.locals=some o:=ho;rw [<- q,z,he] at dZ
   cases dZ
   rw [hd] at hdd
   cases hdd
  .obtain ⟨_,o,ho,qt⟩:=I5.bJ.mem q;have dZ:h5.get? b=some o:=ho;rw [z,he] at dZ
   cases dZ
   exact qt vs hd
 have oW:∀ b,b≠X.env.locals->b ∉ X.fs->b ∉ bM X.stack:=fun b h1 h2 z=>(List.mem_cons.mp (I.bW b z)).elim h1 h2;refine ⟨I5.BG wY ⟨hxo,⟨oe,he⟩,fun h1 h2 x k=>x.at k⟩ (fun b u e n hx=>?_) (FH _ YA) (fun x c e=>?_) (fun p hp=>?_),wY⟩
 .by_cases hb:b∈X.fs
  .exact FH b (Yr _ hb)
  .exact mY b u (I.base.keep b u e n hb hx) (I.base.free b u e n hx) (oW b (Yu (Yq (Yj e) I.ok.above)) hb)
 .by_cases hb:c∈X.fs
  .exact FH c (Yr _ hb)
  .obtain ⟨v,o,ho,_⟩:=I.cell x c e;exact mY c o ho (I.bg x c e) (oW c (I.nV x c e) hb)
 .obtain ⟨e,n,ne,nf,_⟩:=I.pin p hp;exact mY p.1 p.2 e n (oW p.1 ne nf)
def LV (K:Frag) (D:Addr) (i:Nat) (tb:(St->XK)->TS) (th:TS):TS:=fun D' σ H=>
 tb (fun gz cls _ du=>∃ C,cls=.ref C/\subIn K (.ref C) (.ref D)=some true/\∀ a,du a=none->
  th {nx:=fun jY oP=>D'.nx (jY.set i none) oP,rt:=D'.rt,bk:=fun jY oP=>D'.bk (jY.set i none) oP,ct:=fun jY oP=>D'.ct (jY.set i none) oP} (gz.set i (some (.ref a))) (upd du a (wH a (.ref C)))) D' σ H
theorem ZvW {X:Cx} {body tF:List Stmt} {Bw:Stmt} {x n:Str} {np q_ pos:Pos} {D:Addr} {i:Nat} {tb:(St->XK)->TS} {th:TS} (cP:X.stack=X.env::X.outer) (hfr:X.env.frame=some X.env.locals) (hex:X.ex=[]) (hgx:Gl X x) (hmx:X.mg x=some (.ref D)) (hD:ZoQ X.K D)
  (hN:X.N.Nodup) (hi:X.N[i]?=some n) (hl:X.env.scope.names.lookup n=some .local)
  (hb:∀ pn E' E,lS (ay X.prog X.w) (X.fN pn E') E->eO (X.fN pn E') body (tb E))
  (hh:∀ a,eO (X.g8 (X.A.mark (some (.ref a)))).nG (Bw::tF) th) (kQ:(x == ("__debug__":Str))=false:=by decide) :
  PS X (.Try body [.ExceptHandler (some (.Name x np)) (some n) (Bw::tF) q_] [] [] pos) (LV X.K D i tb th):=by
 try unfold PS at *;try unfold eO at *
 intro pins s σ H D' I h;refine wpAny_Try_except (Xd (hb _ _ _ Zsy [] s σ H D' (I.fN (Zyr X pins _)) h) (fun f s1 q=>?_) fun e s1 q=>?_)
 .have q':=SP.cq q
  cases f with
  | next=>exact Ybq q'
  | brk=>exact q'
  | cont=>exact q'
  | ret u=>exact q'
 .obtain ⟨a,cls,gz,du,Hc,sc,rfl,Ic,fl,C,rfl,mL,hE⟩:=q;obtain ⟨B,a0,dy,aj,kB,tB⟩:=fl.ex;have MN:X.A.frames=some (X.env::X.outer):=by rw [<- cP];exact Ic.ok.frames
  rw [cP] at dy;refine wpAny_looks_onW MN hfr dy fun h4 BU ED=>?_;refine wpAny_landsW BU fun h5 fl5 sm5=>?_;have AQ:=ED.trans sm5;have M5:Heap.FlyingW B X.stack a (.ref C) a0 h5:=by rw [cP];exact fl5
  obtain ⟨I5,wY⟩:=ZpM Ic hex fl kB tB aj M5 AQ;have I5h:Inv (X.g8 (X.A.mark (some (.ref a)))) pins gz (upd du a (wH a (.ref C))) {s1 with heap:=h5}:=I5.g8 rfl;refine wpAny_handleBy_cons (codeAny_handlers_test (sL (X:=X.g8 (X.A.mark (some (.ref a)))) I5h hgx hmx ?_ kQ)) (by intro z;cases z);refine Zp5 I5.cg (I5.exc Zb) hD mL ?_;show Yas _ _ _ _ _;refine codeAny_handlers_suite_as ?_;refine lands_againW fl5 fun h6 fl6 sm6=>?_;have M4:Heap.FlyingW B X.stack a (.ref C) a0 h6:=by rw [cP];exact fl6
  obtain ⟨I6,_⟩:=ZpM Ic hex fl kB tB aj M4 (AQ.trans sm6);have I6h:Inv (X.g8 (X.A.mark (some (.ref a)))).nG pins gz (upd du a (wH a (.ref C))) {s1 with heap:=h6}:=(I6.g8 (A:=X.A.mark (some (.ref a))) rfl).fL _;refine Hj (X:=(X.g8 (X.A.mark (some (.ref a)))).nG) (v:=.ref a) I6h hN hi (.inl hl) rfl (fun s7 I7=>?_) (.inr hl);refine Xd (hh a pins s7 _ _ _ I7 (hE a wY)) (fun f s8 q8=>?_) fun _ _ z=>z.elim
  have back:∀ {kN:St} {H8:Hp} {Q':Unit->Shared->Prop},Inv (X.g8 (X.A.mark (some (.ref a)))).nG pins kN H8 s8->(∀ s9,Inv X pins (kN.set i none) H8 s9->Q' () s9)->wpAny (model X.prog X.w) X.A (do bindName X.env n .none;unbindBehindTheSuite X.env n q_) Q' X.xe s8:=fun {kN H8 Q'} I8 k=>
   Zua (X:=X) (I8.cp.lu I.ok) hN hi hl k
  cases f with
  | next=>obtain ⟨kN,H8,I8,q9⟩:=q8;exact back I8 fun s9 I9=>⟨_,H8,I9,q9⟩
  | brk=>obtain ⟨kN,H8,I8,q9⟩:=q8;exact back I8 fun s9 I9=>⟨_,H8,I9,q9⟩
  | cont=>obtain ⟨kN,H8,I8,q9⟩:=q8;exact back I8 fun s9 I9=>⟨_,H8,I9,q9⟩
  | ret u=>obtain ⟨v8,kN,H8,I8,r8,q9⟩:=q8;exact back I8 fun s9 I9=>⟨v8,_,H8,I9,r8,q9⟩
structure qC (k:Nat) (A:Around):Prop where
 dp:A.depth + 3 * k + 5 < YaF
 un:A.units + 16 * k + 200 < cLine
theorem qC.deeper {k:Nat} {A:Around} (r:qC (k + 1) A) (env:Env):qC k (A.deeper env):=by
 refine ⟨?_,?_⟩
 .have:=r.dp
  show A.depth + 1 + 3 * k + 5 < YaF;omega
 .have:=r.un
  show A.units + 3 + 16 * k + 200 < cLine;omega
theorem qC.depth {k:Nat} {A:Around} (r:qC k A):A.depth < YaF:=by have:=r.dp;omega
theorem aV.g8 {k:Nat} {A:Around} (r:aV k A) (v:Option Value):qC k (A.mark v):=⟨r.dp,r.un⟩
structure F6 (P:Program) (w:World) (K:Yf) (mg:Str->Option Value) (base:Heap) (k:Nat) (f:Addr) (fd:Yl) (ps:List Str) (sp:Sp):Prop where
 len:∀ vs H Q E,sp vs H Q E->vs.length=ps.length
 run:∀ (A:Around) (outer:List Env) (s:Shared) (H:Hp) (args:Args) (us:List Value) (vs:List V) (Q:VK) (E:XK),qC k A->jg P w K mg base A outer s H->BindsTo s fd args (ps.zip us)->Vals vs us->sp vs H Q E->
  Yas (model P w) A (.call (.ref f) args) (CR oz outer P w H s Q E) s
abbrev lu (A:Around):Around:={A with handled:=none}
section
variable {P:Program} {w:World} {K:Yf} {mg:Str->Option Value} {base:Heap}
theorem aG.okH {x qual:Str} {st:Stmt} {f:Addr} {fd:Yl} {N ps:List Str} {k:Nat} {sp:Sp} (F:aG K x qual st f fd) (S:Zp N ps (Zi st)) (len:∀ vs H Q E,sp vs H Q E->vs.length=ps.length)
  (b_:∀ (aY:Value) (A:Around) (outer:List Env) (s:Shared) (H:Hp) (vs:List V) (Q:VK) (E:XK),qC k (A.deeper (WI qual (Zi st) s.heap.objs.size f aY))->sp vs H Q E->
   ∃ t,eO ((a8 oz P w K mg base N qual (Zi st) f aY (lu A) outer s H E).g8 (A.deeper (WI qual (Zi st) s.heap.objs.size f aY))).nG (kU st) t/\t {nx:=fun _ H'=>Q .aK H',rt:=Q} (bz N vs) H) :
  F6 P w K mg base (k + 1) f fd ps sp:=by
 obtain ⟨oc,od,kV,doc,pm,an,aY,ct,mq,rfl,lk,g_⟩:=F.ex;refine ⟨len,fun A outer s H args us vs Q E hr e0 hb r fe=>?_⟩;have hl:=len _ _ _ _ fe;have KX:K.In s.heap:=e0.mod.nH.keeps fun b o e=>(e0.bs b o e).1;have lim:s.heap.NoLimit:=e0.mod.nolimit.keeps fun b o e=>(e0.bs b o e).1
 have oZ:∀ y∈ps.zip us,(Zi st).names.lookup y.1=some .local∨((Zi st).names.lookup y.1=some .cell/\((cellsFrom (s.heap.objs.size + 1) (Zi st).names []).lookup y.1).isSome=true):=fun ⟨n,v⟩ hy=>by
  rcases S.par n (Ybu hy).1 with q | q
  .exact .inl q
  .exact .inr ⟨q,Ybj _ _ _ (.inl q)⟩
 refine codeAny_call_function hr.depth (KX _ _ lk) rfl S.co S.gen rfl (PySem.W.codeRec_of KX g_) (hb _ _ _ _ ?_);refine wpAny_newFunctionEnv_cells S.kind oZ fun env he s1 x=>?_;subst he;refine ⟨lim.keeps x.toInCall.keep,codeAny_func ?_⟩;obtain ⟨t,ht,hq⟩:=b_ aY A outer s H vs Q E (hr.deeper _) fe;unfold eO at ht;have I0:Inv (a8 oz P w K mg base N qual (Zi st) f aY (lu A) outer s H E) [] (bz N vs) H s1:=ZpR (A:=lu A) S rfl ⟨e0.frames,e0.mod,e0.bs,e0.kR,e0.bJ,e0.mC,e0.aj,e0.bare⟩ hl r x;have I:Inv ((a8 oz P w K mg base N qual (Zi st) f aY (lu A) outer s H E).g8 (A.deeper (WI qual (Zi st) s.heap.objs.size f aY))).nG [] (bz N vs) H s1:=(I0.g8 (A:=A.deeper (WI qual (Zi st) s.heap.objs.size f aY)) rfl).fL _;refine Xd (ht [] s1 (bz N vs) H _ I hq) (fun fl s' hs=>?_) fun e s' hs=>hs.elim
 have fin:∀ {aB:St} {H':Hp} {v:V} {u:Value},Inv ((a8 oz P w K mg base N qual (Zi st) f aY (lu A) outer s H E).g8 (A.deeper (WI qual (Zi st) s.heap.objs.size f aY))).nG [] aB H' s'->RelV v u->Q v H'->CE outer P w H s Q u s':=
  fun {aB H' v u} J rv q=>⟨v,H',J.os,J.bare,J.base,J.aj,rv,q⟩
 cases fl with
 | ret u=>
  obtain ⟨v,aB,H',J,rv,q⟩:=hs;exact fin J rv q
 | next=>
  obtain ⟨aB,H',J,q⟩:=hs;exact fin (v:=V.aK) (u:=Value.none) J rfl q
 | brk=>
  obtain ⟨_,_,_,q⟩:=hs;exact Xa q
 | cont=>
  obtain ⟨_,_,_,q⟩:=hs;exact Xa q
end
theorem aG.okE {P:Program} {w:World} {K:Yf} {mg:Str->Option Value} {base:Heap} {x qual:Str} {st:Stmt} {f:Addr} {fd:Yl} {N ps:List Str} {k:Nat} {sp:Sp} (F:aG K x qual st f fd) (S:Zp N ps (Zi st)) (len:∀ vs H Q E,sp vs H Q E->vs.length=ps.length)
  (b_:∀ (aY:Value) (A:Around) (outer:List Env) (s:Shared) (H:Hp) (vs:List V) (Q:VK) (E:XK),aV k (A.deeper (WI qual (Zi st) s.heap.objs.size f aY))->sp vs H Q E->
   ∃ t,eO (a8 (ay P w) P w K mg base N qual (Zi st) f aY A outer s H E) (kU st) t/\t {nx:=fun _ H'=>Q .aK H',rt:=Q} (bz N vs) H):ah P w K mg base (ay P w) (k + 1) f fd ps sp:=by
 obtain ⟨oc,od,kV,doc,pm,an,aY,ct,mq,rfl,lk,g_⟩:=F.ex;exact Gi lk g_ S len fun A outer s H vs Q E hr fe=>b_ aY A outer s H vs Q E hr fe
section
variable {X:Cx} {k:Nat} {f:Addr} {fd:Yl} {ps:List Str} {sp:Sp} {x:Str} {p pos:Pos} {e:Expr} {es:List Expr} {t:TA}
theorem Zry (F:F6 X.prog X.w X.K X.mg X.base k f fd ps sp) (hr:qC k X.A) (hg:Gl X x) (hm:X.mg x=some (.ref f)) (hk:XM X.K (.ref f)=true) (hb:ZF X.K fd ps [])
  (ha:PA X (e::es) t) (kQ:(x == ("__debug__":Str))=false:=by decide) (he:Yx (e::es) X.env=(false,eval e X.env)::Yx es X.env:=by rfl) (cK:(Wi pos (Yx es X.env)).any (·.1)=false:=by rfl) :
  PE X (.Call (.Name x p) (e::es) [] pos) (Ga sp [] (fun _=>E0) t):=by
 try unfold PE at *;try unfold PA at *
 intro pins s σ H Q I h;refine XC (sL I hg hm ?_ kQ);refine W9 (h₀:=X.base) I.ok.mod.nH hk (aH (ha pos pins s σ H _ I h) fun us s1 ⟨vs,H1,I1,r,q⟩=>⟨I1.cg,?_⟩) he cK;have r2:Vals (vs++[]) (us++[]):=r.append .nil;have hl:(us++[]).length=ps.length:=by rw [<- r2.length];exact F.len _ _ _ _ q
 refine wpAny_call (YaA (F.run X.A X.stack s1 H1 ⟨us,[]⟩ (us++[]) (vs++[]) Q E0 hr I1.wk (hb s1 us I1.cg hl) r2 q) fun r s' hq=>?_)
 cases r with
 | error e=>exact hq.elim
 | ok fl=>
  cases fl with
  | ret u=>exact I1.after hq
  | next=>exact Xa hq
  | brk=>exact Xa hq
  | cont=>exact Xa hq
end
end L2
namespace L2
open PySem PySem.Spec PyProof.Rows PySem.W
mutual
inductive Im (H:Hp):V->Wd->Prop
 | aK:Im H .aK .none
 | bl (b:Bool):Im H (.bl b) (.bool b)
 | int (i:Int):Im H (.int i) (.int i)
 | str (x:Str):Im H (.str x) (.str x)
 | tup {a:Addr} {xs:List V} {ds:List Wd}:H a=some (.tup xs)->dW H xs ds->Im H (.ref a) (.tuple ds)
inductive dW (H:Hp):List V->List Wd->Prop
 | nil:dW H [] []
 | cons {x:V} {d:Wd} {xs:List V} {ds:List Wd}:Im H x d->dW H xs ds->dW H (x::xs) (d::ds)
end
def Zyt (H H':Hp):Prop:=∀ a xs,H a=some (.tup xs)->H' a=some (.tup xs)
mutual
theorem Im.keep {H H':Hp} (k:Zyt H H') {x:V} {d:Wd} (h:Im H x d):Im H' x d:=by
 cases h with
 | aK=>exact .aK
 | bl b=>exact .bl b
 | int i=>exact .int i
 | str x=>exact .str x
 | tup e r=>exact .tup (k _ _ e) (dW.keep k r)
theorem dW.keep {H H':Hp} (k:Zyt H H') {xs:List V} {ds:List Wd} (h:dW H xs ds):dW H' xs ds:=by
 cases h with
 | nil=>exact .nil
 | cons a r=>exact .cons (Im.keep k a) (dW.keep k r)
end
mutual
theorem Im.reads {X:Cx} {pins:List (Addr×Obj)} {σ:St} {H:Hp} {s:Shared} (I:Inv X pins σ H s) {x:V} {d:Wd} (h:Im H x d) {u:Value} (r:RelV x u):∃ as,Reads s.heap u d as:=by
 cases h with
 | aK=>cases (show u=Value.none from r);exact ⟨_,.none⟩
 | bl b=>cases (show u=Value.bool b from r);exact ⟨_,.bool b⟩
 | int i=>obtain ⟨t,z⟩:=(show ∃ t,u=Value.int i t from r);cases z;exact ⟨_,.int i t⟩
 | str y=>obtain ⟨t,z⟩:=(show ∃ t,u=Value.str y t from r);cases z;exact ⟨_,.str y t⟩
 | @tup a xs ds e q=>
  cases (show u=Value.ref a from r)
  obtain ⟨_,its,rv,o,h1,h2,n,h3⟩:=(show bU X.prog X.w H s.heap a (.tup xs) from I.aj a _ e)
  obtain ⟨as,z⟩:=dW.reads I q rv;exact ⟨_,.tuple h1 h2 h3 (by simpa using z)⟩
theorem dW.reads {X:Cx} {pins:List (Addr×Obj)} {σ:St} {H:Hp} {s:Shared} (I:Inv X pins σ H s) {xs:List V} {ds:List Wd} (h:dW H xs ds) {us:List Value} (r:Vals xs us):∃ as,ReadsAll s.heap us ds as:=by
 cases h with
 | nil=>cases r;exact ⟨_,.nil⟩
 | cons a q=>
  cases r with
  | cons r1 r2=>
   obtain ⟨as,z1⟩:=Im.reads I a r1;obtain ⟨bs,z2⟩:=dW.reads I q r2;exact ⟨_,.cons z1 z2⟩
end
def Dat (K:Frag) (H:Hp) (x:V) (d:Wd):Prop:=Im H x d∨∃ p xs ds,x=.ref p/\d=.list ds/\aq K H p xs/\dW H xs ds
theorem Dat.reads {X:Cx} {pins:List (Addr×Obj)} {σ:St} {H:Hp} {s:Shared} (I:Inv X pins σ H s) {x:V} {d:Wd} (h:Dat X.K H x d) {u:Value} (r:RelV x u):∃ as,Reads s.heap u d as:=by
 rcases h with h | ⟨p,xs,ds,rfl,rfl,hp,hi⟩
 .exact h.reads I r
 .cases (show u=Value.ref p from r)
  obtain ⟨its,rv,⟨o,n,e,h1,_,h3⟩,_⟩:=I.list hp;obtain ⟨as,z⟩:=hi.reads I rv;exact ⟨_,.list e h1 h3 (by simpa using z)⟩
section
variable {X:Cx}
end
theorem Z3 {d:Wd} (h:YY d=true):PyData.eqv d d=true:=SeqAt.eqv_refl d (SeqAt.canLay_of_shaped h)
theorem ZwH:dU X (Wv .Mult) (rI (fun i j=>i.natAbs < 2 ^ 200/\j.natAbs < 2 ^ 200) fun i j=>.int (i * j)):=yE fun i j _ _ _ _ _ hc q=>
 mul_int q (IntMulOk.of_bits (Yk (intBits_le hc.1) (by decide)) (Yk (intBits_le hc.2) (by decide)))
theorem Lg:fillsNumberSlot (.type "tuple") "mul"=pure false:=
 PySem.fillsNumberSlot_seq (id:="tuple.__mul__") (r:=some (.builtin "tuple.__rmul__")) F.slot_tuple_mul.lookup (by decide +kernel) F.slot_tuple_rmul.lookup (by decide +kernel)
theorem JL:seqRepeat? (.type "tuple")=pure (some (.builtin "tuple.__mul__")):=by
 unfold seqRepeat?;rw [PySem.seqSlot_of (T:="tuple") (name:="__mul__") (id:="tuple.__mul__") F.slot_tuple_mul.lookup (by decide +kernel),PySem.seqSlot_of (T:="tuple") (name:="__rmul__") (id:="tuple.__rmul__") F.slot_tuple_rmul.lookup (by decide +kernel)];rfl
theorem K8 (a:Int) (t:Tok) (l:Addr) (items:Array Value) (n:Nat) (dd:Option Addr) (sl:Array (Option Value)) :
  Meets (Builtin.«int.__rmul__» ⟨[.int a t,.ref l],[]⟩) (fun _ R s=>s.heap.get? l=some {cls:=.type "tuple",dict:=dd,data:=.seq items n,slots:=sl}/\R (.ok (.ret Value.notImplemented)) s):=
 .of_wp fun prog w A R s h=>by obtain ⟨hp,g,d,tk,os⟩:=s;obtain ⟨hl,h⟩:=h;wp_walk;exact ⟨_,rfl,h⟩
end L2
namespace L2
open PySem PySem.Spec PyProof.Rows PySem.W
theorem Ztd (l:Addr) (items:Array Value) (n:Nat) (dd:Option Addr) (sl:Array (Option Value)) (k:Int) (u:Tok) (bZ:items.isEmpty=false) (h1:1 < k) (h2:k < 2 ^ 63) (hsz:items.size * k.toNat<=Ym) :
  Meets (Builtin.«tuple.__mul__» ⟨[.ref l,.int k u],[]⟩) (fun _ R s=>s.heap.get? l=some {cls:=.type "tuple",dict:=dd,data:=.seq items n,slots:=sl}/\
   R (.ok (.ret (.ref s.heap.objs.size))) {s with heap:=s.heap.push {cls:=.type "tuple",data:=.seq ((List.replicate k.toNat items).foldl (fun x1 x2=>x1++x2) #[])}}):=
 .of_wp fun prog w A R s h=>by
  obtain ⟨hp,g,d,tk,os⟩:=s;obtain ⟨hl,h⟩:=h
  have hmul:(items.size:Int) * k=((items.size * k.toNat:Nat):Int):=by
   rw [Int.natCast_mul,Int.toNat_of_nonneg (by omega)]
  have hL:(Ym:Nat)<=2 ^ 40:=by decide
  have w_:¬(decide (k < -2 ^ 63) || decide (k >= 2 ^ 63))=true:=by
   rw [Xz,decide_eq_true_eq,decide_eq_true_eq];omega
  have iw:¬(items.isEmpty || k == 1)=true:=by
   rw [bZ,Ya8,beq_iff_eq];omega
  have jO:¬(decide (k<=0) || items.isEmpty)=true:=by
   rw [bZ,Xs,decide_eq_true_eq];omega
  have uG:¬((items.size:Int) * k > (2 ^ 63 - 1) / 8):=by
   rw [hmul]
   have:(2 ^ 63 - 1:Int) / 8=1152921504606846975:=by decide
   rw [this]
   have:(2:Nat) ^ 40=1099511627776:=by decide
   omega
  have hc4:¬Builtin.Tuple.tupleTooMany ((items.size:Int) * k)=true:=by
   rw [hmul];unfold Builtin.Tuple.tupleTooMany;rw [decide_eq_true_eq];omega
  wp_walk
  rw [if_neg w_]
  wp_walk
  rw [if_neg iw]
  wp_walk
  rw [if_neg jO]
  wp_walk
  rw [if_neg uG]
  wp_walk
  rw [if_neg hc4]
  have hc5:¬((List.foldl (fun x1 x2=>x1++x2) #[] (List.replicate k.toNat items)).size > Ym):=by
   have e:=HB items.toList k.toNat [];rw [List.nil_append] at e;have e':List.foldl (fun x1 x2=>x1++x2) #[] (List.replicate k.toNat items)=(List.replicate k.toNat items.toList).flatten.toArray:=e;rw [e',Yn,Zt0,YH,Nat.mul_comm];omega
  wp_walk
  exact ⟨_,rfl,h⟩
def ZxF:R2:=fun x y H Q=>∃ l k xs,x=.ref l/\y=.int k/\H l=some (.tup xs)/\xs≠[]/\1 < k/\k < 2 ^ 63/\xs.length * k.toNat<=Ym/\
 ∀ p,H p=none->Q (.ref p) (upd H p (.tup (List.replicate k.toNat xs).flatten))
section
variable {X:Cx}
theorem Inv.AI {pins:List (Addr×Obj)} {σ:St} {H:Hp} {s:Shared} {ys:List V} {its:List Value} {t':Nat} (I:Inv X pins σ H s) (hv:Vals ys its) (hz:ys.length<=Ym) :
  Inv X pins σ (upd H s.heap.objs.size (.tup ys)) {s with heap:=s.heap.push {cls:=.type "tuple",data:=.seq its.toArray},toks:=t'}:=
 I.laid (fun _ _ e=>Yc _ e) (Ye _) ⟨hz,its,hv,_,Yi _ rfl,rfl,_,rfl⟩
theorem ZtB:dU X (Wv .Mult) ZxF:=by
 intro pins s σ H x y v u Q I rx ry h;obtain ⟨l,k,xs,rfl,rfl,hH,bZ,h1,h2,hz,q⟩:=h
 cases rx
 obtain ⟨t,rfl⟩:=ry;obtain ⟨z,its,r,o,e,hc,n,hd⟩:=(show bU X.prog X.w H s.heap l (.tup xs) from I.aj l _ hH)
 obtain ⟨cls,dd,data,sl⟩:=o;dsimp only at hc hd;subst hc hd;have hl:xs.length=its.length:=r.length
 have wb:its.toArray.isEmpty=false:=by
  cases its with
  | nil=>cases r;exact absurd rfl bZ
  | cons _ _=>rfl
 refine YaL (T:="tuple") (U:="int") (by decide) ⟨_,e,rfl⟩ (fun s'=>YaJ s' k t) Lg F.fills_int_mul W7 JL F.slot_int_index.lookup
  (XF W7 (YaJ s k t) F.entry_int_rmul (F.args_int_rmul_2 _ _) (K8 k t l its.toArray n dd sl)
   ⟨e,rfl,⟨_,e,rfl⟩,XF F.slot_tuple_mul ⟨_,e,rfl⟩ F.entry_tuple_mul (YbT _ _) (Ztd l its.toArray n dd sl k t wb h1 h2 (by rw [Yn,<- hl];exact hz)) ⟨e,?_⟩⟩)
 have MI:(List.replicate k.toNat its.toArray).foldl (fun x1 x2=>x1++x2) #[]=(List.replicate k.toNat its).flatten.toArray:=by
  have:=HB its k.toNat []
  rw [List.nil_append] at this;exact this
 rw [MI];exact ⟨.ref _,_,I.AI (t':=s.toks) (r.rep k.toNat) (by rw [Zt0,Nat.mul_comm];exact hz),rfl,q _ I.fresh⟩
theorem Znj {x:V}:∀ {xs:List V} {us:List Value},Vals xs us->xs.all kI=true->us.countP (i7 x)=xs.countP fun y=>jQ y x
 | _,_,.nil,_=>rfl
 | _,_,.cons (a:=y) (b:=u) r t,h=>by
  rw [Ya7,YV] at h;rw [List.countP_cons,List.countP_cons,Znj t h.2,CV r h.1]
inductive pD (K:Frag) (x:V) (vs:List V) (H:Hp) (Q:VK):Prop
 | mk (l:_) (xs:_) (y:_):x=.ref l->vs=[y]->aq K H l xs->kI y=true->xs.all kI=true->Q (.int (xs.countP fun z=>jQ z y:Nat)) H->pD K x vs H Q
theorem ZrD:qe X "list.count" (pD X.K):=by
 intro pins s σ H x xs v us Q I rx rs h;obtain ⟨l,ys,y,rfl,rfl,hl,fy,fa,q⟩:=h
 cases rx
 obtain ⟨u,rfl,ru⟩:=rs.one;obtain ⟨its,rv,⟨o,n,e,hc,_,hd⟩,_⟩:=I.list hl;obtain ⟨cls,dd,data,sl⟩:=o;dsimp only at hc hd;subst hc hd;refine XF F.slot_list_count ⟨_,e,rfl⟩ F.entry_list_count (F.args_list_count_2 _ _) (SeqAt.list_countAt l its.toArray n dd sl u (i7 y)) ⟨e,fun z hz=>vq ru fy rv fa z (by simpa using hz),?_⟩;refine ⟨.int _,H,I.tok _,⟨_,rfl⟩,?_⟩;rw [Znj rv fa];exact q
inductive pC (K:Frag) (x:V) (vs:List V) (H:Hp) (Q:VK):Prop
 | mk (l:_) (xs:_) (y:_) (j:_):x=.ref l->vs=[y]->aq K H l xs->kI y=true->xs.all kI=true->(∃ z,xs[j]?=some z/\jQ z y=true)->(∀ m z,m < j->xs[m]?=some z->jQ z y=false)->Q (.int (j:Nat)) H->pC K x vs H Q
theorem Zvd:qe X "list.index" (pC X.K):=by
 intro pins s σ H x xs v us Q I rx rs h;obtain ⟨l,ys,y,j,rfl,rfl,hl,fy,fa,⟨z,hz,hit⟩,wX,q⟩:=h
 cases rx
 obtain ⟨u,rfl,ru⟩:=rs.one;obtain ⟨its,rv,⟨o,n,e,hc,_,hd⟩,hlen⟩:=I.list hl;obtain ⟨cls,dd,data,sl⟩:=o;dsimp only at hc hd;subst hc hd;have Cm:=rv.length;have hjy:j < ys.length:=(List.getElem?_eq_some_iff.mp hz).1;have hj:j < its.toArray.size:=by rw [Yn];omega
 have M9:∀ w∈ys,kI w=true:=fun w hw=>List.all_eq_true.mp fa w hw
 have val:∀ m (hm:m < its.toArray.size) w,ys[m]?=some w->i7 y its.toArray[m]=jQ w y:=fun m hm w hw=>by
  obtain ⟨u',hu',ru'⟩:=rv.get hw
  have:its.toArray[m]=u':=by
   have h1:its[m]?=some its.toArray[m]:=by simp
   rw [h1] at hu';exact YB hu'
  rw [this];exact CV ru' (M9 w (Yy hw))
 have h63:(j:Int) < 2 ^ 63 - 1:=by
  have:(Ym:Nat) < 2 ^ 62:=by decide
  omega
 refine XF F.slot_list_index ⟨_,e,rfl⟩ F.entry_list_index (F.args_list_index_2 _ _) (SeqAt.list_indexAt l its.toArray n dd sl u (i7 y) j hj h63 (by rw [val j hj z hz];exact hit) fun m hm hmj=>?_) ⟨e,fun z hz=>vq ru fy rv fa z (by simpa using hz),⟨.int _,H,I.tok _,⟨_,rfl⟩,q⟩⟩;have hmy:m < ys.length:=by omega
 rw [val m hm ys[m] (Yh hmy)];exact wX m _ hmj (Yh hmy)
end
structure Zl1 (K:Frag) (C:Addr):Prop where
 ga:findIn K (.ref C) "__getattribute__"=some (some (.builtin "BaseException.__getattribute__"))
 gh:findIn K (.ref C) "__getattr__"=some none
 cc:findIn K (.ref C) "__class__"=some (some (.builtin "object.__class__"))
 ob:mroIn K C (.type "object")=some true
 ba:mroIn K C (.type "BaseException")=some true
 cl:(clsIn K C).isSome=true
 gg:specialIn K (.builtin "object.__class__") "__get__"=some (some (.builtin "getset_descriptor.__get__"))
 tk:takesIn K (.builtin "object.__class__")=some true
section
variable {prog:Program} {w:World} {A:Around} {E:Value->Shared->Prop} {s:Shared} {K:Frag} {x C:Addr}
theorem ZsU {tp:Value} {R:Result->Shared->Prop} (X:K.In s.heap) (I:kS x (.ref C) s.heap) (hm:mroIn K C (.type "object")=some true)
  (h:R (.ok (.ret (.ref C))) s):Yas (model prog w) A (.call (.builtin "getset_descriptor.__get__") ⟨[.builtin "object.__class__",.ref x,tp],[]⟩) R s:=by
 obtain ⟨hh,g,dr,t,os⟩:=s;have L0:=yi (M:=model prog w) I;have L1:=looks_mroIn (M:=model prog w) X hm;refine codeAny_call_builtin KF.slot_gs.plain KF.entry_gs (KF.slot_gs.check _ _ _ _ _ _ _ _ KF.type_class (KF.args_gs _ _ _) ?_);unfold Builtin.«getset_descriptor.__get__» Builtin.Getset_descriptor.descrGet;rw [dga_obj];refine Ya (Yd ?_);unfold Builtin.Getset_descriptor.descrGetter Builtin.Getset_descriptor.descrCheckInstance Builtin.Getset_descriptor.descrNameAndClass isInstance
 simp only [KF.owner_class]
 repeat lk
 refine ⟨Code.quiet_builtin _ (by decide +kernel),codeAny_builtin KF.entry_class ?_⟩;unfold Builtin.«object.__class__» shownTypeOf
 repeat lk
 exact h
theorem Zyc {tk:Tok} {Q:PySem.Fin->Shared->Prop} (X:K.In s.heap) (I:kS x (.ref C) s.heap) (T:Zl1 K C) (h:Q (.done (.ret (.ref C))) s) :
  wpAny (model prog w) A (Builtin.«object.__getattribute__» ⟨[.ref x,.str "__class__" tk],[]⟩) Q E s:=by
 obtain ⟨hh,g,d,t,os⟩:=s;have L0:=yi (M:=model prog w) I;have L3:=looks_findIn (M:=model prog w) X T.cc;have L4:Looks (model prog w) hh (Builtin.ObjectAttr.getOf (some (.builtin "object.__class__"))) (some (.builtin "getset_descriptor.__get__")):=looks_specialIn X T.gg;have L5:=looks_takesIn (M:=model prog w) X T.tk;unfold Builtin.«object.__getattribute__»;refine Ya (Yd ?_);dsimp only;refine Ya (Yd ?_);refine Ya (L0.at ?_);unfold Builtin.ObjectAttr.find Builtin.ObjectAttr.dataDescriptor?;refine Ya (Ya (L3.at (Ya (L4.at ?_))));dsimp only;refine Ya (Ya (L5.at ?_))
 simp only [if_true]
 refine Yd ?_;dsimp only;refine Ya (wpAny_rule (Yd ?_));dsimp only;unfold Builtin.ObjectAttr.bindTo;dsimp only;refine Ya (Y6 (wpAny_call (ZsU (s:=⟨hh,g,d,t,os⟩) X I T.ob ?_)));exact Yd h
theorem Zuj {M:Model} {tK:Value} {Q:Unit->Shared->Prop} (X:K.In s.heap) (I:kS x (.ref C) s.heap) (T:Zl1 K C) (hq:Q () s):wpAny M A (checkBuiltinCall "BaseException.__getattribute__" ⟨[.ref x,tK],[]⟩) Q E s:=by
 obtain ⟨hh,g,d,t,os⟩:=s;have hk:builtinKind "BaseException.__getattribute__"=some .slot:=by decide +kernel
 have wB:splitId "BaseException.__getattribute__"=some ("BaseException","__getattribute__"):=by decide +kernel
 have L0:=yi (M:=M) I;have L1:Looks M hh (isInstance (.ref x) (.type "BaseException")) true:=L0.andThen (looks_mroIn X T.ba);have ha:=F.args_bexc_ga (.ref x) tK
 simp only [checkBuiltinCall,hk,wB]
 refine Ya (L1.at ?_)
 simp only [Bool.not_true,YQ,if_false]
 exact wpAny_of_eq ha hq
theorem Zui {Q:Option Value->Shared->Prop} (X:K.In s.heap) (I:kS x (.ref C) s.heap) (T:Zl1 K C) (h:Q (some (.ref C)) {s with toks:=s.toks + 1}):wpAny (model prog w) A (getAttr? (.ref x) "__class__") Q E s:=by
 obtain ⟨hh,g,d,t,os⟩:=s;have L0:=yi (M:=model prog w) I;have L1:=looks_findIn (M:=model prog w) X T.ga;have L2:=looks_findIn (M:=model prog w) X T.gh;have E5:(Value.builtin "BaseException.__getattribute__" == Value.builtin "object.__getattribute__")=false:=by decide +kernel
 have f3:=F.excAttr_ValueError.ga.bind (.ref x);unfold getAttr? getAttrBy? getAttrBy;refine Ya (wpAny_mkText (Ya (XH (Y6 (Ya (L0.at (Ya (L1.at ?_))))))))
 simp only [E5,Bool.and_false,YQ,if_false]
 unfold getAttrByItsOwn hookBefore
 simp only [onTheHeap,if_true]
 refine Ya (L2.at ?_);refine Ya (XH (Y6 ?_));unfold callGetattribute boundAndCalled
 simp only [Bool.false_and,YQ,if_false]
 rw [f3];refine Ya (Yd ?_);dsimp only;refine wpAny_call (codeAny_call_builtin F.excAttr_ValueError.ga.plain F.entry_bexc_ga (Zuj (s:=⟨hh,g,d,t + 1,os⟩) X I T ?_));refine Zyc (s:=⟨hh,g,d,t + 1,os⟩) X I T ?_;exact Yd (Yd h)
end
end L2
namespace L2
open PySem PySem.Spec PyProof.Rows PySem.W
section
variable {prog:Program} {w:World} {A:Around} {E:Value->Shared->Prop} {s:Shared} {K:Frag} {x C:Addr}
theorem Zv7 (K:Frag) (C a:Addr) (T:Zl1 K C):KitX K (.ref a) (.ref C) (kS a (.ref C)) where
 ty:=fun _ _ _ p=>yi p
 it:=fun _ _ X _=>Zj0 X T.cl
 ne:=fun h tp dd its n sl X htp=>by
  refine Bool.eq_false_iff.mpr fun q=>?_;have e:C=tp:=Value.ref.inj (beq_iff_eq.mp q);subst e;have zq:=T.cl;unfold clsIn at zq
  split at zq
  .rename_i c' d' cd' EF ho
   have z:=(X _ _ ho).symm.trans htp
   cases z
  .cases zq
 ca:=fun X p k=>Zui X p T k
end
def vQ (K:Frag) (C:Addr):V->Option Bool
 | .ref d=>kitOne K (.ref C) (.ref d)
 | .ty n=>kitOne K (.ref C) (.type n)
 | _=>none
end L2
namespace L2
open PySem PySem.Spec PyProof.Rows PySem.W
def C4 (a:Addr) (cls:Value) (t:Addr) (h:Heap):Prop:=∃ oe vs,h.get? a=some oe/\oe.cls=cls/\oe.data=.fields vs/\vs[0]?=some (.ref t)
def LQ (a:Addr) (cls:Value) (t:Addr):HO:=.ext (C4 a cls t)
theorem C4.exc {a t:Addr} {cls:Value} {h:Heap} (x:C4 a cls t h):kS a cls h:=by
 obtain ⟨oe,vs,e,h1,h2,_⟩:=x;exact ⟨oe,vs,e,h1,h2⟩
def yp (H:Hp) (a C:Addr):Prop:=H a=some (wH a (.ref C))∨∃ t,H a=some (LQ a (.ref C) t)
theorem yp.same {H H':Hp} {a C:Addr} (h:yp H a C) (s:ag H H'):yp H' a C:=by
 rcases h with h | ⟨t,h⟩
 .exact .inl (s _ _ h)
 .exact .inr ⟨t,s _ _ h⟩
section
variable {X:Cx} {pins:List (Addr×Obj)} {σ:St} {H:Hp} {s:Shared}
theorem Inv.isX {a C:Addr} (I:Inv X pins σ H s) (h:yp H a C):kS a (.ref C) s.heap:=by
 rcases h with h | ⟨t,h⟩
 .exact I.exc h
 .exact (show C4 a (.ref C) t s.heap from (I.aj a _ h).1).exc
end
section
variable {prog:Program} {w:World} {A:Around} {E:Value->Shared->Prop} {s:Shared} {K:Frag} {x C t0:Addr}
end
inductive vI (K:Frag) (xs:List V) (H:Hp) (Q:VK):Prop
 | mk (a C:Addr) (c:V) (b:Bool):xs=[.ref a,c]->yp H a C->Zl1 K C->vQ K C c=some b->Q (.bl b) H->vI K xs H Q
theorem ZvK {X:Cx}:ff X (.builtin "isinstance") (vI X.K):=by
 intro pins s σ H xs us Q I r h;obtain ⟨a,C,c,b,rfl,ha,T,e,q⟩:=h;obtain ⟨u,v,rfl,ru,rv⟩:=r.two
 cases (show u=Value.ref a from ru)
 have fin:∀ tk,EP X pins σ Q (.bool b) {s with toks:=tk}:=fun tk=>⟨.bl b,H,I.tok tk,rfl,q⟩
 cases c with
 | ref d=>
  cases (show v=Value.ref d from rv)
  exact kia_one (Zv7 X.K C a T) I.cg (I.isX ha) e (fun z=>nomatch z) fin
 | ty n=>
  cases (show v=Value.type n from rv)
  exact kia_one (Zv7 X.K C a T) I.cg (I.isX ha) e (fun z=>nomatch z) fin
 | aK=>cases e
 | bl _=>cases e
 | int _=>cases e
 | str _=>cases e
 | lN _=>cases e
 | qA _=>cases e
theorem nq {X:Cx} {a b:Expr} {ta tb:TE} {p pos:Pos} (ha:PE X a ta) (hb:PE X b tb) (hg:Gl X "isinstance") (hm:X.mg "isinstance"=none)
  (h1:Yx [a,b] X.env=(false,eval a X.env)::Yx [b] X.env:=by rfl) (h2:Yx [b] X.env=(false,eval b X.env)::Yx [] X.env:=by rfl) (cK:(Wi pos (Yx [b] X.env)).any (·.1)=false:=by rfl) :
  PE X (.Call (.Name "isinstance" p) [a,b] [] pos) (t8 (vI X.K) (c9 ta (c9 tb bq))):=
 ZD ZvK hg hm PyProof.Rows.Boot.«isinstance» (Za ha (Za hb Ze h2) h1) (by decide) (by decide) h1 cK
def gx (K:Frag) (H:Hp) (x:V) (d:Wd):Prop:=Dat K H x d∨∃ a xs ds,x=.ref a/\d=.tuple ds/\aF K H a xs/\dW H xs ds
theorem gx.reads {X:Cx} {pins:List (Addr×Obj)} {σ:St} {H:Hp} {s:Shared} (I:Inv X pins σ H s) {x:V} {d:Wd} (h:gx X.K H x d) {u:Value} (r:RelV x u):∃ as,Reads s.heap u d as:=by
 rcases h with h | ⟨p,xs,ds,rfl,rfl,hp,hi⟩
 .exact h.reads I r
 .cases (show u=Value.ref p from r)
  obtain ⟨its,rv,⟨o,e,h1,n,h3⟩,_⟩:=I.tuple hp;obtain ⟨as,z⟩:=hi.reads I rv;exact ⟨_,.tuple e h1 h3 (by simpa using z)⟩
inductive AY (K:Frag) (x:V) (y:V) (H:Hp) (Q:VK):Prop
 | mk (d:_) (e:_):gx K H x d->gx K H y e->YY d=true->YY e=true->Q (.bl (PyData.eqv d e)) H->AY K x y H Q
inductive AV (K:Frag) (x:V) (y:V) (H:Hp) (Q:VK):Prop
 | mk (d:_) (e:_):gx K H x d->gx K H y e->YY d=true->YY e=true->Q (.bl (!PyData.eqv d e)) H->AV K x y H Q
theorem sy {X:Cx} (hu:X.A.units + 64 < cLine):dU X (XS .Eq) (AY X.K):=by
 intro pins s σ H x y v u Q I rx ry h;obtain ⟨d,e,hd,he,sd,se,q⟩:=h;obtain ⟨as,z1⟩:=hd.reads I rx;obtain ⟨bs,z2⟩:=he.reads I ry;exact eq_dataH z1 z2 sd se hu ⟨.bl _,H,I,rfl,q⟩
theorem zJ {X:Cx} (hu:X.A.units + 64 < cLine):dU X (XS .NotEq) (AV X.K):=by
 intro pins s σ H x y v u Q I rx ry h;obtain ⟨d,e,hd,he,sd,se,q⟩:=h;obtain ⟨as,z1⟩:=hd.reads I rx;obtain ⟨bs,z2⟩:=he.reads I ry;exact ne_dataH z1 z2 sd se hu ⟨.bl _,H,I,rfl,q⟩
theorem ng {P:Program} {w:World} {X:Cx}:lS (ay P w) X (fun _=>E0):=fun _ _ _ _ _ _ _ ⟨_,_,_,_,_,z⟩=>z.elim
theorem Zj {H:Hp} {p:Addr} {o:HO} (h:H p=none):ag H (upd H p o):=fun b u e=>by rw [Zf (Zg e h)];exact e
end L2
namespace L2
open PySem PySem.Spec PyProof.Rows
section
variable {κ:Type} [DecidableEq κ]
def aW (kvs:List (κ×V)) (k:κ):Option V:=(kvs.find? fun kv=>decide (kv.1=k)).map (·.2)
def putK (kvs:List (κ×V)) (k:κ) (v:V):List (κ×V):=
 if (kvs.any fun kv=>decide (kv.1=k))=true then kvs.map (fun kv=>if kv.1=k then (kv.1,v) else kv) else kvs++[(k,v)]
def hJ (kvs:List (κ×V)) (k:κ):List (κ×V):=kvs.filter fun kv=>decide (kv.1≠k)
theorem mG {p:κ×V} {r:List (κ×V)} {k:κ} (e:p.1=k):aW (p::r) k=some p.2:=by simp [aW,Wb,e]
theorem lY {p:κ×V} {r:List (κ×V)} {k:κ} (e:¬ p.1=k):aW (p::r) k=aW r k:=by simp [aW,Wb,e]
theorem x6 (k:κ):∀ kvs:List (κ×V),(kvs.any fun kv=>decide (kv.1=k))=(aW kvs k).isSome
 | []=>rfl
 | p::r=>by
  rw [W4]
  by_cases e:p.1=k
  .simp only [mG e,decide_eq_true e,Bool.true_or,Option.isSome_some]
  .rw [lY e,decide_eq_false e,Ya8];exact x6 k r
theorem Zrg (k j:κ) (y:V):∀ kvs:List (κ×V),aW (kvs.map fun kv=>if kv.1=k then (kv.1,y) else kv) j=(aW kvs j).map fun x=>if j=k then y else x
 | []=>rfl
 | p::r=>by
  have ih:=Zrg k j y r;rw [Yt]
  by_cases h:p.1=k
  .rw [if_pos h]
   by_cases e:p.1=j
   .rw [mG (p:=(p.1,y)) e,mG e,Xe,if_pos (e.symm.trans h)]
   .rw [lY (p:=(p.1,y)) e,lY e,ih]
  .rw [if_neg h]
   by_cases e:p.1=j
   .rw [mG (p:=p) e,mG e,Xe,if_neg (fun z=>h (e.trans z))]
   .rw [lY (p:=p) e,lY e,ih]
theorem ZoY (k j:κ) (y:V):∀ kvs:List (κ×V),aW kvs k=none->aW (kvs++[(k,y)]) j=if j=k then some y else aW kvs j
 | [],_=>by
  by_cases e:k=j
  .rw [if_pos e.symm];exact mG (p:=(k,y)) e
  .rw [if_neg (fun z=>e z.symm)];exact lY (p:=(k,y)) e
 | p::r,hn=>by
  rw [Yal];have hk:¬ p.1=k:=fun z=>by rw [mG z] at hn;cases hn
  rw [lY hk] at hn;have ih:=ZoY k j y r hn
  by_cases e:p.1=j
  .rw [mG e,mG e,if_neg (fun z=>hk (e.trans z))]
  .rw [lY e,lY e,ih]
theorem Hd (kvs:List (κ×V)) (k j:κ) (y:V):aW (putK kvs k y) j=if j=k then some y else aW kvs j:=by
 unfold putK
 by_cases a:(kvs.any fun kv=>decide (kv.1=k))=true
 .rw [if_pos a,Zrg];rw [x6] at a
  by_cases e:j=k
  .obtain ⟨x,hx⟩:=Option.isSome_iff_exists.mp a;rw [if_pos e,e,hx,Xe,if_pos rfl]
  .rw [if_neg e]
   cases aW kvs j with
   | none=>rfl
   | some x=>rw [Xe,if_neg e]
 .rw [if_neg a];refine ZoY k j y kvs ?_;rw [x6] at a
  cases q:aW kvs k with
  | none=>rfl
  | some x=>rw [q] at a;exact (a rfl).elim
theorem DM (kvs:List (κ×V)) (k:κ) (v:V):(putK kvs k v).length<=kvs.length + 1:=by
 unfold putK
 split
 .rw [Yb];omega
 .rw [Yg,Yz,Ybx];omega
theorem b9.cb {o:Option V} {u:Option Value} (r:b9 o u):o.isSome=u.isSome:=by
 cases o with
 | none=>cases u with
  | none=>rfl
  | some _=>exact (show False from r).elim
 | some _=>cases u with
  | none=>exact (show False from r).elim
  | some _=>rfl
theorem b9.getD {o:Option V} {u:Option Value} {d:V} {d':Value} (r:b9 o u) (rd:RelV d d'):RelV (o.getD d) (u.getD d'):=by
 cases o with
 | none=>cases u with
  | none=>exact rd
  | some _=>exact (show False from r).elim
 | some _=>cases u with
  | none=>exact (show False from r).elim
  | some _=>exact r
theorem KV.val {kvs:List (κ×V)} {vs:List (κ×Value)} (r:KV kvs vs) (k:κ):b9 (aW kvs k) (valueAt vs k):=by
 unfold KV at r
 induction r with
 | nil=>exact XX
 | @cons p q ps qs h t ih=>
  obtain ⟨h1,h2⟩:=h
  by_cases e:p.1=k
  .have e':q.1=k:=h1.symm.trans e;have b:valueAt (q::qs) k=some q.2:=by simp [valueAt,Wb,e']
   rw [mG e,b];exact h2
  .have e':¬ q.1=k:=fun z=>e (h1.trans z);have b:valueAt (q::qs) k=valueAt qs k:=by simp [valueAt,Wb,e']
   rw [lY e,b];exact ih
theorem KV.any {kvs:List (κ×V)} {vs:List (κ×Value)} (r:KV kvs vs) (k:κ):(kvs.any fun kv=>decide (kv.1=k))=vs.any fun kv=>decide (kv.1=k):=by
 unfold KV at r
 induction r with
 | nil=>rfl
 | cons h t ih=>rw [W4,W4,ih,h.1]
theorem KV.mJ {kvs:List (κ×V)} {vs:List (κ×Value)} (r:KV kvs vs) (k:κ) {y:V} {u:Value} (ry:RelV y u) :
  KV (kvs.map fun kv=>if kv.1=k then (kv.1,y) else kv) (vs.map fun kv=>if kv.1=k then (kv.1,u) else kv):=by
 unfold KV at r ⊢
 induction r with
 | nil=>exact .nil
 | @cons p q ps qs h t ih=>
  rw [Yt,Yt];refine .cons ?_ ih;obtain ⟨h1,h2⟩:=h
  by_cases e:p.1=k
  .rw [if_pos e,if_pos (h1.symm.trans e)];exact ⟨h1,ry⟩
  .rw [if_neg e,if_neg (fun z=>e (h1.trans z))];exact ⟨h1,h2⟩
theorem KV.put {kvs:List (κ×V)} {vs:List (κ×Value)} (r:KV kvs vs) (k:κ) {y:V} {u:Value} (ry:RelV y u):KV (putK kvs k y) (stored vs k u):=by
 unfold putK stored;rw [r.any k]
 by_cases e:(vs.any fun kv=>decide (kv.1=k))=true
 .rw [if_pos e,if_pos e];exact r.mJ k ry
 .rw [if_neg e,if_neg e];exact YaX r ⟨rfl,ry⟩
theorem KV.drop {kvs:List (κ×V)} {vs:List (κ×Value)} (r:KV kvs vs) (k:κ):KV (hJ kvs k) (without vs k):=by
 unfold KV at r ⊢;unfold hJ without
 induction r with
 | nil=>exact .nil
 | @cons p q ps qs h t ih=>
  obtain ⟨h1,h2⟩:=h;rw [Ybg,Ybg]
  by_cases e:p.1=k
  .have a:¬ decide (p.1≠k)=true:=by simp [e]
   have b:¬ decide (q.1≠k)=true:=by simp [h1.symm.trans e]
   rw [if_neg a,if_neg b];exact ih
  .have e':¬ q.1=k:=fun z=>e (h1.trans z);have a:decide (p.1≠k)=true:=by simp [e]
   have b:decide (q.1≠k)=true:=by simp [e']
   rw [if_pos a,if_pos b];exact .cons ⟨h1,h2⟩ ih
theorem KV.keys {kvs:List (κ×V)} {vs:List (κ×Value)} (r:KV kvs vs):kvs.map (·.1)=vs.map (·.1):=by
 unfold KV at r
 induction r with
 | nil=>rfl
 | cons h t ih=>rw [Yt,Yt,ih,h.1]
theorem KV.length {kvs:List (κ×V)} {vs:List (κ×Value)} (r:KV kvs vs):kvs.length=vs.length:=Xr r
theorem ZvC (kvs:List (κ×V)) (k:κ):(hJ kvs k).length<=kvs.length:=XA _ _
end
theorem pP {P:Program} {w:World} {k:Key} {u:Value} (r:RelV (kV k) u):(Z4 P w).is k u=true:=by
 cases k with
 | inl i=>obtain ⟨t,e⟩:=(show ∃ t,u=Value.int i t from r);subst e;exact ZqO P w i t
 | inr x=>obtain ⟨t,e⟩:=(show ∃ t,u=Value.str x t from r);subst e;exact ZqN P w x t
theorem ZpP {P:Program} {w:World}:∀ {ks:List Key} {us:List Value},Vals (ks.map kV) us->ItemsAre (Z4 P w) ks us
 | [],_,r=>by rw [YaD] at r;cases r;exact .nil
 | k::ks,_,r=>by
  rw [Yt] at r
  cases r with
  | cons h t=>exact .cons (pP h) (ZpP t)
abbrev KT (H:Hp):List (List Key×V)->List (List Key×Addr×Value)->Prop:=WA fun p q=>p.1=q.1/\H q.2.1=some (.tup (p.1.map kV))/\RelV p.2 q.2.2
theorem KT.val {H:Hp} {kvs:List (List Key×V)} {xs:List (List Key×Addr×Value)} (r:KT H kvs xs) (k:List Key):b9 (aW kvs k) ((atKey xs k).map (·.2)):=by
 induction r with
 | nil=>exact XX
 | @cons p q ps qs h t ih=>
  obtain ⟨h1,_,h2⟩:=h
  by_cases e:p.1=k
  .have e':q.1=k:=h1.symm.trans e;have b:atKey (q::qs) k=some q.2:=by simp [atKey,Wb,e']
   rw [mG e,b];exact h2
  .have e':¬ q.1=k:=fun z=>e (h1.trans z);have b:atKey (q::qs) k=atKey qs k:=by simp [atKey,Wb,e']
   rw [lY e,b];exact ih
theorem KT.mJ {H:Hp} {kvs:List (List Key×V)} {xs:List (List Key×Addr×Value)} (r:KT H kvs xs) (k:List Key) {y:V} {u:Value} (ry:RelV y u) :
  KT H (kvs.map fun kv=>if kv.1=k then (kv.1,y) else kv) (xs.map (putAt k u)):=by
 induction r with
 | nil=>exact .nil
 | @cons p q ps qs h t ih=>
  rw [Yt,Yt];refine .cons ?_ ih;obtain ⟨h1,h2,h3⟩:=h;unfold putAt
  by_cases e:p.1=k
  .rw [if_pos e,if_pos (h1.symm.trans e)];exact ⟨h1,h2,ry⟩
  .rw [if_neg e,if_neg (fun z=>e (h1.trans z))];exact ⟨h1,h2,h3⟩
theorem KT.put {H:Hp} {kvs:List (List Key×V)} {xs:List (List Key×Addr×Value)} (r:KT H kvs xs) (k:List Key) {b:Addr} {y:V} {u:Value} (hb:H b=some (.tup (k.map kV))) (ry:RelV y u) :
  KT H (putK kvs k y) (storedH xs k b u):=by
 have e:(kvs.any fun kv=>decide (kv.1=k))=(atKey xs k).isSome:=by
  rw [x6,(r.val k).cb,Yac]
 unfold putK storedH;rw [e]
 by_cases q:(atKey xs k).isSome=true
 .rw [if_pos q,if_pos q];exact r.mJ k ry
 .rw [if_neg q,if_neg q];exact YaX r ⟨rfl,hb,ry⟩
theorem KT.keeps {H H':Hp} {kvs:List (List Key×V)} {xs:List (List Key×Addr×Value)} (r:KT H kvs xs) (ht:∀ b ys,H b=some (.tup ys)->H' b=some (.tup ys)):KT H' kvs xs:=
 Paired.vN r fun _ _ z=>⟨z.1,ht _ _ z.2.1,z.2.2⟩
section
variable {P:Program} {w:World} {H:Hp} {h:Heap} {a:Addr}
theorem F9 {u:HO} (ok:cE P w H h) (e:Rd H a u):bU P w H h a u:=e.ok ok
theorem kG {kvs:List (Key×V)} (ok:cE P w H h) (e:Rd H a (.dK kvs)):kvs.length<=Ym/\(a == Xy)=false/\∃ vs,KV kvs vs/\h.DictOf (Z4 P w) a vs:=
 show bU P w H h a (.dK kvs) from F9 ok e
theorem CH {kvs:List (Key×V)} (ok:cE P w H h) (e:H a=some (.dK kvs)):kvs.length<=Ym/\(a == Xy)=false/\∃ vs,KV kvs vs/\h.DictOf (Z4 P w) a vs:=kG ok (.inl e)
theorem u7 {ks:List Key} (ok:cE P w H h) (e:H a=some (.tup (ks.map kV))):(WY (Z4 P w)).is h ks a:=by
 obtain ⟨_,its,r,o,h1,h2,n,h3⟩:=(show bU P w H h a (.tup (ks.map kV)) from ok a _ e)
 exact ⟨o,its.toArray,n,h1,h2,h3,by simpa using ZpP r⟩
theorem sq {kvs:List (List Key×V)} (ok:cE P w H h) (e:Rd H a (.dT kvs)):kvs.length<=Ym/\(a == Xy)=false/\
  ∃ xs,KT H kvs xs/\h.DictOfH (WY (Z4 P w)) a xs:=by
 obtain ⟨z,y,xs,r,o,es,ep,h1,h2,h3,h4,h5⟩:=(show bU P w H h a (.dT kvs) from F9 ok e)
 refine ⟨z,y,xs,r,o,es,ep,h1,h2,h3,h4,fun x hx=>?_,h5⟩
 have all:∀ {l:List (List Key×V)} {m:List (List Key×Addr×Value)},KT H l m->∀ x∈m,(WY (Z4 P w)).is h x.1 x.2.1:=by
  intro l m q
  induction q with
  | nil=>intro x hx;exact nomatch hx
  | @cons p q ps qs hq t ih=>
   intro x hx;rcases List.mem_cons.mp hx with e | hx
   .subst e;exact u7 ok (by rw [<- hq.1];exact hq.2.1)
   .exact ih x hx
 exact all r x hx
theorem ZyZ {kvs:List (List Key×V)} (ok:cE P w H h) (e:H a=some (.dT kvs)):kvs.length<=Ym/\(a == Xy)=false/\
  ∃ xs,KT H kvs xs/\h.DictOfH (WY (Z4 P w)) a xs:=sq ok (.inl e)
end
def aI (H:Hp) (a:Addr) (y:V) (r:Option V):Prop:=
 (∃ kvs k,Rd H a (.dK kvs)/\y=kV k/\r=aW kvs k)∨∃ kvs k b,Rd H a (.dT kvs)/\y=.ref b/\H b=some (.tup (k.map kV))/\r=aW kvs k
def d6 (H:Hp) (a:Addr) (y v:V) (H':Hp):Prop:=
 (∃ kvs k,H a=some (.dK kvs)/\y=kV k/\kvs.length < Ym/\H'=upd H a (.dK (putK kvs k v)))∨
 ∃ kvs k b,H a=some (.dT kvs)/\y=.ref b/\H b=some (.tup (k.map kV))/\kvs.length < Ym/\H'=upd H a (.dT (putK kvs k v))
theorem aI.k {H:Hp} {a:Addr} {kvs:List (Key×V)} {k:Key} (e:H a=some (.dK kvs)):aI H a (kV k) (aW kvs k):=.inl ⟨kvs,k,.inl e,rfl,rfl⟩
theorem aI.t {H:Hp} {a b:Addr} {kvs:List (List Key×V)} {k:List Key} (e:H a=some (.dT kvs)) (eb:H b=some (.tup (k.map kV))):aI H a (.ref b) (aW kvs k):=.inr ⟨kvs,k,b,.inl e,rfl,eb,rfl⟩
theorem d6.k {H:Hp} {a:Addr} {kvs:List (Key×V)} {k:Key} {v:V} (e:H a=some (.dK kvs)) (hl:kvs.length < Ym):d6 H a (kV k) v (upd H a (.dK (putK kvs k v))):=.inl ⟨kvs,k,e,rfl,hl,rfl⟩
theorem d6.t {H:Hp} {a b:Addr} {kvs:List (List Key×V)} {k:List Key} {v:V} (e:H a=some (.dT kvs)) (eb:H b=some (.tup (k.map kV))) (hl:kvs.length < Ym) :
  d6 H a (.ref b) v (upd H a (.dT (putK kvs k v))):=.inr ⟨kvs,k,b,e,rfl,eb,hl,rfl⟩
section
variable {X:Cx} {pins:List (Addr×Obj)} {σ:St} {H:Hp} {s:Shared} {a:Addr} {y v:V} {u r:Value} {o:Option V} {A:Around} {E:Value->Shared->Prop}
theorem Inv.big (I:Inv X pins σ H s):Xy < s.heap.objs.size:=by
 have h:Xj < s.heap.objs.size:=(I.mod.glob.keeps I.bk).lt;exact Nat.lt_trans (by decide) h
theorem Zuu {Q:Value->Shared->Prop} (hu:A.units + 1 < cLine) (I:Inv X pins σ H s) (g:aI H a y (some v)) (ry:RelV y u) (h:∀ w' s',Inv X pins σ H s'->RelV v w'->Q w' s') :
  wpAny (model X.prog X.w) A (getItem (.ref a) u) Q E s:=by
 rcases g with ⟨kvs,k,e,ey,l⟩ | ⟨kvs,k,b,e,ey,eb,l⟩
 .subst ey;obtain ⟨z,hd,vs,rel,dd⟩:=kG I.aj e;obtain ⟨w',hw,iX⟩:=b9.some_of (v:=v) (o:=valueAt vs k) (by rw [l];exact rel.val k);exact wpAny_getItem_of (pP ry) dd.mapOf hw (h w' _ (I.tok _) iX)
 .subst ey
  cases (show u=Value.ref b from ry)
  obtain ⟨z,hd,xs,rel,dd⟩:=sq I.aj e;obtain ⟨w',hw,iX⟩:=b9.some_of (v:=v) (o:=(atKey xs k).map (·.2)) (by rw [l];exact rel.val k);obtain ⟨p,hp,eI⟩:=Option.map_eq_some_iff.mp hw;refine wpAny_getItem_heap (Ww hu) (u7 I.aj eb) dd hp ?_;rw [eI];exact h w' _ (I.tok _) iX
theorem M7 {Q:Value->Shared->Prop} (hu:A.units + 1 < cLine) (I:Inv X pins σ H s) (g:aI H a y o) (ry:RelV y u) (h:∀ s',Inv X pins σ H s'->Q (.bool o.isSome) s') :
  wpAny (model X.prog X.w) A (XS .In u (.ref a)) Q E s:=by
 rcases g with ⟨kvs,k,e,ey,l⟩ | ⟨kvs,k,b,e,ey,eb,l⟩
 .subst ey;obtain ⟨z,hd,vs,rel,dd⟩:=kG I.aj e;refine wpAny_in_of (pP ry) hd dd.mapOf ?_;rw [<- (rel.val k).cb,<- l];exact h _ (I.tok _)
 .subst ey
  cases (show u=Value.ref b from ry)
  obtain ⟨z,hd,xs,rel,dd⟩:=sq I.aj e;refine wpAny_in_heap (Ww hu) (u7 I.aj eb) hd dd ?_;have q:=(rel.val k).cb;rw [Yac] at q;rw [<- q,<- l];exact h _ (I.tok _)
theorem Zw6 {Q:Value->Shared->Prop} (hu:A.units + 1 < cLine) (I:Inv X pins σ H s) (g:aI H a y o) (ry:RelV y u) (h:∀ s',Inv X pins σ H s'->Q (.bool (!o.isSome)) s') :
  wpAny (model X.prog X.w) A (XS .NotIn u (.ref a)) Q E s:=by
 rcases g with ⟨kvs,k,e,ey,l⟩ | ⟨kvs,k,b,e,ey,eb,l⟩
 .subst ey;obtain ⟨z,hd,vs,rel,dd⟩:=kG I.aj e;refine wpAny_notIn_of (pP ry) hd dd.mapOf ?_;rw [<- (rel.val k).cb,<- l];exact h _ (I.tok _)
 .subst ey
  cases (show u=Value.ref b from ry)
  obtain ⟨z,hd,xs,rel,dd⟩:=sq I.aj e;refine wpAny_notIn_heap (Ww hu) (u7 I.aj eb) hd dd ?_;have q:=(rel.val k).cb;rw [Yac] at q;rw [<- q,<- l];exact h _ (I.tok _)
theorem C9 {h':Heap} {t':Nat} {ob:HO} (I:Inv X pins σ H s) (mu:AA (H a)) (hs:Xx a s.heap h') (he:∃ q,h'.get? a=some q) (new:bU X.prog X.w (upd H a ob) h' a ob) :
  Inv X pins σ (upd H a ob) {s with heap:=h',toks:=t'}:=
 I.write (x:=a) (e:=a) mu (.inl rfl) (fun b q hb z=>(hs.2 b hb).trans z) he new
theorem CT {P:Program} {w:World} {H':Hp} {h':Heap} {kvs:List (Key×V)} {vs:List (Key×Value)} (z:kvs.length<=Ym) (hd:(a == Xy)=false) (rel:KV kvs vs) (dd:h'.DictOf (Z4 P w) a vs) :
  bU P w H' h' a (.dK kvs):=⟨z,hd,vs,rel,dd⟩
theorem Zut {H':Hp} {Q:Unit->Shared->Prop} (hu:A.units + 1 < cLine) (I:Inv X pins σ H s) (g:d6 H a y v H') (ry:RelV y u) (rv:RelV v r) (h:∀ s',Inv X pins σ H' s'->Q () s') :
  wpAny (model X.prog X.w) A (setItem (.ref a) u r) Q E s:=by
 rcases g with ⟨kvs,k,e,ey,l,eH⟩ | ⟨kvs,k,b,e,ey,eb,l,eH⟩
 .subst ey eH;obtain ⟨z,hd,vs,rel,dd⟩:=CH I.aj e;have hz:vs.length<=Ym:=by rw [<- rel.length];exact z
  have hl:(putK kvs k v).length<=Ym:=by have:=DM kvs k v;omega
  refine wpAny_setItem_pairs (hsz:=hz) (pP ry) dd fun h' fR hs=>h _ ?_;have he:∃ q,h'.get? a=some q:=let ⟨q,_,_,hq,_⟩:=fR;⟨q,hq⟩
  exact C9 I (by rw [e];exact XX) hs he (CT hl hd (rel.put k rv) fR)
 .subst ey eH
  cases (show u=Value.ref b from ry)
  obtain ⟨z,hd,xs,rel,dd⟩:=ZyZ I.aj e;have hz:xs.length<=Ym:=by rw [<- Xr rel];exact z
  have hl:(putK kvs k v).length<=Ym:=by have:=DM kvs k v;omega
  refine wpAny_setItem_heap (hsz:=hz) (Ww hu) (u7 I.aj eb) dd fun h' fR hs=>h _ ?_;obtain ⟨q,es,ep,hq,h2,h3,h4,_,h5⟩:=fR;refine C9 I (by rw [e];exact XX) hs ⟨q,hq⟩ ⟨hl,hd,_,(rel.put k eb rv).keeps fun c ys ec=>?_,q,es,ep,hq,h2,h3,h4,h5⟩;rw [Zf (ZR ec e (fun z=>nomatch z))];exact ec
end
section
variable {X:Cx} {pins:List (Addr×Obj)} {σ:St} {H:Hp} {s:Shared} {a:Addr} {kvs:List (Key×V)} {k:Key} {u:Value} {A:Around} {E:Value->Shared->Prop}
theorem Zyh {v:V} {more:List Value} {Q:Value->Shared->Prop} (I:Inv X pins σ H s) (e:H a=some (.dK kvs)) (ry:RelV (kV k) u) (l:aW kvs k=some v) (hm:more=[]∨∃ x,more=[x])
  (h:∀ w' s',Inv X pins σ (upd H a (.dK (hJ kvs k))) s'->RelV v w'->Q w' s'):wpAny (model X.prog X.w) A (call (.builtin "dict.pop") (.ref a::u::more)) Q E s:=by
 obtain ⟨z,hd,vs,rel,dd⟩:=CH I.aj e;obtain ⟨w',hw,iX⟩:=b9.some_of (v:=v) (o:=valueAt vs k) (by rw [<- l];exact rel.val k)
 have hp:(keyPart u).isSome=true:=by
  cases k with
  | inl i=>obtain ⟨t,q⟩:=(show ∃ t,u=Value.int i t from ry);subst q;rfl
  | inr x=>obtain ⟨t,q⟩:=(show ∃ t,u=Value.str x t from ry);subst q;rfl
 have ha:argsOk "dict.pop" ⟨.ref a::u::more,[]⟩:=by
  rcases hm with q | ⟨x,q⟩
  .subst q;exact PySem.F.args_dict_pop_2 _ _
  .subst q;exact PySem.F.args_dict_pop_3 _ _ _
 refine YaB Yah dd.typeIs PySem.F.entry_dict_pop ha (meets_dict_pop_there (Z4 X.prog X.w) a (pP ry) more hm hp)
  ⟨vs,w',dd,by rw [<- rel.length];exact z,hw,fun h' fR hs=>h w' _ ?_ iX⟩
 have he:∃ q,h'.get? a=some q:=let ⟨q,_,_,hq,_⟩:=fR;⟨q,hq⟩
 exact C9 I (by rw [e];exact XX) hs he (CT (Yk (ZvC kvs k) z) hd (rel.drop k) fR)
theorem Zyg {r:Value} {Q:Value->Shared->Prop} (I:Inv X pins σ H s) (e:H a=some (.dK kvs)) (ry:RelV (kV k) u) (l:aW kvs k=none) (h:∀ s',Inv X pins σ H s'->Q r s') :
  wpAny (model X.prog X.w) A (call (.builtin "dict.pop") [.ref a,u,r]) Q E s:=by
 obtain ⟨z,hd,vs,rel,dd⟩:=CH I.aj e;have hn:valueAt vs k=none:=b9.none_of (by rw [<- l];exact rel.val k)
 have hp:(keyPart u).isSome=true:=by
  cases k with
  | inl i=>obtain ⟨t,q⟩:=(show ∃ t,u=Value.int i t from ry);subst q;rfl
  | inr x=>obtain ⟨t,q⟩:=(show ∃ t,u=Value.str x t from ry);subst q;rfl
 exact YaB Yah dd.typeIs PySem.F.entry_dict_pop (PySem.F.args_dict_pop_3 _ _ _) (meets_dict_pop_default (Z4 X.prog X.w) a (pP ry) hd hp r) ⟨vs,dd,hn,h _ (I.tok _)⟩
theorem Zy1 {Q:Value->Shared->Prop} (I:Inv X pins σ H s) (e:Rd H a (.dK kvs)) (h:∀ t s',Inv X pins σ H s'->Q (.int kvs.length t) s'):wpAny (model X.prog X.w) A (call (.builtin "len") [.ref a]) Q E s:=by
 obtain ⟨z,hd,vs,rel,dd⟩:=kG I.aj e;refine call_len_dict hd dd (by rw [<- rel.length];rw [WR] at z;omega) ?_;rw [<- rel.length];exact h _ _ (I.tok _)
end
def BC (i:Expr):Prop:=∀ ov iv,subscripted i false ov iv=operate [ov,iv] (getItem ov iv)
theorem Zws {prog:Program} {w:World} {A:Around} {E:Value->Shared->Prop} {s:Shared} {env:Env} {value slice:Expr} {pos:Pos} {T id:String} {Q:Value->Shared->Prop}
  (hl:typeLookup (.type T) "__getitem__"=pure (some (.builtin id))) (hs:BC slice)
  (h:wpAny (model prog w) A (eval value env) (fun o aC=>wpAny (model prog w) A (eval slice env) (fun i gq=>gq.TypeIs o T/\wpAny (model prog w) A (getItem o i) Q E gq) E aC) E s) :
  wpAny (model prog w) A (eval (.Subscript value slice pos) env) Q E s:=by
 refine Subscript_ (Xd h (fun o aC qZ=>Xd qZ (fun i gq oE=>?_) fun _ _ x=>x) fun _ _ x=>x);obtain ⟨hT,oE⟩:=oE;unfold subscriptTail;refine Ya ?_;rw [getitemInPython_of_ne hT.not_modules];refine Ya (wpAny_specialOf hT hl ?_)
 have fin:wpAny (model prog w) A (subscripted slice false o i) (fun r mH=>wpAny (model prog w) A (letTemporaryGo value o r >>= fun _=>pure r) Q E mH) E gq:=by
  rw [hs o i];exact wpAny_operating (Xd oE (fun r mH qY=>Ya (wpAny_letTemporaryGo (Yd qY))) fun _ _ x=>x)
 first
  | exact Yd (Ya fin)
  | exact Ya (Yd (Ya fin))
  | exact Ya fin
theorem Zq2 {X:Cx} {pins:List (Addr×Obj)} {σ:St} {H:Hp} {s:Shared} {a:Addr} {y:V} {o:Option V} (I:Inv X pins σ H s) (g:aI H a y o):s.TypeIs (.ref a) "dict":=by
 rcases g with ⟨kvs,k,e,_,_⟩ | ⟨kvs,k,b,e,_,_,_⟩
 .obtain ⟨_,_,vs,_,dd⟩:=kG I.aj e;exact dd.typeIs
 .obtain ⟨_,_,xs,_,dd⟩:=sq I.aj e;exact dd.typeIs
inductive tY  (x y:V) (H2:Hp) (Q:VK):Prop
 | mk (a:_) (v:_):x=.ref a->aI H2 a y (some v)->Q v H2->tY x y H2 Q
def ZyH (td ty:TE):TE:=fun σ H Q=>td σ H fun x H1=>ty σ H1 fun y H2=>tY x y H2 Q
inductive BA  (x y:V) (H2:Hp) (Q:VK):Prop
 | mk (a:_) (o:_):x=.ref a->aI H2 a y o->Q (.bl o.isSome) H2->BA x y H2 Q
def Ma (ty td:TE):TE:=fun σ H Q=>ty σ H fun y H1=>td σ H1 fun x H2=>BA x y H2 Q
inductive Bz  (x y:V) (H2:Hp) (Q:VK):Prop
 | mk (a:_) (o:_):x=.ref a->aI H2 a y o->Q (.bl (!o.isSome)) H2->Bz x y H2 Q
def Zwp (ty td:TE):TE:=fun σ H Q=>ty σ H fun y H1=>td σ H1 fun x H2=>Bz x y H2 Q
inductive tX  (D:Ends) (σ:St) (x y v:V) (H3:Hp):Prop
 | mk (a:_) (H4:_):x=.ref a->d6 H3 a y v H4->D.nx σ H4->tX D σ x y v H3
def ZyJ (td ty tv:TE):TS:=fun D σ H=>tv σ H fun v H1=>td σ H1 fun x H2=>ty σ H2 fun y H3=>tX D σ x y v H3
section
variable {X:Cx} {o i e value:Expr} {pos pos' LR:Pos} {td ty tv:TE}
theorem kL (hu:X.A.units + 1 < cLine) (ho:PE X o td) (hi:PE X i ty) (hs:BC i):PE X (.Subscript o i pos) (ZyH td ty):=by
 try unfold PE at *
 intro pins s σ H Q I h;refine Zws PySem.F.slot_dict_getitem.lookup hs (aH (ho pins s σ H _ I h) fun u s1 ⟨x,H1,I1,rx,q1⟩=>aH (hi pins s1 σ H1 _ I1 q1) fun iv s2 ⟨y,H2,I2,ry,a,v,ex,g,q2⟩=>?_);subst ex;obtain rfl:u=Value.ref a:=rx;exact ⟨Zq2 I2 g,Zuu hu I2 g ry fun w' s3 I3 iX=>⟨v,H2,I3,iX,q2⟩⟩
theorem nj (hu:X.A.units + 1 < cLine) (hi:PE X i ty) (ho:PE X o td):PC X .In i o (Ma ty td):=by
 try unfold PE at *
 intro pins s σ H Q I h;refine aH (hi pins s σ H _ I h) fun iv s1 ⟨y,H1,I1,ry,q1⟩=>aH (ho pins s1 σ H1 _ I1 q1) fun u s2 ⟨x,H2,I2,rx,a,ov,ex,g,q2⟩=>?_;subst ex;obtain rfl:u=Value.ref a:=rx;exact M7 hu I2 g ry fun s3 I3=>⟨.bl ov.isSome,H2,I3,rfl,q2⟩
theorem x9 (hu:X.A.units + 1 < cLine) (hi:PE X i ty) (ho:PE X o td):PC X .NotIn i o (Zwp ty td):=by
 try unfold PE at *
 intro pins s σ H Q I h;refine aH (hi pins s σ H _ I h) fun iv s1 ⟨y,H1,I1,ry,q1⟩=>aH (ho pins s1 σ H1 _ I1 q1) fun u s2 ⟨x,H2,I2,rx,a,ov,ex,g,q2⟩=>?_;subst ex;obtain rfl:u=Value.ref a:=rx;exact Zw6 hu I2 g ry fun s3 I3=>⟨.bl (!ov.isSome),H2,I3,rfl,q2⟩
theorem vg (hu:X.A.units + 1 < cLine) (ho:PE X o td) (hi:PE X i ty) (hv:PE X value tv) (hs:swapsWith value (some (.Subscript o i pos')) pos.line X.env=pure false) :
  PS X (.Assign [.Subscript o i pos'] value pos) (ZyJ td ty tv):=by
 try unfold PE at *;try unfold PS at *
 intro pins s σ H D I h;refine wpAny_Assign_Subscript (aH (hv pins s σ H _ I h) fun r s1 ⟨v,H1,I1,rv,q1⟩=>aH (ho pins s1 σ H1 _ I1 q1) fun u s2 ⟨x,H2,I2,rx,q2⟩=>aH (hi pins s2 σ H2 _ I2 q2) fun iv s3 ⟨y,H3,I3,ry,a,H4,ex,g,q3⟩=>?_) hs;subst ex;obtain rfl:u=Value.ref a:=rx;exact Zut hu I3 g ry rv fun s4 I4=>⟨σ,H4,I4,q3⟩
end
theorem ZrX {P:Program} {w:World} {H:Hp} (h:Heap) (hb:Xy < h.objs.size):bU P w H (h.push {cls:=.type "dict",data:=.dict #[]}) h.objs.size (.dK []):=
 ⟨Yv _,beq_eq_false_iff_ne.mpr (WO (Yu hb)),[],.nil,Heap.DictOf.new h⟩
theorem ZvB {P:Program} {w:World} {H:Hp} (h:Heap) (hb:Xy < h.objs.size):bU P w H (h.push {cls:=.type "dict",data:=.dict #[]}) h.objs.size (.dT []):=
 ⟨Yv _,beq_eq_false_iff_ne.mpr (WO (Yu hb)),[],.nil,_,#[],0,Yi _ rfl,⟨rfl,rfl,rfl⟩,rfl,rfl,YaH⟩
def Zxy:TE:=fun _ H Q=>∀ p,H p=none->Q (.ref p) (upd H p (.dK []))
def Zxx:TE:=fun _ H Q=>∀ p,H p=none->Q (.ref p) (upd H p (.dT []))
section
variable {X:Cx} {pos:Pos}
theorem qP:PE X (.Dict [] [] pos) Zxy:=by
 try unfold PE at *
 exact fun pins s σ H Q I h=>
  wpAny_Dict_empty ⟨.ref s.heap.objs.size,_,I.laid (a:=s.heap.objs.size) (o:=.dK []) (t':=s.toks) (fun _ _ q=>Yc _ q) (Ye _) (ZrX s.heap I.big),rfl,h _ (I.aj.fresh (Ye _))⟩
theorem Zrx:PE X (.Dict [] [] pos) Zxx:=by
 try unfold PE at *
 exact fun pins s σ H Q I h=>
  wpAny_Dict_empty ⟨.ref s.heap.objs.size,_,I.laid (a:=s.heap.objs.size) (o:=.dT []) (t':=s.toks) (fun _ _ q=>Yc _ q) (Ye _) (ZvB s.heap I.big),rfl,h _ (I.aj.fresh (Ye _))⟩
end
def Gu:List (TE×TE)->St->Hp->(List (V×V)->Hp->Prop)->Prop
  | [],_,H,Q=>Q [] H
  | (tk,tv)::r,σ,H,Q=>tk σ H fun x H1=>tv σ H1 fun y H2=>Gu r σ H2 fun ps H3=>Q ((x,y)::ps) H3
abbrev VV:List (V×V)->List (Value×Value)->Prop:=WA fun p q=>RelV p.1 q.1/\RelV p.2 q.2
@[irreducible] def vF (X:Cx) (pos:Pos) (keys:List (Option Expr)) (values:List Expr) (qh:List (TE×TE)):Prop:=
 ∀ (pins:List (Addr×Obj)) (s:Shared) (σ:St) (H:Hp) (Q:List (V×V)->Hp->Prop),Inv X pins σ H s->Gu qh σ H Q->
  wpAny (model X.prog X.w) X.A (evalPairs (pairTrees keys values X.env pos)) (fun vs s'=>∃ ps H',Inv X pins σ H' s'/\VV ps vs/\Q ps H') X.xe s
theorem ZwB {X:Cx} {pos:Pos}:vF X pos [] [] []:=by
 try unfold vF at *
 exact fun pins s σ H Q I h=>pairTrees_nil_walk ⟨[],H,I,.nil,h⟩
theorem Zu3 {X:Cx} {pos:Pos} {k v:Expr} {ks:List (Option Expr)} {vs:List Expr} {tk tv:TE} {qh:List (TE×TE)} (hk:PE X k tk) (hv:PE X v tv) (hr:vF X pos ks vs qh) :
  vF X pos (some k::ks) (v::vs) ((tk,tv)::qh):=by
 try unfold PE at *;try unfold vF at *
 exact fun pins s σ H Q I h=>
  pairTrees_cons_walk (aH (hk pins s σ H _ I h) fun u s1 ⟨x,H1,I1,rx,q1⟩=>aH (hv pins s1 σ H1 _ I1 q1) fun w2 s2 ⟨y,H2,I2,ry,q2⟩=>
   aH (hr pins s2 σ H2 _ I2 q2) fun ws s3 ⟨ps,H3,I3,rel,q3⟩=>⟨(x,y)::ps,H3,I3,.cons ⟨rx,ry⟩ rel,q3⟩)
def xD (kvs more:List (Key×V)):List (Key×V):=more.foldl (fun acc kv=>putK acc kv.1 kv.2) kvs
theorem KV.merge:∀ {more:List (Key×V)} {rs:List (Key×Value)} {kvs:List (Key×V)} {vs:List (Key×Value)},KV more rs->KV kvs vs->KV (xD kvs more) (merged vs rs):=by
 intro more rs kvs vs r;unfold KV at r
 induction r generalizing kvs vs with
 | nil=>intro q;exact q
 | @cons p q ps qs h t ih=>
  intro r0
  have e:KV (putK kvs p.1 p.2) (stored vs q.1 q.2):=by
   have:=r0.put p.1 h.2
   rw [<- h.1];exact this
  exact ih e
theorem Zh3:∀ (more kvs:List (Key×V)),(xD kvs more).length<=kvs.length + more.length
 | [],kvs=>by show kvs.length<=kvs.length + 0;omega
 | p::r,kvs=>by
  have h1:=Zh3 r (putK kvs p.1 p.2);have h2:=DM kvs p.1 p.2;show (xD (putK kvs p.1 p.2) r).length<=_;rw [Yz];omega
theorem Znn {P:Program} {w:World}:∀ {kvs:List (Key×V)} {ws:List (Value×Value)},VV (kvs.map fun kv=>(kV kv.1,kv.2)) ws->∃ rs,Carries (Z4 P w) ws rs/\KV kvs rs
 | [],_,r=>by rw [YaD] at r;cases r;exact ⟨[],XX,.nil⟩
 | p::kvs,_,r=>by
  rw [Yt] at r
  cases r with
  | @cons a b as bs h t=>
   obtain ⟨rs,c,q⟩:=Znn (P:=P) (w:=w) t;obtain ⟨b1,b2⟩:=b;exact ⟨(p.1,b2)::rs,⟨pP h.1,rfl,c⟩,.cons ⟨rfl,h.2⟩ q⟩
def ZyG (qh:List (TE×TE)):TE:=fun σ H Q=>∀ p,H p=none->Gu qh σ (upd H p (.dK [])) fun ps H2=>H2 p=some (.dK [])/\∃ kvs:List (Key×V),ps=kvs.map (fun kv=>(kV kv.1,kv.2))/\kvs.length<=15/\Q (.ref p) (upd H2 p (.dK (xD [] kvs)))
theorem ZwD {X:Cx} {pos:Pos} {keys:List (Option Expr)} {values:List Expr} {qh:List (TE×TE)} (h:vF X pos keys values qh) (wd:keys.all (·.isSome)=true) (hl:keys.length=values.length) (h0:keys≠[])
  (h15:keys.length<=15):PE X (.Dict keys values pos) (ZyG qh):=by
 try unfold PE at *;try unfold vF at *
 intro pins s σ H Q I q;have hn:=I.aj.fresh (Ye s.heap.objs.size);have I1:=I.laid (a:=s.heap.objs.size) (o:=.dK []) (h':=s.heap.push {cls:=.type "dict",data:=.dict #[]}) (t':=s.toks) (fun _ _ q=>Yc _ q) (Ye _) (ZrX s.heap I.big);refine wpAny_Dict_walk (knd:=Z4 X.prog X.w) wd hl h0 h15 (aH (h pins _ σ _ _ I1 (q _ hn)) fun ws s2 ⟨ps,H2,I2,rel,e,kvs,ep,lk,q2⟩=>?_);subst ep;obtain ⟨rs,c,rk⟩:=Znn (P:=X.prog) (w:=X.w) rel;obtain ⟨z,hd,vs0,r0,dd⟩:=CH I2.aj e
 cases r0
 refine ⟨rs,c,dd,fun h' fR hs=>⟨.ref s.heap.objs.size,_,?_,rfl,q2⟩⟩
 have hz:(xD [] kvs).length<=Ym:=by
  have h1:=Zh3 kvs [];rw [Ybx] at h1;rw [WR];omega
 have he:∃ q,h'.get? s.heap.objs.size=some q:=let ⟨q,_,_,hq,_⟩:=fR;⟨q,hq⟩
 exact C9 I2 (by rw [e];exact XX) hs he (CT hz hd (rk.merge .nil) fR)
structure M1 (X:Cx) (o:Expr) (m:Str) (apos:Pos) (e:Expr) (aU:Pos):Prop where
 base:W2 o m X.env (eval o X.env)=eval o X.env
 i6:((Wi aU (Yx [e] X.env)).all (fun x=>!x.1) && (backToKw aU (YaW [] X.env)).all (fun x=>x.1.isSome)
  && decide (([e]:List Expr).length + ([]:List Keyword).length + (if ([]:List Keyword).isEmpty then 0 else 1) < 30))=true
 line:(apos.endLine == aU.line)=true
 trees:Wi aU (Yx [e] X.env)=[(false,eval e X.env)]
structure M2 (X:Cx) (o:Expr) (m:Str) (apos:Pos) (e f:Expr) (aU:Pos):Prop where
 base:W2 o m X.env (eval o X.env)=eval o X.env
 i6:((Wi aU (Yx [e,f] X.env)).all (fun x=>!x.1) && (backToKw aU (YaW [] X.env)).all (fun x=>x.1.isSome)
  && decide (([e,f]:List Expr).length + ([]:List Keyword).length + (if ([]:List Keyword).isEmpty then 0 else 1) < 30))=true
 line:(apos.endLine == aU.line)=true
 trees:Wi aU (Yx [e,f] X.env)=[(false,eval e X.env),(false,eval f X.env)]
def AG (H:Hp) (a:Addr):Prop:=(∃ kvs,Rd H a (.dK kvs))∨∃ kvs,Rd H a (.dT kvs)
theorem CW {X:Cx} {pins:List (Addr×Obj)} {σ:St} {H:Hp} {s:Shared} {a:Addr} (I:Inv X pins σ H s) (d:AG H a) :
  s.TypeIs (.ref a) "dict"/\(∀ b,Value.ref a=.ref b->∃ ob,s.heap.get? b=some ob/\ob.dict=none)/\(a == Xy)=false:=by
 rcases d with ⟨kvs,e⟩ | ⟨kvs,e⟩
 .obtain ⟨_,hd,vs,_,dd⟩:=kG I.aj e;refine ⟨dd.typeIs,fun b q=>?_,hd⟩
  cases q
  obtain ⟨ob,_,_,h1,h2,_⟩:=dd;exact ⟨ob,h1,h2.2.1⟩
 .obtain ⟨_,hd,xs,_,dd⟩:=sq I.aj e;refine ⟨dd.typeIs,fun b q=>?_,hd⟩
  cases q
  obtain ⟨ob,_,_,h1,h2,_⟩:=dd;exact ⟨ob,h1,h2.2.1⟩
section
variable {X:Cx} {pins:List (Addr×Obj)} {σ:St} {H:Hp} {s:Shared} {a:Addr} {y d:V} {u r:Value} {o:Option V} {A:Around} {E:Value->Shared->Prop}
theorem Zyj {Q:Value->Shared->Prop} (hu:A.units + 1 < cLine) (I:Inv X pins σ H s) (g:aI H a y o) (ry:RelV y u) (h:∀ w' s',Inv X pins σ H s'->RelV (o.getD .aK) w'->Q w' s') :
  wpAny (model X.prog X.w) A (call (.builtin "dict.get") [.ref a,u]) Q E s:=by
 rcases g with ⟨kvs,k,e,ey,l⟩ | ⟨kvs,k,b,e,ey,eb,l⟩
 .subst ey;obtain ⟨z,hd,vs,rel,dd⟩:=kG I.aj e;refine YaB X5 dd.typeIs Yaa (PySem.F.args_dict_get_2 _ _) (meets_dict_get (Z4 X.prog X.w) a (pP ry) hd) ⟨_,dd.mapOf,h _ _ (I.tok _) ?_⟩;rw [l];exact (rel.val k).getD rfl
 .subst ey
  cases (show u=Value.ref b from ry)
  obtain ⟨z,hd,xs,rel,dd⟩:=sq I.aj e;refine YaB X5 dd.typeIs Yaa (PySem.F.args_dict_get_2 _ _) (meetsH_dict_get (WY (Z4 X.prog X.w)) a b hd) ⟨Ww hu,k,xs,u7 I.aj eb,dd,h _ _ (I.tok _) ?_⟩;rw [l];exact (rel.val k).getD rfl
theorem Zyi {Q:Value->Shared->Prop} (hu:A.units + 1 < cLine) (I:Inv X pins σ H s) (g:aI H a y o) (ry:RelV y u) (rd:RelV d r) (h:∀ w' s',Inv X pins σ H s'->RelV (o.getD d) w'->Q w' s') :
  wpAny (model X.prog X.w) A (call (.builtin "dict.get") [.ref a,u,r]) Q E s:=by
 rcases g with ⟨kvs,k,e,ey,l⟩ | ⟨kvs,k,b,e,ey,eb,l⟩
 .subst ey;obtain ⟨z,hd,vs,rel,dd⟩:=kG I.aj e;refine YaB X5 dd.typeIs Yaa (PySem.F.args_dict_get_3 _ _ _) (meets_dict_get_default (Z4 X.prog X.w) a (pP ry) hd r) ⟨_,dd.mapOf,h _ _ (I.tok _) ?_⟩;rw [l];exact (rel.val k).getD rd
 .subst ey
  cases (show u=Value.ref b from ry)
  obtain ⟨z,hd,xs,rel,dd⟩:=sq I.aj e;refine YaB X5 dd.typeIs Yaa (PySem.F.args_dict_get_3 _ _ _) (meetsH_dict_get_default (WY (Z4 X.prog X.w)) a b hd r) ⟨Ww hu,k,xs,u7 I.aj eb,dd,h _ _ (I.tok _) ?_⟩;rw [l];exact (rel.val k).getD rd
end
def ZxA (td ty:TE):TE:=fun σ H Q=>td σ H fun x H1=>∃ a,x=.ref a/\AG H1 a/\ty σ H1 fun y H2=>∃ o,aI H2 a y o/\Q (o.getD .aK) H2
def Zxz (td ty tx:TE):TE:=fun σ H Q=>td σ H fun x H1=>∃ a,x=.ref a/\AG H1 a/\ty σ H1 fun y H2=>tx σ H2 fun z H3=>∃ o,aI H3 a y o/\Q (o.getD z) H3
def Zxw (td ty:TE):TE:=fun σ H Q=>td σ H fun x H1=>∃ a,x=.ref a/\AG H1 a/\ty σ H1 fun y H2=>∃ kvs k v,H2 a=some (.dK kvs)/\y=kV k/\aW kvs k=some v/\Q v (upd H2 a (.dK (hJ kvs k)))
def Zxv (td ty tx:TE):TE:=fun σ H Q=>td σ H fun x H1=>∃ a,x=.ref a/\AG H1 a/\ty σ H1 fun y H2=>tx σ H2 fun z H3=>∃ kvs k,H3 a=some (.dK kvs)/\y=kV k/\
 (∀ v,aW kvs k=some v->Q v (upd H3 a (.dK (hJ kvs k))))/\(aW kvs k=none->Q z H3)
section
variable {X:Cx} {o e f:Expr} {apos aU:Pos} {td ty tx:TE}
theorem Zu6 (hu:X.A.units + 1 < cLine) (ho:PE X o td) (he:PE X e ty) (m:M1 X o "get" apos e aU):PE X (.Call (.Attribute o "get" apos) [e] [] aU) (ZxA td ty):=by
 try unfold PE at *
 intro pins s σ H Q I h;refine YaS m.base m.i6 m.line YW X5 PySem.F.type_dict_get (aH (ho pins s σ H _ I h) fun u s1 ⟨x,H1,I1,rx,a,ex,d,q1⟩=>?_);subst ex;obtain rfl:u=Value.ref a:=rx;obtain ⟨t1,t2,_⟩:=CW I1 d;refine ⟨t1,t2,?_⟩;rw [m.trees];refine XZ rfl (Wg (XD (aH (he pins s1 σ H1 _ I1 q1) fun iv s2 ⟨y,H2,I2,ry,ov,g,q2⟩=>WK ?_)));exact Zyj hu I2 g ry fun w' s3 I3 iX=>⟨_,H2,I3,iX,q2⟩
theorem Hg (hu:X.A.units + 1 < cLine) (ho:PE X o td) (he:PE X e ty) (hf:PE X f tx) (m:M2 X o "get" apos e f aU):PE X (.Call (.Attribute o "get" apos) [e,f] [] aU) (Zxz td ty tx):=by
 try unfold PE at *
 intro pins s σ H Q I h;refine YaS m.base m.i6 m.line YW X5 PySem.F.type_dict_get (aH (ho pins s σ H _ I h) fun u s1 ⟨x,H1,I1,rx,a,ex,d,q1⟩=>?_);subst ex;obtain rfl:u=Value.ref a:=rx;obtain ⟨t1,t2,_⟩:=CW I1 d;refine ⟨t1,t2,?_⟩;rw [m.trees]
 refine XZ rfl (Wg (XD (aH (he pins s1 σ H1 _ I1 q1) fun iv s2 ⟨y,H2,I2,ry,q2⟩=>
  XD (aH (hf pins s2 σ H2 _ I2 q2) fun fv s3 ⟨z,H3,I3,rz,ov,g,q3⟩=>WK ?_))))
 exact Zyi hu I3 g ry rz fun w' s4 I4 iX=>⟨_,H3,I4,iX,q3⟩
theorem Zrw (ho:PE X o td) (he:PE X e ty) (m:M1 X o "pop" apos e aU):PE X (.Call (.Attribute o "pop" apos) [e] [] aU) (Zxw td ty):=by
 try unfold PE at *
 intro pins s σ H Q I h;refine YaS m.base m.i6 m.line YW Yah PySem.F.type_dict_pop (aH (ho pins s σ H _ I h) fun u s1 ⟨x,H1,I1,rx,a,ex,d,q1⟩=>?_);subst ex;obtain rfl:u=Value.ref a:=rx;obtain ⟨t1,t2,_⟩:=CW I1 d;refine ⟨t1,t2,?_⟩;rw [m.trees];refine XZ rfl (Wg (XD (aH (he pins s1 σ H1 _ I1 q1) fun iv s2 ⟨y,H2,I2,ry,kvs,k,v,ea,ey,l,q2⟩=>WK ?_)));subst ey;exact Zyh I2 ea ry l (.inl rfl) fun w' s3 I3 iX=>⟨v,_,I3,iX,q2⟩
theorem Zrv (ho:PE X o td) (he:PE X e ty) (hf:PE X f tx) (m:M2 X o "pop" apos e f aU):PE X (.Call (.Attribute o "pop" apos) [e,f] [] aU) (Zxv td ty tx):=by
 try unfold PE at *
 intro pins s σ H Q I h;refine YaS m.base m.i6 m.line YW Yah PySem.F.type_dict_pop (aH (ho pins s σ H _ I h) fun u s1 ⟨x,H1,I1,rx,a,ex,d,q1⟩=>?_);subst ex;obtain rfl:u=Value.ref a:=rx;obtain ⟨t1,t2,_⟩:=CW I1 d;refine ⟨t1,t2,?_⟩;rw [m.trees]
 refine XZ rfl (Wg (XD (aH (he pins s1 σ H1 _ I1 q1) fun iv s2 ⟨y,H2,I2,ry,q2⟩=>
  XD (aH (hf pins s2 σ H2 _ I2 q2) fun fv s3 ⟨z,H3,I3,rz,kvs,k,ea,ey,q3,q4⟩=>WK ?_))))
 subst ey
 cases l:aW kvs k with
 | some v=>exact Zyh I3 ea ry l (.inr ⟨fv,rfl⟩) fun w' s4 I4 iX=>⟨v,_,I4,iX,q3 v l⟩
 | none=>exact Zyg I3 ea ry l fun s4 I4=>⟨z,H3,I4,rz,q4 l⟩
end
section
variable {X:Cx} {pins:List (Addr×Obj)} {σ:St} {H:Hp} {s:Shared} {a:Addr} {kvs:List (Key×V)} {A:Around} {E:Value->Shared->Prop}
theorem ZvG {Q:Value->Shared->Prop} (I:Inv X pins σ H s) (e:Rd H a (.dK kvs)) (h:∀ p s',H p=none->Inv X pins σ (upd H p (.dK kvs)) s'->Q (.ref p) s'):wpAny (model X.prog X.w) A (call (.type "dict") [.ref a]) Q E s:=by
 obtain ⟨z,hd,vs,rel,dd⟩:=kG I.aj e;refine kt_call_dict hd dd (by rw [<- rel.length];exact z) fun h' fR hs=>?_;refine h _ _ (I.aj.fresh (Ye _)) (I.laid (a:=s.heap.objs.size) (o:=.dK kvs) (t':=s.toks) (fun b q hq=>?_) (Ye _) (CT z (beq_eq_false_iff_ne.mpr (WO (Yu I.big))) rel fR));exact (hs.2 b (Yu (Yj hq))).trans (Yc _ hq)
end
section
variable {X:Cx} {pins:List (Addr×Obj)} {σ:St} {H:Hp} {s:Shared} {a:Addr} {y:V} {u:Value} {A:Around} {E:Value->Shared->Prop}
end
end L2
namespace L2
open PySem PySem.Spec PyProof.Rows
section
variable {X:Cx}
theorem Hy:ff X (.builtin "len") (fun xs H Q=>∃ a kvs,xs=[V.ref a]/\H a=some (.dK kvs)/\Q (.int kvs.length) H):=by
 intro pins s σ H xs us Q I r h;obtain ⟨a,kvs,rfl,ha,q⟩:=h;obtain ⟨u,rfl,ru⟩:=uX r
 cases ru
 exact Zy1 I (.inl ha) fun t s' I'=>⟨.int kvs.length,H,I',⟨t,rfl⟩,q⟩
end
section
variable {κ:Type} [DecidableEq κ]
theorem Zum {p:κ×V} {r:List (κ×V)} {k:κ} (e:p.1=k):hJ (p::r) k=hJ r k:=by
 unfold hJ;rw [Ybg,if_neg (by simp [e])]
theorem Zp7 {p:κ×V} {r:List (κ×V)} {k:κ} (e:¬ p.1=k):hJ (p::r) k=p::hJ r k:=by
 unfold hJ;rw [Ybg,if_pos (by simp [e])]
theorem ZrV:∀ {kvs:List (κ×V)} {k:κ},¬ k∈kvs.map (·.1)->hJ kvs k=kvs
 | [],_,_=>rfl
 | p::r,k,h=>by
  have h':¬ k∈r.map (·.1):=fun m=>by
   obtain ⟨q,hq,e⟩:=List.mem_map.mp m;exact h (List.mem_map.mpr ⟨q,List.mem_cons.mpr (Or.inr hq),e⟩)
  rw [Zp7 fun e=>h (List.mem_map.mpr ⟨p,List.mem_cons.mpr (Or.inl rfl),e⟩),ZrV h']
end
end L2
namespace L2
open PySem PySem.Spec PyProof.Rows PySem.W
section
variable {X:Cx}
theorem Zmu:qe X "str.startswith" (fun x vs H Q=>∃ a b,x=.str a/\vs=[.str b]/\Q (.bl (decide (0 + b.length<=a.length) && WL a b 0)) H):=by
 intro pins s σ H x xs v us Q I rx rs h;obtain ⟨a,b,rfl,rfl,q⟩:=h;obtain ⟨t,rfl⟩:=rx;obtain ⟨u,rfl,ru⟩:=rs.one;obtain ⟨tk,rfl⟩:=ru;exact call_gives F.slot_str_startswith (Yam _ _ _) F.entry_str_startswith (F.args_str_startswith_2 _ _) (gives_str_startswith a b t tk) ⟨.bl _,H,I,rfl,q⟩
theorem ZtM:qe X "str.index" (fun x vs H Q=>∃ a b i rest,x=.str a/\vs=[.str b]/\YX a b 0 a.length 1=i::rest/\Q (.int (i:Nat)) H):=by
 intro pins s σ H x xs v us Q I rx rs h;obtain ⟨a,b,i,rest,rfl,rfl,e,q⟩:=h;obtain ⟨t,rfl⟩:=rx;obtain ⟨u,rfl,ru⟩:=rs.one;obtain ⟨tk,rfl⟩:=ru;exact call_gives F.slot_str_index (Yam _ _ _) F.entry_str_index (F.args_str_index_2 _ _) (gives_str_index a b t tk i rest e) ⟨.int _,H,I.tok _,⟨_,rfl⟩,q⟩
def lV (a b:Str):List Str:=
 if (decide (a.length < b.length) || decide (Yaz a < Yaz b))=true then [a]
 else if (YX a b 0 a.length (a.length + 1)).isEmpty=true then [a]
 else W0 a (YX a b 0 a.length (a.length + 1)) b.length
theorem Zhs:∀ (ps:List Str) (n:Nat),Vals (ps.map V.str) (strsFrom n ps)
 | [],_=>.nil
 | p::r,n=>.cons ⟨_,rfl⟩ (Zhs r (n + 1))
theorem ZtL:qe X "str.split" (fun x vs H Q=>∃ a b,x=.str a/\vs=[.str b]/\(b.length == 0)=false/\a.length<=Ym/\(lV a b).length<=Ym/\∀ p,H p=none->Q (.ref p) (upd H p (.lst ((lV a b).map V.str)))):=by
 intro pins s σ H x xs v us Q I rx rs h;obtain ⟨a,b,rfl,rfl,hb,ha,hz,q⟩:=h;obtain ⟨t,rfl⟩:=rx;obtain ⟨u,rfl,ru⟩:=rs.one;obtain ⟨tk,rfl⟩:=ru
 have one:lV a b=[a]->EP X pins σ Q (.ref s.heap.objs.size) {s with heap:=s.heap.push {cls:=.type "list",data:=.seq [Value.str a t].toArray}}:=fun e=>by
  have qq:=q _ I.fresh;rw [e] at qq;exact ⟨.ref _,_,I.oC (t':=s.toks) (ys:=[V.str a]) (its:=[Value.str a t]) (.cons ⟨t,rfl⟩ .nil) (by show 1<=Ym;decide),rfl,qq⟩
 cases h1:(decide (a.length < b.length) || decide (Yaz a < Yaz b)) with
 | true=>exact XF F.slot_str_split (Yam _ _ _) F.entry_str_split (YbU _ _) (meets_str_split_cannot_occur a b t tk h1) (one (by unfold lV;rw [if_pos h1]))
 | false=>
  cases h2:(YX a b 0 a.length (a.length + 1)).isEmpty with
  | true=>exact XF F.slot_str_split (Yam _ _ _) F.entry_str_split (YbU _ _) (meets_str_split_not_found a b t tk h1 hb h2) (one (by unfold lV;rw [if_neg (by rw [h1];exact Yp),if_pos h2]))
  | false=>
   have e:lV a b=W0 a (YX a b 0 a.length (a.length + 1)) b.length:=by
    unfold lV;rw [if_neg (by rw [h1];exact Yp),if_neg (by rw [h2];exact Yp)]
   refine XF F.slot_str_split (Yam _ _ _) F.entry_str_split (YbU _ _) (meets_str_split_sep a b t tk h1 hb h2 ha (by rw [<- e];exact hz)) ?_;rw [<- e];exact ⟨.ref _,_,I.oC (Zhs _ _) (by rw [Yb];exact hz),rfl,q _ I.fresh⟩
def mQ (x:Str) (lo hi:Option Int):Str:=
 if ((WH lo hi 1 x.length).length == x.length)=true then x else ⟨((WH lo hi 1 x.length).filterMap (x.cps[·]?)).toArray⟩
theorem ZtA {v:Value} {o:Option Int} (p:IsPart v o):∃ q:Option (Int×Tok),v=partValue q/\q.map (·.1)=o:=by
 cases p with
 | none=>exact ⟨none,rfl,rfl⟩
 | int i t=>exact ⟨some (i,t),rfl,rfl⟩
theorem ZxD:Az X (fun x lo hi H Q=>∃ a,x=.str a/\(mQ a lo hi).length<=Ym/\Q (.str (mQ a lo hi)) H):=by
 intro pins s σ H x v vl vu lo hi sl Q I rx hs pl pu h;obtain ⟨a,rfl,hz,q⟩:=h;obtain ⟨t,rfl⟩:=rx;obtain ⟨l,rfl,rfl⟩:=ZtA pl;obtain ⟨u,rfl,rfl⟩:=ZtA pu;refine ⟨"str",_,F.slot_str_getitem.lookup,Yam _ _ _,?_⟩;refine getItem_meets (Yam s a t) (by decide) F.slot_str_getitem F.entry_str_getitem (F.args_str_getitem_2 _ _) (meets_str_getitem_slice a t sl l u none rfl) ⟨hs,?_⟩;unfold mQ at hz q;unfold sliceMade slicePicked
 by_cases hw:((WH (l.map (·.1)) (u.map (·.1)) 1 a.length).length == a.length)=true
 .rw [if_pos hw] at hz q;rw [if_pos (by show (true && _)=true;rw [Bool.true_and];exact hw)];exact ⟨.str a,H,I,⟨t,rfl⟩,q⟩
 .rw [if_neg hw] at hz q;rw [if_neg (by show ¬ (true && _)=true;rw [Bool.true_and];exact hw)];exact ⟨hz,.str _,H,I.tok _,⟨_,rfl⟩,q⟩
def PJ (X:Cx) (es:List Expr) (t:Str->St->Hp->VK->Prop):Prop:=
 ∀ (acc:Str) (pins:List (Addr×Obj)) (s:Shared) (σ:St) (H:Hp) (Q:VK),Inv X pins σ H s->t acc σ H Q->wpAny (model X.prog X.w) X.A (joinParts acc (evalEach es X.env)) (EP X pins σ Q) X.xe s
theorem xH:PJ X [] (fun acc _ H Q=>acc.length<=Ym/\Q (.str acc) H):=fun acc pins s σ H Q I h=>
 joinParts_nil ⟨.str acc,H,I.tok _,⟨_,rfl⟩,h.2⟩ h.1
theorem xI {y:Str} {j pos} {es:List Expr} {t:Str->St->Hp->VK->Prop} (h:PJ X es t):PJ X (.Constant (.str y) j pos::es) (fun acc σ H Q=>(acc++y).length<=Ym/\t (acc++y) σ H Q):=fun acc pins s σ H Q I hq=>
 joinParts_cons (Calls.Constant_str ⟨hq.1,h _ pins _ σ H Q (I.tok _) hq.2⟩)
theorem xA {e:Expr} {pos} {es:List Expr} {te:TE} {t:Str->St->Hp->VK->Prop} (he:PE X e te) (h:PJ X es t):PJ X (.FormattedValue e (-1) none pos::es) (fun acc σ H Q=>te σ H fun x H1=>∃ y,x=.str y/\y.length<=Ym/\(acc++y).length<=Ym/\t (acc++y) σ H1 Q):=by
 try unfold PE at *
 exact fun acc pins s σ H Q I hq=>by
  refine joinParts_cons (FormattedValue_plain (aH (he pins s σ H _ I hq) fun u s1 ⟨x,H1,I1,rx,y,ex,hy,hz,q1⟩=>?_));subst ex;obtain ⟨t,rfl⟩:=rx;exact formatField_str (fun t' tk=>⟨hz,h _ pins _ σ H1 Q (I1.tok _) q1⟩) hy
theorem xJ {e f:Expr} {es:List Expr} {pos:Pos} {t:Str->St->Hp->VK->Prop} (h:PJ X (e::f::es) t):PE X (.JoinedStr (e::f::es) pos) (fun σ H Q=>t Str.empty σ H Q):=by
 try unfold PE at *
 exact fun pins s σ H Q I hq=>
  JoinedStr_many (h Str.empty pins s σ H Q I hq)
theorem ZvO {bs:List Bool} {its:List Value} (r:Vals (bs.map V.bl) its) {i:Nat} {v:Value} (h:its.toArray[i]?=some v):v=.bool (bs.getD i false):=by
 have h':its[i]?=some v:=by simpa using h
 have hl:=r.length;rw [Yb] at hl
 have hi:i < bs.length:=by
  have:=(List.getElem?_eq_some_iff.mp h').1
  omega
 obtain ⟨u,e,ru⟩:=r.get (i:=i) (x:=.bl (bs.getD i false)) (by rw [Yo,Ys,Yh hi];rfl);rw [h'] at e
 cases e
 exact ru
theorem Zts (bs:List Bool):((List.range bs.length).all fun i=>bs.getD i false)=bs.all id:=by
 rw [WE,Ybh,Ybh]
 constructor
 .intro h b hb;obtain ⟨i,hi,rfl⟩:=List.mem_iff_getElem.mp hb
  have:=h i (List.mem_range.mpr hi)
  rwa [Ys,Yh hi] at this
 .intro h i hi;have hi:=List.mem_range.mp hi;rw [Ys,Yh hi];exact h _ (Ybe hi)
theorem Zr2 (hc:X.calm=true:=by rfl):ff X (.builtin "all") (fun xs H Q=>∃ (p:Addr) (bs:List Bool),xs=[.ref p]/\aq X.K H p (bs.map V.bl)/\Q (.bl (bs.all id)) H):=by
 intro pins s σ H xs us Q I r h;obtain ⟨p,bs,rfl,hp,q⟩:=h;obtain ⟨u,rfl,ru⟩:=r.one
 cases (show u=Value.ref p from ru)
 obtain ⟨its,rv,pl,hz⟩:=I.list hp;have hlen:its.toArray.size=bs.length:=by rw [Yn,<- rv.length,Yb]
 refine call_all_walk (wpAny_pyIter_list pl.isList ?_);have br:p < s.heap.objs.size:=by obtain ⟨o,ho,_⟩:=pl.isList;exact Yj ho
 refine ⟨s.heap.objs.size,_,_,_,_,_,fun i=>bs.getD i false,rfl,Walks.list (A:=X.A.in1) (I.ok.hd hc) s.heap.objs.size p (Yu br) its.toArray,⟨⟨_,Yi _ rfl,rfl,rfl⟩,pl.isList.at fun o e=>Yc _ e⟩,fun i v s' Q' E' hv hQ=>?_,fun h' tk hk=>?_⟩
 .rw [ZvO rv hv];exact WJ hQ
 .rw [hlen,Zts];exact ⟨.bl _,H,I.kept fun b o e=>hk b o (by intro z;rw [List.mem_singleton.mp z] at e;exact absurd (Yj e) (YN _)) (Yc _ e),rfl,q⟩
theorem ZvJ (hc:X.calm=true:=by rfl):ff X (.builtin "sum") (fun xs H Q=>∃ (p:Addr) (ns:List Int),xs=[.ref p]/\aq X.K H p (ns.map V.int)/\Q (.int ns.sum) H):=by
 intro pins s σ H xs us Q I r h;obtain ⟨p,ns,rfl,hp,q⟩:=h;obtain ⟨u,rfl,ru⟩:=r.one
 cases (show u=Value.ref p from ru)
 obtain ⟨its,rv,pl,hz⟩:=I.list hp;have hi:IntsAre its ns:=Zne rv;obtain ⟨xs,e⟩:=hi.allInts.items;have hn:=hi.numsOf;refine sum_intListG (xs:=xs) (I.ok.hd hc) (by rw [<- e];exact pl.isList) fun h' tk t' hk=>?_
 have hs:preSum (numAt xs) xs.size=ns.sum:=by
  rw [preSum_eq,YS (by simp),<- hn,<- nums_intItems,<- e]
 rw [hs];exact ⟨.int _,H,I.kept hk,⟨_,rfl⟩,q⟩
end
end L2
namespace L2
open PySem PySem.Spec PyProof.Rows PySem.W
def lP:HO->Bool
 | .dK _=>true
 | .dT _=>true
 | _=>false
def hR:HO->List V
 | .dK kvs=>kvs.map (·.2)
 | .dT kvs=>kvs.map (·.2)
 | _=>[]
section
variable {X:Cx} {pins:List (Addr×Obj)} {σ:St} {H:Hp} {s:Shared} {a:Addr} {o u:HO}
theorem Inv.swap (I:Inv X pins σ H s) (h:H a=some u) (new:bU X.prog X.w (upd H a o) s.heap a o) (h1:∀ x,u≠.own x) (h2:∀ xs,u≠.tup xs) (h3:∀ ps,u≠.cO ps) (h4:∀ ob v,X.aO a≠some (.bu ob v)):Inv X pins σ (upd H a o) s:=by
 have bZ:∀ b,H b=none->b≠a:=fun b n z=>by rw [z,h] at n;cases n
 refine ⟨I.ok,I.os,I.bare,⟨I.base.keep,I.base.slot,fun b ob e n hx=>?_,I.base.there,fun b xs e=>?_,fun b ob v e=>?_,fun b ps e=>?_⟩,I.loc,I.cell,?_,fun x c e=>?_,fun p z=>?_,fun b ob e=>?_,I.len⟩
 .have z:=I.base.free b ob e n hx;rw [Zf (bZ b z)];exact z
 .have z:=I.base.cI b xs e
  have:b≠a:=fun q=>by rw [q,h] at z;exact h2 xs (YB z)
  rw [Zf this];exact z
 .have:b≠a:=fun q=>h4 ob v (by rw [<- q];exact e)
  rw [Zf this];exact I.base.bV b ob v e
 .obtain ⟨more,z⟩:=I.base.ck b ps e
  have:b≠a:=fun q=>by rw [q,h] at z;exact h3 _ (YB z)
  exact ⟨more,by rw [Zf this];exact z⟩
 .rw [Zf (bZ _ I.free)];exact I.free
 .rw [Zf (bZ _ (I.bg x c e))];exact I.bg x c e
 .obtain ⟨z1,z2,z3⟩:=I.pin p z;exact ⟨z1,by rw [Zf (bZ _ z2)];exact z2,z3⟩
 .by_cases hb:b=a
  .subst hb;rw [Zb] at e
   cases e
   exact new
  .rw [Zf hb] at e;refine (I.aj b ob e).dh (fun _ _ _ q=>q) (fun c q=>?_) fun c xs q=>?_
   .rw [Zf (fun z=>by rw [z,h] at q;exact h1 _ (YB q))];exact q
   .rw [Zf (fun z=>by rw [z,h] at q;exact h2 _ (YB q))];exact q
theorem Inv.freeze (I:Inv X pins σ H s) (h:H a=some u) (d:lP u=true):∃ ob,s.heap.get? a=some ob/\Inv X pins σ (upd H a (.bu ob u)) s:=by
 obtain ⟨ob,e⟩:=(I.aj a u h).there;refine ⟨ob,e,I.swap h ⟨e,?_⟩ ?_ ?_ ?_ ?_⟩
 .refine (I.aj a u h).dh (fun _ _ _ q=>q) (fun c q=>?_) fun c xs q=>?_
  .rw [Zf (fun z=>by rw [z,h] at q;cases q;cases d)];exact q
  .rw [Zf (fun z=>by rw [z,h] at q;cases q;cases d)];exact q
 .rintro x rfl;cases d
 .rintro x rfl;cases d
 .rintro x rfl;cases d
 .intro ob' v z
  have:=I.base.bV a ob' v z
  rw [h] at this
  cases this
  cases d
theorem Inv.qW {ob:Obj} (I:Inv X pins σ H s) (h:H a=some (.bu ob u)) (d:lP u=true) (h4:∀ ob v,X.aO a≠some (.bu ob v)):Inv X pins σ (upd H a u) s:=by
 refine I.swap h ?_ (fun _ z=>nomatch z) (fun _ z=>nomatch z) (fun _ z=>nomatch z) h4;refine (I.aj a _ h).2.dh (fun _ _ _ q=>q) (fun c q=>?_) fun c xs q=>?_
 .rw [Zf (fun z=>by rw [z,h] at q;cases q)];exact q
 .rw [Zf (fun z=>by rw [z,h] at q;cases q)];exact q
theorem Inv.BK (I:Inv X pins σ H s) (h:H a=some u) (d:lP u=true):∀ ob v,X.aO a≠some (.bu ob v):=fun ob v z=>by
 have:=I.base.bV a ob v z
 rw [h] at this
 cases this
 cases d
end
def ZyA (a:Addr) (D:Ends):Ends where
 nx:=fun σ H=>∃ ob u,H a=some (.bu ob u)/\lP u=true/\D.nx σ (upd H a u)
 rt:=fun v H=>∃ ob u,H a=some (.bu ob u)/\lP u=true/\D.rt v (upd H a u)
 bk:=fun σ H=>∃ ob u,H a=some (.bu ob u)/\lP u=true/\D.bk σ (upd H a u)
 ct:=fun σ H=>∃ ob u,H a=some (.bu ob u)/\lP u=true/\D.ct σ (upd H a u)
def ZyB (t:TS):TS:=fun D σ H=>∃ a u,H a=some u/\lP u=true/\t (ZyA a D) σ H
theorem GJ {X:Cx} {st:Stmt} {t:TS} (h:PS X st t):PS X st (ZyB t):=by
 try unfold PS at *
 rintro pins s σ H D I ⟨a,u,ha,hd,q⟩
 have h4:=I.BK ha hd;refine Xd (h pins s σ H _ I q) (fun f s1 z=>?_) fun _ _ z=>z
 cases f with
 | next=>obtain ⟨aB,H',I',ob,u',e,d',q'⟩:=z;exact ⟨aB,_,I'.qW e d' h4,q'⟩
 | brk=>obtain ⟨aB,H',I',ob,u',e,d',q'⟩:=z;exact ⟨aB,_,I'.qW e d' h4,q'⟩
 | cont=>obtain ⟨aB,H',I',ob,u',e,d',q'⟩:=z;exact ⟨aB,_,I'.qW e d' h4,q'⟩
 | ret v=>obtain ⟨x,aB,H',I',r,ob,u',e,d',q'⟩:=z;exact ⟨x,aB,_,I'.qW e d' h4,r,q'⟩
theorem Zm4 {P:Program} {w:World}:∀ {es:List XG} {vs:List (Key×Value)} {kvs:List (Key×V)},Pairs (Z4 P w) es vs->KV kvs vs->Vals (kvs.map (·.2)) (es.map (·.val))
 | _,_,_,.nil,r=>by cases r;exact .nil
 | _,_,_,.cons _ e p,r=>by
  cases r with
  | cons h t=>
   refine .cons ?_ (Zm4 p t);have z:=h.2;rw [<- e] at z;exact z
theorem Zt2 {P:Program} {w:World} {H:Hp}:∀ {kvs:List (List Key×V)} {xs:List (List Key×Addr×Value)},KT H kvs xs->Vals (kvs.map (·.2)) ((xs.map (entryOfKey (WY (Z4 P w)))).map (·.val))
 | _,_,.nil=>.nil
 | _,_,.cons h t=>.cons h.2.2 (Zt2 t)
theorem C_ {P:Program} {w:World} {H:Hp} {h:Heap} {a:Addr} {u:HO} {ob:Obj} (x:bU P w H h a u) (d:lP u=true) (e:h.get? a=some ob) :
  (a == Xy)=false/\(hR u).length<=Ym/\ob.ExactDict/\∃ es ep,ob.data=.dict es ep/\Vals (hR u) (es.toList.map (·.val)):=by
 cases u with
 | dK kvs=>
  obtain ⟨z,y,vs,r,o,es,ep,e1,ex,dd,_,pr,_⟩:=x;rw [e] at e1
  cases e1
  exact ⟨y,by show (kvs.map (·.2)).length<=_;rw [Yb];exact z,ex,es,ep,dd,Zm4 pr r⟩
 | dT kvs=>
  obtain ⟨z,y,xs,r,o,es,ep,e1,ex,dd,el,_⟩:=x;rw [e] at e1
  cases e1
  refine ⟨y,by show (kvs.map (·.2)).length<=_;rw [Yb];exact z,ex,es,ep,dd,?_⟩;rw [el];exact Zt2 r
 | _=>cases d
def zH (r d:Addr):HO:=.ext fun h=>h.IsValuesView r d
section
variable {X:Cx} {pins:List (Addr×Obj)} {σ:St} {H:Hp} {s:Shared}
theorem Inv.dct {a:Addr} {u:HO} (I:Inv X pins σ H s) (h:Rd H a u) (d:lP u=true):∃ ob,s.heap.get? a=some ob/\(a == Xy)=false/\(hR u).length<=Ym/\ob.ExactDict/\∃ es ep,ob.data=.dict es ep/\Vals (hR u) (es.toList.map (·.val)):=by
 have ok:=h.ok I.aj;obtain ⟨ob,e⟩:=ok.there;exact ⟨ob,e,C_ ok d e⟩
theorem IM:qe X "dict.values" (fun x vs H Q=>∃ a u,x=.ref a/\vs=[]/\Rd H a u/\lP u=true/\∀ p,H p=none->Q (.ref p) (upd H p (zH p a))):=by
 intro pins s σ H x xs v us Q I rx rs h;obtain ⟨a,u,rfl,rfl,ha,hd,q⟩:=h
 cases (show v=Value.ref a from rx)
 have:=rs.zero
 subst this;obtain ⟨ob,e,hs,_,ex,es,ep,dd,_⟩:=I.dct ha hd;have hT:s.TypeIs (.ref a) "dict":=⟨ob,e,ex.1⟩
 have m:Meets (Builtin.«dict.values» ⟨[.ref a],[]⟩) (fun _ R s=>s.TypeIs (.ref a) "dict"/\R (.ok (.ret (.ref s.heap.objs.size))) {s with heap:=s.heap.push {cls:=.type "dict_values",data:=.fields #[.ref a]}}):=
  .of_wp fun P2 w2 A2 R2 s2 ⟨Ew,k2⟩=>by
   refine Ya ?_;unfold Builtin.Dict.noArgs;refine Ya (YbA Ew ?_);show wpAny _ _ (pure a) _ _ s2;refine Yd ?_;show wpAny _ _ (X6 a >>= _) _ _ s2;unfold X6;rw [if_neg (by rw [hs];exact Yp)];exact Ya (Yd (Ya (YF (Yd ⟨_,rfl,k2⟩))))
 refine XF F.slot_dict_values hT F.entry_dict_values (F.args_dict_values_1 _) m ⟨hT,?_⟩;refine ⟨.ref _,upd H s.heap.objs.size (zH s.heap.objs.size a),I.laid (t':=s.toks) (fun b ob q=>Yc _ q) (Ye _) ?_,rfl,q _ I.fresh⟩;refine ⟨⟨_,Yi _ rfl,rfl,rfl⟩,⟨_,Yi _ rfl⟩,fun h1 h2 ⟨o,e1,e2⟩ k=>⟨o,k o e1,e2⟩⟩
theorem ZqC {r d:Addr} {ob:Obj} {es:Array XG} {ep:Nat} {Q:Value->Shared->Prop} {A:Around} {E:Value->Shared->Prop} (v:s.heap.IsValuesView r d) (e:s.heap.get? d=some ob) (dd:ob.data=.dict es ep)
  (q:Q (.ref s.heap.objs.size) {s with heap:=s.heap.push {cls:=.type "dict_valueiterator",data:=.fields #[.ref d,.int 0 0,.int es.size 0,.int ep 0]}}):wpAny (model X.prog X.w) A (pyIter (.ref r)) Q E s:=by
 have tv:=v.typeIs;obtain ⟨oV,e1,c1,d1⟩:=v;refine wpAny_pyIter_slot tv F.slot_dict_values_iter (YK F.slot_dict_values_iter tv F.entry_dict_values_iter ?_ (F.args_dict_values_iter_1 _));unfold Builtin.«dict_values.__iter__» Builtin.Dict_items.dictOf Builtin.Dict_items.newIterator;refine Ya (Yd (Ya (Ya (Y3 e1 d1 (x:=.ref d) rfl (Yd ?_)))));refine Ya (Ya (Xt e dd (Ya (XR e dd ?_))));rw [show YZ "dict_valueiterator"=false from by decide]
 simp only [YQ,if_false]
 exact YF (Yd ⟨_,rfl,"dict_valueiterator",_,⟨_,Yi _ rfl,rfl⟩,F.slot_dict_valueiterator_next.lookup,by simpa [X7] using q⟩)
theorem Df {it:Addr} {Q:String->Shared->Prop} {A:Around} {E:Value->Shared->Prop} (ty:s.TypeIs (.ref it) "dict_valueiterator") (q:Q "dict_valueiterator" s):wpAny (model X.prog X.w) A (typeNameOfWhole (.ref it)) Q E s:=wpAny_typeNameOfWhole_valiter ty q
theorem Zwl {it d:Addr} {ob:Obj} {es:Array XG} {ep i:Nat} {x:XG} {Q:Option Value->Shared->Prop} {A:Around} {E:Value->Shared->Prop} (v:s.heap.IsValIter it d i es.size ep) (e:s.heap.get? d=some ob) (dd:ob.data=.dict es ep)
  (hx:es[i]?=some x) (q:∀ h',h'.IsValIter it d (i + 1) es.size ep->Xx it s.heap h'->Q (some x.val) {s with heap:=h'}):wpAny (model X.prog X.w) A (W8 (.ref it)) Q E s:=by
 have ty:=v.typeIs;obtain ⟨oI,e1,c1,d1⟩:=v;have hi:i < es.size:=(Array.getElem?_eq_some_iff.mp hx).1
 have up:(s.heap.update it (Ya4 (·.setIfInBounds 1 (X7 ((i:Int) + 1))))).IsValIter it d (i + 1) es.size ep:=
  ⟨_,Yai _ e1 (YbC (Wx d1 _)),(Obj.cls_mapFields ..).trans c1,by rw [Wx d1];simp [X7]⟩
 unfold W8;refine Ya (XH (YJ (name:=Y9 "__next__") ty Wl (YK Wl ty F.entry_dict_valueiterator_next ?_ (F.args_dict_valueiterator_next_1 _))));refine Ya (Yd (Ya (Ya (Ya (Df ty (Yd (Ya (Yad e1 d1 ?_))))))));rw [show YZ "dict_valueiterator"=false from by decide]
 simp only [YQ,if_false]
 show wpAny _ _ (if (Value.ref d == Value.none)=true then _ else _) _ _ s;rw [if_neg (show ¬ ((Value.ref d == Value.none)=true) by exact Yp)];refine Ya (Yd (Ya (Xt e dd ?_)));rw [if_neg (show ¬ ((((es.size:Nat):Int) != ((es.size:Nat):Int))=true) by simp)];refine Ya (Yd (Ya (XR e dd ?_)));rw [if_neg (show ¬ ((((ep:Nat):Int) != ((ep:Nat):Int))=true) by simp)];refine Yd ?_;have yR:es[i]=x:=by rw [YI hi] at hx;exact YB hx
 simp only [show ¬ ((i:Int) < 0) by omega,if_false,Xc,YI hi]
 refine Ya (Ya (Df ty (Yd (Ya (YbB ty ?_)))));show wpAny _ _ (setField (.ref it) 1 (X7 ((i:Int) + 1)) >>= _) _ _ s;refine Ya (WQ e1 d1 (by simp) (Ya (Y6 ?_)));refine Ya (YbB (s:={s with heap:=s.heap.update it (Ya4 (·.setIfInBounds 1 (X7 ((i:Int) + 1))))}) up.typeIs (Ya (YbB (s:={s with heap:=s.heap.update it (Ya4 (·.setIfInBounds 1 (X7 ((i:Int) + 1))))}) up.typeIs ?_)));show wpAny _ _ (pure es[i].val) _ _ _;rw [yR];exact Yd (Yd ⟨_,rfl,Yd (q _ up (XW ..))⟩)
theorem Zxp {it d:Addr} {ob:Obj} {es:Array XG} {ep i:Nat} {Q:Option Value->Shared->Prop} {A:Around} {E:Value->Shared->Prop} (hA:A.handled=none) (v:s.heap.IsValIter it d i es.size ep) (e:s.heap.get? d=some ob) (dd:ob.data=.dict es ep)
  (hx:es.size<=i) (q:∀ h',Heap.ExtBut it s.heap h'->Q none {s with heap:=h'}):wpAny (model X.prog X.w) A (W8 (.ref it)) Q E s:=by
 have ty:=v.typeIs;obtain ⟨oI,e1,c1,d1⟩:=v;unfold W8;refine Ya (XH (YJ (name:=Y9 "__next__") ty Wl (YK Wl ty F.entry_dict_valueiterator_next ?_ (F.args_dict_valueiterator_next_1 _))));refine Ya (Yd (Ya (Ya (Ya (Df ty (Yd (Ya (Yad e1 d1 ?_))))))));rw [show YZ "dict_valueiterator"=false from by decide]
 simp only [YQ,if_false]
 show wpAny _ _ (if (Value.ref d == Value.none)=true then _ else _) _ _ s;rw [if_neg (show ¬ ((Value.ref d == Value.none)=true) by exact Yp)];refine Ya (Yd (Ya (Xt e dd ?_)));rw [if_neg (show ¬ ((((es.size:Nat):Int) != ((es.size:Nat):Int))=true) by simp)];refine Ya (Yd (Ya (XR e dd ?_)));rw [if_neg (show ¬ ((((ep:Nat):Int) != ((ep:Nat):Int))=true) by simp)];refine Yd ?_
 simp only [show ¬ ((i:Int) < 0) by omega,if_false,Xc,Ybo hx]
 refine Ya (Ya (Df ty (Yd ?_)));show wpAny _ _ (setField (.ref it) 0 .none >>= _) _ _ s;refine Ya (WQ e1 d1 (by simp) ?_);show wpAny _ _ (newExc (.type "StopIteration") [] >>= _) _ _ _;refine Ya ?_;simp only [newExc,newTuple];refine Ya (YF (Ya (m:=Ws _ _) (wpAny_of_eq (a:=Value.none) (by first | rfl | (simp only [Ws];rfl)) ?_)) (by size_fits));refine YF ?_ (by size_fits);simp only [raiseNew];refine Ya (wpAny_handled ?_);rw [show A.in1.handled=none from hA];refine Ya (Yd (wpAny_throw ?_));refine Ya (Yak (T:="StopIteration") (b:=true) ⟨_,Yi _ rfl,rfl⟩ YaG ?_);exact Yd (q _ (((XW ..).extBut.push _).push _))
end
def AD (d:Addr) (ob:Obj) (u:HO):It:=
 ⟨fun i H=>H d=some (.bu ob u)/\i < (hR u).length,fun i H x H'=>H'=H/\(hR u)[i]?=some x,fun i H=>H d=some (.bu ob u)/\(hR u).length<=i⟩
theorem Zta {P:Program} {w:World} {K:Yf} {tg:Expr} (d it:Addr) (ob:Obj) (u:HO) (es:Array XG) (ep:Nat) (hd:lP u=true) (dd:ob.data=.dict es ep) :
  Turn P w K tg (AD d ob u) [it] it (fun i h=>h.IsValIter it d i es.size ep) where
 mem:=by simp
 obj:=fun i h st b hb=>by
  have e:b=it:=by simpa using hb
  subst e;obtain ⟨o,e,c,q⟩:=st;exact ⟨o,e,fun v z=>by rw [q] at z;cases z⟩
 keep:=fun i h h' st k=>st.at fun o e=>k it (by simp) o e
 item:=by
  intro X hP hw hK hc i pins s σ H E I hf st hg;subst hP hw hK;obtain ⟨hH,hi⟩:=hg;obtain ⟨e,ok⟩:=I.aj d _ hH;obtain ⟨_,_,_,es',uS,fR,rv⟩:=C_ ok hd e;rw [dd] at fR
  cases fR
  have hl:(hR u).length=es.size:=by rw [rv.length,Yb,YH]
  obtain ⟨f0,f1,f2,f3,f4,f5⟩:=hf it (by simp);have hx:es[i]?=some es[i]:=YI (by omega);refine Zwl st e dd hx fun h' fP sb=>?_;have I1:Inv X pins σ H {s with heap:=h'}:=I.turned (t':=s.toks) (fun b o hb e=>(sb.2 b hb).trans e) f0 f1 f3 f4 f5;obtain ⟨v,hv⟩:∃ v,(hR u)[i]?=some v:=⟨_,Yh hi⟩
  obtain ⟨uv,huv,ruv⟩:=rv.get hv
  have:uv=es[i].val:=by
   rw [Yo,XB,hx] at huv;exact (YB huv).symm
  subst this;obtain ⟨o,e2,c,q⟩:=id fP;exact ⟨_,rfl,CB (s:={s with heap:=h'}) e2 c q (by decide) ⟨v,H,I1,ruv,⟨rfl,hv⟩,fP,fun b hb=>(hf b hb).1⟩⟩
 done:=by
  intro X hP hw hK hc i pins s σ H E I hf st hg;subst hP hw hK;obtain ⟨hH,hi⟩:=hg;obtain ⟨e,ok⟩:=I.aj d _ hH;obtain ⟨_,_,_,es',uS,fR,rv⟩:=C_ ok hd e;rw [dd] at fR
  cases fR
  have hl:(hR u).length=es.size:=by rw [rv.length,Yb,YH]
  obtain ⟨f0,f1,f2,f3,f4,f5⟩:=hf it (by simp);exact Zxp (I.ok.hd hc) st e dd (by omega) fun h' eb=>⟨rfl,I.turned (t':=s.toks) (fun b o hb e=>eb b o hb e) f0 f1 f3 f4 f5⟩
 self:=fun _ _ _ _ _ st h=>wpAny_pyIter_valiter st h
def ZyT (tl:TE):TI:=fun σ H R=>tl σ H fun x H1=>∃ r d u,x=.ref r/\H1 r=some (zH r d)/\H1 d=some u/\lP u=true/\∀ ob,R (AD d ob u) (upd H1 d (.bu ob u))
theorem Ztw {X:Cx} {tg l:Expr} {tl:TE} (hl:PE X l tl):PI X tg l (ZyT tl):=by
 try unfold PE at *
 intro pins s σ H R I h;refine aH (hl pins s σ H _ I h) fun v s1 ⟨x,H1,I1,r1,r,d,u,ex,hr,hd,hu,q⟩=>?_;subst ex
 cases (show v=Value.ref r from r1)
 have hv:s1.heap.IsValuesView r d:=(I1.aj r _ hr).1;obtain ⟨ob,e,I2⟩:=I1.freeze hd hu;obtain ⟨_,_,_,es,ep,dd,_⟩:=C_ (I1.aj d u hd) hu e;refine ZqC hv e dd ?_;refine ⟨s1.heap.objs.size,[s1.heap.objs.size],_,_,_,rfl,I2.kept (t':=s1.toks) fun b o e=>Yc _ e,Zta d _ ob u es ep hu dd,⟨_,Yi _ rfl,rfl,rfl⟩,fun b hb=>?_,q ob⟩;have e:b=s1.heap.objs.size:=by simpa using hb
 subst e;exact I2.jf (Ye _) (I2.aj.fresh (Ye _))
end L2
namespace L2
open PySem PySem.Spec PyProof.Rows PySem.W
def uZ (H:Hp) (ys:List V) (Q:VK):Prop:=∀ p H',ag H H'->H' p=some (.tup ys)->Q (.ref p) H'
theorem uZ.old {H:Hp} {ys:List V} {Q:VK} {p:Addr} (h:uZ H ys Q) (e:H p=some (.tup ys)):Q (.ref p) H:=h p H (ag.refl _) e
theorem uZ.new {H:Hp} {ys:List V} {Q:VK} {p:Addr} (h:uZ H ys Q) (e:H p=none):Q (.ref p) (upd H p (.tup ys)):=h p _ (Zj e) Zb
section
variable {X:Cx}
theorem Zsi (l b:Addr) (ws:Array Value) (n n2:Nat) (dd xm:Option Addr) (sl kP:Array (Option Value)) :
  Meets (Builtin.«tuple.__add__» ⟨[.ref l,.ref b],[]⟩) (fun _ R s=>s.heap.get? l=some {cls:=.type "tuple",dict:=dd,data:=.seq #[] n,slots:=sl}/\s.heap.get? b=some {cls:=.type "tuple",dict:=xm,data:=.seq ws n2,slots:=kP}/\R (.ok (.ret (.ref b))) s):=
 .of_wp fun prog w A R s h=>by
  obtain ⟨hp,g,d,tk,os⟩:=s;obtain ⟨hl,hb,h⟩:=h;have f0:=AutoSeq1.sub_tuple_tuple
  wp_walk
  exact ⟨_,rfl,h⟩
inductive oU (K:Frag) (x:V) (y:V) (H:Hp) (Q:VK):Prop
 | mk (a:_) (b:_) (xs:_) (ys:_):x=.ref a->y=.ref b->aF K H a xs->aF K H b ys->(xs=[]->H b=some (.tup ys))->(ys=[]->xs≠[]->H a=some (.tup xs))->xs.length + ys.length<=Ym->uZ H (xs++ys) Q->oU K x y H Q
theorem kK:dU X (Wv .Add) (oU X.K):=by
 intro pins s σ H x y v u Q I rx ry h;obtain ⟨a,b,xs,ys,rfl,rfl,ha,hb,e1,e2,hz,q⟩:=h
 by_cases hx:xs=[]
 .subst hx
  cases rx
  cases ry
  obtain ⟨its,r1,⟨o1,g1,c1,n1,d1⟩,_⟩:=I.tuple ha;obtain ⟨h9,r2,⟨o2,g2,c2,n2,d2⟩,_⟩:=I.tuple hb;have hn:=r1.zero;subst hn;obtain ⟨cls,dd,data,sl⟩:=o1;obtain ⟨M8,xm,data2,kP⟩:=o2;dsimp only at c1 d1 c2 d2;subst c1 d1 c2 d2;exact concat_meets ⟨_,g1,rfl⟩ ⟨_,g2,rfl⟩ noFill_tuple_add seq_tuple_add Ybk Ybb (Ya0 _ _) (Zsi a b h9.toArray n1 n2 dd xm sl kP) ⟨g1,g2,.ref b,H,I,rfl,q.old (e1 rfl)⟩
 .refine ZwI pins s σ H _ _ v u Q I rx ry ⟨a,b,xs,ys,rfl,rfl,ha,hb,hx,hz,fun z=>?_,fun z p hp=>q.new hp⟩;have q':=q;rw [z,Xf] at q';exact q'.old (e2 z hx)
theorem Zsz {t sl:Addr} {items:Array Value} {vl vu:Value} {lo hi:Option Int} {Q:Value->Shared->Prop} {prog:Program} {w:World} {A:Around} {E:Value->Shared->Prop} {s:Shared} (ht:IsTup s.heap t items) (hs:s.heap.IsSliceOf sl vl vu .none) (pl:IsPart vl lo) (pu:IsPart vu hi)
  (hw:HT.a_ items.size 0 lo=0/\HT.a_ items.size items.size hi=items.size) (h:Q (.ref t) s):wpAny (model prog w) A (getItem (.ref t) (.ref sl)) Q E s:=by
 obtain ⟨oS,gS,cS,dS⟩:=id hs;have tyS:s.TypeIs (.ref sl) "slice":=⟨oS,gS,cS⟩
 unfold getItem
 try with_reducible refine Y6 ?_
 first | refine Ya (Yd ?_) | skip
 refine Ya (wpAny_sequenceKey ht.typeIs (by decide) (Ya (YJ (name:=Y9 "__getitem__") ht.typeIs Wh (YK Wh ht.typeIs entry_tuple_getitem ?_ (args_tuple_getitem _ _)))));show wpAny _ _ (Builtin.Tuple.tupleItemsOf (.ref t) >>= _) _ _ s;refine Ya (tupleItemsOf_ ht (Ya (wpAny_typeOf tyS ?_)));rw [if_pos (by decide)];refine Ya (HT.cf hs pl pu ?_)
 have yes:(((HT.a_ items.size 0 lo:Nat):Int) == 0 && (1:Int) == 1 && (HT.a_ items.size items.size hi - HT.a_ items.size 0 lo) == items.size)=true:=by
  rw [hw.1,hw.2]
  simp
 show wpAny _ _ (if (((HT.a_ items.size 0 lo:Nat):Int) == 0 && (1:Int) == 1 && (HT.a_ items.size items.size hi - HT.a_ items.size 0 lo) == items.size)=true then _ else _) _ _ s;rw [if_pos yes];refine Ya ?_;unfold Builtin.Tuple.tupleIsExact;refine Ya (wpAny_typeOf ht.typeIs (Yd ?_));rw [if_pos (by decide)];refine Ya (wpAny_rule (Ya (Yd (Yd ⟨_,rfl,Yd h⟩))))
inductive AU (K:Frag) (x:V) (lo:Option Int) (hi:Option Int) (H:Hp) (Q:VK):Prop
 | mk (a:_) (xs:_):x=.ref a->H a=some (.tup xs)->uZ H (bD xs lo hi) Q->AU K x lo hi H Q
theorem ZsT {xs:List V} {lo hi:Option Int} (h:HT.a_ xs.length 0 lo=0/\HT.a_ xs.length xs.length hi=xs.length):bD xs lo hi=xs:=by
 unfold bD;rw [h.1,h.2,YaI,Nat.sub_zero,XE]
theorem xM:Az X (AU X.K):=by
 intro pins s σ H x v vl vu lo hi sl Q I rx hs pl pu h;obtain ⟨a,xs,rfl,ha,q⟩:=h
 by_cases hw:HT.a_ xs.length 0 lo=0/\HT.a_ xs.length xs.length hi=xs.length
 .cases rx
  obtain ⟨its,r,ht,hz⟩:=I.tuple (aF.of ha);have hlen:its.toArray.size=xs.length:=by rw [Yn];exact r.length.symm
  refine ⟨"tuple",_,PyProof.Rows.slot_tuple_getitem.lookup,ht.typeIs,Zsz ht hs pl pu (by rw [hlen];exact hw) ⟨.ref a,H,I,rfl,?_⟩⟩;rw [ZsT hw] at q;exact q.old ha
 .exact ZxC pins s σ H _ v vl vu lo hi sl Q I rx hs pl pu ⟨a,xs,rfl,aF.of ha,hw,fun p hp=>q.new hp⟩
theorem Zsg (l:Addr) (items:Array Value) (n:Nat) (dd:Option Addr) (sl:Array (Option Value)) (u:Tok) :
  Meets (Builtin.«tuple.__mul__» ⟨[.ref l,.int 1 u],[]⟩) (fun _ R s=>s.heap.get? l=some {cls:=.type "tuple",dict:=dd,data:=.seq items n,slots:=sl}/\R (.ok (.ret (.ref l))) s):=
 .of_wp fun prog w A R s h=>by
  obtain ⟨hp,g,d,tk,os⟩:=s;obtain ⟨hl,h⟩:=h;have w_:¬(decide ((1:Int) < -2 ^ 63) || decide ((1:Int) >= 2 ^ 63))=true:=by decide
  have iw:(items.isEmpty || (1:Int) == 1)=true:=by rw [Xz];exact .inr rfl
  wp_walk
  exact ⟨_,rfl,h⟩
theorem Zsh (l:Addr) (items:Array Value) (n:Nat) (dd:Option Addr) (sl:Array (Option Value)) (k:Int) (u:Tok) (bZ:items.isEmpty=false) (h1:k<=0) (h2:-(2 ^ 63)<=k) :
  Meets (Builtin.«tuple.__mul__» ⟨[.ref l,.int k u],[]⟩) (fun _ R s=>s.heap.get? l=some {cls:=.type "tuple",dict:=dd,data:=.seq items n,slots:=sl}/\R (.ok (.ret (.ref s.heap.objs.size))) {s with heap:=s.heap.push {cls:=.type "tuple",data:=.seq #[]}}):=
 .of_wp fun prog w A R s h=>by
  obtain ⟨hp,g,d,tk,os⟩:=s;obtain ⟨hl,h⟩:=h
  have w_:¬(decide (k < -2 ^ 63) || decide (k >= 2 ^ 63))=true:=by
   rw [Xz,decide_eq_true_eq,decide_eq_true_eq];omega
  have iw:¬(items.isEmpty || k == 1)=true:=by
   rw [bZ,Ya8,beq_iff_eq];omega
  have jO:(decide (k<=0) || items.isEmpty)=true:=by
   rw [bZ,Xs,decide_eq_true_eq];exact h1
  wp_walk
  rw [if_neg w_]
  wp_walk
  rw [if_neg iw]
  wp_walk
  exact ⟨_,rfl,h⟩
inductive tJ (x:V) (y:V) (H:Hp) (Q:VK):Prop
 | mk (l:_) (k:_) (xs:_):x=.ref l->y=.int k->H l=some (.tup xs)->xs≠[]->-(2 ^ 63)<=k->k < 2 ^ 63->xs.length * k.toNat<=Ym->uZ H (List.replicate k.toNat xs).flatten Q->tJ x y H Q
theorem zQ:dU X (Wv .Mult) tJ:=by
 intro pins s σ H x y v u Q I rx ry h;obtain ⟨l,k,xs,rfl,rfl,hH,bZ,h1,h2,hz,q⟩:=h
 by_cases hk:1 < k
 .exact ZtB pins s σ H _ _ v u Q I rx ry ⟨l,k,xs,rfl,rfl,hH,bZ,hk,h2,hz,fun p hp=>q.new hp⟩
 .cases rx
  obtain ⟨t,rfl⟩:=ry;obtain ⟨z,its,r,o,e,hc,n,hd⟩:=(show bU X.prog X.w H s.heap l (.tup xs) from I.aj l _ hH)
  obtain ⟨cls,dd,data,sl⟩:=o;dsimp only at hc hd;subst hc hd
  have wb:its.toArray.isEmpty=false:=by
   cases its with
   | nil=>cases r;exact absurd rfl bZ
   | cons _ _=>rfl
  by_cases Co:k=1
  .subst Co
   refine YaL (T:="tuple") (U:="int") (by decide) ⟨_,e,rfl⟩ (fun s'=>YaJ s' 1 t) Lg F.fills_int_mul W7 JL F.slot_int_index.lookup
    (XF W7 (YaJ s 1 t) F.entry_int_rmul (F.args_int_rmul_2 _ _) (K8 1 t l its.toArray n dd sl)
     ⟨e,rfl,⟨_,e,rfl⟩,XF F.slot_tuple_mul ⟨_,e,rfl⟩ F.entry_tuple_mul (YbT _ _) (Zsg l its.toArray n dd sl t) ⟨e,.ref l,H,I,rfl,?_⟩⟩)
   have e1:(List.replicate (1:Int).toNat xs).flatten=xs:=by
    show (List.replicate 1 xs).flatten=xs
    simp
   rw [e1] at q;exact q.old hH
  .have h0:k<=0:=by omega
   refine YaL (T:="tuple") (U:="int") (by decide) ⟨_,e,rfl⟩ (fun s'=>YaJ s' k t) Lg F.fills_int_mul W7 JL F.slot_int_index.lookup
    (XF W7 (YaJ s k t) F.entry_int_rmul (F.args_int_rmul_2 _ _) (K8 k t l its.toArray n dd sl)
     ⟨e,rfl,⟨_,e,rfl⟩,XF F.slot_tuple_mul ⟨_,e,rfl⟩ F.entry_tuple_mul (YbT _ _) (Zsh l its.toArray n dd sl k t wb h0 h1) ⟨e,?_⟩⟩)
   have e0:(List.replicate k.toNat xs).flatten=[]:=by
    rw [show k.toNat=0 by omega];rfl
   rw [e0] at q;exact ⟨.ref _,_,I.AI (t':=s.toks) (ys:=[]) (its:=[]) .nil (Yv _),rfl,q.new I.fresh⟩
end
end L2
namespace L2
open PySem PySem.Spec PyProof.Rows PySem.W
section
variable {X:Cx} {pins:List (Addr×Obj)} {σ:St} {H:Hp} {s:Shared}
theorem Gr {P:Program} {w:World} {k:Key} {v:Value} (h:(Z4 P w).is k v=true):RelV (kV k) v:=by
 cases k with
 | inl i=>exact Value.isInt_shape h
 | inr x=>exact Value.isStrOf_shape h
theorem xN:∀ {xs:List V} {us:List Value},xs.length=us.length->(∀ (j:Nat) (x:V) (u:Value),xs[j]?=some x->us[j]?=some u->RelV x u)->Vals xs us
 | [],[],_,_=>.nil
 | x::xs,u::us,hl,h=>.cons (h 0 x u rfl rfl) (xN (by simpa using hl) fun j y w a b=>h (j + 1) y w (by simpa using a) (by simpa using b))
 | [],_::_,hl,_=>by simp at hl
 | _::_,[],hl,_=>by simp at hl
theorem Inv.kY {a:Addr} {h':Heap} {t' c:Nat} {ys:List V} {its:Array Value} (I:Inv X pins σ H s) (hk:∀ b o,s.heap.get? b=some o->h'.get? b=some o) (ha:s.heap.objs.size<=a) (he:h'.get? a=some {cls:=.type "list",data:=.seq its c}) (r:Vals ys its.toList) (hz:ys.length<=Ym) :
  Inv X pins σ (upd H a (.lst ys)) {s with heap:=h',toks:=t'}:=I.laid hk ha ⟨hz,its.toList,c,r,by rw [Array.toArray_toList];exact he⟩
theorem Zno (hc:X.calm=true:=by rfl):ff X (.type "list") (fun xs H Q=>∃ p kvs,xs=[.ref p]/\Rd H p (.dK kvs)/\∀ l,H l=none->Q (.ref l) (upd H l (.lst (kvs.map fun q=>kV q.1)))):=by
 intro pins s σ H xs us Q I r h;obtain ⟨p,kvs,rfl,hp,q⟩:=h;obtain ⟨u,rfl,ru⟩:=r.one
 cases (show u=Value.ref p from ru)
 obtain ⟨hz,hs,vs,rel,dd⟩:=kG I.aj hp;obtain ⟨ep,bP⟩:=dd.dictAt;refine kdl_call (kdl_dict (knd:=Z4 X.prog X.w) (kvs:=vs) (ep:=ep) hs) (I.ok.hd hc) bP (by rw [<- rel.length];exact hz) fun h' tk acc c hk he hi=>?_;refine ⟨.ref _,_,I.kY hk (Ye _) he (xN ?_ fun j x w hx hw=>?_) (by rw [Yb];exact hz),rfl,q _ I.fresh⟩
 .have e3:acc.toList.length=acc.size:=YH;rw [Yb,e3,hi.1,rel.length]
 .obtain ⟨k,y,hy,w6⟩:=hi.2 j w (by rw [<- XB];exact hw);have e1:(kvs.map (·.1))[j]?=some k:=by rw [rel.keys,Yo,hy];rfl
  have e2:x=kV k:=by
   rw [Yo] at hx e1
   cases e:kvs[j]? with
   | none=>rw [e] at hx;cases hx
   | some z=>
    rw [e] at hx e1
    cases hx
    cases e1
    rfl
  rw [e2];exact Gr w6
theorem ZsW (hc:X.calm=true:=by rfl):ff X (.type "list") (fun xs H Q=>∃ p d kvs,xs=[.ref p]/\H p=some (zH p d)/\Rd H d (.dK kvs)/\∀ l,H l=none->Q (.ref l) (upd H l (.lst (kvs.map fun q=>q.2)))):=by
 intro pins s σ H xs us Q I r h;obtain ⟨p,d,kvs,rfl,hp,hd,q⟩:=h;obtain ⟨u,rfl,ru⟩:=r.one
 cases (show u=Value.ref p from ru)
 have hv:s.heap.IsValuesView p d:=(I.aj p _ hp).1;obtain ⟨hz,hs,vs,rel,dd⟩:=kG I.aj hd;obtain ⟨ep,bP⟩:=dd.dictAt;refine kdl_call (kdl_values (knd:=Z4 X.prog X.w) (kvs:=vs) (ep:=ep)) (I.ok.hd hc) ⟨hv,bP⟩ (by rw [<- rel.length];exact hz) fun h' tk acc c hk he hi=>?_;refine ⟨.ref _,_,I.kY hk (Ye _) he (xN ?_ fun j x w hx hw=>?_) (by rw [Yb];exact hz),rfl,q _ I.fresh⟩
 .have e3:acc.toList.length=acc.size:=YH;rw [Yb,e3,hi.1,rel.length]
 .obtain ⟨k,hy⟩:=hi.2 j w (by rw [<- XB];exact hw)
  have:∀ {a:List (Key×V)} {b:List (Key×Value)},KV a b->∀ (j:Nat) (x:V),(a.map fun q=>q.2)[j]?=some x->b[j]?=some (k,w)->RelV x w:=by
   intro a b r;unfold KV at r
   induction r with
   | nil=>intro j x hx _;simp at hx
   | cons h t ih=>
    intro j x hx hb
    cases j with
    | zero=>
     simp at hx hb
     subst hx
     have:=h.2
     rw [hb] at this;exact this
    | succ j=>exact ih j x (by simpa using hx) (by simpa using hb)
  exact this rel j x hx hy
theorem ZpS:∀ {ns:List Int} {vs:List Value},IntsAre vs ns->Vals (ns.map V.int) vs
 | [],_,h=>by rw [h.nil_inv];exact .nil
 | n::r,_,h=>by
  obtain ⟨t,vs',rfl,h'⟩:=h.cons_inv;exact .cons ⟨t,rfl⟩ (ZpS h')
theorem Zqi:ff X (.builtin "sorted") (fun xs H Q=>∃ (p:Addr) (ns:List Int),xs=[.ref p]/\aq X.K H p (ns.map V.int)/\ns.length < 64/\∀ (l:Addr) (ms:List Int),H l=none->ms.Perm ns->ms.Pairwise (·<=·)->Q (.ref l) (upd H l (.lst (ms.map V.int)))):=by
 intro pins s σ H xs us Q I r h;obtain ⟨p,ns,rfl,hp,jF,q⟩:=h;obtain ⟨u,rfl,ru⟩:=r.one
 cases (show u=Value.ref p from ru)
 obtain ⟨its,rv,pl,hz⟩:=I.list hp;have hi:IntsAre its ns:=Zne rv;have hl:its.length < 64:=by rw [<- rv.length,Yb];exact jF
 refine sorted_ints pl.isList hi hl fun out ms a1 a2 a3=>?_;obtain ⟨e,he⟩:=sortedAll_at s.heap its out;refine ⟨.ref _,_,I.kY (t':=s.toks) (fun _ _=>sortedAll_old) (Wz _) he (ZpS a1) ?_,rfl,q _ ms (I.aj.fresh (Wz _)) a2 a3⟩;rw [Yb,a2.length_eq]
 have:(64:Nat)<=Ym:=by decide
 omega
theorem Hk:∀ {xs:List Str} {us:List Value},Vals (xs.map V.str) us->StrsAre us xs
 | [],_,r=>by cases r;exact .nil
 | x::xs,_,r=>by
  cases r with
  | cons h t=>
   obtain ⟨tk,rfl⟩:=h;exact .cons x tk (Hk t)
theorem Zo5:∀ {xs:List Str} {us:List Value},StrsAre us xs->Vals (xs.map V.str) us
 | _,_,.nil=>.nil
 | _,_,.cons y t h=>.cons ⟨t,rfl⟩ (Zo5 h)
theorem Zqg:ff X (.builtin "sorted") (fun xs H Q=>∃ (p:Addr) (ns:List Str),xs=[.ref p]/\aq X.K H p (ns.map V.str)/\ns.length < 64/\∀ (l:Addr) (ms:List Str),H l=none->ms.Perm ns->sortedS ms=true->Q (.ref l) (upd H l (.lst (ms.map V.str)))):=by
 intro pins s σ H xs us Q I r h;obtain ⟨p,ns,rfl,hp,jF,q⟩:=h;obtain ⟨u,rfl,ru⟩:=r.one
 cases (show u=Value.ref p from ru)
 obtain ⟨its,rv,pl,hz⟩:=I.list hp;have hl:its.length < 64:=by rw [<- rv.length,Yb];exact jF
 refine sorted_strs pl.isList (Hk rv) hl fun out ms a1 a2 a3=>?_;obtain ⟨e,he⟩:=sortedAll_at s.heap its out;refine ⟨.ref _,_,I.kY (t':=s.toks) (fun _ _=>sortedAll_old) (Wz _) he (Zo5 a1) ?_,rfl,q _ ms (I.aj.fresh (Wz _)) a2 a3⟩;rw [Yb,a2.length_eq]
 have:(64:Nat)<=Ym:=by decide
 omega
end
end L2
namespace L2
open PySem PySem.Spec PyProof.Rows PySem.W
def ZB {α:Type} (lt:Nat->Nat->Bool):KasT α->α
 | .ret a=>a
 | .ask i j k=>ZB lt (k (lt i j))
def fh {α:Type} (n:Nat) (R:α->Prop):KasT α->Prop
 | .ret a=>R a
 | .ask i j k=>i < n/\j < n/\∀ b,fh n R (k b)
theorem fh.bind {α β:Type} {n:Nat} {R:α->Prop} {S:β->Prop} {f:α->KasT β} (hf:∀ a,R a->fh n S (f a)):∀ {t:KasT α},fh n R t->fh n S (t.bind f)
 | .ret a,h=>hf a h
 | .ask i j k,h=>⟨h.1,h.2.1,fun b=>fh.bind hf (h.2.2 b)⟩
def bN (n:Nat) (p:Array Nat):Prop:=p.Perm (Yag (List.range n))
theorem bN.lt {n:Nat} {p:Array Nat} (h:bN n p) (x:Nat) (hx:x∈p):x < n:=by
 have:=(Array.Perm.mem_iff h).mp hx
 simpa using this
theorem bN.at {n:Nat} {p:Array Nat} (h:bN n p) (hn:0 < n) (i:Nat):p.getD i 0 < n:=by
 unfold Array.getD
 split
 .exact h.lt _ (Array.getElem_mem _)
 .exact hn
theorem bN.rev {n:Nat} {p:Array Nat} (h:bN n p) (i j:Nat):bN n (kas_rev p i j):=(mirror_perm p i j ((j - i) / 2)).trans h
theorem bN.bub {n:Nat} {p:Array Nat} (h:bN n p) (i j:Nat):bN n (bubble p i j):=(bubble_perm p i j).trans h
section
variable {n:Nat} (hn:0 < n)
include hn
theorem G4 {p:Array Nat} (h:bN n p):∀ (f k:Nat),fh n (fun _=>True) (Wj p f k)
 | 0,_=>trivial
 | f + 1,k=>by
  refine ⟨h.at hn _,h.at hn _,fun b=>?_⟩
  cases b with
  | true=>exact trivial
  | false=>exact G4 h f (k + 1)
theorem Dx:∀ (f:Nat) {p:Array Nat} (k q:Nat),bN n p->fh n (fun r=>bN n r.1) (Yat f p k q)
 | 0,_,_,_,h=>h
 | f + 1,p,k,q,h=>by
  refine ⟨h.at hn _,h.at hn _,fun b=>?_⟩
  cases b with
  | true=>
   show fh n _ (if q > 0 then Yat f (kas_rev p (k - (q + 1)) k) (k + 1) 0 else Yat f p (k + 1) 0)
   split
   .exact Dx f _ _ (h.rev _ _)
   .exact Dx f _ _ h
  | false=>
   refine ⟨h.at hn _,h.at hn _,fun c=>?_⟩
   cases c with
   | true=>exact h
   | false=>exact Dx f _ _ h
theorem Znq {p:Array Nat} (h:bN n p) (k r:Nat):fh n (fun r=>bN n r.2) (kas_tail3 k r p):=by
 unfold kas_tail3;refine fh.bind (R:=fun _=>True) (fun m _=>?_) (G4 hn (h.rev _ _) _ _);exact h.rev 0 k
theorem Zie {p:Array Nat} (h:bN n p) (k r:Nat):fh n (fun r=>bN n r.2) (kas_descPart k r p):=by
 refine fh.bind (fun a ha=>?_) (Dx hn _ _ _ h);show fh n _ (if a.2.2 > 0 then _ else _)
 split
 .exact Znq hn (ha.rev _ _) _ _
 .exact Znq hn ha _ _
theorem Znr {p:Array Nat} (h:bN n p) (r:Nat):fh n (fun r=>bN n r.2) (kas_count r p):=by
 refine fh.bind (fun a _=>?_) (G4 hn h _ _);show fh n _ (if (a == r)=true then _ else _)
 split
 .exact h
 .split
  .refine ⟨h.at hn _,h.at hn _,fun b=>?_⟩
   cases b with
   | true=>exact h
   | false=>exact Zie hn (h.rev _ _) _ _
  .exact Zie hn h _ _
theorem Jb {p:Array Nat} (h:bN n p) (k:Nat):∀ (f l r:Nat),fh n (fun _=>True) (kas_place p k f l r)
 | 0,_,_=>trivial
 | f + 1,l,r=>by
  show fh n _ (if l >= r then _ else _)
  split
  .exact trivial
  .refine ⟨h.at hn _,h.at hn _,fun b=>?_⟩
   cases b with
   | true=>exact Jb h k f _ _
   | false=>exact Jb h k f _ _
theorem Zr4:∀ (f:Nat) {p:Array Nat} (k:Nat),bN n p->fh n (bN n) (kas_bin f p k)
 | 0,_,_,h=>h
 | f + 1,p,k,h=>fh.bind (fun l _=>Zr4 f _ (h.bub _ _)) (Jb hn h _ _ _ _)
theorem vx:fh n (bN n) (XQ n):=by
 have h:bN n (Yag (List.range n)):=Array.Perm.refl _;refine fh.bind (fun a ha=>?_) (Znr hn h n);show fh n _ (if a.1 < n then _ else _)
 split
 .exact Zr4 hn _ _ ha
 .exact ha
end
theorem Znd {α:Type} {n:Nat} {R:α->Prop} {lt:Nat->Nat->Bool} {cmp:Nat->Nat->(Bool->Shared->Prop)->Shared->Prop} {s:Shared} (hc:∀ i j C,i < n->j < n->C (lt i j) s->cmp i j C s) {Q:α->Shared->Prop} :
  ∀ {t:KasT α},fh n R t->Q (ZB lt t) s->t.kasWp cmp Q s
 | .ret _,_,h=>h
 | .ask i j k,a,h=>hc i j _ a.1 a.2.1 (Znd hc (a.2.2 _) h)
theorem tw {α:Type} {n:Nat} {R:α->Prop} (lt:Nat->Nat->Bool):∀ {t:KasT α},fh n R t->R (ZB lt t)
 | .ret _,h=>h
 | .ask i j k,h=>by
  show R (ZB lt (k (lt i j)));exact tw lt (h.2.2 (lt i j))
def mE (a b:Str×Int):Bool:=if a.1=b.1 then (if a.2=b.2 then false else decide (a.2 < b.2)) else decide (a.1.cps.toList < b.1.cps.toList)
def bC (es:List (Str×Int)):List (Str×Int):=
 if es.length < 2 then es else (ZB (fun i j=>mE (es.getD i (Str.empty,0)) (es.getD j (Str.empty,0))) (XQ es.length)).toList.map fun i=>es.getD i (Str.empty,0)
def xp (r d:Addr):HO:=.ext fun h=>h.IsItemsView r d
section
variable {X:Cx} {pins:List (Addr×Obj)} {σ:St} {H:Hp} {s:Shared}
theorem Hn:qe X "dict.items" (fun x vs H Q=>∃ a u,x=.ref a/\vs=[]/\Rd H a u/\lP u=true/\∀ p,H p=none->Q (.ref p) (upd H p (xp p a))):=by
 intro pins s σ H x xs v us Q I rx rs h;obtain ⟨a,u,rfl,rfl,ha,hd,q⟩:=h
 cases (show v=Value.ref a from rx)
 have:=rs.zero
 subst this;obtain ⟨ob,e,hs,_,ex,es,ep,dd,_⟩:=I.dct ha hd;have hT:s.TypeIs (.ref a) "dict":=⟨ob,e,ex.1⟩
 have m:Meets (Builtin.«dict.items» ⟨[.ref a],[]⟩) (fun _ R s=>s.TypeIs (.ref a) "dict"/\R (.ok (.ret (.ref s.heap.objs.size))) {s with heap:=s.heap.push {cls:=.type "dict_items",data:=.fields #[.ref a]}}):=
  .of_wp fun P2 w2 A2 R2 s2 ⟨Ew,k2⟩=>by
   refine Ya ?_;unfold Builtin.Dict.noArgs;refine Ya (YbA Ew ?_);show wpAny _ _ (pure a) _ _ s2;refine Yd ?_;show wpAny _ _ (X6 a >>= _) _ _ s2;unfold X6;rw [if_neg (by rw [hs];exact Yp)];exact Ya (Yd (Ya (YF (Yd ⟨_,rfl,k2⟩))))
 refine XF F.slot_dict_items hT F.entry_dict_items (F.args_dict_items_1 _) m ⟨hT,?_⟩;refine ⟨.ref _,upd H s.heap.objs.size (xp s.heap.objs.size a),I.laid (t':=s.toks) (fun b ob q=>Yc _ q) (Ye _) ?_,rfl,q _ I.fresh⟩;exact ⟨⟨_,Yi _ rfl,rfl,rfl⟩,⟨_,Yi _ rfl⟩,fun h1 h2 ⟨o,e1,e2⟩ k=>⟨o,k o e1,e2⟩⟩
end
section
variable {prog:Program} {w:World} {A:Around} {E:Value->Shared->Prop} {s:Shared} {a:Addr} {vs:List Value} {κ:SortKind} {lt:Nat->Nat->Bool} {P:PySem.Fin->Shared->Prop} {n:Nat}
theorem Zo8 (ho:s.heap.get? a=some (YT "list" vs.toArray n)) (h2:2<=vs.length) (jF:vs.length < 64)
  (hk:∀ (h':Heap) (Q:SortKind->Shared->Prop),(∀ b o,b≠a->s.heap.get? b=some o->h'.get? b=some o)->Q κ {s with heap:=h'}->wpAny (model prog w) A (keyKind' vs.toArray) Q (fun _ _=>False) {s with heap:=h'})
  (hc:∀ (h':Heap) (i j:Nat) (C:Bool->Shared->Prop),(∀ b o,b≠a->s.heap.get? b=some o->h'.get? b=some o)->i < vs.length->j < vs.length->C (lt i j) {s with heap:=h'}->kas_ask prog w A κ vs i j C {s with heap:=h'})
  (h:∀ (h':Heap) (c:Nat),(ZB lt (XQ vs.length)).size=vs.length->(∀ b o,b≠a->s.heap.get? b=some o->h'.get? b=some o)->h'.get? a=some (YT "list" ((ZB lt (XQ vs.length)).toList.map fun i=>vs.getD i Value.none).toArray c)->P (.done (.ret .none)) {s with heap:=h'}) :
  wpAny (model prog w) A (Builtin.«list.sort» ⟨[.ref a],[]⟩) P E s:=by
 have low:a < s.heap.objs.size:=Yj ho;obtain ⟨c1,uC⟩:∃ c1,(s.heap.update a (Y1 fun _=>(#[]:Array Value))).get? a=some (YT "list" #[] c1):=⟨_,Ybr ho fun _=>#[]⟩
 have uB:(((s.heap.update a (Y1 fun _=>(#[]:Array Value))).push (YT "tuple" vs.toArray 0)).push (YT "list" #[] 0)).get? a=some (YT "list" #[] c1):=Yc _ (Yc _ uC)
 have yN:∀ b o,b≠a->s.heap.get? b=some o->(((s.heap.update a (Y1 fun _=>(#[]:Array Value))).push (YT "tuple" vs.toArray 0)).push (YT "list" #[] 0)).get? b=some o:=fun b o hb e=>
  Yc _ (Yc _ ((Xq _ _ (WO hb)).trans e))
 have big:vs.length<=Ym:=by rw [WR];omega
 rw [list_sort_plain];refine Ya (listItems_at ho rfl (Ya (listUpdate_at ho rfl ?_ (by rw [Yn];exact big) (Yv _))));refine Ya (seqEpoch_at uC rfl (Ya (wpAny_newTuple ?_ big)));refine Ya (Ya3 (Y6 ?_) (Yv _));show wpAny (model prog w) A _ P E {s with heap:=((s.heap.update a (Y1 fun _=>(#[]:Array Value))).push (YT "tuple" vs.toArray 0)).push (YT "list" #[] 0)};dsimp only;have two:¬ vs.toArray.size < 2:=by rw [Yn];omega
 rw [if_neg two,if_neg two];refine Ya (Xd (hk _ (fun Er s'=>Er=κ/\s'={s with heap:=((s.heap.update a (Y1 fun _=>(#[]:Array Value))).push (YT "tuple" vs.toArray 0)).push (YT "list" #[] 0)}) yN ⟨rfl,rfl⟩) (fun Er s0 w4=>?_) fun _ _ x=>x.elim);obtain ⟨rfl,rfl⟩:=w4
 have asks:=Znd (cmp:=kas_ask prog w A Er vs) (s:={s with heap:=((s.heap.update a (Y1 fun _=>(#[]:Array Value))).push (YT "tuple" vs.toArray 0)).push (YT "list" #[] 0)}) (lt:=lt) (fun i j C hi hj q=>hc _ i j C yN hi hj q)
  (Q:=fun p s'=>p=ZB lt (XQ vs.length)/\s'={s with heap:=((s.heap.update a (Y1 fun _=>(#[]:Array Value))).push (YT "tuple" vs.toArray 0)).push (YT "list" #[] 0)}) (vx (n:=vs.length) (by omega)) ⟨rfl,rfl⟩
 refine Ya (Xd (kat_run (Q:=fun fP s'=>∃ p:Array Nat,p.size=vs.length/\arrOf fP=p.map (kas_item (vs.toArray.zip vs.toArray))/\failedOf fP=none/\p=ZB lt (XQ vs.length)/\s'={s with heap:=((s.heap.update a (Y1 fun _=>(#[]:Array Value))).push (YT "tuple" vs.toArray 0)).push (YT "list" #[] 0)})
  rfl h2 jF (fun p' fP s' b1 b2 b3 b4=>⟨p',b1,b2,b3,b4.1,b4.2⟩) asks) ?_ fun _ _ e=>e)
 rintro ⟨⟨⟩,fP⟩ s' ⟨p,hp,har,hf,rfl,rfl⟩
 dsimp only;have len:(Yag ((ZB lt (XQ vs.length)).toList.map fun i=>vs.getD i Value.none)).size=vs.length:=by rw [Yn,Yb,YH,hp]
 rw [kat_snds rfl har]
 obtain ⟨c2,jO⟩:∃ c2,((((s.heap.update a (Y1 fun _=>(#[]:Array Value))).push (YT "tuple" vs.toArray 0)).push (YT "list" #[] 0)).update a (Y1 fun _=>Yag ((ZB lt (XQ vs.length)).toList.map fun i=>vs.getD i Value.none))).get? a=some (YT "list" (Yag ((ZB lt (XQ vs.length)).toList.map fun i=>vs.getD i Value.none)) c2):=
  ⟨_,Ybr uB fun _=>Yag ((ZB lt (XQ vs.length)).toList.map fun i=>vs.getD i Value.none)⟩
 refine Ya (seqEpoch_at uB rfl (Ya (listUpdate_at uB rfl ?_ (Yv _) (Yk (WW len) (YaT big)))));rw [hf]
 simp only [bne_self_eq_false,YQ,if_false]
 exact Yd (h _ c2 hp (fun b o hb e=>(Xq _ _ (WO hb)).trans (yN b o hb e)) jO)
theorem Zrk (ho:s.heap.get? a=some (YT "list" vs.toArray n)) (h2:vs.length < 2)
  (h:∀ (h':Heap) (c:Nat),(∀ b o,b≠a->s.heap.get? b=some o->h'.get? b=some o)->h'.get? a=some (YT "list" vs.toArray c)->P (.done (.ret .none)) {s with heap:=h'}) :
  wpAny (model prog w) A (Builtin.«list.sort» ⟨[.ref a],[]⟩) P E s:=by
 have low:a < s.heap.objs.size:=Yj ho;obtain ⟨c1,uC⟩:∃ c1,(s.heap.update a (Y1 fun _=>(#[]:Array Value))).get? a=some (YT "list" #[] c1):=⟨_,Ybr ho fun _=>#[]⟩
 have uB:(((s.heap.update a (Y1 fun _=>(#[]:Array Value))).push (YT "tuple" vs.toArray 0)).push (YT "list" #[] 0)).get? a=some (YT "list" #[] c1):=Yc _ (Yc _ uC)
 have yN:∀ b o,b≠a->s.heap.get? b=some o->(((s.heap.update a (Y1 fun _=>(#[]:Array Value))).push (YT "tuple" vs.toArray 0)).push (YT "list" #[] 0)).get? b=some o:=fun b o hb e=>
  Yc _ (Yc _ ((Xq _ _ (WO hb)).trans e))
 have big:vs.length<=Ym:=by rw [WR];omega
 rw [list_sort_plain];refine Ya (listItems_at ho rfl (Ya (listUpdate_at ho rfl ?_ (by rw [Yn];exact big) (Yv _))));refine Ya (seqEpoch_at uC rfl (Ya (wpAny_newTuple ?_ big)));refine Ya (Ya3 (Y6 ?_) (Yv _));show wpAny (model prog w) A _ P E {s with heap:=((s.heap.update a (Y1 fun _=>(#[]:Array Value))).push (YT "tuple" vs.toArray 0)).push (YT "list" #[] 0)};dsimp only;have two:vs.toArray.size < 2:=by rw [Yn];omega
 rw [if_pos two,if_pos two];refine Ya (Yd ?_);rw [StateT.run_pure];refine Ya (Yd ?_);dsimp only
 have MD:Array.map (·.2) (arrOf (SortSt.mk' general' (vs.toArray.zip vs.toArray) #[] 7 none))=vs.toArray:=by
  show Array.map (·.2) (vs.toArray.zip vs.toArray)=vs.toArray
  simp only [List.zip_toArray,List.map_toArray]
  rw [show List.map (fun x=>x.2) (vs.zip vs)=vs from List.map_snd_zip (Ye _)]
 obtain ⟨c2,jO⟩:∃ c2,((((s.heap.update a (Y1 fun _=>(#[]:Array Value))).push (YT "tuple" vs.toArray 0)).push (YT "list" #[] 0)).update a (Y1 fun _=>vs.toArray)).get? a=some (YT "list" vs.toArray c2):=⟨_,Ybr uB fun _=>vs.toArray⟩
 rw [MD];refine Ya (seqEpoch_at uB rfl (Ya (listUpdate_at uB rfl ?_ (Yv _) (by rw [Yn];exact YaT big))))
 simp only [bne_self_eq_false,YQ,if_false]
 exact Yd (h _ c2 (fun b o hb e=>(Xq _ _ (WO hb)).trans (yN b o hb e)) jO)
end
section
variable {X:Cx} {pins:List (Addr×Obj)} {σ:St} {H:Hp} {s:Shared}
theorem Inv.many {H':Hp} {h':Heap} {t':Nat} (I:Inv X pins σ H s) (old:∀ b o,s.heap.get? b=some o->h'.get? b=some o) (up:ag H H') (nw:∀ b o,H' b=some o->H b=some o∨(s.heap.get? b=none/\bU X.prog X.w H' h' b o)):Inv X pins σ H' {s with heap:=h',toks:=t'}:=by
 refine I.un ⟨fun b o e _ _ _=>old b o e,fun b o e _ _ _=>⟨o.slots,old b o e⟩,fun b o e n _=>?_,fun b o e _=>⟨o,old b o e⟩,fun b xs e=>up _ _ e,fun b o u e=>up _ _ e,fun b ps e=>⟨#[],by rw [up _ _ e];simp⟩⟩ fun b o e=>?_
 .cases z:H' b with
  | none=>rfl
  | some q=>
   rcases nw b q z with y | ⟨y,_⟩
   .rw [n] at y;cases y
   .rw [e] at y;cases y
 .rcases nw b o e with y | ⟨_,y⟩
  .exact (I.aj b o y).dh (fun c u _ q=>old c u q) (fun c q=>up _ _ q) fun c xs q=>up _ _ q
  .exact y
def qI:List (Addr×List V)->Hp->Hp
 | [],H=>H
 | p::r,H=>upd (qI r H) p.1 (.tup p.2)
theorem Zo0:∀ (ps:List (Addr×List V)) (H:Hp) (b:Addr) (o:HO),qI ps H b=some o->H b=some o∨∃ xs,(b,xs)∈ps/\o=.tup xs
 | [],_,_,_,h=>.inl h
 | p::r,H,b,o,h=>by
  by_cases e:b=p.1
  .subst e;have h':upd (qI r H) p.1 (.tup p.2) p.1=some o:=h;rw [Zb] at h'
   cases h'
   exact .inr ⟨p.2,YA,rfl⟩
  .have h':upd (qI r H) p.1 (.tup p.2) b=some o:=h;rw [Zf e] at h';rcases Zo0 r H b o h' with q | ⟨xs,q,rfl⟩
   .exact .inl q
   .exact .inr ⟨xs,Yr _ q,rfl⟩
theorem ZmL:∀ (ps:List (Addr×List V)) (H:Hp) (b:Addr),b ∉ ps.map (·.1)->qI ps H b=H b
 | [],_,_,_=>rfl
 | p::r,H,b,h=>by
  have h1:b≠p.1:=fun z=>h (by rw [z];exact YA);show upd (qI r H) p.1 (.tup p.2) b=H b;rw [Zf h1];exact ZmL r H b fun z=>h (Yr _ z)
theorem Zo1:∀ (ps:List (Addr×List V)) (H:Hp) (b:Addr) (xs:List V),(ps.map (·.1)).Nodup->(b,xs)∈ps->qI ps H b=some (.tup xs)
 | p::r,H,b,xs,nd,h=>by
  have nd':(p.1::r.map (·.1)).Nodup:=nd;obtain ⟨n1,n2⟩:=List.nodup_cons.mp nd';rcases List.mem_cons.mp h with e | h
  .subst e;exact Zb
  .have h1:b≠p.1:=fun z=>n1 (by rw [<- z];exact List.mem_map.mpr ⟨(b,xs),h,rfl⟩);show upd (qI r H) p.1 (.tup p.2) b=_;rw [Zf h1];exact Zo1 r H b xs n2 h
end
end L2
namespace L2
open PySem PySem.Spec PyProof.Rows PySem.W
section
variable {X:Cx} {pins:List (Addr×Obj)} {σ:St} {H:Hp} {s:Shared}
theorem Inv.jj {t':Nat} {wr:List Addr} {T:Addr} {xs:List V} {h':Heap} (I:Inv X pins σ H s) (hf:∀ b∈wr,eQ X pins H b) (k:∀ b o,b ∉ wr->s.heap.get? b=some o->h'.get? b=some o) (hT:s.heap.objs.size<=T)
  (new:bU X.prog X.w (upd H T (.tup xs)) h' T (.tup xs)):Inv X pins σ (upd H T (.tup xs)) {s with heap:=h',toks:=t'}:=by
 have Fw:s.heap.get? T=none:=by
  cases z:s.heap.get? T with
  | none=>rfl
  | some o=>exact absurd (Yj z) (Nat.not_lt.mpr hT)
 have hHT:H T=none:=I.aj.fresh hT;have rN:∀ b u,H b=some u->b ∉ wr:=fun b u e z=>by rw [(hf b z).1] at e;cases e
 have nT:∀ b u,H b=some u->b≠T:=fun b u e z=>by rw [z,hHT] at e;cases e
 refine I.step (g':=s.gens) (d':=s.drawn) (ch:=wr) (fun b hb=>?_) (fun b o _ _ hc e _=>k b o hc e) (fun b o _ _ hc e _=>⟨o.slots,k b o hc e⟩) (fun b o hc e n=>?_)
  (fun b o hc e=>⟨o,k b o hc e⟩) (fun b ys e=>by rw [Zf (nT _ _ e)];exact e) (fun b o u e=>by rw [Zf (nT _ _ e)];exact e) (fun b ps e=>⟨#[],by rw [Zf (nT _ _ e),e];simp⟩) (fun m hm=>?_) (fun b u e=>?_) I.bare
 .obtain ⟨f0,f1,f2,f3,f4,f5⟩:=hf b hb;exact ⟨f3,f1,f4,f5⟩
 .rw [Zf (fun z=>by rw [z,Fw] at e;cases e)];exact n
 .obtain ⟨o,es,ep,ho,r⟩:=hm;exact ⟨o,es,ep,k _ o (fun z=>(hf _ z).2.1 rfl) ho,r⟩
 .by_cases z:b=T
  .subst z;rw [Zb] at e
   cases e
   exact new
  .rw [Zf z] at e;refine (I.aj b u e).dh (fun c v hc q=>k c v ?_ q) (fun c q=>by rw [Zf (nT _ _ q)];exact q) fun c ys q=>by rw [Zf (nT _ _ q)];exact q
   rcases hc with y | y
   .rw [y];exact rN b u e
   .exact rN _ _ y
theorem Inv.jk {t':Nat} {wr:List Addr} {h':Heap} (I:Inv X pins σ H s) (hf:∀ b∈wr,eQ X pins H b) (k:∀ b o,b ∉ wr->s.heap.get? b=some o->h'.get? b=some o):Inv X pins σ H {s with heap:=h',toks:=t'}:=by
 have rN:∀ b u,H b=some u->b ∉ wr:=fun b u e z=>by rw [(hf b z).1] at e;cases e
 refine I.step (g':=s.gens) (d':=s.drawn) (ch:=wr) (fun b hb=>?_) (fun b o _ _ hc e _=>k b o hc e) (fun b o _ _ hc e _=>⟨o.slots,k b o hc e⟩) (fun b o hc e n=>n)
  (fun b o hc e=>⟨o,k b o hc e⟩) (fun b ys e=>e) (fun b o u e=>e) (fun b ps e=>⟨#[],by rw [e];simp⟩) (fun m hm=>?_) (fun b u e=>?_) I.bare
 .obtain ⟨f0,f1,f2,f3,f4,f5⟩:=hf b hb;exact ⟨f3,f1,f4,f5⟩
 .obtain ⟨o,es,ep,ho,r⟩:=hm;exact ⟨o,es,ep,k _ o (fun z=>(hf _ z).2.1 rfl) ho,r⟩
 .refine (I.aj b u e).dh (fun c v hc q=>k c v ?_ q) (fun c q=>q) fun c ys q=>q;rcases hc with y | y
  .rw [y];exact rN b u e
  .exact rN _ _ y
end
section
variable {prog:Program} {w:World} {A:Around} {E:Value->Shared->Prop} {s:Shared}
theorem Gx {it a:Addr} {i:Nat} {vs:Array Value} {x:Value} {Q:Value->Shared->Prop} (st:s.heap.IsTupleIter it a i) (ha:s.heap.IsTuple a vs) (hx:vs[i]?=some x)
  (q:∀ k,k.IsTupleIter it a (i + 1)->Xx it s.heap k->Q x {s with heap:=k}):wpAny (model prog w) A (Y7 (.ref it)) Q E s:=by
 obtain ⟨u,e1,c1,d1⟩:=id st;obtain ⟨ua,e2,_,m,d2⟩:=ha;unfold Y7;refine Ya (YJ (name:=Y9 "__next__") st.typeIs WN (YK WN st.typeIs F.entry_tuple_iterator_next ?_ (F.args_tuple_iterator_next_1 _)));change wpAny _ _ (field (Value.ref it) 0 >>= _) _ _ s;refine Ya (Y3 e1 d1 (x:=.ref a) rfl ?_);show wpAny _ _ (if (Value.ref a == Value.none)=true then _ else _) _ _ s;rw [if_neg (by exact Yp)];change wpAny _ _ (field (Value.ref it) 1 >>= _) _ _ s;refine Ya (Y3 e1 d1 (x:=.int i 0) rfl ?_);change wpAny _ _ (seqItems? (Value.ref a) >>= _) _ _ s;refine (Ya (Wr e2 d2 ?_))
 simp only [Xc,hx]
 refine Ya (WQ e1 d1 (by simp) (Yd ⟨x,rfl,Yd (q _ ?_ (XW ..))⟩));refine ⟨_,Yai _ e1 (YbC (Wx d1 _)),(Obj.cls_mapFields ..).trans c1,?_⟩;rw [Wx d1]
 simp [X7]
theorem IT {it a:Addr} {i:Nat} {vs:Array Value} {Q:Value->Shared->Prop} (hh:A.handled=none) (st:s.heap.IsTupleIter it a i) (ha:s.heap.IsTuple a vs) (hx:vs[i]?=none)
  (q:∀ k x,Heap.ExtBut it s.heap k->(∃ o,k.get? x=some o/\o.cls=.type "StopIteration")->E (.ref x) {s with heap:=k}):wpAny (model prog w) A (Y7 (.ref it)) Q E s:=by
 obtain ⟨u,e1,c1,d1⟩:=id st;obtain ⟨ua,e2,_,m,d2⟩:=ha;unfold Y7;refine Ya (YJ (name:=Y9 "__next__") st.typeIs WN (YK WN st.typeIs F.entry_tuple_iterator_next ?_ (F.args_tuple_iterator_next_1 _)));change wpAny _ _ (field (Value.ref it) 0 >>= _) _ _ s;refine Ya (Y3 e1 d1 (x:=.ref a) rfl ?_);show wpAny _ _ (if (Value.ref a == Value.none)=true then _ else _) _ _ s;rw [if_neg (by exact Yp)];change wpAny _ _ (field (Value.ref it) 1 >>= _) _ _ s;refine Ya (Y3 e1 d1 (x:=.int i 0) rfl ?_);change wpAny _ _ (seqItems? (Value.ref a) >>= _) _ _ s;refine (Ya (Wr e2 d2 ?_))
 simp only [Xc,hx]
 refine Ya (wpAny_rule (Ya (WQ e1 d1 (by simp) ?_)));change wpAny _ _ (newExc (Value.type "StopIteration") [] >>= _) _ _ _;refine Ya ?_;simp only [newExc,newTuple];refine Ya (YF (Ya (m:=Ws _ _) (wpAny_of_eq (a:=Value.none) (by first | rfl | (simp only [Ws];rfl)) ?_)) (by size_fits));refine YF ?_ (by size_fits);simp only [raiseNew];refine Ya (wpAny_handled ?_);first | rw [show A.in1.handled=none from hh] | rw [hh]
 refine Ya (Yd (wpAny_throw (q _ _ (((XW ..).extBut.push _).push _) ⟨_,Yi _ rfl,rfl⟩)))
theorem Zun (hh:A.handled=none) (it a:Addr) (bZ:a≠it) (vs:Array Value) :
  Draws prog w A it [it,a] vs.size (fun i v=>vs[i]?=some v) (fun i h=>h.IsTupleIter it a i/\h.IsTuple a vs) where
 live:=fun _ _ st=>let ⟨o,ho,_⟩:=st.1;⟨o,ho⟩
 frame:=fun _ _ _ st hk=>⟨st.1.at fun o e=>hk it (by simp) o e,let ⟨o,e,r⟩:=st.2;⟨o,hk a (by simp) o e,r⟩⟩
 item:=fun i s Q E hi st hQ=>Gx st.1 st.2 (x:=vs[i]) (by simp [hi]) fun k fP sb=>hQ _ k s.toks (by simp [hi]) ⟨fP,st.2.extBut sb.extBut bZ⟩ sb
 done:=fun s Q E st hE=>IT hh st.1 st.2 (by simp) hE
end
end L2
namespace L2
open PySem PySem.Spec PyProof.Rows PySem.W
open AutoSeq1 (wpAny_loadPart')
section
variable {prog:Program} {w:World} {A:Around} {E:Value->Shared->Prop} {s:Shared}
theorem ZqQ (a:Addr) (vs:Array Value) (n:Nat) (dd:Option Addr) (sl:Array (Option Value)) :
  Meets (Builtin.«enumerate.__new__» ⟨[.type "enumerate",.ref a],[]⟩) (fun _ R s=>s.heap.get? a=some {cls:=.type "tuple",dict:=dd,data:=.seq vs n,slots:=sl}/\
   R (.ok (.ret (.ref (s.heap.push {cls:=.type "tuple_iterator",data:=.fields #[.ref a,.int 0 0]}).objs.size)))
    {s with heap:=(s.heap.push {cls:=.type "tuple_iterator",data:=.fields #[.ref a,.int 0 0]}).push {cls:=.type "enumerate",data:=.fields #[.none,.bool false,.ref s.heap.objs.size,X7 0,.none,.none]}}):=
 .of_wp fun prog w A R s h=>by
  obtain ⟨hp,g,d,tk,os⟩:=s;obtain ⟨hl,h⟩:=h;have mL:=sub_enumerate;have hT:Heap.IsTuple (Shared.heap ⟨hp,g,d,tk,os⟩) a vs:=⟨_,hl,rfl,n,rfl⟩
  wp_walk using W5 hl
  refine wpAny_stack_any fun st=>Yd ?_
  split
  .rename_i c _ _ _ _ _
   cases (c == Value.type "enumerate")
   all_goals (wp_walk using W5 hl,YaE hT;exact ⟨_,rfl,h⟩)
  .wp_walk using W5 hl,YaE hT;exact ⟨_,rfl,h⟩
theorem ZsY {a:Addr} {vs:Array Value} {Q:Value->Shared->Prop} (ha:s.heap.IsTuple a vs)
  (h:∀ k,IsEnum k (s.heap.objs.size + 1) s.heap.objs.size 0 .none->k.IsTupleIter s.heap.objs.size a 0->(∀ b o,s.heap.get? b=some o->k.get? b=some o)->Q (.ref (s.heap.objs.size + 1)) {s with heap:=k}) :
  wpAny (model prog w) A (call (.type "enumerate") [.ref a]) Q E s:=by
 obtain ⟨⟨c,dd,dt,sl⟩,e,hc,n,hd⟩:=ha
 replace hc:c=.type "tuple":=hc
 replace hd:dt=.seq vs n:=hd
 subst hc hd;refine callType_new F.called_enumerate (by decide) (F.typeCall_enumerate_1 _) (F.newCall_enumerate_1 _) (fun obj=>F.args_object_init_2 obj _) F.entry_enumerate_new (ZqQ a vs n dd sl) ⟨e,?_⟩;have hz:(s.heap.push {cls:=.type "tuple_iterator",data:=.fields #[.ref a,.int 0 0]}).objs.size=s.heap.objs.size + 1:=XN ..;show _/\_;rw [hz]
 have he:IsEnum ((s.heap.push {cls:=.type "tuple_iterator",data:=.fields #[.ref a,.int 0 0]}).push {cls:=.type "enumerate",data:=.fields #[.none,.bool false,.ref s.heap.objs.size,X7 0,.none,.none]}) (s.heap.objs.size + 1) s.heap.objs.size 0 .none:=by
  have:=Yi (s.heap.push {cls:=.type "tuple_iterator",data:=.fields #[.ref a,.int 0 0]}) (o:={cls:=.type "enumerate",data:=.fields #[.none,.bool false,.ref s.heap.objs.size,X7 0,.none,.none]}) rfl
  rw [hz] at this;exact this
 exact ⟨⟨_,he,rfl⟩,h _ he ⟨_,Yc _ (Yi _ rfl),rfl,rfl⟩ fun b o x=>Yc _ (Yc _ x)⟩
end
theorem CQ {P:Program} {w:World} {H:Hp} {h:Heap} {T:Addr} {xs:List V} {vs:Array Value} (hT:h.IsTuple T vs) (r:Vals xs vs.toList) (hz:xs.length<=Ym):bU P w H h T (.tup xs):=by
 exact ⟨hz,vs.toList,r,hT⟩
def oO (K:Frag) (a:Addr):It:=
 ⟨fun i H=>∃ xs x,aF K H a xs/\xs[i]?=some x,fun i H x H'=>∃ t y,H t=none/\x=.ref t/\(∀ xs,aF K H a xs->xs[i]?=some y)/\H'=upd H t (.tup [.int (i:Nat),y]),fun i H=>∃ xs,aF K H a xs/\xs.length<=i⟩
theorem Zsf {P:Program} {w:World} {K:Frag} {elts:List Expr} {k:Nat} {pos:Pos} (a e it:Addr) (h1:a≠it) (h2:e≠it) (h3:a≠e):Turn P w K (.Tuple elts k pos) (oO K a) [e,it] e (fun i h=>(∃ old,IsEnum h e it i old)/\h.IsTupleIter it a i) where
 mem:=by simp
 obj:=fun i h st b hb=>by
  obtain ⟨⟨old,he⟩,o,ho,hc,hd⟩:=st;rcases List.mem_cons.mp hb with rfl | hb
  .exact ⟨_,he,fun v z=>by cases z⟩
  .have z:b=it:=by simpa using hb
   subst z;exact ⟨o,ho,fun v z=>by rw [hd] at z;cases z⟩
 keep:=fun i h h' st k=>by
  obtain ⟨⟨old,he⟩,st⟩:=st;exact ⟨⟨old,k e (by simp) _ he⟩,st.at fun o x=>k it (by simp) o x⟩
 item:=by
  intro X hP hw hK hc i pins s σ H E I hf st hg;subst hP hw hK;obtain ⟨xs,x,hq,hx⟩:=hg;obtain ⟨its,rv,p,hz⟩:=I.tuple hq;obtain ⟨u,hu,ru⟩:=rv.get hx;have hi:i < its.length:=(List.getElem?_eq_some_iff.mp hu).1;have W:=WalksT.enumerateD (prog:=X.prog) (w:=X.w) (A:=X.A) (Zun (A:=X.A.in1) (by first | exact I.ok.hd hc | exact (I.ok.hd hc)) it a h1 its.toArray) e h2 (by simp [h2,h3.symm]) (by simp);refine W.item i s _ _ (by simpa using hi) ⟨st.1,st.2,p⟩ fun T vals h' tk hv hT hI hM hk=>?_;obtain ⟨t,y,hy,rfl⟩:=hv
  have hyu:y=u:=by
   have:its[i]?=some y:=by simpa using hy
   rw [hu] at this;exact (YB this).symm
  subst hyu;refine ⟨_,rfl,W.go elts k pos i T _ _ _ hM fun jP AM Bl=>?_⟩;have hTw:=W.apart i T h' hM;have MV:jP.IsTuple T #[.int i t,y]:=let ⟨o,e1,r⟩:=hI;⟨o,Bl T o hTw e1,r⟩
  have Fw:H T=none:=I.aj.fresh hT;refine ⟨.ref T,_,I.jj (t':=tk) (wr:=[e,it]) hf (fun b o hb q=>Bl b o hb (hk b o hb q)) hT (CQ (xs:=[.int (i:Nat),x]) MV (.cons ⟨t,rfl⟩ (.cons ru .nil)) (by show 2<=Ym;decide)),rfl,⟨T,x,Fw,rfl,fun ys hy=>by rw [I.eR hy hq];exact hx,rfl⟩,⟨AM.1,AM.2.1⟩,fun b hb=>?_⟩;have hbT:b≠T:=fun z=>hTw (by rw [<- z];exact hb);show upd H T _ b=none;rw [Zf hbT];exact (hf b hb).1
 done:=by
  intro X hP hw hK hc i pins s σ H E I hf st hg;subst hP hw hK;obtain ⟨xs,hq,hx⟩:=hg;obtain ⟨its,rv,p,hz⟩:=I.tuple hq;have hl:=rv.length;obtain ⟨⟨old,he⟩,kO⟩:=st;have hT:s.TypeIs (.ref e) "enumerate":=⟨_,he,rfl⟩
  unfold W8;refine Ya (XH (YJ (name:=Y9 "__next__") hT F.slot_enumerate_next (YK F.slot_enumerate_next hT F.entry_enumerate_next ?_ (F.args_enumerate_next_1 _))));change wpAny _ _ (field (Value.ref e) 2 >>= _) _ _ _;refine Ya (Y3 he rfl (x:=.ref it) rfl (Ya (IT (I.ok.hd hc) kO (show s.heap.IsTuple a its.toArray from p) (by simp;omega) fun h' x hb yS=>?_)));obtain ⟨o,ho,cG⟩:=yS;refine Ya (Yak (T:="StopIteration") (b:=true) ⟨o,ho,cG⟩ YaG (Yd ⟨rfl,I.jk (t':=s.toks) (wr:=[e,it]) hf fun b o hn q=>hb b o (fun z=>hn (by simp [z])) q⟩))
 self:=fun _ _ _ _ _ st h=>by obtain ⟨⟨old,he⟩,_⟩:=st;exact wpAny_pyIter_enum he h
def Zx6 (K:Frag) (ta:TA):TI:=fun σ H R=>ta σ H fun vs H1=>∃ a,vs=[.ref a]/\(∃ xs,aF K H1 a xs)/\R (oO K a) H1
theorem Zpp {X:Cx} {elts:List Expr} {k:Nat} {tp:Pos} {a:Expr} {ta:TA} {p pos:Pos} (hg:Gl X "enumerate") (hm:X.mg "enumerate"=none) (ha:PA X [a] ta) (hs:Yx [a] X.env=[(false,eval a X.env)]:=by rfl):PI X (.Tuple elts k tp) (.Call (.Name "enumerate" p) [a] [] pos) (Zx6 X.K ta):=by
 try unfold PA at *
 intro pins s σ H R I h;refine Call_ (u_ I hg hm PyProof.Rows.Boot.«enumerate» (XY (aH (ha pos pins s σ H _ I h) fun us s1 ⟨vs,H1,I1,r1,q1⟩=>?_) hs rfl));obtain ⟨a,e,⟨xs,hq⟩,q⟩:=q1;subst e
 cases r1 with
 | cons r rr=>
  cases rr
  cases (show _=Value.ref a from r)
  obtain ⟨its,rv,p,hz⟩:=I1.tuple hq;have br:a < s1.heap.objs.size:=by obtain ⟨o,e,_⟩:=p;exact Yj e
  refine ZsY (show s1.heap.IsTuple a its.toArray from p) fun k he st kk=>?_;refine wpAny_pyIter_enum he ?_;refine ⟨s1.heap.objs.size + 1,[s1.heap.objs.size + 1,s1.heap.objs.size],_,_,H1,rfl,I1.kept (t':=s1.toks) kk,Zsf a _ _ (Yu br) (Nat.succ_ne_self _) (Yu (Nat.lt_succ_of_lt br)),⟨⟨_,he⟩,st⟩,fun b hb=>?_,q⟩
  have r_:s1.heap.objs.size<=b:=by
   rcases List.mem_cons.mp hb with rfl | hb
   .exact Wz _
   .have:b=s1.heap.objs.size:=by simpa using hb
    exact WW this.symm
  exact I1.jf r_ (I1.aj.fresh r_)
end L2
namespace L2
open PySem PySem.Spec PyProof.Rows PySem.W
open AutoSeq1 (wpAny_loadPart')
section
variable {prog:Program} {w:World} {A:Around} {E:Value->Shared->Prop} {s:Shared}
theorem Zwk {z ti tu i1 i2 l1 l2:Addr} {k:Nat} {xs ys:Array Value} {x y a b:Value} {Q:Value->Shared->Prop} (D:ZipApart z ti tu i1 i2 l1 l2)
  (hz:IsZip s.heap z ti tu .none) (E9:Yaj s.heap ti (.ref i1) (.ref i2)) (yU:Yaj s.heap tu a b)
  (g1:s.heap.IsTupleIter i1 l1 k) (g2:s.heap.IsListIter i2 l2 k) (eB:s.heap.IsTuple l1 xs) (cL:s.heap.IsList l2 ys) (hx:xs[k]?=some x) (hy:ys[k]?=some y)
  (q:∀ m,IsZip m z ti tu (X7 s.heap.objs.size)->Yaj m tu x y->m.IsTupleIter i1 l1 (k + 1)->m.IsListIter i2 l2 (k + 1)->Yaj m s.heap.objs.size x y->
   (∀ c o,c≠z->c≠tu->c≠i1->c≠i2->s.heap.get? c=some o->m.get? c=some o)->Q (.ref s.heap.objs.size) {s with heap:=m}) :
  wpAny (model prog w) A (Builtin.«zip.__next__» ⟨[.ref z],[]⟩) (fun fin t=>∃ v,fin=.done (.ret v)/\Q v t) E s:=by
 change wpAny _ _ (field (Value.ref z) 2 >>= _) _ _ _;refine Ya (Y3 hz rfl (x:=.bool false) rfl ?_);change wpAny _ _ (field (Value.ref z) 3 >>= _) _ _ _;refine Ya (Y3 hz rfl (x:=.ref ti) rfl (Ya (Wr E9 rfl ?_)));change wpAny _ _ (X0 (Value.ref z) >>= _) _ _ _;refine Ya ?_;unfold X0;refine Ya (Y3 hz rfl (x:=.none) rfl (Yd ?_));simp only [if_true];refine Ya (wpAny_rule (Ya (Y3 hz rfl (x:=.ref tu) rfl ?_)));refine Ya (Y8 hz (by simp) fun m1 z1 b1=>?_)
 replace z1:IsZip m1 z ti tu .ellipsis:=z1
 refine Ya ?_;simp only [List.zipIdx_cons,List.zipIdx_nil,Yby,List.forIn_nil];refine Ya (Ya (wpAny_onRaise ?_));change wpAny _ _ (Y7 (Value.ref i1) >>= _) _ _ _;refine Ya (Gx (g1.extBut b1.extBut D.i1z) (eB.extBut b1.extBut D.l1z) hx fun m2 g12 b2=>Yd ?_);have p2:Yaj m2 tu a b:=b2.extBut _ _ D.TOi1 (b1.extBut _ _ D.TOz yU);refine Ya (Wr p2 rfl (Ya (YbE p2 fun m3 p3 b3=>?_)))
 replace p3:Yaj m3 tu x b:=p3
 refine Ya (wpAny_letGo (Yd (Ya (Ya (wpAny_onRaise ?_)))));change wpAny _ _ (Y7 (Value.ref i2) >>= _) _ _ _;have FE:=((g2.extBut b1.extBut D.i2z).extBut b2.extBut D.i12.symm).extBut b3.extBut D.TOi2.symm;have EY:=((cL.extBut b1.extBut D.l2z).extBut b2.extBut D.l2i1).extBut b3.extBut D.l2TO;refine Ya (wpAny_nextOf_list_item FE EY hy fun m4 g24 b4=>Yd ?_);have p4:Yaj m4 tu x b:=b4.extBut _ _ D.TOi2 p3;refine Ya (Wr p4 rfl (Ya (YbE p4 fun m5 p5 b5=>?_)))
 replace p5:Yaj m5 tu x y:=p5
 refine Ya (wpAny_letGo (Yd (Yd (Ya (Wr p5 rfl (Ya (wpAny_newTuple ?_)))))));have es:m5.objs.size=s.heap.objs.size:=by rw [b5.1,b4.1,b3.1,b2.1,b1.1]
 have z5:IsZip m5 z ti tu .ellipsis:=b5.extBut _ _ D.TOz.symm (b4.extBut _ _ D.i2z.symm (b3.extBut _ _ D.TOz.symm (b2.extBut _ _ D.i1z.symm z1)));have k5:∀ c o,c≠z->c≠tu->c≠i1->c≠i2->s.heap.get? c=some o->m5.get? c=some o:=fun c o c1 c2 c3 c4 e=>b5.extBut _ _ c2 (b4.extBut _ _ c4 (b3.extBut _ _ c2 (b2.extBut _ _ c3 (b1.extBut _ _ c1 e))));have g15:m5.IsTupleIter i1 l1 (k + 1):=((g12.extBut b3.extBut D.TOi1.symm).extBut b4.extBut D.i12).extBut b5.extBut D.TOi1.symm;have g25:m5.IsListIter i2 l2 (k + 1):=g24.extBut b5.extBut D.TOi2.symm;have zl:z < m5.objs.size:=Yj z5;change wpAny _ _ (YbL (Value.ref z) (Value.ref m5.objs.size) >>= _) _ _ _;refine Ya ?_;unfold YbL;have z6:IsZip (m5.push {cls:=.type "tuple",data:=.seq #[x,y]}) z ti tu .ellipsis:=Yc _ z5;refine Ya (Y8 z6 (by simp) fun m7 z7 b7=>?_)
 replace z7:IsZip m7 z ti tu (X7 m5.objs.size):=z7
 refine Y8 z7 (by simp) fun m8 z8 b8=>?_
 replace z8:IsZip m8 z ti tu (X7 m5.objs.size):=z8
 have up:∀ c o,c≠z->m5.get? c=some o->m8.get? c=some o:=fun c o c1 e=>b8.extBut _ _ c1 (b7.extBut _ _ c1 (Yc _ e));have T8:Yaj m8 m5.objs.size x y:=b8.extBut _ _ (WB zl) (b7.extBut _ _ (WB zl) (Yi _ rfl));rw [es] at z8 T8;refine Yd ⟨_,rfl,?_⟩;show Q (.ref m5.objs.size) _;rw [es];exact q m8 z8 (up _ _ D.TOz p5) (g15.at fun o e=>up _ o D.i1z e) (g25.at fun o e=>up _ o D.i2z e) T8 fun c o c1 c2 c3 c4 e=>up c o c1 (k5 c o c1 c2 c3 c4 e)
theorem Zxj {z ti tu i1 i2 l1 l2:Addr} {k:Nat} {xs ys:Array Value} {a b:Value} {Q:PySem.Fin->Shared->Prop} (hh:A.handled=none) (D:ZipApart z ti tu i1 i2 l1 l2)
  (hz:IsZip s.heap z ti tu .none) (E9:Yaj s.heap ti (.ref i1) (.ref i2)) (yU:Yaj s.heap tu a b)
  (g1:s.heap.IsTupleIter i1 l1 k) (g2:s.heap.IsListIter i2 l2 k) (eB:s.heap.IsTuple l1 xs) (cL:s.heap.IsList l2 ys) (he:xs[k]?=none∨ys[k]?=none)
  (q:∀ m e,(∀ c o,c≠z->c≠tu->c≠i1->c≠i2->s.heap.get? c=some o->m.get? c=some o)->(∃ o,m.get? e=some o/\o.cls=.type "StopIteration")->E (.ref e) {s with heap:=m}) :
  wpAny (model prog w) A (Builtin.«zip.__next__» ⟨[.ref z],[]⟩) Q E s:=by
 change wpAny _ _ (field (Value.ref z) 2 >>= _) _ _ _;refine Ya (Y3 hz rfl (x:=.bool false) rfl ?_);change wpAny _ _ (field (Value.ref z) 3 >>= _) _ _ _;refine Ya (Y3 hz rfl (x:=.ref ti) rfl (Ya (Wr E9 rfl ?_)));change wpAny _ _ (X0 (Value.ref z) >>= _) _ _ _;refine Ya ?_;unfold X0;refine Ya (Y3 hz rfl (x:=.none) rfl (Yd ?_));simp only [if_true];refine Ya (wpAny_rule (Ya (Y3 hz rfl (x:=.ref tu) rfl ?_)));refine Ya (Y8 hz (by simp) fun m1 z1 b1=>?_)
 replace z1:IsZip m1 z ti tu .ellipsis:=z1
 refine Ya ?_;simp only [List.zipIdx_cons,List.zipIdx_nil,Yby,List.forIn_nil];refine Ya (Ya (wpAny_onRaise ?_));change wpAny _ _ (Y7 (Value.ref i1) >>= _) _ _ _
 cases hx:xs[k]? with
 | none=>
  refine Ya (IT hh (g1.extBut b1.extBut D.i1z) (eB.extBut b1.extBut D.l1z) hx fun m2 e b2 hE=>?_);obtain ⟨u,hu,hc⟩:=hE;have z2:IsZip m2 z ti tu .ellipsis:=b2 _ _ D.i1z.symm z1;have ez:e≠z:=fun y=>by subst y;rw [z2] at hu;cases hu;simp at hc
  exact Y8 z2 (by simp) fun m3 _ b3=>q m3 e (fun c o c1 _ c3 _ y=>b3.extBut _ _ c1 (b2 _ _ c3 (b1.extBut _ _ c1 y))) ⟨u,b3.extBut _ _ ez hu,hc⟩
 | some x=>
  have hy:ys[k]?=none:=by
   rcases he with h | h
   .rw [hx] at h;cases h
   .exact h
  refine Ya (Gx (g1.extBut b1.extBut D.i1z) (eB.extBut b1.extBut D.l1z) hx fun m2 g12 b2=>Yd ?_);have p2:Yaj m2 tu a b:=b2.extBut _ _ D.TOi1 (b1.extBut _ _ D.TOz yU);refine Ya (Wr p2 rfl (Ya (YbE p2 fun m3 p3 b3=>?_)));refine Ya (wpAny_letGo (Yd (Ya (Ya (wpAny_onRaise ?_)))));change wpAny _ _ (Y7 (Value.ref i2) >>= _) _ _ _;have FE:=((g2.extBut b1.extBut D.i2z).extBut b2.extBut D.i12.symm).extBut b3.extBut D.TOi2.symm;have EY:=((cL.extBut b1.extBut D.l2z).extBut b2.extBut D.l2i1).extBut b3.extBut D.l2TO;refine Ya (wpAny_nextOf_list_end hh FE EY hy fun m4 e b4 hE=>?_);obtain ⟨u,hu,hc⟩:=hE;have z4:IsZip m4 z ti tu .ellipsis:=b4 _ _ D.i2z.symm (b3.extBut _ _ D.TOz.symm (b2.extBut _ _ D.i1z.symm z1));have ez:e≠z:=fun y=>by subst y;rw [z4] at hu;cases hu;simp at hc
  exact Y8 z4 (by simp) fun m5 _ b5=>q m5 e (fun c o c1 c2 c3 c4 y=>b5.extBut _ _ c1 (b4 _ _ c4 (b3.extBut _ _ c2 (b2.extBut _ _ c3 (b1.extBut _ _ c1 y))))) ⟨u,b5.extBut _ _ ez hu,hc⟩
abbrev B1 (h:Heap) (a:Addr):Heap:=h.push {cls:=.type "tuple_iterator",data:=.fields #[.ref a,.int 0 0]}
abbrev B0 (h:Heap) (a b:Addr):Heap:=(B1 h a).push {cls:=.type "list_iterator",data:=.fields #[.ref b,.int 0 0]}
abbrev BZ (h:Heap) (a b:Addr):Heap:=(B0 h a b).push {cls:=.type "tuple",data:=.seq #[.ref h.objs.size,.ref (B1 h a).objs.size]}
abbrev BY (h:Heap) (a b:Addr):Heap:=(BZ h a b).push {cls:=.type "tuple",data:=.seq #[.none,.none]}
abbrev wG (h:Heap) (a b:Addr):Heap:=(BY h a b).push {cls:=.type "zip",data:=.fields #[.none,.bool false,.bool false,.ref (B0 h a b).objs.size,.ref (BZ h a b).objs.size]}
theorem ZqP (a b:Addr) (xs ys:Array Value) :
  Meets (Builtin.«zip.__new__» ⟨[.type "zip",.ref a,.ref b],[]⟩) (fun _ R s=>s.heap.IsTuple a xs/\s.heap.IsList b ys/\R (.ok (.ret (.ref (BY s.heap a b).objs.size))) {s with heap:=wG s.heap a b}):=
 .of_wp fun prog w A R s h=>by
  obtain ⟨hp,g,d,tk,os⟩:=s;obtain ⟨ha,hb,h⟩:=h;have mL:=sub_zip;have hA:Heap.IsTuple (Shared.heap ⟨hp,g,d,tk,os⟩) a xs:=ha;have hB:Heap.IsList (Shared.heap ⟨hp.push {cls:=.type "tuple_iterator",data:=.fields #[.ref a,.int 0 0]},g,d,tk,os⟩) b ys:=Heap.IsList.push hb _
  wp_walk using YaE hA,wpAny_pyIter_list hB
  exact ⟨_,rfl,h⟩
theorem ZsV {a b:Addr} {xs ys:Array Value} {Q:Value->Shared->Prop} (ha:s.heap.IsTuple a xs) (hb:s.heap.IsList b ys)
  (h:∀ m,IsZip m (s.heap.objs.size + 4) (s.heap.objs.size + 2) (s.heap.objs.size + 3) .none->Yaj m (s.heap.objs.size + 2) (.ref s.heap.objs.size) (.ref (s.heap.objs.size + 1))->
   Yaj m (s.heap.objs.size + 3) .none .none->m.IsTupleIter s.heap.objs.size a 0->m.IsListIter (s.heap.objs.size + 1) b 0->(∀ c o,s.heap.get? c=some o->m.get? c=some o)->Q (.ref (s.heap.objs.size + 4)) {s with heap:=m}) :
  wpAny (model prog w) A (call (.type "zip") [.ref a,.ref b]) Q E s:=by
 refine callType_new F.called_zip (by decide) (F.typeCall_zip_2 _ _) (F.newCall_zip_2 _ _) (fun obj=>F.args_object_init_3 obj _ _) F.entry_zip_new (ZqP a b xs ys) ⟨ha,hb,?_⟩;have y1:(B1 s.heap a).objs.size=s.heap.objs.size + 1:=XN ..;have y2:(B0 s.heap a b).objs.size=s.heap.objs.size + 2:=by rw [XN,y1]
 have y3:(BZ s.heap a b).objs.size=s.heap.objs.size + 3:=by rw [XN,y2]
 have y4:(BY s.heap a b).objs.size=s.heap.objs.size + 4:=by rw [XN,y3]
 have f5:(wG s.heap a b).get? (BY s.heap a b).objs.size=some _:=Yi _ rfl;have f4:(wG s.heap a b).get? (BZ s.heap a b).objs.size=some _:=Yc _ (Yi _ rfl);have f3:(wG s.heap a b).get? (B0 s.heap a b).objs.size=some _:=Yc _ (Yc _ (Yi _ rfl));have f2:(wG s.heap a b).get? (B1 s.heap a).objs.size=some _:=Yc _ (Yc _ (Yc _ (Yi _ rfl)));have f1:(wG s.heap a b).get? s.heap.objs.size=some _:=Yc _ (Yc _ (Yc _ (Yc _ (Yi _ rfl))));show _/\_;rw [y2,y3,y4] at f5;rw [y1,y2] at f3;rw [y3] at f4;rw [y1] at f2;rw [y4];exact ⟨⟨_,f5,rfl⟩,h _ f5 f3 f4 ⟨_,f1,rfl,rfl⟩ ⟨_,f2,rfl,rfl⟩ fun c o e=>Yc _ (Yc _ (Yc _ (Yc _ (Yc _ e))))⟩
end
def AB (K:Frag) (a b:Addr):It:=
  ⟨fun i H=>∃ xs ys x y,aF K H a xs/\aq K H b ys/\xs[i]?=some x/\ys[i]?=some y,fun i H v H'=>∃ t x y,H t=none/\v=.ref t/\(∀ xs,aF K H a xs->xs[i]?=some x)/\(∀ ys,aq K H b ys->ys[i]?=some y)/\H'=upd H t (.tup [x,y]),
   fun i H=>∃ xs ys,aF K H a xs/\aq K H b ys/\(xs.length<=i∨ys.length<=i)⟩
theorem ZuO {P:Program} {w:World} {K:Frag} {elts:List Expr} {kk:Nat} {pos:Pos} (z ti tu i1 i2 a b:Addr) (D:ZipApart z ti tu i1 i2 a b) :
  Turn P w K (.Tuple elts kk pos) (AB K a b) [z,ti,tu,i1,i2] z (fun i h=>IsZip h z ti tu .none/\Yaj h ti (.ref i1) (.ref i2)/\(∃ x y,Yaj h tu x y)/\h.IsTupleIter i1 a i/\h.IsListIter i2 b i) where
 mem:=by simp
 obj:=fun i h st c hc=>by
  obtain ⟨h1,h2,⟨x,y,h3⟩,⟨o4,e4,_,d4⟩,⟨o5,e5,_,d5⟩⟩:=st
  simp only [W3,X3,or_false] at hc
  rcases hc with rfl | rfl | rfl | rfl | rfl
  .exact ⟨_,h1,fun v q=>by cases q⟩
  .exact ⟨_,h2,fun v q=>by cases q⟩
  .exact ⟨_,h3,fun v q=>by cases q⟩
  .exact ⟨_,e4,fun v q=>by rw [d4] at q;cases q⟩
  .exact ⟨_,e5,fun v q=>by rw [d5] at q;cases q⟩
 keep:=fun i h h' st k=>by
  obtain ⟨h1,h2,⟨x,y,h3⟩,h4,h5⟩:=st;exact ⟨k z (by simp) _ h1,k ti (by simp) _ h2,⟨x,y,k tu (by simp) _ h3⟩,h4.at fun o e=>k i1 (by simp) o e,h5.at fun o e=>k i2 (by simp) o e⟩
 item:=by
  intro X hP hw hK hc i pins s σ H E I hf st hg;subst hP hw hK;obtain ⟨xs,ys,x,y,wV,qp,hx,hy⟩:=hg;obtain ⟨us,B4,p1,_⟩:=I.tuple wV;obtain ⟨vs,B3,p2,_⟩:=I.list qp;obtain ⟨u,hu,ru⟩:=B4.get hx;obtain ⟨v,hv,rv⟩:=B3.get hy;obtain ⟨h1,h2,⟨a0,b0,h3⟩,h4,h5⟩:=st;have hT:s.TypeIs (.ref z) "zip":=⟨_,h1,rfl⟩
  unfold W8
  refine Ya (XH (YJ (name:=Y9 "__next__") hT Ybz (YK Ybz hT F.entry_zip_next
   (Zwk D h1 h2 h3 h4 h5 (show s.heap.IsTuple a us.toArray from p1) p2.isList (x:=u) (y:=v) (by simpa using hu) (by simpa using hv) fun m z1 q1 g1 g2 T1 Ca=>Yd ?_) (F.args_zip_next_1 _))))
  refine ⟨_,rfl,wpAny_letOwnedTupleGo_zip (s:={s with heap:=m}) z1 fun m' z2 sb=>?_⟩;have lz:z < s.heap.objs.size:=Yj h1;have lti:ti < s.heap.objs.size:=Yj h2;have ltu:tu < s.heap.objs.size:=Yj h3;have l1:i1 < s.heap.objs.size:=by obtain ⟨_,e,_⟩:=h4;exact Yj e
  have l2:i2 < s.heap.objs.size:=by obtain ⟨_,e,_⟩:=h5;exact Yj e
  have kp:∀ c o,c ∉ [z,ti,tu,i1,i2]->s.heap.get? c=some o->m'.get? c=some o:=fun c o hn e=>by
   simp only [W3,X3,or_false,not_or] at hn
   exact sb.extBut _ _ hn.1 (Ca c o hn.1 hn.2.2.1 hn.2.2.2.1 hn.2.2.2.2 e)
  have T2:m'.IsTuple s.heap.objs.size #[u,v]:=⟨_,sb.extBut _ _ (WB lz) T1,rfl,_,rfl⟩
  refine ⟨.ref s.heap.objs.size,_,I.jj (t':=s.toks) (wr:=[z,ti,tu,i1,i2]) hf kp (Ye _) (CQ (xs:=[x,y]) T2 (.cons ru (.cons rv .nil)) (by show 2<=Ym;decide)),rfl,
   ⟨_,x,y,I.aj.fresh (Ye _),rfl,fun qg wR=>by rw [I.eR wR wV];exact hx,fun qg wR=>by rw [I.kn wR qp];exact hy,rfl⟩,?_,fun c hc=>?_⟩
  .refine ⟨z2,sb.extBut _ _ D.TIz (Ca _ _ D.TIz D.TITO D.TIi1 D.TIi2 h2),⟨u,v,sb.extBut _ _ D.TOz q1⟩,g1.extBut sb.extBut D.i1z,g2.extBut sb.extBut D.i2z⟩
  .have:c≠s.heap.objs.size:=by
    simp only [W3,X3,or_false] at hc
    rcases hc with rfl | rfl | rfl | rfl | rfl
    .exact Yu lz
    .exact Yu lti
    .exact Yu ltu
    .exact Yu l1
    .exact Yu l2
   show upd H _ _ c=none;rw [Zf this];exact (hf c hc).1
 done:=by
  intro X hP hw hK hc i pins s σ H E I hf st hg;subst hP hw hK;obtain ⟨xs,ys,wV,qp,hl⟩:=hg;obtain ⟨us,B4,p1,_⟩:=I.tuple wV;obtain ⟨vs,B3,p2,_⟩:=I.list qp;have e1:=B4.length;have e2:=B3.length;obtain ⟨h1,h2,⟨a0,b0,h3⟩,h4,h5⟩:=st;have hT:s.TypeIs (.ref z) "zip":=⟨_,h1,rfl⟩
  unfold W8
  refine Ya (XH (YJ (name:=Y9 "__next__") hT Ybz (YK Ybz hT F.entry_zip_next
   (Zxj (I.ok.hd hc) D h1 h2 h3 h4 h5 (show s.heap.IsTuple a us.toArray from p1) p2.isList (by simp;omega) fun m e Ca hE=>?_) (F.args_zip_next_1 _))))
  obtain ⟨o,ho,cG⟩:=hE;refine Ya (Yak (T:="StopIteration") (b:=true) ⟨o,ho,cG⟩ YaG (Yd ⟨rfl,I.jk (t':=s.toks) (wr:=[z,ti,tu,i1,i2]) hf fun c o hn q=>?_⟩))
  simp only [W3,X3,or_false,not_or] at hn
  exact Ca c o hn.1 hn.2.2.1 hn.2.2.2.1 hn.2.2.2.2 q
 self:=fun _ _ _ _ _ st h=>wpAny_pyIter_zip st.1 h
def Mr (K:Frag) (ta:TA):TI:=fun σ H R=>ta σ H fun vs H1=>∃ a b,vs=[.ref a,.ref b]/\(∃ xs,aF K H1 a xs)/\(∃ ys,aq K H1 b ys)/\R (AB K a b) H1
theorem ZxI {X:Cx} {elts:List Expr} {kk:Nat} {tp:Pos} {a b:Expr} {ta:TA} {p pos:Pos} (hg:Gl X "zip") (hm:X.mg "zip"=none) (ha:PA X [a,b] ta) (hs:Yx [a,b] X.env=[(false,eval a X.env),(false,eval b X.env)]:=by rfl) (rW:Yx [b] X.env=[(false,eval b X.env)]:=by rfl):PI X (.Tuple elts kk tp) (.Call (.Name "zip" p) [a,b] [] pos) (Mr X.K ta):=by
 try unfold PA at *
 intro pins s σ H R I h;refine Call_ (u_ I hg hm PyProof.Rows.Boot.«zip» (XY (aH (ha pos pins s σ H _ I h) fun us s1 ⟨vs,H1,I1,r1,q1⟩=>?_) (by rw [hs,rW]) (by rw [rW];rfl)));obtain ⟨a,b,e,⟨xs,wV⟩,⟨ys,qp⟩,q⟩:=q1;subst e
 cases r1 with
 | cons r rr=>
  cases rr with
  | cons r' rr=>
   cases rr
   cases (show _=Value.ref a from r)
   cases (show _=Value.ref b from r')
   obtain ⟨us,B4,p1,_⟩:=I1.tuple wV;obtain ⟨vs,B3,p2,_⟩:=I1.list qp;have la:a < s1.heap.objs.size:=by obtain ⟨o,e,_⟩:=p1;exact Yj e
   have lb:b < s1.heap.objs.size:=by obtain ⟨o,e,_⟩:=p2.isList;exact Yj e
   refine ZsV (show s1.heap.IsTuple a us.toArray from p1) p2.isList fun m h1 h2 h3 h4 h5 kp=>?_;refine wpAny_pyIter_zip h1 ?_;refine ⟨_,[s1.heap.objs.size + 4,s1.heap.objs.size + 2,s1.heap.objs.size + 3,s1.heap.objs.size,s1.heap.objs.size + 1],_,_,H1,rfl,I1.kept (t':=s1.toks) kp,ZuO _ _ _ _ _ a b (zipApart_new la lb),⟨h1,h2,⟨_,_,h3⟩,h4,h5⟩,fun c hc=>?_,q⟩
   have r_:s1.heap.objs.size<=c:=by
    simp only [W3,X3,or_false] at hc
    rcases hc with rfl | rfl | rfl | rfl | rfl
    .exact WS _ _
    .exact WS _ _
    .exact WS _ _
    .exact Ye _
    .exact WS _ _
   exact I1.jf r_ (I1.aj.fresh r_)
end L2
namespace L2
open PySem PySem.Spec PyProof.Rows PySem.W
section
variable {prog:Program} {w:World} {A:Around} {E:Value->Shared->Prop} {s:Shared}
theorem Zx3 {v d:Addr} {ob:Obj} {es:Array XG} {ep:Nat} {Q:Value->Shared->Prop} (hv:s.heap.IsItemsView v d) (e:s.heap.get? d=some ob) (dd:ob.data=.dict es ep)
  (q:Q (.ref s.heap.objs.size) {s with heap:=s.heap.push {cls:=.type "dict_itemiterator",data:=.fields #[.none,.bool false,.ref d,.int 0 0,.int es.size 0,.int ep 0,.none,.none]}}):wpAny (model prog w) A (pyIter (.ref v)) Q E s:=by
 have tv:=hv.typeIs;obtain ⟨oV,e1,c1,d1⟩:=hv;refine wpAny_pyIter_slot tv F.slot_dict_items_iter (YK F.slot_dict_items_iter tv F.entry_dict_items_iter ?_ (F.args_dict_items_iter_1 _));unfold Builtin.«dict_items.__iter__» Builtin.Dict_items.dictOf Builtin.Dict_items.newIterator;refine Ya (Yd (Ya (Ya (Y3 e1 d1 (x:=.ref d) rfl (Yd ?_)))));refine Ya (Ya (Xt e dd (Ya (XR e dd ?_))));rw [show YZ "dict_itemiterator"=true from by decide]
 simp only [if_true]
 refine YF (Yd ⟨_,rfl,"dict_itemiterator",_,⟨_,Yi _ rfl,rfl⟩,F.slot_dict_itemiterator_next.lookup,?_⟩) (by simp only [sizeOk,YbR,Yn,Yg,Yz,Ybx,WR];omega)
 simpa [X7,YbR] using q
theorem ZwY {it d:Addr} {ob:Obj} {es:Array XG} {ep i:Nat} {x:XG} {k0 v0:Value} {Q:Option Value->Shared->Prop} (st:Yan s.heap it d i es.size ep k0 v0) (e:s.heap.get? d=some ob) (dd:ob.data=.dict es ep) (hx:es[i]?=some x)
  (q:∀ m,IsItemIterOut m it d (i + 1) es.size ep x.key x.val s.heap.objs.size->m.get? s.heap.objs.size=some {cls:=.type "tuple",data:=.seq #[x.key,x.val]}->(∀ b o,b≠it->s.heap.get? b=some o->m.get? b=some o)->Q (some (.ref s.heap.objs.size)) {s with heap:=m}) :
  wpAny (model prog w) A (W8 (.ref it)) Q E s:=by
 obtain ⟨hp,g,dr,tk,os⟩:=s;have ty:Shared.TypeIs ⟨hp,g,dr,tk,os⟩ (.ref it) "dict_itemiterator":=⟨_,st,rfl⟩
 have hi:i < es.size:=(Array.getElem?_eq_some_iff.mp hx).1;have yR:es[i]=x:=by rw [YI hi] at hx;exact YB hx
 unfold W8;refine Ya (XH (YJ (name:=Y9 "__next__") ty Wu (YK Wu ty F.entry_dict_itemiterator_next ?_ (F.args_dict_itemiterator_next_1 _))));refine Ya (Yd (Ya (Ya (Ya (Wk ty (Yd (Ya (Yad st rfl ?_))))))));rw [show YZ "dict_itemiterator"=true from by decide]
 simp only [if_true]
 change wpAny _ _ (if (Value.ref d == Value.none)=true then _ else _) _ _ _;rw [if_neg (show ¬ ((Value.ref d == Value.none)=true) by exact Yp)];refine Ya (Yd (Ya (Xt e dd ?_)));rw [if_neg (show ¬ ((((es.size:Nat):Int) != ((es.size:Nat):Int))=true) by simp)];refine Ya (Yd (Ya (XR e dd ?_)));rw [if_neg (show ¬ ((((ep:Nat):Int) != ((ep:Nat):Int))=true) by simp)];refine Yd ?_
 simp only [show ¬ ((i:Int) < 0) by omega,if_false,Xc,YI hi]
 refine Ya (Ya (Wk ty (Yd (Ya (Ybi ty ?_)))));change wpAny _ _ (setField (Value.ref it) 3 (X7 ((i:Int) + 1)) >>= _) _ _ _;refine Ya (Y8 st (by simp) fun m1 s1 b1=>?_)
 replace b1:Xx it hp m1:=b1
 replace s1:Yan m1 it d (i + 1) es.size ep k0 v0:=by
  have z:((i + 1:Nat):Int)=(i:Int) + 1:=by omega
  unfold Yan;rw [z]
  simpa [X7] using s1
 have ty1:Shared.TypeIs ⟨m1,g,dr,tk,os⟩ (.ref it) "dict_itemiterator":=⟨_,s1,rfl⟩
 refine Ya (Y6 (Ya (Ybi ty1 (Ya (Ybi ty1 ?_)))));change wpAny _ _ (Builtin.Dict_items.pairFromOwner (Value.ref it) 6 es[i].key es[i].val) _ _ _;rw [yR];unfold Builtin.Dict_items.pairFromOwner;refine Ya (wpAny_newTuple ?_);have s2:Yan (m1.push {cls:=.type "tuple",data:=.seq #[x.key,x.val]}) it d (i + 1) es.size ep k0 v0:=Yc _ s1;have sz:m1.objs.size=hp.objs.size:=b1.1;have t2:(m1.push {cls:=.type "tuple",data:=.seq #[x.key,x.val]}).get? hp.objs.size=some {cls:=.type "tuple",data:=.seq #[x.key,x.val]}:=by rw [<- sz];exact Yi _ rfl
 have k2:∀ b o,b≠it->hp.get? b=some o->(m1.push {cls:=.type "tuple",data:=.seq #[x.key,x.val]}).get? b=some o:=fun b o hb q=>Yc _ (b1.extBut b o hb q);have lt:it < hp.objs.size:=Yj st;generalize m1.push {cls:=.type "tuple",data:=.seq #[x.key,x.val]}=m2 at s2 t2 k2;change wpAny _ _ (YbQ (Value.ref it) >>= _) _ _ ⟨m2,g,dr,tk,os⟩;rw [sz];refine Ya ?_;unfold YbQ;refine Ya (Y3 s2 rfl (x:=.none) rfl (Yd ?_))
 simp only [if_true]
 refine Ya (Y3 s2 rfl (x:=k0) rfl (Ya (Y3 s2 rfl (x:=v0) rfl ?_)));refine Ya (Y8 s2 (by simp) fun m3 s3 b3=>?_)
 replace b3:Xx it m2 m3:=b3
 replace s3:Yan m3 it d (i + 1) es.size ep x.key v0:=s3
 refine Ya (Y8 s3 (by simp) fun m4 s4 b4=>?_)
 replace b4:Xx it m3 m4:=b4
 replace s4:Yan m4 it d (i + 1) es.size ep x.key x.val:=s4
 refine Ya (Y8 s4 (by simp) fun m5 s5 b5=>?_)
 replace b5:Xx it m4 m5:=b5
 replace s5:IsItemIterOut m5 it d (i + 1) es.size ep x.key x.val hp.objs.size:=s5
 refine Ya (Y8 s5 (by simp) fun m6 s6 b6=>?_)
 replace b6:Xx it m5 m6:=b6
 replace s6:IsItemIterOut m6 it d (i + 1) es.size ep x.key x.val hp.objs.size:=s6
 have up:∀ b o,b≠it->m2.get? b=some o->m6.get? b=some o:=fun b o hb e=>b6.extBut b o hb (b5.extBut b o hb (b4.extBut b o hb (b3.extBut b o hb e)));exact Ya (wpAny_letGo (Yd (Yd ⟨_,rfl,Yd (q m6 s6 (up _ _ (WB lt) t2) fun b o hb e=>up b o hb (k2 b o hb e))⟩)))
theorem Zx4 {it d:Addr} {ob:Obj} {es:Array XG} {ep i:Nat} {k0 v0:Value} {Q:Option Value->Shared->Prop} (hh:A.handled=none) (st:Yan s.heap it d i es.size ep k0 v0) (e:s.heap.get? d=some ob) (dd:ob.data=.dict es ep) (hx:es.size<=i)
  (q:∀ m,Heap.ExtBut it s.heap m->Q none {s with heap:=m}):wpAny (model prog w) A (W8 (.ref it)) Q E s:=by
 have ty:s.TypeIs (.ref it) "dict_itemiterator":=⟨_,st,rfl⟩
 unfold W8;refine Ya (XH (YJ (name:=Y9 "__next__") ty Wu (YK Wu ty F.entry_dict_itemiterator_next ?_ (F.args_dict_itemiterator_next_1 _))));refine Ya (Yd (Ya (Ya (Ya (Wk ty (Yd (Ya (Yad st rfl ?_))))))));rw [show YZ "dict_itemiterator"=true from by decide]
 simp only [if_true]
 change wpAny _ _ (if (Value.ref d == Value.none)=true then _ else _) _ _ _;rw [if_neg (show ¬ ((Value.ref d == Value.none)=true) by exact Yp)];refine Ya (Yd (Ya (Xt e dd ?_)));rw [if_neg (show ¬ ((((es.size:Nat):Int) != ((es.size:Nat):Int))=true) by simp)];refine Ya (Yd (Ya (XR e dd ?_)));rw [if_neg (show ¬ ((((ep:Nat):Int) != ((ep:Nat):Int))=true) by simp)];refine Yd ?_
 simp only [show ¬ ((i:Int) < 0) by omega,if_false,Xc,Ybo hx]
 refine Ya (Ya (Wk ty (Yd ?_)));change wpAny _ _ (setField (Value.ref it) 2 .none >>= _) _ _ s;refine Ya (WQ st rfl (by simp) ?_);change wpAny _ _ (newExc (Value.type "StopIteration") [] >>= _) _ _ _;refine Ya ?_;simp only [newExc,newTuple];refine Ya (YF (Ya (m:=Ws _ _) (wpAny_of_eq (a:=Value.none) (by first | rfl | (simp only [Ws];rfl)) ?_)) (by size_fits));refine YF ?_ (by size_fits);simp only [raiseNew];refine Ya (wpAny_handled ?_);rw [show A.in1.handled=none from hh];refine Ya (Yd (wpAny_throw ?_));refine Ya (Yak (T:="StopIteration") (b:=true) ⟨_,Yi _ rfl,rfl⟩ YaG ?_);exact Yd (q _ (((XW ..).extBut.push _).push _))
end
theorem ZxU {P:Program} {w:World} {H:Hp}:∀ {kvs:List (List Key×V)} {xs:List (List Key×Addr×Value)},KT H kvs xs->∀ (i:Nat) k v,kvs[i]?=some (k,v)->∃ b u,(xs.map (entryOfKey (WY (Z4 P w))))[i]?=some (entryOfKey (WY (Z4 P w)) (k,b,u))/\H b=some (.tup (k.map kV))/\RelV v u
 | _,_,.nil,i,k,v,h=>by simp at h
 | _,_,.cons (a:=p) (b:=q) h t,0,k,v,e=>by
  simp at e
  obtain ⟨h1,h2,h3⟩:=h;refine ⟨q.2.1,q.2.2,?_,?_,?_⟩
  .have:q=(k,q.2.1,q.2.2):=by rw [show k=q.1 by rw [<- h1,e]]
   rw [Yt];show some _=_;rw [<- this]
  .rw [e] at h2;exact h2
  .rw [e] at h3;exact h3
 | _,_,.cons h t,i + 1,k,v,e=>by
  obtain ⟨b,u,h1,h2,h3⟩:=ZxU (P:=P) (w:=w) t i k v (by simpa using e);exact ⟨b,u,by simpa using h1,h2,h3⟩
theorem CU {P:Program} {w:World} {H:Hp} {h:Heap} {a:Addr} {kvs:List (List Key×V)} {ob:Obj} (x:bU P w H h a (.dT kvs)) (e:h.get? a=some ob) :
  kvs.length<=Ym/\(a == Xy)=false/\ob.ExactDict/\∃ es ep,ob.data=.dict es ep/\es.size=kvs.length/\∀ (i:Nat) k v,kvs[i]?=some (k,v)->∃ y b,es[i]?=some y/\y.key=.ref b/\H b=some (.tup (k.map kV))/\RelV v y.val:=by
 obtain ⟨z,y,xs,r,o,es,ep,e1,ex,dd,el,_⟩:=x;rw [e] at e1
 cases e1
 refine ⟨z,y,ex,es,ep,dd,?_,fun i k v hi=>?_⟩
 .have:es.toList.length=es.size:=YH
  rw [<- this,el,Yb,<- Xr r]
 .obtain ⟨b,u,h1,h2,h3⟩:=ZxU (P:=P) (w:=w) r i k v hi;refine ⟨entryOfKey (WY (Z4 P w)) (k,b,u),b,?_,rfl,h2,h3⟩;rw [<- XB,el];exact h1
def AF (d:Addr) (ob:Obj) (kvs:List (List Key×V)):It:=
 ⟨fun i H=>H d=some (.bu ob (.dT kvs))/\i < kvs.length,fun i H x H'=>∃ t b k v,H t=none/\x=.ref t/\kvs[i]?=some (k,v)/\H b=some (.tup (k.map kV))/\H'=upd H t (.tup [.ref b,v]),fun i H=>H d=some (.bu ob (.dT kvs))/\kvs.length<=i⟩
theorem Zse {P:Program} {w:World} {K:Frag} {elts:List Expr} {kk:Nat} {pos:Pos} (d it:Addr) (ob:Obj) (kvs:List (List Key×V)) (es:Array XG) (ep:Nat) (dd:ob.data=.dict es ep) :
  Turn P w K (.Tuple elts kk pos) (AF d ob kvs) [it] it (fun i h=>∃ k0 v0,Yan h it d i es.size ep k0 v0) where
 mem:=by simp
 obj:=fun i h st b hb=>by
  have e:b=it:=by simpa using hb
  subst e;obtain ⟨k0,v0,st⟩:=st;exact ⟨_,st,fun v z=>by cases z⟩
 keep:=fun i h h' st k=>by
  obtain ⟨k0,v0,st⟩:=st;exact ⟨k0,v0,k it (by simp) _ st⟩
 item:=by
  intro X hP hw hK hc i pins s σ H E I hf st hg;subst hP hw hK;obtain ⟨hH,hi⟩:=hg;obtain ⟨e,ok⟩:=I.aj d _ hH;obtain ⟨_,_,_,es',uS,fR,hl,bP⟩:=CU ok e;rw [dd] at fR
  cases fR
  obtain ⟨⟨k,v⟩,qv⟩:∃ p,kvs[i]?=some p:=⟨_,Yh hi⟩
  obtain ⟨y,b,hy,lj,hb,rv⟩:=bP i k v qv;obtain ⟨k0,v0,st⟩:=st;have lt:it < s.heap.objs.size:=Yj st;refine ZwY st e dd hy fun m o1 t1 kp=>?_;refine ⟨_,rfl,wpAny_letOwnedTupleGo_items (s:={s with heap:=m}) o1 fun m' fP sb=>?_⟩;have T2:m'.IsTuple s.heap.objs.size #[y.key,y.val]:=⟨_,sb.extBut _ _ (WB lt) t1,rfl,_,rfl⟩
  refine ⟨.ref s.heap.objs.size,_,I.jj (t':=s.toks) (wr:=[it]) hf (fun c o hn q=>?_) (Ye _) (CQ (xs:=[.ref b,v]) T2 (.cons lj (.cons rv .nil)) (by show 2<=Ym;decide)),rfl,⟨_,b,k,v,I.aj.fresh (Ye _),rfl,qv,hb,rfl⟩,⟨_,_,fP⟩,fun c hc=>?_⟩
  .have wZ:c≠it:=by simpa using hn
   exact sb.extBut _ _ wZ (kp c o wZ q)
  .have z:c=it:=by simpa using hc
   show upd H _ _ c=none;rw [Zf (by rw [z];exact Yu lt)];exact (hf c hc).1
 done:=by
  intro X hP hw hK hc i pins s σ H E I hf st hg;subst hP hw hK;obtain ⟨hH,hi⟩:=hg;obtain ⟨e,ok⟩:=I.aj d _ hH;obtain ⟨_,_,_,es',uS,fR,hl,bP⟩:=CU ok e;rw [dd] at fR
  cases fR
  obtain ⟨k0,v0,st⟩:=st;exact Zx4 (I.ok.hd hc) st e dd (by omega) fun m eb=>⟨rfl,I.jk (t':=s.toks) (wr:=[it]) hf fun c o hn q=>eb c o (by simpa using hn) q⟩
 self:=fun _ _ _ _ _ st h=>by
  obtain ⟨k0,v0,st⟩:=st;exact kcp_self st h
def Zx5 (tl:TE):TI:=fun σ H R=>tl σ H fun x H1=>∃ r d kvs,x=.ref r/\H1 r=some (xp r d)/\H1 d=some (.dT kvs)/\∀ ob,R (AF d ob kvs) (upd H1 d (.bu ob (.dT kvs)))
theorem Zu5 {X:Cx} {elts:List Expr} {kk:Nat} {tp:Pos} {l:Expr} {tl:TE} (hl:PE X l tl):PI X (.Tuple elts kk tp) l (Zx5 tl):=by
 try unfold PE at *
 intro pins s σ H R I h;refine aH (hl pins s σ H _ I h) fun v s1 ⟨x,H1,I1,r1,r,d,kvs,ex,hr,hd,q⟩=>?_;subst ex
 cases (show v=Value.ref r from r1)
 have hv:s1.heap.IsItemsView r d:=(I1.aj r _ hr).1;obtain ⟨ob,e,I2⟩:=I1.freeze hd rfl;obtain ⟨_,_,_,es,ep,dd,_⟩:=CU (I1.aj d _ hd) e;refine Zx3 hv e dd ?_;refine ⟨s1.heap.objs.size,[s1.heap.objs.size],_,_,_,rfl,I2.kept (t':=s1.toks) fun b o e=>Yc _ e,Zse d _ ob kvs es ep dd,⟨_,_,Yi _ rfl⟩,fun b hb=>?_,q ob⟩;have e:b=s1.heap.objs.size:=by simpa using hb
 subst e;exact I2.jf (Ye _) (I2.aj.fresh (Ye _))
section
variable {prog:Program} {w:World} {A:Around} {E:Value->Shared->Prop} {s:Shared}
theorem ZxV {d:Addr} {ob:Obj} {es:Array XG} {ep:Nat} {Q:Value->Shared->Prop} (hs:(d == Xy)=false) (e:s.heap.get? d=some ob) (ex:ob.ExactDict) (dd:ob.data=.dict es ep)
  (q:Q (.ref s.heap.objs.size) {s with heap:=s.heap.push {cls:=.type "dict_keyiterator",data:=.fields #[.ref d,.int 0 0,.int es.size 0,.int ep 0]}}):wpAny (model prog w) A (pyIter (.ref d)) Q E s:=by
 have ty:s.TypeIs (.ref d) "dict":=⟨ob,e,ex.1⟩
 refine wpAny_pyIter_slot ty F.slot_dict_iter (YK F.slot_dict_iter ty F.entry_dict_iter ?_ (F.args_dict_iter_1 _));unfold Builtin.«dict.__iter__»;refine Ya ?_;unfold Builtin.Dict.dictSlotNone;refine Ya (YbA ty ?_);change wpAny _ _ (pure (Value.ref d)) _ _ s;refine Yd ?_;change wpAny _ _ (X6 d >>= _) _ _ s;unfold X6;rw [if_neg (by rw [hs];exact Yp)];refine Ya (Yd (Ya (Xt e dd (Ya (XR e dd ?_)))));exact Ya (YF (Yd ⟨_,rfl,"dict_keyiterator",_,⟨_,Yi _ rfl,rfl⟩,F.slot_dict_keyiterator_next.lookup,by simpa [X7] using q⟩))
theorem ZwV {it d:Addr} {ob:Obj} {es:Array XG} {ep i:Nat} {x:XG} {Q:Option Value->Shared->Prop} (st:s.heap.IsKeyIter it d i es.size ep) (e:s.heap.get? d=some ob) (dd:ob.data=.dict es ep) (hx:es[i]?=some x)
  (q:∀ m,m.IsKeyIter it d (i + 1) es.size ep->Xx it s.heap m->Q (some x.key) {s with heap:=m}):wpAny (model prog w) A (W8 (.ref it)) Q E s:=by
 have ty:=st.typeIs;obtain ⟨oI,e1,c1,d1⟩:=st;have hi:i < es.size:=(Array.getElem?_eq_some_iff.mp hx).1;have yR:es[i]=x:=by rw [YI hi] at hx;exact YB hx
 have up:(s.heap.update it (Ya4 (·.setIfInBounds 1 (X7 ((i:Int) + 1))))).IsKeyIter it d (i + 1) es.size ep:=
  ⟨_,Yai _ e1 (YbC (Wx d1 _)),(Obj.cls_mapFields ..).trans c1,by rw [Wx d1];simp [X7]⟩
 unfold W8;refine Ya (XH (YJ (name:=Y9 "__next__") ty WC (YK WC ty F.entry_dict_keyiterator_next ?_ (F.args_dict_keyiterator_next_1 _))));refine Ya (Yd (Ya (Ya (Ya (Wt ty (Yd (Ya (Yad e1 d1 ?_))))))));rw [show YZ "dict_keyiterator"=false from by decide]
 simp only [YQ,if_false]
 change wpAny _ _ (if (Value.ref d == Value.none)=true then _ else _) _ _ s;rw [if_neg (show ¬ ((Value.ref d == Value.none)=true) by exact Yp)];refine Ya (Yd (Ya (Xt e dd ?_)));rw [if_neg (show ¬ ((((es.size:Nat):Int) != ((es.size:Nat):Int))=true) by simp)];refine Ya (Yd (Ya (XR e dd ?_)));rw [if_neg (show ¬ ((((ep:Nat):Int) != ((ep:Nat):Int))=true) by simp)];refine Yd ?_
 simp only [show ¬ ((i:Int) < 0) by omega,if_false,Xc,YI hi]
 refine Ya (Ya (Wt ty (Yd (Ya (wpAny_isOneOf_keyiter ty ?_)))));change wpAny _ _ (setField (Value.ref it) 1 (X7 ((i:Int) + 1)) >>= _) _ _ s;refine Ya (WQ e1 d1 (by simp) (Ya (Y6 ?_)));refine Ya (wpAny_isOneOf_keyiter (s:={s with heap:=s.heap.update it (Ya4 (·.setIfInBounds 1 (X7 ((i:Int) + 1))))}) up.typeIs ?_);change wpAny _ _ (pure es[i].key) _ _ _;rw [yR];exact Yd (Yd ⟨_,rfl,Yd (q _ up (XW ..))⟩)
theorem ZxW {it d:Addr} {ob:Obj} {es:Array XG} {ep i:Nat} {Q:Option Value->Shared->Prop} (hh:A.handled=none) (st:s.heap.IsKeyIter it d i es.size ep) (e:s.heap.get? d=some ob) (dd:ob.data=.dict es ep) (hx:es.size<=i)
  (q:∀ m,Heap.ExtBut it s.heap m->Q none {s with heap:=m}):wpAny (model prog w) A (W8 (.ref it)) Q E s:=by
 have ty:=st.typeIs;obtain ⟨oI,e1,c1,d1⟩:=st;unfold W8;refine Ya (XH (YJ (name:=Y9 "__next__") ty WC (YK WC ty F.entry_dict_keyiterator_next ?_ (F.args_dict_keyiterator_next_1 _))));refine Ya (Yd (Ya (Ya (Ya (Wt ty (Yd (Ya (Yad e1 d1 ?_))))))));rw [show YZ "dict_keyiterator"=false from by decide]
 simp only [YQ,if_false]
 change wpAny _ _ (if (Value.ref d == Value.none)=true then _ else _) _ _ s;rw [if_neg (show ¬ ((Value.ref d == Value.none)=true) by exact Yp)];refine Ya (Yd (Ya (Xt e dd ?_)));rw [if_neg (show ¬ ((((es.size:Nat):Int) != ((es.size:Nat):Int))=true) by simp)];refine Ya (Yd (Ya (XR e dd ?_)));rw [if_neg (show ¬ ((((ep:Nat):Int) != ((ep:Nat):Int))=true) by simp)];refine Yd ?_
 simp only [show ¬ ((i:Int) < 0) by omega,if_false,Xc,Ybo hx]
 refine Ya (Ya (Wt ty (Yd ?_)));change wpAny _ _ (setField (Value.ref it) 0 .none >>= _) _ _ s;refine Ya (WQ e1 d1 (by simp) ?_);change wpAny _ _ (newExc (Value.type "StopIteration") [] >>= _) _ _ _;refine Ya ?_;simp only [newExc,newTuple];refine Ya (YF (Ya (m:=Ws _ _) (wpAny_of_eq (a:=Value.none) (by first | rfl | (simp only [Ws];rfl)) ?_)) (by size_fits));refine YF ?_ (by size_fits);simp only [raiseNew];refine Ya (wpAny_handled ?_);rw [show A.in1.handled=none from hh];refine Ya (Yd (wpAny_throw ?_));refine Ya (Yak (T:="StopIteration") (b:=true) ⟨_,Yi _ rfl,rfl⟩ YaG ?_);exact Yd (q _ (((XW ..).extBut.push _).push _))
theorem ZwW (d:Addr) (ob:Obj) (es:Array XG) (ep:Nat) (hs:(d == Xy)=false) (ex:ob.ExactDict) (dd:ob.data=.dict es ep) :
  KdlSrc prog w "dict" d d es.size (fun i v=>∃ x,es[i]?=some x/\v=x.key) (fun h=>h.get? d=some ob) where
 type:=fun _ e=>⟨ob,e,ex.1⟩
 there:=fun _ e=>⟨Yj e,Yj e⟩
 keep:=fun _ _ e hk=>hk d (.inl rfl) ob e
 notList:=by decide
 notTuple:=by decide
 hint:=fun _ _ _ _ e hq=>kdl_hint_dict ⟨ob,e,ex.1⟩ hq
 iter:=fun A s hh e=>⟨_,fun i h=>h.IsKeyIter s.heap.objs.size d i es.size ep/\h.get? d=some ob,(fun _ _ hq=>ZxV hs e ex dd hq),
  {sub:=fun b hb=>by simp at hb;simp [hb]
   frame:=fun _ _ _ st hk=>⟨st.1.at fun o e=>hk _ (by simp) o e,hk d (by simp) _ st.2⟩
   item:=fun i s' Q E hi st hQ=>by
    have bZ:d≠s.heap.objs.size:=Yu (Yj e);refine ZwV st.1 st.2 dd (x:=es[i]) (by simp [hi]) fun m fP sb=>?_;exact hQ _ m s'.toks ⟨es[i],by simp [hi],rfl⟩ ⟨fP,sb.extBut _ _ bZ st.2⟩ fun b o hb q=>sb.extBut b o (fun h=>hb (by simp [h])) q
   done:=fun s' Q E st hQ=>ZxW hh st.1 st.2 dd (Ye _) fun m eb=>hQ m s'.toks fun b o hb q=>eb b o (fun h=>hb (by simp [h])) q
   self:=fun _ _ _ _ st hQ=>wpAny_pyIter_keyiter st.1 hQ},
  ⟨⟨_,Yi _ rfl,rfl,rfl⟩,Yc _ e⟩⟩
end
def Zys (H:Hp) (bs:List Addr) (ks:List (List Key)):Prop:=bs.length=ks.length/\∀ (i:Nat) b k,bs[i]?=some b->ks[i]?=some k->H b=some (.tup (k.map kV))
theorem Zq7 {X:Cx} (hc:X.calm=true:=by rfl):ff X (.type "list") (fun xs H Q=>∃ p kvs,xs=[.ref p]/\Rd H p (.dT kvs)/\∀ l bs,H l=none->Zys H bs (kvs.map (·.1))->Q (.ref l) (upd H l (.lst (bs.map V.ref)))):=by
 intro pins s σ H xs us Q I r h;obtain ⟨p,kvs,rfl,hp,q⟩:=h;obtain ⟨u,rfl,ru⟩:=r.one
 cases (show u=Value.ref p from ru)
 have ok:bU X.prog X.w H s.heap p (.dT kvs):=F9 I.aj hp;obtain ⟨ob,e⟩:=ok.there;obtain ⟨hz,hs,ex,es,ep,dd,hl,bP⟩:=CU ok e;refine kdl_call (ZwW (prog:=X.prog) (w:=X.w) p ob es ep hs ex dd) (I.ok.hd hc) e (by rw [hl];exact hz) fun h' tk acc c hk he hi=>?_
 -- g6 addresses of g6 keys
 have key:∀ n,n<=kvs.length->∃ bs:List Addr,bs.length=n/\∀ (i:Nat) b,bs[i]?=some b->∃ y k v,es[i]?=some y/\y.key=.ref b/\kvs[i]?=some (k,v)/\H b=some (.tup (k.map kV)):=by
  intro n
  induction n with
  | zero=>intro _;exact ⟨[],rfl,fun i b h=>by simp at h⟩
  | succ n ih=>
   intro hn;obtain ⟨bs,h1,h2⟩:=ih (by omega);obtain ⟨⟨k,v⟩,qv⟩:∃ p,kvs[n]?=some p:=⟨_,Yh (by omega)⟩
   obtain ⟨y,b,hy,lj,hb,_⟩:=bP n k v qv;refine ⟨bs++[b],by rw [Yg,h1];rfl,fun i c hc=>?_⟩
   by_cases hi:i < bs.length
   .rw [YaO hi] at hc;exact h2 i c hc
   .rw [WM (by omega)] at hc
    have:i - bs.length=0:=by
     cases hh:i - bs.length with
     | zero=>rfl
     | succ m=>rw [hh] at hc;simp at hc
    rw [this] at hc;have Fj:i=n:=by omega
    subst Fj
    simp at hc
    subst hc;exact ⟨y,k,v,hy,lj,qv,hb⟩
 obtain ⟨bs,uH,hbs⟩:=key kvs.length (Ye _);refine ⟨.ref _,_,I.kY hk (Ye _) he (xN (xs:=bs.map V.ref) ?_ fun j x w hx hw=>?_) (by rw [Yb,uH];exact hz),rfl,q _ bs I.fresh ⟨by rw [uH,Yb],fun i b k hb w6=>?_⟩⟩
 .have e3:acc.toList.length=acc.size:=YH;rw [Yb,e3,hi.1,hl,uH]
 .obtain ⟨y,hy,rfl⟩:=hi.2 j w (by rw [<- XB];exact hw);rw [Yo] at hx
  cases hb:bs[j]? with
  | none=>rw [hb] at hx;cases hx
  | some b=>
   rw [hb] at hx
   cases hx
   obtain ⟨y',k,v,wR,lj,_,_⟩:=hbs j b hb;rw [hy] at wR
   cases wR
   exact lj
 .obtain ⟨y,k',v,_,_,qv,hH⟩:=hbs i b hb;rw [Yo,qv] at w6
  cases w6
  exact hH
end L2
namespace L2
open PySem PySem.Spec PyProof.Rows PySem.W
def eJ (es:List (Str×Int)):List (Key×V):=es.map fun p=>(Xp p.1,V.int p.2)
def nu (h:Heap) (es:List (Str×Int)) (as:List Addr):Prop:=
 as.length=es.length/\∀ (j:Nat) (a:Addr) (p:Str×Int),as[j]?=some a->es[j]?=some p->∃ t u o n,h.get? a=some o/\o.cls=.type "tuple"/\o.data=.seq #[.str p.1 t,.int p.2 u] n
theorem nu.keep {h h':Heap} {es:List (Str×Int)} {as:List Addr} (e:nu h es as) (k:∀ a∈as,∀ o,h.get? a=some o->h'.get? a=some o):nu h' es as:=
 ⟨e.1,fun j a p ha hp=>by obtain ⟨t,u,o,n,q,r⟩:=e.2 j a p ha hp;exact ⟨t,u,o,n,k a (Yy ha) _ q,r⟩⟩
theorem nu.at {h:Heap} {es:List (Str×Int)} {as:List Addr} (e:nu h es as) {i:Nat} (hi:i < es.length):∃ a t u o n,as.getD i 0=a/\as[i]?=some a/\h.get? a=some o/\o.data=.seq #[.str (es.getD i (Str.empty,0)).1 t,.int (es.getD i (Str.empty,0)).2 u] n:=by
 have lK:i < as.length:=by rw [e.1];exact hi
 obtain ⟨t,u,o,n,q,_,q2⟩:=e.2 i as[i] es[i] (Yh lK) (Yh hi);refine ⟨as[i],t,u,o,n,?_,Yh lK,q,?_⟩
 .rw [Ys,Yh lK];rfl
 .rw [Ys,Yh hi];exact q2
section
variable {prog:Program} {w:World} {A:Around} {E:Value->Shared->Prop} {s:Shared}
theorem Zvy {es:List (Str×Int)} {as:List Addr} {i j:Nat} {C:Bool->Shared->Prop} (e:nu s.heap es as) (hi:i < es.length) (hj:j < es.length) (h:C (mE (es.getD i (Str.empty,0)) (es.getD j (Str.empty,0))) s) :
  kas_ask prog w A (tuples' true) (as.map Value.ref) i j C s:=by
 obtain ⟨a,t,u,o1,n1,h1,xj,h2,d2⟩:=e.at hi;obtain ⟨b,t',u',o2,n2,h3,xi,h4,d4⟩:=e.at hj;have g1:(as.map Value.ref).getD i Value.none=.ref a:=by rw [Ys,Yo,xj];rfl
 have g3:(as.map Value.ref).getD j Value.none=.ref b:=by rw [Ys,Yo,xi];rfl
 unfold kas_ask;rw [g1,g3];refine kat_lt h2 d2 h4 d4 ?_;generalize es.getD i (Str.empty,0)=p at h d2;generalize es.getD j (Str.empty,0)=q at h d4;refine kat_cons (wpAny_eqBool_str ?_)
 by_cases z:p.1=q.1
 .rw [decide_eq_true z];refine kat_yes (kat_cons (wpAny_eqBool_int ?_))
  by_cases y:p.2=q.2
  .rw [show (p.2 == q.2)=true by simp [y]];refine kat_yes (kat_nil ?_);unfold mE at h;rw [if_pos z,if_pos y] at h;exact h
  .rw [show (p.2 == q.2)=false by simp [y]];refine kat_no (kat_one _ _ ?_);unfold mE at h;rw [if_pos z,if_neg y] at h;exact lt_int h
 .rw [decide_eq_false z];refine kat_no ?_;unfold mE at h;rw [if_neg z] at h;exact oneLt_str h
end
theorem ZwU {es:List (Str×Int)}:∀ {vs:List (Key×Value)},KV (eJ es) vs->∀ (j:Nat) k x,vs[j]?=some (k,x)->∃ p u,es[j]?=some p/\k=.inr p.1/\x=.int p.2 u:=by
 intro vs r j k x h
 induction es generalizing vs j with
 | nil=>cases r;simp at h
 | cons p es ih=>
  cases r with
  | cons a t=>
   cases j with
   | zero=>
    simp at h
    obtain ⟨a1,u,a2⟩:=a;rw [h] at a1 a2;exact ⟨p,u,rfl,a1.symm,a2⟩
   | succ j=>exact ih t j (by simpa using h)
theorem Hu:∀ as:List Addr,Vals (as.map V.ref) (as.map Value.ref)
 | []=>.nil
 | _::r=>.cons rfl (Hu r)
section
variable {X:Cx} {pins:List (Addr×Obj)} {σ:St} {H:Hp} {s:Shared}
def CI (as:List Addr) (es:List (Str×Int)) (H:Hp):Hp:=qI (as.zip (es.map fun p=>[V.str p.1,V.int p.2])) H
theorem Zvz {as:List Addr} {es:List (Str×Int)} {H:Hp} (nd:as.Nodup) (hl:as.length=es.length) {j:Nat} {a:Addr} {p:Str×Int} (ha:as[j]?=some a) (hp:es[j]?=some p):CI as es H a=some (.tup [.str p.1,.int p.2]):=by
 refine Zo1 _ H a _ ?_ ?_
 .have:(as.zip (es.map fun p=>[V.str p.1,V.int p.2])).map (·.1)=as:=by
   rw [show (as.zip (es.map fun p=>[V.str p.1,V.int p.2])).map (·.1)=(as.zip (es.map fun p=>[V.str p.1,V.int p.2])).unzip.1 by rw [List.unzip_fst]];rw [List.unzip_zip_left (by rw [Yb,hl];exact Ye _)]
  rw [this];exact nd
 .refine Yy (i:=j) ?_;rw [YaN];exact ⟨ha,by rw [Yo,hp];rfl⟩
theorem Zo9 {prog:Program} {w:World} {A:Around} {E:Value->Shared->Prop} {P:PySem.Fin->Shared->Prop} {es:List (Str×Int)} {as:List Addr} {D:Addr} {n:Nat} (ent:nu s.heap es as) (nd:D ∉ as) (hD:s.heap.get? D=some (YT "list" (as.map Value.ref).toArray n)) (jF:es.length < 64)
  (fin:∀ (h3:Heap) (c:Nat) (outs:List Addr),(∀ b o,b≠D->s.heap.get? b=some o->h3.get? b=some o)->h3.get? D=some (YT "list" (outs.map Value.ref).toArray c)->
   outs.length=(bC es).length->outs.length<=es.length->(∀ (j:Nat) a p,outs[j]?=some a->(bC es)[j]?=some p->∃ i:Nat,as[i]?=some a/\es[i]?=some p)->P (.done (.ret .none)) {s with heap:=h3}) :
  wpAny (model prog w) A (Builtin.«list.sort» ⟨[.ref D],[]⟩) P E s:=by
 have dm:=ent.1;have hlen:(as.map Value.ref).length < 64:=by rw [Yb,dm];exact jF
 by_cases h2:(as.map Value.ref).length < 2
 .refine Zrk hD h2 fun h3 c kp he=>?_;refine fin h3 c as kp he ?_ (WW dm) fun j a p ha hp=>?_
  .unfold bC;rw [if_pos (by rw [Yb,dm] at h2;exact h2)];exact dm
  .unfold bC at hp;rw [if_pos (by rw [Yb,dm] at h2;exact h2)] at hp;exact ⟨j,ha,hp⟩
 .have e2:¬ es.length < 2:=by rw [Yb,dm] at h2;exact h2
  have uO:2<=(as.map Value.ref).length:=by omega
  have hlm:(as.map Value.ref).length=es.length:=by rw [Yb,dm]
  refine Zo8 (κ:=tuples' true) (lt:=fun i j=>mE (es.getD i (Str.empty,0)) (es.getD j (Str.empty,0))) hD uO hlen (fun h' Q' kp hq=>?_) (fun h' i j C kp hi hj hq=>?_) fun h3 c hsz kp he=>?_
  .have e':nu h' es as:=ent.keep fun a ha o e=>kp a o (fun z=>nd (z ▸ ha)) e
   have wC:∀ (es:List (Str×Int)) (as:List Addr),nu h' es as->∃ fs:List Value,fs.length=es.length/\KatTups h' (as.map Value.ref) fs/\∀ v∈fs,∃ x t,v=.str x t:=by
    intro es
    induction es with
    | nil=>
     intro as e
     have:as=[]:=List.length_eq_zero_iff.mp e.1
     subst this;exact ⟨[],rfl,KatTups.nil,fun v hv=>nomatch hv⟩
    | cons p es ih=>
     intro as e
     match as,e with
     | a::as,e=>
      obtain ⟨t,u,o,n,g,g1,g2⟩:=e.2 0 a p rfl rfl;obtain ⟨fs,f1,f2,f3⟩:=ih as ⟨by simpa using e.1,fun j b q hb hq=>e.2 (j + 1) b q (by simpa using hb) (by simpa using hq)⟩
      exact ⟨.str p.1 t::fs,by rw [Yz,Yz,f1],KatTups.cons g g1 g2 rfl f2,fun v hv=>by
       rcases List.mem_cons.mp hv with rfl | hv
       .exact ⟨_,_,rfl⟩
       .exact f3 v hv⟩
   obtain ⟨fs,f1,f2,f3⟩:=wC es as e';refine kat_kind (T:=.type "str") f2 (by omega) (fun v hv=>?_) (by decide) ?_
   .obtain ⟨x,t,rfl⟩:=f3 v hv;exact Looks.of_pure rfl
   .rw [show (Value.type "str" != Value.type "tuple")=true by decide];exact hq
  .exact Zvy (ent.keep fun a ha o e=>kp a o (fun z=>nd (z ▸ ha)) e) (by omega) (by omega) hq
  .rw [hlm] at he hsz;have low:bN es.length (ZB (fun i j=>mE (es.getD i (Str.empty,0)) (es.getD j (Str.empty,0))) (XQ es.length)):=tw _ (vx (n:=es.length) (by omega));have ux:bC es=(ZB (fun i j=>mE (es.getD i (Str.empty,0)) (es.getD j (Str.empty,0))) (XQ es.length)).toList.map fun i=>es.getD i (Str.empty,0):=by unfold bC;rw [if_neg e2]
   generalize ZB (fun i j=>mE (es.getD i (Str.empty,0)) (es.getD j (Str.empty,0))) (XQ es.length)=ix at he low ux hsz
   have mO:(ix.toList.map fun i=>(as.map Value.ref).getD i Value.none)=(ix.toList.map fun i=>as.getD i 0).map Value.ref:=by
    rw [XJ];refine YbP fun i hi=>?_;have lK:i < es.length:=low.lt i (by simpa using hi);obtain ⟨a,t,u,_,_,g1,g2,_⟩:=ent.at lK;show (as.map Value.ref).getD i Value.none=Value.ref (as.getD i 0);rw [g1,Ys,Yo,g2];rfl
   rw [mO] at he;refine fin h3 c _ kp he ?_ ?_ fun j a p ha hp=>?_
   .rw [ux,Yb,Yb]
   .rw [Yb,YH,hsz];exact Ye _
   .rw [ux] at hp;rw [Yo] at ha hp
    cases z:ix.toList[j]? with
    | none=>rw [z] at ha;cases ha
    | some i=>
     rw [z] at ha hp
     cases ha
     cases hp
     have lK:i < es.length:=low.lt i (by have:=Yy z;simpa using this);obtain ⟨a,t,u,_,_,g1,g2,_⟩:=ent.at lK;refine ⟨i,by show as[i]?=some (as.getD i 0);rw [g1];exact g2,?_⟩;show es[i]?=some (es.getD i (Str.empty,0));rw [Ys,Yh lK];rfl
theorem Zj7 (hc:X.calm=true:=by rfl):ff X (.builtin "sorted") (fun xs H Q=>∃ p d es,xs=[.ref p]/\H p=some (xp p d)/\Rd H d (.dK (eJ es))/\es.length < 64/\
  ∀ (l:Addr) (as:List Addr) (H':Hp),ag H H'->H l=none->H' l=some (.lst (as.map V.ref))->as.length=(bC es).length->as.length<=es.length->(∀ (j:Nat) a p,as[j]?=some a->(bC es)[j]?=some p->H' a=some (.tup [.str p.1,.int p.2]))->Q (.ref l) H'):=by
 intro pins s σ H xs us Q I r h;obtain ⟨p,d,es,rfl,hp,hd,jF,q⟩:=h;obtain ⟨u,rfl,ru⟩:=r.one
 cases (show u=Value.ref p from ru)
 have hv:s.heap.IsItemsView p d:=(I.aj p _ hp).1;obtain ⟨hz,hs,vs,rel,dd⟩:=kG I.aj hd;obtain ⟨ep,bP⟩:=dd.dictAt;have hvl:vs.length=es.length:=by rw [<- rel.length];exact Yb ..
 refine YaQ kind_sorted plain_sorted entry_sorted (args_sorted1 _) ?_;unfold Builtin.«sorted»;refine Ya (m:=checkCount "sorted" 1 1 _) (Yd ?_);refine Ya (kdx_collect (knd:=Z4 X.prog X.w) (kvs:=vs) (ep:=ep) (by first | exact I.ok.hd hc | exact (I.ok.hd hc)) hv bP (by rw [<- rel.length];exact hz) fun h1 tk as old lL G=>?_);have dm:as.length=es.length:=lL.trans hvl
 have ent:nu h1 es as:=⟨dm,fun j a p' ha rX=>by
  obtain ⟨key,k,x,h2,h3,h4⟩:=G.pairs j a ha;obtain ⟨p2,u,h5,h6,h7⟩:=ZwU rel j k x h2;rw [rX] at h5
  cases h5
  subst h6 h7;obtain ⟨t,rfl⟩:=(show RelV (.str p'.1) key from Gr h3)
  exact ⟨t,u,_,_,h4,rfl,rfl⟩⟩
 have nd:as.Nodup:=G.rise.imp fun h=>Yu h;have lt1:∀ a∈as,a < h1.objs.size:=fun a ha=>G.there ha;refine Ya (Ya3 ?_ (by rw [Yb,dm,WR];omega));have hD:(h1.push (YT "list" (as.map Value.ref).toArray 0)).get? h1.objs.size=some (YT "list" (as.map Value.ref).toArray 0):=Yi _ rfl
 have sD:s.heap.get? h1.objs.size=none:=by
  cases z:s.heap.get? h1.objs.size with
  | none=>rfl
  | some o=>exact absurd (Yj (old _ _ z)) (YN _)
 -- what every end Nd
 have fin:∀ (h3:Heap) (c:Nat) (outs:List Addr),(∀ b o,b≠h1.objs.size->(h1.push (YT "list" (as.map Value.ref).toArray 0)).get? b=some o->h3.get? b=some o)->h3.get? h1.objs.size=some (YT "list" (outs.map Value.ref).toArray c)->
   outs.length=(bC es).length->outs.length<=es.length->(∀ (j:Nat) a p,outs[j]?=some a->(bC es)[j]?=some p->∃ i:Nat,as[i]?=some a/\es[i]?=some p)->EP X pins σ Q (.ref h1.objs.size) {s with heap:=h3,toks:=tk}:=by
  intro h3 c outs kp he hol ME MR;have Me:∀ b o,s.heap.get? b=some o->h3.get? b=some o:=fun b o e=>kp b o (Yu (Yj (old b o e))) (Yc _ (old b o e))
  have CA:∀ a∈as,s.heap.get? a=none/\H a=none/\a≠h1.objs.size:=fun a ha=>by
   have:=G.above a ha
   refine ⟨?_,I.aj.fresh (WV this),Yu (lt1 a ha)⟩
   cases z:s.heap.get? a with
   | none=>rfl
   | some o=>exact absurd (Yj z) (Nat.not_lt.mpr (WV this))
  have M6:nu h3 es as:=ent.keep fun a ha o e=>kp a o (CA a ha).2.2 (Yc _ e)
  have mem:∀ b xs,(b,xs)∈as.zip (es.map fun p=>[V.str p.1,V.int p.2])->∃ (j:Nat) (p:Str×Int),as[j]?=some b/\es[j]?=some p/\xs=[V.str p.1,V.int p.2]:=fun b xs hm=>by
   obtain ⟨j,hj⟩:=List.mem_iff_getElem?.mp hm;rw [YaN] at hj;obtain ⟨j1,j2⟩:=hj;rw [Yo] at j2
   cases z:es[j]? with
   | none=>rw [z] at j2;cases j2
   | some p=>rw [z] at j2;cases j2;exact ⟨j,p,j1,z,rfl⟩
  have zw:H h1.objs.size=none:=(I.kept (h':=h1) (t':=tk) old).aj.fresh (Ye _)
  have sm:ag H (upd (CI as es H) h1.objs.size (.lst (outs.map V.ref))):=fun b o e=>by
   rw [Zf (Zg e zw)];unfold CI;rw [ZmL]
   .exact e
   .intro hm;obtain ⟨⟨b',xs⟩,hm1,rfl⟩:=List.mem_map.mp hm;obtain ⟨j,p,j1,_,_⟩:=mem _ _ hm1
    have:=(CA _ (Yy j1)).2.1
    rw [show b'=(b',xs).1 from rfl] at this;rw [this] at e
    cases e
  have F2:∀ (j:Nat) a p,as[j]?=some a->es[j]?=some p->(upd (CI as es H) h1.objs.size (.lst (outs.map V.ref))) a=some (.tup [.str p.1,.int p.2]):=fun j a p ha hp=>by
   rw [Zf (CA a (Yy ha)).2.2];exact Zvz nd dm ha hp
  refine ⟨.ref h1.objs.size,_,I.many (t':=tk) Me sm (fun b o e=>?_),rfl,q _ outs _ sm zw Zb hol ME fun j a p ha hp=>?_⟩
  .by_cases z:b=h1.objs.size
   .subst z;rw [Zb] at e
    cases e
    refine .inr ⟨sD,?_,(outs.map Value.ref),c,?_,he⟩
    .rw [Yb]
     have:(64:Nat)<=Ym:=by decide
     omega
    .exact Hu outs
   .rw [Zf z] at e;rcases Zo0 _ H b o e with y | ⟨xs,y,rfl⟩
    .exact .inl y
    .obtain ⟨j,p,j1,j2,rfl⟩:=mem _ _ y;obtain ⟨t,u,o',n',g,g1,g2⟩:=M6.2 j b p j1 j2;exact .inr ⟨(CA b (Yy j1)).1,CQ (vs:=#[.str p.1 t,.int p.2 u]) ⟨_,g,g1,_,g2⟩ (.cons ⟨t,rfl⟩ (.cons ⟨u,rfl⟩ .nil)) (by show 2<=Ym;decide)⟩
  .obtain ⟨i,i1,i2⟩:=MR j a p ha hp;exact F2 i a p i1 i2
 refine Ya (Y6 (YK slot_list_sort ⟨_,hD,rfl⟩ entry_list_sort (Zo9 (s:={s with heap:=h1.push (YT "list" (as.map Value.ref).toArray 0),toks:=tk}) (ent.keep fun a _ o e=>Yc _ e) (fun z=>YN _ (lt1 _ z)) hD jF fun h3 c outs kp he a b d=>⟨_,rfl,Yd ⟨_,rfl,fin h3 c outs kp he a b d⟩⟩) (args_list_sort _)))
theorem le64 {n:Nat} (h:n < 64):n<=Ym:=Yk (WV h) (by decide)
theorem Zro:∀ {as:List Addr} {its:List Value},Vals (as.map V.ref) its->its=as.map Value.ref
 | [],_,r=>by cases r;rfl
 | a::as,_,r=>by
  cases r with
  | cons h t=>rw [show _=Value.ref a from h,Zro t];rfl
theorem Zqh:ff X (.builtin "sorted") (fun xs H Q=>∃ (p:Addr) (as:List Addr) (es:List (Str×Int)),xs=[.ref p]/\Rd H p (.lst (as.map V.ref))/\as.length=es.length/\(∀ (j:Nat) a (q:Str×Int),as[j]?=some a->es[j]?=some q->H a=some (.tup [.str q.1,.int q.2]))/\es.length < 64/\
  ∀ (l:Addr) (outs:List Addr),H l=none->outs.length=(bC es).length->(∀ (j:Nat) a q,outs[j]?=some a->(bC es)[j]?=some q->H a=some (.tup [.str q.1,.int q.2]))->Q (.ref l) (upd H l (.lst (outs.map V.ref)))):=by
 intro pins s σ H xs us Q I r h;obtain ⟨p,as,es,rfl,hp,dm,bP,jF,q⟩:=h;obtain ⟨u,rfl,ru⟩:=r.one
 cases (show u=Value.ref p from ru)
 obtain ⟨its,rv,pl,hz⟩:=I.list (.inl hp);have hi:=Zro rv;subst hi
 have ent:nu s.heap es as:=⟨dm,fun j a p' ha rX=>by
  obtain ⟨_,its,rr,o,g,g1,n,g2⟩:=(show bU X.prog X.w H s.heap a (.tup [.str p'.1,.int p'.2]) from I.aj a _ (bP j a p' ha rX))
  cases rr with
  | cons r1 rr=>
   cases rr with
   | cons r2 rr=>
    cases rr
    obtain ⟨t,rfl⟩:=r1;obtain ⟨u,rfl⟩:=r2;exact ⟨t,u,o,n,g,g1,g2⟩⟩
 have lt:∀ a∈as,a < s.heap.objs.size:=fun a ha=>by
  obtain ⟨j,hj⟩:=List.mem_iff_getElem?.mp ha
  have:j < es.length:=by rw [<- dm];exact (List.getElem?_eq_some_iff.mp hj).1
  exact I.aj.lt (bP j a _ hj (Yh this))
 refine YaQ kind_sorted plain_sorted entry_sorted (args_sorted1 _) ?_;unfold Builtin.«sorted»;refine Ya (m:=checkCount "sorted" 1 1 _) (Yd ?_);refine Ya (collect_list pl.isList ?_ (by rw [Yb,dm];exact le64 jF));have vL:∀ b o,s.heap.get? b=some o->((s.heap.push (YT "list" #[] 0)).update s.heap.objs.size (Y1 fun x=>x++(as.map Value.ref).toArray)).get? b=some o:=fun b o e=>(Xq _ _ (WB (Yj e))).trans (Yc _ e);have yv:s.heap.objs.size<=((s.heap.push (YT "list" #[] 0)).update s.heap.objs.size (Y1 fun x=>x++(as.map Value.ref).toArray)).objs.size:=by rw [Heap.size_update,XN];omega
 generalize (s.heap.push (YT "list" #[] 0)).update s.heap.objs.size (Y1 fun x=>x++(as.map Value.ref).toArray)=h1 at vL yv ⊢;refine Ya (Ya3 ?_ (by rw [Yb,dm];exact le64 jF));have hD:(h1.push (YT "list" (as.map Value.ref).toArray 0)).get? h1.objs.size=some (YT "list" (as.map Value.ref).toArray 0):=Yi _ rfl;refine Ya (Y6 (YK slot_list_sort ⟨_,hD,rfl⟩ entry_list_sort (Zo9 (s:={s with heap:=h1.push (YT "list" (as.map Value.ref).toArray 0)}) (ent.keep fun a _ o e=>Yc _ (vL a o e)) (fun z=>absurd (Yq (lt _ z) yv) (YN _)) hD jF fun h3 c outs kp he e1 e2 d=>⟨_,rfl,Yd ⟨_,rfl,?_⟩⟩) (args_list_sort _)));have hn:H h1.objs.size=none:=I.aj.fresh yv;refine ⟨.ref h1.objs.size,_,I.kY (t':=s.toks) (fun b o e=>kp b o (Yu (Yq (Yj e) yv)) (Yc _ (vL b o e))) yv he (Hu outs) ?_,rfl,q _ outs hn e1 fun j a p' ha rX=>?_⟩
 .rw [Yb]
  have:(64:Nat)<=Ym:=by decide
  omega
 .obtain ⟨i,i1,i2⟩:=d j a p' ha rX;exact bP i a p' i1 i2
end
end L2
namespace L2
open PySem PySem.Spec PyProof.Rows PySem.W
def fH (ns:List Str):List Str:=
 if ns.length < 2 then ns else (ZB (fun i j=>decide ((ns.getD i Str.empty).cps.toList < (ns.getD j Str.empty).cps.toList)) (XQ ns.length)).toList.map fun i=>ns.getD i Str.empty
theorem Dc:∀ {ns:List Str} {vs:List Value},Vals (ns.map V.str) vs->∀ {i:Nat},i < ns.length->∃ t,vs.getD i Value.none=.str (ns.getD i Str.empty) t
 | [],_,_,_,h=>absurd h (Nat.not_lt_zero _)
 | n::ns,_,.cons ⟨t,e⟩ r,0,_=>⟨t,e⟩
 | n::ns,_,.cons _ r,i + 1,h=>by
  obtain ⟨t,e⟩:=Dc r (i:=i) (by simpa using h);exact ⟨t,by simpa using e⟩
theorem ZwT {ks:List Str}:∀ {kvs:List (Key×V)},kvs.map (·.1)=ks.map Xp->∀ {vs:List (Key×Value)},KV kvs vs->vs.map (·.1)=ks.map Xp:=by
 intro kvs h vs r;rw [<- r.keys];exact h
section
variable {X:Cx} {pins:List (Addr×Obj)} {σ:St} {H:Hp} {s:Shared}
theorem Zj8 (hc:X.calm=true:=by rfl):ff X (.builtin "sorted") (fun xs H Q=>∃ d kvs ns,xs=[.ref d]/\Rd H d (.dK kvs)/\kvs.map (·.1)=ns.map Xp/\ns.length < 64/\
  ∀ (l:Addr),H l=none->Q (.ref l) (upd H l (.lst ((fH ns).map V.str)))):=by
 intro pins s σ H xs us Q I r h;obtain ⟨d,kvs,ns,rfl,hd,hks,jF,q⟩:=h;obtain ⟨u,rfl,ru⟩:=r.one
 cases (show u=Value.ref d from ru)
 obtain ⟨hz,hs,vs,rel,dd⟩:=kG I.aj hd;obtain ⟨ep,bP⟩:=dd.dictAt
 have zd:kvs.length=ns.length:=by
  have:=congrArg List.length hks
  rw [Yb,Yb] at this;exact this
 refine YaQ kind_sorted plain_sorted entry_sorted (args_sorted1 _) ?_;unfold Builtin.«sorted»;refine Ya (m:=checkCount "sorted" 1 1 _) (Yd ?_);refine Ya (kdu_collect (kdl_dict (knd:=Z4 X.prog X.w) (kvs:=vs) (ep:=ep) hs) (by first | exact I.ok.hd hc | exact (I.ok.hd hc)) bP (by rw [<- rel.length];exact hz) fun h1 tk acc old hi=>?_)
 have lL:acc.toList.length=ns.length:=by
  have e3:acc.toList.length=acc.size:=YH;rw [e3,hi.1,<- rel.length,zd]
 have rv:Vals (ns.map V.str) acc.toList:=by
  refine xN (by rw [Yb,lL]) fun j x w hx hw=>?_;obtain ⟨k,y,hy,w6⟩:=hi.2 j w (by rw [<- XB];exact hw);have e1:(vs.map (·.1))[j]?=some k:=by rw [Yo,hy];rfl
  rw [ZwT hks rel,Yo] at e1;rw [Yo] at hx
  cases z:ns[j]? with
  | none=>rw [z] at hx;cases hx
  | some n=>
   rw [z] at hx e1
   cases hx
   cases e1
   exact Gr w6
 generalize acc.toList=us at lL rv;refine Ya (Ya3 ?_ (by rw [WR];omega));have hD:(h1.push (YT "list" us.toArray 0)).get? h1.objs.size=some (YT "list" us.toArray 0):=Yi _ rfl
 have sD:s.heap.get? h1.objs.size=none:=by
  cases z:s.heap.get? h1.objs.size with
  | none=>rfl
  | some o=>exact absurd (Yj (old _ _ z)) (YN _)
 have zw:H h1.objs.size=none:=(I.kept (h':=h1) (t':=tk) old).aj.fresh (Ye _)
 have fin:∀ (h3:Heap) (c:Nat) (outs:List Value),(∀ b o,b≠h1.objs.size->(h1.push (YT "list" us.toArray 0)).get? b=some o->h3.get? b=some o)->h3.get? h1.objs.size=some (YT "list" outs.toArray c)->
   (fH ns).length<=ns.length->Vals ((fH ns).map V.str) outs->EP X pins σ Q (.ref h1.objs.size) {s with heap:=h3,toks:=tk}:=by
  intro h3 c outs kp he hl ro;refine ⟨.ref h1.objs.size,_,I.many (t':=tk) (fun b o e=>kp b o (Yu (Yj (old b o e))) (Yc _ (old b o e))) (Zj zw) (fun b o e=>?_),rfl,q _ zw⟩
  by_cases z:b=h1.objs.size
  .subst z;rw [Zb] at e
   cases e
   refine .inr ⟨sD,?_,outs,c,ro,he⟩;rw [Yb]
   have:(64:Nat)<=Ym:=by decide
   omega
  .rw [Zf z] at e;exact .inl e
 refine Ya (Y6 (YK slot_list_sort ⟨_,hD,rfl⟩ entry_list_sort ?body (args_list_sort _)))
 case body=>
  by_cases h2:us.length < 2
  .refine Zrk (s:={s with heap:=h1.push (YT "list" us.toArray 0),toks:=tk}) hD h2 fun h3 c kp he=>?_;have e2:fH ns=ns:=by unfold fH;rw [if_pos (by omega)]
   exact ⟨_,rfl,Yd ⟨_,rfl,fin h3 c us kp he (by rw [e2];exact Ye _) (by rw [e2];exact rv)⟩⟩
  .have e2:¬ ns.length < 2:=by omega
   refine Zo8 (s:={s with heap:=h1.push (YT "list" us.toArray 0),toks:=tk}) (κ:=oneType') (lt:=fun i j=>decide ((ns.getD i Str.empty).cps.toList < (ns.getD j Str.empty).cps.toList)) hD (by omega) (by omega) (fun h' Q' kp hq=>?_) (fun h' i j C kp hi hj hq=>?_) fun h3 c hsz kp he=>?_
   .have hS:=Hk rv
    match us,h2,hS with
    | v1::v2::r,_,hS=>
     rw [keyKind_strs hS];exact Yd hq
    | [v1],h2,_=>exact absurd (by show 1 < 2;decide) h2
    | [],h2,_=>exact absurd (by decide) h2
   .obtain ⟨t,g1⟩:=Dc rv (i:=i) (by omega);obtain ⟨t',g2⟩:=Dc rv (i:=j) (by omega);unfold kas_ask;rw [g1,g2];exact kas_lt_str hq
   .rw [lL] at he hsz;have low:bN ns.length (ZB (fun i j=>decide ((ns.getD i Str.empty).cps.toList < (ns.getD j Str.empty).cps.toList)) (XQ ns.length)):=tw _ (vx (n:=ns.length) (by omega));have ux:fH ns=(ZB (fun i j=>decide ((ns.getD i Str.empty).cps.toList < (ns.getD j Str.empty).cps.toList)) (XQ ns.length)).toList.map fun i=>ns.getD i Str.empty:=by unfold fH;rw [if_neg e2]
    generalize ZB (fun i j=>decide ((ns.getD i Str.empty).cps.toList < (ns.getD j Str.empty).cps.toList)) (XQ ns.length)=ix at he low ux hsz;refine ⟨_,rfl,Yd ⟨_,rfl,fin h3 c _ kp he ?_ ?_⟩⟩
    .rw [ux,Yb,YH,hsz];exact Ye _
    .rw [ux]
     have:∀ l:List Nat,(∀ i∈l,i < ns.length)->Vals ((l.map fun i=>ns.getD i Str.empty).map V.str) (l.map fun i=>us.getD i Value.none):=by
      intro l
      induction l with
      | nil=>intro _;exact .nil
      | cons i r ih=>
       intro hl;obtain ⟨t,g⟩:=Dc rv (i:=i) (hl i YA);exact .cons ⟨t,g⟩ (ih fun j hj=>hl j (Yr _ hj))
     exact this _ fun i hi=>low.lt i (by simpa using hi)
end
end L2
namespace L2
open PySem PySem.Spec PyProof.Rows PySem.W
def Em (x:Str):It:=⟨fun i _=>i < x.cps.size,fun i H v H'=>H'=H/\∃ c,x.cps[i]?=some c/\v=.str ⟨#[c]⟩,fun i _=>i=x.cps.size⟩
theorem ZuP {P:Program} {w:World} {K:Frag} {tg:Expr} (it:Addr) (x:Str) (ty:String) (t:Tok)
  (W:∀ A':Around,A'.handled=none->Walks P w A' it [it] [it] x.cps.size (SignAt x) fun i h=>h.IsStrIter it ty x t i) (oY:∀ (A:Around) (i:Nat) (s:Shared) (Q:Value->Shared->Prop) (E:Value->Shared->Prop),s.heap.IsStrIter it ty x t i->Q (.ref it) s->wpAny (model P w) A (pyIter (.ref it)) Q E s):Turn P w K tg (Em x) [it] it (fun i h=>h.IsStrIter it ty x t i) where
 mem:=by simp
 obj:=fun i h st b hb=>by
  have e:b=it:=by simpa using hb
  subst e;obtain ⟨o,e,c,d⟩:=st;exact ⟨o,e,fun v z=>by rw [d] at z;cases z⟩
 keep:=fun i h h' st k=>let ⟨o,e,r⟩:=st;⟨o,k it (by simp) o e,r⟩
 item:=by
  intro X hP hw hK hc i pins s σ H E I hf st hg;subst hP hw hK;obtain ⟨f0,f1,f2,f3,f4,f5⟩:=hf it (by simp);refine (W X.A (I.ok.hd hc)).item i s _ _ hg st fun v h' tk hv fP kk=>?_;obtain ⟨c,t',hx,rfl⟩:=hv;have I1:Inv X pins σ H {s with heap:=h',toks:=tk}:=I.turned (fun b o hb e=>kk b o (by simpa using hb) e) f0 f1 f3 f4 f5;refine ⟨_,rfl,?_⟩;unfold Yax
  cases tg <;> exact Yd ⟨.str ⟨#[c]⟩,H,I1,⟨t',rfl⟩,⟨rfl,c,hx,rfl⟩,fP,fun b hb=>(hf b hb).1⟩
 done:=by
  intro X hP hw hK hc i pins s σ H E I hf st hg;subst hP hw hK;obtain ⟨f0,f1,f2,f3,f4,f5⟩:=hf it (by simp);have hg':i=x.cps.size:=hg;subst hg';exact (W X.A (I.ok.hd hc)).done s _ _ st fun h' tk kk=>⟨rfl,I.turned (fun b o hb e=>kk b o (by simpa using hb) e) f0 f1 f3 f4 f5⟩
 self:=fun A i s Q E st h=>oY A i s Q E st h
def Mt (tl:TE):TI:=fun σ H R=>tl σ H fun x H1=>∃ y,x=.str y/\R (Em y) H1
theorem ZvZ {X:Cx} {tg l:Expr} {tl:TE} (hl:PE X l tl):PI X tg l (Mt tl):=by
 try unfold PE at *
 intro pins s σ H R I h;refine aH (hl pins s σ H _ I h) fun v s1 ⟨x,H1,I1,r1,y,ex,q⟩=>?_;subst ex;obtain ⟨t,rfl⟩:=(show ∃ t,v=Value.str y t from r1)
 have fin:∀ (ty:String),(∀ A':Around,A'.handled=none->Walks X.prog X.w A' s1.heap.objs.size [s1.heap.objs.size] [s1.heap.objs.size] y.cps.size (SignAt y) fun i h=>h.IsStrIter s1.heap.objs.size ty y t i)->
   (∀ (A:Around) (i:Nat) (s:Shared) (Q:Value->Shared->Prop) (E:Value->Shared->Prop),s.heap.IsStrIter s1.heap.objs.size ty y t i->Q (.ref s1.heap.objs.size) s->wpAny (model X.prog X.w) A (pyIter (.ref s1.heap.objs.size)) Q E s)->
   LK X pins σ tg R (.ref s1.heap.objs.size) {s1 with heap:=s1.heap.push {cls:=.type ty,data:=.fields #[.str y t,.int 0 0]}}:=by
  intro ty W oY;refine ⟨s1.heap.objs.size,[s1.heap.objs.size],_,_,H1,rfl,I1.kept (t':=s1.toks) fun b o e=>Yc _ e,ZuP _ y ty t W oY,⟨_,Yi _ rfl,rfl,rfl⟩,fun b hb=>?_,q⟩;have e:b=s1.heap.objs.size:=by simpa using hb
  subst e;exact I1.jf (Ye _) (I1.aj.fresh (Ye _))
 cases ha:y.cps.all (· < 128)
 .exact wpAny_pyIter_wide ha (fin _ (fun A' hA=>Walks.strWide hA _ y t) fun A i s Q E st h=>wpAny_pyIter_striter_wide st h)
 .exact wpAny_pyIter_ascii ha (fin _ (fun A' hA=>Walks.strAscii hA _ y t) fun A i s Q E st h=>wpAny_pyIter_striter_ascii st h)
theorem zZ {J:It} {tt:TT} {te:TE} {σ:St} {ix:List Nat} {H1:Hp} {D:Addr} {Q:Hp->Prop} (n:Nat) (f:Nat->Option V) (Xi:Nat->V->Prop) (hD:H1 D=none) (hn:n<=Ym)
  (hgo:∀ i H',i < n->ag H1 H'->J.go i H') (cP:∀ H',ag H1 H'->J.stop n H') (hy:∀ i H' x H2,i < n->ag H1 H'->J.mn i H' x H2->H2=H'/\Xi i x)
  (hs:∀ i x H' (N:Option V->Hp->Prop),i < n->Xi i x->ag H1 H'->(∀ H5,ag H' H5->N (f i) H5)->tt (some x::ix.map fun i=>(σ[i]?).getD none) H' fun b H4=>if b=true then te (some x::ix.map fun i=>(σ[i]?).getD none) H4 fun v H5=>N (some v) H5 else N none H4)
  (hd:∀ H',ag H1 H'->H' D=some (.lst ((List.range n).filterMap f))->Q H') :
  ∃ W:Nat->Nat->St->List V->Hp->Prop,(∃ m,W 0 m (List.replicate 1 none++ix.map fun i=>(σ[i]?).getD none) [] (upd H1 D (.lst [])))/\
   ∀ i m aB ys H',W i m aB ys H'->H' D=some (.lst ys)/\((J.stop i H'/\Q H')∨(J.go i H'/\ys.length < Ym/\
    ∀ x H2,J.mn i H' x H2->xq 0 x aB H2 fun bI H3=>tt bI H3 fun b H4=>
     if b=true then te bI H4 fun v H5=>H5 D=some (.lst ys)/\∃ m',m' < m/\W (i + 1) m' bI (ys++[v]) (upd H5 D (.lst (ys++[v])))
     else ∃ m',m' < m/\W (i + 1) m' bI ys H4)):=by
 refine ⟨fun i m aB ys H'=>i<=n/\m=n - i/\(∃ o,aB=o::ix.map fun i=>(σ[i]?).getD none)/\ys=(List.range i).filterMap f/\H' D=some (.lst ys)/\ag H1 H',⟨n,Yv _,rfl,⟨none,rfl⟩,rfl,Zb,Zj hD⟩,?_⟩
 rintro i m aB ys H' ⟨hi,rfl,⟨o,rfl⟩,ey,hH,sm⟩
 refine ⟨hH,?_⟩
 by_cases br:i < n
 .have hyl:ys.length<=i:=by
   rw [ey];refine Yk (Ya1 _ _) ?_;rw [Xv];exact Ye _
  refine .inr ⟨hgo i H' br sm,by omega,fun x H2 hyy=>?_⟩;obtain ⟨rfl,hX⟩:=hy i H' x H2 br sm hyy
  have key:=hs i x H2 (fun ov H5=>match ov with
   | some v=>H5 D=some (.lst ys)/\∃ m',m' < n - i/\(i + 1<=n/\m'=n - (i + 1)/\(∃ o,(some x::ix.map fun i=>(σ[i]?).getD none)=o::ix.map fun i=>(σ[i]?).getD none)/\ys++[v]=(List.range (i + 1)).filterMap f/\(upd H5 D (.lst (ys++[v]))) D=some (.lst (ys++[v]))/\ag H1 (upd H5 D (.lst (ys++[v]))))
   | none=>∃ m',m' < n - i/\(i + 1<=n/\m'=n - (i + 1)/\(∃ o,(some x::ix.map fun i=>(σ[i]?).getD none)=o::ix.map fun i=>(σ[i]?).getD none)/\ys=(List.range (i + 1)).filterMap f/\H5 D=some (.lst ys)/\ag H1 H5)) br hX sm (fun H5 s5=>by
    have e1:(List.range (i + 1)).filterMap f=ys++(match f i with | some v=>[v] | none=>[]):=by
     rw [List.range_succ,List.filterMap_append,<- ey,List.append_cancel_left_eq]
     cases hf:f i <;> simp [Xw,hf]
    cases hf:f i with
    | some v=>
     refine ⟨s5 _ _ hH,n - (i + 1),by omega,br,rfl,⟨_,rfl⟩,by rw [e1,hf],Zb,fun b o e=>?_⟩;rw [Zf (Zg e hD)];exact s5 _ _ (sm _ _ e)
    | none=>exact ⟨n - (i + 1),by omega,br,rfl,⟨_,rfl⟩,by rw [e1,hf,Xf],s5 _ _ hH,sm.trans s5⟩)
  exact key
 .have e:i=n:=by omega
  subst e;refine .inl ⟨cP H' sm,hd H' sm ?_⟩;rw [<- ey];exact hH
end L2
namespace L2
open PySem
structure ZuJ (K:Yf) (C:Addr):Prop where
 ha:Xm K (.ref C) "__class__"=some (some (.builtin "object.__class__"))
 hn:PySem.W.specialIn K (.builtin "object.__class__") "__get__"=some (some (.builtin "getset_descriptor.__get__"))
 kE:PySem.W.takesIn K (.builtin "object.__class__")=some true
 hm:PySem.W.mroIn K C (.type "object")=some true
 hk:Yae K (.ref C) (.ref C)=some true
inductive vJ (K:Yf) (xs:List V) (H:Hp) (Q:VK):Prop
 | mk (a C dx:Addr) (fs:List (Str×V)):xs=[.ref a,.ref C]->H a=some (.ins C dx fs)->Cls K C->ZuJ K C->Q (.bl true) H->vJ K xs H Q
theorem ZvM {X:Cx}:ff X (.builtin "isinstance") (vJ X.K):=by
 intro pins s σ H xs us Q I r h;obtain ⟨a,C,dx,fs,rfl,ha,cl,O,q⟩:=h;obtain ⟨u,v,rfl,ru,rv⟩:=r.two
 cases (show v=Value.ref C from rv)
 exact ZpQ I ru (.ins ha cl O.ha O.hn O.kE O.hm) O.hk fun tk=>⟨.bl true,H,I.tok tk,rfl,q⟩
theorem ZxK {X:Cx} {a b:Expr} {ta tb:TE} {p pos:Pos} (ha:PE X a ta) (hb:PE X b tb) (hg:Gl X "isinstance") (hm:X.mg "isinstance"=none)
  (h1:Yx [a,b] X.env=(false,eval a X.env)::Yx [b] X.env:=by rfl) (h2:Yx [b] X.env=(false,eval b X.env)::Yx [] X.env:=by rfl) (cK:(Wi pos (Yx [b] X.env)).any (·.1)=false:=by rfl) :
  PE X (.Call (.Name "isinstance" p) [a,b] [] pos) (t8 (vJ X.K) (c9 ta (c9 tb bq))):=
 ZD ZvM hg hm PyProof.Rows.Boot.«isinstance» (Za ha (Za hb Ze h2) h1) (by decide) (by decide) h1 cK
end L2
namespace L2
open PySem PySem.Spec PyProof.Rows
end L2
namespace L2
open PySem
theorem ZxN {X:Cx} (hu:X.A.units + 1 < cLine):dU X (XS .NotEq) (fun x y H Q=>∃ a b kvs,x=.ref a/\y=.ref b/\Rd H a (.dK kvs)/\Rd H b (.dK [])/\Q (.bl (!kvs.isEmpty)) H):=by
 intro pins s σ H x y v u Q I rx ry h;obtain ⟨a,b,kvs,rfl,rfl,ha,hb,q⟩:=h
 cases rx
 cases ry
 obtain ⟨_,sa,vs,ra,da⟩:=kG I.aj ha;obtain ⟨_,sb,ws,rb,db⟩:=kG I.aj hb
 cases rb
 refine PySem.W.keq_ne (r:=true) sa sb da db (by omega) (fun hl=>?_) ?_
 .have:vs=[]:=List.length_eq_zero_iff.mp hl
  subst this;exact .nil
 .refine ⟨.bl (!kvs.isEmpty),H,I,?_,q⟩
  cases ra with
  | nil=>rfl
  | cons _ _=>rfl
theorem Ztv {H3:Hp} {a:Addr} {kvs:List (Key×V)} {k:Key} {z:V} {Q:VK} (h:H3 a=some (.dK kvs)) (q:∀ v H',H' a=some (.dK (hJ kvs k))->(∀ d o,d≠a->H3 d=some o->H' d=some o)->Q v H') :
  ∃ kvs k',H3 a=some (.dK kvs)/\kV k=kV k'/\(∀ v,aW kvs k'=some v->Q v (upd H3 a (.dK (hJ kvs k'))))/\(aW kvs k'=none->Q z H3):=by
 refine ⟨kvs,k,h,rfl,fun v _=>q v _ Zb fun d o hd e=>by rw [Zf hd];exact e,fun hn=>q z H3 ?_ fun _ _ _ e=>e⟩;rw [ZrV fun hm=>?_]
 .exact h
 .obtain ⟨p,hp,e⟩:=List.mem_map.mp hm;unfold aW at hn
  have:=List.find?_eq_none.mp (Option.map_eq_none_iff.mp hn) p hp
  simp [e] at this
end L2
namespace L2
open PySem PySem.Spec PyProof.Rows
def qD (CX:jK) (P:Program) (w:World) (K:Yf) (mg:Str->Option Value) (base:Heap) (N:List Str) (qual:Str) (scope:Scope) (f:Addr) (cd:Value) (cl:List (Str×Addr)) (A:Around) (outer:List Env) (s:Shared) (H:Hp) (E:XK):Cx where
 prog:=P
 w:=w
 K:=K
 mg:=mg
 base:=base
 A:=A.deeper (X1 qual scope s.heap.objs.size f cd cl)
 N:=N
 ar:=s
 aO:=H
 env:=X1 qual scope s.heap.objs.size f cd cl
 outer:=outer
 stack:=X1 qual scope s.heap.objs.size f cd cl::outer
 ex:=[]
 calm:=true
 fn:=fun _=>false
 pn:=[]
 xe:=fun e s'=>wpAny (model P w) (A.deeper (X1 qual scope s.heap.objs.size f cd cl)) (leaving (X1 qual scope s.heap.objs.size f cd cl) e) (fun _ iW=>CX outer H s E e iW) (fun e' iW=>CX outer H s E e' iW) s'
section
variable {P:Program} {w:World} {K:Yf} {mg:Str->Option Value} {base:Heap} {N:List Str} {qual:Str} {scope:Scope} {f:Addr} {cd:Value} {cl:List (Str×Addr)} {A:Around} {outer:List Env} {ar:Shared} {aO:Hp} {E:XK}
theorem qd:lS (ay P w) (qD (ay P w) P w K mg base N qual scope f cd cl A outer ar aO E) (fun _=>E):=by
 rintro pins σ H s e s' I ⟨a,cls,H',rfl,fl,hE⟩
 obtain ⟨B,a0,dy,aj,kB,tB⟩:=fl.ex;show wpAny (model P w) (A.deeper (X1 qual scope ar.heap.objs.size f cd cl)) (leaving (X1 qual scope ar.heap.objs.size f cd cl) (.ref a)) (fun _ iW=>ay P w outer aO ar E (.ref a) iW) (fun e' iW=>ay P w outer aO ar E e' iW) s';refine wpAny_leaves_onW (L:=ar.heap.objs.size) (outer:=outer) I.ok.frames rfl dy fun jP x1 x2=>?_
 have sub:∀ b∈bM outer,b∈bM (qD (ay P w) P w K mg base N qual scope f cd cl A outer ar aO E).stack:=fun b hb=>by
  show b∈List.filterMap (·.frame) (_::outer);rw [Xw];exact Yr _ hb
 have slots:∀ b o,b∈bM outer->s.heap.get? b=some o->∃ sl,jP.get? b=some {o with slots:=sl}:=fun b o hb q=>by
  obtain ⟨_,o',dZ,qt⟩:=I.bJ.mem hb;rw [q] at dZ
  cases dZ
  obtain ⟨sl,e1⟩:=fl.un.slot b o q (I.cw b (sub b hb)) (sub b hb) (fun z=>nomatch z);obtain ⟨kP,e2⟩:=x2 b _ e1 qt;exact ⟨kP,e2⟩
 have mY:∀ b o,ar.heap.get? b=some o->b ∉ bM outer->b ∉ bM (qD (ay P w) P w K mg base N qual scope f cd cl A outer ar aO E).stack:=fun b o q hb z=>by
  rcases List.mem_cons.mp (I.bW b z) with q1 | q1
  .have:=Yj q
   rw [q1] at this;exact absurd (Yq this I.ok.above) (YN _)
  .exact hb q1
 refine ⟨a,cls,H',rfl,⟨fl.os.trans I.os,fl.bare,Ha I rfl (fun b o q n hb=>x1.1 b o (kB b o q n hb)) (fun b o q hb=>?_) slots (fun b o q n=>fl.un.free b o q n (fun z=>nomatch z)) fl.un.cI fl.un.bV fl.un.ck,B,a0,x1,aj,fun b o q n hb=>?_,fun b o q hb=>?_⟩,hE⟩
 .obtain ⟨o',e1⟩:=tB b o q hb;exact ⟨o',x1.1 b o' e1⟩
 .exact kB b o (I.base.keep b o q n hb (fun z=>nomatch z)) (I.base.free b o q n (fun z=>nomatch z)) (mY b o q hb)
 .obtain ⟨o',e1⟩:=I.base.there b o q (fun z=>nomatch z);exact tB b o' e1 (mY b o q hb)
end
structure Dp (scope:Scope) (fv:List Str):Prop where
 kind:scope.kind=.function
 co:scope.isCoroutine=false
 gen:scope.isGenerator=false
 free:∀ y∈scope.names,y.2=.free
 lk:∀ y∈fv,scope.names.lookup y=some .free
 all:∀ y∈scope.names,y.1∈fv
structure yr (base:Heap) (cl:List (Str×Addr)) (fv:List Str) (vs:List V):Prop where
 has:∀ y∈fv,∃ c,cl.lookup y=some c
 inj:∀ x y c,cl.lookup x=some c->cl.lookup y=some c->x=y
 only:∀ x c,cl.lookup x=some c->∃ v,base.IsCell c v
 val:∀ (j:Nat) y v,fv[j]?=some y->vs[j]?=some v->∃ c u,cl.lookup y=some c/\base.IsCell c (some u)/\RelV v u
 len:vs.length=fv.length
def pX (qual:Str) (H:Hp) (c:Addr):Prop:=∃ oc vs t,H c=some (.bu oc (.ext fun _=>True))/\oc.data=.fields vs/\vs[1]?=some (Value.str qual t)
theorem Zx9 {CX:jK} {P:Program} {w:World} {K:Yf} {mg:Str->Option Value} {base:Heap} {k:Nat} {f c':Addr} {qual:Str} {params:Arguments} {body:Expr} {scope:Scope} {cl:List (Str×Addr)} {pm iA:Value} {fv:List Str} {vs:List V} {sp:Hp->VK->XK->Prop}
  (hf:base.get? f=some (W6 "<lambda>" qual params body scope cl pm c' iA)) (S:Dp scope fv) (C:yr base cl fv vs)
  (b_:∀ (A:Around) (outer:List Env) (s:Shared) (H:Hp) (Q:VK) (E:XK),aV k (A.deeper (X1 qual scope s.heap.objs.size f (.ref c') cl))->sp H Q E->
   ∃ t,PE (qD CX P w K mg base fv qual scope f (.ref c') cl A outer s H E) body t/\t (vs.map some) H Q) :
  ah P w K mg base CX (k + 1) f (PySem.W.kla_fn "<lambda>" qual params body scope cl pm (.ref c') iA) [] (fun us H Q E=>us=[]/\pX qual H c'/\sp H Q E):=by
 refine ⟨fun us H Q E h=>by rw [h.1];rfl,fun A outer s H args us vs' Q E hr e0 hb r fe=>?_⟩;obtain ⟨rfl,⟨oc,fs,t,hc,hd,h1⟩,fe⟩:=fe
 cases r
 have lim:s.heap.NoLimit:=e0.mod.nolimit.keeps fun b o e=>(e0.bs b o e).1;have hcr:s.heap.CodeRec (.ref c') qual:=⟨c',oc,fs,t,rfl,(e0.aj c' _ hc).1,hd,h1⟩
 refine PySem.W.kla_callFunE hr.depth (e0.bs _ _ hf).1 rfl S.co S.gen rfl hcr (hb _ _ _ _ ?_);refine YbF (fun y hy=>by rw [S.free y hy];decide) (fun y hy=>absurd (show y∈([]:List (Str×Value)) from hy) (by simp)) (fun h' mw hsb=>?_) S.kind;have old:∀ b o,s.heap.get? b=some o->h'.get? b=some o:=fun b o e=>hsb.extBut b o (Yu (Yj e)) (Yc _ e);refine ⟨lim.keeps old,PySem.W.kla_codeExpr ?_⟩;obtain ⟨t,ht,hq⟩:=b_ A outer s H Q E (hr.deeper _) fe;unfold PE at ht;have o_:∀ c v,base.IsCell c v->h'.IsCell c v/\H c=none:=fun c v ⟨o,ho,hd⟩=>⟨⟨o,old c o (e0.bs c o ho).1,hd⟩,(e0.bs c o ho).2⟩
 have I:Inv (qD CX P w K mg base fv qual scope f (.ref c') cl A outer s H E) [] (vs.map some) H {s with heap:=h',toks:=s.toks + ([]:List (Str×Value)).length}:=by
  have ui:∀ b:Addr,b ∉ (qD CX P w K mg base fv qual scope f (.ref c') cl A outer s H E).ex:=fun b z=>absurd (show b∈([]:List Addr) from z) (by simp)
  refine ⟨⟨e0.mod,S.kind,rfl,rfl,Ye _,C.inj,fun y hy=>?_,fun y c z=>(nomatch z),fun _=>hr.hd,Around.frames_deeper e0.frames,.inr ⟨rfl,rfl⟩,fun b z=>absurd z (ui b),e0.bs,e0.kR,fun b _ _=>ui b,fun b z=>absurd z (ui b),e0.bJ,e0.mC⟩,
   rfl,e0.bare,Un.kept old,⟨_,mw,fun i y v h1 h2 h3=>?_⟩,fun y c h=>?_,e0.aj.fresh (Ye _),fun y c h=>?_,fun p hp=>absurd (show p∈([]:List (Addr×Obj)) from hp) (by simp),e0.aj.kept old,?_⟩
  .have hy:scope.names.lookup y=some .cell∨scope.names.lookup y=some .free:=hy;rcases hy with hy | hy
   .exact C.has y (S.all _ (XT hy))
   .exact C.has y (S.all _ (XT hy))
  .have hv:vs[i]?=some v:=by
    rw [Yo] at h2
    cases e:vs[i]? with
    | none=>rw [e] at h2;cases h2
    | some a=>rw [e] at h2;cases h2;rfl
   obtain ⟨c,u,e1,e2,e3⟩:=C.val i y v h1 hv;exact ⟨u,e3,.inr ⟨.inr (S.lk y (Yy h1)),c,e1,(o_ c _ e2).1⟩⟩
  .obtain ⟨v,e⟩:=C.only y c h;exact ⟨v,(o_ c v e).1⟩
  .obtain ⟨v,e⟩:=C.only y c h;exact (o_ c v e).2
  .show (vs.map some).length=fv.length;rw [Yb,C.len]
 refine Xd (ht [] _ (vs.map some) H _ I hq) (fun u s' hs=>?_) fun e s' hs=>hs;obtain ⟨v,H',J,rv,q⟩:=hs;exact ⟨v,H',J.os,J.bare,J.base,J.aj,rv,q⟩
def ZvR (P:Program) (w:World) (K:Yf) (mg:Str->Option Value) (base:Heap) (CX:jK) (k:Nat) (E:St->XK) (i:Nat):TE:=fun σ H Q=>∃ f fd sp o,σ[i]?=some (some (.ref f))/\ah P w K mg base CX k f fd [] sp/\ZF K fd [] []/\base.get? f=some o/\o.data=.func fd/\sp [] H Q (E σ)
theorem Zu7 {X:Cx} {CX:jK} {k i:Nat} {x:Str} {p pos:Pos} {E:St->XK} (hr:aV k X.A) (hx:lS CX X E) (hN:X.N[i]?=some x:=by rfl) (hv:Ej X.env.scope x:=by first | exact Or.inl rfl | exact Or.inr (Or.inl rfl) | exact Or.inr (Or.inr rfl)) (hd:(x == ("__debug__":Str))=false:=by decide) (g_:(x == ("__classdict__":Str))=false:=by decide) :
  PE X (.Call (.Name x p) [] [] pos) (ZvR X.prog X.w X.K X.mg X.base CX k E i):=by
 have hn:=Zv0 (X:=X) (pos:=p) hN hv hd g_;unfold PE at *
 rintro pins s σ H Q I ⟨f,fd,sp,o,hi,F,hb,ho,Ff,h⟩
 refine XC (aH (hn pins s σ H (fun v H1=>v=.ref f/\H1=H) I ⟨_,hi,rfl,rfl⟩) fun u s1 ⟨v,H1,I1,rv,e1,e2⟩=>?_);subst e1 e2;obtain rfl:u=Value.ref f:=rv
 have nH:PySem.W.Frag.In [(f,o)] s1.heap:=fun a o' e=>by
  rw [Y5] at e
  cases z:a == f with
  | true=>
   rw [z] at e
   cases e
   rw [eq_of_beq z];exact I1.bk f o ho
  | false=>rw [z] at e;cases e
 have kp:XM [(f,o)] (.ref f)=true:=by
  obtain ⟨oc,od,da,sl⟩:=o
  cases Ff
  unfold XM;dsimp only;rw [Y5,beq_self_eq_true]
 exact YbO nH kp (zL (us:=[]) F hr hb .nil hx I1 .nil h)
def nY (qual:Str) (H:Hp) (ps:Array Value):Prop:=TriplesOk ps.toList/\∀ pos cv,codeAmong pos ps.toList=some cv->∃ c,cv=.ref c/\pX qual H c
def vf (qual:Str) (P:Addr) (H H1:Hp):Prop:=(∀ b o,H b=some o->b≠P->H1 b=some o)/\∃ ps,H1 P=some (.cO ps)/\nY qual H1 ps
theorem ZsZ {pos:Pos} {a b:Int} {c cv:Value}:∀ (l:List Value),TriplesOk l->codeAmong pos (l++[X7 a,X7 b,c])=some cv->codeAmong pos l=some cv∨cv=c:=by
 intro l
 induction l using TriplesOk.induct with
 | case1=>
  intro _ h
  right
  have h:codeAmong pos [Value.int a 0,Value.int b 0,c]=some cv:=h;rw [codeAmong.eq_1] at h
  split at h
  .cases h;rfl
  .rw [codeAmong.eq_2 _ _ (by intro _ _ _ _ _ _ z;cases z)] at h;cases h
 | case2 i t j t2 hd rest ih=>
  intro ht h;rw [TriplesOk.eq_2] at ht;rw [Yal,Yal,Yal,codeAmong.eq_1] at h;rw [codeAmong.eq_1]
  split at h
  .rename_i z;rw [if_pos z];exact .inl h
  .rename_i z;rw [if_neg z];exact ih ht h
 | case3 t h1 h2=>
  intro ht _;rw [TriplesOk.eq_3 t h1 h2] at ht;exact ht.elim
theorem pX.mono {qual:Str} {H H1:Hp} {c:Addr} (k:∀ b o u,H b=some (.bu o u)->H1 b=some (.bu o u)):pX qual H c->pX qual H1 c | ⟨oc,vs,t,h,r⟩=>⟨oc,vs,t,k _ _ _ h,r⟩
theorem nY.mono {qual:Str} {H H1:Hp} {ps:Array Value} (k:∀ b o u,H b=some (.bu o u)->H1 b=some (.bu o u)) (h:nY qual H ps):nY qual H1 ps:=⟨h.1,fun pos cv e=>let ⟨c,e1,e2⟩:=h.2 pos cv e;⟨c,e1,e2.mono k⟩⟩
section
variable {X:Cx} {pins:List (Addr×Obj)} {σ:St} {H:Hp} {s:Shared} {h':Heap}
theorem Inv.wu {P c:Addr} {ps more:Array Value} {oc:Obj} {t':Nat} (I:Inv X pins σ H s) (hP:H P=some (.cO ps)) (k:∀ b o,b≠P->s.heap.get? b=some o->h'.get? b=some o)
  (hp:h'.get? P=some (PySem.W.tabObj (ps++more))) (hc:s.heap.objs.size<=c) (y8:h'.get? c=some oc):Inv X pins σ (upd (upd H P (.cO (ps++more))) c (.bu oc (.ext fun _=>True))) {s with heap:=h',toks:=t'}:=by
 have lt:∀ b u,H b=some u->b≠c:=fun b u e z=>absurd (Yq (I.aj.lt e) hc) (by rw [z];exact YN _);have lt2:∀ b o,s.heap.get? b=some o->b≠c:=fun b o e z=>absurd (Yq (Yj e) hc) (by rw [z];exact YN _);have nP:∀ b,H b=none->b≠P:=fun b e z=>by rw [z,hP] at e;cases e
 have si:∀ b u,H b=some u->b≠P->upd (upd H P (.cO (ps++more))) c (.bu oc (.ext fun _=>True)) b=some u:=fun b u e z=>by rw [Zf (lt b u e),Zf z];exact e
 refine I.step (g':=s.gens) (d':=s.drawn) (ch:=[]) (fun _ z=>nomatch z) (fun b o _ _ _ e n=>k b o (nP b n) e) (fun b o _ _ _ e n=>⟨o.slots,k b o (nP b n) e⟩) (fun b o _ e n=>?_) (fun b o _ e=>?_) (fun b xs e=>si b _ e ?_) (fun b o u e=>si b _ e ?_) (fun b qs e=>?_) (fun m hm=>?_) (fun b u e=>?_) I.bare
 .rw [Zf (lt2 b o e),Zf (nP b n)];exact n
 .by_cases z:b=P
  .rw [z];exact ⟨_,hp⟩
  .exact ⟨o,k b o z e⟩
 .intro z;rw [z,hP] at e;cases e
 .intro z;rw [z,hP] at e;cases e
 .by_cases z:b=P
  .rw [z,hP] at e
   cases e
   exact ⟨more,by rw [z,Zf (lt P _ hP),Zb]⟩
  .exact ⟨#[],by rw [si b _ e z];simp⟩
 .obtain ⟨o,es,ep,ho,r⟩:=hm;exact ⟨o,es,ep,k _ o (nP _ I.free) ho,r⟩
 .by_cases z:b=c
  .subst z;rw [Zb] at e
   cases e
   exact ⟨y8,trivial,⟨oc,y8⟩,fun _ _ _ _=>trivial⟩
  .rw [Zf z] at e
   by_cases y:b=P
   .subst y;rw [Zb] at e
    cases e
    exact hp
   .rw [Zf y] at e;refine (I.aj b u e).dh (fun d v hd q=>k d v ?_ q) (fun d q=>si d _ q ?_) (fun d xs q=>si d _ q ?_)
    .rcases hd with rfl | hd
     .exact y
     .intro w;rw [w,hP] at hd;cases hd
    .intro w;rw [w,hP] at q;cases q
    .intro w;rw [w,hP] at q;cases q
end
theorem Zp2 {h base j5:Heap}:∀ {l:List Env},h.FunFrames base l->(∀ b∈bM l,j5.get? b=none)->h.FunFrames j5 l
 | [],_,_=>trivial
 | env::r,hl,hn=>by
  obtain ⟨hk,⟨L,o,hf,uD,ho,hd⟩,hr⟩:=hl;exact ⟨hk,⟨L,o,hf,hn L (by unfold bM;rw [Xw,hf];exact YA),ho,hd⟩,Zp2 hr fun b hb=>hn b (by unfold bM;rw [Xw,hf];exact Yr _ hb)⟩
def Bm (mg:Str->Option Value) (base:Heap):Prop:=∃ bm o,mg "__builtins__"=some (.ref bm)/\bm≠builtinsNs/\base.get? bm=some o/\o.cls=.type "module"/\o.dict=some builtinsNs/\o.data=.plain
def LZ (spT:Heap->Sp) (E:St->XK) (P:Addr) (qual:Str) (params:Arguments) (body:Expr) (scope:Scope) (fv:List Str) (ix:List Nat):TE:=fun σ H Q=>∃ ps vs,H P=some (.cO ps)/\nY qual H ps/\(ix.map fun i=>(σ[i]?).getD none)=vs.map some/\
 ∀ base f c cl pm iA H1,vf qual P H H1->pX qual H1 c->base.get? f=some (W6 "<lambda>" qual params body scope cl pm c iA)->yr base cl fv vs->spT base [.ref f] H1 Q (E σ)
theorem CL {X:Cx} {CX:jK} {x rn:Str} {p pos mK:Pos} {ft c P:Addr} {fdt:Yl} {spT:Heap->Sp} {kt:Nat} {E:St->XK} {params:Arguments} {body:Expr} {scope:Scope} {fv:List Str} {ix:List Nat}
  (F:∀ base:Heap,ah X.prog X.w X.K X.mg base CX kt ft fdt [rn] (spT base)) (hr:aV kt X.A) (hg:Gl X x) (hm:X.mg x=some (.ref ft)) (hk:XM X.K (.ref ft)=true) (hb:ZF X.K fdt [rn] []) (hx:lS CX X E)
  (hc:X.env.code=.ref c) (g_:PySem.W.CodeHd X.base c P) (Fp:Bm X.mg X.base) (S:pZ X scope [] fv ix) (L:Dp scope fv) (zf:∀ y,X.fn y=true) (uF:defaultsOf params X.env=([],[])) (kQ:(x == ("__debug__":Str))=false:=by decide) :
  PE X (.Call (.Name x p) [.Lambda params body scope mK] [] pos) (LZ spT E P (X.env.qual++"<lambda>") params body scope fv ix):=by
 unfold PE
 rintro pins s σ H Q I ⟨ps,vs,hP,hT,hvs,q⟩
 obtain ⟨cl,iG,cG,gw⟩:=IC (scope:=scope) (env:=X.env) (S.cells I.ok);have mw:∀ {b:Addr} {m:Str->Option Value} {j5:Heap},(∀ b o,X.base.get? b=some o->j5.get? b=some o)->X.base.Ns b m->j5.Ns b m:=fun k ⟨o,es,ep,e,r⟩=>⟨o,es,ep,k _ _ e,r⟩
 have fin:∀ (f c:Addr) (iA:Value) (s1:Shared) (H1:Hp),Inv X pins σ H1 s1->s1.heap.get? f=some (W6 "<lambda>" (X.env.qual++"<lambda>") params body scope cl ((X.mg "__name__").getD .none) c iA)->s.heap.objs.size<=f->H1 f=none->vf (X.env.qual++"<lambda>") P H H1->pX (X.env.qual++"<lambda>") H1 c->
   wpAny (model X.prog X.w) X.A (spliced []) (fun us s2=>X.K.In s2.heap/\wpAny (model X.prog X.w) X.A (call (.ref ft) ([]++(.ref f::us))) (EP X pins σ Q) X.xe s2) X.xe s1:=by
  intro f c iA s1 H1 I1 hf hsz MO BP j3;refine WK ⟨I1.cg,?_⟩
  let kp:Addr->Bool:=fun b=>(X.base.get? b).isSome || decide (b=f) || fv.any fun y=>cl.lookup y == some b
  let Hs:Hp:=fun b=>if kp b=true then none else some (.own 0)
  have rm:∀ b o,kp b=true->s1.heap.get? b=some o->(cm s1.heap Hs).get? b=some o:=fun b o z e=>ZrO e (if_pos z)
  have tS:∀ b o,(cm s1.heap Hs).get? b=some o->s1.heap.get? b=some o/\kp b=true:=fun b o e=>by
   obtain ⟨e1,e2⟩:=ZtF e;refine ⟨e1,?_⟩
   by_cases z:kp b=true
   .exact z
   .have e2:(if kp b=true then none else some (HO.own 0))=none:=e2;rw [if_neg z] at e2;cases e2
  have l0:∀ b o,X.base.get? b=some o->(cm s1.heap Hs).get? b=some o:=fun b o e=>rm b o (by show ((X.base.get? b).isSome || _ || _)=true;rw [e];rfl) (I1.bk b o e);have kf:kp f=true:=by show (_ || decide (f=f) || _)=true;rw [decide_eq_true rfl,WX];rfl
  have kc:∀ y c,y∈fv->cl.lookup y=some c->kp c=true:=fun y c hy e=>by
   show (_ || _ || fv.any fun y=>cl.lookup y == some c)=true;rw [List.any_eq_true.mpr ⟨y,hy,by rw [e];exact beq_self_eq_true _⟩,WX]
  have of:∀ b,kp b=true->(∃ o,X.base.get? b=some o)∨b=f∨∃ y,X.env.cells.lookup y=some b:=fun b z=>by
   have z:((X.base.get? b).isSome || decide (b=f) || fv.any fun y=>cl.lookup y == some b)=true:=z;rw [Xz,Xz] at z;rcases z with (z | z) | z
   .exact .inl (Option.isSome_iff_exists.mp z)
   .exact .inr (.inl (of_decide_eq_true z))
   .obtain ⟨y,_,e⟩:=List.any_eq_true.mp z;exact .inr (.inr ⟨y,(cG y b (eq_of_beq e)).1⟩)
  have vM:∀ b∈bM X.stack,(cm s1.heap Hs).get? b=none:=fun b hb=>by
   cases e:(cm s1.heap Hs).get? b with
   | none=>rfl
   | some o=>
    exfalso
    obtain ⟨e1,e2⟩:=tS b o e;rcases of b e2 with ⟨o',z⟩ | z | ⟨y,z⟩
    .have:=(I1.stack.mem hb).1
     rw [z] at this;cases this
    .obtain ⟨_,o',dZ,_⟩:=I.stack.mem hb;exact absurd (Yq (Yj dZ) hsz) (by rw [z];exact YN _)
    .rcases List.mem_cons.mp (I1.bW b hb) with w | w
     .exact I1.nV y b z w
     .obtain ⟨_,o',dZ,_⟩:=I1.ok.bJ.mem w;exact absurd (Yq (Yj dZ) (I1.ok.pO y b (zf y) z)) (YN _)
  have MJ:Mod X.K X.mg (cm s1.heap Hs):=⟨I1.ok.mod.nH.keeps l0,mw l0 I1.ok.mod.glob,let ⟨mb,h1,h2⟩:=I1.ok.mod.blt;⟨mb,mw l0 h1,h2⟩,I1.ok.mod.nolimit.keeps l0⟩
  have e0:jg X.prog X.w X.K X.mg (cm s1.heap Hs) X.A X.stack s1 H1:=⟨I1.ok.frames,MJ,fun b o e=>by
   obtain ⟨e1,e2⟩:=tS b o e;refine ⟨e1,?_⟩;rcases of b e2 with ⟨o',z⟩ | z | ⟨y,z⟩
   .exact (I1.bs b o' z).2
   .rw [z];exact MO
   .exact I1.bg y b z,WW (ZpU _ _),Zp2 I1.stack vM,I1.cw,I1.aj,I1.bare⟩
  have MP:yr (cm s1.heap Hs) cl fv vs:=by
   have mem:∀ y,y∈fv->(y,YG)∈scope.names:=fun y hy=>IL (L.lk y hy);refine ⟨fun y hy=>gw y (mem y hy),fun y z c h1 h2=>I1.ok.inj y z c (cG y c h1).1 (cG z c h2).1,fun y c h=>?_,fun j y v h1 h2=>?_,?_⟩
   .obtain ⟨v,o,ho,hd⟩:=I1.cell y c (cG y c h).1;exact ⟨v,o,rm c o (kc y c (L.all _ (cG y c h).2) h) ho,hd⟩
   .obtain ⟨i,hi,hN⟩:=S.slots j y h1
    have e2:σ[i]?=some (some v):=by
     have z:=congrArg (fun l=>l[j]?) hvs
     simp only [Yo] at z
     rw [hi,h2] at z;exact ZpZ (YB z)
    have hy:y∈fv:=Yy h1;have zc:=S.outer _ (mem y hy) rfl;obtain ⟨m0,uD,uE⟩:=I1.loc;obtain ⟨u,r,l⟩:=uE i y v hN e2 (zc.elim (fun z=>.inr (.inl z)) fun z=>.inr (.inr z));rcases l with ⟨k,_⟩ | ⟨_,d,ed,o,ho,hd⟩
    .have k':X.env.kindOf y=some .local:=k;rcases zc with q | q <;> (rw [q] at k';cases k')
    .obtain ⟨c',mB⟩:=gw y (mem y hy);have zB:=(cG y c' mB).1;rw [ed] at zB
     cases zB
     exact ⟨d,u,mB,⟨o,rm d o (kc y d hy mB) ho,hd⟩,r⟩
   .have z:=congrArg List.length hvs;rw [Yb,Yb,S.len] at z;exact z.symm
  refine wpAny_call (YaA ((F (cm s1.heap Hs)).run X.A X.stack s1 H1 ⟨[.ref f],[]⟩ [.ref f] [.ref f] Q (E σ) hr e0 (hb s1 [.ref f] I1.cg rfl) (.cons rfl .nil) (q _ f c cl _ iA H1 BP j3 (rm f _ kf hf) MP)) fun r s' hq=>?_)
  cases r with
  | error e=>exact hx pins σ H1 s1 e s' I1 hq
  | ok fl=>
   cases fl with
   | ret u=>exact I1.after hq
   | next=>exact Xa hq
   | brk=>exact Xa hq
   | cont=>exact Xa hq
 have Bp:PySem.W.CodeHd s.heap c P:=g_.keeps I.bk;have zt:s.heap.get? P=some (PySem.W.tabObj ps):=I.aj P _ hP;have rf:s.heap.Ns Xj X.mg:=mw I.bk I.ok.mod.glob
 have nP:Xj≠P:=fun z=>by
  obtain ⟨o,es,ep,e,d,_⟩:=rf;rw [z,zt] at e;cases e;cases d
 have Cr:s.heap.BuiltinsAt X.mg P:=by
  obtain ⟨bm,o,h1,h2,h3,h4,h5,h6⟩:=Fp;have xi:=I.bk bm o h3;refine ⟨bm,o,h1,h2,fun z=>?_,fun z=>?_,xi,h4,h5,h6⟩
  .obtain ⟨o',es,ep,e,d,_⟩:=rf;rw [<- z,xi] at e;cases e;rw [h6] at d;cases d
  .rw [z,zt] at xi;cases xi;cases h6
 refine XC (sL I hg hm ?_ kQ);refine W9 (h₀:=X.base) I.ok.mod.nH hk ?_ rfl rfl;show wpAny _ _ (spliced ((false,eval (.Lambda params body scope mK) X.env)::[])) _ _ s;refine XD (PySem.W.kla_eval uF ?_)
 cases Fo:codeAmong mK ps.toList with
 | some cv=>
  obtain ⟨c',rfl,Cq⟩:=hT.2 mK cv Fo;refine PySem.W.kla_makeFunctionHit iG I.ok.glob rf hc Bp zt hT.1 Fo Cr fun iA h' tk k hsz=>?_;refine fin h'.objs.size c' iA _ H (I.kept fun b o e=>Yc _ (k b o e)) (Yi _ rfl) hsz (I.aj.fresh hsz) ⟨fun b o e _=>e,ps,hP,hT⟩ Cq
 | none=>
  refine PySem.W.kla_makeFunction iG I.ok.glob rf hc Bp zt hT.1 Fo nP Cr fun c' iA h' tk E6 h1 h2 h3 h4=>?_;obtain ⟨cc,oc,fs,t,e1,e2,e3,e4⟩:=h3
  cases e1
  have sz:s.heap.objs.size<=h'.objs.size:=Yk h1 (WV h2);have ltP:P < s.heap.objs.size:=Yj zt;refine fin h'.objs.size c' iA _ _ (I.wu (h':=h'.push _) hP (fun b o n e=>Yc _ (E6 b o n e)) (Yc _ h4) h1 (Yc _ e2)) (Yi _ rfl) sz ?_ ?_ ?_
  .rw [Zf (WB h2),Zf (WB (Yq ltP sz))];exact I.aj.fresh sz
  .have si:∀ b o,H b=some o->b≠P->upd (upd H P (.cO (ps++#[X7 mK.line,X7 mK.col,.ref c']))) c' (.bu oc (.ext fun _=>True)) b=some o:=fun b o e n=>by
    rw [Zf (Yu (Yq (I.aj.lt e) h1)),Zf n];exact e
   refine ⟨si,_,by rw [Zf (Yu (Yq ltP h1)),Zb],?_,fun pos' cv e=>?_⟩
   .rw [Array.toList_append];exact TriplesOk_snoc _ _ _ _ hT.1
   .rw [Array.toList_append] at e;rcases ZsZ _ hT.1 e with z | z
    .obtain ⟨d,z1,z2⟩:=hT.2 pos' cv z;exact ⟨d,z1,z2.mono fun b o u e=>si b _ e fun w=>by rw [w,hP] at e;cases e⟩
    .exact ⟨c',z,oc,fs,t,Zb,e3,e4⟩
  .exact ⟨oc,fs,t,Zb,e3,e4⟩
end L2
namespace L2
open PySem PySem.Spec PyProof.Rows PySem.W
theorem x8 {α β:Type} (lt:Nat->Nat->Bool) (f:α->KasT β):∀ t:KasT α,ZB lt (t.bind f)=ZB lt (f (ZB lt t))
 | .ret _=>rfl
 | .ask i j k=>x8 lt f (k (lt i j))
structure Ord (n:Nat) (lt:Nat->Nat->Bool):Prop where
 tr:∀ i j k,i < n->j < n->k < n->lt i j=true->lt j k=true->lt i k=true
 ap:∀ i j,i < n->j < n->i≠j->lt i j=!lt j i
def Up (lt:Nat->Nat->Bool) (p:Array Nat) (m:Nat):Prop:=∀ i j,i < j->j < m->lt (p.getD i 0) (p.getD j 0)=true
def Dn (lt:Nat->Nat->Bool) (p:Array Nat) (m:Nat):Prop:=∀ i j,i < j->j < m->lt (p.getD j 0) (p.getD i 0)=true
theorem bN.size {n:Nat} {p:Array Nat} (h:bN n p):p.size=n:=by
 have:=Array.Perm.size_eq h
 simpa using this
theorem bN.ne {n:Nat} {p:Array Nat} (h:bN n p) {i j:Nat} (hi:i < n) (hj:j < n) (e:i≠j):p.getD i 0≠p.getD j 0:=by
 have hs:=h.size
 have nd:p.toList.Nodup:=by
  have h2:p.toList.Perm (List.range n):=by simpa using h.toList
  exact h2.nodup_iff.mpr List.nodup_range
 intro z;rw [YE,YE,YI (by omega),YI (by omega),YD,YD] at z;rw [<- Yaq,<- Yaq] at z;exact e ((Ybf nd).mp z)
section
variable {n:Nat} {lt:Nat->Nat->Bool} (O:Ord n lt) (hn:0 < n)
include O hn
theorem Ord.flip {p:Array Nat} (h:bN n p) {i j:Nat} (hi:i < n) (hj:j < n) (e:i≠j) (c:lt (p.getD i 0) (p.getD j 0)=false):lt (p.getD j 0) (p.getD i 0)=true:=by
 rw [O.ap _ _ (h.at hn j) (h.at hn i) (h.ne hj hi (WO e)),c];rfl
theorem Up.next {p:Array Nat} (h:bN n p) {x:Nat} (h1:1<=x) (hx:x < n) (u:Up lt p x) (c:lt (p.getD (x - 1) 0) (p.getD x 0)=true):Up lt p (x + 1):=by
 intro i j qw hj
 by_cases z:j=x
 .subst z
  by_cases y:i=j - 1
  .rw [y];exact c
  .exact O.tr _ _ _ (h.at hn _) (h.at hn _) (h.at hn _) (u i (j - 1) (by omega) (by omega)) c
 .exact u i j qw (by omega)
theorem Gy {p:Array Nat} (h:bN n p):∀ (f x:Nat),1<=x->x + f<=n->Up lt p x->x<=ZB lt (Wj p f x)/\ZB lt (Wj p f x)<=x + f/\Up lt p (ZB lt (Wj p f x))/\(ZB lt (Wj p f x) < x + f->lt (p.getD (ZB lt (Wj p f x)) 0) (p.getD (ZB lt (Wj p f x) - 1) 0)=true)
 | 0,x,_,_,u=>⟨Ye _,Ye _,u,fun z=>absurd z (YN _)⟩
 | f + 1,x,h1,hf,u=>by
  rw [show Wj p (f + 1) x=_ from kas_asc.eq_2 p x f];show x<=ZB lt ((fun c=>if c=true then Yav x else Wj p f (x + 1)) (lt (p.getD x 0) (p.getD (x - 1) 0)))/\_;show x<=ZB lt ((fun c=>if c=true then Yav x else Wj p f (x + 1)) (lt (p.getD x 0) (p.getD (x - 1) 0)))/\ZB lt ((fun c=>if c=true then Yav x else Wj p f (x + 1)) (lt (p.getD x 0) (p.getD (x - 1) 0)))<=x + (f + 1)/\Up lt p (ZB lt ((fun c=>if c=true then Yav x else Wj p f (x + 1)) (lt (p.getD x 0) (p.getD (x - 1) 0))))/\(ZB lt ((fun c=>if c=true then Yav x else Wj p f (x + 1)) (lt (p.getD x 0) (p.getD (x - 1) 0))) < x + (f + 1)->lt (p.getD (ZB lt ((fun c=>if c=true then Yav x else Wj p f (x + 1)) (lt (p.getD x 0) (p.getD (x - 1) 0)))) 0) (p.getD (ZB lt ((fun c=>if c=true then Yav x else Wj p f (x + 1)) (lt (p.getD x 0) (p.getD (x - 1) 0))) - 1) 0)=true)
  cases c:lt (p.getD x 0) (p.getD (x - 1) 0) with
  | true=>exact ⟨Ye _,WS _ _,u,fun _=>c⟩
  | false=>
   obtain ⟨a1,a2,a3,a4⟩:=Gy h f (x + 1) (by omega) (by omega) (Up.next O hn h h1 (by omega) u (O.flip hn h (by omega) (by omega) (by omega) c));exact ⟨Yk (Wz x) a1,by show ZB lt (Wj p f (x + 1))<=_;omega,a3,fun z=>a4 (by have z:ZB lt (Wj p f (x + 1)) < x + (f + 1):=z;omega)⟩
theorem Zuo {p:Array Nat} (h:bN n p):∀ (f x:Nat),2<=x->x + f<=n->Dn lt p x->∃ m,ZB lt (Yat f p x 0)=(p,m,0)/\x<=m/\m<=n/\Dn lt p m
 | 0,x,_,hf,u=>⟨x,rfl,Ye _,hf,u⟩
 | f + 1,x,h1,hf,u=>by
  rw [show Yat (f + 1) p x 0=_ from kas_desc.eq_2 p x 0 f];show ∃ m,ZB lt ((fun c=>if c=true then (if 0 > 0 then Yat f (kas_rev p (x - (0 + 1)) x) (x + 1) 0 else Yat f p (x + 1) 0) else KasT.ask (p.getD (x - 1) 0) (p.getD x 0) fun d=>if d=true then Yav (p,x,0) else Yat f p (x + 1) (0 + 1)) (lt (p.getD x 0) (p.getD (x - 1) 0)))=(p,m,0)/\_
  cases c:lt (p.getD x 0) (p.getD (x - 1) 0) with
  | true=>
   have d2:Dn lt p (x + 1):=by
    intro i j qw hj
    by_cases z:j=x
    .subst z
     by_cases y:i=j - 1
     .rw [y];exact c
     .exact O.tr _ _ _ (h.at hn _) (h.at hn _) (h.at hn _) c (u i (j - 1) (by omega) (by omega))
    .exact u i j qw (by omega)
   obtain ⟨m,e,m1,m2,m3⟩:=Zuo h f (x + 1) (by omega) (by omega) d2;exact ⟨m,e,by omega,m2,m3⟩
  | false=>
   have c2:=O.flip hn h (by omega) (by omega) (by omega) c;refine ⟨x,?_,Ye _,by omega,u⟩;show ZB lt ((fun d=>if d=true then Yav (p,x,0) else Yat f p (x + 1) (0 + 1)) (lt (p.getD (x - 1) 0) (p.getD x 0)))=_;rw [c2];rfl
omit O hn in
theorem ZvU {p:Array Nat} {m k:Nat} (hm:m<=p.size) (hk:k < m):(kas_rev p 0 m).getD k 0=p.getD (m - 1 - k) 0:=by
 unfold kas_rev;rw [YE,getElem?_mirror_all hm,if_pos ⟨Yv _,hk⟩,YE,show 0 + m - 1 - k=m - 1 - k by omega]
theorem ZuM {p:Array Nat} (h:bN n p) {m:Nat} (h1:1<=m) (hm:m<=n) (d:Dn lt p m):∃ r,ZB lt (kas_tail3 m n p)=r/\Up lt r.2 r.1/\1<=r.1/\r.1<=n:=by
 refine ⟨_,rfl,?_⟩;unfold kas_tail3;rw [x8]
 have u:Up lt (kas_rev p 0 m) m:=by
  intro i j qw hj;rw [ZvU (by rw [h.size];exact hm) (by omega),ZvU (by rw [h.size];exact hm) hj];exact d _ _ (by omega) (by omega)
 obtain ⟨a1,a2,a3,_⟩:=Gy O hn (h.rev 0 m) (n - m) m h1 (by omega) u;exact ⟨a3,Yk h1 a1,by show ZB lt (Wj (kas_rev p 0 m) (n - m) m)<=n;omega⟩
theorem ZuN {p:Array Nat} (h:bN n p) (h2:2<=n):∃ r,ZB lt (kas_count n p)=r/\Up lt r.2 r.1/\1<=r.1/\r.1<=n:=by
 have u1:Up lt p 1:=fun i j a b=>by omega
 obtain ⟨a1,a2,a3,a4⟩:=Gy O hn h (n - 1) 1 (Ye _) (by omega) u1;unfold kas_count;rw [x8];generalize ZB lt (Wj p (n - 1) 1)=m at a1 a2 a3 a4 ⊢
 by_cases z:m=n
 .rw [if_pos (by rw [z];exact beq_self_eq_true _)];exact ⟨_,rfl,a3,a1,by show m<=n;omega⟩
 .rw [if_neg (by intro e;exact z (eq_of_beq e))]
  by_cases y:m > 1
  .rw [if_pos y];have c:=a3 0 (m - 1) (by omega) (by omega);show ∃ r,ZB lt ((fun c=>if c=true then Yav (m,p) else kas_descPart m n (kas_rev p 0 m)) (lt (p.getD 0 0) (p.getD (m - 1) 0)))=r/\_;rw [c];exact ⟨_,rfl,a3,a1,by show m<=n;omega⟩
  .rw [if_neg y];have m1:m=1:=by omega
   subst m1;unfold kas_descPart;rw [x8]
   have d2:Dn lt p 2:=by
    intro i j qw hj
    have:i=0/\j=1:=by omega
    rw [this.1,this.2];exact a4 (by omega)
   obtain ⟨k,e,k1,k2,k3⟩:=Zuo O hn h (n - (1 + 1)) 2 (Ye _) (by omega) d2;have e:ZB lt (Yat (n - (1 + 1)) p (1 + 1) 0)=(p,k,0):=e;rw [e];show ∃ r,ZB lt (if 0 > 0 then _ else kas_tail3 k n p)=r/\_;rw [if_neg (by decide)];exact ZuM O hn h (by omega) k2 k3
theorem G5 {p:Array Nat} (h:bN n p) {k:Nat} (hk:k < n) (u:Up lt p k):∀ (f l r:Nat),l<=r->r<=k->r - l<=f->(∀ i,i < l->lt (p.getD i 0) (p.getD k 0)=true)->(∀ i,r<=i->i < k->lt (p.getD k 0) (p.getD i 0)=true)->
  ∃ m,ZB lt (kas_place p k f l r)=m/\m<=k/\(∀ i,i < m->lt (p.getD i 0) (p.getD k 0)=true)/\(∀ i,m<=i->i < k->lt (p.getD k 0) (p.getD i 0)=true)
 | 0,l,r,h1,h2,h3,a,b=>⟨l,rfl,by omega,a,fun i h4 h5=>b i (by omega) h5⟩
 | f + 1,l,r,h1,h2,h3,a,b=>by
  rw [show kas_place p k (f + 1) l r=_ from kas_place.eq_2 p k l r f]
  by_cases z:l >= r
  .rw [if_pos z];exact ⟨l,rfl,by omega,a,fun i h4 h5=>b i (by omega) h5⟩
  .rw [if_neg z];show ∃ m,ZB lt ((fun c=>if c=true then kas_place p k f l ((l + r) / 2) else kas_place p k f ((l + r) / 2 + 1) r) (lt (p.getD k 0) (p.getD ((l + r) / 2) 0)))=m/\_;have q1:(l + r) / 2 < r:=by omega
   have q2:l<=(l + r) / 2:=by omega
   generalize (l + r) / 2=q at q1 q2 ⊢
   cases c:lt (p.getD k 0) (p.getD q 0) with
   | true=>
    refine G5 h hk u f l q q2 (by omega) (by omega) a fun i h4 h5=>?_
    by_cases y:i=q
    .rw [y];exact c
    .exact O.tr _ _ _ (h.at hn _) (h.at hn _) (h.at hn _) c (u q i (by omega) h5)
   | false=>
    have c2:=O.flip hn h hk (by omega) (by omega) c;refine G5 h hk u f (q + 1) r (by omega) h2 (by omega) (fun i h4=>?_) b
    by_cases y:i=q
    .rw [y];exact c2
    .exact O.tr _ _ _ (h.at hn _) (h.at hn _) (h.at hn _) (u i q (by omega) (by omega)) c2
theorem ZvP:∀ (f:Nat) {p:Array Nat} (k:Nat),bN n p->k + f=n->Up lt p k->Up lt (ZB lt (kas_bin f p k)) n
 | 0,p,k,h,e,u=>by rw [<- e];exact u
 | f + 1,p,k,h,e,u=>by
  rw [show kas_bin (f + 1) p k=_ from kas_bin.eq_2 p k f,x8];obtain ⟨m,em,m1,m2,m3⟩:=G5 O hn h (k:=k) (by omega) u k 0 k (Yv _) (Ye _) (by omega) (fun i z=>by omega) (fun i z y=>by omega);rw [em];refine ZvP f (k + 1) (h.bub _ _) (by omega) fun i j qw hj=>?_;have hs:=h.size
  have at':∀ i,(bubble p k (k - m)).getD i 0=if i=m then p.getD k 0 else if m < i/\i<=k then p.getD (i - 1) 0 else p.getD i 0:=fun i=>by
   rw [YE,getElem?_bubble (by omega) _ (by omega),show k - (k - m)=m by omega]
   split
   .rw [YE]
   .split <;> rw [YE]
  rw [at',at']
  by_cases i1:i=m
  .rw [if_pos i1,if_neg (by omega),if_pos (by omega)];exact m3 (j - 1) (by omega) (by omega)
  .rw [if_neg i1]
   by_cases i2:m < i/\i<=k
   .rw [if_pos i2,if_neg (by omega),if_pos (by omega)];exact u _ _ (by omega) (by omega)
   .rw [if_neg i2]
    by_cases j1:j=m
    .rw [if_pos j1];exact m2 i (by omega)
    .rw [if_neg j1]
     by_cases j2:m < j/\j<=k
     .rw [if_pos j2];exact u _ _ (by omega) (by omega)
     .rw [if_neg j2];exact u _ _ qw (by omega)
theorem Zwm (h2:2<=n):Up lt (ZB lt (XQ n)) n:=by
 have h:bN n (Yag (List.range n)):=Array.Perm.refl _;obtain ⟨r,e,r1,r2,r3⟩:=ZuN O hn h h2;have lr:bN n r.2:=by rw [<- e];exact tw lt (Znr hn h n)
 unfold XQ;rw [x8,e]
 by_cases z:r.1 < n
 .rw [if_pos z,Nat.max_eq_left r2];exact ZvP O hn _ _ lr (by omega) r1
 .rw [if_neg z];intro i j a b;exact r1 i j a (by omega)
end
end L2
namespace L2
open PySem PySem.Spec PyProof.Rows
structure BT (names:List Str) (K:Yf) (mg:Str->Option Value) (base:Heap):Prop where
 bm:Bm mg base
 cd:∀ x∈names,∀ c P,Xn K x=some (c,P)->PySem.W.CodeHd base c P
theorem Zt1 {P:Program} {w:World} {K:Yf} {mg mb:Str->Option Value} {CX:jK} {k:Nat} {fa a:Addr} {fd:Yl} {x:Str} {sp:Sp} {aC:Shared} {vs:List Value} {ns:List Int} {names:List Str}
  (KX:K.In aC.heap) (mw:aC.heap.Ns Xj mg) (hb:aC.heap.Ns builtinsNs mb) (hbb:∀ x:Str,x≠"__name__"->mb x=YaC x) (ML:aC.heap.NoLimit) (hg:aC.gens=#[]) (Fp:Bm mg aC.heap)
  (ht:∀ x∈names,∃ c T,Xn K x=some (c,T)/\K.lookup T=none/\PySem.W.CodeHd aC.heap c T/\aC.heap.get? T=some (PySem.W.tabObj #[]))
  (ha:aC.heap.get? a=some {cls:=.type "list",data:=.seq vs.toArray}) (hi:IntsAre vs ns) (hl:ns.length<=Ym) (hr:aV k callerA)
  (F:∀ base:Heap,K.In base->base.Ns Xj mg->BT names K mg base->ah P w K mg base CX k fa fd [x] sp) (BV:∀ (s:Shared) (u:Value),BindsTo s fd ⟨[u],[]⟩ [(x,u)])
  (fe:∀ H:Hp,aq K H a (ns.map V.int)->(∀ x∈names,∀ c T,Xn K x=some (c,T)->H T=some (.cO #[]))->sp [.ref a] H (fun v _=>v=.bl true) fun _ _ _=>False)
  (FA:∀ H e s',CX [] H aC (fun _ _ _=>False) e s'->False) :
  Yas (model P w) callerA (.call (.ref fa) ⟨[.ref a],[]⟩) (fun r s'=>r=.ok (.ret (.bool true))/\OldK aC.heap s'.heap/\s'.os=aC.os/\AllBare s'.gens) aC:=by
 have rv:=ZoX hi;have Ml:=hi.length
 let tb:Addr->Prop:=fun b=>∃ x∈names,∃ c,Xn K x=some (c,b)
 have wJ:∀ b,tb b->K.lookup b=none/\aC.heap.get? b=some (PySem.W.tabObj #[])/\isCodeTable aC.heap b:=fun b ⟨x,hx,c,e⟩=>by
  obtain ⟨c',T,e1,e2,e3,e4⟩:=ht x hx;rw [e] at e1
  cases e1
  exact ⟨e2,e4,(e3.tab e4).isCodeTable⟩
 have aT:¬ tb a:=fun z=>by
  have:=(wJ a z).2.1
  rw [ha] at this;cases this
 have core:∀ H:Hp,(∀ b,tb b->H b=some (.cO #[]))->(∀ b o,H b=some o->tb b∨(b=a/\∃ o' xs,o=.bu o' (.lst xs)))->aq K H a (ns.map V.int)->cE P w H aC.heap->(H a≠none->K.lookup a=none)->
   Yas (model P w) callerA (.call (.ref fa) ⟨[.ref a],[]⟩) (fun r s'=>r=.ok (.ret (.bool true))/\OldK aC.heap s'.heap/\s'.os=aC.os/\AllBare s'.gens) aC:=by
  intro H hT hO hS aj hK;have fX:∀ {b:Addr} {o:Obj},aC.heap.get? b=some o->H b=none->(cm aC.heap H).get? b=some o:=fun e n=>ZrO e n
  -- a iD LU is Ep a list nor a table is not tracked
  have EV:∀ {b:Addr} {o:Obj},aC.heap.get? b=some o->(∀ its n,o.data≠.seq its n)->(o.cls=.none->∀ ps,o.data≠.fields ps)->H b=none:=fun {b o} e h1 h2=>by
   cases q:H b with
   | none=>rfl
   | some u=>
    exfalso
    rcases hO b u q with z | ⟨z,_⟩
    .have:=(wJ b z).2.1
     rw [e] at this;cases this;exact h2 rfl #[] rfl
    .rw [z,ha] at e;cases e;exact h1 _ _ rfl
  have noD:∀ {b:Addr} {o:Obj} {es:Array XG} {ep:Nat},aC.heap.get? b=some o->o.data=.dict es ep->H b=none:=fun e d=>EV e (fun _ _ z=>by rw [d] at z;cases z) (fun _ _ z=>by rw [d] at z;cases z);have B5:∀ {b:Addr} {m:Str->Option Value},aC.heap.Ns b m->(cm aC.heap H).Ns b m:=fun {b m} ⟨o,es,ep,e,d,r⟩=>⟨o,es,ep,fX e (noD e d),d,r⟩
  have hKb:K.In (cm aC.heap H):=fun b o e=>fX (KX b o e) (by
   cases q:H b with
   | none=>rfl
   | some u=>
    exfalso
    rcases hO b u q with z | ⟨z,_⟩
    .rw [(wJ b z).1] at e;cases e
    .rw [z] at e q;rw [hK (by rw [q];simp)] at e;cases e)
  have hM:Mod K mg (cm aC.heap H):=⟨hKb,B5 mw,⟨mb,B5 hb,hbb⟩,let ⟨mc,h1,h2⟩:=ML;⟨mc,B5 h1,h2⟩⟩
  have hB:BT names K mg (cm aC.heap H):=by
   refine ⟨?_,fun x hx c T e=>?_⟩
   .obtain ⟨bm,o,h1,h2,h3,h4,h5,h6⟩:=Fp;exact ⟨bm,o,h1,h2,fX h3 (EV h3 (fun _ _ z=>by rw [h6] at z;cases z) (fun _ _ z=>by rw [h6] at z;cases z)),h4,h5,h6⟩
   .obtain ⟨c',T',e1,e2,⟨o,fs,fl,tf,fg,tg,inF,tx,tt,g1,g2,g3⟩,e4⟩:=ht x hx;rw [e] at e1
    cases e1
    exact ⟨o,fs,fl,tf,fg,tg,inF,tx,tt,fX g1 (EV g1 (fun _ _ z=>by rw [g3.1] at z;cases z) (fun z=>by rw [g2] at z;cases z)),g2,g3⟩
  have e0:jg P w K mg (cm aC.heap H) callerA [] aC H:=⟨rfl,hM,fun b o e=>ZtF e,WW (ZpU _ _),trivial,fun b hb=>absurd (show b∈([]:List Addr) from hb) (by simp),aj,.of_eq hg⟩
  refine YaA ((F _ hKb (B5 mw) hB).run callerA [] aC H ⟨[.ref a],[]⟩ [.ref a] [.ref a] _ _ hr e0 (BV aC (.ref a)) (.cons rfl .nil) (fe H hS fun x hx c T e=>hT T ⟨x,hx,c,e⟩)) fun r s' h=>?_
  cases r with
  | error e=>exact (FA H e s' h).elim
  | ok fl=>
   cases fl with
   | next=>exact Xa h
   | brk=>exact Xa h
   | cont=>exact Xa h
   | ret u=>
    obtain ⟨v,H',os,bare,un,Bg,r',q⟩:=h;have q':v=.bl true:=q;subst q';obtain rfl:u=Value.bool true:=r';refine ⟨rfl,⟨fun b o e=>?_,fun b o e=>un.there b o e (by simp)⟩,os,bare⟩
    cases q:H b with
    | none=>exact .inl (un.keep b o e q (by intro z;exact absurd (show b∈([]:List Addr) from z) (by simp)) (by simp))
    | some u=>
     rcases hO b u q with z | ⟨rfl,o',xs,rfl⟩
     .obtain ⟨_,t2,t3⟩:=wJ b z;rw [e] at t2;cases t2;obtain ⟨more,z2⟩:=un.ck b #[] (hT b z);have z3:s'.heap.get? b=some {cls:=.none,data:=.fields (#[]++more)}:=Bg b _ z2;exact .inr (.inl ⟨t3,rfl,#[],more,rfl,z3⟩)
     .have z2:=un.bV b o' _ q;obtain ⟨e1,_⟩:=aj b _ q;obtain ⟨e2,_⟩:=Bg b _ z2;rw [e] at e1;cases e1;exact .inl e2
 open Classical in
 cases hk:K.lookup a with
 | some o=>
  have e:=KX a o hk;rw [ha] at e
  cases e
  refine core (fun b=>if tb b then some (.cO #[]) else none) (fun b z=>if_pos z) (fun b o e=>?_) (.inr ⟨_,vs.toArray,_,hk,rfl,rfl,rfl,by rw [Yn,Ml];exact hl,by simpa using rv⟩) (fun b o e=>?_) (fun z=>absurd (if_neg aT) z)
  .try dsimp only at e
   by_cases z:tb b
   .exact .inl z
   .rw [if_neg z] at e;cases e
  .try dsimp only at e
   by_cases z:tb b
   .rw [if_pos z] at e;cases e;exact (wJ b z).2.1
   .rw [if_neg z] at e;cases e
 | none=>
  refine core (fun b=>if tb b then some (.cO #[]) else if b=a then some (.bu {cls:=.type "list",data:=.seq vs.toArray} (.lst (ns.map V.int))) else none) (fun b z=>if_pos z) (fun b o e=>?_) (.inl (.inr ⟨{cls:=.type "list",data:=.seq vs.toArray},?_⟩)) (fun b o e=>?_) fun _=>hk
  .try dsimp only at e
   by_cases z:tb b
   .exact .inl z
   .rw [if_neg z] at e
    by_cases y:b=a
    .rw [if_pos y] at e;cases e;exact .inr ⟨y,_,_,rfl⟩
    .rw [if_neg y] at e;cases e
  .show (if tb a then _ else _)=_;rw [if_neg aT,if_pos rfl]
  .try dsimp only at e
   by_cases z:tb b
   .rw [if_pos z] at e;cases e;exact (wJ b z).2.1
   .rw [if_neg z] at e
    by_cases y:b=a
    .rw [if_pos y] at e
     cases e
     subst y;exact ⟨ha,by rw [Yb];exact hl,vs,_,rv,ha⟩
    .rw [if_neg y] at e;cases e
theorem Zxo {l:PySem.W.OpenLaw} {n k:Nat} {q:Program} {loose:List Str} {XP:(Str->Option Value)->Heap->Prop} {YP:World->Heap->Prop} {d:DefRec} {K:Params->Yf} {CX:World->jK} {sp:World->Sp} {x:Str} (names:List Str)
  (hn:l.most=some n) (Cj:n<=Ym) (uF:d.params.defaults=[]) (hr:aV k callerA)
  (hY:∀ (w:World) (h:Heap),YP w h->(K w.params).In h) (hq:∀ x∈names,((recsOf q).find? fun e=>e.name == x).isSome=true)
  (F:∀ (w:World) (mg:Str->Option Value) (fa:Addr) (h:Heap),(K w.params).In h->h.Ns Xj mg->mg d.name=some (.ref fa)->
   (∀ x∈names,∃ c T,Xn (K w.params) x=some (c,T)/\(K w.params).lookup T=none)/\
   ∃ fd:Yl,(∀ (s:Shared) (u:Value),BindsTo s fd ⟨[u],[]⟩ [(x,u)])/\
    ∀ base:Heap,(K w.params).In base->base.Ns Xj mg->BT names (K w.params) mg base->ah l.prog w (K w.params) mg base (CX w) k fa fd [x] (sp w))
  (fe:∀ (w:World) (H:Hp) (a:Addr) (ns:List Int),ns.length<=n->aq (K w.params) H a (ns.map V.int)->(∀ x∈names,∀ c T,Xn (K w.params) x=some (c,T)->H T=some (.cO #[]))->sp w [.ref a] H (fun v _=>v=.bl true) fun _ _ _=>False)
  (FA:∀ (w:World) (H:Hp) (s:Shared) (e:Value) (s':Shared),CX w [] H s (fun _ _ _=>False) e s'->False) :
  PySem.W.WalkO q loose XP YP l.row.toRowW d [] (fun f vs=>PySem.call f vs):=by
 refine Att.kC hn uF fun w ar aC mg mb fa o pm cd doc a vs ns G Y ho hd g_ hmg vW hints hlen hg=>?_;have KX:=hY w _ Y;obtain ⟨ht,fd,hb,hF⟩:=F w mg fa _ KX G.T.g hmg;refine Zt1 KX G.T.g G.T.b G.T.builtins G.T.nolimit hg G.T.bmain (fun x hx=>?_) vW hints (Yk hlen Cj) hr hF hb (fun H hS hT=>fe w H a ns hlen hS hT) fun H e s'=>FA w H aC e s';obtain ⟨c,T,h1,h2⟩:=ht x hx;obtain ⟨d',zo⟩:=Option.isSome_iff_exists.mp (hq x hx);obtain ⟨h3,h4⟩:=PySem.W.tab_of G.T KX zo h1;exact ⟨c,T,h1,h2,h3,h4⟩
theorem ZuA {K:Yf} {x name qual:Str} {st:Stmt} {f c T:Addr} {fd:Yl} (hn:Ybp K Xj x=some (some (.ref f))) (F:aG K name qual st f fd) (ht:Xn K x=some (c,T)):fd.code=.ref c:=by
 obtain ⟨oc,od,kV,doc,pm,an,aY,ct,mq,_,lk,_⟩:=F.ex;unfold Xn at ht;rw [hn] at ht;dsimp only at ht;rw [show XO f K=_ from lk] at ht;dsimp only at ht
 split at ht
 .rename_i c' hc
  split at ht
  .split at ht
   .cases ht;exact hc
   .cases ht
  .cases ht
 .cases ht
theorem aG.okC {CX:jK} {P:Program} {w:World} {K:Yf} {mg:Str->Option Value} {base:Heap} {x qual:Str} {st:Stmt} {f:Addr} {fd:Yl} {N ps:List Str} {k:Nat} {sp:Sp} (F:aG K x qual st f fd) (S:Zp N ps (Zi st)) (len:∀ vs H Q E,sp vs H Q E->vs.length=ps.length)
  (b_:∀ (aY:Value) (A:Around) (outer:List Env) (s:Shared) (H:Hp) (vs:List V) (Q:VK) (E:XK),fd.code=aY->aV k (A.deeper (WI qual (Zi st) s.heap.objs.size f aY))->sp vs H Q E->
   ∃ t,eO (a8 CX P w K mg base N qual (Zi st) f aY A outer s H E) (kU st) t/\t {nx:=fun _ H'=>Q .aK H',rt:=Q} (bz N vs) H):ah P w K mg base CX (k + 1) f fd ps sp:=by
 obtain ⟨oc,od,kV,doc,pm,an,aY,ct,mq,rfl,lk,g_⟩:=F.ex;exact Gi lk g_ S len fun A outer s H vs Q E hr fe=>b_ aY A outer s H vs Q E rfl hr fe
end L2
namespace L2
open PySem
theorem Zwe {K:Yf} {C:Addr} {d:ClassData} (h:PySem.W.clsIn K C=some d):(PySem.W.clsIn K C).isSome=true:=by rw [h];rfl
end L2
namespace L2
open PySem
theorem Zxt {K:Yf} {x:Str} {f c P:Addr} {oc a1:Value} {od a2:Option Addr} {sl a4:Array (Option Value)} {fd:Yl} {vs:Array Value} (h1:Ybp K Xj x=some (some (.ref f))) (h2:K.lookup f=some ⟨oc,od,.func fd,sl⟩) (h3:fd.code=.ref c) (h4:K.lookup c=some ⟨a1,a2,.fields vs,a4⟩) (h5:vs[11]?=some (.ref P)):Xn K x=some (c,P):=by
 unfold Xn;rw [h1];dsimp only;rw [show XO f K=_ from h2];dsimp only;rw [h3];dsimp only;rw [show XO c K=_ from h4];dsimp only;rw [h5]
end L2
namespace L2
open PySem
theorem ZyQ {K:Yf} {C:Addr} {f:Str} (h:Xm K (.ref C) f=some none):fi K C f:=h
end L2
namespace L2
open PySem PyProof.Rows
theorem aG.aP {P:Program} {w:World} {K:Yf} {mg:Str->Option Value} {base:Heap} {x qual:Str} {st:Stmt} {f:Addr} {fd:Yl} {N ps:List Str} {k:Nat} {sp:Sp} (F:aG K x qual st f fd) (S:Zp N ps (Zi st))
  (h:∀ vs H Q E,sp vs H Q E->vs.length=ps.length/\∀ (aY:Value) (A:Around) (outer:List Env) (s:Shared),aV k (A.deeper (WI qual (Zi st) s.heap.objs.size f aY))->
   ∃ t,eO (a8 (ay P w) P w K mg base N qual (Zi st) f aY A outer s H E) (kU st) t/\t {nx:=fun _ H'=>Q .aK H',rt:=Q} (bz N vs) H):ah P w K mg base (ay P w) (k + 1) f fd ps sp:=
 F.okE S (fun vs H Q E x=>(h vs H Q E x).1) fun aY A outer s H vs Q E hr x=>(h vs H Q E x).2 aY A outer s hr
theorem aG.Mf {P:Program} {w:World} {K:Yf} {mg:Str->Option Value} {base:Heap} {x qual:Str} {st:Stmt} {f:Addr} {fd:Yl} {N ps:List Str} {k:Nat} {sp:Sp} (F:aG K x qual st f fd) (S:Zp N ps (Zi st)) (len:∀ vs H Q E,sp vs H Q E->vs.length=ps.length)
  (b_:∀ (aY:Value) (A:Around) (outer:List Env) (s:Shared) (H:Hp) (vs:List V) (Q:VK) (E:XK),fd.code=aY->aV k (A.deeper (WI qual (Zi st) s.heap.objs.size f aY))->sp vs H Q E->
   ∃ t,eO (a8 oz P w K mg base N qual (Zi st) f aY A outer s H E).nG (kU st) t/\t {nx:=fun _ H'=>Q .aK H',rt:=Q} (bz N vs) H):ah P w K mg base oz (k + 1) f fd ps sp:=by
 obtain ⟨oc,od,kV,doc,pm,an,aY,ct,mq,rfl,lk,g_⟩:=F.ex;refine Gi lk g_ S len fun A outer s H vs Q E hr fe=>?_;obtain ⟨t,h,q⟩:=b_ aY A outer s H vs Q E rfl hr fe;exact ⟨t,h.nG,q⟩
end L2
namespace L2
open PySem
def scB (N P:List Str) (sc:Scope):Bool:=sc.kind == .function && !sc.isCoroutine && !sc.isGenerator && decide N.Nodup && decide (N.take P.length=P) && P.all (fun x=>decide (sc.names.lookup x=some .local) || decide (sc.names.lookup x=some .cell)) && sc.names.all fun y=>decide (y.2≠.free)
theorem ZN {N P:List Str} {sc:Scope} (h:scB N P sc=true):Zp N P sc:=by
 unfold scB at h
 simp only [YV,Xz,Ybh,beq_iff_eq,decide_eq_true_eq,Bool.not_eq_true'] at h
 obtain ⟨⟨⟨⟨⟨⟨h1,h2⟩,h3⟩,h4⟩,h5⟩,h6⟩,h7⟩:=h;exact ⟨h1,h2,h3,h4,h5,h6,h7⟩
section
variable {K:Yf} {x qual:Str} {st:Stmt} {f:Addr} {fd:Yl} {a b c d e:Str}
theorem aG.b0 (F:aG K x qual st f fd) (h:∀ (kV doc pm:Value) (an:Option Addr) (aY ct:Value),bindArgs (XI x qual (pY st) (kU st) (Zi st) .none kV doc pm an aY ct) ⟨[],[]⟩=pure []:=by intros;rfl):ZF K fd [] []:=F.binds fun _ _ _ _ _ _ us hl=>match us,hl with | [],_=>h ..
theorem aG.b1 (F:aG K x qual st f fd) (h:∀ (kV doc pm:Value) (an:Option Addr) (aY ct t:Value),bindArgs (XI x qual (pY st) (kU st) (Zi st) .none kV doc pm an aY ct) ⟨[t],[]⟩=pure [(a,t)]:=by intros;rfl):ZF K fd [a] []:=F.binds fun _ _ _ _ _ _ us hl=>match us,hl with | [_],_=>h ..
theorem aG.b2 (F:aG K x qual st f fd) (h:∀ (kV doc pm:Value) (an:Option Addr) (aY ct t u:Value),bindArgs (XI x qual (pY st) (kU st) (Zi st) .none kV doc pm an aY ct) ⟨[t,u],[]⟩=pure [(a,t),(b,u)]:=by intros;rfl):ZF K fd [a,b] []:=F.binds fun _ _ _ _ _ _ us hl=>match us,hl with | [_,_],_=>h ..
theorem aG.b3 (F:aG K x qual st f fd) (h:∀ (kV doc pm:Value) (an:Option Addr) (aY ct t u v:Value),bindArgs (XI x qual (pY st) (kU st) (Zi st) .none kV doc pm an aY ct) ⟨[t,u,v],[]⟩=pure [(a,t),(b,u),(c,v)]:=by intros;rfl):ZF K fd [a,b,c] []:=F.binds fun _ _ _ _ _ _ us hl=>match us,hl with | [_,_,_],_=>h ..
theorem aG.b4 (F:aG K x qual st f fd) (h:∀ (kV doc pm:Value) (an:Option Addr) (aY ct t u v w:Value),bindArgs (XI x qual (pY st) (kU st) (Zi st) .none kV doc pm an aY ct) ⟨[t,u,v,w],[]⟩=pure [(a,t),(b,u),(c,v),(d,w)]:=by intros;rfl):ZF K fd [a,b,c,d] []:=F.binds fun _ _ _ _ _ _ us hl=>match us,hl with | [_,_,_,_],_=>h ..
theorem aG.b5 (F:aG K x qual st f fd) (h:∀ (kV doc pm:Value) (an:Option Addr) (aY ct t u v w z:Value),bindArgs (XI x qual (pY st) (kU st) (Zi st) .none kV doc pm an aY ct) ⟨[t,u,v,w,z],[]⟩=pure [(a,t),(b,u),(c,v),(d,w),(e,z)]:=by intros;rfl):ZF K fd [a,b,c,d,e] []:=F.binds fun _ _ _ _ _ _ us hl=>match us,hl with | [_,_,_,_,_],_=>h ..
end
end L2
namespace L2
open PySem PySem.Spec PyProof.Rows
section
variable {X:Cx}
theorem Zq6:ff X (.type "range") (fun xs H Q=>∃ a b,xs=[.int a,.int b]/\∀ p,H p=none->Q (.ref p) (upd H p (.qk a b))):=by
 intro pins s σ H xs us Q I r h;obtain ⟨a,b,rfl,q⟩:=h
 cases r with
 | cons r1 r=>
  cases r with
  | cons r2 r=>
   cases r
   obtain ⟨t,rfl⟩:=r1;obtain ⟨u,rfl⟩:=r2;refine call_range_2 ⟨.ref s.heap.objs.size,_,I.laid (t':=s.toks + 1) (fun b o e=>Yc _ e) (Ye _) ?_,rfl,q _ I.fresh⟩;exact ⟨t,u,s.toks,Yi _ rfl⟩
theorem ZsX (hc:X.calm=true:=by rfl):ff X (.type "list") (fun xs H Q=>∃ p a b n,xs=[.ref p]/\H p=some (.qk a b)/\Builtin.Range.small a b 1=true/\Builtin.Range.rangeSize a b 1=((n:Nat):Int)/\n<=1000/\∀ l,H l=none->Q (.ref l) (upd H l (.lst ((List.range n).map fun (i:Nat)=>V.int (a + (i:Int)))))):=by
 intro pins s σ H xs us Q I r h;obtain ⟨p,a,b,n,rfl,hp,h1,h2,h3,q⟩:=h;obtain ⟨u,rfl,ru⟩:=r.one
 cases (show u=Value.ref p from ru)
 obtain ⟨t,u,v,e⟩:=(show bU X.prog X.w H s.heap p (.qk a b) from I.aj p _ hp)
 refine call_list_range (t:=t) (u:=u) (v:=v) (I.ok.hd hc) ?_ h1 h2 (Yk h3 (by decide)) fun h' tk acc c' kp he hi=>?_
 .first | exact ⟨_,e,rfl,rfl⟩ | exact e | exact ⟨_,e,rfl⟩
 .have hlen:acc.toList.length=n:=by rw [YH];exact hi.1
  refine ⟨.ref _,_,I.kY kp (Ye _) he (xN ?_ fun j x w hx hw=>?_) ?_,rfl,q _ I.fresh⟩
  .rw [Yb,Xv,hlen]
  .obtain ⟨t,rfl⟩:=hi.2 j w (by rw [<- XB];exact hw);rw [Yo] at hx
   cases z:(List.range n)[j]? with
   | none=>rw [z] at hx;cases hx
   | some i=>
    rw [z] at hx
    cases hx
    have:i=j:=by
     obtain ⟨hj,e⟩:=List.getElem?_eq_some_iff.mp z;rw [List.getElem_range] at e;exact e.symm
    subst this;exact ⟨t,by rw [Int.mul_one]⟩
  .rw [Yb,Xv]
   have:(1000:Nat)<=Ym:=by decide
   omega
def AX (K:Yf):List V->Hp->VK->Prop:=fun xs H Q=>∃ x t n b,xs=[x,.ty n]/\eP K H x t/\Yae K t (.type n)=some b/\Q (.bl b) H
theorem ZvL:ff X (.builtin "isinstance") (AX X.K):=by
 intro pins s σ H xs us Q I r h;obtain ⟨x,t,n,b,rfl,ty,e,q⟩:=h
 cases r with
 | cons r1 r=>
  cases r with
  | cons r2 r=>
   cases r
   cases r2
   exact ZpQ I r1 ty e fun tk=>⟨.bl b,H,I.tok tk,rfl,q⟩
theorem Zv1 {a b:Expr} {ta tb:TE} {p pos:Pos} (ha:PE X a ta) (hb:PE X b tb) (hg:Gl X "isinstance") (hm:X.mg "isinstance"=none)
  (h1:Yx [a,b] X.env=(false,eval a X.env)::Yx [b] X.env:=by rfl) (h2:Yx [b] X.env=(false,eval b X.env)::Yx [] X.env:=by rfl) (cK:(Wi pos (Yx [b] X.env)).any (·.1)=false:=by rfl) :
  PE X (.Call (.Name "isinstance" p) [a,b] [] pos) (t8 (AX X.K) (c9 ta (c9 tb bq))):=
 ZD ZvL hg hm PyProof.Rows.Boot.«isinstance» (Za ha (Za hb Ze h2) h1) (by decide) (by decide) h1 cK
end
end L2
set_option genInjectivity false
set_option genSizeOf false
namespace KS
open PySem L2
def top (i:Nat):Stmt:=PySem.Challenge.pw_stillpoint_k22_answers_of_ones_own.main.body.getD i (.Pass ⟨0,0,0,0⟩)
abbrev Js:Stmt:=eM (top 17) 0
abbrev ZjO:Stmt:=eM (top 17) 2
abbrev ZgD:Stmt:=eM (top 17) 3
abbrev ZhG:Stmt:=top 22
abbrev ZjC:Stmt:=top 23
abbrev Lb:Stmt:=top 24
abbrev ZhM:Stmt:=eM (top 25) 0
abbrev ZjP:Stmt:=eM (top 25) 1
abbrev ZhL:Stmt:=eM (top 25) 2
abbrev Zgz:Stmt:=top 26
abbrev HZ:Stmt:=top 31
abbrev H_:Stmt:=top 32
abbrev Zju:Stmt:=top 33
abbrev ZjG:Stmt:=eM (top 40) 0
abbrev ZhC:Stmt:=top 41
abbrev ZhH:Stmt:=top 42
abbrev ZmT:Stmt:=top 43
abbrev ZhE:Stmt:=top 44
abbrev Zpl:Stmt:=top 45
abbrev Zjz:Stmt:=top 46
abbrev Zjw:Stmt:=top 47
abbrev Zfe:Stmt:=top 48
abbrev Zpk:Stmt:=top 49
abbrev ZmS:Stmt:=top 50
abbrev Zph:Stmt:=top 51
abbrev Zd3:Stmt:=top 52
abbrev ZvS:Stmt:=top 53
abbrev ZcT:Stmt:=top 54
abbrev ZjA:Stmt:=top 56
abbrev ZeW:Stmt:=top 57
abbrev ZhF:Stmt:=top 58
abbrev Zjy:Stmt:=top 59
abbrev Zk0:Stmt:=top 60
abbrev Zgy:Stmt:=top 61
abbrev Zjs:Stmt:=top 62
abbrev Zfc:Stmt:=top 63
abbrev Zfd:Stmt:=top 64
abbrev ZvT:Stmt:=top 65
abbrev Zrm:Stmt:=top 66
abbrev ZmR:Stmt:=top 67
abbrev ZcU:Stmt:=top 68
abbrev Zpj:Stmt:=top 69
abbrev Zjv:Stmt:=top 70
abbrev Zpg:Stmt:=top 71
abbrev Zpi:Stmt:=top 72
abbrev ZjH:Stmt:=eM (top 80) 0
abbrev JN:Stmt:=top 81
abbrev ZhD:Stmt:=top 82
abbrev Zjt:Stmt:=top 83
abbrev ZmU:Stmt:=top 84
abbrev ZmV:Stmt:=top 85
abbrev Kq:Stmt:=top 86
abbrev Zrl:Stmt:=top 87
abbrev Zjx:Stmt:=top 88
abbrev ZjF:Stmt:=eM (top 91) 0
abbrev Zd4:Stmt:=eM (top 91) 1
abbrev ZjE:Stmt:=eM (top 91) 2
abbrev Zk1:Stmt:=top 92
abbrev ZjB:Stmt:=top 95
abbrev ZjN:Stmt:=eM (top 96) 0
abbrev ZjK:Stmt:=eM (top 96) 2
abbrev ZjI:Stmt:=eM (top 96) 3
abbrev ZhK:Stmt:=eM (top 96) 4
abbrev ZhJ:Stmt:=eM (top 96) 5
abbrev ZjL:Stmt:=eM (top 96) 7
abbrev ZjM:Stmt:=eM (top 96) 8
abbrev ZgB:Stmt:=eM (top 96) 9
abbrev ZgC:Stmt:=eM (top 96) 10
abbrev ZhI:Stmt:=eM (top 96) 11
abbrev Zk9:Stmt:=eM (top 96) 12
abbrev ZjJ:Stmt:=eM (top 96) 13
abbrev ZgA:Stmt:=eM (top 96) 14
abbrev Zdi:Stmt:=eM (top 96) 16
abbrev Zbx:Stmt:=eM (top 96) 17
abbrev Zfh:Stmt:=eM (top 96) 18
abbrev Zk4:Stmt:=top 97
abbrev Zk8:Stmt:=top 99
abbrev ZjD:Stmt:=top 100
abbrev Zk5:Stmt:=top 101
abbrev JM:Stmt:=top 102
abbrev Zk6:Stmt:=top 103
abbrev Iu:Stmt:=top 104
abbrev Zk7:Stmt:=top 105
abbrev Jt:Stmt:=top 106
abbrev Av:Stmt:=top 107
abbrev F_:Stmt:=top 108
inductive Rf where
 | aA | aw | aJ | bo | noRoom | bp | wrongKind | aM | readOnly | c_
 deriving DecidableEq,Repr
structure Gs where
 Hl:Addr
 Jg:Yl
 Ib:Addr
 Kd:Yl
 Kc:Addr
 KZ:Yl
 Jp:Addr
 KI:Yl
 Jc:Addr
 J5:Yl
 J':Addr
 K7:Yl
 Je:Addr
 Ku:Yl
 Ia:Addr
 Kb:Yl
 Jf:Addr
 Kv:Yl
 J7:Addr
 K5:Yl
 GF:Addr
 HE:Yl
 GG:Addr
 HF:Yl
 IX:Addr
 JK:Yl
 IZ:Addr
 JZ:Yl
 JA:Addr
 KQ:Yl
 Jo:Addr
 KH:Yl
 GX:Addr
 II:Yl
 Jy:Addr
 KO:Yl
 GQ:Addr
 Hz:Yl
 ID:Addr
 J_:Yl
 IJ:Addr
 JE:Yl
 Kn:Addr
 Lk:Yl
 GH:Addr
 HH:Yl
 GZ:Addr
 IK:Yl
 GB:Addr
 HS:Yl
 Lq:Addr
 LA:Yl
 walk:Addr
 Gz:Yl
 Lx:Addr
 Lv:Yl
 IA:Addr
 J9:Yl
 K6:Addr
 Le:Yl
 Jx:Addr
 KN:Yl
 IE:Addr
 Ka:Yl
 HV:Addr
 Jv:Yl
 KU:Addr
 Lc:Yl
 Zip:Addr
 KW:Yl
 Kt:Addr
 Ln:Yl
 Ks:Addr
 Lm:Yl
 made:Addr
 Gw:Yl
 lD:Addr
 GY:Yl
 gC:Addr
 Iw:Yl
 LB:Addr
 Lu:Yl
 renamed:Addr
 Hw:Yl
 dM:Addr
 JF:Yl
 written:Addr
 HW:Yl
 jo:Addr
 Hx:Yl
 IY:Addr
 JY:Yl
 IQ:Addr
 JI:Yl
 Jz:Addr
 KP:Yl
 Iv:Addr
 KR:Yl
 GV:Addr
 IH:Yl
 G6:Addr
 Iz:Yl
 Jw:Addr
 KL:Yl
 padded:Addr
 Hf:Yl
 IG:Addr
 JD:Yl
 I_:Addr
 J0:Yl
 Lp:Addr
 Lz:Yl
 Ja:Addr
 J4:Yl
 Hq:Addr
 Jr:Yl
 Jd:Addr
 J8:Yl
 Ik:Addr
 JP:Yl
 Ip:Addr
 JS:Yl
 Ir:Addr
 JV:Yl
 Jl:Addr
 KA:Yl
 Jm:Addr
 KC:Yl
 Io:Addr
 JR:Yl
 Il:Addr
 JQ:Yl
 JW:Addr
 K3:Yl
 JT:Addr
 K2:Yl
 Jn:Addr
 KG:Yl
 HQ:Addr
 Jk:Yl
 Iq:Addr
 JU:Yl
 JX:Addr
 K4:Yl
 Ld:Addr
 Ly:Yl
 LC:Addr
 LG:Yl
 KD:Addr
 Lo:Yl
 formatted:Addr
 JB:Yl
 fc:Addr
 c5:Yl
 dO:Addr
 cC:Yl
 eY:Addr
 cW:Yl
 cz:Addr
 cD:Yl
 eZ:Addr
 cY:Yl
 gG:Addr
 dN:Yl
 e_:Addr
 cZ:Yl
 dc:Addr
 cX:Yl
 aZ:Addr
 bc:Yl
 B_:Addr
 Ge:Yl
 bE:Addr
 aQ:Addr
 State:Addr
 dz:Addr
 aS:Addr
 ak:Addr
 fY:Addr
 bR:Addr
 f7:Addr
 f6:Addr
 ji:Addr
 d8:Addr
 de:Addr
 cR:Addr
 d7:Addr
 fZ:Addr
 bK:Addr
 Zcx:Addr
 Zk:Addr
 Zwf:Addr
 gk:Addr
 Zmb:Tok
 ZoN:Tok
 ZoT:Tok
 ZoP:Tok
 Zs2:Tok
 Zra:Tok
 Zqp:Tok
 ZmI:Tok
 ZmH:Tok
 Zyp:Tok
 ZoM:Tok
 Zqq:Tok
 ZmG:Tok
 Zqr:Tok
 MARK:Addr
 ZoS:Tok
 Zrd:Tok
 Zkw:Tok
 ZmJ:Tok
 ZoR:Tok
 Zxc:Tok
 Zku:Tok
variable {P:Program} {w:World} {K:Yf} {mg:Str->Option Value} {base:Heap} {g:Gs}
def Gs.xa (g:Gs):Rf->Addr
 | .aA=>g.fY
 | .aw=>g.bR
 | .aJ=>g.f7
 | .bo=>g.f6
 | .noRoom=>g.ji
 | .bp=>g.d8
 | .wrongKind=>g.de
 | .aM=>g.cR
 | .readOnly=>g.d7
 | .c_=>g.fZ
def Rf.word:Rf->Str
 | .aA=>"NoThing"
 | .aw=>"NoDirectory"
 | .aJ=>"BadName"
 | .bo=>"IsThere"
 | .noRoom=>"NoRoom"
 | .bp=>"NotEmpty"
 | .wrongKind=>"WrongKind"
 | .aM=>"TooGreat"
 | .readOnly=>"ReadOnly"
 | .c_=>"NoFiles"
structure Tx (K:Yf) (mg:Str->Option Value) (g:Gs):Prop where
 ZxT:mg "Disk"=some (.ref g.bE)
 Zvm:mg "Chains"=some (.ref g.aQ)
 C7:mg "State"=some (.ref g.State)
 ZwR:mg "Image"=some (.ref g.dz)
 ZwQ:mg "Store"=some (.ref g.aS)
 ZtX:mg "Files"=some (.ref g.ak)
 DF:mg "NoThing"=some (.ref g.fY)
 Zh1:mg "NoDirectory"=some (.ref g.bR)
 HI:mg "BadName"=some (.ref g.f7)
 DE:mg "IsThere"=some (.ref g.f6)
 ZrH:mg "NoRoom"=some (.ref g.ji)
 Znc:mg "NotEmpty"=some (.ref g.d8)
 tD:mg "WrongKind"=some (.ref g.de)
 vC:mg "TooGreat"=some (.ref g.cR)
 Znb:mg "ReadOnly"=some (.ref g.d7)
 ZtW:mg "NoFiles"=some (.ref g.fZ)
 JG:mg "StillError"=some (.ref g.bK)
 og:Cls K g.bE
 Kk:fi K g.bE "blocks"
 IP:fi K g.bE "log"
 jT:Cls K g.aQ
 Ap:fi K g.aQ "free"
 K_:fi K g.aQ "older"
 yo:fi K g.aQ "places"
 ZW:Cls K g.State
 oo:fi K g.State "data"
 Zu:fi K g.State "entries"
 xS:Cls K g.dz
 Eg:fi K g.dz "places"
 ZhW:fi K g.dz "heads"
 g5:Cls K g.aS
 yf:fi K g.aS "disk"
 DY:fi K g.aS "slot"
 DZ:fi K g.aS "turn"
 Ak:fi K g.aS "synced"
 Zq:Cls K g.ak
 ZK:fi K g.ak "state"
 ZY:fi K g.ak "kept"
 Kl:fi K g.ak "store"
 ZhX:fi K g.ak "image"
 ZwO:Mk K g.bE g.Hl
 Zma:aG K "__init__" "Disk.__init__" Js g.Hl g.Jg
 JC:Meth K g.bE "write" g.Ib
 Zkk:aG K "write" "Disk.write" ZjO g.Ib g.Kd
 ZgJ:Meth K g.bE "barrier" g.Kc
 ZgP:aG K "barrier" "Disk.barrier" ZgD g.Kc g.KZ
 Zok:mg "block_count"=some (.ref g.Jp)
 Kw:aG K "block_count" "block_count" ZhG g.Jp g.KI
 ZpG:mg "blocks_for"=some (.ref g.Jc)
 Kg:aG K "blocks_for" "blocks_for" ZjC g.Jc g.J5
 Zmv:mg "free_numbers"=some (.ref g.J')
 K1:aG K "free_numbers" "free_numbers" Lb g.J' g.K7
 ZtO:Mk K g.aQ g.Je
 Zio:aG K "__init__" "Chains.__init__" ZhM g.Je g.Ku
 Zj2:Meth K g.aQ "put" g.Ia
 Zkl:aG K "put" "Chains.put" ZjP g.Ia g.Kb
 Zou:Meth K g.aQ "take" g.Jf
 Zin:aG K "take" "Chains.take" ZhL g.Jf g.Kv
 Zmw:mg "chain_blocks"=some (.ref g.J7)
 K0:aG K "chain_blocks" "chain_blocks" Zgz g.J7 g.K5
 ZpD:mg "is_name"=some (.ref g.GF)
 Dw:aG K "is_name" "is_name" HZ g.GF g.HE
 ZtV:mg "is_path"=some (.ref g.GG)
 HK:aG K "is_path" "is_path" H_ g.GG g.HF
 om:mg "path_names"=some (.ref g.IX)
 Z7:aG K "path_names" "path_names" Zju g.IX g.JK
 Du:Mk K g.State g.IZ
 Zkc:aG K "__init__" "State.__init__" ZjG g.IZ g.JZ
 Zoh:mg "first_state"=some (.ref g.JA)
 Kz:aG K "first_state" "first_state" ZhC g.JA g.KQ
 ZhZ:mg "all_numbers"=some (.ref g.Jo)
 D7:aG K "all_numbers" "all_numbers" ZhH g.Jo g.KH
 Zna:mg "is_thing"=some (.ref g.GX)
 DG:aG K "is_thing" "is_thing" ZmT g.GX g.II
 Kj:mg "check_thing"=some (.ref g.Jy)
 An:aG K "check_thing" "check_thing" ZhE g.Jy g.KO
 HJ:mg "data_of"=some (.ref g.GQ)
 Aa:aG K "data_of" "data_of" Zpl g.GQ g.Hz
 ZpF:mg "entries_of"=some (.ref g.ID)
 Kh:aG K "entries_of" "entries_of" Zjz g.ID g.J_
 ZjX:mg "least_free"=some (.ref g.IJ)
 D6:aG K "least_free" "least_free" Zjw g.IJ g.JE
 Zfr:mg "named_numbers"=some (.ref g.Kn)
 Ed:aG K "named_numbers" "named_numbers" Zfe g.Kn g.Lk
 Hm:mg "kind_of"=some (.ref g.GH)
 z9:aG K "kind_of" "kind_of" Zpk g.GH g.HH
 ZsM:mg "links_of"=some (.ref g.GZ)
 Ii:aG K "links_of" "links_of" ZmS g.GZ g.IK
 ZtS:mg "size_of"=some (.ref g.GB)
 HN:aG K "size_of" "size_of" Zph g.GB g.HS
 Zd8:mg "check_directory"=some (.ref g.Lq)
 Ec:aG K "check_directory" "check_directory" Zd3 g.Lq g.LA
 CZ:mg "walk"=some (.ref g.walk)
 xx:aG K "walk" "walk" ZvS g.walk g.Gz
 Zc1:mg "walk_to_directory"=some (.ref g.Lx)
 Ei:aG K "walk_to_directory" "walk_to_directory" ZcT g.Lx g.Lv
 yk:mg "check_path"=some (.ref g.IA)
 tm:aG K "check_path" "check_path" ZjA g.IA g.J9
 Lf:mg "check_not_full"=some (.ref g.K6)
 Aw:aG K "check_not_full" "check_not_full" ZeW g.K6 g.Le
 ZhY:mg "check_empty"=some (.ref g.Jx)
 D8:aG K "check_empty" "check_empty" ZhF g.Jx g.KN
 ZjY:mg "free_place"=some (.ref g.IE)
 D5:aG K "free_place" "free_place" Zjy g.IE g.Ka
 Jq:mg "with_data"=some (.ref g.HV)
 Ac:aG K "with_data" "with_data" Zk0 g.HV g.Jv
 K9:mg "with_entries"=some (.ref g.KU)
 Aj:aG K "with_entries" "with_entries" Zgy g.KU g.Lc
 JH:mg "with_entry"=some (.ref g.Zip)
 Ae:aG K "with_entry" "with_entry" Zjs g.Zip g.KW
 Zly:mg "without_thing"=some (.ref g.Kt)
 KY:aG K "without_thing" "without_thing" Zfc g.Kt g.Ln
 Lr:mg "without_entry"=some (.ref g.Ks)
 Ax:aG K "without_entry" "without_entry" Zfd g.Ks g.Lm
 ZxS:mg "made"=some (.ref g.made)
 Gm:aG K "made" "made" ZvT g.made g.Gw
 Zvl:mg "linked"=some (.ref g.lD)
 G3:aG K "linked" "linked" Zrm g.lD g.GY
 ZsL:mg "unlinked"=some (.ref g.gC)
 Ij:aG K "unlinked" "unlinked" ZmR g.gC g.Iw
 Zg0:mg "check_replaceable"=some (.ref g.LB)
 Ls:aG K "check_replaceable" "check_replaceable" ZcU g.LB g.Lu
 ZtU:mg "renamed"=some (.ref g.renamed)
 HL:aG K "renamed" "renamed" Zpj g.renamed g.Hw
 ZjW:mg "lengthened"=some (.ref g.dM)
 DS:aG K "lengthened" "lengthened" Zjv g.dM g.JF
 ZtR:mg "written"=some (.ref g.written)
 HP:aG K "written" "written" Zpg g.written g.HW
 ZtT:mg "resized"=some (.ref g.jo)
 HM:aG K "resized" "resized" Zpi g.jo g.Hx
 Zvh:Mk K g.dz g.IY
 Zkd:aG K "__init__" "Image.__init__" ZjH g.IY g.JY
 ZjV:mg "name_codes"=some (.ref g.IQ)
 DT:aG K "name_codes" "name_codes" JN g.IQ g.JI
 Zoi:mg "entries_row"=some (.ref g.Jz)
 Ky:aG K "entries_row" "entries_row" ZhD g.Jz g.KP
 ZjU:mg "table_head"=some (.ref g.Iv)
 DU:aG K "table_head" "table_head" Zjt g.Iv g.KR
 ZsN:mg "image_of"=some (.ref g.GV)
 Ih:aG K "image_of" "image_of" ZmU g.GV g.IH
 ZsO:mg "check_of"=some (.ref g.G6)
 Ig:aG K "check_of" "check_of" ZmV g.G6 g.Iz
 Zoj:mg "check_bytes"=some (.ref g.Jw)
 Kx:aG K "check_bytes" "check_bytes" Kq g.Jw g.KL
 ZrG:mg "padded"=some (.ref g.padded)
 Dm:aG K "padded" "padded" Zrl g.padded g.Hf
 ZpE:mg "head_block"=some (.ref g.IG)
 JO:aG K "head_block" "head_block" Zjx g.IG g.JD
 Zvg:Mk K g.aS g.I_
 Zkb:aG K "__init__" "Store.__init__" ZjF g.I_ g.J0
 Zd9:Meth K g.aS "image_for" g.Lp
 Zed:aG K "image_for" "Store.image_for" Zd4 g.Lp g.Lz
 ZpV:Meth K g.aS "save" g.Ja
 Zka:aG K "save" "Store.save" ZjE g.Ja g.J4
 ZqR:mg "new_store"=some (.ref g.Hq)
 Jj:aG K "new_store" "new_store" Zk1 g.Hq g.Jr
 ZjZ:mg "check_name"=some (.ref g.Jd)
 D4:aG K "check_name" "check_name" ZjB g.Jd g.J8
 Zvi:Mk K g.ak g.Ik
 Zkj:aG K "__init__" "Files.__init__" ZjN g.Ik g.JP
 DW:Meth K g.ak "read" g.Ip
 Zkg:aG K "read" "Files.read" ZjK g.Ip g.JS
 DX:Meth K g.ak "stat" g.Ir
 Zke:aG K "stat" "Files.stat" ZjI g.Ir g.JV
 Ao:Meth K g.ak "names" g.Jl
 Zim:aG K "names" "Files.names" ZhK g.Jl g.KA
 Zh6:Meth K g.ak "snaps" g.Jm
 Zil:aG K "snaps" "Files.snaps" ZhJ g.Jm g.KC
 ZpX:Meth K g.ak "make" g.Io
 Zkh:aG K "make" "Files.make" ZjL g.Io g.JR
 ZpY:Meth K g.ak "link" g.Il
 Zki:aG K "link" "Files.link" ZjM g.Il g.JQ
 Zmz:Meth K g.ak "unlink" g.JW
 ZgN:aG K "unlink" "Files.unlink" ZgB g.JW g.K3
 ZmA:Meth K g.ak "rename" g.JT
 ZgO:aG K "rename" "Files.rename" ZgC g.JT g.K2
 Zot:Meth K g.ak "write" g.Jn
 Zik:aG K "write" "Files.write" ZhI g.Jn g.KG
 ZqX:Meth K g.ak "cut" g.HQ
 Zl9:aG K "cut" "Files.cut" Zk9 g.HQ g.Jk
 ZpW:Meth K g.ak "snap" g.Iq
 Zkf:aG K "snap" "Files.snap" ZjJ g.Iq g.JU
 Zmy:Meth K g.ak "unsnap" g.JX
 ZgM:aG K "unsnap" "Files.unsnap" ZgA g.JX g.K4
 Zh7:Meth K g.ak "check_kept" g.Ld
 ZdD:aG K "check_kept" "Files.check_kept" Zdi g.Ld g.Ly
 ZL:Meth K g.ak "check_changeable" g.LC
 ZbC:aG K "check_changeable" "Files.check_changeable" Zbx g.LC g.LG
 s_:Meth K g.ak "turn_to" g.KD
 Zf5:aG K "turn_to" "Files.turn_to" Zfh g.KD g.Lo
 ZqS:mg "formatted"=some (.ref g.formatted)
 Ji:aG K "formatted" "formatted" Zk4 g.formatted g.JB
 ZlC:mg "_law_cell"=some (.ref g.fc)
 DQ:aG K "_law_cell" "_law_cell" Zk8 g.fc g.c5
 ZpH:mg "_law_drawn"=some (.ref g.dO)
 Kf:aG K "_law_drawn" "_law_drawn" ZjD g.dO g.cC
 ZlB:mg "_law_word"=some (.ref g.eY)
 DR:aG K "_law_word" "_law_word" Zk5 g.eY g.cW
 ZpI:mg "_law_asked"=some (.ref g.cz)
 Ke:aG K "_law_asked" "_law_asked" JM g.cz g.cD
 ym:mg "_law_path"=some (.ref g.eZ)
 tq:aG K "_law_path" "_law_path" Zk6 g.eZ g.cY
 ZsP:mg "_law_row"=some (.ref g.gG)
 Ie:aG K "_law_row" "_law_row" Iu g.gG g.dN
 ZqT:mg "_law_deed"=some (.ref g.e_)
 Jh:aG K "_law_deed" "_law_deed" Zk7 g.e_ g.cZ
 DN:mg "_law_told"=some (.ref g.dc)
 yl:aG K "_law_told" "_law_told" Jt g.dc g.cX
 Zg1:mg "_law_number_right"=some (.ref g.aZ)
 Zgr:Ybp K Xj "_law_number_right"=some (some (.ref g.aZ))
 Eh:aG K "_law_number_right" "_law_number_right" Av g.aZ g.bc
 Zk:Xn K "_law_number_right"=some (g.Zcx,g.Zk)
 Zgn:K.lookup g.Zk=none
 ZyR:mg "law"=some (.ref g.B_)
 ZxQ:Ybp K Xj "law"=some (some (.ref g.B_))
 F4:aG K "law" "law" F_ g.B_ g.Ge
 gk:Xn K "law"=some (g.Zwf,g.gk)
 Zxr:K.lookup g.gk=none
 BH:g.Zk≠g.gk
 HY:Ze2 K g.fY
 Znt:Ze2 K g.bR
 ZoV:Ze2 K g.f7
 HX:Ze2 K g.f6
 ZuL:Ze2 K g.ji
 Zr8:Ze2 K g.d8
 vz:Ze2 K g.de
 ye:Ze2 K g.cR
 Zr7:Ze2 K g.d7
 Zxn:Ze2 K g.fZ
 ZwL:ZuJ K g.ak
 xf:∀ r:Rf,Zl1 K (g.xa r)
 pF:∀ r u:Rf,Yae K (.ref (g.xa r)) (.ref (g.xa u))=some (decide (r=u))
 Mn:∀ r:Rf,Yae K (.ref (g.xa r)) (.ref g.bK)=some true
 vQ:∀ r:Rf,Yae K (.ref (g.xa r)) (.type "ValueError")=some true
 Zjo:ZoQ K g.bK
 sub:∀ r:Rf,PySem.W.subIn K (.ref (g.xa r)) (.ref g.bK)=some true
 ZlS:mg "FEWEST_BLOCKS"=some (.int 16 g.Zmb)
 Zh8:mg "MOST_BLOCKS"=some (.int 256 g.ZoN)
 Ki:mg "BLOCK_BYTES"=some (.int 64 g.ZoT)
 Zow:mg "FIRST_BLOCK"=some (.int 2 g.ZoP)
 Zng:mg "NO_BLOCK"=some (.int 0 g.Zs2)
 Ai:mg "ROW_BYTES"=some (.int 63 g.Zra)
 Zj4:mg "NAME_SIGNS"=some (.str "ABCDEFGHIJKLMNOPQRSTUVWXYZabcdefghijklmnopqrstuvwxyz0123456789._-" g.Zqp)
 ZgK:mg "LONGEST_NAME"=some (.int 8 g.ZmI)
 ZmC:mg "LONGEST_PATH"=some (.int 60 g.ZmH)
 Zwa:mg "ROOT"=some (.int 0 g.Zyp)
 Zov:mg "MOST_THINGS"=some (.int 32 g.ZoM)
 Zj5:mg "MOST_BYTES"=some (.int 600 g.Zqq)
 ZmB:mg "MOST_ENTRIES"=some (.int 40 g.ZmG)
 Zp1:mg "ENTRY_SIZE"=some (.int 10 g.Zqr)
 Zx7:mg "MARK"=some (.ref g.MARK)
 ZxG:∀ H,aF K H g.MARK [.int 83,.int 116,.int 105,.int 108]
 Zox:mg "CHECK_PLACE"=some (.int 37 g.ZoS)
 ZqY:mg "FILE_KIND"=some (.int 1 g.Zrd)
 Zkr:mg "DIRECTORY_KIND"=some (.int 2 g.Zkw)
 ZmD:mg "CHECK_FACTOR"=some (.int 1000003 g.ZmJ)
 Zh9:mg "CHECK_PRIME"=some (.int 4294967291 g.ZoR)
 Zt9:mg "TURNS"=some (.int 256 g.Zxc)
 Zkq:mg "MOST_SNAPSHOTS"=some (.int 3 g.Zku)
 sP:mg "range"=none
 Zxk:mg "min"=none
 eL:mg "len"=none
 GD:mg "tuple"=none
 Zqt:mg "enumerate"=none
 Zxm:mg "all"=none
 vv:mg "sorted"=none
 pT:mg "list"=none
 sx:mg "dict"=none
 Zyx:mg "sum"=none
 Zyw:mg "zip"=none
 ZS:mg "isinstance"=none
 ZoU:mg "ValueError"=none
 Zxl:mg "int"=none
 Zyz:mg "max"=none
 Zyy:mg "str"=none
section
variable {K:Yf} {mg:Str->Option Value} {g:Gs}
theorem Tx.kA (T:Tx K mg g):ZF K g.Jg ["self","count"] []:=T.Zma.b2
theorem Tx.cB (T:Tx K mg g):ZF K g.Kd ["self","number","block"] []:=T.Zkk.b3
theorem Tx.c8 (T:Tx K mg g):ZF K g.KZ ["self"] []:=T.ZgP.b1
theorem Tx.ik (T:Tx K mg g):ZF K g.KI ["disk"] []:=T.Kw.b1
theorem Tx.jt (T:Tx K mg g):ZF K g.J5 ["length"] []:=T.Kg.b1
theorem Tx.gQ (T:Tx K mg g):ZF K g.K7 ["count","places"] []:=T.K1.b2
theorem Tx.ir (T:Tx K mg g):ZF K g.Ku ["self","free","older"] []:=T.Zio.b3
theorem Tx.eu (T:Tx K mg g):ZF K g.Kb ["self","row"] []:=T.Zkl.b2
theorem Tx.iq (T:Tx K mg g):ZF K g.Kv ["self","many"] []:=T.Zin.b2
theorem Tx.gR (T:Tx K mg g):ZF K g.K5 ["row","numbers"] []:=T.K0.b2
theorem Tx.iV (T:Tx K mg g):ZF K g.HE ["text"] []:=T.Dw.b1
theorem Tx.mX (T:Tx K mg g):ZF K g.HF ["text"] []:=T.HK.b1
theorem Tx.aD (T:Tx K mg g):ZF K g.JK ["path"] []:=T.Z7.b1
theorem Tx.bF (T:Tx K mg g):ZF K g.JZ ["self","data","entries"] []:=T.Zkc.b3
theorem Tx.ie (T:Tx K mg g):ZF K g.KQ [] []:=T.Kz.b0
theorem Tx.dC (T:Tx K mg g):ZF K g.KH ["state"] []:=T.D7.b1
theorem Tx.gP (T:Tx K mg g):ZF K g.II ["state","number"] []:=T.DG.b2
theorem Tx.bX (T:Tx K mg g):ZF K g.KO ["state","number"] []:=T.An.b2
theorem Tx.eX (T:Tx K mg g):ZF K g.Hz ["state","number"] []:=T.Aa.b2
theorem Tx.js (T:Tx K mg g):ZF K g.J_ ["state","number"] []:=T.Kh.b2
theorem Tx.eo (T:Tx K mg g):ZF K g.JE ["state"] []:=T.D6.b1
theorem Tx.cF (T:Tx K mg g):ZF K g.Lk ["state"] []:=T.Ed.b1
theorem Tx.eW (T:Tx K mg g):ZF K g.HH ["state","number"] []:=T.z9.b2
theorem Tx.lF (T:Tx K mg g):ZF K g.IK ["state","number"] []:=T.Ii.b2
theorem Tx.mU (T:Tx K mg g):ZF K g.HS ["state","number"] []:=T.HN.b2
theorem Tx.bS (T:Tx K mg g):ZF K g.LA ["state","number"] []:=T.Ec.b2
theorem Tx.jh (T:Tx K mg g):ZF K g.Gz ["state","names"] []:=T.xx.b2
theorem Tx.bB (T:Tx K mg g):ZF K g.Lv ["state","path"] []:=T.Ei.b2
theorem Tx.a9 (T:Tx K mg g):ZF K g.J9 ["path"] []:=T.tm.b1
theorem Tx.bt (T:Tx K mg g):ZF K g.Le ["state","directory"] []:=T.Aw.b2
theorem Tx.dB (T:Tx K mg g):ZF K g.KN ["state","number"] []:=T.D8.b2
theorem Tx.er (T:Tx K mg g):ZF K g.Ka ["state","path"] []:=T.D5.b2
theorem Tx.cV (T:Tx K mg g):ZF K g.Jv ["state","number","row"] []:=T.Ac.b3
theorem Tx.bL (T:Tx K mg g):ZF K g.Lc ["state","number","entries"] []:=T.Aj.b3
theorem Tx.cA (T:Tx K mg g):ZF K g.KW ["state","directory","name","number"] []:=T.Ae.b4
theorem Tx.fO (T:Tx K mg g):ZF K g.Ln ["state","number"] []:=T.KY.b2
theorem Tx.bx (T:Tx K mg g):ZF K g.Lm ["state","directory","name"] []:=T.Ax.b3
theorem Tx.wD (T:Tx K mg g):ZF K g.Gw ["state","path","kind"] []:=T.Gm.b3
theorem Tx.pE (T:Tx K mg g):ZF K g.GY ["state","old","new"] []:=T.G3.b3
theorem Tx.lE (T:Tx K mg g):ZF K g.Iw ["state","path"] []:=T.Ij.b2
theorem Tx.dv (T:Tx K mg g):ZF K g.Lu ["state","number","there"] []:=T.Ls.b3
theorem Tx.mW (T:Tx K mg g):ZF K g.Hw ["state","old","new"] []:=T.HL.b3
theorem Tx.ei (T:Tx K mg g):ZF K g.JF ["row","size"] []:=T.DS.b2
theorem Tx.mT (T:Tx K mg g):ZF K g.HW ["state","number","start","row"] []:=T.HP.b4
theorem Tx.mV (T:Tx K mg g):ZF K g.Hx ["state","number","size"] []:=T.HM.b3
theorem Tx.jy (T:Tx K mg g):ZF K g.JY ["self","places","heads"] []:=T.Zkd.b3
theorem Tx.eh (T:Tx K mg g):ZF K g.JI ["name"] []:=T.DT.b1
theorem Tx.ig (T:Tx K mg g):ZF K g.KP ["entries"] []:=T.Ky.b1
theorem Tx.eg (T:Tx K mg g):ZF K g.KR ["state","chains"] []:=T.DU.b2
theorem Tx.lG (T:Tx K mg g):ZF K g.IH ["state","kept","free","older"] []:=T.Ih.b4
theorem Tx.lH (T:Tx K mg g):ZF K g.Iz ["row"] []:=T.Ig.b1
theorem Tx.ij (T:Tx K mg g):ZF K g.KL ["rows"] []:=T.Kx.b1
theorem Tx.kq (T:Tx K mg g):ZF K g.Hf ["row","length"] []:=T.Dm.b2
theorem Tx.jr (T:Tx K mg g):ZF K g.JD ["image","turn"] []:=T.JO.b2
theorem Tx.jx (T:Tx K mg g):ZF K g.J0 ["self","disk","slot","turn","synced"] []:=T.Zkb.b5
theorem Tx.bT (T:Tx K mg g):ZF K g.Lz ["self","state","kept"] []:=T.Zed.b3
theorem Tx.jw (T:Tx K mg g):ZF K g.J4 ["self","image"] []:=T.Zka.b2
theorem Tx.kr (T:Tx K mg g):ZF K g.Jr ["disk"] []:=T.Jj.b1
theorem Tx.et (T:Tx K mg g):ZF K g.J8 ["name"] []:=T.D4.b1
theorem Tx.jC (T:Tx K mg g):ZF K g.JP ["self","state","kept","store","image"] []:=T.Zkj.b5
theorem Tx.bH (T:Tx K mg g):ZF K g.JS ["self","number","start","many"] []:=T.Zkg.b4
theorem Tx.bG (T:Tx K mg g):ZF K g.JV ["self","number"] []:=T.Zke.b2
theorem Tx.bf (T:Tx K mg g):ZF K g.KA ["self","number"] []:=T.Zim.b2
theorem Tx.dD (T:Tx K mg g):ZF K g.KC ["self"] []:=T.Zil.b1
theorem Tx.jA (T:Tx K mg g):ZF K g.JR ["self","path","kind"] []:=T.Zkh.b3
theorem Tx.jB (T:Tx K mg g):ZF K g.JQ ["self","old","new"] []:=T.Zki.b3
theorem Tx.gU (T:Tx K mg g):ZF K g.K3 ["self","path"] []:=T.ZgN.b2
theorem Tx.gW (T:Tx K mg g):ZF K g.K2 ["self","old","new"] []:=T.ZgO.b3
theorem Tx.ip (T:Tx K mg g):ZF K g.KG ["self","number","start","row"] []:=T.Zik.b4
theorem Tx.kz (T:Tx K mg g):ZF K g.Jk ["self","number","size"] []:=T.Zl9.b3
theorem Tx.jz (T:Tx K mg g):ZF K g.JU ["self","name"] []:=T.Zkf.b2
theorem Tx.gT (T:Tx K mg g):ZF K g.K4 ["self","name"] []:=T.ZgM.b2
theorem Tx.dP (T:Tx K mg g):ZF K g.Ly ["self","name"] []:=T.ZdD.b2
theorem Tx.ai (T:Tx K mg g):ZF K g.LG ["self"] []:=T.ZbC.b1
theorem Tx.aE (T:Tx K mg g):ZF K g.Lo ["self","state","kept"] []:=T.Zf5.b3
theorem Tx.ku (T:Tx K mg g):ZF K g.JB ["disk"] []:=T.Ji.b1
theorem Tx.fG (T:Tx K mg g):ZF K g.c5 ["_law_script","_law_k"] []:=T.DQ.b2
theorem Tx.ju (T:Tx K mg g):ZF K g.cC ["_law_cell_here","_law_k"] []:=T.Kf.b2
theorem Tx.fF (T:Tx K mg g):ZF K g.cW ["_law_e"] []:=T.DR.b1
theorem Tx.jv (T:Tx K mg g):ZF K g.cD ["_law_files","_law_deed_here"] []:=T.Ke.b2
theorem Tx.bh (T:Tx K mg g):ZF K g.cY ["_law_more"] []:=T.tq.b1
theorem Tx.lI (T:Tx K mg g):ZF K g.dN ["_law_cell_here","_law_more"] []:=T.Ie.b2
theorem Tx.kx (T:Tx K mg g):ZF K g.cZ ["_law_script","_law_k"] []:=T.Jh.b2
theorem Tx.bQ (T:Tx K mg g):ZF K g.cX ["_law_rule"] []:=T.yl.b1
theorem Tx.dw (T:Tx K mg g):ZF K g.bc ["_law_files","_law_number","_law_links"] []:=T.Eh.b3
end
abbrev fM:List Str:=["_law_number_right","law"]
theorem aX (n:Nat) (h:n<=100:=by decide):n<=Ym:=Yk h (by decide)
theorem _root_.L2.aV.dn {j k:Nat} {A:Around} (r:aV k A) (h:j<=k:=by decide):aV j A:=r.mono h
def pS (ns:List Int) (k:Int):Int:=if ns=[] then k * 7919 else ns.getD (k % (ns.length:Int)).toNat 0 + k / (ns.length:Int) * 104729
def xt (c k:Int):Int:=(c * 6364136223846793005 + (k + 1) * 1442695040888963407) % 340282366920938463463374607431768211507
def Zyf (c k:Int):Int:=xt c k * xt c k % 340282366920938463463374607431768211297
theorem Zve (c k:Int):0<=xt c k:=Int.emod_nonneg _ (by decide)
theorem Zvf (c k:Int):xt c k < 340282366920938463463374607431768211507:=YbS _ (by decide)
theorem Zv8 {n:Int} {m:Nat} (h0:0<=n) (h1:n < (m:Int)):pG m n=some n.toNat:=by
 unfold pG;rw [if_pos h0,if_pos h1]
theorem sH {α:Type} {xs:List α} {n:Int} {v:α} (h0:0<=n) (h:xs[n.toNat]?=some v):fS xs n=some v:=by
 have h1:n < (xs.length:Int):=by
  have:=(List.getElem?_eq_some_iff.mp h).1
  omega
 unfold fS;rw [Zv8 h0 h1];exact h
theorem GW (H:Hp):∀ ns:List Int,dW H (ns.map V.int) (ns.map PyData.int)
 | []=>.nil
 | n::r=>.cons (.int n) (GW H r)
theorem ZrM (H:Hp):∀ ns:List Str,dW H (ns.map V.str) (ns.map PyData.str)
 | []=>.nil
 | n::r=>.cons (.str n) (ZrM H r)
def Flat (k:Nat) (d:Wd):Prop:=d.canLay0=true/\d.depth<=k
theorem G9 {k:Nat}:∀ {ds:List Wd},(∀ d∈ds,Flat k d)->PyData.canLayAll0 ds=true/\PyData.depthAll ds<=k
 | [],_=>⟨rfl,Yv _⟩
 | d::r,h=>by
  obtain ⟨h1,h2⟩:=h d YA;obtain ⟨h3,h4⟩:=G9 (ds:=r) fun e he=>h e (Yr _ he);refine ⟨?_,?_⟩
  .show (PyData.canLay0 d && PyData.canLayAll0 r)=true;rw [h1,h3];rfl
  .show max d.depth (PyData.depthAll r)<=k;exact Nat.max_le.mpr ⟨h2,h4⟩
theorem Flat.tup {k:Nat} {ds:List Wd} (h:∀ d∈ds,Flat k d):Flat (k + 1) (.tuple ds):=by
 obtain ⟨h1,h2⟩:=G9 h;exact ⟨h1,Y4 h2⟩
theorem Ju {k:Nat} {ds:List Wd} (h:∀ d∈ds,Flat k d) (hk:k<=60):YY (.list ds)=true:=by
 obtain ⟨h1,h2⟩:=G9 h
 have h3:PyData.depth (.list ds)<=64:=by
  show PyData.depthAll ds + 1<=64;omega
 unfold YY;rw [show PyData.canLay0 (.list ds)=true from h1,decide_eq_true h3];rfl
theorem Zqy {k:Nat} {d:Wd} (h:Flat k d) (hk:k<=60):YY d=true:=by
 have h3:d.depth<=64:=Yk h.2 (by omega);unfold YY;rw [h.1,decide_eq_true h3];rfl
theorem Dt (i:Int):Flat 0 (.int i):=⟨rfl,Ye _⟩
theorem G' {i:Str} (h:(PyData.str i).canLay0=true):Flat 0 (.str i):=⟨h,Ye _⟩
theorem DP (ns:List Int):YY (.list (ns.map PyData.int))=true:=Ju (k:=0) (fun d hd=>by
 obtain ⟨i,_,rfl⟩:=List.mem_map.mp hd;exact Dt i) (by decide)
theorem dW.snoc {H:Hp} {v:V} {d:Wd} (h:Im H v d):∀ {xs:List V} {ds:List Wd},dW H xs ds->dW H (xs++[v]) (ds++[d])
 | _,_,.nil=>.cons h .nil
 | _,_,.cons a r=>.cons a (dW.snoc h r)
theorem xY (n:Nat) (v:V):(List.replicate n [v]).flatten=List.replicate n v:=by
 induction n with
 | zero=>rfl
 | succ n ih=>rw [Xg,Xh,ih];rfl
theorem Zy2:¬ (("blocks":Str)="log"):=by decide +kernel
def d3 (b l:Addr):List (Str×V):=au "log" (.ref l) (au "blocks" (.ref b) [])
theorem Zwb (b l:Addr):(d3 b l).lookup ("blocks":Str)=some (.ref b):=by
 unfold d3;rw [Zo,if_neg Zy2,Zo,if_pos rfl]
theorem Gk (b l:Addr):(d3 b l).lookup ("log":Str)=some (.ref l):=by
 unfold d3;rw [Zo,if_pos rfl]
theorem GS (b l:Addr) {m:Str} (h1:¬ m="log") (h2:¬ m="blocks"):(d3 b l).lookup m=none:=by
 unfold d3;rw [Zo,if_neg h1,Zo,if_neg h2]
 all_goals rfl
def zI:Wd:=.tuple (List.replicate 64 (.int 0))
structure Zwj (C:Addr) (H:Hp) (p b l:Addr) (vb vl:List V) (bs lg:List Wd):Prop where
 ob:∃ dx,H p=some (.ins C dx (d3 b l))
 hb:H b=some (.lst vb)
 hl:H l=some (.lst vl)
 ib:dW H vb bs
 il:dW H vl lg
 ne:b≠l
inductive pk (C TG:Addr) (vs:List V) (H:Hp) (Q:VK) (E:XK):Prop
 | mk (p dx:Addr) (n:Int):vs=[.ref p,.int n]->H p=some (.ins C dx [])->((n < 16∨256 < n)->E (.ref TG) none H)->(16<=n->n<=256->∀ (b l:Addr) (vb:List V) (H':Hp),H b=none->H l=none->Zwj C H' p b l vb [] (List.replicate n.toNat zI) []->(∀ c o,H c=some o->c≠p->H' c=some o)->Q .aK H')->pk C TG vs H Q E
inductive jl (C:Addr) (vs:List V) (H:Hp) (Q:VK) (aL:XK):Prop
 | mk (p dx b l:Addr) (vb vl:List V) (n:Int) (v:V):vs=[.ref p,.int n,v]->H p=some (.ins C dx (d3 b l))->H b=some (.lst vb)->H l=some (.lst vl)->b≠l->0<=n->n < (vb.length:Int)->vl.length<=100000->(∀ t,H t=none->Q .aK (upd (upd (upd H b (.lst (vb.set n.toNat v))) t (.tup [.str "write",.int n,v])) l (.lst (vl++[.ref t]))))->jl C vs H Q aL
inductive oR (C:Addr) (vs:List V) (H:Hp) (Q:VK) (aL:XK):Prop
 | mk (p dx b l:Addr) (vl:List V):vs=[.ref p]->H p=some (.ins C dx (d3 b l))->H l=some (.lst vl)->vl.length<=100000->(∀ t,H t=none->Q .aK (upd (upd H t (.tup [.str "barrier"])) l (.lst (vl++[.ref t]))))->oR C vs H Q aL
theorem ZnS:Zp ["self","number","block"] ["self","number","block"] (Zi ZjO):=ZN (by decide +kernel)
theorem Ko (T:Tx K mg g):ah P w K mg base (ay P w) 1 g.Ib g.Kd ["self","number","block"] (jl g.bE):=by
 refine T.Zkk.aP ZnS fun vs H Q E h=>?_;obtain ⟨p,dx,b,l,vb,vl,n,v,rfl,hp,hb,hl,ne,h0,h1,hz,q⟩:=h;refine ⟨rfl,fun _ _ _ _ hr=>?_⟩
 refine ⟨_,(Zd (ZxH (pv 2) (ZxJ (Zv (pv 0) rfl) (pv 1) ZuY))
  (Zh (ZC (lR YR Xl Xk qT (Zv (pv 0) rfl) (Za (dH (Za Zr (Za (pv 1) (Za (pv 2) Ze)))) Ze))))),?_⟩
 have B7:p≠b:=ZR hp hb (by intro z;cases z);have iY:∀ o,(upd H b o) p=some (.ins g.bE dx (d3 b l)):=fun o=>by rw [Zf B7];exact hp
 have eB:∀ o,(upd H b o) l=some (.lst vl):=fun o=>by rw [Zf ne.symm];exact hl
 refine ⟨_,rfl,_,rfl,p,g.bE,dx,_,_,rfl,hp,T.og,T.Kk,Zwb _ _,_,rfl,b,vb,n,n.toNat,rfl,rfl,hb,Zv8 h0 h1,?_⟩;refine ⟨_,rfl,p,g.bE,dx,_,_,rfl,iY _,T.og,T.IP,Gk _ _,.inl ⟨rfl,vl,aq.of (eB _)⟩,?_⟩;refine ⟨_,rfl,_,rfl,aX 3,fun t ht=>?_⟩;have nlt:l≠t:=Zg (eB _) ht
 have Ce:H t=none:=by
  by_cases z:t=b
  .rw [z,Zb] at ht;cases ht
  .rw [Zf z] at ht;exact ht
 refine ⟨l,vl,_,rfl,rfl,(by rw [Zf nlt];exact eB _),(YO hz (by decide)),?_⟩;exact q t Ce
theorem ZkZ:Zp ["self"] ["self"] (Zi ZgD):=ZN (by decide +kernel)
theorem Zfo (T:Tx K mg g):ah P w K mg base (ay P w) 1 g.Kc g.KZ ["self"] (oR g.bE):=by
 refine T.ZgP.aP ZkZ fun vs H Q E h=>?_;obtain ⟨p,dx,b,l,vl,rfl,hp,hl,hz,q⟩:=h;refine ⟨rfl,fun _ _ _ _ hr=>?_⟩;refine ⟨_,(Zh (ZC (lR YR Xl Xk qT (Zv (pv 0) rfl) (Za (dH (Za Zr Ze)) Ze)))),?_⟩;refine ⟨_,rfl,p,g.bE,dx,_,_,rfl,hp,T.og,T.IP,Gk _ _,.inl ⟨rfl,vl,aq.of hl⟩,?_⟩;refine ⟨aX 1,fun t ht=>?_⟩;exact ⟨l,vl,_,rfl,rfl,(by rw [Zf (Zg hl ht)];exact hl),(YO hz (by decide)),q t ht⟩
theorem Zt6 {H:Hp} {v:V} {d:Wd} (h:Im H v d):∀ n:Nat,dW H (List.replicate n v) (List.replicate n d)
 | 0=>.nil
 | n + 1=>.cons h (Zt6 h n)
theorem Zpf:Zp ["self","count"] ["self","count"] (Zi Js):=ZN (by decide +kernel)
theorem Zpy (T:Tx K mg g):ah P w K mg base (ay P w) 1 g.Hl g.Jg ["self","count"] (pk g.bE g.cR):=by
 refine T.Zma.aP Zpf fun vs H Q E h=>?_;obtain ⟨p,dx,n,rfl,hp,hE,q⟩:=h;refine ⟨rfl,fun _ _ _ _ hr=>?_⟩
 refine ⟨_,(Zd (Z0 (PW.pt (nW (ZG xu (pv 1) (ZJ (v:=.int 16) rfl T.ZlS ⟨_,rfl⟩) (ZO _)) (sG (ZG uY (pv 1) (ZJ (v:=.int 256) rfl T.Zh8 ⟨_,rfl⟩) (ZO _))))) (Zh (Z2 T.ye rfl T.vC (Za Zr Ze))) Zx)
  (Zd (fW (pv 0) (xQ (own:=["number"]) (fv:=[]) (ix:=[]) (ot (sc:=Zi Js) (N:=["self","count"]) rfl rfl (by decide +kernel)) rfl (x_ rfl T.sP (Za (pv 1) Ze)) (fun _ _ _ _ _=>Z9 (i:=0) (show (["number"]:List Str).Nodup from by decide +kernel) rfl (Or.inl rfl) (Or.inr rfl)) (fun _ _ _ _ _=>xK) (fun _ _ _ _ _=>(Zy ZtB (dH (Za Zl Ze)) (ZJ (v:=.int 64) rfl T.Ki ⟨_,rfl⟩)))) rfl)
  (Zh (fW (pv 0) (fV Ze) rfl)))),?_⟩
 refine ⟨_,rfl,_,_,rfl,rfl,_,rfl,?_⟩
 by_cases h1:n < 16
 .rw [decide_eq_true h1];refine ax (ax ?_);exact ⟨aX 1,hE (.inl h1)⟩
 .rw [decide_eq_false h1];refine av ⟨_,rfl,_,_,rfl,rfl,_,rfl,?_⟩
  by_cases h2:256 < n
  .rw [decide_eq_true h2];refine ax ?_;exact ⟨aX 1,hE (.inr h2)⟩
  .rw [decide_eq_false h2];refine av ?_;have xj:16<=n:=by omega
   have uO:n<=256:=by omega
   -- self.blocks=[(0,) * tZ for number in range(count)]
   refine ⟨_,rfl,n,rfl,by omega,by omega,fun D hD=>?_⟩;have yH:p≠D:=Zg hp hD
   have hnL:n.toNat<=Ym:=by
    have:(256:Nat)<=Ym:=by decide
    omega
   refine Znl (dX ZxF (vH (c9 (tC (V.int 0)) bq)) (tC (V.int 64))) (n:=n.toNat) (lo:=0) (fun i ys H'=>ys.length=i/\H' D=some (.lst ys)/\dW H' ys (List.replicate i zI)/\ag H H') ⟨rfl,Zb,.nil,Zj hD⟩ hnL (fun i ys H' h=>⟨h.2.1,WW h.1⟩) (fun i ys H' N hi h k=>?_) (fun ys H' h=>?_)
   .obtain ⟨e1,e2,e3,e4⟩:=h;refine ⟨aX 1,fun t ht=>?_⟩;refine ⟨t,64,[.int 0],rfl,rfl,Zb,by simp,by decide,by decide,by show 1 * 64<=Ym;decide,fun u hu=>?_⟩;have ntD:D≠t:=Zg e2 ht;have nuD:D≠u:=Zg (H:=upd H' t (.tup [.int 0])) (by rw [Zf ntD];exact e2) hu;have sm:ag H' (upd (upd H' t (.tup [.int 0])) u (.tup (List.replicate (64:Int).toNat [V.int 0]).flatten)):=(Zj ht).trans (Zj hu);have xg:(upd (upd H' t (.tup [.int 0])) u (.tup (List.replicate (64:Int).toNat [V.int 0]).flatten)) D=some (.lst ys):=sm _ _ e2;refine k _ _ xg ⟨by rw [Yg,e1];rfl,Zb,?_,?_⟩
    .have hz:Im (upd (upd (upd H' t (.tup [.int 0])) u (.tup (List.replicate (64:Int).toNat [V.int 0]).flatten)) D (.lst (ys++[.ref u]))) (.ref u) zI:=by
      refine .tup (xs:=List.replicate 64 (V.int 0)) ?_ (Zt6 (.int 0) 64);rw [Zf nuD.symm,Zb];rw [xY];rfl
     rw [List.replicate_succ'];refine dW.snoc hz (dW.keep (fun a xs e=>?_) e3);have e':=sm _ _ e
     have:a≠D:=ZR e e2 (by intro z;cases z)
     rw [Zf this];exact e'
    .intro b o e
     have:b≠D:=fun z=>by rw [z,hD] at e;cases e
     rw [Zf this];exact sm _ _ (e4 _ _ e)
   .obtain ⟨e1,e2,e3,e4⟩:=h;have rX:H' p=some (.ins g.bE dx []):=e4 _ _ hp;refine ⟨_,rfl,p,g.bE,dx,[],rfl,rX,T.og,T.Kk,(by show 0 < 1000;decide),?_⟩;refine ⟨Yv _,fun L hL=>?_⟩;have EU:p≠L:=Zg (H:=upd H' p (.ins g.bE dx (au "blocks" (.ref D) []))) Zb hL;have nDL:D≠L:=Zg (H:=upd H' p (.ins g.bE dx (au "blocks" (.ref D) []))) (by rw [Zf yH.symm];exact e2) hL;have hL':H' L=none:=by rw [Zf EU.symm] at hL;exact hL
    refine ⟨_,rfl,p,g.bE,dx,_,rfl,(by rw [Zf EU,Zb]),T.og,T.IP,(by show 1 < 1000;decide),?_⟩
    have hLH:H L=none:=by
     cases z:H L with
     | none=>rfl
     | some o=>have:=e4 _ _ z;rw [hL'] at this;cases this
    refine q xj uO D L ys _ hD hLH ⟨⟨dx,Zb⟩,?_,?_,?_,.nil,nDL⟩ fun c o e hc=>?_
    .rw [Zf yH.symm,Zf nDL,Zf yH.symm];exact e2
    .rw [Zf EU.symm,Zb]
    .refine dW.keep (fun a xs e=>?_) e3;have a1:a≠p:=ZR e rX (by intro z;cases z);have a2:a≠L:=Zg e hL';rw [Zf a1,Zf a2,Zf a1];exact e
    .have c2:c≠L:=Zg e hLH;rw [Zf hc,Zf c2,Zf hc];exact e4 _ _ e
def qF:Str:="ABCDEFGHIJKLMNOPQRSTUVWXYZabcdefghijklmnopqrstuvwxyz0123456789._-"
def va (c:Nat):Bool:=!(YX qF ⟨#[c]⟩ 0 qF.length 1).isEmpty
def eD (t:Str):Bool:=if t.length < 1∨8 < t.length∨t="."∨t=".." then false else (List.range t.cps.size).all fun i=>va (t.cps.getD i 0)
def Zw (p:Str):List Str:=if p="/" then [] else lV (mQ p (some 1) none) "/"
def fI (p:Str):Bool:=if 60 < p.length then false else if !(decide (0 + Str.length "/"<=p.length) && WL p "/" 0) then false else (Zw p).all eD
inductive kg (vs:List V) (H:Hp) (Q:VK) (aL:XK):Prop
 | mk (t:_):vs=[.str t]->t.length<=Ym->(∀ H',ag H H'->Q (.bl (eD t)) H')->kg vs H Q aL
theorem Zwg (n:Nat) (f:Nat->Bool):((List.range n).filterMap fun i=>some (V.bl (f i)))=((List.range n).map f).map V.bl:=by
 rw [Ybn,XJ];rfl
theorem all_map (n:Nat) (f:Nat->Bool):((List.range n).map f).all id=(List.range n).all f:=by
 rw [List.all_map];rfl
theorem Mq (t a b:Str):rQ (.str t) [.str a,.str b]=(decide (t=a) || decide (t=b)):=by
 show ((a == t) || ((b == t) || false))=_;rw [Xs]
 congr 1
 .rw [WE,beq_iff_eq,decide_eq_true_iff];exact eq_comm
 .rw [WE,beq_iff_eq,decide_eq_true_iff];exact eq_comm
theorem Zsr:Zp ["text"] ["text"] (Zi HZ):=ZN (by decide +kernel)
theorem Zm7 (T:Tx K mg g):ah P w K mg base (ay P w) 1 g.GF g.HE ["text"] kg:=by
 refine T.Dw.aP Zsr fun vs H Q E h=>?_;obtain ⟨t,rfl,hl,q⟩:=h;refine ⟨rfl,fun _ _ _ _ hr=>?_⟩;have hc:t.cps.size=t.length:=rfl
 refine ⟨_,(Zd (Z0 (PW.pt (nW (ZG xu (ZD J6 (by rfl) T.eL YC (Za (pv 0) Ze)) Zl (ZO _)) (nW (ZG uY (ZD J6 (by rfl) T.eL YC (Za (pv 0) Ze)) (ZJ (v:=.int 8) rfl T.ZgK ⟨_,rfl⟩) (ZO _)) (sG (ZG Ht (pv 0) (dH (Za Zr (Za Zr Ze))) rfl))))) (Zh (Zt pQ)) Zx)
  (Zh (Zt (ZD Zr2 (by rfl) T.Zxm PyProof.Rows.Boot.«all» (Za (xQ (own:=["sign"]) (fv:=[]) (ix:=[]) (ot (sc:=Zi HZ) (N:=["text"]) rfl rfl (by decide +kernel)) rfl (ZvZ (pv 0)) (fun _ _ _ _ _=>Z9 (i:=0) (show (["sign"]:List Str).Nodup from by decide +kernel) rfl (Or.inl rfl) (Or.inr rfl)) (fun _ _ _ _ _=>xK) (fun _ _ _ _ _=>(oh ZtC (pv 0) (ZJ (v:=.str "ABCDEFGHIJKLMNOPQRSTUVWXYZabcdefghijklmnopqrstuvwxyz0123456789._-") rfl T.Zj4 ⟨_,rfl⟩) rfl))) Ze))))),?_⟩
 refine ⟨_,rfl,_,rfl,hl,_,_,rfl,rfl,_,rfl,?_⟩
 by_cases h1:t.length < 1
 .rw [decide_eq_true (show (t.length:Int) < 1 by omega)];refine ax (ax ?_)
  have:=q H (ag.refl _)
  unfold eD at this;rw [if_pos (.inl h1)] at this;exact this
 .rw [decide_eq_false (show ¬ (t.length:Int) < 1 by omega)];refine av ?_;refine ⟨_,rfl,_,rfl,hl,_,_,rfl,rfl,_,rfl,?_⟩
  by_cases h2:8 < t.length
  .rw [decide_eq_true (show (8:Int) < (t.length:Int) by omega)];refine ax (ax ?_)
   have:=q H (ag.refl _)
   unfold eD at this;rw [if_pos (.inr (.inl h2))] at this;exact this
  .rw [decide_eq_false (show ¬ (8:Int) < (t.length:Int) by omega)];refine av ?_;refine ⟨_,rfl,(aX 2),fun p hp=>?_⟩;refine ⟨p,_,rfl,.inr (aF.of Zb),rfl,rfl,_,rfl,?_⟩;have s1:ag H (upd H p (.tup [.str ".",.str ".."])):=Zj hp;rw [show (if false=true then !rQ (.str t) [.str ".",.str ".."] else rQ (.str t) [.str ".",.str ".."])=(decide (t=".") || decide (t="..")) from Mq _ _ _]
   by_cases h3:t="."∨t=".."
   .rw [show (decide (t=".") || decide (t=".."))=true by simpa using h3];refine ax ?_
    have:=q _ s1
    unfold eD at this;rw [if_pos (.inr (.inr h3))] at this;exact this
   .rw [show (decide (t=".") || decide (t=".."))=false by simpa using h3];refine av ?_;refine ⟨_,rfl,_,rfl,fun D hD=>?_⟩;refine zZ (J:=Em t) t.cps.size (fun i=>some (V.bl (va (t.cps.getD i 0)))) (fun i x=>x=.str ⟨#[t.cps.getD i 0]⟩) hD (by omega) (fun i H' hi _=>hi) (fun H' _=>rfl) (fun i H' x H2 hi _ hy=>?_) (fun i x H' N hi hx _ k=>?_) fun H' s' hH=>?_
    .obtain ⟨e,c,hc,e2⟩:=hy;refine ⟨e,?_⟩;rw [e2,show t.cps.getD i 0=c by rw [YE,hc];rfl]
    .subst hx;refine ax (B:=N none H') ?_;exact ⟨_,rfl,_,_,rfl,rfl,k _ (ag.refl _)⟩
    .refine ⟨D,(List.range t.cps.size).map fun i=>va (t.cps.getD i 0),rfl,aq.of (by rw [hH,Zwg]),?_⟩
     have:=q _ (s1.trans s')
     unfold eD at this;rw [if_neg (by intro z;rcases z with z | z | z;exact h1 z;exact h2 z;exact h3 z)] at this;rw [all_map];exact this
theorem Zwr (s:Str) (i j:Nat):(Builtin.Str.strSub s i j).length<=s.length:=by
 show (s.cps.extract i j).size<=s.cps.size;rw [Array.size_extract];omega
theorem Ztz (s:Str) (o:List Nat) (w:Nat):(W0 s o w).length<=o.length + 1:=by
 show (((0::o.map (· + w)).zip (o++[s.length])).map _).length<=_;rw [Yb,Ybv,Yz,Yb];omega
theorem Zo7 (a b:Str):(lV a b).length<=a.length + 2:=by
 unfold lV
 split
 .show 1<=_;omega
 .split
  .show 1<=_;omega
  .refine Yk (Ztz _ _ _) ?_
   have:=PySem.StrLaws.occ_length_le a b 0 a.length (a.length + 1)
   omega
theorem Ztk (a b:Str):∀ n∈lV a b,n.length<=a.length:=by
 intro n hn;unfold lV at hn
 split at hn
 .rw [List.mem_singleton.mp hn];exact Ye _
 .split at hn
  .rw [List.mem_singleton.mp hn];exact Ye _
  .obtain ⟨⟨i,j⟩,_,rfl⟩:=List.mem_map.mp hn;exact Zwr _ _ _
theorem GP (a:Str) (lo hi:Option Int):(mQ a lo hi).length<=a.length:=by
 unfold mQ
 split
 .exact Ye _
 .show (((WH lo hi 1 a.length).filterMap (a.cps[·]?)).toArray).size<=_;rw [Yn];exact Yk (Ya1 _ _) (PyProof.Rows.indices_len_le _ _ _)
theorem Aq (p:Str):(Zw p).length<=p.length + 2:=by
 unfold Zw
 split
 .exact Yv _
 .exact Yk (Zo7 _ _) (YbG (GP _ _ _) 2)
theorem Ar (p:Str):∀ n∈Zw p,n.length<=p.length:=by
 intro n hn;unfold Zw at hn
 split at hn
 .exact nomatch hn
 .exact Yk (Ztk _ _ n hn) (GP _ _ _)
theorem Zvt (p:Str) (i:Nat):((Zw p).getD i "").length<=p.length:=by
 rw [Ys]
 cases h:(Zw p)[i]? with
 | none=>exact Yv _
 | some n=>exact Ar p n (Yy h)
inductive cU (vs:List V) (H:Hp) (Q:VK) (aL:XK):Prop
 | mk (p:_):vs=[.str p]->p.length<=1000->(∀ l H',ag H H'->H l=none->H' l=some (.lst ((Zw p).map V.str))->Q (.ref l) H')->cU vs H Q aL
theorem Zs {n m:Nat} (h:n<=m) (hm:m<=100000):n<=Ym:=by
 have:(100000:Nat)<=Ym:=by decide
 omega
theorem ZnF:Zp ["path"] ["path"] (Zi Zju):=ZN (by decide +kernel)
theorem oq (T:Tx K mg g):ah P w K mg base (ay P w) 1 g.IX g.JK ["path"] cU:=by
 refine T.Z7.aP ZnF fun vs H Q E h=>?_;obtain ⟨p,rfl,hl,q⟩:=h;refine ⟨rfl,fun _ _ _ _ hr=>?_⟩
 refine ⟨_,(Zd (Z0 (ZG fU (pv 0) Zr (ZO _)) (Zh (Zt (fV Ze))) Zx)
  (Zh (Zt (lR Ybl PySem.F.slot_str_split PySem.F.type_str_split ZtL (p_ ZxD (pv 0) (nA Zl) sO) (Za Zr Ze))))),?_⟩
 refine ⟨_,rfl,rfl,_,rfl,?_⟩
 by_cases h1:p="/"
 .rw [decide_eq_true (show V.str p=V.str "/" by rw [h1])];refine ax ⟨Yv _,fun l hn=>?_⟩;refine q l _ (Zj hn) hn ?_;unfold Zw;rw [if_pos h1];exact Zb
 .rw [decide_eq_false (show ¬ V.str p=V.str "/" by intro z;injection z with z;exact h1 z)];refine av ?_;have cG:=GP p (some 1) none;refine ⟨_,rfl,_,rfl,_,rfl,Zs (Yk cG hl) (by decide),rfl,_,_,rfl,rfl,rfl,Zs (Yk cG hl) (by decide),Zs (Yk (Zo7 _ _) (YbG (Yk cG hl) 2)) (by decide),fun l hn=>?_⟩;refine q l _ (Zj hn) hn ?_;unfold Zw;rw [if_neg h1];exact Zb
theorem Zsv (f:Str->Bool) (xs:List Str):((List.range xs.length).all fun i=>f (xs.getD i ""))=xs.all f:=by
 induction xs with
 | nil=>rfl
 | cons x xs ih=>
  rw [Yz,List.range_succ_eq_map,Ya7,List.all_map,Ya7,<- ih];rfl
inductive j_ (vs:List V) (H:Hp) (Q:VK) (aL:XK):Prop
 | mk (t:_):vs=[.str t]->t.length<=1000->(∀ H',ag H H'->Q (.bl (fI t)) H')->j_ vs H Q aL
theorem Zsq:Zp ["text"] ["text"] (Zi H_):=ZN (by decide +kernel)
theorem ZsF (T:Tx K mg g):ah P w K mg base (ay P w) 2 g.GG g.HF ["text"] j_:=by
 refine T.HK.aP Zsq fun vs H Q E h=>?_;obtain ⟨t,rfl,hl,q⟩:=h;refine ⟨rfl,fun _ _ _ _ hr=>?_⟩
 refine ⟨_,(Zd (Z0 (PW.pt (nW (ZG uY (ZD J6 (by rfl) T.eL YC (Za (pv 0) Ze)) (ZJ (v:=.int 60) rfl T.ZmC ⟨_,rfl⟩) (ZO _)) (sG (pV (nZ (lR Ybl PySem.F.slot_str_startswith PySem.F.type_str_startswith Zmu (pv 0) (Za Zr Ze))))))) (Zh (Zt pQ)) Zx)
  (Zh (Zt (ZD Zr2 (by rfl) T.Zxm PyProof.Rows.Boot.«all» (Za (xQ (own:=["name"]) (fv:=[]) (ix:=[]) (ot (sc:=Zi H_) (N:=["text"]) rfl rfl (by decide +kernel)) rfl (sN (Zn (oq T) hr.dn rfl T.om T.Z7.kp T.aD .nil Zc (Za (pv 0) Ze))) (fun _ _ _ _ _=>Z9 (i:=0) (show (["name"]:List Str).Nodup from by decide +kernel) rfl (Or.inl rfl) (Or.inr rfl)) (fun _ _ _ _ _=>xK) (fun _ _ _ _ _=>(Zn (Zm7 T) hr.dn rfl T.ZpD T.Dw.kp T.iV .nil ng (Za (pv 0) Ze)))) Ze))))),?_⟩
 refine ⟨_,rfl,_,rfl,Zs hl (by decide),_,_,rfl,rfl,_,rfl,?_⟩
 by_cases h1:60 < t.length
 .rw [decide_eq_true (show (60:Int) < (t.length:Int) by omega)];refine ax (ax ?_)
  have:=q H (ag.refl _)
  unfold fI at this;rw [if_pos h1] at this;exact this
 .rw [decide_eq_false (show ¬ (60:Int) < (t.length:Int) by omega)];refine av ?_;refine ⟨_,rfl,rfl,_,_,rfl,rfl,_,rfl,?_⟩
  by_cases h2:(!(decide (0 + Str.length "/"<=t.length) && WL t "/" 0))=true
  .have uO:(decide (0 + Str.length "/"<=t.length) && WL t "/" 0)=false:=(Bool.not_eq_true' _).mp h2;rw [uO];refine ax ?_
   have:=q H (ag.refl _)
   unfold fI at this;rw [if_neg h1,if_pos h2] at this;exact this
  .have uO:(decide (0 + Str.length "/"<=t.length) && WL t "/" 0)=true:=by
    cases z:(decide (0 + Str.length "/"<=t.length) && WL t "/" 0) with
    | true=>rfl
    | false=>rw [z] at h2;exact absurd rfl h2
   rw [uO];refine av ?_;refine ⟨_,rfl,t,rfl,hl,fun l H1 s1 hn eB=>?_⟩;refine ⟨l,rfl,⟨_,aq.of eB⟩,fun D hD=>?_⟩;have hlen:(Zw t).length<=1002:=Yk (Aq t) (YbG hl 2);have bP:∀ H',ag H1 H'->aq K H' l ((Zw t).map V.str):=fun H' s'=>aq.of (s' _ _ eB);refine zZ (J:=vG K l) (Zw t).length (fun i=>some (V.bl (eD ((Zw t).getD i "")))) (fun i x=>x=.str ((Zw t).getD i "")) hD (Zs hlen (by decide)) (fun i H' hi s'=>⟨_,.str ((Zw t).getD i ""),bP H' s',?_⟩) (fun H' s'=>⟨_,bP H' s',by rw [Yb];exact Ye _⟩) (fun i H' x H2 hi s' hy=>?_) (fun i x H' N hi hx s' k=>?_) fun H' s' hH=>?_
   .rw [Yo,Ys,Yh hi];rfl
   .obtain ⟨e,hx⟩:=hy;refine ⟨e,?_⟩
    have:=hx _ (bP H' s')
    rw [Yo,Yh hi] at this;rw [Ys,Yh hi];exact (YB this).symm
   .subst hx;refine ax (B:=N none H') ?_;exact ⟨_,rfl,_,rfl,Zs (Yk (Zvt t i) hl) (by decide),fun H5 s5=>k _ s5⟩
   .refine ⟨D,(List.range (Zw t).length).map fun i=>eD ((Zw t).getD i ""),rfl,aq.of (by rw [hH,Zwg]),?_⟩
    have:=q _ (s1.trans s')
    unfold fI at this;rw [if_neg h1,if_neg h2] at this;rw [all_map,Zsv];exact this
theorem ZX (a b:Str):(a++b).length=a.length + b.length:=by
 show (a.cps++b.cps).size=_;exact Array.size_append
def d0 {α:Type} (g:Gs) (R:Hp->α->V->Prop) (H:Hp) (m:Except Rf α) (Q:VK) (E:XK):Prop:=match m with
 | .ok x=>∀ v H',ag H H'->R H' x v->Q v H'
 | .error r=>∀ H',ag H H'->E (.ref (g.xa r)) none H'
theorem d0.ok {α:Type} {g:Gs} {R:Hp->α->V->Prop} {H:Hp} {m:Except Rf α} {Q:VK} {E:XK} (h:d0 g R H m Q E) {x:α} (e:m=.ok x):∀ v H',ag H H'->R H' x v->Q v H':=by subst e;exact h
theorem d0.no {α:Type} {g:Gs} {R:Hp->α->V->Prop} {H:Hp} {m:Except Rf α} {Q:VK} {E:XK} (h:d0 g R H m Q E) {r:Rf} (e:m=.error r):∀ H',ag H H'->E (.ref (g.xa r)) none H':=by subst e;exact h
def m9 (_:Hp) (_:Unit) (v:V):Prop:=v=.aK
def Zyu (_:Hp) (n:Int) (v:V):Prop:=v=.int n
def ou (p:Str):Except Rf Unit:=if fI p then .ok () else .error .aJ
inductive fB (g:Gs) (vs:List V) (H:Hp) (Q:VK) (E:XK):Prop
 | mk (p:_):vs=[.str p]->p.length<=1000->d0 g m9 H (ou p) Q E->fB g vs H Q E
theorem ZnI:Zp ["path"] ["path"] (Zi ZjA):=ZN (by decide +kernel)
theorem yj (T:Tx K mg g):ah P w K mg base (ay P w) 3 g.IA g.J9 ["path"] (fB g):=by
 refine T.tm.aP ZnI fun vs H Q E h=>?_;obtain ⟨p,rfl,hl,q⟩:=h;refine ⟨rfl,fun _ _ _ _ hr=>?_⟩;refine ⟨_,(Zh (Z0 (pV (nZ (Zn (ZsF T) hr.dn rfl T.ZtV T.HK.kp T.mX .nil Zc (Za (pv 0) Ze)))) (Zh (Z2 T.ZoV rfl T.HI (Za (xJ (xA (pv 0) (xI xH))) Ze))) Zx)),?_⟩;refine ⟨_,rfl,p,rfl,hl,fun H1 s1=>⟨_,rfl,?_⟩⟩
 cases hb:fI p with
 | true=>exact av (q.ok (x:=()) (by unfold ou;rw [hb];rfl) _ _ s1 rfl)
 | false=>
  refine ax ?_;refine ⟨_,rfl,p,rfl,Zs hl (by decide),?_,?_,?_,?_,q.no (r:=.aJ) (by unfold ou;rw [hb];rfl) _ s1⟩
  .rw [ZX];exact Zs (m:=1000) (by show 0 + p.length<=1000;omega) (by decide)
  .rw [ZX,ZX];exact Zs (m:=1100) (by show 0 + p.length + 11<=1100;omega) (by decide)
  .rw [ZX,ZX];exact Zs (m:=1100) (by show 0 + p.length + 11<=1100;omega) (by decide)
  .show 1<=Ym;decide
abbrev Row:=List Int
abbrev ao:=List (Str×Int)
structure az where
 dat:List (Int×Row)
 ent:List (Int×ao)
section
variable {κ α:Type} [DecidableEq κ]
def aa (xs:List (κ×α)) (k:κ):Option α:=(xs.find? fun p=>decide (p.1=k)).map (·.2)
def af (xs:List (κ×α)) (k:κ) (x:α):List (κ×α):=if (xs.any fun p=>decide (p.1=k))=true then xs.map (fun p=>if p.1=k then (p.1,x) else p) else xs++[(k,x)]
def ZQ (xs:List (κ×α)) (k:κ):List (κ×α):=xs.filter fun p=>decide (p.1≠k)
theorem gj {p:κ×α} {r:List (κ×α)} {k:κ} (e:p.1=k):aa (p::r) k=some p.2:=by simp [aa,Wb,e]
theorem ZZ {p:κ×α} {r:List (κ×α)} {k:κ} (e:¬ p.1=k):aa (p::r) k=aa r k:=by simp [aa,Wb,e]
theorem vn (k:κ):∀ xs:List (κ×α),(xs.any fun p=>decide (p.1=k))=(aa xs k).isSome
 | []=>rfl
 | p::r=>by
  rw [W4,vn k r]
  by_cases e:p.1=k
  .rw [gj e,decide_eq_true e];rfl
  .rw [ZZ e,decide_eq_false e];rfl
theorem sR (xs:List (κ×α)) (k:κ) (x:α):(af xs k x).length<=xs.length + 1:=by
 unfold af
 split
 .rw [Yb];omega
 .rw [Yg];exact Ye _
end
def Z8 {κ α ρ:Type} (f:κ->ρ) (R:Hp->α->V->Prop) (H:Hp) (xs:List (κ×α)) (kvs:List (ρ×V)):Prop:=WA (fun p q=>p.1=f q.1/\R H q.2 p.2) kvs xs
def ly {α:Type} (R:Hp->α->V->Prop):Prop:=∀ (H H':Hp) (x:α) (v:V),ag H H'->R H x v->R H' x v
section
variable {κ α ρ:Type} [DecidableEq κ] [DecidableEq ρ] {f:κ->ρ} {R:Hp->α->V->Prop} {H:Hp}
theorem Z8.same {H':Hp} (m:ly R) (s:ag H H') {xs:List (κ×α)} {kvs:List (ρ×V)} (h:Z8 f R H xs kvs):Z8 f R H' xs kvs:=by
 unfold Z8 at *
 induction h with
 | nil=>exact .nil
 | cons a _ ih=>exact .cons ⟨a.1,m _ _ _ _ s a.2⟩ ih
theorem Z8.len {xs:List (κ×α)} {kvs:List (ρ×V)} (h:Z8 f R H xs kvs):kvs.length=xs.length:=Xr h
theorem Z8.no (inj:∀ a b,f a=f b->a=b) {xs:List (κ×α)} {kvs:List (ρ×V)} (h:Z8 f R H xs kvs) {k:κ} (e:aa xs k=none):aW kvs (f k)=none:=by
 unfold Z8 at h
 induction h with
 | nil=>rfl
 | @cons p q _ _ a t ih=>
  by_cases z:q.1=k
  .rw [gj z] at e;cases e
  .rw [ZZ z] at e;rw [lY (by rw [a.1];exact fun y=>z (inj _ _ y))];exact ih e
theorem Z8.yes (inj:∀ a b,f a=f b->a=b) {xs:List (κ×α)} {kvs:List (ρ×V)} (h:Z8 f R H xs kvs) {k:κ} {x:α} (e:aa xs k=some x):∃ v,aW kvs (f k)=some v/\R H x v:=by
 unfold Z8 at h
 induction h with
 | nil=>cases e
 | @cons p q _ _ a t ih=>
  by_cases z:q.1=k
  .rw [gj z] at e
   cases e
   exact ⟨p.2,mG (by rw [a.1,z]),a.2⟩
  .rw [ZZ z] at e;obtain ⟨v,h1,h2⟩:=ih e;exact ⟨v,by rw [lY (by rw [a.1];exact fun y=>z (inj _ _ y))];exact h1,h2⟩
theorem Z8.some (inj:∀ a b,f a=f b->a=b) {xs:List (κ×α)} {kvs:List (ρ×V)} (h:Z8 f R H xs kvs) (k:κ):(aW kvs (f k)).isSome=(aa xs k).isSome:=by
 cases e:aa xs k with
 | none=>rw [h.no inj e];rfl
 | some x=>obtain ⟨v,h1,_⟩:=h.yes inj e;rw [h1];rfl
theorem Z8.mJ (inj:∀ a b,f a=f b->a=b) {k:κ} {x:α} {v:V} (r:R H x v):∀ {xs:List (κ×α)} {kvs:List (ρ×V)},Z8 f R H xs kvs->Z8 f R H (xs.map fun p=>if p.1=k then (p.1,x) else p) (kvs.map fun kv=>if kv.1=f k then (kv.1,v) else kv)
 | _,_,.nil=>.nil
 | q::_,p::_,.cons a t=>by
  refine .cons ?_ (Z8.mJ inj r t);show (if p.1=f k then (p.1,v) else p).1=f (if q.1=k then (q.1,x) else q).1/\R H (if q.1=k then (q.1,x) else q).2 (if p.1=f k then (p.1,v) else p).2
  by_cases z:q.1=k
  .rw [if_pos z,if_pos (by rw [a.1,z])];exact ⟨a.1,r⟩
  .rw [if_neg z,if_neg (by rw [a.1];exact fun y=>z (inj _ _ y))];exact a
theorem Z8.put (inj:∀ a b,f a=f b->a=b) {xs:List (κ×α)} {kvs:List (ρ×V)} (h:Z8 f R H xs kvs) {k:κ} {x:α} {v:V} (r:R H x v):Z8 f R H (af xs k x) (putK kvs (f k) v):=by
 unfold af putK;rw [x6,vn,h.some inj k]
 split
 .exact Z8.mJ inj r h
 .exact YaX h ⟨rfl,r⟩
end
theorem eC (a b:Int) (h:(X8 a:Key)=X8 b):a=b:=Sum.inl.inj h
theorem xP (a b:Str) (h:(Xp a:Key)=Xp b):a=b:=Sum.inr.inj h
theorem xU (es:ao) (n:Str):aW (eJ es) (.inr n)=(aa es n).map V.int:=by
 induction es with
 | nil=>rfl
 | cons p r ih=>
  by_cases z:p.1=n
  .rw [gj z];exact mG (p:=(Xp p.1,V.int p.2)) (by rw [z])
  .rw [ZZ z,<- ih];exact lY (p:=(Xp p.1,V.int p.2)) (fun y=>z (Sum.inr.inj y))
theorem Zvx (es:ao) (n:Str) (i:Int):putK (eJ es) (.inr n) (.int i)=eJ (af es n i):=by
 unfold af putK;rw [x6,vn,xU,Yac]
 split
 .unfold eJ;rw [XJ,XJ];refine YbP fun p _=>?_;show (if (Xp p.1:Key)=Xp n then (Xp p.1,V.int i) else (Xp p.1,V.int p.2))=(Xp (if p.1=n then (p.1,i) else p).1,V.int (if p.1=n then (p.1,i) else p).2)
  by_cases z:p.1=n
  .rw [if_pos z,if_pos (by rw [z])]
  .rw [if_neg z,if_neg (fun y=>z (Sum.inr.inj y))]
 .unfold eJ;rw [Yw];rfl
theorem Zuk (es:ao) (n:Str):hJ (eJ es) (.inr n)=eJ (ZQ es n):=by
 unfold hJ ZQ eJ;rw [List.filter_map]
 congr 1
 refine List.filter_congr fun p _=>?_;show decide ((Xp p.1:Key)≠Xp n)=decide (p.1≠n)
 by_cases z:p.1=n
 .simp [z]
 .have:(Xp p.1:Key)≠Xp n:=fun y=>z (Sum.inr.inj y)
  rw [decide_eq_true this,decide_eq_true z]
theorem GR (es:ao):(eJ es).length=es.length:=Yb ..
def Z1 (H:Hp) (row:Row) (v:V):Prop:=∃ t,v=.ref t/\H t=some (.tup (row.map V.int))
def gY (H:Hp) (es:ao) (v:V):Prop:=∃ a,v=.ref a/\H a=some (.dK (eJ es))
theorem Z1.mono:ly Z1:=fun _ _ _ _ s ⟨t,e,h⟩=>⟨t,e,s _ _ h⟩
theorem gY.mono:ly gY:=fun _ _ _ _ s ⟨t,e,h⟩=>⟨t,e,s _ _ h⟩
def uc (d e:V):List (Str×V):=au "entries" e (au "data" d [])
theorem Zy0:¬ (("data":Str)="entries"):=by decide +kernel
theorem nh (d e:V):(uc d e).lookup ("data":Str)=some d:=by
 unfold uc;rw [Zo,if_neg Zy0,Zo,if_pos rfl]
theorem gZ (d e:V):(uc d e).lookup ("entries":Str)=some e:=by
 unfold uc;rw [Zo,if_pos rfl]
structure Zyn (g:Gs) (H:Hp) (S:az) (p dx da ea:Addr) (dk ek:List (Key×V)):Prop where
 ob:H p=some (.ins g.State dx (uc (.ref da) (.ref ea)))
 hd:H da=some (.dK dk)
 he:H ea=some (.dK ek)
 rd:Z8 X8 Z1 H S.dat dk
 re:Z8 X8 gY H S.ent ek
def ZA (g:Gs) (H:Hp) (S:az) (v:V):Prop:=∃ p dx da ea dk ek,v=.ref p/\Zyn g H S p dx da ea dk ek
theorem ZA.mono {g:Gs}:ly (ZA g):=fun _ _ _ _ s ⟨p,dx,da,ea,dk,ek,e,h⟩=>⟨p,dx,da,ea,dk,ek,e,s _ _ h.ob,s _ _ h.hd,s _ _ h.he,h.rd.same Z1.mono s,h.re.same gY.mono s⟩
theorem u1 {n:Nat} (h:n + 64 < cLine):n + 1 < cLine:=by omega
def ZE (S:az) (n:Int):Bool:=(aa S.dat n).isSome || (aa S.ent n).isSome
inductive eS (g:Gs) (vs:List V) (H:Hp) (Q:VK) (aL:XK):Prop
 | mk (p:_) (dx:_) (d:_) (e:_):vs=[.ref p,d,e]->H p=some (.ins g.State dx [])->(∀ H',(∀ b o,H b=some o->b≠p->H' b=some o)->H' p=some (.ins g.State dx (uc d e))->Q .aK H')->eS g vs H Q aL
theorem ZnM:Zp ["self","data","entries"] ["self","data","entries"] (Zi ZjG):=ZN (by decide +kernel)
theorem Ea (T:Tx K mg g):ah P w K mg base (ay P w) 1 g.IZ g.JZ ["self","data","entries"] (eS g):=by
 refine T.Zkc.aP ZnM fun vs H Q E h=>?_;obtain ⟨p,dx,d,e,rfl,hp,q⟩:=h;refine ⟨rfl,fun _ _ _ _ hr=>?_⟩
 refine ⟨_,(Zd (fW (pv 0) (pv 1) rfl)
  (Zh (fW (pv 0) (pv 2) rfl))),?_⟩
 refine ⟨_,rfl,_,rfl,p,g.State,dx,[],rfl,hp,T.ZW,T.oo,(by show 0 < 1000;decide),?_⟩;refine ⟨_,rfl,_,rfl,p,g.State,dx,_,rfl,Zb,T.ZW,T.Zu,(by show 1 < 1000;decide),?_⟩;refine q _ (fun b o e hb=>?_) Zb;rw [Zf hb,Zf hb];exact e
theorem DH {H1:Hp} {x dx:Addr} {d e:V} {Q:VK} {E:XK} (hx:H1 x=none) (nQ:H1 dx=none) (ne:dx≠x) (q:∀ p dx H',ag H1 H'->H' p=some (.ins g.State dx (uc d e))->Q (.ref p) H') :
  eS g (.ref x::([d,e]++[])) (upd (upd H1 dx (.own x)) x (.ins g.State dx [])) (fun v H2=>v=.aK/\Q (.ref x) H2) E:=by
 refine ⟨x,dx,d,e,rfl,Zb,fun H' k hp=>⟨rfl,q x dx H' (fun b o eb=>?_) hp⟩⟩;have h1:b≠x:=Zg eb hx;have h2:b≠dx:=Zg eb nQ;exact k b o (by rw [Zf h1,Zf h2];exact eb) h1
def Zwt (g:Gs):Sp:=fun vs H Q _=>vs=[]/\∀ v H',ag H H'->ZA g H' ⟨[],[(0,[])]⟩ v->Q v H'
theorem Zmd:Zp [] [] (Zi ZhC):=ZN (by decide +kernel)
theorem Zmn (T:Tx K mg g):ah P w K mg base (ay P w) 3 g.JA g.KQ [] (Zwt g):=by
 refine T.Kz.aP Zmd fun vs H Q E h=>?_;obtain ⟨rfl,q⟩:=h;refine ⟨rfl,fun _ _ _ _ hr=>?_⟩;refine ⟨_,(Zh (Zt (qJ T.Du (Ea T) hr.dn rfl T.C7 T.bF .nil Zc (Za qP (Za (ZwD (Zu3 (ZJ (v:=.int 0) rfl T.Zwa ⟨_,rfl⟩) qP ZwB) rfl rfl (by simp) (by decide)) Ze))))),?_⟩;refine fun a ha b hb c hc=>?_;have wN:a≠b:=Zg Zb hb;have EW:b≠c:=Zg Zb hc;have nac:a≠c:=Zg (H:=upd (upd H a (.dK [])) b (.dK [])) (by rw [Zf wN];exact Zb) hc;have r_:H b=none:=by rw [Zf wN.symm] at hb;exact hb
 have mB:H c=none:=by rw [Zf EW.symm,Zf nac.symm] at hc;exact hc
 refine ⟨by rw [Zf EW];exact Zb,[(X8 0,.ref c)],rfl,(by show 1<=15;decide),fun x dx hx nQ ne=>DH hx nQ ne fun p dx H' s' hp=>?_⟩
 have s0:ag H (upd (upd (upd (upd H a (.dK [])) b (.dK [])) c (.dK [])) b (.dK (xD [] [(X8 0,V.ref c)]))):=fun d o e=>by
  rw [Zf (Zg e r_),Zf (Zg e mB),Zf (Zg e r_),Zf (Zg e ha)];exact e
 refine q _ H' (s0.trans s') ⟨p,dx,a,b,_,_,rfl,hp,s' _ _ (by rw [Zf wN,Zf nac,Zf wN];exact Zb),s' _ _ Zb,.nil,.cons ⟨rfl,c,rfl,s' _ _ (by rw [Zf EW.symm];exact Zb)⟩ .nil⟩
inductive iO (g:Gs) (vs:List V) (H:Hp) (Q:VK) (aL:XK):Prop
 | mk (v:_) (S:_) (n:_):vs=[v,.int n]->ZA g H S v->Q (.bl (ZE S n)) H->iO g vs H Q aL
theorem ZqA:Zp ["state","number"] ["state","number"] (Zi ZmT):=ZN (by decide +kernel)
theorem Zll (T:Tx K mg g):ah P w K mg base (ay P w) 1 g.GX g.II ["state","number"] (iO g):=by
 refine T.DG.aP ZqA fun vs H Q E h=>?_;obtain ⟨v,S,n,rfl,⟨p,dx,da,ea,dk,ek,rfl,hS⟩,q⟩:=h;refine ⟨rfl,fun _ _ _ _ hr=>?_⟩;have hu:=u1 hr.units;refine ⟨_,(Zh (Zt (ZyO (Zv2 (nj hu (pv 1) (Zv (pv 0) rfl))) (CM (Zv2 (nj hu (pv 1) (Zv (pv 0) rfl))))))),?_⟩;refine ⟨_,rfl,_,rfl,p,_,dx,_,_,rfl,hS.ob,T.ZW,T.oo,nh _ _,da,_,rfl,aI.k hS.hd (k:=.inl n),_,rfl,?_⟩;rw [hS.rd.some eC];unfold ZE at q
 cases hd:(aa S.dat n).isSome with
 | true=>rw [hd] at q;exact ax q
 | false=>
  rw [hd] at q;refine av ⟨_,rfl,_,rfl,p,_,dx,_,_,rfl,hS.ob,T.ZW,T.Zu,gZ _ _,ea,_,rfl,aI.k hS.he (k:=.inl n),?_⟩;rw [hS.re.some eC];exact q
def sQ (S:az) (n:Int):Except Rf Unit:=if (aa S.ent n).isSome then .ok () else .error .aw
inductive gN (g:Gs) (vs:List V) (H:Hp) (Q:VK) (E:XK):Prop
 | mk (v:_) (S:_) (n:_):vs=[v,.int n]->ZA g H S v->d0 g m9 H (sQ S n) Q E->gN g vs H Q E
theorem Zhy:Zp ["state","number"] ["state","number"] (Zi Zd3):=ZN (by decide +kernel)
theorem Zdm (T:Tx K mg g):ah P w K mg base (ay P w) 1 g.Lq g.LA ["state","number"] (gN g):=by
 refine T.Ec.aP Zhy fun vs H Q E h=>?_;obtain ⟨v,S,n,rfl,⟨p,dx,da,ea,dk,ek,rfl,hS⟩,q⟩:=h;refine ⟨rfl,fun _ _ _ _ hr=>?_⟩;have hu:=u1 hr.units;refine ⟨_,(Zh (Z0 (i_ (x9 hu (pv 1) (Zv (pv 0) rfl))) (Zh (Z2 T.Znt rfl T.Zh1 (Za Zr Ze))) Zx)),?_⟩;refine ⟨_,rfl,_,rfl,p,_,dx,_,_,rfl,hS.ob,T.ZW,T.Zu,gZ _ _,ea,_,rfl,aI.k hS.he (k:=.inl n),_,rfl,?_⟩;rw [hS.re.some eC]
 cases hd:(aa S.ent n).isSome with
 | true=>exact av (q.ok (x:=()) (by unfold sQ;rw [hd];rfl) _ _ (ag.refl _) rfl)
 | false=>exact ax ⟨aX 1,q.no (r:=.aw) (by unfold sQ;rw [hd];rfl) _ (ag.refl _)⟩
def insI (n:Int):List Int->List Int
 | []=>[n]
 | m::r=>if n<=m then n::m::r else m::insI n r
def zE:List Int->List Int
 | []=>[]
 | n::r=>insI n (zE r)
theorem HD (n:Int):∀ l,(insI n l).Perm (n::l)
 | []=>.refl _
 | m::r=>by
  unfold insI
  split
  .exact .refl _
  .exact ((HD n r).cons m).trans (.swap ..)
theorem Ad:∀ l,(zE l).Perm l
 | []=>.refl _
 | n::r=>(HD n (zE r)).trans ((Ad r).cons n)
theorem ZlN (n:Int):∀ l:List Int,l.Pairwise (·<=·)->(insI n l).Pairwise (·<=·)
 | [],_=>by simp [insI]
 | m::r,h=>by
  obtain ⟨h1,h2⟩:=List.pairwise_cons.mp h;unfold insI
  split
  .rename_i hn
   exact List.pairwise_cons.mpr ⟨fun a ha=>by
    rcases List.mem_cons.mp ha with rfl | ha
    .exact hn
    .exact Int.le_trans hn (h1 a ha),h⟩
  .rename_i hn
   refine List.pairwise_cons.mpr ⟨fun a ha=>?_,ZlN n r h2⟩;rcases List.mem_cons.mp ((HD n r).mem_iff.mp ha) with rfl | ha
   .omega
   .exact h1 a ha
theorem Zjp:∀ l,(zE l).Pairwise (·<=·)
 | []=>.nil
 | n::r=>ZlN n _ (Zjp r)
theorem Ztl:∀ {a b:List Int},a.Perm b->a.Pairwise (·<=·)->b.Pairwise (·<=·)->a=b:=by
 intro a b p ha hb;exact p.eq_of_pairwise (fun x y _ _ h1 h2=>Int.le_antisymm h1 h2) ha hb
def qc (S:az):List Int:=zE (S.dat.map (·.1)++S.ent.map (·.1))
theorem Z8.tO {α:Type} {R:Hp->α->V->Prop} {H:Hp} {xs:List (Int×α)} {kvs:List (Key×V)} (h:Z8 X8 R H xs kvs):(kvs.map fun q=>kV q.1)=(xs.map (·.1)).map V.int:=by
 unfold Z8 at h
 induction h with
 | nil=>rfl
 | cons a _ ih=>rw [Yt,Yt,Yt,ih,a.1];rfl
inductive iU (g:Gs) (vs:List V) (H:Hp) (Q:VK) (aL:XK):Prop
 | mk (v:_) (S:_):vs=[v]->ZA g H S v->S.dat.length + S.ent.length < 64->(∀ l H',ag H H'->H' l=some (.lst ((qc S).map V.int))->Q (.ref l) H')->iU g vs H Q aL
theorem Zmh:Zp ["state"] ["state"] (Zi ZhH):=ZN (by decide +kernel)
theorem ZgH (T:Tx K mg g):ah P w K mg base (ay P w) 1 g.Jo g.KH ["state"] (iU g):=by
 refine T.D7.aP Zmh fun vs H Q E h=>?_;obtain ⟨v,S,rfl,⟨p,dx,da,ea,dk,ek,rfl,hS⟩,hz,q⟩:=h;refine ⟨rfl,fun _ _ _ _ hr=>?_⟩;have hu:=u1 hr.units;refine ⟨_,(Zh (Zt (ZD Zqi (by rfl) T.vv PyProof.Rows.Boot.«sorted» (Za (Zy xE (ZT Zno rfl T.pT PyProof.Rows.Boot.«list» (Za (Zv (pv 0) rfl) Ze)) (ZT Zno rfl T.pT PyProof.Rows.Boot.«list» (Za (Zv (pv 0) rfl) Ze))) Ze)))),?_⟩;refine ⟨_,rfl,p,_,dx,_,_,rfl,hS.ob,T.ZW,T.oo,nh _ _,da,dk,rfl,.inl hS.hd,fun a ha=>?_⟩;have s1:=Zj (o:=.lst (dk.map fun q=>kV q.1)) ha;refine ⟨_,rfl,p,_,dx,_,_,rfl,s1 _ _ hS.ob,T.ZW,T.Zu,gZ _ _,ea,ek,rfl,.inl (s1 _ _ hS.he),fun b hb=>?_⟩;have s2:=Zj (o:=.lst (ek.map fun q=>kV q.1)) hb;refine ⟨a,b,_,_,rfl,rfl,s2 _ _ Zb,Zb,?_,fun c hc=>?_⟩
 .rw [Yb,Yb,hS.rd.len,hS.re.len];exact Zs (WV hz) (by decide)
 have s3:=Zj (o:=.lst ((dk.map fun q=>kV q.1)++(ek.map fun q=>kV q.1))) hc;refine ⟨c,S.dat.map (·.1)++S.ent.map (·.1),rfl,aq.of (by rw [Zb,hS.rd.tO,hS.re.tO,Yw]),?_,fun l ms hl pm pw=>?_⟩
 .rw [Yg,Yb,Yb];exact hz
 .have:ms=qc S:=Ztl (pm.trans (Ad _).symm) pw (Zjp _)
  subst this;exact q l _ (s1.trans (s2.trans (s3.trans (Zj hl)))) Zb
def sW (S:az):Nat->Nat->Option Int
 | _,0=>none
 | i,k + 1=>if ZE S (i:Int) then sW S (i + 1) k else some (i:Int)
def z0 (S:az):Option Int:=sW S 0 32
def A0:Option Int->V
 | none=>.aK
 | some n=>.int n
def fT (S:az):List Str->List Int->Except Rf (List Int)
 | [],ps=>.ok ps
 | n::ns,ps=>match aa S.ent (ps.getLastD 0) with
  | none=>.error .aw
  | some es=>match aa es n with
   | none=>.error .aA
   | some i=>fT S ns (ps++[i])
theorem Dl (S:az) (ps:List Int):fT S [] ps=.ok ps:=rfl
theorem Dz (S:az) (n:Str) (ns:List Str) (ps:List Int):fT S (n::ns) ps=match aa S.ent (ps.getLastD 0) with
  | none=>.error .aw
  | some es=>match aa es n with
   | none=>.error .aA
   | some i=>fT S ns (ps++[i]):=rfl
def Zwi (H:Hp) (xs:List Int) (v:V):Prop:=∃ l,v=.ref l/\H l=some (.lst (xs.map V.int))
theorem lX (ps:List Int) (h:ps≠[]):fS (ps.map V.int) (-1)=some (.int (ps.getLastD 0)):=by
 have hl:0 < ps.length:=List.length_pos_iff.mpr h;unfold fS pG;rw [if_neg (by decide),if_pos (by rw [Yb];omega)];show (ps.map V.int)[(-1 + ((ps.map V.int).length:Int)).toNat]?=_;have e:(-1 + ((ps.map V.int).length:Int)).toNat=ps.length - 1:=by rw [Yb];omega
 rw [e,Yo,<- YaM,WT]
 cases hh:ps.getLast? with
 | none=>exact absurd (List.getLast?_eq_none_iff.mp hh) h
 | some x=>rfl
inductive md (g:Gs) (vs:List V) (H:Hp) (Q:VK) (aL:XK):Prop
 | mk (v:_) (S:_):vs=[v]->ZA g H S v->Q (A0 (z0 S)) H->md g vs H Q aL
theorem Zhv:Zp ["state","number"] ["state"] (Zi Zjw):=ZN (by decide +kernel)
theorem ZhS (T:Tx K mg g):ah P w K mg base (ay P w) 2 g.IJ g.JE ["state"] (md g):=by
 refine T.D6.aP Zhv fun vs H Q E h=>?_;obtain ⟨v,S,rfl,hS,q⟩:=h;refine ⟨rfl,fun _ _ _ _ hr=>?_⟩
 refine ⟨_,(Zd (jS Y2 rfl (x_ rfl T.sP (Za (ZJ (v:=.int 32) rfl T.Zov ⟨_,rfl⟩) Ze)) (Z9 (i:=1) Zhv.nd rfl (Or.inl rfl)) (Zh (Z0 (pV (nZ (Zn (Zll T) hr.dn rfl T.Zna T.DG.kp T.gP .nil Zc (Za (pv 0) (Za (pv 1) Ze))))) (Zh (Zt (pv 1))) Zx)))
  (Zh (Zt Gq))),?_⟩
 refine ⟨32,rfl,by decide,by decide,?_⟩;refine Dy (fun i σ H'=>(∃ o,σ=[some v,o])/\H'=H/\z0 S=sW S i (32 - i)) ⟨⟨none,rfl⟩,rfl,rfl⟩ (fun i σ H' hi h=>?_) (fun σ H' h=>?_)
 .obtain ⟨⟨o,rfl⟩,rfl,hk⟩:=h;have e1:(0:Int) + (i:Int)=(i:Int):=Int.zero_add _;refine ⟨_,rfl,_,rfl,v,S,_,rfl,hS,_,rfl,?_⟩;rw [e1]
  have e2:32 - i=(32 - (i + 1)) + 1:=by
   have:i < 32:=hi
   omega
  rw [e2] at hk;unfold sW at hk
  cases ht:ZE S (i:Int) with
  | true=>
   rw [ht,if_pos rfl] at hk;exact av ⟨⟨_,rfl⟩,rfl,hk⟩
  | false=>
   rw [ht,if_neg (by decide)] at hk;refine ax ?_;rw [hk] at q;exact ⟨_,rfl,q⟩
 .obtain ⟨_,rfl,hk⟩:=h;rw [hk] at q;exact q
inductive pd (g:Gs) (vs:List V) (H:Hp) (Q:VK) (E:XK):Prop
 | mk (v:_) (S:_) (l:_) (ns:_):vs=[v,.ref l]->ZA g H S v->H l=some (.lst (ns.map V.str))->ns.length<=2000->(∀ n∈ns,n.length<=2000)->d0 g Zwi H (fT S ns [0]) Q E->pd g vs H Q E
theorem Dg:Zp ["state","names","passed","name","entries"] ["state","names"] (Zi ZvS):=ZN (by decide +kernel)
theorem Dh (T:Tx K mg g):ah P w K mg base (ay P w) 2 g.walk g.Gz ["state","names"] (pd g):=by
 refine T.xx.aP Dg fun vs H Q E h=>?_;obtain ⟨v,S,l,ns,rfl,hS,hl,hz,iZ,q⟩:=h;refine ⟨rfl,fun _ _ _ _ hr=>?_⟩;have hu:=u1 hr.units
 refine ⟨_,(Zd (Zz (i:=2) Dg.nd rfl (Or.inl rfl) (fV (Za (ZJ (v:=.int 0) rfl T.Zwa ⟨_,rfl⟩) Ze)))
  (Zd (jS Y2 rfl (sN (pv 1)) (Z9 (i:=3) Dg.nd rfl (Or.inl rfl)) (Zd (ZC (Zn (Zdm T) hr.dn rfl T.Zd8 T.Ec.kp T.bS .nil Zc (Za (pv 0) (Za (bw ZU (pv 2) (gf gm Zl) (fun _ _=>rfl)) Ze))))
  (Zd (Zz (i:=4) Dg.nd rfl (Or.inl rfl) (kL hu (Zv (pv 0) rfl) (bw ZU (pv 2) (gf gm Zl) (fun _ _=>rfl)) (fun _ _=>rfl)))
  (Zd (Z0 (i_ (x9 hu (pv 3) (pv 4))) (Zh (Z2 T.HY rfl T.DF (Za (xJ (xI (xA (pv 3) xH))) Ze))) Zx)
  (Zh (ZC (lR YR Xl Xk qT (pv 2) (Za (kL hu (pv 4) (pv 3) (fun _ _=>rfl)) Ze))))))))
  (Zh (Zt (pv 2))))),?_⟩
 refine ⟨aX 1,fun D hD=>?_⟩;have s0:=Zj (o:=.lst [.int 0]) hD;have nlD:l≠D:=Zg hl hD;refine ⟨_,rfl,l,rfl,⟨_,aq.of (s0 _ _ hl)⟩,?_⟩;refine xV (xs:=ns.map V.str) (fun i σ H'=>∃ ps,(∃ o3 o4,σ=[some v,some (.ref l),some (.ref D),o3,o4])/\H' D=some (.lst (ps.map V.int))/\ps≠[]/\ps.length=i + 1/\ag H H'/\fT S ns [0]=fT S (ns.drop i) ps) ⟨[0],⟨none,none,rfl⟩,Zb,by decide,rfl,s0,rfl⟩ (fun i σ H' _ h=>?_) (fun i x σ H' hx h=>?_) (fun σ H' h=>?_)
 .obtain ⟨ps,_,_,_,_,sm,_⟩:=h;exact aq.of (sm _ _ hl)
 .obtain ⟨ps,⟨o3,o4,rfl⟩,hp,bZ,hlen,sm,hw⟩:=h;rw [Yo] at hx
  cases hn:ns[i]? with
  | none=>rw [hn] at hx;cases hx
  | some n=>
   rw [hn] at hx
   cases hx
   have hi:i < ns.length:=(List.getElem?_eq_some_iff.mp hn).1
   have zj:ns.drop i=n::ns.drop (i + 1):=by
    rw [YaP hi];rw [(List.getElem?_eq_some_iff.mp hn).2]
   rw [zj,Dz] at hw;have qy:=ZA.mono _ _ _ _ sm hS;refine ⟨_,rfl,_,rfl,_,rfl,D,_,_,_,rfl,rfl,aq.of hp,lX ps bZ,v,S,_,rfl,qy,?_⟩
   cases hg:aa S.ent (ps.getLastD 0) with
   | none=>
    rw [hg] at hw;show d0 g m9 H' (sQ S (ps.getLastD 0)) _ _;unfold sQ;rw [hg];exact fun H2 s2=>q.no hw _ (sm.trans s2)
   | some es=>
    rw [hg] at hw;show d0 g m9 H' (sQ S (ps.getLastD 0)) _ _;unfold sQ;rw [hg];intro v2 H2 s2 _;dsimp only at hw;have gb:=ZA.mono _ _ _ _ s2 qy;obtain ⟨p,dx,da,ea,dk,ek,rfl,hP⟩:=gb;obtain ⟨ve,g7,⟨ae,rfl,iy⟩⟩:=hP.re.yes eC hg;refine ⟨_,rfl,p,_,dx,_,_,rfl,hP.ob,T.ZW,T.Zu,gZ _ _,_,rfl,_,rfl,D,_,_,_,rfl,rfl,aq.of (s2 _ _ hp),lX ps bZ,ea,_,rfl,(by have:=aI.k hP.he (k:=.inl (ps.getLastD 0));rw [g7] at this;exact this),?_⟩;refine ⟨_,rfl,_,rfl,ae,_,rfl,aI.k iy (k:=.inr n),_,rfl,?_⟩;rw [xU]
    cases mz:aa es n with
    | none=>
     rw [mz] at hw;refine ax ?_;have nL:n.length<=2000:=iZ n (Yy hn);refine ⟨?_,_,rfl,n,rfl,Zs nL (by decide),?_,?_,aX 1,q.no hw _ (sm.trans s2)⟩
     .rw [ZX];exact Zs (m:=100) (by decide) (by decide)
     .rw [ZX,ZX];exact Zs (m:=2100) (by show 0 + 18 + n.length<=2100;omega) (by decide)
     .rw [ZX,ZX];exact Zs (m:=2100) (by show 0 + 18 + n.length<=2100;omega) (by decide)
    | some j=>
     rw [mz] at hw;refine av ?_;refine ⟨_,rfl,.inl ⟨rfl,_,aq.of (s2 _ _ hp)⟩,_,rfl,_,rfl,ae,.int j,rfl,(by have:=aI.k iy (k:=.inr n);rw [xU,mz] at this;exact this),D,_,_,rfl,rfl,s2 _ _ hp,?_,?_⟩
     .rw [Yb,hlen]
      have:(100000:Nat)<=Ym:=by decide
      omega
     .refine ⟨ps++[j],⟨_,_,rfl⟩,?_,by simp,by rw [Yg,hlen];rfl,fun b o e=>?_,hw⟩
      .rw [Yw];exact Zb
      .rw [Zf (Zg e hD)];exact s2 _ _ (sm _ _ e)
 .obtain ⟨ps,⟨o3,o4,rfl⟩,hp,bZ,hlen,sm,hw⟩:=h;rw [Yb,Wq,Dl] at hw;exact ⟨_,rfl,q.ok hw _ _ sm ⟨D,rfl,hp⟩⟩
def lW (S:az) (p:Str):Except Rf (List Int):=match fT S (Zw p).dropLast [0] with
 | .error r=>.error r
 | .ok ps=>if (aa S.ent (ps.getLastD 0)).isSome then .ok ps else .error .aw
theorem vi {S:az}:∀ {ns:List Str} {ps qs:List Int},fT S ns ps=.ok qs->ps≠[]->qs≠[]/\qs.length=ps.length + ns.length
 | [],ps,qs,h,hp=>by rw [Dl] at h;cases h;exact ⟨hp,rfl⟩
 | n::ns,ps,qs,h,hp=>by
  rw [Dz] at h
  cases h1:aa S.ent (ps.getLastD 0) with
  | none=>rw [h1] at h;cases h
  | some es=>
   rw [h1] at h;dsimp only at h
   cases h2:aa es n with
   | none=>rw [h2] at h;cases h
   | some i=>
    rw [h2] at h;obtain ⟨a,b⟩:=vi (ps:=ps++[i]) h (by simp);refine ⟨a,?_⟩;rw [b,Yg,Yz];show ps.length + 1 + ns.length=ps.length + (ns.length + 1);omega
theorem Zuw (ns:List Str):bD (ns.map V.str) none (some (-1))=ns.dropLast.map V.str:=by
 unfold bD;have e1:HT.a_ (ns.map V.str).length 0 none=0:=rfl
 have e2:HT.a_ (ns.map V.str).length (ns.map V.str).length (some (-1))=ns.length - 1:=by
  show (if (-1:Int) < 0 then (-1 + ((ns.map V.str).length:Int)).toNat else min (-1:Int).toNat (ns.map V.str).length)=_;rw [if_pos (by decide),Yb];omega
 rw [e1,e2,YaI,Nat.sub_zero,<- Yap,List.dropLast_eq_take]
inductive iI (g:Gs) (vs:List V) (H:Hp) (Q:VK) (E:XK):Prop
 | mk (v:_) (S:_) (p:_):vs=[v,.str p]->ZA g H S v->p.length<=1000->d0 g Zwi H (lW S p) Q E->iI g vs H Q E
theorem Zcu:Zp ["state","path","passed"] ["state","path"] (Zi ZcT):=ZN (by decide +kernel)
theorem Zcw (T:Tx K mg g):ah P w K mg base (ay P w) 3 g.Lx g.Lv ["state","path"] (iI g):=by
 refine T.Ei.aP Zcu fun vs H Q E h=>?_;obtain ⟨v,S,p,rfl,hS,hl,q⟩:=h;refine ⟨rfl,fun _ _ _ _ hr=>?_⟩
 refine ⟨_,(Zd (Zz (i:=2) Zcu.nd rfl (Or.inl rfl) (Zn (Dh T) hr.dn rfl T.CZ T.xx.kp T.jh .nil Zc (Za (pv 0) (Za (p_ GC (Zn (oq T) hr.dn rfl T.om T.Z7.kp T.aD .nil Zc (Za (pv 1) Ze)) sO (nA (gf gm Zl))) Ze))))
  (Zd (ZC (Zn (Zdm T) hr.dn rfl T.Zd8 T.Ec.kp T.bS .nil Zc (Za (pv 0) (Za (bw ZU (pv 2) (gf gm Zl) (fun _ _=>rfl)) Ze))))
  (Zh (Zt (pv 2))))),?_⟩
 refine ⟨_,rfl,_,rfl,p,rfl,hl,fun l H1 s1 hn eB=>?_⟩;refine ⟨_,rfl,_,rfl,l,_,rfl,aq.of eB,fun m hm=>?_⟩;rw [Zuw] at *;have s2:=Zj (o:=.lst ((Zw p).dropLast.map V.str)) hm;refine ⟨v,S,m,(Zw p).dropLast,rfl,ZA.mono _ _ _ _ (s1.trans s2) hS,Zb,?_,fun n h=>?_,?_⟩
 .rw [YbI]
  have:=Aq p
  omega
 .have:=Ar p n (List.dropLast_subset _ h)
  omega
 .unfold lW at q
  cases hw:fT S (Zw p).dropLast [0] with
  | error r=>
   rw [hw] at q;exact fun H' s'=>q H' (s1.trans (s2.trans s'))
  | ok ps=>
   rw [hw] at q;dsimp only at q;intro v2 H2 s3 ⟨D,e,hD⟩;subst e;have bZ:=(vi hw (by decide)).1;have sA:=s1.trans (s2.trans s3);refine ⟨_,rfl,_,rfl,_,rfl,D,_,_,_,rfl,rfl,aq.of hD,lX ps bZ,v,S,_,rfl,ZA.mono _ _ _ _ sA hS,?_⟩;unfold sQ
   cases hg:(aa S.ent (ps.getLastD 0)).isSome with
   | true=>
    rw [hg] at q;intro v3 H3 s4 _;exact ⟨_,rfl,q _ _ (sA.trans s4) ⟨D,rfl,s4 _ _ hD⟩⟩
   | false=>
    rw [hg] at q;exact fun H' s'=>q H' (sA.trans s')
end KS
namespace L2
open PySem PySem.Spec PyProof.Rows PySem.W
theorem sY {X:Cx}:ff X (.type "dict") (fun xs H Q=>∃ a kvs,xs=[.ref a]/\Rd H a (.dK kvs)/\∀ p,H p=none->Q (.ref p) (upd H p (.dK kvs))):=by
 intro pins s σ H xs us Q I r h;obtain ⟨a,kvs,rfl,ha,q⟩:=h;obtain ⟨u,rfl,ru⟩:=r.one
 cases (show u=Value.ref a from ru)
 exact ZvG I ha fun p s' hp I'=>⟨.ref p,_,I',rfl,q p hp⟩
end L2
namespace KS
open PySem L2
variable {P:Program} {w:World} {K:Yf} {mg:Str->Option Value} {base:Heap} {g:Gs}
def Zm (p:Str):Str:=(Zw p).getLastD ""
theorem ZuU (a b:Str):lV a b≠[]:=by
 unfold lV
 split
 .simp
 .split
  .simp
  .intro h
   have:=congrArg List.length h
   unfold W0 at this
   simp at this
theorem nC {p:Str} (h:¬ p="/"):Zw p≠[]:=by
 unfold Zw;rw [if_neg h];exact ZuU _ _
theorem sT (ps:List Str) (h:ps≠[]):fS (ps.map V.str) (-1)=some (.str (ps.getLastD "")):=by
 have hl:0 < ps.length:=List.length_pos_iff.mpr h;unfold fS pG;rw [if_neg (by decide),if_pos (by rw [Yb];omega)];show (ps.map V.str)[(-1 + ((ps.map V.str).length:Int)).toNat]?=_;have e:(-1 + ((ps.map V.str).length:Int)).toNat=ps.length - 1:=by rw [Yb];omega
 rw [e,Yo,<- YaM,WT]
 cases hh:ps.getLast? with
 | none=>exact absurd (List.getLast?_eq_none_iff.mp hh) h
 | some x=>rfl
def nD (S:az) (p:Str):Except Rf Int:=if p="/" then .error .bo else match lW S p with
 | .error r=>.error r
 | .ok ps=>match aa S.ent (ps.getLastD 0) with
  | none=>.error .aw
  | some es=>if (aa es (Zm p)).isSome then .error .bo else .ok (ps.getLastD 0)
def Z5 (S:az) (d:Int) (name:Str) (n:Int):az:=match aa S.ent d with
 | none=>S
 | some es=>⟨S.dat,af S.ent d (af es name n)⟩
def sk (S:az) (p kind:Str):Except Rf az:=if !fI p then .error .aJ else match nD S p with
 | .error r=>.error r
 | .ok d=>match z0 S with
  | none=>.error .aM
  | some n=>match aa S.ent d with
   | none=>.error .aw
   | some es=>if 40<=es.length then .error .aM else .ok (Z5 (if kind="dir" then ⟨S.dat,af S.ent n []⟩ else ⟨af S.dat n [],S.ent⟩) d (Zm p) n)
structure iB (S:az):Prop where
 d:S.dat.length<=1000
 e:S.ent.length<=1000
 en:∀ n es,aa S.ent n=some es->es.length<=1000
theorem lt_size {n:Nat} (h:n<=1001):n < Ym:=by
 have:(1002:Nat)<=Ym:=by decide
 omega
inductive iM (g:Gs) (vs:List V) (H:Hp) (Q:VK) (E:XK):Prop
 | mk (v:_) (S:_) (d:_) (es:_):vs=[v,.int d]->ZA g H S v->aa S.ent d=some es->d0 g m9 H (if 40<=es.length then .error .aM else .ok ()) Q E->iM g vs H Q E
theorem Ziw:Zp ["state","directory"] ["state","directory"] (Zi ZeW):=ZN (by decide +kernel)
theorem Lw (T:Tx K mg g):ah P w K mg base (ay P w) 1 g.K6 g.Le ["state","directory"] (iM g):=by
 refine T.Aw.aP Ziw fun vs H Q E h=>?_;obtain ⟨v,S,d,es,rfl,⟨p,dx,da,ea,dk,ek,rfl,hS⟩,hg,q⟩:=h;refine ⟨rfl,fun _ _ _ _ hr=>?_⟩;have hu:=u1 hr.units;refine ⟨_,(Zh (Z0 (ZG ZxO (ZD Hy (by rfl) T.eL YC (Za (kL hu (Zv (pv 0) rfl) (pv 1) (fun _ _=>rfl)) Ze)) (ZJ (v:=.int 40) rfl T.ZmB ⟨_,rfl⟩) (ZO _)) (Zh (Z2 T.ye rfl T.vC (Za Zr Ze))) Zx)),?_⟩;obtain ⟨ve,g7,⟨ae,rfl,iy⟩⟩:=hS.re.yes eC hg;refine ⟨_,rfl,p,_,dx,_,_,rfl,hS.ob,T.ZW,T.Zu,gZ _ _,_,rfl,ea,_,rfl,(by have:=aI.k hS.he (k:=.inl d);rw [g7] at this;exact this),ae,_,rfl,iy,_,_,rfl,rfl,_,rfl,?_⟩;rw [GR]
 by_cases h4:40<=es.length
 .rw [if_pos h4] at q;rw [decide_eq_true (show (40:Int)<=(es.length:Int) by omega)];exact ax ⟨aX 1,q _ (ag.refl _)⟩
 .rw [if_neg h4] at q;rw [decide_eq_false (show ¬ (40:Int)<=(es.length:Int) by omega)];exact av (q _ _ (ag.refl _) rfl)
inductive px (g:Gs) (vs:List V) (H:Hp) (Q:VK) (E:XK):Prop
 | mk (v:_) (S:_) (p:_):vs=[v,.str p]->ZA g H S v->p.length<=1000->d0 g Zyu H (nD S p) Q E->px g vs H Q E
theorem Zhx:Zp ["state","path","directory"] ["state","path"] (Zi Zjy):=ZN (by decide +kernel)
theorem ZhT (T:Tx K mg g):ah P w K mg base (ay P w) 4 g.IE g.Ka ["state","path"] (px g):=by
 refine T.D5.aP Zhx fun vs H Q E h=>?_;obtain ⟨v,S,p,rfl,hS,hl,q⟩:=h;refine ⟨rfl,fun _ _ _ _ hr=>?_⟩;have hu:=u1 hr.units
 refine ⟨_,(Zd (Z0 (ZG fU (pv 1) Zr (ZO _)) (Zh (Z2 T.HX rfl T.DE (Za Zr Ze))) Zx)
  (Zd (Zz (i:=2) Zhx.nd rfl (Or.inl rfl) (bw ZU (Zn (Zcw T) hr.dn rfl T.Zc1 T.Ei.kp T.bB .nil Zc (Za (pv 0) (Za (pv 1) Ze))) (gf gm Zl) (fun _ _=>rfl)))
  (Zd (Z0 (i_ (nj hu (bw ZU (Zn (oq T) hr.dn rfl T.om T.Z7.kp T.aD .nil Zc (Za (pv 1) Ze)) (gf gm Zl) (fun _ _=>rfl)) (kL hu (Zv (pv 0) rfl) (pv 2) (fun _ _=>rfl)))) (Zh (Z2 T.HX rfl T.DE (Za (xJ (xA (pv 1) (xI xH))) Ze))) Zx)
  (Zh (Zt (pv 2)))))),?_⟩
 refine ⟨_,rfl,rfl,_,rfl,?_⟩
 by_cases h1:p="/"
 .rw [decide_eq_true (show V.str p=V.str "/" by rw [h1])];exact ax ⟨aX 1,q.no (r:=.bo) (by unfold nD;rw [if_pos h1]) _ (ag.refl _)⟩
 .rw [decide_eq_false (show ¬ V.str p=V.str "/" by intro z;injection z with z;exact h1 z)];refine av ?_;unfold nD at q;rw [if_neg h1] at q;refine ⟨_,rfl,_,rfl,v,S,p,rfl,hS,hl,?_⟩
  cases hw:lW S p with
  | error r=>
   rw [hw] at q;exact q
  | ok ps=>
   rw [hw] at q;dsimp only at q
   have Fe:ps≠[]/\∃ es,aa S.ent (ps.getLastD 0)=some es:=by
    unfold lW at hw
    cases h2:fT S (Zw p).dropLast [0] with
    | error r=>rw [h2] at hw;cases hw
    | ok qs=>
     rw [h2] at hw;dsimp only at hw
     cases h3:aa S.ent (qs.getLastD 0) with
     | none=>rw [h3] at hw;cases hw
     | some es=>
      rw [h3] at hw
      cases hw
      exact ⟨(vi h2 (by decide)).1,es,h3⟩
   obtain ⟨bZ,es,hg⟩:=Fe;rw [hg] at q;dsimp only at q;intro v2 H2 s2 ⟨D,e,hD⟩;subst e;refine ⟨_,rfl,D,_,_,_,rfl,rfl,aq.of hD,lX ps bZ,?_⟩;refine ⟨_,rfl,p,rfl,hl,fun l H3 s3 hn g9=>?_⟩;have sA:=s2.trans s3;obtain ⟨p',dx,da,ea,dk,ek,rfl,hP⟩:=ZA.mono _ _ _ _ sA hS;obtain ⟨ve,g7,⟨ae,rfl,iy⟩⟩:=hP.re.yes eC hg;refine ⟨_,rfl,l,_,_,_,rfl,rfl,aq.of g9,sT _ (nC h1),?_⟩;refine ⟨_,rfl,p',_,dx,_,_,rfl,hP.ob,T.ZW,T.Zu,gZ _ _,_,rfl,ea,_,rfl,(by have:=aI.k hP.he (k:=.inl (ps.getLastD 0));rw [g7] at this;exact this),ae,_,rfl,aI.k iy (k:=.inr (Zm p)),_,rfl,?_⟩;rw [xU,Yac]
   cases hb:(aa es (Zm p)).isSome with
   | true=>
    rw [hb] at q;refine ax ?_;refine ⟨_,rfl,p,rfl,Zs hl (by decide),?_,?_,?_,aX 1,q _ sA⟩
    .rw [ZX];exact Zs (m:=1000) (by show 0 + p.length<=1000;omega) (by decide)
    .rw [ZX,ZX];exact Zs (m:=1100) (by show 0 + p.length + 9<=1100;omega) (by decide)
    .rw [ZX,ZX];exact Zs (m:=1100) (by show 0 + p.length + 9<=1100;omega) (by decide)
   | false=>
    rw [hb] at q;exact av ⟨_,rfl,q _ _ sA rfl⟩
inductive gI (g:Gs) (vs:List V) (H:Hp) (Q:VK) (aL:XK):Prop
 | mk (v:_) (S:_) (n:_) (row:_) (r:_):vs=[v,.int n,r]->ZA g H S v->Z1 H row r->S.dat.length<=1000->(∀ v' H',ag H H'->ZA g H' ⟨af S.dat n row,S.ent⟩ v'->Q v' H')->gI g vs H Q aL
theorem Zjq:Zp ["state","number","row","data"] ["state","number","row"] (Zi Zk0):=ZN (by decide +kernel)
theorem JJ (T:Tx K mg g):ah P w K mg base (ay P w) 3 g.HV g.Jv ["state","number","row"] (gI g):=by
 refine T.Ac.aP Zjq fun vs H Q E h=>?_;obtain ⟨v,S,n,row,r,rfl,⟨p,dx,da,ea,dk,ek,rfl,hS⟩,eG,hz,q⟩:=h;refine ⟨rfl,fun _ _ _ _ hr=>?_⟩;have hu:=u1 hr.units
 refine ⟨_,(Zd (Zz (i:=3) Zjq.nd rfl (Or.inl rfl) (ZT sY rfl T.sx PyProof.Rows.Boot.«dict» (Za (Zv (pv 0) rfl) Ze)))
  (Zd (vg hu (pv 3) (pv 1) (pv 2) rfl)
  (Zh (Zt (qJ T.Du (Ea T) hr.dn rfl T.C7 T.bF .nil Zc (Za (pv 3) (Za (Zv (pv 0) rfl) Ze))))))),?_⟩
 refine ⟨_,rfl,p,_,dx,_,_,rfl,hS.ob,T.ZW,T.oo,nh _ _,da,dk,rfl,.inl hS.hd,fun a ha=>?_⟩;refine ⟨_,rfl,_,rfl,_,rfl,a,_,rfl,d6.k (k:=.inl n) Zb (lt_size (by rw [hS.rd.len];omega)),?_⟩;have s1:ag H (upd (upd H a (.dK dk)) a (.dK (putK dk (.inl n) r))):=fun b o e=>by rw [Zf (Zg e ha),Zf (Zg e ha)];exact e
 refine ⟨_,rfl,_,rfl,p,_,dx,_,_,rfl,s1 _ _ hS.ob,T.ZW,T.Zu,gZ _ _,fun x jR hx nQ ne=>DH hx nQ ne fun p2 iz H' s' eI=>?_⟩;refine q _ H' (s1.trans s') ⟨p2,iz,a,ea,_,_,rfl,eI,s' _ _ Zb,s' _ _ (s1 _ _ hS.he),?_,hS.re.same gY.mono (s1.trans s')⟩;exact (hS.rd.same Z1.mono (s1.trans s')).put eC (Z1.mono _ _ _ _ (s1.trans s') eG)
inductive gH (g:Gs) (vs:List V) (H:Hp) (Q:VK) (aL:XK):Prop
 | mk (v:_) (S:_) (n:_) (es:_) (r:_):vs=[v,.int n,r]->ZA g H S v->gY H es r->S.ent.length<=1000->(∀ v' H',ag H H'->ZA g H' ⟨S.dat,af S.ent n es⟩ v'->Q v' H')->gH g vs H Q aL
theorem Ze9:Zp ["state","number","entries","changed"] ["state","number","entries"] (Zi Zgy):=ZN (by decide +kernel)
theorem Ll (T:Tx K mg g):ah P w K mg base (ay P w) 3 g.KU g.Lc ["state","number","entries"] (gH g):=by
 refine T.Aj.aP Ze9 fun vs H Q E h=>?_;obtain ⟨v,S,n,es,r,rfl,⟨p,dx,da,ea,dk,ek,rfl,hS⟩,eG,hz,q⟩:=h;refine ⟨rfl,fun _ _ _ _ hr=>?_⟩;have hu:=u1 hr.units
 refine ⟨_,(Zd (Zz (i:=3) Ze9.nd rfl (Or.inl rfl) (ZT sY rfl T.sx PyProof.Rows.Boot.«dict» (Za (Zv (pv 0) rfl) Ze)))
  (Zd (vg hu (pv 3) (pv 1) (pv 2) rfl)
  (Zh (Zt (qJ T.Du (Ea T) hr.dn rfl T.C7 T.bF .nil Zc (Za (Zv (pv 0) rfl) (Za (pv 3) Ze))))))),?_⟩
 refine ⟨_,rfl,p,_,dx,_,_,rfl,hS.ob,T.ZW,T.Zu,gZ _ _,ea,ek,rfl,.inl hS.he,fun a ha=>?_⟩;refine ⟨_,rfl,_,rfl,_,rfl,a,_,rfl,d6.k (k:=.inl n) Zb (lt_size (by rw [hS.re.len];omega)),?_⟩;have s1:ag H (upd (upd H a (.dK ek)) a (.dK (putK ek (.inl n) r))):=fun b o e=>by rw [Zf (Zg e ha),Zf (Zg e ha)];exact e
 refine ⟨_,rfl,p,_,dx,_,_,rfl,s1 _ _ hS.ob,T.ZW,T.oo,nh _ _,_,rfl,fun x jR hx nQ ne=>DH hx nQ ne fun p2 iz H' s' eI=>?_⟩;refine q _ H' (s1.trans s') ⟨p2,iz,da,a,_,_,rfl,eI,s' _ _ (s1 _ _ hS.hd),s' _ _ Zb,hS.rd.same Z1.mono (s1.trans s'),?_⟩;exact (hS.re.same gY.mono (s1.trans s')).put eC (gY.mono _ _ _ _ (s1.trans s') eG)
inductive cT (g:Gs) (vs:List V) (H:Hp) (Q:VK) (aL:XK):Prop
 | mk (v:_) (S:_) (d:_) (name:_) (n:_) (es:_):vs=[v,.int d,.str name,.int n]->ZA g H S v->iB S->aa S.ent d=some es->(∀ v' H',ag H H'->ZA g H' (Z5 S d name n) v'->Q v' H')->cT g vs H Q aL
theorem Zht:Zp ["state","directory","name","number","entries"] ["state","directory","name","number"] (Zi Zjs):=ZN (by decide +kernel)
theorem Kp (T:Tx K mg g):ah P w K mg base (ay P w) 4 g.Zip g.KW ["state","directory","name","number"] (cT g):=by
 refine T.Ae.aP Zht fun vs H Q E h=>?_;obtain ⟨v,S,d,name,n,es,rfl,lM,sm,hg,q⟩:=h;refine ⟨rfl,fun _ _ _ _ hr=>?_⟩;obtain ⟨p,dx,da,ea,dk,ek,rfl,hS⟩:=id lM;have hu:=u1 hr.units
 refine ⟨_,(Zd (Zz (i:=4) Zht.nd rfl (Or.inl rfl) (ZT sY rfl T.sx PyProof.Rows.Boot.«dict» (Za (kL hu (Zv (pv 0) rfl) (pv 1) (fun _ _=>rfl)) Ze)))
  (Zd (vg hu (pv 4) (pv 2) (pv 3) rfl)
  (Zh (Zt (Zn (Ll T) hr.dn rfl T.K9 T.Aj.kp T.bL .nil Zc (Za (pv 0) (Za (pv 1) (Za (pv 4) Ze)))))))),?_⟩
 obtain ⟨ve,g7,⟨ae,rfl,iy⟩⟩:=hS.re.yes eC hg;refine ⟨_,rfl,p,_,dx,_,_,rfl,hS.ob,T.ZW,T.Zu,gZ _ _,_,rfl,ea,_,rfl,(by have:=aI.k hS.he (k:=.inl d);rw [g7] at this;exact this),ae,_,rfl,.inl iy,fun a ha=>?_⟩;refine ⟨_,rfl,_,rfl,_,rfl,a,_,rfl,d6.k (k:=.inr name) Zb (lt_size (by rw [GR];exact YaT (sm.en _ _ hg))),?_⟩;rw [Zvx];have s1:ag H (upd (upd H a (.dK (eJ es))) a (.dK (eJ (af es name n)))):=fun b o e=>by rw [Zf (Zg e ha),Zf (Zg e ha)];exact e
 refine ⟨_,rfl,_,rfl,_,rfl,_,S,d,af es name n,_,rfl,ZA.mono _ _ _ _ s1 lM,⟨a,rfl,Zb⟩,sm.e,fun v' H' s' h'=>q v' H' (s1.trans s') ?_⟩;unfold Z5;rw [hg];exact h'
section
variable {κ α:Type} [DecidableEq κ]
theorem ZrQ (k j:κ) (y:α):∀ xs:List (κ×α),aa (xs.map fun p=>if p.1=k then (p.1,y) else p) j=(aa xs j).map fun x=>if j=k then y else x
 | []=>rfl
 | p::r=>by
  rw [Yt]
  by_cases z:p.1=j
  .rw [gj z,Xe]
   by_cases w:p.1=k
   .rw [if_pos w,if_pos (z.symm.trans w)];exact gj (p:=(p.1,y)) z
   .rw [if_neg w,if_neg (fun q=>w (z.trans q))];exact gj z
  .rw [ZZ z];rw [<- ZrQ k j y r]
   by_cases w:p.1=k
   .rw [if_pos w];exact ZZ (p:=(p.1,y)) z
   .rw [if_neg w];exact ZZ z
theorem Zp0 (k j:κ) (y:α):∀ xs:List (κ×α),aa xs k=none->aa (xs++[(k,y)]) j=if j=k then some y else aa xs j
 | [],_=>by
  by_cases z:j=k
  .rw [if_pos z];exact gj (p:=(k,y)) z.symm
  .rw [if_neg z];exact ZZ (p:=(k,y)) (fun q=>z q.symm)
 | p::r,h=>by
  by_cases w:p.1=k
  .rw [gj w] at h;cases h
  .rw [ZZ w] at h;rw [Yal]
   by_cases z:p.1=j
   .rw [gj z,gj z,if_neg (fun q=>w (z.trans q))]
   .rw [ZZ z,ZZ z];exact Zp0 k j y r h
theorem ZV (xs:List (κ×α)) (k j:κ) (y:α):aa (af xs k y) j=if j=k then some y else aa xs j:=by
 unfold af;rw [vn]
 cases h:aa xs k with
 | none=>
  rw [if_neg (by simp)];exact Zp0 k j y xs h
 | some x=>
  rw [if_pos (by rfl),ZrQ]
  by_cases z:j=k
  .rw [if_pos z,z,h];simp
  .rw [if_neg z]
   cases aa xs j with
   | none=>rfl
   | some u=>simp [z]
end
theorem ZpL {S:az} {n:Int}:∀ {k i:Nat},sW S i k=some n->ZE S n=false
 | 0,i,h=>by cases h
 | k + 1,i,h=>by
  unfold sW at h
  split at h
  .exact ZpL h
  .rename_i hh
   cases h
   simpa using hh
theorem iB.ent {S:az} (h:iB S) (hl:S.ent.length<=999) (n:Int):iB ⟨S.dat,af S.ent n []⟩:=
 ⟨h.d,Yk (sR _ _ _) (Y4 hl),fun m es hm=>by
  rw [ZV] at hm
  by_cases z:m=n
  .rw [if_pos z] at hm;cases hm;exact Yv _
  .rw [if_neg z] at hm;exact h.en m es hm⟩
theorem iB.dat {S:az} (h:iB S) (hl:S.dat.length<=999) (n:Int) (r:Row):iB ⟨af S.dat n r,S.ent⟩:=⟨Yk (sR _ _ _) (Y4 hl),h.e,h.en⟩
inductive pj (g:Gs) (vs:List V) (H:Hp) (Q:VK) (E:XK):Prop
 | mk (v:_) (S:_) (p:_) (k:_):vs=[v,.str p,.str k]->ZA g H S v->iB S->S.dat.length<=999->S.ent.length<=999->p.length<=1000->d0 g (ZA g) H (sk S p k) Q E->pj g vs H Q E
theorem zX:Zp ["state","path","kind","directory","number","changed"] ["state","path","kind"] (Zi ZvT):=ZN (by decide +kernel)
theorem ZwJ (T:Tx K mg g):ah P w K mg base (ay P w) 5 g.made g.Gw ["state","path","kind"] (pj g):=by
 refine T.Gm.aP zX fun vs H Q E h=>?_;obtain ⟨v,S,p,k,rfl,hS,sm,rR,yQ,hl,q⟩:=h;refine ⟨rfl,fun _ _ _ _ hr=>?_⟩;have hu:=u1 hr.units
 refine ⟨_,(Zd (ZC (Zn (yj T) hr.dn rfl T.yk T.tm.kp T.a9 .nil Zc (Za (pv 1) Ze)))
  (Zd (Zz (i:=3) zX.nd rfl (Or.inl rfl) (Zn (ZhT T) hr.dn rfl T.ZjY T.D5.kp T.er .nil Zc (Za (pv 0) (Za (pv 1) Ze))))
  (Zd (Zz (i:=4) zX.nd rfl (Or.inl rfl) (Zn (ZhS T) hr.dn rfl T.ZjX T.D6.kp T.eo .nil Zc (Za (pv 0) Ze)))
  (Zd (Z0 (i_ (Zv3 (pv 4))) (Zh (Z2 T.ye rfl T.vC (Za Zr Ze))) Zx)
  (Zd (ZC (Zn (Lw T) hr.dn rfl T.Lf T.Aw.kp T.bt .nil Zc (Za (pv 0) (Za (pv 3) Ze))))
  (Zd (Z0 (ZG fU (pv 2) Zr (ZO _)) (Zh (Zz (i:=5) zX.nd rfl (Or.inl rfl) (Zn (Ll T) hr.dn rfl T.K9 T.Aj.kp T.bL .nil Zc (Za (pv 0) (Za (pv 4) (Za qP Ze)))))) (Zh (Zz (i:=5) zX.nd rfl (Or.inl rfl) (Zn (JJ T) hr.dn rfl T.Jq T.Ac.kp T.cV .nil Zc (Za (pv 0) (Za (pv 4) (Za (dH Ze) Ze)))))))
  (Zh (Zt (Zn (Kp T) hr.dn rfl T.JH T.Ae.kp T.cA .nil Zc (Za (pv 5) (Za (pv 3) (Za (bw ZU (Zn (oq T) hr.dn rfl T.om T.Z7.kp T.aD .nil Zc (Za (pv 1) Ze)) (gf gm Zl) (fun _ _=>rfl)) (Za (pv 4) Ze))))))))))))),?_⟩
 refine ⟨_,rfl,p,rfl,hl,?_⟩;unfold sk at q;unfold ou
 cases hb:fI p with
 | false=>
  rw [hb] at q;exact fun H' s'=>q H' s'
 | true=>
  rw [hb] at q;rw [if_neg (by decide)] at q;intro v1 H1 s1 _;refine ⟨_,rfl,_,rfl,v,S,p,rfl,ZA.mono _ _ _ _ s1 hS,hl,?_⟩
  cases hf:nD S p with
  | error r=>
   rw [hf] at q;exact fun H' s'=>q H' (s1.trans s')
  | ok d=>
   rw [hf] at q;dsimp only at q;intro v2 H2 s2 e
   cases e
   have sB:=s1.trans s2;have gb:=ZA.mono _ _ _ _ sB hS;refine ⟨_,rfl,v,S,rfl,gb,?_⟩
   cases Fh:z0 S with
   | none=>
    rw [Fh] at q;refine ⟨_,rfl,_,rfl,ax ⟨aX 1,q _ sB⟩⟩
   | some n=>
    rw [Fh] at q;dsimp only at q;refine ⟨_,rfl,_,rfl,av ?_⟩
    have hfe:¬ p="/"/\∃ es,aa S.ent d=some es:=by
     unfold nD at hf
     by_cases h1:p="/"
     .rw [if_pos h1] at hf;cases hf
     .rw [if_neg h1] at hf;refine ⟨h1,?_⟩
      cases hw:lW S p with
      | error r=>rw [hw] at hf;cases hf
      | ok ps=>
       rw [hw] at hf;dsimp only at hf
       cases hg:aa S.ent (ps.getLastD 0) with
       | none=>rw [hg] at hf;cases hf
       | some es=>
        rw [hg] at hf;dsimp only at hf
        split at hf
        .cases hf
        .cases hf;exact ⟨es,hg⟩
    obtain ⟨h1,es,hg⟩:=hfe;rw [hg] at q;dsimp only at q;refine ⟨_,rfl,_,rfl,v,S,d,es,rfl,gb,hg,?_⟩
    by_cases h4:40<=es.length
    .rw [if_pos h4] at q ⊢;exact fun H' s'=>q H' (sB.trans s')
    .rw [if_neg h4] at q ⊢;intro v3 H3 s3 _;have sC:=sB.trans s3;have uK:=ZA.mono _ _ _ _ sC hS
     have nd:d≠n:=fun z=>by
      have:=ZpL Fh
      unfold ZE at this;rw [<- z,hg] at this
      simp at this
     refine ⟨_,rfl,rfl,_,rfl,?_⟩
     -- g6 last step,alike on both ways
     have last:∀ (S':az) (u:V) (H4:Hp),ag H3 H4->ZA g H4 S' u->iB S'->aa S'.ent d=some es->(∀ v' H',ag H H'->ZA g H' (Z5 S' d (Zm p) n) v'->Q v' H')->
       cU [.str p] H4 (fun x H5=>∃ (pp:Addr) (xs:List V) (i:Int) (z:V),x=.ref pp/\V.int (-1)=.int i/\aq K H5 pp xs/\fS xs i=some z/\cT g [u,.int d,z,.int n] H5 Q E) E:=by
      intro S' u H4 s4 Cd ED hg4 qq;refine ⟨p,rfl,hl,fun l H5 s5 hn f_=>⟨l,_,_,_,rfl,rfl,aq.of f_,sT _ (nC h1),u,S',d,Zm p,n,es,rfl,ZA.mono _ _ _ _ s5 Cd,ED,hg4,fun v' H' s' h'=>qq v' H' (sC.trans (s4.trans (s5.trans s'))) h'⟩⟩
     by_cases hk:k="dir"
     .rw [decide_eq_true (show V.str k=V.str "dir" by rw [hk])];rw [if_pos hk] at q;refine ax ⟨_,rfl,_,rfl,fun a ha=>?_⟩;have s4:=Zj (o:=.dK []) ha;refine ⟨v,S,n,[],_,rfl,ZA.mono _ _ _ _ s4 uK,⟨a,rfl,Zb⟩,sm.e,fun v4 H4 s5 h4=>?_⟩
      have hge:aa (⟨S.dat,af S.ent n []⟩:az).ent d=some es:=by
       show aa (af S.ent n []) d=_;rw [ZV,if_neg nd];exact hg
      obtain ⟨p0,e0,uE,k0⟩:=last _ v4 H4 (s4.trans s5) h4 (sm.ent yQ n) hge (fun v' H' s' h'=>q v' H' s' h')
      cases e0
      refine ⟨_,rfl,_,rfl,_,rfl,p,rfl,hl,fun l H5 s6 hn f_=>?_⟩;obtain ⟨pp,xs,i,z,a1,a2,a3,a4,a5⟩:=k0 l H5 s6 hn f_;refine ⟨_,rfl,pp,xs,i,z,a1,a2,a3,a4,?_⟩;exact ⟨_,rfl,a5⟩
     .rw [decide_eq_false (show ¬ V.str k=V.str "dir" by intro z;injection z with z;exact hk z)];rw [if_neg hk] at q;refine av ⟨_,rfl,_,rfl,Yv _,fun a ha=>?_⟩;have s4:=Zj (o:=.tup []) ha;refine ⟨v,S,n,[],_,rfl,ZA.mono _ _ _ _ s4 uK,⟨a,rfl,Zb⟩,sm.d,fun v4 H4 s5 h4=>?_⟩;obtain ⟨p0,e0,uE,k0⟩:=last _ v4 H4 (s4.trans s5) h4 (sm.dat rR n []) hg (fun v' H' s' h'=>q v' H' s' h')
      cases e0
      refine ⟨_,rfl,_,rfl,_,rfl,p,rfl,hl,fun l H5 s6 hn f_=>?_⟩;obtain ⟨pp,xs,i,z,a1,a2,a3,a4,a5⟩:=k0 l H5 s6 hn f_;refine ⟨_,rfl,pp,xs,i,z,a1,a2,a3,a4,?_⟩;exact ⟨_,rfl,a5⟩
end KS
namespace L2
open PySem PySem.Spec PyProof.Rows PySem.W
theorem ZrR {d:Addr} {ob:Obj} {u:HO} {g:TG} {tb:TS} {D:Ends} {σ:St} {H:Hp} (Pv:Nat->St->Hp->Prop) (h0:Pv 0 σ H) (hl:∀ i σ H,i<=(hR u).length->Pv i σ H->H d=some (.bu ob u))
  (hs:∀ i x σ H,(hR u)[i]?=some x->Pv i σ H->g x σ H fun bI H2=>tb {D with nx:=Pv (i + 1),ct:=Pv (i + 1),bk:=D.nx} bI H2) (hd:∀ σ H,Pv (hR u).length σ H->D.nx σ H) :
  ∃ W:Nat->Nat->St->Hp->Prop,(∃ m,W 0 m σ H)/\∀ i m σ H,W i m σ H->
   ((AD d ob u).stop i H/\D.nx σ H)∨((AD d ob u).go i H/\∃ N:St->Hp->Prop,(∀ aB H',N aB H'->∃ m',m' < m/\W (i + 1) m' aB H')/\∀ x H',(AD d ob u).mn i H x H'->g x σ H' fun bI H2=>tb {D with nx:=N,ct:=N,bk:=D.nx} bI H2):=by
 refine ⟨fun i m σ H=>m=(hR u).length - i/\i<=(hR u).length/\Pv i σ H,⟨(hR u).length,by simp,Yv _,h0⟩,?_⟩
 rintro i m σ H ⟨rfl,hi,p⟩
 have q:=hl i σ H hi p
 by_cases br:i < (hR u).length
 .refine .inr ⟨⟨q,br⟩,Pv (i + 1),fun aB H' p'=>⟨(hR u).length - (i + 1),by omega,rfl,br,p'⟩,fun x H' y=>?_⟩;obtain ⟨e,y⟩:=y;subst e;exact hs i x σ _ y p
 .have e:i=(hR u).length:=by omega
  subst e;exact .inl ⟨⟨q,Ye _⟩,hd σ H p⟩
end L2
namespace KS
open PySem L2
variable {P:Program} {w:World} {K:Yf} {mg:Str->Option Value} {base:Heap} {g:Gs}
abbrev g4:=List (Row×Row)
def rKey (r:Row):List Key:=r.map X8
theorem xX (a b:Row) (h:rKey a=rKey b):a=b:=by
 unfold rKey at h
 induction a generalizing b with
 | nil=>cases b with
  | nil=>rfl
  | cons=>simp at h
 | cons x xs ih=>cases b with
  | nil=>simp at h
  | cons y ys=>
   rw [Yt,Yt,List.cons.injEq] at h;rw [Sum.inl.inj h.1,ih ys h.2]
theorem zS (r:Row):(rKey r).map kV=r.map V.int:=by
 unfold rKey;rw [XJ];rfl
def hG (H:Hp) (pl:g4) (v:V):Prop:=∃ a kvs,v=.ref a/\H a=some (.dT kvs)/\Z8 rKey Z1 H pl kvs
theorem hG.mono:ly hG:=fun _ _ _ _ s ⟨a,kvs,e,h,d⟩=>⟨a,kvs,e,s _ _ h,d.same Z1.mono s⟩
def qN (count:Int) (pl:g4):List Int:=(List.range (count - 2).toNat).filterMap fun (i:Nat)=>if (pl.map (·.2)).flatten.contains (2 + (i:Int)) then none else some (2 + (i:Int))
def zO (ns:List Int) (kvs:List (Key×V)):Prop:=∀ n:Int,(aW kvs (.inl n)).isSome=ns.contains n
theorem zO.put {ns:List Int} {kvs:List (Key×V)} (h:zO ns kvs) (m:Int) (v:V):zO (ns++[m]) (putK kvs (.inl m) v):=fun n=>by
 rw [Hd,List.contains_append,<- h n]
 by_cases z:n=m
 .rw [if_pos (by rw [z]),z];simp
 .rw [if_neg (fun y=>z (Sum.inl.inj y))]
  have:[m].contains n=false:=by simp [z]
  rw [this,Xs]
theorem ZvF {κ α ρ:Type} {f:κ->ρ} {R:Hp->α->V->Prop} {H:Hp} {xs:List (κ×α)} {kvs:List (ρ×V)} (h:Z8 f R H xs kvs) {i:Nat} {v:V} (hv:(kvs.map (·.2))[i]?=some v):∃ p,xs[i]?=some p/\R H p.2 v:=by
 unfold Z8 at h
 induction h generalizing i with
 | nil=>simp at hv
 | @cons p q _ _ a t ih=>
  cases i with
  | zero=>simp at hv;subst hv;exact ⟨q,rfl,a.2⟩
  | succ i=>obtain ⟨p',h1,h2⟩:=ih (i:=i) (by simpa using hv);exact ⟨p',by simpa using h1,h2⟩
theorem Zue (pl:g4) {i:Nat} {p:Row×Row} (h:pl[i]?=some p):((pl.take (i + 1)).map (·.2)).flatten=((pl.take i).map (·.2)).flatten++p.2:=by
 have hi:i < pl.length:=(List.getElem?_eq_some_iff.mp h).1;rw [Xb hi,Yw,XU];rw [(List.getElem?_eq_some_iff.mp h).2]
 simp
inductive fE (vs:List V) (H:Hp) (Q:VK) (aL:XK):Prop
 | mk (n:Int):vs=[.int n]->Q (.int ((n + 62) / 63)) H->fE vs H Q aL
theorem ZnK:Zp ["length"] ["length"] (Zi ZjC):=ZN (by decide +kernel)
theorem Zn3 (T:Tx K mg g):ah P w K mg base (ay P w) 1 g.Jc g.J5 ["length"] fE:=by
 refine T.Kg.aP ZnK fun vs H Q E h=>?_;obtain ⟨n,rfl,q⟩:=h;refine ⟨rfl,fun _ _ _ _ hr=>?_⟩;refine ⟨_,(Zh (Zt (Zy fJ (Zy u5 (Zy kJ (pv 0) (ZJ (v:=.int 63) rfl T.Ai ⟨_,rfl⟩)) Zl) (ZJ (v:=.int 63) rfl T.Ai ⟨_,rfl⟩)))),?_⟩;refine ⟨_,rfl,_,_,rfl,rfl,_,_,rfl,rfl,_,_,rfl,rfl,⟨by decide,by decide⟩,?_⟩;rw [show n + 63 - 1=n + 62 by omega];exact q
inductive gM (vs:List V) (H:Hp) (Q:VK) (aL:XK):Prop
 | mk (n:_) (v:_) (pl:_):vs=[.int n,v]->hG H pl v->0<=n->n<=256->pl.length<=1000->(pl.map (·.2)).flatten.length<=100000->(∀ l H',ag H H'->H' l=some (.lst ((qN n pl).map V.int))->Q (.ref l) H')->gM vs H Q aL
theorem Ee:Zp ["count","places","used","numbers","number"] ["count","places"] (Zi Lb):=ZN (by decide +kernel)
theorem Zlm (T:Tx K mg g):ah P w K mg base (ay P w) 1 g.J' g.K7 ["count","places"] gM:=by
 refine T.K1.aP Ee fun vs H Q E h=>?_;obtain ⟨n,v,pl,rfl,⟨a,kvs,rfl,ha,hd⟩,uD,Ck,cK,dy,q⟩:=h;refine ⟨rfl,fun _ _ _ _ hr=>?_⟩;have hu:=u1 hr.units
 refine ⟨_,(Zd (Zz (i:=2) Ee.nd rfl (Or.inr rfl) qP)
  (Zd (GJ (jS Y2 rfl (Ztw (xF YW YaZ YaY IM (pv 1))) (Z9 (i:=3) Ee.nd rfl (Or.inl rfl)) (Zh (jS Y2 rfl (ZvY (pv 3)) (Z9 (i:=4) Ee.nd rfl (Or.inl rfl)) (Zh (vg hu (pv 2) (pv 4) pQ rfl))))))
  (Zh (Zt (xQ (own:=["number"]) (fv:=["used"]) (ix:=[2]) (ot (sc:=Zi Lb) (N:=["count","places","used","numbers","number"]) rfl rfl (by decide +kernel)) rfl (Ztx rfl T.sP (Za (ZJ (v:=.int 2) rfl T.Zow ⟨_,rfl⟩) (Za (pv 0) Ze))) (fun _ _ _ _ _=>Z9 (i:=0) (show (["number","used"]:List Str).Nodup from by decide +kernel) rfl (Or.inl rfl) (Or.inr rfl)) (fun _ _ _ _ _=>ZwC (i_ (x9 hu (pv 0) (pv 1)))) (fun _ _ _ _ _=>(pv 0))))))),?_⟩
 refine fun U hU=>?_;have rO:a≠U:=Zg ha hU;refine ⟨a,.dT kvs,(by rw [Zf rO];exact ha),rfl,?_⟩;refine ⟨_,rfl,.inr (.inr (.inl ⟨rfl,.inr ⟨kvs,(by rw [Zf rO];exact ha)⟩⟩)),a,.dT kvs,rfl,rfl,.inl (by rw [Zf rO];exact ha),rfl,fun r eG=>?_⟩;have EX:a≠r:=Zg (H:=upd H U (.dK [])) (by rw [Zf rO];exact ha) eG;have nUr:U≠r:=Zg (H:=upd H U (.dK [])) Zb eG;have Fc:H r=none:=by rw [Zf nUr.symm] at eG;exact eG
 refine ⟨r,a,.dT kvs,rfl,Zb,(by rw [Zf EX,Zf rO];exact ha),rfl,fun ob=>?_⟩
 refine ZrR (d:=a) (ob:=ob) (u:=.dT kvs) (fun i σ H'=>(∃ o3 o4,σ=[some (.int n),some (.ref a),some (.ref U),o3,o4])/\H' a=some (.bu ob (.dT kvs))/\(∃ uk,H' U=some (.dK uk)/\zO ((pl.take i).map (·.2)).flatten uk/\uk.length<=((pl.take i).map (·.2)).flatten.length)/\∀ b o,H b=some o->b≠a->H' b=some o)
  ⟨⟨none,none,rfl⟩,Zb,⟨[],(by rw [Zf rO.symm,Zf nUr];exact Zb),fun m=>rfl,Yv _⟩,fun b o e hb=>by rw [Zf hb,Zf (Zg e Fc),Zf (Zg e hU)];exact e⟩ (fun i σ H' _ h=>h.2.1) (fun i x σ H' hx h=>?_) (fun σ H' h=>?_)
 .obtain ⟨⟨o3,o4,rfl⟩,i3,⟨uk,uJ,nI,lJ⟩,kp⟩:=h;obtain ⟨p,hp,t,rfl,ht⟩:=ZvF hd hx;have nta:t≠a:=ZR ht ha (by intro z;cases z);have htU:t≠U:=Zg ht hU
  have br:((pl.take (i + 1)).map (·.2)).flatten.length<=100000:=by
   have e1:(pl.map (·.2)).flatten=((pl.take (i + 1)).map (·.2)).flatten++((pl.drop (i + 1)).map (·.2)).flatten:=by
    rw [<- XU,<- Yw,YbD]
   rw [e1,Yg] at dy;omega
  rw [Zue pl hp] at br ⊢;generalize ((pl.take i).map (·.2)).flatten=F at nI lJ br;refine ⟨_,rfl,t,rfl,⟨_,aF.of (kp _ _ ht nta)⟩,?_⟩
  refine Zub (xs:=p.2.map V.int) (fun j σ H'=>(∃ o4,σ=[some (.int n),some (.ref a),some (.ref U),some (.ref t),o4])/\H' a=some (.bu ob (.dT kvs))/\(∃ uk,H' U=some (.dK uk)/\zO (F++p.2.take j) uk/\uk.length<=F.length + j)/\∀ b o,H b=some o->b≠a->H' b=some o)
   ⟨⟨_,rfl⟩,i3,⟨uk,uJ,by rw [List.take_zero,Xf];exact nI,lJ⟩,kp⟩ (fun j σ H' _ h=>aF.of (h.2.2.2 _ _ ht nta)) (fun j y σ H' hy h=>?_) (fun σ H' h=>?_)
  .obtain ⟨⟨o4,rfl⟩,i3,⟨uk,uJ,nI,lJ⟩,kp⟩:=h;rw [Yo] at hy
   cases hm:p.2[j]? with
   | none=>rw [hm] at hy;cases hy
   | some m=>
    rw [hm] at hy
    cases hy
    have hj:j < p.2.length:=(List.getElem?_eq_some_iff.mp hm).1;rw [Yg] at br;refine ⟨_,rfl,_,rfl,U,_,rfl,d6.k (k:=.inl m) uJ ?_,?_⟩
    .have:(100001:Nat)<=Ym:=by decide
     omega
    .refine ⟨⟨_,rfl⟩,(by rw [Zf rO];exact i3),⟨_,Zb,?_,?_⟩,fun b o e hb=>?_⟩
     .rw [Xb hj,(List.getElem?_eq_some_iff.mp hm).2,<- List.append_assoc];exact nI.put m _
     .exact Yk (DM _ _ _) (by omega)
     .rw [Zf (Zg e hU)];exact kp _ _ e hb
  .obtain ⟨⟨o4,rfl⟩,i3,⟨uk,uJ,nI,lJ⟩,kp⟩:=h;rw [Yb] at nI lJ;rw [XE] at nI;exact ⟨⟨_,_,rfl⟩,i3,⟨uk,uJ,nI,by rw [Yg];exact lJ⟩,kp⟩
 .obtain ⟨⟨o3,o4,rfl⟩,i3,⟨uk,uJ,nI,lJ⟩,kp⟩:=h;have pL:(hR (.dT kvs)).length=pl.length:=by show (kvs.map (·.2)).length=_;rw [Yb,hd.len]
  rw [pL,XE] at nI;refine ⟨ob,.dT kvs,i3,rfl,?_⟩
  have sm:ag H (upd H' a (.dT kvs)):=fun b o e=>by
   by_cases z:b=a
   .subst z;rw [Zb,<- e,ha]
   .rw [Zf z];exact kp _ _ e z
  have hU2:(upd H' a (.dT kvs)) U=some (.dK uk):=by rw [Zf rO.symm];exact uJ
  refine ⟨_,rfl,2,n,rfl,⟨by omega,by omega,by omega,by omega⟩,fun D hD=>?_⟩;refine zZ (J:=ox 2 (n - 2).toNat) (n - 2).toNat (fun i=>(if (pl.map (·.2)).flatten.contains (2 + (i:Int)) then none else some (2 + (i:Int))).map V.int) (fun i x=>x=.int (2 + (i:Int))) hD (Zs (m:=256) (by omega) (by decide)) (fun i H3 hi _=>hi) (fun H3 _=>Ye _) (fun i H3 x H4 hi _ hy=>⟨hy.1,hy.2⟩) (fun i x H3 N hi hx s3 k=>?_) fun H3 s3 hH=>?_
  .subst hx;refine ⟨_,rfl,_,rfl,U,_,rfl,aI.k (s3 _ _ hU2) (k:=.inl (2 + (i:Int))),_,rfl,?_⟩;have hk:=k H3 (ag.refl _);rw [nI (2 + (i:Int))]
   cases hc:(pl.map (·.2)).flatten.contains (2 + (i:Int)) with
   | true=>
    rw [hc] at hk;exact av hk
   | false=>
    rw [hc] at hk;exact ax ⟨_,rfl,hk⟩
  .refine q D H3 (sm.trans s3) ?_;rw [hH];unfold qN;rw [List.map_filterMap]
end KS
namespace L2
open PySem PySem.Spec PyProof.Rows
section
variable {X:Cx} {pins:List (Addr×Obj)} {σ:St} {H H2:Hp} {s:Shared} {scope:Scope} {own fv:List Str} {ix:List Nat} {cl:List (Str×Addr)}
theorem ZwA {i₀:Nat} {jd:Str} {gA AN:Pos} {elt target iter:Expr} {ifs:List Expr} {pos:Pos} {wi:TI} {g:TG} {tt:TT} {te:TE} (hN:X.N.Nodup) (BR:X.N[i₀]?=some jd) (BM:Loc X.env.scope jd) (S:pZ X scope own fv ix) (hc:X.calm=true) (hi:PI X target iter wi)
  (hg:∀ cl fp C s H,PG (gn X scope cl (own++fv) fp C s H) target g) (ht:∀ cl fp C s H,Ek (gn X scope cl (own++fv) fp C s H) ifs tt) (he:∀ cl fp C s H,PE (gn X scope cl (own++fv) fp C s H) elt te)
  (hsw:swapsWith (.ListComp elt [⟨target,iter,ifs,0⟩] scope pos) (some (.Name jd gA)) AN.line X.env=pure true:=by rfl) (BS:X.fn jd=true∨X.env.scope.names.lookup jd=some .local:=by first | exact .inl rfl | exact .inr rfl | assumption)
  (hs:∀ x,foldedSetIterable iter X.env x=pure x:=by intro _;rfl):PS X (.Assign [.Name jd gA] (.ListComp elt [⟨target,iter,ifs,0⟩] scope pos) AN) (qX (ZxB wi own.length ix g tt te) (xq i₀)):=by
 try unfold PE at *;try unfold PS at *
 intro pins s σ H D I h;rw [exec_Assign_Name_used _ _ _ _ hsw];refine Ya (wpAny_standAt (Ya ?_));change wpAny _ X.A (do let _ <- comprehension (.ListComp elt [⟨target,iter,ifs,0⟩] scope pos) scope X.env _ (newList []) false (eval iter X.env) (some (assign (.Name jd gA) X.env))) _ _ s;refine Ya (Xd (Q:=fun _ s'=>SP X pins D .next s') ?_ (fun _ s' hq=>Yd (Yd hq)) fun _ _ e=>e);obtain ⟨cl,iG,cG,gw⟩:=IC (scope:=scope) (env:=X.env) (S.cells I.ok);refine wpAny_comprehension_free (use:=some (assign (.Name jd gA) X.env)) rfl hs iG S.kind S.names (aH (hi pins s σ H _ I h) fun v s1 h1=>aH h1 fun Cb s2 h2=>?_);obtain ⟨it,fp,tn,J,H2,e,I2,T,kO,f2,hW⟩:=h2;subst e
 have lh:∀ b∈fp,b < s2.heap.objs.size:=fun b hb=>by
  obtain ⟨o,e,_⟩:=T.obj _ _ kO b hb;exact Yj e
 obtain ⟨W,⟨m0,w0⟩,turn⟩:=hW s2.heap.objs.size I2.fresh;have I3:Inv X pins σ (upd H2 s2.heap.objs.size (.lst [])) {s2 with heap:=s2.heap.push {cls:=.type "list",data:=.seq ([]:List Value).toArray}}:=I2.oC (t':=s2.toks) (its:=[]) .nil (Yv _);refine YF ?_;generalize yX:({s2 with heap:=s2.heap.push {cls:=.type "list",data:=.seq ([]:List Value).toArray}}:Shared)=s3 at I3;have vU:s3.heap.objs.size=s2.heap.objs.size + 1:=by rw [<- yX];exact XN ..
 have Et:∀ b o,s2.heap.get? b=some o->s3.heap.get? b=some o:=fun b o e=>by rw [<- yX];exact Yc _ e
 refine YbF (fun y hy=>S.lC y hy) (by intro y hy;simp at hy) (fun h4 vX vV=>?_) S.kind;have oA:∀ b o,s3.heap.get? b=some o->h4.get? b=some o:=fun b o e=>vV.extBut b o (Yu (Yj e)) (Yc _ e);have oG:∀ b∈fp,b < s3.heap.objs.size:=fun b hb=>by rw [vU];exact Nat.lt_succ_of_lt (lh b hb)
 have I4:=Znk (t1:=s3.toks + ([]:List (Str×Value)).length) S I3 f2 oG cG gw vX oA;have yx:tn 0 h4:=T.keep _ _ _ kO fun b hb o e=>oA b o (Et b o e);have FJ:∀ b∈fp,(upd H2 s2.heap.objs.size (.lst [])) b=none:=fun b hb=>by rw [Zf (Yu (lh b hb))];exact (f2 b hb).1
 have gs:∀ {H':Hp},(∀ b∈fp,H' b=none)->∀ b∈fp,eQ (gn X scope cl (own++fv) fp s3.heap.objs.size s3 (upd H2 s2.heap.objs.size (.lst []))) [] H' b:=fun hn b hb=>
  ⟨hn b hb,Yu (oG b hb),(I4.ok.ia b hb),.inl hb,fun x c e=>(f2 b hb).2.2.2.2.1 x c (cG x c e).1,fun p hp=>(nomatch hp)⟩
 have loop:Yas (model X.prog X.w) X.A (.compLoop (.ListComp elt [⟨target,iter,ifs,0⟩] scope pos) 0 (.ref it) (.ref s2.heap.objs.size) (YaK scope cl s3.heap.objs.size X.env))
   (compPost (model X.prog X.w) X.A X.xe (some (assign (.Name jd gA) X.env)) (fun _ s'=>SP X pins D .next s') (.ref s2.heap.objs.size) s3.heap.objs.size) {s3 with heap:=h4,toks:=s3.toks + ([]:List (Str×Value)).length}:=by
  refine Zc5 (fun n s'=>∃ i aB ys H',Inv (gn X scope cl (own++fv) fp s3.heap.objs.size s3 (upd H2 s2.heap.objs.size (.lst []))) [] aB H' s'/\tn i s'.heap/\(∀ b∈fp,H' b=none)/\W i n aB ys H') ?_ m0 ⟨0,_,[],_,I4,yx,FJ,w0⟩
  rintro n s5 ⟨i,qf,ys,H5,I5,qj,uP,w5⟩
  obtain ⟨hD,next⟩:=turn i n qf ys H5 w5;rcases next with ⟨stop,q⟩ | ⟨go,E4,step⟩
  .refine aH (T.done (gn X scope cl (own++fv) fp s3.heap.objs.size s3 (upd H2 s2.heap.objs.size (.lst []))) rfl rfl rfl hc i [] s5 qf H5 (fun _ _=>False) I5 (gs uP) qj stop) fun r s6 ⟨hr,I6⟩=>?_;subst hr;obtain ⟨m6,Ci,_⟩:=id I6.loc;have J:Inv X pins σ H5 s6:=ZrZ I3 f2 I6 ⟨rfl,fun _ _=>rfl⟩;have F:=I3.jf (H':=H5) (Ye s3.heap.objs.size) I6.free;refine wpAny_assign_Name (Zo6 J hN BR BM (v:=.ref s2.heap.objs.size) (u:=.ref s2.heap.objs.size) rfl (fun s7 I7 ⟨a,sb,ha⟩=>?_) BS)
   have naC:s3.heap.objs.size≠a:=fun z=>by
    rcases ha with ha | ha
    .exact F.2.1 (z.trans ha)
    .exact F.2.2.2.2.1 _ _ ha z.symm
   exact ⟨m6,Ci.sameBut sb naC,fun h8 hs8=>⟨_,H5,I7.turned (t':=s7.toks) (fun b o hb e=>(hs8.2 b hb).trans e) F.1 F.2.1 F.2.2.2.1 F.2.2.2.2.1 F.2.2.2.2.2,q⟩⟩
  .refine aH (T.item (gn X scope cl (own++fv) fp s3.heap.objs.size s3 (upd H2 s2.heap.objs.size (.lst []))) rfl rfl rfl hc i [] s5 qf H5 (fun _ _=>False) I5 (gs uP) qj go) fun r s6 ⟨u,hr,h6⟩=>?_;subst hr;refine aH h6 fun _ s7 ⟨x,H7,I7,r7,y7,t_,FI⟩=>?_;have LM:=I7.pinned (gs FI) (T.obj _ _ t_);refine aH (hg _ _ _ _ _ _ s7 qf H7 x u _ LM r7 (step x H7 y7)) fun _ s8 ⟨kN,H8,I8,q8⟩=>?_;refine aH (ht _ _ _ _ _ _ s8 kN H8 _ I8 q8) fun b s9 ⟨H9,I9,q9⟩=>?_
   have again:∀ {jL:Shared} {jc:St} {jb:Hp} {qg:List V},Inv (gn X scope cl (own++fv) fp s3.heap.objs.size s3 (upd H2 s2.heap.objs.size (.lst []))) ([]++xG fp s7.heap) jc jb jL->(∃ m',m' < n/\W (i + 1) m' jc qg jb)->
     ∃ m,m < n/\∃ i aB ys H',Inv (gn X scope cl (own++fv) fp s3.heap.objs.size s3 (upd H2 s2.heap.objs.size (.lst []))) [] aB H' jL/\tn i jL.heap/\(∀ b∈fp,H' b=none)/\W i m aB ys H':=fun {jL jc jb qg} oy ⟨m',hm,Es⟩=>by
    refine ⟨m',hm,i + 1,jc,qg,jb,oy.cQ,T.keep _ _ _ t_ fun b hb o e=>(oy.pin (b,o) (YL _ (YL _ (yc hb e)))).1,fun b hb=>?_,Es⟩;obtain ⟨o,e,d⟩:=T.obj _ _ t_ b hb;exact (oy.pin (b,o) (YL _ (YL _ (yc hb e)))).2.1
   cases b with
   | false=>
    rw [if_neg (by decide)] at q9;rw [if_neg (by decide)];exact again I9 q9
   | true=>
    rw [if_pos rfl] at q9;rw [if_pos rfl];refine aH (he _ _ _ _ _ _ s9 kN H9 _ I9 q9) fun u9 jL ⟨v9,jb,oy,uf,wg,EN⟩=>?_;refine aH (qT (X:=gn X scope cl (own++fv) fp s3.heap.objs.size s3 (upd H2 s2.heap.objs.size (.lst []))) _ jL kN jb (.ref s2.heap.objs.size) [v9] (.ref s2.heap.objs.size) [u9] (fun _ yq=>yq=upd jb s2.heap.objs.size (.lst (ys++[v9]))) oy rfl (.cons uf .nil) ⟨_,ys,v9,rfl,rfl,wg,E4,rfl⟩) fun _ yA ⟨_,yq,LN,_,EM⟩=>?_;subst EM;exact again LN EN
 exact codeAny_compStart_list loop (T.self _ _ _ _ _ yx loop)
end
end L2
namespace L2
open PySem PySem.Spec PyProof.Rows PySem.W
section
variable {X:Cx} {o e:Expr} {es:List Expr} {to:TE} {t:TA} {name:Str} {apos aU:Pos} {T id:String} {r:V->List V->Hp->VK->Prop} {K:Frag}
theorem ZxL (hK:X.K=K) (pa:PlainAttrs T) (slot:Slot T name id) (yT:typeOf (.builtin id)=pure (.type "method_descriptor")) (hm:qe X id r) (ho:PE X o to) (ha:PA X (e::es) t)
  (j4:W2 o name X.env (eval o X.env)=eval o X.env:=by rfl)
  (wa:((Wi aU (Yx (e::es) X.env)).all (fun x=>!x.1) && (backToKw aU (YaW [] X.env)).all (fun x=>x.1.isSome) && decide ((e::es).length + ([]:List Keyword).length + (if ([]:List Keyword).isEmpty then 0 else 1) < 30))=true:=by rfl)
  (j0:(apos.endLine == aU.line)=true:=by rfl) (hs:Yx (e::es) X.env=(false,eval e X.env)::Yx es X.env:=by rfl) (gB:(Wi aU (Yx es X.env)).any (·.1)=false:=by rfl) :
  PE X (.Call (.Attribute o name apos) (e::es) [] aU) (tBM K T r to t):=by
 subst hK;exact lR pa slot yT hm ho ha j4 wa j0 hs gB
end
end L2
namespace KS
open PySem L2
variable {P:Program} {w:World} {K:Yf} {mg:Str->Option Value} {base:Heap} {g:Gs}
def vc (c:Nat):Nat:=(YX qF ⟨#[c]⟩ 0 qF.length 1).headD 0
def ow (t:Str):Row:=((List.range t.cps.size).map fun i=>(vc (t.cps.getD i 0):Int) + 1)++List.replicate (8 - t.cps.size) 0
def vw (p:Str×Int):Row:=ow p.1++[p.2]
def Ab (es:ao):Row:=((bC es).map vw).flatten
theorem DI {t:Str} (h:eD t=true):1<=t.cps.size/\t.cps.size<=8/\∀ i,i < t.cps.size->va (t.cps.getD i 0)=true:=by
 unfold eD at h
 split at h
 .cases h
 .rename_i hh
  have e:t.length=t.cps.size:=rfl;refine ⟨?_,?_,fun i hi=>?_⟩
  .rw [<- e];exact Nat.not_lt.mp fun z=>hh (.inl z)
  .rw [<- e];exact Nat.not_lt.mp fun z=>hh (.inr (.inl z))
  .exact List.all_eq_true.mp h i (List.mem_range.mpr hi)
theorem Km {t:Str} (h:t.cps.size<=8):(ow t).length=8:=by
 unfold ow;rw [Yg,Yb,Xv,YM];omega
theorem Zwu {c:Nat} (h:va c=true):∃ rest,YX qF ⟨#[c]⟩ 0 qF.length 1=vc c::rest:=by
 unfold va at h;unfold vc
 cases e:YX qF ⟨#[c]⟩ 0 qF.length 1 with
 | nil=>rw [e] at h;cases h
 | cons i r=>exact ⟨r,rfl⟩
inductive fm (vs:List V) (H:Hp) (Q:VK) (aL:XK):Prop
 | mk (t:_):vs=[.str t]->eD t=true->(∀ v H',ag H H'->Z1 H' (ow t) v->Q v H')->fm vs H Q aL
theorem Zhu:Zp ["name","codes"] ["name"] (Zi JN):=ZN (by decide +kernel)
theorem ZhQ (T:Tx K mg g):ah P w K mg base (ay P w) 1 g.IQ g.JI ["name"] fm:=by
 refine T.DT.aP Zhu fun vs H Q E h=>?_;obtain ⟨t,rfl,hb,q⟩:=h;refine ⟨rfl,fun _ _ _ _ hr=>?_⟩;obtain ⟨n1,n8,hsg⟩:=DI hb
 refine ⟨_,(Zd (ZwA (i₀:=1) Zhu.nd rfl (Or.inl rfl) (own:=["sign"]) (fv:=[]) (ix:=[]) (ot (sc:=Zi JN) (N:=["name","codes"]) rfl rfl (by decide +kernel)) rfl (ZvZ (pv 0)) (fun _ _ _ _ _=>Z9 (i:=0) (show (["sign"]:List Str).Nodup from by decide +kernel) rfl (Or.inl rfl) (Or.inr rfl)) (fun _ _ _ _ _=>xK) (fun _ _ _ _ _=>(Zy kJ (ZxL (K:=K) rfl Ybl PySem.F.slot_str_index PySem.F.type_str_index ZtM (ZJ (v:=.str "ABCDEFGHIJKLMNOPQRSTUVWXYZabcdefghijklmnopqrstuvwxyz0123456789._-") rfl T.Zj4 ⟨_,rfl⟩) (Za (pv 0) Ze)) Zl)))
  (Zh (Zt (Zy kK (ZT KJ rfl T.GD PyProof.Rows.Boot.«tuple» (Za (pv 1) Ze)) (Zy zQ (dH (Za Zl Ze)) (Zy u5 (ZJ (v:=.int 8) rfl T.ZgK ⟨_,rfl⟩) (ZD ZI (by rfl) T.eL YC (Za (pv 1) Ze)))))))),?_⟩
 refine ⟨_,rfl,_,rfl,fun D hD=>?_⟩;refine zZ (J:=Em t) t.cps.size (fun i=>some (V.int ((vc (t.cps.getD i 0):Int) + 1))) (fun i x=>i < t.cps.size/\x=.str ⟨#[t.cps.getD i 0]⟩) hD (Zs n8 (by decide)) (fun i H' hi _=>hi) (fun H' _=>rfl) (fun i H' x H2 hi _ hy=>?_) (fun i x H' N hi hx _ k=>?_) fun H' s' hH=>?_
 .obtain ⟨e,c,hc,e2⟩:=hy;refine ⟨e,hi,?_⟩;rw [e2,show t.cps.getD i 0=c by rw [YE,hc];rfl]
 .obtain ⟨hi,rfl⟩:=hx;obtain ⟨rest,ho⟩:=Zwu (hsg i hi);refine ax (B:=N none H') ?_;exact ⟨rfl,_,rfl,_,_,_,rest,rfl,rfl,ho,_,_,rfl,rfl,k _ (ag.refl _)⟩
 .have cG:((List.range t.cps.size).filterMap fun i=>some (V.int ((vc (t.cps.getD i 0):Int) + 1)))=((List.range t.cps.size).map fun i=>(vc (t.cps.getD i 0):Int) + 1).map V.int:=by
   rw [Ybn,XJ];rfl
  rw [cG] at hH;generalize zp:((List.range t.cps.size).map fun i=>(vc (t.cps.getD i 0):Int) + 1)=cs at hH;have oM:cs.length=t.cps.size:=by rw [<- zp,Yb,Xv]
  refine ⟨_,rfl,D,_,rfl,.inl ⟨aq.of hH,fun a ha=>?_⟩⟩;have s1:=Zj (o:=.tup (cs.map V.int)) ha;refine ⟨aX 1,fun b hb=>?_⟩;have s2:=Zj (o:=.tup [.int 0]) hb;refine ⟨_,rfl,D,_,rfl,.inl (aq.of (s2 _ _ (s1 _ _ hH))),_,_,rfl,rfl,b,_,_,rfl,rfl,Zb,by simp,?_,?_,?_,fun c H2 s3 hc=>?_⟩
  .rw [Yb,oM];omega
  .rw [Yb,oM];omega
  .rw [Yb,oM];show 1 * _<=_;exact Zs (m:=8) (by omega) (by decide)
  rw [xY] at hc;have e8:((8:Int) - ((cs.map V.int).length:Int)).toNat=8 - t.cps.size:=by rw [Yb,oM];omega
  rw [e8] at hc;refine ⟨a,c,_,_,rfl,rfl,aF.of (s3 _ _ (s2 _ _ Zb)),aF.of hc,fun _=>hc,fun _ _=>s3 _ _ (s2 _ _ Zb),?_,fun d H3 s4 hd=>?_⟩
  .rw [Yb,YM,oM];exact Zs (m:=8) (by omega) (by decide)
  refine q _ H3 (s'.trans (s1.trans (s2.trans (s3.trans s4)))) ⟨d,rfl,?_⟩;rw [hd];unfold ow;rw [zp,Yw,Wy]
theorem HU (es:ao):∀ p∈bC es,p∈es:=by
 intro p hp;unfold bC at hp
 split at hp
 .exact hp
 .rename_i h2
  obtain ⟨i,hi,rfl⟩:=List.mem_map.mp hp;have low:=tw (fun i j=>mE (es.getD i (Str.empty,0)) (es.getD j (Str.empty,0))) (vx (n:=es.length) (by omega));have lK:i < es.length:=low.lt i (by simpa using hi);rw [Ys,Yh lK];exact Ybe lK
theorem Zuf {α β:Type} (f:α->List β) (xs:List α) {i:Nat} {p:α} (h:xs[i]?=some p):((xs.take (i + 1)).map f).flatten=((xs.take i).map f).flatten++f p:=by
 have hi:i < xs.length:=(List.getElem?_eq_some_iff.mp h).1;rw [Xb hi,Yw,XU,(List.getElem?_eq_some_iff.mp h).2]
 simp
def nz (es:ao):Prop:=∀ p∈es,eD p.1=true
theorem G_ (es:ao) (h:nz es):∀ l:ao,(∀ p∈l,p∈es)->((l.map vw).flatten).length=9 * l.length
 | [],_=>rfl
 | p::l,hl=>by
  rw [Yt,Xh,Yg,G_ es h l fun q hq=>hl q (Yr _ hq),Yz];unfold vw;rw [Yg,Km (DI (h p (hl p YA))).2.1];show 8 + 1 + _=_;omega
inductive kj (vs:List V) (H:Hp) (Q:VK) (aL:XK):Prop
 | mk (v:_) (es:_):vs=[v]->gY H es v->es.length < 64->nz es->(∀ u H',ag H H'->Z1 H' (Ab es) u->Q u H')->kj vs H Q aL
theorem Am:Zp ["entries","row","name","number"] ["entries"] (Zi ZhD):=ZN (by decide +kernel)
theorem Zmo (T:Tx K mg g):ah P w K mg base (ay P w) 2 g.Jz g.KP ["entries"] kj:=by
 refine T.Ky.aP Am fun vs H Q E h=>?_;obtain ⟨v,es,rfl,⟨a,rfl,ha⟩,hz,iZ,q⟩:=h;refine ⟨rfl,fun _ _ _ _ hr=>?_⟩
 refine ⟨_,(Zd (Zz (i:=1) Am.nd rfl (Or.inl rfl) (dH Ze))
  (Zd (jS Y2 rfl (sN (ZD Zj7 (by rfl) T.vv PyProof.Rows.Boot.«sorted» (Za (xF YW Yba Ya9 Hn (pv 0)) Ze))) (zK rfl (qa (Z9 (i:=2) Am.nd rfl (Or.inl rfl)) (qa (Z9 (i:=3) Am.nd rfl (Or.inl rfl)) zR))) (Zh (Zz (i:=1) Am.nd rfl (Or.inl rfl) (Zy kK (Zy kK (pv 1) (Zn (ZhQ T) hr.dn rfl T.ZjV T.DT.kp T.eh .nil Zc (Za (pv 2) Ze))) (dH (Za (pv 3) Ze))))))
  (Zh (Zt (pv 1))))),?_⟩
 refine ⟨Yv _,fun r eG=>?_⟩;have s1:=Zj (o:=.tup []) eG;refine ⟨_,rfl,.inr (.inr (.inl ⟨rfl,.inl ⟨_,s1 _ _ ha⟩⟩)),a,_,rfl,rfl,.inl (s1 _ _ ha),rfl,fun p hp=>?_⟩;have s2:=Zj (o:=xp p a) hp;refine ⟨p,a,es,rfl,Zb,.inl (s2 _ _ (s1 _ _ ha)),hz,fun l as H1 s3 hl eB hlen hle bP=>?_⟩;have sA:=s1.trans (s2.trans s3);refine ⟨l,rfl,⟨_,aq.of eB⟩,?_⟩;have uw:(bC es).length<=64:=by rw [<- hlen];omega
 refine xV (xs:=as.map V.ref) (fun i σ H'=>∃ t o2 o3,σ=[some (.ref a),some (.ref t),o2,o3]/\ag H1 H'/\H' t=some (.tup ((((bC es).take i).map vw).flatten.map V.int))) ⟨r,none,none,rfl,ag.refl _,s3 _ _ (s2 _ _ Zb)⟩ (fun i σ H' _ h=>?_) (fun i x σ H' hx h=>?_) (fun σ H' h=>?_)
 .obtain ⟨t,o2,o3,rfl,sm,ht⟩:=h;exact aq.of (sm _ _ eB)
 .obtain ⟨t,o2,o3,rfl,sm,ht⟩:=h;rw [Yo] at hx
  cases hb:as[i]? with
  | none=>rw [hb] at hx;cases hx
  | some b=>
   rw [hb] at hx
   cases hx
   have hi:i < (bC es).length:=by rw [<- hlen];exact (List.getElem?_eq_some_iff.mp hb).1
   obtain ⟨pr,uy⟩:∃ pr,(bC es)[i]?=some pr:=⟨_,Yh hi⟩
   have Cr:=sm _ _ (bP i b pr hb uy);have mM:pr∈es:=HU es pr (Yy uy);have dy:=G_ es iZ ((bC es).take i) fun q hq=>HU es q (List.mem_of_mem_take hq);have uu:((bC es).take i).length<=64:=by rw [Y0];omega
   rw [Zuf vw _ uy];generalize (((bC es).take i).map vw).flatten=F at ht dy;refine ⟨b,_,rfl,aF.of Cr,rfl,_,_,rfl,_,_,rfl,rfl,?_⟩;refine ⟨_,rfl,_,rfl,pr.1,rfl,iZ pr mM,fun u H2 s4 ⟨c,e,hc⟩=>?_⟩;subst e;have nL:(ow pr.1).length=8:=Km (DI (iZ pr mM)).2.1;refine ⟨t,c,_,_,rfl,rfl,aF.of (s4 _ _ ht),aF.of hc,fun _=>hc,fun _ _=>s4 _ _ ht,?_,fun d H3 s5 hd=>?_⟩
   .rw [Yb,Yb,nL,dy];exact Zs (m:=1000) (by omega) (by decide)
   refine ⟨_,rfl,aX 1,fun e he=>?_⟩;have s6:=Zj (o:=.tup [.int pr.2]) he;refine ⟨d,e,_,_,rfl,rfl,aF.of (s6 _ _ hd),aF.of Zb,fun _=>Zb,(fun h=>nomatch h),?_,fun f H4 s7 hf=>?_⟩
   .rw [Yg,Yb,Yb,nL,dy];exact Zs (m:=1000) (by show 9 * _ + 8 + 1<=1000;omega) (by decide)
   refine ⟨f,_,_,rfl,sm.trans (s4.trans (s5.trans (s6.trans s7))),?_⟩;rw [hf];unfold vw;rw [Yw,Yw,List.append_assoc];rfl
 .obtain ⟨t,o2,o3,rfl,sm,ht⟩:=h;rw [Yb,hlen,XE] at ht;exact ⟨_,rfl,q _ _ (sA.trans sm) ⟨t,rfl,ht⟩⟩
structure fK where
 free:List Int
 bA:g4
 places:g4
def jG (f o p:V):List (Str×V):=au "places" p (au "older" o (au "free" f []))
theorem cf1:¬ (("free":Str)="places"):=by decide +kernel
theorem cf2:¬ (("free":Str)="older"):=by decide +kernel
theorem cf3:¬ (("older":Str)="places"):=by decide +kernel
theorem F8 (f o p:V):(jG f o p).lookup ("free":Str)=some f:=by unfold jG;rw [Zo,if_neg cf1,Zo,if_neg cf2,Zo,if_pos rfl]
theorem Zyl (f o p:V):(jG f o p).lookup ("older":Str)=some o:=by unfold jG;rw [Zo,if_neg cf3,Zo,if_pos rfl]
theorem zD (f o p:V):(jG f o p).lookup ("places":Str)=some p:=by unfold jG;rw [Zo,if_pos rfl]
theorem Gp (f o p:V) {m:Str} (h1:¬ m="places") (h2:¬ m="older") (h3:¬ m="free"):(jG f o p).lookup m=none:=by
 unfold jG;rw [Zo,if_neg h1,Zo,if_neg h2,Zo,if_neg h3];rfl
theorem Gn (f o p:V):jG f o p=([("free",f),("older",o),("places",p)]:List (Str×V)):=by
 have e1:au "older" o [(("free":Str),f)]=([("free",f),("older",o)]:List (Str×V)):=by
  show (if ("free":Str)="older" then [(("free":Str),o)] else (("free":Str),f)::au "older" o [])=_;rw [if_neg cf2];rfl
 have e2:au "places" p [(("free":Str),f),(("older":Str),o)]=([("free",f),("older",o),("places",p)]:List (Str×V)):=by
  show (if ("free":Str)="places" then (("free":Str),p)::[(("older":Str),o)] else (("free":Str),f)::(if ("older":Str)="places" then [(("older":Str),p)] else (("older":Str),o)::au "places" p []))=_;rw [if_neg cf1,if_neg cf3];rfl
 show au "places" p (au "older" o [(("free":Str),f)])=_;rw [e1,e2]
theorem Zw9 (f o p f':V):au "free" f' (jG f o p)=jG f' o p:=by
 rw [Gn,Gn];show (if ("free":Str)="free" then (("free":Str),f')::[(("older":Str),o),(("places":Str),p)] else _)=_;rw [if_pos rfl]
structure Zy5 (g:Gs) (H:Hp) (c pl:Addr) (C:fK) (dx f o:Addr) (ko kp:List (List Key×V)):Prop where
 ob:H c=some (.ins g.aQ dx (jG (.ref f) (.ref o) (.ref pl)))
 hf:H f=some (.lst (C.free.map V.int))
 ho:H o=some (.dT ko)
 hp:H pl=some (.dT kp)
 ro:Z8 rKey Z1 H C.bA ko
 rp:Z8 rKey Z1 H C.places kp
 ne:o≠pl
def lO (g:Gs) (H:Hp) (c pl:Addr) (C:fK):Prop:=∃ dx f o ko kp,Zy5 g H c pl C dx f o ko kp
theorem lO.same {g:Gs} {H H':Hp} {c pl:Addr} {C:fK} (s:ag H H'):lO g H c pl C->lO g H' c pl C
 | ⟨dx,f,o,ko,kp,h⟩=>⟨dx,f,o,ko,kp,s _ _ h.ob,s _ _ h.hf,s _ _ h.ho,s _ _ h.hp,h.ro.same Z1.mono s,h.rp.same Z1.mono s,h.ne⟩
def aR (a b:Addr) (H H':Hp):Prop:=∀ d o,H d=some o->d≠a->d≠b->H' d=some o
theorem aR.refl {a b:Addr} {H:Hp}:aR a b H H:=fun _ _ e _ _=>e
theorem aR.of {a b:Addr} {H H':Hp} (s:ag H H'):aR a b H H':=fun _ _ e _ _=>s _ _ e
theorem aR.trans {a b:Addr} {H H' AH:Hp} (s:aR a b H H') (t:aR a b H' AH):aR a b H AH:=fun d o e h1 h2=>t _ _ (s _ _ e h1 h2) h1 h2
theorem aR.xn {c pl:Addr} {H0 H H':Hp} (s0:ag H0 H) (h1:H0 c=none) (h2:H0 pl=none) (s:aR c pl H H'):ag H0 H':=fun d o e=>s _ _ (s0 _ _ e) (Zg e h1) (Zg e h2)
structure uT (C:fK):Prop where
 o:∀ p∈C.bA,p.2≠[]
 p:∀ p∈C.places,p.2≠[]
def xo (C:fK) (n:Nat):Except Rf (Row×fK):=if C.free.length < n then .error .noRoom else .ok (C.free.take n,{C with free:=C.free.drop n})
def gu (C:fK) (row:Row):Except Rf (Int×fK):=if row=[] then .ok (0,C) else match aa C.places row with
 | some ns=>.ok (ns.headD 0,C)
 | none=>match aa C.bA row with
  | some ns=>.ok (ns.headD 0,{C with places:=af C.places row ns})
  | none=>match xo C ((row.length + 62) / 63) with
   | .error r=>.error r
   | .ok (ns,C')=>.ok (ns.headD 0,{C' with places:=af C'.places row ns})
theorem Zqa (xs:List Int) (n:Nat):bD (xs.map V.int) none (some (n:Int))=(xs.take n).map V.int:=by
 unfold bD;rw [HT.gF,HT.cx,YaI,Nat.sub_zero,<- Yap,Yb]
 congr 1
 rcases Yaf n xs.length with h | h
 .rw [WD h]
 .rw [X2 h,XE,YS h]
theorem Zqb (xs:List Int) (n:Nat):bD (xs.map V.int) (some (n:Int)) none=(xs.drop n).map V.int:=by
 unfold bD;rw [HT.gF,HT.cx,Yb,<- List.map_drop,<- Yap]
 congr 1
 rcases Yaf n xs.length with h | h
 .rw [WD h,YS (by rw [YU];exact Ye _)]
 .rw [X2 h,Wq,Yab h,Ya5]
inductive iS (g:Gs) (vs:List V) (H:Hp) (Q:VK) (aL:XK):Prop
 | mk (c:_) (dx:_) (f:_) (o:_):vs=[.ref c,f,o]->H c=some (.ins g.aQ dx [])->(∀ pl H',H pl=none->(∀ b u,H b=some u->b≠c->H' b=some u)->H' c=some (.ins g.aQ dx (jG f o (.ref pl)))->H' pl=some (.dT [])->Q .aK H')->iS g vs H Q aL
theorem Zml:Zp ["self","free","older"] ["self","free","older"] (Zi ZhM):=ZN (by decide +kernel)
theorem Zmt (T:Tx K mg g):ah P w K mg base (ay P w) 1 g.Je g.Ku ["self","free","older"] (iS g):=by
 refine T.Zio.aP Zml fun vs H Q E h=>?_;obtain ⟨c,dx,f,o,rfl,hc,q⟩:=h;refine ⟨rfl,fun _ _ _ _ hr=>?_⟩
 refine ⟨_,(Zd (fW (pv 0) (pv 1) rfl)
  (Zd (fW (pv 0) (pv 2) rfl)
  (Zh (fW (pv 0) Zrx rfl)))),?_⟩
 refine ⟨_,rfl,_,rfl,c,g.aQ,dx,[],rfl,hc,T.jT,T.Ap,(by show 0 < 1000;decide),?_⟩;refine ⟨_,rfl,_,rfl,c,g.aQ,dx,_,rfl,Zb,T.jT,T.K_,(by show 1 < 1000;decide),?_⟩;refine fun pl cK=>?_;have B9:c≠pl:=Zg Zb cK;have Be:H pl=none:=by rw [Zf B9.symm,Zf B9.symm] at cK;exact cK
 refine ⟨_,rfl,c,g.aQ,dx,_,rfl,(by rw [Zf B9];exact Zb),T.jT,T.yo,(by show 2 < 1000;decide),?_⟩;refine q pl _ Be (fun b u e hb=>?_) Zb ?_
 .rw [Zf hb,Zf (Zg e Be),Zf hb,Zf hb];exact e
 .rw [Zf B9.symm];exact Zb
def wt {α:Type} (g:Gs) (R:Hp->α->V->Prop) (H:Hp) (c pl:Addr) (m:Except Rf (α×fK)) (Q:VK) (E:XK):Prop:=match m with
 | .ok (x,C)=>∀ v H',aR c pl H H'->lO g H' c pl C->R H' x v->Q v H'
 | .error r=>∀ H',aR c pl H H'->E (.ref (g.xa r)) none H'
inductive pf (g:Gs) (vs:List V) (H:Hp) (Q:VK) (E:XK):Prop
 | mk (c:_) (pl:_) (C:_) (n:Nat):vs=[.ref c,.int n]->lO g H c pl C->C.free.length<=1000->wt g Z1 H c pl (xo C n) Q E->pf g vs H Q E
theorem Zgx:Zp ["self","many","taken"] ["self","many"] (Zi ZhL):=ZN (by decide +kernel)
theorem Zms (T:Tx K mg g):ah P w K mg base (ay P w) 1 g.Jf g.Kv ["self","many"] (pf g):=by
 refine T.Zin.aP Zgx fun vs H Q E h=>?_;obtain ⟨c,pl,C,n,rfl,⟨dx,f,o,ko,kp,hC⟩,hz,q⟩:=h;refine ⟨rfl,fun _ _ _ _ hr=>?_⟩
 refine ⟨_,(Zd (Z0 (ZG uY (pv 1) (ZD ZI (by rfl) T.eL YC (Za (Zv (pv 0) rfl) Ze)) (ZO _)) (Zh (Z2 T.ZuL rfl T.ZrH (Za Zr Ze))) Zx)
  (Zd (Zz (i:=2) Zgx.nd rfl (Or.inl rfl) (p_ GC (Zv (pv 0) rfl) sO (nA (pv 1))))
  (Zd (fW (pv 0) (p_ GC (Zv (pv 0) rfl) (nA (pv 1)) sO) rfl)
  (Zh (Zt (ZT KJ rfl T.GD PyProof.Rows.Boot.«tuple» (Za (pv 2) Ze))))))),?_⟩
 refine ⟨_,rfl,_,rfl,c,_,dx,_,_,rfl,hC.ob,T.jT,T.Ap,F8 _ _ _,f,_,rfl,.inl (aq.of hC.hf),_,_,rfl,rfl,_,rfl,?_⟩;rw [Yb];unfold xo at q
 by_cases h1:C.free.length < n
 .rw [if_pos h1] at q;rw [decide_eq_true (show (C.free.length:Int) < (n:Int) by omega)];exact ax ⟨aX 1,q _ aR.refl⟩
 .rw [if_neg h1] at q;rw [decide_eq_false (show ¬ (C.free.length:Int) < (n:Int) by omega)];refine av ?_;refine ⟨_,rfl,c,_,dx,_,_,rfl,hC.ob,T.jT,T.Ap,F8 _ _ _,_,rfl,_,rfl,f,_,rfl,aq.of hC.hf,fun a ha=>?_⟩;rw [Zqa] at *;have s1:=Zj (o:=.lst ((C.free.take n).map V.int)) ha;refine ⟨_,rfl,c,_,dx,_,_,rfl,s1 _ _ hC.ob,T.jT,T.Ap,F8 _ _ _,_,rfl,_,rfl,f,_,rfl,aq.of (s1 _ _ hC.hf),fun b hb=>?_⟩;rw [Zqb] at *;have s2:=Zj (o:=.lst ((C.free.drop n).map V.int)) hb;have sA:=s1.trans s2;have ncb:c≠b:=Zg (s1 _ _ hC.ob) hb;have nca:c≠a:=Zg hC.ob ha;refine ⟨_,rfl,c,_,dx,_,rfl,sA _ _ hC.ob,T.jT,T.Ap,(by rw [Gn];show 3 < 1000;decide),?_⟩;rw [Zw9];refine ⟨_,rfl,a,_,rfl,.inl ⟨aq.of (by rw [Zf nca.symm];exact s2 _ _ Zb),fun d hd=>?_⟩⟩
  have jM:∀ x u,H x=some u->x≠c->(upd (upd (upd (upd H a (.lst ((C.free.take n).map V.int))) b (.lst ((C.free.drop n).map V.int))) c (.ins g.aQ dx (jG (.ref b) (.ref o) (.ref pl)))) d (.tup ((C.free.take n).map V.int))) x=some u:=fun x u e hx=>by
   have h1:(upd (upd (upd H a (.lst ((C.free.take n).map V.int))) b (.lst ((C.free.drop n).map V.int))) c (.ins g.aQ dx (jG (.ref b) (.ref o) (.ref pl)))) x=some u:=by rw [Zf hx];exact sA _ _ e
   exact Zj hd _ _ h1
  have noc:o≠c:=ZR hC.ho hC.ob (by intro z;cases z);have wL:pl≠c:=ZR hC.hp hC.ob (by intro z;cases z);have ncd:c≠d:=Zg (H:=upd (upd (upd H a (.lst ((C.free.take n).map V.int))) b (.lst ((C.free.drop n).map V.int))) c (.ins g.aQ dx (jG (.ref b) (.ref o) (.ref pl)))) Zb hd;have nbd:b≠d:=Zg (H:=upd (upd (upd H a (.lst ((C.free.take n).map V.int))) b (.lst ((C.free.drop n).map V.int))) c (.ins g.aQ dx (jG (.ref b) (.ref o) (.ref pl)))) (by rw [Zf ncb.symm];exact Zb) hd
  have rows:∀ {xs:g4} {kv:List (List Key×V)},Z8 rKey Z1 H xs kv->Z8 rKey Z1 (upd (upd (upd (upd H a (.lst ((C.free.take n).map V.int))) b (.lst ((C.free.drop n).map V.int))) c (.ins g.aQ dx (jG (.ref b) (.ref o) (.ref pl)))) d (.tup ((C.free.take n).map V.int))) xs kv:=by
   intro xs kv hh;unfold Z8 at *
   induction hh with
   | nil=>exact .nil
   | cons a1 _ ih=>
    obtain ⟨e1,t,e2,ht⟩:=a1;exact .cons ⟨e1,t,e2,jM _ _ ht (ZR ht hC.ob (by intro z;cases z))⟩ ih
  refine q _ _ (fun x u e h1 _=>jM x u e h1) ⟨dx,b,o,ko,kp,?_,?_,jM _ _ hC.ho noc,jM _ _ hC.hp wL,rows hC.ro,rows hC.rp,hC.ne⟩ ⟨d,rfl,Zb⟩
  .rw [Zf ncd];exact Zb
  .rw [Zf nbd,Zf ncb.symm];exact Zb
theorem zN {H:Hp} {a t:Addr} {kvs:List (List Key×V)} {row:Row} (e:H a=some (.dT kvs)) (ht:H t=some (.tup (row.map V.int))):aI H a (.ref t) (aW kvs (rKey row)):=aI.t e (by rw [zS];exact ht)
theorem Zr3 {ns:Row} (h:ns≠[]):fS (ns.map V.int) 0=some (.int (ns.headD 0)):=by
 cases ns with
 | nil=>exact absurd rfl h
 | cons n r=>exact sH (by decide) rfl
theorem vo {κ α:Type} [DecidableEq κ] {k:κ} {x:α}:∀ {xs:List (κ×α)},aa xs k=some x->(k,x)∈xs
 | p::r,h=>by
  by_cases z:p.1=k
  .rw [gj z] at h
   cases h
   rw [<- z];exact YA
  .rw [ZZ z] at h;exact Yr _ (vo h)
theorem len0 (row:Row):decide (V.int ((row.map V.int).length:Int)=V.int 0)=decide (row=[]):=by
 rw [Yb]
 cases row with
 | nil=>rfl
 | cons a r=>
  rw [decide_eq_false (by intro z;injection z with z;rw [Yz] at z;omega),decide_eq_false (by intro z;cases z)]
inductive oQ (g:Gs) (vs:List V) (H:Hp) (Q:VK) (E:XK):Prop
 | mk (c:_) (pl:_) (C:_) (row:_) (v:_):vs=[.ref c,v]->Z1 H row v->lO g H c pl C->uT C->C.free.length<=1000->C.places.length<=1000->row.length<=100000->wt g Zyu H c pl (gu C row) Q E->oQ g vs H Q E
theorem ZnT:Zp ["self","row"] ["self","row"] (Zi ZjP):=ZN (by decide +kernel)
theorem ZhV (T:Tx K mg g):ah P w K mg base (ay P w) 2 g.Ia g.Kb ["self","row"] (oQ g):=by
 refine T.Zkl.aP ZnT fun vs H Q E h=>?_;obtain ⟨c,pl,C,row,v,rfl,⟨t,rfl,ht⟩,zx,ok,rR,yQ,hz3,q⟩:=h;refine ⟨rfl,fun _ _ _ _ hr=>?_⟩;obtain ⟨dx,f,o,ko,kp,hC⟩:=id zx;have hu:=u1 hr.units
 refine ⟨_,(Zd (Z0 (ZG fU (ZD ZI (by rfl) T.eL YC (Za (pv 1) Ze)) Zl (ZO _)) (Zh (Zt (ZJ (v:=.int 0) rfl T.Zng ⟨_,rfl⟩))) Zx)
  (Zd (Z0 (i_ (x9 hu (pv 1) (Zv (pv 0) rfl))) (Zh (vg hu (Zv (pv 0) rfl) (pv 1) (Zru (i_ (nj hu (pv 1) (Zv (pv 0) rfl))) (kL hu (Zv (pv 0) rfl) (pv 1) (fun _ _=>rfl)) (ZP (pv 0) T.jT T.Zou (Zms T) hr.dn T.iq .nil Zc (Za (Zn (Zn3 T) hr.dn rfl T.ZpG T.Kg.kp T.jt .nil Zc (Za (ZD ZI (by rfl) T.eL YC (Za (pv 1) Ze)) Ze)) Ze))) rfl)) Zx)
  (Zh (Zt (bw jI (kL hu (Zv (pv 0) rfl) (pv 1) (fun _ _=>rfl)) Zl (fun _ _=>rfl)))))),?_⟩
 refine ⟨_,rfl,t,_,rfl,.inr (aF.of ht),rfl,_,rfl,?_⟩;rw [len0];unfold gu at q
 by_cases h0:row=[]
 .rw [if_pos h0] at q;rw [decide_eq_true h0];exact ax (q _ _ aR.refl zx rfl)
 .rw [if_neg h0] at q;rw [decide_eq_false h0];refine av ?_;refine ⟨_,rfl,_,rfl,c,_,dx,_,_,rfl,hC.ob,T.jT,T.yo,zD _ _ _,pl,_,rfl,zN hC.hp ht,_,rfl,?_⟩;have ntc:t≠c:=ZR ht hC.ob (by intro z;cases z);have ntp:t≠pl:=ZR ht hC.hp (by intro z;cases z)
  -- g6 end: what Nb at g6 row is told
  cases hg:aa C.places row with
  | some ns=>
   rw [hg] at q;obtain ⟨v,hv,⟨t2,rfl,dY⟩⟩:=hC.rp.yes xX hg;rw [hv];refine av ?_;refine ⟨_,rfl,c,_,dx,_,_,rfl,hC.ob,T.jT,T.yo,zD _ _ _,_,rfl,pl,_,rfl,(by have:=zN hC.hp ht;rw [hv] at this;exact this),t2,_,_,_,rfl,rfl,aF.of dY,Zr3 (ok.p _ (vo hg)),?_⟩;exact q _ _ aR.refl zx rfl
  | none=>
   rw [hg] at q;dsimp only at q;rw [hC.rp.no xX hg];refine ax ?_
   -- En ns,and telling its first
   have fin:∀ (C':fK) (ns:Row) (H1:Hp) (u:V),aR c pl H H1->lO g H1 c pl C'->C'.places=C.places->Z1 H1 ns u->ns≠[]->(∀ v H',aR c pl H H'->lO g H' c pl {C' with places:=af C'.places row ns}->v=.int (ns.headD 0)->Q v H')->
     ∃ a C0 FX zz v0,V.ref c=.ref a/\H1 a=some (.ins C0 FX zz)/\Cls K C0/\fi K C0 "places"/\zz.lookup ("places":Str)=some v0/\∃ a2 H4,v0=.ref a2/\d6 H1 a2 (.ref t) u H4/\
      ∃ a C0 FX zz v0,V.ref c=.ref a/\H4 a=some (.ins C0 FX zz)/\Cls K C0/\fi K C0 "places"/\zz.lookup ("places":Str)=some v0/\∃ a3 v3,v0=.ref a3/\aI H4 a3 (.ref t) (some v3)/\∃ p xs i z,v3=.ref p/\V.int 0=.int i/\aF K H4 p xs/\fS xs i=some z/\Q z H4:=by
    intro C' ns H1 u b1 zy ep rS bZ qq;obtain ⟨i8,f1,o1,ko1,jM,h1⟩:=id zy;obtain ⟨t2,rfl,dY⟩:=rS;have mv:H1 t=some (.tup (row.map V.int)):=b1 _ _ ht ntc ntp;have mz:aa C'.places row=none:=by rw [ep];exact hg
    have wL:c≠pl:=ZR h1.ob h1.hp (by intro z;cases z);have nt2:t2≠pl:=ZR dY h1.hp (by intro z;cases z);have nfp:f1≠pl:=ZR h1.hf h1.hp (by intro z;cases z);have k4:aR c pl H1 (upd H1 pl (.dT (putK jM (rKey row) (.ref t2)))):=fun d o e _ h2=>by rw [Zf h2];exact e
    have rows:∀ {xs:g4} {kv:List (List Key×V)},Z8 rKey Z1 H1 xs kv->Z8 rKey Z1 (upd H1 pl (.dT (putK jM (rKey row) (.ref t2)))) xs kv:=by
     intro xs kv hh;unfold Z8 at *
     induction hh with
     | nil=>exact .nil
     | cons a1 _ ih=>
      obtain ⟨e1,t',e2,Ce⟩:=a1;exact .cons ⟨e1,t',e2,by rw [Zf (ZR Ce h1.hp (by intro z;cases z))];exact Ce⟩ ih
    have Cv:lO g (upd H1 pl (.dT (putK jM (rKey row) (.ref t2)))) c pl {C' with places:=af C'.places row ns}:=⟨i8,f1,o1,ko1,_,by rw [Zf wL];exact h1.ob,by rw [Zf nfp];exact h1.hf,by rw [Zf h1.ne];exact h1.ho,Zb,rows h1.ro,(rows h1.rp).put xX ⟨t2,rfl,by rw [Zf nt2];exact dY⟩,h1.ne⟩
    refine ⟨c,_,i8,_,_,rfl,h1.ob,T.jT,T.yo,zD _ _ _,pl,_,rfl,d6.t (k:=rKey row) h1.hp (by rw [zS];exact mv) (lt_size (by rw [h1.rp.len,ep];omega)),?_⟩
    refine ⟨c,_,i8,_,_,rfl,(by rw [Zf wL];exact h1.ob),T.jT,T.yo,zD _ _ _,pl,.ref t2,rfl,(by
     have:=zN (H:=upd H1 pl (.dT (putK jM (rKey row) (.ref t2)))) (a:=pl) (t:=t) (row:=row) Zb (by rw [Zf ntp];exact mv)
     rw [Hd,if_pos rfl] at this;exact this),t2,_,_,_,rfl,rfl,aF.of (by rw [Zf nt2];exact dY),Zr3 bZ,?_⟩
    exact qq _ _ (b1.trans k4) Cv rfl
   refine ⟨_,rfl,_,rfl,c,_,dx,_,_,rfl,hC.ob,T.jT,T.K_,Zyl _ _ _,o,_,rfl,zN hC.ho ht,_,rfl,?_⟩
   cases ze:aa C.bA row with
   | some ns=>
    rw [ze] at q;obtain ⟨v,hv,Fd⟩:=hC.ro.yes xX ze;rw [hv];refine ax ?_;refine ⟨_,rfl,c,_,dx,_,_,rfl,hC.ob,T.jT,T.K_,Zyl _ _ _,_,rfl,o,v,rfl,(by have:=zN hC.ho ht;rw [hv] at this;exact this),?_⟩;obtain ⟨a1,C1,i8,FG,v1,e1,e2,e3,e4,e5,a2,H4,e6,e7,a3,C3,nU,FF,v3,e8,e9,FU,FT,FR,r1,r2,r3,r4,r5,r6,r7,r8,r9,uf,EL,EK,EJ⟩:=fin C ns H v aR.refl zx rfl Fd (ok.o _ (vo ze)) (fun v H' b h e=>q v H' b h e);refine ⟨_,rfl,a1,C1,i8,FG,v1,e1,e2,e3,e4,e5,_,rfl,a2,H4,e6,e7,_,rfl,a3,C3,nU,FF,v3,e8,e9,FU,FT,FR,_,rfl,r1,r2,r3,r4,r5,r6,r7,r8,r9,uf,EL,EK,EJ⟩
   | none=>
    rw [ze] at q;dsimp only at q;rw [hC.ro.no xX ze];refine av ?_;refine ⟨_,rfl,c,dx,_,rfl,hC.ob,Gp _ _ _ (by decide +kernel) (by decide +kernel) (by decide +kernel),_,rfl,t,_,rfl,.inr (aF.of ht),_,rfl,?_⟩;have uH:((((row.map V.int).length:Nat):Int) + 62) / 63=(((row.length + 62) / 63:Nat):Int):=by rw [Yb];omega
    rw [uH];refine ⟨c,pl,C,_,rfl,zx,rR,?_⟩
    cases kE:xo C ((row.length + 62) / 63) with
    | error r=>
     rw [kE] at q;exact fun H' b=>q H' b
    | ok pr=>
     obtain ⟨ns,C'⟩:=pr;rw [kE] at q;dsimp only at q;intro u H1 b1 zy rS
     have pN:C'.places=C.places/\ns≠[]:=by
      unfold xo at kE
      split at kE
      .cases kE
      .rename_i br
       cases kE
       refine ⟨rfl,fun z=>?_⟩;have hl:(C.free.take ((row.length + 62) / 63)).length=0:=by rw [z];rfl
       rw [Y0] at hl;have h_:1<=row.length:=List.length_pos_iff.mpr h0;omega
     obtain ⟨a1,C1,i8,FG,v1,e1,e2,e3,e4,e5,a2,H4,e6,e7,a3,C3,nU,FF,v3,e8,e9,FU,FT,FR,r1,r2,r3,r4,r5,r6,r7,r8,r9,uf,EL,EK,EJ⟩:=fin C' ns H1 u b1 zy pN.1 rS pN.2 (fun v H' b h e=>q v H' b h e);refine ⟨_,rfl,a1,C1,i8,FG,v1,e1,e2,e3,e4,e5,_,rfl,a2,H4,e6,e7,_,rfl,a3,C3,nU,FF,v3,e8,e9,FU,FT,FR,_,rfl,r1,r2,r3,r4,r5,r6,r7,r8,r9,uf,EL,EK,EJ⟩
def iD (S:az) (n:Int):Int×Row:=match aa S.dat n with
 | some r=>(1,r)
 | none=>(2,Ab ((aa S.ent n).getD []))
def CG (n:Int) (t:Int×Row) (i:Int):Row:=[n,t.1,(t.2.length:Int) / 256,(t.2.length:Int) % 256,i]
def gp (S:az):List Int->Row->fK->Except Rf (Row×fK)
 | [],t,C=>.ok (t,C)
 | n::ns,t,C=>match gu C (iD S n).2 with
  | .error r=>.error r
  | .ok (i,C')=>gp S ns (t++CG n (iD S n) i) C'
theorem Zth (S:az) (t:Row) (C:fK):gp S [] t C=.ok (t,C):=rfl
theorem Zrj (S:az) (n:Int) (ns:List Int) (t:Row) (C:fK):gp S (n::ns) t C=match gu C (iD S n).2 with
  | .error r=>.error r
  | .ok (i,C')=>gp S ns (t++CG n (iD S n) i) C':=rfl
def qB (S:az) (C:fK):Except Rf (Row×fK):=match gp S (qc S) [] C with
 | .error r=>.error r
 | .ok (t,C')=>match gu C' t with
  | .error r=>.error r
  | .ok (i,LP)=>.ok ([((qc S).length:Int),i],LP)
structure dR (S:az):Prop where
 n:S.dat.length + S.ent.length < 64
 row:∀ n r,aa S.dat n=some r->r.length<=1000
 ent:∀ n es,aa S.ent n=some es->es.length < 64/\nz es
theorem Hh {κ α:Type} [DecidableEq κ] {xs:List (κ×α)} {k:κ} {x:α} {p:κ×α} (h:p∈af xs k x):p∈xs∨p.2=x:=by
 unfold af at h
 split at h
 .obtain ⟨q,hq,e⟩:=List.mem_map.mp h
  split at e
  .right;rw [<- e]
  .left;rw [<- e];exact hq
 .rcases List.mem_append.mp h with h | h
  .exact .inl h
  .right;rw [List.mem_singleton.mp h]
structure xv (C C':fK) (k:Nat):Prop where
 ok:uT C'
 fr:C'.free.length<=C.free.length
 pl:C'.places.length<=C.places.length + k
 old:C'.bA=C.bA
theorem GK {C C':fK} {row:Row} {i:Int} (h:gu C row=.ok (i,C')) (ok:uT C):xv C C' 1:=by
 unfold gu at h
 split at h
 .cases h;exact ⟨ok,Ye _,Wz _,rfl⟩
 .rename_i h0
  split at h
  .cases h;exact ⟨ok,Ye _,Wz _,rfl⟩
  .split at h
   .rename_i ns hg
    cases h
    refine ⟨⟨ok.o,fun p hp=>?_⟩,Ye _,sR _ _ _,rfl⟩;rcases Hh hp with hp | hp
    .exact ok.p p hp
    .rw [hp];exact ok.o _ (vo hg)
   .split at h
    .cases h
    .rename_i ns C1 kE
     cases h
     unfold xo at kE
     split at kE
     .cases kE
     .rename_i br
      cases kE
      refine ⟨⟨ok.o,fun p hp=>?_⟩,by show (C.free.drop _).length<=_;rw [YU];omega,sR _ _ _,rfl⟩;rcases Hh hp with hp | hp
      .exact ok.p p hp
      .rw [hp];intro z;have hl:(C.free.take ((row.length + 62) / 63)).length=0:=by rw [z];rfl
       rw [Y0] at hl;have h_:1<=row.length:=List.length_pos_iff.mpr h0;omega
theorem ZmE {es:ao} (h:nz es) (hl:(bC es).length<=64):(Ab es).length<=1000:=by
 unfold Ab;rw [G_ es h (bC es) fun q hq=>HU es q hq];omega
theorem vp {κ α:Type} [DecidableEq κ] {k:κ}:∀ {xs:List (κ×α)},aa xs k=none->¬ k∈xs.map (·.1)
 | [],_=>by simp
 | p::r,h=>by
  by_cases z:p.1=k
  .rw [gj z] at h;cases h
  .rw [ZZ z] at h;rw [Yt];intro hm;rcases List.mem_cons.mp hm with e | hm
   .exact z e.symm
   .exact vp h hm
theorem IF {α:Type} (es:List α) (d:α):(List.range es.length).map (fun i=>es.getD i d)=es:=by
 apply List.ext_getElem
 .rw [Yb,Xv]
 .intro i h1 h2;rw [Wo,List.getElem_range,Ys,Yh h2];rfl
theorem vB (es:ao):(bC es).Perm es:=by
 unfold bC
 split
 .exact .refl _
 .rename_i h2
  have low:bN es.length _:=tw (fun i j=>mE (es.getD i (Str.empty,0)) (es.getD j (Str.empty,0))) (vx (n:=es.length) (by omega))
  have p1:(ZB (fun i j=>mE (es.getD i (Str.empty,0)) (es.getD j (Str.empty,0))) (PySem.W.kas_sort es.length)).toList.Perm (List.range es.length):=by
   have:=low.toList
   simpa using this
  have p2:=p1.map fun i=>es.getD i (Str.empty,0);rw [IF] at p2;exact p2
theorem ZuW (es:ao) (h:es.length < 64):(bC es).length<=64:=by
 rw [(vB es).length_eq];omega
inductive pq (g:Gs) (vs:List V) (H:Hp) (Q:VK) (E:XK):Prop
 | mk (v:_) (S:_) (c:_) (pl:_) (C:_) (H0:_):vs=[v,.ref c]->ag H0 H->H0 c=none->H0 pl=none->ZA g H0 S v->dR S->lO g H c pl C->uT C->C.free.length<=1000->C.places.length<=900->wt g Z1 H c pl (qB S C) Q E->pq g vs H Q E
theorem sZ:Zp ["state","chains","table","number","kind","row"] ["state","chains"] (Zi Zjt):=ZN (by decide +kernel)
theorem ZhP (T:Tx K mg g):ah P w K mg base (ay P w) 3 g.Iv g.KR ["state","chains"] (pq g):=by
 refine T.DU.aP sZ fun vs H Q E h=>?_;obtain ⟨v,S,c,pl,C,H0,rfl,s0,n1,n2,hS,so,hC,ok,rR,yQ,q⟩:=h;refine ⟨rfl,fun _ _ _ _ hr=>?_⟩;have hu:=u1 hr.units
 refine ⟨_,(Zd (Zz (i:=2) sZ.nd rfl (Or.inl rfl) (dH Ze))
  (Zd (jS Y2 rfl (sN (Zn (ZgH T) hr.dn rfl T.ZhZ T.D7.kp T.dC .nil Zc (Za (pv 0) Ze))) (Z9 (i:=3) sZ.nd rfl (Or.inl rfl)) (Zd (Z0 (i_ (nj hu (pv 3) (Zv (pv 0) rfl))) (Zd (Zz (i:=4) sZ.nd rfl (Or.inl rfl) (ZJ (v:=.int 1) rfl T.ZqY ⟨_,rfl⟩))
  (Zh (Zz (i:=5) sZ.nd rfl (Or.inl rfl) (kL hu (Zv (pv 0) rfl) (pv 3) (fun _ _=>rfl))))) (Zd (Zz (i:=4) sZ.nd rfl (Or.inl rfl) (ZJ (v:=.int 2) rfl T.Zkr ⟨_,rfl⟩))
  (Zh (Zz (i:=5) sZ.nd rfl (Or.inl rfl) (Zn (Zmo T) hr.dn rfl T.Zoi T.Ky.kp T.ig .nil Zc (Za (kL hu (Zv (pv 0) rfl) (pv 3) (fun _ _=>rfl)) Ze))))))
  (Zh (Zz (i:=2) sZ.nd rfl (Or.inl rfl) (Zy kK (pv 2) (dH (Za (pv 3) (Za (pv 4) (Za (Zy fJ (ZD ZI (by rfl) T.eL YC (Za (pv 5) Ze)) Zl) (Za (Zy df (ZD ZI (by rfl) T.eL YC (Za (pv 5) Ze)) Zl) (Za (ZP (pv 1) T.jT T.Zj2 (ZhV T) hr.dn T.eu .nil Zc (Za (pv 5) Ze)) Ze)))))))))))
  (Zh (Zt (dH (Za (ZD ZI (by rfl) T.eL YC (Za (Zn (ZgH T) hr.dn rfl T.ZhZ T.D7.kp T.dC .nil Zc (Za (pv 0) Ze)) Ze)) (Za (ZP (pv 1) T.jT T.Zj2 (ZhV T) hr.dn T.eu .nil Zc (Za (pv 2) Ze)) Ze))))))),?_⟩
 refine ⟨Yv _,fun a ha=>?_⟩;have s1:=Zj (o:=.tup []) ha;refine ⟨_,rfl,v,S,rfl,ZA.mono _ _ _ _ (s0.trans s1) hS,so.n,fun l H1 s2 hl=>?_⟩;refine ⟨l,rfl,⟨_,aq.of hl⟩,?_⟩
 have mw:(qc S).length < 64:=by
  unfold qc;rw [(Ad _).length_eq,Yg,Yb,Yb];exact so.n
 unfold qB at q;generalize Bh:qc S=ns at q hl mw;have sB:=s1.trans s2
 refine xV (xs:=ns.map V.int) (fun i σ H'=>∃ t tab C',(∃ o3 o4 o5,σ=[some v,some (.ref c),some (.ref t),o3,o4,o5])/\H' t=some (.tup (tab.map V.int))/\H' l=some (.lst (ns.map V.int))/\aR c pl H H'/\lO g H' c pl C'/\xv C C' i/\tab.length=5 * i/\gp S ns [] C=gp S (ns.drop i) tab C')
  ⟨a,[],C,⟨none,none,none,rfl⟩,s2 _ _ Zb,hl,aR.of sB,hC.same sB,⟨ok,Ye _,Ye _,rfl⟩,rfl,rfl⟩ (fun i σ H' _ h=>?_) (fun i x σ H' hx h=>?_) (fun σ H' h=>?_)
 .obtain ⟨t,tab,C',_,_,nN,_⟩:=h;exact aq.of nN
 .obtain ⟨t,tab,C',⟨o3,o4,o5,rfl⟩,ht,nN,b1,pN,gr,uu,hw⟩:=h;rw [Yo] at hx
  cases hn:ns[i]? with
  | none=>rw [hn] at hx;cases hx
  | some n=>
   rw [hn] at hx
   cases hx
   have hi:i < ns.length:=(List.getElem?_eq_some_iff.mp hn).1
   have zj:ns.drop i=n::ns.drop (i + 1):=by
    rw [YaP hi];rw [(List.getElem?_eq_some_iff.mp hn).2]
   rw [zj,Zrj] at hw;have EG:ag H0 H':=aR.xn s0 n1 n2 b1;obtain ⟨p,dx,da,ea,dk,ek,rfl,hP⟩:=ZA.mono _ _ _ _ EG hS
   -- behind g6 choice of g6 row
   have fin:∀ (H2:Hp) (u:V),aR c pl H H2->ag H' H2->Z1 H2 (iD S n).2 u->(iD S n).2.length<=1000->∀ (N:St->Hp->Prop),(∀ t2 kW C2 o3 o4 o5 H3,H3 t2=some (.tup (kW.map V.int))->H3 l=some (.lst (ns.map V.int))->aR c pl H H3->lO g H3 c pl C2->xv C C2 (i + 1)->kW.length=5 * (i + 1)->gp S ns [] C=gp S (ns.drop (i + 1)) kW C2->N [some (.ref p),some (.ref c),some (.ref t2),o3,o4,o5] H3)->
     ∀ bI,bI=[some (.ref p),some (.ref c),some (.ref t),some (.int n),some (.int (iD S n).1),some u]->
     qX (dX (oU K) (aN 2) (vH (c9 (aN 3) (c9 (aN 4) (c9 (dX (rI BD fun i j=>.int (i / j)) (t8 (fun xs H Q=>∃ p ys,xs=[V.ref p]/\(aq K H p ys∨aF K H p ys)/\Q (.int ys.length) H) (c9 (aN 5) bq)) (tC (.int 256))) (c9 (dX (rI (fun _ j=>0 < j) fun i j=>.int (i % j)) (t8 (fun xs H Q=>∃ p ys,xs=[V.ref p]/\(aq K H p ys∨aF K H p ys)/\Q (.int ys.length) H) (c9 (aN 5) bq)) (tC (.int 256))) (c9 (mD g.aQ "put" (oQ g) [] (fun _=>E) (aN 1) (c9 (aN 5) bq)) bq))))))) (xq 2) {nx:=N,rt:=Q,bk:=fun _ _=>True,ct:=N} bI H2:=by
    intro H2 u b2 ud ur hlen N hN bI e2;subst e2;obtain ⟨t5,rfl,yW⟩:=ur;have uL:=pN.same ud;obtain ⟨iz,f2,o2,ko2,yO,h2⟩:=id uL;refine ⟨_,rfl,_,rfl,_,rfl,_,rfl,t5,_,rfl,.inr (aF.of yW),_,_,rfl,rfl,⟨by decide,by decide⟩,_,rfl,t5,_,rfl,.inr (aF.of yW),_,_,rfl,rfl,(by show (0:Int) < 256;decide),_,rfl,c,iz,_,rfl,h2.ob,Gp _ _ _ (by decide +kernel) (by decide +kernel) (by decide +kernel),_,rfl,?_⟩;refine ⟨c,pl,C',_,_,rfl,⟨t5,rfl,yW⟩,uL,gr.ok,Yk gr.fr rR,(by have:=gr.pl;omega),by omega,?_⟩
    cases wW:gu C' (iD S n).2 with
    | error r=>
     rw [wW] at hw;rw [hw] at q;exact fun H3 b3=>q H3 (b2.trans b3)
    | ok pr=>
     obtain ⟨j,C2⟩:=pr;rw [wW] at hw;dsimp only at hw;intro vj H3 b3 FC ej
     cases ej
     have g1:=GK wW gr.ok;refine ⟨aX 5,fun e he=>?_⟩;have s4:=Zj (o:=.tup [.int n,.int (iD S n).1,.int (((((iD S n).2.map V.int).length:Nat):Int) / 256),.int (((((iD S n).2.map V.int).length:Nat):Int) % 256),.int j]) he;have jD:H3 t=some (.tup (tab.map V.int)):=b3 _ _ (ud _ _ ht) (ZR (ud _ _ ht) h2.ob (by intro z;cases z)) (ZR (ud _ _ ht) h2.hp (by intro z;cases z));have g9:H3 l=some (.lst (ns.map V.int)):=b3 _ _ (ud _ _ nN) (ZR (ud _ _ nN) h2.ob (by intro z;cases z)) (ZR (ud _ _ nN) h2.hp (by intro z;cases z));refine ⟨t,e,_,_,rfl,rfl,aF.of (s4 _ _ jD),aF.of Zb,fun _=>Zb,(fun z=>nomatch z),?_,fun d H4 s5 hd=>?_⟩
     .rw [Yb,uu];exact Zs (m:=1000) (by show 5 * i + 5<=1000;omega) (by decide)
     refine hN d (tab++CG n (iD S n) j) C2 _ _ _ H4 ?_ (s5 _ _ (s4 _ _ g9)) (b2.trans (b3.trans (aR.of (s4.trans s5)))) (FC.same (s4.trans s5)) ⟨g1.ok,Yk g1.fr gr.fr,by have:=g1.pl;have:=gr.pl;omega,g1.old.trans gr.old⟩ ?_ hw
     .rw [hd,Yw];unfold CG;rw [Yb];rfl
     .rw [Yg,uu];rfl
   refine ⟨_,rfl,_,rfl,p,_,dx,_,_,rfl,hP.ob,T.ZW,T.oo,nh _ _,da,_,rfl,aI.k hP.hd (k:=.inl n),_,rfl,?_⟩;rw [hP.rd.some eC]
   cases hg:aa S.dat n with
   | some r=>
    have uQ:iD S n=(1,r):=by unfold iD;rw [hg]
    refine ax ?_;obtain ⟨vr,hv,eG⟩:=hP.rd.yes eC hg;refine ⟨_,rfl,p,_,dx,_,_,rfl,hP.ob,T.ZW,T.oo,nh _ _,_,rfl,da,vr,rfl,(by have:=aI.k hP.hd (k:=.inl n);rw [hv] at this;exact this),?_⟩;exact fin H' vr b1 (ag.refl _) (by rw [uQ];exact eG) (by rw [uQ];exact so.row n r hg) _ (fun t2 kW C2 o3 o4 o5 H3 a1 a2 a3 a4 a5 a6 a7=>⟨t2,kW,C2,⟨o3,o4,o5,rfl⟩,a1,a2,a3,a4,a5,a6,a7⟩) _ (by rw [uQ];rfl)
   | none=>
    refine av ?_
    have i4:∃ es,aa S.ent n=some es:=by
     have mM:n∈S.dat.map (·.1)++S.ent.map (·.1):=by
      have:n∈ns:=Yy hn
      rw [<- Bh] at this;exact (Ad _).mem_iff.mp this
     rcases List.mem_append.mp mM with hm | hm
     .exact absurd hm (vp hg)
     .cases he:aa S.ent n with
      | none=>exact absurd hm (vp he)
      | some es=>exact ⟨es,rfl⟩
    obtain ⟨es,he⟩:=i4;have uQ:iD S n=(2,Ab es):=by unfold iD;rw [hg,he];rfl
    obtain ⟨ve,hv,eG⟩:=hP.re.yes eC he;obtain ⟨hel,iZ⟩:=so.ent n es he;refine ⟨_,rfl,p,_,dx,_,_,rfl,hP.ob,T.ZW,T.Zu,gZ _ _,_,rfl,ea,ve,rfl,(by have:=aI.k hP.he (k:=.inl n);rw [hv] at this;exact this),ve,es,rfl,eG,hel,iZ,fun u H2 s3 ur=>?_⟩;exact fin H2 u (b1.trans (aR.of s3)) s3 (by rw [uQ];exact ur) (by rw [uQ];exact ZmE iZ (ZuW es hel)) _ (fun t2 kW C2 o3 o4 o5 H3 a1 a2 a3 a4 a5 a6 a7=>⟨t2,kW,C2,⟨o3,o4,o5,rfl⟩,a1,a2,a3,a4,a5,a6,a7⟩) _ (by rw [uQ];rfl)
 .obtain ⟨t,tab,C',⟨o3,o4,o5,rfl⟩,ht,nN,b1,pN,gr,uu,hw⟩:=h;rw [Yb,Wq,Zth] at hw;rw [Yb] at uu gr;rw [hw] at q;dsimp only at q;have EG:ag H0 H':=aR.xn s0 n1 n2 b1;refine ⟨_,rfl,v,S,rfl,ZA.mono _ _ _ _ EG hS,so.n,fun l2 H2 s3 cL=>?_⟩;rw [Bh] at cL;have uL:=pN.same s3;obtain ⟨iz,f2,o2,ko2,yO,h2⟩:=id uL;refine ⟨l2,_,rfl,.inl (aq.of cL),_,rfl,c,iz,_,rfl,h2.ob,Gp _ _ _ (by decide +kernel) (by decide +kernel) (by decide +kernel),_,rfl,?_⟩;refine ⟨c,pl,C',tab,_,rfl,⟨t,rfl,s3 _ _ ht⟩,uL,gr.ok,Yk gr.fr rR,(by have:=gr.pl;omega),by omega,?_⟩
  cases wW:gu C' tab with
  | error r=>
   rw [wW] at q;exact fun H3 b3=>q H3 (b1.trans ((aR.of s3).trans b3))
  | ok pr=>
   obtain ⟨j,C2⟩:=pr;rw [wW] at q;dsimp only at q;intro vj H3 b3 FC ej
   cases ej
   refine ⟨aX 2,fun e he=>?_⟩;refine q _ _ (b1.trans ((aR.of s3).trans (b3.trans (aR.of (Zj he))))) (FC.same (Zj he)) ⟨e,rfl,?_⟩;rw [Zb,Yb];rfl
structure nE where
 places:g4
 heads:Row
def uo (p h:V):List (Str×V):=au "heads" h (au "places" p [])
theorem if1:¬ (("places":Str)="heads"):=by decide +kernel
theorem Gd (p h:V):(uo p h).lookup ("places":Str)=some p:=by unfold uo;rw [Zo,if_neg if1,Zo,if_pos rfl]
theorem Gj (p h:V):(uo p h).lookup ("heads":Str)=some h:=by unfold uo;rw [Zo,if_pos rfl]
def jH (g:Gs) (H:Hp) (I:nE) (v:V):Prop:=∃ p dx pl hd,v=.ref p/\H p=some (.ins g.dz dx (uo pl hd))/\hG H I.places pl/\Z1 H I.heads hd
theorem jH.mono {g:Gs}:ly (jH g):=fun _ _ _ _ s ⟨p,dx,pl,hd,e,h1,h2,h3⟩=>⟨p,dx,pl,hd,e,s _ _ h1,hG.mono _ _ _ _ s h2,Z1.mono _ _ _ _ s h3⟩
abbrev Kept:=List (Str×az)
def eN (g:Gs) (H:Hp) (k:Kept) (v:V):Prop:=∃ a kvs,v=.ref a/\H a=some (.dK kvs)/\Z8 Xp (ZA g) H k kvs
theorem eN.mono {g:Gs}:ly (eN g):=fun _ _ _ _ s ⟨a,kvs,e,h,d⟩=>⟨a,kvs,e,s _ _ h,d.same ZA.mono s⟩
def uW (k:Kept):List Str->Row->fK->Except Rf (Row×fK)
 | [],h,C=>.ok (h,C)
 | n::ns,h,C=>match aa k n with
  | none=>.error .aA
  | some S=>match qB S C with
   | .error r=>.error r
   | .ok (t,C')=>uW k ns (h++ow n++t) C'
theorem ZuX (k:Kept) (h:Row) (C:fK):uW k [] h C=.ok (h,C):=rfl
theorem Ztn (k:Kept) (n:Str) (ns:List Str) (h:Row) (C:fK):uW k (n::ns) h C=match aa k n with
  | none=>.error .aA
  | some S=>match qB S C with
   | .error r=>.error r
   | .ok (t,C')=>uW k ns (h++ow n++t) C':=rfl
def vk (S:az) (k:Kept) (free:List Int) (bA:g4):Except Rf nE:=match qB S ⟨free,bA,[]⟩ with
 | .error r=>.error r
 | .ok (h,C)=>match uW k (fH (k.map (·.1))) h C with
  | .error r=>.error r
  | .ok (h',C')=>.ok ⟨C'.places,h'⟩
theorem Zti {S:az}:∀ {ns:List Int} {t t':Row} {C C':fK},gp S ns t C=.ok (t',C')->uT C->xv C C' ns.length/\t'.length=t.length + 5 * ns.length
 | [],t,t',C,C',h,ok=>by rw [Zth] at h;cases h;exact ⟨⟨ok,Ye _,Ye _,rfl⟩,rfl⟩
 | n::ns,t,t',C,C',h,ok=>by
  rw [Zrj] at h
  cases hp:gu C (iD S n).2 with
  | error r=>rw [hp] at h;cases h
  | ok pr=>
   obtain ⟨i,C1⟩:=pr;rw [hp] at h;dsimp only at h;have g1:=GK hp ok;obtain ⟨g2,l2⟩:=Zti h g1.ok;refine ⟨⟨g2.ok,Yk g2.fr g1.fr,?_,g2.old.trans g1.old⟩,?_⟩
   .have:=g1.pl;have:=g2.pl;rw [Yz];omega
   .rw [l2,Yg,Yz];show t.length + 5 + _=_;omega
theorem ZrP {S:az} {C C':fK} {t:Row} (h:qB S C=.ok (t,C')) (ok:uT C) (so:dR S):xv C C' 64/\t.length=2:=by
 unfold qB at h
 cases ht:gp S (qc S) [] C with
 | error r=>rw [ht] at h;cases h
 | ok pr=>
  obtain ⟨t1,C1⟩:=pr;rw [ht] at h;dsimp only at h;obtain ⟨g1,l1⟩:=Zti ht ok
  cases hp:gu C1 t1 with
  | error r=>rw [hp] at h;cases h
  | ok pr=>
   obtain ⟨i,C2⟩:=pr;rw [hp] at h
   cases h
   have g2:=GK hp g1.ok
   have mw:(qc S).length < 64:=by
    unfold qc;rw [(Ad _).length_eq,Yg,Yb,Yb];exact so.n
   refine ⟨⟨g2.ok,Yk g2.fr g1.fr,?_,g2.old.trans g1.old⟩,rfl⟩
   have:=g1.pl;have:=g2.pl;omega
structure i9 (k:Kept):Prop where
 n:k.length<=3
 nm:∀ n S,aa k n=some S->eD n=true/\dR S
theorem DK (ns:List Str):(fH ns).Perm ns:=by
 unfold fH
 split
 .exact .refl _
 .rename_i h2
  have low:bN ns.length _:=tw (fun i j=>decide ((ns.getD i Str.empty).cps.toList < (ns.getD j Str.empty).cps.toList)) (vx (n:=ns.length) (by omega))
  have p1:(ZB (fun i j=>decide ((ns.getD i Str.empty).cps.toList < (ns.getD j Str.empty).cps.toList)) (PySem.W.kas_sort ns.length)).toList.Perm (List.range ns.length):=by
   have:=low.toList
   simpa using this
  have p2:=p1.map fun i=>ns.getD i Str.empty;rw [IF] at p2;exact p2
theorem Z8.tM {α:Type} {R:Hp->α->V->Prop} {H:Hp} {xs:List (Str×α)} {kvs:List (Key×V)} (h:Z8 Xp R H xs kvs):kvs.map (·.1)=(xs.map (·.1)).map Xp:=by
 unfold Z8 at h
 induction h with
 | nil=>rfl
 | cons a _ ih=>rw [Yt,Yt,Yt,ih,a.1]
inductive iP (g:Gs) (vs:List V) (H:Hp) (Q:VK) (aL:XK):Prop
 | mk (p:_) (dx:_) (d:_) (e:_):vs=[.ref p,d,e]->H p=some (.ins g.dz dx [])->(∀ H',(∀ b o,H b=some o->b≠p->H' b=some o)->H' p=some (.ins g.dz dx (uo d e))->Q .aK H')->iP g vs H Q aL
theorem ZnN:Zp ["self","places","heads"] ["self","places","heads"] (Zi ZjH):=ZN (by decide +kernel)
theorem Zn8 (T:Tx K mg g):ah P w K mg base (ay P w) 1 g.IY g.JY ["self","places","heads"] (iP g):=by
 refine T.Zkd.aP ZnN fun vs H Q E h=>?_;obtain ⟨p,dx,d,e,rfl,hp,q⟩:=h;refine ⟨rfl,fun _ _ _ _ hr=>?_⟩
 refine ⟨_,(Zd (fW (pv 0) (pv 1) rfl)
  (Zh (fW (pv 0) (pv 2) rfl))),?_⟩
 refine ⟨_,rfl,_,rfl,p,g.dz,dx,[],rfl,hp,T.xS,T.Eg,(by show 0 < 1000;decide),?_⟩;refine ⟨_,rfl,_,rfl,p,g.dz,dx,_,rfl,Zb,T.xS,T.ZhW,(by show 1 < 1000;decide),?_⟩;refine q _ (fun b o e hb=>?_) Zb;rw [Zf hb,Zf hb];exact e
inductive iQ (g:Gs) (vs:List V) (H:Hp) (Q:VK) (E:XK):Prop
 | mk (v:_) (S:_) (kv:_) (k:_) (fv:_) (free:_) (ov:_) (bA:_):vs=[v,kv,.ref fv,ov]->ZA g H S v->eN g H k kv->H fv=some (.lst (free.map V.int))->hG H bA ov->dR S->i9 k->free.length<=1000->(∀ p∈bA,p.2≠[])->d0 g (jH g) H (vk S k free bA) Q E->iQ g vs H Q E
theorem Ah:Zp ["state","kept","free","older","chains","heads","name"] ["state","kept","free","older"] (Zi ZmU):=ZN (by decide +kernel)
theorem ZqJ (T:Tx K mg g):ah P w K mg base (ay P w) 4 g.GV g.IH ["state","kept","free","older"] (iQ g):=by
 refine T.Ih.aP Ah fun vs H Q E h=>?_;obtain ⟨v,S,kv,k,fv,free,ov,bA,rfl,hS,⟨ka,kvs,rfl,pK,hkd⟩,hfv,⟨oa,ko,rfl,Fg,Ff⟩,so,kk,dy,bZ,q⟩:=h;refine ⟨rfl,fun _ _ _ _ hr=>?_⟩;have hu:=u1 hr.units
 refine ⟨_,(Zd (Zz (i:=4) Ah.nd rfl (Or.inl rfl) (qJ T.ZtO (Zmt T) hr.dn rfl T.Zvm T.ir .nil Zc (Za (pv 2) (Za (pv 3) Ze))))
  (Zd (Zz (i:=5) Ah.nd rfl (Or.inl rfl) (Zn (ZhP T) hr.dn rfl T.ZjU T.DU.kp T.eg .nil Zc (Za (pv 0) (Za (pv 4) Ze))))
  (Zd (jS Y2 rfl (sN (ZD Zj8 (by rfl) T.vv PyProof.Rows.Boot.«sorted» (Za (pv 1) Ze))) (Z9 (i:=6) Ah.nd rfl (Or.inl rfl)) (Zh (Zz (i:=5) Ah.nd rfl (Or.inl rfl) (Zy kK (Zy kK (pv 5) (Zn (ZhQ T) hr.dn rfl T.ZjV T.DT.kp T.eh .nil Zc (Za (pv 6) Ze))) (Zn (ZhP T) hr.dn rfl T.ZjU T.DU.kp T.eg .nil Zc (Za (kL hu (pv 1) (pv 6) (fun _ _=>rfl)) (Za (pv 4) Ze)))))))
  (Zh (Zt (qJ T.Zvh (Zn8 T) hr.dn rfl T.ZwR T.jy .nil Zc (Za (Zv (pv 4) rfl) (Za (pv 5) Ze)))))))),?_⟩
 refine ⟨_,rfl,_,rfl,fun c dx hc nQ ne=>⟨c,dx,_,_,rfl,Zb,fun pl H1 cK jM iw iY=>⟨rfl,?_⟩⟩⟩;have wL:pl≠c:=fun z=>by rw [z,Zb] at cK;cases cK
 have k_:H pl=none:=by
  by_cases z:pl=dx
  .rw [z,Zf ne,Zb] at cK;cases cK
  .rw [Zf wL,Zf z] at cK;exact cK
 have s1:ag H H1:=fun b o e=>jM b o (by rw [Zf (Zg e hc),Zf (Zg e nQ)];exact e) (Zg e hc);have zy:lO g H1 c pl ⟨free,bA,[]⟩:=⟨dx,fv,oa,ko,[],iw,s1 _ _ hfv,s1 _ _ Fg,iY,Ff.same Z1.mono s1,.nil,fun z=>by rw [z,k_] at Fg;cases Fg⟩
 have ok1:uT (⟨free,bA,[]⟩:fK):=⟨bZ,fun p hp=>nomatch hp⟩
 unfold vk at q;refine ⟨_,rfl,_,rfl,v,S,c,pl,_,H,rfl,s1,hc,k_,hS,so,zy,ok1,dy,Yv _,?_⟩
 cases hh:qB S ⟨free,bA,[]⟩ with
 | error r=>
  rw [hh] at q;exact fun H2 b2=>q H2 (aR.xn s1 hc k_ b2)
 | ok pr=>
  obtain ⟨h0,C0⟩:=pr;rw [hh] at q;dsimp only at q;obtain ⟨FD,uE⟩:=ZrP hh ok1 so;intro vh H2 b2 uL ⟨t0,e,ht0⟩;subst e;have s2:=aR.xn s1 hc k_ b2;have nL:(k.map (·.1)).length < 64:=by rw [Yb];have:=kk.n;omega
  refine ⟨_,rfl,ka,kvs,k.map (·.1),rfl,.inl (s2 _ _ pK),hkd.tM,nL,fun l hl=>?_⟩;refine ⟨l,rfl,⟨_,aq.of Zb⟩,?_⟩;have s3:=Zj (o:=.lst ((fH (k.map (·.1))).map V.str)) hl;have mL:∀ n∈fH (k.map (·.1)),n∈k.map (·.1):=fun n hn=>(DK _).mem_iff.mp hn;have hlen:(fH (k.map (·.1))).length<=3:=by rw [(DK _).length_eq,Yb];exact kk.n
  generalize fH (k.map (·.1))=ns at q s3 mL hlen
  refine xV (xs:=ns.map V.str) (fun i σ H'=>∃ t hd C',(∃ o6,σ=[some v,some (.ref ka),some (.ref fv),some (.ref oa),some (.ref c),some (.ref t),o6])/\H' t=some (.tup (hd.map V.int))/\H' l=some (.lst (ns.map V.str))/\ag H H'/\lO g H' c pl C'/\xv C0 C' (64 * i)/\hd.length=2 + 10 * i/\uW k ns h0 C0=uW k (ns.drop i) hd C')
   ⟨t0,h0,C0,⟨none,rfl⟩,s3 _ _ ht0,Zb,s2.trans s3,uL.same s3,⟨FD.ok,Ye _,Ye _,rfl⟩,uE,rfl⟩ (fun i σ H' _ h=>?_) (fun i x σ H' hx h=>?_) (fun σ H' h=>?_)
  .obtain ⟨t,hd,C',_,_,nN,_⟩:=h;exact aq.of nN
  .obtain ⟨t,hd,C',⟨o6,rfl⟩,ht,nN,sm,pN,gr,pL,hw⟩:=h;rw [Yo] at hx
   cases hn:ns[i]? with
   | none=>rw [hn] at hx;cases hx
   | some n=>
    rw [hn] at hx
    cases hx
    have hi:i < ns.length:=(List.getElem?_eq_some_iff.mp hn).1
    have zj:ns.drop i=n::ns.drop (i + 1):=by
     rw [YaP hi];rw [(List.getElem?_eq_some_iff.mp hn).2]
    rw [zj,Ztn] at hw
    have hgk:∃ S',aa k n=some S':=by
     cases hg:aa k n with
     | none=>exact absurd (mL n (Yy hn)) (vp hg)
     | some S'=>exact ⟨S',rfl⟩
    obtain ⟨S',hg⟩:=hgk;rw [hg] at hw;dsimp only at hw;obtain ⟨iZ,so'⟩:=kk.nm n S' hg;obtain ⟨vS,hvS,qy⟩:=hkd.yes xP hg;have vY:(ow n).length=8:=Km (DI iZ).2.1;refine ⟨_,rfl,_,rfl,n,rfl,iZ,fun u H3 s4 ⟨t2,e,dY⟩=>?_⟩;subst e;refine ⟨t,t2,_,_,rfl,rfl,aF.of (s4 _ _ ht),aF.of dY,fun _=>dY,fun _ _=>s4 _ _ ht,?_,fun d H4 s5 Fm=>?_⟩
    .rw [Yb,Yb,vY,pL];exact Zs (m:=1000) (by omega) (by decide)
    have s6:=sm.trans (s4.trans s5);have Cv:=pN.same (s4.trans s5);obtain ⟨zC,f4,o4,ko4,B',h4⟩:=id Cv;refine ⟨_,rfl,_,rfl,ka,vS,rfl,(by have:=aI.k (s6 _ _ pK) (k:=.inr n);rw [hvS] at this;exact this),_,rfl,vS,S',c,pl,C',H,rfl,s6,hc,k_,qy,so',Cv,gr.ok,Yk gr.fr (Yk FD.fr dy),?_,?_⟩
    .have:=gr.pl
     have h1:C0.places.length<=0 + 64:=FD.pl;omega
    cases Fl:qB S' C' with
    | error r=>
     rw [Fl] at hw;rw [hw] at q;exact fun H5 b5=>q H5 (aR.xn s6 hc k_ b5)
    | ok pr=>
     obtain ⟨t',LP⟩:=pr;rw [Fl] at hw;dsimp only at hw;obtain ⟨Cw,cL⟩:=ZrP Fl gr.ok so';intro vt H5 b5 hC5 ⟨t3,e,jD⟩;subst e;have s7:=aR.xn s6 hc k_ b5;have zm:H5 d=some (.tup ((hd.map V.int)++(ow n).map V.int)):=b5 _ _ Fm (ZR Fm h4.ob (by intro z;cases z)) (ZR Fm h4.hp (by intro z;cases z));have my:=s5 _ _ (s4 _ _ nN);have f_:H5 l=some (.lst (ns.map V.str)):=b5 _ _ my (ZR my h4.ob (by intro z;cases z)) (ZR my h4.hp (by intro z;cases z));refine ⟨d,t3,_,_,rfl,rfl,aF.of zm,aF.of jD,fun _=>jD,fun _ _=>zm,?_,fun d2 H6 s8 zk=>?_⟩
     .rw [Yg,Yb,Yb,Yb,vY,pL,cL];exact Zs (m:=1000) (by omega) (by decide)
     refine ⟨d2,hd++ow n++t',LP,⟨_,rfl⟩,?_,s8 _ _ f_,s7.trans s8,hC5.same s8,⟨Cw.ok,Yk Cw.fr gr.fr,by have:=Cw.pl;have:=gr.pl;omega,Cw.old.trans gr.old⟩,?_,hw⟩
     .rw [zk,Yw,Yw]
     .rw [Yg,Yg,vY,pL,cL];omega
  .obtain ⟨t,hd,C',⟨o6,rfl⟩,ht,nN,sm,pN,gr,pL,hw⟩:=h;rw [Yb,Wq,ZuX] at hw;rw [hw] at q;dsimp only at q;obtain ⟨zC,f4,o4,ko4,B',h4⟩:=id pN;refine ⟨_,rfl,c,_,zC,_,_,rfl,h4.ob,T.jT,T.yo,zD _ _ _,_,rfl,fun x jR hx oK ne'=>⟨x,jR,_,_,rfl,Zb,fun H5 kp hp=>⟨rfl,?_⟩⟩⟩
   have s5:ag H' H5:=fun b o eb=>by
    have h1:b≠x:=Zg eb hx;have h2:b≠jR:=Zg eb oK;exact kp b o (by rw [Zf h1,Zf h2];exact eb) h1
   exact q _ _ (sm.trans s5) ⟨x,jR,_,_,rfl,hp,⟨pl,B',rfl,s5 _ _ h4.hp,h4.rp.same Z1.mono s5⟩,⟨t,rfl,s5 _ _ ht⟩⟩
end KS
namespace L2
open PySem PySem.Spec PyProof.Rows PySem.W
theorem Zvu {K:Frag} {a:Addr} {xs:List V} {g:TG} {tb:TS} {D:Ends} {σ:St} {H:Hp} (Pv:Nat->St->Hp->Prop) (h0:Pv 0 σ H) (hl:∀ i σ H,i<=xs.length->Pv i σ H->aF K H a xs)
  (hs:∀ i x t σ H,xs[i]?=some x->Pv i σ H->H t=none->g (.ref t) σ (upd H t (.tup [.int (i:Nat),x])) fun bI H2=>tb {D with nx:=Pv (i + 1),ct:=Pv (i + 1),bk:=D.nx} bI H2) (hd:∀ σ H,Pv xs.length σ H->D.nx σ H) :
  ∃ W:Nat->Nat->St->Hp->Prop,(∃ m,W 0 m σ H)/\∀ i m σ H,W i m σ H->
   ((oO K a).stop i H/\D.nx σ H)∨((oO K a).go i H/\∃ N:St->Hp->Prop,(∀ aB H',N aB H'->∃ m',m' < m/\W (i + 1) m' aB H')/\∀ x H',(oO K a).mn i H x H'->g x σ H' fun bI H2=>tb {D with nx:=N,ct:=N,bk:=D.nx} bI H2):=by
 refine ⟨fun i m σ H=>m=xs.length - i/\i<=xs.length/\Pv i σ H,⟨xs.length,by simp,Yv _,h0⟩,?_⟩
 rintro i m σ H ⟨rfl,hi,p⟩
 have q:=hl i σ H hi p
 by_cases br:i < xs.length
 .refine .inr ⟨⟨xs,xs[i],q,by simp [br]⟩,Pv (i + 1),fun aB H' p'=>⟨xs.length - (i + 1),by omega,rfl,br,p'⟩,fun x H' y=>?_⟩;obtain ⟨t,z,ht,rfl,hz,rfl⟩:=y;exact hs i z t σ _ (hz xs q) p ht
 .have e:i=xs.length:=by omega
  subst e;exact .inl ⟨⟨xs,q,Ye _⟩,hd σ H p⟩
end L2
namespace KS
open PySem L2
variable {P:Program} {w:World} {K:Yf} {mg:Str->Option Value} {base:Heap} {g:Gs}
def gv (row:Row) (n:Int):Row:=row++List.replicate (n - (row.length:Int)).toNat 0
def qK (row:Row):Int:=row.foldl (fun c n=>(c * 1000003 + n) % 4294967291) (row.length:Int)
def Dq (rows:List Row):Int:=(rows.map qK).sum % 4294967291
def Znm (rows:List Row):Row:=[Dq rows / 16777216,Dq rows / 65536 % 256,Dq rows / 256 % 256,Dq rows % 256]
def Gf:Row:=[83,116,105,108]
def zV (I:nE) (turn:Int):Row:=gv (Gf++[turn]++I.heads) 37
def DC (I:nE) (turn:Int):Row:=gv (zV I turn++Znm (zV I turn::I.places.map (·.1))) 64
def Zyo (H:Hp) (rows:List Row) (v:V):Prop:=∃ l vs,v=.ref l/\H l=some (.lst vs)/\WA (fun a b=>Z1 H b a) vs rows
theorem DB {α β:Type} {F:α->β->Prop}:∀ {xs:List α} {ys:List β},WA F xs ys->∀ {i:Nat} {x:α},xs[i]?=some x->∃ y,ys[i]?=some y/\F x y
 | _,_,.nil,i,x,h=>by simp at h
 | _,_,.cons a t,0,x,h=>by simp at h;subst h;exact ⟨_,rfl,a⟩
 | _,_,.cons a t,i + 1,x,h=>by obtain ⟨y,h1,h2⟩:=DB t (i:=i) (by simpa using h);exact ⟨y,by simpa using h1,h2⟩
theorem ZpO {H0 H:Hp}:∀ {pl:g4} {kvs:List (List Key×V)},Z8 rKey Z1 H0 pl kvs->∀ {bs:List Addr},bs.length=(kvs.map (·.1)).length->(∀ (i:Nat) b k,bs[i]?=some b->(kvs.map (·.1))[i]?=some k->H b=some (.tup (k.map kV)))->WA (fun a b=>Z1 H b a) (bs.map V.ref) (pl.map (·.1))
 | _,_,.nil,bs,hl,_=>by
  have:bs=[]:=List.length_eq_zero_iff.mp hl
  subst this;exact .nil
 | q::_,p::_,.cons a t,bs,hl,h=>by
  match bs,hl,h with
  | b::bs,hl,h=>
   refine .cons ⟨b,rfl,?_⟩ (ZpO t (by simpa using hl) fun i b' k hb hk=>h (i + 1) b' k (by simpa using hb) (by simpa using hk))
   have:=h 0 b p.1 rfl rfl
   rw [a.1,zS] at this;exact this
inductive gD (vs:List V) (H:Hp) (Q:VK) (aL:XK):Prop
 | mk (row:_) (v:_) (n:_):vs=[v,.int n]->Z1 H row v->row.length<=10000->-10000<=n->n<=10000->(∀ u H',ag H H'->Z1 H' (gv row n) u->Q u H')->gD vs H Q aL
theorem Ztp:Zp ["row","length"] ["row","length"] (Zi Zrl):=ZN (by decide +kernel)
theorem Zpt (T:Tx K mg g):ah P w K mg base (ay P w) 1 g.padded g.Hf ["row","length"] gD:=by
 refine T.Dm.aP Ztp fun vs H Q E h=>?_;obtain ⟨row,v,n,rfl,⟨t,rfl,ht⟩,hl,uD,Ck,q⟩:=h;refine ⟨rfl,fun _ _ _ _ hr=>?_⟩;refine ⟨_,(Zh (Zt (Zy kK (pv 0) (Zy zQ (dH (Za Zl Ze)) (Zy u5 (pv 1) (ZD ZI (by rfl) T.eL YC (Za (pv 0) Ze))))))),?_⟩;refine ⟨_,rfl,aX 1,fun b hb=>?_⟩;have s2:=Zj (o:=.tup [.int 0]) hb;refine ⟨_,rfl,_,rfl,t,_,rfl,.inr (aF.of (s2 _ _ ht)),_,_,rfl,rfl,b,_,_,rfl,rfl,Zb,by simp,?_,?_,?_,fun c H2 s3 hc=>?_⟩
 .rw [Yb];omega
 .rw [Yb];omega
 .rw [Yb];show 1 * _<=_;exact Zs (m:=20000) (by omega) (by decide)
 rw [xY,Yb] at hc;have dY:=s3 _ _ (s2 _ _ ht);refine ⟨t,c,_,_,rfl,rfl,aF.of dY,aF.of hc,fun _=>hc,fun _ _=>dY,?_,fun d H3 s4 hd=>?_⟩
 .rw [Yb,YM];exact Zs (m:=40000) (by omega) (by decide)
 refine q _ H3 (s2.trans (s3.trans s4)) ⟨d,rfl,?_⟩;rw [hd];unfold gv;rw [Yw,Wy]
inductive iT (vs:List V) (H:Hp) (Q:VK) (aL:XK):Prop
 | mk (row:_) (v:_):vs=[v]->Z1 H row v->Q (.int (qK row)) H->iT vs H Q aL
theorem DO:Zp ["row","check","number"] ["row"] (Zi ZmV):=ZN (by decide +kernel)
theorem ZqK (T:Tx K mg g):ah P w K mg base (ay P w) 1 g.G6 g.Iz ["row"] iT:=by
 refine T.Ig.aP DO fun vs H Q E h=>?_;obtain ⟨row,v,rfl,⟨t,rfl,ht⟩,q⟩:=h;refine ⟨rfl,fun _ _ _ _ hr=>?_⟩
 refine ⟨_,(Zd (Zz (i:=1) DO.nd rfl (Or.inl rfl) (ZD ZI (by rfl) T.eL YC (Za (pv 0) Ze)))
  (Zd (jS Y2 rfl (ZvY (pv 0)) (Z9 (i:=2) DO.nd rfl (Or.inl rfl)) (Zh (Zz (i:=1) DO.nd rfl (Or.inl rfl) (Zy df (Zy kJ (Zy ni (pv 1) (ZJ (v:=.int 1000003) rfl T.ZmD ⟨_,rfl⟩)) (pv 2)) (ZJ (v:=.int 4294967291) rfl T.Zh9 ⟨_,rfl⟩)))))
  (Zh (Zt (pv 1))))),?_⟩
 refine ⟨_,rfl,t,_,rfl,.inr (aF.of ht),?_⟩;refine ⟨_,rfl,t,rfl,⟨_,aF.of ht⟩,?_⟩;refine Zub (xs:=row.map V.int) (fun i σ H'=>H'=H/\∃ o2,σ=[some (.ref t),some (.int ((row.take i).foldl (fun c n=>(c * 1000003 + n) % 4294967291) (row.length:Int))),o2]) ⟨rfl,none,by rw [Yb];rfl⟩ (fun i σ H' _ h=>by rw [h.1];exact aF.of ht) (fun i x σ H' hx h=>?_) (fun σ H' h=>?_)
 .obtain ⟨rfl,o2,rfl⟩:=h;rw [Yo] at hx
  cases hn:row[i]? with
  | none=>rw [hn] at hx;cases hx
  | some n=>
   rw [hn] at hx
   cases hx
   have hi:i < row.length:=(List.getElem?_eq_some_iff.mp hn).1;refine ⟨_,rfl,_,_,rfl,rfl,.inr ⟨by decide,by decide⟩,_,rfl,_,_,rfl,rfl,_,_,rfl,rfl,(by show (0:Int) < 4294967291;decide),?_⟩;refine ⟨rfl,some (.int n),?_⟩;rw [Xb hi,List.foldl_append,(List.getElem?_eq_some_iff.mp hn).2];rfl
 .obtain ⟨rfl,o2,rfl⟩:=h;rw [Yb,XE];exact ⟨_,rfl,q⟩
inductive ee (vs:List V) (H:Hp) (Q:VK) (aL:XK):Prop
 | mk (rows:_) (v:_):vs=[v]->Zyo H rows v->rows.length<=10000->(∀ u H',ag H H'->Z1 H' (Znm rows) u->Q u H')->ee vs H Q aL
theorem Zgw:Zp ["rows","check"] ["rows"] (Zi Kq):=ZN (by decide +kernel)
theorem Zmp (T:Tx K mg g):ah P w K mg base (ay P w) 2 g.Jw g.KL ["rows"] ee:=by
 refine T.Kx.aP Zgw fun vs H Q E h=>?_;obtain ⟨rows,v,rfl,⟨l,us,rfl,hl,hp⟩,hz,q⟩:=h;refine ⟨rfl,fun _ _ _ _ hr=>?_⟩
 refine ⟨_,(Zd (Zz (i:=1) Zgw.nd rfl (Or.inl rfl) (Zy df (ZD ZvJ (by rfl) T.Zyx PyProof.Rows.Boot.«sum» (Za (xQ (own:=["row"]) (fv:=[]) (ix:=[]) (ot (sc:=Zi Kq) (N:=["rows","check"]) rfl rfl (by decide +kernel)) rfl (sN (pv 0)) (fun _ _ _ _ _=>Z9 (i:=0) (show (["row"]:List Str).Nodup from by decide +kernel) rfl (Or.inl rfl) (Or.inr rfl)) (fun _ _ _ _ _=>xK) (fun _ _ _ _ _=>(Zn (ZqK T) hr.dn rfl T.ZsO T.Ig.kp T.lH .nil ng (Za (pv 0) Ze)))) Ze)) (ZJ (v:=.int 4294967291) rfl T.Zh9 ⟨_,rfl⟩)))
  (Zh (Zt (dH (Za (Zy fJ (pv 1) (Zy Zv4 Zl Zl)) (Za (Zy df (Zy fJ (pv 1) (Zy Zv4 Zl Zl)) Zl) (Za (Zy df (Zy fJ (pv 1) Zl) Zl) (Za (Zy df (pv 1) Zl) Ze)))))))),?_⟩
 refine ⟨_,rfl,l,rfl,⟨_,aq.of hl⟩,fun D hD=>?_⟩;have lJ:us.length=rows.length:=Xr hp;refine zZ (J:=vG K l) us.length (fun i=>some (V.int (qK (rows.getD i [])))) (fun i x=>us[i]?=some x) hD (by rw [lJ];exact Zs hz (by decide)) (fun i H' hi s'=>⟨us,us[i],aq.of (s' _ _ hl),Yh hi⟩) (fun H' s'=>⟨us,aq.of (s' _ _ hl),Ye _⟩) (fun i H' x H2 hi s' hy=>⟨hy.1,hy.2 us (aq.of (s' _ _ hl))⟩) (fun i x H' N hi hx s' k=>?_) fun H' s' hH=>?_
 .obtain ⟨row,h_,eG⟩:=DB hp hx;refine ax (B:=N none H') ?_;refine ⟨_,rfl,row,x,rfl,Z1.mono _ _ _ _ s' eG,?_⟩;have hk:=k H' (ag.refl _);rw [Ys,h_] at hk;exact hk
 .have cG:((List.range us.length).filterMap fun i=>some (V.int (qK (rows.getD i []))))=(rows.map qK).map V.int:=by
   rw [Ybn,lJ];have e1:(List.range rows.length).map (fun i=>V.int (qK (rows.getD i [])))=((List.range rows.length).map fun i=>rows.getD i []).map fun r=>V.int (qK r):=by rw [XJ];rfl
   show (List.range rows.length).map (fun i=>V.int (qK (rows.getD i [])))=_;rw [e1,IF,XJ];rfl
  rw [cG] at hH;refine ⟨D,rows.map qK,rfl,aq.of hH,_,_,rfl,rfl,(by show (0:Int) < 4294967291;decide),?_⟩;refine ⟨_,rfl,_,_,rfl,rfl,⟨by decide,by decide,by decide⟩,_,_,rfl,rfl,⟨by decide,by decide⟩,?_⟩;refine ⟨_,rfl,_,_,rfl,rfl,⟨by decide,by decide,by decide⟩,_,_,rfl,rfl,⟨by decide,by decide⟩,_,_,rfl,rfl,(by show (0:Int) < 256;decide),?_⟩;refine ⟨_,rfl,_,_,rfl,rfl,⟨by decide,by decide⟩,_,_,rfl,rfl,(by show (0:Int) < 256;decide),_,rfl,_,_,rfl,rfl,(by show (0:Int) < 256;decide),aX 4,fun a ha=>?_⟩;refine q _ _ (s'.trans (Zj ha)) ⟨a,rfl,?_⟩;rw [Zb];rfl
inductive fq (g:Gs) (vs:List V) (H:Hp) (Q:VK) (aL:XK):Prop
 | mk (I:_) (v:_) (n:_):vs=[v,.int n]->jH g H I v->I.heads.length<=1000->I.places.length<=2000->(∀ u H',ag H H'->Z1 H' (DC I n) u->Q u H')->fq g vs H Q aL
theorem Zhw:Zp ["image","turn","row"] ["image","turn"] (Zi Zjx):=ZN (by decide +kernel)
theorem Zn1 (T:Tx K mg g):ah P w K mg base (ay P w) 3 g.IG g.JD ["image","turn"] (fq g):=by
 refine T.JO.aP Zhw fun vs H Q E h=>?_;obtain ⟨I,v,n,rfl,⟨p,dx,plv,hdv,rfl,hp,⟨pa,kvs,rfl,jE,uA⟩,⟨ht,rfl,hht⟩⟩,hhl,cK,q⟩:=h;refine ⟨rfl,fun _ _ _ _ hr=>?_⟩
 refine ⟨_,(Zd (Zz (i:=2) Zhw.nd rfl (Or.inl rfl) (Zn (Zpt T) hr.dn rfl T.ZrG T.Dm.kp T.kq .nil Zc (Za (Zy kK (Zy kK (ZJ (v:=.ref g.MARK) rfl T.Zx7 rfl) (dH (Za (pv 1) Ze))) (Zv (pv 0) rfl)) (Za (ZJ (v:=.int 37) rfl T.Zox ⟨_,rfl⟩) Ze))))
  (Zh (Zt (Zn (Zpt T) hr.dn rfl T.ZrG T.Dm.kp T.kq .nil Zc (Za (Zy kK (pv 2) (Zn (Zmp T) hr.dn rfl T.Zoj T.Kx.kp T.ij .nil Zc (Za (Zy xE (fV (Za (pv 2) Ze)) (ZT Zq7 rfl T.pT PyProof.Rows.Boot.«list» (Za (Zv (pv 0) rfl) Ze))) Ze))) (Za (ZJ (v:=.int 64) rfl T.Ki ⟨_,rfl⟩) Ze)))))),?_⟩
 refine ⟨_,rfl,aX 1,fun a ha=>?_⟩;have s1:=Zj (o:=.tup [.int n]) ha;refine ⟨g.MARK,a,_,_,rfl,rfl,T.ZxG _,aF.of Zb,(fun z=>nomatch z),(fun z=>nomatch z),by show 4 + 1<=Ym;decide,fun b H2 s2 hb=>?_⟩;have sA:=s1.trans s2;refine ⟨_,rfl,p,_,dx,_,_,rfl,sA _ _ hp,T.xS,T.ZhW,Gj _ _,b,ht,_,_,rfl,rfl,aF.of hb,aF.of (sA _ _ hht),(fun z=>nomatch z),fun _ _=>hb,?_,fun c H3 s3 hc=>?_⟩
 .rw [Yb];exact Zs (m:=2000) (by show 5 + _<=2000;omega) (by decide)
 have mB:Z1 H3 (Gf++[n]++I.heads) (.ref c):=⟨c,rfl,by rw [hc,Yw];rfl⟩
 have sB:=sA.trans s3;refine ⟨_,_,_,rfl,mB,?_,by decide,by decide,fun u H4 s4 Cd=>?_⟩
 .rw [Yg];show 5 + _<=_;omega
 have yY:(gv (Gf++[n]++I.heads) 37).length<=2000:=by
  unfold gv;rw [Yg,YM,Yg];show 5 + _ + _<=_;omega
 change Z1 H4 (zV I n) u at Cd;change (zV I n).length<=2000 at yY;obtain ⟨d,rfl,hd⟩:=Cd;have sC:=sB.trans s4;unfold DC at q;generalize zV I n=R at hd yY q;refine ⟨_,rfl,_,rfl,aX 1,fun e he=>?_⟩;have s5:=Zj (o:=.lst [.ref d]) he;have sD:=sC.trans s5;refine ⟨_,rfl,p,_,dx,_,_,rfl,sD _ _ hp,T.xS,T.Eg,Gd _ _,pa,kvs,rfl,.inl (sD _ _ jE),fun l bs hl hk=>?_⟩;have s6:=Zj (o:=.lst (bs.map V.ref)) hl;refine ⟨e,l,_,_,rfl,rfl,s6 _ _ Zb,Zb,?_,fun m hm=>?_⟩
 .rw [Yb,hk.1,Yb,uA.len];exact Zs (m:=3000) (by show 1 + _<=3000;omega) (by decide)
 have s7:=Zj (o:=.lst ([.ref d]++bs.map V.ref)) hm;have sE:=s5.trans (s6.trans s7);refine ⟨R::I.places.map (·.1),_,rfl,⟨m,_,rfl,Zb,.cons ⟨d,rfl,sE _ _ hd⟩ ?_⟩,?_,fun u H5 s8 ⟨x,e2,hx⟩=>?_⟩
 .refine ZpO (H:=upd (upd (upd H4 e (.lst [.ref d])) l (.lst (bs.map V.ref))) m (.lst ([.ref d]++bs.map V.ref))) uA hk.1 fun i b k hb hkk=>?_;exact s7 _ _ (s6 _ _ (hk.2 i b k hb hkk))
 .rw [Yz,Yb];omega
 subst e2;have zm:=s8 _ _ (sE _ _ hd);refine ⟨d,x,_,_,rfl,rfl,aF.of zm,aF.of hx,fun _=>hx,fun _ _=>zm,?_,fun y H6 s9 hy=>?_⟩
 .rw [Yb,Yb];exact Zs (m:=3000) (by show _ + 4<=3000;omega) (by decide)
 refine ⟨_,_,_,rfl,⟨y,rfl,by rw [hy,<- Yw]⟩,?_,by decide,by decide,fun u H7 jL hu7=>?_⟩
 .rw [Yg];show _ + 4<=_;omega
 exact q u H7 (sC.trans (sE.trans (s8.trans (s9.trans jL)))) hu7
def u6 (row:Row) (i:Nat):Row:=(row.drop (i * 63)).take 63
def oi (ns:Row):Row:=ns.drop 1++[0]
def GN (row ns:Row) (i:Nat):Row:=(oi ns).getD i 0::(u6 row i++List.replicate (63 - (u6 row i).length) 0)
def qb (row ns:Row):List Row:=(List.range (oi ns).length).map (GN row ns)
theorem ZvH (row:Row) (a b:Nat) (h:a<=b):bD (row.map V.int) (some (a:Int)) (some (b:Int))=((row.drop a).take (b - a)).map V.int:=by
 unfold bD;rw [HT.cx,HT.cx,Yb,<- List.map_drop,<- Yap]
 congr 1
 rcases Yaf a row.length with h1 | h1
 .rw [WD h1];rcases Yaf b row.length with h2 | h2
  .rw [WD h2]
  .rw [X2 h2,YS (by rw [YU];exact Ye _),YS (by rw [YU];omega)]
 .rw [X2 h1,Wq,Yab h1,Ya5,Ya5]
theorem Zu9 (row:Row) (i:Nat):(u6 row i).length<=63:=by unfold u6;rw [Y0];omega
theorem Zpn {H H':Hp} {vs:List V} {rows:List Row} (h:WA (fun a b=>Z1 H b a) vs rows) (k:∀ a (r:Row),H a=some (.tup (r.map V.int))->H' a=some (.tup (r.map V.int))):WA (fun a b=>Z1 H' b a) vs rows:=by
 induction h with
 | nil=>exact .nil
 | cons a _ ih=>obtain ⟨t,e,ht⟩:=a;exact .cons ⟨t,e,k _ _ ht⟩ ih
inductive dA (vs:List V) (H:Hp) (Q:VK) (aL:XK):Prop
 | mk (row:_) (rv:_) (ns:_) (nv:_):vs=[rv,nv]->Z1 H row rv->Z1 H ns nv->ns.length<=10000->(∀ l us H',ag H H'->H l=none->H' l=some (.lst us)->WA (fun a b=>Z1 H' b a) us (qb row ns)->Q (.ref l) H')->dA vs H Q aL
theorem Ay:Zp ["row","numbers","blocks","place","following","part"] ["row","numbers"] (Zi Zgz):=ZN (by decide +kernel)
theorem Zln (T:Tx K mg g):ah P w K mg base (ay P w) 1 g.J7 g.K5 ["row","numbers"] dA:=by
 refine T.K0.aP Ay fun vs H Q E h=>?_;obtain ⟨row,rv,ns,nv,rfl,⟨ra,rfl,hra⟩,⟨na,rfl,wY⟩,hz,q⟩:=h;refine ⟨rfl,fun _ _ _ _ hr=>?_⟩
 refine ⟨_,(Zd (Zz (i:=2) Ay.nd rfl (Or.inl rfl) (fV Ze))
  (Zd (jS Y2 rfl (Zpp rfl T.Zqt (Za (Zy kK (p_ xM (pv 1) (nA Zl) sO) (dH (Za (ZJ (v:=.int 0) rfl T.Zng ⟨_,rfl⟩) Ze))) Ze)) (zK rfl (qa (Z9 (i:=3) Ay.nd rfl (Or.inl rfl)) (qa (Z9 (i:=4) Ay.nd rfl (Or.inl rfl)) zR))) (Zd (Zz (i:=5) Ay.nd rfl (Or.inl rfl) (p_ xM (pv 0) (nA (Zy ni (pv 3) (ZJ (v:=.int 63) rfl T.Ai ⟨_,rfl⟩))) (nA (Zy ni (Zy kJ (pv 3) Zl) (ZJ (v:=.int 63) rfl T.Ai ⟨_,rfl⟩)))))
  (Zh (ZC (lR YR Xl Xk qT (pv 2) (Za (Zy kK (Zy kK (dH (Za (pv 4) Ze)) (pv 5)) (Zy zQ (dH (Za Zl Ze)) (Zy u5 (ZJ (v:=.int 63) rfl T.Ai ⟨_,rfl⟩) (ZD ZI (by rfl) T.eL YC (Za (pv 5) Ze))))) Ze))))))
  (Zh (Zt (pv 2))))),?_⟩
 refine ⟨Yv _,fun B hB=>?_⟩;have s0:=Zj (o:=.lst []) hB;refine ⟨_,rfl,_,rfl,na,_,rfl,s0 _ _ wY,fun c1 H1 s1 iw=>?_⟩;rw [show bD (ns.map V.int) (some 1) none=(ns.drop 1).map V.int from Zqb ns 1] at iw;refine ⟨aX 1,fun c2 jO=>?_⟩;have s2:=Zj (o:=.tup [.int 0]) jO;refine ⟨c1,c2,_,_,rfl,rfl,aF.of (s2 _ _ iw),aF.of Zb,fun _=>Zb,(fun z=>nomatch z),?_,fun f H3 s3 hf=>?_⟩
 .rw [Yb,YU];exact Zs (m:=20000) (by show _ + 1<=20000;omega) (by decide)
 have rZ:H3 f=some (.tup ((oi ns).map V.int)):=by rw [hf];unfold oi;rw [Yw];rfl
 have sA:=s1.trans (s2.trans s3);have dy:(oi ns).length<=10001:=by unfold oi;rw [Yg,YU];show _ + 1<=_;omega
 refine ⟨f,rfl,⟨_,aF.of rZ⟩,?_⟩
 refine Zvu (xs:=(oi ns).map V.int) (fun i σ H'=>∃ o3 o4 o5 us,σ=[some (.ref ra),some (.ref na),some (.ref B),o3,o4,o5]/\H' B=some (.lst us)/\WA (fun a b=>Z1 H' b a) us ((List.range i).map (GN row ns))/\H' f=some (.tup ((oi ns).map V.int))/\ag H H')
  ⟨none,none,none,[],rfl,sA _ _ Zb,.nil,rZ,s0.trans sA⟩ (fun i σ H' _ h=>?_) (fun i x t σ H' hx h ht=>?_) (fun σ H' h=>?_)
 .obtain ⟨o3,o4,o5,us,rfl,_,_,rZ,_⟩:=h;exact aF.of rZ
 .obtain ⟨o3,o4,o5,us,rfl,uM,hp,rZ,sm⟩:=h;rw [Yo] at hx
  cases hn:(oi ns)[i]? with
  | none=>rw [hn] at hx;cases hx
  | some n=>
   rw [hn] at hx
   cases hx
   have hi:i < (oi ns).length:=(List.getElem?_eq_some_iff.mp hn).1;have lJ:us.length=i:=by rw [Xr hp,Yb,Xv]
   have s4:=Zj (o:=.tup [.int (i:Nat),.int n]) ht;refine ⟨t,_,rfl,aF.of Zb,rfl,_,_,rfl,_,_,rfl,rfl,?_⟩;refine ⟨_,rfl,_,rfl,_,_,rfl,rfl,.inr ⟨by decide,by decide⟩,_,rfl,_,rfl,_,_,rfl,rfl,_,_,rfl,rfl,.inr ⟨by decide,by decide⟩,_,rfl,ra,_,rfl,s4 _ _ (sm _ _ hra),fun pp H5 s5 Cf=>?_⟩
   have e1:bD (row.map V.int) (some ((i:Int) * 63)) (some (((i:Int) + 1) * 63))=(u6 row i).map V.int:=by
    have:=ZvH row (i * 63) ((i + 1) * 63) (by omega)
    rw [show (((i * 63:Nat):Int))=(i:Int) * 63 by omega,show ((((i + 1) * 63:Nat):Int))=((i:Int) + 1) * 63 by omega] at this;rw [this];unfold u6;rw [show (i + 1) * 63 - i * 63=63 by omega]
   rw [e1] at Cf;have cK:=Zu9 row i;generalize hpe:u6 row i=part at Cf cK;have sB:=s4.trans s5;refine ⟨_,rfl,.inl ⟨rfl,_,aq.of (sB _ _ uM)⟩,?_⟩;refine ⟨_,rfl,aX 1,fun x1 E6=>?_⟩;have s6:=Zj (o:=.tup [.int n]) E6;refine ⟨_,rfl,x1,pp,_,_,rfl,rfl,aF.of Zb,aF.of (s6 _ _ Cf),(fun z=>nomatch z),fun _ _=>Zb,?_,fun x2 H7 s7 E5=>?_⟩
   .rw [Yb];exact Zs (m:=100) (by show 1 + _<=100;omega) (by decide)
   refine ⟨aX 1,fun x3 hx3=>?_⟩;have s8:=Zj (o:=.tup [.int 0]) hx3;have Mz:=s8 _ _ (s7 _ _ (s6 _ _ Cf));refine ⟨_,rfl,pp,_,rfl,.inr (aF.of Mz),_,_,rfl,rfl,x3,_,_,rfl,rfl,Zb,by simp,?_,?_,?_,fun x4 H9 s9 hx4=>?_⟩
   .rw [Yb];omega
   .rw [Yb];omega
   .rw [Yb];show 1 * _<=_;exact Zs (m:=100) (by omega) (by decide)
   rw [xY,Yb] at hx4;have A9:=s9 _ _ (s8 _ _ E5);refine ⟨x2,x4,_,_,rfl,rfl,aF.of A9,aF.of hx4,(fun z=>nomatch z),fun _ _=>A9,?_,fun x5 jb jL hx5=>?_⟩
   .rw [Yg,Yb,YM];exact Zs (m:=300) (by show 1 + _ + _<=300;omega) (by decide)
   have sC:=sB.trans (s6.trans (s7.trans (s8.trans (s9.trans jL))));refine ⟨B,us,_,rfl,rfl,sC _ _ uM,?_,?_⟩
   .rw [lJ]
    have:(10002:Nat)<=Ym:=by decide
    omega
   have sD:∀ b o,H b=some o->(upd jb B (.lst (us++[.ref x5]))) b=some o:=fun b o e=>by rw [Zf (Zg e hB)];exact sC _ _ (sm _ _ e)
   have nfB:f≠B:=ZR rZ uM (by intro z;cases z);have nx5:x5≠B:=ZR hx5 (sC _ _ uM) (by intro z;cases z);refine ⟨_,_,_,us++[.ref x5],rfl,Zb,?_,(by rw [Zf nfB];exact sC _ _ rZ),sD⟩;rw [List.range_succ,Yw];refine YaX ?_ ⟨x5,rfl,?_⟩
   .refine Zpn hp fun a row' ha=>?_;have wN:a≠B:=ZR ha uM (by intro z;cases z);rw [Zf wN];exact sC _ _ ha
   .rw [Zf nx5,hx5];unfold GN;rw [hpe,Ys,hn];rw [Yt,Yw,Wy];have e2:((63:Int) - (part.length:Int)).toNat=63 - part.length:=by omega
    rw [e2];rfl
 .obtain ⟨o3,o4,o5,us,rfl,uM,hp,rZ,sm⟩:=h;rw [Yb] at hp;exact ⟨_,rfl,q B us _ sm hB uM hp⟩
end KS
namespace L2
open PySem PySem.Spec PyProof.Rows PySem.W
theorem Zuc {d:Addr} {ob:Obj} {kvs:List (List Key×V)} {g:TG} {tb:TS} {D:Ends} {σ:St} {H:Hp} (Pv:Nat->St->Hp->Prop) (h0:Pv 0 σ H) (hl:∀ i σ H,i<=kvs.length->Pv i σ H->H d=some (.bu ob (.dT kvs)))
  (hs:∀ i t b k v σ H,kvs[i]?=some (k,v)->H b=some (.tup (k.map kV))->H t=none->Pv i σ H->g (.ref t) σ (upd H t (.tup [.ref b,v])) fun bI H2=>tb {D with nx:=Pv (i + 1),ct:=Pv (i + 1),bk:=D.nx} bI H2) (hd:∀ σ H,Pv kvs.length σ H->D.nx σ H) :
  ∃ W:Nat->Nat->St->Hp->Prop,(∃ m,W 0 m σ H)/\∀ i m σ H,W i m σ H->
   ((AF d ob kvs).stop i H/\D.nx σ H)∨((AF d ob kvs).go i H/\∃ N:St->Hp->Prop,(∀ aB H',N aB H'->∃ m',m' < m/\W (i + 1) m' aB H')/\∀ x H',(AF d ob kvs).mn i H x H'->g x σ H' fun bI H2=>tb {D with nx:=N,ct:=N,bk:=D.nx} bI H2):=by
 refine ⟨fun i m σ H=>m=kvs.length - i/\i<=kvs.length/\Pv i σ H,⟨kvs.length,by simp,Yv _,h0⟩,?_⟩
 rintro i m σ H ⟨rfl,hi,p⟩
 have q:=hl i σ H hi p
 by_cases br:i < kvs.length
 .refine .inr ⟨⟨q,br⟩,Pv (i + 1),fun aB H' p'=>⟨kvs.length - (i + 1),by omega,rfl,br,p'⟩,fun x H' y=>?_⟩;obtain ⟨t,b,k,v,ht,rfl,hk,hb,rfl⟩:=y;exact hs i t b k v σ _ hk hb ht p
 .have e:i=kvs.length:=by omega
  subst e;exact .inl ⟨⟨q,Ye _⟩,hd σ H p⟩
theorem Zw2 {K:Frag} {a b:Addr} {xs ys:List V} {g:TG} {tb:TS} {D:Ends} {σ:St} {H:Hp} (Pv:Nat->St->Hp->Prop) (hxy:xs.length=ys.length) (h0:Pv 0 σ H) (hl:∀ i σ H,i<=xs.length->Pv i σ H->aF K H a xs/\aq K H b ys)
  (hs:∀ i x y t σ H,xs[i]?=some x->ys[i]?=some y->H t=none->Pv i σ H->g (.ref t) σ (upd H t (.tup [x,y])) fun bI H2=>tb {D with nx:=Pv (i + 1),ct:=Pv (i + 1),bk:=D.nx} bI H2) (hd:∀ σ H,Pv xs.length σ H->D.nx σ H) :
  ∃ W:Nat->Nat->St->Hp->Prop,(∃ m,W 0 m σ H)/\∀ i m σ H,W i m σ H->
   ((AB K a b).stop i H/\D.nx σ H)∨((AB K a b).go i H/\∃ N:St->Hp->Prop,(∀ aB H',N aB H'->∃ m',m' < m/\W (i + 1) m' aB H')/\∀ x H',(AB K a b).mn i H x H'->g x σ H' fun bI H2=>tb {D with nx:=N,ct:=N,bk:=D.nx} bI H2):=by
 refine ⟨fun i m σ H=>m=xs.length - i/\i<=xs.length/\Pv i σ H,⟨xs.length,by simp,Yv _,h0⟩,?_⟩
 rintro i m σ H ⟨rfl,hi,p⟩
 obtain ⟨q1,q2⟩:=hl i σ H hi p
 by_cases br:i < xs.length
 .have lh:i < ys.length:=by omega
  refine .inr ⟨⟨xs,ys,xs[i],ys[i],q1,q2,by simp [br],by simp [lh]⟩,Pv (i + 1),fun aB H' p'=>⟨xs.length - (i + 1),by omega,rfl,br,p'⟩,fun z H' y=>?_⟩;obtain ⟨t,x,y,ht,rfl,h1,h2,rfl⟩:=y;exact hs i x y t σ _ (h1 xs q1) (h2 ys q2) ht p
 .have e:i=xs.length:=by omega
  subst e;exact .inl ⟨⟨xs,ys,q1,q2,.inl (Ye _)⟩,hd σ H p⟩
end L2
namespace KS
open PySem L2
variable {P:Program} {w:World} {K:Yf} {mg:Str->Option Value} {base:Heap} {g:Gs}
def pR (H:Hp) (o:Option Row) (v:V):Prop:=match o with
 | none=>v=.aK
 | some r=>Z1 H r v
inductive mS where
 | wr (n:Int) (b:Option Row)
 | bar
def uU (H:Hp) (e:mS) (v:V):Prop:=match e with
 | .wr n b=>∃ t u,v=.ref t/\H t=some (.tup [.str "write",.int n,u])/\pR H b u
 | .bar=>∃ t,v=.ref t/\H t=some (.tup [.str "barrier"])
structure dg where
 blocks:List (Option Row)
 log:List mS
structure Zy4 (g:Gs) (H:Hp) (p b l:Addr) (D:dg) (dx:Addr) (vb vl:List V):Prop where
 ob:H p=some (.ins g.bE dx (d3 b l))
 hb:H b=some (.lst vb)
 hl:H l=some (.lst vl)
 rb:WA (fun v o=>pR H o v) vb D.blocks
 rl:WA (fun v e=>uU H e v) vl D.log
 ne:b≠l
def dQ (g:Gs) (H:Hp) (p b l:Addr) (D:dg):Prop:=∃ dx vb vl,Zy4 g H p b l D dx vb vl
theorem pR.keep {H H':Hp} (k:∀ t xs,H t=some (.tup xs)->H' t=some (.tup xs)) {o:Option Row} {v:V} (h:pR H o v):pR H' o v:=by
 cases o with
 | none=>exact h
 | some r=>obtain ⟨t,e,ht⟩:=h;exact ⟨t,e,k _ _ ht⟩
theorem uU.keep {H H':Hp} (k:∀ t xs,H t=some (.tup xs)->H' t=some (.tup xs)) {e:mS} {v:V} (h:uU H e v):uU H' e v:=by
 cases e with
 | wr n b=>obtain ⟨t,u,e,ht,hb⟩:=h;exact ⟨t,u,e,k _ _ ht,hb.keep k⟩
 | bar=>obtain ⟨t,e,ht⟩:=h;exact ⟨t,e,k _ _ ht⟩
theorem vA {α β:Type} {F G:α->β->Prop} (k:∀ a b,F a b->G a b):∀ {xs:List α} {ys:List β},WA F xs ys->WA G xs ys
 | _,_,.nil=>.nil
 | _,_,.cons a t=>.cons (k _ _ a) (vA k t)
theorem Zm5 {α β:Type} {F:α->β->Prop} {a:α} {b:β} (h:F a b):∀ {xs:List α} {ys:List β} (i:Nat),WA F xs ys->WA F (xs.set i a) (ys.set i b)
 | _,_,_,.nil=>.nil
 | _,_,0,.cons _ t=>.cons h t
 | _,_,i + 1,.cons a' t=>.cons a' (Zm5 h i t)
def Zyv (o:HO):Prop:=(∃ xs,o=.tup xs)∨(∃ xs,o=.lst xs)∨∃ C dx b l,o=.ins C dx (d3 b l)
theorem dQ.keep {g:Gs} {H H':Hp} {p b l:Addr} {D:dg} (h:dQ g H p b l D) (k:∀ d o,H d=some o->Zyv o->H' d=some o):dQ g H' p b l D:=by
 obtain ⟨dx,vb,vl,h⟩:=h;have kt:∀ t xs,H t=some (.tup xs)->H' t=some (.tup xs):=fun t xs e=>k _ _ e (.inl ⟨xs,rfl⟩);exact ⟨dx,vb,vl,k _ _ h.ob (.inr (.inr ⟨_,_,_,_,rfl⟩)),k _ _ h.hb (.inr (.inl ⟨_,rfl⟩)),k _ _ h.hl (.inr (.inl ⟨_,rfl⟩)),vA (fun _ _ z=>pR.keep kt z) h.rb,vA (fun _ _ z=>uU.keep kt z) h.rl,h.ne⟩
theorem dQ.same {g:Gs} {H H':Hp} {p b l:Addr} {D:dg} (s:ag H H') (h:dQ g H p b l D):dQ g H' p b l D:=h.keep fun d o e _=>s _ _ e
def dg.write (D:dg) (n:Int) (b:Option Row):dg:=⟨D.blocks.set n.toNat b,D.log++[.wr n b]⟩
def dg.cy (D:dg):dg:=⟨D.blocks,D.log++[.bar]⟩
theorem He {g:Gs} {H:Hp} {p b l:Addr} {D:dg} {n:Int} {blk:Option Row} {v:V} {Q:VK} {E:XK} (hD:dQ g H p b l D) (hv:pR H blk v) (h0:0<=n) (h1:n < (D.blocks.length:Int)) (hz:D.log.length<=100000)
  (q:∀ H',aR b l H H'->dQ g H' p b l (D.write n blk)->Q .aK H'):jl g.bE [.ref p,.int n,v] H Q E:=by
 obtain ⟨dx,vb,vl,h⟩:=hD;have uH:vb.length=D.blocks.length:=Xr h.rb;have Cm:vl.length=D.log.length:=Xr h.rl;refine ⟨p,dx,b,l,vb,vl,n,v,rfl,h.ob,h.hb,h.hl,h.ne,h0,by rw [uH];exact h1,by rw [Cm];exact hz,fun t ht=>?_⟩;have ntb:b≠t:=Zg h.hb ht;have ES:l≠t:=Zg h.hl ht;have B7:p≠b:=ZR h.ob h.hb (by intro z;cases z);have ET:p≠l:=ZR h.ob h.hl (by intro z;cases z)
 have k:aR b l H (upd (upd (upd H b (.lst (vb.set n.toNat v))) t (.tup [.str "write",.int n,v])) l (.lst (vl++[.ref t]))):=fun d o e hd1 hd2=>by
  rw [Zf hd2,Zf (Zg e ht),Zf hd1];exact e
 have kt:∀ d xs,H d=some (.tup xs)->(upd (upd (upd H b (.lst (vb.set n.toNat v))) t (.tup [.str "write",.int n,v])) l (.lst (vl++[.ref t]))) d=some (.tup xs):=fun d xs e=>k _ _ e (ZR e h.hb (by intro z;cases z)) (ZR e h.hl (by intro z;cases z));refine q _ k ⟨dx,vb.set n.toNat v,_,k _ _ h.ob B7 ET,?_,Zb,?_,?_,h.ne⟩
 .rw [Zf h.ne,Zf ntb,Zb]
 .exact Zm5 (F:=fun v o=>pR _ o v) (hv.keep kt) _ (vA (fun _ _ z=>pR.keep kt z) h.rb)
 .refine YaX (vA (fun _ _ z=>uU.keep kt z) h.rl) ⟨t,v,rfl,?_,hv.keep kt⟩;rw [Zf ES.symm,Zb]
theorem Znp {g:Gs} {H:Hp} {p b l:Addr} {D:dg} {Q:VK} {E:XK} (hD:dQ g H p b l D) (hz:D.log.length<=100000) (q:∀ H',aR b l H H'->dQ g H' p b l D.cy->Q .aK H'):oR g.bE [.ref p] H Q E:=by
 obtain ⟨dx,vb,vl,h⟩:=hD;have Cm:vl.length=D.log.length:=Xr h.rl;refine ⟨p,dx,b,l,vl,rfl,h.ob,h.hl,by rw [Cm];exact hz,fun t ht=>?_⟩;have ES:l≠t:=Zg h.hl ht;have B7:p≠b:=ZR h.ob h.hb (by intro z;cases z);have ET:p≠l:=ZR h.ob h.hl (by intro z;cases z)
 have k:∀ d o,H d=some o->d≠l->(upd (upd H t (.tup [.str "barrier"])) l (.lst (vl++[.ref t]))) d=some o:=fun d o e hd2=>by
  rw [Zf hd2,Zf (Zg e ht)];exact e
 have kt:∀ d xs,H d=some (.tup xs)->(upd (upd H t (.tup [.str "barrier"])) l (.lst (vl++[.ref t]))) d=some (.tup xs):=fun d xs e=>k _ _ e (ZR e h.hl (by intro z;cases z));refine q _ (fun d o e _ h2=>k d o e h2) ⟨dx,_,_,k _ _ h.ob ET,k _ _ h.hb h.ne,Zb,vA (fun _ _ z=>pR.keep kt z) h.rb,?_,h.ne⟩;refine YaX (vA (fun _ _ z=>uU.keep kt z) h.rl) ⟨t,rfl,?_⟩;rw [Zf ES.symm,Zb]
def qM (D:dg):Int:=if (256:Int) < (D.blocks.length:Int) then 256 else (D.blocks.length:Int)
structure qV where
 slot:Int
 turn:Int
 synced:g4
def dE (d s t y:V):List (Str×V):=au "synced" y (au "turn" t (au "slot" s (au "disk" d [])))
theorem EC:¬ (("disk":Str)="synced"):=by decide +kernel
theorem EB:¬ (("disk":Str)="turn"):=by decide +kernel
theorem EA:¬ (("disk":Str)="slot"):=by decide +kernel
theorem Ez:¬ (("slot":Str)="synced"):=by decide +kernel
theorem Ey:¬ (("slot":Str)="turn"):=by decide +kernel
theorem Ex:¬ (("turn":Str)="synced"):=by decide +kernel
theorem zF (d s t y:V):(dE d s t y).lookup ("disk":Str)=some d:=by unfold dE;rw [Zo,if_neg EC,Zo,if_neg EB,Zo,if_neg EA,Zo,if_pos rfl]
theorem zG (d s t y:V):(dE d s t y).lookup ("slot":Str)=some s:=by unfold dE;rw [Zo,if_neg Ez,Zo,if_neg Ey,Zo,if_pos rfl]
theorem Zxs (d s t y:V):(dE d s t y).lookup ("turn":Str)=some t:=by unfold dE;rw [Zo,if_neg Ex,Zo,if_pos rfl]
theorem Gb (d s t y:V):(dE d s t y).lookup ("synced":Str)=some y:=by unfold dE;rw [Zo,if_pos rfl]
theorem CP (d s t y:V) {m:Str} (h1:¬ m="synced":=by decide +kernel) (h2:¬ m="turn":=by decide +kernel) (h3:¬ m="slot":=by decide +kernel) (h4:¬ m="disk":=by decide +kernel):(dE d s t y).lookup m=none:=by
 unfold dE;rw [Zo,if_neg h1,Zo,if_neg h2,Zo,if_neg h3,Zo,if_neg h4];rfl
theorem qH (d s t y:V):dE d s t y=([("disk",d),("slot",s),("turn",t),("synced",y)]:List (Str×V)):=by
 have e1:au "slot" s [(("disk":Str),d)]=([("disk",d),("slot",s)]:List (Str×V)):=by
  show (if ("disk":Str)="slot" then [(("disk":Str),s)] else (("disk":Str),d)::au "slot" s [])=_;rw [if_neg EA];rfl
 have e2:au "turn" t [(("disk":Str),d),(("slot":Str),s)]=([("disk",d),("slot",s),("turn",t)]:List (Str×V)):=by
  show (if ("disk":Str)="turn" then (("disk":Str),t)::[(("slot":Str),s)] else (("disk":Str),d)::(if ("slot":Str)="turn" then [(("slot":Str),t)] else (("slot":Str),s)::au "turn" t []))=_;rw [if_neg EB,if_neg Ey];rfl
 have e3:au "synced" y [(("disk":Str),d),(("slot":Str),s),(("turn":Str),t)]=([("disk",d),("slot",s),("turn",t),("synced",y)]:List (Str×V)):=by
  show (if ("disk":Str)="synced" then (("disk":Str),y)::[(("slot":Str),s),(("turn":Str),t)] else (("disk":Str),d)::(if ("slot":Str)="synced" then (("slot":Str),y)::[(("turn":Str),t)] else (("slot":Str),s)::(if ("turn":Str)="synced" then [(("turn":Str),y)] else (("turn":Str),t)::au "synced" y [])))=_;rw [if_neg EC,if_neg Ez,if_neg Ex];rfl
 show au "synced" y (au "turn" t (au "slot" s [(("disk":Str),d)]))=_;rw [e1,e2,e3]
theorem ZuS (d s t y s':V):au "slot" s' (dE d s t y)=dE d s' t y:=by
 rw [qH,qH];show (if ("disk":Str)="slot" then (("disk":Str),s')::[(("slot":Str),s),(("turn":Str),t),(("synced":Str),y)] else (("disk":Str),d)::(if ("slot":Str)="slot" then (("slot":Str),s')::[(("turn":Str),t),(("synced":Str),y)] else _))=_;rw [if_neg EA,if_pos rfl]
theorem ZuQ (d s t y t':V):au "turn" t' (dE d s t y)=dE d s t' y:=by
 rw [qH,qH];show (if ("disk":Str)="turn" then (("disk":Str),t')::[(("slot":Str),s),(("turn":Str),t),(("synced":Str),y)] else (("disk":Str),d)::(if ("slot":Str)="turn" then (("slot":Str),t')::[(("turn":Str),t),(("synced":Str),y)] else (("slot":Str),s)::(if ("turn":Str)="turn" then (("turn":Str),t')::[(("synced":Str),y)] else _)))=_;rw [if_neg EB,if_neg Ey,if_pos rfl]
theorem ZuR (d s t y y':V):au "synced" y' (dE d s t y)=dE d s t y':=by
 rw [qH,qH];show (if ("disk":Str)="synced" then (("disk":Str),y')::[(("slot":Str),s),(("turn":Str),t),(("synced":Str),y)] else (("disk":Str),d)::(if ("slot":Str)="synced" then (("slot":Str),y')::[(("turn":Str),t),(("synced":Str),y)] else (("slot":Str),s)::(if ("turn":Str)="synced" then (("turn":Str),y')::[(("synced":Str),y)] else (("turn":Str),t)::(if ("synced":Str)="synced" then [(("synced":Str),y')] else _))))=_;rw [if_neg EC,if_neg Ez,if_neg Ex,if_pos rfl]
def lQ (g:Gs) (H:Hp) (q p:Addr) (S:qV):Prop:=∃ dx y,H q=some (.ins g.aS dx (dE (.ref p) (.int S.slot) (.int S.turn) y))/\hG H S.synced y
theorem lQ.same {g:Gs} {H H':Hp} {q p:Addr} {S:qV} (s:ag H H'):lQ g H q p S->lQ g H' q p S
 | ⟨dx,y,h1,h2⟩=>⟨dx,y,s _ _ h1,hG.mono _ _ _ _ s h2⟩
theorem G0 (b l:Addr):(d3 b l).lookup ("write":Str)=none:=GS b l (by decide +kernel) (by decide +kernel)
theorem Zm8 (b l:Addr):(d3 b l).lookup ("barrier":Str)=none:=GS b l (by decide +kernel) (by decide +kernel)
def qO (T:qV) (D:dg) (S:az) (k:Kept):Except Rf nE:=vk S k (qN (qM D) T.synced) T.synced
theorem Zp4 (n:Int) (pl:g4) (h:n<=256):(qN n pl).length<=256:=by
 unfold qN;refine Yk (Ya1 _ _) ?_;rw [Xv];omega
structure m_ (pl:g4):Prop where
 n:pl.length<=1000
 ne:∀ p∈pl,p.2≠[]
 fl:(pl.map (·.2)).flatten.length<=100000
theorem oj (f:Str) (v:V):∀ fs:List (Str×V),(au f v fs).length<=fs.length + 1
  | []=>Ye _
  | (k,x)::r=>by
    show (if k=f then (k,v)::r else (k,x)::au f v r).length<=r.length + 1 + 1
    split
    · exact Wz _
    · exact Y4 (oj f v r)
inductive gO (g:Gs) (vs:List V) (H:Hp) (Q:VK) (aL:XK):Prop
 | mk (p:_) (b:_) (l:_) (D:_):vs=[.ref p]->dQ g H p b l D->Q (.int (qM D)) H->gO g vs H Q aL
theorem Zmg:Zp ["disk"] ["disk"] (Zi ZhG):=ZN (by decide +kernel)
theorem Zmq (T:Tx K mg g):ah P w K mg base (ay P w) 1 g.Jp g.KI ["disk"] (gO g):=by
 refine T.Kw.aP Zmg fun vs H Q E h=>?_;obtain ⟨p,b,l,D,rfl,⟨dx,vb,vl,hD⟩,q⟩:=h;refine ⟨rfl,fun _ _ _ _ hr=>?_⟩;refine ⟨_,(Zh (Zt (ZD (Zqj rfl) (by rfl) T.Zxk PyProof.Rows.Boot.«min» (Za (ZD ZI (by rfl) T.eL YC (Za (Zv (pv 0) rfl) Ze)) (Za (ZJ (v:=.int 256) rfl T.Zh8 ⟨_,rfl⟩) Ze))))),?_⟩;refine ⟨_,rfl,p,_,dx,_,_,rfl,hD.ob,T.og,T.Kk,Zwb _ _,b,_,rfl,.inl (aq.of hD.hb),_,_,rfl,?_⟩;rw [Xr hD.rb];exact q
inductive iJ (g:Gs) (vs:List V) (H:Hp) (Q:VK) (aL:XK):Prop
 | mk (q:_) (dx:_) (d:_) (s:_) (t:_) (y:_):vs=[.ref q,d,s,t,y]->H q=some (.ins g.aS dx [])->(∀ H',(∀ b o,H b=some o->b≠q->H' b=some o)->H' q=some (.ins g.aS dx (dE d s t y))->Q .aK H')->iJ g vs H Q aL
theorem ZnL:Zp ["self","disk","slot","turn","synced"] ["self","disk","slot","turn","synced"] (Zi ZjF):=ZN (by decide +kernel)
theorem Zn7 (T:Tx K mg g):ah P w K mg base (ay P w) 1 g.I_ g.J0 ["self","disk","slot","turn","synced"] (iJ g):=by
 refine T.Zkb.aP ZnL fun vs H Q E h=>?_;obtain ⟨q0,dx,d,s0,t,y,rfl,hq,q⟩:=h;refine ⟨rfl,fun _ _ _ _ hr=>?_⟩
 refine ⟨_,(Zd (fW (pv 0) (pv 1) rfl)
  (Zd (fW (pv 0) (pv 2) rfl)
  (Zd (fW (pv 0) (pv 3) rfl)
  (Zh (fW (pv 0) (pv 4) rfl))))),?_⟩
 refine ⟨_,rfl,_,rfl,q0,g.aS,dx,[],rfl,hq,T.g5,T.yf,(by show 0 < 1000;decide),?_⟩;refine ⟨_,rfl,_,rfl,q0,g.aS,dx,_,rfl,Zb,T.g5,T.DY,(by show 1 < 1000;decide),?_⟩;refine ⟨_,rfl,_,rfl,q0,g.aS,dx,_,rfl,Zb,T.g5,T.DZ,?_,?_⟩
 .exact YO (oj _ _ _) (YO (Y4 (oj _ _ _)) (by show 2 < 1000;decide))
 refine ⟨_,rfl,_,rfl,q0,g.aS,dx,_,rfl,Zb,T.g5,T.Ak,?_,?_⟩
 .exact YO (oj _ _ _) (YO (Y4 (oj _ _ _)) (YO (Y4 (Y4 (oj _ _ _))) (by show 3 < 1000;decide)))
 refine q _ (fun b o e hb=>?_) Zb;rw [Zf hb,Zf hb,Zf hb,Zf hb];exact e
inductive gL (g:Gs) (vs:List V) (H:Hp) (Q:VK) (E:XK):Prop
 | mk (q:_) (p:_) (b:_) (l:_) (T:_) (D:_) (v:_) (S:_) (kv:_) (k:_):vs=[.ref q,v,kv]->lQ g H q p T->dQ g H p b l D->ZA g H S v->eN g H k kv->dR S->i9 k->m_ T.synced->d0 g (jH g) H (qO T D S k) Q E->gL g vs H Q E
theorem Zdh:Zp ["self","state","kept","free"] ["self","state","kept"] (Zi Zd4):=ZN (by decide +kernel)
theorem Zdo (T:Tx K mg g):ah P w K mg base (ay P w) 5 g.Lp g.Lz ["self","state","kept"] (gL g):=by
 refine T.Zed.aP Zdh fun vs H Q E h=>?_;obtain ⟨q0,p,b,l,T0,D,v,S,kv,k,rfl,⟨dx,y,hq,hy⟩,hD,hS,hk,so,kk,po,q⟩:=h;refine ⟨rfl,fun _ _ _ _ hr=>?_⟩
 refine ⟨_,(Zd (Zz (i:=3) Zdh.nd rfl (Or.inl rfl) (Zn (Zlm T) hr.dn rfl T.Zmv T.K1.kp T.gQ .nil Zc (Za (Zn (Zmq T) hr.dn rfl T.Zok T.Kw.kp T.ik .nil Zc (Za (Zv (pv 0) rfl) Ze)) (Za (Zv (pv 0) rfl) Ze))))
  (Zh (Zt (Zn (ZqJ T) hr.dn rfl T.ZsN T.Ih.kp T.lG .nil Zc (Za (pv 1) (Za (pv 2) (Za (pv 3) (Za (Zv (pv 0) rfl) Ze)))))))),?_⟩
 obtain ⟨ya,ky,rfl,wQ,hyd⟩:=id hy;refine ⟨_,rfl,q0,_,dx,_,_,rfl,hq,T.g5,T.yf,zF _ _ _ _,p,b,l,D,rfl,hD,_,rfl,q0,_,dx,_,_,rfl,hq,T.g5,T.Ak,Gb _ _ _ _,?_⟩;have w_:0<=qM D:=by unfold qM;split <;> omega
 have iw:qM D<=256:=by unfold qM;split <;> omega
 refine ⟨_,_,T0.synced,rfl,hy,w_,iw,po.n,po.fl,fun f H1 s1 hf=>?_⟩;refine ⟨_,rfl,_,rfl,_,rfl,_,rfl,q0,_,dx,_,_,rfl,s1 _ _ hq,T.g5,T.Ak,Gb _ _ _ _,?_⟩;refine ⟨v,S,kv,k,f,_,_,T0.synced,rfl,ZA.mono _ _ _ _ s1 hS,eN.mono _ _ _ _ s1 hk,hf,hG.mono _ _ _ _ s1 hy,so,kk,Yk (Zp4 _ _ iw) (by decide),po.ne,?_⟩;unfold qO at q
 cases hm:vk S k (qN (qM D) T0.synced) T0.synced with
 | error r=>rw [hm] at q;exact fun H' s'=>q H' (s1.trans s')
 | ok I=>rw [hm] at q;exact fun v' H' s' h'=>q v' H' (s1.trans s') h'
def zP (D:dg) (p:Int×Row):dg:=D.write p.1 (some p.2)
def Zs6 (D:dg) (row ns:Row):dg:=(ns.zip (qb row ns)).foldl zP D
def lU (rG:g4) (D:dg) (p:Row×Row):dg:=if (aa rG p.1).isSome then D else Zs6 D p.1 p.2
def qE (T:qV) (D:dg) (I:nE):qV×dg:=
 (⟨1 - T.slot,(T.turn + 1) % 256,I.places⟩,((((I.places.foldl (lU T.synced) D).cy).write (1 - T.slot) (some (DC I ((T.turn + 1) % 256)))).cy))
theorem ZfH {row ns:Row} (h:ns≠[]):(qb row ns).length=ns.length:=by
 unfold qb oi;rw [Yb,Xv,Yg,YU]
 have:0 < ns.length:=List.length_pos_iff.mpr h
 show ns.length - 1 + 1=ns.length;omega
theorem GA:∀ (ps:List (Int×Row)) (D:dg),(ps.foldl zP D).blocks.length=D.blocks.length/\(ps.foldl zP D).log.length=D.log.length + ps.length
 | [],D=>⟨rfl,rfl⟩
 | p::ps,D=>by
  obtain ⟨h1,h2⟩:=GA ps (zP D p);rw [List.foldl_cons];refine ⟨h1.trans (Ybw ..),h2.trans ?_⟩;show (D.log++[mS.wr p.1 (some p.2)]).length + ps.length=_
  simp only [Yg,Yz,Ybx]
  omega
theorem CN (rG:g4):∀ (pl:g4) (D:dg),(∀ p∈pl,p.2≠[])->(pl.foldl (lU rG) D).blocks.length=D.blocks.length/\(pl.foldl (lU rG) D).log.length<=D.log.length + (pl.map (·.2)).flatten.length
 | [],D,_=>⟨rfl,Ye _⟩
 | p::pl,D,h=>by
  obtain ⟨h1,h2⟩:=CN rG pl (lU rG D p) fun q hq=>h q (Yr _ hq)
  have hs:(lU rG D p).blocks.length=D.blocks.length/\(lU rG D p).log.length<=D.log.length + p.2.length:=by
   unfold lU
   split
   .exact ⟨rfl,WS _ _⟩
   .unfold Zs6;obtain ⟨a1,a2⟩:=GA (p.2.zip (qb p.1 p.2)) D;refine ⟨a1,?_⟩;rw [a2,Ybv,ZfH (h p YA),Nat.min_self];exact Ye _
  rw [List.foldl_cons,Yt,Xh,Yg];refine ⟨h1.trans hs.1,?_⟩;omega
theorem Znh {α β:Type} (f:β->α->β) (b:β) (xs:List α) {i:Nat} {x:α} (h:xs[i]?=some x):(xs.take (i + 1)).foldl f b=f ((xs.take i).foldl f b) x:=by
 have hi:i < xs.length:=(List.getElem?_eq_some_iff.mp h).1;rw [Xb hi,List.foldl_append,(List.getElem?_eq_some_iff.mp h).2];rfl
theorem Zw5 {H:Hp} {a t:Addr} {kvs:List (List Key×V)} {row:Row} (e:Rd H a (.dT kvs)) (ht:H t=some (.tup (row.map V.int))):aI H a (.ref t) (aW kvs (rKey row)):=.inr ⟨kvs,rKey row,t,e,rfl,by rw [zS];exact ht,rfl⟩
theorem Zp9 {H:Hp}:∀ {pl:g4} {kvs:List (List Key×V)},Z8 rKey Z1 H pl kvs->∀ {i:Nat} {k:List Key} {v:V},kvs[i]?=some (k,v)->∃ row ns,pl[i]?=some (row,ns)/\k=rKey row/\Z1 H ns v
 | _,_,.nil,i,k,v,h=>by simp at h
 | q::_,p::_,.cons a t,0,k,v,h=>by
  simp at h
  obtain ⟨a1,a2⟩:=a;rw [h] at a1 a2;exact ⟨q.1,q.2,rfl,a1,a2⟩
 | _,_,.cons a t,i + 1,k,v,h=>by
  obtain ⟨row,ns,h1,h2,h3⟩:=Zp9 t (i:=i) (by simpa using h);exact ⟨row,ns,by simpa using h1,h2,h3⟩
theorem ZrY {H H':Hp} (k:∀ d xs,H d=some (.tup xs)->H' d=some (.tup xs)) {pl:g4} {kvs:List (List Key×V)} (h:Z8 rKey Z1 H pl kvs):Z8 rKey Z1 H' pl kvs:=by
 unfold Z8 at *
 induction h with
 | nil=>exact .nil
 | cons a _ ih=>obtain ⟨e1,t,e2,ht⟩:=a;exact .cons ⟨e1,t,e2,k _ _ ht⟩ ih
structure F7 (D:dg) (I:nE):Prop where
 n:I.places.length<=1000
 h:I.heads.length<=1000
 ne:∀ p∈I.places,p.2≠[]/\p.2.length<=1000/\∀ n∈p.2,0<=n/\n < (D.blocks.length:Int)
 fl:(I.places.map (·.2)).flatten.length<=50000
inductive ph (g:Gs) (vs:List V) (H:Hp) (Q:VK) (aL:XK):Prop
 | mk (q:_) (p:_) (b:_) (l:_) (T:_) (D:_) (v:_) (I:_):vs=[.ref q,v]->lQ g H q p T->dQ g H p b l D->jH g H I v->F7 D I->(T.slot=0∨T.slot=1)->2<=D.blocks.length->D.log.length<=40000->(∀ H',(∀ d o,H d=some o->d≠b->d≠l->d≠q->H' d=some o)->lQ g H' q p (qE T D I).1->dQ g H' p b l (qE T D I).2->Q .aK H')->ph g vs H Q aL
theorem As:Zp ["self","image","row","numbers","number","block"] ["self","image"] (Zi ZjE):=ZN (by decide +kernel)
theorem Zn6 (T:Tx K mg g):ah P w K mg base (ay P w) 8 g.Ja g.J4 ["self","image"] (ph g):=by
 refine T.Zka.aP As fun vs H Q E h=>?_;obtain ⟨q0,p,b,l,T0,D,v,I,rfl,⟨eK,y,hq,hy⟩,hD,⟨pi,FW,plv,hdv,rfl,pH,⟨pa,kvs,rfl,jE,uA⟩,hhd⟩,io,BO,nR,Bi,q⟩:=h;refine ⟨rfl,fun _ _ _ _ hr=>?_⟩;obtain ⟨ya,ky,rfl,wQ,hyd⟩:=id hy;have hu:=u1 hr.units;obtain ⟨dxd,vb,vl,i5⟩:=id hD
 refine ⟨_,(Zd (GJ (jS Y2 rfl (Zu5 (xF YW Yba Ya9 Hn (Zv (pv 1) rfl))) (zK rfl (qa (Z9 (i:=2) As.nd rfl (Or.inl rfl)) (qa (Z9 (i:=3) As.nd rfl (Or.inl rfl)) zR))) (Zh (Z0 (i_ (x9 hu (pv 2) (Zv (pv 0) rfl))) (Zh (jS Y2 rfl (ZxI rfl T.Zyw (Za (pv 3) (Za (Zn (Zln T) hr.dn rfl T.Zmw T.K0.kp T.gR .nil Zc (Za (pv 2) (Za (pv 3) Ze))) Ze))) (zK rfl (qa (Z9 (i:=4) As.nd rfl (Or.inl rfl)) (qa (Z9 (i:=5) As.nd rfl (Or.inl rfl)) zR))) (Zh (ZC (ZP (Zv (pv 0) rfl) T.og T.JC (Ko T) hr.dn T.cB .nil Zc (Za (pv 4) (Za (pv 5) Ze))))))) Zx))))
  (Zd (ZC (nB (Zv (pv 0) rfl) T.og T.ZgJ (Zfo T) hr.dn T.c8 .nil Zc))
  (Zd (fW (pv 0) (Zy u5 Zl (Zv (pv 0) rfl)) rfl)
  (Zd (fW (pv 0) (Zy df (Zy kJ (Zv (pv 0) rfl) Zl) (ZJ (v:=.int 256) rfl T.Zt9 ⟨_,rfl⟩)) rfl)
  (Zd (ZC (ZP (Zv (pv 0) rfl) T.og T.JC (Ko T) hr.dn T.cB .nil Zc (Za (Zv (pv 0) rfl) (Za (Zn (Zn1 T) hr.dn rfl T.ZpE T.JO.kp T.jr .nil Zc (Za (pv 1) (Za (Zv (pv 0) rfl) Ze))) Ze))))
  (Zd (ZC (nB (Zv (pv 0) rfl) T.og T.ZgJ (Zfo T) hr.dn T.c8 .nil Zc))
  (Zh (fW (pv 0) (Zv (pv 1) rfl) rfl)))))))),?_⟩
 refine ⟨pa,.dT kvs,jE,rfl,?_⟩;refine ⟨_,rfl,pi,_,FW,_,_,rfl,pH,T.xS,T.Eg,Gd _ _,.inr (.inr (.inl ⟨rfl,.inr ⟨kvs,jE⟩⟩)),pa,.dT kvs,rfl,rfl,.inl jE,rfl,fun r eG=>?_⟩;have npr:pa≠r:=Zg jE eG;refine ⟨r,pa,kvs,rfl,Zb,(by rw [Zf npr];exact jE),fun ob=>?_⟩;have B6:q0≠pa:=ZR hq jE (by intro z;cases z);have yK:b≠pa:=ZR i5.hb jE (by intro z;cases z);have yI:l≠pa:=ZR i5.hl jE (by intro z;cases z);have npp:p≠pa:=ZR i5.ob jE (by intro z;cases z);have yG:q0≠b:=ZR hq i5.hb (by intro z;cases z);have yF:q0≠l:=ZR hq i5.hl (by intro z;cases z);have zd:kvs.length=I.places.length:=uA.len
 refine Zuc (d:=pa) (ob:=ob) (kvs:=kvs) (fun i σ H'=>(∃ o2 o3 o4 o5,σ=[some (.ref q0),some (.ref pi),o2,o3,o4,o5])/\H' pa=some (.bu ob (.dT kvs))/\(∀ d o,H d=some o->d≠b->d≠l->d≠pa->H' d=some o)/\dQ g H' p b l ((I.places.take i).foldl (lU T0.synced) D))
  ⟨⟨none,none,none,none,rfl⟩,Zb,(fun d o e _ _ h3=>by rw [Zf h3,Zf (Zg e eG)];exact e),hD.keep (fun d o e _=>?_)⟩ (fun i σ H' _ h=>h.2.1) (fun i t b0 k v0 σ H' qv Fq ht h=>?_) (fun σ H' h=>?_)
 .by_cases z:d=pa
  .rename_i nK
   subst z;rw [jE] at e
   cases e
   rcases nK with ⟨_,z⟩ | ⟨_,z⟩ | ⟨_,_,_,_,z⟩ <;> cases z
  .rw [Zf z,Zf (Zg e eG)];exact e
 .obtain ⟨⟨o2,o3,o4,o5,rfl⟩,i3,kp,sg⟩:=h;obtain ⟨row,ns,cK,rfl,⟨tv,rfl,rT⟩⟩:=Zp9 uA qv;rw [zS] at Fq;have mM:=Yy cK;obtain ⟨bZ,nL,Bc⟩:=io.ne _ mM;change ns≠[] at bZ;change ns.length<=1000 at nL;change ∀ n∈ns,_ at Bc;have s1:=Zj (o:=.tup [.ref b0,.ref tv]) ht;refine ⟨t,_,rfl,aF.of Zb,rfl,_,_,rfl,_,_,rfl,rfl,?_⟩;have hqA:∀ {H2:Hp},(∀ d o,H d=some o->d≠b->d≠l->d≠pa->H2 d=some o)->H2 q0=some (.ins g.aS eK (dE (.ref p) (.int T0.slot) (.int T0.turn) (.ref ya))):=fun k2=>k2 _ _ hq yG yF B6;have jM:∀ d o,H d=some o->d≠b->d≠l->d≠pa->(upd H' t (.tup [.ref b0,.ref tv])) d=some o:=fun d o e h1 h2 h3=>s1 _ _ (kp d o e h1 h2 h3)
  have hyR:Rd (upd H' t (.tup [.ref b0,.ref tv])) ya (.dT ky):=by
   by_cases z:ya=pa
   .subst z;rw [jE] at wQ
    cases wQ
    exact .inr ⟨ob,s1 _ _ i3⟩
   .exact .inl (jM _ _ wQ (ZR wQ i5.hb (by intro z;cases z)) (ZR wQ i5.hl (by intro z;cases z)) z)
  refine ⟨_,rfl,_,rfl,q0,_,eK,_,_,rfl,hqA jM,T.g5,T.Ak,Gb _ _ _ _,ya,_,rfl,Zw5 hyR (s1 _ _ Fq),_,rfl,?_⟩;rw [hyd.some xX,Znh _ _ _ cK];generalize hDe:(I.places.take i).foldl (lU T0.synced) D=Di at sg
  have hlen:Di.blocks.length=D.blocks.length/\Di.log.length<=90000:=by
   rw [<- hDe];obtain ⟨a1,a2⟩:=CN T0.synced (I.places.take i) D fun p hp=>(io.ne p (List.mem_of_mem_take hp)).1;refine ⟨a1,Yk a2 ?_⟩
   have e1:(I.places.map (·.2)).flatten=((I.places.take i).map (·.2)).flatten++((I.places.drop i).map (·.2)).flatten:=by
    rw [<- XU,<- Yw,YbD]
   have dy:=io.fl;rw [e1,Yg] at dy;omega
  unfold lU
  cases hg:(aa T0.synced row).isSome with
  | true=>
   refine av ⟨⟨_,_,_,_,rfl⟩,s1 _ _ i3,jM,?_⟩;rw [if_pos rfl];exact sg.same s1
  | false=>
   rw [if_neg (show ¬ (false=true) by decide)];refine ax ?_;have A_:=jM _ _ rT (ZR rT i5.hb (by intro z;cases z)) (ZR rT i5.hl (by intro z;cases z)) (ZR rT jE (by intro z;cases z));refine ⟨_,rfl,_,rfl,_,rfl,row,_,ns,_,rfl,⟨b0,rfl,s1 _ _ Fq⟩,⟨tv,rfl,A_⟩,Yk nL (by decide),fun lb us H4 s4 Cn Bj hus=>?_⟩;have sh:dQ g H4 p b l Di:=(sg.same s1).same s4;obtain ⟨zC,vb4,vl4,h4⟩:=id sh;obtain ⟨i8,vb1,vl1,h1D⟩:=id (sg.same s1);have nlb:lb≠b:=(Zg h1D.hb Cn).symm;have nll:lb≠l:=(Zg h1D.hl Cn).symm;have nlbp:lb≠pa:=(Zg (s1 _ _ i3) Cn).symm;have B':∀ d o,H d=some o->d≠b->d≠l->d≠pa->H4 d=some o:=fun d o e h1 h2 h3=>s4 _ _ (jM d o e h1 h2 h3);have cG:=ZfH (row:=row) bZ;have lJ:us.length=ns.length:=by rw [Xr hus,cG]
   refine ⟨tv,lb,rfl,⟨_,aF.of (s4 _ _ A_)⟩,⟨_,aq.of Bj⟩,?_⟩
   refine Zw2 (xs:=ns.map V.int) (ys:=us) (fun j σ H'=>(∃ o4 o5,σ=[some (.ref q0),some (.ref pi),some (.ref b0),some (.ref tv),o4,o5])/\H' pa=some (.bu ob (.dT kvs))/\(∀ d o,H d=some o->d≠b->d≠l->d≠pa->H' d=some o)/\H' lb=some (.lst us)/\WA (fun a b=>Z1 H' b a) us (qb row ns)/\dQ g H' p b l (((ns.zip (qb row ns)).take j).foldl zP Di))
    (by rw [Yb,lJ]) ⟨⟨_,_,rfl⟩,s4 _ _ (s1 _ _ i3),B',Bj,hus,sh⟩ (fun j σ H' _ h=>?_) (fun j x y t2 σ H' hx hy dY h=>?_) (fun σ H' h=>?_)
   .obtain ⟨_,_,wO,rh,_,_⟩:=h;exact ⟨aF.of (wO _ _ rT (ZR rT i5.hb (by intro z;cases z)) (ZR rT i5.hl (by intro z;cases z)) (ZR rT jE (by intro z;cases z))),aq.of rh⟩
   .obtain ⟨⟨o4,o5,rfl⟩,v_,wO,rh,vR,xg⟩:=h;rw [Yo] at hx
    cases hn:ns[j]? with
    | none=>rw [hn] at hx;cases hx
    | some n=>
     rw [hn] at hx
     cases hx
     obtain ⟨blk,MQ,h_⟩:=DB vR hy;obtain ⟨uD,Ck⟩:=Bc n (Yy hn);have hz:(ns.zip (qb row ns))[j]?=some (n,blk):=by rw [YaN];exact ⟨hn,MQ⟩
     have s6:=Zj (o:=.tup [.int n,y]) dY;refine ⟨t2,_,rfl,aF.of Zb,rfl,_,_,rfl,_,_,rfl,rfl,?_⟩;have pM:=xg.same s6;obtain ⟨xl,vb6,vl6,h6⟩:=id pM;obtain ⟨w1,w2⟩:=GA ((ns.zip (qb row ns)).take j) Di
     have hjl:((ns.zip (qb row ns)).take j).length<=1000:=by
      rw [Y0,Ybv];omega
     refine ⟨_,rfl,q0,_,eK,_,_,rfl,s6 _ _ (hqA wO),T.g5,T.yf,zF _ _ _ _,p,xl,_,rfl,h6.ob,G0 _ _,_,rfl,_,rfl,?_⟩;dsimp only [bq,Xf];refine He pM (blk:=some blk) (Z1.mono _ _ _ _ s6 h_) uD (by rw [w1,hlen.1];exact Ck) (by omega) fun H7 b7 Fz=>?_;have nbpa:=yK;have nlpa:=yI;refine ⟨⟨_,_,rfl⟩,b7 _ _ (s6 _ _ v_) yK.symm yI.symm,fun d o e h1 h2 h3=>b7 _ _ (s6 _ _ (wO d o e h1 h2 h3)) h1 h2,b7 _ _ (s6 _ _ rh) nlb nll,Zpn vR (fun a r' ha=>b7 _ _ (s6 _ _ ha) (ZR (s6 _ _ ha) h6.hb (by intro z;cases z)) (ZR (s6 _ _ ha) h6.hl (by intro z;cases z))),?_⟩;rw [Znh _ _ _ hz];exact Fz
   .obtain ⟨⟨o4,o5,rfl⟩,v_,wO,rh,vR,xg⟩:=h;refine ⟨⟨_,_,_,_,rfl⟩,v_,wO,?_⟩;rw [Yb,YS (by rw [Ybv,cG,Nat.min_self];exact Ye _)] at xg;exact xg
 .obtain ⟨⟨o2,o3,o4,o5,rfl⟩,i3,kp,sg⟩:=h;rw [zd,XE] at sg
  have hlen:(I.places.foldl (lU T0.synced) D).blocks.length=D.blocks.length/\(I.places.foldl (lU T0.synced) D).log.length<=90000:=by
   obtain ⟨a1,a2⟩:=CN T0.synced I.places D fun p hp=>(io.ne p hp).1;refine ⟨a1,Yk a2 ?_⟩
   have:=io.fl
   omega
  unfold qE at q;generalize I.places.foldl (lU T0.synced) D=D1 at sg hlen q;refine ⟨ob,.dT kvs,i3,rfl,?_⟩
  -- all is Na: H2
  have yO:∀ d o,H d=some o->d≠b->d≠l->(upd H' pa (.dT kvs)) d=some o:=fun d o e h1 h2=>by
   by_cases z:d=pa
   .subst z;rw [Zb,<- e,jE]
   .rw [Zf z];exact kp d o e h1 h2 z
  have xh:dQ g (upd H' pa (.dT kvs)) p b l D1:=sg.keep fun d o e nK=>by
   by_cases z:d=pa
   .subst z;rw [i3] at e
    cases e
    rcases nK with ⟨_,z⟩ | ⟨_,z⟩ | ⟨_,_,_,_,z⟩ <;> cases z
   .rw [Zf z];exact e
  generalize upd H' pa (.dT kvs)=H2 at yO xh;obtain ⟨iz,vb2,vl2,h2⟩:=id xh;have qp:=yO _ _ hq yG yF;refine ⟨_,rfl,q0,_,eK,_,_,rfl,qp,T.g5,T.yf,zF _ _ _ _,p,iz,_,rfl,h2.ob,Zm8 _ _,?_⟩;dsimp only [bq,Xf];refine Znp xh (by omega) fun H3 b3 qz=>?_;have wU:=b3 _ _ qp yG yF;have k3:∀ d o,H d=some o->d≠b->d≠l->H3 d=some o:=fun d o e h1 h2=>b3 _ _ (yO d o e h1 h2) h1 h2
  -- g6 slot,g6 turn
  refine ⟨_,rfl,q0,_,eK,_,_,rfl,wU,T.g5,T.DY,zG _ _ _ _,_,_,rfl,rfl,_,rfl,q0,_,eK,_,rfl,wU,T.g5,T.DY,(by rw [qH];show 4 < 1000;decide),?_⟩;rw [ZuS];refine ⟨_,rfl,q0,_,eK,_,_,rfl,Zb,T.g5,T.DZ,Zxs _ _ _ _,_,_,rfl,rfl,_,_,rfl,rfl,(by show (0:Int) < 256;decide),_,rfl,q0,_,eK,_,rfl,Zb,T.g5,T.DZ,(by rw [qH];show 4 < 1000;decide),?_⟩;rw [ZuQ]
  have k4:∀ d o,H d=some o->d≠b->d≠l->d≠q0->(upd (upd H3 q0 (.ins g.aS eK (dE (.ref p) (.int (1 - T0.slot)) (.int T0.turn) (.ref ya)))) q0 (.ins g.aS eK (dE (.ref p) (.int (1 - T0.slot)) (.int ((T0.turn + 1) % 256)) (.ref ya)))) d=some o:=fun d o e h1 h2 h3=>by
   rw [Zf h3,Zf h3];exact k3 d o e h1 h2
  have dq:∀ {H5:Hp} {x:V} {d:Addr} {o:HO} {C:Addr} {dx:Addr} {a b c e:V},H5 q0=some (.ins C dx (dE a b c e))->H5 d=some o->Zyv o->d≠q0:=fun {H5 x d o C dx a b c e} h1 h2 h3 z=>by
   subst z;rw [h1] at h2
   cases h2
   rcases h3 with ⟨_,z⟩ | ⟨_,z⟩ | ⟨_,_,_,_,z⟩
   .cases z
   .cases z
   .injection z with _ _ z
    have:=congrArg (fun fs=>XO ("slot":Str) fs) z
    simp only [zG] at this
    rw [GS _ _ (by decide +kernel) (by decide +kernel)] at this
    cases this
  have sh:dQ g (upd (upd H3 q0 (.ins g.aS eK (dE (.ref p) (.int (1 - T0.slot)) (.int T0.turn) (.ref ya)))) q0 (.ins g.aS eK (dE (.ref p) (.int (1 - T0.slot)) (.int ((T0.turn + 1) % 256)) (.ref ya)))) p b l D1.cy:=qz.keep fun d o e nK=>by
   have:=dq (x:=.aK) wU e nK
   rw [Zf this,Zf this];exact e
  have yZ:=Zb (H:=upd H3 q0 (.ins g.aS eK (dE (.ref p) (.int (1 - T0.slot)) (.int T0.turn) (.ref ya)))) (a:=q0) (o:=.ins g.aS eK (dE (.ref p) (.int (1 - T0.slot)) (.int ((T0.turn + 1) % 256)) (.ref ya)));generalize upd (upd H3 q0 (.ins g.aS eK (dE (.ref p) (.int (1 - T0.slot)) (.int T0.turn) (.ref ya)))) q0 (.ins g.aS eK (dE (.ref p) (.int (1 - T0.slot)) (.int ((T0.turn + 1) % 256)) (.ref ya)))=H4 at k4 sh yZ;obtain ⟨zC,vb4,vl4,h4⟩:=id sh
  have Mh:pi≠q0:=fun z=>by
   rw [z,hq] at pH;injection pH with pH;injection pH with _ _ hf
   have:=congrArg (fun fs=>XO ("slot":Str) fs) hf
   simp only [zG] at this
   unfold uo at this;rw [Zo,if_neg (by decide +kernel),Zo,if_neg (by decide +kernel)] at this
   cases this
  have Bf:=k4 _ _ pH (ZR pH i5.hb (by intro z;cases z)) (ZR pH i5.hl (by intro z;cases z)) Mh;have vT:∀ d xs,H d=some (.tup xs)->H4 d=some (.tup xs):=fun d xs e=>k4 _ _ e (ZR e i5.hb (by intro z;cases z)) (ZR e i5.hl (by intro z;cases z)) (ZR e hq (by intro z;cases z));have MA:hG H4 I.places (.ref pa):=⟨pa,kvs,rfl,k4 _ _ jE yK.symm yI.symm B6.symm,ZrY vT uA⟩
  have Fy:jH g H4 I (.ref pi):=⟨pi,FW,.ref pa,hdv,rfl,Bf,MA,by obtain ⟨ht,e,hh⟩:=hhd;exact ⟨ht,e,vT _ _ hh⟩⟩
  have My:0<=1 - T0.slot/\1 - T0.slot < 2:=by rcases BO with z | z <;> omega
  -- g6 head
  refine ⟨_,rfl,q0,_,eK,_,_,rfl,yZ,T.g5,T.yf,zF _ _ _ _,p,zC,_,rfl,h4.ob,G0 _ _,_,rfl,q0,_,eK,_,_,rfl,yZ,T.g5,T.DY,zG _ _ _ _,_,rfl,_,rfl,q0,_,eK,_,_,rfl,yZ,T.g5,T.DZ,Zxs _ _ _ _,?_⟩;refine ⟨I,_,_,rfl,Fy,io.h,Yk io.n (by decide),fun u H5 s5 hu5=>?_⟩;dsimp only [bq,Xf]
  have Cn:D1.cy.log.length<=90001:=by
   show (D1.log++[mS.bar]).length<=_;rw [Yg];show D1.log.length + 1<=_;omega
  refine He (sh.same s5) (blk:=some (DC I ((T0.turn + 1) % 256))) hu5 My.1 (by show 1 - T0.slot < (D1.blocks.length:Int);rw [hlen.1];omega) (by omega) fun H6 b6 pM=>?_;have hq6:=b6 _ _ (s5 _ _ yZ) yG yF;obtain ⟨xl,vb6,vl6,h6⟩:=id pM;refine ⟨_,rfl,q0,_,eK,_,_,rfl,hq6,T.g5,T.yf,zF _ _ _ _,p,xl,_,rfl,h6.ob,Zm8 _ _,?_⟩;dsimp only [bq,Xf];refine Znp pM ?_ fun H7 b7 Fz=>?_
  .show (D1.cy.log++[mS.wr _ _]).length<=_;rw [Yg];show D1.cy.log.length + 1<=_;omega
  have hq7:=b7 _ _ hq6 yG yF;have k7:∀ d o,H4 d=some o->d≠b->d≠l->H7 d=some o:=fun d o e h1 h2=>b7 _ _ (b6 _ _ (s5 _ _ e) h1 h2) h1 h2;have MB:=k7 _ _ Bf (ZR pH i5.hb (by intro z;cases z)) (ZR pH i5.hl (by intro z;cases z));refine ⟨_,rfl,pi,_,FW,_,_,rfl,MB,T.xS,T.Eg,Gd _ _,_,rfl,q0,_,eK,_,rfl,hq7,T.g5,T.Ak,(by rw [qH];show 4 < 1000;decide),?_⟩;rw [ZuR]
  have BN:∀ d xs,H d=some (.tup xs)->(upd H7 q0 (.ins g.aS eK (dE (.ref p) (.int (1 - T0.slot)) (.int ((T0.turn + 1) % 256)) (.ref pa)))) d=some (.tup xs):=fun d xs e=>by
   rw [Zf (ZR e hq (by intro z;cases z))];exact k7 _ _ (vT d xs e) (ZR e i5.hb (by intro z;cases z)) (ZR e i5.hl (by intro z;cases z))
  refine q _ (fun d o e h1 h2 h3=>?_) ⟨eK,.ref pa,Zb,pa,kvs,rfl,?_,ZrY BN uA⟩ (Fz.keep fun d o e nK=>?_)
  .rw [Zf h3];exact k7 _ _ (k4 d o e h1 h2 h3) h1 h2
  .rw [Zf B6.symm];exact k7 _ _ (k4 _ _ jE yK.symm yI.symm B6.symm) yK.symm yI.symm
  .rw [Zf (dq (x:=.aK) hq7 e nK)];exact e
def cN (s k t i:V):List (Str×V):=au "image" i (au "store" t (au "kept" k (au "state" s [])))
theorem FO:¬ (("state":Str)="image"):=by decide +kernel
theorem ff2:¬ (("state":Str)="store"):=by decide +kernel
theorem FN:¬ (("state":Str)="kept"):=by decide +kernel
theorem FL:¬ (("kept":Str)="image"):=by decide +kernel
theorem ff5:¬ (("kept":Str)="store"):=by decide +kernel
theorem FK:¬ (("store":Str)="image"):=by decide +kernel
theorem kH (s k t i:V):(cN s k t i).lookup ("state":Str)=some s:=by unfold cN;rw [Zo,if_neg FO,Zo,if_neg ff2,Zo,if_neg FN,Zo,if_pos rfl]
theorem nc (s k t i:V):(cN s k t i).lookup ("kept":Str)=some k:=by unfold cN;rw [Zo,if_neg FL,Zo,if_neg ff5,Zo,if_pos rfl]
theorem Zya (s k t i:V):(cN s k t i).lookup ("store":Str)=some t:=by unfold cN;rw [Zo,if_neg FK,Zo,if_pos rfl]
theorem Z6 (s k t i:V) {m:Str} (h1:¬ m="image":=by decide +kernel) (h2:¬ m="store":=by decide +kernel) (h3:¬ m="kept":=by decide +kernel) (h4:¬ m="state":=by decide +kernel):(cN s k t i).lookup m=none:=by
 unfold cN;rw [Zo,if_neg h1,Zo,if_neg h2,Zo,if_neg h3,Zo,if_neg h4];rfl
theorem qG (s k t i:V):cN s k t i=([("state",s),("kept",k),("store",t),("image",i)]:List (Str×V)):=by
 have e1:au "kept" k [(("state":Str),s)]=([("state",s),("kept",k)]:List (Str×V)):=by
  show (if ("state":Str)="kept" then [(("state":Str),k)] else (("state":Str),s)::au "kept" k [])=_;rw [if_neg FN];rfl
 have e2:au "store" t [(("state":Str),s),(("kept":Str),k)]=([("state",s),("kept",k),("store",t)]:List (Str×V)):=by
  show (if ("state":Str)="store" then (("state":Str),t)::[(("kept":Str),k)] else (("state":Str),s)::(if ("kept":Str)="store" then [(("kept":Str),t)] else (("kept":Str),k)::au "store" t []))=_;rw [if_neg ff2,if_neg ff5];rfl
 have e3:au "image" i [(("state":Str),s),(("kept":Str),k),(("store":Str),t)]=([("state",s),("kept",k),("store",t),("image",i)]:List (Str×V)):=by
  show (if ("state":Str)="image" then (("state":Str),i)::[(("kept":Str),k),(("store":Str),t)] else (("state":Str),s)::(if ("kept":Str)="image" then (("kept":Str),i)::[(("store":Str),t)] else (("kept":Str),k)::(if ("store":Str)="image" then [(("store":Str),i)] else (("store":Str),t)::au "image" i [])))=_;rw [if_neg FO,if_neg FL,if_neg FK];rfl
 show au "image" i (au "store" t (au "kept" k [(("state":Str),s)]))=_;rw [e1,e2,e3]
theorem Zuh (s k t i i':V):au "image" i' (cN s k t i)=cN s k t i':=by
 rw [qG,qG];show (if ("state":Str)="image" then (("state":Str),i')::[(("kept":Str),k),(("store":Str),t),(("image":Str),i)] else (("state":Str),s)::(if ("kept":Str)="image" then (("kept":Str),i')::[(("store":Str),t),(("image":Str),i)] else (("kept":Str),k)::(if ("store":Str)="image" then (("store":Str),i')::[(("image":Str),i)] else (("store":Str),t)::(if ("image":Str)="image" then [(("image":Str),i')] else _))))=_;rw [if_neg FO,if_neg FL,if_neg FK,if_pos rfl]
theorem Zug (s k t i s':V):au "state" s' (cN s k t i)=cN s' k t i:=by
 rw [qG,qG];show (if ("state":Str)="state" then (("state":Str),s')::[(("kept":Str),k),(("store":Str),t),(("image":Str),i)] else _)=_;rw [if_pos rfl]
theorem Zvw (s k t i k':V):au "kept" k' (cN s k t i)=cN s k' t i:=by
 rw [qG,qG];show (if ("state":Str)="kept" then (("state":Str),k')::[(("kept":Str),k),(("store":Str),t),(("image":Str),i)] else (("state":Str),s)::(if ("kept":Str)="kept" then (("kept":Str),k')::[(("store":Str),t),(("image":Str),i)] else _))=_;rw [if_neg FN,if_pos rfl]
def mR (o:HO):Prop:=∀ C dx s k t i,o≠.ins C dx (cN s k t i)
def mF (H H':Hp):Prop:=∀ d o,H d=some o->mR o->H' d=some o
theorem xB {H H':Hp} (s:ag H H'):mF H H':=fun d o e _=>s _ _ e
theorem mF.trans {H H' AH:Hp} (s:mF H H') (t:mF H' AH):mF H AH:=fun d o e n=>t _ _ (s _ _ e n) n
theorem mF.upd {H:Hp} {f C dx:Addr} {s k t i:V} {o:HO} (h:H f=some (.ins C dx (cN s k t i))):mF H (upd H f o):=fun d u e n=>by
 have:d≠f:=fun z=>by
  subst z;rw [h] at e
  cases e
  exact n _ _ _ _ _ _ rfl
 rw [Zf this];exact e
theorem ZrA (xs:List V):mR (.tup xs):=by intro _ _ _ _ _ _ z;cases z
theorem Zvc (xs:List V):mR (.lst xs):=by intro _ _ _ _ _ _ z;cases z
theorem C8 (xs:List (Key×V)):mR (.dK xs):=by intro _ _ _ _ _ _ z;cases z
theorem ZwM (xs:List (List Key×V)):mR (.dT xs):=by intro _ _ _ _ _ _ z;cases z
theorem Dv {C dx:Addr} {fs:List (Str×V)} (m:Str) {v:V} (h:fs.lookup m=some v) (h1:¬ m="image") (h2:¬ m="store") (h3:¬ m="kept") (h4:¬ m="state"):mR (.ins C dx fs):=by
 intro C' jR s k t i z;injection z with _ _ z;rw [z,Z6 _ _ _ _ h1 h2 h3 h4] at h
 cases h
section
variable {g:Gs} {H H':Hp} (s:mF H H')
include s
theorem Z1.f {r:Row} {v:V}:Z1 H r v->Z1 H' r v | ⟨t,e,h⟩=>⟨t,e,s _ _ h (ZrA _)⟩
theorem gY.f {r:ao} {v:V}:gY H r v->gY H' r v | ⟨t,e,h⟩=>⟨t,e,s _ _ h (C8 _)⟩
omit s in
theorem Z8.gen {κ α ρ:Type} {f:κ->ρ} {R:Hp->α->V->Prop} (k:∀ x v,R H x v->R H' x v) {xs:List (κ×α)} {kvs:List (ρ×V)} (h:Z8 f R H xs kvs):Z8 f R H' xs kvs:=by
 unfold Z8 at *
 induction h with
 | nil=>exact .nil
 | cons a _ ih=>exact .cons ⟨a.1,k _ _ a.2⟩ ih
theorem ZA.f {S:az} {v:V}:ZA g H S v->ZA g H' S v | ⟨p,dx,da,ea,dk,ek,e,h⟩=>⟨p,dx,da,ea,dk,ek,e,s _ _ h.ob (Dv "data" (nh _ _) (by decide +kernel) (by decide +kernel) (by decide +kernel) (by decide +kernel)),s _ _ h.hd (C8 _),s _ _ h.he (C8 _),h.rd.gen (fun _ _ z=>z.f s),h.re.gen (fun _ _ z=>z.f s)⟩
theorem eN.f {k:Kept} {v:V}:eN g H k v->eN g H' k v | ⟨a,kvs,e,h,d⟩=>⟨a,kvs,e,s _ _ h (C8 _),d.gen (fun _ _ z=>z.f s)⟩
theorem hG.f {k:g4} {v:V}:hG H k v->hG H' k v | ⟨a,kvs,e,h,d⟩=>⟨a,kvs,e,s _ _ h (ZwM _),d.gen (fun _ _ z=>z.f s)⟩
theorem jH.f {k:nE} {v:V}:jH g H k v->jH g H' k v | ⟨p,dx,pl,hd,e,h,h1,h2⟩=>⟨p,dx,pl,hd,e,s _ _ h (Dv "heads" (Gj _ _) (by decide +kernel) (by decide +kernel) (by decide +kernel) (by decide +kernel)),h1.f s,h2.f s⟩
theorem lQ.f {q p:Addr} {T:qV}:lQ g H q p T->lQ g H' q p T | ⟨dx,y,h,h1⟩=>⟨dx,y,s _ _ h (Dv "slot" (zG _ _ _ _) (by decide +kernel) (by decide +kernel) (by decide +kernel) (by decide +kernel)),h1.f s⟩
theorem dQ.f {p b l:Addr} {D:dg} (h:dQ g H p b l D):dQ g H' p b l D:=h.keep fun d o e nK=>s _ _ e (by
 rcases nK with ⟨xs,rfl⟩ | ⟨xs,rfl⟩ | ⟨C,dx,b,l,rfl⟩
 .exact ZrA _
 .exact Zvc _
 .exact Dv "log" (Gk _ _) (by decide +kernel) (by decide +kernel) (by decide +kernel) (by decide +kernel))
end
structure bY where
 S:az
 k:Kept
 T:qV
 D:dg
 I:nE
structure Zy3 (g:Gs) (H:Hp) (f q p b l:Addr) (F:bY) (dx:Addr) (sv kv iv:V):Prop where
 ob:H f=some (.ins g.ak dx (cN sv kv (.ref q) iv))
 st:ZA g H F.S sv
 ke:eN g H F.k kv
 wK:lQ g H q p F.T
 Cy:dQ g H p b l F.D
 img:jH g H F.I iv
def cH (g:Gs) (H:Hp) (f q p b l:Addr) (F:bY):Prop:=∃ dx sv kv iv,Zy3 g H f q p b l F dx sv kv iv
theorem cH.same {g:Gs} {H H':Hp} {f q p b l:Addr} {F:bY} (s:ag H H'):cH g H f q p b l F->cH g H' f q p b l F
 | ⟨dx,sv,kv,iv,h⟩=>⟨dx,sv,kv,iv,s _ _ h.ob,h.st.f (xB s),h.ke.f (xB s),h.wK.f (xB s),h.Cy.f (xB s),h.img.f (xB s)⟩
def gy (f:Addr) (H H':Hp):Prop:=∀ d o,H d=some o->d≠f->H' d=some o
inductive iR (g:Gs) (vs:List V) (H:Hp) (Q:VK) (aL:XK):Prop
 | mk (f:_) (dx:_) (a:_) (b:_) (c:_) (d:_):vs=[.ref f,a,b,c,d]->H f=some (.ins g.ak dx [])->(∀ H',(∀ b o,H b=some o->b≠f->H' b=some o)->H' f=some (.ins g.ak dx (cN a b c d))->Q .aK H')->iR g vs H Q aL
theorem ZnR:Zp ["self","state","kept","store","image"] ["self","state","kept","store","image"] (Zi ZjN):=ZN (by decide +kernel)
theorem Zoc (T:Tx K mg g):ah P w K mg base (ay P w) 1 g.Ik g.JP ["self","state","kept","store","image"] (iR g):=by
 refine T.Zkj.aP ZnR fun vs H Q E h=>?_;obtain ⟨f,dx,a,b,c,d,rfl,hf,q⟩:=h;refine ⟨rfl,fun _ _ _ _ hr=>?_⟩
 refine ⟨_,(Zd (fW (pv 0) (pv 1) rfl)
  (Zd (fW (pv 0) (pv 2) rfl)
  (Zd (fW (pv 0) (pv 3) rfl)
  (Zh (fW (pv 0) (pv 4) rfl))))),?_⟩
 refine ⟨_,rfl,_,rfl,f,g.ak,dx,[],rfl,hf,T.Zq,T.ZK,(by show 0 < 1000;decide),?_⟩;refine ⟨_,rfl,_,rfl,f,g.ak,dx,_,rfl,Zb,T.Zq,T.ZY,(by show 1 < 1000;decide),?_⟩;refine ⟨_,rfl,_,rfl,f,g.ak,dx,_,rfl,Zb,T.Zq,T.Kl,?_,?_⟩
 .exact YO (oj _ _ _) (YO (Y4 (oj _ _ _)) (by show 2 < 1000;decide))
 refine ⟨_,rfl,_,rfl,f,g.ak,dx,_,rfl,Zb,T.Zq,T.ZhX,?_,?_⟩
 .exact YO (oj _ _ _) (YO (Y4 (oj _ _ _)) (YO (Y4 (Y4 (oj _ _ _))) (by show 3 < 1000;decide)))
 refine q _ (fun b o e hb=>?_) Zb;rw [Zf hb,Zf hb,Zf hb,Zf hb];exact e
inductive ef (g:Gs) (vs:List V) (H:Hp) (Q:VK) (E:XK):Prop
 | mk (f:_) (dx:_) (s:_) (k:_) (t:_) (i:_):vs=[.ref f]->H f=some (.ins g.ak dx (cN s k t i))->((t=.aK/\E (.ref (g.xa .readOnly)) none H)∨((∃ q,t=.ref q)/\Q .aK H))->ef g vs H Q E
theorem ZdF:Zp ["self"] ["self"] (Zi Zbx):=ZN (by decide +kernel)
theorem ZH (T:Tx K mg g):ah P w K mg base (ay P w) 1 g.LC g.LG ["self"] (ef g):=by
 refine T.ZbC.aP ZdF fun vs H Q E h=>?_;obtain ⟨f,dx,s0,k,t,i,rfl,hf,q⟩:=h;refine ⟨rfl,fun _ _ _ _ hr=>?_⟩;refine ⟨_,(Zh (Z0 (i_ (Zv3 (Zv (pv 0) rfl))) (Zh (Z2 T.Zr7 rfl T.Znb (Za Zr Ze))) Zx)),?_⟩;refine ⟨_,rfl,f,_,dx,_,_,rfl,hf,T.Zq,T.Kl,Zya _ _ _ _,_,rfl,?_⟩;rcases q with ⟨rfl,q⟩ | ⟨⟨q0,rfl⟩,q⟩
 .exact ax ⟨aX 1,q⟩
 .exact av q
def g0 (F:bY) (S:az) (k:Kept):Except Rf bY:=match qO F.T F.D S k with
 | .error r=>.error r
 | .ok I=>.ok ⟨S,k,F.T,F.D,I⟩
inductive j6 (g:Gs) (vs:List V) (H:Hp) (Q:VK) (E:XK):Prop
 | mk (f:_) (q:_) (p:_) (b:_) (l:_) (F:_) (sv:_) (kv:_) (S:_) (k:_):vs=[.ref f,sv,kv]->cH g H f q p b l F->ZA g H S sv->eN g H k kv->dR S->i9 k->m_ F.T.synced->(match g0 F S k with
 | .error r=>∀ H',ag H H'->E (.ref (g.xa r)) none H'
 | .ok F'=>∀ H',gy f H H'->cH g H' f q p b l F'->Q .aK H')->j6 g vs H Q E
theorem Zkn:Zp ["self","state","kept"] ["self","state","kept"] (Zi Zfh):=ZN (by decide +kernel)
theorem tj (T:Tx K mg g):ah P w K mg base (ay P w) 6 g.KD g.Lo ["self","state","kept"] (j6 g):=by
 refine T.Zf5.aP Zkn fun vs H Q E h=>?_;obtain ⟨f,q0,p,b,l,F,sv,kv,S,k,rfl,⟨dx,sv0,EZ,iv0,hF⟩,hS,hk,so,kk,po,q⟩:=h;refine ⟨rfl,fun _ _ _ _ hr=>?_⟩
 refine ⟨_,(Zd (fW (pv 0) (ZP (Zv (pv 0) rfl) T.g5 T.Zd9 (Zdo T) hr.dn T.bT .nil Zc (Za (pv 1) (Za (pv 2) Ze))) rfl)
  (Zd (fW (pv 0) (pv 1) rfl)
  (Zh (fW (pv 0) (pv 2) rfl)))),?_⟩
 obtain ⟨eK,y,hq,hy⟩:=id hF.wK;refine ⟨_,rfl,f,_,dx,_,_,rfl,hF.ob,T.Zq,T.Kl,Zya _ _ _ _,q0,eK,_,rfl,hq,CP _ _ _ _,_,rfl,_,rfl,?_⟩;refine ⟨q0,p,b,l,F.T,F.D,sv,S,kv,k,rfl,hF.wK,hF.Cy,hS,hk,so,kk,po,?_⟩;unfold g0 at q
 cases hm:qO F.T F.D S k with
 | error r=>
  rw [hm] at q;exact fun H' s'=>q H' s'
 | ok I=>
  rw [hm] at q;dsimp only at q;intro iv H1 s1 hI;refine ⟨_,rfl,f,_,dx,_,rfl,s1 _ _ hF.ob,T.Zq,T.ZhX,(by rw [qG];show 4 < 1000;decide),?_⟩;rw [Zuh];refine ⟨_,rfl,_,rfl,f,_,dx,_,rfl,Zb,T.Zq,T.ZK,(by rw [qG];show 4 < 1000;decide),?_⟩;rw [Zug];refine ⟨_,rfl,_,rfl,f,_,dx,_,rfl,Zb,T.Zq,T.ZY,(by rw [qG];show 4 < 1000;decide),?_⟩;rw [Zvw];have sA:mF H1 (upd (upd (upd H1 f (.ins g.ak dx (cN sv0 EZ (.ref q0) iv))) f (.ins g.ak dx (cN sv EZ (.ref q0) iv))) f (.ins g.ak dx (cN sv kv (.ref q0) iv))):=(mF.upd (s1 _ _ hF.ob)).trans ((mF.upd Zb).trans (mF.upd Zb));have sB:=mF.trans (xB s1) sA;refine q _ (fun d o e hd=>?_) ⟨dx,sv,kv,iv,Zb,hS.f sB,hk.f sB,hF.wK.f sB,hF.Cy.f sB,hI.f sA⟩;rw [Zf hd,Zf hd,Zf hd];exact s1 _ _ e
def iE:Row:=List.replicate 64 0
def lT:qV:=⟨1,255,[]⟩
def ja:az:=⟨[],[(0,[])]⟩
def C5 (D:dg):Except Rf bY:=match qO lT (D.write 1 (some iE)) ja [] with
 | .error r=>.error r
 | .ok I=>.ok ⟨ja,[],(qE lT (D.write 1 (some iE)) I).1,(qE lT (D.write 1 (some iE)) I).2,I⟩
def CF (F:bY) (p kind:Str):Except Rf bY:=match sk F.S p kind with
 | .error r=>.error r
 | .ok S=>g0 F S F.k
theorem Zvv:dR ja:=by
 refine ⟨by decide,(fun n r h=>by cases h),fun n es h=>?_⟩
 have:es=[]:=by
  by_cases z:(0:Int)=n
  .have:=gj (p:=((0:Int),([]:ao))) (r:=[]) (k:=n) z
   rw [show aa ja.ent n=aa [((0:Int),([]:ao))] n from rfl,this] at h
   cases h
   rfl
  .have:=ZZ (p:=((0:Int),([]:ao))) (r:=[]) (k:=n) z
   rw [show aa ja.ent n=aa [((0:Int),([]:ao))] n from rfl,this] at h
   cases h
 subst this;exact ⟨by decide,fun p hp=>nomatch hp⟩
def uV (o:HO):Prop:=(∀ xs,o≠.lst xs)/\∀ C dx a b c d,o≠.ins C dx (dE a b c d)
theorem ZtI (xs:List V):uV (.tup xs):=⟨(by intro _ z;cases z),(by intro _ _ _ _ _ _ z;cases z)⟩
theorem G2 (xs:List (Key×V)):uV (.dK xs):=⟨(by intro _ z;cases z),(by intro _ _ _ _ _ _ z;cases z)⟩
theorem Zvb (xs:List (List Key×V)):uV (.dT xs):=⟨(by intro _ z;cases z),(by intro _ _ _ _ _ _ z;cases z)⟩
theorem Zpz {C dx:Addr} {fs:List (Str×V)} (m:Str) {v:V} (h:fs.lookup m=some v) (h1:¬ m="synced") (h2:¬ m="turn") (h3:¬ m="slot") (h4:¬ m="disk"):uV (.ins C dx fs):=by
 refine ⟨(by intro _ z;cases z),fun C' jR s k t i z=>?_⟩;injection z with _ _ z;rw [z,CP _ _ _ _ h1 h2 h3 h4] at h
 cases h
section
variable {g:Gs} {H H':Hp} (s:∀ d o,H d=some o->uV o->H' d=some o)
include s
theorem Z1.ls {r:Row} {v:V}:Z1 H r v->Z1 H' r v | ⟨t,e,h⟩=>⟨t,e,s _ _ h (ZtI _)⟩
theorem gY.ls {r:ao} {v:V}:gY H r v->gY H' r v | ⟨t,e,h⟩=>⟨t,e,s _ _ h (G2 _)⟩
theorem ZA.ls {S:az} {v:V}:ZA g H S v->ZA g H' S v | ⟨p,dx,da,ea,dk,ek,e,h⟩=>⟨p,dx,da,ea,dk,ek,e,s _ _ h.ob (Zpz "data" (nh _ _) (by decide +kernel) (by decide +kernel) (by decide +kernel) (by decide +kernel)),s _ _ h.hd (G2 _),s _ _ h.he (G2 _),h.rd.gen (fun _ _ z=>z.ls s),h.re.gen (fun _ _ z=>z.ls s)⟩
theorem hG.ls {k:g4} {v:V}:hG H k v->hG H' k v | ⟨a,kvs,e,h,d⟩=>⟨a,kvs,e,s _ _ h (Zvb _),d.gen (fun _ _ z=>z.ls s)⟩
theorem jH.ls {k:nE} {v:V}:jH g H k v->jH g H' k v | ⟨p,dx,pl,hd,e,h,h1,h2⟩=>⟨p,dx,pl,hd,e,s _ _ h (Zpz "heads" (Gj _ _) (by decide +kernel) (by decide +kernel) (by decide +kernel) (by decide +kernel)),h1.ls s,h2.ls s⟩
end
theorem Zvq:i9 []:=⟨by decide,fun n S h=>by cases h⟩
inductive gK (g:Gs) (vs:List V) (H:Hp) (Q:VK) (aL:XK):Prop
 | mk (p:_) (b:_) (l:_) (D:_):vs=[.ref p]->dQ g H p b l D->2<=D.blocks.length->D.log.length<=90000->(∀ q H',aR b l H H'->H q=none->lQ g H' q p lT->dQ g H' p b l (D.write 1 (some iE))->Q (.ref q) H')->gK g vs H Q aL
theorem Zpc:Zp ["disk"] ["disk"] (Zi Zk1):=ZN (by decide +kernel)
theorem Zpu (T:Tx K mg g):ah P w K mg base (ay P w) 8 g.Hq g.Jr ["disk"] (gK g):=by
 refine T.Jj.aP Zpc fun vs H Q E h=>?_;obtain ⟨p,b,l,D,rfl,hD,nR,Bi,q⟩:=h;refine ⟨rfl,fun _ _ _ _ hr=>?_⟩;obtain ⟨dx,vb,vl,h⟩:=id hD
 refine ⟨_,(Zd (ZC (ZP (pv 0) T.og T.JC (Ko T) hr.dn T.cB .nil Zc (Za Zl (Za (Zy zQ (dH (Za Zl Ze)) (ZJ (v:=.int 64) rfl T.Ki ⟨_,rfl⟩)) Ze))))
  (Zh (Zt (qJ T.Zvg (Zn7 T) hr.dn rfl T.ZwQ T.jx .nil Zc (Za (pv 0) (Za Zl (Za (Zy u5 (ZJ (v:=.int 256) rfl T.Zt9 ⟨_,rfl⟩) Zl) (Za Zrx Ze)))))))),?_⟩
 refine ⟨_,rfl,p,dx,_,rfl,h.ob,G0 _ _,aX 1,fun a ha=>?_⟩;have s1:=Zj (o:=.tup [.int 0]) ha;refine ⟨a,64,_,rfl,rfl,Zb,by simp,by decide,by decide,by show 1 * 64<=Ym;decide,fun c H2 s2 hc=>?_⟩;rw [xY] at hc;have sA:=s1.trans s2;dsimp only [bq,Xf];refine He (hD.same sA) (blk:=some iE) ⟨c,rfl,by rw [hc];unfold iE;rw [Wy];rfl⟩ (by decide) (by omega) (by omega) fun H3 b3 qz=>?_;refine ⟨_,rfl,_,_,rfl,rfl,fun y hy=>fun x jR hx oK ne=>⟨x,jR,_,_,_,_,rfl,Zb,fun H5 kp hq=>⟨rfl,?_⟩⟩⟩;have s4:=Zj (o:=.dT []) hy
 have s5:ag (upd H3 y (.dT [])) H5:=fun d o eb=>by
  have h1:d≠x:=Zg eb hx;have h2:d≠jR:=Zg eb oK;exact kp d o (by rw [Zf h1,Zf h2];exact eb) h1
 have sB:=s4.trans s5
 have hxH:H x=none:=by
  cases z:H x with
  | none=>rfl
  | some o=>
   by_cases zb:x=b
   .have:=s4 _ _ ((Option.some_get (by rw [show (H3 b).isSome=true by obtain ⟨_,_,_,h3⟩:=qz;rw [h3.hb];rfl]:(H3 b).isSome=true)).symm)
    rw [zb] at hx;obtain ⟨_,_,_,h3⟩:=qz;rw [s4 _ _ h3.hb] at hx
    cases hx
   .by_cases zl:x=l
    .rw [zl] at hx;obtain ⟨_,_,_,h3⟩:=qz;rw [s4 _ _ h3.hl] at hx
     cases hx
    .have:=s4 _ _ (b3 _ _ (sA _ _ z) zb zl)
     rw [hx] at this
     cases this
 refine q x H5 (fun d o e h1 h2=>sB _ _ (b3 _ _ (sA _ _ e) h1 h2)) hxH ⟨jR,.ref y,hq,y,[],rfl,s5 _ _ Zb,.nil⟩ (qz.same sB)
inductive lA (g:Gs) (vs:List V) (H:Hp) (Q:VK) (E:XK):Prop
 | mk (f:_) (q:_) (p:_) (b:_) (l:_) (F:_) (pa:_) (kd:_):vs=[.ref f,.str pa,.str kd]->cH g H f q p b l F->iB F.S->F.S.dat.length<=999->F.S.ent.length<=999->pa.length<=1000->(∀ S,sk F.S pa kd=.ok S->dR S)->i9 F.k->m_ F.T.synced->(match CF F pa kd with
 | .error r=>∀ H',ag H H'->E (.ref (g.xa r)) none H'
 | .ok F'=>∀ H',gy f H H'->cH g H' f q p b l F'->Q (A0 (z0 F.S)) H')->lA g vs H Q E
theorem ZhB:Zp ["self","path","kind","number"] ["self","path","kind"] (Zi ZjL):=ZN (by decide +kernel)
theorem Zoa (T:Tx K mg g):ah P w K mg base (ay P w) 7 g.Io g.JR ["self","path","kind"] (lA g):=by
 refine T.Zkh.aP ZhB fun vs H Q E h=>?_;obtain ⟨f,q0,p,b,l,F,pa,kd,rfl,cM,sm,rR,yQ,hl,nJ,kk,po,q⟩:=h;refine ⟨rfl,fun _ _ _ _ hr=>?_⟩;obtain ⟨dx,sv,kv,iv,hF⟩:=id cM
 refine ⟨_,(Zd (ZC (nB (pv 0) T.Zq T.ZL (ZH T) hr.dn T.ai .nil Zc))
  (Zd (Zz (i:=3) ZhB.nd rfl (Or.inl rfl) (Zn (ZhS T) hr.dn rfl T.ZjX T.D6.kp T.eo .nil Zc (Za (Zv (pv 0) rfl) Ze)))
  (Zd (ZC (ZP (pv 0) T.Zq T.s_ (tj T) hr.dn T.aE .nil Zc (Za (Zn (ZwJ T) hr.dn rfl T.ZxS T.Gm.kp T.wD .nil Zc (Za (Zv (pv 0) rfl) (Za (pv 1) (Za (pv 2) Ze)))) (Za (Zv (pv 0) rfl) Ze))))
  (Zh (Zt (pv 3)))))),?_⟩
 refine ⟨_,rfl,f,dx,_,rfl,hF.ob,Z6 _ _ _ _,?_⟩;refine ⟨f,dx,_,_,_,_,rfl,hF.ob,.inr ⟨⟨q0,rfl⟩,?_⟩⟩;refine ⟨_,rfl,f,_,dx,_,_,rfl,hF.ob,T.Zq,T.ZK,kH _ _ _ _,sv,F.S,rfl,hF.st,?_⟩;refine ⟨_,rfl,f,dx,_,rfl,hF.ob,Z6 _ _ _ _,_,rfl,f,_,dx,_,_,rfl,hF.ob,T.Zq,T.ZK,kH _ _ _ _,_,rfl,_,rfl,?_⟩;refine ⟨sv,F.S,pa,kd,rfl,hF.st,sm,rR,yQ,hl,?_⟩;unfold CF at q
 cases hm:sk F.S pa kd with
 | error r=>
  rw [hm] at q;exact fun H' s'=>q H' s'
 | ok S=>
  rw [hm] at q;dsimp only at q;intro v2 H2 s2 gb;have nS:=cM.same s2;refine ⟨_,rfl,f,_,dx,_,_,rfl,s2 _ _ hF.ob,T.Zq,T.ZY,nc _ _ _ _,?_⟩;refine ⟨f,q0,p,b,l,F,v2,kv,S,F.k,rfl,nS,gb,eN.mono _ _ _ _ s2 hF.ke,nJ S hm,kk,po,?_⟩
  cases ht:g0 F S F.k with
  | error r=>
   rw [ht] at q;exact fun H' s'=>q H' (s2.trans s')
  | ok F'=>
   rw [ht] at q;exact fun H' b1 h'=>⟨_,rfl,q H' (fun d o e hd=>b1 _ _ (s2 _ _ e) hd) h'⟩
inductive fu (g:Gs) (vs:List V) (H:Hp) (Q:VK) (E:XK):Prop
 | mk (p:_) (b:_) (l:_) (D:_):vs=[.ref p]->dQ g H p b l D->2<=D.blocks.length->D.log.length<=30000->(∀ I,qO lT (D.write 1 (some iE)) ja []=.ok I->F7 (D.write 1 (some iE)) I)->(match C5 D with
 | .error r=>∀ H',aR b l H H'->E (.ref (g.xa r)) none H'
 | .ok F=>∀ f q H',aR b l H H'->cH g H' f q p b l F->Q (.ref f) H')->fu g vs H Q E
theorem D2:Zp ["disk","state","store","image"] ["disk"] (Zi Zk4):=ZN (by decide +kernel)
theorem Zpv (T:Tx K mg g):ah P w K mg base (ay P w) 9 g.formatted g.JB ["disk"] (fu g):=by
 refine T.Ji.aP D2 fun vs H Q E h=>?_;obtain ⟨p,b,l,D,rfl,hD,nR,Bi,hio,q⟩:=h;refine ⟨rfl,fun _ _ _ _ hr=>?_⟩
 refine ⟨_,(Zd (Zz (i:=1) D2.nd rfl (Or.inl rfl) (Zu8 (Zmn T) hr.dn rfl T.Zoh T.Kz.kp T.ie .nil Zc))
  (Zd (Zz (i:=2) D2.nd rfl (Or.inl rfl) (Zn (Zpu T) hr.dn rfl T.ZqR T.Jj.kp T.kr .nil Zc (Za (pv 0) Ze)))
  (Zd (Zz (i:=3) D2.nd rfl (Or.inl rfl) (ZP (pv 2) T.g5 T.Zd9 (Zdo T) hr.dn T.bT .nil Zc (Za (pv 1) (Za qP Ze))))
  (Zd (ZC (ZP (pv 2) T.g5 T.ZpV (Zn6 T) hr.dn T.jw .nil Zc (Za (pv 3) Ze)))
  (Zh (Zt (qJ T.Zvi (Zoc T) hr.dn rfl T.ZtX T.jC .nil Zc (Za (pv 1) (Za qP (Za (pv 2) (Za (pv 3) Ze))))))))))),?_⟩
 refine ⟨rfl,fun sv H1 s1 hS=>?_⟩;obtain ⟨_,vb0,vl0,h0⟩:=id hD;refine ⟨_,rfl,p,b,l,D,rfl,hD.same s1,nR,by omega,fun q0 H2 b2 hq0 hT xh=>?_⟩;have k2:∀ d o,H1 d=some o->uV o->H2 d=some o:=fun d o e n=>b2 _ _ e (fun z=>by subst z;rw [s1 _ _ h0.hb] at e;cases e;exact n.1 _ rfl) (fun z=>by subst z;rw [s1 _ _ h0.hl] at e;cases e;exact n.1 _ rfl);have gb:=hS.ls k2;obtain ⟨eK,y,hq,hy⟩:=id hT;refine ⟨_,rfl,q0,eK,_,rfl,hq,CP _ _ _ _,_,rfl,fun ka pK=>?_⟩;have s3:=Zj (o:=.dK []) pK;dsimp only [bq,Xf];refine ⟨q0,p,b,l,lT,_,sv,ja,_,[],rfl,hT.same s3,xh.same s3,ZA.mono _ _ _ _ s3 gb,⟨ka,[],rfl,Zb,.nil⟩,Zvv,Zvq,⟨Yv _,(fun p hp=>nomatch hp),Yv _⟩,?_⟩;unfold C5 at q
 cases hm:qO lT (D.write 1 (some iE)) ja [] with
 | error r=>
  rw [hm] at q;exact fun H' s'=>q H' (fun d o e h1 h2=>s' _ _ (s3 _ _ (b2 _ _ (s1 _ _ e) h1 h2)))
 | ok I=>
  rw [hm] at q;dsimp only at q;intro iv H3 s4 hI;have hT3:=(hT.same s3).same s4;have qz:=(xh.same s3).same s4;obtain ⟨nU,y3,wU,hy3⟩:=id hT3;obtain ⟨_,vb3,vl3,h3⟩:=id qz;refine ⟨_,rfl,q0,nU,_,rfl,wU,CP _ _ _ _,_,rfl,?_⟩;dsimp only [bq,Xf];have io:=hio I hm;refine ⟨q0,p,b,l,lT,D.write 1 (some iE),iv,I,rfl,hT3,qz,hI,io,.inr rfl,?_,?_,fun H4 k4 hT4 sh=>?_⟩
  .show 2<=(D.blocks.set _ _).length;rw [Ybw];exact nR
  .show (D.log++[_]).length<=_;rw [Yg];show D.log.length + 1<=_;omega
  have k4':∀ d o,H3 d=some o->uV o->H4 d=some o:=fun d o e n=>k4 _ _ e (fun z=>by subst z;rw [h3.hb] at e;cases e;exact n.1 _ rfl) (fun z=>by subst z;rw [h3.hl] at e;cases e;exact n.1 _ rfl) (fun z=>by subst z;rw [wU] at e;cases e;exact n.2 _ _ _ _ _ _ rfl);have hS4:ZA g H4 ja sv:=ZA.ls k4' (ZA.mono _ _ _ _ (s3.trans s4) gb);have Fy:=hI.ls k4';refine ⟨_,rfl,fun kb hkb=>?_⟩;have s5:=Zj (o:=.dK []) hkb;refine ⟨_,rfl,_,rfl,fun x jR hx oK ne=>⟨x,jR,_,_,_,_,rfl,Zb,fun H6 kp hf=>⟨rfl,?_⟩⟩⟩
  have s6:ag (upd H4 kb (.dK [])) H6:=fun d o eb=>by
   have h1:d≠x:=Zg eb hx;have h2:d≠jR:=Zg eb oK;exact kp d o (by rw [Zf h1,Zf h2];exact eb) h1
  have sB:=s5.trans s6;refine q x q0 H6 (fun d o e h1 h2=>?_) ⟨jR,sv,.ref kb,iv,hf,ZA.mono _ _ _ _ sB hS4,⟨kb,[],rfl,s6 _ _ Zb,.nil⟩,hT4.same sB,sh.same sB,jH.mono _ _ _ _ sB Fy⟩;have hdq:d≠q0:=Zg (s1 _ _ e) hq0;exact sB _ _ (k4 _ _ (s4 _ _ (s3 _ _ (b2 _ _ (s1 _ _ e) h1 h2))) h1 h2 hdq)
def yb (S:az) (n:Int):Except Rf Unit:=if ZE S n then .ok () else .error .aA
def fj (S:az) (n:Int):Except Rf Row:=if ZE S n then (match aa S.ent n with
 | some _=>.error .wrongKind
 | none=>.ok ((aa S.dat n).getD [])) else .error .aA
def iC (S:az):List Int:=(S.ent.map fun p=>p.2.map (·.2)).flatten
def kindOf (S:az) (n:Int):Str:=if (aa S.ent n).isSome then "dir" else "file"
def vm (S:az) (n:Int):Int:=if (aa S.ent n).isSome then 1 else ((iC S).count n:Nat)
def vd (S:az) (n:Int):Int:=match aa S.ent n with
 | some es=>10 * (es.length:Int)
 | none=>(((aa S.dat n).getD []).length:Nat)
def qL (S:az) (n bz:Int) (row:Row):Except Rf az:=match fj S n with
 | .error r=>.error r
 | .ok d=>if 600 < bz + (row.length:Int) then .error .aM else if row=[] then .ok S else
  .ok ⟨af S.dat n ((gv d bz).take bz.toNat++row++d.drop (bz + (row.length:Int)).toNat),S.ent⟩
def qQ (S:az) (n size:Int):Except Rf az:=match fj S n with
 | .error r=>.error r
 | .ok d=>if 600 < size then .error .aM else .ok ⟨af S.dat n ((gv d size).take size.toNat),S.ent⟩
def sM (S:az) (old new:Str):Except Rf az:=if !fI old then .error .aJ else if !fI new then .error .aJ else
 match fT S (Zw old) [0] with
 | .error r=>.error r
 | .ok ps=>if (aa S.ent (ps.getLastD 0)).isSome then .error .wrongKind else match nD S new with
  | .error r=>.error r
  | .ok d=>if 40<=((aa S.ent d).getD []).length then .error .aM else .ok (Z5 S d (Zm new) (ps.getLastD 0))
theorem GU {S:az} {p:Str} {d:Int} (h:nD S p=.ok d):p≠"/"/\∃ es,aa S.ent d=some es:=by
 unfold nD at h
 split at h
 .cases h
 .rename_i h0
  cases hw:lW S p with
  | error r=>rw [hw] at h;cases h
  | ok ps=>
   rw [hw] at h;dsimp only at h;unfold lW at hw
   cases h2:fT S (Zw p).dropLast [0] with
   | error r=>rw [h2] at hw;cases hw
   | ok qs=>
    rw [h2] at hw;dsimp only at hw
    cases h3:aa S.ent (qs.getLastD 0) with
    | none=>rw [h3] at hw;cases hw
    | some es=>
     rw [h3] at hw
     cases hw
     rw [h3] at h;dsimp only at h
     split at h
     .cases h
     .cases h
      exact ⟨h0,es,h3⟩
theorem Zuv (xs:List Int) (n:Int) (h:0<=n):bD (xs.map V.int) none (some n)=(xs.take n.toNat).map V.int:=by
 rw [show n=((n.toNat:Nat):Int) by omega,Zqa];rfl
theorem Zux (xs:List Int) (n:Int) (h:0<=n):bD (xs.map V.int) (some n) none=(xs.drop n.toNat).map V.int:=by
 rw [show n=((n.toNat:Nat):Int) by omega];generalize n.toNat=m;unfold bD;rw [HT.gF,HT.cx,<- List.map_drop,<- Yap,Yb]
 congr 1
 rw [Xc];rcases Yaf m xs.length with h | h
 .rw [WD h];exact YS (by rw [YU];exact Ye _)
 .rw [X2 h,Yab h,Wq,Nat.sub_self];rfl
theorem Zuy (xs:List Int) (a b:Int) (h0:0<=a) (h1:0<=b):bD (xs.map V.int) (some a) (some (a + b))=((xs.drop a.toNat).take b.toNat).map V.int:=by
 rw [show a + b=((a.toNat + b.toNat:Nat):Int) by omega,show a=((a.toNat:Nat):Int) by omega];rw [Xc];generalize a.toNat=m;generalize b.toNat=k;unfold bD;rw [HT.cx,HT.cx,<- List.map_drop,<- Yap,Yb]
 congr 1
 rcases Yaf m xs.length with h | h
 .rw [WD h];rcases Yaf (m + k) xs.length with h2 | h2
  .rw [WD h2,Nat.add_sub_cancel_left]
  .rw [X2 h2,YS (by rw [YU];omega),YS (by rw [YU];omega)]
 .rw [X2 h,X2 (by omega),Wq,Yab h,Ya5,Ya5]
theorem Zuz (xs:List Int) (n:Int):((xs.map V.int).countP fun z=>jQ z (.int n))=xs.count n:=by
 rw [List.countP_map,List.count]
 congr 1
inductive d9 (g:Gs) (vs:List V) (H:Hp) (Q:VK) (E:XK):Prop
 | mk (v:_) (S:_) (n:_):vs=[v,.int n]->ZA g H S v->d0 g m9 H (yb S n) Q E->d9 g vs H Q E
theorem Zme:Zp ["state","number"] ["state","number"] (Zi ZhE):=ZN (by decide +kernel)
theorem K' (T:Tx K mg g):ah P w K mg base (ay P w) 2 g.Jy g.KO ["state","number"] (d9 g):=by
 refine T.An.aP Zme fun vs H Q E h=>?_;obtain ⟨v,S,n,rfl,hS,q⟩:=h;refine ⟨rfl,fun _ _ _ _ hr=>?_⟩;refine ⟨_,(Zh (Z0 (pV (nZ (Zn (Zll T) hr.dn rfl T.Zna T.DG.kp T.gP .nil Zc (Za (pv 0) (Za (pv 1) Ze))))) (Zh (Z2 T.HY rfl T.DF (Za Zr Ze))) Zx)),?_⟩;refine ⟨_,rfl,_,rfl,v,S,n,rfl,hS,_,rfl,?_⟩
 cases hb:ZE S n with
 | true=>exact av (q.ok (x:=()) (by unfold yb;rw [hb];rfl) _ _ (ag.refl _) rfl)
 | false=>exact ax ⟨aX 1,q.no (r:=.aA) (by unfold yb;rw [hb];rfl) _ (ag.refl _)⟩
inductive kl (g:Gs) (vs:List V) (H:Hp) (Q:VK) (E:XK):Prop
 | mk (v:_) (S:_) (n:_):vs=[v,.int n]->ZA g H S v->d0 g Z1 H (fj S n) Q E->kl g vs H Q E
theorem Zss:Zp ["state","number"] ["state","number"] (Zi Zpl):=ZN (by decide +kernel)
theorem IU (T:Tx K mg g):ah P w K mg base (ay P w) 3 g.GQ g.Hz ["state","number"] (kl g):=by
 refine T.Aa.aP Zss fun vs H Q E h=>?_;obtain ⟨v,S,n,rfl,lM,q⟩:=h;refine ⟨rfl,fun _ _ _ _ hr=>?_⟩;have hu:=u1 hr.units
 refine ⟨_,(Zd (ZC (Zn (K' T) hr.dn rfl T.Kj T.An.kp T.bX .nil Zc (Za (pv 0) (Za (pv 1) Ze))))
  (Zd (Z0 (i_ (nj hu (pv 1) (Zv (pv 0) rfl))) (Zh (Z2 T.vz rfl T.tD (Za Zr Ze))) Zx)
  (Zh (Zt (kL hu (Zv (pv 0) rfl) (pv 1) (fun _ _=>rfl)))))),?_⟩
 refine ⟨_,rfl,_,rfl,v,S,n,rfl,lM,?_⟩;unfold yb;unfold fj at q
 cases hb:ZE S n with
 | false=>
  rw [hb] at q;exact fun H' s'=>q H' s'
 | true=>
  rw [hb,if_pos rfl] at q;intro v1 H1 s1 _;obtain ⟨p,dx,da,ea,dk,ek,rfl,hS⟩:=ZA.mono _ _ _ _ s1 lM;refine ⟨_,rfl,_,rfl,p,_,dx,_,_,rfl,hS.ob,T.ZW,T.Zu,gZ _ _,ea,_,rfl,aI.k hS.he (k:=.inl n),_,rfl,?_⟩;rw [hS.re.some eC]
  cases hg:aa S.ent n with
  | some es=>
   rw [hg] at q;exact ax ⟨aX 1,q _ s1⟩
  | none=>
   rw [hg] at q
   have hd:∃ row,aa S.dat n=some row:=by
    unfold ZE at hb;rw [hg,X4,Xs] at hb;exact Option.isSome_iff_exists.mp hb
   obtain ⟨row,hd⟩:=hd;rw [hd] at q;obtain ⟨vr,g7,h_⟩:=hS.rd.yes eC hd;refine av ⟨_,rfl,p,_,dx,_,_,rfl,hS.ob,T.ZW,T.oo,nh _ _,_,rfl,da,vr,rfl,(by have:=aI.k hS.hd (k:=.inl n);rw [g7] at this;exact this),?_⟩;exact q _ _ s1 h_
inductive j9 (g:Gs) (vs:List V) (H:Hp) (Q:VK) (aL:XK):Prop
 | mk (v:_) (S:_) (n:_):vs=[v,.int n]->ZA g H S v->Q (.str (kindOf S n)) H->j9 g vs H Q aL
theorem Zsp:Zp ["state","number"] ["state","number"] (Zi Zpk):=ZN (by decide +kernel)
theorem IV (T:Tx K mg g):ah P w K mg base (ay P w) 1 g.GH g.HH ["state","number"] (j9 g):=by
 refine T.z9.aP Zsp fun vs H Q E h=>?_;obtain ⟨v,S,n,rfl,⟨p,dx,da,ea,dk,ek,rfl,hS⟩,q⟩:=h;refine ⟨rfl,fun _ _ _ _ hr=>?_⟩;have hu:=u1 hr.units;refine ⟨_,(Zh (Zt (Zru (i_ (nj hu (pv 1) (Zv (pv 0) rfl))) Zr Zr))),?_⟩;refine ⟨_,rfl,_,rfl,p,_,dx,_,_,rfl,hS.ob,T.ZW,T.Zu,gZ _ _,ea,_,rfl,aI.k hS.he (k:=.inl n),_,rfl,?_⟩;rw [hS.re.some eC];unfold kindOf at q
 cases hd:(aa S.ent n).isSome with
 | true=>rw [hd] at q;exact ax q
 | false=>rw [hd] at q;exact av q
inductive j7 (g:Gs) (vs:List V) (H:Hp) (Q:VK) (aL:XK):Prop
 | mk (v:_) (S:_) (n:_):vs=[v,.int n]->ZA g H S v->ZE S n=true->Q (.int (vd S n)) H->j7 g vs H Q aL
theorem Zso:Zp ["state","number"] ["state","number"] (Zi Zph):=ZN (by decide +kernel)
theorem ZsC (T:Tx K mg g):ah P w K mg base (ay P w) 1 g.GB g.HS ["state","number"] (j7 g):=by
 refine T.HN.aP Zso fun vs H Q E h=>?_;obtain ⟨v,S,n,rfl,⟨p,dx,da,ea,dk,ek,rfl,hS⟩,hb,q⟩:=h;refine ⟨rfl,fun _ _ _ _ hr=>?_⟩;have hu:=u1 hr.units
 refine ⟨_,(Zd (Z0 (i_ (nj hu (pv 1) (Zv (pv 0) rfl))) (Zh (Zt (Zy ni (ZJ (v:=.int 10) rfl T.Zp1 ⟨_,rfl⟩) (ZD Hy (by rfl) T.eL YC (Za (kL hu (Zv (pv 0) rfl) (pv 1) (fun _ _=>rfl)) Ze))))) Zx)
  (Zh (Zt (ZD ZI (by rfl) T.eL YC (Za (kL hu (Zv (pv 0) rfl) (pv 1) (fun _ _=>rfl)) Ze))))),?_⟩
 refine ⟨_,rfl,_,rfl,p,_,dx,_,_,rfl,hS.ob,T.ZW,T.Zu,gZ _ _,ea,_,rfl,aI.k hS.he (k:=.inl n),_,rfl,?_⟩;rw [hS.re.some eC];unfold vd at q
 cases hg:aa S.ent n with
 | some es=>
  rw [hg] at q;obtain ⟨ve,g7,⟨ae,rfl,iy⟩⟩:=hS.re.yes eC hg;refine ax ⟨_,rfl,p,_,dx,_,_,rfl,hS.ob,T.ZW,T.Zu,gZ _ _,_,rfl,ea,_,rfl,(by have:=aI.k hS.he (k:=.inl n);rw [g7] at this;exact this),ae,_,rfl,iy,_,_,rfl,rfl,.inl ⟨by decide,by decide⟩,?_⟩;rw [GR];exact q
 | none=>
  rw [hg] at q
  have hd:∃ row,aa S.dat n=some row:=by
   unfold ZE at hb;rw [hg,X4,Xs] at hb;exact Option.isSome_iff_exists.mp hb
  obtain ⟨row,hd⟩:=hd;rw [hd] at q;obtain ⟨vr,g7,⟨t,rfl,ht⟩⟩:=hS.rd.yes eC hd;refine av ⟨_,rfl,p,_,dx,_,_,rfl,hS.ob,T.ZW,T.oo,nh _ _,_,rfl,da,_,rfl,(by have:=aI.k hS.hd (k:=.inl n);rw [g7] at this;exact this),t,_,rfl,.inr (aF.of ht),?_⟩;rw [Yb];exact q
theorem ZsG (S:az) {i:Nat} {p:Int×ao} (h:S.ent[i]?=some p):((S.ent.take (i + 1)).map fun p=>p.2.map (·.2)).flatten=((S.ent.take i).map fun p=>p.2.map (·.2)).flatten++p.2.map (·.2):=by
 have hi:i < S.ent.length:=(List.getElem?_eq_some_iff.mp h).1;rw [Xb hi,Yw,XU];rw [(List.getElem?_eq_some_iff.mp h).2]
 simp
inductive ma (g:Gs) (vs:List V) (H:Hp) (Q:VK) (aL:XK):Prop
 | mk (v:_) (S:_):vs=[v]->ZA g H S v->(iC S).length<=100000->(∀ l H',ag H H'->H' l=some (.lst ((iC S).map V.int))->Q (.ref l) H')->ma g vs H Q aL
theorem Zus {H:Hp} {xs:List (Int×ao)} {kvs:List (Key×V)} (h:Z8 X8 gY H xs kvs) {i:Nat} {v:V} (hv:(kvs.map (·.2))[i]?=some v):∃ p,xs[i]?=some p/\gY H p.2 v:=by
 unfold Z8 at h
 induction h generalizing i with
 | nil=>simp at hv
 | @cons p q _ _ a t ih=>
  cases i with
  | zero=>simp at hv;subst hv;exact ⟨q,rfl,a.2⟩
  | succ i=>obtain ⟨p',h1,h2⟩:=ih (i:=i) (by simpa using hv);exact ⟨p',by simpa using h1,h2⟩
theorem ZrT (es:ao):(eJ es).map (fun q=>q.2)=(es.map (·.2)).map V.int:=by
 unfold eJ;rw [XJ,XJ];rfl
theorem Li:Zp ["state","found","entries"] ["state"] (Zi Zfe):=ZN (by decide +kernel)
theorem Ze0 (T:Tx K mg g):ah P w K mg base (ay P w) 1 g.Kn g.Lk ["state"] (ma g):=by
 refine T.Ed.aP Li fun vs H Q E h=>?_;obtain ⟨v,S,rfl,⟨p,dx,da,ea,dk,ek,rfl,hS⟩,dy,q⟩:=h;refine ⟨rfl,fun _ _ _ _ hr=>?_⟩;have hu:=u1 hr.units
 refine ⟨_,(Zd (Zz (i:=1) Li.nd rfl (Or.inl rfl) (fV Ze))
  (Zd (GJ (jS Y2 rfl (Ztw (xF YW YaZ YaY IM (Zv (pv 0) rfl))) (Z9 (i:=2) Li.nd rfl (Or.inl rfl)) (Zh (ZC (lR YR PySem.F.slot_list_extend PySem.F.type_list_extend ZtN (pv 1) (Za (ZT ZsW rfl T.pT PyProof.Rows.Boot.«list» (Za (xF YW YaZ YaY IM (pv 2)) Ze)) Ze))))))
  (Zh (Zt (pv 1))))),?_⟩
 refine ⟨Yv _,fun D hD=>?_⟩;have ha:=hS.he;have rP:ea≠D:=Zg ha hD;have yH:p≠D:=Zg hS.ob hD;refine ⟨ea,.dK ek,(by rw [Zf rP];exact ha),rfl,?_⟩;refine ⟨_,rfl,p,_,dx,_,_,rfl,(by rw [Zf yH];exact hS.ob),T.ZW,T.Zu,gZ _ _,?_⟩;refine ⟨.inr (.inr (.inl ⟨rfl,.inl ⟨ek,(by rw [Zf rP];exact ha)⟩⟩)),ea,.dK ek,rfl,rfl,.inl (by rw [Zf rP];exact ha),rfl,fun r eG=>?_⟩;have EX:ea≠r:=Zg (H:=upd H D (.lst [])) (by rw [Zf rP];exact ha) eG;have nDr:D≠r:=Zg (H:=upd H D (.lst [])) Zb eG;have Fc:H r=none:=by rw [Zf nDr.symm] at eG;exact eG
 refine ⟨r,ea,.dK ek,rfl,Zb,(by rw [Zf EX,Zf rP];exact ha),rfl,fun ob=>?_⟩
 refine ZrR (d:=ea) (ob:=ob) (u:=.dK ek) (fun i σ H'=>(∃ o2,σ=[some (.ref p),some (.ref D),o2])/\H' ea=some (.bu ob (.dK ek))/\H' D=some (.lst ((((S.ent.take i).map fun p=>p.2.map (·.2)).flatten).map V.int))/\∀ b o,H b=some o->b≠ea->H' b=some o)
  ⟨⟨none,rfl⟩,Zb,(by rw [Zf rP.symm,Zf nDr];exact Zb),fun b o e hb=>by rw [Zf hb,Zf (Zg e Fc),Zf (Zg e hD)];exact e⟩ (fun i σ H' _ h=>h.2.1) (fun i x σ H' hx h=>?_) (fun σ H' h=>?_)
 .obtain ⟨⟨o2,rfl⟩,i3,xc,kp⟩:=h;obtain ⟨pe,hp,ae,rfl,iy⟩:=Zus hS.re hx
  have nae:ae≠ea:=fun z=>by
   subst z;have e:=YB (ha.symm.trans iy);injection e with e;have yS:(ek.map (·.2))[i]?=some (.ref ae):=hx;rw [Yo] at yS
   cases hk:ek[i]? with
   | none=>rw [hk] at yS;cases yS
   | some kv=>
    obtain ⟨y,_,e1,_⟩:=DB hS.re hk;rw [e] at hk;unfold eJ at hk;rw [Yo] at hk
    cases hq:pe.2[i]? with
    | none=>rw [hq] at hk;cases hk
    | some u=>
     rw [hq] at hk;rw [<- YB hk] at e1
     cases e1
  have we:=kp _ _ iy nae
  have br:(((S.ent.take (i + 1)).map fun p=>p.2.map (·.2)).flatten).length<=100000:=by
   have e1:iC S=((S.ent.take (i + 1)).map fun p=>p.2.map (·.2)).flatten++((S.ent.drop (i + 1)).map fun p=>p.2.map (·.2)).flatten:=by
    unfold iC;rw [<- XU,<- Yw,YbD]
   rw [e1,Yg] at dy;omega
  rw [ZsG S hp] at br ⊢;generalize ((S.ent.take i).map fun p=>p.2.map (·.2)).flatten=F at xc br;rw [Yg] at br;refine ⟨_,rfl,.inl ⟨rfl,_,aq.of xc⟩,_,rfl,.inr (.inr (.inl ⟨rfl,.inl ⟨_,we⟩⟩)),ae,.dK _,rfl,rfl,.inl we,rfl,fun r2 Fd=>?_⟩;have s2:=Zj (o:=zH r2 ae) Fd;refine ⟨r2,ae,_,rfl,Zb,.inl (s2 _ _ we),fun l2 cL=>?_⟩;have s3:=Zj (o:=.lst ((eJ pe.2).map fun q=>q.2)) cL;refine ⟨D,l2,_,_,rfl,rfl,s3 _ _ (s2 _ _ xc),Zb,?_,?_⟩
  .rw [ZrT,Yb,Yb];exact Zs br (by decide)
  .have sA:=s2.trans s3;have nlD:ea≠D:=rP;refine ⟨⟨_,rfl⟩,(by rw [Zf nlD];exact sA _ _ i3),?_,fun b o e hb=>?_⟩
   .rw [ZrT,Yw];exact Zb
   .rw [Zf (Zg e hD)];exact sA _ _ (kp _ _ e hb)
 .obtain ⟨⟨o2,rfl⟩,i3,xc,kp⟩:=h;have pL:(hR (.dK ek)).length=S.ent.length:=by show (ek.map (·.2)).length=_;rw [Yb,hS.re.len]
  rw [pL,XE] at xc;refine ⟨ob,.dK ek,i3,rfl,?_⟩
  have sm:ag H (upd H' ea (.dK ek)):=fun b o e=>by
   by_cases z:b=ea
   .subst z;rw [Zb,<- e,ha]
   .rw [Zf z];exact kp _ _ e z
  exact ⟨_,rfl,q _ _ sm (by rw [Zf rP.symm];exact xc)⟩
inductive iN (g:Gs) (vs:List V) (H:Hp) (Q:VK) (aL:XK):Prop
 | mk (v:_) (S:_) (n:_):vs=[v,.int n]->ZA g H S v->(iC S).length<=100000->(∀ H',ag H H'->Q (.int (vm S n)) H')->iN g vs H Q aL
theorem Zqz:Zp ["state","number"] ["state","number"] (Zi ZmS):=ZN (by decide +kernel)
theorem ZqI (T:Tx K mg g):ah P w K mg base (ay P w) 2 g.GZ g.IK ["state","number"] (iN g):=by
 refine T.Ii.aP Zqz fun vs H Q E h=>?_;obtain ⟨v,S,n,rfl,lM,hl,q⟩:=h;refine ⟨rfl,fun _ _ _ _ hr=>?_⟩;obtain ⟨p,dx,da,ea,dk,ek,rfl,hS⟩:=id lM;have hu:=u1 hr.units
 refine ⟨_,(Zd (Z0 (i_ (nj hu (pv 1) (Zv (pv 0) rfl))) (Zh (Zt Zl)) Zx)
  (Zh (Zt (lR YR PySem.F.slot_list_count PySem.F.type_list_count ZrD (Zn (Ze0 T) hr.dn rfl T.Zfr T.Ed.kp T.cF .nil Zc (Za (pv 0) Ze)) (Za (pv 1) Ze))))),?_⟩
 refine ⟨_,rfl,_,rfl,p,_,dx,_,_,rfl,hS.ob,T.ZW,T.Zu,gZ _ _,ea,_,rfl,aI.k hS.he (k:=.inl n),_,rfl,?_⟩;rw [hS.re.some eC];unfold vm at q
 cases hd:(aa S.ent n).isSome with
 | true=>rw [hd] at q;exact ax (q _ (ag.refl _))
 | false=>
  rw [hd] at q;refine av ⟨_,rfl,_,S,rfl,lM,hl,fun l H1 s1 eB=>?_⟩;refine ⟨.inl ⟨rfl,_,aq.of eB⟩,_,rfl,l,_,_,rfl,rfl,aq.of eB,rfl,?_,?_⟩
  .rw [List.all_map];exact List.all_eq_true.mpr fun _ _=>rfl
  .rw [Zuz];exact q _ s1
theorem ZnG:Zp ["row","size"] ["row","size"] (Zi Zjv):=ZN (by decide +kernel)
theorem ZhR (T:Tx K mg g):ah P w K mg base (ay P w) 1 g.dM g.JF ["row","size"] gD:=by
 refine T.DS.aP ZnG fun vs H Q E h=>?_;obtain ⟨row,v,n,rfl,⟨t,rfl,ht⟩,hl,uD,Ck,q⟩:=h;refine ⟨rfl,fun _ _ _ _ hr=>?_⟩;refine ⟨_,(Zh (Zt (Zy kK (pv 0) (Zy zQ (dH (Za Zl Ze)) (Zy u5 (pv 1) (ZD ZI (by rfl) T.eL YC (Za (pv 0) Ze))))))),?_⟩;refine ⟨_,rfl,aX 1,fun b hb=>?_⟩;have s2:=Zj (o:=.tup [.int 0]) hb;refine ⟨_,rfl,_,rfl,t,_,rfl,.inr (aF.of (s2 _ _ ht)),_,_,rfl,rfl,b,_,_,rfl,rfl,Zb,by simp,?_,?_,?_,fun c H2 s3 hc=>?_⟩
 .rw [Yb];omega
 .rw [Yb];omega
 .rw [Yb];show 1 * _<=_;exact Zs (m:=20000) (by omega) (by decide)
 rw [xY,Yb] at hc;have dY:=s3 _ _ (s2 _ _ ht);refine ⟨t,c,_,_,rfl,rfl,aF.of dY,aF.of hc,fun _=>hc,fun _ _=>dY,?_,fun d H3 s4 hd=>?_⟩
 .rw [Yb,YM];exact Zs (m:=40000) (by omega) (by decide)
 refine q _ H3 (s2.trans (s3.trans s4)) ⟨d,rfl,?_⟩;rw [hd];unfold gv;rw [Yw,Wy]
theorem G8 {S:az} (so:dR S) {n:Int} {d:Row} (h:fj S n=.ok d):d.length<=1000:=by
 unfold fj at h
 split at h
 .split at h
  .cases h
  .cases h
   cases hd:aa S.dat n with
   | none=>exact Yv _
   | some r=>exact so.row n r hd
 .cases h
inductive iH (g:Gs) (vs:List V) (H:Hp) (Q:VK) (E:XK):Prop
 | mk (v:_) (S:_) (n:_) (bz:_) (l:_) (row:_):vs=[v,.int n,.int bz,.ref l]->ZA g H S v->dR S->0<=bz->H l=some (.lst (row.map V.int))->row.length<=1000->d0 g (ZA g) H (qL S n bz row) Q E->iH g vs H Q E
theorem DJ:Zp ["state","number","start","row","data","end","ahead"] ["state","number","start","row"] (Zi Zpg):=ZN (by decide +kernel)
theorem ZsB (T:Tx K mg g):ah P w K mg base (ay P w) 4 g.written g.HW ["state","number","start","row"] (iH g):=by
 refine T.HP.aP DJ fun vs H Q E h=>?_;obtain ⟨v,S,n,bz,l,row,rfl,hS,so,cP,hl,yY,q⟩:=h;refine ⟨rfl,fun _ _ _ _ hr=>?_⟩
 refine ⟨_,(Zd (Zz (i:=4) DJ.nd rfl (Or.inl rfl) (Zn (IU T) hr.dn rfl T.HJ T.Aa.kp T.eX .nil Zc (Za (pv 0) (Za (pv 1) Ze))))
  (Zd (Zz (i:=5) DJ.nd rfl (Or.inl rfl) (Zy kJ (pv 2) (ZD ZI (by rfl) T.eL YC (Za (pv 3) Ze))))
  (Zd (Z0 (ZG uY (pv 5) (ZJ (v:=.int 600) rfl T.Zj5 ⟨_,rfl⟩) (ZO _)) (Zh (Z2 T.ye rfl T.vC (Za Zr Ze))) Zx)
  (Zd (Z0 (ZG fU (ZD ZI (by rfl) T.eL YC (Za (pv 3) Ze)) Zl (ZO _)) (Zh (Zt (pv 0))) Zx)
  (Zd (Zz (i:=6) DJ.nd rfl (Or.inl rfl) (p_ xM (Zn (ZhR T) hr.dn rfl T.ZjW T.DS.kp T.ei .nil Zc (Za (pv 4) (Za (pv 2) Ze))) sO (nA (pv 2))))
  (Zh (Zt (Zn (JJ T) hr.dn rfl T.Jq T.Ac.kp T.cV .nil Zc (Za (pv 0) (Za (pv 1) (Za (Zy kK (Zy kK (pv 6) (ZT KJ rfl T.GD PyProof.Rows.Boot.«tuple» (Za (pv 3) Ze))) (p_ xM (pv 4) (nA (pv 5)) sO)) Ze))))))))))),?_⟩
 refine ⟨_,rfl,_,rfl,v,S,n,rfl,hS,?_⟩;unfold qL at q
 cases hd:fj S n with
 | error r=>
  rw [hd] at q;exact fun H' s'=>q H' s'
 | ok d=>
  rw [hd] at q;dsimp only at q;intro u H1 s1 rS;have pL:=G8 so hd;have eB:=s1 _ _ hl;refine ⟨_,rfl,_,rfl,l,_,rfl,.inl (aq.of eB),_,_,rfl,rfl,?_⟩;rw [Yb];refine ⟨_,rfl,_,_,rfl,rfl,_,rfl,?_⟩
  by_cases h6:600 < bz + (row.length:Int)
  .rw [if_pos h6] at q;rw [decide_eq_true h6];exact ax ⟨aX 1,q _ s1⟩
  rw [if_neg h6] at q;rw [decide_eq_false h6];refine av ⟨_,rfl,l,_,rfl,.inl (aq.of eB),rfl,_,rfl,?_⟩;rw [Yb]
  by_cases h0:row=[]
  .rw [if_pos h0] at q;rw [decide_eq_true (show V.int (row.length:Int)=V.int 0 by rw [h0];rfl)];exact ax ⟨_,rfl,q _ _ s1 (ZA.mono _ _ _ _ s1 hS)⟩
  rw [if_neg h0] at q
  rw [decide_eq_false (show ¬ V.int (row.length:Int)=V.int 0 by
   intro z;injection z with z;exact h0 (List.length_eq_zero_iff.mp (by omega)))]
  refine av ?_;refine ⟨_,rfl,_,rfl,d,u,bz,rfl,rS,by omega,by omega,by omega,fun u2 H2 s2 ur=>?_⟩;obtain ⟨t2,rfl,dY⟩:=ur;refine ⟨_,rfl,_,rfl,t2,_,rfl,dY,fun t3 H3 s3 jD=>?_⟩;rw [Zuv _ _ cP] at jD;have dF:=s2.trans s3;have g9:=dF _ _ eB;refine ⟨_,rfl,_,rfl,_,rfl,_,rfl,l,_,rfl,.inl ⟨aq.of g9,fun t4 hn4=>?_⟩⟩;have s4:=Zj (o:=.tup (row.map V.int)) hn4;have f4:=Zb (H:=H3) (a:=t4) (o:=.tup (row.map V.int));have Bb:=s4 _ _ jD;refine ⟨t3,t4,_,_,rfl,rfl,aF.of Bb,aF.of f4,fun _=>f4,fun _ _=>Bb,?_,fun t5 H5 s5 yW=>?_⟩
  .rw [Yb,Yb,Y0];exact Zs (m:=20000) (by omega) (by decide)
  obtain ⟨tu,rfl,yU⟩:=Z1.mono _ _ _ _ ((dF.trans s4).trans s5) rS;refine ⟨_,rfl,_,rfl,_,rfl,tu,_,rfl,yU,fun t6 H6 s6 E_=>?_⟩;rw [Zux _ _ (by omega)] at E_;have Ba:=s6 _ _ yW;refine ⟨t5,t6,_,_,rfl,rfl,aF.of Ba,aF.of E_,fun _=>E_,fun _ _=>Ba,?_,fun t7 H7 s7 ht7=>?_⟩
  .rw [Yg,Yb,Yb,Yb,Y0,YU];exact Zs (m:=20000) (by omega) (by decide)
  have sA:=(((dF.trans s4).trans s5).trans s6).trans s7;refine ⟨v,S,n,(gv d bz).take bz.toNat++row++d.drop (bz + (row.length:Int)).toNat,_,rfl,ZA.mono _ _ _ _ (s1.trans sA) hS,⟨t7,rfl,?_⟩,(by have:=so.n;omega),fun v' H' s' h'=>q _ _ ((s1.trans sA).trans s') h'⟩;rw [ht7,Yw,Yw]
inductive iK (g:Gs) (vs:List V) (H:Hp) (Q:VK) (E:XK):Prop
 | mk (v:_) (S:_) (n:_) (size:_):vs=[v,.int n,.int size]->ZA g H S v->dR S->0<=size->d0 g (ZA g) H (qQ S n size) Q E->iK g vs H Q E
theorem ZmP:Zp ["state","number","size","data"] ["state","number","size"] (Zi Zpi):=ZN (by decide +kernel)
theorem ZsD (T:Tx K mg g):ah P w K mg base (ay P w) 4 g.jo g.Hx ["state","number","size"] (iK g):=by
 refine T.HM.aP ZmP fun vs H Q E h=>?_;obtain ⟨v,S,n,size,rfl,hS,so,cP,q⟩:=h;refine ⟨rfl,fun _ _ _ _ hr=>?_⟩
 refine ⟨_,(Zd (Zz (i:=3) ZmP.nd rfl (Or.inl rfl) (Zn (IU T) hr.dn rfl T.HJ T.Aa.kp T.eX .nil Zc (Za (pv 0) (Za (pv 1) Ze))))
  (Zd (Z0 (ZG uY (pv 2) (ZJ (v:=.int 600) rfl T.Zj5 ⟨_,rfl⟩) (ZO _)) (Zh (Z2 T.ye rfl T.vC (Za Zr Ze))) Zx)
  (Zh (Zt (Zn (JJ T) hr.dn rfl T.Jq T.Ac.kp T.cV .nil Zc (Za (pv 0) (Za (pv 1) (Za (p_ xM (Zn (ZhR T) hr.dn rfl T.ZjW T.DS.kp T.ei .nil Zc (Za (pv 3) (Za (pv 2) Ze))) sO (nA (pv 2))) Ze)))))))),?_⟩
 refine ⟨_,rfl,_,rfl,v,S,n,rfl,hS,?_⟩;unfold qQ at q
 cases hd:fj S n with
 | error r=>
  rw [hd] at q;exact fun H' s'=>q H' s'
 | ok d=>
  rw [hd] at q;dsimp only at q;intro u H1 s1 rS;have pL:=G8 so hd;refine ⟨_,rfl,_,_,rfl,rfl,_,rfl,?_⟩
  by_cases h6:600 < size
  .rw [if_pos h6] at q;rw [decide_eq_true h6];exact ax ⟨aX 1,q _ s1⟩
  rw [if_neg h6] at q;rw [decide_eq_false h6];refine av ⟨_,rfl,_,rfl,_,rfl,_,rfl,d,u,size,rfl,rS,by omega,by omega,by omega,fun u2 H2 s2 ur=>?_⟩;obtain ⟨t2,rfl,dY⟩:=ur;refine ⟨_,rfl,_,rfl,t2,_,rfl,dY,fun t3 H3 s3 jD=>?_⟩;rw [Zuv _ _ cP] at jD;have sA:=(s1.trans s2).trans s3;exact ⟨v,S,n,(gv d size).take size.toNat,_,rfl,ZA.mono _ _ _ _ sA hS,⟨t3,rfl,jD⟩,(by have:=so.n;omega),fun v' H' s' h'=>q _ _ (sA.trans s') h'⟩
inductive j8 (g:Gs) (vs:List V) (H:Hp) (Q:VK) (E:XK):Prop
 | mk (v:_) (S:_) (old:_) (new:_):vs=[v,.str old,.str new]->ZA g H S v->iB S->old.length<=1000->new.length<=1000->d0 g (ZA g) H (sM S old new) Q E->j8 g vs H Q E
theorem HR:Zp ["state","old","new","number","directory"] ["state","old","new"] (Zi Zrm):=ZN (by decide +kernel)
theorem ZtD (T:Tx K mg g):ah P w K mg base (ay P w) 5 g.lD g.GY ["state","old","new"] (j8 g):=by
 refine T.G3.aP HR fun vs H Q E h=>?_;obtain ⟨v,S,old,new,rfl,hS,sm,mx,nM,q⟩:=h;refine ⟨rfl,fun _ _ _ _ hr=>?_⟩;have hu:=u1 hr.units
 refine ⟨_,(Zd (ZC (Zn (yj T) hr.dn rfl T.yk T.tm.kp T.a9 .nil Zc (Za (pv 1) Ze)))
  (Zd (ZC (Zn (yj T) hr.dn rfl T.yk T.tm.kp T.a9 .nil Zc (Za (pv 2) Ze)))
  (Zd (Zz (i:=3) HR.nd rfl (Or.inl rfl) (bw ZU (Zn (Dh T) hr.dn rfl T.CZ T.xx.kp T.jh .nil Zc (Za (pv 0) (Za (Zn (oq T) hr.dn rfl T.om T.Z7.kp T.aD .nil Zc (Za (pv 1) Ze)) Ze))) (gf gm Zl) (fun _ _=>rfl)))
  (Zd (Z0 (i_ (nj hu (pv 3) (Zv (pv 0) rfl))) (Zh (Z2 T.vz rfl T.tD (Za Zr Ze))) Zx)
  (Zd (Zz (i:=4) HR.nd rfl (Or.inl rfl) (Zn (ZhT T) hr.dn rfl T.ZjY T.D5.kp T.er .nil Zc (Za (pv 0) (Za (pv 2) Ze))))
  (Zd (ZC (Zn (Lw T) hr.dn rfl T.Lf T.Aw.kp T.bt .nil Zc (Za (pv 0) (Za (pv 4) Ze))))
  (Zh (Zt (Zn (Kp T) hr.dn rfl T.JH T.Ae.kp T.cA .nil Zc (Za (pv 0) (Za (pv 4) (Za (bw ZU (Zn (oq T) hr.dn rfl T.om T.Z7.kp T.aD .nil Zc (Za (pv 2) Ze)) (gf gm Zl) (fun _ _=>rfl)) (Za (pv 3) Ze))))))))))))),?_⟩
 refine ⟨_,rfl,old,rfl,mx,?_⟩;unfold sM at q;unfold ou
 cases hb:fI old with
 | false=>
  rw [hb] at q;exact fun H' s'=>q H' s'
 | true=>
  rw [hb,if_neg (by decide)] at q;intro v1 H1 s1 _;refine ⟨_,rfl,new,rfl,nM,?_⟩;show d0 g m9 H1 (ou new) _ _;unfold ou
  cases nR:fI new with
  | false=>
   rw [nR] at q;exact fun H' s'=>q H' (s1.trans s')
  | true=>
   rw [nR,if_neg (by decide)] at q;intro v2 H2 s2 _;have sB:=s1.trans s2;refine ⟨_,rfl,_,rfl,old,rfl,mx,fun l H3 s3 hn g9=>?_⟩;have sC:=sB.trans s3;refine ⟨v,S,l,Zw old,rfl,ZA.mono _ _ _ _ sC hS,g9,?_,fun n hn=>?_,?_⟩
   .have:=Aq old;omega
   .have:=Ar old n hn;omega
   cases hw:fT S (Zw old) [0] with
   | error r=>
    rw [hw] at q;exact fun H' s'=>q H' (sC.trans s')
   | ok ps=>
    rw [hw] at q;dsimp only at q;intro v4 H4 s4 ⟨D,e,hD⟩;subst e;have sD:=sC.trans s4;refine ⟨_,rfl,D,_,_,_,rfl,rfl,aq.of hD,lX ps (vi hw (by decide)).1,?_⟩;obtain ⟨p,dx,da,ea,dk,ek,rfl,hP⟩:=ZA.mono _ _ _ _ sD hS;refine ⟨_,rfl,_,rfl,p,_,dx,_,_,rfl,hP.ob,T.ZW,T.Zu,gZ _ _,ea,_,rfl,aI.k hP.he (k:=.inl (ps.getLastD 0)),_,rfl,?_⟩;rw [hP.re.some eC]
    cases hd:(aa S.ent (ps.getLastD 0)).isSome with
    | true=>
     rw [hd,if_pos rfl] at q;exact ax ⟨aX 1,q _ sD⟩
    | false=>
     rw [hd,if_neg (by decide)] at q;refine av ⟨_,rfl,_,rfl,.ref p,S,new,rfl,ZA.mono _ _ _ _ sD hS,nM,?_⟩
     cases hf:nD S new with
     | error r=>
      rw [hf] at q;exact fun H' s'=>q H' (sD.trans s')
     | ok d=>
      rw [hf] at q;dsimp only at q;obtain ⟨h0,es,cj⟩:=GU hf;rw [cj] at q;intro v5 H5 s5 e5
      cases e5
      have sE:=sD.trans s5;refine ⟨_,rfl,_,rfl,.ref p,S,d,es,rfl,ZA.mono _ _ _ _ sE hS,cj,?_⟩
      by_cases h4:40<=es.length
      .rw [if_pos h4];rw [YD,if_pos h4] at q;exact fun H' s'=>q H' (sE.trans s')
      .rw [if_neg h4];rw [YD,if_neg h4] at q;intro v6 H6 s6 _;have sF:=sE.trans s6;refine ⟨_,rfl,_,rfl,_,rfl,new,rfl,nM,fun l7 H7 s7 hn7 qu=>?_⟩;refine ⟨_,rfl,l7,_,_,_,rfl,rfl,aq.of qu,sT _ (nC h0),_,rfl,?_⟩;exact ⟨.ref p,S,d,Zm new,ps.getLastD 0,es,rfl,ZA.mono _ _ _ _ (sF.trans s7) hS,sm,cj,fun v' H' s' h'=>q _ _ ((sF.trans s7).trans s') h'⟩
theorem Hr {H H':Hp} {l:Addr} (s:ag H H') (h:H' l=none):H l=none:=by
 cases e:H l with
 | none=>rfl
 | some o=>rw [s _ _ e] at h;cases h
def CS (F:bY) (n bz:Int) (row:Row):Except Rf bY:=match qL F.S n bz row with
 | .error r=>.error r
 | .ok S=>g0 F S F.k
def rD (F:bY) (n size:Int):Except Rf bY:=match qQ F.S n size with
 | .error r=>.error r
 | .ok S=>g0 F S F.k
def CD (F:bY) (old new:Str):Except Rf bY:=match sM F.S old new with
 | .error r=>.error r
 | .ok S=>g0 F S F.k
theorem ZnX {κ α:Type} [DecidableEq κ] {xs:List (κ×α)} {k:κ} {x y:α} (h:aa xs k=some y):(af xs k x).length=xs.length:=by
 unfold af;rw [vn,h,if_pos (by rfl),Yb]
theorem ZvV {S:az} (so:dR S) {n:Int} {d row:Row} (hd:fj S n=.ok d) (hl:row.length<=1000):dR ⟨af S.dat n row,S.ent⟩:=by
 have hg:∃ y,aa S.dat n=some y:=by
  unfold fj at hd
  split at hd
  .rename_i hb
   split at hd
   .cases hd
   .rename_i hg
    unfold ZE at hb;rw [hg,X4,Xs] at hb;exact Option.isSome_iff_exists.mp hb
  .cases hd
 obtain ⟨y,hg⟩:=hg;refine ⟨?_,fun m r h=>?_,so.ent⟩
 .show (af S.dat n row).length + S.ent.length < 64;rw [ZnX hg];exact so.n
 .have h':aa (af S.dat n row) m=some r:=h;rw [ZV] at h'
  by_cases z:m=n
  .rw [if_pos z] at h';cases h';exact hl
  .rw [if_neg z] at h';exact so.row m r h'
theorem Zsa {S S':az} (so:dR S) {n bz:Int} {row:Row} (h0:0<=bz) (h:qL S n bz row=.ok S'):dR S':=by
 unfold qL at h
 cases hd:fj S n with
 | error r=>rw [hd] at h;cases h
 | ok d=>
  rw [hd] at h;dsimp only at h
  split at h
  .cases h
  .split at h
   .cases h;exact so
   .cases h
    refine ZvV so hd ?_
    have:=G8 so hd
    rw [Yg,Yg,Y0,YU];omega
theorem Zsu {S S':az} (so:dR S) {n size:Int} (h:qQ S n size=.ok S'):dR S':=by
 unfold qQ at h
 cases hd:fj S n with
 | error r=>rw [hd] at h;cases h
 | ok d=>
  rw [hd] at h;dsimp only at h
  split at h
  .cases h
  .cases h
   refine ZvV so hd ?_;rw [Y0];omega
inductive gE (g:Gs) (vs:List V) (H:Hp) (Q:VK) (E:XK):Prop
 | mk (f:_) (q:_) (p:_) (b:_) (l:_) (F:_) (n:_) (bz:_) (a:_) (row:_):vs=[.ref f,.int n,.int bz,.ref a]->cH g H f q p b l F->dR F.S->0<=bz->H a=some (.lst (row.map V.int))->row.length<=1000->i9 F.k->m_ F.T.synced->(match CS F n bz row with
 | .error r=>∀ H',ag H H'->E (.ref (g.xa r)) none H'
 | .ok F'=>∀ H',gy f H H'->cH g H' f q p b l F'->Q (.int (row.length:Nat)) H')->gE g vs H Q E
theorem Zmi:Zp ["self","number","start","row"] ["self","number","start","row"] (Zi ZhI):=ZN (by decide +kernel)
theorem Zmr (T:Tx K mg g):ah P w K mg base (ay P w) 7 g.Jn g.KG ["self","number","start","row"] (gE g):=by
 refine T.Zik.aP Zmi fun vs H Q E h=>?_;obtain ⟨f,q0,p,b,l,F,n,bz,a,row,rfl,cM,so,cP,ha,yY,kk,po,q⟩:=h;refine ⟨rfl,fun _ _ _ _ hr=>?_⟩;obtain ⟨dx,sv,kv,iv,hF⟩:=id cM;have naf:a≠f:=ZR ha hF.ob (by intro z;cases z)
 refine ⟨_,(Zd (ZC (nB (pv 0) T.Zq T.ZL (ZH T) hr.dn T.ai .nil Zc))
  (Zd (ZC (ZP (pv 0) T.Zq T.s_ (tj T) hr.dn T.aE .nil Zc (Za (Zn (ZsB T) hr.dn rfl T.ZtR T.HP.kp T.mT .nil Zc (Za (Zv (pv 0) rfl) (Za (pv 1) (Za (pv 2) (Za (pv 3) Ze))))) (Za (Zv (pv 0) rfl) Ze))))
  (Zh (Zt (ZD ZI (by rfl) T.eL YC (Za (pv 3) Ze)))))),?_⟩
 refine ⟨_,rfl,f,dx,_,rfl,hF.ob,Z6 _ _ _ _,?_⟩;refine ⟨f,dx,_,_,_,_,rfl,hF.ob,.inr ⟨⟨q0,rfl⟩,?_⟩⟩;refine ⟨_,rfl,f,dx,_,rfl,hF.ob,Z6 _ _ _ _,_,rfl,f,_,dx,_,_,rfl,hF.ob,T.Zq,T.ZK,kH _ _ _ _,_,rfl,_,rfl,_,rfl,?_⟩;refine ⟨sv,F.S,n,bz,a,row,rfl,hF.st,so,cP,ha,yY,?_⟩;unfold CS at q
 cases hm:qL F.S n bz row with
 | error r=>
  rw [hm] at q;exact fun H' s'=>q H' s'
 | ok S=>
  rw [hm] at q;dsimp only at q;intro v2 H2 s2 gb;have nS:=cM.same s2;refine ⟨_,rfl,f,_,dx,_,_,rfl,s2 _ _ hF.ob,T.Zq,T.ZY,nc _ _ _ _,?_⟩;refine ⟨f,q0,p,b,l,F,v2,kv,S,F.k,rfl,nS,gb,eN.mono _ _ _ _ s2 hF.ke,Zsa so cP hm,kk,po,?_⟩
  cases ht:g0 F S F.k with
  | error r=>
   rw [ht] at q;exact fun H' s'=>q H' (s2.trans s')
  | ok F'=>
   rw [ht] at q;intro H' b1 h';refine ⟨_,rfl,a,_,rfl,.inl (aq.of (b1 _ _ (s2 _ _ ha) naf)),?_⟩;rw [Yb];exact q H' (fun d o e hd=>b1 _ _ (s2 _ _ e) hd) h'
inductive lB (g:Gs) (vs:List V) (H:Hp) (Q:VK) (E:XK):Prop
 | mk (f:_) (q:_) (p:_) (b:_) (l:_) (F:_) (n:_) (size:_):vs=[.ref f,.int n,.int size]->cH g H f q p b l F->dR F.S->0<=size->i9 F.k->m_ F.T.synced->(match rD F n size with
 | .error r=>∀ H',ag H H'->E (.ref (g.xa r)) none H'
 | .ok F'=>∀ H',gy f H H'->cH g H' f q p b l F'->Q .aK H')->lB g vs H Q E
theorem Zpe:Zp ["self","number","size"] ["self","number","size"] (Zi Zk9):=ZN (by decide +kernel)
theorem Zpx (T:Tx K mg g):ah P w K mg base (ay P w) 7 g.HQ g.Jk ["self","number","size"] (lB g):=by
 refine T.Zl9.aP Zpe fun vs H Q E h=>?_;obtain ⟨f,q0,p,b,l,F,n,size,rfl,cM,so,cP,kk,po,q⟩:=h;refine ⟨rfl,fun _ _ _ _ hr=>?_⟩;obtain ⟨dx,sv,kv,iv,hF⟩:=id cM
 refine ⟨_,(Zd (ZC (nB (pv 0) T.Zq T.ZL (ZH T) hr.dn T.ai .nil Zc))
  (Zh (ZC (ZP (pv 0) T.Zq T.s_ (tj T) hr.dn T.aE .nil Zc (Za (Zn (ZsD T) hr.dn rfl T.ZtT T.HM.kp T.mV .nil Zc (Za (Zv (pv 0) rfl) (Za (pv 1) (Za (pv 2) Ze)))) (Za (Zv (pv 0) rfl) Ze)))))),?_⟩
 refine ⟨_,rfl,f,dx,_,rfl,hF.ob,Z6 _ _ _ _,?_⟩;refine ⟨f,dx,_,_,_,_,rfl,hF.ob,.inr ⟨⟨q0,rfl⟩,?_⟩⟩;refine ⟨_,rfl,f,dx,_,rfl,hF.ob,Z6 _ _ _ _,_,rfl,f,_,dx,_,_,rfl,hF.ob,T.Zq,T.ZK,kH _ _ _ _,_,rfl,_,rfl,?_⟩;refine ⟨sv,F.S,n,size,rfl,hF.st,so,cP,?_⟩;unfold rD at q
 cases hm:qQ F.S n size with
 | error r=>
  rw [hm] at q;exact fun H' s'=>q H' s'
 | ok S=>
  rw [hm] at q;dsimp only at q;intro v2 H2 s2 gb;have nS:=cM.same s2;refine ⟨_,rfl,f,_,dx,_,_,rfl,s2 _ _ hF.ob,T.Zq,T.ZY,nc _ _ _ _,?_⟩;refine ⟨f,q0,p,b,l,F,v2,kv,S,F.k,rfl,nS,gb,eN.mono _ _ _ _ s2 hF.ke,Zsu so hm,kk,po,?_⟩
  cases ht:g0 F S F.k with
  | error r=>
   rw [ht] at q;exact fun H' s'=>q H' (s2.trans s')
  | ok F'=>
   rw [ht] at q;exact fun H' b1 h'=>q H' (fun d o e hd=>b1 _ _ (s2 _ _ e) hd) h'
inductive jn (g:Gs) (vs:List V) (H:Hp) (Q:VK) (E:XK):Prop
 | mk (f:_) (q:_) (p:_) (b:_) (l:_) (F:_) (old:_) (new:_):vs=[.ref f,.str old,.str new]->cH g H f q p b l F->iB F.S->old.length<=1000->new.length<=1000->(∀ S,sM F.S old new=.ok S->dR S)->i9 F.k->m_ F.T.synced->(match CD F old new with
 | .error r=>∀ H',ag H H'->E (.ref (g.xa r)) none H'
 | .ok F'=>∀ H',gy f H H'->cH g H' f q p b l F'->Q .aK H')->jn g vs H Q E
theorem ZnQ:Zp ["self","old","new"] ["self","old","new"] (Zi ZjM):=ZN (by decide +kernel)
theorem Zob (T:Tx K mg g):ah P w K mg base (ay P w) 7 g.Il g.JQ ["self","old","new"] (jn g):=by
 refine T.Zki.aP ZnQ fun vs H Q E h=>?_;obtain ⟨f,q0,p,b,l,F,old,new,rfl,cM,sm,mx,nM,nJ,kk,po,q⟩:=h;refine ⟨rfl,fun _ _ _ _ hr=>?_⟩;obtain ⟨dx,sv,kv,iv,hF⟩:=id cM
 refine ⟨_,(Zd (ZC (nB (pv 0) T.Zq T.ZL (ZH T) hr.dn T.ai .nil Zc))
  (Zh (ZC (ZP (pv 0) T.Zq T.s_ (tj T) hr.dn T.aE .nil Zc (Za (Zn (ZtD T) hr.dn rfl T.Zvl T.G3.kp T.pE .nil Zc (Za (Zv (pv 0) rfl) (Za (pv 1) (Za (pv 2) Ze)))) (Za (Zv (pv 0) rfl) Ze)))))),?_⟩
 refine ⟨_,rfl,f,dx,_,rfl,hF.ob,Z6 _ _ _ _,?_⟩;refine ⟨f,dx,_,_,_,_,rfl,hF.ob,.inr ⟨⟨q0,rfl⟩,?_⟩⟩;refine ⟨_,rfl,f,dx,_,rfl,hF.ob,Z6 _ _ _ _,_,rfl,f,_,dx,_,_,rfl,hF.ob,T.Zq,T.ZK,kH _ _ _ _,_,rfl,_,rfl,?_⟩;refine ⟨sv,F.S,old,new,rfl,hF.st,sm,mx,nM,?_⟩;unfold CD at q
 cases hm:sM F.S old new with
 | error r=>
  rw [hm] at q;exact fun H' s'=>q H' s'
 | ok S=>
  rw [hm] at q;dsimp only at q;intro v2 H2 s2 gb;have nS:=cM.same s2;refine ⟨_,rfl,f,_,dx,_,_,rfl,s2 _ _ hF.ob,T.Zq,T.ZY,nc _ _ _ _,?_⟩;refine ⟨f,q0,p,b,l,F,v2,kv,S,F.k,rfl,nS,gb,eN.mono _ _ _ _ s2 hF.ke,nJ S hm,kk,po,?_⟩
  cases ht:g0 F S F.k with
  | error r=>
   rw [ht] at q;exact fun H' s'=>q H' (s2.trans s')
  | ok F'=>
   rw [ht] at q;exact fun H' b1 h'=>q H' (fun d o e hd=>b1 _ _ (s2 _ _ e) hd) h'
inductive mf (g:Gs) (vs:List V) (H:Hp) (Q:VK) (E:XK):Prop
 | mk (f:_) (dx:_) (sv:_) (k:_) (t:_) (i:_) (S:_) (n:_) (bz:_) (many:_):vs=[.ref f,.int n,.int bz,.int many]->H f=some (.ins g.ak dx (cN sv k t i))->ZA g H S sv->0<=bz->0<=many->(match fj S n with
 | .error r=>∀ H',ag H H'->E (.ref (g.xa r)) none H'
 | .ok d=>∀ l H',ag H H'->H l=none->H' l=some (.lst (((d.drop bz.toNat).take many.toNat).map V.int))->Q (.ref l) H')->mf g vs H Q E
theorem ZnP:Zp ["self","number","start","many"] ["self","number","start","many"] (Zi ZjK):=ZN (by decide +kernel)
theorem D9 (T:Tx K mg g):ah P w K mg base (ay P w) 4 g.Ip g.JS ["self","number","start","many"] (mf g):=by
 refine T.Zkg.aP ZnP fun vs H Q E h=>?_;obtain ⟨f,dx,sv,k,t,i,S,n,bz,many,rfl,hf,hS,h0,h1,q⟩:=h;refine ⟨rfl,fun _ _ _ _ hr=>?_⟩;refine ⟨_,(Zh (Zt (ZT DV rfl T.pT PyProof.Rows.Boot.«list» (Za (p_ xM (Zn (IU T) hr.dn rfl T.HJ T.Aa.kp T.eX .nil Zc (Za (Zv (pv 0) rfl) (Za (pv 1) Ze))) (nA (pv 2)) (nA (Zy kJ (pv 2) (pv 3)))) Ze)))),?_⟩;refine ⟨_,rfl,f,_,dx,_,_,rfl,hf,T.Zq,T.ZK,kH _ _ _ _,_,rfl,sv,S,n,rfl,hS,?_⟩
 cases hd:fj S n with
 | error r=>
  rw [hd] at q;exact fun H' s'=>q H' s'
 | ok d=>
  rw [hd] at q;dsimp only at q;intro u H1 s1 ⟨t1,e,mv⟩;subst e;refine ⟨_,rfl,_,rfl,_,rfl,_,rfl,_,_,rfl,rfl,_,rfl,t1,_,rfl,mv,fun t2 H2 s2 dY=>?_⟩;rw [Zuy _ _ _ h0 h1] at dY;refine ⟨t2,_,rfl,.inr (aF.of dY),fun l hl=>?_⟩;exact q l _ ((s1.trans s2).trans (Zj hl)) (Hr (s1.trans s2) hl) Zb
inductive me (g:Gs) (vs:List V) (H:Hp) (Q:VK) (E:XK):Prop
 | mk (f:_) (dx:_) (sv:_) (k:_) (t:_) (i:_) (S:_) (n:_):vs=[.ref f,.int n]->H f=some (.ins g.ak dx (cN sv k t i))->ZA g H S sv->(iC S).length<=100000->(if ZE S n then
 ∀ t H',ag H H'->H' t=some (.tup [.str (kindOf S n),.int (vm S n),.int (vd S n)])->Q (.ref t) H' else ∀ H',ag H H'->E (.ref (g.xa .aA)) none H')->me g vs H Q E
theorem ZnO:Zp ["self","number"] ["self","number"] (Zi ZjI):=ZN (by decide +kernel)
theorem D_ (T:Tx K mg g):ah P w K mg base (ay P w) 3 g.Ir g.JV ["self","number"] (me g):=by
 refine T.Zke.aP ZnO fun vs H Q E h=>?_;obtain ⟨f,dx,sv,k,t,i,S,n,rfl,hf,hS,hl,q⟩:=h;refine ⟨rfl,fun _ _ _ _ hr=>?_⟩
 refine ⟨_,(Zd (ZC (Zn (K' T) hr.dn rfl T.Kj T.An.kp T.bX .nil Zc (Za (Zv (pv 0) rfl) (Za (pv 1) Ze))))
  (Zh (Zt (dH (Za (Zn (IV T) hr.dn rfl T.Hm T.z9.kp T.eW .nil Zc (Za (Zv (pv 0) rfl) (Za (pv 1) Ze))) (Za (Zn (ZqI T) hr.dn rfl T.ZsM T.Ii.kp T.lF .nil Zc (Za (Zv (pv 0) rfl) (Za (pv 1) Ze))) (Za (Zn (ZsC T) hr.dn rfl T.ZtS T.HN.kp T.mU .nil Zc (Za (Zv (pv 0) rfl) (Za (pv 1) Ze))) Ze))))))),?_⟩
 refine ⟨_,rfl,f,_,dx,_,_,rfl,hf,T.Zq,T.ZK,kH _ _ _ _,_,rfl,sv,S,n,rfl,hS,?_⟩;unfold yb
 cases hb:ZE S n with
 | false=>
  rw [hb,if_neg (by decide)] at q;exact fun H' s'=>q H' s'
 | true=>
  rw [hb,if_pos rfl] at q;intro u H1 s1 _;have nO:=s1 _ _ hf;have Fx:=ZA.mono _ _ _ _ s1 hS;refine ⟨_,rfl,f,_,dx,_,_,rfl,nO,T.Zq,T.ZK,kH _ _ _ _,_,rfl,sv,S,n,rfl,Fx,?_⟩;refine ⟨_,rfl,f,_,dx,_,_,rfl,nO,T.Zq,T.ZK,kH _ _ _ _,_,rfl,sv,S,n,rfl,Fx,hl,fun H2 s2=>?_⟩;refine ⟨_,rfl,f,_,dx,_,_,rfl,s2 _ _ nO,T.Zq,T.ZK,kH _ _ _ _,_,rfl,sv,S,n,rfl,ZA.mono _ _ _ _ s2 Fx,hb,?_⟩;exact ⟨aX 3,fun t ht=>q t _ ((s1.trans s2).trans (Zj ht)) Zb⟩
theorem lQ.keep {g:Gs} {H H':Hp} {q p:Addr} {T:qV} (h:lQ g H q p T) (h1:∀ o,H q=some o->H' q=some o) (h2:∀ v,hG H T.synced v->hG H' T.synced v):lQ g H' q p T:=by
 obtain ⟨dx,y,a,b⟩:=h;exact ⟨dx,y,h1 _ a,h2 _ b⟩
def Mp:HO->Bool
 | .bu _ _=>true
 | .cO _=>true
 | _=>false
def Odd (H:Hp) (o:HO):Prop:=(∃ _ _:Unit,Mp o=true)∨∃ (n:Int) (L:Addr) (r:List (Key×V)) (zs:List V),o=.dK ((X8 n,.ref L)::r)/\H L=some (.lst zs)
section
variable {g:Gs} {H H':Hp} (s:∀ d o,H d=some o->¬ Odd H o->H' d=some o)
include s
theorem Z1.od {r:Row} {v:V}:Z1 H r v->Z1 H' r v | ⟨t,e,h⟩=>⟨t,e,s _ _ h (by rintro (⟨_,_,z⟩ | ⟨_,_,_,_,z,_⟩) <;> cases z)⟩
theorem gY.od {r:ao} {v:V}:gY H r v->gY H' r v | ⟨t,e,h⟩=>⟨t,e,s _ _ h (by
 rintro (⟨_,_,z⟩ | ⟨n,L,rr,_,z,_⟩)
 .cases z
 injection z with z;unfold eJ at z
 cases r with
 | nil=>cases z
 | cons p r=>cases z)⟩
theorem ZA.od {S:az} {v:V}:ZA g H S v->ZA g H' S v | ⟨p,dx,da,ea,dk,ek,e,h⟩=>⟨p,dx,da,ea,dk,ek,e,s _ _ h.ob (by rintro (⟨_,_,z⟩ | ⟨_,_,_,_,z,_⟩) <;> cases z),s _ _ h.hd (by
  rintro (⟨_,_,z⟩ | ⟨n,L,rr,zs,z,hL⟩)
  .cases z
  injection z with z;have rd:=h.rd;rw [z] at rd;unfold Z8 at rd;generalize S.dat=xs at rd
  cases rd with
  | cons a _=>
   obtain ⟨_,t,e1,e2⟩:=a
   cases e1
   rw [hL] at e2
   cases e2),s _ _ h.he (by
  rintro (⟨_,_,z⟩ | ⟨n,L,rr,zs,z,hL⟩)
  .cases z
  injection z with z;have re:=h.re;rw [z] at re;unfold Z8 at re;generalize S.ent=xs at re
  cases re with
  | cons a _=>
   obtain ⟨_,t,e1,e2⟩:=a
   cases e1
   rw [hL] at e2
   cases e2),h.rd.gen (fun _ _ z=>z.od s),h.re.gen (fun _ _ z=>z.od s)⟩
theorem eN.od {k:Kept} {v:V}:eN g H k v->eN g H' k v | ⟨a,kvs,e,h,d⟩=>⟨a,kvs,e,s _ _ h (by
  rintro (⟨_,_,z⟩ | ⟨n,L,rr,zs,z,hL⟩)
  .cases z
  injection z with z;rw [z] at d;unfold Z8 at d
  cases d with
  | cons a _=>cases a.1),d.gen (fun _ _ z=>z.od s)⟩
theorem hG.od {k:g4} {v:V}:hG H k v->hG H' k v | ⟨a,kvs,e,h,d⟩=>⟨a,kvs,e,s _ _ h (by rintro (⟨_,_,z⟩ | ⟨_,_,_,_,z,_⟩) <;> cases z),d.gen (fun _ _ z=>z.od s)⟩
theorem jH.od {k:nE} {v:V}:jH g H k v->jH g H' k v | ⟨p,dx,pl,hd,e,h,h1,h2⟩=>⟨p,dx,pl,hd,e,s _ _ h (by rintro (⟨_,_,z⟩ | ⟨_,_,_,_,z,_⟩) <;> cases z),h1.od s,h2.od s⟩
theorem dQ.od {p b l:Addr} {D:dg} (h:dQ g H p b l D):dQ g H' p b l D:=h.keep fun d o e nK=>s _ _ e (by
 rcases nK with ⟨xs,rfl⟩ | ⟨xs,rfl⟩ | ⟨C,dx,b,l,rfl⟩ <;> (rintro (⟨_,_,z⟩ | ⟨_,_,_,_,z,_⟩) <;> cases z))
theorem cH.od {f q p b l:Addr} {F:bY} (h:cH g H f q p b l F):cH g H' f q p b l F:=by
 obtain ⟨dx,sv,kv,iv,h⟩:=h;refine ⟨dx,sv,kv,iv,s _ _ h.ob (by rintro (⟨_,_,z⟩ | ⟨_,_,_,_,z,_⟩) <;> cases z),h.st.od s,h.ke.od s,h.wK.keep (fun o e=>?_) (fun v z=>z.od s),h.Cy.od s,h.img.od s⟩;obtain ⟨jR,y,a,_⟩:=h.wK;rw [a] at e
 cases e
 exact s _ _ a (by rintro (⟨_,_,z⟩ | ⟨_,_,_,_,z,_⟩) <;> cases z)
end
inductive pA (K:Yf) (vs:List V) (H:Hp) (Q:VK) (aL:XK):Prop
 | mk (a:Addr) (ns:List Int) (k:Int):vs=[.ref a,.int k]->aq K H a (ns.map V.int)->ns.length<=63->0<=k->k < 1000000->(∀ H',ag H H'->Q (.int (pS ns k)) H')->pA K vs H Q aL
inductive mh (vs:List V) (H:Hp) (Q:VK) (aL:XK):Prop
 | mk (c k:Int):vs=[.int c,.int k]->Q (.int (Zyf c k)) H->mh vs H Q aL
theorem Zpd:Zp ["_law_script","_law_k"] ["_law_script","_law_k"] (Zi Zk8):=ZN (by decide +kernel)
theorem ZjT (T:Tx K mg g):ah P w K mg base (ay P w) 1 g.fc g.c5 ["_law_script","_law_k"] (pA K):=by
 refine T.DQ.aP Zpd fun vs H Q E h=>?_;obtain ⟨a,ns,k,rfl,hS,hl,w4,Co,q⟩:=h;refine ⟨rfl,fun _ _ _ _ hr=>?_⟩;have dI:=hr.units
 refine ⟨_,(Zd (Z0 (ZG (sy dI) (pv 0) (fV Ze) (ZO _)) (Zh (Zt (Zy ni (pv 1) Zl))) Zx)
  (Zh (Zt (Zy kJ (bw ZU (pv 0) (Zy df (pv 1) (ZD ZI (by rfl) T.eL YC (Za (pv 0) Ze))) (fun _ _=>rfl)) (Zy ni (Zy fJ (pv 1) (ZD ZI (by rfl) T.eL YC (Za (pv 0) Ze))) Zl))))),?_⟩
 refine ⟨_,rfl,Yv _,fun p hp=>?_⟩;have sm:ag H (upd H p (.lst [])):=Zj hp;have qy:=sm.seq hS;refine ⟨.list (ns.map .int),.list [],.inl (.inr ⟨a,_,_,rfl,rfl,qy,GW _ ns⟩),.inl (.inr ⟨p,[],[],rfl,rfl,aq.of Zb,.nil⟩),DP ns,rfl,_,rfl,?_⟩
 cases ns with
 | nil=>
  refine ax ?_;refine ⟨_,rfl,_,_,rfl,rfl,.inr ⟨by decide,by decide⟩,?_⟩;exact q _ sm
 | cons n r=>
  refine av ?_;have hL:(0:Int) < ((n::r).length:Int):=by rw [Yz];omega
  have hm0:0<=k % ((n::r).length:Int):=Int.emod_nonneg _ (by omega);have hm1:k % ((n::r).length:Int) < ((n::r).length:Int):=YbS _ hL;have br:(k % ((n::r).length:Int)).toNat < (n::r).length:=by omega
  have hd0:0<=k / ((n::r).length:Int):=Int.ediv_nonneg w4 (by omega);have hd1:k / ((n::r).length:Int)<=k:=Int.ediv_le_self _ w4
  have bP:fS ((n::r).map V.int) (k % ((n::r).length:Int))=some (V.int ((n::r).getD (k % ((n::r).length:Int)).toNat 0)):=by
   refine sH hm0 ?_;rw [Yo,Yh br,Xe,Ys,Yh br];rfl
  have mO:((n::r).map V.int).length=(n::r).length:=Yb ..;refine ⟨_,rfl,_,rfl,_,rfl,a,_,rfl,.inl qy,_,_,rfl,rfl,(by rw [mO];exact hL),a,_,_,_,rfl,rfl,qy,(by rw [mO];exact bP),?_⟩;refine ⟨_,rfl,_,rfl,a,_,rfl,.inl qy,_,_,rfl,rfl,(by rw [mO];exact ⟨hL,by omega⟩),_,_,rfl,rfl,.inr ⟨by decide,by decide⟩,_,_,rfl,rfl,?_⟩
  have:=q _ sm
  rw [mO];unfold pS at this;rw [if_neg (by simp)] at this;exact this
theorem Zhz:Zp ["_law_cell_here","_law_k","_law_more"] ["_law_cell_here","_law_k"] (Zi ZjD):=ZN (by decide +kernel)
theorem Zn4 (T:Tx K mg g):ah P w K mg base (ay P w) 1 g.dO g.cC ["_law_cell_here","_law_k"] mh:=by
 refine T.Kf.aP Zhz fun vs H Q E h=>?_;obtain ⟨c,k,rfl,q⟩:=h;refine ⟨rfl,fun _ _ _ _ hr=>?_⟩
 refine ⟨_,(Zd (Zz (i:=2) Zhz.nd rfl (Or.inl rfl) (Zy df (Zy kJ (Zy ni (pv 0) Zl) (Zy ni (Zy kJ (pv 1) Zl) Zl)) Zl))
  (Zh (Zt (Zy df (Zy ZwH (pv 2) (pv 2)) Zl)))),?_⟩
 refine ⟨_,rfl,_,_,rfl,rfl,.inr ⟨by decide,by decide⟩,_,rfl,_,_,rfl,rfl,_,_,rfl,rfl,.inr ⟨by decide,by decide⟩,_,_,rfl,rfl,_,_,rfl,rfl,(by show (0:Int) < 340282366920938463463374607431768211507;decide),?_⟩;have h1:=Zve c k;have h2:=Zvf c k
 have h3:(xt c k).natAbs < 2 ^ 200:=by
  have:(xt c k).natAbs < 340282366920938463463374607431768211507:=by omega
  exact Nat.lt_trans this (by decide)
 refine ⟨_,rfl,_,rfl,_,_,rfl,rfl,⟨h3,h3⟩,_,_,rfl,rfl,(by show (0:Int) < 340282366920938463463374607431768211297;decide),?_⟩;exact q
inductive pb (g:Gs) (vs:List V) (H:Hp) (Q:VK) (aL:XK):Prop
 | mk (a:Addr) (r:Rf):vs=[.ref a]->yp H a (g.xa r)->(∀ H',ag H H'->Q (.str r.word) H')->pb g vs H Q aL
def ue:List Rf:=[.aA,.aw,.aJ,.bo,.noRoom,.bp,.wrongKind,.aM,.readOnly,.c_]
theorem Zu0 (r:Rf):((ue.map fun u=>V.bl (decide (r=u))).countP fun z=>jQ z (.bl true))=1:=by cases r <;> decide
def mI:Rf->Nat
 | .aA=>0 | .aw=>1 | .aJ=>2 | .bo=>3 | .noRoom=>4 | .bp=>5 | .wrongKind=>6 | .aM=>7 | .readOnly=>8 | .c_=>9
theorem ZyK (r:Rf):∃ z,(ue.map fun u=>V.bl (decide (r=u)))[mI r]?=some z/\jQ z (.bl true)=true:=by cases r <;> exact ⟨_,rfl,rfl⟩
theorem Zu1 (r:Rf):∀ m z,m < mI r->(ue.map fun u=>V.bl (decide (r=u)))[m]?=some z->jQ z (.bl true)=false:=by
 intro m z hm hz;have hm':m < 10:=by cases r <;> simp only [mI] at hm <;> omega
 have key:∀ r:Rf,∀ m:Fin 10,m.val < mI r->(ue.map fun u=>V.bl (decide (r=u)))[m.val]?=some (.bl false):=by
  intro r m
  cases r <;> revert m <;> decide
 have:=key r ⟨m,hm'⟩ hm
 rw [this] at hz
 cases hz
 rfl
theorem Zwx (r:Rf):fS [V.str "NoThing",.str "NoDirectory",.str "BadName",.str "IsThere",.str "NoRoom",.str "NotEmpty",.str "WrongKind",.str "TooGreat",.str "ReadOnly",.str "NoFiles"] ((mI r:Nat):Int)=some (.str r.word):=by
 cases r <;> rfl
theorem Ag:Zp ["_law_e","_law_flags","_law_names"] ["_law_e"] (Zi Zk5):=ZN (by decide +kernel)
theorem ZjS (T:Tx K mg g):F6 P w K mg base 1 g.eY g.cW ["_law_e"] (pb g):=by
 refine T.DR.okH Ag (fun vs H Q E h=>?_) (fun aY A outer s H vs Q E hr h=>?_)
 .obtain ⟨a,r,rfl,_⟩:=h;rfl
 .obtain ⟨a,r,rfl,ha,q⟩:=h
  refine ⟨_,(Zd (Zz (i:=1) Ag.nd rfl (Or.inl rfl) (fV (Za (nq (pv 0) (ZJ (v:=.ref g.fY) rfl T.DF rfl) rfl T.ZS) (Za (nq (pv 0) (ZJ (v:=.ref g.bR) rfl T.Zh1 rfl) rfl T.ZS) (Za (nq (pv 0) (ZJ (v:=.ref g.f7) rfl T.HI rfl) rfl T.ZS) (Za (nq (pv 0) (ZJ (v:=.ref g.f6) rfl T.DE rfl) rfl T.ZS) Ze))))))
   (Zd (Zz (i:=1) Ag.nd rfl (Or.inl rfl) (Zy xE (pv 1) (fV (Za (nq (pv 0) (ZJ (v:=.ref g.ji) rfl T.ZrH rfl) rfl T.ZS) (Za (nq (pv 0) (ZJ (v:=.ref g.d8) rfl T.Znc rfl) rfl T.ZS) (Za (nq (pv 0) (ZJ (v:=.ref g.de) rfl T.tD rfl) rfl T.ZS) Ze))))))
   (Zd (Zz (i:=1) Ag.nd rfl (Or.inl rfl) (Zy xE (pv 1) (fV (Za (nq (pv 0) (ZJ (v:=.ref g.cR) rfl T.vC rfl) rfl T.ZS) (Za (nq (pv 0) (ZJ (v:=.ref g.d7) rfl T.Znb rfl) rfl T.ZS) (Za (nq (pv 0) (ZJ (v:=.ref g.fZ) rfl T.ZtW rfl) rfl T.ZS) Ze))))))
   (Zd (Zz (i:=2) Ag.nd rfl (Or.inl rfl) (fV (Za Zr (Za Zr (Za Zr (Za Zr (Za Zr (Za Zr (Za Zr (Za Zr (Za Zr Ze)))))))))))
   (Zd (Z0 (PW.pt (nW (ZG Gg (lR YR PySem.F.slot_list_count PySem.F.type_list_count ZrD (pv 1) (Za pQ Ze)) Zl (ZO _)) (nW (pV (nZ (nq (pv 0) (ZJ (v:=.ref g.bK) rfl T.JG rfl) rfl T.ZS))) (sG (pV (nZ (nq (pv 0) (GI (v:=.ty "ValueError") rfl T.ZoU PyProof.Rows.Boot.«ValueError» rfl) rfl T.ZS))))))) (Zh (Zt Zr)) Zx)
   (Zh (Zt (bw ZU (Zy xE (pv 2) (fV (Za Zr Ze))) (lR YR PySem.F.slot_list_index PySem.F.type_list_index Zvd (pv 1) (Za pQ Ze)) (fun _ _=>rfl))))))))),?_⟩
  have xf:=T.xf r;refine ⟨_,rfl,a,_,_,_,rfl,ha,xf,T.pF r .aA,_,rfl,a,_,_,_,rfl,ha,xf,T.pF r .aw,_,rfl,a,_,_,_,rfl,ha,xf,T.pF r .aJ,_,rfl,a,_,_,_,rfl,ha,xf,T.pF r .bo,(aX 4),fun p1 n1=>?_⟩;have s1:=Zj (o:=.lst [.bl (decide (r=.aA)),.bl (decide (r=.aw)),.bl (decide (r=.aJ)),.bl (decide (r=.bo))]) n1;have h1:=ha.same s1;refine ⟨_,rfl,_,rfl,a,_,_,_,rfl,h1,xf,T.pF r .noRoom,_,rfl,a,_,_,_,rfl,h1,xf,T.pF r .bp,_,rfl,a,_,_,_,rfl,h1,xf,T.pF r .wrongKind,(aX 3),fun p2 n2=>?_⟩;have s2:=Zj (o:=.lst [.bl (decide (r=.noRoom)),.bl (decide (r=.bp)),.bl (decide (r=.wrongKind))]) n2;refine ⟨p1,p2,_,_,rfl,rfl,s2 _ _ Zb,Zb,(aX 7),fun p3 n3=>?_⟩;have s3:=Zj (o:=.lst ([.bl (decide (r=.aA)),.bl (decide (r=.aw)),.bl (decide (r=.aJ)),.bl (decide (r=.bo))]++[.bl (decide (r=.noRoom)),.bl (decide (r=.bp)),.bl (decide (r=.wrongKind))])) n3;have h3:=(h1.same s2).same s3;refine ⟨_,rfl,_,rfl,a,_,_,_,rfl,h3,xf,T.pF r .aM,_,rfl,a,_,_,_,rfl,h3,xf,T.pF r .readOnly,_,rfl,a,_,_,_,rfl,h3,xf,T.pF r .c_,(aX 3),fun p4 n4=>?_⟩;have s4:=Zj (o:=.lst [.bl (decide (r=.aM)),.bl (decide (r=.readOnly)),.bl (decide (r=.c_))]) n4;refine ⟨p3,p4,_,_,rfl,rfl,s4 _ _ Zb,Zb,(aX 10),fun p5 n5=>?_⟩;have s5:=Zj (o:=.lst (ue.map fun u=>V.bl (decide (r=u)))) n5;have h5:=(h3.same s4).same s5;refine ⟨(aX 9),fun p6 n6=>?_⟩;have s6:=Zj (o:=.lst [.str "NoThing",.str "NoDirectory",.str "BadName",.str "IsThere",.str "NoRoom",.str "NotEmpty",.str "WrongKind",.str "TooGreat",.str "ReadOnly"]) n6;have h6:=h5.same s6;have hf:=s6 _ _ (Zb (H:=upd (upd (upd (upd H p1 _) p2 _) p3 _) p4 _) (a:=p5) (o:=.lst (ue.map fun u=>V.bl (decide (r=u)))));have dy:(ue.map fun u=>V.bl (decide (r=u))).all kI=true:=rfl;refine ⟨_,rfl,.inl ⟨rfl,_,aq.of hf⟩,p5,_,_,rfl,rfl,aq.of hf,rfl,dy,rfl,_,rfl,?_⟩;rw [Zu0];refine av ?_;refine ⟨_,rfl,a,_,_,_,rfl,h6,xf,T.Mn r,_,rfl,?_⟩;refine av ?_;refine ⟨_,rfl,a,_,_,_,rfl,h6,xf,T.vQ r,_,rfl,?_⟩;refine av ?_;refine ⟨_,rfl,(aX 1),fun p7 n7=>?_⟩;have s7:=Zj (o:=.lst [.str "NoFiles"]) n7;refine ⟨p6,p7,_,_,rfl,rfl,s7 _ _ Zb,Zb,(aX 10),fun p8 n8=>?_⟩;have s8:=Zj (o:=.lst ([.str "NoThing",.str "NoDirectory",.str "BadName",.str "IsThere",.str "NoRoom",.str "NotEmpty",.str "WrongKind",.str "TooGreat",.str "ReadOnly"]++[.str "NoFiles"])) n8;have hf8:=s8 _ _ (s7 _ _ hf);refine ⟨_,rfl,.inl ⟨rfl,_,aq.of hf8⟩,p5,_,_,mI r,rfl,rfl,aq.of hf8,rfl,dy,ZyK r,Zu1 r,p8,_,_,_,rfl,rfl,aq.of Zb,Zwx r,?_⟩;exact q _ (s1.trans (s2.trans (s3.trans (s4.trans (s5.trans (s6.trans (s7.trans s8)))))))
theorem Z8.drop {κ α ρ:Type} [DecidableEq κ] [DecidableEq ρ] {f:κ->ρ} (inj:∀ a b,f a=f b->a=b) {R:Hp->α->V->Prop} {H:Hp} {k:κ}:∀ {xs:List (κ×α)} {kvs:List (ρ×V)},Z8 f R H xs kvs->Z8 f R H (ZQ xs k) (hJ kvs (f k))
 | _,_,.nil=>.nil
 | q::_,p::_,.cons a t=>by
  have ih:=Z8.drop inj (k:=k) t
  by_cases z:q.1=k
  .have z2:p.1=f k:=by rw [a.1,z]
   rw [Zum z2];unfold ZQ at ih ⊢;rw [Wn (by simp [z])];exact ih
  .have z2:¬ p.1=f k:=fun e=>z (inj _ _ (a.1.symm.trans e));rw [Zp7 z2];unfold ZQ at ih ⊢;rw [Wm (by simp [z])];exact .cons a ih
def pU (S:az) (n:Int):Bool:=((aa S.ent n).getD []).isEmpty
def x' (S:az) (n:Int):Except Rf Unit:=if pU S n then .ok () else .error .bp
def Au (S:az) (n:Int):az:=⟨ZQ S.dat n,ZQ S.ent n⟩
def ZM (S:az) (d:Int) (name:Str):az:=match aa S.ent d with
 | none=>S
 | some es=>if (iC ⟨S.dat,af S.ent d (ZQ es name)⟩).contains ((aa es name).getD 0) then ⟨S.dat,af S.ent d (ZQ es name)⟩ else Au ⟨S.dat,af S.ent d (ZQ es name)⟩ ((aa es name).getD 0)
inductive d_ (g:Gs) (vs:List V) (H:Hp) (Q:VK) (E:XK):Prop
 | mk (v:_) (S:_) (n:_):vs=[v,.int n]->ZA g H S v->d0 g m9 H (x' S n) Q E->d_ g vs H Q E
theorem Zmf:Zp ["state","number"] ["state","number"] (Zi ZhF):=ZN (by decide +kernel)
theorem ZgG (T:Tx K mg g):ah P w K mg base (ay P w) 1 g.Jx g.KN ["state","number"] (d_ g):=by
 refine T.D8.aP Zmf fun vs H Q E h=>?_;obtain ⟨v,S,n,rfl,⟨p,dx,da,ea,dk,ek,rfl,hS⟩,q⟩:=h;refine ⟨rfl,fun _ _ _ _ hr=>?_⟩;have hu:=u1 hr.units;refine ⟨_,(Zh (Z0 (ZG (ZxN hu) (Hg hu (Zv (pv 0) rfl) (pv 1) qP ⟨rfl,rfl,rfl,rfl⟩) qP (ZO _)) (Zh (Z2 T.Zr8 rfl T.Znc (Za Zr Ze))) Zx)),?_⟩;refine ⟨_,rfl,p,_,dx,_,_,rfl,hS.ob,T.ZW,T.Zu,gZ _ _,ea,rfl,.inl ⟨_,.inl hS.he⟩,_,rfl,fun e1 n1=>?_⟩;have s1:=Zj (o:=.dK []) n1;refine ⟨_,aI.k (s1 _ _ hS.he) (k:=.inl n),fun e2 n2=>?_⟩;have s2:=Zj (o:=.dK []) n2;have f2:=Zb (H:=upd H e1 (.dK [])) (a:=e2) (o:=.dK []);have f1:=s2 _ _ (Zb (H:=H) (a:=e1) (o:=.dK []));generalize upd (upd H e1 (.dK [])) e2 (.dK [])=H2 at s2 f2 f1 ⊢;have kD:=s1.trans s2;unfold x' pU at q
 cases hg:aa S.ent n with
 | none=>
  rw [hg] at q;rw [hS.re.no eC hg];refine ⟨e1,e2,[],rfl,rfl,.inl f1,.inl f2,_,rfl,av ?_⟩;exact q _ _ kD rfl
 | some es=>
  rw [hg] at q;obtain ⟨ve,g7,⟨ae,rfl,iy⟩⟩:=hS.re.yes eC hg;rw [g7];refine ⟨ae,e2,eJ es,rfl,rfl,.inl (kD _ _ iy),.inl f2,_,rfl,?_⟩
  cases es with
  | nil=>exact av (q _ _ kD rfl)
  | cons y r=>exact ax ⟨aX 1,q _ kD⟩
inductive c6 (g:Gs) (vs:List V) (H:Hp) (Q:VK) (aL:XK):Prop
 | mk (v:_) (S:_) (n:_):vs=[v,.int n]->ZA g H S v->(∀ v' H',ag H H'->ZA g H' (Au S n) v'->Q v' H')->c6 g vs H Q aL
theorem Lj:Zp ["state","number","data","entries"] ["state","number"] (Zi Zfc):=ZN (by decide +kernel)
theorem Zkp (T:Tx K mg g):ah P w K mg base (ay P w) 3 g.Kt g.Ln ["state","number"] (c6 g):=by
 refine T.KY.aP Lj fun vs H Q E h=>?_;obtain ⟨v,S,n,rfl,⟨p,dx,da,ea,dk,ek,rfl,hS⟩,q⟩:=h;refine ⟨rfl,fun _ _ _ _ hr=>?_⟩
 refine ⟨_,(Zd (Zz (i:=2) Lj.nd rfl (Or.inl rfl) (ZT sY rfl T.sx PyProof.Rows.Boot.«dict» (Za (Zv (pv 0) rfl) Ze)))
  (Zd (ZC (Zrv (pv 2) (pv 1) Gq ⟨rfl,rfl,rfl,rfl⟩))
  (Zd (Zz (i:=3) Lj.nd rfl (Or.inl rfl) (ZT sY rfl T.sx PyProof.Rows.Boot.«dict» (Za (Zv (pv 0) rfl) Ze)))
  (Zd (ZC (Zrv (pv 3) (pv 1) Gq ⟨rfl,rfl,rfl,rfl⟩))
  (Zh (Zt (qJ T.Du (Ea T) hr.dn rfl T.C7 T.bF .nil Zc (Za (pv 2) (Za (pv 3) Ze))))))))),?_⟩
 refine ⟨_,rfl,p,_,dx,_,_,rfl,hS.ob,T.ZW,T.oo,nh _ _,da,dk,rfl,.inl hS.hd,fun a ha=>?_⟩;refine ⟨_,rfl,a,rfl,.inl ⟨_,.inl Zb⟩,_,rfl,Ztv (k:=.inl n) (z:=.aK) Zb fun _ H1 h1 k1=>?_⟩;have s1:ag H H1:=fun d o e=>k1 d o (Zg e ha) (by rw [Zf (Zg e ha)];exact e);refine ⟨_,rfl,p,_,dx,_,_,rfl,s1 _ _ hS.ob,T.ZW,T.Zu,gZ _ _,ea,ek,rfl,.inl (s1 _ _ hS.he),fun b hb=>?_⟩;refine ⟨_,rfl,b,rfl,.inl ⟨_,.inl Zb⟩,_,rfl,Ztv (k:=.inl n) (z:=.aK) Zb fun _ H2 h2 k2=>?_⟩;have s2:ag H1 H2:=fun d o e=>k2 d o (Zg e hb) (by rw [Zf (Zg e hb)];exact e);have kD:=s1.trans s2;refine ⟨_,rfl,_,rfl,fun x jR hx nQ ne=>DH hx nQ ne fun p2 iz H' s' eI=>?_⟩;refine q _ H' (kD.trans s') ⟨p2,iz,a,b,_,_,rfl,eI,s' _ _ (s2 _ _ h1),s' _ _ h2,?_,?_⟩
 .exact (hS.rd.same Z1.mono (kD.trans s')).drop eC
 .exact (hS.re.same gY.mono (kD.trans s')).drop eC
theorem ZrL (xs:List Int) (n:Int):rQ (.int n) (xs.map V.int)=xs.contains n:=by
 unfold rQ;rw [List.any_map]
 induction xs with
 | nil=>rfl
 | cons x r ih=>
  rw [W4,List.contains_cons,ih]
  congr 1
  show (x == n)=(n == x);exact Bool.beq_comm
theorem Zr5 (xs:List Int):(xs.map V.int).all kI=true:=by rw [List.all_map];exact List.all_eq_true.mpr fun _ _=>rfl
def sX (S:az) (p:Str):Except Rf az:=if fI p then (match fT S (Zw p) [0] with
 | .error r=>.error r
 | .ok ps=>if p="/" then .error .wrongKind else if pU S (ps.getLastD 0) then .ok (ZM S (ps.dropLast.getLastD 0) (Zm p)) else .error .bp) else .error .aJ
theorem DA {S:az}:∀ {ns:List Str} {ps qs:List Int},ns≠[]->ps≠[]->fT S ns ps=.ok qs->∃ es,aa S.ent (qs.dropLast.getLastD 0)=some es/\aa es (ns.getLastD "")=some (qs.getLastD 0)/\2<=qs.length
 | [n],ps,qs,_,hp,h=>by
  rw [Dz] at h
  cases h1:aa S.ent (ps.getLastD 0) with
  | none=>rw [h1] at h;cases h
  | some es=>
   rw [h1] at h;dsimp only at h
   cases h2:aa es n with
   | none=>rw [h2] at h;cases h
   | some i=>
    rw [h2] at h;dsimp only at h;rw [Dl] at h
    cases h
    refine ⟨es,?_,?_,?_⟩
    .rw [List.dropLast_concat];exact h1
    .show aa es n=some ((ps++[i]).getLastD 0);rw [h2];simp
    .rw [Yg]
     have:0 < ps.length:=List.length_pos_iff.mpr hp
     show 2<=ps.length + 1;omega
 | n::m::ns,ps,qs,_,hp,h=>by
  rw [Dz] at h
  cases h1:aa S.ent (ps.getLastD 0) with
  | none=>rw [h1] at h;cases h
  | some es=>
   rw [h1] at h;dsimp only at h
   cases h2:aa es n with
   | none=>rw [h2] at h;cases h
   | some i=>
    rw [h2] at h;exact DA (ns:=m::ns) (ps:=ps++[i]) (by simp) (by simp) h
theorem zY (ps:List Int) (h:2<=ps.length):fS (ps.map V.int) (-2)=some (.int (ps.dropLast.getLastD 0)):=by
 have hl:ps.length - 2 < ps.length:=by omega
 unfold fS pG;rw [if_neg (by decide),Yb,if_pos (by omega)];show (ps.map V.int)[(-2 + (ps.length:Int)).toNat]?=_;rw [show (-2 + (ps.length:Int)).toNat=ps.length - 2 by omega,Yo,Yh hl]
 have e:ps.dropLast.getLastD 0=ps[ps.length - 2]:=by
  have hd:ps.dropLast≠[]:=fun z=>by have:=congrArg List.length z;rw [YbI] at this;simp at this;omega
  rw [WT,YaM,YbI,List.getElem?_dropLast,if_pos (by omega),show ps.length - 1 - 1=ps.length - 2 by omega,Yh hl];rfl
 rw [e];rfl
inductive c7 (g:Gs) (vs:List V) (H:Hp) (Q:VK) (aL:XK):Prop
 | mk (v:_) (S:_) (d:_) (name:_) (es:_) (n:_):vs=[v,.int d,.str name]->ZA g H S v->iB S->aa S.ent d=some es->aa es name=some n->(iC ⟨S.dat,af S.ent d (ZQ es name)⟩).length<=100000->(∀ v' H',ag H H'->ZA g H' (ZM S d name) v'->Q v' H')->c7 g vs H Q aL
theorem Eb:Zp ["state","directory","name","entries","number","changed"] ["state","directory","name"] (Zi Zfd):=ZN (by decide +kernel)
theorem Lh (T:Tx K mg g):ah P w K mg base (ay P w) 4 g.Ks g.Lm ["state","directory","name"] (c7 g):=by
 refine T.Ax.aP Eb fun vs H Q E h=>?_;obtain ⟨v,S,d,name,es,n,rfl,lM,sm,hg,mz,dy,q⟩:=h;refine ⟨rfl,fun _ _ _ _ hr=>?_⟩;obtain ⟨p,dx,da,ea,dk,ek,rfl,hS⟩:=id lM;have hu:=u1 hr.units
 refine ⟨_,(Zd (Zz (i:=3) Eb.nd rfl (Or.inl rfl) (ZT sY rfl T.sx PyProof.Rows.Boot.«dict» (Za (kL hu (Zv (pv 0) rfl) (pv 1) (fun _ _=>rfl)) Ze)))
  (Zd (Zz (i:=4) Eb.nd rfl (Or.inl rfl) (Zrw (pv 3) (pv 2) ⟨rfl,rfl,rfl,rfl⟩))
  (Zd (Zz (i:=5) Eb.nd rfl (Or.inl rfl) (Zn (Ll T) hr.dn rfl T.K9 T.Aj.kp T.bL .nil Zc (Za (pv 0) (Za (pv 1) (Za (pv 3) Ze)))))
  (Zd (Z0 (ZG Ht (pv 4) (Zn (Ze0 T) hr.dn rfl T.Zfr T.Ed.kp T.cF .nil Zc (Za (pv 5) Ze)) rfl) (Zh (Zt (pv 5))) Zx)
  (Zh (Zt (Zn (Zkp T) hr.dn rfl T.Zly T.KY.kp T.fO .nil Zc (Za (pv 5) (Za (pv 4) Ze))))))))),?_⟩
 obtain ⟨ve,g7,⟨ae,rfl,iy⟩⟩:=hS.re.yes eC hg;refine ⟨_,rfl,p,_,dx,_,_,rfl,hS.ob,T.ZW,T.Zu,gZ _ _,_,rfl,ea,_,rfl,(by have:=aI.k hS.he (k:=.inl d);rw [g7] at this;exact this),ae,_,rfl,.inl iy,fun a ha=>?_⟩;refine ⟨_,rfl,a,rfl,.inl ⟨_,.inl Zb⟩,_,rfl,eJ es,.inr name,.int n,Zb,rfl,(by rw [xU,mz];rfl),?_⟩;rw [Zuk];have s1:ag H (upd (upd H a (.dK (eJ es))) a (.dK (eJ (ZQ es name)))):=fun b o e=>by rw [Zf (Zg e ha),Zf (Zg e ha)];exact e
 have f1:=Zb (H:=upd H a (.dK (eJ es))) (a:=a) (o:=.dK (eJ (ZQ es name)));generalize upd (upd H a (.dK (eJ es))) a (.dK (eJ (ZQ es name)))=H1 at s1 f1 ⊢;refine ⟨_,rfl,_,rfl,_,rfl,.ref p,S,d,ZQ es name,_,rfl,ZA.mono _ _ _ _ s1 lM,⟨a,rfl,f1⟩,sm.e,fun v2 H2 s2 gb=>?_⟩;refine ⟨_,rfl,_,rfl,v2,_,rfl,gb,dy,fun l H3 s3 g9=>?_⟩;refine ⟨l,_,rfl,.inl (aq.of g9),rfl,Zr5 _,_,rfl,?_⟩;rw [if_neg (show ¬ (false=true) by decide),ZrL];unfold ZM at q;rw [hg] at q;dsimp only at q;rw [mz,YD] at q;have dF:=(s1.trans s2).trans s3
 cases hc:(iC ⟨S.dat,af S.ent d (ZQ es name)⟩).contains n with
 | true=>
  rw [hc,if_pos rfl] at q;exact ax ⟨_,rfl,q _ _ dF (ZA.mono _ _ _ _ s3 gb)⟩
 | false=>
  rw [hc,if_neg (by decide)] at q;exact av ⟨_,rfl,_,rfl,v2,_,n,rfl,ZA.mono _ _ _ _ s3 gb,fun v' H' s' h'=>q _ _ (dF.trans s') h'⟩
theorem Ho {S:az} {d:Int} {es:ao} (hn:S.ent.length<=100) (hm:∀ p∈S.ent,p.2.length<=100) (he:es.length<=100):(iC ⟨S.dat,af S.ent d es⟩).length<=100000:=by
 have key:∀ (xs:List (Int×ao)),(∀ p∈xs,p.2.length<=100)->((xs.map fun p=>p.2.map (·.2)).flatten).length<=100 * xs.length:=by
  intro xs
  induction xs with
  | nil=>intro _;exact Yv _
  | cons p r ih=>
   intro h;rw [Yt,Xh,Yg,Yb,Yz];have h1:=h p YA;have h2:=ih fun q hq=>h q (Yr _ hq);omega
 have h2:=key (af S.ent d es) fun p hp=>by
  rcases Hh hp with h | h
  .exact hm p h
  .rw [h];exact he
 have h3:=sR S.ent d es;show ((af S.ent d es).map fun p=>p.2.map (·.2)).flatten.length<=_;omega
inductive gJ (g:Gs) (vs:List V) (H:Hp) (Q:VK) (E:XK):Prop
 | mk (v:_) (S:_) (p:_):vs=[v,.str p]->ZA g H S v->dR S->(∀ q∈S.ent,q.2.length<=100)->p.length<=1000->d0 g (ZA g) H (sX S p) Q E->gJ g vs H Q E
theorem ZkT:Zp ["state","path","passed"] ["state","path"] (Zi ZmR):=ZN (by decide +kernel)
theorem ZqH (T:Tx K mg g):ah P w K mg base (ay P w) 5 g.gC g.Iw ["state","path"] (gJ g):=by
 refine T.Ij.aP ZkT fun vs H Q E h=>?_;obtain ⟨v,S,p,rfl,hS,so,hm,hl,q⟩:=h;refine ⟨rfl,fun _ _ _ _ hr=>?_⟩
 refine ⟨_,(Zd (ZC (Zn (yj T) hr.dn rfl T.yk T.tm.kp T.a9 .nil Zc (Za (pv 1) Ze)))
  (Zd (Zz (i:=2) ZkT.nd rfl (Or.inl rfl) (Zn (Dh T) hr.dn rfl T.CZ T.xx.kp T.jh .nil Zc (Za (pv 0) (Za (Zn (oq T) hr.dn rfl T.om T.Z7.kp T.aD .nil Zc (Za (pv 1) Ze)) Ze))))
  (Zd (Z0 (ZG fU (pv 1) Zr (ZO _)) (Zh (Z2 T.vz rfl T.tD (Za Zr Ze))) Zx)
  (Zd (ZC (Zn (ZgG T) hr.dn rfl T.ZhY T.D8.kp T.dB .nil Zc (Za (pv 0) (Za (bw ZU (pv 2) (gf gm Zl) (fun _ _=>rfl)) Ze))))
  (Zh (Zt (Zn (Lh T) hr.dn rfl T.Lr T.Ax.kp T.bx .nil Zc (Za (pv 0) (Za (bw ZU (pv 2) (gf gm Zl) (fun _ _=>rfl)) (Za (bw ZU (Zn (oq T) hr.dn rfl T.om T.Z7.kp T.aD .nil Zc (Za (pv 1) Ze)) (gf gm Zl) (fun _ _=>rfl)) Ze)))))))))),?_⟩
 refine ⟨_,rfl,p,rfl,hl,?_⟩;unfold sX at q;unfold ou
 cases hb:fI p with
 | false=>
  rw [hb] at q;exact fun H' s'=>q H' s'
 | true=>
  rw [hb,if_pos rfl] at q;intro v1 H1 s1 _;refine ⟨_,rfl,_,rfl,p,rfl,hl,fun l H2 s2 hn cL=>?_⟩;have kD:=s1.trans s2;refine ⟨v,S,l,Zw p,rfl,ZA.mono _ _ _ _ kD hS,cL,?_,fun n hn=>?_,?_⟩
  .have:=Aq p;omega
  .have:=Ar p n hn;omega
  cases hw:fT S (Zw p) [0] with
  | error r=>
   rw [hw] at q;exact fun H' s'=>q H' (kD.trans s')
  | ok ps=>
   rw [hw] at q;dsimp only at q;intro v3 H3 s3 ⟨D,e,hD⟩;subst e;have dF:=kD.trans s3;refine ⟨_,rfl,rfl,_,rfl,?_⟩
   by_cases h0:p="/"
   .rw [if_pos h0] at q;rw [decide_eq_true (show V.str p=V.str "/" by rw [h0])];exact ax ⟨aX 1,q _ dF⟩
   rw [if_neg h0] at q;rw [decide_eq_false (show ¬ V.str p=V.str "/" by intro z;injection z with z;exact h0 z)];obtain ⟨es,cj,i4,h2⟩:=DA (nC h0) (by decide) hw;refine av ⟨_,rfl,_,rfl,_,rfl,D,_,_,_,rfl,rfl,aq.of hD,lX ps (vi hw (by decide)).1,v,S,_,rfl,ZA.mono _ _ _ _ dF hS,?_⟩;unfold x'
   cases he:pU S (ps.getLastD 0) with
   | false=>
    rw [he,if_neg (by decide)] at q;exact fun H' s'=>q H' (dF.trans s')
   | true=>
    rw [he,if_pos rfl] at q;intro v4 H4 s4 _;have s14:=dF.trans s4;refine ⟨_,rfl,_,rfl,_,rfl,D,_,_,_,rfl,rfl,aq.of (s4 _ _ hD),zY ps h2,_,rfl,p,rfl,hl,fun l5 H5 s5 hn5 f_=>?_⟩;refine ⟨_,rfl,l5,_,_,_,rfl,rfl,aq.of f_,sT _ (nC h0),?_⟩;have Fb:iB S:=⟨by have:=so.n;omega,by have:=so.n;omega,fun n es e=>by have:=(so.ent n es e).1;omega⟩
    refine ⟨v,S,_,Zm p,es,_,rfl,ZA.mono _ _ _ _ (s14.trans s5) hS,Fb,cj,i4,?_,fun v' H' s' h'=>q _ _ ((s14.trans s5).trans s') h'⟩;refine Ho (by have:=so.n;omega) hm ?_;exact Yk (XA _ _) (by have:=(so.ent _ _ cj).1;omega)
def kM (S:az) (n:Int):Except Rf ao:=if ZE S n then (match aa S.dat n with
 | some _=>.error .wrongKind
 | none=>.ok ((aa S.ent n).getD [])) else .error .aA
def z_ (n:Str):Except Rf Unit:=if eD n then .ok () else .error .aJ
def De (F:bY) (p:Str):Except Rf bY:=match sX F.S p with
 | .error r=>.error r
 | .ok S=>g0 F S F.k
def xC (F:bY) (n:Str):Except Rf bY:=if eD n then (if (aa F.k n).isSome then .error .bo else if 3<=F.k.length then .error .aM else g0 F F.S (af F.k n F.S)) else .error .aJ
def xZ (F:bY) (n:Str):Except Rf bY:=if eD n then (if (aa F.k n).isSome then g0 F F.S (ZQ F.k n) else .error .aA) else .error .aJ
inductive fw (g:Gs) (vs:List V) (H:Hp) (Q:VK) (E:XK):Prop
 | mk (v:_) (S:_) (n:_):vs=[v,.int n]->ZA g H S v->d0 g gY H (kM S n) Q E->fw g vs H Q E
theorem ZnH:Zp ["state","number"] ["state","number"] (Zi Zjz):=ZN (by decide +kernel)
theorem Zn2 (T:Tx K mg g):ah P w K mg base (ay P w) 3 g.ID g.J_ ["state","number"] (fw g):=by
 refine T.Kh.aP ZnH fun vs H Q E h=>?_;obtain ⟨v,S,n,rfl,lM,q⟩:=h;refine ⟨rfl,fun _ _ _ _ hr=>?_⟩;have hu:=u1 hr.units
 refine ⟨_,(Zd (ZC (Zn (K' T) hr.dn rfl T.Kj T.An.kp T.bX .nil Zc (Za (pv 0) (Za (pv 1) Ze))))
  (Zd (Z0 (i_ (nj hu (pv 1) (Zv (pv 0) rfl))) (Zh (Z2 T.vz rfl T.tD (Za Zr Ze))) Zx)
  (Zh (Zt (kL hu (Zv (pv 0) rfl) (pv 1) (fun _ _=>rfl)))))),?_⟩
 refine ⟨_,rfl,_,rfl,v,S,n,rfl,lM,?_⟩;unfold yb;unfold kM at q
 cases hb:ZE S n with
 | false=>
  rw [hb] at q;exact fun H' s'=>q H' s'
 | true=>
  rw [hb,if_pos rfl] at q;intro v1 H1 s1 _;obtain ⟨p,dx,da,ea,dk,ek,rfl,hS⟩:=ZA.mono _ _ _ _ s1 lM;refine ⟨_,rfl,_,rfl,p,_,dx,_,_,rfl,hS.ob,T.ZW,T.oo,nh _ _,da,_,rfl,aI.k hS.hd (k:=.inl n),_,rfl,?_⟩;rw [hS.rd.some eC]
  cases hg:aa S.dat n with
  | some es=>
   rw [hg] at q;exact ax ⟨aX 1,q _ s1⟩
  | none=>
   rw [hg] at q
   have hd:∃ es,aa S.ent n=some es:=by
    unfold ZE at hb;rw [hg,X4,Ya8] at hb;exact Option.isSome_iff_exists.mp hb
   obtain ⟨es,hd⟩:=hd;rw [hd] at q;obtain ⟨vr,g7,h_⟩:=hS.re.yes eC hd;refine av ⟨_,rfl,p,_,dx,_,_,rfl,hS.ob,T.ZW,T.Zu,gZ _ _,_,rfl,ea,vr,rfl,(by have:=aI.k hS.he (k:=.inl n);rw [g7] at this;exact this),?_⟩;exact q _ _ s1 h_
inductive fC (g:Gs) (vs:List V) (H:Hp) (Q:VK) (E:XK):Prop
 | mk (n:_):vs=[.str n]->n.length<=1000->d0 g m9 H (z_ n) Q E->fC g vs H Q E
theorem ZnJ:Zp ["name"] ["name"] (Zi ZjB):=ZN (by decide +kernel)
theorem ZhU (T:Tx K mg g):ah P w K mg base (ay P w) 2 g.Jd g.J8 ["name"] (fC g):=by
 refine T.D4.aP ZnJ fun vs H Q E h=>?_;obtain ⟨p,rfl,hl,q⟩:=h;refine ⟨rfl,fun _ _ _ _ hr=>?_⟩;refine ⟨_,(Zh (Z0 (pV (nZ (Zn (Zm7 T) hr.dn rfl T.ZpD T.Dw.kp T.iV .nil Zc (Za (pv 0) Ze)))) (Zh (Z2 T.ZoV rfl T.HI (Za (xJ (xA (pv 0) (xI xH))) Ze))) Zx)),?_⟩;refine ⟨_,rfl,p,rfl,Zs hl (by decide),fun H1 s1=>⟨_,rfl,?_⟩⟩
 cases hb:eD p with
 | true=>exact av (q.ok (x:=()) (by unfold z_;rw [hb];rfl) _ _ s1 rfl)
 | false=>
  refine ax ?_;refine ⟨_,rfl,p,rfl,Zs hl (by decide),?_,?_,?_,?_,q.no (r:=.aJ) (by unfold z_;rw [hb];rfl) _ s1⟩
  .rw [ZX];exact Zs (m:=1000) (by show 0 + p.length<=1000;omega) (by decide)
  .rw [ZX,ZX];exact Zs (m:=1100) (by show 0 + p.length + 11<=1100;omega) (by decide)
  .rw [ZX,ZX];exact Zs (m:=1100) (by show 0 + p.length + 11<=1100;omega) (by decide)
  .exact aX 1
inductive eU (g:Gs) (vs:List V) (H:Hp) (Q:VK) (E:XK):Prop
 | mk (f:_) (q:_) (p:_) (b:_) (l:_) (F:_) (pa:_):vs=[.ref f,.str pa]->cH g H f q p b l F->dR F.S->(∀ q∈F.S.ent,q.2.length<=100)->pa.length<=1000->(∀ S,sX F.S pa=.ok S->dR S)->i9 F.k->m_ F.T.synced->(match De F pa with
 | .error r=>∀ H',ag H H'->E (.ref (g.xa r)) none H'
 | .ok F'=>∀ H',gy f H H'->cH g H' f q p b l F'->Q .aK H')->eU g vs H Q E
theorem ZkX:Zp ["self","path"] ["self","path"] (Zi ZgB):=ZN (by decide +kernel)
theorem Zlp (T:Tx K mg g):ah P w K mg base (ay P w) 7 g.JW g.K3 ["self","path"] (eU g):=by
 refine T.ZgN.aP ZkX fun vs H Q E h=>?_;obtain ⟨f,q0,p,b,l,F,pa,rfl,cM,so,hm,hl,nJ,kk,po,q⟩:=h;refine ⟨rfl,fun _ _ _ _ hr=>?_⟩;obtain ⟨dx,sv,kv,iv,hF⟩:=id cM
 refine ⟨_,(Zd (ZC (nB (pv 0) T.Zq T.ZL (ZH T) hr.dn T.ai .nil Zc))
  (Zh (ZC (ZP (pv 0) T.Zq T.s_ (tj T) hr.dn T.aE .nil Zc (Za (Zn (ZqH T) hr.dn rfl T.ZsL T.Ij.kp T.lE .nil Zc (Za (Zv (pv 0) rfl) (Za (pv 1) Ze))) (Za (Zv (pv 0) rfl) Ze)))))),?_⟩
 refine ⟨_,rfl,f,dx,_,rfl,hF.ob,Z6 _ _ _ _,?_⟩;refine ⟨f,dx,_,_,_,_,rfl,hF.ob,.inr ⟨⟨q0,rfl⟩,?_⟩⟩;refine ⟨_,rfl,f,dx,_,rfl,hF.ob,Z6 _ _ _ _,_,rfl,f,_,dx,_,_,rfl,hF.ob,T.Zq,T.ZK,kH _ _ _ _,_,rfl,?_⟩;refine ⟨sv,F.S,pa,rfl,hF.st,so,hm,hl,?_⟩;unfold De at q
 cases hm:sX F.S pa with
 | error r=>
  rw [hm] at q;exact fun H' s'=>q H' s'
 | ok S=>
  rw [hm] at q;dsimp only at q;intro v2 H2 s2 gb;have nS:=cM.same s2;refine ⟨_,rfl,f,_,dx,_,_,rfl,s2 _ _ hF.ob,T.Zq,T.ZY,nc _ _ _ _,?_⟩;refine ⟨f,q0,p,b,l,F,v2,kv,S,F.k,rfl,nS,gb,eN.mono _ _ _ _ s2 hF.ke,nJ S hm,kk,po,?_⟩
  cases ht:g0 F S F.k with
  | error r=>
   rw [ht] at q;exact fun H' s'=>q H' (s2.trans s')
  | ok F'=>
   rw [ht] at q;exact fun H' b1 h'=>q H' (fun d o e hd=>b1 _ _ (s2 _ _ e) hd) h'
def Zxe (H:Hp) (es:ao) (l:Addr):Prop:=∃ as:List Addr,H l=some (.lst (as.map V.ref))/\as.length=es.length/\∀ (j:Nat) a p,as[j]?=some a->es[j]?=some p->H a=some (.tup [.str p.1,.int p.2])
inductive ki (g:Gs) (vs:List V) (H:Hp) (Q:VK) (E:XK):Prop
 | mk (f:_) (dx:_) (sv:_) (k:_) (t:_) (i:_) (S:_) (n:_):vs=[.ref f,.int n]->H f=some (.ins g.ak dx (cN sv k t i))->ZA g H S sv->dR S->(match kM S n with
 | .error r=>∀ H',ag H H'->E (.ref (g.xa r)) none H'
 | .ok es=>∀ l H',ag H H'->H l=none->Zxe H' (bC es) l->Q (.ref l) H')->ki g vs H Q E
theorem Zmk:Zp ["self","number"] ["self","number"] (Zi ZhK):=ZN (by decide +kernel)
theorem Al (T:Tx K mg g):ah P w K mg base (ay P w) 4 g.Jl g.KA ["self","number"] (ki g):=by
 refine T.Zim.aP Zmk fun vs H Q E h=>?_;obtain ⟨f,dx,sv,k,t,i,S,n,rfl,hf,hS,so,q⟩:=h;refine ⟨rfl,fun _ _ _ _ hr=>?_⟩;refine ⟨_,(Zh (Zt (ZD Zj7 (by rfl) T.vv PyProof.Rows.Boot.«sorted» (Za (xF YW Yba Ya9 Hn (Zn (Zn2 T) hr.dn rfl T.ZpF T.Kh.kp T.js .nil Zc (Za (Zv (pv 0) rfl) (Za (pv 1) Ze)))) Ze)))),?_⟩;refine ⟨_,rfl,f,_,dx,_,_,rfl,hf,T.Zq,T.ZK,kH _ _ _ _,_,rfl,sv,S,n,rfl,hS,?_⟩
 cases hd:kM S n with
 | error r=>
  rw [hd] at q;exact fun H' s'=>q H' s'
 | ok es=>
  rw [hd] at q;dsimp only at q;intro u H1 s1 ⟨a,e,ha⟩;subst e
  have jF:es.length < 64:=by
   unfold kM at hd
   split at hd
   .split at hd
    .cases hd
    .cases hd
     cases he:aa S.ent n with
     | none=>decide
     | some es=>exact (so.ent n es he).1
   .cases hd
  refine ⟨.inr (.inr (.inl ⟨rfl,.inl ⟨_,ha⟩⟩)),a,.dK _,rfl,rfl,.inl ha,rfl,fun r eG=>?_⟩;have s2:=Zj (o:=xp r a) eG;refine ⟨r,a,es,rfl,Zb,.inl (s2 _ _ ha),jF,fun l as H' s' hn hl hlen _ hp=>?_⟩;exact q l H' ((s1.trans s2).trans s') (Hr (s1.trans s2) hn) ⟨as,hl,hlen,hp⟩
inductive kh (g:Gs) (vs:List V) (H:Hp) (Q:VK) (aL:XK):Prop
 | mk (f:_) (dx:_) (sv:_) (kv:_) (t:_) (i:_) (k:_):vs=[.ref f]->H f=some (.ins g.ak dx (cN sv kv t i))->eN g H k kv->k.length < 64->(∀ l H',ag H H'->H l=none->H' l=some (.lst ((fH (k.map (·.1))).map V.str))->Q (.ref l) H')->kh g vs H Q aL
theorem Zmj:Zp ["self"] ["self"] (Zi ZhJ):=ZN (by decide +kernel)
theorem ZgI (T:Tx K mg g):ah P w K mg base (ay P w) 1 g.Jm g.KC ["self"] (kh g):=by
 refine T.Zil.aP Zmj fun vs H Q E h=>?_;obtain ⟨f,dx,sv,kv,t,i,k,rfl,hf,⟨a,kvs,rfl,ha,hd⟩,jF,q⟩:=h;refine ⟨rfl,fun _ _ _ _ hr=>?_⟩;refine ⟨_,(Zh (Zt (ZD Zj8 (by rfl) T.vv PyProof.Rows.Boot.«sorted» (Za (Zv (pv 0) rfl) Ze)))),?_⟩;refine ⟨_,rfl,f,_,dx,_,_,rfl,hf,T.Zq,T.ZY,nc _ _ _ _,a,kvs,k.map (·.1),rfl,.inl ha,hd.tM,(by rw [Yb];exact jF),fun l hl=>?_⟩;exact q l _ (Zj hl) hl Zb
inductive fD (g:Gs) (vs:List V) (H:Hp) (Q:VK) (E:XK):Prop
 | mk (f:_) (dx:_) (sv:_) (kv:_) (t:_) (i:_) (k:_) (n:_):vs=[.ref f,.str n]->H f=some (.ins g.ak dx (cN sv kv t i))->eN g H k kv->n.length<=1000->d0 g m9 H (if (aa k n).isSome then .ok () else .error .aA) Q E->fD g vs H Q E
theorem ZgT:Zp ["self","name"] ["self","name"] (Zi Zdi):=ZN (by decide +kernel)
theorem ZgX (T:Tx K mg g):ah P w K mg base (ay P w) 1 g.Ld g.Ly ["self","name"] (fD g):=by
 refine T.ZdD.aP ZgT fun vs H Q E h=>?_;obtain ⟨f,dx,sv,kv,t,i,k,n,rfl,hf,⟨a,kvs,rfl,ha,hd⟩,hl,q⟩:=h;refine ⟨rfl,fun _ _ _ _ hr=>?_⟩;have hu:=u1 hr.units;refine ⟨_,(Zh (Z0 (i_ (x9 hu (pv 1) (Zv (pv 0) rfl))) (Zh (Z2 T.HY rfl T.DF (Za (xJ (xI (xA (pv 1) xH))) Ze))) Zx)),?_⟩;refine ⟨_,rfl,_,rfl,f,_,dx,_,_,rfl,hf,T.Zq,T.ZY,nc _ _ _ _,a,_,rfl,aI.k ha (k:=.inr n),_,rfl,?_⟩;rw [hd.some xP]
 cases hb:(aa k n).isSome with
 | true=>
  rw [hb,if_pos rfl] at q;exact av (q _ _ (ag.refl _) rfl)
 | false=>
  rw [hb,if_neg (by decide)] at q;refine ax ?_;refine ⟨?_,_,rfl,n,rfl,Zs hl (by decide),?_,?_,aX 1,q _ (ag.refl _)⟩
  .rw [ZX];exact Zs (m:=100) (by decide) (by decide)
  .rw [ZX,ZX];exact Zs (m:=2100) (by show 0 + 21 + n.length<=2100;omega) (by decide)
  .rw [ZX,ZX];exact Zs (m:=2100) (by show 0 + 21 + n.length<=2100;omega) (by decide)
theorem i9.put {k:Kept} (h:i9 k) {n:Str} {S:az} (hn:eD n=true) (so:dR S) (hl:¬ 3<=k.length):i9 (af k n S):=by
 refine ⟨?_,fun m S' e=>?_⟩
 .have:=sR k n S;omega
 .rw [ZV] at e
  by_cases z:m=n
  .rw [if_pos z] at e;cases e;rw [z];exact ⟨hn,so⟩
  .rw [if_neg z] at e;exact h.nm m S' e
theorem vy {κ α:Type} [DecidableEq κ] {k m:κ} {x:α}:∀ {xs:List (κ×α)},aa (ZQ xs k) m=some x->aa xs m=some x
 | [],h=>by cases h
 | p::r,h=>by
  unfold ZQ at h
  by_cases z:p.1=k
  .rw [Wn (by simp [z])] at h;have ih:=vy (xs:=r) (k:=k) h
   by_cases y:p.1=m
   .exfalso
    have hm:=vo h;rw [List.mem_filter] at hm
    have:=hm.2
    simp at this
    exact this (y.symm.trans z)
   .rw [ZZ y];exact ih
  .rw [Wm (by simp [z])] at h
   by_cases y:p.1=m
   .rw [gj y] at h ⊢;exact h
   .rw [ZZ y] at h ⊢;exact vy (xs:=r) (k:=k) h
theorem i9.drop {k:Kept} (h:i9 k) (n:Str):i9 (ZQ k n):=⟨Yk (XA _ _) h.n,fun m S e=>h.nm m S (vy e)⟩
inductive jm (g:Gs) (vs:List V) (H:Hp) (Q:VK) (E:XK):Prop
 | mk (f:_) (q:_) (p:_) (b:_) (l:_) (F:_) (n:_):vs=[.ref f,.str n]->cH g H f q p b l F->dR F.S->n.length<=1000->i9 F.k->m_ F.T.synced->(match xC F n with
 | .error r=>∀ H',ag H H'->E (.ref (g.xa r)) none H'
 | .ok F'=>∀ H',gy f H H'->cH g H' f q p b l F'->Q .aK H')->jm g vs H Q E
theorem ZhA:Zp ["self","name","kept"] ["self","name"] (Zi ZjJ):=ZN (by decide +kernel)
theorem Zn9 (T:Tx K mg g):ah P w K mg base (ay P w) 7 g.Iq g.JU ["self","name"] (jm g):=by
 refine T.Zkf.aP ZhA fun vs H Q E h=>?_;obtain ⟨f,q0,p,b,l,F,n,rfl,cM,so,hl,kk,po,q⟩:=h;refine ⟨rfl,fun _ _ _ _ hr=>?_⟩;obtain ⟨dx,sv,kv,iv,hF⟩:=id cM;have hu:=u1 hr.units
 refine ⟨_,(Zd (ZC (nB (pv 0) T.Zq T.ZL (ZH T) hr.dn T.ai .nil Zc))
  (Zd (ZC (Zn (ZhU T) hr.dn rfl T.ZjZ T.D4.kp T.et .nil Zc (Za (pv 1) Ze)))
  (Zd (Z0 (i_ (nj hu (pv 1) (Zv (pv 0) rfl))) (Zh (Z2 T.HX rfl T.DE (Za (xJ (xI (xA (pv 1) xH))) Ze))) Zx)
  (Zd (Z0 (ZG ZxO (ZD Hy (by rfl) T.eL YC (Za (Zv (pv 0) rfl) Ze)) (ZJ (v:=.int 3) rfl T.Zkq ⟨_,rfl⟩) (ZO _)) (Zh (Z2 T.ye rfl T.vC (Za Zr Ze))) Zx)
  (Zd (Zz (i:=2) ZhA.nd rfl (Or.inl rfl) (ZT sY rfl T.sx PyProof.Rows.Boot.«dict» (Za (Zv (pv 0) rfl) Ze)))
  (Zd (vg hu (pv 2) (pv 1) (Zv (pv 0) rfl) rfl)
  (Zh (ZC (ZP (pv 0) T.Zq T.s_ (tj T) hr.dn T.aE .nil Zc (Za (Zv (pv 0) rfl) (Za (pv 2) Ze))))))))))),?_⟩
 refine ⟨_,rfl,f,dx,_,rfl,hF.ob,Z6 _ _ _ _,?_⟩;refine ⟨f,dx,_,_,_,_,rfl,hF.ob,.inr ⟨⟨q0,rfl⟩,?_⟩⟩;refine ⟨_,rfl,n,rfl,hl,?_⟩;unfold xC at q;unfold z_
 cases hb:eD n with
 | false=>
  rw [hb] at q;exact fun H' s'=>q H' s'
 | true=>
  rw [hb,if_pos rfl] at q;intro v1 H1 s1 _;obtain ⟨ka,kvs,rfl,pK,hd⟩:=eN.mono _ _ _ _ s1 hF.ke;have gX:=s1 _ _ hF.ob;refine ⟨_,rfl,_,rfl,f,_,dx,_,_,rfl,gX,T.Zq,T.ZY,nc _ _ _ _,ka,_,rfl,aI.k pK (k:=.inr n),_,rfl,?_⟩;rw [hd.some xP]
  cases hk:(aa F.k n).isSome with
  | true=>
   rw [hk,if_pos rfl] at q;refine ax ?_;refine ⟨?_,_,rfl,n,rfl,Zs hl (by decide),?_,?_,aX 1,q _ s1⟩
   .rw [ZX];exact Zs (m:=100) (by decide) (by decide)
   .rw [ZX,ZX];exact Zs (m:=2100) (by show 0 + 20 + n.length<=2100;omega) (by decide)
   .rw [ZX,ZX];exact Zs (m:=2100) (by show 0 + 20 + n.length<=2100;omega) (by decide)
  | false=>
   rw [hk,if_neg (by decide)] at q;refine av ⟨_,rfl,f,_,dx,_,_,rfl,gX,T.Zq,T.ZY,nc _ _ _ _,ka,_,rfl,pK,_,_,rfl,rfl,_,rfl,?_⟩;rw [hd.len]
   by_cases h3:3<=F.k.length
   .rw [if_pos h3] at q;rw [decide_eq_true (show (3:Int)<=(F.k.length:Int) by omega)];exact ax ⟨aX 1,q _ s1⟩
   .rw [if_neg h3] at q;rw [decide_eq_false (show ¬ (3:Int)<=(F.k.length:Int) by omega)];refine av ⟨_,rfl,f,_,dx,_,_,rfl,gX,T.Zq,T.ZY,nc _ _ _ _,ka,kvs,rfl,.inl pK,fun a ha=>?_⟩;have s2:=Zj (o:=.dK kvs) ha;have mr:=s2 _ _ gX;refine ⟨_,rfl,f,_,dx,_,_,rfl,mr,T.Zq,T.ZK,kH _ _ _ _,_,rfl,_,rfl,a,_,rfl,d6.k (k:=.inr n) Zb (lt_size (by rw [hd.len];omega)),?_⟩;have s3:ag H1 (upd (upd H1 a (.dK kvs)) a (.dK (putK kvs (.inr n) sv))):=fun b o e=>by rw [Zf (Zg e ha),Zf (Zg e ha)];exact e
    have f3:=Zb (H:=upd H1 a (.dK kvs)) (a:=a) (o:=.dK (putK kvs (.inr n) sv));generalize upd (upd H1 a (.dK kvs)) a (.dK (putK kvs (.inr n) sv))=H3 at s3 f3 ⊢;have dF:=s1.trans s3;have uK:=ZA.mono _ _ _ _ dF hF.st;refine ⟨_,rfl,f,dx,_,rfl,dF _ _ hF.ob,Z6 _ _ _ _,_,rfl,f,_,dx,_,_,rfl,dF _ _ hF.ob,T.Zq,T.ZK,kH _ _ _ _,_,rfl,?_⟩;refine ⟨f,q0,p,b,l,F,sv,_,F.S,af F.k n F.S,rfl,cM.same dF,uK,⟨a,_,rfl,f3,(hd.same ZA.mono s3).put xP uK⟩,so,kk.put hb so h3,po,?_⟩
    cases ht:g0 F F.S (af F.k n F.S) with
    | error r=>
     rw [ht] at q;exact fun H' s'=>q H' (dF.trans s')
    | ok F'=>
     rw [ht] at q;exact fun H' b1 h'=>q H' (fun d o e hd=>b1 _ _ (dF _ _ e) hd) h'
inductive eT (g:Gs) (vs:List V) (H:Hp) (Q:VK) (E:XK):Prop
 | mk (f:_) (q:_) (p:_) (b:_) (l:_) (F:_) (n:_):vs=[.ref f,.str n]->cH g H f q p b l F->dR F.S->n.length<=1000->i9 F.k->m_ F.T.synced->(match xZ F n with
 | .error r=>∀ H',ag H H'->E (.ref (g.xa r)) none H'
 | .ok F'=>∀ H',gy f H H'->cH g H' f q p b l F'->Q .aK H')->eT g vs H Q E
theorem Zfb:Zp ["self","name","kept"] ["self","name"] (Zi ZgA):=ZN (by decide +kernel)
theorem Zlo (T:Tx K mg g):ah P w K mg base (ay P w) 7 g.JX g.K4 ["self","name"] (eT g):=by
 refine T.ZgM.aP Zfb fun vs H Q E h=>?_;obtain ⟨f,q0,p,b,l,F,n,rfl,cM,so,hl,kk,po,q⟩:=h;refine ⟨rfl,fun _ _ _ _ hr=>?_⟩;obtain ⟨dx,sv,kv,iv,hF⟩:=id cM
 refine ⟨_,(Zd (ZC (nB (pv 0) T.Zq T.ZL (ZH T) hr.dn T.ai .nil Zc))
  (Zd (ZC (Zn (ZhU T) hr.dn rfl T.ZjZ T.D4.kp T.et .nil Zc (Za (pv 1) Ze)))
  (Zd (ZC (ZP (pv 0) T.Zq T.Zh7 (ZgX T) hr.dn T.dP .nil Zc (Za (pv 1) Ze)))
  (Zd (Zz (i:=2) Zfb.nd rfl (Or.inl rfl) (ZT sY rfl T.sx PyProof.Rows.Boot.«dict» (Za (Zv (pv 0) rfl) Ze)))
  (Zd (ZC (Zrw (pv 2) (pv 1) ⟨rfl,rfl,rfl,rfl⟩))
  (Zh (ZC (ZP (pv 0) T.Zq T.s_ (tj T) hr.dn T.aE .nil Zc (Za (Zv (pv 0) rfl) (Za (pv 2) Ze)))))))))),?_⟩
 refine ⟨_,rfl,f,dx,_,rfl,hF.ob,Z6 _ _ _ _,?_⟩;refine ⟨f,dx,_,_,_,_,rfl,hF.ob,.inr ⟨⟨q0,rfl⟩,?_⟩⟩;refine ⟨_,rfl,n,rfl,hl,?_⟩;unfold xZ at q;unfold z_
 cases hb:eD n with
 | false=>
  rw [hb] at q;exact fun H' s'=>q H' s'
 | true=>
  rw [hb,if_pos rfl] at q;intro v1 H1 s1 _;have gX:=s1 _ _ hF.ob;refine ⟨_,rfl,f,dx,_,rfl,gX,Z6 _ _ _ _,_,rfl,f,dx,_,_,_,_,F.k,n,rfl,gX,eN.mono _ _ _ _ s1 hF.ke,hl,?_⟩
  cases hk:(aa F.k n).isSome with
  | false=>
   rw [hk,if_neg (by decide)] at q;exact fun H' s'=>q H' (s1.trans s')
  | true=>
   rw [hk,if_pos rfl] at q;intro v2 H2 s2 _;have kD:=s1.trans s2;obtain ⟨ka,kvs,rfl,pK,hd⟩:=eN.mono _ _ _ _ kD hF.ke;refine ⟨_,rfl,f,_,dx,_,_,rfl,kD _ _ hF.ob,T.Zq,T.ZY,nc _ _ _ _,ka,kvs,rfl,.inl pK,fun a ha=>?_⟩;obtain ⟨S0,hS0⟩:=Option.isSome_iff_exists.mp hk;obtain ⟨v0,hv0,_⟩:=hd.yes xP hS0;refine ⟨_,rfl,a,rfl,.inl ⟨_,.inl Zb⟩,_,rfl,kvs,.inr n,v0,Zb,rfl,hv0,?_⟩;have s3:ag H2 (upd (upd H2 a (.dK kvs)) a (.dK (hJ kvs (.inr n)))):=fun b o e=>by rw [Zf (Zg e ha),Zf (Zg e ha)];exact e
   have f3:=Zb (H:=upd H2 a (.dK kvs)) (a:=a) (o:=.dK (hJ kvs (.inr n)));generalize upd (upd H2 a (.dK kvs)) a (.dK (hJ kvs (.inr n)))=H3 at s3 f3 ⊢;have dF:=kD.trans s3;have uK:=ZA.mono _ _ _ _ dF hF.st;refine ⟨_,rfl,f,dx,_,rfl,dF _ _ hF.ob,Z6 _ _ _ _,_,rfl,f,_,dx,_,_,rfl,dF _ _ hF.ob,T.Zq,T.ZK,kH _ _ _ _,_,rfl,?_⟩;refine ⟨f,q0,p,b,l,F,sv,_,F.S,ZQ F.k n,rfl,cM.same dF,uK,⟨a,_,rfl,f3,(hd.same ZA.mono s3).drop xP⟩,so,kk.drop n,po,?_⟩
   cases ht:g0 F F.S (ZQ F.k n) with
   | error r=>
    rw [ht] at q;exact fun H' s'=>q H' (dF.trans s')
   | ok F'=>
    rw [ht] at q;exact fun H' b1 h'=>q H' (fun d o e hd=>b1 _ _ (dF _ _ e) hd) h'
def sU (S:az) (n t:Int):Except Rf Unit:=if kindOf S n=kindOf S t then x' S t else .error .wrongKind
def hV (ps:List Int):Int:=ps.dropLast.getLastD 0
def CO (S:az) (ps as:List Int) (old new:Str):az:=ZM (Z5 S (as.getLastD 0) (Zm new) (ps.getLastD 0)) (hV ps) (Zm old)
def GL (S:az) (ps as:List Int) (old new:Str):Except Rf az:=match aa ((aa S.ent (as.getLastD 0)).getD []) (Zm new) with
 | some t=>if t=ps.getLastD 0 then .ok S else (match sU S (ps.getLastD 0) t with
  | .error r=>.error r
  | .ok _=>.ok (CO (ZM S (as.getLastD 0) (Zm new)) ps as old new))
 | none=>if as.getLastD 0≠hV ps/\40<=((aa S.ent (as.getLastD 0)).getD []).length then .error .aM else .ok (CO S ps as old new)
def sS (S:az) (old new:Str):Except Rf az:=if !fI old then .error .aJ else if !fI new then .error .aJ else
 match fT S (Zw old) [0] with
 | .error r=>.error r
 | .ok ps=>if old="/"∨new="/" then .error .wrongKind else match lW S new with
  | .error r=>.error r
  | .ok as=>if as.contains (ps.getLastD 0) then .error .wrongKind else GL S ps as old new
structure xw (S:az) (ps as:List Int) (old new:Str):Prop where
 sm:iB S
 en:∃ es,aa S.ent (as.getLastD 0)=some es
 EE:iB (Z5 S (as.getLastD 0) (Zm new) (ps.getLastD 0))
 FQ:∃ es n,aa (Z5 S (as.getLastD 0) (Zm new) (ps.getLastD 0)).ent (hV ps)=some es/\aa es (Zm old)=some n/\
  (iC ⟨(Z5 S (as.getLastD 0) (Zm new) (ps.getLastD 0)).dat,af (Z5 S (as.getLastD 0) (Zm new) (ps.getLastD 0)).ent (hV ps) (ZQ es (Zm old))⟩).length<=100000
theorem Iy {S:az} {p:Str} {as:List Int} (h:lW S p=.ok as):as≠[]/\∃ es,aa S.ent (as.getLastD 0)=some es:=by
 unfold lW at h
 cases h2:fT S (Zw p).dropLast [0] with
 | error r=>rw [h2] at h;cases h
 | ok qs=>
  rw [h2] at h;dsimp only at h
  cases h3:aa S.ent (qs.getLastD 0) with
  | none=>rw [h3] at h;cases h
  | some es=>
   rw [h3] at h
   cases h
   exact ⟨(vi h2 (by decide)).1,es,h3⟩
inductive fA (g:Gs) (vs:List V) (H:Hp) (Q:VK) (E:XK):Prop
 | mk (v:_) (S:_) (n:_) (t:_):vs=[v,.int n,.int t]->ZA g H S v->d0 g m9 H (sU S n t) Q E->fA g vs H Q E
theorem Zgo:Zp ["state","number","there"] ["state","number","there"] (Zi ZcU):=ZN (by decide +kernel)
theorem Zgp (T:Tx K mg g):ah P w K mg base (ay P w) 2 g.LB g.Lu ["state","number","there"] (fA g):=by
 refine T.Ls.aP Zgo fun vs H Q E h=>?_;obtain ⟨v,S,n,t,rfl,hS,q⟩:=h;refine ⟨rfl,fun _ _ _ _ hr=>?_⟩
 refine ⟨_,(Zd (Z0 (ZG Gg (Zn (IV T) hr.dn rfl T.Hm T.z9.kp T.eW .nil Zc (Za (pv 0) (Za (pv 1) Ze))) (Zn (IV T) hr.dn rfl T.Hm T.z9.kp T.eW .nil Zc (Za (pv 0) (Za (pv 2) Ze))) (ZO _)) (Zh (Z2 T.vz rfl T.tD (Za Zr Ze))) Zx)
  (Zh (ZC (Zn (ZgG T) hr.dn rfl T.ZhY T.D8.kp T.dB .nil Zc (Za (pv 0) (Za (pv 2) Ze)))))),?_⟩
 refine ⟨_,rfl,_,rfl,v,S,n,rfl,hS,_,rfl,_,rfl,v,S,t,rfl,hS,rfl,_,rfl,?_⟩;unfold sU at q
 by_cases h:kindOf S n=kindOf S t
 .rw [if_pos h] at q;refine Zx1 (by rw [h]) ?_;refine ⟨_,rfl,_,rfl,v,S,t,rfl,hS,?_⟩
  cases hce:x' S t with
  | error r=>
   rw [hce] at q;exact fun H' s'=>q H' s'
  | ok u=>
   rw [hce] at q;intro v1 H1 s1 _;exact q _ _ s1 rfl
 .rw [if_neg h] at q;rw [decide_eq_false (show ¬ V.str (kindOf S n)=V.str (kindOf S t) by intro z;injection z with z;exact h z)];exact ax ⟨aX 1,q _ (ag.refl _)⟩
inductive iL (g:Gs) (vs:List V) (H:Hp) (Q:VK) (E:XK):Prop
 | mk (v:_) (S:_) (old:_) (new:_):vs=[v,.str old,.str new]->ZA g H S v->iB S->old.length<=1000->new.length<=1000->(∀ ps as,fI new=true->fT S (Zw old) [0]=.ok ps->lW S new=.ok as->old≠"/"->new≠"/"->as.contains (ps.getLastD 0)=false->
  (aa ((aa S.ent (as.getLastD 0)).getD []) (Zm new)=none->xw S ps as old new)/\
  (∀ t,aa ((aa S.ent (as.getLastD 0)).getD []) (Zm new)=some t->t≠ps.getLastD 0->sU S (ps.getLastD 0) t=.ok ()->(iC ⟨S.dat,af S.ent (as.getLastD 0) (ZQ ((aa S.ent (as.getLastD 0)).getD []) (Zm new))⟩).length<=100000/\xw (ZM S (as.getLastD 0) (Zm new)) ps as old new))->d0 g (ZA g) H (sS S old new) Q E->iL g vs H Q E
theorem qS:Zp ["state","old","new","passed","number","ahead","name","there","changed"] ["state","old","new"] (Zi Zpj):=ZN (by decide +kernel)
theorem ZsE (T:Tx K mg g):ah P w K mg base (ay P w) 5 g.renamed g.Hw ["state","old","new"] (iL g):=by
 refine T.HL.aP qS fun vs H Q E h=>?_;obtain ⟨v,S,old,new,rfl,hS,sm,mx,nM,oX,q⟩:=h;refine ⟨rfl,fun _ _ _ _ hr=>?_⟩;have hu:=u1 hr.units
 refine ⟨_,(Zd (ZC (Zn (yj T) hr.dn rfl T.yk T.tm.kp T.a9 .nil Zc (Za (pv 1) Ze)))
  (Zd (ZC (Zn (yj T) hr.dn rfl T.yk T.tm.kp T.a9 .nil Zc (Za (pv 2) Ze)))
  (Zd (Zz (i:=3) qS.nd rfl (Or.inl rfl) (Zn (Dh T) hr.dn rfl T.CZ T.xx.kp T.jh .nil Zc (Za (pv 0) (Za (Zn (oq T) hr.dn rfl T.om T.Z7.kp T.aD .nil Zc (Za (pv 1) Ze)) Ze))))
  (Zd (Z0 (PW.pt (nW (ZG fU (pv 1) Zr (ZO _)) (sG (ZG fU (pv 2) Zr (ZO _))))) (Zh (Z2 T.vz rfl T.tD (Za Zr Ze))) Zx)
  (Zd (Zz (i:=4) qS.nd rfl (Or.inl rfl) (bw ZU (pv 3) (gf gm Zl) (fun _ _=>rfl)))
  (Zd (Zz (i:=5) qS.nd rfl (Or.inl rfl) (Zn (Zcw T) hr.dn rfl T.Zc1 T.Ei.kp T.bB .nil Zc (Za (pv 0) (Za (pv 2) Ze))))
  (Zd (Z0 (ZG Ht (pv 4) (pv 5) rfl) (Zh (Z2 T.vz rfl T.tD (Za Zr Ze))) Zx)
  (Zd (Zz (i:=6) qS.nd rfl (Or.inl rfl) (bw ZU (Zn (oq T) hr.dn rfl T.om T.Z7.kp T.aD .nil Zc (Za (pv 2) Ze)) (gf gm Zl) (fun _ _=>rfl)))
  (Zd (Zz (i:=7) qS.nd rfl (Or.inl rfl) (Zu6 hu (kL hu (Zv (pv 0) rfl) (bw ZU (pv 5) (gf gm Zl) (fun _ _=>rfl)) (fun _ _=>rfl)) (pv 6) ⟨rfl,rfl,rfl,rfl⟩))
  (Zd (Z0 (ZG fU (pv 7) (pv 4) (ZO _)) (Zh (Zt (pv 0))) Zx)
  (Zd (Zz (i:=8) qS.nd rfl (Or.inl rfl) (pv 0))
  (Zd (Z0 (i_ (ZwE (pv 7))) (Zd (ZC (Zn (Zgp T) hr.dn rfl T.Zg0 T.Ls.kp T.dv .nil Zc (Za (pv 0) (Za (pv 4) (Za (pv 7) Ze)))))
  (Zh (Zz (i:=8) qS.nd rfl (Or.inl rfl) (Zn (Lh T) hr.dn rfl T.Lr T.Ax.kp T.bx .nil Zc (Za (pv 0) (Za (bw ZU (pv 5) (gf gm Zl) (fun _ _=>rfl)) (Za (pv 6) Ze))))))) (Zh (Z0 (ZG Gg (bw ZU (pv 5) (gf gm Zl) (fun _ _=>rfl)) (bw ZU (pv 3) (gf gm Zl) (fun _ _=>rfl)) (ZO _)) (Zh (ZC (Zn (Lw T) hr.dn rfl T.Lf T.Aw.kp T.bt .nil Zc (Za (pv 0) (Za (bw ZU (pv 5) (gf gm Zl) (fun _ _=>rfl)) Ze))))) Zx)))
  (Zd (Zz (i:=8) qS.nd rfl (Or.inl rfl) (Zn (Kp T) hr.dn rfl T.JH T.Ae.kp T.cA .nil Zc (Za (pv 8) (Za (bw ZU (pv 5) (gf gm Zl) (fun _ _=>rfl)) (Za (pv 6) (Za (pv 4) Ze))))))
  (Zh (Zt (Zn (Lh T) hr.dn rfl T.Lr T.Ax.kp T.bx .nil Zc (Za (pv 8) (Za (bw ZU (pv 3) (gf gm Zl) (fun _ _=>rfl)) (Za (bw ZU (Zn (oq T) hr.dn rfl T.om T.Z7.kp T.aD .nil Zc (Za (pv 1) Ze)) (gf gm Zl) (fun _ _=>rfl)) Ze))))))))))))))))))),?_⟩
 refine ⟨_,rfl,old,rfl,mx,?_⟩;unfold sS at q;unfold ou
 cases hb:fI old with
 | false=>
  rw [hb] at q;exact fun H' s'=>q H' s'
 | true=>
  rw [hb,if_neg (by decide)] at q;intro v1 H1 s1 _;refine ⟨_,rfl,new,rfl,nM,?_⟩;show d0 g m9 H1 (ou new) _ _;unfold ou
  cases nR:fI new with
  | false=>
   rw [nR] at q;exact fun H' s'=>q H' (s1.trans s')
  | true=>
   rw [nR,if_neg (by decide)] at q;intro v2 H2 s2 _;have sB:=s1.trans s2;refine ⟨_,rfl,_,rfl,old,rfl,mx,fun l H3 s3 hn g9=>?_⟩;have sC:=sB.trans s3;refine ⟨v,S,l,Zw old,rfl,ZA.mono _ _ _ _ sC hS,g9,?_,fun n hn=>?_,?_⟩
   .have:=Aq old;omega
   .have:=Ar old n hn;omega
   cases hw:fT S (Zw old) [0] with
   | error r=>
    rw [hw] at q;exact fun H' s'=>q H' (sC.trans s')
   | ok ps=>
    rw [hw] at q;dsimp only at q;intro v4 H4 s4 ⟨D,e,hD⟩;subst e;have sD:=sC.trans s4;refine ⟨_,rfl,rfl,_,rfl,?_⟩
    by_cases h0:old="/"
    .rw [if_pos (.inl h0)] at q;rw [decide_eq_true (show V.str old=V.str "/" by rw [h0])];exact ax (ax ⟨aX 1,q _ sD⟩)
    rw [decide_eq_false (show ¬ V.str old=V.str "/" by intro z;injection z with z;exact h0 z)];refine av ⟨_,rfl,rfl,_,rfl,?_⟩
    by_cases h1:new="/"
    .rw [if_pos (.inr h1)] at q;rw [decide_eq_true (show V.str new=V.str "/" by rw [h1])];exact ax ⟨aX 1,q _ sD⟩
    rw [decide_eq_false (show ¬ V.str new=V.str "/" by intro z;injection z with z;exact h1 z)];rw [if_neg (by intro z;rcases z with z | z;exact h0 z;exact h1 z)] at q;obtain ⟨esO,hesO,henO,h2⟩:=DA (nC h0) (by decide) hw;have uz:=(vi hw (by decide)).1;refine av ⟨_,rfl,_,rfl,D,_,_,_,rfl,rfl,aq.of hD,lX ps uz,?_⟩;refine ⟨_,rfl,_,rfl,v,S,new,rfl,ZA.mono _ _ _ _ sD hS,nM,?_⟩
    cases Cc:lW S new with
    | error r=>
     rw [Cc] at q;exact fun H' s'=>q H' (sD.trans s')
    | ok as=>
     rw [Cc] at q;dsimp only at q;obtain ⟨ll,es,cj⟩:=Iy Cc;intro v5 H5 s5 ⟨A5,e,hA⟩;subst e;have sE:=sD.trans s5;refine ⟨_,rfl,_,rfl,A5,_,rfl,.inl (aq.of hA),rfl,Zr5 _,_,rfl,?_⟩;rw [if_neg (show ¬ (false=true) by decide),ZrL]
     cases hc:as.contains (ps.getLastD 0) with
     | true=>
      rw [hc,if_pos rfl] at q;exact ax ⟨aX 1,q _ sE⟩
     | false=>
      rw [hc,if_neg (by decide)] at q;obtain ⟨tI,tH⟩:=oX ps as nR hw Cc h0 h1 hc;refine av ⟨_,rfl,new,rfl,nM,fun l6 H6 s6 Ci rY=>?_⟩;have sF:=sE.trans s6;refine ⟨_,rfl,l6,_,_,_,rfl,rfl,aq.of rY,sT _ (nC h1),?_⟩;obtain ⟨p,dx,da,ea,dk,ek,ev,hP⟩:=ZA.mono _ _ _ _ sF hS;obtain ⟨ve,g7,⟨ae,eve,iy⟩⟩:=hP.re.yes eC cj;subst ev eve;have uN:=s6 _ _ hA;have pM:=s6 _ _ (s5 _ _ hD);refine ⟨_,rfl,p,_,dx,_,_,rfl,hP.ob,T.ZW,T.Zu,gZ _ _,_,rfl,_,rfl,A5,_,_,_,rfl,rfl,aq.of uN,lX as ll,ea,_,rfl,(by have:=aI.k hP.he (k:=.inl (as.getLastD 0));rw [g7] at this;exact this),ae,rfl,.inl ⟨_,.inl iy⟩,_,rfl,_,aI.k iy (k:=.inr (Zm new)),?_⟩;rw [xU];unfold GL at q;rw [cj,YD] at q tI tH;have xb:ZA g H6 S (.ref p):=⟨p,dx,da,ea,dk,ek,rfl,hP⟩
      cases mz:aa es (Zm new) with
      | none=>
       rw [mz] at q;have R:=tI mz;dsimp only at q;refine ⟨_,rfl,_,rfl,rfl,_,rfl,av ?_⟩;refine ⟨_,rfl,_,rfl,_,rfl,av ?_⟩;refine ⟨_,rfl,_,rfl,A5,_,_,_,rfl,rfl,aq.of uN,lX as ll,_,rfl,_,rfl,D,_,_,_,rfl,rfl,aq.of pM,zY ps h2,rfl,_,rfl,?_⟩
       by_cases hp:as.getLastD 0=hV ps
       .rw [if_neg (fun z=>z.1 hp)] at q;refine Zx1 (by show V.int (as.getLastD 0)=V.int (hV ps);rw [hp]) ?_;obtain ⟨zA,oJ⟩:=(R).en;obtain ⟨fQ,m,zi,y_,cL⟩:=(R).FQ;refine ⟨_,rfl,_,rfl,_,rfl,A5,_,_,_,rfl,rfl,aq.of uN,lX as ll,_,rfl,_,rfl,?_⟩;refine ⟨.ref p,S,_,Zm new,_,zA,rfl,xb,(R).sm,oJ,fun v8 H8 s8 zr=>?_⟩;refine ⟨_,rfl,_,rfl,_,rfl,D,_,_,_,rfl,rfl,aq.of (s8 _ _ pM),zY ps h2,_,rfl,old,rfl,mx,fun l9 H9 s9 hn9 pJ=>?_⟩;refine ⟨_,rfl,l9,_,_,_,rfl,rfl,aq.of pJ,sT _ (nC h0),?_⟩;exact ⟨v8,_,_,Zm old,fQ,m,rfl,ZA.mono _ _ _ _ s9 zr,(R).EE,zi,y_,cL,fun v' H' s' h'=>q _ _ (sF.trans ((s8.trans s9).trans s')) h'⟩
       .rw [decide_eq_false (show ¬ V.int (as.getLastD 0)=V.int (ps.dropLast.getLastD 0) by intro z;injection z with z;exact hp z)];refine ax ⟨_,rfl,_,rfl,_,rfl,A5,_,_,_,rfl,rfl,aq.of uN,lX as ll,.ref p,S,_,es,rfl,xb,cj,?_⟩
        by_cases h4:40<=es.length
        .rw [if_pos ⟨hp,h4⟩] at q;rw [if_pos h4];exact fun H' s'=>q H' (sF.trans s')
        .rw [if_neg (fun z=>h4 z.2)] at q;rw [if_neg h4];intro v7 H7 s7 _;obtain ⟨zA,oJ⟩:=(R).en;obtain ⟨fQ,m,zi,y_,cL⟩:=(R).FQ;refine ⟨_,rfl,_,rfl,_,rfl,A5,_,_,_,rfl,rfl,aq.of (s7 _ _ uN),lX as ll,_,rfl,_,rfl,?_⟩;refine ⟨.ref p,S,_,Zm new,_,zA,rfl,(ZA.mono _ _ _ _ s7 xb),(R).sm,oJ,fun v8 H8 s8 zr=>?_⟩;refine ⟨_,rfl,_,rfl,_,rfl,D,_,_,_,rfl,rfl,aq.of (s8 _ _ (s7 _ _ pM)),zY ps h2,_,rfl,old,rfl,mx,fun l9 H9 s9 hn9 pJ=>?_⟩;refine ⟨_,rfl,l9,_,_,_,rfl,rfl,aq.of pJ,sT _ (nC h0),?_⟩;exact ⟨v8,_,_,Zm old,fQ,m,rfl,ZA.mono _ _ _ _ s9 zr,(R).EE,zi,y_,cL,fun v' H' s' h'=>q _ _ ((sF.trans s7).trans ((s8.trans s9).trans s')) h'⟩
      | some t=>
       rw [mz] at q;dsimp only at q;rw [Xe,YD];refine ⟨_,rfl,_,rfl,rfl,_,rfl,?_⟩
       by_cases ht:t=ps.getLastD 0
       .rw [if_pos ht] at q;rw [decide_eq_true (show V.int t=V.int (ps.getLastD 0) by rw [ht])];exact ax ⟨_,rfl,q _ _ sF xb⟩
       rw [if_neg ht] at q;rw [decide_eq_false (show ¬ V.int t=V.int (ps.getLastD 0) by intro z;injection z with z;exact ht z)];refine av ⟨_,rfl,_,rfl,_,rfl,ax ?_⟩;refine ⟨_,rfl,_,rfl,_,rfl,.ref p,S,_,_,rfl,xb,?_⟩
       cases Fn:sU S (ps.getLastD 0) t with
       | error r=>
        rw [Fn] at q;exact fun H' s'=>q H' (sF.trans s')
       | ok u=>
        rw [Fn] at q;obtain ⟨nL,R⟩:=tH t mz ht Fn;dsimp only at q;intro v7 H7 s7 _;refine ⟨_,rfl,_,rfl,_,rfl,A5,_,_,_,rfl,rfl,aq.of (s7 _ _ uN),lX as ll,_,rfl,?_⟩;refine ⟨.ref p,S,_,Zm new,es,t,rfl,ZA.mono _ _ _ _ s7 xb,sm,cj,mz,nL,fun v7b H7b EH MW=>?_⟩;obtain ⟨zA,oJ⟩:=(R).en;obtain ⟨fQ,m,zi,y_,cL⟩:=(R).FQ;refine ⟨_,rfl,_,rfl,_,rfl,A5,_,_,_,rfl,rfl,aq.of (EH _ _ (s7 _ _ uN)),lX as ll,_,rfl,_,rfl,?_⟩;refine ⟨v7b,_,_,Zm new,_,zA,rfl,MW,(R).sm,oJ,fun v8 H8 s8 zr=>?_⟩;refine ⟨_,rfl,_,rfl,_,rfl,D,_,_,_,rfl,rfl,aq.of (s8 _ _ (EH _ _ (s7 _ _ pM))),zY ps h2,_,rfl,old,rfl,mx,fun l9 H9 s9 hn9 pJ=>?_⟩;refine ⟨_,rfl,l9,_,_,_,rfl,rfl,aq.of pJ,sT _ (nC h0),?_⟩;exact ⟨v8,_,_,Zm old,fQ,m,rfl,ZA.mono _ _ _ _ s9 zr,(R).EE,zi,y_,cL,fun v' H' s' h'=>q _ _ (((sF.trans s7).trans EH).trans ((s8.trans s9).trans s')) h'⟩
def Dk (F:bY) (old new:Str):Except Rf bY:=match sS F.S old new with
 | .error r=>.error r
 | .ok S=>g0 F S F.k
def ZuI (S:az) (old new:Str):Prop:=∀ ps as,fI new=true->fT S (Zw old) [0]=.ok ps->lW S new=.ok as->old≠"/"->new≠"/"->as.contains (ps.getLastD 0)=false->
  (aa ((aa S.ent (as.getLastD 0)).getD []) (Zm new)=none->xw S ps as old new)/\
  (∀ t,aa ((aa S.ent (as.getLastD 0)).getD []) (Zm new)=some t->t≠ps.getLastD 0->sU S (ps.getLastD 0) t=.ok ()->(iC ⟨S.dat,af S.ent (as.getLastD 0) (ZQ ((aa S.ent (as.getLastD 0)).getD []) (Zm new))⟩).length<=100000/\xw (ZM S (as.getLastD 0) (Zm new)) ps as old new)
inductive eV (g:Gs) (vs:List V) (H:Hp) (Q:VK) (E:XK):Prop
 | mk (f:_) (q:_) (p:_) (b:_) (l:_) (F:_) (old:_) (new:_):vs=[.ref f,.str old,.str new]->cH g H f q p b l F->iB F.S->old.length<=1000->new.length<=1000->ZuI F.S old new->(∀ S,sS F.S old new=.ok S->dR S)->i9 F.k->m_ F.T.synced->(match Dk F old new with
 | .error r=>∀ H',ag H H'->E (.ref (g.xa r)) none H'
 | .ok F'=>∀ H',gy f H H'->cH g H' f q p b l F'->Q .aK H')->eV g vs H Q E
theorem ZkY:Zp ["self","old","new"] ["self","old","new"] (Zi ZgC):=ZN (by decide +kernel)
theorem Zlq (T:Tx K mg g):ah P w K mg base (ay P w) 7 g.JT g.K2 ["self","old","new"] (eV g):=by
 refine T.ZgO.aP ZkY fun vs H Q E h=>?_;obtain ⟨f,q0,p,b,l,F,old,new,rfl,cM,sm,mx,nM,oX,nJ,kk,po,q⟩:=h;refine ⟨rfl,fun _ _ _ _ hr=>?_⟩;obtain ⟨dx,sv,kv,iv,hF⟩:=id cM
 refine ⟨_,(Zd (ZC (nB (pv 0) T.Zq T.ZL (ZH T) hr.dn T.ai .nil Zc))
  (Zh (ZC (ZP (pv 0) T.Zq T.s_ (tj T) hr.dn T.aE .nil Zc (Za (Zn (ZsE T) hr.dn rfl T.ZtU T.HL.kp T.mW .nil Zc (Za (Zv (pv 0) rfl) (Za (pv 1) (Za (pv 2) Ze)))) (Za (Zv (pv 0) rfl) Ze)))))),?_⟩
 refine ⟨_,rfl,f,dx,_,rfl,hF.ob,Z6 _ _ _ _,?_⟩;refine ⟨f,dx,_,_,_,_,rfl,hF.ob,.inr ⟨⟨q0,rfl⟩,?_⟩⟩;refine ⟨_,rfl,f,dx,_,rfl,hF.ob,Z6 _ _ _ _,_,rfl,f,_,dx,_,_,rfl,hF.ob,T.Zq,T.ZK,kH _ _ _ _,_,rfl,_,rfl,?_⟩;refine ⟨sv,F.S,old,new,rfl,hF.st,sm,mx,nM,oX,?_⟩;unfold Dk at q
 cases hm:sS F.S old new with
 | error r=>
  rw [hm] at q;exact fun H' s'=>q H' s'
 | ok S=>
  rw [hm] at q;dsimp only at q;intro v2 H2 s2 gb;have nS:=cM.same s2;refine ⟨_,rfl,f,_,dx,_,_,rfl,s2 _ _ hF.ob,T.Zq,T.ZY,nc _ _ _ _,?_⟩;refine ⟨f,q0,p,b,l,F,v2,kv,S,F.k,rfl,nS,gb,eN.mono _ _ _ _ s2 hF.ke,nJ S hm,kk,po,?_⟩
  cases ht:g0 F S F.k with
  | error r=>
   rw [ht] at q;exact fun H' s'=>q H' (s2.trans s')
  | ok F'=>
   rw [ht] at q;exact fun H' b1 h'=>q H' (fun d o e hd=>b1 _ _ (s2 _ _ e) hd) h'
section
variable {κ α:Type} [DecidableEq κ]
theorem qR {k m:κ}:∀ {xs:List (κ×α)},aa (ZQ xs k) m=if m=k then none else aa xs m
 | []=>by split <;> rfl
 | p::r=>by
  have ih:=qR (k:=k) (m:=m) (xs:=r);unfold ZQ at ih ⊢
  by_cases z:p.1=k
  .rw [Wn (by simp [z]),ih]
   by_cases y:m=k
   .rw [if_pos y,if_pos y]
   .rw [if_neg y,if_neg y,ZZ (fun e=>y (e.symm.trans z))]
  .rw [Wm (by simp [z])]
   by_cases y:p.1=m
   .rw [gj y,gj y,if_neg (fun e=>z (y.trans e))]
   .rw [ZZ y,ZZ y,ih]
theorem HC {k:κ} {x:α} {xs:List (κ×α)} (h:aa xs k=some x):k∈xs.map (·.1):=List.mem_map.mpr ⟨_,vo h,rfl⟩
theorem xO {k:κ} {xs:List (κ×α)} (h:k∈xs.map (·.1)):(aa xs k).isSome=true:=by
 cases e:aa xs k with
 | none=>exact absurd h (vp e)
 | some x=>rfl
theorem HA {k:κ} {xs:List (κ×α)} (h:aa xs k=none):ZQ xs k=xs:=by
 unfold ZQ;rw [List.filter_eq_self];intro p hp
 have:=vp h
 simp only [ne_eq,decide_not,Bool.not_eq_eq_eq_not,Bool.not_true,decide_eq_false_iff_not]
 exact fun e=>this (List.mem_map.mpr ⟨p,hp,e⟩)
theorem Dj {k:κ} {x:α} {xs:List (κ×α)} (h:aa xs k=none):af xs k x=xs++[(k,x)]:=by
 unfold af;rw [vn,h];rfl
theorem Hi {k:κ} {x y:α} {xs:List (κ×α)} (h:aa xs k=some y):af xs k x=xs.map (fun p=>if p.1=k then (p.1,x) else p):=by
 unfold af;rw [vn,h];rfl
theorem Zvp {k:κ} {x y:α} {xs:List (κ×α)} (h:aa xs k=some y):(af xs k x).map (·.1)=xs.map (·.1):=by
 rw [Hi h,XJ]
 apply YbP
 intro p _;show (if p.1=k then (p.1,x) else p).1=p.1
 split <;> rfl
theorem p9 {k:κ} {x:α} {xs:List (κ×α)} (h:(xs.map (·.1)).Nodup):((af xs k x).map (·.1)).Nodup:=by
 cases e:aa xs k with
 | some y=>rw [Zvp e];exact h
 | none=>
  rw [Dj e,Yw,List.nodup_append];refine ⟨h,by simp,fun a ha b hb=>?_⟩
  simp only [Yt,YaD,List.mem_singleton] at hb
  subst hb;exact fun z=>vp e (z ▸ ha)
theorem yd {k:κ} {xs:List (κ×α)} (h:(xs.map (·.1)).Nodup):((ZQ xs k).map (·.1)).Nodup:=h.sublist (List.Sublist.map _ List.filter_sublist)
theorem ZrE {k:κ} {x:α}:∀ {xs:List (κ×α)},¬ k∈xs.map (·.1)->xs.map (fun p=>if p.1=k then (p.1,x) else p)=xs
 | [],_=>rfl
 | p::r,h=>by
  rw [Yt,W3,not_or] at h;rw [Yt,if_neg (fun e=>h.1 e.symm),ZrE h.2]
end
def bb (es:ao) (n:Int):Nat:=(es.map (·.2)).count n
def cnt (E:List (Int×ao)) (n:Int):Nat:=((E.map fun p=>p.2.map (·.2)).flatten).count n
theorem xT (p:Int×ao) (r:List (Int×ao)) (n:Int):cnt (p::r) n=bb p.2 n + cnt r n:=by
 unfold cnt bb;rw [Yt,Xh,YaU]
theorem Zqf (p:Str×Int) (r:ao) (n:Int):bb (p::r) n=bb r n + if n=p.2 then 1 else 0:=by
 unfold bb;rw [Yt,List.count_cons]
 congr 1
 by_cases z:n=p.2
 .rw [if_pos z,if_pos (by rw [z];exact beq_self_eq_true _)]
 .rw [if_neg z,if_neg (by intro e;exact z (beq_iff_eq.mp e).symm)]
theorem zU {d:Int} {es es':ao} {n:Int}:∀ {E:List (Int×ao)},(E.map (·.1)).Nodup->aa E d=some es->cnt (af E d es') n + bb es n=cnt E n + bb es' n:=by
 intro E nd h;rw [Hi h]
 induction E with
 | nil=>cases h
 | cons p r ih=>
  rw [Yt,Yay] at nd;rw [Yt,xT,xT]
  by_cases z:p.1=d
  .rw [gj z] at h
   cases h
   rw [if_pos z,ZrE (by rw [<- z];exact nd.1)];show bb es' n + cnt r n + bb p.2 n=_;omega
  .rw [ZZ z] at h
   have:=ih nd.2 h
   rw [if_neg z];omega
theorem Zw8 {E:List (Int×ao)} {d:Int} {es:ao} {n:Int} (h:aa E d=none):cnt (af E d es) n=cnt E n + bb es n:=by
 rw [Dj h];unfold cnt bb;rw [Yw,XU,YaU]
 simp
theorem Zr0 {d:Int} {es:ao} {n:Int}:∀ {E:List (Int×ao)},(E.map (·.1)).Nodup->aa E d=some es->cnt (ZQ E d) n + bb es n=cnt E n
 | [],_,h=>by cases h
 | p::r,nd,h=>by
  rw [Yt,Yay] at nd;rw [xT]
  by_cases z:p.1=d
  .rw [gj z] at h
   cases h
   have e:ZQ (p::r) d=ZQ r d:=by unfold ZQ;rw [Wn (by simp [z])]
   have hn:aa r d=none:=by
    cases q:aa r d with
    | none=>rfl
    | some y=>exact absurd (HC q) (by rw [<- z];exact nd.1)
   rw [e,HA hn];omega
  .rw [ZZ z] at h;have e:ZQ (p::r) d=p::ZQ r d:=by unfold ZQ;rw [Wm (by simp [z])]
   rw [e,xT]
   have:=Zr0 nd.2 h (n:=n)
   omega
theorem Dr {es:ao} {name:Str} {m n:Int} (h:aa es name=none):bb (af es name m) n=bb es n + if n=m then 1 else 0:=by
 rw [Dj h];unfold bb;rw [Yw,YaU,Yt,YaD,List.count_singleton]
 congr 1
 by_cases z:n=m
 .rw [if_pos z,if_pos (by rw [z];exact beq_self_eq_true _)]
 .rw [if_neg z,if_neg (by intro e;exact z (beq_iff_eq.mp e).symm)]
theorem sV {name:Str} {m n:Int}:∀ {es:ao},(es.map (·.1)).Nodup->aa es name=some m->bb (ZQ es name) n + (if n=m then 1 else 0)=bb es n/\(ZQ es name).length + 1=es.length
 | [],_,h=>by cases h
 | p::r,nd,h=>by
  rw [Yt,Yay] at nd;rw [Zqf]
  by_cases z:p.1=name
  .rw [gj z] at h
   cases h
   have e:ZQ (p::r) name=ZQ r name:=by unfold ZQ;rw [Wn (by simp [z])]
   have hn:aa r name=none:=by
    cases q:aa r name with
    | none=>rfl
    | some y=>exact absurd (HC q) (by rw [<- z];exact nd.1)
   rw [e,HA hn];exact ⟨rfl,rfl⟩
  .rw [ZZ z] at h;have e:ZQ (p::r) name=p::ZQ r name:=by unfold ZQ;rw [Wm (by simp [z])]
   obtain ⟨h1,h2⟩:=sV nd.2 h (n:=n);rw [e,Zqf];refine ⟨by omega,?_⟩;rw [Yz,Yz];omega
theorem G7 {es:ao} {name:Str} {m:Int} (h:aa es name=some m):0 < bb es m:=List.count_pos_iff.mpr (List.mem_map.mpr ⟨_,vo h,rfl⟩)
theorem sI {d:Int} {es:ao} {n:Int}:∀ {E:List (Int×ao)},aa E d=some es->bb es n<=cnt E n
 | [],h=>by cases h
 | p::r,h=>by
  rw [xT]
  by_cases z:p.1=d
  .rw [gj z] at h;cases h;omega
  .rw [ZZ z] at h
   have:=sI h (n:=n)
   omega
theorem ZtK (S:az) (n:Int):(iC S).contains n=decide (0 < cnt S.ent n):=by
 have:cnt S.ent n=(iC S).count n:=rfl
 rw [this]
 by_cases h:n∈iC S
 .rw [decide_eq_true (List.count_pos_iff.mpr h),List.contains_iff_mem.mpr h]
 .rw [decide_eq_false (fun z=>h (List.count_pos_iff.mp z))]
  cases q:(iC S).contains n with
  | false=>rfl
  | true=>exact absurd (List.contains_iff_mem.mp q) h
structure eF (S:az) (ex:Int->Nat):Prop where
 kd:(S.dat.map (·.1)).Nodup
 ke:(S.ent.map (·.1)).Nodup
 dj:∀ n,(aa S.ent n).isSome=true->aa S.dat n=none
 rg:∀ n,ZE S n=true->0<=n/\n < 32
 rt:(aa S.ent 0).isSome=true
 row:∀ n r,aa S.dat n=some r->r.length<=600
 es:∀ n es,aa S.ent n=some es->nz es/\(es.map (·.1)).Nodup
 nm:∀ n,0 < cnt S.ent n->ZE S n=true
 one:∀ n,(aa S.ent n).isSome=true->cnt S.ent n=(if n=0 then 0 else 1) + ex n
def Bd (b:Nat) (S:az):Prop:=∀ n es,aa S.ent n=some es->es.length<=b
structure Wf (S:az):Prop where
 x:eF S (fun _=>0)
 b:Bd 40 S
theorem pW {E:List (Int×ao)} {d:Int} {es es':ao} (h:aa E d=some es) (n:Int):(aa (af E d es') n).isSome=(aa E n).isSome:=by
 rw [ZV]
 by_cases z:n=d
 .rw [if_pos z,z,h];rfl
 .rw [if_neg z]
theorem Zo2 {S:az} {d:Int} {es es':ao} (h:aa S.ent d=some es) (n:Int):ZE ⟨S.dat,af S.ent d es'⟩ n=ZE S n:=by
 unfold ZE;show ((aa S.dat n).isSome || (aa (af S.ent d es') n).isSome)=_;rw [pW h]
theorem ZpA {es:ao} {name:Str} {n:Int} (h:nz es) (hn:eD name=true):nz (af es name n):=by
 intro p hp
 cases e:aa es name with
 | none=>
  rw [Dj e] at hp;rcases List.mem_append.mp hp with q | q
  .exact h p q
  .rw [List.mem_singleton] at q;rw [q];exact hn
 | some y=>
  rw [Hi e] at hp;obtain ⟨q,hq,e2⟩:=List.mem_map.mp hp;rw [<- e2]
  split
  .exact h q hq
  .exact h q hq
theorem IS {es:ao} {name:Str} (h:nz es):nz (ZQ es name):=fun p hp=>h p (List.mem_filter.mp hp).1
theorem eF.set {S:az} {ex ex':Int->Nat} (W:eF S ex) {d:Int} {es es':ao} (h:aa S.ent d=some es) (hn:nz es') (nd:(es'.map (·.1)).Nodup)
  (hc:∀ n,0 < bb es' n->0 < bb es n∨ZE S n=true) (ho:∀ n,(aa S.ent n).isSome=true->bb es' n + ex n=bb es n + ex' n):eF ⟨S.dat,af S.ent d es'⟩ ex':=by
 refine ⟨W.kd,p9 W.ke,fun n e=>W.dj n (by rw [<- pW h];exact e),fun n e=>W.rg n (by rw [<- Zo2 h];exact e),by rw [<- W.rt];exact pW h 0,W.row,fun n fQ e=>?_,fun n e=>?_,fun n e=>?_⟩
 .have e:aa (af S.ent d es') n=some fQ:=e;rw [ZV] at e
  by_cases z:n=d
  .rw [if_pos z] at e;cases e;exact ⟨hn,nd⟩
  .rw [if_neg z] at e;exact W.es n fQ e
 .rw [Zo2 h];have e:0 < cnt (af S.ent d es') n:=e;have c:=zU (es':=es') (n:=n) W.ke h;have l:=sI h (n:=n)
  by_cases z:0 < bb es' n
  .rcases hc n z with q | q
   .exact W.nm n (by omega)
   .exact q
  .exact W.nm n (by omega)
 .have e:(aa (af S.ent d es') n).isSome=true:=e;rw [pW h] at e;show cnt (af S.ent d es') n=_;have c:=zU (es':=es') (n:=n) W.ke h;have o:=ho n e;have w:=W.one n e;have l:=sI h (n:=n);omega
theorem vD {S:az} {d:Int} {es:ao} {name:Str} {n:Int} (h:aa S.ent d=some es):Z5 S d name n=⟨S.dat,af S.ent d (af es name n)⟩:=by unfold Z5;rw [h]
theorem eF.add {S:az} {ex:Int->Nat} (W:eF S ex) {d:Int} {es:ao} {name:Str} {m:Int} (h:aa S.ent d=some es) (hg:aa es name=none) (hn:eD name=true) (ht:ZE S m=true):eF (Z5 S d name m) (fun n=>ex n + if n=m then 1 else 0):=by
 rw [vD h];obtain ⟨h1,h2⟩:=W.es d es h;refine W.set h (ZpA h1 hn) (p9 h2) (fun n e=>?_) (fun n e=>?_)
 .rw [Dr hg] at e
  by_cases z:n=m
  .right;rw [z];exact ht
  .rw [if_neg z] at e;exact .inl e
 .rw [Dr hg];omega
theorem eF.congr {S:az} {ex ex':Int->Nat} (W:eF S ex) (h:∀ n,(aa S.ent n).isSome=true->ex n=ex' n):eF S ex':=⟨W.kd,W.ke,W.dj,W.rg,W.rt,W.row,W.es,W.nm,fun n e=>by rw [W.one n e,h n e]⟩
theorem Ef {S:az} {d:Int} {es:ao} {name:Str} {m:Int} (h:aa S.ent d=some es) (hg:aa es name=some m):ZM S d name=if 0 < cnt (af S.ent d (ZQ es name)) m then ⟨S.dat,af S.ent d (ZQ es name)⟩ else Au ⟨S.dat,af S.ent d (ZQ es name)⟩ m:=by
 unfold ZM;rw [h];dsimp only;rw [hg,YD,ZtK]
 by_cases z:0 < cnt (af S.ent d (ZQ es name)) m
 .rw [if_pos z,if_pos (decide_eq_true z)]
 .rw [if_neg z,if_neg (by rw [decide_eq_false z];decide)]
theorem Ds {S:az} {ex:Int->Nat} (W:eF S ex) {d:Int} {es:ao} {name:Str} {m:Int} (h:aa S.ent d=some es) (hg:aa es name=some m) (n:Int):cnt (af S.ent d (ZQ es name)) n + (if n=m then 1 else 0)=cnt S.ent n:=by
 have c:=zU (es':=ZQ es name) (n:=n) W.ke h;have l:=sI h (n:=n);have e:=(sV (n:=n) (W.es d es h).2 hg).1;omega
theorem eF.less {S:az} {ex ex':Int->Nat} (W:eF S ex) {d:Int} {es:ao} {name:Str} {m:Int} (h:aa S.ent d=some es) (hg:aa es name=some m) (h2:2<=cnt S.ent m) (he:∀ n,ex n=ex' n + if n=m then 1 else 0):eF (ZM S d name) ex':=by
 have c:=Ds W h hg m;rw [if_pos rfl] at c;rw [Ef h hg,if_pos (by omega)];obtain ⟨h3,h4⟩:=W.es d es h;refine W.set h (IS h3) (yd h4) (fun n e=>?_) (fun n e=>?_)
 .have:=(sV (n:=n) h4 hg).1
  left;omega
 .have:=(sV (n:=n) h4 hg).1
  have:=he n
  omega
theorem Zul {E:List (Int×ao)} {m n:Int} (h:(aa (ZQ E m) n).isSome=true):(aa E n).isSome=true/\n≠m:=by
 rw [qR] at h
 by_cases z:n=m
 .rw [if_pos z] at h;cases h
 .rw [if_neg z] at h;exact ⟨h,z⟩
theorem eF.gone {S:az} (W:eF S (fun _=>0)) {d:Int} {es:ao} {name:Str} {m:Int} (h:aa S.ent d=some es) (hg:aa es name=some m) (hm:pU S m=true):eF (ZM S d name) (fun _=>0):=by
 have c:=Ds W h hg m;rw [if_pos rfl] at c;obtain ⟨h3,h4⟩:=W.es d es h;have hml:=sI h (n:=m);have q_:=G7 hg
 have m0:m≠0:=by
  intro z
  have:=W.one 0 W.rt
  rw [if_pos rfl] at this;rw [z] at hml q_;omega
 rw [Ef h hg]
 split
 .rename_i z
  refine W.set h (IS h3) (yd h4) (fun n e=>?_) (fun n e=>?_)
  .have:=(sV (n:=n) h4 hg).1
   left;omega
  .have:=(sV (n:=n) h4 hg).1
   by_cases y:n=m
   .exfalso
    have:=W.one n e
    rw [y,if_neg m0] at this;omega
   .rw [if_neg y] at this;omega
 .rename_i z
  have hme:∀ e0,aa (af S.ent d (ZQ es name)) m=some e0->e0=[]:=by
   intro e0 e;rw [ZV] at e
   by_cases y:m=d
   .exfalso
    unfold pU at hm;rw [y,h,YD,List.isEmpty_iff] at hm;rw [hm] at hg
    cases hg
   .rw [if_neg y] at e;unfold pU at hm;rw [e,YD,List.isEmpty_iff] at hm;exact hm
  have nk:((af S.ent d (ZQ es name)).map (·.1)).Nodup:=p9 W.ke
  have cc:∀ n,cnt (ZQ (af S.ent d (ZQ es name)) m) n=cnt (af S.ent d (ZQ es name)) n:=by
   intro n
   cases e:aa (af S.ent d (ZQ es name)) m with
   | none=>rw [HA e]
   | some e0=>
    have:=Zr0 (n:=n) nk e
    rw [hme e0 e] at this;exact this
  have things:∀ n,ZE (Au ⟨S.dat,af S.ent d (ZQ es name)⟩ m) n=(ZE S n && decide (n≠m)):=by
   intro n;unfold Au ZE;show ((aa (ZQ S.dat m) n).isSome || (aa (ZQ (af S.ent d (ZQ es name)) m) n).isSome)=_;rw [qR,qR]
   by_cases y:n=m
   .rw [if_pos y,if_pos y,decide_eq_false (fun q=>q y),Bool.and_false];rfl
   .rw [if_neg y,if_neg y,pW h,decide_eq_true y,Bool.and_true]
  refine ⟨yd W.kd,yd nk,fun n e=>?_,fun n e=>?_,?_,fun n r e=>?_,fun n fQ e=>?_,fun n e=>?_,fun n e=>?_⟩
  .obtain ⟨e1,e2⟩:=Zul e;rw [pW h] at e1;show aa (ZQ S.dat m) n=none;rw [qR,if_neg e2];exact W.dj n e1
  .rw [things,YV] at e;exact W.rg n e.1
  .show (aa (ZQ (af S.ent d (ZQ es name)) m) 0).isSome=true;rw [qR,if_neg (fun q=>m0 q.symm),pW h];exact W.rt
  .have e:aa (ZQ S.dat m) n=some r:=e;exact W.row n r (vy e)
  .have e:aa (ZQ (af S.ent d (ZQ es name)) m) n=some fQ:=e;have e:=vy e;rw [ZV] at e
   by_cases y:n=d
   .rw [if_pos y] at e;cases e;exact ⟨IS h3,yd h4⟩
   .rw [if_neg y] at e;exact W.es n fQ e
  .have e:0 < cnt (ZQ (af S.ent d (ZQ es name)) m) n:=e;rw [cc] at e;have k:=Ds W h hg n;rw [things,W.nm n (by omega),Bool.true_and];exact decide_eq_true (fun y=>z (by rw [<- y];exact e))
  .obtain ⟨e1,e2⟩:=Zul e;rw [pW h] at e1;show cnt (ZQ (af S.ent d (ZQ es name)) m) n=_;have k:=Ds W h hg n;rw [if_neg e2] at k
   have:=W.one n e1
   rw [cc];omega
theorem i6:∀ (m:Nat) (l:List Int),l.Nodup->(∀ x∈l,0<=x/\x < (m:Int))->l.length<=m
 | 0,l,_,h=>by
  cases l with
  | nil=>exact Ye _
  | cons x r=>have:=h x YA;omega
 | m + 1,l,nd,h=>by
  have ih:=i6 m (l.filter fun x=>decide (x≠(m:Int))) (nd.sublist List.filter_sublist) fun x hx=>by
   rw [List.mem_filter] at hx;have h1:=h x hx.1;have h2:=of_decide_eq_true hx.2;omega
  have e:=List.length_eq_countP_add_countP (fun x=>decide (x≠(m:Int))) (l:=l);rw [List.countP_eq_length_filter] at e
  have c:List.countP (fun a=>decide ¬decide (a≠(m:Int))=true) l<=1:=by
   have c1:=List.nodup_iff_count.mp nd (m:Int);refine Yk (WW ?_) c1;unfold List.count;refine List.countP_congr fun x _=>?_
   by_cases z:x=(m:Int)
   .simp [z]
   .simp [z]
  omega
theorem eF.i6 {S:az} {ex:Int->Nat} (W:eF S ex):S.dat.length + S.ent.length<=32:=by
 have:=KS.i6 32 (S.dat.map (·.1)++S.ent.map (·.1)) (by
  rw [List.nodup_append];refine ⟨W.kd,W.ke,fun a ha b hb z=>?_⟩;subst z;have h1:=xO ha;rw [W.dj a (xO hb)] at h1
  cases h1) fun x hx=>W.rg x (by
  unfold ZE;rcases List.mem_append.mp hx with h | h
  .rw [xO h];rfl
  .rw [xO h,WX])
 rw [Yg,Yb,Yb] at this;exact this
theorem eF.BJ {S:az} {ex:Int->Nat} {b:Nat} (W:eF S ex) (hb:Bd b S) (h:b < 64):dR S:=
 ⟨YO W.i6 (by decide),fun n r e=>Yk (W.row n r e) (by decide),fun n es e=>⟨YO (hb n es e) h,(W.es n es e).1⟩⟩
theorem eF.small {S:az} {ex:Int->Nat} {b:Nat} (W:eF S ex) (hb:Bd b S) (h:b<=1000):iB S:=by
 have:=W.i6
 exact ⟨by omega,by omega,fun n es e=>Yk (hb n es e) h⟩
theorem Wf.ok {S:az} (W:Wf S):dR S:=W.x.BJ W.b (by decide)
theorem Wf.sm {S:az} (W:Wf S):iB S:=W.x.small W.b (by decide)
theorem eF.len {S:az} {ex:Int->Nat} {b:Nat} (W:eF S ex) (hb:Bd b S) (h:b<=100):∀ q∈S.ent,q.2.length<=100:=fun q hq=>by
 obtain ⟨k,es⟩:=q
 have key:∀ {E:List (Int×ao)},(E.map (·.1)).Nodup->(k,es)∈E->aa E k=some es:=by
  intro E
  induction E with
  | nil=>intro _ z;cases z
  | cons p r ih=>
   intro nd z;rw [Yt,Yay] at nd;rcases List.mem_cons.mp z with e | e
   .rw [<- e,gj rfl]
   .have:¬ p.1=k:=fun y=>nd.1 (y ▸ List.mem_map.mpr ⟨_,e,rfl⟩)
    rw [ZZ this];exact ih nd.2 e
 exact Yk (hb k es (key W.ke hq)) h
theorem ZrI {S:az}:∀ (k i:Nat) {n:Int},sW S i k=some n->ZE S n=false/\(i:Int)<=n/\n < (i + k:Nat)
 | 0,_,_,h=>by cases h
 | k + 1,i,n,h=>by
  unfold sW at h
  split at h
  .have:=ZrI k (i + 1) h
   refine ⟨this.1,?_,?_⟩ <;> omega
  .rename_i z
   cases h
   exact ⟨by simpa using z,Int.le_refl _,by omega⟩
theorem DD {p:Str} (hp:fI p=true) (h0:p≠"/"):eD (Zm p)=true:=by
 unfold fI at hp
 split at hp
 .cases hp
 .split at hp
  .cases hp
  .have hm:Zm p∈Zw p:=by
    have bZ:=nC h0;unfold Zm;rw [WT]
    cases e:(Zw p).getLast? with
    | none=>exact absurd (List.getLast?_eq_none_iff.mp e) bZ
    | some x=>exact List.mem_of_getLast? e
   exact List.all_eq_true.mp hp _ hm
theorem Zp3 {S:az} {p:Str} {d:Int} {es:ao} (h:nD S p=.ok d) (he:aa S.ent d=some es):aa es (Zm p)=none:=by
 unfold nD at h
 split at h
 .cases h
 .split at h
  .cases h
  .split at h
   .cases h
   .rename_i es' he'
    split at h
    .cases h
    .rename_i hn
     cases h
     rw [he] at he'
     cases he'
     cases q:aa es (Zm p) with
     | none=>rfl
     | some x=>rw [q] at hn;exact absurd rfl hn
theorem Bd.put {b:Nat} {S:az} (h:Bd b S) {d:Int} {es:ao} (hl:es.length<=b):Bd b ⟨S.dat,af S.ent d es⟩:=fun n es' e=>by
 have e:aa (af S.ent d es) n=some es':=e;rw [ZV] at e
 by_cases z:n=d
 .rw [if_pos z] at e;cases e;exact hl
 .rw [if_neg z] at e;exact h n es' e
theorem xW {es:ao} {name:Str} {n:Int}:(af es name n).length<=es.length + 1:=sR _ _ _
theorem Wf.rE {S:az} (W:Wf S) {n:Int} (hn:ZE S n=false) (h0:0<=n) (h1:n < 32):eF ⟨af S.dat n [],S.ent⟩ (fun _=>0):=by
 have hd:aa S.dat n=none:=by
  unfold ZE at hn;rw [YbK] at hn;exact Option.not_isSome_iff_eq_none.mp (by rw [hn.1];decide)
 have he:aa S.ent n=none:=by
  unfold ZE at hn;rw [YbK] at hn;exact Option.not_isSome_iff_eq_none.mp (by rw [hn.2];decide)
 have th:∀ m,ZE ⟨af S.dat n [],S.ent⟩ m=(ZE S m || decide (m=n)):=fun m=>by
  unfold ZE;show ((aa (af S.dat n []) m).isSome || (aa S.ent m).isSome)=_;rw [ZV]
  by_cases z:m=n
  .rw [if_pos z,decide_eq_true z,WX];rfl
  .rw [if_neg z,decide_eq_false z,Xs]
 refine ⟨p9 W.x.kd,W.x.ke,fun m e=>?_,fun m e=>?_,W.x.rt,fun m r e=>?_,W.x.es,fun m e=>?_,W.x.one⟩
 .show aa (af S.dat n []) m=none;rw [ZV]
  by_cases z:m=n
  .rw [z] at e;have e:(aa S.ent n).isSome=true:=e;rw [he] at e;cases e
  .rw [if_neg z];exact W.x.dj m e
 .rw [th,Xz] at e;rcases e with e | e
  .exact W.x.rg m e
  .rw [of_decide_eq_true e];exact ⟨h0,h1⟩
 .have e:aa (af S.dat n []) m=some r:=e;rw [ZV] at e
  by_cases z:m=n
  .rw [if_pos z] at e;cases e;decide
  .rw [if_neg z] at e;exact W.x.row m r e
 .rw [th,W.x.nm m e];rfl
theorem ZtP {S S':az} (W:Wf S) {p kind:Str} (h:sk S p kind=.ok S'):Wf S':=by
 unfold sk at h
 split at h
 .cases h
 .rename_i hp
  have hp:fI p=true:=by simpa using hp
  split at h
  .cases h
  .rename_i d hf
   obtain ⟨h0,es,cj⟩:=GU hf;have tP:=Zp3 hf cj;have tQ:=DD hp h0
   split at h
   .cases h
   .rename_i n hl
    obtain ⟨t1,t2,t3⟩:=ZrI 32 0 hl;rw [cj] at h;dsimp only at h
    have hd:aa S.dat n=none/\aa S.ent n=none:=by
     unfold ZE at t1;rw [YbK] at t1;exact ⟨Option.not_isSome_iff_eq_none.mp (by rw [t1.1];decide),Option.not_isSome_iff_eq_none.mp (by rw [t1.2];decide)⟩
    split at h
    .cases h
    .rename_i h40
     cases h
     have n0:¬ n=0:=fun z=>by
      have:=W.x.rt
      rw [<- z,hd.2] at this
      cases this
     split
     .have dn:¬ d=n:=fun z=>by rw [z,hd.2] at cj;cases cj
      have mP:aa (af S.ent n []) d=some es:=by rw [ZV,if_neg dn];exact cj
      have key:eF ⟨S.dat,af (af S.ent n []) d (af es (Zm p) n)⟩ (fun _=>0):=by
       have c1:∀ m,cnt (af S.ent n []) m=cnt S.ent m:=fun m=>by rw [Zw8 hd.2];rfl
       have c2:∀ m,cnt (af (af S.ent n []) d (af es (Zm p) n)) m=cnt S.ent m + if m=n then 1 else 0:=fun m=>by
        have a:=zU (es':=af es (Zm p) n) (n:=m) (p9 W.x.ke (k:=n) (x:=[])) mP;rw [c1,Dr tP] at a;omega
       have g:∀ m,aa (af (af S.ent n []) d (af es (Zm p) n)) m=if m=d then some (af es (Zm p) n) else if m=n then some [] else aa S.ent m:=fun m=>by rw [ZV,ZV]
       have gi:∀ m,(aa (af (af S.ent n []) d (af es (Zm p) n)) m).isSome=((aa S.ent m).isSome || decide (m=n)):=fun m=>by
        rw [g]
        by_cases z:m=d
        .rw [if_pos z,z,cj];rfl
        .rw [if_neg z]
         by_cases y:m=n
         .rw [if_pos y,decide_eq_true y,WX];rfl
         .rw [if_neg y,decide_eq_false y,Xs]
       have th:∀ m,ZE ⟨S.dat,af (af S.ent n []) d (af es (Zm p) n)⟩ m=(ZE S m || decide (m=n)):=fun m=>by
        unfold ZE;show ((aa S.dat m).isSome || (aa (af (af S.ent n []) d (af es (Zm p) n)) m).isSome)=_;rw [gi,Bool.or_assoc]
       have cn:cnt S.ent n=0:=by
        cases q:cnt S.ent n with
        | zero=>rfl
        | succ k=>have:=W.x.nm n (by omega);rw [t1] at this;cases this
       refine ⟨W.x.kd,p9 (p9 W.x.ke),fun m e=>?_,fun m e=>?_,?_,W.x.row,fun m fQ e=>?_,fun m e=>?_,fun m e=>?_⟩
       .have e:(aa (af (af S.ent n []) d (af es (Zm p) n)) m).isSome=true:=e;rw [gi,Xz] at e;rcases e with e | e
        .exact W.x.dj m e
        .rw [of_decide_eq_true e];exact hd.1
       .rw [th,Xz] at e;rcases e with e | e
        .exact W.x.rg m e
        .rw [of_decide_eq_true e];exact ⟨by omega,by omega⟩
       .show (aa (af (af S.ent n []) d (af es (Zm p) n)) 0).isSome=true;rw [gi,W.x.rt];rfl
       .have e:aa (af (af S.ent n []) d (af es (Zm p) n)) m=some fQ:=e;rw [g] at e
        by_cases z:m=d
        .rw [if_pos z] at e;cases e;obtain ⟨a1,a2⟩:=W.x.es d es cj;exact ⟨ZpA a1 tQ,p9 a2⟩
        .rw [if_neg z] at e
         by_cases y:m=n
         .rw [if_pos y] at e;cases e;exact ⟨(fun p hp=>absurd hp X3),YaH⟩
         .rw [if_neg y] at e;exact W.x.es m fQ e
       .have e:0 < cnt (af (af S.ent n []) d (af es (Zm p) n)) m:=e;rw [c2] at e;rw [th]
        by_cases y:m=n
        .rw [decide_eq_true y,WX]
        .rw [if_neg y] at e;rw [W.x.nm m (by omega)];rfl
       .have e:(aa (af (af S.ent n []) d (af es (Zm p) n)) m).isSome=true:=e;rw [gi] at e;show cnt (af (af S.ent n []) d (af es (Zm p) n)) m=_;rw [c2]
        by_cases y:m=n
        .rw [if_pos y,y,cn,if_neg n0]
        .rw [decide_eq_false y,Xs] at e;rw [if_neg y];exact W.x.one m e
      have e:Z5 ⟨S.dat,af S.ent n []⟩ d (Zm p) n=⟨S.dat,af (af S.ent n []) d (af es (Zm p) n)⟩:=vD (S:=⟨S.dat,af S.ent n []⟩) mP;rw [e];refine ⟨key,Bd.put (S:=⟨S.dat,af S.ent n []⟩) (Bd.put W.b (Yv _)) ?_⟩
      have:=xW (es:=es) (name:=Zm p) (n:=n)
      omega
     .have mP:aa (⟨af S.dat n [],S.ent⟩:az).ent d=some es:=cj
      have key:=(W.rE t1 (by omega) (by omega)).add (m:=n) mP tP tQ (by
       unfold ZE;show ((aa (af S.dat n []) n).isSome || _)=true;rw [ZV,if_pos rfl];rfl)
      refine ⟨key.congr fun m e=>?_,?_⟩
      .have e:(aa (Z5 ⟨af S.dat n [],S.ent⟩ d (Zm p) n).ent m).isSome=true:=e;rw [vD mP] at e;have e:(aa (af S.ent d (af es (Zm p) n)) m).isSome=true:=e;rw [pW cj] at e;rw [if_neg (fun z=>by rw [z,hd.2] at e;cases e)]
      .rw [vD mP];refine Bd.put (S:=⟨af S.dat n [],S.ent⟩) W.b ?_
       have:=xW (es:=es) (name:=Zm p) (n:=n)
       omega
theorem Wf.pB {S:az} (W:Wf S) {n:Int} {d row:Row} (hd:fj S n=.ok d) (hl:row.length<=600):Wf ⟨af S.dat n row,S.ent⟩:=by
 have hg:(∃ y,aa S.dat n=some y)/\aa S.ent n=none:=by
  unfold fj at hd
  split at hd
  .rename_i hb
   split at hd
   .cases hd
   .rename_i hg
    unfold ZE at hb;rw [hg,X4,Xs] at hb;exact ⟨Option.isSome_iff_exists.mp hb,hg⟩
  .cases hd
 obtain ⟨⟨y,hy⟩,he⟩:=hg
 have gi:∀ m,(aa (af S.dat n row) m).isSome=(aa S.dat m).isSome:=fun m=>by
  rw [ZV]
  by_cases z:m=n
  .rw [if_pos z,z,hy];rfl
  .rw [if_neg z]
 have th:∀ m,ZE ⟨af S.dat n row,S.ent⟩ m=ZE S m:=fun m=>by
  unfold ZE;show ((aa (af S.dat n row) m).isSome || _)=_;rw [gi]
 refine ⟨⟨p9 W.x.kd,W.x.ke,fun m e=>?_,fun m e=>W.x.rg m (by rw [<- th];exact e),W.x.rt,fun m r e=>?_,W.x.es,fun m e=>by rw [th];exact W.x.nm m e,W.x.one⟩,W.b⟩
 .have:=W.x.dj m e
  have z:=gi m;rw [this] at z;exact Option.not_isSome_iff_eq_none.mp (by show ¬ (aa (af S.dat n row) m).isSome=true;rw [z];decide)
 .have e:aa (af S.dat n row) m=some r:=e;rw [ZV] at e
  by_cases z:m=n
  .rw [if_pos z] at e;cases e;exact hl
  .rw [if_neg z] at e;exact W.x.row m r e
theorem Wf.data {S:az} (W:Wf S) {n:Int} {d:Row} (h:fj S n=.ok d):d.length<=600:=by
 unfold fj at h
 split at h
 .split at h
  .cases h
  .cases h
   cases q:aa S.dat n with
   | none=>decide
   | some r=>exact W.x.row n r q
 .cases h
theorem Zr9 {S S':az} (W:Wf S) {n bz:Int} {row:Row} (h0:0<=bz) (h:qL S n bz row=.ok S'):Wf S':=by
 unfold qL at h
 split at h
 .cases h
 .rename_i d hd
  split at h
  .cases h
  .rename_i hz
   split at h
   .cases h;exact W
   .cases h
    refine W.pB hd ?_
    have:=W.data hd
    rw [Yg,Yg,Y0,YU];omega
theorem Zst {S S':az} (W:Wf S) {n size:Int} (h:qQ S n size=.ok S'):Wf S':=by
 unfold qQ at h
 split at h
 .cases h
 .rename_i d hd
  split at h
  .cases h
  .cases h
   refine W.pB hd ?_;rw [Y0];omega
theorem DL {S:az} {ex:Int->Nat} (W:eF S ex) {p:Str} {ps:List Int} (h0:¬ p="/") (h:fT S (Zw p) [0]=.ok ps):∃ es,aa S.ent (hV ps)=some es/\aa es (Zm p)=some (ps.getLastD 0)/\0 < cnt S.ent (ps.getLastD 0)/\ZE S (ps.getLastD 0)=true:=by
 obtain ⟨es,h1,h2,_⟩:=DA (nC h0) (by decide) h;have c:0 < cnt S.ent (ps.getLastD 0):=Yq (G7 h2) (sI h1);exact ⟨es,h1,h2,c,W.nm _ c⟩
theorem ZpJ {S S':az} (W:Wf S) {old new:Str} (h:sM S old new=.ok S'):Wf S':=by
 unfold sM at h
 split at h
 .cases h
 .split at h
  .cases h
  .rename_i _ hp
   have hp:fI new=true:=by simpa using hp
   split at h
   .cases h
   .rename_i ps hw
    split at h
    .cases h
    .rename_i bZ
     split at h
     .cases h
     .rename_i d hf
      split at h
      .cases h
      .rename_i h40
       cases h
       obtain ⟨h0,es,cj⟩:=GU hf
       have o0:¬ old="/":=fun z=>by
        have hw:fT S (Zw old) [0]=.ok ps:=hw;rw [z] at hw;have e:Zw "/"=[]:=by unfold Zw;rw [if_pos rfl]
        rw [e,Dl] at hw
        cases hw
        exact bZ W.x.rt
       obtain ⟨_,_,_,_,ht⟩:=DL W.x o0 hw;refine ⟨(W.x.add cj (Zp3 hf cj) (DD hp h0) ht).congr fun m e=>?_,?_⟩
       .rw [vD cj] at e;have e:(aa (af S.ent d (af es (Zm new) (ps.getLastD 0))) m).isSome=true:=e;rw [pW cj] at e;rw [if_neg (fun z=>bZ (by rw [<- z];exact e))]
       .rw [vD cj];refine W.b.put ?_;rw [cj,YD] at h40
        have:=xW (es:=es) (name:=Zm new) (n:=ps.getLastD 0)
        omega
theorem Zj3 {S:az} {d:Int} {es:ao} {name:Str} {m:Int} (h:aa S.ent d=some es) (hg:aa es name=some m) (k:Int) (fQ:ao):aa (ZM S d name).ent k=some fQ->aa (af S.ent d (ZQ es name)) k=some fQ:=by
 rw [Ef h hg]
 split
 .exact fun e=>e
 .exact fun e=>vy e
theorem Bd.without {b:Nat} {S:az} (B:Bd b S) {d:Int} {es:ao} {name:Str} {m:Int} (h:aa S.ent d=some es) (hg:aa es name=some m):Bd b (ZM S d name):=fun k fQ e=>by
 have e:=Zj3 h hg k fQ e;rw [ZV] at e
 by_cases z:k=d
 .rw [if_pos z] at e;cases e;exact Yk (XA _ _) (B d es h)
 .rw [if_neg z] at e;exact B k fQ e
theorem ZkM {S S':az} (W:Wf S) {p:Str} (h:sX S p=.ok S'):Wf S':=by
 unfold sX at h
 split at h
 .split at h
  .cases h
  .rename_i ps hw
   split at h
   .cases h
   .rename_i h0
    split at h
    .rename_i w9
     cases h
     obtain ⟨es,h1,h2,_⟩:=DL W.x h0 hw;exact ⟨W.x.gone h1 h2 w9,W.b.without h1 h2⟩
    .cases h
 .cases h
theorem Hv {S:az} (W:Wf S) {ps as:List Int} {old new:Str} {es ep:ao} (hn:eD (Zm new)=true) (ha:aa S.ent (as.getLastD 0)=some es) (hg:aa es (Zm new)=none)
  (hp:aa S.ent (hV ps)=some ep) (ho:aa ep (Zm old)=some (ps.getLastD 0)):xw S ps as old new/\((as.getLastD 0=hV ps∨es.length<=39)->Wf (CO S ps as old new)):=by
 have c:0 < cnt S.ent (ps.getLastD 0):=Yq (G7 ho) (sI hp);have ht:=W.x.nm _ c;have Wa:=W.x.add ha hg hn ht;have e1:Z5 S (as.getLastD 0) (Zm new) (ps.getLastD 0)=⟨S.dat,af S.ent (as.getLastD 0) (af es (Zm new) (ps.getLastD 0))⟩:=vD ha
 have F1:Bd 41 (Z5 S (as.getLastD 0) (Zm new) (ps.getLastD 0)):=by
  rw [e1];refine Bd.put (fun n es e=>YaT (W.b n es e)) ?_
  have:=xW (es:=es) (name:=Zm new) (n:=ps.getLastD 0)
  have:=W.b _ _ ha
  omega
 have bZ:∀ x y,aa ep x=some y->as.getLastD 0=hV ps->x≠Zm new:=fun x y e z w=>by
  rw [z,hp] at ha
  cases ha
  rw [w,hg] at e
  cases e
 obtain ⟨uR,eI,qr,hlen⟩:∃ uR,aa (Z5 S (as.getLastD 0) (Zm new) (ps.getLastD 0)).ent (hV ps)=some uR/\aa uR (Zm old)=some (ps.getLastD 0)/\(as.getLastD 0=hV ps->uR.length<=es.length + 1):=by
  rw [e1];show ∃ uR,aa (af S.ent (as.getLastD 0) (af es (Zm new) (ps.getLastD 0))) (hV ps)=some uR/\_;rw [ZV]
  by_cases z:hV ps=as.getLastD 0
  .rw [if_pos z];have BW:ep=es:=by rw [z,ha] at hp;cases hp;rfl
   refine ⟨_,rfl,?_,fun _=>xW⟩;rw [ZV,if_neg (bZ _ _ ho z.symm),<- BW];exact ho
  .rw [if_neg z];exact ⟨ep,hp,ho,fun w=>absurd w.symm z⟩
 have Mj:=Wa.len F1 (by decide);have i6:=Wa.i6
 have c2:cnt (Z5 S (as.getLastD 0) (Zm new) (ps.getLastD 0)).ent (ps.getLastD 0)=cnt S.ent (ps.getLastD 0) + 1:=by
  rw [e1];have a:=zU (es':=af es (Zm new) (ps.getLastD 0)) (n:=ps.getLastD 0) W.x.ke ha;rw [Dr hg,if_pos rfl] at a;show cnt (af S.ent (as.getLastD 0) (af es (Zm new) (ps.getLastD 0))) (ps.getLastD 0)=_;omega
 have We:=Wa.less (ex':=fun _=>0) eI qr (by omega) fun n=>rfl;refine ⟨⟨W.sm,⟨es,ha⟩,Wa.small F1 (by decide),uR,_,eI,qr,Ho (by omega) Mj (Yk (XA _ _) (Yk (F1 _ _ eI) (by decide)))⟩,fun hl=>⟨We,fun k fQ e=>?_⟩⟩;have e:=Zj3 eI qr k fQ e;rw [ZV] at e
 by_cases z:k=hV ps
 .rw [if_pos z] at e
  cases e
  have l:=(sV (n:=0) (Wa.es _ _ eI).2 qr).2
  by_cases y:as.getLastD 0=hV ps
  .have:=hlen y
   have:=W.b _ _ ha
   omega
  .have pI:aa (Z5 S (as.getLastD 0) (Zm new) (ps.getLastD 0)).ent (hV ps)=some ep:=by
    rw [e1];show aa (af _ _ _) _=_;rw [ZV,if_neg (fun w=>y w.symm)];exact hp
   rw [pI] at eI
   cases eI
   have:=W.b _ _ hp
   omega
 .rw [if_neg z,e1] at e;have e:aa (af S.ent (as.getLastD 0) (af es (Zm new) (ps.getLastD 0))) k=some fQ:=e;rw [ZV] at e
  by_cases y:k=as.getLastD 0
  .rw [if_pos y] at e
   cases e
   have:=xW (es:=es) (name:=Zm new) (n:=ps.getLastD 0)
   rcases hl with w | w
   .exact absurd (y.trans w) z
   .omega
  .rw [if_neg y] at e;exact W.b k fQ e
theorem ZmY {S:az} (W:Wf S) {ps as:List Int} {old new:Str} {es ep:ao} {t:Int} (hn:eD (Zm new)=true) (ha:aa S.ent (as.getLastD 0)=some es) (hg:aa es (Zm new)=some t) (w9:pU S t=true) (htn:t≠ps.getLastD 0)
  (hp:aa S.ent (hV ps)=some ep) (ho:aa ep (Zm old)=some (ps.getLastD 0)):xw (ZM S (as.getLastD 0) (Zm new)) ps as old new/\Wf (CO (ZM S (as.getLastD 0) (Zm new)) ps as old new):=by
 have W1:Wf (ZM S (as.getLastD 0) (Zm new)):=⟨W.x.gone ha hg w9,W.b.without ha hg⟩
 have full:∀ k e0 nm x,aa S.ent k=some e0->aa e0 nm=some x->k≠t:=fun k e0 nm x h1 h2 z=>by
  unfold pU at w9;rw [<- z,h1,YD,List.isEmpty_iff] at w9;rw [w9] at h2
  cases h2
 have keep:∀ k e0,k≠t->aa (af S.ent (as.getLastD 0) (ZQ es (Zm new))) k=some e0->aa (ZM S (as.getLastD 0) (Zm new)).ent k=some e0:=fun k e0 h1 h2=>by
  rw [Ef ha hg]
  split
  .exact h2
  .show aa (ZQ _ t) k=some e0;rw [qR,if_neg h1];exact h2
 have ha1:aa (ZM S (as.getLastD 0) (Zm new)).ent (as.getLastD 0)=some (ZQ es (Zm new)):=keep _ _ (full _ _ _ _ ha hg) (by rw [ZV,if_pos rfl]);have y9:=sV (n:=0) (W.x.es _ _ ha).2 hg
 obtain ⟨FP,iY,uC⟩:∃ FP,aa (ZM S (as.getLastD 0) (Zm new)).ent (hV ps)=some FP/\aa FP (Zm old)=some (ps.getLastD 0):=by
  by_cases z:hV ps=as.getLastD 0
  .have:ep=es:=by rw [z,ha] at hp;cases hp;rfl
   refine ⟨_,by rw [z];exact ha1,?_⟩;rw [qR,if_neg,<- this]
   .exact ho
   .intro w;rw [this,w,hg] at ho
    cases ho
    exact htn rfl
  .exact ⟨ep,keep _ _ (full _ _ _ _ hp ho) (by rw [ZV,if_neg z];exact hp),ho⟩
 obtain ⟨r1,r2⟩:=Hv W1 hn ha1 (by rw [qR,if_pos rfl]) iY uC;refine ⟨r1,r2 (.inr ?_)⟩
 have:=W.b _ _ ha
 omega
theorem ZmW {S:az} {n t:Int} (h:sU S n t=.ok ()):pU S t=true:=by
 unfold sU at h
 split at h
 .unfold x' at h
  split at h
  .assumption
  .cases h
 .cases h
theorem Zwy {S:az} (W:Wf S) {old new:Str}:ZuI S old new:=fun ps as uz hw ha h0 h1 _=>by
 obtain ⟨_,es,cj⟩:=Iy ha;obtain ⟨ep,h2,h3,_⟩:=DL W.x h0 hw;have hn:=DD uz h1;rw [cj,YD];refine ⟨fun hg=>(Hv W hn cj hg h2 h3).1,fun t hg ht hc=>⟨?_,(ZmY W hn cj hg (ZmW hc) ht h2 h3).1⟩⟩
 have:=W.x.i6
 refine Ho (by omega) (W.x.len W.b (by decide)) (Yk (XA _ _) (Yk (W.b _ _ cj) (by decide)))
theorem ZmX {S S':az} (W:Wf S) {old new:Str} (h:sS S old new=.ok S'):Wf S':=by
 unfold sS at h
 split at h
 .cases h
 .split at h
  .cases h
  .rename_i _ uz
   have uz:fI new=true:=by simpa using uz
   split at h
   .cases h
   .rename_i ps hw
    split at h
    .cases h
    .rename_i h01
     have h0:¬ old="/":=fun z=>h01 (.inl z);have h1:¬ new="/":=fun z=>h01 (.inr z)
     split at h
     .cases h
     .rename_i as ha
      split at h
      .cases h
      .obtain ⟨_,es,cj⟩:=Iy ha;obtain ⟨ep,h2,h3,_⟩:=DL W.x h0 hw;have hn:=DD uz h1;unfold GL at h;rw [cj,YD] at h
       split at h
       .rename_i t hg
        split at h
        .cases h;exact W
        .rename_i ht
         split at h
         .cases h
         .rename_i hc
          cases h
          exact (ZmY W hn cj hg (ZmW hc) ht h2 h3).2
       .rename_i hg
        split at h
        .cases h
        .rename_i hz
         cases h
         refine (Hv W hn cj hg h2 h3).2 ?_
         by_cases y:as.getLastD 0=hV ps
         .exact .inl y
         .exact .inr (by
           have:¬ 40<=es.length:=fun z=>hz ⟨y,z⟩
           omega)
theorem zT {xs:List Int} {i:Int} {p:Int->Prop} (h0:0<=i) (h1:i < (xs.length:Int)) (hm:∀ x∈xs,p x):∃ s:Int,p s/\fS (xs.map V.int) i=some (.int s):=by
 have hi:i.toNat < xs.length:=by omega
 refine ⟨xs[i.toNat],hm _ (Ybe hi),sH h0 ?_⟩;rw [Yo,Yh hi];rfl
theorem xR {xs:List Str} {i:Int} {m:Nat} (h0:0<=i) (h1:i < (xs.length:Int)) (hm:∀ x∈xs,x.length<=m):∃ s:Str,s.length<=m/\fS (xs.map V.str) i=some (.str s):=by
 have hi:i.toNat < xs.length:=by omega
 refine ⟨xs[i.toNat],hm _ (Ybe hi),sH h0 ?_⟩;rw [Yo,Yh hi];rfl
theorem eE (m:Int) {d:Int} (h:0 < d):0<=m % d/\m % d < d:=⟨Int.emod_nonneg _ (by omega),YbS _ h⟩
def u4:List Str:=["a","b","c","d1","E.x","longname"]
theorem Zlt:∀ x∈u4,x.length<=8:=by decide +kernel
theorem ZpB:((u4.length:Nat):Int)=6:=rfl
def A3:List Str:=["","a","//","/a/","/..","/toolongname","/a b","/","/a/b/c/d1/E.x/longname/a/b"]
theorem ZtG:∀ x∈A3,x.length<=1000:=by decide +kernel
theorem yy:Str.length "/"=1:=by decide +kernel
inductive l' (vs:List V) (H:Hp) (Q:VK) (aL:XK):Prop
 | mk (m:Int):vs=[.int m]->(∀ (p:Str) H',ag H H'->p.length<=1000->Q (.str p) H')->l' vs H Q aL
theorem Af:Zp ["_law_more","_law_names","_law_path_here","_law_k"] ["_law_more"] (Zi Zk6):=ZN (by decide +kernel)
theorem yg (T:Tx K mg g):ah P w K mg base (ay P w) 1 g.eZ g.cY ["_law_more"] l':=by
 refine T.tq.aP Af fun vs H Q E h=>?_;obtain ⟨m,rfl,q⟩:=h;refine ⟨rfl,fun _ _ _ _ hr=>?_⟩
 refine ⟨_,(Zd (Zz (i:=1) Af.nd rfl (Or.inl rfl) (fV (Za Zr (Za Zr (Za Zr (Za Zr (Za Zr (Za Zr Ze))))))))
  (Zd (Z0 (ZG fU (Zy df (pv 0) Zl) Zl (ZO _)) (Zh (Zt (bw ZU (fV (Za Zr (Za Zr (Za Zr (Za Zr (Za Zr (Za Zr (Za Zr (Za Zr (Za Zr Ze)))))))))) (Zy df (Zy fJ (pv 0) Zl) Zl) (fun _ _=>rfl)))) Zx)
  (Zd (Zz (i:=2) Af.nd rfl (Or.inl rfl) (Zy IW Zr (bw ZU (pv 1) (Zy df (Zy fJ (pv 0) Zl) (bw ZU (fV (Za Zl (Za Zl Ze))) (Zy df (Zy fJ (pv 0) Zl) Zl) (fun _ _=>rfl))) (fun _ _=>rfl))))
  (Zd (jS Y2 rfl (x_ rfl T.sP (Za (Zy df (Zy fJ (pv 0) Zl) Zl) Ze)) (Z9 (i:=3) Af.nd rfl (Or.inl rfl)) (Zh (Zz (i:=2) Af.nd rfl (Or.inl rfl) (Zy IW (Zy IW (pv 2) Zr) (bw ZU (pv 1) (Zy df (Zy fJ (pv 0) (Zy ni Zl (Zy kJ (Zy ni (pv 3) Zl) Zl))) Zl) (fun _ _=>rfl))))))
  (Zh (Zt (pv 2))))))),?_⟩
 have hSZ:(100000:Nat)<=Ym:=by decide
 refine ⟨aX 6,fun l hl=>?_⟩;have s1:=Zj (o:=.lst (u4.map V.str)) hl;have f1:(upd H l (.lst (u4.map V.str))) l=some (.lst (u4.map V.str)):=Zb;refine ⟨_,rfl,_,_,rfl,rfl,(by show (0:Int) < 23;decide),rfl,_,rfl,jX (fun _=>?_) (fun _=>?_)⟩
 .refine ⟨aX 9,fun l2 cL=>?_⟩;obtain ⟨t,ht,bP⟩:=xR (xs:=A3) (i:=m / 23 % 9) (m:=1000) (eE _ (by decide)).1 (eE _ (by decide)).2 ZtG;refine ⟨_,rfl,_,_,rfl,rfl,⟨by decide,by decide⟩,_,_,rfl,rfl,(by show (0:Int) < 9;decide),l2,_,_,_,rfl,rfl,aq.of Zb,bP,?_⟩;exact q t _ (s1.trans (Zj cL)) ht
 .refine ⟨_,rfl,_,rfl,_,_,rfl,rfl,⟨by decide,by decide⟩,aX 2,fun l3 g9=>?_⟩;obtain ⟨d,hd,bP⟩:=zT (xs:=[3,6]) (i:=m / 7 % 2) (p:=fun d=>0 < d/\d<=6) (eE _ (by decide)).1 (eE _ (by decide)).2 (by decide);have s3:=Zj (o:=.lst [V.int 3,V.int 6]) g9;have f3:=s3 _ _ f1;refine ⟨_,rfl,_,_,rfl,rfl,⟨by decide,by decide⟩,_,_,rfl,rfl,(by show (0:Int) < 2;decide),l3,_,_,_,rfl,rfl,aq.of Zb,bP,_,_,rfl,rfl,hd.1,?_⟩;obtain ⟨nm,iZ,Ft⟩:=xR (xs:=u4) (i:=m / 23 % d) (m:=8) (eE _ hd.1).1 (by have:=(eE (m / 23) hd.1).2;rw [ZpB];omega) Zlt;refine ⟨l,_,_,_,rfl,rfl,aq.of f3,Ft,_,_,rfl,rfl,(by rw [yy];omega),?_⟩;have i0:=eE (m / 1000) (d:=3) (by decide);refine ⟨_,rfl,_,_,rfl,rfl,⟨by decide,by decide⟩,_,_,rfl,rfl,(by show (0:Int) < 3;decide),?_⟩;have dF:=s1.trans s3;generalize upd (upd H l _) l3 _=H3 at f3 dF ⊢;refine ⟨m / 1000 % 3,rfl,by omega,by omega,?_⟩;refine Dy (n:=(m / 1000 % 3).toNat) (fun i σ H'=>∃ t o3,σ=[some (.int m),some (.ref l),some (.str t),o3]/\H'=H3/\t.length<=10 + 10 * i) ⟨_,_,rfl,rfl,by rw [ZX,yy];omega⟩ (fun i σ H' hi h=>?_) (fun σ H' h=>?_)
  .obtain ⟨t,o3,rfl,rfl,uu⟩:=h;have mv:(t++("/":Str)).length=t.length + 1:=by rw [ZX,yy]
   refine ⟨_,rfl,_,_,rfl,rfl,(by rw [yy];omega),_,rfl,_,rfl,_,rfl,_,_,rfl,rfl,.inr ⟨by omega,by omega⟩,_,_,rfl,rfl,_,_,rfl,rfl,.inl ⟨by decide,by decide⟩,_,_,rfl,rfl,⟨by omega,by omega⟩,_,_,rfl,rfl,(by show (0:Int) < 3;decide),?_⟩;generalize m / (4000 * ((0 + (i:Int)) * 7 + 1))=dd;obtain ⟨nm,iZ,Ft⟩:=xR (xs:=u4) (i:=dd % 3) (m:=8) (eE _ (by decide)).1 (by have:=(eE dd (d:=3) (by decide)).2;rw [ZpB];omega) Zlt;refine ⟨l,_,_,_,rfl,rfl,aq.of f3,Ft,_,_,rfl,rfl,(by rw [mv];omega),?_⟩;exact ⟨_,_,rfl,rfl,by rw [ZX,mv];omega⟩
  .obtain ⟨t,o3,rfl,rfl,uu⟩:=h;exact ⟨_,rfl,q _ _ dF (by omega)⟩
inductive tG (vs:List V) (H:Hp) (Q:VK) (aL:XK):Prop
 | mk (c m:Int):vs=[.int c,.int m]->(∀ (l:Addr) (row:Row) H',ag H H'->row.length<=200->H' l=some (.lst (row.map V.int))->Q (.ref l) H')->tG vs H Q aL
theorem ZkW:Zp ["_law_cell_here","_law_more","_law_many"] ["_law_cell_here","_law_more"] (Zi Iu):=ZN (by decide +kernel)
theorem ZqL (T:Tx K mg g):ah P w K mg base (ay P w) 1 g.gG g.dN ["_law_cell_here","_law_more"] tG:=by
 refine T.Ie.aP ZkW fun vs H Q E h=>?_;obtain ⟨c,m,rfl,q⟩:=h;refine ⟨rfl,fun _ _ _ _ hr=>?_⟩
 refine ⟨_,(Zd (Zz (i:=2) ZkW.nd rfl (Or.inl rfl) (bw ZU (fV (Za (Zy df (pv 1) Zl) (Za (Zy df (pv 1) Zl) (Za (Zy df (pv 1) Zl) Ze)))) (Zy df (Zy fJ (pv 1) Zl) Zl) (fun _ _=>rfl)))
  (Zh (Zt (xQ (own:=["_law_k"]) (fv:=["_law_cell_here","_law_more"]) (ix:=[0,1]) (ot (sc:=Zi Iu) (N:=["_law_cell_here","_law_more","_law_many"]) rfl rfl (by decide +kernel)) rfl (x_ rfl T.sP (Za (pv 2) Ze)) (fun _ _ _ _ _=>Z9 (i:=0) (show (["_law_k","_law_cell_here","_law_more"]:List Str).Nodup from by decide +kernel) rfl (Or.inl rfl) (Or.inr rfl)) (fun _ _ _ _ _=>xK) (fun _ _ _ _ _=>(Zy df (Zy kJ (Zy ni (pv 1) (Zy kJ (pv 0) Zl)) (Zy fJ (pv 2) (Zy kJ (pv 0) Zl))) Zl)))))),?_⟩
 have hSZ:(100000:Nat)<=Ym:=by decide
 have a5:=eE m (d:=5) (by decide);have a4:=eE m (d:=40) (by decide);have a2:=eE m (d:=200) (by decide);refine ⟨_,rfl,_,_,rfl,rfl,(by show (0:Int) < 5;decide),_,rfl,_,_,rfl,rfl,(by show (0:Int) < 40;decide),_,rfl,_,_,rfl,rfl,(by show (0:Int) < 200;decide),aX 3,fun l1 eB=>?_⟩;obtain ⟨many,hm,bP⟩:=zT (xs:=[m % 5,m % 40,m % 200]) (i:=m / 200 % 3) (p:=fun d=>0<=d/\d<=200) (eE _ (by decide)).1 (eE _ (by decide)).2 (List.forall_mem_cons.mpr ⟨⟨by omega,by omega⟩,List.forall_mem_cons.mpr ⟨⟨by omega,by omega⟩,List.forall_mem_cons.mpr ⟨⟨by omega,by omega⟩,fun _ h=>nomatch h⟩⟩⟩);refine ⟨_,rfl,_,_,rfl,rfl,⟨by decide,by decide⟩,_,_,rfl,rfl,(by show (0:Int) < 3;decide),l1,_,_,_,rfl,rfl,aq.of Zb,bP,?_⟩;refine ⟨_,rfl,many,rfl,by omega,by omega,fun D hD=>?_⟩;refine Znl _ (n:=many.toNat) (lo:=0) (fun i ys H'=>∃ xs:Row,ys=xs.map V.int/\xs.length=i/\H' D=some (.lst ys)/\ag H H') ⟨[],rfl,rfl,Zb,(Zj eB).trans (Zj hD)⟩ (by omega) (fun i ys H' h=>?_) (fun i ys H' N hi h kk=>?_) (fun ys H' h=>?_)
 .obtain ⟨xs,rfl,e,h4,_⟩:=h;exact ⟨h4,by rw [Yb];omega⟩
 .obtain ⟨xs,rfl,e,h4,h5⟩:=h;refine ⟨_,rfl,_,rfl,_,_,rfl,rfl,_,_,rfl,rfl,.inr ⟨by omega,by omega⟩,_,rfl,_,rfl,_,_,rfl,rfl,_,_,rfl,rfl,⟨by omega,by omega⟩,_,_,rfl,rfl,_,_,rfl,rfl,(by show (0:Int) < 256;decide),?_⟩;refine kk _ _ h4 ⟨xs++[_],by rw [Yw];rfl,by rw [Yg,e];rfl,Zb,fun b o eb=>?_⟩;have hDH:=Hr (Zj eB) hD
  have:b≠D:=fun z=>by rw [z,hDH] at eb;cases eb
  rw [Zf this];exact h5 _ _ eb
 .obtain ⟨xs,rfl,e,h4,h5⟩:=h;exact q D xs _ h5 (by omega) h4
inductive Dd where
 | make (p k:Str)
 | link (a b:Str)
 | unlink (p:Str)
 | rename (a b:Str)
 | write (n st:Int) (row:Row) (l:Addr)
 | cut (n size:Int)
 | snap (s:Str)
 | dJ (s:Str)
def Dd.vs:Dd->List V
 | .make p k=>[.str "make",.str p,.str k]
 | .link a b=>[.str "link",.str a,.str b]
 | .unlink p=>[.str "unlink",.str p]
 | .rename a b=>[.str "rename",.str a,.str b]
 | .write n st _ l=>[.str "write",.int n,.int st,.ref l]
 | .cut n size=>[.str "cut",.int n,.int size]
 | .snap s=>[.str "snap",.str s]
 | .dJ s=>[.str "unsnap",.str s]
def Dd.LO (H:Hp):Dd->Prop
 | .make p _=>p.length<=1000
 | .link a b=>a.length<=1000/\b.length<=1000
 | .unlink p=>p.length<=1000
 | .rename a b=>a.length<=1000/\b.length<=1000
 | .write _ st row l=>0<=st/\row.length<=1000/\H l=some (.lst (row.map V.int))
 | .cut _ size=>0<=size
 | .snap s=>s.length<=1000
 | .dJ s=>s.length<=1000
inductive pz (K:Yf) (vs:List V) (H:Hp) (Q:VK) (aL:XK):Prop
 | mk (a:Addr) (ns:List Int) (k:Int):vs=[.ref a,.int k]->aq K H a (ns.map V.int)->ns.length<=63->0<=k->k < 1000000->(∀ (D:Dd) t H',ag H H'->H' t=some (.tup D.vs)->D.LO H'->Q (.ref t) H')->pz K vs H Q aL
theorem yh:Zp ["_law_script","_law_k","_law_cell_here","_law_more","_law_way","_law_number"] ["_law_script","_law_k"] (Zi Zk7):=ZN (by decide +kernel)
theorem Zpw (T:Tx K mg g):ah P w K mg base (ay P w) 2 g.e_ g.cZ ["_law_script","_law_k"] (pz K):=by
 refine T.Jh.aP yh fun vs H Q E h=>?_;obtain ⟨a,ns,k,rfl,hS,hl,w4,Co,q⟩:=h;refine ⟨rfl,fun _ _ _ _ hr=>?_⟩
 refine ⟨_,(Zd (Zz (i:=2) yh.nd rfl (Or.inl rfl) (Zn (ZjT T) hr.dn rfl T.ZlC T.DQ.kp T.fG .nil Zc (Za (pv 0) (Za (pv 1) Ze))))
  (Zd (Zz (i:=3) yh.nd rfl (Or.inl rfl) (Zn (Zn4 T) hr.dn rfl T.ZpH T.Kf.kp T.ju .nil Zc (Za (pv 2) (Za (pv 1) Ze))))
  (Zd (Zz (i:=4) yh.nd rfl (Or.inl rfl) (Zy df (pv 3) Zl))
  (Zd (Zz (i:=3) yh.nd rfl (Or.inl rfl) (Zy fJ (pv 3) Zl))
  (Zd (Zz (i:=5) yh.nd rfl (Or.inl rfl) (Zy kJ (Zy df (pv 3) Zl) (bw ZU (fV (Za Zl (Za Zl Ze))) (ZT Zqk rfl T.Zxl PyProof.Rows.Boot.«int» (Za (oh fU (Zy df (Zy fJ (pv 3) Zl) Zl) Zl (ZO _)) Ze)) (fun _ _=>rfl))))
  (Zd (Z0 (ZG xu (pv 4) Zl (ZO _)) (Zh (Zt (dH (Za Zr (Za (Zn (yg T) hr.dn rfl T.ym T.tq.kp T.bh .nil Zc (Za (pv 3) Ze)) (Za (bw ZU (fV (Za Zr (Za Zr Ze))) (Zy df (Zy fJ (pv 3) Zl) Zl) (fun _ _=>rfl)) Ze)))))) Zx)
  (Zd (Z0 (ZG fU (pv 4) Zl (ZO _)) (Zh (Zt (dH (Za Zr (Za (Zn (yg T) hr.dn rfl T.ym T.tq.kp T.bh .nil Zc (Za (pv 3) Ze)) (Za (Zn (yg T) hr.dn rfl T.ym T.tq.kp T.bh .nil Zc (Za (Zy fJ (pv 3) Zl) Ze)) Ze)))))) Zx)
  (Zd (Z0 (ZG xu (pv 4) Zl (ZO _)) (Zh (Zt (dH (Za Zr (Za (Zn (yg T) hr.dn rfl T.ym T.tq.kp T.bh .nil Zc (Za (pv 3) Ze)) Ze))))) Zx)
  (Zd (Z0 (ZG xu (pv 4) Zl (ZO _)) (Zh (Zt (dH (Za Zr (Za (Zn (yg T) hr.dn rfl T.ym T.tq.kp T.bh .nil Zc (Za (pv 3) Ze)) (Za (Zn (yg T) hr.dn rfl T.ym T.tq.kp T.bh .nil Zc (Za (Zy fJ (pv 3) Zl) Ze)) Ze)))))) Zx)
  (Zd (Z0 (ZG xu (pv 4) Zl (ZO _)) (Zh (Zt (dH (Za Zr (Za (pv 5) (Za (bw ZU (fV (Za Zl (Za (Zy df (Zy fJ (pv 3) Zl) Zl) (Za (Zy df (Zy fJ (pv 3) Zl) Zl) Ze)))) (Zy df (Zy fJ (pv 3) Zl) Zl) (fun _ _=>rfl)) (Za (Zn (ZqL T) hr.dn rfl T.ZsP T.Ie.kp T.lI .nil Zc (Za (pv 2) (Za (Zy fJ (pv 3) Zl) Ze))) Ze))))))) Zx)
  (Zd (Z0 (ZG fU (pv 4) Zl (ZO _)) (Zh (Zt (dH (Za Zr (Za (pv 5) (Za (bw ZU (fV (Za (Zy df (Zy fJ (pv 3) Zl) Zl) (Za (Zy df (Zy fJ (pv 3) Zl) Zl) Ze))) (Zy df (Zy fJ (pv 3) Zl) Zl) (fun _ _=>rfl)) Ze)))))) Zx)
  (Zd (Z0 (ZG fU (pv 4) Zl (ZO _)) (Zh (Zt (dH (Za Zr (Za (bw ZU (fV (Za Zr (Za Zr (Za Zr (Za Zr (Za Zr (Za Zr (Za Zr Ze)))))))) (Zy df (pv 3) Zl) (fun _ _=>rfl)) Ze))))) Zx)
  (Zh (Zt (dH (Za Zr (Za (bw ZU (fV (Za Zr (Za Zr (Za Zr (Za Zr (Za Zr (Za Zr Ze))))))) (Zy df (pv 3) Zl) (fun _ _=>rfl)) Ze))))))))))))))))),?_⟩
 refine ⟨_,rfl,_,rfl,a,ns,k,rfl,hS,hl,w4,Co,fun H0 s0=>?_⟩;refine ⟨_,rfl,_,rfl,_,k,rfl,?_⟩;generalize pS ns k=c;generalize Zyf c k=m0;refine ⟨_,rfl,_,_,rfl,rfl,(by show (0:Int) < 16;decide),?_⟩;refine ⟨_,rfl,_,_,rfl,rfl,⟨by decide,by decide⟩,?_⟩;dsimp only;generalize m0 % 16=wy;generalize m0 / 16=m;refine ⟨_,rfl,_,_,rfl,rfl,(by show (0:Int) < 8;decide),aX 2,fun l1 eB=>?_⟩;refine ⟨_,rfl,_,_,rfl,rfl,⟨by decide,by decide⟩,_,_,rfl,rfl,(by show (0:Int) < 30;decide),rfl,.inr ⟨_,rfl,?_⟩⟩;obtain ⟨n4,_,bP⟩:=zT (xs:=[0,40]) (i:=if decide ((fun i j=>V.int (i % j)) (m / 8) 30=V.int 0)=true then 1 else 0) (p:=fun _=>True) (by split <;> decide) (by split <;> decide) (by decide);refine ⟨l1,_,_,_,rfl,rfl,aq.of Zb,bP,_,_,rfl,rfl,?_⟩;have s1:=s0.trans (Zj (o:=.lst [V.int 0,V.int 40]) eB);generalize upd H0 l1 _=H1 at s1 ⊢
 -- make
 refine ⟨_,rfl,_,_,rfl,rfl,_,rfl,jX (fun _=>?_) (fun _=>?_)⟩
 .refine ⟨_,rfl,m,rfl,fun p1 H2 s2 iY=>?_⟩;refine ⟨aX 2,fun l2 cL=>?_⟩;obtain ⟨kd,_,bP⟩:=xR (xs:=["file","dir"]) (i:=m / 9 % 2) (m:=1000) (eE _ (by decide)).1 (eE _ (by decide)).2 (by decide +kernel);refine ⟨_,rfl,_,_,rfl,rfl,⟨by decide,by decide⟩,_,_,rfl,rfl,(by show (0:Int) < 2;decide),l2,_,_,_,rfl,rfl,aq.of Zb,bP,?_⟩;exact ⟨aX 3,fun t ht=>q (.make p1 kd) t _ ((s1.trans s2).trans ((Zj cL).trans (Zj ht))) Zb iY⟩
 -- link
 refine ⟨_,rfl,rfl,_,rfl,jX (fun _=>?_) (fun _=>?_)⟩
 .refine ⟨_,rfl,m,rfl,fun p1 H2 s2 iY=>?_⟩;refine ⟨_,rfl,_,_,rfl,rfl,⟨by decide,by decide⟩,_,rfl,fun p2 H3 s3 eI=>?_⟩;exact ⟨aX 3,fun t ht=>q (.link p1 p2) t _ ((s1.trans s2).trans (s3.trans (Zj ht))) Zb ⟨iY,eI⟩⟩
 -- unlink
 refine ⟨_,rfl,_,_,rfl,rfl,_,rfl,jX (fun _=>?_) (fun _=>?_)⟩
 .refine ⟨_,rfl,m,rfl,fun p1 H2 s2 iY=>?_⟩;exact ⟨aX 2,fun t ht=>q (.unlink p1) t _ ((s1.trans s2).trans (Zj ht)) Zb iY⟩
 -- rename
 refine ⟨_,rfl,_,_,rfl,rfl,_,rfl,jX (fun _=>?_) (fun _=>?_)⟩
 .refine ⟨_,rfl,m,rfl,fun p1 H2 s2 iY=>?_⟩;refine ⟨_,rfl,_,_,rfl,rfl,⟨by decide,by decide⟩,_,rfl,fun p2 H3 s3 eI=>?_⟩;exact ⟨aX 3,fun t ht=>q (.rename p1 p2) t _ ((s1.trans s2).trans (s3.trans (Zj ht))) Zb ⟨iY,eI⟩⟩
 -- write
 refine ⟨_,rfl,_,_,rfl,rfl,_,rfl,jX (fun _=>?_) (fun _=>?_)⟩
 .refine ⟨_,rfl,_,rfl,_,_,rfl,rfl,⟨by decide,by decide⟩,_,_,rfl,rfl,(by show (0:Int) < 50;decide),_,rfl,_,_,rfl,rfl,⟨by decide,by decide⟩,_,_,rfl,rfl,(by show (0:Int) < 610;decide),aX 3,fun l2 cL=>?_⟩;have b1:=eE (m / 16) (d:=50) (by decide);have b2:=eE (m / 16) (d:=610) (by decide);obtain ⟨st,cP,bP⟩:=zT (xs:=[0,m / 16 % 50,m / 16 % 610]) (i:=m / 64 % 3) (p:=fun d=>0<=d) (eE _ (by decide)).1 (eE _ (by decide)).2 (List.forall_mem_cons.mpr ⟨by decide,List.forall_mem_cons.mpr ⟨b1.1,List.forall_mem_cons.mpr ⟨b2.1,fun _ h=>nomatch h⟩⟩⟩);refine ⟨_,rfl,_,_,rfl,rfl,⟨by decide,by decide⟩,_,_,rfl,rfl,(by show (0:Int) < 3;decide),l2,_,_,_,rfl,rfl,aq.of Zb,bP,?_⟩;refine ⟨_,rfl,_,rfl,_,_,rfl,rfl,⟨by decide,by decide⟩,c,_,rfl,fun l3 row H3 s3 h_ g9=>?_⟩;exact ⟨aX 4,fun t ht=>q (.write (m % 8 + n4) st row l3) t _ (s1.trans ((Zj cL).trans (s3.trans (Zj ht)))) Zb ⟨cP,by omega,Zj ht _ _ g9⟩⟩
 -- cut
 refine ⟨_,rfl,rfl,_,rfl,jX (fun _=>?_) (fun _=>?_)⟩
 .refine ⟨_,rfl,_,rfl,_,_,rfl,rfl,⟨by decide,by decide⟩,_,_,rfl,rfl,(by show (0:Int) < 30;decide),_,rfl,_,_,rfl,rfl,⟨by decide,by decide⟩,_,_,rfl,rfl,(by show (0:Int) < 605;decide),aX 2,fun l2 cL=>?_⟩;have b1:=eE (m / 16) (d:=30) (by decide);have b2:=eE (m / 16) (d:=605) (by decide);obtain ⟨sz,hsz,bP⟩:=zT (xs:=[m / 16 % 30,m / 16 % 605]) (i:=m / 64 % 2) (p:=fun d=>0<=d) (eE _ (by decide)).1 (eE _ (by decide)).2 (List.forall_mem_cons.mpr ⟨b1.1,List.forall_mem_cons.mpr ⟨b2.1,fun _ h=>nomatch h⟩⟩);refine ⟨_,rfl,_,_,rfl,rfl,⟨by decide,by decide⟩,_,_,rfl,rfl,(by show (0:Int) < 2;decide),l2,_,_,_,rfl,rfl,aq.of Zb,bP,?_⟩;exact ⟨aX 3,fun t ht=>q (.cut (m % 8 + n4) sz) t _ (s1.trans ((Zj cL).trans (Zj ht))) Zb hsz⟩
 -- snap
 refine ⟨_,rfl,rfl,_,rfl,jX (fun _=>?_) (fun _=>?_)⟩
 .refine ⟨aX 7,fun l2 cL=>?_⟩;obtain ⟨nm,iZ,bP⟩:=xR (xs:=["s1","s2","s3","s4","","a/b","S."]) (i:=m % 7) (m:=1000) (eE _ (by decide)).1 (eE _ (by decide)).2 (by decide +kernel);refine ⟨_,rfl,_,_,rfl,rfl,(by show (0:Int) < 7;decide),l2,_,_,_,rfl,rfl,aq.of Zb,bP,?_⟩;exact ⟨aX 2,fun t ht=>q (.snap nm) t _ (s1.trans ((Zj cL).trans (Zj ht))) Zb iZ⟩
 .refine ⟨aX 6,fun l2 cL=>?_⟩;obtain ⟨nm,iZ,bP⟩:=xR (xs:=["s1","s2","s3","s4","..","gone"]) (i:=m % 6) (m:=1000) (eE _ (by decide)).1 (eE _ (by decide)).2 (by decide +kernel);refine ⟨_,rfl,_,_,rfl,rfl,(by show (0:Int) < 6;decide),l2,_,_,_,rfl,rfl,aq.of Zb,bP,?_⟩;exact ⟨aX 2,fun t ht=>q (.dJ nm) t _ (s1.trans ((Zj cL).trans (Zj ht))) Zb iZ⟩
structure jJ (F:bY):Prop where
 s:Wf F.S
 n:F.k.length<=3
 nd:(F.k.map (·.1)).Nodup
 k:∀ n S,aa F.k n=some S->eD n=true/\Wf S
 p:m_ F.T.synced
theorem jJ.kk {F:bY} (h:jJ F):i9 F.k:=⟨h.n,fun n S e=>⟨(h.k n S e).1,(h.k n S e).2.ok⟩⟩
theorem Gv {F F':bY} {S:az} {k:Kept} (h:g0 F S k=.ok F'):F'.S=S/\F'.k=k/\F'.T=F.T:=by
 unfold g0 at h
 split at h
 .cases h
 .cases h;exact ⟨rfl,rfl,rfl⟩
theorem jJ.turn {F F':bY} (h:jJ F) {S:az} (W:Wf S) (e:g0 F S F.k=.ok F'):jJ F':=by
 obtain ⟨e1,e2,e3⟩:=Gv e;exact ⟨by rw [e1];exact W,by rw [e2];exact h.n,by rw [e2];exact h.nd,by rw [e2];exact h.k,by rw [e3];exact h.p⟩
def ddF (F:bY):Dd->Except Rf bY
 | .make p k=>CF F p k
 | .link a b=>CD F a b
 | .unlink p=>De F p
 | .rename a b=>Dk F a b
 | .write n st row _=>CS F n st row
 | .cut n size=>rD F n size
 | .snap s=>xC F s
 | .dJ s=>xZ F s
theorem jJ.wI {F F':bY} (h:jJ F) (R:Except Rf az) (hw:∀ S,R=.ok S->Wf S) (e:(match R with | .error r=>(.error r:Except Rf bY) | .ok S=>g0 F S F.k)=.ok F'):jJ F':=by
 cases q:R with
 | error r=>rw [q] at e;cases e
 | ok S=>rw [q] at e;exact h.turn (hw S q) e
theorem jJ.dd {F F':bY} (h:jJ F) {H:Hp} {D:Dd} (hf:D.LO H) (e:ddF F D=.ok F'):jJ F':=by
 cases D with
 | make p k=>exact h.wI (sk F.S p k) (fun S z=>ZtP h.s z) e
 | link a b=>exact h.wI (sM F.S a b) (fun S z=>ZpJ h.s z) e
 | unlink p=>exact h.wI (sX F.S p) (fun S z=>ZkM h.s z) e
 | rename a b=>exact h.wI (sS F.S a b) (fun S z=>ZmX h.s z) e
 | write n st row l=>exact h.wI (qL F.S n st row) (fun S z=>Zr9 h.s hf.1 z) e
 | cut n size=>exact h.wI (qQ F.S n size) (fun S z=>Zst h.s z) e
 | snap s=>
  have e:xC F s=.ok F':=e;unfold xC at e
  split at e
  .rename_i hn
   split at e
   .cases e
   .rename_i hi
    split at e
    .cases e
    .rename_i h3
     obtain ⟨e1,e2,e3⟩:=Gv e;refine ⟨by rw [e1];exact h.s,?_,by rw [e2];exact p9 h.nd,fun n S z=>?_,by rw [e3];exact h.p⟩
     .rw [e2];have:=sR F.k s F.S;omega
     .rw [e2,ZV] at z
      by_cases y:n=s
      .rw [if_pos y] at z;cases z;rw [y];exact ⟨hn,h.s⟩
      .rw [if_neg y] at z;exact h.k n S z
  .cases e
 | dJ s=>
  have e:xZ F s=.ok F':=e;unfold xZ at e
  split at e
  .split at e
   .obtain ⟨e1,e2,e3⟩:=Gv e;exact ⟨by rw [e1];exact h.s,by rw [e2];exact Yk (XA _ _) h.n,by rw [e2];exact yd h.nd,fun n S z=>h.k n S (by rw [e2] at z;exact vy z),by rw [e3];exact h.p⟩
   .cases e
  .cases e
inductive mi (g:Gs) (vs:List V) (H:Hp) (Q:VK) (aL:XK):Prop
 | mk (f:_) (q:_) (p:_) (b:_) (l:_) (F:_) (t:_) (D:_):vs=[.ref f,.ref t]->cH g H f q p b l F->jJ F->H t=some (.tup (Dd.vs D))->D.LO H->(∀ v F' H',gy f H H'->cH g H' f q p b l F'->jJ F'->Q v H')->mi g vs H Q aL
theorem Cz (x:V) (r:List V):fS (x::r) 0=some x:=sH (by decide) rfl
theorem sj (x y:V) (r:List V):fS (x::y::r) 1=some y:=sH (by decide) rfl
theorem at2 (x y z:V) (r:List V):fS (x::y::z::r) 2=some z:=sH (by decide) rfl
theorem F2 (x y z u:V) (r:List V):fS (x::y::z::u::r) 3=some u:=sH (by decide) rfl
theorem bj {s t:Str} {a b:Prop} (e:s≠t) (h:b):if decide (V.str s=V.str t)=true then a else b:=by
 rw [if_neg (by rw [decide_eq_false (fun z=>e (by injection z))];decide)];exact h
theorem jW {s:Str} {a b:Prop} (h:a):if decide (V.str s=V.str s)=true then a else b:=by
 rw [if_pos (decide_eq_true rfl)];exact h
theorem Kr:Zp ["_law_files","_law_deed_here","_law_word_here","_law_e"] ["_law_files","_law_deed_here"] (Zi JM):=ZN (by decide +kernel)
theorem Zn5 (T:Tx K mg g):ah P w K mg base (ay P w) 8 g.cz g.cD ["_law_files","_law_deed_here"] (mi g):=by
 refine T.Ke.aP Kr fun vs H Q E h=>?_;obtain ⟨f,q0,p0,b,l,F,t,D,rfl,cM,fo,ht,bO,q⟩:=h;refine ⟨rfl,fun aY A outer s hr=>?_⟩;obtain ⟨dx,sv,kv,iv,hF⟩:=id cM;have done:∀ {v:V} {H':Hp},ag H H'->Q v H':=fun s=>q _ F _ (fun d o e _=>s _ _ e) (cM.same s) fo;have so:=fo.s.ok;have sm:=fo.s.sm;have kk:=fo.kk;have po:=fo.p;have i6:=fo.s.x.i6
 refine ⟨_,(Zd (Zz (i:=2) Kr.nd rfl (Or.inl rfl) (bw jI (pv 1) Zl (fun _ _=>rfl)))
  (Zh (ZvW (X:=a8 (ay P w) P w K mg base ["_law_files","_law_deed_here","_law_word_here","_law_e"] "_law_asked" (Zi JM) g.cz aY A outer s H E) (i:=3) (tb:=fun E=>(jU (jV (su (dX rL (aN 2) (tC (.str "make")))) (hZ (mD g.ak "make" (lA g) [] E (aN 0) (c9 (dX (di K) (aN 1) (tC (.int 1))) (c9 (dX (di K) (aN 1) (tC (.int 2))) bq)))) sr) (jU (jV (su (dX rL (aN 2) (tC (.str "link")))) (hZ (mD g.ak "link" (jn g) [] E (aN 0) (c9 (dX (di K) (aN 1) (tC (.int 1))) (c9 (dX (di K) (aN 1) (tC (.int 2))) bq)))) sr) (jU (jV (su (dX rL (aN 2) (tC (.str "unlink")))) (hZ (mD g.ak "unlink" (eU g) [] E (aN 0) (c9 (dX (di K) (aN 1) (tC (.int 1))) bq))) sr) (jU (jV (su (dX rL (aN 2) (tC (.str "rename")))) (hZ (mD g.ak "rename" (eV g) [] E (aN 0) (c9 (dX (di K) (aN 1) (tC (.int 1))) (c9 (dX (di K) (aN 1) (tC (.int 2))) bq)))) sr) (jU (jV (su (dX rL (aN 2) (tC (.str "write")))) (hZ (mD g.ak "write" (gE g) [] E (aN 0) (c9 (dX (di K) (aN 1) (tC (.int 1))) (c9 (dX (di K) (aN 1) (tC (.int 2))) (c9 (dX (di K) (aN 1) (tC (.int 3))) bq))))) sr) (jU (jV (su (dX rL (aN 2) (tC (.str "cut")))) (hZ (mD g.ak "cut" (lB g) [] E (aN 0) (c9 (dX (di K) (aN 1) (tC (.int 1))) (c9 (dX (di K) (aN 1) (tC (.int 2))) bq)))) sr) (jU (jV (su (dX rL (aN 2) (tC (.str "snap")))) (hZ (mD g.ak "snap" (jm g) [] E (aN 0) (c9 (dX (di K) (aN 1) (tC (.int 1))) bq))) sr) (hZ (mD g.ak "unsnap" (eT g) [] E (aN 0) (c9 (dX (di K) (aN 1) (tC (.int 1))) bq))))))))))) rfl rfl rfl rfl T.JG T.Zjo Kr.nd rfl rfl
  (fun pn E' E hE=>(Zd (Z0 (ZG fU (pv 2) Zr (ZO _)) (Zh (Zt (ZP (pv 0) T.Zq T.ZpX (Zoa T) hr.dn T.jA .nil hE (Za (bw jI (pv 1) Zl (fun _ _=>rfl)) (Za (bw jI (pv 1) Zl (fun _ _=>rfl)) Ze))))) Zx)
  (Zd (Z0 (ZG fU (pv 2) Zr (ZO _)) (Zh (Zt (ZP (pv 0) T.Zq T.ZpY (Zob T) hr.dn T.jB .nil hE (Za (bw jI (pv 1) Zl (fun _ _=>rfl)) (Za (bw jI (pv 1) Zl (fun _ _=>rfl)) Ze))))) Zx)
  (Zd (Z0 (ZG fU (pv 2) Zr (ZO _)) (Zh (Zt (ZP (pv 0) T.Zq T.Zmz (Zlp T) hr.dn T.gU .nil hE (Za (bw jI (pv 1) Zl (fun _ _=>rfl)) Ze)))) Zx)
  (Zd (Z0 (ZG fU (pv 2) Zr (ZO _)) (Zh (Zt (ZP (pv 0) T.Zq T.ZmA (Zlq T) hr.dn T.gW .nil hE (Za (bw jI (pv 1) Zl (fun _ _=>rfl)) (Za (bw jI (pv 1) Zl (fun _ _=>rfl)) Ze))))) Zx)
  (Zd (Z0 (ZG fU (pv 2) Zr (ZO _)) (Zh (Zt (ZP (pv 0) T.Zq T.Zot (Zmr T) hr.dn T.ip .nil hE (Za (bw jI (pv 1) Zl (fun _ _=>rfl)) (Za (bw jI (pv 1) Zl (fun _ _=>rfl)) (Za (bw jI (pv 1) Zl (fun _ _=>rfl)) Ze)))))) Zx)
  (Zd (Z0 (ZG fU (pv 2) Zr (ZO _)) (Zh (Zt (ZP (pv 0) T.Zq T.ZqX (Zpx T) hr.dn T.kz .nil hE (Za (bw jI (pv 1) Zl (fun _ _=>rfl)) (Za (bw jI (pv 1) Zl (fun _ _=>rfl)) Ze))))) Zx)
  (Zd (Z0 (ZG fU (pv 2) Zr (ZO _)) (Zh (Zt (ZP (pv 0) T.Zq T.ZpW (Zn9 T) hr.dn T.jz .nil hE (Za (bw jI (pv 1) Zl (fun _ _=>rfl)) Ze)))) Zx)
  (Zh (Zt (ZP (pv 0) T.Zq T.Zmy (Zlo T) hr.dn T.gT .nil hE (Za (bw jI (pv 1) Zl (fun _ _=>rfl)) Ze))))))))))))
  (fun a=>(Zh (Zt (Zry (ZjS T) (hr.dn.g8 _) rfl T.ZlB T.DR.kp T.fF (Za (pv 3) Ze)))))))),?_⟩
 refine ⟨_,rfl,t,_,_,_,rfl,rfl,aF.of ht,(by cases D <;> exact Cz _ _:fS D.vs 0=some (D.vs.headD .aK)),?_⟩
 cases D with
 | make p k=>
  refine ⟨_,rfl,rfl,_,rfl,jW ?_⟩;refine ⟨_,rfl,f,dx,_,rfl,hF.ob,Z6 _ _ _ _,_,rfl,t,_,_,_,rfl,rfl,aF.of ht,sj _ _ _,_,rfl,t,_,_,_,rfl,rfl,aF.of ht,at2 _ _ _ _,?_⟩;refine ⟨f,q0,p0,b,l,F,p,k,rfl,cM,sm,(by have:=i6;omega),(by have:=i6;omega),bO,(fun S z=>(ZtP fo.s z).ok),kk,po,?_⟩
  cases hm:CF F p k with
  | ok F'=>exact fun H' b1 h'=>q _ F' H' b1 h' (fo.dd (D:=.make p k) bO hm)
  | error r=>exact fun H1 s1=>⟨g.xa r,rfl,T.sub r,fun a na=>⟨_,rfl,a,r,rfl,.inl Zb,fun H' sm=>done (s1.trans ((Zj na).trans sm))⟩⟩
 | link a c=>
  refine ⟨_,rfl,rfl,_,rfl,bj (by decide +kernel) ?_⟩;refine ⟨_,rfl,rfl,_,rfl,jW ?_⟩;refine ⟨_,rfl,f,dx,_,rfl,hF.ob,Z6 _ _ _ _,_,rfl,t,_,_,_,rfl,rfl,aF.of ht,sj _ _ _,_,rfl,t,_,_,_,rfl,rfl,aF.of ht,at2 _ _ _ _,?_⟩;refine ⟨f,q0,p0,b,l,F,a,c,rfl,cM,sm,bO.1,bO.2,(fun S z=>(ZpJ fo.s z).ok),kk,po,?_⟩
  cases hm:CD F a c with
  | ok F'=>exact fun H' b1 h'=>q _ F' H' b1 h' (fo.dd (D:=.link a c) bO hm)
  | error r=>exact fun H1 s1=>⟨g.xa r,rfl,T.sub r,fun a na=>⟨_,rfl,a,r,rfl,.inl Zb,fun H' sm=>done (s1.trans ((Zj na).trans sm))⟩⟩
 | unlink p=>
  refine ⟨_,rfl,rfl,_,rfl,bj (by decide +kernel) ?_⟩;refine ⟨_,rfl,rfl,_,rfl,bj (by decide +kernel) ?_⟩;refine ⟨_,rfl,rfl,_,rfl,jW ?_⟩;refine ⟨_,rfl,f,dx,_,rfl,hF.ob,Z6 _ _ _ _,_,rfl,t,_,_,_,rfl,rfl,aF.of ht,sj _ _ _,?_⟩;refine ⟨f,q0,p0,b,l,F,p,rfl,cM,so,fo.s.x.len fo.s.b (by decide),bO,(fun S z=>(ZkM fo.s z).ok),kk,po,?_⟩
  cases hm:De F p with
  | ok F'=>exact fun H' b1 h'=>q _ F' H' b1 h' (fo.dd (D:=.unlink p) bO hm)
  | error r=>exact fun H1 s1=>⟨g.xa r,rfl,T.sub r,fun a na=>⟨_,rfl,a,r,rfl,.inl Zb,fun H' sm=>done (s1.trans ((Zj na).trans sm))⟩⟩
 | rename a c=>
  refine ⟨_,rfl,rfl,_,rfl,bj (by decide +kernel) ?_⟩;refine ⟨_,rfl,rfl,_,rfl,bj (by decide +kernel) ?_⟩;refine ⟨_,rfl,rfl,_,rfl,bj (by decide +kernel) ?_⟩;refine ⟨_,rfl,rfl,_,rfl,jW ?_⟩;refine ⟨_,rfl,f,dx,_,rfl,hF.ob,Z6 _ _ _ _,_,rfl,t,_,_,_,rfl,rfl,aF.of ht,sj _ _ _,_,rfl,t,_,_,_,rfl,rfl,aF.of ht,at2 _ _ _ _,?_⟩;refine ⟨f,q0,p0,b,l,F,a,c,rfl,cM,sm,bO.1,bO.2,Zwy fo.s,(fun S z=>(ZmX fo.s z).ok),kk,po,?_⟩
  cases hm:Dk F a c with
  | ok F'=>exact fun H' b1 h'=>q _ F' H' b1 h' (fo.dd (D:=.rename a c) bO hm)
  | error r=>exact fun H1 s1=>⟨g.xa r,rfl,T.sub r,fun a na=>⟨_,rfl,a,r,rfl,.inl Zb,fun H' sm=>done (s1.trans ((Zj na).trans sm))⟩⟩
 | write n st row wl=>
  refine ⟨_,rfl,rfl,_,rfl,bj (by decide +kernel) ?_⟩;refine ⟨_,rfl,rfl,_,rfl,bj (by decide +kernel) ?_⟩;refine ⟨_,rfl,rfl,_,rfl,bj (by decide +kernel) ?_⟩;refine ⟨_,rfl,rfl,_,rfl,bj (by decide +kernel) ?_⟩;refine ⟨_,rfl,rfl,_,rfl,jW ?_⟩;refine ⟨_,rfl,f,dx,_,rfl,hF.ob,Z6 _ _ _ _,_,rfl,t,_,_,_,rfl,rfl,aF.of ht,sj _ _ _,_,rfl,t,_,_,_,rfl,rfl,aF.of ht,at2 _ _ _ _,_,rfl,t,_,_,_,rfl,rfl,aF.of ht,F2 _ _ _ _ _,?_⟩;refine ⟨f,q0,p0,b,l,F,n,st,wl,row,rfl,cM,so,bO.1,bO.2.2,bO.2.1,kk,po,?_⟩
  cases hm:CS F n st row with
  | ok F'=>exact fun H' b1 h'=>q _ F' H' b1 h' (fo.dd (D:=.write n st row wl) bO hm)
  | error r=>exact fun H1 s1=>⟨g.xa r,rfl,T.sub r,fun a na=>⟨_,rfl,a,r,rfl,.inl Zb,fun H' sm=>done (s1.trans ((Zj na).trans sm))⟩⟩
 | cut n size=>
  refine ⟨_,rfl,rfl,_,rfl,bj (by decide +kernel) ?_⟩;refine ⟨_,rfl,rfl,_,rfl,bj (by decide +kernel) ?_⟩;refine ⟨_,rfl,rfl,_,rfl,bj (by decide +kernel) ?_⟩;refine ⟨_,rfl,rfl,_,rfl,bj (by decide +kernel) ?_⟩;refine ⟨_,rfl,rfl,_,rfl,bj (by decide +kernel) ?_⟩;refine ⟨_,rfl,rfl,_,rfl,jW ?_⟩;refine ⟨_,rfl,f,dx,_,rfl,hF.ob,Z6 _ _ _ _,_,rfl,t,_,_,_,rfl,rfl,aF.of ht,sj _ _ _,_,rfl,t,_,_,_,rfl,rfl,aF.of ht,at2 _ _ _ _,?_⟩;refine ⟨f,q0,p0,b,l,F,n,size,rfl,cM,so,bO,kk,po,?_⟩
  cases hm:rD F n size with
  | ok F'=>exact fun H' b1 h'=>q _ F' H' b1 h' (fo.dd (D:=.cut n size) bO hm)
  | error r=>exact fun H1 s1=>⟨g.xa r,rfl,T.sub r,fun a na=>⟨_,rfl,a,r,rfl,.inl Zb,fun H' sm=>done (s1.trans ((Zj na).trans sm))⟩⟩
 | snap s1=>
  refine ⟨_,rfl,rfl,_,rfl,bj (by decide +kernel) ?_⟩;refine ⟨_,rfl,rfl,_,rfl,bj (by decide +kernel) ?_⟩;refine ⟨_,rfl,rfl,_,rfl,bj (by decide +kernel) ?_⟩;refine ⟨_,rfl,rfl,_,rfl,bj (by decide +kernel) ?_⟩;refine ⟨_,rfl,rfl,_,rfl,bj (by decide +kernel) ?_⟩;refine ⟨_,rfl,rfl,_,rfl,bj (by decide +kernel) ?_⟩;refine ⟨_,rfl,rfl,_,rfl,jW ?_⟩;refine ⟨_,rfl,f,dx,_,rfl,hF.ob,Z6 _ _ _ _,_,rfl,t,_,_,_,rfl,rfl,aF.of ht,sj _ _ _,?_⟩;refine ⟨f,q0,p0,b,l,F,s1,rfl,cM,so,bO,kk,po,?_⟩
  cases hm:xC F s1 with
  | ok F'=>exact fun H' b1 h'=>q _ F' H' b1 h' (fo.dd (D:=.snap s1) bO hm)
  | error r=>exact fun H1 s1=>⟨g.xa r,rfl,T.sub r,fun a na=>⟨_,rfl,a,r,rfl,.inl Zb,fun H' sm=>done (s1.trans ((Zj na).trans sm))⟩⟩
 | dJ s1=>
  refine ⟨_,rfl,rfl,_,rfl,bj (by decide +kernel) ?_⟩;refine ⟨_,rfl,rfl,_,rfl,bj (by decide +kernel) ?_⟩;refine ⟨_,rfl,rfl,_,rfl,bj (by decide +kernel) ?_⟩;refine ⟨_,rfl,rfl,_,rfl,bj (by decide +kernel) ?_⟩;refine ⟨_,rfl,rfl,_,rfl,bj (by decide +kernel) ?_⟩;refine ⟨_,rfl,rfl,_,rfl,bj (by decide +kernel) ?_⟩;refine ⟨_,rfl,rfl,_,rfl,bj (by decide +kernel) ?_⟩;refine ⟨_,rfl,f,dx,_,rfl,hF.ob,Z6 _ _ _ _,_,rfl,t,_,_,_,rfl,rfl,aF.of ht,sj _ _ _,?_⟩;refine ⟨f,q0,p0,b,l,F,s1,rfl,cM,so,bO,kk,po,?_⟩
  cases hm:xZ F s1 with
  | ok F'=>exact fun H' b1 h'=>q _ F' H' b1 h' (fo.dd (D:=.dJ s1) bO hm)
  | error r=>exact fun H1 s1=>⟨g.xa r,rfl,T.sub r,fun a na=>⟨_,rfl,a,r,rfl,.inl Zb,fun H' sm=>done (s1.trans ((Zj na).trans sm))⟩⟩
def iu (H:Hp) (a:Addr):Hp:=fun b=>if b=a then none else H b
theorem sJ {H:Hp} {a b:Addr} {o:HO} (h:H b=some o) (n:b≠a):iu H a b=some o:=by unfold iu;rw [if_neg n];exact h
theorem kT {H:Hp} {a b:Addr} {o:HO} (h:iu H a b=some o):H b=some o/\b≠a:=by
 unfold iu at h
 split at h
 .cases h
 .exact ⟨h,by assumption⟩
theorem ZrN (H:Hp) (a:Addr):ag (iu H a) H:=fun _ _ e=>(kT e).1
theorem Zv9 {H H':Hp} {a:Addr} (k:∀ b o,H b=some o->b≠a->H' b=some o):ag (iu H a) (iu H' a):=fun b o e=>sJ (k b o (kT e).1 (kT e).2) (kT e).2
theorem cH.tab {g:Gs} {H:Hp} {f q p b l P:Addr} {F:bY} {ps:Array Value} (h:cH g H f q p b l F) (hP:H P=some (.cO ps)):cH g (iu H P) f q p b l F:=
 h.od fun d u e n=>sJ e fun z=>by
  rw [z,hP] at e
  cases e
  exact n (.inl ⟨(),(),rfl⟩)
abbrev lq (q:Str):Str:=(q++Y9 ".<locals>.")++Y9 "<lambda>"
inductive cu (P:Program) (w:World) (K:Yf) (mg:Str->Option Value) (base:Heap) (g:Gs) (vs:List V) (H:Hp) (Q:VK) (aL:XK):Prop
 | mk (f:_) (fd:_) (sp:_) (o:_):vs=[.ref f]->ah P w K mg base (ay P w) 6 f fd [] sp->ZF K fd [] []->base.get? f=some o->o.data=.func fd->(∀ E:XK,(∀ (r:Rf) H1,(∀ H',ag H1 H'->Q (.str r.word) H')->E (.ref (g.xa r)) none H1)->sp [] H Q E)->cu P w K mg base g vs H Q aL
theorem Zjr:Zp ["_law_rule","_law_e"] ["_law_rule"] (Zi Jt):=ZN (by decide +kernel)
theorem D0 (T:Tx K mg g):ah P w K mg base (ay P w) 8 g.dc g.cX ["_law_rule"] (cu P w K mg base g):=by
 refine T.yl.aP Zjr fun vs H Q E h=>?_;obtain ⟨f,fd,sp,o,rfl,F,hb,ho,hd,q⟩:=h;refine ⟨rfl,fun aY A outer s hr=>?_⟩
 refine ⟨_,(Zh (ZvW (X:=a8 (ay P w) P w K mg base ["_law_rule","_law_e"] "_law_told" (Zi Jt) g.dc aY A outer s H E) (i:=1) (tb:=fun E=>hZ (ZvR P w K mg base (ay P w) 6 E 0)) rfl rfl rfl rfl T.JG T.Zjo Zjr.nd rfl rfl
  (fun pn E' E hE=>(Zh (Zt (Zu7 (k:=6) hr.dn hE))))
  (fun a=>(Zh (Zt (Zry (ZjS T) (hr.dn.g8 _) rfl T.ZlB T.DR.kp T.fF (Za (pv 1) Ze))))))),?_⟩
 refine ⟨f,fd,sp,o,rfl,F,hb,ho,hd,q _ fun r H1 k=>?_⟩;exact ⟨g.xa r,rfl,T.sub r,fun a na=>⟨_,rfl,a,r,rfl,.inl Zb,fun H' sm=>k H' ((Zj na).trans sm)⟩⟩
abbrev yL:List Str:=["_law_files","_law_number"]
theorem Zte {f c:Addr} {cl:List (Str×Addr)} {pm iA:Value} {H1:Hp} {Q:VK} {E:XK} {qual:Str} {params:Arguments} {body:Expr} {scope:Scope} {fv:List Str} {vs:List V} {sp:Hp->VK->XK->Prop}
  (hf:base.get? f=some (W6 "<lambda>" qual params body scope cl pm c iA)) (S:Dp scope fv) (C:yr base cl fv vs) (hc:pX qual H1 c) (hb:ZF K (PySem.W.kla_fn "<lambda>" qual params body scope cl pm (.ref c) iA) [] [])
  (b_:∀ (A:Around) (outer:List Env) (s:Shared) (H:Hp) (Q:VK) (E:XK),aV 5 (A.deeper (X1 qual scope s.heap.objs.size f (.ref c) cl))->sp H Q E->∃ t,PE (qD (ay P w) P w K mg base fv qual scope f (.ref c) cl A outer s H E) body t/\t (vs.map some) H Q)
  (h:∀ E:XK,(∀ (r:Rf) H2,(∀ H',ag H2 H'->Q (.str r.word) H')->E (.ref (g.xa r)) none H2)->sp H1 Q E):cu P w K mg base g [.ref f] H1 Q E:=
 ⟨f,_,_,_,rfl,Zx9 hf S C b_,hb,hf,rfl,fun E' h'=>⟨rfl,hc,h E' h'⟩⟩
abbrev vO:Arguments:={posonlyargs:=[],args:=[],vararg:=none,kwonlyargs:=[],kw_defaults:=[],kwarg:=none,defaults:=[]}
abbrev kZ:Scope:={kind:=.function,names:=[(Y9 "_law_files",.free),(Y9 "_law_number",.free)],isGenerator:=false,isCoroutine:=false,more:=[]}
theorem Zv6:Dp kZ yL:=⟨rfl,rfl,rfl,by decide +kernel,by decide +kernel,by decide +kernel⟩
theorem ZpN {qual:Str} {body:Expr} {scope:Scope} {cl:List (Str×Addr)} {pm iA:Value} {c:Addr}:ZF K (PySem.W.kla_fn "<lambda>" qual vO body scope cl pm (.ref c) iA) [] []:=ZF.all fun us hl=>match us,hl with | [],_=>rfl
section
variable {f c f0 dx:Addr} {cl:List (Str×Addr)} {pm iA:Value} {H1:Hp} {Q:VK} {E:XK} {qual:Str} {body:Expr} {sv k t i:V} {n:Int} {m:Str} {sp:Sp}
theorem k6 (hf:base.get? f=some (W6 "<lambda>" qual vO body kZ cl pm c iA)) (C:yr base cl yL [.ref f0,.int n]) (hc:pX qual H1 c)
  (ho:H1 f0=some (.ins g.ak dx (cN sv k t i))) (hl:(cN sv k t i).lookup m=none)
  (hb:∀ (A:Around) (outer:List Env) (s:Shared) (H:Hp) (E:XK),aV 5 (A.deeper (X1 qual kZ s.heap.objs.size f (.ref c) cl))->PE (qD (ay P w) P w K mg base yL qual kZ f (.ref c) cl A outer s H E) body (mD g.ak m sp [] (fun _=>E) (aN 0) (c9 (aN 1) bq)))
  (h:∀ E:XK,(∀ (r:Rf) H2,(∀ H',ag H2 H'->Q (.str r.word) H')->E (.ref (g.xa r)) none H2)->sp [.ref f0,.int n] H1 Q E):cu P w K mg base g [.ref f] H1 Q E:=
 Zte (sp:=fun H Q E=>H f0=some (.ins g.ak dx (cN sv k t i))/\sp [.ref f0,.int n] H Q E) hf Zv6 C hc ZpN (fun A outer s H Q E hr h=>⟨_,hb A outer s H E hr,_,rfl,f0,dx,_,rfl,h.1,hl,_,rfl,h.2⟩) fun E hE=>⟨ho,h E hE⟩
theorem vP (hf:base.get? f=some (W6 "<lambda>" qual vO body kZ cl pm c iA)) (C:yr base cl yL [.ref f0,.int n]) (hc:pX qual H1 c)
  (ho:H1 f0=some (.ins g.ak dx (cN sv k t i))) (hl:(cN sv k t i).lookup m=none) {a b:Int}
  (hb:∀ (A:Around) (outer:List Env) (s:Shared) (H:Hp) (E:XK),aV 5 (A.deeper (X1 qual kZ s.heap.objs.size f (.ref c) cl))->PE (qD (ay P w) P w K mg base yL qual kZ f (.ref c) cl A outer s H E) body (mD g.ak m sp [] (fun _=>E) (aN 0) (c9 (aN 1) (c9 (tC (.int a)) (c9 (tC (.int b)) bq)))))
  (h:∀ E:XK,(∀ (r:Rf) H2,(∀ H',ag H2 H'->Q (.str r.word) H')->E (.ref (g.xa r)) none H2)->sp [.ref f0,.int n,.int a,.int b] H1 Q E):cu P w K mg base g [.ref f] H1 Q E:=
 Zte (sp:=fun H Q E=>H f0=some (.ins g.ak dx (cN sv k t i))/\sp [.ref f0,.int n,.int a,.int b] H Q E) hf Zv6 C hc ZpN (fun A outer s H Q E hr h=>⟨_,hb A outer s H E hr,_,rfl,f0,dx,_,rfl,h.1,hl,_,rfl,h.2⟩) fun E hE=>⟨ho,h E hE⟩
end
theorem ZxM {n:Nat} {key:Nat->List Nat} (inj:∀ i j,i < n->j < n->key i=key j->i=j):Ord n (fun i j=>decide (key i < key j)):=by
 refine ⟨fun i j k _ _ _ h1 h2=>decide_eq_true (Ya6 (of_decide_eq_true h1) (of_decide_eq_true h2)),fun i j hi hj ne=>?_⟩
 by_cases h:key i < key j
 .rw [decide_eq_true h,decide_eq_false (fun z=>List.lt_irrefl _ (Ya6 h z))];rfl
 .rw [decide_eq_false h]
  by_cases h2:key j < key i
  .rw [decide_eq_true h2];rfl
  .exact absurd (inj i j hi hj (List.le_antisymm h2 h)) ne
theorem GO {a b:Str} (h:a.cps.toList=b.cps.toList):a=b:=by
 obtain ⟨x⟩:=a;obtain ⟨y⟩:=b
 have:x=y:=Array.toList_inj.mp h
 rw [this]
theorem Ztq {α:Type} {d:α} {xs:List α} {key:α->List Nat} {lt:Nat->Nat->Bool} (hl:∀ i j,i < xs.length->j < xs.length->lt i j=decide (key (xs.getD i d) < key (xs.getD j d))) (nd:(xs.map key).Nodup) (h2:2<=xs.length) :
  ((ZB lt (PySem.W.kas_sort xs.length)).toList.map fun i=>xs.getD i d).Pairwise fun a b=>key a < key b:=by
 have O':Ord xs.length (fun i j=>decide (key (xs.getD i d) < key (xs.getD j d))):=by
  refine ZxM fun i j hi hj z=>?_;rw [Ys,Ys,Yh hi,Yh hj,YD,YD] at z;have z2:(xs.map key)[i]'(by rw [Yb];exact hi)=(xs.map key)[j]'(by rw [Yb];exact hj):=by rw [Wo,Wo];exact z
  exact (Ybf nd).mp z2
 have O:Ord xs.length lt:=⟨fun i j k a b c h1 h2=>by rw [hl i k a c];rw [hl i j a b] at h1;rw [hl j k b c] at h2;exact O'.tr i j k a b c h1 h2,fun i j a b n=>by rw [hl i j a b,hl j i b a];exact O'.ap i j a b n⟩
 have u:=Zwm O (by omega) h2;have low:=tw lt (vx (n:=xs.length) (by omega));have hs:=bN.size low;rw [List.pairwise_iff_getElem];intro i j hi hj qw;rw [Yb,YH] at hi hj;have c:=u i j qw (by omega);rw [hl _ _ (bN.at low (by omega) _) (bN.at low (by omega) _)] at c;have c:=of_decide_eq_true c;rw [YE,YE,YI hi,YI hj,YD,YD] at c;rw [Wo,Wo,Yaq,Yaq];exact c
theorem ZmM {es:ao} (nd:(es.map (·.1)).Nodup):(bC es).Pairwise fun a b=>a.1.cps.toList < b.1.cps.toList:=by
 unfold bC
 split
 .rename_i h
  match es,h with
  | [],_=>exact YaV
  | [x],_=>exact Ybc _ _
 .rename_i h
  have nd2:(es.map fun p=>p.1.cps.toList).Nodup:=by
   have:(es.map fun p=>p.1.cps.toList)=(es.map (·.1)).map fun n=>n.cps.toList:=by rw [XJ];rfl
   rw [this];exact List.pairwise_map.mpr (nd.imp fun h z=>h (GO z))
  refine Ztq (key:=fun p:Str×Int=>p.1.cps.toList) (fun i j hi hj=>?_) nd2 (by omega);unfold mE
  by_cases z:(es.getD i (Str.empty,0)).1=(es.getD j (Str.empty,0)).1
  .have y:i=j:=by
    rw [Ys,Ys,Yh hi,Yh hj,YD,YD] at z;have z2:(es.map (·.1))[i]'(by rw [Yb];exact hi)=(es.map (·.1))[j]'(by rw [Yb];exact hj):=by rw [Wo,Wo];exact z
    exact (Ybf nd).mp z2
   rw [y,if_pos rfl,if_pos rfl,decide_eq_false (List.lt_irrefl _)]
  .rw [if_neg z]
theorem ZuV {es:ao} (nd:(es.map (·.1)).Nodup):((bC es).map (·.1)).Nodup:=((vB es).map _).nodup_iff.mpr nd
theorem Zsm {es:ao} (nd:(es.map (·.1)).Nodup):bC (bC es)=bC es:=
 List.Perm.eq_of_pairwise (fun a b _ _ h1 h2=>absurd (Ya6 h1 h2) (List.lt_irrefl _)) (ZmM (ZuV nd)) (ZmM nd) (vB _)
theorem Zsl {ns:List Str} (nd:ns.Nodup):(fH ns).Pairwise fun a b=>a.cps.toList < b.cps.toList:=by
 unfold fH
 split
 .rename_i h
  match ns,h with
  | [],_=>exact YaV
  | [x],_=>exact Ybc _ _
 .exact Ztq (key:=fun p:Str=>p.cps.toList) (fun i j _ _=>rfl) (List.pairwise_map.mpr (nd.imp fun h z=>h (GO z))) (by omega)
theorem Zpo:∀ (r:List Str) (x:Str),PyProof.Rows.risingS x r=true->(x::r).Pairwise fun a b=>¬ b.cps.toList < a.cps.toList
 | [],x,_=>Ybc _ _
 | y::r,x,h=>by
  rw [PyProof.Rows.risingS.eq_2,YV,PyProof.Rows.ltCps_eq] at h
  have h1:¬ y.cps.toList < x.cps.toList:=by
   intro z
   have:=h.1
   rw [decide_eq_true z] at this
   cases this
  have ih:=Zpo r y h.2;refine List.Pairwise.cons (fun b hb z=>?_) ih;rcases List.mem_cons.mp hb with e | e
  .rw [e] at z;exact h1 z
  .have h2:=(List.pairwise_cons.mp ih).1 b e
   by_cases w:b.cps.toList < y.cps.toList
   .exact h2 w
   .by_cases v:y.cps.toList < b.cps.toList
    .exact h1 (Ya6 v z)
    .have:b.cps.toList=y.cps.toList:=List.le_antisymm v w
     rw [this] at z;exact h1 z
theorem Zsk {ms ns:List Str} (hp:ms.Perm ns) (hs:PyProof.Rows.sortedS ms=true) (hr:ns.Pairwise fun a b=>a.cps.toList < b.cps.toList):ms=ns:=by
 have h1:ms.Pairwise fun a b=>¬ b.cps.toList < a.cps.toList:=by
  cases ms with
  | nil=>exact YaV
  | cons x r=>exact Zpo r x hs
 exact List.Perm.eq_of_pairwise (fun a b _ _ h1 h2=>GO (List.le_antisymm h1 h2)) h1 (hr.imp fun h z=>List.lt_irrefl _ (Ya6 h z)) hp
theorem ZtY:∀ c∈qF.cps.toList,c < 128:=by decide +kernel
theorem ZrC {t:Str} (h:eD t=true):(PyData.str t).canLay0=true:=by
 unfold PyData.canLay0;show t.cps.all (fun x=>decide (x < 1114112))=true;rw [Array.all_eq_true];intro i hi;unfold eD at h
 split at h
 .cases h
 .have hc:=List.all_eq_true.mp h i (List.mem_range.mpr hi);rw [YE,YI hi,YD] at hc;unfold va at hc;rw [PySem.StrLaws.found_one] at hc
  have:=ZtY _ (of_decide_eq_true hc)
  exact decide_eq_true (by omega)
abbrev Gh (p:Str×Int):Wd:=.tuple [.str p.1,.int p.2]
theorem Zpb {es:ao} (h:nz es):YY (.list (es.map Gh))=true:=Ju (k:=1) (fun d hd=>by
 obtain ⟨p,hp,rfl⟩:=List.mem_map.mp hd;exact Flat.tup (k:=0) (List.forall_mem_cons.mpr ⟨G' (ZrC (h p hp)),List.forall_mem_cons.mpr ⟨Dt _,fun _ h=>nomatch h⟩⟩)) (by decide)
theorem ZpT {H:Hp}:∀ {es:ao} {as:List Addr},as.length=es.length->(∀ (j:Nat) a (p:Str×Int),as[j]?=some a->es[j]?=some p->H a=some (.tup [.str p.1,.int p.2]))->dW H (as.map V.ref) (es.map Gh)
 | [],[],_,_=>.nil
 | p::es,a::as,hl,h=>.cons (.tup (h 0 a p rfl rfl) (.cons (.str _) (.cons (.int _) .nil))) (ZpT (by simpa using hl) fun j b q hb hq=>h (j + 1) b q (by simpa using hb) (by simpa using hq))
theorem ZkS {s:Str} (h:(PyData.str s).canLay0=true) (b c:Int):YY (.tuple [.str s,.int b,.int c])=true:=Zqy (Flat.tup (k:=0) (List.forall_mem_cons.mpr ⟨G' h,List.forall_mem_cons.mpr ⟨Dt _,List.forall_mem_cons.mpr ⟨Dt _,fun _ h=>nomatch h⟩⟩⟩)) (by decide)
theorem ny {K:Yf} {H:Hp} (s:Str):gx K H (.str s) (.str s):=.inl (.inl (.str s))
theorem xy {K:Yf} {H:Hp} {a:Addr} {s:Str} {b c:Int} (h:H a=some (.tup [.str s,.int b,.int c])):gx K H (.ref a) (.tuple [.str s,.int b,.int c]):=.inl (.inl (.tup h (.cons (.str _) (.cons (.int _) (.cons (.int _) .nil)))))
theorem Bv {K:Yf} {H:Hp} {a:Addr} {d:Row} (h:H a=some (.lst (d.map V.int))):gx K H (.ref a) (.list (d.map PyData.int)):=.inl (.inr ⟨a,_,_,rfl,rfl,aq.of h,GW _ d⟩)
theorem rC {K:Yf} {H:Hp} {a:Addr} {as:List Addr} {es:ao} (h:H a=some (.lst (as.map V.ref))) (hl:as.length=es.length) (hp:∀ (j:Nat) a (p:Str×Int),as[j]?=some a->es[j]?=some p->H a=some (.tup [.str p.1,.int p.2])):gx K H (.ref a) (.list (es.map Gh)):=.inl (.inr ⟨a,_,_,rfl,rfl,aq.of h,ZpT hl hp⟩)
theorem ZtJ {S:az} (hn:S.ent.length<=100) (hm:∀ p∈S.ent,p.2.length<=100):(iC S).length<=100000:=by
 have key:∀ (xs:List (Int×ao)),(∀ p∈xs,p.2.length<=100)->((xs.map fun p=>p.2.map (·.2)).flatten).length<=100 * xs.length:=by
  intro xs
  induction xs with
  | nil=>intro _;exact Yv _
  | cons p r ih=>
   intro h;rw [Yt,Xh,Yg,Yb,Yz];have h1:=h p YA;have h2:=ih fun q hq=>h q (Yr _ hq);omega
 have:=key S.ent hm
 show ((S.ent.map fun p=>p.2.map (·.2)).flatten).length<=_;omega
theorem Wf.nl {S:az} (W:Wf S):(iC S).length<=100000:=ZtJ (by have:=W.x.i6;omega) (W.x.len W.b (by decide))
structure NS (g:Gs) (tb:Addr) (qual:Str) (H0 H:Hp) (f q p b l:Addr) (F:bY):Prop where
 nx:vf qual tb H0 H
 fl:cH g (iu H tb) f q p b l F
theorem NS.lam {g:Gs} {tb:Addr} {qual:Str} {H0 H H1:Hp} {f q p b l:Addr} {F:bY} (h:NS g tb qual H0 H f q p b l F) (n:vf qual tb H H1):NS g tb qual H0 H1 f q p b l F:=⟨⟨fun b o e ne=>n.1 _ _ (h.nx.1 b o e ne) ne,n.2⟩,h.fl.same (Zv9 n.1)⟩
theorem NS.same {g:Gs} {tb:Addr} {qual:Str} {H0 H H1:Hp} {f q p b l:Addr} {F:bY} (h:NS g tb qual H0 H f q p b l F) (s:ag H H1):NS g tb qual H0 H1 f q p b l F:=by
 obtain ⟨ps,h1,h2⟩:=h.nx.2;exact ⟨⟨fun b o e ne=>s _ _ (h.nx.1 b o e ne),ps,s _ _ h1,h2.mono fun b o u e=>s _ _ e⟩,h.fl.same (Zv9 fun b o e _=>s _ _ e)⟩
theorem NS.put {g:Gs} {tb:Addr} {qual:Str} {H0 Hb H:Hp} {f q p b l x:Addr} {F:bY} {o:HO} {xs:List V} (hb:NS g tb qual H0 Hb f q p b l F) (h:NS g tb qual H0 H f q p b l F) (k:∀ b o,Hb b=some o->b≠tb->H b=some o) (n:Hb x=none) (hx:H x=some (.lst xs)):NS g tb qual H0 (upd H x o) f q p b l F:=by
 obtain ⟨ps,h1,h2⟩:=h.nx.2;have nt:tb≠x:=ZR h1 hx (by intro z;cases z);refine ⟨⟨fun b u e ne=>by rw [Zf (Zg (hb.nx.1 b u e ne) n)];exact h.nx.1 b u e ne,ps,by rw [Zf nt];exact h1,h2.mono fun b ob u e=>by rw [Zf (ZR e hx (by intro z;cases z))];exact e⟩,hb.fl.same fun b u e=>?_⟩;obtain ⟨e1,e2⟩:=kT e;exact sJ (by rw [Zf (Zg e1 n)];exact k b u e1 e2) e2
theorem NS.at {g:Gs} {tb:Addr} {qual:Str} {H0 H:Hp} {f q p b l:Addr} {F:bY} (h:NS g tb qual H0 H f q p b l F):∃ dx sv kv iv,H f=some (.ins g.ak dx (cN sv kv (.ref q) iv))/\ZA g H F.S sv/\eN g H F.k kv:=by
 obtain ⟨dx,sv,kv,iv,h⟩:=h.fl;exact ⟨dx,sv,kv,iv,(kT h.ob).1,ZA.mono _ _ _ _ (ZrN _ _) h.st,eN.mono _ _ _ _ (ZrN _ _) h.ke⟩
inductive AO (g:Gs) (vs:List V) (H:Hp) (Q:VK) (aL:XK):Prop
 | mk (f:_) (q:_) (p:_) (b:_) (l:_) (F:_) (n:_) (ps:_):vs=[.ref f,.int n,.int ((cnt F.S.ent n:Nat):Int)]->cH g (iu H g.Zk) f q p b l F->jJ F->H g.Zk=some (.cO ps)->nY (lq "_law_number_right") H ps->(∀ H',vf (lq "_law_number_right") g.Zk H H'->Q (.bl true) H')->AO g vs H Q aL
theorem yn:Zp ["_law_files","_law_number","_law_links","_law_told_here","_law_held","_law_entries","_law_kept"] ["_law_files","_law_number","_law_links"] (Zi Av):=ZN (by decide +kernel)
theorem Zgq (T:Tx K mg g) (hB:BT fM K mg base):ah P w K mg base (ay P w) 9 g.aZ g.bc ["_law_files","_law_number","_law_links"] (AO g):=by
 refine T.Eh.okC yn (fun vs H Q E h=>?_) (fun aY A outer s H vs Q E j3 hr h=>?_)
 .obtain ⟨f,q0,p,b,l,F,n,ps,rfl,_⟩:=h;rfl
 .obtain ⟨f,q0,p,b,l,F,n,ps,rfl,cM,fo,Fe,Mw,q⟩:=h;have kF:=hB.cd "_law_number_right" (by decide +kernel) _ _ T.Zk;have hc:aY=.ref g.Zcx:=j3.symm.trans (ZuA T.Zgr T.Eh T.Zk);have dI:=hr.units;have nl:=fo.s.nl;have N0:NS g g.Zk (lq "_law_number_right") H H f q0 p b l F:=⟨⟨fun _ _ e _=>e,ps,Fe,Mw⟩,cM⟩
  refine ⟨_,(Zd (Zz (i:=3) yn.nd rfl (Or.inl rfl) (CL (spT:=fun b=>cu P w K mg b g) (fv:=["_law_files","_law_number"]) (ix:=[0,1]) (P:=g.Zk) (fun b=>D0 T) hr.dn rfl T.DN T.yl.kp T.bQ Zc hc kF hB.bm (ot (sc:=Zi Av) (N:=["_law_files","_law_number","_law_links","_law_told_here","_law_held","_law_entries","_law_kept"]) rfl rfl (by decide +kernel)) ⟨rfl,rfl,rfl,by decide +kernel,by decide +kernel,by decide +kernel⟩ (fun _=>rfl) rfl))
   (Zd (Zz (i:=4) yn.nd rfl (Or.inl rfl) (CL (spT:=fun b=>cu P w K mg b g) (fv:=["_law_files","_law_number"]) (ix:=[0,1]) (P:=g.Zk) (fun b=>D0 T) hr.dn rfl T.DN T.yl.kp T.bQ Zc hc kF hB.bm (ot (sc:=Zi Av) (N:=["_law_files","_law_number","_law_links","_law_told_here","_law_held","_law_entries","_law_kept"]) rfl rfl (by decide +kernel)) ⟨rfl,rfl,rfl,by decide +kernel,by decide +kernel,by decide +kernel⟩ (fun _=>rfl) rfl))
   (Zd (Zz (i:=5) yn.nd rfl (Or.inl rfl) (CL (spT:=fun b=>cu P w K mg b g) (fv:=["_law_files","_law_number"]) (ix:=[0,1]) (P:=g.Zk) (fun b=>D0 T) hr.dn rfl T.DN T.yl.kp T.bQ Zc hc kF hB.bm (ot (sc:=Zi Av) (N:=["_law_files","_law_number","_law_links","_law_told_here","_law_held","_law_entries","_law_kept"]) rfl rfl (by decide +kernel)) ⟨rfl,rfl,rfl,by decide +kernel,by decide +kernel,by decide +kernel⟩ (fun _=>rfl) rfl))
   (Zd (Z0 (ZG (sy dI) (pv 3) Zr (ZO _)) (Zh (Zt (CK (oh (sy dI) (pv 4) Zr (ZO _)) (CK (oh (sy dI) (pv 5) Zr (ZO _)) (CM (oh fU (pv 2) Zl (ZO _))))))) Zx)
   (Zd (Z0 (ZG fU (bw jI (pv 3) Zl (fun _ _=>rfl)) Zr (ZO _)) (Zd (Z0 (PW.pt (nW (ZG (zJ dI) (pv 5) Zr (ZO _)) (sG (ZG (zJ dI) (pv 3) (dH (Za Zr (Za (pv 2) (Za (ZD ZI (by rfl) T.eL YC (Za (pv 4) Ze)) Ze)))) (ZO _))))) (Zh (Zt pQ)) Zx)
   (Zd (Zz (i:=6) yn.nd rfl (Or.inl rfl) (ZT DV rfl T.pT PyProof.Rows.Boot.«list» (Za (pv 4) Ze)))
   (Zd (ZC (lR YR Xl Xk qT (pv 4) (Za Zl Ze)))
   (Zh (Zt (oh (sy dI) (ZP (pv 0) T.Zq T.DW (D9 T) hr.dn T.bH .nil Zc (Za (pv 1) (Za Zl (Za Zl Ze)))) (pv 6) (ZO _))))))) Zx)
   (Zd (Z0 (PW.pt (nW (ZG (zJ dI) (pv 4) Zr (ZO _)) (nW (ZG (zJ dI) (pv 3) (dH (Za Zr (Za Zl (Za (Zy ni Zl (ZD ZI (by rfl) T.eL YC (Za (pv 5) Ze))) Ze)))) (ZO _)) (sG (ZG (zJ dI) (pv 5) (ZD Zqh (by rfl) T.vv PyProof.Rows.Boot.«sorted» (Za (pv 5) Ze)) (ZO _)))))) (Zh (Zt pQ)) Zx)
   (Zd (Zz (i:=6) yn.nd rfl (Or.inl rfl) (ZT DV rfl T.pT PyProof.Rows.Boot.«list» (Za (pv 5) Ze)))
   (Zd (ZC (lR YR Xl Xk qT (pv 5) (Za (dH (Za Zr (Za Zl Ze))) Ze)))
   (Zh (Zt (CK (oh (sy dI) (ZP (pv 0) T.Zq T.Ao (Al T) hr.dn T.bf .nil Zc (Za (pv 1) Ze)) (pv 6) (ZO _)) (CM (oh fU (pv 2) (ZT Zqk rfl T.Zxl PyProof.Rows.Boot.«int» (Za (oh uY (pv 1) Zl (ZO _)) Ze)) (ZO _)))))))))))))),?_⟩
  cases jN:ZE F.S n with
  | false=>
   obtain ⟨yD,iY,mv⟩:=N0.nx.2;refine ⟨yD,[.ref f,.int n],iY,mv,rfl,fun b1 f1 c1 FZ EO FY L1 uh iw nO C1=>?_⟩;have M1:=N0.lam uh;obtain ⟨i8,qi,qm,qo,gX,ub,_⟩:=M1.at;refine k6 nO C1 iw gX (Z6 _ _ _ _) (fun A outer s H E hr=>ZP (pv 0) T.Zq T.DX (D_ T) hr.dn T.bG .nil qd (Za (pv 1) Ze)) fun E1 zv=>⟨f,i8,qi,qm,_,qo,F.S,n,rfl,gX,ub,nl,?_⟩
   rw [jN,if_neg (by decide)];refine fun H1 s1=>zv .aA H1 fun J1 t1=>?_;have N1:=M1.same (s1.trans t1);obtain ⟨yC,eI,dY⟩:=N1.nx.2;refine ⟨yC,[.ref f,.int n],eI,dY,rfl,fun b2 f2 c2 cl2 pm2 ct2 L2 ug jO zh C2=>?_⟩;have M2:=N1.lam ug;obtain ⟨iz,t9,uj,um,mr,kO,_⟩:=M2.at;refine vP zh C2 jO mr (Z6 _ _ _ _) (fun A outer s H E hr=>ZP (pv 0) T.Zq T.DW (D9 T) hr.dn T.bH .nil qd (Za (pv 1) (Za Zl (Za Zl Ze)))) fun E2 Cu=>⟨f,iz,t9,uj,_,um,F.S,n,0,700,rfl,mr,kO,by decide,by decide,?_⟩
   rw [show fj F.S n=.error .aA by unfold fj;rw [jN];rfl];refine fun H2 s2=>Cu .aA H2 fun J2 t2=>?_;have N2:=M2.same (s2.trans t2);obtain ⟨yB,pI,jD⟩:=N2.nx.2;refine ⟨yB,[.ref f,.int n],pI,jD,rfl,fun b3 f3 c3 cl3 pm3 ct3 L3 ql uG zg C3=>?_⟩;have M3:=N2.lam ql;obtain ⟨nU,yw,yM,yP,rM,rJ,_⟩:=M3.at;refine k6 zg C3 uG rM (Z6 _ _ _ _) (fun A outer s H E hr=>ZP (pv 0) T.Zq T.Ao (Al T) hr.dn T.bf .nil qd (Za (pv 1) Ze)) fun E3 Ct=>⟨f,nU,yw,yM,_,yP,F.S,n,rfl,rM,rJ,fo.s.ok,?_⟩
   rw [show kM F.S n=.error .aA by unfold kM;rw [jN];rfl];refine fun H3 s3=>Ct .aA H3 fun J3 t3=>?_;have N3:=M3.same (s3.trans t3)
   have c0:cnt F.S.ent n=0:=by
    cases z:cnt F.S.ent n with
    | zero=>rfl
    | succ k=>have:=fo.s.x.nm n (by omega);rw [jN] at this;cases this
   have hw:YY (.str "NoThing")=true:=by decide +kernel
   refine ⟨_,rfl,_,_,ny _,ny _,hw,hw,_,rfl,?_⟩;rw [show Rf.word .aA="NoThing" from rfl,Z3 hw];refine ax ⟨_,rfl,_,_,ny _,ny _,hw,hw,_,rfl,?_⟩;rw [Z3 hw];refine ax ⟨_,rfl,_,_,ny _,ny _,hw,hw,_,rfl,?_⟩;rw [Z3 hw];refine ax ⟨_,rfl,rfl,?_⟩;rw [c0];exact q _ N3.nx
  | true=>
   cases i4:aa F.S.ent n with
   | none=>
    have qx:∃ d,aa F.S.dat n=some d:=by
     unfold ZE at jN;rw [i4,X4,Xs] at jN;exact Option.isSome_iff_exists.mp jN
    obtain ⟨d,qx⟩:=qx;have zk:=fo.s.x.row n d qx;have e1:kindOf F.S n="file":=by unfold kindOf;rw [i4];rfl
    have e2:vm F.S n=((cnt F.S.ent n:Nat):Int):=by unfold vm;rw [i4];rfl
    have e3:vd F.S n=((d.length:Nat):Int):=by unfold vd;rw [i4,qx];rfl
    obtain ⟨yD,iY,mv⟩:=N0.nx.2;refine ⟨yD,[.ref f,.int n],iY,mv,rfl,fun b1 f1 c1 FZ EO FY L1 uh iw nO C1=>?_⟩;have M1:=N0.lam uh;obtain ⟨i8,qi,qm,qo,gX,ub,_⟩:=M1.at;refine k6 nO C1 iw gX (Z6 _ _ _ _) (fun A outer s H E hr=>ZP (pv 0) T.Zq T.DX (D_ T) hr.dn T.bG .nil qd (Za (pv 1) Ze)) fun E1 zv=>⟨f,i8,qi,qm,_,qo,F.S,n,rfl,gX,ub,nl,?_⟩
    rw [jN,if_pos rfl,e1,e2,e3];intro tt H1 s1 yV;have N1:=M1.same s1;obtain ⟨yC,eI,dY⟩:=N1.nx.2;refine ⟨yC,[.ref f,.int n],eI,dY,rfl,fun b2 f2 c2 cl2 pm2 ct2 L2 ug jO zh C2=>?_⟩;have M2:=N1.lam ug;obtain ⟨iz,t9,uj,um,mr,kO,_⟩:=M2.at;refine vP zh C2 jO mr (Z6 _ _ _ _) (fun A outer s H E hr=>ZP (pv 0) T.Zq T.DW (D9 T) hr.dn T.bH .nil qd (Za (pv 1) (Za Zl (Za Zl Ze)))) fun E2 Cu=>⟨f,iz,t9,uj,_,um,F.S,n,0,700,rfl,mr,kO,by decide,by decide,?_⟩
    rw [show fj F.S n=.ok d by unfold fj;rw [jN,if_pos rfl,i4,qx];rfl];dsimp only;rw [show (d.drop (0:Int).toNat).take (700:Int).toNat=d from by rw [show (0:Int).toNat=0 from rfl,YaI];exact YS (Yk zk (by decide))];intro l2 H2 s2 n2 cL;have N2:=M2.same s2;obtain ⟨yB,pI,jD⟩:=N2.nx.2;refine ⟨yB,[.ref f,.int n],pI,jD,rfl,fun b3 f3 c3 cl3 pm3 ct3 L3 ql uG zg C3=>?_⟩;have M3:=N2.lam ql;obtain ⟨nU,yw,yM,yP,rM,rJ,_⟩:=M3.at;refine k6 zg C3 uG rM (Z6 _ _ _ _) (fun A outer s H E hr=>ZP (pv 0) T.Zq T.Ao (Al T) hr.dn T.bf .nil qd (Za (pv 1) Ze)) fun E3 Ct=>⟨f,nU,yw,yM,_,yP,F.S,n,rfl,rM,rJ,fo.s.ok,?_⟩
    rw [show kM F.S n=.error .wrongKind by unfold kM;rw [jN,if_pos rfl,qx]];refine fun H3 s3=>Ct .wrongKind H3 fun J3 t3=>?_;have u3:=s3.trans t3;have N3:=M3.same u3;have iF:∀ {H:Hp} {a:Addr} {o:HO} {qs:Array Value},H g.Zk=some (.cO qs)->H a=some o->(∀ qs,o≠.cO qs)->a≠g.Zk:=fun h1 h2 h3 z=>by rw [z,h1] at h2;cases h2;exact h3 _ rfl
    have oF:=s2 _ _ (ug.1 _ _ yV (iF eI yV (by intro _ z;cases z)));have k8:=u3 _ _ (ql.1 _ _ oF (iF pI oF (by intro _ z;cases z)));have g9:=u3 _ _ (ql.1 _ _ cL (iF pI cL (by intro _ z;cases z)));have E8:YY (.str "NoThing")=true:=by decide +kernel
    have uq:YY (.str "WrongKind")=true:=by decide +kernel
    have cP:YY (.tuple [.str "file",.int ((cnt F.S.ent n:Nat):Int),.int ((d.length:Nat):Int)])=true:=ZkS (by decide +kernel) _ _;refine ⟨_,rfl,_,_,xy k8,ny _,cP,E8,_,rfl,av ?_⟩;refine ⟨_,rfl,tt,_,_,_,rfl,rfl,aF.of k8,Cz _ _,rfl,_,rfl,jW ?_⟩;refine ⟨_,rfl,_,_,ny _,ny _,uq,uq,_,rfl,?_⟩;rw [show Rf.word .wrongKind="WrongKind" from rfl,Z3 uq];refine av ⟨_,rfl,_,rfl,_,rfl,l2,_,rfl,.inl (aq.of g9),aX 3,fun tu ER=>?_⟩;rw [Yb];have s4:=Zj (o:=.tup [.str "file",.int ((cnt F.S.ent n:Nat):Int),.int ((d.length:Nat):Int)]) ER;refine ⟨_,_,xy (s4 _ _ k8),xy Zb,cP,cP,_,rfl,?_⟩;rw [Z3 cP];have N4:=N3.same s4;have my:=s4 _ _ g9;generalize upd J3 tu _=H4 at s4 N4 my ⊢;refine av ⟨_,rfl,l2,_,rfl,.inl (aq.of my),fun l6 n6=>?_⟩;have s5:=Zj (o:=.lst (d.map V.int)) n6;have N5:=N4.same s5;have f_:=s5 _ _ my;have rY:(upd H4 l6 (.lst (d.map V.int))) l6=some (.lst (d.map V.int)):=Zb;have n26:l6≠l2:=fun z=>by rw [z,my] at n6;cases n6
    generalize upd H4 l6 (.lst (d.map V.int))=H5 at s5 N5 f_ rY ⊢;refine ⟨_,rfl,.inl ⟨rfl,_,aq.of f_⟩,l2,_,_,rfl,rfl,f_,(by rw [Yb];exact Zs (m:=601) (Y4 zk) (by decide)),?_⟩;have N6:=M2.put N5 (o:=.lst (d.map V.int++[.int 1])) (fun b o e ne=>s5 _ _ (s4 _ _ (u3 _ _ (ql.1 _ _ (s2 _ _ e) ne)))) n2 f_;have qu:(upd H5 l2 (.lst (d.map V.int++[.int 1]))) l6=some (.lst (d.map V.int)):=by rw [Zf n26];exact rY
    generalize upd H5 l2 _=H6 at N6 qu ⊢;obtain ⟨xl,sv6,kv6,iv6,ob6,st6,_⟩:=N6.at;refine ⟨_,rfl,f,xl,_,rfl,ob6,Z6 _ _ _ _,_,rfl,f,xl,sv6,kv6,_,iv6,F.S,n,0,700,rfl,ob6,st6,by decide,by decide,?_⟩;rw [show fj F.S n=.ok d by unfold fj;rw [jN,if_pos rfl,i4,qx];rfl];dsimp only;rw [show (d.drop (0:Int).toNat).take (700:Int).toNat=d from by rw [show (0:Int).toNat=0 from rfl,YaI];exact YS (Yk zk (by decide))];intro l8 H8 s8 _ za;refine ⟨_,rfl,_,_,Bv za,Bv (s8 _ _ qu),DP d,DP d,?_⟩;rw [Z3 (DP d)];exact q _ (N6.same s8).nx
   | some es=>
    have qx:aa F.S.dat n=none:=fo.s.x.dj n (by rw [i4];rfl);obtain ⟨wX,y9⟩:=fo.s.x.es n es i4;have cj:=fo.s.b n es i4;have nJ:(bC es).length=es.length:=(vB es).length_eq;have MH:nz (bC es):=fun p hp=>wX p ((vB es).mem_iff.mp hp);have hcn:=fo.s.x.one n (by rw [i4];rfl);have e1:kindOf F.S n="dir":=by unfold kindOf;rw [i4];rfl
    have e2:vm F.S n=1:=by unfold vm;rw [i4];rfl
    have e3:vd F.S n=10 * ((es.length:Nat):Int):=by unfold vd;rw [i4]
    have een:kM F.S n=.ok es:=by unfold kM;rw [jN,if_pos rfl,qx,i4];rfl
    obtain ⟨yD,iY,mv⟩:=N0.nx.2;refine ⟨yD,[.ref f,.int n],iY,mv,rfl,fun b1 f1 c1 FZ EO FY L1 uh iw nO C1=>?_⟩;have M1:=N0.lam uh;obtain ⟨i8,qi,qm,qo,gX,ub,_⟩:=M1.at;refine k6 nO C1 iw gX (Z6 _ _ _ _) (fun A outer s H E hr=>ZP (pv 0) T.Zq T.DX (D_ T) hr.dn T.bG .nil qd (Za (pv 1) Ze)) fun E1 zv=>⟨f,i8,qi,qm,_,qo,F.S,n,rfl,gX,ub,nl,?_⟩
    rw [jN,if_pos rfl,e1,e2,e3];intro tt H1 s1 yV;have N1:=M1.same s1;obtain ⟨yC,eI,dY⟩:=N1.nx.2;refine ⟨yC,[.ref f,.int n],eI,dY,rfl,fun b2 f2 c2 cl2 pm2 ct2 L2 ug jO zh C2=>?_⟩;have M2:=N1.lam ug;obtain ⟨iz,t9,uj,um,mr,kO,_⟩:=M2.at;refine vP zh C2 jO mr (Z6 _ _ _ _) (fun A outer s H E hr=>ZP (pv 0) T.Zq T.DW (D9 T) hr.dn T.bH .nil qd (Za (pv 1) (Za Zl (Za Zl Ze)))) fun E2 Cu=>⟨f,iz,t9,uj,_,um,F.S,n,0,700,rfl,mr,kO,by decide,by decide,?_⟩
    rw [show fj F.S n=.error .wrongKind by unfold fj;rw [jN,if_pos rfl,i4]];refine fun H2 s2=>Cu .wrongKind H2 fun J2 t2=>?_;have u2:=s2.trans t2;have N2:=M2.same u2;obtain ⟨yB,pI,jD⟩:=N2.nx.2;refine ⟨yB,[.ref f,.int n],pI,jD,rfl,fun b3 f3 c3 cl3 pm3 ct3 L3 ql uG zg C3=>?_⟩;have M3:=N2.lam ql;obtain ⟨nU,yw,yM,yP,rM,rJ,_⟩:=M3.at;refine k6 zg C3 uG rM (Z6 _ _ _ _) (fun A outer s H E hr=>ZP (pv 0) T.Zq T.Ao (Al T) hr.dn T.bf .nil qd (Za (pv 1) Ze)) fun E3 Ct=>⟨f,nU,yw,yM,_,yP,F.S,n,rfl,rM,rJ,fo.s.ok,?_⟩
    rw [een];intro l3 H3 s3 n3 ⟨as,g9,lL,Fs⟩;have N3:=M3.same s3;have iF:∀ {H:Hp} {a:Addr} {o:HO} {qs:Array Value},H g.Zk=some (.cO qs)->H a=some o->(∀ qs,o≠.cO qs)->a≠g.Zk:=fun h1 h2 h3 z=>by rw [z,h1] at h2;cases h2;exact h3 _ rfl
    have oF:=u2 _ _ (ug.1 _ _ yV (iF eI yV (by intro _ z;cases z)));have k8:=s3 _ _ (ql.1 _ _ oF (iF pI oF (by intro _ z;cases z)));have E8:YY (.str "NoThing")=true:=by decide +kernel
    have uq:YY (.str "WrongKind")=true:=by decide +kernel
    have cP:YY (.tuple [.str "dir",.int 1,.int (10 * ((es.length:Nat):Int))])=true:=ZkS (by decide +kernel) _ _;have fe:=Zpb MH;refine ⟨_,rfl,_,_,xy k8,ny _,cP,E8,_,rfl,av ?_⟩;refine ⟨_,rfl,tt,_,_,_,rfl,rfl,aF.of k8,Cz _ _,rfl,_,rfl,bj (by decide +kernel) ?_⟩;refine ⟨_,rfl,_,_,ny _,ny _,uq,uq,_,rfl,?_⟩;rw [show Rf.word .wrongKind="WrongKind" from rfl,Z3 uq];refine av ⟨_,rfl,_,rfl,l3,_,rfl,.inl (aq.of g9),_,_,rfl,rfl,.inl ⟨by decide,by decide⟩,aX 3,fun tu ER=>?_⟩;rw [Yb,lL,nJ];have s4:=Zj (o:=.tup [.str "dir",.int 1,.int (10 * ((es.length:Nat):Int))]) ER;refine ⟨_,_,xy (s4 _ _ k8),xy Zb,cP,cP,_,rfl,?_⟩;rw [Z3 cP];have N4:=N3.same s4;have my:=s4 _ _ g9;have rq:∀ (j:Nat) a (p:Str×Int),as[j]?=some a->(bC es)[j]?=some p->(upd H3 tu (.tup [.str "dir",.int 1,.int (10 * ((es.length:Nat):Int))])) a=some (.tup [.str p.1,.int p.2]):=fun j a p h1 h2=>s4 _ _ (Fs j a p h1 h2);generalize upd H3 tu _=H4 at s4 N4 my rq ⊢;refine av ⟨_,rfl,_,rfl,l3,as,bC es,rfl,.inl my,lL,rq,by omega,fun l5 outs n5 ho5 hp5=>?_⟩;rw [Zsm y9] at ho5 hp5;have s5:=Zj (o:=.lst (outs.map V.ref)) n5;refine ⟨_,_,rC (s5 _ _ my) lL (fun j a p h1 h2=>s5 _ _ (rq j a p h1 h2)),rC Zb ho5 (fun j a p h1 h2=>s5 _ _ (hp5 j a p h1 h2)),fe,fe,_,rfl,?_⟩;rw [Z3 fe];have N5:=N4.same s5;have f_:=s5 _ _ my;have Bu:∀ (j:Nat) a (p:Str×Int),as[j]?=some a->(bC es)[j]?=some p->(upd H4 l5 (.lst (outs.map V.ref))) a=some (.tup [.str p.1,.int p.2]):=fun j a p h1 h2=>s5 _ _ (rq j a p h1 h2);generalize upd H4 l5 _=H5 at s5 N5 f_ Bu ⊢;refine av ⟨_,rfl,l3,_,rfl,.inl (aq.of f_),fun l6 n6=>?_⟩;have s6:=Zj (o:=.lst (as.map V.ref)) n6;have N6:=N5.same s6;have rY:=s6 _ _ f_;have hk6:(upd H5 l6 (.lst (as.map V.ref))) l6=some (.lst (as.map V.ref)):=Zb;have Bt:∀ (j:Nat) a (p:Str×Int),as[j]?=some a->(bC es)[j]?=some p->(upd H5 l6 (.lst (as.map V.ref))) a=some (.tup [.str p.1,.int p.2]):=fun j a p h1 h2=>s6 _ _ (Bu j a p h1 h2);have n36:l6≠l3:=fun z=>by rw [z,f_] at n6;cases n6
    generalize upd H5 l6 _=H6 at s6 N6 rY hk6 Bt ⊢;refine ⟨_,rfl,.inl ⟨rfl,_,aq.of rY⟩,aX 2,fun t7 n7=>?_⟩;have s7:=Zj (o:=.tup [.str "x",.int 1]) n7;have N7:=N6.same s7;have qu:=s7 _ _ rY;have hk7:=s7 _ _ hk6;have Bs:∀ (j:Nat) a (p:Str×Int),as[j]?=some a->(bC es)[j]?=some p->(upd H6 t7 (.tup [.str "x",.int 1])) a=some (.tup [.str p.1,.int p.2]):=fun j a p h1 h2=>s7 _ _ (Bt j a p h1 h2);generalize upd H6 t7 _=H7 at s7 N7 qu hk7 Bs ⊢;refine ⟨l3,_,_,rfl,rfl,qu,(by rw [Yb,lL,nJ];exact Zs (m:=600) (by omega) (by decide)),?_⟩;have N8:=M3.put N7 (o:=.lst (as.map V.ref++[.ref t7])) (fun b o e ne=>s7 _ _ (s6 _ _ (s5 _ _ (s4 _ _ (s3 _ _ e))))) n3 qu;have hk8:(upd H7 l3 (.lst (as.map V.ref++[.ref t7]))) l6=some (.lst (as.map V.ref)):=by rw [Zf n36];exact hk7
    have Br:∀ (j:Nat) a (p:Str×Int),as[j]?=some a->(bC es)[j]?=some p->(upd H7 l3 (.lst (as.map V.ref++[.ref t7]))) a=some (.tup [.str p.1,.int p.2]):=fun j a p h1 h2=>by
     have z:=Bs j a p h1 h2;rw [Zf (ZR z qu (by intro y;cases y))];exact z
    generalize upd H7 l3 _=H8 at N8 hk8 Br ⊢;obtain ⟨dx8,sv8,kv8,iv8,ob8,st8,_⟩:=N8.at;refine ⟨_,rfl,f,dx8,_,rfl,ob8,Z6 _ _ _ _,_,rfl,f,dx8,sv8,kv8,_,iv8,F.S,n,rfl,ob8,st8,fo.s.ok,?_⟩;rw [een];intro l9 H9 s9 _ ⟨as9,pJ,MT,MS⟩;refine ⟨_,rfl,_,_,rC pJ MT MS,rC (s9 _ _ hk8) lL (fun j a p h1 h2=>s9 _ _ (Br j a p h1 h2)),fe,fe,_,rfl,?_⟩;rw [Z3 fe];refine ax ⟨_,rfl,_,rfl,_,_,rfl,rfl,.inr ⟨_,rfl,rfl,?_⟩⟩
    have fin:V.int ((cnt F.S.ent n:Nat):Int)=V.int (if decide ((0:Int) < n)=true then 1 else 0):=by
     rw [hcn];have h0:=(fo.s.x.rg n jN).1
     by_cases z:n=0
     .rw [if_pos z,z];rfl
     .rw [if_neg z,if_pos (decide_eq_true (by omega))];rfl
    rw [decide_eq_true fin];exact q _ (N8.same s9).nx
def okB {ε α:Type}:Except ε α->Bool
 | .ok _=>true
 | .error _=>false
theorem ZwK {ε α:Type} {m:Except ε α} (h:okB m=true):∃ x,m=.ok x:=by
 cases m with
 | ok x=>exact ⟨x,rfl⟩
 | error _=>cases h
def cJ:nE:=match vk ja [] (qN 256 []) [] with
 | .ok I=>I
 | .error _=>⟨[],[]⟩
theorem ZyS:okB (vk ja [] (qN 256 []) [])=true:=by decide +kernel
theorem ZwX:vk ja [] (qN 256 []) []=.ok cJ:=by
 obtain ⟨I,hI⟩:=ZwK ZyS
 have:cJ=I:=by unfold cJ;rw [hI]
 rw [this,hI]
def ZvX (pl:g4):Bool:=decide (pl.length<=100) && pl.all (fun p=>decide (p.2≠[]) && decide (p.2.length<=100) && p.2.all fun n=>decide (0<=n) && decide (n < 200)) && decide ((pl.map (·.2)).flatten.length<=1000)
theorem ZyN:ZvX cJ.places=true:=by decide +kernel
theorem ZyX:decide (cJ.heads.length<=1000)=true:=by decide +kernel
theorem kX:cJ.places.length<=1000/\(∀ p∈cJ.places,p.2≠[]/\p.2.length<=1000/\∀ n∈p.2,0<=n/\n < (256:Int))/\(cJ.places.map (·.2)).flatten.length<=1000:=by
 have h:=ZyN;unfold ZvX at h;rw [YV,YV,decide_eq_true_iff,decide_eq_true_iff] at h;refine ⟨by omega,fun p hp=>?_,h.2⟩
 have:=List.all_eq_true.mp h.1.2 p hp
 rw [YV,YV,decide_eq_true_iff,decide_eq_true_iff] at this;refine ⟨this.1.1,by omega,fun n hn=>?_⟩
 have:=List.all_eq_true.mp this.2 n hn
 rw [YV,decide_eq_true_iff,decide_eq_true_iff] at this;omega
theorem Zyq:m_ cJ.places:=⟨kX.1,fun p hp=>(kX.2.1 p hp).1,by have:=kX.2.2;omega⟩
def ic:dg:=⟨List.replicate 256 (some iE),[]⟩
theorem CC (D:dg) (n:Int) (b:Option Row):(D.write n b).blocks.length=D.blocks.length:=Ybw ..
theorem Zyk {D:dg} (h:D.blocks.length=256):qM D=256:=by unfold qM;rw [h];rfl
theorem Zt7:qO lT (ic.write 1 (some iE)) ja []=.ok cJ:=by
 unfold qO;rw [Zyk (by rw [CC];exact YM ..)];exact ZwX
theorem Zx2:F7 (ic.write 1 (some iE)) cJ:=by
 refine ⟨kX.1,of_decide_eq_true ZyX,fun p hp=>?_,by have:=kX.2.2;omega⟩;rw [CC,show ic.blocks.length=256 from YM ..];exact kX.2.1 p hp
structure At (S:az) (F:bY):Prop where
 s:F.S=S
 k:F.k=[]
 t:F.T.synced=cJ.places
 d:F.D.blocks.length=256
theorem ZqZ:∃ F,C5 ic=.ok F/\At ja F:=by
 refine ⟨⟨ja,[],(qE lT (ic.write 1 (some iE)) cJ).1,(qE lT (ic.write 1 (some iE)) cJ).2,cJ⟩,?_,rfl,rfl,rfl,?_⟩
 .unfold C5;rw [Zt7]
 .show (qE lT (ic.write 1 (some iE)) cJ).2.blocks.length=256;have e:=(CN lT.synced cJ.places (ic.write 1 (some iE)) fun p hp=>(kX.2.1 p hp).1).1;unfold qE;show ((dg.write _ _ _).blocks).length=256;rw [CC];show ((cJ.places.foldl (lU lT.synced) (ic.write 1 (some iE))).blocks).length=256;rw [e,CC];exact YM ..
theorem wf0:Wf ja:=by
 have g:∀ n,aa ja.ent n=if n=0 then some [] else none:=fun n=>by
  by_cases z:n=0
  .rw [if_pos z,z];rfl
  .rw [if_neg z];exact ZZ (fun e=>z e.symm)
 have gd:∀ n,aa ja.dat n=none:=fun n=>rfl;refine ⟨⟨YaH,by decide,fun n _=>gd n,fun n e=>?_,rfl,fun n r e=>(nomatch e),fun n es e=>?_,fun n e=>absurd e (YN _),fun n e=>?_⟩,fun n es e=>?_⟩
 .unfold ZE at e;rw [gd,g] at e
  by_cases z:n=0
  .rw [z];decide
  .rw [if_neg z] at e;cases e
 .rw [g] at e
  by_cases z:n=0
  .rw [if_pos z] at e;cases e;exact ⟨(fun p hp=>absurd hp X3),YaH⟩
  .rw [if_neg z] at e;cases e
 .rw [g] at e
  by_cases z:n=0
  .rw [if_pos z];rfl
  .rw [if_neg z] at e;cases e
 .rw [g] at e
  by_cases z:n=0
  .rw [if_pos z] at e;cases e;exact Yv _
  .rw [if_neg z] at e;cases e
theorem fo0 {F:bY} (h:At ja F):jJ F:=⟨by rw [h.s];exact wf0,by rw [h.k];decide,by rw [h.k];exact YaH,fun n S e=>(by rw [h.k] at e;cases e),by rw [h.t];exact Zyq⟩
def mZ (E:List (Int×ao)) (n k:Int):Nat:=match aa E k with
 | some es=>bb es n
 | none=>0
def pre (E:List (Int×ao)) (n:Int):Nat->Nat
 | 0=>0
 | i + 1=>pre E n i + mZ E n (i:Int)
theorem ZvN {p:Int×ao} {r:List (Int×ao)} {n k:Int}:mZ (p::r) n k=if p.1=k then bb p.2 n else mZ r n k:=by
 unfold mZ
 by_cases z:p.1=k
 .rw [gj z,if_pos z]
 .rw [ZZ z,if_neg z]
theorem Zrq {p:Int×ao} {r:List (Int×ao)} {n:Int} (h0:0<=p.1) (hn:¬ p.1∈r.map (·.1)):∀ i:Nat,pre (p::r) n i=pre r n i + if p.1 < (i:Int) then bb p.2 n else 0
 | 0=>by rw [if_neg (by omega)];rfl
 | i + 1=>by
  show pre (p::r) n i + mZ (p::r) n (i:Int)=pre r n i + mZ r n (i:Int) + _;rw [Zrq h0 hn i,ZvN]
  by_cases z:p.1=(i:Int)
  .have c:mZ r n (i:Int)=0:=by
    unfold mZ
    cases q:aa r (i:Int) with
    | none=>rfl
    | some es=>exact absurd (HC q) (by rw [<- z];exact hn)
   rw [if_pos z,if_neg (by omega),if_pos (by omega),c]
   try omega
  .rw [if_neg z]
   by_cases y:p.1 < (i:Int)
   .rw [if_pos y,if_pos (by omega)];omega
   .rw [if_neg y,if_neg (by omega)];omega
theorem Ztt {n:Int}:∀ {E:List (Int×ao)},(E.map (·.1)).Nodup->(∀ k∈E.map (·.1),0<=k/\k < 32)->pre E n 32=cnt E n
 | [],_,_=>rfl
 | p::r,nd,h=>by
  rw [Yt,Yay] at nd;have hp:=h p.1 YA;rw [Zrq hp.1 nd.1,if_pos (show p.1 < ((32:Nat):Int) from hp.2),xT,Ztt nd.2 fun k hk=>h k (Yr _ hk)];omega
theorem Wf.pre {S:az} (W:Wf S) (n:Int):pre S.ent n 32=cnt S.ent n:=Ztt W.x.ke fun k hk=>W.x.rg k (by unfold ZE;rw [xO hk,WX])
theorem Zqe (es:ao) (n:Int):bb (bC es) n=bb es n:=List.Perm.count_eq (List.Perm.map (fun p:Str×Int=>p.2) (vB es)) n
theorem ZuB {xs:ao} {j:Nat} {p:Str×Int} (h:xs[j]?=some p) (n:Int):bb (xs.take (j + 1)) n=bb (xs.take j) n + if n=p.2 then 1 else 0:=by
 rw [List.take_add_one,h];unfold bb;rw [Yw,YaU]
 congr 1
 show List.count n [p.2]=_;rw [List.count_singleton]
 by_cases z:n=p.2
 .rw [if_pos z,if_pos (by rw [z];exact beq_self_eq_true _)]
 .rw [if_neg z,if_neg (by intro e;exact z (beq_iff_eq.mp e).symm)]
def LD (kvs:List (Key×V)) (c:Int->Nat):Prop:=∀ n:Int,(aW kvs (X8 n)).getD (.int 0)=.int ((c n:Nat):Int)
theorem LD.put {kvs:List (Key×V)} {c:Int->Nat} (h:LD kvs c) (m:Int):LD (putK kvs (X8 m) (.int (((c m:Nat):Int) + 1))) (fun n=>c n + if n=m then 1 else 0):=fun n=>by
 rw [Hd];show _=V.int ((c n + if n=m then 1 else 0:Nat):Int)
 by_cases z:n=m
 .rw [if_pos (by rw [z]),YD,if_pos z,z];rfl
 .rw [if_neg (by intro e;injection e with e;exact z e),if_neg z,h n,Nat.add_zero]
theorem LD.congr {kvs:List (Key×V)} {c d:Int->Nat} (h:LD kvs c) (e:∀ n,c n=d n):LD kvs d:=fun n=>by rw [h n,e n]
theorem ZlP {H:Hp}:∀ {n:Nat} {vs:List V},dW H vs (List.replicate n (.int 0))->vs=List.replicate n (.int 0)
 | 0,_,h=>by cases h;rfl
 | n + 1,_,h=>by
  rw [Xg] at h
  cases h with
  | cons a r=>
   cases a
   rw [ZlP r,Xg]
theorem ZvE {H:Hp} {p b l:Addr} {vb:List V} {n:Nat} (h:Zwj g.bE H p b l vb [] (List.replicate n zI) []):dQ g H p b l ⟨List.replicate n (some iE),[]⟩:=by
 obtain ⟨⟨dx,ob⟩,hb,hl,ib,_,ne⟩:=h;refine ⟨dx,vb,[],ob,hb,hl,?_,.nil,ne⟩;clear hb
 induction n generalizing vb with
 | zero=>cases ib;exact .nil
 | succ n ih=>
  rw [Xg] at ib ⊢
  cases ib with
  | cons a r=>
   refine .cons ?_ (ih r);unfold zI at a
   cases a with
   | tup e r2=>exact ⟨_,rfl,by rw [e,ZlP r2];unfold iE;rw [Wy]⟩
def IsL (o:HO):Prop:=(∃ ys,o=.lst ys)∨∃ ob ys,o=.bu ob (.lst ys)
theorem CJ {H H':Hp} {a:Addr} {xs:List V} (h:aq K H a xs) (k:∀ o,H a=some o->IsL o->H' a=some o):aq K H' a xs:=by
 rcases h with (h | ⟨ob,h⟩) | h
 .exact .inl (.inl (k _ h (.inl ⟨_,rfl⟩)))
 .exact .inl (.inr ⟨ob,k _ h (.inr ⟨_,_,rfl⟩)⟩)
 .exact .inr h
theorem CY {H:Hp} {a b:Addr} {o u:HO} (h:H a=some o) (l:IsL o) (hb:H b=some u) (n:¬ IsL u):a≠b:=ZR h hb fun z=>n (z ▸ l)
theorem Zv5 (ps:Array Value):¬ IsL (.cO ps):=by rintro (⟨_,z⟩ | ⟨_,_,z⟩) <;> cases z
theorem ZyP (ps:List (Key×V)):¬ IsL (.dK ps):=by rintro (⟨_,z⟩ | ⟨_,_,z⟩) <;> cases z
theorem ZxR (C dx:Addr) (fs:List (Str×V)):¬ IsL (.ins C dx fs):=by rintro (⟨_,z⟩ | ⟨_,_,z⟩) <;> cases z
theorem oH {H H':Hp} {t u X X':Addr} (k:∀ b o,H b=some o->b≠t->b≠u->b≠X->H' b=some o/\b≠X'):ag (iu (iu (iu H t) u) X) (iu (iu (iu H' t) u) X'):=fun b o e=>by
 obtain ⟨e1,n1⟩:=kT e;obtain ⟨e2,n2⟩:=kT e1;obtain ⟨e3,n3⟩:=kT e2;obtain ⟨k1,k2⟩:=k b o e3 n3 n2 n1;exact sJ (sJ (sJ k1 n3) n2) k2
structure LS (K:Yf) (g:Gs) (X:Addr) (H:Hp) (f q p b l:Addr) (F:bY) (a:Addr) (ns:List Int):Prop where
 fl:cH g (iu (iu (iu H g.Zk) g.gk) X) f q p b l F
 fo:jJ F
 tN:∃ ps,H g.Zk=some (.cO ps)/\nY (lq "_law_number_right") H ps
 tL:∃ ps,H g.gk=some (.cO ps)/\nY (lq "law") H ps
 sc:aq K H a (ns.map V.int)
section
variable {X:Addr} {H H':Hp} {f q p b l a:Addr} {F F':bY} {ns:List Int} {kvs:List (Key×V)}
theorem LS.same (h:LS K g X H f q p b l F a ns) (s:ag H H'):LS K g X H' f q p b l F a ns:=by
 obtain ⟨ps,h1,h2⟩:=h.tN;obtain ⟨qs,h3,h4⟩:=h.tL;exact ⟨h.fl.same (oH fun b o e _ _ n=>⟨s _ _ e,n⟩),h.fo,⟨ps,s _ _ h1,h2.mono fun b o u e=>s _ _ e⟩,⟨qs,s _ _ h3,h4.mono fun b o u e=>s _ _ e⟩,s.seq h.sc⟩
theorem LS.isF (h:LS K g X H f q p b l F a ns):cH g H f q p b l F:=h.fl.same fun _ _ e=>(kT (kT (kT e).1).1).1
theorem LS.files (h:LS K g X H f q p b l F a ns):∃ dx sv kv iv,H f=some (.ins g.ak dx (cN sv kv (.ref q) iv))/\ZA g H F.S sv/\eN g H F.k kv:=by
 obtain ⟨dx,sv,kv,iv,h⟩:=h.isF;exact ⟨dx,sv,kv,iv,h.ob,h.st,h.ke⟩
theorem LS.mk0 (hF:cH g H f q p b l F) (fo:jJ F) (hN:∃ ps,H g.Zk=some (.cO ps)/\nY (lq "_law_number_right") H ps) (hL:∃ ps,H g.gk=some (.cO ps)/\nY (lq "law") H ps) (ne:g.Zk≠g.gk) (sc:aq K H a (ns.map V.int)):LS K g g.gk H f q p b l F a ns:=by
 obtain ⟨ps,h1,h2⟩:=hN;obtain ⟨qs,h3,h4⟩:=hL;exact ⟨((hF.tab h1).tab (sJ h3 ne.symm)).same fun _ _ e=>sJ e (kT e).2,fo,⟨ps,h1,h2⟩,⟨qs,h3,h4⟩,sc⟩
theorem LS.asked (h:LS K g g.gk H f q p b l F a ns) (ne:g.Zk≠g.gk) (b1:gy f H H') (hF:cH g H' f q p b l F') (fo:jJ F'):LS K g g.gk H' f q p b l F' a ns:=by
 obtain ⟨ps,h1,h2⟩:=h.tN;obtain ⟨qs,h3,h4⟩:=h.tL;obtain ⟨dx,sv,kv,iv,ho,_⟩:=h.files;have fz:∀ b o u,H b=some (.bu o u)->H' b=some (.bu o u):=fun b o u e=>b1 _ _ e (ZR e ho (by intro z;cases z));exact LS.mk0 hF fo ⟨ps,b1 _ _ h1 (ZR h1 ho (by intro z;cases z)),h2.mono fz⟩ ⟨qs,b1 _ _ h3 (ZR h3 ho (by intro z;cases z)),h4.mono fz⟩ ne (CJ h.sc fun o e il=>b1 _ _ e (CY e il ho (ZxR _ _ _)))
theorem LS.dict (h:LS K g g.gk H f q p b l F a ns) (n:H X=none):LS K g X (upd H X (.dK [])) f q p b l F a ns:=by
 have s:=Zj (o:=.dK []) n
 have:=h.same s
 exact ⟨h.fl.same (oH fun b o e _ _ _=>⟨s _ _ e,Zg e n⟩),this.fo,this.tN,this.tL,this.sc⟩
theorem LS.upd (h:LS K g X H f q p b l F a ns) (hX:H X=some (.dK kvs)) (o:HO):LS K g X (upd H X o) f q p b l F a ns:=by
 obtain ⟨ps,h1,h2⟩:=h.tN;obtain ⟨qs,h3,h4⟩:=h.tL;have fz:∀ b ob u,H b=some (.bu ob u)->L2.upd H X o b=some (.bu ob u):=fun b ob u e=>by rw [Zf (ZR e hX (by intro z;cases z))];exact e
 exact ⟨h.fl.same (oH fun b o e _ _ n=>⟨by rw [Zf n];exact e,n⟩),h.fo,⟨ps,by rw [Zf (ZR h1 hX (by intro z;cases z))];exact h1,h2.mono fz⟩,⟨qs,by rw [Zf (ZR h3 hX (by intro z;cases z))];exact h3,h4.mono fz⟩,CJ h.sc fun u e il=>by rw [Zf (CY e il hX (ZyP _))];exact e⟩
theorem LS.Mm (h:LS K g X H f q p b l F a ns) (ne:g.Zk≠g.gk) (hX:H X=some (.dK kvs)) (n:vf (lq "law") g.gk H H'):LS K g X H' f q p b l F a ns/\H' X=some (.dK kvs):=by
 obtain ⟨ps,h1,h2⟩:=h.tN;obtain ⟨qs,h3,h4⟩:=h.tL;exact ⟨⟨h.fl.same (oH fun b o e _ n2 n3=>⟨n.1 _ _ e n2,n3⟩),h.fo,⟨ps,n.1 _ _ h1 ne,h2.mono fun b o u e=>n.1 _ _ e (ZR e h3 (by intro z;cases z))⟩,n.2,CJ h.sc fun o e il=>n.1 _ _ e (CY e il h3 (Zv5 _))⟩,n.1 _ _ hX (ZR hX h3 (by intro z;cases z))⟩
theorem LS.fM (h:LS K g X H f q p b l F a ns) (ne:g.Zk≠g.gk) (hX:H X=some (.dK kvs)) (n:vf (lq "_law_number_right") g.Zk H H'):LS K g X H' f q p b l F a ns/\H' X=some (.dK kvs):=by
 obtain ⟨ps,h1,h2⟩:=h.tN;obtain ⟨qs,h3,h4⟩:=h.tL;exact ⟨⟨h.fl.same (oH fun b o e n2 _ n3=>⟨n.1 _ _ e n2,n3⟩),h.fo,n.2,⟨qs,n.1 _ _ h3 ne.symm,h4.mono fun b o u e=>n.1 _ _ e (ZR e h1 (by intro z;cases z))⟩,CJ h.sc fun o e il=>n.1 _ _ e (CY e il h1 (Zv5 _))⟩,n.1 _ _ hX (ZR hX h1 (by intro z;cases z))⟩
theorem LS.nr (h:LS K g X H f q p b l F a ns):cH g (iu H g.Zk) f q p b l F:=h.fl.same fun _ _ e=>(kT (kT e).1).1
end
theorem Zu2 (kvs:List (Key×V)) (k:Key) (v:V):(putK kvs k v).length<=kvs.length + 1:=by
 unfold putK
 split
 .rw [Yb];omega
 .rw [Yg];exact Ye _
theorem rB {H:Hp} {a:Addr} {ns:List Str} (h:H a=some (.lst (ns.map V.str))):gx K H (.ref a) (.list (ns.map PyData.str)):=.inl (.inr ⟨a,_,_,rfl,rfl,aq.of h,ZrM _ ns⟩)
theorem Zwh (q:Str) (H:Hp):nY q H #[]:=⟨by rw [show (#[]:Array Value).toList=[] from rfl,TriplesOk.eq_1];trivial,fun pos cv e=>by rw [show (#[]:Array Value).toList=[] from rfl,codeAmong.eq_2 _ _ (by intro _ _ _ _ _ _ z;cases z)] at e;cases e⟩
theorem Zw4 {S:az} (W:Wf S) {n:Int} {r:Rf} (h:kM S n=.error r):aa S.ent n=none:=by
 unfold kM at h
 split at h
 .split at h
  .rename_i d hd
   cases q:aa S.ent n with
   | none=>rfl
   | some es=>have:=W.x.dj n (by rw [q];rfl);rw [hd] at this;cases this
  .cases h
 .rename_i ht
  unfold ZE at ht
  cases q:aa S.ent n with
  | none=>rfl
  | some es=>rw [q] at ht;exact absurd (WX _) ht
theorem Zye {S:az} {n:Int} {es:ao} (h:kM S n=.ok es):aa S.ent n=some es:=by
 unfold kM at h
 split at h
 .rename_i ht
  split at h
  .cases h
  .rename_i hd
   cases h
   unfold ZE at ht;rw [hd,X4,Ya8] at ht;obtain ⟨es,he⟩:=Option.isSome_iff_exists.mp ht;rw [he];rfl
 .cases h
inductive jZ (K:Yf) (vs:List V) (H:Hp) (Q:VK) (aL:XK):Prop
 | mk (a:Addr) (ns:List Int):vs=[.ref a]->aq K H a (ns.map V.int)->ns.length<=63->(∀ x∈fM,∀ c T,Xn K x=some (c,T)->H T=some (.cO #[]))->(∀ H',Q (.bl true) H')->jZ K vs H Q aL
theorem n_:Zp ["_law_script","_law_files","_law_k","_law_links","_law_number","_law_entries","_law_name","_law_other","_law_names","_law_kept"] ["_law_script"] (Zi F_):=ZN (by decide +kernel)
theorem ZxP (T:Tx K mg g) (hB:BT fM K mg base):ah P w K mg base oz 10 g.B_ g.Ge ["_law_script"] (jZ K):=by
 refine T.F4.Mf n_ (fun vs H Q E h=>?_) (fun aY A outer s H vs Q E j3 hr h=>?_)
 .obtain ⟨a,ns,rfl,_⟩:=h;rfl
 .obtain ⟨a,ns,rfl,hS,hlen,hT,q⟩:=h;have hL0:=hT "law" (by decide +kernel) _ _ T.gk;have hN0:=hT "_law_number_right" (by decide +kernel) _ _ T.Zk;have kF:=hB.cd "law" (by decide +kernel) _ _ T.gk;have hc:aY=.ref g.Zwf:=j3.symm.trans (ZuA T.ZxQ T.F4 T.gk);have ne:=T.BH;have dI:=hr.units;have hu:=u1 hr.units;have hSZ:(100000:Nat)<=Ym:=by decide
  refine ⟨_,(Zd (Zz (i:=1) n_.nd rfl (Or.inr rfl) (Zn (Zpv T) hr.dn rfl T.ZqS T.Ji.kp T.ku .nil ng (Za (qJ T.ZwO (Zpy T) hr.dn rfl T.ZxT T.kA .nil ng (Za Zl Ze)) Ze)))
   (Zd (Z0 (pV (nZ (ZxK (pv 1) (ZJ (v:=.ref g.ak) rfl T.ZtX rfl) rfl T.ZS))) (Zh (Zt pQ)) Zx)
   (Zd (jS Ybt rfl (x_ rfl T.sP (Za (ZD (ZuG rfl) (by rfl) T.Zyz PyProof.Rows.Boot.«max» (Za Zl (Za (ZD (Zqj rfl) (by rfl) T.Zxk PyProof.Rows.Boot.«min» (Za Zl (Za (ZD ZI (by rfl) T.eL YC (Za (pv 0) Ze)) Ze))) Ze))) Ze)) (Z9 (i:=2) n_.nd rfl (Or.inl rfl)) (Zh (ZC (Zn (Zn5 T) hr.dn rfl T.ZpI T.Ke.kp T.jv .nil ng (Za (pv 1) (Za (Zn (Zpw T) hr.dn rfl T.ZqT T.Jh.kp T.kx .nil ng (Za (pv 0) (Za (pv 2) Ze))) Ze))))))
   (Zd (Zz (i:=3) n_.nd rfl (Or.inl rfl) qP)
   (Zd (jS Ybt rfl (x_ rfl T.sP (Za Zl Ze)) (Z9 (i:=4) n_.nd rfl (Or.inr rfl)) (Zd (Zz (i:=5) n_.nd rfl (Or.inl rfl) (CL (spT:=fun b=>cu P w K mg b g) (fv:=["_law_files","_law_number"]) (ix:=[1,4]) (P:=g.gk) (fun b=>D0 T) hr.dn rfl T.DN T.yl.kp T.bQ ng hc kF hB.bm (ot (sc:=Zi F_) (N:=["_law_script","_law_files","_law_k","_law_links","_law_number","_law_entries","_law_name","_law_other","_law_names","_law_kept"]) rfl rfl (by decide +kernel)) ⟨rfl,rfl,rfl,by decide +kernel,by decide +kernel,by decide +kernel⟩ (fun _=>rfl) rfl))
   (Zh (Z0 (nZ (Zv1 (pv 5) (GI (v:=.ty "list") rfl T.pT PyProof.Rows.Boot.«list» rfl) rfl T.ZS)) (Zh (jS Ybt rfl (sN (pv 5)) (zK rfl (qa (Z9 (i:=6) n_.nd rfl (Or.inl rfl)) (qa (Z9 (i:=7) n_.nd rfl (Or.inl rfl)) zR))) (Zd (Z0 (PW.pt (nW (pV (nZ (Zv1 (pv 6) (GI (v:=.ty "str") rfl T.Zyy PyProof.Rows.Boot.«str» rfl) rfl T.ZS))) (sG (ZG Zpr (bw jI (ZP (pv 1) T.Zq T.DX (D_ T) hr.dn T.bG .nil ng (Za (pv 7) Ze)) Zl (fun _ _=>rfl)) (fV (Za Zr (Za Zr Ze))) rfl)))) (Zh (Zt pQ)) Zx)
   (Zh (vg hu (pv 3) (pv 7) (Zy kJ (Hg hu (pv 3) (pv 7) Zl ⟨rfl,rfl,rfl,rfl⟩) Zl) rfl))))) Zx))))
   (Zd (jS Ybt rfl (sN (Zy xE (ZT ZsX rfl T.pT PyProof.Rows.Boot.«list» (Za (ZT Zq6 rfl T.sP PyProof.Rows.Boot.«range» (Za (gf gm Zl) (Za Zl Ze))) Ze)) (fV (Za (Zn (ZjT T) hr.dn rfl T.ZlC T.DQ.kp T.fG .nil ng (Za (pv 0) (Za Zl Ze))) Ze)))) (Z9 (i:=4) n_.nd rfl (Or.inr rfl)) (Zh (Z0 (pV (nZ (Zn (Zgq T hB) hr.dn rfl T.Zg1 T.Eh.kp T.dw .nil ng (Za (pv 1) (Za (pv 4) (Za (Hg hu (pv 3) (pv 4) Zl ⟨rfl,rfl,rfl,rfl⟩) Ze)))))) (Zh (Zt pQ)) Zx)))
   (Zd (Zz (i:=8) n_.nd rfl (Or.inl rfl) (nB (pv 1) T.Zq T.Zh6 (ZgI T) hr.dn T.dD .nil ng))
   (Zd (Zz (i:=9) n_.nd rfl (Or.inl rfl) (ZT DV rfl T.pT PyProof.Rows.Boot.«list» (Za (pv 8) Ze)))
   (Zd (ZC (lR YR Xl Xk qT (pv 8) (Za Zr Ze)))
   (Zh (Zt (CK (oh (sy dI) (nB (pv 1) T.Zq T.Zh6 (ZgI T) hr.dn T.dD .nil ng) (pv 9) (ZO _)) (CM (oh (sy dI) (pv 9) (ZD Zqg (by rfl) T.vv PyProof.Rows.Boot.«sorted» (Za (pv 9) Ze)) (ZO _))))))))))))))),?_⟩
  intro x dx nx ndx nex;refine ⟨x,dx,256,rfl,Zb,fun z=>by omega,fun _ _ b l vb H3 fb fl D3 kp=>⟨rfl,?_⟩⟩
  have s0:ag H (upd (upd H dx (.own x)) x (.ins g.bE dx [])):=fun b o e=>by
   rw [Zf (Zg e nx),Zf (Zg e ndx)];exact e
  have s3:ag H H3:=fun c o e=>kp c o (s0 c o e) (Zg e nx);obtain ⟨F0,hf0,atF⟩:=ZqZ;refine ⟨x,b,l,ic,rfl,ZvE D3,by decide,by decide,fun I hI=>?_,?_⟩
  .rw [Zt7] at hI
   cases hI
   exact Zx2
  rw [hf0];intro f q0 H4 b4 hF4;have k4:ag H H4:=fun d o e=>b4 _ _ (s3 _ _ e) (Zg (s0 _ _ e) fb) (Zg (s0 _ _ e) fl);have L4:LS K g g.gk H4 f q0 x b l F0 a ns:=LS.mk0 hF4 (fo0 atF) ⟨_,k4 _ _ hN0,Zwh _ _⟩ ⟨_,k4 _ _ hL0,Zwh _ _⟩ ne (k4.seq hS);clear hS D3 kp s3 s0 hT hF4 b4 k4 hN0 hL0;obtain ⟨dxf,sv0,EZ,iv0,ho4,_,_⟩:=L4.files;refine ⟨_,rfl,f,g.ak,dxf,_,rfl,ho4,T.Zq,T.ZwL,_,rfl,av ?_⟩;refine ⟨_,rfl,a,_,rfl,.inl L4.sc,_,_,rfl,_,_,rfl,?_⟩;rw [Yb];generalize hN:(if (if (ns.length:Int) < 20 then (ns.length:Int) else 20) > 1 then (if (ns.length:Int) < 20 then (ns.length:Int) else 20) else 1)=N;have hN1:N<=20:=by rw [<- hN];split <;> split <;> omega
  refine ⟨N,rfl,by omega,by omega,?_⟩;refine Dy (n:=N.toNat) (fun i σ H'=>∃ F o2 o3 o4 o5 o6 o7 o8 o9,σ=[some (.ref a),some (.ref f),o2,o3,o4,o5,o6,o7,o8,o9]/\LS K g g.gk H' f q0 x b l F a ns) ⟨F0,_,_,_,_,_,_,_,_,rfl,L4⟩ (fun i σ H' hi h=>?_) (fun σ H' h=>?_)
  .obtain ⟨F,o2,o3,o4,o5,o6,o7,o8,o9,rfl,LF⟩:=h;refine ⟨_,rfl,_,rfl,_,rfl,a,ns,_,rfl,LF.sc,hlen,by omega,by omega,fun D t H5 s5 ht bO=>?_⟩;have L5:=LF.same s5;refine ⟨f,q0,x,b,l,F,t,D,rfl,L5.isF,L5.fo,ht,bO,fun v F' H6 b6 hF6 fo6=>?_⟩;exact ⟨F',_,_,_,_,_,_,_,_,rfl,L5.asked ne b6 hF6 fo6⟩
  obtain ⟨F,o2,o3,o4,o5,o6,o7,o8,o9,rfl,LF⟩:=h;clear L4 ho4;intro X nX;have L6:=LF.dict nX;have Fv:(upd H' X (.dK [])) X=some (.dK []):=Zb;generalize upd H' X (.dK [])=H6 at L6 Fv ⊢;have fo:=L6.fo;refine ⟨32,rfl,by decide,by decide,?_⟩;refine Dy (n:=(32:Int).toNat) (fun i σ H'=>∃ kvs o2 o4 o5 o6 o7 o8 o9,σ=[some (.ref a),some (.ref f),o2,some (.ref X),o4,o5,o6,o7,o8,o9]/\LS K g X H' f q0 x b l F a ns/\H' X=some (.dK kvs)/\LD kvs (fun n=>pre F.S.ent n i)/\kvs.length<=50 * i) ⟨[],_,_,_,_,_,_,_,rfl,L6,Fv,fun n=>rfl,Ye _⟩ (fun i σ H' hi h=>?_) (fun σ H' h=>?_)
  .obtain ⟨kvs,o2,o4,o5,o6,o7,o8,o9,rfl,LH,hX,Cs,zd⟩:=h;have hi32:i < 32:=hi;obtain ⟨ps,hp,ht⟩:=LH.tL;refine ⟨ps,[.ref f,.int (0 + (i:Int))],hp,ht,rfl,fun b1 f1 c1 FZ EO FY H1 uh iw nO C1=>?_⟩;obtain ⟨L1,hX1⟩:=LH.Mm ne hX uh;obtain ⟨i8,qi,qm,qo,gX,ub,_⟩:=L1.files;refine k6 nO C1 iw gX (Z6 _ _ _ _) (fun A outer s H E hr=>ZP (pv 0) T.Zq T.Ao (Al T) hr.dn T.bf .nil qd (Za (pv 1) Ze)) fun E1 zv=>⟨f,i8,qi,qm,_,qo,F.S,_,rfl,gX,ub,fo.s.ok,?_⟩
   cases he:kM F.S (0 + (i:Int)) with
   | error r=>
    refine fun H2 s2=>zv r H2 fun H3 s3=>?_;refine ⟨_,rfl,.str r.word,_,"list",false,rfl,.str _,rfl,_,rfl,av ?_⟩;have s23:=s2.trans s3;have e0:=Zw4 fo.s he;rw [Int.zero_add] at e0;refine ⟨kvs,_,_,_,_,_,_,_,rfl,L1.same s23,s23 _ _ hX1,Cs.congr fun n=>?_,by omega⟩;show pre F.S.ent n i=pre F.S.ent n i + mZ F.S.ent n (i:Int);unfold mZ;rw [e0];rfl
   | ok es=>
    have e0:=Zye he;rw [Int.zero_add] at e0;obtain ⟨wX,y9⟩:=fo.s.x.es _ es e0;have cj:=fo.s.b _ es e0;have nJ:(bC es).length=es.length:=(vB es).length_eq;intro l5 H2 s2 n5 ⟨as,f_,lL,Fs⟩;have L2':=L1.same s2;have hX2:=s2 _ _ hX1;refine ⟨_,rfl,.ref l5,_,"list",true,rfl,.lst f_,rfl,_,rfl,ax ?_⟩;refine ⟨_,rfl,l5,rfl,⟨_,aq.of f_⟩,?_⟩;refine xV (xs:=as.map V.ref) (fun j σ H'=>∃ kvs o2 o5 o6 o7 o8 o9,σ=[some (.ref a),some (.ref f),o2,some (.ref X),some (.int (0 + (i:Int))),o5,o6,o7,o8,o9]/\LS K g X H' f q0 x b l F a ns/\H' X=some (.dK kvs)/\LD kvs (fun n=>pre F.S.ent n i + bb ((bC es).take j) n)/\kvs.length<=50 * i + j/\H' l5=some (.lst (as.map V.ref))/\∀ (j:Nat) a p,as[j]?=some a->(bC es)[j]?=some p->H' a=some (.tup [.str p.1,.int p.2])) ⟨kvs,_,_,_,_,_,_,rfl,L2',hX2,Cs,by omega,f_,Fs⟩ (fun j σ H' _ h=>?_) (fun j y σ H' hy h=>?_) (fun σ H' h=>?_)
    .obtain ⟨kvs,o2,o5,o6,o7,o8,o9,rfl,_,_,_,_,h5,_⟩:=h;exact aq.of h5
    .obtain ⟨kvs,o2,o5,o6,o7,o8,o9,rfl,LJ,sf,zu,Fi,h5,Bq⟩:=h;rw [Yo] at hy
     cases hb:as[j]? with
     | none=>rw [hb] at hy;cases hy
     | some ya=>
      rw [hb] at hy
      cases hy
      have hj:j < (bC es).length:=by rw [<- lL];exact (List.getElem?_eq_some_iff.mp hb).1
      obtain ⟨pr,uy⟩:∃ pr,(bC es)[j]?=some pr:=⟨_,Yh hj⟩
      have hyt:=Bq j ya pr hb uy;refine ⟨ya,_,rfl,aF.of hyt,rfl,_,_,rfl,_,_,rfl,rfl,?_⟩;refine ⟨_,rfl,.str pr.1,_,"str",true,rfl,.str _,rfl,_,rfl,av ?_⟩
      have jN:ZE F.S pr.2=true:=by
       refine fo.s.x.nm _ (Yq ?_ (sI e0));rw [<- Zqe];exact List.count_pos_iff.mpr (List.mem_map.mpr ⟨pr,Yy uy,rfl⟩)
      obtain ⟨dxJ,svJ,kvJ,ivJ,obJ,stJ,_⟩:=LJ.files;refine ⟨_,rfl,f,dxJ,_,rfl,obJ,Z6 _ _ _ _,_,rfl,f,dxJ,svJ,kvJ,_,ivJ,F.S,pr.2,rfl,obJ,stJ,fo.s.nl,?_⟩;rw [jN,if_pos rfl];intro t3 H3 s3 jD;refine ⟨t3,_,_,_,rfl,rfl,aF.of jD,Cz _ _,aX 2,fun l4 n4=>?_⟩;have s4:=Zj (o:=.lst [.str "file",.str "dir"]) n4;refine ⟨l4,_,rfl,.inl (aq.of Zb),rfl,rfl,_,rfl,?_⟩;have hk:rQ (.str (kindOf F.S pr.2)) [.str "file",.str "dir"]=true:=by unfold kindOf;split <;> rfl
      rw [hk];refine av ?_;have yz:=s3.trans s4;have L34:=LJ.same yz;have lp:=yz _ _ sf;have wj:=yz _ _ h5;have tT:∀ (j:Nat) a p,as[j]?=some a->(bC es)[j]?=some p->(upd H3 l4 (.lst [.str "file",.str "dir"])) a=some (.tup [.str p.1,.int p.2]):=fun j a p h1 h2=>yz _ _ (Bq j a p h1 h2);generalize upd H3 l4 _=H4 at s4 yz L34 lp wj tT ⊢;refine ⟨_,rfl,X,rfl,.inl ⟨_,.inl lp⟩,_,rfl,_,aI.k lp (k:=.inl pr.2),_,_,zu pr.2,rfl,?_⟩;refine ⟨_,rfl,_,rfl,X,_,rfl,d6.k (k:=.inl pr.2) lp (YO Fi (by omega)),?_⟩;refine ⟨_,_,_,_,_,_,_,rfl,L34.upd lp _,Zb,(zu.put pr.2).congr fun n=>?_,?_,?_,fun j' a' p' h1 h2=>?_⟩
      .rw [ZuB uy];omega
      .refine Yk (Zu2 kvs (X8 pr.2) _) ?_;omega
      .rw [Zf (ZR wj lp (by intro z;cases z))];exact wj
      .have z:=tT j' a' p' h1 h2;rw [Zf (ZR z lp (by intro y;cases y))];exact z
    .obtain ⟨kvs,o2,o5,o6,o7,o8,o9,rfl,LJ,sf,zu,Fi,_,_⟩:=h;rw [Yb] at zu Fi;refine ⟨kvs,_,_,_,_,_,_,_,rfl,LJ,sf,zu.congr fun n=>?_,by omega⟩;show _=pre F.S.ent n i + mZ F.S.ent n (i:Int);rw [lL,XE,Zqe];unfold mZ;rw [e0]
  obtain ⟨kvs,o2,o4,o5,o6,o7,o8,o9,rfl,L7,hX7,MX,zd⟩:=h;clear LF L6 Fv;have Cs:LD kvs (fun n=>cnt F.S.ent n):=MX.congr fun n=>fo.s.pre n
  -- g6 Eo
  refine ⟨_,rfl,-2,34,rfl,fun p1 n1=>?_⟩;have s1:=Zj (o:=.qk (-2) 34) n1;refine ⟨p1,-2,34,36,rfl,Zb,by decide +kernel,by decide +kernel,by decide,fun p2 n2=>?_⟩;have s2:=Zj (o:=.lst ((List.range 36).map fun (i:Nat)=>V.int (-2 + (i:Int)))) n2;refine ⟨_,rfl,a,ns,0,rfl,(s1.trans s2).seq L7.sc,hlen,by decide,by decide,fun H8 s3=>?_⟩;have f2:=s3 _ _ (Zb (H:=upd H' p1 (.qk (-2) 34)) (a:=p2) (o:=.lst ((List.range 36).map fun (i:Nat)=>V.int (-2 + (i:Int)))));have dF:=(s1.trans s2).trans s3;refine ⟨aX 1,fun p3 n3=>?_⟩;have s4:=Zj (o:=.lst [.int (pS ns 0)]) n3;refine ⟨p2,p3,_,_,rfl,rfl,s4 _ _ f2,Zb,(by show 36 + 1<=Ym;omega),fun p4 n4=>?_⟩;have s5:=Zj (o:=.lst (((List.range 36).map fun (i:Nat)=>V.int (-2 + (i:Int)))++[.int (pS ns 0)])) n4;have L9:=L7.same ((dF.trans s4).trans s5);have Fu:=((dF.trans s4).trans s5) _ _ hX7;have f9:=Zb (H:=upd H8 p3 (.lst [.int (pS ns 0)])) (a:=p4) (o:=.lst (((List.range 36).map fun (i:Nat)=>V.int (-2 + (i:Int)))++[.int (pS ns 0)]));generalize upd (upd H8 p3 (.lst [.int (pS ns 0)])) p4 _=H9 at L9 Fu f9 ⊢;refine ⟨p4,rfl,⟨_,aq.of f9⟩,?_⟩;refine xV (xs:=((List.range 36).map fun (i:Nat)=>V.int (-2 + (i:Int)))++[.int (pS ns 0)]) (fun j σ H'=>∃ o2 o4 o5 o6 o7 o8 o9,σ=[some (.ref a),some (.ref f),o2,some (.ref X),o4,o5,o6,o7,o8,o9]/\LS K g X H' f q0 x b l F a ns/\H' X=some (.dK kvs)/\H' p4=some (.lst (((List.range 36).map fun (i:Nat)=>V.int (-2 + (i:Int)))++[.int (pS ns 0)]))) ⟨_,_,_,_,_,_,_,rfl,L9,Fu,f9⟩ (fun j σ H' _ h=>?_) (fun j y σ H' hy h=>?_) (fun σ H' h=>?_)
  .obtain ⟨o2,o4,o5,o6,o7,o8,o9,rfl,_,_,h5⟩:=h;exact aq.of h5
  .obtain ⟨o2,o4,o5,o6,o7,o8,o9,rfl,LJ,sf,h5⟩:=h
   obtain ⟨n,rfl⟩:∃ n,y=.int n:=by
    rcases List.mem_append.mp (Yy hy) with z | z
    .obtain ⟨i,_,e⟩:=List.mem_map.mp z;exact ⟨_,e.symm⟩
    .exact ⟨_,List.mem_singleton.mp z⟩
   obtain ⟨ps,hp,ht⟩:=LJ.tN;refine ⟨_,rfl,_,rfl,_,rfl,X,rfl,.inl ⟨_,.inl sf⟩,_,rfl,_,aI.k sf (k:=.inl n),?_⟩;rw [Cs n];refine ⟨f,q0,x,b,l,F,n,ps,rfl,LJ.nr,fo,hp,ht,fun jb nx=>⟨_,rfl,av ?_⟩⟩;obtain ⟨L10,MU⟩:=LJ.fM ne sf nx;exact ⟨_,_,_,_,_,_,_,rfl,L10,MU,nx.1 _ _ h5 (ZR h5 hp (by intro z;cases z))⟩
  obtain ⟨o2,o4,o5,o6,o7,o8,o9,rfl,LJ,sf,_⟩:=h;clear L7 L9 hX7 Fu f9
  -- g6 yt
  have Bk:F.k.length < 64:=by have:=fo.n;omega
  have y9:(F.k.map (·.1)).Nodup:=fo.nd;have uw:(fH (F.k.map (·.1))).length=F.k.length:=by rw [(DK _).length_eq,Yb]
  have rV:YY (.list ((fH (F.k.map (·.1))).map PyData.str))=true:=Ju (k:=0) (fun d hd=>by
   obtain ⟨nm,iZ,rfl⟩:=List.mem_map.mp hd;have hm:=(DK _).mem_iff.mp iZ;obtain ⟨S,hS⟩:=Option.isSome_iff_exists.mp (xO hm);exact G' (ZrC (fo.k nm S hS).1)) (by decide)
  obtain ⟨i8,qi,qm,qo,gX,_,ke1⟩:=LJ.files;refine ⟨_,rfl,f,i8,_,rfl,gX,Z6 _ _ _ _,f,i8,qi,qm,_,qo,F.k,rfl,gX,ke1,Bk,fun l8 H8 s8 n8 za=>?_⟩;refine ⟨_,rfl,l8,_,rfl,.inl (aq.of za),fun l9 n9=>?_⟩;have s9:=Zj (o:=.lst ((fH (F.k.map (·.1))).map V.str)) n9;have pJ:(upd H8 l9 (.lst ((fH (F.k.map (·.1))).map V.str))) l9=some (.lst ((fH (F.k.map (·.1))).map V.str)):=Zb;have vZ:=s9 _ _ za;have n89:l9≠l8:=fun z=>by rw [z,za] at n9;cases n9
  have k9:=s8.trans s9;generalize upd H8 l9 _=H9 at s9 pJ vZ k9 ⊢;refine ⟨_,rfl,.inl ⟨rfl,_,aq.of vZ⟩,l8,_,_,rfl,rfl,vZ,(by rw [Yb,uw];omega),?_⟩;have k10:ag H' (upd H9 l8 (.lst ((fH (F.k.map (·.1))).map V.str++[.str "x"]))):=fun b o e=>by rw [Zf (Zg e n8)];exact k9 _ _ e
  have rj:(upd H9 l8 (.lst ((fH (F.k.map (·.1))).map V.str++[.str "x"]))) l9=some (.lst ((fH (F.k.map (·.1))).map V.str)):=by rw [Zf n89];exact pJ
  generalize upd H9 l8 _=jb at k10 rj ⊢;obtain ⟨iz,t9,uj,um,mr,_,ke2⟩:=(LJ.same k10).files;refine ⟨_,rfl,f,iz,_,rfl,mr,Z6 _ _ _ _,f,iz,t9,uj,_,um,F.k,rfl,mr,ke2,Bk,fun l11 yq yA _ MM=>?_⟩;refine ⟨_,rfl,_,_,rB MM,rB (yA _ _ rj),rV,rV,_,rfl,?_⟩;rw [Z3 rV];refine ax ⟨_,rfl,_,rfl,l9,_,rfl,aq.of (yA _ _ rj),by omega,fun l12 ms n12 MC Mx=>?_⟩;rw [Zsk MC Mx (Zsl y9)];refine ⟨_,_,rB (Zj n12 _ _ (yA _ _ rj)),rB Zb,rV,rV,?_⟩;rw [Z3 rV];exact q _
set_option maxHeartbeats 16000000
open PySem L2 PySem.W
theorem ZwN {K:Frag} {a:Addr} {d:Option Addr} {u0 u1 u2 u3:Tok} {n:Nat} {o:Array (Option Value)} (h:K.lookup a=some ⟨.type "tuple",d,.seq #[.int 83 u0,.int 116 u1,.int 105 u2,.int 108 u3] n,o⟩):∀ H,aF K H a [.int 83,.int 116,.int 105,.int 108]:=fun H=>.inr ⟨_,_,_,h,rfl,rfl,(by show 4<=Ym;decide),(.cons ⟨u0,rfl⟩ (.cons ⟨u1,rfl⟩ (.cons ⟨u2,rfl⟩ (.cons ⟨u3,rfl⟩ .nil))))⟩
theorem Zym {l:OpenLaw} {w:World} {K:Frag} {mg:Str->Option Value} {fa:Addr} {g:Gs} (hfa:mg "law"=some (.ref fa)) (T:Tx K mg g):(∀ x∈fM,∃ c T,tabIn K x=some (c,T)/\K.lookup T=none)/\∃ fd:Yl,(∀ (s:Shared) (v:Value),BindsTo s fd ⟨[v],[]⟩ [("_law_script",v)])/\∀ base:Heap,K.In base->base.Ns Xj mg->BT fM K mg base->ah l.prog w K mg base oz 10 fa fd ["_law_script"] (jZ K):=by
 have e:=hfa.symm.trans T.ZyR
 cases e
 refine ⟨fun x hx=>?_,g.Ge,fun s v=>?_,fun base _ _ hB=>ZxP T hB⟩
 .simp only [fM,W3,X3,or_false] at hx
  rcases hx with rfl | rfl
  .exact ⟨_,_,T.Zk,T.Zgn⟩
  .exact ⟨_,_,T.gk,T.Zxr⟩
 .obtain ⟨oc,od,kV,doc,pm,an,aY,ct,mq,e,_⟩:=T.F4.ex;rw [e];exact .of_eq rfl
theorem walk {l:OpenLaw} {q:Program} {loose:List Str} {XP:(Str->Option Value)->Heap->Prop} {YP:World->Heap->Prop} {d:DefRec} {K:Params->Frag} (hn:l.most=some 63) (uF:d.params.defaults=[])
  (hY:∀ (w:World) (h:Heap),YP w h->(K w.params).In h) (hq:∀ x∈fM,((PyProof.Rows.recsOf q).find? fun e=>e.name == x).isSome=true)
  (F:∀ (w:World) (mg:Str->Option Value) (fa:Addr) (h:Heap),(K w.params).In h->h.Ns Xj mg->mg d.name=some (.ref fa)->(∀ x∈fM,∃ c T,tabIn (K w.params) x=some (c,T)/\(K w.params).lookup T=none)/\∃ fd:Yl,(∀ (s:Shared) (v:Value),BindsTo s fd ⟨[v],[]⟩ [("_law_script",v)])/\∀ base:Heap,(K w.params).In base->base.Ns Xj mg->BT fM (K w.params) mg base->ah l.prog w (K w.params) mg base oz 10 fa fd ["_law_script"] (jZ (K w.params))) :
  WalkO q loose XP YP l.row.toRowW d [] (fun f vs=>PySem.call f vs):=
 L2.Zxo (n:=63) (k:=10) (x:="_law_script") (CX:=fun _=>oz) (sp:=fun w=>jZ (K w.params)) fM hn (by decide) uF ⟨rfl,by decide,by decide⟩ hY hq F (fun _ _ a ns hl hS hT=>⟨a,ns,rfl,hS,hl,hT,fun _=>rfl⟩) fun _ _ _ _ _ z=>z
end KS
structure PySem.W.Fast:Prop where(tw9811576709790483244 tw6553563635621132567 tw17968164827799424028 tw5125626486073163821 tw6456096921740432414 tw4989994653747643059 tw4580338387708092960 tw10031589105544857099 tw6591559617172383278 tw3861231036261401000 tw16564340373551842826 tw6338501749382732955 tw3572521946858198689 tw177454285487014426 tw4999211170601393234 tw12993062067593658865 tw2313750358028508398 tw13454628217817387447 tw17937979171790839520 tw9578388758209149107 tw9703362512841236150 tw5414534038178430821 tw1047049146531802769 tw17512607334381555181 tw4265378621542441543 tw8354920017734690929 tw10538178771226412958 tw5376977775413557129 tw9384041605074110009 tw16120834411418461752 tw18347018129916384291 tw5240323645396683798 tw14098299245245328347 tw8395493499459300252 tw11981039264364899999 tw14612460585093457618 tw11130338408534350199 tw1197050442994219087 tw18377175130559883736 tw2700948594706357779 tw11570625390459457233 tw2780646413690523397 tw137770728198170965 tw2596161084395280157 tw1870874599155050018 tw299725936082029877 tw12046357286560508009 tw4624006198494882909 tw2518117256032511184 tw17825299214199741537 tw1482846396626789075 tw16129947700836570706 tw16998720130301914292 tw11155247262056968367 tw3691047172574619333 tw8412338823215868135 tw5557542892376721012 tw11854768123605547786 tw8680563410860281172 tw10347237985199003371 tw15584639116570312074 tw8437219516473465342 tw14672926662753455304 tw9803746760370335325 tw10279309094642577260 tw9688308307944014151 tw16305833581651845379 tw16599018259360551875 tw14731702527925394816 tw12789607216676968947 tw3788737181182734698 tw1498788810852974892 tw11328835267212435167 tw969400859576289186 tw12760934907203048702 tw514466288568604969 tw2196574057049563820 tw18103075557144917995 tw2935866614771540130 tw14281837208905029283 tw8120117222442403405 tw11237428402117573596 tw11687874747631517619 tw1143466962030717448 tw11257406656797725590 tw4404245419747019441 tw5195251081963393689 tw12680123917210768657 tw14822872716742418080 tw15249746399008649516 tw4659784642060604001 tw2071434263265448390 tw12478848359633913151 tw10176231805636465610 tw3331855937573352677 tw14715997161358191501 tw12766270495523436771 tw8777538465067534676 tw1243031018426719726 tw6861655446992512810 tw9173149415432198682 tw10763481543498617530 tw5147992704630674488 tw1850514441724544280 tw5719473622065839453 tw18219091582597078065 tw11113945372540482765 tw6842597238456360418 tw12643941776517960506 tw14841329102116939564 tw17564188216722609944 tw1804941811655250507 tw11221577869838955773 tw16614062156044584114 tw15362672717741252586 tw6356393282101938398 tw17158588886131163421 tw8591991759084460532 tw5480779756243646775 tw3308503055735952542 tw2251368242724714085 tw2415488145261813371 tw11437074278143100535 tw7995143887320555298 tw14536207226271052699 tw14537268827317860419 tw10827205281270389026 tw672544276541975943 tw853422821407208241 tw3982891851795754392 tw6433031002362243080 tw2783093608567677806 tw13550704603409463167 tw18416274159283421249 tw7472301930655644909 tw9594179667414564393 tw3439184226356051499 tw7214680761475372615 tw16418462794918739598 tw15301637793933085078 tw14844974525323799911 tw11518360461006658378 tw7351871150677434530 tw4686854727360966638 tw10218608798244627095 tw6195825355537705596 tw13131261066576490505 tw17669861635026784399 tw10420283394834110360 tw6578338844242687832 tw194665398815252558 tw12571749690795203731 tw248572681470318711 tw4377302389215544225 tw12078043391234000249 tw741383494251354450 tw3587770237940361328 tw15191384326124908438 tw6825633710026154481 tw14159440675833019812 tw13034549741195946139 tw6596626233499932020 tw13548694810351664814 tw12121017069016333470 tw17526243256726862158 tw17029267507862531992 tw7121215786592221601 tw3037224750380470621 tw15893600835589484605 tw10982677226633668785 tw9838242337561033552 tw1063607648092550456 tw14646365019560427183 tw6477314492912972472 tw286333762034991759 tw10520282016119753581 tw17855743867162717901 tw17713424172798188299 tw12724642370340036617 tw4796170493349082749 tw13390297182717768781 tw1367582464847112507 tw6221716435044463177 tw3188457783351815393 tw719191663765617742 tw6441834526076742432 tw9824160089501356816 tw3656284969501411195 tw2054430244648622216 tw2186975235826749433 tw13285201773419930934 tw11534554849417112408 tw4022669716676945814 tw9403819512975720838 tw4507943545718367435 tw11008379149140685724 tw17167167899259064255 tw13786430878342197016 tw12446283725156652972 tw5896908754165591016 tw5732598939379730003 tw14780469458908831055 tw13840837097816450380 tw11750650348953083478 tw7558642433836130662 tw17061929679900921896 tw7442635970361954958 tw4718888257193337602 tw13590083033790587340 tw7842197930713598079 tw14594044200296875337 tw3320059421959315981 tw11808781061265774258 tw8859251787479150554 tw10801781842828803444 tw6188757236639954088 tw14145090661937509857 tw14223062773349667486 tw6725456198771032774 tw12176550916897580461 tw3939195376570677152 tw11346584824040210231 tw5032180917192695062 tw3162216674169729826 tw10650396785526566695:True)
open PySem PySem.W PyProof.Rows
set_option maxRecDepth 100000 in
set_option maxHeartbeats 0 in
theorem PySem.Challenge.cw_stillpoint_k22_answers_of_ones_own_holds : PySem.Challenge.rw_stillpoint_k22_answers_of_ones_own.Holds := by
 w_on;o_law;k_head;(case hw=>w_witness2)
 k_fill
 refine KS.walk (l:=PySem.Challenge.rw_stillpoint_k22_answers_of_ones_own) rfl rfl (fun w h Y=>PySem.W.km_in_of Y) (by decide +kernel) ?F
 case F=>
  intro w mg fa h KX G hmg
  refine' KS.Zym (g:=KS.Gs.mk ..) hmg (KS.Tx.mk ..)
  all_goals try dsimp only
  try any_goals refine' mg_of KX G ?_
  try any_goals refine' mg_none_of KX G ?_
  try any_goals refine' L2.Cls.mk ?_ ?_ ?_ ?_
  try any_goals refine' L2.Mk.mk ?_ ?_ ?_ ?_
  try any_goals refine' L2.Meth.mk ?_ ?_ ?_
  try any_goals refine' L2.Zx8 ?_ ?_ ?_
  try any_goals refine' L2.Ze2.mk ?_
  try any_goals refine' L2.ZoQ.mk ?_ (L2.Zwe ?_) ?_
  try any_goals refine' L2.ZuJ.mk ?_ ?_ ?_ ?_ ?_
  try any_goals refine' L2.ZyQ ?_
  try any_goals refine' L2.Zxt ?_ ?_ ?_ ?_ ?_
  try any_goals refine' KS.ZwN ?_
  try any_goals k_is
  try any_goals rfl
  try any_goals k_is
  try any_goals rfl
  try any_goals decide
  try any_goals kit_is
  try any_goals k_exc
  try any_goals (intro r;cases r <;> refine' L2.Zl1.mk ?_ ?_ ?_ ?_ ?_ (L2.Zwe ?_) ?_ ?_ <;> try dsimp only [KS.Gs.xa])
  try any_goals (intro r u;cases r <;> cases u <;> (try dsimp only [KS.Gs.xa]) <;> first | (show _=some true;kit_is) | (show _=some false;kit_is))
  try any_goals (intro r;cases r <;> try dsimp only [KS.Gs.xa])
  try any_goals k_is
  try any_goals kit_is
