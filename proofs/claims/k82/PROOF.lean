import PyProof.Rows.All
import Wide.All
import OpenK.AllK
import Wide.FinOn
import Lean
import PyProof.EqAt
import PyProof.EqKinds
import PyProof.TupleCall
import PyProof.NeKinds
import PyProof.ListMulAny
import PyProof.Rows.CallKwBuiltin
import PyProof.MinMaxWalk
import PyProof.SeqI3
import PyProof.Rows.TupAdd
import PyProof.MeetsDict
import PyProof.DictList
import PyProof.ZipIter
import PyProof.Rows.ZipGen
import PyProof.ListRange
import PyProof.TupleOfStr
import PyProof.Rows.FStr
import PyProof.Rows.StrJoin2
import PyProof.Rows.Range3
import PyProof.EnumMake
import PyProof.EnumFor
import PyProof.EnumStmt
import KE.KUnpackStar
import KE.KDictList
import PyProof.Rows.SortWalk
import KE.RegKIsAll
import PyProof.NsDelKeeps
import PyProof.Rows.CountFlat
import KE.KRevIter
import PyProof.Draws
import PyProof.ExcInit
import PyProof.InstStoreFacts
import PyProof.DictCompW
import PyProof.DictIter
import PyProof.DictWalks
import PyProof.Rows.SetFrom
import PyProof.SetRoads
import KE.KDictOf
import PyProof.Rows.SortShellK
import PyProof.ReprRoads
import PyProof.CallFns
import PyProof.DictUpdate
import KE.KDictLaws
import PySem.Challenge.RW_fewjoins_k82_whole_no_paper_against_a_ne
open Array renaming getElem?_eq_getElem→cm,length_toList→cn,getElem?_toList→gp,getElem_toList→gB,toList_push→iq,getElem?_eq_none→jQ,getD→kB,toList→md
open Bool renaming and_eq_true→ba,false_ne_true→bn,eq_iff_iff→cO,not_eq_true→c8,not_eq_true'→du,false_eq_true→eh,false_and→gH,true_and→g8,or_false→g9,and_false→jw,or_eq_true→lM,false_or→l9,and_true→l_
open False renaming elim→c_
open Iff renaming rfl→jv
open Int renaming toNat_natCast→cL,eq_ofNat_of_zero_le→dB,ofNat_inj→fW,le_of_lt→iL,ediv_nonneg→jk,natCast_nonneg→k8,emod_lt_of_pos→k9,emod_nonneg→lU,zero_add→mM,ne_of_gt→mN
open List renaming getElem?_eq_getElem→ao,mem_append_right→ar,length_map→aw,size_toArray→aD,getD_eq_getElem?_getD→aF,replicate→aG,getElem?_eq_some_iff→aI,length_append→aJ,mem_cons→aK,mem_singleton→aL,getElem?_map→aM,range→aQ,length_cons→aS,map_cons→aT,contains_iff_mem→aV,mem_cons_self→aX,mem_cons_of_mem→aZ,mem_append→a7,getElem?_append_left→a_,length_take→bi,mem_append_left→bj,getElem?_set_ne→bm,map_append→bp,append_nil→bq,drop_eq_getElem_cons→br,mem_filter→bu,mem_range→bv,getElem?_drop→bw,getElem?_append_right→bx,mem_of_getElem?→bz,mem_map→bD,drop_eq_nil_of_le→bE,not_mem_nil→bF,append_assoc→bG,map_map→bI,length_singleton→bN,find?_cons→bO,getElem?_replicate→bP,take_of_length_le→bS,find?_cons_of_neg→bT,take_add_one→b8,take_length→cj,getElem_of_mem→cp,length_replicate→cx,any_cons→cz,lookup_cons→cC,any_eq_true→cD,pairwise_lt_range→cJ,length_range→cK,getElem?_eq_none→cQ,pairwise_cons→cR,map_nil→cS,ext_getElem?→cW,range_succ→cY,length_filter_le→df,pairwise_iff_getElem→di,drop_left'→dq,filterMap_cons→dw,getElem_mem→dy,getElem?_set_self→dD,nodup_append→dL,lookup→dQ,length_drop→dW,map_take→d7,getElem?_cons_zero→eA,find?_cons_of_pos→eF,take_append_of_le_length→eX,eq_nil_of_length_eq_zero→eY,drop_eq_nil_iff→eZ,nodup_cons→e8,length_reverse→fg,length_pos_iff→fh,getElem?_range→fj,flatMap_append→fk,flatMap_cons→fK,getElem?_take_of_lt→fO,all_cons→fP,filter_cons_of_pos→fY,filter_cons_of_neg→fZ,any_map→ga,foldl_cons→gm,take_append_drop→gq,pairwise_append→gE,mem_of_mem_take→gF,getElem_toArray→gG,filter_append→hV,getElem_take→iC,foldl_append→iD,find?_append→iE,mem_flatMap→iN,flatMap_nil→iO,filter_cons→iP,of_mem_zip→i0,nil_append→i7,length_set→i8,find?_some→i9,idxOf_lt_length_of_mem→jj,length_eraseIdx_of_lt→jr,drop_zero→jt,mem_of_find?_eq_some→jB,set_eq_of_length_le→jK,length_erase_of_mem→jL,mem_of_mem_erase→j8,getElem?_reverse→j9,perm_cons_erase→kf,mem_of_mem_drop→kh,filter_sublist→kz,ne_nil_of_mem→kP,mem_filterMap→kQ,getElem_idxOf→kR,pairwise_map→kZ,map_flatMap→li,drop_length→lm,any_toArray→lq,all_eq_true→lr,length_nil→lC,filter_nil→lD,take_zero→lQ,nodup_nil→lT,any_nil→mw,length→mJ
open List.Nodup renaming length_le_of_subset→cN
open List.Pairwise renaming filter→dC,sublist→mK,and→mL
open List.Perm renaming append_left→ju
open List.cons renaming injEq→eM
open Nat renaming le_refl→aE,ne_of_lt→aR,lt_of_lt_of_le→aU,le_trans→aW,lt_or_ge→bf,zero_le→bg,mod_two_eq_zero_or_one→bQ,le_of_lt→bW,ne_of_gt→ca,zero_add→ck,lt_trichotomy→cX,lt_trans→c7,lt_succ_self→c9,lt_irrefl→dH,pow_le_pow_right→dR,testBit_zero→dZ,testBit_xor→d_,testBit_and→ff,xor_comm→fz,le_of_eq→fA,lt_of_le_of_lt→fE,lt_succ_of_lt→fM,le_succ→fN,xor_zero→gj,pow_lt_pow_right→gN,mul_le_mul→gO,eq_of_testBit_eq→gP,xor_assoc→hU,pos_of_ne_zero→il,sub_zero→iJ,one_shiftLeft→iK,zero_testBit→iV,shiftLeft_eq→iW,min_eq_right→iX,not_lt_zero→jh,min_eq_left→ji,le_total→j6,and_comm→j7,one_mul→ku,not_succ_le_zero→ky,xor_lt_two_pow→kY,succ_ne_self→lA,succ_le_succ→lB,add_assoc→mv,xor_self→mH,sub_self→mI,add_mul→mY
open Ne renaming symm→cM
open Option renaming map_eq_some_iff→aY,toList_some→d5,map_some→f7,isSome_map→g_,getD_none→kO
open Option.some renaming injEq→bJ,inj→cF
open Prod renaming fst→a8,snd→bt
open Prod.mk renaming injEq→dY
open PyProof.Rows renaming callWith_type1→bX,slot_tuple_getitem→b0,step_dedup→dJ,IntsAre→eG,envOfC→e9,callWith_builtin1→gC,AllBare→gQ,subscriptTail→kj,subscriptTail_builtinR→kT,Call_→lG,entry_tuple_getitem→lO,args_tuple_getitem→l5,Subscript_→l7,IsTup→mx
open PyProof.Rows.IntsAre renaming length→iY
open PyProof.Rows.IsTup renaming new→k7
open PySem renaming wpAny_bind→ab,Value→af,Shared→ah,wpAny_pure→aj,wpAny→az,model→aH,sizeLine→aN,Program→aO,mainGlobals→bc,World→be,starEach→bh,Around→bo,wpAny_newObj_type→bL,bootBuiltins→bY,mem_of_lookup→bZ,wpAny_standAt→b9,wpAny_call_entry→b_,foldedSetIterable→cb,codeAny→cc,wpAny_callSpecial?_slot→cg,compareOp→cA,letOwnedTupleGo→cE,wpAny_setField_rec→cG,wpAny_rule→cH,wpAny_mono→cP,Scope→cT,wpAny_holding→cU,wpAny_comprehension_free→cV,wpAny_field→cZ,wpAny_truthy_bool→c0,rawInt→db,intKind→dc,wpAny_askSetting→dh,SetTable→dj,sysModules→dz,assign→dA,backTo→dE,wpAny_passesOwn→dO,binaryOp→dP,wpAny_setState_of→dS,standAt→dU,NameKind→d4,cLine→d9,pyNext→en,wpAny_updateSeq→eC,valueAt→eE,wpAny_pyIter_enum→eP,fits_of_scanBound→eQ,Result→eU,FuncData→eV,builtinLookup_eq_fast→e7,closureFor→e_,assignEach→fc,behindInMarks→fq,wpAny_newFunctionEnv→ft,sliceBounds→fu,keywordEach→fw,theTreesLotGoes→fC,wpAny_typeOf→fH,codeAny_mono→fI,scanBound→fL,wpAny_pyIter_tuple→fQ,wpAny_Call_Name_kw→fR,tupleKind_room_in1→fS,isTrue→fU,wpAny_assign_Name→f8,sizeLine_eq→f9,getItem→f_,plainId_quiet→gb,comprehension→gf,attributeBase→gg,wpAny_isInstance→gr,swapsWith→gu,noteFrame→gx,compTurn→gy,codeAny_loop→gJ,wpAny_specialOf→gR,wpAny_execs_nil→gS,typeLookup_type→gT,codeAny_builtin→gU,exec_Assign_Name_used→gV,wpAny_seqItems→hZ,wpAny_noted→h_,relayAll→ia,newFunctionEnv→ib,backToKw→ie,list_append→ig,IsPart→im,updateSeq→ir,relabel→iu,holding→iw,getMethod→iA,callerA→iB,wpAny_setEntries_of→iG,wpAny_attempt→iM,typeLookup→iR,setsByText→iS,pyIter→iT,setNext→ja,concat_meets→jc,compPost→jd,tupleKind→jx,stored→jy,noFill_tuple_add→jz,IsEnum→jC,subscripted→jF,wpAny_ite_split→jN,Within→jO,Keyword→jR,BindsTo→jU,wpAny_letOwnedTupleGo_enum→jV,isSubtype_type→jW,isSubtype_stop→jX,dictSetDefault→jY,compEnvC→jZ,call_meets→j0,bindArgs→j2,atKey→j3,Paired→j5,seq_tuple_add→km,call→kq,wpAny_pyNext_enum_itemD→kC,field→kE,drawOrder→kF,compStart→kG,bindL→kH,bindC→kI,again→kJ,wpAny_pyNext_enum_endD→kS,newList→kU,codeAny_compStart_list→kW,ElemsOf→k_,wpAny_isTrue_Compare1→la,wpAny_pyIter_revIter→lw,wpAny_of_eq→lx,wpAny_loadName_local→ly,callWith→lz,GenState→lE,CmpOp→lF,wpAny_loadName_cell→lN,wpAny_load→lV,wpAny_Name→lW,findBy_of_findIdx?→lX,cellOf→lY,builtinsNs→lZ,wpAny_storeSet_of→mf,wpAny_sequenceKey→mh,wpAny_pyIter_slot→mj,spliced→mn,slot_list_getitem→mo,Draws→mz,wpAny_execs_cons→mB,storeName→mC,seqItems?→mD,pickOrder→mE,cellsFrom→mF,theWindowsPlace→mS,codeAny_of_tree→mT
open PySem.Around renaming under_plainId→eO,under→hX
open PySem.Builtin renaming bitAnd→eB,bitXor→fo,bitOr→lu
open PySem.Builtin.Dict renaming keyAndDefault→m4
open PySem.Builtin.Frozenset renaming slot0→lH,sizeOf→lI,oneOther→lJ,addrOf→lK
open PySem.Builtin.List renaming listExtendWith→cy,listSameRef→dN,listLengthHint→eK,listItems→iQ,listUpdate→mZ,listTouch→m3
open PySem.Builtin.Range renaming rangeSize→iF
open PySem.Builtin.Slice renaming slicePlaces→dF,sliceAdjust→eW,sliceApplied→g7,slicePartIndex→mQ,sliceFields→mR
open PySem.Builtin.SmallTypes renaming ownedTupleIsFree→fF
open PySem.Builtin.Tuple renaming tupleExact→dM,tupleItemsOf→g5,tupleIsExact→g6
open PySem.Calls renaming spliced_cons→d8,spliced_nil→fG,Name_function_global→jm,callWith_builtin→jP,evalArgs_plain→j_
open PySem.Code renaming isFrame→jT,frames→mP
open PySem.F renaming plainAttrs_list→b7,type_list_append→cq,slot_list_append→cu,plain_extend_loop→de,slot_tuple_iterator_next→d0,slot_enumerate_next→e6,args_tuple_add_2→fD,entry_tuple_add→fJ,slot_tuple_add→fV,args_list_append_2→g0,entry_list_append→ip,slot_dict_setdefault→iI,entry_extend_loop→iZ,slot_dict_update→jg,slot_list_index→jn,plain_list_iadd→jo,plainAttrs_dict→jq,args_tuple_iterator_next_1→jE,slot_set_iter→jJ,entry_tuple_iterator_next→jM,args_enumerate_next_1→ki,entry_enumerate_next→kA
open PySem.Heap renaming get?_push_of_some→aq,lt_size→aA,get?_push_size→aP,SameBut→bH,get?_update_other→bU,get?_update_self→b6,size_push→cf,dictOf_iff→i_,ExtBut→mO
open PySem.Heap.DictOf renaming new→jS
open PySem.Heap.IsSliceOf renaming new→my
open PySem.Heap.SameBut renaming update→cB,refl→jD
open PySem.IsL renaming update→gZ
open PySem.Obj renaming mapSeq→cv,putSet→ik,data_mapDictKeys→kt,data_mapFields→kX
open PySem.Paired renaming length→gM,snoc→l8
open PySem.PassesOwn renaming never→bR
open PySem.SeqAt renaming EqAt→eL,RcAt→jf,notIn_listAt→ko,in_listAt→lg
open PySem.SeqAt.EqAt renaming str_int→jG,int_str→jH
open PySem.SeqAt.RcNeAt renaming tuples→mU,lists_lengths→mV,lists→mW
open PySem.SetTable renaming below→bC,grown→dG,fresh→kL,Probe→kM
open PySem.SetTable.Met.empty renaming injEq→lc
open PySem.SetTable.below renaming go→eR
open PySem.SetTable.probe renaming go→je
open PySem.Str renaming ofString→dX
open PySem.Value renaming isInt_shape→kK,isStrOf→lP,isInt→mr
open PySem.W renaming Frag→aa,mg_none_of→a9,findIn→bb,keepIn→bA,nsIn→bB,fnOf→bK,codeIn→bM,kia_one→bV,isFn→cw,emptyDict→cI,instObj→dg,plainGet→eI,mg_of→eJ,hasDictIn→fB,makesIn→fX,lookIn→gh,plainGet_of→gA,callWith_K→gK,plainOver→gW,methodObj→gX,kitx_list→gY,takerIn→iH,kitOne→iU,cellsFrom_some→jA,methodCall_KW→jI,kitx_tuple→j4,kitx_dict→ke,handedIn→kr,OpenLaw→kN,WalkO→lh
open PySem.W.Looks renaming here→mG
open PySem.W.WShape renaming has→mq
open PySem.Within renaming cons→mX
open PySem.pickOrder renaming go→jb
set_option Elab.async false
set_option linter.all false
set_option maxRecDepth 100000
namespace L2
open PySem PySem.Spec PyProof.Rows
abbrev Key:=Sum Int Str
def y0v:Key->af->Bool
 | .inl k,v=>mr k v
 | .inr x,v=>lP x v
def keyH (w:be):Key->Int
 | .inl k=>hashInt k
 | .inr x=>hashStr w x
theorem d0a:∀ {k:Key} {v:af},y0v k v=true->(∃i t,k=Sum.inl i/\v=Value.int i t)∨(∃x t,k=Sum.inr x/\v=Value.str x t)
 | .inl i,v,h=>by
  obtain⟨t,e⟩:=kK (k:=i) (v:=v) h
  exact .inl ⟨i,t,rfl,e⟩
 | .inr x,v,h=>by
  obtain⟨t,e⟩:=Value.isStrOf_shape (x:=x) (v:=v) h
  exact .inr ⟨x,t,rfl,e⟩
theorem c1a (i:Int)(t:Tok):y0v (.inl i) (.int i t)=true:=by simp[y0v,mr]
theorem b1z (x:Str)(t:Tok):y0v (.inr x) (.str x t)=true:=by simp[y0v,lP]
theorem m1l (a b:Int):decide ((Sum.inl a:Key)=Sum.inl b)=(a==b):=by
 by_cases e:a=b
 ·subst e;simp
 ·have h:¬(Sum.inl a:Key)=Sum.inl b:=fun q=>e (Sum.inl.inj q)
  rw[decide_eq_false h]
  exact(beq_eq_false_iff_ne.mpr e).symm
theorem m1i (a b:Str):decide ((Sum.inr a:Key)=Sum.inr b)=decide (a=b):=by
 by_cases e:a=b
 ·subst e;simp
 ·have h:¬(Sum.inr a:Key)=Sum.inr b:=fun q=>e (Sum.inr.inj q)
  rw[decide_eq_false h,decide_eq_false e]
theorem m1k (a:Int)(b:Str):decide ((Sum.inl a:Key)=Sum.inr b)=false:=decide_eq_false (fun q=>nomatch q)
theorem m1j (a:Str)(b:Int):decide ((Sum.inr a:Key)=Sum.inl b)=false:=decide_eq_false (fun q=>nomatch q)
def c0f (prog:aO)(w:be):PySem.KeyKind prog w Key where
 is:=y0v
 hash:=keyH w
 inj:=fun v a b ha hb=>by
  rcases d0a ha with⟨i,t,rfl,rfl⟩ | ⟨x,t,rfl,rfl⟩
  ·rcases d0a hb with⟨j,u,rfl,e⟩ | ⟨y,u,rfl,e⟩
   ·injection e with e1 _;rw[e1]
   ·exact nomatch e
  ·rcases d0a hb with⟨j,u,rfl,e⟩ | ⟨y,u,rfl,e⟩
   ·exact nomatch e
   ·injection e with e1 _;rw[e1]
 byValue:=fun k v h=>by
  rcases d0a h with⟨i,t,rfl,rfl⟩ | ⟨x,t,rfl,rfl⟩ <;> rfl
 pyHash:=fun hv h=>by
  rcases d0a hv with⟨i,t,rfl,rfl⟩ | ⟨x,t,rfl,rfl⟩
  ·exact wpAny_pyHash_int h
  ·exact wpAny_pyHash_str h
 eqBool:=fun hu hv h=>by
  rcases d0a hu with⟨i,t,rfl,rfl⟩ | ⟨x,t,rfl,rfl⟩
  ·rcases d0a hv with⟨j,u,rfl,rfl⟩ | ⟨y,u,rfl,rfl⟩
   ·rw[m1l]at h;exact wpAny_eqBool_int h
   ·rw[m1k]at h;exact jH i t y u _ _ _ _ h
  ·rcases d0a hv with⟨j,u,rfl,rfl⟩ | ⟨y,u,rfl,rfl⟩
   ·rw[m1j]at h;exact jG x t j u _ _ _ _ h
   ·rw[m1i]at h;exact wpAny_eqBool_str h
 «strs»:=fun k x t v h=>by
  rcases d0a h with⟨i,u,rfl,e⟩ | ⟨y,u,rfl,e⟩
  ·exact nomatch e
  ·injection e with e1 _
   subst e1
   cases v <;> rfl
theorem v0c (prog:aO)(w:be)(i:Int)(t:Tok):(c0f prog w).is (.inl i) (.int i t)=true:=c1a i t
theorem v0b (prog:aO)(w:be)(x:Str)(t:Tok):(c0f prog w).is (.inr x) (.str x t)=true:=b1z x t
inductive V where
 | non | bl (b:Bool) | int (i:Int) | str (x:Str) | byt (b:Array UInt8) | flt (b:UInt64) | ref (a:Addr) | ty (n:String)
 deriving DecidableEq
def RelV:V->af->Prop
 | .non,u=>u=Value.none
 | .bl b,u=>u=Value.bool b
 | .int i,u=>∃t,u=Value.int i t
 | .str x,u=>∃t,u=Value.str x t
 | .byt b,u=>∃t,u=Value.bytes b t
 | .flt b,u=>∃t,u=Value.float b t
 | .ref a,u=>u=Value.ref a
 | .ty n,u=>u=Value.type n
abbrev Vals:List V->List af->Prop:=j5 RelV
theorem Vals.length {xs:List V}{us:List af}(r:Vals xs us):xs.length=us.length:=gM r
theorem Vals.get:∀ {xs:List V} {us:List af} {i:Nat} {x:V},Vals xs us->xs[i]? = some x->∃u,us[i]? = some u/\RelV x u
 | _,_,_,_,.nil,e=>by simp at e
 | _,_,0,_,.cons r _,e=>by simp at e;subst e;exact⟨_,rfl,r⟩
 | _,_,i+1,x,.cons _ t,e=>by
  obtain⟨u,h1,h2⟩:=Vals.get (i:=i) (x:=x) t (by simpa using e)
  exact⟨u,by simpa using h1,h2⟩
theorem Vals.append:∀ {xs ys:List V} {us ws:List af},Vals xs us->Vals ys ws->Vals (xs++ys) (us++ws)
 | _,_,_,_,.nil,s=>s
 | _,_,_,_,.cons r t,s=>.cons r (Vals.append t s)
theorem Vals.take:∀ {xs:List V} {us:List af} (n:Nat),Vals xs us->Vals (xs.take n) (us.take n)
 | _,_,0,_=>.nil
 | _,_,_+1,.nil=>.nil
 | _,_,n+1,.cons r t=>.cons r (Vals.take n t)
theorem Vals.drop:∀ {xs:List V} {us:List af} (n:Nat),Vals xs us->Vals (xs.drop n) (us.drop n)
 | _,_,0,r=>r
 | _,_,_+1,.nil=>.nil
 | _,_,n+1,.cons _ t=>Vals.drop n t
def RelO:Option V->Option af->Prop
 | some v,some u=>RelV v u
 | none,none=>True
 | _,_=>False
def KV {κ:Type}:List (κ×V)->List (κ×af)->Prop:=j5 fun(p:κ×V) (q:κ×af)=>p.1=q.1/\RelV p.2 q.2
def kV:Key->V
 | .inl i=>.int i
 | .inr x=>.str x
inductive HO where
 | lst (xs:List V)
 | tup (xs:List V)
 | dK (kvs:List (Key×V)) | dT (kvs:List (List Key×V))
 | set (S:Int->Bool) (n:Nat)
 | ins (C dx:Addr) (fs:List (Str×V))
 | own (x:Addr)
 | xd (fs:List (Str×V))
 | met (f x:Addr)
 | rng (lo hi:Int)
 | frz (o:Obj) (u:HO)
 | tbl (ps:Array af)
 | ext (φ:Heap->Prop)
 | big (ps:List Addr) (φ:aO->be->Heap->Prop)
abbrev Hp:=Addr->Option HO
def upd (H:Hp)(a:Addr)(o:HO):Hp:=fun b=>if b=a then some o else H b
theorem a0z {H:Hp}{a:Addr}{o:HO}:upd H a o a=some o:=by unfold upd;rw[if_pos rfl]
theorem a0x {H:Hp}{a b:Addr}{o:HO}(h:b≠a):upd H a o b=H b:=by unfold upd;rw[if_neg h]
theorem l0d {H:Hp}{a:Addr}{o u:HO}:upd (upd H a o) a u=upd H a u:=by
 funext b;unfold upd;split <;> rfl
theorem i1u {H:Hp}{a b:Addr}{o u:HO}(h:H a=some o)(h':H b=some u)(d:o≠u):a≠b:=by
 intro e;subst e;rw[h]at h';exact d (cF h')
theorem b0o {H:Hp}{a b:Addr}{o:HO}(h:H a=some o)(h':H b=none):a≠b:=by
 intro e;subst e;rw[h]at h';cases h'
section
variable (P:aO)(w:be)
def d0y (H:Hp)(h:Heap)(a:Addr):HO->Prop
 | .lst xs=>xs.length<=aN/\∃(its:List af) (n:Nat),Vals xs its/\h.get? a=some {cls:=.type "list",data:=.seq its.toArray n}
 | .tup xs=>xs.length<=aN/\∃its:List af,Vals xs its/\mx h a its.toArray
 | .dK kvs=>kvs.length<=aN/\(a==dz)=false/\∃vs,KV kvs vs/\h.DictOf (c0f P w) a vs
 | .dT kvs=>kvs.length<=aN/\(a==dz)=false/\∃xs:List (List Key×Addr×af),
   j5 (fun(p:List Key×V) (q:List Key×Addr×af)=>p.1=q.1/\H q.2.1=some (.tup (p.1.map kV))/\RelV p.2 q.2.2) kvs xs /\
   ∃o es ep,h.get? a=some o/\o.ExactDict/\o.data = .dict es ep/\es.toList=xs.map (entryOfKey (jx (c0f P w)))/\(xs.map (·.1)).Nodup
 | .set S n=>h.SetOf (dc P w) a S n
 | .ins C dx fs=>H dx=some (.own a)/\fs.length<=1000/\dx≠a/\h.get? a=some (dg C dx) /\
   ∃mA,h.Ns1 dx mA/\(∀f,RelO (fs.lookup f) (mA f))/\jO mA (fs.map (·.1))
 | .own _=>∃o,h.get? a=some o
 | .xd fs=>∃mA,h.Ns1 a mA/\∀f,RelO (fs.lookup f) (mA f)
 | .rng lo hi=>∃t u v,h.get? a=some {cls:=.type "range",data:=.fields #[.int lo t,.int hi u,.int 1 v]}
 | .frz o u=>h.get? a=some o/\d0y H h a u
 | .tbl ps=>h.get? a=some {cls:=.none,data:=.fields ps}
 | .met f x=>h.get? a=some (gX (.ref f) (.ref x))
 | .ext φ=>φ h/\(∃o,h.get? a=some o)/\∀h1 h2:Heap,φ h1->(∀o,h1.get? a=some o->h2.get? a=some o)->φ h2
 | .big ps φ=>(∀p∈ps,p≠a/\H p=some (.own a))/\φ P w h/\(∃o,h.get? a=some o)/\∀h1 h2:Heap,φ P w h1->(∀b o,(b=a∨b∈ps)->h1.get? b=some o->h2.get? b=some o)->φ P w h2
def HOk (H:Hp)(h:Heap):Prop:=∀a o,H a=some o->d0y P w H h a o
end
section
variable {P:aO}{w:be}{H H':Hp}{h h':Heap}{a:Addr}{o:HO}
theorem d0y.lt (x:d0y P w H h a o):a<h.objs.size:=by
 cases o with
 | lst xs=>obtain⟨_,_,_,_,e⟩:=x;exact aA e
 | tup xs=>obtain⟨_,_,_,p⟩:=x;exact p.lt
 | dK kvs=>obtain⟨_,_,_,_,o,_,_,e,_⟩:=x;exact aA e
 | dT kvs=>obtain⟨_,_,_,_,o,_,_,e,_⟩:=x;exact aA e
 | set S n=>obtain⟨o,_,_,_,e,_⟩:=x;exact aA e
 | ins C dx fs=>obtain⟨_,_,_,e,_⟩:=x;exact aA e
 | own y=>obtain⟨_,e⟩:=x;exact aA e
 | xd fs=>obtain⟨_,⟨_,_,_,e,_⟩,_⟩:=x;exact aA e
 | rng lo hi=>obtain⟨_,_,_,e⟩:=x;exact aA e
 | frz ob u=>obtain⟨e,_⟩:=x;exact aA e
 | tbl ps=>exact aA (show h.get? a=some _ from x)
 | met f y=>exact aA (show h.get? a=some _ from x)
 | ext φ=>obtain⟨_,⟨_,e⟩,_⟩:=x;exact aA e
 | big ps φ=>obtain⟨_,_,⟨_,e⟩,_⟩:=x;exact aA e
theorem Paired.mapP {α β:Type}{F G:α->β->Prop}:∀ {l₁:List α} {l₂:List β},j5 F l₁ l₂->(∀a b,F a b->G a b)->j5 G l₁ l₂
 | _,_,.nil,_=>.nil
 | _,_,.cons r t,f=>.cons (f _ _ r) (Paired.mapP t f)
theorem d0y.stay (x:d0y P w H h a o)(k:∀b u,(b=a∨H b=some (.own a))->h.get? b=some u->h'.get? b=some u)
  (ho:∀b,H b=some (.own a)->H' b=some (.own a)) (ht:∀b xs,H b=some (.tup xs)->H' b=some (.tup xs)):d0y P w H' h' a o:=by
 induction o with
 | lst xs=>obtain⟨z,its,n,r,e⟩:=x;exact⟨z,its,n,r,k _ _ (.inl rfl) e⟩
 | tup xs=>obtain⟨z,its,r,ob,e,c⟩:=x;exact⟨z,its,r,ob,k _ _ (.inl rfl) e,c⟩
 | dK kvs=>obtain⟨z,y,vs,r,ob,es,ep,e,c⟩:=x;exact⟨z,y,vs,r,ob,es,ep,k _ _ (.inl rfl) e,c⟩
 | dT kvs =>
  obtain⟨z,y,xs,r,ob,es,ep,e,c⟩:=x
  exact⟨z,y,xs,Paired.mapP r fun p q z=>⟨z.1,ht _ _ z.2.1,z.2.2⟩,ob,es,ep,k _ _ (.inl rfl) e,c⟩
 | set S n=>obtain⟨ob,es,ep,t,e,c⟩:=x;exact⟨ob,es,ep,t,k _ _ (.inl rfl) e,c⟩
 | ins C dx fs =>
  obtain⟨d,z,ne,e,mA,⟨od,es,ep,e2,c⟩,r⟩:=x
  exact⟨ho _ d,z,ne,k _ _ (.inl rfl) e,mA,⟨od,es,ep,k _ _ (.inr d) e2,c⟩,r⟩
 | own y=>obtain⟨ob,e⟩:=x;exact⟨ob,k _ _ (.inl rfl) e⟩
 | xd fs=>obtain⟨mA,⟨od,es,ep,e,c⟩,r⟩:=x;exact⟨mA,⟨od,es,ep,k _ _ (.inl rfl) e,c⟩,r⟩
 | rng lo hi=>obtain⟨t,u,v,e⟩:=x;exact⟨t,u,v,k _ _ (.inl rfl) e⟩
 | frz ob u ih=>obtain⟨e,q⟩:=x;exact⟨k _ _ (.inl rfl) e,ih q⟩
 | tbl ps =>
  have e:h.get? a=some {cls:=.none,data:=.fields ps}:=x
  show h'.get? a=some {cls:=.none,data:=.fields ps}
  exact k a _ (.inl rfl) e
 | met f y =>
  have e:h.get? a=some (gX (.ref f) (.ref y)):=x
  show h'.get? a=some (gX (.ref f) (.ref y))
  exact k a _ (.inl rfl) e
 | ext φ=>obtain⟨p,⟨o,e⟩,st⟩:=x;exact⟨st _ _ p fun o q=>k _ _ (.inl rfl) q,⟨o,k _ _ (.inl rfl) e⟩,st⟩
 | big ps φ=>obtain⟨ow,p,⟨o,e⟩,st⟩:=x;exact⟨fun b hb=>⟨(ow b hb).1,ho _ (ow b hb).2⟩,st _ _ p fun b o hb q=>k _ _ (hb.imp id fun z=>(ow b z).2) q,⟨o,k _ _ (.inl rfl) e⟩,st⟩
theorem HOk.lt (x:HOk P w H h)(e:H a=some o):a<h.objs.size:=(x a o e).lt
theorem HOk.fresh (x:HOk P w H h)(e:h.objs.size<=a):H a=none:=by
 cases q:H a with
 | none=>rfl
 | some u=>exact absurd (aU (x.lt q) e) (dH _)
theorem HOk.kept (x:HOk P w H h)(k:∀b u,h.get? b=some u->h'.get? b=some u):HOk P w H h':=fun a o e =>
 (x a o e).stay (fun b u _ q=>k b u q) (fun _ q=>q) fun _ _ q=>q
theorem HOk.laid (x:HOk P w H h)(k:∀b u,h.get? b=some u->h'.get? b=some u)(hp:h.objs.size<=a)(new:d0y P w (upd H a o) h' a o):HOk P w (upd H a o) h':=fun b u e=>by
 have hn:=x.fresh hp
 by_cases hb:b=a
 ·subst hb;rw[a0z]at e;cases e;exact new
 ·rw[a0x hb]at e
  exact(x b u e).stay (fun c v _ q=>k c v q) (fun c q=>by rw[a0x (b0o q hn)];exact q) fun c xs q=>by rw[a0x (b0o q hn)];exact q
end
def Rd (H:Hp)(a:Addr)(u:HO):Prop:=H a=some u ∨ ∃o,H a=some (.frz o u)
theorem Rd.ok {P:aO}{w:be}{H:Hp}{h:Heap}{a:Addr}{u:HO}(r:Rd H a u)(x:HOk P w H h):d0y P w H h a u:=by
 rcases r with r | ⟨o,r⟩
 ·exact x a u r
 ·obtain⟨_,q⟩:=x a _ r
  exact q
def Mut:Option HO->Prop
 | some (.lst _)=>True
 | some (.dK _)=>True
 | some (.dT _)=>True
 | some (.set _ _)=>True
 | some (.ins _ _ _)=>True
 | some (.ext _)=>True
 | some (.big _ _)=>True
 | _=>False
section
variable {P:aO}{w:be}{H:Hp}{h h':Heap}{x e:Addr}{o':HO}
theorem HOk.write (ok:HOk P w H h)(mu:Mut (H x))(he:e=x∨H e=some (.own x))(k:∀b u,b≠e->h.get? b=some u->h'.get? b=some u)(heo:∃u,h'.get? e=some u)
  (new:d0y P w (upd H x o') h' x o'):HOk P w (upd H x o') h':=fun b u q=>by
 have nown:∀c y,H c=some (.own y)->c≠x:=fun c y r z=>by subst z;rw[r]at mu;exact mu
 have ntup:∀c xs,H c=some (.tup xs)->c≠x:=fun c xs r z=>by subst z;rw[r]at mu;exact mu
 by_cases hb:b=x
 ·subst hb;rw[a0z]at q;cases q;exact new
 ·rw[a0x hb]at q
  by_cases hbe:b=e
  ·have q':H b=some (.own x):=by
    rcases he with z | z
    ·exact absurd (hbe.trans z) hb
    ·rw[hbe];exact z
   rw[q]at q';cases q'
   obtain⟨v,hv⟩:=heo
   exact⟨v,by rw[hbe];exact hv⟩
  ·refine(ok b u q).stay (fun c v hc r=>k c v ?_ r) (fun c r=>by rw[a0x (nown c b r)];exact r) fun c xs r=>by rw[a0x (ntup c xs r)];exact r
   rcases hc with rfl | hc
   ·exact hbe
   ·rintro rfl
    rcases he with z | z
    ·exact nown c b hc z
    ·rw[hc]at z;cases z;exact hb rfl
end
structure Un (fs ex:List Addr)(H H':Hp)(h h':Heap):Prop where
 keep:∀b o,h.get? b=some o->H b=none->b∉fs->b∉ex->h'.get? b=some o
 slot:∀b o,h.get? b=some o->H b=none->b∈fs->b∉ex->∃sl,h'.get? b=some {o with slots:=sl}
 free:∀b o,h.get? b=some o->H b=none->b∉ex->H' b=none
 there:∀b o,h.get? b=some o->b∉ex->∃o',h'.get? b=some o'
 tups:∀b xs,H b=some (.tup xs)->H' b=some (.tup xs)
 frzs:∀b o u,H b=some (.frz o u)->H' b=some (.frz o u)
 tbls:∀b ps,H b=some (.tbl ps)->∃more,H' b=some (.tbl (ps++more))
section
variable {fs fs' ex ex':List Addr}{H H1 H2:Hp}{h h1 h2 h':Heap}{a x e:Addr}{o:HO}
theorem Un.any (u:Un fs ex H H1 h h1){b:Addr}{ob:Obj}(q:h.get? b=some ob)(n:H b=none)(hx:b∉ex):∃sl,h1.get? b=some {ob with slots:=sl}:=by
 by_cases hb:b∈fs
 ·exact u.slot b ob q n hb hx
 ·exact⟨ob.slots,u.keep b ob q n hb hx⟩
theorem Un.kept (k:∀b u,h.get? b=some u->h'.get? b=some u):Un fs ex H H h h' :=
 ⟨fun b ob q _ _ _=>k b ob q,fun b ob q _ _ _=>⟨ob.slots,k b ob q⟩,fun _ _ _ n _=>n,fun b ob q _=>⟨ob,k b ob q⟩,fun _ _ q=>q,fun _ _ _ q=>q,fun _ ps q=>⟨#[],by rw[q];simp⟩⟩
theorem Un.refl:Un fs ex H H h h:=Un.kept fun _ _ q=>q
theorem Un.laid (k:∀b u,h.get? b=some u->h'.get? b=some u)(hp:h.objs.size<=a)(hn:H a=none):Un fs ex H (upd H a o) h h' where
 keep:=fun b u q _ _ _=>k b u q
 slot:=fun b u q _ _ _=>⟨u.slots,k b u q⟩
 free:=fun b u q n _=>by rw[a0x (aR (aU (aA q) hp))];exact n
 there:=fun b u q _=>⟨u,k b u q⟩
 tups:=fun b xs q=>by rw[a0x (b0o q hn)];exact q
 frzs:=fun b u xs q=>by rw[a0x (b0o q hn)];exact q
 tbls:=fun b ps q=>⟨#[],by rw[a0x (b0o q hn),q];simp⟩
theorem Un.write (mu:Mut (H x))(he:e=x∨H e=some (.own x))(k:∀b u,b≠e->h.get? b=some u->h'.get? b=some u)(heo:∃u,h'.get? e=some u):Un fs ex H (upd H x o) h h':=by
 have hx:∀b,H b=none->b≠x:=fun b n z=>by subst z;rw[n]at mu;exact mu
 have hb:∀b,H b=none->b≠e:=fun b n z=>by
  subst z
  rcases he with r | r
  ·exact hx b n r
  ·rw[n]at r;cases r
 have hm:∀b u,H b=some u->¬Mut (some u)->b≠x:=fun b u q nm z=>by subst z;rw[q]at mu;exact nm mu
 refine⟨fun b u q n _ _=>k b u (hb b n) q,fun b u q n _ _=>⟨u.slots,k b u (hb b n) q⟩,fun b u q n _=>by rw[a0x (hx b n)];exact n,fun b u q _=>?_,
  fun b xs q=>by rw[a0x (hm b _ q fun z=>z)];exact q,fun b u xs q=>by rw[a0x (hm b _ q fun z=>z)];exact q,fun b ps q=>⟨#[],by rw[a0x (hm b _ q fun z=>z),q];simp⟩⟩
 by_cases hbe:b=e
 ·subst hbe;exact heo
 ·exact⟨u,k b u hbe q⟩
end
def trk (h:Heap)(H:Hp):List Addr:=(aQ h.objs.size).filter fun a=>(H a).isSome
def hidT (h:Heap)(H:Hp):Heap:=PySem.W.hideAll h (trk h H)
theorem c1f (h:Heap)(H:Hp):(hidT h H).objs.size=h.objs.size:=PySem.W.hideAll_size _ _
theorem f1o {h:Heap}{H:Hp}{b:Addr}{o:Obj}(e:h.get? b=some o)(n:H b=none):(hidT h H).get? b=some o :=
 PySem.W.hideAll_get _ e fun hm=>by
  have q:(H b).isSome=true:=(bu.mp hm).2
  rw[n]at q;simp at q
theorem i1r {h:Heap}{H:Hp}{b:Addr}{o:Obj}(e:(hidT h H).get? b=some o):h.get? b=some o/\H b=none:=by
 have e':h.get? b=some o:=PySem.W.of_hideAll (trk h H) e
 refine⟨e',?_⟩
 cases q:H b with
 | none=>rfl
 | some x =>
  have hm:b∈trk h H:=bu.mpr ⟨bv.mpr (aA e'),by simp[q]⟩
  have z:(hidT h H).get? b=none:=PySem.W.hideAll_none (trk h H) hm
  rw[z]at e;cases e
structure Mod (K:aa)(mg:Str->Option af)(base:Heap):Prop where
 kin:K.In base
 glob:base.Ns bc mg
 blt:∃mb,base.Ns lZ mb/\∀x:Str,x ≠ "__name__" -> mb x=bY x
 nolimit:base.NoLimit
structure Cx where
 prog:aO
 w:be
 K:aa
 mg:Str->Option af
 base:Heap
 A:bo
 N:List Str
 s₀:ah
 H₀:Hp
 env:Env
 outer:List Env
 stack:List Env
 ex:List Addr
 fn:Str->Bool
 calm:Bool
 pn:List (Addr×Obj)
 xe:af->ah->Prop
def frs (l:List Env):List Addr:=l.filterMap (·.frame)
abbrev Cx.fs (X:Cx):List Addr:=frs X.outer
def Vis (sc:cT)(x:Str):Prop:=sc.names.lookup x=some .local∨sc.names.lookup x=some .cell∨sc.names.lookup x=some .free
def Loc (sc:cT)(x:Str):Prop:=sc.names.lookup x=some .local∨sc.names.lookup x=some .cell
def Look (env:Env)(h:Heap)(m:Str->Option af)(x:Str)(u:af):Prop :=
 (env.kindOf x=some .local/\m x=some u)∨((env.kindOf x=some .cell∨env.kindOf x=some .free)/\∃c,env.cells.lookup x=some c/\h.IsCell c (some u))
structure Cx.Ok (X:Cx):Prop where
 mod:Mod X.K X.mg X.base
 kind:X.env.scope.kind = .function
 glob:X.env.globals=bc
 blt:X.env.builtins=lZ
 above:X.s₀.heap.objs.size<=X.env.locals
 inj:∀x y c,X.env.cells.lookup x=some c->X.env.cells.lookup y=some c->x=y
 has:∀x,(X.env.kindOf x=some .cell∨X.env.kindOf x=some .free)->∃c,X.env.cells.lookup x=some c
 cab:∀x c,X.fn x=true->X.env.cells.lookup x=some c->X.s₀.heap.objs.size<=c
 hd:X.calm=true->X.A.handled=none
 frames:X.A.frames=some X.stack
 stk:X.stack=X.outer∨(X.stack=X.env::X.outer/\X.env.frame=some X.env.locals)
 exf:∀b∈X.ex,b≠X.env.locals/\∀x c,X.env.cells.lookup x=some c->c≠b
 bs:∀b o,X.base.get? b=some o->X.s₀.heap.get? b=some o/\X.H₀ b=none
 bsz:X.base.objs.size<=X.s₀.heap.objs.size
 noex:∀b o,X.base.get? b=some o->b∉X.ex
 exfs:∀b∈X.ex,b∉X.fs
 funs:X.s₀.heap.FunFrames X.base X.outer
 frf:∀b∈X.fs,X.H₀ b=none
structure Inv (X:Cx)(pins:List (Addr×Obj))(σ:List (Option V))(H:Hp)(s:ah):Prop where
 ok:X.Ok
 os:s.os=X.s₀.os
 bare:gQ s.gens
 base:Un X.fs X.ex X.H₀ H X.s₀.heap s.heap
 loc:∃m,s.heap.Ns X.env.locals m/\∀(i:Nat) (x:Str) (v:V),X.N[i]? = some x->σ[i]? = some (some v)->Vis X.env.scope x->∃u,RelV v u/\Look X.env s.heap m x u
 cell:∀x c,X.env.cells.lookup x=some c->∃v,s.heap.IsCell c v
 free:H X.env.locals=none
 freeC:∀x c,X.env.cells.lookup x=some c->H c=none
 pin:∀p∈X.pn++pins,s.heap.get? p.1=some p.2/\H p.1=none/\p.1≠X.env.locals/\p.1∉X.fs/\∀v,p.2.data ≠ .cell v
 hok:HOk X.prog X.w H s.heap
 len:σ.length=X.N.length
section
variable {X:Cx}{pins:List (Addr×Obj)}{σ:List (Option V)}{H H':Hp}{s:ah}{h':Heap}
theorem Cx.Ok.nofr (ok:X.Ok){b:Addr}{o:Obj}(e:X.base.get? b=some o):b∉X.fs:=fun hb=>by
 have:=(ok.funs.mem hb).1
 rw[e]at this;cases this
theorem Inv.bs (I:Inv X pins σ H s):∀b o,X.base.get? b=some o->s.heap.get? b=some o/\H b=none:=fun b o e =>
 ⟨I.base.keep b o (I.ok.bs b o e).1 (I.ok.bs b o e).2 (I.ok.nofr e) (I.ok.noex b o e),I.base.free b o (I.ok.bs b o e).1 (I.ok.bs b o e).2 (I.ok.noex b o e)⟩
theorem Inv.bk (I:Inv X pins σ H s):∀b o,X.base.get? b=some o->s.heap.get? b=some o:=fun b o e=>(I.bs b o e).1
theorem Inv.mod (I:Inv X pins σ H s):Mod X.K X.mg X.base:=I.ok.mod
theorem Inv.kIn (I:Inv X pins σ H s):X.K.In s.heap:=I.ok.mod.kin.keeps I.bk
theorem Inv.fr (I:Inv X pins σ H s):∃m,Fr X.base X.env.locals s.heap m :=
 let ⟨m,hn,_⟩:=I.loc
 ⟨m,hn,I.bk,aW I.ok.bsz I.ok.above⟩
theorem Inv.lt (I:Inv X pins σ H s):X.env.locals<s.heap.objs.size:=let ⟨_,hn,_⟩:=I.loc;hn.lt
theorem Inv.sz (I:Inv X pins σ H s):X.s₀.heap.objs.size<=s.heap.objs.size:=aW I.ok.above (bW I.lt)
theorem Inv.nofs (I:Inv X pins σ H s){a:Addr}(h:s.heap.objs.size<=a):a∉X.fs:=fun hb=>by
 obtain⟨_,o,ho,_⟩:=I.ok.funs.mem hb
 exact absurd (aU (aA ho) (aW I.sz h)) (dH _)
theorem Inv.cne (I:Inv X pins σ H s):∀x c,X.env.cells.lookup x=some c->c≠X.env.locals:=fun x c e z=>by
 obtain⟨v,o,ho,hd⟩:=I.cell x c e
 obtain⟨m,⟨o',es,ep,ho',hd',_⟩,_⟩:=I.loc
 rw[z,ho']at ho;cases ho;rw[hd']at hd;cases hd
theorem Inv.funs (I:Inv X pins σ H s):s.heap.FunFrames X.base X.outer:=by
 have all:∀(l:List Env),(∀b∈frs l,b∈X.fs)->X.s₀.heap.FunFrames X.base l->s.heap.FunFrames X.base l:=by
  intro l
  induction l with
  | nil=>intro _ _;trivial
  | cons env r ih =>
   intro hs hl
   obtain⟨hk,⟨L,o,hf,hn,ho,hd⟩,hr⟩:=hl
   have hL:L∈X.fs:=hs L (by unfold frs;rw[dw,hf];exact aX)
   obtain⟨sl,e⟩:=I.base.slot L o ho (I.ok.frf L hL) hL fun z=>I.ok.exfs L z hL
   exact⟨hk,⟨L,_,hf,hn,e,hd⟩,ih (fun b hb=>hs b (by unfold frs;rw[dw,hf];exact aZ _ hb)) hr⟩
 exact all X.outer (fun _ hb=>hb) I.ok.funs
theorem Inv.stack (I:Inv X pins σ H s):s.heap.FunFrames X.base X.stack:=by
 rcases I.ok.stk with e | ⟨e,hf⟩
 ·rw[e];exact I.funs
 ·rw[e]
  obtain⟨m,hn,_⟩:=I.loc
  refine .cons (by rw[I.ok.kind];decide) hf hn ?_ I.funs
  exact Heap.get?_none_of_le (aW I.ok.bsz I.ok.above)
theorem Inv.stkSub (I:Inv X pins σ H s):∀b∈frs X.stack,b∈X.env.locals::X.fs:=fun b hb=>by
 rcases I.ok.stk with e | ⟨e,hf⟩
 ·rw[e]at hb;exact aZ _ hb
 ·rw[e]at hb
  unfold frs at hb
  rw[dw,hf]at hb
  exact hb
theorem Inv.stkFree (I:Inv X pins σ H s):∀b∈frs X.stack,H b=none:=fun b hb=>by
 rcases aK.mp (I.stkSub b hb)with e | hb
 ·rw[e];exact I.free
 ·obtain⟨_,o,ho,_⟩:=I.ok.funs.mem hb
  exact I.base.free b o ho (I.ok.frf b hb) fun z=>I.ok.exfs b z hb
theorem Inv.step {g':Array lE}{t':Nat}{d':Drawn}{ch:List Addr}(I:Inv X pins σ H s)
  (hch:∀b∈ch,(b∈X.ex∨X.s₀.heap.objs.size<=b)/\b≠X.env.locals/\(∀x c,X.env.cells.lookup x=some c->c≠b)/\∀p∈X.pn++pins,p.1≠b)
  (keep:∀b o,b≠X.env.locals->b∉X.fs->b∉ch->s.heap.get? b=some o->H b=none->h'.get? b=some o)
  (slot:∀b o,b≠X.env.locals->b∈X.fs->b∉ch->s.heap.get? b=some o->H b=none->∃sl,h'.get? b=some {o with slots:=sl}) (free:∀b o,b∉ch->s.heap.get? b=some o->H b=none->H' b=none)
  (there:∀b o,b∉ch->s.heap.get? b=some o->∃o',h'.get? b=some o')
  (tups:∀b xs,H b=some (.tup xs)->H' b=some (.tup xs)) (frzs:∀b o u,H b=some (.frz o u)->H' b=some (.frz o u)) (tbls:∀b ps,H b=some (.tbl ps)->∃more,H' b=some (.tbl (ps++more)))
  (ns:∀m,s.heap.Ns X.env.locals m->h'.Ns X.env.locals m) (hok:HOk X.prog X.w H' h') (hg:gQ g') :
  Inv X pins σ H' {s with heap:=h',gens:=g',drawn:=d',toks:=t'}:=by
 have neL:∀b o,X.s₀.heap.get? b=some o->b≠X.env.locals:=fun b o e=>aR (aU (aA e) I.ok.above)
 have neC:∀b o,X.s₀.heap.get? b=some o->b∉X.ex->b∉ch:=fun b o e hx hb=>by
  rcases(hch b hb).1 with z | z
  ·exact hx z
  ·exact absurd (aU (aA e) z) (dH _)
 have cellK:∀x c,X.env.cells.lookup x=some c->∀v,s.heap.IsCell c v->h'.IsCell c v:=fun x c e v ⟨o,ho,hd⟩=>by
  have nch:c∉ch:=fun z=>(hch c z).2.2.1 x c e rfl
  by_cases hc:c∈X.fs
  ·obtain⟨sl,q⟩:=slot c o (I.cne x c e) hc nch ho (I.freeC x c e)
   exact⟨_,q,hd⟩
  ·exact⟨o,keep c o (I.cne x c e) hc nch ho (I.freeC x c e),hd⟩
 refine⟨I.ok,I.os,hg,⟨fun b o e n hb hx=>?_,fun b o e n hb hx=>?_,fun b o e n hx=>?_,fun b o e hx=>?_,fun b xs e=>tups b xs (I.base.tups b xs e),fun b o xs e=>frzs b o xs (I.base.frzs b o xs e),fun b ps e=>?_⟩,?_,fun x c e=>?_,?_,fun x c e=>?_,fun p hp=>?_,hok,I.len⟩
 ·exact keep b o (neL b o e) hb (neC b o e hx) (I.base.keep b o e n hb hx) (I.base.free b o e n hx)
 ·obtain⟨sl,e1⟩:=I.base.slot b o e n hb hx
  obtain⟨sl',e2⟩:=slot b _ (neL b o e) hb (neC b o e hx) e1 (I.base.free b o e n hx)
  exact⟨sl',e2⟩
 ·obtain⟨o',e1⟩:=I.base.there b o e hx
  exact free b o' (neC b o e hx) e1 (I.base.free b o e n hx)
 ·obtain⟨o',e1⟩:=I.base.there b o e hx
  exact there b o' (neC b o e hx) e1
 ·obtain⟨m1,e1⟩:=I.base.tbls b ps e
  obtain⟨m2,e2⟩:=tbls b _ e1
  exact⟨m1++m2,by rw[e2,Array.append_assoc]⟩
 ·obtain⟨m,hn,hl⟩:=I.loc
  refine⟨m,ns m hn,fun i x v e1 e2 e3=>?_⟩
  obtain⟨u,r,l⟩:=hl i x v e1 e2 e3
  refine⟨u,r,?_⟩
  rcases l with l | ⟨k,c,e,z⟩
  ·exact .inl l
  ·exact .inr ⟨k,c,e,cellK x c e _ z⟩
 ·obtain⟨v,z⟩:=I.cell x c e
  exact⟨v,cellK x c e v z⟩
 ·obtain⟨m,⟨o,_,_,ho,_⟩,_⟩:=I.loc
  exact free _ o (fun z=>(hch _ z).2.1 rfl) ho I.free
 ·obtain⟨v,o,ho,hd⟩:=I.cell x c e
  exact free c o (fun z=>(hch c z).2.2.1 x c e rfl) ho (I.freeC x c e)
 ·obtain⟨e,n,ne,nf,d⟩:=I.pin p hp
  have nch:p.1∉ch:=fun z=>(hch p.1 z).2.2.2 p hp rfl
  exact⟨keep p.1 p.2 ne nf nch e n,free p.1 p.2 nch e n,ne,nf,d⟩
theorem Inv.un {t':Nat}(I:Inv X pins σ H s)(u:Un X.fs [] H H' s.heap h')(hok:HOk X.prog X.w H' h'):Inv X pins σ H' {s with heap:=h',toks:=t'}:=by
 obtain⟨m,⟨o,es,ep,ho,r⟩,_⟩:=id I.loc
 obtain⟨sl,hL⟩:=u.any ho I.free (by simp)
 exact I.step (g':=s.gens) (d':=s.drawn) (ch:=[]) (fun _ z=>nomatch z) (fun b o _ hb _ e n=>u.keep b o e n hb (by simp)) (fun b o _ hb _ e n=>u.slot b o e n hb (by simp)) (fun b o _ e n=>u.free b o e n (by simp)) (fun b o _ e=>u.there b o e (by simp)) u.tups u.frzs u.tbls (fun m' hm=>by
  obtain⟨o',es',ep',ho',r'⟩:=hm
  rw[ho]at ho';cases ho'
  exact⟨_,es',ep',hL,r'⟩) hok I.bare
theorem Inv.call {g':Array lE}{t':Nat}{d':Drawn}{ch:List Addr}(I:Inv X pins σ H s)(u:Un (frs X.stack) ch H H' s.heap h')(hok:HOk X.prog X.w H' h')(hg:gQ g')
  (hch:∀b∈ch,(b∈X.ex∨X.s₀.heap.objs.size<=b)/\b≠X.env.locals/\(∀x c,X.env.cells.lookup x=some c->c≠b)/\∀p∈X.pn++pins,p.1≠b) :
  Inv X pins σ H' {s with heap:=h',gens:=g',drawn:=d',toks:=t'}:=by
 obtain⟨m,⟨o,es,ep,ho,r⟩,_⟩:=id I.loc
 obtain⟨sl,hL⟩:=u.any ho I.free fun z=>(hch _ z).2.1 rfl
 exact I.step (ch:=ch) hch (fun b o hL hb hc e n=>u.keep b o e n (fun z=>(aK.mp (I.stkSub b z)).elim hL hb) hc) (fun b o _ _ hc e n=>u.any e n hc) (fun b o hc e n=>u.free b o e n hc) (fun b o hc e=>u.there b o e hc) u.tups u.frzs u.tbls (fun m' hm=>by
  obtain⟨o',es',ep',ho',r'⟩:=hm
  rw[ho]at ho';cases ho'
  exact⟨_,es',ep',hL,r'⟩) hok hg
theorem Inv.turned {t':Nat}{it:Addr}(I:Inv X pins σ H s)(k:∀b o,b≠it->s.heap.get? b=some o->h'.get? b=some o)(hn:H it=none)(hL:it≠X.env.locals)
  (h1:it∈X.ex∨X.s₀.heap.objs.size<=it) (h2:∀x c,X.env.cells.lookup x=some c->c≠it) (h3:∀p∈X.pn++pins,p.1≠it):Inv X pins σ H {s with heap:=h',toks:=t'}:=by
 have nit:∀b u,H b=some u->b≠it:=fun b u e z=>by rw[z,hn]at e;cases e
 refine I.step (g':=s.gens) (d':=s.drawn) (ch:=[it]) (fun b hb=>?_) (fun b o _ _ hc e _=>k b o (fun z=>hc (by simp[z])) e) (fun b o _ _ hc e _=>⟨o.slots,k b o (fun z=>hc (by simp[z])) e⟩) (fun _ _ _ _ n=>n)
  (fun b o hc e=>⟨o,k b o (fun z=>hc (by simp[z])) e⟩) (fun _ _ e=>e) (fun _ _ _ e=>e) (fun b ps e=>⟨#[],by rw[e];simp⟩) (fun m hm=>?_) (fun b u e=>?_) I.bare
 ·have e:b=it:=by simpa using hb
  subst e
  exact⟨h1,hL,h2,h3⟩
 ·obtain⟨o,es,ep,ho,r⟩:=hm
  exact⟨o,es,ep,k _ o (cM hL) ho,r⟩
 ·refine(I.hok b u e).stay (fun c v hc q=>k c v ?_ q) (fun _ q=>q) fun _ _ q=>q
  rcases hc with z | z
  ·rw[z];exact nit b u e
  ·exact nit c _ z
theorem Inv.tok (I:Inv X pins σ H s)(t:Nat):Inv X pins σ H {s with toks:=t}:=I.un (h':=s.heap) (t':=t) Un.refl I.hok
theorem Inv.kept {t':Nat}(I:Inv X pins σ H s)(k:∀b u,s.heap.get? b=some u->h'.get? b=some u):Inv X pins σ H {s with heap:=h',toks:=t'}:=I.un (Un.kept k) (I.hok.kept k)
theorem Inv.laid {a:Addr}{o:HO}{t':Nat}(I:Inv X pins σ H s)(k:∀b u,s.heap.get? b=some u->h'.get? b=some u)(hp:s.heap.objs.size<=a)(new:d0y X.prog X.w (upd H a o) h' a o) :
  Inv X pins σ (upd H a o) {s with heap:=h',toks:=t'}:=I.un (Un.laid k hp (I.hok.fresh hp)) (I.hok.laid k hp new)
theorem Inv.write {x e:Addr}{o:HO}{t':Nat}(I:Inv X pins σ H s)(mu:Mut (H x))(he:e=x∨H e=some (.own x))(k:∀b u,b≠e->s.heap.get? b=some u->h'.get? b=some u)(heo:∃u,h'.get? e=some u)
  (new:d0y X.prog X.w (upd H x o) h' x o):Inv X pins σ (upd H x o) {s with heap:=h',toks:=t'}:=I.un (Un.write mu he k heo) (I.hok.write mu he k heo new)
theorem Inv.weak {σ':List (Option V)}(I:Inv X pins σ H s)(hl:σ'.length=σ.length)(w:∀(i:Nat) v,σ'[i]? = some (some v)->σ[i]? = some (some v)):Inv X pins σ' H s :=
 ⟨I.ok,I.os,I.bare,I.base,let ⟨m,hn,hl'⟩:=I.loc;⟨m,hn,fun i x v e1 e2 e3=>hl' i x v e1 (w i v e2) e3⟩,I.cell,I.free,I.freeC,I.pin,I.hok,hl.trans I.len⟩
theorem Inv.pins_of {pins':List (Addr×Obj)}(I:Inv X pins σ H s)(h:∀p∈pins',s.heap.get? p.1=some p.2/\H p.1=none/\p.1≠X.env.locals/\p.1∉X.fs/\∀v,p.2.data ≠ .cell v):Inv X pins' σ H s :=
 ⟨I.ok,I.os,I.bare,I.base,I.loc,I.cell,I.free,I.freeC,fun p hp=>(a7.mp hp).elim (fun z=>I.pin p (bj _ z)) (h p),I.hok,I.len⟩
theorem x0e {N:List Str}(hN:N.Nodup){i j:Nat}{x:Str}(a:N[i]? = some x)(b:N[j]? = some x):i=j:=by
 obtain⟨h1,e1⟩:=aI.mp a
 obtain⟨h2,e2⟩:=aI.mp b
 exact(List.getElem_inj hN).mp (e1.trans e2.symm)
theorem k0b {M:Model}{A:bo}{E:af->ah->Prop}{i:Nat}{x:Str}{v:V}{u:af}{Q:Unit->ah->Prop}(I:Inv X pins σ H s)(hN:X.N.Nodup)(hi:X.N[i]? = some x)(hx:Loc X.env.scope x)(r:RelV v u)
  (h:∀s',Inv X pins (σ.set i (some v)) H s'->(∃a,bH a s.heap s'.heap/\(a=X.env.locals∨X.env.cells.lookup x=some a))->Q () s') (hf:X.fn x=true∨X.env.scope.names.lookup x=some .local:=by first | exact .inl rfl | exact .inr rfl | assumption):az M A (mC X.env x u) Q E s:=by
 obtain⟨m,hn,hl⟩:=id I.loc
 have hcls:(X.env.scope.kind == .class||(X.env.scope.kind == .module&&X.env.locals != X.env.globals))=false:=by rw[I.ok.kind];rfl
 have hiσ:i<σ.length:=by rw[I.len];exact(aI.mp hi).1
 have cne:=I.cne
 have tracked:∀ {a:Addr} {h':Heap},(∃o,s.heap.get? a=some o/\H a=none)->bH a s.heap h'->HOk X.prog X.w H h':=fun{a h'} ha hs b ob e=>by
  obtain⟨_,_,hfree⟩:=ha
  refine(I.hok b ob e).stay (fun c w' hc q=>(hs.2 c ?_).trans q) (fun _ q=>q) fun _ _ q=>q
  rintro rfl
  rcases hc with rfl | hc
  ·rw[hfree]at e;cases e
  ·rw[hfree]at hc;cases hc
 rcases hx with hk | hk
 ·refine wpAny_storeName_local hk hn (fun h' hn' hs=>?_) hcls
  obtain⟨oL,_,_,hoL,_⟩:=id hn
  refine h _ ⟨I.ok,I.os,I.bare,⟨fun b o e n hb hx=>?_,fun b o e n hb hx=>?_,I.base.free,fun b o e hx=>?_,I.base.tups,I.base.frzs,I.base.tbls⟩,⟨_,hn',fun j y v' e1 e2 e3=>?_⟩,fun y c e=>?_,I.free,I.freeC,fun p hp=>?_,tracked ⟨oL,hoL,I.free⟩ hs,by simpa using I.len⟩ ⟨_,hs,.inl rfl⟩
  ·exact(hs.2 b (aR (aU (aA e) I.ok.above))).trans (I.base.keep b o e n hb hx)
  ·obtain⟨sl,e1⟩:=I.base.slot b o e n hb hx
   exact⟨sl,(hs.2 b (aR (aU (aA e) I.ok.above))).trans e1⟩
  ·obtain⟨o',e1⟩:=I.base.there b o e hx
   exact⟨o',(hs.2 b (aR (aU (aA e) I.ok.above))).trans e1⟩
  ·by_cases hj:j=i
   ·subst hj
    rw[hi]at e1;cases e1
    rw[dD hiσ]at e2
    cases e2
    exact⟨u,r,.inl ⟨hk,by simp⟩⟩
   ·rw[bm (cM hj)]at e2
    obtain⟨u',r',q⟩:=hl j y v' e1 e2 e3
    refine⟨u',r',?_⟩
    rcases q with⟨k,e⟩ | ⟨k,c,e,z⟩
    ·refine .inl ⟨k,?_⟩
     have:y≠x:=fun e=>hj (x0e hN e1 (e▸hi))
     simp[this,e]
    ·exact .inr ⟨k,c,e,z.sameBut hs (cne y c e)⟩
  ·obtain⟨w',z⟩:=I.cell y c e
   exact⟨w',z.sameBut hs (cne y c e)⟩
  ·obtain⟨e,n,ne,nf,d⟩:=I.pin p hp
   exact⟨(hs.2 p.1 ne).trans e,n,ne,nf,d⟩
 ·have hfn:X.fn x=true:=by
   rcases hf with z | z
   ·exact z
   ·rw[z]at hk;cases hk
  obtain⟨c,hc⟩:=I.ok.has x (.inl hk)
  obtain⟨w',z⟩:=I.cell x c hc
  refine wpAny_storeName_cell I.ok.kind hk hc z (fun h' hc' hs=>?_)
  obtain⟨oc,hoc,hocd⟩:=id z
  refine h {s with heap:=h'} ⟨I.ok,I.os,I.bare,⟨fun b o e n hb hx=>?_,fun b o e n hb hx=>?_,I.base.free,fun b o e hx=>?_,I.base.tups,I.base.frzs,I.base.tbls⟩,⟨m,hn.sameBut hs (cM (cne x c hc)),fun j y v' e1 e2 e3=>?_⟩,fun y c' e=>?_,I.free,I.freeC,fun p hp=>?_,tracked ⟨oc,hoc,I.freeC x c hc⟩ hs,by simpa using I.len⟩ ⟨c,hs,.inr hc⟩
  ·exact(hs.2 b (aR (aU (aA e) (I.ok.cab x c hfn hc)))).trans (I.base.keep b o e n hb hx)
  ·obtain⟨sl,e1⟩:=I.base.slot b o e n hb hx
   exact⟨sl,(hs.2 b (aR (aU (aA e) (I.ok.cab x c hfn hc)))).trans e1⟩
  ·obtain⟨o',e1⟩:=I.base.there b o e hx
   exact⟨o',(hs.2 b (aR (aU (aA e) (I.ok.cab x c hfn hc)))).trans e1⟩
  ·by_cases hj:j=i
   ·subst hj
    rw[hi]at e1;cases e1
    rw[dD hiσ]at e2
    cases e2
    exact⟨u,r,.inr ⟨.inl hk,c,hc,hc'⟩⟩
   ·rw[bm (cM hj)]at e2
    obtain⟨u',r',q⟩:=hl j y v' e1 e2 e3
    refine⟨u',r',?_⟩
    rcases q with q | ⟨k,c',e,z'⟩
    ·exact .inl q
    ·refine .inr ⟨k,c',e,z'.sameBut hs ?_⟩
     rintro rfl
     exact hj (x0e hN e1 (I.ok.inj _ _ _ e hc▸hi))
  ·by_cases hcc:c'=c
   ·subst hcc;exact⟨_,hc'⟩
   ·obtain⟨w2,z2⟩:=I.cell y c' e
    exact⟨w2,z2.sameBut hs hcc⟩
  ·obtain⟨e,n,ne,nf,d⟩:=I.pin p hp
   refine⟨(hs.2 p.1 ?_).trans e,n,ne,nf,d⟩
   intro q
   rw[q,hoc]at e
   have q':oc=p.2:=cF e
   exact d w' (by rw[<- q'];exact hocd)
theorem q0d {M:Model}{A:bo}{E:af->ah->Prop}{i:Nat}{x:Str}{v:V}{u:af}{Q:Unit->ah->Prop}(I:Inv X pins σ H s)(hN:X.N.Nodup)(hi:X.N[i]? = some x)(hx:Loc X.env.scope x)(r:RelV v u)
  (h:∀s',Inv X pins (σ.set i (some v)) H s'->Q () s') (hf:X.fn x=true∨X.env.scope.names.lookup x=some .local:=by first | exact .inl rfl | exact .inr rfl | assumption):az M A (mC X.env x u) Q E s :=
 k0b I hN hi hx r (fun s' I' _=>h s' I') hf
theorem Inv.call' {s':ah}{ch:List Addr}(I:Inv X pins σ H s)(ho:s'.os=s.os)(u:Un (frs X.stack) ch H H' s.heap s'.heap)(hok:HOk X.prog X.w H' s'.heap)(hg:gQ s'.gens)
  (hch:∀b∈ch,(b∈X.ex∨X.s₀.heap.objs.size<=b)/\b≠X.env.locals/\(∀x c,X.env.cells.lookup x=some c->c≠b)/\∀p∈X.pn++pins,p.1≠b):Inv X pins σ H' s':=by
 obtain⟨h',g',d',t',o'⟩:=s'
 have e:o'=s.os:=ho
 subst e
 exact I.call (g':=g') (t':=t') (d':=d') u hok hg hch
end
abbrev XK:=af->Option Addr->Hp->Prop
abbrev St:=List (Option V)
abbrev VK:=V->Hp->Prop
abbrev TE:=St->Hp->VK->Prop
abbrev TT:=St->Hp->(Bool->Hp->Prop)->Prop
abbrev TA:=St->Hp->(List V->Hp->Prop)->Prop
structure Ends where
 nx:St->Hp->Prop
 rt:VK
 bk:St->Hp->Prop:=fun _ _=>False
 ct:St->Hp->Prop:=fun _ _=>False
abbrev TS:=Ends->St->Hp->Prop
def EP (X:Cx)(pins:List (Addr×Obj))(σ:St)(Q:VK)(u:af)(s':ah):Prop:=∃v H',Inv X pins σ H' s'/\RelV v u/\Q v H'
def TP (X:Cx)(pins:List (Addr×Obj))(σ:St)(Q:Bool->Hp->Prop)(b:Bool)(s':ah):Prop:=∃H',Inv X pins σ H' s'/\Q b H'
def AP (X:Cx)(pins:List (Addr×Obj))(σ:St)(Q:List V->Hp->Prop)(us:List af)(s':ah):Prop:=∃vs H',Inv X pins σ H' s'/\Vals vs us/\Q vs H'
def SP (X:Cx)(pins:List (Addr×Obj))(D:Ends)(f:Flow)(s':ah):Prop :=
 match f with
 | .next=>∃ σ' H',Inv X pins σ' H' s'/\D.nx σ' H'
 | .brk=>∃ σ' H',Inv X pins σ' H' s'/\D.bk σ' H'
 | .cont=>∃ σ' H',Inv X pins σ' H' s'/\D.ct σ' H'
 | .ret u=>∃v σ' H',Inv X pins σ' H' s'/\RelV v u/\D.rt v H'
def PE (X:Cx)(e:Expr)(t:TE):Prop :=
 ∀(pins:List (Addr×Obj)) (s:ah) (σ:St) (H:Hp) (Q:VK),Inv X pins σ H s->t σ H Q->az (aH X.prog X.w) X.A (eval e X.env) (EP X pins σ Q) X.xe s
def PT (X:Cx)(e:Expr)(t:TT):Prop :=
 ∀(pins:List (Addr×Obj)) (s:ah) (σ:St) (H:Hp) (Q:Bool->Hp->Prop),Inv X pins σ H s->t σ H Q->az (aH X.prog X.w) X.A (fU e X.env (eval e X.env)) (TP X pins σ Q) X.xe s
def PW (X:Cx)(e:Expr)(t:TT):Prop :=
 ∀(whole:Sem af) (pins:List (Addr×Obj)) (s:ah) (σ:St) (H:Hp) (Q:Bool->Hp->Prop),Inv X pins σ H s->t σ H Q->az (aH X.prog X.w) X.A (fU e X.env whole) (TP X pins σ Q) X.xe s
theorem PW.pt {X:Cx}{e:Expr}{t:TT}(h:PW X e t):PT X e t:=h _
def PA (X:Cx)(es:List Expr)(t:TA):Prop :=
 ∀(pos:Pos) (pins:List (Addr×Obj)) (s:ah) (σ:St) (H:Hp) (Q:List V->Hp->Prop),Inv X pins σ H s->t σ H Q->az (aH X.prog X.w) X.A (mn (dE pos (bh es X.env))) (AP X pins σ Q) X.xe s
def PS (X:Cx)(st:Stmt)(t:TS):Prop :=
 ∀(pins:List (Addr×Obj)) (s:ah) (σ:St) (H:Hp) (D:Ends),Inv X pins σ H s->t D σ H->az (aH X.prog X.w) X.A (exec st X.env) (SP X pins D) X.xe s
def PSs (X:Cx)(st:List Stmt)(t:TS):Prop :=
 ∀(pins:List (Addr×Obj)) (s:ah) (σ:St) (H:Hp) (D:Ends),Inv X pins σ H s->t D σ H->az (aH X.prog X.w) X.A (execs st X.env) (SP X pins D) X.xe s
theorem thn {α:Type}{t:Sem α}{Q Q':α->ah->Prop}{M:Model}{A:bo}{E:af->ah->Prop}{s:ah}(h:az M A t Q E s)(hQ:∀a s,Q a s->Q' a s):az M A t Q' E s:=cP h hQ fun _ _ x=>x
section
variable {X:Cx}
def tVar (i:Nat):TE:=fun σ H Q=>∃v,σ[i]? = some (some v)/\Q v H
def tC (v:V):TE:=fun _ H Q=>Q v H
theorem l1s {i:Nat}{x:Str}{pos:Pos}(hN:X.N[i]? = some x)(hv:Vis X.env.scope x)(hd:(x==("__debug__" : Str))=false:=by decide)(hcd:(x==("__classdict__" : Str))=false:=by decide):PE X (.Name x pos) (tVar i):=by
 intro pins s σ H Q I h
 obtain⟨v,e,h⟩:=h
 obtain⟨m,hn,hl⟩:=I.loc
 obtain⟨u,r,l⟩:=hl i x v hN e hv
 have fin:EP X pins σ Q u s:=⟨v,H,I,r,h⟩
 rcases l with⟨hk,hm⟩ | ⟨hk,c,hc,hcell⟩
 ·exact lW (ly I.ok.kind hk hn hm fin) hd
 ·rcases hk with hk | hk
  ·exact lW (lN I.ok.kind hk hc hcell fin) hd
  ·exact lW (wpAny_loadName_free I.ok.kind hk hc hcell fin hcd) hd
theorem a0r {i j pos}:PE X (.Constant (.int i) j pos) (tC (.int i)):=fun _ _ _ H _ I h=>wpAny_Constant_int ⟨.int i,H,I.tok _,⟨_,rfl⟩,h⟩
theorem e0u {b j pos}:PE X (.Constant (.bool b) j pos) (tC (.bl b)):=fun _ _ _ H _ I h=>Constant_bool ⟨.bl b,H,I,rfl,h⟩
theorem e0s {x j pos}:PE X (.Constant (.str x) j pos) (tC (.str x)):=fun _ _ _ H _ I h=>Calls.Constant_str ⟨.str x,H,I.tok _,⟨_,rfl⟩,h⟩
def Gl (X:Cx)(x:Str):Prop:=X.env.kindOf x=some .globalImplicit
theorem v0g {E:af->ah->Prop}{pins:List (Addr×Obj)}{s:ah}{σ:St}{H:Hp}{x:Str}{u:af}{pos:Pos}{Q:af->ah->Prop}(I:Inv X pins σ H s)(hg:Gl X x)(hm:X.mg x=some u)(h:Q u s)
  (hd:(x==("__debug__" : Str))=false:=by decide):az (aH X.prog X.w) X.A (eval (.Name x pos) X.env) Q E s :=
 jm I.ok.kind hg (Calls.loadGlobal_global (by rw[I.ok.glob];exact I.mod.glob.keeps I.bk) hm h) hd
theorem j0m {E:af->ah->Prop}{pins:List (Addr×Obj)}{s:ah}{σ:St}{H:Hp}{x:Str}{u:af}{pos:Pos}{Q:af->ah->Prop}(I:Inv X pins σ H s)(hg:Gl X x)(hm:X.mg x=none)(hv:bY x=some u)(h:Q u s)
  (hn:x ≠ "__name__" := by decide) (hd:(x==("__debug__" : Str))=false:=by decide):az (aH X.prog X.w) X.A (eval (.Name x pos) X.env) Q E s:=by
 obtain⟨mb,h1,h2⟩:=I.mod.blt
 exact jm I.ok.kind hg (Calls.loadGlobal_builtin (by rw[I.ok.glob];exact I.mod.glob.keeps I.bk) hm (by rw[I.ok.blt];exact h1.keeps I.bk) ((h2 x hn).trans hv) h) hd
theorem i1i {x:Str}{v:V}{u:af}{pos:Pos}(hg:Gl X x)(hm:X.mg x=some u)(r:RelV v u)(hd:(x==("__debug__" : Str))=false:=by decide):PE X (.Name x pos) (tC v) :=
 fun _ _ _ H _ I h=>v0g I hg hm ⟨v,H,I,r,h⟩ hd
theorem i1k {x:Str}{v:V}{u:af}{pos:Pos}(hg:Gl X x)(hm:X.mg x=none)(hv:bY x=some u)(r:RelV v u)(hn:x ≠ "__name__" := by decide)(hd:(x==("__debug__" : Str))=false:=by decide):PE X (.Name x pos) (tC v) :=
 fun _ _ _ H _ I h=>j0m I hg hm hv ⟨v,H,I,r,h⟩ hn hd
variable {a b:Expr}{ta tb:TE}{pos:Pos}
def PC (X:Cx)(op:lF)(a b:Expr)(t:TE):Prop :=
 ∀(pins:List (Addr×Obj)) (s:ah) (σ:St) (H:Hp) (Q:VK),Inv X pins σ H s->t σ H Q ->
  az (aH X.prog X.w) X.A (eval a X.env) (fun v s₁=>az (aH X.prog X.w) X.A (eval b X.env) (fun u s₂=>az (aH X.prog X.w) X.A (cA op v u) (EP X pins σ Q) X.xe s₂) X.xe s₁) X.xe s
def tB (t:TE):TT:=fun σ H Q=>t σ H fun x H1=>∃c,x = .bl c/\Q c H1
theorem l1v {op:lF}{t:TE}(h:PC X op a b t)(h1:fq op b=false:=by first | exact nobehind _ (by decide) (by decide) | rfl):PE X (.Compare a [op] [b] pos) t:=fun pins s σ H Q I hw=>wpAny_Compare1 (h pins s σ H Q I hw) h1
theorem w0u {op:lF}{t:TE}(h:PC X op a b t)(h1:fq op b=false:=by first | exact nobehind _ (by decide) (by decide) | rfl):PT X (.Compare a [op] [b] pos) (tB t):=by
 intro pins s σ H Q I hw
 refine la (thn (h pins s σ H _ I hw) fun v s1 h1=>thn h1 fun u s2 h2=>thn h2 fun c s3 ⟨x,H1,I1,r1,q1⟩=>?_) h1
 obtain⟨d,rfl,q⟩:=q1
 cases r1
 exact c0 ⟨H1,I1,q⟩
theorem k0i {e:Expr}{t:TE}(h:PE X e t)(he:∀whole,fU e X.env whole=(do let v <- whole;dU e.pos;iw [v] (truthy v)):=by intro _;rfl):PT X e (tB t):=by
 intro pins s σ H Q I hw
 refine isTrue_plain (thn (h pins s σ H _ I hw) fun v s1 ⟨x,H1,I1,r1,q1⟩=>?_) (he _)
 obtain⟨d,rfl,q⟩:=q1
 cases r1
 exact c0 ⟨H1,I1,q⟩
variable {tA tB':TT}{rest:List Expr}
def tAnd (t u:TT):TT:=fun σ H Q=>t σ H fun c H1=>if c=true then u σ H1 Q else Q false H1
def tOr (t u:TT):TT:=fun σ H Q=>t σ H fun c H1=>if c=true then Q true H1 else u σ H1 Q
def tNot (t:TT):TT:=fun σ H Q=>t σ H fun c H1=>Q (!c) H1
theorem l0i (ha:PT X a tA):PW X (.BoolOp .And [a] pos) tA:=by
 intro wh pins s σ H Q I h
 refine isTrue_and (thn (ha pins s σ H Q I h) fun c s1 e=>?_)
 cases c with
 | true=>exact isTrue_and_nil e
 | false=>exact e
theorem a1z (ha:PT X a tA):PW X (.BoolOp .Or [a] pos) tA:=by
 intro wh pins s σ H Q I h
 refine isTrue_or (thn (ha pins s σ H Q I h) fun c s1 e=>?_)
 cases c with
 | false=>exact isTrue_or_nil e
 | true=>exact e
theorem p0f (ha:PT X a tA)(hb:PW X (.BoolOp .And (b::rest) pos) tB'):PW X (.BoolOp .And (a::b::rest) pos) (tAnd tA tB'):=by
 intro wh pins s σ H Q I h
 refine isTrue_and (thn (ha pins s σ H _ I h) fun c s1 ⟨H1,I1,q1⟩=>?_)
 cases c with
 | true=>exact hb wh pins s1 σ H1 Q I1 q1
 | false=>exact⟨H1,I1,q1⟩
theorem e1m (ha:PT X a tA)(hb:PW X (.BoolOp .Or (b::rest) pos) tB'):PW X (.BoolOp .Or (a::b::rest) pos) (tOr tA tB'):=by
 intro wh pins s σ H Q I h
 refine isTrue_or (thn (ha pins s σ H _ I h) fun c s1 ⟨H1,I1,q1⟩=>?_)
 cases c with
 | true=>exact⟨H1,I1,q1⟩
 | false=>exact hb wh pins s1 σ H1 Q I1 q1
theorem l0y (ha:PT X a tA):PT X (.UnaryOp .Not a pos) (tNot tA):=by
 intro pins s σ H Q I h
 exact isTrue_not (ha pins s σ H (fun c H1=>Q (!c) H1) I h)
def l1d (ta tb:TE):TE:=fun σ H Q=>ta σ H fun x H1=>∃c,x = .bl c/\if c=true then tb σ H1 Q else Q (.bl false) H1
def tOrV (ta tb:TE):TE:=fun σ H Q=>ta σ H fun x H1=>∃c,x = .bl c/\if c=true then Q (.bl true) H1 else tb σ H1 Q
def l1a (ta:TE):TE:=fun σ H Q=>ta σ H fun x H1=>∃c,x = .bl c/\Q (.bl (!c)) H1
theorem l0z {op}{t:TE}(h:PE X a t):PE X (.BoolOp op [a] pos) t:=fun pins s σ H Q I hw=>BoolOp_one (h pins s σ H Q I hw)
theorem n0j (ha:PE X a ta)(hb:PE X (.BoolOp .And (b::rest) pos) tb):PE X (.BoolOp .And (a::b::rest) pos) (l1d ta tb):=by
 intro pins s σ H Q I h
 refine BoolOp_and (thn (ha pins s σ H _ I h) fun v s1 ⟨x,H1,I1,r1,q1⟩=>?_)
 obtain⟨c,rfl,q1⟩:=q1
 cases r1
 refine c0 ?_
 cases c with
 | true=>exact hb pins s1 σ H1 Q I1 q1
 | false=>exact⟨.bl false,H1,I1,rfl,q1⟩
theorem n1v (ha:PE X a ta)(hb:PE X (.BoolOp .Or (b::rest) pos) tb):PE X (.BoolOp .Or (a::b::rest) pos) (tOrV ta tb):=by
 intro pins s σ H Q I h
 refine BoolOp_or (thn (ha pins s σ H _ I h) fun v s1 ⟨x,H1,I1,r1,q1⟩=>?_)
 obtain⟨c,rfl,q1⟩:=q1
 cases r1
 refine c0 ?_
 cases c with
 | false=>exact hb pins s1 σ H1 Q I1 q1
 | true=>exact⟨.bl true,H1,I1,rfl,q1⟩
theorem l1t (ha:PE X a ta):PE X (.UnaryOp .Not a pos) (l1a ta):=by
 intro pins s σ H Q I h
 refine UnaryOp_ (thn (ha pins s σ H _ I h) fun v s1 ⟨x,H1,I1,r1,q1⟩=>?_)
 obtain⟨c,rfl,q1⟩:=q1
 cases r1
 exact not_of (c0 ⟨.bl (!c),H1,I1,rfl,q1⟩)
def tIf (t:TT)(ta tb:TE):TE:=fun σ H Q=>t σ H fun c H1=>if c=true then ta σ H1 Q else tb σ H1 Q
theorem e1u {c:Expr}(hc:PT X c tA)(ha:PE X a ta)(hb:PE X b tb):PE X (.IfExp c a b pos) (tIf tA ta tb):=by
 intro pins s σ H Q I h
 refine wpAny_IfExp (thn (hc pins s σ H _ I h) fun d s1 ⟨H1,I1,q1⟩=>?_)
 cases d with
 | true=>exact ha pins s1 σ H1 Q I1 q1
 | false=>exact hb pins s1 σ H1 Q I1 q1
end
def SqL (K:aa)(H:Hp)(a:Addr)(xs:List V):Prop :=
 Rd H a (.lst xs) ∨
  ∃(o:Obj) (its:Array af) (n:Nat),K.lookup a=some o/\o.cls = .type "list" /\ o.dict=none/\o.data = .seq its n/\its.size<=aN/\Vals xs its.toList
def SqT (K:aa)(H:Hp)(a:Addr)(xs:List V):Prop :=
 Rd H a (.tup xs) ∨
  ∃(o:Obj) (its:Array af) (n:Nat),K.lookup a=some o/\o.cls = .type "tuple" /\ o.data = .seq its n/\its.size<=aN/\Vals xs its.toList
def absV:af->Option V
 | .none=>some .non
 | .bool b=>some (.bl b)
 | .int i _=>some (.int i)
 | .str x _=>some (.str x)
 | .bytes b _=>some (.byt b)
 | .float b _=>some (.flt b)
 | .ref a=>some (.ref a)
 | .type n=>some (.ty n)
 | _=>none
theorem RelV.abs {x:V}{u:af}(r:RelV x u):absV u=some x:=by
 cases x with
 | non=>cases r;rfl
 | bl _=>cases r;rfl
 | int _=>obtain⟨t,rfl⟩:=r;rfl
 | str _=>obtain⟨t,rfl⟩:=r;rfl
 | byt _=>obtain⟨t,rfl⟩:=r;rfl
 | flt _=>obtain⟨t,rfl⟩:=r;rfl
 | ref _=>cases r;rfl
 | ty _=>cases r;rfl
theorem RelV.inj {x y:V}{u:af}(r:RelV x u)(q:RelV y u):x=y:=cF (r.abs.symm.trans q.abs)
theorem Vals.inj:∀ {xs ys:List V} {us:List af},Vals xs us->Vals ys us->xs=ys
 | _,_,_,.nil,.nil=>rfl
 | _,_,_,.cons r t,.cons r' t'=>by rw[r.inj r',Vals.inj t t']
section
variable {X:Cx}{pins:List (Addr×Obj)}{σ:St}{H:Hp}{s:ah}{a:Addr}{xs ys:List V}
theorem SqL.of {K:aa}(h:H a=some (.lst xs)):SqL K H a xs:=.inl (.inl h)
theorem SqT.of {K:aa}(h:H a=some (.tup xs)):SqT K H a xs:=.inl (.inl h)
theorem Inv.list (I:Inv X pins σ H s)(h:SqL X.K H a xs):∃its:List af,Vals xs its/\PlainL s.heap a its.toArray/\xs.length<=aN:=by
 rcases h with h | ⟨o,its,n,hk,hc,hd,hs,hz,r⟩
 ·obtain⟨z,its,n,r,e⟩:=h.ok I.hok
  exact⟨its,r,⟨_,n,e,rfl,rfl,rfl⟩,z⟩
 ·refine⟨its.toList,r,⟨o,n,I.kIn a o hk,hc,hd,by simpa using hs⟩,?_⟩
  have e:=r.length
  simp only[cn]at e
  omega
theorem Inv.tuple (I:Inv X pins σ H s)(h:SqT X.K H a xs):∃its:List af,Vals xs its/\mx s.heap a its.toArray/\xs.length<=aN:=by
 rcases h with h | ⟨o,its,n,hk,hc,hs,hz,r⟩
 ·obtain⟨z,its,r,p⟩:=h.ok I.hok
  exact⟨its,r,p,z⟩
 ·refine⟨its.toList,r,⟨o,I.kIn a o hk,hc,n,by simpa using hs⟩,?_⟩
  have e:=r.length
  simp only[cn]at e
  omega
theorem Inv.list_inj (I:Inv X pins σ H s)(h:SqL X.K H a xs)(h':SqL X.K H a ys):xs=ys:=by
 obtain⟨its,r,⟨o,n,e,_,_,d⟩,_⟩:=I.list h
 obtain⟨its',r',⟨o',n',e',_,_,d'⟩,_⟩:=I.list h'
 rw[e]at e';cases e'
 rw[d]at d'
 injection d' with d1 _
 have:its=its':=by simpa using congrArg md d1
 subst this
 exact r.inj r'
theorem Inv.tuple_inj (I:Inv X pins σ H s)(h:SqT X.K H a xs)(h':SqT X.K H a ys):xs=ys:=by
 obtain⟨its,r,⟨o,e,_,n,d⟩,_⟩:=I.tuple h
 obtain⟨its',r',⟨o',e',_,n',d'⟩,_⟩:=I.tuple h'
 rw[e]at e';cases e'
 rw[d]at d'
 injection d' with d1 _
 have:its=its':=by simpa using congrArg md d1
 subst this
 exact r.inj r'
end
abbrev Cx.wish (X:Cx)(E:af->ah->Prop):Cx:={X with xe:=E}
abbrev Cx.nox (X:Cx):Cx:=X.wish fun _ _=>False
theorem Cx.Ok.wish {X:Cx}(ok:X.Ok)(E:af->ah->Prop):(X.wish E).Ok :=
 ⟨ok.mod,ok.kind,ok.glob,ok.blt,ok.above,ok.inj,ok.has,ok.cab,ok.hd,ok.frames,ok.stk,ok.exf,ok.bs,ok.bsz,ok.noex,ok.exfs,ok.funs,ok.frf⟩
theorem Cx.Ok.unwish {X:Cx}{E:af->ah->Prop}(ok:(X.wish E).Ok):X.Ok :=
 ⟨ok.mod,ok.kind,ok.glob,ok.blt,ok.above,ok.inj,ok.has,ok.cab,ok.hd,ok.frames,ok.stk,ok.exf,ok.bs,ok.bsz,ok.noex,ok.exfs,ok.funs,ok.frf⟩
section
variable {X:Cx}{pins:List (Addr×Obj)}{σ:St}{H:Hp}{s:ah}{E:af->ah->Prop}
theorem Inv.wish (I:Inv X pins σ H s)(E:af->ah->Prop):Inv (X.wish E) pins σ H s:=⟨I.ok.wish E,I.os,I.bare,I.base,I.loc,I.cell,I.free,I.freeC,I.pin,I.hok,I.len⟩
theorem Inv.unwish (I:Inv (X.wish E) pins σ H s):Inv X pins σ H s:=⟨I.ok.unwish,I.os,I.bare,I.base,I.loc,I.cell,I.free,I.freeC,I.pin,I.hok,I.len⟩
theorem SP.unwish {D:Ends}{f:Flow}{s':ah}(h:SP (X.wish E) pins D f s'):SP X pins D f s':=by
 cases f with
 | next=>obtain⟨σ',H',I,q⟩:=h;exact⟨σ',H',I.unwish,q⟩
 | brk=>obtain⟨σ',H',I,q⟩:=h;exact⟨σ',H',I.unwish,q⟩
 | cont=>obtain⟨σ',H',I,q⟩:=h;exact⟨σ',H',I.unwish,q⟩
 | ret u=>obtain⟨v,σ',H',I,r,q⟩:=h;exact⟨v,σ',H',I.unwish,r,q⟩
theorem PSs.nox {st:List Stmt}{t:TS}(h:PSs X.nox st t):PSs X st t:=fun pins s σ H D I hw =>
 cP (h pins s σ H D (I.wish _) hw) (fun _ _ q=>q.unwish) fun _ _ z=>c_ z
end
section
variable {X:Cx}{st:Stmt}{rest:List Stmt}{t u:TS}{e:Expr}{te:TE}{pos:Pos}
def tNext:TS:=fun D σ H=>D.nx σ H
def tSeq (t u:TS):TS:=fun D σ H=>t {D with nx:=u D} σ H
theorem c0e:PSs X [] tNext:=fun _ _ σ H _ I h=>gS ⟨σ,H,I,h⟩
theorem a0h (h1:PS X st t)(h2:PSs X rest u):PSs X (st::rest) (tSeq t u):=by
 intro pins s σ H D I h
 refine mB (thn (h1 pins s σ H {D with nx:=u D} I h) fun f s1 q=>?_)
 cases f with
 | next =>
  obtain⟨σ',H',I',q⟩:=q
  exact h2 pins s1 σ' H' D I' q
 | ret v=>exact q
 | brk=>exact q
 | cont=>exact q
theorem a0l (h1:PS X st t):PSs X [st] t:=by
 intro pins s σ H D I h
 refine mB (thn (h1 pins s σ H D I h) fun f s1 q=>?_)
 cases f with
 | next=>exact gS q
 | ret v=>exact q
 | brk=>exact q
 | cont=>exact q
theorem Inv.quiet {pins:List (Addr×Obj)}{σ:St}{H:Hp}{s:ah}(I:Inv X pins σ H s):interactive X.env=false:=by simp[interactive,I.ok.kind]
def l1b (te:TE):TS:=fun D σ H=>te σ H fun _ H1=>D.nx σ H1
theorem i0d (he:PE X e te)(hs:gu e none pos.line X.env=pure false:=by rfl):PS X (.Expr e pos) (l1b te):=by
 intro pins s σ H D I h
 exact wpAny_Expr_any (thn (he pins s σ H _ I h) fun v s1 ⟨x,H1,I1,r1,q1⟩=>⟨σ,H1,I1,q1⟩) I.quiet hs
def tRet (te:TE):TS:=fun D σ H=>te σ H D.rt
theorem b0f (he:PE X e te):PS X (.Return (some e) pos) (tRet te):=by
 intro pins s σ H D I h
 exact wpAny_Return_some (thn (he pins s σ H _ I h) fun v s1 ⟨x,H1,I1,r1,q1⟩=>⟨x,σ,H1,I1,r1,q1⟩)
def tIfS (c:TT)(t u:TS):TS:=fun D σ H=>c σ H fun b H1=>if b=true then t D σ H1 else u D σ H1
theorem f0h {c:Expr}{a b:List Stmt}{tc:TT}(hc:PT X c tc)(ha:PSs X a t)(hb:PSs X b u):PS X (.If c a b pos) (tIfS tc t u):=by
 intro pins s σ H D I h
 refine wpAny_If (thn (hc pins s σ H _ I h) fun d s1 ⟨H1,I1,q1⟩=>?_)
 cases d with
 | true=>exact ha pins s1 σ H1 D I1 q1
 | false=>exact hb pins s1 σ H1 D I1 q1
def tNever:TS:=fun _ _ _=>False
theorem e1q:PS X st tNever:=fun _ _ _ _ _ _ h=>h.elim
end
abbrev TG:=V->St->Hp->(St->Hp->Prop)->Prop
abbrev TGs:=List V->St->Hp->(St->Hp->Prop)->Prop
def PG (X:Cx)(target:Expr)(t:TG):Prop :=
 ∀(pins:List (Addr×Obj)) (s:ah) (σ:St) (H:Hp) (v:V) (u:af) (Q:St->Hp->Prop),Inv X pins σ H s->RelV v u->t v σ H Q ->
  az (aH X.prog X.w) X.A (dA target X.env u) (fun _ s'=>∃ σ' H',Inv X pins σ' H' s'/\Q σ' H') X.xe s
def PGs (X:Cx)(ts:List Expr)(t:TGs):Prop :=
 ∀(pins:List (Addr×Obj)) (s:ah) (σ:St) (H:Hp) (vs:List V) (us:List af) (Q:St->Hp->Prop),Inv X pins σ H s->Vals vs us->t vs σ H Q ->
  az (aH X.prog X.w) X.A (assignInOrder ((fc ts X.env).map (·.2)) us) (fun _ s'=>∃ σ' H',Inv X pins σ' H' s'/\Q σ' H') X.xe s
abbrev TIp:=V->V->Hp->VK->Prop
def PIp (X:Cx)(op:Operator)(t:TIp):Prop :=
 ∀(pins:List (Addr×Obj)) (s:ah) (σ:St) (H:Hp) (x y:V) (v u:af) (Q:VK),Inv X pins σ H s->RelV x v->RelV y u->t x y H Q ->
  az (aH X.prog X.w) X.A (inplaceOp op v u) (EP X pins σ Q) X.xe s
section
variable {X:Cx}{pos:Pos}
def f1r (i:Nat):TG:=fun v σ H Q=>Q (σ.set i (some v)) H
theorem a0n {i:Nat}{x:Str}(hN:X.N.Nodup)(hi:X.N[i]? = some x)(hx:Loc X.env.scope x)(hf:X.fn x=true∨X.env.scope.names.lookup x=some .local:=by first | exact .inl rfl | exact .inr rfl | assumption):PG X (.Name x pos) (f1r i):=by
 intro pins s σ H v u Q I r h
 exact f8 (q0d I hN hi hx r (fun s' I'=>⟨_,H,I',h⟩) hf)
def gNil:TGs:=fun vs σ H Q=>vs=[]/\Q σ H
def n1a (t:TG)(u:TGs):TGs:=fun vs σ H Q=>∃v r,vs=v::r/\t v σ H fun σ' H'=>u r σ' H' Q
theorem c0r:PGs X [] gNil:=by
 intro pins s σ H vs us Q I r h
 obtain⟨e,h⟩:=h
 subst e
 cases r
 exact assignInOrder_nil ⟨σ,H,I,h⟩
theorem a0o {e:Expr}{es:List Expr}{t:TG}{u:TGs}(h1:PG X e t)(h2:PGs X es u)
  (hs:(fc (e::es) X.env).map (·.2)=dA e X.env::(fc es X.env).map (·.2):=by rfl):PGs X (e::es) (n1a t u):=by
 intro pins s σ H vs us Q I r h
 obtain⟨v,vr,e1,h⟩:=h
 subst e1
 cases r with
 | cons r rr =>
  rw[hs]
  refine assignInOrder_cons (thn (h1 pins s σ H _ _ _ I r h) fun _ s1 ⟨σ1,H1,I1,q1⟩=>?_)
  exact h2 pins s1 σ1 H1 _ _ Q I1 rr q1
def gTup (K:aa)(n:Nat)(t:TGs):TG:=fun v σ H Q=>∃a xs,v = .ref a/\SqT K H a xs/\xs.length=n/\t xs σ H Q
theorem l1r {es:List Expr}{k:Nat}{t:TGs}{n:Nat}(hc:X.calm=true)(h:PGs X es t)
  (hn:(fc es X.env).length=n:=by rfl) (hst:(fc es X.env).findIdx? (·.1)=none:=by rfl):PG X (.Tuple es k pos) (gTup X.K n t):=by
 intro pins s σ H v u Q I r hw
 obtain⟨a,xs,e1,hq,hl,hw⟩:=hw
 subst e1
 cases r
 obtain⟨its,rv,ht,hz⟩:=I.tuple hq
 refine assign_Tuple_tuple (I.ok.hd hc) ht (by simp[hn,<- hl,rv.length]) hst fun h' hx=>?_
 have I1:Inv X pins σ H {s with heap:=h'}:=I.kept (t':=s.toks) fun b o e=>hx b o (aR (aA e)) e
 exact h pins _ σ H xs _ Q I1 (by simpa using rv) hw
def tAsg (te:TE)(g:TG):TS:=fun D σ H=>te σ H fun x H1=>g x σ H1 D.nx
theorem j0k {tg e:Expr}{te:TE}{g:TG}(he:PE X e te)(hg:PG X tg g)(hs:swapsWithSole [tg] e pos.line X.env=pure false:=by rfl)(hw:swappedStores [tg] e X.env=pure none:=by rfl)
  (h1:(fc [tg] X.env).map (·.2)=[dA tg X.env]:=by rfl):PS X (.Assign [tg] e pos) (tAsg te g):=by
 intro pins s σ H D I h
 refine wpAny_Assign_stores (thn (he pins s σ H _ I h) fun v s1 ⟨x,H1,I1,r1,q1⟩=>?_) hs hw
 rw[h1]
 exact thn (hg pins s1 σ H1 x v _ I1 r1 q1) fun _ s2 q=>q
theorem c0k {i:Nat}{x:Str}{e:Expr}{te:TE}{pos':Pos}(hN:X.N.Nodup)(hi:X.N[i]? = some x)(hx:Loc X.env.scope x)(he:PE X e te)(hs:gu e (some (.Name x pos')) pos.line X.env=pure false:=by rfl)(hf:X.fn x=true∨X.env.scope.names.lookup x=some .local:=by first | exact .inl rfl | exact .inr rfl | assumption) :
  PS X (.Assign [.Name x pos'] e pos) (tAsg te (f1r i)):=by
 intro pins s σ H D I h
 refine wpAny_Assign_Name (thn (he pins s σ H _ I h) fun v s1 ⟨y,H1,I1,r1,q1⟩=>?_) hs
 exact q0d I1 hN hi hx r1 (fun s2 I2=>⟨_,H1,I2,q1⟩) hf
def tAug (i:Nat)(te:TE)(ti:TIp):TS:=fun D σ H=>∃x,σ[i]? = some (some x)/\te σ H fun y H1=>ti x y H1 fun z H2=>D.nx (σ.set i (some z)) H2
theorem l1o {i:Nat}{x:Str}{e:Expr}{te:TE}{op:Operator}{ti:TIp}{pos':Pos}(hN:X.N.Nodup)(hi:X.N[i]? = some x)(hx:Loc X.env.scope x)(he:PE X e te)(ho:PIp X op ti)(hf:X.fn x=true∨X.env.scope.names.lookup x=some .local:=by first | exact .inl rfl | exact .inr rfl | assumption) :
  PS X (.AugAssign (.Name x pos') op e pos) (tAug i te ti):=by
 intro pins s σ H D I h
 obtain⟨v,e1,h⟩:=h
 obtain⟨m,hn,hl⟩:=I.loc
 have vis:Vis X.env.scope x:=by rcases hx with k | k;exact .inl k;exact .inr (.inl k)
 obtain⟨u,r,l⟩:=hl i x v hi e1 vis
 refine wpAny_AugAssign_Name ?_
 have go:az (aH X.prog X.w) X.A (eval e X.env) (fun w s₂=>az (aH X.prog X.w) X.A (inplaceOp op u w) (fun r s₃=>az (aH X.prog X.w) X.A (mC X.env x r) (fun _=>SP X pins D .next) X.xe s₃) X.xe s₂) X.xe s:=by
  refine thn (he pins s σ H _ I h) fun w s1 ⟨y,H1,I1,r1,q1⟩=>?_
  refine thn (ho pins s1 σ H1 v y u w _ I1 r r1 q1) fun z s2 ⟨zv,H2,I2,r2,q2⟩=>?_
  exact q0d I2 hN hi hx r2 (fun s3 I3=>⟨_,H2,I3,q2⟩) hf
 rcases l with⟨hk,hm⟩ | ⟨hk,c,hc,hcell⟩
 ·exact ly I.ok.kind hk hn hm go
 ·rcases hk with hk | hk
  ·exact lN I.ok.kind hk hc hcell go
  ·rcases hx with k | k
   ·have:X.env.scope.names.lookup x=some .free:=hk
    rw[k]at this;cases this
   ·have:X.env.scope.names.lookup x=some .free:=hk
    rw[k]at this;cases this
def ipI (f:Int->Int->Int):TIp:=fun x y H Q=>∃i j,x = .int i/\y = .int j/\Q (.int (f i j)) H
theorem m1t:PIp X .Add (ipI fun i j=>i+j):=by
 intro pins s σ H x y v u Q I r1 r2 h
 obtain⟨i,j,e1,e2,q⟩:=h
 subst e1;subst e2
 obtain⟨t,rfl⟩:=r1
 obtain⟨t',rfl⟩:=r2
 exact iadd_int ⟨.int _,H,I.tok _,⟨_,rfl⟩,q⟩
end
section
variable {X:Cx}{pos:Pos}
def g1h (c:TT)(tb:TS):TS:=fun D σ H=>∃W:Nat->St->Hp->Prop,(∃m,W m σ H)/\∀m σ H,W m σ H ->
 c σ H fun b H1=>if b=true then ∃N:St->Hp->Prop,(∀ σ' H',N σ' H'->∃m',m'<m/\W m' σ' H')/\tb {D with nx:=N,ct:=N,bk:=D.nx} σ H1 else D.nx σ H1
theorem e1p {c:Expr}{body:List Stmt}{tc:TT}{tb:TS}(hp:PassesOwn (aH X.prog X.w) X.A X.env X.xe)(hc:PT X c tc)(hb:PSs X body tb):PS X (.While c body [] pos) (g1h tc tb):=by
 intro pins s σ H D I h
 obtain⟨W,⟨m0,w0⟩,turn⟩:=h
 refine wpAny_While (codeAny_whileLoop (fun n s'=>∃ σ' H',Inv X pins σ' H' s'/\W n σ' H') ?_ m0 ⟨σ,H,I,w0⟩)
 rintro n s1 ⟨σ1,H1,I1,w1⟩
 refine dO hp (thn (hc pins s1 σ1 H1 _ I1 (turn n σ1 H1 w1)) fun b s2 ⟨H2,I2,q2⟩=>?_)
 cases b with
 | true =>
  obtain⟨N,hN,q2⟩:=q2
  rw[if_pos rfl]
  refine dO hp (thn (hb pins s2 σ1 H2 _ I2 q2) fun f s3 q3=>?_)
  cases f with
  | next =>
   obtain⟨σ3,H3,I3,n3⟩:=q3
   obtain⟨m',hm,w3⟩:=hN σ3 H3 n3
   exact⟨m',hm,σ3,H3,I3,w3⟩
  | cont =>
   obtain⟨σ3,H3,I3,n3⟩:=q3
   obtain⟨m',hm,w3⟩:=hN σ3 H3 n3
   exact⟨m',hm,σ3,H3,I3,w3⟩
  | brk=>exact q3
  | ret v=>exact q3
 | false =>
  rw[if_neg bn]
  exact gS ⟨σ1,H2,I2,q2⟩
end
structure It where
 go:Nat->Hp->Prop
 yld:Nat->Hp->V->Hp->Prop
 stop:Nat->Hp->Prop
def FpOk (X:Cx)(pins:List (Addr×Obj))(H:Hp)(b:Addr):Prop :=
 H b=none/\b≠X.env.locals/\b∉X.fs/\(b∈X.ex∨X.s₀.heap.objs.size<=b)/\(∀x c,X.env.cells.lookup x=some c->c≠b)/\∀p∈X.pn++pins,p.1≠b
theorem Inv.fpOk {X:Cx}{pins:List (Addr×Obj)}{σ:St}{H H':Hp}{s:ah}{b:Addr}(I:Inv X pins σ H s)(hb:s.heap.objs.size<=b)(hn:H' b=none):FpOk X pins H' b:=by
 refine⟨hn,ca (aU I.lt hb),I.nofs hb,.inr (aW I.sz hb),fun x c e z=>?_,fun p hp z=>?_⟩
 ·obtain⟨v,q⟩:=I.cell x c e
  exact absurd (aU q.lt (by rw[z];exact hb)) (dH _)
 ·exact absurd (aU (aA (I.pin p hp).1) (by rw[z];exact hb)) (dH _)
structure Turn (P:aO)(w:be)(K:aa)(tg:Expr)(J:It)(fp:List Addr)(it:Addr)(tn:Nat->Heap->Prop):Prop where
 mem:it∈fp
 obj:∀i h,tn i h->∀b∈fp,∃o,h.get? b=some o/\∀v,o.data ≠ .cell v
 keep:∀i h h',tn i h->(∀b∈fp,∀o,h.get? b=some o->h'.get? b=some o)->tn i h'
 item:∀(X:Cx),X.prog=P->X.w=w->X.K=K->X.calm=true->∀(i:Nat) (pins:List (Addr×Obj)) (s:ah) (σ:St) (H:Hp) (E:af->ah->Prop),Inv X pins σ H s->(∀b∈fp,FpOk X pins H b)->tn i s.heap->J.go i H ->
  az (aH P w) X.A (en (.ref it)) (fun r s1=>∃u,r=some u /\
   az (aH P w) X.A (cE tg (.ref it) u) (fun _ s2=>∃x H',Inv X pins σ H' s2/\RelV x u/\J.yld i H x H'/\tn (i+1) s2.heap/\∀b∈fp,H' b=none) E s1) E s
 done:∀(X:Cx),X.prog=P->X.w=w->X.K=K->X.calm=true->∀(i:Nat) (pins:List (Addr×Obj)) (s:ah) (σ:St) (H:Hp) (E:af->ah->Prop),Inv X pins σ H s->(∀b∈fp,FpOk X pins H b)->tn i s.heap->J.stop i H ->
  az (aH P w) X.A (en (.ref it)) (fun r s1=>r=none/\Inv X pins σ H s1) E s
 self:∀(A:bo) (i:Nat) (s:ah) (Q:af->ah->Prop) (E:af->ah->Prop),tn i s.heap->Q (.ref it) s->az (aH P w) A (iT (.ref it)) Q E s
abbrev TI:=St->Hp->(It->Hp->Prop)->Prop
def PIE (X:Cx)(pins:List (Addr×Obj))(σ:St)(tg:Expr)(R:It->Hp->Prop)(itv:af)(s2:ah):Prop :=
 ∃(it:Addr) (fp:List Addr) (tn:Nat->Heap->Prop) (J:It) (H':Hp),itv = .ref it/\Inv X pins σ H' s2/\Turn X.prog X.w X.K tg J fp it tn/\tn 0 s2.heap/\(∀b∈fp,FpOk X pins H' b)/\R J H'
def PI (X:Cx)(tg iter:Expr)(wi:TI):Prop :=
 ∀(pins:List (Addr×Obj)) (s:ah) (σ:St) (H:Hp) (R:It->Hp->Prop),Inv X pins σ H s->wi σ H R ->
  az (aH X.prog X.w) X.A (eval iter X.env) (fun v s1=>az (aH X.prog X.w) X.A (iT v) (PIE X pins σ tg R) X.xe s1) X.xe s
theorem c1h {M:Model}{A:bo}{E:af->ah->Prop}{s:ah}{tg:Expr}{it:Addr}{u:af}{o:Obj}{n:String}{vs:Array af}{Q:Unit->ah->Prop}(ho:s.heap.get? it=some o)(hc:o.cls = .type n)(hd:o.data = .fields vs)
  (hn:["enumerate", "zip", "dict_itemiterator", "dict_reverseitemiterator", "odict_iterator", "itertools.zip_longest", "itertools.pairwise"].contains n=false) (hQ:Q () s):az M A (cE tg (.ref it) u) Q E s:=by
 unfold cE
 cases tg <;> first
  | exact aj hQ
  | (cases u <;> first
    | exact aj hQ
    | (refine ab (lV ho ?_);rw[hc,hd];show az M A (if(["enumerate", "zip", "dict_itemiterator", "dict_reverseitemiterator", "odict_iterator", "itertools.zip_longest", "itertools.pairwise"].contains n&&vs[0]? == some (db _))=true then _ else _) Q E s;rw[if_neg (by intro h;rw[hn,gH]at h;cases h)];exact aj hQ))
def Itl (K:aa)(a:Addr):It :=
 ⟨fun i H=>∃xs x,SqL K H a xs/\xs[i]? = some x,fun i H x H'=>H'=H/\∀xs,SqL K H a xs->xs[i]? = some x,fun i H=>∃xs,SqL K H a xs/\xs.length<=i⟩
def Itt (K:aa)(a:Addr):It :=
 ⟨fun i H=>∃xs x,SqT K H a xs/\xs[i]? = some x,fun i H x H'=>H'=H/\∀xs,SqT K H a xs->xs[i]? = some x,fun i H=>∃xs,SqT K H a xs/\xs.length<=i⟩
def Itr (lo:Int)(n:Nat):It:=⟨fun i _=>i<n,fun i H x H'=>H'=H/\x = .int (lo+i),fun i _=>n<=i⟩
theorem z0s {P:aO}{w:be}{K:aa}{tg:Expr}(a it:Addr):Turn P w K tg (Itl K a) [it] it (fun i h=>h.IsListIter it a i) where
 mem:=by simp
 obj:=fun i h st b hb=>by
  have e:b=it:=by simpa using hb
  subst e
  obtain⟨o,e,c,d⟩:=st
  exact⟨o,e,fun v z=>by rw[d]at z;cases z⟩
 keep:=fun i h h' st k=>st.at fun o e=>k it (by simp) o e
 item:=by
  intro X hP hw hK hc i pins s σ H E I hf st hg
  subst hP hw hK
  obtain⟨xs,x,hq,hx⟩:=hg
  obtain⟨its,rv,p,hz⟩:=I.list hq
  obtain⟨u,hu,ru⟩:=rv.get hx
  obtain⟨f0,f1,f2,f3,f4,f5⟩:=hf it (by simp)
  refine wpAny_pyNext_list_item st p.isList (x:=u) (by simpa using hu) fun h' st' sb=>?_
  have I1:Inv X pins σ H {s with heap:=h'}:=I.turned (t':=s.toks) (fun b o hb e=>(sb.2 b hb).trans e) f0 f1 f3 f4 f5
  obtain⟨o,e,c,d⟩:=id st'
  exact⟨u,rfl,c1h (s:={s with heap:=h'}) e c d (by decide) ⟨x,H,I1,ru,⟨rfl,fun ys hy=>by rw[I.list_inj hy hq];exact hx⟩,st',fun b hb=>(hf b hb).1⟩⟩
 done:=by
  intro X hP hw hK hc i pins s σ H E I hf st hg
  subst hP hw hK
  obtain⟨xs,hq,hx⟩:=hg
  obtain⟨its,rv,p,hz⟩:=I.list hq
  obtain⟨f0,f1,f2,f3,f4,f5⟩:=hf it (by simp)
  have hl:=rv.length
  exact wpAny_pyNext_list_end (I.ok.hd hc) st p.isList (by simp;omega) fun h' eb=>⟨rfl,I.turned (t':=s.toks) (fun b o hb e=>eb b o hb e) f0 f1 f3 f4 f5⟩
 self:=fun _ _ _ _ _ st h=>wpAny_pyIter_listiter st h
theorem y0a {P:aO}{w:be}{K:aa}{tg:Expr}(a it:Addr):Turn P w K tg (Itt K a) [it] it (fun i h=>h.IsTupleIter it a i) where
 mem:=by simp
 obj:=fun i h st b hb=>by
  have e:b=it:=by simpa using hb
  subst e
  obtain⟨o,e,c,d⟩:=st
  exact⟨o,e,fun v z=>by rw[d]at z;cases z⟩
 keep:=fun i h h' st k=>st.at fun o e=>k it (by simp) o e
 item:=by
  intro X hP hw hK hc i pins s σ H E I hf st hg
  subst hP hw hK
  obtain⟨xs,x,hq,hx⟩:=hg
  obtain⟨its,rv,p,hz⟩:=I.tuple hq
  obtain⟨u,hu,ru⟩:=rv.get hx
  obtain⟨f0,f1,f2,f3,f4,f5⟩:=hf it (by simp)
  refine wpAny_pyNext_tuple_item st (show s.heap.IsTuple a its.toArray from p) (x:=u) (by simpa using hu) fun h' st' sb=>?_
  have I1:Inv X pins σ H {s with heap:=h'}:=I.turned (t':=s.toks) (fun b o hb e=>(sb.2 b hb).trans e) f0 f1 f3 f4 f5
  obtain⟨o,e,c,d⟩:=id st'
  exact⟨u,rfl,c1h (s:={s with heap:=h'}) e c d (by decide) ⟨x,H,I1,ru,⟨rfl,fun ys hy=>by rw[I.tuple_inj hy hq];exact hx⟩,st',fun b hb=>(hf b hb).1⟩⟩
 done:=by
  intro X hP hw hK hc i pins s σ H E I hf st hg
  subst hP hw hK
  obtain⟨xs,hq,hx⟩:=hg
  obtain⟨its,rv,p,hz⟩:=I.tuple hq
  obtain⟨f0,f1,f2,f3,f4,f5⟩:=hf it (by simp)
  have hl:=rv.length
  exact wpAny_pyNext_tuple_end (I.ok.hd hc) st (show s.heap.IsTuple a its.toArray from p) (by simp;omega) fun h' eb=>⟨rfl,I.turned (t':=s.toks) (fun b o hb e=>eb b o hb e) f0 f1 f3 f4 f5⟩
 self:=fun _ _ _ _ _ st h=>wpAny_pyIter_tupleiter st h
theorem y0b {P:aO}{w:be}{K:aa}{tg:Expr}(it:Addr)(lo:Int)(n:Nat):Turn P w K tg (Itr lo n) [it] it (fun i h=>IsRangeIter h it (lo+(i:Nat)*1) ((n:Int) - (i:Nat)) 1) where
 mem:=by simp
 obj:=fun i h st b hb=>by
  have e:b=it:=by simpa using hb
  subst e
  exact⟨_,st,fun v z=>by
   have z':Data.fields _=Data.cell v:=z
   cases z'⟩
 keep:=fun i h h' st k=>k it (by simp) _ st
 item:=by
  intro X hP hw hK hc i pins s σ H E I hf st hg
  subst hP hw hK
  obtain⟨f0,f1,f2,f3,f4,f5⟩:=hf it (by simp)
  have W:=Walks.range (prog:=X.prog) (w:=X.w) (I.ok.hd hc) it lo 1 n
  refine W.item i s _ _ hg st fun v h' tk hv st' kk=>?_
  obtain⟨t,rfl⟩:=hv
  have I1:Inv X pins σ H {s with heap:=h',toks:=tk}:=I.turned (fun b o hb e=>kk b o (by simpa using hb) e) f0 f1 f3 f4 f5
  refine⟨_,rfl,c1h (s:={s with heap:=h',toks:=tk}) (n := "range_iterator") st' rfl rfl (by decide) ⟨.int (lo+i),H,I1,⟨t,?_⟩,⟨rfl,rfl⟩,st',fun b hb=>(hf b hb).1⟩⟩
  rw[Int.mul_one]
 done:=by
  intro X hP hw hK hc i pins s σ H E I hf st hg
  subst hP hw hK
  obtain⟨f0,f1,f2,f3,f4,f5⟩:=hf it (by simp)
  exact wpAny_pyNext_range_end (I.ok.hd hc) st (by have:n<=i:=hg;omega) fun h' eb=>⟨rfl,I.turned (t':=s.toks) (fun b o hb e=>eb b o hb e) f0 f1 f3 f4 f5⟩
 self:=fun _ _ _ _ _ st h=>wpAny_pyIter_rangeiter st h
section
variable {X:Cx}{tg:Expr}
theorem e1l {pins:List (Addr×Obj)}{σ:St}{H:Hp}{s:ah}{R:It->Hp->Prop}{E:af->ah->Prop}{lo hi:Int}{t u v:Tok}{tk:Nat}(I:Inv X pins σ H s)(h1:-(2^62)<=lo)(h2:lo<2^62)(h3:-(2^62)<=hi)(h4:hi<2^62)
  (q:R (Itr lo (hi - lo).toNat) H):az (aH X.prog X.w) X.A (iT (.ref s.heap.objs.size)) (PIE X pins σ tg R) E {s with heap:=s.heap.push {cls:=.type "range",data:=.fields #[.int lo t,.int hi u,.int 1 v]},toks:=tk}:=by
 refine wpAny_pyIter_range (IsRange.new ..) (small_one h1 h2 h3 h4) ?_
 have I1:Inv X pins σ H {s with heap:=s.heap.push {cls:=.type "range",data:=.fields #[.int lo t,.int hi u,.int 1 v]},toks:=tk}:=I.kept fun b o e=>aq _ e
 refine⟨(s.heap.push {cls:=.type "range",data:=.fields #[.int lo t,.int hi u,.int 1 v]}).objs.size,[(s.heap.push {cls:=.type "range",data:=.fields #[.int lo t,.int hi u,.int 1 v]}).objs.size],_,_,H,rfl,
  I1.kept (t':=tk) fun b o e=>aq _ e,y0b _ lo (hi - lo).toNat,?_,fun b hb=>?_,q⟩
 ·have e1:lo+((0:Nat):Int)*1=lo:=by simp
  have e2:(((hi - lo).toNat:Nat):Int) - ((0:Nat):Int)=iF lo hi 1:=by rw[rangeSize_one];split <;> omega
  show IsRangeIter _ _ (lo+((0:Nat):Int)*1) ((((hi - lo).toNat:Nat):Int) - ((0:Nat):Int)) 1
  rw[e1,e2]
  exact aP _ rfl
 ·have e:b=(s.heap.push {cls:=.type "range",data:=.fields #[.int lo t,.int hi u,.int 1 v]}).objs.size:=by simpa using hb
  subst e
  exact I1.fpOk (aE _) (I1.hok.fresh (aE _))
def m1u (ta:TA):TI:=fun σ H R=>ta σ H fun vs H1=>∃j:Int,vs=[.int j]/\-(2^62)<=j/\j<2^62/\R (Itr 0 j.toNat) H1
theorem g0s {a:Expr}{ta:TA}{p pos:Pos}(hg:Gl X "range")(hm:X.mg "range" = none)(ha:PA X [a] ta)(hs:bh [a] X.env=[(false,eval a X.env)]:=by rfl):PI X tg (.Call (.Name "range" p) [a] [] pos) (m1u ta):=by
 intro pins s σ H R I h
 refine lG (j0m I hg hm boot_range (bX (thn (ha pos pins s σ H _ I h) fun us s1 ⟨vs,H1,I1,r1,q1⟩=>?_) hs rfl))
 obtain⟨j,e,q1,q2,q⟩:=q1
 subst e
 cases r1 with
 | cons r rr =>
  cases rr
  obtain⟨t,rfl⟩:=r
  exact call_range_1 (e1l I1 (by omega) (by omega) q1 q2 (by simpa using q))
def tFor (wi:TI)(g:TG)(tb:TS):TS:=fun D σ H=>wi σ H fun J H1=>∃W:Nat->Nat->St->Hp->Prop,(∃m,W 0 m σ H1)/\∀i m σ H,W i m σ H ->
 (J.stop i H/\D.nx σ H)∨(J.go i H/\∃N:St->Hp->Prop,(∀ σ' H',N σ' H'->∃m',m'<m/\W (i+1) m' σ' H')/\∀x H',J.yld i H x H'->g x σ H' fun σ2 H2=>tb {D with nx:=N,ct:=N,bk:=D.nx} σ2 H2)
def h0u (fp:List Addr)(h:Heap):List (Addr×Obj):=fp.filterMap fun b=>(h.get? b).map fun o=>(b,o)
theorem c0x {fp:List Addr}{h:Heap}{b:Addr}{o:Obj}(hb:b∈fp)(e:h.get? b=some o):(b,o)∈h0u fp h:=kQ.mpr ⟨b,hb,by rw[e];rfl⟩
theorem s0i {fp:List Addr}{h:Heap}{p:Addr×Obj}(hp:p∈h0u fp h):p.1∈fp/\h.get? p.1=some p.2:=by
 obtain⟨b,hb,e⟩:=kQ.mp hp
 cases q:h.get? b with
 | none=>rw[q]at e;cases e
 | some o =>
  rw[q]at e
  have e':(b,o)=p:=cF e
  subst e'
  exact⟨hb,q⟩
theorem Inv.pinned {pins:List (Addr×Obj)}{σ:St}{H:Hp}{s:ah}{fp:List Addr}(I:Inv X pins σ H s)(hf:∀b∈fp,FpOk X pins H b)(ho:∀b∈fp,∃o,s.heap.get? b=some o/\∀v,o.data ≠ .cell v):Inv X (pins++h0u fp s.heap) σ H s :=
 I.pins_of fun p hp=>(a7.mp hp).elim (fun z=>I.pin p (ar _ z)) fun z=>by
  obtain⟨hb,e⟩:=s0i z
  obtain⟨f0,f1,f2,_⟩:=hf p.1 hb
  obtain⟨o,e',d⟩:=ho p.1 hb
  rw[e]at e';cases e'
  exact⟨e,f0,f1,f2,d⟩
theorem Inv.unpinned {pins pl:List (Addr×Obj)}{σ:St}{H:Hp}{s:ah}(I:Inv X (pins++pl) σ H s):Inv X pins σ H s:=I.pins_of fun p hp=>I.pin p (ar _ (bj _ hp))
theorem h0t {iter:Expr}{body:List Stmt}{wi:TI}{g:TG}{tb:TS}{pos:Pos}(hp:PassesOwn (aH X.prog X.w) X.A X.env X.xe)(hc:X.calm=true)(hi:PI X tg iter wi)(hg:PG X tg g)(hb:PSs X body tb)
  (hs:∀x,cb iter X.env x=pure x:=by intro _;rfl):PS X (.For tg iter body [] pos) (tFor wi g tb):=by
 intro pins s σ H D I h
 refine wpAny_For (thn (hi pins s σ H _ I h) fun v s1 h1=>thn h1 fun itv s2 h2=>?_) hs
 obtain⟨it,fp,tn,J,H2,e,I2,T,st2,f2,W,⟨m0,w0⟩,turn⟩:=h2
 subst e
 have stat:∀ {H':Hp},(∀b∈fp,H' b=none)->∀b∈fp,FpOk X pins H' b:=fun hn b hb=>⟨hn b hb,(f2 b hb).2⟩
 refine codeAny_forLoop_any (fun n s'=>∃i σ' H',Inv X pins σ' H' s'/\tn i s'.heap/\(∀b∈fp,H' b=none)/\W i n σ' H') ?_ m0 ⟨0,σ,H2,I2,st2,fun b hb=>(f2 b hb).1,w0⟩
 rintro n s3 ⟨i,σ3,H3,I3,st3,fr3,w3⟩
 rcases turn i n σ3 H3 w3 with⟨stop,qn⟩ | ⟨go,N,hN,step⟩
 ·refine dO hp (thn (T.done X rfl rfl rfl hc i pins s3 σ3 H3 X.xe I3 (stat fr3) st3 stop) fun r s4 ⟨hr,I4⟩=>?_)
  subst hr
  exact gS ⟨σ3,H3,I4,qn⟩
 ·refine dO hp (thn (T.item X rfl rfl rfl hc i pins s3 σ3 H3 X.xe I3 (stat fr3) st3 go) fun r s4 ⟨u,hr,h4⟩=>?_)
  subst hr
  refine dO hp (thn h4 fun _ s5 ⟨x,H5,I5,r5,y5,st5,fr5⟩=>?_)
  have I5':=I5.pinned (stat fr5) (T.obj _ _ st5)
  refine dO hp (thn (hg _ s5 σ3 H5 x u _ I5' r5 (step x H5 y5)) fun _ s6 ⟨σ6,H6,I6,q6⟩=>?_)
  refine dO hp (thn (hb _ s6 σ6 H6 _ I6 q6) fun f s7 q7=>?_)
  have kJ:∀ {σ7:St} {H7:Hp},Inv X (pins++h0u fp s5.heap) σ7 H7 s7->N σ7 H7->∃m,m<n/\∃i σ' H',Inv X pins σ' H' s7/\tn i s7.heap/\(∀b∈fp,H' b=none)/\W i m σ' H':=fun{σ7 H7} I7 n7=>by
   obtain⟨m',hm,w7⟩:=hN σ7 H7 n7
   refine⟨m',hm,i+1,σ7,H7,I7.unpinned,T.keep _ _ _ st5 fun b hb o e=>(I7.pin (b,o) (ar _ (ar _ (c0x hb e)))).1,fun b hb=>?_,w7⟩
   obtain⟨o,e,d⟩:=T.obj _ _ st5 b hb
   exact(I7.pin (b,o) (ar _ (ar _ (c0x hb e)))).2.1
  cases f with
  | next=>obtain⟨σ7,H7,I7,n7⟩:=q7;exact kJ I7 n7
  | cont=>obtain⟨σ7,H7,I7,n7⟩:=q7;exact kJ I7 n7
  | brk=>obtain⟨σ7,H7,I7,q7⟩:=q7;exact⟨σ7,H7,I7.unpinned,q7⟩
  | ret v=>obtain⟨x7,σ7,H7,I7,r7,q7⟩:=q7;exact⟨x7,σ7,H7,I7.unpinned,r7,q7⟩
end
abbrev R2:=V->V->Hp->VK->Prop
def OpR (X:Cx)(f:af->af->Sem af)(r:R2):Prop :=
 ∀(pins:List (Addr×Obj)) (s:ah) (σ:St) (H:Hp) (x y:V) (v u:af) (Q:VK),Inv X pins σ H s->RelV x v->RelV y u->r x y H Q ->
  az (aH X.prog X.w) X.A (f v u) (EP X pins σ Q) X.xe s
def l0c (X:Cx)(f:af)(r:List V->Hp->VK->Prop):Prop :=
 ∀(pins:List (Addr×Obj)) (s:ah) (σ:St) (H:Hp) (xs:List V) (us:List af) (Q:VK),Inv X pins σ H s->Vals xs us->r xs H Q ->
  az (aH X.prog X.w) X.A (call f us) (EP X pins σ Q) X.xe s
def TruR (X:Cx)(r:V->Hp->(Bool->Hp->Prop)->Prop):Prop :=
 ∀(pins:List (Addr×Obj)) (s:ah) (σ:St) (H:Hp) (x:V) (v:af) (Q:Bool->Hp->Prop),Inv X pins σ H s->RelV x v->r x H Q ->
  az (aH X.prog X.w) X.A (truthy v) (TP X pins σ Q) X.xe s
def tOp (r:R2)(ta tb:TE):TE:=fun σ H Q=>ta σ H fun x H1=>tb σ H1 fun y H2=>r x y H2 Q
def rI (C:Int->Int->Prop)(g:Int->Int->V):R2:=fun x y H Q=>∃i j,x = .int i/\y = .int j/\C i j/\Q (g i j) H
def rI0 (g:Int->Int->V):R2:=fun x y H Q=>∃i j,x = .int i/\y = .int j/\Q (g i j) H
section
variable {X:Cx}{a b c:Expr}{ta tb tc:TE}{pos:Pos}
theorem binT (ha:PE X a ta)(hb:PE X b tb){pins:List (Addr×Obj)}{s:ah}{σ:St}{H:Hp}{R:V->V->Hp->Prop}(I:Inv X pins σ H s)
  (h:ta σ H fun x H1=>tb σ H1 fun y H2=>R x y H2) {Q:af->ah->Prop} {f:af->af->Sem af}
  (hf:∀v u s2 x y H2,Inv X pins σ H2 s2->RelV x v->RelV y u->R x y H2->az (aH X.prog X.w) X.A (f v u) Q X.xe s2) :
  az (aH X.prog X.w) X.A (eval a X.env) (fun v s₁=>az (aH X.prog X.w) X.A (eval b X.env) (fun u s₂=>az (aH X.prog X.w) X.A (f v u) Q X.xe s₂) X.xe s₁) X.xe s:=by
 refine thn (ha pins s σ H _ I h) fun v s1 ⟨x,H1,I1,r1,q1⟩=>?_
 refine thn (hb pins s1 σ H1 _ I1 q1) fun u s2 ⟨y,H2,I2,r2,q2⟩=>?_
 exact hf v u s2 x y H2 I2 r1 r2 q2
theorem c0i {op:Operator}{r:R2}(ho:OpR X (dP op) r)(ha:PE X a ta)(hb:PE X b tb):PE X (.BinOp a op b pos) (tOp r ta tb):=by
 intro pins s σ H Q I h
 exact wpAny_BinOp (binT ha hb I h fun v u s2 x y H2 I2 rx ry q=>ho pins s2 σ H2 x y v u Q I2 rx ry q)
theorem opI {f:af->af->Sem af}{C:Int->Int->Prop}{g:Int->Int->Int}
  (rule:∀(i j:Int) (t u:Tok) (s:ah) (Q:af->ah->Prop) (E:af->ah->Prop),C i j->Q (.int (g i j) s.toks) {s with toks:=s.toks+1}->az (aH X.prog X.w) X.A (f (.int i t) (.int j u)) Q E s) :
  OpR X f (rI C fun i j=>.int (g i j)):=by
 intro pins s σ H x y v u Q I rx ry h
 obtain⟨i,j,rfl,rfl,hc,q⟩:=h
 obtain⟨t,rfl⟩:=rx
 obtain⟨t',rfl⟩:=ry
 exact rule i j t t' s _ _ hc ⟨.int (g i j),H,I.tok _,⟨_,rfl⟩,q⟩
theorem opI0 {f:af->af->Sem af}{g:Int->Int->Int}
  (rule:∀(i j:Int) (t u:Tok) (s:ah) (Q:af->ah->Prop) (E:af->ah->Prop),Q (.int (g i j) s.toks) {s with toks:=s.toks+1}->az (aH X.prog X.w) X.A (f (.int i t) (.int j u)) Q E s) :
  OpR X f (rI0 fun i j=>.int (g i j)):=by
 intro pins s σ H x y v u Q I rx ry h
 obtain⟨i,j,rfl,rfl,q⟩:=h
 obtain⟨t,rfl⟩:=rx
 obtain⟨t',rfl⟩:=ry
 exact rule i j t t' s _ _ ⟨.int (g i j),H,I.tok _,⟨_,rfl⟩,q⟩
theorem opB0 {f:af->af->Sem af}{g:Int->Int->Bool}
  (rule:∀(i j:Int) (t u:Tok) (s:ah) (Q:af->ah->Prop) (E:af->ah->Prop),Q (.bool (g i j)) s->az (aH X.prog X.w) X.A (f (.int i t) (.int j u)) Q E s) :
  OpR X f (rI0 fun i j=>.bl (g i j)):=by
 intro pins s σ H x y v u Q I rx ry h
 obtain⟨i,j,rfl,rfl,q⟩:=h
 obtain⟨t,rfl⟩:=rx
 obtain⟨t',rfl⟩:=ry
 exact rule i j t t' s _ _ ⟨.bl (g i j),H,I,rfl,q⟩
def CPow (i j:Int):Prop:=0<=j/\j<=1000000/\i.natAbs<2^64
def CMul (i j:Int):Prop:=(-(2^64)<i/\i<2^64)∨(-(2^64)<j/\j<2^64)
theorem CMul.ok {i j:Int}(h:CMul i j):IntMulOk i j:=by
 rcases h with⟨h1,h2⟩ | ⟨h1,h2⟩
 ·exact .of_left (intBits_le_64 h1 h2)
 ·exact .of_right (intBits_le_64 h1 h2)
theorem g0e:OpR X (dP .Add) (rI0 fun i j=>.int (i+j)):=opI0 fun _ _ _ _ _ _ _ q=>add_int q
theorem s0b:OpR X (dP .Sub) (rI0 fun i j=>.int (i - j)):=opI0 fun _ _ _ _ _ _ _ q=>sub_int q
theorem s0e:OpR X (dP .Mult) (rI CMul fun i j=>.int (i*j)):=opI fun _ _ _ _ _ _ _ hc q=>mul_int q hc.ok
theorem n0n:OpR X (dP .Mod) (rI (fun _ j=>0<j) fun i j=>.int (i % j)):=opI fun i j _ _ _ _ _ hc q=>by
 have h1:(0:Int)<j:=hc
 exact mod_int' (by omega) (by rw[Int.fmod_eq_emod_of_nonneg i (by omega)];exact q)
theorem b1l:OpR X (dP .Pow) (rI CPow fun i j=>.int (i^j.toNat)):=opI fun _ _ _ _ _ _ _ hc q=>pow_int_small hc.1 hc.2.1 hc.2.2 q
theorem b1k:OpR X (dP .LShift) (rI CPow fun i j=>.int (i*2^j.toNat)):=opI fun _ _ _ _ _ _ _ hc q=>lshift_int_small hc.1 hc.2.1 hc.2.2 q
theorem g1t:OpR X (dP .BitAnd) (rI0 fun i j=>.int (eB i j)):=opI0 fun _ _ _ _ _ _ _ q=>and_int q
theorem g1s:OpR X (dP .BitXor) (rI0 fun i j=>.int (fo i j)):=opI0 fun _ _ _ _ _ _ _ q=>xor_int q
end
section
variable {X:Cx}{a b c:Expr}{ta tb tc:TE}{pos:Pos}
theorem n1d {pins:List (Addr×Obj)}{σ:St}{H:Hp}{s:ah}{Q:VK}{k k':Bool}(I:Inv X pins σ H s)(q:Q (.bl k) H)(e:k=k'):EP X pins σ Q (.bool k') s:=by
 subst e
 exact⟨.bl k,H,I,rfl,q⟩
theorem i1o:OpR X (cA .Lt) (rI0 fun i j=>.bl (decide (i<j))):=opB0 fun _ _ _ _ _ _ _ q=>lt_int q
theorem u0i:OpR X (cA .LtE) (rI0 fun i j=>.bl (decide (i<=j))):=opB0 fun _ _ _ _ _ _ _ q=>le_int q
theorem i1p:OpR X (cA .Gt) (rI0 fun i j=>.bl (decide (j<i))):=opB0 fun _ _ _ _ _ _ _ q=>gt_int q
theorem l1z:OpR X (cA .GtE) (rI0 fun i j=>.bl (decide (j<=i))):=opB0 fun _ _ _ _ _ _ _ q=>ge_int q
theorem d0d (b:Expr){op:lF}(h:op ≠ .In:=by decide)(h2:op ≠ .NotIn:=by decide):fq op b=false:=by
 have e1:(op==CmpOp.In)=false:=by cases op <;> first | rfl | exact absurd rfl h
 have e2:(op==CmpOp.NotIn)=false:=by cases op <;> first | rfl | exact absurd rfl h2
 cases b <;> simp[fq,e1,e2]
theorem g0j {op:lF}{r:R2}(ho:OpR X (cA op) r)(ha:PE X a ta)(hb:PE X b tb)(hm:fq op b=false):PE X (.Compare a [op] [b] pos) (tOp r ta tb):=by
 intro pins s σ H Q I h
 exact wpAny_Compare1 (binT ha hb I h fun v u s2 x y H2 I2 rx ry q=>ho pins s2 σ H2 x y v u Q I2 rx ry q) hm
def k1y (t:TE):TT:=fun σ H Q=>t σ H fun x H'=>∃k,x = .bl k/\Q k H'
theorem c0o {op:lF}{r:R2}(ho:OpR X (cA op) r)(ha:PE X a ta)(hb:PE X b tb)(hm:fq op b=false):PT X (.Compare a [op] [b] pos) (k1y (tOp r ta tb)):=by
 intro pins s σ H Q I h
 refine la (thn (ha pins s σ H _ I h) fun v s1 ⟨x,H1,I1,r1,q1⟩=>thn (hb pins s1 σ H1 _ I1 q1) fun u s2 ⟨y,H2,I2,r2,q2⟩ =>
  thn (ho pins s2 σ H2 x y v u _ I2 r1 r2 q2) fun c s3 ⟨z,H3,I3,r3,k,e,q3⟩=>?_) hm
 subst e
 cases r3
 exact c0 ⟨H3,I3,q3⟩
def g1j (r r':R2)(ta tb tc:TE):TE:=fun σ H Q=>ta σ H fun x H1=>tb σ H1 fun y H2=>r x y H2 fun z H3=>∃k,z = .bl k /\
 (if k=true then tc σ H3 fun w' H4=>r' y w' H4 Q else Q (.bl false) H3)
theorem w0x {op op':lF}{r r':R2}(ho:OpR X (cA op) r)(ho':OpR X (cA op') r')(ha:PE X a ta)(hb:PE X b tb)(hc:PE X c tc)
  (hm:lastMarks [op,op'] [b,c]=false:=by with_unfolding_all rfl):PE X (.Compare a [op,op'] [b,c] pos) (g1j r r' ta tb tc):=by
 intro pins s σ H Q I h
 refine Compare_chain (thn (ha pins s σ H _ I h) fun v s1 ⟨x,H1,I1,r1,q1⟩=>chain_link (thn (hb pins s1 σ H1 _ I1 q1) fun u s2 ⟨y,H2,I2,r2,q2⟩ =>
  thn (ho pins s2 σ H2 x y v u _ I2 r1 r2 q2) fun d s3 ⟨z,H3,I3,r3,k,e,q3⟩=>?_)) hm
 subst e
 cases r3
 refine c0 ?_
 cases k with
 | false=>exact ite_ff ⟨.bl false,H3,I3,rfl,q3⟩
 | true=>exact ite_tt (chain_last (thn (hc pins s3 σ H3 _ I3 q3) fun w' s4 ⟨z',H4,I4,r4,q4⟩=>ho' pins s4 σ H4 y z' u w' Q I4 r2 r4 q4))
def TruV (K:aa)(x:V)(H:Hp)(k:Bool):Prop :=
 match x with
 | .non=>k=false
 | .bl b=>k=b
 | .int i=>k=(i != 0)
 | .str y=>y.length<=aN/\k=((y.length:Int) != 0)
 | .byt y=>y.size<=aN/\k=((y.size:Int) != 0)
 | .ref p=>(∃xs,SqL K H p xs/\k = !xs.isEmpty)∨(∃xs,SqT K H p xs/\k = !xs.isEmpty) ∨ ∃kvs,H p=some (.dK kvs)/\k = !kvs.isEmpty
 | _=>False
theorem y0w {κ:Type}{kvs:List (κ×V)}{vs:List (κ×af)}(r:KV kvs vs):(!vs.isEmpty) = !kvs.isEmpty:=by
 cases r <;> rfl
theorem p0m {xs:List V}{its:List af}(r:Vals xs its):(!its.toArray.isEmpty) = !xs.isEmpty:=by
 cases r <;> simp
theorem s0p:(aN:Nat)<2^63:=by rw[f9];decide
theorem k1t:TruR X (fun x H Q=>∃k,TruV X.K x H k/\Q k H):=by
 intro pins s σ H x v Q I rx h
 obtain⟨k,e,q⟩:=h
 have hl:=s0p
 have hs:aN=16777216:=f9
 cases x with
 | non =>
  cases rx
  have e':k=false:=e
  subst e'
  exact truthy_none ⟨H,I,q⟩
 | bl b =>
  cases rx
  have e':k=b:=e
  subst e'
  exact c0 ⟨H,I,q⟩
 | int i =>
  obtain⟨t,rfl⟩:=rx
  have e':k=(i != 0):=e
  subst e'
  exact PySem.P.truthy_int ⟨H,I,q⟩
 | str y =>
  obtain⟨t,rfl⟩:=rx
  obtain⟨hy,e'⟩:y.length<=aN/\k=((y.length:Int) != 0):=e
  subst e'
  exact PySem.P.truthy_str (by omega) ⟨H,I.tok _,q⟩
 | byt y =>
  obtain⟨t,rfl⟩:=rx
  obtain⟨hy,e'⟩:y.size<=aN/\k=((y.size:Int) != 0):=e
  subst e'
  exact PySem.W.truthy_bytes (by omega) ⟨H,I.tok _,q⟩
 | ref p =>
  cases rx
  have e':(∃xs,SqL X.K H p xs/\k = !xs.isEmpty)∨(∃xs,SqT X.K H p xs/\k = !xs.isEmpty) ∨ ∃kvs,H p=some (.dK kvs)/\k = !kvs.isEmpty:=e
  rcases e' with⟨xs,hx,e'⟩ | ⟨xs,hx,e'⟩ | ⟨kvs,hx,e'⟩
  ·subst e'
   obtain⟨its,r,pl,hz⟩:=I.list hx
   have hlen:=r.length
   exact wpAny_truthy_list pl.isList (by simp only[aD];omega) ⟨H,I.tok _,by rw[p0m r];exact q⟩
  ·subst e'
   obtain⟨its,r,pl,hz⟩:=I.tuple hx
   have hlen:=r.length
   exact truthy_tuple pl (by simp only[aD];omega) ⟨H,I.tok _,by rw[p0m r];exact q⟩
  ·subst e'
   obtain⟨hz,hS,vs,r,m⟩:kvs.length<=aN/\(p==dz)=false/\∃vs,KV kvs vs/\s.heap.DictOf (c0f X.prog X.w) p vs:=I.hok p _ hx
   have hlen:kvs.length=vs.length:=gM r
   exact wpAny_truthy_dict hS m (by omega) ⟨H,I.tok _,by rw[y0w r];exact q⟩
 | _=>exact(show False from e).elim
theorem e1o (ha:PE X a ta)(he:∀whole,fU a X.env whole=(do let v <- whole;dU a.pos;iw [v] (truthy v))) :
  PT X a (fun σ H Q=>ta σ H fun x H'=>∃k,TruV X.K x H' k/\Q k H'):=by
 intro pins s σ H Q I h
 exact isTrue_plain (thn (ha pins s σ H _ I h) fun v s1 ⟨x,H1,I1,r1,q1⟩=>k1t pins s1 σ H1 x v Q I1 r1 q1) (he _)
theorem o0n {x:V}{us:List af}(r:Vals [x] us):∃u,us=[u]/\RelV x u:=by
 cases r with
 | cons r1 r2=>cases r2;exact⟨_,rfl,r1⟩
theorem k1q {x y:V}{us:List af}(r:Vals [x,y] us):∃u w',us=[u,w']/\RelV x u/\RelV y w':=by
 cases r with
 | cons r1 r2 =>
  cases r2 with
  | cons r3 r4=>cases r4;exact⟨_,_,rfl,r1,r3⟩
theorem o0i (hc:X.calm=true):l0c X (.builtin "max") (fun xs H Q=>∃i j,xs=[.int i,.int j]/\Q (.int (if j > i then j else i)) H):=by
 intro pins s σ H xs us Q I r h
 obtain⟨i,j,rfl,q⟩:=h
 obtain⟨u,w',rfl,⟨t,rfl⟩,⟨t',rfl⟩⟩:=k1q r
 refine max_two_ints (I.ok.hd hc) fun h' tk k=>⟨_,H,I.kept k,?_,q⟩
 by_cases hj:j > i
 ·rw[if_pos hj,if_pos hj];exact⟨_,rfl⟩
 ·rw[if_neg hj,if_neg hj];exact⟨_,rfl⟩
theorem k0y (hc:X.calm=true):l0c X (.builtin "min") (fun xs H Q=>∃i j,xs=[.int i,.int j]/\Q (.int (if j<i then j else i)) H):=by
 intro pins s σ H xs us Q I r h
 obtain⟨i,j,rfl,q⟩:=h
 obtain⟨u,w',rfl,⟨t,rfl⟩,⟨t',rfl⟩⟩:=k1q r
 refine min_two_ints (I.ok.hd hc) fun h' tk k=>⟨_,H,I.kept k,?_,q⟩
 by_cases hj:j<i
 ·rw[if_pos hj,if_pos hj];exact⟨_,rfl⟩
 ·rw[if_neg hj,if_neg hj];exact⟨_,rfl⟩
end
structure ObjM (h:Heap)(x dx C:Addr)(mA:Str->Option af):Prop where
 obj:h.get? x=some (dg C dx)
 ns:h.Ns1 dx mA
 ne:dx≠x
theorem b1x {h:Heap}{dx:Addr}{mA:Str->Option af}(n:h.Ns1 dx mA):∃od,h.get? dx=some od/\∀name,gh name od=some (mA name):=by
 obtain⟨o,es,ep,ho,hd,hk,_,hm⟩:=n
 refine⟨o,ho,fun name=>?_⟩
 have e:=hm name
 unfold nsFind findBy at e
 rw[<- Array.find?_toList]at e
 unfold gh
 rw[hd]
 dsimp only
 split
 ·rename_i y q
  rw[q]at e
  exact congrArg some e
 ·rename_i q
  rw[q]at e
  have a:es.toList.any (·.refKey)=false:=by
   rw[List.any_eq_false]
   intro y hy
   obtain⟨z,t,hkey⟩:=hk y (Array.mem_toList_iff.mp hy)
   simp[DictEntry.refKey,hkey]
  have a':¬es.toList.any (·.refKey)=true:=by rw[a];exact bn
  rw[if_neg a']
  exact congrArg some e
theorem ObjM.look {h:Heap}{x dx C:Addr}{mA:Str->Option af}(I:ObjM h x dx C mA):∃od,PySem.W.InstAt h x (dg C dx) C (some od)/\∀name,gh name od=some (mA name) :=
 let ⟨od,ho,hl⟩:=b1x I.ns
 ⟨od,⟨I.obj,rfl,rfl,ho⟩,hl⟩
section
variable {prog:aO}{w:be}{A:bo}{E:af->ah->Prop}{s:ah}{K:aa}{x dx C f:Addr}{mA:Str->Option af}{name:Str}{v:af}
theorem j1j {expr:Bool}{Q:af->ah->Prop}(X:K.In s.heap)(I:ObjM s.heap x dx C mA)(hg:eI K C name=true)(hh:fB K C=true)
  (ha:bb K (.ref C) name=some none) (hv:mA name=some v) (hv':kr v=true) (h:Q v {s with toks:=s.toks+1}) :
  az (aH prog w) A (getAttr (.ref x) name expr) Q E s:=by
 obtain⟨od,J,hl⟩:=I.look
 exact PySem.W.get_value X J (gA hg).1 (PySem.W.findObj_own hh ha rfl (by rw[hl,hv])) hv' h
theorem f1p {pl:Sem Bool}{Q:af×List af->ah->Prop}(X:K.In s.heap)(I:ObjM s.heap x dx C mA)(hg:eI K C name=true)
  (hf:bb K (.ref C) name=some (some (.ref f))) (ht:cw K (.ref f)=true) (hv:mA name=none) (h:Q (.ref f,[.ref x]) s) :
  az (aH prog w) A (iA (.ref x) name pl) Q E s:=by
 obtain⟨od,J,hl⟩:=I.look
 exact PySem.W.method_fn X J (gA hg).1 (gA hg).2 hf (beq_iff_eq.mp ht) (by show(gh name od).map (·.isSome)=some false;rw[hl,hv];rfl) h
theorem h1z {ns:List Str}{Q:Unit->ah->Prop}(X:K.In s.heap)(I:ObjM s.heap x dx C mA)
  (hs:bb K (.ref C) "__setattr__" = some (some (.builtin "object.__setattr__"))) (hp:gW K C=true) (ht:iH K C name=some none) (hh:fB K C=true)
  (hw:jO mA ns) (hsz:ns.length<=aN)
  (h:∀h',ObjM h' x dx C (fun y=>if y=name then some v else mA y)->bH dx s.heap h'->Q () {s with heap:=h',toks:=s.toks+2}) :
  az (aH prog w) A (setAttr (.ref x) name v) Q E s:=by
 obtain⟨od,J,hl⟩:=I.look
 refine PySem.W.set_plain X J hs (PySem.W.osa_open (s:={s with toks:=s.toks+1}) (r:=none) X J hp ht fun b=>?_)
 obtain⟨cd,hc,hd'⟩:=PySem.W.any_some hh
 have hx:s.heap.get? x=some ⟨.ref C,some dx,.plain,#[]⟩:=I.obj
 refine ab (aj (ab (ab (wpAny_loadPart hx (ab (mG (s:={s with toks:=s.toks+1}) (PySem.W.looks_clsIn X hc) ?_))))))
 rw[hd']
 refine aj (a:=some dx) (ab (aj (ab ?_)))
 refine wpAny_nsSet1 (s:={s with toks:=s.toks+1}) I.ns fun h' hn2 hs2=>?_
 obtain⟨oD,esD,epD,hoD,hdD,hcD⟩:=hn2.count (mX name v hw)
 refine ab (wpAny_lookBehind hoD (by rw[hdD];exact pastItsLine_dict (aW hcD (by rw[aS];omega))) ?_)
 exact aj (h _ ⟨(hs2.2 _ (cM I.ne)).trans I.obj,hn2,I.ne⟩ hs2)
theorem f1h {R:eU->ah->Prop}{vs:List af}{kw:List (Str×af)}(X:K.In s.heap)(hm:fX K C=true)
  (hi:bb K (.ref C) "__init__" = some (some (.ref f))) (hf:PySem.W.typeIn K (.ref f)=some (.type "function"))
  (h:cc (aH prog w) (A.under (.builtin "type.__call__" ⟨.ref C::vs,kw⟩)) (.call (.ref f) ⟨.ref (s.heap.objs.size+1)::vs,kw⟩) (PySem.W.InitBack (s.heap.objs.size+1) R)
   {s with heap:=(s.heap.push cI).push (dg C s.heap.objs.size)}) :
  cc (aH prog w) A (.call (.ref C) ⟨vs,kw⟩) R s:=by
 obtain⟨hh,g,d,t,os⟩:=s
 exact PySem.W.make_core (PySem.W.makes_of X hm) (PySem.W.looks_findIn X hi) (fun self=>PySem.W.bind_fn X self hf) (.inl rfl) h
end
def putF (f:Str)(v:V):List (Str×V)->List (Str×V)
 | []=>[(f,v)]
 | (g,x)::r=>if g=f then(g,v)::r else(g,x)::putF f v r
theorem n0t (f g:Str)(v:V):∀fs:List (Str×V),(putF f v fs).lookup g=if g=f then some v else fs.lookup g
 | []=>by
  show dQ g [(f,v)]=_
  by_cases h:g=f
  ·have hb:(g==f)=true:=beq_iff_eq.mpr h
   simp only[dQ,hb,if_pos h]
  ·have hb:(g==f)=false:=beq_eq_false_iff_ne.mpr h
   simp only[dQ,hb,if_neg h]
 | (k,x)::r=>by
  have ih:=n0t f g v r
  rw[show putF f v ((k,x)::r)=(if k=f then(k,v)::r else(k,x)::putF f v r)from rfl]
  by_cases hk:k=f
  ·rw[if_pos hk]
   by_cases h:g=k
   ·have hb:(g==k)=true:=beq_iff_eq.mpr h
    simp only[dQ,hb,if_pos (h.trans hk)]
   ·have hb:(g==k)=false:=beq_eq_false_iff_ne.mpr h
    simp only[dQ,hb,if_neg (fun e:g=f=>h (e.trans hk.symm))]
  ·rw[if_neg hk]
   by_cases h:g=k
   ·have hb:(g==k)=true:=beq_iff_eq.mpr h
    simp only[dQ,hb,if_neg (fun e:g=f=>hk (h.symm.trans e))]
   ·have hb:(g==k)=false:=beq_eq_false_iff_ne.mpr h
    simp only[dQ,hb]
    exact ih
theorem n0v (f:Str)(v:V):∀fs:List (Str×V),f∈(putF f v fs).map (·.1)/\∀g,g∈fs.map (·.1)->g∈(putF f v fs).map (·.1)
 | []=>⟨by simp[putF],fun g h=>by simp at h⟩
 | (k,x)::r=>by
  obtain⟨i1,i2⟩:=n0v f v r
  rw[show putF f v ((k,x)::r)=(if k=f then(k,v)::r else(k,x)::putF f v r)from rfl]
  by_cases hk:k=f
  ·rw[if_pos hk]
   subst hk
   exact⟨by simp,fun g h=>by simpa using h⟩
  ·rw[if_neg hk]
   refine⟨?_,fun g h=>?_⟩
   ·rw[aT]
    exact aZ _ i1
   ·rw[aT]at h ⊢
    rcases aK.mp h with e | e
    ·exact aK.mpr (.inl e)
    ·exact aZ _ (i2 g e)
theorem n0u (f:Str)(v:V):∀fs:List (Str×V),(putF f v fs).length<=fs.length+1
 | []=>by simp[putF]
 | (k,x)::r=>by
  have ih:=n0u f v r
  rw[show putF f v ((k,x)::r)=(if k=f then(k,v)::r else(k,x)::putF f v r)from rfl]
  by_cases hk:k=f
  ·rw[if_pos hk,aS,aS];omega
  ·rw[if_neg hk,aS,aS];omega
theorem RelO.some_of {v:V}{o:Option af}(r:RelO (some v) o):∃u,o=some u/\RelV v u:=by
 cases o with
 | none=>exact(show False from r).elim
 | some u=>exact⟨u,rfl,r⟩
theorem RelO.none_of {o:Option af}(r:RelO none o):o=none:=by
 cases o with
 | none=>rfl
 | some u=>exact(show False from r).elim
theorem c1g {v:V}{u:af}(r:RelV v u):kr u=true:=by
 cases v with
 | non=>cases (show u=Value.none from r);rfl
 | bl b=>cases (show u=Value.bool b from r);rfl
 | int i=>obtain⟨t,e⟩:=(show ∃t,u=Value.int i t from r);cases e;rfl
 | str x=>obtain⟨t,e⟩:=(show ∃t,u=Value.str x t from r);cases e;rfl
 | byt b=>obtain⟨t,e⟩:=(show ∃t,u=Value.bytes b t from r);cases e;rfl
 | flt b=>obtain⟨t,e⟩:=(show ∃t,u=Value.float b t from r);cases e;rfl
 | ref a=>cases (show u=Value.ref a from r);rfl
 | ty n=>cases (show u=Value.type n from r);rfl
section
variable {P:aO}{w:be}{H H':Hp}{h h':Heap}{a C dx:Addr}{fs fs':List (Str×V)}
theorem q0t (hok:HOk P w H h)(e:H a=some (.ins C dx fs)):∃mA,ObjM h a dx C mA/\(∀f,RelO (fs.lookup f) (mA f))/\jO mA (fs.map (·.1))/\fs.length<=1000/\H dx=some (.own a):=by
 obtain⟨d,z,ne,ob,mA,n,r,q⟩:=(show d0y P w H h a (.ins C dx fs)from hok a _ e)
 exact⟨mA,⟨ob,n,ne⟩,r,q,z,d⟩
end
structure Cls (K:aa)(C:Addr):Prop where
 pg:eI K C Str.empty=true
 hd:fB K C=true
 po:gW K C=true
 sa:bb K (.ref C) "__setattr__" = some (some (.builtin "object.__setattr__"))
theorem Cls.get {K:aa}{C:Addr}(c:Cls K C)(f:Str):eI K C f=true:=c.pg
def l0b (K:aa)(C:Addr)(f:Str):Prop:=bb K (.ref C) f=some none
theorem l0b.taker {K:aa}{C:Addr}{f:Str}(n:l0b K C f):iH K C f=some none:=by
 unfold iH
 rw[show bb K (.ref C) f=some none from n]
 rfl
structure Meth (K:aa)(C:Addr)(m:Str)(f:Addr):Prop where
 at_:bb K (.ref C) m=some (some (.ref f))
 fn:cw K (.ref f)=true
 kp:bA K (.ref f)=true
section
variable {X:Cx}{pins:List (Addr×Obj)}{σ:St}{H:Hp}{s:ah}{a C dx:Addr}{fs:List (Str×V)}{f:Str}{v:V}{A:bo}{E:af->ah->Prop}
theorem z0c {b:Bool}{Q:af->ah->Prop}(I:Inv X pins σ H s)(e:H a=some (.ins C dx fs))(c:Cls X.K C)(n:l0b X.K C f)(l:fs.lookup f=some v)
  (h:∀u s',Inv X pins σ H s'->RelV v u->Q u s'):az (aH X.prog X.w) A (getAttr (.ref a) f b) Q E s:=by
 obtain⟨mA,O,r,_,_,_⟩:=q0t I.hok e
 obtain⟨u,hu,ru⟩:=RelO.some_of (v:=v) (o:=mA f) (by rw[<- l];exact r f)
 exact j1j I.kIn O (c.get f) c.hd n hu (c1g ru) (h u _ (I.tok _) ru)
theorem p0o {m:Str}{g:Addr}{pl:Sem Bool}{Q:af×List af->ah->Prop}(I:Inv X pins σ H s)(e:H a=some (.ins C dx fs))(c:Cls X.K C)(k:Meth X.K C m g)(l:fs.lookup m=none)
  (h:Q (.ref g,[.ref a]) s):az (aH X.prog X.w) A (iA (.ref a) m pl) Q E s:=by
 obtain⟨mA,O,r,_,_,_⟩:=q0t I.hok e
 have hn:mA m=none:=RelO.none_of (by rw[<- l];exact r m)
 exact f1p I.kIn O (c.get m) k.at_ k.fn hn h
theorem y0g {y:V}{u:af}{Q:Unit->ah->Prop}(I:Inv X pins σ H s)(e:H a=some (.ins C dx fs))(c:Cls X.K C)(n:l0b X.K C f)(hl:fs.length<1000)(ry:RelV y u)
  (h:∀s',Inv X pins σ (upd H a (.ins C dx (putF f y fs))) s'->Q () s'):az (aH X.prog X.w) A (setAttr (.ref a) f u) Q E s:=by
 obtain⟨mA,O,r,wi,_,ho⟩:=q0t I.hok e
 have hz:(fs.map (·.1)).length<=aN:=by rw[aw,f9];omega
 refine h1z I.kIn O c.sa c.po n.taker c.hd wi hz fun h' O' sb=>h _ ?_
 have hd:∃o,h'.get? dx=some o:=let ⟨o,_,_,e',_⟩:=O'.ns;⟨o,e'⟩
 refine I.write (x:=a) (e:=dx) (by rw[e];exact True.intro) (.inr ho) (fun b q hb z=>(sb.2 b hb).trans z) hd ?_
 refine⟨by rw[a0x O.ne];exact ho,?_,O.ne,O'.obj,_,O'.ns,fun g=>?_,fun g hg=>?_⟩
 ·have:=n0u f y fs;omega
 ·show RelO ((putF f y fs).lookup g) (if g=f then some u else mA g)
  rw[n0t]
  by_cases q:g=f
  ·rw[if_pos q,if_pos q];exact ry
  ·rw[if_neg q,if_neg q];exact r g
 ·by_cases q:g=f
  ·rw[q];exact(n0v f y fs).1
  ·refine(n0v f y fs).2 g (wi g fun z=>hg ?_)
   show(if g=f then some u else mA g)=none
   rw[if_neg q];exact z
theorem Inv.made (I:Inv X pins σ H s):Inv X pins σ (upd (upd H s.heap.objs.size (.own (s.heap.objs.size+1))) (s.heap.objs.size+1) (.ins C s.heap.objs.size []))
  {s with heap:=(s.heap.push cI).push (dg C s.heap.objs.size)}:=by
 have e1:(s.heap.push cI).get? s.heap.objs.size=some cI:=aP s.heap rfl
 have e2:((s.heap.push cI).push (dg C s.heap.objs.size)).get? (s.heap.objs.size+1)=some (dg C s.heap.objs.size):=by
  have:=aP (s.heap.push cI) (o:=dg C s.heap.objs.size) rfl
  rwa [cf]at this
 have e3:(s.heap.push cI).Ns s.heap.objs.size (fun _=>none):=⟨cI,#[],_,e1,rfl,(fun e he=>absurd he (by simp)),fun _=>rfl⟩
 have I1:=I.laid (a:=s.heap.objs.size) (o:=.own (s.heap.objs.size+1)) (h':=s.heap.push cI) (t':=s.toks) (fun b u q=>aq _ q) (aE _) ⟨_,e1⟩
 refine I1.laid (a:=s.heap.objs.size+1) (o:=.ins C s.heap.objs.size []) (t':=s.toks) (fun b u q=>aq _ q) (fA (cf _ _)) ?_
 have ne:s.heap.objs.size≠s.heap.objs.size+1:=aR (c9 _)
 refine⟨by rw[a0x ne,a0z],bg _,ne,e2,fun _=>none,(Heap.Ns1.of_empty e3).at fun o q=>aq _ q,fun _=>True.intro,fun y hy=>absurd rfl hy⟩
theorem j1z {prog:aO}{w:be}{env:Env}{e:Expr}{f:Str}{pos:Pos}{s:ah}{Q:af->ah->Prop}(hb:gg e f env (eval e env)=eval e env)
  (h:az (aH prog w) A (eval e env) (fun o s₁=>az (aH prog w) A (getAttr o f true) Q E s₁) E s):az (aH prog w) A (eval (.Attribute e f pos) env) Q E s :=
 Attribute_any_ h (by rw[arm_eval_Attribute,hb])
end
def tFld (K:aa)(ta:TE)(f:Str):TE:=fun σ H Q=>ta σ H fun x H1=>∃a C dx fs v,x = .ref a/\H1 a=some (.ins C dx fs)/\Cls K C/\l0b K C f/\fs.lookup f=some v/\Q v H1
def sFld (K:aa)(ta tv:TE)(f:Str):TS:=fun D σ H=>tv σ H fun y H1=>ta σ H1 fun x H2=>∃a C dx fs,x = .ref a/\H2 a=some (.ins C dx fs)/\Cls K C/\l0b K C f/\fs.length<1000 /\
 D.nx σ (upd H2 a (.ins C dx (putF f y fs)))
section
variable {X:Cx}{o e value:Expr}{f:Str}{pos pos' tpos:Pos}{ta tv:TE}
theorem d0z (he:PE X e ta)(hb:gg e f X.env (eval e X.env)=eval e X.env):PE X (.Attribute e f pos) (tFld X.K ta f):=by
 intro pins s σ H Q I h
 refine j1z hb (thn (he pins s σ H _ I h) fun u s1 ⟨x,H1,I1,rx,a,C,dx,fs,v,ex,ea,c,n,l,q⟩=>?_)
 subst ex
 obtain rfl:u=Value.ref a:=rx
 exact z0c I1 ea c n l fun u' s2 I2 ru=>⟨v,H1,I2,ru,q⟩
theorem r0z (ha:PE X o ta)(hv:PE X value tv)(hs:gu value (some (.Attribute o f pos')) pos.line X.env=pure false):PS X (.Assign [.Attribute o f pos'] value pos) (sFld X.K ta tv f):=by
 intro pins s σ H D I h
 refine plainObj_wpAny_Assign_Attribute (thn (hv pins s σ H _ I h) fun u s1 ⟨y,H1,I1,ry,q⟩=>thn (ha pins s1 σ H1 _ I1 q) fun ov s2 ⟨x,H2,I2,rx,a,C,dx,fs,ex,ea,c,n,l,q2⟩=>?_) hs
 subst ex
 obtain rfl:ov=Value.ref a:=rx
 exact y0g I2 ea c n l ry fun s3 I3=>⟨σ,_,I3,q2⟩
end
section
variable {X:Cx}{pins:List (Addr×Obj)}{σ:St}{H:Hp}{s:ah}{A:bo}{E:af->ah->Prop}{Q:af->ah->Prop}{c:af}{b:Bool}
inductive TyOf (K:aa) (H:Hp):V->af->Prop where
 | non:TyOf K H .non (.type "NoneType")
 | bl (x:Bool):TyOf K H (.bl x) (.type "bool")
 | int (i:Int):TyOf K H (.int i) (.type "int")
 | str (x:Str):TyOf K H (.str x) (.type "str")
 | flt (x:UInt64):TyOf K H (.flt x) (.type "float")
 | lst {a:Addr} {xs:List V} (e:H a=some (.lst xs)):TyOf K H (.ref a) (.type "list")
 | frz {a:Addr} {o:Obj} {xs:List V} (e:H a=some (.frz o (.lst xs))):TyOf K H (.ref a) (.type "list")
 | tup {a:Addr} {xs:List V} (e:H a=some (.tup xs)):TyOf K H (.ref a) (.type "tuple")
 | dK {a:Addr} {kvs:List (Key×V)} (e:H a=some (.dK kvs)):TyOf K H (.ref a) (.type "dict")
 | dT {a:Addr} {kvs:List (List Key×V)} (e:H a=some (.dT kvs)):TyOf K H (.ref a) (.type "dict")
 | ins {a C dx:Addr} {fs:List (Str×V)} (e:H a=some (.ins C dx fs)) (cl:Cls K C) (ha:bb K (.ref C) "__class__" = some (some (.builtin "object.__class__")))
   (hn:PySem.W.specialIn K (.builtin "object.__class__") "__get__" = some (some (.builtin "getset_descriptor.__get__"))) (htk:PySem.W.takesIn K (.builtin "object.__class__")=some true)
   (hm:PySem.W.mroIn K C (.type "object")=some true):TyOf K H (.ref a) (.ref C)
theorem k0t {x:V}{u t:af}(I:Inv X pins σ H s)(rx:RelV x u)(ty:TyOf X.K H x t)(e:iU X.K t c=some b)(h:∀tk,Q (.bool b) {s with toks:=tk}) :
  az (aH X.prog X.w) A (call (.builtin "isinstance") [u,c]) Q E s:=by
 cases ty with
 | non=>cases (show u=Value.none from rx);exact bV PySem.W.kitx_none I.kIn True.intro e (fun z=>nomatch z) h
 | bl y=>cases (show u=Value.bool y from rx);exact bV PySem.W.kitx_bool I.kIn True.intro e (fun z=>nomatch z) h
 | int i=>obtain⟨t,q⟩:=(show ∃t,u=Value.int i t from rx);cases q;exact bV PySem.W.kitx_int I.kIn True.intro e (fun z=>nomatch z) h
 | str y=>obtain⟨t,q⟩:=(show ∃t,u=Value.str y t from rx);cases q;exact bV PySem.W.kitx_str I.kIn True.intro e (fun z=>nomatch z) h
 | flt y=>obtain⟨t,q⟩:=(show ∃t,u=Value.float y t from rx);cases q;exact bV PySem.W.kitx_float I.kIn True.intro e (fun z=>nomatch z) h
 | @lst a xs ea =>
  cases (show u=Value.ref a from rx)
  obtain⟨_,_,n,_,h1⟩:=(show d0y X.prog X.w H s.heap a (.lst xs)from I.hok a _ ea)
  exact bV gY I.kIn ⟨_,h1,rfl⟩ e (fun z=>nomatch z) h
 | @frz a ob xs ea =>
  cases (show u=Value.ref a from rx)
  obtain⟨_,_,_,n,_,h1⟩:=(show d0y X.prog X.w H s.heap a (.frz ob (.lst xs))from I.hok a _ ea)
  exact bV gY I.kIn ⟨_,h1,rfl⟩ e (fun z=>nomatch z) h
 | @tup a xs ea =>
  cases (show u=Value.ref a from rx)
  obtain⟨_,_,_,p⟩:=(show d0y X.prog X.w H s.heap a (.tup xs)from I.hok a _ ea)
  obtain⟨o,h1,h2,_⟩:=p
  exact bV j4 I.kIn ⟨o,h1,h2⟩ e (fun z=>nomatch z) h
 | @dK a kvs ea =>
  cases (show u=Value.ref a from rx)
  obtain⟨_,_,vs,_,p⟩:=(show d0y X.prog X.w H s.heap a (.dK kvs)from I.hok a _ ea)
  obtain⟨o,es,ep,h1,h2,_⟩:=p
  exact bV ke I.kIn ⟨o,h1,h2.1⟩ e (fun z=>nomatch z) h
 | @dT a kvs ea =>
  cases (show u=Value.ref a from rx)
  obtain⟨_,_,xs,_,o,es,ep,h1,h2,_⟩:=(show d0y X.prog X.w H s.heap a (.dT kvs)from I.hok a _ ea)
  exact bV ke I.kIn ⟨o,h1,h2.1⟩ e (fun z=>nomatch z) h
 | @ins a C dx fs ea cl ha hn htk hm =>
  cases (show u=Value.ref a from rx)
  obtain⟨mA,O,_⟩:=q0t I.hok ea
  obtain⟨od,J,_⟩:=O.look
  exact bV (PySem.W.kitx_own (cl.get _) cl.hd ha hn htk hm) I.kIn J e (fun z=>nomatch z) h
end
structure Room (k:Nat)(A:bo):Prop where
 hd:A.handled=none
 dp:A.depth+3*k+5<recursionLimit
 un:A.units+16*k+200<d9
 gd:A.guards=some []
theorem Room.mono {j k:Nat}{A:bo}(r:Room k A)(h:j<=k):Room j A:=⟨r.hd,by have:=r.dp;omega,by have:=r.un;omega,r.gd⟩
theorem Room.deeper {k:Nat}{A:bo}(r:Room (k+1) A)(env:Env):Room k (A.deeper env) :=
 ⟨r.hd,by have:=r.dp;show A.depth+1+3*k+5<_;omega,by have:=r.un;show A.units+3+16*k+200<_;omega,r.gd⟩
theorem y0t {A:bo}{C:Addr}{us:List af}{kw:List (Str×af)}:(A.under (.builtin "type.__call__" ⟨.ref C::us,kw⟩)).depth=A.depth+1:=by
 first | rfl | simp[hX,Code.weight,Code.isCreation,Code.isGuard,Code.isCaller,mP,jT,guardIds]
theorem y0s {A:bo}{C:Addr}{us:List af}{kw:List (Str×af)}:(A.under (.builtin "type.__call__" ⟨.ref C::us,kw⟩)).units=A.units+1:=by
 first | rfl | simp[hX,Code.cUnits,mP,jT]
theorem v0e {A:bo}{C:Addr}{us:List af}{kw:List (Str×af)}:(A.under (.builtin "type.__call__" ⟨.ref C::us,kw⟩)).guards=A.guards:=by
 have:(Code.builtin "type.__call__" ⟨.ref C::us,kw⟩).guards=[]:=by
  unfold Code.guards
  rw[if_neg]
  show ¬guardIds.contains "type.__call__" = true
  decide +kernel
 unfold hX
 rw[this]
 cases A with
 | mk a b c d e=>cases d <;> rfl
theorem Room.make {k:Nat}{A:bo}(r:Room (k+1) A)(C:Addr)(us:List af)(kw:List (Str×af)):Room k (A.under (.builtin "type.__call__" ⟨.ref C::us,kw⟩)) :=
 ⟨r.hd,by have:=r.dp;rw[y0t];omega,by have:=r.un;rw[y0s];omega,by rw[v0e];exact r.gd⟩
theorem Room.depth {k:Nat}{A:bo}(r:Room k A):A.depth<recursionLimit:=by have:=r.dp;omega
theorem Room.units {k:Nat}{A:bo}(r:Room k A):A.units+64<d9:=by have:=r.un;omega
def tNil:TA:=fun _ H Q=>Q [] H
def a1k (ta:TE)(tr:TA):TA:=fun σ H Q=>ta σ H fun x H1=>tr σ H1 fun xs H2=>Q (x::xs) H2
section
variable {X:Cx}{e:Expr}{es:List Expr}{te:TE}{t:TA}{pos:Pos}
theorem a0f:PA X [] tNil:=fun _ _ _ _ H Q I h=>fG ⟨[],H,I,.nil,h⟩
theorem a0c (ha:PE X e te)(hr:PA X es t)(hs:bh (e::es) X.env=(false,eval e X.env)::bh es X.env:=by rfl):PA X (e::es) (a1k te t):=by
 intro pos pins s σ H Q I h
 rw[hs]
 show az _ _ (mn ((false,eval e X.env)::dE pos (bh es X.env))) _ _ s
 refine d8 (thn (ha pins s σ H _ I h) fun u s1 ⟨x,H1,I1,r1,q1⟩=>?_)
 exact thn (hr pos pins s1 σ H1 _ I1 q1) fun us s2 ⟨xs,H2,I2,r2,q2⟩=>⟨x::xs,H2,I2,.cons r1 r2,q2⟩
def tTup (t:TA):TE:=fun σ H Q=>t σ H fun xs H1=>xs.length<=aN/\∀p,H1 p=none->Q (.ref p) (upd H1 p (.tup xs))
def tLst (t:TA):TE:=fun σ H Q=>t σ H fun xs H1=>xs.length<=aN/\∀p,H1 p=none->Q (.ref p) (upd H1 p (.lst xs))
theorem d0e {x1}(h:PA X es t):PE X (.Tuple es x1 pos) (tTup t):=by
 intro pins s σ H Q I hq
 refine wpAny_Tuple_spliced (thn (h pos pins s σ H _ I hq) fun us s1 ⟨xs,H1,I1,r,z,q⟩=>⟨by rw[<- r.length];exact z,?_⟩)
 have hf:H1 s1.heap.objs.size=none:=I1.hok.fresh (aE _)
 refine⟨.ref s1.heap.objs.size,upd H1 s1.heap.objs.size (.tup xs),I1.laid (t':=s1.toks) (fun b u e=>aq _ e) (aE _) ?_,rfl,q _ hf⟩
 exact⟨z,us,r,⟨_,aP _ rfl,rfl,_,rfl⟩⟩
theorem k0j (h:PA X es t):PE X (.List es pos) (tLst t):=by
 intro pins s σ H Q I hq
 refine wpAny_List_spliced (thn (h pos pins s σ H _ I hq) fun us s1 ⟨xs,H1,I1,r,z,q⟩=>⟨by rw[<- r.length];exact z,?_⟩)
 have hf:H1 s1.heap.objs.size=none:=I1.hok.fresh (aE _)
 refine⟨.ref s1.heap.objs.size,upd H1 s1.heap.objs.size (.lst xs),I1.laid (t':=s1.toks) (fun b u e=>aq _ e) (aE _) ?_,rfl,q _ hf⟩
 exact⟨z,us,0,r,aP _ rfl⟩
end
abbrev Sp:=List V->Hp->VK->XK->Prop
abbrev CXT:=List Env->Hp->ah->XK->af->ah->Prop
structure Env0 (P:aO)(w:be)(K:aa)(mg:Str->Option af)(base:Heap)(A:bo)(outer:List Env)(s:ah)(H:Hp):Prop where
 frames:A.frames=some outer
 mod:Mod K mg base
 bs:∀b o,base.get? b=some o->s.heap.get? b=some o/\H b=none
 bsz:base.objs.size<=s.heap.objs.size
 funs:s.heap.FunFrames base outer
 frf:∀b∈frs outer,H b=none
 hok:HOk P w H s.heap
 bare:gQ s.gens
def CE (outer:List Env)(P:aO)(w:be)(H:Hp)(s:ah)(Q:VK)(u:af)(s':ah):Prop :=
 ∃v H',s'.os=s.os/\gQ s'.gens/\Un (frs outer) [] H H' s.heap s'.heap/\HOk P w H' s'.heap/\RelV v u/\Q v H'
def CR (CX:CXT)(outer:List Env)(P:aO)(w:be)(H:Hp)(s:ah)(Q:VK)(E:XK)(r:eU)(s':ah):Prop :=
 match r with
 | .ok (.ret u)=>CE outer P w H s Q u s'
 | .ok _=>False
 | .error e=>CX outer H s E e s'
structure FnOk (P:aO)(w:be)(K:aa)(mg:Str->Option af)(base:Heap)(CX:CXT)(k:Nat)(f:Addr)(fd:eV)(ps:List Str)(sp:Sp):Prop where
 len:∀vs H Q E,sp vs H Q E->vs.length=ps.length
 run:∀(A:bo) (outer:List Env) (s:ah) (H:Hp) (args:Args) (us:List af) (vs:List V) (Q:VK) (E:XK),Room k A->Env0 P w K mg base A outer s H->jU s fd args (ps.zip us)->Vals vs us->sp vs H Q E ->
  cc (aH P w) A (.call (.ref f) args) (CR CX outer P w H s Q E) s
theorem FnOk.imp {P:aO}{w:be}{K:aa}{mg:Str->Option af}{base:Heap}{CX:CXT}{k:Nat}{f:Addr}{fd:eV}{ps:List Str}{sp sp':Sp}(F:FnOk P w K mg base CX k f fd ps sp)
  (h:∀vs H Q E,sp' vs H Q E->sp vs H Q E):FnOk P w K mg base CX k f fd ps sp' :=
 ⟨fun vs H Q E q=>F.len vs H Q E (h _ _ _ _ q),fun A outer s H args us vs Q E hr he hb hv hs=>F.run A outer s H args us vs Q E hr he hb hv (h _ _ _ _ hs)⟩
theorem Env0.make {P:aO}{w:be}{K:aa}{mg:Str->Option af}{base:Heap}{A:bo}{outer:List Env}{s:ah}{H:Hp}(e:Env0 P w K mg base A outer s H)(C:Addr)(us:List af)(kw:List (Str×af)) :
  Env0 P w K mg base (A.under (.builtin "type.__call__" ⟨.ref C::us,kw⟩)) outer s H:=⟨by first | exact e.frames | (simpa [hX,Code.envs,jT,pushEnvs] using e.frames),e.mod,e.bs,e.bsz,e.funs,e.frf,e.hok,e.bare⟩
section
variable {X:Cx}{pins:List (Addr×Obj)}{σ:St}{H:Hp}{s s':ah}
theorem Inv.env0 (I:Inv X pins σ H s):Env0 X.prog X.w X.K X.mg X.base X.A X.stack s H :=
 ⟨I.ok.frames,I.ok.mod,I.bs,aW I.ok.bsz I.sz,I.stack,I.stkFree,I.hok,I.bare⟩
theorem Inv.after {Q:VK}{u:af}(I:Inv X pins σ H s)(h:CE X.stack X.prog X.w H s Q u s'):EP X pins σ Q u s':=by
 obtain⟨v,H',os,bare,un,hok,r,q⟩:=h
 obtain⟨hh,g,d,t,os'⟩:=s'
 obtain rfl:os'=s.os:=os
 exact⟨v,H',I.call (h':=hh) (g':=g) (d':=d) (t':=t) (ch:=[]) un hok bare (fun b z=>absurd z (by simp)),r,q⟩
end
def h1s (sp:Sp)(dvs:List V)(E:XK)(t:TA):TE:=fun σ H Q=>t σ H fun vs H1=>sp (vs++dvs) H1 Q E
def a1i (C:Addr)(m:Str)(sp:Sp)(dvs:List V)(E:XK)(ta:TE)(t:TA):TE:=fun σ H Q=>ta σ H fun x H1=>∃a dx fs,x = .ref a/\H1 a=some (.ins C dx fs)/\fs.lookup m=none /\
 t σ H1 fun vs H2=>sp (x::(vs++dvs)) H2 Q E
def h1r (C:Addr)(sp:Sp)(dvs:List V)(E:XK)(t:TA):TE:=fun σ H Q=>t σ H fun vs H1=>∀x dx,H1 x=none->H1 dx=none->dx≠x ->
 sp (.ref x::(vs++dvs)) (upd (upd H1 dx (.own x)) x (.ins C dx [])) (fun v H2=>v = .non/\Q (.ref x) H2) E
def o0m (K:aa)(fd:eV)(ps:List Str)(ds:List af):Prop :=
 ∀(s:ah) (us:List af),K.In s.heap->(us++ds).length=ps.length->jU s fd ⟨us,[]⟩ (ps.zip (us++ds))
theorem o0m.all {K:aa}{fd:eV}{ps:List Str}(h:∀us:List af,us.length=ps.length->j2 fd ⟨us,[]⟩=pure (ps.zip us)):o0m K fd ps []:=fun s us _ hl=>by
 rw[bq]at hl ⊢
 exact .of_eq (h us hl)
def o0l (CX:CXT)(X:Cx)(E:XK):Prop:=∀(pins:List (Addr×Obj)) (σ:St) (H:Hp) (s:ah) (e:af) (s':ah),Inv X pins σ H s->CX X.stack H s E e s'->X.xe e s'
section
variable {X:Cx}{CX:CXT}{k:Nat}{f C:Addr}{fd:eV}{ps:List Str}{sp:Sp}{dvs:List V}{ds:List af}{E:XK}{x m:Str}{p pos apos:Pos}{e o:Expr}{es:List Expr}{ta:TE}{t:TA}
theorem a1w {pins:List (Addr×Obj)}{σ:St}{H:Hp}{s:ah}{Q:VK}{us:List af}{vs:List V}(F:FnOk X.prog X.w X.K X.mg X.base CX k f fd ps sp)(hr:Room k X.A)(hb:o0m X.K fd ps ds)(hd:Vals dvs ds)(hx:o0l CX X E)
  (I:Inv X pins σ H s) (r:Vals vs us) (h:sp (vs++dvs) H Q E):az (aH X.prog X.w) X.A (call (.ref f) us) (EP X pins σ Q) X.xe s:=by
 have r2:Vals (vs++dvs) (us++ds):=r.append hd
 have hl:(us++ds).length=ps.length:=by rw[<- r2.length];exact F.len _ _ _ _ h
 refine wpAny_call (fI (F.run X.A X.stack s H ⟨us,[]⟩ (us++ds) (vs++dvs) Q E hr I.env0 (hb s us I.kIn hl) r2 h) fun r s' hq=>?_)
 cases r with
 | error e=>exact hx pins σ H s e s' I hq
 | ok fl =>
  cases fl with
  | ret u=>exact I.after hq
  | next=>exact c_ hq
  | brk=>exact c_ hq
  | cont=>exact c_ hq
theorem i1j (F:FnOk X.prog X.w X.K X.mg X.base CX k f fd ps sp)(hr:Room k X.A)(hg:Gl X x)(hm:X.mg x=some (.ref f))(hk:bA X.K (.ref f)=true)(hb:o0m X.K fd ps ds)(hd:Vals dvs ds)(hx:o0l CX X E)
  (ha:PA X (e::es) t) (hdb:(x==("__debug__" : Str))=false:=by decide) (he:bh (e::es) X.env=(false,eval e X.env)::bh es X.env:=by rfl) (hpl:(dE pos (bh es X.env)).any (·.1)=false:=by rfl) :
  PE X (.Call (.Name x p) (e::es) [] pos) (h1s sp dvs E t):=by
 intro pins s σ H Q I h
 refine fR (v0g I hg hm ?_ hdb)
 refine gK (h₀:=X.base) I.ok.mod.kin hk (thn (ha pos pins s σ H _ I h) fun us s1 ⟨vs,H1,I1,r,q⟩=>⟨I1.kIn,?_⟩) he hpl
 exact a1w F hr hb hd hx I1 r q
theorem i1g {pl:Sem Bool}(he:PE X o ta)(c:Cls X.K C)(hm:Meth X.K C m f)(F:FnOk X.prog X.w X.K X.mg X.base CX k f fd ps sp)(hr:Room k X.A)(hb:o0m X.K fd ps ds)(hd:Vals dvs ds)(hx:o0l CX X E)(ha:PA X (e::es) t)
  (hst:bh (e::es) X.env=(false,eval e X.env)::bh es X.env:=by rfl) (hpl:(dE pos (bh es X.env)).any (·.1)=false:=by rfl)
  (ht:eval (.Call (.Attribute o m apos) (e::es) [] pos) X.env=(do
   let ov <- eval o X.env
   dU apos.atName
   let (f,first) <- iw [ov] (iA ov m pl)
   lz pos f first (dE pos (bh (e::es) X.env)) (ie pos (fw [] X.env))):=by rfl) :
  PE X (.Call (.Attribute o m apos) (e::es) [] pos) (a1i C m sp dvs E ta t):=by
 intro pins s σ H Q I h
 refine jI (pl:=pl) (thn (he pins s σ H _ I h) fun u s1 ⟨x,H1,I1,rx,a,dx,fs,ex,ea,l,q⟩=>?_) ht
 subst ex
 obtain rfl:u=Value.ref a:=rx
 refine p0o I1 ea c hm l ?_
 refine gK (first:=[.ref a]) (h₀:=X.base) I.ok.mod.kin hm.kp (thn (ha pos pins s1 σ H1 _ I1 q) fun us s2 ⟨vs,H2,I2,r,q2⟩=>⟨I2.kIn,?_⟩) hst hpl
 exact a1w (us:=.ref a::us) (vs:=.ref a::vs) F hr hb hd hx I2 (.cons rfl r) q2
theorem e1t {pl:Sem Bool}(he:PE X o ta)(c:Cls X.K C)(hm:Meth X.K C m f)(F:FnOk X.prog X.w X.K X.mg X.base CX k f fd ps sp)(hr:Room k X.A)(hb:o0m X.K fd ps ds)(hd:Vals dvs ds)(hx:o0l CX X E)
  (ht:eval (.Call (.Attribute o m apos) [] [] pos) X.env=(do
   let ov <- eval o X.env
   dU apos.atName
   let (f,first) <- iw [ov] (iA ov m pl)
   lz pos f first (dE pos (bh [] X.env)) (ie pos (fw [] X.env))):=by rfl) :
  PE X (.Call (.Attribute o m apos) [] [] pos) (a1i C m sp dvs E ta tNil):=by
 intro pins s σ H Q I h
 refine jI (pl:=pl) (thn (he pins s σ H _ I h) fun u s1 ⟨x,H1,I1,rx,a,dx,fs,ex,ea,l,q⟩=>?_) ht
 subst ex
 obtain rfl:u=Value.ref a:=rx
 refine p0o I1 ea c hm l ?_
 exact PySem.W.callWith_K0 (first:=[.ref a]) I1.kIn hm.kp (a1w (us:=[.ref a]) (vs:=[.ref a]) F hr hb hd hx I1 (.cons rfl .nil) q)
structure Mk (K:aa)(C f:Addr):Prop where
 makes:fX K C=true
 init:bb K (.ref C) "__init__" = some (some (.ref f))
 fn:cw K (.ref f)=true
 kp:bA K (.ref C)=true
theorem e1k {pins:List (Addr×Obj)}{σ:St}{H:Hp}{s:ah}{Q:VK}{us:List af}{vs:List V}(M:Mk X.K C f)(F:FnOk X.prog X.w X.K X.mg X.base CX k f fd ps sp)(hr:Room (k+1) X.A)(hb:o0m X.K fd ps ds)(hd:Vals dvs ds)
  (hx:o0l CX X E) (I:Inv X pins σ H s) (r:Vals vs us)
  (h:∀x dx,H x=none->H dx=none->dx≠x->sp (.ref x::(vs++dvs)) (upd (upd H dx (.own x)) x (.ins C dx [])) (fun v H2=>v = .non/\Q (.ref x) H2) E) :
  az (aH X.prog X.w) X.A (call (.ref C) us) (EP X pins σ Q) X.xe s:=by
 have hq:=h (s.heap.objs.size+1) s.heap.objs.size (I.hok.fresh (fN _)) (I.hok.fresh (aE _)) (aR (c9 _))
 have I2:=Inv.made (C:=C) I
 have r2:Vals (V.ref (s.heap.objs.size+1)::(vs++dvs)) (Value.ref (s.heap.objs.size+1)::(us++ds)):=.cons rfl (r.append hd)
 have hl:(Value.ref (s.heap.objs.size+1)::us++ds).length=ps.length:=by
  have e:=r2.length
  rw[F.len _ _ _ _ hq]at e
  exact e.symm
 refine wpAny_call (f1h (f:=f) I.kIn M.makes M.init (beq_iff_eq.mp M.fn) (fI (F.run _ X.stack _ _ ⟨Value.ref (s.heap.objs.size+1)::us,[]⟩ (Value.ref (s.heap.objs.size+1)::(us++ds)) _ _ E (hr.make C us [])
  (I2.env0.make C us []) (hb _ (Value.ref (s.heap.objs.size+1)::us) I2.kIn hl) r2 hq) fun r s' hq'=>?_))
 cases r with
 | error e=>exact hx pins σ _ _ e s' I2 hq'
 | ok fl =>
  cases fl with
  | ret u =>
   obtain⟨v,H',I3,rv,ev,q3⟩:=I2.after hq'
   subst ev
   exact⟨rv,⟨V.ref (s.heap.objs.size+1),H',I3,rfl,q3⟩⟩
  | next=>exact c_ hq'
  | brk=>exact c_ hq'
  | cont=>exact c_ hq'
theorem i1h (M:Mk X.K C f)(F:FnOk X.prog X.w X.K X.mg X.base CX k f fd ps sp)(hr:Room (k+1) X.A)(hg:Gl X x)(hm:X.mg x=some (.ref C))(hb:o0m X.K fd ps ds)(hd:Vals dvs ds)(hx:o0l CX X E)
  (ha:PA X (e::es) t) (hdb:(x==("__debug__" : Str))=false:=by decide) (he:bh (e::es) X.env=(false,eval e X.env)::bh es X.env:=by rfl) (hpl:(dE pos (bh es X.env)).any (·.1)=false:=by rfl) :
  PE X (.Call (.Name x p) (e::es) [] pos) (h1r C sp dvs E t):=by
 intro pins s σ H Q I h
 refine fR (v0g I hg hm ?_ hdb)
 refine gK (h₀:=X.base) I.ok.mod.kin M.kp (thn (ha pos pins s σ H _ I h) fun us s1 ⟨vs,H1,I1,r,q⟩=>⟨I1.kIn,?_⟩) he hpl
 exact e1k M F hr hb hd hx I1 r q
end
structure b0a (N P:List Str)(sc:cT):Prop where
 kind:sc.kind = .function
 co:sc.isCoroutine=false
 gen:sc.isGenerator=false
 nd:N.Nodup
 pre:N.take P.length=P
 par:∀x∈P,sc.names.lookup x=some .local∨sc.names.lookup x=some .cell
 nofree:∀y∈sc.names,y.2 ≠ .free
theorem t0o {kindOf:Str->Option d4}{x:Str}:∀ {binds:List (Str×af)} {m:Str->Option af},(∀v,(x,v)∉binds)->kH kindOf binds m x=m x
 | [],_,_=>rfl
 | (n,v)::r,m,h=>by
  unfold kH
  rw[t0o fun w hw=>h w (aZ _ hw)]
  split
  ·have:x≠n:=by rintro rfl;exact h v aX
   simp[this]
  ·rfl
theorem t0q {kindOf:Str->Option d4}{x:Str}:∀ {binds:List (Str×af)} {m:Str->Option af},(∀v,(x,v)∉binds)->kI kindOf binds m x=m x
 | [],_,_=>rfl
 | (n,v)::r,m,h=>by
  unfold kI
  rw[t0q fun w hw=>h w (aZ _ hw)]
  split
  ·rfl
  ·have:x≠n:=by rintro rfl;exact h v aX
   simp[this]
theorem t0p {kindOf:Str->Option d4}{x:Str}{v:af}:∀ {P:List Str} {vs:List af} {i:Nat} {m:Str->Option af},P.Nodup->P[i]? = some x->vs[i]? = some v->kindOf x=some .local ->
  kH kindOf (P.zip vs) m x=some v
 | [],_,_,_,_,h,_,_=>by simp at h
 | _::_,[],_,_,_,_,h,_=>by simp at h
 | p::P,w::vs,0,m,nd,h1,h2,hk=>by
  simp at h1 h2;subst h1;subst h2
  show kH kindOf ((p,w)::P.zip vs) m p=_
  unfold kH
  rw[t0o fun v hv=>(e8.mp nd).1 (i0 hv).1,if_pos hk]
  simp
 | p::P,w::vs,i+1,m,nd,h1,h2,hk=>by
  show kH kindOf ((p,w)::P.zip vs) m x=_
  unfold kH
  exact t0p (i:=i) (e8.mp nd).2 (by simpa using h1) (by simpa using h2) hk
theorem t0r {kindOf:Str->Option d4}{x:Str}{v:af}:∀ {P:List Str} {vs:List af} {i:Nat} {m:Str->Option af},P.Nodup->P[i]? = some x->vs[i]? = some v->kindOf x≠some .local ->
  kI kindOf (P.zip vs) m x=some v
 | [],_,_,_,_,h,_,_=>by simp at h
 | _::_,[],_,_,_,_,h,_=>by simp at h
 | p::P,w::vs,0,m,nd,h1,h2,hk=>by
  simp at h1 h2;subst h1;subst h2
  show kI kindOf ((p,w)::P.zip vs) m p=_
  unfold kI
  rw[t0q fun v hv=>(e8.mp nd).1 (i0 hv).1,if_neg hk]
  simp
 | p::P,w::vs,i+1,m,nd,h1,h2,hk=>by
  show kI kindOf ((p,w)::P.zip vs) m x=_
  unfold kI
  exact t0r (i:=i) (e8.mp nd).2 (by simpa using h1) (by simpa using h2) hk
def start (N:List Str)(vs:List V):St:=vs.map some++aG (N.length - vs.length) none
def cxOf (CX:CXT)(P:aO)(w:be)(K:aa)(mg:Str->Option af)(base:Heap)(N:List Str)(qual:Str)(scope:cT)(f:Addr)(cd:af)(A:bo)(outer:List Env)(s:ah)(H:Hp)(E:XK):Cx where
 prog:=P
 w:=w
 K:=K
 mg:=mg
 base:=base
 A:=A.deeper (e9 qual scope s.heap.objs.size f cd)
 N:=N
 s₀:=s
 H₀:=H
 env:=e9 qual scope s.heap.objs.size f cd
 outer:=outer
 stack:=e9 qual scope s.heap.objs.size f cd::outer
 ex:=[]
 calm:=true
 fn:=fun _=>true
 pn:=[]
 xe:=fun e s'=>az (aH P w) (A.deeper (e9 qual scope s.heap.objs.size f cd)) (leaving (e9 qual scope s.heap.objs.size f cd) e) (fun _ s''=>CX outer H s E e s'') (fun e' s''=>CX outer H s E e' s'') s'
theorem x0t {sc:cT}{n:Nat}{x:Str}(h:sc.names.lookup x=some .cell):∃c,(mF n sc.names []).lookup x=some c:=by
 have q:=jA sc.names n [] (.inl h)
 exact Option.isSome_iff_exists.mp q
theorem c1c {CX:CXT}{P:aO}{w:be}{K:aa}{mg:Str->Option af}{base:Heap}{N ps:List Str}{qual:Str}{scope:cT}{f:Addr}{cd:af}{A:bo}{outer:List Env}{s s1:ah}{H:Hp}{E:XK}{us:List af}{vs:List V}
  (S:b0a N ps scope) (hd:A.handled=none) (e0:Env0 P w K mg base A outer s H) (hl:vs.length=ps.length) (r:Vals vs us)
  (x:InCallC s s.heap.objs.size (kH (e9 qual scope s.heap.objs.size f cd).kindOf (ps.zip us) fun _=>none) (mF (s.heap.objs.size+1) scope.names []) (kI (e9 qual scope s.heap.objs.size f cd).kindOf (ps.zip us) fun _=>none) s1) :
  Inv (cxOf CX P w K mg base N qual scope f cd A outer s H E) [] (start N vs) H s1:=by
 have hpl:ps.length<=N.length:=by have:=congrArg mJ S.pre;rw[bi]at this;omega
 obtain⟨h1,tk,rfl,hk⟩:=x.done
 have noA:∀b:Addr,b∉(cxOf CX P w K mg base N qual scope f cd A outer s H E).ex:=fun b z=>absurd (show b∈([]:List Addr)from z) (by simp)
 refine⟨⟨e0.mod,S.kind,rfl,rfl,aE _,fun y z c h1 h2=>?_,fun y hy=>?_,fun y c _ h=>?_,fun _=>hd,Around.frames_deeper e0.frames,.inr ⟨rfl,rfl⟩,fun b z=>absurd z (noA b),e0.bs,e0.bsz,fun b _ _=>noA b,fun b z=>absurd z (noA b),e0.funs,e0.frf⟩,
  rfl,e0.bare,Un.kept hk,⟨_,x.toInCall.ns,fun i y v h1 h2 h3=>?_⟩,fun y c h=>⟨_,x.cell y c h⟩,e0.hok.fresh (aE _),fun y c h=>?_,fun p hp=>absurd (show p∈([]:List (Addr×Obj))from hp) (by simp),e0.hok.kept hk,?_⟩
 ·exact name_of_addr x.apart (bZ h1) (bZ h2)
 ·have hy:scope.names.lookup y=some .cell∨scope.names.lookup y=some .free:=hy
  rcases hy with hy | hy
  ·exact x0t hy
  ·exact absurd rfl (S.nofree _ (bZ hy))
 ·exact bW (x.above y c (bZ h))
 ·have hi:i<vs.length:=by
   unfold start at h2
   by_cases hi:i<vs.length
   ·exact hi
   ·rw[bx (by simpa using hi)]at h2
    rw[bP]at h2
    split at h2 <;> cases h2
  have ha:vs[i]? = some v:=by
   unfold start at h2
   rw[a_ (by simpa using hi),aM]at h2
   cases e:vs[i]? with
   | none=>rw[e]at h2;cases h2
   | some a=>rw[e]at h2;cases h2;rfl
  obtain⟨u,hu,rv⟩:=r.get ha
  have hp:ps[i]? = some y:=by
   rw[<- S.pre,fO (by omega)];exact h1
  have ndP:ps.Nodup:=by rw[<- S.pre];exact S.nd.sublist (List.take_sublist _ _)
  refine⟨u,rv,?_⟩
  rcases S.par y (bz hp)with k | k
  ·exact .inl ⟨k,t0p ndP hp hu k⟩
  ·obtain⟨c,e⟩:=x0t (n:=s.heap.objs.size+1) k
   refine .inr ⟨.inl k,c,e,?_⟩
   have q:=x.cell y c e
   rw[t0r ndP hp hu (by show scope.names.lookup y≠_;rw[k];decide)]at q
   exact q
 ·exact e0.hok.fresh (bW (x.above y c (bZ h)))
 ·unfold start
  show _=N.length
  rw[aJ,aw,cx]
  omega
theorem o1b {CX:CXT}{P:aO}{w:be}{K:aa}{mg:Str->Option af}{base:Heap}{k:Nat}{f:Addr}{name qual:Str}{params:Arguments}{body:List Stmt}{scope:cT}{dV kV doc pm cdv ct oc:af}{an od:Option Addr}
  {osl:Array (Option af)} {N ps:List Str} {sp:Sp} (lk:K.lookup f=some ⟨oc,od,.func (bK name qual params body scope dV kV doc pm an cdv ct),osl⟩) (hcd:bM K cdv qual=true) (S:b0a N ps scope)
  (len:∀vs H Q E,sp vs H Q E->vs.length=ps.length)
  (hbody:∀(A:bo) (outer:List Env) (s:ah) (H:Hp) (vs:List V) (Q:VK) (E:XK),Room k (A.deeper (e9 qual scope s.heap.objs.size f cdv))->sp vs H Q E ->
   ∃t,PSs (cxOf CX P w K mg base N qual scope f cdv A outer s H E) body t/\t {nx:=fun _ H'=>Q .non H',rt:=Q} (start N vs) H) :
  FnOk P w K mg base CX (k+1) f (bK name qual params body scope dV kV doc pm an cdv ct) ps sp:=by
 refine⟨len,fun A outer s H args us vs Q E hr e0 hb r hsp=>?_⟩
 have hl:=len _ _ _ _ hsp
 have KX:K.In s.heap:=e0.mod.kin.keeps fun b o e=>(e0.bs b o e).1
 have lim:s.heap.NoLimit:=e0.mod.nolimit.keeps fun b o e=>(e0.bs b o e).1
 have hkind:∀y∈ps.zip us,scope.names.lookup y.1=some .local∨(scope.names.lookup y.1=some .cell/\((mF (s.heap.objs.size+1) scope.names []).lookup y.1).isSome=true):=fun⟨n,v⟩ hy=>by
  rcases S.par n (i0 hy).1 with q | q
  ·exact .inl q
  ·exact .inr ⟨q,jA _ _ _ (.inl q)⟩
 refine codeAny_call_function hr.depth (KX _ _ lk) rfl S.co S.gen rfl (PySem.W.codeRec_of KX hcd) (hb _ _ _ _ ?_)
 refine wpAny_newFunctionEnv_cells S.kind hkind fun env he s1 x=>?_
 subst he
 refine⟨lim.keeps x.toInCall.keep,codeAny_func ?_⟩
 obtain⟨t,ht,hq⟩:=hbody A outer s H vs Q E (hr.deeper _) hsp
 have I:Inv (cxOf CX P w K mg base N qual scope f cdv A outer s H E) [] (start N vs) H s1:=c1c S hr.hd e0 hl r x
 refine cP (ht [] s1 (start N vs) H _ I hq) (fun fl s' hs=>?_) fun e s' hs=>hs
 have fin:∀ {σ':St} {H':Hp} {v:V} {u:af},Inv (cxOf CX P w K mg base N qual scope f cdv A outer s H E) [] σ' H' s'->RelV v u->Q v H'->CE outer P w H s Q u s' :=
  fun{σ' H' v u} J rv q=>⟨v,H',J.os,J.bare,J.base,J.hok,rv,q⟩
 cases fl with
 | ret u =>
  obtain⟨v,σ',H',J,rv,q⟩:=hs
  exact fin J rv q
 | next =>
  obtain⟨σ',H',J,q⟩:=hs
  exact fin (v:=V.non) (u:=Value.none) J rfl q
 | brk =>
  obtain⟨_,_,_,q⟩:=hs
  exact c_ q
 | cont =>
  obtain⟨_,_,_,q⟩:=hs
  exact c_ q
section
variable {X:Cx}{x:Str}{p pos:Pos}{e:Expr}{es:List Expr}{t:TA}{id T:String}{r:List V->Hp->VK->Prop}
def tCB (r:List V->Hp->VK->Prop)(t:TA):TE:=fun σ H Q=>t σ H fun vs H1=>r vs H1 Q
theorem b0m (hc:l0c X (.builtin id) r)(hg:Gl X x)(hm:X.mg x=none)(hv:bY x=some (.builtin id))(ha:PA X (e::es) t)(hn:x ≠ "__name__" := by decide)(hdb:(x==("__debug__" : Str))=false:=by decide)
  (he:bh (e::es) X.env=(false,eval e X.env)::bh es X.env:=by rfl) (hpl:(dE pos (bh es X.env)).any (·.1)=false:=by rfl):PE X (.Call (.Name x p) (e::es) [] pos) (tCB r t):=by
 intro pins s σ H Q I h
 refine fR (j0m I hg hm hv ?_ hn hdb)
 exact gC (thn (ha pos pins s σ H _ I h) fun us s1 ⟨vs,H1,I1,r1,q1⟩=>hc pins s1 σ H1 vs us Q I1 r1 q1) he hpl
theorem e0t (hc:l0c X (.type T) r)(hg:Gl X x)(hm:X.mg x=none)(hv:bY x=some (.type T))(ha:PA X (e::es) t)(hn:x ≠ "__name__" := by decide)(hdb:(x==("__debug__" : Str))=false:=by decide)
  (he:bh (e::es) X.env=(false,eval e X.env)::bh es X.env:=by rfl) (hpl:(dE pos (bh es X.env)).any (·.1)=false:=by rfl):PE X (.Call (.Name x p) (e::es) [] pos) (tCB r t):=by
 intro pins s σ H Q I h
 refine fR (j0m I hg hm hv ?_ hn hdb)
 exact bX (thn (ha pos pins s σ H _ I h) fun us s1 ⟨vs,H1,I1,r1,q1⟩=>hc pins s1 σ H1 vs us Q I1 r1 q1) he hpl
end
end L2
namespace HT
open PySem PyProof.Rows
section
variable {prog:aO}{w:be}{A:bo}{E:af->ah->Prop}{s:ah}
theorem cat_tup {t b:Addr}{vs ws:List af}{Q:af->ah->Prop}(ht:mx s.heap t vs.toArray)(hb:mx s.heap b ws.toArray)(hv:vs≠[])
  (h1:ws=[]->Q (.ref t) s) (h2:ws≠[]->Q (.ref s.heap.objs.size) {s with heap:=s.heap.push {cls:=.type "tuple",data:=.seq (vs++ws).toArray}})
  (hsz:vs.length+ws.length<=aN):az (aH prog w) A (dP .Add (.ref t) (.ref b)) Q E s:=by
 obtain⟨⟨cls,dd,data,sl⟩,ho,hc,n,hd⟩:=id ht
 obtain⟨⟨cls2,dd2,data2,sl2⟩,ho2,hc2,n2,hd2⟩:=id hb
 simp only at hc hd hc2 hd2
 subst hc hd hc2 hd2
 have e:vs.toArray++ws.toArray=(vs++ws).toArray:=by simp
 by_cases hw:ws=[]
 ·exact jc ⟨_,ho,rfl⟩ ⟨_,ho2,rfl⟩ jz km fV fJ (fD _ _)
   (tuple_addW1 t b vs.toArray ws.toArray n n2 dd dd2 sl sl2 (by simpa using hv) (by simp[hw])) ⟨ho,ho2,h1 hw⟩
 ·refine jc ⟨_,ho,rfl⟩ ⟨_,ho2,rfl⟩ jz km fV fJ (fD _ _)
   (tuple_addW2 t b vs.toArray ws.toArray n n2 dd dd2 sl sl2 (by simpa using hv) (by simpa using hw) (by rw[aD,aD];exact hsz)) ⟨ho,ho2,?_⟩
  rw[e]
  exact h2 hw
def sIx (n d:Nat):Option Int->Nat
 | none=>d
 | some v=>if v<0 then(v+(n:Int)).toNat else min v.toNat n
theorem sIx_nat (n d k:Nat):sIx n d (some (k:Int))=min k n:=by
 show(if(k:Int)<0 then((k:Int)+(n:Int)).toNat else min (k:Int).toNat n)=min k n
 rw[if_neg (by omega),cL]
theorem l1g (n d:Nat)(hd:d<=n)(o:Option Int):sIx n d o<=n:=by
 cases o with
 | none=>exact hd
 | some v =>
  show(if v<0 then(v+(n:Int)).toNat else min v.toNat n)<=n
  by_cases hv:v<0
  ·rw[if_pos hv];omega
  ·rw[if_neg hv];exact Nat.min_le_right _ _
theorem d1f (v:Int)(n d:Nat):(if v<0 then max (v+(n:Int)) 0 else min v (n:Int))=((sIx n d (some v):Nat):Int):=by
 show(if v<0 then max (v+(n:Int)) 0 else min v (n:Int))=(((if v<0 then(v+(n:Int)).toNat else min v.toNat n):Nat):Int)
 by_cases hv:v<0
 ·simp only[if_pos hv];omega
 ·simp only[if_neg hv];omega
theorem z0m (lo hi:Option Int)(n:Nat):eW lo hi 1 (n:Int)=(((sIx n 0 lo:Nat):Int),((sIx n n hi:Nat):Int)):=by
 have h1:¬((1:Int)<0):=by omega
 unfold eW
 simp only[h1,if_false]
 refine Prod.ext ?_ ?_
 ·cases lo with
  | none=>rfl
  | some v=>exact d1f v n 0
 ·cases hi with
  | none=>rfl
  | some v=>exact d1f v n n
theorem y0j (i j:Nat):dF (i:Int) (j:Int) 1=j - i:=by
 unfold dF
 have h1:(1:Int) > 0:=by omega
 simp only[h1,if_true,Int.ediv_one]
 split <;> omega
theorem p0e {v:af}{o:Option Int}{Q:Option Int->ah->Prop}(p:im v o)(h:Q o s):az (aH prog w) A (mQ v) Q E s:=by
 cases p with
 | none=>exact slicePart_none h
 | int i t=>exact slicePart_int h
theorem h0r {sl:Addr}{vl vu:af}{lo hi:Option Int}{n:Nat}{Q:Int×Int×Nat->ah->Prop}(hs:s.heap.IsSliceOf sl vl vu .none)(pl:im vl lo)(pu:im vu hi)
  (h:Q (((sIx n 0 lo:Nat):Int),1,sIx n n hi - sIx n 0 lo) s):az (aH prog w) A (g7 (.ref sl) (pure (n:Int))) Q E s:=by
 obtain⟨os,hos,hcs,hds⟩:=id hs
 unfold g7 mR
 refine ab (ab (cZ hos hds (x:=vl) rfl (ab (cZ hos hds (x:=vu) rfl (ab (cZ hos hds (x:=.none) rfl (aj ?_)))))))
 refine ab (slicePart_none ?_)
 show az _ _ (if((1:Int)==0)=true then _ else _) _ _ s
 rw[if_neg (by decide)]
 refine ab (p0e pl (ab (p0e pu (ab (aj ?_)))))
 show az _ _ (match eW lo hi 1 (n:Int)with | (lo,hi)=>pure (lo,(1:Int),dF lo hi 1)) _ _ s
 rw[z0m lo hi n]
 show az _ _ (pure (((sIx n 0 lo:Nat):Int),(1:Int),dF ((sIx n 0 lo:Nat):Int) ((sIx n n hi:Nat):Int) 1)) _ _ s
 rw[y0j]
 exact aj h
theorem e1r (xs:Array af)(i k:Nat):((aQ k).filterMap fun(m:Nat)=>xs[((i:Int)+(m:Int)*1).toNat]?).toArray=((xs.toList.drop i).take k).toArray:=by
 have e:(fun(m:Nat)=>xs[((i:Int)+(m:Int)*1).toNat]?)=fun m=>xs[i+m]?:=by
  funext m
  have:((i:Int)+(m:Int)*1).toNat=i+m:=by omega
  rw[this]
 rw[e]
 have:=pick_run xs i k
 rw[List.filterMap_map]at this
 have e2:((fun x=>xs[x]?) ∘ fun x=>i+x)=fun m=>xs[i+m]?:=rfl
 rw[e2]at this
 rw[this]
theorem getItem_tuple_cut {t sl:Addr}{items:Array af}{vl vu:af}{lo hi:Option Int}{Q:af->ah->Prop}(ht:mx s.heap t items)(hs:s.heap.IsSliceOf sl vl vu .none)(pl:im vl lo)(pu:im vu hi)
  (hw:¬(sIx items.size 0 lo=0/\sIx items.size items.size hi=items.size))
  (h:Q (.ref s.heap.objs.size) {s with heap:=s.heap.push {cls:=.type "tuple",data:=.seq ((items.toList.drop (sIx items.size 0 lo)).take (sIx items.size items.size hi - sIx items.size 0 lo)).toArray}})
  (hsz:items.size<=aN):az (aH prog w) A (f_ (.ref t) (.ref sl)) Q E s:=by
 have htake:sizeOk (.seq ((items.toList.drop (sIx items.size 0 lo)).take (sIx items.size items.size hi - sIx items.size 0 lo)).toArray):=by
  show((items.toList.drop (sIx items.size 0 lo)).take (sIx items.size items.size hi - sIx items.size 0 lo)).toArray.size<=aN
  rw[aD,bi,dW,cn]
  omega
 have hj:sIx items.size items.size hi<=items.size:=l1g _ _ (aE _) hi
 obtain⟨os,hos,hcs,hds⟩:=id hs
 have hTs:s.TypeIs (.ref sl) "slice" := ⟨os,hos,hcs⟩
 unfold f_
 try with_reducible refine cU ?_
 first | refine ab (aj ?_) | skip
 refine ab (mh ht.typeIs (by decide) ?_)
 refine ab (cg (name:=dX "__getitem__") ht.typeIs b0
  (b_ b0 ht.typeIs lO ?_ (l5 _ _)))
 show az _ _ (g5 (.ref t)>>=_) _ _ s
 refine ab (tupleItemsOf_ ht ?_)
 refine ab (fH hTs ?_)
 rw[if_pos (by decide)]
 refine ab (h0r hs pl pu ?_)
 have hno:¬((((sIx items.size 0 lo:Nat):Int)==0&&(1:Int)==1&&(sIx items.size items.size hi - sIx items.size 0 lo)==items.size)=true):=by
  intro q
  rw[ba,ba]at q
  have q1:((sIx items.size 0 lo:Nat):Int)=0:=eq_of_beq q.1.1
  have q2:sIx items.size items.size hi - sIx items.size 0 lo=items.size:=eq_of_beq q.2
  exact hw ⟨by omega,by omega⟩
 show az _ _ (if(((sIx items.size 0 lo:Nat):Int)==0&&(1:Int)==1&&(sIx items.size items.size hi - sIx items.size 0 lo)==items.size)=true then _ else _) _ _ s
 rw[if_neg hno,e1r]
 first
  | exact ab (m:=dM _) (bL (aj ⟨_,rfl,aj h⟩) htake)
  | exact ab (m:=dM _) (bL (ab (aj (aj ⟨_,rfl,aj h⟩))) htake)
  | exact ab (ab (m:=dM _) (bL (aj (aj ⟨_,rfl,aj h⟩)) htake))
  | exact ab (ab (m:=dM _) (bL (aj ⟨_,rfl,aj h⟩) htake))
end
end HT
namespace L2
open PySem PySem.Spec PyProof.Rows
abbrev TO:=St->Hp->(Option Int->Hp->Prop)->Prop
def PO (X:Cx)(e:Option Expr)(t:TO):Prop :=
 ∀(pins:List (Addr×Obj)) (s:ah) (σ:St) (H:Hp) (Q:Option Int->Hp->Prop),Inv X pins σ H s->t σ H Q ->
  az (aH X.prog X.w) X.A (evalPart e X.env) (fun u s'=>∃o H',Inv X pins σ H' s'/\im u o/\Q o H') X.xe s
def tNoPart:TO:=fun _ H Q=>Q none H
def k1z (t:TE):TO:=fun σ H Q=>t σ H fun x H1=>∃i,x = .int i/\Q (some i) H1
theorem y0y {ns:List Int}:∀ {us:List af},Vals (ns.map V.int) us->eG us ns:=by
 induction ns with
 | nil=>intro us r;rw[cS]at r;cases r;exact .nil
 | cons n ns ih =>
  intro us r
  rw[aT]at r
  cases r with
  | cons r1 r2 =>
   obtain⟨t,e⟩:=r1
   subst e
   exact .cons n t (ih r2)
section
variable {X:Cx}{e:Expr}{te:TE}{lo hi:Option Expr}{tl th:TO}{pos p2:Pos}
theorem g0i:PO X none tNoPart:=by
 intro pins s σ H Q I h
 rw[evalPart_none]
 exact aj ⟨none,H,I,.none,h⟩
theorem g0h (h:PE X e te):PO X (some e) (k1z te):=by
 intro pins s σ H Q I hw
 rw[evalPart_some]
 refine thn (h pins s σ H _ I hw) fun u s1 ⟨x,H1,I1,r1,q1⟩=>?_
 obtain⟨i,rfl,q⟩:=q1
 obtain⟨t,rfl⟩:=r1
 exact⟨some i,H1,I1,.int i t,q⟩
def SlR (X:Cx)(r:V->Option Int->Option Int->Hp->VK->Prop):Prop :=
 ∀(pins:List (Addr×Obj)) (s:ah) (σ:St) (H:Hp) (x:V) (v vl vu:af) (lo hi:Option Int) (sl:Addr) (Q:VK),Inv X pins σ H s->RelV x v->s.heap.IsSliceOf sl vl vu .none->im vl lo->im vu hi->r x lo hi H Q ->
  ∃T id,iR (.type T) "__getitem__" = pure (some (.builtin id))/\s.TypeIs v T/\az (aH X.prog X.w) X.A (f_ v (.ref sl)) (EP X pins σ Q) X.xe s
def tSl (r:V->Option Int->Option Int->Hp->VK->Prop)(te:TE)(tl th:TO):TE:=fun σ H Q=>te σ H fun x H1=>tl σ H1 fun l H2=>th σ H2 fun u H3=>r x l u H3 Q
theorem f0c {r:V->Option Int->Option Int->Hp->VK->Prop}(hr:SlR X r)(he:PE X e te)(hl:PO X lo tl)(hu:PO X hi th):PE X (.Subscript e (.Slice lo hi none p2) pos) (tSl r te tl th):=by
 intro pins s σ H Q I h
 refine l7 (thn (he pins s σ H _ I h) fun v s1 ⟨x,H1,I1,r1,q1⟩=>?_)
 refine wpAny_Slice (thn (hl pins s1 σ H1 _ I1 q1) fun vl s2 ⟨l,H2,I2,pl,q2⟩=>thn (hu pins s2 σ H2 _ I2 q2) fun vu s3 ⟨u,H3,I3,pu,q3⟩=>?_)
 rw[evalPart_none]
 refine aj ?_
 have I4:Inv X pins σ H3 {s3 with heap:=s3.heap.push {cls:=.type "slice",data:=.fields #[vl,vu,.none]}}:=I3.kept (t':=s3.toks) fun b ob q=>aq _ q
 obtain⟨T,id,hT,ht,hg⟩:=hr pins {s3 with heap:=s3.heap.push {cls:=.type "slice",data:=.fields #[vl,vu,.none]}} σ H3 x v vl vu l u s3.heap.objs.size Q I4 r1 (my ..) pl pu q3
 show az (aH X.prog X.w) X.A (kj e (.Slice lo hi none p2) v (.ref s3.heap.objs.size)) (EP X pins σ Q) X.xe {s3 with heap:=s3.heap.push {cls:=.type "slice",data:=.fields #[vl,vu,.none]}}
 exact tail_any (ops:=[.ref s3.heap.objs.size,v]) ht hT hg (by with_unfolding_all rfl)
def cutV (xs:List V)(lo hi:Option Int):List V:=(xs.drop (HT.sIx xs.length 0 lo)).take (HT.sIx xs.length xs.length hi - HT.sIx xs.length 0 lo)
theorem o0f (xs:List V)(lo hi:Option Int):(cutV xs lo hi).length<=xs.length:=by
 unfold cutV
 rw[bi,dW]
 omega
def rSlT (K:aa):V->Option Int->Option Int->Hp->VK->Prop:=fun x lo hi H Q=>∃a xs,x = .ref a/\SqT K H a xs /\
 ¬(HT.sIx xs.length 0 lo=0/\HT.sIx xs.length xs.length hi=xs.length)/\∀p,H p=none->Q (.ref p) (upd H p (.tup (cutV xs lo hi)))
theorem l1f:SlR X (rSlT X.K):=by
 intro pins s σ H x v vl vu lo hi sl Q I rx hs pl pu h
 obtain⟨a,xs,rfl,hx,hw,q⟩:=h
 cases rx
 obtain⟨its,r,ht,hz⟩:=I.tuple hx
 have hlen:its.toArray.size=xs.length:=by rw[aD];exact r.length.symm
 refine⟨"tuple",_,b0.lookup,ht.typeIs,?_⟩
 refine HT.getItem_tuple_cut ht hs pl pu (by rw[hlen];exact hw) ?_ (by rw[hlen];exact hz)
 rw[hlen]
 refine⟨.ref s.heap.objs.size,_,I.laid (t':=s.toks) (o:=.tup (cutV xs lo hi)) (fun b ob q=>aq _ q) (aE _) ?_,rfl,q _ (I.hok.fresh (aE _))⟩
 exact⟨aW (o0f xs lo hi) hz,_,(r.drop (HT.sIx xs.length 0 lo)).take (HT.sIx xs.length xs.length hi - HT.sIx xs.length 0 lo),k7 _ _⟩
def n1s (K:aa):R2:=fun x y H Q=>∃a b xs ys,x = .ref a/\y = .ref b/\SqT K H a xs/\SqT K H b ys/\xs≠[]/\xs.length+ys.length<=aN /\
 (ys=[]->Q (.ref a) H)/\(ys≠[]->∀p,H p=none->Q (.ref p) (upd H p (.tup (xs++ys))))
theorem Vals.nil_iff {xs:List V}{us:List af}(r:Vals xs us):us=[]↔xs=[]:=by
 cases r with
 | nil=>simp
 | cons _ _=>simp
theorem i1q:OpR X (dP .Add) (n1s X.K):=by
 intro pins s σ H x y v u Q I rx ry h
 obtain⟨a,b,xs,ys,rfl,rfl,ha,hb,hx,hz,q1,q2⟩:=h
 cases rx
 cases ry
 obtain⟨its,r1,p1,_⟩:=I.tuple ha
 obtain⟨its2,r2,p2,_⟩:=I.tuple hb
 refine HT.cat_tup p1 p2 (fun z=>hx (r1.nil_iff.mp z)) (fun z=>⟨.ref a,H,I,rfl,q1 (r2.nil_iff.mp z)⟩) (fun z=>?_) (by rw[<- r1.length,<- r2.length];exact hz)
 refine⟨.ref s.heap.objs.size,_,I.laid (t':=s.toks) (o:=.tup (xs++ys)) (fun b ob q=>aq _ q) (aE _) ?_,rfl,q2 (fun w=>z (r2.nil_iff.mpr w)) _ (I.hok.fresh (aE _))⟩
 exact⟨by rw[aJ];exact hz,_,r1.append r2,k7 _ _⟩
end
def ixN (n:Nat)(i:Int):Option Nat:=if 0<=i then(if i<n then some i.toNat else none)else if -(n:Int)<=i then some (i+n).toNat else none
def atI {α:Type}(xs:List α)(i:Int):Option α:=(ixN xs.length i).bind fun j=>xs[j]?
theorem j1g {n:Nat}{i:Int}{j:Nat}(h:ixN n i=some j):seqIndex? i n=some j/\j<n/\-(n:Int)<=i/\i<n:=by
 unfold ixN at h
 by_cases h0:0<=i
 ·rw[if_pos h0]at h
  by_cases h1:i<n
  ·rw[if_pos h1]at h
   have e:i.toNat=j:=cF h
   exact⟨by rw[seqIndex_of h0 h1,e],by omega,by omega,h1⟩
  ·rw[if_neg h1]at h;cases h
 ·rw[if_neg h0]at h
  by_cases h1:-(n:Int)<=i
  ·rw[if_pos h1]at h
   have e:(i+n).toNat=j:=cF h
   exact⟨by rw[seqIndex_neg (by omega) h1,e],by omega,h1,by omega⟩
  ·rw[if_neg h1]at h;cases h
theorem v0y {α:Type}{xs:List α}{i:Int}{v:α}(h:atI xs i=some v):∃j,seqIndex? i xs.length=some j/\xs[j]? = some v/\j<xs.length/\-(xs.length:Int)<=i/\i<xs.length:=by
 unfold atI at h
 cases e:ixN xs.length i with
 | none=>rw[e]at h;cases h
 | some j =>
  rw[e]at h
  obtain⟨h1,h2,h3,h4⟩:=j1g e
  exact⟨j,h1,h,h2,h3,h4⟩
theorem f0a {α:Type}{xs:List α}{j:Nat}{v:α}(h:xs[j]? = some v):atI xs (j:Int)=some v:=by
 have hj:j<xs.length:=(aI.mp h).1
 have e:ixN xs.length (j:Int)=some j:=by
  unfold ixN
  rw[if_pos (by omega),if_pos (by omega)];simp
 unfold atI;rw[e];exact h
def k1k (b:Expr):Prop:=∀o i,jF b false o i=operate [o,i] (f_ o i)
def IxR (X:Cx)(r:R2):Prop :=
 ∀(value slice:Expr) (pins:List (Addr×Obj)) (s:ah) (σ:St) (H:Hp) (x y:V) (v u:af) (Q:VK),Inv X pins σ H s->RelV x v->RelV y u->r x y H Q ->
  jF slice false v u=operate [v,u] (f_ v u)->az (aH X.prog X.w) X.A (kj value slice v u) (EP X pins σ Q) X.xe s
def MtR (X:Cx)(id:String)(r:V->List V->Hp->VK->Prop):Prop :=
 ∀(pins:List (Addr×Obj)) (s:ah) (σ:St) (H:Hp) (x:V) (xs:List V) (v:af) (us:List af) (Q:VK),Inv X pins σ H s->RelV x v->Vals xs us->r x xs H Q ->
  az (aH X.prog X.w) X.A (call (.builtin id) (v::us)) (EP X pins σ Q) X.xe s
section
variable {X:Cx}{a b:Expr}{ta tb:TE}{pos:Pos}
theorem IxR.or {r r':R2}(h:IxR X r)(h':IxR X r'):IxR X (fun x y H Q=>r x y H Q∨r' x y H Q):=by
 intro value slice pins s σ H x y v u Q I rx ry q hs
 rcases q with q | q
 ·exact h value slice pins s σ H x y v u Q I rx ry q hs
 ·exact h' value slice pins s σ H x y v u Q I rx ry q hs
theorem d0w {r:R2}(hr:IxR X r)(ha:PE X a ta)(hb:PE X b tb)(hs:k1k b):PE X (.Subscript a b pos) (tOp r ta tb):=by
 intro pins s σ H Q I h
 exact l7 (binT ha hb I h fun v u s2 x y H2 I2 rx ry q=>hr a b pins s2 σ H2 x y v u Q I2 rx ry q (hs _ _))
def rIxL (K:aa):R2:=fun x y H Q=>∃p xs i v,x = .ref p/\y = .int i/\SqL K H p xs/\atI xs i=some v/\Q v H
def rIxT (K:aa):R2:=fun x y H Q=>∃p xs i v,x = .ref p/\y = .int i/\SqT K H p xs/\atI xs i=some v/\Q v H
def rIxS:R2:=fun x y H Q=>∃z i c,x = .str z/\y = .int i/\z.length<=aN/\atI z.cps.toList i=some c/\Q (.str ⟨#[c]⟩) H
theorem j1f:IxR X (rIxL X.K):=by
 intro value slice pins s σ H x y v u Q I rx ry h hs
 obtain⟨p,xs,i,z,rfl,rfl,hq,he,q⟩:=h
 cases rx
 obtain⟨t,rfl⟩:=ry
 obtain⟨its,r,pl,hz⟩:=I.list hq
 obtain⟨j,h1,h2,h3,h4,h5⟩:=v0y he
 obtain⟨w,ew,rw'⟩:=r.get h2
 have hl:=r.length
 have hn:=s0p
 have fin:EP X pins σ Q w s:=⟨z,H,I,rw',q⟩
 by_cases h0:0<=i
 ·have hj:i.toNat=j:=by
   rw[seqIndex_of h0 h5]at h1
   exact cF h1
  exact item_listR pl.isList h0 (by omega) (by rw[hj];simpa using ew) fin hs
 ·have hj:(i+(its.toArray.size:Int)).toNat=j:=by
   rw[seqIndex_neg (by omega) h4]at h1
   rw[aD,<- hl]
   exact cF h1
  exact kT (x:=w) pl.isList.typeIs mo.lookup
   (wpAny_getItem_list_neg (Q:=fun r s'=>r=w/\EP X pins σ Q r s') pl.isList (by omega) (by rw[aD] <;> omega) (by omega) (by rw[hj];simpa using ew) ⟨rfl,fin⟩) hs
theorem m1o:IxR X (rIxT X.K):=by
 intro value slice pins s σ H x y v u Q I rx ry h hs
 obtain⟨p,xs,i,z,rfl,rfl,hq,he,q⟩:=h
 cases rx
 obtain⟨t,rfl⟩:=ry
 obtain⟨its,r,pl,hz⟩:=I.tuple hq
 obtain⟨j,h1,h2,h3,h4,h5⟩:=v0y he
 obtain⟨w,ew,rw'⟩:=r.get h2
 have hl:=r.length
 have hn:=s0p
 have fin:EP X pins σ Q w s:=⟨z,H,I,rw',q⟩
 exact kT (x:=w) pl.typeIs b0.lookup
  (getItem_tuple (j:=j) (Q:=fun r s'=>r=w/\EP X pins σ Q r s') pl (by omega) (by omega) (by rw[aD,<- hl];exact h1) (by simpa using ew) ⟨rfl,fin⟩) hs
theorem m1p:IxR X rIxS:=by
 intro value slice pins s σ H x y v u Q I rx ry h hs
 obtain⟨z,i,c,rfl,rfl,hz,he,q⟩:=h
 obtain⟨t,rfl⟩:=rx
 obtain⟨t',rfl⟩:=ry
 obtain⟨j,h1,h2,h3,h4,h5⟩:=v0y he
 have hl:z.cps.toList.length=z.length:=by simp[Str.length]
 rw[hl]at h1 h4 h5
 have hn:=s0p
 exact tail_any (typeIs_str s z t) slot_str_getitem.lookup (getItem_str (c:=c) (by
  have e1:decide (i < -(2^63:Int))=false:=decide_eq_false (by omega)
  have e2:decide (i>=2^63)=false:=decide_eq_false (by omega)
  rw[e1,e2,g9]) (by rw[h1];simpa using h2) ⟨.str ⟨#[c]⟩,H,I.tok _,⟨_,rfl⟩,q⟩) hs
def rIx (K:aa):R2:=fun x y H Q=>rIxL K x y H Q∨rIxT K x y H Q∨rIxS x y H Q
theorem m1q:IxR X (rIx X.K):=j1f.or (m1o.or m1p)
theorem r0y (lo hi:Option Int)(n:Nat):(fu lo hi none n).1=((HT.sIx n 0 lo:Nat):Int)/\(fu lo hi none n).2.1=((HT.sIx n n hi:Nat):Int)/\(fu lo hi none n).2.2=1:=by
 refine⟨?_,?_,rfl⟩
 ·cases lo with
  | none=>simp[fu,HT.sIx]
  | some i =>
   simp only[fu,HT.sIx,kO,show(1:Int) > 0 by decide,if_true]
   by_cases h:i<0
   ·simp only[h,if_true] <;> omega
   ·simp only[h,if_false] <;> omega
 ·cases hi with
  | none=>simp[fu,HT.sIx]
  | some i =>
   simp only[fu,HT.sIx,kO,show(1:Int) > 0 by decide,if_true]
   by_cases h:i<0
   ·simp only[h,if_true] <;> omega
   ·simp only[h,if_false] <;> omega
theorem q0g (its:List af)(lo hi:Option Int):slicePick its.toArray lo hi none=((its.drop (HT.sIx its.length 0 lo)).take (HT.sIx its.length its.length hi - HT.sIx its.length 0 lo)).toArray:=by
 obtain⟨h1,h2,h3⟩:=r0y lo hi its.toArray.size
 unfold slicePick
 rw[h1,h2,h3]
 simp only[sliceRange_one,pick_run,aD] <;> rfl
def rSlL (K:aa):V->Option Int->Option Int->Hp->VK->Prop:=fun x lo hi H Q=>∃a xs,x = .ref a/\SqL K H a xs/\∀p,H p=none->Q (.ref p) (upd H p (.lst (cutV xs lo hi)))
theorem h1y:SlR X (rSlL X.K):=by
 intro pins s σ H x v vl vu lo hi sl Q I rx hs pl pu h
 obtain⟨a,xs,rfl,hx,q⟩:=h
 cases rx
 obtain⟨its,r,ht,hz⟩:=I.list hx
 have hlen:=r.length
 refine⟨"list",_,mo.lookup,ht.isList.typeIs,?_⟩
 refine wpAny_getItem_list_slice ht.isList hs pl pu .none (by simp) ?_ (by rw[aD] <;> omega)
 rw[q0g,<- hlen]
 refine⟨.ref s.heap.objs.size,_,I.laid (t':=s.toks) (o:=.lst (cutV xs lo hi)) (fun b ob q=>aq _ q) (aE _) ?_,rfl,q _ (I.hok.fresh (aE _))⟩
 exact⟨aW (o0f xs lo hi) hz,_,0,(r.drop (HT.sIx xs.length 0 lo)).take (HT.sIx xs.length xs.length hi - HT.sIx xs.length 0 lo),aP _ rfl⟩
def m0i:V->Bool
 | .non=>true
 | .bl _=>true
 | .int _=>true
 | .str _=>true
 | _=>false
def eqV:V->V->Bool
 | .non,.non=>true
 | .bl a,.bl b=>a==b
 | .bl a,.int b=>(if a then 1 else 0)==b
 | .int a,.bl b=>a==(if b then 1 else 0)
 | .int a,.int b=>a==b
 | .str a,.str b=>a==b
 | _,_=>false
theorem n1e {A:bo}{s:ah}{y x:V}{u v:af}(ry:RelV y u)(rx:RelV x v)(fy:m0i y=true)(fx:m0i x=true):eL A s u v (eqV y x):=by
 cases y with
 | non =>
  cases ry
  cases x with
  | non=>cases rx;exact SeqAt.EqAt.same _
  | bl b=>cases rx;exact SeqAt.EqAt.none_bool b
  | int b=>obtain⟨t,rfl⟩:=rx;exact SeqAt.EqAt.none_int b t
  | str b=>obtain⟨t,rfl⟩:=rx;exact SeqAt.EqAt.none_str b t
  | _=>exact absurd (show false=true from fx) bn
 | bl a =>
  cases ry
  cases x with
  | non=>cases rx;exact SeqAt.EqAt.bool_none a
  | bl b=>cases rx;exact SeqAt.EqAt.bool_bool a b
  | int b=>obtain⟨t,rfl⟩:=rx;exact SeqAt.EqAt.bool_int a b t
  | str b=>obtain⟨t,rfl⟩:=rx;exact SeqAt.EqAt.bool_str a b t
  | _=>exact absurd (show false=true from fx) bn
 | int a =>
  obtain⟨t',rfl⟩:=ry
  cases x with
  | non=>cases rx;exact SeqAt.EqAt.int_none a t'
  | bl b=>cases rx;exact SeqAt.EqAt.int_bool a t' b
  | int b=>obtain⟨t,rfl⟩:=rx;exact SeqAt.EqAt.int_int a t' b t
  | str b=>obtain⟨t,rfl⟩:=rx;exact jH a t' b t
  | _=>exact absurd (show false=true from fx) bn
 | str a =>
  obtain⟨t',rfl⟩:=ry
  cases x with
  | non=>cases rx;exact SeqAt.EqAt.str_none a t'
  | bl b=>cases rx;exact SeqAt.EqAt.str_bool a t' b
  | int b=>obtain⟨t,rfl⟩:=rx;exact jG a t' b t
  | str b=>obtain⟨t,rfl⟩:=rx;exact SeqAt.EqAt.str_str a t' b t
  | _=>exact absurd (show false=true from fx) bn
 | _=>exact absurd (show false=true from fy) bn
def eqU (x:V)(u:af):Bool:=match u with
 | .none=>eqV .non x
 | .bool b=>eqV (.bl b) x
 | .int i _=>eqV (.int i) x
 | .str z _=>eqV (.str z) x
 | _=>false
theorem c1u {x y:V}{u:af}(r:RelV y u)(f:m0i y=true):eqU x u=eqV y x:=by
 cases y with
 | non=>cases r;rfl
 | bl b=>cases r;rfl
 | int i=>obtain⟨t,rfl⟩:=r;rfl
 | str z=>obtain⟨t,rfl⟩:=r;rfl
 | _=>exact absurd (show false=true from f) bn
theorem o0k {x:V}:∀ {xs:List V} {us:List af},Vals xs us->xs.all m0i=true->us.any (eqU x)=xs.any fun y=>eqV y x
 | _,_,.nil,_=>rfl
 | y::xs,u::us,.cons r t,f=>by
  rw[fP,ba]at f
  rw[cz,cz,c1u r f.1,o0k t f.2]
theorem j0c {A:bo}{s:ah}{x:V}{v:af}(rx:RelV x v)(fx:m0i x=true):∀ {xs:List V} {us:List af},Vals xs us->xs.all m0i=true->∀u∈us,eL A s u v (eqU x u)
 | _,_,.nil,_=>fun u hu=>by cases hu
 | y::xs,u::us,.cons r t,f=>fun u' hu=>by
  rw[fP,ba]at f
  rcases aK.mp hu with rfl | hu
  ·rw[c1u r f.1];exact n1e r rx f.1 fx
  ·exact j0c rx fx t f.2 u' hu
def inV (x:V)(xs:List V):Bool:=xs.any fun y=>eqV y x
def rIn (K:aa)(neg:Bool):R2:=fun x y H Q=>∃p xs,y = .ref p/\(SqL K H p xs∨SqT K H p xs)/\m0i x=true/\xs.all m0i=true/\Q (.bl (if neg then !inV x xs else inV x xs)) H
theorem b1m:OpR X (cA .In) (rIn X.K false):=by
 intro pins s σ H x y v u Q I rx ry h
 obtain⟨p,xs,rfl,hq,fx,fs,q⟩:=h
 cases ry
 rcases hq with hq | hq
 ·obtain⟨its,r,pl,hz⟩:=I.list hq
  refine lg (eqU x) pl.isList (fun w hw=>j0c rx fx r fs w (by simpa using hw)) ⟨.bl _,H,I,rfl,?_⟩
  rw[show its.toArray.any (eqU x)=its.any (eqU x)by simp,o0k r fs]
  exact q
 ·obtain⟨its,r,pl,hz⟩:=I.tuple hq
  refine SeqAt.in_tupleAt (eqU x) pl (fun w hw=>j0c rx fx r fs w (by simpa using hw)) ⟨.bl _,H,I,rfl,?_⟩
  rw[show its.toArray.any (eqU x)=its.any (eqU x)by simp,o0k r fs]
  exact q
theorem s0c:OpR X (cA .NotIn) (rIn X.K true):=by
 intro pins s σ H x y v u Q I rx ry h
 obtain⟨p,xs,rfl,hq,fx,fs,q⟩:=h
 cases ry
 rcases hq with hq | hq
 ·obtain⟨its,r,pl,hz⟩:=I.list hq
  refine ko (eqU x) pl.isList (fun w hw=>j0c rx fx r fs w (by simpa using hw)) ⟨.bl _,H,I,rfl,?_⟩
  rw[show its.toArray.any (eqU x)=its.any (eqU x)by simp,o0k r fs]
  exact q
 ·obtain⟨its,r,pl,hz⟩:=I.tuple hq
  refine SeqAt.notIn_tupleAt (eqU x) pl (fun w hw=>j0c rx fx r fs w (by simpa using hw)) ⟨.bl _,H,I,rfl,?_⟩
  rw[show its.toArray.any (eqU x)=its.any (eqU x)by simp,o0k r fs]
  exact q
theorem t0m:l0c X (.builtin "len") (fun xs H Q=>∃p ys,xs=[.ref p]/\(SqL X.K H p ys∨SqT X.K H p ys)/\Q (.int ys.length) H):=by
 intro pins s σ H xs us Q I r h
 obtain⟨p,ys,rfl,hq,q⟩:=h
 obtain⟨u,rfl,rx⟩:=o0n r
 cases rx
 have hn:=s0p
 rcases hq with hq | hq
 ·obtain⟨its,r',pl,hz⟩:=I.list hq
  have hlen:=r'.length
  exact Calls.call_len_list pl.isList (by simp only[aD] <;> omega) ⟨.int ys.length,H,I.tok _,⟨s.toks+1,by rw[aD,hlen]⟩,q⟩
 ·obtain⟨its,r',pl,hz⟩:=I.tuple hq
  have hlen:=r'.length
  exact len_tuple pl (by simp only[aD] <;> omega) ⟨.int ys.length,H,I.tok _,⟨s.toks+1,by rw[aD,hlen]⟩,q⟩
theorem t0l:l0c X (.type "list") (fun xs H Q=>∃p ys,xs=[.ref p]/\(SqL X.K H p ys∨SqT X.K H p ys)/\∀l,H l=none->Q (.ref l) (upd H l (.lst ys))):=by
 intro pins s σ H xs us Q I r h
 obtain⟨p,ys,rfl,hq,q⟩:=h
 obtain⟨u,rfl,rx⟩:=o0n r
 cases rx
 have fin:∀(its:List af),Vals ys its->ys.length<=aN->∀(h':Heap) (c':Nat),(∀b o',s.heap.get? b=some o'->h'.get? b=some o') ->
   h'.get? s.heap.objs.size=some {cls:=.type "list",dict:=none,data:=.seq its.toArray c',slots:=#[]}->EP X pins σ Q (.ref s.heap.objs.size) {s with heap:=h'}:=fun its r' hz h' c' kp e =>
  ⟨.ref s.heap.objs.size,_,I.laid (t':=s.toks) kp (aE _) (show d0y X.prog X.w _ h' _ (.lst ys)from⟨hz,its,c',r',e⟩),rfl,q _ (I.hok.fresh (aE _))⟩
 rcases hq with hq | hq
 ·obtain⟨its,r',pl,hz⟩:=I.list hq
  have hlen:=r'.length
  obtain⟨o,ho,hc,n,hd⟩:=pl.isList
  exact call_list_seq p (.inl rfl) ho hc hd (fun h' c' kp e=>fin its r' hz h' c' kp e) (by simp only[aD] <;> omega)
 ·obtain⟨its,r',pl,hz⟩:=I.tuple hq
  have hlen:=r'.length
  obtain⟨o,ho,hc,n,hd⟩:=pl
  exact call_list_seq p (.inr rfl) ho hc hd (fun h' c' kp e=>fin its r' hz h' c' kp e) (by simp only[aD] <;> omega)
theorem r0n:l0c X (.type "tuple") (fun xs H Q=>∃p ys,xs=[.ref p]/\((SqL X.K H p ys/\∀l,H l=none->Q (.ref l) (upd H l (.tup ys)))∨(SqT X.K H p ys/\Q (.ref p) H))):=by
 intro pins s σ H xs us Q I r h
 obtain⟨p,ys,rfl,h⟩:=h
 obtain⟨u,rfl,rx⟩:=o0n r
 cases rx
 rcases h with⟨hq,q⟩ | ⟨hq,q⟩
 ·obtain⟨its,r',pl,hz⟩:=I.list hq
  have hlen:=r'.length
  refine call_tuple_list pl.isList (fun h' kp=>?_) (by simp only[aD] <;> omega)
  have I1:Inv X pins σ H {s with heap:=h'}:=I.kept (t':=s.toks) kp
  have I2:Inv X pins σ (upd H h'.objs.size (.tup ys)) {s with heap:=h'.push {cls:=.type "tuple",data:=.seq its.toArray}} :=
   I1.laid (t':=s.toks) (fun b o e=>aq _ e) (aE _) (show d0y X.prog X.w _ _ _ (.tup ys)from⟨hz,its,r',k7 _ _⟩)
  exact⟨.ref h'.objs.size,_,I2,rfl,q _ (I1.hok.fresh (aE _))⟩
 ·obtain⟨its,r',pl,hz⟩:=I.tuple hq
  exact call_tuple_same pl ⟨.ref p,H,I,rfl,q⟩
def tyV (K:aa)(T:String)(x:V)(H:Hp):Prop:=match x with
 | .str _=>T = "str"
 | .int _=>T = "int"
 | .ref p=>(T = "list" /\ ∃xs,SqL K H p xs)∨(T = "tuple" /\ ∃o,K.lookup p=some o/\o.cls = .type "tuple" /\ o.dict=none) ∨
   (T = "dict" /\ ((∃kvs,H p=some (.dK kvs)) ∨ ∃kvs,H p=some (.dT kvs)))∨(T = "set" /\ ∃S n,H p=some (.set S n))
 | _=>False
theorem k1r {pins:List (Addr×Obj)}{σ:St}{H:Hp}{s:ah}{T:String}{x:V}{v:af}(I:Inv X pins σ H s)(r:RelV x v)(ty:tyV X.K T x H) :
  s.TypeIs v T/\∀a,v = .ref a->∃ob,s.heap.get? a=some ob/\ob.dict=none:=by
 cases x with
 | str z =>
  obtain⟨t,rfl⟩:=r
  cases (show T = "str" from ty)
  exact⟨typeIs_str s z t,fun _ e=>nomatch e⟩
 | int i =>
  obtain⟨t,rfl⟩:=r
  cases (show T = "int" from ty)
  exact⟨typeIs_int s i t,fun _ e=>nomatch e⟩
 | ref p =>
  cases r
  rcases ty with⟨rfl,xs,hq⟩ | ⟨rfl,o,hk,hc,hd⟩ | ⟨rfl,hk⟩ | ⟨rfl,S,n,hk⟩
  ·obtain⟨its,_,pl,_⟩:=I.list hq
   refine⟨pl.isList.typeIs,fun a e=>?_⟩
   cases e
   obtain⟨o,n,e,c,hd,_⟩:=pl
   exact⟨o,e,hd⟩
  ·refine⟨⟨o,I.kIn p o hk,hc⟩,fun a e=>?_⟩
   cases e
   exact⟨o,I.kIn _ o hk,hd⟩
  ·have z:∃o,s.heap.get? p=some o/\o.ExactDict:=by
    rcases hk with⟨kvs,hk⟩ | ⟨kvs,hk⟩
    ·obtain⟨_,_,_,_,o,_,_,e,ex,_⟩:=I.hok p _ hk
     exact⟨o,e,ex⟩
    ·obtain⟨_,_,_,_,o,_,_,e,ex,_⟩:=I.hok p _ hk
     exact⟨o,e,ex⟩
   obtain⟨o,e,ex⟩:=z
   refine⟨⟨o,e,ex.1⟩,fun a e2=>?_⟩
   cases e2
   exact⟨o,e,ex.2.1⟩
  ·obtain⟨o,_,_,_,e,ex,_⟩:=I.hok p _ hk
   refine⟨⟨o,e,ex.1⟩,fun a e2=>?_⟩
   cases e2
   exact⟨o,e,ex.2.1⟩
 | _=>exact c_ ty
def tBM (K:aa)(T:String)(r:V->List V->Hp->VK->Prop)(to:TE)(t:TA):TE:=fun σ H Q=>to σ H fun x H1=>tyV K T x H1/\t σ H1 fun xs H2=>r x xs H2 Q
variable {o e:Expr}{es:List Expr}{to:TE}{t:TA}{name:Str}{apos cpos:Pos}{T id:String}{r:V->List V->Hp->VK->Prop}
theorem n1w (pa:PlainAttrs T)(slot:Slot T name id)(hty:typeOf (.builtin id)=pure (.type "method_descriptor"))(hm:MtR X id r)(ho:PE X o to)(ha:PA X (e::es) t)
  (hbase:gg o name X.env (eval o X.env)=eval o X.env:=by rfl)
  (hfew:((dE cpos (bh (e::es) X.env)).all (fun x=>!x.1)&&(ie cpos (fw [] X.env)).all (fun x=>x.1.isSome)
   && decide ((e::es).length+([]:List jR).length+(if([]:List jR).isEmpty then 0 else 1)<30))=true:=by rfl)
  (hline:(apos.endLine==cpos.line)=true:=by rfl) (hs:bh (e::es) X.env=(false,eval e X.env)::bh es X.env:=by rfl) (hplain:(dE cpos (bh es X.env)).any (·.1)=false:=by rfl) :
  PE X (.Call (.Attribute o name apos) (e::es) [] cpos) (tBM X.K T r to t):=by
 intro pins s σ H Q I h
 refine wpAny_Call_method_late hbase hfew hline rfl (thn (ho pins s σ H _ I h) fun v s1 ⟨x,H1,I1,r1,ty,q1⟩=>?_)
 obtain⟨h1,h2⟩:=k1r I1 r1 ty
 refine⟨T,id,pa,slot,hty,h1,h2,?_⟩
 have hA:=ha cpos pins s1 σ H1 _ I1 q1
 rw[hs]at hA ⊢
 refine jP (by show(false||(dE cpos (bh es X.env)).any (·.1))=false;rw[hplain] <;> rfl) (j_ ?_)
 exact thn hA fun us s2 ⟨vs,H2,I2,r2,q2⟩=>hm pins s2 σ H2 x vs v us Q I2 r1 r2 q2
end
def MtM (X:Cx)(id:String)(r:V->List V->Hp->VK->Prop):Prop :=
 ∀(pins:List (Addr×Obj)) (s:ah) (σ:St) (H:Hp) (x:V) (xs:List V) (v:af) (us:List af) (Q:VK),Inv X pins σ H s->RelV x v->Vals xs us->r x xs H Q ->
  az (aH X.prog X.w) X.A (call (.builtin id) (v::us)) (EP X pins σ Q) X.xe s
theorem Vals.one:∀ {x:V} {us:List af},Vals [x] us->∃u,us=[u]/\RelV x u
 | _,_,.cons r .nil=>⟨_,rfl,r⟩
section
variable {X:Cx}{pins:List (Addr×Obj)}{σ:St}{H:Hp}{s:ah}{l b:Addr}{xs ys zs:List V}
theorem Inv.lset {its its':List af}{n:Nat}{f:Array af->Array af}{t':Nat}(I:Inv X pins σ H s)(hH:H l=some (.lst xs))
  (e:s.heap.get? l=some {cls:=.type "list",data:=.seq its.toArray n}) (hf:f its.toArray=its'.toArray) (hv:Vals ys its') (hz:ys.length<=aN) :
  Inv X pins σ (upd H l (.lst ys)) {s with heap:=s.heap.update l (cv f),toks:=t'}:=by
 have q:=gZ e f
 rw[hf]at q
 refine I.write (x:=l) (e:=l) (by rw[hH];exact trivial) (.inl rfl) (fun b' u hb hu=>(bU s.heap (cv f) (cM hb)).trans hu) ⟨_,q⟩ ?_
 exact⟨hz,its',_,hv,q⟩
theorem Inv.lstM (I:Inv X pins σ H s)(hH:H l=some (.lst xs)):xs.length<=aN/\∃(its:List af) (n:Nat),Vals xs its/\xs.length=its.length/\s.heap.get? l=some {cls:=.type "list",data:=.seq its.toArray n}:=by
 obtain⟨z,its,n,r,e⟩:=I.hok l _ hH
 exact⟨z,its,n,r,r.length,e⟩
end
section
variable {X:Cx}
def rAppend:V->List V->Hp->VK->Prop:=fun x vs H Q=>∃l xs y,x = .ref l/\vs=[y]/\H l=some (.lst xs)/\xs.length<aN/\Q .non (upd H l (.lst (xs++[y])))
theorem f0y:MtM X "list.append" rAppend:=by
 intro pins s σ H x vs v us Q I rx rv h
 obtain⟨l,xs,y,rfl,rfl,hH,hz,q⟩:=h
 cases rx
 obtain⟨u,rfl,ru⟩:=rv.one
 obtain⟨z,its,n,r,hl,e⟩:=I.lstM hH
 refine j0 cu ⟨_,e,rfl⟩ ip (g0 _ _) (ig l its.toArray n u (by rw[aD];omega)) ⟨e,?_⟩
 refine⟨.non,_,I.lset (its':=its++[u]) hH e (by simp) (r.append (.cons ru .nil)) ?_,rfl,q⟩
 rw[aJ,bN]
 omega
end
section
variable {κ:Type} [DecidableEq κ]
def valV (kvs:List (κ×V))(k:κ):Option V:=(kvs.find? fun kv=>decide (kv.1=k)).map (·.2)
def putK (kvs:List (κ×V))(k:κ)(v:V):List (κ×V) :=
 if(kvs.any fun kv=>decide (kv.1=k))=true then kvs.map (fun kv=>if kv.1=k then(kv.1,v)else kv)else kvs++[(k,v)]
theorem m0j {p:κ×V}{r:List (κ×V)}{k:κ}(e:p.1=k):valV (p::r) k=some p.2:=by simp[valV,bO,e]
theorem m0k {p:κ×V}{r:List (κ×V)}{k:κ}(e:¬p.1=k):valV (p::r) k=valV r k:=by simp[valV,bO,e]
theorem w0j (k:κ):∀kvs:List (κ×V),(kvs.any fun kv=>decide (kv.1=k))=(valV kvs k).isSome
 | []=>rfl
 | p::r=>by
  rw[cz]
  by_cases e:p.1=k
  ·simp only[m0j e,decide_eq_true e,Bool.true_or,Option.isSome_some]
  ·rw[m0k e,decide_eq_false e,l9];exact w0j k r
theorem h0l (kvs:List (κ×V))(k:κ)(v:V):(putK kvs k v).length<=kvs.length+1:=by
 unfold putK
 split
 ·rw[aw];omega
 ·rw[aJ,aS,lC];omega
theorem RelO.isSome_eq {o:Option V}{u:Option af}(r:RelO o u):o.isSome=u.isSome:=by
 cases o with
 | none=>cases u with
  | none=>rfl
  | some _=>exact(show False from r).elim
 | some _=>cases u with
  | none=>exact(show False from r).elim
  | some _=>rfl
theorem KV.val {kvs:List (κ×V)}{vs:List (κ×af)}(r:KV kvs vs)(k:κ):RelO (valV kvs k) (eE vs k):=by
 unfold KV at r
 induction r with
 | nil=>exact True.intro
 | @cons p q ps qs h t ih =>
  obtain⟨h1,h2⟩:=h
  by_cases e:p.1=k
  ·have e':q.1=k:=h1.symm.trans e
   have b:eE (q::qs) k=some q.2:=by simp[eE,bO,e']
   rw[m0j e,b];exact h2
  ·have e':¬q.1=k:=fun z=>e (h1.trans z)
   have b:eE (q::qs) k=eE qs k:=by simp[eE,bO,e']
   rw[m0k e,b];exact ih
theorem KV.any {kvs:List (κ×V)}{vs:List (κ×af)}(r:KV kvs vs)(k:κ):(kvs.any fun kv=>decide (kv.1=k))=vs.any fun kv=>decide (kv.1=k):=by
 unfold KV at r
 induction r with
 | nil=>rfl
 | cons h t ih=>rw[cz,cz,ih,h.1]
theorem KV.repl {kvs:List (κ×V)}{vs:List (κ×af)}(r:KV kvs vs)(k:κ){y:V}{u:af}(ry:RelV y u) :
  KV (kvs.map fun kv=>if kv.1=k then(kv.1,y)else kv) (vs.map fun kv=>if kv.1=k then(kv.1,u)else kv):=by
 unfold KV at r ⊢
 induction r with
 | nil=>exact .nil
 | @cons p q ps qs h t ih =>
  rw[aT,aT]
  refine .cons ?_ ih
  obtain⟨h1,h2⟩:=h
  by_cases e:p.1=k
  ·rw[if_pos e,if_pos (h1.symm.trans e)];exact⟨h1,ry⟩
  ·rw[if_neg e,if_neg (fun z=>e (h1.trans z))];exact⟨h1,h2⟩
theorem KV.put {kvs:List (κ×V)}{vs:List (κ×af)}(r:KV kvs vs)(k:κ){y:V}{u:af}(ry:RelV y u):KV (putK kvs k y) (jy vs k u):=by
 unfold putK jy
 rw[r.any k]
 by_cases e:(vs.any fun kv=>decide (kv.1=k))=true
 ·rw[if_pos e,if_pos e];exact r.repl k ry
 ·rw[if_neg e,if_neg e];exact l8 r ⟨rfl,ry⟩
theorem KV.length {kvs:List (κ×V)}{vs:List (κ×af)}(r:KV kvs vs):kvs.length=vs.length:=gM r
end
theorem s0s {P:aO}{w:be}{k:Key}{u:af}(r:RelV (kV k) u):(c0f P w).is k u=true:=by
 cases k with
 | inl i=>obtain⟨t,e⟩:=(show ∃t,u=Value.int i t from r);subst e;exact v0c P w i t
 | inr x=>obtain⟨t,e⟩:=(show ∃t,u=Value.str x t from r);subst e;exact v0b P w x t
theorem s0t {P:aO}{w:be}:∀ {ks:List Key} {us:List af},Vals (ks.map kV) us->ItemsAre (c0f P w) ks us
 | [],_,r=>by rw[cS]at r;cases r;exact .nil
 | k::ks,_,r=>by
  rw[aT]at r
  cases r with
  | cons h t=>exact .cons (s0s h) (s0t t)
abbrev KT (H:Hp):List (List Key×V)->List (List Key×Addr×af)->Prop:=j5 fun p q=>p.1=q.1/\H q.2.1=some (.tup (p.1.map kV))/\RelV p.2 q.2.2
theorem KT.val {H:Hp}{kvs:List (List Key×V)}{xs:List (List Key×Addr×af)}(r:KT H kvs xs)(k:List Key):RelO (valV kvs k) ((j3 xs k).map (·.2)):=by
 induction r with
 | nil=>exact True.intro
 | @cons p q ps qs h t ih =>
  obtain⟨h1,_,h2⟩:=h
  by_cases e:p.1=k
  ·have e':q.1=k:=h1.symm.trans e
   have b:j3 (q::qs) k=some q.2:=by simp[j3,bO,e']
   rw[m0j e,b];exact h2
  ·have e':¬q.1=k:=fun z=>e (h1.trans z)
   have b:j3 (q::qs) k=j3 qs k:=by simp[j3,bO,e']
   rw[m0k e,b];exact ih
theorem KT.repl {H:Hp}{kvs:List (List Key×V)}{xs:List (List Key×Addr×af)}(r:KT H kvs xs)(k:List Key){y:V}{u:af}(ry:RelV y u) :
  KT H (kvs.map fun kv=>if kv.1=k then(kv.1,y)else kv) (xs.map (putAt k u)):=by
 induction r with
 | nil=>exact .nil
 | @cons p q ps qs h t ih =>
  rw[aT,aT]
  refine .cons ?_ ih
  obtain⟨h1,h2,h3⟩:=h
  unfold putAt
  by_cases e:p.1=k
  ·rw[if_pos e,if_pos (h1.symm.trans e)];exact⟨h1,h2,ry⟩
  ·rw[if_neg e,if_neg (fun z=>e (h1.trans z))];exact⟨h1,h2,h3⟩
theorem KT.put {H:Hp}{kvs:List (List Key×V)}{xs:List (List Key×Addr×af)}(r:KT H kvs xs)(k:List Key){b:Addr}{y:V}{u:af}(hb:H b=some (.tup (k.map kV)))(ry:RelV y u) :
  KT H (putK kvs k y) (storedH xs k b u):=by
 have e:(kvs.any fun kv=>decide (kv.1=k))=(j3 xs k).isSome:=by
  rw[w0j,(r.val k).isSome_eq,g_]
 unfold putK storedH
 rw[e]
 by_cases q:(j3 xs k).isSome=true
 ·rw[if_pos q,if_pos q];exact r.repl k ry
 ·rw[if_neg q,if_neg q];exact l8 r ⟨rfl,hb,ry⟩
theorem KT.keeps {H H':Hp}{kvs:List (List Key×V)}{xs:List (List Key×Addr×af)}(r:KT H kvs xs)(ht:∀b ys,H b=some (.tup ys)->H' b=some (.tup ys)):KT H' kvs xs :=
 Paired.mapP r fun _ _ z=>⟨z.1,ht _ _ z.2.1,z.2.2⟩
section
variable {P:aO}{w:be}{H:Hp}{h:Heap}{a:Addr}
theorem l1i {u:HO}(ok:HOk P w H h)(e:Rd H a u):d0y P w H h a u:=e.ok ok
theorem z0f {kvs:List (Key×V)}(ok:HOk P w H h)(e:Rd H a (.dK kvs)):kvs.length<=aN/\(a==dz)=false/\∃vs,KV kvs vs/\h.DictOf (c0f P w) a vs :=
 show d0y P w H h a (.dK kvs)from l1i ok e
theorem f1w {kvs:List (Key×V)}(ok:HOk P w H h)(e:H a=some (.dK kvs)):kvs.length<=aN/\(a==dz)=false/\∃vs,KV kvs vs/\h.DictOf (c0f P w) a vs:=z0f ok (.inl e)
theorem s0r {ks:List Key}(ok:HOk P w H h)(e:H a=some (.tup (ks.map kV))):(jx (c0f P w)).is h ks a:=by
 obtain⟨_,its,r,o,h1,h2,n,h3⟩:=(show d0y P w H h a (.tup (ks.map kV))from ok a _ e)
 exact⟨o,its.toArray,n,h1,h2,h3,by simpa using s0t r⟩
theorem z0e {kvs:List (List Key×V)}(ok:HOk P w H h)(e:Rd H a (.dT kvs)):kvs.length<=aN/\(a==dz)=false /\
  ∃xs,KT H kvs xs/\h.DictOfH (jx (c0f P w)) a xs:=by
 obtain⟨z,y,xs,r,o,es,ep,h1,h2,h3,h4,h5⟩:=(show d0y P w H h a (.dT kvs)from l1i ok e)
 refine⟨z,y,xs,r,o,es,ep,h1,h2,h3,h4,fun x hx=>?_,h5⟩
 have all:∀ {l:List (List Key×V)} {m:List (List Key×Addr×af)},KT H l m->∀x∈m,(jx (c0f P w)).is h x.1 x.2.1:=by
  intro l m q
  induction q with
  | nil=>intro x hx;exact nomatch hx
  | @cons p q ps qs hq t ih =>
   intro x hx
   rcases aK.mp hx with e | hx
   ·subst e
    exact s0r ok (by rw[<- hq.1];exact hq.2.1)
   ·exact ih x hx
 exact all r x hx
theorem o1d {kvs:List (List Key×V)}(ok:HOk P w H h)(e:H a=some (.dT kvs)):kvs.length<=aN/\(a==dz)=false /\
  ∃xs,KT H kvs xs/\h.DictOfH (jx (c0f P w)) a xs:=z0e ok (.inl e)
end
def DGet (H:Hp)(a:Addr)(y:V)(r:Option V):Prop :=
 (∃kvs k,Rd H a (.dK kvs)/\y=kV k/\r=valV kvs k) ∨ ∃kvs k b,Rd H a (.dT kvs)/\y = .ref b/\H b=some (.tup (k.map kV))/\r=valV kvs k
def DPut (H:Hp)(a:Addr)(y v:V)(H':Hp):Prop :=
 (∃kvs k,H a=some (.dK kvs)/\y=kV k/\kvs.length<aN/\H'=upd H a (.dK (putK kvs k v))) ∨
 ∃kvs k b,H a=some (.dT kvs)/\y = .ref b/\H b=some (.tup (k.map kV))/\kvs.length<aN/\H'=upd H a (.dT (putK kvs k v))
theorem DGet.k {H:Hp}{a:Addr}{kvs:List (Key×V)}{k:Key}(e:H a=some (.dK kvs)):DGet H a (kV k) (valV kvs k):=.inl ⟨kvs,k,.inl e,rfl,rfl⟩
theorem DPut.k {H:Hp}{a:Addr}{kvs:List (Key×V)}{k:Key}{v:V}(e:H a=some (.dK kvs))(hl:kvs.length<aN):DPut H a (kV k) v (upd H a (.dK (putK kvs k v))):=.inl ⟨kvs,k,e,rfl,hl,rfl⟩
section
variable {X:Cx}{pins:List (Addr×Obj)}{σ:St}{H:Hp}{s:ah}{a:Addr}{y v:V}{u r:af}{o:Option V}{A:bo}{E:af->ah->Prop}
theorem Inv.big (I:Inv X pins σ H s):dz<s.heap.objs.size:=by
 have h:bc<s.heap.objs.size:=(I.mod.glob.keeps I.bk).lt
 exact c7 (by decide) h
theorem c1y {Q:af->ah->Prop}(hu:A.units+1<d9)(I:Inv X pins σ H s)(g:DGet H a y (some v))(ry:RelV y u)(h:∀w' s',Inv X pins σ H s'->RelV v w'->Q w' s') :
  az (aH X.prog X.w) A (f_ (.ref a) u) Q E s:=by
 rcases g with⟨kvs,k,e,ey,l⟩ | ⟨kvs,k,b,e,ey,eb,l⟩
 ·subst ey
  obtain⟨z,hd,vs,rel,dd⟩:=z0f I.hok e
  obtain⟨w',hw,rw'⟩:=RelO.some_of (v:=v) (o:=eE vs k) (by rw[l];exact rel.val k)
  exact wpAny_getItem_of (s0s ry) dd.mapOf hw (h w' _ (I.tok _) rw')
 ·subst ey
  cases (show u=Value.ref b from ry)
  obtain⟨z,hd,xs,rel,dd⟩:=z0e I.hok e
  obtain⟨w',hw,rw'⟩:=RelO.some_of (v:=v) (o:=(j3 xs k).map (·.2)) (by rw[l];exact rel.val k)
  obtain⟨p,hp,hp2⟩:=aY.mp hw
  refine wpAny_getItem_heap (fS hu) (s0r I.hok eb) dd hp ?_
  rw[hp2]
  exact h w' _ (I.tok _) rw'
theorem d_in {Q:af->ah->Prop}(hu:A.units+1<d9)(I:Inv X pins σ H s)(g:DGet H a y o)(ry:RelV y u)(h:∀s',Inv X pins σ H s'->Q (.bool o.isSome) s') :
  az (aH X.prog X.w) A (cA .In u (.ref a)) Q E s:=by
 rcases g with⟨kvs,k,e,ey,l⟩ | ⟨kvs,k,b,e,ey,eb,l⟩
 ·subst ey
  obtain⟨z,hd,vs,rel,dd⟩:=z0f I.hok e
  refine wpAny_in_of (s0s ry) hd dd.mapOf ?_
  rw[<- (rel.val k).isSome_eq,<- l]
  exact h _ (I.tok _)
 ·subst ey
  cases (show u=Value.ref b from ry)
  obtain⟨z,hd,xs,rel,dd⟩:=z0e I.hok e
  refine wpAny_in_heap (fS hu) (s0r I.hok eb) hd dd ?_
  have q:=(rel.val k).isSome_eq
  rw[g_]at q
  rw[<- q,<- l]
  exact h _ (I.tok _)
theorem j1w {Q:af->ah->Prop}(hu:A.units+1<d9)(I:Inv X pins σ H s)(g:DGet H a y o)(ry:RelV y u)(h:∀s',Inv X pins σ H s'->Q (.bool (!o.isSome)) s') :
  az (aH X.prog X.w) A (cA .NotIn u (.ref a)) Q E s:=by
 rcases g with⟨kvs,k,e,ey,l⟩ | ⟨kvs,k,b,e,ey,eb,l⟩
 ·subst ey
  obtain⟨z,hd,vs,rel,dd⟩:=z0f I.hok e
  refine wpAny_notIn_of (s0s ry) hd dd.mapOf ?_
  rw[<- (rel.val k).isSome_eq,<- l]
  exact h _ (I.tok _)
 ·subst ey
  cases (show u=Value.ref b from ry)
  obtain⟨z,hd,xs,rel,dd⟩:=z0e I.hok e
  refine wpAny_notIn_heap (fS hu) (s0r I.hok eb) hd dd ?_
  have q:=(rel.val k).isSome_eq
  rw[g_]at q
  rw[<- q,<- l]
  exact h _ (I.tok _)
theorem r0i {h':Heap}{t':Nat}{ob:HO}(I:Inv X pins σ H s)(mu:Mut (H a))(hs:bH a s.heap h')(he:∃q,h'.get? a=some q)(new:d0y X.prog X.w (upd H a ob) h' a ob) :
  Inv X pins σ (upd H a ob) {s with heap:=h',toks:=t'} :=
 I.write (x:=a) (e:=a) mu (.inl rfl) (fun b q hb z=>(hs.2 b hb).trans z) he new
theorem t0b {P:aO}{w:be}{H':Hp}{h':Heap}{kvs:List (Key×V)}{vs:List (Key×af)}(z:kvs.length<=aN)(hd:(a==dz)=false)(rel:KV kvs vs)(dd:h'.DictOf (c0f P w) a vs) :
  d0y P w H' h' a (.dK kvs):=⟨z,hd,vs,rel,dd⟩
theorem c1x {H':Hp}{Q:Unit->ah->Prop}(hu:A.units+1<d9)(I:Inv X pins σ H s)(g:DPut H a y v H')(ry:RelV y u)(rv:RelV v r)(h:∀s',Inv X pins σ H' s'->Q () s') :
  az (aH X.prog X.w) A (setItem (.ref a) u r) Q E s:=by
 rcases g with⟨kvs,k,e,ey,l,eH⟩ | ⟨kvs,k,b,e,ey,eb,l,eH⟩
 ·subst ey eH
  obtain⟨z,hd,vs,rel,dd⟩:=f1w I.hok e
  have hz:vs.length<=aN:=by rw[<- rel.length];exact z
  have hl:(putK kvs k v).length<=aN:=by have:=h0l kvs k v;omega
  refine wpAny_setItem_pairs (hsz:=hz) (s0s ry) dd fun h' dd' hs=>h _ ?_
  have he:∃q,h'.get? a=some q:=let ⟨q,_,_,hq,_⟩:=dd';⟨q,hq⟩
  exact r0i I (by rw[e];exact True.intro) hs he (t0b hl hd (rel.put k rv) dd')
 ·subst ey eH
  cases (show u=Value.ref b from ry)
  obtain⟨z,hd,xs,rel,dd⟩:=o1d I.hok e
  have hz:xs.length<=aN:=by rw[<- gM rel];exact z
  have hl:(putK kvs k v).length<=aN:=by have:=h0l kvs k v;omega
  refine wpAny_setItem_heap (hsz:=hz) (fS hu) (s0r I.hok eb) dd fun h' dd' hs=>h _ ?_
  obtain⟨q,es,ep,hq,h2,h3,h4,_,h5⟩:=dd'
  refine r0i I (by rw[e];exact True.intro) hs ⟨q,hq⟩ ⟨hl,hd,_,(rel.put k eb rv).keeps fun c ys ec=>?_,q,es,ep,hq,h2,h3,h4,h5⟩
  rw[a0x (i1u ec e (fun z=>nomatch z))]
  exact ec
end
def NoSl (i:Expr):Prop:=∀ov iv,jF i false ov iv=operate [ov,iv] (f_ ov iv)
theorem h1t {prog:aO}{w:be}{A:bo}{E:af->ah->Prop}{s:ah}{env:Env}{value slice:Expr}{pos:Pos}{T id:String}{Q:af->ah->Prop}
  (hl:iR (.type T) "__getitem__" = pure (some (.builtin id))) (hs:NoSl slice)
  (h:az (aH prog w) A (eval value env) (fun o s₁=>az (aH prog w) A (eval slice env) (fun i s₂=>s₂.TypeIs o T/\az (aH prog w) A (f_ o i) Q E s₂) E s₁) E s) :
  az (aH prog w) A (eval (.Subscript value slice pos) env) Q E s:=by
 refine l7 (cP h (fun o s₁ h₁=>cP h₁ (fun i s₂ h₂=>?_) fun _ _ x=>x) fun _ _ x=>x)
 obtain⟨hT,h₂⟩:=h₂
 unfold kj
 refine ab ?_
 rw[getitemInPython_of_ne hT.not_modules]
 refine ab (gR hT hl ?_)
 have fin:az (aH prog w) A (jF slice false o i) (fun r s₃=>az (aH prog w) A (letTemporaryGo value o r>>=fun _=>pure r) Q E s₃) E s₂:=by
  rw[hs o i]
  exact wpAny_operating (cP h₂ (fun r s₃ h₃=>ab (wpAny_letTemporaryGo (aj h₃))) fun _ _ x=>x)
 first
  | exact aj (ab fin)
  | exact ab (aj (ab fin))
  | exact ab fin
theorem v0p {X:Cx}{pins:List (Addr×Obj)}{σ:St}{H:Hp}{s:ah}{a:Addr}{y:V}{o:Option V}(I:Inv X pins σ H s)(g:DGet H a y o):s.TypeIs (.ref a) "dict" := by
 rcases g with⟨kvs,k,e,_,_⟩ | ⟨kvs,k,b,e,_,_,_⟩
 ·obtain⟨_,_,vs,_,dd⟩:=z0f I.hok e
  exact dd.typeIs
 ·obtain⟨_,_,xs,_,dd⟩:=z0e I.hok e
  exact dd.typeIs
def n1r (td ty:TE):TE:=fun σ H Q=>td σ H fun x H1=>ty σ H1 fun y H2=>∃a v,x = .ref a/\DGet H2 a y (some v)/\Q v H2
def tDIn (ty td:TE):TE:=fun σ H Q=>ty σ H fun y H1=>td σ H1 fun x H2=>∃a o,x = .ref a/\DGet H2 a y o/\Q (.bl o.isSome) H2
def a1j (ty td:TE):TE:=fun σ H Q=>ty σ H fun y H1=>td σ H1 fun x H2=>∃a o,x = .ref a/\DGet H2 a y o/\Q (.bl (!o.isSome)) H2
def l1h (td ty tv:TE):TS:=fun D σ H=>tv σ H fun v H1=>td σ H1 fun x H2=>ty σ H2 fun y H3=>∃a H4,x = .ref a/\DPut H3 a y v H4/\D.nx σ H4
section
variable {X:Cx}{o i e value:Expr}{pos pos' tpos:Pos}{td ty tv:TE}
theorem n0h (hu:X.A.units+1<d9)(ho:PE X o td)(hi:PE X i ty)(hs:NoSl i):PE X (.Subscript o i pos) (n1r td ty):=by
 intro pins s σ H Q I h
 refine h1t PySem.F.slot_dict_getitem.lookup hs (thn (ho pins s σ H _ I h) fun u s1 ⟨x,H1,I1,rx,q1⟩=>thn (hi pins s1 σ H1 _ I1 q1) fun iv s2 ⟨y,H2,I2,ry,a,v,ex,g,q2⟩=>?_)
 subst ex
 obtain rfl:u=Value.ref a:=rx
 exact⟨v0p I2 g,c1y hu I2 g ry fun w' s3 I3 rw'=>⟨v,H2,I3,rw',q2⟩⟩
theorem g1r (hu:X.A.units+1<d9)(hi:PE X i ty)(ho:PE X o td):PC X .In i o (tDIn ty td):=by
 intro pins s σ H Q I h
 refine thn (hi pins s σ H _ I h) fun iv s1 ⟨y,H1,I1,ry,q1⟩=>thn (ho pins s1 σ H1 _ I1 q1) fun u s2 ⟨x,H2,I2,rx,a,ov,ex,g,q2⟩=>?_
 subst ex
 obtain rfl:u=Value.ref a:=rx
 exact d_in hu I2 g ry fun s3 I3=>⟨.bl ov.isSome,H2,I3,rfl,q2⟩
theorem n0k (hu:X.A.units+1<d9)(hi:PE X i ty)(ho:PE X o td):PC X .NotIn i o (a1j ty td):=by
 intro pins s σ H Q I h
 refine thn (hi pins s σ H _ I h) fun iv s1 ⟨y,H1,I1,ry,q1⟩=>thn (ho pins s1 σ H1 _ I1 q1) fun u s2 ⟨x,H2,I2,rx,a,ov,ex,g,q2⟩=>?_
 subst ex
 obtain rfl:u=Value.ref a:=rx
 exact j1w hu I2 g ry fun s3 I3=>⟨.bl (!ov.isSome),H2,I3,rfl,q2⟩
theorem n0g (hu:X.A.units+1<d9)(ho:PE X o td)(hi:PE X i ty)(hv:PE X value tv)(hs:gu value (some (.Subscript o i pos')) pos.line X.env=pure false) :
  PS X (.Assign [.Subscript o i pos'] value pos) (l1h td ty tv):=by
 intro pins s σ H D I h
 refine wpAny_Assign_Subscript (thn (hv pins s σ H _ I h) fun r s1 ⟨v,H1,I1,rv,q1⟩=>thn (ho pins s1 σ H1 _ I1 q1) fun u s2 ⟨x,H2,I2,rx,q2⟩=>thn (hi pins s2 σ H2 _ I2 q2) fun iv s3 ⟨y,H3,I3,ry,a,H4,ex,g,q3⟩=>?_) hs
 subst ex
 obtain rfl:u=Value.ref a:=rx
 exact c1x hu I3 g ry rv fun s4 I4=>⟨σ,H4,I4,q3⟩
end
theorem x0s {P:aO}{w:be}{H:Hp}(h:Heap)(hb:dz<h.objs.size):d0y P w H (h.push {cls:=.type "dict",data:=.dict #[]}) h.objs.size (.dK []) :=
 ⟨bg _,beq_eq_false_iff_ne.mpr (cM (aR hb)),[],.nil,jS h⟩
def tDNewK:TE:=fun _ H Q=>∀p,H p=none->Q (.ref p) (upd H p (.dK []))
section
variable {X:Cx}{pos:Pos}
theorem e1x:PE X (.Dict [] [] pos) tDNewK:=fun pins s σ H Q I h =>
 wpAny_Dict_empty ⟨.ref s.heap.objs.size,_,I.laid (a:=s.heap.objs.size) (o:=.dK []) (t':=s.toks) (fun _ _ q=>aq _ q) (aE _) (x0s s.heap I.big),rfl,h _ (I.hok.fresh (aE _))⟩
end
def a1h:List (TE×TE)->St->Hp->(List (V×V)->Hp->Prop)->Prop
 | [],_,H,Q=>Q [] H
 | (tk,tv)::r,σ,H,Q=>tk σ H fun x H1=>tv σ H1 fun y H2=>a1h r σ H2 fun ps H3=>Q ((x,y)::ps) H3
abbrev VV:List (V×V)->List (af×af)->Prop:=j5 fun p q=>RelV p.1 q.1/\RelV p.2 q.2
def PPs (X:Cx)(pos:Pos)(keys:List (Option Expr))(values:List Expr)(trs:List (TE×TE)):Prop :=
 ∀(pins:List (Addr×Obj)) (s:ah) (σ:St) (H:Hp) (Q:List (V×V)->Hp->Prop),Inv X pins σ H s->a1h trs σ H Q ->
  az (aH X.prog X.w) X.A (evalPairs (pairTrees keys values X.env pos)) (fun vs s'=>∃ps H',Inv X pins σ H' s'/\VV ps vs/\Q ps H') X.xe s
theorem b1c {X:Cx}{pos:Pos}:PPs X pos [] [] []:=fun pins s σ H Q I h=>pairTrees_nil_walk ⟨[],H,I,.nil,h⟩
theorem m0o {X:Cx}{pos:Pos}{k v:Expr}{ks:List (Option Expr)}{vs:List Expr}{tk tv:TE}{trs:List (TE×TE)}(hk:PE X k tk)(hv:PE X v tv)(hr:PPs X pos ks vs trs) :
  PPs X pos (some k::ks) (v::vs) ((tk,tv)::trs):=fun pins s σ H Q I h =>
 pairTrees_cons_walk (thn (hk pins s σ H _ I h) fun u s1 ⟨x,H1,I1,rx,q1⟩=>thn (hv pins s1 σ H1 _ I1 q1) fun w2 s2 ⟨y,H2,I2,ry,q2⟩ =>
  thn (hr pins s2 σ H2 _ I2 q2) fun ws s3 ⟨ps,H3,I3,rel,q3⟩=>⟨(x,y)::ps,H3,I3,.cons ⟨rx,ry⟩ rel,q3⟩)
def g0w (kvs more:List (Key×V)):List (Key×V):=more.foldl (fun acc kv=>putK acc kv.1 kv.2) kvs
theorem KV.merge:∀ {more:List (Key×V)} {rs:List (Key×af)} {kvs:List (Key×V)} {vs:List (Key×af)},KV more rs->KV kvs vs->KV (g0w kvs more) (merged vs rs):=by
 intro more rs kvs vs r
 unfold KV at r
 induction r generalizing kvs vs with
 | nil=>intro q;exact q
 | @cons p q ps qs h t ih =>
  intro r0
  have e:KV (putK kvs p.1 p.2) (jy vs q.1 q.2):=by
   have:=r0.put p.1 h.2
   rw[<- h.1];exact this
  exact ih e
theorem h0m:∀(more kvs:List (Key×V)),(g0w kvs more).length<=kvs.length+more.length
 | [],kvs=>by show kvs.length<=kvs.length+0;omega
 | p::r,kvs=>by
  have h1:=h0m r (putK kvs p.1 p.2)
  have h2:=h0l kvs p.1 p.2
  show(g0w (putK kvs p.1 p.2) r).length<=_
  rw[aS];omega
theorem p0w {P:aO}{w:be}:∀ {kvs:List (Key×V)} {ws:List (af×af)},VV (kvs.map fun kv=>(kV kv.1,kv.2)) ws->∃rs,Carries (c0f P w) ws rs/\KV kvs rs
 | [],_,r=>by rw[cS]at r;cases r;exact⟨[],True.intro,.nil⟩
 | p::kvs,_,r=>by
  rw[aT]at r
  cases r with
  | @cons a b as bs h t =>
   obtain⟨rs,c,q⟩:=p0w (P:=P) (w:=w) t
   obtain⟨b1,b2⟩:=b
   exact⟨(p.1,b2)::rs,⟨s0s h.1,rfl,c⟩,.cons ⟨rfl,h.2⟩ q⟩
def l1c (trs:List (TE×TE)):TE:=fun σ H Q=>∀p,H p=none->a1h trs σ (upd H p (.dK [])) fun ps H2=>H2 p=some (.dK [])/\∃kvs:List (Key×V),ps=kvs.map (fun kv=>(kV kv.1,kv.2))/\kvs.length<=15/\Q (.ref p) (upd H2 p (.dK (g0w [] kvs)))
theorem b1g {X:Cx}{pos:Pos}{keys:List (Option Expr)}{values:List Expr}{trs:List (TE×TE)}(h:PPs X pos keys values trs)(hall:keys.all (·.isSome)=true)(hl:keys.length=values.length)(h0:keys≠[])
  (h15:keys.length<=15):PE X (.Dict keys values pos) (l1c trs):=by
 intro pins s σ H Q I q
 have hn:=I.hok.fresh (aE s.heap.objs.size)
 have I1:=I.laid (a:=s.heap.objs.size) (o:=.dK []) (h':=s.heap.push {cls:=.type "dict",data:=.dict #[]}) (t':=s.toks) (fun _ _ q=>aq _ q) (aE _) (x0s s.heap I.big)
 refine wpAny_Dict_walk (knd:=c0f X.prog X.w) hall hl h0 h15 (thn (h pins _ σ _ _ I1 (q _ hn)) fun ws s2 ⟨ps,H2,I2,rel,e,kvs,ep,lk,q2⟩=>?_)
 subst ep
 obtain⟨rs,c,rk⟩:=p0w (P:=X.prog) (w:=X.w) rel
 obtain⟨z,hd,vs0,r0,dd⟩:=f1w I2.hok e
 cases r0
 refine⟨rs,c,dd,fun h' dd' hs=>⟨.ref s.heap.objs.size,_,?_,rfl,q2⟩⟩
 have hz:(g0w [] kvs).length<=aN:=by
  have h1:=h0m kvs []
  rw[lC]at h1
  rw[f9];omega
 have he:∃q,h'.get? s.heap.objs.size=some q:=let ⟨q,_,_,hq,_⟩:=dd';⟨q,hq⟩
 exact r0i I2 (by rw[e];exact True.intro) hs he (t0b hz hd (rk.merge .nil) dd')
structure M2 (X:Cx)(o:Expr)(m:Str)(apos:Pos)(e f:Expr)(cpos:Pos):Prop where
 base:gg o m X.env (eval o X.env)=eval o X.env
 few:((dE cpos (bh [e,f] X.env)).all (fun x=>!x.1)&&(ie cpos (fw [] X.env)).all (fun x=>x.1.isSome)
  && decide (([e,f]:List Expr).length+([]:List jR).length+(if([]:List jR).isEmpty then 0 else 1)<30))=true
 line:(apos.endLine==cpos.line)=true
 trees:dE cpos (bh [e,f] X.env)=[(false,eval e X.env),(false,eval f X.env)]
def IsD (H:Hp)(a:Addr):Prop:=(∃kvs,Rd H a (.dK kvs)) ∨ ∃kvs,Rd H a (.dT kvs)
theorem m1s {X:Cx}{pins:List (Addr×Obj)}{σ:St}{H:Hp}{s:ah}{a:Addr}(I:Inv X pins σ H s)(d:IsD H a) :
  s.TypeIs (.ref a) "dict" /\ (∀b,Value.ref a = .ref b->∃ob,s.heap.get? b=some ob/\ob.dict=none)/\(a==dz)=false:=by
 rcases d with⟨kvs,e⟩ | ⟨kvs,e⟩
 ·obtain⟨_,hd,vs,_,dd⟩:=z0f I.hok e
  refine⟨dd.typeIs,fun b q=>?_,hd⟩
  cases q
  obtain⟨ob,_,_,h1,h2,_⟩:=dd
  exact⟨ob,h1,h2.2.1⟩
 ·obtain⟨_,hd,xs,_,dd⟩:=z0e I.hok e
  refine⟨dd.typeIs,fun b q=>?_,hd⟩
  cases q
  obtain⟨ob,_,_,h1,h2,_⟩:=dd
  exact⟨ob,h1,h2.2.1⟩
end L2
namespace Att
open PySem PySem.W PySem.Calls PyProof.Rows
theorem o0a {P:Params}{h:Heap}:∀(ns:List Int) (vs:List af),WellAll P h vs (ns.map WData.int)->eG vs ns:=by
 intro ns
 induction ns with
 | nil =>
  intro vs w
  rw[cS]at w
  cases w
  exact .nil
 | cons n ns ih =>
  intro vs w
  rw[aT]at w
  cases w with
  | cons a b =>
   cases a
   exact .cons _ _ (ih _ b)
theorem a1u {l:kN}{n:Nat}(hn:l.most=some n){P:Params}{h:Heap}{args:List WData}{vals:List af}
  (hpre:l.row.toRowW.claim.pre args=true) (hwl:WellAll P h vals args) :
  ∃a vs ns,vals=[Value.ref a]/\args=[WData.list (ns.map WData.int)]/\h.get? a=some {cls:=.type "list",data:=.seq vs.toArray}/\eG vs ns/\ns.length<=n:=by
 have hsh:WShape.hasAll [] args [.list .int]=true:=(pre_splitW hpre).1
 have hc:l.pre.holds [] {args:=args}=true:=(pre_splitW hpre).2
 obtain⟨d,r,rfl,h1,h2⟩:=hasAllW_cons hsh
 obtain rfl:=hasAllW_nil h2
 obtain⟨xs,rfl,h3⟩:=hasW_list h1
 obtain⟨ns,rfl⟩:=items_int h3
 have hlen:ns.length<=n:=by
  unfold OpenLaw.pre at hc
  have h4:(WTm.not (.lt (.lit (.int (n:Int))) (.len (.arg 0)))).holds [] {args:=[.list (ns.map .int)]}=true:=by
   have h4:=(holds_andW hc).1
   rw[hn]at h4
   exact h4
  have h5:=condW_of h4 (w_not (w_lt w_lit (w_len_list (w_arg rfl))))
  rw[aw]at h5
  refine Nat.le_of_not_lt fun q=>?_
  have q':(n:Int)<((ns.length:Nat):Int):=by omega
  first
   | (rw[decide_eq_true q']at h5;exact absurd h5 (by decide))
   | (simp at h5;omega)
 cases hwl with
 | cons w1 w2 =>
  cases w2
  cases w1 with
  | list ho hall=>exact⟨_,_,ns,rfl,rfl,ho,o0a ns _ hall,hlen⟩
theorem b1d (l:kN)(args:List WData):l.row.toRowW.claim.post args (.bool true) args=true :=
 postW_of (r:=l.row.toRowW) (X:=(true==true))
  (show mq [] (.bool true) .bool=true by first | rfl | decide | simp[mq,WShape.arms,WShape.armsAll])
  (show(WTm.eq .res (.lit (.bool true))).value [] {args:=args,res:=some (.bool true),after:=args}=some (.bool (true==true))from w_eq_bool (w_res rfl) w_lit) rfl
theorem attach_call {l:kN}{n:Nat}{q:aO}{loose:List Str}{XP:(Str->Option af)->Heap->Prop}{YP:be->Heap->Prop}{d:DefRec}
  (hn:l.most=some n) (hdf:d.params.defaults=[])
  (call:∀(w:be) (s₀ s₁:ah) (mg mb:Str->Option af) (fa:Addr) (o:Obj) (pm cd doc:af) (a:Addr) (vs:List af) (ns:List Int),
   Ground q loose [] XP w s₀ mg mb s₁.heap->YP w s₁.heap ->
   s₁.heap.get? fa=some o->o.data = .func (docDef d.name d.params d.body d.scope pm cd doc)->s₁.heap.CodeRec cd d.name->mg d.name=some (.ref fa) ->
   s₁.heap.get? a=some {cls:=.type "list",data:=.seq vs.toArray}->eG vs ns->ns.length<=n->s₁.gens = #[] ->
   cc (aH l.prog w) iB (.call (.ref fa) ⟨[.ref a],[]⟩) (fun r s'=>r = .ok (.ret (.bool true))/\OldK s₁.heap s'.heap/\s'.os=s₁.os/\gQ s'.gens) s₁) :
  lh q loose XP YP l.row.toRowW d [] (fun f vs=>kq f vs):=by
 intro w s₀ s₁ mg mb G Y fa o pm cd doc dV kV ho hd hcd hD hmg hg args vals as hpre hlay hrd hwl hlo
 obtain rfl:dV = .none:=Dflts.none hD hdf
 obtain rfl:kV = .none:=Dflts.noKw hD
 obtain⟨a,vs,ns,rfl,rfl,hobj,hints,hlen⟩:=a1u hn hpre hwl
 refine enter_call (fI (call w s₀ s₁ mg mb fa o pm cd doc a vs ns G Y ho (fd_plain hd) hcd hmg hobj hints hlen hg) fun r s' hq=>?_)
 obtain⟨rfl,h2,h3,h4⟩:=hq
 exact⟨.inl ⟨.bool true,.bool true,[],rfl,fun _=>rfl,.bool true,b1d l _,fun _=>⟨List.Pairwise.nil,fun _ hm=>(nomatch hm)⟩⟩,h2,h3,h4⟩
end Att
namespace L2
open PySem PySem.Spec PyProof.Rows
theorem j0z:∀ {vs:List af} {ns:List Int},eG vs ns->Vals (ns.map V.int) vs
 | _,_,.nil=>.nil
 | _,_,.cons n t h=>.cons ⟨t,rfl⟩ (j0z h)
def Only (H:Hp):Prop:=∀b,H b=none ∨ ∃o xs,H b=some (.frz o (.lst xs))
theorem f1j {P:aO}{w:be}{K:aa}{mg mb:Str->Option af}{CX:CXT}{k:Nat}{fa a:Addr}{fd:eV}{x:Str}{sp:Sp}{s₁:ah}{vs:List af}{ns:List Int}
  (KX:K.In s₁.heap) (hns:s₁.heap.Ns bc mg) (hb:s₁.heap.Ns lZ mb) (hbb:∀x:Str,x ≠ "__name__" -> mb x=bY x) (hlim:s₁.heap.NoLimit) (hg:s₁.gens = #[])
  (ha:s₁.heap.get? a=some {cls:=.type "list",data:=.seq vs.toArray}) (hi:eG vs ns) (hl:ns.length<=aN) (hr:Room k iB)
  (F:∀base:Heap,K.In base->base.Ns bc mg->FnOk P w K mg base CX k fa fd [x] sp) (hbind:∀(s:ah) (u:af),jU s fd ⟨[u],[]⟩ [(x,u)])
  (hsp:∀H:Hp,Only H->SqL K H a (ns.map V.int)->sp [.ref a] H (fun v _=>v = .bl true) fun _ _ _=>False)
  (hCX:∀H e s',CX [] H s₁ (fun _ _ _=>False) e s'->False) :
  cc (aH P w) iB (.call (.ref fa) ⟨[.ref a],[]⟩) (fun r s'=>r = .ok (.ret (.bool true))/\OldK s₁.heap s'.heap/\s'.os=s₁.os/\gQ s'.gens) s₁:=by
 have rv:=j0z hi
 have lenV:=hi.length
 have core:∀H:Hp,Only H->SqL K H a (ns.map V.int)->HOk P w H s₁.heap->(∀b,H b≠none->b=a)->(H a≠none->K.lookup a=none) ->
   cc (aH P w) iB (.call (.ref fa) ⟨[.ref a],[]⟩) (fun r s'=>r = .ok (.ret (.bool true))/\OldK s₁.heap s'.heap/\s'.os=s₁.os/\gQ s'.gens) s₁:=by
  intro H hO hS hok hA hK
  have base_of:∀ {b:Addr} {o:Obj},s₁.heap.get? b=some o->H b=none->(hidT s₁.heap H).get? b=some o:=fun e n=>f1o e n
  have noA:∀ {b:Addr} {o:Obj} {es:Array DictEntry} {ep:Nat},s₁.heap.get? b=some o->o.data = .dict es ep->H b=none:=fun{b o es ep} e d=>by
   cases q:H b with
   | none=>rfl
   | some u =>
    have e':b=a:=hA b (by rw[q];simp)
    subst e'
    rw[ha]at e;cases e
    have d':Data.seq vs.toArray _=Data.dict es ep:=d
    cases d'
  have nsK:∀ {b:Addr} {m:Str->Option af},s₁.heap.Ns b m->(hidT s₁.heap H).Ns b m:=fun{b m} ⟨o,es,ep,e,d,r⟩=>⟨o,es,ep,base_of e (noA e d),d,r⟩
  have hKb:K.In (hidT s₁.heap H):=fun b o e=>base_of (KX b o e) (by
   cases q:H b with
   | none=>rfl
   | some u =>
    have e':b=a:=hA b (by rw[q];simp)
    subst e'
    rw[hK (by rw[q];simp)]at e;cases e)
  have hM:Mod K mg (hidT s₁.heap H):=⟨hKb,nsK hns,⟨mb,nsK hb,hbb⟩,let ⟨mc,h1,h2⟩:=hlim;⟨mc,nsK h1,h2⟩⟩
  have e0:Env0 P w K mg (hidT s₁.heap H) iB [] s₁ H:=⟨rfl,hM,fun b o e=>i1r e,fA (c1f _ _),trivial,fun b hb=>absurd (show b∈([]:List Addr)from hb) (by simp),hok,.of_eq hg⟩
  refine fI ((F _ hKb (nsK hns)).run iB [] s₁ H ⟨[.ref a],[]⟩ [.ref a] [.ref a] _ _ hr e0 (hbind s₁ (.ref a)) (.cons rfl .nil) (hsp H hO hS)) fun r s' h=>?_
  cases r with
  | error e=>exact(hCX H e s' h).elim
  | ok fl =>
   cases fl with
   | next=>exact c_ h
   | brk=>exact c_ h
   | cont=>exact c_ h
   | ret u =>
    obtain⟨v,H',os,bare,un,hok',r',q⟩:=h
    have q':v = .bl true:=q
    subst q'
    obtain rfl:u=Value.bool true:=r'
    refine⟨rfl,OldK.of_keep fun b o e=>?_,os,bare⟩
    cases q:H b with
    | none=>exact un.keep b o e q (by intro z;exact absurd (show b∈([]:List Addr)from z) (by simp)) (by simp)
    | some u =>
     rcases hO b with z | ⟨ob,xs,z⟩
     ·rw[q]at z;cases z
     ·have z2:=un.frzs b ob _ z
      obtain⟨e1,_⟩:=hok b _ z
      obtain⟨e2,_⟩:=hok' b _ z2
      rw[e]at e1;cases e1
      exact e2
 cases hk:K.lookup a with
 | some o =>
  have e:=KX a o hk
  rw[ha]at e
  cases e
  refine core (fun _=>none) (fun _=>.inl rfl) (.inr ⟨_,vs.toArray,_,hk,rfl,rfl,rfl,by rw[aD,lenV];exact hl,by simpa using rv⟩) (fun b u z=>by have z':(none:Option HO)=some u:=z;cases z') (fun b z=>absurd rfl z) fun z=>absurd rfl z
 | none =>
  refine core (fun b=>if b=a then some (.frz {cls:=.type "list",data:=.seq vs.toArray} (.lst (ns.map V.int)))else none) (fun b=>?_) (.inl (.inr ⟨{cls:=.type "list",data:=.seq vs.toArray},if_pos rfl⟩)) (fun b u z=>?_) (fun b z=>?_) fun _=>hk
  ·by_cases hb:b=a
   ·exact .inr ⟨_,_,if_pos hb⟩
   ·exact .inl (if_neg hb)
  ·by_cases hb:b=a
   ·have z':=(if_pos hb).symm.trans z
    cases z'
    subst hb
    exact⟨ha,by rw[aw];exact hl,vs,_,rv,ha⟩
   ·have z':=(if_neg hb).symm.trans z
    cases z'
  ·by_cases hb:b=a
   ·exact hb
   ·exact absurd (if_neg hb) z
abbrev KOf {K:aa}{h:Heap}(_:K.In h):aa:=K
theorem h1l {l:kN}{n k:Nat}{q:aO}{loose:List Str}{XP:(Str->Option af)->Heap->Prop}{YP:be->Heap->Prop}{d:DefRec}{K:Params->aa}{CX:be->CXT}{sp:be->Sp}{x:Str}
  (hn:l.most=some n) (hn2:n<=aN) (hdf:d.params.defaults=[]) (hr:Room k iB)
  (hY:∀(w:be) (h:Heap),YP w h->(K w.params).In h)
  (F:∀(w:be) (mg:Str->Option af) (fa:Addr) (h:Heap),(K w.params).In h->h.Ns bc mg->mg d.name=some (.ref fa) ->
   ∃fd:eV,(∀(s:ah) (u:af),jU s fd ⟨[u],[]⟩ [(x,u)]) /\
    ∀base:Heap,(K w.params).In base->base.Ns bc mg->FnOk l.prog w (K w.params) mg base (CX w) k fa fd [x] (sp w))
  (hsp:∀(w:be) (H:Hp) (a:Addr) (ns:List Int),ns.length<=n->Only H->SqL (K w.params) H a (ns.map V.int)->sp w [.ref a] H (fun v _=>v = .bl true) fun _ _ _=>False)
  (hCX:∀(w:be) (H:Hp) (s:ah) (e:af) (s':ah),CX w [] H s (fun _ _ _=>False) e s'->False) :
  lh q loose XP YP l.row.toRowW d [] (fun f vs=>kq f vs):=by
 refine Att.attach_call hn hdf fun w s₀ s₁ mg mb fa o pm cd doc a vs ns G Y ho hd hcd hmg hobj hints hlen hg=>?_
 have KX:=hY w _ Y
 obtain⟨fd,hb,hF⟩:=F w mg fa _ KX G.T.g hmg
 exact f1j KX G.T.g G.T.b G.T.builtins G.T.nolimit hg hobj hints (aW hlen hn2) hr hF hb (fun H hO hS=>hsp w H a ns hlen hO hS) fun H e s'=>hCX w H s₁ e s'
theorem d1v {l:kN}{n k:Nat}{q:aO}{loose:List Str}{XP:(Str->Option af)->Heap->Prop}{YP:be->Heap->Prop}{d:DefRec}{K:Params->aa}{CX:CXT}{sp:aa->Sp}{x:Str}
  (hn:l.most=some n) (hn2:n<=aN) (hdf:d.params.defaults=[]) (hr:Room k iB)
  (hY:∀(w:be) (h:Heap),YP w h->(K w.params).In h)
  (F:∀(w:be) (mg:Str->Option af) (fa:Addr) (h:Heap),(K w.params).In h->h.Ns bc mg->mg d.name=some (.ref fa) ->
   ∃fd:eV,(∀(s:ah) (u:af),jU s fd ⟨[u],[]⟩ [(x,u)]) /\
    ∀base:Heap,(K w.params).In base->base.Ns bc mg->FnOk l.prog w (K w.params) mg base CX k fa fd [x] (sp (K w.params)))
  (hsp:∀(K:aa) (H:Hp) (a:Addr) (ns:List Int),ns.length<=n->Only H->SqL K H a (ns.map V.int)->sp K [.ref a] H (fun v _=>v = .bl true) fun _ _ _=>False)
  (hCX:∀(H:Hp) (s:ah) (e:af) (s':ah),CX [] H s (fun _ _ _=>False) e s'->False) :
  lh q loose XP YP l.row.toRowW d [] (fun f vs=>kq f vs) :=
 h1l (K:=K) (CX:=fun _=>CX) (sp:=fun w=>sp (K w.params)) hn hn2 hdf hr hY F (fun w H a ns h1 h2 h3=>hsp (K w.params) H a ns h1 h2 h3) fun _ H s e s'=>hCX H s e s'
def d0u (s:Stmt):Arguments:=match s with
 | .FunctionDef _ a _ _ _ _ _ _ _ _=>a
 | _=>{posonlyargs:=[],args:=[],vararg:=none,kwonlyargs:=[],kw_defaults:=[],kwarg:=none,defaults:=[]}
def c0g (s:Stmt):List Stmt:=match s with
 | .FunctionDef _ _ b _ _ _ _ _ _ _=>b
 | _=>[]
def a0g (s:Stmt):cT:=match s with
 | .FunctionDef _ _ _ _ _ _ sc _ _ _=>sc
 | _=>{kind:=.function,names:=[],isGenerator:=false,isCoroutine:=false}
abbrev CX0:CXT:=fun _ _ _ _ _ _=>False
abbrev E0:XK:=fun _ _ _=>False
theorem e1z {X:Cx}:o0l CX0 X E0:=fun _ _ _ _ _ _ _ h=>h.elim
structure Fun (K:aa)(x qual:Str)(st:Stmt)(f:Addr)(fd:eV):Prop where
 ex:∃(oc:af) (od:Option Addr) (kV doc pm:af) (an:Option Addr) (cdv ct:af) (osl:Array (Option af)),
  fd=bK x qual (d0u st) (c0g st) (a0g st) .none kV doc pm an cdv ct/\K.lookup f=some ⟨oc,od,.func fd,osl⟩/\bM K cdv qual=true
 kp:bA K (.ref f)=true
section
variable {P:aO}{w:be}{K:aa}{mg:Str->Option af}{base:Heap}
theorem Fun.ok {x qual:Str}{st:Stmt}{f:Addr}{fd:eV}{N ps:List Str}{k:Nat}{sp:Sp}(F:Fun K x qual st f fd)(S:b0a N ps (a0g st))(len:∀vs H Q E,sp vs H Q E->vs.length=ps.length)
  (hbody:∀(cdv:af) (A:bo) (outer:List Env) (s:ah) (H:Hp) (vs:List V) (Q:VK) (E:XK),Room k (A.deeper (e9 qual (a0g st) s.heap.objs.size f cdv))->sp vs H Q E ->
   ∃t,PSs (cxOf CX0 P w K mg base N qual (a0g st) f cdv A outer s H E).nox (c0g st) t/\t {nx:=fun _ H'=>Q .non H',rt:=Q} (start N vs) H):FnOk P w K mg base CX0 (k+1) f fd ps sp:=by
 obtain⟨oc,od,kV,doc,pm,an,cdv,ct,osl,rfl,lk,hcd⟩:=F.ex
 refine o1b lk hcd S len fun A outer s H vs Q E hr hsp=>?_
 obtain⟨t,h,q⟩:=hbody cdv A outer s H vs Q E hr hsp
 exact⟨t,h.nox,q⟩
theorem h1a {x qual:Str}{st:Stmt}{f:Addr}{oc:af}{od an:Option Addr}{osl:Array (Option af)}{kV doc pm cdv ct:af}(l:K.lookup f=some ⟨oc,od,.func (bK x qual (d0u st) (c0g st) (a0g st) .none kV doc pm an cdv ct),osl⟩)
  (c:bM K cdv qual=true) (k:bA K (.ref f)=true):Fun K x qual st f (bK x qual (d0u st) (c0g st) (a0g st) .none kV doc pm an cdv ct):=⟨⟨oc,od,kV,doc,pm,an,cdv,ct,osl,rfl,l,c⟩,k⟩
end
theorem e0e {A:bo}{k:Nat}(hr:Room k A):A.units+1<d9:=fE (Nat.add_le_add_left (by decide:1<=64) _) hr.units
theorem g0n {n:Nat}(h:n<=1000):n<aN:=fE h (by decide)
section
variable {X:Cx}
theorem pv (i:Nat){x:Str}{pos:Pos}(hN:X.N[i]? = some x:=by rfl)(hv:Vis X.env.scope x:=by first | exact Or.inl rfl | exact Or.inr (Or.inl rfl) | exact Or.inr (Or.inr rfl))(hd:(x==("__debug__" : Str))=false:=by decide)
  (hcd:(x==("__classdict__" : Str))=false:=by decide):PE X (.Name x pos) (tVar i):=l1s hN hv hd hcd
end
theorem iteT {A B:Prop}(h:A):if true=true then A else B:=by
 rw[if_pos rfl]
 exact h
theorem ite2 {c A B:Prop} [Decidable c](h1:c->A)(h2:¬c->B):if c then A else B:=by
 by_cases h:c
 ·rw[if_pos h]
  exact h1 h
 ·rw[if_neg h]
  exact h2 h
def Same (H H':Hp):Prop:=∀b o,H b=some o->H' b=some o
theorem Same.refl (H:Hp):Same H H:=fun _ _ h=>h
theorem Same.trans {H H1 H2:Hp}(a:Same H H1)(b:Same H1 H2):Same H H2:=fun c o h=>b c o (a c o h)
theorem Same.free {H H':Hp}(e:Same H H'){l:Addr}(h:H' l=Option.none):H l=Option.none:=by
 cases q:H l with
 | none=>rfl
 | some o =>
  rw[e l o q]at h
  cases h
theorem Same.seq {K:aa}{H H':Hp}{a:Addr}{xs:List V}(e:Same H H')(h:SqL K H a xs):SqL K H' a xs:=by
 rcases h with(h | ⟨o,h⟩) | h
 ·exact .inl (.inl (e _ _ h))
 ·exact .inl (.inr ⟨o,e _ _ h⟩)
 ·exact .inr h
def i0q (cells:List (Str×Addr)):List (Str×d4)->List (Str×Addr)->List (Str×Addr)
 | [],cs=>cs
 | (n,k)::r,cs=>i0q cells r (if k == .free then(match cells.lookup n with | some c=>(n,c)::cs | none=>cs)else cs)
def e0f (scope:cT)(env:Env):List (Str×Addr):=i0q env.cells scope.names []
theorem z0h (env:Env):∀(names:List (Str×d4)) (cs:List (Str×Addr)),(∀x∈names,x.2 = .free->∃c,env.cells.lookup x.1=some c) ->
  (forIn names cs fun(x:Str×d4) (r:List (Str×Addr))=>(if(x.2 == .free)=true then(do let a <- lY env x.1;pure (ForInStep.yield ((x.1,a)::r)))else pure (ForInStep.yield r):Sem (ForInStep (List (Str×Addr)))))=pure (i0q env.cells names cs):=by
 intro names
 induction names with
 | nil=>intro cs _;rfl
 | cons x r ih =>
  intro cs h
  obtain⟨n,k⟩:=x
  rw[List.forIn_cons]
  have hr:∀y∈r,y.2 = .free->∃c,env.cells.lookup y.1=some c:=fun y hy=>h y (aZ _ hy)
  unfold i0q
  by_cases hk:k = .free
  ·subst hk
   obtain⟨c,hc⟩:=h (n,.free) aX rfl
   have e:lY env n=pure c:=by unfold lY;rw[hc]
   rw[if_pos (show(NameKind.free==NameKind.free)=true from rfl),if_pos (show(NameKind.free==NameKind.free)=true from rfl),hc]
   show(lY env n>>=fun a=>_)>>=_=_
   rw[e]
   exact ih _ hr
  ·have hb:(k==NameKind.free)=false:=by simpa using hk
   rw[if_neg (show ¬(k==NameKind.free)=true by rw[hb];exact bn),if_neg (show ¬(k==NameKind.free)=true by rw[hb];exact bn)]
   exact ih _ hr
theorem d0x {scope:cT}{env:Env}(h:∀x∈scope.names,x.2 = .free->∃c,env.cells.lookup x.1=some c):e_ scope env=pure (e0f scope env):=by
 have run:=z0h env scope.names [] h
 unfold e_ e0f
 have e:(forIn scope.names ([]:List (Str×Addr)) fun(x:Str×d4) (r:List (Str×Addr))=>(match x with
   | (name,kind)=>if(kind==NameKind.free)=true then(do let a <- lY env name;pure (ForInStep.yield ((name,a)::r)))else pure (ForInStep.yield r):Sem (ForInStep (List (Str×Addr)))))=pure (i0q env.cells scope.names []):=run
 show(forIn scope.names ([]:List (Str×Addr)) _>>=fun cs=>pure cs)=_
 exact(congrArg (fun m:Sem (List (Str×Addr))=>m>>=fun cs=>pure cs) e)
theorem p0u (cells:List (Str×Addr)):∀(names:List (Str×d4)) (cs:List (Str×Addr)),(∀p∈cs,cells.lookup p.1=some p.2)->∀p∈i0q cells names cs,cells.lookup p.1=some p.2
 | [],cs,h=>h
 | (n,k)::r,cs,h=>by
  unfold i0q
  refine p0u cells r _ fun p hp=>?_
  by_cases hk:(k==NameKind.free)=true
  ·rw[if_pos hk]at hp
   cases e:cells.lookup n with
   | none=>rw[e]at hp;exact h p hp
   | some c =>
    rw[e]at hp
    rcases aK.mp hp with rfl | hp
    ·exact e
    ·exact h p hp
  ·rw[if_neg hk]at hp
   exact h p hp
theorem d0h {scope:cT}{env:Env}{x:Str}{c:Addr}(h:(e0f scope env).lookup x=some c):env.cells.lookup x=some c :=
 p0u env.cells scope.names [] (fun _ z=>nomatch z) (x,c) (bZ h)
theorem j0e {cs:List (Str×Addr)}{x:Str}{c:Addr}(h:(x,c)∈cs):∃d,cs.lookup x=some d:=by
 induction cs with
 | nil=>cases h
 | cons p r ih =>
  obtain⟨y,d⟩:=p
  by_cases e:x==y
  ·exact⟨d,by rw[cC,e]⟩
  ·rcases aK.mp h with z | z
   ·cases z;simp at e
   ·obtain⟨d',q⟩:=ih z
    exact⟨d',by simp only[c8]at e;rw[cC,e];exact q⟩
theorem o0h (cells:List (Str×Addr)):∀(names:List (Str×d4)) (cs:List (Str×Addr)) (p:Str×Addr),p∈cs->p∈i0q cells names cs
 | [],_,_,h=>h
 | (n,k)::r,cs,p,h=>by
  unfold i0q
  refine o0h cells r _ p ?_
  split
  ·split
   ·exact aZ _ h
   ·exact h
  ·exact h
theorem p0v (cells:List (Str×Addr)){x:Str}{c:Addr}(hc:cells.lookup x=some c):∀(names:List (Str×d4)) (cs:List (Str×Addr)),(x,NameKind.free)∈names->(x,c)∈i0q cells names cs
 | [],_,h=>nomatch h
 | (n,k)::r,cs,h=>by
  unfold i0q
  rcases aK.mp h with z | z
  ·cases z
   refine o0h cells r _ _ ?_
   rw[if_pos (show(NameKind.free==NameKind.free)=true from rfl),hc]
   exact aX
  ·exact p0v cells hc r _ z
theorem p0t {scope:cT}{env:Env}{x:Str}{c:Addr}(h:(x,NameKind.free)∈scope.names)(hc:env.cells.lookup x=some c):(e0f scope env).lookup x=some c:=by
 obtain⟨d,e⟩:=j0e (p0v env.cells hc scope.names [] h)
 have e':(e0f scope env).lookup x=some d:=e
 rw[e',<- d0h e',hc]
def blk (X:Cx)(scope:cT)(N:List Str)(s:ah)(H:Hp)(C:Addr)(fp:List Addr):Cx where
 prog:=X.prog
 w:=X.w
 K:=X.K
 mg:=X.mg
 base:=X.base
 A:=X.A
 N:=N
 s₀:=s
 H₀:=H
 env:=jZ scope (e0f scope X.env) C X.env
 outer:=X.stack
 stack:=X.stack
 ex:=fp
 fn:=fun _=>false
 calm:=X.calm
 pn:=[]
 xe:=fun _ _=>False
def capt (σ:St)(js:List Nat):St:=js.map fun j=>(σ[j]?).getD none
def capN (N:List Str)(js:List Nat):List Str:=js.map fun j=>(N[j]?).getD ""
def bst (n:Nat)(σ:St)(js:List Nat):St:=aG n none++capt σ js
theorem h0o {n:Nat}{σ:St}{js:List Nat}:(bst n σ js).length=n+js.length:=by unfold bst capt;simp
section
variable {P:aO}{w:be}{A:bo}{R:eU->ah->Prop}{s:ah}
theorem v0s {elt tg iter:Expr}{ifs:List Expr}{scope:cT}{pos:Pos}{it acc:af}{env:Env}(J:Nat->ah->Prop)
  (turn:∀n s,J n s->az (aH P w) A (en it) (fun r s1=>match r with
   | none=>R (.ok .next) s1
   | some v=>az (aH P w) A (cE tg it v) (fun _ s2=>az (aH P w) A (dA tg env v) (fun _ s3 =>
     az (aH P w) A (forIn ifs true fun c r=>if r=true then do let ok <- fU c env (eval c env);pure (ForInStep.yield ok)else pure (ForInStep.yield r)) (fun ok s4 =>
      if ok=true then az (aH P w) A (eval elt env) (fun x s5=>az (aH P w) A (call (.builtin "list.append") [acc,x]) (fun _ s6=>∃m,m<n/\J m s6) (fun _ _=>False) s5) (fun _ _=>False) s4
      else ∃m,m<n/\J m s4) (fun _ _=>False) s3) (fun _ _=>False) s2) (fun _ _=>False) s1) (fun _ _=>False) s)
  (n:Nat) (h:J n s):cc (aH P w) A (.compLoop (.ListComp elt [⟨tg,iter,ifs,0⟩] scope pos) 0 it acc env) R s:=by
 have no:∀ {α:Type} {t:Sem α} {Q Q':α->ah->Prop} {E:af->ah->Prop} {s:ah},az (aH P w) A t Q (fun _ _=>False) s->(∀a s,Q a s->Q' a s)->az (aH P w) A t Q' E s :=
  fun h hq=>cP h hq fun _ _ f=>f.elim
 refine gJ rfl J (fun n s hJ=>?_) n h
 show az _ A ((gy (.ListComp elt [⟨tg,iter,ifs,0⟩] scope pos) 0 it acc env).onRaise (fun x=>do gx x env;fC x)) _ _ s
 refine h_ ?_
 rw[compTurn_list]
 refine ab (b9 (ab (no (turn n s hJ) fun r s1 h1=>?_)))
 cases r with
 | none=>exact aj h1
 | some v =>
  refine ab (no h1 fun _ s2 h2=>ab (no h2 fun _ s3 h3=>ab (no h3 fun ok s4 h4=>?_)))
  cases ok with
  | false=>exact aj ⟨rfl,h4⟩
  | true=>exact ab (ab (no h4 fun x s5 h5=>ab (no h5 fun _ s6 h6=>aj (aj ⟨rfl,h6⟩))))
end
def PTs (X:Cx)(ifs:List Expr)(t:TT):Prop :=
 ∀(pins:List (Addr×Obj)) (s:ah) (σ:St) (H:Hp) (Q:Bool->Hp->Prop),Inv X pins σ H s->t σ H Q ->
  az (aH X.prog X.w) X.A (forIn ifs true fun c r=>if r=true then do let ok <- fU c X.env (eval c X.env);pure (ForInStep.yield ok)else pure (ForInStep.yield r)) (TP X pins σ Q) X.xe s
def tAll:TT:=fun _ H Q=>Q true H
theorem f0w {X:Cx}:PTs X [] tAll:=fun _ _ _ H _ I h=>wpAny_tests_nil ⟨H,I,h⟩
theorem j0r {X:Cx}{c:Expr}{t:TT}(h:PT X c t):PTs X [c] t:=fun pins s σ H Q I hq=>wpAny_tests_one (h pins s σ H Q I hq)
def n1p (J:It)(n:Nat)(js:List Nat)(g:TG)(tc:TT)(te:TE)(Q:VK)(σ:St)(H1:Hp):Prop:=∃W:Nat->Nat->List V->Hp->Prop,(∃m,W 0 m [] H1)/\∀i m ys H,W i m ys H ->
 (J.stop i H/\ys.length<=aN/\∀l,H l=none->Q (.ref l) (upd H l (.lst ys))) ∨
 (J.go i H/\ys.length<aN/\∃N:List V->Hp->Prop,(∀zs H',N zs H'->∃m',m'<m/\W (i+1) m' zs H')/\∀x H',J.yld i H x H'->g x (bst n σ js) H' fun σ2 H2=>σ2.drop n=capt σ js/\tc σ2 H2 fun b H3 =>
  if b=true then te σ2 H3 fun v H4=>N (ys++[v]) H4 else N ys H3)
def a1l (n:Nat)(js:List Nat)(wi:TI)(g:TG)(tc:TT)(te:TE):TE:=fun σ H Q=>wi σ H fun J H1=>n1p J n js g tc te Q σ H1
section
variable {X:Cx}
structure Blk (X:Cx)(scope:cT)(own:List Str)(js:List Nat):Prop where
 kind:scope.kind = .function
 nocell:∀y∈scope.names,y.2 ≠ .cell
 names:∀y∈scope.names,y.2 = .local->scope.names.lookup y.1=some .local
 free:∀y∈scope.names,y.2 = .free->X.env.kindOf y.1=some .cell∨X.env.kindOf y.1=some .free
 uniq:∀x,(x,NameKind.free)∈scope.names->scope.names.lookup x=some .free
 nd:(own++capN X.N js).Nodup
 cap:∀j∈js,j<X.N.length/\((X.N[j]?).getD "",NameKind.free)∈scope.names
def blkB (sc:cT)(N:List Str)(scope:cT)(own:List Str)(js:List Nat):Bool :=
 scope.kind == .function&&scope.names.all (fun y=>y.2 != .cell)&&scope.names.all (fun y=>y.2 != .local||scope.names.lookup y.1==some .local) &&
 scope.names.all (fun y=>y.2 != .free||sc.names.lookup y.1==some .cell||sc.names.lookup y.1==some .free)&&scope.names.all (fun y=>y.2 != .free||scope.names.lookup y.1==some .free) &&
 decide (own++capN N js).Nodup&&js.all (fun j=>decide (j<N.length)&&scope.names.any fun y=>y.1==(N[j]?).getD "" && y.2 == .free)
theorem Blk.of {scope:cT}{own:List Str}{js:List Nat}(sc:cT)(N:List Str)(h:blkB sc N scope own js=true:=by decide +kernel)(e1:X.env.scope=sc:=by rfl)(e2:X.N=N:=by rfl):Blk X scope own js:=by
 subst e1 e2
 unfold blkB at h
 simp only[ba,lr,decide_eq_true_eq,beq_iff_eq]at h
 obtain⟨⟨⟨⟨⟨⟨h1,h2⟩,h3⟩,h4⟩,h5⟩,h6⟩,h7⟩:=h
 refine⟨h1,fun y hy=>by simpa using h2 y hy,fun y hy e=>?_,fun y hy e=>?_,fun x hx=>?_,h6,fun j hj=>?_⟩
 ·have:=h3 y hy
  simpa [e] using this
 ·have:=h4 y hy
  simp only[e,bne_self_eq_false,l9,lM,beq_iff_eq]at this
  exact this
 ·have:=h5 _ hx
  simpa using this
 ·obtain⟨a,b⟩:=h7 j hj
  refine⟨a,?_⟩
  obtain⟨y,hy,e⟩:=cD.mp b
  simp only[ba,beq_iff_eq]at e
  obtain⟨e1,e2⟩:=e
  rw[<- e1,<- e2]
  exact hy
theorem f0d {env:Env}:∀ {names:List (Str×d4)} {x:Str} {k:d4},
  (names.map fun(n,k)=>if(k==NameKind.free&&env.scope.kind == .function&&env.kindOf n==some .cell)then(n,NameKind.cell)else(n,k)).lookup x=some k->names.lookup x=some k∨(k = .cell/\names.lookup x=some .free)
 | [],_,_,h=>by simp at h
 | (n,q)::r,x,k,h=>by
  have ih:=@f0d env r x k
  cases hx:x==n with
  | true =>
   by_cases hc:(q==NameKind.free&&env.scope.kind == .function&&env.kindOf n==some .cell)=true
   ·simp only[aT,if_pos hc,cC,hx]at h
    cases h
    simp only[ba,beq_iff_eq]at hc
    obtain⟨⟨hq,_⟩,_⟩:=hc
    subst hq
    exact .inr ⟨rfl,by rw[cC,hx]⟩
   ·simp only[aT,if_neg hc,cC,hx]at h
    cases h
    exact .inl (by rw[cC,hx])
  | false =>
   have h':(r.map fun(n,k)=>if(k==NameKind.free&&env.scope.kind == .function&&env.kindOf n==some .cell)then(n,NameKind.cell)else(n,k)).lookup x=some k:=by
    by_cases hc:(q==NameKind.free&&env.scope.kind == .function&&env.kindOf n==some .cell)=true
    ·simp only[aT,if_pos hc,cC,hx]at h
     exact h
    ·simp only[aT,if_neg hc,cC,hx]at h
     exact h
   rcases ih h' with z | ⟨z,z'⟩
   ·exact .inl (by rw[cC,hx];exact z)
   ·exact .inr ⟨z,by rw[cC,hx];exact z'⟩
theorem r0p {scope:cT}{own:List Str}{js:List Nat}{pins:List (Addr×Obj)}{σ:St}{H:Hp}{s:ah}{fp:List Addr}{C:Addr}{h1:Heap}{tk:Nat}(B:Blk X scope own js)(I:Inv X pins σ H s)
  (hfp:∀b∈fp,FpOk X pins H b) (hfo:∀b∈fp,∃o,s.heap.get? b=some o) (hC:s.heap.objs.size<=C) (hns:h1.Ns C fun _=>none) (hk:∀b o,s.heap.get? b=some o->h1.get? b=some o) :
  Inv (blk X scope (own++capN X.N js) s H C fp) [] (bst own.length σ js) H {s with heap:=h1,toks:=tk}:=by
 have kindC:∀x,(blk X scope (own++capN X.N js) s H C fp).env.kindOf x=some .cell∨(blk X scope (own++capN X.N js) s H C fp).env.kindOf x=some .free->(x,NameKind.free)∈scope.names:=fun x hx=>by
  have hx':(iu scope X.env).names.lookup x=some .cell∨(iu scope X.env).names.lookup x=some .free:=hx
  rcases hx' with z | z
  ·rcases f0d z with q | ⟨_,q⟩
   ·exact absurd rfl (B.nocell _ (bZ q))
   ·exact bZ q
  ·rcases f0d z with q | ⟨_,q⟩
   ·exact bZ q
   ·exact bZ q
 have has:∀x,(x,NameKind.free)∈scope.names->∃c,X.env.cells.lookup x=some c:=fun x hx=>I.ok.has x (B.free (x,.free) hx rfl)
 have old:∀ {x c},(e0f scope X.env).lookup x=some c->X.env.cells.lookup x=some c:=fun e=>d0h e
 have cellLt:∀ {x c},X.env.cells.lookup x=some c->c<s.heap.objs.size:=fun{x c} e=>by
  obtain⟨v,o,ho,_⟩:=I.cell x c e
  exact aA ho
 have fpLt:∀b∈fp,b<s.heap.objs.size:=fun b hb=>let ⟨_,e⟩:=hfo b hb;aA e
 have fsOk:∀b∈frs X.stack,b∈X.env.locals::X.fs:=I.stkSub
 refine⟨⟨I.ok.mod,?_,I.ok.glob,I.ok.blt,hC,fun x y c e1 e2=>I.ok.inj x y c (old e1) (old e2),fun x hx=>?_,fun x c z _=>absurd z bn,I.ok.hd,I.ok.frames,.inl rfl,fun b hb=>⟨?_,fun x c e=>?_⟩,I.bs,aW I.ok.bsz I.sz,
   fun b o e hb=>?_,fun b hb hf=>?_,I.stack,I.stkFree⟩,rfl,I.bare,Un.kept hk,⟨_,hns,fun i x v e1 e2 e3=>?_⟩,fun x c e=>?_,?_,fun x c e=>I.freeC x c (old e),fun p hp=>absurd hp (by show p∉[]++[];simp),I.hok.kept hk,?_⟩
 ·show(iu scope X.env).kind = .function
  exact B.kind
 ·obtain⟨c,e⟩:=has x (kindC x hx)
  exact⟨c,p0t (kindC x hx) e⟩
 ·exact aR (aU (fpLt b hb) hC)
 ·exact(hfp b hb).2.2.2.2.1 x c (old e)
 ·have e1:=I.bs b o e
  obtain⟨f0,f1,f2,f3,f4,f5⟩:=hfp b hb
  rcases f3 with z | z
  ·exact I.ok.noex b o e z
  ·exact absurd (aU (aA (I.ok.bs b o e).1) z) (dH _)
 ·obtain⟨f0,f1,f2,f3,f4,f5⟩:=hfp b hb
  rcases aK.mp (fsOk b hf)with z | z
  ·exact f1 z
  ·exact f2 z
 ·-- a captured name's value
  have hi:own.length<=i:=by
   rcases bf i own.length with z | z
   ·exfalso
    have e2':(aG own.length (none:Option V)++capt σ js)[i]? = some (some v):=e2
    rw[a_ (by simpa using z),bP]at e2'
    split at e2' <;> cases e2'
   ·exact z
  have e1':(own++capN X.N js)[i]? = some x:=e1
  have e2':(aG own.length (none:Option V)++capt σ js)[i]? = some (some v):=e2
  rw[bx hi]at e1'
  rw[bx (by simpa using hi),cx]at e2'
  unfold capN at e1'
  unfold capt at e2'
  rw[aM]at e1' e2'
  cases ej:js[i - own.length]? with
  | none=>rw[ej]at e1';cases e1'
  | some j =>
   rw[ej]at e1' e2'
   have e1'':(X.N[j]?).getD "" = x:=cF e1'
   have e2'':(σ[j]?).getD none=some v:=cF e2'
   obtain⟨hj,hm⟩:=B.cap j (bz ej)
   have eN:X.N[j]? = some x:=by
    rw[ao hj]at e1'' ⊢
    exact congrArg some e1''
   have eS:σ[j]? = some (some v):=by
    cases q:σ[j]? with
    | none=>rw[q]at e2'';cases e2''
    | some u=>rw[q]at e2'';exact congrArg some e2''
   rw[e1'']at hm
   obtain⟨m,_,hl⟩:=I.loc
   have hv:Vis X.env.scope x:=by
    rcases B.free (x,.free) hm rfl with z | z
    ·exact .inr (.inl z)
    ·exact .inr (.inr z)
   obtain⟨u,r,l⟩:=hl j x v eN eS hv
   obtain⟨c,hc⟩:=has x hm
   refine⟨u,r,.inr ⟨?_,c,p0t hm hc,?_⟩⟩
   ·rcases e3 with z | z | z
    ·exfalso
     have z':(iu scope X.env).names.lookup x=some .local:=z
     rcases f0d z' with q | ⟨q,_⟩
     ·rw[B.uniq x hm]at q
      cases q
     ·cases q
    ·exact .inl z
    ·exact .inr z
   ·rcases l with⟨k1,_⟩ | ⟨k2,c2,e2,ic⟩
    ·rcases B.free (x,.free) hm rfl with t | t <;> (rw[k1]at t;cases t)
    ·rw[hc]at e2;cases e2
     obtain⟨o,ho,hd⟩:=ic
     exact⟨o,hk c o ho,hd⟩
 ·obtain⟨v,o,ho,hd⟩:=I.cell x c (old e)
  exact⟨v,o,hk c o ho,hd⟩
 ·exact I.hok.fresh hC
 ·rw[h0o]
  show _=(own++capN X.N js).length
  unfold capN
  simp
end
section
variable {X:Cx}
theorem Inv.young {pins:List (Addr×Obj)}{σ:St}{H:Hp}{s:ah}{h':Heap}{c:Addr}(I:Inv X pins σ H s)(hs:bH c s.heap h')(hn:H c=none)(h1:X.s₀.heap.objs.size<=c)(hL:c≠X.env.locals)
  (h2:∀x d,X.env.cells.lookup x=some d->d≠c) (h3:∀p∈X.pn++pins,p.1≠c):Inv X pins σ H {s with heap:=h'} :=
 I.turned (t':=s.toks) (fun b o hb e=>(hs.2 b hb).trans e) hn hL (.inr h1) h2 h3
theorem Inv.track {pins:List (Addr×Obj)}{σ:St}{H:Hp}{s:ah}{D:Addr}{ys:List V}{its:List af}{n:Nat}(I:Inv X pins σ H s)(hn:H D=none)(h1:X.s₀.heap.objs.size<=D)(hL:D≠X.env.locals)
  (h2:∀x d,X.env.cells.lookup x=some d->d≠D) (h3:∀p∈X.pn++pins,p.1≠D) (hz:ys.length<=aN) (r:Vals ys its) (e:s.heap.get? D=some {cls:=.type "list",data:=.seq its.toArray n}) :
  Inv X pins σ (upd H D (.lst ys)) s:=by
 have ne:∀ {b u},H b=some u->b≠D:=fun{b u} q=>b0o q hn
 refine⟨I.ok,I.os,I.bare,⟨I.base.keep,I.base.slot,fun b o q z hx=>?_,I.base.there,fun b xs q=>?_,fun b o u q=>?_,fun b ps q=>?_⟩,I.loc,I.cell,?_,fun x c q=>?_,fun p hp=>?_,fun b o q=>?_,I.len⟩
 ·rw[a0x (aR (aU (aA q) h1))]
  exact I.base.free b o q z hx
 ·have q':=I.base.tups b xs q
  rw[a0x (ne q')];exact q'
 ·have q':=I.base.frzs b o u q
  rw[a0x (ne q')];exact q'
 ·obtain⟨more,q'⟩:=I.base.tbls b ps q
  exact⟨more,by rw[a0x (ne q')];exact q'⟩
 ·rw[a0x (cM hL)];exact I.free
 ·rw[a0x (h2 x c q)];exact I.freeC x c q
 ·obtain⟨a1,a2,a3⟩:=I.pin p hp
  exact⟨a1,by rw[a0x (h3 p hp)];exact a2,a3⟩
 ·by_cases hb:b=D
  ·subst hb
   rw[a0z]at q
   cases q
   exact⟨hz,its,n,r,e⟩
  ·rw[a0x hb]at q
   refine(I.hok b o q).stay (fun _ _ _ z=>z) (fun c z=>?_) fun c xs z=>?_
   ·rw[a0x (ne z)];exact z
   ·rw[a0x (ne z)];exact z
def d1t (X:Cx)(pins:List (Addr×Obj))(σ:St)(Q:VK)(C:Addr)(acc:af)(s':ah):Prop :=
 ∃(D:Addr) (H:Hp) (m:Str->Option af),acc = .ref D/\s'.heap.Ns C m/\Inv X pins σ H s'/\H C=none/\X.s₀.heap.objs.size<=C/\C≠X.env.locals/\(∀x d,X.env.cells.lookup x=some d->d≠C)/\(∀p∈X.pn++pins,p.1≠C)/\Q (.ref D) H
theorem p0s {elt tg iter:Expr}{ifs:List Expr}{scope:cT}{pos:Pos}{own:List Str}{js:List Nat}{g:TG}{tc:TT}{te:TE}{Q:VK}{pins:List (Addr×Obj)}{σ:St}{s2:ah}{itv:af}{E:af->ah->Prop}
  {RR:af->Addr->eU->ah->Prop} (hc:X.calm=true) (B:Blk X scope own js) (hg:∀s H C fp,(own++capN X.N js).Nodup->PG (blk X scope (own++capN X.N js) s H C fp) tg g) (ht:∀s H C fp,PTs (blk X scope (own++capN X.N js) s H C fp) ifs tc)
  (he:∀s H C fp,PE (blk X scope (own++capN X.N js) s H C fp) elt te)
  (h:PIE X pins σ tg (fun J H1=>n1p J own.length js g tc te Q σ H1) itv s2)
  (hR:∀C acc s',d1t X pins σ Q C acc s'->RR acc C (.ok .next) s') :
  az (aH X.prog X.w) X.A (kU []) (fun acc s3=>az (aH X.prog X.w) X.A (ib scope X.env.globals (e0f scope X.env) [] X.env.qual none .none (some X.env)) (fun cenv s4 =>
   cc (aH X.prog X.w) X.A (.compStart (.ListComp elt [⟨tg,iter,ifs,0⟩] scope pos) 0 itv acc {cenv with scope:=iu scope X.env}) (RR acc cenv.locals) s4) E s3) E s2:=by
 obtain⟨it,fp,tn,J,H2,rfl,I2,T,st2,f2,W,⟨m0,w0⟩,turn⟩:=h
 refine bL (ft B.nocell (by intro y hy;simp at hy) (fun h1 hns1 hsb1=>?_) B.kind)
 generalize hPu:s2.heap.push {cls:=.type "list",dict:=none,data:=.seq ([]:List af).toArray}=Pu at hns1 hsb1 ⊢
 dsimp only at hns1 hsb1 ⊢
 have hDC:Pu.objs.size=s2.heap.objs.size+1:=by rw[<- hPu,cf]
 generalize hD:s2.heap.objs.size=D at hDC ⊢
 have gD:Pu.get? D=some {cls:=.type "list",dict:=none,data:=.seq ([]:List af).toArray}:=by
  rw[<- hPu,<- hD];exact aP _ rfl
 generalize hC:Pu.objs.size=C at hns1 hsb1 hDC ⊢
 have ltDC:D<C:=by rw[hDC];exact c9 D
 have neDC:D≠C:=aR ltDC
 have keep1:∀b o,s2.heap.get? b=some o->h1.get? b=some o:=fun b o e=>by
  have hb:b<D:=by rw[<- hD];exact aA e
  have hb2:b≠C:=aR (c7 hb ltDC)
  refine(hsb1.2 b hb2).trans (aq _ ?_)
  rw[<- hPu]
  exact aq _ e
 have gD1:h1.get? D=some {cls:=.type "list",dict:=none,data:=.seq ([]:List af).toArray}:=(hsb1.2 D neDC).trans (aq _ gD)
 have szD:s2.heap.objs.size<=D:=fA hD
 have szC:s2.heap.objs.size<=C:=aW szD (bW ltDC)
 have old:∀ {b:Addr},b<s2.heap.objs.size->b≠D/\b≠C:=fun hb=>⟨aR (aU hb szD),aR (aU hb szC)⟩
 have fpo:∀b∈fp,∃o,s2.heap.get? b=some o:=fun b hb=>let ⟨o,e,_⟩:=T.obj 0 _ st2 b hb;⟨o,e⟩
 have fpD:∀b∈fp,b≠D/\b≠C:=fun b hb=>by
  obtain⟨o,e⟩:=fpo b hb
  exact old (aA e)
 have clD:∀x d,X.env.cells.lookup x=some d->d≠D/\d≠C:=fun x d e=>by
  obtain⟨v,o,ho,_⟩:=I2.cell x d e
  exact old (aA ho)
 have pinD:∀p∈X.pn++pins,p.1≠D/\p.1≠C:=fun p hp=>by
  exact old (aA (I2.pin p hp).1)
 have locD:D≠X.env.locals/\C≠X.env.locals:=by
  exact⟨(old I2.lt).1.symm,(old I2.lt).2.symm⟩
 let Y:=blk X scope (own++capN X.N js) s2 H2 C fp
 have IB:Inv Y [] (bst own.length σ js) H2 {s2 with heap:=h1,toks:=s2.toks+([]:List (Str×af)).length}:=r0p B I2 f2 fpo szC hns1 keep1
 have fpB:∀ {H':Hp} {pl:List (Addr×Obj)},(∀b∈fp,H' b=none)->(∀p∈pl,p.1=D)->∀b∈fp,FpOk Y pl H' b:=fun{H' pl} hn hp b hb=>by
  obtain⟨f0,f1,f3,f4,f5,f6⟩:=f2 b hb
  refine⟨hn b hb,(fpD b hb).2,fun z=>?_,.inl hb,fun x c e=>f5 x c (d0h e),fun p q=>?_⟩
  ·rcases aK.mp (I2.stkSub b z)with z | z
   ·exact f1 z
   ·exact f3 z
  ·have q':p∈pl:=by simpa [Y,blk] using q
   rw[hp p q']
   exact(fpD b hb).1.symm
 have clB:∀x d,Y.env.cells.lookup x=some d->d≠D:=fun x d e=>(clD x d (d0h e)).1
 have notFs:D∉Y.fs:=fun z=>by
  obtain⟨_,o,ho,_⟩:=IB.ok.funs.mem z
  exact(old (aA (show s2.heap.get? D=some o from ho))).1 rfl
 have loop:∀s3:ah,s3={s2 with heap:=h1,toks:=s2.toks+([]:List (Str×af)).length} ->
   cc (aH X.prog X.w) X.A (.compLoop (.ListComp elt [⟨tg,iter,ifs,0⟩] scope pos) 0 (.ref it) (.ref D) (jZ scope (e0f scope X.env) C X.env)) (RR (.ref D) C) s3:=by
  rintro s3 rfl
  refine v0s (fun n s'=>∃(i:Nat) (ys:List V) (its:List af) (k:Nat) (H':Hp),Inv Y [] (bst own.length σ js) H' s'/\tn i s'.heap/\(∀b∈fp,H' b=none)/\H' D=none/\Vals ys its /\
   s'.heap.get? D=some {cls:=.type "list",data:=.seq its.toArray k}/\W i n ys H') ?_ m0 ⟨0,[],[],0,H2,IB,T.keep 0 _ _ st2 (fun b hb o e=>keep1 b o e),fun b hb=>(f2 b hb).1,I2.hok.fresh szD,.nil,gD1,w0⟩
  rintro n s3 ⟨i,ys,its,k,H3,I3,st3,fr3,hD3,r3,g3,w3⟩
  have I3p:Inv Y [(D,{cls:=.type "list",data:=.seq its.toArray k})] (bst own.length σ js) H3 s3:=I3.pins_of fun p hp=>by
   have e:p=(D,{cls:=.type "list",data:=.seq its.toArray k}):=by simpa using hp
   subst e
   exact⟨g3,hD3,neDC,notFs,fun v z=>by cases z⟩
  have f3:∀b∈fp,FpOk Y [(D,{cls:=.type "list",data:=.seq its.toArray k})] H3 b:=fpB fr3 fun p hp=>by
   have e:p=(D,{cls:=.type "list",data:=.seq its.toArray k}):=by simpa using hp
   rw[e]
  rcases turn i n ys H3 w3 with⟨stop,hz,qn⟩ | ⟨go,hz,N,hN,step⟩
  ·refine thn (T.done Y rfl rfl rfl hc i _ s3 _ H3 (fun _ _=>False) I3p f3 st3 stop) fun r s4 ⟨hr,I4⟩=>?_
   subst hr
   refine hR C _ s4 ?_
   have g4:=(I4.pin (D,{cls:=.type "list",data:=.seq its.toArray k}) (by simp[Y,blk])).1
   obtain⟨m,hn4,_⟩:=id I4.loc
   have un:Un (frs X.stack) fp H2 H3 s2.heap s4.heap:=I4.base
   have I5:Inv X pins σ H3 s4:=I2.call' I4.os un I4.hok I4.bare fun b hb=>let ⟨_,b1,_,b3,b4,b5⟩:=f2 b hb;⟨b3,b1,b4,b5⟩
   have I6:=I5.track (ys:=ys) (its:=its) (n:=k) hD3 (aW I2.sz szD) locD.1 (fun x d e=>(clD x d e).1) (fun p hp=>(pinD p hp).1) hz r3 g4
   refine⟨D,_,m,rfl,hn4,I6,?_,aW I2.sz szC,locD.2,fun x d e=>(clD x d e).2,fun p hp=>(pinD p hp).2,qn D hD3⟩
   rw[a0x (cM neDC)]
   exact I4.free
  ·refine thn (T.item Y rfl rfl rfl hc i _ s3 _ H3 (fun _ _=>False) I3p f3 st3 go) fun r s4 ⟨u,hr,h4⟩=>?_
   subst hr
   refine thn h4 fun _ s5 ⟨x,H5,I5,r5,y5,st5,fr5⟩=>?_
   have f5:∀b∈fp,FpOk Y [(D,{cls:=.type "list",data:=.seq its.toArray k})] H5 b:=fun b hb=>⟨fr5 b hb,(f3 b hb).2⟩
   have I5':=I5.pinned f5 (T.obj _ _ st5)
   refine thn (hg s2 H2 C fp B.nd _ s5 _ H5 x u _ I5' r5 (step x H5 y5)) fun _ s6 ⟨σ6,H6,I6,d6,q6⟩=>?_
   refine thn (ht s2 H2 C fp _ s6 σ6 H6 _ I6 q6) fun ok s7 ⟨H7,I7,q7⟩=>?_
   have after:∀ {s8:ah} {H8:Hp},Inv Y ([(D,{cls:=.type "list",data:=.seq its.toArray k})]++h0u fp s5.heap) σ6 H8 s8 ->
     s8.heap.get? D=some {cls:=.type "list",data:=.seq its.toArray k}/\H8 D=none/\tn (i+1) s8.heap/\(∀b∈fp,H8 b=none)/\Inv Y [] (bst own.length σ js) H8 s8:=fun{s8 H8} I8=>by
    have p8:=I8.pin (D,{cls:=.type "list",data:=.seq its.toArray k}) (by simp[Y,blk])
    refine⟨p8.1,p8.2.1,T.keep _ _ _ st5 fun b hb o e=>(I8.pin (b,o) (ar _ (ar _ (c0x hb e)))).1,fun b hb=>?_,?_⟩
    ·obtain⟨o,e,_⟩:=T.obj _ _ st5 b hb
     exact(I8.pin (b,o) (ar _ (ar _ (c0x hb e)))).2.1
    ·refine(I8.pins_of (pins':=[]) fun p hp=>absurd hp (by simp[Y,blk])).weak ?_ fun j v e=>?_
     ·rw[I8.len,h0o]
      show _=(own++capN X.N js).length
      unfold capN
      simp
     ·rcases bf j own.length with z | z
      ·exfalso
       unfold bst at e
       rw[a_ (by simpa using z),bP]at e
       split at e <;> cases e
      ·unfold bst at e
       rw[bx (by simpa using z),cx,<- d6,bw]at e
       rw[<- e]
       congr 1
       omega
   cases ok with
   | false =>
    rw[if_neg bn]at q7 ⊢
    obtain⟨m',hm,w7⟩:=hN _ _ q7
    obtain⟨a1,a2,a3,a4,a5⟩:=after I7
    exact⟨m',hm,i+1,ys,its,k,H7,a5,a3,a4,a2,r3,a1,w7⟩
   | true =>
    rw[if_pos rfl]at q7 ⊢
    refine thn (he s2 H2 C fp _ s7 σ6 H7 _ I7 q7) fun u8 s8 ⟨v8,H8,I8,r8,n8⟩=>?_
    obtain⟨m',hm,w8⟩:=hN _ _ n8
    obtain⟨a1,a2,a3,a4,a5⟩:=after I8
    have hsz:its.toArray.size<aN:=by rw[aD,<- r3.length];exact hz
    refine j0 cu ⟨_,a1,rfl⟩ ip (g0 _ _) (ig D its.toArray k u8 (by omega)) ⟨a1,?_⟩
    have q9:=gZ a1 (fun xs=>xs.push u8)
    have sb:bH D s8.heap (s8.heap.update D (cv fun xs=>xs.push u8)):=cB ..
    have I9:=a5.young sb a2 szD neDC clB (fun p hp=>absurd hp (by show p∉[]++[];simp))
    have fin:∃k',(s8.heap.update D (cv fun xs=>xs.push u8)).get? D=some {cls:=.type "list",data:=.seq (its++[u8]).toArray k'}:=⟨_,by
     rw[show(its++[u8]).toArray=its.toArray.push u8 by simp]
     exact q9⟩
    obtain⟨k',fin⟩:=fin
    exact⟨m',hm,i+1,ys++[v8],its++[u8],k',H8,I9,T.keep _ _ _ a3 (fun b hb o e=>(sb.2 b (fpD b hb).1).trans e),a4,a2,r3.append (.cons r8 .nil),fin,w8⟩
 exact kW (loop _ rfl) (T.self _ 0 _ _ _ (T.keep 0 _ _ st2 fun b hb o e=>keep1 b o e) (loop _ rfl))
theorem n0i {elt tg iter:Expr}{ifs:List Expr}{scope:cT}{pos:Pos}(own:List Str)(js:List Nat){wi:TI}{g:TG}{tc:TT}{te:TE}(hc:X.calm=true)(B:Blk X scope own js)(hi:PI X tg iter wi)
  (hg:∀s H C fp,(own++capN X.N js).Nodup->PG (blk X scope (own++capN X.N js) s H C fp) tg g) (ht:∀s H C fp,PTs (blk X scope (own++capN X.N js) s H C fp) ifs tc) (he:∀s H C fp,PE (blk X scope (own++capN X.N js) s H C fp) elt te)
  (hs:∀x,cb iter X.env x=pure x:=by intro _;rfl):PE X (.ListComp elt [⟨tg,iter,ifs,0⟩] scope pos) (a1l own.length js wi g tc te):=by
 intro pins s σ H Q I h
 have hcl:e_ scope X.env=pure (e0f scope X.env):=d0x fun x hx hf=>I.ok.has x.1 (B.free x hx hf)
 rw[eval_ListComp]
 refine cV (use:=none) rfl hs hcl B.kind B.names (thn (hi pins s σ H _ I h) fun v s1 h1=>thn h1 fun itv s2 h2=>?_)
 refine p0s (RR:=fun acc C=>jd (aH X.prog X.w) X.A X.xe none (EP X pins σ Q) acc C) hc B hg ht he h2 fun C acc s' hb=>?_
 obtain⟨D,H',m,rfl,hn,I',c1,c2,c3,c4,c5,q⟩:=hb
 exact⟨m,hn,fun h' hs'=>⟨.ref D,H',I'.young hs' c1 c2 c3 c4 c5,rfl,q⟩⟩
theorem b1b {elt tg iter:Expr}{ifs:List Expr}{scope:cT}{pos pos' spos:Pos}{i:Nat}{x:Str}(own:List Str)(js:List Nat){wi:TI}{g:TG}{tc:TT}{te:TE}(hN:X.N.Nodup)(hi:X.N[i]? = some x)(hx:Loc X.env.scope x)
  (hc:X.calm=true) (B:Blk X scope own js) (hit:PI X tg iter wi)
  (hg:∀s H C fp,(own++capN X.N js).Nodup->PG (blk X scope (own++capN X.N js) s H C fp) tg g) (ht:∀s H C fp,PTs (blk X scope (own++capN X.N js) s H C fp) ifs tc) (he:∀s H C fp,PE (blk X scope (own++capN X.N js) s H C fp) elt te)
  (hf:X.fn x=true∨X.env.scope.names.lookup x=some .local:=by first | exact .inl rfl | exact .inr rfl | assumption)
  (hw:gu (.ListComp elt [⟨tg,iter,ifs,0⟩] scope pos) (some (.Name x pos')) spos.line X.env=pure true:=by rfl)
  (hs:∀x,cb iter X.env x=pure x:=by intro _;rfl) :
  PS X (.Assign [.Name x pos'] (.ListComp elt [⟨tg,iter,ifs,0⟩] scope pos) spos) (fun D σ H=>a1l own.length js wi g tc te σ H fun v H'=>D.nx (σ.set i (some v)) H'):=by
 intro pins s σ H D I h
 have hcl:e_ scope X.env=pure (e0f scope X.env):=d0x fun x hx hf=>I.ok.has x.1 (B.free x hx hf)
 rw[gV _ _ _ _ hw]
 refine ab (b9 (ab ?_))
 show az _ X.A (do let _ <- gf (.ListComp elt [⟨tg,iter,ifs,0⟩] scope pos) scope X.env _ (kU []) false (eval iter X.env) (some (dA (.Name x pos') X.env))) _ _ s
 refine ab (thn (Q:=fun _ s'=>SP X pins D .next s') (cV (use:=some (dA (.Name x pos') X.env)) rfl hs hcl B.kind B.names (thn (hit pins s σ H _ I h) fun v s1 h1=>thn h1 fun itv s2 h2=>?_)) fun _ s' q=>aj (aj q))
 refine p0s (Q:=fun v H'=>D.nx (σ.set i (some v)) H') (RR:=fun acc C=>jd (aH X.prog X.w) X.A X.xe (some (dA (.Name x pos') X.env)) (fun _ s'=>SP X pins D .next s') acc C) hc B hg ht he h2 fun C acc s' hb=>?_
 obtain⟨l,H',m,rfl,hn,I',c1,c2,c3,c4,c5,q⟩:=hb
 show az _ X.A (dA (.Name x pos') X.env (.ref l)) _ _ _
 refine f8 (k0b (v:=.ref l) I' hN hi hx rfl (fun s3 I3 ⟨a,sb,ha⟩=>?_) hf)
 have ne:C≠a:=by
  rcases ha with z | z
  ·rw[z];exact c3
  ·exact(c4 x a z).symm
 exact⟨m,hn.sameBut sb ne,fun h' hs'=>⟨_,H',I3.young hs' c1 c2 c3 c4 c5,q⟩⟩
end
section
variable {X:Cx}
def Dv (j:Int):Prop:=0<j/\j.natAbs.log2<9000
theorem Dv.small {j:Int}(h:0<j)(h2:j<1073741824):Dv j:=⟨h,by
 have e:j.natAbs≠0:=by omega
 have:j.natAbs.log2<30:=(Nat.log2_lt e).mpr (by omega)
 omega⟩
theorem q0q:OpR X (dP .FloorDiv) (rI (fun _ j=>Dv j) fun i j=>.int (i / j)):=opI fun i j _ _ _ _ _ hc q=>by
 rw[<- Int.fdiv_eq_ediv_of_nonneg i (iL hc.1)]at q
 exact floordiv_int (mN hc.1) q (.inl (PyProof.noPylong_of_log2 hc.2))
def isaT (t T:String):Option Bool:=if(Value.type t==Value.type T)=true then some true else if PySem.W.kitMeta T=true then(fastBuiltinMro t).map (·.contains (.type T))else none
theorem o0x:isaT "int" "tuple" = some false:=by decide +kernel
theorem n0y:isaT "bool" "tuple" = some false:=by decide +kernel
theorem o0v:isaT "str" "tuple" = some false:=by decide +kernel
theorem o0w:isaT "NoneType" "tuple" = some false:=by decide +kernel
theorem n0x:isaT "list" "tuple" = some false:=by decide +kernel
theorem m0h:isaT "tuple" "tuple" = some true:=by decide +kernel
theorem f1l {K:aa}{t T:String}:iU K (.type t) (.type T)=isaT t T:=rfl
theorem n1u {x:Str}{T:String}{pos:Pos}(hg:Gl X x)(hm:X.mg x=none)(hv:bY x=some (.type T))(hn:x ≠ "__name__" := by decide)(hd:(x==("__debug__" : Str))=false:=by decide):PE X (.Name x pos) (tC (.ty T)) :=
 i1k hg hm hv rfl hn hd
structure OkN (P:aO)(w:be)(K:aa)(mg:Str->Option af)(base:Heap)(k:Nat)(x:Str)(ps:List Str)(sp:Sp):Prop where
 ex:∃f fd,mg x=some (.ref f)/\bA K (.ref f)=true/\o0m K fd ps []/\(∃oc od osl,K.lookup f=some ⟨oc,od,.func fd,osl⟩)/\FnOk P w K mg base CX0 k f fd ps sp
theorem c0v {k:Nat}{x:Str}{ps:List Str}{sp:Sp}{p pos:Pos}{e:Expr}{es:List Expr}{t:TA}(F:OkN X.prog X.w X.K X.mg X.base k x ps sp)(hr:Room k X.A)(ha:PA X (e::es) t)(hg:Gl X x:=by rfl)
  (hdb:(x==("__debug__" : Str))=false:=by decide) (he:bh (e::es) X.env=(false,eval e X.env)::bh es X.env:=by rfl) (hpl:(dE pos (bh es X.env)).any (·.1)=false:=by rfl) :
  PE X (.Call (.Name x p) (e::es) [] pos) (h1s sp [] E0 t):=by
 obtain⟨f,fd,hm,hk,hb,lk,F⟩:=F.ex
 exact i1j F hr hg hm hk hb .nil e1z ha hdb he hpl
structure DefN (K:aa)(mg:Str->Option af)(x:Str)(st:Stmt)(ps:List Str):Prop where
 ex:∃f fd,mg x=some (.ref f)/\Fun K x x st f fd/\∀us:List af,us.length=ps.length->j2 fd ⟨us,[]⟩=pure (ps.zip us)
theorem DefN.ok {P:aO}{w:be}{K:aa}{mg:Str->Option af}{base:Heap}{x:Str}{st:Stmt}{N ps:List Str}{k:Nat}{sp:Sp}(D:DefN K mg x st ps)(S:b0a N ps (a0g st))(len:∀vs H Q E,sp vs H Q E->vs.length=ps.length)
  (hbody:∀(f:Addr) (cdv:af) (A:bo) (outer:List Env) (s:ah) (H:Hp) (vs:List V) (Q:VK) (E:XK),Room k (A.deeper (e9 x (a0g st) s.heap.objs.size f cdv))->sp vs H Q E ->
   ∃t,PSs (cxOf CX0 P w K mg base N x (a0g st) f cdv A outer s H E).nox (c0g st) t/\t {nx:=fun _ H'=>Q .non H',rt:=Q} (start N vs) H):OkN P w K mg base (k+1) x ps sp:=by
 obtain⟨f,fd,hm,F,hb⟩:=D.ex
 refine⟨f,fd,hm,F.kp,.all hb,?_,F.ok S len fun cdv A outer s H vs Q E hr h=>hbody f cdv A outer s H vs Q E hr h⟩
 obtain⟨oc,od,kV,doc,pm,an,cdv,ct,osl,_,lk,_⟩:=F.ex
 exact⟨oc,od,osl,lk⟩
theorem d0l {K:aa}{mg:Str->Option af}{h:Heap}{x:Str}{st:Stmt}{ps:List Str}{f:Addr}{oc:af}{od an:Option Addr}{osl:Array (Option af)}{kV doc pm cdv ct:af}(KX:K.In h)(G:h.Ns bc mg)
  (a:bB K bc x=some (some (.ref f))) (l:K.lookup f=some ⟨oc,od,.func (bK x x (d0u st) (c0g st) (a0g st) .none kV doc pm an cdv ct),osl⟩)
  (c:bM K cdv x=true) (k:bA K (.ref f)=true)
  (hb:∀(kV doc pm:af) (an:Option Addr) (cdv ct:af) (us:List af),us.length=ps.length->j2 (bK x x (d0u st) (c0g st) (a0g st) .none kV doc pm an cdv ct) ⟨us,[]⟩=pure (ps.zip us)):DefN K mg x st ps :=
 ⟨f,_,eJ KX G a,h1a l c k,fun us hl=>hb kV doc pm an cdv ct us hl⟩
theorem j1c {P:aO}{w:be}{K:aa}{mg:Str->Option af}{x p:Str}{st:Stmt}{k:Nat}{fa:Addr}{sp:Sp}(D:DefN K mg x st [p])(hfa:mg x=some (.ref fa))
  (F:∀base:Heap,OkN P w K mg base k x [p] sp):∃fd:eV,(∀(s:ah) (v:af),jU s fd ⟨[v],[]⟩ [(p,v)])/\∀base:Heap,K.In base->base.Ns bc mg->FnOk P w K mg base CX0 k fa fd [p] sp:=by
 obtain⟨f,fd,hm,F0,hb⟩:=D.ex
 obtain⟨oc,od,kV,doc,pm,an,cdv,ct,osl,_,lk,_⟩:=F0.ex
 refine⟨fd,fun s v=>.of_eq (hb [v] rfl),fun base _ _=>?_⟩
 obtain⟨f',fd',hm',_,_,⟨oc',od',osl',lk'⟩,G⟩:=(F base).ex
 rw[hfa]at hm'
 cases hm'
 rw[hfa]at hm
 cases hm
 rw[lk]at lk'
 cases lk'
 exact G
end
structure BI (mg:Str->Option af):Prop where
 len_:mg "len" = none
 range_:mg "range" = none
 isinstance_:mg "isinstance" = none
 int_:mg "int" = none
 bool_:mg "bool" = none
 list_:mg "list" = none
 tuple_:mg "tuple" = none
 str_:mg "str" = none
 sum_:mg "sum" = none
 all_:mg "all" = none
 max_:mg "max" = none
 min_:mg "min" = none
 sorted_:mg "sorted" = none
 set_:mg "set" = none
 zip_:mg "zip" = none
 enumerate_:mg "enumerate" = none
 reversed_:mg "reversed" = none
 dict_:mg "dict" = none
 any_:mg "any" = none
 abs_:mg "abs" = none
 repr_:mg "repr" = none
theorem o1g {K:aa}{mg:Str->Option af}{h:Heap}(KX:K.In h)(G:h.Ns bc mg)
  (len_:bB K bc "len" = some none) (range_:bB K bc "range" = some none) (isinstance_:bB K bc "isinstance" = some none) (int_:bB K bc "int" = some none) (bool_:bB K bc "bool" = some none) (list_:bB K bc "list" = some none) (tuple_:bB K bc "tuple" = some none) (str_:bB K bc "str" = some none) (sum_:bB K bc "sum" = some none) (all_:bB K bc "all" = some none) (max_:bB K bc "max" = some none) (min_:bB K bc "min" = some none) (sorted_:bB K bc "sorted" = some none) (set_:bB K bc "set" = some none) (zip_:bB K bc "zip" = some none) (enumerate_:bB K bc "enumerate" = some none) (reversed_:bB K bc "reversed" = some none) (dict_:bB K bc "dict" = some none) (any_:bB K bc "any" = some none) (abs_:bB K bc "abs" = some none) (repr_:bB K bc "repr" = some none):BI mg :=
 ⟨a9 KX G len_,a9 KX G range_,a9 KX G isinstance_,a9 KX G int_,a9 KX G bool_,a9 KX G list_,a9 KX G tuple_,a9 KX G str_,a9 KX G sum_,a9 KX G all_,a9 KX G max_,a9 KX G min_,a9 KX G sorted_,a9 KX G set_,a9 KX G zip_,a9 KX G enumerate_,a9 KX G reversed_,a9 KX G dict_,a9 KX G any_,a9 KX G abs_,a9 KX G repr_⟩
def Grow (t:Addr)(H H':Hp):Prop:=∀b o,H b=some o->b≠t->H' b=some o
theorem Grow.refl {t:Addr}{H:Hp}:Grow t H H:=fun _ _ h _=>h
theorem Grow.upd {t:Addr}{H H':Hp}(g:Grow t H H')(o:HO):Grow t H (L2.upd H' t o):=fun b u h n=>by rw[a0x n];exact g b u h n
theorem Same.new {H H':Hp}{l:Addr}{o:HO}(s:Same H H')(h:H' l=none):Same H (L2.upd H' l o):=fun b u e=>by
 have:=s b u e
 rw[a0x (b0o this h)];exact this
theorem Same.seqT {K:aa}{H H':Hp}{a:Addr}{xs:List V}(e:Same H H')(h:SqT K H a xs):SqT K H' a xs:=by
 rcases h with(h | ⟨o,h⟩) | h
 ·exact .inl (.inl (e _ _ h))
 ·exact .inl (.inr ⟨o,e _ _ h⟩)
 ·exact .inr h
theorem Grow.seq {K:aa}{t:Addr}{H H':Hp}{a:Addr}{xs:List V}{kvs:List (Key×V)}(g:Grow t H H')(ht:H t=some (.dK kvs))(h:SqL K H a xs):SqL K H' a xs:=by
 rcases h with(h | ⟨o,h⟩) | h
 ·exact .inl (.inl (g _ _ h (i1u h ht (by intro z;cases z))))
 ·exact .inl (.inr ⟨o,g _ _ h (i1u h ht (by intro z;cases z))⟩)
 ·exact .inr h
def e0c (c:Addr)(sp lf:Int):List (Key×V):=[(Sum.inr "cells",.ref c),(Sum.inr "spot",.int sp),(Sum.inr "left",.int lf)]
theorem j1x:¬((Sum.inr ("cells" : Str):Key)=Sum.inr ("spot" : Str)):=by decide +kernel
theorem j1y:¬((Sum.inr ("cells" : Str):Key)=Sum.inr ("left" : Str)):=by decide +kernel
theorem e1f:¬((Sum.inr ("spot" : Str):Key)=Sum.inr ("left" : Str)):=by decide +kernel
theorem p0c {c:Addr}{sp lf:Int}:valV (e0c c sp lf) (Sum.inr "cells" : Key)=some (.ref c):=by
 simp[valV,e0c]
theorem a1d {c:Addr}{sp lf:Int}:valV (e0c c sp lf) (Sum.inr "spot" : Key)=some (.int sp):=by
 simp only[valV,e0c,bO,decide_eq_false j1x,decide_true,f7]
theorem a1f {c:Addr}{sp lf:Int}:valV (e0c c sp lf) (Sum.inr "left" : Key)=some (.int lf):=by
 simp only[valV,e0c,bO,decide_eq_false j1y,decide_eq_false e1f,decide_true,f7]
theorem q0n {c:Addr}{sp lf x:Int}:putK (e0c c sp lf) (Sum.inr "left" : Key) (.int x)=e0c c sp x:=by
 unfold putK
 rw[if_pos (by simp[e0c])]
 simp only[e0c,aT,cS,if_neg j1y,if_neg e1f,if_pos]
theorem e1n {c:Addr}{sp lf x:Int}:putK (e0c c sp lf) (Sum.inr "spot" : Key) (.int x)=e0c c x lf:=by
 unfold putK
 rw[if_pos (by simp[e0c])]
 simp only[e0c,aT,cS,if_neg j1x,if_pos,if_neg (show ¬((Sum.inr ("left" : Str):Key)=Sum.inr ("spot" : Str))from fun e=>e1f e.symm)]
theorem a1e {c:Addr}:g0w [] [((Sum.inr ("cells" : Str):Key),V.ref c),((Sum.inr ("spot" : Str):Key),V.int 0),((Sum.inr ("left" : Str):Key),V.int 0)]=e0c c 0 0:=by
 simp only[g0w,gm,List.foldl_nil]
 have e1:putK ([]:List (Key×V)) (Sum.inr ("cells" : Str)) (V.ref c)=[((Sum.inr ("cells" : Str):Key),V.ref c)]:=by simp[putK]
 have e2:putK [((Sum.inr ("cells" : Str):Key),V.ref c)] (Sum.inr ("spot" : Str)) (V.int 0)=[((Sum.inr ("cells" : Str):Key),V.ref c),((Sum.inr ("spot" : Str):Key),V.int 0)]:=by
  unfold putK
  rw[if_neg (by simp only[cz,mw,decide_eq_false j1x];simp)]
  rfl
 have e3:putK [((Sum.inr ("cells" : Str):Key),V.ref c),((Sum.inr ("spot" : Str):Key),V.int 0)] (Sum.inr ("left" : Str)) (V.int 0)=e0c c 0 0:=by
  unfold putK
  rw[if_neg (by simp only[cz,mw,decide_eq_false j1y,decide_eq_false e1f];simp)]
  rfl
 rw[e1,e2,e3]
theorem o1f {ns:List Int}:cutV (ns.map V.int) none (some 63)=(ns.take 63).map V.int:=by
 unfold cutV
 have e0:HT.sIx (ns.map V.int).length 0 none=0:=rfl
 rw[e0,jt,iJ,d7]
 show List.take (HT.sIx _ _ (some ((63:Nat):Int))) _=_
 rw[HT.sIx_nat]
 rcases j6 63 (ns.map V.int).length with h | h
 ·rw[ji h]
 ·rw[iX h,bS (aE _),bS h]
end L2
namespace L2
theorem drawn {Q:Int->Hp->Prop}{m x:Int}{H':Hp}(hm:0<m)(k:∀r:Nat,(r:Int)<m->Q (r:Nat) H'):Q (x % m) H':=by
 obtain⟨r,e⟩:=dB (lU x (mN hm))
 have:=k9 x hm
 rw[e]at this ⊢
 exact k r this
theorem w0q {y:Int}:-(2^64)<y % 2147483647/\y % 2147483647<2^64:=by omega
theorem dv64:Dv 64:=Dv.small (by decide) (by decide)
end L2
namespace L2
open PySem PySem.Spec PyProof.Rows
theorem w0a (a b:Nat):eB (a:Int) (b:Int)=((a &&& b:Nat):Int):=by
 unfold eB
 rw[decide_eq_true (k8 a),decide_eq_true (k8 b)]
 simp
theorem l1w (a b:Nat):lu (a:Int) (b:Int)=((a ||| b:Nat):Int):=by
 unfold lu eB Builtin.bitNot
 rw[decide_eq_false (show ¬(0:Int) <= -(a:Int) - 1 by omega),decide_eq_false (show ¬(0:Int) <= -(b:Int) - 1 by omega)]
 have h1:(-(-(a:Int) - 1) - 1).toNat=a:=by omega
 have h2:(-(-(b:Int) - 1) - 1).toNat=b:=by omega
 simp only[h1,h2]
 omega
theorem j0o:∀(a b:Nat),(a ^^^ b)+2*(a &&& b)=a+b:=by
 intro a
 induction a using Nat.strongRecOn with
 | ind a ih =>
  intro b
  by_cases h0:a=0
  ·subst h0;simp
  ·have h:=ih (a / 2) (by omega) (b / 2)
   have e1:(a ^^^ b) / 2=a / 2 ^^^ b / 2:=Nat.xor_div_two
   have e2:(a &&& b) / 2=a / 2 &&& b / 2:=Nat.and_div_two
   have e3:(a ^^^ b) % 2=(a+b) % 2:=by
    have:=d_ a b 0
    rw[dZ,dZ,dZ]at this
    rcases bQ a with p | p <;> rcases bQ b with q | q <;> rcases bQ (a ^^^ b)with r | r <;> simp[p,q,r]at this <;> omega
   have e4:(a &&& b) % 2=(a % 2)*(b % 2):=by
    have:=ff a b 0
    rw[dZ,dZ,dZ]at this
    rcases bQ a with p | p <;> rcases bQ b with q | q <;> rcases bQ (a &&& b)with r | r <;> simp[p,q,r]at this <;> simp[p,q,r]
   rcases bQ a with p | p <;> rcases bQ b with q | q <;> rw[p,q]at e4 <;> omega
theorem z0p (a b:Nat):fo (a:Int) (b:Int)=((a ^^^ b:Nat):Int):=by
 unfold fo
 rw[l1w,w0a]
 have h1:(a ||| b)+(a &&& b)=a+b:=by
  have:=j0o a b
  have e:(a ||| b)=(a ^^^ b)+(a &&& b):=by
   have h2:=j0o (a ^^^ b) (a &&& b)
   have h3:(a ^^^ b) &&& (a &&& b)=0:=by
    apply gP
    intro i
    simp only[ff,d_,iV]
    cases a.testBit i <;> cases b.testBit i <;> rfl
   have h4:(a ^^^ b) ^^^ (a &&& b)=a ||| b:=by
    apply gP
    intro i
    simp only[ff,d_,Nat.testBit_or]
    cases a.testBit i <;> cases b.testBit i <;> rfl
   rw[h3,h4]at h2
   omega
  omega
 have:=j0o a b
 omega
theorem t0z (k:Nat):(1:Int)*(2:Int)^((k:Int).toNat)=((1 <<< k:Nat):Int):=by
 rw[cL,iW,Int.one_mul,ku]
 simp
def h1u (K:aa):Sp:=fun vs H Q _=>∃(a:Addr) (ns:List Int),vs=[.ref a]/\SqL K H a (ns.map V.int)/\ns.length<=63/\∀H',Q (.bl true) H'
theorem f0l:bY "len" = some (.builtin "len"):=by decide +kernel
theorem g1a:bY "range" = some (.type "range"):=by decide +kernel
theorem r0o:bY "isinstance" = some (.builtin "isinstance"):=by decide +kernel
theorem v0x:bY "list" = some (.type "list"):=by decide +kernel
theorem h0n:bY "tuple" = some (.type "tuple"):=by decide +kernel
theorem d1j:bY "max" = some (.builtin "max"):=by decide +kernel
theorem x0v:bY "min" = some (.builtin "min"):=by decide +kernel
theorem t0n:bY "sorted" = some (.builtin "sorted"):=by decide +kernel
theorem i0r:bY "enumerate" = some (.type "enumerate"):=by decide +kernel
theorem v0w:bY "reversed" = some (.type "reversed"):=by decide +kernel
section
variable {X:Cx}{a b e o:Expr}{es:List Expr}{ta tb te to:TE}{t:TA}{pos apos cpos:Pos}(K:aa)
theorem f0g (ha:PE X a ta)(he:∀whole,fU a X.env whole=(do let v <- whole;dU a.pos;iw [v] (truthy v)))(hK:X.K=K:=by rfl) :
  PT X a (fun σ H Q=>ta σ H fun x H'=>∃k,TruV K x H' k/\Q k H'):=by subst hK;exact e1o ha he
theorem y0k (hK:X.K=K:=by rfl):OpR X (cA .In) (rIn K false):=by subst hK;exact b1m
theorem h0h (hK:X.K=K:=by rfl):OpR X (cA .NotIn) (rIn K true):=by subst hK;exact s0c
theorem b0j (hK:X.K=K:=by rfl):IxR X (rIx K):=by subst hK;exact m1q
theorem i0u (hK:X.K=K:=by rfl):SlR X (rSlL K):=by subst hK;exact h1y
theorem c0h (hK:X.K=K:=by rfl):l0c X (.builtin "len") (fun xs H Q=>∃p ys,xs=[.ref p]/\(SqL K H p ys∨SqT K H p ys)/\Q (.int ys.length) H):=by subst hK;exact t0m
theorem z0j (hK:X.K=K:=by rfl):l0c X (.type "list") (fun xs H Q=>∃p ys,xs=[.ref p]/\(SqL K H p ys∨SqT K H p ys)/\∀l,H l=none->Q (.ref l) (upd H l (.lst ys))):=by subst hK;exact t0l
theorem e0z (hK:X.K=K:=by rfl):l0c X (.type "tuple") (fun xs H Q=>∃p ys,xs=[.ref p]/\((SqL K H p ys/\∀l,H l=none->Q (.ref l) (upd H l (.tup ys)))∨(SqT K H p ys/\Q (.ref p) H))):=by subst hK;exact r0n
theorem c0s {es:List Expr}{k:Nat}{t:TGs}{n:Nat}(hc:X.calm=true)(h:PGs X es t)(hn:(fc es X.env).length=n:=by rfl)(hst:(fc es X.env).findIdx? (·.1)=none:=by rfl)(hK:X.K=K:=by rfl) :
  PG X (.Tuple es k pos) (gTup K n t):=by subst hK;exact l1r hc h hn hst
variable {name:Str}{T id:String}{r:V->List V->Hp->VK->Prop}
theorem k0k (pa:PlainAttrs T)(slot:Slot T name id)(hty:typeOf (.builtin id)=pure (.type "method_descriptor"))(hm:MtR X id r)(ho:PE X o to)(ha:PA X (e::es) t)
  (hbase:gg o name X.env (eval o X.env)=eval o X.env:=by rfl)
  (hfew:((dE cpos (bh (e::es) X.env)).all (fun x=>!x.1)&&(ie cpos (fw [] X.env)).all (fun x=>x.1.isSome)&&decide ((e::es).length+([]:List jR).length+(if([]:List jR).isEmpty then 0 else 1)<30))=true:=by rfl)
  (hline:(apos.endLine==cpos.line)=true:=by rfl) (he:bh (e::es) X.env=(false,eval e X.env)::bh es X.env:=by rfl) (hpl:(dE cpos (bh es X.env)).any (·.1)=false:=by rfl)
  (hK:X.K=K:=by rfl):PE X (.Call (.Attribute o name apos) (e::es) [] cpos) (tBM K T r to t):=by
 subst hK
 exact n1w pa slot hty hm ho ha hbase hfew hline he hpl
end
inductive D where
 | non | bl (b:Bool) | int (i:Int) | str (x:Str) | tup (ds:List D) | lst (ds:List D)
def StT (H:Hp)(a:Addr)(xs:List V):Prop:=H a=some (.tup xs)
theorem StT.sq {K:aa}{H:Hp}{a:Addr}{xs:List V}(h:StT H a xs):SqT K H a xs:=SqT.of h
instance {K:aa} {H:Hp} {a:Addr} {xs:List V}:Coe (StT H a xs) (SqT K H a xs):=⟨StT.sq⟩
def StL (H:Hp)(a:Addr)(xs:List V):Prop:=H a=some (.lst xs)
theorem StL.sq {K:aa}{H:Hp}{a:Addr}{xs:List V}(h:StL H a xs):SqL K H a xs:=SqL.of h
instance {K:aa} {H:Hp} {a:Addr} {xs:List V}:Coe (StL H a xs) (SqL K H a xs):=⟨StL.sq⟩
mutual
def RepD (K:aa)(H:Hp):V->D->Prop
 | v,.non=>v = .non
 | v,.bl b=>v = .bl b
 | v,.int i=>v = .int i
 | v,.str x=>v = .str x
 | v,.tup ds=>∃a vs,v = .ref a/\StT H a vs/\RepDs K H vs ds
 | v,.lst ds=>∃a vs,v = .ref a/\StL H a vs/\RepDs K H vs ds
def RepDs (K:aa)(H:Hp):List V->List D->Prop
 | [],[]=>True
 | v::vs,d::ds=>RepD K H v d/\RepDs K H vs ds
 | _,_=>False
end
mutual
def eqD:D->D->Bool
 | .non,.non=>true
 | .bl a,.bl b=>a==b
 | .bl a,.int b=>(if a then 1 else 0)==b
 | .int a,.bl b=>a==(if b then 1 else 0)
 | .int a,.int b=>a==b
 | .str a,.str b=>a==b
 | .tup ds,.tup es=>eqDs ds es
 | .lst ds,.lst es=>eqDs ds es
 | _,_=>false
def eqDs:List D->List D->Bool
 | [],[]=>true
 | d::ds,e::es=>eqD d e&&eqDs ds es
 | _,_=>false
end
mutual
def D.depth:D->Nat
 | .tup ds=>depths ds+1
 | .lst ds=>depths ds+1
 | _=>0
def depths:List D->Nat
 | []=>0
 | d::ds=>max d.depth (depths ds)
end
section
variable {K:aa}{H H':Hp}
theorem RepDs.length:∀ {vs:List V} {ds:List D},RepDs K H vs ds->vs.length=ds.length
 | [],[],_=>rfl
 | v::vs,d::ds,h=>by
  unfold RepDs at h
  rw[aS,aS,RepDs.length h.2]
 | [],d::ds,h=>by unfold RepDs at h;exact h.elim
 | v::vs,[],h=>by unfold RepDs at h;exact h.elim
theorem RepDs.get:∀ {vs:List V} {ds:List D} {i:Nat} {d:D},RepDs K H vs ds->ds[i]? = some d->∃v,vs[i]? = some v/\RepD K H v d
 | [],[],_,_,_,e=>by simp at e
 | v::vs,d::ds,0,_,h,e=>by
  unfold RepDs at h
  simp at e;subst e
  exact⟨v,rfl,h.1⟩
 | v::vs,d::ds,i+1,_,h,e=>by
  unfold RepDs at h
  obtain⟨u,a,b⟩:=RepDs.get (i:=i) h.2 (by simpa using e)
  exact⟨u,by simpa using a,b⟩
 | [],d::ds,_,_,h,_=>by unfold RepDs at h;exact h.elim
 | v::vs,[],_,_,h,_=>by unfold RepDs at h;exact h.elim
theorem RepDs.getV:∀ {vs:List V} {ds:List D} {i:Nat} {v:V},RepDs K H vs ds->vs[i]? = some v->∃d,ds[i]? = some d/\RepD K H v d
 | [],[],_,_,_,e=>by simp at e
 | v::vs,d::ds,0,_,h,e=>by
  unfold RepDs at h
  simp at e;subst e
  exact⟨d,rfl,h.1⟩
 | v::vs,d::ds,i+1,_,h,e=>by
  unfold RepDs at h
  obtain⟨u,a,b⟩:=RepDs.getV (i:=i) h.2 (by simpa using e)
  exact⟨u,by simpa using a,b⟩
 | [],d::ds,_,_,h,_=>by unfold RepDs at h;exact h.elim
 | v::vs,[],_,_,h,_=>by unfold RepDs at h;exact h.elim
theorem RepDs.append:∀ {vs ws:List V} {ds es:List D},RepDs K H vs ds->RepDs K H ws es->RepDs K H (vs++ws) (ds++es)
 | [],ws,[],es,_,h=>h
 | v::vs,ws,d::ds,es,h,h'=>by
  unfold RepDs at h
  show RepDs K H (v::(vs++ws)) (d::(ds++es))
  unfold RepDs
  exact⟨h.1,RepDs.append h.2 h'⟩
 | [],_,d::ds,_,h,_=>by unfold RepDs at h;exact h.elim
 | v::vs,_,[],_,h,_=>by unfold RepDs at h;exact h.elim
theorem RepDs.one {v:V}{d:D}(h:RepD K H v d):RepDs K H [v] [d]:=by unfold RepDs;exact⟨h,by unfold RepDs;trivial⟩
theorem RepDs.nil:RepDs K H [] []:=by unfold RepDs;trivial
theorem RepDs.cons {v:V}{d:D}{vs:List V}{ds:List D}(h:RepD K H v d)(t:RepDs K H vs ds):RepDs K H (v::vs) (d::ds):=by unfold RepDs;exact⟨h,t⟩
theorem l0h:∀ {vs:List V} {ns:List Int},RepDs K H vs (ns.map D.int)↔vs=ns.map V.int
 | [],[]=>by simp[RepDs]
 | v::vs,n::ns=>by
  have ih:=@l0h vs ns
  rw[aT,aT]
  unfold RepDs RepD
  rw[ih]
  constructor
  ·rintro⟨rfl,rfl⟩;rfl
  ·intro h;injection h with h1 h2;exact⟨h1,h2⟩
 | [],n::ns=>by rw[aT];unfold RepDs;simp
 | v::vs,[]=>by rw[cS];unfold RepDs;simp
mutual
theorem RepD.keep (hl:∀a vs,StL H a vs->StL H' a vs)(ht:∀a vs,StT H a vs->StT H' a vs):∀ {v:V} {d:D},RepD K H v d->RepD K H' v d
 | v,.non,h=>by unfold RepD at h ⊢;exact h
 | v,.bl b,h=>by unfold RepD at h ⊢;exact h
 | v,.int i,h=>by unfold RepD at h ⊢;exact h
 | v,.str x,h=>by unfold RepD at h ⊢;exact h
 | v,.tup ds,h=>by
  unfold RepD at h ⊢
  obtain⟨a,vs,e,h1,h2⟩:=h
  exact⟨a,vs,e,ht _ _ h1,RepDs.keep hl ht h2⟩
 | v,.lst ds,h=>by
  unfold RepD at h ⊢
  obtain⟨a,vs,e,h1,h2⟩:=h
  exact⟨a,vs,e,hl _ _ h1,RepDs.keep hl ht h2⟩
theorem RepDs.keep (hl:∀a vs,StL H a vs->StL H' a vs)(ht:∀a vs,StT H a vs->StT H' a vs):∀ {vs:List V} {ds:List D},RepDs K H vs ds->RepDs K H' vs ds
 | [],[],_=>RepDs.nil
 | v::vs,d::ds,h=>by
  unfold RepDs at h ⊢
  exact⟨RepD.keep hl ht h.1,RepDs.keep hl ht h.2⟩
 | [],d::ds,h=>by unfold RepDs at h;exact h.elim
 | v::vs,[],h=>by unfold RepDs at h;exact h.elim
end
theorem RepD.same {v:V}{d:D}(h:RepD K H v d)(s:Same H H'):RepD K H' v d:=h.keep (fun _ _ q=>s _ _ q) fun _ _ q=>s _ _ q
theorem RepDs.same {vs:List V}{ds:List D}(h:RepDs K H vs ds)(s:Same H H'):RepDs K H' vs ds:=h.keep (fun _ _ q=>s _ _ q) fun _ _ q=>s _ _ q
end
mutual
theorem r0f:∀d:D,eqD d d=true
 | .non=>by simp[eqD]
 | .bl b=>by simp[eqD]
 | .int i=>by simp[eqD]
 | .str x=>by simp[eqD]
 | .tup ds=>by unfold eqD;exact eqDs_refl ds
 | .lst ds=>by unfold eqD;exact eqDs_refl ds
theorem eqDs_refl:∀ds:List D,eqDs ds ds=true
 | []=>by simp[eqDs]
 | d::ds=>by unfold eqDs;rw[r0f d,eqDs_refl ds];rfl
end
section
variable {X:Cx}{pins:List (Addr×Obj)}{σ:St}{H:Hp}{s:ah}
mutual
theorem m0n (I:Inv X pins σ H s):∀ {v:V} {d e:D},RepD X.K H v d->RepD X.K H v e->d=e
 | v,.non,e,h,h'=>by
  unfold RepD at h;subst h
  cases e <;> (unfold RepD at h';first | rfl | (obtain⟨_,_,z,_⟩:=h';cases z) | cases h')
 | v,.bl b,e,h,h'=>by
  unfold RepD at h;subst h
  cases e <;> (unfold RepD at h';first | (cases h';rfl) | (obtain⟨_,_,z,_⟩:=h';cases z) | cases h')
 | v,.int b,e,h,h'=>by
  unfold RepD at h;subst h
  cases e <;> (unfold RepD at h';first | (cases h';rfl) | (obtain⟨_,_,z,_⟩:=h';cases z) | cases h')
 | v,.str b,e,h,h'=>by
  unfold RepD at h;subst h
  cases e <;> (unfold RepD at h';first | (cases h';rfl) | (obtain⟨_,_,z,_⟩:=h';cases z) | cases h')
 | v,.tup ds,e,h,h'=>by
  unfold RepD at h
  obtain⟨a,vs,rfl,h1,h2⟩:=h
  cases e with
  | tup es =>
   unfold RepD at h'
   obtain⟨b,ws,z,g1,g2⟩:=h'
   cases z
   rw[I.tuple_inj g1.sq h1.sq]at g2
   rw[repDs_inj I h2 g2]
  | lst es =>
   unfold RepD at h'
   obtain⟨b,ws,z,g1,g2⟩:=h'
   cases z
   obtain⟨_,_,⟨o,n,e1,c1,_⟩,_⟩:=I.list (StL.sq g1)
   obtain⟨_,_,⟨o',e2,c2,_⟩,_⟩:=I.tuple h1.sq
   rw[e1]at e2;cases e2
   rw[c1]at c2
   exact absurd c2 (by decide)
  | non=>unfold RepD at h';cases h'
  | bl _=>unfold RepD at h';cases h'
  | int _=>unfold RepD at h';cases h'
  | str _=>unfold RepD at h';cases h'
 | v,.lst ds,e,h,h'=>by
  unfold RepD at h
  obtain⟨a,vs,rfl,h1,h2⟩:=h
  cases e with
  | lst es =>
   unfold RepD at h'
   obtain⟨b,ws,z,g1,g2⟩:=h'
   cases z
   rw[I.list_inj (StL.sq g1) (StL.sq h1)]at g2
   rw[repDs_inj I h2 g2]
  | tup es =>
   unfold RepD at h'
   obtain⟨b,ws,z,g1,g2⟩:=h'
   cases z
   obtain⟨_,_,⟨o,n,e1,c1,_⟩,_⟩:=I.list (StL.sq h1)
   obtain⟨_,_,⟨o',e2,c2,_⟩,_⟩:=I.tuple g1.sq
   rw[e1]at e2;cases e2
   rw[c1]at c2
   exact absurd c2 (by decide)
  | non=>unfold RepD at h';cases h'
  | bl _=>unfold RepD at h';cases h'
  | int _=>unfold RepD at h';cases h'
  | str _=>unfold RepD at h';cases h'
theorem repDs_inj (I:Inv X pins σ H s):∀ {vs:List V} {ds es:List D},RepDs X.K H vs ds->RepDs X.K H vs es->ds=es
 | [],[],[],_,_=>rfl
 | v::vs,d::ds,e::es,h,h'=>by
  unfold RepDs at h h'
  rw[m0n I h.1 h'.1,repDs_inj I h.2 h'.2]
 | [],d::ds,_,h,_=>by unfold RepDs at h;exact h.elim
 | v::vs,[],_,h,_=>by unfold RepDs at h;exact h.elim
 | [],_,d::ds,_,h=>by unfold RepDs at h;exact h.elim
 | v::vs,_,[],_,h=>by unfold RepDs at h;exact h.elim
end
end
theorem i0j (A:bo):A.in1.units=A.units+1:=rfl
theorem p0q:∀ {ds:List D} {j:Nat} {d:D},ds[j]? = some d->d.depth<=depths ds
 | [],_,_,h=>by simp at h
 | d::ds,0,_,h=>by simp at h;subst h;unfold depths;omega
 | d::ds,j+1,e,h=>by
  have:=p0q (ds:=ds) (j:=j) (by simpa using h)
  unfold depths;omega
def s0y (ds es:List D)(j:Nat):Bool:=match ds[j]?,es[j]? with
 | some d,some e=>eqD d e
 | _,_=>true
theorem g0x:∀ {ds es:List D},ds.length=es.length->(aQ ds.length).all (s0y ds es)=eqDs ds es
 | [],[],_=>by simp[eqDs]
 | d::ds,e::es,h=>by
  have ih:=g0x (ds:=ds) (es:=es) (by simpa using h)
  rw[aS,List.range_succ_eq_map,fP,List.all_map]
  unfold eqDs
  rw[<- ih]
  congr 1
 | [],_::_,h=>by simp at h
 | _::_,[],h=>by simp at h
theorem f0i:∀ {ds es:List D},ds.length≠es.length->eqDs ds es=false
 | [],[],h=>absurd rfl h
 | [],_::_,_=>by simp[eqDs]
 | _::_,[],_=>by simp[eqDs]
 | d::ds,e::es,h=>by
  unfold eqDs
  rw[f0i (ds:=ds) (es:=es) (by simpa using h),jw]
section
variable {X:Cx}{pins:List (Addr×Obj)}{σ:St}{H:Hp}{s:ah}
theorem m0r (I:Inv X pins σ H s){m:Nat}(ih:∀ {A:bo} {v u:V} {vv uu:af} {d e:D},d.depth<=m->A.units+m<d9->RelV v vv->RelV u uu->RepD X.K H v d->RepD X.K H u e->eL A s vv uu (eqD d e)){A:bo}(hu:A.units+m<d9)
  {vs us:List V} {vvs uus:List af} {ds es:List D} (hd:depths ds<=m) (rv:Vals vs vvs) (ru:Vals us uus) (hv:RepDs X.K H vs ds) (he:RepDs X.K H us es) :
  ∀j (h1:j<vvs.toArray.size) (h2:j<uus.toArray.size),eL A s vvs.toArray[j] uus.toArray[j] (s0y ds es j):=by
 intro j h1 h2
 rw[aD]at h1 h2
 have l1:=rv.length
 have l2:=ru.length
 have g1:vs[j]? = some vs[j]:=ao (by omega)
 have g2:us[j]? = some us[j]:=ao (by omega)
 obtain⟨x,ex,rx⟩:=rv.get g1
 obtain⟨y,ey,ry⟩:=ru.get g2
 obtain⟨d,ed,rd⟩:=hv.getV g1
 obtain⟨e,ee,re⟩:=he.getV g2
 rw[ao h1]at ex
 rw[ao h2]at ey
 cases ex
 cases ey
 have:s0y ds es j=eqD d e:=by unfold s0y;rw[ed,ee]
 rw[this,gG,gG]
 exact ih (aW (p0q ed) hd) hu rx ry rd re
theorem g1n (I:Inv X pins σ H s)(n:Nat)(ih:0<n->∀ {A:bo} {v u:V} {vv uu:af} {d e:D},d.depth<=n - 1->A.units+(n - 1)<d9->RelV v vv->RelV u uu->RepD X.K H v d->RepD X.K H u e->eL A s vv uu (eqD d e))
  {A:bo} {v u:V} {vv uu:af} {d e:D} (hd:d.depth<=n) (hu:A.units+n<d9) (rv:RelV v vv) (ru:RelV u uu) (hv:RepD X.K H v d) (he:RepD X.K H u e):jf A s vv uu (eqD d e)/\eL A s vv uu (eqD d e):=by
 have hu0:A.units<d9:=by omega
 have isL:∀ {a xs},StL H a xs->∃its:List af,Vals xs its/\s.heap.IsList a its.toArray:=fun q=>by
  obtain⟨its,r,p,_⟩:=I.list q.sq
  exact⟨its,r,p.isList⟩
 have isT:∀ {a xs},StT H a xs->∃its:List af,Vals xs its/\s.heap.IsTuple a its.toArray:=fun q=>by
  obtain⟨its,r,p,_⟩:=I.tuple q.sq
  exact⟨its,r,p⟩
 cases d with
 | non =>
  unfold RepD at hv;subst hv;cases rv
  cases e with
  | non=>unfold RepD at he;subst he;cases ru;exact⟨.none_none,.same _⟩
  | bl b=>unfold RepD at he;subst he;cases ru;exact⟨.none_bool _,.none_bool _⟩
  | int b=>unfold RepD at he;subst he;obtain⟨t,rfl⟩:=ru;exact⟨.none_int _ _,.none_int _ _⟩
  | str b=>unfold RepD at he;subst he;obtain⟨t,rfl⟩:=ru;exact⟨.none_str _ _,.none_str _ _⟩
  | tup es=>unfold RepD at he;obtain⟨a,vs,rfl,q,_⟩:=he;cases ru;obtain⟨its,_,q⟩:=isT q;exact⟨.none_tuple q hu0,.none_tuple q hu0⟩
  | lst es=>unfold RepD at he;obtain⟨a,vs,rfl,q,_⟩:=he;cases ru;obtain⟨its,_,q⟩:=isL q;exact⟨.none_list q hu0,.none_list q hu0⟩
 | bl x =>
  unfold RepD at hv;subst hv;cases rv
  cases e with
  | non=>unfold RepD at he;subst he;cases ru;exact⟨.bool_none _,.bool_none _⟩
  | bl b=>unfold RepD at he;subst he;cases ru;exact⟨.bool_bool _ _,.bool_bool _ _⟩
  | int b=>unfold RepD at he;subst he;obtain⟨t,rfl⟩:=ru;exact⟨.bool_int _ _ _,.bool_int _ _ _⟩
  | str b=>unfold RepD at he;subst he;obtain⟨t,rfl⟩:=ru;exact⟨.bool_str _ _ _,.bool_str _ _ _⟩
  | tup es=>unfold RepD at he;obtain⟨a,vs,rfl,q,_⟩:=he;cases ru;obtain⟨its,_,q⟩:=isT q;exact⟨.bool_tuple _ q hu0,.bool_tuple _ q hu0⟩
  | lst es=>unfold RepD at he;obtain⟨a,vs,rfl,q,_⟩:=he;cases ru;obtain⟨its,_,q⟩:=isL q;exact⟨.bool_list _ q hu0,.bool_list _ q hu0⟩
 | int x =>
  unfold RepD at hv;subst hv;obtain⟨t0,rfl⟩:=rv
  cases e with
  | non=>unfold RepD at he;subst he;cases ru;exact⟨.int_none _ _,.int_none _ _⟩
  | bl b=>unfold RepD at he;subst he;cases ru;exact⟨.int_bool _ _ _,.int_bool _ _ _⟩
  | int b=>unfold RepD at he;subst he;obtain⟨t,rfl⟩:=ru;exact⟨.int_int _ _ _ _,.int_int _ _ _ _⟩
  | str b=>unfold RepD at he;subst he;obtain⟨t,rfl⟩:=ru;exact⟨.int_str _ _ _ _,.int_str _ _ _ _⟩
  | tup es=>unfold RepD at he;obtain⟨a,vs,rfl,q,_⟩:=he;cases ru;obtain⟨its,_,q⟩:=isT q;exact⟨.int_tuple _ _ q hu0,.int_tuple _ _ q hu0⟩
  | lst es=>unfold RepD at he;obtain⟨a,vs,rfl,q,_⟩:=he;cases ru;obtain⟨its,_,q⟩:=isL q;exact⟨.int_list _ _ q hu0,.int_list _ _ q hu0⟩
 | str x =>
  unfold RepD at hv;subst hv;obtain⟨t0,rfl⟩:=rv
  cases e with
  | non=>unfold RepD at he;subst he;cases ru;exact⟨.str_none _ _,.str_none _ _⟩
  | bl b=>unfold RepD at he;subst he;cases ru;exact⟨.str_bool _ _ _,.str_bool _ _ _⟩
  | int b=>unfold RepD at he;subst he;obtain⟨t,rfl⟩:=ru;exact⟨.str_int _ _ _ _,.str_int _ _ _ _⟩
  | str b=>unfold RepD at he;subst he;obtain⟨t,rfl⟩:=ru;exact⟨.str_str _ _ _ _,.str_str _ _ _ _⟩
  | tup es=>unfold RepD at he;obtain⟨a,vs,rfl,q,_⟩:=he;cases ru;obtain⟨its,_,q⟩:=isT q;exact⟨.str_tuple _ _ q hu0,.str_tuple _ _ q hu0⟩
  | lst es=>unfold RepD at he;obtain⟨a,vs,rfl,q,_⟩:=he;cases ru;obtain⟨its,_,q⟩:=isL q;exact⟨.str_list _ _ q hu0,.str_list _ _ q hu0⟩
 | tup ds =>
  have hv0:=hv
  unfold RepD at hv
  obtain⟨a,vs,rfl,q,hq⟩:=hv
  cases rv
  obtain⟨its,r1,q1⟩:=isT q
  cases e with
  | non=>unfold RepD at he;subst he;cases ru;exact⟨.tuple_none q1 hu0,.tuple_none q1 hu0⟩
  | bl b=>unfold RepD at he;subst he;cases ru;exact⟨.tuple_bool _ q1 hu0,.tuple_bool _ q1 hu0⟩
  | int b=>unfold RepD at he;subst he;obtain⟨t,rfl⟩:=ru;exact⟨.tuple_int _ _ q1 hu0,.tuple_int _ _ q1 hu0⟩
  | str b=>unfold RepD at he;subst he;obtain⟨t,rfl⟩:=ru;exact⟨.tuple_str _ _ q1 hu0,.tuple_str _ _ q1 hu0⟩
  | lst es=>unfold RepD at he;obtain⟨b,ws,rfl,g,_⟩:=he;cases ru;obtain⟨its2,_,g1⟩:=isL g;exact⟨.tuple_list q1 g1 hu0,.tuple_list q1 g1 hu0⟩
  | tup es =>
   have he0:=he
   unfold RepD at he
   obtain⟨b,ws,rfl,g,hg⟩:=he
   cases ru
   obtain⟨its2,r2,g1⟩:=isT g
   have hd':depths ds+1<=n:=by simpa [D.depth] using hd
   have l1:=r1.length
   have l2:=r2.length
   have m1:=hq.length
   have m2:=hg.length
   have rc:jf A s (.ref a) (.ref b) (eqD (.tup ds) (.tup es)):=by
    have:=SeqAt.RcAt.tuples (e:=s0y ds es) q1 g1 hu0 (m0r I (fun{A} {v} {u} {vv} {uu} {d} {e}=>ih (by omega) (A:=A)) (A:=A.in1) (by rw[i0j];omega) (m:=n - 1) (by omega) r1 r2 hq hg)
    rw[aD,aD]at this
    unfold eqD
    by_cases hl:ds.length=es.length
    ·have z:(its.length==its2.length)=true:=by rw[beq_iff_eq];omega
     have mm:min its.length its2.length=ds.length:=by omega
     rw[z,l_,mm,g0x hl]at this
     exact this
    ·have z:(its.length==its2.length)=false:=by rw[beq_eq_false_iff_ne];omega
     rw[z,jw]at this
     rw[f0i hl]
     exact this
   refine⟨rc,?_⟩
   by_cases hab:a=b
   ·subst hab
    rw[m0n I hv0 he0,r0f]
    exact .same _
   ·exact .of_refs hab rc
 | lst ds =>
  have hv0:=hv
  unfold RepD at hv
  obtain⟨a,vs,rfl,q,hq⟩:=hv
  cases rv
  obtain⟨its,r1,q1⟩:=isL q
  cases e with
  | non=>unfold RepD at he;subst he;cases ru;exact⟨.list_none q1 hu0,.list_none q1 hu0⟩
  | bl b=>unfold RepD at he;subst he;cases ru;exact⟨.list_bool _ q1 hu0,.list_bool _ q1 hu0⟩
  | int b=>unfold RepD at he;subst he;obtain⟨t,rfl⟩:=ru;exact⟨.list_int _ _ q1 hu0,.list_int _ _ q1 hu0⟩
  | str b=>unfold RepD at he;subst he;obtain⟨t,rfl⟩:=ru;exact⟨.list_str _ _ q1 hu0,.list_str _ _ q1 hu0⟩
  | tup es=>unfold RepD at he;obtain⟨b,ws,rfl,g,_⟩:=he;cases ru;obtain⟨its2,_,g1⟩:=isT g;exact⟨.list_tuple q1 g1 hu0,.list_tuple q1 g1 hu0⟩
  | lst es =>
   have he0:=he
   unfold RepD at he
   obtain⟨b,ws,rfl,g,hg⟩:=he
   cases ru
   obtain⟨its2,r2,g1⟩:=isL g
   have hd':depths ds+1<=n:=by simpa [D.depth] using hd
   have l1:=r1.length
   have l2:=r2.length
   have m1:=hq.length
   have m2:=hg.length
   have rc:jf A s (.ref a) (.ref b) (eqD (.lst ds) (.lst es)):=by
    unfold eqD
    by_cases hl:ds.length=es.length
    ·have:=SeqAt.RcAt.lists (e:=s0y ds es) q1 g1 (by rw[aD,aD];omega) hu0 (m0r I (fun{A} {v} {u} {vv} {uu} {d} {e}=>ih (by omega) (A:=A)) (A:=A.in1) (by rw[i0j];omega) (m:=n - 1) (by omega) r1 r2 hq hg)
     rw[aD,show its.length=ds.length by omega,g0x hl]at this
     exact this
    ·rw[f0i hl]
     exact SeqAt.RcAt.lists_lengths q1 g1 (by rw[aD,aD,bne_iff_ne];omega) hu0
   refine⟨rc,?_⟩
   by_cases hab:a=b
   ·subst hab
    rw[m0n I hv0 he0,r0f]
    exact .same _
   ·exact .of_refs hab rc
theorem w0t (I:Inv X pins σ H s):∀(n:Nat) {A:bo} {v u:V} {vv uu:af} {d e:D},d.depth<=n->A.units+n<d9->RelV v vv->RelV u uu->RepD X.K H v d->RepD X.K H u e ->
  jf A s vv uu (eqD d e)/\eL A s vv uu (eqD d e):=by
 intro n
 induction n with
 | zero=>exact fun hd hu=>g1n I 0 (fun hlt=>absurd hlt (by omega)) hd hu
 | succ n ih=>exact fun hd hu=>g1n I (n+1) (fun _ A v u vv uu d e h1 h2 h3 h4 h5 h6=>(ih (A:=A) h1 h2 h3 h4 h5 h6).2) hd hu
end
section
variable {X:Cx}(K:aa)
def rEqD (K:aa):R2:=fun x y H Q=>∃d e,RepD K H x d/\RepD K H y e/\d.depth<=60/\Q (.bl (eqD d e)) H
def rNeD (K:aa):R2:=fun x y H Q=>∃d e,RepD K H x d/\RepD K H y e/\d.depth<=60/\Q (.bl (!eqD d e)) H
theorem g0t (hu:X.A.units+64<d9)(hK:X.K=K:=by rfl):OpR X (cA .Eq) (rEqD K):=by
 subst hK
 intro pins s σ H x y v u Q I rx ry h
 obtain⟨d,e,hd,he,hz,q⟩:=h
 exact(w0t I 60 hz (by omega) rx ry hd he).1 X.prog X.w _ _ ⟨.bl _,H,I,rfl,q⟩
theorem l1j {pins:List (Addr×Obj)}{σ:St}{H:Hp}{s:ah}(I:Inv X pins σ H s){A:bo}{v u:V}{vv uu:af}{d e:D}(hd:d.depth<=60)(hu:A.units+61<d9)(rv:RelV v vv)(ru:RelV u uu)(hv:RepD X.K H v d)(he:RepD X.K H u e) :
  SeqAt.RcNeAt A s vv uu (!eqD d e):=by
 have hu0:A.units<d9:=by omega
 have isL:∀ {a xs},StL H a xs->∃its:List af,Vals xs its/\s.heap.IsList a its.toArray:=fun q=>by
  obtain⟨its,r,p,_⟩:=I.list q.sq
  exact⟨its,r,p.isList⟩
 have isT:∀ {a xs},StT H a xs->∃its:List af,Vals xs its/\s.heap.IsTuple a its.toArray:=fun q=>by
  obtain⟨its,r,p,_⟩:=I.tuple q.sq
  exact⟨its,r,p⟩
 cases d with
 | non =>
  unfold RepD at hv;subst hv;cases rv
  cases e with
  | non=>unfold RepD at he;subst he;cases ru;exact .none_none
  | bl b=>unfold RepD at he;subst he;cases ru;exact .none_bool _
  | int b=>unfold RepD at he;subst he;obtain⟨t,rfl⟩:=ru;exact .none_int _ _
  | str b=>unfold RepD at he;subst he;obtain⟨t,rfl⟩:=ru;exact .none_str _ _
  | tup es=>unfold RepD at he;obtain⟨a,vs,rfl,q,_⟩:=he;cases ru;obtain⟨its,_,q⟩:=isT q;exact .none_tuple q hu0
  | lst es=>unfold RepD at he;obtain⟨a,vs,rfl,q,_⟩:=he;cases ru;obtain⟨its,_,q⟩:=isL q;exact .none_list q hu0
 | bl x =>
  unfold RepD at hv;subst hv;cases rv
  cases e with
  | non=>unfold RepD at he;subst he;cases ru;exact .bool_none _
  | bl b=>unfold RepD at he;subst he;cases ru;exact .bool_bool _ _
  | int b=>unfold RepD at he;subst he;obtain⟨t,rfl⟩:=ru;exact .bool_int _ _ _
  | str b=>unfold RepD at he;subst he;obtain⟨t,rfl⟩:=ru;exact .bool_str _ _ _
  | tup es=>unfold RepD at he;obtain⟨a,vs,rfl,q,_⟩:=he;cases ru;obtain⟨its,_,q⟩:=isT q;exact .bool_tuple _ q hu0
  | lst es=>unfold RepD at he;obtain⟨a,vs,rfl,q,_⟩:=he;cases ru;obtain⟨its,_,q⟩:=isL q;exact .bool_list _ q hu0
 | int x =>
  unfold RepD at hv;subst hv;obtain⟨t0,rfl⟩:=rv
  cases e with
  | non=>unfold RepD at he;subst he;cases ru;exact .int_none _ _
  | bl b=>unfold RepD at he;subst he;cases ru;exact .int_bool _ _ _
  | int b=>unfold RepD at he;subst he;obtain⟨t,rfl⟩:=ru;exact .int_int _ _ _ _
  | str b=>unfold RepD at he;subst he;obtain⟨t,rfl⟩:=ru;exact .int_str _ _ _ _
  | tup es=>unfold RepD at he;obtain⟨a,vs,rfl,q,_⟩:=he;cases ru;obtain⟨its,_,q⟩:=isT q;exact .int_tuple _ _ q hu0
  | lst es=>unfold RepD at he;obtain⟨a,vs,rfl,q,_⟩:=he;cases ru;obtain⟨its,_,q⟩:=isL q;exact .int_list _ _ q hu0
 | str x =>
  unfold RepD at hv;subst hv;obtain⟨t0,rfl⟩:=rv
  cases e with
  | non=>unfold RepD at he;subst he;cases ru;exact .str_none _ _
  | bl b=>unfold RepD at he;subst he;cases ru;exact .str_bool _ _ _
  | int b=>unfold RepD at he;subst he;obtain⟨t,rfl⟩:=ru;exact .str_int _ _ _ _
  | str b=>unfold RepD at he;subst he;obtain⟨t,rfl⟩:=ru;exact .str_str _ _ _ _
  | tup es=>unfold RepD at he;obtain⟨a,vs,rfl,q,_⟩:=he;cases ru;obtain⟨its,_,q⟩:=isT q;exact .str_tuple _ _ q hu0
  | lst es=>unfold RepD at he;obtain⟨a,vs,rfl,q,_⟩:=he;cases ru;obtain⟨its,_,q⟩:=isL q;exact .str_list _ _ q hu0
 | tup ds =>
  unfold RepD at hv
  obtain⟨a,vs,rfl,q,hq⟩:=hv
  cases rv
  obtain⟨its,r1,q1⟩:=isT q
  cases e with
  | non=>unfold RepD at he;subst he;cases ru;exact .tuple_none q1 hu0
  | bl b=>unfold RepD at he;subst he;cases ru;exact .tuple_bool _ q1 hu0
  | int b=>unfold RepD at he;subst he;obtain⟨t,rfl⟩:=ru;exact .tuple_int _ _ q1 hu0
  | str b=>unfold RepD at he;subst he;obtain⟨t,rfl⟩:=ru;exact .tuple_str _ _ q1 hu0
  | lst es=>unfold RepD at he;obtain⟨b,ws,rfl,g,_⟩:=he;cases ru;obtain⟨its2,_,g1⟩:=isL g;exact .tuple_list q1 g1 hu0
  | tup es =>
   unfold RepD at he
   obtain⟨b,ws,rfl,g,hg⟩:=he
   cases ru
   obtain⟨its2,r2,g1⟩:=isT g
   have hd':depths ds+1<=60:=by simpa [D.depth] using hd
   have l1:=r1.length
   have l2:=r2.length
   have m1:=hq.length
   have m2:=hg.length
   have:=mU (e:=s0y ds es) q1 g1 hu0 (m0r I (fun{A} {v} {u} {vv} {uu} {d} {e} a1 a2 a3 a4 a5 a6=>(w0t I 60 a1 a2 a3 a4 a5 a6).2) (A:=A.in1) (by rw[i0j];omega) (m:=60) (by omega) r1 r2 hq hg)
   rw[aD,aD]at this
   unfold eqD
   by_cases hl:ds.length=es.length
   ·have z:(its.length==its2.length)=true:=by rw[beq_iff_eq];omega
    have mm:min its.length its2.length=ds.length:=by omega
    rw[z,l_,mm,g0x hl]at this
    exact this
   ·have z:(its.length==its2.length)=false:=by rw[beq_eq_false_iff_ne];omega
    rw[z,jw]at this
    rw[f0i hl]
    exact this
 | lst ds =>
  unfold RepD at hv
  obtain⟨a,vs,rfl,q,hq⟩:=hv
  cases rv
  obtain⟨its,r1,q1⟩:=isL q
  cases e with
  | non=>unfold RepD at he;subst he;cases ru;exact .list_none q1 hu0
  | bl b=>unfold RepD at he;subst he;cases ru;exact .list_bool _ q1 hu0
  | int b=>unfold RepD at he;subst he;obtain⟨t,rfl⟩:=ru;exact .list_int _ _ q1 hu0
  | str b=>unfold RepD at he;subst he;obtain⟨t,rfl⟩:=ru;exact .list_str _ _ q1 hu0
  | tup es=>unfold RepD at he;obtain⟨b,ws,rfl,g,_⟩:=he;cases ru;obtain⟨its2,_,g1⟩:=isT g;exact .list_tuple q1 g1 hu0
  | lst es =>
   unfold RepD at he
   obtain⟨b,ws,rfl,g,hg⟩:=he
   cases ru
   obtain⟨its2,r2,g1⟩:=isL g
   have hd':depths ds+1<=60:=by simpa [D.depth] using hd
   have l1:=r1.length
   have l2:=r2.length
   have m1:=hq.length
   have m2:=hg.length
   unfold eqD
   by_cases hl:ds.length=es.length
   ·have:=mW (e:=s0y ds es) q1 g1 (by rw[aD,aD];omega) hu0 (m0r I (fun{A} {v} {u} {vv} {uu} {d} {e} a1 a2 a3 a4 a5 a6=>(w0t I 60 a1 a2 a3 a4 a5 a6).2) (A:=A.in1) (by rw[i0j];omega) (m:=60) (by omega) r1 r2 hq hg)
    rw[aD,show its.length=ds.length by omega,g0x hl]at this
    exact this
   ·rw[f0i hl]
    exact mV q1 g1 (by rw[aD,aD,bne_iff_ne];omega) hu0
theorem l1x (hu:X.A.units+64<d9)(hK:X.K=K:=by rfl):OpR X (cA .NotEq) (rNeD K):=by
 subst hK
 intro pins s σ H x y v u Q I rx ry h
 obtain⟨d,e,hd,he,hz,q⟩:=h
 exact l1j I hz (by omega) rx ry hd he X.prog X.w _ _ ⟨.bl _,H,I,rfl,q⟩
end
abbrev v0a (ks:List Nat):List V:=ks.map fun j=>V.int (j:Nat)
abbrev a0e (ks:List Nat):List D:=ks.map fun j=>D.int (j:Nat)
theorem i1b {K:aa}{H:Hp}:∀ {vs:List V} {ks:List Nat},RepDs K H vs (a0e ks)↔vs=v0a ks:=by
 intro vs ks
 have:=@l0h K H vs (ks.map fun j=>((j:Nat):Int))
 rw[bI,bI]at this
 exact this
section
variable {X:Cx}
theorem v0v:l0c X (.type "range") (fun xs H Q=>∃j:Int,xs=[.int j]/\∀p,H p=none->Q (.ref p) (upd H p (.rng 0 j))):=by
 intro pins s σ H xs us Q I r h
 obtain⟨j,rfl,q⟩:=h
 obtain⟨u,rfl,t,rfl⟩:=o0n r
 refine call_range_1 ?_
 exact⟨.ref s.heap.objs.size,upd H s.heap.objs.size (.rng 0 j),I.laid (fun b u e=>aq _ e) (aE _) ⟨_,_,_,aP _ rfl⟩,rfl,q _ (I.hok.fresh (aE _))⟩
theorem z0i (hc:X.calm=true):l0c X (.type "list") (fun xs H Q=>∃(p:Addr) (n:Nat),xs=[.ref p]/\H p=some (.rng 0 (n:Nat))/\n<=1000000/\∀l,H l=none->Q (.ref l) (upd H l (.lst (v0a (aQ n))))):=by
 intro pins s σ H xs us Q I r h
 obtain⟨p,n,rfl,hp,hn,q⟩:=h
 obtain⟨u,rfl,ru⟩:=o0n r
 cases ru
 obtain⟨t,u,v,e⟩:=(show d0y X.prog X.w H s.heap p (.rng 0 (n:Nat))from I.hok p _ hp)
 have hsz:iF 0 (n:Int) 1=(n:Nat):=by rw[rangeSize_one];split <;> omega
 refine call_list_range (I.ok.hd hc) (show IsRange s.heap p 0 n 1 t u v from e) (small_one (by omega) (by omega) (by omega) (by omega)) hsz (aW hn (by decide)) fun h' tk acc c hk hl hi=>?_
 have hv:Vals (v0a (aQ n)) acc.toList:=by
  obtain⟨h1,h2⟩:=hi
  have gen:∀(m:Nat) (us:List af),us.length=m->(∀(i:Nat) (v:af),us[i]? = some v->∃t,v=Value.int (0+(i:Int)*1) t)->Vals (v0a (aQ m)) us:=by
   intro m
   induction m with
   | zero=>intro us e _;cases us with | nil=>exact .nil | cons _ _=>cases e
   | succ m ih =>
    intro us e hx
    have e1:us=us.take m++[us[m]]:=by
     rw[List.take_append_getElem]
     exact(bS (by omega)).symm
    rw[e1,cY]
    unfold v0a
    rw[bp]
    refine Vals.append (ih _ (by rw[bi];omega) fun i v hv=>?_) ?_
    ·rw[List.getElem?_take]at hv
     split at hv
     ·exact hx i v hv
     ·cases hv
    ·obtain⟨t,ht⟩:=hx m us[m] (ao (by omega))
     rw[ht]
     exact .cons ⟨t,by simp⟩ .nil
  refine gen n acc.toList (by simpa using h1) fun i v hv=>?_
  have hv':acc[i]? = some v:=by simpa using hv
  exact h2 i v hv'
 refine⟨.ref s.heap.objs.size,upd H s.heap.objs.size (.lst (v0a (aQ n))),I.laid (t':=tk) (fun b o e=>hk b o e) (aE _) ?_,rfl,q _ (I.hok.fresh (aE _))⟩
 refine⟨?_,acc.toList,c,hv,by simpa using hl⟩
 rw[aw,cK]
 exact aW hn (by decide)
end
section
variable {X:Cx}
theorem s0f:OpR X (cA .IsNot) (fun x y H Q=>∃a b,x = .bl a/\y = .bl b/\Q (.bl (!(a==b))) H):=by
 intro pins s σ H x y v u Q I rx ry h
 obtain⟨a,b,rfl,rfl,q⟩:=h
 cases rx
 cases ry
 refine wpAny_isNot_plain rfl (n1d I q ?_)
 cases a <;> cases b <;> rfl
theorem e1v {x:Str}{v:V}{pos:Pos}(h:∃u,X.mg x=some u/\RelV v u)(hg:Gl X x)(hd:(x==("__debug__" : Str))=false:=by decide):PE X (.Name x pos) (tC v):=by
 obtain⟨u,hm,r⟩:=h
 exact i1i hg hm r hd
end
structure Net where
 m:Nat
 js:List (Nat×Nat)
 os:List Nat
abbrev d0n (p:Nat×Nat):D:=.tup [.int (p.1:Nat),.int (p.2:Nat)]
def netD (N:Net):D:=.tup [.int (N.m:Nat),.tup (N.js.map d0n),.tup (a0e N.os)]
def b0r (rows:List Nat)(p:Nat×Nat):List Nat:=rows++[rows.getD p.1 0 ^^^ rows.getD p.2 0]
def a0y (m:Nat):List Nat:=(aQ m).map fun k=>1 <<< k
def d0i (N:Net):List Nat:=N.js.foldl b0r (a0y N.m)
def okIx:Nat->List (Nat×Nat)->Prop
 | _,[]=>True
 | n,p::r=>p.1<p.2/\p.2<n/\okIx (n+1) r
def okJs:List Nat->List (Nat×Nat)->Prop
 | _,[]=>True
 | rows,p::r=>p.1<p.2/\p.2<rows.length/\rows.getD p.1 0≠rows.getD p.2 0/\okJs (b0r rows p) r
structure g1f (N:Net):Prop where
 m1:1<=N.m
 m12:N.m<=12
 jl:N.js.length<=132
 js:okJs (a0y N.m) N.js
 o1:1<=N.os.length
 o24:N.os.length<=24
 os:∀o∈N.os,o<N.m+N.js.length
theorem m0l (rows:List Nat)(p:Nat×Nat):(b0r rows p).length=rows.length+1:=by simp[b0r]
theorem b1q:∀ {js:List (Nat×Nat)} {rows:List Nat},okJs rows js->okIx rows.length js
 | [],_,_=>trivial
 | p::r,rows,h=>by
  obtain⟨h1,h2,_,h4⟩:=h
  have:=b1q h4
  rw[m0l]at this
  exact⟨h1,h2,this⟩
theorem m0p:∀ {js:List (Nat×Nat)} {n i:Nat} {p:Nat×Nat},okIx n js->js[i]? = some p->p.1<p.2/\p.2<n+i
 | [],_,_,_,_,h=>by simp at h
 | q::r,n,0,p,h,e=>by
  simp at e;subst e
  exact⟨h.1,by have:=h.2.1;omega⟩
 | q::r,n,i+1,p,h,e=>by
  have:=m0p (n:=n+1) (i:=i) (p:=p) h.2.2 (by simpa using e)
  exact⟨this.1,by omega⟩
theorem x0d:∀ {js:List (Nat×Nat)} {rows:List Nat} {i:Nat} {p:Nat×Nat},okJs rows js->js[i]? = some p ->
  ((js.take i).foldl b0r rows).getD p.1 0≠((js.take i).foldl b0r rows).getD p.2 0
 | [],_,_,_,_,h=>by simp at h
 | q::r,rows,0,p,h,e=>by
  simp at e;subst e
  exact h.2.2.1
 | q::r,rows,i+1,p,h,e=>x0d (js:=r) (rows:=b0r rows q) (i:=i) (p:=p) h.2.2.2 (by simpa using e)
theorem q0z (js:List (Nat×Nat)):∀rows:List Nat,(js.foldl b0r rows).length=rows.length+js.length:=by
 induction js with
 | nil=>intro rows;rfl
 | cons p r ih=>intro rows;rw[gm,ih,m0l,aS];omega
theorem s0x {js:List (Nat×Nat)}{i:Nat}{p:Nat×Nat}(h:js[i]? = some p)(rows:List Nat):(js.take (i+1)).foldl b0r rows=b0r ((js.take i).foldl b0r rows) p:=by
 rw[b8,h,d5,iD]
 rfl
theorem i0f (m:Nat):(a0y m).length=m:=by simp[a0y]
theorem q0k (N:Net):(d0i N).length=N.m+N.js.length:=by unfold d0i;rw[q0z,i0f]
def tyD:D->String
 | .non => "NoneType" | .bl _ => "bool" | .int _ => "int" | .str _ => "str" | .tup _ => "tuple" | .lst _ => "list"
theorem d1i (K:aa){X:Cx}(hK:X.K=K:=by rfl):l0c X (.builtin "isinstance") (fun xs H Q=>∃x d T b,xs=[x,.ty T]/\RepD K H x d/\isaT (tyD d) T=some b/\Q (.bl b) H):=by
 subst hK
 intro pins s σ H xs us Q I r h
 obtain⟨x,d,T,b,rfl,hd,e,q⟩:=h
 cases r with
 | cons r1 rr =>
  cases rr with
  | cons r2 rr =>
   cases rr
   cases (show _=Value.type T from r2)
   have e':∀ {t:String},tyD d=t->iU X.K (.type t) (.type T)=some b:=fun{t} z=>by rw[<- z];exact f1l.trans e
   have fin:∀tk,EP X pins σ Q (.bool b) {s with toks:=tk}:=fun tk=>⟨.bl b,H,I.tok tk,rfl,q⟩
   cases d with
   | non=>unfold RepD at hd;subst hd;exact k0t I r1 .non (e' rfl) fin
   | bl y=>unfold RepD at hd;subst hd;exact k0t I r1 (.bl y) (e' rfl) fin
   | int y=>unfold RepD at hd;subst hd;exact k0t I r1 (.int y) (e' rfl) fin
   | str y=>unfold RepD at hd;subst hd;exact k0t I r1 (.str y) (e' rfl) fin
   | tup ds =>
    unfold RepD at hd
    obtain⟨a,vs,rfl,hq,_⟩:=hd
    cases r1
    obtain⟨its,_,⟨o,h1,h2,_⟩,_⟩:=I.tuple hq.sq
    exact bV j4 I.kIn ⟨o,h1,h2⟩ (e' rfl) (fun z=>nomatch z) fin
   | lst ds =>
    unfold RepD at hd
    obtain⟨a,vs,rfl,hq,_⟩:=hd
    cases r1
    obtain⟨its,_,⟨o,n,h1,h2,_⟩,_⟩:=I.list (StL.sq hq)
    exact bV gY I.kIn ⟨o,h1,h2⟩ (e' rfl) (fun z=>nomatch z) fin
inductive Sv where
 | un | vl (d:D) | ow (ds:List D) | tp (n:Nat) | dk (kvs:List (Key×D)) | dt (kvs:List (List Key×D)) | ex (C:Addr) (fs:Option (List (Str×D))) | sc (ns:List Int) | px (d:D) (C:Addr) (fs:Option (List (Str×D))) | xl (es:List (Addr×Option (List (Str×D)))) | ob (C:Addr) (fs:List (Str×D)) | ll (xss:List (List D)) | ds (C:Addr) (n w:List (Key×D))
def Sv.own:Sv->Bool
 | .ow _=>true
 | .tp _=>true
 | .dk _=>true
 | .dt _=>true
 | .ll _=>true
 | .ds _ _ _=>true
 | _=>false
abbrev En:=List Sv
inductive R where
 | d (d:D) | o (i:Nat) | n (s:Sv) | t (n:String) | x (s:Sv)
abbrev R.f (ds:List D):R:=.n (.ow ds)
def gt:En->Nat->Sv
 | [],_=>.un
 | s::_,0=>s
 | _::r,n+1=>gt r n
def pt:En->Nat->Sv->En
 | [],_,_=>[]
 | _::r,0,s=>s::r
 | x::r,n+1,s=>x::pt r n s
theorem j0j:∀(ρ:En) (i:Nat) (s:Sv),(pt ρ i s).length=ρ.length
 | [],_,_=>rfl
 | _::_,0,_=>rfl
 | x::r,n+1,s=>by simp[pt,j0j r n s]
theorem d0g:∀(ρ:En) (i j:Nat) (s:Sv),i≠j->gt (pt ρ i s) j=gt ρ j
 | [],_,_,_,_=>rfl
 | _::_,0,0,_,h=>absurd rfl h
 | _::_,0,j+1,_,_=>rfl
 | x::r,i+1,0,s,_=>rfl
 | x::r,i+1,j+1,s,h=>d0g r i j s (by omega)
theorem q0u:∀(ρ:En) (i:Nat) (s:Sv),i<ρ.length->gt (pt ρ i s) i=s
 | [],_,_,h=>by simp at h
 | _::_,0,_,_=>rfl
 | x::r,i+1,s,h=>q0u r i s (by simpa using h)
theorem p0n:∀(ρ:En) (i:Nat),ρ.length<=i->gt ρ i = .un
 | [],_,_=>rfl
 | x::r,0,h=>by simp at h
 | x::r,i+1,h=>p0n r i (by simpa using h)
theorem n0m {ρ:En}{i:Nat}(h:(gt ρ i).own=true):i<ρ.length:=by
 rcases bf i ρ.length with q | q
 ·exact q
 ·rw[p0n ρ i q]at h;cases h
def c0p (σ:St)(ρ:En)(a:Addr):Prop:=∃i,(gt ρ i).own=true/\σ[i]? = some (some (.ref a))
open Classical in
noncomputable def hid (H:Hp)(S:Addr->Prop):Hp:=fun a=>if S a then none else H a
theorem j0d {H:Hp}{S:Addr->Prop}{a:Addr}{o:HO}:hid H S a=some o↔¬S a/\H a=some o:=by
 unfold hid
 split
 ·rename_i h;simp[h]
 ·rename_i h;simp[h]
theorem i0k {H:Hp}{S:Addr->Prop}{a:Addr}{o:HO}(h:¬S a)(e:H a=some o):hid H S a=some o:=j0d.mpr ⟨h,e⟩
theorem b0v {H H':Hp}{S S':Addr->Prop}(h:∀a o,H a=some o->¬S a->H' a=some o/\¬S' a):Same (hid H S) (hid H' S'):=fun a o e=>by
 obtain⟨n,e⟩:=j0d.mp e
 obtain⟨e',n'⟩:=h a o e n
 exact i0k n' e'
theorem d0b {H:Hp}{S:Addr->Prop}:Same (hid H S) H:=fun a o e=>(j0d.mp e).2
structure Fr where
 H0:Hp
 Z:Addr->Prop
 M:Addr->Prop
 I:Nat->Addr->Prop
 P:Nat->Addr->Prop
def Fr.pin (F:Fr)(i:Nat)(a:Addr):Prop:=F.I i a∨F.P i a
def hs (F:Fr)(σ:St)(ρ:En):Addr->Prop:=fun a=>F.Z a∨c0p σ ρ a
def exP (e C:Addr)(od:Option Addr):Heap->Prop:=fun h=>∃oe vs,h.get? e=some oe/\oe.cls = .ref C/\oe.dict=od/\oe.data = .fields vs
def exD (K:aa)(Hh:Hp):Option (List (Str×D))->Option Addr->Prop
 | none,none=>True
 | some fs,some dx=>∃ks,Hh dx=some (.xd ks)/\ks.map a8=fs.map a8/\RepDs K Hh (ks.map bt) (fs.map bt)
 | _,_=>False
theorem exD.same {K:aa}{Hh Hh':Hp}:∀ {fs:Option (List (Str×D))} {od:Option Addr},exD K Hh fs od->Same Hh Hh'->exD K Hh' fs od
 | none,none,h,_=>h
 | some fs,some dx,⟨ks,h1,h2,h3⟩,g=>⟨ks,g _ _ h1,h2,h3.same g⟩
 | none,some _,h,_=>h.elim
 | some _,none,h,_=>h.elim
def Exs (K:aa)(Hh:Hp):List V->List (Addr×Option (List (Str×D)))->Prop
 | [],[]=>True
 | x::vs,c::es=>(∃e od,x = .ref e/\Hh e=some (.ext (exP e c.1 od))/\exD K Hh c.2 od)/\Exs K Hh vs es
 | _,_=>False
theorem Exs.same {K:aa}{Hh Hh':Hp}:∀ {vs:List V} {es:List (Addr×Option (List (Str×D)))},Exs K Hh vs es->Same Hh Hh'->Exs K Hh' vs es
 | [],[],h,_=>h
 | x::vs,c::es,⟨⟨e,od,h1,h2,h3⟩,h4⟩,g=>⟨⟨e,od,h1,g _ _ h2,h3.same g⟩,Exs.same h4 g⟩
 | [],_::_,h,_=>h.elim
 | _::_,[],h,_=>h.elim
def LlP (a:Addr)(bs:List Addr)(vss:List (List V)):aO->be->Heap->Prop:=fun _ _ h=>bs.length<=aN/\bs.Nodup/\(∃n,h.get? a=some {cls:=.type "list",data:=.seq (bs.map Value.ref).toArray n})/\vss.length=bs.length /\
 ∀(k:Nat) (b:Addr) (vs:List V),bs[k]? = some b->vss[k]? = some vs->vs.length<=aN/\∃(its:List af) (n:Nat),Vals vs its/\h.get? b=some {cls:=.type "list",data:=.seq its.toArray n}
def g1e (K:aa)(H:Hp)(vss:List (List V))(dss:List (List D)):Prop:=vss.length=dss.length/\∀(k:Nat) (vs:List V) (ds:List D),vss[k]? = some vs->dss[k]? = some ds->RepDs K H vs ds
theorem g1e.same {K:aa}{H H':Hp}{vss:List (List V)}{dss:List (List D)}(h:g1e K H vss dss)(g:Same H H'):g1e K H' vss dss:=⟨h.1,fun k vs ds a b=>(h.2 k vs ds a b).same g⟩
def DsP (x C dx d1 d2:Addr)(f1 f2:Str)(k1 k2:List (Key×V)):aO->be->Heap->Prop:=fun P w h=>dx≠x/\d1≠x/\d2≠x/\dx≠d1/\dx≠d2/\d1≠d2/\d0y P w (fun b=>if b=dx then some (.own x)else none) h x (.ins C dx [(f1,.ref d1),(f2,.ref d2)]) /\
 d0y P w (fun _=>none) h d1 (.dK k1)/\d0y P w (fun _=>none) h d2 (.dK k2)
def SvOk (K:aa)(Hh H:Hp)(v:Option (Option V)):Sv->Prop
 | .xl es=>∃l vs,v=some (some (.ref l))/\Hh l=some (.lst vs)/\Exs K Hh vs es
 | .ob C fs=>∃a dx ks,v=some (some (.ref a))/\Hh a=some (.ins C dx ks)/\ks.map a8=fs.map a8/\RepDs K Hh (ks.map bt) (fs.map bt)
 | .ll xss=>∃l bs vss,v=some (some (.ref l))/\H l=some (.big bs (LlP l bs vss))/\g1e K Hh vss xss
 | .ds C n w=>∃x dx d1 d2 k1 k2,v=some (some (.ref x))/\H x=some (.big [dx,d1,d2] (DsP x C dx d1 d2 "nets" "wishes" k1 k2))/\k1.map a8=n.map a8/\RepDs K Hh (k1.map bt) (n.map bt)/\k2.map a8=w.map a8/\RepDs K Hh (k2.map bt) (w.map bt)
 | .px d C fs=>∃p x e od,v=some (some (.ref p))/\Hh p=some (.tup [x,.ref e])/\RepD K Hh x d/\Hh e=some (.ext (exP e C od))/\exD K Hh fs od
 | .sc ns=>∃c,v=some (some (.ref c))/\SqL K Hh c (List.map V.int ns)
 | .ex C fs=>∃e od,v=some (some (.ref e))/\Hh e=some (.ext (exP e C od))/\exD K Hh fs od
 | .un=>True
 | .vl d=>∃x,v=some (some x)/\RepD K Hh x d
 | .ow ds=>∃l vs,v=some (some (.ref l))/\H l=some (.lst vs)/\RepDs K Hh vs ds
 | .tp n=>∃t c ns sp lf,v=some (some (.ref t))/\H t=some (.dK (e0c c sp lf))/\SqL K Hh c (List.map V.int ns)/\0<=sp/\sp<=n/\0<=lf
 | .dk kvs=>∃t ks,v=some (some (.ref t))/\H t=some (.dK ks)/\ks.map a8=kvs.map a8/\RepDs K Hh (ks.map bt) (kvs.map bt)
 | .dt kvs=>∃t ks,v=some (some (.ref t))/\H t=some (.dT ks)/\ks.map a8=kvs.map a8/\RepDs K Hh (ks.map bt) (kvs.map bt)
theorem SvOk.keep {K:aa}{Hh Hh' H H':Hp}{v:Option (Option V)}{s:Sv}(h:SvOk K Hh H v s)(g:Same Hh Hh')(k:∀l o,s.own=true->v=some (some (.ref l))->H l=some o->H' l=some o):SvOk K Hh' H' v s:=by
 cases s with
 | un=>trivial
 | vl d=>obtain⟨x,e,r⟩:=h;exact⟨x,e,r.same g⟩
 | ow ds=>obtain⟨l,vs,e,a,r⟩:=h;exact⟨l,vs,e,k _ _ rfl e a,r.same g⟩
 | tp n=>obtain⟨t,c,ns,sp,lf,e,a,b,r⟩:=h;exact⟨t,c,ns,sp,lf,e,k _ _ rfl e a,g.seq b,r⟩
 | dk kvs=>obtain⟨t,ks,e,a,b,r⟩:=h;exact⟨t,ks,e,k _ _ rfl e a,b,r.same g⟩
 | dt kvs=>obtain⟨t,ks,e,a,b,r⟩:=h;exact⟨t,ks,e,k _ _ rfl e a,b,r.same g⟩
 | ex C fs=>obtain⟨t,od,e,a,b⟩:=h;exact⟨t,od,e,g _ _ a,b.same g⟩
 | sc ns=>obtain⟨c,e,a⟩:=h;exact⟨c,e,g.seq a⟩
 | px d C fs=>obtain⟨p,x,e,od,a,b,c,d',e'⟩:=h;exact⟨p,x,e,od,a,g _ _ b,c.same g,g _ _ d',e'.same g⟩
 | xl es=>obtain⟨p,vs,a,b,c⟩:=h;exact⟨p,vs,a,g _ _ b,c.same g⟩
 | ob C fs=>obtain⟨p,dx,ks,a,b,c,d⟩:=h;exact⟨p,dx,ks,a,g _ _ b,c,d.same g⟩
 | ll xss=>obtain⟨l,bs,vss,e,a,r⟩:=h;exact⟨l,bs,vss,e,k _ _ rfl e a,r.same g⟩
 | ds C n w=>obtain⟨x,dx,d1,d2,k1,k2,e,a,r1,r2,r3,r4⟩:=h;exact⟨x,dx,d1,d2,k1,k2,e,k _ _ rfl e a,r1,r2.same g,r3,r4.same g⟩
theorem SvOk.alive {K:aa}{Hh H:Hp}{v:Option (Option V)}{s:Sv}(h:SvOk K Hh H v s)(ho:s.own=true):∃l o,v=some (some (.ref l))/\H l=some o:=by
 cases s with
 | un=>cases ho
 | vl d=>cases ho
 | ow ds=>obtain⟨l,vs,e,a,r⟩:=h;exact⟨l,_,e,a⟩
 | tp n=>obtain⟨t,c,ns,sp,lf,e,a,b,r⟩:=h;exact⟨t,_,e,a⟩
 | dk kvs=>obtain⟨t,ks,e,a,b,r⟩:=h;exact⟨t,_,e,a⟩
 | dt kvs=>obtain⟨t,ks,e,a,b,r⟩:=h;exact⟨t,_,e,a⟩
 | ex C fs=>cases ho
 | sc ns=>cases ho
 | px d C fs=>cases ho
 | xl es=>cases ho
 | ob C fs=>cases ho
 | ll xss=>obtain⟨l,bs,vss,e,a,r⟩:=h;exact⟨l,_,e,a⟩
 | ds C n w=>obtain⟨x,dx,d1,d2,k1,k2,e,a,r⟩:=h;exact⟨x,_,e,a⟩
def Nt (H:Hp)(a:Addr):Prop:=H a≠none/\∀xs,H a≠some (.tup xs)
theorem g1u {H:Hp}{a l:Addr}{o:HO}(al:a≠l)(h:Nt H a):Nt (upd H l o) a:=by unfold Nt;rw[a0x al];exact h
structure Rel (K:aa)(F:Fr)(σ:St)(ρ:En)(H:Hp):Prop where
 len:σ.length=ρ.length
 fr:∀a o,F.H0 a=some o->¬F.M a->H a=some o
 zl:∀a,F.Z a->Nt H a
 zo:∀a,c0p σ ρ a->¬F.Z a
 ow:∀i a,(gt ρ i).own=true->σ[i]? = some (some (.ref a))->(F.I i a/\F.M a)∨F.H0 a=none
 mi:∀i a,F.pin i a->σ[i]? = some (some (.ref a))
 ml:∀a,F.M a->F.H0 a≠none
 ma:∀a,F.M a->H a≠none
 nd:∀i j a,(gt ρ i).own=true->(gt ρ j).own=true->σ[i]? = some (some (.ref a))->σ[j]? = some (some (.ref a))->i=j
 sl:∀i,SvOk K (hid H (hs F σ ρ)) H σ[i]? (gt ρ i)
structure Kp (σ:St)(ρ ρ':En)(H H':Hp):Prop where
 st:∀a o,H a=some o->¬c0p σ ρ a->H' a=some o
 sb:∀i,(gt ρ' i).own=true->(gt ρ i).own=true
theorem Kp.so {σ:St}{ρ ρ':En}{H H':Hp}(k:Kp σ ρ ρ' H H'){a:Addr}(h:c0p σ ρ' a):c0p σ ρ a:=by
 obtain⟨i,hi,e⟩:=h
 exact⟨i,k.sb i hi,e⟩
theorem Kp.refl {σ:St}{ρ:En}{H:Hp}:Kp σ ρ ρ H H:=⟨fun _ _ e _=>e,fun _ h=>h⟩
theorem Kp.trans {σ:St}{ρ ρ1 ρ2:En}{H H1 H2:Hp}(a:Kp σ ρ ρ1 H H1)(b:Kp σ ρ1 ρ2 H1 H2):Kp σ ρ ρ2 H H2 :=
 ⟨fun x o e n=>b.st x o (a.st x o e n) fun z=>n (a.so z),fun x z=>a.sb x (b.sb x z)⟩
theorem Kp.fresh {σ:St}{ρ:En}{H:Hp}{l:Addr}{o:HO}(h:H l=none):Kp σ ρ ρ H (upd H l o) :=
 ⟨fun a u e _=>by rw[a0x (b0o e h)];exact e,fun _ h=>h⟩
section
variable {K:aa}{F:Fr}{σ:St}{ρ ρ':En}{H H':Hp}
theorem h0g (r:Rel K F σ ρ H){a:Addr}(h:c0p σ ρ a):H a≠none:=by
 obtain⟨i,hi,e⟩:=h
 obtain⟨l,o,e',h'⟩:=(r.sl i).alive hi
 rw[e]at e';injection e' with e';injection e' with e';injection e' with e'
 rw[e',h'];exact fun z=>nomatch z
theorem x0k (r:Rel K F σ ρ H){a:Addr}(h:hs F σ ρ a):H a≠none:=by
 rcases h with h | h
 ·exact(r.zl a h).1
 ·exact h0g r h
theorem SvOk.nt {K:aa}{Hh H:Hp}{v:Option (Option V)}{s:Sv}(h:SvOk K Hh H v s)(ho:s.own=true):∃l,v=some (some (.ref l))/\Nt H l:=by
 cases s with
 | un=>cases ho
 | vl d=>cases ho
 | ow ds=>obtain⟨l,vs,e,a,r⟩:=h;exact⟨l,e,by rw[a];exact(fun z=>nomatch z),by rw[a];exact fun _ z=>nomatch z⟩
 | tp n=>obtain⟨l,c,ns,sp,lf,e,a,b,r⟩:=h;exact⟨l,e,by rw[a];exact(fun z=>nomatch z),by rw[a];exact fun _ z=>nomatch z⟩
 | dk kvs=>obtain⟨l,ks,e,a,b,r⟩:=h;exact⟨l,e,by rw[a];exact(fun z=>nomatch z),by rw[a];exact fun _ z=>nomatch z⟩
 | dt kvs=>obtain⟨l,ks,e,a,b,r⟩:=h;exact⟨l,e,by rw[a];exact(fun z=>nomatch z),by rw[a];exact fun _ z=>nomatch z⟩
 | ex C fs=>cases ho
 | sc ns=>cases ho
 | px d C fs=>cases ho
 | xl es=>cases ho
 | ob C fs=>cases ho
 | ll xss=>obtain⟨l,bs,vss,e,a,r⟩:=h;exact⟨l,e,by rw[a];exact(fun z=>nomatch z),by rw[a];exact fun _ z=>nomatch z⟩
 | ds C n w=>obtain⟨l,dx,d1,d2,k1,k2,e,a,r⟩:=h;exact⟨l,e,by rw[a];exact(fun z=>nomatch z),by rw[a];exact fun _ z=>nomatch z⟩
theorem w0y (r:Rel K F σ ρ H){a:Addr}(h:c0p σ ρ a):Nt H a:=by
 obtain⟨i,hi,e⟩:=h
 obtain⟨l,e',h'⟩:=(r.sl i).nt hi
 rw[e]at e';injection e' with e';injection e' with e';injection e' with e'
 rw[e'];exact h'
theorem z0a (r:Rel K F σ ρ H){a:Addr}(h:hs F σ ρ a):Nt H a:=by
 rcases h with h | h
 ·exact r.zl a h
 ·exact w0y r h
theorem k0v (r:Rel K F σ ρ H){l:Addr}(h:H l=none):¬hs F σ ρ l:=fun z=>x0k r z h
theorem f1t (r:Rel K F σ ρ H){l:Addr}(h:H l=none):F.H0 l=none:=by
 cases h0:F.H0 l with
 | none=>rfl
 | some o =>
  by_cases q:F.M l
  ·exact absurd h (r.ma l q)
  ·have:=r.fr l o h0 q
   rw[h]at this;cases this
theorem Kp.vis (k:Kp σ ρ ρ' H H'):Same (hid H (hs F σ ρ)) (hid H' (hs F σ ρ')):=b0v fun a o e n =>
 ⟨k.st a o e fun z=>n (.inr z),fun z=>by
  rcases z with z | z
  ·exact n (.inl z)
  ·exact n (.inr (k.so z))⟩
theorem z0b {a:Addr}(g:Same H H')(h:H a≠none):H' a≠none:=fun e=>by
 cases h':H a with
 | none=>exact h h'
 | some o=>rw[g a o h']at e;cases e
theorem j1i {a:Addr}(g:Same H H')(h:Nt H a):Nt H' a:=by
 cases h':H a with
 | none=>exact(h.1 h').elim
 | some o =>
  have e:=g a o h'
  unfold Nt
  rw[e,<- h'];exact h
theorem Rel.grow (r:Rel K F σ ρ H)(g:Same H H'):Rel K F σ ρ H' where
 len:=r.len
 fr:=fun a o e n=>g a o (r.fr a o e n)
 zl:=fun a z=>j1i g (r.zl a z)
 zo:=r.zo
 ow:=r.ow
 mi:=r.mi
 ml:=r.ml
 ma:=fun a z=>z0b g (r.ma a z)
 nd:=r.nd
 sl:=fun i=>(r.sl i).keep (b0v fun a o e n=>⟨g a o e,n⟩) fun l o _ _ e=>g l o e
theorem Rel.fresh (r:Rel K F σ ρ H){l:Addr}{o:HO}(h:H l=none):Rel K F σ ρ (upd H l o):=r.grow ((Same.refl H).new h)
theorem b1a:∀(ρ:En) (i:Nat) (s:Sv),ρ.length<=i->pt ρ i s=ρ
 | [],_,_,_=>rfl
 | x::r,0,s,h=>by simp at h
 | x::r,i+1,s,h=>by simp[pt,b1a r i s (by simpa using h)]
theorem i0e {i j:Nat}{s:Sv}(hs:s.own=false)(hj:(gt (pt ρ i s) j).own=true):i≠j/\(gt ρ j).own=true:=by
 by_cases ij:i=j
 ·subst ij
  rcases bf i ρ.length with q | q
  ·rw[q0u ρ i s q,hs]at hj;cases hj
  ·rw[p0n _ i (by rw[j0j];exact q)]at hj;cases hj
 ·rw[d0g ρ i j s ij]at hj
  exact⟨ij,hj⟩
theorem Rel.setS (r:Rel K F σ ρ H){i:Nat}{v:V}{s:Sv}(hs':s.own=false)(hd:SvOk K (hid H (hs F σ ρ)) H (some (some v)) s)(hm:∀a,¬F.pin i a):Rel K F (σ.set i (some v)) (pt ρ i s) H:=by
 rcases bf i ρ.length with hi | hi
 case inr =>
  rw[b1a ρ i s hi,jK (by rw[r.len];exact hi)];exact r
 have sub:∀a,c0p (σ.set i (some v)) (pt ρ i s) a->c0p σ ρ a:=fun a ⟨j,hj,e⟩=>by
  obtain⟨ij,hj⟩:=i0e hs' hj
  rw[bm ij]at e
  exact⟨j,hj,e⟩
 have vis:Same (hid H (hs F σ ρ)) (hid H (hs F (σ.set i (some v)) (pt ρ i s))):=b0v fun a o e n=>⟨e,fun z=>n (z.imp id (sub a))⟩
 refine⟨by rw[i8,j0j,r.len],r.fr,r.zl,fun a h=>r.zo a (sub a h),fun j a hj e=>?_,fun j a h=>?_,r.ml,r.ma,fun j k a hj hk ej ek=>?_,fun j=>?_⟩
 ·obtain⟨ij,hj⟩:=i0e hs' hj
  rw[bm ij]at e
  exact r.ow j a hj e
 ·have:i≠j:=fun e=>hm a (e▸h)
  rw[bm this];exact r.mi j a h
 ·obtain⟨nj,hj⟩:=i0e hs' hj
  obtain⟨nk,hk⟩:=i0e hs' hk
  rw[bm nj]at ej
  rw[bm nk]at ek
  exact r.nd j k a hj hk ej ek
 ·by_cases ij:i=j
  ·subst ij
   rw[q0u ρ i _ hi,dD (by rw[r.len];exact hi)]
   exact hd.keep vis fun l o ho=>by rw[hs']at ho;cases ho
  ·rw[d0g ρ i j _ ij,bm ij]
   exact(r.sl j).keep vis fun l o _ _ e=>e
theorem Rel.set (r:Rel K F σ ρ H){i:Nat}{v:V}{d:D}(hd:RepD K (hid H (hs F σ ρ)) v d)(hm:∀a,¬F.pin i a):Rel K F (σ.set i (some v)) (pt ρ i (.vl d)) H :=
 r.setS rfl ⟨v,rfl,hd⟩ hm
theorem Rel.setF (r:Rel K F σ ρ H){i:Nat}{l:Addr}{o:HO}{s:Sv}(hs':s.own=true)(hd:SvOk K (hid H (hs F σ ρ)) (upd H l o) (some (some (.ref l))) s)(hn:H l=none)(hm:∀a,¬F.pin i a) :
  Rel K F (σ.set i (some (.ref l))) (pt ρ i s) (upd H l o):=by
 have rf:=r.fresh (o:=o) hn
 rcases bf i ρ.length with hi | hi
 case inr =>
  rw[b1a ρ i s hi,jK (by rw[r.len];exact hi)];exact rf
 have at1:∀ {a},(σ.set i (some (V.ref l)))[i]? = some (some (.ref a))->a=l:=fun e=>by
  rw[dD (by rw[r.len];exact hi)]at e
  injection e with e;injection e with e;injection e with e
  exact e.symm
 have sub:∀a,c0p (σ.set i (some (.ref l))) (pt ρ i s) a->c0p σ ρ a∨a=l:=fun a h=>by
  obtain⟨j,hj,e⟩:=h
  by_cases ij:i=j
  ·subst ij;exact .inr (at1 e)
  ·rw[d0g ρ i j _ ij]at hj
   rw[bm ij]at e
   exact .inl ⟨j,hj,e⟩
 have vis:Same (hid H (hs F σ ρ)) (hid (upd H l o) (hs F (σ.set i (some (.ref l))) (pt ρ i s))):=b0v fun a u e n=>by
  have al:=b0o e hn
  refine⟨by rw[a0x al];exact e,fun z=>?_⟩
  rcases z with z | z
  ·exact n (.inl z)
  ·rcases sub a z with z | z
   ·exact n (.inr z)
   ·exact al z
 have nol:∀j,(gt ρ j).own=true->σ[j]? ≠ some (some (.ref l)):=fun j hj e=>h0g r ⟨j,hj,e⟩ hn
 refine⟨by rw[i8,j0j,r.len],rf.fr,rf.zl,fun a h=>?_,fun j a hj e=>?_,fun j a h=>?_,r.ml,rf.ma,fun j k a hj hk ej ek=>?_,fun j=>?_⟩
 ·rcases sub a h with h | h
  ·exact r.zo a h
  ·subst h;exact fun z=>(r.zl _ z).1 hn
 ·by_cases ij:i=j
  ·subst ij
   rw[at1 e];exact .inr (f1t r hn)
  ·rw[d0g ρ i j _ ij]at hj
   rw[bm ij]at e
   exact r.ow j a hj e
 ·have:i≠j:=fun e=>hm a (e▸h)
  rw[bm this];exact r.mi j a h
 ·by_cases nj:i=j
  ·by_cases nk:i=k
   ·omega
   ·subst nj
    have:=at1 ej
    subst this
    rw[d0g ρ i k _ nk]at hk
    rw[bm nk]at ek
    exact absurd ek (nol k hk)
  ·rw[d0g ρ i j _ nj]at hj
   rw[bm nj]at ej
   by_cases nk:i=k
   ·subst nk
    have:=at1 ek
    subst this
    exact absurd ej (nol j hj)
   ·rw[d0g ρ i k _ nk]at hk
    rw[bm nk]at ek
    exact r.nd j k a hj hk ej ek
 ·by_cases ij:i=j
  ·subst ij
   rw[q0u ρ i _ hi,dD (by rw[r.len];exact hi)]
   exact hd.keep vis fun _ _ _ _ e=>e
  ·rw[d0g ρ i j _ ij,bm ij]
   exact(r.sl j).keep vis fun a o ho e h=>by
    rw[a0x (b0o h hn)];exact h
theorem Rel.write (r:Rel K F σ ρ H){i:Nat}{l:Addr}{o:HO}{s:Sv}(hi:(gt ρ i).own=true)(el:σ[i]? = some (some (.ref l)))(hs':s.own=true)(new:SvOk K (hid H (hs F σ ρ)) (upd H l o) (some (some (.ref l))) s):Rel K F σ (pt ρ i s) (upd H l o)/\Kp σ ρ (pt ρ i s) H (upd H l o):=by
 have lt:=n0m hi
 have own':∀j,(gt (pt ρ i s) j).own=true->(gt ρ j).own=true:=fun j h=>by
  by_cases ij:i=j
  ·subst ij;exact hi
  ·rw[d0g ρ i j _ ij]at h;exact h
 have sub:∀a,c0p σ (pt ρ i s) a->c0p σ ρ a:=fun a ⟨j,hj,e⟩=>⟨j,own' j hj,e⟩
 have hso:c0p σ ρ l:=⟨i,hi,el⟩
 have vis:Same (hid H (hs F σ ρ)) (hid (upd H l o) (hs F σ (pt ρ i s))):=b0v fun a u e n=>by
  have al:a≠l:=fun z=>n (.inr (z▸hso))
  exact⟨by rw[a0x al];exact e,fun z=>n (z.imp id (sub a))⟩
 have up:∀ {a},H a≠none->(upd H l o) a≠none:=fun{a} h e=>by
  by_cases al:a=l
  ·subst al;rw[a0z]at e;cases e
  ·rw[a0x al]at e;exact h e
 refine⟨⟨by rw[j0j,r.len],fun a u e n=>?_,fun a z=>g1u (fun q=>r.zo l hso (q▸z)) (r.zl a z),fun a h=>r.zo a (sub a h),fun j a hj e=>r.ow j a (own' j hj) e,r.mi,r.ml,fun a z=>up (r.ma a z),fun j k a hj hk ej ek=>r.nd j k a (own' j hj) (own' k hk) ej ek,fun j=>?_⟩,⟨fun a u e n=>?_,own'⟩⟩
 ·have al:a≠l:=fun z=>by
   subst z
   rcases r.ow i _ hi el with⟨_,q⟩ | q
   ·exact n q
   ·rw[e]at q;cases q
  rw[a0x al];exact r.fr a u e n
 ·by_cases ij:i=j
  ·subst ij
   rw[q0u ρ i s lt,el]
   exact new.keep vis fun _ _ _ _ e=>e
  ·rw[d0g ρ i j _ ij]
   refine(r.sl j).keep vis fun a u ho e h=>?_
   have al:a≠l:=fun z=>ij (r.nd i j l hi ho el (z▸e))
   rw[a0x al];exact h
 ·have al:a≠l:=fun z=>n (z▸hso)
  rw[a0x al];exact e
theorem Rel.frz (r:Rel K F σ ρ H){i:Nat}{ds:List D}(hi:gt ρ i = .ow ds):∃l,σ[i]? = some (some (.ref l))/\Rel K F σ (pt ρ i (.vl (.lst ds))) H/\Kp σ ρ (pt ρ i (.vl (.lst ds))) H H/\RepD K (hid H (hs F σ (pt ρ i (.vl (.lst ds))))) (.ref l) (.lst ds):=by
 have ho:(gt ρ i).own=true:=by rw[hi];rfl
 have lt:=n0m ho
 have q:=r.sl i
 rw[hi]at q
 obtain⟨l,vs,el,hl,hd⟩:=q
 have own':∀j,(gt (pt ρ i (.vl (.lst ds))) j).own=true->i≠j/\(gt ρ j).own=true:=fun j h=>i0e rfl h
 have sub:∀a,c0p σ (pt ρ i (.vl (.lst ds))) a->c0p σ ρ a/\a≠l:=fun a ⟨j,hj,e⟩=>by
  obtain⟨ij,hj⟩:=own' j hj
  exact⟨⟨j,hj,e⟩,fun z=>ij (r.nd i j l ho hj el (z▸e))⟩
 have vis:Same (hid H (hs F σ ρ)) (hid H (hs F σ (pt ρ i (.vl (.lst ds))))):=b0v fun a u e n=>⟨e,fun z=>n (z.imp id fun z=>(sub a z).1)⟩
 have vl:¬hs F σ (pt ρ i (.vl (.lst ds))) l:=fun z=>by
  rcases z with z | z
  ·exact r.zo l ⟨i,ho,el⟩ z
  ·exact(sub l z).2 rfl
 have rd:RepD K (hid H (hs F σ (pt ρ i (.vl (.lst ds))))) (.ref l) (.lst ds):=by
  unfold RepD
  exact⟨l,vs,rfl,i0k vl hl,hd.same vis⟩
 refine⟨l,el,⟨by rw[j0j,r.len],r.fr,r.zl,fun a h=>r.zo a (sub a h).1,fun j a hj e=>r.ow j a (own' j hj).2 e,r.mi,r.ml,r.ma,fun j k a hj hk ej ek=>r.nd j k a (own' j hj).2 (own' k hk).2 ej ek,fun j=>?_⟩,⟨fun _ _ e _=>e,fun j h=>(own' j h).2⟩,rd⟩
 by_cases ij:i=j
 ·subst ij
  rw[q0u ρ i _ lt,el]
  exact⟨_,rfl,rd⟩
 ·rw[d0g ρ i j _ ij]
  exact(r.sl j).keep vis fun a u _ _ h=>h
end
def RelR (K:aa)(F:Fr)(σ:St)(ρ:En)(v:V)(H:Hp):R->Prop
 | .d d=>Rel K F σ ρ H/\RepD K (hid H (hs F σ ρ)) v d
 | .o i=>Rel K F σ ρ H/\σ[i]? = some (some v)
 | .n s=>∃Hb l o,Rel K F σ ρ Hb/\s.own=true/\SvOk K (hid Hb (hs F σ ρ)) (upd Hb l o) (some (some (.ref l))) s/\Hb l=none/\H=upd Hb l o/\v = .ref l
 | .t n=>Rel K F σ ρ H/\v = .ty n
 | .x s=>Rel K F σ ρ H/\s.own=false/\SvOk K (hid H (hs F σ ρ)) H (some (some v)) s
def Out (K:aa)(F:Fr)(σ:St)(ρ:En)(H:Hp)(ρ':En)(v:V)(H':Hp):R->Prop
 | .d d=>Rel K F σ ρ' H'/\Kp σ ρ ρ' H H'/\RepD K (hid H' (hs F σ ρ')) v d
 | .o i=>Rel K F σ ρ' H'/\Kp σ ρ ρ' H H'/\σ[i]? = some (some v)
 | .n s=>∃Hb l o,Rel K F σ ρ' Hb/\Kp σ ρ ρ' H Hb/\s.own=true/\SvOk K (hid Hb (hs F σ ρ')) (upd Hb l o) (some (some (.ref l))) s/\Hb l=none/\H'=upd Hb l o/\v = .ref l
 | .t n=>Rel K F σ ρ' H'/\Kp σ ρ ρ' H H'/\v = .ty n
 | .x s=>Rel K F σ ρ' H'/\Kp σ ρ ρ' H H'/\s.own=false/\SvOk K (hid H' (hs F σ ρ')) H' (some (some v)) s
def InF (K:aa)(F:Fr)(σ:St)(ρ:En)(H:Hp)(v:V):R->Prop
 | .d d=>RepD K (hid H (hs F σ ρ)) v d
 | .o i=>σ[i]? = some (some v)
 | .n _=>True
 | .t n=>v = .ty n
 | .x s=>s.own=false/\SvOk K (hid H (hs F σ ρ)) H (some (some v)) s
def R.frz:R->R
 | .n (.ow ds)=>.d (.lst ds)
 | r=>r
inductive InFs (K:aa) (F:Fr) (σ:St) (ρ:En) (H:Hp):List V->List R->Prop
 | nil:InFs K F σ ρ H [] []
 | cons {v:V} {r:R} {vs:List V} {rs:List R}:InF K F σ ρ H v r->InFs K F σ ρ H vs rs->InFs K F σ ρ H (v::vs) (r::rs)
def view (ρ:En):R->Option D
 | .d d=>some d
 | .o i=>(match gt ρ i with | .ow ds=>some (.lst ds) | .vl d=>some d | _=>none)
 | _=>none
section
variable {K:aa}{F:Fr}{σ:St}{ρ ρ':En}{H H':Hp}{v:V}{r:R}
theorem InF.keep (h:InF K F σ ρ H v r)(k:Kp σ ρ ρ' H H'):InF K F σ ρ' H' v r:=by
 cases r with
 | d d=>exact RepD.same h k.vis
 | o i=>exact h
 | n s=>exact h
 | t n=>exact h
 | x s=>exact⟨h.1,h.2.keep k.vis fun l o ho=>by rw[h.1]at ho;cases ho⟩
theorem InFs.keep {vs:List V}{rs:List R}(h:InFs K F σ ρ H vs rs)(k:Kp σ ρ ρ' H H'):InFs K F σ ρ' H' vs rs:=by
 induction h with
 | nil=>exact .nil
 | cons a _ ih=>exact .cons (a.keep k) ih
theorem Out.inF (h:Out K F σ ρ H ρ' v H' r):Rel K F σ ρ' H'/\Kp σ ρ ρ' H H'/\InF K F σ ρ' H' v r.frz:=by
 cases r with
 | d d=>exact⟨h.1,h.2.1,h.2.2⟩
 | o i=>exact⟨h.1,h.2.1,h.2.2⟩
 | t n=>exact⟨h.1,h.2.1,h.2.2⟩
 | x s=>exact⟨h.1,h.2.1,h.2.2⟩
 | n s =>
  obtain⟨Hb,l,o,a,k0,hs',b,c,rfl,rfl⟩:=h
  have k:Kp σ ρ' ρ' Hb (upd Hb l o):=Kp.fresh c
  refine⟨a.fresh c,k0.trans k,?_⟩
  cases s with
  | un=>trivial
  | vl d=>trivial
  | tp n=>trivial
  | dk n=>trivial
  | dt n=>trivial
  | ex n m=>trivial
  | sc n=>trivial
  | px n m k=>trivial
  | xl es=>trivial
  | ob _ _=>trivial
  | ll _=>trivial
  | ds _ _ _=>trivial
  | ow ds =>
   obtain⟨l',vs,e,h1,h2⟩:=b
   injection e with e;injection e with e;injection e with e;subst e
   show RepD K _ (.ref l) (.lst ds)
   unfold RepD
   exact⟨l,vs,rfl,i0k (k0v a c) h1,h2.same k.vis⟩
theorem Out.rel (h:Out K F σ ρ H ρ' v H' r):RelR K F σ ρ' v H' r:=by
 cases r with
 | d d=>exact⟨h.1,h.2.2⟩
 | o i=>exact⟨h.1,h.2.2⟩
 | t n=>exact⟨h.1,h.2.2⟩
 | x s=>exact⟨h.1,h.2.2⟩
 | n s =>
  obtain⟨Hb,l,o,a,k0,hs',b,c,e1,e2⟩:=h
  exact⟨Hb,l,o,a,hs',b,c,e1,e2⟩
theorem Out.after {ρ1:En}{H1:Hp}(k:Kp σ ρ ρ1 H H1)(h:Out K F σ ρ1 H1 ρ' v H' r):Out K F σ ρ H ρ' v H' r:=by
 cases r with
 | d d=>exact⟨h.1,k.trans h.2.1,h.2.2⟩
 | o i=>exact⟨h.1,k.trans h.2.1,h.2.2⟩
 | t n=>exact⟨h.1,k.trans h.2.1,h.2.2⟩
 | x s=>exact⟨h.1,k.trans h.2.1,h.2.2⟩
 | n s =>
  obtain⟨Hb,l,o,a,k0,hs',b,c,e1,e2⟩:=h
  exact⟨Hb,l,o,a,k.trans k0,hs',b,c,e1,e2⟩
theorem f0p {d:D}(a:Rel K F σ ρ H)(h:InF K F σ ρ H v r)(e:view ρ r=some d):RepD K H v d:=by
 cases r with
 | d d'=>injection e with e;subst e;exact RepD.same h d0b
 | t n=>cases e
 | x s=>cases e
 | n s=>cases e
 | o i =>
  have q:=a.sl i
  unfold view at e
  cases hg:gt ρ i with
  | un=>simp[hg]at e
  | tp n=>simp[hg]at e
  | dk n=>simp[hg]at e
  | dt n=>simp[hg]at e
  | ex n m=>simp[hg]at e
  | sc n=>simp[hg]at e
  | px n m k=>simp[hg]at e
  | xl es=>simp[hg]at e
  | ob _ _=>simp[hg]at e
  | ll _=>simp[hg]at e
  | ds _ _ _=>simp[hg]at e
  | vl d' =>
   simp[hg]at e
   subst e
   rw[hg]at q
   obtain⟨x,e1,r1⟩:=q
   rw[show σ[i]? = _ from h]at e1
   injection e1 with e1;injection e1 with e1;subst e1
   exact r1.same d0b
  | ow ds =>
   simp[hg]at e
   subst e
   rw[hg]at q
   obtain⟨l,vs,e1,r1,r2⟩:=q
   rw[show σ[i]? = _ from h]at e1
   injection e1 with e1;injection e1 with e1;subst e1
   unfold RepD
   exact⟨l,vs,rfl,r1,r2.same d0b⟩
theorem e0g {ds:List D}(a:Rel K F σ ρ H)(h:InF K F σ ρ H v r)(e:view ρ r=some (.lst ds)):∃l vs,v = .ref l/\SqL K H l vs/\RepDs K (hid H (hs F σ ρ)) vs ds:=by
 cases r with
 | d d' =>
  injection e with e;subst e
  have h':RepD K _ v (.lst ds):=h
  unfold RepD at h'
  obtain⟨l,vs,e,q,r⟩:=h'
  exact⟨l,vs,e,d0b.seq (StL.sq q),r⟩
 | t n=>cases e
 | x s=>cases e
 | n s=>cases e
 | o i =>
  have q:=a.sl i
  unfold view at e
  cases hg:gt ρ i with
  | un=>simp[hg]at e
  | tp n=>simp[hg]at e
  | dk n=>simp[hg]at e
  | dt n=>simp[hg]at e
  | ex n m=>simp[hg]at e
  | sc n=>simp[hg]at e
  | px n m k=>simp[hg]at e
  | xl es=>simp[hg]at e
  | ob _ _=>simp[hg]at e
  | ll _=>simp[hg]at e
  | ds _ _ _=>simp[hg]at e
  | vl d' =>
   simp[hg]at e
   subst e
   rw[hg]at q
   obtain⟨x,e1,r1⟩:=q
   rw[show σ[i]? = _ from h]at e1
   injection e1 with e1;injection e1 with e1;subst e1
   unfold RepD at r1
   obtain⟨l,vs,e,q,r⟩:=r1
   exact⟨l,vs,e,d0b.seq (StL.sq q),r⟩
  | ow ds =>
   simp[hg]at e
   subst e
   rw[hg]at q
   obtain⟨l,vs,e1,r1,r2⟩:=q
   rw[show σ[i]? = _ from h]at e1
   injection e1 with e1;injection e1 with e1;subst e1
   exact⟨l,vs,rfl,SqL.of r1,r2⟩
theorem f0z {ds:List D}(a:Rel K F σ ρ H)(h:InF K F σ ρ H v r)(e:view ρ r=some (.tup ds)):∃l vs,v = .ref l/\SqT K H l vs/\RepDs K (hid H (hs F σ ρ)) vs ds/\StT (hid H (hs F σ ρ)) l vs:=by
 have go:∀ {x:V},RepD K (hid H (hs F σ ρ)) x (.tup ds)->∃l vs,x = .ref l/\SqT K H l vs/\RepDs K (hid H (hs F σ ρ)) vs ds/\StT (hid H (hs F σ ρ)) l vs:=fun h'=>by
  unfold RepD at h'
  obtain⟨l,vs,e,q,r⟩:=h'
  exact⟨l,vs,e,d0b.seqT q.sq,r,q⟩
 cases r with
 | d d'=>injection e with e;subst e;exact go h
 | t n=>cases e
 | x s=>cases e
 | n s=>cases e
 | o i =>
  have q:=a.sl i
  unfold view at e
  cases hg:gt ρ i with
  | un=>simp[hg]at e
  | tp n=>simp[hg]at e
  | dk n=>simp[hg]at e
  | dt n=>simp[hg]at e
  | ex n m=>simp[hg]at e
  | sc n=>simp[hg]at e
  | px n m k=>simp[hg]at e
  | xl es=>simp[hg]at e
  | ob _ _=>simp[hg]at e
  | ll _=>simp[hg]at e
  | ds _ _ _=>simp[hg]at e
  | ow ds'=>simp[hg]at e
  | vl d' =>
   simp[hg]at e
   subst e
   rw[hg]at q
   obtain⟨x,e1,r1⟩:=q
   rw[show σ[i]? = _ from h]at e1
   injection e1 with e1;injection e1 with e1;subst e1
   exact go r1
end
abbrev Ko:=R->En->Prop
abbrev AE:=En->Ko->Prop
abbrev AT:=En->(Bool->En->Prop)->Prop
abbrev AA:=En->(List R->En->Prop)->Prop
structure t0t where
 nx:En->Prop
 rt:R->En->Prop
 bk:En->Prop
 ct:En->Prop
abbrev AS:=t0t->En->Prop
def Beh (K:aa)(F:Fr)(σ:St)(ρ:En)(H:Hp)(q:Ko)(Q:VK):Prop:=∀r ρ' v H',q r ρ'->Out K F σ ρ H ρ' v H' r->Q v H'
def TEok (K:aa)(t:TE)(a:AE):Prop:=∀F σ ρ H q Q,Rel K F σ ρ H->a ρ q->Beh K F σ ρ H q Q->t σ H Q
def TTok (K:aa)(t:TT)(a:AT):Prop:=∀F σ ρ H q Q,Rel K F σ ρ H->a ρ q->(∀b ρ' H',q b ρ'->Rel K F σ ρ' H'->Kp σ ρ ρ' H H'->Q b H')->t σ H Q
def TAok (K:aa)(t:TA)(a:AA):Prop:=∀F σ ρ H q Q,Rel K F σ ρ H->a ρ q->(∀rs ρ' vs H',q rs ρ'->Rel K F σ ρ' H'->InFs K F σ ρ' H' vs rs->Kp σ ρ ρ' H H'->Q vs H')->t σ H Q
def OpOk (K:aa)(r:R2)(g:R->R->AE):Prop:=∀F σ ρ H x y r1 r2 q Q,Rel K F σ ρ H->InF K F σ ρ H x r1->InF K F σ ρ H y r2->g r1 r2 ρ q->Beh K F σ ρ H q Q->r x y H Q
def CbOk (K:aa)(r:List V->Hp->VK->Prop)(g:List R->AE):Prop:=∀F σ ρ H vs rs q Q,Rel K F σ ρ H->InFs K F σ ρ H vs rs->g rs ρ q->Beh K F σ ρ H q Q->r vs H Q
section
variable {K:aa}{F:Fr}{σ:St}{ρ ρ':En}{H H':Hp}{v:V}{r:R}{q:Ko}{Q:VK}
theorem Beh.dat (b:Beh K F σ ρ H q Q)(a:Rel K F σ ρ H){d:D}(hq:q (.d d) ρ)(h:RepD K (hid H (hs F σ ρ)) v d):Q v H:=b (.d d) ρ v H hq ⟨a,.refl,h⟩
theorem Beh.int (b:Beh K F σ ρ H q Q)(a:Rel K F σ ρ H){i:Int}(hq:q (.d (.int i)) ρ):Q (.int i) H:=b.dat a hq (by unfold RepD;rfl)
theorem Beh.bl (b:Beh K F σ ρ H q Q)(a:Rel K F σ ρ H){i:Bool}(hq:q (.d (.bl i)) ρ):Q (.bl i) H:=b.dat a hq (by unfold RepD;rfl)
theorem Beh.non (b:Beh K F σ ρ H q Q)(a:Rel K F σ ρ H)(hq:q (.d .non) ρ):Q .non H:=b.dat a hq (by unfold RepD;rfl)
theorem Beh.str (b:Beh K F σ ρ H q Q)(a:Rel K F σ ρ H){x:Str}(hq:q (.d (.str x)) ρ):Q (.str x) H:=b.dat a hq (by unfold RepD;rfl)
theorem Beh.new (b:Beh K F σ ρ H q Q)(a:Rel K F σ ρ H){ds:List D}{vs:List V}{l:Addr}(hq:q (.f ds) ρ)(hd:RepDs K (hid H (hs F σ ρ)) vs ds)(hl:H l=none):Q (.ref l) (upd H l (.lst vs)) :=
 b (.f ds) ρ _ _ hq ⟨H,l,_,a,.refl,rfl,⟨l,vs,rfl,a0z,hd⟩,hl,rfl,rfl⟩
theorem Beh.newT (b:Beh K F σ ρ H q Q)(a:Rel K F σ ρ H){ds:List D}{vs:List V}{l:Addr}(hq:q (.d (.tup ds)) ρ)(hd:RepDs K (hid H (hs F σ ρ)) vs ds)(hl:H l=none):Q (.ref l) (upd H l (.tup vs)):=by
 have k:Kp σ ρ ρ H (upd H l (.tup vs)):=Kp.fresh hl
 refine b (.d (.tup ds)) ρ _ _ hq ⟨a.fresh hl,k,?_⟩
 unfold RepD
 exact⟨l,vs,rfl,(i0k (k0v a hl) a0z),hd.same k.vis⟩
theorem Beh.after {ρ1:En}{H1:Hp}(b:Beh K F σ ρ H q Q)(k:Kp σ ρ ρ1 H H1):Beh K F σ ρ1 H1 q Q:=fun r ρ' v H' hq h=>b r ρ' v H' hq (.after k h)
def aVar (i:Nat):AE:=fun ρ q=>match gt ρ i with
 | .un=>False
 | .vl d=>q (.d d) ρ
 | .ow _=>q (.o i) ρ
 | .tp _=>q (.o i) ρ
 | .dk _=>q (.o i) ρ
 | .dt _=>q (.o i) ρ
 | .ex _ _=>q (.o i) ρ
 | .sc _=>q (.o i) ρ
 | .px _ _ _=>q (.o i) ρ
 | .xl _=>q (.o i) ρ
 | .ob _ _=>q (.o i) ρ
 | .ll _=>q (.o i) ρ
 | .ds _ _ _=>q (.o i) ρ
theorem a0b {i:Nat}:TEok K (tVar i) (aVar i):=by
 intro F σ ρ H q Q a h b
 have s:=a.sl i
 unfold aVar at h
 cases hg:gt ρ i with
 | un=>rw[hg]at h;exact h.elim
 | vl d =>
  rw[hg]at h s
  obtain⟨x,e,r⟩:=s
  exact⟨x,e,b _ _ _ _ h ⟨a,.refl,r⟩⟩
 | ow ds =>
  rw[hg]at h s
  obtain⟨l,vs,e,_⟩:=s
  exact⟨_,e,b _ _ _ _ h ⟨a,.refl,e⟩⟩
 | tp n =>
  rw[hg]at h s
  obtain⟨l,c,ns,sp,lf,e,_⟩:=s
  exact⟨_,e,b _ _ _ _ h ⟨a,.refl,e⟩⟩
 | dk kvs =>
  rw[hg]at h s
  obtain⟨l,ks,e,_⟩:=s
  exact⟨_,e,b _ _ _ _ h ⟨a,.refl,e⟩⟩
 | dt kvs =>
  rw[hg]at h s
  obtain⟨l,ks,e,_⟩:=s
  exact⟨_,e,b _ _ _ _ h ⟨a,.refl,e⟩⟩
 | ex C fs =>
  rw[hg]at h s
  obtain⟨l,ks,e,_⟩:=s
  exact⟨_,e,b _ _ _ _ h ⟨a,.refl,e⟩⟩
 | sc ns =>
  rw[hg]at h s
  obtain⟨l,e,_⟩:=s
  exact⟨_,e,b _ _ _ _ h ⟨a,.refl,e⟩⟩
 | xl es =>
  rw[hg]at h s
  obtain⟨l,ks,e,_⟩:=s
  exact⟨_,e,b _ _ _ _ h ⟨a,.refl,e⟩⟩
 | ob C fs =>
  rw[hg]at h s
  obtain⟨l,_,_,e,_⟩:=s
  exact⟨_,e,b _ _ _ _ h ⟨a,.refl,e⟩⟩
 | ll xss =>
  rw[hg]at h s
  obtain⟨l,_,_,e,_⟩:=s
  exact⟨_,e,b _ _ _ _ h ⟨a,.refl,e⟩⟩
 | ds C n w =>
  rw[hg]at h s
  obtain⟨l,_,_,_,_,_,e,_⟩:=s
  exact⟨_,e,b _ _ _ _ h ⟨a,.refl,e⟩⟩
 | px d C fs =>
  rw[hg]at h s
  obtain⟨l,x,e',od,e,_⟩:=s
  exact⟨_,e,b _ _ _ _ h ⟨a,.refl,e⟩⟩
def aC (r:R):AE:=fun ρ q=>q r ρ
theorem a0p {i:Int}:TEok K (tC (.int i)) (aC (.d (.int i))):=fun _ _ _ _ _ _ a h b=>b.int a h
theorem c0y {i:Bool}:TEok K (tC (.bl i)) (aC (.d (.bl i))):=fun _ _ _ _ _ _ a h b=>b.bl a h
theorem i0a {i:Str}:TEok K (tC (.str i)) (aC (.d (.str i))):=fun _ _ _ _ _ _ a h b=>b.str a h
theorem k1v {n:String}:TEok K (tC (.ty n)) (aC (.t n)):=fun _ _ _ _ _ _ a h b=>b _ _ _ _ h ⟨a,.refl,rfl⟩
def aOp (g:R->R->AE)(a b:AE):AE:=fun ρ q=>a ρ fun r1 ρ1=>b ρ1 fun r2 ρ2=>g r1.frz r2.frz ρ2 q
variable {t t' ta tb tc:TE}{a b c:AE}{rr:R2}{g:R->R->AE}
theorem a0m (ho:OpOk K rr g)(ha:TEok K ta a)(hb:TEok K tb b):TEok K (tOp rr ta tb) (aOp g a b):=by
 intro F σ ρ H q Q r h k
 refine ha F σ ρ H _ _ r h fun r1 ρ1 x H1 h1 rel1=>?_
 obtain⟨r',k1,i1⟩:=rel1.inF
 refine hb F σ ρ1 H1 _ _ r' h1 fun r2 ρ2 y H2 h2 rel2=>?_
 obtain⟨r'',k2,i2⟩:=rel2.inF
 exact ho F σ ρ2 H2 x y _ _ q Q r'' (i1.keep k2) i2 h2 (k.after (k1.trans k2))
def gI (C:Int->Int->Prop)(f:Int->Int->D):R->R->AE:=fun r1 r2 ρ q=>match r1,r2 with
 | .d (.int i),.d (.int j)=>C i j/\q (.d (f i j)) ρ
 | _,_=>False
theorem m1z {C:Int->Int->Prop}{f:Int->Int->D}{r1 r2:R}(h:gI C f r1 r2 ρ q):∃i j,r1 = .d (.int i)/\r2 = .d (.int j)/\C i j/\q (.d (f i j)) ρ:=by
 unfold gI at h
 split at h
 ·exact⟨_,_,rfl,rfl,h⟩
 ·exact h.elim
theorem InF.int {i:Int}(h:InF K F σ ρ H v (.d (.int i))):v = .int i:=by
 unfold InF RepD at h;exact h
theorem InF.blv {i:Bool}(h:InF K F σ ρ H v (.d (.bl i))):v = .bl i:=by
 unfold InF RepD at h;exact h
theorem u0k {C:Int->Int->Prop}{f:Int->Int->Int}:OpOk K (rI C fun i j=>.int (f i j)) (gI C fun i j=>.int (f i j)):=by
 intro F σ ρ H x y r1 r2 q Q a h1 h2 h b
 obtain⟨i,j,rfl,rfl,c,h⟩:=m1z h
 exact⟨i,j,h1.int,h2.int,c,b.int a h⟩
def gI0 (f:Int->Int->D):R->R->AE:=fun r1 r2 ρ q=>match r1,r2 with
 | .d (.int i),.d (.int j)=>q (.d (f i j)) ρ
 | _,_=>False
theorem c1m {f:Int->Int->D}{r1 r2:R}(h:gI0 f r1 r2 ρ q):∃i j,r1 = .d (.int i)/\r2 = .d (.int j)/\q (.d (f i j)) ρ:=by
 unfold gI0 at h
 split at h
 ·exact⟨_,_,rfl,rfl,h⟩
 ·exact h.elim
theorem d0c {f:Int->Int->Int}:OpOk K (rI0 fun i j=>.int (f i j)) (gI0 fun i j=>.int (f i j)):=by
 intro F σ ρ H x y r1 r2 q Q a h1 h2 h b
 obtain⟨i,j,rfl,rfl,h⟩:=c1m h
 exact⟨i,j,h1.int,h2.int,b.int a h⟩
theorem f0x {f:Int->Int->Bool}:OpOk K (rI0 fun i j=>.bl (f i j)) (gI0 fun i j=>.bl (f i j)):=by
 intro F σ ρ H x y r1 r2 q Q a h1 h2 h b
 obtain⟨i,j,rfl,rfl,h⟩:=c1m h
 exact⟨i,j,h1.int,h2.int,b.bl a h⟩
@[irreducible] def gEq (neg:Bool):R->R->AE:=fun r1 r2 ρ q=>match view ρ r1,view ρ r2 with
 | some d,some e=>d.depth<=60/\q (.d (.bl (if neg then !eqD d e else eqD d e))) ρ
 | _,_=>False
theorem c1n {neg:Bool}{r1 r2:R}(h:gEq neg r1 r2 ρ q):∃d e,view ρ r1=some d/\view ρ r2=some e/\d.depth<=60/\q (.d (.bl (if neg then !eqD d e else eqD d e))) ρ:=by
 unfold gEq at h
 split at h
 ·rename_i d e h1 h2;exact⟨d,e,h1,h2,h⟩
 ·exact h.elim
theorem g0u:OpOk K (rEqD K) (gEq false):=by
 intro F σ ρ H x y r1 r2 q Q a h1 h2 h b
 obtain⟨d,e,e1,e2,c,h⟩:=c1n h
 exact⟨d,e,f0p a h1 e1,f0p a h2 e2,c,b.bl a h⟩
theorem m1a:OpOk K (rNeD K) (gEq true):=by
 intro F σ ρ H x y r1 r2 q Q a h1 h2 h b
 obtain⟨d,e,e1,e2,c,h⟩:=c1n h
 exact⟨d,e,f0p a h1 e1,f0p a h2 e2,c,b.bl a h⟩
@[irreducible] def gIx:R->R->AE:=fun r1 r2 ρ q=>match view ρ r1,r2 with
 | some (.lst ds),.d (.int i)=>(match atI ds i with | some d=>q (.d d) ρ | none=>False)
 | some (.tup ds),.d (.int i)=>(match atI ds i with | some d=>q (.d d) ρ | none=>False)
 | _,_=>False
theorem d1k {Hh:Hp}{vs:List V}{ds:List D}{i:Int}{d:D}(h:RepDs K Hh vs ds)(e:atI ds i=some d):∃v,atI vs i=some v/\RepD K Hh v d:=by
 unfold atI at e ⊢
 rw[h.length]
 cases hx:ixN ds.length i with
 | none=>rw[hx]at e;cases e
 | some j =>
  rw[hx]at e
  exact h.get e
theorem c0l:OpOk K (rIx K) gIx:=by
 intro F σ ρ H x y r1 r2 q Q a h1 h2 h b
 unfold gIx at h
 split at h
 ·rename_i ds i e1
  split at h
  ·rename_i d e
   obtain⟨l,vs,rfl,sq,rd⟩:=e0g a h1 e1
   obtain⟨v,e2,rv⟩:=d1k rd e
   exact .inl ⟨l,vs,i,v,rfl,h2.int,sq,e2,b.dat a h rv⟩
  ·exact h.elim
 ·rename_i ds i e1
  split at h
  ·rename_i d e
   obtain⟨l,vs,rfl,sq,rd,_⟩:=f0z a h1 e1
   obtain⟨v,e2,rv⟩:=d1k rd e
   exact .inr (.inl ⟨l,vs,i,v,rfl,h2.int,sq,e2,b.dat a h rv⟩)
  ·exact h.elim
 ·exact h.elim
def o1u (a b:AE):AE:=fun ρ q=>a ρ fun r ρ1=>match r with
 | .d (.bl c)=>if c=true then b ρ1 q else q (.d (.bl false)) ρ1
 | _=>False
def aOrV (a b:AE):AE:=fun ρ q=>a ρ fun r ρ1=>match r with
 | .d (.bl c)=>if c=true then q (.d (.bl true)) ρ1 else b ρ1 q
 | _=>False
def o1k (a:AE):AE:=fun ρ q=>a ρ fun r ρ1=>match r with
 | .d (.bl c)=>q (.d (.bl (!c))) ρ1
 | _=>False
theorem h0b (ha:TEok K ta a)(hb:TEok K tb b):TEok K (l1d ta tb) (o1u a b):=by
 intro F σ ρ H q Q r h k
 refine ha F σ ρ H _ _ r h fun r1 ρ1 x H1 h1 rel1=>?_
 split at h1
 ·rename_i c
  obtain⟨r',k1,i1⟩:=rel1.inF
  refine⟨c,i1.blv,?_⟩
  cases c with
  | true=>exact hb F σ ρ1 H1 q Q r' h1 (k.after k1)
  | false=>exact(k.after k1).bl r' h1
 ·exact h1.elim
theorem h1n (ha:TEok K ta a)(hb:TEok K tb b):TEok K (tOrV ta tb) (aOrV a b):=by
 intro F σ ρ H q Q r h k
 refine ha F σ ρ H _ _ r h fun r1 ρ1 x H1 h1 rel1=>?_
 split at h1
 ·rename_i c
  obtain⟨r',k1,i1⟩:=rel1.inF
  refine⟨c,i1.blv,?_⟩
  cases c with
  | true=>exact(k.after k1).bl r' h1
  | false=>exact hb F σ ρ1 H1 q Q r' h1 (k.after k1)
 ·exact h1.elim
theorem e1a (ha:TEok K ta a):TEok K (l1a ta) (o1k a):=by
 intro F σ ρ H q Q r h k
 refine ha F σ ρ H _ _ r h fun r1 ρ1 x H1 h1 rel1=>?_
 split at h1
 ·rename_i c
  obtain⟨r',k1,i1⟩:=rel1.inF
  exact⟨c,i1.blv,(k.after k1).bl r' h1⟩
 ·exact h1.elim
variable {tt tu:TT}{at' au:AT}
def aB (a:AE):AT:=fun ρ q=>a ρ fun r ρ1=>match r with
 | .d (.bl c)=>q c ρ1
 | _=>False
theorem j0h (ha:TEok K ta a):TTok K (tB ta) (aB a):=by
 intro F σ ρ H q Q r h k
 refine ha F σ ρ H _ _ r h fun r1 ρ1 x H1 h1 rel1=>?_
 split at h1
 ·rename_i c
  obtain⟨r',k1,i1⟩:=rel1.inF
  exact⟨c,i1.blv,k _ _ _ h1 r' k1⟩
 ·exact h1.elim
theorem b0h (ha:TEok K ta a):TTok K (k1y ta) (aB a):=j0h ha
def aAnd (a b:AT):AT:=fun ρ q=>a ρ fun c ρ1=>if c=true then b ρ1 q else q false ρ1
def aOr (a b:AT):AT:=fun ρ q=>a ρ fun c ρ1=>if c=true then q true ρ1 else b ρ1 q
def aNot (a:AT):AT:=fun ρ q=>a ρ fun c ρ1=>q (!c) ρ1
theorem k0a (ha:TTok K tt at')(hb:TTok K tu au):TTok K (tAnd tt tu) (aAnd at' au):=by
 intro F σ ρ H q Q r h k
 refine ha F σ ρ H _ _ r h fun c ρ1 H1 h1 r1 k1=>?_
 cases c with
 | true=>exact hb F σ ρ1 H1 q Q r1 h1 fun b ρ2 H2 h2 r2 k2=>k _ _ _ h2 r2 (k1.trans k2)
 | false=>exact k _ _ _ h1 r1 k1
theorem q0a (ha:TTok K tt at')(hb:TTok K tu au):TTok K (tOr tt tu) (aOr at' au):=by
 intro F σ ρ H q Q r h k
 refine ha F σ ρ H _ _ r h fun c ρ1 H1 h1 r1 k1=>?_
 cases c with
 | true=>exact k _ _ _ h1 r1 k1
 | false=>exact hb F σ ρ1 H1 q Q r1 h1 fun b ρ2 H2 h2 r2 k2=>k _ _ _ h2 r2 (k1.trans k2)
theorem g0b (ha:TTok K tt at'):TTok K (tNot tt) (aNot at'):=fun F σ ρ H q Q r h k=>ha F σ ρ H _ _ r h fun c ρ1 H1 h1 r1 k1=>k _ _ _ h1 r1 k1
def truD:D->Bool
 | .non=>false
 | .bl b=>b
 | .int i=>i != 0
 | .str _=>true
 | .tup ds=>!ds.isEmpty
 | .lst ds=>!ds.isEmpty
def aTru (a:AE):AT:=fun ρ q=>a ρ fun r ρ1=>match view ρ1 r.frz with
 | some (.str _)=>False
 | some d=>q (truD d) ρ1
 | none=>False
theorem n0z {Hh:Hp}{vs:List V}{ds:List D}(h:RepDs K Hh vs ds):vs.isEmpty=ds.isEmpty:=by
 have:=h.length
 cases vs <;> cases ds <;> simp_all
theorem g0a (ha:TEok K ta a):TTok K (fun σ H Q=>ta σ H fun x H'=>∃k,TruV K x H' k/\Q k H') (aTru a):=by
 intro F σ ρ H q Q r h k
 refine ha F σ ρ H _ _ r h fun r1 ρ1 x H1 h1 rel1=>?_
 obtain⟨r',k1,i1⟩:=rel1.inF
 cases e:view ρ1 r1.frz with
 | none=>rw[e]at h1;exact h1.elim
 | some d =>
  rw[e]at h1
  have rd:=f0p r' i1 e
  cases d with
  | str x=>exact h1.elim
  | non=>unfold RepD at rd;subst rd;exact⟨_,rfl,k _ _ _ h1 r' k1⟩
  | bl b=>unfold RepD at rd;subst rd;exact⟨_,rfl,k _ _ _ h1 r' k1⟩
  | int b=>unfold RepD at rd;subst rd;exact⟨_,rfl,k _ _ _ h1 r' k1⟩
  | tup ds =>
   unfold RepD at rd
   obtain⟨p,vs,rfl,sq,rr⟩:=rd
   exact⟨_,.inr (.inl ⟨vs,sq,by rw[n0z rr];rfl⟩),k _ _ _ h1 r' k1⟩
  | lst ds =>
   unfold RepD at rd
   obtain⟨p,vs,rfl,sq,rr⟩:=rd
   exact⟨_,.inl ⟨vs,sq,by rw[n0z rr];rfl⟩,k _ _ _ h1 r' k1⟩
def aIf (c:AT)(a b:AE):AE:=fun ρ q=>c ρ fun k ρ1=>if k=true then a ρ1 q else b ρ1 q
theorem k1w (hc:TTok K tt at')(ha:TEok K ta a)(hb:TEok K tb b):TEok K (tIf tt ta tb) (aIf at' a b):=by
 intro F σ ρ H q Q r h k
 refine hc F σ ρ H _ _ r h fun c ρ1 H1 h1 r1 k1=>?_
 cases c with
 | true=>exact ha F σ ρ1 H1 q Q r1 h1 (k.after k1)
 | false=>exact hb F σ ρ1 H1 q Q r1 h1 (k.after k1)
variable {ts:TA}{as:AA}
def aNil:AA:=fun ρ q=>q [] ρ
def o1r (a:AE)(as:AA):AA:=fun ρ q=>a ρ fun r ρ1=>as ρ1 fun rs ρ2=>q (r.frz::rs) ρ2
theorem a0d:TAok K tNil aNil:=fun F σ ρ H q Q r h k=>k _ _ _ _ h r .nil .refl
theorem a0a (ha:TEok K ta a)(hs:TAok K ts as):TAok K (a1k ta ts) (o1r a as):=by
 intro F σ ρ H q Q r h k
 refine ha F σ ρ H _ _ r h fun r1 ρ1 x H1 h1 rel1=>?_
 obtain⟨r',k1,i1⟩:=rel1.inF
 refine hs F σ ρ1 H1 _ _ r' h1 fun rs ρ2 vs H2 h2 r2 i2 k2=>?_
 exact k _ _ _ _ h2 r2 (.cons (i1.keep k2) i2) (k1.trans k2)
def sto:List R->En->(List D->En->Prop)->Prop
 | [],ρ,q=>q [] ρ
 | .d d::rs,ρ,q=>sto rs ρ fun ds ρ'=>q (d::ds) ρ'
 | .o i::rs,ρ,q=>(match gt ρ i with
  | .ow ds=>sto rs (pt ρ i (.vl (.lst ds))) fun es ρ'=>q (.lst ds::es) ρ'
  | .vl d=>sto rs ρ fun es ρ'=>q (d::es) ρ'
  | _=>False)
 | _::_,_,_=>False
theorem j0i:∀ {vs:List V} {rs:List R} {ρ:En} {q:List D->En->Prop},Rel K F σ ρ H->InFs K F σ ρ H vs rs->sto rs ρ q->∃ds ρ',q ds ρ'/\Rel K F σ ρ' H/\Kp σ ρ ρ' H H/\RepDs K (hid H (hs F σ ρ')) vs ds
 | _,_,ρ,q,r,.nil,h=>⟨[],ρ,h,r,.refl,.nil⟩
 | _,_,ρ,q,r,.cons (v:=v) (r:=rr) (vs:=vs) (rs:=rs) a t,h=>by
  cases rr with
  | n s=>exact h.elim
  | t n=>exact h.elim
  | x s=>exact h.elim
  | d d =>
   obtain⟨ds,ρ',hq,r',k,rd⟩:=j0i r t (show sto rs ρ _ from h)
   exact⟨d::ds,ρ',hq,r',k,.cons (RepD.same a k.vis) rd⟩
  | o i =>
   have s:=r.sl i
   unfold sto at h
   cases hg:gt ρ i with
   | un=>rw[hg]at h;exact h.elim
   | tp n=>rw[hg]at h;exact h.elim
   | dk n=>rw[hg]at h;exact h.elim
   | dt n=>rw[hg]at h;exact h.elim
   | ex n m=>rw[hg]at h;exact h.elim
   | sc n=>rw[hg]at h;exact h.elim
   | px n m k=>rw[hg]at h;exact h.elim
   | xl es=>rw[hg]at h;exact h.elim
   | ob _ _=>rw[hg]at h;exact h.elim
   | ll _=>rw[hg]at h;exact h.elim
   | ds _ _ _=>rw[hg]at h;exact h.elim
   | vl d =>
    rw[hg]at h s
    obtain⟨x,e,rd1⟩:=s
    rw[show σ[i]? = _ from a]at e
    injection e with e;injection e with e;subst e
    obtain⟨ds,ρ',hq,r',k,rd⟩:=j0i r t h
    exact⟨d::ds,ρ',hq,r',k,.cons (rd1.same k.vis) rd⟩
   | ow ds =>
    rw[hg]at h
    obtain⟨l,e,r1,k1,rd1⟩:=r.frz hg
    rw[show σ[i]? = _ from a]at e
    injection e with e;injection e with e;subst e
    obtain⟨es,ρ',hq,r',k,rd⟩:=j0i r1 (t.keep k1) h
    exact⟨_,ρ',hq,r',k1.trans k,.cons (rd1.same k.vis) rd⟩
theorem small {n:Nat}(h:n<=1000000):n<=aN:=by unfold aN;omega
theorem p0d {n:Nat}(h:n<=1000000):n<aN:=by unfold aN;omega
def aTup (as:AA):AE:=fun ρ q=>as ρ fun rs ρ1=>sto rs ρ1 fun ds ρ2=>ds.length<=1000000/\q (.d (.tup ds)) ρ2
def aLst (as:AA):AE:=fun ρ q=>as ρ fun rs ρ1=>sto rs ρ1 fun ds ρ2=>ds.length<=1000000/\q (.f ds) ρ2
theorem c0d (hs:TAok K ts as):TEok K (tTup ts) (aTup as):=by
 intro F σ ρ H q Q r h k
 refine hs F σ ρ H _ _ r h fun rs ρ1 vs H1 h1 r1 i1 k1=>?_
 obtain⟨ds,ρ2,⟨hz,hq⟩,r2,k2,rd⟩:=j0i r1 i1 h1
 exact⟨small (by rw[rd.length];exact hz),fun p hp=>((k.after k1).after k2).newT r2 hq rd hp⟩
theorem g0z (hs:TAok K ts as):TEok K (tLst ts) (aLst as):=by
 intro F σ ρ H q Q r h k
 refine hs F σ ρ H _ _ r h fun rs ρ1 vs H1 h1 r1 i1 k1=>?_
 obtain⟨ds,ρ2,⟨hz,hq⟩,r2,k2,rd⟩:=j0i r1 i1 h1
 exact⟨small (by rw[rd.length];exact hz),fun p hp=>((k.after k1).after k2).new r2 hq rd hp⟩
def aCB (g:List R->AE)(as:AA):AE:=fun ρ q=>as ρ fun rs ρ1=>g rs ρ1 q
theorem c0t {rb:List V->Hp->VK->Prop}{g:List R->AE}(hb:CbOk K rb g)(hs:TAok K ts as):TEok K (tCB rb ts) (aCB g as):=by
 intro F σ ρ H q Q r h k
 exact hs F σ ρ H _ _ r h fun rs ρ1 vs H1 h1 r1 i1 k1=>hb F σ ρ1 H1 vs rs q Q r1 i1 h1 (k.after k1)
theorem InFs.one {vs:List V}{r1:R}(h:InFs K F σ ρ H vs [r1]):∃x,vs=[x]/\InF K F σ ρ H x r1:=by
 cases h with | cons a t=>cases t;exact⟨_,rfl,a⟩
theorem InFs.two {vs:List V}{r1 r2:R}(h:InFs K F σ ρ H vs [r1,r2]):∃x y,vs=[x,y]/\InF K F σ ρ H x r1/\InF K F σ ρ H y r2:=by
 cases h with | cons a t=>obtain⟨y,rfl,b⟩:=t.one;exact⟨_,_,rfl,a,b⟩
def gLen:List R->AE:=fun rs ρ q=>match rs with
 | [r]=>(match view ρ r with
  | some (.lst ds)=>q (.d (.int ds.length)) ρ
  | some (.tup ds)=>q (.d (.int ds.length)) ρ
  | _=>False)
 | _=>False
theorem d0m:CbOk K (fun xs H Q=>∃p ys,xs=[.ref p]/\(SqL K H p ys∨SqT K H p ys)/\Q (.int ys.length) H) gLen:=by
 intro F σ ρ H vs rs q Q a i h b
 unfold gLen at h
 split at h
 ·obtain⟨x,rfl,i1⟩:=i.one
  split at h
  ·rename_i ds e
   obtain⟨l,vs,rfl,sq,rd⟩:=e0g a i1 e
   exact⟨l,vs,rfl,.inl sq,by rw[rd.length];exact b.int a h⟩
  ·rename_i ds e
   obtain⟨l,vs,rfl,sq,rd,_⟩:=f0z a i1 e
   exact⟨l,vs,rfl,.inr sq,by rw[rd.length];exact b.int a h⟩
  ·exact h.elim
 ·exact h.elim
@[irreducible] def gIsa:List R->AE:=fun rs ρ q=>match rs with
 | [r,.t n]=>(match view ρ r with
  | some d=>(match isaT (tyD d) n with | some b=>q (.d (.bl b)) ρ | none=>False)
  | none=>False)
 | _=>False
theorem f1z:CbOk K (fun xs H Q=>∃x d T b,xs=[x,.ty T]/\RepD K H x d/\isaT (tyD d) T=some b/\Q (.bl b) H) gIsa:=by
 intro F σ ρ H vs rs q Q a i h b
 unfold gIsa at h
 split at h
 ·obtain⟨x,y,rfl,i1,j1⟩:=i.two
  split at h
  ·rename_i d e
   split at h
   ·rename_i b' e'
    exact⟨x,d,_,b',by rw[show y=_ from j1],f0p a i1 e,e',b.bl a h⟩
   ·exact h.elim
  ·exact h.elim
 ·exact h.elim
def gList:List R->AE:=fun rs ρ q=>match rs with
 | [r]=>(match view ρ r with
  | some (.lst ds)=>q (.f ds) ρ
  | some (.tup ds)=>q (.f ds) ρ
  | _=>False)
 | _=>False
theorem d1g:CbOk K (fun xs H Q=>∃p ys,xs=[.ref p]/\(SqL K H p ys∨SqT K H p ys)/\∀l,H l=none->Q (.ref l) (upd H l (.lst ys))) gList:=by
 intro F σ ρ H vs rs q Q a i h b
 unfold gList at h
 split at h
 ·obtain⟨x,rfl,i1⟩:=i.one
  split at h
  ·rename_i ds e
   obtain⟨l,vs,rfl,sq,rd⟩:=e0g a i1 e
   exact⟨l,vs,rfl,.inl sq,fun p hp=>b.new a h rd hp⟩
  ·rename_i ds e
   obtain⟨l,vs,rfl,sq,rd,_⟩:=f0z a i1 e
   exact⟨l,vs,rfl,.inr sq,fun p hp=>b.new a h rd hp⟩
  ·exact h.elim
 ·exact h.elim
def gTuple:List R->AE:=fun rs ρ q=>match rs with
 | [r]=>(match view ρ r with
  | some (.lst ds)=>q (.d (.tup ds)) ρ
  | some (.tup ds)=>q (.d (.tup ds)) ρ
  | _=>False)
 | _=>False
theorem f0u:CbOk K (fun xs H Q=>∃p ys,xs=[.ref p]/\((SqL K H p ys/\∀l,H l=none->Q (.ref l) (upd H l (.tup ys)))∨(SqT K H p ys/\Q (.ref p) H))) gTuple:=by
 intro F σ ρ H vs rs q Q a i h b
 unfold gTuple at h
 split at h
 ·obtain⟨x,rfl,i1⟩:=i.one
  split at h
  ·rename_i ds e
   obtain⟨l,vs,rfl,sq,rd⟩:=e0g a i1 e
   exact⟨l,vs,rfl,.inl ⟨sq,fun p hp=>b.newT a h rd hp⟩⟩
  ·rename_i ds e
   obtain⟨l,vs,rfl,sq,rd,sq'⟩:=f0z a i1 e
   refine⟨l,vs,rfl,.inr ⟨sq,b.dat a h ?_⟩⟩
   unfold RepD
   exact⟨l,vs,rfl,sq',rd⟩
  ·exact h.elim
 ·exact h.elim
def gII (f:Int->Int->Int):List R->AE:=fun rs ρ q=>match rs with
 | [.d (.int i),.d (.int j)]=>q (.d (.int (f i j))) ρ
 | _=>False
theorem r0l:CbOk K (fun xs H Q=>∃i j,xs=[.int i,.int j]/\Q (.int (if j > i then j else i)) H) (gII fun i j=>if j > i then j else i):=by
 intro F σ ρ H vs rs q Q a i h b
 unfold gII at h
 split at h
 ·obtain⟨x,y,rfl,i1,j1⟩:=i.two
  exact⟨_,_,by rw[i1.int,j1.int],b.int a h⟩
 ·exact h.elim
theorem m0t:CbOk K (fun xs H Q=>∃i j,xs=[.int i,.int j]/\Q (.int (if j<i then j else i)) H) (gII fun i j=>if j<i then j else i):=by
 intro F σ ρ H vs rs q Q a i h b
 unfold gII at h
 split at h
 ·obtain⟨x,y,rfl,i1,j1⟩:=i.two
  exact⟨_,_,by rw[i1.int,j1.int],b.int a h⟩
 ·exact h.elim
def h0x:List D->Option (List Int)
 | []=>some []
 | .int i::ds=>(h0x ds).map (i :: ·)
 | _=>none
theorem s0u:∀ {ds:List D} {ns:List Int},h0x ds=some ns->ds=ns.map D.int
 | [],ns,h=>by simp[h0x]at h;subst h;rfl
 | .int i::ds,ns,h=>by
  simp only[h0x,aY]at h
  obtain⟨ms,e,rfl⟩:=h
  rw[s0u e];rfl
 | .non::ds,ns,h=>by simp[h0x]at h
 | .bl _::ds,ns,h=>by simp[h0x]at h
 | .str _::ds,ns,h=>by simp[h0x]at h
 | .tup _::ds,ns,h=>by simp[h0x]at h
 | .lst _::ds,ns,h=>by simp[h0x]at h
theorem y0x (ns:List Int):h0x (ns.map D.int)=some ns:=by
 induction ns with
 | nil=>rfl
 | cons n ns ih=>simp[h0x,ih]
def aApp (a:AE)(as:AA):AE:=fun ρ q=>a ρ fun r ρ1=>match r with
 | .o i=>(match gt ρ1 i with
  | .ow _=>as ρ1 fun rs ρ2=>(match rs with
   | [y]=>sto [y] ρ2 fun es ρ3=>(match gt ρ3 i with
    | .ow ds=>ds.length<=1000000/\q (.d .non) (pt ρ3 i (.ow (ds++es)))
    | _=>False)
   | _=>False)
  | _=>False)
 | _=>False
theorem j0p (ha:TEok K ta a)(hs:TAok K ts as):TEok K (tBM K "list" rAppend ta ts) (aApp a as):=by
 intro F σ ρ H q Q r h k
 refine ha F σ ρ H _ _ r h fun r1 ρ1 x H1 h1 rel1=>?_
 split at h1
 ·rename_i i
  obtain⟨r',k1,i1⟩:=rel1.inF
  have ex:σ[i]? = some (some x):=i1
  split at h1
  ·rename_i ds0 hg0
   have s:=r'.sl i
   rw[hg0,ex]at s
   obtain⟨l,vs0,e,hl,_⟩:=s
   injection e with e;injection e with e;subst e
   refine⟨.inl ⟨rfl,_,SqL.of hl⟩,hs F σ ρ1 H1 _ _ r' h1 fun rs ρ2 vs H2 h2 r2 i2 k2=>?_⟩
   split at h2
   ·obtain⟨es,ρ3,h3,r3,k3,rd⟩:=j0i r2 i2 h2
    split at h3
    ·rename_i ds hg
     have s:=r3.sl i
     rw[hg,ex]at s
     obtain⟨l',us,e,hl',rd'⟩:=s
     injection e with e;injection e with e;injection e with e;subst e
     obtain⟨y,rfl,_⟩:=i2.one
     have hw:=r3.write (i:=i) (l:=l) (o:=.lst (us++[y])) (s:=.ow (ds++es)) (by rw[hg];rfl) ex rfl ⟨l,_,rfl,a0z,rd'.append rd⟩
     refine⟨l,us,y,rfl,rfl,hl',p0d (by rw[rd'.length];exact h3.1),?_⟩
     exact(((k.after k1).after k2).after (k3.trans hw.2)).non hw.1 h3.2
    ·exact h3.elim
   ·exact h2.elim
  ·exact h1.elim
 ·exact h1.elim
abbrev AO:=En->(Option Int->En->Prop)->Prop
def TOok (K:aa)(t:TO)(a:AO):Prop:=∀F σ ρ H q Q,Rel K F σ ρ H->a ρ q->(∀b ρ' H',q b ρ'->Rel K F σ ρ' H'->Kp σ ρ ρ' H H'->Q b H')->t σ H Q
def oNo:AO:=fun ρ q=>q none ρ
def n1x (a:AE):AO:=fun ρ q=>a ρ fun r ρ1=>match r with
 | .d (.int i)=>q (some i) ρ1
 | _=>False
theorem g0y:TOok K tNoPart oNo:=fun F σ ρ H q Q r h k=>k _ _ _ h r .refl
theorem e0m (ha:TEok K ta a):TOok K (k1z ta) (n1x a):=by
 intro F σ ρ H q Q r h k
 refine ha F σ ρ H _ _ r h fun r1 ρ1 x H1 h1 rel1=>?_
 split at h1
 ·obtain⟨r',k1,i1⟩:=rel1.inF
  exact⟨_,i1.int,k _ _ _ h1 r' k1⟩
 ·exact h1.elim
def cutD (xs:List D)(lo hi:Option Int):List D:=(xs.drop (HT.sIx xs.length 0 lo)).take (HT.sIx xs.length xs.length hi - HT.sIx xs.length 0 lo)
theorem RepDs.drop:∀ {vs:List V} {ds:List D} (n:Nat),RepDs K H vs ds->RepDs K H (vs.drop n) (ds.drop n)
 | [],[],n,h=>by simp[RepDs.nil]
 | v::vs,d::ds,0,h=>h
 | v::vs,d::ds,n+1,h=>by unfold RepDs at h;exact RepDs.drop n h.2
 | [],d::ds,_,h=>by unfold RepDs at h;exact h.elim
 | v::vs,[],_,h=>by unfold RepDs at h;exact h.elim
theorem RepDs.take:∀ {vs:List V} {ds:List D} (n:Nat),RepDs K H vs ds->RepDs K H (vs.take n) (ds.take n)
 | [],[],n,h=>by simp[RepDs.nil]
 | v::vs,d::ds,0,h=>.nil
 | v::vs,d::ds,n+1,h=>by unfold RepDs at h;exact .cons h.1 (RepDs.take n h.2)
 | [],d::ds,_,h=>by unfold RepDs at h;exact h.elim
 | v::vs,[],_,h=>by unfold RepDs at h;exact h.elim
theorem c1z {vs:List V}{ds:List D}{lo hi:Option Int}(h:RepDs K H vs ds):RepDs K H (cutV vs lo hi) (cutD ds lo hi):=by
 unfold cutV cutD
 rw[h.length]
 exact(h.drop _).take _
def aSlL (a:AE)(l u:AO):AE:=fun ρ q=>a ρ fun r ρ1=>l ρ1 fun lo ρ2=>u ρ2 fun hi ρ3=>match view ρ3 r.frz with
 | some (.lst ds)=>q (.f (cutD ds lo hi)) ρ3
 | _=>False
theorem m0y {tl th:TO}{al au:AO}(ha:TEok K ta a)(hl:TOok K tl al)(hh:TOok K th au):TEok K (tSl (rSlL K) ta tl th) (aSlL a al au):=by
 intro F σ ρ H q Q r h k
 refine ha F σ ρ H _ _ r h fun r1 ρ1 x H1 h1 rel1=>?_
 obtain⟨r',k1,i1⟩:=rel1.inF
 refine hl F σ ρ1 H1 _ _ r' h1 fun lo ρ2 H2 h2 r2 k2=>?_
 refine hh F σ ρ2 H2 _ _ r2 h2 fun hi ρ3 H3 h3 r3 k3=>?_
 split at h3
 ·rename_i ds e
  obtain⟨p,vs,rfl,sq,rd⟩:=e0g r3 ((i1.keep k2).keep k3) e
  exact⟨p,vs,rfl,sq,fun p' hp=>(((k.after k1).after k2).after k3).new r3 h3 (c1z rd) hp⟩
 ·exact h3.elim
end
def e0n (ρ:En):R->Sv
 | .d d=>.vl d
 | .o j=>gt ρ j
 | .x s=>s
 | _=>.un
def Src (K:aa)(F:Fr)(σ:St)(ρ:En)(H:Hp)(ov:Option V):R->Prop
 | .d d=>∃v,ov=some v/\RepD K (hid H (hs F σ ρ)) v d
 | .o j=>(σ[j]?).getD none=ov
 | .x s=>∃v,ov=some v/\s.own=false/\SvOk K (hid H (hs F σ ρ)) H (some (some v)) s
 | _=>True
inductive Srcs (K:aa) (F:Fr) (σ:St) (ρ:En) (H:Hp):St->List R->Prop
 | nil:Srcs K F σ ρ H [] []
 | cons {v:Option V} {r:R} {vs:St} {rs:List R}:Src K F σ ρ H v r->Srcs K F σ ρ H vs rs->Srcs K F σ ρ H (v::vs) (r::rs)
def isO (j:Nat):R->Bool
 | .o i=>i==j
 | _=>false
def dis:List R->Bool
 | []=>true
 | .o j::rs=>rs.all (fun r=>!isO j r)&&dis rs
 | _::rs=>dis rs
theorem f1x:∀ {rs:List R} {k k' j:Nat},dis rs=true->rs[k]? = some (.o j)->rs[k']? = some (.o j)->k=k':=by
 intro rs
 induction rs with
 | nil=>intro k k' j _ h;simp at h
 | cons r rs ih =>
  intro k k' j hd h h'
  have hd':dis rs=true:=by
   cases r <;> simp[dis]at hd <;> first | exact hd.2 | exact hd
  have no:∀(m:Nat),r = .o j->rs[m]? = some (.o j)->False:=fun m e hm=>by
   subst e
   simp[dis]at hd
   have:=hd.1 _ (bz hm)
   simp[isO]at this
  cases k with
  | zero =>
   cases k' with
   | zero=>rfl
   | succ k'=>simp at h h';exact(no k' h h').elim
  | succ k =>
   cases k' with
   | zero=>simp at h h';exact(no k h' h).elim
   | succ k'=>simp at h h';rw[ih hd' h h']
def back:En->List R->En->En
 | ρ,.o j::rs,s::ss=>back (pt ρ j s) rs ss
 | ρ,_::rs,_::ss=>back ρ rs ss
 | ρ,_,_=>ρ
theorem h0q:∀(rs:List R) (ρ ss:En),(back ρ rs ss).length=ρ.length
 | [],ρ,ss=>by cases ss <;> rfl
 | r::rs,ρ,[]=>by cases r <;> rfl
 | .o j::rs,ρ,s::ss=>by show(back (pt ρ j s) rs ss).length=_;rw[h0q,j0j]
 | .d d::rs,ρ,s::ss=>h0q rs ρ ss
 | .n d::rs,ρ,s::ss=>h0q rs ρ ss
 | .t d::rs,ρ,s::ss=>h0q rs ρ ss
 | .x d::rs,ρ,s::ss=>h0q rs ρ ss
theorem j0x:∀(rs:List R) (ρ ss:En) (i:Nat),(∀k:Nat,rs[k]? ≠ some (R.o i))->gt (back ρ rs ss) i=gt ρ i
 | [],ρ,ss,i,_=>by cases ss <;> rfl
 | r::rs,ρ,[],i,_=>by cases r <;> rfl
 | .o j::rs,ρ,s::ss,i,h=>by
  have ne:j≠i:=fun e=>h 0 (by simp[e])
  show gt (back (pt ρ j s) rs ss) i=_
  rw[j0x rs _ ss i (fun k z=>h (k+1) (by simpa using z)),d0g ρ j i s ne]
 | .d d::rs,ρ,s::ss,i,h=>j0x rs ρ ss i (fun k z=>h (k+1) (by simpa using z))
 | .n d::rs,ρ,s::ss,i,h=>j0x rs ρ ss i (fun k z=>h (k+1) (by simpa using z))
 | .t d::rs,ρ,s::ss,i,h=>j0x rs ρ ss i (fun k z=>h (k+1) (by simpa using z))
 | .x d::rs,ρ,s::ss,i,h=>j0x rs ρ ss i (fun k z=>h (k+1) (by simpa using z))
theorem l0t:∀(rs:List R) (ρ ss:En) (i k:Nat),dis rs=true->rs[k]? = some (.o i)->ss.length=rs.length->i<ρ.length->gt (back ρ rs ss) i=gt ss k
 | [],ρ,ss,i,k,_,h,_,_=>by simp at h
 | r::rs,ρ,[],i,k,_,_,e,_=>by simp at e
 | .o j::rs,ρ,s::ss,i,0,hd,h,e,l=>by
  simp at h;subst h
  simp[dis]at hd
  show gt (back (pt ρ j s) rs ss) j=s
  rw[j0x rs _ ss j (fun k z=>by have:=hd.1 _ (bz z);simp[isO]at this),q0u ρ j s l]
 | .o j::rs,ρ,s::ss,i,k+1,hd,h,e,l=>by
  simp[dis]at hd
  exact l0t rs (pt ρ j s) ss i k hd.2 (by simpa using h) (by simpa using e) (by rw[j0j];exact l)
 | .d d::rs,ρ,s::ss,i,0,hd,h,e,l=>by simp at h
 | .n d::rs,ρ,s::ss,i,0,hd,h,e,l=>by simp at h
 | .t d::rs,ρ,s::ss,i,0,hd,h,e,l=>by simp at h
 | .x d::rs,ρ,s::ss,i,0,hd,h,e,l=>by simp at h
 | .d d::rs,ρ,s::ss,i,k+1,hd,h,e,l=>l0t rs ρ ss i k hd (by simpa using h) (by simpa using e) l
 | .n d::rs,ρ,s::ss,i,k+1,hd,h,e,l=>l0t rs ρ ss i k hd (by simpa using h) (by simpa using e) l
 | .t d::rs,ρ,s::ss,i,k+1,hd,h,e,l=>l0t rs ρ ss i k hd (by simpa using h) (by simpa using e) l
 | .x d::rs,ρ,s::ss,i,k+1,hd,h,e,l=>l0t rs ρ ss i k hd (by simpa using h) (by simpa using e) l
theorem s0v (ρ:En):∀(rs:List R) (k:Nat),gt (rs.map (e0n ρ)) k=(match rs[k]? with | some r=>e0n ρ r | none=>.un)
 | [],k=>by simp[gt]
 | r::rs,0=>by simp[gt]
 | r::rs,k+1=>by simp[gt,s0v ρ rs k]
section
variable {K:aa}{F:Fr}{σ:St}{ρ ρ':En}{H H':Hp}{ovs:St}{rs:List R}
theorem Srcs.length (s:Srcs K F σ ρ H ovs rs):ovs.length=rs.length:=by
 induction s with
 | nil=>rfl
 | cons _ _ ih=>simp[ih]
theorem Srcs.get {k:Nat}{r:R}(s:Srcs K F σ ρ H ovs rs)(h:rs[k]? = some r):∃ov,ovs[k]? = some ov/\Src K F σ ρ H ov r:=by
 induction s generalizing k with
 | nil=>simp at h
 | cons a _ ih =>
  cases k with
  | zero=>simp at h;subst h;exact⟨_,rfl,a⟩
  | succ k=>obtain⟨ov,e,q⟩:=ih (by simpa using h);exact⟨ov,by simpa using e,q⟩
def f0m (F:Fr)(σ:St)(ρ:En)(H:Hp)(ovs:St)(ss:En):Fr :=
 ⟨H,fun a=>F.Z a∨(c0p σ ρ a/\¬c0p ovs ss a),fun a=>c0p ovs ss a,fun i a=>(gt ss i).own=true/\ovs[i]? = some (some (.ref a)),fun _ _=>False⟩
theorem t0x (s:Srcs K F σ ρ H ovs rs){k:Nat}(h:(gt (rs.map (e0n ρ)) k).own=true):∃j:Nat,rs[k]? = some (R.o j)/\(gt ρ j).own=true/\gt (rs.map (e0n ρ)) k=gt ρ j/\ovs[k]? = some ((σ[j]?).getD none):=by
 rw[s0v]at h
 cases e:rs[k]? with
 | none=>simp[e]at h;cases h
 | some r =>
  rw[e]at h
  cases r with
  | d d=>cases h
  | n d=>cases h
  | t d=>cases h
  | x d =>
   obtain⟨ov,_,_,_,hx,_⟩:=s.get e
   have h:d.own=true:=h
   rw[hx]at h;cases h
  | o j =>
   obtain⟨ov,e1,e2⟩:=s.get e
   exact⟨j,rfl,h,by rw[s0v,e];rfl,by rw[e1,show _=ov from e2]⟩
theorem q0v {x:Option (Option V)}{a:Addr}(h:some (x.getD none)=some (some (V.ref a))):x=some (some (.ref a)):=by
 cases x with
 | none=>simp at h
 | some y=>simpa using h
theorem f0f (s:Srcs K F σ ρ H ovs rs){a:Addr}(h:c0p ovs (rs.map (e0n ρ)) a):∃k j:Nat,rs[k]? = some (R.o j)/\(gt ρ j).own=true/\σ[j]? = some (some (V.ref a))/\ovs[k]? = some (some (V.ref a)):=by
 obtain⟨k,hk,e⟩:=h
 obtain⟨j,e1,e2,e3,e4⟩:=t0x s hk
 rw[e]at e4
 exact⟨k,j,e1,e2,q0v e4.symm,e⟩
theorem r0w (r:Rel K F σ ρ H)(s:Srcs K F σ ρ H ovs rs):hs (f0m F σ ρ H ovs (rs.map (e0n ρ))) ovs (rs.map (e0n ρ))=hs F σ ρ:=by
 funext a
 apply propext
 constructor
 ·rintro((h | h) | h)
  ·exact .inl h
  ·exact .inr h.1
  ·obtain⟨k,j,e1,e2,e3,_⟩:=f0f s h
   exact .inr ⟨j,e2,e3⟩
 ·rintro(h | h)
  ·exact .inl (.inl h)
  ·by_cases q:c0p ovs (rs.map (e0n ρ)) a
   ·exact .inr q
   ·exact .inl (.inr ⟨h,q⟩)
theorem Rel.sub (r:Rel K F σ ρ H)(s:Srcs K F σ ρ H ovs rs)(hd:dis rs=true):Rel K (f0m F σ ρ H ovs (rs.map (e0n ρ))) ovs (rs.map (e0n ρ)) H:=by
 refine⟨by rw[s.length,aw],fun a o e _=>e,fun a z=>?_,fun a h z=>?_,fun i a hi e=>.inl ⟨⟨hi,e⟩,i,hi,e⟩,fun i a h=>?_,fun a h=>?_,fun a h=>?_,fun i j a hi hj ei ej=>?_,fun k=>?_⟩
 ·rcases z with z | z
  ·exact r.zl a z
  ·exact w0y r z.1
 ·obtain⟨k,j,e1,e2,e3,_⟩:=f0f s h
  rcases z with z | z
  ·exact r.zo a ⟨j,e2,e3⟩ z
  ·exact z.2 h
 ·rcases h with h | h
  ·exact h.2
  ·exact h.elim
 ·obtain⟨k,j,e1,e2,e3,_⟩:=f0f s h
  exact h0g r ⟨j,e2,e3⟩
 ·obtain⟨k,j,e1,e2,e3,_⟩:=f0f s h
  exact h0g r ⟨j,e2,e3⟩
 ·obtain⟨p,a1,a2,a3,a4⟩:=t0x s hi
  obtain⟨p',b1,b2,b3,b4⟩:=t0x s hj
  rw[ei]at a4
  rw[ej]at b4
  have:p=p':=r.nd p p' a a2 b2 (q0v a4.symm) (q0v b4.symm)
  subst this
  exact f1x hd a1 b1
 ·rw[r0w r s,s0v]
  cases e:rs[k]? with
  | none=>trivial
  | some x =>
   obtain⟨ov,e1,e2⟩:=s.get e
   cases x with
   | n d=>trivial
   | t d=>trivial
   | x d=>obtain⟨v,e3,_,e4⟩:=e2;rw[e1,e3];exact e4
   | d d=>obtain⟨v,e3,e4⟩:=e2;rw[e1,e3];exact⟨v,rfl,e4⟩
   | o j =>
    rw[e1]
    have q:=r.sl j
    show SvOk K _ H (some ov) (gt ρ j)
    rw[<- show(σ[j]?).getD none=ov from e2]
    cases e5:σ[j]? with
    | none =>
     rw[e5]at q
     cases hg:gt ρ j with
     | un=>trivial
     | vl d=>rw[hg]at q;obtain⟨x,z,_⟩:=q;cases z
     | ow d=>rw[hg]at q;obtain⟨x,_,z,_⟩:=q;cases z
     | tp d=>rw[hg]at q;obtain⟨x,_,_,_,_,z,_⟩:=q;cases z
     | dk d=>rw[hg]at q;obtain⟨x,_,z,_⟩:=q;cases z
     | dt d=>rw[hg]at q;obtain⟨x,_,z,_⟩:=q;cases z
     | ex d m=>rw[hg]at q;obtain⟨x,_,z,_⟩:=q;cases z
     | sc d=>rw[hg]at q;obtain⟨x,z,_⟩:=q;cases z
     | px d m k=>rw[hg]at q;obtain⟨x,_,_,_,z,_⟩:=q;cases z
     | xl es=>rw[hg]at q;obtain⟨x,_,z,_⟩:=q;cases z
     | ob _ _=>rw[hg]at q;obtain⟨x,_,_,z,_⟩:=q;cases z
     | ll _=>rw[hg]at q;obtain⟨x,_,_,z,_⟩:=q;cases z
     | ds _ _ _=>rw[hg]at q;obtain⟨x,_,_,_,_,_,z,_⟩:=q;cases z
    | some y=>rw[e5]at q;exact q
theorem Rel.back (r:Rel K F σ ρ H)(s:Srcs K F σ ρ H ovs rs)(hd:dis rs=true){ss':En}(r':Rel K (f0m F σ ρ H ovs (rs.map (e0n ρ))) ovs ss' H')(sb:∀i,(gt ss' i).own=true->(gt (rs.map (e0n ρ)) i).own=true) :
  Rel K F σ (L2.back ρ rs ss') H'/\Kp σ ρ (L2.back ρ rs ss') H H'/\Same (hid H' (hs (f0m F σ ρ H ovs (rs.map (e0n ρ))) ovs ss')) (hid H' (hs F σ (L2.back ρ rs ss'))):=by
 have ln:ss'.length=rs.length:=by rw[<- r'.len,s.length]
 have cs:∀i:Nat,(∃k:Nat,rs[k]? = some (R.o i)/\i<ρ.length/\gt (L2.back ρ rs ss') i=gt ss' k)∨((∀k:Nat,i<ρ.length->rs[k]? ≠ some (R.o i))/\gt (L2.back ρ rs ss') i=gt ρ i):=fun i=>by
  by_cases hi:i<ρ.length
  ·by_cases q:∃k:Nat,rs[k]? = some (R.o i)
   ·obtain⟨k,e⟩:=q
    exact .inl ⟨k,e,hi,l0t rs ρ ss' i k hd e ln hi⟩
   ·exact .inr ⟨fun k _ z=>q ⟨k,z⟩,j0x rs ρ ss' i fun k z=>q ⟨k,z⟩⟩
  ·refine .inr ⟨fun k z=>absurd z hi,?_⟩
   rw[p0n _ i (by rw[h0q];omega),p0n _ i (by omega)]
 have own':∀i,(gt (L2.back ρ rs ss') i).own=true->(gt ρ i).own=true:=fun i h=>by
  rcases cs i with⟨k,e,hi,g⟩ | ⟨_,g⟩
  ·rw[g]at h
   have:=sb k h
   rw[s0v,e]at this
   exact this
  ·rw[g]at h;exact h
 have subo:∀ {a},c0p σ (L2.back ρ rs ss') a->c0p σ ρ a:=fun⟨i,hi,e⟩=>⟨i,own' i hi,e⟩
 have no:∀a,¬c0p σ ρ a->¬c0p ovs (rs.map (e0n ρ)) a:=fun a h z=>by
  obtain⟨k,j,e1,e2,e3,_⟩:=f0f s z
  exact h ⟨j,e2,e3⟩
 have st:∀a o,H a=some o->¬c0p ovs (rs.map (e0n ρ)) a->H' a=some o:=fun a o e n=>r'.fr a o e n
 have hsub:∀a,hs F σ (L2.back ρ rs ss') a->hs (f0m F σ ρ H ovs (rs.map (e0n ρ))) ovs ss' a:=fun a h=>by
  rcases h with h | ⟨i,hi,e⟩
  ·exact .inl (.inl h)
  ·rcases cs i with⟨k,e1,hl,g⟩ | ⟨n,g⟩
   ·right
    rw[g]at hi
    obtain⟨ov,q1,q2⟩:=s.get e1
    refine⟨k,hi,?_⟩
    rw[q1,<- show(σ[i]?).getD none=ov from q2,e]
    rfl
   ·left;right
    rw[g]at hi
    refine⟨⟨i,hi,e⟩,fun z=>?_⟩
    obtain⟨k,j,e1,e2,e3,_⟩:=f0f s z
    have:i=j:=r.nd i j a hi e2 e e3
    subst this
    exact n k (n0m hi) e1
 have v1:Same (hid H' (hs (f0m F σ ρ H ovs (rs.map (e0n ρ))) ovs ss')) (hid H' (hs F σ (L2.back ρ rs ss'))):=b0v fun a o e n=>⟨e,fun z=>n (hsub a z)⟩
 have v2:Same (hid H (hs F σ ρ)) (hid H' (hs F σ (L2.back ρ rs ss'))):=b0v fun a o e n=>⟨st a o e (no a fun z=>n (.inr z)),fun z=>n (z.imp id subo)⟩
 refine⟨⟨by rw[h0q,r.len],fun a o e n=>?_,fun a z=>r'.zl a (.inl z),fun a h=>r.zo a (subo h),fun i a hi e=>r.ow i a (own' i hi) e,r.mi,r.ml,fun a z=>?_,fun i j a hi hj ei ej=>r.nd i j a (own' i hi) (own' j hj) ei ej,fun i=>?_⟩,⟨fun a o e n=>st a o e (no a n),own'⟩,v1⟩
 ·have e1:=r.fr a o e n
  refine st a o e1 fun z=>?_
  obtain⟨k,j,h1,h2,h3,_⟩:=f0f s z
  rcases r.ow j a h2 h3 with q | q
  ·exact n q.2
  ·rw[e]at q;cases q
 ·by_cases q:c0p ovs (rs.map (e0n ρ)) a
  ·exact r'.ma a q
  ·cases h:H a with
   | none=>exact absurd h (r.ma a z)
   | some o=>rw[st a o h q];exact fun z=>nomatch z
 ·rcases cs i with⟨k,e1,hl,g⟩ | ⟨n,g⟩
  ·rw[g]
   have q:=(r'.sl k).keep v1 fun _ _ _ _ e=>e
   obtain⟨ov,q1,q2⟩:=s.get e1
   rw[q1,<- show(σ[i]?).getD none=ov from q2]at q
   cases e5:σ[i]? with
   | none =>
    rw[e5]at q
    cases hg:gt ss' k with
    | un=>trivial
    | vl d=>rw[hg]at q;obtain⟨x,z,_⟩:=q;cases z
    | ow d=>rw[hg]at q;obtain⟨x,_,z,_⟩:=q;cases z
    | tp d=>rw[hg]at q;obtain⟨x,_,_,_,_,z,_⟩:=q;cases z
    | dk d=>rw[hg]at q;obtain⟨x,_,z,_⟩:=q;cases z
    | dt d=>rw[hg]at q;obtain⟨x,_,z,_⟩:=q;cases z
    | ex d m=>rw[hg]at q;obtain⟨x,_,z,_⟩:=q;cases z
    | sc d=>rw[hg]at q;obtain⟨x,z,_⟩:=q;cases z
    | px d m k=>rw[hg]at q;obtain⟨x,_,_,_,z,_⟩:=q;cases z
    | xl es=>rw[hg]at q;obtain⟨x,_,z,_⟩:=q;cases z
    | ob _ _=>rw[hg]at q;obtain⟨x,_,_,z,_⟩:=q;cases z
    | ll _=>rw[hg]at q;obtain⟨x,_,_,z,_⟩:=q;cases z
    | ds _ _ _=>rw[hg]at q;obtain⟨x,_,_,_,_,_,z,_⟩:=q;cases z
   | some y=>rw[e5]at q;exact q
  ·rw[g]
   refine(r.sl i).keep v2 fun l o ho e h=>st l o h fun z=>?_
   obtain⟨k,j,e1,e2,e3,_⟩:=f0f s z
   have:i=j:=r.nd i j l ho e2 e e3
   subst this
   exact n k (n0m ho) e1
end
abbrev ASp:=En->Ko->Prop
def F0 (vs:List V)(ss:En)(H:Hp)(Z:Addr->Prop):Fr:=⟨H,Z,fun a=>c0p (vs.map some) ss a,fun i a=>(gt ss i).own=true/\(vs.map some)[i]? = some (some (.ref a)),fun _ _=>False⟩
def spA (K:aa)(S:ASp):Sp:=fun vs H Q _=>∃ss Z q,Rel K (F0 vs ss H Z) (vs.map some) ss H/\S ss q /\
 ∀r ss' v H',q r ss'->(∀i,(gt ss' i).own=true->(gt ss i).own=true)->(∀i,r ≠ .o i)->RelR K (F0 vs ss H Z) (vs.map some) ss' v H' r->Q v H'
def o1t (S:ASp)(as:AA):AE:=fun ρ q=>as ρ fun rs ρ1=>dis rs=true/\S (rs.map (e0n ρ1)) fun r ss'=>q r (back ρ1 rs ss')
section
variable {K:aa}{F:Fr}{σ:St}{ρ ρ':En}{H H':Hp}{ovs:St}{rs:List R}
theorem InFs.srcs {vs:List V}(h:InFs K F σ ρ H vs rs):Srcs K F σ ρ H (vs.map some) rs:=by
 induction h with
 | nil=>exact .nil
 | cons a t ih =>
  rename_i v r vs rs
  refine .cons ?_ ih
  cases r with
  | d d=>exact⟨v,rfl,a⟩
  | o j=>show(σ[j]?).getD none=some v;rw[show σ[j]? = _ from a];rfl
  | n s=>trivial
  | t n=>trivial
  | x n=>exact⟨v,rfl,a⟩
theorem a0q {S:ASp}{E:XK}{ts:TA}{as:AA}(hs':TAok K ts as):TEok K (h1s (spA K S) [] E ts) (o1t S as):=by
 intro F σ ρ H q Q r h k
 refine hs' F σ ρ H _ _ r h fun rs ρ1 vs H1 h1 r1 i1 k1=>?_
 obtain⟨hd,hS⟩:=h1
 have s:=i1.srcs
 rw[bq]
 refine⟨rs.map (e0n ρ1),(f0m F σ ρ1 H1 (vs.map some) (rs.map (e0n ρ1))).Z,_,r1.sub s hd,hS,fun rr ss' v H' hq sb no out=>?_⟩
 refine(k.after k1) rr (back ρ1 rs ss') v H' hq ?_
 cases rr with
 | o i=>exact absurd rfl (no i)
 | d d =>
  obtain⟨a,b⟩:=out
  obtain⟨x,y,z⟩:=r1.back s hd a sb
  exact⟨x,y,RepD.same b z⟩
 | x sv =>
  obtain⟨a,b,c⟩:=out
  obtain⟨x,y,z⟩:=r1.back s hd a sb
  exact⟨x,y,b,c.keep z fun l o ho=>by rw[b]at ho;cases ho⟩
 | t n =>
  obtain⟨a,b⟩:=out
  obtain⟨x,y,z⟩:=r1.back s hd a sb
  exact⟨x,y,b⟩
 | n sv =>
  obtain⟨Hb,l,o,a,b,c,e1,e2,e3⟩:=out
  obtain⟨x,y,z⟩:=r1.back s hd a sb
  exact⟨Hb,l,o,x,y,b,c.keep z fun _ _ _ _ e=>e,e1,e2,e3⟩
end
section
variable {K:aa}{F:Fr}{σ σ':St}{ρ ρ':En}{H H':Hp}
open Classical in
noncomputable def rebase (F:Fr)(σ:St)(ρ:En)(H:Hp)(pin:Nat->Bool):Fr :=
 ⟨fun a=>if c0p σ ρ a/\F.H0 a=none then none else H a,F.Z,fun a=>F.M a/\c0p σ ρ a,F.I,fun i a=>F.P i a∨(pin i=true/\σ[i]? = some (some (.ref a)))⟩
open Classical in
theorem n0f {pin:Nat->Bool}{a:Addr}{o:HO}(h:¬(c0p σ ρ a/\F.H0 a=none))(e:H a=some o):(rebase F σ ρ H pin).H0 a=some o:=by
 show(if c0p σ ρ a/\F.H0 a=none then none else H a)=some o
 rw[if_neg h];exact e
open Classical in
theorem l1k {pin:Nat->Bool}{a:Addr}{o:HO}(e:(rebase F σ ρ H pin).H0 a=some o):H a=some o:=by
 have e':(if c0p σ ρ a/\F.H0 a=none then none else H a)=some o:=e
 split at e'
 ·cases e'
 ·exact e'
open Classical in
theorem Rel.rebase (r:Rel K F σ ρ H)(pin:Nat->Bool):Rel K (L2.rebase F σ ρ H pin) σ ρ H where
 len:=r.len
 fr:=fun a o e _=>l1k e
 zl:=r.zl
 zo:=r.zo
 ow:=fun i a hi e=>by
  rcases r.ow i a hi e with⟨h1,h2⟩ | h
  ·exact .inl ⟨h1,h2,i,hi,e⟩
  ·refine .inr ?_
   show(if c0p σ ρ a/\F.H0 a=none then none else H a)=none
   rw[if_pos ⟨⟨i,hi,e⟩,h⟩]
 mi:=fun i a h=>by
  rcases h with h | h | h
  ·exact r.mi i a (.inl h)
  ·exact r.mi i a (.inr h)
  ·exact h.2
 ml:=fun a h=>by
  cases e:H a with
  | none=>exact absurd e (r.ma a h.1)
  | some o=>rw[n0f (fun z=>r.ml a h.1 z.2) e];exact fun z=>nomatch z
 ma:=fun a h=>r.ma a h.1
 nd:=r.nd
 sl:=r.sl
theorem Rel.unbase {pin:Nat->Bool}(r:Rel K F σ ρ H)(r':Rel K (L2.rebase F σ ρ H pin) σ' ρ' H'):Rel K F σ' ρ' H'/\Same (hid H (hs F σ ρ)) (hid H' (hs F σ' ρ')):=by
 refine⟨⟨r'.len,fun a o e n=>?_,r'.zl,r'.zo,fun i a hi e=>?_,fun i a h=>r'.mi i a (h.imp id .inl),r.ml,fun a h=>?_,r'.nd,r'.sl⟩,b0v fun a o e n=>?_⟩
 ·exact r'.fr a o (n0f (fun z=>by rw[e]at z;cases z.2) (r.fr a o e n)) fun z=>n z.1
 ·rcases r'.ow i a hi e with⟨h1,h2⟩ | h
  ·exact .inl ⟨h1,h2.1⟩
  ·right
   cases h0:F.H0 a with
   | none=>rfl
   | some o =>
    exfalso
    have nn:H a≠none:=by
     by_cases q:F.M a
     ·exact r.ma a q
     ·rw[r.fr a o h0 q];exact fun z=>nomatch z
    cases e2:H a with
    | none=>exact nn e2
    | some u =>
     rw[n0f (fun z=>by rw[h0]at z;cases z.2) e2]at h
     cases h
 ·by_cases q:c0p σ ρ a
  ·exact r'.ma a ⟨h,q⟩
  ·cases e:H a with
   | none=>exact absurd e (r.ma a h)
   | some o=>rw[r'.fr a o (n0f (fun z=>q z.1) e) fun z=>q z.2];exact fun z=>nomatch z
 ·have n':¬c0p σ ρ a:=fun z=>n (.inr z)
  have e0:=n0f (F:=F) (pin:=pin) (fun z=>n' z.1) e
  refine⟨r'.fr a o e0 fun z=>n' z.2,fun z=>?_⟩
  rcases z with z | ⟨i,hi,ei⟩
  ·exact n (.inl z)
  ·rcases r'.ow i a hi ei with⟨_,h2⟩ | h
   ·exact n' h2.2
   ·rw[e0]at h;cases h
theorem RelR.unbase {pin:Nat->Bool}{v:V}{rr:R}(r:Rel K F σ ρ H)(r':RelR K (L2.rebase F σ ρ H pin) σ' ρ' v H' rr):RelR K F σ' ρ' v H' rr:=by
 cases rr with
 | d d=>exact⟨(r.unbase r'.1).1,r'.2⟩
 | o d=>exact⟨(r.unbase r'.1).1,r'.2⟩
 | t d=>exact⟨(r.unbase r'.1).1,r'.2⟩
 | x d=>exact⟨(r.unbase r'.1).1,r'.2⟩
 | n s =>
  obtain⟨Hb,l,o,a,b,c,e⟩:=r'
  exact⟨Hb,l,o,(r.unbase a).1,b,c,e⟩
end
structure n1o (K:aa)(F:Fr)(D:Ends)(e:t0t):Prop where
 nx:∀ σ' ρ' H',e.nx ρ'->Rel K F σ' ρ' H'->D.nx σ' H'
 bk:∀ σ' ρ' H',e.bk ρ'->Rel K F σ' ρ' H'->D.bk σ' H'
 ct:∀ σ' ρ' H',e.ct ρ'->Rel K F σ' ρ' H'->D.ct σ' H'
 rt:∀ σ' ρ' r v H',e.rt r ρ'->RelR K F σ' ρ' v H' r->D.rt v H'
def TSok (K:aa)(pr:Nat->Bool)(t:TS)(a:AS):Prop:=∀F σ ρ H D e,(∀i a,F.pin i a->pr i=true)->Rel K F σ ρ H->a e ρ->n1o K F D e->t D σ H
abbrev AG:=D->En->(En->Prop)->Prop
abbrev AGs:=List D->En->(En->Prop)->Prop
def TGok (K:aa)(pr:Nat->Bool)(g:TG)(ag:AG):Prop:=∀F σ ρ H v d k Q,(∀i a,F.pin i a->pr i=true)->Rel K F σ ρ H->RepD K (hid H (hs F σ ρ)) v d->ag d ρ k ->
 (∀ σ' ρ',k ρ'->Rel K F σ' ρ' H->σ'.length=σ.length->(∀i,pr i=true->σ'[i]? = σ[i]?)->(∀i,(gt ρ' i).own=true->(gt ρ i).own=true/\σ'[i]? = σ[i]?)->Q σ' H)->g v σ H Q
def g1d (K:aa)(pr:Nat->Bool)(n:Nat)(g:TGs)(ag:AGs):Prop:=(∀ds ρ k,ag ds ρ k->ds.length=n)/\∀F σ ρ H vs ds k Q,(∀i a,F.pin i a->pr i=true)->Rel K F σ ρ H->RepDs K (hid H (hs F σ ρ)) vs ds->ag ds ρ k ->
 (∀ σ' ρ',k ρ'->Rel K F σ' ρ' H->σ'.length=σ.length->(∀i,pr i=true->σ'[i]? = σ[i]?)->(∀i,(gt ρ' i).own=true->(gt ρ i).own=true/\σ'[i]? = σ[i]?)->Q σ' H)->g vs σ H Q
section
variable {K:aa}{pr:Nat->Bool}{t u:TS}{a b:AS}{te:TE}{ae:AE}{tt:TT}{at':AT}
theorem i1s {F:Fr}{i:Nat}(hp:∀i a,F.pin i a->pr i=true)(h:pr i=false):∀a,¬F.pin i a:=fun a z=>by rw[hp i a z]at h;cases h
def h0y (i:Nat):AG:=fun d ρ k=>k (pt ρ i (.vl d))
theorem a0i {i:Nat}(h:pr i=false):TGok K pr (f1r i) (h0y i):=by
 intro F σ ρ H v d k Q hp r hd ha kk
 refine kk _ _ ha (r.set hd (i1s hp h)) (by rw[i8]) (fun j hj=>?_) fun j hj=>?_
 ·rw[bm];rintro rfl;rw[h]at hj;cases hj
 ·obtain⟨ne,q⟩:=i0e rfl hj
  exact⟨q,by rw[bm ne]⟩
def gaNil:AGs:=fun ds ρ k=>match ds with
 | []=>k ρ
 | _=>False
def i0l (g:AG)(gs:AGs):AGs:=fun ds ρ k=>match ds with
 | d::r=>g d ρ fun ρ1=>gs r ρ1 k
 | []=>False
theorem b0i:g1d K pr 0 gNil gaNil:=by
 refine⟨fun ds ρ k h=>?_,?_⟩
 ·cases ds with
  | nil=>rfl
  | cons _ _=>exact h.elim
 intro F σ ρ H vs ds k Q hp r hd ha kk
 cases ds with
 | cons _ _=>exact ha.elim
 | nil =>
  cases vs with
  | nil=>exact⟨rfl,kk _ _ ha r rfl (fun _ _=>rfl) fun _ h=>⟨h,rfl⟩⟩
  | cons v vs=>unfold RepDs at hd;exact hd.elim
theorem i1l {F:Fr}{σ σ':St}{ρ ρ':En}{H:Hp}(h:∀i,(gt ρ' i).own=true->(gt ρ i).own=true/\σ'[i]? = σ[i]?):Same (hid H (hs F σ ρ)) (hid H (hs F σ' ρ')):=b0v fun a o e n=>⟨e,fun z=>by
 rcases z with z | ⟨i,hi,ei⟩
 ·exact n (.inl z)
 ·obtain⟨q1,q2⟩:=h i hi
  exact n (.inr ⟨i,q1,q2▸ei⟩)⟩
theorem a0j {g:TG}{gs:TGs}{ag:AG}{ags:AGs}{n:Nat}(h:TGok K pr g ag)(hs':g1d K pr n gs ags)(gl:∀d ρ k,ag d ρ k->∃ ρ',k ρ'):g1d K pr (n+1) (n1a g gs) (i0l ag ags):=by
 refine⟨fun ds ρ k ha=>?_,?_⟩
 ·cases ds with
  | nil=>exact ha.elim
  | cons d ds=>obtain⟨ρ',q⟩:=gl _ _ _ ha;rw[aS,hs'.1 _ _ _ q]
 intro F σ ρ H vs ds k Q hp r hd ha kk
 cases ds with
 | nil=>exact ha.elim
 | cons d ds =>
  cases vs with
  | nil=>unfold RepDs at hd;exact hd.elim
  | cons v vs =>
   unfold RepDs at hd
   refine⟨v,vs,rfl,h F σ ρ H v d _ _ hp r hd.1 ha fun σ1 ρ1 h1 r1 l1 p1 o1=>?_⟩
   refine hs'.2 F σ1 ρ1 H vs ds _ _ hp r1 (hd.2.same (i1l o1)) h1 fun σ2 ρ2 h2 r2 l2 p2 o2=>?_
   refine kk _ _ h2 r2 (l2.trans l1) (fun i hi=>(p2 i hi).trans (p1 i hi)) fun i hi=>?_
   obtain⟨a1,a2⟩:=o2 i hi
   obtain⟨b1,b2⟩:=o1 i a1
   exact⟨b1,a2.trans b2⟩
def v0m (n:Nat)(gs:AGs):AG:=fun d ρ k=>match d with
 | .tup ds=>gs ds ρ k
 | _=>False
theorem a0w {i:Nat}{d:D}{ρ:En}{k:En->Prop}(h:h0y i d ρ k):∃ ρ',k ρ':=⟨_,h⟩
theorem b0s {gs:TGs}{ags:AGs}{n:Nat}(hs':g1d K pr n gs ags):TGok K pr (gTup K n gs) (v0m n ags):=by
 intro F σ ρ H v d k Q hp r hd ha kk
 unfold v0m at ha
 split at ha
 ·rename_i ds
  unfold RepD at hd
  obtain⟨p,vs,rfl,sq,rd⟩:=hd
  exact⟨p,vs,rfl,d0b.seqT sq.sq,by rw[rd.length];exact hs'.1 _ _ _ ha,hs'.2 F σ ρ H vs ds k Q hp r rd ha kk⟩
 ·exact ha.elim
def aNext:AS:=fun e ρ=>e.nx ρ
def aSeq (a b:AS):AS:=fun e ρ=>a {e with nx:=b e} ρ
theorem b0t:TSok K pr tNext aNext:=fun F σ ρ H D e hp r h k=>k.nx _ _ _ h r
theorem a0k (ha:TSok K pr t a)(hb:TSok K pr u b):TSok K pr (tSeq t u) (aSeq a b):=fun F σ ρ H D e hp r h k =>
 ha F σ ρ H _ _ hp r h ⟨fun σ' ρ' H' h' r'=>hb F σ' ρ' H' D e hp r' h' k,k.bk,k.ct,k.rt⟩
def o1p (x:AE):AS:=fun e ρ=>x ρ fun _ ρ1=>e.nx ρ1
theorem g0c (h:TEok K te ae):TSok K pr (l1b te) (o1p ae):=fun F σ ρ H D e hp r ha k =>
 h F σ ρ H _ _ r ha fun r1 ρ1 v H1 h1 o=>k.nx _ _ _ h1 o.inF.1
def aRet (x:AE):AS:=fun e ρ=>x ρ e.rt
theorem a0u (h:TEok K te ae):TSok K pr (tRet te) (aRet ae):=fun F σ ρ H D e hp r ha k =>
 h F σ ρ H _ _ r ha fun r1 ρ1 v H1 h1 o=>k.rt _ _ _ _ _ h1 o.rel
def aIfS (c:AT)(a b:AS):AS:=fun e ρ=>c ρ fun k ρ1=>if k=true then a e ρ1 else b e ρ1
theorem d0o (hc:TTok K tt at')(ha:TSok K pr t a)(hb:TSok K pr u b):TSok K pr (tIfS tt t u) (aIfS at' a b):=by
 intro F σ ρ H D e hp r h k
 refine hc F σ ρ H _ _ r h fun c ρ1 H1 h1 r1 k1=>?_
 cases c with
 | true=>exact ha F σ ρ1 H1 D e hp r1 h1 k
 | false=>exact hb F σ ρ1 H1 D e hp r1 h1 k
def stS (i:Nat):R->En->(En->Prop)->Prop
 | .d d,ρ,k=>k (pt ρ i (.vl d))
 | .n s,ρ,k=>k (pt ρ i s)
 | .o j,ρ,k=>(match gt ρ j with
  | .ow ds=>k (pt (pt ρ j (.vl (.lst ds))) i (.vl (.lst ds)))
  | .vl d=>k (pt ρ i (.vl d))
  | .ex C fs=>k (pt ρ i (.ex C fs))
  | .ob C fs=>k (pt ρ i (.ob C fs))
  | _=>False)
 | .t _,_,_=>False
 | .x s,ρ,k=>k (pt ρ i s)
def aSet (i:Nat)(x:AE):AS:=fun e ρ=>x ρ fun r ρ1=>stS i r ρ1 e.nx
theorem w0p {i:Nat}(hi:pr i=false)(h:TEok K te ae):TSok K pr (fun D σ H=>te σ H fun v H'=>D.nx (σ.set i (some v)) H') (aSet i ae):=by
 intro F σ ρ H D e hp r ha k
 refine h F σ ρ H _ _ r ha fun r1 ρ1 v H1 h1 o=>?_
 have np:=i1s hp hi
 cases r1 with
 | d d=>exact k.nx _ _ _ h1 (o.1.set o.2.2 np)
 | t n=>exact h1.elim
 | x s=>exact k.nx _ _ _ h1 (o.1.setS o.2.2.1 o.2.2.2 np)
 | n s =>
  obtain⟨Hb,l,u,a1,a2,a3,a4,a5,rfl,rfl⟩:=o
  exact k.nx _ _ _ h1 (a1.setF a3 a4 a5 np)
 | o j =>
  obtain⟨r1,k1,ej⟩:=o
  have h2:(match gt ρ1 j with
   | .ow ds=>e.nx (pt (pt ρ1 j (.vl (.lst ds))) i (.vl (.lst ds)))
   | .vl d=>e.nx (pt ρ1 i (.vl d))
   | .ex C fs=>e.nx (pt ρ1 i (.ex C fs))
   | .ob C fs=>e.nx (pt ρ1 i (.ob C fs))
   | _=>False):=h1
  clear h1
  split at h2
  ·rename_i ds hg
   obtain⟨l,el,r2,k2,rd⟩:=r1.frz hg
   rw[ej]at el
   injection el with el;injection el with el;subst el
   exact k.nx _ _ _ h2 (r2.set rd np)
  ·rename_i d hg
   have q:=r1.sl j
   rw[hg]at q
   obtain⟨x,e1,e2⟩:=q
   rw[ej]at e1
   injection e1 with e1;injection e1 with e1;subst e1
   exact k.nx _ _ _ h2 (r1.set e2 np)
  ·rename_i C fs hg
   have q:=r1.sl j
   rw[hg,ej]at q
   exact k.nx _ _ _ h2 (r1.setS rfl q np)
  ·rename_i C fs hg
   have q:=r1.sl j
   rw[hg,ej]at q
   exact k.nx _ _ _ h2 (r1.setS rfl q np)
  ·exact h2.elim
theorem c0b {i:Nat}(h:TEok K te ae)(hi:pr i=false):TSok K pr (tAsg te (f1r i)) (aSet i ae):=w0p hi h
theorem w0n {i n:Nat}{js:List Nat}{wi:TI}{g:TG}{tc:TT}(h:TEok K (a1l n js wi g tc te) ae)(hi:pr i=false):TSok K pr (fun D σ H=>a1l n js wi g tc te σ H fun v H'=>D.nx (σ.set i (some v)) H') (aSet i ae):=w0p hi h
def aAsg (x:AE)(g:AG):AS:=fun e ρ=>x ρ fun r ρ1=>sto [r.frz] ρ1 fun ds ρ2=>match ds with
 | [d]=>g d ρ2 e.nx
 | _=>False
theorem g0f {g:TG}{ag:AG}(h:TEok K te ae)(hg:TGok K pr g ag):TSok K pr (tAsg te g) (aAsg ae ag):=by
 intro F σ ρ H D e hp r ha k
 refine h F σ ρ H _ _ r ha fun r1 ρ1 v H1 h1 o=>?_
 obtain⟨r',k1,i1⟩:=o.inF
 obtain⟨ds,ρ2,h2,r2,k2,rd⟩:=j0i r' (.cons i1 .nil) h1
 split at h2
 ·rename_i d
  unfold RepDs at rd
  exact hg F σ ρ2 H1 v d _ _ hp r2 rd.1 h2 fun σ3 ρ3 h3 r3 _ _ _=>k.nx _ _ _ h3 r3
 ·exact h2.elim
def aAug (i:Nat)(x:AE)(f:Int->Int->Int):AS:=fun e ρ=>match gt ρ i with
 | .vl (.int p)=>x ρ fun r ρ1=>(match r with
  | .d (.int y)=>e.nx (pt ρ1 i (.vl (.int (f p y))))
  | _=>False)
 | _=>False
theorem h1v {i:Nat}{f:Int->Int->Int}(h:TEok K te ae)(hi:pr i=false):TSok K pr (tAug i te (ipI f)) (aAug i ae f):=by
 intro F σ ρ H D e hp r ha k
 unfold aAug at ha
 split at ha
 ·rename_i p hg
  have q:=r.sl i
  rw[hg]at q
  obtain⟨x,e1,e2⟩:=q
  unfold RepD at e2;subst e2
  refine⟨_,e1,h F σ ρ H _ _ r ha fun r1 ρ1 v H1 h1 o=>?_⟩
  obtain⟨r',k1,i1⟩:=o.inF
  split at h1
  ·exact⟨_,_,rfl,i1.int,k.nx _ _ _ h1 (r'.set (by unfold RepD;rfl) (i1s hp hi))⟩
  ·exact h1.elim
 ·exact ha.elim
def whA (c:AT)(b:AS)(e:t0t):Nat->En->Prop
 | 0,_=>False
 | n+1,ρ=>c ρ fun k ρ1=>if k=true then b {nx:=whA c b e n,ct:=whA c b e n,bk:=e.nx,rt:=e.rt} ρ1 else e.nx ρ1
def h1e (c:AT)(b:AS):AS:=fun e ρ=>∃n,whA c b e n ρ
theorem a1q (hc:TTok K tt at')(hb:TSok K pr t a):TSok K pr (g1h tt t) (h1e at' a):=by
 intro F σ ρ H D e hp r ha k
 obtain⟨n,ha⟩:=ha
 refine⟨fun m σ H=>∃ ρ,Rel K F σ ρ H/\whA at' a e m ρ,⟨n,ρ,r,ha⟩,fun m σ H ⟨ρ,r,h⟩=>?_⟩
 cases m with
 | zero=>exact h.elim
 | succ m =>
  refine hc F σ ρ H _ _ r h fun c ρ1 H1 h1 r1 k1=>?_
  cases c with
  | false=>exact k.nx _ _ _ h1 r1
  | true =>
   refine⟨fun σ' H'=>∃ ρ',Rel K F σ' ρ' H'/\whA at' a e m ρ',fun σ' H' h'=>⟨m,c9 m,h'⟩,?_⟩
   exact hb F σ ρ1 H1 _ _ hp r1 h1 ⟨fun σ' ρ' H' h' r'=>⟨ρ',r',h'⟩,k.nx,fun σ' ρ' H' h' r'=>⟨ρ',r',h'⟩,k.rt⟩
abbrev AI:=En->(List D->(En->Prop)->En->Prop)->Prop
def WkAt (K:aa)(S:Addr->Prop)(H:Hp)(J:It)(ds:List D):Prop:=∀k:Nat,(∀d,ds[k]? = some d->J.go k H/\∀x H',J.yld k H x H'->Same H H'/\RepD K (hid H' S) x d)/\(ds.length<=k->J.stop k H)
def TIok (K:aa)(pin:Nat->Bool)(wi:TI)(ai:AI):Prop:=∀F σ ρ H q Rk,Rel K F σ ρ H->ai ρ q->(∀ds c ρ' J H',q ds c ρ'->Rel K F σ ρ' H'->Kp σ ρ ρ' H H' ->
 (∀ σ2 ρ2 H2,Same (hid H' (hs F σ ρ')) (hid H2 (hs F σ2 ρ2))->(∀i,SvOk K (hid H2 (hs F σ2 ρ2)) H2 σ2[i]? (gt ρ2 i))->(∀j a,pin j=true->σ[j]? = some (some (.ref a))->σ2[j]? = some (some (.ref a)))->(∀a,hs F σ2 ρ2 a->Nt H2 a)->c ρ2->WkAt K (hs F σ2 ρ2) H2 J ds)->Rk J H')->wi σ H Rk
def rngD (lo:Int)(n:Nat):List D:=(aQ n).map fun(i:Nat)=>D.int (lo+(i:Nat))
theorem g0d (lo:Int)(n:Nat):(rngD lo n).length=n:=by simp[rngD]
theorem k1o {S:Addr->Prop}{H:Hp}{lo:Int}{n:Nat}:WkAt K S H (Itr lo n) (rngD lo n):=by
 intro k
 constructor
 ·intro d h
  unfold rngD at h
  rw[aM]at h
  obtain⟨j,e1,e2⟩:=aY.mp h
  have lt:k<n:=by
   rcases bf k n with q | q
   ·exact q
   ·rw[cQ (by simpa using q)]at e1;cases e1
  rw[fj lt]at e1
  cases e1
  refine⟨lt,fun x H' z=>⟨z.1▸Same.refl H,?_⟩⟩
  rw[z.2,<- e2]
  unfold RepD;rfl
 ·intro h;rw[g0d]at h;exact h
def o1j (as:AA):AI:=fun ρ q=>as ρ fun rs ρ1=>match rs with
 | [.d (.int j)]=>(-(2^62)<=j/\j<2^62)/\q (rngD 0 j.toNat) (fun _=>True) ρ1
 | _=>False
theorem g0m {pin:Nat->Bool}{ta:TA}{as:AA}(h:TAok K ta as):TIok K pin (m1u ta) (o1j as):=by
 intro F σ ρ H q Rk r ha k
 refine h F σ ρ H _ _ r ha fun rs ρ1 vs H1 h1 r1 i1 k1=>?_
 split at h1
 ·obtain⟨x,rfl,i⟩:=i1.one
  exact⟨_,by rw[i.int],h1.1.1,h1.1.2,k _ _ _ _ _ h1.2 r1 k1 fun _ _ _ _ _ _ _ _=>k1o⟩
 ·exact h1.elim
def iSeq (K:aa)(tl:TE):TI:=fun σ H R=>tl σ H fun x H1=>∃a,x = .ref a/\(((∃xs,SqL K H1 a xs)/\R (Itl K a) H1)∨((∃xs,SqT K H1 a xs)/\R (Itt K a) H1))
theorem l1p {X:Cx}{tg l:Expr}{tl:TE}(hl:PE X l tl):PI X tg l (iSeq X.K tl):=by
 intro pins s σ H R I h
 refine thn (hl pins s σ H _ I h) fun v s1 ⟨x,H1,I1,r1,q1⟩=>?_
 obtain⟨a,e,⟨⟨xs,hq⟩,q⟩ | ⟨⟨xs,hq⟩,q⟩⟩:=q1
 ·subst e
  cases r1
  obtain⟨its,rv,p,hz⟩:=I1.list hq
  refine wpAny_pyIter_list p.isList ?_
  refine⟨s1.heap.objs.size,[s1.heap.objs.size],_,_,H1,rfl,I1.kept (t':=s1.toks) fun b o e=>aq _ e,z0s a _,⟨_,aP _ rfl,rfl,rfl⟩,fun b hb=>?_,q⟩
  have e:b=s1.heap.objs.size:=by simpa using hb
  subst e
  exact I1.fpOk (aE _) (I1.hok.fresh (aE _))
 ·subst e
  cases r1
  obtain⟨its,rv,p,hz⟩:=I1.tuple hq
  refine fQ (show s1.heap.IsTuple a its.toArray from p) ?_
  refine⟨s1.heap.objs.size,[s1.heap.objs.size],_,_,H1,rfl,I1.kept (t':=s1.toks) fun b o e=>aq _ e,y0a a _,⟨_,aP _ rfl,rfl,rfl⟩,fun b hb=>?_,q⟩
  have e:b=s1.heap.objs.size:=by simpa using hb
  subst e
  exact I1.fpOk (aE _) (I1.hok.fresh (aE _))
theorem e0r (K:aa){X:Cx}{tg l:Expr}{tl:TE}(hl:PE X l tl)(hK:X.K=K:=by rfl):PI X tg l (iSeq K tl):=by subst hK;exact l1p hl
theorem g1g {S:Addr->Prop}{H:Hp}{a:Addr}{vs:List V}{ds:List D}(h:SqL K H a vs)(rd:RepDs K (hid H S) vs ds):WkAt K S H (Itl K a) ds:=by
 intro k
 constructor
 ·intro d e
  obtain⟨v,e1,rv⟩:=rd.get e
  refine⟨⟨vs,v,h,e1⟩,fun x H' z=>⟨z.1▸Same.refl H,?_⟩⟩
  have:=z.2 vs h
  rw[e1]at this;cases this;rw[z.1];exact rv
 ·intro z;exact⟨vs,h,by rw[rd.length];exact z⟩
theorem k1n {S:Addr->Prop}{H:Hp}{a:Addr}{vs:List V}{ds:List D}(h:SqT K H a vs)(rd:RepDs K (hid H S) vs ds):WkAt K S H (Itt K a) ds:=by
 intro k
 constructor
 ·intro d e
  obtain⟨v,e1,rv⟩:=rd.get e
  refine⟨⟨vs,v,h,e1⟩,fun x H' z=>⟨z.1▸Same.refl H,?_⟩⟩
  have:=z.2 vs h
  rw[e1]at this;cases this;rw[z.1];exact rv
 ·intro z;exact⟨vs,h,by rw[rd.length];exact z⟩
def o1i (pin:Nat->Bool)(x:AE):AI:=fun ρ q=>x ρ fun r ρ1=>match r.frz with
 | .d (.lst ds)=>q ds (fun _=>True) ρ1
 | .d (.tup ds)=>q ds (fun _=>True) ρ1
 | .o i=>(match gt ρ1 i with
  | .ow ds=>pin i=true/\q ds (fun ρ2=>gt ρ2 i = .ow ds) ρ1
  | _=>False)
 | _=>False
theorem d0j {pin:Nat->Bool}(h:TEok K te ae):TIok K pin (iSeq K te) (o1i pin ae):=by
 intro F σ ρ H q Rk r ha k
 refine h F σ ρ H _ _ r ha fun r1 ρ1 x H1 h1 o1=>?_
 obtain⟨r',k1,i1⟩:=o1.inF
 split at h1
 ·rename_i ds e
  rw[e]at i1
  have rd:RepD K _ x (.lst ds):=i1
  unfold RepD at rd
  obtain⟨a,vs,rfl,sq,rd⟩:=rd
  refine⟨a,rfl,.inl ⟨⟨vs,d0b.seq (StL.sq sq)⟩,k _ _ _ _ _ h1 r' k1 fun σ2 ρ2 H2 sm _ _ _ _=>?_⟩⟩
  exact g1g (d0b.seq (sm.seq (StL.sq sq))) (rd.same sm)
 ·rename_i ds e
  rw[e]at i1
  have rd:RepD K _ x (.tup ds):=i1
  unfold RepD at rd
  obtain⟨a,vs,rfl,sq,rd⟩:=rd
  refine⟨a,rfl,.inr ⟨⟨vs,d0b.seqT sq.sq⟩,k _ _ _ _ _ h1 r' k1 fun σ2 ρ2 H2 sm _ _ _ _=>?_⟩⟩
  exact k1n (d0b.seqT (sm.seqT sq.sq)) (rd.same sm)
 ·rename_i i e
  rw[e]at i1
  have ei:σ[i]? = some (some x):=i1
  split at h1
  ·rename_i ds hg
   have s:=r'.sl i
   rw[hg,ei]at s
   obtain⟨a,vs,e1,hl,rd⟩:=s
   injection e1 with e1;injection e1 with e1;subst e1
   refine⟨a,rfl,.inl ⟨⟨vs,SqL.of hl⟩,k _ _ _ _ _ h1.2 r' k1 fun σ2 ρ2 H2 sm sv pn _ hc=>?_⟩⟩
   have s2:=sv i
   rw[hc,pn i a h1.1 ei]at s2
   obtain⟨a',vs',e2,hl',rd'⟩:=s2
   injection e2 with e2;injection e2 with e2;injection e2 with e2;subst e2
   exact g1g (SqL.of hl') rd'
  ·exact h1.elim
 ·exact h1.elim
def forA (c:En->Prop)(g:AG)(b:AS)(e:t0t):List D->En->Prop
 | [],ρ=>c ρ/\e.nx ρ
 | d::ds,ρ=>c ρ/\g d ρ fun ρ1=>b {nx:=forA c g b e ds,ct:=forA c g b e ds,bk:=e.nx,rt:=e.rt} ρ1
def aFor (i:AI)(g:AG)(b:AS):AS:=fun e ρ=>i ρ fun ds c ρ1=>forA c g b e ds ρ1
theorem f0n {pin:Nat->Bool}{wi:TI}{ai:AI}{g:TG}{ag:AG}(hi:TIok K pin wi ai)(hg:TGok K (fun j=>pr j||pin j) g ag)(hb:TSok K (fun j=>pr j||pin j) t a):TSok K pr (tFor wi g t) (aFor ai ag a):=by
 intro F σ ρ H D e hp r ha k
 refine hi F σ ρ H _ _ r ha fun ds c ρ1 J H1 h1 r1 k1 wk=>?_
 have hp':∀i a,(rebase F σ ρ1 H1 pin).pin i a->(pr i||pin i)=true:=fun i a h=>by
  rcases h with h | h | h
  ·rw[hp i a (.inl h)];rfl
  ·rw[hp i a (.inr h)];rfl
  ·rw[h.1];cases pr i <;> rfl
 have ek:n1o K (rebase F σ ρ1 H1 pin) D e:=⟨fun _ _ _ h' r'=>k.nx _ _ _ h' (r1.unbase r').1,fun _ _ _ h' r'=>k.bk _ _ _ h' (r1.unbase r').1,fun _ _ _ h' r'=>k.ct _ _ _ h' (r1.unbase r').1,fun _ _ _ _ _ h' r'=>k.rt _ _ _ _ _ h' (RelR.unbase r1 r')⟩
 refine⟨fun i m σ' H'=>∃ ρ',m=ds.length - i/\i<=ds.length/\Rel K (rebase F σ ρ1 H1 pin) σ' ρ' H'/\forA c ag a e (ds.drop i) ρ',⟨ds.length,ρ1,rfl,bg _,r1.rebase pin,h1⟩,?_⟩
 rintro i m σ' H' ⟨ρ',rfl,hl,r',h'⟩
 have w:c ρ'->WkAt K (hs F σ' ρ') H' J ds:=fun hc=>wk σ' ρ' H' (r1.unbase r').2 r'.sl (fun j x hj ej=>r'.mi j x (.inr (.inr ⟨hj,ej⟩))) (fun a z=>z0a r' z) hc
 rcases bf i ds.length with q | q
 ·right
  rw[br q]at h'
  unfold forA at h'
  obtain⟨hc,h'⟩:=h'
  obtain⟨go,yld⟩:=(w hc i).1 ds[i] (ao q)
  refine⟨go,fun σ2 H2=>∃ ρ2,Rel K (rebase F σ ρ1 H1 pin) σ2 ρ2 H2/\forA c ag a e (ds.drop (i+1)) ρ2,fun σ2 H2 ⟨ρ2,r2,h2⟩=>⟨ds.length - (i+1),by omega,ρ2,rfl,q,r2,h2⟩,fun x H2 hy=>?_⟩
  obtain⟨sm,rd⟩:=yld x H2 hy
  refine hg _ σ' ρ' _ x _ _ _ hp' (r'.grow sm) rd h' fun σ3 ρ3 h3 r3 _ _ _=>?_
  exact hb _ σ3 ρ3 _ _ _ hp' r3 h3 ⟨fun σ' ρ' H' h' r'=>⟨ρ',r',h'⟩,ek.nx,fun σ' ρ' H' h' r'=>⟨ρ',r',h'⟩,ek.rt⟩
 ·left
  rw[bE q]at h'
  unfold forA at h'
  obtain⟨hc,h'⟩:=h'
  exact⟨(w hc i).2 q,ek.nx _ _ _ h' r'⟩
end
def blkE (n:Nat)(js:List Nat)(ρ:En):En:=aG n .un++js.map (gt ρ)
def blkR (n:Nat)(js:List Nat):List R:=aG n (R.t "")++js.map R.o
theorem b0w (n:Nat)(js:List Nat)(ρ:En):(blkR n js).map (e0n ρ)=blkE n js ρ:=by
 unfold blkR blkE
 rw[bp,List.map_replicate,bI]
 rfl
theorem k0z (js:List Nat):∀n,dis (blkR n js)=dis (js.map R.o)
 | 0=>rfl
 | n+1=>by
  show dis (R.t "" :: blkR n js)=_
  exact k0z js n
theorem l0a (js:List Nat)(ρ:En)(n:Nat):∀ss:En,ss.length=n+js.length->back ρ (blkR n js) ss=back ρ (js.map R.o) (ss.drop n):=by
 induction n with
 | zero=>intro ss _;rfl
 | succ n ih =>
  intro ss h
  cases ss with
  | nil=>simp at h;omega
  | cons s ss=>exact ih ss (by simp at h;omega)
theorem m0v {n:Nat}{js:List Nat}{ρ:En}{i:Nat}(h:(gt (blkE n js ρ) i).own=true):n<=i:=by
 rcases bf i n with q | q
 ·exfalso
  have:∀(n i:Nat) (x:En),i<n->gt (aG n Sv.un++x) i = .un:=by
   intro n
   induction n with
   | zero=>intro i x h;omega
   | succ n ih =>
    intro i x h
    cases i with
    | zero=>rfl
    | succ i=>exact ih i x (by omega)
  unfold blkE at h
  rw[this n i _ q]at h
  cases h
 ·exact q
section
variable {K:aa}{F:Fr}{σ σ':St}{ρ ρ':En}{H H':Hp}
theorem m0u (n:Nat)(js:List Nat):Srcs K F σ ρ H (bst n σ js) (blkR n js):=by
 unfold bst blkR
 induction n with
 | zero =>
  induction js with
  | nil=>exact .nil
  | cons j js ih=>exact .cons rfl ih
 | succ n ih=>exact .cons trivial ih
theorem j0w:∀(n i:Nat) (ρ:En),gt (ρ.drop n) i=gt ρ (n+i)
 | 0,i,ρ=>by simp
 | n+1,i,[]=>by simp[gt]
 | n+1,i,s::ρ=>by rw[List.drop_succ_cons,j0w n i ρ,Nat.add_right_comm];rfl
theorem o0b:∀(n i:Nat) (x:En),gt (aG n Sv.un++x) i=if i<n then .un else gt x (i - n)
 | 0,i,x=>by simp
 | n+1,0,x=>by simp[List.replicate_succ,gt]
 | n+1,i+1,x=>by
  show gt (aG n Sv.un++x) i=_
  rw[o0b n i x]
  by_cases h:i<n
  ·rw[if_pos h,if_pos (by omega)]
  ·rw[if_neg h,if_neg (by omega)];congr 1;omega
theorem Rel.forget {n:Nat}(r:Rel K F σ ρ H)(hn:n<=σ.length)(hp:∀i a,F.pin i a->n<=i):Rel K F (aG n none++σ.drop n) (aG n .un++ρ.drop n) H/\Same (hid H (hs F σ ρ)) (hid H (hs F (aG n none++σ.drop n) (aG n .un++ρ.drop n))):=by
 have g:∀i,gt (aG n .un++ρ.drop n) i=if i<n then .un else gt ρ i:=fun i=>by
  rw[o0b]
  split
  ·rfl
  ·rw[j0w];congr 1;omega
 have s:∀i,n<=i->(aG n none++σ.drop n)[i]? = σ[i]?:=fun i h=>by
  rw[bx (by simpa using h),cx,bw]
  congr 1;omega
 have own':∀i,(gt (aG n .un++ρ.drop n) i).own=true->n<=i/\(gt ρ i).own=true:=fun i h=>by
  rw[g]at h
  split at h
  ·cases h
  ·exact⟨by omega,h⟩
 have sub:∀a,c0p (aG n none++σ.drop n) (aG n .un++ρ.drop n) a->c0p σ ρ a:=fun a ⟨i,hi,e⟩=>by
  obtain⟨h1,h2⟩:=own' i hi
  rw[s i h1]at e
  exact⟨i,h2,e⟩
 have vis:Same (hid H (hs F σ ρ)) (hid H (hs F (aG n none++σ.drop n) (aG n .un++ρ.drop n))):=b0v fun a o e n=>⟨e,fun z=>n (z.imp id (sub a))⟩
 refine⟨⟨by have:=r.len;simp;omega,r.fr,r.zl,fun a h=>r.zo a (sub a h),fun i a hi e=>?_,fun i a h=>?_,r.ml,r.ma,fun i j a hi hj ei ej=>?_,fun i=>?_⟩,vis⟩
 ·obtain⟨h1,h2⟩:=own' i hi
  rw[s i h1]at e
  exact r.ow i a h2 e
 ·rw[s i (hp i a h)];exact r.mi i a h
 ·obtain⟨h1,h2⟩:=own' i hi
  obtain⟨h3,h4⟩:=own' j hj
  rw[s i h1]at ei
  rw[s j h3]at ej
  exact r.nd i j a h2 h4 ei ej
 ·rw[g]
  split
  ·trivial
  ·rw[s i (by omega)]
   exact(r.sl i).keep vis fun _ _ _ _ e=>e
end
def j0g (n:Nat)(js:List Nat)(c:En->Prop)(g:AG)(tc:AT)(te:AE)(q:List D->En->Prop):List D->List D->En->Prop
 | [],acc,ρ=>c ρ/\q acc ρ
 | d::ds,acc,ρ=>c ρ/\g d (blkE n js ρ) fun ρ1=>tc ρ1 fun b ρ2=>if b=true then te ρ2 fun r ρ3=>sto [r.frz] ρ3 fun es ρ4=>j0g n js c g tc te q ds (acc++es) (back ρ (js.map R.o) (ρ4.drop n))else j0g n js c g tc te q ds acc (back ρ (js.map R.o) (ρ2.drop n))
def o1s (n:Nat)(js:List Nat)(i:AI)(g:AG)(tc:AT)(te:AE):AE:=fun ρ q=>i ρ fun ds c ρ1=>ds.length<=1000000/\j0g n js c g tc te (fun acc ρ2=>q (.f acc) ρ2) ds [] ρ1
def aAll:AT:=fun ρ q=>q true ρ
section
variable {K:aa}
theorem e0l:TTok K tAll aAll:=fun F σ ρ H q Q r h k=>k _ _ _ h r .refl
theorem t0y {F:Fr}{σ:St}{ρ:En}{H:Hp}{v:V}{r:R}{q:List D->En->Prop}(a:Rel K F σ ρ H)(i:InF K F σ ρ H v r)(h:sto [r] ρ q):∃d ρ',q [d] ρ'/\Rel K F σ ρ' H/\Kp σ ρ ρ' H H/\RepD K (hid H (hs F σ ρ')) v d:=by
 obtain⟨ds,ρ',h1,h2,h3,h4⟩:=j0i a (.cons i .nil) h
 cases ds with
 | nil=>unfold RepDs at h4;exact h4.elim
 | cons d ds =>
  unfold RepDs at h4
  cases ds with
  | nil=>exact⟨d,ρ',h1,h2,h3,h4.1⟩
  | cons _ _=>obtain⟨_,z⟩:=h4;unfold RepDs at z;exact z.elim
theorem h0a {n:Nat}{js:List Nat}{wi:TI}{g:TG}{tc:TT}{te:TE}{ai:AI}{ag:AG}{atc:AT}{ate:AE}(hi:TIok K (fun _=>true) wi ai)(hg:TGok K (fun j=>decide (n<=j)) g ag)(hc:TTok K tc atc)(he:TEok K te ate)
  (hd:dis (js.map R.o)=true:=by rfl):TEok K (a1l n js wi g tc te) (o1s n js ai ag atc ate):=by
 intro F σ ρ H q Q r h k
 refine hi F σ ρ H _ _ r h fun ds c ρ1 J H1 h1 r1 k1 wk=>?_
 obtain⟨hz,h1⟩:=h1
 have hd':dis (blkR n js)=true:=by rw[k0z];exact hd
 refine⟨fun i m ys H'=>∃ ρ' acc,m=ds.length - i/\i<=ds.length/\Rel K F σ ρ' H'/\Kp σ ρ1 ρ' H1 H'/\RepDs K (hid H' (hs F σ ρ')) ys acc/\acc.length<=i/\j0g n js c ag atc ate (fun acc ρ2=>q (.f acc) ρ2) (ds.drop i) acc ρ',⟨ds.length,ρ1,[],rfl,bg _,r1,.refl,.nil,bg _,h1⟩,?_⟩
 rintro i m ys H' ⟨ρ',acc,rfl,hl,r',k',rd,al,h'⟩
 have w:c ρ'->WkAt K (hs F σ ρ') H' J ds:=fun hc=>wk σ ρ' H' k'.vis r'.sl (fun _ _ _ e=>e) (fun a z=>z0a r' z) hc
 have yl:ys.length=acc.length:=rd.length
 rcases bf i ds.length with lt | ge
 ·right
  rw[br lt]at h'
  unfold j0g at h'
  obtain⟨hcc,h'⟩:=h'
  obtain⟨go,yld⟩:=(w hcc i).1 ds[i] (ao lt)
  refine⟨go,p0d (by omega),fun zs H2=>∃ ρ2 acc2,Rel K F σ ρ2 H2/\Kp σ ρ1 ρ2 H1 H2/\RepDs K (hid H2 (hs F σ ρ2)) zs acc2/\acc2.length<=i+1/\j0g n js c ag atc ate (fun acc ρ2=>q (.f acc) ρ2) (ds.drop (i+1)) acc2 ρ2,
   fun zs H2 ⟨ρ2,acc2,a1,a2,a3,a4,a5⟩=>⟨ds.length - (i+1),by omega,ρ2,acc2,rfl,lt,a1,a2,a3,a4,a5⟩,fun x H2 hy=>?_⟩
  obtain⟨sm,rx⟩:=yld x H2 hy
  have r0':=r'
  have k':Kp σ ρ1 ρ' H1 H2:=k'.trans ⟨fun a o e _=>sm a o e,fun _ h=>h⟩
  have rd:RepDs K (hid H2 (hs F σ ρ')) ys acc:=rd.same (b0v fun a o e n=>⟨sm a o e,n⟩)
  have r':=r0'.grow sm
  have src:=m0u (K:=K) (F:=F) (σ:=σ) (ρ:=ρ') (H:=H2) n js
  have rb:=r'.sub src hd'
  have hs2:=r0w r' src
  rw[b0w]at rb hs2
  have pin:∀i a,(f0m F σ ρ' H2 (bst n σ js) (blkE n js ρ')).pin i a->decide (n<=i)=true:=fun i a h=>by
   rcases h with h | h
   ·exact decide_eq_true (m0v h.1)
   ·exact h.elim
  have hlen:(bst n σ js).length=n+js.length:=h0o
  have ret:∀ σ2 ρ2 H3,Rel K (f0m F σ ρ' H2 (bst n σ js) (blkE n js ρ')) σ2 ρ2 H3->σ2.length=(bst n σ js).length->σ2.drop n=capt σ js->(∀i,(gt ρ2 i).own=true->(gt (blkE n js ρ') i).own=true) ->
    Rel K F σ (back ρ' (js.map R.o) (ρ2.drop n)) H3/\Kp σ ρ' (back ρ' (js.map R.o) (ρ2.drop n)) H2 H3/\Same (hid H3 (hs (f0m F σ ρ' H2 (bst n σ js) (blkE n js ρ')) σ2 ρ2)) (hid H3 (hs F σ (back ρ' (js.map R.o) (ρ2.drop n)))):=fun σ2 ρ2 H3 rr hlen2 hdrop hown=>by
   obtain⟨f1,f2⟩:=rr.forget (n:=n) (by omega) fun i a h=>of_decide_eq_true (pin i a h)
   rw[hdrop]at f1 f2
   have f1':Rel K (f0m F σ ρ' H2 (bst n σ js) ((blkR n js).map (e0n ρ'))) (bst n σ js) (aG n .un++ρ2.drop n) H3:=by rw[b0w];exact f1
   have bk:=r'.back src hd' f1' fun i hi=>by
    rw[b0w]
    rw[o0b]at hi
    split at hi
    ·cases hi
    ·rename_i hni
     rw[j0w,show n+(i - n)=i by omega]at hi
     exact hown i hi
   have ln:(aG n Sv.un++ρ2.drop n).length=n+js.length:=by
    have:=rr.len
    simp;omega
   rw[l0a js ρ' n _ ln,dq (by simp),b0w]at bk
   exact⟨bk.1,bk.2.1,f2.trans bk.2.2⟩
  refine hg _ (bst n σ js) (blkE n js ρ') H2 x _ _ _ pin rb (by rw[hs2];exact rx) h' fun σ2 ρ2 h2 r2 l2 p2 o2=>?_
  have hdrop:σ2.drop n=capt σ js:=by
   have:σ2.drop n=(bst n σ js).drop n:=by
    apply cW
    intro i
    rw[bw,bw]
    exact p2 (n+i) (decide_eq_true (by omega))
   rw[this]
   unfold bst
   rw[dq (by simp)]
  refine⟨hdrop,hc _ σ2 ρ2 H2 _ _ r2 h2 fun b ρ3 H3 h3 r3 k3=>?_⟩
  cases b with
  | false =>
   obtain⟨b1,b2,_⟩:=ret σ2 ρ3 H3 r3 l2 hdrop fun i hi=>(o2 i (k3.sb i hi)).1
   exact⟨_,acc,b1,k'.trans b2,rd.same b2.vis,by omega,h3⟩
  | true =>
   refine he _ σ2 ρ3 H3 _ _ r3 h3 fun r4 ρ4 v H4 h4 o4=>?_
   obtain⟨r4',k4,i4⟩:=o4.inF
   obtain⟨d,ρ5,h5,r5,k5,rv⟩:=t0y r4' i4 h4
   obtain⟨b1,b2,b3⟩:=ret σ2 ρ5 H4 r5 l2 hdrop fun i hi=>(o2 i (k3.sb i (k4.sb i (k5.sb i hi)))).1
   exact⟨_,acc++[d],b1,k'.trans b2,(rd.same b2.vis).append (.one (rv.same b3)),by simp;omega,h5⟩
 ·left
  rw[bE ge]at h'
  unfold j0g at h'
  obtain⟨hcc,h'⟩:=h'
  refine⟨(w hcc i).2 ge,small (by omega),fun l hl'=>?_⟩
  exact((k.after k1).after k').new r' h' rd hl'
end
def outS:En->En->En
 | [],_=>[]
 | s::ss,ρ=>(if s.own=true then gt ρ 0 else s)::outS ss ρ.tail
theorem j1h (ρ:En)(i:Nat):gt ρ.tail i=gt ρ (i+1):=by cases ρ <;> rfl
theorem x0a:∀(ss ρ:En),(outS ss ρ).length=ss.length
 | [],_=>rfl
 | s::ss,ρ=>by simp[outS,x0a ss]
theorem v0j:∀(ss ρ:En) (i:Nat),gt (outS ss ρ) i=if(gt ss i).own=true then gt ρ i else gt ss i
 | [],ρ,i=>by simp[outS,gt,Sv.own]
 | s::ss,ρ,0=>rfl
 | s::ss,ρ,i+1=>by
  show gt (outS ss ρ.tail) i=_
  rw[v0j ss ρ.tail i,j1h]
  rfl
def fin (pr:Nat->Bool):R->En->Ko->Prop
 | .d d,ρ,k=>k (.d d) ρ
 | .n s,ρ,k=>k (.n s) ρ
 | .o i,ρ,k=>(match gt ρ i with
  | .ow ds=>if pr i=true then k (.d (.lst ds)) (pt ρ i (.vl (.lst ds)))else k (.n (.ow ds)) (pt ρ i .un)
  | .vl d=>k (.d d) ρ
  | .dk kvs=>if pr i=true then False else k (.n (.dk kvs)) (pt ρ i .un)
  | .dt kvs=>if pr i=true then False else k (.n (.dt kvs)) (pt ρ i .un)
  | _=>False)
 | .t _,_,_=>False
 | .x s,ρ,k=>k (.x s) ρ
def i1n (pr:Nat->Bool)(ss:En):Prop:=∀i,(gt ss i).own=true->pr i=true
section
variable {K:aa}{F:Fr}{σ σ':St}{ρ ρ':En}{H H':Hp}
open Classical in
noncomputable def del (H:Hp)(l:Addr):Hp:=fun a=>if a=l then none else H a
open Classical in
theorem r0h {l:Addr}:del H l l=none:=by unfold del;rw[if_pos rfl]
open Classical in
theorem p0r {a l:Addr}(h:a≠l):del H l a=H a:=by unfold del;rw[if_neg h]
theorem l0q {l:Addr}{o:HO}(h:H l=some o):upd (del H l) l o=H:=by
 funext a
 by_cases e:a=l
 ·subst e;rw[a0z,h]
 ·rw[a0x e,p0r e]
theorem Rel.take (r:Rel K F σ ρ H){i:Nat}(hi:(gt ρ i).own=true)(hm:∀a,¬F.pin i a):∃l o,H l=some o/\σ[i]? = some (some (.ref l))/\Rel K F σ (pt ρ i .un) (del H l)/\SvOk K (hid (del H l) (hs F σ (pt ρ i .un))) H (some (some (.ref l))) (gt ρ i):=by
 have s:=r.sl i
 obtain⟨l,o,el,hl⟩:=s.alive hi
 have own':∀j,(gt (pt ρ i .un) j).own=true->i≠j/\(gt ρ j).own=true:=fun j h=>i0e rfl h
 have sub:∀a,c0p σ (pt ρ i .un) a->c0p σ ρ a/\a≠l:=fun a ⟨j,hj,e⟩=>by
  obtain⟨ij,hj⟩:=own' j hj
  exact⟨⟨j,hj,e⟩,fun z=>ij (r.nd i j l hi hj el (z▸e))⟩
 have ol:c0p σ ρ l:=⟨i,hi,el⟩
 have vis:Same (hid H (hs F σ ρ)) (hid (del H l) (hs F σ (pt ρ i .un))):=b0v fun a u e n=>by
  have al:a≠l:=fun z=>n (.inr (z▸ol))
  exact⟨by rw[p0r al];exact e,fun z=>n (z.imp id fun z=>(sub a z).1)⟩
 have h0:F.H0 l=none:=by
  rcases r.ow i l hi el with h | h
  ·exact absurd (Or.inl h.1) (hm l)
  ·exact h
 refine⟨l,o,hl,el,⟨by rw[j0j,r.len],fun a u e n=>?_,fun a z=>?_,fun a h=>r.zo a (sub a h).1,fun j a hj e=>r.ow j a (own' j hj).2 e,r.mi,r.ml,fun a z=>?_,fun j k a hj hk ej ek=>r.nd j k a (own' j hj).2 (own' k hk).2 ej ek,fun j=>?_⟩,?_⟩
 ·have al:a≠l:=fun z=>by rw[z,h0]at e;cases e
  rw[p0r al];exact r.fr a u e n
 ·have al:a≠l:=fun q=>r.zo l ol (q▸z)
  unfold Nt;rw[p0r al];exact r.zl a z
 ·have al:a≠l:=fun q=>r.ml a z (q▸h0)
  rw[p0r al];exact r.ma a z
 ·by_cases ij:i=j
  ·subst ij
   rw[q0u ρ i _ (n0m hi)];trivial
  ·rw[d0g ρ i j _ ij]
   refine(r.sl j).keep vis fun a u ho e h=>?_
   have al:a≠l:=fun z=>ij (r.nd i j l hi ho el (z▸e))
   rw[p0r al];exact h
 ·rw[el]at s
  exact s.keep vis fun _ _ _ _ e=>e
theorem Rel.out {vs:List V}{ss:En}{Z:Addr->Prop}(r0:Rel K (F0 vs ss H Z) (vs.map some) ss H)(r:Rel K (F0 vs ss H Z) σ' ρ' H') :
  Rel K (F0 vs ss H Z) (vs.map some) (outS ss ρ') H'/\Same (hid H' (hs (F0 vs ss H Z) σ' ρ')) (hid H' (hs (F0 vs ss H Z) (vs.map some) (outS ss ρ')))/\∀i,(gt (outS ss ρ') i).own=true->(gt ss i).own=true:=by
 have own':∀i,(gt (outS ss ρ') i).own=true->(gt ss i).own=true/\(gt ρ' i).own=true:=fun i h=>by
  rw[v0j]at h
  split at h
  ·rename_i q;exact⟨q,h⟩
  ·rename_i q;exact absurd h q
 have same:∀i a,(gt ss i).own=true->(vs.map some)[i]? = some (some (.ref a))->σ'[i]? = some (some (.ref a)):=fun i a h e=>r.mi i a (.inl ⟨h,e⟩)
 have sub:∀a,c0p (vs.map some) (outS ss ρ') a->c0p σ' ρ' a/\c0p (vs.map some) ss a:=fun a ⟨i,hi,e⟩=>by
  obtain⟨h1,h2⟩:=own' i hi
  exact⟨⟨i,h2,same i a h1 e⟩,⟨i,h1,e⟩⟩
 have v1:Same (hid H' (hs (F0 vs ss H Z) σ' ρ')) (hid H' (hs (F0 vs ss H Z) (vs.map some) (outS ss ρ'))):=b0v fun a o e n=>⟨e,fun z=>n (z.imp id fun z=>(sub a z).1)⟩
 have v2:Same (hid H (hs (F0 vs ss H Z) (vs.map some) ss)) (hid H' (hs (F0 vs ss H Z) (vs.map some) (outS ss ρ'))):=b0v fun a o e n=>⟨r.fr a o e fun z=>n (.inr z),fun z=>n (z.imp id fun z=>(sub a z).2)⟩
 refine⟨⟨by rw[x0a,r0.len],r.fr,r.zl,fun a h=>r.zo a (sub a h).1,fun i a hi e=>.inl ⟨⟨(own' i hi).1,e⟩,i,(own' i hi).1,e⟩,r0.mi,r.ml,r.ma,fun i j a hi hj ei ej=>r0.nd i j a (own' i hi).1 (own' j hj).1 ei ej,fun i=>?_⟩,v1,fun i h=>(own' i h).1⟩
 rw[v0j]
 split
 ·rename_i q
  obtain⟨l,o,e1,e2⟩:=(r0.sl i).alive q
  have:=same i l q e1
  rw[e1,<- this]
  exact(r.sl i).keep v1 fun _ _ _ _ e=>e
 ·rename_i q
  exact(r0.sl i).keep v2 fun l o ho=>absurd ho q
theorem s0w:∀(ρ:En) (n i:Nat),gt (ρ++aG n .un) i=gt ρ i
 | [],n,i=>by
  show gt (aG n .un) i = .un
  induction n generalizing i with
  | zero=>rfl
  | succ n ih=>cases i with
   | zero=>rfl
   | succ i=>exact ih i
 | s::ρ,n,0=>rfl
 | s::ρ,n,i+1=>s0w ρ n i
theorem Rel.ext (r:Rel K F σ ρ H)(n:Nat):Rel K F (σ++aG n none) (ρ++aG n .un) H:=by
 have s:∀ {i a},(gt ρ i).own=true->(σ++aG n none)[i]? = some (some (V.ref a))->σ[i]? = some (some (.ref a)):=fun{i a} h e=>by
  rwa [a_ (by rw[r.len];exact n0m h)]at e
 have sub:∀a,c0p (σ++aG n none) (ρ++aG n .un) a->c0p σ ρ a:=fun a ⟨i,hi,e⟩=>by
  rw[s0w]at hi
  exact⟨i,hi,s hi e⟩
 have vis:Same (hid H (hs F σ ρ)) (hid H (hs F (σ++aG n none) (ρ++aG n .un))):=b0v fun a o e n=>⟨e,fun z=>n (z.imp id (sub a))⟩
 refine⟨by simp[r.len],r.fr,r.zl,fun a h=>r.zo a (sub a h),fun i a hi e=>?_,fun i a h=>?_,r.ml,r.ma,fun i j a hi hj ei ej=>?_,fun i=>?_⟩
 ·rw[s0w]at hi
  exact r.ow i a hi (s hi e)
 ·have:=r.mi i a h
  rw[a_ (aI.mp this).1];exact this
 ·rw[s0w]at hi hj
  exact r.nd i j a hi hj (s hi ei) (s hj ej)
 ·rw[s0w]
  have q:=r.sl i
  rcases bf i σ.length with lt | ge
  ·rw[a_ lt]
   exact q.keep vis fun _ _ _ _ e=>e
  ·rw[p0n ρ i (by rw[<- r.len];exact ge)];trivial
end
theorem v0z {K:aa}{ps:List Str}{S:ASp}(hS:∀ss q,S ss q->ss.length=ps.length):∀vs H Q E,spA K S vs H Q E->vs.length=ps.length:=fun vs H Q E h=>by
 obtain⟨ss,Z,q,r,hs',_⟩:=h
 have:=r.len
 rw[aw]at this
 rw[this];exact hS ss q hs'
theorem x0w {P:aO}{w:be}{K:aa}{mg:Str->Option af}{base:Heap}{x:Str}{st:Stmt}{N ps:List Str}{a:AS}(pr:Nat->Bool)(S:ASp){f:Addr}{cdv:af}{A:bo}{outer:List Env}{s:ah}{H:Hp}{vs:List V}{Q:VK}{E:XK}
  (hbody:∃t,PSs (cxOf CX0 P w K mg base N x (a0g st) f cdv A outer s H E).nox (c0g st) t/\TSok K pr t a)
  (hS:∀ss q,S ss q->ss.length=ps.length/\i1n pr ss/\a ⟨fun ρ=>q (.d .non) (outS ss ρ),fun r ρ=>fin pr r ρ fun r' ρ'=>q r' (outS ss ρ'),fun _=>False,fun _=>False⟩ (ss++aG (N.length - ps.length) .un))
  (h:spA K S vs H Q E):∃t,PSs (cxOf CX0 P w K mg base N x (a0g st) f cdv A outer s H E).nox (c0g st) t/\t {nx:=fun _ H'=>Q .non H',rt:=Q} (start N vs) H:=by
 have hl:=v0z (fun ss q h=>(hS ss q h).1) _ _ _ _ h
 obtain⟨ss,Z,q,r0,hs',post⟩:=h
 obtain⟨h1,h2,h3⟩:=hS ss q hs'
 obtain⟨t,ht,tok⟩:=hbody
 refine⟨t,ht,?_⟩
 have hp:∀i a,(F0 vs ss H Z).pin i a->pr i=true:=fun i a h=>by
  rcases h with h | h
  ·exact h2 i h.1
  ·exact h.elim
 unfold start
 rw[hl]
 have fin_d:∀ σ' ρ' v H' d,q (.d d) (outS ss ρ')->Rel K (F0 vs ss H Z) σ' ρ' H'->RepD K (hid H' (hs (F0 vs ss H Z) σ' ρ')) v d->Q v H':=fun σ' ρ' v H' d hq r rd=>by
  obtain⟨o1,o2,o3⟩:=r0.out r
  exact post (.d d) _ v H' hq o3 (fun i z=>nomatch z) ⟨o1,rd.same o2⟩
 refine tok (F0 vs ss H Z) _ _ H _ _ hp (r0.ext _) h3 ⟨fun σ' ρ' H' hq r=>?_,fun _ _ _ z=>z.elim,fun _ _ _ z=>z.elim,fun σ' ρ' rr v H' hq r=>?_⟩
 ·exact fin_d σ' ρ' _ H' .non hq r (by unfold RepD;rfl)
 ·cases rr with
  | d d=>exact fin_d σ' ρ' v H' d hq r.1 r.2
  | t n=>exact hq.elim
  | x s =>
   obtain⟨ra,rb,rc⟩:=r
   obtain⟨o1,o2,o3⟩:=r0.out ra
   exact post (.x s) _ v H' hq o3 (fun i z=>nomatch z) ⟨o1,rb,rc.keep o2 fun l o ho=>by rw[rb]at ho;cases ho⟩
  | n sv =>
   obtain⟨Hb,l,o,a1,a2,a3,a4,a5,a6⟩:=r
   obtain⟨o1,o2,o3⟩:=r0.out a1
   exact post (.n sv) _ v H' hq o3 (fun i z=>nomatch z) ⟨Hb,l,o,o1,a2,a3.keep o2 fun _ _ _ _ e=>e,a4,a5,a6⟩
  | o i =>
   obtain⟨r,ei⟩:=r
   have hq':(match gt ρ' i with
    | .ow ds=>if pr i=true then q (.d (.lst ds)) (outS ss (pt ρ' i (.vl (.lst ds))))else q (.n (.ow ds)) (outS ss (pt ρ' i .un))
    | .vl d=>q (.d d) (outS ss ρ')
    | .dk kvs=>if pr i=true then False else q (.n (.dk kvs)) (outS ss (pt ρ' i .un))
    | .dt kvs=>if pr i=true then False else q (.n (.dt kvs)) (outS ss (pt ρ' i .un))
    | _=>False):=hq
   clear hq
   split at hq'
   ·rename_i ds hg
    split at hq'
    ·obtain⟨l,el,r2,k2,rd⟩:=r.frz hg
     rw[ei]at el
     injection el with el;injection el with el;subst el
     exact fin_d σ' _ _ H' _ hq' r2 rd
    ·rename_i hpr
     have ho:(gt ρ' i).own=true:=by rw[hg];rfl
     obtain⟨l,o,hl',el,r2,sv⟩:=r.take ho fun a z=>hpr (hp i a z)
     rw[ei]at el
     injection el with el;injection el with el;subst el
     obtain⟨o1,o2,o3⟩:=r0.out r2
     rw[hg]at sv
     refine post (.n (.ow ds)) _ _ H' hq' o3 (fun i z=>nomatch z) ⟨del H' l,l,o,o1,rfl,?_,r0h,(l0q hl').symm,rfl⟩
     rw[l0q hl']
     exact sv.keep o2 fun _ _ _ _ e=>e
   ·rename_i d hg
    have s:=r.sl i
    rw[hg,ei]at s
    obtain⟨x,e1,rd⟩:=s
    injection e1 with e1;injection e1 with e1;subst e1
    exact fin_d σ' ρ' _ H' d hq' r rd
   ·rename_i kvs hg
    split at hq'
    ·exact hq'.elim
    ·rename_i hpr
     have ho:(gt ρ' i).own=true:=by rw[hg];rfl
     obtain⟨l,o,hl',el,r2,sv⟩:=r.take ho fun a z=>hpr (hp i a z)
     rw[ei]at el
     injection el with el;injection el with el;subst el
     obtain⟨o1,o2,o3⟩:=r0.out r2
     rw[hg]at sv
     refine post (.n (.dk kvs)) _ _ H' hq' o3 (fun i z=>nomatch z) ⟨del H' l,l,o,o1,rfl,?_,r0h,(l0q hl').symm,rfl⟩
     rw[l0q hl']
     exact sv.keep o2 fun _ _ _ _ e=>e
   ·rename_i kvs hg
    split at hq'
    ·exact hq'.elim
    ·rename_i hpr
     have ho:(gt ρ' i).own=true:=by rw[hg];rfl
     obtain⟨l,o,hl',el,r2,sv⟩:=r.take ho fun a z=>hpr (hp i a z)
     rw[ei]at el
     injection el with el;injection el with el;subst el
     obtain⟨o1,o2,o3⟩:=r0.out r2
     rw[hg]at sv
     refine post (.n (.dt kvs)) _ _ H' hq' o3 (fun i z=>nomatch z) ⟨del H' l,l,o,o1,rfl,?_,r0h,(l0q hl').symm,rfl⟩
     rw[l0q hl']
     exact sv.keep o2 fun _ _ _ _ e=>e
   ·exact hq'.elim
theorem DefN.aok {P:aO}{w:be}{K:aa}{mg:Str->Option af}{base:Heap}{x:Str}{st:Stmt}{N ps:List Str}{k:Nat}{a:AS}(D:DefN K mg x st ps)(Sc:b0a N ps (a0g st))(pr:Nat->Bool)(S:ASp)
  (hbody:∀(f:Addr) (cdv:af) (A:bo) (outer:List Env) (s:ah) (H:Hp) (E:XK),Room k (A.deeper (e9 x (a0g st) s.heap.objs.size f cdv)) ->
   ∃t,PSs (cxOf CX0 P w K mg base N x (a0g st) f cdv A outer s H E).nox (c0g st) t/\TSok K pr t a)
  (hS:∀ss q,S ss q->ss.length=ps.length/\i1n pr ss/\a ⟨fun ρ=>q (.d .non) (outS ss ρ),fun r ρ=>fin pr r ρ fun r' ρ'=>q r' (outS ss ρ'),fun _=>False,fun _=>False⟩ (ss++aG (N.length - ps.length) .un)):OkN P w K mg base (k+1) x ps (spA K S) :=
 D.ok Sc (v0z fun ss q h=>(hS ss q h).1) fun f cdv A outer s H vs Q E hr h=>x0w pr S (hbody f cdv A outer s H E hr) hS h
def SLaw:ASp:=fun ss q=>∃ns:List Int,ns.length<=63/\ss=[.sc ns]/\∀ss',q (.d (.bl true)) ss'
theorem m1g {P:aO}{w:be}{K:aa}{mg:Str->Option af}{base:Heap}{k:Nat}{x:Str}{ps:List Str}(h:OkN P w K mg base k x ps (spA K SLaw)):OkN P w K mg base k x ps (h1u K):=by
 obtain⟨f,fd,a1,a2,a3,a4,g⟩:=h.ex
 refine⟨f,fd,a1,a2,a3,a4,g.imp fun vs H Q E hq=>?_⟩
 obtain⟨a,ns,rfl,sq,hl,k⟩:=hq
 refine⟨[.sc ns],fun _=>False,fun r _=>r = .d (.bl true),⟨rfl,fun a o e _=>e,fun a z=>z.elim,fun a _ z=>z,fun i a hi _=>?_,fun i a h=>?_,fun a h=>?_,fun a h=>?_,fun i j a hi=>?_,fun i=>?_⟩,⟨ns,hl,rfl,fun _=>rfl⟩,fun r ss' v H' e1 _ _ rr=>?_⟩
 ·exfalso;cases i with
  | zero=>cases hi
  | succ i=>cases hi
 ·rcases h with h | h
  ·cases i with
   | zero=>cases h.1
   | succ i=>cases h.1
  ·exact h.elim
 ·obtain⟨i,hi,_⟩:=h
  cases i with
  | zero=>cases hi
  | succ i=>cases hi
 ·obtain⟨i,hi,_⟩:=h
  cases i with
  | zero=>cases hi
  | succ i=>cases hi
 ·exfalso;cases i with
  | zero=>cases hi
  | succ i=>cases hi
 ·cases i with
  | succ i=>trivial
  | zero =>
   refine⟨a,rfl,?_⟩
   refine(show Same H (hid H _)from fun b o e=>i0k (fun z=>?_) e).seq sq
   rcases z with z | ⟨i,hi,_⟩
   ·exact z
   ·cases i with
    | zero=>cases hi
    | succ i=>cases hi
 ·subst e1
  obtain⟨_,rd⟩:=rr
  unfold RepD at rd
  subst rd
  exact k H'
def a1p (K:aa):Sp:=fun vs H Q _=>∃(t c:Addr) (m sp lf:Int) (ns:List Int) (n:Nat),vs=[.ref t,.int m]/\H t=some (.dK (e0c c sp lf))/\SqL K H c (ns.map V.int)/\0<=sp/\sp<=n/\0<=lf/\n<1000000000000/\Dv m /\
 ∀(r:Nat) (sp' lf':Int),(r:Int)<m->0<=sp'->sp'<=(n+1:Nat)->0<=lf'->Q (.int (r:Nat)) (upd H t (.dK (e0c c sp' lf')))
def a1n (K:aa):Sp:=fun vs H Q _=>∃(a:Addr) (ns:List Int),vs=[.ref a]/\SqL K H a (ns.map V.int) /\
 ∀t c,H t=none->H c=none->t≠c->Q (.ref t) (upd (upd H c (.lst ((ns.take 63).map V.int))) t (.dK (e0c c 0 0)))
def k1e:ASp:=fun ss q=>∃ns:List Int,ss=[.sc ns]/\q (.n (.tp 0)) [.sc ns]
def d1r:ASp:=fun ss q=>∃(n:Nat) (m:Int),ss=[.tp n,.vl (.int m)]/\n<1000000000000/\Dv m/\∀r:Nat,(r:Int)<m->q (.d (.int r)) [.tp (n+1),.vl (.int m)]
theorem OkN.imp {P:aO}{w:be}{K:aa}{mg:Str->Option af}{base:Heap}{k:Nat}{x:Str}{ps:List Str}{sp sp':Sp}(h:OkN P w K mg base k x ps sp)(i:∀vs H Q E,sp' vs H Q E->sp vs H Q E):OkN P w K mg base k x ps sp':=by
 obtain⟨f,fd,a1,a2,a3,a4,g⟩:=h.ex
 exact⟨f,fd,a1,a2,a3,a4,g.imp i⟩
theorem n1i {vs:List V}{s:Sv}{F:Fr}{K:aa}{H:Hp}(r:Rel K F (vs.map some) [s] H):∃x,vs=[x]:=by
 have:=r.len
 match vs,this with
 | [x],_=>exact⟨x,rfl⟩
theorem n1h {vs:List V}{s s':Sv}{F:Fr}{K:aa}{H:Hp}(r:Rel K F (vs.map some) [s,s'] H):∃x y,vs=[x,y]:=by
 have:=r.len
 match vs,this with
 | [x,y],_=>exact⟨x,y,rfl⟩
theorem j1t {K:aa}(vs:List V)(H:Hp)(Q:VK)(E:XK)(h:spA K d1r vs H Q E):a1p K vs H Q E:=by
 obtain⟨ss,Z,q,r,⟨n,m,rfl,hn,hm,hq⟩,post⟩:=h
 obtain⟨x,y,rfl⟩:=n1h r
 obtain⟨t,c,ns,sp,lf,e0,ht,hc,h1,h2,h3⟩:=r.sl 0
 obtain⟨y',e1,ry⟩:=r.sl 1
 unfold RepD at ry
 injection e0 with e0;injection e0 with e0;subst e0
 injection e1 with e1;injection e1 with e1
 subst e1 ry
 refine⟨t,c,m,sp,lf,ns,n,rfl,ht,d0b.seq hc,h1,h2,h3,hn,hm,fun rr sp' lf' hr a1 a2 a3=>?_⟩
 have hw:=r.write (i:=0) (l:=t) (o:=.dK (e0c c sp' lf')) (s:=.tp (n+1)) rfl rfl rfl ⟨t,c,ns,sp',lf',rfl,a0z,hc,a1,a2,a3⟩
 refine post (.d (.int rr)) [.tp (n+1),.vl (.int m)] _ _ (hq rr hr) (fun i h=>?_) (fun i z=>nomatch z) ⟨hw.1,by unfold RepD;rfl⟩
 match i,h with
 | 0,_=>rfl
 | 1,h=>cases h
 | i+2,h=>cases h
theorem h1q {K:aa}(vs:List V)(H:Hp)(Q:VK)(E:XK)(h:spA K k1e vs H Q E):a1n K vs H Q E:=by
 obtain⟨ss,Z,q,r,⟨ns,rfl,hq⟩,post⟩:=h
 obtain⟨x,rfl⟩:=n1i r
 obtain⟨a,e0,sq⟩:=r.sl 0
 injection e0 with e0;injection e0 with e0;subst e0
 refine⟨a,ns,rfl,d0b.seq sq,fun t c ht hc htc=>?_⟩
 have rc:=r.fresh (o:=.lst ((ns.take 63).map V.int)) hc
 have kc:Kp ([V.ref a].map some) [.sc ns] [.sc ns] H (upd H c (.lst ((ns.take 63).map V.int))):=Kp.fresh hc
 have ht':(upd H c (.lst ((ns.take 63).map V.int))) t=none:=by rw[a0x htc];exact ht
 refine post (.n (.tp 0)) _ _ _ hq (fun i h=>h) (fun i z=>nomatch z) ⟨_,t,_,rc,rfl,⟨t,c,ns.take 63,0,0,rfl,a0z,SqL.of (i0k (k0v r hc) a0z),by decide,by decide,by decide⟩,ht',rfl,rfl⟩
section
variable {K:aa}{F:Fr}{σ:St}{ρ ρ':En}{H H':Hp}{ta tb tc:TE}{a b c:AE}{rr rr':R2}{g g':R->R->AE}
def n1n (g g':R->R->AE)(a b c:AE):AE:=fun ρ q=>a ρ fun r1 ρ1=>b ρ1 fun r2 ρ2=>g r1.frz r2.frz ρ2 fun r3 ρ3=>match r3 with
 | .d (.bl k)=>if k=true then c ρ3 fun r4 ρ4=>g' r2.frz r4.frz ρ4 q else q (.d (.bl false)) ρ3
 | _=>False
theorem r0u (ho:OpOk K rr g)(ho':OpOk K rr' g')(ha:TEok K ta a)(hb:TEok K tb b)(hc:TEok K tc c):TEok K (g1j rr rr' ta tb tc) (n1n g g' a b c):=by
 intro F σ ρ H q Q r h k
 refine ha F σ ρ H _ _ r h fun r1 ρ1 x H1 h1 o1=>?_
 obtain⟨r1',k1,i1⟩:=o1.inF
 refine hb F σ ρ1 H1 _ _ r1' h1 fun r2 ρ2 y H2 h2 o2=>?_
 obtain⟨r2',k2,i2⟩:=o2.inF
 refine ho F σ ρ2 H2 x y _ _ _ _ r2' (i1.keep k2) i2 h2 fun r3 ρ3 z H3 h3 o3=>?_
 obtain⟨r3',k3,i3⟩:=o3.inF
 split at h3
 ·rename_i kk
  refine⟨kk,i3.blv,?_⟩
  cases kk with
  | false=>exact(((k.after k1).after k2).after k3).bl r3' h3
  | true =>
   refine hc F σ ρ3 H3 _ _ r3' h3 fun r4 ρ4 w H4 h4 o4=>?_
   obtain⟨r4',k4,i4⟩:=o4.inF
   exact ho' F σ ρ4 H4 y w _ _ q Q r4' ((i2.keep k3).keep k4) i4 h4 ((((k.after k1).after k2).after k3).after k4)
 ·exact h3.elim
def gIsB (neg:Bool):R->R->AE:=fun r1 r2 ρ q=>match r1,r2 with
 | .d (.bl x),.d (.bl y)=>q (.d (.bl (if neg then !(x==y)else x==y))) ρ
 | _,_=>False
theorem x0b:OpOk K (fun x y H Q=>∃a b,x = .bl a/\y = .bl b/\Q (.bl (!(a==b))) H) (gIsB true):=by
 intro F σ ρ H x y r1 r2 q Q a h1 h2 h b
 unfold gIsB at h
 split at h
 ·exact⟨_,_,h1.blv,h2.blv,b.bl a h⟩
 ·exact h.elim
def r0b:D->Bool
 | .tup _=>false
 | .lst _=>false
 | _=>true
def inD (d:D)(ds:List D):Bool:=ds.any fun e=>eqD e d
@[irreducible] def gIn (neg:Bool):R->R->AE:=fun r1 r2 ρ q=>match view ρ r1,view ρ r2 with
 | some d,some (.lst ds)=>(r0b d=true/\ds.all r0b=true)/\q (.d (.bl (if neg then !inD d ds else inD d ds))) ρ
 | some d,some (.tup ds)=>(r0b d=true/\ds.all r0b=true)/\q (.d (.bl (if neg then !inD d ds else inD d ds))) ρ
 | _,_=>False
theorem r0a {x:V}{d:D}(h:RepD K H x d)(f:r0b d=true):m0i x=true:=by
 cases d with
 | tup ds=>cases f
 | lst ds=>cases f
 | non=>unfold RepD at h;subst h;rfl
 | bl b=>unfold RepD at h;subst h;rfl
 | int b=>unfold RepD at h;subst h;rfl
 | str b=>unfold RepD at h;subst h;rfl
theorem j1r {x y:V}{d e:D}(h:RepD K H x d)(h':RepD K H y e)(f:r0b d=true)(f':r0b e=true):eqV x y=eqD d e:=by
 cases d with
 | tup ds=>cases f
 | lst ds=>cases f
 | non=>unfold RepD at h;subst h;cases e with
  | tup ds=>cases f'
  | lst ds=>cases f'
  | non=>unfold RepD at h';subst h';simp[eqV,eqD]
  | bl b=>unfold RepD at h';subst h';simp[eqV,eqD]
  | int b=>unfold RepD at h';subst h';simp[eqV,eqD]
  | str b=>unfold RepD at h';subst h';simp[eqV,eqD]
 | bl b=>unfold RepD at h;subst h;cases e with
  | tup ds=>cases f'
  | lst ds=>cases f'
  | non=>unfold RepD at h';subst h';simp[eqV,eqD]
  | bl b=>unfold RepD at h';subst h';simp[eqV,eqD]
  | int b=>unfold RepD at h';subst h';simp[eqV,eqD]
  | str b=>unfold RepD at h';subst h';simp[eqV,eqD]
 | int b=>unfold RepD at h;subst h;cases e with
  | tup ds=>cases f'
  | lst ds=>cases f'
  | non=>unfold RepD at h';subst h';simp[eqV,eqD]
  | bl b=>unfold RepD at h';subst h';simp[eqV,eqD]
  | int b=>unfold RepD at h';subst h';simp[eqV,eqD]
  | str b=>unfold RepD at h';subst h';simp[eqV,eqD]
 | str b=>unfold RepD at h;subst h;cases e with
  | tup ds=>cases f'
  | lst ds=>cases f'
  | non=>unfold RepD at h';subst h';simp[eqV,eqD]
  | bl b=>unfold RepD at h';subst h';simp[eqV,eqD]
  | int b=>unfold RepD at h';subst h';simp[eqV,eqD]
  | str b=>unfold RepD at h';subst h';simp[eqV,eqD]
theorem c1e {x:V}{d:D}(h:RepD K H x d)(f:r0b d=true):∀ {vs:List V} {ds:List D},RepDs K H vs ds->ds.all r0b=true->vs.all m0i=true/\inV x vs=inD d ds
 | [],[],_,_=>⟨rfl,rfl⟩
 | v::vs,e::ds,hr,fa=>by
  unfold RepDs at hr
  rw[fP,ba]at fa
  obtain⟨q1,q2⟩:=c1e h f hr.2 fa.2
  refine⟨by rw[fP,r0a hr.1 fa.1,q1];rfl,?_⟩
  unfold inV inD at *
  rw[cz,cz,q2,j1r hr.1 h fa.1 f]
 | [],d::ds,h,_=>by unfold RepDs at h;exact h.elim
 | v::vs,[],h,_=>by unfold RepDs at h;exact h.elim
theorem x0c (neg:Bool):OpOk K (rIn K neg) (gIn neg):=by
 intro F σ ρ H x y r1 r2 q Q a h1 h2 h b
 unfold gIn at h
 split at h
 ·rename_i d ds e1 e2
  obtain⟨⟨f1,f2⟩,h⟩:=h
  have rx:=f0p a h1 e1
  obtain⟨l,vs,rfl,sq,rd⟩:=e0g a h2 e2
  obtain⟨q1,q2⟩:=c1e rx f1 (rd.same d0b) f2
  refine⟨l,vs,rfl,.inl sq,r0a rx f1,q1,?_⟩
  rw[q2]
  exact b.bl a h
 ·rename_i d ds e1 e2
  obtain⟨⟨f1,f2⟩,h⟩:=h
  have rx:=f0p a h1 e1
  obtain⟨l,vs,rfl,sq,rd,_⟩:=f0z a h2 e2
  obtain⟨q1,q2⟩:=c1e rx f1 (rd.same d0b) f2
  refine⟨l,vs,rfl,.inr sq,r0a rx f1,q1,?_⟩
  rw[q2]
  exact b.bl a h
 ·exact h.elim
end
theorem f0t {c:En->Prop}{g:AG}{b:AS}{e:t0t}(I:Nat->En->Prop){ds:List D}(hc:∀k ρ,k<=ds.length->I k ρ->c ρ)
  (hs:∀(k:Nat) d ρ (N:En->Prop),ds[k]? = some d->I k ρ->(∀ ρ',I (k+1) ρ'->N ρ')->g d ρ fun ρ1=>b {nx:=N,ct:=N,bk:=e.nx,rt:=e.rt} ρ1) (hd:∀ ρ,I ds.length ρ->e.nx ρ):∀ ρ,I 0 ρ->forA c g b e ds ρ:=by
 have go:∀(es:List D) (k:Nat),ds.drop k=es->k<=ds.length->∀ ρ,I k ρ->forA c g b e es ρ:=by
  intro es
  induction es with
  | nil =>
   intro k h hk ρ i
   have:ds.length<=k:=eZ.mp h
   have:k=ds.length:=by omega
   subst this
   unfold forA
   exact⟨hc _ ρ (aE _) i,hd ρ i⟩
  | cons d es ih =>
   intro k h hk ρ i
   have lt:k<ds.length:=by
    rcases bf k ds.length with q | q
    ·exact q
    ·rw[bE q]at h;cases h
   rw[br lt]at h
   injection h with h1 h2
   unfold forA
   exact⟨hc k ρ hk i,hs k d ρ _ (by rw[<- h1];exact ao lt) i (fun ρ' i'=>ih (k+1) h2 lt ρ' i')⟩
 exact go ds 0 rfl (bg _)
theorem k0x {n:Nat}{js:List Nat}{c:En->Prop}{g:AG}{tc:AT}{te:AE}{q:List D->En->Prop}(I:Nat->List D->En->Prop){ds:List D}(hc:∀k acc ρ,k<=ds.length->I k acc ρ->c ρ)
  (hs:∀(k:Nat) d acc ρ (N:List D->En->Prop),ds[k]? = some d->I k acc ρ->(∀acc' ρ',I (k+1) acc' ρ'->N acc' ρ') ->
   g d (blkE n js ρ) fun ρ1=>tc ρ1 fun b ρ2=>if b=true then te ρ2 fun r ρ3=>sto [r.frz] ρ3 fun es ρ4=>N (acc++es) (back ρ (js.map R.o) (ρ4.drop n))else N acc (back ρ (js.map R.o) (ρ2.drop n)))
  (hd:∀acc ρ,I ds.length acc ρ->q acc ρ):∀ ρ,I 0 [] ρ->j0g n js c g tc te q ds [] ρ:=by
 have go:∀(es:List D) (k:Nat),ds.drop k=es->k<=ds.length->∀acc ρ,I k acc ρ->j0g n js c g tc te q es acc ρ:=by
  intro es
  induction es with
  | nil =>
   intro k h hk acc ρ i
   have:ds.length<=k:=eZ.mp h
   have:k=ds.length:=by omega
   subst this
   unfold j0g
   exact⟨hc _ acc ρ (aE _) i,hd acc ρ i⟩
  | cons d es ih =>
   intro k h hk acc ρ i
   have lt:k<ds.length:=by
    rcases bf k ds.length with q | q
    ·exact q
    ·rw[bE q]at h;cases h
   rw[br lt]at h
   injection h with h1 h2
   unfold j0g
   exact⟨hc k acc ρ hk i,hs k d acc ρ (fun acc' ρ'=>j0g n js c g tc te q es acc' ρ') (by rw[<- h1];exact ao lt) i (fun acc' ρ' i'=>ih (k+1) h2 lt acc' ρ' i')⟩
 exact go ds 0 rfl (bg _) []
theorem h1k {c:AT}{b:AS}{e:t0t}(I:En->Prop)(μ:En->Nat)
  (hs:∀ ρ (N:En->Prop),I ρ->(∀ ρ',I ρ'->μ ρ'<μ ρ->N ρ')->c ρ fun k ρ1=>if k=true then b {nx:=N,ct:=N,bk:=e.nx,rt:=e.rt} ρ1 else e.nx ρ1):∀ ρ,I ρ->h1e c b e ρ:=by
 have go:∀(n:Nat) ρ,I ρ->μ ρ<n->whA c b e n ρ:=by
  intro n
  induction n with
  | zero=>intro ρ _ h;omega
  | succ n ih=>intro ρ i h;exact hs ρ _ i fun ρ' i' lt=>ih ρ' i' (by omega)
 exact fun ρ i=>⟨μ ρ+1,go _ ρ i (by omega)⟩
section
variable {X:Cx}(K:aa)
def l1m (K:aa):R2:=fun x y H Q=>∃a b xs ys,x = .ref a/\y = .ref b/\SqL K H a xs/\SqL K H b ys/\xs.length+ys.length<=1000000/\∀p,H p=none->Q (.ref p) (upd H p (.lst (xs++ys)))
theorem u0j (hK:X.K=K:=by rfl):OpR X (dP .Add) (l1m K):=by
 subst hK
 intro pins s σ H x y v u Q I rx ry h
 obtain⟨a,b,xs,ys,rfl,rfl,ha,hb,hz,q⟩:=h
 cases rx
 cases ry
 obtain⟨its,r1,p1,_⟩:=I.list ha
 obtain⟨its2,r2,p2,_⟩:=I.list hb
 have hz':its.length+its2.length<=aN:=small (by rw[<- r1.length,<- r2.length];exact hz)
 obtain⟨⟨cls,dd,data,sl⟩,ho,hc,n,hd⟩:=p1.isList
 obtain⟨⟨cls2,dd2,data2,sl2⟩,ho2,hc2,n2,hd2⟩:=p2.isList
 simp only at hc hd hc2 hd2
 subst hc hd hc2 hd2
 refine jc ⟨_,ho,rfl⟩ ⟨_,ho2,rfl⟩ noFill_list_add seq_list_add PySem.F.slot_list_add PySem.F.entry_list_add (PySem.F.args_list_add_2 _ _) (list_addW a b its.toArray its2.toArray n n2 dd dd2 sl sl2 (by rw[aD,aD];exact hz')) ⟨ho,ho2,?_⟩
 refine⟨.ref s.heap.objs.size,_,I.laid (t':=s.toks) (o:=.lst (xs++ys)) (fun b ob q=>aq _ q) (aE _) ?_,rfl,q _ (I.hok.fresh (aE _))⟩
 refine⟨by rw[aJ];exact small hz,_,0,r1.append r2,?_⟩
 rw[show(its++its2).toArray=its.toArray++its2.toArray by simp]
 exact aP _ rfl
variable {e st:Expr}{te:TE}{ts:TO}{pos p2:Pos}
end
section
variable {K:aa}{ta te:TE}{a ae:AE}{ts:TA}{as:AA}
def gCat:R->R->AE:=fun r1 r2 ρ q=>match view ρ r1,view ρ r2 with
 | some (.lst ds),some (.lst es)=>ds.length+es.length<=1000000/\q (.f (ds++es)) ρ
 | _,_=>False
theorem u0m:OpOk K (l1m K) gCat:=by
 intro F σ ρ H x y r1 r2 q Q a h1 h2 h b
 unfold gCat at h
 split at h
 ·rename_i ds es e1 e2
  obtain⟨l,vs,rfl,sq,rd⟩:=e0g a h1 e1
  obtain⟨l2,vs2,rfl,sq2,rd2⟩:=e0g a h2 e2
  exact⟨l,l2,vs,vs2,rfl,rfl,sq,sq2,by rw[rd.length,rd2.length];exact h.1,fun p hp=>b.new a h.2 (rd.append rd2) hp⟩
 ·exact h.elim
def o1m (a:AE):AE:=fun ρ q=>a ρ fun r ρ1=>match r with
 | .d (.int j)=>(0<=j/\j<=1000000)/\q (.f (a0e (aQ j.toNat))) ρ1
 | _=>False
theorem e1b (ha:TEok K ta a):TEok K (tCB (fun xs H Q=>∃(p:Addr) (n:Nat),xs=[.ref p]/\H p=some (.rng 0 (n:Nat))/\n<=1000000/\∀l,H l=none->Q (.ref l) (upd H l (.lst (v0a (aQ n)))))
  (a1k (tCB (fun xs H Q=>∃j:Int,xs=[.int j]/\∀p,H p=none->Q (.ref p) (upd H p (.rng 0 j))) (a1k ta tNil)) tNil)) (o1m a):=by
 intro F σ ρ H q Q r h k
 refine ha F σ ρ H _ _ r h fun r1 ρ1 x H1 h1 rel1=>?_
 obtain⟨r',k1,i1⟩:=rel1.inF
 split at h1
 ·rename_i j
  obtain⟨⟨h0,h2⟩,h1⟩:=h1
  obtain⟨n,rfl⟩:=dB h0
  refine⟨_,by rw[i1.int],fun p hp=>⟨p,n,rfl,a0z,by omega,fun l hl=>?_⟩⟩
  have rp:=r'.fresh (o:=.rng 0 (n:Nat)) hp
  refine((k.after k1).after (Kp.fresh hp)).new rp h1 ?_ hl
  rw[cL]
  exact i1b.mpr rfl
 ·exact h1.elim
end
abbrev nD (n:Nat):D:=.int (n:Nat)
abbrev nv (n:Nat):Sv:=.vl (.int (n:Nat))
def ownB (pr:Nat->Bool):En->Nat->Bool
 | [],_=>true
 | s::ss,i=>(!s.own||pr i)&&ownB pr ss (i+1)
theorem u0h {pr:Nat->Bool}:∀ {ss:En} {j:Nat},ownB pr ss j=true->∀i,(gt ss i).own=true->pr (j+i)=true
 | [],_,_,i,h=>by cases h
 | s::ss,j,hb,0,h=>by
  simp only[ownB,ba,lM,du]at hb
  rcases hb.1 with q | q
  ·rw[show(gt (s::ss) 0)=s from rfl,q]at h;cases h
  ·exact q
 | s::ss,j,hb,i+1,h=>by
  simp only[ownB,ba]at hb
  have:=u0h hb.2 i h
  rwa [show j+1+i=j+(i+1)by omega]at this
theorem DefN.aok2 {P:aO}{w:be}{K:aa}{mg:Str->Option af}{base:Heap}{x:Str}{st:Stmt}{N ps:List Str}{k:Nat}{a:AS}(D:DefN K mg x st ps)(Sc:b0a N ps (a0g st))(pr:Nat->Bool)(us:En)(S:ASp)(hus:aG (N.length - ps.length) Sv.un=us)
  (hbody:∀(f:Addr) (cdv:af) (A:bo) (outer:List Env) (s:ah) (H:Hp) (E:XK),Room k (A.deeper (e9 x (a0g st) s.heap.objs.size f cdv)) ->
   ∃t,PSs (cxOf CX0 P w K mg base N x (a0g st) f cdv A outer s H E).nox (c0g st) t/\TSok K pr t a)
  (hS:∀ss q,S ss q->ss.length=ps.length/\ownB pr ss 0=true/\a ⟨fun ρ=>q (.d .non) (outS ss ρ),fun r ρ=>fin pr r ρ fun r' ρ'=>q r' (outS ss ρ'),fun _=>False,fun _=>False⟩ (ss++us)):OkN P w K mg base (k+1) x ps (spA K S) :=
 D.aok Sc pr S hbody fun ss q h=>⟨(hS ss q h).1,fun i hi=>by have:=u0h (hS ss q h).2.1 i hi;rwa [ck]at this,by rw[hus];exact(hS ss q h).2.2⟩
theorem q0l {lo:Int}{n k:Nat}{d:D}(h:(rngD lo n)[k]? = some d):k<n/\d = .int (lo+k):=by
 unfold rngD at h
 rw[aM]at h
 obtain⟨j,e1,e2⟩:=aY.mp h
 have lt:k<n:=by
  rcases bf k n with q | q
  ·exact q
  ·rw[cQ (by simpa using q)]at e1;cases e1
 rw[fj lt]at e1
 cases e1
 exact⟨lt,e2.symm⟩
abbrev h1m (n:Nat)(js:List Nat)(g:AG)(tc:AT)(te:AE)(ρ:En)(d:D)(acc:List D)(N:List D->En->Prop):Prop :=
 g d (blkE n js ρ) fun ρ1=>tc ρ1 fun b ρ2=>if b=true then te ρ2 fun r ρ3=>sto [r.frz] ρ3 fun es ρ4=>N (acc++es) (back ρ (js.map R.o) (ρ4.drop n))else N acc (back ρ (js.map R.o) (ρ2.drop n))
section
variable {n:Nat}{js:List Nat}{c:En->Prop}{g:AG}{tc:AT}{te:AE}{q:List D->En->Prop}
theorem t0h {lo:Int}{m:Nat}(f:Nat->D){ρ:En}(hc:c ρ)(hs:∀k acc (N:List D->En->Prop),k<m->N (acc++[f k]) ρ->h1m n js g tc te ρ (.int (lo+k)) acc N)
  (hd:q ((aQ m).map f) ρ):j0g n js c g tc te q (rngD lo m) [] ρ:=by
 refine k0x (fun k acc ρ'=>k<=m/\ρ'=ρ/\acc=(aQ k).map f) (fun k acc ρ' _ h=>h.2.1▸hc) ?_ ?_ ρ ⟨bg _,rfl,rfl⟩
 ·rintro k d acc _ N hk ⟨_,rfl,rfl⟩ hN
  obtain⟨lt,rfl⟩:=q0l hk
  refine hs k _ N lt (hN _ _ ⟨lt,rfl,?_⟩)
  rw[cY,bp];rfl
 ·rintro acc _ ⟨_,rfl,rfl⟩
  rw[g0d];exact hd
theorem t0i {α:Type}(h:α->D)(f:α->D){xs:List α}{ρ:En}(hc:c ρ)(hs:∀x acc (N:List D->En->Prop),x∈xs->N (acc++[f x]) ρ->h1m n js g tc te ρ (h x) acc N)
  (hd:q (xs.map f) ρ):j0g n js c g tc te q (xs.map h) [] ρ:=by
 refine k0x (fun k acc ρ'=>ρ'=ρ/\acc=(xs.take k).map f) (fun k acc ρ' _ h=>h.1▸hc) ?_ ?_ ρ ⟨rfl,rfl⟩
 ·rintro k d acc _ N hk ⟨rfl,rfl⟩ hN
  rw[aM]at hk
  obtain⟨x,e1,rfl⟩:=aY.mp hk
  refine hs x _ N (bz e1) (hN _ _ ⟨rfl,?_⟩)
  rw[b8,e1,d5,bp];rfl
 ·rintro acc _ ⟨rfl,rfl⟩
  rw[aw,cj];exact hd
end
section
variable {c:En->Prop}{g:AG}{b:AS}{e:t0t}
theorem q0y {lo:Int}{m:Nat}(I:Nat->En->Prop)(hc:∀k ρ,I k ρ->c ρ)(hs:∀(k:Nat) ρ (N:En->Prop),k<m->I k ρ->(∀ ρ',I (k+1) ρ'->N ρ')->g (.int (lo+k)) ρ fun ρ1=>b {nx:=N,ct:=N,bk:=e.nx,rt:=e.rt} ρ1)
  (hd:∀ ρ,I m ρ->e.nx ρ) {ρ:En} (h0:I 0 ρ):forA c g b e (rngD lo m) ρ:=by
 refine f0t I (fun k ρ _ h=>hc k ρ h) (fun k d ρ N hk h hN=>?_) (fun ρ h=>hd ρ (by rwa [g0d]at h)) ρ h0
 obtain⟨lt,rfl⟩:=q0l hk
 exact hs k ρ N lt h hN
theorem x0n {α:Type}(h:α->D){xs:List α}(I:Nat->En->Prop)(hc:∀k ρ,I k ρ->c ρ)(hs:∀(k:Nat) x ρ (N:En->Prop),xs[k]? = some x->I k ρ->(∀ ρ',I (k+1) ρ'->N ρ')->g (h x) ρ fun ρ1=>b {nx:=N,ct:=N,bk:=e.nx,rt:=e.rt} ρ1)
  (hd:∀ ρ,I xs.length ρ->e.nx ρ) {ρ:En} (h0:I 0 ρ):forA c g b e (xs.map h) ρ:=by
 refine f0t I (fun k ρ _ h=>hc k ρ h) (fun k d ρ N hk h' hN=>?_) (fun ρ h=>hd ρ (by rwa [aw]at h)) ρ h0
 rw[aM]at hk
 obtain⟨x,e1,rfl⟩:=aY.mp hk
 exact hs k x ρ N e1 h' hN
end
theorem g1c {xs:List Nat}{i:Nat}(h:i<xs.length):atI (a0e xs) ((i:Nat):Int)=some (.int (xs.getD i 0:Nat)):=by
 refine f0a ?_
 unfold a0e
 rw[aM,ao h]
 simp[h]
theorem c0j {r1:R}{ρ:En}{q:Ko}{xs:List Nat}{i:Nat}(hv:view ρ r1=some (.lst (a0e xs)))(h:i<xs.length)(hq:q (.d (.int (xs.getD i 0:Nat))) ρ):gIx r1 (.d (.int (i:Nat))) ρ q:=by
 unfold gIx
 rw[hv]
 simp only[g1c h]
 exact hq
theorem e0a {neg:Bool}{r1 r2:R}{ρ:En}{q:Ko}{d e:D}{b:Bool}(h1:view ρ r1=some d)(h2:view ρ r2=some e)(hd:d.depth<=60)(hb:eqD d e=b)(hq:q (.d (.bl (if neg then !b else b))) ρ):gEq neg r1 r2 ρ q:=by
 unfold gEq
 rw[h1,h2]
 subst hb
 exact⟨hd,hq⟩
theorem k0u {r1:R}{ρ:En}{q:Ko}{ds:List D}{i:Int}{d:D}(hv:view ρ r1=some (.tup ds))(h:atI ds i=some d)(hq:q (.d d) ρ):gIx r1 (.d (.int i)) ρ q:=by
 unfold gIx
 rw[hv]
 simp only[h]
 exact hq
theorem m1y {r1:R}{ρ:En}{q:Ko}{ds:List D}{i:Int}{d:D}(hv:view ρ r1=some (.lst ds))(h:atI ds i=some d)(hq:q (.d d) ρ):gIx r1 (.d (.int i)) ρ q:=by
 unfold gIx
 rw[hv]
 simp only[h]
 exact hq
theorem l0n {r:R}{ρ:En}{q:Ko}{d:D}{n:String}{b:Bool}(hv:view ρ r=some d)(h:isaT (tyD d) n=some b)(hq:q (.d (.bl b)) ρ):gIsa [r,.t n] ρ q:=by
 unfold gIsa
 simp only[hv,h]
 exact hq
def tupB (lo hi:Int):D->Bool
 | .tup ds=>decide (lo<=(ds.length:Int))&&decide ((ds.length:Int)<=hi)
 | _=>false
theorem w0k {lo hi:Int}{d:D}(h:tupB lo hi d=true):∃ds,d = .tup ds/\lo<=(ds.length:Int)/\(ds.length:Int)<=hi:=by
 cases d with
 | tup i=>simp[tupB]at h;exact⟨i,rfl,h⟩
 | non=>cases h
 | bl _=>cases h
 | str _=>cases h
 | int _=>cases h
 | lst _=>cases h
theorem cutS {A B:AS}{e:t0t}{ρ:En}(P:En->Prop)(h1:∀N:En->Prop,(∀ ρ',P ρ'->N ρ')->A {e with nx:=N} ρ)(h2:∀ ρ',P ρ'->B e ρ'):aSeq A B e ρ:=h1 (B e) h2
theorem n1y {x:Int}{n:Nat}(h:x=(n:Nat)):Sv.vl (.int x)=nv n:=by rw[h]
theorem minI (a b:Nat):(if(b:Int)<(a:Int)then(b:Int)else(a:Int))=((min a b:Nat):Int):=by split <;> omega
theorem maxI (a b:Nat):(if(b:Int) > (a:Int)then(b:Int)else(a:Int))=((max a b:Nat):Int):=by split <;> omega
def m0x:ASp:=fun ss q=>∃(d:D) (lo hi:Int),ss=[.vl d,.vl (.int lo),.vl (.int hi)]/\q (.d (.bl (tupB lo hi d))) [.vl d,.vl (.int lo),.vl (.int hi)]
theorem e0k (xs:List Nat)(x:Nat):a0e (xs++[x])=a0e xs++[nD x]:=by unfold a0e;rw[bp];rfl
theorem y0r (rows:List Nat)(p:Nat×Nat):a0e (b0r rows p)=a0e rows++[nD (rows.getD p.1 0 ^^^ rows.getD p.2 0)]:=e0k _ _
def l0v:ASp:=fun ss q=>∃x y:Nat,ss=[nv x,nv y]/\q (.d (nD (x ^^^ y))) [nv x,nv y]
def SOwn:ASp:=fun ss q=>∃m:Nat,ss=[nv m]/\m<=1000/\q (.f (a0e (a0y m))) [nv m]
def SAll:ASp:=fun ss q=>∃(N:Net) (ws:List Nat),ss=[.vl (netD N),.vl (.lst (a0e ws))]/\okIx ws.length N.js/\ws.length+N.js.length<=1000/\q (.f (a0e (N.js.foldl b0r ws))) [.vl (netD N),.vl (.lst (a0e ws))]
def w0b:ASp:=fun ss q=>∃N:Net,ss=[.vl (netD N)]/\okIx N.m N.js/\N.m+N.js.length<=1000/\q (.f (a0e (d0i N))) [.vl (netD N)]
structure DefM (K:aa)(C:Addr)(m qual:Str)(st:Stmt)(ps:List Str):Prop where
 ex:∃f fd,Meth K C m f/\Fun K m qual st f fd/\∀us:List af,us.length=ps.length->j2 fd ⟨us,[]⟩=pure (ps.zip us)
structure OkM (P:aO)(w:be)(K:aa)(mg:Str->Option af)(base:Heap)(k:Nat)(C:Addr)(m:Str)(ps:List Str)(sp:Sp):Prop where
 ex:∃f fd,Meth K C m f/\o0m K fd ps []/\FnOk P w K mg base CX0 k f fd ps sp
theorem DefM.ok {P:aO}{w:be}{K:aa}{mg:Str->Option af}{base:Heap}{C:Addr}{m qual:Str}{st:Stmt}{N ps:List Str}{k:Nat}{sp:Sp}(D:DefM K C m qual st ps)(S:b0a N ps (a0g st))(len:∀vs H Q E,sp vs H Q E->vs.length=ps.length)
  (hbody:∀(f:Addr) (cdv:af) (A:bo) (outer:List Env) (s:ah) (H:Hp) (vs:List V) (Q:VK) (E:XK),Room k (A.deeper (e9 qual (a0g st) s.heap.objs.size f cdv))->sp vs H Q E ->
   ∃t,PSs (cxOf CX0 P w K mg base N qual (a0g st) f cdv A outer s H E).nox (c0g st) t/\t {nx:=fun _ H'=>Q .non H',rt:=Q} (start N vs) H):OkM P w K mg base (k+1) C m ps sp:=by
 obtain⟨f,fd,hm,F,hb⟩:=D.ex
 exact⟨f,fd,hm,.all hb,F.ok S len fun cdv A outer s H vs Q E hr h=>hbody f cdv A outer s H vs Q E hr h⟩
theorem DefM.aok2 {P:aO}{w:be}{K:aa}{mg:Str->Option af}{base:Heap}{C:Addr}{m qual:Str}{st:Stmt}{N ps:List Str}{k:Nat}{a:AS}(D:DefM K C m qual st ps)(Sc:b0a N ps (a0g st))(pr:Nat->Bool)(us:En)(S:ASp)(hus:aG (N.length - ps.length) Sv.un=us)
  (hbody:∀(f:Addr) (cdv:af) (A:bo) (outer:List Env) (s:ah) (H:Hp) (E:XK),Room k (A.deeper (e9 qual (a0g st) s.heap.objs.size f cdv)) ->
   ∃t,PSs (cxOf CX0 P w K mg base N qual (a0g st) f cdv A outer s H E).nox (c0g st) t/\TSok K pr t a)
  (hS:∀ss q,S ss q->ss.length=ps.length/\ownB pr ss 0=true/\a ⟨fun ρ=>q (.d .non) (outS ss ρ),fun r ρ=>fin pr r ρ fun r' ρ'=>q r' (outS ss ρ'),fun _=>False,fun _=>False⟩ (ss++us)):OkM P w K mg base (k+1) C m ps (spA K S):=by
 have hS':∀ss q,S ss q->ss.length=ps.length/\i1n pr ss/\a ⟨fun ρ=>q (.d .non) (outS ss ρ),fun r ρ=>fin pr r ρ fun r' ρ'=>q r' (outS ss ρ'),fun _=>False,fun _=>False⟩ (ss++aG (N.length - ps.length) .un) :=
  fun ss q h=>⟨(hS ss q h).1,fun i hi=>by have:=u0h (hS ss q h).2.1 i hi;rwa [ck]at this,by rw[hus];exact(hS ss q h).2.2⟩
 exact D.ok Sc (v0z fun ss q h=>(hS ss q h).1) fun f cdv A outer s H vs Q E hr h=>x0w pr S (hbody f cdv A outer s H E hr) hS' h
theorem g0l {K:aa}{C:Addr}{m qual:Str}{st:Stmt}{ps:List Str}{f:Addr}{oc:af}{od an:Option Addr}{osl:Array (Option af)}{kV doc pm cdv ct:af}
  (a:bb K (.ref C) m=some (some (.ref f))) (l:K.lookup f=some ⟨oc,od,.func (bK m qual (d0u st) (c0g st) (a0g st) .none kV doc pm an cdv ct),osl⟩)
  (c:bM K cdv qual=true) (k:bA K (.ref f)=true) (n:cw K (.ref f)=true)
  (hb:∀(kV doc pm:af) (an:Option Addr) (cdv ct:af) (us:List af),us.length=ps.length->j2 (bK m qual (d0u st) (c0g st) (a0g st) .none kV doc pm an cdv ct) ⟨us,[]⟩=pure (ps.zip us)):DefM K C m qual st ps :=
 ⟨f,_,⟨a,n,k⟩,h1a l c k,fun us hl=>hb kV doc pm an cdv ct us hl⟩
section
variable {X:Cx}{k:Nat}{C:Addr}{m:Str}{ps:List Str}{sp:Sp}{p pos apos:Pos}{e o:Expr}{es:List Expr}{ta:TE}{t:TA}
theorem m0b {pl:Sem Bool}(F:OkM X.prog X.w X.K X.mg X.base k C m ps sp)(c:Cls X.K C)(hr:Room k X.A)(he:PE X o ta)(ha:PA X (e::es) t)
  (hst:bh (e::es) X.env=(false,eval e X.env)::bh es X.env:=by rfl) (hpl:(dE pos (bh es X.env)).any (·.1)=false:=by rfl)
  (ht:eval (.Call (.Attribute o m apos) (e::es) [] pos) X.env=(do
   let ov <- eval o X.env
   dU apos.atName
   let (f,first) <- iw [ov] (iA ov m pl)
   lz pos f first (dE pos (bh (e::es) X.env)) (ie pos (fw [] X.env))):=by rfl) :
  PE X (.Call (.Attribute o m apos) (e::es) [] pos) (a1i C m sp [] E0 ta t):=by
 obtain⟨f,fd,hm,hb,F⟩:=F.ex
 exact i1g he c hm F hr hb .nil e1z ha hst hpl ht
theorem j0l {pl:Sem Bool}(F:OkM X.prog X.w X.K X.mg X.base k C m ps sp)(c:Cls X.K C)(hr:Room k X.A)(he:PE X o ta)
  (ht:eval (.Call (.Attribute o m apos) [] [] pos) X.env=(do
   let ov <- eval o X.env
   dU apos.atName
   let (f,first) <- iw [ov] (iA ov m pl)
   lz pos f first (dE pos (bh [] X.env)) (ie pos (fw [] X.env))):=by rfl) :
  PE X (.Call (.Attribute o m apos) [] [] pos) (a1i C m sp [] E0 ta tNil):=by
 obtain⟨f,fd,hm,hb,F⟩:=F.ex
 exact e1t he c hm F hr hb .nil e1z ht
end
def a1o (C:Addr)(ns:List Str):Sp:=fun vs H Q _=>∃x dx us,vs = .ref x::us/\us.length=ns.length/\H x=some (.ins C dx [])/\Q .non (upd H x (.ins C dx (ns.zip us)))
structure NewC (P:aO)(w:be)(K:aa)(mg:Str->Option af)(base:Heap)(C:Addr)(x:Str)(ns:List Str):Prop where
 ex:∃f fd,mg x=some (.ref C)/\Mk K C f/\o0m K fd ("self" :: ns) []/\FnOk P w K mg base CX0 1 f fd ("self" :: ns) (a1o C ns)
theorem g1q {X:Cx}{C:Addr}{x:Str}{ns:List Str}{p pos:Pos}{e:Expr}{es:List Expr}{t:TA}(N:NewC X.prog X.w X.K X.mg X.base C x ns)(hr:Room 2 X.A)(ha:PA X (e::es) t)(hg:Gl X x:=by rfl)
  (hdb:(x==("__debug__" : Str))=false:=by decide) (he:bh (e::es) X.env=(false,eval e X.env)::bh es X.env:=by rfl) (hpl:(dE pos (bh es X.env)).any (·.1)=false:=by rfl) :
  PE X (.Call (.Name x p) (e::es) [] pos) (h1r C (a1o C ns) [] E0 t):=by
 obtain⟨f,fd,hm,M,hb,F⟩:=N.ex
 exact i1h M F hr hg hm hb .nil e1z ha hdb he hpl
def obR (ρ:En):R->Option (Addr×List (Str×D))
 | .x (.ob C fs)=>some (C,fs)
 | .o i=>(match gt ρ i with | .ob C fs=>some (C,fs) | _=>none)
 | _=>none
def aFld (C:Addr)(f:Str)(a:AE):AE:=fun ρ q=>a ρ fun r ρ1=>match obR ρ1 r.frz with
 | some (C',fs)=>C'=C/\∃d,fs.lookup f=some d/\q (.d d) ρ1
 | none=>False
def o1l (C:Addr)(m:Str)(S:ASp)(a:AE)(as:AA):AE:=fun ρ q=>a ρ fun r ρ1=>match obR ρ1 r.frz with
 | some (C',fs)=>C'=C/\fs.lookup m=none/\as ρ1 fun rs ρ2=>dis (r.frz::rs)=true/\S ((r.frz::rs).map (e0n ρ2)) fun r' ss'=>q r' (back ρ2 (r.frz::rs) ss')
 | none=>False
def aNew (C:Addr)(ns:List Str)(as:AA):AE:=fun ρ q=>as ρ fun rs ρ1=>sto rs ρ1 fun ds ρ2=>ds.length=ns.length/\q (.x (.ob C (ns.zip ds))) ρ2
section
variable {K:aa}{F:Fr}{σ:St}{ρ ρ':En}{H H':Hp}{v:V}{r:R}{C:Addr}{fs:List (Str×D)}{f m:Str}{ta:TE}{a:AE}{ts:TA}{as:AA}
theorem m1c (a:Rel K F σ ρ H)(h:InF K F σ ρ H v r)(e:obR ρ r=some (C,fs)):∃p dx ks,v = .ref p/\H p=some (.ins C dx ks)/\ks.map a8=fs.map a8/\RepDs K (hid H (hs F σ ρ)) (ks.map bt) (fs.map bt):=by
 unfold obR at e
 split at e
 ·injection e with e
  injection e with e1 e2
  subst e1;subst e2
  obtain⟨_,p,dx,ks,e1,e2,e3,e4⟩:=h
  injection e1 with e1;injection e1 with e1
  exact⟨p,dx,ks,e1,(j0d.mp e2).2,e3,e4⟩
 ·rename_i i
  split at e
  ·rename_i C' fs' hg
   injection e with e
   injection e with e1 e2
   subst e1;subst e2
   have q:=a.sl i
   rw[hg,show σ[i]? = _ from h]at q
   obtain⟨p,dx,ks,e1,e2,e3,e4⟩:=q
   injection e1 with e1;injection e1 with e1
   exact⟨p,dx,ks,e1,(j0d.mp e2).2,e3,e4⟩
  ·cases e
 ·cases e
theorem g1v {Hh:Hp}{f:Str}{d:D}:∀ {ks:List (Str×V)} {fs:List (Str×D)},ks.map a8=fs.map a8->RepDs K Hh (ks.map bt) (fs.map bt)->fs.lookup f=some d->∃v,ks.lookup f=some v/\RepD K Hh v d
 | [],[],_,_,h=>by cases h
 | (k,v)::ks,(g,d')::fs,e,r,h=>by
  simp only[aT,eM]at e
  obtain⟨e1,e2⟩:=e
  simp only[aT]at r
  unfold RepDs at r
  subst e1
  simp only[dQ]at h ⊢
  split at h
  ·rename_i q;cases h;exact⟨v,rfl,r.1⟩
  ·rename_i q;exact g1v e2 r.2 h
 | [],_::_,e,_,_=>by cases e
 | _::_,[],e,_,_=>by cases e
theorem b1y {f:Str}:∀ {ks:List (Str×V)} {fs:List (Str×D)},ks.map a8=fs.map a8->fs.lookup f=none->ks.lookup f=none
 | [],[],_,_=>rfl
 | (k,v)::ks,(g,d')::fs,e,h=>by
  simp only[aT,eM]at e
  obtain⟨e1,e2⟩:=e
  subst e1
  simp only[dQ]at h ⊢
  split at h
  ·cases h
  ·rename_i q;exact b1y e2 h
 | [],_::_,e,_=>by cases e
 | _::_,[],e,_=>by cases e
theorem c0u (c:Cls K C)(n:l0b K C f)(ha:TEok K ta a):TEok K (tFld K ta f) (aFld C f a):=by
 intro F σ ρ H q Q r h b
 refine ha F σ ρ H _ _ r h fun r1 ρ1 v H1 h1 o=>?_
 obtain⟨rr,kp,i1⟩:=o.inF
 split at h1
 ·rename_i C' fs e
  obtain⟨rfl,d,l,hq⟩:=h1
  obtain⟨p,dx,ks,rfl,e2,e3,e4⟩:=m1c rr i1 e
  obtain⟨y,l2,ry⟩:=g1v e3 e4 l
  exact⟨p,C',dx,ks,y,rfl,e2,c,n,l2,(b.after kp).dat rr hq ry⟩
 ·exact h1.elim
theorem c0a {S:ASp}{E:XK}(ha:TEok K ta a)(hs':TAok K ts as):TEok K (a1i C m (spA K S) [] E ta ts) (o1l C m S a as):=by
 intro F σ ρ H q Q r h b
 refine ha F σ ρ H _ _ r h fun r1 ρ1 v H1 h1 o=>?_
 obtain⟨rr,kp,i1⟩:=o.inF
 split at h1
 ·rename_i C' fs e
  obtain⟨rfl,l,hq⟩:=h1
  obtain⟨p,dx,ks,rfl,e2,e3,e4⟩:=m1c rr i1 e
  refine⟨p,dx,ks,rfl,e2,b1y e3 l,?_⟩
  refine hs' F σ ρ1 H1 _ _ rr hq fun rs ρ2 vs H2 h2 r2 i2 k2=>?_
  obtain⟨hd,hS⟩:=h2
  have s:=(InFs.cons (i1.keep k2) i2).srcs
  have k:=(b.after kp).after k2
  rw[bq]
  refine⟨(r1.frz::rs).map (e0n ρ2),(f0m F σ ρ2 H2 ((V.ref p::vs).map some) ((r1.frz::rs).map (e0n ρ2))).Z,_,r2.sub s hd,hS,fun rr' ss' v H' hq sb no out=>?_⟩
  refine k rr' (back ρ2 (r1.frz::rs) ss') v H' hq ?_
  cases rr' with
  | o i=>exact absurd rfl (no i)
  | d d =>
   obtain⟨a,b⟩:=out
   obtain⟨x,y,z⟩:=r2.back s hd a sb
   exact⟨x,y,RepD.same b z⟩
  | x sv =>
   obtain⟨a,b,c⟩:=out
   obtain⟨x,y,z⟩:=r2.back s hd a sb
   exact⟨x,y,b,c.keep z fun l o ho=>by rw[b]at ho;cases ho⟩
  | t n =>
   obtain⟨a,b⟩:=out
   obtain⟨x,y,z⟩:=r2.back s hd a sb
   exact⟨x,y,b⟩
  | n sv =>
   obtain⟨Hb,l,o,a,b,c,e1,e2,e3⟩:=out
   obtain⟨x,y,z⟩:=r2.back s hd a sb
   exact⟨Hb,l,o,x,y,b,c.keep z fun _ _ _ _ e=>e,e1,e2,e3⟩
 ·exact h1.elim
theorem t0v {α β:Type}:∀ {ns:List α} {us:List β},us.length=ns.length->(ns.zip us).map a8=ns
 | [],[],_=>rfl
 | n::ns,u::us,h=>by simp[t0v (ns:=ns) (us:=us) (by simpa using h)]
 | [],_::_,h=>by cases h
 | _::_,[],h=>by cases h
theorem t0u {α β:Type}:∀ {ns:List α} {us:List β},us.length=ns.length->(ns.zip us).map bt=us
 | [],[],_=>rfl
 | n::ns,u::us,h=>by simp[t0u (ns:=ns) (us:=us) (by simpa using h)]
 | [],_::_,h=>by cases h
 | _::_,[],h=>by cases h
theorem z0x {ns:List Str}{E:XK}(hs':TAok K ts as):TEok K (h1r C (a1o C ns) [] E ts) (aNew C ns as):=by
 intro F σ ρ H q Q r h b
 refine hs' F σ ρ H _ _ r h fun rs ρ1 vs H1 h1 r1 i1 k1=>?_
 obtain⟨ds,ρ2,⟨hl,hq⟩,r2,k2,rd⟩:=j0i r1 i1 h1
 intro x dx hx hdx ne
 rw[bq]
 have lv:vs.length=ns.length:=by rw[<- hl];exact RepDs.length rd
 refine⟨x,dx,vs,rfl,lv,a0z,?_⟩
 refine⟨rfl,?_⟩
 rw[l0d]
 have hx2:upd H1 dx (.own x) x=none:=by rw[a0x (cM ne)];exact hx
 have ra:=r2.fresh (o:=.own x) hdx
 have ka:Kp σ ρ2 ρ2 H1 (upd H1 dx (.own x)):=Kp.fresh hdx
 have rb:=ra.fresh (o:=.ins C dx (ns.zip vs)) hx2
 have kb:Kp σ ρ2 ρ2 _ (upd (upd H1 dx (.own x)) x (.ins C dx (ns.zip vs))):=Kp.fresh hx2
 have kk:=(k1.trans k2).trans (ka.trans kb)
 refine(b.after kk) _ ρ2 _ _ hq ⟨rb,.refl,rfl,x,dx,ns.zip vs,rfl,i0k (k0v ra hx2) a0z,?_,?_⟩
 ·rw[t0v lv,t0v hl]
 ·rw[t0u lv,t0u hl]
  exact rd.same (ka.trans kb).vis
end
def o0z:Stmt->Nat->Stmt
 | .ClassDef _ _ _ b _ _ _ _ _ _ _,j=>b.getD j (.Pass ⟨0,0,0,0⟩)
 | _,_=>.Pass ⟨0,0,0,0⟩
structure ClsO (K:aa)(mg:Str->Option af)(C:Addr)(x:Str)(ns:List Str):Prop where
 m:mg x=some (.ref C)
 cl:Cls K C
 na:∀f∈ns,l0b K C f
 mkk:fX K C=true
 kp:bA K (.ref C)=true
structure ObC (P:aO)(w:be)(K:aa)(mg:Str->Option af)(base:Heap)(C:Addr)(x:Str)(ns:List Str):Prop where
 cl:Cls K C
 na:∀f∈ns,l0b K C f
 nw:NewC P w K mg base C x ns
theorem ObC.of {P:aO}{w:be}{K:aa}{mg:Str->Option af}{base:Heap}{C:Addr}{x qual:Str}{st:Stmt}{ns:List Str}(o:ClsO K mg C x ns)(D:DefM K C "__init__" qual st ("self" :: ns))(S:b0a ("self" :: ns) ("self" :: ns) (a0g st))
  (hbody:∀(f:Addr) (cdv:af) (A:bo) (outer:List Env) (s:ah) (H:Hp) (vs:List V) (Q:VK) (E:XK),Room 0 (A.deeper (e9 qual (a0g st) s.heap.objs.size f cdv))->a1o C ns vs H Q E ->
   ∃t,PSs (cxOf CX0 P w K mg base ("self" :: ns) qual (a0g st) f cdv A outer s H E).nox (c0g st) t/\t {nx:=fun _ H'=>Q .non H',rt:=Q} (start ("self" :: ns) vs) H):ObC P w K mg base C x ns:=by
 obtain⟨f,fd,hm,F,hb⟩:=D.ex
 have len:∀vs H Q E,a1o C ns vs H Q E->vs.length=(("self" : Str)::ns).length:=by
  rintro vs H Q E ⟨x,dx,us,rfl,hl,_⟩
  simp[hl]
 exact⟨o.cl,o.na,f,fd,o.m,⟨o.mkk,hm.at_,hm.fn,o.kp⟩,.all hb,F.ok S len fun cdv A outer s H vs Q E hr h=>hbody f cdv A outer s H vs Q E hr h⟩
theorem DefM.no {P:aO}{w:be}{K:aa}{mg:Str->Option af}{base:Heap}{C:Addr}{m qual:Str}{st:Stmt}{N ps:List Str}(D:DefM K C m qual st ps)(Sc:b0a N ps (a0g st))(k:Nat):OkM P w K mg base (k+1) C m ps (spA K fun _ _=>False) :=
 D.ok Sc (fun vs H Q E h=>by obtain⟨_,_,_,_,h,_⟩:=h;exact h.elim) fun f cdv A outer s H vs Q E _ h=>by obtain⟨_,_,_,_,h,_⟩:=h;exact h.elim
theorem f0k (xs:List D)(k:Nat):cutD xs none (some ((k:Nat):Int))=xs.take k:=by
 unfold cutD
 have e0:HT.sIx xs.length 0 none=0:=rfl
 rw[e0,jt,iJ,HT.sIx_nat]
 rcases j6 k xs.length with h | h
 ·rw[ji h]
 ·rw[iX h,bS (aE _),bS h]
def r0r:ASp:=fun ss q=>∃a b:Nat,ss=[nv a,nv b]/\q (.d (L2.d0n (min a b,max a b))) [nv a,nv b]
theorem d1a (xs:List D)(k:Nat):cutD xs (some ((k:Nat):Int)) none=xs.drop k:=by
 unfold cutD
 have e0:HT.sIx xs.length xs.length none=xs.length:=rfl
 rw[e0,HT.sIx_nat]
 rcases j6 k xs.length with h | h
 ·rw[ji h,bS (by rw[dW];omega)]
 ·rw[iX h,bE (aE _),bE h];simp
theorem g0v (xs:List Nat):(a0e xs).length=xs.length:=by rw[aw]
theorem DefN.no {P:aO}{w:be}{K:aa}{mg:Str->Option af}{base:Heap}{x:Str}{st:Stmt}{N ps:List Str}(D:DefN K mg x st ps)(Sc:b0a N ps (a0g st))(k:Nat):OkN P w K mg base (k+1) x ps (spA K fun _ _=>False) :=
 D.ok Sc (fun vs H Q E h=>by obtain⟨_,_,_,_,h,_⟩:=h;exact h.elim) fun f cdv A outer s H vs Q E _ h=>by obtain⟨_,_,_,_,h,_⟩:=h;exact h.elim
end L2
namespace HT
open PySem PySem.Spec PyProof.Rows
theorem tup_whole {prog:aO}{w:be}{A:bo}{E:af->ah->Prop}{s:ah}{t sl:Addr}{items:Array af}{vl vu:af}{lo hi:Option Int}{Q:af->ah->Prop}(ht:mx s.heap t items)(hs:s.heap.IsSliceOf sl vl vu .none)(pl:im vl lo)(pu:im vu hi)
  (hw:sIx items.size 0 lo=0/\sIx items.size items.size hi=items.size) (h:Q (.ref t) s):az (aH prog w) A (f_ (.ref t) (.ref sl)) Q E s:=by
 obtain⟨os,hos,hcs,hds⟩:=id hs
 have hTs:s.TypeIs (.ref sl) "slice" := ⟨os,hos,hcs⟩
 unfold f_
 try with_reducible refine cU ?_
 first | refine ab (aj ?_) | skip
 refine ab (mh ht.typeIs (by decide) ?_)
 refine ab (cg (name:=dX "__getitem__") ht.typeIs b0
  (b_ b0 ht.typeIs lO ?_ (l5 _ _)))
 show az _ _ (g5 (.ref t)>>=_) _ _ s
 refine ab (tupleItemsOf_ ht ?_)
 refine ab (fH hTs ?_)
 rw[if_pos (by decide)]
 refine ab (h0r hs pl pu ?_)
 have yes:(((sIx items.size 0 lo:Nat):Int)==0&&(1:Int)==1&&(sIx items.size items.size hi - sIx items.size 0 lo)==items.size)=true:=by
  rw[hw.1,hw.2];simp
 show az _ _ (if(((sIx items.size 0 lo:Nat):Int)==0&&(1:Int)==1&&(sIx items.size items.size hi - sIx items.size 0 lo)==items.size)=true then _ else _) _ _ s
 rw[if_pos yes]
 have hex:∀ {R:Bool->ah->Prop} {E':af->ah->Prop} {A'},R true s->az (aH prog w) A' (g6 (.ref t)) R E' s:=fun hR=>by
  unfold g6
  exact ab (fH ht.typeIs (aj hR))
 refine ab (hex ?_)
 rw[if_pos rfl]
 first
  | exact ab (cH (ab (aj (aj ⟨_,rfl,aj h⟩))))
  | exact ab (cH (aj ⟨_,rfl,aj h⟩))
  | exact ab (cH (ab (aj ⟨_,rfl,aj h⟩)))
  | exact cH (ab (aj ⟨_,rfl,aj h⟩))
end HT
namespace L2
open PySem PySem.Spec PyProof.Rows
section
variable {X:Cx}(K:aa)
def l1l (K:aa):V->Option Int->Option Int->Hp->VK->Prop:=fun x lo hi H Q=>∃a xs,x = .ref a/\SqT K H a xs /\
 ((HT.sIx xs.length 0 lo=0/\HT.sIx xs.length xs.length hi=xs.length)->Q (.ref a) H)/\(¬(HT.sIx xs.length 0 lo=0/\HT.sIx xs.length xs.length hi=xs.length)->∀p,H p=none->Q (.ref p) (upd H p (.tup (cutV xs lo hi))))
theorem q0h (hK:X.K=K:=by rfl):SlR X (l1l K):=by
 subst hK
 intro pins s σ H x v vl vu lo hi sl Q I rx hs pl pu h
 obtain⟨a,xs,rfl,hx,q1,q2⟩:=h
 by_cases hw:HT.sIx xs.length 0 lo=0/\HT.sIx xs.length xs.length hi=xs.length
 ·cases rx
  obtain⟨its,r,ht,hz⟩:=I.tuple hx
  have hlen:its.toArray.size=xs.length:=by rw[aD];exact r.length.symm
  refine⟨"tuple",_,b0.lookup,ht.typeIs,?_⟩
  exact HT.tup_whole ht hs pl pu (by rw[hlen];exact hw) ⟨.ref a,H,I,rfl,q1 hw⟩
 ·exact l1f pins s σ H (.ref a) v vl vu lo hi sl Q I rx hs pl pu ⟨a,xs,rfl,hx,hw,q2 hw⟩
def g1p (K:aa):R2:=fun x y H Q=>∃a b xs ys,x = .ref a/\y = .ref b/\SqT K H a xs/\SqT K H b ys/\xs.length+ys.length<=1000000 /\
 (xs=[]->Q (.ref b) H)/\(ys=[]->Q (.ref a) H)/\(∀p,H p=none->Q (.ref p) (upd H p (.tup (xs++ys))))
theorem k0m (hK:X.K=K:=by rfl):OpR X (dP .Add) (g1p K):=by
 subst hK
 intro pins s σ H x y v u Q I rx ry h
 obtain⟨a,b,xs,ys,rfl,rfl,ha,hb,hz,q0,q1,q2⟩:=h
 by_cases hx:xs=[]
 ·subst hx
  cases rx
  cases ry
  obtain⟨its,r1,p1,_⟩:=I.tuple ha
  obtain⟨its2,r2,p2,_⟩:=I.tuple hb
  cases r1
  obtain⟨⟨cls,dd,data,sl⟩,ho,hc,n,hd⟩:=id p1
  obtain⟨⟨cls2,dd2,data2,sl2⟩,ho2,hc2,n2,hd2⟩:=id p2
  simp only at hc hd hc2 hd2
  subst hc hd hc2 hd2
  exact jc ⟨_,ho,rfl⟩ ⟨_,ho2,rfl⟩ jz km fV fJ (fD _ _) (tuple_addW0 a b _ its2.toArray n n2 dd dd2 sl sl2 (by simp)) ⟨ho,ho2,.ref b,H,I,rfl,q0 rfl⟩
 ·exact i1q pins s σ H (.ref a) (.ref b) v u Q I rx ry ⟨a,b,xs,ys,rfl,rfl,ha,hb,hx,small hz,q1,fun _=>q2⟩
end
section
variable {K:aa}{ta:TE}{a:AE}
def gCatT:R->R->AE:=fun r1 r2 ρ q=>match view ρ r1,view ρ r2 with
 | some (.tup ds),some (.tup es)=>ds.length+es.length<=1000000/\q (.d (.tup (ds++es))) ρ
 | _,_=>False
theorem RepDs.nilL {H:Hp}{ds:List D}(h:RepDs K H [] ds):ds=[]:=by
 cases ds with
 | nil=>rfl
 | cons d r=>unfold RepDs at h;exact h.elim
theorem k0n:OpOk K (g1p K) gCatT:=by
 intro F σ ρ H x y r1 r2 q Q a h1 h2 h b
 unfold gCatT at h
 split at h
 ·rename_i ds es e1 e2
  obtain⟨l,vs,rfl,sq,rd,sv⟩:=f0z a h1 e1
  obtain⟨l2,vs2,rfl,sq2,rd2,sv2⟩:=f0z a h2 e2
  refine⟨l,l2,vs,vs2,rfl,rfl,sq,sq2,by rw[rd.length,rd2.length];exact h.1,fun z=>?_,fun z=>?_,fun p hp=>b.newT a h.2 (rd.append rd2) hp⟩
  ·refine b.dat a h.2 ?_
   have:ds=[]:=by rw[z]at rd;exact rd.nilL
   rw[this,i7]
   unfold RepD
   exact⟨l2,vs2,rfl,sv2,rd2⟩
  ·refine b.dat a h.2 ?_
   have:es=[]:=by rw[z]at rd2;exact rd2.nilL
   rw[this,bq]
   unfold RepD
   exact⟨l,vs,rfl,sv,rd⟩
 ·exact h.elim
def aSlT (a:AE)(l u:AO):AE:=fun ρ q=>a ρ fun r ρ1=>l ρ1 fun lo ρ2=>u ρ2 fun hi ρ3=>match view ρ3 r.frz with
 | some (.tup ds)=>q (.d (.tup (cutD ds lo hi))) ρ3
 | _=>False
theorem f1y {ds:List D}{lo hi:Option Int}(h:HT.sIx ds.length 0 lo=0/\HT.sIx ds.length ds.length hi=ds.length):cutD ds lo hi=ds:=by
 unfold cutD
 rw[h.1,h.2];simp
theorem q0b {tl th:TO}{al au:AO}(ha:TEok K ta a)(hl:TOok K tl al)(hh:TOok K th au):TEok K (tSl (l1l K) ta tl th) (aSlT a al au):=by
 intro F σ ρ H q Q r h k
 refine ha F σ ρ H _ _ r h fun r1 ρ1 x H1 h1 rel1=>?_
 obtain⟨r',k1,i1⟩:=rel1.inF
 refine hl F σ ρ1 H1 _ _ r' h1 fun lo ρ2 H2 h2 r2 k2=>?_
 refine hh F σ ρ2 H2 _ _ r2 h2 fun hi ρ3 H3 h3 r3 k3=>?_
 have kk:=((k.after k1).after k2).after k3
 split at h3
 ·rename_i ds e
  obtain⟨p,vs,rfl,sq,rd,sv⟩:=f0z r3 ((i1.keep k2).keep k3) e
  refine⟨p,vs,rfl,sq,fun z=>?_,fun _ p' hp=>kk.newT r3 h3 (c1z rd) hp⟩
  refine kk.dat r3 h3 ?_
  rw[rd.length]at z
  rw[f1y z]
  unfold RepD
  exact⟨p,vs,rfl,sv,rd⟩
 ·exact h3.elim
end
section
variable {prog:aO}{w:be}{K0:Type} [DecidableEq K0]{knd:KeyKind prog w K0}{A:bo}{E:af->ah->Prop}{s:ah}
theorem y0f {d:Addr}{kvs:List (K0×af)}{k:K0}{key dv:af}{Q:af->ah->Prop}(hkey:knd.is k key=true)(hm:s.heap.DictOf knd d kvs)(hz:kvs.length<=aN)
  (old:∀v,eE kvs k=some v->Q v {s with toks:=s.toks+1})
  (new:eE kvs k=none->∀h',h'.DictOf knd d (jy kvs k dv)->bH d s.heap h'->Q dv {s with heap:=h',toks:=s.toks+1}):az (aH prog w) A (jY d key dv) Q E s:=by
 have hv:=hm.mapOf
 obtain⟨o,es,ep,ho,hc,hd,hk,hp,hn⟩:=hm
 have hes:es.size<=aN:=by
  have e1:=hp.length
  have e2:es.toList.length=es.size:=by simp
  omega
 have hidx:(es.findIdx? fun e=>knd.is k e.key)=kvs.findIdx? fun kv=>decide (kv.1=k):=by
  rw[<- hp.findIdx k];obtain⟨l⟩:=es;simp
 have hf:findBy knd.is es k=eE kvs k:=by
  rw[<- hp.find k]
  obtain⟨l⟩:=es
  simp[findBy]
 unfold jY
 try with_reducible refine cU ?_
 refine ab (knd.pyHash hkey ?_)
 refine ab (wpAny_dictFind_of (s:={s with toks:=s.toks+1}) hkey ho hd hk ?_)
 cases hi:es.findIdx? fun e=>knd.is k e.key with
 | some i =>
  have hfk:eE kvs k=(es[i]?).map (·.val):=by rw[<- hf,lX,hi]
  refine ab (wpAny_dictEntries (s:={s with toks:=s.toks+1}) ho hd ?_)
  cases he:es[i]? with
  | none =>
   exfalso
   have lt:i<es.size:=(Array.findIdx?_eq_some_iff_findIdx_eq.mp hi).1
   rw[cm lt]at he
   cases he
  | some e =>
   rw[he]at hfk
   exact ab (cH (aj (old e.val hfk)))
 | none =>
  have hfk:eE kvs k=none:=by rw[<- hf,lX,hi]
  have hnot:k∉kvs.map (·.1):=not_mem_of_findIdx_none (hidx▸hi)
  have hany:¬(kvs.any fun kv=>decide (kv.1=k))=true:=by
   rw[cD];rintro⟨kv,hkv,he⟩
   exact hnot (bD.mpr ⟨kv,hkv,of_decide_eq_true he⟩)
  refine ab (cH (ab (wpAny_updateDictKeys (hz:=hes) (s:={s with toks:=s.toks+1}) ho hd (aj (new hfk _ ⟨_,_,ep+1,b6 _ ho (Obj.isFreed_of_dict (kt hd _)),hc.mapDictKeys _,kt hd _,hk.push hkey _,?_,?_⟩ (cB ..))))))
  ·rw[jy,if_neg hany]
   have:=hp.append hkey (knd.hash k) dv
   obtain⟨l⟩:=es
   simpa using this
  ·rw[jy,if_neg hany,bp,dL]
   refine⟨hn,by simp,fun a ha b hb e=>?_⟩
   simp only[aT,cS,aL]at hb
   subst hb
   exact hnot (e▸ha)
end
section
variable {X:Cx}{pins:List (Addr×Obj)}{σ:St}{H:Hp}{s:ah}{A:bo}{E:af->ah->Prop}
theorem n1g {a:Addr}{kvs:List (Key×V)}{k:Key}{v:V}{u r:af}{Q:af->ah->Prop}(I:Inv X pins σ H s)(e:H a=some (.dK kvs))(hl:kvs.length<aN)(ry:RelV (kV k) u)(rv:RelV v r)
  (old:∀x w' s',valV kvs k=some x->Inv X pins σ H s'->RelV x w'->Q w' s') (new:valV kvs k=none->∀s',Inv X pins σ (upd H a (.dK (putK kvs k v))) s'->Q r s'):az (aH X.prog X.w) A (call (.builtin "dict.setdefault") [.ref a,u,r]) Q E s:=by
 obtain⟨z,hd,vs,rel,dd⟩:=f1w I.hok e
 have hz:vs.length<=aN:=by rw[<- rel.length];exact z
 have hl':(putK kvs k v).length<=aN:=by have:=h0l kvs k v;omega
 have mt:MeetsIn X.prog X.w (Builtin.«dict.setdefault» ⟨[.ref a,u,r],[]⟩) (fun _ R s1=>s1=s/\(∀x,eE vs k=some x->R (.ok (.ret x)) {s with toks:=s.toks+1})/\(eE vs k=none->∀h',h'.DictOf (c0f X.prog X.w) a (jy vs k r)->bH a s.heap h'->R (.ok (.ret r)) {s with heap:=h',toks:=s.toks+1})) :=
  .of_wp fun A R s1 ⟨e1,h1,h2⟩=>by
   subst e1
   unfold Builtin.«dict.setdefault»
   refine ab ?_
   unfold m4
   refine ab (wpAny_notOrdered_dict dd.typeIs ?_)
   show az _ _ (pure (a,u,some r)) _ _ _
   refine aj ?_
   show az _ _ (if(a==dz)=true then _ else(jY a u r>>=_)) _ _ _
   rw[if_neg (by rw[hd];exact bn)]
   exact ab (y0f (s0s ry) dd hz (fun x hx=>aj ⟨x,rfl,h1 x hx⟩) fun hn h' hm' hs'=>aj ⟨r,rfl,h2 hn h' hm' hs'⟩)
 have rl:=rel.val k
 refine call_meetsIn iI dd.typeIs PySem.F.entry_dict_setdefault (PySem.F.args_dict_setdefault_3 _ _ _) mt ⟨rfl,fun x hx=>?_,fun hx h' dd' hs=>?_⟩
 ·rw[hx]at rl
  cases hv:valV kvs k with
  | none=>rw[hv]at rl;exact rl.elim
  | some y=>rw[hv]at rl;exact old y _ _ hv (I.tok _) rl
 ·rw[hx]at rl
  cases hv:valV kvs k with
  | some y=>rw[hv]at rl;exact rl.elim
  | none =>
   refine new hv _ ?_
   have he:∃q,h'.get? a=some q:=let ⟨q,_,_,hq,_⟩:=dd';⟨q,hq⟩
   exact r0i I (by rw[e];exact True.intro) hs he (t0b hl' hd (rel.put k rv) dd')
def g1i (td ty tx:TE):TE:=fun σ H Q=>td σ H fun x H1=>∃a,x = .ref a/\IsD H1 a/\ty σ H1 fun y H2=>tx σ H2 fun z H3=>∃kvs k,y=kV k/\H3 a=some (.dK kvs)/\kvs.length<aN /\
 (∀v,valV kvs k=some v->Q v H3)/\(valV kvs k=none->Q z (upd H3 a (.dK (putK kvs k z))))
theorem e1w {o e f:Expr}{apos cpos:Pos}{td ty tx:TE}(ho:PE X o td)(he:PE X e ty)(hf:PE X f tx)(m:M2 X o "setdefault" apos e f cpos):PE X (.Call (.Attribute o "setdefault" apos) [e,f] [] cpos) (g1i td ty tx):=by
 intro pins s σ H Q I h
 refine wpAny_Call_method m.base m.few m.line jq iI PySem.F.type_dict_setdefault (thn (ho pins s σ H _ I h) fun u s1 ⟨x,H1,I1,rx,a,ex,d,q1⟩=>?_)
 subst ex
 obtain rfl:u=Value.ref a:=rx
 obtain⟨t1,t2,_⟩:=m1s I1 d
 refine⟨t1,t2,?_⟩
 rw[m.trees]
 refine jP rfl (j_ (d8 (thn (he pins s1 σ H1 _ I1 q1) fun iv s2 ⟨y,H2,I2,ry,q2⟩ =>
  d8 (thn (hf pins s2 σ H2 _ I2 q2) fun fv s3 ⟨z,H3,I3,rz,kvs,k,ey,hk,hl,qo,qn⟩=>fG ?_))))
 subst ey
 exact n1g I3 hk hl ry rz (fun x w' s' hv I' rx=>⟨x,H3,I',rx,qo x hv⟩) fun hn s' I'=>⟨z,_,I',rz,qn hn⟩
end
def dKey:D->Option Key
 | .int i=>some (.inl i)
 | .str x=>some (.inr x)
 | _=>none
section
variable {κ:Type} [DecidableEq κ]
def valD (kvs:List (κ×D))(k:κ):Option D:=(kvs.find? fun kv=>decide (kv.1=k)).map (·.2)
def putD (kvs:List (κ×D))(k:κ)(d:D):List (κ×D) :=
 if(kvs.any fun kv=>decide (kv.1=k))=true then kvs.map (fun kv=>if kv.1=k then(kv.1,d)else kv)else kvs++[(k,d)]
variable {K:aa}{H:Hp}
theorem t0w (k:κ):∀ {ks:List (κ×V)} {kvs:List (κ×D)},ks.map a8=kvs.map a8->RepDs K H (ks.map bt) (kvs.map bt) ->
  (∀d,valD kvs k=some d->∃v,valV ks k=some v/\RepD K H v d)/\(valD kvs k=none->valV ks k=none)
 | [],[],_,_=>⟨(fun _ h=>nomatch h),fun _=>rfl⟩
 | p::ks,q::kvs,e,r=>by
  simp only[aT,eM]at e
  rw[aT,aT]at r
  unfold RepDs at r
  obtain⟨i1,i2⟩:=t0w k e.2 r.2
  by_cases z:q.1=k
  ·have e1:valD (q::kvs) k=some q.2:=by simp[valD,bO,z]
   rw[e1,m0j (e.1.trans z)]
   exact⟨fun d h=>⟨_,rfl,by cases h;exact r.1⟩,fun h=>by cases h⟩
  ·have e1:valD (q::kvs) k=valD kvs k:=by simp[valD,bO,z]
   rw[e1,m0k (fun h=>z (e.1▸h))]
   exact⟨i1,i2⟩
 | [],q::kvs,e,_=>by simp at e
 | p::ks,[],e,_=>by simp at e
theorem k1a (k:κ){ks:List (κ×V)}{kvs:List (κ×D)}(e:ks.map a8=kvs.map a8):(ks.any fun kv=>decide (kv.1=k))=kvs.any fun kv=>decide (kv.1=k):=by
 have h1:(ks.any fun kv=>decide (kv.1=k))=(ks.map a8).any fun x=>decide (x=k):=by rw[ga];rfl
 have h2:(kvs.any fun kv=>decide (kv.1=k))=(kvs.map a8).any fun x=>decide (x=k):=by rw[ga];rfl
 rw[h1,h2,e]
theorem w0r (k:κ){v:V}{d:D}(rv:RepD K H v d):∀ {ks:List (κ×V)} {kvs:List (κ×D)},ks.map a8=kvs.map a8->RepDs K H (ks.map bt) (kvs.map bt) ->
  (ks.map fun kv=>if kv.1=k then(kv.1,v)else kv).map a8=(kvs.map fun kv=>if kv.1=k then(kv.1,d)else kv).map a8/\RepDs K H ((ks.map fun kv=>if kv.1=k then(kv.1,v)else kv).map bt) ((kvs.map fun kv=>if kv.1=k then(kv.1,d)else kv).map bt)
 | [],[],_,_=>⟨rfl,.nil⟩
 | p::ks,q::kvs,e,r=>by
  simp only[aT,eM]at e
  rw[aT,aT]at r
  unfold RepDs at r
  obtain⟨i1,i2⟩:=w0r k rv e.2 r.2
  simp only[aT,e.1]
  by_cases z:q.1=k
  ·simp only[z,if_true]
   exact⟨by rw[i1],.cons rv i2⟩
  ·simp only[z,if_false]
   exact⟨by rw[i1,e.1],.cons r.1 i2⟩
 | [],q::kvs,e,_=>by simp at e
 | p::ks,[],e,_=>by simp at e
theorem q0m (k:κ){v:V}{d:D}(rv:RepD K H v d){ks:List (κ×V)}{kvs:List (κ×D)}(e:ks.map a8=kvs.map a8)(r:RepDs K H (ks.map bt) (kvs.map bt)) :
  (putK ks k v).map a8=(putD kvs k d).map a8/\RepDs K H ((putK ks k v).map bt) ((putD kvs k d).map bt):=by
 unfold putK putD
 rw[k1a k e]
 split
 ·exact w0r k rv e r
 ·refine⟨by rw[bp,bp,e];rfl,?_⟩
  rw[bp,bp]
  exact r.append (.one rv)
theorem k0s {ks:List (κ×V)}{kvs:List (κ×D)}(e:ks.map a8=kvs.map a8):ks.length=kvs.length:=by
 have:=congrArg mJ e
 simpa using this
end
section
variable {K:aa}{F:Fr}{σ:St}{ρ ρ':En}{H H':Hp}{td ty tx:TE}{ad ay ax:AE}
theorem c1b {v:V}{d:D}{k:Key}(h:RepD K H v d)(e:dKey d=some k):v=kV k:=by
 cases d with
 | int i=>unfold RepD at h;injection e with e;subst e;exact h
 | str i=>unfold RepD at h;injection e with e;subst e;exact h
 | non=>cases e
 | bl _=>cases e
 | tup _=>cases e
 | lst _=>cases e
def aDNew:AE:=fun ρ q=>q (.n (.dk [])) ρ
theorem e1c:TEok K tDNewK aDNew:=fun F σ ρ H q Q r h k p hp=>k (.n (.dk [])) ρ _ _ h ⟨H,p,_,r,.refl,rfl,⟨p,[],rfl,a0z,rfl,.nil⟩,hp,rfl,rfl⟩
theorem z0g {i:Nat}{x:V}{kvs:List (Key×D)}(r:Rel K F σ ρ H)(ei:σ[i]? = some (some x))(hg:gt ρ i = .dk kvs):∃t ks,x = .ref t/\H t=some (.dK ks)/\ks.map a8=kvs.map a8/\RepDs K (hid H (hs F σ ρ)) (ks.map bt) (kvs.map bt):=by
 have s:=r.sl i
 rw[hg,ei]at s
 obtain⟨t,ks,e,h1,h2,h3⟩:=s
 injection e with e;injection e with e
 exact⟨t,ks,e,h1,h2,h3⟩
def aDIn (neg:Bool)(i a:AE):AE:=fun ρ q=>i ρ fun r ρ1=>a ρ1 fun r2 ρ2=>match r,r2 with
 | .d d,.o j=>(match gt ρ2 j,dKey d with
  | .dk kvs,some k=>q (.d (.bl (if neg then !(valD kvs k).isSome else(valD kvs k).isSome))) ρ2
  | _,_=>False)
 | _,_=>False
theorem p0l {kvs:List (Key×D)}{ks:List (Key×V)}{k:Key}(e1:ks.map a8=kvs.map a8)(e2:RepDs K H (ks.map bt) (kvs.map bt)):(valV ks k).isSome=(valD kvs k).isSome:=by
 obtain⟨a,b⟩:=t0w k e1 e2
 cases h:valD kvs k with
 | none=>rw[b h];rfl
 | some d=>obtain⟨v,e,_⟩:=a d h;rw[e];rfl
theorem a1a (hi:TEok K ty ay)(ha:TEok K td ad):TEok K (tDIn ty td) (aDIn false ay ad):=by
 intro F σ ρ H q Q r h k
 refine hi F σ ρ H _ _ r h fun r1 ρ1 y H1 h1 o1=>?_
 obtain⟨r1',k1,i1⟩:=o1.inF
 refine ha F σ ρ1 H1 _ _ r1' h1 fun r2 ρ2 x H2 h2 o2=>?_
 obtain⟨r2',k2,i2⟩:=o2.inF
 split at h2
 ·rename_i d j
  have ej:σ[j]? = some (some x):=i2
  split at h2
  ·rename_i kvs kk hg ek
   obtain⟨t,ks,rfl,ht,e1,e2⟩:=z0g r2' ej hg
   refine⟨t,valV ks kk,rfl,?_,?_⟩
   ·rw[c1b i1 ek];exact DGet.k ht
   ·rw[p0l e1 e2]
    exact((k.after k1).after k2).bl r2' h2
  ·exact h2.elim
 ·exact h2.elim
theorem l0e (hi:TEok K ty ay)(ha:TEok K td ad):TEok K (a1j ty td) (aDIn true ay ad):=by
 intro F σ ρ H q Q r h k
 refine hi F σ ρ H _ _ r h fun r1 ρ1 y H1 h1 o1=>?_
 obtain⟨r1',k1,i1⟩:=o1.inF
 refine ha F σ ρ1 H1 _ _ r1' h1 fun r2 ρ2 x H2 h2 o2=>?_
 obtain⟨r2',k2,i2⟩:=o2.inF
 split at h2
 ·rename_i d j
  have ej:σ[j]? = some (some x):=i2
  split at h2
  ·rename_i kvs kk hg ek
   obtain⟨t,ks,rfl,ht,e1,e2⟩:=z0g r2' ej hg
   refine⟨t,valV ks kk,rfl,?_,?_⟩
   ·rw[c1b i1 ek];exact DGet.k ht
   ·rw[p0l e1 e2]
    exact((k.after k1).after k2).bl r2' h2
  ·exact h2.elim
 ·exact h2.elim
def o1q (x o i:AE):AS:=fun e ρ=>x ρ fun r ρ1=>sto [r.frz] ρ1 fun ds ρ2=>o ρ2 fun r2 ρ3=>match r2 with
 | .o j=>i ρ3 fun r3 ρ4=>(match r3,gt ρ4 j,ds with
  | .d kd,.dk kvs,[d]=>(match dKey kd with | some k=>kvs.length<=1000000/\e.nx (pt ρ4 j (.dk (putD kvs k d))) | none=>False)
  | _,_,_=>False)
 | _=>False
theorem w0o {pr:Nat->Bool}{tv:TE}{av:AE}(h:TEok K tv av)(ho:TEok K td ad)(hi:TEok K ty ay):TSok K pr (l1h td ty tv) (o1q av ad ay):=by
 intro F σ ρ H D e hp r ha k
 refine h F σ ρ H _ _ r ha fun r1 ρ1 v H1 h1 o=>?_
 obtain⟨r',k1,i1⟩:=o.inF
 obtain⟨ds,ρ2,h2,r2,k2,rd⟩:=j0i r' (.cons i1 .nil) h1
 refine ho F σ ρ2 H1 _ _ r2 h2 fun r3 ρ3 x H3 h3 o3=>?_
 obtain⟨r3',k3,i3⟩:=o3.inF
 split at h3
 ·rename_i j
  have ej:σ[j]? = some (some x):=i3
  refine hi F σ ρ3 H3 _ _ r3' h3 fun r4 ρ4 y H4 h4 o4=>?_
  obtain⟨r4',k4,i4⟩:=o4.inF
  split at h4
  ·rename_i kd kvs d hg
   split at h4
   ·rename_i kk ek
    obtain⟨t,ks,rfl,ht,e1,e2⟩:=z0g r4' ej hg
    unfold RepDs at rd
    have rd4:=(RepD.same rd.1 (k3.trans k4).vis)
    obtain⟨p1,p2⟩:=q0m kk rd4 e1 e2
    have hw:=r4'.write (i:=j) (l:=t) (o:=.dK (putK ks kk v)) (s:=.dk (putD kvs kk d)) (by rw[hg];rfl) ej rfl ⟨t,_,rfl,a0z,p1,p2⟩
    refine⟨t,_,rfl,?_,k.nx _ _ _ h4.2 hw.1⟩
    rw[c1b i4 ek]
    exact DPut.k ht (p0d (by rw[k0s e1];exact h4.1))
   ·exact h4.elim
  ·exact h4.elim
 ·exact h3.elim
@[irreducible] def c1l (kvs:List (Key×D))(kd d:D)(q:D->List (Key×D)->Prop):Prop:=match dKey kd with
 | some k=>kvs.length<=1000000/\(match valD kvs k with | some x=>q x kvs | none=>q d (putD kvs k d))
 | none=>False
theorem c1k {kvs:List (Key×D)}{kd d:D}{q:D->List (Key×D)->Prop}(h:c1l kvs kd d q):∃k,dKey kd=some k/\kvs.length<=1000000/\(∀x,valD kvs k=some x->q x kvs)/\(valD kvs k=none->q d (putD kvs k d)):=by
 unfold c1l at h
 split at h
 ·rename_i k e
  refine⟨k,e,h.1,fun x hx=>?_,fun hx=>?_⟩
  ·have:=h.2;rw[hx]at this;exact this
  ·have:=h.2;rw[hx]at this;exact this
 ·exact h.elim
theorem f1q {kvs:List (Key×D)}{kd d:D}{k:Key}{q:D->List (Key×D)->Prop}(e:dKey kd=some k)(hz:kvs.length<=1000000)(h1:∀x,valD kvs k=some x->q x kvs)(h2:valD kvs k=none->q d (putD kvs k d)):c1l kvs kd d q:=by
 unfold c1l
 simp only[e]
 refine⟨hz,?_⟩
 cases hv:valD kvs k with
 | none=>exact h2 hv
 | some x=>exact h1 x hv
def n1k (a i x:AE):AE:=fun ρ q=>a ρ fun r ρ1=>match r with
 | .o j=>(match gt ρ1 j with
  | .dk _=>i ρ1 fun r2 ρ2=>x ρ2 fun r3 ρ3=>(match r2,r3,gt ρ3 j with
   | .d kd,.d d,.dk kvs=>c1l kvs kd d fun z kvs'=>q (.d z) (pt ρ3 j (.dk kvs'))
   | _,_,_=>False)
  | _=>False)
 | _=>False
theorem l1n:∀ {ρ:En} {i:Nat} {s:Sv},gt ρ i=s->s.own=true->pt ρ i s=ρ
 | [],_,_,h,ho=>by cases h;cases ho
 | x::r,0,s,h,_=>by cases h;rfl
 | x::r,i+1,s,h,ho=>by show x::pt r i s=x::r;rw[l1n (ρ:=r) h ho]
theorem z0z (ha:TEok K td ad)(hi:TEok K ty ay)(hx:TEok K tx ax):TEok K (g1i td ty tx) (n1k ad ay ax):=by
 intro F σ ρ H q Q r h k
 refine ha F σ ρ H _ _ r h fun r1 ρ1 x H1 h1 o1=>?_
 obtain⟨r1',k1,i1⟩:=o1.inF
 split at h1
 ·rename_i j
  have ej:σ[j]? = some (some x):=i1
  split at h1
  ·rename_i kvs0 hg0
   obtain⟨t,ks0,rfl,ht0,_,_⟩:=z0g r1' ej hg0
   refine⟨t,rfl,.inl ⟨ks0,.inl ht0⟩,?_⟩
   refine hi F σ ρ1 H1 _ _ r1' h1 fun r2 ρ2 y H2 h2 o2=>?_
   obtain⟨r2',k2,i2⟩:=o2.inF
   refine hx F σ ρ2 H2 _ _ r2' h2 fun r3 ρ3 z H3 h3 o3=>?_
   obtain⟨r3',k3,i3⟩:=o3.inF
   have kk:=((k.after k1).after k2).after k3
   split at h3
   ·rename_i kd d kvs hg
    obtain⟨key,ek,hz,h4,h5⟩:=c1k h3
    obtain⟨t',ks,et,ht,e1,e2⟩:=z0g r3' ej hg
    cases et
    obtain⟨v1,v2⟩:=t0w key e1 e2
    refine⟨ks,key,c1b i2 ek,ht,p0d (by rw[k0s e1];exact hz),fun v hv=>?_,fun hv=>?_⟩
    ·cases hd:valD kvs key with
     | none=>rw[v2 hd]at hv;cases hv
     | some x =>
      obtain⟨v',ev,rv⟩:=v1 x hd
      rw[ev]at hv;cases hv
      have:=h4 x hd
      rw[l1n hg rfl]at this
      exact kk.dat r3' this rv
    ·cases hd:valD kvs key with
     | some x=>obtain⟨v',ev,_⟩:=v1 x hd;rw[ev]at hv;cases hv
     | none =>
      obtain⟨p1,p2⟩:=q0m key i3 e1 e2
      have hw:=r3'.write (i:=j) (l:=t) (o:=.dK (putK ks key z)) (s:=.dk (putD kvs key d)) (by rw[hg];rfl) ej rfl ⟨t,_,rfl,a0z,p1,p2⟩
      exact(kk.after hw.2).dat hw.1 (h5 hd) (RepD.same i3 hw.2.vis)
   ·exact h3.elim
  ·exact h1.elim
 ·exact h1.elim
end
section
variable {X:Cx}{pins:List (Addr×Obj)}{σ:St}{H:Hp}{s:ah}{h':Heap}
theorem Inv.turns {t':Nat}{ch:List Addr}(I:Inv X pins σ H s)(k:∀b o,b∉ch->s.heap.get? b=some o->h'.get? b=some o)(hf:∀b∈ch,FpOk X pins H b):Inv X pins σ H {s with heap:=h',toks:=t'}:=by
 have nit:∀b u,H b=some u->b∉ch:=fun b u e z=>by rw[(hf b z).1]at e;cases e
 refine I.step (g':=s.gens) (d':=s.drawn) (ch:=ch) (fun b hb=>?_) (fun b o _ _ hc e _=>k b o hc e) (fun b o _ _ hc e _=>⟨o.slots,k b o hc e⟩) (fun _ _ _ _ n=>n)
  (fun b o hc e=>⟨o,k b o hc e⟩) (fun _ _ e=>e) (fun _ _ _ e=>e) (fun b ps e=>⟨#[],by rw[e];simp⟩) (fun m hm=>?_) (fun b u e=>?_) I.bare
 ·obtain⟨_,h2,_,h4,h5,h6⟩:=hf b hb
  exact⟨h4,h2,h5,h6⟩
 ·obtain⟨o,es,ep,ho,r⟩:=hm
  exact⟨o,es,ep,k _ o (fun z=>(hf _ z).2.1 rfl) ho,r⟩
 ·refine(I.hok b u e).stay (fun c v hc q=>k c v ?_ q) (fun _ q=>q) fun _ _ q=>q
  rcases hc with z | z
  ·rw[z];exact nit b u e
  ·exact nit c _ z
theorem Inv.trackO {p:Addr}{o:HO}(I:Inv X pins σ H s)(hf:FpOk X pins H p)(new:d0y X.prog X.w (upd H p o) s.heap p o):Inv X pins σ (upd H p o) s:=by
 have hn:=hf.1
 refine I.call' (ch:=[p]) rfl ⟨fun b u e _ _ _=>e,fun b u e _ _ _=>⟨u.slots,e⟩,fun b u e n hx=>?_,fun b u e _=>⟨u,e⟩,fun b xs e=>?_,fun b u v e=>?_,fun b ps e=>⟨#[],?_⟩⟩ (fun b u e=>?_) I.bare (fun b hb=>?_)
 ·rw[a0x (fun z=>hx (by simp[z]))];exact n
 ·rw[a0x (b0o e hn)];exact e
 ·rw[a0x (b0o e hn)];exact e
 ·rw[a0x (b0o e hn),e];simp
 ·by_cases hb:b=p
  ·subst hb;rw[a0z]at e;cases e;exact new
  ·rw[a0x hb]at e
   exact(I.hok b u e).stay (fun c v _ q=>q) (fun c q=>by rw[a0x (b0o q hn)];exact q) fun c xs q=>by rw[a0x (b0o q hn)];exact q
 ·rw[aL.mp hb]
  obtain⟨_,h2,_,h4,h5,h6⟩:=hf
  exact⟨h4,h2,h5,h6⟩
end
section
variable {K:aa}{ts:TA}{as:AA}
def r0t (pin:Nat->Bool)(ρ:En):R->Option (List D×(En->Prop))
 | .d (.lst ds)=>some (ds,fun _=>True)
 | .o i=>(match gt ρ i with
  | .ow ds=>if pin i=true then some (ds,fun ρ2=>gt ρ2 i = .ow ds)else none
  | _=>none)
 | _=>none
theorem w0h {pin:Nat->Bool}{F:Fr}{σ:St}{ρ:En}{H:Hp}{v:V}{r:R}{ds:List D}{c:En->Prop}(a:Rel K F σ ρ H)(i:InF K F σ ρ H v r)(e:r0t pin ρ r=some (ds,c)) :
  ∃l vs,v = .ref l/\SqL K H l vs/\∀ σ2 ρ2 H2,Same (hid H (hs F σ ρ)) (hid H2 (hs F σ2 ρ2))->(∀i,SvOk K (hid H2 (hs F σ2 ρ2)) H2 σ2[i]? (gt ρ2 i))->(∀j a,pin j=true->σ[j]? = some (some (.ref a))->σ2[j]? = some (some (.ref a)))->c ρ2->∃vs2,SqL K H2 l vs2/\RepDs K (hid H2 (hs F σ2 ρ2)) vs2 ds:=by
 cases r with
 | n s=>cases e
 | t n=>cases e
 | x s=>cases e
 | d d =>
  cases d with
  | lst es =>
   simp only[r0t,bJ,dY]at e
   obtain⟨rfl,rfl⟩:=e
   have rd:RepD K _ v (.lst es):=i
   unfold RepD at rd
   obtain⟨l,vs,rfl,sq,rr⟩:=rd
   exact⟨l,vs,rfl,d0b.seq (StL.sq sq),fun σ2 ρ2 H2 sm _ _ _=>⟨vs,d0b.seq (sm.seq (StL.sq sq)),rr.same sm⟩⟩
  | non=>cases e
  | bl _=>cases e
  | int _=>cases e
  | str _=>cases e
  | tup _=>cases e
 | o j =>
  have ej:σ[j]? = some (some v):=i
  unfold r0t at e
  cases hg:gt ρ j with
  | ow es =>
   simp only[hg]at e
   split at e
   ·rename_i hp
    simp only[bJ,dY]at e
    obtain⟨rfl,rfl⟩:=e
    have s:=a.sl j
    rw[hg,ej]at s
    obtain⟨l,vs,e1,hl,rd⟩:=s
    injection e1 with e1;injection e1 with e1;subst e1
    refine⟨l,vs,rfl,SqL.of hl,fun σ2 ρ2 H2 sm sv pn hc=>?_⟩
    have s2:=sv j
    rw[hc,pn j l hp ej]at s2
    obtain⟨l',vs',e2,hl',rd'⟩:=s2
    injection e2 with e2;injection e2 with e2;injection e2 with e2;subst e2
    exact⟨vs',SqL.of hl',rd'⟩
   ·cases e
  | un=>simp[hg]at e
  | vl _=>simp[hg]at e
  | tp _=>simp[hg]at e
  | dk _=>simp[hg]at e
  | dt _=>simp[hg]at e
  | ex _ _=>simp[hg]at e
  | sc _=>simp[hg]at e
  | px _ _ _=>simp[hg]at e
  | xl _=>simp[hg]at e
  | ob _ _=>simp[hg]at e
  | ll _=>simp[hg]at e
  | ds _ _ _=>simp[hg]at e
end
section
variable {K:aa}{ts:TA}{as:AA}
def aNever:AS:=fun _ _=>False
theorem a1r {pr:Nat->Bool}:TSok K pr tNever aNever:=fun F σ ρ H D e hp r h k=>h.elim
end
def k1d (t:TE):Prop:=∀ σ H Q,t σ H Q->∃v,Q v H/\∀H' (Q':VK),Q' v H'->t σ H' Q'
theorem m1e {v:V}:k1d (tC v):=fun σ H Q h=>⟨v,h,fun _ _ h'=>h'⟩
def Ite (K:aa)(l:Addr):It :=
 ⟨fun i H=>∃xs x,SqL K H l xs/\xs[i]? = some x,fun i H v H'=>∃p x,v = .ref p/\H p=none/\H'=upd H p (.tup [.int (i:Nat),x])/\∀xs,SqL K H l xs->xs[i]? = some x,
  fun i H=>∃xs,SqL K H l xs/\xs.length<=i⟩
theorem z0u {P:aO}{w:be}{K:aa}{elts:List Expr}{x1}{tpos:Pos}{e it l:Addr}(ne:e≠it) :
  Turn P w K (.Tuple elts x1 tpos) (Ite K l) [e,it] e (fun i h=>(∃old,jC h e it (i:Nat) old)/\h.IsListIter it l i) where
 mem:=by simp
 obj:=fun i h st b hb=>by
  obtain⟨⟨old,he⟩,⟨o1,e1,c1,d1⟩⟩:=st
  simp only[aK,bF,or_false]at hb
  rcases hb with rfl | rfl
  ·exact⟨_,he,fun v q=>by cases q⟩
  ·exact⟨o1,e1,fun v q=>by rw[d1]at q;cases q⟩
 keep:=fun i h h' st k=>by
  obtain⟨⟨old,he⟩,h1⟩:=st
  exact⟨⟨old,k e (by simp) _ he⟩,h1.at fun o q=>k it (by simp) o q⟩
 item:=by
  intro X hP hw hK hc i pins s σ H E I hf st hg
  subst hP hw hK
  obtain⟨xs,x,q1,hx⟩:=hg
  obtain⟨⟨old,he⟩,h1⟩:=st
  obtain⟨its,rv,p1,_⟩:=I.list q1
  obtain⟨u,hu,ru⟩:=rv.get hx
  refine wpAny_pyNext_enum_item he h1 p1.isList (x:=u) (by simpa using hu) ne fun h' a1 a2 a3 a4 hk=>?_
  refine⟨_,rfl,jV (s:={s with heap:=h',toks:=s.toks+1}) a1 fun h2' he' hs'=>?_⟩
  have hs2:bH e h' h2':=hs'
  have ls:∀ {b o},s.heap.get? b=some o->b≠s.heap.objs.size:=fun e=>aR (aA e)
  have es:e≠s.heap.objs.size:=ls he
  have up:∀b o,b∉[e,it]->s.heap.get? b=some o->h2'.get? b=some o:=fun b o hb q=>by
   simp only[aK,bF,or_false,not_or]at hb
   exact(hs2.2 b hb.1).trans (hk b o hb.1 hb.2 q)
  have I1:Inv X pins σ H {s with heap:=h2',toks:=s.toks+1}:=I.turns (t':=s.toks+1) up hf
  have fp:FpOk X pins H s.heap.objs.size:=I.fpOk (aE _) (I.hok.fresh (aE _))
  have g:h2'.get? s.heap.objs.size=some {cls:=.type "tuple",data:=.seq #[.int i s.toks,u]}:=(hs2.2 _ (cM es)).trans a3
  have I2:=I1.trackO (o:=.tup [.int (i:Nat),x]) fp ⟨by show 2<=aN;decide,[.int i s.toks,u],.cons ⟨_,rfl⟩ (.cons ru .nil),_,g,rfl,_,rfl⟩
  refine⟨.ref s.heap.objs.size,upd H s.heap.objs.size (.tup [.int (i:Nat),x]),I2,rfl,⟨_,x,rfl,fp.1,rfl,fun zs hz=>by rw[I.list_inj hz q1];exact hx⟩,?_,fun b hb=>?_⟩
  ·refine⟨⟨u,by simpa using he'⟩,?_⟩
   obtain⟨o,q,r⟩:=a2;exact⟨o,(hs2.2 it (cM ne)).trans q,r⟩
  ·have hb':=(hf b hb).1
   have ne':b≠s.heap.objs.size:=by
    obtain⟨o1,e1,_⟩:=h1
    simp only[aK,bF,or_false]at hb
    rcases hb with rfl | rfl
    ·exact ls he
    ·exact ls e1
   rw[a0x ne'];exact hb'
 done:=by
  intro X hP hw hK hc i pins s σ H E I hf st hg
  subst hP hw hK
  obtain⟨xs,q1,hl⟩:=hg
  obtain⟨⟨old,he⟩,h1⟩:=st
  obtain⟨its,rv,p1,_⟩:=I.list q1
  have l1:=rv.length
  refine wpAny_pyNext_enum_end (I.ok.hd hc) he h1 p1.isList (by simp;omega) fun h' hk=>⟨rfl,I.turns (ch:=[e,it]) (t':=s.toks) (fun b o hb q=>?_) hf⟩
  simp only[aK,bF,or_false,not_or]at hb
  exact hk b o hb.2 q
 self:=fun _ _ _ _ _ st h=>by obtain⟨⟨old,he⟩,_⟩:=st;exact eP he h
def m1w (K:aa)(t:TA):TI:=fun σ H R=>t σ H fun vs H1=>∃l xs,vs=[.ref l]/\SqL K H1 l xs/\R (Ite K l) H1
theorem j0s (K:aa){X:Cx}{elts:List Expr}{x1}{tpos:Pos}{a:Expr}{ta:TA}{p pos:Pos}(hg:Gl X "enumerate")(hm:X.mg "enumerate" = none)(ha:PA X [a] ta)(hK:X.K=K:=by rfl)(hs:bh [a] X.env=[(false,eval a X.env)]:=by rfl) :
  PI X (.Tuple elts x1 tpos) (.Call (.Name "enumerate" p) [a] [] pos) (m1w K ta):=by
 subst hK
 intro pins s σ H R I h
 refine lG (j0m I hg hm i0r (bX (thn (ha pos pins s σ H _ I h) fun us s1 ⟨vs,H1,I1,r1,q1⟩=>?_) hs rfl))
 obtain⟨l,xs,rfl,h1,q⟩:=q1
 obtain⟨u,rfl,ru⟩:=o0n r1
 cases ru
 obtain⟨its,_,p1,_⟩:=I1.list h1
 refine call_enumerate_list p1.isList fun h' he hi hsz hk=>?_
 refine eP he ?_
 refine⟨_,_,_,_,H1,rfl,I1.kept (t':=s1.toks) hk,z0u (show s1.heap.objs.size+1≠s1.heap.objs.size by omega),⟨⟨_,he⟩,hi⟩,fun b hb=>?_,q⟩
 have le:s1.heap.objs.size<=b:=by
  simp only[aK,bF,or_false]at hb
  rcases hb with rfl | rfl <;> omega
 exact I1.fpOk le (I1.hok.fresh le)
section
variable {K:aa}{ts:TA}{as:AA}
def f0j (k:Nat):List D->List D
 | []=>[]
 | d::ds=>.tup [.int (k:Nat),d]::f0j (k+1) ds
theorem d0t:∀ {ds:List D} {b k:Nat} {d:D},(f0j b ds)[k]? = some d->∃x,ds[k]? = some x/\d = .tup [.int ((b+k:Nat):Int),x]
 | [],b,k,d,h=>by simp[f0j]at h
 | x::ds,b,0,d,h=>by
  simp only[f0j,eA,bJ]at h
  exact⟨x,rfl,h.symm⟩
 | x::ds,b,k+1,d,h=>by
  simp only[f0j,List.getElem?_cons_succ]at h
  obtain⟨a,e1,e2⟩:=d0t (ds:=ds) (b:=b+1) (k:=k) h
  exact⟨a,by simpa using e1,by rw[e2,show b+1+k=b+(k+1)by omega]⟩
theorem c0n:∀(ds:List D) (b:Nat),(f0j b ds).length=ds.length
 | [],b=>rfl
 | x::ds,b=>by simp only[f0j,aS,c0n ds]
theorem h1j {S:Addr->Prop}{H:Hp}{l:Addr}{vs:List V}{ds:List D}(al:∀a,S a->H a≠none)(h1:SqL K H l vs)(r1:RepDs K (hid H S) vs ds):WkAt K S H (Ite K l) (f0j 0 ds):=by
 intro k
 constructor
 ·intro d e
  obtain⟨x,ex,rfl⟩:=d0t e
  rw[ck]
  obtain⟨v,e1,rv⟩:=r1.get ex
  refine⟨⟨vs,v,h1,e1⟩,fun z H' ⟨p,a,ez,hp,eH,ha⟩=>?_⟩
  have a1:=ha vs h1
  rw[e1]at a1
  cases a1
  subst eH ez
  have sm:Same H (upd H p (.tup [.int (k:Nat),v])):=(Same.refl H).new hp
  have sm':Same (hid H S) (hid (upd H p (.tup [.int (k:Nat),v])) S):=b0v fun a o e n=>⟨sm a o e,n⟩
  refine⟨sm,?_⟩
  unfold RepD
  exact⟨p,[.int (k:Nat),v],rfl,(i0k (fun z=>al p z hp) a0z),.cons (by unfold RepD;rfl) (.cons (rv.same sm') .nil)⟩
 ·intro z
  rw[c0n]at z
  exact⟨vs,h1,by rw[r1.length];exact z⟩
def o1o (pin:Nat->Bool)(as:AA):AI:=fun ρ q=>as ρ fun rs ρ1=>match rs with
 | [r1]=>(match r0t pin ρ1 r1 with
  | some (ds,c)=>q (f0j 0 ds) c ρ1
  | _=>False)
 | _=>False
theorem f0v {pin:Nat->Bool}(h:TAok K ts as):TIok K pin (m1w K ts) (o1o pin as):=by
 intro F σ ρ H q Rk r ha k
 refine h F σ ρ H _ _ r ha fun rs ρ1 vs H1 h1 r1 i1 k1=>?_
 split at h1
 ·obtain⟨x,rfl,ix⟩:=i1.one
  split at h1
  ·rename_i ds c e1
   obtain⟨l1,us1,rfl,s1,w1⟩:=w0h r1 ix e1
   refine⟨l1,us1,rfl,s1,k _ _ _ _ _ h1 r1 k1 fun σ2 ρ2 H2 sm sv pn al hc=>?_⟩
   obtain⟨v1,z1,rd1⟩:=w1 σ2 ρ2 H2 sm sv pn hc
   exact h1j (fun a z=>(al a z).1) z1 rd1
  ·exact h1.elim
 ·exact h1.elim
end
open Builtin.SmallTypes (nextOf)
structure Feed (prog:aO)(w:be)(it:Addr)(dep:List Addr)(St:Nat->Heap->Prop)(gv:Nat->Option af):Prop where
 mem:it∈dep
 obj:∀i h,St i h->∃o vs n,h.get? it=some o/\o.data = .fields vs/\o.cls = .type n/\n ≠ "zip"
 keep:∀i h h',St i h->(∀b o,b∈dep->h.get? b=some o->h'.get? b=some o)->St i h'
 item:∀(A:bo) i (s:ah) x (Q:af->ah->Prop) E,St i s.heap->gv i=some x->(∀h',St (i+1) h'->bH it s.heap h'->Q x {s with heap:=h'})->az (aH prog w) A (nextOf (.ref it)) Q E s
 fin:∀(A:bo) i (s:ah) (Q:af->ah->Prop) E,A.handled=none->St i s.heap->gv i=none->(∀h' e,mO it s.heap h'->(∃o,h'.get? e=some o/\o.cls = .type "StopIteration")->E (.ref e) {s with heap:=h'})->az (aH prog w) A (nextOf (.ref it)) Q E s
section
variable {prog:aO}{w:be}
theorem r0c {it l:Addr}{xs:Array af}(hne:l≠it):Feed prog w it [it,l] (fun i h=>h.IsTupleIter it l i/\h.IsTuple l xs) (fun i=>xs[i]?) where
 mem:=by simp
 obj:=fun i h ⟨⟨o,e,c,d⟩,_⟩=>⟨o,_,_,e,d,c,by decide⟩
 keep:=fun i h h' ⟨a,b⟩ k=>⟨a.at fun o e=>k it o (by simp) e,by obtain⟨o,e,r⟩:=b;exact⟨o,k l o (by simp) e,r⟩⟩
 item:=fun A i s x Q E ⟨a,b⟩ hx k=>by
  obtain⟨o,ho,hc,hd⟩:=id a
  obtain⟨ol,hol,rr,nl,hdl⟩:=id b
  unfold nextOf
  refine ab (cg (name:=dX "__next__") a.typeIs d0 (b_ d0 a.typeIs jM ?_ (jE _)))
  show az _ _ (kE (.ref it) 0>>=_) _ _ s
  refine ab (cZ ho hd (x:=.ref l) rfl ?_)
  show az _ _ (if(Value.ref l==Value.none)=true then _ else _) _ _ s
  rw[if_neg (fun z=>by cases z)]
  show az _ _ (kE (.ref it) 1>>=_) _ _ s
  refine ab (cZ ho hd (x:=.int i 0) rfl ?_)
  show az _ _ (mD (.ref l)>>=_) _ _ s
  refine ab (hZ hol hdl ?_)
  simp only[cL,hx]
  refine ab (wpAny_setField ho hd (by simp) (aj ⟨x,rfl,aj ?_⟩))
  refine k _ ⟨⟨_,b6 _ ho (Obj.isFreed_of_fields (kX hd _)),(Obj.cls_mapFields ..).trans hc,by rw[kX hd];simp[db]⟩,ol,?_,rr,nl,hdl⟩ (cB ..)
  exact((cB ..).2 l hne).trans hol
 fin:=fun A i s Q E hh ⟨a,b⟩ hx k=>by
  obtain⟨o,ho,hc,hd⟩:=id a
  obtain⟨ol,hol,rr,nl,hdl⟩:=id b
  unfold nextOf
  refine ab (cg (name:=dX "__next__") a.typeIs d0 (b_ d0 a.typeIs jM ?_ (jE _)))
  show az _ _ (kE (.ref it) 0>>=_) _ _ s
  refine ab (cZ ho hd (x:=.ref l) rfl ?_)
  show az _ _ (if(Value.ref l==Value.none)=true then _ else _) _ _ s
  rw[if_neg (fun z=>by cases z)]
  show az _ _ (kE (.ref it) 1>>=_) _ _ s
  refine ab (cZ ho hd (x:=.int i 0) rfl ?_)
  show az _ _ (mD (.ref l)>>=_) _ _ s
  refine ab (hZ hol hdl ?_)
  simp only[cL,hx]
  refine ab (cH (ab (wpAny_setField ho hd (by simp) ?_)))
  show az _ _ (newExc (.type "StopIteration") []>>=_) _ _ _
  refine ab ?_
  simp only[newExc,newTuple]
  refine ab (bL ?_ (by size_fits))
  refine ab (m:=firstArgMember _ _) (lx (a:=Value.none) (by first | rfl | (simp only[firstArgMember];rfl)) ?_)
  refine bL ?_ (by size_fits)
  simp only[raiseNew]
  refine ab (wpAny_handled ?_)
  first | rw[show A.in1.handled=none from hh] | rw[hh]
  refine ab (aj (wpAny_throw ?_))
  exact k _ _ (((cB ..).extBut.push _).push _) ⟨_,aP _ rfl,rfl⟩
variable {A:bo}{E:af->ah->Prop}{s:ah}{z TI TO i1 i2:Addr}{d1 d2:List Addr}{S1 S2:Nat->Heap->Prop}{g1 g2:Nat->Option af}
end
section
variable {X:Cx}(K:aa)
def g1o (K:aa):V->List V->Hp->VK->Prop:=fun x vs H Q=>∃(l:Addr) (ns:List Int) (y:Int) (j:Nat),x = .ref l/\vs=[.int y]/\SqL K H l (ns.map V.int)/\ns[j]? = some y/\j<1000000/\(∀m,m<j->ns[m]? ≠ some y)/\Q (.int (j:Nat)) H
theorem f1g (hK:X.K=K:=by rfl):MtR X "list.index" (g1o K):=by
 subst hK
 intro pins s σ H x vs v us Q I rx rv h
 obtain⟨l,ns,y,j,rfl,rfl,hq,hj,hsm,hno,q⟩:=h
 cases rx
 obtain⟨u,rfl,ru⟩:=rv.one
 obtain⟨its,r,pl,hz⟩:=I.list hq
 obtain⟨⟨cl,dd,dt,sl⟩,n,e,c1,c2,c3⟩:=pl
 simp only at c1 c2 c3
 subst c1 c2 c3
 have fx:(ns.map V.int).all m0i=true:=by simp[m0i]
 have hl:its.length=ns.length:=by have:=r.length;rw[aw]at this;omega
 have hjl:j<ns.length:=(aI.mp hj).1
 have at':∀m (hm:m<its.toArray.size),eqU (.int y) its.toArray[m]=decide (ns[m]? = some y):=fun m hm=>by
  have hm':m<its.length:=by simpa using hm
  obtain⟨w,e1,e2⟩:=r.get (i:=m) (x:=V.int ns[m]) (by rw[aM,ao (by omega)];rfl)
  rw[ao hm']at e1
  cases e1
  have:=c1u (x:=.int y) e2 rfl
  simp only[gG]
  rw[this,ao (by omega)]
  simp only[eqV,bJ]
  rw[cO,beq_iff_eq,decide_eq_true_eq]
 refine j0 jn ⟨_,e,rfl⟩ PySem.F.entry_list_index (PySem.F.args_list_index_2 _ _) (SeqAt.list_indexAt l its.toArray n none sl u (eqU (.int y)) j (by rw[aD];omega) (by omega) (by rw[at'];exact decide_eq_true hj) (fun m hm hlt=>by rw[at'];exact decide_eq_false (hno m hlt))) ⟨e,fun w hw=>j0c ru rfl r fx w (by simpa using hw),?_⟩
 exact⟨.int (j:Nat),H,I.tok _,⟨s.toks,rfl⟩,q⟩
end
section
variable {K:aa}{ta:TE}{a:AE}{ts:TA}{as:AA}
@[irreducible] def gIdx (ds:List D)(y:Int)(q:Nat->Prop):Prop:=∃(ns:List Int) (j:Nat),ds=ns.map D.int/\ns[j]? = some y/\j<1000000/\(∀m,m<j->ns[m]? ≠ some y)/\q j
theorem j1l {ns:List Int}{y:Int}{j:Nat}{q:Nat->Prop}(h:ns[j]? = some y)(hj:j<1000000)(hno:∀m,m<j->ns[m]? ≠ some y)(hq:q j):gIdx (ns.map D.int) y q:=by unfold gIdx;exact⟨ns,j,rfl,h,hj,hno,hq⟩
def aIdx (a:AE)(as:AA):AE:=fun ρ q=>a ρ fun r ρ1=>match view ρ1 r.frz with
 | some (.lst ds)=>as ρ1 fun rs ρ2=>(match rs with
  | [.d (.int y)]=>gIdx ds y fun j=>ρ1=ρ2/\q (.d (.int (j:Nat))) ρ2
  | _=>False)
 | _=>False
theorem h1p (ha:TEok K ta a)(hs':TAok K ts as):TEok K (tBM K "list" (g1o K) ta ts) (aIdx a as):=by
 intro F σ ρ H q Q r h k
 refine ha F σ ρ H _ _ r h fun r1 ρ1 x H1 h1 o1=>?_
 obtain⟨r1',k1,i1⟩:=o1.inF
 split at h1
 ·rename_i ds e
  obtain⟨l0,us0,rfl,sq0,_⟩:=e0g r1' i1 e
  refine⟨.inl ⟨rfl,_,sq0⟩,hs' F σ ρ1 H1 _ _ r1' h1 fun rs ρ2 vs H2 h2 r2 i2 k2=>?_⟩
  split at h2
  ·rename_i y
   obtain⟨z,rfl,iz⟩:=i2.one
   unfold gIdx at h2
   obtain⟨ns,j,rfl,hj,hsm,hno,e12,hq⟩:=h2
   subst e12
   obtain⟨l,us,el,sq,rd⟩:=e0g r2 (i1.keep k2) e
   rw[l0h]at rd
   rw[rd]at sq
   exact⟨l,ns,y,j,el,by rw[iz.int],sq,hj,hsm,hno,((k.after k1).after k2).int r2 hq⟩
  ·exact h2.elim
 ·exact h1.elim
end
section
variable {X:Cx}(K:aa)
def a1y (K:aa):List V->Hp->VK->Prop:=fun xs H Q=>∃(p:Addr) (ns:List Int),xs=[.ref p]/\SqL K H p (ns.map V.int)/\ns.length<64/\∀ns':List Int,ns'.Perm ns->ns'.Pairwise (· <= ·)->∀l,H l=none->Q (.ref l) (upd H l (.lst (ns'.map V.int)))
theorem v0u (hK:X.K=K:=by rfl):l0c X (.builtin "sorted") (a1y K):=by
 subst hK
 intro pins s σ H xs us Q I r h
 obtain⟨a,ns,rfl,hq,h64,q1⟩:=h
 obtain⟨u1,rfl,ru⟩:=o0n r
 cases ru
 obtain⟨its,rv,pl,hz⟩:=I.list hq
 have hl:its.length=ns.length:=by have:=rv.length;rw[aw]at this;omega
 refine sorted_ints pl.isList (y0y rv) (by omega) fun out ns' a1 a2 a3=>?_
 obtain⟨e,he⟩:=sortedAll_at s.heap its out
 have hlen:=a2.length_eq
 refine⟨.ref (s.heap.objs.size+1),_,I.laid (t':=s.toks) (o:=.lst (ns'.map V.int)) (fun b o q=>sortedAll_old q) (fN _) ⟨?_,out.toList,e,j0z a1,?_⟩,rfl,q1 ns' a2 a3 _ (I.hok.fresh (fN _))⟩
 ·rw[aw];exact bW (g0n (n:=ns'.length) (by omega))
 ·rw[he]
end
section
variable {K:aa}
@[irreducible] def gSorted:List R->AE:=fun rs ρ q=>match rs with
 | [r]=>(match view ρ r with
  | some (.lst ds)=>(match h0x ds with | some ns=>ns.length<64/\(∀ns':List Int,ns'.Perm ns->ns'.Pairwise (· <= ·)->q (.f (ns'.map D.int)) ρ) | none=>False)
  | _=>False)
 | _=>False
theorem v0t:CbOk K (a1y K) gSorted:=by
 intro F σ ρ H vs rs q Q a i h b
 unfold gSorted at h
 split at h
 ·obtain⟨y,rfl,iy⟩:=i.one
  split at h
  ·rename_i ds e
   split at h
   ·rename_i ns e'
    obtain⟨l,us,rfl,sq,rd⟩:=e0g a iy e
    rw[s0u e',l0h]at rd
    rw[rd]at sq
    exact⟨l,ns,rfl,sq,h.1,fun ns' h1 h2 p hp=>b.new a (h.2 ns' h1 h2) (l0h.mpr rfl) hp⟩
   ·exact h.elim
  ·exact h.elim
 ·exact h.elim
theorem z0d {r:R}{ρ:En}{q:Ko}{ns:List Int}(hv:view ρ r=some (.lst (ns.map D.int)))(h64:ns.length<64)(h1:∀ns':List Int,ns'.Perm ns->ns'.Pairwise (· <= ·)->q (.f (ns'.map D.int)) ρ):gSorted [r] ρ q:=by
 unfold gSorted
 simp only[hv,y0x]
 exact⟨h64,h1⟩
end
end L2
set_option maxHeartbeats 1000000
namespace L2
open PySem PySem.Spec PyProof.Rows
open PySem.MeetsSeq PySem.MeetsSeq2 PySem.MeetsSeq3
open PySem.AutoSeq1 (wpAny_loadPart')
end L2
namespace L2
open PySem PySem.Spec PyProof.Rows PySem.W
end L2
namespace L2
open PySem PySem.Spec PyProof.Rows Builtin
end L2
namespace L2
open PySem PySem.Spec PyProof.Rows
def Itw (K:aa)(l:Addr)(n:Nat):It :=
 ⟨fun i H=>∃xs x,SqL K H l xs/\xs.length=n/\i<n/\xs[n - 1 - i]? = some x,fun i H x H'=>H'=H/\∀xs,SqL K H l xs->xs[n - 1 - i]? = some x,fun i H=>n<=i⟩
theorem d1w {P:aO}{w:be}{K:aa}{tg:Expr}(a it:Addr)(n:Nat):Turn P w K tg (Itw K a n) [it] it (fun i h=>i<=n/\h.IsRevIter it a ((n:Int) - 1 - (i:Int))) where
 mem:=by simp
 obj:=fun i h st b hb=>by
  have e:b=it:=by simpa using hb
  subst e
  obtain⟨_,o,e,c,d⟩:=st
  exact⟨o,e,fun v z=>by rw[d]at z;cases z⟩
 keep:=fun i h h' st k=>⟨st.1,st.2.at fun o e=>k it (by simp) o e⟩
 item:=by
  intro X hP hw hK hc i pins s σ H E I hf st hg
  subst hP hw hK
  obtain⟨xs,x,hq,hn,hi,hx⟩:=hg
  obtain⟨its,rv,p,hz⟩:=I.list hq
  obtain⟨u,hu,ru⟩:=rv.get hx
  obtain⟨f0,f1,f2,f3,f4,f5⟩:=hf it (by simp)
  have st2:=st.2
  rw[show(n:Int) - 1 - (i:Int)=((n - 1 - i:Nat):Int)by omega]at st2
  refine wpAny_pyNext_rev_item st2 p.isList (x:=u) (by simpa using hu) fun h' st' sb=>?_
  have I1:Inv X pins σ H {s with heap:=h'}:=I.turned (t':=s.toks) (fun b o hb e=>(sb.2 b hb).trans e) f0 f1 f3 f4 f5
  rw[show((n - 1 - i:Nat):Int) - 1=(n:Int) - 1 - ((i+1:Nat):Int)by omega]at st'
  obtain⟨o,e,c,d⟩:=id st'
  exact⟨u,rfl,c1h (s:={s with heap:=h'}) e c d (by decide) ⟨x,H,I1,ru,⟨rfl,fun ys hy=>by rw[I.list_inj hy hq];exact hx⟩,⟨by omega,st'⟩,fun b hb=>(hf b hb).1⟩⟩
 done:=by
  intro X hP hw hK hc i pins s σ H E I hf st hg
  subst hP hw hK
  obtain⟨f0,f1,f2,f3,f4,f5⟩:=hf it (by simp)
  have hg':n<=i:=hg
  have st2:=st.2
  have st1:=st.1
  rw[show(n:Int) - 1 - (i:Int) = -1 by omega]at st2
  exact wpAny_pyNext_rev_end (I.ok.hd hc) st2 fun h' eb=>⟨rfl,I.turned (t':=s.toks) (fun b o hb e=>eb b o hb e) f0 f1 f3 f4 f5⟩
 self:=fun _ _ _ _ _ st h=>lw st.2 h
def iRev (K:aa)(t:TA):TI:=fun σ H R=>t σ H fun vs H1=>∃l xs,vs=[.ref l]/\SqL K H1 l xs/\R (Itw K l xs.length) H1
theorem l1q (K:aa){X:Cx}{tg:Expr}{a:Expr}{ta:TA}{p pos:Pos}(hg:Gl X "reversed")(hm:X.mg "reversed" = none)(ha:PA X [a] ta)(hK:X.K=K:=by rfl)(hs:bh [a] X.env=[(false,eval a X.env)]:=by rfl) :
  PI X tg (.Call (.Name "reversed" p) [a] [] pos) (iRev K ta):=by
 subst hK
 intro pins s σ H R I h
 refine lG (j0m I hg hm v0w (bX (thn (ha pos pins s σ H _ I h) fun us s1 ⟨vs,H1,I1,r1,q1⟩=>?_) hs rfl))
 obtain⟨l,xs,rfl,h1,q⟩:=q1
 obtain⟨u,rfl,ru⟩:=o0n r1
 cases ru
 obtain⟨its,rv,p1,_⟩:=I1.list h1
 have hl:=rv.length
 refine call_reversed_list p1.isList ?_
 have it:Heap.IsRevIter (s1.heap.push (revObj l ((its.toArray.size:Int) - 1))) s1.heap.objs.size l ((xs.length:Int) - 1 - ((0:Nat):Int)):=⟨_,aP _ rfl,rfl,by rw[aD,<- hl];simp[revObj]⟩
 refine lw it ?_
 refine⟨s1.heap.objs.size,[s1.heap.objs.size],_,_,H1,rfl,I1.kept (t':=s1.toks) fun b o e=>aq _ e,d1w l _ xs.length,⟨bg _,it⟩,fun b hb=>?_,q⟩
 have e:b=s1.heap.objs.size:=by simpa using hb
 subst e
 exact I1.fpOk (aE _) (I1.hok.fresh (aE _))
section
variable {K:aa}{ts:TA}{as:AA}
theorem k1p {S:Addr->Prop}{H:Hp}{a:Addr}{vs:List V}{ds:List D}(h:SqL K H a vs)(rd:RepDs K (hid H S) vs ds):WkAt K S H (Itw K a vs.length) ds.reverse:=by
 have hl:=rd.length
 intro k
 constructor
 ·intro d e
  have hk:k<ds.length:=by
   have:=(aI.mp e).1
   rwa [fg]at this
  rw[j9 hk]at e
  obtain⟨v,e1,rv⟩:=rd.get e
  rw[<- hl]at e1
  refine⟨⟨vs,v,h,rfl,by omega,e1⟩,fun x H' z=>⟨z.1▸Same.refl H,?_⟩⟩
  have:=z.2 vs h
  rw[e1]at this;cases this;rw[z.1];exact rv
 ·intro z
  rw[fg]at z
  show vs.length<=k
  omega
theorem z0r {pin:Nat->Bool}{ρ:En}{r:R}{ds:List D}{c:En->Prop}(e:r0t pin ρ r=some (ds,c)):c ρ:=by
 cases r with
 | n s=>cases e
 | t n=>cases e
 | x n=>cases e
 | d d =>
  cases d with
  | lst es=>simp only[r0t,bJ,dY]at e;rw[<- e.2];trivial
  | _=>cases e
 | o i =>
  unfold r0t at e
  cases hg:gt ρ i with
  | ow es =>
   simp only[hg]at e
   split at e
   ·simp only[bJ,dY]at e
    rw[<- e.2];exact hg
   ·cases e
  | _=>simp[hg]at e
def aRvd (pin:Nat->Bool)(as:AA):AI:=fun ρ q=>as ρ fun rs ρ1=>match rs with
 | [r1]=>(match r0t pin ρ1 r1 with
  | some (ds,c)=>q ds.reverse c ρ1
  | _=>False)
 | _=>False
theorem e1d {pin:Nat->Bool}(h:TAok K ts as):TIok K pin (iRev K ts) (aRvd pin as):=by
 intro F σ ρ H q Rk r ha k
 refine h F σ ρ H _ _ r ha fun rs ρ1 vs H1 h1 r1 i1 k1=>?_
 split at h1
 ·obtain⟨x,rfl,ix⟩:=i1.one
  split at h1
  ·rename_i ds c e1
   obtain⟨l1,us1,rfl,s1,w1⟩:=w0h r1 ix e1
   obtain⟨v0,z0,rd0⟩:=w1 σ ρ1 H1 (Same.refl _) r1.sl (fun _ _ _ e=>e) (z0r e1)
   refine⟨l1,v0,rfl,z0,k _ _ _ _ _ h1 r1 k1 fun σ2 ρ2 H2 sm sv pn al hc=>?_⟩
   obtain⟨v1,z1,rd1⟩:=w1 σ2 ρ2 H2 sm sv pn hc
   have:=k1p z1 rd1
   rw[rd1.length,<- rd0.length]at this
   exact this
  ·exact h1.elim
 ·exact h1.elim
end
theorem o0c {prog:aO}{w:be}{A:bo}(hh:A.handled=none)(it l:Addr)(hne:l≠it)(xs:Array af) :
  mz prog w A it [it,l] xs.size (fun i v=>xs[i]? = some v) (fun i h=>h.IsTupleIter it l i/\h.IsTuple l xs) where
 live:=fun _ _ st=>let ⟨o,ho,_⟩:=st.1;⟨o,ho⟩
 frame:=fun _ _ _ st hk=>(r0c (prog:=prog) (w:=w) hne).keep _ _ _ st fun b o hb e=>hk b hb o e
 item:=fun i s Q E hi st hQ=>(r0c hne).item A i s xs[i] Q E st (by simp[hi]) fun h' st' sb=>hQ _ h' s.toks (by simp[hi]) st' sb
 done:=fun s Q E st hE=>(r0c hne).fin A xs.size s Q E hh st (by simp) hE
open AutoSeq1 (wpAny_loadPart') in
theorem v0d (l:Addr)(xs:Array af) :
  Meets (Builtin.«enumerate.__new__» ⟨[.type "enumerate",.ref l],[]⟩) (fun _ R s=>s.heap.IsTuple l xs /\
   R (.ok (.ret (.ref (s.heap.push {cls:=.type "tuple_iterator",data:=.fields #[.ref l,.int 0 0]}).objs.size)))
    {s with heap:=(s.heap.push {cls:=.type "tuple_iterator",data:=.fields #[.ref l,.int 0 0]}).push {cls:=.type "enumerate",data:=.fields #[.none,.bool false,.ref s.heap.objs.size,db 0,.none,.none]}}) :=
 .of_wp fun prog w A R s h=>by
  obtain⟨hp,g,d,tk,os⟩:=s;obtain⟨hl,h⟩:=h
  have hsub:=sub_enumerate
  have hL:Heap.IsTuple (Shared.heap ⟨hp,g,d,tk,os⟩) l xs:=hl
  wp_walk
  refine wpAny_stack_any fun st=>aj ?_
  split
  ·rename_i c _ _ _ _ _
   cases (c==Value.type "enumerate")
   ·wp_walk using fQ hL
    exact⟨_,rfl,h⟩
   ·wp_walk using fQ hL
    exact⟨_,rfl,h⟩
  ·wp_walk using fQ hL
   exact⟨_,rfl,h⟩
theorem p0x {prog:aO}{w:be}{A:bo}{E:af->ah->Prop}{s:ah}{l:Addr}{xs:Array af}{Q:af->ah->Prop}(hL:s.heap.IsTuple l xs)
  (h:∀h',jC h' (s.heap.objs.size+1) s.heap.objs.size 0 .none->h'.IsTupleIter s.heap.objs.size l 0->h'.objs.size=s.heap.objs.size+2 ->
   (∀b o,s.heap.get? b=some o->h'.get? b=some o)->Q (.ref (s.heap.objs.size+1)) {s with heap:=h'}) :
  az (aH prog w) A (call (.type "enumerate") [.ref l]) Q E s:=by
 refine callType_new F.called_enumerate (by decide) (F.typeCall_enumerate_1 _) (F.newCall_enumerate_1 _) (fun obj=>F.args_object_init_2 obj _) F.entry_enumerate_new
  (v0d l xs) ⟨hL,?_⟩
 have hz:(s.heap.push {cls:=.type "tuple_iterator",data:=.fields #[.ref l,.int 0 0]}).objs.size=s.heap.objs.size+1:=cf ..
 show _/\_
 rw[hz]
 have he:jC ((s.heap.push {cls:=.type "tuple_iterator",data:=.fields #[.ref l,.int 0 0]}).push
   {cls:=.type "enumerate",data:=.fields #[.none,.bool false,.ref s.heap.objs.size,db 0,.none,.none]}) (s.heap.objs.size+1) s.heap.objs.size 0 .none:=by
  have:=aP (s.heap.push {cls:=.type "tuple_iterator",data:=.fields #[.ref l,.int 0 0]})
   (o:={cls:=.type "enumerate",data:=.fields #[.none,.bool false,.ref s.heap.objs.size,db 0,.none,.none]}) rfl
  rw[hz]at this;exact this
 refine⟨⟨_,he,rfl⟩,h _ he ⟨_,aq _ (aP _ rfl),rfl,rfl⟩ (by rw[cf,hz]) fun b o x=>aq _ (aq _ x)⟩
def Itf (K:aa)(l:Addr)(n:Nat):It :=
 ⟨fun i H=>∃xs x,SqT K H l xs/\xs.length=n/\xs[i]? = some x,fun i H v H'=>∃p x,v = .ref p/\H p=none/\H'=upd H p (.tup [.int (i:Nat),x])/\∀xs,SqT K H l xs->xs[i]? = some x,
  fun i H=>n<=i/\∃xs,SqT K H l xs/\xs.length=n⟩
theorem y0c {P:aO}{w:be}{K:aa}{elts:List Expr}{x1}{tpos:Pos}{e it l:Addr}{n:Nat}(ne:e≠it)(nl:l≠it)(nel:e≠l) :
  Turn P w K (.Tuple elts x1 tpos) (Itf K l n) [e,it] e (fun i h=>((∃old,jC h e it (i:Nat) old)/\h.IsTupleIter it l i)/\i<=n) where
 mem:=by simp
 obj:=fun i h st b hb=>by
  obtain⟨⟨⟨old,he⟩,⟨o1,e1,c1,d1⟩⟩,_⟩:=st
  simp only[aK,bF,or_false]at hb
  rcases hb with rfl | rfl
  ·exact⟨_,he,fun v q=>by cases q⟩
  ·exact⟨o1,e1,fun v q=>by rw[d1]at q;cases q⟩
 keep:=fun i h h' st k=>by
  obtain⟨⟨⟨old,he⟩,h1⟩,hi⟩:=st
  exact⟨⟨⟨old,k e (by simp) _ he⟩,h1.at fun o q=>k it (by simp) o q⟩,hi⟩
 item:=by
  intro X hP hw hK hc i pins s σ H E I hf st hg
  subst hP hw hK
  obtain⟨xs,x,q1,hln,hx⟩:=hg
  obtain⟨⟨⟨old,he⟩,h1⟩,hin⟩:=st
  obtain⟨its,rv,p1,_⟩:=I.tuple q1
  have hxi:=(aI.mp hx).1
  obtain⟨u,hu,ru⟩:=rv.get hx
  have hlt:i<its.toArray.size:=by rw[aD];exact(aI.mp hu).1
  refine kC (o0c (show X.A.in1.handled=none from I.ok.hd hc) it l nl its.toArray) he ⟨h1,p1⟩ hlt ne (by simp[ne,nel]) fun y h' tk hy a1 a2 a3 a4 hk=>?_
  have ey:y=u:=by
   have hy':its[i]? = some y:=by simpa using hy
   rw[hu]at hy';cases hy';rfl
  subst ey
  refine⟨_,rfl,jV (s:={s with heap:=h',toks:=tk+1}) a1 fun h2' he' hs'=>?_⟩
  have hs2:bH e h' h2':=hs'
  have ls:∀ {b o},s.heap.get? b=some o->b≠s.heap.objs.size:=fun e=>aR (aA e)
  have es:e≠s.heap.objs.size:=ls he
  have up:∀b o,b∉[e,it]->s.heap.get? b=some o->h2'.get? b=some o:=fun b o hb q=>by
   simp only[aK,bF,or_false,not_or]at hb
   exact(hs2.2 b hb.1).trans (hk b o hb.1 hb.2 q)
  have I1:Inv X pins σ H {s with heap:=h2',toks:=tk+1}:=I.turns (t':=tk+1) up hf
  have fp:FpOk X pins H s.heap.objs.size:=I.fpOk (aE _) (I.hok.fresh (aE _))
  have g:h2'.get? s.heap.objs.size=some {cls:=.type "tuple",data:=.seq #[.int i tk,y]}:=(hs2.2 _ (cM es)).trans a3
  have I2:=I1.trackO (o:=.tup [.int (i:Nat),x]) fp ⟨by show 2<=aN;decide,[.int i tk,y],.cons ⟨_,rfl⟩ (.cons ru .nil),_,g,rfl,_,rfl⟩
  refine⟨.ref s.heap.objs.size,upd H s.heap.objs.size (.tup [.int (i:Nat),x]),I2,rfl,⟨_,x,rfl,fp.1,rfl,fun zs hz=>by rw[I.tuple_inj hz q1];exact hx⟩,?_,fun b hb=>?_⟩
  ·refine⟨⟨⟨y,by simpa using he'⟩,?_⟩,by omega⟩
   obtain⟨o,q,r⟩:=a2.1;exact⟨o,(hs2.2 it (cM ne)).trans q,r⟩
  ·have hb':=(hf b hb).1
   have ne':b≠s.heap.objs.size:=by
    obtain⟨o1,e1,_⟩:=h1
    simp only[aK,bF,or_false]at hb
    rcases hb with rfl | rfl
    ·exact ls he
    ·exact ls e1
   rw[a0x ne'];exact hb'
 done:=by
  intro X hP hw hK hc i pins s σ H E I hf st hg
  subst hP hw hK
  obtain⟨hni,xs,q1,hl⟩:=hg
  obtain⟨⟨⟨old,he⟩,h1⟩,hin⟩:=st
  obtain⟨its,rv,p1,_⟩:=I.tuple q1
  have l1:=rv.length
  have ei:i=its.toArray.size:=by rw[aD];omega
  subst ei
  refine kS (o0c (show X.A.in1.handled=none from I.ok.hd hc) it l nl its.toArray) he ⟨h1,p1⟩ fun h' hk=>⟨rfl,I.turns (ch:=[e,it]) (t':=s.toks) (fun b o hb q=>?_) hf⟩
  simp only[aK,bF,or_false,not_or]at hb
  exact hk b o hb.2 q
 self:=fun _ _ _ _ _ st h=>by obtain⟨⟨⟨old,he⟩,_⟩,_⟩:=st;exact eP he h
def g1y (K:aa)(t:TA):TI:=fun σ H R=>t σ H fun vs H1=>∃l xs,vs=[.ref l]/\SqT K H1 l xs/\R (Itf K l xs.length) H1
theorem e1s (K:aa){X:Cx}{elts:List Expr}{x1}{tpos:Pos}{a:Expr}{ta:TA}{p pos:Pos}(hg:Gl X "enumerate")(hm:X.mg "enumerate" = none)(ha:PA X [a] ta)(hK:X.K=K:=by rfl)(hs:bh [a] X.env=[(false,eval a X.env)]:=by rfl) :
  PI X (.Tuple elts x1 tpos) (.Call (.Name "enumerate" p) [a] [] pos) (g1y K ta):=by
 subst hK
 intro pins s σ H R I h
 refine lG (j0m I hg hm i0r (bX (thn (ha pos pins s σ H _ I h) fun us s1 ⟨vs,H1,I1,r1,q1⟩=>?_) hs rfl))
 obtain⟨l,xs,rfl,h1,q⟩:=q1
 obtain⟨u,rfl,ru⟩:=o0n r1
 cases ru
 obtain⟨its,_,p1,_⟩:=I1.tuple h1
 have lt:l<s1.heap.objs.size:=by obtain⟨o,e,_⟩:=id p1;exact aA e
 refine p0x p1 fun h' he hi hsz hk=>?_
 refine eP he ?_
 refine⟨_,_,_,_,H1,rfl,I1.kept (t':=s1.toks) hk,y0c (show s1.heap.objs.size+1≠s1.heap.objs.size by omega) (aR lt) (cM (aR (fM lt))),⟨⟨⟨_,he⟩,hi⟩,bg _⟩,fun b hb=>?_,q⟩
 have le:s1.heap.objs.size<=b:=by
  simp only[aK,bF,or_false]at hb
  rcases hb with rfl | rfl <;> omega
 exact I1.fpOk le (I1.hok.fresh le)
section
variable {K:aa}{ts:TA}{as:AA}
theorem d1u {S:Addr->Prop}{H:Hp}{l:Addr}{vs:List V}{ds:List D}(al:∀a,S a->H a≠none)(h1:SqT K H l vs)(r1:RepDs K (hid H S) vs ds):WkAt K S H (Itf K l vs.length) (f0j 0 ds):=by
 intro k
 constructor
 ·intro d e
  obtain⟨x,ex,rfl⟩:=d0t e
  rw[ck]
  obtain⟨v,e1,rv⟩:=r1.get ex
  refine⟨⟨vs,v,h1,rfl,e1⟩,fun z H' ⟨p,a,ez,hp,eH,ha⟩=>?_⟩
  have a1:=ha vs h1
  rw[e1]at a1
  cases a1
  subst eH ez
  have sm:Same H (upd H p (.tup [.int (k:Nat),v])):=(Same.refl H).new hp
  have sm':Same (hid H S) (hid (upd H p (.tup [.int (k:Nat),v])) S):=b0v fun a o e n=>⟨sm a o e,n⟩
  refine⟨sm,?_⟩
  unfold RepD
  exact⟨p,[.int (k:Nat),v],rfl,(i0k (fun z=>al p z hp) a0z),.cons (by unfold RepD;rfl) (.cons (rv.same sm') .nil)⟩
 ·intro z
  rw[c0n]at z
  exact⟨by rw[r1.length];exact z,vs,h1,rfl⟩
def n1j (as:AA):AI:=fun ρ q=>as ρ fun rs ρ1=>match rs with
 | [.d (.tup ds)]=>q (f0j 0 ds) (fun _=>True) ρ1
 | _=>False
theorem y0e {pin:Nat->Bool}(h:TAok K ts as):TIok K pin (g1y K ts) (n1j as):=by
 intro F σ ρ H q Rk r ha k
 refine h F σ ρ H _ _ r ha fun rs ρ1 vs H1 h1 r1 i1 k1=>?_
 split at h1
 ·rename_i ds
  obtain⟨x,rfl,ix⟩:=i1.one
  have rd:RepD K _ x (.tup ds):=ix
  unfold RepD at rd
  obtain⟨a,vs,rfl,sq,rd⟩:=rd
  refine⟨a,vs,rfl,d0b.seqT sq.sq,k _ _ _ _ _ h1 r1 k1 fun σ2 ρ2 H2 sm sv pn al hc=>?_⟩
  exact d1u (fun a z=>(al a z).1) (d0b.seqT (sm.seqT sq.sq)) (rd.same sm)
 ·exact h1.elim
end
end L2
namespace L2
open PySem PySem.Spec PyProof.Rows PySem.W
end L2
namespace L2
open PySem PySem.Spec PyProof.Rows PySem.W Builtin Builtin.ObjectAttr
end L2
namespace L2
open PySem PySem.Spec PyProof.Rows PySem.W
end L2
namespace L2
open PySem PySem.Spec PyProof.Rows
section
variable {P:aO}{w:be}{A:bo}{R:eU->ah->Prop}{s:ah}
theorem r0k (elt tg iter tg2 iter2:Expr)(ifs ifs2:List Expr)(scope:cT)(pos:Pos)(it acc:af)(env:Env) :
  gy (.ListComp elt [⟨tg,iter,ifs,0⟩,⟨tg2,iter2,ifs2,0⟩] scope pos) 0 it acc env=(do
   dU iter.pos
   match <- en it with
   | none=>pure (.done .next)
   | some v =>
    cE tg it v
    dA tg env v
    let mut ok:=true
    for c in ifs do
     if ok then ok <- fU c env (eval c env)
    if ok then
     let x <- eval iter2 env
     dU iter2.pos
     let x <- cb iter2 env x
     let _ <- runOwn (.compStart (.ListComp elt [⟨tg,iter,ifs,0⟩,⟨tg2,iter2,ifs2,0⟩] scope pos) 1 (<- iw [x] (iT x)) acc env) env
    kJ (.compLoop (.ListComp elt [⟨tg,iter,ifs,0⟩,⟨tg2,iter2,ifs2,0⟩] scope pos) 0 it acc env)):=by rfl
theorem r0j (elt tg iter tg2 iter2:Expr)(ifs ifs2:List Expr)(scope:cT)(pos:Pos)(it acc:af)(env:Env) :
  gy (.ListComp elt [⟨tg,iter,ifs,0⟩,⟨tg2,iter2,ifs2,0⟩] scope pos) 1 it acc env=(do
   dU iter2.pos
   match <- en it with
   | none=>pure (.done .next)
   | some v =>
    cE tg2 it v
    dA tg2 env v
    let mut ok:=true
    for c in ifs2 do
     if ok then ok <- fU c env (eval c env)
    if ok then
     (do let _ <- call (.builtin "list.append") [acc,<- eval elt env])
    kJ (.compLoop (.ListComp elt [⟨tg,iter,ifs,0⟩,⟨tg2,iter2,ifs2,0⟩] scope pos) 1 it acc env)):=by rfl
abbrev k1x (M:Model)(A:bo)(ifs:List Expr)(env:Env)(Q:Bool->ah->Prop)(s:ah):Prop :=
 az M A (forIn ifs true fun c r=>if r=true then do let ok <- fU c env (eval c env);pure (ForInStep.yield ok)else pure (ForInStep.yield r)) Q (fun _ _=>False) s
theorem d1c {elt tg iter tg2 iter2:Expr}{ifs ifs2:List Expr}{scope:cT}{pos:Pos}{it acc:af}{env:Env}(J:Nat->ah->Prop)
  (turn:∀n s,J n s->az (aH P w) A (en it) (fun r s1=>match r with
   | none=>R (.ok .next) s1
   | some v=>az (aH P w) A (cE tg2 it v) (fun _ s2=>az (aH P w) A (dA tg2 env v) (fun _ s3 =>
     k1x (aH P w) A ifs2 env (fun ok s4 =>
      if ok=true then az (aH P w) A (eval elt env) (fun x s5=>az (aH P w) A (call (.builtin "list.append") [acc,x]) (fun _ s6=>∃m,m<n/\J m s6) (fun _ _=>False) s5) (fun _ _=>False) s4
      else ∃m,m<n/\J m s4) s3) (fun _ _=>False) s2) (fun _ _=>False) s1) (fun _ _=>False) s)
  (n:Nat) (h:J n s):cc (aH P w) A (.compLoop (.ListComp elt [⟨tg,iter,ifs,0⟩,⟨tg2,iter2,ifs2,0⟩] scope pos) 1 it acc env) R s:=by
 have no:∀ {α:Type} {t:Sem α} {Q Q':α->ah->Prop} {E:af->ah->Prop} {s:ah},az (aH P w) A t Q (fun _ _=>False) s->(∀a s,Q a s->Q' a s)->az (aH P w) A t Q' E s :=
  fun h hq=>cP h hq fun _ _ f=>f.elim
 refine gJ rfl J (fun n s hJ=>?_) n h
 show az _ A ((gy (.ListComp elt [⟨tg,iter,ifs,0⟩,⟨tg2,iter2,ifs2,0⟩] scope pos) 1 it acc env).onRaise (fun x=>do gx x env;fC x)) _ _ s
 refine h_ ?_
 rw[r0j]
 refine ab (b9 (ab (no (turn n s hJ) fun r s1 h1=>?_)))
 cases r with
 | none=>exact aj h1
 | some v =>
  refine ab (no h1 fun _ s2 h2=>ab (no h2 fun _ s3 h3=>ab (no h3 fun ok s4 h4=>?_)))
  cases ok with
  | false=>exact aj ⟨rfl,h4⟩
  | true=>exact ab (ab (no h4 fun x s5 h5=>ab (no h5 fun _ s6 h6=>aj (aj ⟨rfl,h6⟩))))
theorem d1d {elt tg iter tg2 iter2:Expr}{ifs ifs2:List Expr}{scope:cT}{pos:Pos}{it acc:af}{env:Env}(J:Nat->ah->Prop)(hf:∀x,cb iter2 env x=pure x)
  (turn:∀n s,J n s->az (aH P w) A (en it) (fun r s1=>match r with
   | none=>R (.ok .next) s1
   | some v=>az (aH P w) A (cE tg it v) (fun _ s2=>az (aH P w) A (dA tg env v) (fun _ s3 =>
     k1x (aH P w) A ifs env (fun ok s4 =>
      if ok=true then az (aH P w) A (eval iter2 env) (fun x s5=>az (aH P w) A (iT x) (fun itv s6 =>
       cc (aH P w) A (.compStart (.ListComp elt [⟨tg,iter,ifs,0⟩,⟨tg2,iter2,ifs2,0⟩] scope pos) 1 itv acc env) (fun r s7=>r = .ok .next/\∃m,m<n/\J m s7) s6) (fun _ _=>False) s5) (fun _ _=>False) s4
      else ∃m,m<n/\J m s4) s3) (fun _ _=>False) s2) (fun _ _=>False) s1) (fun _ _=>False) s)
  (n:Nat) (h:J n s):cc (aH P w) A (.compLoop (.ListComp elt [⟨tg,iter,ifs,0⟩,⟨tg2,iter2,ifs2,0⟩] scope pos) 0 it acc env) R s:=by
 have no:∀ {α:Type} {t:Sem α} {Q Q':α->ah->Prop} {E:af->ah->Prop} {s:ah},az (aH P w) A t Q (fun _ _=>False) s->(∀a s,Q a s->Q' a s)->az (aH P w) A t Q' E s :=
  fun h hq=>cP h hq fun _ _ f=>f.elim
 refine gJ rfl J (fun n s hJ=>?_) n h
 show az _ A ((gy (.ListComp elt [⟨tg,iter,ifs,0⟩,⟨tg2,iter2,ifs2,0⟩] scope pos) 0 it acc env).onRaise (fun x=>do gx x env;fC x)) _ _ s
 refine h_ ?_
 rw[r0k]
 refine ab (b9 (ab (no (turn n s hJ) fun r s1 h1=>?_)))
 cases r with
 | none=>exact aj h1
 | some v =>
  refine ab (no h1 fun _ s2 h2=>ab (no h2 fun _ s3 h3=>ab (no h3 fun ok s4 h4=>?_)))
  cases ok with
  | false=>exact aj ⟨rfl,h4⟩
  | true =>
   refine ab (no h4 fun x s5 h5=>ab (b9 (ab (lx (hf x) (ab (cU (no h5 fun itv s6 h6=>?_)))))))
   refine ab (wpAny_runOwn (fI h6 fun r s7 h7=>?_))
   obtain⟨rfl,h7⟩:=h7
   exact aj ⟨rfl,h7⟩
theorem o0y {elt tg iter tg2 iter2:Expr}{ifs ifs2:List Expr}{scope:cT}{pos:Pos}{it acc:af}{env:Env}
  (h0:cc (aH P w) A (.compLoop (.ListComp elt [⟨tg,iter,ifs,0⟩,⟨tg2,iter2,ifs2,0⟩] scope pos) 1 it acc env) R s)
  (h:az (aH P w) A (iT it) (fun it' s'=>cc (aH P w) A (.compLoop (.ListComp elt [⟨tg,iter,ifs,0⟩,⟨tg2,iter2,ifs2,0⟩] scope pos) 1 it' acc env) R s') (notedBy (aH P w) A env fun x s'=>R (.error x) s') s) :
  cc (aH P w) A (.compStart (.ListComp elt [⟨tg,iter,ifs,0⟩,⟨tg2,iter2,ifs2,0⟩] scope pos) 1 it acc env) R s:=by
 refine mT ?_
 show az _ _ ((kG (.ListComp elt [⟨tg,iter,ifs,0⟩,⟨tg2,iter2,ifs2,0⟩] scope pos) 1 it acc env).onRaise (fun x=>do gx x env;dU mS)) _ _ s
 refine wpAny_notedAt ?_
 unfold kG
 show az _ _ (ask>>=_) _ _ s
 refine ab (dh (wpAny_ite ?_))
 split
 ·first
   | exact ab (aj (aj (And.intro rfl h0)))
   | exact aj (And.intro rfl h0)
 ·first
   | exact ab (cH (ab (b9 (ab (cP h (fun it' s' h'=>aj (And.intro rfl h')) fun _ _ x=>x)))))
   | (refine ab (cH ?_);show az _ _ (dU iter2.pos>>=_) _ _ s;exact ab (b9 (ab (cP h (fun it' s' h'=>aj (And.intro rfl h')) fun _ _ x=>x))))
end
def k1l (J:It)(g:TG)(tc:TT)(te:TE)(N:List V->Hp->Prop)(σ:St)(ys0:List V)(H1:Hp):Prop:=∃W:Nat->Nat->List V->Hp->Prop,(∃m,W 0 m ys0 H1)/\∀i m ys H,W i m ys H ->
 (J.stop i H/\N ys H) ∨
 (J.go i H/\ys.length<aN/\∃N2:List V->Hp->Prop,(∀zs H',N2 zs H'->∃m',m'<m/\W (i+1) m' zs H')/\∀x H',J.yld i H x H'->g x σ H' fun σ2 H2=>(σ2.length=σ.length/\∀(j:Nat) v,σ[j]? = some (some v)->σ2[j]? = some (some v))/\tc σ2 H2 fun b H3 =>
  if b=true then te σ2 H3 fun v H4=>N2 (ys++[v]) H4 else N2 ys H3)
def h1h (J:It)(n:Nat)(js:List Nat)(g:TG)(tc:TT)(wi2:TI)(g2:TG)(tc2:TT)(te:TE)(Q:VK)(σ:St)(H1:Hp):Prop:=∃W:Nat->Nat->List V->Hp->Prop,(∃m,W 0 m [] H1)/\∀i m ys H,W i m ys H ->
 (J.stop i H/\ys.length<=aN/\∀l,H l=none->Q (.ref l) (upd H l (.lst ys))) ∨
 (J.go i H/\∃N:List V->Hp->Prop,(∀zs H',N zs H'->∃m',m'<m/\W (i+1) m' zs H')/\∀x H',J.yld i H x H'->g x (bst n σ js) H' fun σ2 H2=>σ2.drop n=capt σ js/\tc σ2 H2 fun b H3 =>
  if b=true then wi2 σ2 H3 fun J2 H4=>k1l J2 g2 tc2 te N σ2 ys H4 else N ys H3)
def w0l (n:Nat)(js:List Nat)(wi:TI)(g:TG)(tc:TT)(wi2:TI)(g2:TG)(tc2:TT)(te:TE):TE:=fun σ H Q=>wi σ H fun J H1=>h1h J n js g tc wi2 g2 tc2 te Q σ H1
section
variable {Y:Cx}
theorem y0z {elt tg iter tg2 iter2:Expr}{ifs ifs2:List Expr}{scope:cT}{pos:Pos}{g2:TG}{tc2:TT}{te:TE}{N:List V->Hp->Prop}{D:Addr}{pl:List (Addr×Obj)}{σ:St}{itv:af}{ys:List V}{its:List af}{k:Nat}{s:ah}
  {RR:eU->ah->Prop} (xe:Y.xe=fun _ _=>False) (hc:Y.calm=true) (hg:PG Y tg2 g2) (ht:PTs Y ifs2 tc2) (he:PE Y elt te)
  (szD:Y.s₀.heap.objs.size<=D) (neDL:D≠Y.env.locals) (notFs:D∉Y.fs) (clB:∀x d,Y.env.cells.lookup x=some d->d≠D) (plD:∀p∈Y.pn++pl,p.1≠D)
  (h:PIE Y ((D,{cls:=.type "list",data:=.seq its.toArray k})::pl) σ tg2 (fun J H1=>k1l J g2 tc2 te N σ ys H1) itv s) (r0:Vals ys its)
  (hR:∀zs its' k' H' s',Inv Y pl σ H' s'->Vals zs its'->s'.heap.get? D=some {cls:=.type "list",data:=.seq its'.toArray k'}->H' D=none->N zs H'->RR (.ok .next) s') :
  cc (aH Y.prog Y.w) Y.A (.compStart (.ListComp elt [⟨tg,iter,ifs,0⟩,⟨tg2,iter2,ifs2,0⟩] scope pos) 1 itv (.ref D) Y.env) RR s:=by
 obtain⟨it,fp,tn,J,H2,rfl,I2,T,st2,f2,W,⟨m0,w0⟩,turn⟩:=h
 have plN:∀p∈pl,p.1≠D:=fun p hp=>plD p (ar _ hp)
 have fpD:∀b∈fp,b≠D:=fun b hb=>((f2 b hb).2.2.2.2.2 (D,{cls:=.type "list",data:=.seq its.toArray k}) (ar _ (aX ..))).symm
 have p0:=I2.pin (D,{cls:=.type "list",data:=.seq its.toArray k}) (ar _ (aX ..))
 have f2':∀(its':List af) (k':Nat) {H':Hp},(∀b∈fp,H' b=none)->∀b∈fp,FpOk Y ((D,{cls:=.type "list",data:=.seq its'.toArray k'})::pl) H' b:=fun its' k' {H'} hn b hb=>by
  obtain⟨f0,f1,f3,f4,f5,f6⟩:=f2 b hb
  refine⟨hn b hb,f1,f3,f4,f5,fun p hp=>?_⟩
  rcases a7.mp hp with z | z
  ·exact f6 p (bj _ z)
  ·rcases aK.mp z with z | z
   ·rw[z];exact(fpD b hb).symm
   ·exact f6 p (ar _ (aZ _ z))
 have loop:cc (aH Y.prog Y.w) Y.A (.compLoop (.ListComp elt [⟨tg,iter,ifs,0⟩,⟨tg2,iter2,ifs2,0⟩] scope pos) 1 (.ref it) (.ref D) Y.env) RR s:=by
  refine d1c (fun n s'=>∃(i:Nat) (ys:List V) (its:List af) (k:Nat) (H':Hp),Inv Y pl σ H' s'/\tn i s'.heap/\(∀b∈fp,H' b=none)/\H' D=none/\Vals ys its /\
   s'.heap.get? D=some {cls:=.type "list",data:=.seq its.toArray k}/\W i n ys H') ?_ m0 ⟨0,ys,its,k,H2,I2.pins_of fun p hp=>I2.pin p (ar _ (aZ _ hp)),st2,fun b hb=>(f2 b hb).1,p0.2.1,r0,p0.1,w0⟩
  rintro n s3 ⟨i,ys,its,k,H3,I3,st3,fr3,hD3,r3,g3,w3⟩
  have I3p:Inv Y ((D,{cls:=.type "list",data:=.seq its.toArray k})::pl) σ H3 s3:=I3.pins_of fun p hp=>by
   rcases aK.mp hp with z | z
   ·subst z
    exact⟨g3,hD3,neDL,notFs,fun v z=>by cases z⟩
   ·exact I3.pin p (ar _ z)
  have f3:=f2' its k fr3
  rcases turn i n ys H3 w3 with⟨stop,qn⟩ | ⟨go,hz,N2,hN,step⟩
  ·refine thn (T.done Y rfl rfl rfl hc i _ s3 _ H3 (fun _ _=>False) I3p f3 st3 stop) fun r s4 ⟨hr,I4⟩=>?_
   subst hr
   have g4:=I4.pin (D,{cls:=.type "list",data:=.seq its.toArray k}) (ar _ (aX ..))
   exact hR ys its k H3 s4 (I4.pins_of fun p hp=>I4.pin p (ar _ (aZ _ hp))) r3 g4.1 hD3 qn
  ·refine thn (T.item Y rfl rfl rfl hc i _ s3 _ H3 (fun _ _=>False) I3p f3 st3 go) fun r s4 ⟨u,hr,h4⟩=>?_
   subst hr
   refine thn h4 fun _ s5 ⟨x,H5,I5,r5,y5,st5,fr5⟩=>?_
   have I5':=I5.pinned (f2' its k fr5) (T.obj _ _ st5)
   refine thn (xe▸hg _ s5 _ H5 x u _ I5' r5 (step x H5 y5)) fun _ s6 ⟨σ6,H6,I6,⟨l6,d6⟩,q6⟩=>?_
   refine thn (xe▸ht _ s6 σ6 H6 _ I6 q6) fun ok s7 ⟨H7,I7,q7⟩=>?_
   have after:∀ {s8:ah} {H8:Hp},Inv Y ((D,{cls:=.type "list",data:=.seq its.toArray k})::pl++h0u fp s5.heap) σ6 H8 s8 ->
     s8.heap.get? D=some {cls:=.type "list",data:=.seq its.toArray k}/\H8 D=none/\tn (i+1) s8.heap/\(∀b∈fp,H8 b=none)/\Inv Y pl σ H8 s8:=fun{s8 H8} I8=>by
    have p8:=I8.pin (D,{cls:=.type "list",data:=.seq its.toArray k}) (ar _ (bj _ (aX ..)))
    refine⟨p8.1,p8.2.1,T.keep _ _ _ st5 fun b hb o e=>(I8.pin (b,o) (ar _ (ar _ (c0x hb e)))).1,fun b hb=>?_,?_⟩
    ·obtain⟨o,e,_⟩:=T.obj _ _ st5 b hb
     exact(I8.pin (b,o) (ar _ (ar _ (c0x hb e)))).2.1
    ·exact(I8.pins_of (pins':=pl) fun p hp=>I8.pin p (ar _ (bj _ (aZ _ hp)))).weak l6.symm d6
   cases ok with
   | false =>
    rw[if_neg bn]at q7 ⊢
    obtain⟨m',hm,w7⟩:=hN _ _ q7
    obtain⟨a1,a2,a3,a4,a5⟩:=after I7
    exact⟨m',hm,i+1,ys,its,k,H7,a5,a3,a4,a2,r3,a1,w7⟩
   | true =>
    rw[if_pos rfl]at q7 ⊢
    refine thn (xe▸he _ s7 σ6 H7 _ I7 q7) fun u8 s8 ⟨v8,H8,I8,r8,n8⟩=>?_
    obtain⟨m',hm,w8⟩:=hN _ _ n8
    obtain⟨a1,a2,a3,a4,a5⟩:=after I8
    have hsz:its.toArray.size<aN:=by rw[aD,<- r3.length];exact hz
    refine j0 cu ⟨_,a1,rfl⟩ ip (g0 _ _) (ig D its.toArray k u8 (bW hsz)) ⟨a1,?_⟩
    have q9:=gZ a1 (fun xs=>xs.push u8)
    have sb:bH D s8.heap (s8.heap.update D (cv fun xs=>xs.push u8)):=cB ..
    have I9:=a5.young sb a2 szD neDL clB plD
    have fin:∃k',(s8.heap.update D (cv fun xs=>xs.push u8)).get? D=some {cls:=.type "list",data:=.seq (its++[u8]).toArray k'}:=⟨_,by
     rw[show(its++[u8]).toArray=its.toArray.push u8 by simp]
     exact q9⟩
    obtain⟨k',fin⟩:=fin
    exact⟨m',hm,i+1,ys++[v8],its++[u8],k',H8,I9,T.keep _ _ _ a3 (fun b hb o e=>(sb.2 b (fpD b hb)).trans e),a4,a2,r3.append (.cons r8 .nil),fin,w8⟩
 exact o0y loop (T.self _ 0 _ _ _ st2 loop)
end
section
variable {X:Cx}
theorem v0r {elt tg iter tg2 iter2:Expr}{ifs ifs2:List Expr}{scope:cT}{pos:Pos}{own:List Str}{js:List Nat}{g g2:TG}{tc tc2:TT}{wi2:TI}{te:TE}{Q:VK}{pins:List (Addr×Obj)}{σ:St}{s2:ah}{itv:af}{E:af->ah->Prop}
  {RR:af->Addr->eU->ah->Prop} (hc:X.calm=true) (B:Blk X scope own js) (hg:∀s H C fp,(own++capN X.N js).Nodup->PG (blk X scope (own++capN X.N js) s H C fp) tg g) (ht:∀s H C fp,PTs (blk X scope (own++capN X.N js) s H C fp) ifs tc)
  (hi2:∀s H C fp,PI (blk X scope (own++capN X.N js) s H C fp) tg2 iter2 wi2) (hg2:∀s H C fp,(own++capN X.N js).Nodup->PG (blk X scope (own++capN X.N js) s H C fp) tg2 g2) (ht2:∀s H C fp,PTs (blk X scope (own++capN X.N js) s H C fp) ifs2 tc2) (hs2:∀s H C fp x,cb iter2 (blk X scope (own++capN X.N js) s H C fp).env x=pure x)
  (he:∀s H C fp,PE (blk X scope (own++capN X.N js) s H C fp) elt te)
  (h:PIE X pins σ tg (fun J H1=>h1h J own.length js g tc wi2 g2 tc2 te Q σ H1) itv s2)
  (hR:∀C acc s',d1t X pins σ Q C acc s'->RR acc C (.ok .next) s') :
  az (aH X.prog X.w) X.A (kU []) (fun acc s3=>az (aH X.prog X.w) X.A (ib scope X.env.globals (e0f scope X.env) [] X.env.qual none .none (some X.env)) (fun cenv s4 =>
   cc (aH X.prog X.w) X.A (.compStart (.ListComp elt [⟨tg,iter,ifs,0⟩,⟨tg2,iter2,ifs2,0⟩] scope pos) 0 itv acc {cenv with scope:=iu scope X.env}) (RR acc cenv.locals) s4) E s3) E s2:=by
 obtain⟨it,fp,tn,J,H2,rfl,I2,T,st2,f2,W,⟨m0,w0⟩,turn⟩:=h
 refine bL (ft B.nocell (by intro y hy;simp at hy) (fun h1 hns1 hsb1=>?_) B.kind)
 generalize hPu:s2.heap.push {cls:=.type "list",dict:=none,data:=.seq ([]:List af).toArray}=Pu at hns1 hsb1 ⊢
 dsimp only at hns1 hsb1 ⊢
 have hDC:Pu.objs.size=s2.heap.objs.size+1:=by rw[<- hPu,cf]
 generalize hD:s2.heap.objs.size=D at hDC ⊢
 have gD:Pu.get? D=some {cls:=.type "list",dict:=none,data:=.seq ([]:List af).toArray}:=by
  rw[<- hPu,<- hD];exact aP _ rfl
 generalize hC:Pu.objs.size=C at hns1 hsb1 hDC ⊢
 have ltDC:D<C:=by rw[hDC];exact c9 D
 have neDC:D≠C:=aR ltDC
 have keep1:∀b o,s2.heap.get? b=some o->h1.get? b=some o:=fun b o e=>by
  have hb:b<D:=by rw[<- hD];exact aA e
  have hb2:b≠C:=aR (c7 hb ltDC)
  refine(hsb1.2 b hb2).trans (aq _ ?_)
  rw[<- hPu]
  exact aq _ e
 have gD1:h1.get? D=some {cls:=.type "list",dict:=none,data:=.seq ([]:List af).toArray}:=(hsb1.2 D neDC).trans (aq _ gD)
 have szD:s2.heap.objs.size<=D:=fA hD
 have szC:s2.heap.objs.size<=C:=aW szD (bW ltDC)
 have old:∀ {b:Addr},b<s2.heap.objs.size->b≠D/\b≠C:=fun hb=>⟨aR (aU hb szD),aR (aU hb szC)⟩
 have fpo:∀b∈fp,∃o,s2.heap.get? b=some o:=fun b hb=>let ⟨o,e,_⟩:=T.obj 0 _ st2 b hb;⟨o,e⟩
 have fpD:∀b∈fp,b≠D/\b≠C:=fun b hb=>by
  obtain⟨o,e⟩:=fpo b hb
  exact old (aA e)
 have clD:∀x d,X.env.cells.lookup x=some d->d≠D/\d≠C:=fun x d e=>by
  obtain⟨v,o,ho,_⟩:=I2.cell x d e
  exact old (aA ho)
 have pinD:∀p∈X.pn++pins,p.1≠D/\p.1≠C:=fun p hp=>by
  exact old (aA (I2.pin p hp).1)
 have locD:D≠X.env.locals/\C≠X.env.locals:=by
  exact⟨(old I2.lt).1.symm,(old I2.lt).2.symm⟩
 let Y:=blk X scope (own++capN X.N js) s2 H2 C fp
 have IB:Inv Y [] (bst own.length σ js) H2 {s2 with heap:=h1,toks:=s2.toks+([]:List (Str×af)).length}:=r0p B I2 f2 fpo szC hns1 keep1
 have fpB:∀ {H':Hp} {pl:List (Addr×Obj)},(∀b∈fp,H' b=none)->(∀p∈pl,p.1=D)->∀b∈fp,FpOk Y pl H' b:=fun{H' pl} hn hp b hb=>by
  obtain⟨f0,f1,f3,f4,f5,f6⟩:=f2 b hb
  refine⟨hn b hb,(fpD b hb).2,fun z=>?_,.inl hb,fun x c e=>f5 x c (d0h e),fun p q=>?_⟩
  ·rcases aK.mp (I2.stkSub b z)with z | z
   ·exact f1 z
   ·exact f3 z
  ·have q':p∈pl:=by simpa [Y,blk] using q
   rw[hp p q']
   exact(fpD b hb).1.symm
 have clB:∀x d,Y.env.cells.lookup x=some d->d≠D:=fun x d e=>(clD x d (d0h e)).1
 have notFs:D∉Y.fs:=fun z=>by
  obtain⟨_,o,ho,_⟩:=IB.ok.funs.mem z
  exact(old (aA (show s2.heap.get? D=some o from ho))).1 rfl
 have loop:∀s3:ah,s3={s2 with heap:=h1,toks:=s2.toks+([]:List (Str×af)).length} ->
   cc (aH X.prog X.w) X.A (.compLoop (.ListComp elt [⟨tg,iter,ifs,0⟩,⟨tg2,iter2,ifs2,0⟩] scope pos) 0 (.ref it) (.ref D) (jZ scope (e0f scope X.env) C X.env)) (RR (.ref D) C) s3:=by
  rintro s3 rfl
  refine d1d (fun n s'=>∃(i:Nat) (ys:List V) (its:List af) (k:Nat) (H':Hp),Inv Y [] (bst own.length σ js) H' s'/\tn i s'.heap/\(∀b∈fp,H' b=none)/\H' D=none/\Vals ys its /\
   s'.heap.get? D=some {cls:=.type "list",data:=.seq its.toArray k}/\W i n ys H') (hs2 s2 H2 C fp) ?_ m0 ⟨0,[],[],0,H2,IB,T.keep 0 _ _ st2 (fun b hb o e=>keep1 b o e),fun b hb=>(f2 b hb).1,I2.hok.fresh szD,.nil,gD1,w0⟩
  rintro n s3 ⟨i,ys,its,k,H3,I3,st3,fr3,hD3,r3,g3,w3⟩
  have I3p:Inv Y [(D,{cls:=.type "list",data:=.seq its.toArray k})] (bst own.length σ js) H3 s3:=I3.pins_of fun p hp=>by
   have e:p=(D,{cls:=.type "list",data:=.seq its.toArray k}):=by simpa using hp
   subst e
   exact⟨g3,hD3,neDC,notFs,fun v z=>by cases z⟩
  have f3:∀b∈fp,FpOk Y [(D,{cls:=.type "list",data:=.seq its.toArray k})] H3 b:=fpB fr3 fun p hp=>by
   have e:p=(D,{cls:=.type "list",data:=.seq its.toArray k}):=by simpa using hp
   rw[e]
  rcases turn i n ys H3 w3 with⟨stop,hz,qn⟩ | ⟨go,N,hN,step⟩
  ·refine thn (T.done Y rfl rfl rfl hc i _ s3 _ H3 (fun _ _=>False) I3p f3 st3 stop) fun r s4 ⟨hr,I4⟩=>?_
   subst hr
   refine hR C _ s4 ?_
   have g4:=(I4.pin (D,{cls:=.type "list",data:=.seq its.toArray k}) (by simp[Y,blk])).1
   obtain⟨m,hn4,_⟩:=id I4.loc
   have un:Un (frs X.stack) fp H2 H3 s2.heap s4.heap:=I4.base
   have I5:Inv X pins σ H3 s4:=I2.call' I4.os un I4.hok I4.bare fun b hb=>let ⟨_,b1,_,b3,b4,b5⟩:=f2 b hb;⟨b3,b1,b4,b5⟩
   have I6:=I5.track (ys:=ys) (its:=its) (n:=k) hD3 (aW I2.sz szD) locD.1 (fun x d e=>(clD x d e).1) (fun p hp=>(pinD p hp).1) hz r3 g4
   refine⟨D,_,m,rfl,hn4,I6,?_,aW I2.sz szC,locD.2,fun x d e=>(clD x d e).2,fun p hp=>(pinD p hp).2,qn D hD3⟩
   rw[a0x (cM neDC)]
   exact I4.free
  ·refine thn (T.item Y rfl rfl rfl hc i _ s3 _ H3 (fun _ _=>False) I3p f3 st3 go) fun r s4 ⟨u,hr,h4⟩=>?_
   subst hr
   refine thn h4 fun _ s5 ⟨x,H5,I5,r5,y5,st5,fr5⟩=>?_
   have f5:∀b∈fp,FpOk Y [(D,{cls:=.type "list",data:=.seq its.toArray k})] H5 b:=fun b hb=>⟨fr5 b hb,(f3 b hb).2⟩
   have I5':=I5.pinned f5 (T.obj _ _ st5)
   refine thn (hg s2 H2 C fp B.nd _ s5 _ H5 x u _ I5' r5 (step x H5 y5)) fun _ s6 ⟨σ6,H6,I6,d6,q6⟩=>?_
   refine thn (ht s2 H2 C fp _ s6 σ6 H6 _ I6 q6) fun ok s7 ⟨H7,I7,q7⟩=>?_
   have after:∀ {s8:ah} {H8:Hp} {its:List af} {k:Nat},Inv Y ([(D,{cls:=.type "list",data:=.seq its.toArray k})]++h0u fp s5.heap) σ6 H8 s8 ->
     s8.heap.get? D=some {cls:=.type "list",data:=.seq its.toArray k}/\H8 D=none/\tn (i+1) s8.heap/\(∀b∈fp,H8 b=none)/\Inv Y [] (bst own.length σ js) H8 s8:=fun{s8 H8 its k} I8=>by
    have p8:=I8.pin (D,{cls:=.type "list",data:=.seq its.toArray k}) (by simp[Y,blk])
    refine⟨p8.1,p8.2.1,T.keep _ _ _ st5 fun b hb o e=>(I8.pin (b,o) (ar _ (ar _ (c0x hb e)))).1,fun b hb=>?_,?_⟩
    ·obtain⟨o,e,_⟩:=T.obj _ _ st5 b hb
     exact(I8.pin (b,o) (ar _ (ar _ (c0x hb e)))).2.1
    ·refine(I8.pins_of (pins':=[]) fun p hp=>absurd hp (by simp[Y,blk])).weak ?_ fun j v e=>?_
     ·rw[I8.len,h0o]
      show _=(own++capN X.N js).length
      unfold capN
      simp
     ·rcases bf j own.length with z | z
      ·exfalso
       unfold bst at e
       rw[a_ (by simpa using z),bP]at e
       split at e <;> cases e
      ·unfold bst at e
       rw[bx (by simpa using z),cx,<- d6,bw]at e
       rw[<- e]
       congr 1
       omega
   cases ok with
   | false =>
    rw[if_neg bn]at q7 ⊢
    obtain⟨m',hm,w7⟩:=hN _ _ q7
    obtain⟨a1,a2,a3,a4,a5⟩:=after I7
    exact⟨m',hm,i+1,ys,its,k,H7,a5,a3,a4,a2,r3,a1,w7⟩
   | true =>
    rw[if_pos rfl]at q7 ⊢
    refine thn (hi2 s2 H2 C fp _ s7 σ6 H7 _ I7 q7) fun v8 s8 h8=>thn h8 fun itv s9 h9=>?_
    refine y0z (Y:=Y) (pl:=h0u fp s5.heap) rfl hc (hg2 s2 H2 C fp B.nd) (ht2 s2 H2 C fp) (he s2 H2 C fp) szD neDC notFs clB (fun p hp=>?_) h9 r3 fun zs its' k' H' s' I' r' g' d' n'=>⟨rfl,?_⟩
    ·have hp':p∈h0u fp s5.heap:=by simpa [Y,blk] using hp
     exact(fpD p.1 (s0i hp').1).1
    ·obtain⟨m',hm,w8⟩:=hN _ _ n'
     have I'p:Inv Y ([(D,{cls:=.type "list",data:=.seq its'.toArray k'})]++h0u fp s5.heap) σ6 H' s':=I'.pins_of fun p hp=>by
      rcases a7.mp hp with z | z
      ·have e:p=(D,{cls:=.type "list",data:=.seq its'.toArray k'}):=by simpa using z
       subst e
       exact⟨g',d',neDC,notFs,fun v z=>by cases z⟩
      ·exact I'.pin p (ar _ z)
     obtain⟨a1,a2,a3,a4,a5⟩:=after I'p
     exact⟨m',hm,i+1,zs,its',k',H',a5,a3,a4,d',r',g',w8⟩
 exact kW (loop _ rfl) (T.self _ 0 _ _ _ (T.keep 0 _ _ st2 fun b hb o e=>keep1 b o e) (loop _ rfl))
theorem q0p {elt tg iter tg2 iter2:Expr}{ifs ifs2:List Expr}{scope:cT}{pos pos' spos:Pos}{i:Nat}{x:Str}(own:List Str)(js:List Nat){wi wi2:TI}{g g2:TG}{tc tc2:TT}{te:TE}(hN:X.N.Nodup)(hi:X.N[i]? = some x)(hx:Loc X.env.scope x)
  (hc:X.calm=true) (B:Blk X scope own js) (hit:PI X tg iter wi)
  (hg:∀s H C fp,(own++capN X.N js).Nodup->PG (blk X scope (own++capN X.N js) s H C fp) tg g) (ht:∀s H C fp,PTs (blk X scope (own++capN X.N js) s H C fp) ifs tc)
  (hi2:∀s H C fp,PI (blk X scope (own++capN X.N js) s H C fp) tg2 iter2 wi2) (hg2:∀s H C fp,(own++capN X.N js).Nodup->PG (blk X scope (own++capN X.N js) s H C fp) tg2 g2) (ht2:∀s H C fp,PTs (blk X scope (own++capN X.N js) s H C fp) ifs2 tc2) (he:∀s H C fp,PE (blk X scope (own++capN X.N js) s H C fp) elt te)
  (hf:X.fn x=true∨X.env.scope.names.lookup x=some .local:=by first | exact .inl rfl | exact .inr rfl | assumption)
  (hw:gu (.ListComp elt [⟨tg,iter,ifs,0⟩,⟨tg2,iter2,ifs2,0⟩] scope pos) (some (.Name x pos')) spos.line X.env=pure true:=by rfl)
  (hs:∀x,cb iter X.env x=pure x:=by intro _;rfl) (hs2:∀s H C fp x,cb iter2 (blk X scope (own++capN X.N js) s H C fp).env x=pure x:=by intros;rfl) :
  PS X (.Assign [.Name x pos'] (.ListComp elt [⟨tg,iter,ifs,0⟩,⟨tg2,iter2,ifs2,0⟩] scope pos) spos) (fun D σ H=>w0l own.length js wi g tc wi2 g2 tc2 te σ H fun v H'=>D.nx (σ.set i (some v)) H'):=by
 intro pins s σ H D I h
 have hcl:e_ scope X.env=pure (e0f scope X.env):=d0x fun x hx hf=>I.ok.has x.1 (B.free x hx hf)
 rw[gV _ _ _ _ hw]
 refine ab (b9 (ab ?_))
 show az _ X.A (do let _ <- gf (.ListComp elt [⟨tg,iter,ifs,0⟩,⟨tg2,iter2,ifs2,0⟩] scope pos) scope X.env _ (kU []) false (eval iter X.env) (some (dA (.Name x pos') X.env))) _ _ s
 refine ab (thn (Q:=fun _ s'=>SP X pins D .next s') (cV (use:=some (dA (.Name x pos') X.env)) rfl hs hcl B.kind B.names (thn (hit pins s σ H _ I h) fun v s1 h1=>thn h1 fun itv s2 h2=>?_)) fun _ s' q=>aj (aj q))
 refine v0r (Q:=fun v H'=>D.nx (σ.set i (some v)) H') (RR:=fun acc C=>jd (aH X.prog X.w) X.A X.xe (some (dA (.Name x pos') X.env)) (fun _ s'=>SP X pins D .next s') acc C) hc B hg ht hi2 hg2 ht2 hs2 he h2 fun C acc s' hb=>?_
 obtain⟨l,H',m,rfl,hn,I',c1,c2,c3,c4,c5,q⟩:=hb
 show az _ X.A (dA (.Name x pos') X.env (.ref l)) _ _ _
 refine f8 (k0b (v:=.ref l) I' hN hi hx rfl (fun s3 I3 ⟨a,sb,ha⟩=>?_) hf)
 have ne:C≠a:=by
  rcases ha with z | z
  ·rw[z];exact c3
  ·exact(c4 x a z).symm
 exact⟨m,hn.sameBut sb ne,fun h' hs'=>⟨_,H',I3.young hs' c1 c2 c3 c4 c5,q⟩⟩
end
def j0f (n2:Nat)(c:En->Prop)(g:AG)(tc:AT)(te:AE)(k:List D->En->Prop):List D->List D->En->Prop
 | [],acc,ρ=>c ρ/\k acc ρ
 | d::ds,acc,ρ=>c ρ/\acc.length<=1000000/\g d ρ fun ρ1=>tc ρ1 fun b ρ2=>if b=true then te ρ2 fun r ρ3=>sto [r.frz] ρ3 fun es ρ4=>j0f n2 c g tc te k ds (acc++es) (aG n2 .un++ρ4.drop n2)else j0f n2 c g tc te k ds acc (aG n2 .un++ρ2.drop n2)
def i0n (n2 n:Nat)(js:List Nat)(c:En->Prop)(g:AG)(tc:AT)(i2:AI)(g2:AG)(tc2:AT)(te:AE)(q:List D->En->Prop):List D->List D->En->Prop
 | [],acc,ρ=>c ρ/\acc.length<=1000000/\q acc ρ
 | d::ds,acc,ρ=>c ρ/\g d (blkE n js ρ) fun ρ1=>tc ρ1 fun b ρ2=>if b=true then i2 ρ2 fun ds2 c2 ρ3=>j0f n2 c2 g2 tc2 te (fun acc' ρ4=>i0n n2 n js c g tc i2 g2 tc2 te q ds acc' (back ρ (js.map R.o) (ρ4.drop n))) ds2 acc ρ3 else i0n n2 n js c g tc i2 g2 tc2 te q ds acc (back ρ (js.map R.o) (ρ2.drop n))
def n1m (n2 n:Nat)(js:List Nat)(i:AI)(g:AG)(tc:AT)(i2:AI)(g2:AG)(tc2:AT)(te:AE):AE:=fun ρ q=>i ρ fun ds c ρ1=>i0n n2 n js c g tc i2 g2 tc2 te (fun acc ρ2=>q (.f acc) ρ2) ds [] ρ1
section
variable {K:aa}
theorem z0y {n2:Nat}{g2:TG}{tc2:TT}{te:TE}{ag2:AG}{atc2:AT}{ate:AE}(hg:TGok K (fun j=>decide (n2<=j)) g2 ag2)(hc:TTok K tc2 atc2)(he:TEok K te ate)
  {F:Fr} {σ:St} {ρ:En} {H:Hp} {J:It} {ds:List D} {c:En->Prop} {k:List D->En->Prop} {N:List V->Hp->Prop} {ys:List V} {acc:List D}
  (hpin:∀i a,F.pin i a->n2<=i) (hn:n2<=σ.length) (h0:σ=aG n2 none++σ.drop n2) (r:Rel K F σ ρ H)
  (wk:∀ ρ2 H2,Same (hid H (hs F σ ρ)) (hid H2 (hs F σ ρ2))->(∀i,SvOk K (hid H2 (hs F σ ρ2)) H2 σ[i]? (gt ρ2 i))->(∀a,hs F σ ρ2 a->Nt H2 a)->c ρ2->WkAt K (hs F σ ρ2) H2 J ds)
  (rd:RepDs K (hid H (hs F σ ρ)) ys acc) (h:j0f n2 c ag2 atc2 ate k ds acc ρ)
  (kk:∀acc' ρ' ys' H',k acc' ρ'->Rel K F σ ρ' H'->Kp σ ρ ρ' H H'->RepDs K (hid H' (hs F σ ρ')) ys' acc'->N ys' H'):k1l J g2 tc2 te N σ ys H:=by
 refine⟨fun i m ys H'=>∃ ρ' acc,m=ds.length - i/\i<=ds.length/\Rel K F σ ρ' H'/\Kp σ ρ ρ' H H'/\RepDs K (hid H' (hs F σ ρ')) ys acc/\j0f n2 c ag2 atc2 ate k (ds.drop i) acc ρ',⟨ds.length,ρ,acc,rfl,bg _,r,.refl,rd,h⟩,?_⟩
 rintro i m ys H' ⟨ρ',acc,rfl,hl,r',k',rd,h'⟩
 have w:c ρ'->WkAt K (hs F σ ρ') H' J ds:=fun hc=>wk ρ' H' k'.vis r'.sl (fun a z=>z0a r' z) hc
 rcases bf i ds.length with lt | ge
 ·right
  rw[br lt]at h'
  unfold j0f at h'
  obtain⟨hcc,hz,h'⟩:=h'
  obtain⟨go,yld⟩:=(w hcc i).1 ds[i] (ao lt)
  have yl:ys.length=acc.length:=rd.length
  refine⟨go,p0d (by omega),fun zs H2=>∃ ρ2 acc2,Rel K F σ ρ2 H2/\Kp σ ρ ρ2 H H2/\RepDs K (hid H2 (hs F σ ρ2)) zs acc2/\j0f n2 c ag2 atc2 ate k (ds.drop (i+1)) acc2 ρ2,
   fun zs H2 ⟨ρ2,acc2,a1,a2,a3,a5⟩=>⟨ds.length - (i+1),by omega,ρ2,acc2,rfl,lt,a1,a2,a3,a5⟩,fun x H2 hy=>?_⟩
  obtain⟨sm,rx⟩:=yld x H2 hy
  have k':Kp σ ρ ρ' H H2:=k'.trans ⟨fun a o e _=>sm a o e,fun _ h=>h⟩
  have rd:RepDs K (hid H2 (hs F σ ρ')) ys acc:=rd.same (b0v fun a o e n=>⟨sm a o e,n⟩)
  have r':=r'.grow sm
  refine hg F σ ρ' H2 x _ _ _ (fun i a h=>decide_eq_true (hpin i a h)) r' rx h' fun σ3 ρ3 h3 r3 l3 p3 o3=>?_
  have drop3:σ3.drop n2=σ.drop n2:=by
   apply cW
   intro i
   rw[bw,bw]
   exact p3 (n2+i) (decide_eq_true (Nat.le_add_right ..))
  have ret:∀ ρ4 H4,Rel K F σ3 ρ4 H4->Kp σ3 ρ3 ρ4 H2 H4->Rel K F σ (aG n2 .un++ρ4.drop n2) H4/\Kp σ ρ' (aG n2 .un++ρ4.drop n2) H2 H4/\Same (hid H4 (hs F σ3 ρ4)) (hid H4 (hs F σ (aG n2 .un++ρ4.drop n2))):=fun ρ4 H4 r4 k4=>by
   obtain⟨f1,f2⟩:=r4.forget (n:=n2) (by omega) hpin
   rw[drop3,<- h0]at f1 f2
   refine⟨f1,⟨fun a o e n=>k4.st a o e fun⟨j,hj,ej⟩=>?_,fun j hj=>?_⟩,f2⟩
   ·obtain⟨b1,b2⟩:=o3 j hj
    rw[b2]at ej
    exact n ⟨j,b1,ej⟩
   ·rw[o0b]at hj
    split at hj
    ·cases hj
    ·rename_i hnj
     rw[j0w,show n2+(j - n2)=j by omega]at hj
     exact(o3 j (k4.sb j hj)).1
  refine⟨⟨l3,fun j v e=>?_⟩,hc F σ3 ρ3 H2 _ _ r3 h3 fun b ρ4 H4 h4 r4 k4=>?_⟩
  ·rcases bf j n2 with z | z
   ·exfalso
    rw[h0,a_ (by simpa using z),bP]at e
    split at e <;> cases e
   ·rw[p3 j (decide_eq_true z)];exact e
  ·cases b with
   | false =>
    obtain⟨b1,b2,_⟩:=ret ρ4 H4 r4 k4
    exact⟨_,acc,b1,k'.trans b2,rd.same b2.vis,h4⟩
   | true =>
    refine he F σ3 ρ4 H4 _ _ r4 h4 fun r5 ρ5 v H5 h5 o5=>?_
    obtain⟨r5',k5,i5⟩:=o5.inF
    obtain⟨d,ρ6,h6,r6,k6,rv⟩:=t0y r5' i5 h5
    obtain⟨b1,b2,b3⟩:=ret ρ6 H5 r6 (k4.trans (k5.trans k6))
    exact⟨_,acc++[d],b1,k'.trans b2,(rd.same b2.vis).append (.one (rv.same b3)),h6⟩
 ·left
  rw[bE ge]at h'
  unfold j0f at h'
  obtain⟨hcc,h'⟩:=h'
  exact⟨(w hcc i).2 ge,kk acc ρ' ys H' h' r' k' rd⟩
theorem n0a {n2 n:Nat}{js:List Nat}{wi wi2:TI}{g g2:TG}{tc tc2:TT}{te:TE}{ai ai2:AI}{ag ag2:AG}{atc atc2:AT}{ate:AE}(hi:TIok K (fun _=>true) wi ai)(hg:TGok K (fun j=>decide (j<n2)||decide (n<=j)) g ag)(hc:TTok K tc atc)
  (hi2:TIok K (fun _=>true) wi2 ai2) (hg2:TGok K (fun j=>decide (n2<=j)) g2 ag2) (hc2:TTok K tc2 atc2) (he:TEok K te ate)
  (hn:n2<=n:=by decide) (hd:dis (js.map R.o)=true:=by rfl):TEok K (w0l n js wi g tc wi2 g2 tc2 te) (n1m n2 n js ai ag atc ai2 ag2 atc2 ate):=by
 intro F σ ρ H q Q r h k
 refine hi F σ ρ H _ _ r h fun ds c ρ1 J H1 h1 r1 k1 wk=>?_
 have hd':dis (blkR n js)=true:=by rw[k0z];exact hd
 refine⟨fun i m ys H'=>∃ ρ' acc,m=ds.length - i/\i<=ds.length/\Rel K F σ ρ' H'/\Kp σ ρ1 ρ' H1 H'/\RepDs K (hid H' (hs F σ ρ')) ys acc/\i0n n2 n js c ag atc ai2 ag2 atc2 ate (fun acc ρ2=>q (.f acc) ρ2) (ds.drop i) acc ρ',⟨ds.length,ρ1,[],rfl,bg _,r1,.refl,.nil,h1⟩,?_⟩
 rintro i m ys H' ⟨ρ',acc,rfl,hl,r',k',rd,h'⟩
 have w:c ρ'->WkAt K (hs F σ ρ') H' J ds:=fun hc=>wk σ ρ' H' k'.vis r'.sl (fun _ _ _ e=>e) (fun a z=>z0a r' z) hc
 have yl:ys.length=acc.length:=rd.length
 rcases bf i ds.length with lt | ge
 ·right
  rw[br lt]at h'
  unfold i0n at h'
  obtain⟨hcc,h'⟩:=h'
  obtain⟨go,yld⟩:=(w hcc i).1 ds[i] (ao lt)
  refine⟨go,fun zs H2=>∃ ρ2 acc2,Rel K F σ ρ2 H2/\Kp σ ρ1 ρ2 H1 H2/\RepDs K (hid H2 (hs F σ ρ2)) zs acc2/\i0n n2 n js c ag atc ai2 ag2 atc2 ate (fun acc ρ2=>q (.f acc) ρ2) (ds.drop (i+1)) acc2 ρ2,
   fun zs H2 ⟨ρ2,acc2,a1,a2,a3,a5⟩=>⟨ds.length - (i+1),by omega,ρ2,acc2,rfl,lt,a1,a2,a3,a5⟩,fun x H2 hy=>?_⟩
  obtain⟨sm,rx⟩:=yld x H2 hy
  have r0':=r'
  have k':Kp σ ρ1 ρ' H1 H2:=k'.trans ⟨fun a o e _=>sm a o e,fun _ h=>h⟩
  have rd:RepDs K (hid H2 (hs F σ ρ')) ys acc:=rd.same (b0v fun a o e n=>⟨sm a o e,n⟩)
  have r':=r0'.grow sm
  have src:=m0u (K:=K) (F:=F) (σ:=σ) (ρ:=ρ') (H:=H2) n js
  have rb:=r'.sub src hd'
  have hs2:=r0w r' src
  rw[b0w]at rb hs2
  have pin0:∀i a,(f0m F σ ρ' H2 (bst n σ js) (blkE n js ρ')).pin i a->n<=i:=fun i a h=>by
   rcases h with h | h
   ·exact m0v h.1
   ·exact h.elim
  have hlen:(bst n σ js).length=n+js.length:=h0o
  have ret:∀ σ2 ρ2 H3,Rel K (f0m F σ ρ' H2 (bst n σ js) (blkE n js ρ')) σ2 ρ2 H3->σ2.length=(bst n σ js).length->σ2.drop n=capt σ js->(∀i,(gt ρ2 i).own=true->(gt (blkE n js ρ') i).own=true) ->
    Rel K F σ (back ρ' (js.map R.o) (ρ2.drop n)) H3/\Kp σ ρ' (back ρ' (js.map R.o) (ρ2.drop n)) H2 H3/\Same (hid H3 (hs (f0m F σ ρ' H2 (bst n σ js) (blkE n js ρ')) σ2 ρ2)) (hid H3 (hs F σ (back ρ' (js.map R.o) (ρ2.drop n)))):=fun σ2 ρ2 H3 rr hlen2 hdrop hown=>by
   obtain⟨f1,f2⟩:=rr.forget (n:=n) (by omega) pin0
   rw[hdrop]at f1 f2
   have f1':Rel K (f0m F σ ρ' H2 (bst n σ js) ((blkR n js).map (e0n ρ'))) (bst n σ js) (aG n .un++ρ2.drop n) H3:=by rw[b0w];exact f1
   have bk:=r'.back src hd' f1' fun i hi=>by
    rw[b0w]
    rw[o0b]at hi
    split at hi
    ·cases hi
    ·rename_i hni
     rw[j0w,show n+(i - n)=i by omega]at hi
     exact hown i hi
   have ln:(aG n Sv.un++ρ2.drop n).length=n+js.length:=by
    have:=rr.len
    simp;omega
   rw[l0a js ρ' n _ ln,dq (by simp),b0w]at bk
   exact⟨bk.1,bk.2.1,f2.trans bk.2.2⟩
  refine hg _ (bst n σ js) (blkE n js ρ') H2 x _ _ _ (fun i a h=>by simp[pin0 i a h]) rb (by rw[hs2];exact rx) h' fun σ2 ρ2 h2 r2 l2 p2 o2=>?_
  have hdrop:σ2.drop n=capt σ js:=by
   have:σ2.drop n=(bst n σ js).drop n:=by
    apply cW
    intro i
    rw[bw,bw]
    exact p2 (n+i) (by simp)
   rw[this]
   unfold bst
   rw[dq (by simp)]
  have hin:σ2=aG n2 none++σ2.drop n2:=by
   apply cW
   intro j
   rcases bf j n2 with z | z
   ·rw[p2 j (by simp[z]),a_ (by simpa using z)]
    unfold bst
    rw[a_ (by simp;omega),bP,bP,if_pos z,if_pos (by omega)]
   ·rw[bx (by simpa using z),cx,bw]
    congr 1;omega
  have rdb:RepDs K (hid H2 (hs (f0m F σ ρ' H2 (bst n σ js) (blkE n js ρ')) σ2 ρ2)) ys acc:=by
   rw[<- hs2]at rd
   refine rd.same (b0v fun a o e nn=>⟨e,fun z=>nn ?_⟩)
   rcases z with z | ⟨j,hj,ej⟩
   ·exact .inl z
   ·obtain⟨b1,b2⟩:=o2 j hj
    rw[b2]at ej
    exact .inr ⟨j,b1,ej⟩
  refine⟨hdrop,hc _ σ2 ρ2 H2 _ _ r2 h2 fun b ρ3 H3 h3 r3 k3=>?_⟩
  cases b with
  | false =>
   obtain⟨b1,b2,_⟩:=ret σ2 ρ3 H3 r3 l2 hdrop fun i hi=>(o2 i (k3.sb i hi)).1
   exact⟨_,acc,b1,k'.trans b2,rd.same b2.vis,h3⟩
  | true =>
   refine hi2 _ σ2 ρ3 H3 _ _ r3 h3 fun ds2 c2 ρ4 J2 H4 h4 r4 k4 wk2=>?_
   refine z0y hg2 hc2 he (fun i a h=>aW hn (pin0 i a h)) (by omega) hin r4 (fun ρ5 H5 a1 a2 a3 a4=>wk2 σ2 ρ5 H5 a1 a2 (fun _ _ _ e=>e) a3 a4) (rdb.same (k3.trans k4).vis) h4 fun acc' ρ5 ys' H5 h5 r5 k5 rd5=>?_
   obtain⟨b1,b2,b3⟩:=ret σ2 ρ5 H5 r5 l2 hdrop fun i hi=>(o2 i (k3.sb i (k4.sb i (k5.sb i hi)))).1
   exact⟨_,acc',b1,k'.trans b2,rd5.same b3,h5⟩
 ·left
  rw[bE ge]at h'
  unfold i0n at h'
  obtain⟨hcc,hz,h'⟩:=h'
  refine⟨(w hcc i).2 ge,small (by omega),fun l hl'=>?_⟩
  exact((k.after k1).after k').new r' h' rd hl'
theorem n0b {pr:Nat->Bool}{te:TE}{ae:AE}{i n:Nat}{js:List Nat}{wi wi2:TI}{g g2:TG}{tc tc2:TT}(h:TEok K (w0l n js wi g tc wi2 g2 tc2 te) ae)(hi:pr i=false):TSok K pr (fun D σ H=>w0l n js wi g tc wi2 g2 tc2 te σ H fun v H'=>D.nx (σ.set i (some v)) H') (aSet i ae):=w0p hi h
end
section
variable {n2 n:Nat}{js:List Nat}{c:En->Prop}{g g2:AG}{tc tc2:AT}{i2:AI}{te:AE}
theorem d1b {α:Type}{q:List D->En->Prop}(h:α->D)(f:α->List D){xs:List α}{ρ:En}(hc:c ρ)
  (hs:∀x acc (N:List D->En->Prop),x∈xs->(∃ys:List α,ys.length<=xs.length/\acc=(ys.flatMap f)/\∀y∈ys,y∈xs)->N (acc++f x) ρ->g (h x) (blkE n js ρ) fun ρ1=>tc ρ1 fun b ρ2=>if b=true then i2 ρ2 fun ds2 c2 ρ3=>j0f n2 c2 g2 tc2 te (fun acc' ρ4=>N acc' (back ρ (js.map R.o) (ρ4.drop n))) ds2 acc ρ3 else N acc (back ρ (js.map R.o) (ρ2.drop n)))
  (hl:(xs.flatMap f).length<=1000000) (hd:q (xs.flatMap f) ρ):i0n n2 n js c g tc i2 g2 tc2 te q (xs.map h) [] ρ:=by
 have go:∀(zs ys:List α),ys++zs=xs->i0n n2 n js c g tc i2 g2 tc2 te q (zs.map h) (ys.flatMap f) ρ:=by
  intro zs
  induction zs with
  | nil =>
   intro ys e
   rw[bq]at e
   subst e
   rw[cS]
   unfold i0n
   exact⟨hc,hl,hd⟩
  | cons z zs ih =>
   intro ys e
   rw[aT]
   unfold i0n
   refine⟨hc,hs z _ (fun acc' ρ'=>i0n n2 n js c g tc i2 g2 tc2 te q (zs.map h) acc' ρ') (by rw[<- e];simp) ⟨ys,by rw[<- e,aJ];omega,rfl,fun y hy=>by rw[<- e];exact bj _ hy⟩ ?_⟩
   have:=ih (ys++[z]) (by rw[<- e,bG];rfl)
   rw[fk,fK,iO,bq]at this
   exact this
 exact go xs [] rfl
end
end L2
namespace L2
theorem g1z {i j:Nat}{d:D}{ρ:En}{k:En->Prop}(h:v0m 2 (i0l (h0y i) (i0l (h0y j) gaNil)) d ρ k):∃ ρ',k ρ':=by
 cases d with
 | tup ds =>
  cases ds with
  | nil=>exact h.elim
  | cons d1 ds =>
   cases ds with
   | nil=>exact h.elim
   | cons d2 ds =>
    cases ds with
    | nil=>exact⟨_,h⟩
    | cons _ _=>exact h.elim
 | _=>exact h.elim
theorem a1c {i j m:Nat}{d1 d2 d3:D}{ρ:En}{k:En->Prop}(h:k (pt (pt (pt ρ i (.vl d1)) j (.vl d2)) m (.vl d3))):v0m 2 (i0l (h0y i) (i0l (v0m 2 (i0l (h0y j) (i0l (h0y m) gaNil))) gaNil)) (.tup [d1,.tup [d2,d3]]) ρ k:=h
end L2
namespace L2
open PySem PySem.Spec PyProof.Rows
abbrev EnO (h:Heap)(e it:Addr)(i:Int)(old:af)(a:Addr)(f:Bool):Prop :=
 h.get? e=some {cls:=.type "enumerate",dict:=none,data:=.fields #[db a,.bool f,.ref it,db i,.none,old],slots:=#[]}
section
variable {prog:aO}{w:be}{A:bo}{E:af->ah->Prop}{s:ah}
theorem f1i {a:Addr}{o:Obj}{Q:Option Obj->ah->Prop}(ho:s.heap.get? a=some o)(h:Q (some o) s):az (aH prog w) A (loadIfAlive a) Q E s:=by
 have h':Q (s.heap.get? a) s:=by rw[ho];exact h
 exact fun _ _ _=>h'
theorem f1v {e it a:Addr}{f:Bool}{oa:Obj}{fp:List Addr}{n i:Nat}{P:Nat->af->Prop}{St:Nat->Heap->Prop}{old:af}{Q:af->ah->Prop}
  (D:mz prog w A it fp n P St) (he:EnO s.heap e it i old a f) (ha:s.heap.get? a=some oa) (hae:a≠e) (hai:a≠it) (hst:St i s.heap) (hlt:i<n) (hne:e≠it) (hef:e∉fp)
  (hQ:∀x h' tk,P i x->EnO h' e it ((i:Int)+1) old a true->St (i+1) h' ->
   h'.get? s.heap.objs.size=some {cls:=.type "tuple",data:=.seq #[.int i tk,x]}->h'.objs.size=s.heap.objs.size+1 ->
   (∀b o,b≠e->b≠it->s.heap.get? b=some o->h'.get? b=some o)->Q (.ref s.heap.objs.size) {s with heap:=h',toks:=tk+1}) :
  az (aH prog w) A (Builtin.«enumerate.__next__» ⟨[.ref e],[]⟩) (fun fin s'=>∃v,fin = .done (.ret v)/\Q v s') E s:=by
 obtain⟨hp,g,d,tk₀,os⟩:=s
 show az _ _ (kE (.ref e) 2>>=_) _ _ _
 refine ab (cZ he rfl (x:=.ref it) rfl ?_)
 refine ab (D.item i _ _ _ hlt hst fun x h₁ tk hPx hit₁ hs₁=>?_)
 replace hs₁:bH it hp h₁:=hs₁
 have he₁:EnO h₁ e it i old a f:=(hs₁.2 e hne).trans he
 show az _ _ (kE (.ref e) 3>>=_) _ _ ⟨h₁,g,d,tk,os⟩
 refine ab (cZ he₁ rfl (x:=db i) rfl ?_)
 show az _ _ (kE (.ref e) 4>>=_) _ _ ⟨h₁,g,d,tk,os⟩
 refine ab (cZ he₁ rfl (x:=.none) rfl ?_)
 show az _ _ (mkInt i>>=_) _ _ ⟨h₁,g,d,tk,os⟩
 refine ab (wpAny_mkInt ?_)
 show az _ _ (setField (.ref e) 3 (db ((i:Int)+1))>>=_) _ _ ⟨h₁,g,d,tk+1,os⟩
 refine ab (cG he₁ (by simp) fun h₂ he₂ hs₂=>?_)
 replace hs₂:bH e h₁ h₂:=hs₂
 replace he₂:EnO h₂ e it ((i:Int)+1) old a f:=he₂
 show az _ _ (setField (.ref e) 4 .none>>=_) _ _ ⟨h₂,g,d,tk+1,os⟩
 refine ab (cG he₂ (by simp) fun h₃ he₃ hs₃=>?_)
 replace hs₃:bH e h₂ h₃:=hs₃
 replace he₃:EnO h₃ e it ((i:Int)+1) old a f:=he₃
 show az _ _ (newTuple [.int i tk,x]>>=_) _ _ ⟨h₃,g,d,tk+1,os⟩
 refine ab (wpAny_newTuple ?_)
 have he₄:EnO (h₃.push {cls:=.type "tuple",data:=.seq #[.int i tk,x]}) e it ((i:Int)+1) old a f:=aq _ he₃
 generalize hh₄:h₃.push {cls:=.type "tuple",data:=.seq #[.int i tk,x]}=h₄ at he₄
 have hsz:h₃.objs.size=hp.objs.size:=by rw[hs₃.1,hs₂.1,hs₁.1]
 have hel:e<hp.objs.size:=aA he
 have ht₄:h₄.get? hp.objs.size=some {cls:=.type "tuple",data:=.seq #[.int i tk,x]}:=by rw[<- hh₄,<- hsz];exact aP _ rfl
 have hz₄:h₄.objs.size=hp.objs.size+1:=by rw[<- hh₄,cf,hsz]
 have hk₄:∀b o,b≠e->b≠it->hp.get? b=some o->h₄.get? b=some o:=fun b o hbe hbi hb=>by
  rw[<- hh₄];exact aq _ (hs₃.extBut b o hbe (hs₂.extBut b o hbe (hs₁.extBut b o hbi hb)))
 have hit₄:St (i+1) h₄:=D.frame _ _ _ hit₁ fun b hb o y=>by
  have hbe:b≠e:=fun q=>hef (q▸hb)
  rw[<- hh₄];exact aq _ (hs₃.extBut b o hbe (hs₂.extBut b o hbe y))
 show az _ _ (fF (.ref e)>>=_) _ _ ⟨h₄,g,d,tk+1,os⟩
 rw[hsz]
 clear hh₄ he₃ hs₃ he₂ hs₂ he₁ hs₁ hit₁ hsz h₃ h₂ h₁
 have ha₄:h₄.get? a=some oa:=hk₄ a oa hae hai ha
 refine ab ?_
 unfold fF
 refine ab (cZ he₄ rfl (x:=db a) rfl ?_)
 show az _ _ (loadIfAlive ((a:Int).toNat)>>=_) _ _ _
 rw[cL]
 refine ab (f1i ha₄ ?_)
 simp only[Option.isNone_some,eh,if_false]
 refine ab (cZ he₄ rfl (x:=.bool f) rfl ?_)
 have fin:∀h₅:Heap,EnO h₅ e it ((i:Int)+1) old a true->bH e h₄ h₅->Q (.ref hp.objs.size) ⟨h₅,g,d,tk+1,os⟩:=fun h₅ he₅ hs₅ =>
  hQ x h₅ tk hPx he₅ (D.frame _ _ _ hit₄ fun b hb o y=>hs₅.extBut b o (fun q=>hef (q▸hb)) y) (hs₅.extBut _ _ (ca hel) ht₄) (by show h₅.objs.size=hp.objs.size+1;rw[hs₅.1,hz₄]) fun b o hbe hbi hb=>hs₅.extBut b o hbe (hk₄ b o hbe hbi hb)
 cases f with
 | true =>
  rw[if_neg (show ¬((Value.bool true != Value.bool true)=true)from bn)]
  refine aj ?_
  simp only[eh,if_false]
  exact aj ⟨_,rfl,fin h₄ he₄ (jD _ _)⟩
 | false =>
  rw[if_pos (show(Value.bool false != Value.bool true)=true from rfl)]
  refine ab (cG he₄ (by simp) fun h₅ he₅ hs₅=>?_)
  replace hs₅:bH e h₄ h₅:=hs₅
  replace he₅:EnO h₅ e it ((i:Int)+1) old a true:=he₅
  refine aj ?_
  simp only[eh,if_false]
  exact aj ⟨_,rfl,fin h₅ he₅ hs₅⟩
def EnS (h:Heap)(e it:Addr)(i:Nat)(S:Addr):Prop:=(∃old,jC h e it i old) ∨ ∃old a f oa,EnO h e it i old a f/\h.get? a=some oa/\a≠e/\a≠it/\a≠S
theorem EnS.keep {h h':Heap}{e it S:Addr}{i:Nat}(x:EnS h e it i S)(hk:∀b o,b≠S->h.get? b=some o->h'.get? b=some o)(hS:e≠S):EnS h' e it i S:=by
 rcases x with⟨old,he⟩ | ⟨old,a,f,oa,he,ha,h1,h2,h3⟩
 ·exact .inl ⟨old,hk _ _ hS he⟩
 ·exact .inr ⟨old,a,f,oa,hk _ _ hS he,hk _ _ h3 ha,h1,h2,h3⟩
theorem EnS.typeIs {e it S:Addr}{i:Nat}(x:EnS s.heap e it i S):s.TypeIs (.ref e) "enumerate" := by
 rcases x with⟨old,he⟩ | ⟨old,a,f,oa,he,_⟩
 ·exact⟨_,he,rfl⟩
 ·exact⟨_,he,rfl⟩
theorem f1u {e it S:Addr}{fp:List Addr}{n i:Nat}{P:Nat->af->Prop}{St:Nat->Heap->Prop}{Q:Option af->ah->Prop}
  (D:mz prog w A.in1 it fp n P St) (he:EnS s.heap e it i S) (hit:it<s.heap.objs.size) (hS:S<s.heap.objs.size) (hst:St i s.heap) (hlt:i<n) (hne:e≠it) (hef:e∉fp)
  (hQ:∀x h' tk,P i x->EnS h' e it (i+1) S->St (i+1) h' ->
   h'.get? s.heap.objs.size=some {cls:=.type "tuple",data:=.seq #[.int i tk,x]}->h'.objs.size=s.heap.objs.size+1 ->
   (∀b o,b≠e->b≠it->s.heap.get? b=some o->h'.get? b=some o)->Q (some (.ref s.heap.objs.size)) {s with heap:=h',toks:=tk+1}) :
  az (aH prog w) A (en (.ref e)) Q E s:=by
 have hT:s.TypeIs (.ref e) "enumerate" := he.typeIs
 rcases he with⟨old,he⟩ | ⟨old,a,f,oa,he,ha,h1,h2,h3⟩
 ·refine kC D he hst hlt hne hef fun x h' tk hP ho hs ht hz hk=>hQ x h' tk hP (.inr ⟨x,_,false,_,?_,ht,ca (aA he),ca hit,ca hS⟩) hs ht hz hk
  have ec:((i+1:Nat):Int)=(i:Int)+1:=by omega
  rw[ec];exact ho
 ·unfold en
  refine ab (iM (cg (name:=dX "__next__") hT e6
   (b_ e6 hT kA
    (f1v D he ha h1 h2 hst hlt hne hef fun x h' tk hP ho hs ht hz hk=>aj (hQ x h' tk hP (.inr ⟨old,a,true,oa,?_,hk a oa h1 h2 ha,h1,h2,h3⟩) hs ht hz hk)) (ki _))))
  have ec:((i+1:Nat):Int)=(i:Int)+1:=by omega
  rw[ec];exact ho
theorem j1s {e it S:Addr}{fp:List Addr}{n i:Nat}{P:Nat->af->Prop}{St:Nat->Heap->Prop}{Q:Option af->ah->Prop}
  (D:mz prog w A.in1 it fp n P St) (he:EnS s.heap e it i S) (hst:St n s.heap)
  (hQ:∀h',mO it s.heap h'->Q none {s with heap:=h'}):az (aH prog w) A (en (.ref e)) Q E s:=by
 have hT:s.TypeIs (.ref e) "enumerate" := he.typeIs
 rcases he with⟨old,he⟩ | ⟨old,a,f,oa,he,ha,h1,h2,h3⟩
 ·exact kS D he hst hQ
 ·unfold en
  refine ab (iM (cg (name:=dX "__next__") hT e6
   (b_ e6 hT kA ?_ (ki _))))
  show az _ _ (kE (.ref e) 2>>=_) _ _ _
  refine ab (cZ he rfl (x:=.ref it) rfl ?_)
  refine ab (D.done _ _ _ hst fun h' x he' hx'=>?_)
  obtain⟨o,ho,hc⟩:=hx'
  refine ab (gr (T := "StopIteration") (b:=true) ⟨o,ho,hc⟩ jX ?_)
  exact aj (hQ _ he')
end
structure LeG (P:Nat->af->Prop)(lo:Addr)(h:Heap)(as:List Addr):Prop where
 rise:as.Pairwise (· < ·)
 above:∀a∈as,lo<a
 pairs:∀(j:Nat) (a:Addr),as[j]? = some a->∃tk x,P j x/\h.get? a=some {cls:=.type "tuple",data:=.seq #[.int j tk,x]}
theorem LeG.there {P:Nat->af->Prop}{lo:Addr}{h:Heap}{as:List Addr}(g:LeG P lo h as){a:Addr}(ha:a∈as):a<h.objs.size:=by
 obtain⟨j,hj⟩:=List.mem_iff_getElem?.mp ha
 obtain⟨_,_,_,e⟩:=g.pairs j a hj
 exact aA e
section
variable {prog:aO}{w:be}{A:bo}{s:ah}{R:eU->ah->Prop}
theorem j1a {S e it:Addr}{fp:List Addr}{n:Nat}{P:Nat->af->Prop}{St:Nat->Heap->Prop}(D:mz prog w A.in1.in1 it fp n P St)(heS:e<S)(hiS:it<S)(hne:e≠it)(hef:e∉fp)(hSf:S∉fp)(hn:n<=aN)(res:af){h₁:Heap}
  (hR:∀h' tk acc c as,(∀b o,b≠S->b≠e->b≠it->h₁.get? b=some o->h'.get? b=some o)->h'.get? S=some {cls:=.type "list",dict:=none,data:=.seq acc c,slots:=#[]}->as.length=n->LeG P S h' as ->
   acc.toList=as.map Value.ref->R (.ok (.ret res)) {s with heap:=h',toks:=tk}) :
  ∀(k i:Nat) (h:Heap) (tk c:Nat) (acc:Array af) (as:List Addr),n - i=k->i<=n->EnS h e it i S->St i h->(∀b o,b≠S->b≠e->b≠it->h₁.get? b=some o->h.get? b=some o) ->
   h.get? S=some {cls:=.type "list",dict:=none,data:=.seq acc c,slots:=#[]}->acc.toList=as.map Value.ref->as.length=i->LeG P S h as ->
   cc (aH prog w) A (.builtin "list.extend.loop" ⟨[.ref S,.ref e,res],[]⟩) R {s with heap:=h,toks:=tk}:=by
 intro k
 induction k with
 | zero =>
  intro i h tk c acc as hk hi hst hD hkeep hS hacc hal hG
  have hin:i=n:=by omega
  subst hin
  refine gU iZ ?_
  rw[eO de _]
  show az _ A.in1 (en (.ref e)>>=_) _ _ _
  refine ab (j1s (s:={s with heap:=h,toks:=tk}) (A:=A.in1) D hst hD fun h' he=>?_)
  refine aj (hR h' tk acc c as (fun b o h1 h2 h3 e=>he b o h3 (hkeep b o h1 h2 h3 e)) (he S _ (ca hiS) hS) hal ⟨hG.rise,hG.above,fun j a hj=>?_⟩ hacc)
  obtain⟨t,x,e1,e3⟩:=hG.pairs j a hj
  exact⟨t,x,e1,he a _ (ca (c7 hiS (hG.above a (bz hj)))) e3⟩
 | succ k ih =>
  intro i h tk c acc as hk hi hst hD hkeep hS hacc hal hG
  have hlt:i<n:=by omega
  have hsz:acc.size=i:=by rw[<- cn,hacc,aw,hal]
  have hSl:S<h.objs.size:=aA hS
  refine gU iZ ?_
  rw[eO de _]
  show az _ A.in1 (en (.ref e)>>=_) _ _ _
  refine ab (f1u (s:={s with heap:=h,toks:=tk}) (A:=A.in1) (S:=S) D hst (c7 hiS hSl) hSl hD hlt hne hef fun x h' tk' hP hst' hD' ht hz hkp=>?_)
  dsimp only at ht hz hkp ⊢
  have hS':=hkp S _ (ca heS) (ca hiS) hS
  have up:∀b o,b≠S->h'.get? b=some o->(h'.update S (cv (·.push (Value.ref h.objs.size)))).get? b=some o:=fun b o hb e=>(bU _ _ (cM hb)).trans e
  show az _ A.in1 (ir S (·.push (Value.ref h.objs.size))>>=_) _ _ _
  refine ab ?_
  refine eC hS' rfl (aj ⟨gb de _,ih (i+1) _ (tk'+1) _ (acc.push (Value.ref h.objs.size)) (as++[h.objs.size]) (by omega) hlt (hst'.keep up (aR heS)) (D.frame _ _ _ hD' fun b hb o e=>up b o (fun q=>hSf (q▸hb)) e)
   (fun b o h1 h2 h3 e=>up b o h1 (hkp b o h2 h3 (hkeep b o h1 h2 h3 e))) (b6 _ hS' rfl) (by rw[iq,hacc,bp];rfl) (by rw[aJ,hal];rfl) ⟨?_,?_,?_⟩⟩) (by rw[hsz];omega) (by show(acc.push (Value.ref h.objs.size)).size<=aN+1;rw[Array.size_push,hsz];omega)
  ·refine gE.mpr ⟨hG.rise,List.pairwise_singleton _ _,fun a ha b hb=>?_⟩
   rw[aL.mp hb]
   exact hG.there ha
  ·intro a ha
   rcases a7.mp ha with ha | ha
   ·exact hG.above a ha
   ·rw[aL.mp ha];exact hSl
  ·intro j b hj
   rcases cX j as.length with h1 | h1 | h1
   ·rw[a_ h1]at hj
    obtain⟨t,x',e1,e3⟩:=hG.pairs j b hj
    have hb:=hG.above b (bz hj)
    exact⟨t,x',e1,up b _ (ca hb) (hkp b _ (ca (c7 heS hb)) (ca (c7 hiS hb)) e3)⟩
   ·subst h1
    have hb:h.objs.size=b:=by simpa using hj
    subst hb
    exact⟨tk',x,by rw[hal];exact hP,by rw[hal];exact up _ _ (ca hSl) ht⟩
   ·have hnone:(as++[h.objs.size])[j]? = none:=cQ (by rw[aJ,bN];omega)
    rw[hnone]at hj;cases hj
end
theorem v0o:iR (.type "enumerate") "__len__" = pure none:=by rw[gT,e7];kernel_rfl
theorem s0z:iR (.type "enumerate") "__length_hint__" = pure none:=by rw[gT,e7];kernel_rfl
section
variable {prog:aO}{w:be}{A:bo}{E:af->ah->Prop}{s:ah}
theorem j1b {e it:Addr}{fp:List Addr}{n:Nat}{P:Nat->af->Prop}{St:Nat->Heap->Prop}{old:af}{Q:af->ah->Prop}(D:mz prog w A.in1.in1.in1 it fp n P St)(he:jC s.heap e it 0 old)(hit:it<s.heap.objs.size)(hst:St 0 s.heap)(hne:e≠it)(hef:e∉fp)(hfp:∀b∈fp,b<s.heap.objs.size)(hn:n<=aN)
  (hQ:∀h' tk acc c as,(∀b o,b≠e->b≠it->s.heap.get? b=some o->h'.get? b=some o)->h'.get? s.heap.objs.size=some {cls:=.type "list",dict:=none,data:=.seq acc c,slots:=#[]}->as.length=n->LeG P s.heap.objs.size h' as ->
   acc.toList=as.map Value.ref->Q (.ref s.heap.objs.size) {s with heap:=h',toks:=tk}) :
  az (aH prog w) A (call (.type "list") [.ref e]) Q E s:=by
 refine callType_codes (Q₁:=fun obj s₁=>obj = .ref s.heap.objs.size/\s₁={s with heap:=s.heap.push {cls:=.type "list",data:=.seq #[]}}) PySem.F.called_list (PySem.F.typeCall_list_1 _) PySem.F.entry_list_init
  (code_list_new _ ⟨rfl,rfl⟩) fun obj s₁ h₁=>?_
 obtain⟨rfl,rfl⟩:=h₁
 have hel:e<s.heap.objs.size:=aA he
 have hS:(s.heap.push {cls:=.type "list",data:=.seq #[]}).get? s.heap.objs.size=some {cls:=.type "list",data:=.seq #[]}:=aP _ rfl
 have old1:∀b o,s.heap.get? b=some o->(s.heap.push {cls:=.type "list",data:=.seq #[]}).get? b=some o:=fun b o e=>aq _ e
 have lts:∀b o,s.heap.get? b=some o->b≠s.heap.objs.size:=fun b o e=>aR (aA e)
 refine⟨⟨_,hS,rfl⟩,PySem.F.args_list_init_2 _ _,?_⟩
 generalize hS0:s.heap.objs.size=S at hS hit hfp hQ hel lts ⊢
 generalize hh1:s.heap.push {cls:=.type "list",data:=.seq #[]}=hp1 at hS old1 ⊢
 show az _ _ (do let old <- iQ (.ref S);mZ (.ref S) (fun _=>#[]);letGo old.toList.reverse;cy (.ref S) (.ref e) .none) _ _ _
 refine ab ?_
 unfold iQ
 refine ab (hZ hS rfl (aj ?_))
 show az _ _ (ir S (fun _=>#[])>>=fun _=>letGo (#[]:Array af).toList.reverse>>=fun _=>cy (.ref S) (.ref e) .none) _ _ _
 refine ab (eC hS rfl ?_)
 have hS₂:=b6 (cv (fun _=>(#[]:Array af))) hS rfl
 have oth:∀b o,b≠S->hp1.get? b=some o->(hp1.update S (cv (fun _=>(#[]:Array af)))).get? b=some o :=
  fun b o hb e=>(bU _ _ (cM hb)).trans e
 refine ab (wpAny_letGo ?_)
 generalize hp1.update S (cv (fun _=>(#[]:Array af)))=hp2 at hS₂ oth ⊢
 have old2:∀b o,s.heap.get? b=some o->hp2.get? b=some o:=fun b o e=>oth b o (lts b o e) (old1 b o e)
 have he2:jC hp2 e it 0 old:=old2 _ _ he
 have hT2:Shared.TypeIs {s with heap:=hp2} (.ref e) "enumerate" := ⟨_,he2,rfl⟩
 unfold cy
 refine ab (fH hT2 ?_)
 have h1:dN (.ref S) (.ref e)=false:=by simp[dN,ca hel]
 have h2:(Value.type "enumerate" == Value.type "list")=false:=by decide
 have h3:(Value.type "enumerate" == Value.type "tuple")=false:=by decide
 simp only[h1,h2,h3,g9,eh,if_false]
 refine ab (eP he2 ?_)
 refine ab (cU ?_)
 unfold eK
 refine ab (gR hT2 v0o ?_)
 show az _ _ (specialOf (Value.ref e) (dX "__length_hint__")>>=_) _ _ _
 refine ab (gR hT2 s0z ?_)
 refine aj ?_
 show az _ _ (rule "list.extend.makes-room" >>= fun _=>m3 (.ref S)>>=fun _ =>
  kJ (.builtin "list.extend.loop" ⟨[.ref S,.ref e,.none],[]⟩)) _ _ _
 refine ab (cH ?_)
 refine ab ?_
 show az _ _ (ir S (·.push .none)>>=fun _=>ir S (·.pop)) _ _ _
 refine ab (eC hS₂ rfl ?_)
 have hS₃:=b6 (cv (·.push Value.none)) hS₂ rfl
 refine eC (hz:=by seq_fits) hS₃ rfl ?_
 have hS₄:=b6 (cv (·.pop)) hS₃ rfl
 have oth4:∀b o,b≠S->hp2.get? b=some o->((hp2.update S (cv (·.push Value.none))).update S (cv (·.pop))).get? b=some o :=
  fun b o hb e=>(bU _ _ (cM hb)).trans ((bU _ _ (cM hb)).trans e)
 generalize (hp2.update S (cv (·.push Value.none))).update S (cv (·.pop))=hp4 at hS₄ oth4 ⊢
 have old4:∀b o,s.heap.get? b=some o->hp4.get? b=some o:=fun b o e=>oth4 b o (lts b o e) (old2 b o e)
 refine aj ⟨gb de _,?_⟩
 refine j1a (s:=s) (h₁:=s.heap) D hel hit hne hef (fun q=>dH _ (hfp _ q)) hn .none (fun h' tk acc c as hk hS' hl hG hacc=>?_) n 0 hp4 s.toks _ #[] [] (iJ _) (bg _) (.inl ⟨old,old4 _ _ he⟩) (D.frame _ _ _ hst fun b hb o e=>old4 b o e) (fun b o _ _ _ e=>old4 b o e) hS₄ rfl rfl
  ⟨List.Pairwise.nil,(fun _ ha=>nomatch ha),(fun j a hj=>by simp at hj)⟩
 exact⟨rfl,hQ h' tk acc c as (fun b o h1 h2 e=>hk b o (lts b o e) h1 h2 e) hS' hl hG hacc⟩
end
theorem p0a {X:Cx}{pins:List (Addr×Obj)}{σ:St}{s:ah}{H1:Hp}{lo:Addr}(fp:∀b,lo<=b->FpOk X pins H1 b):∀(as:List Addr) (xs:List V) (k:Nat) (H:Hp),Inv X pins σ H s->as.Pairwise (· < ·)->(∀a∈as,lo<=a)->(∀a∈as,H a=none) ->
  (∀j a,as[j]? = some a->∃tk x u,xs[j]? = some x/\RelV x u/\s.heap.get? a=some {cls:=.type "tuple",data:=.seq #[.int ((k+j:Nat):Int) tk,u]}) ->
  ∃H',Inv X pins σ H' s/\Same H H'/\(∀j a,as[j]? = some a->∃x,xs[j]? = some x/\H' a=some (.tup [.int ((k+j:Nat):Int),x]))/\∀b,b∉as->H' b=H b
 | [],xs,k,H,I,_,_,_,_=>⟨H,I,.refl _,(fun j a h=>by simp at h),fun _ _=>rfl⟩
 | a::as,xs,k,H,I,hp,hl,hn,ht=>by
  obtain⟨tk,x,u,ex,ru,eu⟩:=ht 0 a rfl
  have ea:=hn a aX
  have hp':=cR.mp hp
  have ne:∀b∈as,b≠a:=fun b hb=>ca (hp'.1 b hb)
  have I2:=I.trackO (p:=a) (o:=.tup [.int ((k:Nat):Int),x]) ⟨ea,(fp a (hl a aX)).2⟩ ⟨by show 2<=aN;decide,[.int ((k:Nat):Int) tk,u],.cons ⟨_,rfl⟩ (.cons ru .nil),_,eu,rfl,_,rfl⟩
  cases xs with
  | nil=>simp at ex
  | cons x0 xs =>
   simp only[eA,bJ]at ex
   subst ex
   obtain⟨H',J1,J2,J3,J4⟩:=p0a fp as xs (k+1) _ I2 hp'.2 (fun b hb=>hl b (aZ _ hb)) (fun b hb=>by rw[a0x (ne b hb)];exact hn b (aZ _ hb)) (fun j b hj=>by
    obtain⟨tk,x,u,e1,e2,e3⟩:=ht (j+1) b (by simpa using hj)
    exact⟨tk,x,u,by simpa using e1,e2,by rw[show k+1+j=k+(j+1)by omega];exact e3⟩)
   refine⟨H',J1,fun b o e=>J2 b o (by rw[a0x (b0o e ea)];exact e),fun j b hj=>?_,fun b hb=>?_⟩
   ·cases j with
    | zero =>
     simp only[eA,bJ]at hj
     subst hj
     exact⟨x0,rfl,J2 a _ a0z⟩
    | succ j =>
     obtain⟨x,e1,e2⟩:=J3 j b (by simpa using hj)
     exact⟨x,by simpa using e1,by rw[show k+(j+1)=k+1+j by omega];exact e2⟩
   ·have nb:b≠a:=fun z=>hb (z▸aX)
    rw[J4 b (fun z=>hb (aZ _ z)),a0x nb]
def tLsE (K:aa)(t:TA):TE:=fun σ H Q=>t σ H fun vs H1=>∃l xs,vs=[.ref l]/\SqT K H1 l xs/\∀ys H0 p,Same H1 H0->ys.length=xs.length ->
 (∀j x,xs[j]? = some x->∃q,ys[j]? = some (.ref q)/\H1 q=none/\H0 q=some (.tup [.int (j:Nat),x]))->H0 p=none->Q (.ref p) (upd H0 p (.lst ys))
theorem l1u (K:aa){X:Cx}{a:Expr}{ta:TA}{p1 p2 pos1 pos2:Pos}(hc:X.calm=true)(hg1:Gl X "list")(hm1:X.mg "list" = none)(hg2:Gl X "enumerate")(hm2:X.mg "enumerate" = none)(ha:PA X [a] ta)(hK:X.K=K:=by rfl)
  (hs1:bh [.Call (.Name "enumerate" p2) [a] [] pos2] X.env=[(false,eval (.Call (.Name "enumerate" p2) [a] [] pos2) X.env)]:=by rfl) (hs2:bh [a] X.env=[(false,eval a X.env)]:=by rfl) :
  PE X (.Call (.Name "list" p1) [.Call (.Name "enumerate" p2) [a] [] pos2] [] pos1) (tLsE K ta):=by
 subst hK
 intro pins s σ H Q I h
 refine lG (j0m I hg1 hm1 v0x (bX ?_ hs1 rfl))
 rw[hs1]
 show az _ _ (mn [(false,eval (.Call (.Name "enumerate" p2) [a] [] pos2) X.env)]) _ _ s
 refine d8 ?_
 refine lG (j0m I hg2 hm2 i0r (bX (thn (ha pos2 pins s σ H _ I h) fun us s1 ⟨vs,H1,I1,r1,q1⟩=>?_) hs2 rfl))
 obtain⟨l,xs,rfl,h1,q⟩:=q1
 obtain⟨u,rfl,ru⟩:=o0n r1
 cases ru
 obtain⟨its,rv,p1,hz⟩:=I1.tuple h1
 have lt:l<s1.heap.objs.size:=by obtain⟨o,e,_⟩:=id p1;exact aA e
 refine p0x p1 fun h' he hi hsz hk=>fG ?_
 have pt1:h'.IsTuple l its.toArray:=by obtain⟨o,e,r⟩:=p1;exact⟨o,hk _ _ e,r⟩
 have nl:l≠s1.heap.objs.size:=aR lt
 have nel:s1.heap.objs.size+1≠l:=cM (aR (fM lt))
 have ltI:s1.heap.objs.size<h'.objs.size:=by rw[hsz];exact Nat.lt_add_of_pos_right (by decide)
 have e0:jC h' (s1.heap.objs.size+1) s1.heap.objs.size ((0:Nat):Int) .none:=he
 refine j1b (s:={s1 with heap:=h'}) (o0c (show X.A.in1.in1.in1.handled=none from I1.ok.hd hc) s1.heap.objs.size l nl its.toArray) he ltI ⟨hi,pt1⟩ (lA _) (fun z=>by
  simp only[aK,bF,or_false]at z
  rcases z with z | z
  ·exact lA _ z
  ·exact nel z) (fun b hb=>?_) (by rw[aD,<- rv.length];exact hz) fun h2 tk acc c as hk2 hS hl hG hacc=>?_
 ·show b<h'.objs.size
  simp only[aK,bF,or_false]at hb
  rcases hb with rfl | rfl
  ·exact ltI
  ·exact c7 lt ltI
 ·have hle:s1.heap.objs.size<=h'.objs.size:=by omega
  have hS':h2.get? h'.objs.size=some {cls:=.type "list",dict:=none,data:=.seq acc c,slots:=#[]}:=hS
  have le0:∀b,s1.heap.objs.size<=b->FpOk X pins H1 b:=fun b hb=>I1.fpOk hb (I1.hok.fresh hb)
  have I2:Inv X pins σ H1 {s1 with heap:=h'}:=I1.kept (t':=s1.toks) hk
  have I3:Inv X pins σ H1 {s1 with heap:=h2,toks:=tk}:=Inv.turns (s:={s1 with heap:=h'}) (ch:=[s1.heap.objs.size+1,s1.heap.objs.size]) (t':=tk) I2 (fun b o hb e=>by
   simp only[aK,bF,or_false,not_or]at hb
   exact hk2 b o hb.1 hb.2 e) (fun b hb=>le0 b (by
    simp only[aK,bF,or_false]at hb
    rcases hb with rfl | rfl
    ·exact fN _
    ·exact aE _))
  have abv:∀b∈as,h'.objs.size<b:=hG.above
  obtain⟨H0,J1,J2,J3,J4⟩:=p0a (lo:=s1.heap.objs.size) le0 as xs 0 H1 I3 hG.rise (fun b hb=>aW hle (bW (abv b hb))) (fun b hb=>I1.hok.fresh (aW hle (bW (abv b hb)))) (fun j b hj=>by
   obtain⟨t,x,e1,e2⟩:=hG.pairs j b hj
   have e1':its[j]? = some x:=by simpa using e1
   have hjl:j<xs.length:=by rw[rv.length];exact(aI.mp e1').1
   obtain⟨u,hu,ru⟩:=rv.get (ao hjl)
   rw[e1']at hu
   cases hu
   exact⟨t,xs[j],x,ao hjl,ru,by rw[ck];exact e2⟩)
  have nS:h'.objs.size∉as:=fun z=>dH _ (abv _ z)
  have f0:=le0 h'.objs.size (by omega)
  have n0:H0 h'.objs.size=none:=by rw[J4 _ nS];exact f0.1
  have hal:as.length=xs.length:=by rw[hl,aD,<- rv.length]
  have vr:∀l:List Addr,Vals (l.map V.ref) (l.map Value.ref):=fun l=>by
   induction l with
   | nil=>exact .nil
   | cons a l ih=>exact .cons rfl ih
  have I4:=J1.track (D:=h'.objs.size) (ys:=as.map V.ref) (its:=acc.toList) (n:=c) n0 (aW I1.sz (by omega)) f0.2.1 f0.2.2.2.2.1 f0.2.2.2.2.2 (by rw[aw,hal];exact hz) (by rw[hacc];exact vr as) (by simpa using hS')
  refine⟨.ref h'.objs.size,_,I4,rfl,q _ H0 _ J2 (by rw[aw,hal]) (fun j x hx=>?_) n0⟩
  have hj:j<as.length:=by rw[hal];exact(aI.mp hx).1
  obtain⟨x',e1,e2⟩:=J3 j as[j] (ao hj)
  rw[hx]at e1
  cases e1
  rw[ck]at e2
  refine⟨as[j],by rw[aM,ao hj];rfl,I1.hok.fresh (aW hle (bW (abv as[j] (dy hj)))),e2⟩
section
variable {K:aa}{ts:TA}{as:AA}
def aLsE (as:AA):AE:=fun ρ q=>as ρ fun rs ρ1=>match rs with
 | [.d (.tup ds)]=>q (.n (.ow (f0j 0 ds))) ρ1
 | _=>False
theorem w0s {H1 H0:Hp}:∀ {vs:List V} {ds:List D} {ys:List V} {b:Nat},RepDs K H1 vs ds->ys.length=vs.length->(∀j x,vs[j]? = some x->∃q,ys[j]? = some (.ref q)/\H0 q=some (.tup [.int ((b+j:Nat):Int),x]))->(∀a o,H1 a=some o->H0 a=some o)->RepDs K H0 ys (f0j b ds)
 | [],[],ys,b,_,hl,_,_=>by
  cases ys with
  | nil=>exact .nil
  | cons _ _=>simp at hl
 | v::vs,d::ds,ys,b,r,hl,hy,sm=>by
  cases ys with
  | nil=>simp at hl
  | cons y ys =>
   unfold RepDs at r
   obtain⟨q,e1,e2⟩:=hy 0 v rfl
   simp only[eA,bJ]at e1
   subst e1
   refine .cons ?_ (w0s (b:=b+1) r.2 (by simpa using hl) (fun j x hx=>?_) sm)
   ·unfold RepD
    exact⟨q,[.int (b:Nat),v],rfl,e2,.cons (by unfold RepD;rfl) (.cons (r.1.same sm) .nil)⟩
   ·obtain⟨q',e3,e4⟩:=hy (j+1) x (by simpa using hx)
    exact⟨q',by simpa using e3,by rw[show b+1+j=b+(j+1)by omega];exact e4⟩
 | [],_::_,_,_,r,_,_,_=>by unfold RepDs at r;exact r.elim
 | _::_,[],_,_,r,_,_,_=>by unfold RepDs at r;exact r.elim
theorem h1o (h:TAok K ts as):TEok K (tLsE K ts) (aLsE as):=by
 intro F σ ρ H q Q r ha k
 refine h F σ ρ H _ _ r ha fun rs ρ1 vs H1 h1 r1 i1 k1=>?_
 split at h1
 ·rename_i ds
  obtain⟨x,rfl,ix⟩:=i1.one
  have rd:RepD K _ x (.tup ds):=ix
  unfold RepD at rd
  obtain⟨a,vs,rfl,sq,rd⟩:=rd
  refine⟨a,vs,rfl,d0b.seqT sq.sq,fun ys H0 p sm hl hy hp=>?_⟩
  have k0:Kp σ ρ1 ρ1 H1 H0:=⟨fun a o e _=>sm a o e,fun _ h=>h⟩
  have hv:∀ {b},H1 b=none->¬hs F σ ρ1 b:=fun{b} e z=>x0k r1 z e
  refine k (.n (.ow (f0j 0 ds))) ρ1 _ _ h1 ⟨H0,p,_,r1.grow sm,k1.trans k0,rfl,⟨p,ys,rfl,a0z,?_⟩,hp,rfl,rfl⟩
  refine w0s rd hl (fun j x hx=>?_) k0.vis
  obtain⟨q',e1,e2,e3⟩:=hy j x hx
  exact⟨q',e1,i0k (hv e2) (by rw[ck];exact e3)⟩
 ·exact h1.elim
end
section
variable {P:aO}{w:be}{A:bo}{R:eU->ah->Prop}{s:ah}
theorem t0f {kx vx tg iter:Expr}{ifs:List Expr}{scope:cT}{pos:Pos}{it:af}{D:Addr}{env:Env}(J:Nat->ah->Prop)
  (turn:∀n s,J n s->az (aH P w) A (en it) (fun r s1=>match r with
   | none=>R (.ok .next) s1
   | some v=>az (aH P w) A (cE tg it v) (fun _ s2=>az (aH P w) A (dA tg env v) (fun _ s3 =>
     az (aH P w) A (forIn ifs true fun c r=>if r=true then do let ok <- fU c env (eval c env);pure (ForInStep.yield ok)else pure (ForInStep.yield r)) (fun ok s4 =>
      if ok=true then az (aH P w) A (eval kx env) (fun kv s5=>az (aH P w) A (eval vx env) (fun vv s6=>az (aH P w) A (dictSet D kv vv) (fun _ s7=>∃m,m<n/\J m s7) (fun _ _=>False) s6) (fun _ _=>False) s5) (fun _ _=>False) s4
      else ∃m,m<n/\J m s4) (fun _ _=>False) s3) (fun _ _=>False) s2) (fun _ _=>False) s1) (fun _ _=>False) s)
  (n:Nat) (h:J n s):cc (aH P w) A (.compLoop (.DictComp kx vx [⟨tg,iter,ifs,0⟩] scope pos) 0 it (.ref D) env) R s:=by
 have no:∀ {α:Type} {t:Sem α} {Q Q':α->ah->Prop} {E:af->ah->Prop} {s:ah},az (aH P w) A t Q (fun _ _=>False) s->(∀a s,Q a s->Q' a s)->az (aH P w) A t Q' E s :=
  fun h hq=>cP h hq fun _ _ f=>f.elim
 refine gJ rfl J (fun n s hJ=>?_) n h
 show az _ A ((gy (.DictComp kx vx [⟨tg,iter,ifs,0⟩] scope pos) 0 it (.ref D) env).onRaise (fun x=>do gx x env;fC x)) _ _ s
 refine h_ ?_
 rw[compTurn_dict]
 refine ab (b9 (ab (no (turn n s hJ) fun r s1 h1=>?_)))
 cases r with
 | none=>exact aj h1
 | some v =>
  refine ab (no h1 fun _ s2 h2=>ab (no h2 fun _ s3 h3=>ab (no h3 fun ok s4 h4=>?_)))
  cases ok with
  | false=>exact aj ⟨rfl,h4⟩
  | true=>exact ab (ab (no h4 fun x s5 h5=>ab (cU (no h5 fun y s6 h6=>ab (b9 (cU (no h6 fun _ s7 h7=>aj ⟨rfl,h7⟩)))))))
end
def h1g (J:It)(n:Nat)(js:List Nat)(g:TG)(tc:TT)(tk tv:TE)(Q:VK)(σ:St)(H1:Hp):Prop:=∃W:Nat->Nat->List (Key×V)->Hp->Prop,(∃m,W 0 m [] H1)/\∀i m ys H,W i m ys H ->
 (J.stop i H/\ys.length<=aN/\∀l,H l=none->Q (.ref l) (upd H l (.dK ys))) ∨
 (J.go i H/\ys.length<aN/\∃N:List (Key×V)->Hp->Prop,(∀zs H',N zs H'->∃m',m'<m/\W (i+1) m' zs H')/\∀x H',J.yld i H x H'->g x (bst n σ js) H' fun σ2 H2=>σ2.drop n=capt σ js/\tc σ2 H2 fun b H3 =>
  if b=true then tk σ2 H3 fun kv H4=>tv σ2 H4 fun v H5=>∃k,kv=kV k/\N (putK ys k v) H5 else N ys H3)
def r0v (n:Nat)(js:List Nat)(wi:TI)(g:TG)(tc:TT)(tk tv:TE):TE:=fun σ H Q=>wi σ H fun J H1=>h1g J n js g tc tk tv Q σ H1
section
variable {X:Cx}
theorem o0g {kx vx tg iter:Expr}{ifs:List Expr}{scope:cT}{pos:Pos}{own:List Str}{js:List Nat}{g:TG}{tc:TT}{tk tv:TE}{Q:VK}{pins:List (Addr×Obj)}{σ:St}{s2:ah}{itv:af}{E:af->ah->Prop}
  {RR:af->Addr->eU->ah->Prop} (hc:X.calm=true) (B:Blk X scope own js) (hg:∀s H C fp,(own++capN X.N js).Nodup->PG (blk X scope (own++capN X.N js) s H C fp) tg g) (ht:∀s H C fp,PTs (blk X scope (own++capN X.N js) s H C fp) ifs tc)
  (hk:∀s H C fp,PE (blk X scope (own++capN X.N js) s H C fp) kx tk) (hv:∀s H C fp,PE (blk X scope (own++capN X.N js) s H C fp) vx tv)
  (h:PIE X pins σ tg (fun J H1=>h1g J own.length js g tc tk tv Q σ H1) itv s2)
  (hR:∀C acc s',d1t X pins σ Q C acc s'->RR acc C (.ok .next) s') :
  az (aH X.prog X.w) X.A newDict (fun acc s3=>az (aH X.prog X.w) X.A (ib scope X.env.globals (e0f scope X.env) [] X.env.qual none .none (some X.env)) (fun cenv s4 =>
   cc (aH X.prog X.w) X.A (.compStart (.DictComp kx vx [⟨tg,iter,ifs,0⟩] scope pos) 0 itv acc {cenv with scope:=iu scope X.env}) (RR acc cenv.locals) s4) E s3) E s2:=by
 obtain⟨it,fp,tn,J,H2,rfl,I2,T,st2,f2,W,⟨m0,w0⟩,turn⟩:=h
 refine bL (ft B.nocell (by intro y hy;simp at hy) (fun h1 hns1 hsb1=>?_) B.kind)
 have hnew:(s2.heap.push {cls:=.type "dict",dict:=none,data:=.dict #[]}).DictOf (c0f X.prog X.w) s2.heap.objs.size []:=jS s2.heap
 generalize hPu:s2.heap.push {cls:=.type "dict",dict:=none,data:=.dict #[]}=Pu at hns1 hsb1 hnew ⊢
 dsimp only at hns1 hsb1 ⊢
 have hDC:Pu.objs.size=s2.heap.objs.size+1:=by rw[<- hPu,cf]
 have hbig:=I2.big
 generalize hD:s2.heap.objs.size=D at hDC hnew hbig ⊢
 generalize hC:Pu.objs.size=C at hns1 hsb1 hDC ⊢
 have ltDC:D<C:=by rw[hDC];exact c9 D
 have neDC:D≠C:=aR ltDC
 have keep1:∀b o,s2.heap.get? b=some o->h1.get? b=some o:=fun b o e=>by
  have hb:b<D:=by rw[<- hD];exact aA e
  have hb2:b≠C:=aR (c7 hb ltDC)
  refine(hsb1.2 b hb2).trans (aq _ ?_)
  rw[<- hPu]
  exact aq _ e
 have gD1:h1.DictOf (c0f X.prog X.w) D []:=hnew.at fun o e=>(hsb1.2 D neDC).trans (aq _ e)
 have szD:s2.heap.objs.size<=D:=fA hD
 have szC:s2.heap.objs.size<=C:=aW szD (bW ltDC)
 have old:∀ {b:Addr},b<s2.heap.objs.size->b≠D/\b≠C:=fun hb=>⟨aR (aU hb szD),aR (aU hb szC)⟩
 have fpo:∀b∈fp,∃o,s2.heap.get? b=some o:=fun b hb=>let ⟨o,e,_⟩:=T.obj 0 _ st2 b hb;⟨o,e⟩
 have fpD:∀b∈fp,b≠D/\b≠C:=fun b hb=>by
  obtain⟨o,e⟩:=fpo b hb
  exact old (aA e)
 have clD:∀x d,X.env.cells.lookup x=some d->d≠D/\d≠C:=fun x d e=>by
  obtain⟨v,o,ho,_⟩:=I2.cell x d e
  exact old (aA ho)
 have pinD:∀p∈X.pn++pins,p.1≠D/\p.1≠C:=fun p hp=>by
  exact old (aA (I2.pin p hp).1)
 have locD:D≠X.env.locals/\C≠X.env.locals:=by
  exact⟨(old I2.lt).1.symm,(old I2.lt).2.symm⟩
 let Y:=blk X scope (own++capN X.N js) s2 H2 C fp
 have IB:Inv Y [] (bst own.length σ js) H2 {s2 with heap:=h1,toks:=s2.toks+([]:List (Str×af)).length}:=r0p B I2 f2 fpo szC hns1 keep1
 have fpB:∀ {H':Hp} {pl:List (Addr×Obj)},(∀b∈fp,H' b=none)->(∀p∈pl,p.1=D)->∀b∈fp,FpOk Y pl H' b:=fun{H' pl} hn hp b hb=>by
  obtain⟨f0,f1,f3,f4,f5,f6⟩:=f2 b hb
  refine⟨hn b hb,(fpD b hb).2,fun z=>?_,.inl hb,fun x c e=>f5 x c (d0h e),fun p q=>?_⟩
  ·rcases aK.mp (I2.stkSub b z)with z | z
   ·exact f1 z
   ·exact f3 z
  ·have q':p∈pl:=by simpa [Y,blk] using q
   rw[hp p q']
   exact(fpD b hb).1.symm
 have clB:∀x d,Y.env.cells.lookup x=some d->d≠D:=fun x d e=>(clD x d (d0h e)).1
 have notFs:D∉Y.fs:=fun z=>by
  obtain⟨_,o,ho,_⟩:=IB.ok.funs.mem z
  exact(old (aA (show s2.heap.get? D=some o from ho))).1 rfl
 have loop:∀s3:ah,s3={s2 with heap:=h1,toks:=s2.toks+([]:List (Str×af)).length} ->
   cc (aH X.prog X.w) X.A (.compLoop (.DictComp kx vx [⟨tg,iter,ifs,0⟩] scope pos) 0 (.ref it) (.ref D) (jZ scope (e0f scope X.env) C X.env)) (RR (.ref D) C) s3:=by
  rintro s3 rfl
  refine t0f (fun n s'=>∃(i:Nat) (ys:List (Key×V)) (vs:List (Key×af)) (H':Hp),Inv Y [] (bst own.length σ js) H' s'/\tn i s'.heap/\(∀b∈fp,H' b=none)/\H' D=none/\KV ys vs /\
   s'.heap.DictOf (c0f X.prog X.w) D vs/\W i n ys H') ?_ m0 ⟨0,[],[],H2,IB,T.keep 0 _ _ st2 (fun b hb o e=>keep1 b o e),fun b hb=>(f2 b hb).1,I2.hok.fresh szD,.nil,gD1,w0⟩
  rintro n s3 ⟨i,ys,vs,H3,I3,st3,fr3,hD3,r3,g3,w3⟩
  obtain⟨od,ho3,hdd⟩:=i_.mp g3
  have dat3:∀ {h:Heap},h.get? D=some od->h.DictOf (c0f X.prog X.w) D vs:=fun e=>i_.mpr ⟨od,e,hdd⟩
  have ncell:∀v,od.data ≠ .cell v:=fun v z=>by
   obtain⟨o,es,ep,ho,hcl,hda,_⟩:=g3
   rw[ho3]at ho;cases ho;rw[hda]at z;cases z
  have I3p:Inv Y [(D,od)] (bst own.length σ js) H3 s3:=I3.pins_of fun p hp=>by
   have e:p=(D,od):=by simpa using hp
   subst e
   exact⟨ho3,hD3,neDC,notFs,ncell⟩
  have f3:∀b∈fp,FpOk Y [(D,od)] H3 b:=fpB fr3 fun p hp=>by
   have e:p=(D,od):=by simpa using hp
   rw[e]
  rcases turn i n ys H3 w3 with⟨stop,hz,qn⟩ | ⟨go,hz,N,hN,step⟩
  ·refine thn (T.done Y rfl rfl rfl hc i _ s3 _ H3 (fun _ _=>False) I3p f3 st3 stop) fun r s4 ⟨hr,I4⟩=>?_
   subst hr
   refine hR C _ s4 ?_
   have g4:=(I4.pin (D,od) (by simp[Y,blk])).1
   obtain⟨m,hn4,_⟩:=id I4.loc
   have un:Un (frs X.stack) fp H2 H3 s2.heap s4.heap:=I4.base
   have I5:Inv X pins σ H3 s4:=I2.call' I4.os un I4.hok I4.bare fun b hb=>let ⟨_,b1,_,b3,b4,b5⟩:=f2 b hb;⟨b3,b1,b4,b5⟩
   have I6:=I5.trackO (p:=D) (o:=.dK ys) (I2.fpOk szD hD3) (t0b hz (beq_eq_false_iff_ne.mpr (cM (aR hbig))) r3 (dat3 g4))
   refine⟨D,_,m,rfl,hn4,I6,?_,aW I2.sz szC,locD.2,fun x d e=>(clD x d e).2,fun p hp=>(pinD p hp).2,qn D hD3⟩
   rw[a0x (cM neDC)]
   exact I4.free
  ·refine thn (T.item Y rfl rfl rfl hc i _ s3 _ H3 (fun _ _=>False) I3p f3 st3 go) fun r s4 ⟨u,hr,h4⟩=>?_
   subst hr
   refine thn h4 fun _ s5 ⟨x,H5,I5,r5,y5,st5,fr5⟩=>?_
   have f5:∀b∈fp,FpOk Y [(D,od)] H5 b:=fun b hb=>⟨fr5 b hb,(f3 b hb).2⟩
   have I5':=I5.pinned f5 (T.obj _ _ st5)
   refine thn (hg s2 H2 C fp B.nd _ s5 _ H5 x u _ I5' r5 (step x H5 y5)) fun _ s6 ⟨σ6,H6,I6,d6,q6⟩=>?_
   refine thn (ht s2 H2 C fp _ s6 σ6 H6 _ I6 q6) fun ok s7 ⟨H7,I7,q7⟩=>?_
   have after:∀ {s8:ah} {H8:Hp},Inv Y ([(D,od)]++h0u fp s5.heap) σ6 H8 s8 ->
     s8.heap.get? D=some od/\H8 D=none/\tn (i+1) s8.heap/\(∀b∈fp,H8 b=none)/\Inv Y [] (bst own.length σ js) H8 s8:=fun{s8 H8} I8=>by
    have p8:=I8.pin (D,od) (by simp[Y,blk])
    refine⟨p8.1,p8.2.1,T.keep _ _ _ st5 fun b hb o e=>(I8.pin (b,o) (ar _ (ar _ (c0x hb e)))).1,fun b hb=>?_,?_⟩
    ·obtain⟨o,e,_⟩:=T.obj _ _ st5 b hb
     exact(I8.pin (b,o) (ar _ (ar _ (c0x hb e)))).2.1
    ·refine(I8.pins_of (pins':=[]) fun p hp=>absurd hp (by simp[Y,blk])).weak ?_ fun j v e=>?_
     ·rw[I8.len,h0o]
      show _=(own++capN X.N js).length
      unfold capN
      simp
     ·rcases bf j own.length with z | z
      ·exfalso
       unfold bst at e
       rw[a_ (by simpa using z),bP]at e
       split at e <;> cases e
      ·unfold bst at e
       rw[bx (by simpa using z),cx,<- d6,bw]at e
       rw[<- e]
       congr 1
       omega
   cases ok with
   | false =>
    rw[if_neg bn]at q7 ⊢
    obtain⟨m',hm,w7⟩:=hN _ _ q7
    obtain⟨a1,a2,a3,a4,a5⟩:=after I7
    exact⟨m',hm,i+1,ys,vs,H7,a5,a3,a4,a2,r3,dat3 a1,w7⟩
   | true =>
    rw[if_pos rfl]at q7 ⊢
    refine thn (hk s2 H2 C fp _ s7 σ6 H7 _ I7 q7) fun u8 s8 ⟨v8,H8,I8,r8,n8⟩=>?_
    refine thn (hv s2 H2 C fp _ s8 σ6 H8 _ I8 n8) fun u9 s9 ⟨v9,H9,I9,r9,kk,ek,n9⟩=>?_
    subst ek
    obtain⟨m',hm,w9⟩:=hN _ _ n9
    obtain⟨a1,a2,a3,a4,a5⟩:=after I9
    have hvz:vs.length<=aN:=by rw[<- r3.length];exact bW hz
    refine wpAny_dictSet_pairs (hsz:=hvz) (s0s r8) (dat3 a1) fun h' dd' hs'=>?_
    have sb:bH D s9.heap h':=hs'
    have I10:=(Inv.young a5 sb a2 szD neDC clB (fun p hp=>absurd hp (by show p∉[]++[];simp))).tok (s9.toks+1)
    exact⟨m',hm,i+1,putK ys kk v9,jy vs kk u9,H9,I10,T.keep _ _ _ a3 (fun b hb o e=>(sb.2 b (fpD b hb).1).trans e),a4,a2,r3.put kk r9,dd',w9⟩
 exact codeAny_compStart_dict (loop _ rfl) (T.self _ 0 _ _ _ (T.keep 0 _ _ st2 fun b hb o e=>keep1 b o e) (loop _ rfl))
theorem w0v {kx vx tg iter:Expr}{ifs:List Expr}{scope:cT}{pos pos' spos:Pos}{i:Nat}{x:Str}(own:List Str)(js:List Nat){wi:TI}{g:TG}{tc:TT}{tk tv:TE}(hN:X.N.Nodup)(hi:X.N[i]? = some x)(hx:Loc X.env.scope x)
  (hc:X.calm=true) (B:Blk X scope own js) (hit:PI X tg iter wi)
  (hg:∀s H C fp,(own++capN X.N js).Nodup->PG (blk X scope (own++capN X.N js) s H C fp) tg g) (ht:∀s H C fp,PTs (blk X scope (own++capN X.N js) s H C fp) ifs tc) (hk:∀s H C fp,PE (blk X scope (own++capN X.N js) s H C fp) kx tk) (hv:∀s H C fp,PE (blk X scope (own++capN X.N js) s H C fp) vx tv)
  (hf:X.fn x=true∨X.env.scope.names.lookup x=some .local:=by first | exact .inl rfl | exact .inr rfl | assumption)
  (hw:gu (.DictComp kx vx [⟨tg,iter,ifs,0⟩] scope pos) (some (.Name x pos')) spos.line X.env=pure true:=by rfl)
  (hs:∀x,cb iter X.env x=pure x:=by intro _;rfl) :
  PS X (.Assign [.Name x pos'] (.DictComp kx vx [⟨tg,iter,ifs,0⟩] scope pos) spos) (fun D σ H=>r0v own.length js wi g tc tk tv σ H fun v H'=>D.nx (σ.set i (some v)) H'):=by
 intro pins s σ H D I h
 have hcl:e_ scope X.env=pure (e0f scope X.env):=d0x fun x hx hf=>I.ok.has x.1 (B.free x hx hf)
 rw[gV _ _ _ _ hw]
 refine ab (b9 (ab ?_))
 show az _ X.A (do let _ <- gf (.DictComp kx vx [⟨tg,iter,ifs,0⟩] scope pos) scope X.env _ newDict false (eval iter X.env) (some (dA (.Name x pos') X.env))) _ _ s
 refine ab (thn (Q:=fun _ s'=>SP X pins D .next s') (cV (use:=some (dA (.Name x pos') X.env)) rfl hs hcl B.kind B.names (thn (hit pins s σ H _ I h) fun v s1 h1=>thn h1 fun itv s2 h2=>?_)) fun _ s' q=>aj (aj q))
 refine o0g (Q:=fun v H'=>D.nx (σ.set i (some v)) H') (RR:=fun acc C=>jd (aH X.prog X.w) X.A X.xe (some (dA (.Name x pos') X.env)) (fun _ s'=>SP X pins D .next s') acc C) hc B hg ht hk hv h2 fun C acc s' hb=>?_
 obtain⟨l,H',m,rfl,hn,I',c1,c2,c3,c4,c5,q⟩:=hb
 show az _ X.A (dA (.Name x pos') X.env (.ref l)) _ _ _
 refine f8 (k0b (v:=.ref l) I' hN hi hx rfl (fun s3 I3 ⟨a,sb,ha⟩=>?_) hf)
 have ne:C≠a:=by
  rcases ha with z | z
  ·rw[z];exact c3
  ·exact(c4 x a z).symm
 exact⟨m,hn.sameBut sb ne,fun h' hs'=>⟨_,H',I3.young hs' c1 c2 c3 c4 c5,q⟩⟩
end
def h0z (n:Nat)(js:List Nat)(c:En->Prop)(g:AG)(tc:AT)(ak av:AE)(q:List (Key×D)->En->Prop):List D->List (Key×D)->En->Prop
 | [],acc,ρ=>c ρ/\q acc ρ
 | d::ds,acc,ρ=>c ρ/\g d (blkE n js ρ) fun ρ1=>tc ρ1 fun b ρ2=>if b=true then ak ρ2 fun rk ρ3=>av ρ3 fun r ρ4=>sto [r.frz] ρ4 fun es ρ5=>(match rk,es with
   | .d kd,[e]=>(match dKey kd with
    | some k=>h0z n js c g tc ak av q ds (putD acc k e) (back ρ (js.map R.o) (ρ5.drop n))
    | none=>False)
   | _,_=>False)else h0z n js c g tc ak av q ds acc (back ρ (js.map R.o) (ρ2.drop n))
def n1l (n:Nat)(js:List Nat)(i:AI)(g:AG)(tc:AT)(ak av:AE):AE:=fun ρ q=>i ρ fun ds c ρ1=>ds.length<=1000000/\h0z n js c g tc ak av (fun acc ρ2=>q (.n (.dk acc)) ρ2) ds [] ρ1
theorem j0b {κ:Type} [DecidableEq κ](kvs:List (κ×D))(k:κ)(d:D):(putD kvs k d).length<=kvs.length+1:=by
 unfold putD
 split
 ·simp
 ·simp
section
variable {K:aa}
theorem m0z {n:Nat}{js:List Nat}{wi:TI}{g:TG}{tc:TT}{tk tv:TE}{ai:AI}{ag:AG}{atc:AT}{ak av:AE}(hi:TIok K (fun _=>true) wi ai)(hg:TGok K (fun j=>decide (n<=j)) g ag)(hc:TTok K tc atc)(hk:TEok K tk ak)(hv:TEok K tv av)
  (hd:dis (js.map R.o)=true:=by rfl):TEok K (r0v n js wi g tc tk tv) (n1l n js ai ag atc ak av):=by
 intro F σ ρ H q Q r h k
 refine hi F σ ρ H _ _ r h fun ds c ρ1 J H1 h1 r1 k1 wk=>?_
 obtain⟨hz,h1⟩:=h1
 have hd':dis (blkR n js)=true:=by rw[k0z];exact hd
 refine⟨fun i m ys H'=>∃ ρ' acc,m=ds.length - i/\i<=ds.length/\Rel K F σ ρ' H'/\Kp σ ρ1 ρ' H1 H'/\ys.map a8=acc.map a8/\RepDs K (hid H' (hs F σ ρ')) (ys.map bt) (acc.map bt)/\acc.length<=i/\h0z n js c ag atc ak av (fun acc ρ2=>q (.n (.dk acc)) ρ2) (ds.drop i) acc ρ',⟨ds.length,ρ1,[],rfl,bg _,r1,.refl,rfl,.nil,bg _,h1⟩,?_⟩
 rintro i m ys H' ⟨ρ',acc,rfl,hl,r',k',rk,rd,al,h'⟩
 have w:c ρ'->WkAt K (hs F σ ρ') H' J ds:=fun hc=>wk σ ρ' H' k'.vis r'.sl (fun _ _ _ e=>e) (fun a z=>z0a r' z) hc
 have yl:ys.length=acc.length:=k0s rk
 rcases bf i ds.length with lt | ge
 ·right
  rw[br lt]at h'
  unfold h0z at h'
  obtain⟨hcc,h'⟩:=h'
  obtain⟨go,yld⟩:=(w hcc i).1 ds[i] (ao lt)
  refine⟨go,p0d (by omega),fun zs H2=>∃ ρ2 acc2,Rel K F σ ρ2 H2/\Kp σ ρ1 ρ2 H1 H2/\zs.map a8=acc2.map a8/\RepDs K (hid H2 (hs F σ ρ2)) (zs.map bt) (acc2.map bt)/\acc2.length<=i+1/\h0z n js c ag atc ak av (fun acc ρ2=>q (.n (.dk acc)) ρ2) (ds.drop (i+1)) acc2 ρ2,
   fun zs H2 ⟨ρ2,acc2,a1,a2,a3,a3',a4,a5⟩=>⟨ds.length - (i+1),by omega,ρ2,acc2,rfl,lt,a1,a2,a3,a3',a4,a5⟩,fun x H2 hy=>?_⟩
  obtain⟨sm,rx⟩:=yld x H2 hy
  have r0':=r'
  have k':Kp σ ρ1 ρ' H1 H2:=k'.trans ⟨fun a o e _=>sm a o e,fun _ h=>h⟩
  have rd:RepDs K (hid H2 (hs F σ ρ')) (ys.map bt) (acc.map bt):=rd.same (b0v fun a o e n=>⟨sm a o e,n⟩)
  have r':=r0'.grow sm
  have src:=m0u (K:=K) (F:=F) (σ:=σ) (ρ:=ρ') (H:=H2) n js
  have rb:=r'.sub src hd'
  have hs2:=r0w r' src
  rw[b0w]at rb hs2
  have pin:∀i a,(f0m F σ ρ' H2 (bst n σ js) (blkE n js ρ')).pin i a->decide (n<=i)=true:=fun i a h=>by
   rcases h with h | h
   ·exact decide_eq_true (m0v h.1)
   ·exact h.elim
  have hlen:(bst n σ js).length=n+js.length:=h0o
  have ret:∀ σ2 ρ2 H3,Rel K (f0m F σ ρ' H2 (bst n σ js) (blkE n js ρ')) σ2 ρ2 H3->σ2.length=(bst n σ js).length->σ2.drop n=capt σ js->(∀i,(gt ρ2 i).own=true->(gt (blkE n js ρ') i).own=true) ->
    Rel K F σ (back ρ' (js.map R.o) (ρ2.drop n)) H3/\Kp σ ρ' (back ρ' (js.map R.o) (ρ2.drop n)) H2 H3/\Same (hid H3 (hs (f0m F σ ρ' H2 (bst n σ js) (blkE n js ρ')) σ2 ρ2)) (hid H3 (hs F σ (back ρ' (js.map R.o) (ρ2.drop n)))):=fun σ2 ρ2 H3 rr hlen2 hdrop hown=>by
   obtain⟨f1,f2⟩:=rr.forget (n:=n) (by omega) fun i a h=>of_decide_eq_true (pin i a h)
   rw[hdrop]at f1 f2
   have f1':Rel K (f0m F σ ρ' H2 (bst n σ js) ((blkR n js).map (e0n ρ'))) (bst n σ js) (aG n .un++ρ2.drop n) H3:=by rw[b0w];exact f1
   have bk:=r'.back src hd' f1' fun i hi=>by
    rw[b0w]
    rw[o0b]at hi
    split at hi
    ·cases hi
    ·rename_i hni
     rw[j0w,show n+(i - n)=i by omega]at hi
     exact hown i hi
   have ln:(aG n Sv.un++ρ2.drop n).length=n+js.length:=by
    have:=rr.len
    simp;omega
   rw[l0a js ρ' n _ ln,dq (by simp),b0w]at bk
   exact⟨bk.1,bk.2.1,f2.trans bk.2.2⟩
  refine hg _ (bst n σ js) (blkE n js ρ') H2 x _ _ _ pin rb (by rw[hs2];exact rx) h' fun σ2 ρ2 h2 r2 l2 p2 o2=>?_
  have hdrop:σ2.drop n=capt σ js:=by
   have:σ2.drop n=(bst n σ js).drop n:=by
    apply cW
    intro i
    rw[bw,bw]
    exact p2 (n+i) (decide_eq_true (by omega))
   rw[this]
   unfold bst
   rw[dq (by simp)]
  refine⟨hdrop,hc _ σ2 ρ2 H2 _ _ r2 h2 fun b ρ3 H3 h3 r3 k3=>?_⟩
  cases b with
  | false =>
   obtain⟨b1,b2,_⟩:=ret σ2 ρ3 H3 r3 l2 hdrop fun i hi=>(o2 i (k3.sb i hi)).1
   exact⟨_,acc,b1,k'.trans b2,rk,rd.same b2.vis,by omega,h3⟩
  | true =>
   refine hk _ σ2 ρ3 H3 _ _ r3 h3 fun r4 ρ4 v4 H4 h4 o4=>?_
   obtain⟨r4',k4,i4⟩:=o4.inF
   refine hv _ σ2 ρ4 H4 _ _ r4' h4 fun r6 ρ6 v6 H6 h6 o6=>?_
   obtain⟨r6',k6,i6⟩:=o6.inF
   obtain⟨d,ρ5,h5,r5,k5,rv⟩:=t0y r6' i6 h6
   split at h5
   ·rename_i kd e0 ee
    cases ee
    split at h5
    ·rename_i kk ek
     obtain⟨b1,b2,b3⟩:=ret σ2 ρ5 H6 r5 l2 hdrop fun i hi=>(o2 i (k3.sb i (k4.sb i (k6.sb i (k5.sb i hi))))).1
     obtain⟨p1,p2⟩:=q0m kk (rv.same b3) rk (rd.same b2.vis)
     exact⟨kk,c1b i4 ek,_,putD acc kk d,b1,k'.trans b2,p1,p2,by have:=j0b acc kk d;omega,h5⟩
    ·exact h5.elim
   ·exact h5.elim
 ·left
  rw[bE ge]at h'
  unfold h0z at h'
  obtain⟨hcc,h'⟩:=h'
  refine⟨(w hcc i).2 ge,small (by omega),fun l hl'=>?_⟩
  exact k (.n (.dk acc)) ρ' _ _ h' ⟨H',l,_,r',k1.trans k',rfl,⟨l,ys,rfl,a0z,rk,rd⟩,hl',rfl,rfl⟩
theorem r0x {pr:Nat->Bool}{ae:AE}{i n:Nat}{js:List Nat}{wi:TI}{g:TG}{tc:TT}{tk tv:TE}(h:TEok K (r0v n js wi g tc tk tv) ae)(hi:pr i=false):TSok K pr (fun D σ H=>r0v n js wi g tc tk tv σ H fun v H'=>D.nx (σ.set i (some v)) H') (aSet i ae):=w0p hi h
end
theorem l0s {n:Nat}{js:List Nat}{c:En->Prop}{g:AG}{tc:AT}{ak av:AE}{q:List (Key×D)->En->Prop}(I:Nat->List (Key×D)->En->Prop){ds:List D}(hc:∀k acc ρ,k<=ds.length->I k acc ρ->c ρ)
  (hs:∀(k:Nat) d acc ρ (N:List (Key×D)->En->Prop),ds[k]? = some d->I k acc ρ->(∀acc' ρ',I (k+1) acc' ρ'->N acc' ρ') ->
   g d (blkE n js ρ) fun ρ1=>tc ρ1 fun b ρ2=>if b=true then ak ρ2 fun rk ρ3=>av ρ3 fun r ρ4=>sto [r.frz] ρ4 fun es ρ5=>(match rk,es with
   | .d kd,[e]=>(match dKey kd with
    | some k=>N (putD acc k e) (back ρ (js.map R.o) (ρ5.drop n))
    | none=>False)
   | _,_=>False)else N acc (back ρ (js.map R.o) (ρ2.drop n)))
  (hd:∀acc ρ,I ds.length acc ρ->q acc ρ):∀ ρ,I 0 [] ρ->h0z n js c g tc ak av q ds [] ρ:=by
 have go:∀(es:List D) (k:Nat),ds.drop k=es->k<=ds.length->∀acc ρ,I k acc ρ->h0z n js c g tc ak av q es acc ρ:=by
  intro es
  induction es with
  | nil =>
   intro k h hk acc ρ i
   have:ds.length<=k:=eZ.mp h
   have:k=ds.length:=by omega
   subst this
   unfold h0z
   exact⟨hc _ acc ρ (aE _) i,hd acc ρ i⟩
  | cons d es ih =>
   intro k h hk acc ρ i
   have lt:k<ds.length:=by
    rcases bf k ds.length with q | q
    ·exact q
    ·rw[bE q]at h;cases h
   rw[br lt]at h
   injection h with h1 h2
   unfold h0z
   exact⟨hc k acc ρ hk i,hs k d acc ρ (fun acc' ρ'=>h0z n js c g tc ak av q es acc' ρ') (by rw[<- h1];exact ao lt) i (fun acc' ρ' i'=>ih (k+1) h2 lt acc' ρ' i')⟩
 exact go ds 0 rfl (bg _) []
def kD:Key->D
 | .inl i=>.int i
 | .inr x=>.str x
theorem m1n {K:aa}{H:Hp}(k:Key):RepD K H (kV k) (kD k):=by
 cases k with
 | inl i=>unfold RepD;rfl
 | inr x=>unfold RepD;rfl
def Itk (a:Addr)(ob:Obj)(ks:List Key):It :=
 ⟨fun i H=>(∃u,H a=some (.frz ob u))/\i<ks.length,fun i H v H'=>H'=H/\∃k,ks[i]? = some k/\v=kV k,fun i H=>(∃u,H a=some (.frz ob u))/\ks.length<=i⟩
theorem m1m {P:aO}{w:be}{k:Key}{u:af}(h:(c0f P w).is k u=true):RelV (kV k) u:=by
 rcases d0a (k:=k) (v:=u) h with⟨i,t,rfl,rfl⟩ | ⟨x,t,rfl,rfl⟩
 ·exact⟨t,rfl⟩
 ·exact⟨t,rfl⟩
theorem z0t {P:aO}{w:be}{K:aa}{tg:Expr}{it a:Addr}{ob:Obj}{ks:List Key}{kv:List (Key×af)}{ep:Nat}(rv:ks=kv.map a8)(ne:a≠it)(hob:∀h:Heap,h.get? a=some ob->h.DictAt (c0f P w) a kv ep) :
  Turn P w K tg (Itk a ob ks) [it] it (fun i h=>h.IsKeyIter it a i kv.length ep) where
 mem:=by simp
 obj:=fun i h st b hb=>by
  obtain⟨o1,e1,c1,d1⟩:=st
  rw[aL.mp hb]
  exact⟨o1,e1,fun v q=>by rw[d1]at q;cases q⟩
 keep:=fun i h h' st k=>st.at fun o q=>k it (by simp) o q
 item:=by
  intro X hP hw hK hc i pins s σ H E I hf st hg
  subst hP hw hK
  obtain⟨⟨u,hu⟩,hi⟩:=hg
  have ha:s.heap.get? a=some ob:=(show d0y X.prog X.w H s.heap a (.frz ob u)from I.hok a _ hu).1
  have hl:ks.length=kv.length:=by rw[rv,aw]
  obtain⟨⟨kk,x⟩,hx⟩:∃p,kv[i]? = some p:=⟨kv[i],ao (by omega)⟩
  have hx':ks[i]? = some kk:=by rw[rv,aM,hx];rfl
  refine wpAny_pyNext_dict_item st (hob _ ha) hx fun key h' hkey hit' hs'=>?_
  obtain⟨o1,e1,c1,d1⟩:=id hit'
  refine⟨_,rfl,c1h e1 c1 d1 (by decide) ?_⟩
  refine⟨kV kk,H,I.turns (ch:=[it]) (t':=s.toks) (fun b o hb q=>hs'.extBut b o (fun z=>hb (by simp[z])) q) hf,m1m hkey,⟨rfl,kk,hx',rfl⟩,hit',fun b hb=>(hf b hb).1⟩
 done:=by
  intro X hP hw hK hc i pins s σ H E I hf st hg
  subst hP hw hK
  obtain⟨⟨u,hu⟩,hi⟩:=hg
  have ha:s.heap.get? a=some ob:=(show d0y X.prog X.w H s.heap a (.frz ob u)from I.hok a _ hu).1
  have hl:ks.length=kv.length:=by rw[rv,aw]
  refine wpAny_pyNext_dict_end (I.ok.hd hc) st (hob _ ha) (by rw[cQ (by omega)]) fun h' he'=>⟨rfl,I.turns (ch:=[it]) (t':=s.toks) (fun b o hb q=>he' b o (fun z=>hb (by simp[z])) q) hf⟩
 self:=fun _ _ _ _ _ st h=>wpAny_pyIter_keyiter st h
def m1v (td:TE):TI:=fun σ H R=>td σ H fun x H1=>∃a kvs,x = .ref a/\H1 a=some (.dK kvs)/\∀ob,R (Itk a ob (kvs.map a8)) (upd H1 a (.frz ob (.dK kvs)))
theorem j1d {kvs:List (Key×V)}{vs:List (Key×af)}(h:KV kvs vs):kvs.map a8=vs.map a8:=by
 induction h with
 | nil=>rfl
 | cons a _ ih=>simp only[aT,ih,a.1]
theorem i1f {X:Cx}{tg o:Expr}{td:TE}(ho:PE X o td):PI X tg o (m1v td):=by
 intro pins s σ H R I h
 refine thn (ho pins s σ H _ I h) fun v s1 ⟨x,H1,I1,r1,a,kvs,ex,ha,q1⟩=>?_
 subst ex
 obtain rfl:v=Value.ref a:=r1
 obtain⟨z,hd,vs,rel,dd⟩:=f1w I1.hok ha
 obtain⟨ep,da⟩:=dd.dictAt
 obtain⟨ob,es,eo,r⟩:=id da
 refine wpAny_pyIter_dict (knd:=c0f X.prog X.w) (kvs:=vs) (ep:=ep) hd da ?_
 have I2:Inv X pins σ H1 {s1 with heap:=s1.heap.push {cls:=.type "dict_keyiterator",data:=.fields #[.ref a,.int 0 0,.int vs.length 0,.int ep 0]}}:=I1.kept (t':=s1.toks) fun b o e=>aq _ e
 have ha2:(s1.heap.push {cls:=.type "dict_keyiterator",data:=.fields #[.ref a,.int 0 0,.int vs.length 0,.int ep 0]}).get? a=some ob:=aq _ eo
 have I3:=I2.write (x:=a) (e:=a) (o:=.frz ob (.dK kvs)) (t':=s1.toks) (h':=s1.heap.push {cls:=.type "dict_keyiterator",data:=.fields #[.ref a,.int 0 0,.int vs.length 0,.int ep 0]}) (by rw[ha];exact True.intro) (.inl rfl) (fun b q _ e=>e) ⟨ob,ha2⟩ ⟨ha2,z,hd,vs,rel,⟨ob,es,ep,ha2,r⟩⟩
 have lt:a<s1.heap.objs.size:=aA eo
 have ne:a≠s1.heap.objs.size:=aR lt
 have T:Turn X.prog X.w X.K tg (Itk a ob (kvs.map a8)) [s1.heap.objs.size] s1.heap.objs.size (fun i h=>h.IsKeyIter s1.heap.objs.size a i vs.length ep) :=
  z0t (j1d rel) ne (fun h e=>(⟨ob,es,e,r⟩:h.DictAt (c0f X.prog X.w) a vs ep))
 refine⟨_,_,_,_,_,rfl,I3,T,⟨_,aP _ rfl,rfl,rfl⟩,fun b hb=>?_,q1 ob⟩
 rw[aL.mp hb]
 refine I1.fpOk (aE _) ?_
 rw[a0x ne.symm]
 exact I1.hok.fresh (aE _)
section
variable {K:aa}{F:Fr}{σ:St}{ρ:En}{H:Hp}
theorem Rel.giveUp (r:Rel K F σ ρ H){i:Nat}{a:Addr}{o:HO}(ho:(gt ρ i).own=true)(el:σ[i]? = some (some (.ref a))):Rel K F σ (pt ρ i .un) (upd H a o)/\Kp σ ρ (pt ρ i .un) H (upd H a o)/\¬hs F σ (pt ρ i .un) a:=by
 have lt:=n0m ho
 have own':∀j,(gt (pt ρ i .un) j).own=true->i≠j/\(gt ρ j).own=true:=fun j h=>i0e rfl h
 have sub:∀b,c0p σ (pt ρ i .un) b->c0p σ ρ b/\b≠a:=fun b ⟨j,hj,e⟩=>by
  obtain⟨ij,hj⟩:=own' j hj
  exact⟨⟨j,hj,e⟩,fun z=>ij (r.nd i j a ho hj el (z▸e))⟩
 have hso:c0p σ ρ a:=⟨i,ho,el⟩
 have vis:Same (hid H (hs F σ ρ)) (hid (upd H a o) (hs F σ (pt ρ i .un))):=b0v fun b u e n=>by
  have al:b≠a:=fun z=>n (.inr (z▸hso))
  exact⟨by rw[a0x al];exact e,fun z=>n (z.imp id fun z=>(sub b z).1)⟩
 have vl:¬hs F σ (pt ρ i .un) a:=fun z=>by
  rcases z with z | z
  ·exact r.zo a hso z
  ·exact(sub a z).2 rfl
 have up:∀ {b},H b≠none->(upd H a o) b≠none:=fun{b} h e=>by
  by_cases al:b=a
  ·subst al;rw[a0z]at e;cases e
  ·rw[a0x al]at e;exact h e
 refine⟨⟨by rw[j0j,r.len],fun b u e n=>?_,fun b z=>g1u (fun q=>r.zo a hso (q▸z)) (r.zl b z),fun b h=>r.zo b (sub b h).1,fun j b hj e=>r.ow j b (own' j hj).2 e,r.mi,r.ml,fun b z=>up (r.ma b z),fun j k b hj hk ej ek=>r.nd j k b (own' j hj).2 (own' k hk).2 ej ek,fun j=>?_⟩,⟨fun b u e n=>?_,fun j h=>(own' j h).2⟩,vl⟩
 ·have al:b≠a:=fun z=>by
   subst z
   rcases r.ow i _ ho el with⟨_,q⟩ | q
   ·exact n q
   ·rw[e]at q;cases q
  rw[a0x al];exact r.fr b u e n
 ·by_cases ij:i=j
  ·subst ij
   rw[q0u ρ i _ lt]
   trivial
  ·rw[d0g ρ i j _ ij]
   refine(r.sl j).keep vis fun b u ho' e h=>?_
   have al:b≠a:=fun z=>ij (r.nd i j a ho ho' el (z▸e))
   rw[a0x al];exact h
 ·have al:b≠a:=fun z=>n (z▸hso)
  rw[a0x al];exact e
end
section
variable {K:aa}{td:TE}{ad:AE}
def o1n (a:AE):AI:=fun ρ q=>a ρ fun r ρ1=>match r with
 | .o i=>(match gt ρ1 i with | .dk kvs=>q (kvs.map fun p=>kD p.1) (fun _=>True) (pt ρ1 i .un) | _=>False)
 | _=>False
theorem a1b {pin:Nat->Bool}(h:TEok K td ad):TIok K pin (m1v td) (o1n ad):=by
 intro F σ ρ H q Rk r ha k
 refine h F σ ρ H _ _ r ha fun r1 ρ1 x H1 h1 o1=>?_
 obtain⟨r1',k1,i1⟩:=o1.inF
 split at h1
 ·rename_i j
  have ej:σ[j]? = some (some x):=i1
  split at h1
  ·rename_i kvs hg
   obtain⟨t,ks,rfl,ht,e1,e2⟩:=z0g r1' ej hg
   refine⟨t,ks,rfl,ht,fun ob=>?_⟩
   obtain⟨rg,kg,vg⟩:=r1'.giveUp (i:=j) (a:=t) (o:=.frz ob (.dK ks)) (by rw[hg];rfl) ej
   refine k _ _ _ _ _ h1 rg (k1.trans kg) fun σ2 ρ2 H2 sm _ _ _ _=>?_
   have h2:H2 t=some (.frz ob (.dK ks)):=(j0d.mp (sm _ _ (i0k vg a0z))).2
   have el:(kvs.map fun p=>kD p.1)=(ks.map a8).map kD:=by rw[e1,bI];rfl
   intro i
   rw[el]
   refine⟨fun d hd=>?_,fun hi=>⟨⟨_,h2⟩,by simpa using hi⟩⟩
   rw[aM]at hd
   cases hk:(ks.map a8)[i]? with
   | none=>rw[hk]at hd;cases hd
   | some kk =>
    rw[hk]at hd
    cases hd
    refine⟨⟨⟨_,h2⟩,(aI.mp hk).1⟩,fun y H' hy=>?_⟩
    obtain⟨rfl,k',hk',rfl⟩:=hy
    rw[hk]at hk';cases hk'
    exact⟨Same.refl _,m1n kk⟩
  ·exact h1.elim
 ·exact h1.elim
end
end L2
namespace L2
theorem v0l {R:List Nat}{i:Nat}(h:i<R.length):R.getD i 0=R[i]:=by rw[aF,ao h];rfl
theorem m1x {R:List Nat}{i:Nat}(h:i<R.length):R.getD i 0∈R:=by rw[v0l h];exact dy h
theorem j1k {A B:List Nat}{i:Nat}(h:i<A.length):(A++B).getD i 0=A.getD i 0:=by
 simp only[aF]
 rw[a_ h]
def fst1 (R:List Nat)(t:Nat):Nat:=R.idxOf (R.getD t 0)
theorem c1o {R:List Nat}{t:Nat}(h:t<R.length):fst1 R t<R.length:=List.idxOf_lt_length_iff.mpr (m1x h)
theorem f1s {R:List Nat}{t:Nat}(h:t<R.length):R.getD (fst1 R t) 0=R.getD t 0:=by
 rw[v0l (c1o h)]
 exact kR (c1o h)
theorem c1p {R:List Nat}{t:Nat}(h:t<R.length):fst1 R t<=t:=by
 rcases bf t (fst1 R t)with q | q
 ·have:=List.not_of_lt_findIdx (p:=fun x=>x==R.getD t 0) (xs:=R) (i:=t) q
  have e:(R[t]==R.getD t 0)=true:=by rw[v0l h];simp
  exact absurd (this.symm.trans e) bn
 ·exact q
def v0f (m:Nat)(f:Nat->Nat):List (Nat×Nat)->Nat->(Nat->Bool)->Nat->Bool
 | [],_,M,t=>M t
 | p::r,k,M,t=>v0f m f r (k+1) M t||(v0f m f r (k+1) M (m+k)&&(t==f p.1||t==f p.2))
def nkT (m:Nat)(L:Nat->Bool)(k:Nat):Nat:=((aQ k).filter fun j=>L (m+j)).length
def nbT (m:Nat)(L:Nat->Bool)(t:Nat):Nat:=if t<m then t else m+nkT m L (t - m)
section
variable {m:Nat}{L:Nat->Bool}
theorem b1t (k:Nat):nkT m L (k+1)=nkT m L k+(if L (m+k)=true then 1 else 0):=by
 unfold nkT
 rw[cY,hV,aJ]
 congr 1
 by_cases h:L (m+k)=true
 ·rw[if_pos h];simp[iP,h]
 ·rw[if_neg h];simp[iP,h]
theorem n1z (k:Nat):nkT m L k<=k:=by
 induction k with
 | zero=>exact aE _
 | succ k ih=>rw[b1t];split <;> omega
end
def newJ (m:Nat)(f:Nat->Nat)(L:Nat->Bool)(p:Nat×Nat):Nat×Nat:=(min (nbT m L (f p.1)) (nbT m L (f p.2)),max (nbT m L (f p.1)) (nbT m L (f p.2)))
def o0u (m:Nat)(f:Nat->Nat)(L:Nat->Bool)(js:List (Nat×Nat))(n:Nat):List (Nat×Nat):=(aQ n).flatMap fun k=>if L (m+k)=true then[newJ m f L (js.getD k (0,0))]else[]
section
variable {m:Nat}{f:Nat->Nat}{L:Nat->Bool}{js:List (Nat×Nat)}
theorem n0w (n:Nat):o0u m f L js (n+1)=o0u m f L js n++(if L (m+n)=true then[newJ m f L (js.getD n (0,0))]else[]):=by
 unfold o0u
 rw[cY,fk]
 simp
theorem x0i (n:Nat):(o0u m f L js n).length=nkT m L n:=by
 induction n with
 | zero=>rfl
 | succ n ih =>
  rw[n0w,aJ,ih,b1t]
  split <;> rfl
end
theorem x0o:∀ {js:List (Nat×Nat)} {rows:List Nat} {i:Nat},i<rows.length->(js.foldl b0r rows).getD i 0=rows.getD i 0
 | [],_,_,_=>rfl
 | p::r,rows,i,h=>by
  rw[gm,x0o (by rw[m0l];omega)]
  exact j1k h
structure Rws (N:Net):Prop where
 ix:okIx N.m N.js
 ne:∀(i:Nat) (p:Nat×Nat),N.js[i]? = some p->(d0i N).getD p.1 0≠(d0i N).getD p.2 0
theorem g1m {N:Net}(h:g1f N):Rws N:=by
 have hix:okIx N.m N.js:=by have:=b1q h.js;rwa [i0f]at this
 refine⟨hix,fun i p hp=>?_⟩
 have:=x0d h.js hp
 obtain⟨h1,h2⟩:=m0p hix hp
 have lt:=(aI.mp hp).1
 have hl:((N.js.take i).foldl b0r (a0y N.m)).length=N.m+i:=by rw[q0z,i0f,bi];omega
 have e:∀j,j<N.m+i->((N.js.take i).foldl b0r (a0y N.m)).getD j 0=(d0i N).getD j 0:=fun j hj=>by
  unfold d0i
  conv=>rhs;rw[<- gq i N.js,iD]
  exact(x0o (by rw[hl];exact hj)).symm
 rw[e _ (by omega),e _ h2]at this
 exact this
def fT (N:Net):Nat->Nat:=fst1 (d0i N)
def m0g (N:Net):Nat->Bool:=v0f N.m (fT N) N.js 0 fun t=>(N.os.map (fT N)).contains t
def tidN (N:Net):Net:=⟨N.m,o0u N.m (fT N) (m0g N) N.js N.js.length,N.os.map fun o=>nbT N.m (m0g N) (fT N o)⟩
section
variable {N:Net}
theorem j1q {t:Nat}(h:t<N.m+N.js.length):fT N t<=t:=c1p (by rw[q0k];exact h)
theorem j1e (R:Rws N){k:Nat}{p:Nat×Nat}(e:N.js[k]? = some p):p.1<p.2/\p.2<N.m+k/\N.m+k<N.m+N.js.length:=by
 obtain⟨a,b⟩:=m0p R.ix e
 have:=(aI.mp e).1
 exact⟨a,b,by omega⟩
theorem f_lt (R:Rws N){k:Nat}{p:Nat×Nat}(e:N.js[k]? = some p):fT N p.1<N.m+k/\fT N p.2<N.m+k:=by
 obtain⟨a,b,c⟩:=j1e R e
 have h1:=j1q (N:=N) (t:=p.1) (by omega)
 have h2:=j1q (N:=N) (t:=p.2) (by omega)
 omega
end
abbrev nT (N:Net):Nat->Nat:=nbT N.m (m0g N)
theorem t0g {n2 n:Nat}{js:List Nat}{c:En->Prop}{g:AG}{tc:AT}{i2:AI}{g2:AG}{tc2:AT}{te:AE}{q:List D->En->Prop}(I:Nat->List D->En->Prop){ds:List D}(hc:∀i acc ρ,i<=ds.length->I i acc ρ->c ρ/\acc.length<=1000000)
  (hs:∀(i:Nat) d acc ρ (N:List D->En->Prop),ds[i]? = some d->I i acc ρ->(∀acc' ρ',I (i+1) acc' ρ'->N acc' ρ') ->
   g d (blkE n js ρ) fun ρ1=>tc ρ1 fun b ρ2=>if b=true then i2 ρ2 fun ds2 c2 ρ3=>j0f n2 c2 g2 tc2 te (fun acc' ρ4=>N acc' (back ρ (js.map R.o) (ρ4.drop n))) ds2 acc ρ3 else N acc (back ρ (js.map R.o) (ρ2.drop n)))
  (hd:∀acc ρ,I ds.length acc ρ->q acc ρ):∀ ρ,I 0 [] ρ->i0n n2 n js c g tc i2 g2 tc2 te q ds [] ρ:=by
 have go:∀(es:List D) (i:Nat),ds.drop i=es->i<=ds.length->∀acc ρ,I i acc ρ->i0n n2 n js c g tc i2 g2 tc2 te q es acc ρ:=by
  intro es
  induction es with
  | nil =>
   intro i h hi acc ρ hI
   have:ds.length<=i:=eZ.mp h
   have:i=ds.length:=by omega
   subst this
   unfold i0n
   obtain⟨a,b⟩:=hc _ acc ρ (aE _) hI
   exact⟨a,b,hd acc ρ hI⟩
  | cons d es ih =>
   intro i h hi acc ρ hI
   have lt:i<ds.length:=by
    rcases bf i ds.length with q | q
    ·exact q
    ·rw[bE q]at h;cases h
   rw[br lt]at h
   injection h with h1 h2
   unfold i0n
   exact⟨(hc i acc ρ hi hI).1,hs i d acc ρ (fun acc' ρ'=>i0n n2 n js c g tc i2 g2 tc2 te q es acc' ρ') (by rw[<- h1];exact ao lt) hI (fun acc' ρ' i'=>ih (i+1) h2 lt acc' ρ' i')⟩
 exact go ds 0 rfl (bg _) []
end L2
namespace L2
open PySem PySem.Spec PyProof.Rows
end L2
set_option maxHeartbeats 2000000
namespace L2
open PySem PySem.Spec PyProof.Rows
end L2
namespace L2
open PySem
def Ris (xs:Array Nat):Prop:=xs.toList.Pairwise (· < ·)
theorem Ris.lt {xs:Array Nat}(h:Ris xs){i k:Nat}(hk:k<xs.size)(hi:i<k):xs[i]'(by omega)<xs[k]:=by
 have:=di.mp h i k (by simp;omega) (by simpa using hk) hi
 simpa using this
theorem r0q {xs:Array Nat}{j:Nat}(hr:Ris xs):∀(f lo hi:Nat),hi - lo<=f->lo<=hi->hi<=xs.size->(∀k (h:k<xs.size),k<lo->xs[k]<j)->(∀k (h:k<xs.size),hi<=k->j<=xs[k]) ->
  eR xs j f lo hi<=xs.size/\(∀k (h:k<xs.size),k<eR xs j f lo hi->xs[k]<j)/\(∀k (h:k<xs.size),eR xs j f lo hi<=k->j<=xs[k])
 | 0,lo,hi,hf,hl,hz,h1,h2=>by
  have:hi=lo:=by omega
  subst this
  exact⟨hz,h1,h2⟩
 | f+1,lo,hi,hf,hl,hz,h1,h2=>by
  unfold eR
  by_cases hlt:lo<hi
  ·rw[if_pos hlt]
   dsimp only
   have hm:(lo+hi) / 2<xs.size:=by omega
   have eg:xs.getD ((lo+hi) / 2) j=xs[(lo+hi) / 2]:=by simp[kB,hm]
   rw[eg]
   by_cases hc:xs[(lo+hi) / 2]<j
   ·rw[if_pos hc]
    refine r0q hr f _ hi (by omega) (by omega) hz (fun k hk h=>?_) h2
    by_cases e:k=(lo+hi) / 2
    ·subst e;exact hc
    ·exact c7 (hr.lt hm (by omega)) hc
   ·rw[if_neg hc]
    refine r0q hr f lo _ (by omega) (by omega) (by omega) h1 (fun k hk h=>?_)
    by_cases e:k=(lo+hi) / 2
    ·subst e;omega
    ·have:=hr.lt hk (show(lo+hi) / 2<k by omega)
     omega
  ·rw[if_neg hlt]
   have:hi=lo:=by omega
   subst this
   exact⟨hz,h1,h2⟩
theorem m0w {xs:Array Nat}{j:Nat}(hr:Ris xs):bC xs j<=xs.size/\(∀k (h:k<xs.size),k<bC xs j->xs[k]<j)/\(∀k (h:k<xs.size),bC xs j<=k->j<=xs[k]) :=
 r0q hr xs.size 0 xs.size (by omega) (bg _) (aE _) (fun k _ h=>absurd h (jh _)) fun k h h'=>absurd h (by omega)
theorem g1b {xs:Array Nat}(hr:Ris xs){k:Nat}(hk:k<xs.size):bC xs xs[k]=k:=by
 obtain⟨h0,h1,h2⟩:=m0w (j:=xs[k]) hr
 rcases cX (bC xs xs[k]) k with h | h | h
 ·have a:=h2 (bC xs xs[k]) (by omega) (aE _)
  have b:=hr.lt hk h
  omega
 ·exact h
 ·have:=h1 k hk h
  omega
theorem z0l {xs:Array Nat}(hr:Ris xs){k:Nat}(hk:k<xs.size):bC xs (xs[k]+1)=k+1:=by
 obtain⟨h0,h1,h2⟩:=m0w (j:=xs[k]+1) hr
 rcases cX (bC xs (xs[k]+1)) (k+1)with h | h | h
 ·have:=h2 k hk (by omega)
  omega
 ·exact h
 ·have a:=h1 (k+1) (by omega) h
  have b:=hr.lt (show k+1<xs.size by omega) (show k<k+1 by omega)
  omega
theorem z0k {xs:Array Nat}(hr:Ris xs):bC xs 0=0:=by
 obtain⟨h0,h1,h2⟩:=m0w (j:=0) hr
 rcases Nat.eq_zero_or_pos (bC xs 0)with h | h
 ·exact h
 ·have:=h1 0 (by omega) h
  omega
theorem i1a {xs:Array Nat}{j:Nat}(hr:Ris xs)(hj:j∉xs.toList):Ris (SetTable.insertAt xs (bC xs j) j):=by
 obtain⟨h0,h1,h2⟩:=m0w (j:=j) hr
 unfold Ris
 rw[SetTable.toList_insertAt]
 have sp:(xs.toList.take (bC xs j)++xs.toList.drop (bC xs j)).Pairwise (· < ·):=by rw[gq];exact hr
 obtain⟨p1,p2,p3⟩:=gE.mp sp
 have lo:∀a∈xs.toList.take (bC xs j),a<j:=fun a ha=>by
  obtain⟨i,hi,rfl⟩:=cp ha
  rw[bi,cn]at hi
  rw[iC,gB]
  exact h1 i (by omega) (by omega)
 have up:∀a∈xs.toList.drop (bC xs j),j<a:=fun a ha=>by
  have hm:=kh ha
  obtain⟨i,hi,rfl⟩:=cp ha
  rw[dW,cn]at hi
  rw[List.getElem_drop,gB]at hm ⊢
  have:=h2 (bC xs j+i) (by omega) (by omega)
  rcases Nat.lt_or_eq_of_le this with h | h
  ·exact h
  ·exact absurd (h▸hm) hj
 refine gE.mpr ⟨p1,cR.mpr ⟨up,p2⟩,fun a ha b hb=>?_⟩
 rcases aK.mp hb with rfl | hb
 ·exact lo a ha
 ·exact p3 a ha b hb
def Open (t:dj)(j:Nat):Prop:=∀i,t.slot j ≠ .live i
theorem f1a {t:dj}{j:Nat}(hr:Ris t.place)(h:Open t j):j∉t.place.toList:=by
 intro hm
 obtain⟨k,hk,e⟩:=cp hm
 rw[cn]at hk
 rw[gB]at e
 refine h k ?_
 unfold SetTable.slot
 dsimp only
 rw[<- e,g1b hr hk,if_pos (by simp[hk])]
theorem t0s (t:dj)(p:kM):(t.advance p).dummy=p.dummy:=by
 unfold SetTable.advance;split <;> rfl
theorem v0k {t:dj}{f:Nat->Int}{h:Int}:∀(n:Nat) (p:kM) (j:Nat) (d:Option Nat),je t f h n p=some (.empty j d)->(∀x,p.dummy=some x->Open t x)->Open t j/\∀x,d=some x->Open t x
 | 0,p,j,d,e,_=>by cases e
 | n+1,p,j,d,e,hd=>by
  unfold je at e
  cases es:t.slot p.j with
  | empty =>
   rw[es]at e
   dsimp only at e
   simp only[bJ,lc]at e
   obtain⟨rfl,rfl⟩:=e
   exact⟨fun i z=>(by rw[es]at z;cases z),hd⟩
  | dummy =>
   rw[es]at e
   refine v0k n _ j d e fun x hx=>?_
   rw[t0s]at hx
   cases hx
   exact fun i z=>by rw[es]at z;cases z
  | live i =>
   rw[es]at e
   dsimp only at e
   split at e
   ·cases e
   ·refine v0k n _ j d e fun x hx=>?_
    rw[t0s]at hx
    exact hd x hx
theorem c1q {t:dj}{h:Int}{j:Nat}{b:Bool}(e:t.freeSlot h=some (j,b)):Open t j:=by
 unfold SetTable.freeSlot at e
 split at e
 ·rename_i j' d hp
  simp only[bJ,dY]at e
  obtain⟨rfl,_⟩:=e
  unfold SetTable.probe at hp
  obtain⟨a,b⟩:=v0k _ _ _ _ hp fun x hx=>by cases hx
  cases d with
  | none=>exact a
  | some x=>exact b x rfl
 ·cases e
def Led (t:dj):Prop:=t.led=true/\Ris t.place
theorem a1x (n:Nat):Ris (Array.range n):=by
 unfold Ris
 rw[Array.toList_range]
 exact cJ
theorem k0r {t:dj}(h:t.led=true)(n:Nat):Led (t.standIn n):=⟨h,a1x n⟩
theorem m1f {t:dj}(h:Led t)(n:Nat):Led (t.orStandIn n):=by
 unfold SetTable.orStandIn
 split
 ·exact h
 ·exact k0r h.1 n
theorem i1y {t:dj}(h:Led t)(es:Array (Int×af))(k:Int)(x:af):Led (layNew t es k x).2.1:=by
 unfold layNew
 split
 ·rename_i j b e
  have l2:Led (t.put j).1:=⟨h.1,i1a h.2 (f1a h.2 (c1q e))⟩
  exact m1f l2 _
 ·exact k0r h.1 _
theorem j1m {α:Type}(f:Nat->Option α)(n:Nat):(((aQ n).filterMap fun j=>(f j).map (j,·)).map (·.1)).Sublist (aQ n):=by
 rw[List.map_filterMap]
 have:(fun x=>Option.map (fun y:Nat×α=>y.1) ((f x).map (x,·)))=fun x=>if(f x).isSome then some x else none:=by
  funext x;cases f x <;> rfl
 rw[this]
 have e:(aQ n).filterMap (fun x=>if(f x).isSome=true then some x else none)=(aQ n).filter fun x=>(f x).isSome:=by
  induction aQ n with
  | nil=>rfl
  | cons a l ih =>
   rw[dw,iP]
   cases (f a).isSome <;> simp[ih]
 rw[e]
 exact kz
theorem y0u {t t':dj}{hs:Array Int}{k:Nat}{o:Array Nat}(h:t.led=true)(e:t.relaid hs k=some (t',o)):Led t':=by
 unfold SetTable.relaid SetTable.laid at e
 cases ho:SetTable.layClean (SetTable.sizeAbove k - 1) hs with
 | none=>rw[ho]at e;cases e
 | some ow =>
  rw[ho]at e
  simp only[Option.bind_eq_bind,Option.bind_some,Option.pure_def,bJ,dY]at e
  obtain⟨rfl,_⟩:=e
  refine⟨h,?_⟩
  unfold Ris
  dsimp only
  exact mK (j1m (fun j=>ow.getD j none) _) cJ
theorem i1z {t:dj}(h:t.led=true)(es:Array (Int×af))(k:Nat):Led (ia t es k).2.1:=by
 unfold ia
 split
 ·rename_i t' o e
  dsimp only
  split
  ·exact y0u h e
  ·exact k0r h _
 ·exact k0r h _
end L2
namespace L2
open PySem PySem.Spec PyProof.Rows
def byT (w:be):Bool:=w.params.followText "set-order"
def SetI (P:aO)(w:be)(h:Heap)(a:Addr)(ks:List Int):Prop :=
 ∃o es ep t,h.get? a=some o/\o.ExactSet/\o.data = .set es ep t/\k_ (dc P w) es.toList/\(∀k,k∈ks↔∃e∈es.toList,(dc P w).is k e.2=true)/\es.size<fL/\t.fits es.size=true/\es.size=ks.length/\(byT w=false->Led t)
section
variable {P:aO}{w:be}{A:bo}{E:af->ah->Prop}{s:ah}
theorem SetI.kept {h h':Heap}{a:Addr}{ks:List Int}(hS:SetI P w h a ks)(k:∀o,h.get? a=some o->h'.get? a=some o):SetI P w h' a ks:=by
 obtain⟨o,es,ep,t,ho,r⟩:=hS
 exact⟨o,es,ep,t,k o ho,r⟩
theorem SetI.store {h:Heap}{a:Addr}{o:Obj}{es es':Array (Int×af)}{ep:Nat}{t t':dj}{ks:List Int}(e:h.get? a=some o)(x:o.ExactSet)(d:o.data = .set es ep t)
  (h1:k_ (dc P w) es'.toList) (h2:∀k,k∈ks↔∃e∈es'.toList,(dc P w).is k e.2=true) (h3:es'.size<fL) (h4:t'.fits es'.size=true) (h5:es'.size=ks.length) (h6:byT w=false->Led t') :
  (h.update a (ik es' t')).get? a=some {o with data:=.set es' (ep+1) t'}/\SetI P w (h.update a (ik es' t')) a ks:=by
 have g:(h.update a (ik es' t')).get? a=some {o with data:=.set es' (ep+1) t'}:=by
  rw[b6 (ik es' t') e (by rw[putSet_of es' t' d];rfl),putSet_of es' t' d]
 exact⟨g,{o with data:=.set es' (ep+1) t'},es',ep+1,t',g,x,rfl,h1,h2,h3,h4,h5,h6⟩
theorem d1l {g:Bool->Sem Unit}(hg:∀(b:Bool) (z:ah) (q:Unit->ah->Prop),q () z->az (aH P w) A (g b) q E z){a:Addr}{o:Obj}{es e1:Array (Int×af)}{ep:Nat}{t t2:dj}{ks:List Int}
  (e:s.heap.get? a=some o) (x:o.ExactSet) (d:o.data = .set es ep t)
  (h1:k_ (dc P w) e1.toList) (h2:∀k,k∈ks↔∃e∈e1.toList,(dc P w).is k e.2=true) (h3:e1.size<fL) (h4:t2.fits e1.size=true) (h5:e1.size=ks.length) (h6:byT w=false->Led t2)
  {dm:Bool} {R:Option Bool->ah->Prop} (h:∀h',bH a s.heap h'->SetI P w h' a ks->R (some true) {s with heap:=h'}) :
  az (aH P w) A (do
   storeSet a e1 t2
   if(!dm&&t2.tooFull)=true then do
    g (ia t2 e1 (dG e1.size)).2.2
    storeSet a (ia t2 e1 (dG e1.size)).1 (ia t2 e1 (dG e1.size)).2.1
    pure (some true)
   else pure (some true)) R E s:=by
 refine ab (mf e d ?_ (eQ h3))
 obtain⟨g1,S1⟩:=SetI.store (P:=P) (w:=w) e x d h1 h2 h3 h4 h5 h6
 have b1:=cB s.heap a (ik e1 t2)
 split
 ·have p:=relayAll_perm t2 e1 (dG e1.size)
  have f:=relayAll_fits t2 e1 (dG e1.size)
  have l:byT w=false->Led (ia t2 e1 (dG e1.size)).2.1:=fun z=>i1z (h6 z).1 _ _
  generalize ia t2 e1 (dG e1.size)=R2 at p f l ⊢
  obtain⟨e2,t3,g2⟩:=R2
  dsimp only at p f l ⊢
  have n2:e2.size=e1.size:=by have:=p.length_eq;simpa using this
  refine ab (hg _ _ _ ?_)
  refine ab (mf g1 rfl ?_ (eQ (by omega)))
  obtain⟨_,S2⟩:=SetI.store (P:=P) (w:=w) (ks:=ks) g1 x rfl (ElemsOf.perm h1 p) (fun k=>(h2 k).trans ⟨fun⟨y,hy,z⟩=>⟨y,p.mem_iff.mpr hy,z⟩,fun⟨y,hy,z⟩=>⟨y,p.mem_iff.mp hy,z⟩⟩) (by omega) f (by omega) l
  exact aj (h _ (b1.trans (cB _ a _)) S2)
 ·exact aj (h _ b1 S1)
theorem n1f (ks:List Int)(k j:Int):j∈dJ ks k↔j∈ks∨j=k:=by
 unfold dJ
 split
 ·rename_i h
  rw[cD]at h
  obtain⟨y,hy,e⟩:=h
  have:y=k:=by simpa using e
  subst this
  exact⟨.inl,fun z=>z.elim id fun e=>e▸hy⟩
 ·simp
theorem j1v {ks:List Int}{k:Int}(h:k∈ks):dJ ks k=ks:=by
 unfold dJ
 rw[if_pos (cD.mpr ⟨k,h,by simp⟩)]
theorem c1w {ks:List Int}{k:Int}(h:k∉ks):dJ ks k=ks++[k]:=by
 unfold dJ
 rw[if_neg (fun z=>by obtain⟨y,hy,e⟩:=cD.mp z;exact h ((by simpa using e:y=k)▸hy))]
theorem o1h {a:Addr}{ks:List Int}{k:Int}{x:af}{Q:Bool->ah->Prop}(hk:(dc P w).is k x=true)(hx:x.scannable=true)(hS:SetI P w s.heap a ks)(hr:ks.length+1<fL)
  (h:∀h' b,bH a s.heap h'->SetI P w h' a (dJ ks k)->Q b {s with heap:=h'}):az (aH P w) A (setAddHashed a x ((dc P w).hash k)) Q E s:=by
 obtain⟨o,es,ep,t,ho,ex,d,el,me,bd,fi,le,ld⟩:=hS
 unfold setAddHashed setAddHashedIn
 refine cU (ab (dS ho d fi ?_));dsimp only
 rw[byScan_of hx bd el];simp only[if_true]
 unfold setAddByScan
 refine ab (ab (cH (ab (wpAny_setScan_of hk ho d fi el ?_))))
 cases hf:List.findIdx? (fun e=>(dc P w).is k e.2) es.toList with
 | some j =>
  dsimp only
  obtain⟨lj,pj,_⟩:=List.findIdx?_eq_some_iff_getElem.mp hf
  have kin:k∈ks:=(me k).mpr ⟨_,dy lj,pj⟩
  refine aj (aj ?_)
  have:=h s.heap false (jD a s.heap) (by rw[j1v kin];exact⟨o,es,ep,t,ho,ex,d,el,me,bd,fi,le,ld⟩)
  exact this
 | none =>
  dsimp only
  have kout:k∉ks:=fun z=>by
   obtain⟨y,hy,q⟩:=(me k).mp z
   have:=List.findIdx?_eq_none_iff.mp hf y hy
   rw[q]at this;cases this
  have gw:∀(b:Bool) {z:ah} {q:Unit->ah->Prop},q () z->az (aH P w) A (match b with | true=>rule "set.scan.the-table-gave-way" | false=>pure ()) q E z:=fun b z q hq=>by
   cases b
   ·exact aj hq
   ·exact cH hq
  have pe:=layNew_perm t es ((dc P w).hash k) x
  have fe:=layNew_fits t es ((dc P w).hash k) x
  have lf:byT w=false->Led (layNew t es ((dc P w).hash k) x).2.1:=fun z=>i1y (ld z) _ _ _
  generalize layNew t es ((dc P w).hash k) x=L at pe fe lf ⊢
  obtain⟨e1,t1,dm,gv⟩:=L
  dsimp only at pe fe lf ⊢
  rw[iq]at pe
  have el1:k_ (dc P w) e1.toList:=(ElemsOf.push el hk hx).perm pe
  have n1:e1.size=ks.length+1:=by have:=pe.length_eq;simp at this;omega
  have me1:∀j,j∈ks++[k]↔∃e∈e1.toList,(dc P w).is j e.2=true:=fun j=>by
   rw[a7,me j,aL]
   constructor
   ·rintro(⟨y,hy,q⟩ | rfl)
    ·exact⟨y,pe.mem_iff.mpr (bj _ hy),q⟩
    ·exact⟨_,pe.mem_iff.mpr (ar _ (aL.mpr rfl)),hk⟩
   ·rintro⟨y,hy,q⟩
    rcases a7.mp (pe.mem_iff.mp hy)with hy | hy
    ·exact .inl ⟨y,hy,q⟩
    ·rw[aL.mp hy]at q
     exact .inr ((dc P w).inj x j k q hk)
  refine ab (gw _ ?_)
  have fin:∀h',bH a s.heap h'->SetI P w h' a (ks++[k])->Q true {s with heap:=h'}:=fun h' b z=>h h' true b (by rw[c1w kout];exact z)
  split
  ·refine ab ?_
   rw[hashByValue_scannable 8 hx]
   refine aj ?_
   refine d1l ?_ ho ex d el1 me1 (by omega) ?_ (by rw[aJ];simpa using n1) ?_ ?_
   ·intro b z q hq
    cases b
    ·exact aj hq
    ·exact cH hq
   ·split
    ·exact fe
    ·exact SetTable.fits_plain_off fe
   ·intro z
    split
    ·exact lf z
    ·exact lf z
   ·intro h' b z
    exact aj (fin h' b z)
  ·refine ab (aj ?_)
   simp only[if_true]
   refine d1l ?_ ho ex d el1 me1 (by omega) fe (by rw[aJ];simpa using n1) lf ?_
   ·intro b z q hq
    cases b
    ·exact aj hq
    ·exact cH hq
   ·intro h' b z
    exact aj (fin h' b z)
end
end L2
set_option maxHeartbeats 3200000
namespace L2
open PySem PySem.Spec PyProof.Rows
def setO (w:be):Obj:={cls:=.type "set",dict:=none,data:=.set #[] 0 (.fresh 0 0 (!byT w))}
section
variable {P:aO}{w:be}{A:bo}{E:af->ah->Prop}{s:ah}
theorem e1g (h:Heap):SetI P w (h.push (setO w)) h.objs.size [] :=
 ⟨setO w,#[],0,_,aP _ rfl,⟨rfl,rfl,rfl⟩,rfl,fun e he=>by simp at he,fun k=>by simp,by decide,by rfl,rfl,fun z=>⟨by simp[kL,z],by simp[Ris,kL]⟩⟩
variable {R:eU->ah->Prop}{I:Addr}{fp wr:List Addr}{G:Array lE->Array lE->Prop}{n:Nat}{p:Nat->af->Prop}{St:Nat->ah->Prop}
end
end L2
set_option maxHeartbeats 1000000
namespace L2
open PySem PySem.Spec PyProof.Rows
theorem e0i:Slot "set_iterator" "__next__" "set_iterator.__next__" :=
 .of (owner := "set_iterator") (n := "__next__") (by rw[gT,e7];kernel_rfl) (by decide +kernel) (by decide +kernel) (by decide +kernel) (by first | exact .inl (by decide +kernel) | exact .inr (by decide +kernel)) (by rw[jW];kernel_rfl)
theorem k0w:entryFor table "set_iterator.__next__" = some Builtin.«set_iterator.__next__»:=entryFor_of_tree (by kernel_rfl)
theorem l0x:Slot "set_iterator" "__iter__" "set_iterator.__iter__" :=
 .of (owner := "set_iterator") (n := "__iter__") (by rw[gT,e7];kernel_rfl) (by decide +kernel) (by decide +kernel) (by decide +kernel) (by first | exact .inl (by decide +kernel) | exact .inr (by decide +kernel)) (by rw[jW];kernel_rfl)
theorem t0a:entryFor table "set.__iter__" = some Builtin.«frozenset.__iter__»:=entryFor_alias (id' := "frozenset.__iter__") (by kernel_rfl) rfl (by decide +kernel) (by kernel_rfl)
theorem l0p {α:Type}:∀(l:List α) (i:Nat) (h:i<l.length),(l[i]::l.eraseIdx i).Perm l
 | a::l,0,_=>.refl _
 | a::l,i+1,h=>(List.Perm.swap _ _ _).trans (List.Perm.cons a (l0p l i (by simpa using h)))
theorem b1f {α:Type}(f:Nat->Nat):∀(n k:Nat) (l:List α) (o:Array α),l.length=n->List.Perm (jb f n k l o).toList (o.toList++l)
 | 0,k,l,o,h=>by
  obtain rfl:l=[]:=eY h
  unfold jb;simp
 | n+1,k,l,o,h=>by
  unfold jb
  have lt:f k % l.length<l.length:=Nat.mod_lt _ (by omega)
  rw[ao lt]
  dsimp only
  refine(b1f f n (k+1) _ _ (by rw[jr lt];omega)).trans ?_
  rw[iq,bG]
  exact ju _ (l0p l _ lt)
theorem b1e {α:Type}(f:Nat->Nat)(xs:Array α):List.Perm (mE f xs).toList xs.toList:=by
 have:=b1f f xs.size 0 xs.toList #[] (by simp)
 simpa [mE] using this
theorem p0g:∀ {ks ms:List Int},ks.Nodup->(∀k∈ks,k∈ms)->ms.length=ks.length->ms.Perm ks
 | [],ms,_,_,h=>by rw[eY h]
 | k::ks,ms,hn,hm,h=>by
  obtain⟨h1,h2⟩:=e8.mp hn
  have hk:=hm k (.head _)
  have p:=kf hk
  refine p.trans (List.Perm.cons k (p0g h2 (fun j hj=>?_) ?_))
  ·have ne:j≠k:=fun e=>h1 (by rw[<- e];exact hj)
   exact(List.mem_erase_of_ne ne).mpr (hm j (.tail _ hj))
  ·rw[jL hk,h];simp
section
variable {P:aO}{w:be}{A:bo}{E:af->ah->Prop}{s:ah}
theorem z0q {src:Source}{n:Nat}{Q:Nat->ah->Prop}(hn:n≠0)(h:∀i d,i<n->Q i {s with drawn:=d}):az (aH P w) A (choose src n) Q E s:=by
 intro Γ p hΓ
 unfold choose
 simp only[Sem.wp]
 exact⟨hn,h _ _ (Nat.mod_lt _ (il hn))⟩
theorem w0f {α:Type}:∀(n:Nat) (xs:List α) {s:ah} {Q:List α->ah->Prop},xs.length=n->(∀ys d,ys.Perm xs->Q ys {s with drawn:=d})->az (aH P w) A (kF n xs) Q E s
 | 0,xs,s,Q,hl,h=>by
  obtain rfl:xs=[]:=eY hl
  unfold kF
  exact aj (h [] s.drawn (.refl _))
 | n+1,x::xs,s,Q,hl,h=>by
  unfold kF
  refine ab (z0q (by simp) fun i d hi=>?_)
  rw[ao hi]
  refine ab (w0f n _ (by rw[jr hi,hl];rfl) fun ys d' hp=>?_)
  exact aj (h _ d' ((List.Perm.cons _ hp).trans (l0p _ i hi)))
theorem g1k {s:ah}{Q:af->ah->Prop}{R:af->ah->Prop}{α:Type}{q:α->ah->Prop}(hh:A.handled=none)(h:∀x h',(∀b o,s.heap.get? b=some o->h'.get? b=some o)->({s with heap:=h'}:ah).TypeIs x "StopIteration" -> R x {s with heap:=h'}) :
  az (aH P w) A (newExc (.type "StopIteration") []>>=fun x=>(raiseNew x:Sem α)) q R s:=by
 have ho:∃n,n<=10/\(ownMembersOf (Value.type "StopIteration") []).size=n:=by
  first
  | exact⟨_,by decide,rfl⟩
  | exact⟨(ownMembersOf (Value.type "StopIteration") []).size,by decide +kernel,rfl⟩
 obtain⟨no,hno,eno⟩:=ho
 refine ab (ab (bL (ab (lx rfl (bL ?_ (by first | trivial | (unfold sizeOk;trivial) | (simp[sizeOk,f9,eno];omega) | (simp only[sizeOk,Array.size_append,eno,f9];simp;omega))))) (by show 0<=aN;decide)))
 refine ab (wpAny_handled ?_)
 rw[hh]
 refine ab (aj (wpAny_throw (h _ _ (fun b o q=>aq _ (aq _ q)) ?_)))
 exact⟨_,aP _ rfl,rfl⟩
def itO (f:af)(i:Nat)(S:Addr)(n ep:Nat):Obj:={cls:=.type "set_iterator",data:=.fields #[f,db (i:Nat),.ref S,db (n:Nat),db (ep:Nat)]}
variable {I S:Addr}{o:Obj}{es:Array (Int×af)}{ep:Nat}{t:dj}
theorem x0g {f i:Nat}{r:Option (af×Nat)}{Q:Option af->ah->Prop}(hh:A.handled=none)(hI:s.heap.get? I=some (itO (db (f:Nat)) i S es.size ep))(hS:s.heap.get? S=some o)(hd:o.data = .set es ep t)(hf:t.fits es.size=true)
  (hn:∀(A:bo) (E:af->ah->Prop) (q:Option (af×Nat)->ah->Prop),q r s->az (aH P w) A (ja S f i ep) q E s)
  (hq:∀x k h',r=some (x,k)->h'.get? I=some (itO (db (k:Nat)) (i+1) S es.size ep)->(∀b o,b≠I->s.heap.get? b=some o->h'.get? b=some o)->Q (some x) {s with heap:=h'})
  (he:∀h',r=none->(∀b o,b≠I->s.heap.get? b=some o->h'.get? b=some o)->Q none {s with heap:=h'}):az (aH P w) A (en (.ref I)) Q E s:=by
 have hT:s.TypeIs (.ref I) "set_iterator" := by
  first
  | exact⟨_,hI,rfl⟩
  | exact⟨_,_,hI,rfl⟩
 refine ab (iM (cg hT e0i (b_ e0i hT k0w (ab (aj (ab (wpAny_fieldsOf hI rfl ?_)))))))
 show az _ _ (setEntries S>>=_) _ _ _
 refine ab (iG hS hd hf ?_)
 show az _ _ (ite (((es.size:Int) != (es.size:Int))=true) _ _) _ _ _
 rw[if_neg (by simp)]
 show az _ _ (ja S f i ep>>=_) _ _ _
 refine ab (hn _ _ _ ?_)
 cases r with
 | some p =>
  obtain⟨x,k⟩:=p
  refine ab (cG hI (by show 0<5;decide) fun h1 g1 sb1=>?_)
  refine ab (cG g1 (by show 1<5;decide) fun h2 g2 sb2=>?_)
  exact aj ⟨_,rfl,aj (hq x k h2 rfl g2 fun b o hb q=>(sb2.2 b hb).trans ((sb1.2 b hb).trans q))⟩
 | none =>
  refine ab (cG hI (by show 2<5;decide) fun h1 g1 sb1=>?_)
  refine g1k (Q:=fun _ _=>True) (by exact hh) fun x h' hk hx=>?_
  refine ab (gr (T := "StopIteration") hx jX (aj (he h' rfl fun b o hb q=>hk b o ((sb1.2 b hb).trans q))))
theorem p0h {T:Addr}{i:Nat}{ps:List Nat}{Q:Option af->ah->Prop}(hh:A.handled=none)(hI:s.heap.get? I=some (itO (.ref T) i S es.size ep))(hT2:s.heap.get? T=some {cls:=.type "tuple",data:=.seq (ps.map fun p=>db (p:Nat)).toArray})(hS:s.heap.get? S=some o)(hd:o.data = .set es ep t)(hf:t.fits es.size=true)
  (hq:∀p e h',ps[i]? = some p->es[p]? = some e->h'.get? I=some (itO (.ref T) (i+1) S es.size ep)->(∀b o,b≠I->s.heap.get? b=some o->h'.get? b=some o)->Q (some e.2) {s with heap:=h'}) (hp:∀p∈ps,p<es.size)
  (he:∀h',ps[i]? = none->(∀b o,b≠I->s.heap.get? b=some o->h'.get? b=some o)->Q none {s with heap:=h'}):az (aH P w) A (en (.ref I)) Q E s:=by
 have hT:s.TypeIs (.ref I) "set_iterator" := by
  first
  | exact⟨_,hI,rfl⟩
  | exact⟨_,_,hI,rfl⟩
 refine ab (iM (cg hT e0i (b_ e0i hT k0w (ab (aj (ab (wpAny_fieldsOf hI rfl ?_)))))))
 show az _ _ (setEntries S>>=_) _ _ _
 refine ab (iG hS hd hf ?_)
 show az _ _ (ite (((es.size:Int) != (es.size:Int))=true) _ _) _ _ _
 rw[if_neg (by simp)]
 show az _ _ (mD (.ref T)>>=_) _ _ _
 refine ab (hZ hT2 rfl ?_)
 dsimp only
 rw[List.getElem?_toArray,cL,aM]
 cases hx:ps[i]? with
 | some p =>
  have lp:=hp p (bz hx)
  have ge:es[p]? = some es[p]:=cm lp
  show az _ _ (setNextDrawn S p ep>>=_) _ _ _
  refine ab ?_
  unfold setNextDrawn
  refine ab (dS hS hd hf ?_)
  show az _ _ (ite ((ep != ep)=true) _ _) _ _ _
  rw[if_neg (by simp)]
  show az _ _ (match es[p]? with | some (_,x)=>pure x | _=>_) _ _ _
  rw[ge]
  refine aj ?_
  refine ab (cG hI (by show 1<5;decide) fun h1 g1 sb1=>?_)
  exact aj ⟨_,rfl,aj (hq p es[p] h1 hx ge g1 fun b o hb q=>(sb1.2 b hb).trans q)⟩
 | none =>
  show az _ _ (setField (.ref I) 0 (db 0)>>=_) _ _ _
  refine ab (cG hI (by show 0<5;decide) fun h1 g1 sb1=>?_)
  refine ab (cG g1 (by show 2<5;decide) fun h2 g2 sb2=>?_)
  refine g1k (Q:=fun _ _=>True) (by exact hh) fun x h' hk hx'=>?_
  exact ab (gr (T := "StopIteration") hx' jX (aj (he h' hx fun b o hb q=>hk b o ((sb2.2 b hb).trans ((sb1.2 b hb).trans q)))))
theorem h1w {f i:Nat}{Q:Option (af×Nat)->ah->Prop}(hb:byT w=true)(hS:s.heap.get? S=some o)(hd:o.data = .set es ep t)(hf:t.fits es.size=true)
  (h:Q (((mE (w.params.setOrder S ep) es)[i]?).map fun e=>(e.2,f)) s):az (aH P w) A (ja S f i ep) Q E s:=by
 unfold byT at hb
 unfold ja iS
 refine ab (dS hS hd hf ?_)
 refine ab (ab (dh (aj ?_)))
 show az _ _ (ite (w.params.followText "set-order" = true) _ _) _ _ _
 rw[if_pos hb]
 show az _ _ (ite ((ep != ep)=true) _ _) _ _ _
 rw[if_neg (by simp)]
 unfold setWalk iS
 refine ab (ab (dS hS hd hf ?_))
 refine ab (ab (dh (aj ?_)))
 show az _ _ (ite (w.params.followText "set-order" = true) _ _) _ _ _
 rw[if_pos hb]
 exact ab (dh (aj (aj h)))
theorem h1x {f i:Nat}{Q:Option (af×Nat)->ah->Prop}(hb:byT w=false)(hp:(!t.plain&&decide (es.size > 1))=false)(hl:t.led=true)(hS:s.heap.get? S=some o)(hd:o.data = .set es ep t)(hf:t.fits es.size=true)
  (h:Q (match es[bC t.place f]?,t.place[bC t.place f]? with | some (_,x),some j=>some (x,j+1) | _,_=>none) s):az (aH P w) A (ja S f i ep) Q E s:=by
 unfold byT at hb
 unfold ja iS
 refine ab (dS hS hd hf ?_)
 refine ab (ab (dh (aj ?_)))
 show az _ _ (ite (w.params.followText "set-order" = true) _ _) _ _ _
 rw[if_neg (by rw[hb];simp)]
 show az _ _ (ite ((!t.plain&&decide (es.size > 1))=true) _ _) _ _ _
 rw[if_neg (by rw[hp];simp)]
 show az _ _ (ite ((!t.led && !es.isEmpty)=true) _ (pure ())>>=_) _ _ _
 rw[if_neg (by rw[hl];simp)]
 exact ab (aj (aj h))
end
theorem r0g:entryFor table "set_iterator.__iter__" = some Builtin.«dict_keyiterator.__iter__»:=entryFor_alias (id' := "dict_keyiterator.__iter__") (by kernel_rfl) rfl (by decide +kernel) (by kernel_rfl)
theorem c1s {α:Type}{es:Array α}:∀(ps:List Nat),(∀p∈ps,p<es.size)->(ps.filterMap fun p=>es[p]?).length=ps.length
 | [],_=>rfl
 | p::ps,h=>by
  rw[dw,cm (h p (.head _))]
  simp[c1s ps fun q hq=>h q (.tail _ hq)]
theorem n1c {α:Type}{es:Array α}:∀(ps:List Nat),(∀p∈ps,p<es.size)->∀i:Nat,(ps.filterMap fun p=>es[p]?)[i]? = (ps[i]?).bind fun p=>es[p]?
 | [],_,i=>by simp
 | p::ps,h,i=>by
  rw[dw,cm (h p (.head _))]
  cases i with
  | zero=>simp[h p (.head _)]
  | succ i=>simpa using n1c ps (fun q hq=>h q (.tail _ hq)) i
section
variable {P:aO}{w:be}{A:bo}{E:af->ah->Prop}{s:ah}{I S:Addr}{o:Obj}{es:Array (Int×af)}{ep:Nat}{t:dj}
theorem a1t {f:af}{i n:Nat}{Q:af->ah->Prop}(hI:s.heap.get? I=some (itO f i S n ep))(h:Q (.ref I) s):az (aH P w) A (iT (.ref I)) Q E s:=by
 have hT:s.TypeIs (.ref I) "set_iterator" := by
  first
  | exact⟨_,hI,rfl⟩
  | exact⟨_,_,hI,rfl⟩
 refine mj hT l0x (b_ l0x hT r0g ?_)
 exact(show az _ _ (ret (.ref I)) _ _ s from aj ⟨_,rfl, "set_iterator",_,hT,e0i.lookup,h⟩)
theorem w0g (hh:A.handled=none)(hne:S≠I)(hd:o.data = .set es ep t)(hf:t.fits es.size=true)(vs:List af)(nx:Nat->Nat)
  (hs:∀i (s:ah),i<=vs.length->s.heap.get? S=some o->∀(A:bo) (E:af->ah->Prop) (q:Option (af×Nat)->ah->Prop),q ((vs[i]?).map fun x=>(x,nx (i+1))) s->az (aH P w) A (ja S (nx i) i ep) q E s) :
  Walks P w A I [I,S] [I] vs.length (fun i v=>vs[i]? = some v) (fun i h=>h.get? I=some (itO (db (nx i:Nat)) i S es.size ep)/\h.get? S=some o) where
 sub:=fun b hb=>by simp at hb;simp[hb]
 frame:=fun _ _ _ st hk=>⟨hk I (by simp) _ st.1,hk S (by simp) _ st.2⟩
 item:=fun i s Q E hi st hQ=>by
  have gv:vs[i]? = some vs[i]:=ao hi
  refine x0g hh st.1 st.2 hd hf (hs i s (by omega) st.2) (fun x k h' e g kp=>?_) (fun h' e=>?_)
  ·rw[gv]at e
   simp only[f7,bJ,dY]at e
   obtain⟨rfl,rfl⟩:=e
   exact hQ _ h' s.toks gv ⟨g,kp S _ hne st.2⟩ fun b o hb q=>kp b o (fun z=>hb (by simp[z])) q
  ·rw[gv]at e;cases e
 done:=fun s Q E st hQ=>by
  have gn:vs[vs.length]? = none:=by simp
  refine x0g hh st.1 st.2 hd hf (hs vs.length s (aE _) st.2) (fun x k h' e g kp=>?_) (fun h' e kp=>?_)
  ·rw[gn]at e;cases e
  ·exact hQ h' s.toks fun b o hb q=>kp b o (fun z=>hb (by simp[z])) q
 self:=fun _ _ _ _ st hQ=>a1t st.1 hQ
theorem x0z {T:Addr}(hh:A.handled=none)(hne:S≠I)(hn2:T≠I)(hd:o.data = .set es ep t)(hf:t.fits es.size=true)(ps:List Nat)(hp:∀p∈ps,p<es.size)(hl:ps.length=es.size) :
  Walks P w A I [I,S,T] [I] (ps.filterMap fun p=>es[p]?).length (fun i v=>(((ps.filterMap fun p=>es[p]?).map (·.2))[i]? = some v)) (fun i h=>h.get? I=some (itO (.ref T) i S es.size ep)/\h.get? S=some o/\h.get? T=some {cls:=.type "tuple",data:=.seq (ps.map fun p=>db (p:Nat)).toArray}) where
 sub:=fun b hb=>by simp at hb;simp[hb]
 frame:=fun _ _ _ st hk=>⟨hk I (by simp) _ st.1,hk S (by simp) _ st.2.1,hk T (by simp) _ st.2.2⟩
 item:=fun i s Q E hi st hQ=>by
  have fm:=n1c ps hp
  refine p0h hh st.1 st.2.2 st.2.1 hd hf (fun p e h' e1 e2 g kp=>?_) hp (fun h' e=>?_)
  ·refine hQ _ h' s.toks ?_ ⟨g,kp S _ hne st.2.1,kp T _ hn2 st.2.2⟩ fun b o hb q=>kp b o (fun z=>hb (by simp[z])) q
   rw[aM,fm,e1]
   simp[e2]
  ·have:ps.length<=i:=List.getElem?_eq_none_iff.mp e
   rw[c1s ps hp]at hi
   omega
 done:=fun s Q E st hQ=>by
  refine p0h hh st.1 st.2.2 st.2.1 hd hf (fun p e h' e1 e2 g kp=>?_) hp (fun h' e kp=>?_)
  ·rw[c1s ps hp]at e1
   simp at e1
  ·exact hQ h' s.toks fun b o hb q=>kp b o (fun z=>hb (by simp[z])) q
 self:=fun _ _ _ _ st hQ=>a1t st.1 hQ
end
def nxS (t:dj):Nat->Nat
 | 0=>0
 | k+1=>t.place.getD k 0+1
section
variable {P:aO}{w:be}{A:bo}{E:af->ah->Prop}{s:ah}{I S:Addr}{o:Obj}{es:Array (Int×af)}{ep:Nat}{t:dj}
theorem v0h:∀ {l:List (Int×af)},k_ (dc P w) l->∃ms,eG (l.map (·.2)) ms/\∀k,k∈ms↔∃e∈l,(dc P w).is k e.2=true
 | [],_=>⟨[],.nil,fun k=>by simp⟩
 | e::l,h=>by
  obtain⟨ms,h1,h2⟩:=v0h h.tail
  obtain⟨⟨k,hk,_⟩,_⟩:=h.head
  obtain⟨tk,ev⟩:=kK hk
  refine⟨k::ms,by rw[aT,ev];exact .cons k tk h1,fun j=>?_⟩
  rw[aK,h2 j]
  constructor
  ·rintro(rfl | ⟨y,hy,q⟩)
   ·exact⟨e,.head _,hk⟩
   ·exact⟨y,.tail _ hy,q⟩
  ·rintro⟨y,hy,q⟩
   rcases aK.mp hy with rfl | hy
   ·exact .inl ((dc P w).inj _ j k q hk)
   ·exact .inr ⟨y,hy,q⟩
theorem m1r {ks:List Int}{Q:af->ah->Prop}(hh:A.handled=none)(hS:SetI P w s.heap S ks)(hk:ks.Nodup)
  (h:∀h' d I fp vs ms St,(∀b o,s.heap.get? b=some o->h'.get? b=some o)->eG vs ms->ms.Perm ks->Walks P w A I fp [I] vs.length (fun i v=>vs[i]? = some v) St->St 0 h'->(∀b∈fp,b=S∨s.heap.objs.size<=b)->s.heap.objs.size<=I->Q (.ref I) {s with heap:=h',drawn:=d}) :
  az (aH P w) A (iT (.ref S)) Q E s:=by
 obtain⟨o,es,ep,t,ho,ex,d,el,me,bd,fi,le,ld⟩:=hS
 obtain⟨⟨oc,od,oda,osl⟩,ho,ex,d⟩:∃o:Obj,s.heap.get? S=some o/\o.ExactSet/\o.data = .set es ep t:=⟨o,ho,ex,d⟩
 have hT:s.TypeIs (.ref S) "set" := ⟨_,ho,ex.1⟩
 have hlt:S<s.heap.objs.size:=aA ho
 obtain⟨ms,m1,m2⟩:=v0h el
 have mp:∀ {l:List (Int×af)},l.Perm es.toList->∃ms',eG (l.map (·.2)) ms'/\ms'.Perm ks:=fun{l} q=>by
  obtain⟨ms',a1,a2⟩:=v0h (el.perm q)
  have hl:ms'.length=ks.length:=by
   have:=iY a1
   rw[aw,q.length_eq,cn]at this
   omega
  refine⟨ms',a1,p0g hk (fun k kk=>?_) hl⟩
  obtain⟨e,he,z⟩:=(me k).mp kk
  exact(a2 k).mpr ⟨e,q.mem_iff.mpr he,z⟩
 refine mj hT jJ (b_ jJ hT t0a ?_)
 unfold Builtin.«frozenset.__iter__» lH
 refine ab (ab (aj (aj ?_)))
 unfold lI
 refine ab (ab (iG ho d fi (aj ?_)))
 unfold setDrawn iS
 refine ab (ab (dS ho d fi (ab (ab (dh (aj (aj ?_)))))))
 show az _ _ (ite ((!byT w&&(!t.plain&&decide (es.size > 1)))=true) (kF es.size (aQ es.size)>>=_) _) _ _ _
 have hz:es.size<=aN:=eQ bd
 have fin:∀(f:af) (h1:Heap) (dr:Drawn) (fp:List Addr) (vs:List af) (ms:List Int) (St:Nat->Heap->Prop),(∀b o,s.heap.get? b=some o->h1.get? b=some o)->s.heap.objs.size<=h1.objs.size->eG vs ms->ms.Perm ks ->
   Walks P w A h1.objs.size fp [h1.objs.size] vs.length (fun i v=>vs[i]? = some v) St->St 0 (h1.push (itO f 0 S es.size ep))->(∀b∈fp,b=S∨s.heap.objs.size<=b) ->
   az (aH P w) A.in1 (do let e <- setEpoch S;let x <- newFields "set_iterator" [f,db 0,Value.ref S,db (es.size:Nat),db (e:Nat)];ret x) (fun fin s'=>∃v,fin=Fin.done (Flow.ret v)/\∃T' r,s'.TypeIs v T'/\iR (Value.type T') (dX "__next__")=pure (some r)/\Q v s') E {s with heap:=h1,drawn:=dr}:=by
  intro f h1 dr fp vs ms St k1 k2 a1 a2 W st hb
  refine ab (wpAny_setEpoch_of (s:={s with heap:=h1,drawn:=dr}) (k1 _ _ ho) d fi ?_)
  unfold newFields
  refine ab (bL (aj ⟨_,rfl, "set_iterator",_,⟨_,aP _ rfl,rfl⟩,e0i.lookup,?_⟩) (by show 5<=aN+2;decide))
  exact h _ dr _ fp vs ms St (fun b o q=>aq _ (k1 b o q)) a1 a2 W st hb k2
 by_cases hdr:(!byT w&&(!t.plain&&decide (es.size > 1)))=true
 ·rw[if_pos hdr]
  refine ab (w0f _ _ (by simp) fun ps dr hp=>?_)
  have lp:∀p∈ps,p<es.size:=fun p q=>bv.mp (hp.mem_iff.mp q)
  have ll:ps.length=es.size:=by rw[hp.length_eq];simp
  refine ab (wpAny_newTuple ?_ (by rw[aw,ll];exact hz))
  have pp:(ps.filterMap fun p=>es[p]?).Perm es.toList:=(hp.filterMap _).trans (by rw[filterMap_getElem?_range])
  obtain⟨ms',a1,a2⟩:=mp pp
  have nT:s.heap.objs.size≠(s.heap.push {cls:=.type "tuple",data:=.seq (ps.map fun i=>db (i:Nat)).toArray}).objs.size:=by rw[cf];exact aR (c9 _)
  have nS:S≠(s.heap.push {cls:=.type "tuple",data:=.seq (ps.map fun i=>db (i:Nat)).toArray}).objs.size:=by rw[cf];exact aR (fM hlt)
  have W:=x0z (P:=P) (w:=w) (A:=A) hh nS nT d fi ps lp ll
  have el2:(ps.filterMap fun p=>es[p]?).length=((ps.filterMap fun p=>es[p]?).map (·.2)).length:=by rw[aw]
  rw[el2]at W
  refine fin (.ref s.heap.objs.size) _ dr [_,S,s.heap.objs.size] ((ps.filterMap fun p=>es[p]?).map (·.2)) ms' _ (fun b o q=>aq _ q) (by rw[cf];exact fN _) a1 a2 W ⟨aP _ rfl,aq _ (aq _ ho),aq _ (aP _ rfl)⟩ fun b hb=>?_
  rcases aK.mp hb with rfl | hb
  ·exact .inr (by rw[cf];exact fN _)
  ·rcases aK.mp hb with rfl | hb
   ·exact .inl rfl
   ·rw[aL.mp hb];exact .inr (aE _)
 ·rw[if_neg hdr]
  refine ab (aj ?_)
  have nS:S≠s.heap.objs.size:=aR hlt
  have hfp:∀b∈[s.heap.objs.size,S],b=S∨s.heap.objs.size<=b:=fun b hb=>by
   rcases aK.mp hb with rfl | hb
   ·exact .inr (aE _)
   ·exact .inl (aL.mp hb)
  cases hb:byT w with
  | true =>
   have pp:=b1e (w.params.setOrder S ep) es
   obtain⟨ms',a1,a2⟩:=mp pp
   refine fin (db 0) s.heap s.drawn [s.heap.objs.size,S] _ ms' _ (fun b o q=>q) (aE _) a1 a2 (w0g hh nS d fi _ (fun _=>0) fun i z hi hz' A' E' q hq=>h1w hb hz' d fi ?_) ⟨aP _ rfl,aq _ ho⟩ hfp
   rw[aM,gp,Option.map_map]at hq
   exact hq
  | false =>
   obtain⟨l1,l2⟩:=ld hb
   rw[hb]at hdr
   have hpl:(!t.plain&&decide (es.size > 1))=false:=by
    cases z:(!t.plain&&decide (es.size > 1))with
    | false=>rfl
    | true=>rw[z]at hdr;exact absurd rfl hdr
   have sz:t.place.size=es.size:=by
    simp only[SetTable.fits,ba,beq_iff_eq]at fi
    exact fi.1
   obtain⟨ms',a1,a2⟩:=mp (l:=es.toList) (.refl _)
   refine fin (db 0) s.heap s.drawn [s.heap.objs.size,S] _ ms' _ (fun b o q=>q) (aE _) a1 a2 (w0g hh nS d fi _ (nxS t) fun i z hi hz' A' E' q hq=>h1x hb hpl l1 hz' d fi ?_) ⟨aP _ rfl,aq _ ho⟩ hfp
   rw[aw,cn]at hi
   have hbl:bC t.place (nxS t i)=i:=by
    cases i with
    | zero=>exact z0k l2
    | succ k =>
     have lk:k<t.place.size:=by omega
     have:=z0l l2 lk
     simpa [nxS,kB,lk] using this
   rw[hbl]
   rw[aM,gp]at hq
   by_cases hi':i<es.size
   ·have g1:es[i]? = some es[i]:=cm hi'
    have g2:t.place[i]? = some t.place[i]:=cm (by omega)
    rw[g1]at hq ⊢
    rw[g2]
    have e3:t.place.getD i 0=t.place[i]:=by simp[kB,show i<t.place.size by omega]
    simp only[f7,nxS,e3]at hq
    exact hq
   ·have g1:es[i]? = none:=jQ (by omega)
    rw[g1]at hq ⊢
    exact hq
end
section
variable {P:aO}{w:be}{A:bo}{E:af->ah->Prop}{s:ah}{S:Addr}
theorem f1n {Q:Bool->ah->Prop}(hT:s.TypeIs (.ref S) "set")(h:Q false s):az (aH P w) A (eK (.ref S)) Q E s:=by
 unfold eK
 refine ab (gR hT PySem.F.slot_set_len.lookup ?_)
 generalize hid:("set.__len__" : String)=id0
 wp_delta
 rw[show splitId id0=some ("set", "__len__")from by subst hid;decide +kernel]
 subst hid
 refine ab (gr (T := "set") (b:=true) hT (by rw[jW];kernel_rfl) ?_)
 refine jN (fun z=>absurd z (by decide)) (fun _=>jN (fun _=>ab (fH hT (aj h))) (fun z=>absurd (by decide +kernel) z))
theorem o1c {ks:List Int}{R:eU->ah->Prop}(hh:A.handled=none)(hS:SetI P w s.heap S ks)(hk:ks.Nodup)(hz:ks.length<4096)(L:Addr)(hL:L≠S)(res:af)(c:Nat)(gL:s.heap.get? L=some {cls:=.type "list",data:=.seq #[] c})
  (hR:∀h' tk dr acc c' ms,(∀b o,b≠L->s.heap.get? b=some o->h'.get? b=some o)->h'.get? L=some {cls:=.type "list",dict:=none,data:=.seq acc c',slots:=#[]}->eG acc.toList ms->ms.Perm ks->R (.ok (.ret res)) {s with heap:=h',toks:=tk,drawn:=dr}) :
  az (aH P w) A.in1 (cy (.ref L) (.ref S) res)
   (fun fin s'=>match fin with | .done f=>R (.ok f) s' | .again c'=>c'.quiet=true/\cc (aH P w) A c' R s') (fun e s'=>R (.error e) s') s:=by
 have hT:s.TypeIs (.ref S) "set" := by
  obtain⟨o,_,_,_,ho,ex,_⟩:=hS
  exact⟨_,ho,ex.1⟩
 have lL:=aA gL
 unfold cy
 refine ab (fH (T := "set") hT ?_)
 have h1:dN (.ref L) (.ref S)=false:=by simp[dN,hL]
 have h2:(Value.type "set" == Value.type "list")=false:=by decide
 have h3:(Value.type "set" == Value.type "tuple")=false:=by decide
 simp only[h1,h2,h3,g9,eh,if_false]
 refine ab (m1r (A:=A.in1) hh hS hk fun h' dr I fp vs ms St kp a1 a2 W st hb hI=>?_)
 have nf:L∉fp:=fun q=>by
  rcases hb L q with e | e
  ·exact hL e
  ·exact absurd lL (Nat.not_lt.mpr e)
 have vl:vs.length<=aN:=by
  have:=iY a1
  have:=a2.length_eq
  exact eQ (show vs.length<fL by unfold fL;omega)
 have key:∀(h:Heap) (c1:Nat),St 0 h->(∀b o,b≠L->s.heap.get? b=some o->h.get? b=some o)->h.get? L=some {cls:=.type "list",data:=.seq #[] c1} ->
   cc (aH P w) A (.builtin "list.extend.loop" ⟨[.ref L,.ref I,res],[]⟩) R {s with heap:=h,drawn:=dr}:=by
  intro h c1 st' hk' gL'
  refine codeAny_extend_loopS W.toS vl L nf res vs.length 0 _ #[] c1 rfl (bg _) st' gL' (ItemsOf.nil _) fun z acc c2 hm gz ha=>?_
  rw[Moved.eq_with hm]
  refine hR z.heap z.toks dr acc c2 ms (fun b o hb' e=>hm.heap b o (fun q=>?_) (hk' b o hb' e)) gz ?_ a2
  ·rcases aK.mp q with e' | q
   ·exact hb' e'
   ·have:=aA e
    rw[aL.mp q]at this
    exact absurd this (Nat.not_lt.mpr hI)
  ·have:acc.toList=vs:=by
    refine cW fun j=>?_
    rw[gp]
    by_cases hj:j<acc.size
    ·have g:acc[j]? = some acc[j]:=cm hj
     rw[g];exact(ha.2 j _ g).symm
    ·have l2:=ha.1
     rw[jQ (by omega),cQ (by omega)]
   rw[this];exact a1
 have g1:=kp _ _ gL
 refine ab (cU (f1n (s:={s with heap:=h',drawn:=dr}) (by obtain⟨o,ho,ec⟩:=hT;exact⟨o,kp _ _ ho,ec⟩) ?_))
 refine jN (fun _=>?_) (fun _=>aj ⟨gb de _,key _ c st (fun b o _ e=>kp b o e) g1⟩)
 refine ab (cH (ab ?_))
 show az _ _ (ir L (·.push .none)>>=fun _=>ir L (·.pop)) _ _ _
 refine ab (eC g1 rfl ?_)
 have g2:=b6 (cv (·.push Value.none)) g1 rfl
 refine eC (hz:=by seq_fits) g2 rfl ?_
 have g3:=b6 (cv (·.pop)) g2 rfl
 refine aj ⟨gb de _,key _ _ (W.frame 0 _ _ st fun b hb o e=>?_) (fun b o hb e=>?_) g3⟩
 ·have nb:L≠b:=fun z=>nf (z▸hb)
  exact(bU _ _ nb).trans ((bU _ _ nb).trans e)
 ·exact(bU _ _ (cM hb)).trans ((bU _ _ (cM hb)).trans (kp _ _ e))
theorem d1e {ks:List Int}{R:List af->ah->Prop}(hh:A.handled=none)(hS:SetI P w s.heap S ks)(hk:ks.Nodup)(hz:ks.length<4096)
  (h:∀h' tk dr vs ms,(∀b o,s.heap.get? b=some o->h'.get? b=some o)->s.heap.objs.size<=h'.objs.size->eG vs ms->ms.Perm ks->R vs {s with heap:=h',toks:=tk,drawn:=dr}):az (aH P w) A (collect (.ref S)) R E s:=by
 have lS:S<s.heap.objs.size:=by obtain⟨o,_,_,_,ho,_⟩:=hS;exact aA ho
 unfold collect
 refine ab (wpAny_runValue (gU entry_proto_collect' ?_))
 rw[eO PySem.F.plain_proto_collect _]
 refine(show az _ A.in1 (kU []>>=fun l=>kJ (.builtin "list.__iadd__" ⟨[l,.ref S],[]⟩)) _ _ s from ab (bL (aj ⟨gb jo _,gU entry_list_iadd' ?_⟩)))
 rw[eO jo _]
 have gL:(s.heap.push {cls:=.type "list",data:=.seq ([]:List af).toArray}).get? s.heap.objs.size=some {cls:=.type "list",data:=.seq #[]}:=aP _ rfl
 show az _ A.in1 (cy (.ref s.heap.objs.size) (.ref S) (.ref s.heap.objs.size)) _ _ _
 have key:=o1c (A:=A) (s:={s with heap:=s.heap.push {cls:=.type "list",data:=.seq ([]:List af).toArray}})
  (R:=fun(q:eU) (z:ah)=>∃(h':Heap) (tk:Nat) (dr:Drawn) (acc:Array af) (c':Nat) (ms:List Int),q = .ok (.ret (.ref s.heap.objs.size))/\z={s with heap:=h',toks:=tk,drawn:=dr}/\(∀b o,s.heap.get? b=some o->h'.get? b=some o)/\h'.get? s.heap.objs.size=some {cls:=.type "list",dict:=none,data:=.seq acc c',slots:=#[]}/\eG acc.toList ms/\ms.Perm ks)
  hh (hS.kept fun o e=>aq _ e) hk hz s.heap.objs.size (ca lS) (.ref s.heap.objs.size) 0 gL
  (fun h' tk dr acc c' ms k1 g a1 a2=>⟨h',tk,dr,acc,c',ms,rfl,rfl,fun b o e=>k1 b o (aR (aA e)) (aq _ e),g,a1,a2⟩)
 refine cP key (fun fin z x=>?_) fun e z x=>?_
 ·cases fin with
  | done f =>
   obtain⟨h',tk,dr,acc,c',ms,e,rfl,k1,g,a1,a2⟩:=x
   cases e
   exact(show az _ A (load s.heap.objs.size>>=_) _ _ _ from ab (lV g (aj (h h' tk dr _ ms k1 (bW (aA g)) a1 a2))))
  | again c1 =>
   refine⟨x.1,fI x.2 fun q z2 y=>?_⟩
   obtain⟨h',tk,dr,acc,c',ms,rfl,rfl,k1,g,a1,a2⟩:=y
   exact(show az _ A (load s.heap.objs.size>>=_) _ _ _ from ab (lV g (aj (h h' tk dr _ ms k1 (bW (aA g)) a1 a2))))
 ·obtain⟨_,_,_,_,_,_,e',_⟩:=x
  cases e'
theorem l1e {ks:List Int}{Q:af->ah->Prop}(hh:A.handled=none)(hS:SetI P w s.heap S ks)(hk:ks.Nodup)(h64:ks.length<64)
  (h:∀h' tk dr D out e ns',(∀b o,s.heap.get? b=some o->h'.get? b=some o)->s.heap.objs.size<=D->h'.get? D=some (seqObj "list" out e)->eG out.toList ns'->ns'.Perm ks->ns'.Pairwise (· <= ·)->Q (.ref D) {s with heap:=h',toks:=tk,drawn:=dr}) :
  az (aH P w) A (call (.builtin "sorted") [.ref S]) Q E s:=by
 refine Calls.call_function_entry kind_sorted plain_sorted entry_sorted (args_sorted1 _) ?_
 unfold Builtin.«sorted»
 refine ab (m:=checkCount "sorted" 1 1 _) (aj ?_)
 refine ab (d1e (A:=A.in1) hh hS hk (by omega) fun h' tk dr vs ms k1 sz a1 a2=>?_)
 have l1:vs.length<64:=by
  have:=iY a1
  have:=a2.length_eq
  omega
 refine ab (wpAny_newList ?_ (eQ (by unfold fL;omega)))
 have gD:(h'.push (seqObj "list" vs.toArray 0)).get? h'.objs.size=some (seqObj "list" vs.toArray 0):=aP _ rfl
 refine ab (cU (b_ slot_list_sort ⟨_,gD,rfl⟩ entry_list_sort (list_sort_tree (s:={s with heap:=h'.push (seqObj "list" vs.toArray 0),toks:=tk,drawn:=dr}) gD a1 l1 fun out ns' b1 b2 b3=>⟨_,rfl,?_⟩) (args_list_sort _)))
 obtain⟨e,ge⟩:=sortedHeap_at (out:=out) gD
 refine aj ⟨_,rfl,h _ tk dr h'.objs.size out e ns' (fun b o q=>?_) sz ge b1 (b2.trans a2) b3⟩
 have lb:=aA (k1 b o q)
 rw[sortedHeap_old (aR lb) (by rw[size_push'];exact fM lb)]
 exact aq _ (k1 b o q)
end
theorem Inv.drawn {X:Cx}{pins:List (Addr×Obj)}{σ:List (Option V)}{H:Hp}{s:ah}(I:Inv X pins σ H s)(d:Drawn):Inv X pins σ H {s with drawn:=d} :=
 ⟨I.ok,I.os,I.bare,I.base,I.loc,I.cell,I.free,I.freeC,I.pin,I.hok,I.len⟩
section
variable {K:aa}{ts:TA}{as:AA}
theorem n0d:∀ {xs ys:List Int},xs.Pairwise (· < ·)->ys.Pairwise (· < ·)->(∀x,x∈xs↔x∈ys)->xs=ys
 | [],[],_,_,_=>rfl
 | [],y::ys,_,_,h=>absurd ((h y).mpr (.head _)) (by simp)
 | x::xs,[],_,_,h=>absurd ((h x).mp (.head _)) (by simp)
 | x::xs,y::ys,h1,h2,h=>by
  obtain⟨a1,b1⟩:=cR.mp h1
  obtain⟨a2,b2⟩:=cR.mp h2
  have e:x=y:=by
   rcases aK.mp ((h x).mp (.head _))with e | e
   ·exact e
   ·rcases aK.mp ((h y).mpr (.head _))with e' | e'
    ·exact e'.symm
    ·have:=a2 x e
     have:=a1 y e'
     omega
  subst e
  congr 1
  refine n0d b1 b2 fun z=>?_
  constructor
  ·intro hz
   rcases aK.mp ((h z).mp (.tail _ hz))with e | e
   ·have:=a1 z hz;omega
   ·exact e
  ·intro hz
   rcases aK.mp ((h z).mpr (.tail _ hz))with e | e
   ·have:=a2 z hz;omega
   ·exact e
end
end L2
namespace L2
open PySem PySem.Spec PyProof.Rows PySem.W
end L2
namespace L2
open PySem PySem.Spec PyProof.Rows
section
variable {X:Cx}{K:aa}
open Classical in
noncomputable def eqW (K:aa)(H:Hp)(d:D)(w:af):Bool:=decide (∃t e,RelV t w/\RepD K H t e/\eqD e d=true)
open Classical in
theorem h1c {pins:List (Addr×Obj)}{σ:St}{s:ah}{H:Hp}{d e:D}{t:V}{w:af}(I:Inv X pins σ H s)(r:RelV t w)(h:RepD X.K H t e):eqW X.K H d w=eqD e d:=by
 unfold eqW
 cases q:eqD e d with
 | true=>exact decide_eq_true ⟨t,e,r,h,q⟩
 | false =>
  refine decide_eq_false ?_
  rintro⟨t',e',r',h',q'⟩
  have:=r'.inj r
  subst this
  rw[m0n I h' h]at q'
  rw[q]at q';cases q'
theorem v0n {pins:List (Addr×Obj)}{σ:St}{s:ah}{H:Hp}{d:D}(I:Inv X pins σ H s):∀ {xs:List V} {us:List af} {ds:List D},Vals xs us->RepDs X.K H xs ds->us.any (eqW X.K H d)=ds.any fun e=>eqD e d
 | [],_,[],.nil,_=>rfl
 | v::xs,_,e::ds,.cons h t,r=>by
  unfold RepDs at r
  rw[cz,cz,v0n I t r.2,h1c I h r.1]
 | [],_,e::ds,.nil,r=>by unfold RepDs at r;exact r.elim
 | v::xs,_,[],.cons h t,r=>by unfold RepDs at r;exact r.elim
end
section
variable {X:Cx}{K:aa}
def rInL (neg:Bool)(K:aa):R2:=fun x y H Q=>∃p xs d ds,y = .ref p/\SqL K H p xs/\RepD K H x d/\RepDs K H xs ds/\(∀e∈ds,e.depth<=60)/\Q (.bl (if neg then !(ds.any fun e=>eqD e d)else ds.any fun e=>eqD e d)) H
theorem g1w {pins:List (Addr×Obj)}{σ:St}{s:ah}{H:Hp}(hu:X.A.units+64<d9)(I:Inv X pins σ H s){x:V}{v:af}{xs:List V}{its:List af}{d:D}{ds:List D}(r:Vals xs its)(rx:RelV x v)(rd:RepD X.K H x d)(rds:RepDs X.K H xs ds)(ha:∀e∈ds,e.depth<=60) :
  ∀y,y∈its.toArray->eL X.A.in1 s y v (eqW X.K H d y):=fun w hw=>by
 have hw':w∈its:=by simpa using hw
 obtain⟨j,hj,rfl⟩:=cp hw'
 have hl:=r.length
 have hl2:=rds.length
 obtain⟨z,e1,e2⟩:=r.get (i:=j) (x:=xs[j]'(by omega)) (ao _)
 rw[ao hj]at e1
 cases e1
 obtain⟨t,g1,g2⟩:=rds.get (i:=j) (d:=ds[j]'(by omega)) (ao _)
 rw[ao (by omega)]at g1
 cases g1
 rw[h1c I e2 g2]
 exact(w0t I 60 (ha ds[j] (dy _)) (by rw[i0j];omega) e2 rx g2 rd).2
theorem l1y (K:aa)(hu:X.A.units+64<d9)(hK:X.K=K:=by rfl):OpR X (cA .In) (rInL false K):=by
 subst hK
 intro pins s σ H x y v u Q I rx ry h
 obtain⟨p,xs,d,ds,rfl,hq,rd,rds,ha,q⟩:=h
 cases ry
 obtain⟨its,r,pl,hz⟩:=I.list hq
 refine lg (eqW X.K H d) pl.isList (g1w hu I r rx rd rds ha) ⟨.bl _,H,I,?_,q⟩
 show RelV _ (Value.bool (its.toArray.any (eqW X.K H d)))
 rw[lq,v0n I r rds]
 rfl
theorem s0d (K:aa)(hu:X.A.units+64<d9)(hK:X.K=K:=by rfl):OpR X (cA .NotIn) (rInL true K):=by
 subst hK
 intro pins s σ H x y v u Q I rx ry h
 obtain⟨p,xs,d,ds,rfl,hq,rd,rds,ha,q⟩:=h
 cases ry
 obtain⟨its,r,pl,hz⟩:=I.list hq
 refine ko (eqW X.K H d) pl.isList (g1w hu I r rx rd rds ha) ⟨.bl _,H,I,?_,q⟩
 show RelV _ (Value.bool (!its.toArray.any (eqW X.K H d)))
 rw[lq,v0n I r rds]
 rfl
end
section
variable {K:aa}
@[irreducible] def gInL (neg:Bool):R->R->AE:=fun r1 r2 ρ q=>match view ρ r1,view ρ r2 with
 | some d,some (.lst ds)=>(∀e∈ds,e.depth<=60)/\q (.d (.bl (if neg then !(ds.any fun e=>eqD e d)else ds.any fun e=>eqD e d))) ρ
 | _,_=>False
theorem l0o {neg:Bool}{r1 r2:R}{ρ:En}{q:Ko}{d:D}{ds:List D}{b:Bool}(h1:view ρ r1=some d)(h2:view ρ r2=some (.lst ds))(hd:∀e∈ds,e.depth<=60)(hb:(ds.any fun e=>eqD e d)=b)(hq:q (.d (.bl (if neg then !b else b))) ρ):gInL neg r1 r2 ρ q:=by
 unfold gInL
 rw[h1,h2]
 subst hb
 exact⟨hd,hq⟩
theorem u0l (neg:Bool):OpOk K (rInL neg K) (gInL neg):=by
 intro F σ ρ H x y r1 r2 q Q a h1 h2 h b
 unfold gInL at h
 split at h
 ·rename_i d ds e1 e2
  obtain⟨l,vs,rfl,sq,rd⟩:=e0g a h2 e2
  exact⟨l,vs,d,ds,rfl,sq,f0p a h1 e1,rd.same d0b,h.1,b.bl a h.2⟩
 ·exact h.elim
end
end L2
namespace L2
open PySem PySem.Spec PyProof.Rows PySem.W
end L2
namespace L2
open PySem PySem.Spec PyProof.Rows
theorem t0d (elt target iter:Expr)(ifs:List Expr)(scope:cT)(pos:Pos)(it:af)(D:Addr)(env:Env) :
  gy (.SetComp elt [⟨target,iter,ifs,0⟩] scope pos) 0 it (.ref D) env=(do
   dU iter.pos
   match <- en it with
   | none=>pure (.done .next)
   | some v =>
    cE target it v
    dA target env v
    let mut ok:=true
    for c in ifs do
     if ok then ok <- fU c env (eval c env)
    if ok then
     (do
      let v <- eval elt env
      dU elt.pos
      let _ <- call (.builtin "set.add") [.ref D,v])
    kJ (.compLoop (.SetComp elt [⟨target,iter,ifs,0⟩] scope pos) 0 it (.ref D) env)):=by rfl
section
variable {P:aO}{w:be}{A:bo}{E:af->ah->Prop}{R:eU->ah->Prop}{s:ah}
theorem i0p {elt target iter ifs rest scope pos it acc env}
  (h0:cc (aH P w) A (.compLoop (.SetComp elt (⟨target,iter,ifs,0⟩::rest) scope pos) 0 it acc env) R s)
  (h:az (aH P w) A (iT it) (fun it' s'=>cc (aH P w) A (.compLoop (.SetComp elt (⟨target,iter,ifs,0⟩::rest) scope pos) 0 it' acc env) R s')
   (notedBy (aH P w) A env fun x s'=>R (.error x) s') s) :
  cc (aH P w) A (.compStart (.SetComp elt (⟨target,iter,ifs,0⟩::rest) scope pos) 0 it acc env) R s:=by
 refine mT ?_
 show az _ A ((kG (.SetComp elt (⟨target,iter,ifs,0⟩::rest) scope pos) 0 it acc env).onRaise (fun x=>do gx x env;dU mS)) _ _ s
 refine wpAny_notedAt ?_
 unfold kG
 show az _ A (ask>>=_) _ _ s
 refine ab (dh (wpAny_ite ?_))
 split
 ·first
   | exact ab (aj (aj (And.intro rfl h0)))
   | exact aj (And.intro rfl h0)
 ·first
   | exact ab (cH (ab (b9 (ab (cP h (fun it' s' h'=>aj (And.intro rfl h')) fun _ _ x=>x)))))
   | (refine ab (cH ?_);show az _ _ (dU iter.pos>>=_) _ _ s;exact ab (b9 (ab (cP h (fun it' s' h'=>aj (And.intro rfl h')) fun _ _ x=>x))))
theorem f1f {q:af->ah->Prop}(h:q (.ref s.heap.objs.size) {s with heap:=s.heap.push (setO w)}):az (aH P w) A (newSet (.type "set")) q E s:=by
 unfold newSet iS
 refine ab (ab (dh (aj ?_)))
 dsimp only;simp only[newObj]
 exact ab (wpAny_alloc (aj h))
theorem e1h {D:Addr}{ks:List Int}{k:Int}{t:Tok}{Q:af->ah->Prop}(hS:SetI P w s.heap D ks)(hr:ks.length+1<fL)
  (h:∀h',bH D s.heap h'->SetI P w h' D (dJ ks k)->Q .none {s with heap:=h',toks:=s.toks+1}):az (aH P w) A (call (.builtin "set.add") [.ref D,.int k t]) Q E s:=by
 have hT:s.TypeIs (.ref D) "set" := by
  obtain⟨o,_,_,_,ho,ex,_⟩:=hS
  exact⟨_,ho,ex.1⟩
 refine b_ PySem.F.slot_set_add hT PySem.F.entry_set_add ?_ (PySem.F.args_set_add_2 _ _)
 unfold Builtin.«set.add» lJ
 simp only[List.isEmpty_nil,bind_assoc]
 unfold lK setAdd
 refine ab (aj ?_)
 try dsimp only
 refine ab (aj ?_)
 try dsimp only
 refine ab ?_
 refine cU ?_
 refine ab ((dc P w).pyHash (k:=k) (intKind_is _ _ _ _) ?_)
 refine o1h (s:={s with toks:=s.toks+1}) (intKind_is _ _ _ _) rfl hS hr fun h' b hsb hS'=>?_
 show az _ _ (ret Value.none) _ _ _
 exact aj ⟨_,rfl,h h' hsb hS'⟩
end
def ddl (ys:List Int):List Int:=ys.foldl dJ []
theorem m0s (ys:List Int)(k:Int):ddl (ys++[k])=dJ (ddl ys) k:=by unfold ddl;rw[iD];rfl
theorem o1e (ks:List Int)(k:Int):(dJ ks k).length<=ks.length+1:=by
 by_cases h:k∈ks
 ·rw[j1v h];omega
 ·rw[c1w h,aJ];exact aE _
theorem q0f {p:List Int->Prop}(h0:p [])(h1:∀ys k,p ys->p (ys++[k]))(ys:List Int):p ys:=by
 rw[<- List.reverse_reverse ys]
 induction ys.reverse with
 | nil=>exact h0
 | cons k zs ih=>rw[List.reverse_cons];exact h1 _ _ ih
theorem h1d (ys:List Int):(ddl ys).length<=ys.length:=by
 refine q0f (p:=fun ys=>(ddl ys).length<=ys.length) (aE _) (fun ys k h=>?_) ys
 rw[m0s,aJ]
 have:=o1e (ddl ys) k
 simp only[bN]
 omega
theorem c1v (ys:List Int)(x:Int):x∈ddl ys↔x∈ys:=by
 refine q0f (p:=fun ys=>x∈ddl ys↔x∈ys) jv (fun ys k h=>?_) ys
 rw[m0s,n1f,h,a7,aL]
theorem o0e (ys:List Int):(ddl ys).Nodup:=by
 refine q0f (p:=fun ys=>(ddl ys).Nodup) lT (fun ys k h=>?_) ys
 rw[m0s]
 by_cases hk:k∈ddl ys
 ·rw[j1v hk];exact h
 ·rw[c1w hk,dL]
  exact⟨h,by simp,fun a ha b hb e=>hk (by rw[aL.mp hb]at e;exact e▸ha)⟩
section
variable {P:aO}{w:be}{A:bo}{R:eU->ah->Prop}{s:ah}
theorem t0e {elt tg iter:Expr}{ifs:List Expr}{scope:cT}{pos:Pos}{it:af}{D:Addr}{env:Env}(J:Nat->ah->Prop)
  (turn:∀n s,J n s->az (aH P w) A (en it) (fun r s1=>match r with
   | none=>R (.ok .next) s1
   | some v=>az (aH P w) A (cE tg it v) (fun _ s2=>az (aH P w) A (dA tg env v) (fun _ s3 =>
     az (aH P w) A (forIn ifs true fun c r=>if r=true then do let ok <- fU c env (eval c env);pure (ForInStep.yield ok)else pure (ForInStep.yield r)) (fun ok s4 =>
      if ok=true then az (aH P w) A (eval elt env) (fun v s5=>az (aH P w) A (call (.builtin "set.add") [.ref D,v]) (fun _ s7=>∃m,m<n/\J m s7) (fun _ _=>False) s5) (fun _ _=>False) s4
      else ∃m,m<n/\J m s4) (fun _ _=>False) s3) (fun _ _=>False) s2) (fun _ _=>False) s1) (fun _ _=>False) s)
  (n:Nat) (h:J n s):cc (aH P w) A (.compLoop (.SetComp elt [⟨tg,iter,ifs,0⟩] scope pos) 0 it (.ref D) env) R s:=by
 have no:∀ {α:Type} {t:Sem α} {Q Q':α->ah->Prop} {E:af->ah->Prop} {s:ah},az (aH P w) A t Q (fun _ _=>False) s->(∀a s,Q a s->Q' a s)->az (aH P w) A t Q' E s :=
  fun h hq=>cP h hq fun _ _ f=>f.elim
 refine gJ rfl J (fun n s hJ=>?_) n h
 show az _ A ((gy (.SetComp elt [⟨tg,iter,ifs,0⟩] scope pos) 0 it (.ref D) env).onRaise (fun x=>do gx x env;fC x)) _ _ s
 refine h_ ?_
 rw[t0d]
 refine ab (b9 (ab (no (turn n s hJ) fun r s1 h1=>?_)))
 cases r with
 | none=>exact aj h1
 | some v =>
  refine ab (no h1 fun _ s2 h2=>ab (no h2 fun _ s3 h3=>ab (no h3 fun ok s4 h4=>?_)))
  cases ok with
  | false=>exact aj ⟨rfl,h4⟩
  | true=>exact ab (ab (no h4 fun x s5 h5=>ab (b9 (ab (no h5 fun _ s7 h7=>aj (aj ⟨rfl,h7⟩))))))
end
def h1f (J:It)(n:Nat)(js:List Nat)(g:TG)(tc:TT)(te:TE)(R:List Int->Hp->Prop)(σ:St)(H1:Hp):Prop:=∃W:Nat->Nat->List Int->Hp->Prop,(∃m,W 0 m [] H1)/\∀i m ys H,W i m ys H ->
 (J.stop i H/\R ys H) ∨
 (J.go i H/\ys.length+1<4096/\∃N:List Int->Hp->Prop,(∀zs H',N zs H'->∃m',m'<m/\W (i+1) m' zs H')/\∀x H',J.yld i H x H'->g x (bst n σ js) H' fun σ2 H2=>σ2.drop n=capt σ js/\tc σ2 H2 fun b H3 =>
  if b=true then te σ2 H3 fun v H4=>∃k:Int,v = .int k/\N (ys++[k]) H4 else N ys H3)
def a1g (n:Nat)(js:List Nat)(wi:TI)(g:TG)(tc:TT)(te:TE):TE:=fun σ H Q=>wi σ H fun J H1=>h1f J n js g tc te (fun ys H'=>(ddl ys).length<64/\∀ns':List Int,ns'.Pairwise (· < ·)->(∀x,x∈ns'↔x∈ys)->∀l,H' l=none->Q (.ref l) (upd H' l (.lst (ns'.map V.int)))) σ H1
def k1m (X:Cx)(pins:List (Addr×Obj))(σ:St)(Q:List Int->Hp->Prop)(C:Addr)(acc:af)(s':ah):Prop :=
 ∃(D:Addr) (H:Hp) (m:Str->Option af) (ys:List Int),acc = .ref D/\s'.heap.Ns C m/\Inv X pins σ H s'/\H C=none/\X.s₀.heap.objs.size<=C/\C≠X.env.locals/\(∀x d,X.env.cells.lookup x=some d->d≠C)/\(∀p∈X.pn++pins,p.1≠C)/\D≠C/\SetI X.prog X.w s'.heap D (ddl ys)/\Q ys H
section
variable {X:Cx}
theorem v0q {elt tg iter:Expr}{ifs:List Expr}{scope:cT}{pos:Pos}{own:List Str}{js:List Nat}{g:TG}{tc:TT}{te:TE}{Q:List Int->Hp->Prop}{pins:List (Addr×Obj)}{σ:St}{s2:ah}{itv:af}{E:af->ah->Prop}
  {RR:af->Addr->eU->ah->Prop} (hc:X.calm=true) (B:Blk X scope own js) (hg:∀s H C fp,(own++capN X.N js).Nodup->PG (blk X scope (own++capN X.N js) s H C fp) tg g) (ht:∀s H C fp,PTs (blk X scope (own++capN X.N js) s H C fp) ifs tc)
  (he:∀s H C fp,PE (blk X scope (own++capN X.N js) s H C fp) elt te)
  (h:PIE X pins σ tg (fun J H1=>h1f J own.length js g tc te Q σ H1) itv s2)
  (hR:∀C acc s',k1m X pins σ Q C acc s'->RR acc C (.ok .next) s') :
  az (aH X.prog X.w) X.A (newSet (.type "set")) (fun acc s3=>az (aH X.prog X.w) X.A (ib scope X.env.globals (e0f scope X.env) [] X.env.qual none .none (some X.env)) (fun cenv s4 =>
   cc (aH X.prog X.w) X.A (.compStart (.SetComp elt [⟨tg,iter,ifs,0⟩] scope pos) 0 itv acc {cenv with scope:=iu scope X.env}) (RR acc cenv.locals) s4) E s3) E s2:=by
 obtain⟨it,fp,tn,J,H2,rfl,I2,T,st2,f2,W,⟨m0,w0⟩,turn⟩:=h
 refine f1f (ft B.nocell (by intro y hy;simp at hy) (fun h1 hns1 hsb1=>?_) B.kind)
 have hnew:SetI X.prog X.w (s2.heap.push (setO X.w)) s2.heap.objs.size []:=e1g s2.heap
 generalize hPu:s2.heap.push (setO X.w)=Pu at hns1 hsb1 hnew ⊢
 dsimp only at hns1 hsb1 ⊢
 have hDC:Pu.objs.size=s2.heap.objs.size+1:=by rw[<- hPu,cf]
 have hbig:=I2.big
 generalize hD:s2.heap.objs.size=D at hDC hnew hbig ⊢
 generalize hC:Pu.objs.size=C at hns1 hsb1 hDC ⊢
 have ltDC:D<C:=by rw[hDC];exact c9 D
 have neDC:D≠C:=aR ltDC
 have keep1:∀b o,s2.heap.get? b=some o->h1.get? b=some o:=fun b o e=>by
  have hb:b<D:=by rw[<- hD];exact aA e
  have hb2:b≠C:=aR (c7 hb ltDC)
  refine(hsb1.2 b hb2).trans (aq _ ?_)
  rw[<- hPu]
  exact aq _ e
 have gD1:SetI X.prog X.w h1 D []:=hnew.kept fun o e=>(hsb1.2 D neDC).trans (aq _ e)
 have szD:s2.heap.objs.size<=D:=fA hD
 have szC:s2.heap.objs.size<=C:=aW szD (bW ltDC)
 have old:∀ {b:Addr},b<s2.heap.objs.size->b≠D/\b≠C:=fun hb=>⟨aR (aU hb szD),aR (aU hb szC)⟩
 have fpo:∀b∈fp,∃o,s2.heap.get? b=some o:=fun b hb=>let ⟨o,e,_⟩:=T.obj 0 _ st2 b hb;⟨o,e⟩
 have fpD:∀b∈fp,b≠D/\b≠C:=fun b hb=>by
  obtain⟨o,e⟩:=fpo b hb
  exact old (aA e)
 have clD:∀x d,X.env.cells.lookup x=some d->d≠D/\d≠C:=fun x d e=>by
  obtain⟨v,o,ho,_⟩:=I2.cell x d e
  exact old (aA ho)
 have pinD:∀p∈X.pn++pins,p.1≠D/\p.1≠C:=fun p hp=>by
  exact old (aA (I2.pin p hp).1)
 have locD:D≠X.env.locals/\C≠X.env.locals:=by
  exact⟨(old I2.lt).1.symm,(old I2.lt).2.symm⟩
 let Y:=blk X scope (own++capN X.N js) s2 H2 C fp
 have IB:Inv Y [] (bst own.length σ js) H2 {s2 with heap:=h1,toks:=s2.toks+([]:List (Str×af)).length}:=r0p B I2 f2 fpo szC hns1 keep1
 have fpB:∀ {H':Hp} {pl:List (Addr×Obj)},(∀b∈fp,H' b=none)->(∀p∈pl,p.1=D)->∀b∈fp,FpOk Y pl H' b:=fun{H' pl} hn hp b hb=>by
  obtain⟨f0,f1,f3,f4,f5,f6⟩:=f2 b hb
  refine⟨hn b hb,(fpD b hb).2,fun z=>?_,.inl hb,fun x c e=>f5 x c (d0h e),fun p q=>?_⟩
  ·rcases aK.mp (I2.stkSub b z)with z | z
   ·exact f1 z
   ·exact f3 z
  ·have q':p∈pl:=by simpa [Y,blk] using q
   rw[hp p q']
   exact(fpD b hb).1.symm
 have clB:∀x d,Y.env.cells.lookup x=some d->d≠D:=fun x d e=>(clD x d (d0h e)).1
 have notFs:D∉Y.fs:=fun z=>by
  obtain⟨_,o,ho,_⟩:=IB.ok.funs.mem z
  exact(old (aA (show s2.heap.get? D=some o from ho))).1 rfl
 have loop:∀s3:ah,s3={s2 with heap:=h1,toks:=s2.toks+([]:List (Str×af)).length} ->
   cc (aH X.prog X.w) X.A (.compLoop (.SetComp elt [⟨tg,iter,ifs,0⟩] scope pos) 0 (.ref it) (.ref D) (jZ scope (e0f scope X.env) C X.env)) (RR (.ref D) C) s3:=by
  rintro s3 rfl
  refine t0e (fun n s'=>∃(i:Nat) (ys:List Int) (H':Hp),Inv Y [] (bst own.length σ js) H' s'/\tn i s'.heap/\(∀b∈fp,H' b=none)/\H' D=none /\
   SetI X.prog X.w s'.heap D (ddl ys)/\W i n ys H') ?_ m0 ⟨0,[],H2,IB,T.keep 0 _ _ st2 (fun b hb o e=>keep1 b o e),fun b hb=>(f2 b hb).1,I2.hok.fresh szD,gD1,w0⟩
  rintro n s3 ⟨i,ys,H3,I3,st3,fr3,hD3,g3,w3⟩
  obtain⟨od,ho3,ncell⟩:∃od,s3.heap.get? D=some od/\∀v,od.data ≠ .cell v:=by
   obtain⟨o,es,ep,t,ho,_,hda,_⟩:=g3
   exact⟨o,ho,fun v z=>by rw[hda]at z;cases z⟩
  have dat3:∀ {h:Heap},h.get? D=some od->SetI X.prog X.w h D (ddl ys):=fun e=>g3.kept fun o e'=>by rw[ho3]at e';cases e';exact e
  have I3p:Inv Y [(D,od)] (bst own.length σ js) H3 s3:=I3.pins_of fun p hp=>by
   have e:p=(D,od):=by simpa using hp
   subst e
   exact⟨ho3,hD3,neDC,notFs,ncell⟩
  have f3:∀b∈fp,FpOk Y [(D,od)] H3 b:=fpB fr3 fun p hp=>by
   have e:p=(D,od):=by simpa using hp
   rw[e]
  rcases turn i n ys H3 w3 with⟨stop,qn⟩ | ⟨go,hz,N,hN,step⟩
  ·refine thn (T.done Y rfl rfl rfl hc i _ s3 _ H3 (fun _ _=>False) I3p f3 st3 stop) fun r s4 ⟨hr,I4⟩=>?_
   subst hr
   refine hR C _ s4 ?_
   have g4:=(I4.pin (D,od) (by simp[Y,blk])).1
   obtain⟨m,hn4,_⟩:=id I4.loc
   have un:Un (frs X.stack) fp H2 H3 s2.heap s4.heap:=I4.base
   have I5:Inv X pins σ H3 s4:=I2.call' I4.os un I4.hok I4.bare fun b hb=>let ⟨_,b1,_,b3,b4,b5⟩:=f2 b hb;⟨b3,b1,b4,b5⟩
   exact⟨D,_,m,ys,rfl,hn4,I5,I4.free,aW I2.sz szC,locD.2,fun x d e=>(clD x d e).2,fun p hp=>(pinD p hp).2,neDC,dat3 g4,qn⟩
  ·refine thn (T.item Y rfl rfl rfl hc i _ s3 _ H3 (fun _ _=>False) I3p f3 st3 go) fun r s4 ⟨u,hr,h4⟩=>?_
   subst hr
   refine thn h4 fun _ s5 ⟨x,H5,I5,r5,y5,st5,fr5⟩=>?_
   have f5:∀b∈fp,FpOk Y [(D,od)] H5 b:=fun b hb=>⟨fr5 b hb,(f3 b hb).2⟩
   have I5':=I5.pinned f5 (T.obj _ _ st5)
   refine thn (hg s2 H2 C fp B.nd _ s5 _ H5 x u _ I5' r5 (step x H5 y5)) fun _ s6 ⟨σ6,H6,I6,d6,q6⟩=>?_
   refine thn (ht s2 H2 C fp _ s6 σ6 H6 _ I6 q6) fun ok s7 ⟨H7,I7,q7⟩=>?_
   have after:∀ {s8:ah} {H8:Hp},Inv Y ([(D,od)]++h0u fp s5.heap) σ6 H8 s8 ->
     s8.heap.get? D=some od/\H8 D=none/\tn (i+1) s8.heap/\(∀b∈fp,H8 b=none)/\Inv Y [] (bst own.length σ js) H8 s8:=fun{s8 H8} I8=>by
    have p8:=I8.pin (D,od) (by simp[Y,blk])
    refine⟨p8.1,p8.2.1,T.keep _ _ _ st5 fun b hb o e=>(I8.pin (b,o) (ar _ (ar _ (c0x hb e)))).1,fun b hb=>?_,?_⟩
    ·obtain⟨o,e,_⟩:=T.obj _ _ st5 b hb
     exact(I8.pin (b,o) (ar _ (ar _ (c0x hb e)))).2.1
    ·refine(I8.pins_of (pins':=[]) fun p hp=>absurd hp (by simp[Y,blk])).weak ?_ fun j v e=>?_
     ·rw[I8.len,h0o]
      show _=(own++capN X.N js).length
      unfold capN
      simp
     ·rcases bf j own.length with z | z
      ·exfalso
       unfold bst at e
       rw[a_ (by simpa using z),bP]at e
       split at e <;> cases e
      ·unfold bst at e
       rw[bx (by simpa using z),cx,<- d6,bw]at e
       rw[<- e]
       congr 1
       omega
   cases ok with
   | false =>
    rw[if_neg bn]at q7 ⊢
    obtain⟨m',hm,w7⟩:=hN _ _ q7
    obtain⟨a1,a2,a3,a4,a5⟩:=after I7
    exact⟨m',hm,i+1,ys,H7,a5,a3,a4,a2,dat3 a1,w7⟩
   | true =>
    rw[if_pos rfl]at q7 ⊢
    refine thn (he s2 H2 C fp _ s7 σ6 H7 _ I7 q7) fun u9 s9 ⟨v9,H9,I9,r9,kk,ek,n9⟩=>?_
    subst ek
    obtain⟨t9,rfl⟩:=r9
    obtain⟨m',hm,w9⟩:=hN _ _ n9
    obtain⟨a1,a2,a3,a4,a5⟩:=after I9
    refine e1h (dat3 a1) (by have:=h1d ys;show(ddl ys).length+1<4096;omega) fun h' sb dd'=>?_
    have I10:=(Inv.young a5 sb a2 szD neDC clB (fun p hp=>absurd hp (by show p∉[]++[];simp))).tok (s9.toks+1)
    exact⟨m',hm,i+1,ys++[kk],H9,I10,T.keep _ _ _ a3 (fun b hb o e=>(sb.2 b (fpD b hb).1).trans e),a4,a2,by rw[m0s];exact dd',w9⟩
 exact i0p (loop _ rfl) (T.self _ 0 _ _ _ (T.keep 0 _ _ st2 fun b hb o e=>keep1 b o e) (loop _ rfl))
theorem s0a {elt tg iter:Expr}{ifs:List Expr}{scope:cT}{p pos cpos:Pos}(own:List Str)(js:List Nat){wi:TI}{g:TG}{tc:TT}{te:TE}(hc:X.calm=true)(hg1:Gl X "sorted")(hm1:X.mg "sorted" = none)(B:Blk X scope own js)(hi:PI X tg iter wi)
  (hg:∀s H C fp,(own++capN X.N js).Nodup->PG (blk X scope (own++capN X.N js) s H C fp) tg g) (ht:∀s H C fp,PTs (blk X scope (own++capN X.N js) s H C fp) ifs tc) (he:∀s H C fp,PE (blk X scope (own++capN X.N js) s H C fp) elt te)
  (hs:∀x,cb iter X.env x=pure x:=by intro _;rfl)
  (ho:bh [.SetComp elt [⟨tg,iter,ifs,0⟩] scope cpos] X.env=[(false,eval (.SetComp elt [⟨tg,iter,ifs,0⟩] scope cpos) X.env)]:=by rfl) (hpl:(dE pos (bh [] X.env)).any (·.1)=false:=by rfl) :
  PE X (.Call (.Name "sorted" p) [.SetComp elt [⟨tg,iter,ifs,0⟩] scope cpos] [] pos) (a1g own.length js wi g tc te):=by
 intro pins s σ H Q I h
 refine lG (j0m I hg1 hm1 t0n ?_)
 refine gC ?_ (by rw[ho];rfl) hpl
 rw[ho]
 show az _ _ (mn [(false,eval (.SetComp elt [⟨tg,iter,ifs,0⟩] scope cpos) X.env)]) _ _ s
 refine d8 ?_
 have hcl:e_ scope X.env=pure (e0f scope X.env):=d0x fun x hx hf=>I.ok.has x.1 (B.free x hx hf)
 show az _ X.A (gf (.SetComp elt [⟨tg,iter,ifs,0⟩] scope cpos) scope X.env _ (newSet (.type "set")) false (eval iter X.env)) _ _ s
 refine cV (use:=none) rfl hs hcl B.kind B.names (thn (hi pins s σ H _ I h) fun v s1 h1=>thn h1 fun itv s2 h2=>?_)
 refine v0q (RR:=fun acc C=>jd (aH X.prog X.w) X.A X.xe none _ acc C) hc B hg ht he h2 fun C acc s' hb=>?_
 obtain⟨D,H',m,ys,rfl,hn,I',c1,c2,c3,c4,c5,c6,hS,h64,q⟩:=hb
 refine⟨m,hn,fun h' hs'=>fG ?_⟩
 have I2:=I'.young hs' c1 c2 c3 c4 c5
 have hS2:SetI X.prog X.w h' D (ddl ys):=hS.kept fun o e=>(hs'.2 D c6).trans e
 refine l1e (s:={s' with heap:=h'}) (by exact I2.ok.hd hc) hS2 (o0e _) h64 fun h2 tk2 dr D2 out e ns' k2 sz ge b1 b2 b3=>?_
 have hlen:ns'.length<64:=by rw[b2.length_eq];exact h64
 have hst:ns'.Pairwise (· < ·):=by
  have nd:ns'.Nodup:=b2.nodup_iff.mpr (o0e _)
  exact(mL b3 nd).imp fun{a b} z=>by have h1:=z.1;have h2:=z.2;omega
 have hm':∀x,x∈ns'↔x∈ys:=fun x=>by rw[b2.mem_iff];exact c1v ys x
 have I3:=(I2.laid (t':=tk2) (o:=.lst (ns'.map V.int)) k2 sz ⟨by rw[aw];exact bW (g0n (n:=ns'.length) (by omega)),out.toList,e,j0z b1,by rw[ge]⟩).drawn dr
 exact⟨.ref D2,_,I3,rfl,q ns' hst hm' D2 (I2.hok.fresh sz)⟩
end
def i0o (n:Nat)(js:List Nat)(c:En->Prop)(g:AG)(tc:AT)(te:AE)(q:List Int->En->Prop):List D->List Int->En->Prop
 | [],acc,ρ=>c ρ/\q acc ρ
 | d::ds,acc,ρ=>c ρ/\g d (blkE n js ρ) fun ρ1=>tc ρ1 fun b ρ2=>if b=true then te ρ2 fun r ρ3=>(match r with
   | .d (.int k)=>i0o n js c g tc te q ds (acc++[k]) (back ρ (js.map R.o) (ρ3.drop n))
   | _=>False)else i0o n js c g tc te q ds acc (back ρ (js.map R.o) (ρ2.drop n))
def k1b (n:Nat)(js:List Nat)(i:AI)(g:AG)(tc:AT)(te:AE):AE:=fun ρ q=>i ρ fun ds c ρ1=>ds.length<=4000/\i0o n js c g tc te (fun ns ρ2=>(ddl ns).length<64/\∀ns':List Int,ns'.Pairwise (· < ·)->(∀x,x∈ns'↔x∈ns)->q (.f (ns'.map D.int)) ρ2) ds [] ρ1
section
variable {K:aa}
theorem p0b {n:Nat}{js:List Nat}{wi:TI}{g:TG}{tc:TT}{te:TE}{ai:AI}{ag:AG}{atc:AT}{ae:AE}(hi:TIok K (fun _=>true) wi ai)(hg:TGok K (fun j=>decide (n<=j)) g ag)(hc:TTok K tc atc)(he:TEok K te ae)
  (hd:dis (js.map R.o)=true:=by rfl):TEok K (a1g n js wi g tc te) (k1b n js ai ag atc ae):=by
 intro F σ ρ H q Q r h k
 refine hi F σ ρ H _ _ r h fun ds c ρ1 J H1 h1 r1 k1 wk=>?_
 obtain⟨hz,h1⟩:=h1
 have hd':dis (blkR n js)=true:=by rw[k0z];exact hd
 refine⟨fun i m ys H'=>∃ ρ',m=ds.length - i/\i<=ds.length/\Rel K F σ ρ' H'/\Kp σ ρ1 ρ' H1 H'/\ys.length<=i/\i0o n js c ag atc ae (fun ns ρ2=>(ddl ns).length<64/\∀ns':List Int,ns'.Pairwise (· < ·)->(∀x,x∈ns'↔x∈ns)->q (.f (ns'.map D.int)) ρ2) (ds.drop i) ys ρ',⟨ds.length,ρ1,rfl,bg _,r1,.refl,bg _,h1⟩,?_⟩
 rintro i m ys H' ⟨ρ',rfl,hl,r',k',al,h'⟩
 have w:c ρ'->WkAt K (hs F σ ρ') H' J ds:=fun hc=>wk σ ρ' H' k'.vis r'.sl (fun _ _ _ e=>e) (fun a z=>z0a r' z) hc
 rcases bf i ds.length with lt | ge
 ·right
  rw[br lt]at h'
  unfold i0o at h'
  obtain⟨hcc,h'⟩:=h'
  obtain⟨go,yld⟩:=(w hcc i).1 ds[i] (ao lt)
  refine⟨go,by omega,fun zs H2=>∃ ρ2,Rel K F σ ρ2 H2/\Kp σ ρ1 ρ2 H1 H2/\zs.length<=i+1/\i0o n js c ag atc ae (fun ns ρ2=>(ddl ns).length<64/\∀ns':List Int,ns'.Pairwise (· < ·)->(∀x,x∈ns'↔x∈ns)->q (.f (ns'.map D.int)) ρ2) (ds.drop (i+1)) zs ρ2,
   fun zs H2 ⟨ρ2,a1,a2,a4,a5⟩=>⟨ds.length - (i+1),by omega,ρ2,rfl,lt,a1,a2,a4,a5⟩,fun x H2 hy=>?_⟩
  obtain⟨sm,rx⟩:=yld x H2 hy
  have r0':=r'
  have k':Kp σ ρ1 ρ' H1 H2:=k'.trans ⟨fun a o e _=>sm a o e,fun _ h=>h⟩
  have r':=r0'.grow sm
  have src:=m0u (K:=K) (F:=F) (σ:=σ) (ρ:=ρ') (H:=H2) n js
  have rb:=r'.sub src hd'
  have hs2:=r0w r' src
  rw[b0w]at rb hs2
  have pin:∀i a,(f0m F σ ρ' H2 (bst n σ js) (blkE n js ρ')).pin i a->decide (n<=i)=true:=fun i a h=>by
   rcases h with h | h
   ·exact decide_eq_true (m0v h.1)
   ·exact h.elim
  have hlen:(bst n σ js).length=n+js.length:=h0o
  have ret:∀ σ2 ρ2 H3,Rel K (f0m F σ ρ' H2 (bst n σ js) (blkE n js ρ')) σ2 ρ2 H3->σ2.length=(bst n σ js).length->σ2.drop n=capt σ js->(∀i,(gt ρ2 i).own=true->(gt (blkE n js ρ') i).own=true) ->
    Rel K F σ (back ρ' (js.map R.o) (ρ2.drop n)) H3/\Kp σ ρ' (back ρ' (js.map R.o) (ρ2.drop n)) H2 H3/\Same (hid H3 (hs (f0m F σ ρ' H2 (bst n σ js) (blkE n js ρ')) σ2 ρ2)) (hid H3 (hs F σ (back ρ' (js.map R.o) (ρ2.drop n)))):=fun σ2 ρ2 H3 rr hlen2 hdrop hown=>by
   obtain⟨f1,f2⟩:=rr.forget (n:=n) (by omega) fun i a h=>of_decide_eq_true (pin i a h)
   rw[hdrop]at f1 f2
   have f1':Rel K (f0m F σ ρ' H2 (bst n σ js) ((blkR n js).map (e0n ρ'))) (bst n σ js) (aG n .un++ρ2.drop n) H3:=by rw[b0w];exact f1
   have bk:=r'.back src hd' f1' fun i hi=>by
    rw[b0w]
    rw[o0b]at hi
    split at hi
    ·cases hi
    ·rename_i hni
     rw[j0w,show n+(i - n)=i by omega]at hi
     exact hown i hi
   have ln:(aG n Sv.un++ρ2.drop n).length=n+js.length:=by
    have:=rr.len
    simp;omega
   rw[l0a js ρ' n _ ln,dq (by simp),b0w]at bk
   exact⟨bk.1,bk.2.1,f2.trans bk.2.2⟩
  refine hg _ (bst n σ js) (blkE n js ρ') H2 x _ _ _ pin rb (by rw[hs2];exact rx) h' fun σ2 ρ2 h2 r2 l2 p2 o2=>?_
  have hdrop:σ2.drop n=capt σ js:=by
   have:σ2.drop n=(bst n σ js).drop n:=by
    apply cW
    intro i
    rw[bw,bw]
    exact p2 (n+i) (decide_eq_true (by omega))
   rw[this]
   unfold bst
   rw[dq (by simp)]
  refine⟨hdrop,hc _ σ2 ρ2 H2 _ _ r2 h2 fun b ρ3 H3 h3 r3 k3=>?_⟩
  cases b with
  | false =>
   obtain⟨b1,b2,_⟩:=ret σ2 ρ3 H3 r3 l2 hdrop fun i hi=>(o2 i (k3.sb i hi)).1
   exact⟨_,b1,k'.trans b2,by omega,h3⟩
  | true =>
   refine he _ σ2 ρ3 H3 _ _ r3 h3 fun r4 ρ4 v4 H4 h4 o4=>?_
   obtain⟨r4',k4,i4⟩:=o4.inF
   split at h4
   ·rename_i k0
    obtain⟨b1,b2,b3⟩:=ret σ2 ρ4 H4 r4' l2 hdrop fun i hi=>(o2 i (k3.sb i (k4.sb i hi))).1
    exact⟨k0,i4.int,_,b1,k'.trans b2,by rw[aJ];simp;omega,h4⟩
   ·exact h4.elim
 ·left
  rw[bE ge]at h'
  unfold i0o at h'
  obtain⟨hcc,h64,h'⟩:=h'
  refine⟨(w hcc i).2 ge,h64,fun ns' a1 a2 l hl'=>?_⟩
  exact(k.after (k1.trans k')).new r' (h' ns' a1 a2) (l0h.mpr rfl) hl'
end
abbrev k1s (n:Nat)(js:List Nat)(g:AG)(tc:AT)(te:AE)(ρ:En)(d:D)(acc:List Int)(N:List Int->En->Prop):Prop :=
 g d (blkE n js ρ) fun ρ1=>tc ρ1 fun b ρ2=>if b=true then te ρ2 fun r ρ3=>(match r with
   | .d (.int k)=>N (acc++[k]) (back ρ (js.map R.o) (ρ3.drop n))
   | _=>False)else N acc (back ρ (js.map R.o) (ρ2.drop n))
theorem l0r {α:Type}{n:Nat}{js:List Nat}{c:En->Prop}{g:AG}{tc:AT}{te:AE}{q:List Int->En->Prop}(h:α->D)(p:α->Bool)(f:α->Int){ρ:En}(hc:c ρ):∀ {xs:List α} {acc:List Int},(∀x acc (N:List Int->En->Prop),x∈xs->N (if p x=true then acc++[f x]else acc) ρ->k1s n js g tc te ρ (h x) acc N) ->
  q (acc++(xs.filter p).map f) ρ->i0o n js c g tc te q (xs.map h) acc ρ
 | [],acc,_,hd=>by
  simp only[lD,cS,bq]at hd
  unfold i0o
  exact⟨hc,hd⟩
 | x::xs,acc,hs,hd=>by
  unfold i0o
  refine⟨hc,hs x acc (fun acc ρ=>i0o n js c g tc te q (xs.map h) acc ρ) (.head _) (l0r h p f hc (fun y acc N hy=>hs y acc N (.tail _ hy)) ?_)⟩
  cases hp:p x <;> simp[hp]at hd ⊢ <;> exact hd
theorem j1u {ys:List Int}{zs:List Int}(h:∀x∈ys,x∈zs)(hl:zs.length<64):(ddl ys).length<64 :=
 fE (cN (o0e ys) fun x hx=>h x ((c1v ys x).mp hx)) hl
section
variable {X:Cx}
theorem e1y {kx vx tg iter:Expr}{ifs:List Expr}{scope:cT}{pos:Pos}(own:List Str)(js:List Nat){wi:TI}{g:TG}{tc:TT}{tk tv:TE}(hc:X.calm=true)(B:Blk X scope own js)(hi:PI X tg iter wi)
  (hg:∀s H C fp,(own++capN X.N js).Nodup->PG (blk X scope (own++capN X.N js) s H C fp) tg g) (ht:∀s H C fp,PTs (blk X scope (own++capN X.N js) s H C fp) ifs tc) (hk:∀s H C fp,PE (blk X scope (own++capN X.N js) s H C fp) kx tk) (hv:∀s H C fp,PE (blk X scope (own++capN X.N js) s H C fp) vx tv)
  (hs:∀x,cb iter X.env x=pure x:=by intro _;rfl):PE X (.DictComp kx vx [⟨tg,iter,ifs,0⟩] scope pos) (r0v own.length js wi g tc tk tv):=by
 intro pins s σ H Q I h
 have hcl:e_ scope X.env=pure (e0f scope X.env):=d0x fun x hx hf=>I.ok.has x.1 (B.free x hx hf)
 show az _ X.A (gf (.DictComp kx vx [⟨tg,iter,ifs,0⟩] scope pos) scope X.env _ newDict false (eval iter X.env)) _ _ s
 refine cV (use:=none) rfl hs hcl B.kind B.names (thn (hi pins s σ H _ I h) fun v s1 h1=>thn h1 fun itv s2 h2=>?_)
 refine o0g (RR:=fun acc C=>jd (aH X.prog X.w) X.A X.xe none (EP X pins σ Q) acc C) hc B hg ht hk hv h2 fun C acc s' hb=>?_
 obtain⟨D,H',m,rfl,hn,I',c1,c2,c3,c4,c5,q⟩:=hb
 exact⟨m,hn,fun h' hs'=>⟨.ref D,H',I'.young hs' c1 c2 c3 c4 c5,rfl,q⟩⟩
end
def p0k (ks more:List (Key×D)):List (Key×D):=more.foldl (fun acc kv=>putD acc kv.1 kv.2) ks
theorem s0m {K:aa}{H:Hp}:∀ {ms:List (Key×V)} {more:List (Key×D)} {ks:List (Key×V)} {kvs:List (Key×D)},ms.map a8=more.map a8->RepDs K H (ms.map bt) (more.map bt)->ks.map a8=kvs.map a8->RepDs K H (ks.map bt) (kvs.map bt) ->
  (g0w ks ms).map a8=(p0k kvs more).map a8/\RepDs K H ((g0w ks ms).map bt) ((p0k kvs more).map bt)
 | [],[],_,_,_,_,e,r=>⟨e,r⟩
 | (k,v)::ms,(k',d)::more,ks,kvs,e1,r1,e,r=>by
  simp only[aT,eM]at e1
  obtain⟨rfl,e2⟩:=e1
  simp only[aT]at r1
  unfold RepDs at r1
  obtain⟨a,b⟩:=q0m k r1.1 e r
  exact s0m (ms:=ms) (more:=more) (ks:=putK ks k v) (kvs:=putD kvs k d) e2 r1.2 a b
 | [],_::_,_,_,e,_,_,_=>by cases e
 | _::_,[],_,_,e,_,_,_=>by cases e
def rDUpd:V->List V->Hp->VK->Prop:=fun x vs H Q=>∃d o ks more,x = .ref d/\vs=[.ref o]/\d≠o/\H d=some (.dK ks)/\H o=some (.dK more)/\ks.length+more.length<=aN/\Q .non (upd H d (.dK (g0w ks more)))
theorem i1v {X:Cx}:MtR X "dict.update" rDUpd:=by
 intro pins s σ H x vs v us Q I rx rv h
 obtain⟨d,o,ks,more,rfl,rfl,ne,hd,ho,hz,q⟩:=h
 cases rx
 obtain⟨u,rfl,ru⟩:=rv.one
 cases ru
 obtain⟨z1,n1,vs1,r1,dd1⟩:=I.hok d _ hd
 obtain⟨z2,n2,vs2,r2,dd2⟩:=I.hok o _ ho
 refine call_meetsIn jg dd1.typeIs PySem.F.entry_dict_update (PySem.F.args_dict_update_2 _ _) (meets_dict_update (c0f X.prog X.w) d o ne n2) ⟨vs1,vs2,dd1,dd2,by rw[<- r1.length,<- r2.length];exact hz,fun h' hd' ho' hs=>?_⟩
 obtain⟨od,god,_⟩:=i_.mp hd'
 refine⟨.non,_,I.write (x:=d) (e:=d) (o:=.dK (g0w ks more)) (t':=s.toks) (h':=h') (by rw[hd];exact True.intro) (.inl rfl) (fun b u nb e=>(hs.2 b nb).trans e) ⟨_,god⟩ (t0b (aW (h0m more ks) hz) n1 (KV.merge r2 r1) hd'),rfl,q⟩
def aUpd (i:Nat)(ac:AE):AE:=fun ρ q=>match gt ρ i with
 | .dk _=>ac ρ fun r ρ1=>(match r,gt ρ1 i with
  | .n (.dk more),.dk kvs=>kvs.length+more.length<=1000000/\q (.d .non) (pt ρ1 i (.dk (p0k kvs more)))
  | _,_=>False)
 | _=>False
theorem d1z {K:aa}{tc:TE}{ac:AE}{i:Nat}(hc:TEok K tc ac):TEok K (tBM K "dict" rDUpd (tVar i) (a1k tc tNil)) (aUpd i ac):=by
 intro F σ ρ H q Q r h k
 unfold aUpd at h
 split at h
 ·rename_i kvs0 hg0
  have s:=r.sl i
  rw[hg0]at s
  obtain⟨t,ks0,ex,ht0,_⟩:=s
  refine⟨.ref t,ex,.inr (.inr (.inl ⟨rfl,.inl ⟨_,ht0⟩⟩)),?_⟩
  refine hc F σ ρ H _ _ r h fun r1 ρ1 v H1 h1 o=>?_
  split at h1
  ·rename_i more kvs hg
   obtain⟨hl,hq⟩:=h1
   obtain⟨Hb,l,ob,r2,k2,_,sv,hn,rfl,rfl⟩:=o
   obtain⟨l',ms,e,hl1,em,rm⟩:=sv
   injection e with e;injection e with e;injection e with e;subst e
   have s:=r2.sl i
   rw[hg,ex]at s
   obtain⟨t',ks,e,ht,ek,rk⟩:=s
   injection e with e;injection e with e;injection e with e;subst e
   have ne:t≠l:=b0o ht hn
   have r3:=r2.fresh (o:=ob) hn
   have k3:Kp σ ρ1 ρ1 Hb (upd Hb l ob):=Kp.fresh hn
   have v3:=k3.vis (F:=F)
   obtain⟨p1,p2⟩:=s0m em (rm.same v3) ek (rk.same v3)
   have ht1:upd Hb l ob t=some (.dK ks):=by rw[a0x ne];exact ht
   have hw:=r3.write (i:=i) (l:=t) (o:=.dK (g0w ks ms)) (s:=.dk (p0k kvs more)) (by rw[hg];rfl) ex rfl ⟨t,_,rfl,a0z,p1,p2⟩
   refine⟨t,l,ks,ms,rfl,rfl,ne,ht1,hl1,?_,?_⟩
   ·rw[k0s ek,k0s em]
    exact small (n:=kvs.length+more.length) hl
   ·exact((k.after (k2.trans k3)).after hw.2).non hw.1 hq
  ·exact h1.elim
 ·exact h.elim
theorem i0m {α:Type}{n2:Nat}{c:En->Prop}{g:AG}{tc:AT}{te:AE}{k:List D->En->Prop}(h:α->D)(p:α->Bool)(f:α->D){ρ:En}(hc:c ρ):∀ {xs:List α} {acc:List D},acc.length+xs.length<=1000000 ->
  (∀x acc (N:List D->En->Prop),x∈xs->N (if p x=true then acc++[f x]else acc) ρ->g (h x) ρ fun ρ1=>tc ρ1 fun b ρ2=>if b=true then te ρ2 fun r ρ3=>sto [r.frz] ρ3 fun es ρ4=>N (acc++es) (aG n2 .un++ρ4.drop n2)else N acc (aG n2 .un++ρ2.drop n2)) ->
  k (acc++(xs.filter p).map f) ρ->j0f n2 c g tc te k (xs.map h) acc ρ
 | [],acc,_,_,hd=>by
  simp only[lD,cS,bq]at hd
  unfold j0f
  exact⟨hc,hd⟩
 | x::xs,acc,hl,hs,hd=>by
  rw[aT]
  unfold j0f
  rw[aS]at hl
  refine⟨hc,by omega,hs x acc (fun acc' ρ'=>j0f n2 c g tc te k (xs.map h) acc' ρ') (.head _) ?_⟩
  have hs':=fun y acc N (hy:y∈xs)=>hs y acc N (.tail _ hy)
  cases hp:p x with
  | true =>
   rw[if_pos rfl]
   exact i0m h p f hc (by rw[aJ,bN];omega) hs' (by simpa [hp] using hd)
  | false =>
   rw[if_neg (by decide)]
   exact i0m h p f hc (by omega) hs' (by simpa [hp] using hd)
def mkT (M:List Nat):List (Key×D):=M.map fun x:Nat=>((Sum.inl (x:Int):Key),D.bl true)
theorem b1v (M:List Nat)(x:Nat):((mkT M).any fun kv=>decide (kv.1=(Sum.inl (x:Int):Key)))=M.contains x:=by
 unfold mkT
 rw[ga,cO,cD,aV]
 constructor
 ·rintro⟨y,hy,e⟩
  have e:=of_decide_eq_true e
  injection e with e
  have:y=x:=fW.mp e
  rw[<- this];exact hy
 ·intro h
  exact⟨x,h,decide_eq_true rfl⟩
theorem q0o (M:List Nat)(x:Nat):putD (mkT M) (Sum.inl (x:Int)) (D.bl true)=mkT (if x∈M then M else M++[x]):=by
 unfold putD
 rw[b1v]
 by_cases h:x∈M
 ·rw[if_pos (aV.mpr h),if_pos h]
  unfold mkT
  rw[bI]
  refine List.map_congr_left fun y _=>?_
  show(if(Sum.inl (y:Int):Key)=Sum.inl (x:Int)then _ else _)=_
  split
  ·rfl
  ·rfl
 ·rw[if_neg (fun z=>h (aV.mp z)),if_neg h]
  unfold mkT
  rw[bp];rfl
theorem p0z (M:List Nat)(x:Nat):(valD (mkT M) (Sum.inl (x:Int):Key)).isSome=M.contains x:=by
 rw[<- b1v]
 induction mkT M with
 | nil=>rfl
 | cons kv t ih =>
  obtain⟨k,d⟩:=kv
  unfold valD at ih ⊢
  rw[cz,bO]
  dsimp only
  cases decide (k=(Sum.inl (x:Int):Key))with
  | true=>rfl
  | false=>exact ih
theorem p0j:∀(N M:List Nat),p0k (mkT M) (mkT N)=mkT (N.foldl (fun M x=>if x∈M then M else M++[x]) M)
 | [],M=>rfl
 | x::N,M=>by
  show p0k (putD (mkT M) (Sum.inl (x:Int)) (D.bl true)) (mkT N)=_
  rw[q0o,p0j N];rfl
def k1c (ak av:AE):AE:=fun ρ q=>ak ρ fun r1 ρ1=>match r1 with
 | .d (.int i)=>av ρ1 fun r2 ρ2=>(match r2 with | .d (.bl j)=>q (.n (.dk [(.inl i,.bl j)])) ρ2 | _=>False)
 | _=>False
theorem InF.bl {K:aa}{F:Fr}{σ:St}{ρ:En}{H:Hp}{v:V}{b:Bool}(h:InF K F σ ρ H v (.d (.bl b))):v = .bl b:=by
 have h:RepD K (hid H (hs F σ ρ)) v (.bl b):=h
 unfold RepD at h;exact h
theorem y0d {K:aa}{tk tv:TE}{ak av:AE}(lk:k1d tk)(lv:k1d tv)(hk:TEok K tk ak)(hv:TEok K tv av):TEok K (l1c [(tk,tv)]) (k1c ak av):=by
 intro F σ ρ H q Q r h k p hp
 have go:tk σ H fun v H1=>∃i,v = .int i/\tv σ H1 fun v2 H2=>∃j,v2 = .bl j/\∃ ρ2,q (.n (.dk [(.inl i,.bl j)])) ρ2/\Rel K F σ ρ2 H2/\Kp σ ρ ρ2 H H2:=by
  refine hk F σ ρ H _ _ r h fun r1 ρ1 x H1 h1 o1=>?_
  obtain⟨r1',k1,i1⟩:=o1.inF
  split at h1
  ·rename_i i
   refine⟨i,i1.int,hv F σ ρ1 H1 _ _ r1' h1 fun r2 ρ2 y H2 h2 o2=>?_⟩
   obtain⟨r2',k2,i2⟩:=o2.inF
   split at h2
   ·exact⟨_,i2.bl,ρ2,h2,r2',k1.trans k2⟩
   ·exact h2.elim
  ·exact h1.elim
 obtain⟨_,⟨i,rfl,g2⟩,f1⟩:=lk σ H _ go
 obtain⟨_,⟨j,rfl,ρ2,hq,rel,kp⟩,f2⟩:=lv σ H _ g2
 refine f1 _ _ (f2 _ _ ⟨a0z,[(.inl i,.bl j)],rfl,by simp,?_⟩)
 have e:upd (upd H p (.dK [])) p (.dK (g0w [] [(.inl i,.bl j)]))=upd H p (.dK [(.inl i,.bl j)]):=by
  funext a
  unfold upd
  split <;> rfl
 rw[e]
 exact k _ ρ2 _ _ hq ⟨H,p,_,rel,kp,rfl,⟨p,[(.inl i,.bl j)],rfl,a0z,rfl,.one (by unfold RepD;rfl)⟩,hp,rfl,rfl⟩
end L2
set_option maxHeartbeats 3200000
namespace L2
open PySem PySem.Spec PyProof.Rows
end L2
namespace K82
open PySem PySem.Spec PyProof.Rows L2
def top (i:Nat):Stmt:=PySem.Challenge.pw_fewjoins_k82_whole_no_paper_against_a_ne.main.body.getD i (.Pass ⟨0,0,0,0⟩)
abbrev b0z:Stmt:=o0z (top 13) 0
theorem l0g:b0a ["self", "wished", "clean", "known", "shut", "left"] ["self", "wished", "clean", "known", "shut", "left"] (a0g b0z):=⟨rfl,rfl,rfl,by decide +kernel,rfl,by decide +kernel,by decide +kernel⟩
abbrev i0z:Stmt:=top 1
abbrev u0y:List Str:=["thing", "least", "most"]
theorem u0d:b0a u0y ["thing", "least", "most"] (a0g i0z):=⟨rfl,rfl,rfl,by decide +kernel,rfl,by decide +kernel,by decide +kernel⟩
abbrev m0m:Stmt:=top 3
abbrev b1s:List Str:=["one", "other"]
theorem a1v:b0a b1s ["one", "other"] (a0g m0m):=⟨rfl,rfl,rfl,by decide +kernel,rfl,by decide +kernel,by decide +kernel⟩
abbrev g0p:Stmt:=top 5
abbrev n0p:List Str:=["many"]
theorem u0a:b0a n0p ["many"] (a0g g0p):=⟨rfl,rfl,rfl,by decide +kernel,rfl,by decide +kernel,by decide +kernel⟩
abbrev k0h:Stmt:=top 6
abbrev y0q:List Str:=["one", "other"]
theorem y0i:b0a y0q ["one", "other"] (a0g k0h):=⟨rfl,rfl,rfl,by decide +kernel,rfl,by decide +kernel,by decide +kernel⟩
abbrev h0f:Stmt:=top 7
abbrev s0l:List Str:=["net", "words", "many", "joins", "outs", "told", "a", "b"]
theorem d0r:b0a s0l ["net", "words"] (a0g h0f):=⟨rfl,rfl,rfl,by decide +kernel,rfl,by decide +kernel,by decide +kernel⟩
abbrev k0g:Stmt:=top 8
abbrev y0p:List Str:=["net"]
theorem y0h:b0a y0p ["net"] (a0g k0g):=⟨rfl,rfl,rfl,by decide +kernel,rfl,by decide +kernel,by decide +kernel⟩
abbrev q0j:Stmt:=top 10
abbrev f1e:List Str:=["wish", "clean", "count", "paper"]
theorem e1i:b0a f1e ["wish", "clean", "count", "paper"] (a0g q0j):=⟨rfl,rfl,rfl,by decide +kernel,rfl,by decide +kernel,by decide +kernel⟩
abbrev f0q:Stmt:=top 11
abbrev o0r:List Str:=["wish", "clean", "count", "many", "rows"]
theorem g0g:b0a o0r ["wish", "clean", "count"] (a0g f0q):=⟨rfl,rfl,rfl,by decide +kernel,rfl,by decide +kernel,by decide +kernel⟩
abbrev i0w:Stmt:=top 12
abbrev u0v:List Str:=["clean", "one", "other"]
theorem u0b:b0a u0v ["clean", "one", "other"] (a0g i0w):=⟨rfl,rfl,rfl,by decide +kernel,rfl,by decide +kernel,by decide +kernel⟩
abbrev k0f:Stmt:=top 18
abbrev s0j:List Str:=["net", "many", "joins", "outs", "stands", "leant", "numbers", "kept", "at", "a", "b"]
theorem d0p:b0a s0j ["net"] (a0g k0f):=⟨rfl,rfl,rfl,by decide +kernel,rfl,by decide +kernel,by decide +kernel⟩
abbrev f0r:Stmt:=top 19
abbrev o0s:List Str:=["rows", "first", "stands", "thing", "row"]
theorem e0d:b0a o0s ["rows"] (a0g f0r):=⟨rfl,rfl,rfl,by decide +kernel,rfl,by decide +kernel,by decide +kernel⟩
abbrev g0q:Stmt:=top 20
abbrev n0q:List Str:=["net", "stands", "many", "joins", "outs", "leant", "at", "a", "b"]
theorem d0q:b0a n0q ["net", "stands"] (a0g g0q):=⟨rfl,rfl,rfl,by decide +kernel,rfl,by decide +kernel,by decide +kernel⟩
abbrev q0i:Stmt:=top 26
abbrev f1d:List Str:=["wish", "clean", "count", "many", "rows", "found", "told"]
theorem k0d:b0a f1d ["wish", "clean", "count"] (a0g q0i):=⟨rfl,rfl,rfl,by decide +kernel,rfl,by decide +kernel,by decide +kernel⟩
abbrev j0a:Stmt:=top 27
abbrev u0z:List Str:=["many", "count", "most"]
theorem n0c:b0a u0z ["many", "count"] (a0g j0a):=⟨rfl,rfl,rfl,by decide +kernel,rfl,by decide +kernel,by decide +kernel⟩
abbrev i0v:Stmt:=top 28
abbrev u0u:List Str:=["cases", "lacking", "row", "free"]
theorem e0y:b0a u0u ["cases"] (a0g i0v):=⟨rfl,rfl,rfl,by decide +kernel,rfl,by decide +kernel,by decide +kernel⟩
abbrev e0q:Stmt:=top 29
abbrev m0f:List Str:=["cases", "row", "found", "told"]
theorem f0o:b0a m0f ["cases", "row"] (a0g e0q):=⟨rfl,rfl,rfl,by decide +kernel,rfl,by decide +kernel,by decide +kernel⟩
abbrev e0p:Stmt:=top 30
abbrev m0e:List Str:=["cases", "free", "papers", "at", "row", "found", "told"]
theorem c0w:b0a m0e ["cases", "free"] (a0g e0p):=⟨rfl,rfl,rfl,by decide +kernel,rfl,by decide +kernel,by decide +kernel⟩
abbrev d0v:Stmt:=top 31
abbrev g0k:List Str:=["wish", "clean", "known", "many", "rows", "joins"]
theorem f0b:b0a g0k ["wish", "clean", "known"] (a0g d0v):=⟨rfl,rfl,rfl,by decide +kernel,rfl,by decide +kernel,by decide +kernel⟩
abbrev d0s:Stmt:=top 32
abbrev h0v:List Str:=["things", "row", "clean", "pairs"]
theorem h0s:b0a h0v ["things", "row", "clean"] (a0g d0s):=⟨rfl,rfl,rfl,by decide +kernel,rfl,by decide +kernel,by decide +kernel⟩
abbrev i0x:Stmt:=top 34
abbrev u0w:List Str:=["_law_script"]
theorem u0c:b0a u0w ["_law_script"] (a0g i0x):=⟨rfl,rfl,rfl,by decide +kernel,rfl,by decide +kernel,by decide +kernel⟩
abbrev i0y:Stmt:=top 35
abbrev u0x:List Str:=["_law_tape_here", "_law_many", "_law_found", "_law_spot", "_law_cells", "_law_cell", "_law_seed"]
theorem e0h:b0a u0x ["_law_tape_here", "_law_many"] (a0g i0y):=⟨rfl,rfl,rfl,by decide +kernel,rfl,by decide +kernel,by decide +kernel⟩
abbrev g0r:Stmt:=top 36
abbrev l0k:List Str:=["_law_tape_here", "_law_clean", "_law_many", "_law_rows", "_law_joins", "_law_turn", "_law_a", "_law_b", "_law_outs"]
theorem e0j:b0a l0k ["_law_tape_here", "_law_clean"] (a0g g0r):=⟨rfl,rfl,rfl,by decide +kernel,rfl,by decide +kernel,by decide +kernel⟩
abbrev h0e:Stmt:=top 37
abbrev s0k:List Str:=["_law_tape_here", "_law_many", "_law_outs", "_law_at", "_law_row"]
theorem i0b:b0a s0k ["_law_tape_here", "_law_many", "_law_outs"] (a0g h0e):=⟨rfl,rfl,rfl,by decide +kernel,rfl,by decide +kernel,by decide +kernel⟩
abbrev e1j:Stmt:=top 38
abbrev m1d:List Str:=["_law_script", "_law_tape_here", "_law_turn", "_law_clean", "_law_many", "_law_joins", "_law_outs", "_law_more", "_law_count", "_law_found", "_law_left"]
theorem i0c:b0a m1d ["_law_script"] (a0g e1j):=⟨rfl,rfl,rfl,by decide +kernel,rfl,by decide +kernel,by decide +kernel⟩
abbrev b0x:Stmt:=o0z (top 13) 1
abbrev l0l:List Str:=["self", "row", "shut"]
theorem l0f:b0a l0l ["self", "row", "shut"] (a0g b0x):=⟨rfl,rfl,rfl,by decide +kernel,rfl,by decide +kernel,by decide +kernel⟩
abbrev b0u:Stmt:=o0z (top 13) 2
abbrev h0w:List Str:=["self"]
theorem m0a:b0a h0w ["self"] (a0g b0u):=⟨rfl,rfl,rfl,by decide +kernel,rfl,by decide +kernel,by decide +kernel⟩
abbrev b0e:Stmt:=o0z (top 13) 3
abbrev d0k:List Str:=["self", "pairs", "made"]
theorem e0o:b0a d0k ["self"] (a0g b0e):=⟨rfl,rfl,rfl,by decide +kernel,rfl,by decide +kernel,by decide +kernel⟩
abbrev b0d:Stmt:=o0z (top 13) 4
abbrev h0j:List Str:=["self"]
theorem h0d:b0a h0j ["self"] (a0g b0d):=⟨rfl,rfl,rfl,by decide +kernel,rfl,by decide +kernel,by decide +kernel⟩
abbrev b0p:Stmt:=o0z (top 13) 5
abbrev e0v:List Str:=["self", "row", "met", "newest", "parts", "sums"]
theorem c0q:b0a e0v ["self", "row"] (a0g b0p):=⟨rfl,rfl,rfl,by decide +kernel,rfl,by decide +kernel,by decide +kernel⟩
abbrev b0y:Stmt:=o0z (top 13) 6
abbrev l0m:List Str:=["self", "paper"]
theorem g0o:b0a l0m ["self", "paper"] (a0g b0y):=⟨rfl,rfl,rfl,by decide +kernel,rfl,by decide +kernel,by decide +kernel⟩
abbrev b0q:Stmt:=o0z (top 13) 7
abbrev k0q:List Str:=["self", "row"]
theorem k0e:b0a k0q ["self", "row"] (a0g b0q):=⟨rfl,rfl,rfl,by decide +kernel,rfl,by decide +kernel,by decide +kernel⟩
abbrev b0l:Stmt:=o0z (top 13) 8
abbrev j0u:List Str:=["self", "row", "paper"]
theorem j0q:b0a j0u ["self", "row", "paper"] (a0g b0l):=⟨rfl,rfl,rfl,by decide +kernel,rfl,by decide +kernel,by decide +kernel⟩
abbrev b0k:Stmt:=o0z (top 13) 9
abbrev j0t:List Str:=["self", "papers", "free", "at", "row"]
theorem d0f:b0a j0t ["self", "papers"] (a0g b0k):=⟨rfl,rfl,rfl,by decide +kernel,rfl,by decide +kernel,by decide +kernel⟩
section
variable {P:aO}{w:be}{K:aa}{mg:Str->Option af}{base:Heap}
theorem u0q (D:DefN K mg "_law_tape" i0x ["_law_script"])(B:BI mg):OkN P w K mg base 1 "_law_tape" ["_law_script"] (spA K k1e):=by
 refine OkN.imp (sp:=a1n K) ?_ h1q
 refine D.ok u0c (fun vs H Q E h=>?_) (fun f cdv A outer s H vs Q E hr h=>?_)
 ·obtain⟨a,ns,rfl,_⟩:=h
  rfl
 ·obtain⟨a,ns,rfl,hS,k⟩:=h
  refine⟨_,(a0l (b0f (b1g (m0o e0s (f0c (i0u K) (pv 0) g0i (g0h a0r)) (m0o e0s a0r (m0o e0s a0r b1c))) rfl rfl (by simp) (by decide)))),?_⟩
  intro t ht
  have s0:Same H (upd H t (.dK [])):=(Same.refl H).new ht
  refine⟨_,rfl,63,rfl,a,_,rfl,s0.seq hS,fun l hl=>?_⟩
  have ntl:t≠l:=b0o a0z hl
  refine⟨by rw[a0x ntl,a0z],[(Sum.inr ("cells" : Str),V.ref l),(Sum.inr ("spot" : Str),V.int 0),(Sum.inr ("left" : Str),V.int 0)],rfl,(by show 3<=15;decide),?_⟩
  rw[a1e]
  have fin:=k t l ht (s0.free hl) ntl
  have eq:upd (upd (upd H t (.dK [])) l (.lst (cutV (ns.map V.int) none (some 63)))) t (.dK (e0c l 0 0))=upd (upd H l (.lst ((ns.take 63).map V.int))) t (.dK (e0c l 0 0)):=by
   rw[o1f]
   funext b
   unfold upd
   by_cases h1:b=t
   ·rw[if_pos h1,if_pos h1]
   ·rw[if_neg h1,if_neg h1,if_neg h1]
  rw[eq]
  exact fin
theorem u0r (D:DefN K mg "_law_draw" i0y ["_law_tape_here", "_law_many"])(B:BI mg):OkN P w K mg base 1 "_law_draw" ["_law_tape_here", "_law_many"] (spA K d1r):=by
 refine OkN.imp (sp:=a1p K) ?_ j1t
 refine D.ok e0h (fun vs H Q E h=>?_) (fun f cdv A outer s H vs Q E hr h=>?_)
 ·obtain⟨t,c,m,sp,lf,ns,n,rfl,_⟩:=h
  rfl
 ·obtain⟨t,c,m,sp,lf,ns,n,rfl,hT,hC,h1,h2,h3,hn,hm,k⟩:=h
  have hu:=e0e hr
  have hm0:=hm.1
  have gl:DGet H t (kV (Sum.inr "left")) (some (.int lf)):=by rw[<- a1f (c:=c) (sp:=sp)];exact DGet.k hT
  have gs:DGet H t (kV (Sum.inr "spot")) (some (.int sp)):=by rw[<- a1d (c:=c) (lf:=lf)];exact DGet.k hT
  have gc:DGet H t (kV (Sum.inr "cells")) (some (.ref c)):=by rw[<- p0c (sp:=sp) (lf:=lf)];exact DGet.k hT
  refine⟨_,(a0h (f0h (c0o i1p (n0h hu (pv 0) e0s (fun _ _=>rfl)) a0r (d0d _))
   (a0h (c0k (i:=2) e0h.nd rfl (by first | exact Or.inl rfl | exact Or.inr rfl) (c0i n0n (n0h hu (pv 0) e0s (fun _ _=>rfl)) (pv 1)))
   (a0h (n0g hu (pv 0) e0s (c0i q0q (n0h hu (pv 0) e0s (fun _ _=>rfl)) (pv 1)) rfl)
   (a0l (b0f (pv 2)))))
   c0e)
   (a0h (c0k (i:=3) e0h.nd rfl (by first | exact Or.inl rfl | exact Or.inr rfl) (n0h hu (pv 0) e0s (fun _ _=>rfl)))
   (a0h (n0g hu (pv 0) e0s (c0i g0e (pv 3) a0r) rfl)
   (a0h (c0k (i:=4) e0h.nd rfl (by first | exact Or.inl rfl | exact Or.inr rfl) (n0h hu (pv 0) e0s (fun _ _=>rfl)))
   (a0h (c0k (i:=5) e0h.nd rfl (by first | exact Or.inl rfl | exact Or.inr rfl) a0r)
   (a0h (f0h (c0o i1p (b0m (c0h K) rfl B.len_ f0l (a0c (pv 4) a0f)) a0r (d0d _))
   (a0l (c0k (i:=5) e0h.nd rfl (by first | exact Or.inl rfl | exact Or.inr rfl) (d0w (b0j K) (pv 4) (c0i n0n (pv 3) (b0m (c0h K) rfl B.len_ f0l (a0c (pv 4) a0f))) (fun _ _=>rfl))))
   c0e)
   (a0h (f0h (PW.pt (p0f (c0o l1z (pv 5) (c0i b1l a0r a0r) (d0d _)) (l0i (c0o i1o (pv 3) (b0m (c0h K) rfl B.len_ f0l (a0c (pv 4) a0f)) (d0d _)))))
   (a0h (n0g hu (pv 0) e0s (c0i q0q (c0i s0b (pv 5) (c0i b1l a0r a0r)) (pv 1)) rfl)
   (a0l (b0f (c0i n0n (c0i s0b (pv 5) (c0i b1l a0r a0r)) (pv 1)))))
   c0e)
   (a0h (c0k (i:=6) e0h.nd rfl (by first | exact Or.inl rfl | exact Or.inr rfl) (c0i n0n (c0i s0e (c0i g0e (c0i g0e (c0i g0e (c0i n0n (pv 5) a0r) (c0i s0e (c0i s0e a0r (pv 3)) (pv 3))) (c0i s0e a0r (pv 3))) a0r) a0r) a0r))
   (a0l (b0f (c0i n0n (c0i q0q (c0i n0n (c0i s0e (pv 6) (c0i g0e (pv 6) a0r)) a0r) a0r) (pv 1)))))))))))),?_⟩
  refine⟨_,rfl,t,_,rfl,gl,_,_,rfl,rfl,_,rfl,ite2 (fun hl=>?_) fun hl=>?_⟩
  ·refine⟨_,rfl,t,_,rfl,gl,_,rfl,_,_,rfl,rfl,hm0,?_⟩
   refine⟨_,rfl,t,_,rfl,gl,_,rfl,_,_,rfl,rfl,hm,_,rfl,t,_,rfl,DPut.k (k:=Sum.inr "left") hT (g0n (by show 3<=1000;decide)),_,rfl,?_⟩
   rw[q0n]
   exact drawn (Q:=fun z H=>Q (.int z) H) hm0 fun r hr=>k r _ _ hr h1 (by omega) (jk h3 (iL hm0))
  ·refine⟨_,rfl,t,_,rfl,gs,?_⟩
   refine⟨_,rfl,_,_,rfl,rfl,_,rfl,t,_,rfl,DPut.k (k:=Sum.inr "spot") hT (g0n (by show 3<=1000;decide)),?_⟩
   rw[e1n]
   have hT1:(upd H t (.dK (e0c c (sp+1) lf))) t=some (.dK (e0c c (sp+1) lf)):=a0z
   have hC1:SqL K (upd H t (.dK (e0c c (sp+1) lf))) c (ns.map V.int):=Grow.seq (Grow.refl.upd _) hT hC
   have gr1:Grow t H (upd H t (.dK (e0c c (sp+1) lf))):=Grow.refl.upd _
   have gc1:DGet (upd H t (.dK (e0c c (sp+1) lf))) t (kV (Sum.inr "cells")) (some (.ref c)):=by rw[<- p0c (sp:=sp+1) (lf:=lf)];exact DGet.k hT1
   have kk:∀(r:Nat) (lf':Int),(r:Int)<m->0<=lf'->Q (.int (r:Nat)) (upd (upd H t (.dK (e0c c (sp+1) lf))) t (.dK (e0c c (sp+1) lf'))):=fun r lf' hr hl=>by rw[l0d];exact k r _ _ hr (by omega) (by omega) hl
   have kl:∀(r:Nat),(r:Int)<m->Q (.int (r:Nat)) (upd H t (.dK (e0c c (sp+1) lf))):=fun r hr=>k r _ _ hr (by omega) (by omega) h3
   generalize upd H t (.dK (e0c c (sp+1) lf))=H1 at hT1 hC1 gr1 gc1 kk kl ⊢
   refine⟨_,rfl,t,_,rfl,gc1,?_⟩
   have p18:(10:Int)^(18:Int).toNat=1000000000000000000:=by decide
   have fits:CPow 10 18:=⟨by decide,by decide,by decide⟩
   have pos1:(0:Int)<2147483629:=by decide
   have pos2:(0:Int)<2147483647:=by decide
   have spOk:-(2^64)<sp/\sp<2^64:=by omega
   refine⟨_,rfl,c,_,rfl,.inl hC1,_,_,rfl,rfl,_,rfl,ite2 (fun hl=>?_) fun hl=>?_⟩
   ·have hl':0<ns.length:=by
     have:=of_decide_eq_true hl
     rw[aw]at this
     omega
    have el:((ns.map V.int).length:Int)=ns.length:=by rw[aw]
    have hb0:0<=sp % ((ns.map V.int).length:Int):=lU _ (by omega)
    have hb1:sp % ((ns.map V.int).length:Int)<((ns.map V.int).length:Int):=k9 _ (by omega)
    obtain⟨j,hj⟩:=dB hb0
    have hj':j<ns.length:=by rw[hj]at hb1;omega
    refine⟨_,rfl,_,rfl,_,rfl,c,_,rfl,.inl hC1,_,_,rfl,rfl,(by show(0:Int)<((ns.map V.int).length:Int);omega),.inl ⟨c,_,_,V.int ns[j],rfl,rfl,hC1,?_,?_⟩⟩
    ·rw[hj]
     exact f0a (by simp[hj'])
    ·generalize ns[j]=z
     refine⟨_,rfl,_,_,rfl,rfl,fits,_,_,rfl,rfl,_,rfl,ite2 (fun hz=>?_) fun hz=>?_⟩
     ·refine⟨_,rfl,_,rfl,c,_,rfl,.inl hC1,_,_,rfl,rfl,_,rfl,ite2 (fun hs=>?_) fun hs=>?_⟩
      ·refine⟨_,rfl,_,_,rfl,rfl,fits,_,_,rfl,rfl,_,rfl,_,_,rfl,rfl,hm,_,rfl,t,_,rfl,DPut.k (k:=Sum.inr "left") hT1 (g0n (by show 3<=1000;decide)),?_⟩
       rw[q0n]
       refine⟨_,rfl,_,_,rfl,rfl,fits,_,_,rfl,rfl,_,rfl,_,_,rfl,rfl,hm0,?_⟩
       refine drawn (Q:=fun z H=>Q (.int z) H) hm0 fun r hr=>kk r _ hr (jk ?_ (iL hm0))
       have hz':=of_decide_eq_true hz
       rw[p18]at hz' ⊢
       omega
      ·refine⟨_,rfl,_,_,rfl,rfl,pos1,_,rfl,_,_,rfl,rfl,.inl ⟨by decide,by decide⟩,_,rfl,_,_,rfl,rfl,.inr spOk,_,_,rfl,rfl,_,rfl,_,_,rfl,rfl,.inl ⟨by decide,by decide⟩,_,_,rfl,rfl,_,_,rfl,rfl,_,_,rfl,rfl,.inr ⟨by decide,by decide⟩,_,_,rfl,rfl,pos2,?_⟩
       refine⟨_,rfl,_,rfl,_,_,rfl,rfl,_,_,rfl,rfl,.inl w0q,_,_,rfl,rfl,pos1,_,_,rfl,rfl,dv64,_,rfl,_,_,rfl,rfl,hm0,?_⟩
       exact drawn (Q:=fun z H=>Q (.int z) H) hm0 fun r hr=>kl r hr
     ·refine⟨_,rfl,_,_,rfl,rfl,pos1,_,rfl,_,_,rfl,rfl,.inl ⟨by decide,by decide⟩,_,rfl,_,_,rfl,rfl,.inr spOk,_,_,rfl,rfl,_,rfl,_,_,rfl,rfl,.inl ⟨by decide,by decide⟩,_,_,rfl,rfl,_,_,rfl,rfl,_,_,rfl,rfl,.inr ⟨by decide,by decide⟩,_,_,rfl,rfl,pos2,?_⟩
      refine⟨_,rfl,_,rfl,_,_,rfl,rfl,_,_,rfl,rfl,.inl w0q,_,_,rfl,rfl,pos1,_,_,rfl,rfl,dv64,_,rfl,_,_,rfl,rfl,hm0,?_⟩
      exact drawn (Q:=fun z H=>Q (.int z) H) hm0 fun r hr=>kl r hr
   ·refine⟨_,rfl,_,_,rfl,rfl,fits,_,_,rfl,rfl,_,rfl,ite2 (fun hz=>?_) fun hz=>?_⟩
    ·refine⟨_,rfl,_,rfl,c,_,rfl,.inl hC1,_,_,rfl,rfl,_,rfl,ite2 (fun hs=>?_) fun hs=>?_⟩
     ·refine⟨_,rfl,_,_,rfl,rfl,fits,_,_,rfl,rfl,_,rfl,_,_,rfl,rfl,hm,_,rfl,t,_,rfl,DPut.k (k:=Sum.inr "left") hT1 (g0n (by show 3<=1000;decide)),?_⟩
      rw[q0n]
      refine⟨_,rfl,_,_,rfl,rfl,fits,_,_,rfl,rfl,_,rfl,_,_,rfl,rfl,hm0,?_⟩
      refine drawn (Q:=fun z H=>Q (.int z) H) hm0 fun r hr=>kk r _ hr (jk ?_ (iL hm0))
      have hz':=of_decide_eq_true hz
      rw[p18]at hz' ⊢
      omega
     ·refine⟨_,rfl,_,_,rfl,rfl,pos1,_,rfl,_,_,rfl,rfl,.inl ⟨by decide,by decide⟩,_,rfl,_,_,rfl,rfl,.inr spOk,_,_,rfl,rfl,_,rfl,_,_,rfl,rfl,.inl ⟨by decide,by decide⟩,_,_,rfl,rfl,_,_,rfl,rfl,_,_,rfl,rfl,.inr ⟨by decide,by decide⟩,_,_,rfl,rfl,pos2,?_⟩
      refine⟨_,rfl,_,rfl,_,_,rfl,rfl,_,_,rfl,rfl,.inl w0q,_,_,rfl,rfl,pos1,_,_,rfl,rfl,dv64,_,rfl,_,_,rfl,rfl,hm0,?_⟩
      exact drawn (Q:=fun z H=>Q (.int z) H) hm0 fun r hr=>kl r hr
    ·refine⟨_,rfl,_,_,rfl,rfl,pos1,_,rfl,_,_,rfl,rfl,.inl ⟨by decide,by decide⟩,_,rfl,_,_,rfl,rfl,.inr spOk,_,_,rfl,rfl,_,rfl,_,_,rfl,rfl,.inl ⟨by decide,by decide⟩,_,_,rfl,rfl,_,_,rfl,rfl,_,_,rfl,rfl,.inr ⟨by decide,by decide⟩,_,_,rfl,rfl,pos2,?_⟩
     refine⟨_,rfl,_,rfl,_,_,rfl,rfl,_,_,rfl,rfl,.inl w0q,_,_,rfl,rfl,pos1,_,_,rfl,rfl,dv64,_,rfl,_,_,rfl,rfl,hm0,?_⟩
     exact drawn (Q:=fun z H=>Q (.int z) H) hm0 fun r hr=>kl r hr
end
end K82
set_option maxHeartbeats 1000000
namespace K82
open PySem PySem.Spec PyProof.Rows L2
theorem f1m (n:Nat)(xs:List Nat):inD (nD n) (a0e xs)=xs.contains n:=by
 unfold inD a0e
 rw[ga]
 induction xs with
 | nil=>rfl
 | cons x xs ih =>
  rw[cz,List.contains_cons,ih]
  congr 1
  show eqD (nD x) (nD n)=(n==x)
  unfold eqD
  show decide ((x:Int)=(n:Int))=(n==x)
  by_cases h:n=x
  ·subst h;simp
  ·have:¬((x:Int)=(n:Int)):=by omega
   simp[h,this]
theorem x0l {neg:Bool}{r2:R}{ρ:En}{q:Ko}{xs:List Nat}{n:Nat}(hv:view ρ r2=some (.lst (a0e xs)))(hq:q (.d (.bl (if neg then !xs.contains n else xs.contains n))) ρ):gIn neg (.d (nD n)) r2 ρ q:=by
 unfold gIn
 have e1:view ρ (.d (nD n))=some (nD n):=rfl
 rw[e1,hv]
 refine⟨⟨rfl,lr.mpr fun d hd=>?_⟩,?_⟩
 ·obtain⟨x,_,rfl⟩:=bD.mp hd;rfl
 ·rw[f1m];exact hq
theorem c0m (xs:List Nat):(a0e xs).length=xs.length:=by unfold a0e;rw[aw]
theorem n0e {xs:List Nat}(h:xs.Pairwise (· < ·)):(xs.map fun r=>((r:Nat):Int)).Pairwise (· < ·):=kZ.mpr (h.imp fun h=>by omega)
section
variable {n:Nat}{js:List Nat}{c:En->Prop}{g:AG}{tc:AT}{te:AE}{q:List D->En->Prop}
theorem t0j {α:Type}(h:α->D)(p:α->Bool)(f:α->D){xs:List α}{ρ:En}(hc:c ρ)(hs:∀x acc (N:List D->En->Prop),x∈xs->N (if p x=true then acc++[f x]else acc) ρ->h1m n js g tc te ρ (h x) acc N)
  (hd:q ((xs.filter p).map f) ρ):j0g n js c g tc te q (xs.map h) [] ρ:=by
 refine k0x (fun k acc ρ'=>ρ'=ρ/\acc=((xs.take k).filter p).map f) (fun k acc ρ' _ h=>h.1▸hc) ?_ ?_ ρ ⟨rfl,rfl⟩
 ·rintro k d acc _ N hk ⟨rfl,rfl⟩ hN
  rw[aM]at hk
  obtain⟨x,e1,rfl⟩:=aY.mp hk
  refine hs x _ N (bz e1) (hN _ _ ⟨rfl,?_⟩)
  rw[b8,e1,d5,hV,bp]
  cases hp:p x <;> simp[hp]
 ·rintro acc _ ⟨rfl,rfl⟩
  rw[aw,cj];exact hd
end
structure Cs where
 W:List Nat
 cl:Bool
 kn:List Nat
 sh:List Nat
 lf:Nat
def obC (C:Addr)(c:Cs):Sv:=.ob C [("wished",.tup (a0e c.W)),("clean",.bl c.cl),("known",.lst (a0e c.kn)),("shut",.lst (a0e c.sh)),("left",.int (c.lf:Nat))]
structure CsOk (c:Cs):Prop where
 w24:c.W.length<=24
 w:∀r∈c.W,1<=r/\r<64
 k:∀r∈c.kn,1<=r/\r<64
 kd:c.kn.Nodup
 sl:c.sh.length+64*c.lf<=704
 s:∀r∈c.sh,r<64
 l:c.lf<=11
def b0g (W K:List Nat):List Nat:=(aQ 64).filter fun r=>W.contains r && !K.contains r
def mayN (c:Bool)(x y:Nat):Bool:=!c||decide (x &&& y=0)
def h0k (c:Bool)(K:List Nat)(r:Nat):Bool:=K.any fun a=>K.any fun b=>decide (a≠b)&&mayN c a b&&decide (a ^^^ b=r)
def b0n (c:Bool)(K S:List Nat):List Nat:=(aQ 64).filter fun r=>h0k c K r && !K.contains r && !S.contains r
inductive Rch (c:Bool) (K:List Nat):Nat->Nat->Prop
 | nil:Rch c K 0 0
 | add {n t p:Nat} (h:Rch c K n t) (hp:p∈K) (hm:mayN c t p=true):Rch c K (n+1) (t ^^^ p)
open Classical in
noncomputable def farN (c:Bool)(K:List Nat)(l r:Nat):Bool:=decide (¬ ∃n,n<=l+1/\Rch c K n r)
def j0y (m:Nat)(rs:List Nat):D:=.tup [nD m,.tup (a0e rs)]
def SMay:ASp:=fun ss q=>∃(c:Bool) (x y:Nat),ss=[.vl (.bl c),nv x,nv y]/\q (.d (.bl (mayN c x y))) [.vl (.bl c),nv x,nv y]
def z0n (C:Addr):ASp:=fun ss q=>∃(c:Cs) (r:Nat) (s:List Nat),ss=[obC C c,nv r,.vl (.lst (a0e s))]/\c.kn.length<=1000/\1<=c.lf/\q (.x (obC C ⟨c.W,c.cl,c.kn++[r],s,c.lf - 1⟩)) [obC C c,nv r,.vl (.lst (a0e s))]
def w0c (C:Addr):ASp:=fun ss q=>∃c:Cs,ss=[obC C c]/\CsOk c/\q (.f (a0e (b0g c.W c.kn))) [obC C c]
def x0x (C:Addr):ASp:=fun ss q=>∃c:Cs,ss=[obC C c]/\CsOk c/\q (.d (.bl (decide (c.lf<(b0g c.W c.kn).length)))) [obC C c]
def d1q (C:Addr):ASp:=fun ss q=>∃c:Cs,ss=[obC C c]/\CsOk c/\q (.f (a0e (b0n c.cl c.kn c.sh))) [obC C c]
def SFar (C:Addr):ASp:=fun ss q=>∃(c:Cs) (r:Nat),ss=[obC C c,nv r]/\CsOk c/\r<64/\q (.d (.bl (farN c.cl c.kn c.lf r))) [obC C c,nv r]
def x0y (C:Addr):ASp:=fun ss q=>∃(m:Nat) (W:List Nat) (cl:Bool) (l:Nat),ss=[.vl (j0y m W),.vl (.bl cl),nv l]/\m<=12/\q (.x (obC C ⟨W,cl,a0y m,[],l⟩)) [.vl (j0y m W),.vl (.bl cl),nv l]
theorem CsOk.kl {c:Cs}(h:CsOk c):c.kn.length<=63:=by
 have:=cN h.kd (l₂:=(aQ 63).map (· + 1)) fun x hx=>by
  have:=h.k x hx
  exact bD.mpr ⟨x - 1,bv.mpr (by omega),by omega⟩
 rwa [aw,cK]at this
def pD (p:Nat×Nat):D:=.tup [nD p.1,nD p.2]
def prU (K:List Nat)(n:Nat):List (Nat×Nat):=(aQ n).flatMap fun i=>(K.take i).map fun b=>(K.getD i 0,b)
def prN (K:List Nat):List (Nat×Nat):=prU K K.length
theorem w0w (K:List Nat)(n:Nat):prU K (n+1)=prU K n++(K.take n).map fun b=>(K.getD n 0,b):=by
 unfold prU
 rw[cY,fk,fK,iO,bq]
theorem u0f (K:List Nat):∀n,(prU K n).length<=n*K.length
 | 0=>by simp[prU]
 | n+1=>by
  rw[w0w,aJ,aw,bi,mY]
  have:=u0f K n
  omega
theorem i1e (K:List Nat):(prN K).length<=K.length*K.length:=u0f K _
theorem u0g {K:List Nat}{a b:Nat}:(a,b)∈prN K↔∃i,i<K.length/\K.getD i 0=a/\b∈K.take i:=by
 unfold prN prU
 rw[iN]
 constructor
 ·rintro⟨i,hi,h⟩
  obtain⟨x,hx,e⟩:=bD.mp h
  injection e with e1 e2
  subst e2
  exact⟨i,bv.mp hi,e1,hx⟩
 ·rintro⟨i,hi,rfl,h⟩
  exact⟨i,bv.mpr hi,bD.mpr ⟨b,h,rfl⟩⟩
theorem f0s {K:List Nat}{i:Nat}(h:i<K.length):K.getD i 0∈K:=by
 rw[aF,ao h];exact dy h
theorem m0q {K:List Nat}{x:Nat}(h:x∈K):∃i,i<K.length/\K.getD i 0=x:=by
 obtain⟨i,hi,e⟩:=cp h
 exact⟨i,hi,by rw[aF,ao hi];exact e⟩
theorem i0t {K:List Nat}{i:Nat}{x:Nat}:x∈K.take i↔∃j,j<i/\j<K.length/\K.getD j 0=x:=by
 constructor
 ·intro h
  obtain⟨j,hj,e⟩:=cp h
  rw[bi]at hj
  refine⟨j,by omega,by omega,?_⟩
  rw[aF,ao (by omega)]
  rw[iC]at e
  exact e
 ·rintro⟨j,h1,h2,rfl⟩
  rw[aF,ao h2]
  exact List.mem_take_iff_getElem.mpr ⟨j,by omega,rfl⟩
theorem q0w {K:List Nat}(nd:K.Nodup){i j:Nat}(hi:i<K.length)(hj:j<K.length)(e:K.getD i 0=K.getD j 0):i=j:=by
 rw[aF,aF,ao hi,ao hj]at e
 rcases cX i j with h | h | h
 ·exact absurd e (di.mp nd i j hi hj h)
 ·exact h
 ·exact absurd e.symm (di.mp nd j i hj hi h)
theorem s0n (c:Bool)(a b:Nat):mayN c a b=mayN c b a:=by unfold mayN;rw[j7]
theorem e0w {c:Bool}{K:List Nat}{r:Nat}:h0k c K r=true↔∃a∈K,∃b∈K,a≠b/\mayN c a b=true/\a ^^^ b=r:=by
 unfold h0k
 rw[cD]
 refine exists_congr fun a=>and_congr jv ?_
 rw[cD]
 refine exists_congr fun b=>and_congr jv ?_
 rw[ba,ba,decide_eq_true_eq,decide_eq_true_eq,and_assoc]
theorem i1t {c:Bool}{K:List Nat}(nd:K.Nodup){r:Nat}:h0k c K r=true↔∃p∈prN K,mayN c p.1 p.2=true/\p.1 ^^^ p.2=r:=by
 rw[e0w]
 constructor
 ·rintro⟨a,ha,b,hb,ne,hm,rfl⟩
  obtain⟨i,hi,rfl⟩:=m0q ha
  obtain⟨j,hj,rfl⟩:=m0q hb
  rcases cX i j with h | h | h
  ·exact⟨(K.getD j 0,K.getD i 0),u0g.mpr ⟨j,hj,rfl,i0t.mpr ⟨i,h,hi,rfl⟩⟩,by rw[s0n];exact hm,fz _ _⟩
  ·subst h;exact absurd rfl ne
  ·exact⟨(K.getD i 0,K.getD j 0),u0g.mpr ⟨i,hi,rfl,i0t.mpr ⟨j,h,hj,rfl⟩⟩,hm,rfl⟩
 ·rintro⟨⟨a,b⟩,hp,hm,rfl⟩
  obtain⟨i,hi,rfl,hb⟩:=u0g.mp hp
  obtain⟨j,h1,h2,rfl⟩:=i0t.mp hb
  exact⟨_,f0s hi,_,f0s h2,fun e=>by have:=q0w nd hi h2 e;omega,hm,rfl⟩
theorem e1e {F ys:List Nat}{ns':List Int}(pm:ns'.Perm (F.map fun r=>((r:Nat):Int)))(up:ns'.Pairwise (· <= ·))(nd:F.Nodup)(hy:ys.Pairwise (· < ·))(hm:∀x,x∈F↔x∈ys):ns'=ys.map fun r=>((r:Nat):Int):=by
 have h1:ns'.Perm (ys.map fun r=>((r:Nat):Int)):=pm.trans (List.Perm.map _ ((List.perm_ext_iff_of_nodup nd (hy.imp fun h=>by omega)).mpr hm))
 exact List.Perm.eq_of_pairwise (le:=fun a b=>a<=b) (fun a b _ _ h1 h2=>Int.le_antisymm h1 h2) up ((n0e hy).imp fun h=>by omega) h1
theorem j1o {F:List Nat}(nd:F.Nodup)(h:∀r∈F,1<=r/\r<64):F.length<64:=by
 have:=cN nd (l₂:=(aQ 63).map (· + 1)) fun x hx=>by
  have:=h x hx
  exact bD.mpr ⟨x - 1,bv.mpr (by omega),by omega⟩
 rw[aw,cK]at this
 omega
theorem h1i {a b:Nat}(ha:a<64)(hb:b<64):a ^^^ b<64:=kY (n:=6) ha hb
theorem z0o {a b:Nat}(h:a≠b):1<=a ^^^ b:=il fun e=>h (by
 have:=congrArg (fun t=>t ^^^ b) e
 simp only[hU,mH,gj,Nat.zero_xor]at this
 exact this)
def insM (M:List Nat)(x:Nat):List Nat:=if x∈M then M else M++[x]
theorem x0j {M:List Nat}{x y:Nat}:y∈insM M x↔y∈M∨y=x:=by
 unfold insM
 split
 ·rename_i h
  exact⟨.inl,fun z=>z.elim id fun e=>e▸h⟩
 ·rw[a7,aL]
theorem c1d {M:List Nat}{x:Nat}(h:M.Nodup):(insM M x).Nodup:=by
 unfold insM
 split
 ·exact h
 ·rename_i hx
  exact dL.mpr ⟨h,by simp,fun a ha b hb e=>hx (by rw[aL.mp hb]at e;exact e▸ha)⟩
theorem e0b {c:Bool}{K:List Nat}(hk:∀r∈K,1<=r/\r<64){r:Nat}(h:h0k c K r=true):1<=r/\r<64:=by
 obtain⟨a,ha,b,hb,ne,_,rfl⟩:=e0w.mp h
 exact⟨z0o ne,h1i (hk a ha).2 (hk b hb).2⟩
theorem c0z {c:Bool}{K S:List Nat}(hk:∀r∈K,1<=r/\r<64){r:Nat}:r∈b0n c K S↔h0k c K r=true/\r∉K/\r∉S:=by
 unfold b0n
 rw[bu,bv,ba,ba,du,du,<- c8,<- c8,aV,aV,and_assoc]
 exact⟨fun h=>h.2,fun h=>⟨(e0b hk h.1).2,h⟩⟩
theorem q0x (c:Bool)(K S:List Nat):(b0n c K S).Pairwise (· < ·):=dC _ cJ
theorem f1k (W K:List Nat):(b0g W K).Pairwise (· < ·):=dC _ cJ
theorem e0x {W K:List Nat}(hw:∀r∈W,1<=r/\r<64){r:Nat}:r∈b0g W K↔r∈W/\r∉K:=by
 unfold b0g
 rw[bu,bv,ba,du,<- c8,aV,aV]
 exact⟨fun h=>h.2,fun h=>⟨(hw r h.1).2,h⟩⟩
theorem i1d {c:Bool}{K:List Nat}(hk:∀r∈K,1<=r/\r<64){n r:Nat}(h:Rch c K n r):r<64:=by
 induction h with
 | nil=>decide
 | add h hp hm ih=>exact h1i ih (hk _ hp).2
theorem i1c {c:Bool}{K:List Nat}{n x:Nat}(h:Rch c K (n+1) x):∃t p,Rch c K n t/\p∈K/\mayN c t p=true/\x=t ^^^ p:=by
 cases h with
 | add h hp hm=>exact⟨_,_,h,hp,hm,rfl⟩
def sumN (c:Bool)(K N:List Nat):List Nat:=N.flatMap fun t=>(K.filter (mayN c t)).map fun p=>t ^^^ p
theorem w0m {c:Bool}{K N:List Nat}{x:Nat}:x∈sumN c K N↔∃t∈N,∃p∈K,mayN c t p=true/\t ^^^ p=x:=by
 unfold sumN
 rw[iN]
 refine exists_congr fun t=>and_congr jv ?_
 rw[bD]
 refine exists_congr fun p=>?_
 rw[bu,and_assoc]
structure Lev (c:Bool)(K:List Nat)(k:Nat)(M N:List Nat):Prop where
 m:∀x,x∈M↔∃n,n<=k/\Rch c K n x
 n:∀x,x∈N↔Rch c K k x/\∀n,n<k->¬Rch c K n x
 nd:N.Nodup
 up:k=0->N=[0]
theorem Lev.new {c:Bool}{K:List Nat}{k:Nat}{M N:List Nat}(L:Lev c K k M N){x:Nat}(hx:x∉M):x∈sumN c K N↔Rch c K (k+1) x:=by
 rw[w0m]
 constructor
 ·rintro⟨t,ht,p,hp,hm,rfl⟩
  exact .add ((L.n t).mp ht).1 hp hm
 ·intro h
  obtain⟨t,p,h1,hp,hm,rfl⟩:=i1c h
  refine⟨t,(L.n t).mpr ⟨h1,fun n hn h2=>hx ((L.m _).mpr ⟨n+1,by omega,.add h2 hp hm⟩)⟩,p,hp,hm,rfl⟩
theorem Lev.next {c:Bool}{K:List Nat}{k:Nat}{M N N' M':List Nat}(L:Lev c K k M N)(hn:∀x,x∈N'↔x∈sumN c K N/\x∉M)(hm:∀x,x∈M'↔x∈M∨x∈N')(nd:N'.Nodup):Lev c K (k+1) M' N':=by
 have key:∀x,x∈N'↔Rch c K (k+1) x/\∀n,n<k+1->¬Rch c K n x:=fun x=>by
  rw[hn]
  constructor
  ·rintro⟨h1,h2⟩
   exact⟨(L.new h2).mp h1,fun n hn h=>h2 ((L.m x).mpr ⟨n,by omega,h⟩)⟩
  ·rintro⟨h1,h2⟩
   have h3:x∉M:=fun h=>by
    obtain⟨n,hn,h⟩:=(L.m x).mp h
    exact h2 n (by omega) h
   exact⟨(L.new h3).mpr h1,h3⟩
 refine⟨fun x=>?_,key,nd,fun e=>by omega⟩
 rw[hm,L.m,key]
 constructor
 ·rintro(⟨n,h1,h2⟩ | ⟨h1,_⟩)
  ·exact⟨n,by omega,h2⟩
  ·exact⟨k+1,aE _,h1⟩
 ·rintro⟨n,h1,h2⟩
  by_cases z:∃n,n<=k/\Rch c K n x
  ·exact .inl z
  ·have:n=k+1:=by
    rcases bf k n with q | q
    ·omega
    ·exact absurd ⟨n,q,h2⟩ z
   subst this
   exact .inr ⟨h2,fun n hn h=>z ⟨n,by omega,h⟩⟩
theorem Lev.start {c:Bool}{K:List Nat}:Lev c K 0 [0] [0]:=by
 have h0:∀x,Rch c K 0 x↔x=0:=fun x=>⟨fun h=>by cases h;rfl,fun e=>by rw[e];exact .nil⟩
 refine⟨fun x=>?_,fun x=>?_,by simp,fun _=>rfl⟩
 ·rw[aL]
  exact⟨fun e=>⟨0,aE _,(h0 x).mpr e⟩,fun⟨n,hn,h⟩=>by
   have e:n=0:=by omega
   subst e
   exact(h0 x).mp h⟩
 ·rw[aL,h0]
  exact⟨fun e=>⟨e,fun n hn=>by omega⟩,fun h=>h.1⟩
theorem Lev.lt {c:Bool}{K:List Nat}{k:Nat}{M N:List Nat}(L:Lev c K k M N)(hk:∀r∈K,1<=r/\r<64):N.length<64:=by
 by_cases z:k=0
 ·rw[L.up z];decide
 ·refine j1o L.nd fun r hr=>?_
  obtain⟨h1,h2⟩:=(L.n r).mp hr
  exact⟨il fun e=>h2 0 (by omega) (by rw[e];exact .nil),i1d hk h1⟩
theorem q0c (c:Bool)(K:List Nat):∀N:List Nat,(sumN c K N).length<=N.length*K.length
 | []=>by simp[sumN]
 | t::N=>by
  have:=q0c c K N
  unfold sumN at this ⊢
  rw[fK,aJ,aw,aS,mY]
  have:=df (mayN c t) K
  omega
theorem c1r (N:List Nat):∀M:List Nat,M.Nodup->(N.foldl insM M).Nodup/\∀x,x∈N.foldl insM M↔x∈M∨x∈N:=by
 induction N with
 | nil=>intro M h;exact⟨h,fun x=>by simp⟩
 | cons n N ih =>
  intro M h
  obtain⟨a,b⟩:=ih (insM M n) (c1d h)
  refine⟨a,fun x=>?_⟩
  rw[gm,b x,x0j,aK,or_assoc]
theorem x0r {c:Bool}{K:List Nat}{l r:Nat}:farN c K l r=true↔¬ ∃n,n<=l+1/\Rch c K n r:=by classical unfold farN;exact decide_eq_true_iff
theorem j1p {c:Bool}{K:List Nat}{l r:Nat}{b:Bool}(h:b=true↔∃n,n<=l+1/\Rch c K n r):farN c K l r = !b:=by
 rw[cO,x0r,<- h]
 cases b <;> simp
def Pap (W:List Nat)(cl:Bool):Nat->List Nat->List Nat->D->Prop
 | 0,kn,sh,d=>(d = .tup [.str "rows"]/\0<(b0g W kn).length)∨(∃r,d = .tup [.str "far",nD r]/\r∈b0g W kn/\farN cl kn 0 r=true)
 | l+1,kn,sh,d=>(d = .tup [.str "rows"]/\l+1<(b0g W kn).length)∨(∃r,d = .tup [.str "far",nD r]/\r∈b0g W kn/\farN cl kn (l+1) r=true) ∨
  (∃r p,d = .tup [.str "made",nD r,p]/\r∈b0g W kn/\r∈b0n cl kn sh/\Pap W cl l (kn++[r]) sh p) ∨
  (∃ps,d = .tup [.str "next",.tup ps]/\b0g W kn≠[]/\ps.length=(b0n cl kn sh).length/\∀i,i<ps.length->Pap W cl l (kn++[(b0n cl kn sh).getD i 0]) (sh++(b0n cl kn sh).take i) (ps.getD i .non))
open Classical in
noncomputable def papB (c:Cs)(d:D):Bool:=decide (Pap c.W c.cl c.lf c.kn c.sh d)
theorem k0l {c:Cs}{d:D}:papB c d=true↔Pap c.W c.cl c.lf c.kn c.sh d:=by classical unfold papB;exact decide_eq_true_iff
open Classical in
noncomputable def s0o (c:Cs)(r p:D):Bool:=decide (∃n,r=nD n/\1<=c.lf/\n∈b0g c.W c.kn/\n∈b0n c.cl c.kn c.sh/\Pap c.W c.cl (c.lf - 1) (c.kn++[n]) c.sh p)
theorem i0h {c:Cs}{r p:D}:s0o c r p=true↔∃n,r=nD n/\1<=c.lf/\n∈b0g c.W c.kn/\n∈b0n c.cl c.kn c.sh/\Pap c.W c.cl (c.lf - 1) (c.kn++[n]) c.sh p:=by classical unfold s0o;exact decide_eq_true_iff
open Classical in
noncomputable def o0t (c:Cs)(d:D):Bool:=decide (∃ps,d = .tup ps/\1<=c.lf/\b0g c.W c.kn≠[]/\ps.length=(b0n c.cl c.kn c.sh).length/\∀i,i<ps.length->Pap c.W c.cl (c.lf - 1) (c.kn++[(b0n c.cl c.kn c.sh).getD i 0]) (c.sh++(b0n c.cl c.kn c.sh).take i) (ps.getD i .non))
theorem i0g {c:Cs}{d:D}:o0t c d=true↔∃ps,d = .tup ps/\1<=c.lf/\b0g c.W c.kn≠[]/\ps.length=(b0n c.cl c.kn c.sh).length/\∀i,i<ps.length->Pap c.W c.cl (c.lf - 1) (c.kn++[(b0n c.cl c.kn c.sh).getD i 0]) (c.sh++(b0n c.cl c.kn c.sh).take i) (ps.getD i .non):=by classical unfold o0t;exact decide_eq_true_iff
theorem b1i {c:Cs}{d:D}:Pap c.W c.cl c.lf c.kn c.sh d↔(d = .tup [.str "rows"]/\c.lf<(b0g c.W c.kn).length)∨(∃r,d = .tup [.str "far",nD r]/\r∈b0g c.W c.kn/\farN c.cl c.kn c.lf r=true)∨(∃r p,d = .tup [.str "made",r,p]/\s0o c r p=true) ∨ ∃p,d = .tup [.str "next",p]/\o0t c p=true:=by
 obtain⟨W,cl,kn,sh,lf⟩:=c
 cases lf with
 | zero =>
  unfold Pap
  constructor
  ·rintro(h | h)
   ·exact .inl h
   ·exact .inr (.inl h)
  ·rintro(h | h | ⟨r,p,rfl,h⟩ | ⟨p,rfl,h⟩)
   ·exact .inl h
   ·exact .inr h
   ·obtain⟨n,_,h1,_⟩:=i0h.mp h
    exact absurd h1 (ky 0)
   ·obtain⟨n,_,h1,_⟩:=i0g.mp h
    exact absurd h1 (ky 0)
 | succ l =>
  unfold Pap
  refine or_congr jv (or_congr jv (or_congr ?_ ?_))
  ·constructor
   ·rintro⟨r,p,rfl,h1,h2,h3⟩
    exact⟨_,_,rfl,i0h.mpr ⟨r,rfl,lB (bg _),h1,h2,h3⟩⟩
   ·rintro⟨r,p,rfl,h⟩
    obtain⟨n,rfl,_,h1,h2,h3⟩:=i0h.mp h
    exact⟨n,p,rfl,h1,h2,h3⟩
  ·constructor
   ·rintro⟨ps,rfl,h1,h2,h3⟩
    exact⟨_,rfl,i0g.mpr ⟨ps,rfl,lB (bg _),h1,h2,h3⟩⟩
   ·rintro⟨p,rfl,h⟩
    obtain⟨ps,rfl,_,h1,h2,h3⟩:=i0g.mp h
    exact⟨ps,rfl,h1,h2,h3⟩
def SBy (C:Addr):Nat->ASp
 | 0=>fun _ _=>False
 | j+1=>fun ss q=>∃(c:Cs) (d:D),ss=[obC C c,.vl d]/\CsOk c/\1∈c.kn/\c.lf<=j/\d.depth<=60/\q (.d (.bl (papB c d))) [obC C c,.vl d]
def k1h (C:Addr)(j:Nat):ASp:=fun ss q=>∃(c:Cs) (r d:D),ss=[obC C c,.vl r,.vl d]/\CsOk c/\1∈c.kn/\c.lf<=j/\r.depth<=60/\d.depth<=60/\q (.d (.bl (s0o c r d))) [obC C c,.vl r,.vl d]
def k1f (C:Addr)(j:Nat):ASp:=fun ss q=>∃(c:Cs) (d:D),ss=[obC C c,.vl d]/\CsOk c/\1∈c.kn/\c.lf<=j/\d.depth<=60/\q (.d (.bl (o0t c d))) [obC C c,.vl d]
open Classical in
noncomputable def farB (c:Cs)(d:D):Bool:=decide (∃r,d=nD r/\r∈b0g c.W c.kn/\farN c.cl c.kn c.lf r=true)
theorem r0d {c:Cs}{d:D}:farB c d=true↔∃r,d=nD r/\r∈b0g c.W c.kn/\farN c.cl c.kn c.lf r=true:=by classical unfold farB;exact decide_eq_true_iff
def k1j (C:Addr):ASp:=fun ss q=>∃(c:Cs) (d:D),ss=[obC C c,.vl d]/\CsOk c/\1∈c.kn/\d.depth<=60/\q (.d (.bl (farB c d))) [obC C c,.vl d]
theorem o0j {b:Bool}{p:Prop}(h:b=true↔p)(n:¬p):b=false:=by
 cases b with
 | false=>rfl
 | true=>exact absurd (h.mp rfl) n
theorem l0u {xs:List Nat}(h2:∀r∈xs,2<=r){d:D}:((a0e xs).any fun e=>eqD e d)=true↔∃r∈xs,d=nD r:=by
 unfold a0e
 rw[ga,cD]
 refine exists_congr fun r=>and_congr_right fun hr=>?_
 have:=h2 r hr
 show eqD (nD r) d=true↔_
 cases d with
 | int i =>
  show decide ((r:Int)=i)=true↔_
  rw[decide_eq_true_eq]
  exact⟨fun e=>by rw[<- e],fun e=>by injection e with e;exact e.symm⟩
 | bl b =>
  cases b
  ·refine⟨fun h=>?_,fun h=>by cases h⟩
   have h:decide ((r:Int)=0)=true:=h
   rw[decide_eq_true_eq]at h
   omega
  ·refine⟨fun h=>?_,fun h=>by cases h⟩
   have h:decide ((r:Int)=1)=true:=h
   rw[decide_eq_true_eq]at h
   omega
 | non=>exact⟨fun h=>(by cases h),fun h=>by cases h⟩
 | str _=>exact⟨fun h=>(by cases h),fun h=>by cases h⟩
 | tup _=>exact⟨fun h=>(by cases h),fun h=>by cases h⟩
 | lst _=>exact⟨fun h=>(by cases h),fun h=>by cases h⟩
theorem m1h {c:Cs}(hc:CsOk c)(h1:1∈c.kn):∀r∈b0g c.W c.kn,2<=r:=fun r hr=>by
 obtain⟨a,b⟩:=(e0x hc.w).mp hr
 have:=hc.w r a
 have:r≠1:=fun e=>b (e▸h1)
 omega
theorem o1a {c:Cs}(hc:CsOk c)(h1:1∈c.kn):∀r∈b0n c.cl c.kn c.sh,2<=r:=fun r hr=>by
 obtain⟨a,b,_⟩:=(c0z hc.k).mp hr
 have:=e0b hc.k a
 have:r≠1:=fun e=>b (e▸h1)
 omega
theorem x0m {c:Cs}(hc:CsOk c):(b0n c.cl c.kn c.sh).length<=63:=by
 have:=j1o ((q0x c.cl c.kn c.sh).imp fun h=>by omega) fun r hr=>e0b hc.k ((c0z hc.k).mp hr).1
 omega
theorem CsOk.with {c:Cs}(hc:CsOk c)(hl:1<=c.lf){r:Nat}{s:List Nat}(hr:1<=r/\r<64)(hn:r∉c.kn)(hs:∀x∈s,x<64)(sl:s.length<=c.sh.length+63):CsOk ⟨c.W,c.cl,c.kn++[r],s,c.lf - 1⟩ :=
 ⟨hc.w24,hc.w,fun x hx=>(a7.mp hx).elim (hc.k x) fun h=>by rw[aL.mp h];exact hr,dL.mpr ⟨hc.kd,by simp,fun a ha b hb e=>hn (by rw[aL.mp hb]at e;exact e▸ha)⟩,by have:=hc.sl;show s.length+64*(c.lf - 1)<=704;omega,hs,by have:=hc.l;show c.lf - 1<=11;omega⟩
section
variable {P:aO}{w:be}{K:aa}{mg:Str->Option af}{base:Heap}
theorem b1r {C_Cases:Addr}(o:ClsO K mg C_Cases "Cases" ["wished", "clean", "known", "shut", "left"])(dn:DefM K C_Cases "__init__" "Cases.__init__" b0z ["self", "wished", "clean", "known", "shut", "left"]):ObC P w K mg base C_Cases "Cases" ["wished", "clean", "known", "shut", "left"]:=by
 refine ObC.of o dn l0g fun f cdv A outer s H vs Q E hr h=>?_
 obtain⟨x,dx,us,rfl,hl,hx,hq⟩:=h
 match us,hl with
 | [a0,a1,a2,a3,a4],_ =>
  refine⟨_,(a0h (r0z (pv 0) (pv 1) rfl) (a0h (r0z (pv 0) (pv 2) rfl) (a0h (r0z (pv 0) (pv 3) rfl) (a0h (r0z (pv 0) (pv 4) rfl) (a0l (r0z (pv 0) (pv 5) rfl)))))),?_⟩
  refine⟨_,rfl,_,rfl,x,C_Cases,dx,_,rfl,hx,o.cl,o.na _ (.head _),(show 0<1000 from by decide),?_⟩
  refine⟨_,rfl,_,rfl,x,C_Cases,dx,_,rfl,a0z,o.cl,o.na _ (.tail _ (.head _)),(show 1<1000 from by decide),?_⟩
  refine⟨_,rfl,_,rfl,x,C_Cases,dx,_,rfl,a0z,o.cl,o.na _ (.tail _ (.tail _ (.head _))),(show 2<1000 from by decide),?_⟩
  refine⟨_,rfl,_,rfl,x,C_Cases,dx,_,rfl,a0z,o.cl,o.na _ (.tail _ (.tail _ (.tail _ (.head _)))),(show 3<1000 from by decide),?_⟩
  refine⟨_,rfl,_,rfl,x,C_Cases,dx,_,rfl,a0z,o.cl,o.na _ (.tail _ (.tail _ (.tail _ (.tail _ (.head _))))),(show 4<1000 from by decide),?_⟩
  rw[l0d,l0d,l0d,l0d]
  exact hq
theorem y0o {K:aa}{mg:Str->Option af}{h:Heap}{C_Cases f_0 f_1 f_2 f_3 f_4 f_5 f_6 f_7 f_8 f_9:Addr}{oc_0 kV_0 doc_0 pm_0 cdv_0 ct_0:af}{od_0 an_0:Option Addr}{osl_0:Array (Option af)}{oc_1 kV_1 doc_1 pm_1 cdv_1 ct_1:af}{od_1 an_1:Option Addr}{osl_1:Array (Option af)}{oc_2 kV_2 doc_2 pm_2 cdv_2 ct_2:af}{od_2 an_2:Option Addr}{osl_2:Array (Option af)}{oc_3 kV_3 doc_3 pm_3 cdv_3 ct_3:af}{od_3 an_3:Option Addr}{osl_3:Array (Option af)}{oc_4 kV_4 doc_4 pm_4 cdv_4 ct_4:af}{od_4 an_4:Option Addr}{osl_4:Array (Option af)}{oc_5 kV_5 doc_5 pm_5 cdv_5 ct_5:af}{od_5 an_5:Option Addr}{osl_5:Array (Option af)}{oc_6 kV_6 doc_6 pm_6 cdv_6 ct_6:af}{od_6 an_6:Option Addr}{osl_6:Array (Option af)}{oc_7 kV_7 doc_7 pm_7 cdv_7 ct_7:af}{od_7 an_7:Option Addr}{osl_7:Array (Option af)}{oc_8 kV_8 doc_8 pm_8 cdv_8 ct_8:af}{od_8 an_8:Option Addr}{osl_8:Array (Option af)}{oc_9 kV_9 doc_9 pm_9 cdv_9 ct_9:af}{od_9 an_9:Option Addr}{osl_9:Array (Option af)}(KX:K.In h)(G:h.Ns bc mg)(f0:bB K bc "Cases" = some (some (.ref C_Cases)))(f1:eI K C_Cases Str.empty=true)(f2:fB K C_Cases=true)(f3:gW K C_Cases=true)(f4:bb K (.ref C_Cases) "__setattr__" = some (some (.builtin "object.__setattr__")))(f5:fX K C_Cases=true)(f6:bA K (.ref C_Cases)=true)(na0:bb K (.ref C_Cases) "wished" = some none)(na1:bb K (.ref C_Cases) "clean" = some none)(na2:bb K (.ref C_Cases) "known" = some none)(na3:bb K (.ref C_Cases) "shut" = some none)(na4:bb K (.ref C_Cases) "left" = some none)(m0_0:bb K (.ref C_Cases) "__init__" = some (some (.ref f_0)))(m0_1:K.lookup f_0=some ⟨oc_0,od_0,.func (bK "__init__" "Cases.__init__" (d0u b0z) (c0g b0z) (a0g b0z) .none kV_0 doc_0 pm_0 an_0 cdv_0 ct_0),osl_0⟩)(m0_2:bM K cdv_0 "Cases.__init__" = true)(m0_3:bA K (.ref f_0)=true)(m0_4:cw K (.ref f_0)=true)(m1_0:bb K (.ref C_Cases) "with_row" = some (some (.ref f_1)))(m1_1:K.lookup f_1=some ⟨oc_1,od_1,.func (bK "with_row" "Cases.with_row" (d0u b0x) (c0g b0x) (a0g b0x) .none kV_1 doc_1 pm_1 an_1 cdv_1 ct_1),osl_1⟩)(m1_2:bM K cdv_1 "Cases.with_row" = true)(m1_3:bA K (.ref f_1)=true)(m1_4:cw K (.ref f_1)=true)(m2_0:bb K (.ref C_Cases) "lacking" = some (some (.ref f_2)))(m2_1:K.lookup f_2=some ⟨oc_2,od_2,.func (bK "lacking" "Cases.lacking" (d0u b0u) (c0g b0u) (a0g b0u) .none kV_2 doc_2 pm_2 an_2 cdv_2 ct_2),osl_2⟩)(m2_2:bM K cdv_2 "Cases.lacking" = true)(m2_3:bA K (.ref f_2)=true)(m2_4:cw K (.ref f_2)=true)(m3_0:bb K (.ref C_Cases) "free_rows" = some (some (.ref f_3)))(m3_1:K.lookup f_3=some ⟨oc_3,od_3,.func (bK "free_rows" "Cases.free_rows" (d0u b0e) (c0g b0e) (a0g b0e) .none kV_3 doc_3 pm_3 an_3 cdv_3 ct_3),osl_3⟩)(m3_2:bM K cdv_3 "Cases.free_rows" = true)(m3_3:bA K (.ref f_3)=true)(m3_4:cw K (.ref f_3)=true)(m4_0:bb K (.ref C_Cases) "lacks_too_many" = some (some (.ref f_4)))(m4_1:K.lookup f_4=some ⟨oc_4,od_4,.func (bK "lacks_too_many" "Cases.lacks_too_many" (d0u b0d) (c0g b0d) (a0g b0d) .none kV_4 doc_4 pm_4 an_4 cdv_4 ct_4),osl_4⟩)(m4_2:bM K cdv_4 "Cases.lacks_too_many" = true)(m4_3:bA K (.ref f_4)=true)(m4_4:cw K (.ref f_4)=true)(m5_0:bb K (.ref C_Cases) "is_far" = some (some (.ref f_5)))(m5_1:K.lookup f_5=some ⟨oc_5,od_5,.func (bK "is_far" "Cases.is_far" (d0u b0p) (c0g b0p) (a0g b0p) .none kV_5 doc_5 pm_5 an_5 cdv_5 ct_5),osl_5⟩)(m5_2:bM K cdv_5 "Cases.is_far" = true)(m5_3:bA K (.ref f_5)=true)(m5_4:cw K (.ref f_5)=true)(m6_0:bb K (.ref C_Cases) "shown_by" = some (some (.ref f_6)))(m6_1:K.lookup f_6=some ⟨oc_6,od_6,.func (bK "shown_by" "Cases.shown_by" (d0u b0y) (c0g b0y) (a0g b0y) .none kV_6 doc_6 pm_6 an_6 cdv_6 ct_6),osl_6⟩)(m6_2:bM K cdv_6 "Cases.shown_by" = true)(m6_3:bA K (.ref f_6)=true)(m6_4:cw K (.ref f_6)=true)(m7_0:bb K (.ref C_Cases) "shown_far" = some (some (.ref f_7)))(m7_1:K.lookup f_7=some ⟨oc_7,od_7,.func (bK "shown_far" "Cases.shown_far" (d0u b0q) (c0g b0q) (a0g b0q) .none kV_7 doc_7 pm_7 an_7 cdv_7 ct_7),osl_7⟩)(m7_2:bM K cdv_7 "Cases.shown_far" = true)(m7_3:bA K (.ref f_7)=true)(m7_4:cw K (.ref f_7)=true)(m8_0:bb K (.ref C_Cases) "shown_made" = some (some (.ref f_8)))(m8_1:K.lookup f_8=some ⟨oc_8,od_8,.func (bK "shown_made" "Cases.shown_made" (d0u b0l) (c0g b0l) (a0g b0l) .none kV_8 doc_8 pm_8 an_8 cdv_8 ct_8),osl_8⟩)(m8_2:bM K cdv_8 "Cases.shown_made" = true)(m8_3:bA K (.ref f_8)=true)(m8_4:cw K (.ref f_8)=true)(m9_0:bb K (.ref C_Cases) "shown_next" = some (some (.ref f_9)))(m9_1:K.lookup f_9=some ⟨oc_9,od_9,.func (bK "shown_next" "Cases.shown_next" (d0u b0k) (c0g b0k) (a0g b0k) .none kV_9 doc_9 pm_9 an_9 cdv_9 ct_9),osl_9⟩)(m9_2:bM K cdv_9 "Cases.shown_next" = true)(m9_3:bA K (.ref f_9)=true)(m9_4:cw K (.ref f_9)=true):∃C_Cases:Addr,ClsO K mg C_Cases "Cases" ["wished", "clean", "known", "shut", "left"]/\DefM K C_Cases "__init__" "Cases.__init__" b0z ["self", "wished", "clean", "known", "shut", "left"]/\DefM K C_Cases "with_row" "Cases.with_row" b0x ["self", "row", "shut"]/\DefM K C_Cases "lacking" "Cases.lacking" b0u ["self"]/\DefM K C_Cases "free_rows" "Cases.free_rows" b0e ["self"]/\DefM K C_Cases "lacks_too_many" "Cases.lacks_too_many" b0d ["self"]/\DefM K C_Cases "is_far" "Cases.is_far" b0p ["self", "row"]/\DefM K C_Cases "shown_by" "Cases.shown_by" b0y ["self", "paper"]/\DefM K C_Cases "shown_far" "Cases.shown_far" b0q ["self", "row"]/\DefM K C_Cases "shown_made" "Cases.shown_made" b0l ["self", "row", "paper"]/\DefM K C_Cases "shown_next" "Cases.shown_next" b0k ["self", "papers"]:=by
 refine⟨C_Cases,?_,g0l m0_0 m0_1 m0_2 m0_3 m0_4 (fun _ _ _ _ _ _ us hl=>match us,hl with | [_,_,_,_,_,_],_=>rfl),g0l m1_0 m1_1 m1_2 m1_3 m1_4 (fun _ _ _ _ _ _ us hl=>match us,hl with | [_,_,_],_=>rfl),g0l m2_0 m2_1 m2_2 m2_3 m2_4 (fun _ _ _ _ _ _ us hl=>match us,hl with | [_],_=>rfl),g0l m3_0 m3_1 m3_2 m3_3 m3_4 (fun _ _ _ _ _ _ us hl=>match us,hl with | [_],_=>rfl),g0l m4_0 m4_1 m4_2 m4_3 m4_4 (fun _ _ _ _ _ _ us hl=>match us,hl with | [_],_=>rfl),g0l m5_0 m5_1 m5_2 m5_3 m5_4 (fun _ _ _ _ _ _ us hl=>match us,hl with | [_,_],_=>rfl),g0l m6_0 m6_1 m6_2 m6_3 m6_4 (fun _ _ _ _ _ _ us hl=>match us,hl with | [_,_],_=>rfl),g0l m7_0 m7_1 m7_2 m7_3 m7_4 (fun _ _ _ _ _ _ us hl=>match us,hl with | [_,_],_=>rfl),g0l m8_0 m8_1 m8_2 m8_3 m8_4 (fun _ _ _ _ _ _ us hl=>match us,hl with | [_,_,_],_=>rfl),g0l m9_0 m9_1 m9_2 m9_3 m9_4 (fun _ _ _ _ _ _ us hl=>match us,hl with | [_,_],_=>rfl)⟩
 refine⟨eJ KX G f0,⟨f1,f2,f3,f4⟩,fun f hf=>?_,f5,f6⟩
 simp only[aK,bF,or_false]at hf
 rcases hf with rfl | rfl | rfl | rfl | rfl
 ·exact na0
 ·exact na1
 ·exact na2
 ·exact na3
 ·exact na4
theorem u0s (dn:DefN K mg "is_tuple" i0z ["thing", "least", "most"])(B:BI mg):OkN P w K mg base 1 "is_tuple" ["thing", "least", "most"] (spA K m0x):=by
 refine dn.aok2 (k:=0) u0d (fun j=>j==0||j==1||j==2) [] m0x rfl (fun f cdv A outer s H E hr=>have hu:=e0e hr;⟨_,(a0l (b0f (n0j (b0m (d1i K) rfl B.isinstance_ r0o (a0c (pv 0) (a0c (n1u rfl B.tuple_ h0n) a0f))) (l0z (w0x u0i u0i (pv 1) (b0m (c0h K) rfl B.len_ f0l (a0c (pv 0) a0f)) (pv 2)))))),(a0u (h0b (c0t f1z (a0a a0b (a0a k1v a0d))) (r0u f0x f0x a0b (c0t d0m (a0a a0b a0d)) a0b)))⟩) ?_
 rintro ss q ⟨d,lo,hi,rfl,hq⟩
 refine⟨rfl,rfl,?_⟩
 cases d with
 | non=>exact l0n rfl o0w hq
 | str _=>exact l0n rfl o0v hq
 | int _=>exact l0n rfl o0x hq
 | lst _=>exact l0n rfl n0x hq
 | bl b=>exact l0n rfl n0y hq
 | tup ds =>
  refine l0n rfl m0h ?_
  refine iteT (ite2 (fun h=>?_) fun h=>?_)
  ·rw[show tupB lo hi (.tup ds)=decide ((ds.length:Int)<=hi)by simp[tupB,of_decide_eq_true h]]at hq
   exact hq
  ·rw[show tupB lo hi (.tup ds)=false by simp[tupB];intro h';exact absurd (decide_eq_true h') h]at hq
   exact hq
theorem b1o (dn:DefN K mg "joined" m0m ["one", "other"])(B:BI mg):OkN P w K mg base 1 "joined" ["one", "other"] (spA K l0v):=by
 refine dn.aok2 (k:=0) a1v (fun j=>j==0||j==1) [] l0v rfl (fun f cdv A outer s H E hr=>have hu:=e0e hr;⟨_,(a0l (b0f (c0i g1s (pv 0) (pv 1)))),(a0u (a0m d0c a0b a0b))⟩) ?_
 rintro ss q ⟨x,y,rfl,hq⟩
 refine⟨rfl,rfl,?_⟩
 show q (.d (.int (fo x y))) [nv x,nv y]
 rw[z0p];exact hq
theorem u0n (dn:DefN K mg "own_rows" g0p ["many"])(B:BI mg):OkN P w K mg base 1 "own_rows" ["many"] (spA K SOwn):=by
 refine dn.aok2 (k:=0) u0a (fun j=>j==0) [] SOwn rfl (fun f cdv A outer s H E hr=>have hu:=e0e hr;⟨_,(a0l (b0f (n0i ["given"] [] rfl (Blk.of (a0g g0p) n0p) (g0s rfl B.range_ (a0c (pv 0) a0f)) (fun _ _ _ _ nd=>(a0n (i:=0) nd rfl (by first | exact Or.inl rfl | exact Or.inr rfl))) (fun _ _ _ _=>f0w) (fun _ _ _ _=>(c0i b1k a0r (pv 0)))))),(a0u (h0a (g0m (a0a a0b a0d)) (a0i rfl) e0l (a0m u0k a0p a0b)))⟩) ?_
 rintro ss q ⟨m,rfl,hm,hq⟩
 refine⟨rfl,rfl,⟨by omega,by omega⟩,by rw[g0d];omega,?_⟩
 refine t0h (fun k=>.int (1 <<< k:Nat)) trivial (fun k acc N hk hN=>?_) ?_
 ·rw[mM]
  refine⟨⟨by omega,by omega,by decide⟩,?_⟩
  show N (acc++[.int ((1:Int)*2^((k:Int).toNat))]) _
  rw[t0z];exact hN
 ·rw[cL]
  have e:((aQ m).map fun k=>D.int (1 <<< k:Nat))=a0e (a0y m):=by unfold a0y a0e;rw[bI];rfl
  rw[e];exact hq
theorem u0o (dn:DefN K mg "may_join" i0w ["clean", "one", "other"])(B:BI mg):OkN P w K mg base 1 "may_join" ["clean", "one", "other"] (spA K SMay):=by
 refine dn.aok2 (k:=0) u0b (fun j=>j==0||j==1||j==2) [] SMay rfl (fun f cdv A outer s H E hr=>have hu:=e0e hr;⟨_,(a0l (b0f (n1v (l1t (pv 0)) (l0z (g0j (g0t K hr.units) (c0i g1t (pv 1) (pv 2)) a0r (d0d _)))))),(a0u (h1n (e1a a0b) (a0m g0u (a0m d0c a0b a0b) a0p)))⟩) ?_
 rintro ss q ⟨c,x,y,rfl,hq⟩
 refine⟨rfl,rfl,?_⟩
 cases c with
 | false=>exact hq
 | true =>
  refine e0a (b:=decide (x &&& y=0)) rfl rfl (by simp[D.depth]) ?_ hq
  show eqD (.int (eB (x:Int) (y:Int))) (.int 0)=_
  rw[w0a]
  show decide (((x &&& y:Nat):Int)=0)=_
  rw[decide_eq_decide];omega
theorem l0j {C_Cases:Addr}(ob_Cases:ObC P w K mg base C_Cases "Cases" ["wished", "clean", "known", "shut", "left"])(dn:DefM K C_Cases "with_row" "Cases.with_row" b0x ["self", "row", "shut"])(B:BI mg):OkM P w K mg base 3 C_Cases "with_row" ["self", "row", "shut"] (spA K (z0n C_Cases)):=by
 refine dn.aok2 (k:=2) l0f (fun j=>j==0||j==1||j==2) [] (z0n C_Cases) rfl (fun f cdv A outer s H E hr=>have hu:=e0e hr;⟨_,(a0l (b0f (g1q ob_Cases.nw (hr.mono (by decide)) (a0c (d0z (pv 0) rfl) (a0c (d0z (pv 0) rfl) (a0c (c0i (u0j K) (d0z (pv 0) rfl) (k0j (a0c (pv 1) a0f))) (a0c (pv 2) (a0c (c0i s0b (d0z (pv 0) rfl) a0r) a0f)))))))),(a0u (z0x (a0a (c0u ob_Cases.cl (ob_Cases.na _ (.head _)) a0b) (a0a (c0u ob_Cases.cl (ob_Cases.na _ (.tail _ (.head _))) a0b) (a0a (a0m u0m (c0u ob_Cases.cl (ob_Cases.na _ (.tail _ (.tail _ (.head _)))) a0b) (g0z (a0a a0b a0d))) (a0a a0b (a0a (a0m d0c (c0u ob_Cases.cl (ob_Cases.na _ (.tail _ (.tail _ (.tail _ (.tail _ (.head _)))))) a0b) a0p) a0d)))))))⟩) ?_
 rintro ss q ⟨c,r,s,rfl,hl,h1,hq⟩
 refine⟨rfl,rfl,?_⟩
 refine⟨rfl,_,rfl,rfl,_,rfl,rfl,_,rfl,by simp,by rw[c0m];simp;omega,rfl,_,rfl,rfl,?_⟩
 have e:a0e c.kn++[D.int (r:Int)]=a0e (c.kn++[r]):=(e0k _ _).symm
 have e2:(c.lf:Int) - 1=((c.lf - 1:Nat):Int):=by omega
 show q (.x (.ob C_Cases [("wished",.tup (a0e c.W)),("clean",.bl c.cl),("known",.lst (a0e c.kn++[D.int (r:Int)])),("shut",.lst (a0e s)),("left",.int ((c.lf:Int) - 1))])) _
 rw[e,e2]
 exact hq
theorem m0d {C_Cases:Addr}(ob_Cases:ObC P w K mg base C_Cases "Cases" ["wished", "clean", "known", "shut", "left"])(dn:DefM K C_Cases "lacking" "Cases.lacking" b0u ["self"])(B:BI mg):OkM P w K mg base 3 C_Cases "lacking" ["self"] (spA K (w0c C_Cases)):=by
 refine dn.aok2 (k:=2) m0a (fun j=>j==0) [] (w0c C_Cases) rfl (fun f cdv A outer s H E hr=>have hu:=e0e hr;⟨_,(a0l (b0f (s0a ["row"] [0] rfl rfl B.sorted_ (Blk.of (a0g b0u) h0w) (e0r K (d0z (pv 0) rfl)) (fun _ _ _ _ nd=>(a0n (i:=0) nd rfl (by first | exact Or.inl rfl | exact Or.inr rfl))) (fun _ _ _ _=>(j0r (c0o (h0h K) (pv 0) (d0z (pv 1) rfl) rfl))) (fun _ _ _ _=>(pv 0))))),(a0u (p0b (d0j (c0u ob_Cases.cl (ob_Cases.na _ (.head _)) a0b)) (a0i rfl) (b0h (a0m (x0c true) a0b (c0u ob_Cases.cl (ob_Cases.na _ (.tail _ (.tail _ (.head _)))) a0b))) a0b))⟩) ?_
 rintro ss q ⟨c,rfl,hc,hq⟩
 have w24:=hc.w24
 refine⟨rfl,rfl,?_⟩
 refine⟨rfl,_,rfl,by rw[c0m];omega,?_⟩
 refine l0r nD (fun r=>!c.kn.contains r) (fun r=>((r:Nat):Int)) trivial (fun r acc N hr hN=>?_) ?_
 ·refine⟨rfl,_,rfl,x0l (xs:=c.kn) rfl ?_⟩
  cases hb:c.kn.contains r with
  | true=>rw[hb]at hN;exact hN
  | false=>rw[hb]at hN;exact hN
 ·rw[i7]
  refine⟨?_,fun ns' up hm=>?_⟩
  ·refine fE (h1d _) ?_
   rw[aw]
   have:=df (fun r=>!c.kn.contains r) c.W
   omega
  ·have:ns'=(b0g c.W c.kn).map fun r=>((r:Nat):Int):=n0d up (n0e (dC _ cJ)) fun x=>by
    rw[hm x,bD,bD]
    unfold b0g
    constructor
    ·rintro⟨r,hr,rfl⟩
     obtain⟨h1,h2⟩:=bu.mp hr
     exact⟨r,bu.mpr ⟨bv.mpr (hc.w r h1).2,by rw[aV.mpr h1,h2];rfl⟩,rfl⟩
    ·rintro⟨r,hr,rfl⟩
     obtain⟨h1,h2⟩:=bu.mp hr
     rw[ba]at h2
     exact⟨r,bu.mpr ⟨aV.mp h2.1,h2.2⟩,rfl⟩
   subst this
   rw[bI]
   exact hq
theorem h0i {C_Cases:Addr}(ob_Cases:ObC P w K mg base C_Cases "Cases" ["wished", "clean", "known", "shut", "left"])(dn:DefM K C_Cases "lacks_too_many" "Cases.lacks_too_many" b0d ["self"])(B:BI mg)(g_Cases_lacking:OkM P w K mg base 3 C_Cases "lacking" ["self"] (spA K (w0c C_Cases))):OkM P w K mg base 4 C_Cases "lacks_too_many" ["self"] (spA K (x0x C_Cases)):=by
 refine dn.aok2 (k:=3) h0d (fun j=>j==0) [] (x0x C_Cases) rfl (fun f cdv A outer s H E hr=>have hu:=e0e hr;⟨_,(a0l (b0f (g0j i1p (b0m (c0h K) rfl B.len_ f0l (a0c (j0l g_Cases_lacking ob_Cases.cl (hr.mono (by decide)) (pv 0)) a0f)) (d0z (pv 0) rfl) (d0d _)))),(a0u (a0m f0x (c0t d0m (a0a (c0a a0b a0d) a0d)) (c0u ob_Cases.cl (ob_Cases.na _ (.tail _ (.tail _ (.tail _ (.tail _ (.head _)))))) a0b)))⟩) ?_
 rintro ss q ⟨c,rfl,hc,hq⟩
 refine⟨rfl,rfl,?_⟩
 refine⟨rfl,rfl,rfl,c,rfl,hc,rfl,_,rfl,?_⟩
 have e:decide (((c.lf:Nat):Int)<(((a0e (b0g c.W c.kn)).length:Nat):Int))=decide (c.lf<(b0g c.W c.kn).length):=by
  rw[c0m,decide_eq_decide];omega
 show q (.d (.bl (decide (((c.lf:Nat):Int)<(((a0e (b0g c.W c.kn)).length:Nat):Int))))) _
 rw[e]
 exact hq
theorem o0p {C_Cases:Addr}(ob_Cases:ObC P w K mg base C_Cases "Cases" ["wished", "clean", "known", "shut", "left"])(dn:DefN K mg "first_cases" f0q ["wish", "clean", "count"])(B:BI mg)(g_own_rows:OkN P w K mg base 1 "own_rows" ["many"] (spA K SOwn)):OkN P w K mg base 3 "first_cases" ["wish", "clean", "count"] (spA K (x0y C_Cases)):=by
 refine dn.aok2 (k:=2) g0g (fun j=>j==0||j==1||j==2) [.un,.un] (x0y C_Cases) rfl (fun f cdv A outer s H E hr=>have hu:=e0e hr;⟨_,(a0h (j0k (pv 0) (c0s K (n:=2) rfl (a0o (a0n (i:=3) g0g.nd rfl (by first | exact Or.inl rfl | exact Or.inr rfl)) (a0o (a0n (i:=4) g0g.nd rfl (by first | exact Or.inl rfl | exact Or.inr rfl)) c0r))))
  (a0l (b0f (g1q ob_Cases.nw (hr.mono (by decide)) (a0c (pv 4) (a0c (pv 1) (a0c (c0v g_own_rows (hr.mono (by decide)) (a0c (pv 3) a0f)) (a0c (k0j a0f) (a0c (pv 2) a0f))))))))),(a0k (g0f a0b (b0s (a0j (a0i rfl) (a0j (a0i rfl) b0i (fun _ _ _=>a0w)) (fun _ _ _=>a0w))))
  (a0u (z0x (a0a a0b (a0a a0b (a0a (a0q (a0a a0b a0d)) (a0a (g0z a0d) (a0a a0b a0d))))))))⟩) ?_
 rintro ss q ⟨m,W,cl,l,rfl,hm,hq⟩
 refine⟨rfl,rfl,?_⟩
 refine cutS (fun ρ=>ρ=[.vl (j0y m W),.vl (.bl cl),nv l,nv m,.vl (.tup (a0e W))]) (fun M hM=>hM _ rfl) ?_
 rintro _ rfl
 exact⟨rfl,m,rfl,by omega,by simp,rfl,hq⟩
end
section
variable {P:aO}{w:be}{K:aa}{mg:Str->Option af}{base:Heap}
theorem k0p {C_Cases:Addr}(ob_Cases:ObC P w K mg base C_Cases "Cases" ["wished", "clean", "known", "shut", "left"])(dn:DefM K C_Cases "free_rows" "Cases.free_rows" b0e ["self"])(B:BI mg)(g_joined:OkN P w K mg base 1 "joined" ["one", "other"] (spA K l0v))(g_may_join:OkN P w K mg base 1 "may_join" ["clean", "one", "other"] (spA K SMay)):OkM P w K mg base 3 C_Cases "free_rows" ["self"] (spA K (d1q C_Cases)):=by
 refine dn.aok2 (k:=2) e0o (fun j=>j==0) [.un,.un] (d1q C_Cases) rfl (fun f cdv A outer s H E hr=>have hu:=e0e hr;⟨_,(a0h (q0p (i:=1) ["other", "at", "one"] [0] e0o.nd rfl (by first | exact Or.inl rfl | exact Or.inr rfl) rfl (Blk.of (a0g b0e) d0k) (j0s K rfl B.enumerate_ (a0c (d0z (pv 0) rfl) a0f)) (fun _ _ _ _ nd=>(c0s K (n:=2) rfl (a0o (a0n (i:=1) nd rfl (by first | exact Or.inl rfl | exact Or.inr rfl)) (a0o (a0n (i:=2) nd rfl (by first | exact Or.inl rfl | exact Or.inr rfl)) c0r)))) (fun _ _ _ _=>f0w) (fun _ _ _ _=>(e0r K (f0c (i0u K) (d0z (pv 3) rfl) g0i (g0h (pv 1))))) (fun _ _ _ _ nd=>(a0n (i:=0) nd rfl (by first | exact Or.inl rfl | exact Or.inr rfl))) (fun _ _ _ _=>f0w) (fun _ _ _ _=>(d0e (a0c (pv 2) (a0c (pv 0) a0f)))))
  (a0h (w0v (i:=2) ["one", "other"] [0] e0o.nd rfl (by first | exact Or.inl rfl | exact Or.inr rfl) rfl (Blk.of (a0g b0e) d0k) (e0r K (pv 1)) (fun _ _ _ _ nd=>(c0s K (n:=2) rfl (a0o (a0n (i:=0) nd rfl (by first | exact Or.inl rfl | exact Or.inr rfl)) (a0o (a0n (i:=1) nd rfl (by first | exact Or.inl rfl | exact Or.inr rfl)) c0r)))) (fun _ _ _ _=>(j0r (k0i (c0v g_may_join (hr.mono (by decide)) (a0c (d0z (pv 2) rfl) (a0c (pv 0) (a0c (pv 1) a0f))))))) (fun _ _ _ _=>(c0v g_joined (hr.mono (by decide)) (a0c (pv 0) (a0c (pv 1) a0f)))) (fun _ _ _ _=>e0u))
  (a0l (b0f (b0m (v0u K) rfl B.sorted_ t0n (a0c (n0i ["row"] [0] rfl (Blk.of (a0g b0e) d0k) (i1f (pv 2)) (fun _ _ _ _ nd=>(a0n (i:=0) nd rfl (by first | exact Or.inl rfl | exact Or.inr rfl))) (fun _ _ _ _=>(j0r (PW.pt (p0f (c0o (h0h K) (pv 0) (d0z (pv 1) rfl) rfl) (l0i (c0o (h0h K) (pv 0) (d0z (pv 1) rfl) rfl)))))) (fun _ _ _ _=>(pv 0))) a0f)))))),(a0k (n0b (n0a (n2:=1) (f0v (a0a (c0u ob_Cases.cl (ob_Cases.na _ (.tail _ (.tail _ (.head _)))) a0b) a0d)) (b0s (a0j (a0i rfl) (a0j (a0i rfl) b0i (fun _ _ _=>a0w)) (fun _ _ _=>a0w))) e0l (d0j (m0y (c0u ob_Cases.cl (ob_Cases.na _ (.tail _ (.tail _ (.head _)))) a0b) g0y (e0m a0b))) (a0i rfl) e0l (c0d (a0a a0b (a0a a0b a0d)))) rfl)
  (a0k (r0x (m0z (d0j a0b) (b0s (a0j (a0i rfl) (a0j (a0i rfl) b0i (fun _ _ _=>a0w)) (fun _ _ _=>a0w))) (j0h (a0q (a0a (c0u ob_Cases.cl (ob_Cases.na _ (.tail _ (.head _))) a0b) (a0a a0b (a0a a0b a0d))))) (a0q (a0a a0b (a0a a0b a0d))) c0y) rfl)
  (a0u (c0t v0t (a0a (h0a (a1b a0b) (a0i rfl) (k0a (b0h (a0m (x0c true) a0b (c0u ob_Cases.cl (ob_Cases.na _ (.tail _ (.tail _ (.head _)))) a0b))) (b0h (a0m (x0c true) a0b (c0u ob_Cases.cl (ob_Cases.na _ (.tail _ (.tail _ (.tail _ (.head _))))) a0b)))) a0b) a0d)))))⟩) ?_
 rintro ss q ⟨c,rfl,hc,hq⟩
 have hkl:=hc.kl
 refine⟨rfl,rfl,?_⟩
 have hpl:(prN c.kn).length<=63*63:=aW (i1e c.kn) (gO hkl hkl)
 refine cutS (fun ρ=>ρ=[obC C_Cases c,.ow ((prN c.kn).map pD),.un]) (fun M hM=>?_) ?_
 ·refine⟨rfl,_,rfl,?_⟩
  have pre:∀i,i<=c.kn.length->(prU c.kn i).length<=63*63:=fun i hi=>aW (u0f c.kn i) (gO (aW hi hkl) hkl)
  refine t0g (fun i acc ρ=>acc=(prU c.kn i).map pD/\i<=c.kn.length/\ρ=[obC C_Cases c,.un,.un]) (fun i acc ρ _ h=>⟨trivial,by rw[h.1,aw];exact aW (pre i h.2.1) (by decide)⟩) ?_ ?_ _ ⟨rfl,bg _,rfl⟩
  ·rintro i d acc _ N hd ⟨rfl,hil,rfl⟩ hN
   obtain⟨x,hx,rfl⟩:=d0t hd
   rw[a0e,aM]at hx
   obtain⟨a,ha,rfl⟩:=aY.mp hx
   have hi:=(aI.mp ha).1
   have ea:c.kn.getD i 0=a:=by rw[aF,ha];rfl
   rw[ck]
   refine⟨rfl,_,rfl,?_⟩
   have ec:cutD (a0e c.kn) none (some ((i:Nat):Int))=(c.kn.take i).map nD:=by rw[f0k];unfold a0e;rw[d7]
   show j0f 1 (fun _=>True) _ _ _ _ (cutD (a0e c.kn) none (some ((i:Nat):Int))) _ [.un,.vl (.int (i:Int)),.vl (.int (a:Int)),obC C_Cases c]
   rw[ec]
   refine i0m nD (fun _=>true) (fun b=>pD (a,b)) trivial (by rw[aw,bi];have:=pre i (by omega);omega) (fun b acc N2 hb hN2=>⟨by simp,hN2⟩) ?_
   refine hN _ _ ⟨?_,by omega,rfl⟩
   rw[w0w,bp,bI,ea,List.filter_eq_self.mpr (fun _ _=>rfl)]
   rfl
  ·rintro acc _ ⟨rfl,_,rfl⟩
   have el:(f0j 0 (a0e c.kn)).length=c.kn.length:=by rw[c0n,c0m]
   rw[el]
   exact hM _ rfl
 rintro _ rfl
 refine cutS (fun ρ=>∃M:List Nat,M.Nodup/\(∀x,x∈M↔h0k c.cl c.kn x=true)/\ρ=[obC C_Cases c,.ow ((prN c.kn).map pD),.dk (mkT M)]) (fun M hM=>?_) ?_
 ·refine⟨rfl,by rw[aw];omega,?_⟩
  refine l0s (fun j acc ρ=>∃M:List Nat,acc=mkT M/\M.Nodup/\(∀x,x∈M↔∃p∈(prN c.kn).take j,mayN c.cl p.1 p.2=true/\p.1 ^^^ p.2=x)/\ρ=[obC C_Cases c,.ow ((prN c.kn).map pD),.un]) (fun j acc ρ _ ⟨M,_,_,_,e⟩=>by rw[e];rfl) ?_ ?_ _ ⟨[],rfl,lT,by simp,rfl⟩
  ·rintro j d acc _ N hd ⟨M,rfl,nd,hm,rfl⟩ hN
   rw[aM]at hd
   obtain⟨⟨a,b⟩,hp,rfl⟩:=aY.mp hd
   refine⟨rfl,_,rfl,rfl,c.cl,a,b,rfl,?_⟩
   have et:(prN c.kn).take (j+1)=(prN c.kn).take j++[(a,b)]:=by rw[b8,hp];rfl
   cases hb:mayN c.cl a b with
   | true =>
    refine⟨rfl,a,b,rfl,hN _ _ ⟨insM M (a ^^^ b),q0o M (a ^^^ b),c1d nd,fun x=>?_,rfl⟩⟩
    rw[x0j,hm x,et]
    constructor
    ·rintro(⟨p,h1,h2⟩ | rfl)
     ·exact⟨p,bj _ h1,h2⟩
     ·exact⟨(a,b),ar _ (aL.mpr rfl),hb,rfl⟩
    ·rintro⟨p,h1,h2,h3⟩
     rcases a7.mp h1 with h1 | h1
     ·exact .inl ⟨p,h1,h2,h3⟩
     ·rw[aL.mp h1]at h3
      exact .inr h3.symm
   | false =>
    refine hN _ _ ⟨M,rfl,nd,fun x=>?_,rfl⟩
    rw[hm x,et]
    constructor
    ·rintro⟨p,h1,h2⟩
     exact⟨p,bj _ h1,h2⟩
    ·rintro⟨p,h1,h2,h3⟩
     rcases a7.mp h1 with h1 | h1
     ·exact⟨p,h1,h2,h3⟩
     ·rw[aL.mp h1]at h2
      rw[hb]at h2;cases h2
  ·rintro acc _ ⟨M,rfl,nd,hm,rfl⟩
   rw[aw,cj]at hm
   exact hM _ ⟨M,nd,fun x=>by rw[hm x,i1t hc.kd],rfl⟩
 rintro _ ⟨M,nd,hm,rfl⟩
 have hM64:∀r∈M,1<=r/\r<64:=fun r hr=>e0b hc.k ((hm r).mp hr)
 have hMl:=j1o nd hM64
 have ek:(mkT M).map (fun p=>kD p.1)=M.map nD:=by unfold mkT;rw[bI];rfl
 show((mkT M).map fun p=>kD p.1).length<=1000000/\j0g _ _ _ _ _ _ _ ((mkT M).map fun p=>kD p.1) [] _
 rw[ek]
 refine⟨by rw[aw];omega,?_⟩
 refine t0j nD (fun x=>!c.kn.contains x && !c.sh.contains x) nD trivial (fun x acc N hx hN=>?_) ?_
 ·refine⟨rfl,_,rfl,x0l (xs:=c.kn) rfl ?_⟩
  cases h1:c.kn.contains x with
  | true=>rw[h1]at hN;exact hN
  | false =>
   refine⟨rfl,_,rfl,x0l (xs:=c.sh) rfl ?_⟩
   cases h2:c.sh.contains x with
   | true=>rw[h1,h2]at hN;exact hN
   | false=>rw[h1,h2]at hN;exact hN
 ·have nf:(M.filter fun x=>!c.kn.contains x && !c.sh.contains x).Nodup:=nd.sublist kz
  refine z0d (ns:=(M.filter fun x=>!c.kn.contains x && !c.sh.contains x).map fun r=>((r:Nat):Int)) (by rw[bI];rfl) (by rw[aw];have:=df (fun x=>!c.kn.contains x && !c.sh.contains x) M;omega) fun ns' pm up=>?_
  have:=e1e pm up nf (q0x c.cl c.kn c.sh) fun x=>by
   rw[c0z hc.k,bu,hm x,ba,du,du,<- c8,<- c8,aV,aV]
  subst this
  rw[bI]
  exact hq
end
section
variable {P:aO}{w:be}{K:aa}{mg:Str->Option af}{base:Heap}
theorem n0o {C_Cases:Addr}(ob_Cases:ObC P w K mg base C_Cases "Cases" ["wished", "clean", "known", "shut", "left"])(dn:DefM K C_Cases "is_far" "Cases.is_far" b0p ["self", "row"])(B:BI mg)(g_joined:OkN P w K mg base 1 "joined" ["one", "other"] (spA K l0v))(g_may_join:OkN P w K mg base 1 "may_join" ["clean", "one", "other"] (spA K SMay)):OkM P w K mg base 3 C_Cases "is_far" ["self", "row"] (spA K (SFar C_Cases)):=by
 refine dn.aok2 (k:=2) c0q (fun j=>j==0||j==1) [.un,.un,.un,.un] (SFar C_Cases) rfl (fun f cdv A outer s H E hr=>have hu:=e0e hr;⟨_,(a0h (c0k (i:=2) c0q.nd rfl (by first | exact Or.inl rfl | exact Or.inr rfl) (b1g (m0o a0r e0u b1c) rfl rfl (by simp) (by decide)))
  (a0h (c0k (i:=3) c0q.nd rfl (by first | exact Or.inl rfl | exact Or.inr rfl) (k0j (a0c a0r a0f)))
  (a0h (c0k (i:=4) c0q.nd rfl (by first | exact Or.inl rfl | exact Or.inr rfl) a0r)
  (a0h (e1p bR (PW.pt (p0f (c0o u0i (pv 4) (d0z (pv 0) rfl) (d0d _)) (l0i (w0u (n0k hu (pv 1) (pv 2))))))
  (a0h (q0p (i:=5) ["part", "total"] [0] c0q.nd rfl (by first | exact Or.inl rfl | exact Or.inr rfl) rfl (Blk.of (a0g b0p) e0v) (e0r K (pv 3)) (fun _ _ _ _ nd=>(a0n (i:=1) nd rfl (by first | exact Or.inl rfl | exact Or.inr rfl))) (fun _ _ _ _=>f0w) (fun _ _ _ _=>(e0r K (d0z (pv 2) rfl))) (fun _ _ _ _ nd=>(a0n (i:=0) nd rfl (by first | exact Or.inl rfl | exact Or.inr rfl))) (fun _ _ _ _=>(j0r (k0i (c0v g_may_join (hr.mono (by decide)) (a0c (d0z (pv 2) rfl) (a0c (pv 1) (a0c (pv 0) a0f))))))) (fun _ _ _ _=>(c0v g_joined (hr.mono (by decide)) (a0c (pv 1) (a0c (pv 0) a0f)))))
  (a0h (c0k (i:=3) c0q.nd rfl (by first | exact Or.inl rfl | exact Or.inr rfl) (s0a ["total"] [2] rfl rfl B.sorted_ (Blk.of (a0g b0p) e0v) (e0r K (pv 5)) (fun _ _ _ _ nd=>(a0n (i:=0) nd rfl (by first | exact Or.inl rfl | exact Or.inr rfl))) (fun _ _ _ _=>(j0r (w0u (n0k hu (pv 0) (pv 1))))) (fun _ _ _ _=>(pv 0))))
  (a0h (i0d (k0k K jq jg PySem.F.type_dict_update i1v (pv 2) (a0c (e1y ["total"] [] rfl (Blk.of (a0g b0p) e0v) (e0r K (pv 3)) (fun _ _ _ _ nd=>(a0n (i:=0) nd rfl (by first | exact Or.inl rfl | exact Or.inr rfl))) (fun _ _ _ _=>f0w) (fun _ _ _ _=>(pv 0)) (fun _ _ _ _=>e0u)) a0f)))
  (a0l (l1o (i:=4) c0q.nd rfl (by first | exact Or.inl rfl | exact Or.inr rfl) a0r m1t))))))
  (a0l (b0f (l1v (n0k hu (pv 1) (pv 2))))))))),(a0k (c0b (y0d m1e m1e a0p c0y) rfl)
  (a0k (c0b (g0z (a0a a0p a0d)) rfl)
  (a0k (c0b a0p rfl)
  (a0k (a1q (k0a (b0h (a0m f0x a0b (c0u ob_Cases.cl (ob_Cases.na _ (.tail _ (.tail _ (.tail _ (.tail _ (.head _)))))) a0b))) (b0h (l0e a0b a0b)))
  (a0k (n0b (n0a (n2:=1) (d0j a0b) (a0i rfl) e0l (d0j (c0u ob_Cases.cl (ob_Cases.na _ (.tail _ (.tail _ (.head _)))) a0b)) (a0i rfl) (j0h (a0q (a0a (c0u ob_Cases.cl (ob_Cases.na _ (.tail _ (.head _))) a0b) (a0a a0b (a0a a0b a0d))))) (a0q (a0a a0b (a0a a0b a0d)))) rfl)
  (a0k (c0b (p0b (d0j a0b) (a0i rfl) (b0h (l0e a0b a0b)) a0b) rfl)
  (a0k (g0c (d1z (m0z (d0j a0b) (a0i rfl) e0l a0b c0y)))
  (h1v a0p rfl)))))
  (a0u (l0e a0b a0b))))))⟩) ?_
 rintro ss q ⟨c,r,rfl,hc,hr,hq⟩
 have hkl:=hc.kl
 have hl:=hc.l
 refine⟨rfl,rfl,?_⟩
 refine cutS (fun ρ=>ρ=[obC C_Cases c,nv r,.dk (mkT [0]),.un,.un,.un]) (fun M hM=>hM _ rfl) ?_
 rintro _ rfl
 refine cutS (fun ρ=>ρ=[obC C_Cases c,nv r,.dk (mkT [0]),.ow (a0e [0]),.un,.un]) (fun M hM=>⟨by simp,hM _ rfl⟩) ?_
 rintro _ rfl
 refine cutS (fun ρ=>ρ=[obC C_Cases c,nv r,.dk (mkT [0]),.ow (a0e [0]),nv 0,.un]) (fun M hM=>hM _ rfl) ?_
 rintro _ rfl
 refine cutS (fun ρ=>∃M s3 s4 s5,(M.contains r=true↔∃n,n<=c.lf+1/\Rch c.cl c.kn n r)/\ρ=[obC C_Cases c,nv r,.dk (mkT M),s3,s4,s5]) (fun Mx hMx=>h1k (fun ρ=>∃k M N s5,Lev c.cl c.kn k M N/\k<=c.lf+1/\M.Nodup/\ρ=[obC C_Cases c,nv r,.dk (mkT M),.ow (a0e N),nv k,s5]) (fun ρ=>match gt ρ 4 with | .vl (.int k)=>100 - k.toNat | _=>0) ?_ _ ⟨0,[0],[0],.un,.start,by omega,by simp,rfl⟩) ?_
 ·rintro _ Nx ⟨k,M,N,s5,L,hkk,mnd,rfl⟩ hNx
  have nl:=L.lt hc.k
  have go:decide (((k:Nat):Int)<=((c.lf:Nat):Int))=decide (k<=c.lf):=by rw[decide_eq_decide];omega
  refine⟨rfl,_,rfl,?_⟩
  show if decide (((k:Nat):Int)<=((c.lf:Nat):Int))=true then _ else _
  rw[go]
  by_cases hk:k<=c.lf
  ·rw[if_pos (decide_eq_true hk)]
   show if(!(valD (mkT M) (Sum.inl ((r:Nat):Int):Key)).isSome)=true then _ else _
   rw[p0z]
   cases hMr:M.contains r with
   | true =>
    rw[if_neg (by decide)]
    refine hMx _ ⟨M,_,_,_,⟨fun _=>?_,fun _=>hMr⟩,rfl⟩
    obtain⟨n,hn,h⟩:=(L.m r).mp (aV.mp hMr)
    exact⟨n,by omega,h⟩
   | false =>
    rw[if_pos (by decide)]
    have sl:(sumN c.cl c.kn N).length<=3969:=aW (q0c c.cl c.kn N) (gO (by omega:N.length<=63) hkl)
    have s64:∀x∈sumN c.cl c.kn N,x<64:=fun x hx=>by
     obtain⟨t,ht,p,hp,_,rfl⟩:=w0m.mp hx
     exact h1i (i1d hc.k ((L.n t).mp ht).1) (hc.k p hp).2
    refine cutS (fun ρ=>ρ=[obC C_Cases c,nv r,.dk (mkT M),.ow (a0e N),nv k,.ow (a0e (sumN c.cl c.kn N))]) (fun Q hQ=>?_) ?_
    ·have ef:a0e (sumN c.cl c.kn N)=N.flatMap fun t=>(c.kn.filter (mayN c.cl t)).map fun p=>nD (t ^^^ p):=by
      unfold sumN a0e
      rw[li]
      refine congrArg (fun f=>N.flatMap f) (funext fun t=>?_)
      rw[bI];rfl
     refine⟨rfl,d1b nD (fun t=>(c.kn.filter (mayN c.cl t)).map fun p=>nD (t ^^^ p)) rfl (fun t acc N2 ht hacc hN2=>?_) (by rw[<- ef,c0m];omega) (by rw[<- ef];exact hQ _ rfl)⟩
     obtain⟨ys,yl,rfl,_⟩:=hacc
     have al:(ys.flatMap fun t=>(c.kn.filter (mayN c.cl t)).map fun p=>nD (t ^^^ p)).length<=63*63:=by
      have e2:(ys.flatMap fun t=>(c.kn.filter (mayN c.cl t)).map fun p=>nD (t ^^^ p))=a0e (sumN c.cl c.kn ys):=by
       unfold sumN a0e
       rw[li]
       refine congrArg (fun f=>ys.flatMap f) (funext fun t=>?_)
       rw[bI];rfl
      rw[e2,c0m]
      exact aW (q0c c.cl c.kn ys) (gO (by omega) hkl)
     refine⟨rfl,_,rfl,?_⟩
     refine i0m nD (mayN c.cl t) (fun p=>nD (t ^^^ p)) trivial (by omega) (fun p acc N3 hp hN3=>?_) (hN2)
     refine⟨rfl,_,rfl,rfl,c.cl,t,p,rfl,?_⟩
     cases hb:mayN c.cl t p with
     | true=>rw[if_pos hb]at hN3;exact⟨rfl,t,p,rfl,hN3⟩
     | false=>rw[if_neg (by rw[hb];decide)]at hN3;exact hN3
    rintro _ rfl
    refine cutS (fun ρ=>∃N':List Nat,N'.Nodup/\(∀x,x∈N'↔x∈sumN c.cl c.kn N/\x∉M)/\ρ=[obC C_Cases c,nv r,.dk (mkT M),.ow (a0e N'),nv k,.ow (a0e (sumN c.cl c.kn N))]) (fun Q hQ=>?_) ?_
    ·refine⟨rfl,by rw[c0m];omega,?_⟩
     refine l0r nD (fun t=>!M.contains t) (fun t=>((t:Nat):Int)) (by rfl) (fun t acc N2 ht hN2=>?_) ?_
     ·show if(!(valD (mkT M) (Sum.inl ((t:Nat):Int):Key)).isSome)=true then _ else _
      rw[p0z]
      cases hb:M.contains t with
      | true=>rw[hb]at hN2;exact hN2
      | false=>rw[hb]at hN2;exact hN2
     ·rw[i7]
      have m0:0∈M:=(L.m 0).mpr ⟨0,bg _,.nil⟩
      refine⟨j1u (zs:=(aQ 63).map fun i=>((i+1:Nat):Int)) (fun x hx=>?_) (by rw[aw,cK];decide),fun ns' up hm=>?_⟩
      ·obtain⟨t,ht,rfl⟩:=bD.mp hx
       obtain⟨h1,h2⟩:=bu.mp ht
       have h3:=s64 t h1
       have h4:t≠0:=fun e=>by
        subst e
        rw[aV.mpr m0]at h2;cases h2
       exact bD.mpr ⟨t - 1,bv.mpr (by omega),by omega⟩
      ·have:ns'=((aQ 64).filter fun x=>(sumN c.cl c.kn N).contains x && !M.contains x).map fun r=>((r:Nat):Int):=n0d up (n0e (dC _ cJ)) fun x=>by
        rw[hm x,bD,bD]
        constructor
        ·rintro⟨t,ht,rfl⟩
         obtain⟨h1,h2⟩:=bu.mp ht
         exact⟨t,bu.mpr ⟨bv.mpr (s64 t h1),by rw[aV.mpr h1,h2];rfl⟩,rfl⟩
        ·rintro⟨t,ht,rfl⟩
         obtain⟨h1,h2⟩:=bu.mp ht
         rw[ba]at h2
         exact⟨t,bu.mpr ⟨aV.mp h2.1,h2.2⟩,rfl⟩
       subst this
       rw[bI]
       refine hQ _ ⟨(aQ 64).filter fun x=>(sumN c.cl c.kn N).contains x && !M.contains x,(dC _ cJ).imp fun h=>by omega,fun x=>?_,rfl⟩
       rw[bu,bv,ba,du,<- c8,aV,aV]
       exact⟨fun h=>h.2,fun h=>⟨s64 x h.1,h⟩⟩
    rintro _ ⟨N',nd',hN',rfl⟩
    obtain⟨u1,u2⟩:=c1r N' M mnd
    have L':=L.next hN' u2 nd'
    have nl':=L'.lt hc.k
    refine cutS (fun ρ=>ρ=[obC C_Cases c,nv r,.dk (mkT (N'.foldl insM M)),.ow (a0e N'),nv k,.ow (a0e (sumN c.cl c.kn N))]) (fun Q hQ=>?_) ?_
    ·refine⟨rfl,by rw[c0m];omega,?_⟩
     refine l0s (fun j acc ρ=>acc=mkT (N'.take j)/\ρ=[obC C_Cases c,nv r,.dk (mkT M),.ow (a0e N'),nv k,.ow (a0e (sumN c.cl c.kn N))]) (fun j acc ρ _ ⟨_,e⟩=>by rw[e];rfl) ?_ ?_ _ ⟨rfl,rfl⟩
     ·rintro j d acc _ N2 hd ⟨rfl,rfl⟩ hN2
      rw[a0e,aM]at hd
      obtain⟨x,hx,rfl⟩:=aY.mp hd
      refine hN2 _ _ ⟨?_,rfl⟩
      have hxn:x∉N'.take j:=fun h=>by
       obtain⟨i,hi,hil,e⟩:=i0t.mp h
       obtain⟨hj,e2⟩:=aI.mp hx
       have:=q0w nd' hil hj (by rw[e,aF,hx];rfl)
       omega
      show putD (mkT (N'.take j)) (Sum.inl ((x:Nat):Int)) (D.bl true)=_
      rw[q0o,if_neg hxn,b8,hx]
      rfl
     ·rintro acc _ ⟨rfl,rfl⟩
      rw[c0m,cj]
      refine⟨?_,?_⟩
      ·have h1:(mkT M).length=M.length:=by unfold mkT;rw[aw]
       have h2:(mkT N').length=N'.length:=by unfold mkT;rw[aw]
       have h3:M.length<=64:=by
        have:=cN mnd (l₂:=aQ 64) fun x hx=>by
         obtain⟨n,_,h⟩:=(L.m x).mp hx
         exact bv.mpr (i1d hc.k h)
        rwa [cK]at this
       omega
      ·rw[p0j]
       exact hQ _ rfl
    rintro _ rfl
    have ek:((k:Nat):Int)+1=((k+1:Nat):Int):=by omega
    have:=hNx [obC C_Cases c,nv r,.dk (mkT (N'.foldl insM M)),.ow (a0e N'),nv (k+1),.ow (a0e (sumN c.cl c.kn N))] ⟨k+1,_,N',_,L',by omega,u1,rfl⟩ (by show 100 - (((k+1:Nat):Int)).toNat<100 - ((k:Nat):Int).toNat;omega)
    rw[<- n1y ek]at this
    exact this
  ·rw[if_neg (by rw[decide_eq_true_eq];exact hk)]
   have:k=c.lf+1:=by omega
   subst this
   refine hMx _ ⟨M,_,_,_,?_,rfl⟩
   rw[aV]
   exact L.m r
 rintro _ ⟨M,s3,s4,s5,hM,rfl⟩
 have:farN c.cl c.kn c.lf r = !M.contains r:=j1p hM
 rw[this,<- p0z]at hq
 exact hq
end
theorem o0d:∀ {ds:List D} {d:D},d∈ds->d.depth<=depths ds
 | e::ds,d,h=>by
  simp only[depths]
  rcases aK.mp h with rfl | q
  ·omega
  ·have:=o0d q;omega
theorem r0e {d:D}{x:Str}:eqD d (.str x)=true->d = .str x:=fun h=>by
 cases d with
 | str y=>unfold eqD at h;rw[eq_of_beq h]
 | _=>cases h
section
variable {P:aO}{w:be}{K:aa}{mg:Str->Option af}{base:Heap}
theorem k0o {C_Cases:Addr}(ob_Cases:ObC P w K mg base C_Cases "Cases" ["wished", "clean", "known", "shut", "left"])(dn:DefM K C_Cases "shown_far" "Cases.shown_far" b0q ["self", "row"])(B:BI mg)(g_Cases_is_far:OkM P w K mg base 3 C_Cases "is_far" ["self", "row"] (spA K (SFar C_Cases)))(g_Cases_lacking:OkM P w K mg base 3 C_Cases "lacking" ["self"] (spA K (w0c C_Cases))):OkM P w K mg base 4 C_Cases "shown_far" ["self", "row"] (spA K (k1j C_Cases)):=by
 refine dn.aok2 (k:=3) k0e (fun j=>j==0||j==1) [] (k1j C_Cases) rfl (fun f cdv A outer s H E hr=>have hu:=e0e hr;⟨_,(a0l (b0f (n0j (g0j (l1y K hr.units) (pv 1) (j0l g_Cases_lacking ob_Cases.cl (hr.mono (by decide)) (pv 0)) rfl) (l0z (m0b g_Cases_is_far ob_Cases.cl (hr.mono (by decide)) (pv 0) (a0c (pv 1) a0f)))))),(a0u (h0b (a0m (u0l false) a0b (c0a a0b a0d)) (c0a a0b (a0a a0b a0d))))⟩) ?_
 rintro ss q ⟨c,d,rfl,hc,h1,hd,hq⟩
 have h2:=m1h hc h1
 refine⟨rfl,rfl,?_⟩
 have dep:∀e∈a0e (b0g c.W c.kn),e.depth<=60:=fun e he=>by
  obtain⟨x,_,rfl⟩:=bD.mp he
  simp[D.depth]
 refine⟨rfl,rfl,rfl,c,rfl,hc,?_⟩
 by_cases h:∃r∈b0g c.W c.kn,d=nD r
 ·refine l0o (b:=true) (d:=d) (ds:=a0e (b0g c.W c.kn)) rfl rfl dep ((l0u h2).mpr h) ?_
  obtain⟨r,hr,rfl⟩:=h
  refine⟨rfl,rfl,rfl,c,r,rfl,hc,(hc.w r ((e0x hc.w).mp hr).1).2,?_⟩
  have:farB c (nD r)=farN c.cl c.kn c.lf r:=by
   rw[cO,r0d]
   constructor
   ·rintro⟨r',e,_,h⟩
    injection e with e
    rw[fW.mp e];exact h
   ·intro h
    exact⟨r,rfl,hr,h⟩
  rw[this]at hq
  exact hq
 ·refine l0o (b:=false) (d:=d) (ds:=a0e (b0g c.W c.kn)) rfl rfl dep (o0j (l0u h2) h) ?_
  have:farB c d=false:=o0j r0d (by rintro⟨r,e,hr,_⟩;exact h ⟨r,hr,e⟩)
  rw[this]at hq
  exact hq
theorem a0t (j k:Nat){C_Cases:Addr}(ob_Cases:ObC P w K mg base C_Cases "Cases" ["wished", "clean", "known", "shut", "left"])(dn:DefM K C_Cases "shown_made" "Cases.shown_made" b0l ["self", "row", "paper"])(B:BI mg)(g_Cases_lacking:OkM P w K mg base 3 C_Cases "lacking" ["self"] (spA K (w0c C_Cases)))(g_Cases_free_rows:OkM P w K mg base 3 C_Cases "free_rows" ["self"] (spA K (d1q C_Cases)))(g_Cases_with_row:OkM P w K mg base 3 C_Cases "with_row" ["self", "row", "shut"] (spA K (z0n C_Cases)))(g_Cases_shown_by:OkM P w K mg base (k+4) C_Cases "shown_by" ["self", "paper"] (spA K ((SBy C_Cases) j))):OkM P w K mg base (k+5) C_Cases "shown_made" ["self", "row", "paper"] (spA K ((k1h C_Cases) j)):=by
 refine dn.aok2 (k:=k+4) j0q (fun j=>j==0||j==1||j==2) [] (((k1h C_Cases) j)) rfl (fun f cdv A outer s H E hr=>have hu:=e0e hr;⟨_,(a0h (f0h (PW.pt (e1m (c0o i1o (d0z (pv 0) rfl) a0r (d0d _)) (e1m (c0o (s0d K hr.units) (pv 1) (j0l g_Cases_lacking ob_Cases.cl (hr.mono (by omega)) (pv 0)) rfl) (a1z (c0o (s0d K hr.units) (pv 1) (j0l g_Cases_free_rows ob_Cases.cl (hr.mono (by omega)) (pv 0)) rfl)))))
  (a0l (b0f e0u))
  c0e)
  (a0l (b0f (m0b g_Cases_shown_by ob_Cases.cl (hr.mono (by omega)) (m0b g_Cases_with_row ob_Cases.cl (hr.mono (by omega)) (pv 0) (a0c (pv 1) (a0c (d0z (pv 0) rfl) a0f))) (a0c (pv 2) a0f))))),(a0k (d0o (q0a (b0h (a0m f0x (c0u ob_Cases.cl (ob_Cases.na _ (.tail _ (.tail _ (.tail _ (.tail _ (.head _)))))) a0b) a0p)) (q0a (b0h (a0m (u0l true) a0b (c0a a0b a0d))) (b0h (a0m (u0l true) a0b (c0a a0b a0d)))))
  (a0u c0y)
  b0t)
  (a0u (c0a (c0a a0b (a0a a0b (a0a (c0u ob_Cases.cl (ob_Cases.na _ (.tail _ (.tail _ (.tail _ (.head _))))) a0b) a0d))) (a0a a0b a0d))))⟩) ?_
 rintro ss q ⟨c,r,d,rfl,hc,h1,hj,hr,hd,hq⟩
 have h2:=m1h hc h1
 have h3:=o1a hc h1
 have depL:∀e∈a0e (b0g c.W c.kn),e.depth<=60:=fun e he=>by
  obtain⟨x,_,rfl⟩:=bD.mp he
  simp[D.depth]
 have depF:∀e∈a0e (b0n c.cl c.kn c.sh),e.depth<=60:=fun e he=>by
  obtain⟨x,_,rfl⟩:=bD.mp he
  simp[D.depth]
 have no:(¬ ∃n,r=nD n/\1<=c.lf/\n∈b0g c.W c.kn/\n∈b0n c.cl c.kn c.sh)->q (.d (.bl false)) [obC C_Cases c,.vl r,.vl d]:=fun h=>by
  have:s0o c r d=false:=o0j i0h (by rintro⟨n,a,b,e,f,_⟩;exact h ⟨n,a,b,e,f⟩)
  rw[this]at hq
  exact hq
 refine⟨rfl,rfl,?_⟩
 refine cutS (fun ρ=>(∃n,r=nD n/\1<=c.lf/\n∈b0g c.W c.kn/\n∈b0n c.cl c.kn c.sh)/\ρ=[obC C_Cases c,.vl r,.vl d]) (fun M hM=>⟨rfl,_,rfl,?_⟩) ?_
 ·have go:decide (((c.lf:Nat):Int)<1)=decide (c.lf<1):=by rw[decide_eq_decide];omega
  show if decide (((c.lf:Nat):Int)<1)=true then _ else _
  rw[go]
  by_cases hl:c.lf<1
  ·rw[if_pos (decide_eq_true hl)]
   exact no (by rintro⟨n,_,h,_⟩;omega)
  ·rw[if_neg (by rw[decide_eq_true_eq];exact hl)]
   refine⟨rfl,rfl,rfl,c,rfl,hc,?_⟩
   by_cases ha:∃n∈b0g c.W c.kn,r=nD n
   ·refine l0o (b:=true) (d:=r) (ds:=a0e (b0g c.W c.kn)) rfl rfl depL ((l0u h2).mpr ha) ?_
    refine⟨rfl,rfl,rfl,c,rfl,hc,?_⟩
    by_cases hb:∃n∈b0n c.cl c.kn c.sh,r=nD n
    ·refine l0o (b:=true) (d:=r) (ds:=a0e (b0n c.cl c.kn c.sh)) rfl rfl depF ((l0u h3).mpr hb) ?_
     obtain⟨n,hn,rfl⟩:=ha
     obtain⟨n',hn',e⟩:=hb
     injection e with e
     have e:=fW.mp e
     subst e
     exact hM _ ⟨⟨n,rfl,by omega,hn,hn'⟩,rfl⟩
    ·refine l0o (b:=false) (d:=r) (ds:=a0e (b0n c.cl c.kn c.sh)) rfl rfl depF (o0j (l0u h3) hb) ?_
     exact no (by rintro⟨n,e,_,_,h⟩;exact hb ⟨n,h,e⟩)
   ·refine l0o (b:=false) (d:=r) (ds:=a0e (b0g c.W c.kn)) rfl rfl depL (o0j (l0u h2) ha) ?_
    exact no (by rintro⟨n,e,_,h,_⟩;exact ha ⟨n,h,e⟩)
 clear no
 rintro _ ⟨⟨n,rfl,hl,hnl,hnf⟩,rfl⟩
 obtain⟨j,rfl⟩:∃j',j=j'+1:=⟨j - 1,by omega⟩
 have kl:=hc.kl
 obtain⟨fa,fb,_⟩:=(c0z hc.k).mp hnf
 have hc':=hc.with hl (e0b hc.k fa) fb hc.s (by omega)
 refine⟨rfl,rfl,rfl,_,rfl,rfl,c,n,c.sh,rfl,by omega,hl,?_⟩
 refine⟨rfl,rfl,rfl,⟨c.W,c.cl,c.kn++[n],c.sh,c.lf - 1⟩,d,rfl,hc',bj _ h1,by show c.lf - 1<=j;omega,hd,?_⟩
 have:s0o c (nD n) d=papB ⟨c.W,c.cl,c.kn++[n],c.sh,c.lf - 1⟩ d:=by
  rw[cO,i0h,k0l]
  constructor
  ·rintro⟨n',e,_,_,_,h⟩
   injection e with e
   rw[fW.mp e];exact h
  ·intro h
   exact⟨n,rfl,hl,hnl,hnf,h⟩
 rw[this]at hq
 exact hq
theorem a0s (j k:Nat){C_Cases:Addr}(ob_Cases:ObC P w K mg base C_Cases "Cases" ["wished", "clean", "known", "shut", "left"])(dn:DefM K C_Cases "shown_next" "Cases.shown_next" b0k ["self", "papers"])(B:BI mg)(g_Cases_free_rows:OkM P w K mg base 3 C_Cases "free_rows" ["self"] (spA K (d1q C_Cases)))(g_is_tuple:OkN P w K mg base 1 "is_tuple" ["thing", "least", "most"] (spA K m0x))(g_Cases_lacking:OkM P w K mg base 3 C_Cases "lacking" ["self"] (spA K (w0c C_Cases)))(g_Cases_with_row:OkM P w K mg base 3 C_Cases "with_row" ["self", "row", "shut"] (spA K (z0n C_Cases)))(g_Cases_shown_by:OkM P w K mg base (k+4) C_Cases "shown_by" ["self", "paper"] (spA K ((SBy C_Cases) j))):OkM P w K mg base (k+5) C_Cases "shown_next" ["self", "papers"] (spA K ((k1f C_Cases) j)):=by
 refine dn.aok2 (k:=k+4) d0f (fun j=>j==0||j==1) [.un,.un,.un] (((k1f C_Cases) j)) rfl (fun f cdv A outer s H E hr=>have hu:=e0e hr;⟨_,(a0h (f0h (PW.pt (e1m (c0o i1o (d0z (pv 0) rfl) a0r (d0d _)) (a1z (l0y (f0g K (j0l g_Cases_lacking ob_Cases.cl (hr.mono (by omega)) (pv 0)) (fun _=>rfl))))))
  (a0l (b0f e0u))
  c0e)
  (a0h (c0k (i:=2) d0f.nd rfl (by first | exact Or.inl rfl | exact Or.inr rfl) (j0l g_Cases_free_rows ob_Cases.cl (hr.mono (by omega)) (pv 0)))
  (a0h (f0h (l0y (k0i (c0v g_is_tuple (hr.mono (by omega)) (a0c (pv 1) (a0c (b0m (c0h K) rfl B.len_ f0l (a0c (pv 2) a0f)) (a0c (b0m (c0h K) rfl B.len_ f0l (a0c (pv 2) a0f)) a0f))))))
  (a0l (b0f e0u))
  c0e)
  (a0h (h0t bR rfl (j0s K rfl B.enumerate_ (a0c (pv 2) a0f)) (c0s K (n:=2) rfl (a0o (a0n (i:=3) d0f.nd rfl (by first | exact Or.inl rfl | exact Or.inr rfl)) (a0o (a0n (i:=4) d0f.nd rfl (by first | exact Or.inl rfl | exact Or.inr rfl)) c0r)))
  (a0l (f0h (l0y (k0i (m0b g_Cases_shown_by ob_Cases.cl (hr.mono (by omega)) (m0b g_Cases_with_row ob_Cases.cl (hr.mono (by omega)) (pv 0) (a0c (pv 4) (a0c (c0i (u0j K) (d0z (pv 0) rfl) (f0c (i0u K) (pv 2) g0i (g0h (pv 3)))) a0f))) (a0c (d0w (b0j K) (pv 1) (pv 3) (fun _ _=>rfl)) a0f))))
  (a0l (b0f e0u))
  c0e)))
  (a0l (b0f e0u)))))),(a0k (d0o (q0a (b0h (a0m f0x (c0u ob_Cases.cl (ob_Cases.na _ (.tail _ (.tail _ (.tail _ (.tail _ (.head _)))))) a0b) a0p)) (g0b (g0a (c0a a0b a0d))))
  (a0u c0y)
  b0t)
  (a0k (c0b (c0a a0b a0d) rfl)
  (a0k (d0o (g0b (j0h (a0q (a0a a0b (a0a (c0t d0m (a0a a0b a0d)) (a0a (c0t d0m (a0a a0b a0d)) a0d))))))
  (a0u c0y)
  b0t)
  (a0k (f0n (pin:=(fun j=>j==2)) (f0v (a0a a0b a0d)) (b0s (a0j (a0i rfl) (a0j (a0i rfl) b0i (fun _ _ _=>a0w)) (fun _ _ _=>a0w)))
  (d0o (g0b (j0h (c0a (c0a a0b (a0a a0b (a0a (a0m u0m (c0u ob_Cases.cl (ob_Cases.na _ (.tail _ (.tail _ (.tail _ (.head _))))) a0b) (m0y a0b g0y (e0m a0b))) a0d))) (a0a (a0m c0l a0b a0b) a0d))))
  (a0u c0y)
  b0t))
  (a0u c0y)))))⟩) ?_
 rintro ss q ⟨c,d,rfl,hc,h1,hj,hd,hq⟩
 have hfl:=x0m hc
 have no:(¬ ∃ps,d = .tup ps/\1<=c.lf/\b0g c.W c.kn≠[]/\ps.length=(b0n c.cl c.kn c.sh).length)->q (.d (.bl false)) [obC C_Cases c,.vl d]:=fun h=>by
  have:o0t c d=false:=o0j i0g (by rintro⟨n,a,b,e,f,_⟩;exact h ⟨n,a,b,e,f⟩)
  rw[this]at hq
  exact hq
 refine⟨rfl,rfl,?_⟩
 refine cutS (fun ρ=>(1<=c.lf/\b0g c.W c.kn≠[])/\ρ=[obC C_Cases c,.vl d,.un,.un,.un]) (fun M hM=>⟨rfl,_,rfl,?_⟩) ?_
 ·have go:decide (((c.lf:Nat):Int)<1)=decide (c.lf<1):=by rw[decide_eq_decide];omega
  show if decide (((c.lf:Nat):Int)<1)=true then _ else _
  rw[go]
  by_cases hl:c.lf<1
  ·rw[if_pos (decide_eq_true hl)]
   exact no (by rintro⟨n,_,h,_⟩;omega)
  ·rw[if_neg (by rw[decide_eq_true_eq];exact hl)]
   refine⟨rfl,rfl,rfl,c,rfl,hc,?_⟩
   cases hL:b0g c.W c.kn with
   | nil=>exact no (by rintro⟨n,_,_,h,_⟩;exact h hL)
   | cons x xs=>exact hM _ ⟨⟨by omega,by rw[hL];simp⟩,rfl⟩
 rintro _ ⟨⟨hl,hL⟩,rfl⟩
 refine cutS (fun ρ=>ρ=[obC C_Cases c,.vl d,.ow (a0e (b0n c.cl c.kn c.sh)),.un,.un]) (fun M hM=>⟨rfl,rfl,rfl,c,rfl,hc,hM _ rfl⟩) ?_
 rintro _ rfl
 refine cutS (fun ρ=>(∃ps,d = .tup ps/\ps.length=(b0n c.cl c.kn c.sh).length)/\ρ=[obC C_Cases c,.vl d,.ow (a0e (b0n c.cl c.kn c.sh)),.un,.un]) (fun M hM=>⟨rfl,d,_,_,rfl,?_⟩) ?_
 ·cases ht:tupB (((a0e (b0n c.cl c.kn c.sh)).length:Nat):Int) (((a0e (b0n c.cl c.kn c.sh)).length:Nat):Int) d with
  | false =>
   refine no ?_
   rintro⟨ps,rfl,_,_,h⟩
   have:tupB (((a0e (b0n c.cl c.kn c.sh)).length:Nat):Int) (((a0e (b0n c.cl c.kn c.sh)).length:Nat):Int) (.tup ps)=true:=by
    rw[c0m,<- h]
    simp[tupB]
   rw[ht]at this;cases this
  | true =>
   obtain⟨ps,rfl,a,b⟩:=w0k ht
   rw[c0m]at a b
   exact hM _ ⟨⟨ps,rfl,by omega⟩,rfl⟩
 rintro _ ⟨⟨ps,rfl,hps⟩,rfl⟩
 clear no
 obtain⟨j,rfl⟩:∃j',j=j'+1:=⟨j - 1,by omega⟩
 have kl:=hc.kl
 have hsl:=hc.sl
 have fup:=q0x c.cl c.kn c.sh
 have hfm:=fun r (hr:r∈b0n c.cl c.kn c.sh)=>(c0z hc.k).mp hr
 have hnB:o0t c (.tup ps)=true↔∀i,i<ps.length->Pap c.W c.cl (c.lf - 1) (c.kn++[(b0n c.cl c.kn c.sh).getD i 0]) (c.sh++(b0n c.cl c.kn c.sh).take i) (ps.getD i .non):=by
  rw[i0g]
  constructor
  ·rintro⟨ps',e,_,_,_,h⟩
   injection e with e
   rw[e];exact h
  ·intro h
   exact⟨ps,rfl,hl,hL,hps,h⟩
 simp only[D.depth]at hd
 generalize b0n c.cl c.kn c.sh=Fr at *
 refine cutS (fun ρ=>o0t c (.tup ps)=true/\∃s3 s4,ρ=[obC C_Cases c,.vl (.tup ps),.ow (a0e Fr),s3,s4]) (fun M hM=>?_) ?_
 ·refine f0t (fun k ρ=>(∀i,i<k->i<ps.length->Pap c.W c.cl (c.lf - 1) (c.kn++[Fr.getD i 0]) (c.sh++Fr.take i) (ps.getD i .non))/\∃s3 s4,ρ=[obC C_Cases c,.vl (.tup ps),.ow (a0e Fr),s3,s4]) (fun k ρ _ ⟨_,s3,s4,e⟩=>by rw[e];rfl) ?_ ?_ _ ⟨fun i hi=>by omega,.un,.un,rfl⟩
  ·rintro k x _ N hx ⟨hpre,s3,s4,rfl⟩ hN
   obtain⟨y,hy,rfl⟩:=d0t hx
   rw[a0e,aM]at hy
   obtain⟨r,hr,rfl⟩:=aY.mp hy
   have hk:=(aI.mp hr).1
   have er:Fr.getD k 0=r:=by rw[aF,hr];rfl
   have hrF:r∈Fr:=bz hr
   obtain⟨fa,fb,_⟩:=hfm r hrF
   rw[ck]
   have hs64:∀x∈c.sh++Fr.take k,x<64:=fun x hx=>(a7.mp hx).elim (hc.s x) fun h=>(e0b hc.k (hfm x (gF h)).1).2
   have hc':=hc.with (s:=c.sh++Fr.take k) hl (e0b hc.k fa) fb hs64 (by rw[aJ,bi];omega)
   have hpk:ps.getD k .non∈ps:=by rw[aF,ao (by omega)];exact dy _
   have hdk:(ps.getD k .non).depth<=60:=by
    have:=o0d hpk
    omega
   have ec:a0e c.sh++cutD (a0e Fr) none (some ((k:Nat):Int))=a0e (c.sh++Fr.take k):=by
    rw[f0k];unfold a0e;rw[bp,d7]
   have hil:r<64:=(e0b hc.k fa).2
   have kl:∀(xs:List D) (k:Nat),(L2.cutD xs none (some ((k:Nat):Int))).length<=xs.length:=fun xs k=>by rw[f0k,bi];omega
   have hb:(a0e c.sh).length+(L2.cutD (a0e Fr) none (some ((k:Nat):Int))).length<=1000000:=by
    have:=kl (a0e Fr) k
    rw[c0m]at this ⊢
    omega
   refine⟨rfl,rfl,rfl,_,rfl,hb,?_⟩
   rw[ec]
   refine⟨rfl,c,r,_,rfl,by omega,hl,?_⟩
   have atE:atI ps ((k:Nat):Int)=some (ps.getD k .non):=f0a (by rw[aF,ao (by omega)];rfl)
   refine⟨rfl,rfl,k0u rfl atE ?_⟩
   refine⟨rfl,_,ps.getD k .non,rfl,hc',bj _ h1,by show c.lf - 1<=j;omega,hdk,?_⟩
   by_cases hp:Pap c.W c.cl (c.lf - 1) (c.kn++[r]) (c.sh++Fr.take k) (ps.getD k .non)
   ·rw[show papB _ _=true from k0l.mpr hp]
    refine hN _ ⟨fun i hi hi'=>?_,_,_,rfl⟩
    rcases bf i k with q1 | q1
    ·exact hpre i q1 hi'
    ·obtain rfl:i=k:=by omega
     rw[er];exact hp
   ·rw[show papB _ _=false from o0j k0l hp]
    have:o0t c (.tup ps)=false:=o0j hnB fun h=>hp (by have:=h k (by omega);rwa [er]at this)
    rw[this]at hq
    exact hq
  ·rintro _ ⟨h,s3,s4,rfl⟩
   rw[c0n,c0m,<- hps]at h
   exact hM _ ⟨hnB.mpr fun i hi=>h i hi hi,s3,s4,rfl⟩
 rintro _ ⟨h,s3,s4,rfl⟩
 rw[h]at hq
 exact hq
theorem a0v (j k:Nat){C_Cases:Addr}(ob_Cases:ObC P w K mg base C_Cases "Cases" ["wished", "clean", "known", "shut", "left"])(dn:DefM K C_Cases "shown_by" "Cases.shown_by" b0y ["self", "paper"])(B:BI mg)(g_is_tuple:OkN P w K mg base 1 "is_tuple" ["thing", "least", "most"] (spA K m0x))(g_Cases_lacks_too_many:OkM P w K mg base 4 C_Cases "lacks_too_many" ["self"] (spA K (x0x C_Cases)))(g_Cases_shown_far:OkM P w K mg base 4 C_Cases "shown_far" ["self", "row"] (spA K (k1j C_Cases)))(g_Cases_shown_made:OkM P w K mg base (k+5) C_Cases "shown_made" ["self", "row", "paper"] (spA K ((k1h C_Cases) j)))(g_Cases_shown_next:OkM P w K mg base (k+5) C_Cases "shown_next" ["self", "papers"] (spA K ((k1f C_Cases) j))):OkM P w K mg base (k+6) C_Cases "shown_by" ["self", "paper"] (spA K ((SBy C_Cases) (j+1))):=by
 refine dn.aok2 (k:=k+5) g0o (fun j=>j==0||j==1) [] (((SBy C_Cases) (j+1))) rfl (fun f cdv A outer s H E hr=>have hu:=e0e hr;⟨_,(a0h (f0h (l0y (k0i (c0v g_is_tuple (hr.mono (by omega)) (a0c (pv 1) (a0c a0r (a0c a0r a0f))))))
  (a0l (b0f e0u))
  c0e)
  (a0h (f0h (c0o (g0t K hr.units) (d0w (b0j K) (pv 1) a0r (fun _ _=>rfl)) e0s (d0d _))
  (a0l (b0f (n0j (g0j (g0t K hr.units) (b0m (c0h K) rfl B.len_ f0l (a0c (pv 1) a0f)) a0r (d0d _)) (l0z (j0l g_Cases_lacks_too_many ob_Cases.cl (hr.mono (by omega)) (pv 0))))))
  c0e)
  (a0h (f0h (c0o (g0t K hr.units) (d0w (b0j K) (pv 1) a0r (fun _ _=>rfl)) e0s (d0d _))
  (a0l (b0f (n0j (g0j (g0t K hr.units) (b0m (c0h K) rfl B.len_ f0l (a0c (pv 1) a0f)) a0r (d0d _)) (l0z (m0b g_Cases_shown_far ob_Cases.cl (hr.mono (by omega)) (pv 0) (a0c (d0w (b0j K) (pv 1) a0r (fun _ _=>rfl)) a0f))))))
  c0e)
  (a0h (f0h (c0o (g0t K hr.units) (d0w (b0j K) (pv 1) a0r (fun _ _=>rfl)) e0s (d0d _))
  (a0l (b0f (n0j (g0j (g0t K hr.units) (b0m (c0h K) rfl B.len_ f0l (a0c (pv 1) a0f)) a0r (d0d _)) (l0z (m0b g_Cases_shown_made ob_Cases.cl (hr.mono (by omega)) (pv 0) (a0c (d0w (b0j K) (pv 1) a0r (fun _ _=>rfl)) (a0c (d0w (b0j K) (pv 1) a0r (fun _ _=>rfl)) a0f)))))))
  c0e)
  (a0h (f0h (c0o (g0t K hr.units) (d0w (b0j K) (pv 1) a0r (fun _ _=>rfl)) e0s (d0d _))
  (a0l (b0f (n0j (g0j (g0t K hr.units) (b0m (c0h K) rfl B.len_ f0l (a0c (pv 1) a0f)) a0r (d0d _)) (l0z (m0b g_Cases_shown_next ob_Cases.cl (hr.mono (by omega)) (pv 0) (a0c (d0w (b0j K) (pv 1) a0r (fun _ _=>rfl)) a0f))))))
  c0e)
  (a0l (b0f e0u))))))),(a0k (d0o (g0b (j0h (a0q (a0a a0b (a0a a0p (a0a a0p a0d))))))
  (a0u c0y)
  b0t)
  (a0k (d0o (b0h (a0m g0u (a0m c0l a0b a0p) i0a))
  (a0u (h0b (a0m g0u (c0t d0m (a0a a0b a0d)) a0p) (c0a a0b a0d)))
  b0t)
  (a0k (d0o (b0h (a0m g0u (a0m c0l a0b a0p) i0a))
  (a0u (h0b (a0m g0u (c0t d0m (a0a a0b a0d)) a0p) (c0a a0b (a0a (a0m c0l a0b a0p) a0d))))
  b0t)
  (a0k (d0o (b0h (a0m g0u (a0m c0l a0b a0p) i0a))
  (a0u (h0b (a0m g0u (c0t d0m (a0a a0b a0d)) a0p) (c0a a0b (a0a (a0m c0l a0b a0p) (a0a (a0m c0l a0b a0p) a0d)))))
  b0t)
  (a0k (d0o (b0h (a0m g0u (a0m c0l a0b a0p) i0a))
  (a0u (h0b (a0m g0u (c0t d0m (a0a a0b a0d)) a0p) (c0a a0b (a0a (a0m c0l a0b a0p) a0d))))
  b0t)
  (a0u c0y))))))⟩) ?_
 rintro ss q ⟨c,d,rfl,hc,h1,hj,hd,hq⟩
 have hB:=@k0l c d
 rw[b1i]at hB
 have no:(¬((d = .tup [.str "rows"]/\c.lf<(b0g c.W c.kn).length)∨(∃r,d = .tup [.str "far",nD r]/\r∈b0g c.W c.kn/\farN c.cl c.kn c.lf r=true)∨(∃r p,d = .tup [.str "made",r,p]/\s0o c r p=true) ∨ ∃p,d = .tup [.str "next",p]/\o0t c p=true))->q (.d (.bl false)) [obC C_Cases c,.vl d]:=fun h=>by
  have:papB c d=false:=o0j hB h
  rw[this]at hq
  exact hq
 refine⟨rfl,rfl,?_⟩
 refine cutS (fun ρ=>(∃x xs,d = .tup (x::xs)/\xs.length<=2)/\ρ=[obC C_Cases c,.vl d]) (fun M hM=>⟨rfl,d,1,3,rfl,?_⟩) ?_
 ·cases ht:tupB 1 3 d with
  | false =>
   refine no ?_
   rintro(⟨rfl,_⟩ | ⟨r,rfl,_⟩ | ⟨r,p,rfl,_⟩ | ⟨p,rfl,_⟩) <;> cases ht
  | true =>
   obtain⟨ps,rfl,a,b⟩:=w0k ht
   cases ps with
   | nil=>exact absurd a (by decide)
   | cons x xs=>exact hM _ ⟨⟨x,xs,rfl,by simp only[aS]at b;omega⟩,rfl⟩
 rintro _ ⟨⟨x,xs,rfl,hx⟩,rfl⟩
 simp only[D.depth]at hd
 have dx:∀y∈x::xs,y.depth<=60:=fun y hy=>by
  have:=o0d hy
  omega
 have a0:∀(x:D) (xs:List D),atI (x::xs) 0=some x:=fun x xs=>f0a (j:=0) rfl
 refine cutS (fun ρ=>x ≠ .str "rows" /\ ρ=[obC C_Cases c,.vl (.tup (x::xs))]) (fun M hM=>k0u rfl (a0 x xs) (e0a rfl rfl (dx x aX) rfl ?_)) ?_
 ·by_cases e:x = .str "rows"
  ·subst e
   rcases xs with _ | ⟨y,_ | ⟨z,_ | ⟨u,xs⟩⟩⟩
   ·refine e0a (b:=true) rfl rfl (show D.depth (.int _)<=60 by simp[D.depth]) rfl ?_
    refine⟨rfl,rfl,rfl,c,rfl,hc,?_⟩
    have:papB c (.tup [.str "rows"])=decide (c.lf<(b0g c.W c.kn).length):=by
     rw[cO,hB,decide_eq_true_eq]
     constructor
     ·rintro(⟨_,h⟩ | ⟨r,e,_⟩ | ⟨r,p,e,_⟩ | ⟨p,e,_⟩) <;> first | exact h | cases e
     ·exact fun h=>.inl ⟨rfl,h⟩
    rw[this]at hq
    exact hq
   ·refine e0a (b:=false) rfl rfl (show D.depth (.int _)<=60 by simp[D.depth]) rfl ?_
    refine no ?_
    rintro(⟨e,_⟩ | ⟨r,e,_⟩ | ⟨r,p,e,_⟩ | ⟨p,e,_⟩) <;> cases e
   ·refine e0a (b:=false) rfl rfl (show D.depth (.int _)<=60 by simp[D.depth]) rfl ?_
    refine no ?_
    rintro(⟨e,_⟩ | ⟨r,e,_⟩ | ⟨r,p,e,_⟩ | ⟨p,e,_⟩) <;> cases e
   ·simp only[aS]at hx;omega
  ·have ne:eqD x (.str "rows")=false:=by
    cases h:eqD x (.str "rows")with
    | false=>rfl
    | true=>exact absurd (r0e h) e
   show if eqD x (.str "rows")=true then _ else _
   rw[if_neg (by rw[ne];decide)]
   exact hM _ ⟨e,rfl⟩
 rintro _ ⟨nrows,rfl⟩
 refine cutS (fun ρ=>x ≠ .str "far" /\ ρ=[obC C_Cases c,.vl (.tup (x::xs))]) (fun M hM=>k0u rfl (a0 x xs) (e0a rfl rfl (dx x aX) rfl ?_)) ?_
 ·by_cases e:x = .str "far"
  ·subst e
   rcases xs with _ | ⟨y,_ | ⟨z,_ | ⟨u,xs⟩⟩⟩
   ·refine e0a (b:=false) rfl rfl (show D.depth (.int _)<=60 by simp[D.depth]) rfl ?_
    refine no ?_
    rintro(⟨e,_⟩ | ⟨r,e,_⟩ | ⟨r,p,e,_⟩ | ⟨p,e,_⟩) <;> cases e
   ·refine e0a (b:=true) rfl rfl (show D.depth (.int _)<=60 by simp[D.depth]) rfl ?_
    refine⟨rfl,rfl,k0u rfl (f0a (j:=1) rfl) ?_⟩
    refine⟨rfl,c,y,rfl,hc,h1,dx y (by simp),?_⟩
    have:papB c (.tup [.str "far",y])=farB c y:=by
     rw[cO,hB,r0d]
     constructor
     ·rintro(⟨e,_⟩ | ⟨r,e,h⟩ | ⟨r,p,e,_⟩ | ⟨p,e,_⟩) <;> try cases e
      exact⟨r,rfl,h⟩
     ·rintro⟨r,rfl,h⟩
      exact .inr (.inl ⟨r,rfl,h⟩)
    rw[this]at hq
    exact hq
   ·refine e0a (b:=false) rfl rfl (show D.depth (.int _)<=60 by simp[D.depth]) rfl ?_
    refine no ?_
    rintro(⟨e,_⟩ | ⟨r,e,_⟩ | ⟨r,p,e,_⟩ | ⟨p,e,_⟩) <;> cases e
   ·simp only[aS]at hx;omega
  ·have ne:eqD x (.str "far")=false:=by
    cases h:eqD x (.str "far")with
    | false=>rfl
    | true=>exact absurd (r0e h) e
   show if eqD x (.str "far")=true then _ else _
   rw[if_neg (by rw[ne];decide)]
   exact hM _ ⟨e,rfl⟩
 rintro _ ⟨nfar,rfl⟩
 refine cutS (fun ρ=>x ≠ .str "made" /\ ρ=[obC C_Cases c,.vl (.tup (x::xs))]) (fun M hM=>k0u rfl (a0 x xs) (e0a rfl rfl (dx x aX) rfl ?_)) ?_
 ·by_cases e:x = .str "made"
  ·subst e
   rcases xs with _ | ⟨y,_ | ⟨z,_ | ⟨u,xs⟩⟩⟩
   ·refine e0a (b:=false) rfl rfl (show D.depth (.int _)<=60 by simp[D.depth]) rfl ?_
    refine no ?_
    rintro(⟨e,_⟩ | ⟨r,e,_⟩ | ⟨r,p,e,_⟩ | ⟨p,e,_⟩) <;> cases e
   ·refine e0a (b:=false) rfl rfl (show D.depth (.int _)<=60 by simp[D.depth]) rfl ?_
    refine no ?_
    rintro(⟨e,_⟩ | ⟨r,e,_⟩ | ⟨r,p,e,_⟩ | ⟨p,e,_⟩) <;> cases e
   ·refine e0a (b:=true) rfl rfl (show D.depth (.int _)<=60 by simp[D.depth]) rfl ?_
    refine⟨rfl,rfl,k0u rfl (f0a (j:=1) rfl) (k0u rfl (f0a (j:=2) rfl) ?_)⟩
    refine⟨rfl,c,y,z,rfl,hc,h1,hj,dx y (by simp),dx z (by simp),?_⟩
    have:papB c (.tup [.str "made",y,z])=s0o c y z:=by
     rw[cO,hB]
     constructor
     ·rintro(⟨e,_⟩ | ⟨r,e,h⟩ | ⟨r,p,e,h⟩ | ⟨p,e,_⟩) <;> try cases e
      exact h
     ·exact fun h=>.inr (.inr (.inl ⟨y,z,rfl,h⟩))
    rw[this]at hq
    exact hq
   ·simp only[aS]at hx;omega
  ·have ne:eqD x (.str "made")=false:=by
    cases h:eqD x (.str "made")with
    | false=>rfl
    | true=>exact absurd (r0e h) e
   show if eqD x (.str "made")=true then _ else _
   rw[if_neg (by rw[ne];decide)]
   exact hM _ ⟨e,rfl⟩
 rintro _ ⟨nmade,rfl⟩
 refine cutS (fun ρ=>x ≠ .str "next" /\ ρ=[obC C_Cases c,.vl (.tup (x::xs))]) (fun M hM=>k0u rfl (a0 x xs) (e0a rfl rfl (dx x aX) rfl ?_)) ?_
 ·by_cases e:x = .str "next"
  ·subst e
   rcases xs with _ | ⟨y,_ | ⟨z,_ | ⟨u,xs⟩⟩⟩
   ·refine e0a (b:=false) rfl rfl (show D.depth (.int _)<=60 by simp[D.depth]) rfl ?_
    refine no ?_
    rintro(⟨e,_⟩ | ⟨r,e,_⟩ | ⟨r,p,e,_⟩ | ⟨p,e,_⟩) <;> cases e
   ·refine e0a (b:=true) rfl rfl (show D.depth (.int _)<=60 by simp[D.depth]) rfl ?_
    refine⟨rfl,rfl,k0u rfl (f0a (j:=1) rfl) ?_⟩
    refine⟨rfl,c,y,rfl,hc,h1,hj,dx y (by simp),?_⟩
    have:papB c (.tup [.str "next",y])=o0t c y:=by
     rw[cO,hB]
     constructor
     ·rintro(⟨e,_⟩ | ⟨r,e,h⟩ | ⟨r,p,e,h⟩ | ⟨p,e,h⟩) <;> try cases e
      exact h
     ·exact fun h=>.inr (.inr (.inr ⟨y,rfl,h⟩))
    rw[this]at hq
    exact hq
   ·refine e0a (b:=false) rfl rfl (show D.depth (.int _)<=60 by simp[D.depth]) rfl ?_
    refine no ?_
    rintro(⟨e,_⟩ | ⟨r,e,_⟩ | ⟨r,p,e,_⟩ | ⟨p,e,_⟩) <;> cases e
   ·simp only[aS]at hx;omega
  ·have ne:eqD x (.str "next")=false:=by
    cases h:eqD x (.str "next")with
    | false=>rfl
    | true=>exact absurd (r0e h) e
   show if eqD x (.str "next")=true then _ else _
   rw[if_neg (by rw[ne];decide)]
   exact hM _ ⟨e,rfl⟩
 rintro _ ⟨nnext,rfl⟩
 refine no ?_
 rintro(⟨e,_⟩ | ⟨r,e,_⟩ | ⟨r,p,e,_⟩ | ⟨p,e,_⟩)
 ·injection e with e;injection e with e;exact nrows e
 ·injection e with e;injection e with e;exact nfar e
 ·injection e with e;injection e with e;exact nmade e
 ·injection e with e;injection e with e;exact nnext e
end
def goN (f:Nat->List Nat->List Nat ⊕ D)(sh:List Nat):List Nat->List Nat->List D->List Nat ⊕ D
 | _,[],acc=>.inr (.tup [.str "next",.tup acc])
 | done,r::rest,acc=>match f r (sh++done)with
  | .inl t=>.inl t
  | .inr p=>goN f sh (done++[r]) rest (acc++[p])
def mkM (r:Nat):List Nat ⊕ D->List Nat ⊕ D
 | .inl t=>.inl t
 | .inr p=>.inr (.tup [.str "made",nD r,p])
noncomputable def srN (W:List Nat)(cl:Bool):Nat->List Nat->List Nat->List Nat ⊕ D
 | 0,kn,_=>if b0g W kn=[]then .inl kn else .inr (.tup [.str "rows"])
 | l+1,kn,sh=>if b0g W kn=[]then .inl kn else if l+1<(b0g W kn).length then .inr (.tup [.str "rows"])else
  match (b0g W kn).find? (fun r=>farN cl kn (l+1) r)with
  | some r=>.inr (.tup [.str "far",nD r])
  | none=>match (b0g W kn).find? (fun r=>(b0n cl kn sh).contains r)with
   | some r=>mkM r (srN W cl l (kn++[r]) sh)
   | none=>goN (fun r s=>srN W cl l (kn++[r]) s) sh [] (b0n cl kn sh) []
def resD:List Nat ⊕ D->D
 | .inl t=>.tup [.bl true,.lst (a0e t)]
 | .inr p=>.tup [.bl false,p]
def d1y:List Nat ⊕ D->D
 | .inl t=>.lst (a0e t)
 | .inr p=>p
theorem u0e (x:List Nat ⊕ D):resD x = .tup [.bl x.isLeft,d1y x]:=by cases x <;> rfl
def SSr (C:Addr):Nat->ASp
 | 0=>fun _ _=>False
 | j+1=>fun ss q=>∃c:Cs,ss=[obC C c]/\CsOk c/\c.lf<=j/\q (.d (resD (srN c.W c.cl c.lf c.kn c.sh))) [obC C c]
def SSrM (C:Addr)(j:Nat):ASp:=fun ss q=>∃(c:Cs) (r:Nat),ss=[obC C c,nv r]/\CsOk c/\1<=c.lf/\c.lf<=j/\r∈b0n c.cl c.kn c.sh/\q (.d (resD (mkM r (srN c.W c.cl (c.lf - 1) (c.kn++[r]) c.sh)))) [obC C c,nv r]
def SSrN (C:Addr)(j:Nat):ASp:=fun ss q=>∃c:Cs,ss=[obC C c,.ow (a0e (b0n c.cl c.kn c.sh))]/\CsOk c/\1<=c.lf/\c.lf<=j/\q (.d (resD (goN (fun r s=>srN c.W c.cl (c.lf - 1) (c.kn++[r]) s) c.sh [] (b0n c.cl c.kn c.sh) []))) [obC C c,.ow (a0e (b0n c.cl c.kn c.sh))]
theorem gaT2 {i j:Nat}{a b:D}{ρ:En}{M:En->Prop}(h:M (pt (pt ρ i (.vl a)) j (.vl b))):v0m 2 (i0l (h0y i) (i0l (h0y j) gaNil)) (.tup [a,b]) ρ M:=h
section
variable {P:aO}{w:be}{K:aa}{mg:Str->Option af}{base:Heap}
theorem b0c (j k:Nat){C_Cases:Addr}(ob_Cases:ObC P w K mg base C_Cases "Cases" ["wished", "clean", "known", "shut", "left"])(dn:DefN K mg "searched_made" e0q ["cases", "row"])(B:BI mg)(g_Cases_with_row:OkM P w K mg base 3 C_Cases "with_row" ["self", "row", "shut"] (spA K (z0n C_Cases)))(g_searched:OkN P w K mg base (k+4) "searched" ["cases"] (spA K ((SSr C_Cases) j))):OkN P w K mg base (k+5) "searched_made" ["cases", "row"] (spA K ((SSrM C_Cases) j)):=by
 refine dn.aok2 (k:=k+4) f0o (fun j=>j==0||j==1) [.un,.un] (((SSrM C_Cases) j)) rfl (fun f cdv A outer s H E hr=>have hu:=e0e hr;⟨_,(a0h (j0k (c0v g_searched (hr.mono (by omega)) (a0c (m0b g_Cases_with_row ob_Cases.cl (hr.mono (by omega)) (pv 0) (a0c (pv 1) (a0c (d0z (pv 0) rfl) a0f))) a0f)) (c0s K (n:=2) rfl (a0o (a0n (i:=2) f0o.nd rfl (by first | exact Or.inl rfl | exact Or.inr rfl)) (a0o (a0n (i:=3) f0o.nd rfl (by first | exact Or.inl rfl | exact Or.inr rfl)) c0r))))
  (a0h (f0h (f0g K (pv 2) (fun _=>rfl))
  (a0l (b0f (d0e (a0c e0u (a0c (pv 3) a0f)))))
  c0e)
  (a0l (b0f (d0e (a0c e0u (a0c (d0e (a0c e0s (a0c (pv 1) (a0c (pv 3) a0f)))) a0f))))))),(a0k (g0f (a0q (a0a (c0a a0b (a0a a0b (a0a (c0u ob_Cases.cl (ob_Cases.na _ (.tail _ (.tail _ (.tail _ (.head _))))) a0b) a0d))) a0d)) (b0s (a0j (a0i rfl) (a0j (a0i rfl) b0i (fun _ _ _=>a0w)) (fun _ _ _=>a0w))))
  (a0k (d0o (g0a a0b)
  (a0u (c0d (a0a c0y (a0a a0b a0d))))
  b0t)
  (a0u (c0d (a0a c0y (a0a (c0d (a0a i0a (a0a a0b (a0a a0b a0d)))) a0d))))))⟩) ?_
 rintro ss q ⟨c,r,rfl,hc,hl,hj,hr,hq⟩
 obtain⟨j,rfl⟩:∃j',j=j'+1:=⟨j - 1,by omega⟩
 have kl:=hc.kl
 have l2:(2:Nat)<=1000000:=by decide
 have l3:(3:Nat)<=1000000:=by decide
 obtain⟨fa,fb,_⟩:=(c0z hc.k).mp hr
 have hc':=hc.with hl (e0b hc.k fa) fb hc.s (by omega)
 refine⟨rfl,rfl,?_⟩
 have red:∀x y:List Nat ⊕ D,x=y->q (.d (resD (mkM r x))) [obC C_Cases c,nv r]->q (.d (resD (mkM r y))) [obC C_Cases c,nv r]:=fun x y e h=>e▸h
 refine cutS (fun ρ=>ρ=[obC C_Cases c,nv r,.vl (.bl (srN c.W c.cl (c.lf - 1) (c.kn++[r]) c.sh).isLeft),.vl (d1y (srN c.W c.cl (c.lf - 1) (c.kn++[r]) c.sh))]) (fun M hM=>?_) ?_
 ·refine⟨rfl,rfl,rfl,_,rfl,?_⟩
  refine⟨rfl,c,r,_,rfl,by omega,hl,?_⟩
  refine⟨rfl,_,rfl,hc',by show c.lf - 1<=j;omega,?_⟩
  rw[u0e]
  exact hM _ rfl
 rintro _ rfl
 cases e:srN c.W c.cl (c.lf - 1) (c.kn++[r]) c.sh with
 | inl t =>
  have hq:=red _ _ e hq
  refine⟨l2,?_⟩
  exact hq
 | inr p =>
  have hq:=red _ _ e hq
  refine⟨l3,?_⟩
  refine⟨l2,?_⟩
  exact hq
theorem b0b (j k:Nat){C_Cases:Addr}(ob_Cases:ObC P w K mg base C_Cases "Cases" ["wished", "clean", "known", "shut", "left"])(dn:DefN K mg "searched_next" e0p ["cases", "free"])(B:BI mg)(g_Cases_with_row:OkM P w K mg base 3 C_Cases "with_row" ["self", "row", "shut"] (spA K (z0n C_Cases)))(g_searched:OkN P w K mg base (k+4) "searched" ["cases"] (spA K ((SSr C_Cases) j))):OkN P w K mg base (k+5) "searched_next" ["cases", "free"] (spA K ((SSrN C_Cases) j)):=by
 refine dn.aok2 (k:=k+4) c0w (fun j=>j==0||j==1) [.un,.un,.un,.un,.un] (((SSrN C_Cases) j)) rfl (fun f cdv A outer s H E hr=>have hu:=e0e hr;⟨_,(a0h (c0k (i:=2) c0w.nd rfl (by first | exact Or.inl rfl | exact Or.inr rfl) (k0j a0f))
  (a0h (h0t bR rfl (j0s K rfl B.enumerate_ (a0c (pv 1) a0f)) (c0s K (n:=2) rfl (a0o (a0n (i:=3) c0w.nd rfl (by first | exact Or.inl rfl | exact Or.inr rfl)) (a0o (a0n (i:=4) c0w.nd rfl (by first | exact Or.inl rfl | exact Or.inr rfl)) c0r)))
  (a0h (j0k (c0v g_searched (hr.mono (by omega)) (a0c (m0b g_Cases_with_row ob_Cases.cl (hr.mono (by omega)) (pv 0) (a0c (pv 4) (a0c (c0i (u0j K) (d0z (pv 0) rfl) (f0c (i0u K) (pv 1) g0i (g0h (pv 3)))) a0f))) a0f)) (c0s K (n:=2) rfl (a0o (a0n (i:=5) c0w.nd rfl (by first | exact Or.inl rfl | exact Or.inr rfl)) (a0o (a0n (i:=6) c0w.nd rfl (by first | exact Or.inl rfl | exact Or.inr rfl)) c0r))))
  (a0h (f0h (f0g K (pv 5) (fun _=>rfl))
  (a0l (b0f (d0e (a0c e0u (a0c (pv 6) a0f)))))
  c0e)
  (a0l (i0d (k0k K b7 cu cq f0y (pv 2) (a0c (pv 6) a0f)))))))
  (a0l (b0f (d0e (a0c e0u (a0c (d0e (a0c e0s (a0c (e0t (e0z K) rfl B.tuple_ h0n (a0c (pv 2) a0f)) a0f))) a0f))))))),(a0k (c0b (g0z a0d) rfl)
  (a0k (f0n (pin:=(fun j=>j==1)) (f0v (a0a a0b a0d)) (b0s (a0j (a0i rfl) (a0j (a0i rfl) b0i (fun _ _ _=>a0w)) (fun _ _ _=>a0w)))
  (a0k (g0f (a0q (a0a (c0a a0b (a0a a0b (a0a (a0m u0m (c0u ob_Cases.cl (ob_Cases.na _ (.tail _ (.tail _ (.tail _ (.head _))))) a0b) (m0y a0b g0y (e0m a0b))) a0d))) a0d)) (b0s (a0j (a0i rfl) (a0j (a0i rfl) b0i (fun _ _ _=>a0w)) (fun _ _ _=>a0w))))
  (a0k (d0o (g0a a0b)
  (a0u (c0d (a0a c0y (a0a a0b a0d))))
  b0t)
  (g0c (j0p a0b (a0a a0b a0d))))))
  (a0u (c0d (a0a c0y (a0a (c0d (a0a i0a (a0a (c0t f0u (a0a a0b a0d)) a0d))) a0d))))))⟩) ?_
 rintro ss q ⟨c,rfl,hc,hl,hj,hq⟩
 refine⟨rfl,rfl,?_⟩
 obtain⟨j,rfl⟩:∃j',j=j'+1:=⟨j - 1,by omega⟩
 refine cutS (fun ρ=>ρ=[obC C_Cases c,.ow (a0e (b0n c.cl c.kn c.sh)),.ow [],.un,.un,.un,.un]) (fun M hM=>⟨bg _,hM _ rfl⟩) ?_
 rintro _ rfl
 have kl:=hc.kl
 have hsl:=hc.sl
 have l2:(2:Nat)<=1000000:=by decide
 have hfl:=x0m hc
 have hfm:=fun r (hr:r∈b0n c.cl c.kn c.sh)=>(c0z hc.k).mp hr
 generalize hres:goN (fun r s=>srN c.W c.cl (c.lf - 1) (c.kn++[r]) s) c.sh [] (b0n c.cl c.kn c.sh) []=res at hq
 generalize b0n c.cl c.kn c.sh=Fr at *
 refine cutS (fun ρ=>∃ps s3 s4 s5 s6,res = .inr (.tup [.str "next",.tup ps])/\ps.length<=64/\ρ=[obC C_Cases c,.ow (a0e Fr),.ow ps,s3,s4,s5,s6]) (fun M hM=>?_) ?_
 ·refine f0t (fun k ρ=>∃ps s3 s4 s5 s6,goN (fun r s=>srN c.W c.cl (c.lf - 1) (c.kn++[r]) s) c.sh (Fr.take k) (Fr.drop k) ps=res/\ps.length=k/\ρ=[obC C_Cases c,.ow (a0e Fr),.ow ps,s3,s4,s5,s6]) (fun k ρ _ ⟨_,s3,s4,s5,s6,_,_,e⟩=>by rw[e];rfl) ?_ ?_ _ ⟨[],.un,.un,.un,.un,hres,rfl,rfl⟩
  ·rintro k x _ N hx ⟨ps,s3,s4,s5,s6,hgo,hps,rfl⟩ hN
   obtain⟨y,hy,rfl⟩:=d0t hx
   rw[a0e,aM]at hy
   obtain⟨r,hr,rfl⟩:=aY.mp hy
   have hk:=(aI.mp hr).1
   have hrF:r∈Fr:=bz hr
   obtain⟨fa,fb,_⟩:=hfm r hrF
   rw[ck]
   have hs64:∀x∈c.sh++Fr.take k,x<64:=fun x hx=>(a7.mp hx).elim (hc.s x) fun h=>(e0b hc.k (hfm x (gF h)).1).2
   have hc':=hc.with (s:=c.sh++Fr.take k) hl (e0b hc.k fa) fb hs64 (by rw[aJ,bi];omega)
   have ec:a0e c.sh++cutD (a0e Fr) none (some ((k:Nat):Int))=a0e (c.sh++Fr.take k):=by
    rw[f0k];unfold a0e;rw[bp,d7]
   have hil:r<64:=(e0b hc.k fa).2
   have hb:(a0e c.sh).length+(L2.cutD (a0e Fr) none (some ((k:Nat):Int))).length<=1000000:=by
    rw[f0k,c0m,bi,c0m]
    omega
   have hd:Fr.drop k=r::Fr.drop (k+1):=by
    rw[br hk]
    rw[ao hk]at hr
    injection hr with hr
    rw[hr]
   have ht:Fr.take (k+1)=Fr.take k++[r]:=by rw[b8,hr];rfl
   rw[hd]at hgo
   simp only[goN]at hgo
   refine gaT2 ?_
   show aSeq _ _ _ [obC C_Cases c,.ow (a0e Fr),.ow ps,.vl (.int (k:Nat)),nv r,s5,s6]
   refine cutS (fun ρ=>ρ=[obC C_Cases c,.ow (a0e Fr),.ow ps,.vl (.int (k:Nat)),nv r,.vl (.bl (srN c.W c.cl (c.lf - 1) (c.kn++[r]) (c.sh++Fr.take k)).isLeft),.vl (d1y (srN c.W c.cl (c.lf - 1) (c.kn++[r]) (c.sh++Fr.take k)))]) (fun M hM=>?_) ?_
   ·refine⟨rfl,rfl,rfl,_,rfl,hb,?_⟩
    rw[ec]
    refine⟨rfl,c,r,_,rfl,by omega,hl,?_⟩
    refine⟨rfl,_,rfl,hc',by show c.lf - 1<=j;omega,?_⟩
    rw[u0e]
    exact hM _ rfl
   rintro _ rfl
   cases e:srN c.W c.cl (c.lf - 1) (c.kn++[r]) (c.sh++Fr.take k)with
   | inl t =>
    rw[e]at hgo
    refine⟨l2,?_⟩
    subst hgo
    exact hq
   | inr p =>
    rw[e]at hgo
    have hpl:ps.length<=1000000:=by omega
    refine⟨hpl,?_⟩
    exact hN _ ⟨ps++[p],.vl (.int (k:Nat)),nv r,.vl (.bl false),.vl p,by rw[ht];exact hgo,by rw[aJ,hps];rfl,rfl⟩
  ·rintro _ ⟨ps,s3,s4,s5,s6,hgo,hps,rfl⟩
   rw[c0n,c0m]at hgo hps
   rw[lm]at hgo
   exact hM _ ⟨ps,s3,s4,s5,s6,hgo.symm,by omega,rfl⟩
 rintro _ ⟨ps,s3,s4,s5,s6,rfl,hps,rfl⟩
 have lp:ps.length<=1000000:=by omega
 refine⟨l2,?_⟩
 refine⟨l2,?_⟩
 exact hq
theorem c0c (j k:Nat){C_Cases:Addr}(ob_Cases:ObC P w K mg base C_Cases "Cases" ["wished", "clean", "known", "shut", "left"])(dn:DefN K mg "searched" i0v ["cases"])(B:BI mg)(g_Cases_lacking:OkM P w K mg base 3 C_Cases "lacking" ["self"] (spA K (w0c C_Cases)))(g_Cases_lacks_too_many:OkM P w K mg base 4 C_Cases "lacks_too_many" ["self"] (spA K (x0x C_Cases)))(g_Cases_free_rows:OkM P w K mg base 3 C_Cases "free_rows" ["self"] (spA K (d1q C_Cases)))(g_Cases_is_far:OkM P w K mg base 3 C_Cases "is_far" ["self", "row"] (spA K (SFar C_Cases)))(g_searched_next:OkN P w K mg base (k+5) "searched_next" ["cases", "free"] (spA K ((SSrN C_Cases) j)))(g_searched_made:OkN P w K mg base (k+5) "searched_made" ["cases", "row"] (spA K ((SSrM C_Cases) j))):OkN P w K mg base (k+6) "searched" ["cases"] (spA K ((SSr C_Cases) (j+1))):=by
 refine dn.aok2 (k:=k+5) e0y (fun j=>j==0) [.un,.un,.un] (((SSr C_Cases) (j+1))) rfl (fun f cdv A outer s H E hr=>have hu:=e0e hr;⟨_,(a0h (c0k (i:=1) e0y.nd rfl (by first | exact Or.inl rfl | exact Or.inr rfl) (j0l g_Cases_lacking ob_Cases.cl (hr.mono (by omega)) (pv 0)))
  (a0h (f0h (l0y (f0g K (pv 1) (fun _=>rfl)))
  (a0l (b0f (d0e (a0c e0u (a0c (d0z (pv 0) rfl) a0f)))))
  c0e)
  (a0h (f0h (k0i (j0l g_Cases_lacks_too_many ob_Cases.cl (hr.mono (by omega)) (pv 0)))
  (a0l (b0f (d0e (a0c e0u (a0c (d0e (a0c e0s a0f)) a0f)))))
  c0e)
  (a0h (h0t bR rfl (e0r K (pv 1)) (a0n (i:=2) e0y.nd rfl (by first | exact Or.inl rfl | exact Or.inr rfl))
  (a0l (f0h (k0i (m0b g_Cases_is_far ob_Cases.cl (hr.mono (by omega)) (pv 0) (a0c (pv 2) a0f)))
  (a0l (b0f (d0e (a0c e0u (a0c (d0e (a0c e0s (a0c (pv 2) a0f))) a0f)))))
  c0e)))
  (a0h (c0k (i:=3) e0y.nd rfl (by first | exact Or.inl rfl | exact Or.inr rfl) (j0l g_Cases_free_rows ob_Cases.cl (hr.mono (by omega)) (pv 0)))
  (a0h (h0t bR rfl (e0r K (pv 1)) (a0n (i:=2) e0y.nd rfl (by first | exact Or.inl rfl | exact Or.inr rfl))
  (a0l (f0h (c0o (y0k K) (pv 2) (pv 3) rfl)
  (a0l (b0f (c0v g_searched_made (hr.mono (by omega)) (a0c (pv 0) (a0c (pv 2) a0f)))))
  c0e)))
  (a0l (b0f (c0v g_searched_next (hr.mono (by omega)) (a0c (pv 0) (a0c (pv 3) a0f))))))))))),(a0k (c0b (c0a a0b a0d) rfl)
  (a0k (d0o (g0b (g0a a0b))
  (a0u (c0d (a0a c0y (a0a (c0u ob_Cases.cl (ob_Cases.na _ (.tail _ (.tail _ (.head _)))) a0b) a0d))))
  b0t)
  (a0k (d0o (j0h (c0a a0b a0d))
  (a0u (c0d (a0a c0y (a0a (c0d (a0a i0a a0d)) a0d))))
  b0t)
  (a0k (f0n (pin:=(fun j=>j==1)) (d0j a0b) (a0i rfl)
  (d0o (j0h (c0a a0b (a0a a0b a0d)))
  (a0u (c0d (a0a c0y (a0a (c0d (a0a i0a (a0a a0b a0d))) a0d))))
  b0t))
  (a0k (c0b (c0a a0b a0d) rfl)
  (a0k (f0n (pin:=(fun j=>j==1)) (d0j a0b) (a0i rfl)
  (d0o (b0h (a0m (x0c false) a0b a0b))
  (a0u (a0q (a0a a0b (a0a a0b a0d))))
  b0t))
  (a0u (a0q (a0a a0b (a0a a0b a0d))))))))))⟩) ?_
 rintro ss q ⟨c,rfl,hc,hj,hq⟩
 refine⟨rfl,rfl,?_⟩
 have l1:(1:Nat)<=1000000:=by decide
 have l2:(2:Nat)<=1000000:=by decide
 have no0:b0g c.W c.kn≠[]->¬c.lf<(b0g c.W c.kn).length->1<=c.lf:=fun h h'=>by
  have:=fh.mpr h
  omega
 refine cutS (fun ρ=>ρ=[obC C_Cases c,.ow (a0e (b0g c.W c.kn)),.un,.un]) (fun M hM=>⟨rfl,rfl,rfl,c,rfl,hc,hM _ rfl⟩) ?_
 rintro _ rfl
 refine cutS (fun ρ=>b0g c.W c.kn≠[]/\ρ=[obC C_Cases c,.ow (a0e (b0g c.W c.kn)),.un,.un]) (fun M hM=>?_) ?_
 ·cases hL:b0g c.W c.kn with
  | nil =>
   refine⟨rfl,_,rfl,l2,?_⟩
   have:srN c.W c.cl c.lf c.kn c.sh = .inl c.kn:=by
    cases h:c.lf <;> simp only[srN,hL,if_true]
   rw[this]at hq
   exact hq
  | cons x xs=>exact hM _ ⟨by rw[hL];simp,by rw[hL]⟩
 rintro _ ⟨hL,rfl⟩
 refine cutS (fun ρ=>¬c.lf<(b0g c.W c.kn).length/\ρ=[obC C_Cases c,.ow (a0e (b0g c.W c.kn)),.un,.un]) (fun M hM=>⟨rfl,rfl,rfl,c,rfl,hc,?_⟩) ?_
 ·show if decide (c.lf<(b0g c.W c.kn).length)=true then _ else _
  by_cases h:c.lf<(b0g c.W c.kn).length
  ·rw[if_pos (decide_eq_true h)]
   refine⟨l1,?_⟩
   refine⟨l2,?_⟩
   have:srN c.W c.cl c.lf c.kn c.sh = .inr (.tup [.str "rows"]):=by
    cases hl:c.lf with
    | zero=>simp only[srN];rw[if_neg hL]
    | succ l=>simp only[srN];rw[if_neg hL,if_pos (by rw[<- hl];exact h)]
   rw[this]at hq
   exact hq
  ·rw[if_neg (by rw[decide_eq_true_eq];exact h)]
   exact hM _ ⟨h,rfl⟩
 rintro _ ⟨hM,rfl⟩
 obtain⟨l,hl⟩:∃l,c.lf=l+1:=⟨c.lf - 1,by have:=no0 hL hM;omega⟩
 have hS:srN c.W c.cl c.lf c.kn c.sh=match (b0g c.W c.kn).find? (fun r=>farN c.cl c.kn c.lf r)with
  | some r=>.inr (.tup [.str "far",nD r])
  | none=>match (b0g c.W c.kn).find? (fun r=>(b0n c.cl c.kn c.sh).contains r)with
   | some r=>mkM r (srN c.W c.cl (c.lf - 1) (c.kn++[r]) c.sh)
   | none=>goN (fun r s=>srN c.W c.cl (c.lf - 1) (c.kn++[r]) s) c.sh [] (b0n c.cl c.kn c.sh) []:=by
  rw[hl]at hM ⊢
  simp only[srN]
  rw[if_neg hL,if_neg hM]
  rfl
 have take1:∀ {k:Nat} {r:Nat} (p:Nat->Bool),(b0g c.W c.kn)[k]? = some r->((b0g c.W c.kn).take k).find? p=none->(((b0g c.W c.kn).take (k+1)).find? p=if p r=true then some r else none)/\(p r=true->(b0g c.W c.kn).find? p=some r):=by
  intro k r p e h
  have hk:=(aI.mp e).1
  have h1:((b0g c.W c.kn).take (k+1)).find? p=if p r=true then some r else none:=by
   rw[b8,e,iE,h,d5,bO]
   cases p r <;> rfl
  refine⟨h1,fun hp=>?_⟩
  have:b0g c.W c.kn=(b0g c.W c.kn).take (k+1)++(b0g c.W c.kn).drop (k+1):=(gq _ _).symm
  rw[this,iE,h1,if_pos hp]
  rfl
 refine cutS (fun ρ=>(b0g c.W c.kn).find? (fun r=>farN c.cl c.kn c.lf r)=none/\∃s2,ρ=[obC C_Cases c,.ow (a0e (b0g c.W c.kn)),s2,.un]) (fun M hM=>⟨rfl,?_⟩) ?_
 ·refine f0t (fun k ρ=>((b0g c.W c.kn).take k).find? (fun r=>farN c.cl c.kn c.lf r)=none/\∃s2,ρ=[obC C_Cases c,.ow (a0e (b0g c.W c.kn)),s2,.un]) (fun k ρ _ ⟨_,s2,e⟩=>by rw[e];rfl) ?_ ?_ _ ⟨rfl,.un,rfl⟩
  ·rintro k x _ N hx ⟨hpre,s2,rfl⟩ hN
   rw[a0e,aM]at hx
   obtain⟨r,hr,rfl⟩:=aY.mp hx
   have hrW:=(e0x hc.w).mp (bz hr)
   obtain⟨t1,t2⟩:=take1 (fun r=>farN c.cl c.kn c.lf r) hr hpre
   refine⟨rfl,rfl,rfl,c,r,rfl,hc,(hc.w r hrW.1).2,?_⟩
   show if farN c.cl c.kn c.lf r=true then _ else _
   by_cases h:farN c.cl c.kn c.lf r=true
   ·rw[if_pos h]
    refine⟨l2,?_⟩
    refine⟨l2,?_⟩
    rw[hS,t2 h]at hq
    exact hq
   ·rw[if_neg h]
    exact hN _ ⟨by rw[t1,if_neg h],_,rfl⟩
  ·rintro _ ⟨h,s2,rfl⟩
   rw[c0m,cj]at h
   exact hM _ ⟨h,s2,rfl⟩
 rintro _ ⟨hF,s2,rfl⟩
 rw[hF]at hS
 refine cutS (fun ρ=>ρ=[obC C_Cases c,.ow (a0e (b0g c.W c.kn)),s2,.ow (a0e (b0n c.cl c.kn c.sh))]) (fun M hM=>⟨rfl,rfl,rfl,c,rfl,hc,hM _ rfl⟩) ?_
 rintro _ rfl
 refine cutS (fun ρ=>(b0g c.W c.kn).find? (fun r=>(b0n c.cl c.kn c.sh).contains r)=none/\∃s2,ρ=[obC C_Cases c,.ow (a0e (b0g c.W c.kn)),s2,.ow (a0e (b0n c.cl c.kn c.sh))]) (fun M hM=>⟨rfl,?_⟩) ?_
 ·refine f0t (fun k ρ=>((b0g c.W c.kn).take k).find? (fun r=>(b0n c.cl c.kn c.sh).contains r)=none/\∃s2,ρ=[obC C_Cases c,.ow (a0e (b0g c.W c.kn)),s2,.ow (a0e (b0n c.cl c.kn c.sh))]) (fun k ρ _ ⟨_,s2,e⟩=>by rw[e];rfl) ?_ ?_ _ ⟨rfl,s2,rfl⟩
  ·rintro k x _ N hx ⟨hpre,s2,rfl⟩ hN
   rw[a0e,aM]at hx
   obtain⟨r,hr,rfl⟩:=aY.mp hx
   obtain⟨t1,t2⟩:=take1 (fun r=>(b0n c.cl c.kn c.sh).contains r) hr hpre
   have depF:∀e∈a0e (b0n c.cl c.kn c.sh),e.depth<=60:=fun e he=>by
    obtain⟨x,_,rfl⟩:=bD.mp he
    simp[D.depth]
   refine x0l (n:=r) (xs:=b0n c.cl c.kn c.sh) rfl ?_
   show if(b0n c.cl c.kn c.sh).contains r=true then _ else _
   by_cases h:(b0n c.cl c.kn c.sh).contains r=true
   ·rw[if_pos h]
    refine⟨rfl,c,r,rfl,hc,by omega,hj,aV.mp h,?_⟩
    rw[hS,t2 h]at hq
    exact hq
   ·rw[if_neg h]
    exact hN _ ⟨by rw[t1,if_neg h],_,rfl⟩
  ·rintro _ ⟨h,s2,rfl⟩
   rw[c0m,cj]at h
   exact hM _ ⟨h,s2,rfl⟩
 rintro _ ⟨hG,s2,rfl⟩
 rw[hG]at hS
 rw[hS]at hq
 refine⟨rfl,c,rfl,hc,by omega,hj,?_⟩
 exact hq
end
theorem w0i {κ:Type} [DecidableEq κ](k k':κ)(d:D):∀(kvs:List (κ×D)),valD (putD kvs k d) k'=if k'=k then some d else valD kvs k':=by
 have rep:∀kvs:List (κ×D),(kvs.any fun kv=>decide (kv.1=k))=true->valD (kvs.map fun kv=>if kv.1=k then(kv.1,d)else kv) k'=if k'=k then some d else valD kvs k':=by
  intro kvs
  induction kvs with
  | nil=>intro h;cases h
  | cons p r ih =>
   intro h
   rw[aT]
   by_cases e:p.1=k
   ·rw[if_pos e]
    by_cases e':k'=k
    ·rw[if_pos e']
     simp[valD,bO,e,e']
    ·rw[if_neg e']
     have ne:¬p.1=k':=fun z=>e' (z.symm.trans e)
     have tail:∀r:List (κ×D),valD (r.map fun kv=>if kv.1=k then(kv.1,d)else kv) k'=valD r k':=by
      intro r
      induction r with
      | nil=>rfl
      | cons q r ih =>
       rw[aT]
       by_cases eq:q.1=k
       ·have nq:¬q.1=k':=fun z=>e' (z.symm.trans eq)
        rw[if_pos eq]
        unfold valD at ih ⊢
        rw[bT (by simpa using nq),bT (by simpa using nq)]
        exact ih
       ·rw[if_neg eq]
        by_cases nq:q.1=k'
        ·unfold valD
         rw[eF (by simpa using nq),eF (by simpa using nq)]
        ·unfold valD at ih ⊢
         rw[bT (by simpa using nq),bT (by simpa using nq)]
         exact ih
     have t:=tail r
     unfold valD at t ⊢
     rw[bT (by simpa using ne),bT (by simpa using ne)]
     exact t
   ·rw[if_neg e]
    have h':(r.any fun kv=>decide (kv.1=k))=true:=by simpa [e] using h
    have ih':=ih h'
    by_cases ek:p.1=k'
    ·have nk:¬k'=k:=fun z=>e (ek.trans z)
     rw[if_neg nk]
     unfold valD
     rw[eF (by simpa using ek),eF (by simpa using ek)]
    ·unfold valD at ih' ⊢
     rw[bT (by simpa using ek),bT (by simpa using ek)]
     exact ih'
 intro kvs
 unfold putD
 split
 ·rename_i h;exact rep kvs h
 ·rename_i h
  have hn:∀kv∈kvs,¬kv.1=k:=fun kv hkv e=>h (cD.mpr ⟨kv,hkv,decide_eq_true e⟩)
  unfold valD
  rw[iE]
  by_cases e':k'=k
  ·rw[if_pos e']
   have:(kvs.find? fun kv=>decide (kv.1=k'))=none:=List.find?_eq_none.mpr fun kv hkv=>by rw[e'];simpa using hn kv hkv
   rw[this]
   simp[bO,e']
  ·rw[if_neg e']
   have:([(k,d)].find? fun kv=>decide (kv.1=k'))=none:=by rw[bT (by simpa using fun z:k=k'=>e' z.symm)];rfl
   rw[this]
   cases (kvs.find? fun kv=>decide (kv.1=k')) <;> rfl
def stN (R:List Nat):List Nat:=(aQ R.length).map (fst1 R)
theorem h0c (R:List Nat):(stN R).length=R.length:=by simp[stN]
theorem k0c {R:List Nat}{t:Nat}(h:t<R.length):(stN R).getD t 0=fst1 R t:=by
 rw[v0l (by rw[h0c];exact h)]
 simp[stN]
def metD (R:List Nat)(k:Nat)(kvs:List (Key×D)):Prop:=∀r:Nat,valD kvs (.inl (r:Int))=if r∈R.take k then some (nD (R.idxOf r))else none
def d1s:ASp:=fun ss q=>∃R:List Nat,ss=[.vl (.lst (a0e R))]/\R.length<=1000/\q (.f (a0e (stN R))) [.vl (.lst (a0e R))]
def v0i (M:Nat->Bool)(kvs:List (Key×D)):Prop:=∀t:Nat,(valD kvs (.inl (t:Int))).isSome=M t
theorem q0s {M:Nat->Bool}{kvs:List (Key×D)}(h:v0i M kvs)(x:Nat)(d:D):v0i (fun t=>M t||t==x) (putD kvs (.inl (x:Int)) d):=fun t=>by
 rw[w0i]
 by_cases e:t=x
 ·subst e;simp
 ·have:¬(Sum.inl (t:Int):Key) = .inl (x:Int):=fun z=>e (by injection z with z;omega)
  rw[if_neg this,h t]
  simp[e]
def d1p:ASp:=fun ss q=>∃(N:Net),ss=[.vl (netD N),.ow (a0e (stN (d0i N)))]/\g1f N/\∀kvs,v0i (m0g N) kvs->q (.n (.dk kvs)) [.vl (netD N),.ow (a0e (stN (d0i N)))]
def STid:ASp:=fun ss q=>∃N:Net,ss=[.vl (netD N)]/\g1f N/\q (.d (netD (tidN N))) [.vl (netD N)]
theorem n1q {i j:Nat}{d1 d2:D}{ρ:En}{k:En->Prop}(h:k (pt (pt ρ i (.vl d1)) j (.vl d2))):v0m 2 (i0l (h0y i) (i0l (h0y j) gaNil)) (.tup [d1,d2]) ρ k:=h
theorem s0q {m:Nat}{f:Nat->Nat}{p:Nat×Nat}{r:List (Nat×Nat)}{k:Nat}{M:Nat->Bool}{t:Nat}:v0f m f (p::r) k M t=(v0f m f r (k+1) M t||(v0f m f r (k+1) M (m+k)&&(t==f p.1||t==f p.2))):=rfl
def canN (cl:Bool)(K:List Nat)(r:Nat)(n:Nat):List (Nat×Nat):=(aQ n).flatMap fun b=>((aQ b).filter fun a=>decide (K.getD a 0 ^^^ K.getD b 0=r)&&mayN cl (K.getD a 0) (K.getD b 0)).map fun a=>(a,b)
def fjN (cl:Bool)(K:List Nat)(r:Nat):Nat×Nat:=(canN cl K r K.length).getD 0 (0,0)
theorem p0p (K:List Nat){i:Nat}(hi:i<=K.length):f0j 0 (a0e (K.take i))=(aQ i).map fun a=>.tup [nD a,nD (K.getD a 0)]:=by
 refine cW fun k=>?_
 have hl:(K.take i).length=i:=by rw[bi];omega
 rcases bf k i with h | h
 ·have h1:k<(f0j 0 (a0e (K.take i))).length:=by rw[c0n,c0m,hl];exact h
  have h2:(f0j 0 (a0e (K.take i)))[k]? = some ((f0j 0 (a0e (K.take i)))[k]'h1):=ao h1
  obtain⟨x,hx,e⟩:=d0t h2
  rw[h2,e,ck,aM,fj h]
  rw[a0e,aM,fO h,ao (by omega)]at hx
  injection hx with hx
  rw[<- hx]
  show _=some (D.tup [nD k,nD (K.getD k 0)])
  rw[aF,ao (show k<K.length by omega)]
  rfl
 ·rw[cQ (by rw[c0n,c0m,hl];exact h),cQ (by rw[aw,cK];exact h)]
theorem t0k (cl:Bool)(K:List Nat)(r n:Nat):canN cl K r (n+1)=canN cl K r n++((aQ n).filter fun a=>decide (K.getD a 0 ^^^ K.getD n 0=r)&&mayN cl (K.getD a 0) (K.getD n 0)).map fun a=>(a,n):=by
 unfold canN
 rw[cY,fk,fK,iO,bq]
theorem x0u (cl:Bool)(K:List Nat)(r:Nat):∀n,n<=63->(canN cl K r n).length<=n*63
 | 0,_=>by simp[canN]
 | n+1,h=>by
  rw[t0k,aJ,aw]
  have:=x0u cl K r n (by omega)
  have:=df (fun a=>decide (K.getD a 0 ^^^ K.getD n 0=r)&&mayN cl (K.getD a 0) (K.getD n 0)) (aQ n)
  rw[cK]at this
  omega
theorem r0m {cl:Bool}{K:List Nat}{r n:Nat}{p:Nat×Nat}:p∈canN cl K r n↔p.1<p.2/\p.2<n/\K.getD p.1 0 ^^^ K.getD p.2 0=r/\mayN cl (K.getD p.1 0) (K.getD p.2 0)=true:=by
 unfold canN
 rw[iN]
 constructor
 ·rintro⟨b,hb,h⟩
  obtain⟨a,ha,rfl⟩:=bD.mp h
  obtain⟨h1,h2⟩:=bu.mp ha
  rw[ba,decide_eq_true_eq]at h2
  exact⟨bv.mp h1,bv.mp hb,h2⟩
 ·rintro⟨h1,h2,h3,h4⟩
  exact⟨p.2,bv.mpr h2,bD.mpr ⟨p.1,bu.mpr ⟨bv.mpr h1,by rw[ba,decide_eq_true_eq];exact⟨h3,h4⟩⟩,rfl⟩⟩
theorem d1h {cl:Bool}{K:List Nat}{r:Nat}(h:h0k cl K r=true):canN cl K r K.length≠[]:=by
 obtain⟨a,ha,b,hb,ne,hm,rfl⟩:=e0w.mp h
 obtain⟨i,hi,rfl⟩:=m0q ha
 obtain⟨j,hj,rfl⟩:=m0q hb
 rcases cX i j with q | q | q
 ·exact kP (r0m.mpr ⟨q,hj,rfl,hm⟩:(i,j)∈_)
 ·subst q;exact absurd rfl ne
 ·exact kP (r0m.mpr ⟨q,hi,fz _ _,by rw[s0n];exact hm⟩:(j,i)∈_)
theorem j1n {cl:Bool}{K:List Nat}{r:Nat}(h:canN cl K r K.length≠[]):fjN cl K r∈canN cl K r K.length:=by
 unfold fjN
 rw[aF,ao (fh.mpr h)]
 exact dy _
def SFj:ASp:=fun ss q=>∃(K:List Nat) (r:Nat) (cl:Bool),ss=[.vl (.lst (a0e K)),nv r,.vl (.bl cl)]/\K.length<=63/\canN cl K r K.length≠[]/\q (.d (d0n (fjN cl K r))) [.vl (.lst (a0e K)),nv r,.vl (.bl cl)]
def j0v (m:Nat)(cl:Bool)(L W:List Nat):Net:=⟨m,(aQ (L.length - m)).map fun i=>fjN cl (L.take (m+i)) (L.getD (m+i) 0),W.map L.idxOf⟩
structure Fnd (m:Nat)(cl:Bool)(L W:List Nat):Prop where
 m1:1<=m
 m12:m<=12
 l:L.length<=63
 w1:1<=W.length
 w24:W.length<=24
 w:∀r∈W,r∈L
 ml:m<=L.length
 own:L.take m=a0y m
 nd:L.Nodup
 nx:∀i,m<=i->i<L.length->h0k cl (L.take i) (L.getD i 0)=true
theorem b1p:∀ {js:List (Nat×Nat)} {rows:List Nat},(∀i p,js[i]? = some p->p.1<p.2/\p.2<rows.length+i/\((js.take i).foldl b0r rows).getD p.1 0≠((js.take i).foldl b0r rows).getD p.2 0)->okJs rows js
 | [],_,_=>trivial
 | p::r,rows,h=>by
  obtain⟨h1,h2,h3⟩:=h 0 p rfl
  refine⟨h1,h2,h3,b1p fun i q e=>?_⟩
  obtain⟨a,b,c⟩:=h (i+1) q e
  exact⟨a,by rw[m0l];omega,c⟩
theorem f0e {L:List Nat}{n i:Nat}(h:i<n):(L.take n).getD i 0=L.getD i 0:=by
 rw[aF,aF,fO h]
theorem x0h {m:Nat}{cl:Bool}{L W:List Nat}(F:Fnd m cl L W){k:Nat}(h:k<L.length - m):(j0v m cl L W).js[k]? = some (fjN cl (L.take (m+k)) (L.getD (m+k) 0))/\(fjN cl (L.take (m+k)) (L.getD (m+k) 0)).1<(fjN cl (L.take (m+k)) (L.getD (m+k) 0)).2/\(fjN cl (L.take (m+k)) (L.getD (m+k) 0)).2<m+k /\
  L.getD (fjN cl (L.take (m+k)) (L.getD (m+k) 0)).1 0 ^^^ L.getD (fjN cl (L.take (m+k)) (L.getD (m+k) 0)).2 0=L.getD (m+k) 0/\mayN cl (L.getD (fjN cl (L.take (m+k)) (L.getD (m+k) 0)).1 0) (L.getD (fjN cl (L.take (m+k)) (L.getD (m+k) 0)).2 0)=true:=by
 have hl:(L.take (m+k)).length=m+k:=by rw[bi];omega
 have hm:=j1n (d1h (F.nx (m+k) (by omega) (by omega)))
 obtain⟨h1,h2,h3,h4⟩:=r0m.mp hm
 rw[hl]at h2
 refine⟨?_,h1,h2,?_,?_⟩
 ·unfold j0v
  rw[aM,fj h];rfl
 ·rwa [f0e (by omega),f0e h2]at h3
 ·rwa [f0e (by omega),f0e h2]at h4
theorem n0s (m:Nat)(cl:Bool)(L W:List Nat):(j0v m cl L W).js.length=L.length - m:=by simp[j0v]
theorem p0i {m:Nat}{cl:Bool}{L W:List Nat}(F:Fnd m cl L W):∀k,k<=L.length - m->((j0v m cl L W).js.take k).foldl b0r (a0y m)=L.take (m+k)
 | 0,_=>F.own.symm
 | k+1,h=>by
  obtain⟨e,h1,h2,h3,_⟩:=x0h F (show k<L.length - m by omega)
  rw[s0x e,p0i F k (by omega)]
  unfold b0r
  rw[f0e (by omega),f0e h2,h3,<- mv,b8,aF,ao (show m+k<L.length by omega)]
  rfl
theorem b1u {m:Nat}{cl:Bool}{L W:List Nat}(F:Fnd m cl L W):g1f (j0v m cl L W):=by
 have hml:=F.ml
 have hl:=F.l
 refine⟨F.m1,F.m12,by rw[n0s];omega,b1p fun i p e=>?_,?_,?_,fun o ho=>?_⟩
 ·have hi:=(aI.mp e).1
  rw[n0s]at hi
  obtain⟨e',h1,h2,h3,h4⟩:=x0h F hi
  rw[e']at e
  injection e with e
  subst e
  refine⟨h1,by rw[i0f];exact h2,?_⟩
  have et:=p0i F i (by omega)
  show((j0v m cl L W).js.take i |>.foldl b0r (a0y m)).getD _ 0≠((j0v m cl L W).js.take i |>.foldl b0r (a0y m)).getD _ 0
  rw[et,f0e (by omega),f0e h2]
  intro z
  have:=q0w F.nd (by omega) (by omega) z
  omega
 ·show 1<=(W.map L.idxOf).length
  rw[aw];exact F.w1
 ·show(W.map L.idxOf).length<=24
  rw[aw];exact F.w24
 ·obtain⟨r,hr,rfl⟩:=bD.mp ho
  have:=jj (F.w r hr)
  rw[n0s]
  show _<m+_
  omega
theorem x0p (m:Nat):∀n,(aQ n).filter (fun i=>decide (m<=i))=(aQ (n - m)).map (m + ·)
 | 0=>by simp
 | n+1=>by
  rw[cY,hV,x0p m n]
  by_cases h:m<=n
  ·rw[fY (by simpa using h),show n+1 - m=(n - m)+1 by omega,cY,bp]
   show _++[n]=_++[m+(n - m)]
   rw[show m+(n - m)=n by omega]
  ·rw[fZ (by simpa using h),show n+1 - m=n - m by omega]
   simp
def k1g:ASp:=fun ss q=>∃(m:Nat) (cl:Bool) (L W:List Nat),ss=[.vl (j0y m W),.vl (.bl cl),.vl (.lst (a0e L))]/\Fnd m cl L W/\q (.d (netD (tidN (j0v m cl L W)))) [.vl (j0y m W),.vl (.bl cl),.vl (.lst (a0e L))]
theorem g1x:∀ {L:List Nat} {r k:Nat},k<L.idxOf r->L[k]? ≠ some r
 | [],r,k,h,e=>by simp at e
 | x::L,r,0,h,e=>by
  injection e with e
  subst e
  simp at h
 | x::L,r,k+1,h,e=>by
  rw[List.idxOf_cons]at h
  cases hx:x==r with
  | true=>rw[hx]at h;simp at h
  | false =>
   rw[hx]at h
   exact g1x (k:=k) (by simpa using h) (by simpa using e)
section
variable {P:aO}{w:be}{K:aa}{mg:Str->Option af}{base:Heap}
theorem y0n (dn:DefN K mg "joining" k0h ["one", "other"])(B:BI mg):OkN P w K mg base 1 "joining" ["one", "other"] (spA K r0r):=by
 refine dn.aok2 (k:=0) y0i (fun j=>j==0||j==1) [] r0r rfl (fun f cdv A outer s H E hr=>have hu:=e0e hr;⟨_,(a0l (b0f (d0e (a0c (b0m (k0y rfl) rfl B.min_ x0v (a0c (pv 0) (a0c (pv 1) a0f))) (a0c (b0m (o0i rfl) rfl B.max_ d1j (a0c (pv 0) (a0c (pv 1) a0f))) a0f))))),(a0u (c0d (a0a (c0t m0t (a0a a0b (a0a a0b a0d))) (a0a (c0t r0l (a0a a0b (a0a a0b a0d))) a0d))))⟩) ?_
 rintro ss q ⟨a,b,rfl,hq⟩
 refine⟨rfl,rfl,by simp,?_⟩
 show q (.d (.tup [.int (if(b:Int)<(a:Int)then(b:Int)else(a:Int)),.int (if(b:Int) > (a:Int)then(b:Int)else(a:Int))])) [nv a,nv b]
 rw[minI,maxI];exact hq
theorem s0h (dn:DefN K mg "all_words" h0f ["net", "words"])(B:BI mg)(g_joined:OkN P w K mg base 1 "joined" ["one", "other"] (spA K l0v)):OkN P w K mg base 2 "all_words" ["net", "words"] (spA K SAll):=by
 refine dn.aok2 (k:=1) d0r (fun j=>j==0||j==1) [.un,.un,.un,.un,.un,.un] SAll rfl (fun f cdv A outer s H E hr=>have hu:=e0e hr;⟨_,(a0h (j0k (pv 0) (c0s K (n:=3) rfl (a0o (a0n (i:=2) d0r.nd rfl (by first | exact Or.inl rfl | exact Or.inr rfl)) (a0o (a0n (i:=3) d0r.nd rfl (by first | exact Or.inl rfl | exact Or.inr rfl)) (a0o (a0n (i:=4) d0r.nd rfl (by first | exact Or.inl rfl | exact Or.inr rfl)) c0r)))))
  (a0h (c0k (i:=5) d0r.nd rfl (by first | exact Or.inl rfl | exact Or.inr rfl) (e0t (z0j K) rfl B.list_ v0x (a0c (pv 1) a0f)))
  (a0h (h0t bR rfl (e0r K (pv 3)) (c0s K (n:=2) rfl (a0o (a0n (i:=6) d0r.nd rfl (by first | exact Or.inl rfl | exact Or.inr rfl)) (a0o (a0n (i:=7) d0r.nd rfl (by first | exact Or.inl rfl | exact Or.inr rfl)) c0r)))
  (a0l (i0d (k0k K b7 cu cq f0y (pv 5) (a0c (c0v g_joined (hr.mono (by decide)) (a0c (d0w (b0j K) (pv 5) (pv 6) (fun _ _=>rfl)) (a0c (d0w (b0j K) (pv 5) (pv 7) (fun _ _=>rfl)) a0f))) a0f)))))
  (a0l (b0f (pv 5)))))),(a0k (g0f a0b (b0s (a0j (a0i rfl) (a0j (a0i rfl) (a0j (a0i rfl) b0i (fun _ _ _=>a0w)) (fun _ _ _=>a0w)) (fun _ _ _=>a0w))))
  (a0k (c0b (c0t d1g (a0a a0b a0d)) rfl)
  (a0k (f0n (pin:=(fun j=>j==3)) (d0j a0b) (b0s (a0j (a0i rfl) (a0j (a0i rfl) b0i (fun _ _ _=>a0w)) (fun _ _ _=>a0w)))
  (g0c (j0p a0b (a0a (a0q (a0a (a0m c0l a0b a0b) (a0a (a0m c0l a0b a0b) a0d))) a0d))))
  (a0u a0b))))⟩) ?_
 rintro ss q ⟨N,ws,rfl,hix,hz,hq⟩
 refine⟨rfl,rfl,?_⟩
 refine x0n d0n (fun k ρ=>∃s6 s7,ρ=[.vl (netD N),.vl (.lst (a0e ws)),nv N.m,.vl (.tup (N.js.map d0n)),.vl (.tup (a0e N.os)),.ow (a0e ((N.js.take k).foldl b0r ws)),s6,s7]) (fun _ _ _=>trivial) ?_ ?_ ⟨_,_,rfl⟩
 ·rintro k p _ M hk ⟨s6,s7,rfl⟩ hM
  obtain⟨q1,q2⟩:=m0p hix hk
  have hlen:((N.js.take k).foldl b0r ws).length=ws.length+k:=by
   have:=(aI.mp hk).1
   rw[q0z,bi];omega
  have hi:k<N.js.length:=(aI.mp hk).1
  refine c0j rfl (by omega) (c0j rfl (by omega) ⟨rfl,_,_,rfl,?_,hM _ ⟨nv p.1,nv p.2,?_⟩⟩)
  ·rw[aw,hlen];omega
  ·rw[s0x hk,y0r];rfl
 ·rintro ρ ⟨s6,s7,rfl⟩
  rw[cj]
  exact hq
theorem y0l (dn:DefN K mg "rows_of" k0g ["net"])(B:BI mg)(g_all_words:OkN P w K mg base 2 "all_words" ["net", "words"] (spA K SAll))(g_own_rows:OkN P w K mg base 1 "own_rows" ["many"] (spA K SOwn)):OkN P w K mg base 3 "rows_of" ["net"] (spA K w0b):=by
 refine dn.aok2 (k:=2) y0h (fun j=>j==0) [] w0b rfl (fun f cdv A outer s H E hr=>have hu:=e0e hr;⟨_,(a0l (b0f (c0v g_all_words (hr.mono (by decide)) (a0c (pv 0) (a0c (c0v g_own_rows (hr.mono (by decide)) (a0c (d0w (b0j K) (pv 0) a0r (fun _ _=>rfl)) a0f)) a0f))))),(a0u (a0q (a0a a0b (a0a (a0q (a0a (a0m c0l a0b a0p) a0d)) a0d))))⟩) ?_
 rintro ss q ⟨N,rfl,hix,hz,hq⟩
 refine⟨rfl,rfl,?_⟩
 refine k0u rfl rfl ⟨rfl,N.m,rfl,by omega,rfl,N,a0y N.m,rfl,?_,?_,hq⟩
 ·rw[i0f];exact hix
 ·rw[i0f];exact hz
theorem o0q (dn:DefN K mg "first_alike" f0r ["rows"])(B:BI mg):OkN P w K mg base 1 "first_alike" ["rows"] (spA K d1s):=by
 refine dn.aok2 (k:=0) e0d (fun j=>j==0) [.un,.un,.un,.un] d1s rfl (fun f cdv A outer s H E hr=>have hu:=e0e hr;⟨_,(a0h (c0k (i:=1) e0d.nd rfl (by first | exact Or.inl rfl | exact Or.inr rfl) e1x)
  (a0h (c0k (i:=2) e0d.nd rfl (by first | exact Or.inl rfl | exact Or.inr rfl) (k0j a0f))
  (a0h (h0t bR rfl (j0s K rfl B.enumerate_ (a0c (pv 0) a0f)) (c0s K (n:=2) rfl (a0o (a0n (i:=3) e0d.nd rfl (by first | exact Or.inl rfl | exact Or.inr rfl)) (a0o (a0n (i:=4) e0d.nd rfl (by first | exact Or.inl rfl | exact Or.inr rfl)) c0r)))
  (a0l (i0d (k0k K b7 cu cq f0y (pv 2) (a0c (e1w (pv 1) (pv 4) (pv 3) ⟨rfl,rfl,rfl,rfl⟩) a0f)))))
  (a0l (b0f (pv 2)))))),(a0k (c0b e1c rfl)
  (a0k (c0b (g0z a0d) rfl)
  (a0k (f0n (pin:=(fun j=>j==0)) (f0v (a0a a0b a0d)) (b0s (a0j (a0i rfl) (a0j (a0i rfl) b0i (fun _ _ _=>a0w)) (fun _ _ _=>a0w)))
  (g0c (j0p a0b (a0a (z0z a0b a0b a0b) a0d))))
  (a0u a0b))))⟩) ?_
 rintro ss q ⟨R,rfl,hz,hq⟩
 refine⟨rfl,rfl,?_⟩
 refine⟨by simp,?_⟩
 refine f0t (fun k ρ=>k<=R.length/\∃kvs s3 s4,ρ=[.vl (.lst (a0e R)),.dk kvs,.ow (a0e ((stN R).take k)),s3,s4]/\metD R k kvs/\kvs.length<=k) (fun _ _ _ _=>trivial) ?_ ?_ _ ⟨bg _,[],.un,.un,rfl,fun r=>by simp[valD],aE _⟩
 ·rintro k d _ M hk ⟨_,kvs,s3,s4,rfl,hm,hkl⟩ hM
  obtain⟨x,ex,rfl⟩:=d0t hk
  rw[aM]at ex
  obtain⟨r,er,rfl⟩:=aY.mp ex
  have lt:k<R.length:=(aI.mp er).1
  have er':R.getD k 0=r:=by rw[aF,er];rfl
  have ef:fst1 R k=R.idxOf r:=by unfold fst1;rw[er']
  have et:R.take (k+1)=R.take k++[r]:=by rw[b8,er];rfl
  have es:(stN R).take (k+1)=(stN R).take k++[R.idxOf r]:=by
   rw[b8]
   congr 1
   have:(stN R)[k]? = some (fst1 R k):=by simp[stN,lt]
   rw[this,ef];rfl
  have hsl:(a0e ((stN R).take k)).length<=1000:=by rw[g0v,bi,h0c];omega
  rw[ck]
  refine n1q ?_
  refine f1q (k:=.inl (r:Int)) rfl (by omega) (fun x hx=>?_) fun hx=>?_
  ·have h1:=hm r
   rw[hx]at h1
   by_cases hr:r∈R.take k
   ·rw[if_pos hr]at h1
    cases h1
    refine⟨by omega,hM _ ⟨by omega,kvs,nv k,nv r,?_,fun r'=>?_,by omega⟩⟩
    ·rw[es,e0k];rfl
    ·rw[hm r',et]
     by_cases e:r'=r
     ·subst e;rw[if_pos hr,if_pos (bj _ hr)]
     ·congr 1
      simp[e]
   ·rw[if_neg hr]at h1;cases h1
  ·have h1:=hm r
   rw[hx]at h1
   by_cases hr:r∈R.take k
   ·rw[if_pos hr]at h1;cases h1
   ·have ei:R.idxOf r=k:=by
     have l1:R.idxOf r<=k:=by rw[<- ef];exact c1p lt
     rcases bf (R.idxOf r) k with q | q
     ·exfalso
      refine hr ?_
      have g:=f1s (R:=R) (t:=k) lt
      rw[ef,er',v0l (by omega)]at g
      exact List.mem_iff_getElem.mpr ⟨R.idxOf r,by rw[bi];omega,by rw[iC];exact g⟩
     ·omega
    refine⟨by omega,hM _ ⟨by omega,putD kvs (.inl (r:Int)) (nD k),nv k,nv r,?_,fun r'=>?_,?_⟩⟩
    ·rw[es,e0k,ei];rfl
    ·rw[w0i,et]
     by_cases e:r'=r
     ·subst e
      rw[if_pos rfl,if_pos (by simp),ei]
     ·have ne:¬(Sum.inl (r':Int):Key) = .inl (r:Int):=fun z=>e (by injection z with z;omega)
      rw[if_neg ne,hm r']
      congr 1
      simp[e]
    ·have:=j0b kvs (.inl (r:Int)) (nD k);omega
 ·rintro _ ⟨_,kvs,s3,s4,rfl,hm,hkl⟩
  have e:(f0j 0 (a0e R)).length=R.length:=by rw[c0n,g0v]
  rw[e,bS (by rw[h0c];exact aE _)]
  exact hq
theorem u0p (dn:DefN K mg "leant_on" g0q ["net", "stands"])(B:BI mg):OkN P w K mg base 1 "leant_on" ["net", "stands"] (spA K d1p):=by
 refine dn.aok2 (k:=0) d0q (fun j=>j==0||j==1) [.un,.un,.un,.un,.un,.un,.un] d1p rfl (fun f cdv A outer s H E hr=>have hu:=e0e hr;⟨_,(a0h (j0k (pv 0) (c0s K (n:=3) rfl (a0o (a0n (i:=2) d0q.nd rfl (by first | exact Or.inl rfl | exact Or.inr rfl)) (a0o (a0n (i:=3) d0q.nd rfl (by first | exact Or.inl rfl | exact Or.inr rfl)) (a0o (a0n (i:=4) d0q.nd rfl (by first | exact Or.inl rfl | exact Or.inr rfl)) c0r)))))
  (a0h (w0v (i:=5) ["out"] [1] d0q.nd rfl (by first | exact Or.inl rfl | exact Or.inr rfl) rfl (Blk.of (a0g g0q) n0q) (e0r K (pv 4)) (fun _ _ _ _ nd=>(a0n (i:=0) nd rfl (by first | exact Or.inl rfl | exact Or.inr rfl))) (fun _ _ _ _=>f0w) (fun _ _ _ _=>(d0w (b0j K) (pv 1) (pv 0) (fun _ _=>rfl))) (fun _ _ _ _=>e0u))
  (a0h (h0t bR rfl (l1q K rfl B.reversed_ (a0c (l1u K rfl rfl B.list_ rfl B.enumerate_ (a0c (pv 3) a0f)) a0f)) (c0s K (n:=2) rfl (a0o (a0n (i:=6) d0q.nd rfl (by first | exact Or.inl rfl | exact Or.inr rfl)) (a0o (c0s K (n:=2) rfl (a0o (a0n (i:=7) d0q.nd rfl (by first | exact Or.inl rfl | exact Or.inr rfl)) (a0o (a0n (i:=8) d0q.nd rfl (by first | exact Or.inl rfl | exact Or.inr rfl)) c0r))) c0r)))
  (a0l (f0h (w0u (g1r hu (c0i g0e (pv 2) (pv 6)) (pv 5)))
  (a0h (n0g hu (pv 5) (d0w (b0j K) (pv 1) (pv 7) (fun _ _=>rfl)) e0u rfl)
  (a0l (n0g hu (pv 5) (d0w (b0j K) (pv 1) (pv 8) (fun _ _=>rfl)) e0u rfl)))
  c0e)))
  (a0l (b0f (pv 5)))))),(a0k (g0f a0b (b0s (a0j (a0i rfl) (a0j (a0i rfl) (a0j (a0i rfl) b0i (fun _ _ _=>a0w)) (fun _ _ _=>a0w)) (fun _ _ _=>a0w))))
  (a0k (r0x (m0z (d0j a0b) (a0i rfl) e0l (a0m c0l a0b a0b) c0y) rfl)
  (a0k (f0n (pin:=(fun _=>false)) (e1d (a0a (h1o (a0a a0b a0d)) a0d)) (b0s (a0j (a0i rfl) (a0j (b0s (a0j (a0i rfl) (a0j (a0i rfl) b0i (fun _ _ _=>a0w)) (fun _ _ _=>a0w))) b0i (fun _ _ _=>g1z)) (fun _ _ _=>a0w)))
  (d0o (b0h (a1a (a0m d0c a0b a0b) a0b))
  (a0k (w0o c0y a0b (a0m c0l a0b a0b))
  (w0o c0y a0b (a0m c0l a0b a0b)))
  b0t))
  (a0u a0b))))⟩) ?_
 rintro ss q ⟨N,rfl,hN,hq⟩
 have Rw:=g1m hN
 have hl:(d0i N).length=N.m+N.js.length:=q0k N
 have jl:=hN.jl
 have m12:=hN.m12
 have o24:=hN.o24
 refine⟨rfl,rfl,?_⟩
 refine cutS (fun ρ=>ρ=[.vl (netD N),.ow (a0e (stN (d0i N))),nv N.m,.vl (.tup (N.js.map L2.d0n)),.vl (.tup (a0e N.os)),.un,.un,.un,.un]) (fun M hM=>hM _ rfl) ?_
 rintro _ rfl
 refine cutS (fun ρ=>∃kvs,ρ=[.vl (netD N),.ow (a0e (stN (d0i N))),nv N.m,.vl (.tup (N.js.map L2.d0n)),.vl (.tup (a0e N.os)),.dk kvs,.un,.un,.un]/\v0i (fun t=>(N.os.map (fT N)).contains t) kvs/\kvs.length<=24) (fun M hM=>?_) ?_
 ·refine⟨by rw[g0v];omega,?_⟩
  refine l0s (fun k acc ρ=>ρ=[.vl (netD N),.ow (a0e (stN (d0i N))),nv N.m,.vl (.tup (N.js.map L2.d0n)),.vl (.tup (a0e N.os)),.un,.un,.un,.un]/\v0i (fun t=>((N.os.take k).map (fT N)).contains t) acc/\acc.length<=k) (fun _ _ _ _ _=>trivial) ?_ ?_ _ ⟨rfl,fun t=>by simp[valD],aE _⟩
  ·rintro k d acc _ M2 hk ⟨rfl,hka,hla⟩ hM2
   rw[aM]at hk
   obtain⟨o,eo,rfl⟩:=aY.mp hk
   have ho:=hN.os o (bz eo)
   refine c0j rfl (by rw[h0c];omega) (hM2 _ _ ⟨rfl,?_,?_⟩)
   ·rw[k0c (by omega)]
    have:=q0s hka (fst1 (d0i N) o) (.bl true)
    intro t
    rw[this t,b8,eo,d5,bp,aT,cS]
    rw[cO]
    simp[fT]
   ·have:=j0b acc (.inl (((stN (d0i N)).getD o 0:Nat):Int)) (.bl true);omega
  ·rintro acc _ ⟨rfl,hka,hla⟩
   rw[g0v]at hka hla
   rw[cj]at hka
   exact hM _ ⟨acc,rfl,hka,by omega⟩
 rintro _ ⟨kvs,rfl,hk0,hl0⟩
 refine f0t (fun k ρ=>k<=N.js.length/\∃kvs s6 s7 s8,ρ=[.vl (netD N),.ow (a0e (stN (d0i N))),nv N.m,.vl (.tup (N.js.map L2.d0n)),.vl (.tup (a0e N.os)),.dk kvs,s6,s7,s8]/\v0i (v0f N.m (fT N) (N.js.drop (N.js.length - k)) (N.js.length - k) fun t=>(N.os.map (fT N)).contains t) kvs/\kvs.length<=24+2*k) (fun _ _ _ _=>trivial) ?_ ?_ _ ⟨bg _,kvs,.un,.un,.un,rfl,?_,by omega⟩
 ·rintro k d _ M hk ⟨_,kvs,s6,s7,s8,rfl,hka,hla⟩ hM
  have lk:k<N.js.length:=by
   have:=(aI.mp hk).1
   rwa [fg,c0n,aw]at this
  rw[j9 (by rw[c0n,aw];exact lk),c0n,aw]at hk
  obtain⟨x,ex,rfl⟩:=d0t hk
  rw[aM]at ex
  obtain⟨p,ep,rfl⟩:=aY.mp ex
  obtain⟨a1,a2,a3⟩:=j1e Rw ep
  rw[ck]
  have ed:N.js.drop (N.js.length - (k+1))=p::N.js.drop (N.js.length - k):=by
   rw[show N.js.length - (k+1)=N.js.length - 1 - k by omega,br (by omega),show N.js.length - 1 - k+1=N.js.length - k by omega]
   congr 1
   exact(aI.mp ep).2
  have ek:N.js.length - (k+1)+1=N.js.length - k:=by omega
  refine a1c (d2:=nD p.1) (d3:=nD p.2) ?_
  show aIfS _ _ _ _ [.vl (netD N),.ow (a0e (stN (d0i N))),nv N.m,.vl (.tup (N.js.map L2.d0n)),.vl (.tup (a0e N.os)),.dk kvs,nv (N.js.length - 1 - k),nv p.1,nv p.2]
  have ht:=hka (N.m+(N.js.length - (k+1)))
  have ec:((N.m:Int)+((N.js.length - 1 - k:Nat):Int))=((N.m+(N.js.length - (k+1)):Nat):Int):=by omega
  refine ite2 (fun h=>?_) fun h=>?_
  ·have h':(valD kvs (.inl ((N.m:Int)+((N.js.length - 1 - k:Nat):Int)))).isSome=true:=h
   rw[ec,ht]at h'
   refine c0j rfl (by rw[h0c];omega) ⟨by omega,?_⟩
   refine c0j rfl (by rw[h0c];omega) ⟨?_,hM _ ⟨by omega,_,nv (N.js.length - 1 - k),nv p.1,nv p.2,rfl,?_,?_⟩⟩
   ·have:=j0b kvs (.inl (((stN (d0i N)).getD p.1 0:Nat):Int)) (.bl true);omega
   ·rw[k0c (by omega),k0c (by omega)]
    have:=q0s (q0s hka (fst1 (d0i N) p.1) (.bl true)) (fst1 (d0i N) p.2) (.bl true)
    intro t
    rw[this t,ed,s0q,ek,h']
    simp only[g8,Bool.or_assoc]
    rfl
   ·have h1:=j0b kvs (.inl (((stN (d0i N)).getD p.1 0:Nat):Int)) (.bl true)
    have h2:=j0b (putD kvs (.inl (((stN (d0i N)).getD p.1 0:Nat):Int)) (.bl true)) (.inl (((stN (d0i N)).getD p.2 0:Nat):Int)) (.bl true)
    omega
  ·have h':¬(valD kvs (.inl ((N.m:Int)+((N.js.length - 1 - k:Nat):Int)))).isSome=true:=h
   rw[ec,ht]at h'
   refine hM _ ⟨by omega,kvs,nv (N.js.length - 1 - k),nv p.1,nv p.2,rfl,fun t=>?_,by omega⟩
   rw[hka t,ed,s0q,ek,c8 _ |>.mp h',gH,g9]
 ·rintro _ ⟨_,kvs,s6,s7,s8,rfl,hka,hla⟩
  have e:((f0j 0 (N.js.map L2.d0n)).reverse).length=N.js.length:=by rw[fg,c0n,aw]
  rw[e,mI,jt]at hka
  exact hq kvs hka
 ·rw[iJ,lm]
  exact hk0
theorem b1n (dn:DefN K mg "tidied" k0f ["net"])(B:BI mg)(g_first_alike:OkN P w K mg base 1 "first_alike" ["rows"] (spA K d1s))(g_leant_on:OkN P w K mg base 1 "leant_on" ["net", "stands"] (spA K d1p))(g_rows_of:OkN P w K mg base 3 "rows_of" ["net"] (spA K w0b))(g_joining:OkN P w K mg base 1 "joining" ["one", "other"] (spA K r0r)):OkN P w K mg base 4 "tidied" ["net"] (spA K STid):=by
 refine dn.aok2 (k:=3) d0p (fun j=>j==0) [.un,.un,.un,.un,.un,.un,.un,.un,.un,.un] STid rfl (fun f cdv A outer s H E hr=>have hu:=e0e hr;⟨_,(a0h (j0k (pv 0) (c0s K (n:=3) rfl (a0o (a0n (i:=1) d0p.nd rfl (by first | exact Or.inl rfl | exact Or.inr rfl)) (a0o (a0n (i:=2) d0p.nd rfl (by first | exact Or.inl rfl | exact Or.inr rfl)) (a0o (a0n (i:=3) d0p.nd rfl (by first | exact Or.inl rfl | exact Or.inr rfl)) c0r)))))
  (a0h (c0k (i:=4) d0p.nd rfl (by first | exact Or.inl rfl | exact Or.inr rfl) (c0v g_first_alike (hr.mono (by decide)) (a0c (c0v g_rows_of (hr.mono (by decide)) (a0c (pv 0) a0f)) a0f)))
  (a0h (c0k (i:=5) d0p.nd rfl (by first | exact Or.inl rfl | exact Or.inr rfl) (c0v g_leant_on (hr.mono (by decide)) (a0c (pv 0) (a0c (pv 4) a0f))))
  (a0h (c0k (i:=6) d0p.nd rfl (by first | exact Or.inl rfl | exact Or.inr rfl) (e0t (z0i rfl) rfl B.list_ v0x (a0c (e0t v0v rfl B.range_ g1a (a0c (pv 1) a0f)) a0f)))
  (a0h (c0k (i:=7) d0p.nd rfl (by first | exact Or.inl rfl | exact Or.inr rfl) (k0j a0f))
  (a0h (h0t bR rfl (e1s K rfl B.enumerate_ (a0c (pv 2) a0f)) (c0s K (n:=2) rfl (a0o (a0n (i:=8) d0p.nd rfl (by first | exact Or.inl rfl | exact Or.inr rfl)) (a0o (c0s K (n:=2) rfl (a0o (a0n (i:=9) d0p.nd rfl (by first | exact Or.inl rfl | exact Or.inr rfl)) (a0o (a0n (i:=10) d0p.nd rfl (by first | exact Or.inl rfl | exact Or.inr rfl)) c0r))) c0r)))
  (a0h (i0d (k0k K b7 cu cq f0y (pv 6) (a0c (c0i g0e (pv 1) (b0m (c0h K) rfl B.len_ f0l (a0c (pv 7) a0f))) a0f)))
  (a0l (f0h (w0u (g1r hu (c0i g0e (pv 1) (pv 8)) (pv 5)))
  (a0l (i0d (k0k K b7 cu cq f0y (pv 7) (a0c (c0v g_joining (hr.mono (by decide)) (a0c (d0w (b0j K) (pv 6) (d0w (b0j K) (pv 4) (pv 9) (fun _ _=>rfl)) (fun _ _=>rfl)) (a0c (d0w (b0j K) (pv 6) (d0w (b0j K) (pv 4) (pv 10) (fun _ _=>rfl)) (fun _ _=>rfl)) a0f))) a0f))))
  c0e))))
  (a0l (b0f (d0e (a0c (pv 1) (a0c (e0t (e0z K) rfl B.tuple_ h0n (a0c (pv 7) a0f)) (a0c (e0t (e0z K) rfl B.tuple_ h0n (a0c (n0i ["out"] [6,4] rfl (Blk.of (a0g k0f) s0j) (e0r K (pv 3)) (fun _ _ _ _ nd=>(a0n (i:=0) nd rfl (by first | exact Or.inl rfl | exact Or.inr rfl))) (fun _ _ _ _=>f0w) (fun _ _ _ _=>(d0w (b0j K) (pv 1) (d0w (b0j K) (pv 2) (pv 0) (fun _ _=>rfl)) (fun _ _=>rfl)))) a0f)) a0f)))))))))))),(a0k (g0f a0b (b0s (a0j (a0i rfl) (a0j (a0i rfl) (a0j (a0i rfl) b0i (fun _ _ _=>a0w)) (fun _ _ _=>a0w)) (fun _ _ _=>a0w))))
  (a0k (c0b (a0q (a0a (a0q (a0a a0b a0d)) a0d)) rfl)
  (a0k (c0b (a0q (a0a a0b (a0a a0b a0d))) rfl)
  (a0k (c0b (e1b a0b) rfl)
  (a0k (c0b (g0z a0d) rfl)
  (a0k (f0n (pin:=(fun j=>j==2)) (y0e (a0a a0b a0d)) (b0s (a0j (a0i rfl) (a0j (b0s (a0j (a0i rfl) (a0j (a0i rfl) b0i (fun _ _ _=>a0w)) (fun _ _ _=>a0w))) b0i (fun _ _ _=>g1z)) (fun _ _ _=>a0w)))
  (a0k (g0c (j0p a0b (a0a (a0m d0c a0b (c0t d0m (a0a a0b a0d))) a0d)))
  (d0o (b0h (a1a (a0m d0c a0b a0b) a0b))
  (g0c (j0p a0b (a0a (a0q (a0a (a0m c0l a0b (a0m c0l a0b a0b)) (a0a (a0m c0l a0b (a0m c0l a0b a0b)) a0d))) a0d)))
  b0t)))
  (a0u (c0d (a0a a0b (a0a (c0t f0u (a0a a0b a0d)) (a0a (c0t f0u (a0a (h0a (d0j a0b) (a0i rfl) e0l (a0m c0l a0b (a0m c0l a0b a0b))) a0d)) a0d)))))))))))⟩) ?_
 rintro ss q ⟨N,rfl,hN,hq⟩
 have Rw:=g1m hN
 have hl:(d0i N).length=N.m+N.js.length:=q0k N
 have jl:=hN.jl
 have m12:=hN.m12
 have o24:=hN.o24
 refine⟨rfl,rfl,?_⟩
 refine cutS (fun ρ=>ρ=[.vl (netD N),nv N.m,.vl (.tup (N.js.map L2.d0n)),.vl (.tup (a0e N.os)),.un,.un,.un,.un,.un,.un,.un]) (fun M hM=>hM _ rfl) ?_
 rintro _ rfl
 refine cutS (fun ρ=>ρ=[.vl (netD N),nv N.m,.vl (.tup (N.js.map L2.d0n)),.vl (.tup (a0e N.os)),.ow (a0e (stN (d0i N))),.un,.un,.un,.un,.un,.un]) (fun M hM=>⟨rfl,N,rfl,Rw.ix,by omega,rfl,d0i N,rfl,by omega,hM _ rfl⟩) ?_
 rintro _ rfl
 refine cutS (fun ρ=>∃kvs,ρ=[.vl (netD N),nv N.m,.vl (.tup (N.js.map L2.d0n)),.vl (.tup (a0e N.os)),.ow (a0e (stN (d0i N))),.dk kvs,.un,.un,.un,.un,.un]/\v0i (m0g N) kvs) (fun M hM=>⟨rfl,N,rfl,hN,fun kvs hk=>hM _ ⟨kvs,rfl,hk⟩⟩) ?_
 rintro _ ⟨kvs,rfl,hk⟩
 refine cutS (fun ρ=>ρ=[.vl (netD N),nv N.m,.vl (.tup (N.js.map L2.d0n)),.vl (.tup (a0e N.os)),.ow (a0e (stN (d0i N))),.dk kvs,.ow (a0e (aQ N.m)),.un,.un,.un,.un]) (fun M hM=>⟨⟨by omega,by omega⟩,hM _ (by rw[cL];rfl)⟩) ?_
 rintro _ rfl
 refine cutS (fun ρ=>ρ=[.vl (netD N),nv N.m,.vl (.tup (N.js.map L2.d0n)),.vl (.tup (a0e N.os)),.ow (a0e (stN (d0i N))),.dk kvs,.ow (a0e (aQ N.m)),.ow [],.un,.un,.un]) (fun M hM=>⟨by simp,hM _ rfl⟩) ?_
 rintro _ rfl
 refine cutS (fun ρ=>∃s8 s9 s10,ρ=[.vl (netD N),nv N.m,.vl (.tup (N.js.map L2.d0n)),.vl (.tup (a0e N.os)),.ow (a0e (stN (d0i N))),.dk kvs,.ow (a0e ((aQ (N.m+N.js.length)).map (nT N))),.ow ((tidN N).js.map L2.d0n),s8,s9,s10]) (fun M hM=>?_) ?_
 ·refine f0t (fun k ρ=>k<=N.js.length/\∃s8 s9 s10,ρ=[.vl (netD N),nv N.m,.vl (.tup (N.js.map L2.d0n)),.vl (.tup (a0e N.os)),.ow (a0e (stN (d0i N))),.dk kvs,.ow (a0e ((aQ (N.m+k)).map (nT N))),.ow ((o0u N.m (fT N) (m0g N) N.js k).map L2.d0n),s8,s9,s10]) (fun _ _ _ _=>trivial) ?_ ?_ _ ⟨bg _,.un,.un,.un,?_⟩
  ·rintro k d _ M2 hk' ⟨_,s8,s9,s10,rfl⟩ hM2
   obtain⟨x,ex,rfl⟩:=d0t hk'
   rw[aM]at ex
   obtain⟨p,ep,rfl⟩:=aY.mp ex
   obtain⟨a1,a2,a3⟩:=j1e Rw ep
   obtain⟨f1,f2⟩:=f_lt Rw ep
   rw[ck]
   have enk:nT N (N.m+k)=N.m+nkT N.m (m0g N) k:=by unfold nT nbT;rw[if_neg (by omega)];congr 2;omega
   have ers:(aQ (N.m+(k+1))).map (nT N)=(aQ (N.m+k)).map (nT N)++[nT N (N.m+k)]:=by
    rw[<- mv,cY,bp];rfl
   have eln:(N.m:Int)+(((o0u N.m (fT N) (m0g N) N.js k).map L2.d0n).length:Int)=((nT N (N.m+k):Nat):Int):=by
    rw[aw,x0i,enk];omega
   have ejs:N.js.getD k (0,0)=p:=by rw[aF,ep];rfl
   have nkl:=n1z (m:=N.m) (L:=m0g N) k
   refine a1c (d2:=nD p.1) (d3:=nD p.2) ?_
   show aSeq _ _ _ [.vl (netD N),nv N.m,.vl (.tup (N.js.map L2.d0n)),.vl (.tup (a0e N.os)),.ow (a0e (stN (d0i N))),.dk kvs,.ow (a0e ((aQ (N.m+k)).map (nT N))),.ow ((o0u N.m (fT N) (m0g N) N.js k).map L2.d0n),nv k,nv p.1,nv p.2]
   refine cutS (fun ρ=>ρ=[.vl (netD N),nv N.m,.vl (.tup (N.js.map L2.d0n)),.vl (.tup (a0e N.os)),.ow (a0e (stN (d0i N))),.dk kvs,.ow (a0e ((aQ (N.m+(k+1))).map (nT N))),.ow ((o0u N.m (fT N) (m0g N) N.js k).map L2.d0n),nv k,nv p.1,nv p.2]) (fun M3 hM3=>⟨?_,hM3 _ ?_⟩) ?_
   ·rw[g0v,aw,cK];omega
   ·rw[ers,e0k,show nD (nT N (N.m+k))=D.int ((N.m:Int)+(((o0u N.m (fT N) (m0g N) N.js k).map L2.d0n).length:Int))from congrArg D.int eln.symm];rfl
   rintro _ rfl
   have ec:((N.m:Int)+(k:Int))=((N.m+k:Nat):Int):=by omega
   have ht:=hk (N.m+k)
   have gat:∀t,t<N.m+k->((aQ (N.m+(k+1))).map (nT N)).getD t 0=nT N t:=fun t h=>by
    rw[v0l (by simp;omega)];simp
   have glen:((aQ (N.m+(k+1))).map (nT N)).length=N.m+(k+1):=by simp
   refine ite2 (fun h=>?_) fun h=>?_
   ·have h':(valD kvs (.inl ((N.m:Int)+(k:Int)))).isSome=true:=h
    rw[ec,ht]at h'
    refine c0j rfl (by rw[h0c];omega) ?_
    refine c0j rfl (by rw[k0c (by omega),glen];show fT N p.1<_;omega) ?_
    refine c0j rfl (by rw[h0c];omega) ?_
    refine c0j rfl (by rw[k0c (by omega),glen];show fT N p.2<_;omega) ?_
    refine⟨rfl,_,_,rfl,by rw[aw,x0i];omega,hM2 _ ⟨by omega,nv k,nv p.1,nv p.2,?_⟩⟩
    rw[k0c (by omega),k0c (by omega)]
    have g1:=gat (fst1 (d0i N) p.1) f1
    have g2:=gat (fst1 (d0i N) p.2) f2
    rw[g1,g2,n0w,if_pos h',ejs,bp]
    rfl
   ·have h':¬(valD kvs (.inl ((N.m:Int)+(k:Int)))).isSome=true:=h
    rw[ec,ht]at h'
    refine hM2 _ ⟨by omega,nv k,nv p.1,nv p.2,?_⟩
    rw[n0w,if_neg h',bq]
  ·rintro _ ⟨_,s8,s9,s10,rfl⟩
   have e:(f0j 0 (N.js.map L2.d0n)).length=N.js.length:=by rw[c0n,aw]
   rw[e]
   exact hM _ ⟨s8,s9,s10,rfl⟩
  ·have e:(aQ (N.m+0)).map (nT N)=aQ N.m:=by
    refine List.ext_getElem (by simp) fun i h1 h2=>?_
    have h3:i<N.m:=by simpa using h2
    simp[nbT,h3]
   rw[e];rfl
 rintro _ ⟨s8,s9,s10,rfl⟩
 refine⟨by rw[g0v];omega,?_⟩
 refine t0i nD (fun o=>nD (nT N (fT N o))) trivial (fun o acc M ho hM=>?_) ?_
 ·have h1:=hN.os o ho
  have h2:=j1q (N:=N) (t:=o) h1
  refine c0j rfl (by rw[h0c];omega) ?_
  refine c0j rfl (by rw[k0c (by omega)];simp;show fT N o<_;omega) ?_
  rw[k0c (by omega)]
  have:((aQ (N.m+N.js.length)).map (nT N)).getD (fst1 (d0i N) o) 0=nT N (fT N o):=by
   rw[v0l (by simp;show fT N o<_;omega)];simp[fT]
  rw[this]
  exact hM
 have e:(N.os.map fun o=>nD (nT N (fT N o)))=a0e (tidN N).os:=by
  show _=a0e (N.os.map _)
  unfold a0e;rw[bI];rfl
 rw[e]
 exact⟨by simp,hq⟩
theorem m0c (dn:DefN K mg "first_joining" d0s ["things", "row", "clean"])(B:BI mg)(g_may_join:OkN P w K mg base 1 "may_join" ["clean", "one", "other"] (spA K SMay))(g_joined:OkN P w K mg base 1 "joined" ["one", "other"] (spA K l0v)):OkN P w K mg base 2 "first_joining" ["things", "row", "clean"] (spA K SFj):=by
 refine dn.aok2 (k:=1) h0s (fun j=>j==0||j==1||j==2) [.un] SFj rfl (fun f cdv A outer s H E hr=>have hu:=e0e hr;⟨_,(a0h (q0p (i:=3) ["a", "one", "b", "other"] [0,1,2] h0s.nd rfl (by first | exact Or.inl rfl | exact Or.inr rfl) rfl (Blk.of (a0g d0s) h0v) (j0s K rfl B.enumerate_ (a0c (pv 0) a0f)) (fun _ _ _ _ nd=>(c0s K (n:=2) rfl (a0o (a0n (i:=2) nd rfl (by first | exact Or.inl rfl | exact Or.inr rfl)) (a0o (a0n (i:=3) nd rfl (by first | exact Or.inl rfl | exact Or.inr rfl)) c0r)))) (fun _ _ _ _=>f0w) (fun _ _ _ _=>(j0s K rfl B.enumerate_ (a0c (f0c (i0u K) (pv 4) g0i (g0h (pv 2))) a0f))) (fun _ _ _ _ nd=>(c0s K (n:=2) rfl (a0o (a0n (i:=0) nd rfl (by first | exact Or.inl rfl | exact Or.inr rfl)) (a0o (a0n (i:=1) nd rfl (by first | exact Or.inl rfl | exact Or.inr rfl)) c0r)))) (fun _ _ _ _=>(j0r (PW.pt (p0f (c0o (g0t K hr.units) (c0v g_joined (hr.mono (by decide)) (a0c (pv 1) (a0c (pv 3) a0f))) (pv 5) (d0d _)) (l0i (k0i (c0v g_may_join (hr.mono (by decide)) (a0c (pv 6) (a0c (pv 1) (a0c (pv 3) a0f)))))))))) (fun _ _ _ _=>(d0e (a0c (pv 0) (a0c (pv 2) a0f)))))
  (a0l (b0f (d0w (b0j K) (pv 3) a0r (fun _ _=>rfl))))),(a0k (n0b (n0a (n2:=2) (f0v (a0a a0b a0d)) (b0s (a0j (a0i rfl) (a0j (a0i rfl) b0i (fun _ _ _=>a0w)) (fun _ _ _=>a0w))) e0l (f0v (a0a (m0y a0b g0y (e0m a0b)) a0d)) (b0s (a0j (a0i rfl) (a0j (a0i rfl) b0i (fun _ _ _=>a0w)) (fun _ _ _=>a0w))) (k0a (b0h (a0m g0u (a0q (a0a a0b (a0a a0b a0d))) a0b)) (j0h (a0q (a0a a0b (a0a a0b (a0a a0b a0d)))))) (c0d (a0a a0b (a0a a0b a0d)))) rfl)
  (a0u (a0m c0l a0b a0p)))⟩) ?_
 rintro ss q ⟨K,r,cl,rfl,hl,hne,hq⟩
 refine⟨rfl,rfl,?_⟩
 have pre:∀i,i<=K.length->(canN cl K r i).length<=63*63:=fun i hi=>by have:=x0u cl K r i (by omega);omega
 refine cutS (fun ρ=>ρ=[.vl (.lst (a0e K)),nv r,.vl (.bl cl),.ow ((canN cl K r K.length).map L2.d0n)]) (fun M hM=>?_) ?_
 ·refine t0g (fun i acc ρ=>acc=(canN cl K r i).map L2.d0n/\i<=K.length/\ρ=[.vl (.lst (a0e K)),nv r,.vl (.bl cl),.un]) (fun i acc ρ _ h=>⟨trivial,by rw[h.1,aw];exact aW (pre i h.2.1) (by decide)⟩) ?_ ?_ _ ⟨rfl,bg _,rfl⟩
  ·rintro i d acc _ N hd ⟨rfl,hil,rfl⟩ hN
   obtain⟨x,hx,rfl⟩:=d0t hd
   rw[a0e,aM]at hx
   obtain⟨b,hb,rfl⟩:=aY.mp hx
   have hi:=(aI.mp hb).1
   have eb:K.getD i 0=b:=by rw[aF,hb];rfl
   rw[ck]
   have ec:f0j 0 (cutD (a0e K) none (some ((i:Nat):Int)))=(aQ i).map fun a=>.tup [nD a,nD (K.getD a 0)]:=by
    rw[f0k,<- p0p K (bW hi)];unfold a0e;rw[d7]
   show j0f 2 (fun _=>True) _ _ _ _ (f0j 0 (cutD (a0e K) none (some ((i:Nat):Int)))) _ [.un,.un,.vl (.int (i:Int)),.vl (.int (b:Int)),.vl (.lst (a0e K)),nv r,.vl (.bl cl)]
   rw[ec]
   refine i0m (fun a=>.tup [nD a,nD (K.getD a 0)]) (fun a=>decide (K.getD a 0 ^^^ b=r)&&mayN cl (K.getD a 0) b) (fun a=>L2.d0n (a,i)) trivial (by rw[aw,cK];have:=pre i hil;omega) (fun a acc N2 ha hN2=>?_) ?_
   ·refine gaT2 ?_
    refine⟨rfl,_,_,rfl,?_⟩
    refine e0a (b:=decide (K.getD a 0 ^^^ b=r)) rfl rfl (show D.depth (.int _)<=60 by simp[D.depth]) (by
     show decide (((K.getD a 0 ^^^ b:Nat):Int)=(r:Int))=_
     rw[decide_eq_decide];omega) ?_
    by_cases h:K.getD a 0 ^^^ b=r
    ·rw[decide_eq_true h,g8]at hN2
     show if decide (K.getD a 0 ^^^ b=r)=true then _ else _
     rw[if_pos (decide_eq_true h)]
     refine⟨rfl,cl,K.getD a 0,b,rfl,?_⟩
     cases hb:mayN cl (K.getD a 0) b with
     | true=>rw[hb]at hN2;exact⟨by simp,hN2⟩
     | false=>rw[hb]at hN2;exact hN2
    ·rw[decide_eq_false h,gH]at hN2
     show if decide (K.getD a 0 ^^^ b=r)=true then _ else _
     rw[if_neg (by rw[decide_eq_true_eq];exact h)]
     exact hN2
   refine hN _ _ ⟨?_,by omega,rfl⟩
   rw[t0k,bp,bI,eb]
   rfl
  ·rintro acc _ ⟨rfl,_,rfl⟩
   have el:(f0j 0 (a0e K)).length=K.length:=by rw[c0n,c0m]
   rw[el]
   exact hM _ rfl
 rintro _ rfl
 have hat:atI ((canN cl K r K.length).map L2.d0n) 0=some (L2.d0n (fjN cl K r)):=f0a (j:=0) (by
  unfold fjN
  rw[aM,aF,ao (fh.mpr hne)];rfl)
 exact m1y rfl hat hq
theorem o0o (dn:DefN K mg "net_of_rows" d0v ["wish", "clean", "known"])(B:BI mg)(g_tidied:OkN P w K mg base 4 "tidied" ["net"] (spA K STid))(g_first_joining:OkN P w K mg base 2 "first_joining" ["things", "row", "clean"] (spA K SFj)):OkN P w K mg base 5 "net_of_rows" ["wish", "clean", "known"] (spA K k1g):=by
 refine dn.aok2 (k:=4) f0b (fun j=>j==0||j==1||j==2) [.un,.un,.un] k1g rfl (fun f cdv A outer s H E hr=>have hu:=e0e hr;⟨_,(a0h (j0k (pv 0) (c0s K (n:=2) rfl (a0o (a0n (i:=3) f0b.nd rfl (by first | exact Or.inl rfl | exact Or.inr rfl)) (a0o (a0n (i:=4) f0b.nd rfl (by first | exact Or.inl rfl | exact Or.inr rfl)) c0r))))
  (a0h (b1b (i:=5) ["at", "row"] [2,1,3] f0b.nd rfl (by first | exact Or.inl rfl | exact Or.inr rfl) rfl (Blk.of (a0g d0v) g0k) (j0s K rfl B.enumerate_ (a0c (pv 2) a0f)) (fun _ _ _ _ nd=>(c0s K (n:=2) rfl (a0o (a0n (i:=0) nd rfl (by first | exact Or.inl rfl | exact Or.inr rfl)) (a0o (a0n (i:=1) nd rfl (by first | exact Or.inl rfl | exact Or.inr rfl)) c0r)))) (fun _ _ _ _=>(j0r (c0o l1z (pv 0) (pv 4) (d0d _)))) (fun _ _ _ _=>(c0v g_first_joining (hr.mono (by decide)) (a0c (f0c (i0u K) (pv 2) g0i (g0h (pv 0))) (a0c (pv 1) (a0c (pv 3) a0f))))))
  (a0l (b0f (c0v g_tidied (hr.mono (by decide)) (a0c (d0e (a0c (pv 3) (a0c (e0t (e0z K) rfl B.tuple_ h0n (a0c (pv 5) a0f)) (a0c (e0t (e0z K) rfl B.tuple_ h0n (a0c (n0i ["row"] [2] rfl (Blk.of (a0g d0v) g0k) (e0r K (pv 4)) (fun _ _ _ _ nd=>(a0n (i:=0) nd rfl (by first | exact Or.inl rfl | exact Or.inr rfl))) (fun _ _ _ _=>f0w) (fun _ _ _ _=>(k0k K b7 jn PySem.F.type_list_index (f1g K) (pv 1) (a0c (pv 0) a0f)))) a0f)) a0f)))) a0f)))))),(a0k (g0f a0b (b0s (a0j (a0i rfl) (a0j (a0i rfl) b0i (fun _ _ _=>a0w)) (fun _ _ _=>a0w))))
  (a0k (w0n (h0a (f0v (a0a a0b a0d)) (b0s (a0j (a0i rfl) (a0j (a0i rfl) b0i (fun _ _ _=>a0w)) (fun _ _ _=>a0w))) (b0h (a0m f0x a0b a0b)) (a0q (a0a (m0y a0b g0y (e0m a0b)) (a0a a0b (a0a a0b a0d))))) rfl)
  (a0u (a0q (a0a (c0d (a0a a0b (a0a (c0t f0u (a0a a0b a0d)) (a0a (c0t f0u (a0a (h0a (d0j a0b) (a0i rfl) e0l (h1p a0b (a0a a0b a0d))) a0d)) a0d)))) a0d)))))⟩) ?_
 rintro ss q ⟨m,cl,L,W,rfl,hF,hq⟩
 have hFl:=hF.l
 refine⟨rfl,rfl,?_⟩
 refine cutS (fun ρ=>ρ=[.vl (j0y m W),.vl (.bl cl),.vl (.lst (a0e L)),nv m,.vl (.tup (a0e W)),.un]) (fun M hM=>hM _ rfl) ?_
 rintro _ rfl
 refine cutS (fun ρ=>ρ=[.vl (j0y m W),.vl (.bl cl),.vl (.lst (a0e L)),nv m,.vl (.tup (a0e W)),.ow ((j0v m cl L W).js.map L2.d0n)]) (fun M hM=>?_) ?_
 ·refine⟨by rw[c0n,c0m];omega,?_⟩
  have ee:f0j 0 (a0e L)=(aQ L.length).map fun a=>.tup [nD a,nD (L.getD a 0)]:=by
   have:=p0p L (aE _)
   rwa [cj]at this
  rw[ee]
  refine t0j (fun a=>.tup [nD a,nD (L.getD a 0)]) (fun a=>decide (m<=a)) (fun a=>L2.d0n (fjN cl (L.take a) (L.getD a 0))) trivial (fun a acc N ha hN=>?_) ?_
  ·have go:decide (((m:Nat):Int)<=((a:Nat):Int))=decide (m<=a):=by rw[decide_eq_decide];omega
   show if decide (((m:Nat):Int)<=((a:Nat):Int))=true then _ else _
   rw[go]
   by_cases h:m<=a
   ·rw[if_pos (decide_eq_true h)]
    rw[if_pos (decide_eq_true h)]at hN
    have ec:cutD (a0e L) none (some ((a:Nat):Int))=a0e (L.take a):=by rw[f0k];unfold a0e;rw[d7]
    refine⟨rfl,L.take a,L.getD a 0,cl,by rw[<- ec];rfl,by rw[bi];omega,d1h (hF.nx a h (bv.mp ha)),hN⟩
   ·rw[if_neg (by rw[decide_eq_true_eq];exact h)]
    rw[if_neg (by rw[decide_eq_true_eq];exact h)]at hN
    exact hN
  ·rw[x0p,bI]
   have e2:(j0v m cl L W).js.map L2.d0n=(aQ (L.length - m)).map ((fun a=>L2.d0n (fjN cl (L.take a) (L.getD a 0))) ∘ (m + ·)):=by
    unfold j0v
    rw[bI];rfl
   rw[<- e2]
   exact hM _ rfl
 rintro _ rfl
 have hW:=hF.w24
 refine⟨by rw[c0m];omega,?_⟩
 refine t0i nD (fun r=>nD (L.idxOf r)) trivial (fun r acc N hr hN=>?_) ?_
 ·have e1:a0e L=(L.map fun x=>((x:Nat):Int)).map D.int:=by unfold a0e;rw[bI];rfl
  have hi:=jj (hF.w r hr)
  have gi:∀ {q:Nat->Prop},q (L.idxOf r)->gIdx (a0e L) ((r:Nat):Int) q:=fun{q} hq=>by
   rw[e1]
   refine j1l (j:=L.idxOf r) ?_ (by omega) (fun k hk z=>?_) hq
   ·rw[aM,ao hi,kR];rfl
   ·rw[aM,ao (show k<L.length by omega)]at z
    injection z with z
    have z:=fW.mp z
    exact g1x hk (by rw[ao (show k<L.length by omega),z])
  exact gi ⟨rfl,hN⟩
 ·refine⟨show 3<=1000000 by decide,?_⟩
  have eo:(W.map fun r=>nD (L.idxOf r))=a0e (W.map L.idxOf):=by unfold a0e;rw[bI];rfl
  rw[eo]
  exact⟨rfl,j0v m cl L W,rfl,b1u hF,hq⟩
end
theorem c1j {f:Nat->List Nat->List Nat ⊕ D}{sh t:List Nat}:∀ {rest done:List Nat} {acc:List D},goN f sh done rest acc = .inl t->∃r∈rest,∃s,f r s = .inl t
 | [],done,acc,h=>by cases h
 | r::rest,done,acc,h=>by
  unfold goN at h
  cases e:f r (sh++done)with
  | inl u =>
   rw[e]at h
   exact⟨r,aX,_,e.trans h⟩
  | inr p =>
   rw[e]at h
   obtain⟨r',h1,h2⟩:=c1j h
   exact⟨r',aZ _ h1,h2⟩
theorem c1i {f:Nat->List Nat->List Nat ⊕ D}{sh:List Nat}{p:D}:∀ {rest done:List Nat} {acc:List D},goN f sh done rest acc = .inr p->∃ps,p = .tup [.str "next",.tup (acc++ps)]/\ps.length=rest.length/\∀i,i<rest.length->f (rest.getD i 0) (sh++(done++rest.take i)) = .inr (ps.getD i .non)
 | [],done,acc,h=>by
  injection h with h
  exact⟨[],by rw[bq];exact h.symm,rfl,fun i hi=>absurd hi (jh i)⟩
 | r::rest,done,acc,h=>by
  unfold goN at h
  cases e:f r (sh++done)with
  | inl u=>rw[e]at h;cases h
  | inr d =>
   rw[e]at h
   obtain⟨ps,h1,h2,h3⟩:=c1i h
   refine⟨d::ps,by rw[h1,bG];rfl,by rw[aS,h2];rfl,fun i hi=>?_⟩
   cases i with
   | zero =>
    show f r (sh++(done++[]))=_
    rw[bq];exact e
   | succ i =>
    have:=h3 i (by rw[aS]at hi;omega)
    rw[bG]at this
    exact this
theorem i1x {r:Nat}{x:List Nat ⊕ D}{t:List Nat}(h:mkM r x = .inl t):x = .inl t:=by
 cases x with
 | inl u=>exact h
 | inr p=>cases h
theorem i1w {r:Nat}{x:List Nat ⊕ D}{d:D}(h:mkM r x = .inr d):∃p,x = .inr p/\d = .tup [.str "made",nD r,p]:=by
 cases x with
 | inl u=>cases h
 | inr p=>injection h with h;exact⟨p,rfl,h.symm⟩
theorem q0r {W K:List Nat}(hw:∀r∈W,1<=r/\r<64):b0g W K=[]↔∀r∈W,r∈K:=by
 rw[List.eq_nil_iff_forall_not_mem]
 constructor
 ·intro h r hr
  exact Classical.byContradiction fun z=>h r ((e0x hw).mpr ⟨hr,z⟩)
 ·intro h r hr
  obtain⟨a,b⟩:=(e0x hw).mp hr
  exact b (h r a)
structure Ext (cl:Bool)(kn t:List Nat):Prop where
 nd:(kn++t).Nodup
 nx:∀i,i<t.length->h0k cl (kn++t.take i) (t.getD i 0)=true
theorem Ext.nil {cl:Bool}{kn:List Nat}(h:kn.Nodup):Ext cl kn []:=⟨by rw[bq];exact h,fun i hi=>absurd hi (jh i)⟩
theorem Ext.cons {cl:Bool}{kn t:List Nat}{r:Nat}(h:h0k cl kn r=true)(e:Ext cl (kn++[r]) t):Ext cl kn (r::t):=by
 refine⟨by have:=e.nd;rwa [bG]at this,fun i hi=>?_⟩
 cases i with
 | zero=>show h0k cl (kn++[]) r=true;rw[bq];exact h
 | succ i =>
  have:=e.nx i (by rw[aS]at hi;omega)
  rw[bG]at this
  exact this
theorem Ext.uncons {cl:Bool}{kn t:List Nat}{r:Nat}(e:Ext cl kn (r::t)):h0k cl kn r=true/\r∉kn/\Ext cl (kn++[r]) t:=by
 have h0:=e.nx 0 (by simp)
 rw[lQ,bq]at h0
 have nd:=e.nd
 refine⟨h0,fun z=>?_,?_,fun i hi=>?_⟩
 ·exact(dL.mp nd).2.2 r z r aX rfl
 ·rwa [bG]
 ·have:=e.nx (i+1) (by rw[aS];omega)
  rw[bG]
  exact this
theorem q0e {kn:List Nat}{r:Nat}(hk:∀r∈kn,1<=r/\r<64)(h:1<=r/\r<64):∀x∈kn++[r],1<=x/\x<64:=fun x hx=>(a7.mp hx).elim (hk x) fun z=>by rw[aL.mp z];exact h
theorem a1s {kn:List Nat}{r:Nat}(nd:kn.Nodup)(h:r∉kn):(kn++[r]).Nodup:=dL.mpr ⟨nd,by simp,fun a ha b hb e=>h (by rw[aL.mp hb]at e;exact e▸ha)⟩
theorem g1l {W:List Nat}{cl:Bool}(hw:∀r∈W,1<=r/\r<64):∀ {lf:Nat} {kn sh L:List Nat},(∀r∈kn,1<=r/\r<64)->kn.Nodup->srN W cl lf kn sh = .inl L->∃t,L=kn++t/\t.length<=lf/\Ext cl kn t/\∀r∈W,r∈L
 | 0,kn,sh,L,hk,nd,h=>by
  unfold srN at h
  split at h
  ·rename_i h0
   injection h with h
   subst h
   exact⟨[],(bq _).symm,aE _,.nil nd,(q0r hw).mp h0⟩
  ·cases h
 | l+1,kn,sh,L,hk,nd,h=>by
  have step:∀r s,h0k cl kn r=true->r∉kn->srN W cl l (kn++[r]) s = .inl L->∃t,L=kn++t/\t.length<=l+1/\Ext cl kn t/\∀r∈W,r∈L:=fun r s h1 h2 h3=>by
   obtain⟨t,e,hl,ex,hW⟩:=g1l hw (q0e hk (e0b hk h1)) (a1s nd h2) h3
   exact⟨r::t,by rw[e,bG];rfl,by rw[aS];omega,ex.cons h1,hW⟩
  unfold srN at h
  split at h
  ·rename_i h0
   injection h with h
   subst h
   exact⟨[],(bq _).symm,bg _,.nil nd,(q0r hw).mp h0⟩
  split at h
  ·cases h
  split at h
  ·cases h
  split at h
  ·rename_i r e
   have hr:=i9 e
   have hr:=(c0z hk).mp (aV.mp hr)
   exact step r sh hr.1 hr.2.1 (i1x h)
  ·obtain⟨r,hr,s,e⟩:=c1j h
   have hr:=(c0z hk).mp hr
   exact step r s hr.1 hr.2.1 e
theorem a1m {W:List Nat}{cl:Bool}:∀ {lf:Nat} {kn sh:List Nat} {p:D},(∀r∈kn,1<=r/\r<64)->srN W cl lf kn sh = .inr p->Pap W cl lf kn sh p
 | 0,kn,sh,p,hk,h=>by
  unfold srN at h
  split at h
  ·cases h
  ·rename_i h0
   injection h with h
   unfold Pap
   exact .inl ⟨h.symm,fh.mpr h0⟩
 | l+1,kn,sh,p,hk,h=>by
  unfold srN at h
  unfold Pap
  split at h
  ·cases h
  rename_i h0
  split at h
  ·rename_i h1
   injection h with h
   exact .inl ⟨h.symm,h1⟩
  split at h
  ·rename_i r e
   injection h with h
   exact .inr (.inl ⟨r,h.symm,jB e,i9 (p:=fun r=>farN cl kn (l+1) r) e⟩)
  split at h
  ·rename_i r e
   have hr:=aV.mp (i9 e)
   have hf:=(c0z hk).mp hr
   obtain⟨d,e1,rfl⟩:=i1w h
   exact .inr (.inr (.inl ⟨r,d,rfl,jB e,hr,a1m (q0e hk (e0b hk hf.1)) e1⟩))
  ·obtain⟨ps,rfl,h2,h3⟩:=c1i h
   refine .inr (.inr (.inr ⟨ps,rfl,h0,h2,fun i hi=>?_⟩))
   have hr:(b0n cl kn sh).getD i 0∈b0n cl kn sh:=f0s (by omega)
   have hf:=(c0z hk).mp hr
   exact a1m (q0e hk (e0b hk hf.1)) (h3 i (by omega))
theorem n0r {cl:Bool}{K K':List Nat}{r:Nat}(h:∀x∈K,x∈K')(n:h0k cl K r=true):h0k cl K' r=true:=by
 obtain⟨a,ha,b,hb,z⟩:=e0w.mp n
 exact e0w.mpr ⟨a,h a ha,b,h b hb,z⟩
theorem Ext.perm {cl:Bool}{kn kn' t:List Nat}(p:kn.Perm kn')(e:Ext cl kn t):Ext cl kn' t :=
 ⟨(p.append_right t).nodup_iff.mp e.nd,fun i hi=>n0r (fun x hx=>(p.append_right _).mem_iff.mp hx) (e.nx i hi)⟩
theorem Ext.front {cl:Bool}{r:Nat}:∀ {t kn:List Nat},Ext cl kn t->r∈t->h0k cl kn r=true->Ext cl (kn++[r]) (t.erase r)
 | [],kn,e,h,n=>by cases h
 | x::t,kn,e,h,n=>by
  obtain⟨h1,h2,h3⟩:=e.uncons
  by_cases hx:x=r
  ·subst hx
   rw[List.erase_cons_head];exact h3
  ·rw[List.erase_cons_tail (by simpa using hx)]
   have hr:r∈t:=(aK.mp h).resolve_left fun z=>hx z.symm
   have:=Ext.front h3 hr (n0r (fun x hx=>bj _ hx) n)
   refine Ext.cons (n0r (fun x hx=>bj _ hx) h1) (this.perm ?_)
   rw[bG,bG]
   exact ju kn (List.Perm.swap r x [])
def xorL (l:List Nat):Nat:=l.foldr (· ^^^ ·) 0
structure Lst (cl:Bool)(K l:List Nat)(x:Nat):Prop where
 k:∀p∈l,p∈K
 d:cl=true->l.Pairwise fun a b=>a &&& b=0
 x:xorL l=x
theorem h0p {a b:Nat}:a &&& b=0↔∀i,a.testBit i=true->b.testBit i=false:=by
 constructor
 ·intro h i ha
  have:=congrArg (fun z=>z.testBit i) h
  simp only[ff,iV,ha,g8]at this
  exact this
 ·intro h
  apply gP
  intro i
  rw[ff,iV]
  cases ha:a.testBit i with
  | false=>rfl
  | true=>rw[h i ha];rfl
theorem w0e {p:Nat}:∀ {l:List Nat},(∀q∈l,q &&& p=0)->xorL l &&& p=0
 | [],_=>Nat.zero_and p
 | q::l,h=>by
  have h1:=h0p.mp (h q aX)
  have h2:=h0p.mp (w0e (p:=p) fun q hq=>h q (aZ _ hq))
  refine h0p.mpr fun i hi=>?_
  show p.testBit i=false
  have hi:(q ^^^ xorL l).testBit i=true:=hi
  rw[d_]at hi
  cases hq:q.testBit i with
  | true=>exact h1 i hq
  | false=>rw[hq,Bool.false_xor]at hi;exact h2 i hi
theorem b1w {cl:Bool}{K:List Nat}:∀ {l:List Nat} {x:Nat},Lst cl K l x->Rch cl K l.length x
 | [],x,L=>by rw[<- L.x];exact .nil
 | p::l,x,L=>by
  have ih:Rch cl K l.length (xorL l):=b1w ⟨fun q hq=>L.k q (aZ _ hq),fun hc=>(cR.mp (L.d hc)).2,rfl⟩
  have hx:x=xorL l ^^^ p:=by
   rw[<- L.x,fz];rfl
  rw[hx]
  refine .add ih (L.k p aX) ?_
  unfold mayN
  cases cl with
  | false=>rfl
  | true =>
   have:=w0e (p:=p) fun q hq=>by rw[j7];exact(cR.mp (L.d rfl)).1 q hq
   simp[this]
theorem w0d {r:Nat}:∀l:List Nat,∃b:Bool,xorL l=xorL (l.filter (· != r)) ^^^ (if b=true then r else 0)/\(b=true->r∈l/\(l.filter (· != r)).length+1<=l.length)
 | []=>⟨false,by simp[xorL],fun h=>by cases h⟩
 | y::l=>by
  obtain⟨b,h1,h2⟩:=w0d (r:=r) l
  by_cases e:y=r
  ·subst e
   refine⟨!b,?_,fun _=>⟨aX,?_⟩⟩
   ·rw[fZ (by simp)]
    show y ^^^ xorL l=_
    rw[h1]
    cases b with
    | false =>
     simp only[Bool.not_false,if_true]
     rw[if_neg (by decide),gj,fz]
    | true =>
     simp only[Bool.not_true,if_true]
     rw[if_neg (by decide),gj,fz,hU,mH,gj]
   ·rw[fZ (by simp),aS]
    have:=df (· != y) l
    omega
  ·refine⟨b,?_,fun hb=>⟨aZ _ (h2 hb).1,?_⟩⟩
   ·rw[fY (by simpa using e)]
    show y ^^^ xorL l=(y ^^^ xorL _) ^^^ _
    rw[h1,hU]
   ·rw[fY (by simpa using e),aS,aS]
    have:=(h2 hb).2
    omega
theorem n1t {l:List Nat}(h:l.Pairwise fun a b=>a &&& b=0){a b:Nat}(ha:a∈l)(hb:b∈l)(ne:a≠b):a &&& b=0:=by
 obtain⟨i,hi,rfl⟩:=cp ha
 obtain⟨j,hj,rfl⟩:=cp hb
 rcases cX i j with q | q | q
 ·exact di.mp h i j hi hj q
 ·subst q;exact absurd rfl ne
 ·rw[j7];exact di.mp h j i hj hi q
theorem c1t {cl:Bool}:∀ {t kn:List Nat} {x:Nat},Ext cl kn t->x∈kn++t->∃l,l.length<=t.length+1/\Lst cl kn l x
 | [],kn,x,e,hx=>by
  rw[bq]at hx
  exact⟨[x],aE _,⟨fun p hp=>(by rw[aL.mp hp];exact hx),fun _=>(by simp),(by simp[xorL])⟩⟩
 | r::t,kn,x,e,hx=>by
  obtain⟨h1,h2,h3⟩:=e.uncons
  obtain⟨l,hl,L⟩:=c1t (x:=x) h3 (by rwa [bG])
  obtain⟨a,ha,b,hb,ne,hm,hr⟩:=e0w.mp h1
  obtain⟨o,ho,hz⟩:=w0d (r:=r) l
  have hk:∀p∈l.filter (· != r),p∈kn:=fun p hp=>by
   obtain⟨p1,p2⟩:=bu.mp hp
   rcases a7.mp (L.k p p1)with q | q
   ·exact q
   ·rw[aL.mp q]at p2
    simp at p2
  have hd:cl=true->(l.filter (· != r)).Pairwise fun a b=>a &&& b=0:=fun hc=>(L.d hc).filter _
  have hle:=df (· != r) l
  cases o with
  | false =>
   refine⟨_,?_,⟨hk,hd,?_⟩⟩
   ·rw[aS];omega
   ·rw[<- L.x,ho,if_neg (by decide),gj]
  | true =>
   obtain⟨z1,z2⟩:=hz rfl
   refine⟨a::b::l.filter (· != r),?_,⟨fun p hp=>?_,fun hc=>?_,?_⟩⟩
   ·rw[aS,aS,aS];omega
   ·rcases aK.mp hp with rfl | hp
    ·exact ha
    rcases aK.mp hp with rfl | hp
    ·exact hb
    ·exact hk p hp
   ·have hab:a &&& b=0:=by
     unfold mayN at hm
     rw[hc]at hm
     simpa using hm
    have hab':=h0p.mp hab
    have hq:∀q∈l.filter (· != r),a &&& q=0/\b &&& q=0:=fun q hq=>by
     obtain⟨q1,q2⟩:=bu.mp hq
     have:=h0p.mp (n1t (L.d hc) z1 q1 fun z=>by rw[<- z]at q2;simp at q2)
     rw[<- hr]at this
     refine⟨h0p.mpr fun i hi=>this i ?_,h0p.mpr fun i hi=>this i ?_⟩
     ·rw[d_,hi,hab' i hi];rfl
     ·rw[d_,hi]
      cases z:a.testBit i with
      | false=>rfl
      | true=>rw[hab' i z]at hi;cases hi
    refine cR.mpr ⟨fun q hq'=>?_,cR.mpr ⟨fun q hq'=>(hq q hq').2,hd hc⟩⟩
    rcases aK.mp hq' with rfl | hq'
    ·exact hab
    ·exact(hq q hq').1
   ·show a ^^^ (b ^^^ xorL _)=x
    rw[<- L.x,ho,if_pos rfl,<- hU,hr,fz]
theorem h1b {cl:Bool}{t kn:List Nat}{r l:Nat}(e:Ext cl kn t)(hl:t.length<=l)(hr:r∈kn++t):farN cl kn l r=false:=by
 obtain⟨s,hs,L⟩:=c1t e hr
 refine o0j x0r fun h=>h ⟨s.length,by omega,b1w L⟩
theorem b1h {W:List Nat}{cl:Bool}(hw:∀r∈W,1<=r/\r<64):∀ {lf:Nat} {kn sh:List Nat} {p:D} {t:List Nat},(∀r∈kn,1<=r/\r<64)->Pap W cl lf kn sh p->Ext cl kn t->t.length<=lf->(∀x∈t,x∉sh)->(∀r∈W,r∈kn++t)->False:=by
 have rows:∀ {lf:Nat} {kn t:List Nat},lf<(b0g W kn).length->t.length<=lf->(∀r∈W,r∈kn++t)->False:=fun{lf kn t} h1 h2 h3=>by
  have:=cN ((f1k W kn).imp fun h=>by omega) (l₂:=t) fun x hx=>by
   obtain⟨a,b⟩:=(e0x hw).mp hx
   exact(a7.mp (h3 x a)).resolve_left b
  omega
 intro lf
 induction lf with
 | zero =>
  intro kn sh p t hk hp e hl hs hW
  unfold Pap at hp
  rcases hp with⟨_,h⟩ | ⟨r,_,h1,h2⟩
  ·exact rows h hl hW
  ·have:=h1b e hl (hW r ((e0x hw).mp h1).1)
   rw[h2]at this;cases this
 | succ l ih =>
  intro kn sh p t hk hp e hl hs hW
  have go:∀ {r:Nat} {sh':List Nat} {p':D},h0k cl kn r=true->r∈t->Pap W cl l (kn++[r]) sh' p'->(∀x∈t.erase r,x∉sh')->False:=fun{r sh' p'} h1 h2 h3 h4=>by
   refine ih (q0e hk (e0b hk h1)) h3 (e.front h2 h1) ?_ h4 fun x hx=>?_
   ·rw[jL h2];omega
   ·rw[bG]
    rcases a7.mp (hW x hx)with q | q
    ·exact bj _ q
    ·exact ar _ ((kf h2).mem_iff.mp q)
  unfold Pap at hp
  rcases hp with⟨_,h⟩ | ⟨r,_,h1,h2⟩ | ⟨r,p',_,h1,h2,h3⟩ | ⟨ps,_,h0,h1,h2⟩
  ·exact rows h hl hW
  ·have:=h1b e hl (hW r ((e0x hw).mp h1).1)
   rw[h2]at this;cases this
  ·obtain⟨a,b⟩:=(e0x hw).mp h1
   exact go ((c0z hk).mp h2).1 ((a7.mp (hW r a)).resolve_left b) h3 fun x hx=>hs x (j8 hx)
  ·-- the smallest of the free rows that comes
   have ht:∃x∈t,x∈b0n cl kn sh:=by
    cases t with
    | nil =>
     exfalso
     refine h0 ((q0r hw).mpr fun r hr=>?_)
     have:=hW r hr
     rwa [bq]at this
    | cons x t =>
     obtain⟨z1,z2,_⟩:=e.uncons
     exact⟨x,aX,(c0z hk).mpr ⟨z1,z2,hs x aX⟩⟩
   have first:∀n,n<=(b0n cl kn sh).length->(∃x∈t,x∈(b0n cl kn sh).take n)->∃i,i<n/\(b0n cl kn sh).getD i 0∈t/\∀x∈(b0n cl kn sh).take i,x∉t:=by
    intro n
    induction n with
    | zero=>rintro _ ⟨x,_,h⟩;rw[lQ]at h;cases h
    | succ n ihn =>
     rintro hn ⟨x,hx,h⟩
     by_cases z:∃x∈t,x∈(b0n cl kn sh).take n
     ·obtain⟨i,hi,hr⟩:=ihn (by omega) z
      exact⟨i,by omega,hr⟩
     ·obtain⟨j,hj1,hj2,rfl⟩:=i0t.mp h
      have:j=n:=by
       rcases bf j n with q | q
       ·exact absurd ⟨_,hx,i0t.mpr ⟨j,q,hj2,rfl⟩⟩ z
       ·omega
      subst this
      exact⟨j,by omega,hx,fun y hy hy'=>z ⟨y,hy',hy⟩⟩
   obtain⟨i,hi,hit,hno⟩:=first _ (aE _) (by obtain⟨x,a,b⟩:=ht;exact⟨x,a,by rw[cj];exact b⟩)
   have hf:=(c0z hk).mp (f0s hi)
   refine go hf.1 hit (h2 i (by omega)) fun x hx hx'=>?_
   have hxt:=j8 hx
   rcases a7.mp hx' with q | q
   ·exact hs x hxt q
   ·exact hno x q hxt
structure p0y (m:Nat)(W:List Nat):Prop where
 m1:1<=m
 m6:m<=6
 w1:1<=W.length
 w24:W.length<=24
 w:∀r∈W,1<=r/\r<64
noncomputable def l0w (m:Nat)(W:List Nat)(cl:Bool)(n:Nat):D:=match srN W cl n (a0y m) []with
 | .inl L=>.tup [.bl true,netD (tidN (j0v m cl L W))]
 | .inr p=>.tup [.bl false,p]
def i0i (m n:Nat):Bool:=decide (m<=6)&&decide (n<=if m<=4 then 11 else 3)
def r0s:ASp:=fun ss q=>∃(m n:Nat),ss=[nv m,nv n]/\q (.d (.bl (i0i m n))) [nv m,nv n]
def d1m:ASp:=fun ss q=>∃(m:Nat) (W:List Nat) (cl:Bool) (n:Nat),ss=[.vl (j0y m W),.vl (.bl cl),nv n]/\p0y m W/\i0i m n=true/\q (.d (l0w m W cl n)) [.vl (j0y m W),.vl (.bl cl),nv n]
theorem w0z {m:Nat}(h:m<=6):∀r∈a0y m,1<=r/\r<64:=fun r hr=>by
 obtain⟨k,hk,rfl⟩:=bD.mp hr
 have hk:=bv.mp hk
 rw[iK]
 have h1:=Nat.one_le_two_pow (n:=k)
 have h2:2^k<=2^5:=dR (by decide) (by omega)
 omega
theorem b1j (m:Nat):(a0y m).Nodup:=by
 unfold a0y
 rw[List.nodup_iff_pairwise_ne,kZ]
 refine List.nodup_range.imp fun{a b} h e=>h ?_
 rw[iK,iK]at e
 rcases cX a b with q | q | q
 ·have:=gN (a:=2) (by decide) q;omega
 ·exact q
 ·have:=gN (a:=2) (by decide) q;omega
theorem d1x {m n:Nat}(h:i0i m n=true):n<=11:=by
 unfold i0i at h
 rw[ba,decide_eq_true_eq,decide_eq_true_eq]at h
 have:=h.2
 split at this <;> omega
theorem x0q {m n:Nat}{W:List Nat}{cl:Bool}(h:p0y m W)(hn:n<=11):CsOk ⟨W,cl,a0y m,[],n⟩ :=
 ⟨h.w24,h.w,w0z h.m6,b1j m,by show 0+64*n<=704;omega,fun x hx=>(by cases hx),hn⟩
theorem n1b {m n:Nat}{W L:List Nat}{cl:Bool}(h:p0y m W)(hn:n<=11)(e:srN W cl n (a0y m) [] = .inl L):Fnd m cl L W/\L.length<=m+n:=by
 obtain⟨t,rfl,hl,ex,hW⟩:=g1l h.w (w0z h.m6) (b1j m) e
 have h6:=h.m6
 have lo:=i0f m
 refine⟨⟨h.m1,by omega,?_,h.w1,h.w24,hW,?_,?_,ex.nd,fun i h1 h2=>?_⟩,?_⟩
 ·rw[aJ];omega
 ·rw[aJ];omega
 ·rw[eX (by omega),bS (by omega)]
 ·have:=ex.nx (i - m) (by rw[aJ]at h2;omega)
  have e1:(a0y m++t).take i=a0y m++t.take (i - m):=by
   rw[List.take_append,lo,bS (by omega)]
  have e2:(a0y m++t).getD i 0=t.getD (i - m) 0:=by
   rw[aF,bx (by omega),lo,<- aF]
  rw[e1,e2];exact this
 ·rw[aJ];omega
section
variable {P:aO}{w:be}{K:aa}{mg:Str->Option af}{base:Heap}
theorem u0t (dn:DefN K mg "is_tried" j0a ["many", "count"])(B:BI mg)(c_FEW_GIVENS_COUNT:∃u,mg "FEW_GIVENS_COUNT" = some u/\RelV (.int 11) u)(c_MORE_GIVENS_COUNT:∃u,mg "MORE_GIVENS_COUNT" = some u/\RelV (.int 3) u)(c_FEW_GIVENS:∃u,mg "FEW_GIVENS" = some u/\RelV (.int 4) u)(c_MORE_GIVENS:∃u,mg "MORE_GIVENS" = some u/\RelV (.int 6) u):OkN P w K mg base 1 "is_tried" ["many", "count"] (spA K r0s):=by
 refine dn.aok2 (k:=0) n0c (fun j=>j==0||j==1) [.un] r0s rfl (fun f cdv A outer s H E hr=>have hu:=e0e hr;⟨_,(a0h (c0k (i:=2) n0c.nd rfl (by first | exact Or.inl rfl | exact Or.inr rfl) (e1u (c0o u0i (pv 0) (e1v c_FEW_GIVENS rfl) (d0d _)) (e1v c_FEW_GIVENS_COUNT rfl) (e1v c_MORE_GIVENS_COUNT rfl)))
  (a0l (b0f (n0j (g0j u0i (pv 0) (e1v c_MORE_GIVENS rfl) (d0d _)) (l0z (w0x u0i u0i a0r (pv 1) (pv 2))))))),(a0k (c0b (k1w (b0h (a0m f0x a0b a0p)) a0p a0p) rfl)
  (a0u (h0b (a0m f0x a0b a0p) (r0u f0x f0x a0p a0b a0b))))⟩) ?_
 rintro ss q ⟨m,n,rfl,hq⟩
 refine⟨rfl,rfl,?_⟩
 refine cutS (fun ρ=>ρ=[nv m,nv n,nv (if m<=4 then 11 else 3)]) (fun M hM=>?_) ?_
 ·have go:decide (((m:Nat):Int)<=4)=decide (m<=4):=by rw[decide_eq_decide];omega
  show if decide (((m:Nat):Int)<=4)=true then _ else _
  rw[go]
  by_cases h:m<=4
  ·rw[if_pos (decide_eq_true h)]
   exact hM _ (by rw[if_pos h];rfl)
  ·rw[if_neg (by rw[decide_eq_true_eq];exact h)]
   exact hM _ (by rw[if_neg h];rfl)
 rintro _ rfl
 generalize hk:(if m<=4 then 11 else 3)=k
 have ek:i0i m n=(decide (m<=6)&&decide (n<=k)):=by unfold i0i;rw[hk]
 rw[ek]at hq
 have go:decide (((m:Nat):Int)<=6)=decide (m<=6):=by rw[decide_eq_decide];omega
 show if decide (((m:Nat):Int)<=6)=true then _ else _
 rw[go]
 by_cases h:m<=6
 ·rw[if_pos (decide_eq_true h)]
  rw[decide_eq_true h,g8]at hq
  show if decide ((0:Int)<=((n:Nat):Int))=true then q (.d (.bl (decide (((n:Nat):Int)<=((k:Nat):Int))))) [nv m,nv n]else q (.d (.bl false)) [nv m,nv n]
  rw[if_pos (by rw[decide_eq_true_eq];omega)]
  have gk:decide (((n:Nat):Int)<=((k:Nat):Int))=decide (n<=k):=by rw[decide_eq_decide];omega
  rw[gk]
  exact hq
 ·rw[if_neg (by rw[decide_eq_true_eq];exact h)]
  rw[decide_eq_false h,gH]at hq
  exact hq
theorem f1b (dn:DefN K mg "tried" q0i ["wish", "clean", "count"])(B:BI mg)(g_searched:OkN P w K mg base 30 "searched" ["cases"] (spA K ((SSr C_Cases) 13)))(g_is_tried:OkN P w K mg base 1 "is_tried" ["many", "count"] (spA K r0s))(g_first_cases:OkN P w K mg base 3 "first_cases" ["wish", "clean", "count"] (spA K (x0y C_Cases)))(g_net_of_rows:OkN P w K mg base 5 "net_of_rows" ["wish", "clean", "known"] (spA K k1g)):OkN P w K mg base 31 "tried" ["wish", "clean", "count"] (spA K d1m):=by
 refine dn.aok2 (k:=30) k0d (fun j=>j==0||j==1||j==2) [.un,.un,.un,.un] d1m rfl (fun f cdv A outer s H E hr=>have hu:=e0e hr;⟨_,(a0h (j0k (pv 0) (c0s K (n:=2) rfl (a0o (a0n (i:=3) k0d.nd rfl (by first | exact Or.inl rfl | exact Or.inr rfl)) (a0o (a0n (i:=4) k0d.nd rfl (by first | exact Or.inl rfl | exact Or.inr rfl)) c0r))))
  (a0h (f0h (l0y (k0i (c0v g_is_tried (hr.mono (by decide)) (a0c (pv 3) (a0c (pv 2) a0f)))))
  (a0l e1q)
  c0e)
  (a0h (j0k (c0v g_searched (hr.mono (by decide)) (a0c (c0v g_first_cases (hr.mono (by decide)) (a0c (pv 0) (a0c (pv 1) (a0c (pv 2) a0f)))) a0f)) (c0s K (n:=2) rfl (a0o (a0n (i:=5) k0d.nd rfl (by first | exact Or.inl rfl | exact Or.inr rfl)) (a0o (a0n (i:=6) k0d.nd rfl (by first | exact Or.inl rfl | exact Or.inr rfl)) c0r))))
  (a0h (f0h (f0g K (pv 5) (fun _=>rfl))
  (a0l (b0f (d0e (a0c e0u (a0c (c0v g_net_of_rows (hr.mono (by decide)) (a0c (pv 0) (a0c (pv 1) (a0c (pv 6) a0f)))) a0f)))))
  c0e)
  (a0l (b0f (d0e (a0c e0u (a0c (pv 6) a0f))))))))),(a0k (g0f a0b (b0s (a0j (a0i rfl) (a0j (a0i rfl) b0i (fun _ _ _=>a0w)) (fun _ _ _=>a0w))))
  (a0k (d0o (g0b (j0h (a0q (a0a a0b (a0a a0b a0d)))))
  a1r
  b0t)
  (a0k (g0f (a0q (a0a (a0q (a0a a0b (a0a a0b (a0a a0b a0d)))) a0d)) (b0s (a0j (a0i rfl) (a0j (a0i rfl) b0i (fun _ _ _=>a0w)) (fun _ _ _=>a0w))))
  (a0k (d0o (g0a a0b)
  (a0u (c0d (a0a c0y (a0a (a0q (a0a a0b (a0a a0b (a0a a0b a0d)))) a0d))))
  b0t)
  (a0u (c0d (a0a c0y (a0a a0b a0d))))))))⟩) ?_
 rintro ss q ⟨m,W,cl,n,rfl,hW,ht,hq⟩
 have h11:=d1x ht
 have l2:(2:Nat)<=1000000:=by decide
 have hm6:=hW.m6
 refine⟨rfl,rfl,?_⟩
 refine cutS (fun ρ=>ρ=[.vl (j0y m W),.vl (.bl cl),nv n,nv m,.vl (.tup (a0e W)),.un,.un]) (fun M hM=>hM _ rfl) ?_
 rintro _ rfl
 refine cutS (fun ρ=>ρ=[.vl (j0y m W),.vl (.bl cl),nv n,nv m,.vl (.tup (a0e W)),.un,.un]) (fun M hM=>⟨rfl,m,n,rfl,?_⟩) ?_
 ·rw[ht]
  exact hM _ rfl
 rintro _ rfl
 refine cutS (fun ρ=>ρ=[.vl (j0y m W),.vl (.bl cl),nv n,nv m,.vl (.tup (a0e W)),.vl (.bl (srN W cl n (a0y m) []).isLeft),.vl (d1y (srN W cl n (a0y m) []))]) (fun M hM=>⟨rfl,m,W,cl,n,rfl,by omega,?_⟩) ?_
 ·refine⟨rfl,⟨W,cl,a0y m,[],n⟩,rfl,x0q hW h11,by show n<=12;omega,?_⟩
  rw[u0e]
  exact hM _ rfl
 rintro _ rfl
 unfold l0w at hq
 cases e:srN W cl n (a0y m) []with
 | inl L =>
  rw[e]at hq
  obtain⟨F,_⟩:=n1b hW h11 e
  refine⟨rfl,m,cl,L,W,rfl,F,?_⟩
  refine⟨l2,?_⟩
  exact hq
 | inr p =>
  rw[e]at hq
  refine⟨l2,?_⟩
  exact hq
end
theorem t0c {n:Nat}:∀ {ds:List D},(∀d∈ds,d.depth<=n)->depths ds<=n
 | [],_=>by simp[depths]
 | d::ds,h=>by
  have h1:=h d aX
  have h2:=t0c fun e he=>h e (aZ _ he)
  simp only[depths]
  omega
theorem n0l {W:List Nat}{cl:Bool}:∀ {lf:Nat} {kn sh:List Nat} {p:D},Pap W cl lf kn sh p->p.depth<=2*lf+1
 | 0,kn,sh,p,h=>by
  unfold Pap at h
  rcases h with⟨rfl,_⟩ | ⟨r,rfl,_⟩ <;> simp[D.depth,depths]
 | l+1,kn,sh,p,h=>by
  unfold Pap at h
  rcases h with⟨rfl,_⟩ | ⟨r,rfl,_⟩ | ⟨r,p',rfl,_,_,h⟩ | ⟨ps,rfl,_,_,h⟩
  ·simp[D.depth,depths]
  ·simp[D.depth,depths]
  ·have:=n0l h
   simp only[D.depth,depths]
   omega
  ·have:=t0c (n:=2*l+1) (ds:=ps) fun d hd=>by
    obtain⟨i,hi,rfl⟩:=cp hd
    have:=n0l (h i hi)
    rwa [aF,ao hi]at this
   simp only[D.depth,depths]
   omega
theorem i1m {m:Nat}(h:1<=m):1∈a0y m:=bD.mpr ⟨0,bv.mpr h,rfl⟩
def d1n:ASp:=fun ss q=>∃(m n:Nat) (W:List Nat) (cl:Bool) (p:D),ss=[.vl (j0y m W),.vl (.bl cl),nv n,.vl p]/\p0y m W/\n<=11/\p.depth<=60/\q (.d (.bl (papB ⟨W,cl,a0y m,[],n⟩ p))) [.vl (j0y m W),.vl (.bl cl),nv n,.vl p]
theorem Ext.snoc {cl:Bool}{kn t:List Nat}{r:Nat}(e:Ext cl kn t)(h:h0k cl (kn++t) r=true)(hr:r∉kn++t):Ext cl kn (t++[r]):=by
 refine⟨by rw[<- bG];exact a1s e.nd hr,fun i hi=>?_⟩
 rw[aJ,bN]at hi
 by_cases z:i<t.length
 ·rw[eX (by omega),aF,a_ z,<- aF]
  exact e.nx i z
 ·obtain rfl:i=t.length:=by omega
  rw[eX (aE _),cj,aF,bx (aE _),mI]
  exact h
theorem Ext.weak {cl:Bool}{kn t:List Nat}(e:Ext cl kn t):Ext false kn t:=⟨e.nd,fun i hi=>by
 obtain⟨a,ha,b,hb,ne,_,hr⟩:=e0w.mp (e.nx i hi)
 exact e0w.mpr ⟨a,ha,b,hb,ne,rfl,hr⟩⟩
theorem x0f {m n:Nat}{W t:List Nat}{cl:Bool}{p:D}(h:p0y m W)(e:Ext cl (a0y m) t)(hl:t.length<=n)(hW:∀r∈W,r∈a0y m++t):papB ⟨W,cl,a0y m,[],n⟩ p=false :=
 o0j k0l fun z=>b1h h.w (w0z h.m6) z e hl (fun x _=>by simp) hW
section
variable {P:aO}{w:be}{K:aa}{mg:Str->Option af}{base:Heap}
theorem f1c {C_Cases:Addr}(ob_Cases:ObC P w K mg base C_Cases "Cases" ["wished", "clean", "known", "shut", "left"])(dn:DefN K mg "shown" q0j ["wish", "clean", "count", "paper"])(B:BI mg)(g_Cases_shown_by:OkM P w K mg base 30 C_Cases "shown_by" ["self", "paper"] (spA K ((SBy C_Cases) 13)))(g_first_cases:OkN P w K mg base 3 "first_cases" ["wish", "clean", "count"] (spA K (x0y C_Cases))):OkN P w K mg base 31 "shown" ["wish", "clean", "count", "paper"] (spA K d1n):=by
 refine dn.aok2 (k:=30) e1i (fun j=>j==0||j==1||j==2||j==3) [] d1n rfl (fun f cdv A outer s H E hr=>have hu:=e0e hr;⟨_,(a0l (b0f (m0b g_Cases_shown_by ob_Cases.cl (hr.mono (by decide)) (c0v g_first_cases (hr.mono (by decide)) (a0c (pv 0) (a0c (pv 1) (a0c (pv 2) a0f)))) (a0c (pv 3) a0f)))),(a0u (c0a (a0q (a0a a0b (a0a a0b (a0a a0b a0d)))) (a0a a0b a0d)))⟩) ?_
 rintro ss q ⟨m,n,W,cl,p,rfl,hW,hn,hd,hq⟩
 have h6:=hW.m6
 refine⟨rfl,rfl,?_⟩
 refine⟨rfl,m,W,cl,n,rfl,by omega,?_⟩
 exact⟨rfl,rfl,rfl,⟨W,cl,a0y m,[],n⟩,p,rfl,x0q hW hn,i1m hW.m1,by show n<=12;omega,hd,hq⟩
end
structure j0n (m:Nat)(W:List Nat)(k:Nat):Prop where
 l1:1<=W.length
 l:W.length<=k
 r:∀r∈W,1<=r/\r<2^m
def d1o:ASp:=fun ss q=>∃(n m:Nat) (W:List Nat),ss=[.tp n,nv m,.vl (.tup (a0e W))]/\n<1000000/\1<=m/\m<=4/\j0n m W 8/\∀W',j0n m W' 9->q (.d (.tup (a0e W'))) [.tp (n+3),nv m,.vl (.tup (a0e W))]
section
variable {P:aO}{w:be}{K:aa}{mg:Str->Option af}{base:Heap}
theorem s0g (dn:DefN K mg "_law_other" h0e ["_law_tape_here", "_law_many", "_law_outs"])(B:BI mg)(g_law_draw:OkN P w K mg base 1 "_law_draw" ["_law_tape_here", "_law_many"] (spA K d1r)):OkN P w K mg base 2 "_law_other" ["_law_tape_here", "_law_many", "_law_outs"] (spA K d1o):=by
 refine dn.aok2 (k:=1) i0b (fun j=>j==0||j==1||j==2) [.un,.un] d1o rfl (fun f cdv A outer s H E hr=>have hu:=e0e hr;⟨_,(a0h (c0k (i:=3) i0b.nd rfl (by first | exact Or.inl rfl | exact Or.inr rfl) (c0v g_law_draw (hr.mono (by decide)) (a0c (pv 0) (a0c (b0m (c0h K) rfl B.len_ f0l (a0c (pv 2) a0f)) a0f))))
  (a0h (c0k (i:=4) i0b.nd rfl (by first | exact Or.inl rfl | exact Or.inr rfl) (c0i g0e a0r (c0v g_law_draw (hr.mono (by decide)) (a0c (pv 0) (a0c (c0i s0b (c0i b1k a0r (pv 1)) a0r) a0f)))))
  (a0l (b0f (d0w (b0j K) (k0j (a0c (pv 2) (a0c (c0i (k0m K) (c0i (k0m K) (f0c (q0h K) (pv 2) g0i (g0h (pv 3))) (d0e (a0c (pv 4) a0f))) (f0c (q0h K) (pv 2) (g0h (c0i g0e (pv 3) a0r)) g0i)) (a0c (c0i (k0m K) (c0i (k0m K) (f0c (q0h K) (pv 2) g0i (g0h (pv 3))) (d0e (a0c (pv 4) a0f))) (f0c (q0h K) (pv 2) (g0h (pv 3)) g0i)) (a0c (c0i (k0m K) (pv 2) (d0e (a0c (pv 4) a0f))) a0f))))) (c0v g_law_draw (hr.mono (by decide)) (a0c (pv 0) (a0c a0r a0f))) (fun _ _=>rfl)))))),(a0k (c0b (a0q (a0a a0b (a0a (c0t d0m (a0a a0b a0d)) a0d))) rfl)
  (a0k (c0b (a0m d0c a0p (a0q (a0a a0b (a0a (a0m d0c (a0m u0k a0p a0b) a0p) a0d)))) rfl)
  (a0u (a0m c0l (g0z (a0a a0b (a0a (a0m k0n (a0m k0n (q0b a0b g0y (e0m a0b)) (c0d (a0a a0b a0d))) (q0b a0b (e0m (a0m d0c a0b a0p)) g0y)) (a0a (a0m k0n (a0m k0n (q0b a0b g0y (e0m a0b)) (c0d (a0a a0b a0d))) (q0b a0b (e0m a0b) g0y)) (a0a (a0m k0n a0b (c0d (a0a a0b a0d))) a0d))))) (a0q (a0a a0b (a0a a0p a0d)))))))⟩) ?_
 rintro ss q ⟨n,m,W,rfl,hn,h1,h4,hW,hq⟩
 have w1:=hW.l1
 have w8:=hW.l
 have p1:2<=2^m:=dR (n:=2) (by decide) (show 1<=m by omega)
 have p2:2^m<=64:=dR (n:=2) (by decide) (show m<=6 by omega)
 have ep:(1:Int)*(2:Int)^((m:Int).toNat)=((2^m:Nat):Int):=by rw[t0z,iW,ku]
 refine⟨rfl,rfl,?_⟩
 refine cutS (fun ρ=>∃a:Nat,a<W.length/\ρ=[.tp (n+1),nv m,.vl (.tup (a0e W)),nv a,.un]) (fun M hM=>⟨rfl,n,_,rfl,by omega,Dv.small (by rw[c0m];omega) (by rw[c0m];omega),fun x hx=>hM _ ⟨x,by rw[c0m]at hx;omega,rfl⟩⟩) ?_
 rintro _ ⟨a,ha,rfl⟩
 refine cutS (fun ρ=>∃r:Nat,1<=r/\r<2^m/\ρ=[.tp (n+2),nv m,.vl (.tup (a0e W)),nv a,nv r]) (fun M hM=>⟨⟨by omega,by omega,by decide⟩,rfl,n+1,_,rfl,by omega,Dv.small (by show 0<(1:Int)*(2:Int)^((m:Int).toNat) - 1;rw[ep];omega) (by show(1:Int)*(2:Int)^((m:Int).toNat) - 1<1073741824;rw[ep];omega),fun r hr=>?_⟩) ?_
 ·have hr:(r:Int)<(1:Int)*(2:Int)^((m:Int).toNat) - 1:=hr
  rw[ep]at hr
  exact hM _ ⟨1+r,by omega,by omega,rfl⟩
 rintro _ ⟨r,hr1,hr2,rfl⟩
 have l1:(1:Nat)<=1000000:=by decide
 have l4:(4:Nat)<=1000000:=by decide
 have eT:cutD (a0e W) none (some ((a:Nat):Int))=a0e (W.take a):=by rw[f0k];unfold a0e;rw[d7]
 have eD:∀j:Nat,cutD (a0e W) (some ((j:Nat):Int)) none=a0e (W.drop j):=fun j=>by rw[d1a];unfold a0e;rw[List.map_drop]
 have b1:(cutD (a0e W) none (some ((a:Nat):Int))).length+1<=1000000:=by rw[eT,c0m,bi];omega
 have b2:∀j:Nat,(cutD (a0e W) none (some ((a:Nat):Int))++[nD r]).length+(cutD (a0e W) (some ((j:Nat):Int)) none).length<=1000000:=fun j=>by rw[eT,eD,aJ,c0m,c0m,bi,dW,bN];omega
 have b3:(a0e W).length+1<=1000000:=by rw[c0m];omega
 refine⟨l1,b1,b2 (a+1),l1,b1,b2 a,l1,b3,l4,rfl,n+2,4,rfl,by omega,Dv.small (by decide) (by decide),fun x hx=>?_⟩
 have mid:∀j:Nat,a0e (W.take a)++[nD r]++a0e (W.drop j)=a0e (W.take a++[r]++W.drop j):=fun j=>by unfold a0e;simp
 have inM:∀j:Nat,a<=j->j0n m (W.take a++[r]++W.drop j) 9:=fun j hj=>by
  refine⟨by simp;omega,by rw[aJ,aJ,bi,dW,bN];omega,fun y hy=>?_⟩
  rcases a7.mp hy with hy | hy
  ·rcases a7.mp hy with hy | hy
   ·exact hW.r y (gF hy)
   ·rw[aL.mp hy];exact⟨hr1,hr2⟩
  ·exact hW.r y (kh hy)
 have pick:∃W',j0n m W' 9/\atI [D.tup (a0e W),.tup (cutD (a0e W) none (some ((a:Nat):Int))++[nD r]++cutD (a0e W) (some (((a+1:Nat):Nat):Int)) none),.tup (cutD (a0e W) none (some ((a:Nat):Int))++[nD r]++cutD (a0e W) (some ((a:Nat):Int)) none),.tup (a0e W++[nD r])] ((x:Nat):Int)=some (.tup (a0e W')):=by
  rw[eT,eD,eD,mid,mid,<- e0k]
  have hx:x<4:=by omega
  match x,hx with
  | 0,_=>exact⟨W,⟨w1,by omega,hW.r⟩,rfl⟩
  | 1,_=>exact⟨_,inM (a+1) (by omega),rfl⟩
  | 2,_=>exact⟨_,inM a (aE _),rfl⟩
  | 3,_ =>
   refine⟨W++[r],⟨by simp,by rw[aJ,bN];omega,fun y hy=>?_⟩,rfl⟩
   rcases a7.mp hy with hy | hy
   ·exact hW.r y hy
   ·rw[aL.mp hy];exact⟨hr1,hr2⟩
 obtain⟨W',h1',h2'⟩:=pick
 exact m1y rfl h2' (hq W' h1')
end
theorem eqX {a b:Nat}:eqD (.int (eB (a:Int) (b:Int))) (.int 0)=decide (a &&& b=0):=by
 rw[w0a]
 show decide (((a &&& b:Nat):Int)=0)=_
 rw[decide_eq_decide];omega
theorem gaN1 {i:Nat}{a:D}{ρ:En}{M:En->Prop}(h:M (pt ρ i (.vl a))):h0y i a ρ M:=h
def i0s (m:Nat)(cl:Bool)(j:Nat)(R:List Nat):Prop:=∃t,Ext cl (a0y m) t/\t.length<=j/\∀r∈R,r∈a0y m++t
def k1i:ASp:=fun ss q=>∃(n:Nat) (cl:Bool),ss=[.tp n,.vl (.bl cl)]/\n<1000000/\∀(m j n':Nat) (W:List Nat),1<=m->m<=4->j<=11->n'<=n+60->j0n m W 8->i0s m cl j W->q (.d (.tup [nD m,nD j,.tup (a0e W)])) [.tp n',.vl (.bl cl)]
theorem i0s.step {m j:Nat}{cl:Bool}{R:List Nat}(h:i0s m cl j R){a b:Nat}(ha:a∈R)(hb:b∈R)(ne:a≠b)(hm:mayN cl a b=true):i0s m cl (j+1) (R++[a ^^^ b]):=by
 obtain⟨t,e,hl,hR⟩:=h
 by_cases z:a ^^^ b∈a0y m++t
 ·refine⟨t,e,by omega,fun r hr=>?_⟩
  rcases a7.mp hr with q | q
  ·exact hR r q
  ·rw[aL.mp q];exact z
 ·refine⟨t++[a ^^^ b],e.snoc (e0w.mpr ⟨a,hR a ha,b,hR b hb,ne,hm,rfl⟩) z,by rw[aJ,bN];omega,fun r hr=>?_⟩
  rw[<- bG]
  rcases a7.mp hr with q | q
  ·exact bj _ (hR r q)
  ·exact ar _ q
section
variable {P:aO}{w:be}{K:aa}{mg:Str->Option af}{base:Heap}
theorem y0m (dn:DefN K mg "_law_net" g0r ["_law_tape_here", "_law_clean"])(B:BI mg)(g_law_draw:OkN P w K mg base 1 "_law_draw" ["_law_tape_here", "_law_many"] (spA K d1r)):OkN P w K mg base 2 "_law_net" ["_law_tape_here", "_law_clean"] (spA K k1i):=by
 refine dn.aok2 (k:=1) e0j (fun j=>j==0||j==1) [.un,.un,.un,.un,.un,.un,.un] k1i rfl (fun f cdv A outer s H E hr=>have hu:=e0e hr;⟨_,(a0h (c0k (i:=2) e0j.nd rfl (by first | exact Or.inl rfl | exact Or.inr rfl) (c0i g0e a0r (c0v g_law_draw (hr.mono (by decide)) (a0c (pv 0) (a0c a0r a0f)))))
  (a0h (c0k (i:=3) e0j.nd rfl (by first | exact Or.inl rfl | exact Or.inr rfl) (n0i ["_law_k"] [] rfl (Blk.of (a0g g0r) l0k) (g0s rfl B.range_ (a0c (pv 2) a0f)) (fun _ _ _ _ nd=>(a0n (i:=0) nd rfl (by first | exact Or.inl rfl | exact Or.inr rfl))) (fun _ _ _ _=>f0w) (fun _ _ _ _=>(c0i b1k a0r (pv 0)))))
  (a0h (c0k (i:=4) e0j.nd rfl (by first | exact Or.inl rfl | exact Or.inr rfl) (k0j a0f))
  (a0h (h0t bR rfl (g0s rfl B.range_ (a0c (c0v g_law_draw (hr.mono (by decide)) (a0c (pv 0) (a0c a0r a0f))) a0f)) (a0n (i:=5) e0j.nd rfl (by first | exact Or.inl rfl | exact Or.inr rfl))
  (a0h (c0k (i:=6) e0j.nd rfl (by first | exact Or.inl rfl | exact Or.inr rfl) (c0v g_law_draw (hr.mono (by decide)) (a0c (pv 0) (a0c (b0m (c0h K) rfl B.len_ f0l (a0c (pv 3) a0f)) a0f))))
  (a0h (c0k (i:=7) e0j.nd rfl (by first | exact Or.inl rfl | exact Or.inr rfl) (c0v g_law_draw (hr.mono (by decide)) (a0c (pv 0) (a0c (b0m (c0h K) rfl B.len_ f0l (a0c (pv 3) a0f)) a0f))))
  (a0l (f0h (PW.pt (p0f (c0o (l1x K hr.units) (d0w (b0j K) (pv 3) (pv 6) (fun _ _=>rfl)) (d0w (b0j K) (pv 3) (pv 7) (fun _ _=>rfl)) (d0d _)) (l0i (PW.pt (e1m (l0y (f0g K (pv 1) (fun _=>rfl))) (a1z (c0o (g0t K hr.units) (c0i g1t (d0w (b0j K) (pv 3) (pv 6) (fun _ _=>rfl)) (d0w (b0j K) (pv 3) (pv 7) (fun _ _=>rfl))) a0r (d0d _))))))))
  (a0h (i0d (k0k K b7 cu cq f0y (pv 4) (a0c (d0e (a0c (b0m (k0y rfl) rfl B.min_ x0v (a0c (pv 6) (a0c (pv 7) a0f))) (a0c (b0m (o0i rfl) rfl B.max_ d1j (a0c (pv 6) (a0c (pv 7) a0f))) a0f))) a0f)))
  (a0l (i0d (k0k K b7 cu cq f0y (pv 3) (a0c (c0i g1s (d0w (b0j K) (pv 3) (pv 6) (fun _ _=>rfl)) (d0w (b0j K) (pv 3) (pv 7) (fun _ _=>rfl))) a0f)))))
  c0e)))))
  (a0h (b1b (i:=8) ["_law_turn"] [3,0] e0j.nd rfl (by first | exact Or.inl rfl | exact Or.inr rfl) rfl (Blk.of (a0g g0r) l0k) (g0s rfl B.range_ (a0c (c0i g0e a0r (c0v g_law_draw (hr.mono (by decide)) (a0c (pv 0) (a0c a0r a0f)))) a0f)) (fun _ _ _ _ nd=>(a0n (i:=0) nd rfl (by first | exact Or.inl rfl | exact Or.inr rfl))) (fun _ _ _ _=>f0w) (fun _ _ _ _=>(d0w (b0j K) (pv 1) (c0v g_law_draw (hr.mono (by decide)) (a0c (pv 2) (a0c (b0m (c0h K) rfl B.len_ f0l (a0c (pv 1) a0f)) a0f))) (fun _ _=>rfl))))
  (a0l (b0f (d0e (a0c (pv 2) (a0c (b0m (c0h K) rfl B.len_ f0l (a0c (pv 4) a0f)) (a0c (e0t (e0z K) rfl B.tuple_ h0n (a0c (pv 8) a0f)) a0f))))))))))),(a0k (c0b (a0m d0c a0p (a0q (a0a a0b (a0a a0p a0d)))) rfl)
  (a0k (c0b (h0a (g0m (a0a a0b a0d)) (a0i rfl) e0l (a0m u0k a0p a0b)) rfl)
  (a0k (c0b (g0z a0d) rfl)
  (a0k (f0n (pin:=(fun _=>false)) (g0m (a0a (a0q (a0a a0b (a0a a0p a0d))) a0d)) (a0i rfl)
  (a0k (c0b (a0q (a0a a0b (a0a (c0t d0m (a0a a0b a0d)) a0d))) rfl)
  (a0k (c0b (a0q (a0a a0b (a0a (c0t d0m (a0a a0b a0d)) a0d))) rfl)
  (d0o (k0a (b0h (a0m m1a (a0m c0l a0b a0b) (a0m c0l a0b a0b))) (q0a (g0b (g0a a0b)) (b0h (a0m g0u (a0m d0c (a0m c0l a0b a0b) (a0m c0l a0b a0b)) a0p))))
  (a0k (g0c (j0p a0b (a0a (c0d (a0a (c0t m0t (a0a a0b (a0a a0b a0d))) (a0a (c0t r0l (a0a a0b (a0a a0b a0d))) a0d))) a0d)))
  (g0c (j0p a0b (a0a (a0m d0c (a0m c0l a0b a0b) (a0m c0l a0b a0b)) a0d))))
  b0t))))
  (a0k (w0n (h0a (g0m (a0a (a0m d0c a0p (a0q (a0a a0b (a0a a0p a0d)))) a0d)) (a0i rfl) e0l (a0m c0l a0b (a0q (a0a a0b (a0a (c0t d0m (a0a a0b a0d)) a0d))))) rfl)
  (a0u (c0d (a0a a0b (a0a (c0t d0m (a0a a0b a0d)) (a0a (c0t f0u (a0a a0b a0d)) a0d))))))))))⟩) ?_
 rintro ss q ⟨n,cl,rfl,hn,hq⟩
 refine⟨rfl,rfl,?_⟩
 have dI:∀ {i:Int},D.depth (.int i)<=60:=fun{i}=>by simp[D.depth]
 refine cutS (fun ρ=>∃m:Nat,1<=m/\m<=4/\ρ=[.tp (n+1),.vl (.bl cl),nv m,.un,.un,.un,.un,.un,.un]) (fun M hM=>⟨rfl,n,4,rfl,by omega,Dv.small (by decide) (by decide),fun x hx=>hM _ ⟨1+x,by omega,by omega,rfl⟩⟩) ?_
 rintro _ ⟨m,h1,h4,rfl⟩
 refine cutS (fun ρ=>ρ=[.tp (n+1),.vl (.bl cl),nv m,.ow (a0e (a0y m)),.un,.un,.un,.un,.un]) (fun M hM=>?_) ?_
 ·refine⟨⟨by omega,by omega⟩,by rw[g0d];omega,t0h (fun k=>.int (1 <<< k:Nat)) trivial (fun k acc N hk hN=>?_) ?_⟩
  ·rw[mM]
   refine⟨⟨by omega,by omega,by decide⟩,?_⟩
   show N (acc++[.int ((1:Int)*2^((k:Int).toNat))]) _
   rw[t0z];exact hN
  have e:((aQ (m:Int).toNat).map fun k=>D.int (1 <<< k:Nat))=a0e (a0y m):=by
   rw[show(m:Int).toNat=m by omega]
   unfold a0y a0e;rw[bI];rfl
  rw[e];exact hM _ rfl
 rintro _ rfl
 refine cutS (fun ρ=>ρ=[.tp (n+1),.vl (.bl cl),nv m,.ow (a0e (a0y m)),.ow [],.un,.un,.un,.un]) (fun M hM=>⟨bg _,hM _ rfl⟩) ?_
 rintro _ rfl
 have p1:2^m<=64:=dR (n:=2) (by decide) (show m<=6 by omega)
 have ho:∀r∈a0y m,1<=r/\r<2^m:=fun r hr=>by
  obtain⟨k,hk,rfl⟩:=bD.mp hr
  rw[iW,ku]
  exact⟨Nat.two_pow_pos k,gN (by decide) (bv.mp hk)⟩
 refine cutS (fun ρ=>∃(R:List Nat) (J:List D) (n':Nat) (s5 s6 s7:Sv),i0s m cl J.length R/\R.length=m+J.length/\J.length<=11/\(∀r∈R,1<=r/\r<2^m)/\n'<=n+26/\ρ=[.tp n',.vl (.bl cl),nv m,.ow (a0e R),.ow J,s5,s6,s7,.un]) (fun M hM=>?_) ?_
 ·refine⟨rfl,n+1,12,rfl,by omega,Dv.small (by decide) (by decide),fun c hc=>⟨⟨by omega,by omega⟩,?_⟩⟩
  dsimp only[stS,pt,back,R.frz]
  refine q0y (fun k ρ=>∃(R:List Nat) (J:List D) (n':Nat) (s5 s6 s7:Sv),i0s m cl J.length R/\R.length=m+J.length/\J.length<=k/\(∀r∈R,1<=r/\r<2^m)/\n'<=n+2+2*k/\ρ=[.tp n',.vl (.bl cl),nv m,.ow (a0e R),.ow J,s5,s6,s7,.un]) (fun _ _ _=>trivial) ?_ ?_ ⟨a0y m,[],n+2,.un,.un,.un,⟨[],Ext.nil (b1j m),aE _,fun r hr=>bj _ hr⟩,i0f m,bg _,ho,by omega,rfl⟩
  ·rintro k ρ N hk ⟨R,J,n',s5,s6,s7,hR,hl,hJ,hr,hn',rfl⟩ hN
   have hk':k<11:=by omega
   have hL:(((a0e R).length:Nat):Int)=((m+J.length:Nat):Int):=by rw[c0m,hl]
   refine gaN1 ?_
   refine cutS (fun ρ=>∃(a:Nat) (s5:Sv),a<R.length/\ρ=[.tp (n'+1),.vl (.bl cl),nv m,.ow (a0e R),.ow J,s5,nv a,s7,.un]) (fun M hM=>⟨rfl,n',_,rfl,by omega,Dv.small (by rw[hL];omega) (by rw[hL];omega),fun a ha=>hM _ ⟨a,_,by rw[hL]at ha;omega,rfl⟩⟩) ?_
   rintro _ ⟨a,s5,ha,rfl⟩
   refine cutS (fun ρ=>∃b:Nat,b<R.length/\ρ=[.tp (n'+2),.vl (.bl cl),nv m,.ow (a0e R),.ow J,s5,nv a,nv b,.un]) (fun M hM=>⟨rfl,n'+1,_,rfl,by omega,Dv.small (by rw[hL];omega) (by rw[hL];omega),fun b hb=>hM _ ⟨b,by rw[hL]at hb;omega,rfl⟩⟩) ?_
   rintro _ ⟨b,hb,rfl⟩
   have no:N [.tp (n'+2),.vl (.bl cl),nv m,.ow (a0e R),.ow J,s5,nv a,nv b,.un]:=hN _ ⟨R,J,n'+2,s5,nv a,nv b,hR,hl,by omega,hr,by omega,rfl⟩
   refine c0j rfl ha (c0j rfl hb (e0a rfl rfl dI rfl (ite2 (fun hne=>?_) fun hne=>?_)))
   ·have hne':R.getD a 0≠R.getD b 0:=fun e=>by rw[e]at hne;simp[eqD]at hne
    have key:mayN cl (R.getD a 0) (R.getD b 0)=true->∀x:D,N [.tp (n'+2),.vl (.bl cl),nv m,.ow (a0e R++[D.int (fo ((R.getD a 0:Nat):Int) ((R.getD b 0:Nat):Int))]),.ow (J++[x]),s5,nv a,nv b,.un]:=fun h x=>by
     rw[z0p]
     have jl:(J++[x]).length=J.length+1:=by rw[aJ];rfl
     refine hN _ ⟨R++[R.getD a 0 ^^^ R.getD b 0],J++[x],n'+2,s5,nv a,nv b,by rw[jl];exact hR.step (f0s ha) (f0s hb) hne' h,by rw[jl,aJ,bN,hl];omega,by omega,fun r hr'=>?_,by omega,by rw[e0k]⟩
     rcases a7.mp hr' with q | q
     ·exact hr r q
     ·rw[aL.mp q]
      exact⟨z0o hne',kY (hr _ (f0s ha)).2 (hr _ (f0s hb)).2⟩
    have lR:(a0e R).length<=1000000:=by rw[c0m];omega
    cases cl with
    | false=>exact⟨by simp,by omega,c0j rfl ha (c0j rfl hb ⟨lR,key rfl _⟩)⟩
    | true =>
     refine c0j rfl ha (c0j rfl hb (e0a (b:=decide (R.getD a 0 &&& R.getD b 0=0)) rfl rfl dI eqX ?_))
     cases h4':decide (R.getD a 0 &&& R.getD b 0=0)with
     | true=>exact⟨by simp,by omega,c0j rfl ha (c0j rfl hb ⟨lR,key (by unfold mayN;rw[h4'];rfl) _⟩)⟩
     | false=>exact no
   ·exact no
  ·rintro _ ⟨R,J,n',s5,s6,s7,hR,hl,hJ,hr,hn',rfl⟩
   exact hM _ ⟨R,J,n',s5,s6,s7,hR,hl,by omega,hr,by omega,rfl⟩
 rintro _ ⟨R,J,n',s5,s6,s7,hR,hl,hJ,hr,hn',rfl⟩
 refine cutS (fun ρ=>∃(W:List Nat) (n2:Nat),j0n m W 8/\i0s m cl J.length W/\n2<=n+40/\ρ=[.tp n2,.vl (.bl cl),nv m,.ow (a0e R),.ow J,s5,s6,s7,.ow (a0e W)]) (fun M hM=>?_) ?_
 ·refine⟨rfl,n',8,rfl,by omega,Dv.small (by decide) (by decide),fun oc hoc=>⟨⟨by omega,by omega⟩,by rw[g0d];omega,?_⟩⟩
  refine k0x (fun k acc ρ=>∃W:List Nat,acc=a0e W/\W.length=k/\(∀r∈W,r∈R)/\ρ=[.tp (n'+1+k),.vl (.bl cl),nv m,.ow (a0e R),.ow J,s5,s6,s7,.un]) (fun _ _ _ _ _=>trivial) ?_ ?_ _ ⟨[],rfl,rfl,fun _ h=>(nomatch h),rfl⟩
  ·rintro k d acc _ N hk ⟨W,rfl,hWl,hW,rfl⟩ hN
   obtain⟨lt,rfl⟩:=q0l hk
   have hL:(((a0e R).length:Nat):Int)=((m+J.length:Nat):Int):=by rw[c0m,hl]
   refine⟨rfl,n'+1+k,_,rfl,by omega,Dv.small (by rw[hL];omega) (by rw[hL];omega),fun o ho'=>?_⟩
   rw[hL]at ho'
   have ho:o<R.length:=by omega
   refine c0j rfl ho (hN _ _ ⟨W++[R.getD o 0],by rw[e0k],by rw[aJ,hWl];rfl,fun x hx=>?_,rfl⟩)
   rcases a7.mp hx with h | h
   ·exact hW x h
   ·rw[aL.mp h];exact f0s ho
  ·rintro acc _ ⟨W,rfl,hWl,hW,rfl⟩
   rw[g0d]at hWl
   obtain⟨t,e,h1',h2'⟩:=hR
   exact hM _ ⟨W,n'+1+_,⟨by omega,by omega,fun r h=>hr r (hW r h)⟩,⟨t,e,h1',fun r h=>h2' r (hW r h)⟩,by rw[g0d];omega,rfl⟩
 rintro _ ⟨W,n2,hW,hRW,hn2,rfl⟩
 exact⟨by simp,hq m J.length n2 W h1 h4 hJ (by omega) hW hRW⟩
end
theorem j0n.ok {m k:Nat}{W:List Nat}(h:j0n m W k)(h1:1<=m)(h4:m<=4)(hk:k<=24):p0y m W :=
 ⟨h1,by omega,h.l1,aW h.l hk,fun r hr=>⟨(h.r r hr).1,aU (h.r r hr).2 (dR (n:=2) (by decide) (show m<=6 by omega))⟩⟩
theorem k1u {m n:Nat}(h:m<=4)(hn:n<=11):i0i m n=true:=by
 unfold i0i
 rw[if_pos h,ba,decide_eq_true_eq,decide_eq_true_eq]
 exact⟨by omega,hn⟩
theorem z0v {m n:Nat}{W:List Nat}{p:D}{cl:Bool}(e:srN W cl n (a0y m) [] = .inr p):l0w m W cl n = .tup [.bl false,p]:=by unfold l0w;rw[e]
theorem z0w {m n:Nat}{W L:List Nat}{cl:Bool}(e:srN W cl n (a0y m) [] = .inl L):l0w m W cl n = .tup [.bl true,netD (tidN (j0v m cl L W))]:=by unfold l0w;rw[e]
section
variable {P:aO}{w:be}{K:aa}{mg:Str->Option af}{base:Heap}
theorem m1b (dn:DefN K mg "law" e1j ["_law_script"])(B:BI mg)(g_law_tape:OkN P w K mg base 1 "_law_tape" ["_law_script"] (spA K k1e))(g_law_net:OkN P w K mg base 2 "_law_net" ["_law_tape_here", "_law_clean"] (spA K k1i))(g_law_draw:OkN P w K mg base 1 "_law_draw" ["_law_tape_here", "_law_many"] (spA K d1r))(g_tried:OkN P w K mg base 31 "tried" ["wish", "clean", "count"] (spA K d1m))(g_law_other:OkN P w K mg base 2 "_law_other" ["_law_tape_here", "_law_many", "_law_outs"] (spA K d1o))(g_shown:OkN P w K mg base 31 "shown" ["wish", "clean", "count", "paper"] (spA K d1n)):OkN P w K mg base 32 "law" ["_law_script"] (spA K SLaw):=by
 refine dn.aok2 (k:=31) i0c (fun j=>j==0) [.un,.un,.un,.un,.un,.un,.un,.un,.un,.un] SLaw rfl (fun f cdv A outer s H E hr=>have hu:=e0e hr;⟨_,(a0h (c0k (i:=1) i0c.nd rfl (by first | exact Or.inl rfl | exact Or.inr rfl) (c0v g_law_tape (hr.mono (by decide)) (a0c (pv 0) a0f)))
  (a0h (h0t bR rfl (g0s rfl B.range_ (a0c a0r a0f)) (a0n (i:=2) i0c.nd rfl (by first | exact Or.inl rfl | exact Or.inr rfl))
  (a0h (c0k (i:=3) i0c.nd rfl (by first | exact Or.inl rfl | exact Or.inr rfl) (g0j (g0t K hr.units) (c0v g_law_draw (hr.mono (by decide)) (a0c (pv 1) (a0c a0r a0f))) a0r (d0d _)))
  (a0h (j0k (c0v g_law_net (hr.mono (by decide)) (a0c (pv 1) (a0c (pv 3) a0f))) (c0s K (n:=3) rfl (a0o (a0n (i:=4) i0c.nd rfl (by first | exact Or.inl rfl | exact Or.inr rfl)) (a0o (a0n (i:=5) i0c.nd rfl (by first | exact Or.inl rfl | exact Or.inr rfl)) (a0o (a0n (i:=6) i0c.nd rfl (by first | exact Or.inl rfl | exact Or.inr rfl)) c0r)))))
  (a0l (h0t bR rfl (g0s rfl B.range_ (a0c a0r a0f)) (a0n (i:=7) i0c.nd rfl (by first | exact Or.inl rfl | exact Or.inr rfl))
  (a0h (c0k (i:=8) i0c.nd rfl (by first | exact Or.inl rfl | exact Or.inr rfl) (b0m (o0i rfl) rfl B.max_ d1j (a0c a0r (a0c (b0m (k0y rfl) rfl B.min_ x0v (a0c a0r (a0c (c0i g0e (c0i s0b (pv 5) a0r) (c0v g_law_draw (hr.mono (by decide)) (a0c (pv 1) (a0c a0r a0f)))) a0f))) a0f))))
  (a0h (c0k (i:=9) i0c.nd rfl (by first | exact Or.inl rfl | exact Or.inr rfl) (c0v g_tried (hr.mono (by decide)) (a0c (d0e (a0c (pv 4) (a0c (c0v g_law_other (hr.mono (by decide)) (a0c (pv 1) (a0c (pv 4) (a0c (pv 6) a0f)))) a0f))) (a0c (g0j (g0t K hr.units) (c0v g_law_draw (hr.mono (by decide)) (a0c (pv 1) (a0c a0r a0f))) a0r (d0d _)) (a0c (pv 8) a0f)))))
  (a0l (f0h (l0y (f0g K (d0w (b0j K) (pv 9) a0r (fun _ _=>rfl)) (fun _=>rfl)))
  (a0l (h0t bR rfl (e0r K (k0j (a0c (pv 5) (a0c (b0m (k0y rfl) rfl B.min_ x0v (a0c a0r (a0c (c0i g0e (pv 5) a0r) a0f))) a0f)))) (a0n (i:=10) i0c.nd rfl (by first | exact Or.inl rfl | exact Or.inr rfl))
  (a0h (f0h (c0o s0f (c0v g_shown (hr.mono (by decide)) (a0c (d0e (a0c (pv 4) (a0c (pv 6) a0f))) (a0c e0u (a0c (pv 10) (a0c (d0w (b0j K) (pv 9) a0r (fun _ _=>rfl)) a0f))))) e0u (d0d _))
  (a0l (b0f e0u))
  c0e)
  (a0l (f0h (PW.pt (p0f (f0g K (pv 3) (fun _=>rfl)) (l0i (c0o s0f (c0v g_shown (hr.mono (by decide)) (a0c (d0e (a0c (pv 4) (a0c (pv 6) a0f))) (a0c e0u (a0c (pv 10) (a0c (d0w (b0j K) (pv 9) a0r (fun _ _=>rfl)) a0f))))) e0u (d0d _)))))
  (a0l (b0f e0u))
  c0e)))))
  c0e)))))))))
  (a0l (b0f e0u)))),(a0k (c0b (a0q (a0a a0b a0d)) rfl)
  (a0k (f0n (pin:=(fun _=>false)) (g0m (a0a a0p a0d)) (a0i rfl)
  (a0k (c0b (a0m g0u (a0q (a0a a0b (a0a a0p a0d))) a0p) rfl)
  (a0k (g0f (a0q (a0a a0b (a0a a0b a0d))) (b0s (a0j (a0i rfl) (a0j (a0i rfl) (a0j (a0i rfl) b0i (fun _ _ _=>a0w)) (fun _ _ _=>a0w)) (fun _ _ _=>a0w))))
  (f0n (pin:=(fun _=>false)) (g0m (a0a a0p a0d)) (a0i rfl)
  (a0k (c0b (c0t r0l (a0a a0p (a0a (c0t m0t (a0a a0p (a0a (a0m d0c (a0m d0c a0b a0p) (a0q (a0a a0b (a0a a0p a0d)))) a0d))) a0d))) rfl)
  (a0k (c0b (a0q (a0a (c0d (a0a a0b (a0a (a0q (a0a a0b (a0a a0b (a0a a0b a0d)))) a0d))) (a0a (a0m g0u (a0q (a0a a0b (a0a a0p a0d))) a0p) (a0a a0b a0d)))) rfl)
  (d0o (g0b (g0a (a0m c0l a0b a0p)))
  (f0n (pin:=(fun _=>false)) (d0j (g0z (a0a a0b (a0a (c0t m0t (a0a a0p (a0a (a0m d0c a0b a0p) a0d))) a0d)))) (a0i rfl)
  (a0k (d0o (b0h (a0m x0b (a0q (a0a (c0d (a0a a0b (a0a a0b a0d))) (a0a c0y (a0a a0b (a0a (a0m c0l a0b a0p) a0d))))) c0y))
  (a0u c0y)
  b0t)
  (d0o (k0a (g0a a0b) (b0h (a0m x0b (a0q (a0a (c0d (a0a a0b (a0a a0b a0d))) (a0a c0y (a0a a0b (a0a (a0m c0l a0b a0p) a0d))))) c0y)))
  (a0u c0y)
  b0t)))
  b0t)))))))
  (a0u c0y)))⟩) ?_
 rintro ss q ⟨ns,hl,rfl,hq⟩
 refine⟨rfl,rfl,rfl,ns,rfl,?_⟩
 dsimp only[stS,pt,back,R.frz]
 have dI:∀ {i:Int},D.depth (.int i)<=60:=fun{i}=>by simp[D.depth]
 refine cutS (fun ρ=>∃s0 n' s2 s3 s4 s5 s6 s7 s8 s9 s10,ρ=[s0,.tp n',s2,s3,s4,s5,s6,s7,s8,s9,s10]) (fun M hM=>⟨⟨by decide,by decide⟩,?_⟩) ?_
 ·refine q0y (fun k ρ=>∃s0 n' s2 s3 s4 s5 s6 s7 s8 s9 s10,n'<=200*k/\ρ=[s0,.tp n',s2,s3,s4,s5,s6,s7,s8,s9,s10]) (fun _ _ _=>trivial) ?_ (fun ρ ⟨s0,n',s2,s3,s4,s5,s6,s7,s8,s9,s10,_,e⟩=>hM ρ ⟨s0,n',s2,s3,s4,s5,s6,s7,s8,s9,s10,e⟩) ⟨_,0,.un,.un,.un,.un,.un,.un,.un,.un,.un,bg _,rfl⟩
  rintro k _ N hk ⟨s0,n',s2,s3,s4,s5,s6,s7,s8,s9,s10,hn',rfl⟩ hN
  have hk':k<4:=hk
  refine gaN1 ?_
  generalize Sv.vl (D.int (0+(k:Int)))=s2
  show aSeq _ _ _ [s0,.tp n',s2,s3,s4,s5,s6,s7,s8,s9,s10]
  refine cutS (fun ρ=>∃cl,ρ=[s0,.tp (n'+1),s2,.vl (.bl cl),s4,s5,s6,s7,s8,s9,s10]) (fun M hM=>⟨rfl,n',2,rfl,by omega,Dv.small (by decide) (by decide),fun x hx=>e0a rfl rfl dI rfl (hM _ ⟨_,rfl⟩)⟩) ?_
  rintro _ ⟨cl,rfl⟩
  refine cutS (fun ρ=>∃m j n2 W,1<=m/\m<=4/\j<=11/\n2<=n'+61/\j0n m W 8/\i0s m cl j W/\ρ=[s0,.tp n2,s2,.vl (.bl cl),nv m,nv j,.vl (.tup (a0e W)),s7,s8,s9,s10]) (fun M hM=>⟨rfl,n'+1,cl,rfl,by omega,fun m j n2 W h1 h4 hj hn2 hW hR=>hM _ ⟨m,j,n2,W,h1,h4,hj,by omega,hW,hR,rfl⟩⟩) ?_
  rintro _ ⟨m,j,n2,W,h1,h4,hj,hn2,hW,hR,rfl⟩
  have ok:=hW.ok h1 h4 (by decide)
  refine⟨⟨by decide,by decide⟩,?_⟩
  refine q0y (fun k ρ=>∃n3 s7 s8 s9 s10,n3<=n2+10*k/\ρ=[s0,.tp n3,s2,.vl (.bl cl),nv m,nv j,.vl (.tup (a0e W)),s7,s8,s9,s10]) (fun _ _ _=>trivial) ?_ ?_ ⟨n2,s7,s8,s9,s10,aE _,rfl⟩
  ·rintro k3 _ N3 hk3 ⟨n3,s7,s8,s9,s10,hn3,rfl⟩ hN3
   have hk3':k3<3:=hk3
   refine gaN1 ?_
   generalize Sv.vl (D.int (0+(k3:Int)))=s7
   show aSeq _ _ _ [s0,.tp n3,s2,.vl (.bl cl),nv m,nv j,.vl (.tup (a0e W)),s7,s8,s9,s10]
   refine cutS (fun ρ=>∃n:Nat,n<=11/\ρ=[s0,.tp (n3+1),s2,.vl (.bl cl),nv m,nv j,.vl (.tup (a0e W)),s7,nv n,s9,s10]) (fun M hM=>⟨rfl,n3,4,rfl,by omega,Dv.small (by decide) (by decide),fun x hx=>?_⟩) ?_
   ·have key:∀z:Int,0<=z->z<=11->M [s0,.tp (n3+1),s2,.vl (.bl cl),nv m,nv j,.vl (.tup (a0e W)),s7,.vl (.int z),s9,s10]:=fun z h1 h2=>by
     obtain⟨n,rfl⟩:=dB h1
     exact hM _ ⟨n,by omega,rfl⟩
    have e:∀i:Int,M [s0,.tp (n3+1),s2,.vl (.bl cl),nv m,nv j,.vl (.tup (a0e W)),s7,.vl (.int (if(if i<11 then i else 11) > 0 then(if i<11 then i else 11)else 0)),s9,s10]:=fun i=>key _ (by split <;> omega) (by split <;> (try split) <;> omega)
    exact e _
   rintro _ ⟨n,hn,rfl⟩
   refine cutS (fun ρ=>∃W' cl',j0n m W' 9/\ρ=[s0,.tp (n3+5),s2,.vl (.bl cl),nv m,nv j,.vl (.tup (a0e W)),s7,nv n,.vl (l0w m W' cl' n),s10]) (fun M hM=>?_) ?_
   ·refine⟨rfl,n3+1,m,W,rfl,by omega,h1,h4,hW,fun W' hW'=>?_⟩
    refine⟨by simp,rfl,n3+4,2,rfl,by omega,Dv.small (by decide) (by decide),fun x hx=>e0a rfl rfl dI rfl ?_⟩
    exact⟨rfl,m,W',_,n,rfl,hW'.ok h1 h4 (by decide),k1u h4 hn,hM _ ⟨W',_,hW',rfl⟩⟩
   rintro _ ⟨W',cl',hW',rfl⟩
   have fin:∀s10,N3 [s0,.tp (n3+5),s2,.vl (.bl cl),nv m,nv j,.vl (.tup (a0e W)),s7,nv n,.vl (l0w m W' cl' n),s10]:=fun s10=>hN3 _ ⟨n3+5,s7,_,_,s10,by omega,rfl⟩
   have ok':=hW'.ok h1 h4 (by decide)
   cases e:srN W' cl' n (a0y m) []with
   | inl L =>
    have f:=fin s10
    rw[z0w e]at f ⊢
    exact k0u rfl (f0a (j:=0) rfl) f
   | inr p =>
    have hdp:=n0l (a1m (w0z ok'.m6) e)
    rw[z0v e]at fin ⊢
    refine k0u rfl (f0a (j:=0) rfl) ⟨show 2<=1000000 by decide,?_⟩
    refine x0n D.int (xs:=[(j:Int),if((j:Int)+1)<11 then(j:Int)+1 else 11]) (fun _ ρ=>∃s10,ρ=[s0,.tp (n3+5),s2,.vl (.bl cl),nv m,nv j,.vl (.tup (a0e W)),s7,nv n,.vl (.tup [.bl false,p]),s10]) (fun _ _ _=>trivial) ?_ (fun ρ ⟨s10,e⟩=>by rw[e];exact fin s10) ⟨s10,rfl⟩
    rintro k4 z _ N4 hz ⟨s10,rfl⟩ hN4
    have hz':(j:Int)<=z/\z<=11:=by
     have:=bz hz
     simp only[aK,bF,or_false]at this
     rcases this with rfl | rfl
     ·omega
     ·split <;> omega
    obtain⟨z,rfl⟩:=dB (show 0<=z by omega)
    refine gaN1 ?_
    show aSeq _ _ _ [s0,.tp (n3+5),s2,.vl (.bl cl),nv m,nv j,.vl (.tup (a0e W)),s7,nv n,.vl (.tup [.bl false,p]),nv z]
    obtain⟨t,ex,hl,hWt⟩:=hR
    refine cutS (fun ρ=>ρ=[s0,.tp (n3+5),s2,.vl (.bl cl),nv m,nv j,.vl (.tup (a0e W)),s7,nv n,.vl (.tup [.bl false,p]),nv z]) (fun M hM=>?_) ?_
    ·refine⟨by simp,k0u rfl (f0a (j:=1) rfl) ⟨rfl,m,z,W,false,p,rfl,ok,by omega,by omega,?_⟩⟩
     rw[x0f ok (by cases cl with | true=>exact ex.weak | false=>exact ex) (by omega) hWt]
     exact hM _ rfl
    rintro _ rfl
    cases cl with
    | false=>exact hN4 _ ⟨_,rfl⟩
    | true =>
     refine⟨by simp,k0u rfl (f0a (j:=1) rfl) ⟨rfl,m,z,W,true,p,rfl,ok,by omega,by omega,?_⟩⟩
     rw[x0f ok ex (by omega) hWt]
     exact hN4 _ ⟨_,rfl⟩
  ·rintro _ ⟨n3,s7,s8,s9,s10,hn3,rfl⟩
   exact hN _ ⟨s0,n3,s2,_,_,_,_,s7,s8,s9,s10,by omega,rfl⟩
 rintro _ ⟨s0,n',s2,s3,s4,s5,s6,s7,s8,s9,s10,rfl⟩
 exact hq _
theorem fin (d_is_tuple:DefN K mg "is_tuple" i0z ["thing", "least", "most"])(d_joined:DefN K mg "joined" m0m ["one", "other"])(d_own_rows:DefN K mg "own_rows" g0p ["many"])(d_joining:DefN K mg "joining" k0h ["one", "other"])(d_all_words:DefN K mg "all_words" h0f ["net", "words"])(d_rows_of:DefN K mg "rows_of" k0g ["net"])(d_shown:DefN K mg "shown" q0j ["wish", "clean", "count", "paper"])(d_first_cases:DefN K mg "first_cases" f0q ["wish", "clean", "count"])(d_may_join:DefN K mg "may_join" i0w ["clean", "one", "other"])(d_tidied:DefN K mg "tidied" k0f ["net"])(d_first_alike:DefN K mg "first_alike" f0r ["rows"])(d_leant_on:DefN K mg "leant_on" g0q ["net", "stands"])(d_tried:DefN K mg "tried" q0i ["wish", "clean", "count"])(d_is_tried:DefN K mg "is_tried" j0a ["many", "count"])(d_searched:DefN K mg "searched" i0v ["cases"])(d_searched_made:DefN K mg "searched_made" e0q ["cases", "row"])(d_searched_next:DefN K mg "searched_next" e0p ["cases", "free"])(d_net_of_rows:DefN K mg "net_of_rows" d0v ["wish", "clean", "known"])(d_first_joining:DefN K mg "first_joining" d0s ["things", "row", "clean"])(d_law_tape:DefN K mg "_law_tape" i0x ["_law_script"])(d_law_draw:DefN K mg "_law_draw" i0y ["_law_tape_here", "_law_many"])(d_law_net:DefN K mg "_law_net" g0r ["_law_tape_here", "_law_clean"])(d_law_other:DefN K mg "_law_other" h0e ["_law_tape_here", "_law_many", "_law_outs"])(d_law:DefN K mg "law" e1j ["_law_script"])(c_FEW_GIVENS:∃u,mg "FEW_GIVENS" = some u/\RelV (.int 4) u)(c_FEW_GIVENS_COUNT:∃u,mg "FEW_GIVENS_COUNT" = some u/\RelV (.int 11) u)(c_MORE_GIVENS:∃u,mg "MORE_GIVENS" = some u/\RelV (.int 6) u)(c_MORE_GIVENS_COUNT:∃u,mg "MORE_GIVENS_COUNT" = some u/\RelV (.int 3) u)(oc_Cases:∃C_Cases:Addr,ClsO K mg C_Cases "Cases" ["wished", "clean", "known", "shut", "left"]/\DefM K C_Cases "__init__" "Cases.__init__" b0z ["self", "wished", "clean", "known", "shut", "left"]/\DefM K C_Cases "with_row" "Cases.with_row" b0x ["self", "row", "shut"]/\DefM K C_Cases "lacking" "Cases.lacking" b0u ["self"]/\DefM K C_Cases "free_rows" "Cases.free_rows" b0e ["self"]/\DefM K C_Cases "lacks_too_many" "Cases.lacks_too_many" b0d ["self"]/\DefM K C_Cases "is_far" "Cases.is_far" b0p ["self", "row"]/\DefM K C_Cases "shown_by" "Cases.shown_by" b0y ["self", "paper"]/\DefM K C_Cases "shown_far" "Cases.shown_far" b0q ["self", "row"]/\DefM K C_Cases "shown_made" "Cases.shown_made" b0l ["self", "row", "paper"]/\DefM K C_Cases "shown_next" "Cases.shown_next" b0k ["self", "papers"])(B:BI mg):OkN P w K mg base 32 "law" ["_law_script"] (h1u K):=by
 obtain⟨C_Cases,o_Cases,d_Cases___init__,d_Cases_with_row,d_Cases_lacking,d_Cases_free_rows,d_Cases_lacks_too_many,d_Cases_is_far,d_Cases_shown_by,d_Cases_shown_far,d_Cases_shown_made,d_Cases_shown_next⟩:=oc_Cases
 have ob_Cases:=b1r (P:=P) (w:=w) (base:=base) o_Cases d_Cases___init__
 exact
 have g_law_tape:=u0q d_law_tape B
 have g_law_draw:=u0r d_law_draw B
 have g_is_tuple:=u0s d_is_tuple B
 have g_joined:=b1o d_joined B
 have g_own_rows:=u0n d_own_rows B
 have g_may_join:=u0o d_may_join B
 have g_Cases_with_row:=l0j ob_Cases d_Cases_with_row B
 have g_Cases_lacking:=m0d ob_Cases d_Cases_lacking B
 have g_Cases_lacks_too_many:=h0i ob_Cases d_Cases_lacks_too_many B g_Cases_lacking
 have g_first_cases:=o0p ob_Cases d_first_cases B g_own_rows
 have g_Cases_free_rows:=k0p ob_Cases d_Cases_free_rows B g_joined g_may_join
 have g_Cases_is_far:=n0o ob_Cases d_Cases_is_far B g_joined g_may_join
 have g_Cases_shown_far:=k0o ob_Cases d_Cases_shown_far B g_Cases_is_far g_Cases_lacking
 have z0_Cases_shown_by:=d_Cases_shown_by.no (P:=P) (w:=w) (mg:=mg) (base:=base) g0o 3
 have y0_Cases_shown_made:=a0t 0 0 ob_Cases d_Cases_shown_made B g_Cases_lacking g_Cases_free_rows g_Cases_with_row z0_Cases_shown_by
 have y0_Cases_shown_next:=a0s 0 0 ob_Cases d_Cases_shown_next B g_Cases_free_rows g_is_tuple g_Cases_lacking g_Cases_with_row z0_Cases_shown_by
 have z1_Cases_shown_by:=a0v 0 0 ob_Cases d_Cases_shown_by B g_is_tuple g_Cases_lacks_too_many g_Cases_shown_far y0_Cases_shown_made y0_Cases_shown_next
 have y1_Cases_shown_made:=a0t 1 2 ob_Cases d_Cases_shown_made B g_Cases_lacking g_Cases_free_rows g_Cases_with_row z1_Cases_shown_by
 have y1_Cases_shown_next:=a0s 1 2 ob_Cases d_Cases_shown_next B g_Cases_free_rows g_is_tuple g_Cases_lacking g_Cases_with_row z1_Cases_shown_by
 have z2_Cases_shown_by:=a0v 1 2 ob_Cases d_Cases_shown_by B g_is_tuple g_Cases_lacks_too_many g_Cases_shown_far y1_Cases_shown_made y1_Cases_shown_next
 have y2_Cases_shown_made:=a0t 2 4 ob_Cases d_Cases_shown_made B g_Cases_lacking g_Cases_free_rows g_Cases_with_row z2_Cases_shown_by
 have y2_Cases_shown_next:=a0s 2 4 ob_Cases d_Cases_shown_next B g_Cases_free_rows g_is_tuple g_Cases_lacking g_Cases_with_row z2_Cases_shown_by
 have z3_Cases_shown_by:=a0v 2 4 ob_Cases d_Cases_shown_by B g_is_tuple g_Cases_lacks_too_many g_Cases_shown_far y2_Cases_shown_made y2_Cases_shown_next
 have y3_Cases_shown_made:=a0t 3 6 ob_Cases d_Cases_shown_made B g_Cases_lacking g_Cases_free_rows g_Cases_with_row z3_Cases_shown_by
 have y3_Cases_shown_next:=a0s 3 6 ob_Cases d_Cases_shown_next B g_Cases_free_rows g_is_tuple g_Cases_lacking g_Cases_with_row z3_Cases_shown_by
 have z4_Cases_shown_by:=a0v 3 6 ob_Cases d_Cases_shown_by B g_is_tuple g_Cases_lacks_too_many g_Cases_shown_far y3_Cases_shown_made y3_Cases_shown_next
 have y4_Cases_shown_made:=a0t 4 8 ob_Cases d_Cases_shown_made B g_Cases_lacking g_Cases_free_rows g_Cases_with_row z4_Cases_shown_by
 have y4_Cases_shown_next:=a0s 4 8 ob_Cases d_Cases_shown_next B g_Cases_free_rows g_is_tuple g_Cases_lacking g_Cases_with_row z4_Cases_shown_by
 have z5_Cases_shown_by:=a0v 4 8 ob_Cases d_Cases_shown_by B g_is_tuple g_Cases_lacks_too_many g_Cases_shown_far y4_Cases_shown_made y4_Cases_shown_next
 have y5_Cases_shown_made:=a0t 5 10 ob_Cases d_Cases_shown_made B g_Cases_lacking g_Cases_free_rows g_Cases_with_row z5_Cases_shown_by
 have y5_Cases_shown_next:=a0s 5 10 ob_Cases d_Cases_shown_next B g_Cases_free_rows g_is_tuple g_Cases_lacking g_Cases_with_row z5_Cases_shown_by
 have z6_Cases_shown_by:=a0v 5 10 ob_Cases d_Cases_shown_by B g_is_tuple g_Cases_lacks_too_many g_Cases_shown_far y5_Cases_shown_made y5_Cases_shown_next
 have y6_Cases_shown_made:=a0t 6 12 ob_Cases d_Cases_shown_made B g_Cases_lacking g_Cases_free_rows g_Cases_with_row z6_Cases_shown_by
 have y6_Cases_shown_next:=a0s 6 12 ob_Cases d_Cases_shown_next B g_Cases_free_rows g_is_tuple g_Cases_lacking g_Cases_with_row z6_Cases_shown_by
 have z7_Cases_shown_by:=a0v 6 12 ob_Cases d_Cases_shown_by B g_is_tuple g_Cases_lacks_too_many g_Cases_shown_far y6_Cases_shown_made y6_Cases_shown_next
 have y7_Cases_shown_made:=a0t 7 14 ob_Cases d_Cases_shown_made B g_Cases_lacking g_Cases_free_rows g_Cases_with_row z7_Cases_shown_by
 have y7_Cases_shown_next:=a0s 7 14 ob_Cases d_Cases_shown_next B g_Cases_free_rows g_is_tuple g_Cases_lacking g_Cases_with_row z7_Cases_shown_by
 have z8_Cases_shown_by:=a0v 7 14 ob_Cases d_Cases_shown_by B g_is_tuple g_Cases_lacks_too_many g_Cases_shown_far y7_Cases_shown_made y7_Cases_shown_next
 have y8_Cases_shown_made:=a0t 8 16 ob_Cases d_Cases_shown_made B g_Cases_lacking g_Cases_free_rows g_Cases_with_row z8_Cases_shown_by
 have y8_Cases_shown_next:=a0s 8 16 ob_Cases d_Cases_shown_next B g_Cases_free_rows g_is_tuple g_Cases_lacking g_Cases_with_row z8_Cases_shown_by
 have z9_Cases_shown_by:=a0v 8 16 ob_Cases d_Cases_shown_by B g_is_tuple g_Cases_lacks_too_many g_Cases_shown_far y8_Cases_shown_made y8_Cases_shown_next
 have y9_Cases_shown_made:=a0t 9 18 ob_Cases d_Cases_shown_made B g_Cases_lacking g_Cases_free_rows g_Cases_with_row z9_Cases_shown_by
 have y9_Cases_shown_next:=a0s 9 18 ob_Cases d_Cases_shown_next B g_Cases_free_rows g_is_tuple g_Cases_lacking g_Cases_with_row z9_Cases_shown_by
 have z10_Cases_shown_by:=a0v 9 18 ob_Cases d_Cases_shown_by B g_is_tuple g_Cases_lacks_too_many g_Cases_shown_far y9_Cases_shown_made y9_Cases_shown_next
 have y10_Cases_shown_made:=a0t 10 20 ob_Cases d_Cases_shown_made B g_Cases_lacking g_Cases_free_rows g_Cases_with_row z10_Cases_shown_by
 have y10_Cases_shown_next:=a0s 10 20 ob_Cases d_Cases_shown_next B g_Cases_free_rows g_is_tuple g_Cases_lacking g_Cases_with_row z10_Cases_shown_by
 have z11_Cases_shown_by:=a0v 10 20 ob_Cases d_Cases_shown_by B g_is_tuple g_Cases_lacks_too_many g_Cases_shown_far y10_Cases_shown_made y10_Cases_shown_next
 have y11_Cases_shown_made:=a0t 11 22 ob_Cases d_Cases_shown_made B g_Cases_lacking g_Cases_free_rows g_Cases_with_row z11_Cases_shown_by
 have y11_Cases_shown_next:=a0s 11 22 ob_Cases d_Cases_shown_next B g_Cases_free_rows g_is_tuple g_Cases_lacking g_Cases_with_row z11_Cases_shown_by
 have z12_Cases_shown_by:=a0v 11 22 ob_Cases d_Cases_shown_by B g_is_tuple g_Cases_lacks_too_many g_Cases_shown_far y11_Cases_shown_made y11_Cases_shown_next
 have y12_Cases_shown_made:=a0t 12 24 ob_Cases d_Cases_shown_made B g_Cases_lacking g_Cases_free_rows g_Cases_with_row z12_Cases_shown_by
 have y12_Cases_shown_next:=a0s 12 24 ob_Cases d_Cases_shown_next B g_Cases_free_rows g_is_tuple g_Cases_lacking g_Cases_with_row z12_Cases_shown_by
 have z13_Cases_shown_by:=a0v 12 24 ob_Cases d_Cases_shown_by B g_is_tuple g_Cases_lacks_too_many g_Cases_shown_far y12_Cases_shown_made y12_Cases_shown_next
 have g_Cases_shown_by:=z13_Cases_shown_by
 have z0_searched:=d_searched.no (P:=P) (w:=w) (mg:=mg) (base:=base) e0y 3
 have y0_searched_made:=b0c 0 0 ob_Cases d_searched_made B g_Cases_with_row z0_searched
 have y0_searched_next:=b0b 0 0 ob_Cases d_searched_next B g_Cases_with_row z0_searched
 have z1_searched:=c0c 0 0 ob_Cases d_searched B g_Cases_lacking g_Cases_lacks_too_many g_Cases_free_rows g_Cases_is_far y0_searched_next y0_searched_made
 have y1_searched_made:=b0c 1 2 ob_Cases d_searched_made B g_Cases_with_row z1_searched
 have y1_searched_next:=b0b 1 2 ob_Cases d_searched_next B g_Cases_with_row z1_searched
 have z2_searched:=c0c 1 2 ob_Cases d_searched B g_Cases_lacking g_Cases_lacks_too_many g_Cases_free_rows g_Cases_is_far y1_searched_next y1_searched_made
 have y2_searched_made:=b0c 2 4 ob_Cases d_searched_made B g_Cases_with_row z2_searched
 have y2_searched_next:=b0b 2 4 ob_Cases d_searched_next B g_Cases_with_row z2_searched
 have z3_searched:=c0c 2 4 ob_Cases d_searched B g_Cases_lacking g_Cases_lacks_too_many g_Cases_free_rows g_Cases_is_far y2_searched_next y2_searched_made
 have y3_searched_made:=b0c 3 6 ob_Cases d_searched_made B g_Cases_with_row z3_searched
 have y3_searched_next:=b0b 3 6 ob_Cases d_searched_next B g_Cases_with_row z3_searched
 have z4_searched:=c0c 3 6 ob_Cases d_searched B g_Cases_lacking g_Cases_lacks_too_many g_Cases_free_rows g_Cases_is_far y3_searched_next y3_searched_made
 have y4_searched_made:=b0c 4 8 ob_Cases d_searched_made B g_Cases_with_row z4_searched
 have y4_searched_next:=b0b 4 8 ob_Cases d_searched_next B g_Cases_with_row z4_searched
 have z5_searched:=c0c 4 8 ob_Cases d_searched B g_Cases_lacking g_Cases_lacks_too_many g_Cases_free_rows g_Cases_is_far y4_searched_next y4_searched_made
 have y5_searched_made:=b0c 5 10 ob_Cases d_searched_made B g_Cases_with_row z5_searched
 have y5_searched_next:=b0b 5 10 ob_Cases d_searched_next B g_Cases_with_row z5_searched
 have z6_searched:=c0c 5 10 ob_Cases d_searched B g_Cases_lacking g_Cases_lacks_too_many g_Cases_free_rows g_Cases_is_far y5_searched_next y5_searched_made
 have y6_searched_made:=b0c 6 12 ob_Cases d_searched_made B g_Cases_with_row z6_searched
 have y6_searched_next:=b0b 6 12 ob_Cases d_searched_next B g_Cases_with_row z6_searched
 have z7_searched:=c0c 6 12 ob_Cases d_searched B g_Cases_lacking g_Cases_lacks_too_many g_Cases_free_rows g_Cases_is_far y6_searched_next y6_searched_made
 have y7_searched_made:=b0c 7 14 ob_Cases d_searched_made B g_Cases_with_row z7_searched
 have y7_searched_next:=b0b 7 14 ob_Cases d_searched_next B g_Cases_with_row z7_searched
 have z8_searched:=c0c 7 14 ob_Cases d_searched B g_Cases_lacking g_Cases_lacks_too_many g_Cases_free_rows g_Cases_is_far y7_searched_next y7_searched_made
 have y8_searched_made:=b0c 8 16 ob_Cases d_searched_made B g_Cases_with_row z8_searched
 have y8_searched_next:=b0b 8 16 ob_Cases d_searched_next B g_Cases_with_row z8_searched
 have z9_searched:=c0c 8 16 ob_Cases d_searched B g_Cases_lacking g_Cases_lacks_too_many g_Cases_free_rows g_Cases_is_far y8_searched_next y8_searched_made
 have y9_searched_made:=b0c 9 18 ob_Cases d_searched_made B g_Cases_with_row z9_searched
 have y9_searched_next:=b0b 9 18 ob_Cases d_searched_next B g_Cases_with_row z9_searched
 have z10_searched:=c0c 9 18 ob_Cases d_searched B g_Cases_lacking g_Cases_lacks_too_many g_Cases_free_rows g_Cases_is_far y9_searched_next y9_searched_made
 have y10_searched_made:=b0c 10 20 ob_Cases d_searched_made B g_Cases_with_row z10_searched
 have y10_searched_next:=b0b 10 20 ob_Cases d_searched_next B g_Cases_with_row z10_searched
 have z11_searched:=c0c 10 20 ob_Cases d_searched B g_Cases_lacking g_Cases_lacks_too_many g_Cases_free_rows g_Cases_is_far y10_searched_next y10_searched_made
 have y11_searched_made:=b0c 11 22 ob_Cases d_searched_made B g_Cases_with_row z11_searched
 have y11_searched_next:=b0b 11 22 ob_Cases d_searched_next B g_Cases_with_row z11_searched
 have z12_searched:=c0c 11 22 ob_Cases d_searched B g_Cases_lacking g_Cases_lacks_too_many g_Cases_free_rows g_Cases_is_far y11_searched_next y11_searched_made
 have y12_searched_made:=b0c 12 24 ob_Cases d_searched_made B g_Cases_with_row z12_searched
 have y12_searched_next:=b0b 12 24 ob_Cases d_searched_next B g_Cases_with_row z12_searched
 have z13_searched:=c0c 12 24 ob_Cases d_searched B g_Cases_lacking g_Cases_lacks_too_many g_Cases_free_rows g_Cases_is_far y12_searched_next y12_searched_made
 have g_searched:=z13_searched
 have g_joining:=y0n d_joining B
 have g_all_words:=s0h d_all_words B g_joined
 have g_rows_of:=y0l d_rows_of B g_all_words g_own_rows
 have g_first_alike:=o0q d_first_alike B
 have g_leant_on:=u0p d_leant_on B
 have g_tidied:=b1n d_tidied B g_first_alike g_leant_on g_rows_of g_joining
 have g_first_joining:=m0c d_first_joining B g_may_join g_joined
 have g_net_of_rows:=o0o d_net_of_rows B g_tidied g_first_joining
 have g_is_tried:=u0t d_is_tried B c_FEW_GIVENS_COUNT c_MORE_GIVENS_COUNT c_FEW_GIVENS c_MORE_GIVENS
 have g_tried:=f1b d_tried B g_searched g_is_tried g_first_cases g_net_of_rows
 have g_shown:=f1c ob_Cases d_shown B g_Cases_shown_by g_first_cases
 have g_law_other:=s0g d_law_other B g_law_draw
 have g_law_net:=y0m d_law_net B g_law_draw
 have g_law:=m1b d_law B g_law_tape g_law_net g_law_draw g_tried g_law_other g_shown
 m1g g_law
end
end K82
namespace PySem.W.Fast
def tw12189885487255100011:=()
def tw11515196746296774220:=()
def tw445754371647716395:=()
def tw17516451409419129106:=()
def tw8712323695332053115:=()
def tw14681813633654211353:=()
def tw11211382134901729386:=()
def tw5884778658840817178:=()
def tw8420823961290755702:=()
def tw9168987372011520794:=()
def tw4712785090835007989:=()
def tw16112774425730474199:=()
def tw12244071218051008825:=()
def tw12924934370101375300:=()
def tw6836497646649267759:=()
def tw6226640555217847634:=()
def tw11215428092732068895:=()
def tw16062572080131488265:=()
def tw8346784375396120716:=()
def tw8001803968101915112:=()
def tw11437940386563431872:=()
def tw4078087929881249457:=()
def tw18182100394231050282:=()
def tw7148692117332028015:=()
def tw6800660455948287955:=()
def tw3820276613724115890:=()
def tw11818812585154046605:=()
def tw4852720109156309189:=()
def tw1643945344722416110:=()
def tw11427041759457715806:=()
def tw12053723612699102816:=()
def tw9249260235849842717:=()
def tw6368726950148741995:=()
def tw9001875030384842419:=()
def tw9605738100106248620:=()
def tw3999718979915809416:=()
def tw4944340351715784848:=()
def tw1631731144850906675:=()
def tw8414494831423521459:=()
def tw8513589212721397963:=()
def tw7890734220585956702:=()
def tw9807245377353965481:=()
def tw10919695460029110945:=()
def tw8025425601130630997:=()
def tw6180038912957659068:=()
def tw911307584250315261:=()
def tw16917239272377908198:=()
def tw416677816171613112:=()
def tw17797077157896960339:=()
def tw4650915219286318026:=()
def tw2946987214210615736:=()
def tw17751230961081747490:=()
def tw12131548594975944843:=()
def tw2888575574976125966:=()
def tw12974052510333396567:=()
def tw1798236242822340518:=()
def tw10191588789948023600:=()
def tw11136189036200065668:=()
def tw228478750315375570:=()
def tw569737909962361506:=()
def tw4058559752816971374:=()
def tw7853111096273835475:=()
def tw611541510509151969:=()
def tw8007832388709617946:=()
def tw3461212658568736767:=()
def tw1657924479819043794:=()
def tw14530938248384357631:=()
def tw12285820757890395781:=()
def tw7150144669951444177:=()
def tw8283903672598118578:=()
def tw18120960126912262029:=()
def tw14013225669998996806:=()
def tw3849802794377657231:=()
def tw10365432499967483228:=()
def tw5741792843931681302:=()
def tw9186242288308019272:=()
def tw15869037954384964558:=()
def tw14386800936201591309:=()
def tw2803731990732332918:=()
def tw14982764459248858645:=()
def tw12742583030135167895:=()
def tw16474904520066041413:=()
def tw10283663157573605893:=()
def tw13900025196357646268:=()
def tw8178852297588528450:=()
def tw549167625925041025:=()
def tw13116749615178092896:=()
def tw14128861990154667378:=()
def tw14070029866696565923:=()
def tw2952019224306474145:=()
def tw2929539493551677759:=()
def tw18266802975440306195:=()
def tw15727492584721097000:=()
def tw15982372811297497522:=()
def tw4431834183372633298:=()
def tw2611396782468614816:=()
def tw14566690348355762004:=()
def tw4322426294404331828:=()
def tw7683823094660980315:=()
def tw11570116125862210197:=()
def tw637073395119756315:=()
def tw7967465325072335904:=()
def tw10519382748122853226:=()
def tw8032934676348698574:=()
def tw1874186976672077060:=()
def tw9152721772655090313:=()
def tw17310669339774533371:=()
def tw15832433402813892938:=()
def tw12580176754586595358:=()
def tw6455837092017784513:=()
def tw15022346504090066610:=()
def tw11306988923583395295:=()
def tw13772291083001240101:=()
def tw16092545050592918323:=()
def tw15371228443163789107:=()
def tw11163643289261440968:=()
def tw17722349099858050468:=()
def tw1919152148433784142:=()
def tw11789892620202302414:=()
def tw5898311838215922400:=()
def tw2441534825331851933:=()
def tw16810689894424086853:=()
def tw2495599499744788783:=()
def tw2842936422767698001:=()
def tw13933458800384080334:=()
def tw83631581331836497:=()
def tw1722615100907662827:=()
def tw6181758905337830964:=()
def tw15338192747415193986:=()
def tw2261280569852307208:=()
def tw6879687715424665459:=()
def tw1780673287350828456:=()
def tw5178085973189905321:=()
def tw4946220960437590050:=()
def tw5321349056208076710:=()
def tw9888667170757120234:=()
def tw2765717900639640636:=()
def tw3645801723609413860:=()
def tw7366365012223380249:=()
def tw6650524157496758487:=()
def tw12643718407519601298:=()
def tw12632004085257364608:=()
def tw14460648457681980467:=()
def tw6378774036461096024:=()
def tw13440752941805184261:=()
def tw8245719740781910746:=()
def tw7802320174910953216:=()
def tw9218229686338301191:=()
def tw14543932488609288450:=()
def tw18237242771187606368:=()
def tw6641800027791473918:=()
def tw1781249135804787777:=()
def tw5670721432418406814:=()
def tw17135806941805378315:=()
def tw3053762594028228259:=()
def tw7502643716112011500:=()
def tw2241549130301521177:=()
def tw9029225656421479319:=()
def tw4806456925851274178:=()
def tw6434017971641776248:=()
def tw7899960158988297823:=()
def tw12492153066423605781:=()
def tw5240820189134589986:=()
def tw17237882308503179310:=()
def tw7901693424146503845:=()
def tw13344251100607805426:=()
def tw10151108586289586403:=()
def tw2076954412835156428:=()
def tw11461349627274519839:=()
def tw13337739968457106659:=()
def tw8404949602186212694:=()
def tw10494346716454393378:=()
def tw4219437573141475121:=()
def tw10081237508886515826:=()
def tw3740202220187620556:=()
def tw5607649421779170228:=()
def tw6652619767507304685:=()
def tw11575907247715196177:=()
def tw12518717639798788155:=()
def tw474905422709651923:=()
def tw4664462204876930262:=()
def tw10616485039165017157:=()
def tw4320516356724063771:=()
def tw3479582444197350266:=()
def tw9389918064688938631:=()
def tw16186338963086745780:=()
def tw5278177846342277707:=()
def tw3814187071423109856:=()
def tw10987539993751246600:=()
def tw9935098096125458943:=()
def tw8006630996975085862:=()
def tw8836637299683261435:=()
def tw17887610496941820830:=()
def tw17896105918236501803:=()
def tw1168654084835740819:=()
def tw9920566448441433936:=()
def tw5137853459098129093:=()
def tw10564744684131429523:=()
def tw3553629393397625309:=()
def tw5882770932440753674:=()
def tw15945716793702815291:=()
def tw10090234927476787937:=()
def tw5688510078542266368:=()
def tw14241559789824431804:=()
def tw7359854241436803361:=()
def tw12240525235596451245:=()
def tw2955537029878695345:=()
def tw7183474342742819676:=()
def tw8582169383281255361:=()
def tw14773200156656927129:=()
def tw9384816400520121744:=()
def tw16958077681894497197:=()
def tw7305191747908136245:=()
def tw3987293294463176099:=()
def tw17545520323671759394:=()
def tw1829000585198825239:=()
def tw10455509356500641286:=()
def tw4615528916965718546:=()
def tw14901792721725391354:=()
def tw9562294453940999806:=()
def tw4726789078165030742:=()
def tw5386920560727624285:=()
def tw11589330915659323696:=()
def tw15484858873931460742:=()
def tw12860553751955303971:=()
def tw16955123672060034434:=()
def tw3894120386009885573:=()
def tw3426332373795617932:=()
def tw6820930921120699902:=()
def tw17802508412922243562:=()
def tw11668224332369601855:=()
def tw13608272650940935812:=()
def tw15528212402144648981:=()
def tw16343527176941973791:=()
def tw1360263629164913812:=()
def tw5769284116169091961:=()
def tw13165428338026532800:=()
def tw1638401318585159221:=()
def tw7803633716393180680:=()
def tw17887732151433818715:=()
def tw9721105084939697223:=()
def tw17492596627882351208:=()
def tw7339338429961768984:=()
def tw5084211046792088857:=()
def tw17767422802895929875:=()
def tw16266879080988950949:=()
def tw7060427498667851710:=()
def tw155226924714002221:=()
def tw7606612353316704513:=()
end PySem.W.Fast
open PySem PySem.W PyProof.Rows
set_option maxRecDepth 100000 in
set_option maxHeartbeats 0 in
theorem PySem.Challenge.cw_fewjoins_k82_whole_no_paper_against_a_ne_holds : PySem.Challenge.rw_fewjoins_k82_whole_no_paper_against_a_ne.Holds := by
 w_on;o_law;k_head;(case hw=>w_witness2)
 k_fill
 refine L2.d1v (l:=PySem.Challenge.rw_fewjoins_k82_whole_no_paper_against_a_ne) (n:=63) (k:=32) (x := "_law_script") (CX:=L2.CX0) (sp:=L2.h1u) rfl (by decide) rfl ⟨rfl,by decide,by decide,rfl⟩ (fun w h Y=>PySem.W.kIn_of Y) ?F ?S ?C
 case S=>exact fun K H a ns hl hO hS=>⟨a,ns,rfl,hS,hl,fun _=>rfl⟩
 case C=>exact fun H s e s' h=>h
 case F =>
  intro w mg fa h KX G hmg
  have d_is_tuple:L2.DefN (L2.KOf KX) mg "is_tuple" K82.i0z ["thing", "least", "most"]:=by
   dsimp only[L2.KOf]
   refine' L2.d0l KX G ?a ?l ?c ?k (fun _ _ _ _ _ _ us hl=>match us,hl with | [_,_,_],_=>rfl)
   (case a=>k_is);(case l=>k_is);(case c=>k_is);(case k=>k_is)
  have d_joined:L2.DefN (L2.KOf KX) mg "joined" K82.m0m ["one", "other"]:=by
   dsimp only[L2.KOf]
   refine' L2.d0l KX G ?a ?l ?c ?k (fun _ _ _ _ _ _ us hl=>match us,hl with | [_,_],_=>rfl)
   (case a=>k_is);(case l=>k_is);(case c=>k_is);(case k=>k_is)
  have d_own_rows:L2.DefN (L2.KOf KX) mg "own_rows" K82.g0p ["many"]:=by
   dsimp only[L2.KOf]
   refine' L2.d0l KX G ?a ?l ?c ?k (fun _ _ _ _ _ _ us hl=>match us,hl with | [_],_=>rfl)
   (case a=>k_is);(case l=>k_is);(case c=>k_is);(case k=>k_is)
  have d_joining:L2.DefN (L2.KOf KX) mg "joining" K82.k0h ["one", "other"]:=by
   dsimp only[L2.KOf]
   refine' L2.d0l KX G ?a ?l ?c ?k (fun _ _ _ _ _ _ us hl=>match us,hl with | [_,_],_=>rfl)
   (case a=>k_is);(case l=>k_is);(case c=>k_is);(case k=>k_is)
  have d_all_words:L2.DefN (L2.KOf KX) mg "all_words" K82.h0f ["net", "words"]:=by
   dsimp only[L2.KOf]
   refine' L2.d0l KX G ?a ?l ?c ?k (fun _ _ _ _ _ _ us hl=>match us,hl with | [_,_],_=>rfl)
   (case a=>k_is);(case l=>k_is);(case c=>k_is);(case k=>k_is)
  have d_rows_of:L2.DefN (L2.KOf KX) mg "rows_of" K82.k0g ["net"]:=by
   dsimp only[L2.KOf]
   refine' L2.d0l KX G ?a ?l ?c ?k (fun _ _ _ _ _ _ us hl=>match us,hl with | [_],_=>rfl)
   (case a=>k_is);(case l=>k_is);(case c=>k_is);(case k=>k_is)
  have d_shown:L2.DefN (L2.KOf KX) mg "shown" K82.q0j ["wish", "clean", "count", "paper"]:=by
   dsimp only[L2.KOf]
   refine' L2.d0l KX G ?a ?l ?c ?k (fun _ _ _ _ _ _ us hl=>match us,hl with | [_,_,_,_],_=>rfl)
   (case a=>k_is);(case l=>k_is);(case c=>k_is);(case k=>k_is)
  have d_first_cases:L2.DefN (L2.KOf KX) mg "first_cases" K82.f0q ["wish", "clean", "count"]:=by
   dsimp only[L2.KOf]
   refine' L2.d0l KX G ?a ?l ?c ?k (fun _ _ _ _ _ _ us hl=>match us,hl with | [_,_,_],_=>rfl)
   (case a=>k_is);(case l=>k_is);(case c=>k_is);(case k=>k_is)
  have d_may_join:L2.DefN (L2.KOf KX) mg "may_join" K82.i0w ["clean", "one", "other"]:=by
   dsimp only[L2.KOf]
   refine' L2.d0l KX G ?a ?l ?c ?k (fun _ _ _ _ _ _ us hl=>match us,hl with | [_,_,_],_=>rfl)
   (case a=>k_is);(case l=>k_is);(case c=>k_is);(case k=>k_is)
  have d_tidied:L2.DefN (L2.KOf KX) mg "tidied" K82.k0f ["net"]:=by
   dsimp only[L2.KOf]
   refine' L2.d0l KX G ?a ?l ?c ?k (fun _ _ _ _ _ _ us hl=>match us,hl with | [_],_=>rfl)
   (case a=>k_is);(case l=>k_is);(case c=>k_is);(case k=>k_is)
  have d_first_alike:L2.DefN (L2.KOf KX) mg "first_alike" K82.f0r ["rows"]:=by
   dsimp only[L2.KOf]
   refine' L2.d0l KX G ?a ?l ?c ?k (fun _ _ _ _ _ _ us hl=>match us,hl with | [_],_=>rfl)
   (case a=>k_is);(case l=>k_is);(case c=>k_is);(case k=>k_is)
  have d_leant_on:L2.DefN (L2.KOf KX) mg "leant_on" K82.g0q ["net", "stands"]:=by
   dsimp only[L2.KOf]
   refine' L2.d0l KX G ?a ?l ?c ?k (fun _ _ _ _ _ _ us hl=>match us,hl with | [_,_],_=>rfl)
   (case a=>k_is);(case l=>k_is);(case c=>k_is);(case k=>k_is)
  have d_tried:L2.DefN (L2.KOf KX) mg "tried" K82.q0i ["wish", "clean", "count"]:=by
   dsimp only[L2.KOf]
   refine' L2.d0l KX G ?a ?l ?c ?k (fun _ _ _ _ _ _ us hl=>match us,hl with | [_,_,_],_=>rfl)
   (case a=>k_is);(case l=>k_is);(case c=>k_is);(case k=>k_is)
  have d_is_tried:L2.DefN (L2.KOf KX) mg "is_tried" K82.j0a ["many", "count"]:=by
   dsimp only[L2.KOf]
   refine' L2.d0l KX G ?a ?l ?c ?k (fun _ _ _ _ _ _ us hl=>match us,hl with | [_,_],_=>rfl)
   (case a=>k_is);(case l=>k_is);(case c=>k_is);(case k=>k_is)
  have d_searched:L2.DefN (L2.KOf KX) mg "searched" K82.i0v ["cases"]:=by
   dsimp only[L2.KOf]
   refine' L2.d0l KX G ?a ?l ?c ?k (fun _ _ _ _ _ _ us hl=>match us,hl with | [_],_=>rfl)
   (case a=>k_is);(case l=>k_is);(case c=>k_is);(case k=>k_is)
  have d_searched_made:L2.DefN (L2.KOf KX) mg "searched_made" K82.e0q ["cases", "row"]:=by
   dsimp only[L2.KOf]
   refine' L2.d0l KX G ?a ?l ?c ?k (fun _ _ _ _ _ _ us hl=>match us,hl with | [_,_],_=>rfl)
   (case a=>k_is);(case l=>k_is);(case c=>k_is);(case k=>k_is)
  have d_searched_next:L2.DefN (L2.KOf KX) mg "searched_next" K82.e0p ["cases", "free"]:=by
   dsimp only[L2.KOf]
   refine' L2.d0l KX G ?a ?l ?c ?k (fun _ _ _ _ _ _ us hl=>match us,hl with | [_,_],_=>rfl)
   (case a=>k_is);(case l=>k_is);(case c=>k_is);(case k=>k_is)
  have d_net_of_rows:L2.DefN (L2.KOf KX) mg "net_of_rows" K82.d0v ["wish", "clean", "known"]:=by
   dsimp only[L2.KOf]
   refine' L2.d0l KX G ?a ?l ?c ?k (fun _ _ _ _ _ _ us hl=>match us,hl with | [_,_,_],_=>rfl)
   (case a=>k_is);(case l=>k_is);(case c=>k_is);(case k=>k_is)
  have d_first_joining:L2.DefN (L2.KOf KX) mg "first_joining" K82.d0s ["things", "row", "clean"]:=by
   dsimp only[L2.KOf]
   refine' L2.d0l KX G ?a ?l ?c ?k (fun _ _ _ _ _ _ us hl=>match us,hl with | [_,_,_],_=>rfl)
   (case a=>k_is);(case l=>k_is);(case c=>k_is);(case k=>k_is)
  have d_law_tape:L2.DefN (L2.KOf KX) mg "_law_tape" K82.i0x ["_law_script"]:=by
   dsimp only[L2.KOf]
   refine' L2.d0l KX G ?a ?l ?c ?k (fun _ _ _ _ _ _ us hl=>match us,hl with | [_],_=>rfl)
   (case a=>k_is);(case l=>k_is);(case c=>k_is);(case k=>k_is)
  have d_law_draw:L2.DefN (L2.KOf KX) mg "_law_draw" K82.i0y ["_law_tape_here", "_law_many"]:=by
   dsimp only[L2.KOf]
   refine' L2.d0l KX G ?a ?l ?c ?k (fun _ _ _ _ _ _ us hl=>match us,hl with | [_,_],_=>rfl)
   (case a=>k_is);(case l=>k_is);(case c=>k_is);(case k=>k_is)
  have d_law_net:L2.DefN (L2.KOf KX) mg "_law_net" K82.g0r ["_law_tape_here", "_law_clean"]:=by
   dsimp only[L2.KOf]
   refine' L2.d0l KX G ?a ?l ?c ?k (fun _ _ _ _ _ _ us hl=>match us,hl with | [_,_],_=>rfl)
   (case a=>k_is);(case l=>k_is);(case c=>k_is);(case k=>k_is)
  have d_law_other:L2.DefN (L2.KOf KX) mg "_law_other" K82.h0e ["_law_tape_here", "_law_many", "_law_outs"]:=by
   dsimp only[L2.KOf]
   refine' L2.d0l KX G ?a ?l ?c ?k (fun _ _ _ _ _ _ us hl=>match us,hl with | [_,_,_],_=>rfl)
   (case a=>k_is);(case l=>k_is);(case c=>k_is);(case k=>k_is)
  have d_law:L2.DefN (L2.KOf KX) mg "law" K82.e1j ["_law_script"]:=by
   dsimp only[L2.KOf]
   refine' L2.d0l KX G ?a ?l ?c ?k (fun _ _ _ _ _ _ us hl=>match us,hl with | [_],_=>rfl)
   (case a=>k_is);(case l=>k_is);(case c=>k_is);(case k=>k_is)
  have B:L2.BI mg:=by
   refine' L2.o1g KX G ?z_len ?z_range ?z_isinstance ?z_int ?z_bool ?z_list ?z_tuple ?z_str ?z_sum ?z_all ?z_max ?z_min ?z_sorted ?z_set ?z_zip ?z_enumerate ?z_reversed ?z_dict ?z_any ?z_abs ?z_repr
   (case z_len=>k_is);(case z_range=>k_is);(case z_isinstance=>k_is);(case z_int=>k_is);(case z_bool=>k_is);(case z_list=>k_is);(case z_tuple=>k_is);(case z_str=>k_is);(case z_sum=>k_is);(case z_all=>k_is);(case z_max=>k_is);(case z_min=>k_is);(case z_sorted=>k_is);(case z_set=>k_is);(case z_zip=>k_is);(case z_enumerate=>k_is);(case z_reversed=>k_is);(case z_dict=>k_is);(case z_any=>k_is);(case z_abs=>k_is);(case z_repr=>k_is)
  have c_FEW_GIVENS:∃u,mg "FEW_GIVENS" = some u/\L2.RelV (.int 4) u:=by
   refine' ⟨_,eJ KX G ?a,?b⟩
   (case a=>k_is)
   (case b=>exact⟨_,rfl⟩)
  have c_FEW_GIVENS_COUNT:∃u,mg "FEW_GIVENS_COUNT" = some u/\L2.RelV (.int 11) u:=by
   refine' ⟨_,eJ KX G ?a,?b⟩
   (case a=>k_is)
   (case b=>exact⟨_,rfl⟩)
  have c_MORE_GIVENS:∃u,mg "MORE_GIVENS" = some u/\L2.RelV (.int 6) u:=by
   refine' ⟨_,eJ KX G ?a,?b⟩
   (case a=>k_is)
   (case b=>exact⟨_,rfl⟩)
  have c_MORE_GIVENS_COUNT:∃u,mg "MORE_GIVENS_COUNT" = some u/\L2.RelV (.int 3) u:=by
   refine' ⟨_,eJ KX G ?a,?b⟩
   (case a=>k_is)
   (case b=>exact⟨_,rfl⟩)
  have oc_Cases:∃C_Cases:Addr,L2.ClsO (L2.KOf KX) mg C_Cases "Cases" ["wished", "clean", "known", "shut", "left"]/\L2.DefM (L2.KOf KX) C_Cases "__init__" "Cases.__init__" K82.b0z ["self", "wished", "clean", "known", "shut", "left"]/\L2.DefM (L2.KOf KX) C_Cases "with_row" "Cases.with_row" K82.b0x ["self", "row", "shut"]/\L2.DefM (L2.KOf KX) C_Cases "lacking" "Cases.lacking" K82.b0u ["self"]/\L2.DefM (L2.KOf KX) C_Cases "free_rows" "Cases.free_rows" K82.b0e ["self"]/\L2.DefM (L2.KOf KX) C_Cases "lacks_too_many" "Cases.lacks_too_many" K82.b0d ["self"]/\L2.DefM (L2.KOf KX) C_Cases "is_far" "Cases.is_far" K82.b0p ["self", "row"]/\L2.DefM (L2.KOf KX) C_Cases "shown_by" "Cases.shown_by" K82.b0y ["self", "paper"]/\L2.DefM (L2.KOf KX) C_Cases "shown_far" "Cases.shown_far" K82.b0q ["self", "row"]/\L2.DefM (L2.KOf KX) C_Cases "shown_made" "Cases.shown_made" K82.b0l ["self", "row", "paper"]/\L2.DefM (L2.KOf KX) C_Cases "shown_next" "Cases.shown_next" K82.b0k ["self", "papers"]:=by
   dsimp only[L2.KOf]
   refine' K82.y0o KX G ?f0 ?f1 ?f2 ?f3 ?f4 ?f5 ?f6 ?na0 ?na1 ?na2 ?na3 ?na4 ?m0_0 ?m0_1 ?m0_2 ?m0_3 ?m0_4 ?m1_0 ?m1_1 ?m1_2 ?m1_3 ?m1_4 ?m2_0 ?m2_1 ?m2_2 ?m2_3 ?m2_4 ?m3_0 ?m3_1 ?m3_2 ?m3_3 ?m3_4 ?m4_0 ?m4_1 ?m4_2 ?m4_3 ?m4_4 ?m5_0 ?m5_1 ?m5_2 ?m5_3 ?m5_4 ?m6_0 ?m6_1 ?m6_2 ?m6_3 ?m6_4 ?m7_0 ?m7_1 ?m7_2 ?m7_3 ?m7_4 ?m8_0 ?m8_1 ?m8_2 ?m8_3 ?m8_4 ?m9_0 ?m9_1 ?m9_2 ?m9_3 ?m9_4
   (case f0=>k_is);(case f1=>k_is);(case f2=>k_is);(case f3=>k_is);(case f4=>k_is);(case f5=>k_is);(case f6=>k_is);(case na0=>k_is);(case na1=>k_is);(case na2=>k_is);(case na3=>k_is);(case na4=>k_is);(case m0_0=>k_is);(case m0_1=>k_is);(case m0_2=>k_is);(case m0_3=>k_is);(case m0_4=>k_is);(case m1_0=>k_is);(case m1_1=>k_is);(case m1_2=>k_is);(case m1_3=>k_is);(case m1_4=>k_is);(case m2_0=>k_is);(case m2_1=>k_is);(case m2_2=>k_is);(case m2_3=>k_is);(case m2_4=>k_is);(case m3_0=>k_is);(case m3_1=>k_is);(case m3_2=>k_is);(case m3_3=>k_is);(case m3_4=>k_is);(case m4_0=>k_is);(case m4_1=>k_is);(case m4_2=>k_is);(case m4_3=>k_is);(case m4_4=>k_is);(case m5_0=>k_is);(case m5_1=>k_is);(case m5_2=>k_is);(case m5_3=>k_is);(case m5_4=>k_is);(case m6_0=>k_is);(case m6_1=>k_is);(case m6_2=>k_is);(case m6_3=>k_is);(case m6_4=>k_is);(case m7_0=>k_is);(case m7_1=>k_is);(case m7_2=>k_is);(case m7_3=>k_is);(case m7_4=>k_is);(case m8_0=>k_is);(case m8_1=>k_is);(case m8_2=>k_is);(case m8_3=>k_is);(case m8_4=>k_is);(case m9_0=>k_is);(case m9_1=>k_is);(case m9_2=>k_is);(case m9_3=>k_is);(case m9_4=>k_is)
  refine L2.j1c d_law hmg fun base=>?_
  exact K82.fin d_is_tuple d_joined d_own_rows d_joining d_all_words d_rows_of d_shown d_first_cases d_may_join d_tidied d_first_alike d_leant_on d_tried d_is_tried d_searched d_searched_made d_searched_next d_net_of_rows d_first_joining d_law_tape d_law_draw d_law_net d_law_other d_law c_FEW_GIVENS c_FEW_GIVENS_COUNT c_MORE_GIVENS c_MORE_GIVENS_COUNT oc_Cases B
#print axioms PySem.Challenge.cw_fewjoins_k82_whole_no_paper_against_a_ne_holds

