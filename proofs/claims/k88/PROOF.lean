import PyProof.Rows.All
import Wide.All
import OpenK.AllK
import Wide.FinOn
import Lean
import PyProof.EqAt
import PyProof.EqKinds
import PyProof.TupleCall
import PyProof.NeKinds
import PyProof.ListMulAny
import PyProof.Rows.CallKwBuiltin
import PyProof.MinMaxWalk
import PyProof.SeqI3
import PyProof.Rows.TupAdd
import PyProof.MeetsDict
import PyProof.DictList
import PyProof.ZipIter
import PyProof.Rows.ZipGen
import PyProof.ListRange
import PyProof.TupleOfStr
import PyProof.Rows.FStr
import PyProof.Rows.StrJoin2
import PyProof.Rows.Range3
import PyProof.EnumMake
import PyProof.EnumFor
import PyProof.EnumStmt
import KE.KUnpackStar
import KE.KDictList
import PyProof.Rows.SortWalk
import KE.RegKIsAll
import PyProof.NsDelKeeps
import PyProof.Rows.CountFlat
import KE.KRevIter
import PyProof.Draws
import PyProof.ExcInit
import PyProof.InstStoreFacts
import PyProof.DictCompW
import PyProof.DictIter
import PyProof.DictWalks
import PyProof.Rows.SetFrom
import PyProof.SetRoads
import KE.KDictOf
import PyProof.Rows.SortShellK
import PyProof.ReprRoads
import PyProof.CallFns
import PyProof.DictUpdate
import KE.KDictLaws
import PySem.Challenge.RW_fewjoins_k88_searches_refused
open Array renaming getElem?_eq_getElem→Cc,length_toList→Cz,getElem?_eq_some_iff→CY,getElem?_toList→E9,getElem_toList→Fd,toList_push→FN,getElem?_eq_none→G2,getD→HD,toList→Jf
open Bool renaming false_ne_true→A4,and_eq_true→A7,not_eq_true'→BV,not_eq_true→Cm,eq_iff_iff→CM,false_or→DA,false_eq_true→DC,false_and→DL,true_and→D6,and_false→Fh,or_false→Fx,or_eq_true→Go,eq_false_iff→Ii,and_true→Je
open Classical renaming byContradiction→F9
open False renaming elim→BA
open Iff renaming rfl→Iv
open Int renaming toNat_natCast→B4,eq_ofNat_of_zero_le→DG,natCast_nonneg→FL,le_of_lt→F5,ediv_nonneg→Gz,emod_lt_of_pos→Ig,emod_nonneg→IW,ofNat_inj→Js,ne_of_gt→JL
open List renaming getElem?_eq_getElem→im,mem_append_right→lm,length_map→lw,replicate→pc,size_toArray→sB,getElem?_eq_some_iff→sK,mem_cons→wn,mem_singleton→wE,getElem?_map→wP,getD_eq_getElem?_getD→wS,range→zn,map_cons→A1,length_append→A2,getElem?_set_ne→A3,contains_iff_mem→A5,length_cons→A6,mem_cons_of_mem→Be,getElem?_append_left→Bi,mem_cons_self→Bj,mem_filter→Bm,append_nil→Bn,drop_eq_getElem_cons→Bo,mem_append→Bq,map_append→Br,getElem?_drop→Bt,mem_append_left→Bu,mem_range→Bv,getElem?_append_right→By,length_take→Bz,mem_of_getElem?→BC,not_mem_nil→BD,map_map→BF,drop_eq_nil_of_le→BJ,append_assoc→BK,mem_map→BP,find?_cons→BQ,getElem?_replicate→BR,find?_cons_of_neg→BX,take_add_one→B2,take_of_length_le→Ca,length_replicate→Cf,take_length→Cj,lookup_cons→Ck,pairwise_lt_range→Cw,length_range→Cy,getElem?_eq_none→CB,pairwise_cons→CC,any_eq_true→CD,map_nil→CF,any_cons→CG,ext_getElem?→CJ,range_succ→CL,getElem_of_mem→CO,getElem?_set_self→CS,length_filter_le→C1,pairwise_iff_getElem→C5,drop_left'→Db,filterMap_cons→Dg,nodup_append→Dn,lookup→Dr,getElem?_cons_zero→DF,find?_cons_of_pos→DJ,length_singleton→DP,getElem_mem→DS,eq_nil_of_length_eq_zero→D7,drop_eq_nil_iff→D8,nodup_cons→Eb,length_set→Ec,length_reverse→Ei,length_pos_iff→Ej,getElem?_range→Ek,flatMap_append→El,flatMap_cons→ED,set_eq_of_length_le→EK,map_take→EL,getElem?_take_of_lt→EM,all_cons→EN,filter_cons_of_pos→ET,filter_cons_of_neg→EU,length_nil→E6,foldl_cons→E7,take_append_drop→E_,pairwise_append→Ff,getElem_toArray→Fg,filter_append→FA,getElem_take→FT,foldl_append→FU,find?_append→FV,any_map→FW,mem_flatMap→F6,flatMap_nil→F7,filter_cons→F8,of_mem_zip→Gk,find?_some→Gm,idxOf_lt_length_of_mem→Gy,length_eraseIdx_of_lt→GF,drop_zero→GG,mem_of_find?_eq_some→GN,length_erase_of_mem→GX,mem_of_mem_erase→Hn,getElem?_reverse→Ho,perm_cons_erase→Ht,filter_sublist→HA,ne_nil_of_mem→HV,mem_filterMap→HW,getElem_idxOf→HX,contains_cons→HY,pairwise_map→Ie,map_flatMap→Ip,length_drop→Iq,drop_length→Ir,all_eq_true→Iu,nil_append→IG,filter_nil→IH,take_zero→IU,nodup_nil→IV,any_nil→Jr,length→JI
open List.Nodup renaming length_le_of_subset→CA
open List.Pairwise renaming filter→Dj,sublist→JJ,and→JK
open List.Perm renaming append_left→GH
open List.cons renaming injEq→DQ
open Nat renaming le_refl→wl,ne_of_lt→ww,lt_of_lt_of_le→xz,le_trans→A_,lt_or_ge→Bh,zero_le→Bl,ne_of_gt→BL,mod_two_eq_zero_or_one→BS,le_of_lt→BZ,zero_add→Cb,lt_trichotomy→CK,lt_trans→CU,lt_succ_self→CV,lt_irrefl→De,testBit_zero→Dw,testBit_xor→DB,pow_le_pow_right→D_,testBit_and→Eh,xor_comm→Ex,le_of_eq→Ey,lt_of_le_of_lt→EB,lt_succ_of_lt→EI,le_succ→EJ,xor_zero→E5,mul_le_mul→Fk,eq_of_testBit_eq→Fl,xor_assoc→Fz,pos_of_ne_zero→FK,sub_zero→F3,one_shiftLeft→F4,zero_testBit→Gh,not_lt_zero→Gx,not_lt→GL,and_comm→Hm,pow_lt_pow_right→Hz,succ_ne_self→ID,shiftLeft_eq→IE,min_eq_right→IF,min_eq_left→IT,add_assoc→Jq,xor_self→JG,le_total→JH,one_mul→J6,add_mul→J7
open Ne renaming symm→B_
open Option renaming map_eq_some_iff→Bb,toList_some→Dz,bind_some→EH,map_some→EV,isSome_map→Fy,getD_none→HS
open Option.some renaming injEq→BG,inj→Co
open Prod renaming fst→Bd,snd→Bp
open Prod.mk renaming injEq→Du
open PyProof.Rows renaming callWith_type1→B0,step_dedup→Dm,IntsAre→DK,envOfC→DW,AllBare→EX,callWith_builtin1→Fe,subscriptTail→Hv,subscriptTail_builtinR→Ia,Call_→IJ,Subscript_→Jc
open PyProof.Rows.IntsAre renaming length→Gi
open PySem renaming wpAny_bind→bn,Value→bv,Shared→db,wpAny_pure→kt,wpAny→li,model→o0,Program→wT,sizeLine→xL,mainGlobals→At,starEach→Ba,World→Bf,Around→Bg,wpAny_mono→BB,wpAny_field→BM,rawInt→BN,bootBuiltins→BU,mem_of_lookup→B1,wpAny_standAt→B3,wpAny_newObj_type→B5,foldedSetIterable→B6,codeAny→B7,letOwnedTupleGo→Cn,wpAny_setField_rec→Cp,wpAny_call_entry→Ct,compareOp→Cu,Scope→Cv,wpAny_comprehension_free→CI,wpAny_setField→CN,wpAny_truthy_bool→CP,wpAny_callSpecial?_slot→CQ,intKind→CZ,wpAny_holding→C2,wpAny_askSetting→C4,wpAny_rule→C6,SetTable→C7,backTo→Dd,noteFrame→Df,sysModules→Dh,assign→Di,wpAny_passesOwn→Dp,wpAny_execs_nil→Dq,wpAny_setState_of→Ds,standAt→Dt,NameKind→Dy,pyNext→DD,wpAny_updateSeq→DH,valueAt→DI,wpAny_Call_Name_kw→DM,wpAny_pyIter_enum→DU,fits_of_scanBound→DV,codeAny_mono→DX,cLine→DY,binaryOp→DZ,Result→D3,FuncData→D4,builtinLookup_eq_fast→Ea,wpAny_execs_cons→Ed,closureFor→Ee,assignEach→Ef,behindInMarks→Eo,ExceptHandler→Ep,wpAny_newFunctionEnv→Er,sliceBounds→Es,sizeLine_eq→Et,keywordEach→Eu,theTreesLotGoes→Ez,swapsWith→EE,setFlight→EF,scanBound→EG,wpAny_pyIter_tuple→EO,tupleKind_room_in1→EQ,isTrue→ER,wpAny_assign_Name→EW,wpAny_attempt→EY,plainId_quiet→EZ,comprehension→E1,attributeBase→E2,wpAny_isInstance→Fa,compTurn→Fb,codeAny_loop→Fi,wpAny_specialOf→Fm,typeLookup_type→Fn,codeAny_builtin→Fo,exec_Assign_Name_used→Fq,wpAny_seqItems→FD,wpAny_noted→FE,relayAll→FF,newFunctionEnv→FG,backToKw→FH,list_append→FI,updateSeq→FO,relabel→FP,holding→FQ,getMethod→FR,callerA→FS,wpAny_setEntries_of→FY,typeLookup→Ga,setsByText→Gb,pyIter→Gc,cameBackBy→Gd,setNext→Gp,leaving→Gr,compPost→Gs,tupleKind→GI,stored→GJ,IsEnum→GO,subscripted→GR,wpAny_ite_split→GZ,Within→G0,getItem→G3,Keyword→G4,BindsTo→G7,wpAny_letOwnedTupleGo_enum→G8,setField→G9,isSubtype_type→G_,isSubtype_stop→Ha,evalEach→Hc,dictSetDefault→Hd,compEnvC→He,call_meets→Hf,bindArgs→Hg,atKey→Hi,Paired→Hl,GenState→Hq,call→Hw,wpAny_pyNext_enum_itemD→HE,newFields→HF,field→HG,drawOrder→HH,compStart→HI,bindL→HJ,bindC→HK,again→HL,Model→HU,wpAny_typeOf→HZ,wpAny_pyNext_enum_endD→H_,newList→Ib,codeAny_compStart_list→Ic,ElemsOf→Ih,wpAny_isTrue_Compare1→Ij,wpAny_Raise_call_subT→Ik,wpAny_pyIter_revIter→Iy,wpAny_of_eq→Iz,wpAny_loadName_local→IA,callWith→IC,CmpOp→II,wpAny_loadName_cell→IQ,wpAny_Assign_stores→IR,wpAny_load→IX,wpAny_entryPlaceOf→IY,wpAny_call→IZ,wpAny_Name→I0,findBy_of_findIdx?→I_,cellOf→Ja,builtinsNs→Jb,wpAny_storeSet_of→Jg,wpAny_pyIter_slot→Jh,wpAny_loadPart_at→Ji,wpAny_frameOf_fun→Jj,wpAny_Assign_Name→Jk,spliced→Jl,slot_list_getitem→Jm,codeAny_whileLoop→Jn,Draws→Ju,Drawn→Jv,wpAny_Try_except→Jw,storeName→Jx,seqItems?→Jy,pickOrder→Jz,cellsFrom→JA,theWindowsPlace→JO,getAttrByItsOwn→JP,codeAny_of_tree→JQ
open PySem.Around renaming under_plainId→DT,under→FC
open PySem.Builtin renaming bitAnd→Em,bitXor→E8,bitOr→Ix
open PySem.Builtin.Dict renaming keyAndDefault→J_
open PySem.Builtin.Frozenset renaming slot0→IK,sizeOf→IL,oneOther→IM,addrOf→IP
open PySem.Builtin.List renaming listExtendWith→Cg,listSameRef→Do,listLengthHint→DO,listItems→F_,listUpdate→J8,listTouch→J9
open PySem.Builtin.Range renaming rangeSize→FX
open PySem.Builtin.SmallTypes renaming ownedTupleIsFree→EC
open PySem.Calls renaming spliced_cons→CW,spliced_nil→Dl,evalArgs_plain→D5,Name_function_global→GA,callWith_builtin→G1
open PySem.Code renaming isFrame→G6,frames→JN
open PySem.EntryCells renaming newEntry→DR
open PySem.EqMixed renaming eq_str_int→JC,eq_str_bool→JD,eq_int_str→JE,eq_bool_str→JF
open PySem.EqNone renaming eq_str_none→JV,eq_none_str→JW,eq_none_none→JX,eq_none_int→JY,eq_none_bool→JZ,eq_int_none→J0,eq_bool_none→J5
open PySem.F renaming plainAttrs_list→CH,plain_extend_loop→C0,type_list_append→C9,slot_list_append→C_,slot_tuple_iterator_next→Dx,slot_enumerate_next→D9,args_list_append_2→Fw,entry_list_append→FM,slot_dict_setdefault→F1,excBase_ValueError→Gf,excAttr_ValueError→Gg,entry_extend_loop→Gj,slot_dict_update→Gw,slot_list_index→GB,plain_list_iadd→GC,plainAttrs_dict→GD,args_tuple_iterator_next_1→GQ,slot_set_iter→GW,entry_tuple_iterator_next→GY,args_enumerate_next_1→Hu,entry_enumerate_next→HC
open PySem.Heap renaming get?_push_of_some→dL,lt_size→lc,get?_push_size→wv,get?_update_other→AC,get?_update_self→Bk,SameBut→Bx,size_push→B8,dictOf_iff→Gn,size_update→Iw,ExtBut→JM
open PySem.Heap.DictOf renaming new→G5
open PySem.Heap.IsSliceOf renaming new→Jt
open PySem.Heap.SameBut renaming update→Ci,refl→GP
open PySem.IsL renaming update→Fv
open PySem.Obj renaming mapFields→BW,data_mapFields→B9,mapSeq→Cd,isFreed_of_fields→Ch,putSet→FJ,cls_mapFields→F2,data_mapDictKeys→Hy
open PySem.Paired renaming length→Fj,snoc→Jd
open PySem.PassesOwn renaming never→Cr
open PySem.SeqAt renaming EqAt→Ew,RcAt→Gv
open PySem.SeqAt.EqAt renaming str_int→GS,int_str→GU
open PySem.SeqAt.RcNeAt renaming tuples→JR,lists_lengths→JS,lists→JT
open PySem.SetTable renaming below→Bw,grown→Dk,fresh→HN,Probe→HP
open PySem.SetTable.Met.empty renaming injEq→Il
open PySem.SetTable.below renaming go→D1
open PySem.SetTable.probe renaming go→Gu
open PySem.Str renaming ofString→Ev,empty→Fp
open PySem.Value renaming isInt_shape→HM,isStrOf→IS,isInt→Jp
open PySem.W renaming Frag→bi,nsIn→A8,findIn→A9,mg_none_of→Bc,keepIn→Bs,mg_of→BE,fnOf→BH,codeIn→BO,kia_one→BY,isFn→Ce,emptyDict→Cq,kitOne→CT,instObj→C3,excIn→C8,hasDictIn→DE,plainGet→DN,callWith_K→Eg,subIn→EA,makesIn→ES,lookIn→E3,InstAt→E4,plainGet_of→Fc,plainOver→Fs,methodObj→Ft,kitx_list→Fu,takerIn→FZ,kitAny→Ge,cellsFrom_some→GK,methodCall_KW→GV,tail_of_in→Hj,kitx_tuple→Hk,specialIn→Hr,kitx_dict→Hs,handedIn→Hx,takesIn→HQ,OpenLaw→HR,mroIn→Im,WalkO→Io
open PySem.W.Looks renaming here→JB
open PySem.W.WShape renaming has→Jo
open PySem.Within renaming cons→JU
open PySem.pickOrder renaming go→Gq
set_option Elab.async false
set_option linter.all false
set_option maxRecDepth 100000
namespace L2
open PySem PySem.Spec PyProof.Rows
abbrev Key:=Sum Int Str
def qx:Key->bv->Bool
 | .inl k,v=>Jp k v
 | .inr x,v=>IS x v
def keyH (w:Bf):Key->Int
 | .inl k=>hashInt k
 | .inr x=>hashStr w x
theorem bS:∀ {k:Key} {v:bv},qx k v=true->(∃i t,k=Sum.inl i/\v=Value.int i t)∨(∃x t,k=Sum.inr x/\v=Value.str x t)
 | .inl i,v,h=>by
  obtain⟨t,e⟩:=HM (k:=i) (v:=v) h
  exact .inl ⟨i,t,rfl,e⟩
 | .inr x,v,h=>by
  obtain⟨t,e⟩:=Value.isStrOf_shape (x:=x) (v:=v) h
  exact .inr ⟨x,t,rfl,e⟩
theorem sR (i:Int)(t:Tok):qx (.inl i) (.int i t)=true:=by simp[qx,Jp]
theorem sQ (x:Str)(t:Tok):qx (.inr x) (.str x t)=true:=by simp[qx,IS]
theorem zJ (a b:Int):decide ((Sum.inl a:Key)=Sum.inl b)=(a==b):=by
 by_cases e:a=b
 ·subst e;simp
 ·have h:¬(Sum.inl a:Key)=Sum.inl b:=λq=>e (Sum.inl.inj q)
  rw[decide_eq_false h]
  exact(beq_eq_false_iff_ne.mpr e).symm
theorem zG (a b:Str):decide ((Sum.inr a:Key)=Sum.inr b)=decide (a=b):=by
 by_cases e:a=b
 ·subst e;simp
 ·have h:¬(Sum.inr a:Key)=Sum.inr b:=λq=>e (Sum.inr.inj q)
  rw[decide_eq_false h,decide_eq_false e]
theorem zI (a:Int)(b:Str):decide ((Sum.inl a:Key)=Sum.inr b)=false:=decide_eq_false (λq=>nomatch q)
theorem zH (a:Str)(b:Int):decide ((Sum.inr a:Key)=Sum.inl b)=false:=decide_eq_false (λq=>nomatch q)
def bA (prog:wT)(w:Bf):PySem.KeyKind prog w Key where
 is:=qx
 hash:=keyH w
 inj:=λv a b ha hb=>by
  rcases bS ha with⟨i,t,rfl,rfl⟩ | ⟨x,t,rfl,rfl⟩
  ·rcases bS hb with⟨j,u,rfl,e⟩ | ⟨y,u,rfl,e⟩
   ·injection e with e1 _;rw[e1]
   ·exact nomatch e
  ·rcases bS hb with⟨j,u,rfl,e⟩ | ⟨y,u,rfl,e⟩
   ·exact nomatch e
   ·injection e with e1 _;rw[e1]
 byValue:=λk v h=>by
  rcases bS h with⟨i,t,rfl,rfl⟩ | ⟨x,t,rfl,rfl⟩ <;> rfl
 pyHash:=λhv h=>by
  rcases bS hv with⟨i,t,rfl,rfl⟩ | ⟨x,t,rfl,rfl⟩
  ·exact wpAny_pyHash_int h
  ·exact wpAny_pyHash_str h
 eqBool:=λhu hv h=>by
  rcases bS hu with⟨i,t,rfl,rfl⟩ | ⟨x,t,rfl,rfl⟩
  ·rcases bS hv with⟨j,u,rfl,rfl⟩ | ⟨y,u,rfl,rfl⟩
   ·rw[zJ]at h;exact wpAny_eqBool_int h
   ·rw[zI]at h;exact GU i t y u _ _ _ _ h
  ·rcases bS hv with⟨j,u,rfl,rfl⟩ | ⟨y,u,rfl,rfl⟩
   ·rw[zH]at h;exact GS x t j u _ _ _ _ h
   ·rw[zG]at h;exact wpAny_eqBool_str h
 «strs»:=λk x t v h=>by
  rcases bS h with⟨i,u,rfl,e⟩ | ⟨y,u,rfl,e⟩
  ·exact nomatch e
  ·injection e with e1 _
   subst e1
   cases v <;> rfl
theorem nR (prog:wT)(w:Bf)(i:Int)(t:Tok):(bA prog w).is (.inl i) (.int i t)=true:=sR i t
theorem nQ (prog:wT)(w:Bf)(x:Str)(t:Tok):(bA prog w).is (.inr x) (.str x t)=true:=sQ x t
inductive V where
 | non | bl (b:Bool) | int (i:Int) | str (x:Str) | byt (b:Array UInt8) | flt (b:UInt64) | ref (a:Addr) | ty (n:String)
 deriving DecidableEq
def RelV:V->bv->Prop
 | .non,u=>u=Value.none
 | .bl b,u=>u=Value.bool b
 | .int i,u=>∃t,u=Value.int i t
 | .str x,u=>∃t,u=Value.str x t
 | .byt b,u=>∃t,u=Value.bytes b t
 | .flt b,u=>∃t,u=Value.float b t
 | .ref a,u=>u=Value.ref a
 | .ty n,u=>u=Value.type n
abbrev Vals:List V->List bv->Prop:=Hl RelV
theorem Vals.length {xs:List V}{us:List bv}(r:Vals xs us):xs.length=us.length:=Fj r
theorem Vals.get:∀ {xs:List V} {us:List bv} {i:Nat} {x:V},Vals xs us->xs[i]? = some x->∃u,us[i]? = some u/\RelV x u
 | _,_,_,_,.nil,e=>by simp at e
 | _,_,0,_,.cons r _,e=>by simp at e;subst e;exact⟨_,rfl,r⟩
 | _,_,i+1,x,.cons _ t,e=>by
  obtain⟨u,h1,h2⟩:=Vals.get (i:=i) (x:=x) t (by simpa using e)
  exact⟨u,by simpa using h1,h2⟩
theorem Vals.append:∀ {xs ys:List V} {us ws:List bv},Vals xs us->Vals ys ws->Vals (xs++ys) (us++ws)
 | _,_,_,_,.nil,s=>s
 | _,_,_,_,.cons r t,s=>.cons r (Vals.append t s)
theorem Vals.take:∀ {xs:List V} {us:List bv} (n:Nat),Vals xs us->Vals (xs.take n) (us.take n)
 | _,_,0,_=>.nil
 | _,_,_+1,.nil=>.nil
 | _,_,n+1,.cons r t=>.cons r (Vals.take n t)
theorem Vals.drop:∀ {xs:List V} {us:List bv} (n:Nat),Vals xs us->Vals (xs.drop n) (us.drop n)
 | _,_,0,r=>r
 | _,_,_+1,.nil=>.nil
 | _,_,n+1,.cons _ t=>Vals.drop n t
def RelO:Option V->Option bv->Prop
 | some v,some u=>RelV v u
 | none,none=>True
 | _,_=>False
def KV {κ:Type}:List (κ×V)->List (κ×bv)->Prop:=Hl λ(p:κ×V) (q:κ×bv)=>p.1=q.1/\RelV p.2 q.2
def kV:Key->V
 | .inl i=>.int i
 | .inr x=>.str x
inductive HO where
 | lst (xs:List V)
 | tup (xs:List V)
 | dK (kvs:List (Key×V)) | dT (kvs:List (List Key×V))
 | set (S:Int->Bool) (n:Nat)
 | ins (C dx:Addr) (fs:List (Str×V))
 | own (x:Addr)
 | xd (fs:List (Str×V))
 | met (f x:Addr)
 | rng (lo hi:Int)
 | frz (o:Obj) (u:HO)
 | tbl (ps:Array bv)
 | ext (φ:Heap->Prop)
 | big (ps:List Addr) (φ:wT->Bf->Heap->Prop)
abbrev Hp:=Addr->Option HO
def upd (H:Hp)(a:Addr)(o:HO):Hp:=λb=>if b=a then some o else H b
theorem aQ {H:Hp}{a:Addr}{o:HO}:upd H a o a=some o:=by unfold upd;rw[if_pos rfl]
theorem aL {H:Hp}{a b:Addr}{o:HO}(h:b≠a):upd H a o b=H b:=by unfold upd;rw[if_neg h]
theorem g0 {H:Hp}{a:Addr}{o u:HO}:upd (upd H a o) a u=upd H a u:=by
 funext b;unfold upd;split <;> rfl
theorem xM {H:Hp}{a b:Addr}{o u:HO}(h:H a=some o)(h':H b=some u)(d:o≠u):a≠b:=by
 intro e;subst e;rw[h]at h';exact d (Co h')
theorem a_ {H:Hp}{a b:Addr}{o:HO}(h:H a=some o)(h':H b=none):a≠b:=by
 intro e;subst e;rw[h]at h';cases h'
section
variable (P:wT)(w:Bf)
def cA (H:Hp)(h:Heap)(a:Addr):HO->Prop
 | .lst xs=>xs.length<=xL/\∃(its:List bv) (n:Nat),Vals xs its/\h.get? a=some {cls:=.type "list",data:=.seq its.toArray n}
 | .tup xs=>xs.length<=xL/\∃its:List bv,Vals xs its/\IsTup h a its.toArray
 | .dK kvs=>kvs.length<=xL/\(a==Dh)=false/\∃vs,KV kvs vs/\h.DictOf (bA P w) a vs
 | .dT kvs=>kvs.length<=xL/\(a==Dh)=false/\∃xs:List (List Key×Addr×bv),
   Hl (λ(p:List Key×V) (q:List Key×Addr×bv)=>p.1=q.1/\H q.2.1=some (.tup (p.1.map kV))/\RelV p.2 q.2.2) kvs xs /\
   ∃o es ep,h.get? a=some o/\o.ExactDict/\o.data = .dict es ep/\es.toList=xs.map (entryOfKey (GI (bA P w)))/\(xs.map (·.1)).Nodup
 | .set S n=>h.SetOf (CZ P w) a S n
 | .ins C dx fs=>H dx=some (.own a)/\fs.length<=1000/\dx≠a/\h.get? a=some (C3 C dx) /\
   ∃mA,h.Ns1 dx mA/\(∀f,RelO (fs.lookup f) (mA f))/\G0 mA (fs.map (·.1))
 | .own _=>∃o,h.get? a=some o
 | .xd fs=>∃mA,h.Ns1 a mA/\∀f,RelO (fs.lookup f) (mA f)
 | .rng lo hi=>∃t u v,h.get? a=some {cls:=.type "range",data:=.fields #[.int lo t,.int hi u,.int 1 v]}
 | .frz o u=>h.get? a=some o/\cA H h a u
 | .tbl ps=>h.get? a=some {cls:=.none,data:=.fields ps}
 | .met f x=>h.get? a=some (Ft (.ref f) (.ref x))
 | .ext φ=>φ h/\(∃o,h.get? a=some o)/\∀h1 h2:Heap,φ h1->(∀o,h1.get? a=some o->h2.get? a=some o)->φ h2
 | .big ps φ=>(∀p∈ps,p≠a/\H p=some (.own a))/\φ P w h/\(∃o,h.get? a=some o)/\∀h1 h2:Heap,φ P w h1->(∀b o,(b=a∨b∈ps)->h1.get? b=some o->h2.get? b=some o)->φ P w h2
def HOk (H:Hp)(h:Heap):Prop:=∀a o,H a=some o->cA P w H h a o
end
section
variable {P:wT}{w:Bf}{H H':Hp}{h h':Heap}{a:Addr}{o:HO}
theorem cA.lt (x:cA P w H h a o):a<h.objs.size:=by
 cases o with
 | lst xs=>obtain⟨_,_,_,_,e⟩:=x;exact lc e
 | tup xs=>obtain⟨_,_,_,p⟩:=x;exact p.lt
 | dK kvs=>obtain⟨_,_,_,_,o,_,_,e,_⟩:=x;exact lc e
 | dT kvs=>obtain⟨_,_,_,_,o,_,_,e,_⟩:=x;exact lc e
 | set S n=>obtain⟨o,_,_,_,e,_⟩:=x;exact lc e
 | ins C dx fs=>obtain⟨_,_,_,e,_⟩:=x;exact lc e
 | own y=>obtain⟨_,e⟩:=x;exact lc e
 | xd fs=>obtain⟨_,⟨_,_,_,e,_⟩,_⟩:=x;exact lc e
 | rng lo hi=>obtain⟨_,_,_,e⟩:=x;exact lc e
 | frz ob u=>obtain⟨e,_⟩:=x;exact lc e
 | tbl ps=>exact lc (show h.get? a=some _ from x)
 | met f y=>exact lc (show h.get? a=some _ from x)
 | ext φ=>obtain⟨_,⟨_,e⟩,_⟩:=x;exact lc e
 | big ps φ=>obtain⟨_,_,⟨_,e⟩,_⟩:=x;exact lc e
theorem Paired.mapP {α β:Type}{F G:α->β->Prop}:∀ {l₁:List α} {l₂:List β},Hl F l₁ l₂->(∀a b,F a b->G a b)->Hl G l₁ l₂
 | _,_,.nil,_=>.nil
 | _,_,.cons r t,f=>.cons (f _ _ r) (Paired.mapP t f)
theorem cA.stay (x:cA P w H h a o)(k:∀b u,(b=a∨H b=some (.own a))->h.get? b=some u->h'.get? b=some u)
  (ho:∀b,H b=some (.own a)->H' b=some (.own a)) (ht:∀b xs,H b=some (.tup xs)->H' b=some (.tup xs)):cA P w H' h' a o:=by
 induction o with
 | lst xs=>obtain⟨z,its,n,r,e⟩:=x;exact⟨z,its,n,r,k _ _ (.inl rfl) e⟩
 | tup xs=>obtain⟨z,its,r,ob,e,c⟩:=x;exact⟨z,its,r,ob,k _ _ (.inl rfl) e,c⟩
 | dK kvs=>obtain⟨z,y,vs,r,ob,es,ep,e,c⟩:=x;exact⟨z,y,vs,r,ob,es,ep,k _ _ (.inl rfl) e,c⟩
 | dT kvs =>
  obtain⟨z,y,xs,r,ob,es,ep,e,c⟩:=x
  exact⟨z,y,xs,Paired.mapP r λp q z=>⟨z.1,ht _ _ z.2.1,z.2.2⟩,ob,es,ep,k _ _ (.inl rfl) e,c⟩
 | set S n=>obtain⟨ob,es,ep,t,e,c⟩:=x;exact⟨ob,es,ep,t,k _ _ (.inl rfl) e,c⟩
 | ins C dx fs =>
  obtain⟨d,z,ne,e,mA,⟨od,es,ep,e2,c⟩,r⟩:=x
  exact⟨ho _ d,z,ne,k _ _ (.inl rfl) e,mA,⟨od,es,ep,k _ _ (.inr d) e2,c⟩,r⟩
 | own y=>obtain⟨ob,e⟩:=x;exact⟨ob,k _ _ (.inl rfl) e⟩
 | xd fs=>obtain⟨mA,⟨od,es,ep,e,c⟩,r⟩:=x;exact⟨mA,⟨od,es,ep,k _ _ (.inl rfl) e,c⟩,r⟩
 | rng lo hi=>obtain⟨t,u,v,e⟩:=x;exact⟨t,u,v,k _ _ (.inl rfl) e⟩
 | frz ob u ih=>obtain⟨e,q⟩:=x;exact⟨k _ _ (.inl rfl) e,ih q⟩
 | tbl ps =>
  have e:h.get? a=some {cls:=.none,data:=.fields ps}:=x
  show h'.get? a=some {cls:=.none,data:=.fields ps}
  exact k a _ (.inl rfl) e
 | met f y =>
  have e:h.get? a=some (Ft (.ref f) (.ref y)):=x
  show h'.get? a=some (Ft (.ref f) (.ref y))
  exact k a _ (.inl rfl) e
 | ext φ=>obtain⟨p,⟨o,e⟩,st⟩:=x;exact⟨st _ _ p λo q=>k _ _ (.inl rfl) q,⟨o,k _ _ (.inl rfl) e⟩,st⟩
 | big ps φ=>obtain⟨ow,p,⟨o,e⟩,st⟩:=x;exact⟨λb hb=>⟨(ow b hb).1,ho _ (ow b hb).2⟩,st _ _ p λb o hb q=>k _ _ (hb.imp id λz=>(ow b z).2) q,⟨o,k _ _ (.inl rfl) e⟩,st⟩
theorem HOk.lt (x:HOk P w H h)(e:H a=some o):a<h.objs.size:=(x a o e).lt
theorem HOk.fresh (x:HOk P w H h)(e:h.objs.size<=a):H a=none:=by
 cases q:H a with
 | none=>rfl
 | some u=>exact absurd (xz (x.lt q) e) (De _)
theorem HOk.kept (x:HOk P w H h)(k:∀b u,h.get? b=some u->h'.get? b=some u):HOk P w H h':=λa o e =>
 (x a o e).stay (λb u _ q=>k b u q) (λ_ q=>q) λ_ _ q=>q
theorem HOk.laid (x:HOk P w H h)(k:∀b u,h.get? b=some u->h'.get? b=some u)(hp:h.objs.size<=a)(new:cA P w (upd H a o) h' a o):HOk P w (upd H a o) h':=λb u e=>by
 have hn:=x.fresh hp
 by_cases hb:b=a
 ·subst hb;rw[aQ]at e;cases e;exact new
 ·rw[aL hb]at e
  exact(x b u e).stay (λc v _ q=>k c v q) (λc q=>by rw[aL (a_ q hn)];exact q) λc xs q=>by rw[aL (a_ q hn)];exact q
end
def Rd (H:Hp)(a:Addr)(u:HO):Prop:=H a=some u ∨ ∃o,H a=some (.frz o u)
theorem Rd.ok {P:wT}{w:Bf}{H:Hp}{h:Heap}{a:Addr}{u:HO}(r:Rd H a u)(x:HOk P w H h):cA P w H h a u:=by
 rcases r with r | ⟨o,r⟩
 ·exact x a u r
 ·obtain⟨_,q⟩:=x a _ r
  exact q
def Mut:Option HO->Prop
 | some (.lst _)=>True
 | some (.dK _)=>True
 | some (.dT _)=>True
 | some (.set _ _)=>True
 | some (.ins _ _ _)=>True
 | some (.ext _)=>True
 | some (.big _ _)=>True
 | _=>False
section
variable {P:wT}{w:Bf}{H:Hp}{h h':Heap}{x e:Addr}{o':HO}
theorem HOk.write (ok:HOk P w H h)(mu:Mut (H x))(he:e=x∨H e=some (.own x))(k:∀b u,b≠e->h.get? b=some u->h'.get? b=some u)(heo:∃u,h'.get? e=some u)
  (new:cA P w (upd H x o') h' x o'):HOk P w (upd H x o') h':=λb u q=>by
 have nown:∀c y,H c=some (.own y)->c≠x:=λc y r z=>by subst z;rw[r]at mu;exact mu
 have ntup:∀c xs,H c=some (.tup xs)->c≠x:=λc xs r z=>by subst z;rw[r]at mu;exact mu
 by_cases hb:b=x
 ·subst hb;rw[aQ]at q;cases q;exact new
 ·rw[aL hb]at q
  by_cases hbe:b=e
  ·have q':H b=some (.own x):=by
    rcases he with z | z
    ·exact absurd (hbe.trans z) hb
    ·rw[hbe];exact z
   rw[q]at q';cases q'
   obtain⟨v,hv⟩:=heo
   exact⟨v,by rw[hbe];exact hv⟩
  ·refine(ok b u q).stay (λc v hc r=>k c v ?_ r) (λc r=>by rw[aL (nown c b r)];exact r) λc xs r=>by rw[aL (ntup c xs r)];exact r
   rcases hc with rfl | hc
   ·exact hbe
   ·rintro rfl
    rcases he with z | z
    ·exact nown c b hc z
    ·rw[hc]at z;cases z;exact hb rfl
end
structure Un (fs ex:List Addr)(H H':Hp)(h h':Heap):Prop where
 keep:∀b o,h.get? b=some o->H b=none->b∉fs->b∉ex->h'.get? b=some o
 slot:∀b o,h.get? b=some o->H b=none->b∈fs->b∉ex->∃sl,h'.get? b=some {o with slots:=sl}
 free:∀b o,h.get? b=some o->H b=none->b∉ex->H' b=none
 there:∀b o,h.get? b=some o->b∉ex->∃o',h'.get? b=some o'
 tups:∀b xs,H b=some (.tup xs)->H' b=some (.tup xs)
 frzs:∀b o u,H b=some (.frz o u)->H' b=some (.frz o u)
 tbls:∀b ps,H b=some (.tbl ps)->∃more,H' b=some (.tbl (ps++more))
section
variable {fs fs' ex ex':List Addr}{H H1 H2:Hp}{h h1 h2 h':Heap}{a x e:Addr}{o:HO}
theorem Un.any (u:Un fs ex H H1 h h1){b:Addr}{ob:Obj}(q:h.get? b=some ob)(n:H b=none)(hx:b∉ex):∃sl,h1.get? b=some {ob with slots:=sl}:=by
 by_cases hb:b∈fs
 ·exact u.slot b ob q n hb hx
 ·exact⟨ob.slots,u.keep b ob q n hb hx⟩
theorem Un.kept (k:∀b u,h.get? b=some u->h'.get? b=some u):Un fs ex H H h h' :=
 ⟨λb ob q _ _ _=>k b ob q,λb ob q _ _ _=>⟨ob.slots,k b ob q⟩,λ_ _ _ n _=>n,λb ob q _=>⟨ob,k b ob q⟩,λ_ _ q=>q,λ_ _ _ q=>q,λ_ ps q=>⟨#[],by rw[q];simp⟩⟩
theorem Un.refl:Un fs ex H H h h:=Un.kept λ_ _ q=>q
theorem Un.laid (k:∀b u,h.get? b=some u->h'.get? b=some u)(hp:h.objs.size<=a)(hn:H a=none):Un fs ex H (upd H a o) h h' where
 keep:=λb u q _ _ _=>k b u q
 slot:=λb u q _ _ _=>⟨u.slots,k b u q⟩
 free:=λb u q n _=>by rw[aL (ww (xz (lc q) hp))];exact n
 there:=λb u q _=>⟨u,k b u q⟩
 tups:=λb xs q=>by rw[aL (a_ q hn)];exact q
 frzs:=λb u xs q=>by rw[aL (a_ q hn)];exact q
 tbls:=λb ps q=>⟨#[],by rw[aL (a_ q hn),q];simp⟩
theorem Un.write (mu:Mut (H x))(he:e=x∨H e=some (.own x))(k:∀b u,b≠e->h.get? b=some u->h'.get? b=some u)(heo:∃u,h'.get? e=some u):Un fs ex H (upd H x o) h h':=by
 have hx:∀b,H b=none->b≠x:=λb n z=>by subst z;rw[n]at mu;exact mu
 have hb:∀b,H b=none->b≠e:=λb n z=>by
  subst z
  rcases he with r | r
  ·exact hx b n r
  ·rw[n]at r;cases r
 have hm:∀b u,H b=some u->¬Mut (some u)->b≠x:=λb u q nm z=>by subst z;rw[q]at mu;exact nm mu
 refine⟨λb u q n _ _=>k b u (hb b n) q,λb u q n _ _=>⟨u.slots,k b u (hb b n) q⟩,λb u q n _=>by rw[aL (hx b n)];exact n,λb u q _=>?_,
  λb xs q=>by rw[aL (hm b _ q λz=>z)];exact q,λb u xs q=>by rw[aL (hm b _ q λz=>z)];exact q,λb ps q=>⟨#[],by rw[aL (hm b _ q λz=>z),q];simp⟩⟩
 by_cases hbe:b=e
 ·subst hbe;exact heo
 ·exact⟨u,k b u hbe q⟩
end
def trk (h:Heap)(H:Hp):List Addr:=(zn h.objs.size).filter λa=>(H a).isSome
def hidT (h:Heap)(H:Hp):Heap:=PySem.W.hideAll h (trk h H)
theorem sY (h:Heap)(H:Hp):(hidT h H).objs.size=h.objs.size:=PySem.W.hideAll_size _ _
theorem vp {h:Heap}{H:Hp}{b:Addr}{o:Obj}(e:h.get? b=some o)(n:H b=none):(hidT h H).get? b=some o :=
 PySem.W.hideAll_get _ e λhm=>by
  have q:(H b).isSome=true:=(Bm.mp hm).2
  rw[n]at q;simp at q
theorem xJ {h:Heap}{H:Hp}{b:Addr}{o:Obj}(e:(hidT h H).get? b=some o):h.get? b=some o/\H b=none:=by
 have e':h.get? b=some o:=PySem.W.of_hideAll (trk h H) e
 refine⟨e',?_⟩
 cases q:H b with
 | none=>rfl
 | some x =>
  have hm:b∈trk h H:=Bm.mpr ⟨Bv.mpr (lc e'),by simp[q]⟩
  have z:(hidT h H).get? b=none:=PySem.W.hideAll_none (trk h H) hm
  rw[z]at e;cases e
structure Mod (K:bi)(mg:Str->Option bv)(base:Heap):Prop where
 kin:K.In base
 glob:base.Ns At mg
 blt:∃mb,base.Ns Jb mb/\∀x:Str,x ≠ "__name__" -> mb x=BU x
 nolimit:base.NoLimit
structure Cx where
 prog:wT
 w:Bf
 K:bi
 mg:Str->Option bv
 base:Heap
 A:Bg
 N:List Str
 s₀:db
 H₀:Hp
 env:Env
 outer:List Env
 stack:List Env
 ex:List Addr
 fn:Str->Bool
 calm:Bool
 pn:List (Addr×Obj)
 xe:bv->db->Prop
def frs (l:List Env):List Addr:=l.filterMap (·.frame)
abbrev Cx.fs (X:Cx):List Addr:=frs X.outer
def Vis (sc:Cv)(x:Str):Prop:=sc.names.lookup x=some .local∨sc.names.lookup x=some .cell∨sc.names.lookup x=some .free
def Loc (sc:Cv)(x:Str):Prop:=sc.names.lookup x=some .local∨sc.names.lookup x=some .cell
def Look (env:Env)(h:Heap)(m:Str->Option bv)(x:Str)(u:bv):Prop :=
 (env.kindOf x=some .local/\m x=some u)∨((env.kindOf x=some .cell∨env.kindOf x=some .free)/\∃c,env.cells.lookup x=some c/\h.IsCell c (some u))
structure Cx.Ok (X:Cx):Prop where
 mod:Mod X.K X.mg X.base
 kind:X.env.scope.kind = .function
 glob:X.env.globals=At
 blt:X.env.builtins=Jb
 above:X.s₀.heap.objs.size<=X.env.locals
 inj:∀x y c,X.env.cells.lookup x=some c->X.env.cells.lookup y=some c->x=y
 has:∀x,(X.env.kindOf x=some .cell∨X.env.kindOf x=some .free)->∃c,X.env.cells.lookup x=some c
 cab:∀x c,X.fn x=true->X.env.cells.lookup x=some c->X.s₀.heap.objs.size<=c
 hd:X.calm=true->X.A.handled=none
 frames:X.A.frames=some X.stack
 stk:X.stack=X.outer∨(X.stack=X.env::X.outer/\X.env.frame=some X.env.locals)
 exf:∀b∈X.ex,b≠X.env.locals/\∀x c,X.env.cells.lookup x=some c->c≠b
 bs:∀b o,X.base.get? b=some o->X.s₀.heap.get? b=some o/\X.H₀ b=none
 bsz:X.base.objs.size<=X.s₀.heap.objs.size
 noex:∀b o,X.base.get? b=some o->b∉X.ex
 exfs:∀b∈X.ex,b∉X.fs
 funs:X.s₀.heap.FunFrames X.base X.outer
 frf:∀b∈X.fs,X.H₀ b=none
structure Inv (X:Cx)(pins:List (Addr×Obj))(σ:List (Option V))(H:Hp)(s:db):Prop where
 ok:X.Ok
 os:s.os=X.s₀.os
 bare:EX s.gens
 base:Un X.fs X.ex X.H₀ H X.s₀.heap s.heap
 loc:∃m,s.heap.Ns X.env.locals m/\∀(i:Nat) (x:Str) (v:V),X.N[i]? = some x->σ[i]? = some (some v)->Vis X.env.scope x->∃u,RelV v u/\Look X.env s.heap m x u
 cell:∀x c,X.env.cells.lookup x=some c->∃v,s.heap.IsCell c v
 free:H X.env.locals=none
 freeC:∀x c,X.env.cells.lookup x=some c->H c=none
 pin:∀p∈X.pn++pins,s.heap.get? p.1=some p.2/\H p.1=none/\p.1≠X.env.locals/\p.1∉X.fs/\∀v,p.2.data ≠ .cell v
 hok:HOk X.prog X.w H s.heap
 len:σ.length=X.N.length
section
variable {X:Cx}{pins:List (Addr×Obj)}{σ:List (Option V)}{H H':Hp}{s:db}{h':Heap}
theorem Cx.Ok.nofr (ok:X.Ok){b:Addr}{o:Obj}(e:X.base.get? b=some o):b∉X.fs:=λhb=>by
 have:=(ok.funs.mem hb).1
 rw[e]at this;cases this
theorem Inv.bs (I:Inv X pins σ H s):∀b o,X.base.get? b=some o->s.heap.get? b=some o/\H b=none:=λb o e =>
 ⟨I.base.keep b o (I.ok.bs b o e).1 (I.ok.bs b o e).2 (I.ok.nofr e) (I.ok.noex b o e),I.base.free b o (I.ok.bs b o e).1 (I.ok.bs b o e).2 (I.ok.noex b o e)⟩
theorem Inv.bk (I:Inv X pins σ H s):∀b o,X.base.get? b=some o->s.heap.get? b=some o:=λb o e=>(I.bs b o e).1
theorem Inv.mod (I:Inv X pins σ H s):Mod X.K X.mg X.base:=I.ok.mod
theorem Inv.kIn (I:Inv X pins σ H s):X.K.In s.heap:=I.ok.mod.kin.keeps I.bk
theorem Inv.fr (I:Inv X pins σ H s):∃m,Fr X.base X.env.locals s.heap m :=
 let ⟨m,hn,_⟩:=I.loc
 ⟨m,hn,I.bk,A_ I.ok.bsz I.ok.above⟩
theorem Inv.lt (I:Inv X pins σ H s):X.env.locals<s.heap.objs.size:=let ⟨_,hn,_⟩:=I.loc;hn.lt
theorem Inv.sz (I:Inv X pins σ H s):X.s₀.heap.objs.size<=s.heap.objs.size:=A_ I.ok.above (BZ I.lt)
theorem Inv.nofs (I:Inv X pins σ H s){a:Addr}(h:s.heap.objs.size<=a):a∉X.fs:=λhb=>by
 obtain⟨_,o,ho,_⟩:=I.ok.funs.mem hb
 exact absurd (xz (lc ho) (A_ I.sz h)) (De _)
theorem Inv.cne (I:Inv X pins σ H s):∀x c,X.env.cells.lookup x=some c->c≠X.env.locals:=λx c e z=>by
 obtain⟨v,o,ho,hd⟩:=I.cell x c e
 obtain⟨m,⟨o',es,ep,ho',hd',_⟩,_⟩:=I.loc
 rw[z,ho']at ho;cases ho;rw[hd']at hd;cases hd
theorem Inv.funs (I:Inv X pins σ H s):s.heap.FunFrames X.base X.outer:=by
 have all:∀(l:List Env),(∀b∈frs l,b∈X.fs)->X.s₀.heap.FunFrames X.base l->s.heap.FunFrames X.base l:=by
  intro l
  induction l with
  | nil=>intro _ _;trivial
  | cons env r ih =>
   intro hs hl
   obtain⟨hk,⟨L,o,hf,hn,ho,hd⟩,hr⟩:=hl
   have hL:L∈X.fs:=hs L (by unfold frs;rw[Dg,hf];exact Bj)
   obtain⟨sl,e⟩:=I.base.slot L o ho (I.ok.frf L hL) hL λz=>I.ok.exfs L z hL
   exact⟨hk,⟨L,_,hf,hn,e,hd⟩,ih (λb hb=>hs b (by unfold frs;rw[Dg,hf];exact Be _ hb)) hr⟩
 exact all X.outer (λ_ hb=>hb) I.ok.funs
theorem Inv.stack (I:Inv X pins σ H s):s.heap.FunFrames X.base X.stack:=by
 rcases I.ok.stk with e | ⟨e,hf⟩
 ·rw[e];exact I.funs
 ·rw[e]
  obtain⟨m,hn,_⟩:=I.loc
  refine .cons (by rw[I.ok.kind];decide) hf hn ?_ I.funs
  exact Heap.get?_none_of_le (A_ I.ok.bsz I.ok.above)
theorem Inv.stkSub (I:Inv X pins σ H s):∀b∈frs X.stack,b∈X.env.locals::X.fs:=λb hb=>by
 rcases I.ok.stk with e | ⟨e,hf⟩
 ·rw[e]at hb;exact Be _ hb
 ·rw[e]at hb
  unfold frs at hb
  rw[Dg,hf]at hb
  exact hb
theorem Inv.stkFree (I:Inv X pins σ H s):∀b∈frs X.stack,H b=none:=λb hb=>by
 rcases wn.mp (I.stkSub b hb)with e | hb
 ·rw[e];exact I.free
 ·obtain⟨_,o,ho,_⟩:=I.ok.funs.mem hb
  exact I.base.free b o ho (I.ok.frf b hb) λz=>I.ok.exfs b z hb
theorem Inv.step {g':Array Hq}{t':Nat}{d':Jv}{ch:List Addr}(I:Inv X pins σ H s)
  (hch:∀b∈ch,(b∈X.ex∨X.s₀.heap.objs.size<=b)/\b≠X.env.locals/\(∀x c,X.env.cells.lookup x=some c->c≠b)/\∀p∈X.pn++pins,p.1≠b)
  (keep:∀b o,b≠X.env.locals->b∉X.fs->b∉ch->s.heap.get? b=some o->H b=none->h'.get? b=some o)
  (slot:∀b o,b≠X.env.locals->b∈X.fs->b∉ch->s.heap.get? b=some o->H b=none->∃sl,h'.get? b=some {o with slots:=sl}) (free:∀b o,b∉ch->s.heap.get? b=some o->H b=none->H' b=none)
  (there:∀b o,b∉ch->s.heap.get? b=some o->∃o',h'.get? b=some o')
  (tups:∀b xs,H b=some (.tup xs)->H' b=some (.tup xs)) (frzs:∀b o u,H b=some (.frz o u)->H' b=some (.frz o u)) (tbls:∀b ps,H b=some (.tbl ps)->∃more,H' b=some (.tbl (ps++more)))
  (ns:∀m,s.heap.Ns X.env.locals m->h'.Ns X.env.locals m) (hok:HOk X.prog X.w H' h') (hg:EX g') :
  Inv X pins σ H' {s with heap:=h',gens:=g',drawn:=d',toks:=t'}:=by
 have neL:∀b o,X.s₀.heap.get? b=some o->b≠X.env.locals:=λb o e=>ww (xz (lc e) I.ok.above)
 have neC:∀b o,X.s₀.heap.get? b=some o->b∉X.ex->b∉ch:=λb o e hx hb=>by
  rcases(hch b hb).1 with z | z
  ·exact hx z
  ·exact absurd (xz (lc e) z) (De _)
 have cellK:∀x c,X.env.cells.lookup x=some c->∀v,s.heap.IsCell c v->h'.IsCell c v:=λx c e v ⟨o,ho,hd⟩=>by
  have nch:c∉ch:=λz=>(hch c z).2.2.1 x c e rfl
  by_cases hc:c∈X.fs
  ·obtain⟨sl,q⟩:=slot c o (I.cne x c e) hc nch ho (I.freeC x c e)
   exact⟨_,q,hd⟩
  ·exact⟨o,keep c o (I.cne x c e) hc nch ho (I.freeC x c e),hd⟩
 refine⟨I.ok,I.os,hg,⟨λb o e n hb hx=>?_,λb o e n hb hx=>?_,λb o e n hx=>?_,λb o e hx=>?_,λb xs e=>tups b xs (I.base.tups b xs e),λb o xs e=>frzs b o xs (I.base.frzs b o xs e),λb ps e=>?_⟩,?_,λx c e=>?_,?_,λx c e=>?_,λp hp=>?_,hok,I.len⟩
 ·exact keep b o (neL b o e) hb (neC b o e hx) (I.base.keep b o e n hb hx) (I.base.free b o e n hx)
 ·obtain⟨sl,e1⟩:=I.base.slot b o e n hb hx
  obtain⟨sl',e2⟩:=slot b _ (neL b o e) hb (neC b o e hx) e1 (I.base.free b o e n hx)
  exact⟨sl',e2⟩
 ·obtain⟨o',e1⟩:=I.base.there b o e hx
  exact free b o' (neC b o e hx) e1 (I.base.free b o e n hx)
 ·obtain⟨o',e1⟩:=I.base.there b o e hx
  exact there b o' (neC b o e hx) e1
 ·obtain⟨m1,e1⟩:=I.base.tbls b ps e
  obtain⟨m2,e2⟩:=tbls b _ e1
  exact⟨m1++m2,by rw[e2,Array.append_assoc]⟩
 ·obtain⟨m,hn,hl⟩:=I.loc
  refine⟨m,ns m hn,λi x v e1 e2 e3=>?_⟩
  obtain⟨u,r,l⟩:=hl i x v e1 e2 e3
  refine⟨u,r,?_⟩
  rcases l with l | ⟨k,c,e,z⟩
  ·exact .inl l
  ·exact .inr ⟨k,c,e,cellK x c e _ z⟩
 ·obtain⟨v,z⟩:=I.cell x c e
  exact⟨v,cellK x c e v z⟩
 ·obtain⟨m,⟨o,_,_,ho,_⟩,_⟩:=I.loc
  exact free _ o (λz=>(hch _ z).2.1 rfl) ho I.free
 ·obtain⟨v,o,ho,hd⟩:=I.cell x c e
  exact free c o (λz=>(hch c z).2.2.1 x c e rfl) ho (I.freeC x c e)
 ·obtain⟨e,n,ne,nf,d⟩:=I.pin p hp
  have nch:p.1∉ch:=λz=>(hch p.1 z).2.2.2 p hp rfl
  exact⟨keep p.1 p.2 ne nf nch e n,free p.1 p.2 nch e n,ne,nf,d⟩
theorem Inv.un {t':Nat}(I:Inv X pins σ H s)(u:Un X.fs [] H H' s.heap h')(hok:HOk X.prog X.w H' h'):Inv X pins σ H' {s with heap:=h',toks:=t'}:=by
 obtain⟨m,⟨o,es,ep,ho,r⟩,_⟩:=id I.loc
 obtain⟨sl,hL⟩:=u.any ho I.free (by simp)
 exact I.step (g':=s.gens) (d':=s.drawn) (ch:=[]) (λ_ z=>nomatch z) (λb o _ hb _ e n=>u.keep b o e n hb (by simp)) (λb o _ hb _ e n=>u.slot b o e n hb (by simp)) (λb o _ e n=>u.free b o e n (by simp)) (λb o _ e=>u.there b o e (by simp)) u.tups u.frzs u.tbls (λm' hm=>by
  obtain⟨o',es',ep',ho',r'⟩:=hm
  rw[ho]at ho';cases ho'
  exact⟨_,es',ep',hL,r'⟩) hok I.bare
theorem Inv.call {g':Array Hq}{t':Nat}{d':Jv}{ch:List Addr}(I:Inv X pins σ H s)(u:Un (frs X.stack) ch H H' s.heap h')(hok:HOk X.prog X.w H' h')(hg:EX g')
  (hch:∀b∈ch,(b∈X.ex∨X.s₀.heap.objs.size<=b)/\b≠X.env.locals/\(∀x c,X.env.cells.lookup x=some c->c≠b)/\∀p∈X.pn++pins,p.1≠b) :
  Inv X pins σ H' {s with heap:=h',gens:=g',drawn:=d',toks:=t'}:=by
 obtain⟨m,⟨o,es,ep,ho,r⟩,_⟩:=id I.loc
 obtain⟨sl,hL⟩:=u.any ho I.free λz=>(hch _ z).2.1 rfl
 exact I.step (ch:=ch) hch (λb o hL hb hc e n=>u.keep b o e n (λz=>(wn.mp (I.stkSub b z)).elim hL hb) hc) (λb o _ _ hc e n=>u.any e n hc) (λb o hc e n=>u.free b o e n hc) (λb o hc e=>u.there b o e hc) u.tups u.frzs u.tbls (λm' hm=>by
  obtain⟨o',es',ep',ho',r'⟩:=hm
  rw[ho]at ho';cases ho'
  exact⟨_,es',ep',hL,r'⟩) hok hg
theorem Inv.turned {t':Nat}{it:Addr}(I:Inv X pins σ H s)(k:∀b o,b≠it->s.heap.get? b=some o->h'.get? b=some o)(hn:H it=none)(hL:it≠X.env.locals)
  (h1:it∈X.ex∨X.s₀.heap.objs.size<=it) (h2:∀x c,X.env.cells.lookup x=some c->c≠it) (h3:∀p∈X.pn++pins,p.1≠it):Inv X pins σ H {s with heap:=h',toks:=t'}:=by
 have nit:∀b u,H b=some u->b≠it:=λb u e z=>by rw[z,hn]at e;cases e
 refine I.step (g':=s.gens) (d':=s.drawn) (ch:=[it]) (λb hb=>?_) (λb o _ _ hc e _=>k b o (λz=>hc (by simp[z])) e) (λb o _ _ hc e _=>⟨o.slots,k b o (λz=>hc (by simp[z])) e⟩) (λ_ _ _ _ n=>n)
  (λb o hc e=>⟨o,k b o (λz=>hc (by simp[z])) e⟩) (λ_ _ e=>e) (λ_ _ _ e=>e) (λb ps e=>⟨#[],by rw[e];simp⟩) (λm hm=>?_) (λb u e=>?_) I.bare
 ·have e:b=it:=by simpa using hb
  subst e
  exact⟨h1,hL,h2,h3⟩
 ·obtain⟨o,es,ep,ho,r⟩:=hm
  exact⟨o,es,ep,k _ o (B_ hL) ho,r⟩
 ·refine(I.hok b u e).stay (λc v hc q=>k c v ?_ q) (λ_ q=>q) λ_ _ q=>q
  rcases hc with z | z
  ·rw[z];exact nit b u e
  ·exact nit c _ z
theorem Inv.tok (I:Inv X pins σ H s)(t:Nat):Inv X pins σ H {s with toks:=t}:=I.un (h':=s.heap) (t':=t) Un.refl I.hok
theorem Inv.kept {t':Nat}(I:Inv X pins σ H s)(k:∀b u,s.heap.get? b=some u->h'.get? b=some u):Inv X pins σ H {s with heap:=h',toks:=t'}:=I.un (Un.kept k) (I.hok.kept k)
theorem Inv.laid {a:Addr}{o:HO}{t':Nat}(I:Inv X pins σ H s)(k:∀b u,s.heap.get? b=some u->h'.get? b=some u)(hp:s.heap.objs.size<=a)(new:cA X.prog X.w (upd H a o) h' a o) :
  Inv X pins σ (upd H a o) {s with heap:=h',toks:=t'}:=I.un (Un.laid k hp (I.hok.fresh hp)) (I.hok.laid k hp new)
theorem Inv.write {x e:Addr}{o:HO}{t':Nat}(I:Inv X pins σ H s)(mu:Mut (H x))(he:e=x∨H e=some (.own x))(k:∀b u,b≠e->s.heap.get? b=some u->h'.get? b=some u)(heo:∃u,h'.get? e=some u)
  (new:cA X.prog X.w (upd H x o) h' x o):Inv X pins σ (upd H x o) {s with heap:=h',toks:=t'}:=I.un (Un.write mu he k heo) (I.hok.write mu he k heo new)
theorem Inv.weak {σ':List (Option V)}(I:Inv X pins σ H s)(hl:σ'.length=σ.length)(w:∀(i:Nat) v,σ'[i]? = some (some v)->σ[i]? = some (some v)):Inv X pins σ' H s :=
 ⟨I.ok,I.os,I.bare,I.base,let ⟨m,hn,hl'⟩:=I.loc;⟨m,hn,λi x v e1 e2 e3=>hl' i x v e1 (w i v e2) e3⟩,I.cell,I.free,I.freeC,I.pin,I.hok,hl.trans I.len⟩
theorem Inv.pins_of {pins':List (Addr×Obj)}(I:Inv X pins σ H s)(h:∀p∈pins',s.heap.get? p.1=some p.2/\H p.1=none/\p.1≠X.env.locals/\p.1∉X.fs/\∀v,p.2.data ≠ .cell v):Inv X pins' σ H s :=
 ⟨I.ok,I.os,I.bare,I.base,I.loc,I.cell,I.free,I.freeC,λp hp=>(Bq.mp hp).elim (λz=>I.pin p (Bu _ z)) (h p),I.hok,I.len⟩
theorem pE {N:List Str}(hN:N.Nodup){i j:Nat}{x:Str}(a:N[i]? = some x)(b:N[j]? = some x):i=j:=by
 obtain⟨h1,e1⟩:=sK.mp a
 obtain⟨h2,e2⟩:=sK.mp b
 exact(List.getElem_inj hN).mp (e1.trans e2.symm)
theorem fh {M:HU}{A:Bg}{E:bv->db->Prop}{i:Nat}{x:Str}{v:V}{u:bv}{Q:Unit->db->Prop}(I:Inv X pins σ H s)(hN:X.N.Nodup)(hi:X.N[i]? = some x)(hx:Loc X.env.scope x)(r:RelV v u)
  (h:∀s',Inv X pins (σ.set i (some v)) H s'->(∃a,Bx a s.heap s'.heap/\(a=X.env.locals∨X.env.cells.lookup x=some a))->Q () s') (hf:X.fn x=true∨X.env.scope.names.lookup x=some .local:=by first | exact .inl rfl | exact .inr rfl | assumption):li M A (Jx X.env x u) Q E s:=by
 obtain⟨m,hn,hl⟩:=id I.loc
 have hcls:(X.env.scope.kind == .class||(X.env.scope.kind == .module&&X.env.locals != X.env.globals))=false:=by rw[I.ok.kind];rfl
 have hiσ:i<σ.length:=by rw[I.len];exact(sK.mp hi).1
 have cne:=I.cne
 have tracked:∀ {a:Addr} {h':Heap},(∃o,s.heap.get? a=some o/\H a=none)->Bx a s.heap h'->HOk X.prog X.w H h':=λ{a h'} ha hs b ob e=>by
  obtain⟨_,_,hfree⟩:=ha
  refine(I.hok b ob e).stay (λc w' hc q=>(hs.2 c ?_).trans q) (λ_ q=>q) λ_ _ q=>q
  rintro rfl
  rcases hc with rfl | hc
  ·rw[hfree]at e;cases e
  ·rw[hfree]at hc;cases hc
 rcases hx with hk | hk
 ·refine wpAny_storeName_local hk hn (λh' hn' hs=>?_) hcls
  obtain⟨oL,_,_,hoL,_⟩:=id hn
  refine h _ ⟨I.ok,I.os,I.bare,⟨λb o e n hb hx=>?_,λb o e n hb hx=>?_,I.base.free,λb o e hx=>?_,I.base.tups,I.base.frzs,I.base.tbls⟩,⟨_,hn',λj y v' e1 e2 e3=>?_⟩,λy c e=>?_,I.free,I.freeC,λp hp=>?_,tracked ⟨oL,hoL,I.free⟩ hs,by simpa using I.len⟩ ⟨_,hs,.inl rfl⟩
  ·exact(hs.2 b (ww (xz (lc e) I.ok.above))).trans (I.base.keep b o e n hb hx)
  ·obtain⟨sl,e1⟩:=I.base.slot b o e n hb hx
   exact⟨sl,(hs.2 b (ww (xz (lc e) I.ok.above))).trans e1⟩
  ·obtain⟨o',e1⟩:=I.base.there b o e hx
   exact⟨o',(hs.2 b (ww (xz (lc e) I.ok.above))).trans e1⟩
  ·by_cases hj:j=i
   ·subst hj
    rw[hi]at e1;cases e1
    rw[CS hiσ]at e2
    cases e2
    exact⟨u,r,.inl ⟨hk,by simp⟩⟩
   ·rw[A3 (B_ hj)]at e2
    obtain⟨u',r',q⟩:=hl j y v' e1 e2 e3
    refine⟨u',r',?_⟩
    rcases q with⟨k,e⟩ | ⟨k,c,e,z⟩
    ·refine .inl ⟨k,?_⟩
     have:y≠x:=λe=>hj (pE hN e1 (e▸hi))
     simp[this,e]
    ·exact .inr ⟨k,c,e,z.sameBut hs (cne y c e)⟩
  ·obtain⟨w',z⟩:=I.cell y c e
   exact⟨w',z.sameBut hs (cne y c e)⟩
  ·obtain⟨e,n,ne,nf,d⟩:=I.pin p hp
   exact⟨(hs.2 p.1 ne).trans e,n,ne,nf,d⟩
 ·have hfn:X.fn x=true:=by
   rcases hf with z | z
   ·exact z
   ·rw[z]at hk;cases hk
  obtain⟨c,hc⟩:=I.ok.has x (.inl hk)
  obtain⟨w',z⟩:=I.cell x c hc
  refine wpAny_storeName_cell I.ok.kind hk hc z (λh' hc' hs=>?_)
  obtain⟨oc,hoc,hocd⟩:=id z
  refine h {s with heap:=h'} ⟨I.ok,I.os,I.bare,⟨λb o e n hb hx=>?_,λb o e n hb hx=>?_,I.base.free,λb o e hx=>?_,I.base.tups,I.base.frzs,I.base.tbls⟩,⟨m,hn.sameBut hs (B_ (cne x c hc)),λj y v' e1 e2 e3=>?_⟩,λy c' e=>?_,I.free,I.freeC,λp hp=>?_,tracked ⟨oc,hoc,I.freeC x c hc⟩ hs,by simpa using I.len⟩ ⟨c,hs,.inr hc⟩
  ·exact(hs.2 b (ww (xz (lc e) (I.ok.cab x c hfn hc)))).trans (I.base.keep b o e n hb hx)
  ·obtain⟨sl,e1⟩:=I.base.slot b o e n hb hx
   exact⟨sl,(hs.2 b (ww (xz (lc e) (I.ok.cab x c hfn hc)))).trans e1⟩
  ·obtain⟨o',e1⟩:=I.base.there b o e hx
   exact⟨o',(hs.2 b (ww (xz (lc e) (I.ok.cab x c hfn hc)))).trans e1⟩
  ·by_cases hj:j=i
   ·subst hj
    rw[hi]at e1;cases e1
    rw[CS hiσ]at e2
    cases e2
    exact⟨u,r,.inr ⟨.inl hk,c,hc,hc'⟩⟩
   ·rw[A3 (B_ hj)]at e2
    obtain⟨u',r',q⟩:=hl j y v' e1 e2 e3
    refine⟨u',r',?_⟩
    rcases q with q | ⟨k,c',e,z'⟩
    ·exact .inl q
    ·refine .inr ⟨k,c',e,z'.sameBut hs ?_⟩
     rintro rfl
     exact hj (pE hN e1 (I.ok.inj _ _ _ e hc▸hi))
  ·by_cases hcc:c'=c
   ·subst hcc;exact⟨_,hc'⟩
   ·obtain⟨w2,z2⟩:=I.cell y c' e
    exact⟨w2,z2.sameBut hs hcc⟩
  ·obtain⟨e,n,ne,nf,d⟩:=I.pin p hp
   refine⟨(hs.2 p.1 ?_).trans e,n,ne,nf,d⟩
   intro q
   rw[q,hoc]at e
   have q':oc=p.2:=Co e
   exact d w' (by rw[<- q'];exact hocd)
theorem kN {M:HU}{A:Bg}{E:bv->db->Prop}{i:Nat}{x:Str}{v:V}{u:bv}{Q:Unit->db->Prop}(I:Inv X pins σ H s)(hN:X.N.Nodup)(hi:X.N[i]? = some x)(hx:Loc X.env.scope x)(r:RelV v u)
  (h:∀s',Inv X pins (σ.set i (some v)) H s'->Q () s') (hf:X.fn x=true∨X.env.scope.names.lookup x=some .local:=by first | exact .inl rfl | exact .inr rfl | assumption):li M A (Jx X.env x u) Q E s :=
 fh I hN hi hx r (λs' I' _=>h s' I') hf
theorem Inv.call' {s':db}{ch:List Addr}(I:Inv X pins σ H s)(ho:s'.os=s.os)(u:Un (frs X.stack) ch H H' s.heap s'.heap)(hok:HOk X.prog X.w H' s'.heap)(hg:EX s'.gens)
  (hch:∀b∈ch,(b∈X.ex∨X.s₀.heap.objs.size<=b)/\b≠X.env.locals/\(∀x c,X.env.cells.lookup x=some c->c≠b)/\∀p∈X.pn++pins,p.1≠b):Inv X pins σ H' s':=by
 obtain⟨h',g',d',t',o'⟩:=s'
 have e:o'=s.os:=ho
 subst e
 exact I.call (g':=g') (t':=t') (d':=d') u hok hg hch
end
abbrev XK:=bv->Option Addr->Hp->Prop
abbrev St:=List (Option V)
abbrev VK:=V->Hp->Prop
abbrev TE:=St->Hp->VK->Prop
abbrev TT:=St->Hp->(Bool->Hp->Prop)->Prop
abbrev TA:=St->Hp->(List V->Hp->Prop)->Prop
structure Ends where
 nx:St->Hp->Prop
 rt:VK
 bk:St->Hp->Prop:=λ_ _=>False
 ct:St->Hp->Prop:=λ_ _=>False
abbrev TS:=Ends->St->Hp->Prop
def EP (X:Cx)(pins:List (Addr×Obj))(σ:St)(Q:VK)(u:bv)(s':db):Prop:=∃v H',Inv X pins σ H' s'/\RelV v u/\Q v H'
def TP (X:Cx)(pins:List (Addr×Obj))(σ:St)(Q:Bool->Hp->Prop)(b:Bool)(s':db):Prop:=∃H',Inv X pins σ H' s'/\Q b H'
def AP (X:Cx)(pins:List (Addr×Obj))(σ:St)(Q:List V->Hp->Prop)(us:List bv)(s':db):Prop:=∃vs H',Inv X pins σ H' s'/\Vals vs us/\Q vs H'
def SP (X:Cx)(pins:List (Addr×Obj))(D:Ends)(f:Flow)(s':db):Prop :=
 match f with
 | .next=>∃ σ' H',Inv X pins σ' H' s'/\D.nx σ' H'
 | .brk=>∃ σ' H',Inv X pins σ' H' s'/\D.bk σ' H'
 | .cont=>∃ σ' H',Inv X pins σ' H' s'/\D.ct σ' H'
 | .ret u=>∃v σ' H',Inv X pins σ' H' s'/\RelV v u/\D.rt v H'
def PE (X:Cx)(e:Expr)(t:TE):Prop :=
 ∀(pins:List (Addr×Obj)) (s:db) (σ:St) (H:Hp) (Q:VK),Inv X pins σ H s->t σ H Q->li (o0 X.prog X.w) X.A (eval e X.env) (EP X pins σ Q) X.xe s
def PT (X:Cx)(e:Expr)(t:TT):Prop :=
 ∀(pins:List (Addr×Obj)) (s:db) (σ:St) (H:Hp) (Q:Bool->Hp->Prop),Inv X pins σ H s->t σ H Q->li (o0 X.prog X.w) X.A (ER e X.env (eval e X.env)) (TP X pins σ Q) X.xe s
def PW (X:Cx)(e:Expr)(t:TT):Prop :=
 ∀(whole:Sem bv) (pins:List (Addr×Obj)) (s:db) (σ:St) (H:Hp) (Q:Bool->Hp->Prop),Inv X pins σ H s->t σ H Q->li (o0 X.prog X.w) X.A (ER e X.env whole) (TP X pins σ Q) X.xe s
theorem PW.pt {X:Cx}{e:Expr}{t:TT}(h:PW X e t):PT X e t:=h _
def PA (X:Cx)(es:List Expr)(t:TA):Prop :=
 ∀(pos:Pos) (pins:List (Addr×Obj)) (s:db) (σ:St) (H:Hp) (Q:List V->Hp->Prop),Inv X pins σ H s->t σ H Q->li (o0 X.prog X.w) X.A (Jl (Dd pos (Ba es X.env))) (AP X pins σ Q) X.xe s
def PS (X:Cx)(st:Stmt)(t:TS):Prop :=
 ∀(pins:List (Addr×Obj)) (s:db) (σ:St) (H:Hp) (D:Ends),Inv X pins σ H s->t D σ H->li (o0 X.prog X.w) X.A (exec st X.env) (SP X pins D) X.xe s
def PSs (X:Cx)(st:List Stmt)(t:TS):Prop :=
 ∀(pins:List (Addr×Obj)) (s:db) (σ:St) (H:Hp) (D:Ends),Inv X pins σ H s->t D σ H->li (o0 X.prog X.w) X.A (execs st X.env) (SP X pins D) X.xe s
theorem thn {α:Type}{t:Sem α}{Q Q':α->db->Prop}{M:HU}{A:Bg}{E:bv->db->Prop}{s:db}(h:li M A t Q E s)(hQ:∀a s,Q a s->Q' a s):li M A t Q' E s:=BB h hQ λ_ _ x=>x
section
variable {X:Cx}
def tVar (i:Nat):TE:=λσ H Q=>∃v,σ[i]? = some (some v)/\Q v H
def tC (v:V):TE:=λ_ H Q=>Q v H
theorem zc {i:Nat}{x:Str}{pos:Pos}(hN:X.N[i]? = some x)(hv:Vis X.env.scope x)(hd:(x==("__debug__" : Str))=false:=by decide)(hcd:(x==("__classdict__" : Str))=false:=by decide):PE X (.Name x pos) (tVar i):=by
 intro pins s σ H Q I h
 obtain⟨v,e,h⟩:=h
 obtain⟨m,hn,hl⟩:=I.loc
 obtain⟨u,r,l⟩:=hl i x v hN e hv
 have fin:EP X pins σ Q u s:=⟨v,H,I,r,h⟩
 rcases l with⟨hk,hm⟩ | ⟨hk,c,hc,hcell⟩
 ·exact I0 (IA I.ok.kind hk hn hm fin) hd
 ·rcases hk with hk | hk
  ·exact I0 (IQ I.ok.kind hk hc hcell fin) hd
  ·exact I0 (wpAny_loadName_free I.ok.kind hk hc hcell fin hcd) hd
theorem aN {i j pos}:PE X (.Constant (.int i) j pos) (tC (.int i)):=λ_ _ _ H _ I h=>wpAny_Constant_int ⟨.int i,H,I.tok _,⟨_,rfl⟩,h⟩
theorem d_ {b j pos}:PE X (.Constant (.bool b) j pos) (tC (.bl b)):=λ_ _ _ H _ I h=>Constant_bool ⟨.bl b,H,I,rfl,h⟩
theorem j6 {j pos}:PE X (.Constant .none j pos) (tC .non):=λ_ _ _ H _ I h=>Constant_none ⟨.non,H,I,rfl,h⟩
theorem cN {x j pos}:PE X (.Constant (.str x) j pos) (tC (.str x)):=λ_ _ _ H _ I h=>Calls.Constant_str ⟨.str x,H,I.tok _,⟨_,rfl⟩,h⟩
def Gl (X:Cx)(x:Str):Prop:=X.env.kindOf x=some .globalImplicit
theorem gj {E:bv->db->Prop}{pins:List (Addr×Obj)}{s:db}{σ:St}{H:Hp}{x:Str}{u:bv}{pos:Pos}{Q:bv->db->Prop}(I:Inv X pins σ H s)(hg:Gl X x)(hm:X.mg x=some u)(h:Q u s)
  (hd:(x==("__debug__" : Str))=false:=by decide):li (o0 X.prog X.w) X.A (eval (.Name x pos) X.env) Q E s :=
 GA I.ok.kind hg (Calls.loadGlobal_global (by rw[I.ok.glob];exact I.mod.glob.keeps I.bk) hm h) hd
theorem fX {E:bv->db->Prop}{pins:List (Addr×Obj)}{s:db}{σ:St}{H:Hp}{x:Str}{u:bv}{pos:Pos}{Q:bv->db->Prop}(I:Inv X pins σ H s)(hg:Gl X x)(hm:X.mg x=none)(hv:BU x=some u)(h:Q u s)
  (hn:x ≠ "__name__" := by decide) (hd:(x==("__debug__" : Str))=false:=by decide):li (o0 X.prog X.w) X.A (eval (.Name x pos) X.env) Q E s:=by
 obtain⟨mb,h1,h2⟩:=I.mod.blt
 exact GA I.ok.kind hg (Calls.loadGlobal_builtin (by rw[I.ok.glob];exact I.mod.glob.keeps I.bk) hm (by rw[I.ok.blt];exact h1.keeps I.bk) ((h2 x hn).trans hv) h) hd
theorem dq {x:Str}{v:V}{u:bv}{pos:Pos}(hg:Gl X x)(hm:X.mg x=some u)(r:RelV v u)(hd:(x==("__debug__" : Str))=false:=by decide):PE X (.Name x pos) (tC v) :=
 λ_ _ _ H _ I h=>gj I hg hm ⟨v,H,I,r,h⟩ hd
theorem xF {x:Str}{v:V}{u:bv}{pos:Pos}(hg:Gl X x)(hm:X.mg x=none)(hv:BU x=some u)(r:RelV v u)(hn:x ≠ "__name__" := by decide)(hd:(x==("__debug__" : Str))=false:=by decide):PE X (.Name x pos) (tC v) :=
 λ_ _ _ H _ I h=>fX I hg hm hv ⟨v,H,I,r,h⟩ hn hd
variable {a b:Expr}{ta tb:TE}{pos:Pos}
def PC (X:Cx)(op:II)(a b:Expr)(t:TE):Prop :=
 ∀(pins:List (Addr×Obj)) (s:db) (σ:St) (H:Hp) (Q:VK),Inv X pins σ H s->t σ H Q ->
  li (o0 X.prog X.w) X.A (eval a X.env) (λv s₁=>li (o0 X.prog X.w) X.A (eval b X.env) (λu s₂=>li (o0 X.prog X.w) X.A (Cu op v u) (EP X pins σ Q) X.xe s₂) X.xe s₁) X.xe s
def tB (t:TE):TT:=λσ H Q=>t σ H λx H1=>∃c,x = .bl c/\Q c H1
theorem zh {op:II}{t:TE}(h:PC X op a b t)(h1:Eo op b=false:=by first | exact nobehind _ (by decide) (by decide) | rfl):PE X (.Compare a [op] [b] pos) t:=λpins s σ H Q I hw=>wpAny_Compare1 (h pins s σ H Q I hw) h1
theorem o9 {op:II}{t:TE}(h:PC X op a b t)(h1:Eo op b=false:=by first | exact nobehind _ (by decide) (by decide) | rfl):PT X (.Compare a [op] [b] pos) (tB t):=by
 intro pins s σ H Q I hw
 refine Ij (thn (h pins s σ H _ I hw) λv s1 h1=>thn h1 λu s2 h2=>thn h2 λc s3 ⟨x,H1,I1,r1,q1⟩=>?_) h1
 obtain⟨d,rfl,q⟩:=q1
 cases r1
 exact CP ⟨H1,I1,q⟩
theorem iu {e:Expr}{t:TE}(h:PE X e t)(he:∀whole,ER e X.env whole=(do let v <- whole;Dt e.pos;FQ [v] (truthy v)):=by intro _;rfl):PT X e (tB t):=by
 intro pins s σ H Q I hw
 refine isTrue_plain (thn (h pins s σ H _ I hw) λv s1 ⟨x,H1,I1,r1,q1⟩=>?_) (he _)
 obtain⟨d,rfl,q⟩:=q1
 cases r1
 exact CP ⟨H1,I1,q⟩
variable {tA tB':TT}{rest:List Expr}
def tAnd (t u:TT):TT:=λσ H Q=>t σ H λc H1=>if c=true then u σ H1 Q else Q false H1
def tNot (t:TT):TT:=λσ H Q=>t σ H λc H1=>Q (!c) H1
theorem kT (ha:PT X a tA):PW X (.BoolOp .And [a] pos) tA:=by
 intro wh pins s σ H Q I h
 refine isTrue_and (thn (ha pins s σ H Q I h) λc s1 e=>?_)
 cases c with
 | true=>exact isTrue_and_nil e
 | false=>exact e
theorem o7 (ha:PT X a tA)(hb:PW X (.BoolOp .And (b::rest) pos) tB'):PW X (.BoolOp .And (a::b::rest) pos) (tAnd tA tB'):=by
 intro wh pins s σ H Q I h
 refine isTrue_and (thn (ha pins s σ H _ I h) λc s1 ⟨H1,I1,q1⟩=>?_)
 cases c with
 | true=>exact hb wh pins s1 σ H1 Q I1 q1
 | false=>exact⟨H1,I1,q1⟩
theorem lR (ha:PT X a tA):PT X (.UnaryOp .Not a pos) (tNot tA):=by
 intro pins s σ H Q I h
 exact isTrue_not (ha pins s σ H (λc H1=>Q (!c) H1) I h)
def yW (ta tb:TE):TE:=λσ H Q=>ta σ H λx H1=>∃c,x = .bl c/\if c=true then tb σ H1 Q else Q (.bl false) H1
def tOrV (ta tb:TE):TE:=λσ H Q=>ta σ H λx H1=>∃c,x = .bl c/\if c=true then Q (.bl true) H1 else tb σ H1 Q
def yS (ta:TE):TE:=λσ H Q=>ta σ H λx H1=>∃c,x = .bl c/\Q (.bl (!c)) H1
theorem lV {op}{t:TE}(h:PE X a t):PE X (.BoolOp op [a] pos) t:=λpins s σ H Q I hw=>BoolOp_one (h pins s σ H Q I hw)
theorem si (ha:PE X a ta)(hb:PE X (.BoolOp .And (b::rest) pos) tb):PE X (.BoolOp .And (a::b::rest) pos) (yW ta tb):=by
 intro pins s σ H Q I h
 refine BoolOp_and (thn (ha pins s σ H _ I h) λv s1 ⟨x,H1,I1,r1,q1⟩=>?_)
 obtain⟨c,rfl,q1⟩:=q1
 cases r1
 refine CP ?_
 cases c with
 | true=>exact hb pins s1 σ H1 Q I1 q1
 | false=>exact⟨.bl false,H1,I1,rfl,q1⟩
theorem uR (ha:PE X a ta)(hb:PE X (.BoolOp .Or (b::rest) pos) tb):PE X (.BoolOp .Or (a::b::rest) pos) (tOrV ta tb):=by
 intro pins s σ H Q I h
 refine BoolOp_or (thn (ha pins s σ H _ I h) λv s1 ⟨x,H1,I1,r1,q1⟩=>?_)
 obtain⟨c,rfl,q1⟩:=q1
 cases r1
 refine CP ?_
 cases c with
 | false=>exact hb pins s1 σ H1 Q I1 q1
 | true=>exact⟨.bl true,H1,I1,rfl,q1⟩
theorem ze (ha:PE X a ta):PE X (.UnaryOp .Not a pos) (yS ta):=by
 intro pins s σ H Q I h
 refine UnaryOp_ (thn (ha pins s σ H _ I h) λv s1 ⟨x,H1,I1,r1,q1⟩=>?_)
 obtain⟨c,rfl,q1⟩:=q1
 cases r1
 exact not_of (CP ⟨.bl (!c),H1,I1,rfl,q1⟩)
def tIf (t:TT)(ta tb:TE):TE:=λσ H Q=>t σ H λc H1=>if c=true then ta σ H1 Q else tb σ H1 Q
theorem uU {c:Expr}(hc:PT X c tA)(ha:PE X a ta)(hb:PE X b tb):PE X (.IfExp c a b pos) (tIf tA ta tb):=by
 intro pins s σ H Q I h
 refine wpAny_IfExp (thn (hc pins s σ H _ I h) λd s1 ⟨H1,I1,q1⟩=>?_)
 cases d with
 | true=>exact ha pins s1 σ H1 Q I1 q1
 | false=>exact hb pins s1 σ H1 Q I1 q1
end
def SqL (K:bi)(H:Hp)(a:Addr)(xs:List V):Prop :=
 Rd H a (.lst xs) ∨
  ∃(o:Obj) (its:Array bv) (n:Nat),K.lookup a=some o/\o.cls = .type "list" /\ o.dict=none/\o.data = .seq its n/\its.size<=xL/\Vals xs its.toList
def SqT (K:bi)(H:Hp)(a:Addr)(xs:List V):Prop :=
 Rd H a (.tup xs) ∨
  ∃(o:Obj) (its:Array bv) (n:Nat),K.lookup a=some o/\o.cls = .type "tuple" /\ o.data = .seq its n/\its.size<=xL/\Vals xs its.toList
def absV:bv->Option V
 | .none=>some .non
 | .bool b=>some (.bl b)
 | .int i _=>some (.int i)
 | .str x _=>some (.str x)
 | .bytes b _=>some (.byt b)
 | .float b _=>some (.flt b)
 | .ref a=>some (.ref a)
 | .type n=>some (.ty n)
 | _=>none
theorem RelV.abs {x:V}{u:bv}(r:RelV x u):absV u=some x:=by
 cases x with
 | non=>cases r;rfl
 | bl _=>cases r;rfl
 | int _=>obtain⟨t,rfl⟩:=r;rfl
 | str _=>obtain⟨t,rfl⟩:=r;rfl
 | byt _=>obtain⟨t,rfl⟩:=r;rfl
 | flt _=>obtain⟨t,rfl⟩:=r;rfl
 | ref _=>cases r;rfl
 | ty _=>cases r;rfl
theorem RelV.inj {x y:V}{u:bv}(r:RelV x u)(q:RelV y u):x=y:=Co (r.abs.symm.trans q.abs)
theorem Vals.inj:∀ {xs ys:List V} {us:List bv},Vals xs us->Vals ys us->xs=ys
 | _,_,_,.nil,.nil=>rfl
 | _,_,_,.cons r t,.cons r' t'=>by rw[r.inj r',Vals.inj t t']
section
variable {X:Cx}{pins:List (Addr×Obj)}{σ:St}{H:Hp}{s:db}{a:Addr}{xs ys:List V}
theorem SqL.of {K:bi}(h:H a=some (.lst xs)):SqL K H a xs:=.inl (.inl h)
theorem SqT.of {K:bi}(h:H a=some (.tup xs)):SqT K H a xs:=.inl (.inl h)
theorem Inv.list (I:Inv X pins σ H s)(h:SqL X.K H a xs):∃its:List bv,Vals xs its/\PlainL s.heap a its.toArray/\xs.length<=xL:=by
 rcases h with h | ⟨o,its,n,hk,hc,hd,hs,hz,r⟩
 ·obtain⟨z,its,n,r,e⟩:=h.ok I.hok
  exact⟨its,r,⟨_,n,e,rfl,rfl,rfl⟩,z⟩
 ·refine⟨its.toList,r,⟨o,n,I.kIn a o hk,hc,hd,by simpa using hs⟩,?_⟩
  have e:=r.length
  simp only[Cz]at e
  omega
theorem Inv.tuple (I:Inv X pins σ H s)(h:SqT X.K H a xs):∃its:List bv,Vals xs its/\IsTup s.heap a its.toArray/\xs.length<=xL:=by
 rcases h with h | ⟨o,its,n,hk,hc,hs,hz,r⟩
 ·obtain⟨z,its,r,p⟩:=h.ok I.hok
  exact⟨its,r,p,z⟩
 ·refine⟨its.toList,r,⟨o,I.kIn a o hk,hc,n,by simpa using hs⟩,?_⟩
  have e:=r.length
  simp only[Cz]at e
  omega
theorem Inv.list_inj (I:Inv X pins σ H s)(h:SqL X.K H a xs)(h':SqL X.K H a ys):xs=ys:=by
 obtain⟨its,r,⟨o,n,e,_,_,d⟩,_⟩:=I.list h
 obtain⟨its',r',⟨o',n',e',_,_,d'⟩,_⟩:=I.list h'
 rw[e]at e';cases e'
 rw[d]at d'
 injection d' with d1 _
 have:its=its':=by simpa using congrArg Jf d1
 subst this
 exact r.inj r'
theorem Inv.tuple_inj (I:Inv X pins σ H s)(h:SqT X.K H a xs)(h':SqT X.K H a ys):xs=ys:=by
 obtain⟨its,r,⟨o,e,_,n,d⟩,_⟩:=I.tuple h
 obtain⟨its',r',⟨o',e',_,n',d'⟩,_⟩:=I.tuple h'
 rw[e]at e';cases e'
 rw[d]at d'
 injection d' with d1 _
 have:its=its':=by simpa using congrArg Jf d1
 subst this
 exact r.inj r'
end
abbrev Cx.wish (X:Cx)(E:bv->db->Prop):Cx:={X with xe:=E}
abbrev Cx.nox (X:Cx):Cx:=X.wish λ_ _=>False
theorem Cx.Ok.wish {X:Cx}(ok:X.Ok)(E:bv->db->Prop):(X.wish E).Ok :=
 ⟨ok.mod,ok.kind,ok.glob,ok.blt,ok.above,ok.inj,ok.has,ok.cab,ok.hd,ok.frames,ok.stk,ok.exf,ok.bs,ok.bsz,ok.noex,ok.exfs,ok.funs,ok.frf⟩
theorem Cx.Ok.unwish {X:Cx}{E:bv->db->Prop}(ok:(X.wish E).Ok):X.Ok :=
 ⟨ok.mod,ok.kind,ok.glob,ok.blt,ok.above,ok.inj,ok.has,ok.cab,ok.hd,ok.frames,ok.stk,ok.exf,ok.bs,ok.bsz,ok.noex,ok.exfs,ok.funs,ok.frf⟩
section
variable {X:Cx}{pins:List (Addr×Obj)}{σ:St}{H:Hp}{s:db}{E:bv->db->Prop}
theorem Inv.wish (I:Inv X pins σ H s)(E:bv->db->Prop):Inv (X.wish E) pins σ H s:=⟨I.ok.wish E,I.os,I.bare,I.base,I.loc,I.cell,I.free,I.freeC,I.pin,I.hok,I.len⟩
theorem Inv.unwish (I:Inv (X.wish E) pins σ H s):Inv X pins σ H s:=⟨I.ok.unwish,I.os,I.bare,I.base,I.loc,I.cell,I.free,I.freeC,I.pin,I.hok,I.len⟩
theorem SP.unwish {D:Ends}{f:Flow}{s':db}(h:SP (X.wish E) pins D f s'):SP X pins D f s':=by
 cases f with
 | next=>obtain⟨σ',H',I,q⟩:=h;exact⟨σ',H',I.unwish,q⟩
 | brk=>obtain⟨σ',H',I,q⟩:=h;exact⟨σ',H',I.unwish,q⟩
 | cont=>obtain⟨σ',H',I,q⟩:=h;exact⟨σ',H',I.unwish,q⟩
 | ret u=>obtain⟨v,σ',H',I,r,q⟩:=h;exact⟨v,σ',H',I.unwish,r,q⟩
theorem PE.nox {e:Expr}{t:TE}(h:PE X.nox e t):PE X e t:=λpins s σ H Q I hw =>
 BB (h pins s σ H Q (I.wish _) hw) (λ_ _ ⟨v,H',I',r,q⟩=>⟨v,H',I'.unwish,r,q⟩) λ_ _ z=>BA z
theorem PT.nox {e:Expr}{t:TT}(h:PT X.nox e t):PT X e t:=λpins s σ H Q I hw =>
 BB (h pins s σ H Q (I.wish _) hw) (λ_ _ ⟨H',I',q⟩=>⟨H',I'.unwish,q⟩) λ_ _ z=>BA z
theorem PSs.nox {st:List Stmt}{t:TS}(h:PSs X.nox st t):PSs X st t:=λpins s σ H D I hw =>
 BB (h pins s σ H D (I.wish _) hw) (λ_ _ q=>q.unwish) λ_ _ z=>BA z
end
section
variable {X:Cx}{st:Stmt}{rest:List Stmt}{t u:TS}{e:Expr}{te:TE}{pos:Pos}
def tNext:TS:=λD σ H=>D.nx σ H
def tSeq (t u:TS):TS:=λD σ H=>t {D with nx:=u D} σ H
theorem bX:PSs X [] tNext:=λ_ _ σ H _ I h=>Dq ⟨σ,H,I,h⟩
theorem aw (h1:PS X st t)(h2:PSs X rest u):PSs X (st::rest) (tSeq t u):=by
 intro pins s σ H D I h
 refine Ed (thn (h1 pins s σ H {D with nx:=u D} I h) λf s1 q=>?_)
 cases f with
 | next =>
  obtain⟨σ',H',I',q⟩:=q
  exact h2 pins s1 σ' H' D I' q
 | ret v=>exact q
 | brk=>exact q
 | cont=>exact q
theorem aJ (h1:PS X st t):PSs X [st] t:=by
 intro pins s σ H D I h
 refine Ed (thn (h1 pins s σ H D I h) λf s1 q=>?_)
 cases f with
 | next=>exact Dq q
 | ret v=>exact q
 | brk=>exact q
 | cont=>exact q
theorem Inv.quiet {pins:List (Addr×Obj)}{σ:St}{H:Hp}{s:db}(I:Inv X pins σ H s):interactive X.env=false:=by simp[interactive,I.ok.kind]
def yU (te:TE):TS:=λD σ H=>te σ H λ_ H1=>D.nx σ H1
theorem g9 (he:PE X e te)(hs:EE e none pos.line X.env=pure false:=by rfl):PS X (.Expr e pos) (yU te):=by
 intro pins s σ H D I h
 exact wpAny_Expr_any (thn (he pins s σ H _ I h) λv s1 ⟨x,H1,I1,r1,q1⟩=>⟨σ,H1,I1,q1⟩) I.quiet hs
def tRet (te:TE):TS:=λD σ H=>te σ H D.rt
theorem bg (he:PE X e te):PS X (.Return (some e) pos) (tRet te):=by
 intro pins s σ H D I h
 exact wpAny_Return_some (thn (he pins s σ H _ I h) λv s1 ⟨x,H1,I1,r1,q1⟩=>⟨x,σ,H1,I1,r1,q1⟩)
def tIfS (c:TT)(t u:TS):TS:=λD σ H=>c σ H λb H1=>if b=true then t D σ H1 else u D σ H1
theorem d9 {c:Expr}{a b:List Stmt}{tc:TT}(hc:PT X c tc)(ha:PSs X a t)(hb:PSs X b u):PS X (.If c a b pos) (tIfS tc t u):=by
 intro pins s σ H D I h
 refine wpAny_If (thn (hc pins s σ H _ I h) λd s1 ⟨H1,I1,q1⟩=>?_)
 cases d with
 | true=>exact ha pins s1 σ H1 D I1 q1
 | false=>exact hb pins s1 σ H1 D I1 q1
def tNever:TS:=λ_ _ _=>False
theorem pd:PS X st tNever:=λ_ _ _ _ _ _ h=>h.elim
end
abbrev TG:=V->St->Hp->(St->Hp->Prop)->Prop
abbrev TGs:=List V->St->Hp->(St->Hp->Prop)->Prop
def PG (X:Cx)(target:Expr)(t:TG):Prop :=
 ∀(pins:List (Addr×Obj)) (s:db) (σ:St) (H:Hp) (v:V) (u:bv) (Q:St->Hp->Prop),Inv X pins σ H s->RelV v u->t v σ H Q ->
  li (o0 X.prog X.w) X.A (Di target X.env u) (λ_ s'=>∃ σ' H',Inv X pins σ' H' s'/\Q σ' H') X.xe s
def PGs (X:Cx)(ts:List Expr)(t:TGs):Prop :=
 ∀(pins:List (Addr×Obj)) (s:db) (σ:St) (H:Hp) (vs:List V) (us:List bv) (Q:St->Hp->Prop),Inv X pins σ H s->Vals vs us->t vs σ H Q ->
  li (o0 X.prog X.w) X.A (assignInOrder ((Ef ts X.env).map (·.2)) us) (λ_ s'=>∃ σ' H',Inv X pins σ' H' s'/\Q σ' H') X.xe s
abbrev TIp:=V->V->Hp->VK->Prop
def PIp (X:Cx)(op:Operator)(t:TIp):Prop :=
 ∀(pins:List (Addr×Obj)) (s:db) (σ:St) (H:Hp) (x y:V) (v u:bv) (Q:VK),Inv X pins σ H s->RelV x v->RelV y u->t x y H Q ->
  li (o0 X.prog X.w) X.A (inplaceOp op v u) (EP X pins σ Q) X.xe s
section
variable {X:Cx}{pos:Pos}
def vw (i:Nat):TG:=λv σ H Q=>Q (σ.set i (some v)) H
theorem aI {i:Nat}{x:Str}(hN:X.N.Nodup)(hi:X.N[i]? = some x)(hx:Loc X.env.scope x)(hf:X.fn x=true∨X.env.scope.names.lookup x=some .local:=by first | exact .inl rfl | exact .inr rfl | assumption):PG X (.Name x pos) (vw i):=by
 intro pins s σ H v u Q I r h
 exact EW (kN I hN hi hx r (λs' I'=>⟨_,H,I',h⟩) hf)
def gNil:TGs:=λvs σ H Q=>vs=[]/\Q σ H
def zX (t:TG)(u:TGs):TGs:=λvs σ H Q=>∃v r,vs=v::r/\t v σ H λσ' H'=>u r σ' H' Q
theorem bx:PGs X [] gNil:=by
 intro pins s σ H vs us Q I r h
 obtain⟨e,h⟩:=h
 subst e
 cases r
 exact assignInOrder_nil ⟨σ,H,I,h⟩
theorem aG {e:Expr}{es:List Expr}{t:TG}{u:TGs}(h1:PG X e t)(h2:PGs X es u)
  (hs:(Ef (e::es) X.env).map (·.2)=Di e X.env::(Ef es X.env).map (·.2):=by rfl):PGs X (e::es) (zX t u):=by
 intro pins s σ H vs us Q I r h
 obtain⟨v,vr,e1,h⟩:=h
 subst e1
 cases r with
 | cons r rr =>
  rw[hs]
  refine assignInOrder_cons (thn (h1 pins s σ H _ _ _ I r h) λ_ s1 ⟨σ1,H1,I1,q1⟩=>?_)
  exact h2 pins s1 σ1 H1 _ _ Q I1 rr q1
def gTup (K:bi)(n:Nat)(t:TGs):TG:=λv σ H Q=>∃a xs,v = .ref a/\SqT K H a xs/\xs.length=n/\t xs σ H Q
theorem zb {es:List Expr}{k:Nat}{t:TGs}{n:Nat}(hc:X.calm=true)(h:PGs X es t)
  (hn:(Ef es X.env).length=n:=by rfl) (hst:(Ef es X.env).findIdx? (·.1)=none:=by rfl):PG X (.Tuple es k pos) (gTup X.K n t):=by
 intro pins s σ H v u Q I r hw
 obtain⟨a,xs,e1,hq,hl,hw⟩:=hw
 subst e1
 cases r
 obtain⟨its,rv,ht,hz⟩:=I.tuple hq
 refine assign_Tuple_tuple (I.ok.hd hc) ht (by simp[hn,<- hl,rv.length]) hst λh' hx=>?_
 have I1:Inv X pins σ H {s with heap:=h'}:=I.kept (t':=s.toks) λb o e=>hx b o (ww (lc e)) e
 exact h pins _ σ H xs _ Q I1 (by simpa using rv) hw
def tAsg (te:TE)(g:TG):TS:=λD σ H=>te σ H λx H1=>g x σ H1 D.nx
theorem dP {tg e:Expr}{te:TE}{g:TG}(he:PE X e te)(hg:PG X tg g)(hs:swapsWithSole [tg] e pos.line X.env=pure false:=by rfl)(hw:swappedStores [tg] e X.env=pure none:=by rfl)
  (h1:(Ef [tg] X.env).map (·.2)=[Di tg X.env]:=by rfl):PS X (.Assign [tg] e pos) (tAsg te g):=by
 intro pins s σ H D I h
 refine IR (thn (he pins s σ H _ I h) λv s1 ⟨x,H1,I1,r1,q1⟩=>?_) hs hw
 rw[h1]
 exact thn (hg pins s1 σ H1 x v _ I1 r1 q1) λ_ s2 q=>q
theorem bf {i:Nat}{x:Str}{e:Expr}{te:TE}{pos':Pos}(hN:X.N.Nodup)(hi:X.N[i]? = some x)(hx:Loc X.env.scope x)(he:PE X e te)(hs:EE e (some (.Name x pos')) pos.line X.env=pure false:=by rfl)(hf:X.fn x=true∨X.env.scope.names.lookup x=some .local:=by first | exact .inl rfl | exact .inr rfl | assumption) :
  PS X (.Assign [.Name x pos'] e pos) (tAsg te (vw i)):=by
 intro pins s σ H D I h
 refine Jk (thn (he pins s σ H _ I h) λv s1 ⟨y,H1,I1,r1,q1⟩=>?_) hs
 exact kN I1 hN hi hx r1 (λs2 I2=>⟨_,H1,I2,q1⟩) hf
def tAug (i:Nat)(te:TE)(ti:TIp):TS:=λD σ H=>∃x,σ[i]? = some (some x)/\te σ H λy H1=>ti x y H1 λz H2=>D.nx (σ.set i (some z)) H2
theorem rX {i:Nat}{x:Str}{e:Expr}{te:TE}{op:Operator}{ti:TIp}{pos':Pos}(hN:X.N.Nodup)(hi:X.N[i]? = some x)(hx:Loc X.env.scope x)(he:PE X e te)(ho:PIp X op ti)(hf:X.fn x=true∨X.env.scope.names.lookup x=some .local:=by first | exact .inl rfl | exact .inr rfl | assumption) :
  PS X (.AugAssign (.Name x pos') op e pos) (tAug i te ti):=by
 intro pins s σ H D I h
 obtain⟨v,e1,h⟩:=h
 obtain⟨m,hn,hl⟩:=I.loc
 have vis:Vis X.env.scope x:=by rcases hx with k | k;exact .inl k;exact .inr (.inl k)
 obtain⟨u,r,l⟩:=hl i x v hi e1 vis
 refine wpAny_AugAssign_Name ?_
 have go:li (o0 X.prog X.w) X.A (eval e X.env) (λw s₂=>li (o0 X.prog X.w) X.A (inplaceOp op u w) (λr s₃=>li (o0 X.prog X.w) X.A (Jx X.env x r) (λ_=>SP X pins D .next) X.xe s₃) X.xe s₂) X.xe s:=by
  refine thn (he pins s σ H _ I h) λw s1 ⟨y,H1,I1,r1,q1⟩=>?_
  refine thn (ho pins s1 σ H1 v y u w _ I1 r r1 q1) λz s2 ⟨zv,H2,I2,r2,q2⟩=>?_
  exact kN I2 hN hi hx r2 (λs3 I3=>⟨_,H2,I3,q2⟩) hf
 rcases l with⟨hk,hm⟩ | ⟨hk,c,hc,hcell⟩
 ·exact IA I.ok.kind hk hn hm go
 ·rcases hk with hk | hk
  ·exact IQ I.ok.kind hk hc hcell go
  ·rcases hx with k | k
   ·have:X.env.scope.names.lookup x=some .free:=hk
    rw[k]at this;cases this
   ·have:X.env.scope.names.lookup x=some .free:=hk
    rw[k]at this;cases this
def ipI (f:Int->Int->Int):TIp:=λx y H Q=>∃i j,x = .int i/\y = .int j/\Q (.int (f i j)) H
theorem sU:PIp X .Add (ipI λi j=>i+j):=by
 intro pins s σ H x y v u Q I r1 r2 h
 obtain⟨i,j,e1,e2,q⟩:=h
 subst e1;subst e2
 obtain⟨t,rfl⟩:=r1
 obtain⟨t',rfl⟩:=r2
 exact iadd_int ⟨.int _,H,I.tok _,⟨_,rfl⟩,q⟩
end
section
variable {X:Cx}{pos:Pos}
def ro (c:TT)(tb:TS):TS:=λD σ H=>∃W:Nat->St->Hp->Prop,(∃m,W m σ H)/\∀m σ H,W m σ H ->
 c σ H λb H1=>if b=true then ∃N:St->Hp->Prop,(∀ σ' H',N σ' H'->∃m',m'<m/\W m' σ' H')/\tb {D with nx:=N,ct:=N,bk:=D.nx} σ H1 else D.nx σ H1
theorem o_ {c:Expr}{body:List Stmt}{tc:TT}{tb:TS}(hp:PassesOwn (o0 X.prog X.w) X.A X.env X.xe)(hc:PT X c tc)(hb:PSs X body tb):PS X (.While c body [] pos) (ro tc tb):=by
 intro pins s σ H D I h
 obtain⟨W,⟨m0,w0⟩,turn⟩:=h
 refine wpAny_While (Jn (λn s'=>∃ σ' H',Inv X pins σ' H' s'/\W n σ' H') ?_ m0 ⟨σ,H,I,w0⟩)
 rintro n s1 ⟨σ1,H1,I1,w1⟩
 refine Dp hp (thn (hc pins s1 σ1 H1 _ I1 (turn n σ1 H1 w1)) λb s2 ⟨H2,I2,q2⟩=>?_)
 cases b with
 | true =>
  obtain⟨N,hN,q2⟩:=q2
  rw[if_pos rfl]
  refine Dp hp (thn (hb pins s2 σ1 H2 _ I2 q2) λf s3 q3=>?_)
  cases f with
  | next =>
   obtain⟨σ3,H3,I3,n3⟩:=q3
   obtain⟨m',hm,w3⟩:=hN σ3 H3 n3
   exact⟨m',hm,σ3,H3,I3,w3⟩
  | cont =>
   obtain⟨σ3,H3,I3,n3⟩:=q3
   obtain⟨m',hm,w3⟩:=hN σ3 H3 n3
   exact⟨m',hm,σ3,H3,I3,w3⟩
  | brk=>exact q3
  | ret v=>exact q3
 | false =>
  rw[if_neg A4]
  exact Dq ⟨σ1,H2,I2,q2⟩
end
structure It where
 go:Nat->Hp->Prop
 yld:Nat->Hp->V->Hp->Prop
 stop:Nat->Hp->Prop
def FpOk (X:Cx)(pins:List (Addr×Obj))(H:Hp)(b:Addr):Prop :=
 H b=none/\b≠X.env.locals/\b∉X.fs/\(b∈X.ex∨X.s₀.heap.objs.size<=b)/\(∀x c,X.env.cells.lookup x=some c->c≠b)/\∀p∈X.pn++pins,p.1≠b
theorem Inv.fpOk {X:Cx}{pins:List (Addr×Obj)}{σ:St}{H H':Hp}{s:db}{b:Addr}(I:Inv X pins σ H s)(hb:s.heap.objs.size<=b)(hn:H' b=none):FpOk X pins H' b:=by
 refine⟨hn,BL (xz I.lt hb),I.nofs hb,.inr (A_ I.sz hb),λx c e z=>?_,λp hp z=>?_⟩
 ·obtain⟨v,q⟩:=I.cell x c e
  exact absurd (xz q.lt (by rw[z];exact hb)) (De _)
 ·exact absurd (xz (lc (I.pin p hp).1) (by rw[z];exact hb)) (De _)
structure Turn (P:wT)(w:Bf)(K:bi)(tg:Expr)(J:It)(fp:List Addr)(it:Addr)(tn:Nat->Heap->Prop):Prop where
 mem:it∈fp
 obj:∀i h,tn i h->∀b∈fp,∃o,h.get? b=some o/\∀v,o.data ≠ .cell v
 keep:∀i h h',tn i h->(∀b∈fp,∀o,h.get? b=some o->h'.get? b=some o)->tn i h'
 item:∀(X:Cx),X.prog=P->X.w=w->X.K=K->X.calm=true->∀(i:Nat) (pins:List (Addr×Obj)) (s:db) (σ:St) (H:Hp) (E:bv->db->Prop),Inv X pins σ H s->(∀b∈fp,FpOk X pins H b)->tn i s.heap->J.go i H ->
  li (o0 P w) X.A (DD (.ref it)) (λr s1=>∃u,r=some u /\
   li (o0 P w) X.A (Cn tg (.ref it) u) (λ_ s2=>∃x H',Inv X pins σ H' s2/\RelV x u/\J.yld i H x H'/\tn (i+1) s2.heap/\∀b∈fp,H' b=none) E s1) E s
 done:∀(X:Cx),X.prog=P->X.w=w->X.K=K->X.calm=true->∀(i:Nat) (pins:List (Addr×Obj)) (s:db) (σ:St) (H:Hp) (E:bv->db->Prop),Inv X pins σ H s->(∀b∈fp,FpOk X pins H b)->tn i s.heap->J.stop i H ->
  li (o0 P w) X.A (DD (.ref it)) (λr s1=>r=none/\Inv X pins σ H s1) E s
 self:∀(A:Bg) (i:Nat) (s:db) (Q:bv->db->Prop) (E:bv->db->Prop),tn i s.heap->Q (.ref it) s->li (o0 P w) A (Gc (.ref it)) Q E s
abbrev TI:=St->Hp->(It->Hp->Prop)->Prop
def PIE (X:Cx)(pins:List (Addr×Obj))(σ:St)(tg:Expr)(R:It->Hp->Prop)(itv:bv)(s2:db):Prop :=
 ∃(it:Addr) (fp:List Addr) (tn:Nat->Heap->Prop) (J:It) (H':Hp),itv = .ref it/\Inv X pins σ H' s2/\Turn X.prog X.w X.K tg J fp it tn/\tn 0 s2.heap/\(∀b∈fp,FpOk X pins H' b)/\R J H'
def PI (X:Cx)(tg iter:Expr)(wi:TI):Prop :=
 ∀(pins:List (Addr×Obj)) (s:db) (σ:St) (H:Hp) (R:It->Hp->Prop),Inv X pins σ H s->wi σ H R ->
  li (o0 X.prog X.w) X.A (eval iter X.env) (λv s1=>li (o0 X.prog X.w) X.A (Gc v) (PIE X pins σ tg R) X.xe s1) X.xe s
theorem tf {M:HU}{A:Bg}{E:bv->db->Prop}{s:db}{tg:Expr}{it:Addr}{u:bv}{o:Obj}{n:String}{vs:Array bv}{Q:Unit->db->Prop}(ho:s.heap.get? it=some o)(hc:o.cls = .type n)(hd:o.data = .fields vs)
  (hn:["enumerate", "zip", "dict_itemiterator", "dict_reverseitemiterator", "odict_iterator", "itertools.zip_longest", "itertools.pairwise"].contains n=false) (hQ:Q () s):li M A (Cn tg (.ref it) u) Q E s:=by
 unfold Cn
 cases tg <;> first
  | exact kt hQ
  | (cases u <;> first
    | exact kt hQ
    | (refine bn (IX ho ?_);rw[hc,hd];show li M A (if(["enumerate", "zip", "dict_itemiterator", "dict_reverseitemiterator", "odict_iterator", "itertools.zip_longest", "itertools.pairwise"].contains n&&vs[0]? == some (BN _))=true then _ else _) Q E s;rw[if_neg (by intro h;rw[hn,DL]at h;cases h)];exact kt hQ))
def Itl (K:bi)(a:Addr):It :=
 ⟨λi H=>∃xs x,SqL K H a xs/\xs[i]? = some x,λi H x H'=>H'=H/\∀xs,SqL K H a xs->xs[i]? = some x,λi H=>∃xs,SqL K H a xs/\xs.length<=i⟩
def Itt (K:bi)(a:Addr):It :=
 ⟨λi H=>∃xs x,SqT K H a xs/\xs[i]? = some x,λi H x H'=>H'=H/\∀xs,SqT K H a xs->xs[i]? = some x,λi H=>∃xs,SqT K H a xs/\xs.length<=i⟩
def Itr (lo:Int)(n:Nat):It:=⟨λi _=>i<n,λi H x H'=>H'=H/\x = .int (lo+i),λi _=>n<=i⟩
theorem qT {P:wT}{w:Bf}{K:bi}{tg:Expr}(a it:Addr):Turn P w K tg (Itl K a) [it] it (λi h=>h.IsListIter it a i) where
 mem:=by simp
 obj:=λi h st b hb=>by
  have e:b=it:=by simpa using hb
  subst e
  obtain⟨o,e,c,d⟩:=st
  exact⟨o,e,λv z=>by rw[d]at z;cases z⟩
 keep:=λi h h' st k=>st.at λo e=>k it (by simp) o e
 item:=by
  intro X hP hw hK hc i pins s σ H E I hf st hg
  subst hP hw hK
  obtain⟨xs,x,hq,hx⟩:=hg
  obtain⟨its,rv,p,hz⟩:=I.list hq
  obtain⟨u,hu,ru⟩:=rv.get hx
  obtain⟨f0,f1,f2,f3,f4,f5⟩:=hf it (by simp)
  refine wpAny_pyNext_list_item st p.isList (x:=u) (by simpa using hu) λh' st' sb=>?_
  have I1:Inv X pins σ H {s with heap:=h'}:=I.turned (t':=s.toks) (λb o hb e=>(sb.2 b hb).trans e) f0 f1 f3 f4 f5
  obtain⟨o,e,c,d⟩:=id st'
  exact⟨u,rfl,tf (s:={s with heap:=h'}) e c d (by decide) ⟨x,H,I1,ru,⟨rfl,λys hy=>by rw[I.list_inj hy hq];exact hx⟩,st',λb hb=>(hf b hb).1⟩⟩
 done:=by
  intro X hP hw hK hc i pins s σ H E I hf st hg
  subst hP hw hK
  obtain⟨xs,hq,hx⟩:=hg
  obtain⟨its,rv,p,hz⟩:=I.list hq
  obtain⟨f0,f1,f2,f3,f4,f5⟩:=hf it (by simp)
  have hl:=rv.length
  exact wpAny_pyNext_list_end (I.ok.hd hc) st p.isList (by simp;omega) λh' eb=>⟨rfl,I.turned (t':=s.toks) (λb o hb e=>eb b o hb e) f0 f1 f3 f4 f5⟩
 self:=λ_ _ _ _ _ st h=>wpAny_pyIter_listiter st h
theorem p7 {P:wT}{w:Bf}{K:bi}{tg:Expr}(a it:Addr):Turn P w K tg (Itt K a) [it] it (λi h=>h.IsTupleIter it a i) where
 mem:=by simp
 obj:=λi h st b hb=>by
  have e:b=it:=by simpa using hb
  subst e
  obtain⟨o,e,c,d⟩:=st
  exact⟨o,e,λv z=>by rw[d]at z;cases z⟩
 keep:=λi h h' st k=>st.at λo e=>k it (by simp) o e
 item:=by
  intro X hP hw hK hc i pins s σ H E I hf st hg
  subst hP hw hK
  obtain⟨xs,x,hq,hx⟩:=hg
  obtain⟨its,rv,p,hz⟩:=I.tuple hq
  obtain⟨u,hu,ru⟩:=rv.get hx
  obtain⟨f0,f1,f2,f3,f4,f5⟩:=hf it (by simp)
  refine wpAny_pyNext_tuple_item st (show s.heap.IsTuple a its.toArray from p) (x:=u) (by simpa using hu) λh' st' sb=>?_
  have I1:Inv X pins σ H {s with heap:=h'}:=I.turned (t':=s.toks) (λb o hb e=>(sb.2 b hb).trans e) f0 f1 f3 f4 f5
  obtain⟨o,e,c,d⟩:=id st'
  exact⟨u,rfl,tf (s:={s with heap:=h'}) e c d (by decide) ⟨x,H,I1,ru,⟨rfl,λys hy=>by rw[I.tuple_inj hy hq];exact hx⟩,st',λb hb=>(hf b hb).1⟩⟩
 done:=by
  intro X hP hw hK hc i pins s σ H E I hf st hg
  subst hP hw hK
  obtain⟨xs,hq,hx⟩:=hg
  obtain⟨its,rv,p,hz⟩:=I.tuple hq
  obtain⟨f0,f1,f2,f3,f4,f5⟩:=hf it (by simp)
  have hl:=rv.length
  exact wpAny_pyNext_tuple_end (I.ok.hd hc) st (show s.heap.IsTuple a its.toArray from p) (by simp;omega) λh' eb=>⟨rfl,I.turned (t':=s.toks) (λb o hb e=>eb b o hb e) f0 f1 f3 f4 f5⟩
 self:=λ_ _ _ _ _ st h=>wpAny_pyIter_tupleiter st h
theorem p9 {P:wT}{w:Bf}{K:bi}{tg:Expr}(it:Addr)(lo:Int)(n:Nat):Turn P w K tg (Itr lo n) [it] it (λi h=>IsRangeIter h it (lo+(i:Nat)*1) ((n:Int) - (i:Nat)) 1) where
 mem:=by simp
 obj:=λi h st b hb=>by
  have e:b=it:=by simpa using hb
  subst e
  exact⟨_,st,λv z=>by
   have z':Data.fields _=Data.cell v:=z
   cases z'⟩
 keep:=λi h h' st k=>k it (by simp) _ st
 item:=by
  intro X hP hw hK hc i pins s σ H E I hf st hg
  subst hP hw hK
  obtain⟨f0,f1,f2,f3,f4,f5⟩:=hf it (by simp)
  have W:=Walks.range (prog:=X.prog) (w:=X.w) (I.ok.hd hc) it lo 1 n
  refine W.item i s _ _ hg st λv h' tk hv st' kk=>?_
  obtain⟨t,rfl⟩:=hv
  have I1:Inv X pins σ H {s with heap:=h',toks:=tk}:=I.turned (λb o hb e=>kk b o (by simpa using hb) e) f0 f1 f3 f4 f5
  refine⟨_,rfl,tf (s:={s with heap:=h',toks:=tk}) (n := "range_iterator") st' rfl rfl (by decide) ⟨.int (lo+i),H,I1,⟨t,?_⟩,⟨rfl,rfl⟩,st',λb hb=>(hf b hb).1⟩⟩
  rw[Int.mul_one]
 done:=by
  intro X hP hw hK hc i pins s σ H E I hf st hg
  subst hP hw hK
  obtain⟨f0,f1,f2,f3,f4,f5⟩:=hf it (by simp)
  exact wpAny_pyNext_range_end (I.ok.hd hc) st (by have:n<=i:=hg;omega) λh' eb=>⟨rfl,I.turned (t':=s.toks) (λb o hb e=>eb b o hb e) f0 f1 f3 f4 f5⟩
 self:=λ_ _ _ _ _ st h=>wpAny_pyIter_rangeiter st h
section
variable {X:Cx}{tg:Expr}
theorem uN {pins:List (Addr×Obj)}{σ:St}{H:Hp}{s:db}{R:It->Hp->Prop}{E:bv->db->Prop}{lo hi:Int}{t u v:Tok}{tk:Nat}(I:Inv X pins σ H s)(h1:-(2^62)<=lo)(h2:lo<2^62)(h3:-(2^62)<=hi)(h4:hi<2^62)
  (q:R (Itr lo (hi - lo).toNat) H):li (o0 X.prog X.w) X.A (Gc (.ref s.heap.objs.size)) (PIE X pins σ tg R) E {s with heap:=s.heap.push {cls:=.type "range",data:=.fields #[.int lo t,.int hi u,.int 1 v]},toks:=tk}:=by
 refine wpAny_pyIter_range (IsRange.new ..) (small_one h1 h2 h3 h4) ?_
 have I1:Inv X pins σ H {s with heap:=s.heap.push {cls:=.type "range",data:=.fields #[.int lo t,.int hi u,.int 1 v]},toks:=tk}:=I.kept λb o e=>dL _ e
 refine⟨(s.heap.push {cls:=.type "range",data:=.fields #[.int lo t,.int hi u,.int 1 v]}).objs.size,[(s.heap.push {cls:=.type "range",data:=.fields #[.int lo t,.int hi u,.int 1 v]}).objs.size],_,_,H,rfl,
  I1.kept (t':=tk) λb o e=>dL _ e,p9 _ lo (hi - lo).toNat,?_,λb hb=>?_,q⟩
 ·have e1:lo+((0:Nat):Int)*1=lo:=by simp
  have e2:(((hi - lo).toNat:Nat):Int) - ((0:Nat):Int)=FX lo hi 1:=by rw[rangeSize_one];split <;> omega
  show IsRangeIter _ _ (lo+((0:Nat):Int)*1) ((((hi - lo).toNat:Nat):Int) - ((0:Nat):Int)) 1
  rw[e1,e2]
  exact wv _ rfl
 ·have e:b=(s.heap.push {cls:=.type "range",data:=.fields #[.int lo t,.int hi u,.int 1 v]}).objs.size:=by simpa using hb
  subst e
  exact I1.fpOk (wl _) (I1.hok.fresh (wl _))
def zS (ta:TA):TI:=λσ H R=>ta σ H λvs H1=>∃j:Int,vs=[.int j]/\-(2^62)<=j/\j<2^62/\R (Itr 0 j.toNat) H1
theorem jm {a:Expr}{ta:TA}{p pos:Pos}(hg:Gl X "range")(hm:X.mg "range" = none)(ha:PA X [a] ta)(hs:Ba [a] X.env=[(false,eval a X.env)]:=by rfl):PI X tg (.Call (.Name "range" p) [a] [] pos) (zS ta):=by
 intro pins s σ H R I h
 refine IJ (fX I hg hm boot_range (B0 (thn (ha pos pins s σ H _ I h) λus s1 ⟨vs,H1,I1,r1,q1⟩=>?_) hs rfl))
 obtain⟨j,e,q1,q2,q⟩:=q1
 subst e
 cases r1 with
 | cons r rr =>
  cases rr
  obtain⟨t,rfl⟩:=r
  exact call_range_1 (uN I1 (by omega) (by omega) q1 q2 (by simpa using q))
def tFor (wi:TI)(g:TG)(tb:TS):TS:=λD σ H=>wi σ H λJ H1=>∃W:Nat->Nat->St->Hp->Prop,(∃m,W 0 m σ H1)/\∀i m σ H,W i m σ H ->
 (J.stop i H/\D.nx σ H)∨(J.go i H/\∃N:St->Hp->Prop,(∀ σ' H',N σ' H'->∃m',m'<m/\W (i+1) m' σ' H')/\∀x H',J.yld i H x H'->g x σ H' λσ2 H2=>tb {D with nx:=N,ct:=N,bk:=D.nx} σ2 H2)
def e6 (fp:List Addr)(h:Heap):List (Addr×Obj):=fp.filterMap λb=>(h.get? b).map λo=>(b,o)
theorem bP {fp:List Addr}{h:Heap}{b:Addr}{o:Obj}(hb:b∈fp)(e:h.get? b=some o):(b,o)∈e6 fp h:=HW.mpr ⟨b,hb,by rw[e];rfl⟩
theorem l5 {fp:List Addr}{h:Heap}{p:Addr×Obj}(hp:p∈e6 fp h):p.1∈fp/\h.get? p.1=some p.2:=by
 obtain⟨b,hb,e⟩:=HW.mp hp
 cases q:h.get? b with
 | none=>rw[q]at e;cases e
 | some o =>
  rw[q]at e
  have e':(b,o)=p:=Co e
  subst e'
  exact⟨hb,q⟩
theorem Inv.pinned {pins:List (Addr×Obj)}{σ:St}{H:Hp}{s:db}{fp:List Addr}(I:Inv X pins σ H s)(hf:∀b∈fp,FpOk X pins H b)(ho:∀b∈fp,∃o,s.heap.get? b=some o/\∀v,o.data ≠ .cell v):Inv X (pins++e6 fp s.heap) σ H s :=
 I.pins_of λp hp=>(Bq.mp hp).elim (λz=>I.pin p (lm _ z)) λz=>by
  obtain⟨hb,e⟩:=l5 z
  obtain⟨f0,f1,f2,_⟩:=hf p.1 hb
  obtain⟨o,e',d⟩:=ho p.1 hb
  rw[e]at e';cases e'
  exact⟨e,f0,f1,f2,d⟩
theorem Inv.unpinned {pins pl:List (Addr×Obj)}{σ:St}{H:Hp}{s:db}(I:Inv X (pins++pl) σ H s):Inv X pins σ H s:=I.pins_of λp hp=>I.pin p (lm _ (Bu _ hp))
theorem iw {iter:Expr}{body:List Stmt}{wi:TI}{g:TG}{tb:TS}{pos:Pos}(hp:PassesOwn (o0 X.prog X.w) X.A X.env X.xe)(hc:X.calm=true)(hi:PI X tg iter wi)(hg:PG X tg g)(hb:PSs X body tb)
  (hs:∀x,B6 iter X.env x=pure x:=by intro _;rfl):PS X (.For tg iter body [] pos) (tFor wi g tb):=by
 intro pins s σ H D I h
 refine wpAny_For (thn (hi pins s σ H _ I h) λv s1 h1=>thn h1 λitv s2 h2=>?_) hs
 obtain⟨it,fp,tn,J,H2,e,I2,T,st2,f2,W,⟨m0,w0⟩,turn⟩:=h2
 subst e
 have stat:∀ {H':Hp},(∀b∈fp,H' b=none)->∀b∈fp,FpOk X pins H' b:=λhn b hb=>⟨hn b hb,(f2 b hb).2⟩
 refine codeAny_forLoop_any (λn s'=>∃i σ' H',Inv X pins σ' H' s'/\tn i s'.heap/\(∀b∈fp,H' b=none)/\W i n σ' H') ?_ m0 ⟨0,σ,H2,I2,st2,λb hb=>(f2 b hb).1,w0⟩
 rintro n s3 ⟨i,σ3,H3,I3,st3,fr3,w3⟩
 rcases turn i n σ3 H3 w3 with⟨stop,qn⟩ | ⟨go,N,hN,step⟩
 ·refine Dp hp (thn (T.done X rfl rfl rfl hc i pins s3 σ3 H3 X.xe I3 (stat fr3) st3 stop) λr s4 ⟨hr,I4⟩=>?_)
  subst hr
  exact Dq ⟨σ3,H3,I4,qn⟩
 ·refine Dp hp (thn (T.item X rfl rfl rfl hc i pins s3 σ3 H3 X.xe I3 (stat fr3) st3 go) λr s4 ⟨u,hr,h4⟩=>?_)
  subst hr
  refine Dp hp (thn h4 λ_ s5 ⟨x,H5,I5,r5,y5,st5,fr5⟩=>?_)
  have I5':=I5.pinned (stat fr5) (T.obj _ _ st5)
  refine Dp hp (thn (hg _ s5 σ3 H5 x u _ I5' r5 (step x H5 y5)) λ_ s6 ⟨σ6,H6,I6,q6⟩=>?_)
  refine Dp hp (thn (hb _ s6 σ6 H6 _ I6 q6) λf s7 q7=>?_)
  have HL:∀ {σ7:St} {H7:Hp},Inv X (pins++e6 fp s5.heap) σ7 H7 s7->N σ7 H7->∃m,m<n/\∃i σ' H',Inv X pins σ' H' s7/\tn i s7.heap/\(∀b∈fp,H' b=none)/\W i m σ' H':=λ{σ7 H7} I7 n7=>by
   obtain⟨m',hm,w7⟩:=hN σ7 H7 n7
   refine⟨m',hm,i+1,σ7,H7,I7.unpinned,T.keep _ _ _ st5 λb hb o e=>(I7.pin (b,o) (lm _ (lm _ (bP hb e)))).1,λb hb=>?_,w7⟩
   obtain⟨o,e,d⟩:=T.obj _ _ st5 b hb
   exact(I7.pin (b,o) (lm _ (lm _ (bP hb e)))).2.1
  cases f with
  | next=>obtain⟨σ7,H7,I7,n7⟩:=q7;exact HL I7 n7
  | cont=>obtain⟨σ7,H7,I7,n7⟩:=q7;exact HL I7 n7
  | brk=>obtain⟨σ7,H7,I7,q7⟩:=q7;exact⟨σ7,H7,I7.unpinned,q7⟩
  | ret v=>obtain⟨x7,σ7,H7,I7,r7,q7⟩:=q7;exact⟨x7,σ7,H7,I7.unpinned,r7,q7⟩
end
abbrev R2:=V->V->Hp->VK->Prop
def OpR (X:Cx)(f:bv->bv->Sem bv)(r:R2):Prop :=
 ∀(pins:List (Addr×Obj)) (s:db) (σ:St) (H:Hp) (x y:V) (v u:bv) (Q:VK),Inv X pins σ H s->RelV x v->RelV y u->r x y H Q ->
  li (o0 X.prog X.w) X.A (f v u) (EP X pins σ Q) X.xe s
def UnR (X:Cx)(f:bv->Sem bv)(r:V->Hp->VK->Prop):Prop :=
 ∀(pins:List (Addr×Obj)) (s:db) (σ:St) (H:Hp) (x:V) (v:bv) (Q:VK),Inv X pins σ H s->RelV x v->r x H Q ->
  li (o0 X.prog X.w) X.A (f v) (EP X pins σ Q) X.xe s
def fF (X:Cx)(f:bv)(r:List V->Hp->VK->Prop):Prop :=
 ∀(pins:List (Addr×Obj)) (s:db) (σ:St) (H:Hp) (xs:List V) (us:List bv) (Q:VK),Inv X pins σ H s->Vals xs us->r xs H Q ->
  li (o0 X.prog X.w) X.A (call f us) (EP X pins σ Q) X.xe s
def TruR (X:Cx)(r:V->Hp->(Bool->Hp->Prop)->Prop):Prop :=
 ∀(pins:List (Addr×Obj)) (s:db) (σ:St) (H:Hp) (x:V) (v:bv) (Q:Bool->Hp->Prop),Inv X pins σ H s->RelV x v->r x H Q ->
  li (o0 X.prog X.w) X.A (truthy v) (TP X pins σ Q) X.xe s
def tOp (r:R2)(ta tb:TE):TE:=λσ H Q=>ta σ H λx H1=>tb σ H1 λy H2=>r x y H2 Q
def tUn (r:V->Hp->VK->Prop)(ta:TE):TE:=λσ H Q=>ta σ H λx H1=>r x H1 Q
def rI (C:Int->Int->Prop)(g:Int->Int->V):R2:=λx y H Q=>∃i j,x = .int i/\y = .int j/\C i j/\Q (g i j) H
def rI0 (g:Int->Int->V):R2:=λx y H Q=>∃i j,x = .int i/\y = .int j/\Q (g i j) H
def rU (g:Int->V):V->Hp->VK->Prop:=λx H Q=>∃i,x = .int i/\Q (g i) H
section
variable {X:Cx}{a b c:Expr}{ta tb tc:TE}{pos:Pos}
theorem binT (ha:PE X a ta)(hb:PE X b tb){pins:List (Addr×Obj)}{s:db}{σ:St}{H:Hp}{R:V->V->Hp->Prop}(I:Inv X pins σ H s)
  (h:ta σ H λx H1=>tb σ H1 λy H2=>R x y H2) {Q:bv->db->Prop} {f:bv->bv->Sem bv}
  (hf:∀v u s2 x y H2,Inv X pins σ H2 s2->RelV x v->RelV y u->R x y H2->li (o0 X.prog X.w) X.A (f v u) Q X.xe s2) :
  li (o0 X.prog X.w) X.A (eval a X.env) (λv s₁=>li (o0 X.prog X.w) X.A (eval b X.env) (λu s₂=>li (o0 X.prog X.w) X.A (f v u) Q X.xe s₂) X.xe s₁) X.xe s:=by
 refine thn (ha pins s σ H _ I h) λv s1 ⟨x,H1,I1,r1,q1⟩=>?_
 refine thn (hb pins s1 σ H1 _ I1 q1) λu s2 ⟨y,H2,I2,r2,q2⟩=>?_
 exact hf v u s2 x y H2 I2 r1 r2 q2
theorem bM {op:Operator}{r:R2}(ho:OpR X (DZ op) r)(ha:PE X a ta)(hb:PE X b tb):PE X (.BinOp a op b pos) (tOp r ta tb):=by
 intro pins s σ H Q I h
 exact wpAny_BinOp (binT ha hb I h λv u s2 x y H2 I2 rx ry q=>ho pins s2 σ H2 x y v u Q I2 rx ry q)
theorem Ao {op:UnaryOp}{r:V->Hp->VK->Prop}(ho:UnR X (unaryOp op) r)(ha:PE X a ta):PE X (.UnaryOp op a pos) (tUn r ta):=by
 intro pins s σ H Q I h
 exact UnaryOp_ (thn (ha pins s σ H _ I h) λv s1 ⟨x,H1,I1,r1,q1⟩=>ho pins s1 σ H1 x v Q I1 r1 q1)
theorem opI {f:bv->bv->Sem bv}{C:Int->Int->Prop}{g:Int->Int->Int}
  (rule:∀(i j:Int) (t u:Tok) (s:db) (Q:bv->db->Prop) (E:bv->db->Prop),C i j->Q (.int (g i j) s.toks) {s with toks:=s.toks+1}->li (o0 X.prog X.w) X.A (f (.int i t) (.int j u)) Q E s) :
  OpR X f (rI C λi j=>.int (g i j)):=by
 intro pins s σ H x y v u Q I rx ry h
 obtain⟨i,j,rfl,rfl,hc,q⟩:=h
 obtain⟨t,rfl⟩:=rx
 obtain⟨t',rfl⟩:=ry
 exact rule i j t t' s _ _ hc ⟨.int (g i j),H,I.tok _,⟨_,rfl⟩,q⟩
theorem opI0 {f:bv->bv->Sem bv}{g:Int->Int->Int}
  (rule:∀(i j:Int) (t u:Tok) (s:db) (Q:bv->db->Prop) (E:bv->db->Prop),Q (.int (g i j) s.toks) {s with toks:=s.toks+1}->li (o0 X.prog X.w) X.A (f (.int i t) (.int j u)) Q E s) :
  OpR X f (rI0 λi j=>.int (g i j)):=by
 intro pins s σ H x y v u Q I rx ry h
 obtain⟨i,j,rfl,rfl,q⟩:=h
 obtain⟨t,rfl⟩:=rx
 obtain⟨t',rfl⟩:=ry
 exact rule i j t t' s _ _ ⟨.int (g i j),H,I.tok _,⟨_,rfl⟩,q⟩
theorem opB0 {f:bv->bv->Sem bv}{g:Int->Int->Bool}
  (rule:∀(i j:Int) (t u:Tok) (s:db) (Q:bv->db->Prop) (E:bv->db->Prop),Q (.bool (g i j)) s->li (o0 X.prog X.w) X.A (f (.int i t) (.int j u)) Q E s) :
  OpR X f (rI0 λi j=>.bl (g i j)):=by
 intro pins s σ H x y v u Q I rx ry h
 obtain⟨i,j,rfl,rfl,q⟩:=h
 obtain⟨t,rfl⟩:=rx
 obtain⟨t',rfl⟩:=ry
 exact rule i j t t' s _ _ ⟨.bl (g i j),H,I,rfl,q⟩
def CPow (i j:Int):Prop:=0<=j/\j<=1000000/\i.natAbs<2^64
def CMul (i j:Int):Prop:=(-(2^64)<i/\i<2^64)∨(-(2^64)<j/\j<2^64)
theorem CMul.ok {i j:Int}(h:CMul i j):IntMulOk i j:=by
 rcases h with⟨h1,h2⟩ | ⟨h1,h2⟩
 ·exact .of_left (intBits_le_64 h1 h2)
 ·exact .of_right (intBits_le_64 h1 h2)
theorem eh:OpR X (DZ .Add) (rI0 λi j=>.int (i+j)):=opI0 λ_ _ _ _ _ _ _ q=>add_int q
theorem j7:OpR X (DZ .Sub) (rI0 λi j=>.int (i - j)):=opI0 λ_ _ _ _ _ _ _ q=>sub_int q
theorem j8:OpR X (DZ .Mult) (rI CMul λi j=>.int (i*j)):=opI λ_ _ _ _ _ _ _ hc q=>mul_int q hc.ok
theorem ju:OpR X (DZ .Mod) (rI (λ_ j=>0<j) λi j=>.int (i % j)):=opI λi j _ _ _ _ _ hc q=>by
 have h1:(0:Int)<j:=hc
 exact mod_int' (by omega) (by rw[Int.fmod_eq_emod_of_nonneg i (by omega)];exact q)
theorem pA:OpR X (DZ .Pow) (rI CPow λi j=>.int (i^j.toNat)):=opI λ_ _ _ _ _ _ _ hc q=>pow_int_small hc.1 hc.2.1 hc.2.2 q
theorem wt:OpR X (DZ .LShift) (rI CPow λi j=>.int (i*2^j.toNat)):=opI λ_ _ _ _ _ _ _ hc q=>lshift_int_small hc.1 hc.2.1 hc.2.2 q
theorem zr:OpR X (DZ .BitAnd) (rI0 λi j=>.int (Em i j)):=opI0 λ_ _ _ _ _ _ _ q=>and_int q
theorem zj:OpR X (DZ .BitXor) (rI0 λi j=>.int (E8 i j)):=opI0 λ_ _ _ _ _ _ _ q=>xor_int q
theorem unI {f:bv->Sem bv}{g:Int->Int}
  (rule:∀(i:Int) (t:Tok) (s:db) (Q:bv->db->Prop) (E:bv->db->Prop),Q (.int (g i) s.toks) {s with toks:=s.toks+1}->li (o0 X.prog X.w) X.A (f (.int i t)) Q E s) :
  UnR X f (rU λi=>.int (g i)):=by
 intro pins s σ H x v Q I rx h
 obtain⟨i,rfl,q⟩:=h
 obtain⟨t,rfl⟩:=rx
 exact rule i t s _ _ ⟨.int (g i),H,I.tok _,⟨_,rfl⟩,q⟩
theorem yJ:UnR X (unaryOp .USub) (rU λi=>.int (-i)):=unI λ_ _ _ _ _ q=>neg_int q
end
def scal:V->V->Bool
 | .non,.non=>true | .non,.int _=>true | .int _,.non=>true | .non,.bl _=>true | .bl _,.non=>true | .non,.str _=>true | .str _,.non=>true
 | .int _,.int _=>true | .bl _,.bl _=>true | .str _,.str _=>true | .byt _,.byt _=>true
 | .int _,.str _=>true | .str _,.int _=>true | .bl _,.str _=>true | .str _,.bl _=>true
 | _,_=>false
def rEq:R2:=λx y H Q=>scal x y=true/\Q (.bl (decide (x=y))) H
theorem yi {i j:Int}:decide (V.int i=V.int j)=(i==j):=by
 rw[CM]
 simp
theorem z7 {i j:Bool}:decide (V.bl i=V.bl j)=(i==j):=by
 rw[CM]
 simp
theorem yh {i j:Str}:decide (V.str i=V.str j)=(i==j):=by
 rw[CM]
 simp
theorem yj {i j:Array UInt8}:decide (V.byt i=V.byt j)=(i.toList==j.toList):=by
 rw[CM]
 cases i
 cases j
 simp
section
variable {X:Cx}{a b c:Expr}{ta tb tc:TE}{pos:Pos}
theorem dw {pins:List (Addr×Obj)}{σ:St}{H:Hp}{s:db}{Q:VK}{k k':Bool}(I:Inv X pins σ H s)(q:Q (.bl k) H)(e:k=k'):EP X pins σ Q (.bool k') s:=by
 subst e
 exact⟨.bl k,H,I,rfl,q⟩
theorem zq:OpR X (Cu .Eq) rEq:=by
 intro pins s σ H x y v u Q I rx ry h
 obtain⟨hs,q⟩:=h
 cases x with
 | non =>
  cases rx
  cases y with
  | non=>cases ry;exact JX (dw I q (by simp))
  | bl j=>cases ry;exact JZ (dw I q (by simp))
  | int j=>obtain⟨t',rfl⟩:=ry;exact JY (dw I q (by simp))
  | str j=>obtain⟨t',rfl⟩:=ry;exact JW (dw I q (by simp))
  | _=>exact absurd (show false=true from hs) A4
 | bl i =>
  cases rx
  cases y with
  | non=>cases ry;exact J5 (dw I q (by simp))
  | bl j=>cases ry;exact eq_bool (dw I q z7)
  | str j=>obtain⟨t',rfl⟩:=ry;exact JF (dw I q (by simp))
  | _=>exact absurd (show false=true from hs) A4
 | int i =>
  obtain⟨t,rfl⟩:=rx
  cases y with
  | non=>cases ry;exact J0 (dw I q (by simp))
  | int j=>obtain⟨t',rfl⟩:=ry;exact eq_int (dw I q yi)
  | str j=>obtain⟨t',rfl⟩:=ry;exact JE (dw I q (by simp))
  | _=>exact absurd (show false=true from hs) A4
 | str i =>
  obtain⟨t,rfl⟩:=rx
  cases y with
  | non=>cases ry;exact JV (dw I q (by simp))
  | bl j=>cases ry;exact JD (dw I q (by simp))
  | int j=>obtain⟨t',rfl⟩:=ry;exact JC (dw I q (by simp))
  | str j=>obtain⟨t',rfl⟩:=ry;exact eq_str (dw I q yh)
  | _=>exact absurd (show false=true from hs) A4
 | byt i =>
  obtain⟨t,rfl⟩:=rx
  cases y with
  | byt j=>obtain⟨t',rfl⟩:=ry;exact PySem.W.eq_bytes (dw I q yj)
  | _=>exact absurd (show false=true from hs) A4
 | _=>cases y <;> exact absurd (show false=true from hs) A4
theorem zk:OpR X (Cu .Lt) (rI0 λi j=>.bl (decide (i<j))):=opB0 λ_ _ _ _ _ _ _ q=>lt_int q
theorem sr:OpR X (Cu .LtE) (rI0 λi j=>.bl (decide (i<=j))):=opB0 λ_ _ _ _ _ _ _ q=>le_int q
theorem jP:OpR X (Cu .Gt) (rI0 λi j=>.bl (decide (j<i))):=opB0 λ_ _ _ _ _ _ _ q=>gt_int q
theorem zp:OpR X (Cu .GtE) (rI0 λi j=>.bl (decide (j<=i))):=opB0 λ_ _ _ _ _ _ _ q=>ge_int q
theorem zm:OpR X (Cu .Is) (λx y H Q=>y = .non/\Q (.bl (decide (x = .non))) H):=by
 intro pins s σ H x y v u Q I rx ry h
 obtain⟨rfl,q⟩:=h
 cases ry
 refine is_none_gen (dw I q ?_)
 cases x <;> first
  | (cases rx;rfl)
  | (obtain⟨t,rfl⟩:=rx;rfl)
theorem bU (b:Expr){op:II}(h:op ≠ .In:=by decide)(h2:op ≠ .NotIn:=by decide):Eo op b=false:=by
 have e1:(op==CmpOp.In)=false:=by cases op <;> first | rfl | exact absurd rfl h
 have e2:(op==CmpOp.NotIn)=false:=by cases op <;> first | rfl | exact absurd rfl h2
 cases b <;> simp[Eo,e1,e2]
theorem dX {op:II}{r:R2}(ho:OpR X (Cu op) r)(ha:PE X a ta)(hb:PE X b tb)(hm:Eo op b=false):PE X (.Compare a [op] [b] pos) (tOp r ta tb):=by
 intro pins s σ H Q I h
 exact wpAny_Compare1 (binT ha hb I h λv u s2 x y H2 I2 rx ry q=>ho pins s2 σ H2 x y v u Q I2 rx ry q) hm
def xc (t:TE):TT:=λσ H Q=>t σ H λx H'=>∃k,x = .bl k/\Q k H'
theorem bR {op:II}{r:R2}(ho:OpR X (Cu op) r)(ha:PE X a ta)(hb:PE X b tb)(hm:Eo op b=false):PT X (.Compare a [op] [b] pos) (xc (tOp r ta tb)):=by
 intro pins s σ H Q I h
 refine Ij (thn (ha pins s σ H _ I h) λv s1 ⟨x,H1,I1,r1,q1⟩=>thn (hb pins s1 σ H1 _ I1 q1) λu s2 ⟨y,H2,I2,r2,q2⟩ =>
  thn (ho pins s2 σ H2 x y v u _ I2 r1 r2 q2) λc s3 ⟨z,H3,I3,r3,k,e,q3⟩=>?_) hm
 subst e
 cases r3
 exact CP ⟨H3,I3,q3⟩
def vZ (r r':R2)(ta tb tc:TE):TE:=λσ H Q=>ta σ H λx H1=>tb σ H1 λy H2=>r x y H2 λz H3=>∃k,z = .bl k /\
 (if k=true then tc σ H3 λw' H4=>r' y w' H4 Q else Q (.bl false) H3)
theorem uY {op op':II}{r r':R2}(ho:OpR X (Cu op) r)(ho':OpR X (Cu op') r')(ha:PE X a ta)(hb:PE X b tb)(hc:PE X c tc)
  (hm:lastMarks [op,op'] [b,c]=false:=by with_unfolding_all rfl):PE X (.Compare a [op,op'] [b,c] pos) (vZ r r' ta tb tc):=by
 intro pins s σ H Q I h
 refine Compare_chain (thn (ha pins s σ H _ I h) λv s1 ⟨x,H1,I1,r1,q1⟩=>chain_link (thn (hb pins s1 σ H1 _ I1 q1) λu s2 ⟨y,H2,I2,r2,q2⟩ =>
  thn (ho pins s2 σ H2 x y v u _ I2 r1 r2 q2) λd s3 ⟨z,H3,I3,r3,k,e,q3⟩=>?_)) hm
 subst e
 cases r3
 refine CP ?_
 cases k with
 | false=>exact ite_ff ⟨.bl false,H3,I3,rfl,q3⟩
 | true=>exact ite_tt (chain_last (thn (hc pins s3 σ H3 _ I3 q3) λw' s4 ⟨z',H4,I4,r4,q4⟩=>ho' pins s4 σ H4 y z' u w' Q I4 r2 r4 q4))
def TruV (K:bi)(x:V)(H:Hp)(k:Bool):Prop :=
 match x with
 | .non=>k=false
 | .bl b=>k=b
 | .int i=>k=(i != 0)
 | .str y=>y.length<=xL/\k=((y.length:Int) != 0)
 | .byt y=>y.size<=xL/\k=((y.size:Int) != 0)
 | .ref p=>(∃xs,SqL K H p xs/\k = !xs.isEmpty)∨(∃xs,SqT K H p xs/\k = !xs.isEmpty) ∨ ∃kvs,H p=some (.dK kvs)/\k = !kvs.isEmpty
 | _=>False
theorem qy {κ:Type}{kvs:List (κ×V)}{vs:List (κ×bv)}(r:KV kvs vs):(!vs.isEmpty) = !kvs.isEmpty:=by
 cases r <;> rfl
theorem ki {xs:List V}{its:List bv}(r:Vals xs its):(!its.toArray.isEmpty) = !xs.isEmpty:=by
 cases r <;> simp
theorem mf:(xL:Nat)<2^63:=by rw[Et];decide
theorem yM:TruR X (λx H Q=>∃k,TruV X.K x H k/\Q k H):=by
 intro pins s σ H x v Q I rx h
 obtain⟨k,e,q⟩:=h
 have hl:=mf
 have hs:xL=16777216:=Et
 cases x with
 | non =>
  cases rx
  have e':k=false:=e
  subst e'
  exact truthy_none ⟨H,I,q⟩
 | bl b =>
  cases rx
  have e':k=b:=e
  subst e'
  exact CP ⟨H,I,q⟩
 | int i =>
  obtain⟨t,rfl⟩:=rx
  have e':k=(i != 0):=e
  subst e'
  exact PySem.P.truthy_int ⟨H,I,q⟩
 | str y =>
  obtain⟨t,rfl⟩:=rx
  obtain⟨hy,e'⟩:y.length<=xL/\k=((y.length:Int) != 0):=e
  subst e'
  exact PySem.P.truthy_str (by omega) ⟨H,I.tok _,q⟩
 | byt y =>
  obtain⟨t,rfl⟩:=rx
  obtain⟨hy,e'⟩:y.size<=xL/\k=((y.size:Int) != 0):=e
  subst e'
  exact PySem.W.truthy_bytes (by omega) ⟨H,I.tok _,q⟩
 | ref p =>
  cases rx
  have e':(∃xs,SqL X.K H p xs/\k = !xs.isEmpty)∨(∃xs,SqT X.K H p xs/\k = !xs.isEmpty) ∨ ∃kvs,H p=some (.dK kvs)/\k = !kvs.isEmpty:=e
  rcases e' with⟨xs,hx,e'⟩ | ⟨xs,hx,e'⟩ | ⟨kvs,hx,e'⟩
  ·subst e'
   obtain⟨its,r,pl,hz⟩:=I.list hx
   have hlen:=r.length
   exact wpAny_truthy_list pl.isList (by simp only[sB];omega) ⟨H,I.tok _,by rw[ki r];exact q⟩
  ·subst e'
   obtain⟨its,r,pl,hz⟩:=I.tuple hx
   have hlen:=r.length
   exact truthy_tuple pl (by simp only[sB];omega) ⟨H,I.tok _,by rw[ki r];exact q⟩
  ·subst e'
   obtain⟨hz,hS,vs,r,m⟩:kvs.length<=xL/\(p==Dh)=false/\∃vs,KV kvs vs/\s.heap.DictOf (bA X.prog X.w) p vs:=I.hok p _ hx
   have hlen:kvs.length=vs.length:=Fj r
   exact wpAny_truthy_dict hS m (by omega) ⟨H,I.tok _,by rw[qy r];exact q⟩
 | _=>exact(show False from e).elim
theorem uP (ha:PE X a ta)(he:∀whole,ER a X.env whole=(do let v <- whole;Dt a.pos;FQ [v] (truthy v))) :
  PT X a (λσ H Q=>ta σ H λx H'=>∃k,TruV X.K x H' k/\Q k H'):=by
 intro pins s σ H Q I h
 exact isTrue_plain (thn (ha pins s σ H _ I h) λv s1 ⟨x,H1,I1,r1,q1⟩=>yM pins s1 σ H1 x v Q I1 r1 q1) (he _)
theorem iC {x:V}{us:List bv}(r:Vals [x] us):∃u,us=[u]/\RelV x u:=by
 cases r with
 | cons r1 r2=>cases r2;exact⟨_,rfl,r1⟩
theorem yI {x y:V}{us:List bv}(r:Vals [x,y] us):∃u w',us=[u,w']/\RelV x u/\RelV y w':=by
 cases r with
 | cons r1 r2 =>
  cases r2 with
  | cons r3 r4=>cases r4;exact⟨_,_,rfl,r1,r3⟩
theorem t_ (hc:X.calm=true):fF X (.builtin "max") (λxs H Q=>∃i j,xs=[.int i,.int j]/\Q (.int (if j > i then j else i)) H):=by
 intro pins s σ H xs us Q I r h
 obtain⟨i,j,rfl,q⟩:=h
 obtain⟨u,w',rfl,⟨t,rfl⟩,⟨t',rfl⟩⟩:=yI r
 refine max_two_ints (I.ok.hd hc) λh' tk k=>⟨_,H,I.kept k,?_,q⟩
 by_cases hj:j > i
 ·rw[if_pos hj,if_pos hj];exact⟨_,rfl⟩
 ·rw[if_neg hj,if_neg hj];exact⟨_,rfl⟩
theorem t8 (hc:X.calm=true):fF X (.builtin "min") (λxs H Q=>∃i j,xs=[.int i,.int j]/\Q (.int (if j<i then j else i)) H):=by
 intro pins s σ H xs us Q I r h
 obtain⟨i,j,rfl,q⟩:=h
 obtain⟨u,w',rfl,⟨t,rfl⟩,⟨t',rfl⟩⟩:=yI r
 refine min_two_ints (I.ok.hd hc) λh' tk k=>⟨_,H,I.kept k,?_,q⟩
 by_cases hj:j<i
 ·rw[if_pos hj,if_pos hj];exact⟨_,rfl⟩
 ·rw[if_neg hj,if_neg hj];exact⟨_,rfl⟩
theorem mQ:fF X (.type "int") (λxs H Q=>(∃i,xs=[.int i]/\Q (.int i) H) ∨ ∃k,xs=[.bl k]/\Q (.int (if k then 1 else 0)) H):=by
 intro pins s σ H xs us Q I r h
 rcases h with⟨i,rfl,q⟩ | ⟨k,rfl,q⟩
 ·obtain⟨u,rfl,t,rfl⟩:=iC r
  exact call_int_int ⟨.int i,H,I,⟨_,rfl⟩,q⟩
 ·obtain⟨u,rfl,r1⟩:=iC r
  cases r1
  exact call_int_bool ⟨.int (if k then 1 else 0),H,I.tok _,⟨_,rfl⟩,q⟩
end
structure ObjM (h:Heap)(x dx C:Addr)(mA:Str->Option bv):Prop where
 obj:h.get? x=some (C3 C dx)
 ns:h.Ns1 dx mA
 ne:dx≠x
theorem sO {h:Heap}{dx:Addr}{mA:Str->Option bv}(n:h.Ns1 dx mA):∃od,h.get? dx=some od/\∀name,E3 name od=some (mA name):=by
 obtain⟨o,es,ep,ho,hd,hk,_,hm⟩:=n
 refine⟨o,ho,λname=>?_⟩
 have e:=hm name
 unfold nsFind findBy at e
 rw[<- Array.find?_toList]at e
 unfold E3
 rw[hd]
 dsimp only
 split
 ·rename_i y q
  rw[q]at e
  exact congrArg some e
 ·rename_i q
  rw[q]at e
  have a:es.toList.any (·.refKey)=false:=by
   rw[List.any_eq_false]
   intro y hy
   obtain⟨z,t,hkey⟩:=hk y (Array.mem_toList_iff.mp hy)
   simp[DictEntry.refKey,hkey]
  have a':¬es.toList.any (·.refKey)=true:=by rw[a];exact A4
  rw[if_neg a']
  exact congrArg some e
theorem ObjM.look {h:Heap}{x dx C:Addr}{mA:Str->Option bv}(I:ObjM h x dx C mA):∃od,E4 h x (C3 C dx) C (some od)/\∀name,E3 name od=some (mA name) :=
 let ⟨od,ho,hl⟩:=sO I.ns
 ⟨od,⟨I.obj,rfl,rfl,ho⟩,hl⟩
section
variable {prog:wT}{w:Bf}{A:Bg}{E:bv->db->Prop}{s:db}{K:bi}{x dx C f:Addr}{mA:Str->Option bv}{name:Str}{v:bv}
theorem x4 {expr:Bool}{Q:bv->db->Prop}(X:K.In s.heap)(I:ObjM s.heap x dx C mA)(hg:DN K C name=true)(hh:DE K C=true)
  (ha:A9 K (.ref C) name=some none) (hv:mA name=some v) (hv':Hx v=true) (h:Q v {s with toks:=s.toks+1}) :
  li (o0 prog w) A (getAttr (.ref x) name expr) Q E s:=by
 obtain⟨od,J,hl⟩:=I.look
 exact PySem.W.get_value X J (Fc hg).1 (PySem.W.findObj_own hh ha rfl (by rw[hl,hv])) hv' h
theorem vq {pl:Sem Bool}{Q:bv×List bv->db->Prop}(X:K.In s.heap)(I:ObjM s.heap x dx C mA)(hg:DN K C name=true)
  (hf:A9 K (.ref C) name=some (some (.ref f))) (ht:Ce K (.ref f)=true) (hv:mA name=none) (h:Q (.ref f,[.ref x]) s) :
  li (o0 prog w) A (FR (.ref x) name pl) Q E s:=by
 obtain⟨od,J,hl⟩:=I.look
 exact PySem.W.method_fn X J (Fc hg).1 (Fc hg).2 hf (beq_iff_eq.mp ht) (by show(E3 name od).map (·.isSome)=some false;rw[hl,hv];rfl) h
theorem xq {ns:List Str}{Q:Unit->db->Prop}(X:K.In s.heap)(I:ObjM s.heap x dx C mA)
  (hs:A9 K (.ref C) "__setattr__" = some (some (.builtin "object.__setattr__"))) (hp:Fs K C=true) (ht:FZ K C name=some none) (hh:DE K C=true)
  (hw:G0 mA ns) (hsz:ns.length<=xL)
  (h:∀h',ObjM h' x dx C (λy=>if y=name then some v else mA y)->Bx dx s.heap h'->Q () {s with heap:=h',toks:=s.toks+2}) :
  li (o0 prog w) A (setAttr (.ref x) name v) Q E s:=by
 obtain⟨od,J,hl⟩:=I.look
 refine PySem.W.set_plain X J hs (PySem.W.osa_open (s:={s with toks:=s.toks+1}) (r:=none) X J hp ht λb=>?_)
 obtain⟨cd,hc,hd'⟩:=PySem.W.any_some hh
 have hx:s.heap.get? x=some ⟨.ref C,some dx,.plain,#[]⟩:=I.obj
 refine bn (kt (bn (bn (wpAny_loadPart hx (bn (JB (s:={s with toks:=s.toks+1}) (PySem.W.looks_clsIn X hc) ?_))))))
 rw[hd']
 refine kt (a:=some dx) (bn (kt (bn ?_)))
 refine wpAny_nsSet1 (s:={s with toks:=s.toks+1}) I.ns λh' hn2 hs2=>?_
 obtain⟨oD,esD,epD,hoD,hdD,hcD⟩:=hn2.count (JU name v hw)
 refine bn (wpAny_lookBehind hoD (by rw[hdD];exact pastItsLine_dict (A_ hcD (by rw[A6];omega))) ?_)
 exact kt (h _ ⟨(hs2.2 _ (B_ I.ne)).trans I.obj,hn2,I.ne⟩ hs2)
theorem vc {R:D3->db->Prop}{vs:List bv}{kw:List (Str×bv)}(X:K.In s.heap)(hm:ES K C=true)
  (hi:A9 K (.ref C) "__init__" = some (some (.ref f))) (hf:PySem.W.typeIn K (.ref f)=some (.type "function"))
  (h:B7 (o0 prog w) (A.under (.builtin "type.__call__" ⟨.ref C::vs,kw⟩)) (.call (.ref f) ⟨.ref (s.heap.objs.size+1)::vs,kw⟩) (PySem.W.InitBack (s.heap.objs.size+1) R)
   {s with heap:=(s.heap.push Cq).push (C3 C s.heap.objs.size)}) :
  B7 (o0 prog w) A (.call (.ref C) ⟨vs,kw⟩) R s:=by
 obtain⟨hh,g,d,t,os⟩:=s
 exact PySem.W.make_core (PySem.W.makes_of X hm) (PySem.W.looks_findIn X hi) (λself=>PySem.W.bind_fn X self hf) (.inl rfl) h
end
def putF (f:Str)(v:V):List (Str×V)->List (Str×V)
 | []=>[(f,v)]
 | (g,x)::r=>if g=f then(g,v)::r else(g,x)::putF f v r
theorem jA (f g:Str)(v:V):∀fs:List (Str×V),(putF f v fs).lookup g=if g=f then some v else fs.lookup g
 | []=>by
  show Dr g [(f,v)]=_
  by_cases h:g=f
  ·have hb:(g==f)=true:=beq_iff_eq.mpr h
   simp only[Dr,hb,if_pos h]
  ·have hb:(g==f)=false:=beq_eq_false_iff_ne.mpr h
   simp only[Dr,hb,if_neg h]
 | (k,x)::r=>by
  have ih:=jA f g v r
  rw[show putF f v ((k,x)::r)=(if k=f then(k,v)::r else(k,x)::putF f v r)from rfl]
  by_cases hk:k=f
  ·rw[if_pos hk]
   by_cases h:g=k
   ·have hb:(g==k)=true:=beq_iff_eq.mpr h
    simp only[Dr,hb,if_pos (h.trans hk)]
   ·have hb:(g==k)=false:=beq_eq_false_iff_ne.mpr h
    simp only[Dr,hb,if_neg (λe:g=f=>h (e.trans hk.symm))]
  ·rw[if_neg hk]
   by_cases h:g=k
   ·have hb:(g==k)=true:=beq_iff_eq.mpr h
    simp only[Dr,hb,if_neg (λe:g=f=>hk (h.symm.trans e))]
   ·have hb:(g==k)=false:=beq_eq_false_iff_ne.mpr h
    simp only[Dr,hb]
    exact ih
theorem jC (f:Str)(v:V):∀fs:List (Str×V),f∈(putF f v fs).map (·.1)/\∀g,g∈fs.map (·.1)->g∈(putF f v fs).map (·.1)
 | []=>⟨by simp[putF],λg h=>by simp at h⟩
 | (k,x)::r=>by
  obtain⟨i1,i2⟩:=jC f v r
  rw[show putF f v ((k,x)::r)=(if k=f then(k,v)::r else(k,x)::putF f v r)from rfl]
  by_cases hk:k=f
  ·rw[if_pos hk]
   subst hk
   exact⟨by simp,λg h=>by simpa using h⟩
  ·rw[if_neg hk]
   refine⟨?_,λg h=>?_⟩
   ·rw[A1]
    exact Be _ i1
   ·rw[A1]at h ⊢
    rcases wn.mp h with e | e
    ·exact wn.mpr (.inl e)
    ·exact Be _ (i2 g e)
theorem jB (f:Str)(v:V):∀fs:List (Str×V),(putF f v fs).length<=fs.length+1
 | []=>by simp[putF]
 | (k,x)::r=>by
  have ih:=jB f v r
  rw[show putF f v ((k,x)::r)=(if k=f then(k,v)::r else(k,x)::putF f v r)from rfl]
  by_cases hk:k=f
  ·rw[if_pos hk,A6,A6];omega
  ·rw[if_neg hk,A6,A6];omega
theorem RelO.some_of {v:V}{o:Option bv}(r:RelO (some v) o):∃u,o=some u/\RelV v u:=by
 cases o with
 | none=>exact(show False from r).elim
 | some u=>exact⟨u,rfl,r⟩
theorem RelO.none_of {o:Option bv}(r:RelO none o):o=none:=by
 cases o with
 | none=>rfl
 | some u=>exact(show False from r).elim
theorem sZ {v:V}{u:bv}(r:RelV v u):Hx u=true:=by
 cases v with
 | non=>cases (show u=Value.none from r);rfl
 | bl b=>cases (show u=Value.bool b from r);rfl
 | int i=>obtain⟨t,e⟩:=(show ∃t,u=Value.int i t from r);cases e;rfl
 | str x=>obtain⟨t,e⟩:=(show ∃t,u=Value.str x t from r);cases e;rfl
 | byt b=>obtain⟨t,e⟩:=(show ∃t,u=Value.bytes b t from r);cases e;rfl
 | flt b=>obtain⟨t,e⟩:=(show ∃t,u=Value.float b t from r);cases e;rfl
 | ref a=>cases (show u=Value.ref a from r);rfl
 | ty n=>cases (show u=Value.type n from r);rfl
section
variable {P:wT}{w:Bf}{H H':Hp}{h h':Heap}{a C dx:Addr}{fs fs':List (Str×V)}
theorem la (hok:HOk P w H h)(e:H a=some (.ins C dx fs)):∃mA,ObjM h a dx C mA/\(∀f,RelO (fs.lookup f) (mA f))/\G0 mA (fs.map (·.1))/\fs.length<=1000/\H dx=some (.own a):=by
 obtain⟨d,z,ne,ob,mA,n,r,q⟩:=(show cA P w H h a (.ins C dx fs)from hok a _ e)
 exact⟨mA,⟨ob,n,ne⟩,r,q,z,d⟩
end
structure Cls (K:bi)(C:Addr):Prop where
 pg:DN K C Fp=true
 hd:DE K C=true
 po:Fs K C=true
 sa:A9 K (.ref C) "__setattr__" = some (some (.builtin "object.__setattr__"))
theorem Cls.get {K:bi}{C:Addr}(c:Cls K C)(f:Str):DN K C f=true:=c.pg
def gZ (K:bi)(C:Addr)(f:Str):Prop:=A9 K (.ref C) f=some none
theorem gZ.taker {K:bi}{C:Addr}{f:Str}(n:gZ K C f):FZ K C f=some none:=by
 unfold FZ
 rw[show A9 K (.ref C) f=some none from n]
 rfl
structure Meth (K:bi)(C:Addr)(m:Str)(f:Addr):Prop where
 at_:A9 K (.ref C) m=some (some (.ref f))
 fn:Ce K (.ref f)=true
 kp:Bs K (.ref f)=true
section
variable {X:Cx}{pins:List (Addr×Obj)}{σ:St}{H:Hp}{s:db}{a C dx:Addr}{fs:List (Str×V)}{f:Str}{v:V}{A:Bg}{E:bv->db->Prop}
theorem qE {b:Bool}{Q:bv->db->Prop}(I:Inv X pins σ H s)(e:H a=some (.ins C dx fs))(c:Cls X.K C)(n:gZ X.K C f)(l:fs.lookup f=some v)
  (h:∀u s',Inv X pins σ H s'->RelV v u->Q u s'):li (o0 X.prog X.w) A (getAttr (.ref a) f b) Q E s:=by
 obtain⟨mA,O,r,_,_,_⟩:=la I.hok e
 obtain⟨u,hu,ru⟩:=RelO.some_of (v:=v) (o:=mA f) (by rw[<- l];exact r f)
 exact x4 I.kIn O (c.get f) c.hd n hu (sZ ru) (h u _ (I.tok _) ru)
theorem km {m:Str}{g:Addr}{pl:Sem Bool}{Q:bv×List bv->db->Prop}(I:Inv X pins σ H s)(e:H a=some (.ins C dx fs))(c:Cls X.K C)(k:Meth X.K C m g)(l:fs.lookup m=none)
  (h:Q (.ref g,[.ref a]) s):li (o0 X.prog X.w) A (FR (.ref a) m pl) Q E s:=by
 obtain⟨mA,O,r,_,_,_⟩:=la I.hok e
 have hn:mA m=none:=RelO.none_of (by rw[<- l];exact r m)
 exact vq I.kIn O (c.get m) k.at_ k.fn hn h
theorem qf {y:V}{u:bv}{Q:Unit->db->Prop}(I:Inv X pins σ H s)(e:H a=some (.ins C dx fs))(c:Cls X.K C)(n:gZ X.K C f)(hl:fs.length<1000)(ry:RelV y u)
  (h:∀s',Inv X pins σ (upd H a (.ins C dx (putF f y fs))) s'->Q () s'):li (o0 X.prog X.w) A (setAttr (.ref a) f u) Q E s:=by
 obtain⟨mA,O,r,wi,_,ho⟩:=la I.hok e
 have hz:(fs.map (·.1)).length<=xL:=by rw[lw,Et];omega
 refine xq I.kIn O c.sa c.po n.taker c.hd wi hz λh' O' sb=>h _ ?_
 have hd:∃o,h'.get? dx=some o:=let ⟨o,_,_,e',_⟩:=O'.ns;⟨o,e'⟩
 refine I.write (x:=a) (e:=dx) (by rw[e];exact True.intro) (.inr ho) (λb q hb z=>(sb.2 b hb).trans z) hd ?_
 refine⟨by rw[aL O.ne];exact ho,?_,O.ne,O'.obj,_,O'.ns,λg=>?_,λg hg=>?_⟩
 ·have:=jB f y fs;omega
 ·show RelO ((putF f y fs).lookup g) (if g=f then some u else mA g)
  rw[jA]
  by_cases q:g=f
  ·rw[if_pos q,if_pos q];exact ry
  ·rw[if_neg q,if_neg q];exact r g
 ·by_cases q:g=f
  ·rw[q];exact(jC f y fs).1
  ·refine(jC f y fs).2 g (wi g λz=>hg ?_)
   show(if g=f then some u else mA g)=none
   rw[if_neg q];exact z
theorem Inv.made (I:Inv X pins σ H s):Inv X pins σ (upd (upd H s.heap.objs.size (.own (s.heap.objs.size+1))) (s.heap.objs.size+1) (.ins C s.heap.objs.size []))
  {s with heap:=(s.heap.push Cq).push (C3 C s.heap.objs.size)}:=by
 have e1:(s.heap.push Cq).get? s.heap.objs.size=some Cq:=wv s.heap rfl
 have e2:((s.heap.push Cq).push (C3 C s.heap.objs.size)).get? (s.heap.objs.size+1)=some (C3 C s.heap.objs.size):=by
  have:=wv (s.heap.push Cq) (o:=C3 C s.heap.objs.size) rfl
  rwa [B8]at this
 have e3:(s.heap.push Cq).Ns s.heap.objs.size (λ_=>none):=⟨Cq,#[],_,e1,rfl,(λe he=>absurd he (by simp)),λ_=>rfl⟩
 have I1:=I.laid (a:=s.heap.objs.size) (o:=.own (s.heap.objs.size+1)) (h':=s.heap.push Cq) (t':=s.toks) (λb u q=>dL _ q) (wl _) ⟨_,e1⟩
 refine I1.laid (a:=s.heap.objs.size+1) (o:=.ins C s.heap.objs.size []) (t':=s.toks) (λb u q=>dL _ q) (Ey (B8 _ _)) ?_
 have ne:s.heap.objs.size≠s.heap.objs.size+1:=ww (CV _)
 refine⟨by rw[aL ne,aQ],Bl _,ne,e2,λ_=>none,(Heap.Ns1.of_empty e3).at λo q=>dL _ q,λ_=>True.intro,λy hy=>absurd rfl hy⟩
theorem yr {prog:wT}{w:Bf}{env:Env}{e:Expr}{f:Str}{pos:Pos}{s:db}{Q:bv->db->Prop}(hb:E2 e f env (eval e env)=eval e env)
  (h:li (o0 prog w) A (eval e env) (λo s₁=>li (o0 prog w) A (getAttr o f true) Q E s₁) E s):li (o0 prog w) A (eval (.Attribute e f pos) env) Q E s :=
 Attribute_any_ h (by rw[arm_eval_Attribute,hb])
end
def tFld (K:bi)(ta:TE)(f:Str):TE:=λσ H Q=>ta σ H λx H1=>∃a C dx fs v,x = .ref a/\H1 a=some (.ins C dx fs)/\Cls K C/\gZ K C f/\fs.lookup f=some v/\Q v H1
def sFld (K:bi)(ta tv:TE)(f:Str):TS:=λD σ H=>tv σ H λy H1=>ta σ H1 λx H2=>∃a C dx fs,x = .ref a/\H2 a=some (.ins C dx fs)/\Cls K C/\gZ K C f/\fs.length<1000 /\
 D.nx σ (upd H2 a (.ins C dx (putF f y fs)))
section
variable {X:Cx}{o e value:Expr}{f:Str}{pos pos' tpos:Pos}{ta tv:TE}
theorem cY (he:PE X e ta)(hb:E2 e f X.env (eval e X.env)=eval e X.env):PE X (.Attribute e f pos) (tFld X.K ta f):=by
 intro pins s σ H Q I h
 refine yr hb (thn (he pins s σ H _ I h) λu s1 ⟨x,H1,I1,rx,a,C,dx,fs,v,ex,ea,c,n,l,q⟩=>?_)
 subst ex
 obtain rfl:u=Value.ref a:=rx
 exact qE I1 ea c n l λu' s2 I2 ru=>⟨v,H1,I2,ru,q⟩
theorem lT (ha:PE X o ta)(hv:PE X value tv)(hs:EE value (some (.Attribute o f pos')) pos.line X.env=pure false):PS X (.Assign [.Attribute o f pos'] value pos) (sFld X.K ta tv f):=by
 intro pins s σ H D I h
 refine plainObj_wpAny_Assign_Attribute (thn (hv pins s σ H _ I h) λu s1 ⟨y,H1,I1,ry,q⟩=>thn (ha pins s1 σ H1 _ I1 q) λov s2 ⟨x,H2,I2,rx,a,C,dx,fs,ex,ea,c,n,l,q2⟩=>?_) hs
 subst ex
 obtain rfl:ov=Value.ref a:=rx
 exact qf I2 ea c n l ry λs3 I3=>⟨σ,_,I3,q2⟩
end
section
variable {X:Cx}{pins:List (Addr×Obj)}{σ:St}{H:Hp}{s:db}{A:Bg}{E:bv->db->Prop}{Q:bv->db->Prop}{c:bv}{b:Bool}
inductive TyOf (K:bi) (H:Hp):V->bv->Prop where
 | non:TyOf K H .non (.type "NoneType")
 | bl (x:Bool):TyOf K H (.bl x) (.type "bool")
 | int (i:Int):TyOf K H (.int i) (.type "int")
 | str (x:Str):TyOf K H (.str x) (.type "str")
 | flt (x:UInt64):TyOf K H (.flt x) (.type "float")
 | lst {a:Addr} {xs:List V} (e:H a=some (.lst xs)):TyOf K H (.ref a) (.type "list")
 | frz {a:Addr} {o:Obj} {xs:List V} (e:H a=some (.frz o (.lst xs))):TyOf K H (.ref a) (.type "list")
 | tup {a:Addr} {xs:List V} (e:H a=some (.tup xs)):TyOf K H (.ref a) (.type "tuple")
 | dK {a:Addr} {kvs:List (Key×V)} (e:H a=some (.dK kvs)):TyOf K H (.ref a) (.type "dict")
 | dT {a:Addr} {kvs:List (List Key×V)} (e:H a=some (.dT kvs)):TyOf K H (.ref a) (.type "dict")
 | ins {a C dx:Addr} {fs:List (Str×V)} (e:H a=some (.ins C dx fs)) (cl:Cls K C) (ha:A9 K (.ref C) "__class__" = some (some (.builtin "object.__class__")))
   (hn:Hr K (.builtin "object.__class__") "__get__" = some (some (.builtin "getset_descriptor.__get__"))) (htk:HQ K (.builtin "object.__class__")=some true)
   (hm:Im K C (.type "object")=some true):TyOf K H (.ref a) (.ref C)
theorem gQ {x:V}{u t:bv}(I:Inv X pins σ H s)(rx:RelV x u)(ty:TyOf X.K H x t)(e:CT X.K t c=some b)(h:∀tk,Q (.bool b) {s with toks:=tk}) :
  li (o0 X.prog X.w) A (call (.builtin "isinstance") [u,c]) Q E s:=by
 cases ty with
 | non=>cases (show u=Value.none from rx);exact BY PySem.W.kitx_none I.kIn True.intro e (λz=>nomatch z) h
 | bl y=>cases (show u=Value.bool y from rx);exact BY PySem.W.kitx_bool I.kIn True.intro e (λz=>nomatch z) h
 | int i=>obtain⟨t,q⟩:=(show ∃t,u=Value.int i t from rx);cases q;exact BY PySem.W.kitx_int I.kIn True.intro e (λz=>nomatch z) h
 | str y=>obtain⟨t,q⟩:=(show ∃t,u=Value.str y t from rx);cases q;exact BY PySem.W.kitx_str I.kIn True.intro e (λz=>nomatch z) h
 | flt y=>obtain⟨t,q⟩:=(show ∃t,u=Value.float y t from rx);cases q;exact BY PySem.W.kitx_float I.kIn True.intro e (λz=>nomatch z) h
 | @lst a xs ea =>
  cases (show u=Value.ref a from rx)
  obtain⟨_,_,n,_,h1⟩:=(show cA X.prog X.w H s.heap a (.lst xs)from I.hok a _ ea)
  exact BY Fu I.kIn ⟨_,h1,rfl⟩ e (λz=>nomatch z) h
 | @frz a ob xs ea =>
  cases (show u=Value.ref a from rx)
  obtain⟨_,_,_,n,_,h1⟩:=(show cA X.prog X.w H s.heap a (.frz ob (.lst xs))from I.hok a _ ea)
  exact BY Fu I.kIn ⟨_,h1,rfl⟩ e (λz=>nomatch z) h
 | @tup a xs ea =>
  cases (show u=Value.ref a from rx)
  obtain⟨_,_,_,p⟩:=(show cA X.prog X.w H s.heap a (.tup xs)from I.hok a _ ea)
  obtain⟨o,h1,h2,_⟩:=p
  exact BY Hk I.kIn ⟨o,h1,h2⟩ e (λz=>nomatch z) h
 | @dK a kvs ea =>
  cases (show u=Value.ref a from rx)
  obtain⟨_,_,vs,_,p⟩:=(show cA X.prog X.w H s.heap a (.dK kvs)from I.hok a _ ea)
  obtain⟨o,es,ep,h1,h2,_⟩:=p
  exact BY Hs I.kIn ⟨o,h1,h2.1⟩ e (λz=>nomatch z) h
 | @dT a kvs ea =>
  cases (show u=Value.ref a from rx)
  obtain⟨_,_,xs,_,o,es,ep,h1,h2,_⟩:=(show cA X.prog X.w H s.heap a (.dT kvs)from I.hok a _ ea)
  exact BY Hs I.kIn ⟨o,h1,h2.1⟩ e (λz=>nomatch z) h
 | @ins a C dx fs ea cl ha hn htk hm =>
  cases (show u=Value.ref a from rx)
  obtain⟨mA,O,_⟩:=la I.hok ea
  obtain⟨od,J,_⟩:=O.look
  exact BY (PySem.W.kitx_own (cl.get _) cl.hd ha hn htk hm) I.kIn J e (λz=>nomatch z) h
end
structure Room (k:Nat)(A:Bg):Prop where
 hd:A.handled=none
 dp:A.depth+3*k+5<recursionLimit
 un:A.units+16*k+200<DY
 gd:A.guards=some []
theorem Room.mono {j k:Nat}{A:Bg}(r:Room k A)(h:j<=k):Room j A:=⟨r.hd,by have:=r.dp;omega,by have:=r.un;omega,r.gd⟩
theorem Room.deeper {k:Nat}{A:Bg}(r:Room (k+1) A)(env:Env):Room k (A.deeper env) :=
 ⟨r.hd,by have:=r.dp;show A.depth+1+3*k+5<_;omega,by have:=r.un;show A.units+3+16*k+200<_;omega,r.gd⟩
theorem qv {A:Bg}{C:Addr}{us:List bv}{kw:List (Str×bv)}:(A.under (.builtin "type.__call__" ⟨.ref C::us,kw⟩)).depth=A.depth+1:=by
 first | rfl | simp[FC,Code.weight,Code.isCreation,Code.isGuard,Code.isCaller,JN,G6,guardIds]
theorem qu {A:Bg}{C:Addr}{us:List bv}{kw:List (Str×bv)}:(A.under (.builtin "type.__call__" ⟨.ref C::us,kw⟩)).units=A.units+1:=by
 first | rfl | simp[FC,Code.cUnits,JN,G6]
theorem nV {A:Bg}{C:Addr}{us:List bv}{kw:List (Str×bv)}:(A.under (.builtin "type.__call__" ⟨.ref C::us,kw⟩)).guards=A.guards:=by
 have:(Code.builtin "type.__call__" ⟨.ref C::us,kw⟩).guards=[]:=by
  unfold Code.guards
  rw[if_neg]
  show ¬guardIds.contains "type.__call__" = true
  decide +kernel
 unfold FC
 rw[this]
 cases A with
 | mk a b c d e=>cases d <;> rfl
theorem Room.make {k:Nat}{A:Bg}(r:Room (k+1) A)(C:Addr)(us:List bv)(kw:List (Str×bv)):Room k (A.under (.builtin "type.__call__" ⟨.ref C::us,kw⟩)) :=
 ⟨r.hd,by have:=r.dp;rw[qv];omega,by have:=r.un;rw[qu];omega,by rw[nV];exact r.gd⟩
theorem Room.depth {k:Nat}{A:Bg}(r:Room k A):A.depth<recursionLimit:=by have:=r.dp;omega
theorem Room.units {k:Nat}{A:Bg}(r:Room k A):A.units+64<DY:=by have:=r.un;omega
def tNil:TA:=λ_ H Q=>Q [] H
def jO (ta:TE)(tr:TA):TA:=λσ H Q=>ta σ H λx H1=>tr σ H1 λxs H2=>Q (x::xs) H2
section
variable {X:Cx}{e:Expr}{es:List Expr}{te:TE}{t:TA}{pos:Pos}
theorem aD:PA X [] tNil:=λ_ _ _ _ H Q I h=>Dl ⟨[],H,I,.nil,h⟩
theorem ao (ha:PE X e te)(hr:PA X es t)(hs:Ba (e::es) X.env=(false,eval e X.env)::Ba es X.env:=by rfl):PA X (e::es) (jO te t):=by
 intro pos pins s σ H Q I h
 rw[hs]
 show li _ _ (Jl ((false,eval e X.env)::Dd pos (Ba es X.env))) _ _ s
 refine CW (thn (ha pins s σ H _ I h) λu s1 ⟨x,H1,I1,r1,q1⟩=>?_)
 exact thn (hr pos pins s1 σ H1 _ I1 q1) λus s2 ⟨xs,H2,I2,r2,q2⟩=>⟨x::xs,H2,I2,.cons r1 r2,q2⟩
def tTup (t:TA):TE:=λσ H Q=>t σ H λxs H1=>xs.length<=xL/\∀p,H1 p=none->Q (.ref p) (upd H1 p (.tup xs))
def tLst (t:TA):TE:=λσ H Q=>t σ H λxs H1=>xs.length<=xL/\∀p,H1 p=none->Q (.ref p) (upd H1 p (.lst xs))
theorem cq {x1}(h:PA X es t):PE X (.Tuple es x1 pos) (tTup t):=by
 intro pins s σ H Q I hq
 refine wpAny_Tuple_spliced (thn (h pos pins s σ H _ I hq) λus s1 ⟨xs,H1,I1,r,z,q⟩=>⟨by rw[<- r.length];exact z,?_⟩)
 have hf:H1 s1.heap.objs.size=none:=I1.hok.fresh (wl _)
 refine⟨.ref s1.heap.objs.size,upd H1 s1.heap.objs.size (.tup xs),I1.laid (t':=s1.toks) (λb u e=>dL _ e) (wl _) ?_,rfl,q _ hf⟩
 exact⟨z,us,r,⟨_,wv _ rfl,rfl,_,rfl⟩⟩
theorem gM (h:PA X es t):PE X (.List es pos) (tLst t):=by
 intro pins s σ H Q I hq
 refine wpAny_List_spliced (thn (h pos pins s σ H _ I hq) λus s1 ⟨xs,H1,I1,r,z,q⟩=>⟨by rw[<- r.length];exact z,?_⟩)
 have hf:H1 s1.heap.objs.size=none:=I1.hok.fresh (wl _)
 refine⟨.ref s1.heap.objs.size,upd H1 s1.heap.objs.size (.lst xs),I1.laid (t':=s1.toks) (λb u e=>dL _ e) (wl _) ?_,rfl,q _ hf⟩
 exact⟨z,us,0,r,wv _ rfl⟩
end
abbrev Sp:=List V->Hp->VK->XK->Prop
abbrev CXT:=List Env->Hp->db->XK->bv->db->Prop
structure Env0 (P:wT)(w:Bf)(K:bi)(mg:Str->Option bv)(base:Heap)(A:Bg)(outer:List Env)(s:db)(H:Hp):Prop where
 frames:A.frames=some outer
 mod:Mod K mg base
 bs:∀b o,base.get? b=some o->s.heap.get? b=some o/\H b=none
 bsz:base.objs.size<=s.heap.objs.size
 funs:s.heap.FunFrames base outer
 frf:∀b∈frs outer,H b=none
 hok:HOk P w H s.heap
 bare:EX s.gens
def CE (outer:List Env)(P:wT)(w:Bf)(H:Hp)(s:db)(Q:VK)(u:bv)(s':db):Prop :=
 ∃v H',s'.os=s.os/\EX s'.gens/\Un (frs outer) [] H H' s.heap s'.heap/\HOk P w H' s'.heap/\RelV v u/\Q v H'
def CR (CX:CXT)(outer:List Env)(P:wT)(w:Bf)(H:Hp)(s:db)(Q:VK)(E:XK)(r:D3)(s':db):Prop :=
 match r with
 | .ok (.ret u)=>CE outer P w H s Q u s'
 | .ok _=>False
 | .error e=>CX outer H s E e s'
structure FnOk (P:wT)(w:Bf)(K:bi)(mg:Str->Option bv)(base:Heap)(CX:CXT)(k:Nat)(f:Addr)(fd:D4)(ps:List Str)(sp:Sp):Prop where
 len:∀vs H Q E,sp vs H Q E->vs.length=ps.length
 run:∀(A:Bg) (outer:List Env) (s:db) (H:Hp) (args:Args) (us:List bv) (vs:List V) (Q:VK) (E:XK),Room k A->Env0 P w K mg base A outer s H->G7 s fd args (ps.zip us)->Vals vs us->sp vs H Q E ->
  B7 (o0 P w) A (.call (.ref f) args) (CR CX outer P w H s Q E) s
theorem FnOk.imp {P:wT}{w:Bf}{K:bi}{mg:Str->Option bv}{base:Heap}{CX:CXT}{k:Nat}{f:Addr}{fd:D4}{ps:List Str}{sp sp':Sp}(F:FnOk P w K mg base CX k f fd ps sp)
  (h:∀vs H Q E,sp' vs H Q E->sp vs H Q E):FnOk P w K mg base CX k f fd ps sp' :=
 ⟨λvs H Q E q=>F.len vs H Q E (h _ _ _ _ q),λA outer s H args us vs Q E hr he hb hv hs=>F.run A outer s H args us vs Q E hr he hb hv (h _ _ _ _ hs)⟩
theorem Env0.make {P:wT}{w:Bf}{K:bi}{mg:Str->Option bv}{base:Heap}{A:Bg}{outer:List Env}{s:db}{H:Hp}(e:Env0 P w K mg base A outer s H)(C:Addr)(us:List bv)(kw:List (Str×bv)) :
  Env0 P w K mg base (A.under (.builtin "type.__call__" ⟨.ref C::us,kw⟩)) outer s H:=⟨by first | exact e.frames | (simpa [FC,Code.envs,G6,pushEnvs] using e.frames),e.mod,e.bs,e.bsz,e.funs,e.frf,e.hok,e.bare⟩
section
variable {X:Cx}{pins:List (Addr×Obj)}{σ:St}{H:Hp}{s s':db}
theorem Inv.env0 (I:Inv X pins σ H s):Env0 X.prog X.w X.K X.mg X.base X.A X.stack s H :=
 ⟨I.ok.frames,I.ok.mod,I.bs,A_ I.ok.bsz I.sz,I.stack,I.stkFree,I.hok,I.bare⟩
theorem Inv.after {Q:VK}{u:bv}(I:Inv X pins σ H s)(h:CE X.stack X.prog X.w H s Q u s'):EP X pins σ Q u s':=by
 obtain⟨v,H',os,bare,un,hok,r,q⟩:=h
 obtain⟨hh,g,d,t,os'⟩:=s'
 obtain rfl:os'=s.os:=os
 exact⟨v,H',I.call (h':=hh) (g':=g) (d':=d) (t':=t) (ch:=[]) un hok bare (λb z=>absurd z (by simp)),r,q⟩
end
def rE (sp:Sp)(dvs:List V)(E:XK)(t:TA):TE:=λσ H Q=>t σ H λvs H1=>sp (vs++dvs) H1 Q E
def rB (C:Addr)(m:Str)(sp:Sp)(dvs:List V)(E:XK)(ta:TE)(t:TA):TE:=λσ H Q=>ta σ H λx H1=>∃a dx fs,x = .ref a/\H1 a=some (.ins C dx fs)/\fs.lookup m=none /\
 t σ H1 λvs H2=>sp (x::(vs++dvs)) H2 Q E
def xh (C:Addr)(sp:Sp)(dvs:List V)(E:XK)(t:TA):TE:=λσ H Q=>t σ H λvs H1=>∀x dx,H1 x=none->H1 dx=none->dx≠x ->
 sp (.ref x::(vs++dvs)) (upd (upd H1 dx (.own x)) x (.ins C dx [])) (λv H2=>v = .non/\Q (.ref x) H2) E
def iL (K:bi)(fd:D4)(ps:List Str)(ds:List bv):Prop :=
 ∀(s:db) (us:List bv),K.In s.heap->(us++ds).length=ps.length->G7 s fd ⟨us,[]⟩ (ps.zip (us++ds))
theorem iL.all {K:bi}{fd:D4}{ps:List Str}(h:∀us:List bv,us.length=ps.length->Hg fd ⟨us,[]⟩=pure (ps.zip us)):iL K fd ps []:=λs us _ hl=>by
 rw[Bn]at hl ⊢
 exact .of_eq (h us hl)
def fY (CX:CXT)(X:Cx)(E:XK):Prop:=∀(pins:List (Addr×Obj)) (σ:St) (H:Hp) (s:db) (e:bv) (s':db),Inv X pins σ H s->CX X.stack H s E e s'->X.xe e s'
section
variable {X:Cx}{CX:CXT}{k:Nat}{f C:Addr}{fd:D4}{ps:List Str}{sp:Sp}{dvs:List V}{ds:List bv}{E:XK}{x m:Str}{p pos apos:Pos}{e o:Expr}{es:List Expr}{ta:TE}{t:TA}
theorem rO {pins:List (Addr×Obj)}{σ:St}{H:Hp}{s:db}{Q:VK}{us:List bv}{vs:List V}(F:FnOk X.prog X.w X.K X.mg X.base CX k f fd ps sp)(hr:Room k X.A)(hb:iL X.K fd ps ds)(hd:Vals dvs ds)(hx:fY CX X E)
  (I:Inv X pins σ H s) (r:Vals vs us) (h:sp (vs++dvs) H Q E):li (o0 X.prog X.w) X.A (call (.ref f) us) (EP X pins σ Q) X.xe s:=by
 have r2:Vals (vs++dvs) (us++ds):=r.append hd
 have hl:(us++ds).length=ps.length:=by rw[<- r2.length];exact F.len _ _ _ _ h
 refine IZ (DX (F.run X.A X.stack s H ⟨us,[]⟩ (us++ds) (vs++dvs) Q E hr I.env0 (hb s us I.kIn hl) r2 h) λr s' hq=>?_)
 cases r with
 | error e=>exact hx pins σ H s e s' I hq
 | ok fl =>
  cases fl with
  | ret u=>exact I.after hq
  | next=>exact BA hq
  | brk=>exact BA hq
  | cont=>exact BA hq
theorem sg (F:FnOk X.prog X.w X.K X.mg X.base CX k f fd ps sp)(hr:Room k X.A)(hg:Gl X x)(hm:X.mg x=some (.ref f))(hk:Bs X.K (.ref f)=true)(hb:iL X.K fd ps ds)(hd:Vals dvs ds)(hx:fY CX X E)
  (ha:PA X (e::es) t) (hdb:(x==("__debug__" : Str))=false:=by decide) (he:Ba (e::es) X.env=(false,eval e X.env)::Ba es X.env:=by rfl) (hpl:(Dd pos (Ba es X.env)).any (·.1)=false:=by rfl) :
  PE X (.Call (.Name x p) (e::es) [] pos) (rE sp dvs E t):=by
 intro pins s σ H Q I h
 refine DM (gj I hg hm ?_ hdb)
 refine Eg (h₀:=X.base) I.ok.mod.kin hk (thn (ha pos pins s σ H _ I h) λus s1 ⟨vs,H1,I1,r,q⟩=>⟨I1.kIn,?_⟩) he hpl
 exact rO F hr hb hd hx I1 r q
theorem xD {pl:Sem Bool}(he:PE X o ta)(c:Cls X.K C)(hm:Meth X.K C m f)(F:FnOk X.prog X.w X.K X.mg X.base CX k f fd ps sp)(hr:Room k X.A)(hb:iL X.K fd ps ds)(hd:Vals dvs ds)(hx:fY CX X E)(ha:PA X (e::es) t)
  (hst:Ba (e::es) X.env=(false,eval e X.env)::Ba es X.env:=by rfl) (hpl:(Dd pos (Ba es X.env)).any (·.1)=false:=by rfl)
  (ht:eval (.Call (.Attribute o m apos) (e::es) [] pos) X.env=(do
   let ov <- eval o X.env
   Dt apos.atName
   let (f,first) <- FQ [ov] (FR ov m pl)
   IC pos f first (Dd pos (Ba (e::es) X.env)) (FH pos (Eu [] X.env))):=by rfl) :
  PE X (.Call (.Attribute o m apos) (e::es) [] pos) (rB C m sp dvs E ta t):=by
 intro pins s σ H Q I h
 refine GV (pl:=pl) (thn (he pins s σ H _ I h) λu s1 ⟨x,H1,I1,rx,a,dx,fs,ex,ea,l,q⟩=>?_) ht
 subst ex
 obtain rfl:u=Value.ref a:=rx
 refine km I1 ea c hm l ?_
 refine Eg (first:=[.ref a]) (h₀:=X.base) I.ok.mod.kin hm.kp (thn (ha pos pins s1 σ H1 _ I1 q) λus s2 ⟨vs,H2,I2,r,q2⟩=>⟨I2.kIn,?_⟩) hst hpl
 exact rO (us:=.ref a::us) (vs:=.ref a::vs) F hr hb hd hx I2 (.cons rfl r) q2
theorem uS {pl:Sem Bool}(he:PE X o ta)(c:Cls X.K C)(hm:Meth X.K C m f)(F:FnOk X.prog X.w X.K X.mg X.base CX k f fd ps sp)(hr:Room k X.A)(hb:iL X.K fd ps ds)(hd:Vals dvs ds)(hx:fY CX X E)
  (ht:eval (.Call (.Attribute o m apos) [] [] pos) X.env=(do
   let ov <- eval o X.env
   Dt apos.atName
   let (f,first) <- FQ [ov] (FR ov m pl)
   IC pos f first (Dd pos (Ba [] X.env)) (FH pos (Eu [] X.env))):=by rfl) :
  PE X (.Call (.Attribute o m apos) [] [] pos) (rB C m sp dvs E ta tNil):=by
 intro pins s σ H Q I h
 refine GV (pl:=pl) (thn (he pins s σ H _ I h) λu s1 ⟨x,H1,I1,rx,a,dx,fs,ex,ea,l,q⟩=>?_) ht
 subst ex
 obtain rfl:u=Value.ref a:=rx
 refine km I1 ea c hm l ?_
 exact PySem.W.callWith_K0 (first:=[.ref a]) I1.kIn hm.kp (rO (us:=[.ref a]) (vs:=[.ref a]) F hr hb hd hx I1 (.cons rfl .nil) q)
structure Mk (K:bi)(C f:Addr):Prop where
 makes:ES K C=true
 init:A9 K (.ref C) "__init__" = some (some (.ref f))
 fn:Ce K (.ref f)=true
 kp:Bs K (.ref C)=true
theorem uL {pins:List (Addr×Obj)}{σ:St}{H:Hp}{s:db}{Q:VK}{us:List bv}{vs:List V}(M:Mk X.K C f)(F:FnOk X.prog X.w X.K X.mg X.base CX k f fd ps sp)(hr:Room (k+1) X.A)(hb:iL X.K fd ps ds)(hd:Vals dvs ds)
  (hx:fY CX X E) (I:Inv X pins σ H s) (r:Vals vs us)
  (h:∀x dx,H x=none->H dx=none->dx≠x->sp (.ref x::(vs++dvs)) (upd (upd H dx (.own x)) x (.ins C dx [])) (λv H2=>v = .non/\Q (.ref x) H2) E) :
  li (o0 X.prog X.w) X.A (call (.ref C) us) (EP X pins σ Q) X.xe s:=by
 have hq:=h (s.heap.objs.size+1) s.heap.objs.size (I.hok.fresh (EJ _)) (I.hok.fresh (wl _)) (ww (CV _))
 have I2:=Inv.made (C:=C) I
 have r2:Vals (V.ref (s.heap.objs.size+1)::(vs++dvs)) (Value.ref (s.heap.objs.size+1)::(us++ds)):=.cons rfl (r.append hd)
 have hl:(Value.ref (s.heap.objs.size+1)::us++ds).length=ps.length:=by
  have e:=r2.length
  rw[F.len _ _ _ _ hq]at e
  exact e.symm
 refine IZ (vc (f:=f) I.kIn M.makes M.init (beq_iff_eq.mp M.fn) (DX (F.run _ X.stack _ _ ⟨Value.ref (s.heap.objs.size+1)::us,[]⟩ (Value.ref (s.heap.objs.size+1)::(us++ds)) _ _ E (hr.make C us [])
  (I2.env0.make C us []) (hb _ (Value.ref (s.heap.objs.size+1)::us) I2.kIn hl) r2 hq) λr s' hq'=>?_))
 cases r with
 | error e=>exact hx pins σ _ _ e s' I2 hq'
 | ok fl =>
  cases fl with
  | ret u =>
   obtain⟨v,H',I3,rv,ev,q3⟩:=I2.after hq'
   subst ev
   exact⟨rv,⟨V.ref (s.heap.objs.size+1),H',I3,rfl,q3⟩⟩
  | next=>exact BA hq'
  | brk=>exact BA hq'
  | cont=>exact BA hq'
theorem xE (M:Mk X.K C f)(F:FnOk X.prog X.w X.K X.mg X.base CX k f fd ps sp)(hr:Room (k+1) X.A)(hg:Gl X x)(hm:X.mg x=some (.ref C))(hb:iL X.K fd ps ds)(hd:Vals dvs ds)(hx:fY CX X E)
  (ha:PA X (e::es) t) (hdb:(x==("__debug__" : Str))=false:=by decide) (he:Ba (e::es) X.env=(false,eval e X.env)::Ba es X.env:=by rfl) (hpl:(Dd pos (Ba es X.env)).any (·.1)=false:=by rfl) :
  PE X (.Call (.Name x p) (e::es) [] pos) (xh C sp dvs E t):=by
 intro pins s σ H Q I h
 refine DM (gj I hg hm ?_ hdb)
 refine Eg (h₀:=X.base) I.ok.mod.kin M.kp (thn (ha pos pins s σ H _ I h) λus s1 ⟨vs,H1,I1,r,q⟩=>⟨I1.kIn,?_⟩) he hpl
 exact uL M F hr hb hd hx I1 r q
end
structure aX (N P:List Str)(sc:Cv):Prop where
 kind:sc.kind = .function
 co:sc.isCoroutine=false
 gen:sc.isGenerator=false
 nd:N.Nodup
 pre:N.take P.length=P
 par:∀x∈P,sc.names.lookup x=some .local∨sc.names.lookup x=some .cell
 nofree:∀y∈sc.names,y.2 ≠ .free
theorem mT {kindOf:Str->Option Dy}{x:Str}:∀ {binds:List (Str×bv)} {m:Str->Option bv},(∀v,(x,v)∉binds)->HJ kindOf binds m x=m x
 | [],_,_=>rfl
 | (n,v)::r,m,h=>by
  unfold HJ
  rw[mT λw hw=>h w (Be _ hw)]
  split
  ·have:x≠n:=by rintro rfl;exact h v Bj
   simp[this]
  ·rfl
theorem mV {kindOf:Str->Option Dy}{x:Str}:∀ {binds:List (Str×bv)} {m:Str->Option bv},(∀v,(x,v)∉binds)->HK kindOf binds m x=m x
 | [],_,_=>rfl
 | (n,v)::r,m,h=>by
  unfold HK
  rw[mV λw hw=>h w (Be _ hw)]
  split
  ·rfl
  ·have:x≠n:=by rintro rfl;exact h v Bj
   simp[this]
theorem mU {kindOf:Str->Option Dy}{x:Str}{v:bv}:∀ {P:List Str} {vs:List bv} {i:Nat} {m:Str->Option bv},P.Nodup->P[i]? = some x->vs[i]? = some v->kindOf x=some .local ->
  HJ kindOf (P.zip vs) m x=some v
 | [],_,_,_,_,h,_,_=>by simp at h
 | _::_,[],_,_,_,_,h,_=>by simp at h
 | p::P,w::vs,0,m,nd,h1,h2,hk=>by
  simp at h1 h2;subst h1;subst h2
  show HJ kindOf ((p,w)::P.zip vs) m p=_
  unfold HJ
  rw[mT λv hv=>(Eb.mp nd).1 (Gk hv).1,if_pos hk]
  simp
 | p::P,w::vs,i+1,m,nd,h1,h2,hk=>by
  show HJ kindOf ((p,w)::P.zip vs) m x=_
  unfold HJ
  exact mU (i:=i) (Eb.mp nd).2 (by simpa using h1) (by simpa using h2) hk
theorem mW {kindOf:Str->Option Dy}{x:Str}{v:bv}:∀ {P:List Str} {vs:List bv} {i:Nat} {m:Str->Option bv},P.Nodup->P[i]? = some x->vs[i]? = some v->kindOf x≠some .local ->
  HK kindOf (P.zip vs) m x=some v
 | [],_,_,_,_,h,_,_=>by simp at h
 | _::_,[],_,_,_,_,h,_=>by simp at h
 | p::P,w::vs,0,m,nd,h1,h2,hk=>by
  simp at h1 h2;subst h1;subst h2
  show HK kindOf ((p,w)::P.zip vs) m p=_
  unfold HK
  rw[mV λv hv=>(Eb.mp nd).1 (Gk hv).1,if_neg hk]
  simp
 | p::P,w::vs,i+1,m,nd,h1,h2,hk=>by
  show HK kindOf ((p,w)::P.zip vs) m x=_
  unfold HK
  exact mW (i:=i) (Eb.mp nd).2 (by simpa using h1) (by simpa using h2) hk
def start (N:List Str)(vs:List V):St:=vs.map some++pc (N.length - vs.length) none
def cxOf (CX:CXT)(P:wT)(w:Bf)(K:bi)(mg:Str->Option bv)(base:Heap)(N:List Str)(qual:Str)(scope:Cv)(f:Addr)(cd:bv)(A:Bg)(outer:List Env)(s:db)(H:Hp)(E:XK):Cx where
 prog:=P
 w:=w
 K:=K
 mg:=mg
 base:=base
 A:=A.deeper (DW qual scope s.heap.objs.size f cd)
 N:=N
 s₀:=s
 H₀:=H
 env:=DW qual scope s.heap.objs.size f cd
 outer:=outer
 stack:=DW qual scope s.heap.objs.size f cd::outer
 ex:=[]
 calm:=true
 fn:=λ_=>true
 pn:=[]
 xe:=λe s'=>li (o0 P w) (A.deeper (DW qual scope s.heap.objs.size f cd)) (Gr (DW qual scope s.heap.objs.size f cd) e) (λ_ s''=>CX outer H s E e s'') (λe' s''=>CX outer H s E e' s'') s'
theorem pT {sc:Cv}{n:Nat}{x:Str}(h:sc.names.lookup x=some .cell):∃c,(JA n sc.names []).lookup x=some c:=by
 have q:=GK sc.names n [] (.inl h)
 exact Option.isSome_iff_exists.mp q
theorem sV {CX:CXT}{P:wT}{w:Bf}{K:bi}{mg:Str->Option bv}{base:Heap}{N ps:List Str}{qual:Str}{scope:Cv}{f:Addr}{cd:bv}{A:Bg}{outer:List Env}{s s1:db}{H:Hp}{E:XK}{us:List bv}{vs:List V}
  (S:aX N ps scope) (hd:A.handled=none) (e0:Env0 P w K mg base A outer s H) (hl:vs.length=ps.length) (r:Vals vs us)
  (x:InCallC s s.heap.objs.size (HJ (DW qual scope s.heap.objs.size f cd).kindOf (ps.zip us) λ_=>none) (JA (s.heap.objs.size+1) scope.names []) (HK (DW qual scope s.heap.objs.size f cd).kindOf (ps.zip us) λ_=>none) s1) :
  Inv (cxOf CX P w K mg base N qual scope f cd A outer s H E) [] (start N vs) H s1:=by
 have hpl:ps.length<=N.length:=by have:=congrArg JI S.pre;rw[Bz]at this;omega
 obtain⟨h1,tk,rfl,hk⟩:=x.done
 have noA:∀b:Addr,b∉(cxOf CX P w K mg base N qual scope f cd A outer s H E).ex:=λb z=>absurd (show b∈([]:List Addr)from z) (by simp)
 refine⟨⟨e0.mod,S.kind,rfl,rfl,wl _,λy z c h1 h2=>?_,λy hy=>?_,λy c _ h=>?_,λ_=>hd,Around.frames_deeper e0.frames,.inr ⟨rfl,rfl⟩,λb z=>absurd z (noA b),e0.bs,e0.bsz,λb _ _=>noA b,λb z=>absurd z (noA b),e0.funs,e0.frf⟩,
  rfl,e0.bare,Un.kept hk,⟨_,x.toInCall.ns,λi y v h1 h2 h3=>?_⟩,λy c h=>⟨_,x.cell y c h⟩,e0.hok.fresh (wl _),λy c h=>?_,λp hp=>absurd (show p∈([]:List (Addr×Obj))from hp) (by simp),e0.hok.kept hk,?_⟩
 ·exact name_of_addr x.apart (B1 h1) (B1 h2)
 ·have hy:scope.names.lookup y=some .cell∨scope.names.lookup y=some .free:=hy
  rcases hy with hy | hy
  ·exact pT hy
  ·exact absurd rfl (S.nofree _ (B1 hy))
 ·exact BZ (x.above y c (B1 h))
 ·have hi:i<vs.length:=by
   unfold start at h2
   by_cases hi:i<vs.length
   ·exact hi
   ·rw[By (by simpa using hi)]at h2
    rw[BR]at h2
    split at h2 <;> cases h2
  have ha:vs[i]? = some v:=by
   unfold start at h2
   rw[Bi (by simpa using hi),wP]at h2
   cases e:vs[i]? with
   | none=>rw[e]at h2;cases h2
   | some a=>rw[e]at h2;cases h2;rfl
  obtain⟨u,hu,rv⟩:=r.get ha
  have hp:ps[i]? = some y:=by
   rw[<- S.pre,EM (by omega)];exact h1
  have ndP:ps.Nodup:=by rw[<- S.pre];exact S.nd.sublist (List.take_sublist _ _)
  refine⟨u,rv,?_⟩
  rcases S.par y (BC hp)with k | k
  ·exact .inl ⟨k,mU ndP hp hu k⟩
  ·obtain⟨c,e⟩:=pT (n:=s.heap.objs.size+1) k
   refine .inr ⟨.inl k,c,e,?_⟩
   have q:=x.cell y c e
   rw[mW ndP hp hu (by show scope.names.lookup y≠_;rw[k];decide)]at q
   exact q
 ·exact e0.hok.fresh (BZ (x.above y c (B1 h)))
 ·unfold start
  show _=N.length
  rw[A2,lw,Cf]
  omega
theorem zZ {CX:CXT}{P:wT}{w:Bf}{K:bi}{mg:Str->Option bv}{base:Heap}{k:Nat}{f:Addr}{name qual:Str}{params:Arguments}{body:List Stmt}{scope:Cv}{dV kV doc pm cdv ct oc:bv}{an od:Option Addr}
  {osl:Array (Option bv)} {N ps:List Str} {sp:Sp} (lk:K.lookup f=some ⟨oc,od,.func (BH name qual params body scope dV kV doc pm an cdv ct),osl⟩) (hcd:BO K cdv qual=true) (S:aX N ps scope)
  (len:∀vs H Q E,sp vs H Q E->vs.length=ps.length)
  (hbody:∀(A:Bg) (outer:List Env) (s:db) (H:Hp) (vs:List V) (Q:VK) (E:XK),Room k (A.deeper (DW qual scope s.heap.objs.size f cdv))->sp vs H Q E ->
   ∃t,PSs (cxOf CX P w K mg base N qual scope f cdv A outer s H E) body t/\t {nx:=λ_ H'=>Q .non H',rt:=Q} (start N vs) H) :
  FnOk P w K mg base CX (k+1) f (BH name qual params body scope dV kV doc pm an cdv ct) ps sp:=by
 refine⟨len,λA outer s H args us vs Q E hr e0 hb r hsp=>?_⟩
 have hl:=len _ _ _ _ hsp
 have KX:K.In s.heap:=e0.mod.kin.keeps λb o e=>(e0.bs b o e).1
 have lim:s.heap.NoLimit:=e0.mod.nolimit.keeps λb o e=>(e0.bs b o e).1
 have hkind:∀y∈ps.zip us,scope.names.lookup y.1=some .local∨(scope.names.lookup y.1=some .cell/\((JA (s.heap.objs.size+1) scope.names []).lookup y.1).isSome=true):=λ⟨n,v⟩ hy=>by
  rcases S.par n (Gk hy).1 with q | q
  ·exact .inl q
  ·exact .inr ⟨q,GK _ _ _ (.inl q)⟩
 refine codeAny_call_function hr.depth (KX _ _ lk) rfl S.co S.gen rfl (PySem.W.codeRec_of KX hcd) (hb _ _ _ _ ?_)
 refine wpAny_newFunctionEnv_cells S.kind hkind λenv he s1 x=>?_
 subst he
 refine⟨lim.keeps x.toInCall.keep,codeAny_func ?_⟩
 obtain⟨t,ht,hq⟩:=hbody A outer s H vs Q E (hr.deeper _) hsp
 have I:Inv (cxOf CX P w K mg base N qual scope f cdv A outer s H E) [] (start N vs) H s1:=sV S hr.hd e0 hl r x
 refine BB (ht [] s1 (start N vs) H _ I hq) (λfl s' hs=>?_) λe s' hs=>hs
 have fin:∀ {σ':St} {H':Hp} {v:V} {u:bv},Inv (cxOf CX P w K mg base N qual scope f cdv A outer s H E) [] σ' H' s'->RelV v u->Q v H'->CE outer P w H s Q u s' :=
  λ{σ' H' v u} J rv q=>⟨v,H',J.os,J.bare,J.base,J.hok,rv,q⟩
 cases fl with
 | ret u =>
  obtain⟨v,σ',H',J,rv,q⟩:=hs
  exact fin J rv q
 | next =>
  obtain⟨σ',H',J,q⟩:=hs
  exact fin (v:=V.non) (u:=Value.none) J rfl q
 | brk =>
  obtain⟨_,_,_,q⟩:=hs
  exact BA q
 | cont =>
  obtain⟨_,_,_,q⟩:=hs
  exact BA q
section
variable {X:Cx}{x:Str}{p pos:Pos}{e:Expr}{es:List Expr}{t:TA}{id T:String}{r:List V->Hp->VK->Prop}
def tCB (r:List V->Hp->VK->Prop)(t:TA):TE:=λσ H Q=>t σ H λvs H1=>r vs H1 Q
theorem cH (hc:fF X (.builtin id) r)(hg:Gl X x)(hm:X.mg x=none)(hv:BU x=some (.builtin id))(ha:PA X (e::es) t)(hn:x ≠ "__name__" := by decide)(hdb:(x==("__debug__" : Str))=false:=by decide)
  (he:Ba (e::es) X.env=(false,eval e X.env)::Ba es X.env:=by rfl) (hpl:(Dd pos (Ba es X.env)).any (·.1)=false:=by rfl):PE X (.Call (.Name x p) (e::es) [] pos) (tCB r t):=by
 intro pins s σ H Q I h
 refine DM (fX I hg hm hv ?_ hn hdb)
 exact Fe (thn (ha pos pins s σ H _ I h) λus s1 ⟨vs,H1,I1,r1,q1⟩=>hc pins s1 σ H1 vs us Q I1 r1 q1) he hpl
theorem cu (hc:fF X (.type T) r)(hg:Gl X x)(hm:X.mg x=none)(hv:BU x=some (.type T))(ha:PA X (e::es) t)(hn:x ≠ "__name__" := by decide)(hdb:(x==("__debug__" : Str))=false:=by decide)
  (he:Ba (e::es) X.env=(false,eval e X.env)::Ba es X.env:=by rfl) (hpl:(Dd pos (Ba es X.env)).any (·.1)=false:=by rfl):PE X (.Call (.Name x p) (e::es) [] pos) (tCB r t):=by
 intro pins s σ H Q I h
 refine DM (fX I hg hm hv ?_ hn hdb)
 exact B0 (thn (ha pos pins s σ H _ I h) λus s1 ⟨vs,H1,I1,r1,q1⟩=>hc pins s1 σ H1 vs us Q I1 r1 q1) he hpl
end
end L2
namespace HT
open PySem PyProof.Rows
section
variable {prog:wT}{w:Bf}{A:Bg}{E:bv->db->Prop}{s:db}
def sIx (n d:Nat):Option Int->Nat
 | none=>d
 | some v=>if v<0 then(v+(n:Int)).toNat else min v.toNat n
theorem sIx_nat (n d k:Nat):sIx n d (some (k:Int))=min k n:=by
 show(if(k:Int)<0 then((k:Int)+(n:Int)).toNat else min (k:Int).toNat n)=min k n
 rw[if_neg (by omega),B4]
end
end HT
namespace L2
open PySem PySem.Spec PyProof.Rows
abbrev TO:=St->Hp->(Option Int->Hp->Prop)->Prop
def PO (X:Cx)(e:Option Expr)(t:TO):Prop :=
 ∀(pins:List (Addr×Obj)) (s:db) (σ:St) (H:Hp) (Q:Option Int->Hp->Prop),Inv X pins σ H s->t σ H Q ->
  li (o0 X.prog X.w) X.A (evalPart e X.env) (λu s'=>∃o H',Inv X pins σ H' s'/\IsPart u o/\Q o H') X.xe s
def tNoPart:TO:=λ_ H Q=>Q none H
def yR (t:TE):TO:=λσ H Q=>t σ H λx H1=>∃i,x = .int i/\Q (some i) H1
theorem qA {ns:List Int}:∀ {us:List bv},Vals (ns.map V.int) us->DK us ns:=by
 induction ns with
 | nil=>intro us r;rw[CF]at r;cases r;exact .nil
 | cons n ns ih =>
  intro us r
  rw[A1]at r
  cases r with
  | cons r1 r2 =>
   obtain⟨t,e⟩:=r1
   subst e
   exact .cons n t (ih r2)
section
variable {X:Cx}{e:Expr}{te:TE}{lo hi:Option Expr}{tl th:TO}{pos p2:Pos}
theorem jk:PO X none tNoPart:=by
 intro pins s σ H Q I h
 rw[evalPart_none]
 exact kt ⟨none,H,I,.none,h⟩
theorem jj (h:PE X e te):PO X (some e) (yR te):=by
 intro pins s σ H Q I hw
 rw[evalPart_some]
 refine thn (h pins s σ H _ I hw) λu s1 ⟨x,H1,I1,r1,q1⟩=>?_
 obtain⟨i,rfl,q⟩:=q1
 obtain⟨t,rfl⟩:=r1
 exact⟨some i,H1,I1,.int i t,q⟩
def SlR (X:Cx)(r:V->Option Int->Option Int->Hp->VK->Prop):Prop :=
 ∀(pins:List (Addr×Obj)) (s:db) (σ:St) (H:Hp) (x:V) (v vl vu:bv) (lo hi:Option Int) (sl:Addr) (Q:VK),Inv X pins σ H s->RelV x v->s.heap.IsSliceOf sl vl vu .none->IsPart vl lo->IsPart vu hi->r x lo hi H Q ->
  ∃T id,Ga (.type T) "__getitem__" = pure (some (.builtin id))/\s.TypeIs v T/\li (o0 X.prog X.w) X.A (G3 v (.ref sl)) (EP X pins σ Q) X.xe s
def tSl (r:V->Option Int->Option Int->Hp->VK->Prop)(te:TE)(tl th:TO):TE:=λσ H Q=>te σ H λx H1=>tl σ H1 λl H2=>th σ H2 λu H3=>r x l u H3 Q
theorem gK {r:V->Option Int->Option Int->Hp->VK->Prop}(hr:SlR X r)(he:PE X e te)(hl:PO X lo tl)(hu:PO X hi th):PE X (.Subscript e (.Slice lo hi none p2) pos) (tSl r te tl th):=by
 intro pins s σ H Q I h
 refine Jc (thn (he pins s σ H _ I h) λv s1 ⟨x,H1,I1,r1,q1⟩=>?_)
 refine wpAny_Slice (thn (hl pins s1 σ H1 _ I1 q1) λvl s2 ⟨l,H2,I2,pl,q2⟩=>thn (hu pins s2 σ H2 _ I2 q2) λvu s3 ⟨u,H3,I3,pu,q3⟩=>?_)
 rw[evalPart_none]
 refine kt ?_
 have I4:Inv X pins σ H3 {s3 with heap:=s3.heap.push {cls:=.type "slice",data:=.fields #[vl,vu,.none]}}:=I3.kept (t':=s3.toks) λb ob q=>dL _ q
 obtain⟨T,id,hT,ht,hg⟩:=hr pins {s3 with heap:=s3.heap.push {cls:=.type "slice",data:=.fields #[vl,vu,.none]}} σ H3 x v vl vu l u s3.heap.objs.size Q I4 r1 (Jt ..) pl pu q3
 show li (o0 X.prog X.w) X.A (Hv e (.Slice lo hi none p2) v (.ref s3.heap.objs.size)) (EP X pins σ Q) X.xe {s3 with heap:=s3.heap.push {cls:=.type "slice",data:=.fields #[vl,vu,.none]}}
 exact tail_any (ops:=[.ref s3.heap.objs.size,v]) ht hT hg (by with_unfolding_all rfl)
def cutV (xs:List V)(lo hi:Option Int):List V:=(xs.drop (HT.sIx xs.length 0 lo)).take (HT.sIx xs.length xs.length hi - HT.sIx xs.length 0 lo)
theorem og (xs:List V)(lo hi:Option Int):(cutV xs lo hi).length<=xs.length:=by
 unfold cutV
 rw[Bz,Iq]
 omega
end
def ixN (n:Nat)(i:Int):Option Nat:=if 0<=i then(if i<n then some i.toNat else none)else if -(n:Int)<=i then some (i+n).toNat else none
def atI {α:Type}(xs:List α)(i:Int):Option α:=(ixN xs.length i).bind λj=>xs[j]?
theorem xY {n:Nat}{i:Int}{j:Nat}(h:ixN n i=some j):seqIndex? i n=some j/\j<n/\-(n:Int)<=i/\i<n:=by
 unfold ixN at h
 by_cases h0:0<=i
 ·rw[if_pos h0]at h
  by_cases h1:i<n
  ·rw[if_pos h1]at h
   have e:i.toNat=j:=Co h
   exact⟨by rw[seqIndex_of h0 h1,e],by omega,by omega,h1⟩
  ·rw[if_neg h1]at h;cases h
 ·rw[if_neg h0]at h
  by_cases h1:-(n:Int)<=i
  ·rw[if_pos h1]at h
   have e:(i+n).toNat=j:=Co h
   exact⟨by rw[seqIndex_neg (by omega) h1,e],by omega,h1,by omega⟩
  ·rw[if_neg h1]at h;cases h
theorem oz {α:Type}{xs:List α}{i:Int}{v:α}(h:atI xs i=some v):∃j,seqIndex? i xs.length=some j/\xs[j]? = some v/\j<xs.length/\-(xs.length:Int)<=i/\i<xs.length:=by
 unfold atI at h
 cases e:ixN xs.length i with
 | none=>rw[e]at h;cases h
 | some j =>
  rw[e]at h
  obtain⟨h1,h2,h3,h4⟩:=xY e
  exact⟨j,h1,h,h2,h3,h4⟩
theorem fE {α:Type}{xs:List α}{j:Nat}{v:α}(h:xs[j]? = some v):atI xs (j:Int)=some v:=by
 have hj:j<xs.length:=(sK.mp h).1
 have e:ixN xs.length (j:Int)=some j:=by
  unfold ixN
  rw[if_pos (by omega),if_pos (by omega)];simp
 unfold atI;rw[e];exact h
def yC (b:Expr):Prop:=∀o i,GR b false o i=operate [o,i] (G3 o i)
def IxR (X:Cx)(r:R2):Prop :=
 ∀(value slice:Expr) (pins:List (Addr×Obj)) (s:db) (σ:St) (H:Hp) (x y:V) (v u:bv) (Q:VK),Inv X pins σ H s->RelV x v->RelV y u->r x y H Q ->
  GR slice false v u=operate [v,u] (G3 v u)->li (o0 X.prog X.w) X.A (Hv value slice v u) (EP X pins σ Q) X.xe s
def MtR (X:Cx)(id:String)(r:V->List V->Hp->VK->Prop):Prop :=
 ∀(pins:List (Addr×Obj)) (s:db) (σ:St) (H:Hp) (x:V) (xs:List V) (v:bv) (us:List bv) (Q:VK),Inv X pins σ H s->RelV x v->Vals xs us->r x xs H Q ->
  li (o0 X.prog X.w) X.A (call (.builtin id) (v::us)) (EP X pins σ Q) X.xe s
section
variable {X:Cx}{a b:Expr}{ta tb:TE}{pos:Pos}
theorem IxR.or {r r':R2}(h:IxR X r)(h':IxR X r'):IxR X (λx y H Q=>r x y H Q∨r' x y H Q):=by
 intro value slice pins s σ H x y v u Q I rx ry q hs
 rcases q with q | q
 ·exact h value slice pins s σ H x y v u Q I rx ry q hs
 ·exact h' value slice pins s σ H x y v u Q I rx ry q hs
theorem dG {r:R2}(hr:IxR X r)(ha:PE X a ta)(hb:PE X b tb)(hs:yC b):PE X (.Subscript a b pos) (tOp r ta tb):=by
 intro pins s σ H Q I h
 exact Jc (binT ha hb I h λv u s2 x y H2 I2 rx ry q=>hr a b pins s2 σ H2 x y v u Q I2 rx ry q (hs _ _))
def rIxL (K:bi):R2:=λx y H Q=>∃p xs i v,x = .ref p/\y = .int i/\SqL K H p xs/\atI xs i=some v/\Q v H
def rIxT (K:bi):R2:=λx y H Q=>∃p xs i v,x = .ref p/\y = .int i/\SqT K H p xs/\atI xs i=some v/\Q v H
def rIxS:R2:=λx y H Q=>∃z i c,x = .str z/\y = .int i/\z.length<=xL/\atI z.cps.toList i=some c/\Q (.str ⟨#[c]⟩) H
theorem xX:IxR X (rIxL X.K):=by
 intro value slice pins s σ H x y v u Q I rx ry h hs
 obtain⟨p,xs,i,z,rfl,rfl,hq,he,q⟩:=h
 cases rx
 obtain⟨t,rfl⟩:=ry
 obtain⟨its,r,pl,hz⟩:=I.list hq
 obtain⟨j,h1,h2,h3,h4,h5⟩:=oz he
 obtain⟨w,ew,rw'⟩:=r.get h2
 have hl:=r.length
 have hn:=mf
 have fin:EP X pins σ Q w s:=⟨z,H,I,rw',q⟩
 by_cases h0:0<=i
 ·have hj:i.toNat=j:=by
   rw[seqIndex_of h0 h5]at h1
   exact Co h1
  exact item_listR pl.isList h0 (by omega) (by rw[hj];simpa using ew) fin hs
 ·have hj:(i+(its.toArray.size:Int)).toNat=j:=by
   rw[seqIndex_neg (by omega) h4]at h1
   rw[sB,<- hl]
   exact Co h1
  exact Ia (x:=w) pl.isList.typeIs Jm.lookup
   (wpAny_getItem_list_neg (Q:=λr s'=>r=w/\EP X pins σ Q r s') pl.isList (by omega) (by rw[sB] <;> omega) (by omega) (by rw[hj];simpa using ew) ⟨rfl,fin⟩) hs
theorem zN:IxR X (rIxT X.K):=by
 intro value slice pins s σ H x y v u Q I rx ry h hs
 obtain⟨p,xs,i,z,rfl,rfl,hq,he,q⟩:=h
 cases rx
 obtain⟨t,rfl⟩:=ry
 obtain⟨its,r,pl,hz⟩:=I.tuple hq
 obtain⟨j,h1,h2,h3,h4,h5⟩:=oz he
 obtain⟨w,ew,rw'⟩:=r.get h2
 have hl:=r.length
 have hn:=mf
 have fin:EP X pins σ Q w s:=⟨z,H,I,rw',q⟩
 exact Ia (x:=w) pl.typeIs slot_tuple_getitem.lookup
  (getItem_tuple (j:=j) (Q:=λr s'=>r=w/\EP X pins σ Q r s') pl (by omega) (by omega) (by rw[sB,<- hl];exact h1) (by simpa using ew) ⟨rfl,fin⟩) hs
theorem zO:IxR X rIxS:=by
 intro value slice pins s σ H x y v u Q I rx ry h hs
 obtain⟨z,i,c,rfl,rfl,hz,he,q⟩:=h
 obtain⟨t,rfl⟩:=rx
 obtain⟨t',rfl⟩:=ry
 obtain⟨j,h1,h2,h3,h4,h5⟩:=oz he
 have hl:z.cps.toList.length=z.length:=by simp[Str.length]
 rw[hl]at h1 h4 h5
 have hn:=mf
 exact tail_any (typeIs_str s z t) slot_str_getitem.lookup (getItem_str (c:=c) (by
  have e1:decide (i < -(2^63:Int))=false:=decide_eq_false (by omega)
  have e2:decide (i>=2^63)=false:=decide_eq_false (by omega)
  rw[e1,e2,Fx]) (by rw[h1];simpa using h2) ⟨.str ⟨#[c]⟩,H,I.tok _,⟨_,rfl⟩,q⟩) hs
def rIx (K:bi):R2:=λx y H Q=>rIxL K x y H Q∨rIxT K x y H Q∨rIxS x y H Q
theorem zP:IxR X (rIx X.K):=xX.or (zN.or zO)
theorem lQ (lo hi:Option Int)(n:Nat):(Es lo hi none n).1=((HT.sIx n 0 lo:Nat):Int)/\(Es lo hi none n).2.1=((HT.sIx n n hi:Nat):Int)/\(Es lo hi none n).2.2=1:=by
 refine⟨?_,?_,rfl⟩
 ·cases lo with
  | none=>simp[Es,HT.sIx]
  | some i =>
   simp only[Es,HT.sIx,HS,show(1:Int) > 0 by decide,if_true]
   by_cases h:i<0
   ·simp only[h,if_true] <;> omega
   ·simp only[h,if_false] <;> omega
 ·cases hi with
  | none=>simp[Es,HT.sIx]
  | some i =>
   simp only[Es,HT.sIx,HS,show(1:Int) > 0 by decide,if_true]
   by_cases h:i<0
   ·simp only[h,if_true] <;> omega
   ·simp only[h,if_false] <;> omega
theorem kQ (its:List bv)(lo hi:Option Int):slicePick its.toArray lo hi none=((its.drop (HT.sIx its.length 0 lo)).take (HT.sIx its.length its.length hi - HT.sIx its.length 0 lo)).toArray:=by
 obtain⟨h1,h2,h3⟩:=lQ lo hi its.toArray.size
 unfold slicePick
 rw[h1,h2,h3]
 simp only[sliceRange_one,pick_run,sB] <;> rfl
def rSlL (K:bi):V->Option Int->Option Int->Hp->VK->Prop:=λx lo hi H Q=>∃a xs,x = .ref a/\SqL K H a xs/\∀p,H p=none->Q (.ref p) (upd H p (.lst (cutV xs lo hi)))
theorem xp:SlR X (rSlL X.K):=by
 intro pins s σ H x v vl vu lo hi sl Q I rx hs pl pu h
 obtain⟨a,xs,rfl,hx,q⟩:=h
 cases rx
 obtain⟨its,r,ht,hz⟩:=I.list hx
 have hlen:=r.length
 refine⟨"list",_,Jm.lookup,ht.isList.typeIs,?_⟩
 refine wpAny_getItem_list_slice ht.isList hs pl pu .none (by simp) ?_ (by rw[sB] <;> omega)
 rw[kQ,<- hlen]
 refine⟨.ref s.heap.objs.size,_,I.laid (t':=s.toks) (o:=.lst (cutV xs lo hi)) (λb ob q=>dL _ q) (wl _) ?_,rfl,q _ (I.hok.fresh (wl _))⟩
 exact⟨A_ (og xs lo hi) hz,_,0,(r.drop (HT.sIx xs.length 0 lo)).take (HT.sIx xs.length xs.length hi - HT.sIx xs.length 0 lo),wv _ rfl⟩
def iK:V->Bool
 | .non=>true
 | .bl _=>true
 | .int _=>true
 | .str _=>true
 | _=>false
def eqV:V->V->Bool
 | .non,.non=>true
 | .bl a,.bl b=>a==b
 | .bl a,.int b=>(if a then 1 else 0)==b
 | .int a,.bl b=>a==(if b then 1 else 0)
 | .int a,.int b=>a==b
 | .str a,.str b=>a==b
 | _,_=>false
theorem z6 {A:Bg}{s:db}{y x:V}{u v:bv}(ry:RelV y u)(rx:RelV x v)(fy:iK y=true)(fx:iK x=true):Ew A s u v (eqV y x):=by
 cases y with
 | non =>
  cases ry
  cases x with
  | non=>cases rx;exact SeqAt.EqAt.same _
  | bl b=>cases rx;exact SeqAt.EqAt.none_bool b
  | int b=>obtain⟨t,rfl⟩:=rx;exact SeqAt.EqAt.none_int b t
  | str b=>obtain⟨t,rfl⟩:=rx;exact SeqAt.EqAt.none_str b t
  | _=>exact absurd (show false=true from fx) A4
 | bl a =>
  cases ry
  cases x with
  | non=>cases rx;exact SeqAt.EqAt.bool_none a
  | bl b=>cases rx;exact SeqAt.EqAt.bool_bool a b
  | int b=>obtain⟨t,rfl⟩:=rx;exact SeqAt.EqAt.bool_int a b t
  | str b=>obtain⟨t,rfl⟩:=rx;exact SeqAt.EqAt.bool_str a b t
  | _=>exact absurd (show false=true from fx) A4
 | int a =>
  obtain⟨t',rfl⟩:=ry
  cases x with
  | non=>cases rx;exact SeqAt.EqAt.int_none a t'
  | bl b=>cases rx;exact SeqAt.EqAt.int_bool a t' b
  | int b=>obtain⟨t,rfl⟩:=rx;exact SeqAt.EqAt.int_int a t' b t
  | str b=>obtain⟨t,rfl⟩:=rx;exact GU a t' b t
  | _=>exact absurd (show false=true from fx) A4
 | str a =>
  obtain⟨t',rfl⟩:=ry
  cases x with
  | non=>cases rx;exact SeqAt.EqAt.str_none a t'
  | bl b=>cases rx;exact SeqAt.EqAt.str_bool a t' b
  | int b=>obtain⟨t,rfl⟩:=rx;exact GS a t' b t
  | str b=>obtain⟨t,rfl⟩:=rx;exact SeqAt.EqAt.str_str a t' b t
  | _=>exact absurd (show false=true from fx) A4
 | _=>exact absurd (show false=true from fy) A4
def eqU (x:V)(u:bv):Bool:=match u with
 | .none=>eqV .non x
 | .bool b=>eqV (.bl b) x
 | .int i _=>eqV (.int i) x
 | .str z _=>eqV (.str z) x
 | _=>false
theorem tR {x y:V}{u:bv}(r:RelV y u)(f:iK y=true):eqU x u=eqV y x:=by
 cases y with
 | non=>cases r;rfl
 | bl b=>cases r;rfl
 | int i=>obtain⟨t,rfl⟩:=r;rfl
 | str z=>obtain⟨t,rfl⟩:=r;rfl
 | _=>exact absurd (show false=true from f) A4
theorem jM {x:V}:∀ {xs:List V} {us:List bv},Vals xs us->xs.all iK=true->us.any (eqU x)=xs.any λy=>eqV y x
 | _,_,.nil,_=>rfl
 | y::xs,u::us,.cons r t,f=>by
  rw[EN,A7]at f
  rw[CG,CG,tR r f.1,jM t f.2]
theorem fR {A:Bg}{s:db}{x:V}{v:bv}(rx:RelV x v)(fx:iK x=true):∀ {xs:List V} {us:List bv},Vals xs us->xs.all iK=true->∀u∈us,Ew A s u v (eqU x u)
 | _,_,.nil,_=>λu hu=>by cases hu
 | y::xs,u::us,.cons r t,f=>λu' hu=>by
  rw[EN,A7]at f
  rcases wn.mp hu with rfl | hu
  ·rw[tR r f.1];exact z6 r rx f.1 fx
  ·exact fR rx fx t f.2 u' hu
def inV (x:V)(xs:List V):Bool:=xs.any λy=>eqV y x
def rIn (K:bi)(neg:Bool):R2:=λx y H Q=>∃p xs,y = .ref p/\(SqL K H p xs∨SqT K H p xs)/\iK x=true/\xs.all iK=true/\Q (.bl (if neg then !inV x xs else inV x xs)) H
theorem su:OpR X (Cu .In) (rIn X.K false):=by
 intro pins s σ H x y v u Q I rx ry h
 obtain⟨p,xs,rfl,hq,fx,fs,q⟩:=h
 cases ry
 rcases hq with hq | hq
 ·obtain⟨its,r,pl,hz⟩:=I.list hq
  refine SeqAt.in_listAt (eqU x) pl.isList (λw hw=>fR rx fx r fs w (by simpa using hw)) ⟨.bl _,H,I,rfl,?_⟩
  rw[show its.toArray.any (eqU x)=its.any (eqU x)by simp,jM r fs]
  exact q
 ·obtain⟨its,r,pl,hz⟩:=I.tuple hq
  refine SeqAt.in_tupleAt (eqU x) pl (λw hw=>fR rx fx r fs w (by simpa using hw)) ⟨.bl _,H,I,rfl,?_⟩
  rw[show its.toArray.any (eqU x)=its.any (eqU x)by simp,jM r fs]
  exact q
theorem lW:OpR X (Cu .NotIn) (rIn X.K true):=by
 intro pins s σ H x y v u Q I rx ry h
 obtain⟨p,xs,rfl,hq,fx,fs,q⟩:=h
 cases ry
 rcases hq with hq | hq
 ·obtain⟨its,r,pl,hz⟩:=I.list hq
  refine SeqAt.notIn_listAt (eqU x) pl.isList (λw hw=>fR rx fx r fs w (by simpa using hw)) ⟨.bl _,H,I,rfl,?_⟩
  rw[show its.toArray.any (eqU x)=its.any (eqU x)by simp,jM r fs]
  exact q
 ·obtain⟨its,r,pl,hz⟩:=I.tuple hq
  refine SeqAt.notIn_tupleAt (eqU x) pl (λw hw=>fR rx fx r fs w (by simpa using hw)) ⟨.bl _,H,I,rfl,?_⟩
  rw[show its.toArray.any (eqU x)=its.any (eqU x)by simp,jM r fs]
  exact q
theorem mO:fF X (.builtin "len") (λxs H Q=>∃p ys,xs=[.ref p]/\(SqL X.K H p ys∨SqT X.K H p ys)/\Q (.int ys.length) H):=by
 intro pins s σ H xs us Q I r h
 obtain⟨p,ys,rfl,hq,q⟩:=h
 obtain⟨u,rfl,rx⟩:=iC r
 cases rx
 have hn:=mf
 rcases hq with hq | hq
 ·obtain⟨its,r',pl,hz⟩:=I.list hq
  have hlen:=r'.length
  exact Calls.call_len_list pl.isList (by simp only[sB] <;> omega) ⟨.int ys.length,H,I.tok _,⟨s.toks+1,by rw[sB,hlen]⟩,q⟩
 ·obtain⟨its,r',pl,hz⟩:=I.tuple hq
  have hlen:=r'.length
  exact len_tuple pl (by simp only[sB] <;> omega) ⟨.int ys.length,H,I.tok _,⟨s.toks+1,by rw[sB,hlen]⟩,q⟩
theorem mM:fF X (.type "list") (λxs H Q=>∃p ys,xs=[.ref p]/\(SqL X.K H p ys∨SqT X.K H p ys)/\∀l,H l=none->Q (.ref l) (upd H l (.lst ys))):=by
 intro pins s σ H xs us Q I r h
 obtain⟨p,ys,rfl,hq,q⟩:=h
 obtain⟨u,rfl,rx⟩:=iC r
 cases rx
 have fin:∀(its:List bv),Vals ys its->ys.length<=xL->∀(h':Heap) (c':Nat),(∀b o',s.heap.get? b=some o'->h'.get? b=some o') ->
   h'.get? s.heap.objs.size=some {cls:=.type "list",dict:=none,data:=.seq its.toArray c',slots:=#[]}->EP X pins σ Q (.ref s.heap.objs.size) {s with heap:=h'}:=λits r' hz h' c' kp e =>
  ⟨.ref s.heap.objs.size,_,I.laid (t':=s.toks) kp (wl _) (show cA X.prog X.w _ h' _ (.lst ys)from⟨hz,its,c',r',e⟩),rfl,q _ (I.hok.fresh (wl _))⟩
 rcases hq with hq | hq
 ·obtain⟨its,r',pl,hz⟩:=I.list hq
  have hlen:=r'.length
  obtain⟨o,ho,hc,n,hd⟩:=pl.isList
  exact call_list_seq p (.inl rfl) ho hc hd (λh' c' kp e=>fin its r' hz h' c' kp e) (by simp only[sB] <;> omega)
 ·obtain⟨its,r',pl,hz⟩:=I.tuple hq
  have hlen:=r'.length
  obtain⟨o,ho,hc,n,hd⟩:=pl
  exact call_list_seq p (.inr rfl) ho hc hd (λh' c' kp e=>fin its r' hz h' c' kp e) (by simp only[sB] <;> omega)
theorem lE:fF X (.type "tuple") (λxs H Q=>∃p ys,xs=[.ref p]/\((SqL X.K H p ys/\∀l,H l=none->Q (.ref l) (upd H l (.tup ys)))∨(SqT X.K H p ys/\Q (.ref p) H))):=by
 intro pins s σ H xs us Q I r h
 obtain⟨p,ys,rfl,h⟩:=h
 obtain⟨u,rfl,rx⟩:=iC r
 cases rx
 rcases h with⟨hq,q⟩ | ⟨hq,q⟩
 ·obtain⟨its,r',pl,hz⟩:=I.list hq
  have hlen:=r'.length
  refine call_tuple_list pl.isList (λh' kp=>?_) (by simp only[sB] <;> omega)
  have I1:Inv X pins σ H {s with heap:=h'}:=I.kept (t':=s.toks) kp
  have I2:Inv X pins σ (upd H h'.objs.size (.tup ys)) {s with heap:=h'.push {cls:=.type "tuple",data:=.seq its.toArray}} :=
   I1.laid (t':=s.toks) (λb o e=>dL _ e) (wl _) (show cA X.prog X.w _ _ _ (.tup ys)from⟨hz,its,r',IsTup.new _ _⟩)
  exact⟨.ref h'.objs.size,_,I2,rfl,q _ (I1.hok.fresh (wl _))⟩
 ·obtain⟨its,r',pl,hz⟩:=I.tuple hq
  exact call_tuple_same pl ⟨.ref p,H,I,rfl,q⟩
def tyV (K:bi)(T:String)(x:V)(H:Hp):Prop:=match x with
 | .str _=>T = "str"
 | .int _=>T = "int"
 | .ref p=>(T = "list" /\ ∃xs,SqL K H p xs)∨(T = "tuple" /\ ∃o,K.lookup p=some o/\o.cls = .type "tuple" /\ o.dict=none) ∨
   (T = "dict" /\ ((∃kvs,H p=some (.dK kvs)) ∨ ∃kvs,H p=some (.dT kvs)))∨(T = "set" /\ ∃S n,H p=some (.set S n))
 | _=>False
theorem yK {pins:List (Addr×Obj)}{σ:St}{H:Hp}{s:db}{T:String}{x:V}{v:bv}(I:Inv X pins σ H s)(r:RelV x v)(ty:tyV X.K T x H) :
  s.TypeIs v T/\∀a,v = .ref a->∃ob,s.heap.get? a=some ob/\ob.dict=none:=by
 cases x with
 | str z =>
  obtain⟨t,rfl⟩:=r
  cases (show T = "str" from ty)
  exact⟨typeIs_str s z t,λ_ e=>nomatch e⟩
 | int i =>
  obtain⟨t,rfl⟩:=r
  cases (show T = "int" from ty)
  exact⟨typeIs_int s i t,λ_ e=>nomatch e⟩
 | ref p =>
  cases r
  rcases ty with⟨rfl,xs,hq⟩ | ⟨rfl,o,hk,hc,hd⟩ | ⟨rfl,hk⟩ | ⟨rfl,S,n,hk⟩
  ·obtain⟨its,_,pl,_⟩:=I.list hq
   refine⟨pl.isList.typeIs,λa e=>?_⟩
   cases e
   obtain⟨o,n,e,c,hd,_⟩:=pl
   exact⟨o,e,hd⟩
  ·refine⟨⟨o,I.kIn p o hk,hc⟩,λa e=>?_⟩
   cases e
   exact⟨o,I.kIn _ o hk,hd⟩
  ·have z:∃o,s.heap.get? p=some o/\o.ExactDict:=by
    rcases hk with⟨kvs,hk⟩ | ⟨kvs,hk⟩
    ·obtain⟨_,_,_,_,o,_,_,e,ex,_⟩:=I.hok p _ hk
     exact⟨o,e,ex⟩
    ·obtain⟨_,_,_,_,o,_,_,e,ex,_⟩:=I.hok p _ hk
     exact⟨o,e,ex⟩
   obtain⟨o,e,ex⟩:=z
   refine⟨⟨o,e,ex.1⟩,λa e2=>?_⟩
   cases e2
   exact⟨o,e,ex.2.1⟩
  ·obtain⟨o,_,_,_,e,ex,_⟩:=I.hok p _ hk
   refine⟨⟨o,e,ex.1⟩,λa e2=>?_⟩
   cases e2
   exact⟨o,e,ex.2.1⟩
 | _=>exact BA ty
def tBM (K:bi)(T:String)(r:V->List V->Hp->VK->Prop)(to:TE)(t:TA):TE:=λσ H Q=>to σ H λx H1=>tyV K T x H1/\t σ H1 λxs H2=>r x xs H2 Q
variable {o e:Expr}{es:List Expr}{to:TE}{t:TA}{name:Str}{apos cpos:Pos}{T id:String}{r:V->List V->Hp->VK->Prop}
theorem Ap (pa:PlainAttrs T)(slot:Slot T name id)(hty:typeOf (.builtin id)=pure (.type "method_descriptor"))(hm:MtR X id r)(ho:PE X o to)(ha:PA X (e::es) t)
  (hbase:E2 o name X.env (eval o X.env)=eval o X.env:=by rfl)
  (hfew:((Dd cpos (Ba (e::es) X.env)).all (λx=>!x.1)&&(FH cpos (Eu [] X.env)).all (λx=>x.1.isSome)
   && decide ((e::es).length+([]:List G4).length+(if([]:List G4).isEmpty then 0 else 1)<30))=true:=by rfl)
  (hline:(apos.endLine==cpos.line)=true:=by rfl) (hs:Ba (e::es) X.env=(false,eval e X.env)::Ba es X.env:=by rfl) (hplain:(Dd cpos (Ba es X.env)).any (·.1)=false:=by rfl) :
  PE X (.Call (.Attribute o name apos) (e::es) [] cpos) (tBM X.K T r to t):=by
 intro pins s σ H Q I h
 refine wpAny_Call_method_late hbase hfew hline rfl (thn (ho pins s σ H _ I h) λv s1 ⟨x,H1,I1,r1,ty,q1⟩=>?_)
 obtain⟨h1,h2⟩:=yK I1 r1 ty
 refine⟨T,id,pa,slot,hty,h1,h2,?_⟩
 have hA:=ha cpos pins s1 σ H1 _ I1 q1
 rw[hs]at hA ⊢
 refine G1 (by show(false||(Dd cpos (Ba es X.env)).any (·.1))=false;rw[hplain] <;> rfl) (D5 ?_)
 exact thn hA λus s2 ⟨vs,H2,I2,r2,q2⟩=>hm pins s2 σ H2 x vs v us Q I2 r1 r2 q2
end
def MtM (X:Cx)(id:String)(r:V->List V->Hp->VK->Prop):Prop :=
 ∀(pins:List (Addr×Obj)) (s:db) (σ:St) (H:Hp) (x:V) (xs:List V) (v:bv) (us:List bv) (Q:VK),Inv X pins σ H s->RelV x v->Vals xs us->r x xs H Q ->
  li (o0 X.prog X.w) X.A (call (.builtin id) (v::us)) (EP X pins σ Q) X.xe s
theorem Vals.one:∀ {x:V} {us:List bv},Vals [x] us->∃u,us=[u]/\RelV x u
 | _,_,.cons r .nil=>⟨_,rfl,r⟩
section
variable {X:Cx}{pins:List (Addr×Obj)}{σ:St}{H:Hp}{s:db}{l b:Addr}{xs ys zs:List V}
theorem Inv.lset {its its':List bv}{n:Nat}{f:Array bv->Array bv}{t':Nat}(I:Inv X pins σ H s)(hH:H l=some (.lst xs))
  (e:s.heap.get? l=some {cls:=.type "list",data:=.seq its.toArray n}) (hf:f its.toArray=its'.toArray) (hv:Vals ys its') (hz:ys.length<=xL) :
  Inv X pins σ (upd H l (.lst ys)) {s with heap:=s.heap.update l (Cd f),toks:=t'}:=by
 have q:=Fv e f
 rw[hf]at q
 refine I.write (x:=l) (e:=l) (by rw[hH];exact trivial) (.inl rfl) (λb' u hb hu=>(AC s.heap (Cd f) (B_ hb)).trans hu) ⟨_,q⟩ ?_
 exact⟨hz,its',_,hv,q⟩
theorem Inv.lstM (I:Inv X pins σ H s)(hH:H l=some (.lst xs)):xs.length<=xL/\∃(its:List bv) (n:Nat),Vals xs its/\xs.length=its.length/\s.heap.get? l=some {cls:=.type "list",data:=.seq its.toArray n}:=by
 obtain⟨z,its,n,r,e⟩:=I.hok l _ hH
 exact⟨z,its,n,r,r.length,e⟩
end
section
variable {X:Cx}
def rAppend:V->List V->Hp->VK->Prop:=λx vs H Q=>∃l xs y,x = .ref l/\vs=[y]/\H l=some (.lst xs)/\xs.length<xL/\Q .non (upd H l (.lst (xs++[y])))
theorem fo:MtM X "list.append" rAppend:=by
 intro pins s σ H x vs v us Q I rx rv h
 obtain⟨l,xs,y,rfl,rfl,hH,hz,q⟩:=h
 cases rx
 obtain⟨u,rfl,ru⟩:=rv.one
 obtain⟨z,its,n,r,hl,e⟩:=I.lstM hH
 refine Hf C_ ⟨_,e,rfl⟩ FM (Fw _ _) (FI l its.toArray n u (by rw[sB];omega)) ⟨e,?_⟩
 refine⟨.non,_,I.lset (its':=its++[u]) hH e (by simp) (r.append (.cons ru .nil)) ?_,rfl,q⟩
 rw[A2,DP]
 omega
end
section
variable {κ:Type} [DecidableEq κ]
def valV (kvs:List (κ×V))(k:κ):Option V:=(kvs.find? λkv=>decide (kv.1=k)).map (·.2)
def putK (kvs:List (κ×V))(k:κ)(v:V):List (κ×V) :=
 if(kvs.any λkv=>decide (kv.1=k))=true then kvs.map (λkv=>if kv.1=k then(kv.1,v)else kv)else kvs++[(k,v)]
theorem iM {p:κ×V}{r:List (κ×V)}{k:κ}(e:p.1=k):valV (p::r) k=some p.2:=by simp[valV,BQ,e]
theorem iN {p:κ×V}{r:List (κ×V)}{k:κ}(e:¬p.1=k):valV (p::r) k=valV r k:=by simp[valV,BQ,e]
theorem oK (k:κ):∀kvs:List (κ×V),(kvs.any λkv=>decide (kv.1=k))=(valV kvs k).isSome
 | []=>rfl
 | p::r=>by
  rw[CG]
  by_cases e:p.1=k
  ·simp only[iM e,decide_eq_true e,Bool.true_or,Option.isSome_some]
  ·rw[iN e,decide_eq_false e,DA];exact oK k r
theorem eT (kvs:List (κ×V))(k:κ)(v:V):(putK kvs k v).length<=kvs.length+1:=by
 unfold putK
 split
 ·rw[lw];omega
 ·rw[A2,A6,E6];omega
theorem RelO.isSome_eq {o:Option V}{u:Option bv}(r:RelO o u):o.isSome=u.isSome:=by
 cases o with
 | none=>cases u with
  | none=>rfl
  | some _=>exact(show False from r).elim
 | some _=>cases u with
  | none=>exact(show False from r).elim
  | some _=>rfl
theorem KV.val {kvs:List (κ×V)}{vs:List (κ×bv)}(r:KV kvs vs)(k:κ):RelO (valV kvs k) (DI vs k):=by
 unfold KV at r
 induction r with
 | nil=>exact True.intro
 | @cons p q ps qs h t ih =>
  obtain⟨h1,h2⟩:=h
  by_cases e:p.1=k
  ·have e':q.1=k:=h1.symm.trans e
   have b:DI (q::qs) k=some q.2:=by simp[DI,BQ,e']
   rw[iM e,b];exact h2
  ·have e':¬q.1=k:=λz=>e (h1.trans z)
   have b:DI (q::qs) k=DI qs k:=by simp[DI,BQ,e']
   rw[iN e,b];exact ih
theorem KV.any {kvs:List (κ×V)}{vs:List (κ×bv)}(r:KV kvs vs)(k:κ):(kvs.any λkv=>decide (kv.1=k))=vs.any λkv=>decide (kv.1=k):=by
 unfold KV at r
 induction r with
 | nil=>rfl
 | cons h t ih=>rw[CG,CG,ih,h.1]
theorem KV.repl {kvs:List (κ×V)}{vs:List (κ×bv)}(r:KV kvs vs)(k:κ){y:V}{u:bv}(ry:RelV y u) :
  KV (kvs.map λkv=>if kv.1=k then(kv.1,y)else kv) (vs.map λkv=>if kv.1=k then(kv.1,u)else kv):=by
 unfold KV at r ⊢
 induction r with
 | nil=>exact .nil
 | @cons p q ps qs h t ih =>
  rw[A1,A1]
  refine .cons ?_ ih
  obtain⟨h1,h2⟩:=h
  by_cases e:p.1=k
  ·rw[if_pos e,if_pos (h1.symm.trans e)];exact⟨h1,ry⟩
  ·rw[if_neg e,if_neg (λz=>e (h1.trans z))];exact⟨h1,h2⟩
theorem KV.put {kvs:List (κ×V)}{vs:List (κ×bv)}(r:KV kvs vs)(k:κ){y:V}{u:bv}(ry:RelV y u):KV (putK kvs k y) (GJ vs k u):=by
 unfold putK GJ
 rw[r.any k]
 by_cases e:(vs.any λkv=>decide (kv.1=k))=true
 ·rw[if_pos e,if_pos e];exact r.repl k ry
 ·rw[if_neg e,if_neg e];exact Jd r ⟨rfl,ry⟩
theorem KV.length {kvs:List (κ×V)}{vs:List (κ×bv)}(r:KV kvs vs):kvs.length=vs.length:=Fj r
end
theorem mn {P:wT}{w:Bf}{k:Key}{u:bv}(r:RelV (kV k) u):(bA P w).is k u=true:=by
 cases k with
 | inl i=>obtain⟨t,e⟩:=(show ∃t,u=Value.int i t from r);subst e;exact nR P w i t
 | inr x=>obtain⟨t,e⟩:=(show ∃t,u=Value.str x t from r);subst e;exact nQ P w x t
theorem mq {P:wT}{w:Bf}:∀ {ks:List Key} {us:List bv},Vals (ks.map kV) us->ItemsAre (bA P w) ks us
 | [],_,r=>by rw[CF]at r;cases r;exact .nil
 | k::ks,_,r=>by
  rw[A1]at r
  cases r with
  | cons h t=>exact .cons (mn h) (mq t)
abbrev KT (H:Hp):List (List Key×V)->List (List Key×Addr×bv)->Prop:=Hl λp q=>p.1=q.1/\H q.2.1=some (.tup (p.1.map kV))/\RelV p.2 q.2.2
theorem KT.val {H:Hp}{kvs:List (List Key×V)}{xs:List (List Key×Addr×bv)}(r:KT H kvs xs)(k:List Key):RelO (valV kvs k) ((Hi xs k).map (·.2)):=by
 induction r with
 | nil=>exact True.intro
 | @cons p q ps qs h t ih =>
  obtain⟨h1,_,h2⟩:=h
  by_cases e:p.1=k
  ·have e':q.1=k:=h1.symm.trans e
   have b:Hi (q::qs) k=some q.2:=by simp[Hi,BQ,e']
   rw[iM e,b];exact h2
  ·have e':¬q.1=k:=λz=>e (h1.trans z)
   have b:Hi (q::qs) k=Hi qs k:=by simp[Hi,BQ,e']
   rw[iN e,b];exact ih
theorem KT.repl {H:Hp}{kvs:List (List Key×V)}{xs:List (List Key×Addr×bv)}(r:KT H kvs xs)(k:List Key){y:V}{u:bv}(ry:RelV y u) :
  KT H (kvs.map λkv=>if kv.1=k then(kv.1,y)else kv) (xs.map (putAt k u)):=by
 induction r with
 | nil=>exact .nil
 | @cons p q ps qs h t ih =>
  rw[A1,A1]
  refine .cons ?_ ih
  obtain⟨h1,h2,h3⟩:=h
  unfold putAt
  by_cases e:p.1=k
  ·rw[if_pos e,if_pos (h1.symm.trans e)];exact⟨h1,h2,ry⟩
  ·rw[if_neg e,if_neg (λz=>e (h1.trans z))];exact⟨h1,h2,h3⟩
theorem KT.put {H:Hp}{kvs:List (List Key×V)}{xs:List (List Key×Addr×bv)}(r:KT H kvs xs)(k:List Key){b:Addr}{y:V}{u:bv}(hb:H b=some (.tup (k.map kV)))(ry:RelV y u) :
  KT H (putK kvs k y) (storedH xs k b u):=by
 have e:(kvs.any λkv=>decide (kv.1=k))=(Hi xs k).isSome:=by
  rw[oK,(r.val k).isSome_eq,Fy]
 unfold putK storedH
 rw[e]
 by_cases q:(Hi xs k).isSome=true
 ·rw[if_pos q,if_pos q];exact r.repl k ry
 ·rw[if_neg q,if_neg q];exact Jd r ⟨rfl,hb,ry⟩
theorem KT.keeps {H H':Hp}{kvs:List (List Key×V)}{xs:List (List Key×Addr×bv)}(r:KT H kvs xs)(ht:∀b ys,H b=some (.tup ys)->H' b=some (.tup ys)):KT H' kvs xs :=
 Paired.mapP r λ_ _ z=>⟨z.1,ht _ _ z.2.1,z.2.2⟩
section
variable {P:wT}{w:Bf}{H:Hp}{h:Heap}{a:Addr}
theorem yZ {u:HO}(ok:HOk P w H h)(e:Rd H a u):cA P w H h a u:=e.ok ok
theorem qI {kvs:List (Key×V)}(ok:HOk P w H h)(e:Rd H a (.dK kvs)):kvs.length<=xL/\(a==Dh)=false/\∃vs,KV kvs vs/\h.DictOf (bA P w) a vs :=
 show cA P w H h a (.dK kvs)from yZ ok e
theorem vH {kvs:List (Key×V)}(ok:HOk P w H h)(e:H a=some (.dK kvs)):kvs.length<=xL/\(a==Dh)=false/\∃vs,KV kvs vs/\h.DictOf (bA P w) a vs:=qI ok (.inl e)
theorem mj {ks:List Key}(ok:HOk P w H h)(e:H a=some (.tup (ks.map kV))):(GI (bA P w)).is h ks a:=by
 obtain⟨_,its,r,o,h1,h2,n,h3⟩:=(show cA P w H h a (.tup (ks.map kV))from ok a _ e)
 exact⟨o,its.toArray,n,h1,h2,h3,by simpa using mq r⟩
theorem qH {kvs:List (List Key×V)}(ok:HOk P w H h)(e:Rd H a (.dT kvs)):kvs.length<=xL/\(a==Dh)=false /\
  ∃xs,KT H kvs xs/\h.DictOfH (GI (bA P w)) a xs:=by
 obtain⟨z,y,xs,r,o,es,ep,h1,h2,h3,h4,h5⟩:=(show cA P w H h a (.dT kvs)from yZ ok e)
 refine⟨z,y,xs,r,o,es,ep,h1,h2,h3,h4,λx hx=>?_,h5⟩
 have all:∀ {l:List (List Key×V)} {m:List (List Key×Addr×bv)},KT H l m->∀x∈m,(GI (bA P w)).is h x.1 x.2.1:=by
  intro l m q
  induction q with
  | nil=>intro x hx;exact nomatch hx
  | @cons p q ps qs hq t ih =>
   intro x hx
   rcases wn.mp hx with e | hx
   ·subst e
    exact mj ok (by rw[<- hq.1];exact hq.2.1)
   ·exact ih x hx
 exact all r x hx
theorem Ax {kvs:List (List Key×V)}(ok:HOk P w H h)(e:H a=some (.dT kvs)):kvs.length<=xL/\(a==Dh)=false /\
  ∃xs,KT H kvs xs/\h.DictOfH (GI (bA P w)) a xs:=qH ok (.inl e)
end
def DGet (H:Hp)(a:Addr)(y:V)(r:Option V):Prop :=
 (∃kvs k,Rd H a (.dK kvs)/\y=kV k/\r=valV kvs k) ∨ ∃kvs k b,Rd H a (.dT kvs)/\y = .ref b/\H b=some (.tup (k.map kV))/\r=valV kvs k
def DPut (H:Hp)(a:Addr)(y v:V)(H':Hp):Prop :=
 (∃kvs k,H a=some (.dK kvs)/\y=kV k/\kvs.length<xL/\H'=upd H a (.dK (putK kvs k v))) ∨
 ∃kvs k b,H a=some (.dT kvs)/\y = .ref b/\H b=some (.tup (k.map kV))/\kvs.length<xL/\H'=upd H a (.dT (putK kvs k v))
theorem DGet.k {H:Hp}{a:Addr}{kvs:List (Key×V)}{k:Key}(e:H a=some (.dK kvs)):DGet H a (kV k) (valV kvs k):=.inl ⟨kvs,k,.inl e,rfl,rfl⟩
theorem DPut.k {H:Hp}{a:Addr}{kvs:List (Key×V)}{k:Key}{v:V}(e:H a=some (.dK kvs))(hl:kvs.length<xL):DPut H a (kV k) v (upd H a (.dK (putK kvs k v))):=.inl ⟨kvs,k,e,rfl,hl,rfl⟩
section
variable {X:Cx}{pins:List (Addr×Obj)}{σ:St}{H:Hp}{s:db}{a:Addr}{y v:V}{u r:bv}{o:Option V}{A:Bg}{E:bv->db->Prop}
theorem Inv.big (I:Inv X pins σ H s):Dh<s.heap.objs.size:=by
 have h:At<s.heap.objs.size:=(I.mod.glob.keeps I.bk).lt
 exact CU (by decide) h
theorem tW {Q:bv->db->Prop}(hu:A.units+1<DY)(I:Inv X pins σ H s)(g:DGet H a y (some v))(ry:RelV y u)(h:∀w' s',Inv X pins σ H s'->RelV v w'->Q w' s') :
  li (o0 X.prog X.w) A (G3 (.ref a) u) Q E s:=by
 rcases g with⟨kvs,k,e,ey,l⟩ | ⟨kvs,k,b,e,ey,eb,l⟩
 ·subst ey
  obtain⟨z,hd,vs,rel,dd⟩:=qI I.hok e
  obtain⟨w',hw,rw'⟩:=RelO.some_of (v:=v) (o:=DI vs k) (by rw[l];exact rel.val k)
  exact wpAny_getItem_of (mn ry) dd.mapOf hw (h w' _ (I.tok _) rw')
 ·subst ey
  cases (show u=Value.ref b from ry)
  obtain⟨z,hd,xs,rel,dd⟩:=qH I.hok e
  obtain⟨w',hw,rw'⟩:=RelO.some_of (v:=v) (o:=(Hi xs k).map (·.2)) (by rw[l];exact rel.val k)
  obtain⟨p,hp,hp2⟩:=Bb.mp hw
  refine wpAny_getItem_heap (EQ hu) (mj I.hok eb) dd hp ?_
  rw[hp2]
  exact h w' _ (I.tok _) rw'
theorem d_in {Q:bv->db->Prop}(hu:A.units+1<DY)(I:Inv X pins σ H s)(g:DGet H a y o)(ry:RelV y u)(h:∀s',Inv X pins σ H s'->Q (.bool o.isSome) s') :
  li (o0 X.prog X.w) A (Cu .In u (.ref a)) Q E s:=by
 rcases g with⟨kvs,k,e,ey,l⟩ | ⟨kvs,k,b,e,ey,eb,l⟩
 ·subst ey
  obtain⟨z,hd,vs,rel,dd⟩:=qI I.hok e
  refine wpAny_in_of (mn ry) hd dd.mapOf ?_
  rw[<- (rel.val k).isSome_eq,<- l]
  exact h _ (I.tok _)
 ·subst ey
  cases (show u=Value.ref b from ry)
  obtain⟨z,hd,xs,rel,dd⟩:=qH I.hok e
  refine wpAny_in_heap (EQ hu) (mj I.hok eb) hd dd ?_
  have q:=(rel.val k).isSome_eq
  rw[Fy]at q
  rw[<- q,<- l]
  exact h _ (I.tok _)
theorem yn {Q:bv->db->Prop}(hu:A.units+1<DY)(I:Inv X pins σ H s)(g:DGet H a y o)(ry:RelV y u)(h:∀s',Inv X pins σ H s'->Q (.bool (!o.isSome)) s') :
  li (o0 X.prog X.w) A (Cu .NotIn u (.ref a)) Q E s:=by
 rcases g with⟨kvs,k,e,ey,l⟩ | ⟨kvs,k,b,e,ey,eb,l⟩
 ·subst ey
  obtain⟨z,hd,vs,rel,dd⟩:=qI I.hok e
  refine wpAny_notIn_of (mn ry) hd dd.mapOf ?_
  rw[<- (rel.val k).isSome_eq,<- l]
  exact h _ (I.tok _)
 ·subst ey
  cases (show u=Value.ref b from ry)
  obtain⟨z,hd,xs,rel,dd⟩:=qH I.hok e
  refine wpAny_notIn_heap (EQ hu) (mj I.hok eb) hd dd ?_
  have q:=(rel.val k).isSome_eq
  rw[Fy]at q
  rw[<- q,<- l]
  exact h _ (I.tok _)
theorem lA {h':Heap}{t':Nat}{ob:HO}(I:Inv X pins σ H s)(mu:Mut (H a))(hs:Bx a s.heap h')(he:∃q,h'.get? a=some q)(new:cA X.prog X.w (upd H a ob) h' a ob) :
  Inv X pins σ (upd H a ob) {s with heap:=h',toks:=t'} :=
 I.write (x:=a) (e:=a) mu (.inl rfl) (λb q hb z=>(hs.2 b hb).trans z) he new
theorem mE {P:wT}{w:Bf}{H':Hp}{h':Heap}{kvs:List (Key×V)}{vs:List (Key×bv)}(z:kvs.length<=xL)(hd:(a==Dh)=false)(rel:KV kvs vs)(dd:h'.DictOf (bA P w) a vs) :
  cA P w H' h' a (.dK kvs):=⟨z,hd,vs,rel,dd⟩
theorem tV {H':Hp}{Q:Unit->db->Prop}(hu:A.units+1<DY)(I:Inv X pins σ H s)(g:DPut H a y v H')(ry:RelV y u)(rv:RelV v r)(h:∀s',Inv X pins σ H' s'->Q () s') :
  li (o0 X.prog X.w) A (setItem (.ref a) u r) Q E s:=by
 rcases g with⟨kvs,k,e,ey,l,eH⟩ | ⟨kvs,k,b,e,ey,eb,l,eH⟩
 ·subst ey eH
  obtain⟨z,hd,vs,rel,dd⟩:=vH I.hok e
  have hz:vs.length<=xL:=by rw[<- rel.length];exact z
  have hl:(putK kvs k v).length<=xL:=by have:=eT kvs k v;omega
  refine wpAny_setItem_pairs (hsz:=hz) (mn ry) dd λh' dd' hs=>h _ ?_
  have he:∃q,h'.get? a=some q:=let ⟨q,_,_,hq,_⟩:=dd';⟨q,hq⟩
  exact lA I (by rw[e];exact True.intro) hs he (mE hl hd (rel.put k rv) dd')
 ·subst ey eH
  cases (show u=Value.ref b from ry)
  obtain⟨z,hd,xs,rel,dd⟩:=Ax I.hok e
  have hz:xs.length<=xL:=by rw[<- Fj rel];exact z
  have hl:(putK kvs k v).length<=xL:=by have:=eT kvs k v;omega
  refine wpAny_setItem_heap (hsz:=hz) (EQ hu) (mj I.hok eb) dd λh' dd' hs=>h _ ?_
  obtain⟨q,es,ep,hq,h2,h3,h4,_,h5⟩:=dd'
  refine lA I (by rw[e];exact True.intro) hs ⟨q,hq⟩ ⟨hl,hd,_,(rel.put k eb rv).keeps λc ys ec=>?_,q,es,ep,hq,h2,h3,h4,h5⟩
  rw[aL (xM ec e (λz=>nomatch z))]
  exact ec
end
def NoSl (i:Expr):Prop:=∀ov iv,GR i false ov iv=operate [ov,iv] (G3 ov iv)
theorem xi {prog:wT}{w:Bf}{A:Bg}{E:bv->db->Prop}{s:db}{env:Env}{value slice:Expr}{pos:Pos}{T id:String}{Q:bv->db->Prop}
  (hl:Ga (.type T) "__getitem__" = pure (some (.builtin id))) (hs:NoSl slice)
  (h:li (o0 prog w) A (eval value env) (λo s₁=>li (o0 prog w) A (eval slice env) (λi s₂=>s₂.TypeIs o T/\li (o0 prog w) A (G3 o i) Q E s₂) E s₁) E s) :
  li (o0 prog w) A (eval (.Subscript value slice pos) env) Q E s:=by
 refine Jc (BB h (λo s₁ h₁=>BB h₁ (λi s₂ h₂=>?_) λ_ _ x=>x) λ_ _ x=>x)
 obtain⟨hT,h₂⟩:=h₂
 unfold Hv
 refine bn ?_
 rw[getitemInPython_of_ne hT.not_modules]
 refine bn (Fm hT hl ?_)
 have fin:li (o0 prog w) A (GR slice false o i) (λr s₃=>li (o0 prog w) A (letTemporaryGo value o r>>=λ_=>pure r) Q E s₃) E s₂:=by
  rw[hs o i]
  exact wpAny_operating (BB h₂ (λr s₃ h₃=>bn (wpAny_letTemporaryGo (kt h₃))) λ_ _ x=>x)
 first
  | exact kt (bn fin)
  | exact bn (kt (bn fin))
  | exact bn fin
theorem n_ {X:Cx}{pins:List (Addr×Obj)}{σ:St}{H:Hp}{s:db}{a:Addr}{y:V}{o:Option V}(I:Inv X pins σ H s)(g:DGet H a y o):s.TypeIs (.ref a) "dict" := by
 rcases g with⟨kvs,k,e,_,_⟩ | ⟨kvs,k,b,e,_,_,_⟩
 ·obtain⟨_,_,vs,_,dd⟩:=qI I.hok e
  exact dd.typeIs
 ·obtain⟨_,_,xs,_,dd⟩:=qH I.hok e
  exact dd.typeIs
def Am (td ty:TE):TE:=λσ H Q=>td σ H λx H1=>ty σ H1 λy H2=>∃a v,x = .ref a/\DGet H2 a y (some v)/\Q v H2
def tDIn (ty td:TE):TE:=λσ H Q=>ty σ H λy H1=>td σ H1 λx H2=>∃a o,x = .ref a/\DGet H2 a y o/\Q (.bl o.isSome) H2
def rC (ty td:TE):TE:=λσ H Q=>ty σ H λy H1=>td σ H1 λx H2=>∃a o,x = .ref a/\DGet H2 a y o/\Q (.bl (!o.isSome)) H2
def yY (td ty tv:TE):TS:=λD σ H=>tv σ H λv H1=>td σ H1 λx H2=>ty σ H2 λy H3=>∃a H4,x = .ref a/\DPut H3 a y v H4/\D.nx σ H4
section
variable {X:Cx}{o i e value:Expr}{pos pos' tpos:Pos}{td ty tv:TE}
theorem jn (hu:X.A.units+1<DY)(ho:PE X o td)(hi:PE X i ty)(hs:NoSl i):PE X (.Subscript o i pos) (Am td ty):=by
 intro pins s σ H Q I h
 refine xi PySem.F.slot_dict_getitem.lookup hs (thn (ho pins s σ H _ I h) λu s1 ⟨x,H1,I1,rx,q1⟩=>thn (hi pins s1 σ H1 _ I1 q1) λiv s2 ⟨y,H2,I2,ry,a,v,ex,g,q2⟩=>?_)
 subst ex
 obtain rfl:u=Value.ref a:=rx
 exact⟨n_ I2 g,tW hu I2 g ry λw' s3 I3 rw'=>⟨v,H2,I3,rw',q2⟩⟩
theorem wo (hu:X.A.units+1<DY)(hi:PE X i ty)(ho:PE X o td):PC X .In i o (tDIn ty td):=by
 intro pins s σ H Q I h
 refine thn (hi pins s σ H _ I h) λiv s1 ⟨y,H1,I1,ry,q1⟩=>thn (ho pins s1 σ H1 _ I1 q1) λu s2 ⟨x,H2,I2,rx,a,ov,ex,g,q2⟩=>?_
 subst ex
 obtain rfl:u=Value.ref a:=rx
 exact d_in hu I2 g ry λs3 I3=>⟨.bl ov.isSome,H2,I3,rfl,q2⟩
theorem jr (hu:X.A.units+1<DY)(hi:PE X i ty)(ho:PE X o td):PC X .NotIn i o (rC ty td):=by
 intro pins s σ H Q I h
 refine thn (hi pins s σ H _ I h) λiv s1 ⟨y,H1,I1,ry,q1⟩=>thn (ho pins s1 σ H1 _ I1 q1) λu s2 ⟨x,H2,I2,rx,a,ov,ex,g,q2⟩=>?_
 subst ex
 obtain rfl:u=Value.ref a:=rx
 exact yn hu I2 g ry λs3 I3=>⟨.bl (!ov.isSome),H2,I3,rfl,q2⟩
theorem ji (hu:X.A.units+1<DY)(ho:PE X o td)(hi:PE X i ty)(hv:PE X value tv)(hs:EE value (some (.Subscript o i pos')) pos.line X.env=pure false) :
  PS X (.Assign [.Subscript o i pos'] value pos) (yY td ty tv):=by
 intro pins s σ H D I h
 refine wpAny_Assign_Subscript (thn (hv pins s σ H _ I h) λr s1 ⟨v,H1,I1,rv,q1⟩=>thn (ho pins s1 σ H1 _ I1 q1) λu s2 ⟨x,H2,I2,rx,q2⟩=>thn (hi pins s2 σ H2 _ I2 q2) λiv s3 ⟨y,H3,I3,ry,a,H4,ex,g,q3⟩=>?_) hs
 subst ex
 obtain rfl:u=Value.ref a:=rx
 exact tV hu I3 g ry rv λs4 I4=>⟨σ,H4,I4,q3⟩
end
theorem pS {P:wT}{w:Bf}{H:Hp}(h:Heap)(hb:Dh<h.objs.size):cA P w H (h.push {cls:=.type "dict",data:=.dict #[]}) h.objs.size (.dK []) :=
 ⟨Bl _,beq_eq_false_iff_ne.mpr (B_ (ww hb)),[],.nil,G5 h⟩
def tDNewK:TE:=λ_ H Q=>∀p,H p=none->Q (.ref p) (upd H p (.dK []))
section
variable {X:Cx}{pos:Pos}
theorem uW:PE X (.Dict [] [] pos) tDNewK:=λpins s σ H Q I h =>
 wpAny_Dict_empty ⟨.ref s.heap.objs.size,_,I.laid (a:=s.heap.objs.size) (o:=.dK []) (t':=s.toks) (λ_ _ q=>dL _ q) (wl _) (pS s.heap I.big),rfl,h _ (I.hok.fresh (wl _))⟩
end
def rA:List (TE×TE)->St->Hp->(List (V×V)->Hp->Prop)->Prop
 | [],_,H,Q=>Q [] H
 | (tk,tv)::r,σ,H,Q=>tk σ H λx H1=>tv σ H1 λy H2=>rA r σ H2 λps H3=>Q ((x,y)::ps) H3
abbrev VV:List (V×V)->List (bv×bv)->Prop:=Hl λp q=>RelV p.1 q.1/\RelV p.2 q.2
def PPs (X:Cx)(pos:Pos)(keys:List (Option Expr))(values:List Expr)(trs:List (TE×TE)):Prop :=
 ∀(pins:List (Addr×Obj)) (s:db) (σ:St) (H:Hp) (Q:List (V×V)->Hp->Prop),Inv X pins σ H s->rA trs σ H Q ->
  li (o0 X.prog X.w) X.A (evalPairs (pairTrees keys values X.env pos)) (λvs s'=>∃ps H',Inv X pins σ H' s'/\VV ps vs/\Q ps H') X.xe s
theorem rY {X:Cx}{pos:Pos}:PPs X pos [] [] []:=λpins s σ H Q I h=>pairTrees_nil_walk ⟨[],H,I,.nil,h⟩
theorem iQ {X:Cx}{pos:Pos}{k v:Expr}{ks:List (Option Expr)}{vs:List Expr}{tk tv:TE}{trs:List (TE×TE)}(hk:PE X k tk)(hv:PE X v tv)(hr:PPs X pos ks vs trs) :
  PPs X pos (some k::ks) (v::vs) ((tk,tv)::trs):=λpins s σ H Q I h =>
 pairTrees_cons_walk (thn (hk pins s σ H _ I h) λu s1 ⟨x,H1,I1,rx,q1⟩=>thn (hv pins s1 σ H1 _ I1 q1) λw2 s2 ⟨y,H2,I2,ry,q2⟩ =>
  thn (hr pins s2 σ H2 _ I2 q2) λws s3 ⟨ps,H3,I3,rel,q3⟩=>⟨(x,y)::ps,H3,I3,.cons ⟨rx,ry⟩ rel,q3⟩)
def eC (kvs more:List (Key×V)):List (Key×V):=more.foldl (λacc kv=>putK acc kv.1 kv.2) kvs
theorem KV.merge:∀ {more:List (Key×V)} {rs:List (Key×bv)} {kvs:List (Key×V)} {vs:List (Key×bv)},KV more rs->KV kvs vs->KV (eC kvs more) (merged vs rs):=by
 intro more rs kvs vs r
 unfold KV at r
 induction r generalizing kvs vs with
 | nil=>intro q;exact q
 | @cons p q ps qs h t ih =>
  intro r0
  have e:KV (putK kvs p.1 p.2) (GJ vs q.1 q.2):=by
   have:=r0.put p.1 h.2
   rw[<- h.1];exact this
  exact ih e
theorem eU:∀(more kvs:List (Key×V)),(eC kvs more).length<=kvs.length+more.length
 | [],kvs=>by show kvs.length<=kvs.length+0;omega
 | p::r,kvs=>by
  have h1:=eU r (putK kvs p.1 p.2)
  have h2:=eT kvs p.1 p.2
  show(eC (putK kvs p.1 p.2) r).length<=_
  rw[A6];omega
theorem kC {P:wT}{w:Bf}:∀ {kvs:List (Key×V)} {ws:List (bv×bv)},VV (kvs.map λkv=>(kV kv.1,kv.2)) ws->∃rs,Carries (bA P w) ws rs/\KV kvs rs
 | [],_,r=>by rw[CF]at r;cases r;exact⟨[],True.intro,.nil⟩
 | p::kvs,_,r=>by
  rw[A1]at r
  cases r with
  | @cons a b as bs h t =>
   obtain⟨rs,c,q⟩:=kC (P:=P) (w:=w) t
   obtain⟨b1,b2⟩:=b
   exact⟨(p.1,b2)::rs,⟨mn h.1,rfl,c⟩,.cons ⟨rfl,h.2⟩ q⟩
def yV (trs:List (TE×TE)):TE:=λσ H Q=>∀p,H p=none->rA trs σ (upd H p (.dK [])) λps H2=>H2 p=some (.dK [])/\∃kvs:List (Key×V),ps=kvs.map (λkv=>(kV kv.1,kv.2))/\kvs.length<=15/\Q (.ref p) (upd H2 p (.dK (eC [] kvs)))
theorem sf {X:Cx}{pos:Pos}{keys:List (Option Expr)}{values:List Expr}{trs:List (TE×TE)}(h:PPs X pos keys values trs)(hall:keys.all (·.isSome)=true)(hl:keys.length=values.length)(h0:keys≠[])
  (h15:keys.length<=15):PE X (.Dict keys values pos) (yV trs):=by
 intro pins s σ H Q I q
 have hn:=I.hok.fresh (wl s.heap.objs.size)
 have I1:=I.laid (a:=s.heap.objs.size) (o:=.dK []) (h':=s.heap.push {cls:=.type "dict",data:=.dict #[]}) (t':=s.toks) (λ_ _ q=>dL _ q) (wl _) (pS s.heap I.big)
 refine wpAny_Dict_walk (knd:=bA X.prog X.w) hall hl h0 h15 (thn (h pins _ σ _ _ I1 (q _ hn)) λws s2 ⟨ps,H2,I2,rel,e,kvs,ep,lk,q2⟩=>?_)
 subst ep
 obtain⟨rs,c,rk⟩:=kC (P:=X.prog) (w:=X.w) rel
 obtain⟨z,hd,vs0,r0,dd⟩:=vH I2.hok e
 cases r0
 refine⟨rs,c,dd,λh' dd' hs=>⟨.ref s.heap.objs.size,_,?_,rfl,q2⟩⟩
 have hz:(eC [] kvs).length<=xL:=by
  have h1:=eU kvs []
  rw[E6]at h1
  rw[Et];omega
 have he:∃q,h'.get? s.heap.objs.size=some q:=let ⟨q,_,_,hq,_⟩:=dd';⟨q,hq⟩
 exact lA I2 (by rw[e];exact True.intro) hs he (mE hz hd (rk.merge .nil) dd')
structure M2 (X:Cx)(o:Expr)(m:Str)(apos:Pos)(e f:Expr)(cpos:Pos):Prop where
 base:E2 o m X.env (eval o X.env)=eval o X.env
 few:((Dd cpos (Ba [e,f] X.env)).all (λx=>!x.1)&&(FH cpos (Eu [] X.env)).all (λx=>x.1.isSome)
  && decide (([e,f]:List Expr).length+([]:List G4).length+(if([]:List G4).isEmpty then 0 else 1)<30))=true
 line:(apos.endLine==cpos.line)=true
 trees:Dd cpos (Ba [e,f] X.env)=[(false,eval e X.env),(false,eval f X.env)]
def IsD (H:Hp)(a:Addr):Prop:=(∃kvs,Rd H a (.dK kvs)) ∨ ∃kvs,Rd H a (.dT kvs)
theorem zR {X:Cx}{pins:List (Addr×Obj)}{σ:St}{H:Hp}{s:db}{a:Addr}(I:Inv X pins σ H s)(d:IsD H a) :
  s.TypeIs (.ref a) "dict" /\ (∀b,Value.ref a = .ref b->∃ob,s.heap.get? b=some ob/\ob.dict=none)/\(a==Dh)=false:=by
 rcases d with⟨kvs,e⟩ | ⟨kvs,e⟩
 ·obtain⟨_,hd,vs,_,dd⟩:=qI I.hok e
  refine⟨dd.typeIs,λb q=>?_,hd⟩
  cases q
  obtain⟨ob,_,_,h1,h2,_⟩:=dd
  exact⟨ob,h1,h2.2.1⟩
 ·obtain⟨_,hd,xs,_,dd⟩:=qH I.hok e
  refine⟨dd.typeIs,λb q=>?_,hd⟩
  cases q
  obtain⟨ob,_,_,h1,h2,_⟩:=dd
  exact⟨ob,h1,h2.2.1⟩
end L2
namespace Att
open PySem PySem.W PySem.Calls PyProof.Rows
theorem jF {P:Params}{h:Heap}:∀(ns:List Int) (vs:List bv),WellAll P h vs (ns.map WData.int)->DK vs ns:=by
 intro ns
 induction ns with
 | nil =>
  intro vs w
  rw[CF]at w
  cases w
  exact .nil
 | cons n ns ih =>
  intro vs w
  rw[A1]at w
  cases w with
  | cons a b =>
   cases a
   exact .cons _ _ (ih _ b)
theorem rM {l:HR}{n:Nat}(hn:l.most=some n){P:Params}{h:Heap}{args:List WData}{vals:List bv}
  (hpre:l.row.toRowW.claim.pre args=true) (hwl:WellAll P h vals args) :
  ∃a vs ns,vals=[Value.ref a]/\args=[WData.list (ns.map WData.int)]/\h.get? a=some {cls:=.type "list",data:=.seq vs.toArray}/\DK vs ns/\ns.length<=n:=by
 have hsh:WShape.hasAll [] args [.list .int]=true:=(pre_splitW hpre).1
 have hc:l.pre.holds [] {args:=args}=true:=(pre_splitW hpre).2
 obtain⟨d,r,rfl,h1,h2⟩:=hasAllW_cons hsh
 obtain rfl:=hasAllW_nil h2
 obtain⟨xs,rfl,h3⟩:=hasW_list h1
 obtain⟨ns,rfl⟩:=items_int h3
 have hlen:ns.length<=n:=by
  unfold OpenLaw.pre at hc
  have h4:(WTm.not (.lt (.lit (.int (n:Int))) (.len (.arg 0)))).holds [] {args:=[.list (ns.map .int)]}=true:=by
   have h4:=(holds_andW hc).1
   rw[hn]at h4
   exact h4
  have h5:=condW_of h4 (w_not (w_lt w_lit (w_len_list (w_arg rfl))))
  rw[lw]at h5
  refine Nat.le_of_not_lt λq=>?_
  have q':(n:Int)<((ns.length:Nat):Int):=by omega
  first
   | (rw[decide_eq_true q']at h5;exact absurd h5 (by decide))
   | (simp at h5;omega)
 cases hwl with
 | cons w1 w2 =>
  cases w2
  cases w1 with
  | list ho hall=>exact⟨_,_,ns,rfl,rfl,ho,jF ns _ hall,hlen⟩
theorem rZ (l:HR)(args:List WData):l.row.toRowW.claim.post args (.bool true) args=true :=
 postW_of (r:=l.row.toRowW) (X:=(true==true))
  (show Jo [] (.bool true) .bool=true by first | rfl | decide | simp[Jo,WShape.arms,WShape.armsAll])
  (show(WTm.eq .res (.lit (.bool true))).value [] {args:=args,res:=some (.bool true),after:=args}=some (.bool (true==true))from w_eq_bool (w_res rfl) w_lit) rfl
theorem attach_call {l:HR}{n:Nat}{q:wT}{loose:List Str}{XP:(Str->Option bv)->Heap->Prop}{YP:Bf->Heap->Prop}{d:DefRec}
  (hn:l.most=some n) (hdf:d.params.defaults=[])
  (call:∀(w:Bf) (s₀ s₁:db) (mg mb:Str->Option bv) (fa:Addr) (o:Obj) (pm cd doc:bv) (a:Addr) (vs:List bv) (ns:List Int),
   Ground q loose [] XP w s₀ mg mb s₁.heap->YP w s₁.heap ->
   s₁.heap.get? fa=some o->o.data = .func (docDef d.name d.params d.body d.scope pm cd doc)->s₁.heap.CodeRec cd d.name->mg d.name=some (.ref fa) ->
   s₁.heap.get? a=some {cls:=.type "list",data:=.seq vs.toArray}->DK vs ns->ns.length<=n->s₁.gens = #[] ->
   B7 (o0 l.prog w) FS (.call (.ref fa) ⟨[.ref a],[]⟩) (λr s'=>r = .ok (.ret (.bool true))/\OldK s₁.heap s'.heap/\s'.os=s₁.os/\EX s'.gens) s₁) :
  Io q loose XP YP l.row.toRowW d [] (λf vs=>Hw f vs):=by
 intro w s₀ s₁ mg mb G Y fa o pm cd doc dV kV ho hd hcd hD hmg hg args vals as hpre hlay hrd hwl hlo
 obtain rfl:dV = .none:=Dflts.none hD hdf
 obtain rfl:kV = .none:=Dflts.noKw hD
 obtain⟨a,vs,ns,rfl,rfl,hobj,hints,hlen⟩:=rM hn hpre hwl
 refine enter_call (DX (call w s₀ s₁ mg mb fa o pm cd doc a vs ns G Y ho (fd_plain hd) hcd hmg hobj hints hlen hg) λr s' hq=>?_)
 obtain⟨rfl,h2,h3,h4⟩:=hq
 exact⟨.inl ⟨.bool true,.bool true,[],rfl,λ_=>rfl,.bool true,rZ l _,λ_=>⟨List.Pairwise.nil,λ_ hm=>(nomatch hm)⟩⟩,h2,h3,h4⟩
end Att
namespace L2
open PySem PySem.Spec PyProof.Rows
theorem gr:∀ {vs:List bv} {ns:List Int},DK vs ns->Vals (ns.map V.int) vs
 | _,_,.nil=>.nil
 | _,_,.cons n t h=>.cons ⟨t,rfl⟩ (gr h)
def Only (H:Hp):Prop:=∀b,H b=none ∨ ∃o xs,H b=some (.frz o (.lst xs))
theorem vi {P:wT}{w:Bf}{K:bi}{mg mb:Str->Option bv}{CX:CXT}{k:Nat}{fa a:Addr}{fd:D4}{x:Str}{sp:Sp}{s₁:db}{vs:List bv}{ns:List Int}
  (KX:K.In s₁.heap) (hns:s₁.heap.Ns At mg) (hb:s₁.heap.Ns Jb mb) (hbb:∀x:Str,x ≠ "__name__" -> mb x=BU x) (hlim:s₁.heap.NoLimit) (hg:s₁.gens = #[])
  (ha:s₁.heap.get? a=some {cls:=.type "list",data:=.seq vs.toArray}) (hi:DK vs ns) (hl:ns.length<=xL) (hr:Room k FS)
  (F:∀base:Heap,K.In base->base.Ns At mg->FnOk P w K mg base CX k fa fd [x] sp) (hbind:∀(s:db) (u:bv),G7 s fd ⟨[u],[]⟩ [(x,u)])
  (hsp:∀H:Hp,Only H->SqL K H a (ns.map V.int)->sp [.ref a] H (λv _=>v = .bl true) λ_ _ _=>False)
  (hCX:∀H e s',CX [] H s₁ (λ_ _ _=>False) e s'->False) :
  B7 (o0 P w) FS (.call (.ref fa) ⟨[.ref a],[]⟩) (λr s'=>r = .ok (.ret (.bool true))/\OldK s₁.heap s'.heap/\s'.os=s₁.os/\EX s'.gens) s₁:=by
 have rv:=gr hi
 have lenV:=hi.length
 have core:∀H:Hp,Only H->SqL K H a (ns.map V.int)->HOk P w H s₁.heap->(∀b,H b≠none->b=a)->(H a≠none->K.lookup a=none) ->
   B7 (o0 P w) FS (.call (.ref fa) ⟨[.ref a],[]⟩) (λr s'=>r = .ok (.ret (.bool true))/\OldK s₁.heap s'.heap/\s'.os=s₁.os/\EX s'.gens) s₁:=by
  intro H hO hS hok hA hK
  have base_of:∀ {b:Addr} {o:Obj},s₁.heap.get? b=some o->H b=none->(hidT s₁.heap H).get? b=some o:=λe n=>vp e n
  have noA:∀ {b:Addr} {o:Obj} {es:Array DictEntry} {ep:Nat},s₁.heap.get? b=some o->o.data = .dict es ep->H b=none:=λ{b o es ep} e d=>by
   cases q:H b with
   | none=>rfl
   | some u =>
    have e':b=a:=hA b (by rw[q];simp)
    subst e'
    rw[ha]at e;cases e
    have d':Data.seq vs.toArray _=Data.dict es ep:=d
    cases d'
  have nsK:∀ {b:Addr} {m:Str->Option bv},s₁.heap.Ns b m->(hidT s₁.heap H).Ns b m:=λ{b m} ⟨o,es,ep,e,d,r⟩=>⟨o,es,ep,base_of e (noA e d),d,r⟩
  have hKb:K.In (hidT s₁.heap H):=λb o e=>base_of (KX b o e) (by
   cases q:H b with
   | none=>rfl
   | some u =>
    have e':b=a:=hA b (by rw[q];simp)
    subst e'
    rw[hK (by rw[q];simp)]at e;cases e)
  have hM:Mod K mg (hidT s₁.heap H):=⟨hKb,nsK hns,⟨mb,nsK hb,hbb⟩,let ⟨mc,h1,h2⟩:=hlim;⟨mc,nsK h1,h2⟩⟩
  have e0:Env0 P w K mg (hidT s₁.heap H) FS [] s₁ H:=⟨rfl,hM,λb o e=>xJ e,Ey (sY _ _),trivial,λb hb=>absurd (show b∈([]:List Addr)from hb) (by simp),hok,.of_eq hg⟩
  refine DX ((F _ hKb (nsK hns)).run FS [] s₁ H ⟨[.ref a],[]⟩ [.ref a] [.ref a] _ _ hr e0 (hbind s₁ (.ref a)) (.cons rfl .nil) (hsp H hO hS)) λr s' h=>?_
  cases r with
  | error e=>exact(hCX H e s' h).elim
  | ok fl =>
   cases fl with
   | next=>exact BA h
   | brk=>exact BA h
   | cont=>exact BA h
   | ret u =>
    obtain⟨v,H',os,bare,un,hok',r',q⟩:=h
    have q':v = .bl true:=q
    subst q'
    obtain rfl:u=Value.bool true:=r'
    refine⟨rfl,OldK.of_keep λb o e=>?_,os,bare⟩
    cases q:H b with
    | none=>exact un.keep b o e q (by intro z;exact absurd (show b∈([]:List Addr)from z) (by simp)) (by simp)
    | some u =>
     rcases hO b with z | ⟨ob,xs,z⟩
     ·rw[q]at z;cases z
     ·have z2:=un.frzs b ob _ z
      obtain⟨e1,_⟩:=hok b _ z
      obtain⟨e2,_⟩:=hok' b _ z2
      rw[e]at e1;cases e1
      exact e2
 cases hk:K.lookup a with
 | some o =>
  have e:=KX a o hk
  rw[ha]at e
  cases e
  refine core (λ_=>none) (λ_=>.inl rfl) (.inr ⟨_,vs.toArray,_,hk,rfl,rfl,rfl,by rw[sB,lenV];exact hl,by simpa using rv⟩) (λb u z=>by have z':(none:Option HO)=some u:=z;cases z') (λb z=>absurd rfl z) λz=>absurd rfl z
 | none =>
  refine core (λb=>if b=a then some (.frz {cls:=.type "list",data:=.seq vs.toArray} (.lst (ns.map V.int)))else none) (λb=>?_) (.inl (.inr ⟨{cls:=.type "list",data:=.seq vs.toArray},if_pos rfl⟩)) (λb u z=>?_) (λb z=>?_) λ_=>hk
  ·by_cases hb:b=a
   ·exact .inr ⟨_,_,if_pos hb⟩
   ·exact .inl (if_neg hb)
  ·by_cases hb:b=a
   ·have z':=(if_pos hb).symm.trans z
    cases z'
    subst hb
    exact⟨ha,by rw[lw];exact hl,vs,_,rv,ha⟩
   ·have z':=(if_neg hb).symm.trans z
    cases z'
  ·by_cases hb:b=a
   ·exact hb
   ·exact absurd (if_neg hb) z
abbrev KOf {K:bi}{h:Heap}(_:K.In h):bi:=K
theorem wX {l:HR}{n k:Nat}{q:wT}{loose:List Str}{XP:(Str->Option bv)->Heap->Prop}{YP:Bf->Heap->Prop}{d:DefRec}{K:Params->bi}{CX:Bf->CXT}{sp:Bf->Sp}{x:Str}
  (hn:l.most=some n) (hn2:n<=xL) (hdf:d.params.defaults=[]) (hr:Room k FS)
  (hY:∀(w:Bf) (h:Heap),YP w h->(K w.params).In h)
  (F:∀(w:Bf) (mg:Str->Option bv) (fa:Addr) (h:Heap),(K w.params).In h->h.Ns At mg->mg d.name=some (.ref fa) ->
   ∃fd:D4,(∀(s:db) (u:bv),G7 s fd ⟨[u],[]⟩ [(x,u)]) /\
    ∀base:Heap,(K w.params).In base->base.Ns At mg->FnOk l.prog w (K w.params) mg base (CX w) k fa fd [x] (sp w))
  (hsp:∀(w:Bf) (H:Hp) (a:Addr) (ns:List Int),ns.length<=n->Only H->SqL (K w.params) H a (ns.map V.int)->sp w [.ref a] H (λv _=>v = .bl true) λ_ _ _=>False)
  (hCX:∀(w:Bf) (H:Hp) (s:db) (e:bv) (s':db),CX w [] H s (λ_ _ _=>False) e s'->False) :
  Io q loose XP YP l.row.toRowW d [] (λf vs=>Hw f vs):=by
 refine Att.attach_call hn hdf λw s₀ s₁ mg mb fa o pm cd doc a vs ns G Y ho hd hcd hmg hobj hints hlen hg=>?_
 have KX:=hY w _ Y
 obtain⟨fd,hb,hF⟩:=F w mg fa _ KX G.T.g hmg
 exact vi KX G.T.g G.T.b G.T.builtins G.T.nolimit hg hobj hints (A_ hlen hn2) hr hF hb (λH hO hS=>hsp w H a ns hlen hO hS) λH e s'=>hCX w H s₁ e s'
theorem ur {l:HR}{n k:Nat}{q:wT}{loose:List Str}{XP:(Str->Option bv)->Heap->Prop}{YP:Bf->Heap->Prop}{d:DefRec}{K:Params->bi}{CX:CXT}{sp:bi->Sp}{x:Str}
  (hn:l.most=some n) (hn2:n<=xL) (hdf:d.params.defaults=[]) (hr:Room k FS)
  (hY:∀(w:Bf) (h:Heap),YP w h->(K w.params).In h)
  (F:∀(w:Bf) (mg:Str->Option bv) (fa:Addr) (h:Heap),(K w.params).In h->h.Ns At mg->mg d.name=some (.ref fa) ->
   ∃fd:D4,(∀(s:db) (u:bv),G7 s fd ⟨[u],[]⟩ [(x,u)]) /\
    ∀base:Heap,(K w.params).In base->base.Ns At mg->FnOk l.prog w (K w.params) mg base CX k fa fd [x] (sp (K w.params)))
  (hsp:∀(K:bi) (H:Hp) (a:Addr) (ns:List Int),ns.length<=n->Only H->SqL K H a (ns.map V.int)->sp K [.ref a] H (λv _=>v = .bl true) λ_ _ _=>False)
  (hCX:∀(H:Hp) (s:db) (e:bv) (s':db),CX [] H s (λ_ _ _=>False) e s'->False) :
  Io q loose XP YP l.row.toRowW d [] (λf vs=>Hw f vs) :=
 wX (K:=K) (CX:=λ_=>CX) (sp:=λw=>sp (K w.params)) hn hn2 hdf hr hY F (λw H a ns h1 h2 h3=>hsp (K w.params) H a ns h1 h2 h3) λ_ H s e s'=>hCX H s e s'
def cw (s:Stmt):Arguments:=match s with
 | .FunctionDef _ a _ _ _ _ _ _ _ _=>a
 | _=>{posonlyargs:=[],args:=[],vararg:=none,kwonlyargs:=[],kw_defaults:=[],kwarg:=none,defaults:=[]}
def bu (s:Stmt):List Stmt:=match s with
 | .FunctionDef _ _ b _ _ _ _ _ _ _=>b
 | _=>[]
def ar (s:Stmt):Cv:=match s with
 | .FunctionDef _ _ _ _ _ _ sc _ _ _=>sc
 | _=>{kind:=.function,names:=[],isGenerator:=false,isCoroutine:=false}
abbrev CX0:CXT:=λ_ _ _ _ _ _=>False
abbrev E0:XK:=λ_ _ _=>False
theorem uZ {X:Cx}:fY CX0 X E0:=λ_ _ _ _ _ _ _ h=>h.elim
structure Fun (K:bi)(x qual:Str)(st:Stmt)(f:Addr)(fd:D4):Prop where
 ex:∃(oc:bv) (od:Option Addr) (kV doc pm:bv) (an:Option Addr) (cdv ct:bv) (osl:Array (Option bv)),
  fd=BH x qual (cw st) (bu st) (ar st) .none kV doc pm an cdv ct/\K.lookup f=some ⟨oc,od,.func fd,osl⟩/\BO K cdv qual=true
 kp:Bs K (.ref f)=true
section
variable {P:wT}{w:Bf}{K:bi}{mg:Str->Option bv}{base:Heap}
theorem Fun.ok {x qual:Str}{st:Stmt}{f:Addr}{fd:D4}{N ps:List Str}{k:Nat}{sp:Sp}(F:Fun K x qual st f fd)(S:aX N ps (ar st))(len:∀vs H Q E,sp vs H Q E->vs.length=ps.length)
  (hbody:∀(cdv:bv) (A:Bg) (outer:List Env) (s:db) (H:Hp) (vs:List V) (Q:VK) (E:XK),Room k (A.deeper (DW qual (ar st) s.heap.objs.size f cdv))->sp vs H Q E ->
   ∃t,PSs (cxOf CX0 P w K mg base N qual (ar st) f cdv A outer s H E).nox (bu st) t/\t {nx:=λ_ H'=>Q .non H',rt:=Q} (start N vs) H):FnOk P w K mg base CX0 (k+1) f fd ps sp:=by
 obtain⟨oc,od,kV,doc,pm,an,cdv,ct,osl,rfl,lk,hcd⟩:=F.ex
 refine zZ lk hcd S len λA outer s H vs Q E hr hsp=>?_
 obtain⟨t,h,q⟩:=hbody cdv A outer s H vs Q E hr hsp
 exact⟨t,h.nox,q⟩
theorem wH {x qual:Str}{st:Stmt}{f:Addr}{oc:bv}{od an:Option Addr}{osl:Array (Option bv)}{kV doc pm cdv ct:bv}(l:K.lookup f=some ⟨oc,od,.func (BH x qual (cw st) (bu st) (ar st) .none kV doc pm an cdv ct),osl⟩)
  (c:BO K cdv qual=true) (k:Bs K (.ref f)=true):Fun K x qual st f (BH x qual (cw st) (bu st) (ar st) .none kV doc pm an cdv ct):=⟨⟨oc,od,kV,doc,pm,an,cdv,ct,osl,rfl,l,c⟩,k⟩
end
theorem cW {A:Bg}{k:Nat}(hr:Room k A):A.units+1<DY:=EB (Nat.add_le_add_left (by decide:1<=64) _) hr.units
theorem d4 {n:Nat}(h:n<=1000):n<xL:=EB h (by decide)
section
variable {X:Cx}
theorem pv (i:Nat){x:Str}{pos:Pos}(hN:X.N[i]? = some x:=by rfl)(hv:Vis X.env.scope x:=by first | exact Or.inl rfl | exact Or.inr (Or.inl rfl) | exact Or.inr (Or.inr rfl))(hd:(x==("__debug__" : Str))=false:=by decide)
  (hcd:(x==("__classdict__" : Str))=false:=by decide):PE X (.Name x pos) (tVar i):=zc hN hv hd hcd
end
theorem ite2 {c A B:Prop} [Decidable c](h1:c->A)(h2:¬c->B):if c then A else B:=by
 by_cases h:c
 ·rw[if_pos h]
  exact h1 h
 ·rw[if_neg h]
  exact h2 h
def Same (H H':Hp):Prop:=∀b o,H b=some o->H' b=some o
theorem Same.refl (H:Hp):Same H H:=λ_ _ h=>h
theorem Same.trans {H H1 H2:Hp}(a:Same H H1)(b:Same H1 H2):Same H H2:=λc o h=>b c o (a c o h)
theorem Same.free {H H':Hp}(e:Same H H'){l:Addr}(h:H' l=Option.none):H l=Option.none:=by
 cases q:H l with
 | none=>rfl
 | some o =>
  rw[e l o q]at h
  cases h
theorem Same.seq {K:bi}{H H':Hp}{a:Addr}{xs:List V}(e:Same H H')(h:SqL K H a xs):SqL K H' a xs:=by
 rcases h with(h | ⟨o,h⟩) | h
 ·exact .inl (.inl (e _ _ h))
 ·exact .inl (.inr ⟨o,e _ _ h⟩)
 ·exact .inr h
def fB (cells:List (Str×Addr)):List (Str×Dy)->List (Str×Addr)->List (Str×Addr)
 | [],cs=>cs
 | (n,k)::r,cs=>fB cells r (if k == .free then(match cells.lookup n with | some c=>(n,c)::cs | none=>cs)else cs)
def cG (scope:Cv)(env:Env):List (Str×Addr):=fB env.cells scope.names []
theorem qK (env:Env):∀(names:List (Str×Dy)) (cs:List (Str×Addr)),(∀x∈names,x.2 = .free->∃c,env.cells.lookup x.1=some c) ->
  (forIn names cs λ(x:Str×Dy) (r:List (Str×Addr))=>(if(x.2 == .free)=true then(do let a <- Ja env x.1;pure (ForInStep.yield ((x.1,a)::r)))else pure (ForInStep.yield r):Sem (ForInStep (List (Str×Addr)))))=pure (fB env.cells names cs):=by
 intro names
 induction names with
 | nil=>intro cs _;rfl
 | cons x r ih =>
  intro cs h
  obtain⟨n,k⟩:=x
  rw[List.forIn_cons]
  have hr:∀y∈r,y.2 = .free->∃c,env.cells.lookup y.1=some c:=λy hy=>h y (Be _ hy)
  unfold fB
  by_cases hk:k = .free
  ·subst hk
   obtain⟨c,hc⟩:=h (n,.free) Bj rfl
   have e:Ja env n=pure c:=by unfold Ja;rw[hc]
   rw[if_pos (show(NameKind.free==NameKind.free)=true from rfl),if_pos (show(NameKind.free==NameKind.free)=true from rfl),hc]
   show(Ja env n>>=λa=>_)>>=_=_
   rw[e]
   exact ih _ hr
  ·have hb:(k==NameKind.free)=false:=by simpa using hk
   rw[if_neg (show ¬(k==NameKind.free)=true by rw[hb];exact A4),if_neg (show ¬(k==NameKind.free)=true by rw[hb];exact A4)]
   exact ih _ hr
theorem cz {scope:Cv}{env:Env}(h:∀x∈scope.names,x.2 = .free->∃c,env.cells.lookup x.1=some c):Ee scope env=pure (cG scope env):=by
 have run:=qK env scope.names [] h
 unfold Ee cG
 have e:(forIn scope.names ([]:List (Str×Addr)) λ(x:Str×Dy) (r:List (Str×Addr))=>(match x with
   | (name,kind)=>if(kind==NameKind.free)=true then(do let a <- Ja env name;pure (ForInStep.yield ((name,a)::r)))else pure (ForInStep.yield r):Sem (ForInStep (List (Str×Addr)))))=pure (fB env.cells scope.names []):=run
 show(forIn scope.names ([]:List (Str×Addr)) _>>=λcs=>pure cs)=_
 exact(congrArg (λm:Sem (List (Str×Addr))=>m>>=λcs=>pure cs) e)
theorem kA (cells:List (Str×Addr)):∀(names:List (Str×Dy)) (cs:List (Str×Addr)),(∀p∈cs,cells.lookup p.1=some p.2)->∀p∈fB cells names cs,cells.lookup p.1=some p.2
 | [],cs,h=>h
 | (n,k)::r,cs,h=>by
  unfold fB
  refine kA cells r _ λp hp=>?_
  by_cases hk:(k==NameKind.free)=true
  ·rw[if_pos hk]at hp
   cases e:cells.lookup n with
   | none=>rw[e]at hp;exact h p hp
   | some c =>
    rw[e]at hp
    rcases wn.mp hp with rfl | hp
    ·exact e
    ·exact h p hp
  ·rw[if_neg hk]at hp
   exact h p hp
theorem b9 {scope:Cv}{env:Env}{x:Str}{c:Addr}(h:(cG scope env).lookup x=some c):env.cells.lookup x=some c :=
 kA env.cells scope.names [] (λ_ z=>nomatch z) (x,c) (B1 h)
theorem fS {cs:List (Str×Addr)}{x:Str}{c:Addr}(h:(x,c)∈cs):∃d,cs.lookup x=some d:=by
 induction cs with
 | nil=>cases h
 | cons p r ih =>
  obtain⟨y,d⟩:=p
  by_cases e:x==y
  ·exact⟨d,by rw[Ck,e]⟩
  ·rcases wn.mp h with z | z
   ·cases z;simp at e
   ·obtain⟨d',q⟩:=ih z
    exact⟨d',by simp only[Cm]at e;rw[Ck,e];exact q⟩
theorem jL (cells:List (Str×Addr)):∀(names:List (Str×Dy)) (cs:List (Str×Addr)) (p:Str×Addr),p∈cs->p∈fB cells names cs
 | [],_,_,h=>h
 | (n,k)::r,cs,p,h=>by
  unfold fB
  refine jL cells r _ p ?_
  split
  ·split
   ·exact Be _ h
   ·exact h
  ·exact h
theorem kB (cells:List (Str×Addr)){x:Str}{c:Addr}(hc:cells.lookup x=some c):∀(names:List (Str×Dy)) (cs:List (Str×Addr)),(x,NameKind.free)∈names->(x,c)∈fB cells names cs
 | [],_,h=>nomatch h
 | (n,k)::r,cs,h=>by
  unfold fB
  rcases wn.mp h with z | z
  ·cases z
   refine jL cells r _ _ ?_
   rw[if_pos (show(NameKind.free==NameKind.free)=true from rfl),hc]
   exact Bj
  ·exact kB cells hc r _ z
theorem kz {scope:Cv}{env:Env}{x:Str}{c:Addr}(h:(x,NameKind.free)∈scope.names)(hc:env.cells.lookup x=some c):(cG scope env).lookup x=some c:=by
 obtain⟨d,e⟩:=fS (kB env.cells hc scope.names [] h)
 have e':(cG scope env).lookup x=some d:=e
 rw[e',<- b9 e',hc]
def blk (X:Cx)(scope:Cv)(N:List Str)(s:db)(H:Hp)(C:Addr)(fp:List Addr):Cx where
 prog:=X.prog
 w:=X.w
 K:=X.K
 mg:=X.mg
 base:=X.base
 A:=X.A
 N:=N
 s₀:=s
 H₀:=H
 env:=He scope (cG scope X.env) C X.env
 outer:=X.stack
 stack:=X.stack
 ex:=fp
 fn:=λ_=>false
 calm:=X.calm
 pn:=[]
 xe:=λ_ _=>False
def capt (σ:St)(js:List Nat):St:=js.map λj=>(σ[j]?).getD none
def capN (N:List Str)(js:List Nat):List Str:=js.map λj=>(N[j]?).getD ""
def bst (n:Nat)(σ:St)(js:List Nat):St:=pc n none++capt σ js
theorem eW {n:Nat}{σ:St}{js:List Nat}:(bst n σ js).length=n+js.length:=by unfold bst capt;simp
section
variable {P:wT}{w:Bf}{A:Bg}{R:D3->db->Prop}{s:db}
theorem oj {elt tg iter:Expr}{ifs:List Expr}{scope:Cv}{pos:Pos}{it acc:bv}{env:Env}(J:Nat->db->Prop)
  (turn:∀n s,J n s->li (o0 P w) A (DD it) (λr s1=>match r with
   | none=>R (.ok .next) s1
   | some v=>li (o0 P w) A (Cn tg it v) (λ_ s2=>li (o0 P w) A (Di tg env v) (λ_ s3 =>
     li (o0 P w) A (forIn ifs true λc r=>if r=true then do let ok <- ER c env (eval c env);pure (ForInStep.yield ok)else pure (ForInStep.yield r)) (λok s4 =>
      if ok=true then li (o0 P w) A (eval elt env) (λx s5=>li (o0 P w) A (call (.builtin "list.append") [acc,x]) (λ_ s6=>∃m,m<n/\J m s6) (λ_ _=>False) s5) (λ_ _=>False) s4
      else ∃m,m<n/\J m s4) (λ_ _=>False) s3) (λ_ _=>False) s2) (λ_ _=>False) s1) (λ_ _=>False) s)
  (n:Nat) (h:J n s):B7 (o0 P w) A (.compLoop (.ListComp elt [⟨tg,iter,ifs,0⟩] scope pos) 0 it acc env) R s:=by
 have no:∀ {α:Type} {t:Sem α} {Q Q':α->db->Prop} {E:bv->db->Prop} {s:db},li (o0 P w) A t Q (λ_ _=>False) s->(∀a s,Q a s->Q' a s)->li (o0 P w) A t Q' E s :=
  λh hq=>BB h hq λ_ _ f=>f.elim
 refine Fi rfl J (λn s hJ=>?_) n h
 show li _ A ((Fb (.ListComp elt [⟨tg,iter,ifs,0⟩] scope pos) 0 it acc env).onRaise (λx=>do Df x env;Ez x)) _ _ s
 refine FE ?_
 rw[compTurn_list]
 refine bn (B3 (bn (no (turn n s hJ) λr s1 h1=>?_)))
 cases r with
 | none=>exact kt h1
 | some v =>
  refine bn (no h1 λ_ s2 h2=>bn (no h2 λ_ s3 h3=>bn (no h3 λok s4 h4=>?_)))
  cases ok with
  | false=>exact kt ⟨rfl,h4⟩
  | true=>exact bn (bn (no h4 λx s5 h5=>bn (no h5 λ_ s6 h6=>kt (kt ⟨rfl,h6⟩))))
end
def PTs (X:Cx)(ifs:List Expr)(t:TT):Prop :=
 ∀(pins:List (Addr×Obj)) (s:db) (σ:St) (H:Hp) (Q:Bool->Hp->Prop),Inv X pins σ H s->t σ H Q ->
  li (o0 X.prog X.w) X.A (forIn ifs true λc r=>if r=true then do let ok <- ER c X.env (eval c X.env);pure (ForInStep.yield ok)else pure (ForInStep.yield r)) (TP X pins σ Q) X.xe s
def tAll:TT:=λ_ H Q=>Q true H
theorem dW {X:Cx}:PTs X [] tAll:=λ_ _ _ H _ I h=>wpAny_tests_nil ⟨H,I,h⟩
theorem gb {X:Cx}{c:Expr}{t:TT}(h:PT X c t):PTs X [c] t:=λpins s σ H Q I hq=>wpAny_tests_one (h pins s σ H Q I hq)
def Ak (J:It)(n:Nat)(js:List Nat)(g:TG)(tc:TT)(te:TE)(Q:VK)(σ:St)(H1:Hp):Prop:=∃W:Nat->Nat->List V->Hp->Prop,(∃m,W 0 m [] H1)/\∀i m ys H,W i m ys H ->
 (J.stop i H/\ys.length<=xL/\∀l,H l=none->Q (.ref l) (upd H l (.lst ys))) ∨
 (J.go i H/\ys.length<xL/\∃N:List V->Hp->Prop,(∀zs H',N zs H'->∃m',m'<m/\W (i+1) m' zs H')/\∀x H',J.yld i H x H'->g x (bst n σ js) H' λσ2 H2=>σ2.drop n=capt σ js/\tc σ2 H2 λb H3 =>
  if b=true then te σ2 H3 λv H4=>N (ys++[v]) H4 else N ys H3)
def rD (n:Nat)(js:List Nat)(wi:TI)(g:TG)(tc:TT)(te:TE):TE:=λσ H Q=>wi σ H λJ H1=>Ak J n js g tc te Q σ H1
section
variable {X:Cx}
structure Blk (X:Cx)(scope:Cv)(own:List Str)(js:List Nat):Prop where
 kind:scope.kind = .function
 nocell:∀y∈scope.names,y.2 ≠ .cell
 names:∀y∈scope.names,y.2 = .local->scope.names.lookup y.1=some .local
 free:∀y∈scope.names,y.2 = .free->X.env.kindOf y.1=some .cell∨X.env.kindOf y.1=some .free
 uniq:∀x,(x,NameKind.free)∈scope.names->scope.names.lookup x=some .free
 nd:(own++capN X.N js).Nodup
 cap:∀j∈js,j<X.N.length/\((X.N[j]?).getD "",NameKind.free)∈scope.names
def blkB (sc:Cv)(N:List Str)(scope:Cv)(own:List Str)(js:List Nat):Bool :=
 scope.kind == .function&&scope.names.all (λy=>y.2 != .cell)&&scope.names.all (λy=>y.2 != .local||scope.names.lookup y.1==some .local) &&
 scope.names.all (λy=>y.2 != .free||sc.names.lookup y.1==some .cell||sc.names.lookup y.1==some .free)&&scope.names.all (λy=>y.2 != .free||scope.names.lookup y.1==some .free) &&
 decide (own++capN N js).Nodup&&js.all (λj=>decide (j<N.length)&&scope.names.any λy=>y.1==(N[j]?).getD "" && y.2 == .free)
theorem Blk.of {scope:Cv}{own:List Str}{js:List Nat}(sc:Cv)(N:List Str)(h:blkB sc N scope own js=true:=by decide +kernel)(e1:X.env.scope=sc:=by rfl)(e2:X.N=N:=by rfl):Blk X scope own js:=by
 subst e1 e2
 unfold blkB at h
 simp only[A7,Iu,decide_eq_true_eq,beq_iff_eq]at h
 obtain⟨⟨⟨⟨⟨⟨h1,h2⟩,h3⟩,h4⟩,h5⟩,h6⟩,h7⟩:=h
 refine⟨h1,λy hy=>by simpa using h2 y hy,λy hy e=>?_,λy hy e=>?_,λx hx=>?_,h6,λj hj=>?_⟩
 ·have:=h3 y hy
  simpa [e] using this
 ·have:=h4 y hy
  simp only[e,bne_self_eq_false,DA,Go,beq_iff_eq]at this
  exact this
 ·have:=h5 _ hx
  simpa using this
 ·obtain⟨a,b⟩:=h7 j hj
  refine⟨a,?_⟩
  obtain⟨y,hy,e⟩:=CD.mp b
  simp only[A7,beq_iff_eq]at e
  obtain⟨e1,e2⟩:=e
  rw[<- e1,<- e2]
  exact hy
theorem dc {env:Env}:∀ {names:List (Str×Dy)} {x:Str} {k:Dy},
  (names.map λ(n,k)=>if(k==NameKind.free&&env.scope.kind == .function&&env.kindOf n==some .cell)then(n,NameKind.cell)else(n,k)).lookup x=some k->names.lookup x=some k∨(k = .cell/\names.lookup x=some .free)
 | [],_,_,h=>by simp at h
 | (n,q)::r,x,k,h=>by
  have ih:=@dc env r x k
  cases hx:x==n with
  | true =>
   by_cases hc:(q==NameKind.free&&env.scope.kind == .function&&env.kindOf n==some .cell)=true
   ·simp only[A1,if_pos hc,Ck,hx]at h
    cases h
    simp only[A7,beq_iff_eq]at hc
    obtain⟨⟨hq,_⟩,_⟩:=hc
    subst hq
    exact .inr ⟨rfl,by rw[Ck,hx]⟩
   ·simp only[A1,if_neg hc,Ck,hx]at h
    cases h
    exact .inl (by rw[Ck,hx])
  | false =>
   have h':(r.map λ(n,k)=>if(k==NameKind.free&&env.scope.kind == .function&&env.kindOf n==some .cell)then(n,NameKind.cell)else(n,k)).lookup x=some k:=by
    by_cases hc:(q==NameKind.free&&env.scope.kind == .function&&env.kindOf n==some .cell)=true
    ·simp only[A1,if_pos hc,Ck,hx]at h
     exact h
    ·simp only[A1,if_neg hc,Ck,hx]at h
     exact h
   rcases ih h' with z | ⟨z,z'⟩
   ·exact .inl (by rw[Ck,hx];exact z)
   ·exact .inr ⟨z,by rw[Ck,hx];exact z'⟩
theorem lF {scope:Cv}{own:List Str}{js:List Nat}{pins:List (Addr×Obj)}{σ:St}{H:Hp}{s:db}{fp:List Addr}{C:Addr}{h1:Heap}{tk:Nat}(B:Blk X scope own js)(I:Inv X pins σ H s)
  (hfp:∀b∈fp,FpOk X pins H b) (hfo:∀b∈fp,∃o,s.heap.get? b=some o) (hC:s.heap.objs.size<=C) (hns:h1.Ns C λ_=>none) (hk:∀b o,s.heap.get? b=some o->h1.get? b=some o) :
  Inv (blk X scope (own++capN X.N js) s H C fp) [] (bst own.length σ js) H {s with heap:=h1,toks:=tk}:=by
 have kindC:∀x,(blk X scope (own++capN X.N js) s H C fp).env.kindOf x=some .cell∨(blk X scope (own++capN X.N js) s H C fp).env.kindOf x=some .free->(x,NameKind.free)∈scope.names:=λx hx=>by
  have hx':(FP scope X.env).names.lookup x=some .cell∨(FP scope X.env).names.lookup x=some .free:=hx
  rcases hx' with z | z
  ·rcases dc z with q | ⟨_,q⟩
   ·exact absurd rfl (B.nocell _ (B1 q))
   ·exact B1 q
  ·rcases dc z with q | ⟨_,q⟩
   ·exact B1 q
   ·exact B1 q
 have has:∀x,(x,NameKind.free)∈scope.names->∃c,X.env.cells.lookup x=some c:=λx hx=>I.ok.has x (B.free (x,.free) hx rfl)
 have old:∀ {x c},(cG scope X.env).lookup x=some c->X.env.cells.lookup x=some c:=λe=>b9 e
 have cellLt:∀ {x c},X.env.cells.lookup x=some c->c<s.heap.objs.size:=λ{x c} e=>by
  obtain⟨v,o,ho,_⟩:=I.cell x c e
  exact lc ho
 have fpLt:∀b∈fp,b<s.heap.objs.size:=λb hb=>let ⟨_,e⟩:=hfo b hb;lc e
 have fsOk:∀b∈frs X.stack,b∈X.env.locals::X.fs:=I.stkSub
 refine⟨⟨I.ok.mod,?_,I.ok.glob,I.ok.blt,hC,λx y c e1 e2=>I.ok.inj x y c (old e1) (old e2),λx hx=>?_,λx c z _=>absurd z A4,I.ok.hd,I.ok.frames,.inl rfl,λb hb=>⟨?_,λx c e=>?_⟩,I.bs,A_ I.ok.bsz I.sz,
   λb o e hb=>?_,λb hb hf=>?_,I.stack,I.stkFree⟩,rfl,I.bare,Un.kept hk,⟨_,hns,λi x v e1 e2 e3=>?_⟩,λx c e=>?_,?_,λx c e=>I.freeC x c (old e),λp hp=>absurd hp (by show p∉[]++[];simp),I.hok.kept hk,?_⟩
 ·show(FP scope X.env).kind = .function
  exact B.kind
 ·obtain⟨c,e⟩:=has x (kindC x hx)
  exact⟨c,kz (kindC x hx) e⟩
 ·exact ww (xz (fpLt b hb) hC)
 ·exact(hfp b hb).2.2.2.2.1 x c (old e)
 ·have e1:=I.bs b o e
  obtain⟨f0,f1,f2,f3,f4,f5⟩:=hfp b hb
  rcases f3 with z | z
  ·exact I.ok.noex b o e z
  ·exact absurd (xz (lc (I.ok.bs b o e).1) z) (De _)
 ·obtain⟨f0,f1,f2,f3,f4,f5⟩:=hfp b hb
  rcases wn.mp (fsOk b hf)with z | z
  ·exact f1 z
  ·exact f2 z
 ·-- a captured name's value
  have hi:own.length<=i:=by
   rcases Bh i own.length with z | z
   ·exfalso
    have e2':(pc own.length (none:Option V)++capt σ js)[i]? = some (some v):=e2
    rw[Bi (by simpa using z),BR]at e2'
    split at e2' <;> cases e2'
   ·exact z
  have e1':(own++capN X.N js)[i]? = some x:=e1
  have e2':(pc own.length (none:Option V)++capt σ js)[i]? = some (some v):=e2
  rw[By hi]at e1'
  rw[By (by simpa using hi),Cf]at e2'
  unfold capN at e1'
  unfold capt at e2'
  rw[wP]at e1' e2'
  cases ej:js[i - own.length]? with
  | none=>rw[ej]at e1';cases e1'
  | some j =>
   rw[ej]at e1' e2'
   have e1'':(X.N[j]?).getD "" = x:=Co e1'
   have e2'':(σ[j]?).getD none=some v:=Co e2'
   obtain⟨hj,hm⟩:=B.cap j (BC ej)
   have eN:X.N[j]? = some x:=by
    rw[im hj]at e1'' ⊢
    exact congrArg some e1''
   have eS:σ[j]? = some (some v):=by
    cases q:σ[j]? with
    | none=>rw[q]at e2'';cases e2''
    | some u=>rw[q]at e2'';exact congrArg some e2''
   rw[e1'']at hm
   obtain⟨m,_,hl⟩:=I.loc
   have hv:Vis X.env.scope x:=by
    rcases B.free (x,.free) hm rfl with z | z
    ·exact .inr (.inl z)
    ·exact .inr (.inr z)
   obtain⟨u,r,l⟩:=hl j x v eN eS hv
   obtain⟨c,hc⟩:=has x hm
   refine⟨u,r,.inr ⟨?_,c,kz hm hc,?_⟩⟩
   ·rcases e3 with z | z | z
    ·exfalso
     have z':(FP scope X.env).names.lookup x=some .local:=z
     rcases dc z' with q | ⟨q,_⟩
     ·rw[B.uniq x hm]at q
      cases q
     ·cases q
    ·exact .inl z
    ·exact .inr z
   ·rcases l with⟨k1,_⟩ | ⟨k2,c2,e2,ic⟩
    ·rcases B.free (x,.free) hm rfl with t | t <;> (rw[k1]at t;cases t)
    ·rw[hc]at e2;cases e2
     obtain⟨o,ho,hd⟩:=ic
     exact⟨o,hk c o ho,hd⟩
 ·obtain⟨v,o,ho,hd⟩:=I.cell x c (old e)
  exact⟨v,o,hk c o ho,hd⟩
 ·exact I.hok.fresh hC
 ·rw[eW]
  show _=(own++capN X.N js).length
  unfold capN
  simp
end
section
variable {X:Cx}
theorem Inv.young {pins:List (Addr×Obj)}{σ:St}{H:Hp}{s:db}{h':Heap}{c:Addr}(I:Inv X pins σ H s)(hs:Bx c s.heap h')(hn:H c=none)(h1:X.s₀.heap.objs.size<=c)(hL:c≠X.env.locals)
  (h2:∀x d,X.env.cells.lookup x=some d->d≠c) (h3:∀p∈X.pn++pins,p.1≠c):Inv X pins σ H {s with heap:=h'} :=
 I.turned (t':=s.toks) (λb o hb e=>(hs.2 b hb).trans e) hn hL (.inr h1) h2 h3
theorem Inv.track {pins:List (Addr×Obj)}{σ:St}{H:Hp}{s:db}{D:Addr}{ys:List V}{its:List bv}{n:Nat}(I:Inv X pins σ H s)(hn:H D=none)(h1:X.s₀.heap.objs.size<=D)(hL:D≠X.env.locals)
  (h2:∀x d,X.env.cells.lookup x=some d->d≠D) (h3:∀p∈X.pn++pins,p.1≠D) (hz:ys.length<=xL) (r:Vals ys its) (e:s.heap.get? D=some {cls:=.type "list",data:=.seq its.toArray n}) :
  Inv X pins σ (upd H D (.lst ys)) s:=by
 have ne:∀ {b u},H b=some u->b≠D:=λ{b u} q=>a_ q hn
 refine⟨I.ok,I.os,I.bare,⟨I.base.keep,I.base.slot,λb o q z hx=>?_,I.base.there,λb xs q=>?_,λb o u q=>?_,λb ps q=>?_⟩,I.loc,I.cell,?_,λx c q=>?_,λp hp=>?_,λb o q=>?_,I.len⟩
 ·rw[aL (ww (xz (lc q) h1))]
  exact I.base.free b o q z hx
 ·have q':=I.base.tups b xs q
  rw[aL (ne q')];exact q'
 ·have q':=I.base.frzs b o u q
  rw[aL (ne q')];exact q'
 ·obtain⟨more,q'⟩:=I.base.tbls b ps q
  exact⟨more,by rw[aL (ne q')];exact q'⟩
 ·rw[aL (B_ hL)];exact I.free
 ·rw[aL (h2 x c q)];exact I.freeC x c q
 ·obtain⟨a1,a2,a3⟩:=I.pin p hp
  exact⟨a1,by rw[aL (h3 p hp)];exact a2,a3⟩
 ·by_cases hb:b=D
  ·subst hb
   rw[aQ]at q
   cases q
   exact⟨hz,its,n,r,e⟩
  ·rw[aL hb]at q
   refine(I.hok b o q).stay (λ_ _ _ z=>z) (λc z=>?_) λc xs z=>?_
   ·rw[aL (ne z)];exact z
   ·rw[aL (ne z)];exact z
def um (X:Cx)(pins:List (Addr×Obj))(σ:St)(Q:VK)(C:Addr)(acc:bv)(s':db):Prop :=
 ∃(D:Addr) (H:Hp) (m:Str->Option bv),acc = .ref D/\s'.heap.Ns C m/\Inv X pins σ H s'/\H C=none/\X.s₀.heap.objs.size<=C/\C≠X.env.locals/\(∀x d,X.env.cells.lookup x=some d->d≠C)/\(∀p∈X.pn++pins,p.1≠C)/\Q (.ref D) H
theorem ky {elt tg iter:Expr}{ifs:List Expr}{scope:Cv}{pos:Pos}{own:List Str}{js:List Nat}{g:TG}{tc:TT}{te:TE}{Q:VK}{pins:List (Addr×Obj)}{σ:St}{s2:db}{itv:bv}{E:bv->db->Prop}
  {RR:bv->Addr->D3->db->Prop} (hc:X.calm=true) (B:Blk X scope own js) (hg:∀s H C fp,(own++capN X.N js).Nodup->PG (blk X scope (own++capN X.N js) s H C fp) tg g) (ht:∀s H C fp,PTs (blk X scope (own++capN X.N js) s H C fp) ifs tc)
  (he:∀s H C fp,PE (blk X scope (own++capN X.N js) s H C fp) elt te)
  (h:PIE X pins σ tg (λJ H1=>Ak J own.length js g tc te Q σ H1) itv s2)
  (hR:∀C acc s',um X pins σ Q C acc s'->RR acc C (.ok .next) s') :
  li (o0 X.prog X.w) X.A (Ib []) (λacc s3=>li (o0 X.prog X.w) X.A (FG scope X.env.globals (cG scope X.env) [] X.env.qual none .none (some X.env)) (λcenv s4 =>
   B7 (o0 X.prog X.w) X.A (.compStart (.ListComp elt [⟨tg,iter,ifs,0⟩] scope pos) 0 itv acc {cenv with scope:=FP scope X.env}) (RR acc cenv.locals) s4) E s3) E s2:=by
 obtain⟨it,fp,tn,J,H2,rfl,I2,T,st2,f2,W,⟨m0,w0⟩,turn⟩:=h
 refine B5 (Er B.nocell (by intro y hy;simp at hy) (λh1 hns1 hsb1=>?_) B.kind)
 generalize hPu:s2.heap.push {cls:=.type "list",dict:=none,data:=.seq ([]:List bv).toArray}=Pu at hns1 hsb1 ⊢
 dsimp only at hns1 hsb1 ⊢
 have hDC:Pu.objs.size=s2.heap.objs.size+1:=by rw[<- hPu,B8]
 generalize hD:s2.heap.objs.size=D at hDC ⊢
 have gD:Pu.get? D=some {cls:=.type "list",dict:=none,data:=.seq ([]:List bv).toArray}:=by
  rw[<- hPu,<- hD];exact wv _ rfl
 generalize hC:Pu.objs.size=C at hns1 hsb1 hDC ⊢
 have ltDC:D<C:=by rw[hDC];exact CV D
 have neDC:D≠C:=ww ltDC
 have keep1:∀b o,s2.heap.get? b=some o->h1.get? b=some o:=λb o e=>by
  have hb:b<D:=by rw[<- hD];exact lc e
  have hb2:b≠C:=ww (CU hb ltDC)
  refine(hsb1.2 b hb2).trans (dL _ ?_)
  rw[<- hPu]
  exact dL _ e
 have gD1:h1.get? D=some {cls:=.type "list",dict:=none,data:=.seq ([]:List bv).toArray}:=(hsb1.2 D neDC).trans (dL _ gD)
 have szD:s2.heap.objs.size<=D:=Ey hD
 have szC:s2.heap.objs.size<=C:=A_ szD (BZ ltDC)
 have old:∀ {b:Addr},b<s2.heap.objs.size->b≠D/\b≠C:=λhb=>⟨ww (xz hb szD),ww (xz hb szC)⟩
 have fpo:∀b∈fp,∃o,s2.heap.get? b=some o:=λb hb=>let ⟨o,e,_⟩:=T.obj 0 _ st2 b hb;⟨o,e⟩
 have fpD:∀b∈fp,b≠D/\b≠C:=λb hb=>by
  obtain⟨o,e⟩:=fpo b hb
  exact old (lc e)
 have clD:∀x d,X.env.cells.lookup x=some d->d≠D/\d≠C:=λx d e=>by
  obtain⟨v,o,ho,_⟩:=I2.cell x d e
  exact old (lc ho)
 have pinD:∀p∈X.pn++pins,p.1≠D/\p.1≠C:=λp hp=>by
  exact old (lc (I2.pin p hp).1)
 have locD:D≠X.env.locals/\C≠X.env.locals:=by
  exact⟨(old I2.lt).1.symm,(old I2.lt).2.symm⟩
 let Y:=blk X scope (own++capN X.N js) s2 H2 C fp
 have IB:Inv Y [] (bst own.length σ js) H2 {s2 with heap:=h1,toks:=s2.toks+([]:List (Str×bv)).length}:=lF B I2 f2 fpo szC hns1 keep1
 have fpB:∀ {H':Hp} {pl:List (Addr×Obj)},(∀b∈fp,H' b=none)->(∀p∈pl,p.1=D)->∀b∈fp,FpOk Y pl H' b:=λ{H' pl} hn hp b hb=>by
  obtain⟨f0,f1,f3,f4,f5,f6⟩:=f2 b hb
  refine⟨hn b hb,(fpD b hb).2,λz=>?_,.inl hb,λx c e=>f5 x c (b9 e),λp q=>?_⟩
  ·rcases wn.mp (I2.stkSub b z)with z | z
   ·exact f1 z
   ·exact f3 z
  ·have q':p∈pl:=by simpa [Y,blk] using q
   rw[hp p q']
   exact(fpD b hb).1.symm
 have clB:∀x d,Y.env.cells.lookup x=some d->d≠D:=λx d e=>(clD x d (b9 e)).1
 have notFs:D∉Y.fs:=λz=>by
  obtain⟨_,o,ho,_⟩:=IB.ok.funs.mem z
  exact(old (lc (show s2.heap.get? D=some o from ho))).1 rfl
 have loop:∀s3:db,s3={s2 with heap:=h1,toks:=s2.toks+([]:List (Str×bv)).length} ->
   B7 (o0 X.prog X.w) X.A (.compLoop (.ListComp elt [⟨tg,iter,ifs,0⟩] scope pos) 0 (.ref it) (.ref D) (He scope (cG scope X.env) C X.env)) (RR (.ref D) C) s3:=by
  rintro s3 rfl
  refine oj (λn s'=>∃(i:Nat) (ys:List V) (its:List bv) (k:Nat) (H':Hp),Inv Y [] (bst own.length σ js) H' s'/\tn i s'.heap/\(∀b∈fp,H' b=none)/\H' D=none/\Vals ys its /\
   s'.heap.get? D=some {cls:=.type "list",data:=.seq its.toArray k}/\W i n ys H') ?_ m0 ⟨0,[],[],0,H2,IB,T.keep 0 _ _ st2 (λb hb o e=>keep1 b o e),λb hb=>(f2 b hb).1,I2.hok.fresh szD,.nil,gD1,w0⟩
  rintro n s3 ⟨i,ys,its,k,H3,I3,st3,fr3,hD3,r3,g3,w3⟩
  have I3p:Inv Y [(D,{cls:=.type "list",data:=.seq its.toArray k})] (bst own.length σ js) H3 s3:=I3.pins_of λp hp=>by
   have e:p=(D,{cls:=.type "list",data:=.seq its.toArray k}):=by simpa using hp
   subst e
   exact⟨g3,hD3,neDC,notFs,λv z=>by cases z⟩
  have f3:∀b∈fp,FpOk Y [(D,{cls:=.type "list",data:=.seq its.toArray k})] H3 b:=fpB fr3 λp hp=>by
   have e:p=(D,{cls:=.type "list",data:=.seq its.toArray k}):=by simpa using hp
   rw[e]
  rcases turn i n ys H3 w3 with⟨stop,hz,qn⟩ | ⟨go,hz,N,hN,step⟩
  ·refine thn (T.done Y rfl rfl rfl hc i _ s3 _ H3 (λ_ _=>False) I3p f3 st3 stop) λr s4 ⟨hr,I4⟩=>?_
   subst hr
   refine hR C _ s4 ?_
   have g4:=(I4.pin (D,{cls:=.type "list",data:=.seq its.toArray k}) (by simp[Y,blk])).1
   obtain⟨m,hn4,_⟩:=id I4.loc
   have un:Un (frs X.stack) fp H2 H3 s2.heap s4.heap:=I4.base
   have I5:Inv X pins σ H3 s4:=I2.call' I4.os un I4.hok I4.bare λb hb=>let ⟨_,b1,_,b3,b4,b5⟩:=f2 b hb;⟨b3,b1,b4,b5⟩
   have I6:=I5.track (ys:=ys) (its:=its) (n:=k) hD3 (A_ I2.sz szD) locD.1 (λx d e=>(clD x d e).1) (λp hp=>(pinD p hp).1) hz r3 g4
   refine⟨D,_,m,rfl,hn4,I6,?_,A_ I2.sz szC,locD.2,λx d e=>(clD x d e).2,λp hp=>(pinD p hp).2,qn D hD3⟩
   rw[aL (B_ neDC)]
   exact I4.free
  ·refine thn (T.item Y rfl rfl rfl hc i _ s3 _ H3 (λ_ _=>False) I3p f3 st3 go) λr s4 ⟨u,hr,h4⟩=>?_
   subst hr
   refine thn h4 λ_ s5 ⟨x,H5,I5,r5,y5,st5,fr5⟩=>?_
   have f5:∀b∈fp,FpOk Y [(D,{cls:=.type "list",data:=.seq its.toArray k})] H5 b:=λb hb=>⟨fr5 b hb,(f3 b hb).2⟩
   have I5':=I5.pinned f5 (T.obj _ _ st5)
   refine thn (hg s2 H2 C fp B.nd _ s5 _ H5 x u _ I5' r5 (step x H5 y5)) λ_ s6 ⟨σ6,H6,I6,d6,q6⟩=>?_
   refine thn (ht s2 H2 C fp _ s6 σ6 H6 _ I6 q6) λok s7 ⟨H7,I7,q7⟩=>?_
   have after:∀ {s8:db} {H8:Hp},Inv Y ([(D,{cls:=.type "list",data:=.seq its.toArray k})]++e6 fp s5.heap) σ6 H8 s8 ->
     s8.heap.get? D=some {cls:=.type "list",data:=.seq its.toArray k}/\H8 D=none/\tn (i+1) s8.heap/\(∀b∈fp,H8 b=none)/\Inv Y [] (bst own.length σ js) H8 s8:=λ{s8 H8} I8=>by
    have p8:=I8.pin (D,{cls:=.type "list",data:=.seq its.toArray k}) (by simp[Y,blk])
    refine⟨p8.1,p8.2.1,T.keep _ _ _ st5 λb hb o e=>(I8.pin (b,o) (lm _ (lm _ (bP hb e)))).1,λb hb=>?_,?_⟩
    ·obtain⟨o,e,_⟩:=T.obj _ _ st5 b hb
     exact(I8.pin (b,o) (lm _ (lm _ (bP hb e)))).2.1
    ·refine(I8.pins_of (pins':=[]) λp hp=>absurd hp (by simp[Y,blk])).weak ?_ λj v e=>?_
     ·rw[I8.len,eW]
      show _=(own++capN X.N js).length
      unfold capN
      simp
     ·rcases Bh j own.length with z | z
      ·exfalso
       unfold bst at e
       rw[Bi (by simpa using z),BR]at e
       split at e <;> cases e
      ·unfold bst at e
       rw[By (by simpa using z),Cf,<- d6,Bt]at e
       rw[<- e]
       congr 1
       omega
   cases ok with
   | false =>
    rw[if_neg A4]at q7 ⊢
    obtain⟨m',hm,w7⟩:=hN _ _ q7
    obtain⟨a1,a2,a3,a4,a5⟩:=after I7
    exact⟨m',hm,i+1,ys,its,k,H7,a5,a3,a4,a2,r3,a1,w7⟩
   | true =>
    rw[if_pos rfl]at q7 ⊢
    refine thn (he s2 H2 C fp _ s7 σ6 H7 _ I7 q7) λu8 s8 ⟨v8,H8,I8,r8,n8⟩=>?_
    obtain⟨m',hm,w8⟩:=hN _ _ n8
    obtain⟨a1,a2,a3,a4,a5⟩:=after I8
    have hsz:its.toArray.size<xL:=by rw[sB,<- r3.length];exact hz
    refine Hf C_ ⟨_,a1,rfl⟩ FM (Fw _ _) (FI D its.toArray k u8 (by omega)) ⟨a1,?_⟩
    have q9:=Fv a1 (λxs=>xs.push u8)
    have sb:Bx D s8.heap (s8.heap.update D (Cd λxs=>xs.push u8)):=Ci ..
    have I9:=a5.young sb a2 szD neDC clB (λp hp=>absurd hp (by show p∉[]++[];simp))
    have fin:∃k',(s8.heap.update D (Cd λxs=>xs.push u8)).get? D=some {cls:=.type "list",data:=.seq (its++[u8]).toArray k'}:=⟨_,by
     rw[show(its++[u8]).toArray=its.toArray.push u8 by simp]
     exact q9⟩
    obtain⟨k',fin⟩:=fin
    exact⟨m',hm,i+1,ys++[v8],its++[u8],k',H8,I9,T.keep _ _ _ a3 (λb hb o e=>(sb.2 b (fpD b hb).1).trans e),a4,a2,r3.append (.cons r8 .nil),fin,w8⟩
 exact Ic (loop _ rfl) (T.self _ 0 _ _ _ (T.keep 0 _ _ st2 λb hb o e=>keep1 b o e) (loop _ rfl))
theorem jo {elt tg iter:Expr}{ifs:List Expr}{scope:Cv}{pos:Pos}(own:List Str)(js:List Nat){wi:TI}{g:TG}{tc:TT}{te:TE}(hc:X.calm=true)(B:Blk X scope own js)(hi:PI X tg iter wi)
  (hg:∀s H C fp,(own++capN X.N js).Nodup->PG (blk X scope (own++capN X.N js) s H C fp) tg g) (ht:∀s H C fp,PTs (blk X scope (own++capN X.N js) s H C fp) ifs tc) (he:∀s H C fp,PE (blk X scope (own++capN X.N js) s H C fp) elt te)
  (hs:∀x,B6 iter X.env x=pure x:=by intro _;rfl):PE X (.ListComp elt [⟨tg,iter,ifs,0⟩] scope pos) (rD own.length js wi g tc te):=by
 intro pins s σ H Q I h
 have hcl:Ee scope X.env=pure (cG scope X.env):=cz λx hx hf=>I.ok.has x.1 (B.free x hx hf)
 rw[eval_ListComp]
 refine CI (use:=none) rfl hs hcl B.kind B.names (thn (hi pins s σ H _ I h) λv s1 h1=>thn h1 λitv s2 h2=>?_)
 refine ky (RR:=λacc C=>Gs (o0 X.prog X.w) X.A X.xe none (EP X pins σ Q) acc C) hc B hg ht he h2 λC acc s' hb=>?_
 obtain⟨D,H',m,rfl,hn,I',c1,c2,c3,c4,c5,q⟩:=hb
 exact⟨m,hn,λh' hs'=>⟨.ref D,H',I'.young hs' c1 c2 c3 c4 c5,rfl,q⟩⟩
theorem xy {elt tg iter:Expr}{ifs:List Expr}{scope:Cv}{pos pos' spos:Pos}{i:Nat}{x:Str}(own:List Str)(js:List Nat){wi:TI}{g:TG}{tc:TT}{te:TE}(hN:X.N.Nodup)(hi:X.N[i]? = some x)(hx:Loc X.env.scope x)
  (hc:X.calm=true) (B:Blk X scope own js) (hit:PI X tg iter wi)
  (hg:∀s H C fp,(own++capN X.N js).Nodup->PG (blk X scope (own++capN X.N js) s H C fp) tg g) (ht:∀s H C fp,PTs (blk X scope (own++capN X.N js) s H C fp) ifs tc) (he:∀s H C fp,PE (blk X scope (own++capN X.N js) s H C fp) elt te)
  (hf:X.fn x=true∨X.env.scope.names.lookup x=some .local:=by first | exact .inl rfl | exact .inr rfl | assumption)
  (hw:EE (.ListComp elt [⟨tg,iter,ifs,0⟩] scope pos) (some (.Name x pos')) spos.line X.env=pure true:=by rfl)
  (hs:∀x,B6 iter X.env x=pure x:=by intro _;rfl) :
  PS X (.Assign [.Name x pos'] (.ListComp elt [⟨tg,iter,ifs,0⟩] scope pos) spos) (λD σ H=>rD own.length js wi g tc te σ H λv H'=>D.nx (σ.set i (some v)) H'):=by
 intro pins s σ H D I h
 have hcl:Ee scope X.env=pure (cG scope X.env):=cz λx hx hf=>I.ok.has x.1 (B.free x hx hf)
 rw[Fq _ _ _ _ hw]
 refine bn (B3 (bn ?_))
 show li _ X.A (do let _ <- E1 (.ListComp elt [⟨tg,iter,ifs,0⟩] scope pos) scope X.env _ (Ib []) false (eval iter X.env) (some (Di (.Name x pos') X.env))) _ _ s
 refine bn (thn (Q:=λ_ s'=>SP X pins D .next s') (CI (use:=some (Di (.Name x pos') X.env)) rfl hs hcl B.kind B.names (thn (hit pins s σ H _ I h) λv s1 h1=>thn h1 λitv s2 h2=>?_)) λ_ s' q=>kt (kt q))
 refine ky (Q:=λv H'=>D.nx (σ.set i (some v)) H') (RR:=λacc C=>Gs (o0 X.prog X.w) X.A X.xe (some (Di (.Name x pos') X.env)) (λ_ s'=>SP X pins D .next s') acc C) hc B hg ht he h2 λC acc s' hb=>?_
 obtain⟨l,H',m,rfl,hn,I',c1,c2,c3,c4,c5,q⟩:=hb
 show li _ X.A (Di (.Name x pos') X.env (.ref l)) _ _ _
 refine EW (fh (v:=.ref l) I' hN hi hx rfl (λs3 I3 ⟨a,sb,ha⟩=>?_) hf)
 have ne:C≠a:=by
  rcases ha with z | z
  ·rw[z];exact c3
  ·exact(c4 x a z).symm
 exact⟨m,hn.sameBut sb ne,λh' hs'=>⟨_,H',I3.young hs' c1 c2 c3 c4 c5,q⟩⟩
end
section
variable {X:Cx}
def Dv (j:Int):Prop:=0<j/\j.natAbs.log2<9000
theorem Dv.small {j:Int}(h:0<j)(h2:j<1073741824):Dv j:=⟨h,by
 have e:j.natAbs≠0:=by omega
 have:j.natAbs.log2<30:=(Nat.log2_lt e).mpr (by omega)
 omega⟩
theorem k7:OpR X (DZ .FloorDiv) (rI (λ_ j=>Dv j) λi j=>.int (i / j)):=opI λi j _ _ _ _ _ hc q=>by
 rw[<- Int.fdiv_eq_ediv_of_nonneg i (F5 hc.1)]at q
 exact floordiv_int (JL hc.1) q (.inl (PyProof.noPylong_of_log2 hc.2))
def isaT (t T:String):Option Bool:=if(Value.type t==Value.type T)=true then some true else if PySem.W.kitMeta T=true then(fastBuiltinMro t).map (·.contains (.type T))else none
theorem iJ:isaT "tuple" "tuple" = some true:=by decide +kernel
theorem vk {K:bi}{t T:String}:CT K (.type t) (.type T)=isaT t T:=rfl
theorem zd {x:Str}{T:String}{pos:Pos}(hg:Gl X x)(hm:X.mg x=none)(hv:BU x=some (.type T))(hn:x ≠ "__name__" := by decide)(hd:(x==("__debug__" : Str))=false:=by decide):PE X (.Name x pos) (tC (.ty T)) :=
 xF hg hm hv rfl hn hd
structure OkN (P:wT)(w:Bf)(K:bi)(mg:Str->Option bv)(base:Heap)(k:Nat)(x:Str)(ps:List Str)(sp:Sp):Prop where
 ex:∃f fd,mg x=some (.ref f)/\Bs K (.ref f)=true/\iL K fd ps []/\(∃oc od osl,K.lookup f=some ⟨oc,od,.func fd,osl⟩)/\FnOk P w K mg base CX0 k f fd ps sp
theorem bQ {k:Nat}{x:Str}{ps:List Str}{sp:Sp}{p pos:Pos}{e:Expr}{es:List Expr}{t:TA}(F:OkN X.prog X.w X.K X.mg X.base k x ps sp)(hr:Room k X.A)(ha:PA X (e::es) t)(hg:Gl X x:=by rfl)
  (hdb:(x==("__debug__" : Str))=false:=by decide) (he:Ba (e::es) X.env=(false,eval e X.env)::Ba es X.env:=by rfl) (hpl:(Dd pos (Ba es X.env)).any (·.1)=false:=by rfl) :
  PE X (.Call (.Name x p) (e::es) [] pos) (rE sp [] E0 t):=by
 obtain⟨f,fd,hm,hk,hb,lk,F⟩:=F.ex
 exact sg F hr hg hm hk hb .nil uZ ha hdb he hpl
structure DefN (K:bi)(mg:Str->Option bv)(x:Str)(st:Stmt)(ps:List Str):Prop where
 ex:∃f fd,mg x=some (.ref f)/\Fun K x x st f fd/\∀us:List bv,us.length=ps.length->Hg fd ⟨us,[]⟩=pure (ps.zip us)
theorem DefN.ok {P:wT}{w:Bf}{K:bi}{mg:Str->Option bv}{base:Heap}{x:Str}{st:Stmt}{N ps:List Str}{k:Nat}{sp:Sp}(D:DefN K mg x st ps)(S:aX N ps (ar st))(len:∀vs H Q E,sp vs H Q E->vs.length=ps.length)
  (hbody:∀(f:Addr) (cdv:bv) (A:Bg) (outer:List Env) (s:db) (H:Hp) (vs:List V) (Q:VK) (E:XK),Room k (A.deeper (DW x (ar st) s.heap.objs.size f cdv))->sp vs H Q E ->
   ∃t,PSs (cxOf CX0 P w K mg base N x (ar st) f cdv A outer s H E).nox (bu st) t/\t {nx:=λ_ H'=>Q .non H',rt:=Q} (start N vs) H):OkN P w K mg base (k+1) x ps sp:=by
 obtain⟨f,fd,hm,F,hb⟩:=D.ex
 refine⟨f,fd,hm,F.kp,.all hb,?_,F.ok S len λcdv A outer s H vs Q E hr h=>hbody f cdv A outer s H vs Q E hr h⟩
 obtain⟨oc,od,kV,doc,pm,an,cdv,ct,osl,_,lk,_⟩:=F.ex
 exact⟨oc,od,osl,lk⟩
theorem cg {K:bi}{mg:Str->Option bv}{h:Heap}{x:Str}{st:Stmt}{ps:List Str}{f:Addr}{oc:bv}{od an:Option Addr}{osl:Array (Option bv)}{kV doc pm cdv ct:bv}(KX:K.In h)(G:h.Ns At mg)
  (a:A8 K At x=some (some (.ref f))) (l:K.lookup f=some ⟨oc,od,.func (BH x x (cw st) (bu st) (ar st) .none kV doc pm an cdv ct),osl⟩)
  (c:BO K cdv x=true) (k:Bs K (.ref f)=true)
  (hb:∀(kV doc pm:bv) (an:Option Addr) (cdv ct:bv) (us:List bv),us.length=ps.length->Hg (BH x x (cw st) (bu st) (ar st) .none kV doc pm an cdv ct) ⟨us,[]⟩=pure (ps.zip us)):DefN K mg x st ps :=
 ⟨f,_,BE KX G a,wH l c k,λus hl=>hb kV doc pm an cdv ct us hl⟩
theorem xU {P:wT}{w:Bf}{K:bi}{mg:Str->Option bv}{x p:Str}{st:Stmt}{k:Nat}{fa:Addr}{sp:Sp}(D:DefN K mg x st [p])(hfa:mg x=some (.ref fa))
  (F:∀base:Heap,OkN P w K mg base k x [p] sp):∃fd:D4,(∀(s:db) (v:bv),G7 s fd ⟨[v],[]⟩ [(p,v)])/\∀base:Heap,K.In base->base.Ns At mg->FnOk P w K mg base CX0 k fa fd [p] sp:=by
 obtain⟨f,fd,hm,F0,hb⟩:=D.ex
 obtain⟨oc,od,kV,doc,pm,an,cdv,ct,osl,_,lk,_⟩:=F0.ex
 refine⟨fd,λs v=>.of_eq (hb [v] rfl),λbase _ _=>?_⟩
 obtain⟨f',fd',hm',_,_,⟨oc',od',osl',lk'⟩,G⟩:=(F base).ex
 rw[hfa]at hm'
 cases hm'
 rw[hfa]at hm
 cases hm
 rw[lk]at lk'
 cases lk'
 exact G
end
structure BI (mg:Str->Option bv):Prop where
 len_:mg "len" = none
 range_:mg "range" = none
 isinstance_:mg "isinstance" = none
 int_:mg "int" = none
 bool_:mg "bool" = none
 list_:mg "list" = none
 tuple_:mg "tuple" = none
 str_:mg "str" = none
 sum_:mg "sum" = none
 all_:mg "all" = none
 max_:mg "max" = none
 min_:mg "min" = none
 sorted_:mg "sorted" = none
 set_:mg "set" = none
 zip_:mg "zip" = none
 enumerate_:mg "enumerate" = none
 reversed_:mg "reversed" = none
 dict_:mg "dict" = none
 any_:mg "any" = none
 abs_:mg "abs" = none
 repr_:mg "repr" = none
theorem AD {K:bi}{mg:Str->Option bv}{h:Heap}(KX:K.In h)(G:h.Ns At mg)
  (len_:A8 K At "len" = some none) (range_:A8 K At "range" = some none) (isinstance_:A8 K At "isinstance" = some none) (int_:A8 K At "int" = some none) (bool_:A8 K At "bool" = some none) (list_:A8 K At "list" = some none) (tuple_:A8 K At "tuple" = some none) (str_:A8 K At "str" = some none) (sum_:A8 K At "sum" = some none) (all_:A8 K At "all" = some none) (max_:A8 K At "max" = some none) (min_:A8 K At "min" = some none) (sorted_:A8 K At "sorted" = some none) (set_:A8 K At "set" = some none) (zip_:A8 K At "zip" = some none) (enumerate_:A8 K At "enumerate" = some none) (reversed_:A8 K At "reversed" = some none) (dict_:A8 K At "dict" = some none) (any_:A8 K At "any" = some none) (abs_:A8 K At "abs" = some none) (repr_:A8 K At "repr" = some none):BI mg :=
 ⟨Bc KX G len_,Bc KX G range_,Bc KX G isinstance_,Bc KX G int_,Bc KX G bool_,Bc KX G list_,Bc KX G tuple_,Bc KX G str_,Bc KX G sum_,Bc KX G all_,Bc KX G max_,Bc KX G min_,Bc KX G sorted_,Bc KX G set_,Bc KX G zip_,Bc KX G enumerate_,Bc KX G reversed_,Bc KX G dict_,Bc KX G any_,Bc KX G abs_,Bc KX G repr_⟩
def Grow (t:Addr)(H H':Hp):Prop:=∀b o,H b=some o->b≠t->H' b=some o
theorem Grow.refl {t:Addr}{H:Hp}:Grow t H H:=λ_ _ h _=>h
theorem Grow.upd {t:Addr}{H H':Hp}(g:Grow t H H')(o:HO):Grow t H (L2.upd H' t o):=λb u h n=>by rw[aL n];exact g b u h n
theorem Same.new {H H':Hp}{l:Addr}{o:HO}(s:Same H H')(h:H' l=none):Same H (L2.upd H' l o):=λb u e=>by
 have:=s b u e
 rw[aL (a_ this h)];exact this
theorem Same.seqT {K:bi}{H H':Hp}{a:Addr}{xs:List V}(e:Same H H')(h:SqT K H a xs):SqT K H' a xs:=by
 rcases h with(h | ⟨o,h⟩) | h
 ·exact .inl (.inl (e _ _ h))
 ·exact .inl (.inr ⟨o,e _ _ h⟩)
 ·exact .inr h
theorem Grow.seq {K:bi}{t:Addr}{H H':Hp}{a:Addr}{xs:List V}{kvs:List (Key×V)}(g:Grow t H H')(ht:H t=some (.dK kvs))(h:SqL K H a xs):SqL K H' a xs:=by
 rcases h with(h | ⟨o,h⟩) | h
 ·exact .inl (.inl (g _ _ h (xM h ht (by intro z;cases z))))
 ·exact .inl (.inr ⟨o,g _ _ h (xM h ht (by intro z;cases z))⟩)
 ·exact .inr h
def cD (c:Addr)(sp lf:Int):List (Key×V):=[(Sum.inr "cells",.ref c),(Sum.inr "spot",.int sp),(Sum.inr "left",.int lf)]
theorem yp:¬((Sum.inr ("cells" : Str):Key)=Sum.inr ("spot" : Str)):=by decide +kernel
theorem yq:¬((Sum.inr ("cells" : Str):Key)=Sum.inr ("left" : Str)):=by decide +kernel
theorem uH:¬((Sum.inr ("spot" : Str):Key)=Sum.inr ("left" : Str)):=by decide +kernel
theorem j2 {c:Addr}{sp lf:Int}:valV (cD c sp lf) (Sum.inr "cells" : Key)=some (.ref c):=by
 simp[valV,cD]
theorem ri {c:Addr}{sp lf:Int}:valV (cD c sp lf) (Sum.inr "spot" : Key)=some (.int sp):=by
 simp only[valV,cD,BQ,decide_eq_false yp,decide_true,EV]
theorem rn {c:Addr}{sp lf:Int}:valV (cD c sp lf) (Sum.inr "left" : Key)=some (.int lf):=by
 simp only[valV,cD,BQ,decide_eq_false yq,decide_eq_false uH,decide_true,EV]
theorem kW {c:Addr}{sp lf x:Int}:putK (cD c sp lf) (Sum.inr "left" : Key) (.int x)=cD c sp x:=by
 unfold putK
 rw[if_pos (by simp[cD])]
 simp only[cD,A1,CF,if_neg yq,if_neg uH,if_pos]
theorem uO {c:Addr}{sp lf x:Int}:putK (cD c sp lf) (Sum.inr "spot" : Key) (.int x)=cD c x lf:=by
 unfold putK
 rw[if_pos (by simp[cD])]
 simp only[cD,A1,CF,if_neg yp,if_pos,if_neg (show ¬((Sum.inr ("left" : Str):Key)=Sum.inr ("spot" : Str))from λe=>uH e.symm)]
theorem rj {c:Addr}:eC [] [((Sum.inr ("cells" : Str):Key),V.ref c),((Sum.inr ("spot" : Str):Key),V.int 0),((Sum.inr ("left" : Str):Key),V.int 0)]=cD c 0 0:=by
 simp only[eC,E7,List.foldl_nil]
 have e1:putK ([]:List (Key×V)) (Sum.inr ("cells" : Str)) (V.ref c)=[((Sum.inr ("cells" : Str):Key),V.ref c)]:=by simp[putK]
 have e2:putK [((Sum.inr ("cells" : Str):Key),V.ref c)] (Sum.inr ("spot" : Str)) (V.int 0)=[((Sum.inr ("cells" : Str):Key),V.ref c),((Sum.inr ("spot" : Str):Key),V.int 0)]:=by
  unfold putK
  rw[if_neg (by simp only[CG,Jr,decide_eq_false yp];simp)]
  rfl
 have e3:putK [((Sum.inr ("cells" : Str):Key),V.ref c),((Sum.inr ("spot" : Str):Key),V.int 0)] (Sum.inr ("left" : Str)) (V.int 0)=cD c 0 0:=by
  unfold putK
  rw[if_neg (by simp only[CG,Jr,decide_eq_false yq,decide_eq_false uH];simp)]
  rfl
 rw[e1,e2,e3]
theorem Az {ns:List Int}:cutV (ns.map V.int) none (some 63)=(ns.take 63).map V.int:=by
 unfold cutV
 have e0:HT.sIx (ns.map V.int).length 0 none=0:=rfl
 rw[e0,GG,F3,EL]
 show List.take (HT.sIx _ _ (some ((63:Nat):Int))) _=_
 rw[HT.sIx_nat]
 rcases JH 63 (ns.map V.int).length with h | h
 ·rw[IT h]
 ·rw[IF h,Ca (wl _),Ca h]
end L2
namespace L2
theorem drawn {Q:Int->Hp->Prop}{m x:Int}{H':Hp}(hm:0<m)(k:∀r:Nat,(r:Int)<m->Q (r:Nat) H'):Q (x % m) H':=by
 obtain⟨r,e⟩:=DG (IW x (JL hm))
 have:=Ig x hm
 rw[e]at this ⊢
 exact k r this
theorem oW {y:Int}:-(2^64)<y % 2147483647/\y % 2147483647<2^64:=by omega
theorem dv64:Dv 64:=Dv.small (by decide) (by decide)
end L2
namespace L2
open PySem PySem.Spec PyProof.Rows
theorem uc (a b:Nat):Em (a:Int) (b:Int)=((a &&& b:Nat):Int):=by
 unfold Em
 rw[decide_eq_true (FL a),decide_eq_true (FL b)]
 simp
theorem zi (a b:Nat):Ix (a:Int) (b:Int)=((a ||| b:Nat):Int):=by
 unfold Ix Em Builtin.bitNot
 rw[decide_eq_false (show ¬(0:Int) <= -(a:Int) - 1 by omega),decide_eq_false (show ¬(0:Int) <= -(b:Int) - 1 by omega)]
 have h1:(-(-(a:Int) - 1) - 1).toNat=a:=by omega
 have h2:(-(-(b:Int) - 1) - 1).toNat=b:=by omega
 simp only[h1,h2]
 omega
theorem fZ:∀(a b:Nat),(a ^^^ b)+2*(a &&& b)=a+b:=by
 intro a
 induction a using Nat.strongRecOn with
 | ind a ih =>
  intro b
  by_cases h0:a=0
  ·subst h0;simp
  ·have h:=ih (a / 2) (by omega) (b / 2)
   have e1:(a ^^^ b) / 2=a / 2 ^^^ b / 2:=Nat.xor_div_two
   have e2:(a &&& b) / 2=a / 2 &&& b / 2:=Nat.and_div_two
   have e3:(a ^^^ b) % 2=(a+b) % 2:=by
    have:=DB a b 0
    rw[Dw,Dw,Dw]at this
    rcases BS a with p | p <;> rcases BS b with q | q <;> rcases BS (a ^^^ b)with r | r <;> simp[p,q,r]at this <;> omega
   have e4:(a &&& b) % 2=(a % 2)*(b % 2):=by
    have:=Eh a b 0
    rw[Dw,Dw,Dw]at this
    rcases BS a with p | p <;> rcases BS b with q | q <;> rcases BS (a &&& b)with r | r <;> simp[p,q,r]at this <;> simp[p,q,r]
   rcases BS a with p | p <;> rcases BS b with q | q <;> rw[p,q]at e4 <;> omega
theorem wU (a b:Nat):E8 (a:Int) (b:Int)=((a ^^^ b:Nat):Int):=by
 unfold E8
 rw[zi,uc]
 have h1:(a ||| b)+(a &&& b)=a+b:=by
  have:=fZ a b
  have e:(a ||| b)=(a ^^^ b)+(a &&& b):=by
   have h2:=fZ (a ^^^ b) (a &&& b)
   have h3:(a ^^^ b) &&& (a &&& b)=0:=by
    apply Fl
    intro i
    simp only[Eh,DB,Gh]
    cases a.testBit i <;> cases b.testBit i <;> rfl
   have h4:(a ^^^ b) ^^^ (a &&& b)=a ||| b:=by
    apply Fl
    intro i
    simp only[Eh,DB,Nat.testBit_or]
    cases a.testBit i <;> cases b.testBit i <;> rfl
   rw[h3,h4]at h2
   omega
  omega
 have:=fZ a b
 omega
theorem rL (k:Nat):(1:Int)*(2:Int)^((k:Int).toNat)=((1 <<< k:Nat):Int):=by
 rw[B4,IE,Int.one_mul,J6]
 simp
def xj (K:bi):Sp:=λvs H Q _=>∃(a:Addr) (ns:List Int),vs=[.ref a]/\SqL K H a (ns.map V.int)/\ns.length<=63/\∀H',Q (.bl true) H'
theorem mS:BU "len" = some (.builtin "len"):=by decide +kernel
theorem vM:BU "range" = some (.type "range"):=by decide +kernel
theorem dC:BU "isinstance" = some (.builtin "isinstance"):=by decide +kernel
theorem wK:BU "int" = some (.type "int"):=by decide +kernel
theorem oy:BU "list" = some (.type "list"):=by decide +kernel
theorem eV:BU "tuple" = some (.type "tuple"):=by decide +kernel
theorem Aa:BU "max" = some (.builtin "max"):=by decide +kernel
theorem z_:BU "min" = some (.builtin "min"):=by decide +kernel
theorem mR:BU "sorted" = some (.builtin "sorted"):=by decide +kernel
theorem fD:BU "enumerate" = some (.type "enumerate"):=by decide +kernel
theorem ou:BU "reversed" = some (.type "reversed"):=by decide +kernel
section
variable {X:Cx}{a b e o:Expr}{es:List Expr}{ta tb te to:TE}{t:TA}{pos apos cpos:Pos}(K:bi)
theorem d8 (ha:PE X a ta)(he:∀whole,ER a X.env whole=(do let v <- whole;Dt a.pos;FQ [v] (truthy v)))(hK:X.K=K:=by rfl) :
  PT X a (λσ H Q=>ta σ H λx H'=>∃k,TruV K x H' k/\Q k H'):=by subst hK;exact uP ha he
theorem qk (hK:X.K=K:=by rfl):OpR X (Cu .In) (rIn K false):=by subst hK;exact su
theorem eO (hK:X.K=K:=by rfl):OpR X (Cu .NotIn) (rIn K true):=by subst hK;exact lW
theorem bH (hK:X.K=K:=by rfl):IxR X (rIx K):=by subst hK;exact zP
theorem gC (hK:X.K=K:=by rfl):SlR X (rSlL K):=by subst hK;exact xp
theorem fC (hK:X.K=K:=by rfl):fF X (.builtin "len") (λxs H Q=>∃p ys,xs=[.ref p]/\(SqL K H p ys∨SqT K H p ys)/\Q (.int ys.length) H):=by subst hK;exact mO
theorem qM (hK:X.K=K:=by rfl):fF X (.type "list") (λxs H Q=>∃p ys,xs=[.ref p]/\(SqL K H p ys∨SqT K H p ys)/\∀l,H l=none->Q (.ref l) (upd H l (.lst ys))):=by subst hK;exact mM
theorem c8 (hK:X.K=K:=by rfl):fF X (.type "tuple") (λxs H Q=>∃p ys,xs=[.ref p]/\((SqL K H p ys/\∀l,H l=none->Q (.ref l) (upd H l (.tup ys)))∨(SqT K H p ys/\Q (.ref p) H))):=by subst hK;exact lE
theorem bz {es:List Expr}{k:Nat}{t:TGs}{n:Nat}(hc:X.calm=true)(h:PGs X es t)(hn:(Ef es X.env).length=n:=by rfl)(hst:(Ef es X.env).findIdx? (·.1)=none:=by rfl)(hK:X.K=K:=by rfl) :
  PG X (.Tuple es k pos) (gTup K n t):=by subst hK;exact zb hc h hn hst
variable {name:Str}{T id:String}{r:V->List V->Hp->VK->Prop}
theorem jq (pa:PlainAttrs T)(slot:Slot T name id)(hty:typeOf (.builtin id)=pure (.type "method_descriptor"))(hm:MtR X id r)(ho:PE X o to)(ha:PA X (e::es) t)
  (hbase:E2 o name X.env (eval o X.env)=eval o X.env:=by rfl)
  (hfew:((Dd cpos (Ba (e::es) X.env)).all (λx=>!x.1)&&(FH cpos (Eu [] X.env)).all (λx=>x.1.isSome)&&decide ((e::es).length+([]:List G4).length+(if([]:List G4).isEmpty then 0 else 1)<30))=true:=by rfl)
  (hline:(apos.endLine==cpos.line)=true:=by rfl) (he:Ba (e::es) X.env=(false,eval e X.env)::Ba es X.env:=by rfl) (hpl:(Dd cpos (Ba es X.env)).any (·.1)=false:=by rfl)
  (hK:X.K=K:=by rfl):PE X (.Call (.Attribute o name apos) (e::es) [] cpos) (tBM K T r to t):=by
 subst hK
 exact Ap pa slot hty hm ho ha hbase hfew hline he hpl
end
inductive D where
 | non | bl (b:Bool) | int (i:Int) | str (x:Str) | tup (ds:List D) | lst (ds:List D)
def StT (H:Hp)(a:Addr)(xs:List V):Prop:=H a=some (.tup xs)
theorem StT.sq {K:bi}{H:Hp}{a:Addr}{xs:List V}(h:StT H a xs):SqT K H a xs:=SqT.of h
instance {K:bi} {H:Hp} {a:Addr} {xs:List V}:Coe (StT H a xs) (SqT K H a xs):=⟨StT.sq⟩
def StL (H:Hp)(a:Addr)(xs:List V):Prop:=H a=some (.lst xs)
theorem StL.sq {K:bi}{H:Hp}{a:Addr}{xs:List V}(h:StL H a xs):SqL K H a xs:=SqL.of h
instance {K:bi} {H:Hp} {a:Addr} {xs:List V}:Coe (StL H a xs) (SqL K H a xs):=⟨StL.sq⟩
mutual
def RepD (K:bi)(H:Hp):V->D->Prop
 | v,.non=>v = .non
 | v,.bl b=>v = .bl b
 | v,.int i=>v = .int i
 | v,.str x=>v = .str x
 | v,.tup ds=>∃a vs,v = .ref a/\StT H a vs/\RepDs K H vs ds
 | v,.lst ds=>∃a vs,v = .ref a/\StL H a vs/\RepDs K H vs ds
def RepDs (K:bi)(H:Hp):List V->List D->Prop
 | [],[]=>True
 | v::vs,d::ds=>RepD K H v d/\RepDs K H vs ds
 | _,_=>False
end
mutual
def eqD:D->D->Bool
 | .non,.non=>true
 | .bl a,.bl b=>a==b
 | .bl a,.int b=>(if a then 1 else 0)==b
 | .int a,.bl b=>a==(if b then 1 else 0)
 | .int a,.int b=>a==b
 | .str a,.str b=>a==b
 | .tup ds,.tup es=>eqDs ds es
 | .lst ds,.lst es=>eqDs ds es
 | _,_=>false
def eqDs:List D->List D->Bool
 | [],[]=>true
 | d::ds,e::es=>eqD d e&&eqDs ds es
 | _,_=>false
end
mutual
def D.depth:D->Nat
 | .tup ds=>depths ds+1
 | .lst ds=>depths ds+1
 | _=>0
def depths:List D->Nat
 | []=>0
 | d::ds=>max d.depth (depths ds)
end
section
variable {K:bi}{H H':Hp}
theorem RepDs.length:∀ {vs:List V} {ds:List D},RepDs K H vs ds->vs.length=ds.length
 | [],[],_=>rfl
 | v::vs,d::ds,h=>by
  unfold RepDs at h
  rw[A6,A6,RepDs.length h.2]
 | [],d::ds,h=>by unfold RepDs at h;exact h.elim
 | v::vs,[],h=>by unfold RepDs at h;exact h.elim
theorem RepDs.get:∀ {vs:List V} {ds:List D} {i:Nat} {d:D},RepDs K H vs ds->ds[i]? = some d->∃v,vs[i]? = some v/\RepD K H v d
 | [],[],_,_,_,e=>by simp at e
 | v::vs,d::ds,0,_,h,e=>by
  unfold RepDs at h
  simp at e;subst e
  exact⟨v,rfl,h.1⟩
 | v::vs,d::ds,i+1,_,h,e=>by
  unfold RepDs at h
  obtain⟨u,a,b⟩:=RepDs.get (i:=i) h.2 (by simpa using e)
  exact⟨u,by simpa using a,b⟩
 | [],d::ds,_,_,h,_=>by unfold RepDs at h;exact h.elim
 | v::vs,[],_,_,h,_=>by unfold RepDs at h;exact h.elim
theorem RepDs.getV:∀ {vs:List V} {ds:List D} {i:Nat} {v:V},RepDs K H vs ds->vs[i]? = some v->∃d,ds[i]? = some d/\RepD K H v d
 | [],[],_,_,_,e=>by simp at e
 | v::vs,d::ds,0,_,h,e=>by
  unfold RepDs at h
  simp at e;subst e
  exact⟨d,rfl,h.1⟩
 | v::vs,d::ds,i+1,_,h,e=>by
  unfold RepDs at h
  obtain⟨u,a,b⟩:=RepDs.getV (i:=i) h.2 (by simpa using e)
  exact⟨u,by simpa using a,b⟩
 | [],d::ds,_,_,h,_=>by unfold RepDs at h;exact h.elim
 | v::vs,[],_,_,h,_=>by unfold RepDs at h;exact h.elim
theorem RepDs.append:∀ {vs ws:List V} {ds es:List D},RepDs K H vs ds->RepDs K H ws es->RepDs K H (vs++ws) (ds++es)
 | [],ws,[],es,_,h=>h
 | v::vs,ws,d::ds,es,h,h'=>by
  unfold RepDs at h
  show RepDs K H (v::(vs++ws)) (d::(ds++es))
  unfold RepDs
  exact⟨h.1,RepDs.append h.2 h'⟩
 | [],_,d::ds,_,h,_=>by unfold RepDs at h;exact h.elim
 | v::vs,_,[],_,h,_=>by unfold RepDs at h;exact h.elim
theorem RepDs.one {v:V}{d:D}(h:RepD K H v d):RepDs K H [v] [d]:=by unfold RepDs;exact⟨h,by unfold RepDs;trivial⟩
theorem RepDs.nil:RepDs K H [] []:=by unfold RepDs;trivial
theorem RepDs.cons {v:V}{d:D}{vs:List V}{ds:List D}(h:RepD K H v d)(t:RepDs K H vs ds):RepDs K H (v::vs) (d::ds):=by unfold RepDs;exact⟨h,t⟩
theorem g8:∀ {vs:List V} {ns:List Int},RepDs K H vs (ns.map D.int)↔vs=ns.map V.int
 | [],[]=>by simp[RepDs]
 | v::vs,n::ns=>by
  have ih:=@g8 vs ns
  rw[A1,A1]
  unfold RepDs RepD
  rw[ih]
  constructor
  ·rintro⟨rfl,rfl⟩;rfl
  ·intro h;injection h with h1 h2;exact⟨h1,h2⟩
 | [],n::ns=>by rw[A1];unfold RepDs;simp
 | v::vs,[]=>by rw[CF];unfold RepDs;simp
mutual
theorem RepD.keep (hl:∀a vs,StL H a vs->StL H' a vs)(ht:∀a vs,StT H a vs->StT H' a vs):∀ {v:V} {d:D},RepD K H v d->RepD K H' v d
 | v,.non,h=>by unfold RepD at h ⊢;exact h
 | v,.bl b,h=>by unfold RepD at h ⊢;exact h
 | v,.int i,h=>by unfold RepD at h ⊢;exact h
 | v,.str x,h=>by unfold RepD at h ⊢;exact h
 | v,.tup ds,h=>by
  unfold RepD at h ⊢
  obtain⟨a,vs,e,h1,h2⟩:=h
  exact⟨a,vs,e,ht _ _ h1,RepDs.keep hl ht h2⟩
 | v,.lst ds,h=>by
  unfold RepD at h ⊢
  obtain⟨a,vs,e,h1,h2⟩:=h
  exact⟨a,vs,e,hl _ _ h1,RepDs.keep hl ht h2⟩
theorem RepDs.keep (hl:∀a vs,StL H a vs->StL H' a vs)(ht:∀a vs,StT H a vs->StT H' a vs):∀ {vs:List V} {ds:List D},RepDs K H vs ds->RepDs K H' vs ds
 | [],[],_=>RepDs.nil
 | v::vs,d::ds,h=>by
  unfold RepDs at h ⊢
  exact⟨RepD.keep hl ht h.1,RepDs.keep hl ht h.2⟩
 | [],d::ds,h=>by unfold RepDs at h;exact h.elim
 | v::vs,[],h=>by unfold RepDs at h;exact h.elim
end
theorem RepD.same {v:V}{d:D}(h:RepD K H v d)(s:Same H H'):RepD K H' v d:=h.keep (λ_ _ q=>s _ _ q) λ_ _ q=>s _ _ q
theorem RepDs.same {vs:List V}{ds:List D}(h:RepDs K H vs ds)(s:Same H H'):RepDs K H' vs ds:=h.keep (λ_ _ q=>s _ _ q) λ_ _ q=>s _ _ q
end
mutual
theorem gS:∀d:D,eqD d d=true
 | .non=>by simp[eqD]
 | .bl b=>by simp[eqD]
 | .int i=>by simp[eqD]
 | .str x=>by simp[eqD]
 | .tup ds=>by unfold eqD;exact eqDs_refl ds
 | .lst ds=>by unfold eqD;exact eqDs_refl ds
theorem eqDs_refl:∀ds:List D,eqDs ds ds=true
 | []=>by simp[eqDs]
 | d::ds=>by unfold eqDs;rw[gS d,eqDs_refl ds];rfl
end
section
variable {X:Cx}{pins:List (Addr×Obj)}{σ:St}{H:Hp}{s:db}
mutual
theorem kS (I:Inv X pins σ H s):∀ {v:V} {d e:D},RepD X.K H v d->RepD X.K H v e->d=e
 | v,.non,e,h,h'=>by
  unfold RepD at h;subst h
  cases e <;> (unfold RepD at h';first | rfl | (obtain⟨_,_,z,_⟩:=h';cases z) | cases h')
 | v,.bl b,e,h,h'=>by
  unfold RepD at h;subst h
  cases e <;> (unfold RepD at h';first | (cases h';rfl) | (obtain⟨_,_,z,_⟩:=h';cases z) | cases h')
 | v,.int b,e,h,h'=>by
  unfold RepD at h;subst h
  cases e <;> (unfold RepD at h';first | (cases h';rfl) | (obtain⟨_,_,z,_⟩:=h';cases z) | cases h')
 | v,.str b,e,h,h'=>by
  unfold RepD at h;subst h
  cases e <;> (unfold RepD at h';first | (cases h';rfl) | (obtain⟨_,_,z,_⟩:=h';cases z) | cases h')
 | v,.tup ds,e,h,h'=>by
  unfold RepD at h
  obtain⟨a,vs,rfl,h1,h2⟩:=h
  cases e with
  | tup es =>
   unfold RepD at h'
   obtain⟨b,ws,z,g1,g2⟩:=h'
   cases z
   rw[I.tuple_inj g1.sq h1.sq]at g2
   rw[repDs_inj I h2 g2]
  | lst es =>
   unfold RepD at h'
   obtain⟨b,ws,z,g1,g2⟩:=h'
   cases z
   obtain⟨_,_,⟨o,n,e1,c1,_⟩,_⟩:=I.list (StL.sq g1)
   obtain⟨_,_,⟨o',e2,c2,_⟩,_⟩:=I.tuple h1.sq
   rw[e1]at e2;cases e2
   rw[c1]at c2
   exact absurd c2 (by decide)
  | non=>unfold RepD at h';cases h'
  | bl _=>unfold RepD at h';cases h'
  | int _=>unfold RepD at h';cases h'
  | str _=>unfold RepD at h';cases h'
 | v,.lst ds,e,h,h'=>by
  unfold RepD at h
  obtain⟨a,vs,rfl,h1,h2⟩:=h
  cases e with
  | lst es =>
   unfold RepD at h'
   obtain⟨b,ws,z,g1,g2⟩:=h'
   cases z
   rw[I.list_inj (StL.sq g1) (StL.sq h1)]at g2
   rw[repDs_inj I h2 g2]
  | tup es =>
   unfold RepD at h'
   obtain⟨b,ws,z,g1,g2⟩:=h'
   cases z
   obtain⟨_,_,⟨o,n,e1,c1,_⟩,_⟩:=I.list (StL.sq h1)
   obtain⟨_,_,⟨o',e2,c2,_⟩,_⟩:=I.tuple g1.sq
   rw[e1]at e2;cases e2
   rw[c1]at c2
   exact absurd c2 (by decide)
  | non=>unfold RepD at h';cases h'
  | bl _=>unfold RepD at h';cases h'
  | int _=>unfold RepD at h';cases h'
  | str _=>unfold RepD at h';cases h'
theorem repDs_inj (I:Inv X pins σ H s):∀ {vs:List V} {ds es:List D},RepDs X.K H vs ds->RepDs X.K H vs es->ds=es
 | [],[],[],_,_=>rfl
 | v::vs,d::ds,e::es,h,h'=>by
  unfold RepDs at h h'
  rw[kS I h.1 h'.1,repDs_inj I h.2 h'.2]
 | [],d::ds,_,h,_=>by unfold RepDs at h;exact h.elim
 | v::vs,[],_,h,_=>by unfold RepDs at h;exact h.elim
 | [],_,d::ds,_,h=>by unfold RepDs at h;exact h.elim
 | v::vs,_,[],_,h=>by unfold RepDs at h;exact h.elim
end
end
theorem gR (A:Bg):A.in1.units=A.units+1:=rfl
theorem kr:∀ {ds:List D} {j:Nat} {d:D},ds[j]? = some d->d.depth<=depths ds
 | [],_,_,h=>by simp at h
 | d::ds,0,_,h=>by simp at h;subst h;unfold depths;omega
 | d::ds,j+1,e,h=>by
  have:=kr (ds:=ds) (j:=j) (by simpa using h)
  unfold depths;omega
def mB (ds es:List D)(j:Nat):Bool:=match ds[j]?,es[j]? with
 | some d,some e=>eqD d e
 | _,_=>true
theorem eF:∀ {ds es:List D},ds.length=es.length->(zn ds.length).all (mB ds es)=eqDs ds es
 | [],[],_=>by simp[eqDs]
 | d::ds,e::es,h=>by
  have ih:=eF (ds:=ds) (es:=es) (by simpa using h)
  rw[A6,List.range_succ_eq_map,EN,List.all_map]
  unfold eqDs
  rw[<- ih]
  congr 1
 | [],_::_,h=>by simp at h
 | _::_,[],h=>by simp at h
theorem dh:∀ {ds es:List D},ds.length≠es.length->eqDs ds es=false
 | [],[],h=>absurd rfl h
 | [],_::_,_=>by simp[eqDs]
 | _::_,[],_=>by simp[eqDs]
 | d::ds,e::es,h=>by
  unfold eqDs
  rw[dh (ds:=ds) (es:=es) (by simpa using h),Fh]
section
variable {X:Cx}{pins:List (Addr×Obj)}{σ:St}{H:Hp}{s:db}
theorem iT (I:Inv X pins σ H s){m:Nat}(ih:∀ {A:Bg} {v u:V} {vv uu:bv} {d e:D},d.depth<=m->A.units+m<DY->RelV v vv->RelV u uu->RepD X.K H v d->RepD X.K H u e->Ew A s vv uu (eqD d e)){A:Bg}(hu:A.units+m<DY)
  {vs us:List V} {vvs uus:List bv} {ds es:List D} (hd:depths ds<=m) (rv:Vals vs vvs) (ru:Vals us uus) (hv:RepDs X.K H vs ds) (he:RepDs X.K H us es) :
  ∀j (h1:j<vvs.toArray.size) (h2:j<uus.toArray.size),Ew A s vvs.toArray[j] uus.toArray[j] (mB ds es j):=by
 intro j h1 h2
 rw[sB]at h1 h2
 have l1:=rv.length
 have l2:=ru.length
 have g1:vs[j]? = some vs[j]:=im (by omega)
 have g2:us[j]? = some us[j]:=im (by omega)
 obtain⟨x,ex,rx⟩:=rv.get g1
 obtain⟨y,ey,ry⟩:=ru.get g2
 obtain⟨d,ed,rd⟩:=hv.getV g1
 obtain⟨e,ee,re⟩:=he.getV g2
 rw[im h1]at ex
 rw[im h2]at ey
 cases ex
 cases ey
 have:mB ds es j=eqD d e:=by unfold mB;rw[ed,ee]
 rw[this,Fg,Fg]
 exact ih (A_ (kr ed) hd) hu rx ry rd re
theorem wd (I:Inv X pins σ H s)(n:Nat)(ih:0<n->∀ {A:Bg} {v u:V} {vv uu:bv} {d e:D},d.depth<=n - 1->A.units+(n - 1)<DY->RelV v vv->RelV u uu->RepD X.K H v d->RepD X.K H u e->Ew A s vv uu (eqD d e))
  {A:Bg} {v u:V} {vv uu:bv} {d e:D} (hd:d.depth<=n) (hu:A.units+n<DY) (rv:RelV v vv) (ru:RelV u uu) (hv:RepD X.K H v d) (he:RepD X.K H u e):Gv A s vv uu (eqD d e)/\Ew A s vv uu (eqD d e):=by
 have hu0:A.units<DY:=by omega
 have isL:∀ {a xs},StL H a xs->∃its:List bv,Vals xs its/\s.heap.IsList a its.toArray:=λq=>by
  obtain⟨its,r,p,_⟩:=I.list q.sq
  exact⟨its,r,p.isList⟩
 have isT:∀ {a xs},StT H a xs->∃its:List bv,Vals xs its/\s.heap.IsTuple a its.toArray:=λq=>by
  obtain⟨its,r,p,_⟩:=I.tuple q.sq
  exact⟨its,r,p⟩
 cases d with
 | non =>
  unfold RepD at hv;subst hv;cases rv
  cases e with
  | non=>unfold RepD at he;subst he;cases ru;exact⟨.none_none,.same _⟩
  | bl b=>unfold RepD at he;subst he;cases ru;exact⟨.none_bool _,.none_bool _⟩
  | int b=>unfold RepD at he;subst he;obtain⟨t,rfl⟩:=ru;exact⟨.none_int _ _,.none_int _ _⟩
  | str b=>unfold RepD at he;subst he;obtain⟨t,rfl⟩:=ru;exact⟨.none_str _ _,.none_str _ _⟩
  | tup es=>unfold RepD at he;obtain⟨a,vs,rfl,q,_⟩:=he;cases ru;obtain⟨its,_,q⟩:=isT q;exact⟨.none_tuple q hu0,.none_tuple q hu0⟩
  | lst es=>unfold RepD at he;obtain⟨a,vs,rfl,q,_⟩:=he;cases ru;obtain⟨its,_,q⟩:=isL q;exact⟨.none_list q hu0,.none_list q hu0⟩
 | bl x =>
  unfold RepD at hv;subst hv;cases rv
  cases e with
  | non=>unfold RepD at he;subst he;cases ru;exact⟨.bool_none _,.bool_none _⟩
  | bl b=>unfold RepD at he;subst he;cases ru;exact⟨.bool_bool _ _,.bool_bool _ _⟩
  | int b=>unfold RepD at he;subst he;obtain⟨t,rfl⟩:=ru;exact⟨.bool_int _ _ _,.bool_int _ _ _⟩
  | str b=>unfold RepD at he;subst he;obtain⟨t,rfl⟩:=ru;exact⟨.bool_str _ _ _,.bool_str _ _ _⟩
  | tup es=>unfold RepD at he;obtain⟨a,vs,rfl,q,_⟩:=he;cases ru;obtain⟨its,_,q⟩:=isT q;exact⟨.bool_tuple _ q hu0,.bool_tuple _ q hu0⟩
  | lst es=>unfold RepD at he;obtain⟨a,vs,rfl,q,_⟩:=he;cases ru;obtain⟨its,_,q⟩:=isL q;exact⟨.bool_list _ q hu0,.bool_list _ q hu0⟩
 | int x =>
  unfold RepD at hv;subst hv;obtain⟨t0,rfl⟩:=rv
  cases e with
  | non=>unfold RepD at he;subst he;cases ru;exact⟨.int_none _ _,.int_none _ _⟩
  | bl b=>unfold RepD at he;subst he;cases ru;exact⟨.int_bool _ _ _,.int_bool _ _ _⟩
  | int b=>unfold RepD at he;subst he;obtain⟨t,rfl⟩:=ru;exact⟨.int_int _ _ _ _,.int_int _ _ _ _⟩
  | str b=>unfold RepD at he;subst he;obtain⟨t,rfl⟩:=ru;exact⟨.int_str _ _ _ _,.int_str _ _ _ _⟩
  | tup es=>unfold RepD at he;obtain⟨a,vs,rfl,q,_⟩:=he;cases ru;obtain⟨its,_,q⟩:=isT q;exact⟨.int_tuple _ _ q hu0,.int_tuple _ _ q hu0⟩
  | lst es=>unfold RepD at he;obtain⟨a,vs,rfl,q,_⟩:=he;cases ru;obtain⟨its,_,q⟩:=isL q;exact⟨.int_list _ _ q hu0,.int_list _ _ q hu0⟩
 | str x =>
  unfold RepD at hv;subst hv;obtain⟨t0,rfl⟩:=rv
  cases e with
  | non=>unfold RepD at he;subst he;cases ru;exact⟨.str_none _ _,.str_none _ _⟩
  | bl b=>unfold RepD at he;subst he;cases ru;exact⟨.str_bool _ _ _,.str_bool _ _ _⟩
  | int b=>unfold RepD at he;subst he;obtain⟨t,rfl⟩:=ru;exact⟨.str_int _ _ _ _,.str_int _ _ _ _⟩
  | str b=>unfold RepD at he;subst he;obtain⟨t,rfl⟩:=ru;exact⟨.str_str _ _ _ _,.str_str _ _ _ _⟩
  | tup es=>unfold RepD at he;obtain⟨a,vs,rfl,q,_⟩:=he;cases ru;obtain⟨its,_,q⟩:=isT q;exact⟨.str_tuple _ _ q hu0,.str_tuple _ _ q hu0⟩
  | lst es=>unfold RepD at he;obtain⟨a,vs,rfl,q,_⟩:=he;cases ru;obtain⟨its,_,q⟩:=isL q;exact⟨.str_list _ _ q hu0,.str_list _ _ q hu0⟩
 | tup ds =>
  have hv0:=hv
  unfold RepD at hv
  obtain⟨a,vs,rfl,q,hq⟩:=hv
  cases rv
  obtain⟨its,r1,q1⟩:=isT q
  cases e with
  | non=>unfold RepD at he;subst he;cases ru;exact⟨.tuple_none q1 hu0,.tuple_none q1 hu0⟩
  | bl b=>unfold RepD at he;subst he;cases ru;exact⟨.tuple_bool _ q1 hu0,.tuple_bool _ q1 hu0⟩
  | int b=>unfold RepD at he;subst he;obtain⟨t,rfl⟩:=ru;exact⟨.tuple_int _ _ q1 hu0,.tuple_int _ _ q1 hu0⟩
  | str b=>unfold RepD at he;subst he;obtain⟨t,rfl⟩:=ru;exact⟨.tuple_str _ _ q1 hu0,.tuple_str _ _ q1 hu0⟩
  | lst es=>unfold RepD at he;obtain⟨b,ws,rfl,g,_⟩:=he;cases ru;obtain⟨its2,_,g1⟩:=isL g;exact⟨.tuple_list q1 g1 hu0,.tuple_list q1 g1 hu0⟩
  | tup es =>
   have he0:=he
   unfold RepD at he
   obtain⟨b,ws,rfl,g,hg⟩:=he
   cases ru
   obtain⟨its2,r2,g1⟩:=isT g
   have hd':depths ds+1<=n:=by simpa [D.depth] using hd
   have l1:=r1.length
   have l2:=r2.length
   have m1:=hq.length
   have m2:=hg.length
   have rc:Gv A s (.ref a) (.ref b) (eqD (.tup ds) (.tup es)):=by
    have:=SeqAt.RcAt.tuples (e:=mB ds es) q1 g1 hu0 (iT I (λ{A} {v} {u} {vv} {uu} {d} {e}=>ih (by omega) (A:=A)) (A:=A.in1) (by rw[gR];omega) (m:=n - 1) (by omega) r1 r2 hq hg)
    rw[sB,sB]at this
    unfold eqD
    by_cases hl:ds.length=es.length
    ·have z:(its.length==its2.length)=true:=by rw[beq_iff_eq];omega
     have mm:min its.length its2.length=ds.length:=by omega
     rw[z,Je,mm,eF hl]at this
     exact this
    ·have z:(its.length==its2.length)=false:=by rw[beq_eq_false_iff_ne];omega
     rw[z,Fh]at this
     rw[dh hl]
     exact this
   refine⟨rc,?_⟩
   by_cases hab:a=b
   ·subst hab
    rw[kS I hv0 he0,gS]
    exact .same _
   ·exact .of_refs hab rc
 | lst ds =>
  have hv0:=hv
  unfold RepD at hv
  obtain⟨a,vs,rfl,q,hq⟩:=hv
  cases rv
  obtain⟨its,r1,q1⟩:=isL q
  cases e with
  | non=>unfold RepD at he;subst he;cases ru;exact⟨.list_none q1 hu0,.list_none q1 hu0⟩
  | bl b=>unfold RepD at he;subst he;cases ru;exact⟨.list_bool _ q1 hu0,.list_bool _ q1 hu0⟩
  | int b=>unfold RepD at he;subst he;obtain⟨t,rfl⟩:=ru;exact⟨.list_int _ _ q1 hu0,.list_int _ _ q1 hu0⟩
  | str b=>unfold RepD at he;subst he;obtain⟨t,rfl⟩:=ru;exact⟨.list_str _ _ q1 hu0,.list_str _ _ q1 hu0⟩
  | tup es=>unfold RepD at he;obtain⟨b,ws,rfl,g,_⟩:=he;cases ru;obtain⟨its2,_,g1⟩:=isT g;exact⟨.list_tuple q1 g1 hu0,.list_tuple q1 g1 hu0⟩
  | lst es =>
   have he0:=he
   unfold RepD at he
   obtain⟨b,ws,rfl,g,hg⟩:=he
   cases ru
   obtain⟨its2,r2,g1⟩:=isL g
   have hd':depths ds+1<=n:=by simpa [D.depth] using hd
   have l1:=r1.length
   have l2:=r2.length
   have m1:=hq.length
   have m2:=hg.length
   have rc:Gv A s (.ref a) (.ref b) (eqD (.lst ds) (.lst es)):=by
    unfold eqD
    by_cases hl:ds.length=es.length
    ·have:=SeqAt.RcAt.lists (e:=mB ds es) q1 g1 (by rw[sB,sB];omega) hu0 (iT I (λ{A} {v} {u} {vv} {uu} {d} {e}=>ih (by omega) (A:=A)) (A:=A.in1) (by rw[gR];omega) (m:=n - 1) (by omega) r1 r2 hq hg)
     rw[sB,show its.length=ds.length by omega,eF hl]at this
     exact this
    ·rw[dh hl]
     exact SeqAt.RcAt.lists_lengths q1 g1 (by rw[sB,sB,bne_iff_ne];omega) hu0
   refine⟨rc,?_⟩
   by_cases hab:a=b
   ·subst hab
    rw[kS I hv0 he0,gS]
    exact .same _
   ·exact .of_refs hab rc
theorem rQ (I:Inv X pins σ H s):∀(n:Nat) {A:Bg} {v u:V} {vv uu:bv} {d e:D},d.depth<=n->A.units+n<DY->RelV v vv->RelV u uu->RepD X.K H v d->RepD X.K H u e ->
  Gv A s vv uu (eqD d e)/\Ew A s vv uu (eqD d e):=by
 intro n
 induction n with
 | zero=>exact λhd hu=>wd I 0 (λhlt=>absurd hlt (by omega)) hd hu
 | succ n ih=>exact λhd hu=>wd I (n+1) (λ_ A v u vv uu d e h1 h2 h3 h4 h5 h6=>(ih (A:=A) h1 h2 h3 h4 h5 h6).2) hd hu
end
section
variable {X:Cx}(K:bi)
def rEqD (K:bi):R2:=λx y H Q=>∃d e,RepD K H x d/\RepD K H y e/\d.depth<=60/\Q (.bl (eqD d e)) H
def rNeD (K:bi):R2:=λx y H Q=>∃d e,RepD K H x d/\RepD K H y e/\d.depth<=60/\Q (.bl (!eqD d e)) H
theorem lX (hu:X.A.units+64<DY)(hK:X.K=K:=by rfl):OpR X (Cu .Eq) (rEqD K):=by
 subst hK
 intro pins s σ H x y v u Q I rx ry h
 obtain⟨d,e,hd,he,hz,q⟩:=h
 exact(rQ I 60 hz (by omega) rx ry hd he).1 X.prog X.w _ _ ⟨.bl _,H,I,rfl,q⟩
theorem y1 {pins:List (Addr×Obj)}{σ:St}{H:Hp}{s:db}(I:Inv X pins σ H s){A:Bg}{v u:V}{vv uu:bv}{d e:D}(hd:d.depth<=60)(hu:A.units+61<DY)(rv:RelV v vv)(ru:RelV u uu)(hv:RepD X.K H v d)(he:RepD X.K H u e) :
  SeqAt.RcNeAt A s vv uu (!eqD d e):=by
 have hu0:A.units<DY:=by omega
 have isL:∀ {a xs},StL H a xs->∃its:List bv,Vals xs its/\s.heap.IsList a its.toArray:=λq=>by
  obtain⟨its,r,p,_⟩:=I.list q.sq
  exact⟨its,r,p.isList⟩
 have isT:∀ {a xs},StT H a xs->∃its:List bv,Vals xs its/\s.heap.IsTuple a its.toArray:=λq=>by
  obtain⟨its,r,p,_⟩:=I.tuple q.sq
  exact⟨its,r,p⟩
 cases d with
 | non =>
  unfold RepD at hv;subst hv;cases rv
  cases e with
  | non=>unfold RepD at he;subst he;cases ru;exact .none_none
  | bl b=>unfold RepD at he;subst he;cases ru;exact .none_bool _
  | int b=>unfold RepD at he;subst he;obtain⟨t,rfl⟩:=ru;exact .none_int _ _
  | str b=>unfold RepD at he;subst he;obtain⟨t,rfl⟩:=ru;exact .none_str _ _
  | tup es=>unfold RepD at he;obtain⟨a,vs,rfl,q,_⟩:=he;cases ru;obtain⟨its,_,q⟩:=isT q;exact .none_tuple q hu0
  | lst es=>unfold RepD at he;obtain⟨a,vs,rfl,q,_⟩:=he;cases ru;obtain⟨its,_,q⟩:=isL q;exact .none_list q hu0
 | bl x =>
  unfold RepD at hv;subst hv;cases rv
  cases e with
  | non=>unfold RepD at he;subst he;cases ru;exact .bool_none _
  | bl b=>unfold RepD at he;subst he;cases ru;exact .bool_bool _ _
  | int b=>unfold RepD at he;subst he;obtain⟨t,rfl⟩:=ru;exact .bool_int _ _ _
  | str b=>unfold RepD at he;subst he;obtain⟨t,rfl⟩:=ru;exact .bool_str _ _ _
  | tup es=>unfold RepD at he;obtain⟨a,vs,rfl,q,_⟩:=he;cases ru;obtain⟨its,_,q⟩:=isT q;exact .bool_tuple _ q hu0
  | lst es=>unfold RepD at he;obtain⟨a,vs,rfl,q,_⟩:=he;cases ru;obtain⟨its,_,q⟩:=isL q;exact .bool_list _ q hu0
 | int x =>
  unfold RepD at hv;subst hv;obtain⟨t0,rfl⟩:=rv
  cases e with
  | non=>unfold RepD at he;subst he;cases ru;exact .int_none _ _
  | bl b=>unfold RepD at he;subst he;cases ru;exact .int_bool _ _ _
  | int b=>unfold RepD at he;subst he;obtain⟨t,rfl⟩:=ru;exact .int_int _ _ _ _
  | str b=>unfold RepD at he;subst he;obtain⟨t,rfl⟩:=ru;exact .int_str _ _ _ _
  | tup es=>unfold RepD at he;obtain⟨a,vs,rfl,q,_⟩:=he;cases ru;obtain⟨its,_,q⟩:=isT q;exact .int_tuple _ _ q hu0
  | lst es=>unfold RepD at he;obtain⟨a,vs,rfl,q,_⟩:=he;cases ru;obtain⟨its,_,q⟩:=isL q;exact .int_list _ _ q hu0
 | str x =>
  unfold RepD at hv;subst hv;obtain⟨t0,rfl⟩:=rv
  cases e with
  | non=>unfold RepD at he;subst he;cases ru;exact .str_none _ _
  | bl b=>unfold RepD at he;subst he;cases ru;exact .str_bool _ _ _
  | int b=>unfold RepD at he;subst he;obtain⟨t,rfl⟩:=ru;exact .str_int _ _ _ _
  | str b=>unfold RepD at he;subst he;obtain⟨t,rfl⟩:=ru;exact .str_str _ _ _ _
  | tup es=>unfold RepD at he;obtain⟨a,vs,rfl,q,_⟩:=he;cases ru;obtain⟨its,_,q⟩:=isT q;exact .str_tuple _ _ q hu0
  | lst es=>unfold RepD at he;obtain⟨a,vs,rfl,q,_⟩:=he;cases ru;obtain⟨its,_,q⟩:=isL q;exact .str_list _ _ q hu0
 | tup ds =>
  unfold RepD at hv
  obtain⟨a,vs,rfl,q,hq⟩:=hv
  cases rv
  obtain⟨its,r1,q1⟩:=isT q
  cases e with
  | non=>unfold RepD at he;subst he;cases ru;exact .tuple_none q1 hu0
  | bl b=>unfold RepD at he;subst he;cases ru;exact .tuple_bool _ q1 hu0
  | int b=>unfold RepD at he;subst he;obtain⟨t,rfl⟩:=ru;exact .tuple_int _ _ q1 hu0
  | str b=>unfold RepD at he;subst he;obtain⟨t,rfl⟩:=ru;exact .tuple_str _ _ q1 hu0
  | lst es=>unfold RepD at he;obtain⟨b,ws,rfl,g,_⟩:=he;cases ru;obtain⟨its2,_,g1⟩:=isL g;exact .tuple_list q1 g1 hu0
  | tup es =>
   unfold RepD at he
   obtain⟨b,ws,rfl,g,hg⟩:=he
   cases ru
   obtain⟨its2,r2,g1⟩:=isT g
   have hd':depths ds+1<=60:=by simpa [D.depth] using hd
   have l1:=r1.length
   have l2:=r2.length
   have m1:=hq.length
   have m2:=hg.length
   have:=JR (e:=mB ds es) q1 g1 hu0 (iT I (λ{A} {v} {u} {vv} {uu} {d} {e} a1 a2 a3 a4 a5 a6=>(rQ I 60 a1 a2 a3 a4 a5 a6).2) (A:=A.in1) (by rw[gR];omega) (m:=60) (by omega) r1 r2 hq hg)
   rw[sB,sB]at this
   unfold eqD
   by_cases hl:ds.length=es.length
   ·have z:(its.length==its2.length)=true:=by rw[beq_iff_eq];omega
    have mm:min its.length its2.length=ds.length:=by omega
    rw[z,Je,mm,eF hl]at this
    exact this
   ·have z:(its.length==its2.length)=false:=by rw[beq_eq_false_iff_ne];omega
    rw[z,Fh]at this
    rw[dh hl]
    exact this
 | lst ds =>
  unfold RepD at hv
  obtain⟨a,vs,rfl,q,hq⟩:=hv
  cases rv
  obtain⟨its,r1,q1⟩:=isL q
  cases e with
  | non=>unfold RepD at he;subst he;cases ru;exact .list_none q1 hu0
  | bl b=>unfold RepD at he;subst he;cases ru;exact .list_bool _ q1 hu0
  | int b=>unfold RepD at he;subst he;obtain⟨t,rfl⟩:=ru;exact .list_int _ _ q1 hu0
  | str b=>unfold RepD at he;subst he;obtain⟨t,rfl⟩:=ru;exact .list_str _ _ q1 hu0
  | tup es=>unfold RepD at he;obtain⟨b,ws,rfl,g,_⟩:=he;cases ru;obtain⟨its2,_,g1⟩:=isT g;exact .list_tuple q1 g1 hu0
  | lst es =>
   unfold RepD at he
   obtain⟨b,ws,rfl,g,hg⟩:=he
   cases ru
   obtain⟨its2,r2,g1⟩:=isL g
   have hd':depths ds+1<=60:=by simpa [D.depth] using hd
   have l1:=r1.length
   have l2:=r2.length
   have m1:=hq.length
   have m2:=hg.length
   unfold eqD
   by_cases hl:ds.length=es.length
   ·have:=JT (e:=mB ds es) q1 g1 (by rw[sB,sB];omega) hu0 (iT I (λ{A} {v} {u} {vv} {uu} {d} {e} a1 a2 a3 a4 a5 a6=>(rQ I 60 a1 a2 a3 a4 a5 a6).2) (A:=A.in1) (by rw[gR];omega) (m:=60) (by omega) r1 r2 hq hg)
    rw[sB,show its.length=ds.length by omega,eF hl]at this
    exact this
   ·rw[dh hl]
    exact JS q1 g1 (by rw[sB,sB,bne_iff_ne];omega) hu0
theorem wu (hu:X.A.units+64<DY)(hK:X.K=K:=by rfl):OpR X (Cu .NotEq) (rNeD K):=by
 subst hK
 intro pins s σ H x y v u Q I rx ry h
 obtain⟨d,e,hd,he,hz,q⟩:=h
 exact y1 I hz (by omega) rx ry hd he X.prog X.w _ _ ⟨.bl _,H,I,rfl,q⟩
end
abbrev nP (ks:List Nat):List V:=ks.map λj=>V.int (j:Nat)
abbrev aE (ks:List Nat):List D:=ks.map λj=>D.int (j:Nat)
theorem xt {K:bi}{H:Hp}:∀ {vs:List V} {ks:List Nat},RepDs K H vs (aE ks)↔vs=nP ks:=by
 intro vs ks
 have:=@g8 K H vs (ks.map λj=>((j:Nat):Int))
 rw[BF,BF]at this
 exact this
section
variable {X:Cx}
theorem oq:fF X (.type "range") (λxs H Q=>∃j:Int,xs=[.int j]/\∀p,H p=none->Q (.ref p) (upd H p (.rng 0 j))):=by
 intro pins s σ H xs us Q I r h
 obtain⟨j,rfl,q⟩:=h
 obtain⟨u,rfl,t,rfl⟩:=iC r
 refine call_range_1 ?_
 exact⟨.ref s.heap.objs.size,upd H s.heap.objs.size (.rng 0 j),I.laid (λb u e=>dL _ e) (wl _) ⟨_,_,_,wv _ rfl⟩,rfl,q _ (I.hok.fresh (wl _))⟩
theorem qL (hc:X.calm=true):fF X (.type "list") (λxs H Q=>∃(p:Addr) (n:Nat),xs=[.ref p]/\H p=some (.rng 0 (n:Nat))/\n<=1000000/\∀l,H l=none->Q (.ref l) (upd H l (.lst (nP (zn n))))):=by
 intro pins s σ H xs us Q I r h
 obtain⟨p,n,rfl,hp,hn,q⟩:=h
 obtain⟨u,rfl,ru⟩:=iC r
 cases ru
 obtain⟨t,u,v,e⟩:=(show cA X.prog X.w H s.heap p (.rng 0 (n:Nat))from I.hok p _ hp)
 have hsz:FX 0 (n:Int) 1=(n:Nat):=by rw[rangeSize_one];split <;> omega
 refine call_list_range (I.ok.hd hc) (show IsRange s.heap p 0 n 1 t u v from e) (small_one (by omega) (by omega) (by omega) (by omega)) hsz (A_ hn (by decide)) λh' tk acc c hk hl hi=>?_
 have hv:Vals (nP (zn n)) acc.toList:=by
  obtain⟨h1,h2⟩:=hi
  have gen:∀(m:Nat) (us:List bv),us.length=m->(∀(i:Nat) (v:bv),us[i]? = some v->∃t,v=Value.int (0+(i:Int)*1) t)->Vals (nP (zn m)) us:=by
   intro m
   induction m with
   | zero=>intro us e _;cases us with | nil=>exact .nil | cons _ _=>cases e
   | succ m ih =>
    intro us e hx
    have e1:us=us.take m++[us[m]]:=by
     rw[List.take_append_getElem]
     exact(Ca (by omega)).symm
    rw[e1,CL]
    unfold nP
    rw[Br]
    refine Vals.append (ih _ (by rw[Bz];omega) λi v hv=>?_) ?_
    ·rw[List.getElem?_take]at hv
     split at hv
     ·exact hx i v hv
     ·cases hv
    ·obtain⟨t,ht⟩:=hx m us[m] (im (by omega))
     rw[ht]
     exact .cons ⟨t,by simp⟩ .nil
  refine gen n acc.toList (by simpa using h1) λi v hv=>?_
  have hv':acc[i]? = some v:=by simpa using hv
  exact h2 i v hv'
 refine⟨.ref s.heap.objs.size,upd H s.heap.objs.size (.lst (nP (zn n))),I.laid (t':=tk) (λb o e=>hk b o e) (wl _) ?_,rfl,q _ (I.hok.fresh (wl _))⟩
 refine⟨?_,acc.toList,c,hv,by simpa using hl⟩
 rw[lw,Cy]
 exact A_ hn (by decide)
end
section
variable {X:Cx}
theorem ny {x:Str}{v:V}{pos:Pos}(h:∃u,X.mg x=some u/\RelV v u)(hg:Gl X x)(hd:(x==("__debug__" : Str))=false:=by decide):PE X (.Name x pos) (tC v):=by
 obtain⟨u,hm,r⟩:=h
 exact dq hg hm r hd
end
structure Net where
 m:Nat
 js:List (Nat×Nat)
 os:List Nat
abbrev cj (p:Nat×Nat):D:=.tup [.int (p.1:Nat),.int (p.2:Nat)]
def netD (N:Net):D:=.tup [.int (N.m:Nat),.tup (N.js.map cj),.tup (aE N.os)]
def bh (rows:List Nat)(p:Nat×Nat):List Nat:=rows++[rows.getD p.1 0 ^^^ rows.getD p.2 0]
def aP (m:Nat):List Nat:=(zn m).map λk=>1 <<< k
def cb (N:Net):List Nat:=N.js.foldl bh (aP N.m)
def okIx:Nat->List (Nat×Nat)->Prop
 | _,[]=>True
 | n,p::r=>p.1<p.2/\p.2<n/\okIx (n+1) r
def okJs:List Nat->List (Nat×Nat)->Prop
 | _,[]=>True
 | rows,p::r=>p.1<p.2/\p.2<rows.length/\rows.getD p.1 0≠rows.getD p.2 0/\okJs (bh rows p) r
structure vV (N:Net):Prop where
 m1:1<=N.m
 m12:N.m<=12
 jl:N.js.length<=132
 js:okJs (aP N.m) N.js
 o1:1<=N.os.length
 o24:N.os.length<=24
 os:∀o∈N.os,o<N.m+N.js.length
theorem iO (rows:List Nat)(p:Nat×Nat):(bh rows p).length=rows.length+1:=by simp[bh]
theorem sG:∀ {js:List (Nat×Nat)} {rows:List Nat},okJs rows js->okIx rows.length js
 | [],_,_=>trivial
 | p::r,rows,h=>by
  obtain⟨h1,h2,_,h4⟩:=h
  have:=sG h4
  rw[iO]at this
  exact⟨h1,h2,this⟩
theorem iR:∀ {js:List (Nat×Nat)} {n i:Nat} {p:Nat×Nat},okIx n js->js[i]? = some p->p.1<p.2/\p.2<n+i
 | [],_,_,_,_,h=>by simp at h
 | q::r,n,0,p,h,e=>by
  simp at e;subst e
  exact⟨h.1,by have:=h.2.1;omega⟩
 | q::r,n,i+1,p,h,e=>by
  have:=iR (n:=n+1) (i:=i) (p:=p) h.2.2 (by simpa using e)
  exact⟨this.1,by omega⟩
theorem pC:∀ {js:List (Nat×Nat)} {rows:List Nat} {i:Nat} {p:Nat×Nat},okJs rows js->js[i]? = some p ->
  ((js.take i).foldl bh rows).getD p.1 0≠((js.take i).foldl bh rows).getD p.2 0
 | [],_,_,_,_,h=>by simp at h
 | q::r,rows,0,p,h,e=>by
  simp at e;subst e
  exact h.2.2.1
 | q::r,rows,i+1,p,h,e=>pC (js:=r) (rows:=bh rows q) (i:=i) (p:=p) h.2.2.2 (by simpa using e)
theorem lq (js:List (Nat×Nat)):∀rows:List Nat,(js.foldl bh rows).length=rows.length+js.length:=by
 induction js with
 | nil=>intro rows;rfl
 | cons p r ih=>intro rows;rw[E7,ih,iO,A6];omega
theorem my {js:List (Nat×Nat)}{i:Nat}{p:Nat×Nat}(h:js[i]? = some p)(rows:List Nat):(js.take (i+1)).foldl bh rows=bh ((js.take i).foldl bh rows) p:=by
 rw[B2,h,Dz,FU]
 rfl
theorem gg (m:Nat):(aP m).length=m:=by simp[aP]
theorem kR (N:Net):(cb N).length=N.m+N.js.length:=by unfold cb;rw[lq,gg]
def tyD:D->String
 | .non => "NoneType" | .bl _ => "bool" | .int _ => "int" | .str _ => "str" | .tup _ => "tuple" | .lst _ => "list"
theorem ua (K:bi){X:Cx}(hK:X.K=K:=by rfl):fF X (.builtin "isinstance") (λxs H Q=>∃x d T b,xs=[x,.ty T]/\RepD K H x d/\isaT (tyD d) T=some b/\Q (.bl b) H):=by
 subst hK
 intro pins s σ H xs us Q I r h
 obtain⟨x,d,T,b,rfl,hd,e,q⟩:=h
 cases r with
 | cons r1 rr =>
  cases rr with
  | cons r2 rr =>
   cases rr
   cases (show _=Value.type T from r2)
   have e':∀ {t:String},tyD d=t->CT X.K (.type t) (.type T)=some b:=λ{t} z=>by rw[<- z];exact vk.trans e
   have fin:∀tk,EP X pins σ Q (.bool b) {s with toks:=tk}:=λtk=>⟨.bl b,H,I.tok tk,rfl,q⟩
   cases d with
   | non=>unfold RepD at hd;subst hd;exact gQ I r1 .non (e' rfl) fin
   | bl y=>unfold RepD at hd;subst hd;exact gQ I r1 (.bl y) (e' rfl) fin
   | int y=>unfold RepD at hd;subst hd;exact gQ I r1 (.int y) (e' rfl) fin
   | str y=>unfold RepD at hd;subst hd;exact gQ I r1 (.str y) (e' rfl) fin
   | tup ds =>
    unfold RepD at hd
    obtain⟨a,vs,rfl,hq,_⟩:=hd
    cases r1
    obtain⟨its,_,⟨o,h1,h2,_⟩,_⟩:=I.tuple hq.sq
    exact BY Hk I.kIn ⟨o,h1,h2⟩ (e' rfl) (λz=>nomatch z) fin
   | lst ds =>
    unfold RepD at hd
    obtain⟨a,vs,rfl,hq,_⟩:=hd
    cases r1
    obtain⟨its,_,⟨o,n,h1,h2,_⟩,_⟩:=I.list (StL.sq hq)
    exact BY Fu I.kIn ⟨o,h1,h2⟩ (e' rfl) (λz=>nomatch z) fin
inductive Sv where
 | un | vl (d:D) | ow (ds:List D) | tp (n:Nat) | dk (kvs:List (Key×D)) | dt (kvs:List (List Key×D)) | ex (C:Addr) (fs:Option (List (Str×D))) | sc (ns:List Int) | px (d:D) (C:Addr) (fs:Option (List (Str×D))) | xl (es:List (Addr×Option (List (Str×D)))) | ob (C:Addr) (fs:List (Str×D)) | ll (xss:List (List D)) | ds (C:Addr) (n w:List (Key×D))
def Sv.own:Sv->Bool
 | .ow _=>true
 | .tp _=>true
 | .dk _=>true
 | .dt _=>true
 | .ll _=>true
 | .ds _ _ _=>true
 | _=>false
abbrev En:=List Sv
inductive R where
 | d (d:D) | o (i:Nat) | n (s:Sv) | t (n:String) | x (s:Sv)
abbrev R.f (ds:List D):R:=.n (.ow ds)
def gt:En->Nat->Sv
 | [],_=>.un
 | s::_,0=>s
 | _::r,n+1=>gt r n
def pt:En->Nat->Sv->En
 | [],_,_=>[]
 | _::r,0,s=>s::r
 | x::r,n+1,s=>x::pt r n s
theorem fk:∀(ρ:En) (i:Nat) (s:Sv),(pt ρ i s).length=ρ.length
 | [],_,_=>rfl
 | _::_,0,_=>rfl
 | x::r,n+1,s=>by simp[pt,fk r n s]
theorem bT:∀(ρ:En) (i j:Nat) (s:Sv),i≠j->gt (pt ρ i s) j=gt ρ j
 | [],_,_,_,_=>rfl
 | _::_,0,0,_,h=>absurd rfl h
 | _::_,0,j+1,_,_=>rfl
 | x::r,i+1,0,s,_=>rfl
 | x::r,i+1,j+1,s,h=>bT r i j s (by omega)
theorem jW:∀(ρ:En) (i:Nat) (s:Sv),i<ρ.length->gt (pt ρ i s) i=s
 | [],_,_,h=>by simp at h
 | _::_,0,_,_=>rfl
 | x::r,i+1,s,h=>jW r i s (by simpa using h)
theorem kj:∀(ρ:En) (i:Nat),ρ.length<=i->gt ρ i = .un
 | [],_,_=>rfl
 | x::r,0,h=>by simp at h
 | x::r,i+1,h=>kj r i (by simpa using h)
theorem jt {ρ:En}{i:Nat}(h:(gt ρ i).own=true):i<ρ.length:=by
 rcases Bh i ρ.length with q | q
 ·exact q
 ·rw[kj ρ i q]at h;cases h
def bE (σ:St)(ρ:En)(a:Addr):Prop:=∃i,(gt ρ i).own=true/\σ[i]? = some (some (.ref a))
open Classical in
noncomputable def hid (H:Hp)(S:Addr->Prop):Hp:=λa=>if S a then none else H a
theorem dB {H:Hp}{S:Addr->Prop}{a:Addr}{o:HO}:hid H S a=some o↔¬S a/\H a=some o:=by
 unfold hid
 split
 ·rename_i h;simp[h]
 ·rename_i h;simp[h]
theorem eD {H:Hp}{S:Addr->Prop}{a:Addr}{o:HO}(h:¬S a)(e:H a=some o):hid H S a=some o:=dB.mpr ⟨h,e⟩
theorem bc {H H':Hp}{S S':Addr->Prop}(h:∀a o,H a=some o->¬S a->H' a=some o/\¬S' a):Same (hid H S) (hid H' S'):=λa o e=>by
 obtain⟨n,e⟩:=dB.mp e
 obtain⟨e',n'⟩:=h a o e n
 exact eD n' e'
theorem bV {H:Hp}{S:Addr->Prop}:Same (hid H S) H:=λa o e=>(dB.mp e).2
structure Fr where
 H0:Hp
 Z:Addr->Prop
 M:Addr->Prop
 I:Nat->Addr->Prop
 P:Nat->Addr->Prop
def Fr.pin (F:Fr)(i:Nat)(a:Addr):Prop:=F.I i a∨F.P i a
def hs (F:Fr)(σ:St)(ρ:En):Addr->Prop:=λa=>F.Z a∨bE σ ρ a
def exP (e C:Addr)(od:Option Addr):Heap->Prop:=λh=>∃oe vs,h.get? e=some oe/\oe.cls = .ref C/\oe.dict=od/\oe.data = .fields vs
def exD (K:bi)(Hh:Hp):Option (List (Str×D))->Option Addr->Prop
 | none,none=>True
 | some fs,some dx=>∃ks,Hh dx=some (.xd ks)/\ks.map Bd=fs.map Bd/\RepDs K Hh (ks.map Bp) (fs.map Bp)
 | _,_=>False
theorem exD.same {K:bi}{Hh Hh':Hp}:∀ {fs:Option (List (Str×D))} {od:Option Addr},exD K Hh fs od->Same Hh Hh'->exD K Hh' fs od
 | none,none,h,_=>h
 | some fs,some dx,⟨ks,h1,h2,h3⟩,g=>⟨ks,g _ _ h1,h2,h3.same g⟩
 | none,some _,h,_=>h.elim
 | some _,none,h,_=>h.elim
def Exs (K:bi)(Hh:Hp):List V->List (Addr×Option (List (Str×D)))->Prop
 | [],[]=>True
 | x::vs,c::es=>(∃e od,x = .ref e/\Hh e=some (.ext (exP e c.1 od))/\exD K Hh c.2 od)/\Exs K Hh vs es
 | _,_=>False
theorem Exs.same {K:bi}{Hh Hh':Hp}:∀ {vs:List V} {es:List (Addr×Option (List (Str×D)))},Exs K Hh vs es->Same Hh Hh'->Exs K Hh' vs es
 | [],[],h,_=>h
 | x::vs,c::es,⟨⟨e,od,h1,h2,h3⟩,h4⟩,g=>⟨⟨e,od,h1,g _ _ h2,h3.same g⟩,Exs.same h4 g⟩
 | [],_::_,h,_=>h.elim
 | _::_,[],h,_=>h.elim
def LlP (a:Addr)(bs:List Addr)(vss:List (List V)):wT->Bf->Heap->Prop:=λ_ _ h=>bs.length<=xL/\bs.Nodup/\(∃n,h.get? a=some {cls:=.type "list",data:=.seq (bs.map Value.ref).toArray n})/\vss.length=bs.length /\
 ∀(k:Nat) (b:Addr) (vs:List V),bs[k]? = some b->vss[k]? = some vs->vs.length<=xL/\∃(its:List bv) (n:Nat),Vals vs its/\h.get? b=some {cls:=.type "list",data:=.seq its.toArray n}
def vU (K:bi)(H:Hp)(vss:List (List V))(dss:List (List D)):Prop:=vss.length=dss.length/\∀(k:Nat) (vs:List V) (ds:List D),vss[k]? = some vs->dss[k]? = some ds->RepDs K H vs ds
theorem vU.same {K:bi}{H H':Hp}{vss:List (List V)}{dss:List (List D)}(h:vU K H vss dss)(g:Same H H'):vU K H' vss dss:=⟨h.1,λk vs ds a b=>(h.2 k vs ds a b).same g⟩
def DsP (x C dx d1 d2:Addr)(f1 f2:Str)(k1 k2:List (Key×V)):wT->Bf->Heap->Prop:=λP w h=>dx≠x/\d1≠x/\d2≠x/\dx≠d1/\dx≠d2/\d1≠d2/\cA P w (λb=>if b=dx then some (.own x)else none) h x (.ins C dx [(f1,.ref d1),(f2,.ref d2)]) /\
 cA P w (λ_=>none) h d1 (.dK k1)/\cA P w (λ_=>none) h d2 (.dK k2)
def SvOk (K:bi)(Hh H:Hp)(v:Option (Option V)):Sv->Prop
 | .xl es=>∃l vs,v=some (some (.ref l))/\Hh l=some (.lst vs)/\Exs K Hh vs es
 | .ob C fs=>∃a dx ks,v=some (some (.ref a))/\Hh a=some (.ins C dx ks)/\ks.map Bd=fs.map Bd/\RepDs K Hh (ks.map Bp) (fs.map Bp)
 | .ll xss=>∃l bs vss,v=some (some (.ref l))/\H l=some (.big bs (LlP l bs vss))/\vU K Hh vss xss
 | .ds C n w=>∃x dx d1 d2 k1 k2,v=some (some (.ref x))/\H x=some (.big [dx,d1,d2] (DsP x C dx d1 d2 "nets" "wishes" k1 k2))/\k1.map Bd=n.map Bd/\RepDs K Hh (k1.map Bp) (n.map Bp)/\k2.map Bd=w.map Bd/\RepDs K Hh (k2.map Bp) (w.map Bp)
 | .px d C fs=>∃p x e od,v=some (some (.ref p))/\Hh p=some (.tup [x,.ref e])/\RepD K Hh x d/\Hh e=some (.ext (exP e C od))/\exD K Hh fs od
 | .sc ns=>∃c,v=some (some (.ref c))/\SqL K Hh c (List.map V.int ns)
 | .ex C fs=>∃e od,v=some (some (.ref e))/\Hh e=some (.ext (exP e C od))/\exD K Hh fs od
 | .un=>True
 | .vl d=>∃x,v=some (some x)/\RepD K Hh x d
 | .ow ds=>∃l vs,v=some (some (.ref l))/\H l=some (.lst vs)/\RepDs K Hh vs ds
 | .tp n=>∃t c ns sp lf,v=some (some (.ref t))/\H t=some (.dK (cD c sp lf))/\SqL K Hh c (List.map V.int ns)/\0<=sp/\sp<=n/\0<=lf
 | .dk kvs=>∃t ks,v=some (some (.ref t))/\H t=some (.dK ks)/\ks.map Bd=kvs.map Bd/\RepDs K Hh (ks.map Bp) (kvs.map Bp)
 | .dt kvs=>∃t ks,v=some (some (.ref t))/\H t=some (.dT ks)/\ks.map Bd=kvs.map Bd/\RepDs K Hh (ks.map Bp) (kvs.map Bp)
theorem SvOk.keep {K:bi}{Hh Hh' H H':Hp}{v:Option (Option V)}{s:Sv}(h:SvOk K Hh H v s)(g:Same Hh Hh')(k:∀l o,s.own=true->v=some (some (.ref l))->H l=some o->H' l=some o):SvOk K Hh' H' v s:=by
 cases s with
 | un=>trivial
 | vl d=>obtain⟨x,e,r⟩:=h;exact⟨x,e,r.same g⟩
 | ow ds=>obtain⟨l,vs,e,a,r⟩:=h;exact⟨l,vs,e,k _ _ rfl e a,r.same g⟩
 | tp n=>obtain⟨t,c,ns,sp,lf,e,a,b,r⟩:=h;exact⟨t,c,ns,sp,lf,e,k _ _ rfl e a,g.seq b,r⟩
 | dk kvs=>obtain⟨t,ks,e,a,b,r⟩:=h;exact⟨t,ks,e,k _ _ rfl e a,b,r.same g⟩
 | dt kvs=>obtain⟨t,ks,e,a,b,r⟩:=h;exact⟨t,ks,e,k _ _ rfl e a,b,r.same g⟩
 | ex C fs=>obtain⟨t,od,e,a,b⟩:=h;exact⟨t,od,e,g _ _ a,b.same g⟩
 | sc ns=>obtain⟨c,e,a⟩:=h;exact⟨c,e,g.seq a⟩
 | px d C fs=>obtain⟨p,x,e,od,a,b,c,d',e'⟩:=h;exact⟨p,x,e,od,a,g _ _ b,c.same g,g _ _ d',e'.same g⟩
 | xl es=>obtain⟨p,vs,a,b,c⟩:=h;exact⟨p,vs,a,g _ _ b,c.same g⟩
 | ob C fs=>obtain⟨p,dx,ks,a,b,c,d⟩:=h;exact⟨p,dx,ks,a,g _ _ b,c,d.same g⟩
 | ll xss=>obtain⟨l,bs,vss,e,a,r⟩:=h;exact⟨l,bs,vss,e,k _ _ rfl e a,r.same g⟩
 | ds C n w=>obtain⟨x,dx,d1,d2,k1,k2,e,a,r1,r2,r3,r4⟩:=h;exact⟨x,dx,d1,d2,k1,k2,e,k _ _ rfl e a,r1,r2.same g,r3,r4.same g⟩
theorem SvOk.alive {K:bi}{Hh H:Hp}{v:Option (Option V)}{s:Sv}(h:SvOk K Hh H v s)(ho:s.own=true):∃l o,v=some (some (.ref l))/\H l=some o:=by
 cases s with
 | un=>cases ho
 | vl d=>cases ho
 | ow ds=>obtain⟨l,vs,e,a,r⟩:=h;exact⟨l,_,e,a⟩
 | tp n=>obtain⟨t,c,ns,sp,lf,e,a,b,r⟩:=h;exact⟨t,_,e,a⟩
 | dk kvs=>obtain⟨t,ks,e,a,b,r⟩:=h;exact⟨t,_,e,a⟩
 | dt kvs=>obtain⟨t,ks,e,a,b,r⟩:=h;exact⟨t,_,e,a⟩
 | ex C fs=>cases ho
 | sc ns=>cases ho
 | px d C fs=>cases ho
 | xl es=>cases ho
 | ob C fs=>cases ho
 | ll xss=>obtain⟨l,bs,vss,e,a,r⟩:=h;exact⟨l,_,e,a⟩
 | ds C n w=>obtain⟨x,dx,d1,d2,k1,k2,e,a,r⟩:=h;exact⟨x,_,e,a⟩
def Nt (H:Hp)(a:Addr):Prop:=H a≠none/\∀xs,H a≠some (.tup xs)
theorem wy {H:Hp}{a l:Addr}{o:HO}(al:a≠l)(h:Nt H a):Nt (upd H l o) a:=by unfold Nt;rw[aL al];exact h
structure Rel (K:bi)(F:Fr)(σ:St)(ρ:En)(H:Hp):Prop where
 len:σ.length=ρ.length
 fr:∀a o,F.H0 a=some o->¬F.M a->H a=some o
 zl:∀a,F.Z a->Nt H a
 zo:∀a,bE σ ρ a->¬F.Z a
 ow:∀i a,(gt ρ i).own=true->σ[i]? = some (some (.ref a))->(F.I i a/\F.M a)∨F.H0 a=none
 mi:∀i a,F.pin i a->σ[i]? = some (some (.ref a))
 ml:∀a,F.M a->F.H0 a≠none
 ma:∀a,F.M a->H a≠none
 nd:∀i j a,(gt ρ i).own=true->(gt ρ j).own=true->σ[i]? = some (some (.ref a))->σ[j]? = some (some (.ref a))->i=j
 sl:∀i,SvOk K (hid H (hs F σ ρ)) H σ[i]? (gt ρ i)
structure Kp (σ:St)(ρ ρ':En)(H H':Hp):Prop where
 st:∀a o,H a=some o->¬bE σ ρ a->H' a=some o
 sb:∀i,(gt ρ' i).own=true->(gt ρ i).own=true
theorem Kp.so {σ:St}{ρ ρ':En}{H H':Hp}(k:Kp σ ρ ρ' H H'){a:Addr}(h:bE σ ρ' a):bE σ ρ a:=by
 obtain⟨i,hi,e⟩:=h
 exact⟨i,k.sb i hi,e⟩
theorem Kp.refl {σ:St}{ρ:En}{H:Hp}:Kp σ ρ ρ H H:=⟨λ_ _ e _=>e,λ_ h=>h⟩
theorem Kp.trans {σ:St}{ρ ρ1 ρ2:En}{H H1 H2:Hp}(a:Kp σ ρ ρ1 H H1)(b:Kp σ ρ1 ρ2 H1 H2):Kp σ ρ ρ2 H H2 :=
 ⟨λx o e n=>b.st x o (a.st x o e n) λz=>n (a.so z),λx z=>a.sb x (b.sb x z)⟩
theorem Kp.fresh {σ:St}{ρ:En}{H:Hp}{l:Addr}{o:HO}(h:H l=none):Kp σ ρ ρ H (upd H l o) :=
 ⟨λa u e _=>by rw[aL (a_ e h)];exact e,λ_ h=>h⟩
section
variable {K:bi}{F:Fr}{σ:St}{ρ ρ':En}{H H':Hp}
theorem dH (r:Rel K F σ ρ H){a:Addr}(h:bE σ ρ a):H a≠none:=by
 obtain⟨i,hi,e⟩:=h
 obtain⟨l,o,e',h'⟩:=(r.sl i).alive hi
 rw[e]at e';injection e' with e';injection e' with e';injection e' with e'
 rw[e',h'];exact λz=>nomatch z
theorem pM (r:Rel K F σ ρ H){a:Addr}(h:hs F σ ρ a):H a≠none:=by
 rcases h with h | h
 ·exact(r.zl a h).1
 ·exact dH r h
theorem SvOk.nt {K:bi}{Hh H:Hp}{v:Option (Option V)}{s:Sv}(h:SvOk K Hh H v s)(ho:s.own=true):∃l,v=some (some (.ref l))/\Nt H l:=by
 cases s with
 | un=>cases ho
 | vl d=>cases ho
 | ow ds=>obtain⟨l,vs,e,a,r⟩:=h;exact⟨l,e,by rw[a];exact(λz=>nomatch z),by rw[a];exact λ_ z=>nomatch z⟩
 | tp n=>obtain⟨l,c,ns,sp,lf,e,a,b,r⟩:=h;exact⟨l,e,by rw[a];exact(λz=>nomatch z),by rw[a];exact λ_ z=>nomatch z⟩
 | dk kvs=>obtain⟨l,ks,e,a,b,r⟩:=h;exact⟨l,e,by rw[a];exact(λz=>nomatch z),by rw[a];exact λ_ z=>nomatch z⟩
 | dt kvs=>obtain⟨l,ks,e,a,b,r⟩:=h;exact⟨l,e,by rw[a];exact(λz=>nomatch z),by rw[a];exact λ_ z=>nomatch z⟩
 | ex C fs=>cases ho
 | sc ns=>cases ho
 | px d C fs=>cases ho
 | xl es=>cases ho
 | ob C fs=>cases ho
 | ll xss=>obtain⟨l,bs,vss,e,a,r⟩:=h;exact⟨l,e,by rw[a];exact(λz=>nomatch z),by rw[a];exact λ_ z=>nomatch z⟩
 | ds C n w=>obtain⟨l,dx,d1,d2,k1,k2,e,a,r⟩:=h;exact⟨l,e,by rw[a];exact(λz=>nomatch z),by rw[a];exact λ_ z=>nomatch z⟩
theorem pk (r:Rel K F σ ρ H){a:Addr}(h:bE σ ρ a):Nt H a:=by
 obtain⟨i,hi,e⟩:=h
 obtain⟨l,e',h'⟩:=(r.sl i).nt hi
 rw[e]at e';injection e' with e';injection e' with e';injection e' with e'
 rw[e'];exact h'
theorem qC (r:Rel K F σ ρ H){a:Addr}(h:hs F σ ρ a):Nt H a:=by
 rcases h with h | h
 ·exact r.zl a h
 ·exact pk r h
theorem fq (r:Rel K F σ ρ H){l:Addr}(h:H l=none):¬hs F σ ρ l:=λz=>pM r z h
theorem vz (r:Rel K F σ ρ H){l:Addr}(h:H l=none):F.H0 l=none:=by
 cases h0:F.H0 l with
 | none=>rfl
 | some o =>
  by_cases q:F.M l
  ·exact absurd h (r.ma l q)
  ·have:=r.fr l o h0 q
   rw[h]at this;cases this
theorem Kp.vis (k:Kp σ ρ ρ' H H'):Same (hid H (hs F σ ρ)) (hid H' (hs F σ ρ')):=bc λa o e n =>
 ⟨k.st a o e λz=>n (.inr z),λz=>by
  rcases z with z | z
  ·exact n (.inl z)
  ·exact n (.inr (k.so z))⟩
theorem qD {a:Addr}(g:Same H H')(h:H a≠none):H' a≠none:=λe=>by
 cases h':H a with
 | none=>exact h h'
 | some o=>rw[g a o h']at e;cases e
theorem x3 {a:Addr}(g:Same H H')(h:Nt H a):Nt H' a:=by
 cases h':H a with
 | none=>exact(h.1 h').elim
 | some o =>
  have e:=g a o h'
  unfold Nt
  rw[e,<- h'];exact h
theorem Rel.grow (r:Rel K F σ ρ H)(g:Same H H'):Rel K F σ ρ H' where
 len:=r.len
 fr:=λa o e n=>g a o (r.fr a o e n)
 zl:=λa z=>x3 g (r.zl a z)
 zo:=r.zo
 ow:=r.ow
 mi:=r.mi
 ml:=r.ml
 ma:=λa z=>qD g (r.ma a z)
 nd:=r.nd
 sl:=λi=>(r.sl i).keep (bc λa o e n=>⟨g a o e,n⟩) λl o _ _ e=>g l o e
theorem Rel.fresh (r:Rel K F σ ρ H){l:Addr}{o:HO}(h:H l=none):Rel K F σ ρ (upd H l o):=r.grow ((Same.refl H).new h)
theorem o8:∀(ρ:En) (i:Nat) (s:Sv),ρ.length<=i->pt ρ i s=ρ
 | [],_,_,_=>rfl
 | x::r,0,s,h=>by simp at h
 | x::r,i+1,s,h=>by simp[pt,o8 r i s (by simpa using h)]
theorem du {i j:Nat}{s:Sv}(hs:s.own=false)(hj:(gt (pt ρ i s) j).own=true):i≠j/\(gt ρ j).own=true:=by
 by_cases ij:i=j
 ·subst ij
  rcases Bh i ρ.length with q | q
  ·rw[jW ρ i s q,hs]at hj;cases hj
  ·rw[kj _ i (by rw[fk];exact q)]at hj;cases hj
 ·rw[bT ρ i j s ij]at hj
  exact⟨ij,hj⟩
theorem Rel.setS (r:Rel K F σ ρ H){i:Nat}{v:V}{s:Sv}(hs':s.own=false)(hd:SvOk K (hid H (hs F σ ρ)) H (some (some v)) s)(hm:∀a,¬F.pin i a):Rel K F (σ.set i (some v)) (pt ρ i s) H:=by
 rcases Bh i ρ.length with hi | hi
 case inr =>
  rw[o8 ρ i s hi,EK (by rw[r.len];exact hi)];exact r
 have sub:∀a,bE (σ.set i (some v)) (pt ρ i s) a->bE σ ρ a:=λa ⟨j,hj,e⟩=>by
  obtain⟨ij,hj⟩:=du hs' hj
  rw[A3 ij]at e
  exact⟨j,hj,e⟩
 have vis:Same (hid H (hs F σ ρ)) (hid H (hs F (σ.set i (some v)) (pt ρ i s))):=bc λa o e n=>⟨e,λz=>n (z.imp id (sub a))⟩
 refine⟨by rw[Ec,fk,r.len],r.fr,r.zl,λa h=>r.zo a (sub a h),λj a hj e=>?_,λj a h=>?_,r.ml,r.ma,λj k a hj hk ej ek=>?_,λj=>?_⟩
 ·obtain⟨ij,hj⟩:=du hs' hj
  rw[A3 ij]at e
  exact r.ow j a hj e
 ·have:i≠j:=λe=>hm a (e▸h)
  rw[A3 this];exact r.mi j a h
 ·obtain⟨nj,hj⟩:=du hs' hj
  obtain⟨nk,hk⟩:=du hs' hk
  rw[A3 nj]at ej
  rw[A3 nk]at ek
  exact r.nd j k a hj hk ej ek
 ·by_cases ij:i=j
  ·subst ij
   rw[jW ρ i _ hi,CS (by rw[r.len];exact hi)]
   exact hd.keep vis λl o ho=>by rw[hs']at ho;cases ho
  ·rw[bT ρ i j _ ij,A3 ij]
   exact(r.sl j).keep vis λl o _ _ e=>e
theorem Rel.set (r:Rel K F σ ρ H){i:Nat}{v:V}{d:D}(hd:RepD K (hid H (hs F σ ρ)) v d)(hm:∀a,¬F.pin i a):Rel K F (σ.set i (some v)) (pt ρ i (.vl d)) H :=
 r.setS rfl ⟨v,rfl,hd⟩ hm
theorem Rel.setF (r:Rel K F σ ρ H){i:Nat}{l:Addr}{o:HO}{s:Sv}(hs':s.own=true)(hd:SvOk K (hid H (hs F σ ρ)) (upd H l o) (some (some (.ref l))) s)(hn:H l=none)(hm:∀a,¬F.pin i a) :
  Rel K F (σ.set i (some (.ref l))) (pt ρ i s) (upd H l o):=by
 have rf:=r.fresh (o:=o) hn
 rcases Bh i ρ.length with hi | hi
 case inr =>
  rw[o8 ρ i s hi,EK (by rw[r.len];exact hi)];exact rf
 have at1:∀ {a},(σ.set i (some (V.ref l)))[i]? = some (some (.ref a))->a=l:=λe=>by
  rw[CS (by rw[r.len];exact hi)]at e
  injection e with e;injection e with e;injection e with e
  exact e.symm
 have sub:∀a,bE (σ.set i (some (.ref l))) (pt ρ i s) a->bE σ ρ a∨a=l:=λa h=>by
  obtain⟨j,hj,e⟩:=h
  by_cases ij:i=j
  ·subst ij;exact .inr (at1 e)
  ·rw[bT ρ i j _ ij]at hj
   rw[A3 ij]at e
   exact .inl ⟨j,hj,e⟩
 have vis:Same (hid H (hs F σ ρ)) (hid (upd H l o) (hs F (σ.set i (some (.ref l))) (pt ρ i s))):=bc λa u e n=>by
  have al:=a_ e hn
  refine⟨by rw[aL al];exact e,λz=>?_⟩
  rcases z with z | z
  ·exact n (.inl z)
  ·rcases sub a z with z | z
   ·exact n (.inr z)
   ·exact al z
 have nol:∀j,(gt ρ j).own=true->σ[j]? ≠ some (some (.ref l)):=λj hj e=>dH r ⟨j,hj,e⟩ hn
 refine⟨by rw[Ec,fk,r.len],rf.fr,rf.zl,λa h=>?_,λj a hj e=>?_,λj a h=>?_,r.ml,rf.ma,λj k a hj hk ej ek=>?_,λj=>?_⟩
 ·rcases sub a h with h | h
  ·exact r.zo a h
  ·subst h;exact λz=>(r.zl _ z).1 hn
 ·by_cases ij:i=j
  ·subst ij
   rw[at1 e];exact .inr (vz r hn)
  ·rw[bT ρ i j _ ij]at hj
   rw[A3 ij]at e
   exact r.ow j a hj e
 ·have:i≠j:=λe=>hm a (e▸h)
  rw[A3 this];exact r.mi j a h
 ·by_cases nj:i=j
  ·by_cases nk:i=k
   ·omega
   ·subst nj
    have:=at1 ej
    subst this
    rw[bT ρ i k _ nk]at hk
    rw[A3 nk]at ek
    exact absurd ek (nol k hk)
  ·rw[bT ρ i j _ nj]at hj
   rw[A3 nj]at ej
   by_cases nk:i=k
   ·subst nk
    have:=at1 ek
    subst this
    exact absurd ej (nol j hj)
   ·rw[bT ρ i k _ nk]at hk
    rw[A3 nk]at ek
    exact r.nd j k a hj hk ej ek
 ·by_cases ij:i=j
  ·subst ij
   rw[jW ρ i _ hi,CS (by rw[r.len];exact hi)]
   exact hd.keep vis λ_ _ _ _ e=>e
  ·rw[bT ρ i j _ ij,A3 ij]
   exact(r.sl j).keep vis λa o ho e h=>by
    rw[aL (a_ h hn)];exact h
theorem Rel.write (r:Rel K F σ ρ H){i:Nat}{l:Addr}{o:HO}{s:Sv}(hi:(gt ρ i).own=true)(el:σ[i]? = some (some (.ref l)))(hs':s.own=true)(new:SvOk K (hid H (hs F σ ρ)) (upd H l o) (some (some (.ref l))) s):Rel K F σ (pt ρ i s) (upd H l o)/\Kp σ ρ (pt ρ i s) H (upd H l o):=by
 have lt:=jt hi
 have own':∀j,(gt (pt ρ i s) j).own=true->(gt ρ j).own=true:=λj h=>by
  by_cases ij:i=j
  ·subst ij;exact hi
  ·rw[bT ρ i j _ ij]at h;exact h
 have sub:∀a,bE σ (pt ρ i s) a->bE σ ρ a:=λa ⟨j,hj,e⟩=>⟨j,own' j hj,e⟩
 have hso:bE σ ρ l:=⟨i,hi,el⟩
 have vis:Same (hid H (hs F σ ρ)) (hid (upd H l o) (hs F σ (pt ρ i s))):=bc λa u e n=>by
  have al:a≠l:=λz=>n (.inr (z▸hso))
  exact⟨by rw[aL al];exact e,λz=>n (z.imp id (sub a))⟩
 have up:∀ {a},H a≠none->(upd H l o) a≠none:=λ{a} h e=>by
  by_cases al:a=l
  ·subst al;rw[aQ]at e;cases e
  ·rw[aL al]at e;exact h e
 refine⟨⟨by rw[fk,r.len],λa u e n=>?_,λa z=>wy (λq=>r.zo l hso (q▸z)) (r.zl a z),λa h=>r.zo a (sub a h),λj a hj e=>r.ow j a (own' j hj) e,r.mi,r.ml,λa z=>up (r.ma a z),λj k a hj hk ej ek=>r.nd j k a (own' j hj) (own' k hk) ej ek,λj=>?_⟩,⟨λa u e n=>?_,own'⟩⟩
 ·have al:a≠l:=λz=>by
   subst z
   rcases r.ow i _ hi el with⟨_,q⟩ | q
   ·exact n q
   ·rw[e]at q;cases q
  rw[aL al];exact r.fr a u e n
 ·by_cases ij:i=j
  ·subst ij
   rw[jW ρ i s lt,el]
   exact new.keep vis λ_ _ _ _ e=>e
  ·rw[bT ρ i j _ ij]
   refine(r.sl j).keep vis λa u ho e h=>?_
   have al:a≠l:=λz=>ij (r.nd i j l hi ho el (z▸e))
   rw[aL al];exact h
 ·have al:a≠l:=λz=>n (z▸hso)
  rw[aL al];exact e
theorem Rel.frz (r:Rel K F σ ρ H){i:Nat}{ds:List D}(hi:gt ρ i = .ow ds):∃l,σ[i]? = some (some (.ref l))/\Rel K F σ (pt ρ i (.vl (.lst ds))) H/\Kp σ ρ (pt ρ i (.vl (.lst ds))) H H/\RepD K (hid H (hs F σ (pt ρ i (.vl (.lst ds))))) (.ref l) (.lst ds):=by
 have ho:(gt ρ i).own=true:=by rw[hi];rfl
 have lt:=jt ho
 have q:=r.sl i
 rw[hi]at q
 obtain⟨l,vs,el,hl,hd⟩:=q
 have own':∀j,(gt (pt ρ i (.vl (.lst ds))) j).own=true->i≠j/\(gt ρ j).own=true:=λj h=>du rfl h
 have sub:∀a,bE σ (pt ρ i (.vl (.lst ds))) a->bE σ ρ a/\a≠l:=λa ⟨j,hj,e⟩=>by
  obtain⟨ij,hj⟩:=own' j hj
  exact⟨⟨j,hj,e⟩,λz=>ij (r.nd i j l ho hj el (z▸e))⟩
 have vis:Same (hid H (hs F σ ρ)) (hid H (hs F σ (pt ρ i (.vl (.lst ds))))):=bc λa u e n=>⟨e,λz=>n (z.imp id λz=>(sub a z).1)⟩
 have vl:¬hs F σ (pt ρ i (.vl (.lst ds))) l:=λz=>by
  rcases z with z | z
  ·exact r.zo l ⟨i,ho,el⟩ z
  ·exact(sub l z).2 rfl
 have rd:RepD K (hid H (hs F σ (pt ρ i (.vl (.lst ds))))) (.ref l) (.lst ds):=by
  unfold RepD
  exact⟨l,vs,rfl,eD vl hl,hd.same vis⟩
 refine⟨l,el,⟨by rw[fk,r.len],r.fr,r.zl,λa h=>r.zo a (sub a h).1,λj a hj e=>r.ow j a (own' j hj).2 e,r.mi,r.ml,r.ma,λj k a hj hk ej ek=>r.nd j k a (own' j hj).2 (own' k hk).2 ej ek,λj=>?_⟩,⟨λ_ _ e _=>e,λj h=>(own' j h).2⟩,rd⟩
 by_cases ij:i=j
 ·subst ij
  rw[jW ρ i _ lt,el]
  exact⟨_,rfl,rd⟩
 ·rw[bT ρ i j _ ij]
  exact(r.sl j).keep vis λa u _ _ h=>h
end
def RelR (K:bi)(F:Fr)(σ:St)(ρ:En)(v:V)(H:Hp):R->Prop
 | .d d=>Rel K F σ ρ H/\RepD K (hid H (hs F σ ρ)) v d
 | .o i=>Rel K F σ ρ H/\σ[i]? = some (some v)
 | .n s=>∃Hb l o,Rel K F σ ρ Hb/\s.own=true/\SvOk K (hid Hb (hs F σ ρ)) (upd Hb l o) (some (some (.ref l))) s/\Hb l=none/\H=upd Hb l o/\v = .ref l
 | .t n=>Rel K F σ ρ H/\v = .ty n
 | .x s=>Rel K F σ ρ H/\s.own=false/\SvOk K (hid H (hs F σ ρ)) H (some (some v)) s
def Out (K:bi)(F:Fr)(σ:St)(ρ:En)(H:Hp)(ρ':En)(v:V)(H':Hp):R->Prop
 | .d d=>Rel K F σ ρ' H'/\Kp σ ρ ρ' H H'/\RepD K (hid H' (hs F σ ρ')) v d
 | .o i=>Rel K F σ ρ' H'/\Kp σ ρ ρ' H H'/\σ[i]? = some (some v)
 | .n s=>∃Hb l o,Rel K F σ ρ' Hb/\Kp σ ρ ρ' H Hb/\s.own=true/\SvOk K (hid Hb (hs F σ ρ')) (upd Hb l o) (some (some (.ref l))) s/\Hb l=none/\H'=upd Hb l o/\v = .ref l
 | .t n=>Rel K F σ ρ' H'/\Kp σ ρ ρ' H H'/\v = .ty n
 | .x s=>Rel K F σ ρ' H'/\Kp σ ρ ρ' H H'/\s.own=false/\SvOk K (hid H' (hs F σ ρ')) H' (some (some v)) s
def InF (K:bi)(F:Fr)(σ:St)(ρ:En)(H:Hp)(v:V):R->Prop
 | .d d=>RepD K (hid H (hs F σ ρ)) v d
 | .o i=>σ[i]? = some (some v)
 | .n _=>True
 | .t n=>v = .ty n
 | .x s=>s.own=false/\SvOk K (hid H (hs F σ ρ)) H (some (some v)) s
def R.frz:R->R
 | .n (.ow ds)=>.d (.lst ds)
 | r=>r
inductive InFs (K:bi) (F:Fr) (σ:St) (ρ:En) (H:Hp):List V->List R->Prop
 | nil:InFs K F σ ρ H [] []
 | cons {v:V} {r:R} {vs:List V} {rs:List R}:InF K F σ ρ H v r->InFs K F σ ρ H vs rs->InFs K F σ ρ H (v::vs) (r::rs)
def view (ρ:En):R->Option D
 | .d d=>some d
 | .o i=>(match gt ρ i with | .ow ds=>some (.lst ds) | .vl d=>some d | _=>none)
 | _=>none
section
variable {K:bi}{F:Fr}{σ:St}{ρ ρ':En}{H H':Hp}{v:V}{r:R}
theorem InF.keep (h:InF K F σ ρ H v r)(k:Kp σ ρ ρ' H H'):InF K F σ ρ' H' v r:=by
 cases r with
 | d d=>exact RepD.same h k.vis
 | o i=>exact h
 | n s=>exact h
 | t n=>exact h
 | x s=>exact⟨h.1,h.2.keep k.vis λl o ho=>by rw[h.1]at ho;cases ho⟩
theorem InFs.keep {vs:List V}{rs:List R}(h:InFs K F σ ρ H vs rs)(k:Kp σ ρ ρ' H H'):InFs K F σ ρ' H' vs rs:=by
 induction h with
 | nil=>exact .nil
 | cons a _ ih=>exact .cons (a.keep k) ih
theorem Out.inF (h:Out K F σ ρ H ρ' v H' r):Rel K F σ ρ' H'/\Kp σ ρ ρ' H H'/\InF K F σ ρ' H' v r.frz:=by
 cases r with
 | d d=>exact⟨h.1,h.2.1,h.2.2⟩
 | o i=>exact⟨h.1,h.2.1,h.2.2⟩
 | t n=>exact⟨h.1,h.2.1,h.2.2⟩
 | x s=>exact⟨h.1,h.2.1,h.2.2⟩
 | n s =>
  obtain⟨Hb,l,o,a,k0,hs',b,c,rfl,rfl⟩:=h
  have k:Kp σ ρ' ρ' Hb (upd Hb l o):=Kp.fresh c
  refine⟨a.fresh c,k0.trans k,?_⟩
  cases s with
  | un=>trivial
  | vl d=>trivial
  | tp n=>trivial
  | dk n=>trivial
  | dt n=>trivial
  | ex n m=>trivial
  | sc n=>trivial
  | px n m k=>trivial
  | xl es=>trivial
  | ob _ _=>trivial
  | ll _=>trivial
  | ds _ _ _=>trivial
  | ow ds =>
   obtain⟨l',vs,e,h1,h2⟩:=b
   injection e with e;injection e with e;injection e with e;subst e
   show RepD K _ (.ref l) (.lst ds)
   unfold RepD
   exact⟨l,vs,rfl,eD (fq a c) h1,h2.same k.vis⟩
theorem Out.rel (h:Out K F σ ρ H ρ' v H' r):RelR K F σ ρ' v H' r:=by
 cases r with
 | d d=>exact⟨h.1,h.2.2⟩
 | o i=>exact⟨h.1,h.2.2⟩
 | t n=>exact⟨h.1,h.2.2⟩
 | x s=>exact⟨h.1,h.2.2⟩
 | n s =>
  obtain⟨Hb,l,o,a,k0,hs',b,c,e1,e2⟩:=h
  exact⟨Hb,l,o,a,hs',b,c,e1,e2⟩
theorem Out.after {ρ1:En}{H1:Hp}(k:Kp σ ρ ρ1 H H1)(h:Out K F σ ρ1 H1 ρ' v H' r):Out K F σ ρ H ρ' v H' r:=by
 cases r with
 | d d=>exact⟨h.1,k.trans h.2.1,h.2.2⟩
 | o i=>exact⟨h.1,k.trans h.2.1,h.2.2⟩
 | t n=>exact⟨h.1,k.trans h.2.1,h.2.2⟩
 | x s=>exact⟨h.1,k.trans h.2.1,h.2.2⟩
 | n s =>
  obtain⟨Hb,l,o,a,k0,hs',b,c,e1,e2⟩:=h
  exact⟨Hb,l,o,a,k.trans k0,hs',b,c,e1,e2⟩
theorem dy {d:D}(a:Rel K F σ ρ H)(h:InF K F σ ρ H v r)(e:view ρ r=some d):RepD K H v d:=by
 cases r with
 | d d'=>injection e with e;subst e;exact RepD.same h bV
 | t n=>cases e
 | x s=>cases e
 | n s=>cases e
 | o i =>
  have q:=a.sl i
  unfold view at e
  cases hg:gt ρ i with
  | un=>simp[hg]at e
  | tp n=>simp[hg]at e
  | dk n=>simp[hg]at e
  | dt n=>simp[hg]at e
  | ex n m=>simp[hg]at e
  | sc n=>simp[hg]at e
  | px n m k=>simp[hg]at e
  | xl es=>simp[hg]at e
  | ob _ _=>simp[hg]at e
  | ll _=>simp[hg]at e
  | ds _ _ _=>simp[hg]at e
  | vl d' =>
   simp[hg]at e
   subst e
   rw[hg]at q
   obtain⟨x,e1,r1⟩:=q
   rw[show σ[i]? = _ from h]at e1
   injection e1 with e1;injection e1 with e1;subst e1
   exact r1.same bV
  | ow ds =>
   simp[hg]at e
   subst e
   rw[hg]at q
   obtain⟨l,vs,e1,r1,r2⟩:=q
   rw[show σ[i]? = _ from h]at e1
   injection e1 with e1;injection e1 with e1;subst e1
   unfold RepD
   exact⟨l,vs,rfl,r1,r2.same bV⟩
theorem cO {ds:List D}(a:Rel K F σ ρ H)(h:InF K F σ ρ H v r)(e:view ρ r=some (.lst ds)):∃l vs,v = .ref l/\SqL K H l vs/\RepDs K (hid H (hs F σ ρ)) vs ds:=by
 cases r with
 | d d' =>
  injection e with e;subst e
  have h':RepD K _ v (.lst ds):=h
  unfold RepD at h'
  obtain⟨l,vs,e,q,r⟩:=h'
  exact⟨l,vs,e,bV.seq (StL.sq q),r⟩
 | t n=>cases e
 | x s=>cases e
 | n s=>cases e
 | o i =>
  have q:=a.sl i
  unfold view at e
  cases hg:gt ρ i with
  | un=>simp[hg]at e
  | tp n=>simp[hg]at e
  | dk n=>simp[hg]at e
  | dt n=>simp[hg]at e
  | ex n m=>simp[hg]at e
  | sc n=>simp[hg]at e
  | px n m k=>simp[hg]at e
  | xl es=>simp[hg]at e
  | ob _ _=>simp[hg]at e
  | ll _=>simp[hg]at e
  | ds _ _ _=>simp[hg]at e
  | vl d' =>
   simp[hg]at e
   subst e
   rw[hg]at q
   obtain⟨x,e1,r1⟩:=q
   rw[show σ[i]? = _ from h]at e1
   injection e1 with e1;injection e1 with e1;subst e1
   unfold RepD at r1
   obtain⟨l,vs,e,q,r⟩:=r1
   exact⟨l,vs,e,bV.seq (StL.sq q),r⟩
  | ow ds =>
   simp[hg]at e
   subst e
   rw[hg]at q
   obtain⟨l,vs,e1,r1,r2⟩:=q
   rw[show σ[i]? = _ from h]at e1
   injection e1 with e1;injection e1 with e1;subst e1
   exact⟨l,vs,rfl,SqL.of r1,r2⟩
theorem gq {ds:List D}(a:Rel K F σ ρ H)(h:InF K F σ ρ H v r)(e:view ρ r=some (.tup ds)):∃l vs,v = .ref l/\SqT K H l vs/\RepDs K (hid H (hs F σ ρ)) vs ds/\StT (hid H (hs F σ ρ)) l vs:=by
 have go:∀ {x:V},RepD K (hid H (hs F σ ρ)) x (.tup ds)->∃l vs,x = .ref l/\SqT K H l vs/\RepDs K (hid H (hs F σ ρ)) vs ds/\StT (hid H (hs F σ ρ)) l vs:=λh'=>by
  unfold RepD at h'
  obtain⟨l,vs,e,q,r⟩:=h'
  exact⟨l,vs,e,bV.seqT q.sq,r,q⟩
 cases r with
 | d d'=>injection e with e;subst e;exact go h
 | t n=>cases e
 | x s=>cases e
 | n s=>cases e
 | o i =>
  have q:=a.sl i
  unfold view at e
  cases hg:gt ρ i with
  | un=>simp[hg]at e
  | tp n=>simp[hg]at e
  | dk n=>simp[hg]at e
  | dt n=>simp[hg]at e
  | ex n m=>simp[hg]at e
  | sc n=>simp[hg]at e
  | px n m k=>simp[hg]at e
  | xl es=>simp[hg]at e
  | ob _ _=>simp[hg]at e
  | ll _=>simp[hg]at e
  | ds _ _ _=>simp[hg]at e
  | ow ds'=>simp[hg]at e
  | vl d' =>
   simp[hg]at e
   subst e
   rw[hg]at q
   obtain⟨x,e1,r1⟩:=q
   rw[show σ[i]? = _ from h]at e1
   injection e1 with e1;injection e1 with e1;subst e1
   exact go r1
end
abbrev Ko:=R->En->Prop
abbrev AE:=En->Ko->Prop
abbrev AT:=En->(Bool->En->Prop)->Prop
abbrev AA:=En->(List R->En->Prop)->Prop
structure AEnds where
 nx:En->Prop
 rt:R->En->Prop
 bk:En->Prop
 ct:En->Prop
abbrev AS:=AEnds->En->Prop
def Beh (K:bi)(F:Fr)(σ:St)(ρ:En)(H:Hp)(q:Ko)(Q:VK):Prop:=∀r ρ' v H',q r ρ'->Out K F σ ρ H ρ' v H' r->Q v H'
def TEok (K:bi)(t:TE)(a:AE):Prop:=∀F σ ρ H q Q,Rel K F σ ρ H->a ρ q->Beh K F σ ρ H q Q->t σ H Q
def TTok (K:bi)(t:TT)(a:AT):Prop:=∀F σ ρ H q Q,Rel K F σ ρ H->a ρ q->(∀b ρ' H',q b ρ'->Rel K F σ ρ' H'->Kp σ ρ ρ' H H'->Q b H')->t σ H Q
def TAok (K:bi)(t:TA)(a:AA):Prop:=∀F σ ρ H q Q,Rel K F σ ρ H->a ρ q->(∀rs ρ' vs H',q rs ρ'->Rel K F σ ρ' H'->InFs K F σ ρ' H' vs rs->Kp σ ρ ρ' H H'->Q vs H')->t σ H Q
def OpOk (K:bi)(r:R2)(g:R->R->AE):Prop:=∀F σ ρ H x y r1 r2 q Q,Rel K F σ ρ H->InF K F σ ρ H x r1->InF K F σ ρ H y r2->g r1 r2 ρ q->Beh K F σ ρ H q Q->r x y H Q
def CbOk (K:bi)(r:List V->Hp->VK->Prop)(g:List R->AE):Prop:=∀F σ ρ H vs rs q Q,Rel K F σ ρ H->InFs K F σ ρ H vs rs->g rs ρ q->Beh K F σ ρ H q Q->r vs H Q
section
variable {K:bi}{F:Fr}{σ:St}{ρ ρ':En}{H H':Hp}{v:V}{r:R}{q:Ko}{Q:VK}
theorem Beh.dat (b:Beh K F σ ρ H q Q)(a:Rel K F σ ρ H){d:D}(hq:q (.d d) ρ)(h:RepD K (hid H (hs F σ ρ)) v d):Q v H:=b (.d d) ρ v H hq ⟨a,.refl,h⟩
theorem Beh.int (b:Beh K F σ ρ H q Q)(a:Rel K F σ ρ H){i:Int}(hq:q (.d (.int i)) ρ):Q (.int i) H:=b.dat a hq (by unfold RepD;rfl)
theorem Beh.bl (b:Beh K F σ ρ H q Q)(a:Rel K F σ ρ H){i:Bool}(hq:q (.d (.bl i)) ρ):Q (.bl i) H:=b.dat a hq (by unfold RepD;rfl)
theorem Beh.non (b:Beh K F σ ρ H q Q)(a:Rel K F σ ρ H)(hq:q (.d .non) ρ):Q .non H:=b.dat a hq (by unfold RepD;rfl)
theorem Beh.str (b:Beh K F σ ρ H q Q)(a:Rel K F σ ρ H){x:Str}(hq:q (.d (.str x)) ρ):Q (.str x) H:=b.dat a hq (by unfold RepD;rfl)
theorem Beh.new (b:Beh K F σ ρ H q Q)(a:Rel K F σ ρ H){ds:List D}{vs:List V}{l:Addr}(hq:q (.f ds) ρ)(hd:RepDs K (hid H (hs F σ ρ)) vs ds)(hl:H l=none):Q (.ref l) (upd H l (.lst vs)) :=
 b (.f ds) ρ _ _ hq ⟨H,l,_,a,.refl,rfl,⟨l,vs,rfl,aQ,hd⟩,hl,rfl,rfl⟩
theorem Beh.newT (b:Beh K F σ ρ H q Q)(a:Rel K F σ ρ H){ds:List D}{vs:List V}{l:Addr}(hq:q (.d (.tup ds)) ρ)(hd:RepDs K (hid H (hs F σ ρ)) vs ds)(hl:H l=none):Q (.ref l) (upd H l (.tup vs)):=by
 have k:Kp σ ρ ρ H (upd H l (.tup vs)):=Kp.fresh hl
 refine b (.d (.tup ds)) ρ _ _ hq ⟨a.fresh hl,k,?_⟩
 unfold RepD
 exact⟨l,vs,rfl,(eD (fq a hl) aQ),hd.same k.vis⟩
theorem Beh.after {ρ1:En}{H1:Hp}(b:Beh K F σ ρ H q Q)(k:Kp σ ρ ρ1 H H1):Beh K F σ ρ1 H1 q Q:=λr ρ' v H' hq h=>b r ρ' v H' hq (.after k h)
def aVar (i:Nat):AE:=λρ q=>match gt ρ i with
 | .un=>False
 | .vl d=>q (.d d) ρ
 | .ow _=>q (.o i) ρ
 | .tp _=>q (.o i) ρ
 | .dk _=>q (.o i) ρ
 | .dt _=>q (.o i) ρ
 | .ex _ _=>q (.o i) ρ
 | .sc _=>q (.o i) ρ
 | .px _ _ _=>q (.o i) ρ
 | .xl _=>q (.o i) ρ
 | .ob _ _=>q (.o i) ρ
 | .ll _=>q (.o i) ρ
 | .ds _ _ _=>q (.o i) ρ
theorem af {i:Nat}:TEok K (tVar i) (aVar i):=by
 intro F σ ρ H q Q a h b
 have s:=a.sl i
 unfold aVar at h
 cases hg:gt ρ i with
 | un=>rw[hg]at h;exact h.elim
 | vl d =>
  rw[hg]at h s
  obtain⟨x,e,r⟩:=s
  exact⟨x,e,b _ _ _ _ h ⟨a,.refl,r⟩⟩
 | ow ds =>
  rw[hg]at h s
  obtain⟨l,vs,e,_⟩:=s
  exact⟨_,e,b _ _ _ _ h ⟨a,.refl,e⟩⟩
 | tp n =>
  rw[hg]at h s
  obtain⟨l,c,ns,sp,lf,e,_⟩:=s
  exact⟨_,e,b _ _ _ _ h ⟨a,.refl,e⟩⟩
 | dk kvs =>
  rw[hg]at h s
  obtain⟨l,ks,e,_⟩:=s
  exact⟨_,e,b _ _ _ _ h ⟨a,.refl,e⟩⟩
 | dt kvs =>
  rw[hg]at h s
  obtain⟨l,ks,e,_⟩:=s
  exact⟨_,e,b _ _ _ _ h ⟨a,.refl,e⟩⟩
 | ex C fs =>
  rw[hg]at h s
  obtain⟨l,ks,e,_⟩:=s
  exact⟨_,e,b _ _ _ _ h ⟨a,.refl,e⟩⟩
 | sc ns =>
  rw[hg]at h s
  obtain⟨l,e,_⟩:=s
  exact⟨_,e,b _ _ _ _ h ⟨a,.refl,e⟩⟩
 | xl es =>
  rw[hg]at h s
  obtain⟨l,ks,e,_⟩:=s
  exact⟨_,e,b _ _ _ _ h ⟨a,.refl,e⟩⟩
 | ob C fs =>
  rw[hg]at h s
  obtain⟨l,_,_,e,_⟩:=s
  exact⟨_,e,b _ _ _ _ h ⟨a,.refl,e⟩⟩
 | ll xss =>
  rw[hg]at h s
  obtain⟨l,_,_,e,_⟩:=s
  exact⟨_,e,b _ _ _ _ h ⟨a,.refl,e⟩⟩
 | ds C n w =>
  rw[hg]at h s
  obtain⟨l,_,_,_,_,_,e,_⟩:=s
  exact⟨_,e,b _ _ _ _ h ⟨a,.refl,e⟩⟩
 | px d C fs =>
  rw[hg]at h s
  obtain⟨l,x,e',od,e,_⟩:=s
  exact⟨_,e,b _ _ _ _ h ⟨a,.refl,e⟩⟩
def aC (r:R):AE:=λρ q=>q r ρ
theorem aK {i:Int}:TEok K (tC (.int i)) (aC (.d (.int i))):=λ_ _ _ _ _ _ a h b=>b.int a h
theorem cL {i:Bool}:TEok K (tC (.bl i)) (aC (.d (.bl i))):=λ_ _ _ _ _ _ a h b=>b.bl a h
theorem fg {i:Str}:TEok K (tC (.str i)) (aC (.d (.str i))):=λ_ _ _ _ _ _ a h b=>b.str a h
theorem f_:TEok K (tC .non) (aC (.d .non)):=λ_ _ _ _ _ _ a h b=>b.non a h
theorem yN {n:String}:TEok K (tC (.ty n)) (aC (.t n)):=λ_ _ _ _ _ _ a h b=>b _ _ _ _ h ⟨a,.refl,rfl⟩
def aOp (g:R->R->AE)(a b:AE):AE:=λρ q=>a ρ λr1 ρ1=>b ρ1 λr2 ρ2=>g r1.frz r2.frz ρ2 q
variable {t t' ta tb tc:TE}{a b c:AE}{rr:R2}{g:R->R->AE}
theorem aR (ho:OpOk K rr g)(ha:TEok K ta a)(hb:TEok K tb b):TEok K (tOp rr ta tb) (aOp g a b):=by
 intro F σ ρ H q Q r h k
 refine ha F σ ρ H _ _ r h λr1 ρ1 x H1 h1 rel1=>?_
 obtain⟨r',k1,i1⟩:=rel1.inF
 refine hb F σ ρ1 H1 _ _ r' h1 λr2 ρ2 y H2 h2 rel2=>?_
 obtain⟨r'',k2,i2⟩:=rel2.inF
 exact ho F σ ρ2 H2 x y _ _ q Q r'' (i1.keep k2) i2 h2 (k.after (k1.trans k2))
def aUn (g:R->AE)(a:AE):AE:=λρ q=>a ρ λr1 ρ1=>g r1.frz ρ1 q
def gI (C:Int->Int->Prop)(f:Int->Int->D):R->R->AE:=λr1 r2 ρ q=>match r1,r2 with
 | .d (.int i),.d (.int j)=>C i j/\q (.d (f i j)) ρ
 | _,_=>False
theorem zW {C:Int->Int->Prop}{f:Int->Int->D}{r1 r2:R}(h:gI C f r1 r2 ρ q):∃i j,r1 = .d (.int i)/\r2 = .d (.int j)/\C i j/\q (.d (f i j)) ρ:=by
 unfold gI at h
 split at h
 ·exact⟨_,_,rfl,rfl,h⟩
 ·exact h.elim
theorem InF.int {i:Int}(h:InF K F σ ρ H v (.d (.int i))):v = .int i:=by
 unfold InF RepD at h;exact h
theorem InF.blv {i:Bool}(h:InF K F σ ρ H v (.d (.bl i))):v = .bl i:=by
 unfold InF RepD at h;exact h
theorem k8 {C:Int->Int->Prop}{f:Int->Int->Int}:OpOk K (rI C λi j=>.int (f i j)) (gI C λi j=>.int (f i j)):=by
 intro F σ ρ H x y r1 r2 q Q a h1 h2 h b
 obtain⟨i,j,rfl,rfl,c,h⟩:=zW h
 exact⟨i,j,h1.int,h2.int,c,b.int a h⟩
def gI0 (f:Int->Int->D):R->R->AE:=λr1 r2 ρ q=>match r1,r2 with
 | .d (.int i),.d (.int j)=>q (.d (f i j)) ρ
 | _,_=>False
theorem tF {f:Int->Int->D}{r1 r2:R}(h:gI0 f r1 r2 ρ q):∃i j,r1 = .d (.int i)/\r2 = .d (.int j)/\q (.d (f i j)) ρ:=by
 unfold gI0 at h
 split at h
 ·exact⟨_,_,rfl,rfl,h⟩
 ·exact h.elim
theorem cc {f:Int->Int->Int}:OpOk K (rI0 λi j=>.int (f i j)) (gI0 λi j=>.int (f i j)):=by
 intro F σ ρ H x y r1 r2 q Q a h1 h2 h b
 obtain⟨i,j,rfl,rfl,h⟩:=tF h
 exact⟨i,j,h1.int,h2.int,b.int a h⟩
theorem cK {f:Int->Int->Bool}:OpOk K (rI0 λi j=>.bl (f i j)) (gI0 λi j=>.bl (f i j)):=by
 intro F σ ρ H x y r1 r2 q Q a h1 h2 h b
 obtain⟨i,j,rfl,rfl,h⟩:=tF h
 exact⟨i,j,h1.int,h2.int,b.bl a h⟩
@[irreducible] def gEq (neg:Bool):R->R->AE:=λr1 r2 ρ q=>match view ρ r1,view ρ r2 with
 | some d,some e=>d.depth<=60/\q (.d (.bl (if neg then !eqD d e else eqD d e))) ρ
 | _,_=>False
theorem tG {neg:Bool}{r1 r2:R}(h:gEq neg r1 r2 ρ q):∃d e,view ρ r1=some d/\view ρ r2=some e/\d.depth<=60/\q (.d (.bl (if neg then !eqD d e else eqD d e))) ρ:=by
 unfold gEq at h
 split at h
 ·rename_i d e h1 h2;exact⟨d,e,h1,h2,h⟩
 ·exact h.elim
theorem lY:OpOk K (rEqD K) (gEq false):=by
 intro F σ ρ H x y r1 r2 q Q a h1 h2 h b
 obtain⟨d,e,e1,e2,c,h⟩:=tG h
 exact⟨d,e,dy a h1 e1,dy a h2 e2,c,b.bl a h⟩
theorem wx:OpOk K (rNeD K) (gEq true):=by
 intro F σ ρ H x y r1 r2 q Q a h1 h2 h b
 obtain⟨d,e,e1,e2,c,h⟩:=tG h
 exact⟨d,e,dy a h1 e1,dy a h2 e2,c,b.bl a h⟩
@[irreducible] def gIx:R->R->AE:=λr1 r2 ρ q=>match view ρ r1,r2 with
 | some (.lst ds),.d (.int i)=>(match atI ds i with | some d=>q (.d d) ρ | none=>False)
 | some (.tup ds),.d (.int i)=>(match atI ds i with | some d=>q (.d d) ρ | none=>False)
 | _,_=>False
theorem ub {Hh:Hp}{vs:List V}{ds:List D}{i:Int}{d:D}(h:RepDs K Hh vs ds)(e:atI ds i=some d):∃v,atI vs i=some v/\RepD K Hh v d:=by
 unfold atI at e ⊢
 rw[h.length]
 cases hx:ixN ds.length i with
 | none=>rw[hx]at e;cases e
 | some j =>
  rw[hx]at e
  exact h.get e
theorem cB:OpOk K (rIx K) gIx:=by
 intro F σ ρ H x y r1 r2 q Q a h1 h2 h b
 unfold gIx at h
 split at h
 ·rename_i ds i e1
  split at h
  ·rename_i d e
   obtain⟨l,vs,rfl,sq,rd⟩:=cO a h1 e1
   obtain⟨v,e2,rv⟩:=ub rd e
   exact .inl ⟨l,vs,i,v,rfl,h2.int,sq,e2,b.dat a h rv⟩
  ·exact h.elim
 ·rename_i ds i e1
  split at h
  ·rename_i d e
   obtain⟨l,vs,rfl,sq,rd,_⟩:=gq a h1 e1
   obtain⟨v,e2,rv⟩:=ub rd e
   exact .inr (.inl ⟨l,vs,i,v,rfl,h2.int,sq,e2,b.dat a h rv⟩)
  ·exact h.elim
 ·exact h.elim
def A0 (a b:AE):AE:=λρ q=>a ρ λr ρ1=>match r with
 | .d (.bl c)=>if c=true then b ρ1 q else q (.d (.bl false)) ρ1
 | _=>False
def aOrV (a b:AE):AE:=λρ q=>a ρ λr ρ1=>match r with
 | .d (.bl c)=>if c=true then q (.d (.bl true)) ρ1 else b ρ1 q
 | _=>False
def AQ (a:AE):AE:=λρ q=>a ρ λr ρ1=>match r with
 | .d (.bl c)=>q (.d (.bl (!c))) ρ1
 | _=>False
theorem kL (ha:TEok K ta a)(hb:TEok K tb b):TEok K (yW ta tb) (A0 a b):=by
 intro F σ ρ H q Q r h k
 refine ha F σ ρ H _ _ r h λr1 ρ1 x H1 h1 rel1=>?_
 split at h1
 ·rename_i c
  obtain⟨r',k1,i1⟩:=rel1.inF
  refine⟨c,i1.blv,?_⟩
  cases c with
  | true=>exact hb F σ ρ1 H1 q Q r' h1 (k.after k1)
  | false=>exact(k.after k1).bl r' h1
 ·exact h1.elim
theorem kK (ha:TEok K ta a)(hb:TEok K tb b):TEok K (tOrV ta tb) (aOrV a b):=by
 intro F σ ρ H q Q r h k
 refine ha F σ ρ H _ _ r h λr1 ρ1 x H1 h1 rel1=>?_
 split at h1
 ·rename_i c
  obtain⟨r',k1,i1⟩:=rel1.inF
  refine⟨c,i1.blv,?_⟩
  cases c with
  | true=>exact(k.after k1).bl r' h1
  | false=>exact hb F σ ρ1 H1 q Q r' h1 (k.after k1)
 ·exact h1.elim
theorem uz (ha:TEok K ta a):TEok K (yS ta) (AQ a):=by
 intro F σ ρ H q Q r h k
 refine ha F σ ρ H _ _ r h λr1 ρ1 x H1 h1 rel1=>?_
 split at h1
 ·rename_i c
  obtain⟨r',k1,i1⟩:=rel1.inF
  exact⟨c,i1.blv,(k.after k1).bl r' h1⟩
 ·exact h1.elim
variable {tt tu:TT}{at' au:AT}
def aB (a:AE):AT:=λρ q=>a ρ λr ρ1=>match r with
 | .d (.bl c)=>q c ρ1
 | _=>False
theorem gx (ha:TEok K ta a):TTok K (tB ta) (aB a):=by
 intro F σ ρ H q Q r h k
 refine ha F σ ρ H _ _ r h λr1 ρ1 x H1 h1 rel1=>?_
 split at h1
 ·rename_i c
  obtain⟨r',k1,i1⟩:=rel1.inF
  exact⟨c,i1.blv,k _ _ _ h1 r' k1⟩
 ·exact h1.elim
theorem bj (ha:TEok K ta a):TTok K (xc ta) (aB a):=gx ha
def aAnd (a b:AT):AT:=λρ q=>a ρ λc ρ1=>if c=true then b ρ1 q else q false ρ1
def aNot (a:AT):AT:=λρ q=>a ρ λc ρ1=>q (!c) ρ1
theorem kH (ha:TTok K tt at')(hb:TTok K tu au):TTok K (tAnd tt tu) (aAnd at' au):=by
 intro F σ ρ H q Q r h k
 refine ha F σ ρ H _ _ r h λc ρ1 H1 h1 r1 k1=>?_
 cases c with
 | true=>exact hb F σ ρ1 H1 q Q r1 h1 λb ρ2 H2 h2 r2 k2=>k _ _ _ h2 r2 (k1.trans k2)
 | false=>exact k _ _ _ h1 r1 k1
theorem gu (ha:TTok K tt at'):TTok K (tNot tt) (aNot at'):=λF σ ρ H q Q r h k=>ha F σ ρ H _ _ r h λc ρ1 H1 h1 r1 k1=>k _ _ _ h1 r1 k1
def truD:D->Bool
 | .non=>false
 | .bl b=>b
 | .int i=>i != 0
 | .str _=>true
 | .tup ds=>!ds.isEmpty
 | .lst ds=>!ds.isEmpty
def aTru (a:AE):AT:=λρ q=>a ρ λr ρ1=>match view ρ1 r.frz with
 | some (.str _)=>False
 | some d=>q (truD d) ρ1
 | none=>False
theorem jE {Hh:Hp}{vs:List V}{ds:List D}(h:RepDs K Hh vs ds):vs.isEmpty=ds.isEmpty:=by
 have:=h.length
 cases vs <;> cases ds <;> simp_all
theorem fG (ha:TEok K ta a):TTok K (λσ H Q=>ta σ H λx H'=>∃k,TruV K x H' k/\Q k H') (aTru a):=by
 intro F σ ρ H q Q r h k
 refine ha F σ ρ H _ _ r h λr1 ρ1 x H1 h1 rel1=>?_
 obtain⟨r',k1,i1⟩:=rel1.inF
 cases e:view ρ1 r1.frz with
 | none=>rw[e]at h1;exact h1.elim
 | some d =>
  rw[e]at h1
  have rd:=dy r' i1 e
  cases d with
  | str x=>exact h1.elim
  | non=>unfold RepD at rd;subst rd;exact⟨_,rfl,k _ _ _ h1 r' k1⟩
  | bl b=>unfold RepD at rd;subst rd;exact⟨_,rfl,k _ _ _ h1 r' k1⟩
  | int b=>unfold RepD at rd;subst rd;exact⟨_,rfl,k _ _ _ h1 r' k1⟩
  | tup ds =>
   unfold RepD at rd
   obtain⟨p,vs,rfl,sq,rr⟩:=rd
   exact⟨_,.inr (.inl ⟨vs,sq,by rw[jE rr];rfl⟩),k _ _ _ h1 r' k1⟩
  | lst ds =>
   unfold RepD at rd
   obtain⟨p,vs,rfl,sq,rr⟩:=rd
   exact⟨_,.inl ⟨vs,sq,by rw[jE rr];rfl⟩,k _ _ _ h1 r' k1⟩
def aIf (c:AT)(a b:AE):AE:=λρ q=>c ρ λk ρ1=>if k=true then a ρ1 q else b ρ1 q
theorem yO (hc:TTok K tt at')(ha:TEok K ta a)(hb:TEok K tb b):TEok K (tIf tt ta tb) (aIf at' a b):=by
 intro F σ ρ H q Q r h k
 refine hc F σ ρ H _ _ r h λc ρ1 H1 h1 r1 k1=>?_
 cases c with
 | true=>exact ha F σ ρ1 H1 q Q r1 h1 (k.after k1)
 | false=>exact hb F σ ρ1 H1 q Q r1 h1 (k.after k1)
variable {ts:TA}{as:AA}
def aNil:AA:=λρ q=>q [] ρ
def vP (a:AE)(as:AA):AA:=λρ q=>a ρ λr ρ1=>as ρ1 λrs ρ2=>q (r.frz::rs) ρ2
theorem aq:TAok K tNil aNil:=λF σ ρ H q Q r h k=>k _ _ _ _ h r .nil .refl
theorem aa (ha:TEok K ta a)(hs:TAok K ts as):TAok K (jO ta ts) (vP a as):=by
 intro F σ ρ H q Q r h k
 refine ha F σ ρ H _ _ r h λr1 ρ1 x H1 h1 rel1=>?_
 obtain⟨r',k1,i1⟩:=rel1.inF
 refine hs F σ ρ1 H1 _ _ r' h1 λrs ρ2 vs H2 h2 r2 i2 k2=>?_
 exact k _ _ _ _ h2 r2 (.cons (i1.keep k2) i2) (k1.trans k2)
def sto:List R->En->(List D->En->Prop)->Prop
 | [],ρ,q=>q [] ρ
 | .d d::rs,ρ,q=>sto rs ρ λds ρ'=>q (d::ds) ρ'
 | .o i::rs,ρ,q=>(match gt ρ i with
  | .ow ds=>sto rs (pt ρ i (.vl (.lst ds))) λes ρ'=>q (.lst ds::es) ρ'
  | .vl d=>sto rs ρ λes ρ'=>q (d::es) ρ'
  | _=>False)
 | _::_,_,_=>False
theorem fW:∀ {vs:List V} {rs:List R} {ρ:En} {q:List D->En->Prop},Rel K F σ ρ H->InFs K F σ ρ H vs rs->sto rs ρ q->∃ds ρ',q ds ρ'/\Rel K F σ ρ' H/\Kp σ ρ ρ' H H/\RepDs K (hid H (hs F σ ρ')) vs ds
 | _,_,ρ,q,r,.nil,h=>⟨[],ρ,h,r,.refl,.nil⟩
 | _,_,ρ,q,r,.cons (v:=v) (r:=rr) (vs:=vs) (rs:=rs) a t,h=>by
  cases rr with
  | n s=>exact h.elim
  | t n=>exact h.elim
  | x s=>exact h.elim
  | d d =>
   obtain⟨ds,ρ',hq,r',k,rd⟩:=fW r t (show sto rs ρ _ from h)
   exact⟨d::ds,ρ',hq,r',k,.cons (RepD.same a k.vis) rd⟩
  | o i =>
   have s:=r.sl i
   unfold sto at h
   cases hg:gt ρ i with
   | un=>rw[hg]at h;exact h.elim
   | tp n=>rw[hg]at h;exact h.elim
   | dk n=>rw[hg]at h;exact h.elim
   | dt n=>rw[hg]at h;exact h.elim
   | ex n m=>rw[hg]at h;exact h.elim
   | sc n=>rw[hg]at h;exact h.elim
   | px n m k=>rw[hg]at h;exact h.elim
   | xl es=>rw[hg]at h;exact h.elim
   | ob _ _=>rw[hg]at h;exact h.elim
   | ll _=>rw[hg]at h;exact h.elim
   | ds _ _ _=>rw[hg]at h;exact h.elim
   | vl d =>
    rw[hg]at h s
    obtain⟨x,e,rd1⟩:=s
    rw[show σ[i]? = _ from a]at e
    injection e with e;injection e with e;subst e
    obtain⟨ds,ρ',hq,r',k,rd⟩:=fW r t h
    exact⟨d::ds,ρ',hq,r',k,.cons (rd1.same k.vis) rd⟩
   | ow ds =>
    rw[hg]at h
    obtain⟨l,e,r1,k1,rd1⟩:=r.frz hg
    rw[show σ[i]? = _ from a]at e
    injection e with e;injection e with e;subst e
    obtain⟨es,ρ',hq,r',k,rd⟩:=fW r1 (t.keep k1) h
    exact⟨_,ρ',hq,r',k1.trans k,.cons (rd1.same k.vis) rd⟩
theorem small {n:Nat}(h:n<=1000000):n<=xL:=by unfold xL;omega
theorem j3 {n:Nat}(h:n<=1000000):n<xL:=by unfold xL;omega
def aTup (as:AA):AE:=λρ q=>as ρ λrs ρ1=>sto rs ρ1 λds ρ2=>ds.length<=1000000/\q (.d (.tup ds)) ρ2
def aLst (as:AA):AE:=λρ q=>as ρ λrs ρ1=>sto rs ρ1 λds ρ2=>ds.length<=1000000/\q (.f ds) ρ2
theorem bL (hs:TAok K ts as):TEok K (tTup ts) (aTup as):=by
 intro F σ ρ H q Q r h k
 refine hs F σ ρ H _ _ r h λrs ρ1 vs H1 h1 r1 i1 k1=>?_
 obtain⟨ds,ρ2,⟨hz,hq⟩,r2,k2,rd⟩:=fW r1 i1 h1
 exact⟨small (by rw[rd.length];exact hz),λp hp=>((k.after k1).after k2).newT r2 hq rd hp⟩
theorem eI (hs:TAok K ts as):TEok K (tLst ts) (aLst as):=by
 intro F σ ρ H q Q r h k
 refine hs F σ ρ H _ _ r h λrs ρ1 vs H1 h1 r1 i1 k1=>?_
 obtain⟨ds,ρ2,⟨hz,hq⟩,r2,k2,rd⟩:=fW r1 i1 h1
 exact⟨small (by rw[rd.length];exact hz),λp hp=>((k.after k1).after k2).new r2 hq rd hp⟩
def aCB (g:List R->AE)(as:AA):AE:=λρ q=>as ρ λrs ρ1=>g rs ρ1 q
theorem dF {rb:List V->Hp->VK->Prop}{g:List R->AE}(hb:CbOk K rb g)(hs:TAok K ts as):TEok K (tCB rb ts) (aCB g as):=by
 intro F σ ρ H q Q r h k
 exact hs F σ ρ H _ _ r h λrs ρ1 vs H1 h1 r1 i1 k1=>hb F σ ρ1 H1 vs rs q Q r1 i1 h1 (k.after k1)
theorem InFs.one {vs:List V}{r1:R}(h:InFs K F σ ρ H vs [r1]):∃x,vs=[x]/\InF K F σ ρ H x r1:=by
 cases h with | cons a t=>cases t;exact⟨_,rfl,a⟩
theorem InFs.two {vs:List V}{r1 r2:R}(h:InFs K F σ ρ H vs [r1,r2]):∃x y,vs=[x,y]/\InF K F σ ρ H x r1/\InF K F σ ρ H y r2:=by
 cases h with | cons a t=>obtain⟨y,rfl,b⟩:=t.one;exact⟨_,_,rfl,a,b⟩
def gLen:List R->AE:=λrs ρ q=>match rs with
 | [r]=>(match view ρ r with
  | some (.lst ds)=>q (.d (.int ds.length)) ρ
  | some (.tup ds)=>q (.d (.int ds.length)) ρ
  | _=>False)
 | _=>False
theorem pU:CbOk K (λxs H Q=>∃p ys,xs=[.ref p]/\(SqL K H p ys∨SqT K H p ys)/\Q (.int ys.length) H) gLen:=by
 intro F σ ρ H vs rs q Q a i h b
 unfold gLen at h
 split at h
 ·obtain⟨x,rfl,i1⟩:=i.one
  split at h
  ·rename_i ds e
   obtain⟨l,vs,rfl,sq,rd⟩:=cO a i1 e
   exact⟨l,vs,rfl,.inl sq,by rw[rd.length];exact b.int a h⟩
  ·rename_i ds e
   obtain⟨l,vs,rfl,sq,rd,_⟩:=gq a i1 e
   exact⟨l,vs,rfl,.inr sq,by rw[rd.length];exact b.int a h⟩
  ·exact h.elim
 ·exact h.elim
@[irreducible] def gIsa:List R->AE:=λrs ρ q=>match rs with
 | [r,.t n]=>(match view ρ r with
  | some d=>(match isaT (tyD d) n with | some b=>q (.d (.bl b)) ρ | none=>False)
  | none=>False)
 | _=>False
theorem vL:CbOk K (λxs H Q=>∃x d T b,xs=[x,.ty T]/\RepD K H x d/\isaT (tyD d) T=some b/\Q (.bl b) H) gIsa:=by
 intro F σ ρ H vs rs q Q a i h b
 unfold gIsa at h
 split at h
 ·obtain⟨x,y,rfl,i1,j1⟩:=i.two
  split at h
  ·rename_i d e
   split at h
   ·rename_i b' e'
    exact⟨x,d,_,b',by rw[show y=_ from j1],dy a i1 e,e',b.bl a h⟩
   ·exact h.elim
  ·exact h.elim
 ·exact h.elim
def gList:List R->AE:=λrs ρ q=>match rs with
 | [r]=>(match view ρ r with
  | some (.lst ds)=>q (.f ds) ρ
  | some (.tup ds)=>q (.f ds) ρ
  | _=>False)
 | _=>False
theorem t6:CbOk K (λxs H Q=>∃p ys,xs=[.ref p]/\(SqL K H p ys∨SqT K H p ys)/\∀l,H l=none->Q (.ref l) (upd H l (.lst ys))) gList:=by
 intro F σ ρ H vs rs q Q a i h b
 unfold gList at h
 split at h
 ·obtain⟨x,rfl,i1⟩:=i.one
  split at h
  ·rename_i ds e
   obtain⟨l,vs,rfl,sq,rd⟩:=cO a i1 e
   exact⟨l,vs,rfl,.inl sq,λp hp=>b.new a h rd hp⟩
  ·rename_i ds e
   obtain⟨l,vs,rfl,sq,rd,_⟩:=gq a i1 e
   exact⟨l,vs,rfl,.inr sq,λp hp=>b.new a h rd hp⟩
  ·exact h.elim
 ·exact h.elim
def gTuple:List R->AE:=λrs ρ q=>match rs with
 | [r]=>(match view ρ r with
  | some (.lst ds)=>q (.d (.tup ds)) ρ
  | some (.tup ds)=>q (.d (.tup ds)) ρ
  | _=>False)
 | _=>False
theorem dE:CbOk K (λxs H Q=>∃p ys,xs=[.ref p]/\((SqL K H p ys/\∀l,H l=none->Q (.ref l) (upd H l (.tup ys)))∨(SqT K H p ys/\Q (.ref p) H))) gTuple:=by
 intro F σ ρ H vs rs q Q a i h b
 unfold gTuple at h
 split at h
 ·obtain⟨x,rfl,i1⟩:=i.one
  split at h
  ·rename_i ds e
   obtain⟨l,vs,rfl,sq,rd⟩:=cO a i1 e
   exact⟨l,vs,rfl,.inl ⟨sq,λp hp=>b.newT a h rd hp⟩⟩
  ·rename_i ds e
   obtain⟨l,vs,rfl,sq,rd,sq'⟩:=gq a i1 e
   refine⟨l,vs,rfl,.inr ⟨sq,b.dat a h ?_⟩⟩
   unfold RepD
   exact⟨l,vs,rfl,sq',rd⟩
  ·exact h.elim
 ·exact h.elim
def gII (f:Int->Int->Int):List R->AE:=λrs ρ q=>match rs with
 | [.d (.int i),.d (.int j)]=>q (.d (.int (f i j))) ρ
 | _=>False
theorem vK:CbOk K (λxs H Q=>∃i j,xs=[.int i,.int j]/\Q (.int (if j > i then j else i)) H) (gII λi j=>if j > i then j else i):=by
 intro F σ ρ H vs rs q Q a i h b
 unfold gII at h
 split at h
 ·obtain⟨x,y,rfl,i1,j1⟩:=i.two
  exact⟨_,_,by rw[i1.int,j1.int],b.int a h⟩
 ·exact h.elim
theorem vJ:CbOk K (λxs H Q=>∃i j,xs=[.int i,.int j]/\Q (.int (if j<i then j else i)) H) (gII λi j=>if j<i then j else i):=by
 intro F σ ρ H vs rs q Q a i h b
 unfold gII at h
 split at h
 ·obtain⟨x,y,rfl,i1,j1⟩:=i.two
  exact⟨_,_,by rw[i1.int,j1.int],b.int a h⟩
 ·exact h.elim
def e_:List D->Option (List Int)
 | []=>some []
 | .int i::ds=>(e_ ds).map (i :: ·)
 | _=>none
theorem mr:∀ {ds:List D} {ns:List Int},e_ ds=some ns->ds=ns.map D.int
 | [],ns,h=>by simp[e_]at h;subst h;rfl
 | .int i::ds,ns,h=>by
  simp only[e_,Bb]at h
  obtain⟨ms,e,rfl⟩:=h
  rw[mr e];rfl
 | .non::ds,ns,h=>by simp[e_]at h
 | .bl _::ds,ns,h=>by simp[e_]at h
 | .str _::ds,ns,h=>by simp[e_]at h
 | .tup _::ds,ns,h=>by simp[e_]at h
 | .lst _::ds,ns,h=>by simp[e_]at h
theorem qz (ns:List Int):e_ (ns.map D.int)=some ns:=by
 induction ns with
 | nil=>rfl
 | cons n ns ih=>simp[e_,ih]
def aApp (a:AE)(as:AA):AE:=λρ q=>a ρ λr ρ1=>match r with
 | .o i=>(match gt ρ1 i with
  | .ow _=>as ρ1 λrs ρ2=>(match rs with
   | [y]=>sto [y] ρ2 λes ρ3=>(match gt ρ3 i with
    | .ow ds=>ds.length<=1000000/\q (.d .non) (pt ρ3 i (.ow (ds++es)))
    | _=>False)
   | _=>False)
  | _=>False)
 | _=>False
theorem i7 (ha:TEok K ta a)(hs:TAok K ts as):TEok K (tBM K "list" rAppend ta ts) (aApp a as):=by
 intro F σ ρ H q Q r h k
 refine ha F σ ρ H _ _ r h λr1 ρ1 x H1 h1 rel1=>?_
 split at h1
 ·rename_i i
  obtain⟨r',k1,i1⟩:=rel1.inF
  have ex:σ[i]? = some (some x):=i1
  split at h1
  ·rename_i ds0 hg0
   have s:=r'.sl i
   rw[hg0,ex]at s
   obtain⟨l,vs0,e,hl,_⟩:=s
   injection e with e;injection e with e;subst e
   refine⟨.inl ⟨rfl,_,SqL.of hl⟩,hs F σ ρ1 H1 _ _ r' h1 λrs ρ2 vs H2 h2 r2 i2 k2=>?_⟩
   split at h2
   ·obtain⟨es,ρ3,h3,r3,k3,rd⟩:=fW r2 i2 h2
    split at h3
    ·rename_i ds hg
     have s:=r3.sl i
     rw[hg,ex]at s
     obtain⟨l',us,e,hl',rd'⟩:=s
     injection e with e;injection e with e;injection e with e;subst e
     obtain⟨y,rfl,_⟩:=i2.one
     have hw:=r3.write (i:=i) (l:=l) (o:=.lst (us++[y])) (s:=.ow (ds++es)) (by rw[hg];rfl) ex rfl ⟨l,_,rfl,aQ,rd'.append rd⟩
     refine⟨l,us,y,rfl,rfl,hl',j3 (by rw[rd'.length];exact h3.1),?_⟩
     exact(((k.after k1).after k2).after (k3.trans hw.2)).non hw.1 h3.2
    ·exact h3.elim
   ·exact h2.elim
  ·exact h1.elim
 ·exact h1.elim
abbrev AO:=En->(Option Int->En->Prop)->Prop
def TOok (K:bi)(t:TO)(a:AO):Prop:=∀F σ ρ H q Q,Rel K F σ ρ H->a ρ q->(∀b ρ' H',q b ρ'->Rel K F σ ρ' H'->Kp σ ρ ρ' H H'->Q b H')->t σ H Q
def oNo:AO:=λρ q=>q none ρ
def As (a:AE):AO:=λρ q=>a ρ λr ρ1=>match r with
 | .d (.int i)=>q (some i) ρ1
 | _=>False
theorem kI:TOok K tNoPart oNo:=λF σ ρ H q Q r h k=>k _ _ _ h r .refl
theorem gy (ha:TEok K ta a):TOok K (yR ta) (As a):=by
 intro F σ ρ H q Q r h k
 refine ha F σ ρ H _ _ r h λr1 ρ1 x H1 h1 rel1=>?_
 split at h1
 ·obtain⟨r',k1,i1⟩:=rel1.inF
  exact⟨_,i1.int,k _ _ _ h1 r' k1⟩
 ·exact h1.elim
def cutD (xs:List D)(lo hi:Option Int):List D:=(xs.drop (HT.sIx xs.length 0 lo)).take (HT.sIx xs.length xs.length hi - HT.sIx xs.length 0 lo)
theorem RepDs.drop:∀ {vs:List V} {ds:List D} (n:Nat),RepDs K H vs ds->RepDs K H (vs.drop n) (ds.drop n)
 | [],[],n,h=>by simp[RepDs.nil]
 | v::vs,d::ds,0,h=>h
 | v::vs,d::ds,n+1,h=>by unfold RepDs at h;exact RepDs.drop n h.2
 | [],d::ds,_,h=>by unfold RepDs at h;exact h.elim
 | v::vs,[],_,h=>by unfold RepDs at h;exact h.elim
theorem RepDs.take:∀ {vs:List V} {ds:List D} (n:Nat),RepDs K H vs ds->RepDs K H (vs.take n) (ds.take n)
 | [],[],n,h=>by simp[RepDs.nil]
 | v::vs,d::ds,0,h=>.nil
 | v::vs,d::ds,n+1,h=>by unfold RepDs at h;exact .cons h.1 (RepDs.take n h.2)
 | [],d::ds,_,h=>by unfold RepDs at h;exact h.elim
 | v::vs,[],_,h=>by unfold RepDs at h;exact h.elim
theorem yo {vs:List V}{ds:List D}{lo hi:Option Int}(h:RepDs K H vs ds):RepDs K H (cutV vs lo hi) (cutD ds lo hi):=by
 unfold cutV cutD
 rw[h.length]
 exact(h.drop _).take _
def aSlL (a:AE)(l u:AO):AE:=λρ q=>a ρ λr ρ1=>l ρ1 λlo ρ2=>u ρ2 λhi ρ3=>match view ρ3 r.frz with
 | some (.lst ds)=>q (.f (cutD ds lo hi)) ρ3
 | _=>False
theorem kJ {tl th:TO}{al au:AO}(ha:TEok K ta a)(hl:TOok K tl al)(hh:TOok K th au):TEok K (tSl (rSlL K) ta tl th) (aSlL a al au):=by
 intro F σ ρ H q Q r h k
 refine ha F σ ρ H _ _ r h λr1 ρ1 x H1 h1 rel1=>?_
 obtain⟨r',k1,i1⟩:=rel1.inF
 refine hl F σ ρ1 H1 _ _ r' h1 λlo ρ2 H2 h2 r2 k2=>?_
 refine hh F σ ρ2 H2 _ _ r2 h2 λhi ρ3 H3 h3 r3 k3=>?_
 split at h3
 ·rename_i ds e
  obtain⟨p,vs,rfl,sq,rd⟩:=cO r3 ((i1.keep k2).keep k3) e
  exact⟨p,vs,rfl,sq,λp' hp=>(((k.after k1).after k2).after k3).new r3 h3 (yo rd) hp⟩
 ·exact h3.elim
end
def cI (ρ:En):R->Sv
 | .d d=>.vl d
 | .o j=>gt ρ j
 | .x s=>s
 | _=>.un
def Src (K:bi)(F:Fr)(σ:St)(ρ:En)(H:Hp)(ov:Option V):R->Prop
 | .d d=>∃v,ov=some v/\RepD K (hid H (hs F σ ρ)) v d
 | .o j=>(σ[j]?).getD none=ov
 | .x s=>∃v,ov=some v/\s.own=false/\SvOk K (hid H (hs F σ ρ)) H (some (some v)) s
 | _=>True
inductive Srcs (K:bi) (F:Fr) (σ:St) (ρ:En) (H:Hp):St->List R->Prop
 | nil:Srcs K F σ ρ H [] []
 | cons {v:Option V} {r:R} {vs:St} {rs:List R}:Src K F σ ρ H v r->Srcs K F σ ρ H vs rs->Srcs K F σ ρ H (v::vs) (r::rs)
def isO (j:Nat):R->Bool
 | .o i=>i==j
 | _=>false
def dis:List R->Bool
 | []=>true
 | .o j::rs=>rs.all (λr=>!isO j r)&&dis rs
 | _::rs=>dis rs
theorem vI:∀ {rs:List R} {k k' j:Nat},dis rs=true->rs[k]? = some (.o j)->rs[k']? = some (.o j)->k=k':=by
 intro rs
 induction rs with
 | nil=>intro k k' j _ h;simp at h
 | cons r rs ih =>
  intro k k' j hd h h'
  have hd':dis rs=true:=by
   cases r <;> simp[dis]at hd <;> first | exact hd.2 | exact hd
  have no:∀(m:Nat),r = .o j->rs[m]? = some (.o j)->False:=λm e hm=>by
   subst e
   simp[dis]at hd
   have:=hd.1 _ (BC hm)
   simp[isO]at this
  cases k with
  | zero =>
   cases k' with
   | zero=>rfl
   | succ k'=>simp at h h';exact(no k' h h').elim
  | succ k =>
   cases k' with
   | zero=>simp at h h';exact(no k h' h).elim
   | succ k'=>simp at h h';rw[ih hd' h h']
def back:En->List R->En->En
 | ρ,.o j::rs,s::ss=>back (pt ρ j s) rs ss
 | ρ,_::rs,_::ss=>back ρ rs ss
 | ρ,_,_=>ρ
theorem eY:∀(rs:List R) (ρ ss:En),(back ρ rs ss).length=ρ.length
 | [],ρ,ss=>by cases ss <;> rfl
 | r::rs,ρ,[]=>by cases r <;> rfl
 | .o j::rs,ρ,s::ss=>by show(back (pt ρ j s) rs ss).length=_;rw[eY,fk]
 | .d d::rs,ρ,s::ss=>eY rs ρ ss
 | .n d::rs,ρ,s::ss=>eY rs ρ ss
 | .t d::rs,ρ,s::ss=>eY rs ρ ss
 | .x d::rs,ρ,s::ss=>eY rs ρ ss
theorem gp:∀(rs:List R) (ρ ss:En) (i:Nat),(∀k:Nat,rs[k]? ≠ some (R.o i))->gt (back ρ rs ss) i=gt ρ i
 | [],ρ,ss,i,_=>by cases ss <;> rfl
 | r::rs,ρ,[],i,_=>by cases r <;> rfl
 | .o j::rs,ρ,s::ss,i,h=>by
  have ne:j≠i:=λe=>h 0 (by simp[e])
  show gt (back (pt ρ j s) rs ss) i=_
  rw[gp rs _ ss i (λk z=>h (k+1) (by simpa using z)),bT ρ j i s ne]
 | .d d::rs,ρ,s::ss,i,h=>gp rs ρ ss i (λk z=>h (k+1) (by simpa using z))
 | .n d::rs,ρ,s::ss,i,h=>gp rs ρ ss i (λk z=>h (k+1) (by simpa using z))
 | .t d::rs,ρ,s::ss,i,h=>gp rs ρ ss i (λk z=>h (k+1) (by simpa using z))
 | .x d::rs,ρ,s::ss,i,h=>gp rs ρ ss i (λk z=>h (k+1) (by simpa using z))
theorem il:∀(rs:List R) (ρ ss:En) (i k:Nat),dis rs=true->rs[k]? = some (.o i)->ss.length=rs.length->i<ρ.length->gt (back ρ rs ss) i=gt ss k
 | [],ρ,ss,i,k,_,h,_,_=>by simp at h
 | r::rs,ρ,[],i,k,_,_,e,_=>by simp at e
 | .o j::rs,ρ,s::ss,i,0,hd,h,e,l=>by
  simp at h;subst h
  simp[dis]at hd
  show gt (back (pt ρ j s) rs ss) j=s
  rw[gp rs _ ss j (λk z=>by have:=hd.1 _ (BC z);simp[isO]at this),jW ρ j s l]
 | .o j::rs,ρ,s::ss,i,k+1,hd,h,e,l=>by
  simp[dis]at hd
  exact il rs (pt ρ j s) ss i k hd.2 (by simpa using h) (by simpa using e) (by rw[fk];exact l)
 | .d d::rs,ρ,s::ss,i,0,hd,h,e,l=>by simp at h
 | .n d::rs,ρ,s::ss,i,0,hd,h,e,l=>by simp at h
 | .t d::rs,ρ,s::ss,i,0,hd,h,e,l=>by simp at h
 | .x d::rs,ρ,s::ss,i,0,hd,h,e,l=>by simp at h
 | .d d::rs,ρ,s::ss,i,k+1,hd,h,e,l=>il rs ρ ss i k hd (by simpa using h) (by simpa using e) l
 | .n d::rs,ρ,s::ss,i,k+1,hd,h,e,l=>il rs ρ ss i k hd (by simpa using h) (by simpa using e) l
 | .t d::rs,ρ,s::ss,i,k+1,hd,h,e,l=>il rs ρ ss i k hd (by simpa using h) (by simpa using e) l
 | .x d::rs,ρ,s::ss,i,k+1,hd,h,e,l=>il rs ρ ss i k hd (by simpa using h) (by simpa using e) l
theorem mv (ρ:En):∀(rs:List R) (k:Nat),gt (rs.map (cI ρ)) k=(match rs[k]? with | some r=>cI ρ r | none=>.un)
 | [],k=>by simp[gt]
 | r::rs,0=>by simp[gt]
 | r::rs,k+1=>by simp[gt,mv ρ rs k]
section
variable {K:bi}{F:Fr}{σ:St}{ρ ρ':En}{H H':Hp}{ovs:St}{rs:List R}
theorem Srcs.length (s:Srcs K F σ ρ H ovs rs):ovs.length=rs.length:=by
 induction s with
 | nil=>rfl
 | cons _ _ ih=>simp[ih]
theorem Srcs.get {k:Nat}{r:R}(s:Srcs K F σ ρ H ovs rs)(h:rs[k]? = some r):∃ov,ovs[k]? = some ov/\Src K F σ ρ H ov r:=by
 induction s generalizing k with
 | nil=>simp at h
 | cons a _ ih =>
  cases k with
  | zero=>simp at h;subst h;exact⟨_,rfl,a⟩
  | succ k=>obtain⟨ov,e,q⟩:=ih (by simpa using h);exact⟨ov,by simpa using e,q⟩
def dg (F:Fr)(σ:St)(ρ:En)(H:Hp)(ovs:St)(ss:En):Fr :=
 ⟨H,λa=>F.Z a∨(bE σ ρ a/\¬bE ovs ss a),λa=>bE ovs ss a,λi a=>(gt ss i).own=true/\ovs[i]? = some (some (.ref a)),λ_ _=>False⟩
theorem m4 (s:Srcs K F σ ρ H ovs rs){k:Nat}(h:(gt (rs.map (cI ρ)) k).own=true):∃j:Nat,rs[k]? = some (R.o j)/\(gt ρ j).own=true/\gt (rs.map (cI ρ)) k=gt ρ j/\ovs[k]? = some ((σ[j]?).getD none):=by
 rw[mv]at h
 cases e:rs[k]? with
 | none=>simp[e]at h;cases h
 | some r =>
  rw[e]at h
  cases r with
  | d d=>cases h
  | n d=>cases h
  | t d=>cases h
  | x d =>
   obtain⟨ov,_,_,_,hx,_⟩:=s.get e
   have h:d.own=true:=h
   rw[hx]at h;cases h
  | o j =>
   obtain⟨ov,e1,e2⟩:=s.get e
   exact⟨j,rfl,h,by rw[mv,e];rfl,by rw[e1,show _=ov from e2]⟩
theorem lg {x:Option (Option V)}{a:Addr}(h:some (x.getD none)=some (some (V.ref a))):x=some (some (.ref a)):=by
 cases x with
 | none=>simp at h
 | some y=>simpa using h
theorem df (s:Srcs K F σ ρ H ovs rs){a:Addr}(h:bE ovs (rs.map (cI ρ)) a):∃k j:Nat,rs[k]? = some (R.o j)/\(gt ρ j).own=true/\σ[j]? = some (some (V.ref a))/\ovs[k]? = some (some (V.ref a)):=by
 obtain⟨k,hk,e⟩:=h
 obtain⟨j,e1,e2,e3,e4⟩:=m4 s hk
 rw[e]at e4
 exact⟨k,j,e1,e2,lg e4.symm,e⟩
theorem lO (r:Rel K F σ ρ H)(s:Srcs K F σ ρ H ovs rs):hs (dg F σ ρ H ovs (rs.map (cI ρ))) ovs (rs.map (cI ρ))=hs F σ ρ:=by
 funext a
 apply propext
 constructor
 ·rintro((h | h) | h)
  ·exact .inl h
  ·exact .inr h.1
  ·obtain⟨k,j,e1,e2,e3,_⟩:=df s h
   exact .inr ⟨j,e2,e3⟩
 ·rintro(h | h)
  ·exact .inl (.inl h)
  ·by_cases q:bE ovs (rs.map (cI ρ)) a
   ·exact .inr q
   ·exact .inl (.inr ⟨h,q⟩)
theorem Rel.sub (r:Rel K F σ ρ H)(s:Srcs K F σ ρ H ovs rs)(hd:dis rs=true):Rel K (dg F σ ρ H ovs (rs.map (cI ρ))) ovs (rs.map (cI ρ)) H:=by
 refine⟨by rw[s.length,lw],λa o e _=>e,λa z=>?_,λa h z=>?_,λi a hi e=>.inl ⟨⟨hi,e⟩,i,hi,e⟩,λi a h=>?_,λa h=>?_,λa h=>?_,λi j a hi hj ei ej=>?_,λk=>?_⟩
 ·rcases z with z | z
  ·exact r.zl a z
  ·exact pk r z.1
 ·obtain⟨k,j,e1,e2,e3,_⟩:=df s h
  rcases z with z | z
  ·exact r.zo a ⟨j,e2,e3⟩ z
  ·exact z.2 h
 ·rcases h with h | h
  ·exact h.2
  ·exact h.elim
 ·obtain⟨k,j,e1,e2,e3,_⟩:=df s h
  exact dH r ⟨j,e2,e3⟩
 ·obtain⟨k,j,e1,e2,e3,_⟩:=df s h
  exact dH r ⟨j,e2,e3⟩
 ·obtain⟨p,a1,a2,a3,a4⟩:=m4 s hi
  obtain⟨p',b1,b2,b3,b4⟩:=m4 s hj
  rw[ei]at a4
  rw[ej]at b4
  have:p=p':=r.nd p p' a a2 b2 (lg a4.symm) (lg b4.symm)
  subst this
  exact vI hd a1 b1
 ·rw[lO r s,mv]
  cases e:rs[k]? with
  | none=>trivial
  | some x =>
   obtain⟨ov,e1,e2⟩:=s.get e
   cases x with
   | n d=>trivial
   | t d=>trivial
   | x d=>obtain⟨v,e3,_,e4⟩:=e2;rw[e1,e3];exact e4
   | d d=>obtain⟨v,e3,e4⟩:=e2;rw[e1,e3];exact⟨v,rfl,e4⟩
   | o j =>
    rw[e1]
    have q:=r.sl j
    show SvOk K _ H (some ov) (gt ρ j)
    rw[<- show(σ[j]?).getD none=ov from e2]
    cases e5:σ[j]? with
    | none =>
     rw[e5]at q
     cases hg:gt ρ j with
     | un=>trivial
     | vl d=>rw[hg]at q;obtain⟨x,z,_⟩:=q;cases z
     | ow d=>rw[hg]at q;obtain⟨x,_,z,_⟩:=q;cases z
     | tp d=>rw[hg]at q;obtain⟨x,_,_,_,_,z,_⟩:=q;cases z
     | dk d=>rw[hg]at q;obtain⟨x,_,z,_⟩:=q;cases z
     | dt d=>rw[hg]at q;obtain⟨x,_,z,_⟩:=q;cases z
     | ex d m=>rw[hg]at q;obtain⟨x,_,z,_⟩:=q;cases z
     | sc d=>rw[hg]at q;obtain⟨x,z,_⟩:=q;cases z
     | px d m k=>rw[hg]at q;obtain⟨x,_,_,_,z,_⟩:=q;cases z
     | xl es=>rw[hg]at q;obtain⟨x,_,z,_⟩:=q;cases z
     | ob _ _=>rw[hg]at q;obtain⟨x,_,_,z,_⟩:=q;cases z
     | ll _=>rw[hg]at q;obtain⟨x,_,_,z,_⟩:=q;cases z
     | ds _ _ _=>rw[hg]at q;obtain⟨x,_,_,_,_,_,z,_⟩:=q;cases z
    | some y=>rw[e5]at q;exact q
theorem Rel.back (r:Rel K F σ ρ H)(s:Srcs K F σ ρ H ovs rs)(hd:dis rs=true){ss':En}(r':Rel K (dg F σ ρ H ovs (rs.map (cI ρ))) ovs ss' H')(sb:∀i,(gt ss' i).own=true->(gt (rs.map (cI ρ)) i).own=true) :
  Rel K F σ (L2.back ρ rs ss') H'/\Kp σ ρ (L2.back ρ rs ss') H H'/\Same (hid H' (hs (dg F σ ρ H ovs (rs.map (cI ρ))) ovs ss')) (hid H' (hs F σ (L2.back ρ rs ss'))):=by
 have ln:ss'.length=rs.length:=by rw[<- r'.len,s.length]
 have cs:∀i:Nat,(∃k:Nat,rs[k]? = some (R.o i)/\i<ρ.length/\gt (L2.back ρ rs ss') i=gt ss' k)∨((∀k:Nat,i<ρ.length->rs[k]? ≠ some (R.o i))/\gt (L2.back ρ rs ss') i=gt ρ i):=λi=>by
  by_cases hi:i<ρ.length
  ·by_cases q:∃k:Nat,rs[k]? = some (R.o i)
   ·obtain⟨k,e⟩:=q
    exact .inl ⟨k,e,hi,il rs ρ ss' i k hd e ln hi⟩
   ·exact .inr ⟨λk _ z=>q ⟨k,z⟩,gp rs ρ ss' i λk z=>q ⟨k,z⟩⟩
  ·refine .inr ⟨λk z=>absurd z hi,?_⟩
   rw[kj _ i (by rw[eY];omega),kj _ i (by omega)]
 have own':∀i,(gt (L2.back ρ rs ss') i).own=true->(gt ρ i).own=true:=λi h=>by
  rcases cs i with⟨k,e,hi,g⟩ | ⟨_,g⟩
  ·rw[g]at h
   have:=sb k h
   rw[mv,e]at this
   exact this
  ·rw[g]at h;exact h
 have subo:∀ {a},bE σ (L2.back ρ rs ss') a->bE σ ρ a:=λ⟨i,hi,e⟩=>⟨i,own' i hi,e⟩
 have no:∀a,¬bE σ ρ a->¬bE ovs (rs.map (cI ρ)) a:=λa h z=>by
  obtain⟨k,j,e1,e2,e3,_⟩:=df s z
  exact h ⟨j,e2,e3⟩
 have st:∀a o,H a=some o->¬bE ovs (rs.map (cI ρ)) a->H' a=some o:=λa o e n=>r'.fr a o e n
 have hsub:∀a,hs F σ (L2.back ρ rs ss') a->hs (dg F σ ρ H ovs (rs.map (cI ρ))) ovs ss' a:=λa h=>by
  rcases h with h | ⟨i,hi,e⟩
  ·exact .inl (.inl h)
  ·rcases cs i with⟨k,e1,hl,g⟩ | ⟨n,g⟩
   ·right
    rw[g]at hi
    obtain⟨ov,q1,q2⟩:=s.get e1
    refine⟨k,hi,?_⟩
    rw[q1,<- show(σ[i]?).getD none=ov from q2,e]
    rfl
   ·left;right
    rw[g]at hi
    refine⟨⟨i,hi,e⟩,λz=>?_⟩
    obtain⟨k,j,e1,e2,e3,_⟩:=df s z
    have:i=j:=r.nd i j a hi e2 e e3
    subst this
    exact n k (jt hi) e1
 have v1:Same (hid H' (hs (dg F σ ρ H ovs (rs.map (cI ρ))) ovs ss')) (hid H' (hs F σ (L2.back ρ rs ss'))):=bc λa o e n=>⟨e,λz=>n (hsub a z)⟩
 have v2:Same (hid H (hs F σ ρ)) (hid H' (hs F σ (L2.back ρ rs ss'))):=bc λa o e n=>⟨st a o e (no a λz=>n (.inr z)),λz=>n (z.imp id subo)⟩
 refine⟨⟨by rw[eY,r.len],λa o e n=>?_,λa z=>r'.zl a (.inl z),λa h=>r.zo a (subo h),λi a hi e=>r.ow i a (own' i hi) e,r.mi,r.ml,λa z=>?_,λi j a hi hj ei ej=>r.nd i j a (own' i hi) (own' j hj) ei ej,λi=>?_⟩,⟨λa o e n=>st a o e (no a n),own'⟩,v1⟩
 ·have e1:=r.fr a o e n
  refine st a o e1 λz=>?_
  obtain⟨k,j,h1,h2,h3,_⟩:=df s z
  rcases r.ow j a h2 h3 with q | q
  ·exact n q.2
  ·rw[e]at q;cases q
 ·by_cases q:bE ovs (rs.map (cI ρ)) a
  ·exact r'.ma a q
  ·cases h:H a with
   | none=>exact absurd h (r.ma a z)
   | some o=>rw[st a o h q];exact λz=>nomatch z
 ·rcases cs i with⟨k,e1,hl,g⟩ | ⟨n,g⟩
  ·rw[g]
   have q:=(r'.sl k).keep v1 λ_ _ _ _ e=>e
   obtain⟨ov,q1,q2⟩:=s.get e1
   rw[q1,<- show(σ[i]?).getD none=ov from q2]at q
   cases e5:σ[i]? with
   | none =>
    rw[e5]at q
    cases hg:gt ss' k with
    | un=>trivial
    | vl d=>rw[hg]at q;obtain⟨x,z,_⟩:=q;cases z
    | ow d=>rw[hg]at q;obtain⟨x,_,z,_⟩:=q;cases z
    | tp d=>rw[hg]at q;obtain⟨x,_,_,_,_,z,_⟩:=q;cases z
    | dk d=>rw[hg]at q;obtain⟨x,_,z,_⟩:=q;cases z
    | dt d=>rw[hg]at q;obtain⟨x,_,z,_⟩:=q;cases z
    | ex d m=>rw[hg]at q;obtain⟨x,_,z,_⟩:=q;cases z
    | sc d=>rw[hg]at q;obtain⟨x,z,_⟩:=q;cases z
    | px d m k=>rw[hg]at q;obtain⟨x,_,_,_,z,_⟩:=q;cases z
    | xl es=>rw[hg]at q;obtain⟨x,_,z,_⟩:=q;cases z
    | ob _ _=>rw[hg]at q;obtain⟨x,_,_,z,_⟩:=q;cases z
    | ll _=>rw[hg]at q;obtain⟨x,_,_,z,_⟩:=q;cases z
    | ds _ _ _=>rw[hg]at q;obtain⟨x,_,_,_,_,_,z,_⟩:=q;cases z
   | some y=>rw[e5]at q;exact q
  ·rw[g]
   refine(r.sl i).keep v2 λl o ho e h=>st l o h λz=>?_
   obtain⟨k,j,e1,e2,e3,_⟩:=df s z
   have:i=j:=r.nd i j l ho e2 e e3
   subst this
   exact n k (jt ho) e1
end
abbrev ASp:=En->Ko->Prop
def F0 (vs:List V)(ss:En)(H:Hp)(Z:Addr->Prop):Fr:=⟨H,Z,λa=>bE (vs.map some) ss a,λi a=>(gt ss i).own=true/\(vs.map some)[i]? = some (some (.ref a)),λ_ _=>False⟩
def spA (K:bi)(S:ASp):Sp:=λvs H Q _=>∃ss Z q,Rel K (F0 vs ss H Z) (vs.map some) ss H/\S ss q /\
 ∀r ss' v H',q r ss'->(∀i,(gt ss' i).own=true->(gt ss i).own=true)->(∀i,r ≠ .o i)->RelR K (F0 vs ss H Z) (vs.map some) ss' v H' r->Q v H'
def yw (S:ASp)(as:AA):AE:=λρ q=>as ρ λrs ρ1=>dis rs=true/\S (rs.map (cI ρ1)) λr ss'=>q r (back ρ1 rs ss')
section
variable {K:bi}{F:Fr}{σ:St}{ρ ρ':En}{H H':Hp}{ovs:St}{rs:List R}
theorem InFs.srcs {vs:List V}(h:InFs K F σ ρ H vs rs):Srcs K F σ ρ H (vs.map some) rs:=by
 induction h with
 | nil=>exact .nil
 | cons a t ih =>
  rename_i v r vs rs
  refine .cons ?_ ih
  cases r with
  | d d=>exact⟨v,rfl,a⟩
  | o j=>show(σ[j]?).getD none=some v;rw[show σ[j]? = _ from a];rfl
  | n s=>trivial
  | t n=>trivial
  | x n=>exact⟨v,rfl,a⟩
theorem aM {S:ASp}{E:XK}{ts:TA}{as:AA}(hs':TAok K ts as):TEok K (rE (spA K S) [] E ts) (yw S as):=by
 intro F σ ρ H q Q r h k
 refine hs' F σ ρ H _ _ r h λrs ρ1 vs H1 h1 r1 i1 k1=>?_
 obtain⟨hd,hS⟩:=h1
 have s:=i1.srcs
 rw[Bn]
 refine⟨rs.map (cI ρ1),(dg F σ ρ1 H1 (vs.map some) (rs.map (cI ρ1))).Z,_,r1.sub s hd,hS,λrr ss' v H' hq sb no out=>?_⟩
 refine(k.after k1) rr (back ρ1 rs ss') v H' hq ?_
 cases rr with
 | o i=>exact absurd rfl (no i)
 | d d =>
  obtain⟨a,b⟩:=out
  obtain⟨x,y,z⟩:=r1.back s hd a sb
  exact⟨x,y,RepD.same b z⟩
 | x sv =>
  obtain⟨a,b,c⟩:=out
  obtain⟨x,y,z⟩:=r1.back s hd a sb
  exact⟨x,y,b,c.keep z λl o ho=>by rw[b]at ho;cases ho⟩
 | t n =>
  obtain⟨a,b⟩:=out
  obtain⟨x,y,z⟩:=r1.back s hd a sb
  exact⟨x,y,b⟩
 | n sv =>
  obtain⟨Hb,l,o,a,b,c,e1,e2,e3⟩:=out
  obtain⟨x,y,z⟩:=r1.back s hd a sb
  exact⟨Hb,l,o,x,y,b,c.keep z λ_ _ _ _ e=>e,e1,e2,e3⟩
end
section
variable {K:bi}{F:Fr}{σ σ':St}{ρ ρ':En}{H H':Hp}
open Classical in
noncomputable def rebase (F:Fr)(σ:St)(ρ:En)(H:Hp)(pin:Nat->Bool):Fr :=
 ⟨λa=>if bE σ ρ a/\F.H0 a=none then none else H a,F.Z,λa=>F.M a/\bE σ ρ a,F.I,λi a=>F.P i a∨(pin i=true/\σ[i]? = some (some (.ref a)))⟩
open Classical in
theorem jg {pin:Nat->Bool}{a:Addr}{o:HO}(h:¬(bE σ ρ a/\F.H0 a=none))(e:H a=some o):(rebase F σ ρ H pin).H0 a=some o:=by
 show(if bE σ ρ a/\F.H0 a=none then none else H a)=some o
 rw[if_neg h];exact e
open Classical in
theorem y2 {pin:Nat->Bool}{a:Addr}{o:HO}(e:(rebase F σ ρ H pin).H0 a=some o):H a=some o:=by
 have e':(if bE σ ρ a/\F.H0 a=none then none else H a)=some o:=e
 split at e'
 ·cases e'
 ·exact e'
open Classical in
theorem Rel.rebase (r:Rel K F σ ρ H)(pin:Nat->Bool):Rel K (L2.rebase F σ ρ H pin) σ ρ H where
 len:=r.len
 fr:=λa o e _=>y2 e
 zl:=r.zl
 zo:=r.zo
 ow:=λi a hi e=>by
  rcases r.ow i a hi e with⟨h1,h2⟩ | h
  ·exact .inl ⟨h1,h2,i,hi,e⟩
  ·refine .inr ?_
   show(if bE σ ρ a/\F.H0 a=none then none else H a)=none
   rw[if_pos ⟨⟨i,hi,e⟩,h⟩]
 mi:=λi a h=>by
  rcases h with h | h | h
  ·exact r.mi i a (.inl h)
  ·exact r.mi i a (.inr h)
  ·exact h.2
 ml:=λa h=>by
  cases e:H a with
  | none=>exact absurd e (r.ma a h.1)
  | some o=>rw[jg (λz=>r.ml a h.1 z.2) e];exact λz=>nomatch z
 ma:=λa h=>r.ma a h.1
 nd:=r.nd
 sl:=r.sl
theorem Rel.unbase {pin:Nat->Bool}(r:Rel K F σ ρ H)(r':Rel K (L2.rebase F σ ρ H pin) σ' ρ' H'):Rel K F σ' ρ' H'/\Same (hid H (hs F σ ρ)) (hid H' (hs F σ' ρ')):=by
 refine⟨⟨r'.len,λa o e n=>?_,r'.zl,r'.zo,λi a hi e=>?_,λi a h=>r'.mi i a (h.imp id .inl),r.ml,λa h=>?_,r'.nd,r'.sl⟩,bc λa o e n=>?_⟩
 ·exact r'.fr a o (jg (λz=>by rw[e]at z;cases z.2) (r.fr a o e n)) λz=>n z.1
 ·rcases r'.ow i a hi e with⟨h1,h2⟩ | h
  ·exact .inl ⟨h1,h2.1⟩
  ·right
   cases h0:F.H0 a with
   | none=>rfl
   | some o =>
    exfalso
    have nn:H a≠none:=by
     by_cases q:F.M a
     ·exact r.ma a q
     ·rw[r.fr a o h0 q];exact λz=>nomatch z
    cases e2:H a with
    | none=>exact nn e2
    | some u =>
     rw[jg (λz=>by rw[h0]at z;cases z.2) e2]at h
     cases h
 ·by_cases q:bE σ ρ a
  ·exact r'.ma a ⟨h,q⟩
  ·cases e:H a with
   | none=>exact absurd e (r.ma a h)
   | some o=>rw[r'.fr a o (jg (λz=>q z.1) e) λz=>q z.2];exact λz=>nomatch z
 ·have n':¬bE σ ρ a:=λz=>n (.inr z)
  have e0:=jg (F:=F) (pin:=pin) (λz=>n' z.1) e
  refine⟨r'.fr a o e0 λz=>n' z.2,λz=>?_⟩
  rcases z with z | ⟨i,hi,ei⟩
  ·exact n (.inl z)
  ·rcases r'.ow i a hi ei with⟨_,h2⟩ | h
   ·exact n' h2.2
   ·rw[e0]at h;cases h
theorem RelR.unbase {pin:Nat->Bool}{v:V}{rr:R}(r:Rel K F σ ρ H)(r':RelR K (L2.rebase F σ ρ H pin) σ' ρ' v H' rr):RelR K F σ' ρ' v H' rr:=by
 cases rr with
 | d d=>exact⟨(r.unbase r'.1).1,r'.2⟩
 | o d=>exact⟨(r.unbase r'.1).1,r'.2⟩
 | t d=>exact⟨(r.unbase r'.1).1,r'.2⟩
 | x d=>exact⟨(r.unbase r'.1).1,r'.2⟩
 | n s =>
  obtain⟨Hb,l,o,a,b,c,e⟩:=r'
  exact⟨Hb,l,o,(r.unbase a).1,b,c,e⟩
end
structure vW (K:bi)(F:Fr)(D:Ends)(e:AEnds):Prop where
 nx:∀ σ' ρ' H',e.nx ρ'->Rel K F σ' ρ' H'->D.nx σ' H'
 bk:∀ σ' ρ' H',e.bk ρ'->Rel K F σ' ρ' H'->D.bk σ' H'
 ct:∀ σ' ρ' H',e.ct ρ'->Rel K F σ' ρ' H'->D.ct σ' H'
 rt:∀ σ' ρ' r v H',e.rt r ρ'->RelR K F σ' ρ' v H' r->D.rt v H'
def TSok (K:bi)(pr:Nat->Bool)(t:TS)(a:AS):Prop:=∀F σ ρ H D e,(∀i a,F.pin i a->pr i=true)->Rel K F σ ρ H->a e ρ->vW K F D e->t D σ H
abbrev AG:=D->En->(En->Prop)->Prop
abbrev AGs:=List D->En->(En->Prop)->Prop
def TGok (K:bi)(pr:Nat->Bool)(g:TG)(ag:AG):Prop:=∀F σ ρ H v d k Q,(∀i a,F.pin i a->pr i=true)->Rel K F σ ρ H->RepD K (hid H (hs F σ ρ)) v d->ag d ρ k ->
 (∀ σ' ρ',k ρ'->Rel K F σ' ρ' H->σ'.length=σ.length->(∀i,pr i=true->σ'[i]? = σ[i]?)->(∀i,(gt ρ' i).own=true->(gt ρ i).own=true/\σ'[i]? = σ[i]?)->Q σ' H)->g v σ H Q
def vQ (K:bi)(pr:Nat->Bool)(n:Nat)(g:TGs)(ag:AGs):Prop:=(∀ds ρ k,ag ds ρ k->ds.length=n)/\∀F σ ρ H vs ds k Q,(∀i a,F.pin i a->pr i=true)->Rel K F σ ρ H->RepDs K (hid H (hs F σ ρ)) vs ds->ag ds ρ k ->
 (∀ σ' ρ',k ρ'->Rel K F σ' ρ' H->σ'.length=σ.length->(∀i,pr i=true->σ'[i]? = σ[i]?)->(∀i,(gt ρ' i).own=true->(gt ρ i).own=true/\σ'[i]? = σ[i]?)->Q σ' H)->g vs σ H Q
section
variable {K:bi}{pr:Nat->Bool}{t u:TS}{a b:AS}{te:TE}{ae:AE}{tt:TT}{at':AT}
theorem u6 {F:Fr}{i:Nat}(hp:∀i a,F.pin i a->pr i=true)(h:pr i=false):∀a,¬F.pin i a:=λa z=>by rw[hp i a z]at h;cases h
def dQ (i:Nat):AG:=λd ρ k=>k (pt ρ i (.vl d))
theorem az {i:Nat}(h:pr i=false):TGok K pr (vw i) (dQ i):=by
 intro F σ ρ H v d k Q hp r hd ha kk
 refine kk _ _ ha (r.set hd (u6 hp h)) (by rw[Ec]) (λj hj=>?_) λj hj=>?_
 ·rw[A3];rintro rfl;rw[h]at hj;cases hj
 ·obtain⟨ne,q⟩:=du rfl hj
  exact⟨q,by rw[A3 ne]⟩
def gaNil:AGs:=λds ρ k=>match ds with
 | []=>k ρ
 | _=>False
def eE (g:AG)(gs:AGs):AGs:=λds ρ k=>match ds with
 | d::r=>g d ρ λρ1=>gs r ρ1 k
 | []=>False
theorem aY:vQ K pr 0 gNil gaNil:=by
 refine⟨λds ρ k h=>?_,?_⟩
 ·cases ds with
  | nil=>rfl
  | cons _ _=>exact h.elim
 intro F σ ρ H vs ds k Q hp r hd ha kk
 cases ds with
 | cons _ _=>exact ha.elim
 | nil =>
  cases vs with
  | nil=>exact⟨rfl,kk _ _ ha r rfl (λ_ _=>rfl) λ_ h=>⟨h,rfl⟩⟩
  | cons v vs=>unfold RepDs at hd;exact hd.elim
theorem xG {F:Fr}{σ σ':St}{ρ ρ':En}{H:Hp}(h:∀i,(gt ρ' i).own=true->(gt ρ i).own=true/\σ'[i]? = σ[i]?):Same (hid H (hs F σ ρ)) (hid H (hs F σ' ρ')):=bc λa o e n=>⟨e,λz=>by
 rcases z with z | ⟨i,hi,ei⟩
 ·exact n (.inl z)
 ·obtain⟨q1,q2⟩:=h i hi
  exact n (.inr ⟨i,q1,q2▸ei⟩)⟩
theorem aA {g:TG}{gs:TGs}{ag:AG}{ags:AGs}{n:Nat}(h:TGok K pr g ag)(hs':vQ K pr n gs ags)(gl:∀d ρ k,ag d ρ k->∃ ρ',k ρ'):vQ K pr (n+1) (zX g gs) (eE ag ags):=by
 refine⟨λds ρ k ha=>?_,?_⟩
 ·cases ds with
  | nil=>exact ha.elim
  | cons d ds=>obtain⟨ρ',q⟩:=gl _ _ _ ha;rw[A6,hs'.1 _ _ _ q]
 intro F σ ρ H vs ds k Q hp r hd ha kk
 cases ds with
 | nil=>exact ha.elim
 | cons d ds =>
  cases vs with
  | nil=>unfold RepDs at hd;exact hd.elim
  | cons v vs =>
   unfold RepDs at hd
   refine⟨v,vs,rfl,h F σ ρ H v d _ _ hp r hd.1 ha λσ1 ρ1 h1 r1 l1 p1 o1=>?_⟩
   refine hs'.2 F σ1 ρ1 H vs ds _ _ hp r1 (hd.2.same (xG o1)) h1 λσ2 ρ2 h2 r2 l2 p2 o2=>?_
   refine kk _ _ h2 r2 (l2.trans l1) (λi hi=>(p2 i hi).trans (p1 i hi)) λi hi=>?_
   obtain⟨a1,a2⟩:=o2 i hi
   obtain⟨b1,b2⟩:=o1 i a1
   exact⟨b1,a2.trans b2⟩
def mx (n:Nat)(gs:AGs):AG:=λd ρ k=>match d with
 | .tup ds=>gs ds ρ k
 | _=>False
theorem aO {i:Nat}{d:D}{ρ:En}{k:En->Prop}(h:dQ i d ρ k):∃ ρ',k ρ':=⟨_,h⟩
theorem ba {gs:TGs}{ags:AGs}{n:Nat}(hs':vQ K pr n gs ags):TGok K pr (gTup K n gs) (mx n ags):=by
 intro F σ ρ H v d k Q hp r hd ha kk
 unfold mx at ha
 split at ha
 ·rename_i ds
  unfold RepD at hd
  obtain⟨p,vs,rfl,sq,rd⟩:=hd
  exact⟨p,vs,rfl,bV.seqT sq.sq,by rw[rd.length];exact hs'.1 _ _ _ ha,hs'.2 F σ ρ H vs ds k Q hp r rd ha kk⟩
 ·exact ha.elim
def aNext:AS:=λe ρ=>e.nx ρ
def aSeq (a b:AS):AS:=λe ρ=>a {e with nx:=b e} ρ
theorem bw:TSok K pr tNext aNext:=λF σ ρ H D e hp r h k=>k.nx _ _ _ h r
theorem aF (ha:TSok K pr t a)(hb:TSok K pr u b):TSok K pr (tSeq t u) (aSeq a b):=λF σ ρ H D e hp r h k =>
 ha F σ ρ H _ _ hp r h ⟨λσ' ρ' H' h' r'=>hb F σ' ρ' H' D e hp r' h' k,k.bk,k.ct,k.rt⟩
def AX (x:AE):AS:=λe ρ=>x ρ λ_ ρ1=>e.nx ρ1
theorem fJ (h:TEok K te ae):TSok K pr (yU te) (AX ae):=λF σ ρ H D e hp r ha k =>
 h F σ ρ H _ _ r ha λr1 ρ1 v H1 h1 o=>k.nx _ _ _ h1 o.inF.1
def aRet (x:AE):AS:=λe ρ=>x ρ e.rt
theorem aV (h:TEok K te ae):TSok K pr (tRet te) (aRet ae):=λF σ ρ H D e hp r ha k =>
 h F σ ρ H _ _ r ha λr1 ρ1 v H1 h1 o=>k.rt _ _ _ _ _ h1 o.rel
def aIfS (c:AT)(a b:AS):AS:=λe ρ=>c ρ λk ρ1=>if k=true then a e ρ1 else b e ρ1
theorem cP (hc:TTok K tt at')(ha:TSok K pr t a)(hb:TSok K pr u b):TSok K pr (tIfS tt t u) (aIfS at' a b):=by
 intro F σ ρ H D e hp r h k
 refine hc F σ ρ H _ _ r h λc ρ1 H1 h1 r1 k1=>?_
 cases c with
 | true=>exact ha F σ ρ1 H1 D e hp r1 h1 k
 | false=>exact hb F σ ρ1 H1 D e hp r1 h1 k
def stS (i:Nat):R->En->(En->Prop)->Prop
 | .d d,ρ,k=>k (pt ρ i (.vl d))
 | .n s,ρ,k=>k (pt ρ i s)
 | .o j,ρ,k=>(match gt ρ j with
  | .ow ds=>k (pt (pt ρ j (.vl (.lst ds))) i (.vl (.lst ds)))
  | .vl d=>k (pt ρ i (.vl d))
  | .ex C fs=>k (pt ρ i (.ex C fs))
  | .ob C fs=>k (pt ρ i (.ob C fs))
  | _=>False)
 | .t _,_,_=>False
 | .x s,ρ,k=>k (pt ρ i s)
def aSet (i:Nat)(x:AE):AS:=λe ρ=>x ρ λr ρ1=>stS i r ρ1 e.nx
theorem oV {i:Nat}(hi:pr i=false)(h:TEok K te ae):TSok K pr (λD σ H=>te σ H λv H'=>D.nx (σ.set i (some v)) H') (aSet i ae):=by
 intro F σ ρ H D e hp r ha k
 refine h F σ ρ H _ _ r ha λr1 ρ1 v H1 h1 o=>?_
 have np:=u6 hp hi
 cases r1 with
 | d d=>exact k.nx _ _ _ h1 (o.1.set o.2.2 np)
 | t n=>exact h1.elim
 | x s=>exact k.nx _ _ _ h1 (o.1.setS o.2.2.1 o.2.2.2 np)
 | n s =>
  obtain⟨Hb,l,u,a1,a2,a3,a4,a5,rfl,rfl⟩:=o
  exact k.nx _ _ _ h1 (a1.setF a3 a4 a5 np)
 | o j =>
  obtain⟨r1,k1,ej⟩:=o
  have h2:(match gt ρ1 j with
   | .ow ds=>e.nx (pt (pt ρ1 j (.vl (.lst ds))) i (.vl (.lst ds)))
   | .vl d=>e.nx (pt ρ1 i (.vl d))
   | .ex C fs=>e.nx (pt ρ1 i (.ex C fs))
   | .ob C fs=>e.nx (pt ρ1 i (.ob C fs))
   | _=>False):=h1
  clear h1
  split at h2
  ·rename_i ds hg
   obtain⟨l,el,r2,k2,rd⟩:=r1.frz hg
   rw[ej]at el
   injection el with el;injection el with el;subst el
   exact k.nx _ _ _ h2 (r2.set rd np)
  ·rename_i d hg
   have q:=r1.sl j
   rw[hg]at q
   obtain⟨x,e1,e2⟩:=q
   rw[ej]at e1
   injection e1 with e1;injection e1 with e1;subst e1
   exact k.nx _ _ _ h2 (r1.set e2 np)
  ·rename_i C fs hg
   have q:=r1.sl j
   rw[hg,ej]at q
   exact k.nx _ _ _ h2 (r1.setS rfl q np)
  ·rename_i C fs hg
   have q:=r1.sl j
   rw[hg,ej]at q
   exact k.nx _ _ _ h2 (r1.setS rfl q np)
  ·exact h2.elim
theorem aZ {i:Nat}(h:TEok K te ae)(hi:pr i=false):TSok K pr (tAsg te (vw i)) (aSet i ae):=oV hi h
theorem uG {i n:Nat}{js:List Nat}{wi:TI}{g:TG}{tc:TT}(h:TEok K (rD n js wi g tc te) ae)(hi:pr i=false):TSok K pr (λD σ H=>rD n js wi g tc te σ H λv H'=>D.nx (σ.set i (some v)) H') (aSet i ae):=oV hi h
def aAsg (x:AE)(g:AG):AS:=λe ρ=>x ρ λr ρ1=>sto [r.frz] ρ1 λds ρ2=>match ds with
 | [d]=>g d ρ2 e.nx
 | _=>False
theorem cQ {g:TG}{ag:AG}(h:TEok K te ae)(hg:TGok K pr g ag):TSok K pr (tAsg te g) (aAsg ae ag):=by
 intro F σ ρ H D e hp r ha k
 refine h F σ ρ H _ _ r ha λr1 ρ1 v H1 h1 o=>?_
 obtain⟨r',k1,i1⟩:=o.inF
 obtain⟨ds,ρ2,h2,r2,k2,rd⟩:=fW r' (.cons i1 .nil) h1
 split at h2
 ·rename_i d
  unfold RepDs at rd
  exact hg F σ ρ2 H1 v d _ _ hp r2 rd.1 h2 λσ3 ρ3 h3 r3 _ _ _=>k.nx _ _ _ h3 r3
 ·exact h2.elim
def aAug (i:Nat)(x:AE)(f:Int->Int->Int):AS:=λe ρ=>match gt ρ i with
 | .vl (.int p)=>x ρ λr ρ1=>(match r with
  | .d (.int y)=>e.nx (pt ρ1 i (.vl (.int (f p y))))
  | _=>False)
 | _=>False
theorem m7 {i:Nat}{f:Int->Int->Int}(h:TEok K te ae)(hi:pr i=false):TSok K pr (tAug i te (ipI f)) (aAug i ae f):=by
 intro F σ ρ H D e hp r ha k
 unfold aAug at ha
 split at ha
 ·rename_i p hg
  have q:=r.sl i
  rw[hg]at q
  obtain⟨x,e1,e2⟩:=q
  unfold RepD at e2;subst e2
  refine⟨_,e1,h F σ ρ H _ _ r ha λr1 ρ1 v H1 h1 o=>?_⟩
  obtain⟨r',k1,i1⟩:=o.inF
  split at h1
  ·exact⟨_,_,rfl,i1.int,k.nx _ _ _ h1 (r'.set (by unfold RepD;rfl) (u6 hp hi))⟩
  ·exact h1.elim
 ·exact ha.elim
def whA (c:AT)(b:AS)(e:AEnds):Nat->En->Prop
 | 0,_=>False
 | n+1,ρ=>c ρ λk ρ1=>if k=true then b {nx:=whA c b e n,ct:=whA c b e n,bk:=e.nx,rt:=e.rt} ρ1 else e.nx ρ1
def wL (c:AT)(b:AS):AS:=λe ρ=>∃n,whA c b e n ρ
theorem i_ (hc:TTok K tt at')(hb:TSok K pr t a):TSok K pr (ro tt t) (wL at' a):=by
 intro F σ ρ H D e hp r ha k
 obtain⟨n,ha⟩:=ha
 refine⟨λm σ H=>∃ ρ,Rel K F σ ρ H/\whA at' a e m ρ,⟨n,ρ,r,ha⟩,λm σ H ⟨ρ,r,h⟩=>?_⟩
 cases m with
 | zero=>exact h.elim
 | succ m =>
  refine hc F σ ρ H _ _ r h λc ρ1 H1 h1 r1 k1=>?_
  cases c with
  | false=>exact k.nx _ _ _ h1 r1
  | true =>
   refine⟨λσ' H'=>∃ ρ',Rel K F σ' ρ' H'/\whA at' a e m ρ',λσ' H' h'=>⟨m,CV m,h'⟩,?_⟩
   exact hb F σ ρ1 H1 _ _ hp r1 h1 ⟨λσ' ρ' H' h' r'=>⟨ρ',r',h'⟩,k.nx,λσ' ρ' H' h' r'=>⟨ρ',r',h'⟩,k.rt⟩
abbrev AI:=En->(List D->(En->Prop)->En->Prop)->Prop
def WkAt (K:bi)(S:Addr->Prop)(H:Hp)(J:It)(ds:List D):Prop:=∀k:Nat,(∀d,ds[k]? = some d->J.go k H/\∀x H',J.yld k H x H'->Same H H'/\RepD K (hid H' S) x d)/\(ds.length<=k->J.stop k H)
def TIok (K:bi)(pin:Nat->Bool)(wi:TI)(ai:AI):Prop:=∀F σ ρ H q Rk,Rel K F σ ρ H->ai ρ q->(∀ds c ρ' J H',q ds c ρ'->Rel K F σ ρ' H'->Kp σ ρ ρ' H H' ->
 (∀ σ2 ρ2 H2,Same (hid H' (hs F σ ρ')) (hid H2 (hs F σ2 ρ2))->(∀i,SvOk K (hid H2 (hs F σ2 ρ2)) H2 σ2[i]? (gt ρ2 i))->(∀j a,pin j=true->σ[j]? = some (some (.ref a))->σ2[j]? = some (some (.ref a)))->(∀a,hs F σ2 ρ2 a->Nt H2 a)->c ρ2->WkAt K (hs F σ2 ρ2) H2 J ds)->Rk J H')->wi σ H Rk
def rngD (lo:Int)(n:Nat):List D:=(zn n).map λ(i:Nat)=>D.int (lo+(i:Nat))
theorem dO (lo:Int)(n:Nat):(rngD lo n).length=n:=by simp[rngD]
theorem yG {S:Addr->Prop}{H:Hp}{lo:Int}{n:Nat}:WkAt K S H (Itr lo n) (rngD lo n):=by
 intro k
 constructor
 ·intro d h
  unfold rngD at h
  rw[wP]at h
  obtain⟨j,e1,e2⟩:=Bb.mp h
  have lt:k<n:=by
   rcases Bh k n with q | q
   ·exact q
   ·rw[CB (by simpa using q)]at e1;cases e1
  rw[Ek lt]at e1
  cases e1
  refine⟨lt,λx H' z=>⟨z.1▸Same.refl H,?_⟩⟩
  rw[z.2,<- e2]
  unfold RepD;rfl
 ·intro h;rw[dO]at h;exact h
def AN (as:AA):AI:=λρ q=>as ρ λrs ρ1=>match rs with
 | [.d (.int j)]=>(-(2^62)<=j/\j<2^62)/\q (rngD 0 j.toNat) (λ_=>True) ρ1
 | _=>False
theorem i9 {pin:Nat->Bool}{ta:TA}{as:AA}(h:TAok K ta as):TIok K pin (zS ta) (AN as):=by
 intro F σ ρ H q Rk r ha k
 refine h F σ ρ H _ _ r ha λrs ρ1 vs H1 h1 r1 i1 k1=>?_
 split at h1
 ·obtain⟨x,rfl,i⟩:=i1.one
  exact⟨_,by rw[i.int],h1.1.1,h1.1.2,k _ _ _ _ _ h1.2 r1 k1 λ_ _ _ _ _ _ _ _=>yG⟩
 ·exact h1.elim
def iSeq (K:bi)(tl:TE):TI:=λσ H R=>tl σ H λx H1=>∃a,x = .ref a/\(((∃xs,SqL K H1 a xs)/\R (Itl K a) H1)∨((∃xs,SqT K H1 a xs)/\R (Itt K a) H1))
theorem y_ {X:Cx}{tg l:Expr}{tl:TE}(hl:PE X l tl):PI X tg l (iSeq X.K tl):=by
 intro pins s σ H R I h
 refine thn (hl pins s σ H _ I h) λv s1 ⟨x,H1,I1,r1,q1⟩=>?_
 obtain⟨a,e,⟨⟨xs,hq⟩,q⟩ | ⟨⟨xs,hq⟩,q⟩⟩:=q1
 ·subst e
  cases r1
  obtain⟨its,rv,p,hz⟩:=I1.list hq
  refine wpAny_pyIter_list p.isList ?_
  refine⟨s1.heap.objs.size,[s1.heap.objs.size],_,_,H1,rfl,I1.kept (t':=s1.toks) λb o e=>dL _ e,qT a _,⟨_,wv _ rfl,rfl,rfl⟩,λb hb=>?_,q⟩
  have e:b=s1.heap.objs.size:=by simpa using hb
  subst e
  exact I1.fpOk (wl _) (I1.hok.fresh (wl _))
 ·subst e
  cases r1
  obtain⟨its,rv,p,hz⟩:=I1.tuple hq
  refine EO (show s1.heap.IsTuple a its.toArray from p) ?_
  refine⟨s1.heap.objs.size,[s1.heap.objs.size],_,_,H1,rfl,I1.kept (t':=s1.toks) λb o e=>dL _ e,p7 a _,⟨_,wv _ rfl,rfl,rfl⟩,λb hb=>?_,q⟩
  have e:b=s1.heap.objs.size:=by simpa using hb
  subst e
  exact I1.fpOk (wl _) (I1.hok.fresh (wl _))
theorem c7 (K:bi){X:Cx}{tg l:Expr}{tl:TE}(hl:PE X l tl)(hK:X.K=K:=by rfl):PI X tg l (iSeq K tl):=by subst hK;exact y_ hl
theorem vX {S:Addr->Prop}{H:Hp}{a:Addr}{vs:List V}{ds:List D}(h:SqL K H a vs)(rd:RepDs K (hid H S) vs ds):WkAt K S H (Itl K a) ds:=by
 intro k
 constructor
 ·intro d e
  obtain⟨v,e1,rv⟩:=rd.get e
  refine⟨⟨vs,v,h,e1⟩,λx H' z=>⟨z.1▸Same.refl H,?_⟩⟩
  have:=z.2 vs h
  rw[e1]at this;cases this;rw[z.1];exact rv
 ·intro z;exact⟨vs,h,by rw[rd.length];exact z⟩
theorem yF {S:Addr->Prop}{H:Hp}{a:Addr}{vs:List V}{ds:List D}(h:SqT K H a vs)(rd:RepDs K (hid H S) vs ds):WkAt K S H (Itt K a) ds:=by
 intro k
 constructor
 ·intro d e
  obtain⟨v,e1,rv⟩:=rd.get e
  refine⟨⟨vs,v,h,e1⟩,λx H' z=>⟨z.1▸Same.refl H,?_⟩⟩
  have:=z.2 vs h
  rw[e1]at this;cases this;rw[z.1];exact rv
 ·intro z;exact⟨vs,h,by rw[rd.length];exact z⟩
def AM (pin:Nat->Bool)(x:AE):AI:=λρ q=>x ρ λr ρ1=>match r.frz with
 | .d (.lst ds)=>q ds (λ_=>True) ρ1
 | .d (.tup ds)=>q ds (λ_=>True) ρ1
 | .o i=>(match gt ρ1 i with
  | .ow ds=>pin i=true/\q ds (λρ2=>gt ρ2 i = .ow ds) ρ1
  | _=>False)
 | _=>False
theorem cx {pin:Nat->Bool}(h:TEok K te ae):TIok K pin (iSeq K te) (AM pin ae):=by
 intro F σ ρ H q Rk r ha k
 refine h F σ ρ H _ _ r ha λr1 ρ1 x H1 h1 o1=>?_
 obtain⟨r',k1,i1⟩:=o1.inF
 split at h1
 ·rename_i ds e
  rw[e]at i1
  have rd:RepD K _ x (.lst ds):=i1
  unfold RepD at rd
  obtain⟨a,vs,rfl,sq,rd⟩:=rd
  refine⟨a,rfl,.inl ⟨⟨vs,bV.seq (StL.sq sq)⟩,k _ _ _ _ _ h1 r' k1 λσ2 ρ2 H2 sm _ _ _ _=>?_⟩⟩
  exact vX (bV.seq (sm.seq (StL.sq sq))) (rd.same sm)
 ·rename_i ds e
  rw[e]at i1
  have rd:RepD K _ x (.tup ds):=i1
  unfold RepD at rd
  obtain⟨a,vs,rfl,sq,rd⟩:=rd
  refine⟨a,rfl,.inr ⟨⟨vs,bV.seqT sq.sq⟩,k _ _ _ _ _ h1 r' k1 λσ2 ρ2 H2 sm _ _ _ _=>?_⟩⟩
  exact yF (bV.seqT (sm.seqT sq.sq)) (rd.same sm)
 ·rename_i i e
  rw[e]at i1
  have ei:σ[i]? = some (some x):=i1
  split at h1
  ·rename_i ds hg
   have s:=r'.sl i
   rw[hg,ei]at s
   obtain⟨a,vs,e1,hl,rd⟩:=s
   injection e1 with e1;injection e1 with e1;subst e1
   refine⟨a,rfl,.inl ⟨⟨vs,SqL.of hl⟩,k _ _ _ _ _ h1.2 r' k1 λσ2 ρ2 H2 sm sv pn _ hc=>?_⟩⟩
   have s2:=sv i
   rw[hc,pn i a h1.1 ei]at s2
   obtain⟨a',vs',e2,hl',rd'⟩:=s2
   injection e2 with e2;injection e2 with e2;injection e2 with e2;subst e2
   exact vX (SqL.of hl') rd'
  ·exact h1.elim
 ·exact h1.elim
def forA (c:En->Prop)(g:AG)(b:AS)(e:AEnds):List D->En->Prop
 | [],ρ=>c ρ/\e.nx ρ
 | d::ds,ρ=>c ρ/\g d ρ λρ1=>b {nx:=forA c g b e ds,ct:=forA c g b e ds,bk:=e.nx,rt:=e.rt} ρ1
def aFor (i:AI)(g:AG)(b:AS):AS:=λe ρ=>i ρ λds c ρ1=>forA c g b e ds ρ1
theorem fj {pin:Nat->Bool}{wi:TI}{ai:AI}{g:TG}{ag:AG}(hi:TIok K pin wi ai)(hg:TGok K (λj=>pr j||pin j) g ag)(hb:TSok K (λj=>pr j||pin j) t a):TSok K pr (tFor wi g t) (aFor ai ag a):=by
 intro F σ ρ H D e hp r ha k
 refine hi F σ ρ H _ _ r ha λds c ρ1 J H1 h1 r1 k1 wk=>?_
 have hp':∀i a,(rebase F σ ρ1 H1 pin).pin i a->(pr i||pin i)=true:=λi a h=>by
  rcases h with h | h | h
  ·rw[hp i a (.inl h)];rfl
  ·rw[hp i a (.inr h)];rfl
  ·rw[h.1];cases pr i <;> rfl
 have ek:vW K (rebase F σ ρ1 H1 pin) D e:=⟨λ_ _ _ h' r'=>k.nx _ _ _ h' (r1.unbase r').1,λ_ _ _ h' r'=>k.bk _ _ _ h' (r1.unbase r').1,λ_ _ _ h' r'=>k.ct _ _ _ h' (r1.unbase r').1,λ_ _ _ _ _ h' r'=>k.rt _ _ _ _ _ h' (RelR.unbase r1 r')⟩
 refine⟨λi m σ' H'=>∃ ρ',m=ds.length - i/\i<=ds.length/\Rel K (rebase F σ ρ1 H1 pin) σ' ρ' H'/\forA c ag a e (ds.drop i) ρ',⟨ds.length,ρ1,rfl,Bl _,r1.rebase pin,h1⟩,?_⟩
 rintro i m σ' H' ⟨ρ',rfl,hl,r',h'⟩
 have w:c ρ'->WkAt K (hs F σ' ρ') H' J ds:=λhc=>wk σ' ρ' H' (r1.unbase r').2 r'.sl (λj x hj ej=>r'.mi j x (.inr (.inr ⟨hj,ej⟩))) (λa z=>qC r' z) hc
 rcases Bh i ds.length with q | q
 ·right
  rw[Bo q]at h'
  unfold forA at h'
  obtain⟨hc,h'⟩:=h'
  obtain⟨go,yld⟩:=(w hc i).1 ds[i] (im q)
  refine⟨go,λσ2 H2=>∃ ρ2,Rel K (rebase F σ ρ1 H1 pin) σ2 ρ2 H2/\forA c ag a e (ds.drop (i+1)) ρ2,λσ2 H2 ⟨ρ2,r2,h2⟩=>⟨ds.length - (i+1),by omega,ρ2,rfl,q,r2,h2⟩,λx H2 hy=>?_⟩
  obtain⟨sm,rd⟩:=yld x H2 hy
  refine hg _ σ' ρ' _ x _ _ _ hp' (r'.grow sm) rd h' λσ3 ρ3 h3 r3 _ _ _=>?_
  exact hb _ σ3 ρ3 _ _ _ hp' r3 h3 ⟨λσ' ρ' H' h' r'=>⟨ρ',r',h'⟩,ek.nx,λσ' ρ' H' h' r'=>⟨ρ',r',h'⟩,ek.rt⟩
 ·left
  rw[BJ q]at h'
  unfold forA at h'
  obtain⟨hc,h'⟩:=h'
  exact⟨(w hc i).2 q,ek.nx _ _ _ h' r'⟩
end
def blkE (n:Nat)(js:List Nat)(ρ:En):En:=pc n .un++js.map (gt ρ)
def blkR (n:Nat)(js:List Nat):List R:=pc n (R.t "")++js.map R.o
theorem bp (n:Nat)(js:List Nat)(ρ:En):(blkR n js).map (cI ρ)=blkE n js ρ:=by
 unfold blkR blkE
 rw[Br,List.map_replicate,BF]
 rfl
theorem gW (js:List Nat):∀n,dis (blkR n js)=dis (js.map R.o)
 | 0=>rfl
 | n+1=>by
  show dis (R.t "" :: blkR n js)=_
  exact gW js n
theorem gX (js:List Nat)(ρ:En)(n:Nat):∀ss:En,ss.length=n+js.length->back ρ (blkR n js) ss=back ρ (js.map R.o) (ss.drop n):=by
 induction n with
 | zero=>intro ss _;rfl
 | succ n ih =>
  intro ss h
  cases ss with
  | nil=>simp at h;omega
  | cons s ss=>exact ih ss (by simp at h;omega)
theorem iX {n:Nat}{js:List Nat}{ρ:En}{i:Nat}(h:(gt (blkE n js ρ) i).own=true):n<=i:=by
 rcases Bh i n with q | q
 ·exfalso
  have:∀(n i:Nat) (x:En),i<n->gt (pc n Sv.un++x) i = .un:=by
   intro n
   induction n with
   | zero=>intro i x h;omega
   | succ n ih =>
    intro i x h
    cases i with
    | zero=>rfl
    | succ i=>exact ih i x (by omega)
  unfold blkE at h
  rw[this n i _ q]at h
  cases h
 ·exact q
section
variable {K:bi}{F:Fr}{σ σ':St}{ρ ρ':En}{H H':Hp}
theorem iW (n:Nat)(js:List Nat):Srcs K F σ ρ H (bst n σ js) (blkR n js):=by
 unfold bst blkR
 induction n with
 | zero =>
  induction js with
  | nil=>exact .nil
  | cons j js ih=>exact .cons rfl ih
 | succ n ih=>exact .cons trivial ih
theorem gm:∀(n i:Nat) (ρ:En),gt (ρ.drop n) i=gt ρ (n+i)
 | 0,i,ρ=>by simp
 | n+1,i,[]=>by simp[gt]
 | n+1,i,s::ρ=>by rw[List.drop_succ_cons,gm n i ρ,Nat.add_right_comm];rfl
theorem jG:∀(n i:Nat) (x:En),gt (pc n Sv.un++x) i=if i<n then .un else gt x (i - n)
 | 0,i,x=>by simp
 | n+1,0,x=>by simp[List.replicate_succ,gt]
 | n+1,i+1,x=>by
  show gt (pc n Sv.un++x) i=_
  rw[jG n i x]
  by_cases h:i<n
  ·rw[if_pos h,if_pos (by omega)]
  ·rw[if_neg h,if_neg (by omega)];congr 1;omega
theorem Rel.forget {n:Nat}(r:Rel K F σ ρ H)(hn:n<=σ.length)(hp:∀i a,F.pin i a->n<=i):Rel K F (pc n none++σ.drop n) (pc n .un++ρ.drop n) H/\Same (hid H (hs F σ ρ)) (hid H (hs F (pc n none++σ.drop n) (pc n .un++ρ.drop n))):=by
 have g:∀i,gt (pc n .un++ρ.drop n) i=if i<n then .un else gt ρ i:=λi=>by
  rw[jG]
  split
  ·rfl
  ·rw[gm];congr 1;omega
 have s:∀i,n<=i->(pc n none++σ.drop n)[i]? = σ[i]?:=λi h=>by
  rw[By (by simpa using h),Cf,Bt]
  congr 1;omega
 have own':∀i,(gt (pc n .un++ρ.drop n) i).own=true->n<=i/\(gt ρ i).own=true:=λi h=>by
  rw[g]at h
  split at h
  ·cases h
  ·exact⟨by omega,h⟩
 have sub:∀a,bE (pc n none++σ.drop n) (pc n .un++ρ.drop n) a->bE σ ρ a:=λa ⟨i,hi,e⟩=>by
  obtain⟨h1,h2⟩:=own' i hi
  rw[s i h1]at e
  exact⟨i,h2,e⟩
 have vis:Same (hid H (hs F σ ρ)) (hid H (hs F (pc n none++σ.drop n) (pc n .un++ρ.drop n))):=bc λa o e n=>⟨e,λz=>n (z.imp id (sub a))⟩
 refine⟨⟨by have:=r.len;simp;omega,r.fr,r.zl,λa h=>r.zo a (sub a h),λi a hi e=>?_,λi a h=>?_,r.ml,r.ma,λi j a hi hj ei ej=>?_,λi=>?_⟩,vis⟩
 ·obtain⟨h1,h2⟩:=own' i hi
  rw[s i h1]at e
  exact r.ow i a h2 e
 ·rw[s i (hp i a h)];exact r.mi i a h
 ·obtain⟨h1,h2⟩:=own' i hi
  obtain⟨h3,h4⟩:=own' j hj
  rw[s i h1]at ei
  rw[s j h3]at ej
  exact r.nd i j a h2 h4 ei ej
 ·rw[g]
  split
  ·trivial
  ·rw[s i (by omega)]
   exact(r.sl i).keep vis λ_ _ _ _ e=>e
end
def fV (n:Nat)(js:List Nat)(c:En->Prop)(g:AG)(tc:AT)(te:AE)(q:List D->En->Prop):List D->List D->En->Prop
 | [],acc,ρ=>c ρ/\q acc ρ
 | d::ds,acc,ρ=>c ρ/\g d (blkE n js ρ) λρ1=>tc ρ1 λb ρ2=>if b=true then te ρ2 λr ρ3=>sto [r.frz] ρ3 λes ρ4=>fV n js c g tc te q ds (acc++es) (back ρ (js.map R.o) (ρ4.drop n))else fV n js c g tc te q ds acc (back ρ (js.map R.o) (ρ2.drop n))
def AZ (n:Nat)(js:List Nat)(i:AI)(g:AG)(tc:AT)(te:AE):AE:=λρ q=>i ρ λds c ρ1=>ds.length<=1000000/\fV n js c g tc te (λacc ρ2=>q (.f acc) ρ2) ds [] ρ1
def aAll:AT:=λρ q=>q true ρ
section
variable {K:bi}
theorem c9:TTok K tAll aAll:=λF σ ρ H q Q r h k=>k _ _ _ h r .refl
theorem m5 {F:Fr}{σ:St}{ρ:En}{H:Hp}{v:V}{r:R}{q:List D->En->Prop}(a:Rel K F σ ρ H)(i:InF K F σ ρ H v r)(h:sto [r] ρ q):∃d ρ',q [d] ρ'/\Rel K F σ ρ' H/\Kp σ ρ ρ' H H/\RepD K (hid H (hs F σ ρ')) v d:=by
 obtain⟨ds,ρ',h1,h2,h3,h4⟩:=fW a (.cons i .nil) h
 cases ds with
 | nil=>unfold RepDs at h4;exact h4.elim
 | cons d ds =>
  unfold RepDs at h4
  cases ds with
  | nil=>exact⟨d,ρ',h1,h2,h3,h4.1⟩
  | cons _ _=>obtain⟨_,z⟩:=h4;unfold RepDs at z;exact z.elim
theorem fH {n:Nat}{js:List Nat}{wi:TI}{g:TG}{tc:TT}{te:TE}{ai:AI}{ag:AG}{atc:AT}{ate:AE}(hi:TIok K (λ_=>true) wi ai)(hg:TGok K (λj=>decide (n<=j)) g ag)(hc:TTok K tc atc)(he:TEok K te ate)
  (hd:dis (js.map R.o)=true:=by rfl):TEok K (rD n js wi g tc te) (AZ n js ai ag atc ate):=by
 intro F σ ρ H q Q r h k
 refine hi F σ ρ H _ _ r h λds c ρ1 J H1 h1 r1 k1 wk=>?_
 obtain⟨hz,h1⟩:=h1
 have hd':dis (blkR n js)=true:=by rw[gW];exact hd
 refine⟨λi m ys H'=>∃ ρ' acc,m=ds.length - i/\i<=ds.length/\Rel K F σ ρ' H'/\Kp σ ρ1 ρ' H1 H'/\RepDs K (hid H' (hs F σ ρ')) ys acc/\acc.length<=i/\fV n js c ag atc ate (λacc ρ2=>q (.f acc) ρ2) (ds.drop i) acc ρ',⟨ds.length,ρ1,[],rfl,Bl _,r1,.refl,.nil,Bl _,h1⟩,?_⟩
 rintro i m ys H' ⟨ρ',acc,rfl,hl,r',k',rd,al,h'⟩
 have w:c ρ'->WkAt K (hs F σ ρ') H' J ds:=λhc=>wk σ ρ' H' k'.vis r'.sl (λ_ _ _ e=>e) (λa z=>qC r' z) hc
 have yl:ys.length=acc.length:=rd.length
 rcases Bh i ds.length with lt | ge
 ·right
  rw[Bo lt]at h'
  unfold fV at h'
  obtain⟨hcc,h'⟩:=h'
  obtain⟨go,yld⟩:=(w hcc i).1 ds[i] (im lt)
  refine⟨go,j3 (by omega),λzs H2=>∃ ρ2 acc2,Rel K F σ ρ2 H2/\Kp σ ρ1 ρ2 H1 H2/\RepDs K (hid H2 (hs F σ ρ2)) zs acc2/\acc2.length<=i+1/\fV n js c ag atc ate (λacc ρ2=>q (.f acc) ρ2) (ds.drop (i+1)) acc2 ρ2,
   λzs H2 ⟨ρ2,acc2,a1,a2,a3,a4,a5⟩=>⟨ds.length - (i+1),by omega,ρ2,acc2,rfl,lt,a1,a2,a3,a4,a5⟩,λx H2 hy=>?_⟩
  obtain⟨sm,rx⟩:=yld x H2 hy
  have r0':=r'
  have k':Kp σ ρ1 ρ' H1 H2:=k'.trans ⟨λa o e _=>sm a o e,λ_ h=>h⟩
  have rd:RepDs K (hid H2 (hs F σ ρ')) ys acc:=rd.same (bc λa o e n=>⟨sm a o e,n⟩)
  have r':=r0'.grow sm
  have src:=iW (K:=K) (F:=F) (σ:=σ) (ρ:=ρ') (H:=H2) n js
  have rb:=r'.sub src hd'
  have hs2:=lO r' src
  rw[bp]at rb hs2
  have pin:∀i a,(dg F σ ρ' H2 (bst n σ js) (blkE n js ρ')).pin i a->decide (n<=i)=true:=λi a h=>by
   rcases h with h | h
   ·exact decide_eq_true (iX h.1)
   ·exact h.elim
  have hlen:(bst n σ js).length=n+js.length:=eW
  have ret:∀ σ2 ρ2 H3,Rel K (dg F σ ρ' H2 (bst n σ js) (blkE n js ρ')) σ2 ρ2 H3->σ2.length=(bst n σ js).length->σ2.drop n=capt σ js->(∀i,(gt ρ2 i).own=true->(gt (blkE n js ρ') i).own=true) ->
    Rel K F σ (back ρ' (js.map R.o) (ρ2.drop n)) H3/\Kp σ ρ' (back ρ' (js.map R.o) (ρ2.drop n)) H2 H3/\Same (hid H3 (hs (dg F σ ρ' H2 (bst n σ js) (blkE n js ρ')) σ2 ρ2)) (hid H3 (hs F σ (back ρ' (js.map R.o) (ρ2.drop n)))):=λσ2 ρ2 H3 rr hlen2 hdrop hown=>by
   obtain⟨f1,f2⟩:=rr.forget (n:=n) (by omega) λi a h=>of_decide_eq_true (pin i a h)
   rw[hdrop]at f1 f2
   have f1':Rel K (dg F σ ρ' H2 (bst n σ js) ((blkR n js).map (cI ρ'))) (bst n σ js) (pc n .un++ρ2.drop n) H3:=by rw[bp];exact f1
   have bk:=r'.back src hd' f1' λi hi=>by
    rw[bp]
    rw[jG]at hi
    split at hi
    ·cases hi
    ·rename_i hni
     rw[gm,show n+(i - n)=i by omega]at hi
     exact hown i hi
   have ln:(pc n Sv.un++ρ2.drop n).length=n+js.length:=by
    have:=rr.len
    simp;omega
   rw[gX js ρ' n _ ln,Db (by simp),bp]at bk
   exact⟨bk.1,bk.2.1,f2.trans bk.2.2⟩
  refine hg _ (bst n σ js) (blkE n js ρ') H2 x _ _ _ pin rb (by rw[hs2];exact rx) h' λσ2 ρ2 h2 r2 l2 p2 o2=>?_
  have hdrop:σ2.drop n=capt σ js:=by
   have:σ2.drop n=(bst n σ js).drop n:=by
    apply CJ
    intro i
    rw[Bt,Bt]
    exact p2 (n+i) (decide_eq_true (by omega))
   rw[this]
   unfold bst
   rw[Db (by simp)]
  refine⟨hdrop,hc _ σ2 ρ2 H2 _ _ r2 h2 λb ρ3 H3 h3 r3 k3=>?_⟩
  cases b with
  | false =>
   obtain⟨b1,b2,_⟩:=ret σ2 ρ3 H3 r3 l2 hdrop λi hi=>(o2 i (k3.sb i hi)).1
   exact⟨_,acc,b1,k'.trans b2,rd.same b2.vis,by omega,h3⟩
  | true =>
   refine he _ σ2 ρ3 H3 _ _ r3 h3 λr4 ρ4 v H4 h4 o4=>?_
   obtain⟨r4',k4,i4⟩:=o4.inF
   obtain⟨d,ρ5,h5,r5,k5,rv⟩:=m5 r4' i4 h4
   obtain⟨b1,b2,b3⟩:=ret σ2 ρ5 H4 r5 l2 hdrop λi hi=>(o2 i (k3.sb i (k4.sb i (k5.sb i hi)))).1
   exact⟨_,acc++[d],b1,k'.trans b2,(rd.same b2.vis).append (.one (rv.same b3)),by simp;omega,h5⟩
 ·left
  rw[BJ ge]at h'
  unfold fV at h'
  obtain⟨hcc,h'⟩:=h'
  refine⟨(w hcc i).2 ge,small (by omega),λl hl'=>?_⟩
  exact((k.after k1).after k').new r' h' rd hl'
end
def outS:En->En->En
 | [],_=>[]
 | s::ss,ρ=>(if s.own=true then gt ρ 0 else s)::outS ss ρ.tail
theorem x2 (ρ:En)(i:Nat):gt ρ.tail i=gt ρ (i+1):=by cases ρ <;> rfl
theorem pw:∀(ss ρ:En),(outS ss ρ).length=ss.length
 | [],_=>rfl
 | s::ss,ρ=>by simp[outS,pw ss]
theorem nZ:∀(ss ρ:En) (i:Nat),gt (outS ss ρ) i=if(gt ss i).own=true then gt ρ i else gt ss i
 | [],ρ,i=>by simp[outS,gt,Sv.own]
 | s::ss,ρ,0=>rfl
 | s::ss,ρ,i+1=>by
  show gt (outS ss ρ.tail) i=_
  rw[nZ ss ρ.tail i,x2]
  rfl
def fin (pr:Nat->Bool):R->En->Ko->Prop
 | .d d,ρ,k=>k (.d d) ρ
 | .n s,ρ,k=>k (.n s) ρ
 | .o i,ρ,k=>(match gt ρ i with
  | .ow ds=>if pr i=true then k (.d (.lst ds)) (pt ρ i (.vl (.lst ds)))else k (.n (.ow ds)) (pt ρ i .un)
  | .vl d=>k (.d d) ρ
  | .dk kvs=>if pr i=true then False else k (.n (.dk kvs)) (pt ρ i .un)
  | .dt kvs=>if pr i=true then False else k (.n (.dt kvs)) (pt ρ i .un)
  | _=>False)
 | .t _,_,_=>False
 | .x s,ρ,k=>k (.x s) ρ
def xH (pr:Nat->Bool)(ss:En):Prop:=∀i,(gt ss i).own=true->pr i=true
section
variable {K:bi}{F:Fr}{σ σ':St}{ρ ρ':En}{H H':Hp}
open Classical in
noncomputable def del (H:Hp)(l:Addr):Hp:=λa=>if a=l then none else H a
open Classical in
theorem lz {l:Addr}:del H l l=none:=by unfold del;rw[if_pos rfl]
open Classical in
theorem ku {a l:Addr}(h:a≠l):del H l a=H a:=by unfold del;rw[if_neg h]
theorem ie {l:Addr}{o:HO}(h:H l=some o):upd (del H l) l o=H:=by
 funext a
 by_cases e:a=l
 ·subst e;rw[aQ,h]
 ·rw[aL e,ku e]
theorem Rel.take (r:Rel K F σ ρ H){i:Nat}(hi:(gt ρ i).own=true)(hm:∀a,¬F.pin i a):∃l o,H l=some o/\σ[i]? = some (some (.ref l))/\Rel K F σ (pt ρ i .un) (del H l)/\SvOk K (hid (del H l) (hs F σ (pt ρ i .un))) H (some (some (.ref l))) (gt ρ i):=by
 have s:=r.sl i
 obtain⟨l,o,el,hl⟩:=s.alive hi
 have own':∀j,(gt (pt ρ i .un) j).own=true->i≠j/\(gt ρ j).own=true:=λj h=>du rfl h
 have sub:∀a,bE σ (pt ρ i .un) a->bE σ ρ a/\a≠l:=λa ⟨j,hj,e⟩=>by
  obtain⟨ij,hj⟩:=own' j hj
  exact⟨⟨j,hj,e⟩,λz=>ij (r.nd i j l hi hj el (z▸e))⟩
 have ol:bE σ ρ l:=⟨i,hi,el⟩
 have vis:Same (hid H (hs F σ ρ)) (hid (del H l) (hs F σ (pt ρ i .un))):=bc λa u e n=>by
  have al:a≠l:=λz=>n (.inr (z▸ol))
  exact⟨by rw[ku al];exact e,λz=>n (z.imp id λz=>(sub a z).1)⟩
 have h0:F.H0 l=none:=by
  rcases r.ow i l hi el with h | h
  ·exact absurd (Or.inl h.1) (hm l)
  ·exact h
 refine⟨l,o,hl,el,⟨by rw[fk,r.len],λa u e n=>?_,λa z=>?_,λa h=>r.zo a (sub a h).1,λj a hj e=>r.ow j a (own' j hj).2 e,r.mi,r.ml,λa z=>?_,λj k a hj hk ej ek=>r.nd j k a (own' j hj).2 (own' k hk).2 ej ek,λj=>?_⟩,?_⟩
 ·have al:a≠l:=λz=>by rw[z,h0]at e;cases e
  rw[ku al];exact r.fr a u e n
 ·have al:a≠l:=λq=>r.zo l ol (q▸z)
  unfold Nt;rw[ku al];exact r.zl a z
 ·have al:a≠l:=λq=>r.ml a z (q▸h0)
  rw[ku al];exact r.ma a z
 ·by_cases ij:i=j
  ·subst ij
   rw[jW ρ i _ (jt hi)];trivial
  ·rw[bT ρ i j _ ij]
   refine(r.sl j).keep vis λa u ho e h=>?_
   have al:a≠l:=λz=>ij (r.nd i j l hi ho el (z▸e))
   rw[ku al];exact h
 ·rw[el]at s
  exact s.keep vis λ_ _ _ _ e=>e
theorem Rel.out {vs:List V}{ss:En}{Z:Addr->Prop}(r0:Rel K (F0 vs ss H Z) (vs.map some) ss H)(r:Rel K (F0 vs ss H Z) σ' ρ' H') :
  Rel K (F0 vs ss H Z) (vs.map some) (outS ss ρ') H'/\Same (hid H' (hs (F0 vs ss H Z) σ' ρ')) (hid H' (hs (F0 vs ss H Z) (vs.map some) (outS ss ρ')))/\∀i,(gt (outS ss ρ') i).own=true->(gt ss i).own=true:=by
 have own':∀i,(gt (outS ss ρ') i).own=true->(gt ss i).own=true/\(gt ρ' i).own=true:=λi h=>by
  rw[nZ]at h
  split at h
  ·rename_i q;exact⟨q,h⟩
  ·rename_i q;exact absurd h q
 have same:∀i a,(gt ss i).own=true->(vs.map some)[i]? = some (some (.ref a))->σ'[i]? = some (some (.ref a)):=λi a h e=>r.mi i a (.inl ⟨h,e⟩)
 have sub:∀a,bE (vs.map some) (outS ss ρ') a->bE σ' ρ' a/\bE (vs.map some) ss a:=λa ⟨i,hi,e⟩=>by
  obtain⟨h1,h2⟩:=own' i hi
  exact⟨⟨i,h2,same i a h1 e⟩,⟨i,h1,e⟩⟩
 have v1:Same (hid H' (hs (F0 vs ss H Z) σ' ρ')) (hid H' (hs (F0 vs ss H Z) (vs.map some) (outS ss ρ'))):=bc λa o e n=>⟨e,λz=>n (z.imp id λz=>(sub a z).1)⟩
 have v2:Same (hid H (hs (F0 vs ss H Z) (vs.map some) ss)) (hid H' (hs (F0 vs ss H Z) (vs.map some) (outS ss ρ'))):=bc λa o e n=>⟨r.fr a o e λz=>n (.inr z),λz=>n (z.imp id λz=>(sub a z).2)⟩
 refine⟨⟨by rw[pw,r0.len],r.fr,r.zl,λa h=>r.zo a (sub a h).1,λi a hi e=>.inl ⟨⟨(own' i hi).1,e⟩,i,(own' i hi).1,e⟩,r0.mi,r.ml,r.ma,λi j a hi hj ei ej=>r0.nd i j a (own' i hi).1 (own' j hj).1 ei ej,λi=>?_⟩,v1,λi h=>(own' i h).1⟩
 rw[nZ]
 split
 ·rename_i q
  obtain⟨l,o,e1,e2⟩:=(r0.sl i).alive q
  have:=same i l q e1
  rw[e1,<- this]
  exact(r.sl i).keep v1 λ_ _ _ _ e=>e
 ·rename_i q
  exact(r0.sl i).keep v2 λl o ho=>absurd ho q
theorem mw:∀(ρ:En) (n i:Nat),gt (ρ++pc n .un) i=gt ρ i
 | [],n,i=>by
  show gt (pc n .un) i = .un
  induction n generalizing i with
  | zero=>rfl
  | succ n ih=>cases i with
   | zero=>rfl
   | succ i=>exact ih i
 | s::ρ,n,0=>rfl
 | s::ρ,n,i+1=>mw ρ n i
theorem Rel.ext (r:Rel K F σ ρ H)(n:Nat):Rel K F (σ++pc n none) (ρ++pc n .un) H:=by
 have s:∀ {i a},(gt ρ i).own=true->(σ++pc n none)[i]? = some (some (V.ref a))->σ[i]? = some (some (.ref a)):=λ{i a} h e=>by
  rwa [Bi (by rw[r.len];exact jt h)]at e
 have sub:∀a,bE (σ++pc n none) (ρ++pc n .un) a->bE σ ρ a:=λa ⟨i,hi,e⟩=>by
  rw[mw]at hi
  exact⟨i,hi,s hi e⟩
 have vis:Same (hid H (hs F σ ρ)) (hid H (hs F (σ++pc n none) (ρ++pc n .un))):=bc λa o e n=>⟨e,λz=>n (z.imp id (sub a))⟩
 refine⟨by simp[r.len],r.fr,r.zl,λa h=>r.zo a (sub a h),λi a hi e=>?_,λi a h=>?_,r.ml,r.ma,λi j a hi hj ei ej=>?_,λi=>?_⟩
 ·rw[mw]at hi
  exact r.ow i a hi (s hi e)
 ·have:=r.mi i a h
  rw[Bi (sK.mp this).1];exact this
 ·rw[mw]at hi hj
  exact r.nd i j a hi hj (s hi ei) (s hj ej)
 ·rw[mw]
  have q:=r.sl i
  rcases Bh i σ.length with lt | ge
  ·rw[Bi lt]
   exact q.keep vis λ_ _ _ _ e=>e
  ·rw[kj ρ i (by rw[<- r.len];exact ge)];trivial
end
theorem oA {K:bi}{ps:List Str}{S:ASp}(hS:∀ss q,S ss q->ss.length=ps.length):∀vs H Q E,spA K S vs H Q E->vs.length=ps.length:=λvs H Q E h=>by
 obtain⟨ss,Z,q,r,hs',_⟩:=h
 have:=r.len
 rw[lw]at this
 rw[this];exact hS ss q hs'
theorem pY {P:wT}{w:Bf}{K:bi}{mg:Str->Option bv}{base:Heap}{x:Str}{st:Stmt}{N ps:List Str}{a:AS}(pr:Nat->Bool)(S:ASp){f:Addr}{cdv:bv}{A:Bg}{outer:List Env}{s:db}{H:Hp}{vs:List V}{Q:VK}{E:XK}
  (hbody:∃t,PSs (cxOf CX0 P w K mg base N x (ar st) f cdv A outer s H E).nox (bu st) t/\TSok K pr t a)
  (hS:∀ss q,S ss q->ss.length=ps.length/\xH pr ss/\a ⟨λρ=>q (.d .non) (outS ss ρ),λr ρ=>fin pr r ρ λr' ρ'=>q r' (outS ss ρ'),λ_=>False,λ_=>False⟩ (ss++pc (N.length - ps.length) .un))
  (h:spA K S vs H Q E):∃t,PSs (cxOf CX0 P w K mg base N x (ar st) f cdv A outer s H E).nox (bu st) t/\t {nx:=λ_ H'=>Q .non H',rt:=Q} (start N vs) H:=by
 have hl:=oA (λss q h=>(hS ss q h).1) _ _ _ _ h
 obtain⟨ss,Z,q,r0,hs',post⟩:=h
 obtain⟨h1,h2,h3⟩:=hS ss q hs'
 obtain⟨t,ht,tok⟩:=hbody
 refine⟨t,ht,?_⟩
 have hp:∀i a,(F0 vs ss H Z).pin i a->pr i=true:=λi a h=>by
  rcases h with h | h
  ·exact h2 i h.1
  ·exact h.elim
 unfold start
 rw[hl]
 have fin_d:∀ σ' ρ' v H' d,q (.d d) (outS ss ρ')->Rel K (F0 vs ss H Z) σ' ρ' H'->RepD K (hid H' (hs (F0 vs ss H Z) σ' ρ')) v d->Q v H':=λσ' ρ' v H' d hq r rd=>by
  obtain⟨o1,o2,o3⟩:=r0.out r
  exact post (.d d) _ v H' hq o3 (λi z=>nomatch z) ⟨o1,rd.same o2⟩
 refine tok (F0 vs ss H Z) _ _ H _ _ hp (r0.ext _) h3 ⟨λσ' ρ' H' hq r=>?_,λ_ _ _ z=>z.elim,λ_ _ _ z=>z.elim,λσ' ρ' rr v H' hq r=>?_⟩
 ·exact fin_d σ' ρ' _ H' .non hq r (by unfold RepD;rfl)
 ·cases rr with
  | d d=>exact fin_d σ' ρ' v H' d hq r.1 r.2
  | t n=>exact hq.elim
  | x s =>
   obtain⟨ra,rb,rc⟩:=r
   obtain⟨o1,o2,o3⟩:=r0.out ra
   exact post (.x s) _ v H' hq o3 (λi z=>nomatch z) ⟨o1,rb,rc.keep o2 λl o ho=>by rw[rb]at ho;cases ho⟩
  | n sv =>
   obtain⟨Hb,l,o,a1,a2,a3,a4,a5,a6⟩:=r
   obtain⟨o1,o2,o3⟩:=r0.out a1
   exact post (.n sv) _ v H' hq o3 (λi z=>nomatch z) ⟨Hb,l,o,o1,a2,a3.keep o2 λ_ _ _ _ e=>e,a4,a5,a6⟩
  | o i =>
   obtain⟨r,ei⟩:=r
   have hq':(match gt ρ' i with
    | .ow ds=>if pr i=true then q (.d (.lst ds)) (outS ss (pt ρ' i (.vl (.lst ds))))else q (.n (.ow ds)) (outS ss (pt ρ' i .un))
    | .vl d=>q (.d d) (outS ss ρ')
    | .dk kvs=>if pr i=true then False else q (.n (.dk kvs)) (outS ss (pt ρ' i .un))
    | .dt kvs=>if pr i=true then False else q (.n (.dt kvs)) (outS ss (pt ρ' i .un))
    | _=>False):=hq
   clear hq
   split at hq'
   ·rename_i ds hg
    split at hq'
    ·obtain⟨l,el,r2,k2,rd⟩:=r.frz hg
     rw[ei]at el
     injection el with el;injection el with el;subst el
     exact fin_d σ' _ _ H' _ hq' r2 rd
    ·rename_i hpr
     have ho:(gt ρ' i).own=true:=by rw[hg];rfl
     obtain⟨l,o,hl',el,r2,sv⟩:=r.take ho λa z=>hpr (hp i a z)
     rw[ei]at el
     injection el with el;injection el with el;subst el
     obtain⟨o1,o2,o3⟩:=r0.out r2
     rw[hg]at sv
     refine post (.n (.ow ds)) _ _ H' hq' o3 (λi z=>nomatch z) ⟨del H' l,l,o,o1,rfl,?_,lz,(ie hl').symm,rfl⟩
     rw[ie hl']
     exact sv.keep o2 λ_ _ _ _ e=>e
   ·rename_i d hg
    have s:=r.sl i
    rw[hg,ei]at s
    obtain⟨x,e1,rd⟩:=s
    injection e1 with e1;injection e1 with e1;subst e1
    exact fin_d σ' ρ' _ H' d hq' r rd
   ·rename_i kvs hg
    split at hq'
    ·exact hq'.elim
    ·rename_i hpr
     have ho:(gt ρ' i).own=true:=by rw[hg];rfl
     obtain⟨l,o,hl',el,r2,sv⟩:=r.take ho λa z=>hpr (hp i a z)
     rw[ei]at el
     injection el with el;injection el with el;subst el
     obtain⟨o1,o2,o3⟩:=r0.out r2
     rw[hg]at sv
     refine post (.n (.dk kvs)) _ _ H' hq' o3 (λi z=>nomatch z) ⟨del H' l,l,o,o1,rfl,?_,lz,(ie hl').symm,rfl⟩
     rw[ie hl']
     exact sv.keep o2 λ_ _ _ _ e=>e
   ·rename_i kvs hg
    split at hq'
    ·exact hq'.elim
    ·rename_i hpr
     have ho:(gt ρ' i).own=true:=by rw[hg];rfl
     obtain⟨l,o,hl',el,r2,sv⟩:=r.take ho λa z=>hpr (hp i a z)
     rw[ei]at el
     injection el with el;injection el with el;subst el
     obtain⟨o1,o2,o3⟩:=r0.out r2
     rw[hg]at sv
     refine post (.n (.dt kvs)) _ _ H' hq' o3 (λi z=>nomatch z) ⟨del H' l,l,o,o1,rfl,?_,lz,(ie hl').symm,rfl⟩
     rw[ie hl']
     exact sv.keep o2 λ_ _ _ _ e=>e
   ·exact hq'.elim
theorem DefN.aok {P:wT}{w:Bf}{K:bi}{mg:Str->Option bv}{base:Heap}{x:Str}{st:Stmt}{N ps:List Str}{k:Nat}{a:AS}(D:DefN K mg x st ps)(Sc:aX N ps (ar st))(pr:Nat->Bool)(S:ASp)
  (hbody:∀(f:Addr) (cdv:bv) (A:Bg) (outer:List Env) (s:db) (H:Hp) (E:XK),Room k (A.deeper (DW x (ar st) s.heap.objs.size f cdv)) ->
   ∃t,PSs (cxOf CX0 P w K mg base N x (ar st) f cdv A outer s H E).nox (bu st) t/\TSok K pr t a)
  (hS:∀ss q,S ss q->ss.length=ps.length/\xH pr ss/\a ⟨λρ=>q (.d .non) (outS ss ρ),λr ρ=>fin pr r ρ λr' ρ'=>q r' (outS ss ρ'),λ_=>False,λ_=>False⟩ (ss++pc (N.length - ps.length) .un)):OkN P w K mg base (k+1) x ps (spA K S) :=
 D.ok Sc (oA λss q h=>(hS ss q h).1) λf cdv A outer s H vs Q E hr h=>pY pr S (hbody f cdv A outer s H E hr) hS h
def SLaw:ASp:=λss q=>∃ns:List Int,ns.length<=63/\ss=[.sc ns]/\∀ss',q (.d (.bl true)) ss'
theorem zF {P:wT}{w:Bf}{K:bi}{mg:Str->Option bv}{base:Heap}{k:Nat}{x:Str}{ps:List Str}(h:OkN P w K mg base k x ps (spA K SLaw)):OkN P w K mg base k x ps (xj K):=by
 obtain⟨f,fd,a1,a2,a3,a4,g⟩:=h.ex
 refine⟨f,fd,a1,a2,a3,a4,g.imp λvs H Q E hq=>?_⟩
 obtain⟨a,ns,rfl,sq,hl,k⟩:=hq
 refine⟨[.sc ns],λ_=>False,λr _=>r = .d (.bl true),⟨rfl,λa o e _=>e,λa z=>z.elim,λa _ z=>z,λi a hi _=>?_,λi a h=>?_,λa h=>?_,λa h=>?_,λi j a hi=>?_,λi=>?_⟩,⟨ns,hl,rfl,λ_=>rfl⟩,λr ss' v H' e1 _ _ rr=>?_⟩
 ·exfalso;cases i with
  | zero=>cases hi
  | succ i=>cases hi
 ·rcases h with h | h
  ·cases i with
   | zero=>cases h.1
   | succ i=>cases h.1
  ·exact h.elim
 ·obtain⟨i,hi,_⟩:=h
  cases i with
  | zero=>cases hi
  | succ i=>cases hi
 ·obtain⟨i,hi,_⟩:=h
  cases i with
  | zero=>cases hi
  | succ i=>cases hi
 ·exfalso;cases i with
  | zero=>cases hi
  | succ i=>cases hi
 ·cases i with
  | succ i=>trivial
  | zero =>
   refine⟨a,rfl,?_⟩
   refine(show Same H (hid H _)from λb o e=>eD (λz=>?_) e).seq sq
   rcases z with z | ⟨i,hi,_⟩
   ·exact z
   ·cases i with
    | zero=>cases hi
    | succ i=>cases hi
 ·subst e1
  obtain⟨_,rd⟩:=rr
  unfold RepD at rd
  subst rd
  exact k H'
def rJ (K:bi):Sp:=λvs H Q _=>∃(t c:Addr) (m sp lf:Int) (ns:List Int) (n:Nat),vs=[.ref t,.int m]/\H t=some (.dK (cD c sp lf))/\SqL K H c (ns.map V.int)/\0<=sp/\sp<=n/\0<=lf/\n<1000000000000/\Dv m /\
 ∀(r:Nat) (sp' lf':Int),(r:Int)<m->0<=sp'->sp'<=(n+1:Nat)->0<=lf'->Q (.int (r:Nat)) (upd H t (.dK (cD c sp' lf')))
def rG (K:bi):Sp:=λvs H Q _=>∃(a:Addr) (ns:List Int),vs=[.ref a]/\SqL K H a (ns.map V.int) /\
 ∀t c,H t=none->H c=none->t≠c->Q (.ref t) (upd (upd H c (.lst ((ns.take 63).map V.int))) t (.dK (cD c 0 0)))
def yz:ASp:=λss q=>∃ns:List Int,ss=[.sc ns]/\q (.n (.tp 0)) [.sc ns]
def vT:ASp:=λss q=>∃(n:Nat) (m:Int),ss=[.tp n,.vl (.int m)]/\n<1000000000000/\Dv m/\∀r:Nat,(r:Int)<m->q (.d (.int r)) [.tp (n+1),.vl (.int m)]
theorem OkN.imp {P:wT}{w:Bf}{K:bi}{mg:Str->Option bv}{base:Heap}{k:Nat}{x:Str}{ps:List Str}{sp sp':Sp}(h:OkN P w K mg base k x ps sp)(i:∀vs H Q E,sp' vs H Q E->sp vs H Q E):OkN P w K mg base k x ps sp':=by
 obtain⟨f,fd,a1,a2,a3,a4,g⟩:=h.ex
 exact⟨f,fd,a1,a2,a3,a4,g.imp i⟩
theorem Ac {vs:List V}{s:Sv}{F:Fr}{K:bi}{H:Hp}(r:Rel K F (vs.map some) [s] H):∃x,vs=[x]:=by
 have:=r.len
 match vs,this with
 | [x],_=>exact⟨x,rfl⟩
theorem Ab {vs:List V}{s s':Sv}{F:Fr}{K:bi}{H:Hp}(r:Rel K F (vs.map some) [s,s'] H):∃x y,vs=[x,y]:=by
 have:=r.len
 match vs,this with
 | [x,y],_=>exact⟨x,y,rfl⟩
theorem yg {K:bi}(vs:List V)(H:Hp)(Q:VK)(E:XK)(h:spA K vT vs H Q E):rJ K vs H Q E:=by
 obtain⟨ss,Z,q,r,⟨n,m,rfl,hn,hm,hq⟩,post⟩:=h
 obtain⟨x,y,rfl⟩:=Ab r
 obtain⟨t,c,ns,sp,lf,e0,ht,hc,h1,h2,h3⟩:=r.sl 0
 obtain⟨y',e1,ry⟩:=r.sl 1
 unfold RepD at ry
 injection e0 with e0;injection e0 with e0;subst e0
 injection e1 with e1;injection e1 with e1
 subst e1 ry
 refine⟨t,c,m,sp,lf,ns,n,rfl,ht,bV.seq hc,h1,h2,h3,hn,hm,λrr sp' lf' hr a1 a2 a3=>?_⟩
 have hw:=r.write (i:=0) (l:=t) (o:=.dK (cD c sp' lf')) (s:=.tp (n+1)) rfl rfl rfl ⟨t,c,ns,sp',lf',rfl,aQ,hc,a1,a2,a3⟩
 refine post (.d (.int rr)) [.tp (n+1),.vl (.int m)] _ _ (hq rr hr) (λi h=>?_) (λi z=>nomatch z) ⟨hw.1,by unfold RepD;rfl⟩
 match i,h with
 | 0,_=>rfl
 | 1,h=>cases h
 | i+2,h=>cases h
theorem xb {K:bi}(vs:List V)(H:Hp)(Q:VK)(E:XK)(h:spA K yz vs H Q E):rG K vs H Q E:=by
 obtain⟨ss,Z,q,r,⟨ns,rfl,hq⟩,post⟩:=h
 obtain⟨x,rfl⟩:=Ac r
 obtain⟨a,e0,sq⟩:=r.sl 0
 injection e0 with e0;injection e0 with e0;subst e0
 refine⟨a,ns,rfl,bV.seq sq,λt c ht hc htc=>?_⟩
 have rc:=r.fresh (o:=.lst ((ns.take 63).map V.int)) hc
 have kc:Kp ([V.ref a].map some) [.sc ns] [.sc ns] H (upd H c (.lst ((ns.take 63).map V.int))):=Kp.fresh hc
 have ht':(upd H c (.lst ((ns.take 63).map V.int))) t=none:=by rw[aL htc];exact ht
 refine post (.n (.tp 0)) _ _ _ hq (λi h=>h) (λi z=>nomatch z) ⟨_,t,_,rc,rfl,⟨t,c,ns.take 63,0,0,rfl,aQ,SqL.of (eD (fq r hc) aQ),by decide,by decide,by decide⟩,ht',rfl,rfl⟩
section
variable {K:bi}{F:Fr}{σ:St}{ρ ρ':En}{H H':Hp}{ta tb tc:TE}{a b c:AE}{rr rr':R2}{g g':R->R->AE}
def Aj (g g':R->R->AE)(a b c:AE):AE:=λρ q=>a ρ λr1 ρ1=>b ρ1 λr2 ρ2=>g r1.frz r2.frz ρ2 λr3 ρ3=>match r3 with
 | .d (.bl k)=>if k=true then c ρ3 λr4 ρ4=>g' r2.frz r4.frz ρ4 q else q (.d (.bl false)) ρ3
 | _=>False
theorem q8 (ho:OpOk K rr g)(ho':OpOk K rr' g')(ha:TEok K ta a)(hb:TEok K tb b)(hc:TEok K tc c):TEok K (vZ rr rr' ta tb tc) (Aj g g' a b c):=by
 intro F σ ρ H q Q r h k
 refine ha F σ ρ H _ _ r h λr1 ρ1 x H1 h1 o1=>?_
 obtain⟨r1',k1,i1⟩:=o1.inF
 refine hb F σ ρ1 H1 _ _ r1' h1 λr2 ρ2 y H2 h2 o2=>?_
 obtain⟨r2',k2,i2⟩:=o2.inF
 refine ho F σ ρ2 H2 x y _ _ _ _ r2' (i1.keep k2) i2 h2 λr3 ρ3 z H3 h3 o3=>?_
 obtain⟨r3',k3,i3⟩:=o3.inF
 split at h3
 ·rename_i kk
  refine⟨kk,i3.blv,?_⟩
  cases kk with
  | false=>exact(((k.after k1).after k2).after k3).bl r3' h3
  | true =>
   refine hc F σ ρ3 H3 _ _ r3' h3 λr4 ρ4 w H4 h4 o4=>?_
   obtain⟨r4',k4,i4⟩:=o4.inF
   exact ho' F σ ρ4 H4 y w _ _ q Q r4' ((i2.keep k3).keep k4) i4 h4 ((((k.after k1).after k2).after k3).after k4)
 ·exact h3.elim
def gNeg:R->AE:=λr ρ q=>match r with
 | .d (.int i)=>q (.d (.int (-i))) ρ
 | _=>False
theorem wZ (ha:TEok K ta a):TEok K (tUn (rU λi=>.int (-i)) ta) (aUn gNeg a):=by
 intro F σ ρ H q Q r h k
 refine ha F σ ρ H _ _ r h λr1 ρ1 x H1 h1 o1=>?_
 obtain⟨r1',k1,i1⟩:=o1.inF
 unfold gNeg at h1
 split at h1
 ·rename_i i e
  rw[e]at i1
  exact⟨i,i1.int,(k.after k1).int r1' h1⟩
 ·exact h1.elim
def xZ:D->Bool
 | .non=>true
 | _=>false
def isEx (ρ:En):R->Bool
 | .o i=>(match gt ρ i with | .ex _ _=>true | _=>false)
 | _=>false
def gIsN (neg:Bool):R->R->AE:=λr1 r2 ρ q=>match view ρ r1,r2 with
 | some d,.d .non=>q (.d (.bl (if neg then !xZ d else xZ d))) ρ
 | none,.d .non=>isEx ρ r1=true/\q (.d (.bl neg)) ρ
 | _,_=>False
theorem vm {F:Fr}{σ:St}{ρ:En}{H:Hp}{x:V}{r1:R}(a:Rel K F σ ρ H)(h1:InF K F σ ρ H x r1)(h:isEx ρ r1=true):∃e,x = .ref e:=by
 cases r1 with
 | d d=>cases h
 | n s=>cases h
 | t n=>cases h
 | x n=>cases h
 | o i =>
  have q:=a.sl i
  cases hg:gt ρ i with
  | ex C fs =>
   rw[hg]at q
   obtain⟨e,od,e1,_⟩:=q
   rw[show σ[i]? = _ from h1]at e1
   injection e1 with e1;injection e1 with e1
   exact⟨e,e1⟩
  | _=>exact absurd h (by show ¬(match gt ρ i with | .ex _ _=>true | _=>false)=true;rw[hg];exact λz=>nomatch z)
theorem sT {x:V}{d:D}(h:RepD K H x d):decide (x=V.non)=xZ d:=by
 cases d with
 | non=>unfold RepD at h;subst h;rfl
 | bl b=>unfold RepD at h;subst h;rfl
 | int b=>unfold RepD at h;subst h;rfl
 | str b=>unfold RepD at h;subst h;rfl
 | tup ds=>unfold RepD at h;obtain⟨a,vs,rfl,_⟩:=h;rfl
 | lst ds=>unfold RepD at h;obtain⟨a,vs,rfl,_⟩:=h;rfl
theorem xI:OpOk K (λx y H Q=>y = .non/\Q (.bl (decide (x = .non))) H) (gIsN false):=by
 intro F σ ρ H x y r1 r2 q Q a h1 h2 h b
 unfold gIsN at h
 split at h
 ·rename_i d e
  unfold InF RepD at h2
  refine⟨h2,?_⟩
  rw[sT (dy a h1 e)]
  exact b.bl a h
 ·unfold InF RepD at h2
  obtain⟨h',h⟩:=h
  obtain⟨e,rfl⟩:=vm a h1 h'
  refine⟨h2,?_⟩
  rw[decide_eq_false (λz=>nomatch z)]
  exact b.bl a h
 ·exact h.elim
def lu:D->Bool
 | .tup _=>false
 | .lst _=>false
 | _=>true
def inD (d:D)(ds:List D):Bool:=ds.any λe=>eqD e d
@[irreducible] def gIn (neg:Bool):R->R->AE:=λr1 r2 ρ q=>match view ρ r1,view ρ r2 with
 | some d,some (.lst ds)=>(lu d=true/\ds.all lu=true)/\q (.d (.bl (if neg then !inD d ds else inD d ds))) ρ
 | some d,some (.tup ds)=>(lu d=true/\ds.all lu=true)/\q (.d (.bl (if neg then !inD d ds else inD d ds))) ρ
 | _,_=>False
theorem lr {x:V}{d:D}(h:RepD K H x d)(f:lu d=true):iK x=true:=by
 cases d with
 | tup ds=>cases f
 | lst ds=>cases f
 | non=>unfold RepD at h;subst h;rfl
 | bl b=>unfold RepD at h;subst h;rfl
 | int b=>unfold RepD at h;subst h;rfl
 | str b=>unfold RepD at h;subst h;rfl
theorem yd {x y:V}{d e:D}(h:RepD K H x d)(h':RepD K H y e)(f:lu d=true)(f':lu e=true):eqV x y=eqD d e:=by
 cases d with
 | tup ds=>cases f
 | lst ds=>cases f
 | non=>unfold RepD at h;subst h;cases e with
  | tup ds=>cases f'
  | lst ds=>cases f'
  | non=>unfold RepD at h';subst h';simp[eqV,eqD]
  | bl b=>unfold RepD at h';subst h';simp[eqV,eqD]
  | int b=>unfold RepD at h';subst h';simp[eqV,eqD]
  | str b=>unfold RepD at h';subst h';simp[eqV,eqD]
 | bl b=>unfold RepD at h;subst h;cases e with
  | tup ds=>cases f'
  | lst ds=>cases f'
  | non=>unfold RepD at h';subst h';simp[eqV,eqD]
  | bl b=>unfold RepD at h';subst h';simp[eqV,eqD]
  | int b=>unfold RepD at h';subst h';simp[eqV,eqD]
  | str b=>unfold RepD at h';subst h';simp[eqV,eqD]
 | int b=>unfold RepD at h;subst h;cases e with
  | tup ds=>cases f'
  | lst ds=>cases f'
  | non=>unfold RepD at h';subst h';simp[eqV,eqD]
  | bl b=>unfold RepD at h';subst h';simp[eqV,eqD]
  | int b=>unfold RepD at h';subst h';simp[eqV,eqD]
  | str b=>unfold RepD at h';subst h';simp[eqV,eqD]
 | str b=>unfold RepD at h;subst h;cases e with
  | tup ds=>cases f'
  | lst ds=>cases f'
  | non=>unfold RepD at h';subst h';simp[eqV,eqD]
  | bl b=>unfold RepD at h';subst h';simp[eqV,eqD]
  | int b=>unfold RepD at h';subst h';simp[eqV,eqD]
  | str b=>unfold RepD at h';subst h';simp[eqV,eqD]
theorem sX {x:V}{d:D}(h:RepD K H x d)(f:lu d=true):∀ {vs:List V} {ds:List D},RepDs K H vs ds->ds.all lu=true->vs.all iK=true/\inV x vs=inD d ds
 | [],[],_,_=>⟨rfl,rfl⟩
 | v::vs,e::ds,hr,fa=>by
  unfold RepDs at hr
  rw[EN,A7]at fa
  obtain⟨q1,q2⟩:=sX h f hr.2 fa.2
  refine⟨by rw[EN,lr hr.1 fa.1,q1];rfl,?_⟩
  unfold inV inD at *
  rw[CG,CG,q2,yd hr.1 h fa.1 f]
 | [],d::ds,h,_=>by unfold RepDs at h;exact h.elim
 | v::vs,[],h,_=>by unfold RepDs at h;exact h.elim
theorem pB (neg:Bool):OpOk K (rIn K neg) (gIn neg):=by
 intro F σ ρ H x y r1 r2 q Q a h1 h2 h b
 unfold gIn at h
 split at h
 ·rename_i d ds e1 e2
  obtain⟨⟨f1,f2⟩,h⟩:=h
  have rx:=dy a h1 e1
  obtain⟨l,vs,rfl,sq,rd⟩:=cO a h2 e2
  obtain⟨q1,q2⟩:=sX rx f1 (rd.same bV) f2
  refine⟨l,vs,rfl,.inl sq,lr rx f1,q1,?_⟩
  rw[q2]
  exact b.bl a h
 ·rename_i d ds e1 e2
  obtain⟨⟨f1,f2⟩,h⟩:=h
  have rx:=dy a h1 e1
  obtain⟨l,vs,rfl,sq,rd,_⟩:=gq a h2 e2
  obtain⟨q1,q2⟩:=sX rx f1 (rd.same bV) f2
  refine⟨l,vs,rfl,.inr sq,lr rx f1,q1,?_⟩
  rw[q2]
  exact b.bl a h
 ·exact h.elim
end
theorem dS {c:En->Prop}{g:AG}{b:AS}{e:AEnds}(I:Nat->En->Prop){ds:List D}(hc:∀k ρ,k<=ds.length->I k ρ->c ρ)
  (hs:∀(k:Nat) d ρ (N:En->Prop),ds[k]? = some d->I k ρ->(∀ ρ',I (k+1) ρ'->N ρ')->g d ρ λρ1=>b {nx:=N,ct:=N,bk:=e.nx,rt:=e.rt} ρ1) (hd:∀ ρ,I ds.length ρ->e.nx ρ):∀ ρ,I 0 ρ->forA c g b e ds ρ:=by
 have go:∀(es:List D) (k:Nat),ds.drop k=es->k<=ds.length->∀ ρ,I k ρ->forA c g b e es ρ:=by
  intro es
  induction es with
  | nil =>
   intro k h hk ρ i
   have:ds.length<=k:=D8.mp h
   have:k=ds.length:=by omega
   subst this
   unfold forA
   exact⟨hc _ ρ (wl _) i,hd ρ i⟩
  | cons d es ih =>
   intro k h hk ρ i
   have lt:k<ds.length:=by
    rcases Bh k ds.length with q | q
    ·exact q
    ·rw[BJ q]at h;cases h
   rw[Bo lt]at h
   injection h with h1 h2
   unfold forA
   exact⟨hc k ρ hk i,hs k d ρ _ (by rw[<- h1];exact im lt) i (λρ' i'=>ih (k+1) h2 lt ρ' i')⟩
 exact go ds 0 rfl (Bl _)
theorem gV {n:Nat}{js:List Nat}{c:En->Prop}{g:AG}{tc:AT}{te:AE}{q:List D->En->Prop}(I:Nat->List D->En->Prop){ds:List D}(hc:∀k acc ρ,k<=ds.length->I k acc ρ->c ρ)
  (hs:∀(k:Nat) d acc ρ (N:List D->En->Prop),ds[k]? = some d->I k acc ρ->(∀acc' ρ',I (k+1) acc' ρ'->N acc' ρ') ->
   g d (blkE n js ρ) λρ1=>tc ρ1 λb ρ2=>if b=true then te ρ2 λr ρ3=>sto [r.frz] ρ3 λes ρ4=>N (acc++es) (back ρ (js.map R.o) (ρ4.drop n))else N acc (back ρ (js.map R.o) (ρ2.drop n)))
  (hd:∀acc ρ,I ds.length acc ρ->q acc ρ):∀ ρ,I 0 [] ρ->fV n js c g tc te q ds [] ρ:=by
 have go:∀(es:List D) (k:Nat),ds.drop k=es->k<=ds.length->∀acc ρ,I k acc ρ->fV n js c g tc te q es acc ρ:=by
  intro es
  induction es with
  | nil =>
   intro k h hk acc ρ i
   have:ds.length<=k:=D8.mp h
   have:k=ds.length:=by omega
   subst this
   unfold fV
   exact⟨hc _ acc ρ (wl _) i,hd acc ρ i⟩
  | cons d es ih =>
   intro k h hk acc ρ i
   have lt:k<ds.length:=by
    rcases Bh k ds.length with q | q
    ·exact q
    ·rw[BJ q]at h;cases h
   rw[Bo lt]at h
   injection h with h1 h2
   unfold fV
   exact⟨hc k acc ρ hk i,hs k d acc ρ (λacc' ρ'=>fV n js c g tc te q es acc' ρ') (by rw[<- h1];exact im lt) i (λacc' ρ' i'=>ih (k+1) h2 lt acc' ρ' i')⟩
 exact go ds 0 rfl (Bl _) []
theorem qR {c:AT}{b:AS}{e:AEnds}(I:En->Prop)(μ:En->Nat)
  (hs:∀ ρ (N:En->Prop),I ρ->(∀ ρ',I ρ'->μ ρ'<μ ρ->N ρ')->c ρ λk ρ1=>if k=true then b {nx:=N,ct:=N,bk:=e.nx,rt:=e.rt} ρ1 else e.nx ρ1):∀ ρ,I ρ->wL c b e ρ:=by
 have go:∀(n:Nat) ρ,I ρ->μ ρ<n->whA c b e n ρ:=by
  intro n
  induction n with
  | zero=>intro ρ _ h;omega
  | succ n ih=>intro ρ i h;exact hs ρ _ i λρ' i' lt=>ih ρ' i' (by omega)
 exact λρ i=>⟨μ ρ+1,go _ ρ i (by omega)⟩
section
variable {X:Cx}(K:bi)
def y6 (K:bi):R2:=λx y H Q=>∃a b xs ys,x = .ref a/\y = .ref b/\SqL K H a xs/\SqL K H b ys/\xs.length+ys.length<=1000000/\∀p,H p=none->Q (.ref p) (upd H p (.lst (xs++ys)))
theorem sx (hK:X.K=K:=by rfl):OpR X (DZ .Add) (y6 K):=by
 subst hK
 intro pins s σ H x y v u Q I rx ry h
 obtain⟨a,b,xs,ys,rfl,rfl,ha,hb,hz,q⟩:=h
 cases rx
 cases ry
 obtain⟨its,r1,p1,_⟩:=I.list ha
 obtain⟨its2,r2,p2,_⟩:=I.list hb
 have hz':its.length+its2.length<=xL:=small (by rw[<- r1.length,<- r2.length];exact hz)
 obtain⟨⟨cls,dd,data,sl⟩,ho,hc,n,hd⟩:=p1.isList
 obtain⟨⟨cls2,dd2,data2,sl2⟩,ho2,hc2,n2,hd2⟩:=p2.isList
 simp only at hc hd hc2 hd2
 subst hc hd hc2 hd2
 refine concat_meets ⟨_,ho,rfl⟩ ⟨_,ho2,rfl⟩ noFill_list_add seq_list_add PySem.F.slot_list_add PySem.F.entry_list_add (PySem.F.args_list_add_2 _ _) (list_addW a b its.toArray its2.toArray n n2 dd dd2 sl sl2 (by rw[sB,sB];exact hz')) ⟨ho,ho2,?_⟩
 refine⟨.ref s.heap.objs.size,_,I.laid (t':=s.toks) (o:=.lst (xs++ys)) (λb ob q=>dL _ q) (wl _) ?_,rfl,q _ (I.hok.fresh (wl _))⟩
 refine⟨by rw[A2];exact small hz,_,0,r1.append r2,?_⟩
 rw[show(its++its2).toArray=its.toArray++its2.toArray by simp]
 exact wv _ rfl
variable {e st:Expr}{te:TE}{ts:TO}{pos p2:Pos}
end
section
variable {K:bi}{ta te:TE}{a ae:AE}{ts:TA}{as:AA}
def gCat:R->R->AE:=λr1 r2 ρ q=>match view ρ r1,view ρ r2 with
 | some (.lst ds),some (.lst es)=>ds.length+es.length<=1000000/\q (.f (ds++es)) ρ
 | _,_=>False
theorem sy:OpOk K (y6 K) gCat:=by
 intro F σ ρ H x y r1 r2 q Q a h1 h2 h b
 unfold gCat at h
 split at h
 ·rename_i ds es e1 e2
  obtain⟨l,vs,rfl,sq,rd⟩:=cO a h1 e1
  obtain⟨l2,vs2,rfl,sq2,rd2⟩:=cO a h2 e2
  exact⟨l,l2,vs,vs2,rfl,rfl,sq,sq2,by rw[rd.length,rd2.length];exact h.1,λp hp=>b.new a h.2 (rd.append rd2) hp⟩
 ·exact h.elim
def gInt:List R->AE:=λrs ρ q=>match rs with
 | [.d (.int i)]=>q (.d (.int i)) ρ
 | [.d (.bl k)]=>q (.d (.int (if k then 1 else 0))) ρ
 | _=>False
theorem pV:CbOk K (λxs H Q=>(∃i,xs=[.int i]/\Q (.int i) H) ∨ ∃k,xs=[.bl k]/\Q (.int (if k then 1 else 0)) H) gInt:=by
 intro F σ ρ H vs rs q Q a i h b
 unfold gInt at h
 split at h
 ·obtain⟨x,rfl,i1⟩:=i.one
  exact .inl ⟨_,by rw[i1.int],b.int a h⟩
 ·obtain⟨x,rfl,i1⟩:=i.one
  exact .inr ⟨_,by rw[i1.blv],b.int a h⟩
 ·exact h.elim
def AU (a:AE):AE:=λρ q=>a ρ λr ρ1=>match r with
 | .d (.int j)=>(0<=j/\j<=1000000)/\q (.f (aE (zn j.toNat))) ρ1
 | _=>False
theorem uA (ha:TEok K ta a):TEok K (tCB (λxs H Q=>∃(p:Addr) (n:Nat),xs=[.ref p]/\H p=some (.rng 0 (n:Nat))/\n<=1000000/\∀l,H l=none->Q (.ref l) (upd H l (.lst (nP (zn n)))))
  (jO (tCB (λxs H Q=>∃j:Int,xs=[.int j]/\∀p,H p=none->Q (.ref p) (upd H p (.rng 0 j))) (jO ta tNil)) tNil)) (AU a):=by
 intro F σ ρ H q Q r h k
 refine ha F σ ρ H _ _ r h λr1 ρ1 x H1 h1 rel1=>?_
 obtain⟨r',k1,i1⟩:=rel1.inF
 split at h1
 ·rename_i j
  obtain⟨⟨h0,h2⟩,h1⟩:=h1
  obtain⟨n,rfl⟩:=DG h0
  refine⟨_,by rw[i1.int],λp hp=>⟨p,n,rfl,aQ,by omega,λl hl=>?_⟩⟩
  have rp:=r'.fresh (o:=.rng 0 (n:Nat)) hp
  refine((k.after k1).after (Kp.fresh hp)).new rp h1 ?_ hl
  rw[B4]
  exact xt.mpr rfl
 ·exact h1.elim
end
abbrev nD (n:Nat):D:=.int (n:Nat)
abbrev nv (n:Nat):Sv:=.vl (.int (n:Nat))
def ownB (pr:Nat->Bool):En->Nat->Bool
 | [],_=>true
 | s::ss,i=>(!s.own||pr i)&&ownB pr ss (i+1)
theorem kZ {pr:Nat->Bool}:∀ {ss:En} {j:Nat},ownB pr ss j=true->∀i,(gt ss i).own=true->pr (j+i)=true
 | [],_,_,i,h=>by cases h
 | s::ss,j,hb,0,h=>by
  simp only[ownB,A7,Go,BV]at hb
  rcases hb.1 with q | q
  ·rw[show(gt (s::ss) 0)=s from rfl,q]at h;cases h
  ·exact q
 | s::ss,j,hb,i+1,h=>by
  simp only[ownB,A7]at hb
  have:=kZ hb.2 i h
  rwa [show j+1+i=j+(i+1)by omega]at this
theorem DefN.aok2 {P:wT}{w:Bf}{K:bi}{mg:Str->Option bv}{base:Heap}{x:Str}{st:Stmt}{N ps:List Str}{k:Nat}{a:AS}(D:DefN K mg x st ps)(Sc:aX N ps (ar st))(pr:Nat->Bool)(us:En)(S:ASp)(hus:pc (N.length - ps.length) Sv.un=us)
  (hbody:∀(f:Addr) (cdv:bv) (A:Bg) (outer:List Env) (s:db) (H:Hp) (E:XK),Room k (A.deeper (DW x (ar st) s.heap.objs.size f cdv)) ->
   ∃t,PSs (cxOf CX0 P w K mg base N x (ar st) f cdv A outer s H E).nox (bu st) t/\TSok K pr t a)
  (hS:∀ss q,S ss q->ss.length=ps.length/\ownB pr ss 0=true/\a ⟨λρ=>q (.d .non) (outS ss ρ),λr ρ=>fin pr r ρ λr' ρ'=>q r' (outS ss ρ'),λ_=>False,λ_=>False⟩ (ss++us)):OkN P w K mg base (k+1) x ps (spA K S) :=
 D.aok Sc pr S hbody λss q h=>⟨(hS ss q h).1,λi hi=>by have:=kZ (hS ss q h).2.1 i hi;rwa [Cb]at this,by rw[hus];exact(hS ss q h).2.2⟩
theorem oX {lo:Int}{n k:Nat}{d:D}(h:(rngD lo n)[k]? = some d):k<n/\d = .int (lo+k):=by
 unfold rngD at h
 rw[wP]at h
 obtain⟨j,e1,e2⟩:=Bb.mp h
 have lt:k<n:=by
  rcases Bh k n with q | q
  ·exact q
  ·rw[CB (by simpa using q)]at e1;cases e1
 rw[Ek lt]at e1
 cases e1
 exact⟨lt,e2.symm⟩
abbrev wY (n:Nat)(js:List Nat)(g:AG)(tc:AT)(te:AE)(ρ:En)(d:D)(acc:List D)(N:List D->En->Prop):Prop :=
 g d (blkE n js ρ) λρ1=>tc ρ1 λb ρ2=>if b=true then te ρ2 λr ρ3=>sto [r.frz] ρ3 λes ρ4=>N (acc++es) (back ρ (js.map R.o) (ρ4.drop n))else N acc (back ρ (js.map R.o) (ρ2.drop n))
section
variable {n:Nat}{js:List Nat}{c:En->Prop}{g:AG}{tc:AT}{te:AE}{q:List D->En->Prop}
theorem tY {lo:Int}{m:Nat}(f:Nat->D){ρ:En}(hc:c ρ)(hs:∀k acc (N:List D->En->Prop),k<m->N (acc++[f k]) ρ->wY n js g tc te ρ (.int (lo+k)) acc N)
  (hd:q ((zn m).map f) ρ):fV n js c g tc te q (rngD lo m) [] ρ:=by
 refine gV (λk acc ρ'=>k<=m/\ρ'=ρ/\acc=(zn k).map f) (λk acc ρ' _ h=>h.2.1▸hc) ?_ ?_ ρ ⟨Bl _,rfl,rfl⟩
 ·rintro k d acc _ N hk ⟨_,rfl,rfl⟩ hN
  obtain⟨lt,rfl⟩:=oX hk
  refine hs k _ N lt (hN _ _ ⟨lt,rfl,?_⟩)
  rw[CL,Br];rfl
 ·rintro acc _ ⟨_,rfl,rfl⟩
  rw[dO];exact hd
theorem mJ {α:Type}(h:α->D)(f:α->D){xs:List α}{ρ:En}(hc:c ρ)(hs:∀x acc (N:List D->En->Prop),x∈xs->N (acc++[f x]) ρ->wY n js g tc te ρ (h x) acc N)
  (hd:q (xs.map f) ρ):fV n js c g tc te q (xs.map h) [] ρ:=by
 refine gV (λk acc ρ'=>ρ'=ρ/\acc=(xs.take k).map f) (λk acc ρ' _ h=>h.1▸hc) ?_ ?_ ρ ⟨rfl,rfl⟩
 ·rintro k d acc _ N hk ⟨rfl,rfl⟩ hN
  rw[wP]at hk
  obtain⟨x,e1,rfl⟩:=Bb.mp hk
  refine hs x _ N (BC e1) (hN _ _ ⟨rfl,?_⟩)
  rw[B2,e1,Dz,Br];rfl
 ·rintro acc _ ⟨rfl,rfl⟩
  rw[lw,Cj];exact hd
end
section
variable {c:En->Prop}{g:AG}{b:AS}{e:AEnds}
theorem vB {lo:Int}{m:Nat}(I:Nat->En->Prop)(hc:∀k ρ,I k ρ->c ρ)(hs:∀(k:Nat) ρ (N:En->Prop),k<m->I k ρ->(∀ ρ',I (k+1) ρ'->N ρ')->g (.int (lo+k)) ρ λρ1=>b {nx:=N,ct:=N,bk:=e.nx,rt:=e.rt} ρ1)
  (hd:∀ ρ,I m ρ->e.nx ρ) {ρ:En} (h0:I 0 ρ):forA c g b e (rngD lo m) ρ:=by
 refine dS I (λk ρ _ h=>hc k ρ h) (λk d ρ N hk h hN=>?_) (λρ h=>hd ρ (by rwa [dO]at h)) ρ h0
 obtain⟨lt,rfl⟩:=oX hk
 exact hs k ρ N lt h hN
theorem vC {α:Type}(h:α->D){xs:List α}(I:Nat->En->Prop)(hc:∀k ρ,I k ρ->c ρ)(hs:∀(k:Nat) x ρ (N:En->Prop),xs[k]? = some x->I k ρ->(∀ ρ',I (k+1) ρ'->N ρ')->g (h x) ρ λρ1=>b {nx:=N,ct:=N,bk:=e.nx,rt:=e.rt} ρ1)
  (hd:∀ ρ,I xs.length ρ->e.nx ρ) {ρ:En} (h0:I 0 ρ):forA c g b e (xs.map h) ρ:=by
 refine dS I (λk ρ _ h=>hc k ρ h) (λk d ρ N hk h' hN=>?_) (λρ h=>hd ρ (by rwa [lw]at h)) ρ h0
 rw[wP]at hk
 obtain⟨x,e1,rfl⟩:=Bb.mp hk
 exact hs k x ρ N e1 h' hN
end
theorem vO {xs:List Nat}{i:Nat}(h:i<xs.length):atI (aE xs) ((i:Nat):Int)=some (.int (xs.getD i 0:Nat)):=by
 refine fE ?_
 unfold aE
 rw[wP,im h]
 simp[h]
theorem cX {r1:R}{ρ:En}{q:Ko}{xs:List Nat}{i:Nat}(hv:view ρ r1=some (.lst (aE xs)))(h:i<xs.length)(hq:q (.d (.int (xs.getD i 0:Nat))) ρ):gIx r1 (.d (.int (i:Nat))) ρ q:=by
 unfold gIx
 rw[hv]
 simp only[vO h]
 exact hq
theorem iA {neg:Bool}{r1 r2:R}{ρ:En}{q:Ko}{d e:D}{b:Bool}(h1:view ρ r1=some d)(h2:view ρ r2=some e)(hd:d.depth<=60)(hb:eqD d e=b)(hq:q (.d (.bl (if neg then !b else b))) ρ):gEq neg r1 r2 ρ q:=by
 unfold gEq
 rw[h1,h2]
 subst hb
 exact⟨hd,hq⟩
theorem qG {r1:R}{ρ:En}{q:Ko}{ds:List D}{i:Int}{d:D}(hv:view ρ r1=some (.tup ds))(h:atI ds i=some d)(hq:q (.d d) ρ):gIx r1 (.d (.int i)) ρ q:=by
 unfold gIx
 rw[hv]
 simp only[h]
 exact hq
theorem tE {r1:R}{ρ:En}{q:Ko}{ds:List D}{i:Int}{d:D}(hv:view ρ r1=some (.lst ds))(h:atI ds i=some d)(hq:q (.d d) ρ):gIx r1 (.d (.int i)) ρ q:=by
 unfold gIx
 rw[hv]
 simp only[h]
 exact hq
theorem x6 {r:R}{ρ:En}{q:Ko}{d:D}{n:String}{b:Bool}(hv:view ρ r=some d)(h:isaT (tyD d) n=some b)(hq:q (.d (.bl b)) ρ):gIsa [r,.t n] ρ q:=by
 unfold gIsa
 simp only[hv,h]
 exact hq
theorem cutS {A B:AS}{e:AEnds}{ρ:En}(P:En->Prop)(h1:∀N:En->Prop,(∀ ρ',P ρ'->N ρ')->A {e with nx:=N} ρ)(h2:∀ ρ',P ρ'->B e ρ'):aSeq A B e ρ:=h1 (B e) h2
theorem Au {x:Int}{n:Nat}(h:x=(n:Nat)):Sv.vl (.int x)=nv n:=by rw[h]
theorem minI (a b:Nat):(if(b:Int)<(a:Int)then(b:Int)else(a:Int))=((min a b:Nat):Int):=by split <;> omega
theorem maxI (a b:Nat):(if(b:Int) > (a:Int)then(b:Int)else(a:Int))=((max a b:Nat):Int):=by split <;> omega
theorem dD (xs:List Nat)(x:Nat):aE (xs++[x])=aE xs++[nD x]:=by unfold aE;rw[Br];rfl
theorem qt (rows:List Nat)(p:Nat×Nat):aE (bh rows p)=aE rows++[nD (rows.getD p.1 0 ^^^ rows.getD p.2 0)]:=dD _ _
def iq:ASp:=λss q=>∃x y:Nat,ss=[nv x,nv y]/\q (.d (nD (x ^^^ y))) [nv x,nv y]
def SOwn:ASp:=λss q=>∃m:Nat,ss=[nv m]/\m<=1000/\q (.f (aE (aP m))) [nv m]
def SAll:ASp:=λss q=>∃(N:Net) (ws:List Nat),ss=[.vl (netD N),.vl (.lst (aE ws))]/\okIx ws.length N.js/\ws.length+N.js.length<=1000/\q (.f (aE (N.js.foldl bh ws))) [.vl (netD N),.vl (.lst (aE ws))]
def oC:ASp:=λss q=>∃N:Net,ss=[.vl (netD N)]/\okIx N.m N.js/\N.m+N.js.length<=1000/\q (.f (aE (cb N))) [.vl (netD N)]
structure DefM (K:bi)(C:Addr)(m qual:Str)(st:Stmt)(ps:List Str):Prop where
 ex:∃f fd,Meth K C m f/\Fun K m qual st f fd/\∀us:List bv,us.length=ps.length->Hg fd ⟨us,[]⟩=pure (ps.zip us)
structure OkM (P:wT)(w:Bf)(K:bi)(mg:Str->Option bv)(base:Heap)(k:Nat)(C:Addr)(m:Str)(ps:List Str)(sp:Sp):Prop where
 ex:∃f fd,Meth K C m f/\iL K fd ps []/\FnOk P w K mg base CX0 k f fd ps sp
theorem DefM.ok {P:wT}{w:Bf}{K:bi}{mg:Str->Option bv}{base:Heap}{C:Addr}{m qual:Str}{st:Stmt}{N ps:List Str}{k:Nat}{sp:Sp}(D:DefM K C m qual st ps)(S:aX N ps (ar st))(len:∀vs H Q E,sp vs H Q E->vs.length=ps.length)
  (hbody:∀(f:Addr) (cdv:bv) (A:Bg) (outer:List Env) (s:db) (H:Hp) (vs:List V) (Q:VK) (E:XK),Room k (A.deeper (DW qual (ar st) s.heap.objs.size f cdv))->sp vs H Q E ->
   ∃t,PSs (cxOf CX0 P w K mg base N qual (ar st) f cdv A outer s H E).nox (bu st) t/\t {nx:=λ_ H'=>Q .non H',rt:=Q} (start N vs) H):OkM P w K mg base (k+1) C m ps sp:=by
 obtain⟨f,fd,hm,F,hb⟩:=D.ex
 exact⟨f,fd,hm,.all hb,F.ok S len λcdv A outer s H vs Q E hr h=>hbody f cdv A outer s H vs Q E hr h⟩
theorem DefM.aok2 {P:wT}{w:Bf}{K:bi}{mg:Str->Option bv}{base:Heap}{C:Addr}{m qual:Str}{st:Stmt}{N ps:List Str}{k:Nat}{a:AS}(D:DefM K C m qual st ps)(Sc:aX N ps (ar st))(pr:Nat->Bool)(us:En)(S:ASp)(hus:pc (N.length - ps.length) Sv.un=us)
  (hbody:∀(f:Addr) (cdv:bv) (A:Bg) (outer:List Env) (s:db) (H:Hp) (E:XK),Room k (A.deeper (DW qual (ar st) s.heap.objs.size f cdv)) ->
   ∃t,PSs (cxOf CX0 P w K mg base N qual (ar st) f cdv A outer s H E).nox (bu st) t/\TSok K pr t a)
  (hS:∀ss q,S ss q->ss.length=ps.length/\ownB pr ss 0=true/\a ⟨λρ=>q (.d .non) (outS ss ρ),λr ρ=>fin pr r ρ λr' ρ'=>q r' (outS ss ρ'),λ_=>False,λ_=>False⟩ (ss++us)):OkM P w K mg base (k+1) C m ps (spA K S):=by
 have hS':∀ss q,S ss q->ss.length=ps.length/\xH pr ss/\a ⟨λρ=>q (.d .non) (outS ss ρ),λr ρ=>fin pr r ρ λr' ρ'=>q r' (outS ss ρ'),λ_=>False,λ_=>False⟩ (ss++pc (N.length - ps.length) .un) :=
  λss q h=>⟨(hS ss q h).1,λi hi=>by have:=kZ (hS ss q h).2.1 i hi;rwa [Cb]at this,by rw[hus];exact(hS ss q h).2.2⟩
 exact D.ok Sc (oA λss q h=>(hS ss q h).1) λf cdv A outer s H vs Q E hr h=>pY pr S (hbody f cdv A outer s H E hr) hS' h
theorem dZ {K:bi}{C:Addr}{m qual:Str}{st:Stmt}{ps:List Str}{f:Addr}{oc:bv}{od an:Option Addr}{osl:Array (Option bv)}{kV doc pm cdv ct:bv}
  (a:A9 K (.ref C) m=some (some (.ref f))) (l:K.lookup f=some ⟨oc,od,.func (BH m qual (cw st) (bu st) (ar st) .none kV doc pm an cdv ct),osl⟩)
  (c:BO K cdv qual=true) (k:Bs K (.ref f)=true) (n:Ce K (.ref f)=true)
  (hb:∀(kV doc pm:bv) (an:Option Addr) (cdv ct:bv) (us:List bv),us.length=ps.length->Hg (BH m qual (cw st) (bu st) (ar st) .none kV doc pm an cdv ct) ⟨us,[]⟩=pure (ps.zip us)):DefM K C m qual st ps :=
 ⟨f,_,⟨a,n,k⟩,wH l c k,λus hl=>hb kV doc pm an cdv ct us hl⟩
section
variable {X:Cx}{k:Nat}{C:Addr}{m:Str}{ps:List Str}{sp:Sp}{p pos apos:Pos}{e o:Expr}{es:List Expr}{ta:TE}{t:TA}
theorem xC {pl:Sem Bool}(F:OkM X.prog X.w X.K X.mg X.base k C m ps sp)(c:Cls X.K C)(hr:Room k X.A)(he:PE X o ta)(ha:PA X (e::es) t)
  (hst:Ba (e::es) X.env=(false,eval e X.env)::Ba es X.env:=by rfl) (hpl:(Dd pos (Ba es X.env)).any (·.1)=false:=by rfl)
  (ht:eval (.Call (.Attribute o m apos) (e::es) [] pos) X.env=(do
   let ov <- eval o X.env
   Dt apos.atName
   let (f,first) <- FQ [ov] (FR ov m pl)
   IC pos f first (Dd pos (Ba (e::es) X.env)) (FH pos (Eu [] X.env))):=by rfl) :
  PE X (.Call (.Attribute o m apos) (e::es) [] pos) (rB C m sp [] E0 ta t):=by
 obtain⟨f,fd,hm,hb,F⟩:=F.ex
 exact xD he c hm F hr hb .nil uZ ha hst hpl ht
theorem ph {pl:Sem Bool}(F:OkM X.prog X.w X.K X.mg X.base k C m ps sp)(c:Cls X.K C)(hr:Room k X.A)(he:PE X o ta)
  (ht:eval (.Call (.Attribute o m apos) [] [] pos) X.env=(do
   let ov <- eval o X.env
   Dt apos.atName
   let (f,first) <- FQ [ov] (FR ov m pl)
   IC pos f first (Dd pos (Ba [] X.env)) (FH pos (Eu [] X.env))):=by rfl) :
  PE X (.Call (.Attribute o m apos) [] [] pos) (rB C m sp [] E0 ta tNil):=by
 obtain⟨f,fd,hm,hb,F⟩:=F.ex
 exact uS he c hm F hr hb .nil uZ ht
end
def rH (C:Addr)(ns:List Str):Sp:=λvs H Q _=>∃x dx us,vs = .ref x::us/\us.length=ns.length/\H x=some (.ins C dx [])/\Q .non (upd H x (.ins C dx (ns.zip us)))
structure NewC (P:wT)(w:Bf)(K:bi)(mg:Str->Option bv)(base:Heap)(C:Addr)(x:Str)(ns:List Str):Prop where
 ex:∃f fd,mg x=some (.ref C)/\Mk K C f/\iL K fd ("self" :: ns) []/\FnOk P w K mg base CX0 1 f fd ("self" :: ns) (rH C ns)
theorem wm {X:Cx}{C:Addr}{x:Str}{ns:List Str}{p pos:Pos}{e:Expr}{es:List Expr}{t:TA}(N:NewC X.prog X.w X.K X.mg X.base C x ns)(hr:Room 2 X.A)(ha:PA X (e::es) t)(hg:Gl X x:=by rfl)
  (hdb:(x==("__debug__" : Str))=false:=by decide) (he:Ba (e::es) X.env=(false,eval e X.env)::Ba es X.env:=by rfl) (hpl:(Dd pos (Ba es X.env)).any (·.1)=false:=by rfl) :
  PE X (.Call (.Name x p) (e::es) [] pos) (xh C (rH C ns) [] E0 t):=by
 obtain⟨f,fd,hm,M,hb,F⟩:=N.ex
 exact xE M F hr hg hm hb .nil uZ ha hdb he hpl
def obR (ρ:En):R->Option (Addr×List (Str×D))
 | .x (.ob C fs)=>some (C,fs)
 | .o i=>(match gt ρ i with | .ob C fs=>some (C,fs) | _=>none)
 | _=>none
def aFld (C:Addr)(f:Str)(a:AE):AE:=λρ q=>a ρ λr ρ1=>match obR ρ1 r.frz with
 | some (C',fs)=>C'=C/\∃d,fs.lookup f=some d/\q (.d d) ρ1
 | none=>False
def AR (C:Addr)(m:Str)(S:ASp)(a:AE)(as:AA):AE:=λρ q=>a ρ λr ρ1=>match obR ρ1 r.frz with
 | some (C',fs)=>C'=C/\fs.lookup m=none/\as ρ1 λrs ρ2=>dis (r.frz::rs)=true/\S ((r.frz::rs).map (cI ρ2)) λr' ss'=>q r' (back ρ2 (r.frz::rs) ss')
 | none=>False
def aNew (C:Addr)(ns:List Str)(as:AA):AE:=λρ q=>as ρ λrs ρ1=>sto rs ρ1 λds ρ2=>ds.length=ns.length/\q (.x (.ob C (ns.zip ds))) ρ2
section
variable {K:bi}{F:Fr}{σ:St}{ρ ρ':En}{H H':Hp}{v:V}{r:R}{C:Addr}{fs:List (Str×D)}{f m:Str}{ta:TE}{a:AE}{ts:TA}{as:AA}
theorem zu (a:Rel K F σ ρ H)(h:InF K F σ ρ H v r)(e:obR ρ r=some (C,fs)):∃p dx ks,v = .ref p/\H p=some (.ins C dx ks)/\ks.map Bd=fs.map Bd/\RepDs K (hid H (hs F σ ρ)) (ks.map Bp) (fs.map Bp):=by
 unfold obR at e
 split at e
 ·injection e with e
  injection e with e1 e2
  subst e1;subst e2
  obtain⟨_,p,dx,ks,e1,e2,e3,e4⟩:=h
  injection e1 with e1;injection e1 with e1
  exact⟨p,dx,ks,e1,(dB.mp e2).2,e3,e4⟩
 ·rename_i i
  split at e
  ·rename_i C' fs' hg
   injection e with e
   injection e with e1 e2
   subst e1;subst e2
   have q:=a.sl i
   rw[hg,show σ[i]? = _ from h]at q
   obtain⟨p,dx,ks,e1,e2,e3,e4⟩:=q
   injection e1 with e1;injection e1 with e1
   exact⟨p,dx,ks,e1,(dB.mp e2).2,e3,e4⟩
  ·cases e
 ·cases e
theorem wA {Hh:Hp}{f:Str}{d:D}:∀ {ks:List (Str×V)} {fs:List (Str×D)},ks.map Bd=fs.map Bd->RepDs K Hh (ks.map Bp) (fs.map Bp)->fs.lookup f=some d->∃v,ks.lookup f=some v/\RepD K Hh v d
 | [],[],_,_,h=>by cases h
 | (k,v)::ks,(g,d')::fs,e,r,h=>by
  simp only[A1,DQ]at e
  obtain⟨e1,e2⟩:=e
  simp only[A1]at r
  unfold RepDs at r
  subst e1
  simp only[Dr]at h ⊢
  split at h
  ·rename_i q;cases h;exact⟨v,rfl,r.1⟩
  ·rename_i q;exact wA e2 r.2 h
 | [],_::_,e,_,_=>by cases e
 | _::_,[],e,_,_=>by cases e
theorem sP {f:Str}:∀ {ks:List (Str×V)} {fs:List (Str×D)},ks.map Bd=fs.map Bd->fs.lookup f=none->ks.lookup f=none
 | [],[],_,_=>rfl
 | (k,v)::ks,(g,d')::fs,e,h=>by
  simp only[A1,DQ]at e
  obtain⟨e1,e2⟩:=e
  subst e1
  simp only[Dr]at h ⊢
  split at h
  ·cases h
  ·rename_i q;exact sP e2 h
 | [],_::_,e,_=>by cases e
 | _::_,[],e,_=>by cases e
theorem b_ (c:Cls K C)(n:gZ K C f)(ha:TEok K ta a):TEok K (tFld K ta f) (aFld C f a):=by
 intro F σ ρ H q Q r h b
 refine ha F σ ρ H _ _ r h λr1 ρ1 v H1 h1 o=>?_
 obtain⟨rr,kp,i1⟩:=o.inF
 split at h1
 ·rename_i C' fs e
  obtain⟨rfl,d,l,hq⟩:=h1
  obtain⟨p,dx,ks,rfl,e2,e3,e4⟩:=zu rr i1 e
  obtain⟨y,l2,ry⟩:=wA e3 e4 l
  exact⟨p,C',dx,ks,y,rfl,e2,c,n,l2,(b.after kp).dat rr hq ry⟩
 ·exact h1.elim
theorem eG {S:ASp}{E:XK}(ha:TEok K ta a)(hs':TAok K ts as):TEok K (rB C m (spA K S) [] E ta ts) (AR C m S a as):=by
 intro F σ ρ H q Q r h b
 refine ha F σ ρ H _ _ r h λr1 ρ1 v H1 h1 o=>?_
 obtain⟨rr,kp,i1⟩:=o.inF
 split at h1
 ·rename_i C' fs e
  obtain⟨rfl,l,hq⟩:=h1
  obtain⟨p,dx,ks,rfl,e2,e3,e4⟩:=zu rr i1 e
  refine⟨p,dx,ks,rfl,e2,sP e3 l,?_⟩
  refine hs' F σ ρ1 H1 _ _ rr hq λrs ρ2 vs H2 h2 r2 i2 k2=>?_
  obtain⟨hd,hS⟩:=h2
  have s:=(InFs.cons (i1.keep k2) i2).srcs
  have k:=(b.after kp).after k2
  rw[Bn]
  refine⟨(r1.frz::rs).map (cI ρ2),(dg F σ ρ2 H2 ((V.ref p::vs).map some) ((r1.frz::rs).map (cI ρ2))).Z,_,r2.sub s hd,hS,λrr' ss' v H' hq sb no out=>?_⟩
  refine k rr' (back ρ2 (r1.frz::rs) ss') v H' hq ?_
  cases rr' with
  | o i=>exact absurd rfl (no i)
  | d d =>
   obtain⟨a,b⟩:=out
   obtain⟨x,y,z⟩:=r2.back s hd a sb
   exact⟨x,y,RepD.same b z⟩
  | x sv =>
   obtain⟨a,b,c⟩:=out
   obtain⟨x,y,z⟩:=r2.back s hd a sb
   exact⟨x,y,b,c.keep z λl o ho=>by rw[b]at ho;cases ho⟩
  | t n =>
   obtain⟨a,b⟩:=out
   obtain⟨x,y,z⟩:=r2.back s hd a sb
   exact⟨x,y,b⟩
  | n sv =>
   obtain⟨Hb,l,o,a,b,c,e1,e2,e3⟩:=out
   obtain⟨x,y,z⟩:=r2.back s hd a sb
   exact⟨Hb,l,o,x,y,b,c.keep z λ_ _ _ _ e=>e,e1,e2,e3⟩
 ·exact h1.elim
theorem mZ {α β:Type}:∀ {ns:List α} {us:List β},us.length=ns.length->(ns.zip us).map Bd=ns
 | [],[],_=>rfl
 | n::ns,u::us,h=>by simp[mZ (ns:=ns) (us:=us) (by simpa using h)]
 | [],_::_,h=>by cases h
 | _::_,[],h=>by cases h
theorem mY {α β:Type}:∀ {ns:List α} {us:List β},us.length=ns.length->(ns.zip us).map Bp=us
 | [],[],_=>rfl
 | n::ns,u::us,h=>by simp[mY (ns:=ns) (us:=us) (by simpa using h)]
 | [],_::_,h=>by cases h
 | _::_,[],h=>by cases h
theorem qW {ns:List Str}{E:XK}(hs':TAok K ts as):TEok K (xh C (rH C ns) [] E ts) (aNew C ns as):=by
 intro F σ ρ H q Q r h b
 refine hs' F σ ρ H _ _ r h λrs ρ1 vs H1 h1 r1 i1 k1=>?_
 obtain⟨ds,ρ2,⟨hl,hq⟩,r2,k2,rd⟩:=fW r1 i1 h1
 intro x dx hx hdx ne
 rw[Bn]
 have lv:vs.length=ns.length:=by rw[<- hl];exact RepDs.length rd
 refine⟨x,dx,vs,rfl,lv,aQ,?_⟩
 refine⟨rfl,?_⟩
 rw[g0]
 have hx2:upd H1 dx (.own x) x=none:=by rw[aL (B_ ne)];exact hx
 have ra:=r2.fresh (o:=.own x) hdx
 have ka:Kp σ ρ2 ρ2 H1 (upd H1 dx (.own x)):=Kp.fresh hdx
 have rb:=ra.fresh (o:=.ins C dx (ns.zip vs)) hx2
 have kb:Kp σ ρ2 ρ2 _ (upd (upd H1 dx (.own x)) x (.ins C dx (ns.zip vs))):=Kp.fresh hx2
 have kk:=(k1.trans k2).trans (ka.trans kb)
 refine(b.after kk) _ ρ2 _ _ hq ⟨rb,.refl,rfl,x,dx,ns.zip vs,rfl,eD (fq ra hx2) aQ,?_,?_⟩
 ·rw[mZ lv,mZ hl]
 ·rw[mY lv,mY hl]
  exact rd.same (ka.trans kb).vis
end
def jY:Stmt->Nat->Stmt
 | .ClassDef _ _ _ b _ _ _ _ _ _ _,j=>b.getD j (.Pass ⟨0,0,0,0⟩)
 | _,_=>.Pass ⟨0,0,0,0⟩
structure ClsO (K:bi)(mg:Str->Option bv)(C:Addr)(x:Str)(ns:List Str):Prop where
 m:mg x=some (.ref C)
 cl:Cls K C
 na:∀f∈ns,gZ K C f
 mkk:ES K C=true
 kp:Bs K (.ref C)=true
structure ObC (P:wT)(w:Bf)(K:bi)(mg:Str->Option bv)(base:Heap)(C:Addr)(x:Str)(ns:List Str):Prop where
 cl:Cls K C
 na:∀f∈ns,gZ K C f
 nw:NewC P w K mg base C x ns
theorem ObC.of {P:wT}{w:Bf}{K:bi}{mg:Str->Option bv}{base:Heap}{C:Addr}{x qual:Str}{st:Stmt}{ns:List Str}(o:ClsO K mg C x ns)(D:DefM K C "__init__" qual st ("self" :: ns))(S:aX ("self" :: ns) ("self" :: ns) (ar st))
  (hbody:∀(f:Addr) (cdv:bv) (A:Bg) (outer:List Env) (s:db) (H:Hp) (vs:List V) (Q:VK) (E:XK),Room 0 (A.deeper (DW qual (ar st) s.heap.objs.size f cdv))->rH C ns vs H Q E ->
   ∃t,PSs (cxOf CX0 P w K mg base ("self" :: ns) qual (ar st) f cdv A outer s H E).nox (bu st) t/\t {nx:=λ_ H'=>Q .non H',rt:=Q} (start ("self" :: ns) vs) H):ObC P w K mg base C x ns:=by
 obtain⟨f,fd,hm,F,hb⟩:=D.ex
 have len:∀vs H Q E,rH C ns vs H Q E->vs.length=(("self" : Str)::ns).length:=by
  rintro vs H Q E ⟨x,dx,us,rfl,hl,_⟩
  simp[hl]
 exact⟨o.cl,o.na,f,fd,o.m,⟨o.mkk,hm.at_,hm.fn,o.kp⟩,.all hb,F.ok S len λcdv A outer s H vs Q E hr h=>hbody f cdv A outer s H vs Q E hr h⟩
theorem ft (xs:List D)(k:Nat):cutD xs none (some ((k:Nat):Int))=xs.take k:=by
 unfold cutD
 have e0:HT.sIx xs.length 0 none=0:=rfl
 rw[e0,GG,F3,HT.sIx_nat]
 rcases JH k xs.length with h | h
 ·rw[IT h]
 ·rw[IF h,Ca (wl _),Ca h]
def lI:ASp:=λss q=>∃a b:Nat,ss=[nv a,nv b]/\q (.d (L2.cj (min a b,max a b))) [nv a,nv b]
theorem eB (xs:List Nat):(aE xs).length=xs.length:=by rw[lw]
theorem DefN.no {P:wT}{w:Bf}{K:bi}{mg:Str->Option bv}{base:Heap}{x:Str}{st:Stmt}{N ps:List Str}(D:DefN K mg x st ps)(Sc:aX N ps (ar st))(k:Nat):OkN P w K mg base (k+1) x ps (spA K λ_ _=>False) :=
 D.ok Sc (λvs H Q E h=>by obtain⟨_,_,_,_,h,_⟩:=h;exact h.elim) λf cdv A outer s H vs Q E _ h=>by obtain⟨_,_,_,_,h,_⟩:=h;exact h.elim
end L2
namespace HT
open PySem PySem.Spec PyProof.Rows
end HT
namespace L2
open PySem PySem.Spec PyProof.Rows
section
variable {prog:wT}{w:Bf}{K0:Type} [DecidableEq K0]{knd:KeyKind prog w K0}{A:Bg}{E:bv->db->Prop}{s:db}
theorem qe {d:Addr}{kvs:List (K0×bv)}{k:K0}{key dv:bv}{Q:bv->db->Prop}(hkey:knd.is k key=true)(hm:s.heap.DictOf knd d kvs)(hz:kvs.length<=xL)
  (old:∀v,DI kvs k=some v->Q v {s with toks:=s.toks+1})
  (new:DI kvs k=none->∀h',h'.DictOf knd d (GJ kvs k dv)->Bx d s.heap h'->Q dv {s with heap:=h',toks:=s.toks+1}):li (o0 prog w) A (Hd d key dv) Q E s:=by
 have hv:=hm.mapOf
 obtain⟨o,es,ep,ho,hc,hd,hk,hp,hn⟩:=hm
 have hes:es.size<=xL:=by
  have e1:=hp.length
  have e2:es.toList.length=es.size:=by simp
  omega
 have hidx:(es.findIdx? λe=>knd.is k e.key)=kvs.findIdx? λkv=>decide (kv.1=k):=by
  rw[<- hp.findIdx k];obtain⟨l⟩:=es;simp
 have hf:findBy knd.is es k=DI kvs k:=by
  rw[<- hp.find k]
  obtain⟨l⟩:=es
  simp[findBy]
 unfold Hd
 try with_reducible refine C2 ?_
 refine bn (knd.pyHash hkey ?_)
 refine bn (wpAny_dictFind_of (s:={s with toks:=s.toks+1}) hkey ho hd hk ?_)
 cases hi:es.findIdx? λe=>knd.is k e.key with
 | some i =>
  have hfk:DI kvs k=(es[i]?).map (·.val):=by rw[<- hf,I_,hi]
  refine bn (wpAny_dictEntries (s:={s with toks:=s.toks+1}) ho hd ?_)
  cases he:es[i]? with
  | none =>
   exfalso
   have lt:i<es.size:=(Array.findIdx?_eq_some_iff_findIdx_eq.mp hi).1
   rw[Cc lt]at he
   cases he
  | some e =>
   rw[he]at hfk
   exact bn (C6 (kt (old e.val hfk)))
 | none =>
  have hfk:DI kvs k=none:=by rw[<- hf,I_,hi]
  have hnot:k∉kvs.map (·.1):=not_mem_of_findIdx_none (hidx▸hi)
  have hany:¬(kvs.any λkv=>decide (kv.1=k))=true:=by
   rw[CD];rintro⟨kv,hkv,he⟩
   exact hnot (BP.mpr ⟨kv,hkv,of_decide_eq_true he⟩)
  refine bn (C6 (bn (wpAny_updateDictKeys (hz:=hes) (s:={s with toks:=s.toks+1}) ho hd (kt (new hfk _ ⟨_,_,ep+1,Bk _ ho (Obj.isFreed_of_dict (Hy hd _)),hc.mapDictKeys _,Hy hd _,hk.push hkey _,?_,?_⟩ (Ci ..))))))
  ·rw[GJ,if_neg hany]
   have:=hp.append hkey (knd.hash k) dv
   obtain⟨l⟩:=es
   simpa using this
  ·rw[GJ,if_neg hany,Br,Dn]
   refine⟨hn,by simp,λa ha b hb e=>?_⟩
   simp only[A1,CF,wE]at hb
   subst hb
   exact hnot (e▸ha)
end
section
variable {X:Cx}{pins:List (Addr×Obj)}{σ:St}{H:Hp}{s:db}{A:Bg}{E:bv->db->Prop}
theorem z9 {a:Addr}{kvs:List (Key×V)}{k:Key}{v:V}{u r:bv}{Q:bv->db->Prop}(I:Inv X pins σ H s)(e:H a=some (.dK kvs))(hl:kvs.length<xL)(ry:RelV (kV k) u)(rv:RelV v r)
  (old:∀x w' s',valV kvs k=some x->Inv X pins σ H s'->RelV x w'->Q w' s') (new:valV kvs k=none->∀s',Inv X pins σ (upd H a (.dK (putK kvs k v))) s'->Q r s'):li (o0 X.prog X.w) A (call (.builtin "dict.setdefault") [.ref a,u,r]) Q E s:=by
 obtain⟨z,hd,vs,rel,dd⟩:=vH I.hok e
 have hz:vs.length<=xL:=by rw[<- rel.length];exact z
 have hl':(putK kvs k v).length<=xL:=by have:=eT kvs k v;omega
 have mt:MeetsIn X.prog X.w (Builtin.«dict.setdefault» ⟨[.ref a,u,r],[]⟩) (λ_ R s1=>s1=s/\(∀x,DI vs k=some x->R (.ok (.ret x)) {s with toks:=s.toks+1})/\(DI vs k=none->∀h',h'.DictOf (bA X.prog X.w) a (GJ vs k r)->Bx a s.heap h'->R (.ok (.ret r)) {s with heap:=h',toks:=s.toks+1})) :=
  .of_wp λA R s1 ⟨e1,h1,h2⟩=>by
   subst e1
   unfold Builtin.«dict.setdefault»
   refine bn ?_
   unfold J_
   refine bn (wpAny_notOrdered_dict dd.typeIs ?_)
   show li _ _ (pure (a,u,some r)) _ _ _
   refine kt ?_
   show li _ _ (if(a==Dh)=true then _ else(Hd a u r>>=_)) _ _ _
   rw[if_neg (by rw[hd];exact A4)]
   exact bn (qe (mn ry) dd hz (λx hx=>kt ⟨x,rfl,h1 x hx⟩) λhn h' hm' hs'=>kt ⟨r,rfl,h2 hn h' hm' hs'⟩)
 have rl:=rel.val k
 refine call_meetsIn F1 dd.typeIs PySem.F.entry_dict_setdefault (PySem.F.args_dict_setdefault_3 _ _ _) mt ⟨rfl,λx hx=>?_,λhx h' dd' hs=>?_⟩
 ·rw[hx]at rl
  cases hv:valV kvs k with
  | none=>rw[hv]at rl;exact rl.elim
  | some y=>rw[hv]at rl;exact old y _ _ hv (I.tok _) rl
 ·rw[hx]at rl
  cases hv:valV kvs k with
  | some y=>rw[hv]at rl;exact rl.elim
  | none =>
   refine new hv _ ?_
   have he:∃q,h'.get? a=some q:=let ⟨q,_,_,hq,_⟩:=dd';⟨q,hq⟩
   exact lA I (by rw[e];exact True.intro) hs he (mE hl' hd (rel.put k rv) dd')
def vY (td ty tx:TE):TE:=λσ H Q=>td σ H λx H1=>∃a,x = .ref a/\IsD H1 a/\ty σ H1 λy H2=>tx σ H2 λz H3=>∃kvs k,y=kV k/\H3 a=some (.dK kvs)/\kvs.length<xL /\
 (∀v,valV kvs k=some v->Q v H3)/\(valV kvs k=none->Q z (upd H3 a (.dK (putK kvs k z))))
theorem uV {o e f:Expr}{apos cpos:Pos}{td ty tx:TE}(ho:PE X o td)(he:PE X e ty)(hf:PE X f tx)(m:M2 X o "setdefault" apos e f cpos):PE X (.Call (.Attribute o "setdefault" apos) [e,f] [] cpos) (vY td ty tx):=by
 intro pins s σ H Q I h
 refine wpAny_Call_method m.base m.few m.line GD F1 PySem.F.type_dict_setdefault (thn (ho pins s σ H _ I h) λu s1 ⟨x,H1,I1,rx,a,ex,d,q1⟩=>?_)
 subst ex
 obtain rfl:u=Value.ref a:=rx
 obtain⟨t1,t2,_⟩:=zR I1 d
 refine⟨t1,t2,?_⟩
 rw[m.trees]
 refine G1 rfl (D5 (CW (thn (he pins s1 σ H1 _ I1 q1) λiv s2 ⟨y,H2,I2,ry,q2⟩ =>
  CW (thn (hf pins s2 σ H2 _ I2 q2) λfv s3 ⟨z,H3,I3,rz,kvs,k,ey,hk,hl,qo,qn⟩=>Dl ?_))))
 subst ey
 exact z9 I3 hk hl ry rz (λx w' s' hv I' rx=>⟨x,H3,I',rx,qo x hv⟩) λhn s' I'=>⟨z,_,I',rz,qn hn⟩
end
def dKey:D->Option Key
 | .int i=>some (.inl i)
 | .str x=>some (.inr x)
 | _=>none
section
variable {κ:Type} [DecidableEq κ]
def valD (kvs:List (κ×D))(k:κ):Option D:=(kvs.find? λkv=>decide (kv.1=k)).map (·.2)
def putD (kvs:List (κ×D))(k:κ)(d:D):List (κ×D) :=
 if(kvs.any λkv=>decide (kv.1=k))=true then kvs.map (λkv=>if kv.1=k then(kv.1,d)else kv)else kvs++[(k,d)]
variable {K:bi}{H:Hp}
theorem m3 (k:κ):∀ {ks:List (κ×V)} {kvs:List (κ×D)},ks.map Bd=kvs.map Bd->RepDs K H (ks.map Bp) (kvs.map Bp) ->
  (∀d,valD kvs k=some d->∃v,valV ks k=some v/\RepD K H v d)/\(valD kvs k=none->valV ks k=none)
 | [],[],_,_=>⟨(λ_ h=>nomatch h),λ_=>rfl⟩
 | p::ks,q::kvs,e,r=>by
  simp only[A1,DQ]at e
  rw[A1,A1]at r
  unfold RepDs at r
  obtain⟨i1,i2⟩:=m3 k e.2 r.2
  by_cases z:q.1=k
  ·have e1:valD (q::kvs) k=some q.2:=by simp[valD,BQ,z]
   rw[e1,iM (e.1.trans z)]
   exact⟨λd h=>⟨_,rfl,by cases h;exact r.1⟩,λh=>by cases h⟩
  ·have e1:valD (q::kvs) k=valD kvs k:=by simp[valD,BQ,z]
   rw[e1,iN (λh=>z (e.1▸h))]
   exact⟨i1,i2⟩
 | [],q::kvs,e,_=>by simp at e
 | p::ks,[],e,_=>by simp at e
theorem yt (k:κ){ks:List (κ×V)}{kvs:List (κ×D)}(e:ks.map Bd=kvs.map Bd):(ks.any λkv=>decide (kv.1=k))=kvs.any λkv=>decide (kv.1=k):=by
 have h1:(ks.any λkv=>decide (kv.1=k))=(ks.map Bd).any λx=>decide (x=k):=by rw[FW];rfl
 have h2:(kvs.any λkv=>decide (kv.1=k))=(kvs.map Bd).any λx=>decide (x=k):=by rw[FW];rfl
 rw[h1,h2,e]
theorem oY (k:κ){v:V}{d:D}(rv:RepD K H v d):∀ {ks:List (κ×V)} {kvs:List (κ×D)},ks.map Bd=kvs.map Bd->RepDs K H (ks.map Bp) (kvs.map Bp) ->
  (ks.map λkv=>if kv.1=k then(kv.1,v)else kv).map Bd=(kvs.map λkv=>if kv.1=k then(kv.1,d)else kv).map Bd/\RepDs K H ((ks.map λkv=>if kv.1=k then(kv.1,v)else kv).map Bp) ((kvs.map λkv=>if kv.1=k then(kv.1,d)else kv).map Bp)
 | [],[],_,_=>⟨rfl,.nil⟩
 | p::ks,q::kvs,e,r=>by
  simp only[A1,DQ]at e
  rw[A1,A1]at r
  unfold RepDs at r
  obtain⟨i1,i2⟩:=oY k rv e.2 r.2
  simp only[A1,e.1]
  by_cases z:q.1=k
  ·simp only[z,if_true]
   exact⟨by rw[i1],.cons rv i2⟩
  ·simp only[z,if_false]
   exact⟨by rw[i1,e.1],.cons r.1 i2⟩
 | [],q::kvs,e,_=>by simp at e
 | p::ks,[],e,_=>by simp at e
theorem kU (k:κ){v:V}{d:D}(rv:RepD K H v d){ks:List (κ×V)}{kvs:List (κ×D)}(e:ks.map Bd=kvs.map Bd)(r:RepDs K H (ks.map Bp) (kvs.map Bp)) :
  (putK ks k v).map Bd=(putD kvs k d).map Bd/\RepDs K H ((putK ks k v).map Bp) ((putD kvs k d).map Bp):=by
 unfold putK putD
 rw[yt k e]
 split
 ·exact oY k rv e r
 ·refine⟨by rw[Br,Br,e];rfl,?_⟩
  rw[Br,Br]
  exact r.append (.one rv)
theorem gP {ks:List (κ×V)}{kvs:List (κ×D)}(e:ks.map Bd=kvs.map Bd):ks.length=kvs.length:=by
 have:=congrArg JI e
 simpa using this
end
section
variable {K:bi}{F:Fr}{σ:St}{ρ ρ':En}{H H':Hp}{td ty tx:TE}{ad ay ax:AE}
theorem sS {v:V}{d:D}{k:Key}(h:RepD K H v d)(e:dKey d=some k):v=kV k:=by
 cases d with
 | int i=>unfold RepD at h;injection e with e;subst e;exact h
 | str i=>unfold RepD at h;injection e with e;subst e;exact h
 | non=>cases e
 | bl _=>cases e
 | tup _=>cases e
 | lst _=>cases e
def aDNew:AE:=λρ q=>q (.n (.dk [])) ρ
theorem uC:TEok K tDNewK aDNew:=λF σ ρ H q Q r h k p hp=>k (.n (.dk [])) ρ _ _ h ⟨H,p,_,r,.refl,rfl,⟨p,[],rfl,aQ,rfl,.nil⟩,hp,rfl,rfl⟩
theorem qJ {i:Nat}{x:V}{kvs:List (Key×D)}(r:Rel K F σ ρ H)(ei:σ[i]? = some (some x))(hg:gt ρ i = .dk kvs):∃t ks,x = .ref t/\H t=some (.dK ks)/\ks.map Bd=kvs.map Bd/\RepDs K (hid H (hs F σ ρ)) (ks.map Bp) (kvs.map Bp):=by
 have s:=r.sl i
 rw[hg,ei]at s
 obtain⟨t,ks,e,h1,h2,h3⟩:=s
 injection e with e;injection e with e
 exact⟨t,ks,e,h1,h2,h3⟩
def aDIn (neg:Bool)(i a:AE):AE:=λρ q=>i ρ λr ρ1=>a ρ1 λr2 ρ2=>match r,r2 with
 | .d d,.o j=>(match gt ρ2 j,dKey d with
  | .dk kvs,some k=>q (.d (.bl (if neg then !(valD kvs k).isSome else(valD kvs k).isSome))) ρ2
  | _,_=>False)
 | _,_=>False
theorem kh {kvs:List (Key×D)}{ks:List (Key×V)}{k:Key}(e1:ks.map Bd=kvs.map Bd)(e2:RepDs K H (ks.map Bp) (kvs.map Bp)):(valV ks k).isSome=(valD kvs k).isSome:=by
 obtain⟨a,b⟩:=m3 k e1 e2
 cases h:valD kvs k with
 | none=>rw[b h];rfl
 | some d=>obtain⟨v,e,_⟩:=a d h;rw[e];rfl
theorem q0 (hi:TEok K ty ay)(ha:TEok K td ad):TEok K (tDIn ty td) (aDIn false ay ad):=by
 intro F σ ρ H q Q r h k
 refine hi F σ ρ H _ _ r h λr1 ρ1 y H1 h1 o1=>?_
 obtain⟨r1',k1,i1⟩:=o1.inF
 refine ha F σ ρ1 H1 _ _ r1' h1 λr2 ρ2 x H2 h2 o2=>?_
 obtain⟨r2',k2,i2⟩:=o2.inF
 split at h2
 ·rename_i d j
  have ej:σ[j]? = some (some x):=i2
  split at h2
  ·rename_i kvs kk hg ek
   obtain⟨t,ks,rfl,ht,e1,e2⟩:=qJ r2' ej hg
   refine⟨t,valV ks kk,rfl,?_,?_⟩
   ·rw[sS i1 ek];exact DGet.k ht
   ·rw[kh e1 e2]
    exact((k.after k1).after k2).bl r2' h2
  ·exact h2.elim
 ·exact h2.elim
theorem g5 (hi:TEok K ty ay)(ha:TEok K td ad):TEok K (rC ty td) (aDIn true ay ad):=by
 intro F σ ρ H q Q r h k
 refine hi F σ ρ H _ _ r h λr1 ρ1 y H1 h1 o1=>?_
 obtain⟨r1',k1,i1⟩:=o1.inF
 refine ha F σ ρ1 H1 _ _ r1' h1 λr2 ρ2 x H2 h2 o2=>?_
 obtain⟨r2',k2,i2⟩:=o2.inF
 split at h2
 ·rename_i d j
  have ej:σ[j]? = some (some x):=i2
  split at h2
  ·rename_i kvs kk hg ek
   obtain⟨t,ks,rfl,ht,e1,e2⟩:=qJ r2' ej hg
   refine⟨t,valV ks kk,rfl,?_,?_⟩
   ·rw[sS i1 ek];exact DGet.k ht
   ·rw[kh e1 e2]
    exact((k.after k1).after k2).bl r2' h2
  ·exact h2.elim
 ·exact h2.elim
def AY (x o i:AE):AS:=λe ρ=>x ρ λr ρ1=>sto [r.frz] ρ1 λds ρ2=>o ρ2 λr2 ρ3=>match r2 with
 | .o j=>i ρ3 λr3 ρ4=>(match r3,gt ρ4 j,ds with
  | .d kd,.dk kvs,[d]=>(match dKey kd with | some k=>kvs.length<=1000000/\e.nx (pt ρ4 j (.dk (putD kvs k d))) | none=>False)
  | _,_,_=>False)
 | _=>False
theorem oU {pr:Nat->Bool}{tv:TE}{av:AE}(h:TEok K tv av)(ho:TEok K td ad)(hi:TEok K ty ay):TSok K pr (yY td ty tv) (AY av ad ay):=by
 intro F σ ρ H D e hp r ha k
 refine h F σ ρ H _ _ r ha λr1 ρ1 v H1 h1 o=>?_
 obtain⟨r',k1,i1⟩:=o.inF
 obtain⟨ds,ρ2,h2,r2,k2,rd⟩:=fW r' (.cons i1 .nil) h1
 refine ho F σ ρ2 H1 _ _ r2 h2 λr3 ρ3 x H3 h3 o3=>?_
 obtain⟨r3',k3,i3⟩:=o3.inF
 split at h3
 ·rename_i j
  have ej:σ[j]? = some (some x):=i3
  refine hi F σ ρ3 H3 _ _ r3' h3 λr4 ρ4 y H4 h4 o4=>?_
  obtain⟨r4',k4,i4⟩:=o4.inF
  split at h4
  ·rename_i kd kvs d hg
   split at h4
   ·rename_i kk ek
    obtain⟨t,ks,rfl,ht,e1,e2⟩:=qJ r4' ej hg
    unfold RepDs at rd
    have rd4:=(RepD.same rd.1 (k3.trans k4).vis)
    obtain⟨p1,p2⟩:=kU kk rd4 e1 e2
    have hw:=r4'.write (i:=j) (l:=t) (o:=.dK (putK ks kk v)) (s:=.dk (putD kvs kk d)) (by rw[hg];rfl) ej rfl ⟨t,_,rfl,aQ,p1,p2⟩
    refine⟨t,_,rfl,?_,k.nx _ _ _ h4.2 hw.1⟩
    rw[sS i4 ek]
    exact DPut.k ht (j3 (by rw[gP e1];exact h4.1))
   ·exact h4.elim
  ·exact h4.elim
 ·exact h3.elim
@[irreducible] def tD (kvs:List (Key×D))(kd d:D)(q:D->List (Key×D)->Prop):Prop:=match dKey kd with
 | some k=>kvs.length<=1000000/\(match valD kvs k with | some x=>q x kvs | none=>q d (putD kvs k d))
 | none=>False
theorem tq {kvs:List (Key×D)}{kd d:D}{q:D->List (Key×D)->Prop}(h:tD kvs kd d q):∃k,dKey kd=some k/\kvs.length<=1000000/\(∀x,valD kvs k=some x->q x kvs)/\(valD kvs k=none->q d (putD kvs k d)):=by
 unfold tD at h
 split at h
 ·rename_i k e
  refine⟨k,e,h.1,λx hx=>?_,λhx=>?_⟩
  ·have:=h.2;rw[hx]at this;exact this
  ·have:=h.2;rw[hx]at this;exact this
 ·exact h.elim
theorem vt {kvs:List (Key×D)}{kd d:D}{k:Key}{q:D->List (Key×D)->Prop}(e:dKey kd=some k)(hz:kvs.length<=1000000)(h1:∀x,valD kvs k=some x->q x kvs)(h2:valD kvs k=none->q d (putD kvs k d)):tD kvs kd d q:=by
 unfold tD
 simp only[e]
 refine⟨hz,?_⟩
 cases hv:valD kvs k with
 | none=>exact h2 hv
 | some x=>exact h1 x hv
def Ag (a i x:AE):AE:=λρ q=>a ρ λr ρ1=>match r with
 | .o j=>(match gt ρ1 j with
  | .dk _=>i ρ1 λr2 ρ2=>x ρ2 λr3 ρ3=>(match r2,r3,gt ρ3 j with
   | .d kd,.d d,.dk kvs=>tD kvs kd d λz kvs'=>q (.d z) (pt ρ3 j (.dk kvs'))
   | _,_,_=>False)
  | _=>False)
 | _=>False
theorem y7:∀ {ρ:En} {i:Nat} {s:Sv},gt ρ i=s->s.own=true->pt ρ i s=ρ
 | [],_,_,h,ho=>by cases h;cases ho
 | x::r,0,s,h,_=>by cases h;rfl
 | x::r,i+1,s,h,ho=>by show x::pt r i s=x::r;rw[y7 (ρ:=r) h ho]
theorem qZ (ha:TEok K td ad)(hi:TEok K ty ay)(hx:TEok K tx ax):TEok K (vY td ty tx) (Ag ad ay ax):=by
 intro F σ ρ H q Q r h k
 refine ha F σ ρ H _ _ r h λr1 ρ1 x H1 h1 o1=>?_
 obtain⟨r1',k1,i1⟩:=o1.inF
 split at h1
 ·rename_i j
  have ej:σ[j]? = some (some x):=i1
  split at h1
  ·rename_i kvs0 hg0
   obtain⟨t,ks0,rfl,ht0,_,_⟩:=qJ r1' ej hg0
   refine⟨t,rfl,.inl ⟨ks0,.inl ht0⟩,?_⟩
   refine hi F σ ρ1 H1 _ _ r1' h1 λr2 ρ2 y H2 h2 o2=>?_
   obtain⟨r2',k2,i2⟩:=o2.inF
   refine hx F σ ρ2 H2 _ _ r2' h2 λr3 ρ3 z H3 h3 o3=>?_
   obtain⟨r3',k3,i3⟩:=o3.inF
   have kk:=((k.after k1).after k2).after k3
   split at h3
   ·rename_i kd d kvs hg
    obtain⟨key,ek,hz,h4,h5⟩:=tq h3
    obtain⟨t',ks,et,ht,e1,e2⟩:=qJ r3' ej hg
    cases et
    obtain⟨v1,v2⟩:=m3 key e1 e2
    refine⟨ks,key,sS i2 ek,ht,j3 (by rw[gP e1];exact hz),λv hv=>?_,λhv=>?_⟩
    ·cases hd:valD kvs key with
     | none=>rw[v2 hd]at hv;cases hv
     | some x =>
      obtain⟨v',ev,rv⟩:=v1 x hd
      rw[ev]at hv;cases hv
      have:=h4 x hd
      rw[y7 hg rfl]at this
      exact kk.dat r3' this rv
    ·cases hd:valD kvs key with
     | some x=>obtain⟨v',ev,_⟩:=v1 x hd;rw[ev]at hv;cases hv
     | none =>
      obtain⟨p1,p2⟩:=kU key i3 e1 e2
      have hw:=r3'.write (i:=j) (l:=t) (o:=.dK (putK ks key z)) (s:=.dk (putD kvs key d)) (by rw[hg];rfl) ej rfl ⟨t,_,rfl,aQ,p1,p2⟩
      exact(kk.after hw.2).dat hw.1 (h5 hd) (RepD.same i3 hw.2.vis)
   ·exact h3.elim
  ·exact h1.elim
 ·exact h1.elim
end
section
variable {X:Cx}{pins:List (Addr×Obj)}{σ:St}{H:Hp}{s:db}{h':Heap}
theorem Inv.turns {t':Nat}{ch:List Addr}(I:Inv X pins σ H s)(k:∀b o,b∉ch->s.heap.get? b=some o->h'.get? b=some o)(hf:∀b∈ch,FpOk X pins H b):Inv X pins σ H {s with heap:=h',toks:=t'}:=by
 have nit:∀b u,H b=some u->b∉ch:=λb u e z=>by rw[(hf b z).1]at e;cases e
 refine I.step (g':=s.gens) (d':=s.drawn) (ch:=ch) (λb hb=>?_) (λb o _ _ hc e _=>k b o hc e) (λb o _ _ hc e _=>⟨o.slots,k b o hc e⟩) (λ_ _ _ _ n=>n)
  (λb o hc e=>⟨o,k b o hc e⟩) (λ_ _ e=>e) (λ_ _ _ e=>e) (λb ps e=>⟨#[],by rw[e];simp⟩) (λm hm=>?_) (λb u e=>?_) I.bare
 ·obtain⟨_,h2,_,h4,h5,h6⟩:=hf b hb
  exact⟨h4,h2,h5,h6⟩
 ·obtain⟨o,es,ep,ho,r⟩:=hm
  exact⟨o,es,ep,k _ o (λz=>(hf _ z).2.1 rfl) ho,r⟩
 ·refine(I.hok b u e).stay (λc v hc q=>k c v ?_ q) (λ_ q=>q) λ_ _ q=>q
  rcases hc with z | z
  ·rw[z];exact nit b u e
  ·exact nit c _ z
theorem Inv.trackO {p:Addr}{o:HO}(I:Inv X pins σ H s)(hf:FpOk X pins H p)(new:cA X.prog X.w (upd H p o) s.heap p o):Inv X pins σ (upd H p o) s:=by
 have hn:=hf.1
 refine I.call' (ch:=[p]) rfl ⟨λb u e _ _ _=>e,λb u e _ _ _=>⟨u.slots,e⟩,λb u e n hx=>?_,λb u e _=>⟨u,e⟩,λb xs e=>?_,λb u v e=>?_,λb ps e=>⟨#[],?_⟩⟩ (λb u e=>?_) I.bare (λb hb=>?_)
 ·rw[aL (λz=>hx (by simp[z]))];exact n
 ·rw[aL (a_ e hn)];exact e
 ·rw[aL (a_ e hn)];exact e
 ·rw[aL (a_ e hn),e];simp
 ·by_cases hb:b=p
  ·subst hb;rw[aQ]at e;cases e;exact new
  ·rw[aL hb]at e
   exact(I.hok b u e).stay (λc v _ q=>q) (λc q=>by rw[aL (a_ q hn)];exact q) λc xs q=>by rw[aL (a_ q hn)];exact q
 ·rw[wE.mp hb]
  obtain⟨_,h2,_,h4,h5,h6⟩:=hf
  exact⟨h4,h2,h5,h6⟩
end
section
variable {K:bi}{ts:TA}{as:AA}
def lJ (pin:Nat->Bool)(ρ:En):R->Option (List D×(En->Prop))
 | .d (.lst ds)=>some (ds,λ_=>True)
 | .o i=>(match gt ρ i with
  | .ow ds=>if pin i=true then some (ds,λρ2=>gt ρ2 i = .ow ds)else none
  | _=>none)
 | _=>none
theorem oI {pin:Nat->Bool}{F:Fr}{σ:St}{ρ:En}{H:Hp}{v:V}{r:R}{ds:List D}{c:En->Prop}(a:Rel K F σ ρ H)(i:InF K F σ ρ H v r)(e:lJ pin ρ r=some (ds,c)) :
  ∃l vs,v = .ref l/\SqL K H l vs/\∀ σ2 ρ2 H2,Same (hid H (hs F σ ρ)) (hid H2 (hs F σ2 ρ2))->(∀i,SvOk K (hid H2 (hs F σ2 ρ2)) H2 σ2[i]? (gt ρ2 i))->(∀j a,pin j=true->σ[j]? = some (some (.ref a))->σ2[j]? = some (some (.ref a)))->c ρ2->∃vs2,SqL K H2 l vs2/\RepDs K (hid H2 (hs F σ2 ρ2)) vs2 ds:=by
 cases r with
 | n s=>cases e
 | t n=>cases e
 | x s=>cases e
 | d d =>
  cases d with
  | lst es =>
   simp only[lJ,BG,Du]at e
   obtain⟨rfl,rfl⟩:=e
   have rd:RepD K _ v (.lst es):=i
   unfold RepD at rd
   obtain⟨l,vs,rfl,sq,rr⟩:=rd
   exact⟨l,vs,rfl,bV.seq (StL.sq sq),λσ2 ρ2 H2 sm _ _ _=>⟨vs,bV.seq (sm.seq (StL.sq sq)),rr.same sm⟩⟩
  | non=>cases e
  | bl _=>cases e
  | int _=>cases e
  | str _=>cases e
  | tup _=>cases e
 | o j =>
  have ej:σ[j]? = some (some v):=i
  unfold lJ at e
  cases hg:gt ρ j with
  | ow es =>
   simp only[hg]at e
   split at e
   ·rename_i hp
    simp only[BG,Du]at e
    obtain⟨rfl,rfl⟩:=e
    have s:=a.sl j
    rw[hg,ej]at s
    obtain⟨l,vs,e1,hl,rd⟩:=s
    injection e1 with e1;injection e1 with e1;subst e1
    refine⟨l,vs,rfl,SqL.of hl,λσ2 ρ2 H2 sm sv pn hc=>?_⟩
    have s2:=sv j
    rw[hc,pn j l hp ej]at s2
    obtain⟨l',vs',e2,hl',rd'⟩:=s2
    injection e2 with e2;injection e2 with e2;injection e2 with e2;subst e2
    exact⟨vs',SqL.of hl',rd'⟩
   ·cases e
  | un=>simp[hg]at e
  | vl _=>simp[hg]at e
  | tp _=>simp[hg]at e
  | dk _=>simp[hg]at e
  | dt _=>simp[hg]at e
  | ex _ _=>simp[hg]at e
  | sc _=>simp[hg]at e
  | px _ _ _=>simp[hg]at e
  | xl _=>simp[hg]at e
  | ob _ _=>simp[hg]at e
  | ll _=>simp[hg]at e
  | ds _ _ _=>simp[hg]at e
end
section
variable {K:bi}{ts:TA}{as:AA}
def aNever:AS:=λ_ _=>False
theorem gB {pr:Nat->Bool}:TSok K pr tNever aNever:=λF σ ρ H D e hp r h k=>h.elim
end
section
variable {X:Cx}(K:bi)
def tFmt (te:TE):TE:=λσ H Q=>te σ H λx H1=>∃i,x = .int i/\i.natAbs.log2<1920/\Q (.str (toString i)) H1
theorem zg {e:Expr}{te:TE}{pos:Pos}(he:PE X e te):PE X (.FormattedValue e (-1) none pos) (tFmt te):=by
 intro pins s σ H Q I h
 refine FormattedValue_plain (thn (he pins s σ H _ I h) λv s1 ⟨x,H1,I1,r1,q1⟩=>?_)
 obtain⟨i,rfl,hz,q⟩:=q1
 obtain⟨t,rfl⟩:=r1
 exact formatField_int_small hz ⟨.str _,H1,I1.tok _,⟨_,rfl⟩,q⟩
abbrev TJ:=Str->TE
def PJ (X:Cx)(es:List Expr)(t:TJ):Prop:=∀(out:Str) (pins:List (Addr×Obj)) (s:db) (σ:St) (H:Hp) (Q:VK),Inv X pins σ H s->t out σ H Q->li (o0 X.prog X.w) X.A (joinParts out (Hc es X.env)) (EP X pins σ Q) X.xe s
def jNil:TJ:=λout _ H Q=>out.length<=xL/\Q (.str out) H
def zM (te:TE)(t:TJ):TJ:=λout σ H Q=>te σ H λx H1=>∃y,x = .str y/\(out++y).length<=xL/\t (out++y) σ H1 Q
theorem y9:PJ X [] jNil:=λout pins s σ H Q I h=>joinParts_nil ⟨.str out,H,I.tok _,⟨_,rfl⟩,h.2⟩ h.1
theorem nu {e:Expr}{es:List Expr}{te:TE}{t:TJ}(he:PE X e te)(hr:PJ X es t)(hs:Hc (e::es) X.env=eval e X.env::Hc es X.env:=by rfl):PJ X (e::es) (zM te t):=by
 intro out pins s σ H Q I h
 rw[hs]
 refine joinParts_cons (thn (he pins s σ H _ I h) λv s1 ⟨x,H1,I1,r1,y,e1,hz,q⟩=>?_)
 subst e1
 obtain⟨t',rfl⟩:=r1
 exact⟨hz,hr _ pins s1 σ H1 Q I1 q⟩
theorem se {v1 v2:Expr}{rest:List Expr}{pos:Pos}{t:TJ}(h:PJ X (v1::v2::rest) t)(hs:Hc (v1::v2::rest) X.env=eval v1 X.env::eval v2 X.env::Hc rest X.env:=by rfl):PE X (.JoinedStr (v1::v2::rest) pos) (t Fp):=by
 intro pins s σ H Q I hq
 refine JoinedStr_many ?_
 rw[<- hs]
 exact h Fp pins s σ H Q I hq
end
section
variable {K:bi}{ta te:TE}{a ae:AE}{ts:TA}{as:AA}
theorem InF.strv {F:Fr}{σ:St}{ρ:En}{H:Hp}{v:V}{x:Str}(h:InF K F σ ρ H v (.d (.str x))):v = .str x:=by
 unfold InF RepD at h;exact h
def aFmt (a:AE):AE:=λρ q=>a ρ λr ρ1=>match r with
 | .d (.int i)=>i.natAbs.log2<1920/\q (.d (.str (toString i))) ρ1
 | _=>False
theorem xa (ha:TEok K ta a):TEok K (tFmt ta) (aFmt a):=by
 intro F σ ρ H q Q r h k
 refine ha F σ ρ H _ _ r h λr1 ρ1 x H1 h1 o1=>?_
 obtain⟨r1',k1,i1⟩:=o1.inF
 split at h1
 ·exact⟨_,i1.int,h1.1,(k.after k1).str r1' h1.2⟩
 ·exact h1.elim
abbrev AJ:=Str->AE
def TJok (K:bi)(t:TJ)(a:AJ):Prop:=∀out,TEok K (t out) (a out)
def ajNil:AJ:=λout ρ q=>out.length<=1000000/\q (.d (.str out)) ρ
def Ad (a:AE)(r:AJ):AJ:=λout ρ q=>a ρ λr1 ρ1=>match r1 with
 | .d (.str y)=>(out++y).length<=1000000/\r (out++y) ρ1 q
 | _=>False
theorem uD:TJok K jNil ajNil:=λout F σ ρ H q Q r h k=>⟨small h.1,k.str r h.2⟩
theorem i8 {t:TJ}{aj:AJ}(ha:TEok K ta a)(hr:TJok K t aj):TJok K (zM ta t) (Ad a aj):=by
 intro out F σ ρ H q Q r h k
 refine ha F σ ρ H _ _ r h λr1 ρ1 x H1 h1 o1=>?_
 obtain⟨r1',k1,i1⟩:=o1.inF
 split at h1
 ·exact⟨_,i1.strv,small h1.1,hr _ F σ ρ1 H1 q Q r1' h1.2 (k.after k1)⟩
 ·exact h1.elim
theorem qb {t:TJ}{aj:AJ}(h:TJok K t aj):TEok K (t Fp) (aj Fp):=h _
end
def yx (t:TE):Prop:=∀ σ H Q,t σ H Q->∃v,Q v H/\∀H' (Q':VK),Q' v H'->t σ H' Q'
theorem zB {v:V}:yx (tC v):=λσ H Q h=>⟨v,h,λ_ _ h'=>h'⟩
def Ite (K:bi)(l:Addr):It :=
 ⟨λi H=>∃xs x,SqL K H l xs/\xs[i]? = some x,λi H v H'=>∃p x,v = .ref p/\H p=none/\H'=upd H p (.tup [.int (i:Nat),x])/\∀xs,SqL K H l xs->xs[i]? = some x,
  λi H=>∃xs,SqL K H l xs/\xs.length<=i⟩
theorem qV {P:wT}{w:Bf}{K:bi}{elts:List Expr}{x1}{tpos:Pos}{e it l:Addr}(ne:e≠it) :
  Turn P w K (.Tuple elts x1 tpos) (Ite K l) [e,it] e (λi h=>(∃old,GO h e it (i:Nat) old)/\h.IsListIter it l i) where
 mem:=by simp
 obj:=λi h st b hb=>by
  obtain⟨⟨old,he⟩,⟨o1,e1,c1,d1⟩⟩:=st
  simp only[wn,BD,or_false]at hb
  rcases hb with rfl | rfl
  ·exact⟨_,he,λv q=>by cases q⟩
  ·exact⟨o1,e1,λv q=>by rw[d1]at q;cases q⟩
 keep:=λi h h' st k=>by
  obtain⟨⟨old,he⟩,h1⟩:=st
  exact⟨⟨old,k e (by simp) _ he⟩,h1.at λo q=>k it (by simp) o q⟩
 item:=by
  intro X hP hw hK hc i pins s σ H E I hf st hg
  subst hP hw hK
  obtain⟨xs,x,q1,hx⟩:=hg
  obtain⟨⟨old,he⟩,h1⟩:=st
  obtain⟨its,rv,p1,_⟩:=I.list q1
  obtain⟨u,hu,ru⟩:=rv.get hx
  refine wpAny_pyNext_enum_item he h1 p1.isList (x:=u) (by simpa using hu) ne λh' a1 a2 a3 a4 hk=>?_
  refine⟨_,rfl,G8 (s:={s with heap:=h',toks:=s.toks+1}) a1 λh2' he' hs'=>?_⟩
  have hs2:Bx e h' h2':=hs'
  have ls:∀ {b o},s.heap.get? b=some o->b≠s.heap.objs.size:=λe=>ww (lc e)
  have es:e≠s.heap.objs.size:=ls he
  have up:∀b o,b∉[e,it]->s.heap.get? b=some o->h2'.get? b=some o:=λb o hb q=>by
   simp only[wn,BD,or_false,not_or]at hb
   exact(hs2.2 b hb.1).trans (hk b o hb.1 hb.2 q)
  have I1:Inv X pins σ H {s with heap:=h2',toks:=s.toks+1}:=I.turns (t':=s.toks+1) up hf
  have fp:FpOk X pins H s.heap.objs.size:=I.fpOk (wl _) (I.hok.fresh (wl _))
  have g:h2'.get? s.heap.objs.size=some {cls:=.type "tuple",data:=.seq #[.int i s.toks,u]}:=(hs2.2 _ (B_ es)).trans a3
  have I2:=I1.trackO (o:=.tup [.int (i:Nat),x]) fp ⟨by show 2<=xL;decide,[.int i s.toks,u],.cons ⟨_,rfl⟩ (.cons ru .nil),_,g,rfl,_,rfl⟩
  refine⟨.ref s.heap.objs.size,upd H s.heap.objs.size (.tup [.int (i:Nat),x]),I2,rfl,⟨_,x,rfl,fp.1,rfl,λzs hz=>by rw[I.list_inj hz q1];exact hx⟩,?_,λb hb=>?_⟩
  ·refine⟨⟨u,by simpa using he'⟩,?_⟩
   obtain⟨o,q,r⟩:=a2;exact⟨o,(hs2.2 it (B_ ne)).trans q,r⟩
  ·have hb':=(hf b hb).1
   have ne':b≠s.heap.objs.size:=by
    obtain⟨o1,e1,_⟩:=h1
    simp only[wn,BD,or_false]at hb
    rcases hb with rfl | rfl
    ·exact ls he
    ·exact ls e1
   rw[aL ne'];exact hb'
 done:=by
  intro X hP hw hK hc i pins s σ H E I hf st hg
  subst hP hw hK
  obtain⟨xs,q1,hl⟩:=hg
  obtain⟨⟨old,he⟩,h1⟩:=st
  obtain⟨its,rv,p1,_⟩:=I.list q1
  have l1:=rv.length
  refine wpAny_pyNext_enum_end (I.ok.hd hc) he h1 p1.isList (by simp;omega) λh' hk=>⟨rfl,I.turns (ch:=[e,it]) (t':=s.toks) (λb o hb q=>?_) hf⟩
  simp only[wn,BD,or_false,not_or]at hb
  exact hk b o hb.2 q
 self:=λ_ _ _ _ _ st h=>by obtain⟨⟨old,he⟩,_⟩:=st;exact DU he h
def zU (K:bi)(t:TA):TI:=λσ H R=>t σ H λvs H1=>∃l xs,vs=[.ref l]/\SqL K H1 l xs/\R (Ite K l) H1
theorem g_ (K:bi){X:Cx}{elts:List Expr}{x1}{tpos:Pos}{a:Expr}{ta:TA}{p pos:Pos}(hg:Gl X "enumerate")(hm:X.mg "enumerate" = none)(ha:PA X [a] ta)(hK:X.K=K:=by rfl)(hs:Ba [a] X.env=[(false,eval a X.env)]:=by rfl) :
  PI X (.Tuple elts x1 tpos) (.Call (.Name "enumerate" p) [a] [] pos) (zU K ta):=by
 subst hK
 intro pins s σ H R I h
 refine IJ (fX I hg hm fD (B0 (thn (ha pos pins s σ H _ I h) λus s1 ⟨vs,H1,I1,r1,q1⟩=>?_) hs rfl))
 obtain⟨l,xs,rfl,h1,q⟩:=q1
 obtain⟨u,rfl,ru⟩:=iC r1
 cases ru
 obtain⟨its,_,p1,_⟩:=I1.list h1
 refine call_enumerate_list p1.isList λh' he hi hsz hk=>?_
 refine DU he ?_
 refine⟨_,_,_,_,H1,rfl,I1.kept (t':=s1.toks) hk,qV (show s1.heap.objs.size+1≠s1.heap.objs.size by omega),⟨⟨_,he⟩,hi⟩,λb hb=>?_,q⟩
 have le:s1.heap.objs.size<=b:=by
  simp only[wn,BD,or_false]at hb
  rcases hb with rfl | rfl <;> omega
 exact I1.fpOk le (I1.hok.fresh le)
section
variable {K:bi}{ts:TA}{as:AA}
def di (k:Nat):List D->List D
 | []=>[]
 | d::ds=>.tup [.int (k:Nat),d]::di (k+1) ds
theorem cF:∀ {ds:List D} {b k:Nat} {d:D},(di b ds)[k]? = some d->∃x,ds[k]? = some x/\d = .tup [.int ((b+k:Nat):Int),x]
 | [],b,k,d,h=>by simp[di]at h
 | x::ds,b,0,d,h=>by
  simp only[di,DF,BG]at h
  exact⟨x,rfl,h.symm⟩
 | x::ds,b,k+1,d,h=>by
  simp only[di,List.getElem?_cons_succ]at h
  obtain⟨a,e1,e2⟩:=cF (ds:=ds) (b:=b+1) (k:=k) h
  exact⟨a,by simpa using e1,by rw[e2,show b+1+k=b+(k+1)by omega]⟩
theorem bI:∀(ds:List D) (b:Nat),(di b ds).length=ds.length
 | [],b=>rfl
 | x::ds,b=>by simp only[di,A6,bI ds]
theorem wW {S:Addr->Prop}{H:Hp}{l:Addr}{vs:List V}{ds:List D}(al:∀a,S a->H a≠none)(h1:SqL K H l vs)(r1:RepDs K (hid H S) vs ds):WkAt K S H (Ite K l) (di 0 ds):=by
 intro k
 constructor
 ·intro d e
  obtain⟨x,ex,rfl⟩:=cF e
  rw[Cb]
  obtain⟨v,e1,rv⟩:=r1.get ex
  refine⟨⟨vs,v,h1,e1⟩,λz H' ⟨p,a,ez,hp,eH,ha⟩=>?_⟩
  have a1:=ha vs h1
  rw[e1]at a1
  cases a1
  subst eH ez
  have sm:Same H (upd H p (.tup [.int (k:Nat),v])):=(Same.refl H).new hp
  have sm':Same (hid H S) (hid (upd H p (.tup [.int (k:Nat),v])) S):=bc λa o e n=>⟨sm a o e,n⟩
  refine⟨sm,?_⟩
  unfold RepD
  exact⟨p,[.int (k:Nat),v],rfl,(eD (λz=>al p z hp) aQ),.cons (by unfold RepD;rfl) (.cons (rv.same sm') .nil)⟩
 ·intro z
  rw[bI]at z
  exact⟨vs,h1,by rw[r1.length];exact z⟩
def AW (pin:Nat->Bool)(as:AA):AI:=λρ q=>as ρ λrs ρ1=>match rs with
 | [r1]=>(match lJ pin ρ1 r1 with
  | some (ds,c)=>q (di 0 ds) c ρ1
  | _=>False)
 | _=>False
theorem d0 {pin:Nat->Bool}(h:TAok K ts as):TIok K pin (zU K ts) (AW pin as):=by
 intro F σ ρ H q Rk r ha k
 refine h F σ ρ H _ _ r ha λrs ρ1 vs H1 h1 r1 i1 k1=>?_
 split at h1
 ·obtain⟨x,rfl,ix⟩:=i1.one
  split at h1
  ·rename_i ds c e1
   obtain⟨l1,us1,rfl,s1,w1⟩:=oI r1 ix e1
   refine⟨l1,us1,rfl,s1,k _ _ _ _ _ h1 r1 k1 λσ2 ρ2 H2 sm sv pn al hc=>?_⟩
   obtain⟨v1,z1,rd1⟩:=w1 σ2 ρ2 H2 sm sv pn hc
   exact wW (λa z=>(al a z).1) z1 rd1
  ·exact h1.elim
 ·exact h1.elim
end
open Builtin.SmallTypes (nextOf)
structure Feed (prog:wT)(w:Bf)(it:Addr)(dep:List Addr)(St:Nat->Heap->Prop)(gv:Nat->Option bv):Prop where
 mem:it∈dep
 obj:∀i h,St i h->∃o vs n,h.get? it=some o/\o.data = .fields vs/\o.cls = .type n/\n ≠ "zip"
 keep:∀i h h',St i h->(∀b o,b∈dep->h.get? b=some o->h'.get? b=some o)->St i h'
 item:∀(A:Bg) i (s:db) x (Q:bv->db->Prop) E,St i s.heap->gv i=some x->(∀h',St (i+1) h'->Bx it s.heap h'->Q x {s with heap:=h'})->li (o0 prog w) A (nextOf (.ref it)) Q E s
 fin:∀(A:Bg) i (s:db) (Q:bv->db->Prop) E,A.handled=none->St i s.heap->gv i=none->(∀h' e,JM it s.heap h'->(∃o,h'.get? e=some o/\o.cls = .type "StopIteration")->E (.ref e) {s with heap:=h'})->li (o0 prog w) A (nextOf (.ref it)) Q E s
section
variable {prog:wT}{w:Bf}
theorem lx {it l:Addr}{xs:Array bv}(hne:l≠it):Feed prog w it [it,l] (λi h=>h.IsTupleIter it l i/\h.IsTuple l xs) (λi=>xs[i]?) where
 mem:=by simp
 obj:=λi h ⟨⟨o,e,c,d⟩,_⟩=>⟨o,_,_,e,d,c,by decide⟩
 keep:=λi h h' ⟨a,b⟩ k=>⟨a.at λo e=>k it o (by simp) e,by obtain⟨o,e,r⟩:=b;exact⟨o,k l o (by simp) e,r⟩⟩
 item:=λA i s x Q E ⟨a,b⟩ hx k=>by
  obtain⟨o,ho,hc,hd⟩:=id a
  obtain⟨ol,hol,rr,nl,hdl⟩:=id b
  unfold nextOf
  refine bn (CQ (name:=Ev "__next__") a.typeIs Dx (Ct Dx a.typeIs GY ?_ (GQ _)))
  show li _ _ (HG (.ref it) 0>>=_) _ _ s
  refine bn (BM ho hd (x:=.ref l) rfl ?_)
  show li _ _ (if(Value.ref l==Value.none)=true then _ else _) _ _ s
  rw[if_neg (λz=>by cases z)]
  show li _ _ (HG (.ref it) 1>>=_) _ _ s
  refine bn (BM ho hd (x:=.int i 0) rfl ?_)
  show li _ _ (Jy (.ref l)>>=_) _ _ s
  refine bn (FD hol hdl ?_)
  simp only[B4,hx]
  refine bn (CN ho hd (by simp) (kt ⟨x,rfl,kt ?_⟩))
  refine k _ ⟨⟨_,Bk _ ho (Ch (B9 hd _)),(F2 ..).trans hc,by rw[B9 hd];simp[BN]⟩,ol,?_,rr,nl,hdl⟩ (Ci ..)
  exact((Ci ..).2 l hne).trans hol
 fin:=λA i s Q E hh ⟨a,b⟩ hx k=>by
  obtain⟨o,ho,hc,hd⟩:=id a
  obtain⟨ol,hol,rr,nl,hdl⟩:=id b
  unfold nextOf
  refine bn (CQ (name:=Ev "__next__") a.typeIs Dx (Ct Dx a.typeIs GY ?_ (GQ _)))
  show li _ _ (HG (.ref it) 0>>=_) _ _ s
  refine bn (BM ho hd (x:=.ref l) rfl ?_)
  show li _ _ (if(Value.ref l==Value.none)=true then _ else _) _ _ s
  rw[if_neg (λz=>by cases z)]
  show li _ _ (HG (.ref it) 1>>=_) _ _ s
  refine bn (BM ho hd (x:=.int i 0) rfl ?_)
  show li _ _ (Jy (.ref l)>>=_) _ _ s
  refine bn (FD hol hdl ?_)
  simp only[B4,hx]
  refine bn (C6 (bn (CN ho hd (by simp) ?_)))
  show li _ _ (newExc (.type "StopIteration") []>>=_) _ _ _
  refine bn ?_
  simp only[newExc,newTuple]
  refine bn (B5 ?_ (by size_fits))
  refine bn (m:=firstArgMember _ _) (Iz (a:=Value.none) (by first | rfl | (simp only[firstArgMember];rfl)) ?_)
  refine B5 ?_ (by size_fits)
  simp only[raiseNew]
  refine bn (wpAny_handled ?_)
  first | rw[show A.in1.handled=none from hh] | rw[hh]
  refine bn (kt (wpAny_throw ?_))
  exact k _ _ (((Ci ..).extBut.push _).push _) ⟨_,wv _ rfl,rfl⟩
variable {A:Bg}{E:bv->db->Prop}{s:db}{z TI TO i1 i2:Addr}{d1 d2:List Addr}{S1 S2:Nat->Heap->Prop}{g1 g2:Nat->Option bv}
end
section
variable {X:Cx}(K:bi)
def we (K:bi):V->List V->Hp->VK->Prop:=λx vs H Q=>∃(l:Addr) (ns:List Int) (y:Int) (j:Nat),x = .ref l/\vs=[.int y]/\SqL K H l (ns.map V.int)/\ns[j]? = some y/\j<1000000/\(∀m,m<j->ns[m]? ≠ some y)/\Q (.int (j:Nat)) H
theorem vb (hK:X.K=K:=by rfl):MtR X "list.index" (we K):=by
 subst hK
 intro pins s σ H x vs v us Q I rx rv h
 obtain⟨l,ns,y,j,rfl,rfl,hq,hj,hsm,hno,q⟩:=h
 cases rx
 obtain⟨u,rfl,ru⟩:=rv.one
 obtain⟨its,r,pl,hz⟩:=I.list hq
 obtain⟨⟨cl,dd,dt,sl⟩,n,e,c1,c2,c3⟩:=pl
 simp only at c1 c2 c3
 subst c1 c2 c3
 have fx:(ns.map V.int).all iK=true:=by simp[iK]
 have hl:its.length=ns.length:=by have:=r.length;rw[lw]at this;omega
 have hjl:j<ns.length:=(sK.mp hj).1
 have at':∀m (hm:m<its.toArray.size),eqU (.int y) its.toArray[m]=decide (ns[m]? = some y):=λm hm=>by
  have hm':m<its.length:=by simpa using hm
  obtain⟨w,e1,e2⟩:=r.get (i:=m) (x:=V.int ns[m]) (by rw[wP,im (by omega)];rfl)
  rw[im hm']at e1
  cases e1
  have:=tR (x:=.int y) e2 rfl
  simp only[Fg]
  rw[this,im (by omega)]
  simp only[eqV,BG]
  rw[CM,beq_iff_eq,decide_eq_true_eq]
 refine Hf GB ⟨_,e,rfl⟩ PySem.F.entry_list_index (PySem.F.args_list_index_2 _ _) (SeqAt.list_indexAt l its.toArray n none sl u (eqU (.int y)) j (by rw[sB];omega) (by omega) (by rw[at'];exact decide_eq_true hj) (λm hm hlt=>by rw[at'];exact decide_eq_false (hno m hlt))) ⟨e,λw hw=>fR ru rfl r fx w (by simpa using hw),?_⟩
 exact⟨.int (j:Nat),H,I.tok _,⟨s.toks,rfl⟩,q⟩
end
section
variable {K:bi}{ta:TE}{a:AE}{ts:TA}{as:AA}
@[irreducible] def gIdx (ds:List D)(y:Int)(q:Nat->Prop):Prop:=∃(ns:List Int) (j:Nat),ds=ns.map D.int/\ns[j]? = some y/\j<1000000/\(∀m,m<j->ns[m]? ≠ some y)/\q j
theorem x8 {ns:List Int}{y:Int}{j:Nat}{q:Nat->Prop}(h:ns[j]? = some y)(hj:j<1000000)(hno:∀m,m<j->ns[m]? ≠ some y)(hq:q j):gIdx (ns.map D.int) y q:=by unfold gIdx;exact⟨ns,j,rfl,h,hj,hno,hq⟩
def aIdx (a:AE)(as:AA):AE:=λρ q=>a ρ λr ρ1=>match view ρ1 r.frz with
 | some (.lst ds)=>as ρ1 λrs ρ2=>(match rs with
  | [.d (.int y)]=>gIdx ds y λj=>ρ1=ρ2/\q (.d (.int (j:Nat))) ρ2
  | _=>False)
 | _=>False
theorem w_ (ha:TEok K ta a)(hs':TAok K ts as):TEok K (tBM K "list" (we K) ta ts) (aIdx a as):=by
 intro F σ ρ H q Q r h k
 refine ha F σ ρ H _ _ r h λr1 ρ1 x H1 h1 o1=>?_
 obtain⟨r1',k1,i1⟩:=o1.inF
 split at h1
 ·rename_i ds e
  obtain⟨l0,us0,rfl,sq0,_⟩:=cO r1' i1 e
  refine⟨.inl ⟨rfl,_,sq0⟩,hs' F σ ρ1 H1 _ _ r1' h1 λrs ρ2 vs H2 h2 r2 i2 k2=>?_⟩
  split at h2
  ·rename_i y
   obtain⟨z,rfl,iz⟩:=i2.one
   unfold gIdx at h2
   obtain⟨ns,j,rfl,hj,hsm,hno,e12,hq⟩:=h2
   subst e12
   obtain⟨l,us,el,sq,rd⟩:=cO r2 (i1.keep k2) e
   rw[g8]at rd
   rw[rd]at sq
   exact⟨l,ns,y,j,el,by rw[iz.int],sq,hj,hsm,hno,((k.after k1).after k2).int r2 hq⟩
  ·exact h2.elim
 ·exact h1.elim
end
section
variable {X:Cx}(K:bi)
def rR (K:bi):List V->Hp->VK->Prop:=λxs H Q=>∃(p:Addr) (ns:List Int),xs=[.ref p]/\SqL K H p (ns.map V.int)/\ns.length<64/\∀ns':List Int,ns'.Perm ns->ns'.Pairwise (· <= ·)->∀l,H l=none->Q (.ref l) (upd H l (.lst (ns'.map V.int)))
theorem oo (hK:X.K=K:=by rfl):fF X (.builtin "sorted") (rR K):=by
 subst hK
 intro pins s σ H xs us Q I r h
 obtain⟨a,ns,rfl,hq,h64,q1⟩:=h
 obtain⟨u1,rfl,ru⟩:=iC r
 cases ru
 obtain⟨its,rv,pl,hz⟩:=I.list hq
 have hl:its.length=ns.length:=by have:=rv.length;rw[lw]at this;omega
 refine sorted_ints pl.isList (qA rv) (by omega) λout ns' a1 a2 a3=>?_
 obtain⟨e,he⟩:=sortedAll_at s.heap its out
 have hlen:=a2.length_eq
 refine⟨.ref (s.heap.objs.size+1),_,I.laid (t':=s.toks) (o:=.lst (ns'.map V.int)) (λb o q=>sortedAll_old q) (EJ _) ⟨?_,out.toList,e,gr a1,?_⟩,rfl,q1 ns' a2 a3 _ (I.hok.fresh (EJ _))⟩
 ·rw[lw];exact BZ (d4 (n:=ns'.length) (by omega))
 ·rw[he]
end
section
variable {K:bi}
@[irreducible] def gSorted:List R->AE:=λrs ρ q=>match rs with
 | [r]=>(match view ρ r with
  | some (.lst ds)=>(match e_ ds with | some ns=>ns.length<64/\(∀ns':List Int,ns'.Perm ns->ns'.Pairwise (· <= ·)->q (.f (ns'.map D.int)) ρ) | none=>False)
  | _=>False)
 | _=>False
theorem om:CbOk K (rR K) gSorted:=by
 intro F σ ρ H vs rs q Q a i h b
 unfold gSorted at h
 split at h
 ·obtain⟨y,rfl,iy⟩:=i.one
  split at h
  ·rename_i ds e
   split at h
   ·rename_i ns e'
    obtain⟨l,us,rfl,sq,rd⟩:=cO a iy e
    rw[mr e',g8]at rd
    rw[rd]at sq
    exact⟨l,ns,rfl,sq,h.1,λns' h1 h2 p hp=>b.new a (h.2 ns' h1 h2) (g8.mpr rfl) hp⟩
   ·exact h.elim
  ·exact h.elim
 ·exact h.elim
theorem qF {r:R}{ρ:En}{q:Ko}{ns:List Int}(hv:view ρ r=some (.lst (ns.map D.int)))(h64:ns.length<64)(h1:∀ns':List Int,ns'.Perm ns->ns'.Pairwise (· <= ·)->q (.f (ns'.map D.int)) ρ):gSorted [r] ρ q:=by
 unfold gSorted
 simp only[hv,qz]
 exact⟨h64,h1⟩
end
end L2
set_option maxHeartbeats 1000000
namespace L2
open PySem PySem.Spec PyProof.Rows
open PySem.MeetsSeq PySem.MeetsSeq2 PySem.MeetsSeq3
open PySem.AutoSeq1 (wpAny_loadPart')
def Fly (od:Option Addr)(h:Heap)(e C T:Addr):Prop :=
 ∃oe vs oT ts,h.get? e=some oe/\oe.cls = .ref C/\oe.dict=od/\oe.data = .fields vs/\vs[1]? = some (.ref T)/\T≠e/\h.get? T=some oT/\oT.data = .fields ts/\ts[3]? = some .none
structure Gone (fs:List Addr)(h h':Heap)(e:Addr)(hv:bv):Prop where
 keep:∀b o,h.get? b=some o->b≠e->hv ≠ .ref b->b∉fs->h'.get? b=some o
 slot:∀b o,h.get? b=some o->b≠e->hv ≠ .ref b->∃sl,h'.get? b=some {o with slots:=sl}
section
variable {M:HU}{A:Bg}{E:bv->db->Prop}{s:db}{base:Heap}{env:Env}{outer:List Env}{L e C:Addr}{oe:Obj}{vs:Array bv}{od:Option Addr}
theorem pH {hd:bv}{had:Bool}{Q:Unit->db->Prop}(fr:A.frames=some (env::outer))(ff:s.heap.FunFrames base (env::outer))(lf:env.frame=some L)
  (ge:s.heap.get? e=some oe) (gc:oe.cls = .ref C) (gd:oe.dict=od) (gf:oe.data = .fields vs) (gz:1<vs.size)
  (fin:∀h' T,s.heap.objs.size<=T->Fly od h' e C T->(∀b o,s.heap.get? b=some o->b≠e->b∉frs (env::outer)->h'.get? b=some o)->(∀b o,s.heap.get? b=some o->b≠e->∃sl,h'.get? b=some {o with slots:=sl})->Q () {s with heap:=h'}) :
  li M A (do let a <- frameOf env;let pl <- entryPlaceOf L had;let b <- DR hd a .none (BN L) .none pl;G9 (.ref e) 1 b) (λ_ s'=>li M A (EF (.ref e) none) Q E s') E s:=by
 have off:e∉frs (env::outer):=λq=>by
  obtain⟨_,o,go,no⟩:=ff.mem q
  cases ge.symm.trans go
  exact no vs gf
 refine bn (Jj fr ff lf λha sa=>bn (IY λpl ip=>?_))
 unfold DR HF
 refine bn (B5 ?_ (ip.sizeOk5 _ _ _ _ _))
 have ge1:ha.get? e=some oe:=(sa.2.1 e off).trans ge
 have sz:ha.objs.size=s.heap.objs.size:=sa.1
 generalize hT:([hd,Value.ref L,.none,BN L,.none]++(if pl.isEmpty then pc 6 Value.none else pl)).toArray=tv
 have tz:3<tv.size:=by rw[<- hT,sB,A2];simp only[A6,E6];omega
 have neT:e≠ha.objs.size:=ww (lc ge1)
 refine CN (dL _ ge1) gf gz ?_
 generalize hp:ha.push {cls:=.type "traceback",dict:=none,data:=.fields tv}=hb
 have gT:hb.get? ha.objs.size=some {cls:=.type "traceback",dict:=none,data:=.fields tv}:=by rw[<- hp];exact wv _ rfl
 have kb:∀b o,ha.get? b=some o->hb.get? b=some o:=λb o q=>by rw[<- hp];exact dL _ q
 have w1:=B9 gf λa=>a.setIfInBounds 1 (.ref ha.objs.size)
 have g3:=Bk (BW λa=>a.setIfInBounds 1 (.ref ha.objs.size)) (kb e oe ge1) (Ch w1)
 have gT3:=(AC hb (BW λa=>a.setIfInBounds 1 (.ref ha.objs.size)) neT).trans gT
 unfold EF
 refine bn (BM g3 w1 (x:=.ref ha.objs.size) (by simp[gz]) ?_)
 rw[if_pos (by simp:(Value.ref ha.objs.size != Value.none)=true)]
 refine CN gT3 rfl tz ?_
 have on:∀b o,b≠e->ha.get? b=some o->((hb.update e (BW λa=>a.setIfInBounds 1 (.ref ha.objs.size))).update ha.objs.size (BW λa=>a.setIfInBounds 3 ((none:Option Addr).elim Value.none λf=>BN f))).get? b=some o:=λb o ne q=>by
  rw[AC _ _ (BL (lc q)),AC _ _ (B_ ne)]
  exact kb b o q
 refine fin _ ha.objs.size (by rw[sz];exact wl _) ⟨_,_,_,_,(AC _ _ neT.symm).trans g3,(F2 _ _).trans gc,?_,w1,by simp[gz],neT.symm,Bk _ gT3 (Ch (B9 rfl _)),B9 rfl _,by simp[tz]⟩ (λb o q ne nf=>on b o ne ((sa.2.1 b nf).trans q)) λb o q ne=>?_
 ·obtain⟨oc,od,oda,osl⟩:=oe
  cases gf
  exact gd
 ·obtain⟨sl,q'⟩:=sa.2.2 b o q
  exact⟨sl,on b _ ne q'⟩
theorem lv {hv:bv}{Q:Unit->db->Prop}(fr:A.frames=some (env::outer))(ff:s.heap.FunFrames base (env::outer))(lf:env.frame=some L)
  (ge:s.heap.get? e=some oe) (gc:oe.cls = .ref C) (gd:oe.dict=od) (gf:oe.data = .fields vs) (g1:vs[1]? = some hv)
  (hh:hv = .none ∨ ∃T oT ts,hv = .ref T/\T≠e/\s.heap.get? T=some oT/\oT.data = .fields ts/\ts[3]? = some .none)
  (fin:∀h' T,s.heap.objs.size<=T->Fly od h' e C T->Gone (frs (env::outer)) s.heap h' e hv->Q () {s with heap:=h'}) :
  li M A (Df (.ref e) env) (λ_ s'=>li M A (EF (.ref e) none) Q E s') E s:=by
 have gz:=(CY.mp g1).1
 unfold Df
 simp only[lf]
 refine bn (BM ge gf g1 ?_)
 rcases hh with rfl | ⟨T,oT,ts,rfl,nT,gT,fT,t3⟩
 ·rw[if_neg (by decide)]
  exact pH fr ff lf ge gc gd gf gz λh' T' q1 q2 q3 q4=>fin h' T' q1 q2 ⟨λb o a1 a2 _ a4=>q3 b o a1 a2 a4,λb o a1 a2 _=>q4 b o a1 a2⟩
 ·rw[if_pos (by simp:(Value.ref T != Value.none)=true)]
  refine bn (BM gT fT t3 ?_)
  rw[if_neg (by simp[BN]:¬(Value.none==BN L)=true)]
  refine bn (CN gT fT (CY.mp t3).1 ?_)
  have ot:∀b,b≠T->(s.heap.update T (BW λa=>a.setIfInBounds 3 Value.none)).get? b=s.heap.get? b:=λb q=>AC _ _ (B_ q)
  have gT':=Bk (BW λa=>a.setIfInBounds 3 Value.none) gT (Ch (B9 fT _))
  have nr:∀b o,s.heap.get? b=some o->(∀us,o.data ≠ .fields us)->b≠T:=λb o q nf z=>by
   subst z
   cases gT.symm.trans q
   exact nf ts fT
  refine pH fr (ff.of_keeps λb o q nf=>⟨o,(ot b (nr b o q nf)).trans q,rfl⟩) lf ((ot e nT.symm).trans ge) gc gd gf gz λh' T' q1 q2 q3 q4=>fin h' T' ?_ q2 ⟨λb o a1 a2 a3 a4=>q3 b o ((ot b λz=>a3 (by rw[z])).trans a1) a2 a4,λb o a1 a2 a3=>q4 b o ((ot b λz=>a3 (by rw[z])).trans a1) a2⟩
  rwa [Iw]at q1
end
def Hot (od:Option Addr)(h0 h:Heap)(H:Hp)(e C:Addr):Prop :=
 ∃oe vs hv,h.get? e=some oe/\oe.cls = .ref C/\oe.dict=od/\oe.data = .fields vs/\vs[1]? = some hv/\h0.get? e=none/\H e=none /\
  (hv = .none ∨ ∃T oT ts,hv = .ref T/\T≠e/\h.get? T=some oT/\oT.data = .fields ts/\ts[3]? = some .none/\h0.get? T=none/\H T=none)
section
variable {X:Cx}{pins:List (Addr×Obj)}{σ:St}{H:Hp}{s:db}{h0:Heap}{e C:Addr}{od:Option Addr}
theorem lvI {E:bv->db->Prop}{Q:Unit->db->Prop}(I:Inv X pins σ H s)(hs:X.stack=X.env::X.outer)(hf:X.env.frame=some X.env.locals)(hsub:∀b o,h0.get? b=some o->b<s.heap.objs.size)(hot:Hot od h0 s.heap H e C)
  (fin:∀h' ch,(∀b∈ch,h0.get? b=none/\H b=none)->e∈ch->Un (frs X.stack) ch H H s.heap h'->HOk X.prog X.w H h'->Hot od h0 h' H e C->Q () {s with heap:=h'}) :
  li (o0 X.prog X.w) X.A (Df (.ref e) X.env) (λ_ s'=>li (o0 X.prog X.w) X.A (EF (.ref e) none) Q E s') E s:=by
 obtain⟨oe,vs,hv,ge,gc,gd,gf,g1,ye,ue,hh⟩:=hot
 have hh':hv = .none ∨ ∃T oT ts,hv = .ref T/\T≠e/\s.heap.get? T=some oT/\oT.data = .fields ts/\ts[3]? = some .none:=by
  rcases hh with q | ⟨T,oT,ts,q1,q2,q3,q4,q5,_⟩
  ·exact .inl q
  ·exact .inr ⟨T,oT,ts,q1,q2,q3,q4,q5⟩
 refine lv (hs▸I.ok.frames) (hs▸I.stack) hf ge gc gd gf g1 hh' λh' T q1 ⟨oe',vs',oT',ts',f1,f2,f3,f4,f5,f6,f7,f8,f9⟩ g=>?_
 have hch:∀b∈e::(match hv with | .ref T=>[T] | _=>[]),h0.get? b=none/\H b=none:=λb hb=>by
  rcases wn.mp hb with rfl | hb
  ·exact⟨ye,ue⟩
  ·rcases hh with rfl | ⟨T,oT,ts,rfl,_,_,_,_,y,u⟩
   ·cases hb
   ·rw[wE.mp hb];exact⟨y,u⟩
 have nch:∀b,b∉e::(match hv with | .ref T=>[T] | _=>[])->b≠e/\hv ≠ .ref b:=λb hb=>⟨λz=>hb (z ▸ .head _),λz=>hb (by subst z;exact .tail _ (.head _))⟩
 have there:∀b o,s.heap.get? b=some o->∃o',h'.get? b=some o'∨b=e∨hv = .ref b:=λb o q=>by
  by_cases z1:b=e
  ·exact⟨o,.inr (.inl z1)⟩
  ·by_cases z2:hv = .ref b
   ·exact⟨o,.inr (.inr z2)⟩
   ·obtain⟨sl,q'⟩:=g.slot b o q z1 z2
    exact⟨_,.inl q'⟩
 refine fin h' _ hch (.head _) ⟨λb o q n nf nx=>g.keep b o q (nch b nx).1 (nch b nx).2 (by rw[<- hs];exact nf),λb o q n _ nx=>g.slot b o q (nch b nx).1 (nch b nx).2,λb o _ n _=>n,λb o q nx=>?_,λ_ _ q=>q,λ_ _ _ q=>q,λb ps q=>⟨#[],by rw[q];simp⟩⟩ (λa o q=>?_) ⟨oe',vs',_,f1,f2,f3,f4,f5,ye,ue,.inr ⟨T,oT',ts',rfl,f6,f7,f8,f9,?_,I.hok.fresh q1⟩⟩
 ·obtain⟨sl,q'⟩:=g.slot b o q (nch b nx).1 (nch b nx).2
  exact⟨_,q'⟩
 ·have tr:∀b o',H b=some o'->b≠e/\hv ≠ .ref b/\b∉frs (X.env::X.outer):=λb o' z=>by
   refine⟨λw=>?_,λw=>?_,λw=>?_⟩
   ·rw[w,ue]at z;cases z
   ·rcases hh with y | ⟨T,oT,ts,y,_,_,_,_,_,u⟩
    ·rw[y]at w;cases w
    ·rw[y]at w;cases w;rw[u]at z;cases z
   ·rw[<- hs]at w
    rw[I.stkFree b w]at z;cases z
  refine(I.hok a o q).stay (λb u hb z=>?_) (λ_ z=>z) λ_ _ z=>z
  have:∃o',H b=some o':=by
   rcases hb with rfl | hb
   ·exact⟨_,q⟩
   ·exact⟨_,hb⟩
  obtain⟨o',ho'⟩:=this
  obtain⟨a1,a2,a3⟩:=tr b o' ho'
  exact g.keep b u z a1 a2 a3
 ·cases z:h0.get? T with
  | none=>rfl
  | some o=>exact absurd (hsub T o z) (GL.mpr q1)
end
def odV:Option Addr->bv
 | none=>.none
 | some dx=>.ref dx
def Yg (h:Heap)(od:Option Addr):Prop:=∀dx,od=some dx->h.get? dx=none
def CX1 (P:wT)(w:Bf):CXT:=λouter H s E e s' =>
 ∃a C od H',e = .ref a/\s'.os=s.os/\EX s'.gens/\Un (frs outer) [] H H' s.heap s'.heap/\HOk P w H' s'.heap/\Hot od s.heap s'.heap H' a C/\Yg s.heap od/\E (odV od) (some C) H'
section
variable {P:wT}{w:Bf}{K:bi}{mg:Str->Option bv}{base:Heap}{N:List Str}{qual:Str}{scope:Cv}{f:Addr}{cd:bv}{A:Bg}{outer:List Env}{s0:db}{H0:Hp}{E:XK}
theorem wB {pins:List (Addr×Obj)}{σ:St}{H:Hp}{s:db}{e C:Addr}{od:Option Addr}(I:Inv (cxOf (CX1 P w) P w K mg base N qual scope f cd A outer s0 H0 E) pins σ H s)(hot:Hot od s0.heap s.heap H e C)(hyg:Yg s0.heap od)(he:E (odV od) (some C) H) :
  (cxOf (CX1 P w) P w K mg base N qual scope f cd A outer s0 H0 E).xe (.ref e) s:=by
 show li (o0 P w) _ (Gr _ (.ref e)) _ _ s
 unfold Gr
 refine bn (lvI I rfl rfl (λb o q=>?_) hot λh' ch hch hin un hok hot'=>?_)
 ·exact xz (lc q) I.sz
 ·have lo:∀b o,s0.heap.get? b=some o->b∉ch:=λb o q z=>by rw[(hch b z).1]at q;cases q
  have nL:∀b o,s0.heap.get? b=some o->b≠s0.heap.objs.size:=λb o q=>ww (lc q)
  refine⟨e,C,od,H,rfl,I.os,I.bare,⟨λb o q n nf _=>?_,λb o q n hb _=>?_,λb o q n _=>I.base.free b o q n (λz=>nomatch z),λb o q _=>?_,I.base.tups,I.base.frzs,I.base.tbls⟩,hok,hot',hyg,he⟩
  ·refine un.keep b o (I.base.keep b o q n nf λz=>nomatch z) (I.base.free b o q n λz=>nomatch z) (λz=>?_) (lo b o q)
   rcases wn.mp z with z | z
   ·exact nL b o q z
   ·exact nf z
  ·obtain⟨sl,q'⟩:=I.base.slot b o q n hb λz=>nomatch z
   obtain⟨sl',q''⟩:=un.slot b _ q' (I.base.free b o q n λz=>nomatch z) (.tail _ hb) (lo b o q)
   exact⟨sl',q''⟩
  ·obtain⟨o',q'⟩:=I.base.there b o q λz=>nomatch z
   exact un.there b o' q' (lo b o q)
end
abbrev bmV:List bv:=[.type "ValueError",.type "Exception",.type "BaseException",.type "object"]
theorem sk {K:bi}{h:Heap}{x:Str}{C:Addr}{mg:Str->Option bv}(KX:K.In h)(hm:mg x=some (.ref C))(q:C8 K C bmV "ValueError.__new__" = true):OwnCls x C bmV "ValueError.__new__" mg h:=by
 unfold C8 at q
 split at q
 next dd cd sl lk =>
  split at q
  next C' bm k0 k1 k2 k3 n k5 em es =>
   simp only[A7,beq_iff_eq,BV]at q
   obtain⟨⟨⟨⟨⟨rfl,rfl⟩,nd⟩,tl⟩,nk⟩,ni⟩:=q
   obtain⟨a1,a2,a3,a4,a5,a6,a7,a8,a9,a10,a11⟩:=cd
   obtain⟨l⟩:=sl
   dsimp only at em nd nk ni es
   subst em nd es
   exact⟨hm,bm,a4,a1,a5,a2,a6,a7,a8,a9,a10,dd,k0,k1,k2,k3,k5,_,KX _ _ lk,.of_isNs (PySem.W.isNs_of_in KX nk),PySem.W.nsMap_none_of_in KX nk ni,Hj KX tl⟩
  ·cases q
 ·cases q
theorem HOk.get {P:wT}{w:Bf}{H:Hp}{h:Heap}{a:Addr}{o:HO}(k:HOk P w H h)(e:H a=some o):∃u,h.get? a=some u:=by
 have x:=k a o e
 cases o with
 | lst xs=>obtain⟨_,_,_,_,e⟩:=x;exact⟨_,e⟩
 | tup xs=>obtain⟨_,_,_,ob,e,_⟩:=x;exact⟨_,e⟩
 | dK kvs=>obtain⟨_,_,_,_,o,_,_,e,_⟩:=x;exact⟨_,e⟩
 | dT kvs=>obtain⟨_,_,_,_,o,_,_,e,_⟩:=x;exact⟨_,e⟩
 | set S n=>obtain⟨o,_,_,_,e,_⟩:=x;exact⟨_,e⟩
 | ins C dx fs=>obtain⟨_,_,_,e,_⟩:=x;exact⟨_,e⟩
 | own y=>exact x
 | xd fs=>obtain⟨_,⟨_,_,_,e,_⟩,_⟩:=x;exact⟨_,e⟩
 | rng lo hi=>obtain⟨_,_,_,e⟩:=x;exact⟨_,e⟩
 | frz ob u=>obtain⟨e,_⟩:=x;exact⟨_,e⟩
 | tbl ps=>exact⟨_,x⟩
 | met f y=>exact⟨_,x⟩
 | ext φ=>obtain⟨_,e,_⟩:=x;exact e
 | big ps φ=>obtain⟨_,_,e,_⟩:=x;exact e
theorem Inv.back0 {X:Cx}{pins:List (Addr×Obj)}{σ:St}{H:Hp}{s:db}(I:Inv X pins σ H s)(hx:X.ex=[]){b:Addr}(h:s.heap.get? b=none):X.s₀.heap.get? b=none:=by
 cases q:X.s₀.heap.get? b with
 | none=>rfl
 | some o =>
  obtain⟨o',q'⟩:=I.base.there b o q (by rw[hx];simp)
  rw[h]at q';cases q'
def Fld (H:Hp):Option Str->Option Addr->V->Prop
 | none,od,v=>od=none/\v = .non
 | some f,od,v=>∃dx,od=some dx/\H dx=some (.xd [(f,v)])
structure Tie (X:Cx)(C:Addr)(fn:Option Str)(R:VK):Prop where
 ex:X.ex=[]
 run:∀ {pins:List (Addr×Obj)} {σ:St} {H:Hp} {s:db} {e:Addr} {od:Option Addr} {v:V},Inv X pins σ H s->Hot od X.s₀.heap s.heap H e C->Yg X.s₀.heap od->Fld H fn od v->R v H->X.xe (.ref e) s
def SPr (X:Cx)(pins:List (Addr×Obj))(D:Ends)(f:Flow)(s':db):Prop :=
 match f with
 | .next=>∃ σ' H',Inv X pins σ' H' s'/\D.nx σ' H'
 | _=>False
def PSr (X:Cx)(R:VK)(st:Stmt)(t:TS):Prop :=
 ∀(pins:List (Addr×Obj)) (s:db) (σ:St) (H:Hp) (D:Ends),D.rt=R->Inv X pins σ H s->t D σ H->li (o0 X.prog X.w) X.A (exec st X.env) (SPr X pins D) X.xe s
def PSsr (X:Cx)(R:VK)(st:List Stmt)(t:TS):Prop :=
 ∀(pins:List (Addr×Obj)) (s:db) (σ:St) (H:Hp) (D:Ends),D.rt=R->Inv X pins σ H s->t D σ H->li (o0 X.prog X.w) X.A (execs st X.env) (SPr X pins D) X.xe s
def wz (D:Ends):Ends:={nx:=D.nx,rt:=λ_ _=>False,bk:=λ_ _=>False,ct:=λ_ _=>False}
section
variable {X:Cx}{R:VK}{C:Addr}
theorem jh {st:Stmt}{t:TS}(h:PS X.nox st t)(ht:∀D σ H,t D σ H->t (wz D) σ H:=by intro _ _ _ h;exact h):PSr X R st t:=λpins s σ H D _ I hw=>by
 refine BB (h pins s σ H (wz D) (I.wish _) (ht D σ H hw)) (λf s' q=>?_) λ_ _ z=>BA z
 cases f with
 | next=>obtain⟨σ',H',I',q⟩:=q;exact⟨σ',H',I'.unwish,q⟩
 | brk=>obtain⟨_,_,_,q⟩:=q;exact q
 | cont=>obtain⟨_,_,_,q⟩:=q;exact q
 | ret u=>obtain⟨_,_,_,_,_,q⟩:=q;exact q
theorem gJ:PSsr X R [] tNext:=λ_ _ σ H _ _ I h=>Dq ⟨σ,H,I,h⟩
theorem b8 {st:Stmt}{rest:List Stmt}{t u:TS}(h1:PSr X R st t)(h2:PSsr X R rest u):PSsr X R (st::rest) (tSeq t u):=by
 intro pins s σ H D e I h
 refine Ed (thn (h1 pins s σ H {D with nx:=u D} e I h) λf s1 q=>?_)
 cases f with
 | next =>
  obtain⟨σ',H',I',q⟩:=q
  exact h2 pins s1 σ' H' D e I' q
 | ret v=>exact q
 | brk=>exact q
 | cont=>exact q
theorem j4 {st:List Stmt}:PSsr X R st tNever:=λ_ _ _ _ _ _ _ h=>h.elim
theorem wj {c:Expr}{a b:List Stmt}{tc:TT}{t u:TS}{pos:Pos}(hc:PT X.nox c tc)(ha:PSsr X R a t)(hb:PSsr X R b u):PSr X R (.If c a b pos) (tIfS tc t u):=by
 intro pins s σ H D e I h
 refine wpAny_If (thn (hc.nox pins s σ H _ I h) λd s1 ⟨H1,I1,q1⟩=>?_)
 cases d with
 | true=>exact ha pins s1 σ H1 D e I1 q1
 | false=>exact hb pins s1 σ H1 D e I1 q1
theorem rT {x:Str}(T:Tie X C none R)(hc:X.calm=true)(hm:X.mg x=some (.ref C))(hq:C8 X.K C bmV "ValueError.__new__" = true){e0:Expr}{v0:V}{np cpos pos:Pos}(ha:PE X.nox e0 (tC v0))
  (hg:Gl X x:=by rfl) (he:Ba [e0] X.env=[(false,eval e0 X.env)]:=by rfl) (hdb:(x==("__debug__" : Str))=false:=by decide):PSr X R (.Raise (some (.Call (.Name x np) [e0] [] cpos)) none pos) (tRet (tC .non)):=by
 intro pins s σ H D e I h
 obtain⟨tl,N,nm,q,bs,hdct,sn,sub,ab,col,dd,k0,k1,k2,k3,k5,mN,hC,hN,hni,tw⟩:=(sk I.mod.kin hm hq).obj
 refine Ik (k5:=k5) (k3:=k3) (k2:=k2) (k1:=k1) (k0:=k0) (dd:=dd) (col:=col) (ab:=ab) (sub:=sub) (sn:=sn) (hdct:=hdct) (bs:=bs) (N:=N) (q:=q) (nm:=nm) (C:=C) (bm:=tl) (mN:=mN) Gf (tw.hasType (by decide +kernel)) (I.ok.hd hc) (by rw[he];rfl) hni (gj I hg hm ⟨rfl,?_⟩ hdb)
 rw[he]
 refine D5 (CW ?_)
 refine thn (ha.nox pins s σ H (λv H'=>H'=H) I rfl) λu s1 ⟨x,H1,I1,r1,q1⟩=>Dl ?_
 subst q1
 refine⟨rfl,by show(1:Nat)<=_;decide,I1.bk _ _ hC,hN.keeps I1.bk,tw.keeps I1.bk,λh' a mk=>?_⟩
 obtain⟨tt,g1,g2,g3⟩:=mk.there
 refine T.run (I1.kept (t':=s1.toks) mk.keeps) ⟨_,_,.none,g1,rfl,rfl,rfl,rfl,I1.back0 T.ex mk.new,?_,.inl rfl⟩ (λ_ z=>nomatch z) ⟨rfl,rfl⟩ (e▸h)
 cases z:H1 a with
 | none=>rfl
 | some o =>
  obtain⟨u,z'⟩:=I1.hok.get z
  rw[mk.new]at z';cases z'
end
theorem PA.nox {X:Cx}{es:List Expr}{t:TA}(h:PA X.nox es t):PA X es t:=λpos pins s σ H Q I hw =>
 BB (h pos pins s σ H Q (I.wish _) hw) (λ_ _ ⟨xs,H',I',r,q⟩=>⟨xs,H',I'.unwish,r,q⟩) λ_ _ z=>BA z
def XW (E:XK)(C:Addr)(fn:Option Str):VK:=λv H'=>∀od,Fld H' fn od v->E (odV od) (some C) H'
def spX (C:Addr)(fn:Option Str)(sp:Sp):Sp:=λvs H Q E=>sp vs H (XW E C fn) E
structure OkX (P:wT)(w:Bf)(K:bi)(mg:Str->Option bv)(base:Heap)(k:Nat)(x:Str)(ps:List Str)(C:Addr)(fn:Option Str)(sp:Sp):Prop where
 ex:∃f fd,mg x=some (.ref f)/\Bs K (.ref f)=true/\iL K fd ps []/\FnOk P w K mg base (CX1 P w) k f fd ps (spX C fn sp)
section
variable {P:wT}{w:Bf}{K:bi}{mg:Str->Option bv}{base:Heap}{N:List Str}{qual:Str}{scope:Cv}{f:Addr}{cd:bv}{A:Bg}{outer:List Env}{s0:db}{H0:Hp}{E:XK}{C:Addr}{fn:Option Str}{od:Option Addr}
theorem tie1:Tie (cxOf (CX1 P w) P w K mg base N qual scope f cd A outer s0 H0 E) C fn (XW E C fn):=⟨rfl,λI hot hy hf hr=>wB I hot hy (hr _ hf)⟩
theorem Hot.older {h0 h1 h:Heap}{H:Hp}{e C:Addr}(q:Hot od h1 h H e C)(le:∀b,h1.get? b=none->h0.get? b=none):Hot od h0 h H e C:=by
 obtain⟨oe,vs,hv,a1,a2,a3,a4,a5,a6,a7,a8⟩:=q
 refine⟨oe,vs,hv,a1,a2,a3,a4,a5,le _ a6,a7,?_⟩
 rcases a8 with z | ⟨T,oT,ts,b1,b2,b3,b4,b5,b6,b7⟩
 ·exact .inl z
 ·exact .inr ⟨T,oT,ts,b1,b2,b3,b4,b5,le _ b6,b7⟩
theorem Ar:fY (CX1 P w) (cxOf (CX1 P w) P w K mg base N qual scope f cd A outer s0 H0 E) E:=by
 rintro pins σ H s e s' I ⟨a,C,od,H',rfl,os,bare,un,hok,hot,hy,he⟩
 exact wB (I.call' os un hok bare λb z=>nomatch z) (hot.older λb q=>I.back0 rfl q) (λdx q=>I.back0 rfl (hy dx q)) he
end
section
variable {X:Cx}{E:XK}{C:Addr}{fn:Option Str}{K:bi}{S:ASp}
theorem xw {R:VK}{body:List Stmt}{t:TS}(h:PSsr X R body t):PSs X body (λ_ σ H=>∃D0:Ends,D0.rt=R/\(∀ σ H,¬D0.nx σ H)/\t D0 σ H):=by
 rintro pins s σ H D I ⟨D0,e,no,ht⟩
 refine thn (h pins s σ H D0 e I ht) λfl s' q=>?_
 cases fl with
 | next=>obtain⟨σ',H',_,q⟩:=q;exact(no _ _ q).elim
 | ret v=>exact BA q
 | brk=>exact BA q
 | cont=>exact BA q
end
theorem DefN.aokX {P:wT}{w:Bf}{K:bi}{mg:Str->Option bv}{base:Heap}{x:Str}{st:Stmt}{N ps:List Str}{k:Nat}{a:AS}(D:DefN K mg x st ps)(Sc:aX N ps (ar st))(pr:Nat->Bool)(us:En)(S:ASp)(C:Addr)(fn:Option Str)(hus:pc (N.length - ps.length) Sv.un=us)
  (hbody:∀(f:Addr) (cdv:bv) (A:Bg) (outer:List Env) (s:db) (H:Hp) (E:XK),Room k (A.deeper (DW x (ar st) s.heap.objs.size f cdv)) ->
   ∃t,PSsr (cxOf (CX1 P w) P w K mg base N x (ar st) f cdv A outer s H E) (XW E C fn) (bu st) t/\TSok K pr t a)
  (hS:∀ss q,S ss q->ss.length=ps.length/\ownB pr ss 0=true/\a ⟨λ_=>False,λr ρ=>(∃d,r = .d d)/\q r (outS ss ρ),λ_=>False,λ_=>False⟩ (ss++us)):OkX P w K mg base (k+1) x ps C fn (spA K S):=by
 have lenOk:∀vs H Q E,spX C fn (spA K S) vs H Q E->vs.length=ps.length:=λvs H Q E h=>by
  obtain⟨ss,Z,q,r,hs',_⟩:=h
  have:=r.len
  rw[lw]at this
  rw[this];exact(hS ss q hs').1
 obtain⟨f,fd,hm,F,hb⟩:=D.ex
 refine⟨f,fd,hm,F.kp,.all hb,?_⟩
 obtain⟨oc,od,kV,doc,pm,an,cdv,ct,osl,rfl,lk,hcd⟩:=F.ex
 refine zZ lk hcd Sc lenOk λA outer s H vs Q E hr h=>?_
 have hl:=lenOk _ _ _ _ h
 obtain⟨ss,Z,q,r0,hs',post⟩:=h
 obtain⟨h1,h2,h3⟩:=hS ss q hs'
 obtain⟨t,ht,tok⟩:=hbody f cdv A outer s H E hr
 refine⟨_,xw ht,{nx:=λ_ _=>False,rt:=XW E C fn,bk:=λ_ _=>False,ct:=λ_ _=>False},rfl,λ_ _ z=>z,?_⟩
 have hp:∀i a,(F0 vs ss H Z).pin i a->pr i=true:=λi a h=>by
  rcases h with h | h
  ·have:=kZ h2 i h.1;rwa [Cb]at this
  ·exact h.elim
 unfold start
 rw[hl]
 rw[<- hus]at h3
 refine tok (F0 vs ss H Z) _ _ H _ _ hp (r0.ext _) h3 ⟨λ_ _ _ z=>z.elim,λ_ _ _ z=>z.elim,λ_ _ _ z=>z.elim,λσ' ρ' rr v H' hq r=>?_⟩
 obtain⟨⟨d,e⟩,hq⟩:=hq
 subst e
 obtain⟨r1,r2⟩:=r
 obtain⟨o1,o2,o3⟩:=r0.out r1
 exact post (.d d) _ v H' hq o3 (λi z=>nomatch z) ⟨o1,r2.same o2⟩
section
variable {X:Cx}{pins:List (Addr×Obj)}{σ σ1:St}{H H1:Hp}{s s1:db}{h':Heap}{ch:List Addr}{e C:Addr}
theorem Inv.hot (I1:Inv X pins σ1 H1 s1)(I:Inv X pins σ H s)(hx:X.ex=[])(un:Un (frs X.stack) ch H H s.heap h')(hok:HOk X.prog X.w H h')(hch:∀b∈ch,s1.heap.get? b=none):Inv X pins σ H {s with heap:=h'}:=by
 have n0:∀b o,X.s₀.heap.get? b=some o->b∉ch:=λb o q z=>by
  obtain⟨o',q'⟩:=I1.base.there b o q (by rw[hx];simp)
  rw[hch b z]at q';cases q'
 have nf:∀b o,X.s₀.heap.get? b=some o->b∉X.fs->b∉frs X.stack:=λb o q n z=>by
  rcases wn.mp (I.stkSub b z)with z | z
  ·exact absurd (xz (lc q) I.ok.above) (by rw[z];exact De _)
  ·exact n z
 have nx:∀b,b∉X.ex:=λb=>by rw[hx];simp
 obtain⟨m,⟨o,es,ep,ho,r⟩,hl⟩:=id I.loc
 have nL:X.env.locals∉ch:=λz=>by
  obtain⟨m1,⟨o1,_,_,ho1,_⟩,_⟩:=id I1.loc
  rw[hch _ z]at ho1;cases ho1
 have nC:∀x c,X.env.cells.lookup x=some c->c∉ch:=λx c q z=>by
  obtain⟨v,o1,ho1,_⟩:=I1.cell x c q
  rw[hch _ z]at ho1;cases ho1
 have cell:∀ {x c v},X.env.cells.lookup x=some c->s.heap.IsCell c v->Heap.IsCell h' c v:=λ{x c v} q ⟨oc,hoc,hd⟩=>by
  obtain⟨sl,q'⟩:=un.any hoc (I.freeC x c q) (nC x c q)
  exact⟨_,q',hd⟩
 obtain⟨sl,hL⟩:=un.any ho I.free nL
 refine⟨I.ok,I.os,I.bare,⟨λb o q n f _=>?_,λb o q n f _=>?_,λb o q n _=>I.base.free b o q n (nx b),λb o q _=>?_,I.base.tups,I.base.frzs,I.base.tbls⟩,⟨m,⟨_,es,ep,hL,r⟩,λi x v a1 a2 a3=>?_⟩,λx c q=>?_,I.free,I.freeC,λp hp=>?_,hok,I.len⟩
 ·exact un.keep b o (I.base.keep b o q n f (nx b)) (I.base.free b o q n (nx b)) (nf b o q f) (n0 b o q)
 ·obtain⟨sl1,q1⟩:=I.base.slot b o q n f (nx b)
  obtain⟨sl2,q2⟩:=un.any q1 (I.base.free b o q n (nx b)) (n0 b o q)
  exact⟨sl2,q2⟩
 ·obtain⟨o',q'⟩:=I.base.there b o q (nx b)
  exact un.there b o' q' (n0 b o q)
 ·obtain⟨u,ru,lk⟩:=hl i x v a1 a2 a3
  refine⟨u,ru,?_⟩
  rcases lk with z | ⟨z1,c,z2,z3⟩
  ·exact .inl z
  ·exact .inr ⟨z1,c,z2,cell z2 z3⟩
 ·obtain⟨v,hv⟩:=I.cell x c q
  exact⟨v,cell q hv⟩
 ·obtain⟨p1,p2,p3,p4,p5⟩:=I.pin p hp
  refine⟨un.keep _ _ p1 p2 (λz=>?_) (λz=>?_),p2,p3,p4,p5⟩
  ·rcases wn.mp (I.stkSub _ z)with z | z
   ·exact p3 z
   ·exact p4 z
  ·have:=(I1.pin p hp).1
   rw[hch _ z]at this;cases this
theorem sfI {A:Bg}{E:bv->db->Prop}{Q:Unit->db->Prop}{h0:Heap}{od:Option Addr}(I:Inv X pins σ H s)(hot:Hot od h0 s.heap H e C)
  (fin:∀h' ch,(∀b∈ch,h0.get? b=none)->Un (frs X.stack) ch H H s.heap h'->HOk X.prog X.w H h'->(∃oe vs,h'.get? e=some oe/\oe.cls = .ref C/\oe.dict=od/\oe.data = .fields vs)->Q () {s with heap:=h'}) :
  li (o0 X.prog X.w) A (EF (.ref e) none) Q E s:=by
 obtain⟨oe,vs,hv,ge,gc,gd,gf,g1,ye,ue,hh⟩:=hot
 unfold EF
 refine bn (BM ge gf g1 ?_)
 rcases hh with rfl | ⟨T,oT,ts,rfl,nT,gT,fT,t3,yT,uT⟩
 ·rw[if_neg (by decide)]
  exact kt (fin s.heap [] (λ_ z=>nomatch z) (.kept λ_ _ q=>q) I.hok ⟨oe,vs,ge,gc,gd,gf⟩)
 ·rw[if_pos (by simp:(Value.ref T != Value.none)=true)]
  refine CN gT fT (CY.mp t3).1 ?_
  have ot:∀b,b≠T->(s.heap.update T (BW λa=>a.setIfInBounds 3 ((none:Option Addr).elim Value.none λf=>BN f))).get? b=s.heap.get? b:=λb q=>AC _ _ (B_ q)
  have nin:∀b,b∉[T]->b≠T:=λb q z=>q (by rw[z];exact .head _)
  refine fin _ [T] (λb z=>by rw[wE.mp z];exact yT) ⟨λb o q _ _ n=>(ot b (nin b n)).trans q,λb o q _ _ n=>⟨o.slots,(ot b (nin b n)).trans q⟩,λ_ _ _ n _=>n,λb o q n=>⟨o,(ot b (nin b n)).trans q⟩,λ_ _ q=>q,λ_ _ _ q=>q,λb ps q=>⟨#[],by rw[q];simp⟩⟩ (λa o q=>?_) ⟨oe,vs,(ot e nT.symm).trans ge,gc,gd,gf⟩
  refine(I.hok a o q).stay (λb u hb z=>(ot b λw=>?_).trans z) (λ_ z=>z) λ_ _ z=>z
  subst w
  rcases hb with hb | hb
  ·rw[<- hb,uT]at q;cases q
  ·rw[uT]at hb;cases hb
end
def uk (X:Cx)(body:List Stmt)(c:Expr):Prop:=∀(Q:Flow->db->Prop) (E:bv->db->Prop) (pins:List (Addr×Obj)) (σ:St) (H:Hp) (s:db),Inv X pins σ H s->li (o0 X.prog X.w) X.A (eval c X.env) (λ_ _=>False) E s->li (o0 X.prog X.w) X.A (execs body X.env) Q E s
section
variable {X:Cx}{K:bi}{S:ASp}
theorem xx {body:List Stmt}{t:TS}{h0:Ep}{hs:List Ep}{pos:Pos}(h:PSs X.nox body t):PS X (.Try body (h0::hs) [] [] pos) t:=by
 intro pins s σ H D I ht
 refine Jw (BB (h pins s σ H D (I.wish _) ht) (λf s1 q=>?_) λ_ _ z=>BA z)
 have q':=SP.unwish q
 cases f with
 | next=>exact Dq q'
 | ret v=>exact q'
 | brk=>exact q'
 | cont=>exact q'
theorem y8 {st:Stmt}{t u:TS}(h1:PS X st t)(h2:PS X st u):PS X st (λD σ H=>t D σ H∨u D σ H):=λpins s σ H D I h=>h.elim (h1 pins s σ H D I) (h2 pins s σ H D I)
end
end L2
namespace L2
open PySem PySem.Spec PyProof.Rows PySem.W
section
variable {prog:wT}{w:Bf}{A:Bg}{E:bv->db->Prop}{s:db}{K:bi}{x D:Addr}{ox:Obj}{odo:Option Obj}
theorem tO {Q:Option bv->db->Prop}(KX:K.In s.heap)(I:E4 s.heap x ox D odo)(hga:A9 K (.ref D) "__getattribute__" = some (some (.builtin "BaseException.__getattribute__")))(hgn:A9 K (.ref D) "__getattr__" = some none)
  (hf:findObj K D odo "__class__" = some (.bind (.builtin "getset_descriptor.__get__") (.builtin "object.__class__"))) (hm:Im K D (.type "object")=some true) (hb:EA K (.ref D) (.type "BaseException")=some true)
  (h:Q (some (.ref D)) {s with toks:=s.toks+1}):li (o0 prog w) A (getAttr? (.ref x) "__class__") Q E s:=by
 obtain⟨hh,g,d,t,os⟩:=s
 have L0:=I.type (M:=o0 prog w)
 have L1:=looks_findIn (M:=o0 prog w) KX hga
 have L2:=looks_findIn (M:=o0 prog w) KX hgn
 have L3:=looks_find (M:=o0 prog w) KX I hf
 have L4:=looks_subIn (M:=o0 prog w) KX hb
 have f3:=Gg.ga.bind (.ref x)
 have hk:builtinKind "BaseException.__getattribute__" = some .slot:=by decide +kernel
 have hsp:splitId "BaseException.__getattribute__" = some ("BaseException", "__getattribute__"):=by decide +kernel
 have ha:=PySem.F.args_bexc_ga (.ref x) (.str "__class__" t)
 unfold getAttr? getAttrBy? getAttrBy
 refine bn (wpAny_mkText (bn (EY (C2 (bn (L0.at (bn (L1.at ?_))))))))
 show li _ _ (JP _ _ _ _ _ _) _ _ _
 unfold JP
 repeat (any_goals (first | assumption | with_reducible refine L0.at ?_ | with_reducible refine L1.at ?_ | with_reducible refine L2.at ?_ | wp_step))
 refine codeAny_call_builtin Gg.ga.plain PySem.F.entry_bexc_ga ?_
 simp only[checkBuiltinCall,hk,hsp]
 refine bn ?_
 unfold isInstance
 repeat (any_goals (first | assumption | with_reducible refine L0.at ?_ | with_reducible refine L4.at ?_ | with_reducible refine L3.at ?_ | wp_step))
 refine class_get (s:=⟨hh,g,d,t+1,os⟩) (ox:=ox) (od:=odo) KX I hm ?_
 show li _ _ (ret (.ref D)) _ _ _
 refine kt ?_
 exact handed_on rfl (kt h)
end
structure ExIs (K:bi)(C:Addr):Prop where
 ga:A9 K (.ref C) "__getattribute__" = some (some (.builtin "BaseException.__getattribute__"))
 gn:A9 K (.ref C) "__getattr__" = some none
 cl:∀od,findObj K C od "__class__" = some (.bind (.builtin "getset_descriptor.__get__") (.builtin "object.__class__"))
 mo:Im K C (.type "object")=some true
 be:EA K (.ref C) (.type "BaseException")=some true
 is:(clsIn K C).isSome=true
theorem ExIs.of {K:bi}{C:Addr}(ga:A9 K (.ref C) "__getattribute__" = some (some (.builtin "BaseException.__getattribute__")))(gn:A9 K (.ref C) "__getattr__" = some none)(hc:DE K C=true)(ha:A9 K (.ref C) "__class__" = some (some (.builtin "object.__class__")))
  (hn:Hr K (.builtin "object.__class__") "__get__" = some (some (.builtin "getset_descriptor.__get__"))) (ht:HQ K (.builtin "object.__class__")=some true) (mo:Im K C (.type "object")=some true) (be:EA K (.ref C) (.type "BaseException")=some true):ExIs K C:=by
 obtain⟨cd,hcd,_⟩:=any_some hc
 refine⟨ga,gn,λod=>?_,mo,be,by rw[hcd];rfl⟩
 unfold findObj
 rw[hcd,EH,ha,EH]
 simp only[hn,ht,EH]
theorem pI {K:bi}{a C:Addr}{oe:Obj}{odo:Option Obj}(q:ExIs K C):KitX K (.ref a) (.ref C) (λh=>E4 h a oe C odo) where
 ty:=λ_ _ _ I=>I.type
 it:=λ_ _ KX _=>by
  have z:=q.is
  unfold clsIn at z
  split at z
  next lk =>
   intro A' Q' E' s' k w
   unfold isType loadHead
   exact bn (wpAny_loadPart (k _ _ (KX _ _ lk)) (kt w))
  ·cases z
 ne:=λh tp dd its n sl KX g=>Ii.mpr λe=>by
  have e':C=tp:=Value.ref.inj (beq_iff_eq.mp e)
  subst e'
  have z:=q.is
  unfold clsIn at z
  split at z
  next lk=>cases (KX _ _ lk).symm.trans g
  ·cases z
 ca:=λKX I k=>tO KX I q.ga q.gn (q.cl _) q.mo q.be k
section
variable {Y:Cx}{a C Dc:Addr}{oe:Obj}{vs:Array bv}{b:Bool}
theorem lK:∀ {ds:List Addr} {us:List bv},Vals (ds.map V.ref) us->us=ds.map Value.ref
 | [],_,.nil=>rfl
 | d::ds,_,.cons r rr=>by rw[lK rr,show _=Value.ref d from r];rfl
end
section
variable {K:bi}{pr:Nat->Bool}{t u:TS}{a b:AS}{S:ASp}{ts:TA}{as:AA}{th:Addr->TS}{ah:AS}{i:Nat}
def aOr2 (a b:AS):AS:=λk ρ=>a k ρ∨b k ρ
theorem oS (h1:TSok K pr t a)(h2:TSok K pr u b):TSok K pr (λD σ H=>t D σ H∨u D σ H) (aOr2 a b):=λF σ ρ H D e hp r ha k=>ha.elim (λz=>.inl (h1 F σ ρ H D e hp r z k)) λz=>.inr (h2 F σ ρ H D e hp r z k)
end
section
variable {X:Cx}{pins:List (Addr×Obj)}{σ σ1:St}{H H1:Hp}{s s1:db}{h':Heap}{e C:Addr}
def mcx (X:Cx)(e:Addr):Cx:={X with A:=X.A.mark (some (.ref e)),calm:=false,xe:=λ_ _=>False}
theorem Inv.mcx (I:Inv X pins σ H s)(e:Addr):Inv (mcx X e) pins σ H s :=
 ⟨⟨I.ok.mod,I.ok.kind,I.ok.glob,I.ok.blt,I.ok.above,I.ok.inj,I.ok.has,I.ok.cab,λz=>(nomatch z),I.ok.frames,I.ok.stk,I.ok.exf,I.ok.bs,I.ok.bsz,I.ok.noex,I.ok.exfs,I.ok.funs,I.ok.frf⟩,I.os,I.bare,I.base,I.loc,I.cell,I.free,I.freeC,I.pin,I.hok,I.len⟩
theorem Inv.trackX {od:Option Addr}(I1:Inv X pins σ1 H1 s1)(I:Inv X pins σ H s)(hex:X.ex=[])(ue:H e=none)(y:s1.heap.get? e=none)(hp:exP e C od s.heap):Inv X pins σ (upd H e (.ext (exP e C od))) s:=by
 obtain⟨oe,vs,ge,gc,gd,gf⟩:=id hp
 have y0:=I1.back0 hex y
 have ne:∀ {b:Addr} {o:HO},H b=some o->b≠e:=λz w=>by rw[w,ue]at z;cases z
 have n0:∀b o,X.s₀.heap.get? b=some o->b≠e:=λb o q z=>by rw[z,y0]at q;cases q
 have nL:X.env.locals≠e:=λz=>by
  obtain⟨m1,⟨o1,_,_,ho1,_⟩,_⟩:=id I1.loc
  rw[z,y]at ho1;cases ho1
 have nC:∀x c,X.env.cells.lookup x=some c->c≠e:=λx c q z=>by
  obtain⟨v,o1,ho1,_⟩:=I1.cell x c q
  rw[z,y]at ho1;cases ho1
 refine⟨I.ok,I.os,I.bare,⟨I.base.keep,I.base.slot,λb o q n x=>?_,I.base.there,λb xs q=>?_,λb o u q=>?_,λb ps q=>?_⟩,I.loc,I.cell,?_,λx c q=>?_,λp hp'=>?_,λa o q=>?_,I.len⟩
 ·rw[aL (n0 b o q)];exact I.base.free b o q n x
 ·have:=I.base.tups b xs q
  rw[aL (ne this)];exact this
 ·have:=I.base.frzs b o u q
  rw[aL (ne this)];exact this
 ·obtain⟨more,this⟩:=I.base.tbls b ps q
  exact⟨more,by rw[aL (ne this)];exact this⟩
 ·rw[aL nL];exact I.free
 ·rw[aL (nC x c q)];exact I.freeC x c q
 ·obtain⟨p1,p2,p3,p4,p5⟩:=I.pin p hp'
  refine⟨p1,?_,p3,p4,p5⟩
  rw[aL λz=>?_]
  ·exact p2
  ·have:=(I1.pin p hp').1
   rw[z,y]at this;cases this
 ·by_cases z:a=e
  ·subst z
   rw[aQ]at q
   cases q
   exact⟨hp,⟨oe,ge⟩,λh1 h2 ⟨oe,vs,g1,g2,g3,g4⟩ k=>⟨oe,vs,k _ g1,g2,g3,g4⟩⟩
  ·rw[aL z]at q
   exact(I.hok a o q).stay (λ_ _ _ w=>w) (λb w=>by rw[aL (ne w)];exact w) λb xs w=>by rw[aL (ne w)];exact w
theorem Inv.goes {m:Str->Option bv}{v:Option bv}{n:Str}{i:Nat}{t':Nat}(I:Inv (L2.mcx X e) pins σ H s)(ok:X.Ok)(hN:X.N.Nodup)(hi:X.N[i]? = some n)(hm:∀(i:Nat) (x:Str) (v:V),X.N[i]? = some x->σ[i]? = some (some v)->Vis X.env.scope x->∃u,RelV v u/\Look X.env s.heap m x u)(sb:Bx X.env.locals s.heap h')(hn:h'.Ns X.env.locals (λx=>if x=n then v else m x)) :
  Inv X pins (σ.set i none) H {s with heap:=h',toks:=t'}:=by
 have kp:∀b o,b≠X.env.locals->s.heap.get? b=some o->h'.get? b=some o:=λb o n q=>(sb.2 b n).trans q
 have n0:∀b o,X.s₀.heap.get? b=some o->b≠X.env.locals:=λb o q=>ww (xz (lc q) I.ok.above)
 have cl:∀x c,X.env.cells.lookup x=some c->c≠X.env.locals:=λx c q z=>by
  obtain⟨v,oc,hoc,hdc⟩:=I.cell x c q
  obtain⟨m,⟨o,es,ep,ho,hdo,_⟩,_⟩:=id I.loc
  rw[z]at hoc
  cases hoc.symm.trans (show s.heap.get? X.env.locals=some o from ho)
  rw[hdc]at hdo;cases hdo
 refine⟨ok,I.os,I.bare,⟨λb o q n f x=>kp b o (n0 b o q) (I.base.keep b o q n f x),λb o q n f x=>?_,I.base.free,λb o q x=>?_,I.base.tups,I.base.frzs,I.base.tbls⟩,⟨_,hn,λj x v' a1 a2 a3=>?_⟩,λx c q=>?_,I.free,I.freeC,λp hp=>?_,λa o q=>?_,by rw[Ec];exact I.len⟩
 ·obtain⟨sl,q'⟩:=I.base.slot b o q n f x
  exact⟨sl,kp b _ (n0 b o q) q'⟩
 ·obtain⟨o',q'⟩:=I.base.there b o q x
  exact⟨o',kp b o' (n0 b o q) q'⟩
 ·have ij:i≠j:=λz=>by
   subst z
   have:i<σ.length:=by rw[I.len];exact(sK.mp hi).1
   rw[CS this]at a2;cases a2
  rw[A3 ij]at a2
  obtain⟨u,ru,lk⟩:=hm j x v' a1 a2 a3
  refine⟨u,ru,?_⟩
  have xn:x≠n:=λz=>by
   subst z
   have l1:=(sK.mp hi).1
   have:=(List.getElem?_inj l1 hN).mp (hi.trans a1.symm)
   exact ij this
  rcases lk with⟨z1,z2⟩ | ⟨z1,c,z2,oc,z3,z4⟩
  ·exact .inl ⟨z1,by show(if x=n then v else m x)=some u;rw[if_neg xn];exact z2⟩
  ·exact .inr ⟨z1,c,z2,oc,kp c oc (cl x c z2) z3,z4⟩
 ·obtain⟨v,oc,hoc,hdc⟩:=I.cell x c q
  exact⟨v,oc,kp c oc (cl x c q) hoc,hdc⟩
 ·obtain⟨p1,p2,p3,p4,p5⟩:=I.pin p hp
  exact⟨kp _ _ p3 p1,p2,p3,p4,p5⟩
 ·refine(I.hok a o q).stay (λb u hb z=>kp b u (λw=>?_) z) (λ_ z=>z) λ_ _ z=>z
  have fr:H b=none:=by rw[w];exact I.free
  rcases hb with hb | hb
  ·rw[<- hb,fr]at q;cases q
  ·rw[fr]at hb;cases hb
end
structure ECls (C:Addr)(h:Heap):Prop where
 obj:∃bm N nm q bs hdct sn sub ab col dd k0 k1 k2 k3 k5,h.get? C=some (excClassObj nm q C N bs bm hdct sn sub ab col dd k0 k1 k2 k3 k5 "ValueError.__new__")/\OwnTail h bmV bm
def jH (K:bi)(C:Addr):Bool:=match K.lookup C with
 | some ⟨.type "type",_,.cls cd,sl⟩=>(match cd.mro,sl.toList with
  | .ref C'::bm,[_,_,_,_,some (.builtin n),_]=>C'==C&&n == "ValueError.__new__" && !cd.hasDel&&PySem.W.tailIn K bmV bm
  | _,_=>false)
 | _=>false
theorem ecls {K:bi}{h:Heap}{C:Addr}(KX:K.In h)(q:jH K C=true):ECls C h:=by
 unfold jH at q
 split at q
 next dd cd sl lk =>
  split at q
  next C' bm k0 k1 k2 k3 n k5 em es =>
   simp only[A7,beq_iff_eq,BV]at q
   obtain⟨⟨⟨rfl,rfl⟩,nd⟩,tl⟩:=q
   obtain⟨a1,a2,a3,a4,a5,a6,a7,a8,a9,a10,a11⟩:=cd
   obtain⟨l⟩:=sl
   dsimp only at em nd es
   subst em nd es
   exact⟨bm,a4,a1,a5,a2,a6,a7,a8,a9,a10,dd,k0,k1,k2,k3,k5,KX _ _ lk,Hj KX tl⟩
  ·cases q
 ·cases q
theorem tQ {M:HU}{A:Bg}{E:bv->db->Prop}{h:Heap}{g:Array Hq}{d:Jv}{t:Nat}{os:OsState}{e C Dc:Addr}{oe:Obj}{Q:Bool->db->Prop}{b:Bool}
  (oD:ECls Dc h) (ge:h.get? e=some oe) (gc:oe.cls = .ref C) (hs:∀(A':Bg) (E':bv->db->Prop) (Q':Bool->db->Prop),Q' b ⟨h,g,d,t,os⟩->li M A' (isSubtype (.ref C) (.ref Dc)) Q' E' ⟨h,g,d,t,os⟩)
  (hq:Q b ⟨h,g,d,t,os⟩):li M A (excMatches (.ref e) (.ref Dc)) Q E ⟨h,g,d,t,os⟩:=by
 obtain⟨b2,N2,m2,q2,s2,c2,n2,u2,a2,l2,d2,k20,k21,k22,k23,k25,hD,T2⟩:=oD.obj
 have hB:(Value.ref Dc::b2).contains (.type "BaseException")=true:=by rw[HY,T2.hasType (b:=true) (by decide +kernel),Bool.or_true]
 have f:=tc_notTuple
 unfold excMatches
 repeat (first | (with_reducible refine Ji ge ?_;rw[gc]) | with_reducible refine Ji hD ?_ | (with_reducible refine wpAny_isSubtype_exc hD ?_;rw[hB]) | wp_step)
 refine hs _ _ _ ?_
 cases b with
 | true =>
  repeat wp_step
  exact hq
 | false =>
  repeat wp_step
  exact hq
def goE (i:Nat)(D:Ends):Ends:={nx:=λσ H=>D.nx (σ.set i none) H,rt:=D.rt,bk:=λσ H=>D.bk (σ.set i none) H,ct:=λσ H=>D.ct (σ.set i none) H}
section
variable {X:Cx}{K:bi}{S:ASp}
def HB (X:Cx)(C:Addr)(od:Option Addr)(hs:List Ep)(tH:Addr->TS):Prop :=
 ∀(a:Addr) (D:Ends) (pins:List (Addr×Obj)) (σ:St) (H1 H2:Hp) (s1 s3:db),Inv X pins σ H1 s1->Inv X pins σ H2 s3->Hot od s1.heap s3.heap H2 a C->tH a D σ H2 ->
  li (o0 X.prog X.w) X.A (handleBy (.ref a) X.env hs) (SP X pins D) X.xe s3
def v5 (C:Addr)(i:Nat)(od:Option Addr)(th:TS):Addr->TS:=λa D σ H=>th (goE i D) (σ.set i (some (.ref a))) (upd H a (.ext (exP a C od)))
theorem wF {i:Nat}{y n:Str}{C Dc:Addr}{od:Option Addr}{np hpos:Pos}{suite:List Stmt}{b0:Stmt}{rest:List Ep}{th:TS}
  (hex:X.ex=[]) (hy:X.mg y=some (.ref Dc)) (q2:jH X.K Dc=true) (q3:EA X.K (.ref C) (.ref Dc)=some true)
  (hN:X.N.Nodup) (hi:X.N[i]? = some n) (hloc:X.env.scope.names.lookup n=some .local) (hh:∀a,PSs (mcx X a) (b0::suite) th) (hgy:Gl X y:=by rfl) (hdy:(y==("__debug__" : Str))=false:=by decide) :
  HB X C od (.ExceptHandler (some (.Name y np)) (some n) (b0::suite) hpos::rest) (v5 C i od th):=by
 intro a D pins σ H1 H2 s1 s3 I1 I3 hot3 hW
 obtain⟨oe3,vs3,hv3,ge3,gc3,gd3,gf3,g13,y3,u3,hh3⟩:=id hot3
 refine wpAny_handleBy_cons (codeAny_handlers_test (gj (I3.mcx a) hgy hy ?_ hdy)) (by intro q;cases q)
 refine tQ (b:=true) (ecls I3.kIn q2) ge3 gc3 (λA' E' Q' q=>(PySem.W.looks_subIn I3.kIn q3).at q) (codeAny_handlers_suite_as ?_)
 refine sfI I3 hot3 λh4 ch4 hch4 un4 hok4 ⟨oe4,vs4,ge4,gc4,gd4,gf4⟩=>?_
 have I4:=Inv.hot I1 I3 hex un4 hok4 hch4
 have I4':=(Inv.trackX (C:=C) (od:=od) I1 I4 hex u3 y3 ⟨oe4,vs4,ge4,gc4,gd4,gf4⟩).mcx a
 refine fh (X:=L2.mcx X a) (v:=.ref a) I4' hN hi (.inl hloc) rfl (λs5 I5 _=>?_) (.inr hloc)
 refine BB (hh a pins s5 _ _ (goE i D) I5 hW) (λfl s6 q6=>?_) λ_ _ z=>BA z
 have go:∀ {σ6:St} {H6:Hp} {Q:Unit->db->Prop},Inv (L2.mcx X a) pins σ6 H6 s6->(∀s7,Inv X pins (σ6.set i none) H6 s7->Q () s7)->li (o0 X.prog X.w) X.A (do bindName X.env n .none;unbindBehindTheSuite X.env n hpos) Q X.xe s6:=λI6 k=>by
  obtain⟨m6,hn6,hm6⟩:=id I6.loc
  refine wpAny_nameGoes_keeps hloc hn6 (by show(X.env.scope.kind==_||_)=_;rw[I3.ok.kind];rfl) λh7 v7 hn7 hs7=>?_
  exact k _ (I6.goes I3.ok hN hi hm6 hs7 hn7)
 cases fl with
 | next=>obtain⟨σ6,H6,I6,q⟩:=q6;exact go I6 λs7 I7=>⟨_,H6,I7,q⟩
 | brk=>obtain⟨σ6,H6,I6,q⟩:=q6;exact go I6 λs7 I7=>⟨_,H6,I7,q⟩
 | cont=>obtain⟨σ6,H6,I6,q⟩:=q6;exact go I6 λs7 I7=>⟨_,H6,I7,q⟩
 | ret u=>obtain⟨v,σ6,H6,I6,rv,q⟩:=q6;exact go I6 λs7 I7=>⟨v,_,H6,I7,rv,q⟩
theorem sA {n:Str}{c:Expr}{np pos:Pos}(hs:EE c (some (.Name n np)) pos.line X.env=pure false:=by rfl):uk X [.Assign [.Name n np] c pos] c:=λQ E pins σ H s I h =>
 Ed (Jk (thn h λ_ _ z=>z.elim) hs)
end
section
variable {X:Cx}{R:VK}{E:XK}{C:Addr}{fn:Option Str}{K:bi}{S:ASp}
theorem wg {st:Stmt}{t u:TS}(h1:PSr X R st t)(h2:PSr X R st u):PSr X R st (λD σ H=>t D σ H∨u D σ H):=λpins s σ H D e I h=>h.elim (h1 pins s σ H D e I) (h2 pins s σ H D e I)
def yQ (t:TE):TE:=λσ H Q=>t σ H λ_ H1=>Q .non H1
theorem qj {x:Str}(T:Tie X C none R)(hc:X.calm=true)(hm:X.mg x=some (.ref C))(hq:C8 X.K C bmV "ValueError.__new__" = true){e0:Expr}{t0:TE}{np cpos pos:Pos}(ha:PE X.nox e0 t0)
  (hg:Gl X x:=by rfl) (he:Ba [e0] X.env=[(false,eval e0 X.env)]:=by rfl) (hdb:(x==("__debug__" : Str))=false:=by decide):PSr X R (.Raise (some (.Call (.Name x np) [e0] [] cpos)) none pos) (tRet (yQ t0)):=by
 intro pins s σ H D e I h
 obtain⟨tl,N,nm,q,bs,hdct,sn,sub,ab,col,dd,k0,k1,k2,k3,k5,mN,hC,hN,hni,tw⟩:=(sk I.mod.kin hm hq).obj
 refine Ik (k5:=k5) (k3:=k3) (k2:=k2) (k1:=k1) (k0:=k0) (dd:=dd) (col:=col) (ab:=ab) (sub:=sub) (sn:=sn) (hdct:=hdct) (bs:=bs) (N:=N) (q:=q) (nm:=nm) (C:=C) (bm:=tl) (mN:=mN) Gf (tw.hasType (by decide +kernel)) (I.ok.hd hc) (by rw[he];rfl) hni (gj I hg hm ⟨rfl,?_⟩ hdb)
 rw[he]
 refine D5 (CW ?_)
 refine thn (ha.nox pins s σ H (λv H'=>D.rt .non H') I h) λu s1 ⟨x,H1,I1,r1,q1⟩=>Dl ?_
 refine⟨rfl,by show(1:Nat)<=_;decide,I1.bk _ _ hC,hN.keeps I1.bk,tw.keeps I1.bk,λh' a mk=>?_⟩
 obtain⟨tt,g1,g2,g3⟩:=mk.there
 refine T.run (I1.kept (t':=s1.toks) mk.keeps) ⟨_,_,.none,g1,rfl,rfl,rfl,rfl,I1.back0 T.ex mk.new,?_,.inl rfl⟩ (λ_ z=>nomatch z) ⟨rfl,rfl⟩ (e▸q1)
 cases z:H1 a with
 | none=>rfl
 | some o =>
  obtain⟨u,z'⟩:=I1.hok.get z
  rw[mk.new]at z';cases z'
end
section
variable {Y:Cx}(K:bi)
def rIsX (K:bi)(c:V)(u:bv):List V->Hp->VK->Prop:=λxs H Q=>∃a C od b,xs=[.ref a,c]/\H a=some (.ext (exP a C od))/\(∀dx,od=some dx->H dx≠none)/\ExIs K C/\CT K (.ref C) u=some b/\Q (.bl b) H
theorem pK {pins:List (Addr×Obj)}{σ:St}{H:Hp}{s:db}{a C:Addr}{od:Option Addr}(I:Inv Y pins σ H s)(h:H a=some (.ext (exP a C od)))(hd:∀dx,od=some dx->H dx≠none):∃oe odo,E4 s.heap a oe C odo:=by
 obtain⟨⟨oe,vs,ge,gc,gd,gf⟩,_,_⟩:=I.hok a _ h
 cases od with
 | none=>exact⟨oe,none,ge,gc,by unfold notCls;rw[gf],by rw[gd];trivial⟩
 | some dx =>
  cases z:H dx with
  | none=>exact absurd z (hd dx rfl)
  | some o =>
   obtain⟨u,z'⟩:=I.hok.get z
   exact⟨oe,some u,ge,gc,by unfold notCls;rw[gf],by rw[gd];exact z'⟩
theorem mP {c:V}{u:bv}(rc:∀u',RelV c u'->u'=u)(hK:Y.K=K:=by rfl):fF Y (.builtin "isinstance") (rIsX K c u):=by
 subst hK
 intro pins s σ H xs us Q I r h
 obtain⟨a,C,od,b,rfl,hH,hd,q,hk,h⟩:=h
 cases r with
 | cons r1 rr =>
  cases rr with
  | cons r2 rr =>
   cases rr
   cases (show _=Value.ref a from r1)
   rw[rc _ r2]
   obtain⟨oe,odo,it⟩:=pK I hH hd
   exact BY (pI q) I.kIn it hk (by intro z;cases z) λtk=>⟨.bl b,H,I.tok tk,rfl,h⟩
def y4 (K:bi)(ds:List Addr):List V->Hp->VK->Prop:=λxs H Q=>∃a p C od b,xs=[.ref a,.ref p]/\H a=some (.ext (exP a C od))/\(∀dx,od=some dx->H dx≠none)/\H p=some (.tup (ds.map V.ref))/\ExIs K C/\Ge K (.ref C) (ds.map Value.ref)=some b/\Q (.bl b) H
theorem qN {ds:List Addr}(hK:Y.K=K:=by rfl):fF Y (.builtin "isinstance") (y4 K ds):=by
 subst hK
 intro pins s σ H xs us Q I r h
 obtain⟨a,p,C,od,b,rfl,hX,hd,hH,q,hk,h⟩:=h
 cases r with
 | cons r1 rr =>
  cases rr with
  | cons r2 rr =>
   cases rr
   cases (show _=Value.ref a from r1)
   cases (show _=Value.ref p from r2)
   obtain⟨_,its,rv,ot,g1,g2,n,g3⟩:=I.hok p _ hH
   obtain⟨oc,od,oda,osl⟩:=ot
   simp only at g2 g3
   subst g2 g3
   rw[lK rv]at g1
   obtain⟨oe,odo,it⟩:=pK I hX hd
   exact kia_tup (pI q) I.kIn it g1 hk (by intro z;cases z) λtk=>⟨.bl b,H,I.tok tk,rfl,h⟩
end
section
variable {K:bi}{pr:Nat->Bool}{F:Fr}{σ:St}{ρ:En}{H:Hp}{th:TS}{ah:AS}{S:ASp}{ts:TA}{as:AA}{ta:TE}{a:AE}
theorem Rel.gone (r:Rel K F σ ρ H){i:Nat}(hm:∀a,¬F.pin i a):Rel K F (σ.set i none) (pt ρ i .un) H:=by
 rcases Bh i ρ.length with hi | hi
 case inr =>
  rw[o8 ρ i .un hi,EK (by rw[r.len];exact hi)];exact r
 have sub:∀a,bE (σ.set i none) (pt ρ i .un) a->bE σ ρ a:=λa ⟨j,hj,e⟩=>by
  obtain⟨ij,hj⟩:=du rfl hj
  rw[A3 ij]at e
  exact⟨j,hj,e⟩
 have vis:Same (hid H (hs F σ ρ)) (hid H (hs F (σ.set i none) (pt ρ i .un))):=bc λa o e n=>⟨e,λz=>n (z.imp id (sub a))⟩
 refine⟨by rw[Ec,fk,r.len],r.fr,r.zl,λa h=>r.zo a (sub a h),λj a hj e=>?_,λj a h=>?_,r.ml,r.ma,λj k a hj hk ej ek=>?_,λj=>?_⟩
 ·obtain⟨ij,hj⟩:=du rfl hj
  rw[A3 ij]at e
  exact r.ow j a hj e
 ·have:i≠j:=λe=>hm a (e▸h)
  rw[A3 this];exact r.mi j a h
 ·obtain⟨nj,hj⟩:=du rfl hj
  obtain⟨nk,hk⟩:=du rfl hk
  rw[A3 nj]at ej
  rw[A3 nk]at ek
  exact r.nd j k a hj hk ej ek
 ·by_cases ij:i=j
  ·subst ij
   rw[jW ρ i .un hi];trivial
  ·rw[bT ρ i j _ ij,A3 ij]
   exact(r.sl j).keep vis λ_ _ _ _ e=>e
def AL (a:AE):AE:=λρ q=>a ρ λ_ ρ1=>q (.d .non) ρ1
theorem uy {t:TE}(h:TEok K t a):TEok K (yQ t) (AL a):=by
 intro F σ ρ H q Q r ha k
 refine h F σ ρ H _ _ r ha λr1 ρ1 v H1 h1 o=>?_
 obtain⟨r',k1,_⟩:=o.inF
 exact(k.after k1).non r' h1
def goA (i:Nat)(k:AEnds):AEnds:=⟨λρ=>k.nx (pt ρ i .un),k.rt,λρ=>k.bk (pt ρ i .un),λρ=>k.ct (pt ρ i .un)⟩
def exF:Option Str->R->Option (Option (List (Str×D)))
 | none,_=>some none
 | some f,r=>match r.frz with
  | .d d=>some (some [(f,d)])
  | _=>none
theorem vE {f:Str}{r:R}{fs:Option (List (Str×D))}(h:exF (some f) r=some fs):∃d,r.frz = .d d/\fs=some [(f,d)]:=by
 unfold exF at h
 dsimp only at h
 split at h
 next d e=>cases h;exact⟨d,e,rfl⟩
 ·cases h
def wM (C:Addr)(fn:Option Str)(i:Nat)(ah:AS)(r:R):AS:=λk ρ=>match exF fn r with
 | some fs=>ah (goA i k) (pt ρ i (.ex C fs))
 | none=>False
def AK (ca:AE)(ah:R->AS):AS:=λk ρ=>ca ρ λr ρ1=>ah r k ρ1
theorem oQ {fn:Option Str}{tH:Option Addr->Addr->TS}{aH:R->AS}(ht:TAok K ts as)
  (hh:∀(F:Fr) (σ:St) (ρ:En) (H1 H':Hp) (D:Ends) (k:AEnds) (r:R) (v:V) (a:Addr) (od:Option Addr),(∀i a,F.pin i a->pr i=true)->Rel K F σ ρ H'->InF K F σ ρ H' v r.frz->aH r k ρ->vW K F D k->H' a=none->Fld H' fn od v->(∀dx,od=some dx->¬hs F σ ρ dx)->tH od a D σ H') :
  TSok K pr (λD σ H=>ts σ H λvs H1=>spA K S (vs++[]) H1 (λv H'=>∀a od,H' a=none->Fld H' fn od v->(∀dx,od=some dx->H1 dx=none)->tH od a D σ H') E0) (AK (yw S as) aH):=by
 intro F σ ρ H D k hp r ha ko
 refine ht F σ ρ H _ _ r ha λrs ρ1 vs H1 h1 r1 i1 k1=>?_
 obtain⟨hd,hS⟩:=h1
 have s:=i1.srcs
 rw[Bn]
 refine⟨rs.map (cI ρ1),(dg F σ ρ1 H1 (vs.map some) (rs.map (cI ρ1))).Z,_,r1.sub s hd,hS,λrr ss' v H' hq sb no out a od hn hf hdx=>?_⟩
 have o:Out K F σ ρ1 H1 (back ρ1 rs ss') v H' rr:=by
  cases rr with
  | o i=>exact absurd rfl (no i)
  | d d =>
   obtain⟨a,b⟩:=out
   obtain⟨x,y,z⟩:=r1.back s hd a sb
   exact⟨x,y,RepD.same b z⟩
  | x sv =>
   obtain⟨a,b,c⟩:=out
   obtain⟨x,y,z⟩:=r1.back s hd a sb
   exact⟨x,y,b,c.keep z λl o ho=>by rw[b]at ho;cases ho⟩
  | t n =>
   obtain⟨a,b⟩:=out
   obtain⟨x,y,z⟩:=r1.back s hd a sb
   exact⟨x,y,b⟩
  | n sv =>
   obtain⟨Hb,l,o,a,b,c,e1,e2,e3⟩:=out
   obtain⟨x,y,z⟩:=r1.back s hd a sb
   exact⟨Hb,l,o,x,y,b,c.keep z λ_ _ _ _ e=>e,e1,e2,e3⟩
 obtain⟨r',k',i'⟩:=o.inF
 refine hh F σ _ H1 H' D k rr v a od hp r' i' hq ko hn hf λdx e z=>?_
 rcases z with z | z
 ·exact(r1.zl dx z).1 (hdx dx e)
 ·exact dH r1 (k'.so z) (hdx dx e)
theorem pW {C:Addr}{fn:Option Str}{i:Nat}(hi:pr i=false)(hh:TSok K pr th ah) :
  ∀(F:Fr) (σ:St) (ρ:En) (H1 H':Hp) (D:Ends) (k:AEnds) (r:R) (v:V) (a:Addr) (od:Option Addr),(∀i a,F.pin i a->pr i=true)->Rel K F σ ρ H'->InF K F σ ρ H' v r.frz->wM C fn i ah r k ρ->vW K F D k->H' a=none->Fld H' fn od v->(∀dx,od=some dx->¬hs F σ ρ dx)->v5 C i od th a D σ H':=by
 intro F σ ρ H1 H' D k r v a od hp r' i' z ko hn hf hd
 have np:=u6 hp hi
 unfold wM at z
 split at z
 next fs ef =>
  have hx:exD K (hid (upd H' a (.ext (exP a C od))) (hs F σ ρ)) fs od:=by
   cases fn with
   | none=>cases ef;obtain⟨rfl,_⟩:=hf;trivial
   | some f =>
    obtain⟨dx,rfl,hdx⟩:=hf
    obtain⟨d,er,ef⟩:=vE ef
    ·subst ef
     rw[er]at i'
     have na:dx≠a:=a_ hdx hn
     refine⟨[(f,v)],eD (hd dx rfl) (by rw[aL na];exact hdx),rfl,?_⟩
     show RepDs K _ [v] [d]
     unfold RepDs RepDs
     refine⟨RepD.same (show RepD K (hid H' (hs F σ ρ)) v d from i') (bc λb o e n=>⟨by rw[aL (a_ e hn)];exact e,n⟩),trivial⟩
  have rf:=(r'.fresh (o:=.ext (exP a C od)) hn).setS (i:=i) (v:=.ref a) (s:=.ex C fs) rfl ⟨a,od,rfl,eD (fq r' hn) aQ,hx⟩ np
  exact hh F _ _ _ (goE i D) (goA i k) hp rf z ⟨λσ2 ρ2 H2 q r2=>ko.nx _ _ _ q (r2.gone np),λσ2 ρ2 H2 q r2=>ko.bk _ _ _ q (r2.gone np),λσ2 ρ2 H2 q r2=>ko.ct _ _ _ q (r2.gone np),ko.rt⟩
 ·exact z.elim
theorem mz {fs:Option (List (Str×D))}{od:Option Addr}{S:Addr->Prop}(h:exD K (hid H S) fs od):∀dx,od=some dx->H dx≠none:=by
 rintro dx rfl
 cases fs with
 | none=>exact h.elim
 | some fs =>
  obtain⟨ks,h1,_⟩:=h
  rw[(dB.mp h1).2];exact λz=>nomatch z
def aIsX (K:bi)(i:Nat)(u:bv):AE:=λρ q=>match gt ρ i with
 | .ex C _=>∃b,ExIs K C/\CT K (.ref C) u=some b/\q (.d (.bl b)) ρ
 | _=>False
theorem qX {i:Nat}{c:V}{u:bv}:TEok K (tCB (rIsX K c u) (jO (tVar i) (jO (tC c) tNil))) (aIsX K i u):=by
 intro F σ ρ H q Q a h b
 have s:=a.sl i
 unfold aIsX at h
 split at h
 ·rename_i C fs hg
  rw[hg]at s
  obtain⟨e,od,e1,e2,e3⟩:=s
  obtain⟨b',h1,h2,h3⟩:=h
  exact⟨.ref e,e1,e,C,od,b',rfl,(dB.mp e2).2,mz e3,h1,h2,b.bl a h3⟩
 ·exact h.elim
def Ae (K:bi)(i:Nat)(us:List bv):AE:=λρ q=>match gt ρ i with
 | .ex C _=>∃b,ExIs K C/\Ge K (.ref C) us=some b/\q (.d (.bl b)) ρ
 | _=>False
def xg:List Addr->TA
 | []=>tNil
 | d::ds=>jO (tC (.ref d)) (xg ds)
theorem oN {σ:St}{H:Hp}:∀ {ds:List Addr} {Q:List V->Hp->Prop},Q (ds.map V.ref) H->xg ds σ H Q
 | [],_,h=>h
 | d::ds,Q,h=>oN (ds:=ds) (Q:=λvs H'=>Q (.ref d::vs) H') h
theorem uB {i:Nat}{ds:List Addr}(hz:ds.length<=xL):TEok K (tCB (y4 K ds) (jO (tVar i) (jO (tTup (xg ds)) tNil))) (Ae K i (ds.map Value.ref)):=by
 intro F σ ρ H q Q a h b
 have s:=a.sl i
 unfold Ae at h
 split at h
 ·rename_i C fs hg
  rw[hg]at s
  obtain⟨e,od,e1,e2,e3⟩:=s
  obtain⟨b',h1,h2,h3⟩:=h
  refine⟨.ref e,e1,oN ⟨by rw[lw];exact hz,λp hp=>⟨e,p,C,od,b',rfl,?_,λdx ed=>?_,aQ,h1,h2,?_⟩⟩⟩
  ·have:=(dB.mp e2).2
   rw[aL λz=>?_]
   ·exact this
   ·rw[z,hp]at this;cases this
  ·by_cases z:dx=p
   ·rw[z,aQ];exact λw=>nomatch w
   ·rw[aL z];exact mz e3 dx ed
  ·exact(b.after (.fresh hp)).bl (a.fresh hp) h3
 ·exact h.elim
end
end L2
namespace L2
open PySem PySem.Spec PyProof.Rows Builtin
end L2
namespace L2
open PySem PySem.Spec PyProof.Rows
def Itw (K:bi)(l:Addr)(n:Nat):It :=
 ⟨λi H=>∃xs x,SqL K H l xs/\xs.length=n/\i<n/\xs[n - 1 - i]? = some x,λi H x H'=>H'=H/\∀xs,SqL K H l xs->xs[n - 1 - i]? = some x,λi H=>n<=i⟩
theorem uv {P:wT}{w:Bf}{K:bi}{tg:Expr}(a it:Addr)(n:Nat):Turn P w K tg (Itw K a n) [it] it (λi h=>i<=n/\h.IsRevIter it a ((n:Int) - 1 - (i:Int))) where
 mem:=by simp
 obj:=λi h st b hb=>by
  have e:b=it:=by simpa using hb
  subst e
  obtain⟨_,o,e,c,d⟩:=st
  exact⟨o,e,λv z=>by rw[d]at z;cases z⟩
 keep:=λi h h' st k=>⟨st.1,st.2.at λo e=>k it (by simp) o e⟩
 item:=by
  intro X hP hw hK hc i pins s σ H E I hf st hg
  subst hP hw hK
  obtain⟨xs,x,hq,hn,hi,hx⟩:=hg
  obtain⟨its,rv,p,hz⟩:=I.list hq
  obtain⟨u,hu,ru⟩:=rv.get hx
  obtain⟨f0,f1,f2,f3,f4,f5⟩:=hf it (by simp)
  have st2:=st.2
  rw[show(n:Int) - 1 - (i:Int)=((n - 1 - i:Nat):Int)by omega]at st2
  refine wpAny_pyNext_rev_item st2 p.isList (x:=u) (by simpa using hu) λh' st' sb=>?_
  have I1:Inv X pins σ H {s with heap:=h'}:=I.turned (t':=s.toks) (λb o hb e=>(sb.2 b hb).trans e) f0 f1 f3 f4 f5
  rw[show((n - 1 - i:Nat):Int) - 1=(n:Int) - 1 - ((i+1:Nat):Int)by omega]at st'
  obtain⟨o,e,c,d⟩:=id st'
  exact⟨u,rfl,tf (s:={s with heap:=h'}) e c d (by decide) ⟨x,H,I1,ru,⟨rfl,λys hy=>by rw[I.list_inj hy hq];exact hx⟩,⟨by omega,st'⟩,λb hb=>(hf b hb).1⟩⟩
 done:=by
  intro X hP hw hK hc i pins s σ H E I hf st hg
  subst hP hw hK
  obtain⟨f0,f1,f2,f3,f4,f5⟩:=hf it (by simp)
  have hg':n<=i:=hg
  have st2:=st.2
  have st1:=st.1
  rw[show(n:Int) - 1 - (i:Int) = -1 by omega]at st2
  exact wpAny_pyNext_rev_end (I.ok.hd hc) st2 λh' eb=>⟨rfl,I.turned (t':=s.toks) (λb o hb e=>eb b o hb e) f0 f1 f3 f4 f5⟩
 self:=λ_ _ _ _ _ st h=>Iy st.2 h
def iRev (K:bi)(t:TA):TI:=λσ H R=>t σ H λvs H1=>∃l xs,vs=[.ref l]/\SqL K H1 l xs/\R (Itw K l xs.length) H1
theorem za (K:bi){X:Cx}{tg:Expr}{a:Expr}{ta:TA}{p pos:Pos}(hg:Gl X "reversed")(hm:X.mg "reversed" = none)(ha:PA X [a] ta)(hK:X.K=K:=by rfl)(hs:Ba [a] X.env=[(false,eval a X.env)]:=by rfl) :
  PI X tg (.Call (.Name "reversed" p) [a] [] pos) (iRev K ta):=by
 subst hK
 intro pins s σ H R I h
 refine IJ (fX I hg hm ou (B0 (thn (ha pos pins s σ H _ I h) λus s1 ⟨vs,H1,I1,r1,q1⟩=>?_) hs rfl))
 obtain⟨l,xs,rfl,h1,q⟩:=q1
 obtain⟨u,rfl,ru⟩:=iC r1
 cases ru
 obtain⟨its,rv,p1,_⟩:=I1.list h1
 have hl:=rv.length
 refine call_reversed_list p1.isList ?_
 have it:Heap.IsRevIter (s1.heap.push (revObj l ((its.toArray.size:Int) - 1))) s1.heap.objs.size l ((xs.length:Int) - 1 - ((0:Nat):Int)):=⟨_,wv _ rfl,rfl,by rw[sB,<- hl];simp[revObj]⟩
 refine Iy it ?_
 refine⟨s1.heap.objs.size,[s1.heap.objs.size],_,_,H1,rfl,I1.kept (t':=s1.toks) λb o e=>dL _ e,uv l _ xs.length,⟨Bl _,it⟩,λb hb=>?_,q⟩
 have e:b=s1.heap.objs.size:=by simpa using hb
 subst e
 exact I1.fpOk (wl _) (I1.hok.fresh (wl _))
section
variable {K:bi}{ts:TA}{as:AA}
theorem yH {S:Addr->Prop}{H:Hp}{a:Addr}{vs:List V}{ds:List D}(h:SqL K H a vs)(rd:RepDs K (hid H S) vs ds):WkAt K S H (Itw K a vs.length) ds.reverse:=by
 have hl:=rd.length
 intro k
 constructor
 ·intro d e
  have hk:k<ds.length:=by
   have:=(sK.mp e).1
   rwa [Ei]at this
  rw[Ho hk]at e
  obtain⟨v,e1,rv⟩:=rd.get e
  rw[<- hl]at e1
  refine⟨⟨vs,v,h,rfl,by omega,e1⟩,λx H' z=>⟨z.1▸Same.refl H,?_⟩⟩
  have:=z.2 vs h
  rw[e1]at this;cases this;rw[z.1];exact rv
 ·intro z
  rw[Ei]at z
  show vs.length<=k
  omega
theorem qS {pin:Nat->Bool}{ρ:En}{r:R}{ds:List D}{c:En->Prop}(e:lJ pin ρ r=some (ds,c)):c ρ:=by
 cases r with
 | n s=>cases e
 | t n=>cases e
 | x n=>cases e
 | d d =>
  cases d with
  | lst es=>simp only[lJ,BG,Du]at e;rw[<- e.2];trivial
  | _=>cases e
 | o i =>
  unfold lJ at e
  cases hg:gt ρ i with
  | ow es =>
   simp only[hg]at e
   split at e
   ·simp only[BG,Du]at e
    rw[<- e.2];exact hg
   ·cases e
  | _=>simp[hg]at e
def aRvd (pin:Nat->Bool)(as:AA):AI:=λρ q=>as ρ λrs ρ1=>match rs with
 | [r1]=>(match lJ pin ρ1 r1 with
  | some (ds,c)=>q ds.reverse c ρ1
  | _=>False)
 | _=>False
theorem uE {pin:Nat->Bool}(h:TAok K ts as):TIok K pin (iRev K ts) (aRvd pin as):=by
 intro F σ ρ H q Rk r ha k
 refine h F σ ρ H _ _ r ha λrs ρ1 vs H1 h1 r1 i1 k1=>?_
 split at h1
 ·obtain⟨x,rfl,ix⟩:=i1.one
  split at h1
  ·rename_i ds c e1
   obtain⟨l1,us1,rfl,s1,w1⟩:=oI r1 ix e1
   obtain⟨v0,z0,rd0⟩:=w1 σ ρ1 H1 (Same.refl _) r1.sl (λ_ _ _ e=>e) (qS e1)
   refine⟨l1,v0,rfl,z0,k _ _ _ _ _ h1 r1 k1 λσ2 ρ2 H2 sm sv pn al hc=>?_⟩
   obtain⟨v1,z1,rd1⟩:=w1 σ2 ρ2 H2 sm sv pn hc
   have:=yH z1 rd1
   rw[rd1.length,<- rd0.length]at this
   exact this
  ·exact h1.elim
 ·exact h1.elim
end
theorem jI {prog:wT}{w:Bf}{A:Bg}(hh:A.handled=none)(it l:Addr)(hne:l≠it)(xs:Array bv) :
  Ju prog w A it [it,l] xs.size (λi v=>xs[i]? = some v) (λi h=>h.IsTupleIter it l i/\h.IsTuple l xs) where
 live:=λ_ _ st=>let ⟨o,ho,_⟩:=st.1;⟨o,ho⟩
 frame:=λ_ _ _ st hk=>(lx (prog:=prog) (w:=w) hne).keep _ _ _ st λb o hb e=>hk b hb o e
 item:=λi s Q E hi st hQ=>(lx hne).item A i s xs[i] Q E st (by simp[hi]) λh' st' sb=>hQ _ h' s.toks (by simp[hi]) st' sb
 done:=λs Q E st hE=>(lx hne).fin A xs.size s Q E hh st (by simp) hE
open AutoSeq1 (wpAny_loadPart') in
theorem nU (l:Addr)(xs:Array bv) :
  Meets (Builtin.«enumerate.__new__» ⟨[.type "enumerate",.ref l],[]⟩) (λ_ R s=>s.heap.IsTuple l xs /\
   R (.ok (.ret (.ref (s.heap.push {cls:=.type "tuple_iterator",data:=.fields #[.ref l,.int 0 0]}).objs.size)))
    {s with heap:=(s.heap.push {cls:=.type "tuple_iterator",data:=.fields #[.ref l,.int 0 0]}).push {cls:=.type "enumerate",data:=.fields #[.none,.bool false,.ref s.heap.objs.size,BN 0,.none,.none]}}) :=
 .of_wp λprog w A R s h=>by
  obtain⟨hp,g,d,tk,os⟩:=s;obtain⟨hl,h⟩:=h
  have hsub:=sub_enumerate
  have hL:Heap.IsTuple (Shared.heap ⟨hp,g,d,tk,os⟩) l xs:=hl
  wp_walk
  refine wpAny_stack_any λst=>kt ?_
  split
  ·rename_i c _ _ _ _ _
   cases (c==Value.type "enumerate")
   ·wp_walk using EO hL
    exact⟨_,rfl,h⟩
   ·wp_walk using EO hL
    exact⟨_,rfl,h⟩
  ·wp_walk using EO hL
   exact⟨_,rfl,h⟩
theorem kE {prog:wT}{w:Bf}{A:Bg}{E:bv->db->Prop}{s:db}{l:Addr}{xs:Array bv}{Q:bv->db->Prop}(hL:s.heap.IsTuple l xs)
  (h:∀h',GO h' (s.heap.objs.size+1) s.heap.objs.size 0 .none->h'.IsTupleIter s.heap.objs.size l 0->h'.objs.size=s.heap.objs.size+2 ->
   (∀b o,s.heap.get? b=some o->h'.get? b=some o)->Q (.ref (s.heap.objs.size+1)) {s with heap:=h'}) :
  li (o0 prog w) A (call (.type "enumerate") [.ref l]) Q E s:=by
 refine callType_new F.called_enumerate (by decide) (F.typeCall_enumerate_1 _) (F.newCall_enumerate_1 _) (λobj=>F.args_object_init_2 obj _) F.entry_enumerate_new
  (nU l xs) ⟨hL,?_⟩
 have hz:(s.heap.push {cls:=.type "tuple_iterator",data:=.fields #[.ref l,.int 0 0]}).objs.size=s.heap.objs.size+1:=B8 ..
 show _/\_
 rw[hz]
 have he:GO ((s.heap.push {cls:=.type "tuple_iterator",data:=.fields #[.ref l,.int 0 0]}).push
   {cls:=.type "enumerate",data:=.fields #[.none,.bool false,.ref s.heap.objs.size,BN 0,.none,.none]}) (s.heap.objs.size+1) s.heap.objs.size 0 .none:=by
  have:=wv (s.heap.push {cls:=.type "tuple_iterator",data:=.fields #[.ref l,.int 0 0]})
   (o:={cls:=.type "enumerate",data:=.fields #[.none,.bool false,.ref s.heap.objs.size,BN 0,.none,.none]}) rfl
  rw[hz]at this;exact this
 refine⟨⟨_,he,rfl⟩,h _ he ⟨_,dL _ (wv _ rfl),rfl,rfl⟩ (by rw[B8,hz]) λb o x=>dL _ (dL _ x)⟩
def Itf (K:bi)(l:Addr)(n:Nat):It :=
 ⟨λi H=>∃xs x,SqT K H l xs/\xs.length=n/\xs[i]? = some x,λi H v H'=>∃p x,v = .ref p/\H p=none/\H'=upd H p (.tup [.int (i:Nat),x])/\∀xs,SqT K H l xs->xs[i]? = some x,
  λi H=>n<=i/\∃xs,SqT K H l xs/\xs.length=n⟩
theorem p_ {P:wT}{w:Bf}{K:bi}{elts:List Expr}{x1}{tpos:Pos}{e it l:Addr}{n:Nat}(ne:e≠it)(nl:l≠it)(nel:e≠l) :
  Turn P w K (.Tuple elts x1 tpos) (Itf K l n) [e,it] e (λi h=>((∃old,GO h e it (i:Nat) old)/\h.IsTupleIter it l i)/\i<=n) where
 mem:=by simp
 obj:=λi h st b hb=>by
  obtain⟨⟨⟨old,he⟩,⟨o1,e1,c1,d1⟩⟩,_⟩:=st
  simp only[wn,BD,or_false]at hb
  rcases hb with rfl | rfl
  ·exact⟨_,he,λv q=>by cases q⟩
  ·exact⟨o1,e1,λv q=>by rw[d1]at q;cases q⟩
 keep:=λi h h' st k=>by
  obtain⟨⟨⟨old,he⟩,h1⟩,hi⟩:=st
  exact⟨⟨⟨old,k e (by simp) _ he⟩,h1.at λo q=>k it (by simp) o q⟩,hi⟩
 item:=by
  intro X hP hw hK hc i pins s σ H E I hf st hg
  subst hP hw hK
  obtain⟨xs,x,q1,hln,hx⟩:=hg
  obtain⟨⟨⟨old,he⟩,h1⟩,hin⟩:=st
  obtain⟨its,rv,p1,_⟩:=I.tuple q1
  have hxi:=(sK.mp hx).1
  obtain⟨u,hu,ru⟩:=rv.get hx
  have hlt:i<its.toArray.size:=by rw[sB];exact(sK.mp hu).1
  refine HE (jI (show X.A.in1.handled=none from I.ok.hd hc) it l nl its.toArray) he ⟨h1,p1⟩ hlt ne (by simp[ne,nel]) λy h' tk hy a1 a2 a3 a4 hk=>?_
  have ey:y=u:=by
   have hy':its[i]? = some y:=by simpa using hy
   rw[hu]at hy';cases hy';rfl
  subst ey
  refine⟨_,rfl,G8 (s:={s with heap:=h',toks:=tk+1}) a1 λh2' he' hs'=>?_⟩
  have hs2:Bx e h' h2':=hs'
  have ls:∀ {b o},s.heap.get? b=some o->b≠s.heap.objs.size:=λe=>ww (lc e)
  have es:e≠s.heap.objs.size:=ls he
  have up:∀b o,b∉[e,it]->s.heap.get? b=some o->h2'.get? b=some o:=λb o hb q=>by
   simp only[wn,BD,or_false,not_or]at hb
   exact(hs2.2 b hb.1).trans (hk b o hb.1 hb.2 q)
  have I1:Inv X pins σ H {s with heap:=h2',toks:=tk+1}:=I.turns (t':=tk+1) up hf
  have fp:FpOk X pins H s.heap.objs.size:=I.fpOk (wl _) (I.hok.fresh (wl _))
  have g:h2'.get? s.heap.objs.size=some {cls:=.type "tuple",data:=.seq #[.int i tk,y]}:=(hs2.2 _ (B_ es)).trans a3
  have I2:=I1.trackO (o:=.tup [.int (i:Nat),x]) fp ⟨by show 2<=xL;decide,[.int i tk,y],.cons ⟨_,rfl⟩ (.cons ru .nil),_,g,rfl,_,rfl⟩
  refine⟨.ref s.heap.objs.size,upd H s.heap.objs.size (.tup [.int (i:Nat),x]),I2,rfl,⟨_,x,rfl,fp.1,rfl,λzs hz=>by rw[I.tuple_inj hz q1];exact hx⟩,?_,λb hb=>?_⟩
  ·refine⟨⟨⟨y,by simpa using he'⟩,?_⟩,by omega⟩
   obtain⟨o,q,r⟩:=a2.1;exact⟨o,(hs2.2 it (B_ ne)).trans q,r⟩
  ·have hb':=(hf b hb).1
   have ne':b≠s.heap.objs.size:=by
    obtain⟨o1,e1,_⟩:=h1
    simp only[wn,BD,or_false]at hb
    rcases hb with rfl | rfl
    ·exact ls he
    ·exact ls e1
   rw[aL ne'];exact hb'
 done:=by
  intro X hP hw hK hc i pins s σ H E I hf st hg
  subst hP hw hK
  obtain⟨hni,xs,q1,hl⟩:=hg
  obtain⟨⟨⟨old,he⟩,h1⟩,hin⟩:=st
  obtain⟨its,rv,p1,_⟩:=I.tuple q1
  have l1:=rv.length
  have ei:i=its.toArray.size:=by rw[sB];omega
  subst ei
  refine H_ (jI (show X.A.in1.handled=none from I.ok.hd hc) it l nl its.toArray) he ⟨h1,p1⟩ λh' hk=>⟨rfl,I.turns (ch:=[e,it]) (t':=s.toks) (λb o hb q=>?_) hf⟩
  simp only[wn,BD,or_false,not_or]at hb
  exact hk b o hb.2 q
 self:=λ_ _ _ _ _ st h=>by obtain⟨⟨⟨old,he⟩,_⟩,_⟩:=st;exact DU he h
def wD (K:bi)(t:TA):TI:=λσ H R=>t σ H λvs H1=>∃l xs,vs=[.ref l]/\SqT K H1 l xs/\R (Itf K l xs.length) H1
theorem uQ (K:bi){X:Cx}{elts:List Expr}{x1}{tpos:Pos}{a:Expr}{ta:TA}{p pos:Pos}(hg:Gl X "enumerate")(hm:X.mg "enumerate" = none)(ha:PA X [a] ta)(hK:X.K=K:=by rfl)(hs:Ba [a] X.env=[(false,eval a X.env)]:=by rfl) :
  PI X (.Tuple elts x1 tpos) (.Call (.Name "enumerate" p) [a] [] pos) (wD K ta):=by
 subst hK
 intro pins s σ H R I h
 refine IJ (fX I hg hm fD (B0 (thn (ha pos pins s σ H _ I h) λus s1 ⟨vs,H1,I1,r1,q1⟩=>?_) hs rfl))
 obtain⟨l,xs,rfl,h1,q⟩:=q1
 obtain⟨u,rfl,ru⟩:=iC r1
 cases ru
 obtain⟨its,_,p1,_⟩:=I1.tuple h1
 have lt:l<s1.heap.objs.size:=by obtain⟨o,e,_⟩:=id p1;exact lc e
 refine kE p1 λh' he hi hsz hk=>?_
 refine DU he ?_
 refine⟨_,_,_,_,H1,rfl,I1.kept (t':=s1.toks) hk,p_ (show s1.heap.objs.size+1≠s1.heap.objs.size by omega) (ww lt) (B_ (ww (EI lt))),⟨⟨⟨_,he⟩,hi⟩,Bl _⟩,λb hb=>?_,q⟩
 have le:s1.heap.objs.size<=b:=by
  simp only[wn,BD,or_false]at hb
  rcases hb with rfl | rfl <;> omega
 exact I1.fpOk le (I1.hok.fresh le)
section
variable {K:bi}{ts:TA}{as:AA}
theorem uq {S:Addr->Prop}{H:Hp}{l:Addr}{vs:List V}{ds:List D}(al:∀a,S a->H a≠none)(h1:SqT K H l vs)(r1:RepDs K (hid H S) vs ds):WkAt K S H (Itf K l vs.length) (di 0 ds):=by
 intro k
 constructor
 ·intro d e
  obtain⟨x,ex,rfl⟩:=cF e
  rw[Cb]
  obtain⟨v,e1,rv⟩:=r1.get ex
  refine⟨⟨vs,v,h1,rfl,e1⟩,λz H' ⟨p,a,ez,hp,eH,ha⟩=>?_⟩
  have a1:=ha vs h1
  rw[e1]at a1
  cases a1
  subst eH ez
  have sm:Same H (upd H p (.tup [.int (k:Nat),v])):=(Same.refl H).new hp
  have sm':Same (hid H S) (hid (upd H p (.tup [.int (k:Nat),v])) S):=bc λa o e n=>⟨sm a o e,n⟩
  refine⟨sm,?_⟩
  unfold RepD
  exact⟨p,[.int (k:Nat),v],rfl,(eD (λz=>al p z hp) aQ),.cons (by unfold RepD;rfl) (.cons (rv.same sm') .nil)⟩
 ·intro z
  rw[bI]at z
  exact⟨by rw[r1.length];exact z,vs,h1,rfl⟩
def Af (as:AA):AI:=λρ q=>as ρ λrs ρ1=>match rs with
 | [.d (.tup ds)]=>q (di 0 ds) (λ_=>True) ρ1
 | _=>False
theorem qd {pin:Nat->Bool}(h:TAok K ts as):TIok K pin (wD K ts) (Af as):=by
 intro F σ ρ H q Rk r ha k
 refine h F σ ρ H _ _ r ha λrs ρ1 vs H1 h1 r1 i1 k1=>?_
 split at h1
 ·rename_i ds
  obtain⟨x,rfl,ix⟩:=i1.one
  have rd:RepD K _ x (.tup ds):=ix
  unfold RepD at rd
  obtain⟨a,vs,rfl,sq,rd⟩:=rd
  refine⟨a,vs,rfl,bV.seqT sq.sq,k _ _ _ _ _ h1 r1 k1 λσ2 ρ2 H2 sm sv pn al hc=>?_⟩
  exact uq (λa z=>(al a z).1) (bV.seqT (sm.seqT sq.sq)) (rd.same sm)
 ·exact h1.elim
end
end L2
namespace L2
open PySem PySem.Spec PyProof.Rows PySem.W
end L2
namespace L2
open PySem PySem.Spec PyProof.Rows PySem.W Builtin Builtin.ObjectAttr
end L2
namespace L2
open PySem PySem.Spec PyProof.Rows PySem.W
theorem tP {K:bi}{C:Addr}(q:C8 K C bmV "ValueError.__new__" = true):jH K C=true:=by
 unfold C8 at q
 unfold jH
 split at q
 next dd cd sl lk =>
  try rw[lk]
  split at q
  next C' bm k0 k1 k2 k3 n k5 em es =>
   simp only[A7,beq_iff_eq,BV]at q
   obtain⟨⟨⟨⟨⟨rfl,rfl⟩,nd⟩,tl⟩,nk⟩,ni⟩:=q
   first | (simp[em,es,nd,tl];done) | simp_all
  ·cases q
 ·cases q
end L2
namespace L2
open PySem PySem.Spec PyProof.Rows
section
variable {P:wT}{w:Bf}{A:Bg}{R:D3->db->Prop}{s:db}
theorem lC (elt tg iter tg2 iter2:Expr)(ifs ifs2:List Expr)(scope:Cv)(pos:Pos)(it acc:bv)(env:Env) :
  Fb (.ListComp elt [⟨tg,iter,ifs,0⟩,⟨tg2,iter2,ifs2,0⟩] scope pos) 0 it acc env=(do
   Dt iter.pos
   match <- DD it with
   | none=>pure (.done .next)
   | some v =>
    Cn tg it v
    Di tg env v
    let mut ok:=true
    for c in ifs do
     if ok then ok <- ER c env (eval c env)
    if ok then
     let x <- eval iter2 env
     Dt iter2.pos
     let x <- B6 iter2 env x
     let _ <- runOwn (.compStart (.ListComp elt [⟨tg,iter,ifs,0⟩,⟨tg2,iter2,ifs2,0⟩] scope pos) 1 (<- FQ [x] (Gc x)) acc env) env
    HL (.compLoop (.ListComp elt [⟨tg,iter,ifs,0⟩,⟨tg2,iter2,ifs2,0⟩] scope pos) 0 it acc env)):=by rfl
theorem lB (elt tg iter tg2 iter2:Expr)(ifs ifs2:List Expr)(scope:Cv)(pos:Pos)(it acc:bv)(env:Env) :
  Fb (.ListComp elt [⟨tg,iter,ifs,0⟩,⟨tg2,iter2,ifs2,0⟩] scope pos) 1 it acc env=(do
   Dt iter2.pos
   match <- DD it with
   | none=>pure (.done .next)
   | some v =>
    Cn tg2 it v
    Di tg2 env v
    let mut ok:=true
    for c in ifs2 do
     if ok then ok <- ER c env (eval c env)
    if ok then
     (do let _ <- call (.builtin "list.append") [acc,<- eval elt env])
    HL (.compLoop (.ListComp elt [⟨tg,iter,ifs,0⟩,⟨tg2,iter2,ifs2,0⟩] scope pos) 1 it acc env)):=by rfl
abbrev yP (M:HU)(A:Bg)(ifs:List Expr)(env:Env)(Q:Bool->db->Prop)(s:db):Prop :=
 li M A (forIn ifs true λc r=>if r=true then do let ok <- ER c env (eval c env);pure (ForInStep.yield ok)else pure (ForInStep.yield r)) Q (λ_ _=>False) s
theorem tZ {elt tg iter tg2 iter2:Expr}{ifs ifs2:List Expr}{scope:Cv}{pos:Pos}{it acc:bv}{env:Env}(J:Nat->db->Prop)
  (turn:∀n s,J n s->li (o0 P w) A (DD it) (λr s1=>match r with
   | none=>R (.ok .next) s1
   | some v=>li (o0 P w) A (Cn tg2 it v) (λ_ s2=>li (o0 P w) A (Di tg2 env v) (λ_ s3 =>
     yP (o0 P w) A ifs2 env (λok s4 =>
      if ok=true then li (o0 P w) A (eval elt env) (λx s5=>li (o0 P w) A (call (.builtin "list.append") [acc,x]) (λ_ s6=>∃m,m<n/\J m s6) (λ_ _=>False) s5) (λ_ _=>False) s4
      else ∃m,m<n/\J m s4) s3) (λ_ _=>False) s2) (λ_ _=>False) s1) (λ_ _=>False) s)
  (n:Nat) (h:J n s):B7 (o0 P w) A (.compLoop (.ListComp elt [⟨tg,iter,ifs,0⟩,⟨tg2,iter2,ifs2,0⟩] scope pos) 1 it acc env) R s:=by
 have no:∀ {α:Type} {t:Sem α} {Q Q':α->db->Prop} {E:bv->db->Prop} {s:db},li (o0 P w) A t Q (λ_ _=>False) s->(∀a s,Q a s->Q' a s)->li (o0 P w) A t Q' E s :=
  λh hq=>BB h hq λ_ _ f=>f.elim
 refine Fi rfl J (λn s hJ=>?_) n h
 show li _ A ((Fb (.ListComp elt [⟨tg,iter,ifs,0⟩,⟨tg2,iter2,ifs2,0⟩] scope pos) 1 it acc env).onRaise (λx=>do Df x env;Ez x)) _ _ s
 refine FE ?_
 rw[lB]
 refine bn (B3 (bn (no (turn n s hJ) λr s1 h1=>?_)))
 cases r with
 | none=>exact kt h1
 | some v =>
  refine bn (no h1 λ_ s2 h2=>bn (no h2 λ_ s3 h3=>bn (no h3 λok s4 h4=>?_)))
  cases ok with
  | false=>exact kt ⟨rfl,h4⟩
  | true=>exact bn (bn (no h4 λx s5 h5=>bn (no h5 λ_ s6 h6=>kt (kt ⟨rfl,h6⟩))))
theorem t4 {elt tg iter tg2 iter2:Expr}{ifs ifs2:List Expr}{scope:Cv}{pos:Pos}{it acc:bv}{env:Env}(J:Nat->db->Prop)(hf:∀x,B6 iter2 env x=pure x)
  (turn:∀n s,J n s->li (o0 P w) A (DD it) (λr s1=>match r with
   | none=>R (.ok .next) s1
   | some v=>li (o0 P w) A (Cn tg it v) (λ_ s2=>li (o0 P w) A (Di tg env v) (λ_ s3 =>
     yP (o0 P w) A ifs env (λok s4 =>
      if ok=true then li (o0 P w) A (eval iter2 env) (λx s5=>li (o0 P w) A (Gc x) (λitv s6 =>
       B7 (o0 P w) A (.compStart (.ListComp elt [⟨tg,iter,ifs,0⟩,⟨tg2,iter2,ifs2,0⟩] scope pos) 1 itv acc env) (λr s7=>r = .ok .next/\∃m,m<n/\J m s7) s6) (λ_ _=>False) s5) (λ_ _=>False) s4
      else ∃m,m<n/\J m s4) s3) (λ_ _=>False) s2) (λ_ _=>False) s1) (λ_ _=>False) s)
  (n:Nat) (h:J n s):B7 (o0 P w) A (.compLoop (.ListComp elt [⟨tg,iter,ifs,0⟩,⟨tg2,iter2,ifs2,0⟩] scope pos) 0 it acc env) R s:=by
 have no:∀ {α:Type} {t:Sem α} {Q Q':α->db->Prop} {E:bv->db->Prop} {s:db},li (o0 P w) A t Q (λ_ _=>False) s->(∀a s,Q a s->Q' a s)->li (o0 P w) A t Q' E s :=
  λh hq=>BB h hq λ_ _ f=>f.elim
 refine Fi rfl J (λn s hJ=>?_) n h
 show li _ A ((Fb (.ListComp elt [⟨tg,iter,ifs,0⟩,⟨tg2,iter2,ifs2,0⟩] scope pos) 0 it acc env).onRaise (λx=>do Df x env;Ez x)) _ _ s
 refine FE ?_
 rw[lC]
 refine bn (B3 (bn (no (turn n s hJ) λr s1 h1=>?_)))
 cases r with
 | none=>exact kt h1
 | some v =>
  refine bn (no h1 λ_ s2 h2=>bn (no h2 λ_ s3 h3=>bn (no h3 λok s4 h4=>?_)))
  cases ok with
  | false=>exact kt ⟨rfl,h4⟩
  | true =>
   refine bn (no h4 λx s5 h5=>bn (B3 (bn (Iz (hf x) (bn (C2 (no h5 λitv s6 h6=>?_)))))))
   refine bn (wpAny_runOwn (DX h6 λr s7 h7=>?_))
   obtain⟨rfl,h7⟩:=h7
   exact kt ⟨rfl,h7⟩
theorem jX {elt tg iter tg2 iter2:Expr}{ifs ifs2:List Expr}{scope:Cv}{pos:Pos}{it acc:bv}{env:Env}
  (h0:B7 (o0 P w) A (.compLoop (.ListComp elt [⟨tg,iter,ifs,0⟩,⟨tg2,iter2,ifs2,0⟩] scope pos) 1 it acc env) R s)
  (h:li (o0 P w) A (Gc it) (λit' s'=>B7 (o0 P w) A (.compLoop (.ListComp elt [⟨tg,iter,ifs,0⟩,⟨tg2,iter2,ifs2,0⟩] scope pos) 1 it' acc env) R s') (notedBy (o0 P w) A env λx s'=>R (.error x) s') s) :
  B7 (o0 P w) A (.compStart (.ListComp elt [⟨tg,iter,ifs,0⟩,⟨tg2,iter2,ifs2,0⟩] scope pos) 1 it acc env) R s:=by
 refine JQ ?_
 show li _ _ ((HI (.ListComp elt [⟨tg,iter,ifs,0⟩,⟨tg2,iter2,ifs2,0⟩] scope pos) 1 it acc env).onRaise (λx=>do Df x env;Dt JO)) _ _ s
 refine wpAny_notedAt ?_
 unfold HI
 show li _ _ (ask>>=_) _ _ s
 refine bn (C4 (wpAny_ite ?_))
 split
 ·first
   | exact bn (kt (kt (And.intro rfl h0)))
   | exact kt (And.intro rfl h0)
 ·first
   | exact bn (C6 (bn (B3 (bn (BB h (λit' s' h'=>kt (And.intro rfl h')) λ_ _ x=>x)))))
   | (refine bn (C6 ?_);show li _ _ (Dt iter2.pos>>=_) _ _ s;exact bn (B3 (bn (BB h (λit' s' h'=>kt (And.intro rfl h')) λ_ _ x=>x))))
end
def yD (J:It)(g:TG)(tc:TT)(te:TE)(N:List V->Hp->Prop)(σ:St)(ys0:List V)(H1:Hp):Prop:=∃W:Nat->Nat->List V->Hp->Prop,(∃m,W 0 m ys0 H1)/\∀i m ys H,W i m ys H ->
 (J.stop i H/\N ys H) ∨
 (J.go i H/\ys.length<xL/\∃N2:List V->Hp->Prop,(∀zs H',N2 zs H'->∃m',m'<m/\W (i+1) m' zs H')/\∀x H',J.yld i H x H'->g x σ H' λσ2 H2=>(σ2.length=σ.length/\∀(j:Nat) v,σ[j]? = some (some v)->σ2[j]? = some (some v))/\tc σ2 H2 λb H3 =>
  if b=true then te σ2 H3 λv H4=>N2 (ys++[v]) H4 else N2 ys H3)
def wQ (J:It)(n:Nat)(js:List Nat)(g:TG)(tc:TT)(wi2:TI)(g2:TG)(tc2:TT)(te:TE)(Q:VK)(σ:St)(H1:Hp):Prop:=∃W:Nat->Nat->List V->Hp->Prop,(∃m,W 0 m [] H1)/\∀i m ys H,W i m ys H ->
 (J.stop i H/\ys.length<=xL/\∀l,H l=none->Q (.ref l) (upd H l (.lst ys))) ∨
 (J.go i H/\∃N:List V->Hp->Prop,(∀zs H',N zs H'->∃m',m'<m/\W (i+1) m' zs H')/\∀x H',J.yld i H x H'->g x (bst n σ js) H' λσ2 H2=>σ2.drop n=capt σ js/\tc σ2 H2 λb H3 =>
  if b=true then wi2 σ2 H3 λJ2 H4=>yD J2 g2 tc2 te N σ2 ys H4 else N ys H3)
def oO (n:Nat)(js:List Nat)(wi:TI)(g:TG)(tc:TT)(wi2:TI)(g2:TG)(tc2:TT)(te:TE):TE:=λσ H Q=>wi σ H λJ H1=>wQ J n js g tc wi2 g2 tc2 te Q σ H1
section
variable {Y:Cx}
theorem qB {elt tg iter tg2 iter2:Expr}{ifs ifs2:List Expr}{scope:Cv}{pos:Pos}{g2:TG}{tc2:TT}{te:TE}{N:List V->Hp->Prop}{D:Addr}{pl:List (Addr×Obj)}{σ:St}{itv:bv}{ys:List V}{its:List bv}{k:Nat}{s:db}
  {RR:D3->db->Prop} (xe:Y.xe=λ_ _=>False) (hc:Y.calm=true) (hg:PG Y tg2 g2) (ht:PTs Y ifs2 tc2) (he:PE Y elt te)
  (szD:Y.s₀.heap.objs.size<=D) (neDL:D≠Y.env.locals) (notFs:D∉Y.fs) (clB:∀x d,Y.env.cells.lookup x=some d->d≠D) (plD:∀p∈Y.pn++pl,p.1≠D)
  (h:PIE Y ((D,{cls:=.type "list",data:=.seq its.toArray k})::pl) σ tg2 (λJ H1=>yD J g2 tc2 te N σ ys H1) itv s) (r0:Vals ys its)
  (hR:∀zs its' k' H' s',Inv Y pl σ H' s'->Vals zs its'->s'.heap.get? D=some {cls:=.type "list",data:=.seq its'.toArray k'}->H' D=none->N zs H'->RR (.ok .next) s') :
  B7 (o0 Y.prog Y.w) Y.A (.compStart (.ListComp elt [⟨tg,iter,ifs,0⟩,⟨tg2,iter2,ifs2,0⟩] scope pos) 1 itv (.ref D) Y.env) RR s:=by
 obtain⟨it,fp,tn,J,H2,rfl,I2,T,st2,f2,W,⟨m0,w0⟩,turn⟩:=h
 have plN:∀p∈pl,p.1≠D:=λp hp=>plD p (lm _ hp)
 have fpD:∀b∈fp,b≠D:=λb hb=>((f2 b hb).2.2.2.2.2 (D,{cls:=.type "list",data:=.seq its.toArray k}) (lm _ (Bj ..))).symm
 have p0:=I2.pin (D,{cls:=.type "list",data:=.seq its.toArray k}) (lm _ (Bj ..))
 have f2':∀(its':List bv) (k':Nat) {H':Hp},(∀b∈fp,H' b=none)->∀b∈fp,FpOk Y ((D,{cls:=.type "list",data:=.seq its'.toArray k'})::pl) H' b:=λits' k' {H'} hn b hb=>by
  obtain⟨f0,f1,f3,f4,f5,f6⟩:=f2 b hb
  refine⟨hn b hb,f1,f3,f4,f5,λp hp=>?_⟩
  rcases Bq.mp hp with z | z
  ·exact f6 p (Bu _ z)
  ·rcases wn.mp z with z | z
   ·rw[z];exact(fpD b hb).symm
   ·exact f6 p (lm _ (Be _ z))
 have loop:B7 (o0 Y.prog Y.w) Y.A (.compLoop (.ListComp elt [⟨tg,iter,ifs,0⟩,⟨tg2,iter2,ifs2,0⟩] scope pos) 1 (.ref it) (.ref D) Y.env) RR s:=by
  refine tZ (λn s'=>∃(i:Nat) (ys:List V) (its:List bv) (k:Nat) (H':Hp),Inv Y pl σ H' s'/\tn i s'.heap/\(∀b∈fp,H' b=none)/\H' D=none/\Vals ys its /\
   s'.heap.get? D=some {cls:=.type "list",data:=.seq its.toArray k}/\W i n ys H') ?_ m0 ⟨0,ys,its,k,H2,I2.pins_of λp hp=>I2.pin p (lm _ (Be _ hp)),st2,λb hb=>(f2 b hb).1,p0.2.1,r0,p0.1,w0⟩
  rintro n s3 ⟨i,ys,its,k,H3,I3,st3,fr3,hD3,r3,g3,w3⟩
  have I3p:Inv Y ((D,{cls:=.type "list",data:=.seq its.toArray k})::pl) σ H3 s3:=I3.pins_of λp hp=>by
   rcases wn.mp hp with z | z
   ·subst z
    exact⟨g3,hD3,neDL,notFs,λv z=>by cases z⟩
   ·exact I3.pin p (lm _ z)
  have f3:=f2' its k fr3
  rcases turn i n ys H3 w3 with⟨stop,qn⟩ | ⟨go,hz,N2,hN,step⟩
  ·refine thn (T.done Y rfl rfl rfl hc i _ s3 _ H3 (λ_ _=>False) I3p f3 st3 stop) λr s4 ⟨hr,I4⟩=>?_
   subst hr
   have g4:=I4.pin (D,{cls:=.type "list",data:=.seq its.toArray k}) (lm _ (Bj ..))
   exact hR ys its k H3 s4 (I4.pins_of λp hp=>I4.pin p (lm _ (Be _ hp))) r3 g4.1 hD3 qn
  ·refine thn (T.item Y rfl rfl rfl hc i _ s3 _ H3 (λ_ _=>False) I3p f3 st3 go) λr s4 ⟨u,hr,h4⟩=>?_
   subst hr
   refine thn h4 λ_ s5 ⟨x,H5,I5,r5,y5,st5,fr5⟩=>?_
   have I5':=I5.pinned (f2' its k fr5) (T.obj _ _ st5)
   refine thn (xe▸hg _ s5 _ H5 x u _ I5' r5 (step x H5 y5)) λ_ s6 ⟨σ6,H6,I6,⟨l6,d6⟩,q6⟩=>?_
   refine thn (xe▸ht _ s6 σ6 H6 _ I6 q6) λok s7 ⟨H7,I7,q7⟩=>?_
   have after:∀ {s8:db} {H8:Hp},Inv Y ((D,{cls:=.type "list",data:=.seq its.toArray k})::pl++e6 fp s5.heap) σ6 H8 s8 ->
     s8.heap.get? D=some {cls:=.type "list",data:=.seq its.toArray k}/\H8 D=none/\tn (i+1) s8.heap/\(∀b∈fp,H8 b=none)/\Inv Y pl σ H8 s8:=λ{s8 H8} I8=>by
    have p8:=I8.pin (D,{cls:=.type "list",data:=.seq its.toArray k}) (lm _ (Bu _ (Bj ..)))
    refine⟨p8.1,p8.2.1,T.keep _ _ _ st5 λb hb o e=>(I8.pin (b,o) (lm _ (lm _ (bP hb e)))).1,λb hb=>?_,?_⟩
    ·obtain⟨o,e,_⟩:=T.obj _ _ st5 b hb
     exact(I8.pin (b,o) (lm _ (lm _ (bP hb e)))).2.1
    ·exact(I8.pins_of (pins':=pl) λp hp=>I8.pin p (lm _ (Bu _ (Be _ hp)))).weak l6.symm d6
   cases ok with
   | false =>
    rw[if_neg A4]at q7 ⊢
    obtain⟨m',hm,w7⟩:=hN _ _ q7
    obtain⟨a1,a2,a3,a4,a5⟩:=after I7
    exact⟨m',hm,i+1,ys,its,k,H7,a5,a3,a4,a2,r3,a1,w7⟩
   | true =>
    rw[if_pos rfl]at q7 ⊢
    refine thn (xe▸he _ s7 σ6 H7 _ I7 q7) λu8 s8 ⟨v8,H8,I8,r8,n8⟩=>?_
    obtain⟨m',hm,w8⟩:=hN _ _ n8
    obtain⟨a1,a2,a3,a4,a5⟩:=after I8
    have hsz:its.toArray.size<xL:=by rw[sB,<- r3.length];exact hz
    refine Hf C_ ⟨_,a1,rfl⟩ FM (Fw _ _) (FI D its.toArray k u8 (BZ hsz)) ⟨a1,?_⟩
    have q9:=Fv a1 (λxs=>xs.push u8)
    have sb:Bx D s8.heap (s8.heap.update D (Cd λxs=>xs.push u8)):=Ci ..
    have I9:=a5.young sb a2 szD neDL clB plD
    have fin:∃k',(s8.heap.update D (Cd λxs=>xs.push u8)).get? D=some {cls:=.type "list",data:=.seq (its++[u8]).toArray k'}:=⟨_,by
     rw[show(its++[u8]).toArray=its.toArray.push u8 by simp]
     exact q9⟩
    obtain⟨k',fin⟩:=fin
    exact⟨m',hm,i+1,ys++[v8],its++[u8],k',H8,I9,T.keep _ _ _ a3 (λb hb o e=>(sb.2 b (fpD b hb)).trans e),a4,a2,r3.append (.cons r8 .nil),fin,w8⟩
 exact jX loop (T.self _ 0 _ _ _ st2 loop)
end
section
variable {X:Cx}
theorem oi {elt tg iter tg2 iter2:Expr}{ifs ifs2:List Expr}{scope:Cv}{pos:Pos}{own:List Str}{js:List Nat}{g g2:TG}{tc tc2:TT}{wi2:TI}{te:TE}{Q:VK}{pins:List (Addr×Obj)}{σ:St}{s2:db}{itv:bv}{E:bv->db->Prop}
  {RR:bv->Addr->D3->db->Prop} (hc:X.calm=true) (B:Blk X scope own js) (hg:∀s H C fp,(own++capN X.N js).Nodup->PG (blk X scope (own++capN X.N js) s H C fp) tg g) (ht:∀s H C fp,PTs (blk X scope (own++capN X.N js) s H C fp) ifs tc)
  (hi2:∀s H C fp,PI (blk X scope (own++capN X.N js) s H C fp) tg2 iter2 wi2) (hg2:∀s H C fp,(own++capN X.N js).Nodup->PG (blk X scope (own++capN X.N js) s H C fp) tg2 g2) (ht2:∀s H C fp,PTs (blk X scope (own++capN X.N js) s H C fp) ifs2 tc2) (hs2:∀s H C fp x,B6 iter2 (blk X scope (own++capN X.N js) s H C fp).env x=pure x)
  (he:∀s H C fp,PE (blk X scope (own++capN X.N js) s H C fp) elt te)
  (h:PIE X pins σ tg (λJ H1=>wQ J own.length js g tc wi2 g2 tc2 te Q σ H1) itv s2)
  (hR:∀C acc s',um X pins σ Q C acc s'->RR acc C (.ok .next) s') :
  li (o0 X.prog X.w) X.A (Ib []) (λacc s3=>li (o0 X.prog X.w) X.A (FG scope X.env.globals (cG scope X.env) [] X.env.qual none .none (some X.env)) (λcenv s4 =>
   B7 (o0 X.prog X.w) X.A (.compStart (.ListComp elt [⟨tg,iter,ifs,0⟩,⟨tg2,iter2,ifs2,0⟩] scope pos) 0 itv acc {cenv with scope:=FP scope X.env}) (RR acc cenv.locals) s4) E s3) E s2:=by
 obtain⟨it,fp,tn,J,H2,rfl,I2,T,st2,f2,W,⟨m0,w0⟩,turn⟩:=h
 refine B5 (Er B.nocell (by intro y hy;simp at hy) (λh1 hns1 hsb1=>?_) B.kind)
 generalize hPu:s2.heap.push {cls:=.type "list",dict:=none,data:=.seq ([]:List bv).toArray}=Pu at hns1 hsb1 ⊢
 dsimp only at hns1 hsb1 ⊢
 have hDC:Pu.objs.size=s2.heap.objs.size+1:=by rw[<- hPu,B8]
 generalize hD:s2.heap.objs.size=D at hDC ⊢
 have gD:Pu.get? D=some {cls:=.type "list",dict:=none,data:=.seq ([]:List bv).toArray}:=by
  rw[<- hPu,<- hD];exact wv _ rfl
 generalize hC:Pu.objs.size=C at hns1 hsb1 hDC ⊢
 have ltDC:D<C:=by rw[hDC];exact CV D
 have neDC:D≠C:=ww ltDC
 have keep1:∀b o,s2.heap.get? b=some o->h1.get? b=some o:=λb o e=>by
  have hb:b<D:=by rw[<- hD];exact lc e
  have hb2:b≠C:=ww (CU hb ltDC)
  refine(hsb1.2 b hb2).trans (dL _ ?_)
  rw[<- hPu]
  exact dL _ e
 have gD1:h1.get? D=some {cls:=.type "list",dict:=none,data:=.seq ([]:List bv).toArray}:=(hsb1.2 D neDC).trans (dL _ gD)
 have szD:s2.heap.objs.size<=D:=Ey hD
 have szC:s2.heap.objs.size<=C:=A_ szD (BZ ltDC)
 have old:∀ {b:Addr},b<s2.heap.objs.size->b≠D/\b≠C:=λhb=>⟨ww (xz hb szD),ww (xz hb szC)⟩
 have fpo:∀b∈fp,∃o,s2.heap.get? b=some o:=λb hb=>let ⟨o,e,_⟩:=T.obj 0 _ st2 b hb;⟨o,e⟩
 have fpD:∀b∈fp,b≠D/\b≠C:=λb hb=>by
  obtain⟨o,e⟩:=fpo b hb
  exact old (lc e)
 have clD:∀x d,X.env.cells.lookup x=some d->d≠D/\d≠C:=λx d e=>by
  obtain⟨v,o,ho,_⟩:=I2.cell x d e
  exact old (lc ho)
 have pinD:∀p∈X.pn++pins,p.1≠D/\p.1≠C:=λp hp=>by
  exact old (lc (I2.pin p hp).1)
 have locD:D≠X.env.locals/\C≠X.env.locals:=by
  exact⟨(old I2.lt).1.symm,(old I2.lt).2.symm⟩
 let Y:=blk X scope (own++capN X.N js) s2 H2 C fp
 have IB:Inv Y [] (bst own.length σ js) H2 {s2 with heap:=h1,toks:=s2.toks+([]:List (Str×bv)).length}:=lF B I2 f2 fpo szC hns1 keep1
 have fpB:∀ {H':Hp} {pl:List (Addr×Obj)},(∀b∈fp,H' b=none)->(∀p∈pl,p.1=D)->∀b∈fp,FpOk Y pl H' b:=λ{H' pl} hn hp b hb=>by
  obtain⟨f0,f1,f3,f4,f5,f6⟩:=f2 b hb
  refine⟨hn b hb,(fpD b hb).2,λz=>?_,.inl hb,λx c e=>f5 x c (b9 e),λp q=>?_⟩
  ·rcases wn.mp (I2.stkSub b z)with z | z
   ·exact f1 z
   ·exact f3 z
  ·have q':p∈pl:=by simpa [Y,blk] using q
   rw[hp p q']
   exact(fpD b hb).1.symm
 have clB:∀x d,Y.env.cells.lookup x=some d->d≠D:=λx d e=>(clD x d (b9 e)).1
 have notFs:D∉Y.fs:=λz=>by
  obtain⟨_,o,ho,_⟩:=IB.ok.funs.mem z
  exact(old (lc (show s2.heap.get? D=some o from ho))).1 rfl
 have loop:∀s3:db,s3={s2 with heap:=h1,toks:=s2.toks+([]:List (Str×bv)).length} ->
   B7 (o0 X.prog X.w) X.A (.compLoop (.ListComp elt [⟨tg,iter,ifs,0⟩,⟨tg2,iter2,ifs2,0⟩] scope pos) 0 (.ref it) (.ref D) (He scope (cG scope X.env) C X.env)) (RR (.ref D) C) s3:=by
  rintro s3 rfl
  refine t4 (λn s'=>∃(i:Nat) (ys:List V) (its:List bv) (k:Nat) (H':Hp),Inv Y [] (bst own.length σ js) H' s'/\tn i s'.heap/\(∀b∈fp,H' b=none)/\H' D=none/\Vals ys its /\
   s'.heap.get? D=some {cls:=.type "list",data:=.seq its.toArray k}/\W i n ys H') (hs2 s2 H2 C fp) ?_ m0 ⟨0,[],[],0,H2,IB,T.keep 0 _ _ st2 (λb hb o e=>keep1 b o e),λb hb=>(f2 b hb).1,I2.hok.fresh szD,.nil,gD1,w0⟩
  rintro n s3 ⟨i,ys,its,k,H3,I3,st3,fr3,hD3,r3,g3,w3⟩
  have I3p:Inv Y [(D,{cls:=.type "list",data:=.seq its.toArray k})] (bst own.length σ js) H3 s3:=I3.pins_of λp hp=>by
   have e:p=(D,{cls:=.type "list",data:=.seq its.toArray k}):=by simpa using hp
   subst e
   exact⟨g3,hD3,neDC,notFs,λv z=>by cases z⟩
  have f3:∀b∈fp,FpOk Y [(D,{cls:=.type "list",data:=.seq its.toArray k})] H3 b:=fpB fr3 λp hp=>by
   have e:p=(D,{cls:=.type "list",data:=.seq its.toArray k}):=by simpa using hp
   rw[e]
  rcases turn i n ys H3 w3 with⟨stop,hz,qn⟩ | ⟨go,N,hN,step⟩
  ·refine thn (T.done Y rfl rfl rfl hc i _ s3 _ H3 (λ_ _=>False) I3p f3 st3 stop) λr s4 ⟨hr,I4⟩=>?_
   subst hr
   refine hR C _ s4 ?_
   have g4:=(I4.pin (D,{cls:=.type "list",data:=.seq its.toArray k}) (by simp[Y,blk])).1
   obtain⟨m,hn4,_⟩:=id I4.loc
   have un:Un (frs X.stack) fp H2 H3 s2.heap s4.heap:=I4.base
   have I5:Inv X pins σ H3 s4:=I2.call' I4.os un I4.hok I4.bare λb hb=>let ⟨_,b1,_,b3,b4,b5⟩:=f2 b hb;⟨b3,b1,b4,b5⟩
   have I6:=I5.track (ys:=ys) (its:=its) (n:=k) hD3 (A_ I2.sz szD) locD.1 (λx d e=>(clD x d e).1) (λp hp=>(pinD p hp).1) hz r3 g4
   refine⟨D,_,m,rfl,hn4,I6,?_,A_ I2.sz szC,locD.2,λx d e=>(clD x d e).2,λp hp=>(pinD p hp).2,qn D hD3⟩
   rw[aL (B_ neDC)]
   exact I4.free
  ·refine thn (T.item Y rfl rfl rfl hc i _ s3 _ H3 (λ_ _=>False) I3p f3 st3 go) λr s4 ⟨u,hr,h4⟩=>?_
   subst hr
   refine thn h4 λ_ s5 ⟨x,H5,I5,r5,y5,st5,fr5⟩=>?_
   have f5:∀b∈fp,FpOk Y [(D,{cls:=.type "list",data:=.seq its.toArray k})] H5 b:=λb hb=>⟨fr5 b hb,(f3 b hb).2⟩
   have I5':=I5.pinned f5 (T.obj _ _ st5)
   refine thn (hg s2 H2 C fp B.nd _ s5 _ H5 x u _ I5' r5 (step x H5 y5)) λ_ s6 ⟨σ6,H6,I6,d6,q6⟩=>?_
   refine thn (ht s2 H2 C fp _ s6 σ6 H6 _ I6 q6) λok s7 ⟨H7,I7,q7⟩=>?_
   have after:∀ {s8:db} {H8:Hp} {its:List bv} {k:Nat},Inv Y ([(D,{cls:=.type "list",data:=.seq its.toArray k})]++e6 fp s5.heap) σ6 H8 s8 ->
     s8.heap.get? D=some {cls:=.type "list",data:=.seq its.toArray k}/\H8 D=none/\tn (i+1) s8.heap/\(∀b∈fp,H8 b=none)/\Inv Y [] (bst own.length σ js) H8 s8:=λ{s8 H8 its k} I8=>by
    have p8:=I8.pin (D,{cls:=.type "list",data:=.seq its.toArray k}) (by simp[Y,blk])
    refine⟨p8.1,p8.2.1,T.keep _ _ _ st5 λb hb o e=>(I8.pin (b,o) (lm _ (lm _ (bP hb e)))).1,λb hb=>?_,?_⟩
    ·obtain⟨o,e,_⟩:=T.obj _ _ st5 b hb
     exact(I8.pin (b,o) (lm _ (lm _ (bP hb e)))).2.1
    ·refine(I8.pins_of (pins':=[]) λp hp=>absurd hp (by simp[Y,blk])).weak ?_ λj v e=>?_
     ·rw[I8.len,eW]
      show _=(own++capN X.N js).length
      unfold capN
      simp
     ·rcases Bh j own.length with z | z
      ·exfalso
       unfold bst at e
       rw[Bi (by simpa using z),BR]at e
       split at e <;> cases e
      ·unfold bst at e
       rw[By (by simpa using z),Cf,<- d6,Bt]at e
       rw[<- e]
       congr 1
       omega
   cases ok with
   | false =>
    rw[if_neg A4]at q7 ⊢
    obtain⟨m',hm,w7⟩:=hN _ _ q7
    obtain⟨a1,a2,a3,a4,a5⟩:=after I7
    exact⟨m',hm,i+1,ys,its,k,H7,a5,a3,a4,a2,r3,a1,w7⟩
   | true =>
    rw[if_pos rfl]at q7 ⊢
    refine thn (hi2 s2 H2 C fp _ s7 σ6 H7 _ I7 q7) λv8 s8 h8=>thn h8 λitv s9 h9=>?_
    refine qB (Y:=Y) (pl:=e6 fp s5.heap) rfl hc (hg2 s2 H2 C fp B.nd) (ht2 s2 H2 C fp) (he s2 H2 C fp) szD neDC notFs clB (λp hp=>?_) h9 r3 λzs its' k' H' s' I' r' g' d' n'=>⟨rfl,?_⟩
    ·have hp':p∈e6 fp s5.heap:=by simpa [Y,blk] using hp
     exact(fpD p.1 (l5 hp').1).1
    ·obtain⟨m',hm,w8⟩:=hN _ _ n'
     have I'p:Inv Y ([(D,{cls:=.type "list",data:=.seq its'.toArray k'})]++e6 fp s5.heap) σ6 H' s':=I'.pins_of λp hp=>by
      rcases Bq.mp hp with z | z
      ·have e:p=(D,{cls:=.type "list",data:=.seq its'.toArray k'}):=by simpa using z
       subst e
       exact⟨g',d',neDC,notFs,λv z=>by cases z⟩
      ·exact I'.pin p (lm _ z)
     obtain⟨a1,a2,a3,a4,a5⟩:=after I'p
     exact⟨m',hm,i+1,zs,its',k',H',a5,a3,a4,d',r',g',w8⟩
 exact Ic (loop _ rfl) (T.self _ 0 _ _ _ (T.keep 0 _ _ st2 λb hb o e=>keep1 b o e) (loop _ rfl))
theorem kY {elt tg iter tg2 iter2:Expr}{ifs ifs2:List Expr}{scope:Cv}{pos pos' spos:Pos}{i:Nat}{x:Str}(own:List Str)(js:List Nat){wi wi2:TI}{g g2:TG}{tc tc2:TT}{te:TE}(hN:X.N.Nodup)(hi:X.N[i]? = some x)(hx:Loc X.env.scope x)
  (hc:X.calm=true) (B:Blk X scope own js) (hit:PI X tg iter wi)
  (hg:∀s H C fp,(own++capN X.N js).Nodup->PG (blk X scope (own++capN X.N js) s H C fp) tg g) (ht:∀s H C fp,PTs (blk X scope (own++capN X.N js) s H C fp) ifs tc)
  (hi2:∀s H C fp,PI (blk X scope (own++capN X.N js) s H C fp) tg2 iter2 wi2) (hg2:∀s H C fp,(own++capN X.N js).Nodup->PG (blk X scope (own++capN X.N js) s H C fp) tg2 g2) (ht2:∀s H C fp,PTs (blk X scope (own++capN X.N js) s H C fp) ifs2 tc2) (he:∀s H C fp,PE (blk X scope (own++capN X.N js) s H C fp) elt te)
  (hf:X.fn x=true∨X.env.scope.names.lookup x=some .local:=by first | exact .inl rfl | exact .inr rfl | assumption)
  (hw:EE (.ListComp elt [⟨tg,iter,ifs,0⟩,⟨tg2,iter2,ifs2,0⟩] scope pos) (some (.Name x pos')) spos.line X.env=pure true:=by rfl)
  (hs:∀x,B6 iter X.env x=pure x:=by intro _;rfl) (hs2:∀s H C fp x,B6 iter2 (blk X scope (own++capN X.N js) s H C fp).env x=pure x:=by intros;rfl) :
  PS X (.Assign [.Name x pos'] (.ListComp elt [⟨tg,iter,ifs,0⟩,⟨tg2,iter2,ifs2,0⟩] scope pos) spos) (λD σ H=>oO own.length js wi g tc wi2 g2 tc2 te σ H λv H'=>D.nx (σ.set i (some v)) H'):=by
 intro pins s σ H D I h
 have hcl:Ee scope X.env=pure (cG scope X.env):=cz λx hx hf=>I.ok.has x.1 (B.free x hx hf)
 rw[Fq _ _ _ _ hw]
 refine bn (B3 (bn ?_))
 show li _ X.A (do let _ <- E1 (.ListComp elt [⟨tg,iter,ifs,0⟩,⟨tg2,iter2,ifs2,0⟩] scope pos) scope X.env _ (Ib []) false (eval iter X.env) (some (Di (.Name x pos') X.env))) _ _ s
 refine bn (thn (Q:=λ_ s'=>SP X pins D .next s') (CI (use:=some (Di (.Name x pos') X.env)) rfl hs hcl B.kind B.names (thn (hit pins s σ H _ I h) λv s1 h1=>thn h1 λitv s2 h2=>?_)) λ_ s' q=>kt (kt q))
 refine oi (Q:=λv H'=>D.nx (σ.set i (some v)) H') (RR:=λacc C=>Gs (o0 X.prog X.w) X.A X.xe (some (Di (.Name x pos') X.env)) (λ_ s'=>SP X pins D .next s') acc C) hc B hg ht hi2 hg2 ht2 hs2 he h2 λC acc s' hb=>?_
 obtain⟨l,H',m,rfl,hn,I',c1,c2,c3,c4,c5,q⟩:=hb
 show li _ X.A (Di (.Name x pos') X.env (.ref l)) _ _ _
 refine EW (fh (v:=.ref l) I' hN hi hx rfl (λs3 I3 ⟨a,sb,ha⟩=>?_) hf)
 have ne:C≠a:=by
  rcases ha with z | z
  ·rw[z];exact c3
  ·exact(c4 x a z).symm
 exact⟨m,hn.sameBut sb ne,λh' hs'=>⟨_,H',I3.young hs' c1 c2 c3 c4 c5,q⟩⟩
end
def fU (n2:Nat)(c:En->Prop)(g:AG)(tc:AT)(te:AE)(k:List D->En->Prop):List D->List D->En->Prop
 | [],acc,ρ=>c ρ/\k acc ρ
 | d::ds,acc,ρ=>c ρ/\acc.length<=1000000/\g d ρ λρ1=>tc ρ1 λb ρ2=>if b=true then te ρ2 λr ρ3=>sto [r.frz] ρ3 λes ρ4=>fU n2 c g tc te k ds (acc++es) (pc n2 .un++ρ4.drop n2)else fU n2 c g tc te k ds acc (pc n2 .un++ρ2.drop n2)
def fw (n2 n:Nat)(js:List Nat)(c:En->Prop)(g:AG)(tc:AT)(i2:AI)(g2:AG)(tc2:AT)(te:AE)(q:List D->En->Prop):List D->List D->En->Prop
 | [],acc,ρ=>c ρ/\acc.length<=1000000/\q acc ρ
 | d::ds,acc,ρ=>c ρ/\g d (blkE n js ρ) λρ1=>tc ρ1 λb ρ2=>if b=true then i2 ρ2 λds2 c2 ρ3=>fU n2 c2 g2 tc2 te (λacc' ρ4=>fw n2 n js c g tc i2 g2 tc2 te q ds acc' (back ρ (js.map R.o) (ρ4.drop n))) ds2 acc ρ3 else fw n2 n js c g tc i2 g2 tc2 te q ds acc (back ρ (js.map R.o) (ρ2.drop n))
def Ai (n2 n:Nat)(js:List Nat)(i:AI)(g:AG)(tc:AT)(i2:AI)(g2:AG)(tc2:AT)(te:AE):AE:=λρ q=>i ρ λds c ρ1=>fw n2 n js c g tc i2 g2 tc2 te (λacc ρ2=>q (.f acc) ρ2) ds [] ρ1
section
variable {K:bi}
theorem qY {n2:Nat}{g2:TG}{tc2:TT}{te:TE}{ag2:AG}{atc2:AT}{ate:AE}(hg:TGok K (λj=>decide (n2<=j)) g2 ag2)(hc:TTok K tc2 atc2)(he:TEok K te ate)
  {F:Fr} {σ:St} {ρ:En} {H:Hp} {J:It} {ds:List D} {c:En->Prop} {k:List D->En->Prop} {N:List V->Hp->Prop} {ys:List V} {acc:List D}
  (hpin:∀i a,F.pin i a->n2<=i) (hn:n2<=σ.length) (h0:σ=pc n2 none++σ.drop n2) (r:Rel K F σ ρ H)
  (wk:∀ ρ2 H2,Same (hid H (hs F σ ρ)) (hid H2 (hs F σ ρ2))->(∀i,SvOk K (hid H2 (hs F σ ρ2)) H2 σ[i]? (gt ρ2 i))->(∀a,hs F σ ρ2 a->Nt H2 a)->c ρ2->WkAt K (hs F σ ρ2) H2 J ds)
  (rd:RepDs K (hid H (hs F σ ρ)) ys acc) (h:fU n2 c ag2 atc2 ate k ds acc ρ)
  (kk:∀acc' ρ' ys' H',k acc' ρ'->Rel K F σ ρ' H'->Kp σ ρ ρ' H H'->RepDs K (hid H' (hs F σ ρ')) ys' acc'->N ys' H'):yD J g2 tc2 te N σ ys H:=by
 refine⟨λi m ys H'=>∃ ρ' acc,m=ds.length - i/\i<=ds.length/\Rel K F σ ρ' H'/\Kp σ ρ ρ' H H'/\RepDs K (hid H' (hs F σ ρ')) ys acc/\fU n2 c ag2 atc2 ate k (ds.drop i) acc ρ',⟨ds.length,ρ,acc,rfl,Bl _,r,.refl,rd,h⟩,?_⟩
 rintro i m ys H' ⟨ρ',acc,rfl,hl,r',k',rd,h'⟩
 have w:c ρ'->WkAt K (hs F σ ρ') H' J ds:=λhc=>wk ρ' H' k'.vis r'.sl (λa z=>qC r' z) hc
 rcases Bh i ds.length with lt | ge
 ·right
  rw[Bo lt]at h'
  unfold fU at h'
  obtain⟨hcc,hz,h'⟩:=h'
  obtain⟨go,yld⟩:=(w hcc i).1 ds[i] (im lt)
  have yl:ys.length=acc.length:=rd.length
  refine⟨go,j3 (by omega),λzs H2=>∃ ρ2 acc2,Rel K F σ ρ2 H2/\Kp σ ρ ρ2 H H2/\RepDs K (hid H2 (hs F σ ρ2)) zs acc2/\fU n2 c ag2 atc2 ate k (ds.drop (i+1)) acc2 ρ2,
   λzs H2 ⟨ρ2,acc2,a1,a2,a3,a5⟩=>⟨ds.length - (i+1),by omega,ρ2,acc2,rfl,lt,a1,a2,a3,a5⟩,λx H2 hy=>?_⟩
  obtain⟨sm,rx⟩:=yld x H2 hy
  have k':Kp σ ρ ρ' H H2:=k'.trans ⟨λa o e _=>sm a o e,λ_ h=>h⟩
  have rd:RepDs K (hid H2 (hs F σ ρ')) ys acc:=rd.same (bc λa o e n=>⟨sm a o e,n⟩)
  have r':=r'.grow sm
  refine hg F σ ρ' H2 x _ _ _ (λi a h=>decide_eq_true (hpin i a h)) r' rx h' λσ3 ρ3 h3 r3 l3 p3 o3=>?_
  have drop3:σ3.drop n2=σ.drop n2:=by
   apply CJ
   intro i
   rw[Bt,Bt]
   exact p3 (n2+i) (decide_eq_true (Nat.le_add_right ..))
  have ret:∀ ρ4 H4,Rel K F σ3 ρ4 H4->Kp σ3 ρ3 ρ4 H2 H4->Rel K F σ (pc n2 .un++ρ4.drop n2) H4/\Kp σ ρ' (pc n2 .un++ρ4.drop n2) H2 H4/\Same (hid H4 (hs F σ3 ρ4)) (hid H4 (hs F σ (pc n2 .un++ρ4.drop n2))):=λρ4 H4 r4 k4=>by
   obtain⟨f1,f2⟩:=r4.forget (n:=n2) (by omega) hpin
   rw[drop3,<- h0]at f1 f2
   refine⟨f1,⟨λa o e n=>k4.st a o e λ⟨j,hj,ej⟩=>?_,λj hj=>?_⟩,f2⟩
   ·obtain⟨b1,b2⟩:=o3 j hj
    rw[b2]at ej
    exact n ⟨j,b1,ej⟩
   ·rw[jG]at hj
    split at hj
    ·cases hj
    ·rename_i hnj
     rw[gm,show n2+(j - n2)=j by omega]at hj
     exact(o3 j (k4.sb j hj)).1
  refine⟨⟨l3,λj v e=>?_⟩,hc F σ3 ρ3 H2 _ _ r3 h3 λb ρ4 H4 h4 r4 k4=>?_⟩
  ·rcases Bh j n2 with z | z
   ·exfalso
    rw[h0,Bi (by simpa using z),BR]at e
    split at e <;> cases e
   ·rw[p3 j (decide_eq_true z)];exact e
  ·cases b with
   | false =>
    obtain⟨b1,b2,_⟩:=ret ρ4 H4 r4 k4
    exact⟨_,acc,b1,k'.trans b2,rd.same b2.vis,h4⟩
   | true =>
    refine he F σ3 ρ4 H4 _ _ r4 h4 λr5 ρ5 v H5 h5 o5=>?_
    obtain⟨r5',k5,i5⟩:=o5.inF
    obtain⟨d,ρ6,h6,r6,k6,rv⟩:=m5 r5' i5 h5
    obtain⟨b1,b2,b3⟩:=ret ρ6 H5 r6 (k4.trans (k5.trans k6))
    exact⟨_,acc++[d],b1,k'.trans b2,(rd.same b2.vis).append (.one (rv.same b3)),h6⟩
 ·left
  rw[BJ ge]at h'
  unfold fU at h'
  obtain⟨hcc,h'⟩:=h'
  exact⟨(w hcc i).2 ge,kk acc ρ' ys H' h' r' k' rd⟩
theorem i0 {n2 n:Nat}{js:List Nat}{wi wi2:TI}{g g2:TG}{tc tc2:TT}{te:TE}{ai ai2:AI}{ag ag2:AG}{atc atc2:AT}{ate:AE}(hi:TIok K (λ_=>true) wi ai)(hg:TGok K (λj=>decide (j<n2)||decide (n<=j)) g ag)(hc:TTok K tc atc)
  (hi2:TIok K (λ_=>true) wi2 ai2) (hg2:TGok K (λj=>decide (n2<=j)) g2 ag2) (hc2:TTok K tc2 atc2) (he:TEok K te ate)
  (hn:n2<=n:=by decide) (hd:dis (js.map R.o)=true:=by rfl):TEok K (oO n js wi g tc wi2 g2 tc2 te) (Ai n2 n js ai ag atc ai2 ag2 atc2 ate):=by
 intro F σ ρ H q Q r h k
 refine hi F σ ρ H _ _ r h λds c ρ1 J H1 h1 r1 k1 wk=>?_
 have hd':dis (blkR n js)=true:=by rw[gW];exact hd
 refine⟨λi m ys H'=>∃ ρ' acc,m=ds.length - i/\i<=ds.length/\Rel K F σ ρ' H'/\Kp σ ρ1 ρ' H1 H'/\RepDs K (hid H' (hs F σ ρ')) ys acc/\fw n2 n js c ag atc ai2 ag2 atc2 ate (λacc ρ2=>q (.f acc) ρ2) (ds.drop i) acc ρ',⟨ds.length,ρ1,[],rfl,Bl _,r1,.refl,.nil,h1⟩,?_⟩
 rintro i m ys H' ⟨ρ',acc,rfl,hl,r',k',rd,h'⟩
 have w:c ρ'->WkAt K (hs F σ ρ') H' J ds:=λhc=>wk σ ρ' H' k'.vis r'.sl (λ_ _ _ e=>e) (λa z=>qC r' z) hc
 have yl:ys.length=acc.length:=rd.length
 rcases Bh i ds.length with lt | ge
 ·right
  rw[Bo lt]at h'
  unfold fw at h'
  obtain⟨hcc,h'⟩:=h'
  obtain⟨go,yld⟩:=(w hcc i).1 ds[i] (im lt)
  refine⟨go,λzs H2=>∃ ρ2 acc2,Rel K F σ ρ2 H2/\Kp σ ρ1 ρ2 H1 H2/\RepDs K (hid H2 (hs F σ ρ2)) zs acc2/\fw n2 n js c ag atc ai2 ag2 atc2 ate (λacc ρ2=>q (.f acc) ρ2) (ds.drop (i+1)) acc2 ρ2,
   λzs H2 ⟨ρ2,acc2,a1,a2,a3,a5⟩=>⟨ds.length - (i+1),by omega,ρ2,acc2,rfl,lt,a1,a2,a3,a5⟩,λx H2 hy=>?_⟩
  obtain⟨sm,rx⟩:=yld x H2 hy
  have r0':=r'
  have k':Kp σ ρ1 ρ' H1 H2:=k'.trans ⟨λa o e _=>sm a o e,λ_ h=>h⟩
  have rd:RepDs K (hid H2 (hs F σ ρ')) ys acc:=rd.same (bc λa o e n=>⟨sm a o e,n⟩)
  have r':=r0'.grow sm
  have src:=iW (K:=K) (F:=F) (σ:=σ) (ρ:=ρ') (H:=H2) n js
  have rb:=r'.sub src hd'
  have hs2:=lO r' src
  rw[bp]at rb hs2
  have pin0:∀i a,(dg F σ ρ' H2 (bst n σ js) (blkE n js ρ')).pin i a->n<=i:=λi a h=>by
   rcases h with h | h
   ·exact iX h.1
   ·exact h.elim
  have hlen:(bst n σ js).length=n+js.length:=eW
  have ret:∀ σ2 ρ2 H3,Rel K (dg F σ ρ' H2 (bst n σ js) (blkE n js ρ')) σ2 ρ2 H3->σ2.length=(bst n σ js).length->σ2.drop n=capt σ js->(∀i,(gt ρ2 i).own=true->(gt (blkE n js ρ') i).own=true) ->
    Rel K F σ (back ρ' (js.map R.o) (ρ2.drop n)) H3/\Kp σ ρ' (back ρ' (js.map R.o) (ρ2.drop n)) H2 H3/\Same (hid H3 (hs (dg F σ ρ' H2 (bst n σ js) (blkE n js ρ')) σ2 ρ2)) (hid H3 (hs F σ (back ρ' (js.map R.o) (ρ2.drop n)))):=λσ2 ρ2 H3 rr hlen2 hdrop hown=>by
   obtain⟨f1,f2⟩:=rr.forget (n:=n) (by omega) pin0
   rw[hdrop]at f1 f2
   have f1':Rel K (dg F σ ρ' H2 (bst n σ js) ((blkR n js).map (cI ρ'))) (bst n σ js) (pc n .un++ρ2.drop n) H3:=by rw[bp];exact f1
   have bk:=r'.back src hd' f1' λi hi=>by
    rw[bp]
    rw[jG]at hi
    split at hi
    ·cases hi
    ·rename_i hni
     rw[gm,show n+(i - n)=i by omega]at hi
     exact hown i hi
   have ln:(pc n Sv.un++ρ2.drop n).length=n+js.length:=by
    have:=rr.len
    simp;omega
   rw[gX js ρ' n _ ln,Db (by simp),bp]at bk
   exact⟨bk.1,bk.2.1,f2.trans bk.2.2⟩
  refine hg _ (bst n σ js) (blkE n js ρ') H2 x _ _ _ (λi a h=>by simp[pin0 i a h]) rb (by rw[hs2];exact rx) h' λσ2 ρ2 h2 r2 l2 p2 o2=>?_
  have hdrop:σ2.drop n=capt σ js:=by
   have:σ2.drop n=(bst n σ js).drop n:=by
    apply CJ
    intro i
    rw[Bt,Bt]
    exact p2 (n+i) (by simp)
   rw[this]
   unfold bst
   rw[Db (by simp)]
  have hin:σ2=pc n2 none++σ2.drop n2:=by
   apply CJ
   intro j
   rcases Bh j n2 with z | z
   ·rw[p2 j (by simp[z]),Bi (by simpa using z)]
    unfold bst
    rw[Bi (by simp;omega),BR,BR,if_pos z,if_pos (by omega)]
   ·rw[By (by simpa using z),Cf,Bt]
    congr 1;omega
  have rdb:RepDs K (hid H2 (hs (dg F σ ρ' H2 (bst n σ js) (blkE n js ρ')) σ2 ρ2)) ys acc:=by
   rw[<- hs2]at rd
   refine rd.same (bc λa o e nn=>⟨e,λz=>nn ?_⟩)
   rcases z with z | ⟨j,hj,ej⟩
   ·exact .inl z
   ·obtain⟨b1,b2⟩:=o2 j hj
    rw[b2]at ej
    exact .inr ⟨j,b1,ej⟩
  refine⟨hdrop,hc _ σ2 ρ2 H2 _ _ r2 h2 λb ρ3 H3 h3 r3 k3=>?_⟩
  cases b with
  | false =>
   obtain⟨b1,b2,_⟩:=ret σ2 ρ3 H3 r3 l2 hdrop λi hi=>(o2 i (k3.sb i hi)).1
   exact⟨_,acc,b1,k'.trans b2,rd.same b2.vis,h3⟩
  | true =>
   refine hi2 _ σ2 ρ3 H3 _ _ r3 h3 λds2 c2 ρ4 J2 H4 h4 r4 k4 wk2=>?_
   refine qY hg2 hc2 he (λi a h=>A_ hn (pin0 i a h)) (by omega) hin r4 (λρ5 H5 a1 a2 a3 a4=>wk2 σ2 ρ5 H5 a1 a2 (λ_ _ _ e=>e) a3 a4) (rdb.same (k3.trans k4).vis) h4 λacc' ρ5 ys' H5 h5 r5 k5 rd5=>?_
   obtain⟨b1,b2,b3⟩:=ret σ2 ρ5 H5 r5 l2 hdrop λi hi=>(o2 i (k3.sb i (k4.sb i (k5.sb i hi)))).1
   exact⟨_,acc',b1,k'.trans b2,rd5.same b3,h5⟩
 ·left
  rw[BJ ge]at h'
  unfold fw at h'
  obtain⟨hcc,hz,h'⟩:=h'
  refine⟨(w hcc i).2 ge,small (by omega),λl hl'=>?_⟩
  exact((k.after k1).after k').new r' h' rd hl'
theorem ja {pr:Nat->Bool}{te:TE}{ae:AE}{i n:Nat}{js:List Nat}{wi wi2:TI}{g g2:TG}{tc tc2:TT}(h:TEok K (oO n js wi g tc wi2 g2 tc2 te) ae)(hi:pr i=false):TSok K pr (λD σ H=>oO n js wi g tc wi2 g2 tc2 te σ H λv H'=>D.nx (σ.set i (some v)) H') (aSet i ae):=oV hi h
end
section
variable {n2 n:Nat}{js:List Nat}{c:En->Prop}{g g2:AG}{tc tc2:AT}{i2:AI}{te:AE}
theorem tX {α:Type}{q:List D->En->Prop}(h:α->D)(f:α->List D){xs:List α}{ρ:En}(hc:c ρ)
  (hs:∀x acc (N:List D->En->Prop),x∈xs->(∃ys:List α,ys.length<=xs.length/\acc=(ys.flatMap f)/\∀y∈ys,y∈xs)->N (acc++f x) ρ->g (h x) (blkE n js ρ) λρ1=>tc ρ1 λb ρ2=>if b=true then i2 ρ2 λds2 c2 ρ3=>fU n2 c2 g2 tc2 te (λacc' ρ4=>N acc' (back ρ (js.map R.o) (ρ4.drop n))) ds2 acc ρ3 else N acc (back ρ (js.map R.o) (ρ2.drop n)))
  (hl:(xs.flatMap f).length<=1000000) (hd:q (xs.flatMap f) ρ):fw n2 n js c g tc i2 g2 tc2 te q (xs.map h) [] ρ:=by
 have go:∀(zs ys:List α),ys++zs=xs->fw n2 n js c g tc i2 g2 tc2 te q (zs.map h) (ys.flatMap f) ρ:=by
  intro zs
  induction zs with
  | nil =>
   intro ys e
   rw[Bn]at e
   subst e
   rw[CF]
   unfold fw
   exact⟨hc,hl,hd⟩
  | cons z zs ih =>
   intro ys e
   rw[A1]
   unfold fw
   refine⟨hc,hs z _ (λacc' ρ'=>fw n2 n js c g tc i2 g2 tc2 te q (zs.map h) acc' ρ') (by rw[<- e];simp) ⟨ys,by rw[<- e,A2];omega,rfl,λy hy=>by rw[<- e];exact Bu _ hy⟩ ?_⟩
   have:=ih (ys++[z]) (by rw[<- e,BK];rfl)
   rw[El,ED,F7,Bn]at this
   exact this
 exact go xs [] rfl
end
section
variable {M:HU}{A:Bg}{E:bv->bv->db->Prop}{s:db}{base:Heap}{env:Env}{outer:List Env}{L e C:Addr}{oe:Obj}{vs:Array bv}{od:Option Addr}
theorem md {E0:bv->db->Prop}{hd:bv}{had:Bool}{Q:bv->Unit->db->Prop}(fr:A.frames=some (env::outer))(ff:s.heap.FunFrames base (env::outer))(lf:env.frame=some L)
  (ge:s.heap.get? e=some oe) (gc:oe.cls = .ref C) (gd:oe.dict=od) (gf:oe.data = .fields vs) (gz:1<vs.size)
  (fin:∀h' T,s.heap.objs.size<=T->Fly od h' e C T->(∀b o,s.heap.get? b=some o->b≠e->b∉frs (env::outer)->h'.get? b=some o)->(∀b o,s.heap.get? b=some o->b≠e->∃sl,h'.get? b=some {o with slots:=sl})->Q (.ref e) () {s with heap:=h'}) :
  li M A (do let a <- frameOf env;let pl <- entryPlaceOf L had;let b <- DR hd a .none (BN L) .none pl;G9 (.ref e) 1 b) (λ_ s'=>Gd M A env (λx s2=>li M A (Gr env x) (Q x) (E x) s2) (.ref e) s') E0 s:=by
 have off:e∉frs (env::outer):=λq=>by
  obtain⟨_,o,go,no⟩:=ff.mem q
  cases ge.symm.trans go
  exact no vs gf
 refine bn (Jj fr ff lf λha sa=>bn (IY λpl ip=>?_))
 unfold DR HF
 refine bn (B5 ?_ (ip.sizeOk5 _ _ _ _ _))
 have ge1:ha.get? e=some oe:=(sa.2.1 e off).trans ge
 have sz:ha.objs.size=s.heap.objs.size:=sa.1
 generalize hT:([hd,Value.ref L,.none,BN L,.none]++(if pl.isEmpty then pc 6 Value.none else pl)).toArray=tv
 have tz:3<tv.size:=by rw[<- hT,sB,A2];simp only[A6,E6];omega
 have neT:e≠ha.objs.size:=ww (lc ge1)
 refine CN (dL _ ge1) gf gz ?_
 generalize hp:ha.push {cls:=.type "traceback",dict:=none,data:=.fields tv}=hb
 have gT:hb.get? ha.objs.size=some {cls:=.type "traceback",dict:=none,data:=.fields tv}:=by rw[<- hp];exact wv _ rfl
 have kb:∀b o,ha.get? b=some o->hb.get? b=some o:=λb o q=>by rw[<- hp];exact dL _ q
 have w1:=B9 gf λa=>a.setIfInBounds 1 (.ref ha.objs.size)
 have g3:=Bk (BW λa=>a.setIfInBounds 1 (.ref ha.objs.size)) (kb e oe ge1) (Ch w1)
 have gT3:=(AC hb (BW λa=>a.setIfInBounds 1 (.ref ha.objs.size)) neT).trans gT
 unfold Gd
 refine bn (BM g3 w1 (x:=.ref ha.objs.size) (by simp[gz]) ?_)
 rw[if_neg (by simp:¬(Value.ref ha.objs.size==Value.none)=true)]
 rw[lf]
 unfold EF
 refine bn (BM g3 w1 (x:=.ref ha.objs.size) (by simp[gz]) ?_)
 rw[if_pos (by simp:(Value.ref ha.objs.size != Value.none)=true)]
 refine CN gT3 rfl tz ?_
 generalize hh2:hb.update e (BW λa=>a.setIfInBounds 1 (.ref ha.objs.size))=hc at g3 gT3 ⊢
 have g4:=(AC hc (BW λa=>a.setIfInBounds 3 ((some L:Option Addr).elim Value.none λf=>BN f)) neT.symm).trans g3
 have w4:=B9 (o:={cls:=.type "traceback",dict:=none,data:=.fields tv}) rfl λa=>a.setIfInBounds 3 ((some L:Option Addr).elim Value.none λf=>BN f)
 have gT4:=Bk (BW λa=>a.setIfInBounds 3 ((some L:Option Addr).elim Value.none λf=>BN f)) gT3 (Ch w4)
 unfold Gr Df
 simp only[lf]
 refine bn (bn (BM g4 w1 (x:=.ref ha.objs.size) (by simp[gz]) ?_))
 rw[if_pos (by simp:(Value.ref ha.objs.size != Value.none)=true)]
 refine bn (BM gT4 w4 (x:=BN L) (by simp[tz]) ?_)
 rw[if_pos (by simp:(BN L==BN L)=true)]
 refine kt ?_
 unfold EF
 refine bn (BM g4 w1 (x:=.ref ha.objs.size) (by simp[gz]) ?_)
 rw[if_pos (by simp:(Value.ref ha.objs.size != Value.none)=true)]
 refine CN gT4 w4 (by simp[tz]) ?_
 have w5:=B9 w4 λa=>a.setIfInBounds 3 ((none:Option Addr).elim Value.none λf=>BN f)
 have on:∀b o,b≠e->ha.get? b=some o->((hc.update ha.objs.size (BW λa=>a.setIfInBounds 3 ((some L:Option Addr).elim Value.none λf=>BN f))).update ha.objs.size (BW λa=>a.setIfInBounds 3 ((none:Option Addr).elim Value.none λf=>BN f))).get? b=some o:=λb o ne q=>by
  rw[AC _ _ (BL (lc q)),AC _ _ (BL (lc q)),<- hh2,AC _ _ (B_ ne)]
  exact kb b o q
 refine fin _ ha.objs.size (by rw[sz];exact wl _) ⟨_,_,_,_,(AC _ _ neT.symm).trans g4,(F2 _ _).trans gc,?_,w1,by simp[gz],neT.symm,Bk _ gT4 (Ch w5),w5,by simp[tz]⟩ (λb o q ne nf=>on b o ne ((sa.2.1 b nf).trans q)) λb o q ne=>?_
 ·obtain⟨oc,od,oda,osl⟩:=oe
  cases gf
  exact gd
 ·obtain⟨sl,q'⟩:=sa.2.2 b o q
  exact⟨sl,on b _ ne q'⟩
theorem lv2 {E0:bv->db->Prop}{hv:bv}{Q:bv->Unit->db->Prop}(fr:A.frames=some (env::outer))(ff:s.heap.FunFrames base (env::outer))(lf:env.frame=some L)
  (ge:s.heap.get? e=some oe) (gc:oe.cls = .ref C) (gd:oe.dict=od) (gf:oe.data = .fields vs) (g1:vs[1]? = some hv)
  (hh:hv = .none ∨ ∃T oT ts,hv = .ref T/\T≠e/\s.heap.get? T=some oT/\oT.data = .fields ts/\ts[3]? = some .none)
  (fin:∀h' T,s.heap.objs.size<=T->Fly od h' e C T->Gone (frs (env::outer)) s.heap h' e hv->Q (.ref e) () {s with heap:=h'}) :
  li M A (Df (.ref e) env) (λ_ s'=>Gd M A env (λx s2=>li M A (Gr env x) (Q x) (E x) s2) (.ref e) s') E0 s:=by
 have gz:=(CY.mp g1).1
 unfold Df
 simp only[lf]
 refine bn (BM ge gf g1 ?_)
 rcases hh with rfl | ⟨T,oT,ts,rfl,nT,gT,fT,t3⟩
 ·rw[if_neg (by decide)]
  exact md fr ff lf ge gc gd gf gz λh' T' q1 q2 q3 q4=>fin h' T' q1 q2 ⟨λb o a1 a2 _ a4=>q3 b o a1 a2 a4,λb o a1 a2 _=>q4 b o a1 a2⟩
 ·rw[if_pos (by simp:(Value.ref T != Value.none)=true)]
  refine bn (BM gT fT t3 ?_)
  rw[if_neg (by simp[BN]:¬(Value.none==BN L)=true)]
  refine bn (CN gT fT (CY.mp t3).1 ?_)
  have ot:∀b,b≠T->(s.heap.update T (BW λa=>a.setIfInBounds 3 Value.none)).get? b=s.heap.get? b:=λb q=>AC _ _ (B_ q)
  have gT':=Bk (BW λa=>a.setIfInBounds 3 Value.none) gT (Ch (B9 fT _))
  have nr:∀b o,s.heap.get? b=some o->(∀us,o.data ≠ .fields us)->b≠T:=λb o q nf z=>by
   subst z
   cases gT.symm.trans q
   exact nf ts fT
  refine md fr (ff.of_keeps λb o q nf=>⟨o,(ot b (nr b o q nf)).trans q,rfl⟩) lf ((ot e nT.symm).trans ge) gc gd gf gz λh' T' q1 q2 q3 q4=>fin h' T' ?_ q2 ⟨λb o a1 a2 a3 a4=>q3 b o ((ot b λz=>a3 (by rw[z])).trans a1) a2 a4,λb o a1 a2 a3=>q4 b o ((ot b λz=>a3 (by rw[z])).trans a1) a2⟩
  rwa [Iw]at q1
end
def Cx.pz (X:Cx):bv->db->Prop:=notedBy (o0 X.prog X.w) X.A X.env (Gd (o0 X.prog X.w) X.A X.env X.xe)
section
variable {X:Cx}{pins:List (Addr×Obj)}{σ:St}{H:Hp}{s:db}{h0:Heap}{e C:Addr}{od:Option Addr}
theorem lvI2 {E0:bv->db->Prop}{E:bv->bv->db->Prop}{Q:bv->Unit->db->Prop}(I:Inv X pins σ H s)(hs:X.stack=X.env::X.outer)(hf:X.env.frame=some X.env.locals)(hsub:∀b o,h0.get? b=some o->b<s.heap.objs.size)(hot:Hot od h0 s.heap H e C)
  (fin:∀h' ch,(∀b∈ch,h0.get? b=none/\H b=none)->e∈ch->Un (frs X.stack) ch H H s.heap h'->HOk X.prog X.w H h'->Hot od h0 h' H e C->Q (.ref e) () {s with heap:=h'}) :
  li (o0 X.prog X.w) X.A (Df (.ref e) X.env) (λ_ s'=>Gd (o0 X.prog X.w) X.A X.env (λx s2=>li (o0 X.prog X.w) X.A (Gr X.env x) (Q x) (E x) s2) (.ref e) s') E0 s:=by
 obtain⟨oe,vs,hv,ge,gc,gd,gf,g1,ye,ue,hh⟩:=hot
 have hh':hv = .none ∨ ∃T oT ts,hv = .ref T/\T≠e/\s.heap.get? T=some oT/\oT.data = .fields ts/\ts[3]? = some .none:=by
  rcases hh with q | ⟨T,oT,ts,q1,q2,q3,q4,q5,_⟩
  ·exact .inl q
  ·exact .inr ⟨T,oT,ts,q1,q2,q3,q4,q5⟩
 refine lv2 (hs▸I.ok.frames) (hs▸I.stack) hf ge gc gd gf g1 hh' λh' T q1 ⟨oe',vs',oT',ts',f1,f2,f3,f4,f5,f6,f7,f8,f9⟩ g=>?_
 have hch:∀b∈e::(match hv with | .ref T=>[T] | _=>[]),h0.get? b=none/\H b=none:=λb hb=>by
  rcases wn.mp hb with rfl | hb
  ·exact⟨ye,ue⟩
  ·rcases hh with rfl | ⟨T,oT,ts,rfl,_,_,_,_,y,u⟩
   ·cases hb
   ·rw[wE.mp hb];exact⟨y,u⟩
 have nch:∀b,b∉e::(match hv with | .ref T=>[T] | _=>[])->b≠e/\hv ≠ .ref b:=λb hb=>⟨λz=>hb (z ▸ .head _),λz=>hb (by subst z;exact .tail _ (.head _))⟩
 have there:∀b o,s.heap.get? b=some o->∃o',h'.get? b=some o'∨b=e∨hv = .ref b:=λb o q=>by
  by_cases z1:b=e
  ·exact⟨o,.inr (.inl z1)⟩
  ·by_cases z2:hv = .ref b
   ·exact⟨o,.inr (.inr z2)⟩
   ·obtain⟨sl,q'⟩:=g.slot b o q z1 z2
    exact⟨_,.inl q'⟩
 refine fin h' _ hch (.head _) ⟨λb o q n nf nx=>g.keep b o q (nch b nx).1 (nch b nx).2 (by rw[<- hs];exact nf),λb o q n _ nx=>g.slot b o q (nch b nx).1 (nch b nx).2,λb o _ n _=>n,λb o q nx=>?_,λ_ _ q=>q,λ_ _ _ q=>q,λb ps q=>⟨#[],by rw[q];simp⟩⟩ (λa o q=>?_) ⟨oe',vs',_,f1,f2,f3,f4,f5,ye,ue,.inr ⟨T,oT',ts',rfl,f6,f7,f8,f9,?_,I.hok.fresh q1⟩⟩
 ·obtain⟨sl,q'⟩:=g.slot b o q (nch b nx).1 (nch b nx).2
  exact⟨_,q'⟩
 ·have tr:∀b o',H b=some o'->b≠e/\hv ≠ .ref b/\b∉frs (X.env::X.outer):=λb o' z=>by
   refine⟨λw=>?_,λw=>?_,λw=>?_⟩
   ·rw[w,ue]at z;cases z
   ·rcases hh with y | ⟨T,oT,ts,y,_,_,_,_,_,u⟩
    ·rw[y]at w;cases w
    ·rw[y]at w;cases w;rw[u]at z;cases z
   ·rw[<- hs]at w
    rw[I.stkFree b w]at z;cases z
  refine(I.hok a o q).stay (λb u hb z=>?_) (λ_ z=>z) λ_ _ z=>z
  have:∃o',H b=some o':=by
   rcases hb with rfl | hb
   ·exact⟨_,q⟩
   ·exact⟨_,hb⟩
  obtain⟨o',ho'⟩:=this
  obtain⟨a1,a2,a3⟩:=tr b o' ho'
  exact g.keep b u z a1 a2 a3
 ·cases z:h0.get? T with
  | none=>rfl
  | some o=>exact absurd (hsub T o z) (GL.mpr q1)
end
section
variable {P:wT}{w:Bf}{K:bi}{mg:Str->Option bv}{base:Heap}{N:List Str}{qual:Str}{scope:Cv}{f:Addr}{cd:bv}{A:Bg}{outer:List Env}{s0:db}{H0:Hp}{E:XK}
theorem zD {pins:List (Addr×Obj)}{σ:St}{H:Hp}{s:db}{e C:Addr}{od:Option Addr}(I:Inv (cxOf (CX1 P w) P w K mg base N qual scope f cd A outer s0 H0 E) pins σ H s)(hot:Hot od s0.heap s.heap H e C)(hyg:Yg s0.heap od)(he:E (odV od) (some C) H) :
  (cxOf (CX1 P w) P w K mg base N qual scope f cd A outer s0 H0 E).pz (.ref e) s:=by
 refine lvI2 I rfl rfl (λb o q=>?_) hot λh' ch hch hin un hok hot'=>?_
 ·exact xz (lc q) I.sz
 ·have lo:∀b o,s0.heap.get? b=some o->b∉ch:=λb o q z=>by rw[(hch b z).1]at q;cases q
  have nL:∀b o,s0.heap.get? b=some o->b≠s0.heap.objs.size:=λb o q=>ww (lc q)
  refine⟨e,C,od,H,rfl,I.os,I.bare,⟨λb o q n nf _=>?_,λb o q n hb _=>?_,λb o q n _=>I.base.free b o q n (λz=>nomatch z),λb o q _=>?_,I.base.tups,I.base.frzs,I.base.tbls⟩,hok,hot',hyg,he⟩
  ·refine un.keep b o (I.base.keep b o q n nf λz=>nomatch z) (I.base.free b o q n λz=>nomatch z) (λz=>?_) (lo b o q)
   rcases wn.mp z with z | z
   ·exact nL b o q z
   ·exact nf z
  ·obtain⟨sl,q'⟩:=I.base.slot b o q n hb λz=>nomatch z
   obtain⟨sl',q''⟩:=un.slot b _ q' (I.base.free b o q n λz=>nomatch z) (.tail _ hb) (lo b o q)
   exact⟨sl',q''⟩
  ·obtain⟨o',q'⟩:=I.base.there b o q λz=>nomatch z
   exact un.there b o' q' (lo b o q)
end
abbrev Cx.inFor (X:Cx):Cx:={X with xe:=X.pz}
end L2
namespace L2
theorem wG {i j:Nat}{d:D}{ρ:En}{k:En->Prop}(h:mx 2 (eE (dQ i) (eE (dQ j) gaNil)) d ρ k):∃ ρ',k ρ':=by
 cases d with
 | tup ds =>
  cases ds with
  | nil=>exact h.elim
  | cons d1 ds =>
   cases ds with
   | nil=>exact h.elim
   | cons d2 ds =>
    cases ds with
    | nil=>exact⟨_,h⟩
    | cons _ _=>exact h.elim
 | _=>exact h.elim
theorem rh {i j m:Nat}{d1 d2 d3:D}{ρ:En}{k:En->Prop}(h:k (pt (pt (pt ρ i (.vl d1)) j (.vl d2)) m (.vl d3))):mx 2 (eE (dQ i) (eE (mx 2 (eE (dQ j) (eE (dQ m) gaNil))) gaNil)) (.tup [d1,.tup [d2,d3]]) ρ k:=h
end L2
namespace L2
open PySem PySem.Spec PyProof.Rows
abbrev EnO (h:Heap)(e it:Addr)(i:Int)(old:bv)(a:Addr)(f:Bool):Prop :=
 h.get? e=some {cls:=.type "enumerate",dict:=none,data:=.fields #[BN a,.bool f,.ref it,BN i,.none,old],slots:=#[]}
section
variable {prog:wT}{w:Bf}{A:Bg}{E:bv->db->Prop}{s:db}
theorem vh {a:Addr}{o:Obj}{Q:Option Obj->db->Prop}(ho:s.heap.get? a=some o)(h:Q (some o) s):li (o0 prog w) A (loadIfAlive a) Q E s:=by
 have h':Q (s.heap.get? a) s:=by rw[ho];exact h
 exact λ_ _ _=>h'
theorem vG {e it a:Addr}{f:Bool}{oa:Obj}{fp:List Addr}{n i:Nat}{P:Nat->bv->Prop}{St:Nat->Heap->Prop}{old:bv}{Q:bv->db->Prop}
  (D:Ju prog w A it fp n P St) (he:EnO s.heap e it i old a f) (ha:s.heap.get? a=some oa) (hae:a≠e) (hai:a≠it) (hst:St i s.heap) (hlt:i<n) (hne:e≠it) (hef:e∉fp)
  (hQ:∀x h' tk,P i x->EnO h' e it ((i:Int)+1) old a true->St (i+1) h' ->
   h'.get? s.heap.objs.size=some {cls:=.type "tuple",data:=.seq #[.int i tk,x]}->h'.objs.size=s.heap.objs.size+1 ->
   (∀b o,b≠e->b≠it->s.heap.get? b=some o->h'.get? b=some o)->Q (.ref s.heap.objs.size) {s with heap:=h',toks:=tk+1}) :
  li (o0 prog w) A (Builtin.«enumerate.__next__» ⟨[.ref e],[]⟩) (λfin s'=>∃v,fin = .done (.ret v)/\Q v s') E s:=by
 obtain⟨hp,g,d,tk₀,os⟩:=s
 show li _ _ (HG (.ref e) 2>>=_) _ _ _
 refine bn (BM he rfl (x:=.ref it) rfl ?_)
 refine bn (D.item i _ _ _ hlt hst λx h₁ tk hPx hit₁ hs₁=>?_)
 replace hs₁:Bx it hp h₁:=hs₁
 have he₁:EnO h₁ e it i old a f:=(hs₁.2 e hne).trans he
 show li _ _ (HG (.ref e) 3>>=_) _ _ ⟨h₁,g,d,tk,os⟩
 refine bn (BM he₁ rfl (x:=BN i) rfl ?_)
 show li _ _ (HG (.ref e) 4>>=_) _ _ ⟨h₁,g,d,tk,os⟩
 refine bn (BM he₁ rfl (x:=.none) rfl ?_)
 show li _ _ (mkInt i>>=_) _ _ ⟨h₁,g,d,tk,os⟩
 refine bn (wpAny_mkInt ?_)
 show li _ _ (G9 (.ref e) 3 (BN ((i:Int)+1))>>=_) _ _ ⟨h₁,g,d,tk+1,os⟩
 refine bn (Cp he₁ (by simp) λh₂ he₂ hs₂=>?_)
 replace hs₂:Bx e h₁ h₂:=hs₂
 replace he₂:EnO h₂ e it ((i:Int)+1) old a f:=he₂
 show li _ _ (G9 (.ref e) 4 .none>>=_) _ _ ⟨h₂,g,d,tk+1,os⟩
 refine bn (Cp he₂ (by simp) λh₃ he₃ hs₃=>?_)
 replace hs₃:Bx e h₂ h₃:=hs₃
 replace he₃:EnO h₃ e it ((i:Int)+1) old a f:=he₃
 show li _ _ (newTuple [.int i tk,x]>>=_) _ _ ⟨h₃,g,d,tk+1,os⟩
 refine bn (wpAny_newTuple ?_)
 have he₄:EnO (h₃.push {cls:=.type "tuple",data:=.seq #[.int i tk,x]}) e it ((i:Int)+1) old a f:=dL _ he₃
 generalize hh₄:h₃.push {cls:=.type "tuple",data:=.seq #[.int i tk,x]}=h₄ at he₄
 have hsz:h₃.objs.size=hp.objs.size:=by rw[hs₃.1,hs₂.1,hs₁.1]
 have hel:e<hp.objs.size:=lc he
 have ht₄:h₄.get? hp.objs.size=some {cls:=.type "tuple",data:=.seq #[.int i tk,x]}:=by rw[<- hh₄,<- hsz];exact wv _ rfl
 have hz₄:h₄.objs.size=hp.objs.size+1:=by rw[<- hh₄,B8,hsz]
 have hk₄:∀b o,b≠e->b≠it->hp.get? b=some o->h₄.get? b=some o:=λb o hbe hbi hb=>by
  rw[<- hh₄];exact dL _ (hs₃.extBut b o hbe (hs₂.extBut b o hbe (hs₁.extBut b o hbi hb)))
 have hit₄:St (i+1) h₄:=D.frame _ _ _ hit₁ λb hb o y=>by
  have hbe:b≠e:=λq=>hef (q▸hb)
  rw[<- hh₄];exact dL _ (hs₃.extBut b o hbe (hs₂.extBut b o hbe y))
 show li _ _ (EC (.ref e)>>=_) _ _ ⟨h₄,g,d,tk+1,os⟩
 rw[hsz]
 clear hh₄ he₃ hs₃ he₂ hs₂ he₁ hs₁ hit₁ hsz h₃ h₂ h₁
 have ha₄:h₄.get? a=some oa:=hk₄ a oa hae hai ha
 refine bn ?_
 unfold EC
 refine bn (BM he₄ rfl (x:=BN a) rfl ?_)
 show li _ _ (loadIfAlive ((a:Int).toNat)>>=_) _ _ _
 rw[B4]
 refine bn (vh ha₄ ?_)
 simp only[Option.isNone_some,DC,if_false]
 refine bn (BM he₄ rfl (x:=.bool f) rfl ?_)
 have fin:∀h₅:Heap,EnO h₅ e it ((i:Int)+1) old a true->Bx e h₄ h₅->Q (.ref hp.objs.size) ⟨h₅,g,d,tk+1,os⟩:=λh₅ he₅ hs₅ =>
  hQ x h₅ tk hPx he₅ (D.frame _ _ _ hit₄ λb hb o y=>hs₅.extBut b o (λq=>hef (q▸hb)) y) (hs₅.extBut _ _ (BL hel) ht₄) (by show h₅.objs.size=hp.objs.size+1;rw[hs₅.1,hz₄]) λb o hbe hbi hb=>hs₅.extBut b o hbe (hk₄ b o hbe hbi hb)
 cases f with
 | true =>
  rw[if_neg (show ¬((Value.bool true != Value.bool true)=true)from A4)]
  refine kt ?_
  simp only[DC,if_false]
  exact kt ⟨_,rfl,fin h₄ he₄ (GP _ _)⟩
 | false =>
  rw[if_pos (show(Value.bool false != Value.bool true)=true from rfl)]
  refine bn (Cp he₄ (by simp) λh₅ he₅ hs₅=>?_)
  replace hs₅:Bx e h₄ h₅:=hs₅
  replace he₅:EnO h₅ e it ((i:Int)+1) old a true:=he₅
  refine kt ?_
  simp only[DC,if_false]
  exact kt ⟨_,rfl,fin h₅ he₅ hs₅⟩
def EnS (h:Heap)(e it:Addr)(i:Nat)(S:Addr):Prop:=(∃old,GO h e it i old) ∨ ∃old a f oa,EnO h e it i old a f/\h.get? a=some oa/\a≠e/\a≠it/\a≠S
theorem EnS.keep {h h':Heap}{e it S:Addr}{i:Nat}(x:EnS h e it i S)(hk:∀b o,b≠S->h.get? b=some o->h'.get? b=some o)(hS:e≠S):EnS h' e it i S:=by
 rcases x with⟨old,he⟩ | ⟨old,a,f,oa,he,ha,h1,h2,h3⟩
 ·exact .inl ⟨old,hk _ _ hS he⟩
 ·exact .inr ⟨old,a,f,oa,hk _ _ hS he,hk _ _ h3 ha,h1,h2,h3⟩
theorem EnS.typeIs {e it S:Addr}{i:Nat}(x:EnS s.heap e it i S):s.TypeIs (.ref e) "enumerate" := by
 rcases x with⟨old,he⟩ | ⟨old,a,f,oa,he,_⟩
 ·exact⟨_,he,rfl⟩
 ·exact⟨_,he,rfl⟩
theorem vF {e it S:Addr}{fp:List Addr}{n i:Nat}{P:Nat->bv->Prop}{St:Nat->Heap->Prop}{Q:Option bv->db->Prop}
  (D:Ju prog w A.in1 it fp n P St) (he:EnS s.heap e it i S) (hit:it<s.heap.objs.size) (hS:S<s.heap.objs.size) (hst:St i s.heap) (hlt:i<n) (hne:e≠it) (hef:e∉fp)
  (hQ:∀x h' tk,P i x->EnS h' e it (i+1) S->St (i+1) h' ->
   h'.get? s.heap.objs.size=some {cls:=.type "tuple",data:=.seq #[.int i tk,x]}->h'.objs.size=s.heap.objs.size+1 ->
   (∀b o,b≠e->b≠it->s.heap.get? b=some o->h'.get? b=some o)->Q (some (.ref s.heap.objs.size)) {s with heap:=h',toks:=tk+1}) :
  li (o0 prog w) A (DD (.ref e)) Q E s:=by
 have hT:s.TypeIs (.ref e) "enumerate" := he.typeIs
 rcases he with⟨old,he⟩ | ⟨old,a,f,oa,he,ha,h1,h2,h3⟩
 ·refine HE D he hst hlt hne hef λx h' tk hP ho hs ht hz hk=>hQ x h' tk hP (.inr ⟨x,_,false,_,?_,ht,BL (lc he),BL hit,BL hS⟩) hs ht hz hk
  have ec:((i+1:Nat):Int)=(i:Int)+1:=by omega
  rw[ec];exact ho
 ·unfold DD
  refine bn (EY (CQ (name:=Ev "__next__") hT D9
   (Ct D9 hT HC
    (vG D he ha h1 h2 hst hlt hne hef λx h' tk hP ho hs ht hz hk=>kt (hQ x h' tk hP (.inr ⟨old,a,true,oa,?_,hk a oa h1 h2 ha,h1,h2,h3⟩) hs ht hz hk)) (Hu _))))
  have ec:((i+1:Nat):Int)=(i:Int)+1:=by omega
  rw[ec];exact ho
theorem yf {e it S:Addr}{fp:List Addr}{n i:Nat}{P:Nat->bv->Prop}{St:Nat->Heap->Prop}{Q:Option bv->db->Prop}
  (D:Ju prog w A.in1 it fp n P St) (he:EnS s.heap e it i S) (hst:St n s.heap)
  (hQ:∀h',JM it s.heap h'->Q none {s with heap:=h'}):li (o0 prog w) A (DD (.ref e)) Q E s:=by
 have hT:s.TypeIs (.ref e) "enumerate" := he.typeIs
 rcases he with⟨old,he⟩ | ⟨old,a,f,oa,he,ha,h1,h2,h3⟩
 ·exact H_ D he hst hQ
 ·unfold DD
  refine bn (EY (CQ (name:=Ev "__next__") hT D9
   (Ct D9 hT HC ?_ (Hu _))))
  show li _ _ (HG (.ref e) 2>>=_) _ _ _
  refine bn (BM he rfl (x:=.ref it) rfl ?_)
  refine bn (D.done _ _ _ hst λh' x he' hx'=>?_)
  obtain⟨o,ho,hc⟩:=hx'
  refine bn (Fa (T := "StopIteration") (b:=true) ⟨o,ho,hc⟩ Ha ?_)
  exact kt (hQ _ he')
end
structure LeG (P:Nat->bv->Prop)(lo:Addr)(h:Heap)(as:List Addr):Prop where
 rise:as.Pairwise (· < ·)
 above:∀a∈as,lo<a
 pairs:∀(j:Nat) (a:Addr),as[j]? = some a->∃tk x,P j x/\h.get? a=some {cls:=.type "tuple",data:=.seq #[.int j tk,x]}
theorem LeG.there {P:Nat->bv->Prop}{lo:Addr}{h:Heap}{as:List Addr}(g:LeG P lo h as){a:Addr}(ha:a∈as):a<h.objs.size:=by
 obtain⟨j,hj⟩:=List.mem_iff_getElem?.mp ha
 obtain⟨_,_,_,e⟩:=g.pairs j a hj
 exact lc e
section
variable {prog:wT}{w:Bf}{A:Bg}{s:db}{R:D3->db->Prop}
theorem xS {S e it:Addr}{fp:List Addr}{n:Nat}{P:Nat->bv->Prop}{St:Nat->Heap->Prop}(D:Ju prog w A.in1.in1 it fp n P St)(heS:e<S)(hiS:it<S)(hne:e≠it)(hef:e∉fp)(hSf:S∉fp)(hn:n<=xL)(res:bv){h₁:Heap}
  (hR:∀h' tk acc c as,(∀b o,b≠S->b≠e->b≠it->h₁.get? b=some o->h'.get? b=some o)->h'.get? S=some {cls:=.type "list",dict:=none,data:=.seq acc c,slots:=#[]}->as.length=n->LeG P S h' as ->
   acc.toList=as.map Value.ref->R (.ok (.ret res)) {s with heap:=h',toks:=tk}) :
  ∀(k i:Nat) (h:Heap) (tk c:Nat) (acc:Array bv) (as:List Addr),n - i=k->i<=n->EnS h e it i S->St i h->(∀b o,b≠S->b≠e->b≠it->h₁.get? b=some o->h.get? b=some o) ->
   h.get? S=some {cls:=.type "list",dict:=none,data:=.seq acc c,slots:=#[]}->acc.toList=as.map Value.ref->as.length=i->LeG P S h as ->
   B7 (o0 prog w) A (.builtin "list.extend.loop" ⟨[.ref S,.ref e,res],[]⟩) R {s with heap:=h,toks:=tk}:=by
 intro k
 induction k with
 | zero =>
  intro i h tk c acc as hk hi hst hD hkeep hS hacc hal hG
  have hin:i=n:=by omega
  subst hin
  refine Fo Gj ?_
  rw[DT C0 _]
  show li _ A.in1 (DD (.ref e)>>=_) _ _ _
  refine bn (yf (s:={s with heap:=h,toks:=tk}) (A:=A.in1) D hst hD λh' he=>?_)
  refine kt (hR h' tk acc c as (λb o h1 h2 h3 e=>he b o h3 (hkeep b o h1 h2 h3 e)) (he S _ (BL hiS) hS) hal ⟨hG.rise,hG.above,λj a hj=>?_⟩ hacc)
  obtain⟨t,x,e1,e3⟩:=hG.pairs j a hj
  exact⟨t,x,e1,he a _ (BL (CU hiS (hG.above a (BC hj)))) e3⟩
 | succ k ih =>
  intro i h tk c acc as hk hi hst hD hkeep hS hacc hal hG
  have hlt:i<n:=by omega
  have hsz:acc.size=i:=by rw[<- Cz,hacc,lw,hal]
  have hSl:S<h.objs.size:=lc hS
  refine Fo Gj ?_
  rw[DT C0 _]
  show li _ A.in1 (DD (.ref e)>>=_) _ _ _
  refine bn (vF (s:={s with heap:=h,toks:=tk}) (A:=A.in1) (S:=S) D hst (CU hiS hSl) hSl hD hlt hne hef λx h' tk' hP hst' hD' ht hz hkp=>?_)
  dsimp only at ht hz hkp ⊢
  have hS':=hkp S _ (BL heS) (BL hiS) hS
  have up:∀b o,b≠S->h'.get? b=some o->(h'.update S (Cd (·.push (Value.ref h.objs.size)))).get? b=some o:=λb o hb e=>(AC _ _ (B_ hb)).trans e
  show li _ A.in1 (FO S (·.push (Value.ref h.objs.size))>>=_) _ _ _
  refine bn ?_
  refine DH hS' rfl (kt ⟨EZ C0 _,ih (i+1) _ (tk'+1) _ (acc.push (Value.ref h.objs.size)) (as++[h.objs.size]) (by omega) hlt (hst'.keep up (ww heS)) (D.frame _ _ _ hD' λb hb o e=>up b o (λq=>hSf (q▸hb)) e)
   (λb o h1 h2 h3 e=>up b o h1 (hkp b o h2 h3 (hkeep b o h1 h2 h3 e))) (Bk _ hS' rfl) (by rw[FN,hacc,Br];rfl) (by rw[A2,hal];rfl) ⟨?_,?_,?_⟩⟩) (by rw[hsz];omega) (by show(acc.push (Value.ref h.objs.size)).size<=xL+1;rw[Array.size_push,hsz];omega)
  ·refine Ff.mpr ⟨hG.rise,List.pairwise_singleton _ _,λa ha b hb=>?_⟩
   rw[wE.mp hb]
   exact hG.there ha
  ·intro a ha
   rcases Bq.mp ha with ha | ha
   ·exact hG.above a ha
   ·rw[wE.mp ha];exact hSl
  ·intro j b hj
   rcases CK j as.length with h1 | h1 | h1
   ·rw[Bi h1]at hj
    obtain⟨t,x',e1,e3⟩:=hG.pairs j b hj
    have hb:=hG.above b (BC hj)
    exact⟨t,x',e1,up b _ (BL hb) (hkp b _ (BL (CU heS hb)) (BL (CU hiS hb)) e3)⟩
   ·subst h1
    have hb:h.objs.size=b:=by simpa using hj
    subst hb
    exact⟨tk',x,by rw[hal];exact hP,by rw[hal];exact up _ _ (BL hSl) ht⟩
   ·have hnone:(as++[h.objs.size])[j]? = none:=CB (by rw[A2,DP];omega)
    rw[hnone]at hj;cases hj
end
theorem n6:Ga (.type "enumerate") "__len__" = pure none:=by rw[Fn,Ea];kernel_rfl
theorem mC:Ga (.type "enumerate") "__length_hint__" = pure none:=by rw[Fn,Ea];kernel_rfl
section
variable {prog:wT}{w:Bf}{A:Bg}{E:bv->db->Prop}{s:db}
theorem xT {e it:Addr}{fp:List Addr}{n:Nat}{P:Nat->bv->Prop}{St:Nat->Heap->Prop}{old:bv}{Q:bv->db->Prop}(D:Ju prog w A.in1.in1.in1 it fp n P St)(he:GO s.heap e it 0 old)(hit:it<s.heap.objs.size)(hst:St 0 s.heap)(hne:e≠it)(hef:e∉fp)(hfp:∀b∈fp,b<s.heap.objs.size)(hn:n<=xL)
  (hQ:∀h' tk acc c as,(∀b o,b≠e->b≠it->s.heap.get? b=some o->h'.get? b=some o)->h'.get? s.heap.objs.size=some {cls:=.type "list",dict:=none,data:=.seq acc c,slots:=#[]}->as.length=n->LeG P s.heap.objs.size h' as ->
   acc.toList=as.map Value.ref->Q (.ref s.heap.objs.size) {s with heap:=h',toks:=tk}) :
  li (o0 prog w) A (call (.type "list") [.ref e]) Q E s:=by
 refine callType_codes (Q₁:=λobj s₁=>obj = .ref s.heap.objs.size/\s₁={s with heap:=s.heap.push {cls:=.type "list",data:=.seq #[]}}) PySem.F.called_list (PySem.F.typeCall_list_1 _) PySem.F.entry_list_init
  (code_list_new _ ⟨rfl,rfl⟩) λobj s₁ h₁=>?_
 obtain⟨rfl,rfl⟩:=h₁
 have hel:e<s.heap.objs.size:=lc he
 have hS:(s.heap.push {cls:=.type "list",data:=.seq #[]}).get? s.heap.objs.size=some {cls:=.type "list",data:=.seq #[]}:=wv _ rfl
 have old1:∀b o,s.heap.get? b=some o->(s.heap.push {cls:=.type "list",data:=.seq #[]}).get? b=some o:=λb o e=>dL _ e
 have lts:∀b o,s.heap.get? b=some o->b≠s.heap.objs.size:=λb o e=>ww (lc e)
 refine⟨⟨_,hS,rfl⟩,PySem.F.args_list_init_2 _ _,?_⟩
 generalize hS0:s.heap.objs.size=S at hS hit hfp hQ hel lts ⊢
 generalize hh1:s.heap.push {cls:=.type "list",data:=.seq #[]}=hp1 at hS old1 ⊢
 show li _ _ (do let old <- F_ (.ref S);J8 (.ref S) (λ_=>#[]);letGo old.toList.reverse;Cg (.ref S) (.ref e) .none) _ _ _
 refine bn ?_
 unfold F_
 refine bn (FD hS rfl (kt ?_))
 show li _ _ (FO S (λ_=>#[])>>=λ_=>letGo (#[]:Array bv).toList.reverse>>=λ_=>Cg (.ref S) (.ref e) .none) _ _ _
 refine bn (DH hS rfl ?_)
 have hS₂:=Bk (Cd (λ_=>(#[]:Array bv))) hS rfl
 have oth:∀b o,b≠S->hp1.get? b=some o->(hp1.update S (Cd (λ_=>(#[]:Array bv)))).get? b=some o :=
  λb o hb e=>(AC _ _ (B_ hb)).trans e
 refine bn (wpAny_letGo ?_)
 generalize hp1.update S (Cd (λ_=>(#[]:Array bv)))=hp2 at hS₂ oth ⊢
 have old2:∀b o,s.heap.get? b=some o->hp2.get? b=some o:=λb o e=>oth b o (lts b o e) (old1 b o e)
 have he2:GO hp2 e it 0 old:=old2 _ _ he
 have hT2:Shared.TypeIs {s with heap:=hp2} (.ref e) "enumerate" := ⟨_,he2,rfl⟩
 unfold Cg
 refine bn (HZ hT2 ?_)
 have h1:Do (.ref S) (.ref e)=false:=by simp[Do,BL hel]
 have h2:(Value.type "enumerate" == Value.type "list")=false:=by decide
 have h3:(Value.type "enumerate" == Value.type "tuple")=false:=by decide
 simp only[h1,h2,h3,Fx,DC,if_false]
 refine bn (DU he2 ?_)
 refine bn (C2 ?_)
 unfold DO
 refine bn (Fm hT2 n6 ?_)
 show li _ _ (specialOf (Value.ref e) (Ev "__length_hint__")>>=_) _ _ _
 refine bn (Fm hT2 mC ?_)
 refine kt ?_
 show li _ _ (rule "list.extend.makes-room" >>= λ_=>J9 (.ref S)>>=λ_ =>
  HL (.builtin "list.extend.loop" ⟨[.ref S,.ref e,.none],[]⟩)) _ _ _
 refine bn (C6 ?_)
 refine bn ?_
 show li _ _ (FO S (·.push .none)>>=λ_=>FO S (·.pop)) _ _ _
 refine bn (DH hS₂ rfl ?_)
 have hS₃:=Bk (Cd (·.push Value.none)) hS₂ rfl
 refine DH (hz:=by seq_fits) hS₃ rfl ?_
 have hS₄:=Bk (Cd (·.pop)) hS₃ rfl
 have oth4:∀b o,b≠S->hp2.get? b=some o->((hp2.update S (Cd (·.push Value.none))).update S (Cd (·.pop))).get? b=some o :=
  λb o hb e=>(AC _ _ (B_ hb)).trans ((AC _ _ (B_ hb)).trans e)
 generalize (hp2.update S (Cd (·.push Value.none))).update S (Cd (·.pop))=hp4 at hS₄ oth4 ⊢
 have old4:∀b o,s.heap.get? b=some o->hp4.get? b=some o:=λb o e=>oth4 b o (lts b o e) (old2 b o e)
 refine kt ⟨EZ C0 _,?_⟩
 refine xS (s:=s) (h₁:=s.heap) D hel hit hne hef (λq=>De _ (hfp _ q)) hn .none (λh' tk acc c as hk hS' hl hG hacc=>?_) n 0 hp4 s.toks _ #[] [] (F3 _) (Bl _) (.inl ⟨old,old4 _ _ he⟩) (D.frame _ _ _ hst λb hb o e=>old4 b o e) (λb o _ _ _ e=>old4 b o e) hS₄ rfl rfl
  ⟨List.Pairwise.nil,(λ_ ha=>nomatch ha),(λj a hj=>by simp at hj)⟩
 exact⟨rfl,hQ h' tk acc c as (λb o h1 h2 e=>hk b o (lts b o e) h1 h2 e) hS' hl hG hacc⟩
end
theorem jZ {X:Cx}{pins:List (Addr×Obj)}{σ:St}{s:db}{H1:Hp}{lo:Addr}(fp:∀b,lo<=b->FpOk X pins H1 b):∀(as:List Addr) (xs:List V) (k:Nat) (H:Hp),Inv X pins σ H s->as.Pairwise (· < ·)->(∀a∈as,lo<=a)->(∀a∈as,H a=none) ->
  (∀j a,as[j]? = some a->∃tk x u,xs[j]? = some x/\RelV x u/\s.heap.get? a=some {cls:=.type "tuple",data:=.seq #[.int ((k+j:Nat):Int) tk,u]}) ->
  ∃H',Inv X pins σ H' s/\Same H H'/\(∀j a,as[j]? = some a->∃x,xs[j]? = some x/\H' a=some (.tup [.int ((k+j:Nat):Int),x]))/\∀b,b∉as->H' b=H b
 | [],xs,k,H,I,_,_,_,_=>⟨H,I,.refl _,(λj a h=>by simp at h),λ_ _=>rfl⟩
 | a::as,xs,k,H,I,hp,hl,hn,ht=>by
  obtain⟨tk,x,u,ex,ru,eu⟩:=ht 0 a rfl
  have ea:=hn a Bj
  have hp':=CC.mp hp
  have ne:∀b∈as,b≠a:=λb hb=>BL (hp'.1 b hb)
  have I2:=I.trackO (p:=a) (o:=.tup [.int ((k:Nat):Int),x]) ⟨ea,(fp a (hl a Bj)).2⟩ ⟨by show 2<=xL;decide,[.int ((k:Nat):Int) tk,u],.cons ⟨_,rfl⟩ (.cons ru .nil),_,eu,rfl,_,rfl⟩
  cases xs with
  | nil=>simp at ex
  | cons x0 xs =>
   simp only[DF,BG]at ex
   subst ex
   obtain⟨H',J1,J2,J3,J4⟩:=jZ fp as xs (k+1) _ I2 hp'.2 (λb hb=>hl b (Be _ hb)) (λb hb=>by rw[aL (ne b hb)];exact hn b (Be _ hb)) (λj b hj=>by
    obtain⟨tk,x,u,e1,e2,e3⟩:=ht (j+1) b (by simpa using hj)
    exact⟨tk,x,u,by simpa using e1,e2,by rw[show k+1+j=k+(j+1)by omega];exact e3⟩)
   refine⟨H',J1,λb o e=>J2 b o (by rw[aL (a_ e ea)];exact e),λj b hj=>?_,λb hb=>?_⟩
   ·cases j with
    | zero =>
     simp only[DF,BG]at hj
     subst hj
     exact⟨x0,rfl,J2 a _ aQ⟩
    | succ j =>
     obtain⟨x,e1,e2⟩:=J3 j b (by simpa using hj)
     exact⟨x,by simpa using e1,by rw[show k+(j+1)=k+1+j by omega];exact e2⟩
   ·have nb:b≠a:=λz=>hb (z▸Bj)
    rw[J4 b (λz=>hb (Be _ z)),aL nb]
def tLsE (K:bi)(t:TA):TE:=λσ H Q=>t σ H λvs H1=>∃l xs,vs=[.ref l]/\SqT K H1 l xs/\∀ys H0 p,Same H1 H0->ys.length=xs.length ->
 (∀j x,xs[j]? = some x->∃q,ys[j]? = some (.ref q)/\H1 q=none/\H0 q=some (.tup [.int (j:Nat),x]))->H0 p=none->Q (.ref p) (upd H0 p (.lst ys))
theorem zf (K:bi){X:Cx}{a:Expr}{ta:TA}{p1 p2 pos1 pos2:Pos}(hc:X.calm=true)(hg1:Gl X "list")(hm1:X.mg "list" = none)(hg2:Gl X "enumerate")(hm2:X.mg "enumerate" = none)(ha:PA X [a] ta)(hK:X.K=K:=by rfl)
  (hs1:Ba [.Call (.Name "enumerate" p2) [a] [] pos2] X.env=[(false,eval (.Call (.Name "enumerate" p2) [a] [] pos2) X.env)]:=by rfl) (hs2:Ba [a] X.env=[(false,eval a X.env)]:=by rfl) :
  PE X (.Call (.Name "list" p1) [.Call (.Name "enumerate" p2) [a] [] pos2] [] pos1) (tLsE K ta):=by
 subst hK
 intro pins s σ H Q I h
 refine IJ (fX I hg1 hm1 oy (B0 ?_ hs1 rfl))
 rw[hs1]
 show li _ _ (Jl [(false,eval (.Call (.Name "enumerate" p2) [a] [] pos2) X.env)]) _ _ s
 refine CW ?_
 refine IJ (fX I hg2 hm2 fD (B0 (thn (ha pos2 pins s σ H _ I h) λus s1 ⟨vs,H1,I1,r1,q1⟩=>?_) hs2 rfl))
 obtain⟨l,xs,rfl,h1,q⟩:=q1
 obtain⟨u,rfl,ru⟩:=iC r1
 cases ru
 obtain⟨its,rv,p1,hz⟩:=I1.tuple h1
 have lt:l<s1.heap.objs.size:=by obtain⟨o,e,_⟩:=id p1;exact lc e
 refine kE p1 λh' he hi hsz hk=>Dl ?_
 have pt1:h'.IsTuple l its.toArray:=by obtain⟨o,e,r⟩:=p1;exact⟨o,hk _ _ e,r⟩
 have nl:l≠s1.heap.objs.size:=ww lt
 have nel:s1.heap.objs.size+1≠l:=B_ (ww (EI lt))
 have ltI:s1.heap.objs.size<h'.objs.size:=by rw[hsz];exact Nat.lt_add_of_pos_right (by decide)
 have e0:GO h' (s1.heap.objs.size+1) s1.heap.objs.size ((0:Nat):Int) .none:=he
 refine xT (s:={s1 with heap:=h'}) (jI (show X.A.in1.in1.in1.handled=none from I1.ok.hd hc) s1.heap.objs.size l nl its.toArray) he ltI ⟨hi,pt1⟩ (ID _) (λz=>by
  simp only[wn,BD,or_false]at z
  rcases z with z | z
  ·exact ID _ z
  ·exact nel z) (λb hb=>?_) (by rw[sB,<- rv.length];exact hz) λh2 tk acc c as hk2 hS hl hG hacc=>?_
 ·show b<h'.objs.size
  simp only[wn,BD,or_false]at hb
  rcases hb with rfl | rfl
  ·exact ltI
  ·exact CU lt ltI
 ·have hle:s1.heap.objs.size<=h'.objs.size:=by omega
  have hS':h2.get? h'.objs.size=some {cls:=.type "list",dict:=none,data:=.seq acc c,slots:=#[]}:=hS
  have le0:∀b,s1.heap.objs.size<=b->FpOk X pins H1 b:=λb hb=>I1.fpOk hb (I1.hok.fresh hb)
  have I2:Inv X pins σ H1 {s1 with heap:=h'}:=I1.kept (t':=s1.toks) hk
  have I3:Inv X pins σ H1 {s1 with heap:=h2,toks:=tk}:=Inv.turns (s:={s1 with heap:=h'}) (ch:=[s1.heap.objs.size+1,s1.heap.objs.size]) (t':=tk) I2 (λb o hb e=>by
   simp only[wn,BD,or_false,not_or]at hb
   exact hk2 b o hb.1 hb.2 e) (λb hb=>le0 b (by
    simp only[wn,BD,or_false]at hb
    rcases hb with rfl | rfl
    ·exact EJ _
    ·exact wl _))
  have abv:∀b∈as,h'.objs.size<b:=hG.above
  obtain⟨H0,J1,J2,J3,J4⟩:=jZ (lo:=s1.heap.objs.size) le0 as xs 0 H1 I3 hG.rise (λb hb=>A_ hle (BZ (abv b hb))) (λb hb=>I1.hok.fresh (A_ hle (BZ (abv b hb)))) (λj b hj=>by
   obtain⟨t,x,e1,e2⟩:=hG.pairs j b hj
   have e1':its[j]? = some x:=by simpa using e1
   have hjl:j<xs.length:=by rw[rv.length];exact(sK.mp e1').1
   obtain⟨u,hu,ru⟩:=rv.get (im hjl)
   rw[e1']at hu
   cases hu
   exact⟨t,xs[j],x,im hjl,ru,by rw[Cb];exact e2⟩)
  have nS:h'.objs.size∉as:=λz=>De _ (abv _ z)
  have f0:=le0 h'.objs.size (by omega)
  have n0:H0 h'.objs.size=none:=by rw[J4 _ nS];exact f0.1
  have hal:as.length=xs.length:=by rw[hl,sB,<- rv.length]
  have vr:∀l:List Addr,Vals (l.map V.ref) (l.map Value.ref):=λl=>by
   induction l with
   | nil=>exact .nil
   | cons a l ih=>exact .cons rfl ih
  have I4:=J1.track (D:=h'.objs.size) (ys:=as.map V.ref) (its:=acc.toList) (n:=c) n0 (A_ I1.sz (by omega)) f0.2.1 f0.2.2.2.2.1 f0.2.2.2.2.2 (by rw[lw,hal];exact hz) (by rw[hacc];exact vr as) (by simpa using hS')
  refine⟨.ref h'.objs.size,_,I4,rfl,q _ H0 _ J2 (by rw[lw,hal]) (λj x hx=>?_) n0⟩
  have hj:j<as.length:=by rw[hal];exact(sK.mp hx).1
  obtain⟨x',e1,e2⟩:=J3 j as[j] (im hj)
  rw[hx]at e1
  cases e1
  rw[Cb]at e2
  refine⟨as[j],by rw[wP,im hj];rfl,I1.hok.fresh (A_ hle (BZ (abv as[j] (DS hj)))),e2⟩
section
variable {K:bi}{ts:TA}{as:AA}
def aLsE (as:AA):AE:=λρ q=>as ρ λrs ρ1=>match rs with
 | [.d (.tup ds)]=>q (.n (.ow (di 0 ds))) ρ1
 | _=>False
theorem oZ {H1 H0:Hp}:∀ {vs:List V} {ds:List D} {ys:List V} {b:Nat},RepDs K H1 vs ds->ys.length=vs.length->(∀j x,vs[j]? = some x->∃q,ys[j]? = some (.ref q)/\H0 q=some (.tup [.int ((b+j:Nat):Int),x]))->(∀a o,H1 a=some o->H0 a=some o)->RepDs K H0 ys (di b ds)
 | [],[],ys,b,_,hl,_,_=>by
  cases ys with
  | nil=>exact .nil
  | cons _ _=>simp at hl
 | v::vs,d::ds,ys,b,r,hl,hy,sm=>by
  cases ys with
  | nil=>simp at hl
  | cons y ys =>
   unfold RepDs at r
   obtain⟨q,e1,e2⟩:=hy 0 v rfl
   simp only[DF,BG]at e1
   subst e1
   refine .cons ?_ (oZ (b:=b+1) r.2 (by simpa using hl) (λj x hx=>?_) sm)
   ·unfold RepD
    exact⟨q,[.int (b:Nat),v],rfl,e2,.cons (by unfold RepD;rfl) (.cons (r.1.same sm) .nil)⟩
   ·obtain⟨q',e3,e4⟩:=hy (j+1) x (by simpa using hx)
    exact⟨q',by simpa using e3,by rw[show b+1+j=b+(j+1)by omega];exact e4⟩
 | [],_::_,_,_,r,_,_,_=>by unfold RepDs at r;exact r.elim
 | _::_,[],_,_,r,_,_,_=>by unfold RepDs at r;exact r.elim
theorem w6 (h:TAok K ts as):TEok K (tLsE K ts) (aLsE as):=by
 intro F σ ρ H q Q r ha k
 refine h F σ ρ H _ _ r ha λrs ρ1 vs H1 h1 r1 i1 k1=>?_
 split at h1
 ·rename_i ds
  obtain⟨x,rfl,ix⟩:=i1.one
  have rd:RepD K _ x (.tup ds):=ix
  unfold RepD at rd
  obtain⟨a,vs,rfl,sq,rd⟩:=rd
  refine⟨a,vs,rfl,bV.seqT sq.sq,λys H0 p sm hl hy hp=>?_⟩
  have k0:Kp σ ρ1 ρ1 H1 H0:=⟨λa o e _=>sm a o e,λ_ h=>h⟩
  have hv:∀ {b},H1 b=none->¬hs F σ ρ1 b:=λ{b} e z=>pM r1 z e
  refine k (.n (.ow (di 0 ds))) ρ1 _ _ h1 ⟨H0,p,_,r1.grow sm,k1.trans k0,rfl,⟨p,ys,rfl,aQ,?_⟩,hp,rfl,rfl⟩
  refine oZ rd hl (λj x hx=>?_) k0.vis
  obtain⟨q',e1,e2,e3⟩:=hy j x hx
  exact⟨q',e1,eD (hv e2) (by rw[Cb];exact e3)⟩
 ·exact h1.elim
end
section
variable {P:wT}{w:Bf}{A:Bg}{R:D3->db->Prop}{s:db}
theorem mH {kx vx tg iter:Expr}{ifs:List Expr}{scope:Cv}{pos:Pos}{it:bv}{D:Addr}{env:Env}(J:Nat->db->Prop)
  (turn:∀n s,J n s->li (o0 P w) A (DD it) (λr s1=>match r with
   | none=>R (.ok .next) s1
   | some v=>li (o0 P w) A (Cn tg it v) (λ_ s2=>li (o0 P w) A (Di tg env v) (λ_ s3 =>
     li (o0 P w) A (forIn ifs true λc r=>if r=true then do let ok <- ER c env (eval c env);pure (ForInStep.yield ok)else pure (ForInStep.yield r)) (λok s4 =>
      if ok=true then li (o0 P w) A (eval kx env) (λkv s5=>li (o0 P w) A (eval vx env) (λvv s6=>li (o0 P w) A (dictSet D kv vv) (λ_ s7=>∃m,m<n/\J m s7) (λ_ _=>False) s6) (λ_ _=>False) s5) (λ_ _=>False) s4
      else ∃m,m<n/\J m s4) (λ_ _=>False) s3) (λ_ _=>False) s2) (λ_ _=>False) s1) (λ_ _=>False) s)
  (n:Nat) (h:J n s):B7 (o0 P w) A (.compLoop (.DictComp kx vx [⟨tg,iter,ifs,0⟩] scope pos) 0 it (.ref D) env) R s:=by
 have no:∀ {α:Type} {t:Sem α} {Q Q':α->db->Prop} {E:bv->db->Prop} {s:db},li (o0 P w) A t Q (λ_ _=>False) s->(∀a s,Q a s->Q' a s)->li (o0 P w) A t Q' E s :=
  λh hq=>BB h hq λ_ _ f=>f.elim
 refine Fi rfl J (λn s hJ=>?_) n h
 show li _ A ((Fb (.DictComp kx vx [⟨tg,iter,ifs,0⟩] scope pos) 0 it (.ref D) env).onRaise (λx=>do Df x env;Ez x)) _ _ s
 refine FE ?_
 rw[compTurn_dict]
 refine bn (B3 (bn (no (turn n s hJ) λr s1 h1=>?_)))
 cases r with
 | none=>exact kt h1
 | some v =>
  refine bn (no h1 λ_ s2 h2=>bn (no h2 λ_ s3 h3=>bn (no h3 λok s4 h4=>?_)))
  cases ok with
  | false=>exact kt ⟨rfl,h4⟩
  | true=>exact bn (bn (no h4 λx s5 h5=>bn (C2 (no h5 λy s6 h6=>bn (B3 (C2 (no h6 λ_ s7 h7=>kt ⟨rfl,h7⟩)))))))
end
def wO (J:It)(n:Nat)(js:List Nat)(g:TG)(tc:TT)(tk tv:TE)(Q:VK)(σ:St)(H1:Hp):Prop:=∃W:Nat->Nat->List (Key×V)->Hp->Prop,(∃m,W 0 m [] H1)/\∀i m ys H,W i m ys H ->
 (J.stop i H/\ys.length<=xL/\∀l,H l=none->Q (.ref l) (upd H l (.dK ys))) ∨
 (J.go i H/\ys.length<xL/\∃N:List (Key×V)->Hp->Prop,(∀zs H',N zs H'->∃m',m'<m/\W (i+1) m' zs H')/\∀x H',J.yld i H x H'->g x (bst n σ js) H' λσ2 H2=>σ2.drop n=capt σ js/\tc σ2 H2 λb H3 =>
  if b=true then tk σ2 H3 λkv H4=>tv σ2 H4 λv H5=>∃k,kv=kV k/\N (putK ys k v) H5 else N ys H3)
def lN (n:Nat)(js:List Nat)(wi:TI)(g:TG)(tc:TT)(tk tv:TE):TE:=λσ H Q=>wi σ H λJ H1=>wO J n js g tc tk tv Q σ H1
section
variable {X:Cx}
theorem jK {kx vx tg iter:Expr}{ifs:List Expr}{scope:Cv}{pos:Pos}{own:List Str}{js:List Nat}{g:TG}{tc:TT}{tk tv:TE}{Q:VK}{pins:List (Addr×Obj)}{σ:St}{s2:db}{itv:bv}{E:bv->db->Prop}
  {RR:bv->Addr->D3->db->Prop} (hc:X.calm=true) (B:Blk X scope own js) (hg:∀s H C fp,(own++capN X.N js).Nodup->PG (blk X scope (own++capN X.N js) s H C fp) tg g) (ht:∀s H C fp,PTs (blk X scope (own++capN X.N js) s H C fp) ifs tc)
  (hk:∀s H C fp,PE (blk X scope (own++capN X.N js) s H C fp) kx tk) (hv:∀s H C fp,PE (blk X scope (own++capN X.N js) s H C fp) vx tv)
  (h:PIE X pins σ tg (λJ H1=>wO J own.length js g tc tk tv Q σ H1) itv s2)
  (hR:∀C acc s',um X pins σ Q C acc s'->RR acc C (.ok .next) s') :
  li (o0 X.prog X.w) X.A newDict (λacc s3=>li (o0 X.prog X.w) X.A (FG scope X.env.globals (cG scope X.env) [] X.env.qual none .none (some X.env)) (λcenv s4 =>
   B7 (o0 X.prog X.w) X.A (.compStart (.DictComp kx vx [⟨tg,iter,ifs,0⟩] scope pos) 0 itv acc {cenv with scope:=FP scope X.env}) (RR acc cenv.locals) s4) E s3) E s2:=by
 obtain⟨it,fp,tn,J,H2,rfl,I2,T,st2,f2,W,⟨m0,w0⟩,turn⟩:=h
 refine B5 (Er B.nocell (by intro y hy;simp at hy) (λh1 hns1 hsb1=>?_) B.kind)
 have hnew:(s2.heap.push {cls:=.type "dict",dict:=none,data:=.dict #[]}).DictOf (bA X.prog X.w) s2.heap.objs.size []:=G5 s2.heap
 generalize hPu:s2.heap.push {cls:=.type "dict",dict:=none,data:=.dict #[]}=Pu at hns1 hsb1 hnew ⊢
 dsimp only at hns1 hsb1 ⊢
 have hDC:Pu.objs.size=s2.heap.objs.size+1:=by rw[<- hPu,B8]
 have hbig:=I2.big
 generalize hD:s2.heap.objs.size=D at hDC hnew hbig ⊢
 generalize hC:Pu.objs.size=C at hns1 hsb1 hDC ⊢
 have ltDC:D<C:=by rw[hDC];exact CV D
 have neDC:D≠C:=ww ltDC
 have keep1:∀b o,s2.heap.get? b=some o->h1.get? b=some o:=λb o e=>by
  have hb:b<D:=by rw[<- hD];exact lc e
  have hb2:b≠C:=ww (CU hb ltDC)
  refine(hsb1.2 b hb2).trans (dL _ ?_)
  rw[<- hPu]
  exact dL _ e
 have gD1:h1.DictOf (bA X.prog X.w) D []:=hnew.at λo e=>(hsb1.2 D neDC).trans (dL _ e)
 have szD:s2.heap.objs.size<=D:=Ey hD
 have szC:s2.heap.objs.size<=C:=A_ szD (BZ ltDC)
 have old:∀ {b:Addr},b<s2.heap.objs.size->b≠D/\b≠C:=λhb=>⟨ww (xz hb szD),ww (xz hb szC)⟩
 have fpo:∀b∈fp,∃o,s2.heap.get? b=some o:=λb hb=>let ⟨o,e,_⟩:=T.obj 0 _ st2 b hb;⟨o,e⟩
 have fpD:∀b∈fp,b≠D/\b≠C:=λb hb=>by
  obtain⟨o,e⟩:=fpo b hb
  exact old (lc e)
 have clD:∀x d,X.env.cells.lookup x=some d->d≠D/\d≠C:=λx d e=>by
  obtain⟨v,o,ho,_⟩:=I2.cell x d e
  exact old (lc ho)
 have pinD:∀p∈X.pn++pins,p.1≠D/\p.1≠C:=λp hp=>by
  exact old (lc (I2.pin p hp).1)
 have locD:D≠X.env.locals/\C≠X.env.locals:=by
  exact⟨(old I2.lt).1.symm,(old I2.lt).2.symm⟩
 let Y:=blk X scope (own++capN X.N js) s2 H2 C fp
 have IB:Inv Y [] (bst own.length σ js) H2 {s2 with heap:=h1,toks:=s2.toks+([]:List (Str×bv)).length}:=lF B I2 f2 fpo szC hns1 keep1
 have fpB:∀ {H':Hp} {pl:List (Addr×Obj)},(∀b∈fp,H' b=none)->(∀p∈pl,p.1=D)->∀b∈fp,FpOk Y pl H' b:=λ{H' pl} hn hp b hb=>by
  obtain⟨f0,f1,f3,f4,f5,f6⟩:=f2 b hb
  refine⟨hn b hb,(fpD b hb).2,λz=>?_,.inl hb,λx c e=>f5 x c (b9 e),λp q=>?_⟩
  ·rcases wn.mp (I2.stkSub b z)with z | z
   ·exact f1 z
   ·exact f3 z
  ·have q':p∈pl:=by simpa [Y,blk] using q
   rw[hp p q']
   exact(fpD b hb).1.symm
 have clB:∀x d,Y.env.cells.lookup x=some d->d≠D:=λx d e=>(clD x d (b9 e)).1
 have notFs:D∉Y.fs:=λz=>by
  obtain⟨_,o,ho,_⟩:=IB.ok.funs.mem z
  exact(old (lc (show s2.heap.get? D=some o from ho))).1 rfl
 have loop:∀s3:db,s3={s2 with heap:=h1,toks:=s2.toks+([]:List (Str×bv)).length} ->
   B7 (o0 X.prog X.w) X.A (.compLoop (.DictComp kx vx [⟨tg,iter,ifs,0⟩] scope pos) 0 (.ref it) (.ref D) (He scope (cG scope X.env) C X.env)) (RR (.ref D) C) s3:=by
  rintro s3 rfl
  refine mH (λn s'=>∃(i:Nat) (ys:List (Key×V)) (vs:List (Key×bv)) (H':Hp),Inv Y [] (bst own.length σ js) H' s'/\tn i s'.heap/\(∀b∈fp,H' b=none)/\H' D=none/\KV ys vs /\
   s'.heap.DictOf (bA X.prog X.w) D vs/\W i n ys H') ?_ m0 ⟨0,[],[],H2,IB,T.keep 0 _ _ st2 (λb hb o e=>keep1 b o e),λb hb=>(f2 b hb).1,I2.hok.fresh szD,.nil,gD1,w0⟩
  rintro n s3 ⟨i,ys,vs,H3,I3,st3,fr3,hD3,r3,g3,w3⟩
  obtain⟨od,ho3,hdd⟩:=Gn.mp g3
  have dat3:∀ {h:Heap},h.get? D=some od->h.DictOf (bA X.prog X.w) D vs:=λe=>Gn.mpr ⟨od,e,hdd⟩
  have ncell:∀v,od.data ≠ .cell v:=λv z=>by
   obtain⟨o,es,ep,ho,hcl,hda,_⟩:=g3
   rw[ho3]at ho;cases ho;rw[hda]at z;cases z
  have I3p:Inv Y [(D,od)] (bst own.length σ js) H3 s3:=I3.pins_of λp hp=>by
   have e:p=(D,od):=by simpa using hp
   subst e
   exact⟨ho3,hD3,neDC,notFs,ncell⟩
  have f3:∀b∈fp,FpOk Y [(D,od)] H3 b:=fpB fr3 λp hp=>by
   have e:p=(D,od):=by simpa using hp
   rw[e]
  rcases turn i n ys H3 w3 with⟨stop,hz,qn⟩ | ⟨go,hz,N,hN,step⟩
  ·refine thn (T.done Y rfl rfl rfl hc i _ s3 _ H3 (λ_ _=>False) I3p f3 st3 stop) λr s4 ⟨hr,I4⟩=>?_
   subst hr
   refine hR C _ s4 ?_
   have g4:=(I4.pin (D,od) (by simp[Y,blk])).1
   obtain⟨m,hn4,_⟩:=id I4.loc
   have un:Un (frs X.stack) fp H2 H3 s2.heap s4.heap:=I4.base
   have I5:Inv X pins σ H3 s4:=I2.call' I4.os un I4.hok I4.bare λb hb=>let ⟨_,b1,_,b3,b4,b5⟩:=f2 b hb;⟨b3,b1,b4,b5⟩
   have I6:=I5.trackO (p:=D) (o:=.dK ys) (I2.fpOk szD hD3) (mE hz (beq_eq_false_iff_ne.mpr (B_ (ww hbig))) r3 (dat3 g4))
   refine⟨D,_,m,rfl,hn4,I6,?_,A_ I2.sz szC,locD.2,λx d e=>(clD x d e).2,λp hp=>(pinD p hp).2,qn D hD3⟩
   rw[aL (B_ neDC)]
   exact I4.free
  ·refine thn (T.item Y rfl rfl rfl hc i _ s3 _ H3 (λ_ _=>False) I3p f3 st3 go) λr s4 ⟨u,hr,h4⟩=>?_
   subst hr
   refine thn h4 λ_ s5 ⟨x,H5,I5,r5,y5,st5,fr5⟩=>?_
   have f5:∀b∈fp,FpOk Y [(D,od)] H5 b:=λb hb=>⟨fr5 b hb,(f3 b hb).2⟩
   have I5':=I5.pinned f5 (T.obj _ _ st5)
   refine thn (hg s2 H2 C fp B.nd _ s5 _ H5 x u _ I5' r5 (step x H5 y5)) λ_ s6 ⟨σ6,H6,I6,d6,q6⟩=>?_
   refine thn (ht s2 H2 C fp _ s6 σ6 H6 _ I6 q6) λok s7 ⟨H7,I7,q7⟩=>?_
   have after:∀ {s8:db} {H8:Hp},Inv Y ([(D,od)]++e6 fp s5.heap) σ6 H8 s8 ->
     s8.heap.get? D=some od/\H8 D=none/\tn (i+1) s8.heap/\(∀b∈fp,H8 b=none)/\Inv Y [] (bst own.length σ js) H8 s8:=λ{s8 H8} I8=>by
    have p8:=I8.pin (D,od) (by simp[Y,blk])
    refine⟨p8.1,p8.2.1,T.keep _ _ _ st5 λb hb o e=>(I8.pin (b,o) (lm _ (lm _ (bP hb e)))).1,λb hb=>?_,?_⟩
    ·obtain⟨o,e,_⟩:=T.obj _ _ st5 b hb
     exact(I8.pin (b,o) (lm _ (lm _ (bP hb e)))).2.1
    ·refine(I8.pins_of (pins':=[]) λp hp=>absurd hp (by simp[Y,blk])).weak ?_ λj v e=>?_
     ·rw[I8.len,eW]
      show _=(own++capN X.N js).length
      unfold capN
      simp
     ·rcases Bh j own.length with z | z
      ·exfalso
       unfold bst at e
       rw[Bi (by simpa using z),BR]at e
       split at e <;> cases e
      ·unfold bst at e
       rw[By (by simpa using z),Cf,<- d6,Bt]at e
       rw[<- e]
       congr 1
       omega
   cases ok with
   | false =>
    rw[if_neg A4]at q7 ⊢
    obtain⟨m',hm,w7⟩:=hN _ _ q7
    obtain⟨a1,a2,a3,a4,a5⟩:=after I7
    exact⟨m',hm,i+1,ys,vs,H7,a5,a3,a4,a2,r3,dat3 a1,w7⟩
   | true =>
    rw[if_pos rfl]at q7 ⊢
    refine thn (hk s2 H2 C fp _ s7 σ6 H7 _ I7 q7) λu8 s8 ⟨v8,H8,I8,r8,n8⟩=>?_
    refine thn (hv s2 H2 C fp _ s8 σ6 H8 _ I8 n8) λu9 s9 ⟨v9,H9,I9,r9,kk,ek,n9⟩=>?_
    subst ek
    obtain⟨m',hm,w9⟩:=hN _ _ n9
    obtain⟨a1,a2,a3,a4,a5⟩:=after I9
    have hvz:vs.length<=xL:=by rw[<- r3.length];exact BZ hz
    refine wpAny_dictSet_pairs (hsz:=hvz) (mn r8) (dat3 a1) λh' dd' hs'=>?_
    have sb:Bx D s9.heap h':=hs'
    have I10:=(Inv.young a5 sb a2 szD neDC clB (λp hp=>absurd hp (by show p∉[]++[];simp))).tok (s9.toks+1)
    exact⟨m',hm,i+1,putK ys kk v9,GJ vs kk u9,H9,I10,T.keep _ _ _ a3 (λb hb o e=>(sb.2 b (fpD b hb).1).trans e),a4,a2,r3.put kk r9,dd',w9⟩
 exact codeAny_compStart_dict (loop _ rfl) (T.self _ 0 _ _ _ (T.keep 0 _ _ st2 λb hb o e=>keep1 b o e) (loop _ rfl))
theorem pb {kx vx tg iter:Expr}{ifs:List Expr}{scope:Cv}{pos pos' spos:Pos}{i:Nat}{x:Str}(own:List Str)(js:List Nat){wi:TI}{g:TG}{tc:TT}{tk tv:TE}(hN:X.N.Nodup)(hi:X.N[i]? = some x)(hx:Loc X.env.scope x)
  (hc:X.calm=true) (B:Blk X scope own js) (hit:PI X tg iter wi)
  (hg:∀s H C fp,(own++capN X.N js).Nodup->PG (blk X scope (own++capN X.N js) s H C fp) tg g) (ht:∀s H C fp,PTs (blk X scope (own++capN X.N js) s H C fp) ifs tc) (hk:∀s H C fp,PE (blk X scope (own++capN X.N js) s H C fp) kx tk) (hv:∀s H C fp,PE (blk X scope (own++capN X.N js) s H C fp) vx tv)
  (hf:X.fn x=true∨X.env.scope.names.lookup x=some .local:=by first | exact .inl rfl | exact .inr rfl | assumption)
  (hw:EE (.DictComp kx vx [⟨tg,iter,ifs,0⟩] scope pos) (some (.Name x pos')) spos.line X.env=pure true:=by rfl)
  (hs:∀x,B6 iter X.env x=pure x:=by intro _;rfl) :
  PS X (.Assign [.Name x pos'] (.DictComp kx vx [⟨tg,iter,ifs,0⟩] scope pos) spos) (λD σ H=>lN own.length js wi g tc tk tv σ H λv H'=>D.nx (σ.set i (some v)) H'):=by
 intro pins s σ H D I h
 have hcl:Ee scope X.env=pure (cG scope X.env):=cz λx hx hf=>I.ok.has x.1 (B.free x hx hf)
 rw[Fq _ _ _ _ hw]
 refine bn (B3 (bn ?_))
 show li _ X.A (do let _ <- E1 (.DictComp kx vx [⟨tg,iter,ifs,0⟩] scope pos) scope X.env _ newDict false (eval iter X.env) (some (Di (.Name x pos') X.env))) _ _ s
 refine bn (thn (Q:=λ_ s'=>SP X pins D .next s') (CI (use:=some (Di (.Name x pos') X.env)) rfl hs hcl B.kind B.names (thn (hit pins s σ H _ I h) λv s1 h1=>thn h1 λitv s2 h2=>?_)) λ_ s' q=>kt (kt q))
 refine jK (Q:=λv H'=>D.nx (σ.set i (some v)) H') (RR:=λacc C=>Gs (o0 X.prog X.w) X.A X.xe (some (Di (.Name x pos') X.env)) (λ_ s'=>SP X pins D .next s') acc C) hc B hg ht hk hv h2 λC acc s' hb=>?_
 obtain⟨l,H',m,rfl,hn,I',c1,c2,c3,c4,c5,q⟩:=hb
 show li _ X.A (Di (.Name x pos') X.env (.ref l)) _ _ _
 refine EW (fh (v:=.ref l) I' hN hi hx rfl (λs3 I3 ⟨a,sb,ha⟩=>?_) hf)
 have ne:C≠a:=by
  rcases ha with z | z
  ·rw[z];exact c3
  ·exact(c4 x a z).symm
 exact⟨m,hn.sameBut sb ne,λh' hs'=>⟨_,H',I3.young hs' c1 c2 c3 c4 c5,q⟩⟩
end
def fc (n:Nat)(js:List Nat)(c:En->Prop)(g:AG)(tc:AT)(ak av:AE)(q:List (Key×D)->En->Prop):List D->List (Key×D)->En->Prop
 | [],acc,ρ=>c ρ/\q acc ρ
 | d::ds,acc,ρ=>c ρ/\g d (blkE n js ρ) λρ1=>tc ρ1 λb ρ2=>if b=true then ak ρ2 λrk ρ3=>av ρ3 λr ρ4=>sto [r.frz] ρ4 λes ρ5=>(match rk,es with
   | .d kd,[e]=>(match dKey kd with
    | some k=>fc n js c g tc ak av q ds (putD acc k e) (back ρ (js.map R.o) (ρ5.drop n))
    | none=>False)
   | _,_=>False)else fc n js c g tc ak av q ds acc (back ρ (js.map R.o) (ρ2.drop n))
def Ah (n:Nat)(js:List Nat)(i:AI)(g:AG)(tc:AT)(ak av:AE):AE:=λρ q=>i ρ λds c ρ1=>ds.length<=1000000/\fc n js c g tc ak av (λacc ρ2=>q (.n (.dk acc)) ρ2) ds [] ρ1
theorem fQ {κ:Type} [DecidableEq κ](kvs:List (κ×D))(k:κ)(d:D):(putD kvs k d).length<=kvs.length+1:=by
 unfold putD
 split
 ·simp
 ·simp
section
variable {K:bi}
theorem iZ {n:Nat}{js:List Nat}{wi:TI}{g:TG}{tc:TT}{tk tv:TE}{ai:AI}{ag:AG}{atc:AT}{ak av:AE}(hi:TIok K (λ_=>true) wi ai)(hg:TGok K (λj=>decide (n<=j)) g ag)(hc:TTok K tc atc)(hk:TEok K tk ak)(hv:TEok K tv av)
  (hd:dis (js.map R.o)=true:=by rfl):TEok K (lN n js wi g tc tk tv) (Ah n js ai ag atc ak av):=by
 intro F σ ρ H q Q r h k
 refine hi F σ ρ H _ _ r h λds c ρ1 J H1 h1 r1 k1 wk=>?_
 obtain⟨hz,h1⟩:=h1
 have hd':dis (blkR n js)=true:=by rw[gW];exact hd
 refine⟨λi m ys H'=>∃ ρ' acc,m=ds.length - i/\i<=ds.length/\Rel K F σ ρ' H'/\Kp σ ρ1 ρ' H1 H'/\ys.map Bd=acc.map Bd/\RepDs K (hid H' (hs F σ ρ')) (ys.map Bp) (acc.map Bp)/\acc.length<=i/\fc n js c ag atc ak av (λacc ρ2=>q (.n (.dk acc)) ρ2) (ds.drop i) acc ρ',⟨ds.length,ρ1,[],rfl,Bl _,r1,.refl,rfl,.nil,Bl _,h1⟩,?_⟩
 rintro i m ys H' ⟨ρ',acc,rfl,hl,r',k',rk,rd,al,h'⟩
 have w:c ρ'->WkAt K (hs F σ ρ') H' J ds:=λhc=>wk σ ρ' H' k'.vis r'.sl (λ_ _ _ e=>e) (λa z=>qC r' z) hc
 have yl:ys.length=acc.length:=gP rk
 rcases Bh i ds.length with lt | ge
 ·right
  rw[Bo lt]at h'
  unfold fc at h'
  obtain⟨hcc,h'⟩:=h'
  obtain⟨go,yld⟩:=(w hcc i).1 ds[i] (im lt)
  refine⟨go,j3 (by omega),λzs H2=>∃ ρ2 acc2,Rel K F σ ρ2 H2/\Kp σ ρ1 ρ2 H1 H2/\zs.map Bd=acc2.map Bd/\RepDs K (hid H2 (hs F σ ρ2)) (zs.map Bp) (acc2.map Bp)/\acc2.length<=i+1/\fc n js c ag atc ak av (λacc ρ2=>q (.n (.dk acc)) ρ2) (ds.drop (i+1)) acc2 ρ2,
   λzs H2 ⟨ρ2,acc2,a1,a2,a3,a3',a4,a5⟩=>⟨ds.length - (i+1),by omega,ρ2,acc2,rfl,lt,a1,a2,a3,a3',a4,a5⟩,λx H2 hy=>?_⟩
  obtain⟨sm,rx⟩:=yld x H2 hy
  have r0':=r'
  have k':Kp σ ρ1 ρ' H1 H2:=k'.trans ⟨λa o e _=>sm a o e,λ_ h=>h⟩
  have rd:RepDs K (hid H2 (hs F σ ρ')) (ys.map Bp) (acc.map Bp):=rd.same (bc λa o e n=>⟨sm a o e,n⟩)
  have r':=r0'.grow sm
  have src:=iW (K:=K) (F:=F) (σ:=σ) (ρ:=ρ') (H:=H2) n js
  have rb:=r'.sub src hd'
  have hs2:=lO r' src
  rw[bp]at rb hs2
  have pin:∀i a,(dg F σ ρ' H2 (bst n σ js) (blkE n js ρ')).pin i a->decide (n<=i)=true:=λi a h=>by
   rcases h with h | h
   ·exact decide_eq_true (iX h.1)
   ·exact h.elim
  have hlen:(bst n σ js).length=n+js.length:=eW
  have ret:∀ σ2 ρ2 H3,Rel K (dg F σ ρ' H2 (bst n σ js) (blkE n js ρ')) σ2 ρ2 H3->σ2.length=(bst n σ js).length->σ2.drop n=capt σ js->(∀i,(gt ρ2 i).own=true->(gt (blkE n js ρ') i).own=true) ->
    Rel K F σ (back ρ' (js.map R.o) (ρ2.drop n)) H3/\Kp σ ρ' (back ρ' (js.map R.o) (ρ2.drop n)) H2 H3/\Same (hid H3 (hs (dg F σ ρ' H2 (bst n σ js) (blkE n js ρ')) σ2 ρ2)) (hid H3 (hs F σ (back ρ' (js.map R.o) (ρ2.drop n)))):=λσ2 ρ2 H3 rr hlen2 hdrop hown=>by
   obtain⟨f1,f2⟩:=rr.forget (n:=n) (by omega) λi a h=>of_decide_eq_true (pin i a h)
   rw[hdrop]at f1 f2
   have f1':Rel K (dg F σ ρ' H2 (bst n σ js) ((blkR n js).map (cI ρ'))) (bst n σ js) (pc n .un++ρ2.drop n) H3:=by rw[bp];exact f1
   have bk:=r'.back src hd' f1' λi hi=>by
    rw[bp]
    rw[jG]at hi
    split at hi
    ·cases hi
    ·rename_i hni
     rw[gm,show n+(i - n)=i by omega]at hi
     exact hown i hi
   have ln:(pc n Sv.un++ρ2.drop n).length=n+js.length:=by
    have:=rr.len
    simp;omega
   rw[gX js ρ' n _ ln,Db (by simp),bp]at bk
   exact⟨bk.1,bk.2.1,f2.trans bk.2.2⟩
  refine hg _ (bst n σ js) (blkE n js ρ') H2 x _ _ _ pin rb (by rw[hs2];exact rx) h' λσ2 ρ2 h2 r2 l2 p2 o2=>?_
  have hdrop:σ2.drop n=capt σ js:=by
   have:σ2.drop n=(bst n σ js).drop n:=by
    apply CJ
    intro i
    rw[Bt,Bt]
    exact p2 (n+i) (decide_eq_true (by omega))
   rw[this]
   unfold bst
   rw[Db (by simp)]
  refine⟨hdrop,hc _ σ2 ρ2 H2 _ _ r2 h2 λb ρ3 H3 h3 r3 k3=>?_⟩
  cases b with
  | false =>
   obtain⟨b1,b2,_⟩:=ret σ2 ρ3 H3 r3 l2 hdrop λi hi=>(o2 i (k3.sb i hi)).1
   exact⟨_,acc,b1,k'.trans b2,rk,rd.same b2.vis,by omega,h3⟩
  | true =>
   refine hk _ σ2 ρ3 H3 _ _ r3 h3 λr4 ρ4 v4 H4 h4 o4=>?_
   obtain⟨r4',k4,i4⟩:=o4.inF
   refine hv _ σ2 ρ4 H4 _ _ r4' h4 λr6 ρ6 v6 H6 h6 o6=>?_
   obtain⟨r6',k6,i6⟩:=o6.inF
   obtain⟨d,ρ5,h5,r5,k5,rv⟩:=m5 r6' i6 h6
   split at h5
   ·rename_i kd e0 ee
    cases ee
    split at h5
    ·rename_i kk ek
     obtain⟨b1,b2,b3⟩:=ret σ2 ρ5 H6 r5 l2 hdrop λi hi=>(o2 i (k3.sb i (k4.sb i (k6.sb i (k5.sb i hi))))).1
     obtain⟨p1,p2⟩:=kU kk (rv.same b3) rk (rd.same b2.vis)
     exact⟨kk,sS i4 ek,_,putD acc kk d,b1,k'.trans b2,p1,p2,by have:=fQ acc kk d;omega,h5⟩
    ·exact h5.elim
   ·exact h5.elim
 ·left
  rw[BJ ge]at h'
  unfold fc at h'
  obtain⟨hcc,h'⟩:=h'
  refine⟨(w hcc i).2 ge,small (by omega),λl hl'=>?_⟩
  exact k (.n (.dk acc)) ρ' _ _ h' ⟨H',l,_,r',k1.trans k',rfl,⟨l,ys,rfl,aQ,rk,rd⟩,hl',rfl,rfl⟩
theorem lP {pr:Nat->Bool}{ae:AE}{i n:Nat}{js:List Nat}{wi:TI}{g:TG}{tc:TT}{tk tv:TE}(h:TEok K (lN n js wi g tc tk tv) ae)(hi:pr i=false):TSok K pr (λD σ H=>lN n js wi g tc tk tv σ H λv H'=>D.nx (σ.set i (some v)) H') (aSet i ae):=oV hi h
end
theorem ik {n:Nat}{js:List Nat}{c:En->Prop}{g:AG}{tc:AT}{ak av:AE}{q:List (Key×D)->En->Prop}(I:Nat->List (Key×D)->En->Prop){ds:List D}(hc:∀k acc ρ,k<=ds.length->I k acc ρ->c ρ)
  (hs:∀(k:Nat) d acc ρ (N:List (Key×D)->En->Prop),ds[k]? = some d->I k acc ρ->(∀acc' ρ',I (k+1) acc' ρ'->N acc' ρ') ->
   g d (blkE n js ρ) λρ1=>tc ρ1 λb ρ2=>if b=true then ak ρ2 λrk ρ3=>av ρ3 λr ρ4=>sto [r.frz] ρ4 λes ρ5=>(match rk,es with
   | .d kd,[e]=>(match dKey kd with
    | some k=>N (putD acc k e) (back ρ (js.map R.o) (ρ5.drop n))
    | none=>False)
   | _,_=>False)else N acc (back ρ (js.map R.o) (ρ2.drop n)))
  (hd:∀acc ρ,I ds.length acc ρ->q acc ρ):∀ ρ,I 0 [] ρ->fc n js c g tc ak av q ds [] ρ:=by
 have go:∀(es:List D) (k:Nat),ds.drop k=es->k<=ds.length->∀acc ρ,I k acc ρ->fc n js c g tc ak av q es acc ρ:=by
  intro es
  induction es with
  | nil =>
   intro k h hk acc ρ i
   have:ds.length<=k:=D8.mp h
   have:k=ds.length:=by omega
   subst this
   unfold fc
   exact⟨hc _ acc ρ (wl _) i,hd acc ρ i⟩
  | cons d es ih =>
   intro k h hk acc ρ i
   have lt:k<ds.length:=by
    rcases Bh k ds.length with q | q
    ·exact q
    ·rw[BJ q]at h;cases h
   rw[Bo lt]at h
   injection h with h1 h2
   unfold fc
   exact⟨hc k acc ρ hk i,hs k d acc ρ (λacc' ρ'=>fc n js c g tc ak av q es acc' ρ') (by rw[<- h1];exact im lt) i (λacc' ρ' i'=>ih (k+1) h2 lt acc' ρ' i')⟩
 exact go ds 0 rfl (Bl _) []
def kD:Key->D
 | .inl i=>.int i
 | .inr x=>.str x
theorem zL {K:bi}{H:Hp}(k:Key):RepD K H (kV k) (kD k):=by
 cases k with
 | inl i=>unfold RepD;rfl
 | inr x=>unfold RepD;rfl
def Itk (a:Addr)(ob:Obj)(ks:List Key):It :=
 ⟨λi H=>(∃u,H a=some (.frz ob u))/\i<ks.length,λi H v H'=>H'=H/\∃k,ks[i]? = some k/\v=kV k,λi H=>(∃u,H a=some (.frz ob u))/\ks.length<=i⟩
theorem zK {P:wT}{w:Bf}{k:Key}{u:bv}(h:(bA P w).is k u=true):RelV (kV k) u:=by
 rcases bS (k:=k) (v:=u) h with⟨i,t,rfl,rfl⟩ | ⟨x,t,rfl,rfl⟩
 ·exact⟨t,rfl⟩
 ·exact⟨t,rfl⟩
theorem qU {P:wT}{w:Bf}{K:bi}{tg:Expr}{it a:Addr}{ob:Obj}{ks:List Key}{kv:List (Key×bv)}{ep:Nat}(rv:ks=kv.map Bd)(ne:a≠it)(hob:∀h:Heap,h.get? a=some ob->h.DictAt (bA P w) a kv ep) :
  Turn P w K tg (Itk a ob ks) [it] it (λi h=>h.IsKeyIter it a i kv.length ep) where
 mem:=by simp
 obj:=λi h st b hb=>by
  obtain⟨o1,e1,c1,d1⟩:=st
  rw[wE.mp hb]
  exact⟨o1,e1,λv q=>by rw[d1]at q;cases q⟩
 keep:=λi h h' st k=>st.at λo q=>k it (by simp) o q
 item:=by
  intro X hP hw hK hc i pins s σ H E I hf st hg
  subst hP hw hK
  obtain⟨⟨u,hu⟩,hi⟩:=hg
  have ha:s.heap.get? a=some ob:=(show cA X.prog X.w H s.heap a (.frz ob u)from I.hok a _ hu).1
  have hl:ks.length=kv.length:=by rw[rv,lw]
  obtain⟨⟨kk,x⟩,hx⟩:∃p,kv[i]? = some p:=⟨kv[i],im (by omega)⟩
  have hx':ks[i]? = some kk:=by rw[rv,wP,hx];rfl
  refine wpAny_pyNext_dict_item st (hob _ ha) hx λkey h' hkey hit' hs'=>?_
  obtain⟨o1,e1,c1,d1⟩:=id hit'
  refine⟨_,rfl,tf e1 c1 d1 (by decide) ?_⟩
  refine⟨kV kk,H,I.turns (ch:=[it]) (t':=s.toks) (λb o hb q=>hs'.extBut b o (λz=>hb (by simp[z])) q) hf,zK hkey,⟨rfl,kk,hx',rfl⟩,hit',λb hb=>(hf b hb).1⟩
 done:=by
  intro X hP hw hK hc i pins s σ H E I hf st hg
  subst hP hw hK
  obtain⟨⟨u,hu⟩,hi⟩:=hg
  have ha:s.heap.get? a=some ob:=(show cA X.prog X.w H s.heap a (.frz ob u)from I.hok a _ hu).1
  have hl:ks.length=kv.length:=by rw[rv,lw]
  refine wpAny_pyNext_dict_end (I.ok.hd hc) st (hob _ ha) (by rw[CB (by omega)]) λh' he'=>⟨rfl,I.turns (ch:=[it]) (t':=s.toks) (λb o hb q=>he' b o (λz=>hb (by simp[z])) q) hf⟩
 self:=λ_ _ _ _ _ st h=>wpAny_pyIter_keyiter st h
def zT (td:TE):TI:=λσ H R=>td σ H λx H1=>∃a kvs,x = .ref a/\H1 a=some (.dK kvs)/\∀ob,R (Itk a ob (kvs.map Bd)) (upd H1 a (.frz ob (.dK kvs)))
theorem xV {kvs:List (Key×V)}{vs:List (Key×bv)}(h:KV kvs vs):kvs.map Bd=vs.map Bd:=by
 induction h with
 | nil=>rfl
 | cons a _ ih=>simp only[A1,ih,a.1]
theorem xB {X:Cx}{tg o:Expr}{td:TE}(ho:PE X o td):PI X tg o (zT td):=by
 intro pins s σ H R I h
 refine thn (ho pins s σ H _ I h) λv s1 ⟨x,H1,I1,r1,a,kvs,ex,ha,q1⟩=>?_
 subst ex
 obtain rfl:v=Value.ref a:=r1
 obtain⟨z,hd,vs,rel,dd⟩:=vH I1.hok ha
 obtain⟨ep,da⟩:=dd.dictAt
 obtain⟨ob,es,eo,r⟩:=id da
 refine wpAny_pyIter_dict (knd:=bA X.prog X.w) (kvs:=vs) (ep:=ep) hd da ?_
 have I2:Inv X pins σ H1 {s1 with heap:=s1.heap.push {cls:=.type "dict_keyiterator",data:=.fields #[.ref a,.int 0 0,.int vs.length 0,.int ep 0]}}:=I1.kept (t':=s1.toks) λb o e=>dL _ e
 have ha2:(s1.heap.push {cls:=.type "dict_keyiterator",data:=.fields #[.ref a,.int 0 0,.int vs.length 0,.int ep 0]}).get? a=some ob:=dL _ eo
 have I3:=I2.write (x:=a) (e:=a) (o:=.frz ob (.dK kvs)) (t':=s1.toks) (h':=s1.heap.push {cls:=.type "dict_keyiterator",data:=.fields #[.ref a,.int 0 0,.int vs.length 0,.int ep 0]}) (by rw[ha];exact True.intro) (.inl rfl) (λb q _ e=>e) ⟨ob,ha2⟩ ⟨ha2,z,hd,vs,rel,⟨ob,es,ep,ha2,r⟩⟩
 have lt:a<s1.heap.objs.size:=lc eo
 have ne:a≠s1.heap.objs.size:=ww lt
 have T:Turn X.prog X.w X.K tg (Itk a ob (kvs.map Bd)) [s1.heap.objs.size] s1.heap.objs.size (λi h=>h.IsKeyIter s1.heap.objs.size a i vs.length ep) :=
  qU (xV rel) ne (λh e=>(⟨ob,es,e,r⟩:h.DictAt (bA X.prog X.w) a vs ep))
 refine⟨_,_,_,_,_,rfl,I3,T,⟨_,wv _ rfl,rfl,rfl⟩,λb hb=>?_,q1 ob⟩
 rw[wE.mp hb]
 refine I1.fpOk (wl _) ?_
 rw[aL ne.symm]
 exact I1.hok.fresh (wl _)
section
variable {K:bi}{F:Fr}{σ:St}{ρ:En}{H:Hp}
theorem Rel.giveUp (r:Rel K F σ ρ H){i:Nat}{a:Addr}{o:HO}(ho:(gt ρ i).own=true)(el:σ[i]? = some (some (.ref a))):Rel K F σ (pt ρ i .un) (upd H a o)/\Kp σ ρ (pt ρ i .un) H (upd H a o)/\¬hs F σ (pt ρ i .un) a:=by
 have lt:=jt ho
 have own':∀j,(gt (pt ρ i .un) j).own=true->i≠j/\(gt ρ j).own=true:=λj h=>du rfl h
 have sub:∀b,bE σ (pt ρ i .un) b->bE σ ρ b/\b≠a:=λb ⟨j,hj,e⟩=>by
  obtain⟨ij,hj⟩:=own' j hj
  exact⟨⟨j,hj,e⟩,λz=>ij (r.nd i j a ho hj el (z▸e))⟩
 have hso:bE σ ρ a:=⟨i,ho,el⟩
 have vis:Same (hid H (hs F σ ρ)) (hid (upd H a o) (hs F σ (pt ρ i .un))):=bc λb u e n=>by
  have al:b≠a:=λz=>n (.inr (z▸hso))
  exact⟨by rw[aL al];exact e,λz=>n (z.imp id λz=>(sub b z).1)⟩
 have vl:¬hs F σ (pt ρ i .un) a:=λz=>by
  rcases z with z | z
  ·exact r.zo a hso z
  ·exact(sub a z).2 rfl
 have up:∀ {b},H b≠none->(upd H a o) b≠none:=λ{b} h e=>by
  by_cases al:b=a
  ·subst al;rw[aQ]at e;cases e
  ·rw[aL al]at e;exact h e
 refine⟨⟨by rw[fk,r.len],λb u e n=>?_,λb z=>wy (λq=>r.zo a hso (q▸z)) (r.zl b z),λb h=>r.zo b (sub b h).1,λj b hj e=>r.ow j b (own' j hj).2 e,r.mi,r.ml,λb z=>up (r.ma b z),λj k b hj hk ej ek=>r.nd j k b (own' j hj).2 (own' k hk).2 ej ek,λj=>?_⟩,⟨λb u e n=>?_,λj h=>(own' j h).2⟩,vl⟩
 ·have al:b≠a:=λz=>by
   subst z
   rcases r.ow i _ ho el with⟨_,q⟩ | q
   ·exact n q
   ·rw[e]at q;cases q
  rw[aL al];exact r.fr b u e n
 ·by_cases ij:i=j
  ·subst ij
   rw[jW ρ i _ lt]
   trivial
  ·rw[bT ρ i j _ ij]
   refine(r.sl j).keep vis λb u ho' e h=>?_
   have al:b≠a:=λz=>ij (r.nd i j a ho ho' el (z▸e))
   rw[aL al];exact h
 ·have al:b≠a:=λz=>n (z▸hso)
  rw[aL al];exact e
end
section
variable {K:bi}{td:TE}{ad:AE}
def AV (a:AE):AI:=λρ q=>a ρ λr ρ1=>match r with
 | .o i=>(match gt ρ1 i with | .dk kvs=>q (kvs.map λp=>kD p.1) (λ_=>True) (pt ρ1 i .un) | _=>False)
 | _=>False
theorem q_ {pin:Nat->Bool}(h:TEok K td ad):TIok K pin (zT td) (AV ad):=by
 intro F σ ρ H q Rk r ha k
 refine h F σ ρ H _ _ r ha λr1 ρ1 x H1 h1 o1=>?_
 obtain⟨r1',k1,i1⟩:=o1.inF
 split at h1
 ·rename_i j
  have ej:σ[j]? = some (some x):=i1
  split at h1
  ·rename_i kvs hg
   obtain⟨t,ks,rfl,ht,e1,e2⟩:=qJ r1' ej hg
   refine⟨t,ks,rfl,ht,λob=>?_⟩
   obtain⟨rg,kg,vg⟩:=r1'.giveUp (i:=j) (a:=t) (o:=.frz ob (.dK ks)) (by rw[hg];rfl) ej
   refine k _ _ _ _ _ h1 rg (k1.trans kg) λσ2 ρ2 H2 sm _ _ _ _=>?_
   have h2:H2 t=some (.frz ob (.dK ks)):=(dB.mp (sm _ _ (eD vg aQ))).2
   have el:(kvs.map λp=>kD p.1)=(ks.map Bd).map kD:=by rw[e1,BF];rfl
   intro i
   rw[el]
   refine⟨λd hd=>?_,λhi=>⟨⟨_,h2⟩,by simpa using hi⟩⟩
   rw[wP]at hd
   cases hk:(ks.map Bd)[i]? with
   | none=>rw[hk]at hd;cases hd
   | some kk =>
    rw[hk]at hd
    cases hd
    refine⟨⟨⟨_,h2⟩,(sK.mp hk).1⟩,λy H' hy=>?_⟩
    obtain⟨rfl,k',hk',rfl⟩:=hy
    rw[hk]at hk';cases hk'
    exact⟨Same.refl _,zL kk⟩
  ·exact h1.elim
 ·exact h1.elim
end
end L2
namespace L2
theorem n5 {R:List Nat}{i:Nat}(h:i<R.length):R.getD i 0=R[i]:=by rw[wS,im h];rfl
theorem zV {R:List Nat}{i:Nat}(h:i<R.length):R.getD i 0∈R:=by rw[n5 h];exact DS h
theorem x5 {A B:List Nat}{i:Nat}(h:i<A.length):(A++B).getD i 0=A.getD i 0:=by
 simp only[wS]
 rw[Bi h]
def fst1 (R:List Nat)(t:Nat):Nat:=R.idxOf (R.getD t 0)
theorem tI {R:List Nat}{t:Nat}(h:t<R.length):fst1 R t<R.length:=List.idxOf_lt_length_iff.mpr (zV h)
theorem vy {R:List Nat}{t:Nat}(h:t<R.length):R.getD (fst1 R t) 0=R.getD t 0:=by
 rw[n5 (tI h)]
 exact HX (tI h)
theorem tJ {R:List Nat}{t:Nat}(h:t<R.length):fst1 R t<=t:=by
 rcases Bh t (fst1 R t)with q | q
 ·have:=List.not_of_lt_findIdx (p:=λx=>x==R.getD t 0) (xs:=R) (i:=t) q
  have e:(R[t]==R.getD t 0)=true:=by rw[n5 h];simp
  exact absurd (this.symm.trans e) A4
 ·exact q
def nW (m:Nat)(f:Nat->Nat):List (Nat×Nat)->Nat->(Nat->Bool)->Nat->Bool
 | [],_,M,t=>M t
 | p::r,k,M,t=>nW m f r (k+1) M t||(nW m f r (k+1) M (m+k)&&(t==f p.1||t==f p.2))
def nkT (m:Nat)(L:Nat->Bool)(k:Nat):Nat:=((zn k).filter λj=>L (m+j)).length
def nbT (m:Nat)(L:Nat->Bool)(t:Nat):Nat:=if t<m then t else m+nkT m L (t - m)
section
variable {m:Nat}{L:Nat->Bool}
theorem sJ (k:Nat):nkT m L (k+1)=nkT m L k+(if L (m+k)=true then 1 else 0):=by
 unfold nkT
 rw[CL,FA,A2]
 congr 1
 by_cases h:L (m+k)=true
 ·rw[if_pos h];simp[F8,h]
 ·rw[if_neg h];simp[F8,h]
theorem Av (k:Nat):nkT m L k<=k:=by
 induction k with
 | zero=>exact wl _
 | succ k ih=>rw[sJ];split <;> omega
end
def newJ (m:Nat)(f:Nat->Nat)(L:Nat->Bool)(p:Nat×Nat):Nat×Nat:=(min (nbT m L (f p.1)) (nbT m L (f p.2)),max (nbT m L (f p.1)) (nbT m L (f p.2)))
def jV (m:Nat)(f:Nat->Nat)(L:Nat->Bool)(js:List (Nat×Nat))(n:Nat):List (Nat×Nat):=(zn n).flatMap λk=>if L (m+k)=true then[newJ m f L (js.getD k (0,0))]else[]
section
variable {m:Nat}{f:Nat->Nat}{L:Nat->Bool}{js:List (Nat×Nat)}
theorem jD (n:Nat):jV m f L js (n+1)=jV m f L js n++(if L (m+n)=true then[newJ m f L (js.getD n (0,0))]else[]):=by
 unfold jV
 rw[CL,El]
 simp
theorem pJ (n:Nat):(jV m f L js n).length=nkT m L n:=by
 induction n with
 | zero=>rfl
 | succ n ih =>
  rw[jD,A2,ih,sJ]
  split <;> rfl
end
theorem pP:∀ {js:List (Nat×Nat)} {rows:List Nat} {i:Nat},i<rows.length->(js.foldl bh rows).getD i 0=rows.getD i 0
 | [],_,_,_=>rfl
 | p::r,rows,i,h=>by
  rw[E7,pP (by rw[iO];omega)]
  exact x5 h
structure Rws (N:Net):Prop where
 ix:okIx N.m N.js
 ne:∀(i:Nat) (p:Nat×Nat),N.js[i]? = some p->(cb N).getD p.1 0≠(cb N).getD p.2 0
theorem wc {N:Net}(h:vV N):Rws N:=by
 have hix:okIx N.m N.js:=by have:=sG h.js;rwa [gg]at this
 refine⟨hix,λi p hp=>?_⟩
 have:=pC h.js hp
 obtain⟨h1,h2⟩:=iR hix hp
 have lt:=(sK.mp hp).1
 have hl:((N.js.take i).foldl bh (aP N.m)).length=N.m+i:=by rw[lq,gg,Bz];omega
 have e:∀j,j<N.m+i->((N.js.take i).foldl bh (aP N.m)).getD j 0=(cb N).getD j 0:=λj hj=>by
  unfold cb
  conv=>rhs;rw[<- E_ i N.js,FU]
  exact(pP (by rw[hl];exact hj)).symm
 rw[e _ (by omega),e _ h2]at this
 exact this
def fT (N:Net):Nat->Nat:=fst1 (cb N)
def iI (N:Net):Nat->Bool:=nW N.m (fT N) N.js 0 λt=>(N.os.map (fT N)).contains t
def tidN (N:Net):Net:=⟨N.m,jV N.m (fT N) (iI N) N.js N.js.length,N.os.map λo=>nbT N.m (iI N) (fT N o)⟩
section
variable {N:Net}
theorem yc {t:Nat}(h:t<N.m+N.js.length):fT N t<=t:=tJ (by rw[kR];exact h)
theorem xW (R:Rws N){k:Nat}{p:Nat×Nat}(e:N.js[k]? = some p):p.1<p.2/\p.2<N.m+k/\N.m+k<N.m+N.js.length:=by
 obtain⟨a,b⟩:=iR R.ix e
 have:=(sK.mp e).1
 exact⟨a,b,by omega⟩
theorem f_lt (R:Rws N){k:Nat}{p:Nat×Nat}(e:N.js[k]? = some p):fT N p.1<N.m+k/\fT N p.2<N.m+k:=by
 obtain⟨a,b,c⟩:=xW R e
 have h1:=yc (N:=N) (t:=p.1) (by omega)
 have h2:=yc (N:=N) (t:=p.2) (by omega)
 omega
end
abbrev nT (N:Net):Nat->Nat:=nbT N.m (iI N)
theorem mI {n2 n:Nat}{js:List Nat}{c:En->Prop}{g:AG}{tc:AT}{i2:AI}{g2:AG}{tc2:AT}{te:AE}{q:List D->En->Prop}(I:Nat->List D->En->Prop){ds:List D}(hc:∀i acc ρ,i<=ds.length->I i acc ρ->c ρ/\acc.length<=1000000)
  (hs:∀(i:Nat) d acc ρ (N:List D->En->Prop),ds[i]? = some d->I i acc ρ->(∀acc' ρ',I (i+1) acc' ρ'->N acc' ρ') ->
   g d (blkE n js ρ) λρ1=>tc ρ1 λb ρ2=>if b=true then i2 ρ2 λds2 c2 ρ3=>fU n2 c2 g2 tc2 te (λacc' ρ4=>N acc' (back ρ (js.map R.o) (ρ4.drop n))) ds2 acc ρ3 else N acc (back ρ (js.map R.o) (ρ2.drop n)))
  (hd:∀acc ρ,I ds.length acc ρ->q acc ρ):∀ ρ,I 0 [] ρ->fw n2 n js c g tc i2 g2 tc2 te q ds [] ρ:=by
 have go:∀(es:List D) (i:Nat),ds.drop i=es->i<=ds.length->∀acc ρ,I i acc ρ->fw n2 n js c g tc i2 g2 tc2 te q es acc ρ:=by
  intro es
  induction es with
  | nil =>
   intro i h hi acc ρ hI
   have:ds.length<=i:=D8.mp h
   have:i=ds.length:=by omega
   subst this
   unfold fw
   obtain⟨a,b⟩:=hc _ acc ρ (wl _) hI
   exact⟨a,b,hd acc ρ hI⟩
  | cons d es ih =>
   intro i h hi acc ρ hI
   have lt:i<ds.length:=by
    rcases Bh i ds.length with q | q
    ·exact q
    ·rw[BJ q]at h;cases h
   rw[Bo lt]at h
   injection h with h1 h2
   unfold fw
   exact⟨(hc i acc ρ hi hI).1,hs i d acc ρ (λacc' ρ'=>fw n2 n js c g tc i2 g2 tc2 te q es acc' ρ') (by rw[<- h1];exact im lt) hI (λacc' ρ' i'=>ih (i+1) h2 lt acc' ρ' i')⟩
 exact go ds 0 rfl (Bl _) []
end L2
namespace L2
open PySem PySem.Spec PyProof.Rows
section
variable {P:wT}{w:Bf}{K:bi}{mg:Str->Option bv}{base:Heap}{N:List Str}{qual:Str}{scope:Cv}{f:Addr}{cd:bv}{A:Bg}{outer:List Env}{s0:db}{H0:Hp}{E:XK}
theorem Aq:fY (CX1 P w) (cxOf (CX1 P w) P w K mg base N qual scope f cd A outer s0 H0 E).inFor E:=by
 rintro pins σ H s e s' I ⟨a,C,od,H',rfl,os,bare,un,hok,hot,hy,he⟩
 have I':=I.unwish
 exact zD (I'.call' os un hok bare λb z=>nomatch z) (hot.older λb q=>I'.back0 rfl q) (λdx q=>I'.back0 rfl (hy dx q)) he
end
section
variable {X:Cx}{R:VK}{pos:Pos}
theorem rS {c:Expr}{body:List Stmt}{tc:TT}{tb:TS}(hc:PT X.nox c tc)(hb:PSsr X.inFor R body tb):PSr X R (.While c body [] pos) (ro tc tb):=by
 intro pins s σ H D e I h
 obtain⟨W,⟨m0,w0⟩,turn⟩:=h
 refine wpAny_While (Jn (λn s'=>∃ σ' H',Inv X pins σ' H' s'/\W n σ' H') ?_ m0 ⟨σ,H,I,w0⟩)
 rintro n s1 ⟨σ1,H1,I1,w1⟩
 refine BB (hc pins s1 σ1 H1 _ (I1.wish _) (turn n σ1 H1 w1)) (λb s2 ⟨H2,I2,q2⟩=>?_) λ_ _ z=>BA z
 cases b with
 | true =>
  obtain⟨N,hN,q2⟩:=q2
  rw[if_pos rfl]
  refine thn (hb pins s2 σ1 H2 {D with nx:=N,ct:=N,bk:=D.nx} e (I2.unwish.wish _) q2) λf s3 q3=>?_
  cases f with
  | next =>
   obtain⟨σ3,H3,I3,n3⟩:=q3
   obtain⟨m',hm,w3⟩:=hN σ3 H3 n3
   exact⟨m',hm,σ3,H3,I3.unwish,w3⟩
  | cont=>exact q3.elim
  | brk=>exact q3.elim
  | ret v=>exact q3.elim
 | false =>
  rw[if_neg A4]
  exact Dq ⟨σ1,H2,I2.unwish,q2⟩
end
section
variable {X:Cx}{R:VK}{E:XK}{C:Addr}{fn:Option Str}{K:bi}{S:ASp}
theorem rV {k:Nat}{x:Str}{ps:List Str}{p cpos pos:Pos}{e tg:Expr}{es:List Expr}{t:TA}(F:OkX X.prog X.w X.K X.mg X.base k x ps C fn (spA K S))(hr:Room k X.A)(hx:fY (CX1 X.prog X.w) X E)(ha:PA X.nox (e::es) t)(hg:Gl X x:=by rfl)
  (hdb:(x==("__debug__" : Str))=false:=by decide) (he:Ba (e::es) X.env=(false,eval e X.env)::Ba es X.env:=by rfl) (hpl:(Dd cpos (Ba es X.env)).any (·.1)=false:=by rfl)
  (hs:swapsWithSole [tg] (.Call (.Name x p) (e::es) [] cpos) pos.line X.env=pure false:=by rfl) (hw:swappedStores [tg] (.Call (.Name x p) (e::es) [] cpos) X.env=pure none:=by rfl) :
  PSr X (XW E C fn) (.Assign [tg] (.Call (.Name x p) (e::es) [] cpos) pos) (tRet (rE (spA K S) [] E0 t)):=by
 obtain⟨f,fd,hm,hk,hb,F⟩:=F.ex
 intro pins s σ H D e1 I h
 have pe:=sg (p:=p) (sp:=spX C fn (spA K S)) (E:=E) F hr hg hm hk hb .nil hx ha.nox hdb he hpl
 have h':rE (spX C fn (spA K S)) [] E t σ H λ_ _=>False:=by
  have h2:t σ H λvs H1=>spA K S (vs++[]) H1 D.rt E0:=h
  rw[e1]at h2
  exact h2
 exact IR (thn (pe pins s σ H _ I h') λv s1 ⟨_,_,_,_,q1⟩=>q1.elim) hs hw
end
end L2
set_option maxHeartbeats 2000000
namespace L2
open PySem PySem.Spec PyProof.Rows
end L2
namespace L2
open PySem
def Ris (xs:Array Nat):Prop:=xs.toList.Pairwise (· < ·)
theorem Ris.lt {xs:Array Nat}(h:Ris xs){i k:Nat}(hk:k<xs.size)(hi:i<k):xs[i]'(by omega)<xs[k]:=by
 have:=C5.mp h i k (by simp;omega) (by simpa using hk) hi
 simpa using this
theorem lG {xs:Array Nat}{j:Nat}(hr:Ris xs):∀(f lo hi:Nat),hi - lo<=f->lo<=hi->hi<=xs.size->(∀k (h:k<xs.size),k<lo->xs[k]<j)->(∀k (h:k<xs.size),hi<=k->j<=xs[k]) ->
  D1 xs j f lo hi<=xs.size/\(∀k (h:k<xs.size),k<D1 xs j f lo hi->xs[k]<j)/\(∀k (h:k<xs.size),D1 xs j f lo hi<=k->j<=xs[k])
 | 0,lo,hi,hf,hl,hz,h1,h2=>by
  have:hi=lo:=by omega
  subst this
  exact⟨hz,h1,h2⟩
 | f+1,lo,hi,hf,hl,hz,h1,h2=>by
  unfold D1
  by_cases hlt:lo<hi
  ·rw[if_pos hlt]
   dsimp only
   have hm:(lo+hi) / 2<xs.size:=by omega
   have eg:xs.getD ((lo+hi) / 2) j=xs[(lo+hi) / 2]:=by simp[HD,hm]
   rw[eg]
   by_cases hc:xs[(lo+hi) / 2]<j
   ·rw[if_pos hc]
    refine lG hr f _ hi (by omega) (by omega) hz (λk hk h=>?_) h2
    by_cases e:k=(lo+hi) / 2
    ·subst e;exact hc
    ·exact CU (hr.lt hm (by omega)) hc
   ·rw[if_neg hc]
    refine lG hr f lo _ (by omega) (by omega) (by omega) h1 (λk hk h=>?_)
    by_cases e:k=(lo+hi) / 2
    ·subst e;omega
    ·have:=hr.lt hk (show(lo+hi) / 2<k by omega)
     omega
  ·rw[if_neg hlt]
   have:hi=lo:=by omega
   subst this
   exact⟨hz,h1,h2⟩
theorem iY {xs:Array Nat}{j:Nat}(hr:Ris xs):Bw xs j<=xs.size/\(∀k (h:k<xs.size),k<Bw xs j->xs[k]<j)/\(∀k (h:k<xs.size),Bw xs j<=k->j<=xs[k]) :=
 lG hr xs.size 0 xs.size (by omega) (Bl _) (wl _) (λk _ h=>absurd h (Gx _)) λk h h'=>absurd h (by omega)
theorem vN {xs:Array Nat}(hr:Ris xs){k:Nat}(hk:k<xs.size):Bw xs xs[k]=k:=by
 obtain⟨h0,h1,h2⟩:=iY (j:=xs[k]) hr
 rcases CK (Bw xs xs[k]) k with h | h | h
 ·have a:=h2 (Bw xs xs[k]) (by omega) (wl _)
  have b:=hr.lt hk h
  omega
 ·exact h
 ·have:=h1 k hk h
  omega
theorem qP {xs:Array Nat}(hr:Ris xs){k:Nat}(hk:k<xs.size):Bw xs (xs[k]+1)=k+1:=by
 obtain⟨h0,h1,h2⟩:=iY (j:=xs[k]+1) hr
 rcases CK (Bw xs (xs[k]+1)) (k+1)with h | h | h
 ·have:=h2 k hk (by omega)
  omega
 ·exact h
 ·have a:=h1 (k+1) (by omega) h
  have b:=hr.lt (show k+1<xs.size by omega) (show k<k+1 by omega)
  omega
theorem qO {xs:Array Nat}(hr:Ris xs):Bw xs 0=0:=by
 obtain⟨h0,h1,h2⟩:=iY (j:=0) hr
 rcases Nat.eq_zero_or_pos (Bw xs 0)with h | h
 ·exact h
 ·have:=h1 0 (by omega) h
  omega
theorem xr {xs:Array Nat}{j:Nat}(hr:Ris xs)(hj:j∉xs.toList):Ris (SetTable.insertAt xs (Bw xs j) j):=by
 obtain⟨h0,h1,h2⟩:=iY (j:=j) hr
 unfold Ris
 rw[SetTable.toList_insertAt]
 have sp:(xs.toList.take (Bw xs j)++xs.toList.drop (Bw xs j)).Pairwise (· < ·):=by rw[E_];exact hr
 obtain⟨p1,p2,p3⟩:=Ff.mp sp
 have lo:∀a∈xs.toList.take (Bw xs j),a<j:=λa ha=>by
  obtain⟨i,hi,rfl⟩:=CO ha
  rw[Bz,Cz]at hi
  rw[FT,Fd]
  exact h1 i (by omega) (by omega)
 have up:∀a∈xs.toList.drop (Bw xs j),j<a:=λa ha=>by
  have hm:=List.mem_of_mem_drop ha
  obtain⟨i,hi,rfl⟩:=CO ha
  rw[Iq,Cz]at hi
  rw[List.getElem_drop,Fd]at hm ⊢
  have:=h2 (Bw xs j+i) (by omega) (by omega)
  rcases Nat.lt_or_eq_of_le this with h | h
  ·exact h
  ·exact absurd (h▸hm) hj
 refine Ff.mpr ⟨p1,CC.mpr ⟨up,p2⟩,λa ha b hb=>?_⟩
 rcases wn.mp hb with rfl | hb
 ·exact lo a ha
 ·exact p3 a ha b hb
def Open (t:C7)(j:Nat):Prop:=∀i,t.slot j ≠ .live i
theorem u0 {t:C7}{j:Nat}(hr:Ris t.place)(h:Open t j):j∉t.place.toList:=by
 intro hm
 obtain⟨k,hk,e⟩:=CO hm
 rw[Cz]at hk
 rw[Fd]at e
 refine h k ?_
 unfold SetTable.slot
 dsimp only
 rw[<- e,vN hr hk,if_pos (by simp[hk])]
theorem mX (t:C7)(p:HP):(t.advance p).dummy=p.dummy:=by
 unfold SetTable.advance;split <;> rfl
theorem n4 {t:C7}{f:Nat->Int}{h:Int}:∀(n:Nat) (p:HP) (j:Nat) (d:Option Nat),Gu t f h n p=some (.empty j d)->(∀x,p.dummy=some x->Open t x)->Open t j/\∀x,d=some x->Open t x
 | 0,p,j,d,e,_=>by cases e
 | n+1,p,j,d,e,hd=>by
  unfold Gu at e
  cases es:t.slot p.j with
  | empty =>
   rw[es]at e
   dsimp only at e
   simp only[BG,Il]at e
   obtain⟨rfl,rfl⟩:=e
   exact⟨λi z=>(by rw[es]at z;cases z),hd⟩
  | dummy =>
   rw[es]at e
   refine n4 n _ j d e λx hx=>?_
   rw[mX]at hx
   cases hx
   exact λi z=>by rw[es]at z;cases z
  | live i =>
   rw[es]at e
   dsimp only at e
   split at e
   ·cases e
   ·refine n4 n _ j d e λx hx=>?_
    rw[mX]at hx
    exact hd x hx
theorem tK {t:C7}{h:Int}{j:Nat}{b:Bool}(e:t.freeSlot h=some (j,b)):Open t j:=by
 unfold SetTable.freeSlot at e
 split at e
 ·rename_i j' d hp
  simp only[BG,Du]at e
  obtain⟨rfl,_⟩:=e
  unfold SetTable.probe at hp
  obtain⟨a,b⟩:=n4 _ _ _ _ hp λx hx=>by cases hx
  cases d with
  | none=>exact a
  | some x=>exact b x rfl
 ·cases e
def Led (t:C7):Prop:=t.led=true/\Ris t.place
theorem rP (n:Nat):Ris (Array.range n):=by
 unfold Ris
 rw[Array.toList_range]
 exact Cw
theorem gO {t:C7}(h:t.led=true)(n:Nat):Led (t.standIn n):=⟨h,rP n⟩
theorem zC {t:C7}(h:Led t)(n:Nat):Led (t.orStandIn n):=by
 unfold SetTable.orStandIn
 split
 ·exact h
 ·exact gO h.1 n
theorem xQ {t:C7}(h:Led t)(es:Array (Int×bv))(k:Int)(x:bv):Led (layNew t es k x).2.1:=by
 unfold layNew
 split
 ·rename_i j b e
  have l2:Led (t.put j).1:=⟨h.1,xr h.2 (u0 h.2 (tK e))⟩
  exact zC l2 _
 ·exact gO h.1 _
theorem x9 {α:Type}(f:Nat->Option α)(n:Nat):(((zn n).filterMap λj=>(f j).map (j,·)).map (·.1)).Sublist (zn n):=by
 rw[List.map_filterMap]
 have:(λx=>Option.map (λy:Nat×α=>y.1) ((f x).map (x,·)))=λx=>if(f x).isSome then some x else none:=by
  funext x;cases f x <;> rfl
 rw[this]
 have e:(zn n).filterMap (λx=>if(f x).isSome=true then some x else none)=(zn n).filter λx=>(f x).isSome:=by
  induction zn n with
  | nil=>rfl
  | cons a l ih =>
   rw[Dg,F8]
   cases (f a).isSome <;> simp[ih]
 rw[e]
 exact HA
theorem qw {t t':C7}{hs:Array Int}{k:Nat}{o:Array Nat}(h:t.led=true)(e:t.relaid hs k=some (t',o)):Led t':=by
 unfold SetTable.relaid SetTable.laid at e
 cases ho:SetTable.layClean (SetTable.sizeAbove k - 1) hs with
 | none=>rw[ho]at e;cases e
 | some ow =>
  rw[ho]at e
  simp only[Option.bind_eq_bind,EH,Option.pure_def,BG,Du]at e
  obtain⟨rfl,_⟩:=e
  refine⟨h,?_⟩
  unfold Ris
  dsimp only
  exact JJ (x9 (λj=>ow.getD j none) _) Cw
theorem xR {t:C7}(h:t.led=true)(es:Array (Int×bv))(k:Nat):Led (FF t es k).2.1:=by
 unfold FF
 split
 ·rename_i t' o e
  dsimp only
  split
  ·exact qw h e
  ·exact gO h _
 ·exact gO h _
end L2
namespace L2
open PySem PySem.Spec PyProof.Rows
def byT (w:Bf):Bool:=w.params.followText "set-order"
def SetI (P:wT)(w:Bf)(h:Heap)(a:Addr)(ks:List Int):Prop :=
 ∃o es ep t,h.get? a=some o/\o.ExactSet/\o.data = .set es ep t/\Ih (CZ P w) es.toList/\(∀k,k∈ks↔∃e∈es.toList,(CZ P w).is k e.2=true)/\es.size<EG/\t.fits es.size=true/\es.size=ks.length/\(byT w=false->Led t)
section
variable {P:wT}{w:Bf}{A:Bg}{E:bv->db->Prop}{s:db}
theorem SetI.kept {h h':Heap}{a:Addr}{ks:List Int}(hS:SetI P w h a ks)(k:∀o,h.get? a=some o->h'.get? a=some o):SetI P w h' a ks:=by
 obtain⟨o,es,ep,t,ho,r⟩:=hS
 exact⟨o,es,ep,t,k o ho,r⟩
theorem SetI.store {h:Heap}{a:Addr}{o:Obj}{es es':Array (Int×bv)}{ep:Nat}{t t':C7}{ks:List Int}(e:h.get? a=some o)(x:o.ExactSet)(d:o.data = .set es ep t)
  (h1:Ih (CZ P w) es'.toList) (h2:∀k,k∈ks↔∃e∈es'.toList,(CZ P w).is k e.2=true) (h3:es'.size<EG) (h4:t'.fits es'.size=true) (h5:es'.size=ks.length) (h6:byT w=false->Led t') :
  (h.update a (FJ es' t')).get? a=some {o with data:=.set es' (ep+1) t'}/\SetI P w (h.update a (FJ es' t')) a ks:=by
 have g:(h.update a (FJ es' t')).get? a=some {o with data:=.set es' (ep+1) t'}:=by
  rw[Bk (FJ es' t') e (by rw[putSet_of es' t' d];rfl),putSet_of es' t' d]
 exact⟨g,{o with data:=.set es' (ep+1) t'},es',ep+1,t',g,x,rfl,h1,h2,h3,h4,h5,h6⟩
theorem ud {g:Bool->Sem Unit}(hg:∀(b:Bool) (z:db) (q:Unit->db->Prop),q () z->li (o0 P w) A (g b) q E z){a:Addr}{o:Obj}{es e1:Array (Int×bv)}{ep:Nat}{t t2:C7}{ks:List Int}
  (e:s.heap.get? a=some o) (x:o.ExactSet) (d:o.data = .set es ep t)
  (h1:Ih (CZ P w) e1.toList) (h2:∀k,k∈ks↔∃e∈e1.toList,(CZ P w).is k e.2=true) (h3:e1.size<EG) (h4:t2.fits e1.size=true) (h5:e1.size=ks.length) (h6:byT w=false->Led t2)
  {dm:Bool} {R:Option Bool->db->Prop} (h:∀h',Bx a s.heap h'->SetI P w h' a ks->R (some true) {s with heap:=h'}) :
  li (o0 P w) A (do
   storeSet a e1 t2
   if(!dm&&t2.tooFull)=true then do
    g (FF t2 e1 (Dk e1.size)).2.2
    storeSet a (FF t2 e1 (Dk e1.size)).1 (FF t2 e1 (Dk e1.size)).2.1
    pure (some true)
   else pure (some true)) R E s:=by
 refine bn (Jg e d ?_ (DV h3))
 obtain⟨g1,S1⟩:=SetI.store (P:=P) (w:=w) e x d h1 h2 h3 h4 h5 h6
 have b1:=Ci s.heap a (FJ e1 t2)
 split
 ·have p:=relayAll_perm t2 e1 (Dk e1.size)
  have f:=relayAll_fits t2 e1 (Dk e1.size)
  have l:byT w=false->Led (FF t2 e1 (Dk e1.size)).2.1:=λz=>xR (h6 z).1 _ _
  generalize FF t2 e1 (Dk e1.size)=R2 at p f l ⊢
  obtain⟨e2,t3,g2⟩:=R2
  dsimp only at p f l ⊢
  have n2:e2.size=e1.size:=by have:=p.length_eq;simpa using this
  refine bn (hg _ _ _ ?_)
  refine bn (Jg g1 rfl ?_ (DV (by omega)))
  obtain⟨_,S2⟩:=SetI.store (P:=P) (w:=w) (ks:=ks) g1 x rfl (ElemsOf.perm h1 p) (λk=>(h2 k).trans ⟨λ⟨y,hy,z⟩=>⟨y,p.mem_iff.mpr hy,z⟩,λ⟨y,hy,z⟩=>⟨y,p.mem_iff.mp hy,z⟩⟩) (by omega) f (by omega) l
  exact kt (h _ (b1.trans (Ci _ a _)) S2)
 ·exact kt (h _ b1 S1)
theorem z8 (ks:List Int)(k j:Int):j∈Dm ks k↔j∈ks∨j=k:=by
 unfold Dm
 split
 ·rename_i h
  rw[CD]at h
  obtain⟨y,hy,e⟩:=h
  have:y=k:=by simpa using e
  subst this
  exact⟨.inl,λz=>z.elim id λe=>e▸hy⟩
 ·simp
theorem ym {ks:List Int}{k:Int}(h:k∈ks):Dm ks k=ks:=by
 unfold Dm
 rw[if_pos (CD.mpr ⟨k,h,by simp⟩)]
theorem tT {ks:List Int}{k:Int}(h:k∉ks):Dm ks k=ks++[k]:=by
 unfold Dm
 rw[if_neg (λz=>by obtain⟨y,hy,e⟩:=CD.mp z;exact h ((by simpa using e:y=k)▸hy))]
theorem AF {a:Addr}{ks:List Int}{k:Int}{x:bv}{Q:Bool->db->Prop}(hk:(CZ P w).is k x=true)(hx:x.scannable=true)(hS:SetI P w s.heap a ks)(hr:ks.length+1<EG)
  (h:∀h' b,Bx a s.heap h'->SetI P w h' a (Dm ks k)->Q b {s with heap:=h'}):li (o0 P w) A (setAddHashed a x ((CZ P w).hash k)) Q E s:=by
 obtain⟨o,es,ep,t,ho,ex,d,el,me,bd,fi,le,ld⟩:=hS
 unfold setAddHashed setAddHashedIn
 refine C2 (bn (Ds ho d fi ?_));dsimp only
 rw[byScan_of hx bd el];simp only[if_true]
 unfold setAddByScan
 refine bn (bn (C6 (bn (wpAny_setScan_of hk ho d fi el ?_))))
 cases hf:List.findIdx? (λe=>(CZ P w).is k e.2) es.toList with
 | some j =>
  dsimp only
  obtain⟨lj,pj,_⟩:=List.findIdx?_eq_some_iff_getElem.mp hf
  have kin:k∈ks:=(me k).mpr ⟨_,DS lj,pj⟩
  refine kt (kt ?_)
  have:=h s.heap false (GP a s.heap) (by rw[ym kin];exact⟨o,es,ep,t,ho,ex,d,el,me,bd,fi,le,ld⟩)
  exact this
 | none =>
  dsimp only
  have kout:k∉ks:=λz=>by
   obtain⟨y,hy,q⟩:=(me k).mp z
   have:=List.findIdx?_eq_none_iff.mp hf y hy
   rw[q]at this;cases this
  have gw:∀(b:Bool) {z:db} {q:Unit->db->Prop},q () z->li (o0 P w) A (match b with | true=>rule "set.scan.the-table-gave-way" | false=>pure ()) q E z:=λb z q hq=>by
   cases b
   ·exact kt hq
   ·exact C6 hq
  have pe:=layNew_perm t es ((CZ P w).hash k) x
  have fe:=layNew_fits t es ((CZ P w).hash k) x
  have lf:byT w=false->Led (layNew t es ((CZ P w).hash k) x).2.1:=λz=>xQ (ld z) _ _ _
  generalize layNew t es ((CZ P w).hash k) x=L at pe fe lf ⊢
  obtain⟨e1,t1,dm,gv⟩:=L
  dsimp only at pe fe lf ⊢
  rw[FN]at pe
  have el1:Ih (CZ P w) e1.toList:=(ElemsOf.push el hk hx).perm pe
  have n1:e1.size=ks.length+1:=by have:=pe.length_eq;simp at this;omega
  have me1:∀j,j∈ks++[k]↔∃e∈e1.toList,(CZ P w).is j e.2=true:=λj=>by
   rw[Bq,me j,wE]
   constructor
   ·rintro(⟨y,hy,q⟩ | rfl)
    ·exact⟨y,pe.mem_iff.mpr (Bu _ hy),q⟩
    ·exact⟨_,pe.mem_iff.mpr (lm _ (wE.mpr rfl)),hk⟩
   ·rintro⟨y,hy,q⟩
    rcases Bq.mp (pe.mem_iff.mp hy)with hy | hy
    ·exact .inl ⟨y,hy,q⟩
    ·rw[wE.mp hy]at q
     exact .inr ((CZ P w).inj x j k q hk)
  refine bn (gw _ ?_)
  have fin:∀h',Bx a s.heap h'->SetI P w h' a (ks++[k])->Q true {s with heap:=h'}:=λh' b z=>h h' true b (by rw[tT kout];exact z)
  split
  ·refine bn ?_
   rw[hashByValue_scannable 8 hx]
   refine kt ?_
   refine ud ?_ ho ex d el1 me1 (by omega) ?_ (by rw[A2];simpa using n1) ?_ ?_
   ·intro b z q hq
    cases b
    ·exact kt hq
    ·exact C6 hq
   ·split
    ·exact fe
    ·exact SetTable.fits_plain_off fe
   ·intro z
    split
    ·exact lf z
    ·exact lf z
   ·intro h' b z
    exact kt (fin h' b z)
  ·refine bn (kt ?_)
   simp only[if_true]
   refine ud ?_ ho ex d el1 me1 (by omega) fe (by rw[A2];simpa using n1) lf ?_
   ·intro b z q hq
    cases b
    ·exact kt hq
    ·exact C6 hq
   ·intro h' b z
    exact kt (fin h' b z)
end
end L2
set_option maxHeartbeats 3200000
namespace L2
open PySem PySem.Spec PyProof.Rows
def setO (w:Bf):Obj:={cls:=.type "set",dict:=none,data:=.set #[] 0 (.fresh 0 0 (!byT w))}
section
variable {P:wT}{w:Bf}{A:Bg}{E:bv->db->Prop}{s:db}
theorem uI (h:Heap):SetI P w (h.push (setO w)) h.objs.size [] :=
 ⟨setO w,#[],0,_,wv _ rfl,⟨rfl,rfl,rfl⟩,rfl,λe he=>by simp at he,λk=>by simp,by decide,by rfl,rfl,λz=>⟨by simp[HN,z],by simp[Ris,HN]⟩⟩
variable {R:D3->db->Prop}{I:Addr}{fp wr:List Addr}{G:Array Hq->Array Hq->Prop}{n:Nat}{p:Nat->bv->Prop}{St:Nat->db->Prop}
end
end L2
set_option maxHeartbeats 1000000
namespace L2
open PySem PySem.Spec PyProof.Rows
theorem cM:Slot "set_iterator" "__next__" "set_iterator.__next__" :=
 .of (owner := "set_iterator") (n := "__next__") (by rw[Fn,Ea];kernel_rfl) (by decide +kernel) (by decide +kernel) (by decide +kernel) (by first | exact .inl (by decide +kernel) | exact .inr (by decide +kernel)) (by rw[G_];kernel_rfl)
theorem gU:entryFor table "set_iterator.__next__" = some Builtin.«set_iterator.__next__»:=entryFor_of_tree (by kernel_rfl)
theorem ir:Slot "set_iterator" "__iter__" "set_iterator.__iter__" :=
 .of (owner := "set_iterator") (n := "__iter__") (by rw[Fn,Ea];kernel_rfl) (by decide +kernel) (by decide +kernel) (by decide +kernel) (by first | exact .inl (by decide +kernel) | exact .inr (by decide +kernel)) (by rw[G_];kernel_rfl)
theorem mD:entryFor table "set.__iter__" = some Builtin.«frozenset.__iter__»:=entryFor_alias (id' := "frozenset.__iter__") (by kernel_rfl) rfl (by decide +kernel) (by kernel_rfl)
theorem ib {α:Type}:∀(l:List α) (i:Nat) (h:i<l.length),(l[i]::l.eraseIdx i).Perm l
 | a::l,0,_=>.refl _
 | a::l,i+1,h=>(List.Perm.swap _ _ _).trans (List.Perm.cons a (ib l i (by simpa using h)))
theorem sd {α:Type}(f:Nat->Nat):∀(n k:Nat) (l:List α) (o:Array α),l.length=n->List.Perm (Gq f n k l o).toList (o.toList++l)
 | 0,k,l,o,h=>by
  obtain rfl:l=[]:=D7 h
  unfold Gq;simp
 | n+1,k,l,o,h=>by
  unfold Gq
  have lt:f k % l.length<l.length:=Nat.mod_lt _ (by omega)
  rw[im lt]
  dsimp only
  refine(sd f n (k+1) _ _ (by rw[GF lt];omega)).trans ?_
  rw[FN,BK]
  exact GH _ (ib l _ lt)
theorem r_ {α:Type}(f:Nat->Nat)(xs:Array α):List.Perm (Jz f xs).toList xs.toList:=by
 have:=sd f xs.size 0 xs.toList #[] (by simp)
 simpa [Jz] using this
theorem j5:∀ {ks ms:List Int},ks.Nodup->(∀k∈ks,k∈ms)->ms.length=ks.length->ms.Perm ks
 | [],ms,_,_,h=>by rw[D7 h]
 | k::ks,ms,hn,hm,h=>by
  obtain⟨h1,h2⟩:=Eb.mp hn
  have hk:=hm k (.head _)
  have p:=Ht hk
  refine p.trans (List.Perm.cons k (j5 h2 (λj hj=>?_) ?_))
  ·have ne:j≠k:=λe=>h1 (by rw[<- e];exact hj)
   exact(List.mem_erase_of_ne ne).mpr (hm j (.tail _ hj))
  ·rw[GX hk,h];simp
section
variable {P:wT}{w:Bf}{A:Bg}{E:bv->db->Prop}{s:db}
theorem qQ {src:Source}{n:Nat}{Q:Nat->db->Prop}(hn:n≠0)(h:∀i d,i<n->Q i {s with drawn:=d}):li (o0 P w) A (choose src n) Q E s:=by
 intro Γ p hΓ
 unfold choose
 simp only[Sem.wp]
 exact⟨hn,h _ _ (Nat.mod_lt _ (FK hn))⟩
theorem uo {α:Type}(n:Nat):∀(xs:List α) {s:db} {Q:List α->db->Prop},xs.length=n->(∀ys d,ys.Perm xs->Q ys {s with drawn:=d})->li (o0 P w) A (HH n xs) Q E s:=by
 induction n with
 | zero =>
  intro xs s Q hl h
  obtain rfl:xs=[]:=D7 hl
  unfold HH
  exact kt (h [] s.drawn (.refl _))
 | succ n ih =>
  intro xs s Q hl h
  cases xs with
  | nil=>cases hl
  | cons x xs =>
  unfold HH
  refine bn (qQ (by simp) λi d hi=>?_)
  rw[im hi]
  refine bn (ih _ (by rw[GF hi,hl];rfl) λys d' hp=>?_)
  exact kt (h _ d' ((List.Perm.cons _ hp).trans (ib _ i hi)))
theorem v_ {s:db}{Q:bv->db->Prop}{R:bv->db->Prop}{α:Type}{q:α->db->Prop}(hh:A.handled=none)(h:∀x h',(∀b o,s.heap.get? b=some o->h'.get? b=some o)->({s with heap:=h'}:db).TypeIs x "StopIteration" -> R x {s with heap:=h'}) :
  li (o0 P w) A (newExc (.type "StopIteration") []>>=λx=>(raiseNew x:Sem α)) q R s:=by
 have ho:∃n,n<=10/\(ownMembersOf (Value.type "StopIteration") []).size=n:=by
  first
  | exact⟨_,by decide,rfl⟩
  | exact⟨(ownMembersOf (Value.type "StopIteration") []).size,by decide +kernel,rfl⟩
 obtain⟨no,hno,eno⟩:=ho
 refine bn (bn (B5 (bn (Iz rfl (B5 ?_ (by first | trivial | (unfold sizeOk;trivial) | (simp[sizeOk,Et,eno];omega) | (simp only[sizeOk,Array.size_append,eno,Et];simp;omega))))) (by show 0<=xL;decide)))
 refine bn (wpAny_handled ?_)
 rw[hh]
 refine bn (kt (wpAny_throw (h _ _ (λb o q=>dL _ (dL _ q)) ?_)))
 exact⟨_,wv _ rfl,rfl⟩
def itO (f:bv)(i:Nat)(S:Addr)(n ep:Nat):Obj:={cls:=.type "set_iterator",data:=.fields #[f,BN (i:Nat),.ref S,BN (n:Nat),BN (ep:Nat)]}
variable {I S:Addr}{o:Obj}{es:Array (Int×bv)}{ep:Nat}{t:C7}
theorem pF {f i:Nat}{r:Option (bv×Nat)}{Q:Option bv->db->Prop}(hh:A.handled=none)(hI:s.heap.get? I=some (itO (BN (f:Nat)) i S es.size ep))(hS:s.heap.get? S=some o)(hd:o.data = .set es ep t)(hf:t.fits es.size=true)
  (hn:∀(A:Bg) (E:bv->db->Prop) (q:Option (bv×Nat)->db->Prop),q r s->li (o0 P w) A (Gp S f i ep) q E s)
  (hq:∀x k h',r=some (x,k)->h'.get? I=some (itO (BN (k:Nat)) (i+1) S es.size ep)->(∀b o,b≠I->s.heap.get? b=some o->h'.get? b=some o)->Q (some x) {s with heap:=h'})
  (he:∀h',r=none->(∀b o,b≠I->s.heap.get? b=some o->h'.get? b=some o)->Q none {s with heap:=h'}):li (o0 P w) A (DD (.ref I)) Q E s:=by
 have hT:s.TypeIs (.ref I) "set_iterator" := by
  first
  | exact⟨_,hI,rfl⟩
  | exact⟨_,_,hI,rfl⟩
 refine bn (EY (CQ hT cM (Ct cM hT gU (bn (kt (bn (wpAny_fieldsOf hI rfl ?_)))))))
 show li _ _ (setEntries S>>=_) _ _ _
 refine bn (FY hS hd hf ?_)
 show li _ _ (ite (((es.size:Int) != (es.size:Int))=true) _ _) _ _ _
 rw[if_neg (by simp)]
 show li _ _ (Gp S f i ep>>=_) _ _ _
 refine bn (hn _ _ _ ?_)
 cases r with
 | some p =>
  obtain⟨x,k⟩:=p
  refine bn (Cp hI (by show 0<5;decide) λh1 g1 sb1=>?_)
  refine bn (Cp g1 (by show 1<5;decide) λh2 g2 sb2=>?_)
  exact kt ⟨_,rfl,kt (hq x k h2 rfl g2 λb o hb q=>(sb2.2 b hb).trans ((sb1.2 b hb).trans q))⟩
 | none =>
  refine bn (Cp hI (by show 2<5;decide) λh1 g1 sb1=>?_)
  refine v_ (Q:=λ_ _=>True) (by exact hh) λx h' hk hx=>?_
  refine bn (Fa (T := "StopIteration") hx Ha (kt (he h' rfl λb o hb q=>hk b o ((sb1.2 b hb).trans q))))
theorem j9 {T:Addr}{i:Nat}{ps:List Nat}{Q:Option bv->db->Prop}(hh:A.handled=none)(hI:s.heap.get? I=some (itO (.ref T) i S es.size ep))(hT2:s.heap.get? T=some {cls:=.type "tuple",data:=.seq (ps.map λp=>BN (p:Nat)).toArray})(hS:s.heap.get? S=some o)(hd:o.data = .set es ep t)(hf:t.fits es.size=true)
  (hq:∀p e h',ps[i]? = some p->es[p]? = some e->h'.get? I=some (itO (.ref T) (i+1) S es.size ep)->(∀b o,b≠I->s.heap.get? b=some o->h'.get? b=some o)->Q (some e.2) {s with heap:=h'}) (hp:∀p∈ps,p<es.size)
  (he:∀h',ps[i]? = none->(∀b o,b≠I->s.heap.get? b=some o->h'.get? b=some o)->Q none {s with heap:=h'}):li (o0 P w) A (DD (.ref I)) Q E s:=by
 have hT:s.TypeIs (.ref I) "set_iterator" := by
  first
  | exact⟨_,hI,rfl⟩
  | exact⟨_,_,hI,rfl⟩
 refine bn (EY (CQ hT cM (Ct cM hT gU (bn (kt (bn (wpAny_fieldsOf hI rfl ?_)))))))
 show li _ _ (setEntries S>>=_) _ _ _
 refine bn (FY hS hd hf ?_)
 show li _ _ (ite (((es.size:Int) != (es.size:Int))=true) _ _) _ _ _
 rw[if_neg (by simp)]
 show li _ _ (Jy (.ref T)>>=_) _ _ _
 refine bn (FD hT2 rfl ?_)
 dsimp only
 rw[List.getElem?_toArray,B4,wP]
 cases hx:ps[i]? with
 | some p =>
  have lp:=hp p (BC hx)
  have ge:es[p]? = some es[p]:=Cc lp
  show li _ _ (setNextDrawn S p ep>>=_) _ _ _
  refine bn ?_
  unfold setNextDrawn
  refine bn (Ds hS hd hf ?_)
  show li _ _ (ite ((ep != ep)=true) _ _) _ _ _
  rw[if_neg (by simp)]
  show li _ _ (match es[p]? with | some (_,x)=>pure x | _=>_) _ _ _
  rw[ge]
  refine kt ?_
  refine bn (Cp hI (by show 1<5;decide) λh1 g1 sb1=>?_)
  exact kt ⟨_,rfl,kt (hq p es[p] h1 hx ge g1 λb o hb q=>(sb1.2 b hb).trans q)⟩
 | none =>
  show li _ _ (G9 (.ref I) 0 (BN 0)>>=_) _ _ _
  refine bn (Cp hI (by show 0<5;decide) λh1 g1 sb1=>?_)
  refine bn (Cp g1 (by show 2<5;decide) λh2 g2 sb2=>?_)
  refine v_ (Q:=λ_ _=>True) (by exact hh) λx h' hk hx'=>?_
  exact bn (Fa (T := "StopIteration") hx' Ha (kt (he h' hx λb o hb q=>hk b o ((sb2.2 b hb).trans ((sb1.2 b hb).trans q)))))
theorem xm {f i:Nat}{Q:Option (bv×Nat)->db->Prop}(hb:byT w=true)(hS:s.heap.get? S=some o)(hd:o.data = .set es ep t)(hf:t.fits es.size=true)
  (h:Q (((Jz (w.params.setOrder S ep) es)[i]?).map λe=>(e.2,f)) s):li (o0 P w) A (Gp S f i ep) Q E s:=by
 unfold byT at hb
 unfold Gp Gb
 refine bn (Ds hS hd hf ?_)
 refine bn (bn (C4 (kt ?_)))
 show li _ _ (ite (w.params.followText "set-order" = true) _ _) _ _ _
 rw[if_pos hb]
 show li _ _ (ite ((ep != ep)=true) _ _) _ _ _
 rw[if_neg (by simp)]
 unfold setWalk Gb
 refine bn (bn (Ds hS hd hf ?_))
 refine bn (bn (C4 (kt ?_)))
 show li _ _ (ite (w.params.followText "set-order" = true) _ _) _ _ _
 rw[if_pos hb]
 exact bn (C4 (kt (kt h)))
theorem xo {f i:Nat}{Q:Option (bv×Nat)->db->Prop}(hb:byT w=false)(hp:(!t.plain&&decide (es.size > 1))=false)(hl:t.led=true)(hS:s.heap.get? S=some o)(hd:o.data = .set es ep t)(hf:t.fits es.size=true)
  (h:Q (match es[Bw t.place f]?,t.place[Bw t.place f]? with | some (_,x),some j=>some (x,j+1) | _,_=>none) s):li (o0 P w) A (Gp S f i ep) Q E s:=by
 unfold byT at hb
 unfold Gp Gb
 refine bn (Ds hS hd hf ?_)
 refine bn (bn (C4 (kt ?_)))
 show li _ _ (ite (w.params.followText "set-order" = true) _ _) _ _ _
 rw[if_neg (by rw[hb];simp)]
 show li _ _ (ite ((!t.plain&&decide (es.size > 1))=true) _ _) _ _ _
 rw[if_neg (by rw[hp];simp)]
 show li _ _ (ite ((!t.led && !es.isEmpty)=true) _ (pure ())>>=_) _ _ _
 rw[if_neg (by rw[hl];simp)]
 exact bn (kt (kt h))
end
theorem ly:entryFor table "set_iterator.__iter__" = some Builtin.«dict_keyiterator.__iter__»:=entryFor_alias (id' := "dict_keyiterator.__iter__") (by kernel_rfl) rfl (by decide +kernel) (by kernel_rfl)
theorem tM {α:Type}{es:Array α}:∀(ps:List Nat),(∀p∈ps,p<es.size)->(ps.filterMap λp=>es[p]?).length=ps.length
 | [],_=>rfl
 | p::ps,h=>by
  rw[Dg,Cc (h p (.head _))]
  simp[tM ps λq hq=>h q (.tail _ hq)]
theorem z5 {α:Type}{es:Array α}:∀(ps:List Nat),(∀p∈ps,p<es.size)->∀i:Nat,(ps.filterMap λp=>es[p]?)[i]? = (ps[i]?).bind λp=>es[p]?
 | [],_,i=>by simp
 | p::ps,h,i=>by
  rw[Dg,Cc (h p (.head _))]
  cases i with
  | zero=>simp[h p (.head _)]
  | succ i=>simpa using z5 ps (λq hq=>h q (.tail _ hq)) i
section
variable {P:wT}{w:Bf}{A:Bg}{E:bv->db->Prop}{s:db}{I S:Addr}{o:Obj}{es:Array (Int×bv)}{ep:Nat}{t:C7}
theorem rK {f:bv}{i n:Nat}{Q:bv->db->Prop}(hI:s.heap.get? I=some (itO f i S n ep))(h:Q (.ref I) s):li (o0 P w) A (Gc (.ref I)) Q E s:=by
 have hT:s.TypeIs (.ref I) "set_iterator" := by
  first
  | exact⟨_,hI,rfl⟩
  | exact⟨_,_,hI,rfl⟩
 refine Jh hT ir (Ct ir hT ly ?_)
 exact(show li _ _ (ret (.ref I)) _ _ s from kt ⟨_,rfl, "set_iterator",_,hT,cM.lookup,h⟩)
theorem oH (hh:A.handled=none)(hne:S≠I)(hd:o.data = .set es ep t)(hf:t.fits es.size=true)(vs:List bv)(nx:Nat->Nat)
  (hs:∀i (s:db),i<=vs.length->s.heap.get? S=some o->∀(A:Bg) (E:bv->db->Prop) (q:Option (bv×Nat)->db->Prop),q ((vs[i]?).map λx=>(x,nx (i+1))) s->li (o0 P w) A (Gp S (nx i) i ep) q E s) :
  Walks P w A I [I,S] [I] vs.length (λi v=>vs[i]? = some v) (λi h=>h.get? I=some (itO (BN (nx i:Nat)) i S es.size ep)/\h.get? S=some o) where
 sub:=λb hb=>by simp at hb;simp[hb]
 frame:=λ_ _ _ st hk=>⟨hk I (by simp) _ st.1,hk S (by simp) _ st.2⟩
 item:=λi s Q E hi st hQ=>by
  have gv:vs[i]? = some vs[i]:=im hi
  refine pF hh st.1 st.2 hd hf (hs i s (by omega) st.2) (λx k h' e g kp=>?_) (λh' e=>?_)
  ·rw[gv]at e
   simp only[EV,BG,Du]at e
   obtain⟨rfl,rfl⟩:=e
   exact hQ _ h' s.toks gv ⟨g,kp S _ hne st.2⟩ λb o hb q=>kp b o (λz=>hb (by simp[z])) q
  ·rw[gv]at e;cases e
 done:=λs Q E st hQ=>by
  have gn:vs[vs.length]? = none:=by simp
  refine pF hh st.1 st.2 hd hf (hs vs.length s (wl _) st.2) (λx k h' e g kp=>?_) (λh' e kp=>?_)
  ·rw[gn]at e;cases e
  ·exact hQ h' s.toks λb o hb q=>kp b o (λz=>hb (by simp[z])) q
 self:=λ_ _ _ _ st hQ=>rK st.1 hQ
theorem p6 {T:Addr}(hh:A.handled=none)(hne:S≠I)(hn2:T≠I)(hd:o.data = .set es ep t)(hf:t.fits es.size=true)(ps:List Nat)(hp:∀p∈ps,p<es.size)(hl:ps.length=es.size) :
  Walks P w A I [I,S,T] [I] (ps.filterMap λp=>es[p]?).length (λi v=>(((ps.filterMap λp=>es[p]?).map (·.2))[i]? = some v)) (λi h=>h.get? I=some (itO (.ref T) i S es.size ep)/\h.get? S=some o/\h.get? T=some {cls:=.type "tuple",data:=.seq (ps.map λp=>BN (p:Nat)).toArray}) where
 sub:=λb hb=>by simp at hb;simp[hb]
 frame:=λ_ _ _ st hk=>⟨hk I (by simp) _ st.1,hk S (by simp) _ st.2.1,hk T (by simp) _ st.2.2⟩
 item:=λi s Q E hi st hQ=>by
  have fm:=z5 ps hp
  refine j9 hh st.1 st.2.2 st.2.1 hd hf (λp e h' e1 e2 g kp=>?_) hp (λh' e=>?_)
  ·refine hQ _ h' s.toks ?_ ⟨g,kp S _ hne st.2.1,kp T _ hn2 st.2.2⟩ λb o hb q=>kp b o (λz=>hb (by simp[z])) q
   rw[wP,fm,e1]
   simp[e2]
  ·have:ps.length<=i:=List.getElem?_eq_none_iff.mp e
   rw[tM ps hp]at hi
   omega
 done:=λs Q E st hQ=>by
  refine j9 hh st.1 st.2.2 st.2.1 hd hf (λp e h' e1 e2 g kp=>?_) hp (λh' e kp=>?_)
  ·rw[tM ps hp]at e1
   simp at e1
  ·exact hQ h' s.toks λb o hb q=>kp b o (λz=>hb (by simp[z])) q
 self:=λ_ _ _ _ st hQ=>rK st.1 hQ
end
def nxS (t:C7):Nat->Nat
 | 0=>0
 | k+1=>t.place.getD k 0+1
section
variable {P:wT}{w:Bf}{A:Bg}{E:bv->db->Prop}{s:db}{I S:Addr}{o:Obj}{es:Array (Int×bv)}{ep:Nat}{t:C7}
theorem nX:∀ {l:List (Int×bv)},Ih (CZ P w) l->∃ms,DK (l.map (·.2)) ms/\∀k,k∈ms↔∃e∈l,(CZ P w).is k e.2=true
 | [],_=>⟨[],.nil,λk=>by simp⟩
 | e::l,h=>by
  obtain⟨ms,h1,h2⟩:=nX h.tail
  obtain⟨⟨k,hk,_⟩,_⟩:=h.head
  obtain⟨tk,ev⟩:=HM hk
  refine⟨k::ms,by rw[A1,ev];exact .cons k tk h1,λj=>?_⟩
  rw[wn,h2 j]
  constructor
  ·rintro(rfl | ⟨y,hy,q⟩)
   ·exact⟨e,.head _,hk⟩
   ·exact⟨y,.tail _ hy,q⟩
  ·rintro⟨y,hy,q⟩
   rcases wn.mp hy with rfl | hy
   ·exact .inl ((CZ P w).inj _ j k q hk)
   ·exact .inr ⟨y,hy,q⟩
theorem zQ {ks:List Int}{Q:bv->db->Prop}(hh:A.handled=none)(hS:SetI P w s.heap S ks)(hk:ks.Nodup)
  (h:∀h' d I fp vs ms St,(∀b o,s.heap.get? b=some o->h'.get? b=some o)->DK vs ms->ms.Perm ks->Walks P w A I fp [I] vs.length (λi v=>vs[i]? = some v) St->St 0 h'->(∀b∈fp,b=S∨s.heap.objs.size<=b)->s.heap.objs.size<=I->Q (.ref I) {s with heap:=h',drawn:=d}) :
  li (o0 P w) A (Gc (.ref S)) Q E s:=by
 obtain⟨o,es,ep,t,ho,ex,d,el,me,bd,fi,le,ld⟩:=hS
 obtain⟨⟨oc,od,oda,osl⟩,ho,ex,d⟩:∃o:Obj,s.heap.get? S=some o/\o.ExactSet/\o.data = .set es ep t:=⟨o,ho,ex,d⟩
 have hT:s.TypeIs (.ref S) "set" := ⟨_,ho,ex.1⟩
 have hlt:S<s.heap.objs.size:=lc ho
 obtain⟨ms,m1,m2⟩:=nX el
 have mp:∀ {l:List (Int×bv)},l.Perm es.toList->∃ms',DK (l.map (·.2)) ms'/\ms'.Perm ks:=λ{l} q=>by
  obtain⟨ms',a1,a2⟩:=nX (el.perm q)
  have hl:ms'.length=ks.length:=by
   have:=Gi a1
   rw[lw,q.length_eq,Cz]at this
   omega
  refine⟨ms',a1,j5 hk (λk kk=>?_) hl⟩
  obtain⟨e,he,z⟩:=(me k).mp kk
  exact(a2 k).mpr ⟨e,q.mem_iff.mpr he,z⟩
 refine Jh hT GW (Ct GW hT mD ?_)
 unfold Builtin.«frozenset.__iter__» IK
 refine bn (bn (kt (kt ?_)))
 unfold IL
 refine bn (bn (FY ho d fi (kt ?_)))
 unfold setDrawn Gb
 refine bn (bn (Ds ho d fi (bn (bn (C4 (kt (kt ?_)))))))
 show li _ _ (ite ((!byT w&&(!t.plain&&decide (es.size > 1)))=true) (HH es.size (zn es.size)>>=_) _) _ _ _
 have hz:es.size<=xL:=DV bd
 have fin:∀(f:bv) (h1:Heap) (dr:Jv) (fp:List Addr) (vs:List bv) (ms:List Int) (St:Nat->Heap->Prop),(∀b o,s.heap.get? b=some o->h1.get? b=some o)->s.heap.objs.size<=h1.objs.size->DK vs ms->ms.Perm ks ->
   Walks P w A h1.objs.size fp [h1.objs.size] vs.length (λi v=>vs[i]? = some v) St->St 0 (h1.push (itO f 0 S es.size ep))->(∀b∈fp,b=S∨s.heap.objs.size<=b) ->
   li (o0 P w) A.in1 (do let e <- setEpoch S;let x <- HF "set_iterator" [f,BN 0,Value.ref S,BN (es.size:Nat),BN (e:Nat)];ret x) (λfin s'=>∃v,fin=Fin.done (Flow.ret v)/\∃T' r,s'.TypeIs v T'/\Ga (Value.type T') (Ev "__next__")=pure (some r)/\Q v s') E {s with heap:=h1,drawn:=dr}:=by
  intro f h1 dr fp vs ms St k1 k2 a1 a2 W st hb
  refine bn (wpAny_setEpoch_of (s:={s with heap:=h1,drawn:=dr}) (k1 _ _ ho) d fi ?_)
  unfold HF
  refine bn (B5 (kt ⟨_,rfl, "set_iterator",_,⟨_,wv _ rfl,rfl⟩,cM.lookup,?_⟩) (by show 5<=xL+2;decide))
  exact h _ dr _ fp vs ms St (λb o q=>dL _ (k1 b o q)) a1 a2 W st hb k2
 by_cases hdr:(!byT w&&(!t.plain&&decide (es.size > 1)))=true
 ·rw[if_pos hdr]
  refine bn (uo _ _ (by simp) λps dr hp=>?_)
  have lp:∀p∈ps,p<es.size:=λp q=>Bv.mp (hp.mem_iff.mp q)
  have ll:ps.length=es.size:=by rw[hp.length_eq];simp
  refine bn (wpAny_newTuple ?_ (by rw[lw,ll];exact hz))
  have pp:(ps.filterMap λp=>es[p]?).Perm es.toList:=(hp.filterMap _).trans (by rw[filterMap_getElem?_range])
  obtain⟨ms',a1,a2⟩:=mp pp
  have nT:s.heap.objs.size≠(s.heap.push {cls:=.type "tuple",data:=.seq (ps.map λi=>BN (i:Nat)).toArray}).objs.size:=by rw[B8];exact ww (CV _)
  have nS:S≠(s.heap.push {cls:=.type "tuple",data:=.seq (ps.map λi=>BN (i:Nat)).toArray}).objs.size:=by rw[B8];exact ww (EI hlt)
  have W:=p6 (P:=P) (w:=w) (A:=A) hh nS nT d fi ps lp ll
  have el2:(ps.filterMap λp=>es[p]?).length=((ps.filterMap λp=>es[p]?).map (·.2)).length:=by rw[lw]
  rw[el2]at W
  refine fin (.ref s.heap.objs.size) _ dr [_,S,s.heap.objs.size] ((ps.filterMap λp=>es[p]?).map (·.2)) ms' _ (λb o q=>dL _ q) (by rw[B8];exact EJ _) a1 a2 W ⟨wv _ rfl,dL _ (dL _ ho),dL _ (wv _ rfl)⟩ λb hb=>?_
  rcases wn.mp hb with rfl | hb
  ·exact .inr (by rw[B8];exact EJ _)
  ·rcases wn.mp hb with rfl | hb
   ·exact .inl rfl
   ·rw[wE.mp hb];exact .inr (wl _)
 ·rw[if_neg hdr]
  refine bn (kt ?_)
  have nS:S≠s.heap.objs.size:=ww hlt
  have hfp:∀b∈[s.heap.objs.size,S],b=S∨s.heap.objs.size<=b:=λb hb=>by
   rcases wn.mp hb with rfl | hb
   ·exact .inr (wl _)
   ·exact .inl (wE.mp hb)
  cases hb:byT w with
  | true =>
   have pp:=r_ (w.params.setOrder S ep) es
   obtain⟨ms',a1,a2⟩:=mp pp
   refine fin (BN 0) s.heap s.drawn [s.heap.objs.size,S] _ ms' _ (λb o q=>q) (wl _) a1 a2 (oH hh nS d fi _ (λ_=>0) λi z hi hz' A' E' q hq=>xm hb hz' d fi ?_) ⟨wv _ rfl,dL _ ho⟩ hfp
   rw[wP,E9,Option.map_map]at hq
   exact hq
  | false =>
   obtain⟨l1,l2⟩:=ld hb
   rw[hb]at hdr
   have hpl:(!t.plain&&decide (es.size > 1))=false:=by
    cases z:(!t.plain&&decide (es.size > 1))with
    | false=>rfl
    | true=>rw[z]at hdr;exact absurd rfl hdr
   have sz:t.place.size=es.size:=by
    simp only[SetTable.fits,A7,beq_iff_eq]at fi
    exact fi.1
   obtain⟨ms',a1,a2⟩:=mp (l:=es.toList) (.refl _)
   refine fin (BN 0) s.heap s.drawn [s.heap.objs.size,S] _ ms' _ (λb o q=>q) (wl _) a1 a2 (oH hh nS d fi _ (nxS t) λi z hi hz' A' E' q hq=>xo hb hpl l1 hz' d fi ?_) ⟨wv _ rfl,dL _ ho⟩ hfp
   rw[lw,Cz]at hi
   have hbl:Bw t.place (nxS t i)=i:=by
    cases i with
    | zero=>exact qO l2
    | succ k =>
     have lk:k<t.place.size:=by omega
     have:=qP l2 lk
     simpa [nxS,HD,lk] using this
   rw[hbl]
   rw[wP,E9]at hq
   by_cases hi':i<es.size
   ·have g1:es[i]? = some es[i]:=Cc hi'
    have g2:t.place[i]? = some t.place[i]:=Cc (by omega)
    rw[g1]at hq ⊢
    rw[g2]
    have e3:t.place.getD i 0=t.place[i]:=by simp[HD,show i<t.place.size by omega]
    simp only[EV,nxS,e3]at hq
    exact hq
   ·have g1:es[i]? = none:=G2 (by omega)
    rw[g1]at hq ⊢
    exact hq
end
section
variable {P:wT}{w:Bf}{A:Bg}{E:bv->db->Prop}{s:db}{S:Addr}
theorem vo {Q:Bool->db->Prop}(hT:s.TypeIs (.ref S) "set")(h:Q false s):li (o0 P w) A (DO (.ref S)) Q E s:=by
 unfold DO
 refine bn (Fm hT PySem.F.slot_set_len.lookup ?_)
 generalize hid:("set.__len__" : String)=id0
 wp_delta
 rw[show splitId id0=some ("set", "__len__")from by subst hid;decide +kernel]
 subst hid
 refine bn (Fa (T := "set") (b:=true) hT (by rw[G_];kernel_rfl) ?_)
 refine GZ (λz=>absurd z (by decide)) (λ_=>GZ (λ_=>bn (HZ hT (kt h))) (λz=>absurd (by decide +kernel) z))
theorem Aw {ks:List Int}{R:D3->db->Prop}(hh:A.handled=none)(hS:SetI P w s.heap S ks)(hk:ks.Nodup)(hz:ks.length<4096)(L:Addr)(hL:L≠S)(res:bv)(c:Nat)(gL:s.heap.get? L=some {cls:=.type "list",data:=.seq #[] c})
  (hR:∀h' tk dr acc c' ms,(∀b o,b≠L->s.heap.get? b=some o->h'.get? b=some o)->h'.get? L=some {cls:=.type "list",dict:=none,data:=.seq acc c',slots:=#[]}->DK acc.toList ms->ms.Perm ks->R (.ok (.ret res)) {s with heap:=h',toks:=tk,drawn:=dr}) :
  li (o0 P w) A.in1 (Cg (.ref L) (.ref S) res)
   (λfin s'=>match fin with | .done f=>R (.ok f) s' | .again c'=>c'.quiet=true/\B7 (o0 P w) A c' R s') (λe s'=>R (.error e) s') s:=by
 have hT:s.TypeIs (.ref S) "set" := by
  obtain⟨o,_,_,_,ho,ex,_⟩:=hS
  exact⟨_,ho,ex.1⟩
 have lL:=lc gL
 unfold Cg
 refine bn (HZ (T := "set") hT ?_)
 have h1:Do (.ref L) (.ref S)=false:=by simp[Do,hL]
 have h2:(Value.type "set" == Value.type "list")=false:=by decide
 have h3:(Value.type "set" == Value.type "tuple")=false:=by decide
 simp only[h1,h2,h3,Fx,DC,if_false]
 refine bn (zQ (A:=A.in1) hh hS hk λh' dr I fp vs ms St kp a1 a2 W st hb hI=>?_)
 have nf:L∉fp:=λq=>by
  rcases hb L q with e | e
  ·exact hL e
  ·exact absurd lL (GL.mpr e)
 have vl:vs.length<=xL:=by
  have:=Gi a1
  have:=a2.length_eq
  exact DV (show vs.length<EG by unfold EG;omega)
 have key:∀(h:Heap) (c1:Nat),St 0 h->(∀b o,b≠L->s.heap.get? b=some o->h.get? b=some o)->h.get? L=some {cls:=.type "list",data:=.seq #[] c1} ->
   B7 (o0 P w) A (.builtin "list.extend.loop" ⟨[.ref L,.ref I,res],[]⟩) R {s with heap:=h,drawn:=dr}:=by
  intro h c1 st' hk' gL'
  refine codeAny_extend_loopS W.toS vl L nf res vs.length 0 _ #[] c1 rfl (Bl _) st' gL' (ItemsOf.nil _) λz acc c2 hm gz ha=>?_
  rw[Moved.eq_with hm]
  refine hR z.heap z.toks dr acc c2 ms (λb o hb' e=>hm.heap b o (λq=>?_) (hk' b o hb' e)) gz ?_ a2
  ·rcases wn.mp q with e' | q
   ·exact hb' e'
   ·have:=lc e
    rw[wE.mp q]at this
    exact absurd this (GL.mpr hI)
  ·have:acc.toList=vs:=by
    refine CJ λj=>?_
    rw[E9]
    by_cases hj:j<acc.size
    ·have g:acc[j]? = some acc[j]:=Cc hj
     rw[g];exact(ha.2 j _ g).symm
    ·have l2:=ha.1
     rw[G2 (by omega),CB (by omega)]
   rw[this];exact a1
 have g1:=kp _ _ gL
 refine bn (C2 (vo (s:={s with heap:=h',drawn:=dr}) (by obtain⟨o,ho,ec⟩:=hT;exact⟨o,kp _ _ ho,ec⟩) ?_))
 refine GZ (λ_=>?_) (λ_=>kt ⟨EZ C0 _,key _ c st (λb o _ e=>kp b o e) g1⟩)
 refine bn (C6 (bn ?_))
 show li _ _ (FO L (·.push .none)>>=λ_=>FO L (·.pop)) _ _ _
 refine bn (DH g1 rfl ?_)
 have g2:=Bk (Cd (·.push Value.none)) g1 rfl
 refine DH (hz:=by seq_fits) g2 rfl ?_
 have g3:=Bk (Cd (·.pop)) g2 rfl
 refine kt ⟨EZ C0 _,key _ _ (W.frame 0 _ _ st λb hb o e=>?_) (λb o hb e=>?_) g3⟩
 ·have nb:L≠b:=λz=>nf (z▸hb)
  exact(AC _ _ nb).trans ((AC _ _ nb).trans e)
 ·exact(AC _ _ (B_ hb)).trans ((AC _ _ (B_ hb)).trans (kp _ _ e))
theorem t5 {ks:List Int}{R:List bv->db->Prop}(hh:A.handled=none)(hS:SetI P w s.heap S ks)(hk:ks.Nodup)(hz:ks.length<4096)
  (h:∀h' tk dr vs ms,(∀b o,s.heap.get? b=some o->h'.get? b=some o)->s.heap.objs.size<=h'.objs.size->DK vs ms->ms.Perm ks->R vs {s with heap:=h',toks:=tk,drawn:=dr}):li (o0 P w) A (collect (.ref S)) R E s:=by
 have lS:S<s.heap.objs.size:=by obtain⟨o,_,_,_,ho,_⟩:=hS;exact lc ho
 unfold collect
 refine bn (wpAny_runValue (Fo entry_proto_collect' ?_))
 rw[DT PySem.F.plain_proto_collect _]
 refine(show li _ A.in1 (Ib []>>=λl=>HL (.builtin "list.__iadd__" ⟨[l,.ref S],[]⟩)) _ _ s from bn (B5 (kt ⟨EZ GC _,Fo entry_list_iadd' ?_⟩)))
 rw[DT GC _]
 have gL:(s.heap.push {cls:=.type "list",data:=.seq ([]:List bv).toArray}).get? s.heap.objs.size=some {cls:=.type "list",data:=.seq #[]}:=wv _ rfl
 show li _ A.in1 (Cg (.ref s.heap.objs.size) (.ref S) (.ref s.heap.objs.size)) _ _ _
 have key:=Aw (A:=A) (s:={s with heap:=s.heap.push {cls:=.type "list",data:=.seq ([]:List bv).toArray}})
  (R:=λ(q:D3) (z:db)=>∃(h':Heap) (tk:Nat) (dr:Jv) (acc:Array bv) (c':Nat) (ms:List Int),q = .ok (.ret (.ref s.heap.objs.size))/\z={s with heap:=h',toks:=tk,drawn:=dr}/\(∀b o,s.heap.get? b=some o->h'.get? b=some o)/\h'.get? s.heap.objs.size=some {cls:=.type "list",dict:=none,data:=.seq acc c',slots:=#[]}/\DK acc.toList ms/\ms.Perm ks)
  hh (hS.kept λo e=>dL _ e) hk hz s.heap.objs.size (BL lS) (.ref s.heap.objs.size) 0 gL
  (λh' tk dr acc c' ms k1 g a1 a2=>⟨h',tk,dr,acc,c',ms,rfl,rfl,λb o e=>k1 b o (ww (lc e)) (dL _ e),g,a1,a2⟩)
 refine BB key (λfin z x=>?_) λe z x=>?_
 ·cases fin with
  | done f =>
   obtain⟨h',tk,dr,acc,c',ms,e,rfl,k1,g,a1,a2⟩:=x
   cases e
   exact(show li _ A (load s.heap.objs.size>>=_) _ _ _ from bn (IX g (kt (h h' tk dr _ ms k1 (BZ (lc g)) a1 a2))))
  | again c1 =>
   refine⟨x.1,DX x.2 λq z2 y=>?_⟩
   obtain⟨h',tk,dr,acc,c',ms,rfl,rfl,k1,g,a1,a2⟩:=y
   exact(show li _ A (load s.heap.objs.size>>=_) _ _ _ from bn (IX g (kt (h h' tk dr _ ms k1 (BZ (lc g)) a1 a2))))
 ·obtain⟨_,_,_,_,_,_,e',_⟩:=x
  cases e'
theorem yX {ks:List Int}{Q:bv->db->Prop}(hh:A.handled=none)(hS:SetI P w s.heap S ks)(hk:ks.Nodup)(h64:ks.length<64)
  (h:∀h' tk dr D out e ns',(∀b o,s.heap.get? b=some o->h'.get? b=some o)->s.heap.objs.size<=D->h'.get? D=some (seqObj "list" out e)->DK out.toList ns'->ns'.Perm ks->ns'.Pairwise (· <= ·)->Q (.ref D) {s with heap:=h',toks:=tk,drawn:=dr}) :
  li (o0 P w) A (call (.builtin "sorted") [.ref S]) Q E s:=by
 refine Calls.call_function_entry kind_sorted plain_sorted entry_sorted (args_sorted1 _) ?_
 unfold Builtin.«sorted»
 refine bn (m:=checkCount "sorted" 1 1 _) (kt ?_)
 refine bn (t5 (A:=A.in1) hh hS hk (by omega) λh' tk dr vs ms k1 sz a1 a2=>?_)
 have l1:vs.length<64:=by
  have:=Gi a1
  have:=a2.length_eq
  omega
 refine bn (wpAny_newList ?_ (DV (by unfold EG;omega)))
 have gD:(h'.push (seqObj "list" vs.toArray 0)).get? h'.objs.size=some (seqObj "list" vs.toArray 0):=wv _ rfl
 refine bn (C2 (Ct slot_list_sort ⟨_,gD,rfl⟩ entry_list_sort (list_sort_tree (s:={s with heap:=h'.push (seqObj "list" vs.toArray 0),toks:=tk,drawn:=dr}) gD a1 l1 λout ns' b1 b2 b3=>⟨_,rfl,?_⟩) (args_list_sort _)))
 obtain⟨e,ge⟩:=sortedHeap_at (out:=out) gD
 refine kt ⟨_,rfl,h _ tk dr h'.objs.size out e ns' (λb o q=>?_) sz ge b1 (b2.trans a2) b3⟩
 have lb:=lc (k1 b o q)
 rw[sortedHeap_old (ww lb) (by rw[size_push'];exact EI lb)]
 exact dL _ (k1 b o q)
end
theorem Inv.drawn {X:Cx}{pins:List (Addr×Obj)}{σ:List (Option V)}{H:Hp}{s:db}(I:Inv X pins σ H s)(d:Jv):Inv X pins σ H {s with drawn:=d} :=
 ⟨I.ok,I.os,I.bare,I.base,I.loc,I.cell,I.free,I.freeC,I.pin,I.hok,I.len⟩
section
variable {K:bi}{ts:TA}{as:AA}
theorem je:∀ {xs ys:List Int},xs.Pairwise (· < ·)->ys.Pairwise (· < ·)->(∀x,x∈xs↔x∈ys)->xs=ys
 | [],[],_,_,_=>rfl
 | [],y::ys,_,_,h=>absurd ((h y).mpr (.head _)) (by simp)
 | x::xs,[],_,_,h=>absurd ((h x).mp (.head _)) (by simp)
 | x::xs,y::ys,h1,h2,h=>by
  obtain⟨a1,b1⟩:=CC.mp h1
  obtain⟨a2,b2⟩:=CC.mp h2
  have e:x=y:=by
   rcases wn.mp ((h x).mp (.head _))with e | e
   ·exact e
   ·rcases wn.mp ((h y).mpr (.head _))with e' | e'
    ·exact e'.symm
    ·have:=a2 x e
     have:=a1 y e'
     omega
  subst e
  congr 1
  refine je b1 b2 λz=>?_
  constructor
  ·intro hz
   rcases wn.mp ((h z).mp (.tail _ hz))with e | e
   ·have:=a1 z hz;omega
   ·exact e
  ·intro hz
   rcases wn.mp ((h z).mpr (.tail _ hz))with e | e
   ·have:=a2 z hz;omega
   ·exact e
end
def pZ (X:Cx)(G:St->Hp->Prop)(body:List Stmt)(c:Expr):Prop:=∀(Q:Flow->db->Prop) (E:bv->db->Prop) (pins:List (Addr×Obj)) (σ:St) (H:Hp) (s:db),G σ H->Inv X pins σ H s->(∀s',Inv X pins σ H s'->li (o0 X.prog X.w) X.A (eval c X.env) (λ_ _=>False) E s')->li (o0 X.prog X.w) X.A (execs body X.env) Q E s
section
variable {X:Cx}{K:bi}{S:ASp}
theorem rW {G:St->Hp->Prop}{k:Nat}{x:Str}{ps:List Str}{C:Addr}{fn:Option Str}{p cpos pos:Pos}{e:Expr}{es:List Expr}{t:TA}{body:List Stmt}{h0:Ep}{hs:List Ep}{tH:Option Addr->Addr->TS}
  (F:OkX X.prog X.w X.K X.mg X.base k x ps C fn (spA K S)) (hr:Room k X.A) (hc:X.calm=true) (hex:X.ex=[]) (hst:X.stack=X.env::X.outer) (hfr:X.env.frame=some X.env.locals) (ha:PA X.nox (e::es) t)
  (hb1:pZ X G body (.Call (.Name x p) (e::es) [] cpos)) (hH:∀od,HB X C od (h0::hs) (tH od))
  (hg:Gl X x:=by rfl) (hdb:(x==("__debug__" : Str))=false:=by decide) (he:Ba (e::es) X.env=(false,eval e X.env)::Ba es X.env:=by rfl) (hpl:(Dd cpos (Ba es X.env)).any (·.1)=false:=by rfl) :
  PS X (.Try body (h0::hs) [] [] pos) (λD σ H=>G σ H/\t σ H λvs H1=>spA K S (vs++[]) H1 (λv H'=>∀a od,H' a=none->Fld H' fn od v->(∀dx,od=some dx->H1 dx=none)->tH od a D σ H') E0):=by
 intro pins s σ H D I ⟨hG,h⟩
 obtain⟨f,fd,hm,hk,hb,F⟩:=F.ex
 refine Jw (hb1 _ _ pins σ H _ hG I λs I=>?_)
 refine DM (gj I hg hm ?_ hdb)
 refine Eg (h₀:=X.base) I.ok.mod.kin hk (BB (ha cpos pins s σ H _ (I.wish _) h) (λus s1 ⟨vs,H1,I1w,r,q⟩=>⟨I1w.unwish.kIn,?_⟩) λ_ _ z=>BA z) he hpl
 have I1:=I1w.unwish
 have q':spX C fn (spA K S) (vs++[]) H1 (λ_ _=>False) (λu cls H'=>cls=some C/\∃v od,u=odV od/\Fld H' fn od v/\∀a od,H' a=none->Fld H' fn od v->(∀dx,od=some dx->H1 dx=none)->tH od a D σ H'):=by
  obtain⟨ss,Z,q',a1,a2,a3⟩:=q
  exact⟨ss,Z,q',a1,a2,λr ss' v H' b1 b2 b3 b4 od hf=>⟨rfl,v,od,rfl,hf,a3 r ss' v H' b1 b2 b3 b4⟩⟩
 have hl:(us++[]).length=ps.length:=by
  rw[<- (r.append (.nil:Vals [] [])).length]
  exact F.len (vs++[]) H1 _ _ q'
 refine IZ (DX (F.run X.A X.stack s1 H1 ⟨us,[]⟩ (us++[]) (vs++[]) _ _ hr I1.env0 (hb s1 us I1.kIn hl) (r.append .nil) q') λrr s2 hq=>?_)
 cases rr with
 | ok fl =>
  cases fl with
  | ret u=>obtain⟨_,_,_,_,_,_,_,z⟩:=hq;exact z.elim
  | next=>exact BA hq
  | brk=>exact BA hq
  | cont=>exact BA hq
 | error ev =>
  obtain⟨a,C',od,H2,rfl,os,bare,un,hok,hot,hyg,hC,v,od',hO,hF,hW⟩:=hq
  cases hC
  obtain rfl:od=od':=by
   cases od <;> cases od' <;> first | rfl | cases hO <;> rfl
  have I2:Inv X pins σ H2 s2:=I1.call' os un hok bare λb z=>nomatch z
  have sub1:∀b o,s1.heap.get? b=some o->b<s2.heap.objs.size:=λb o q=>by
   obtain⟨o',q'⟩:=un.there b o q λz=>nomatch z
   exact lc q'
  refine lvI I2 hst hfr sub1 hot λh3 ch3 hch3 _ un3 hok3 hot3=>?_
  have I3:=Inv.hot I1 I2 hex un3 hok3 λb hb=>(hch3 b hb).1
  obtain⟨oe3,vs3,hv3,ge3,gc3,gd3,gf3,g13,y3,u3,hh3⟩:=id hot3
  refine hH od a D pins σ H1 H2 s1 _ I1 I3 hot3 (hW a od u3 hF λdx e=>?_)
  cases z:H1 dx with
  | none=>rfl
  | some o =>
   obtain⟨u,z'⟩:=I1.hok.get z
   rw[hyg dx e]at z';cases z'
theorem sC {b:Bool}{tt:TT}{test:Expr}{pos:Pos}{A B:List Stmt}{c:Expr}(ht:PT X.nox test tt)(h1:uk X (if b=true then A else B) c) :
  pZ X (λσ H=>tt σ H λb' H'=>b'=b/\H'=H) [.If test A B pos] c:=by
 intro Q E pins σ H s hG I h
 refine Ed (wpAny_If ?_)
 refine BB (ht pins s σ H _ (I.wish _) hG) (λb' s' ⟨H',I',e1,e2⟩=>?_) λ_ _ z=>z.elim
 subst e1
 subst e2
 have z:=h1 (λ_ _=>False) E pins σ _ s' I'.unwish (h s' I'.unwish)
 cases b' with
 | true=>exact BB z (λ_ _ z=>z.elim) λ_ _ z=>z
 | false=>exact BB z (λ_ _ z=>z.elim) λ_ _ z=>z
end
section
variable {K:bi}{pr:Nat->Bool}
def AH (i:Nat)(c:Int)(b:Bool)(A:AS):AS:=λk ρ=>(∃z,gt ρ i = .vl (.int z)/\decide (z=c)=b)/\A k ρ
theorem oR {i:Nat}{c:Int}{b:Bool}{t:TS}{A:AS}(h:TSok K pr t A):TSok K pr (λD σ H=>(xc (tOp rEq (tVar i) (tC (.int c))) σ H λb' H'=>b'=b/\H'=H)/\t D σ H) (AH i c b A):=by
 intro F σ ρ H D k hp r ha ko
 obtain⟨⟨z,h1,hz⟩,h2⟩:=ha
 have s:=r.sl i
 rw[h1]at s
 refine⟨?_,h F σ ρ H D k hp r h2 ko⟩
 obtain⟨v,e,rd⟩:=s
 unfold RepD at rd
 subst rd
 refine⟨_,e,rfl,_,rfl,?_,rfl⟩
 rw[<- hz,decide_eq_decide]
 simp
end
end L2
namespace L2
open PySem PySem.Spec PyProof.Rows PySem.W
end L2
namespace L2
open PySem PySem.Spec PyProof.Rows
end L2
namespace L2
open PySem PySem.Spec PyProof.Rows PySem.W
end L2
namespace L2
open PySem PySem.Spec PyProof.Rows
theorem mF (elt target iter:Expr)(ifs:List Expr)(scope:Cv)(pos:Pos)(it:bv)(D:Addr)(env:Env) :
  Fb (.SetComp elt [⟨target,iter,ifs,0⟩] scope pos) 0 it (.ref D) env=(do
   Dt iter.pos
   match <- DD it with
   | none=>pure (.done .next)
   | some v =>
    Cn target it v
    Di target env v
    let mut ok:=true
    for c in ifs do
     if ok then ok <- ER c env (eval c env)
    if ok then
     (do
      let v <- eval elt env
      Dt elt.pos
      let _ <- call (.builtin "set.add") [.ref D,v])
    HL (.compLoop (.SetComp elt [⟨target,iter,ifs,0⟩] scope pos) 0 it (.ref D) env)):=by rfl
section
variable {P:wT}{w:Bf}{A:Bg}{E:bv->db->Prop}{R:D3->db->Prop}{s:db}
theorem fA {elt target iter ifs rest scope pos it acc env}
  (h0:B7 (o0 P w) A (.compLoop (.SetComp elt (⟨target,iter,ifs,0⟩::rest) scope pos) 0 it acc env) R s)
  (h:li (o0 P w) A (Gc it) (λit' s'=>B7 (o0 P w) A (.compLoop (.SetComp elt (⟨target,iter,ifs,0⟩::rest) scope pos) 0 it' acc env) R s')
   (notedBy (o0 P w) A env λx s'=>R (.error x) s') s) :
  B7 (o0 P w) A (.compStart (.SetComp elt (⟨target,iter,ifs,0⟩::rest) scope pos) 0 it acc env) R s:=by
 refine JQ ?_
 show li _ A ((HI (.SetComp elt (⟨target,iter,ifs,0⟩::rest) scope pos) 0 it acc env).onRaise (λx=>do Df x env;Dt JO)) _ _ s
 refine wpAny_notedAt ?_
 unfold HI
 show li _ A (ask>>=_) _ _ s
 refine bn (C4 (wpAny_ite ?_))
 split
 ·first
   | exact bn (kt (kt (And.intro rfl h0)))
   | exact kt (And.intro rfl h0)
 ·first
   | exact bn (C6 (bn (B3 (bn (BB h (λit' s' h'=>kt (And.intro rfl h')) λ_ _ x=>x)))))
   | (refine bn (C6 ?_);show li _ _ (Dt iter.pos>>=_) _ _ s;exact bn (B3 (bn (BB h (λit' s' h'=>kt (And.intro rfl h')) λ_ _ x=>x))))
theorem va {q:bv->db->Prop}(h:q (.ref s.heap.objs.size) {s with heap:=s.heap.push (setO w)}):li (o0 P w) A (newSet (.type "set")) q E s:=by
 unfold newSet Gb
 refine bn (bn (C4 (kt ?_)))
 dsimp only;simp only[newObj]
 exact bn (wpAny_alloc (kt h))
theorem uJ {D:Addr}{ks:List Int}{k:Int}{t:Tok}{Q:bv->db->Prop}(hS:SetI P w s.heap D ks)(hr:ks.length+1<EG)
  (h:∀h',Bx D s.heap h'->SetI P w h' D (Dm ks k)->Q .none {s with heap:=h',toks:=s.toks+1}):li (o0 P w) A (call (.builtin "set.add") [.ref D,.int k t]) Q E s:=by
 have hT:s.TypeIs (.ref D) "set" := by
  obtain⟨o,_,_,_,ho,ex,_⟩:=hS
  exact⟨_,ho,ex.1⟩
 refine Ct PySem.F.slot_set_add hT PySem.F.entry_set_add ?_ (PySem.F.args_set_add_2 _ _)
 unfold Builtin.«set.add» IM
 simp only[List.isEmpty_nil,bind_assoc]
 unfold IP setAdd
 refine bn (kt ?_)
 try dsimp only
 refine bn (kt ?_)
 try dsimp only
 refine bn ?_
 refine C2 ?_
 refine bn ((CZ P w).pyHash (k:=k) (intKind_is _ _ _ _) ?_)
 refine AF (s:={s with toks:=s.toks+1}) (intKind_is _ _ _ _) rfl hS hr λh' b hsb hS'=>?_
 show li _ _ (ret Value.none) _ _ _
 exact kt ⟨_,rfl,h h' hsb hS'⟩
end
def ddl (ys:List Int):List Int:=ys.foldl Dm []
theorem iV (ys:List Int)(k:Int):ddl (ys++[k])=Dm (ddl ys) k:=by unfold ddl;rw[FU];rfl
theorem Ay (ks:List Int)(k:Int):(Dm ks k).length<=ks.length+1:=by
 by_cases h:k∈ks
 ·rw[ym h];omega
 ·rw[tT h,A2];exact wl _
theorem kP {p:List Int->Prop}(h0:p [])(h1:∀ys k,p ys->p (ys++[k]))(ys:List Int):p ys:=by
 rw[<- List.reverse_reverse ys]
 induction ys.reverse with
 | nil=>exact h0
 | cons k zs ih=>rw[List.reverse_cons];exact h1 _ _ ih
theorem wJ (ys:List Int):(ddl ys).length<=ys.length:=by
 refine kP (p:=λys=>(ddl ys).length<=ys.length) (wl _) (λys k h=>?_) ys
 rw[iV,A2]
 have:=Ay (ddl ys) k
 simp only[DP]
 omega
theorem tS (ys:List Int)(x:Int):x∈ddl ys↔x∈ys:=by
 refine kP (p:=λys=>x∈ddl ys↔x∈ys) Iv (λys k h=>?_) ys
 rw[iV,z8,h,Bq,wE]
theorem jJ (ys:List Int):(ddl ys).Nodup:=by
 refine kP (p:=λys=>(ddl ys).Nodup) IV (λys k h=>?_) ys
 rw[iV]
 by_cases hk:k∈ddl ys
 ·rw[ym hk];exact h
 ·rw[tT hk,Dn]
  exact⟨h,by simp,λa ha b hb e=>hk (by rw[wE.mp hb]at e;exact e▸ha)⟩
section
variable {P:wT}{w:Bf}{A:Bg}{R:D3->db->Prop}{s:db}
theorem mG {elt tg iter:Expr}{ifs:List Expr}{scope:Cv}{pos:Pos}{it:bv}{D:Addr}{env:Env}(J:Nat->db->Prop)
  (turn:∀n s,J n s->li (o0 P w) A (DD it) (λr s1=>match r with
   | none=>R (.ok .next) s1
   | some v=>li (o0 P w) A (Cn tg it v) (λ_ s2=>li (o0 P w) A (Di tg env v) (λ_ s3 =>
     li (o0 P w) A (forIn ifs true λc r=>if r=true then do let ok <- ER c env (eval c env);pure (ForInStep.yield ok)else pure (ForInStep.yield r)) (λok s4 =>
      if ok=true then li (o0 P w) A (eval elt env) (λv s5=>li (o0 P w) A (call (.builtin "set.add") [.ref D,v]) (λ_ s7=>∃m,m<n/\J m s7) (λ_ _=>False) s5) (λ_ _=>False) s4
      else ∃m,m<n/\J m s4) (λ_ _=>False) s3) (λ_ _=>False) s2) (λ_ _=>False) s1) (λ_ _=>False) s)
  (n:Nat) (h:J n s):B7 (o0 P w) A (.compLoop (.SetComp elt [⟨tg,iter,ifs,0⟩] scope pos) 0 it (.ref D) env) R s:=by
 have no:∀ {α:Type} {t:Sem α} {Q Q':α->db->Prop} {E:bv->db->Prop} {s:db},li (o0 P w) A t Q (λ_ _=>False) s->(∀a s,Q a s->Q' a s)->li (o0 P w) A t Q' E s :=
  λh hq=>BB h hq λ_ _ f=>f.elim
 refine Fi rfl J (λn s hJ=>?_) n h
 show li _ A ((Fb (.SetComp elt [⟨tg,iter,ifs,0⟩] scope pos) 0 it (.ref D) env).onRaise (λx=>do Df x env;Ez x)) _ _ s
 refine FE ?_
 rw[mF]
 refine bn (B3 (bn (no (turn n s hJ) λr s1 h1=>?_)))
 cases r with
 | none=>exact kt h1
 | some v =>
  refine bn (no h1 λ_ s2 h2=>bn (no h2 λ_ s3 h3=>bn (no h3 λok s4 h4=>?_)))
  cases ok with
  | false=>exact kt ⟨rfl,h4⟩
  | true=>exact bn (bn (no h4 λx s5 h5=>bn (B3 (bn (no h5 λ_ s7 h7=>kt (kt ⟨rfl,h7⟩))))))
end
def wN (J:It)(n:Nat)(js:List Nat)(g:TG)(tc:TT)(te:TE)(R:List Int->Hp->Prop)(σ:St)(H1:Hp):Prop:=∃W:Nat->Nat->List Int->Hp->Prop,(∃m,W 0 m [] H1)/\∀i m ys H,W i m ys H ->
 (J.stop i H/\R ys H) ∨
 (J.go i H/\ys.length+1<4096/\∃N:List Int->Hp->Prop,(∀zs H',N zs H'->∃m',m'<m/\W (i+1) m' zs H')/\∀x H',J.yld i H x H'->g x (bst n σ js) H' λσ2 H2=>σ2.drop n=capt σ js/\tc σ2 H2 λb H3 =>
  if b=true then te σ2 H3 λv H4=>∃k:Int,v = .int k/\N (ys++[k]) H4 else N ys H3)
def rq (n:Nat)(js:List Nat)(wi:TI)(g:TG)(tc:TT)(te:TE):TE:=λσ H Q=>wi σ H λJ H1=>wN J n js g tc te (λys H'=>(ddl ys).length<64/\∀ns':List Int,ns'.Pairwise (· < ·)->(∀x,x∈ns'↔x∈ys)->∀l,H' l=none->Q (.ref l) (upd H' l (.lst (ns'.map V.int)))) σ H1
def yE (X:Cx)(pins:List (Addr×Obj))(σ:St)(Q:List Int->Hp->Prop)(C:Addr)(acc:bv)(s':db):Prop :=
 ∃(D:Addr) (H:Hp) (m:Str->Option bv) (ys:List Int),acc = .ref D/\s'.heap.Ns C m/\Inv X pins σ H s'/\H C=none/\X.s₀.heap.objs.size<=C/\C≠X.env.locals/\(∀x d,X.env.cells.lookup x=some d->d≠C)/\(∀p∈X.pn++pins,p.1≠C)/\D≠C/\SetI X.prog X.w s'.heap D (ddl ys)/\Q ys H
section
variable {X:Cx}
theorem oh {elt tg iter:Expr}{ifs:List Expr}{scope:Cv}{pos:Pos}{own:List Str}{js:List Nat}{g:TG}{tc:TT}{te:TE}{Q:List Int->Hp->Prop}{pins:List (Addr×Obj)}{σ:St}{s2:db}{itv:bv}{E:bv->db->Prop}
  {RR:bv->Addr->D3->db->Prop} (hc:X.calm=true) (B:Blk X scope own js) (hg:∀s H C fp,(own++capN X.N js).Nodup->PG (blk X scope (own++capN X.N js) s H C fp) tg g) (ht:∀s H C fp,PTs (blk X scope (own++capN X.N js) s H C fp) ifs tc)
  (he:∀s H C fp,PE (blk X scope (own++capN X.N js) s H C fp) elt te)
  (h:PIE X pins σ tg (λJ H1=>wN J own.length js g tc te Q σ H1) itv s2)
  (hR:∀C acc s',yE X pins σ Q C acc s'->RR acc C (.ok .next) s') :
  li (o0 X.prog X.w) X.A (newSet (.type "set")) (λacc s3=>li (o0 X.prog X.w) X.A (FG scope X.env.globals (cG scope X.env) [] X.env.qual none .none (some X.env)) (λcenv s4 =>
   B7 (o0 X.prog X.w) X.A (.compStart (.SetComp elt [⟨tg,iter,ifs,0⟩] scope pos) 0 itv acc {cenv with scope:=FP scope X.env}) (RR acc cenv.locals) s4) E s3) E s2:=by
 obtain⟨it,fp,tn,J,H2,rfl,I2,T,st2,f2,W,⟨m0,w0⟩,turn⟩:=h
 refine va (Er B.nocell (by intro y hy;simp at hy) (λh1 hns1 hsb1=>?_) B.kind)
 have hnew:SetI X.prog X.w (s2.heap.push (setO X.w)) s2.heap.objs.size []:=uI s2.heap
 generalize hPu:s2.heap.push (setO X.w)=Pu at hns1 hsb1 hnew ⊢
 dsimp only at hns1 hsb1 ⊢
 have hDC:Pu.objs.size=s2.heap.objs.size+1:=by rw[<- hPu,B8]
 have hbig:=I2.big
 generalize hD:s2.heap.objs.size=D at hDC hnew hbig ⊢
 generalize hC:Pu.objs.size=C at hns1 hsb1 hDC ⊢
 have ltDC:D<C:=by rw[hDC];exact CV D
 have neDC:D≠C:=ww ltDC
 have keep1:∀b o,s2.heap.get? b=some o->h1.get? b=some o:=λb o e=>by
  have hb:b<D:=by rw[<- hD];exact lc e
  have hb2:b≠C:=ww (CU hb ltDC)
  refine(hsb1.2 b hb2).trans (dL _ ?_)
  rw[<- hPu]
  exact dL _ e
 have gD1:SetI X.prog X.w h1 D []:=hnew.kept λo e=>(hsb1.2 D neDC).trans (dL _ e)
 have szD:s2.heap.objs.size<=D:=Ey hD
 have szC:s2.heap.objs.size<=C:=A_ szD (BZ ltDC)
 have old:∀ {b:Addr},b<s2.heap.objs.size->b≠D/\b≠C:=λhb=>⟨ww (xz hb szD),ww (xz hb szC)⟩
 have fpo:∀b∈fp,∃o,s2.heap.get? b=some o:=λb hb=>let ⟨o,e,_⟩:=T.obj 0 _ st2 b hb;⟨o,e⟩
 have fpD:∀b∈fp,b≠D/\b≠C:=λb hb=>by
  obtain⟨o,e⟩:=fpo b hb
  exact old (lc e)
 have clD:∀x d,X.env.cells.lookup x=some d->d≠D/\d≠C:=λx d e=>by
  obtain⟨v,o,ho,_⟩:=I2.cell x d e
  exact old (lc ho)
 have pinD:∀p∈X.pn++pins,p.1≠D/\p.1≠C:=λp hp=>by
  exact old (lc (I2.pin p hp).1)
 have locD:D≠X.env.locals/\C≠X.env.locals:=by
  exact⟨(old I2.lt).1.symm,(old I2.lt).2.symm⟩
 let Y:=blk X scope (own++capN X.N js) s2 H2 C fp
 have IB:Inv Y [] (bst own.length σ js) H2 {s2 with heap:=h1,toks:=s2.toks+([]:List (Str×bv)).length}:=lF B I2 f2 fpo szC hns1 keep1
 have fpB:∀ {H':Hp} {pl:List (Addr×Obj)},(∀b∈fp,H' b=none)->(∀p∈pl,p.1=D)->∀b∈fp,FpOk Y pl H' b:=λ{H' pl} hn hp b hb=>by
  obtain⟨f0,f1,f3,f4,f5,f6⟩:=f2 b hb
  refine⟨hn b hb,(fpD b hb).2,λz=>?_,.inl hb,λx c e=>f5 x c (b9 e),λp q=>?_⟩
  ·rcases wn.mp (I2.stkSub b z)with z | z
   ·exact f1 z
   ·exact f3 z
  ·have q':p∈pl:=by simpa [Y,blk] using q
   rw[hp p q']
   exact(fpD b hb).1.symm
 have clB:∀x d,Y.env.cells.lookup x=some d->d≠D:=λx d e=>(clD x d (b9 e)).1
 have notFs:D∉Y.fs:=λz=>by
  obtain⟨_,o,ho,_⟩:=IB.ok.funs.mem z
  exact(old (lc (show s2.heap.get? D=some o from ho))).1 rfl
 have loop:∀s3:db,s3={s2 with heap:=h1,toks:=s2.toks+([]:List (Str×bv)).length} ->
   B7 (o0 X.prog X.w) X.A (.compLoop (.SetComp elt [⟨tg,iter,ifs,0⟩] scope pos) 0 (.ref it) (.ref D) (He scope (cG scope X.env) C X.env)) (RR (.ref D) C) s3:=by
  rintro s3 rfl
  refine mG (λn s'=>∃(i:Nat) (ys:List Int) (H':Hp),Inv Y [] (bst own.length σ js) H' s'/\tn i s'.heap/\(∀b∈fp,H' b=none)/\H' D=none /\
   SetI X.prog X.w s'.heap D (ddl ys)/\W i n ys H') ?_ m0 ⟨0,[],H2,IB,T.keep 0 _ _ st2 (λb hb o e=>keep1 b o e),λb hb=>(f2 b hb).1,I2.hok.fresh szD,gD1,w0⟩
  rintro n s3 ⟨i,ys,H3,I3,st3,fr3,hD3,g3,w3⟩
  obtain⟨od,ho3,ncell⟩:∃od,s3.heap.get? D=some od/\∀v,od.data ≠ .cell v:=by
   obtain⟨o,es,ep,t,ho,_,hda,_⟩:=g3
   exact⟨o,ho,λv z=>by rw[hda]at z;cases z⟩
  have dat3:∀ {h:Heap},h.get? D=some od->SetI X.prog X.w h D (ddl ys):=λe=>g3.kept λo e'=>by rw[ho3]at e';cases e';exact e
  have I3p:Inv Y [(D,od)] (bst own.length σ js) H3 s3:=I3.pins_of λp hp=>by
   have e:p=(D,od):=by simpa using hp
   subst e
   exact⟨ho3,hD3,neDC,notFs,ncell⟩
  have f3:∀b∈fp,FpOk Y [(D,od)] H3 b:=fpB fr3 λp hp=>by
   have e:p=(D,od):=by simpa using hp
   rw[e]
  rcases turn i n ys H3 w3 with⟨stop,qn⟩ | ⟨go,hz,N,hN,step⟩
  ·refine thn (T.done Y rfl rfl rfl hc i _ s3 _ H3 (λ_ _=>False) I3p f3 st3 stop) λr s4 ⟨hr,I4⟩=>?_
   subst hr
   refine hR C _ s4 ?_
   have g4:=(I4.pin (D,od) (by simp[Y,blk])).1
   obtain⟨m,hn4,_⟩:=id I4.loc
   have un:Un (frs X.stack) fp H2 H3 s2.heap s4.heap:=I4.base
   have I5:Inv X pins σ H3 s4:=I2.call' I4.os un I4.hok I4.bare λb hb=>let ⟨_,b1,_,b3,b4,b5⟩:=f2 b hb;⟨b3,b1,b4,b5⟩
   exact⟨D,_,m,ys,rfl,hn4,I5,I4.free,A_ I2.sz szC,locD.2,λx d e=>(clD x d e).2,λp hp=>(pinD p hp).2,neDC,dat3 g4,qn⟩
  ·refine thn (T.item Y rfl rfl rfl hc i _ s3 _ H3 (λ_ _=>False) I3p f3 st3 go) λr s4 ⟨u,hr,h4⟩=>?_
   subst hr
   refine thn h4 λ_ s5 ⟨x,H5,I5,r5,y5,st5,fr5⟩=>?_
   have f5:∀b∈fp,FpOk Y [(D,od)] H5 b:=λb hb=>⟨fr5 b hb,(f3 b hb).2⟩
   have I5':=I5.pinned f5 (T.obj _ _ st5)
   refine thn (hg s2 H2 C fp B.nd _ s5 _ H5 x u _ I5' r5 (step x H5 y5)) λ_ s6 ⟨σ6,H6,I6,d6,q6⟩=>?_
   refine thn (ht s2 H2 C fp _ s6 σ6 H6 _ I6 q6) λok s7 ⟨H7,I7,q7⟩=>?_
   have after:∀ {s8:db} {H8:Hp},Inv Y ([(D,od)]++e6 fp s5.heap) σ6 H8 s8 ->
     s8.heap.get? D=some od/\H8 D=none/\tn (i+1) s8.heap/\(∀b∈fp,H8 b=none)/\Inv Y [] (bst own.length σ js) H8 s8:=λ{s8 H8} I8=>by
    have p8:=I8.pin (D,od) (by simp[Y,blk])
    refine⟨p8.1,p8.2.1,T.keep _ _ _ st5 λb hb o e=>(I8.pin (b,o) (lm _ (lm _ (bP hb e)))).1,λb hb=>?_,?_⟩
    ·obtain⟨o,e,_⟩:=T.obj _ _ st5 b hb
     exact(I8.pin (b,o) (lm _ (lm _ (bP hb e)))).2.1
    ·refine(I8.pins_of (pins':=[]) λp hp=>absurd hp (by simp[Y,blk])).weak ?_ λj v e=>?_
     ·rw[I8.len,eW]
      show _=(own++capN X.N js).length
      unfold capN
      simp
     ·rcases Bh j own.length with z | z
      ·exfalso
       unfold bst at e
       rw[Bi (by simpa using z),BR]at e
       split at e <;> cases e
      ·unfold bst at e
       rw[By (by simpa using z),Cf,<- d6,Bt]at e
       rw[<- e]
       congr 1
       omega
   cases ok with
   | false =>
    rw[if_neg A4]at q7 ⊢
    obtain⟨m',hm,w7⟩:=hN _ _ q7
    obtain⟨a1,a2,a3,a4,a5⟩:=after I7
    exact⟨m',hm,i+1,ys,H7,a5,a3,a4,a2,dat3 a1,w7⟩
   | true =>
    rw[if_pos rfl]at q7 ⊢
    refine thn (he s2 H2 C fp _ s7 σ6 H7 _ I7 q7) λu9 s9 ⟨v9,H9,I9,r9,kk,ek,n9⟩=>?_
    subst ek
    obtain⟨t9,rfl⟩:=r9
    obtain⟨m',hm,w9⟩:=hN _ _ n9
    obtain⟨a1,a2,a3,a4,a5⟩:=after I9
    refine uJ (dat3 a1) (by have:=wJ ys;show(ddl ys).length+1<4096;omega) λh' sb dd'=>?_
    have I10:=(Inv.young a5 sb a2 szD neDC clB (λp hp=>absurd hp (by show p∉[]++[];simp))).tok (s9.toks+1)
    exact⟨m',hm,i+1,ys++[kk],H9,I10,T.keep _ _ _ a3 (λb hb o e=>(sb.2 b (fpD b hb).1).trans e),a4,a2,by rw[iV];exact dd',w9⟩
 exact fA (loop _ rfl) (T.self _ 0 _ _ _ (T.keep 0 _ _ st2 λb hb o e=>keep1 b o e) (loop _ rfl))
theorem lU {elt tg iter:Expr}{ifs:List Expr}{scope:Cv}{p pos cpos:Pos}(own:List Str)(js:List Nat){wi:TI}{g:TG}{tc:TT}{te:TE}(hc:X.calm=true)(hg1:Gl X "sorted")(hm1:X.mg "sorted" = none)(B:Blk X scope own js)(hi:PI X tg iter wi)
  (hg:∀s H C fp,(own++capN X.N js).Nodup->PG (blk X scope (own++capN X.N js) s H C fp) tg g) (ht:∀s H C fp,PTs (blk X scope (own++capN X.N js) s H C fp) ifs tc) (he:∀s H C fp,PE (blk X scope (own++capN X.N js) s H C fp) elt te)
  (hs:∀x,B6 iter X.env x=pure x:=by intro _;rfl)
  (ho:Ba [.SetComp elt [⟨tg,iter,ifs,0⟩] scope cpos] X.env=[(false,eval (.SetComp elt [⟨tg,iter,ifs,0⟩] scope cpos) X.env)]:=by rfl) (hpl:(Dd pos (Ba [] X.env)).any (·.1)=false:=by rfl) :
  PE X (.Call (.Name "sorted" p) [.SetComp elt [⟨tg,iter,ifs,0⟩] scope cpos] [] pos) (rq own.length js wi g tc te):=by
 intro pins s σ H Q I h
 refine IJ (fX I hg1 hm1 mR ?_)
 refine Fe ?_ (by rw[ho];rfl) hpl
 rw[ho]
 show li _ _ (Jl [(false,eval (.SetComp elt [⟨tg,iter,ifs,0⟩] scope cpos) X.env)]) _ _ s
 refine CW ?_
 have hcl:Ee scope X.env=pure (cG scope X.env):=cz λx hx hf=>I.ok.has x.1 (B.free x hx hf)
 show li _ X.A (E1 (.SetComp elt [⟨tg,iter,ifs,0⟩] scope cpos) scope X.env _ (newSet (.type "set")) false (eval iter X.env)) _ _ s
 refine CI (use:=none) rfl hs hcl B.kind B.names (thn (hi pins s σ H _ I h) λv s1 h1=>thn h1 λitv s2 h2=>?_)
 refine oh (RR:=λacc C=>Gs (o0 X.prog X.w) X.A X.xe none _ acc C) hc B hg ht he h2 λC acc s' hb=>?_
 obtain⟨D,H',m,ys,rfl,hn,I',c1,c2,c3,c4,c5,c6,hS,h64,q⟩:=hb
 refine⟨m,hn,λh' hs'=>Dl ?_⟩
 have I2:=I'.young hs' c1 c2 c3 c4 c5
 have hS2:SetI X.prog X.w h' D (ddl ys):=hS.kept λo e=>(hs'.2 D c6).trans e
 refine yX (s:={s' with heap:=h'}) (by exact I2.ok.hd hc) hS2 (jJ _) h64 λh2 tk2 dr D2 out e ns' k2 sz ge b1 b2 b3=>?_
 have hlen:ns'.length<64:=by rw[b2.length_eq];exact h64
 have hst:ns'.Pairwise (· < ·):=by
  have nd:ns'.Nodup:=b2.nodup_iff.mpr (jJ _)
  exact(JK b3 nd).imp λ{a b} z=>by have h1:=z.1;have h2:=z.2;omega
 have hm':∀x,x∈ns'↔x∈ys:=λx=>by rw[b2.mem_iff];exact tS ys x
 have I3:=(I2.laid (t':=tk2) (o:=.lst (ns'.map V.int)) k2 sz ⟨by rw[lw];exact BZ (d4 (n:=ns'.length) (by omega)),out.toList,e,gr b1,by rw[ge]⟩).drawn dr
 exact⟨.ref D2,_,I3,rfl,q ns' hst hm' D2 (I2.hok.fresh sz)⟩
end
def fz (n:Nat)(js:List Nat)(c:En->Prop)(g:AG)(tc:AT)(te:AE)(q:List Int->En->Prop):List D->List Int->En->Prop
 | [],acc,ρ=>c ρ/\q acc ρ
 | d::ds,acc,ρ=>c ρ/\g d (blkE n js ρ) λρ1=>tc ρ1 λb ρ2=>if b=true then te ρ2 λr ρ3=>(match r with
   | .d (.int k)=>fz n js c g tc te q ds (acc++[k]) (back ρ (js.map R.o) (ρ3.drop n))
   | _=>False)else fz n js c g tc te q ds acc (back ρ (js.map R.o) (ρ2.drop n))
def yu (n:Nat)(js:List Nat)(i:AI)(g:AG)(tc:AT)(te:AE):AE:=λρ q=>i ρ λds c ρ1=>ds.length<=4000/\fz n js c g tc te (λns ρ2=>(ddl ns).length<64/\∀ns':List Int,ns'.Pairwise (· < ·)->(∀x,x∈ns'↔x∈ns)->q (.f (ns'.map D.int)) ρ2) ds [] ρ1
section
variable {K:bi}
theorem j0 {n:Nat}{js:List Nat}{wi:TI}{g:TG}{tc:TT}{te:TE}{ai:AI}{ag:AG}{atc:AT}{ae:AE}(hi:TIok K (λ_=>true) wi ai)(hg:TGok K (λj=>decide (n<=j)) g ag)(hc:TTok K tc atc)(he:TEok K te ae)
  (hd:dis (js.map R.o)=true:=by rfl):TEok K (rq n js wi g tc te) (yu n js ai ag atc ae):=by
 intro F σ ρ H q Q r h k
 refine hi F σ ρ H _ _ r h λds c ρ1 J H1 h1 r1 k1 wk=>?_
 obtain⟨hz,h1⟩:=h1
 have hd':dis (blkR n js)=true:=by rw[gW];exact hd
 refine⟨λi m ys H'=>∃ ρ',m=ds.length - i/\i<=ds.length/\Rel K F σ ρ' H'/\Kp σ ρ1 ρ' H1 H'/\ys.length<=i/\fz n js c ag atc ae (λns ρ2=>(ddl ns).length<64/\∀ns':List Int,ns'.Pairwise (· < ·)->(∀x,x∈ns'↔x∈ns)->q (.f (ns'.map D.int)) ρ2) (ds.drop i) ys ρ',⟨ds.length,ρ1,rfl,Bl _,r1,.refl,Bl _,h1⟩,?_⟩
 rintro i m ys H' ⟨ρ',rfl,hl,r',k',al,h'⟩
 have w:c ρ'->WkAt K (hs F σ ρ') H' J ds:=λhc=>wk σ ρ' H' k'.vis r'.sl (λ_ _ _ e=>e) (λa z=>qC r' z) hc
 rcases Bh i ds.length with lt | ge
 ·right
  rw[Bo lt]at h'
  unfold fz at h'
  obtain⟨hcc,h'⟩:=h'
  obtain⟨go,yld⟩:=(w hcc i).1 ds[i] (im lt)
  refine⟨go,by omega,λzs H2=>∃ ρ2,Rel K F σ ρ2 H2/\Kp σ ρ1 ρ2 H1 H2/\zs.length<=i+1/\fz n js c ag atc ae (λns ρ2=>(ddl ns).length<64/\∀ns':List Int,ns'.Pairwise (· < ·)->(∀x,x∈ns'↔x∈ns)->q (.f (ns'.map D.int)) ρ2) (ds.drop (i+1)) zs ρ2,
   λzs H2 ⟨ρ2,a1,a2,a4,a5⟩=>⟨ds.length - (i+1),by omega,ρ2,rfl,lt,a1,a2,a4,a5⟩,λx H2 hy=>?_⟩
  obtain⟨sm,rx⟩:=yld x H2 hy
  have r0':=r'
  have k':Kp σ ρ1 ρ' H1 H2:=k'.trans ⟨λa o e _=>sm a o e,λ_ h=>h⟩
  have r':=r0'.grow sm
  have src:=iW (K:=K) (F:=F) (σ:=σ) (ρ:=ρ') (H:=H2) n js
  have rb:=r'.sub src hd'
  have hs2:=lO r' src
  rw[bp]at rb hs2
  have pin:∀i a,(dg F σ ρ' H2 (bst n σ js) (blkE n js ρ')).pin i a->decide (n<=i)=true:=λi a h=>by
   rcases h with h | h
   ·exact decide_eq_true (iX h.1)
   ·exact h.elim
  have hlen:(bst n σ js).length=n+js.length:=eW
  have ret:∀ σ2 ρ2 H3,Rel K (dg F σ ρ' H2 (bst n σ js) (blkE n js ρ')) σ2 ρ2 H3->σ2.length=(bst n σ js).length->σ2.drop n=capt σ js->(∀i,(gt ρ2 i).own=true->(gt (blkE n js ρ') i).own=true) ->
    Rel K F σ (back ρ' (js.map R.o) (ρ2.drop n)) H3/\Kp σ ρ' (back ρ' (js.map R.o) (ρ2.drop n)) H2 H3/\Same (hid H3 (hs (dg F σ ρ' H2 (bst n σ js) (blkE n js ρ')) σ2 ρ2)) (hid H3 (hs F σ (back ρ' (js.map R.o) (ρ2.drop n)))):=λσ2 ρ2 H3 rr hlen2 hdrop hown=>by
   obtain⟨f1,f2⟩:=rr.forget (n:=n) (by omega) λi a h=>of_decide_eq_true (pin i a h)
   rw[hdrop]at f1 f2
   have f1':Rel K (dg F σ ρ' H2 (bst n σ js) ((blkR n js).map (cI ρ'))) (bst n σ js) (pc n .un++ρ2.drop n) H3:=by rw[bp];exact f1
   have bk:=r'.back src hd' f1' λi hi=>by
    rw[bp]
    rw[jG]at hi
    split at hi
    ·cases hi
    ·rename_i hni
     rw[gm,show n+(i - n)=i by omega]at hi
     exact hown i hi
   have ln:(pc n Sv.un++ρ2.drop n).length=n+js.length:=by
    have:=rr.len
    simp;omega
   rw[gX js ρ' n _ ln,Db (by simp),bp]at bk
   exact⟨bk.1,bk.2.1,f2.trans bk.2.2⟩
  refine hg _ (bst n σ js) (blkE n js ρ') H2 x _ _ _ pin rb (by rw[hs2];exact rx) h' λσ2 ρ2 h2 r2 l2 p2 o2=>?_
  have hdrop:σ2.drop n=capt σ js:=by
   have:σ2.drop n=(bst n σ js).drop n:=by
    apply CJ
    intro i
    rw[Bt,Bt]
    exact p2 (n+i) (decide_eq_true (by omega))
   rw[this]
   unfold bst
   rw[Db (by simp)]
  refine⟨hdrop,hc _ σ2 ρ2 H2 _ _ r2 h2 λb ρ3 H3 h3 r3 k3=>?_⟩
  cases b with
  | false =>
   obtain⟨b1,b2,_⟩:=ret σ2 ρ3 H3 r3 l2 hdrop λi hi=>(o2 i (k3.sb i hi)).1
   exact⟨_,b1,k'.trans b2,by omega,h3⟩
  | true =>
   refine he _ σ2 ρ3 H3 _ _ r3 h3 λr4 ρ4 v4 H4 h4 o4=>?_
   obtain⟨r4',k4,i4⟩:=o4.inF
   split at h4
   ·rename_i k0
    obtain⟨b1,b2,b3⟩:=ret σ2 ρ4 H4 r4' l2 hdrop λi hi=>(o2 i (k3.sb i (k4.sb i hi))).1
    exact⟨k0,i4.int,_,b1,k'.trans b2,by rw[A2];simp;omega,h4⟩
   ·exact h4.elim
 ·left
  rw[BJ ge]at h'
  unfold fz at h'
  obtain⟨hcc,h64,h'⟩:=h'
  refine⟨(w hcc i).2 ge,h64,λns' a1 a2 l hl'=>?_⟩
  exact(k.after (k1.trans k')).new r' (h' ns' a1 a2) (g8.mpr rfl) hl'
end
abbrev yL (n:Nat)(js:List Nat)(g:AG)(tc:AT)(te:AE)(ρ:En)(d:D)(acc:List Int)(N:List Int->En->Prop):Prop :=
 g d (blkE n js ρ) λρ1=>tc ρ1 λb ρ2=>if b=true then te ρ2 λr ρ3=>(match r with
   | .d (.int k)=>N (acc++[k]) (back ρ (js.map R.o) (ρ3.drop n))
   | _=>False)else N acc (back ρ (js.map R.o) (ρ2.drop n))
theorem ig {α:Type}{n:Nat}{js:List Nat}{c:En->Prop}{g:AG}{tc:AT}{te:AE}{q:List Int->En->Prop}(h:α->D)(p:α->Bool)(f:α->Int){ρ:En}(hc:c ρ):∀ {xs:List α} {acc:List Int},(∀x acc (N:List Int->En->Prop),x∈xs->N (if p x=true then acc++[f x]else acc) ρ->yL n js g tc te ρ (h x) acc N) ->
  q (acc++(xs.filter p).map f) ρ->fz n js c g tc te q (xs.map h) acc ρ
 | [],acc,_,hd=>by
  simp only[IH,CF,Bn]at hd
  unfold fz
  exact⟨hc,hd⟩
 | x::xs,acc,hs,hd=>by
  unfold fz
  refine⟨hc,hs x acc (λacc ρ=>fz n js c g tc te q (xs.map h) acc ρ) (.head _) (ig h p f hc (λy acc N hy=>hs y acc N (.tail _ hy)) ?_)⟩
  cases hp:p x <;> simp[hp]at hd ⊢ <;> exact hd
theorem yk {ys:List Int}{zs:List Int}(h:∀x∈ys,x∈zs)(hl:zs.length<64):(ddl ys).length<64 :=
 EB (CA (jJ ys) λx hx=>h x ((tS ys x).mp hx)) hl
section
variable {X:Cx}
theorem uX {kx vx tg iter:Expr}{ifs:List Expr}{scope:Cv}{pos:Pos}(own:List Str)(js:List Nat){wi:TI}{g:TG}{tc:TT}{tk tv:TE}(hc:X.calm=true)(B:Blk X scope own js)(hi:PI X tg iter wi)
  (hg:∀s H C fp,(own++capN X.N js).Nodup->PG (blk X scope (own++capN X.N js) s H C fp) tg g) (ht:∀s H C fp,PTs (blk X scope (own++capN X.N js) s H C fp) ifs tc) (hk:∀s H C fp,PE (blk X scope (own++capN X.N js) s H C fp) kx tk) (hv:∀s H C fp,PE (blk X scope (own++capN X.N js) s H C fp) vx tv)
  (hs:∀x,B6 iter X.env x=pure x:=by intro _;rfl):PE X (.DictComp kx vx [⟨tg,iter,ifs,0⟩] scope pos) (lN own.length js wi g tc tk tv):=by
 intro pins s σ H Q I h
 have hcl:Ee scope X.env=pure (cG scope X.env):=cz λx hx hf=>I.ok.has x.1 (B.free x hx hf)
 show li _ X.A (E1 (.DictComp kx vx [⟨tg,iter,ifs,0⟩] scope pos) scope X.env _ newDict false (eval iter X.env)) _ _ s
 refine CI (use:=none) rfl hs hcl B.kind B.names (thn (hi pins s σ H _ I h) λv s1 h1=>thn h1 λitv s2 h2=>?_)
 refine jK (RR:=λacc C=>Gs (o0 X.prog X.w) X.A X.xe none (EP X pins σ Q) acc C) hc B hg ht hk hv h2 λC acc s' hb=>?_
 obtain⟨D,H',m,rfl,hn,I',c1,c2,c3,c4,c5,q⟩:=hb
 exact⟨m,hn,λh' hs'=>⟨.ref D,H',I'.young hs' c1 c2 c3 c4 c5,rfl,q⟩⟩
end
def kf (ks more:List (Key×D)):List (Key×D):=more.foldl (λacc kv=>putD acc kv.1 kv.2) ks
theorem l9 {K:bi}{H:Hp}:∀ {ms:List (Key×V)} {more:List (Key×D)} {ks:List (Key×V)} {kvs:List (Key×D)},ms.map Bd=more.map Bd->RepDs K H (ms.map Bp) (more.map Bp)->ks.map Bd=kvs.map Bd->RepDs K H (ks.map Bp) (kvs.map Bp) ->
  (eC ks ms).map Bd=(kf kvs more).map Bd/\RepDs K H ((eC ks ms).map Bp) ((kf kvs more).map Bp)
 | [],[],_,_,_,_,e,r=>⟨e,r⟩
 | (k,v)::ms,(k',d)::more,ks,kvs,e1,r1,e,r=>by
  simp only[A1,DQ]at e1
  obtain⟨rfl,e2⟩:=e1
  simp only[A1]at r1
  unfold RepDs at r1
  obtain⟨a,b⟩:=kU k r1.1 e r
  exact l9 (ms:=ms) (more:=more) (ks:=putK ks k v) (kvs:=putD kvs k d) e2 r1.2 a b
 | [],_::_,_,_,e,_,_,_=>by cases e
 | _::_,[],_,_,e,_,_,_=>by cases e
def rDUpd:V->List V->Hp->VK->Prop:=λx vs H Q=>∃d o ks more,x = .ref d/\vs=[.ref o]/\d≠o/\H d=some (.dK ks)/\H o=some (.dK more)/\ks.length+more.length<=xL/\Q .non (upd H d (.dK (eC ks more)))
theorem xN {X:Cx}:MtR X "dict.update" rDUpd:=by
 intro pins s σ H x vs v us Q I rx rv h
 obtain⟨d,o,ks,more,rfl,rfl,ne,hd,ho,hz,q⟩:=h
 cases rx
 obtain⟨u,rfl,ru⟩:=rv.one
 cases ru
 obtain⟨z1,n1,vs1,r1,dd1⟩:=I.hok d _ hd
 obtain⟨z2,n2,vs2,r2,dd2⟩:=I.hok o _ ho
 refine call_meetsIn Gw dd1.typeIs PySem.F.entry_dict_update (PySem.F.args_dict_update_2 _ _) (meets_dict_update (bA X.prog X.w) d o ne n2) ⟨vs1,vs2,dd1,dd2,by rw[<- r1.length,<- r2.length];exact hz,λh' hd' ho' hs=>?_⟩
 obtain⟨od,god,_⟩:=Gn.mp hd'
 refine⟨.non,_,I.write (x:=d) (e:=d) (o:=.dK (eC ks more)) (t':=s.toks) (h':=h') (by rw[hd];exact True.intro) (.inl rfl) (λb u nb e=>(hs.2 b nb).trans e) ⟨_,god⟩ (mE (A_ (eU more ks) hz) n1 (KV.merge r2 r1) hd'),rfl,q⟩
def aUpd (i:Nat)(ac:AE):AE:=λρ q=>match gt ρ i with
 | .dk _=>ac ρ λr ρ1=>(match r,gt ρ1 i with
  | .n (.dk more),.dk kvs=>kvs.length+more.length<=1000000/\q (.d .non) (pt ρ1 i (.dk (kf kvs more)))
  | _,_=>False)
 | _=>False
theorem ux {K:bi}{tc:TE}{ac:AE}{i:Nat}(hc:TEok K tc ac):TEok K (tBM K "dict" rDUpd (tVar i) (jO tc tNil)) (aUpd i ac):=by
 intro F σ ρ H q Q r h k
 unfold aUpd at h
 split at h
 ·rename_i kvs0 hg0
  have s:=r.sl i
  rw[hg0]at s
  obtain⟨t,ks0,ex,ht0,_⟩:=s
  refine⟨.ref t,ex,.inr (.inr (.inl ⟨rfl,.inl ⟨_,ht0⟩⟩)),?_⟩
  refine hc F σ ρ H _ _ r h λr1 ρ1 v H1 h1 o=>?_
  split at h1
  ·rename_i more kvs hg
   obtain⟨hl,hq⟩:=h1
   obtain⟨Hb,l,ob,r2,k2,_,sv,hn,rfl,rfl⟩:=o
   obtain⟨l',ms,e,hl1,em,rm⟩:=sv
   injection e with e;injection e with e;injection e with e;subst e
   have s:=r2.sl i
   rw[hg,ex]at s
   obtain⟨t',ks,e,ht,ek,rk⟩:=s
   injection e with e;injection e with e;injection e with e;subst e
   have ne:t≠l:=a_ ht hn
   have r3:=r2.fresh (o:=ob) hn
   have k3:Kp σ ρ1 ρ1 Hb (upd Hb l ob):=Kp.fresh hn
   have v3:=k3.vis (F:=F)
   obtain⟨p1,p2⟩:=l9 em (rm.same v3) ek (rk.same v3)
   have ht1:upd Hb l ob t=some (.dK ks):=by rw[aL ne];exact ht
   have hw:=r3.write (i:=i) (l:=t) (o:=.dK (eC ks ms)) (s:=.dk (kf kvs more)) (by rw[hg];rfl) ex rfl ⟨t,_,rfl,aQ,p1,p2⟩
   refine⟨t,l,ks,ms,rfl,rfl,ne,ht1,hl1,?_,?_⟩
   ·rw[gP ek,gP em]
    exact small (n:=kvs.length+more.length) hl
   ·exact((k.after (k2.trans k3)).after hw.2).non hw.1 hq
  ·exact h1.elim
 ·exact h.elim
theorem fu {α:Type}{n2:Nat}{c:En->Prop}{g:AG}{tc:AT}{te:AE}{k:List D->En->Prop}(h:α->D)(p:α->Bool)(f:α->D){ρ:En}(hc:c ρ):∀ {xs:List α} {acc:List D},acc.length+xs.length<=1000000 ->
  (∀x acc (N:List D->En->Prop),x∈xs->N (if p x=true then acc++[f x]else acc) ρ->g (h x) ρ λρ1=>tc ρ1 λb ρ2=>if b=true then te ρ2 λr ρ3=>sto [r.frz] ρ3 λes ρ4=>N (acc++es) (pc n2 .un++ρ4.drop n2)else N acc (pc n2 .un++ρ2.drop n2)) ->
  k (acc++(xs.filter p).map f) ρ->fU n2 c g tc te k (xs.map h) acc ρ
 | [],acc,_,_,hd=>by
  simp only[IH,CF,Bn]at hd
  unfold fU
  exact⟨hc,hd⟩
 | x::xs,acc,hl,hs,hd=>by
  rw[A1]
  unfold fU
  rw[A6]at hl
  refine⟨hc,by omega,hs x acc (λacc' ρ'=>fU n2 c g tc te k (xs.map h) acc' ρ') (.head _) ?_⟩
  have hs':=λy acc N (hy:y∈xs)=>hs y acc N (.tail _ hy)
  cases hp:p x with
  | true =>
   rw[if_pos rfl]
   exact fu h p f hc (by rw[A2,DP];omega) hs' (by simpa [hp] using hd)
  | false =>
   rw[if_neg (by decide)]
   exact fu h p f hc (by omega) hs' (by simpa [hp] using hd)
def mkT (M:List Nat):List (Key×D):=M.map λx:Nat=>((Sum.inl (x:Int):Key),D.bl true)
theorem sM (M:List Nat)(x:Nat):((mkT M).any λkv=>decide (kv.1=(Sum.inl (x:Int):Key)))=M.contains x:=by
 unfold mkT
 rw[FW,CM,CD,A5]
 constructor
 ·rintro⟨y,hy,e⟩
  have e:=of_decide_eq_true e
  injection e with e
  have:y=x:=Js.mp e
  rw[<- this];exact hy
 ·intro h
  exact⟨x,h,decide_eq_true rfl⟩
theorem kX (M:List Nat)(x:Nat):putD (mkT M) (Sum.inl (x:Int)) (D.bl true)=mkT (if x∈M then M else M++[x]):=by
 unfold putD
 rw[sM]
 by_cases h:x∈M
 ·rw[if_pos (A5.mpr h),if_pos h]
  unfold mkT
  rw[BF]
  refine List.map_congr_left λy _=>?_
  show(if(Sum.inl (y:Int):Key)=Sum.inl (x:Int)then _ else _)=_
  split
  ·rfl
  ·rfl
 ·rw[if_neg (λz=>h (A5.mp z)),if_neg h]
  unfold mkT
  rw[Br];rfl
theorem kG (M:List Nat)(x:Nat):(valD (mkT M) (Sum.inl (x:Int):Key)).isSome=M.contains x:=by
 rw[<- sM]
 induction mkT M with
 | nil=>rfl
 | cons kv t ih =>
  obtain⟨k,d⟩:=kv
  unfold valD at ih ⊢
  rw[CG,BQ]
  dsimp only
  cases decide (k=(Sum.inl (x:Int):Key))with
  | true=>rfl
  | false=>exact ih
theorem ke:∀(N M:List Nat),kf (mkT M) (mkT N)=mkT (N.foldl (λM x=>if x∈M then M else M++[x]) M)
 | [],M=>rfl
 | x::N,M=>by
  show kf (putD (mkT M) (Sum.inl (x:Int)) (D.bl true)) (mkT N)=_
  rw[kX,ke N];rfl
def yv (ak av:AE):AE:=λρ q=>ak ρ λr1 ρ1=>match r1 with
 | .d (.int i)=>av ρ1 λr2 ρ2=>(match r2 with | .d (.bl j)=>q (.n (.dk [(.inl i,.bl j)])) ρ2 | _=>False)
 | _=>False
theorem InF.bl {K:bi}{F:Fr}{σ:St}{ρ:En}{H:Hp}{v:V}{b:Bool}(h:InF K F σ ρ H v (.d (.bl b))):v = .bl b:=by
 have h:RepD K (hid H (hs F σ ρ)) v (.bl b):=h
 unfold RepD at h;exact h
theorem qc {K:bi}{tk tv:TE}{ak av:AE}(lk:yx tk)(lv:yx tv)(hk:TEok K tk ak)(hv:TEok K tv av):TEok K (yV [(tk,tv)]) (yv ak av):=by
 intro F σ ρ H q Q r h k p hp
 have go:tk σ H λv H1=>∃i,v = .int i/\tv σ H1 λv2 H2=>∃j,v2 = .bl j/\∃ ρ2,q (.n (.dk [(.inl i,.bl j)])) ρ2/\Rel K F σ ρ2 H2/\Kp σ ρ ρ2 H H2:=by
  refine hk F σ ρ H _ _ r h λr1 ρ1 x H1 h1 o1=>?_
  obtain⟨r1',k1,i1⟩:=o1.inF
  split at h1
  ·rename_i i
   refine⟨i,i1.int,hv F σ ρ1 H1 _ _ r1' h1 λr2 ρ2 y H2 h2 o2=>?_⟩
   obtain⟨r2',k2,i2⟩:=o2.inF
   split at h2
   ·exact⟨_,i2.bl,ρ2,h2,r2',k1.trans k2⟩
   ·exact h2.elim
  ·exact h1.elim
 obtain⟨_,⟨i,rfl,g2⟩,f1⟩:=lk σ H _ go
 obtain⟨_,⟨j,rfl,ρ2,hq,rel,kp⟩,f2⟩:=lv σ H _ g2
 refine f1 _ _ (f2 _ _ ⟨aQ,[(.inl i,.bl j)],rfl,by simp,?_⟩)
 have e:upd (upd H p (.dK [])) p (.dK (eC [] [(.inl i,.bl j)]))=upd H p (.dK [(.inl i,.bl j)]):=by
  funext a
  unfold upd
  split <;> rfl
 rw[e]
 exact k _ ρ2 _ _ hq ⟨H,p,_,rel,kp,rfl,⟨p,[(.inl i,.bl j)],rfl,aQ,rfl,.one (by unfold RepD;rfl)⟩,hp,rfl,rfl⟩
end L2
set_option maxHeartbeats 3200000
namespace L2
open PySem PySem.Spec PyProof.Rows
end L2
namespace K88
open PySem PySem.Spec PyProof.Rows L2
def top (i:Nat):Stmt:=PySem.Challenge.pw_fewjoins_k88_searches_refused.main.body.getD i (.Pass ⟨0,0,0,0⟩)
abbrev br:Stmt:=jY (top 11) 0
theorem g7:aX ["self", "wished", "clean", "known", "shut", "left"] ["self", "wished", "clean", "known", "shut", "left"] (ar br):=⟨rfl,rfl,rfl,by decide +kernel,rfl,by decide +kernel,by decide +kernel⟩
abbrev wb:Stmt:=top 0
abbrev iP:Stmt:=top 2
abbrev sI:List Str:=["one", "other"]
theorem rN:aX sI ["one", "other"] (ar iP):=⟨rfl,rfl,rfl,by decide +kernel,rfl,by decide +kernel,by decide +kernel⟩
abbrev d5:Stmt:=top 4
abbrev jw:List Str:=["many"]
theorem m8:aX jw ["many"] (ar d5):=⟨rfl,rfl,rfl,by decide +kernel,rfl,by decide +kernel,by decide +kernel⟩
abbrev gH:Stmt:=top 5
abbrev qr:List Str:=["one", "other"]
theorem qh:aX qr ["one", "other"] (ar gH):=⟨rfl,rfl,rfl,by decide +kernel,rfl,by decide +kernel,by decide +kernel⟩
abbrev eM:Stmt:=top 6
abbrev l8:List Str:=["net", "words", "many", "joins", "outs", "told", "a", "b"]
theorem cn:aX l8 ["net", "words"] (ar eM):=⟨rfl,rfl,rfl,by decide +kernel,rfl,by decide +kernel,by decide +kernel⟩
abbrev gG:Stmt:=top 7
abbrev qq:List Str:=["net"]
theorem qg:aX qq ["net"] (ar gG):=⟨rfl,rfl,rfl,by decide +kernel,rfl,by decide +kernel,by decide +kernel⟩
abbrev dz:Stmt:=top 9
abbrev jT:List Str:=["wish", "clean", "count", "many", "rows"]
theorem dU:aX jT ["wish", "clean", "count"] (ar dz):=⟨rfl,rfl,rfl,by decide +kernel,rfl,by decide +kernel,by decide +kernel⟩
abbrev fL:Stmt:=top 10
abbrev nJ:List Str:=["clean", "one", "other"]
theorem m9:aX nJ ["clean", "one", "other"] (ar fL):=⟨rfl,rfl,rfl,by decide +kernel,rfl,by decide +kernel,by decide +kernel⟩
abbrev gF:Stmt:=top 26
abbrev l7:List Str:=["net", "many", "joins", "outs", "stands", "leant", "numbers", "kept", "at", "a", "b"]
theorem ck:aX l7 ["net"] (ar gF):=⟨rfl,rfl,rfl,by decide +kernel,rfl,by decide +kernel,by decide +kernel⟩
abbrev dA:Stmt:=top 27
abbrev jU:List Str:=["rows", "first", "stands", "thing", "row"]
theorem cE:aX jU ["rows"] (ar dA):=⟨rfl,rfl,rfl,by decide +kernel,rfl,by decide +kernel,by decide +kernel⟩
abbrev d7:Stmt:=top 28
abbrev jx:List Str:=["net", "stands", "many", "joins", "outs", "leant", "at", "a", "b"]
theorem cm:aX jx ["net", "stands"] (ar d7):=⟨rfl,rfl,rfl,by decide +kernel,rfl,by decide +kernel,by decide +kernel⟩
abbrev jc:Stmt:=top 34
abbrev u7:List Str:=["wish", "clean", "count", "many", "rows", "found", "told"]
theorem dN:aX u7 ["wish", "clean", "count"] (ar jc):=⟨rfl,rfl,rfl,by decide +kernel,rfl,by decide +kernel,by decide +kernel⟩
abbrev fP:Stmt:=top 35
abbrev nO:List Str:=["many", "count", "most"]
theorem jb:aX nO ["many", "count"] (ar fP):=⟨rfl,rfl,rfl,by decide +kernel,rfl,by decide +kernel,by decide +kernel⟩
abbrev jd:Stmt:=top 36
abbrev u_:List Str:=["wish", "clean", "count", "paper", "found", "told"]
theorem bJ:aX u_ ["wish", "clean"] (ar jd):=⟨rfl,rfl,rfl,by decide +kernel,rfl,by decide +kernel,by decide +kernel⟩
abbrev fK:Stmt:=top 37
abbrev nI:List Str:=["cases", "lacking", "row", "free"]
theorem cZ:aX nI ["cases"] (ar fK):=⟨rfl,rfl,rfl,by decide +kernel,rfl,by decide +kernel,by decide +kernel⟩
abbrev cT:Stmt:=top 38
abbrev iH:List Str:=["cases", "row", "found", "told"]
theorem dj:aX iH ["cases", "row"] (ar cT):=⟨rfl,rfl,rfl,by decide +kernel,rfl,by decide +kernel,by decide +kernel⟩
abbrev cS:Stmt:=top 39
abbrev iG:List Str:=["cases", "free", "papers", "at", "row", "found", "told"]
theorem bN:aX iG ["cases", "free"] (ar cS):=⟨rfl,rfl,rfl,by decide +kernel,rfl,by decide +kernel,by decide +kernel⟩
abbrev cy:Stmt:=top 40
abbrev dY:List Str:=["wish", "clean", "known", "many", "rows", "joins"]
theorem c_:aX dY ["wish", "clean", "known"] (ar cy):=⟨rfl,rfl,rfl,by decide +kernel,rfl,by decide +kernel,by decide +kernel⟩
abbrev cp:Stmt:=top 41
abbrev e7:List Str:=["things", "row", "clean", "pairs"]
theorem eZ:aX e7 ["things", "row", "clean"] (ar cp):=⟨rfl,rfl,rfl,by decide +kernel,rfl,by decide +kernel,by decide +kernel⟩
abbrev fN:Stmt:=top 43
abbrev nM:List Str:=["_law_script"]
theorem m_:aX nM ["_law_script"] (ar fN):=⟨rfl,rfl,rfl,by decide +kernel,rfl,by decide +kernel,by decide +kernel⟩
abbrev fO:Stmt:=top 44
abbrev nN:List Str:=["_law_tape_here", "_law_many", "_law_found", "_law_spot", "_law_cells", "_law_cell", "_law_seed"]
theorem cJ:aX nN ["_law_tape_here", "_law_many"] (ar fO):=⟨rfl,rfl,rfl,by decide +kernel,rfl,by decide +kernel,by decide +kernel⟩
abbrev bZ:Stmt:=top 45
abbrev en:List Str:=["_law_tape_here", "_law_low", "_law_most", "_law_many", "_law_count"]
theorem c0:aX en ["_law_tape_here", "_law_low", "_law_most"] (ar bZ):=⟨rfl,rfl,rfl,by decide +kernel,rfl,by decide +kernel,by decide +kernel⟩
abbrev fM:Stmt:=top 46
abbrev nK:List Str:=["_law_way", "_law_wish", "_law_clean", "_law_count", "_law_found", "_law_refusal", "e"]
theorem bW:aX nK ["_law_way", "_law_wish", "_law_clean", "_law_count"] (ar fM):=⟨rfl,rfl,rfl,by decide +kernel,rfl,by decide +kernel,by decide +kernel⟩
abbrev uK:Stmt:=top 47
abbrev zx:List Str:=["_law_script", "_law_tape_here", "_law_turn", "_law_wish", "_law_clean", "_law_count", "_law_refused", "_law_great"]
theorem gE:aX zx ["_law_script"] (ar uK):=⟨rfl,rfl,rfl,by decide +kernel,rfl,by decide +kernel,by decide +kernel⟩
abbrev bq:Stmt:=jY (top 11) 1
abbrev ia:List Str:=["self", "row", "shut"]
theorem g6:aX ia ["self", "row", "shut"] (ar bq):=⟨rfl,rfl,rfl,by decide +kernel,rfl,by decide +kernel,by decide +kernel⟩
abbrev bo:Stmt:=jY (top 11) 2
abbrev e8:List Str:=["self"]
theorem iD:aX e8 ["self"] (ar bo):=⟨rfl,rfl,rfl,by decide +kernel,rfl,by decide +kernel,by decide +kernel⟩
abbrev aW:Stmt:=jY (top 11) 3
abbrev cf:List Str:=["self", "pairs", "made"]
theorem cR:aX cf ["self"] (ar aW):=⟨rfl,rfl,rfl,by decide +kernel,rfl,by decide +kernel,by decide +kernel⟩
abbrev aU:Stmt:=jY (top 11) 4
abbrev eQ:List Str:=["self"]
theorem eK:aX eQ ["self"] (ar aU):=⟨rfl,rfl,rfl,by decide +kernel,rfl,by decide +kernel,by decide +kernel⟩
abbrev bb:Stmt:=jY (top 11) 5
abbrev cU:List Str:=["self", "row", "met", "newest", "parts", "sums"]
theorem bG:aX cU ["self", "row"] (ar bb):=⟨rfl,rfl,rfl,by decide +kernel,rfl,by decide +kernel,by decide +kernel⟩
abbrev bO:Stmt:=jY (top 11) 6
abbrev bF:Stmt:=jY (top 11) 7
abbrev bD:Stmt:=jY (top 11) 8
abbrev bC:Stmt:=jY (top 11) 9
section
variable {P:wT}{w:Bf}{K:bi}{mg:Str->Option bv}{base:Heap}
theorem nF (D:DefN K mg "_law_tape" fN ["_law_script"])(B:BI mg):OkN P w K mg base 1 "_law_tape" ["_law_script"] (spA K yz):=by
 refine OkN.imp (sp:=rG K) ?_ xb
 refine D.ok m_ (λvs H Q E h=>?_) (λf cdv A outer s H vs Q E hr h=>?_)
 ·obtain⟨a,ns,rfl,_⟩:=h
  rfl
 ·obtain⟨a,ns,rfl,hS,k⟩:=h
  refine⟨_,(aJ (bg (sf (iQ cN (gK (gC K) (pv 0) jk (jj aN)) (iQ cN aN (iQ cN aN rY))) rfl rfl (by simp) (by decide)))),?_⟩
  intro t ht
  have s0:Same H (upd H t (.dK [])):=(Same.refl H).new ht
  refine⟨_,rfl,63,rfl,a,_,rfl,s0.seq hS,λl hl=>?_⟩
  have ntl:t≠l:=a_ aQ hl
  refine⟨by rw[aL ntl,aQ],[(Sum.inr ("cells" : Str),V.ref l),(Sum.inr ("spot" : Str),V.int 0),(Sum.inr ("left" : Str),V.int 0)],rfl,(by show 3<=15;decide),?_⟩
  rw[rj]
  have fin:=k t l ht (s0.free hl) ntl
  have eq:upd (upd (upd H t (.dK [])) l (.lst (cutV (ns.map V.int) none (some 63)))) t (.dK (cD l 0 0))=upd (upd H l (.lst ((ns.take 63).map V.int))) t (.dK (cD l 0 0)):=by
   rw[Az]
   funext b
   unfold upd
   by_cases h1:b=t
   ·rw[if_pos h1,if_pos h1]
   ·rw[if_neg h1,if_neg h1,if_neg h1]
  rw[eq]
  exact fin
theorem nG (D:DefN K mg "_law_draw" fO ["_law_tape_here", "_law_many"])(B:BI mg):OkN P w K mg base 1 "_law_draw" ["_law_tape_here", "_law_many"] (spA K vT):=by
 refine OkN.imp (sp:=rJ K) ?_ yg
 refine D.ok cJ (λvs H Q E h=>?_) (λf cdv A outer s H vs Q E hr h=>?_)
 ·obtain⟨t,c,m,sp,lf,ns,n,rfl,_⟩:=h
  rfl
 ·obtain⟨t,c,m,sp,lf,ns,n,rfl,hT,hC,h1,h2,h3,hn,hm,k⟩:=h
  have hu:=cW hr
  have hm0:=hm.1
  have gl:DGet H t (kV (Sum.inr "left")) (some (.int lf)):=by rw[<- rn (c:=c) (sp:=sp)];exact DGet.k hT
  have gs:DGet H t (kV (Sum.inr "spot")) (some (.int sp)):=by rw[<- ri (c:=c) (lf:=lf)];exact DGet.k hT
  have gc:DGet H t (kV (Sum.inr "cells")) (some (.ref c)):=by rw[<- j2 (sp:=sp) (lf:=lf)];exact DGet.k hT
  refine⟨_,(aw (d9 (bR jP (jn hu (pv 0) cN (λ_ _=>rfl)) aN (bU _))
   (aw (bf (i:=2) cJ.nd rfl (by first | exact Or.inl rfl | exact Or.inr rfl) (bM ju (jn hu (pv 0) cN (λ_ _=>rfl)) (pv 1)))
   (aw (ji hu (pv 0) cN (bM k7 (jn hu (pv 0) cN (λ_ _=>rfl)) (pv 1)) rfl)
   (aJ (bg (pv 2)))))
   bX)
   (aw (bf (i:=3) cJ.nd rfl (by first | exact Or.inl rfl | exact Or.inr rfl) (jn hu (pv 0) cN (λ_ _=>rfl)))
   (aw (ji hu (pv 0) cN (bM eh (pv 3) aN) rfl)
   (aw (bf (i:=4) cJ.nd rfl (by first | exact Or.inl rfl | exact Or.inr rfl) (jn hu (pv 0) cN (λ_ _=>rfl)))
   (aw (bf (i:=5) cJ.nd rfl (by first | exact Or.inl rfl | exact Or.inr rfl) aN)
   (aw (d9 (bR jP (cH (fC K) rfl B.len_ mS (ao (pv 4) aD)) aN (bU _))
   (aJ (bf (i:=5) cJ.nd rfl (by first | exact Or.inl rfl | exact Or.inr rfl) (dG (bH K) (pv 4) (bM ju (pv 3) (cH (fC K) rfl B.len_ mS (ao (pv 4) aD))) (λ_ _=>rfl))))
   bX)
   (aw (d9 (PW.pt (o7 (bR zp (pv 5) (bM pA aN aN) (bU _)) (kT (bR zk (pv 3) (cH (fC K) rfl B.len_ mS (ao (pv 4) aD)) (bU _)))))
   (aw (ji hu (pv 0) cN (bM k7 (bM j7 (pv 5) (bM pA aN aN)) (pv 1)) rfl)
   (aJ (bg (bM ju (bM j7 (pv 5) (bM pA aN aN)) (pv 1)))))
   bX)
   (aw (bf (i:=6) cJ.nd rfl (by first | exact Or.inl rfl | exact Or.inr rfl) (bM ju (bM j8 (bM eh (bM eh (bM eh (bM ju (pv 5) aN) (bM j8 (bM j8 aN (pv 3)) (pv 3))) (bM j8 aN (pv 3))) aN) aN) aN))
   (aJ (bg (bM ju (bM k7 (bM ju (bM j8 (pv 6) (bM eh (pv 6) aN)) aN) aN) (pv 1)))))))))))),?_⟩
  refine⟨_,rfl,t,_,rfl,gl,_,_,rfl,rfl,_,rfl,ite2 (λhl=>?_) λhl=>?_⟩
  ·refine⟨_,rfl,t,_,rfl,gl,_,rfl,_,_,rfl,rfl,hm0,?_⟩
   refine⟨_,rfl,t,_,rfl,gl,_,rfl,_,_,rfl,rfl,hm,_,rfl,t,_,rfl,DPut.k (k:=Sum.inr "left") hT (d4 (by show 3<=1000;decide)),_,rfl,?_⟩
   rw[kW]
   exact drawn (Q:=λz H=>Q (.int z) H) hm0 λr hr=>k r _ _ hr h1 (by omega) (Gz h3 (F5 hm0))
  ·refine⟨_,rfl,t,_,rfl,gs,?_⟩
   refine⟨_,rfl,_,_,rfl,rfl,_,rfl,t,_,rfl,DPut.k (k:=Sum.inr "spot") hT (d4 (by show 3<=1000;decide)),?_⟩
   rw[uO]
   have hT1:(upd H t (.dK (cD c (sp+1) lf))) t=some (.dK (cD c (sp+1) lf)):=aQ
   have hC1:SqL K (upd H t (.dK (cD c (sp+1) lf))) c (ns.map V.int):=Grow.seq (Grow.refl.upd _) hT hC
   have gr1:Grow t H (upd H t (.dK (cD c (sp+1) lf))):=Grow.refl.upd _
   have gc1:DGet (upd H t (.dK (cD c (sp+1) lf))) t (kV (Sum.inr "cells")) (some (.ref c)):=by rw[<- j2 (sp:=sp+1) (lf:=lf)];exact DGet.k hT1
   have kk:∀(r:Nat) (lf':Int),(r:Int)<m->0<=lf'->Q (.int (r:Nat)) (upd (upd H t (.dK (cD c (sp+1) lf))) t (.dK (cD c (sp+1) lf'))):=λr lf' hr hl=>by rw[g0];exact k r _ _ hr (by omega) (by omega) hl
   have kl:∀(r:Nat),(r:Int)<m->Q (.int (r:Nat)) (upd H t (.dK (cD c (sp+1) lf))):=λr hr=>k r _ _ hr (by omega) (by omega) h3
   generalize upd H t (.dK (cD c (sp+1) lf))=H1 at hT1 hC1 gr1 gc1 kk kl ⊢
   refine⟨_,rfl,t,_,rfl,gc1,?_⟩
   have p18:(10:Int)^(18:Int).toNat=1000000000000000000:=by decide
   have fits:CPow 10 18:=⟨by decide,by decide,by decide⟩
   have pos1:(0:Int)<2147483629:=by decide
   have pos2:(0:Int)<2147483647:=by decide
   have spOk:-(2^64)<sp/\sp<2^64:=by omega
   refine⟨_,rfl,c,_,rfl,.inl hC1,_,_,rfl,rfl,_,rfl,ite2 (λhl=>?_) λhl=>?_⟩
   ·have hl':0<ns.length:=by
     have:=of_decide_eq_true hl
     rw[lw]at this
     omega
    have el:((ns.map V.int).length:Int)=ns.length:=by rw[lw]
    have hb0:0<=sp % ((ns.map V.int).length:Int):=IW _ (by omega)
    have hb1:sp % ((ns.map V.int).length:Int)<((ns.map V.int).length:Int):=Ig _ (by omega)
    obtain⟨j,hj⟩:=DG hb0
    have hj':j<ns.length:=by rw[hj]at hb1;omega
    refine⟨_,rfl,_,rfl,_,rfl,c,_,rfl,.inl hC1,_,_,rfl,rfl,(by show(0:Int)<((ns.map V.int).length:Int);omega),.inl ⟨c,_,_,V.int ns[j],rfl,rfl,hC1,?_,?_⟩⟩
    ·rw[hj]
     exact fE (by simp[hj'])
    ·generalize ns[j]=z
     refine⟨_,rfl,_,_,rfl,rfl,fits,_,_,rfl,rfl,_,rfl,ite2 (λhz=>?_) λhz=>?_⟩
     ·refine⟨_,rfl,_,rfl,c,_,rfl,.inl hC1,_,_,rfl,rfl,_,rfl,ite2 (λhs=>?_) λhs=>?_⟩
      ·refine⟨_,rfl,_,_,rfl,rfl,fits,_,_,rfl,rfl,_,rfl,_,_,rfl,rfl,hm,_,rfl,t,_,rfl,DPut.k (k:=Sum.inr "left") hT1 (d4 (by show 3<=1000;decide)),?_⟩
       rw[kW]
       refine⟨_,rfl,_,_,rfl,rfl,fits,_,_,rfl,rfl,_,rfl,_,_,rfl,rfl,hm0,?_⟩
       refine drawn (Q:=λz H=>Q (.int z) H) hm0 λr hr=>kk r _ hr (Gz ?_ (F5 hm0))
       have hz':=of_decide_eq_true hz
       rw[p18]at hz' ⊢
       omega
      ·refine⟨_,rfl,_,_,rfl,rfl,pos1,_,rfl,_,_,rfl,rfl,.inl ⟨by decide,by decide⟩,_,rfl,_,_,rfl,rfl,.inr spOk,_,_,rfl,rfl,_,rfl,_,_,rfl,rfl,.inl ⟨by decide,by decide⟩,_,_,rfl,rfl,_,_,rfl,rfl,_,_,rfl,rfl,.inr ⟨by decide,by decide⟩,_,_,rfl,rfl,pos2,?_⟩
       refine⟨_,rfl,_,rfl,_,_,rfl,rfl,_,_,rfl,rfl,.inl oW,_,_,rfl,rfl,pos1,_,_,rfl,rfl,dv64,_,rfl,_,_,rfl,rfl,hm0,?_⟩
       exact drawn (Q:=λz H=>Q (.int z) H) hm0 λr hr=>kl r hr
     ·refine⟨_,rfl,_,_,rfl,rfl,pos1,_,rfl,_,_,rfl,rfl,.inl ⟨by decide,by decide⟩,_,rfl,_,_,rfl,rfl,.inr spOk,_,_,rfl,rfl,_,rfl,_,_,rfl,rfl,.inl ⟨by decide,by decide⟩,_,_,rfl,rfl,_,_,rfl,rfl,_,_,rfl,rfl,.inr ⟨by decide,by decide⟩,_,_,rfl,rfl,pos2,?_⟩
      refine⟨_,rfl,_,rfl,_,_,rfl,rfl,_,_,rfl,rfl,.inl oW,_,_,rfl,rfl,pos1,_,_,rfl,rfl,dv64,_,rfl,_,_,rfl,rfl,hm0,?_⟩
      exact drawn (Q:=λz H=>Q (.int z) H) hm0 λr hr=>kl r hr
   ·refine⟨_,rfl,_,_,rfl,rfl,fits,_,_,rfl,rfl,_,rfl,ite2 (λhz=>?_) λhz=>?_⟩
    ·refine⟨_,rfl,_,rfl,c,_,rfl,.inl hC1,_,_,rfl,rfl,_,rfl,ite2 (λhs=>?_) λhs=>?_⟩
     ·refine⟨_,rfl,_,_,rfl,rfl,fits,_,_,rfl,rfl,_,rfl,_,_,rfl,rfl,hm,_,rfl,t,_,rfl,DPut.k (k:=Sum.inr "left") hT1 (d4 (by show 3<=1000;decide)),?_⟩
      rw[kW]
      refine⟨_,rfl,_,_,rfl,rfl,fits,_,_,rfl,rfl,_,rfl,_,_,rfl,rfl,hm0,?_⟩
      refine drawn (Q:=λz H=>Q (.int z) H) hm0 λr hr=>kk r _ hr (Gz ?_ (F5 hm0))
      have hz':=of_decide_eq_true hz
      rw[p18]at hz' ⊢
      omega
     ·refine⟨_,rfl,_,_,rfl,rfl,pos1,_,rfl,_,_,rfl,rfl,.inl ⟨by decide,by decide⟩,_,rfl,_,_,rfl,rfl,.inr spOk,_,_,rfl,rfl,_,rfl,_,_,rfl,rfl,.inl ⟨by decide,by decide⟩,_,_,rfl,rfl,_,_,rfl,rfl,_,_,rfl,rfl,.inr ⟨by decide,by decide⟩,_,_,rfl,rfl,pos2,?_⟩
      refine⟨_,rfl,_,rfl,_,_,rfl,rfl,_,_,rfl,rfl,.inl oW,_,_,rfl,rfl,pos1,_,_,rfl,rfl,dv64,_,rfl,_,_,rfl,rfl,hm0,?_⟩
      exact drawn (Q:=λz H=>Q (.int z) H) hm0 λr hr=>kl r hr
    ·refine⟨_,rfl,_,_,rfl,rfl,pos1,_,rfl,_,_,rfl,rfl,.inl ⟨by decide,by decide⟩,_,rfl,_,_,rfl,rfl,.inr spOk,_,_,rfl,rfl,_,rfl,_,_,rfl,rfl,.inl ⟨by decide,by decide⟩,_,_,rfl,rfl,_,_,rfl,rfl,_,_,rfl,rfl,.inr ⟨by decide,by decide⟩,_,_,rfl,rfl,pos2,?_⟩
     refine⟨_,rfl,_,rfl,_,_,rfl,rfl,_,_,rfl,rfl,.inl oW,_,_,rfl,rfl,pos1,_,_,rfl,rfl,dv64,_,rfl,_,_,rfl,rfl,hm0,?_⟩
     exact drawn (Q:=λz H=>Q (.int z) H) hm0 λr hr=>kl r hr
end
end K88
set_option maxHeartbeats 1000000
namespace K88
open PySem PySem.Spec PyProof.Rows L2
theorem vn (n:Nat)(xs:List Nat):inD (nD n) (aE xs)=xs.contains n:=by
 unfold inD aE
 rw[FW]
 induction xs with
 | nil=>rfl
 | cons x xs ih =>
  rw[CG,HY,ih]
  congr 1
  show eqD (nD x) (nD n)=(n==x)
  unfold eqD
  show decide ((x:Int)=(n:Int))=(n==x)
  by_cases h:n=x
  ·subst h;simp
  ·have:¬((x:Int)=(n:Int)):=by omega
   simp[h,this]
theorem pN {neg:Bool}{r2:R}{ρ:En}{q:Ko}{xs:List Nat}{n:Nat}(hv:view ρ r2=some (.lst (aE xs)))(hq:q (.d (.bl (if neg then !xs.contains n else xs.contains n))) ρ):gIn neg (.d (nD n)) r2 ρ q:=by
 unfold gIn
 have e1:view ρ (.d (nD n))=some (nD n):=rfl
 rw[e1,hv]
 refine⟨⟨rfl,Iu.mpr λd hd=>?_⟩,?_⟩
 ·obtain⟨x,_,rfl⟩:=BP.mp hd;rfl
 ·rw[vn];exact hq
theorem cV (xs:List Nat):(aE xs).length=xs.length:=by unfold aE;rw[lw]
theorem jf {xs:List Nat}(h:xs.Pairwise (· < ·)):(xs.map λr=>((r:Nat):Int)).Pairwise (· < ·):=Ie.mpr (h.imp λh=>by omega)
section
variable {n:Nat}{js:List Nat}{c:En->Prop}{g:AG}{tc:AT}{te:AE}{q:List D->En->Prop}
theorem mK {α:Type}(h:α->D)(p:α->Bool)(f:α->D){xs:List α}{ρ:En}(hc:c ρ)(hs:∀x acc (N:List D->En->Prop),x∈xs->N (if p x=true then acc++[f x]else acc) ρ->wY n js g tc te ρ (h x) acc N)
  (hd:q ((xs.filter p).map f) ρ):fV n js c g tc te q (xs.map h) [] ρ:=by
 refine gV (λk acc ρ'=>ρ'=ρ/\acc=((xs.take k).filter p).map f) (λk acc ρ' _ h=>h.1▸hc) ?_ ?_ ρ ⟨rfl,rfl⟩
 ·rintro k d acc _ N hk ⟨rfl,rfl⟩ hN
  rw[wP]at hk
  obtain⟨x,e1,rfl⟩:=Bb.mp hk
  refine hs x _ N (BC e1) (hN _ _ ⟨rfl,?_⟩)
  rw[B2,e1,Dz,FA,Br]
  cases hp:p x <;> simp[hp]
 ·rintro acc _ ⟨rfl,rfl⟩
  rw[lw,Cj];exact hd
end
structure Cs where
 W:List Nat
 cl:Bool
 kn:List Nat
 sh:List Nat
 lf:Nat
def obC (C:Addr)(c:Cs):Sv:=.ob C [("wished",.tup (aE c.W)),("clean",.bl c.cl),("known",.lst (aE c.kn)),("shut",.lst (aE c.sh)),("left",.int (c.lf:Nat))]
structure CsOk (c:Cs):Prop where
 w24:c.W.length<=24
 w:∀r∈c.W,1<=r/\r<64
 k:∀r∈c.kn,1<=r/\r<64
 kd:c.kn.Nodup
 sl:c.sh.length+64*c.lf<=704
 s:∀r∈c.sh,r<64
 l:c.lf<=11
def bB (W K:List Nat):List Nat:=(zn 64).filter λr=>W.contains r && !K.contains r
def mayN (c:Bool)(x y:Nat):Bool:=!c||decide (x &&& y=0)
def eR (c:Bool)(K:List Nat)(r:Nat):Bool:=K.any λa=>K.any λb=>decide (a≠b)&&mayN c a b&&decide (a ^^^ b=r)
def bY (c:Bool)(K S:List Nat):List Nat:=(zn 64).filter λr=>eR c K r && !K.contains r && !S.contains r
inductive Rch (c:Bool) (K:List Nat):Nat->Nat->Prop
 | nil:Rch c K 0 0
 | add {n t p:Nat} (h:Rch c K n t) (hp:p∈K) (hm:mayN c t p=true):Rch c K (n+1) (t ^^^ p)
open Classical in
noncomputable def farN (c:Bool)(K:List Nat)(l r:Nat):Bool:=decide (¬ ∃n,n<=l+1/\Rch c K n r)
def bK (m:Nat)(rs:List Nat):D:=.tup [nD m,.tup (aE rs)]
def SMay:ASp:=λss q=>∃(c:Bool) (x y:Nat),ss=[.vl (.bl c),nv x,nv y]/\q (.d (.bl (mayN c x y))) [.vl (.bl c),nv x,nv y]
def vR (C:Addr):ASp:=λss q=>∃(c:Cs) (r:Nat) (s:List Nat),ss=[obC C c,nv r,.vl (.lst (aE s))]/\c.kn.length<=1000/\1<=c.lf/\q (.x (obC C ⟨c.W,c.cl,c.kn++[r],s,c.lf - 1⟩)) [obC C c,nv r,.vl (.lst (aE s))]
def vS (C:Addr):ASp:=λss q=>∃c:Cs,ss=[obC C c]/\CsOk c/\q (.f (aE (bB c.W c.kn))) [obC C c]
def uh (C:Addr):ASp:=λss q=>∃c:Cs,ss=[obC C c]/\CsOk c/\q (.d (.bl (decide (c.lf<(bB c.W c.kn).length)))) [obC C c]
def yB (C:Addr):ASp:=λss q=>∃c:Cs,ss=[obC C c]/\CsOk c/\q (.f (aE (bY c.cl c.kn c.sh))) [obC C c]
def SFar (C:Addr):ASp:=λss q=>∃(c:Cs) (r:Nat),ss=[obC C c,nv r]/\CsOk c/\r<64/\q (.d (.bl (farN c.cl c.kn c.lf r))) [obC C c,nv r]
def ui (C:Addr):ASp:=λss q=>∃(m:Nat) (W:List Nat) (cl:Bool) (l:Nat),ss=[.vl (bK m W),.vl (.bl cl),nv l]/\m<=12/\q (.x (obC C ⟨W,cl,aP m,[],l⟩)) [.vl (bK m W),.vl (.bl cl),nv l]
theorem CsOk.kl {c:Cs}(h:CsOk c):c.kn.length<=63:=by
 have:=CA h.kd (l₂:=(zn 63).map (· + 1)) λx hx=>by
  have:=h.k x hx
  exact BP.mpr ⟨x - 1,Bv.mpr (by omega),by omega⟩
 rwa [lw,Cy]at this
def pD (p:Nat×Nat):D:=.tup [nD p.1,nD p.2]
def prU (K:List Nat)(n:Nat):List (Nat×Nat):=(zn n).flatMap λi=>(K.take i).map λb=>(K.getD i 0,b)
def prN (K:List Nat):List (Nat×Nat):=prU K K.length
theorem pf (K:List Nat)(n:Nat):prU K (n+1)=prU K n++(K.take n).map λb=>(K.getD n 0,b):=by
 unfold prU
 rw[CL,El,ED,F7,Bn]
theorem ng (K:List Nat):∀n,(prU K n).length<=n*K.length
 | 0=>by simp[prU]
 | n+1=>by
  rw[pf,A2,lw,Bz,J7]
  have:=ng K n
  omega
theorem xA (K:List Nat):(prN K).length<=K.length*K.length:=ng K _
theorem nh {K:List Nat}{a b:Nat}:(a,b)∈prN K↔∃i,i<K.length/\K.getD i 0=a/\b∈K.take i:=by
 unfold prN prU
 rw[F6]
 constructor
 ·rintro⟨i,hi,h⟩
  obtain⟨x,hx,e⟩:=BP.mp h
  injection e with e1 e2
  subst e2
  exact⟨i,Bv.mp hi,e1,hx⟩
 ·rintro⟨i,hi,rfl,h⟩
  exact⟨i,Bv.mpr hi,BP.mpr ⟨b,h,rfl⟩⟩
theorem iU {K:List Nat}{i:Nat}(h:i<K.length):K.getD i 0∈K:=by
 rw[wS,im h];exact DS h
theorem iS {K:List Nat}{x:Nat}(h:x∈K):∃i,i<K.length/\K.getD i 0=x:=by
 obtain⟨i,hi,e⟩:=CO h
 exact⟨i,hi,by rw[wS,im hi];exact e⟩
theorem fI {K:List Nat}{i:Nat}{x:Nat}:x∈K.take i↔∃j,j<i/\j<K.length/\K.getD j 0=x:=by
 constructor
 ·intro h
  obtain⟨j,hj,e⟩:=CO h
  rw[Bz]at hj
  refine⟨j,by omega,by omega,?_⟩
  rw[wS,im (by omega)]
  rw[FT]at e
  exact e
 ·rintro⟨j,h1,h2,rfl⟩
  rw[wS,im h2]
  exact List.mem_take_iff_getElem.mpr ⟨j,by omega,rfl⟩
theorem lh {K:List Nat}(nd:K.Nodup){i j:Nat}(hi:i<K.length)(hj:j<K.length)(e:K.getD i 0=K.getD j 0):i=j:=by
 rw[wS,wS,im hi,im hj]at e
 rcases CK i j with h | h | h
 ·exact absurd e (C5.mp nd i j hi hj h)
 ·exact h
 ·exact absurd e.symm (C5.mp nd j i hj hi h)
theorem l_ (c:Bool)(a b:Nat):mayN c a b=mayN c b a:=by unfold mayN;rw[Hm]
theorem eA {c:Bool}{K:List Nat}{r:Nat}:eR c K r=true↔∃a∈K,∃b∈K,a≠b/\mayN c a b=true/\a ^^^ b=r:=by
 unfold eR
 rw[CD]
 refine exists_congr λa=>and_congr Iv ?_
 rw[CD]
 refine exists_congr λb=>and_congr Iv ?_
 rw[A7,A7,decide_eq_true_eq,decide_eq_true_eq,and_assoc]
theorem xK {c:Bool}{K:List Nat}(nd:K.Nodup){r:Nat}:eR c K r=true↔∃p∈prN K,mayN c p.1 p.2=true/\p.1 ^^^ p.2=r:=by
 rw[eA]
 constructor
 ·rintro⟨a,ha,b,hb,ne,hm,rfl⟩
  obtain⟨i,hi,rfl⟩:=iS ha
  obtain⟨j,hj,rfl⟩:=iS hb
  rcases CK i j with h | h | h
  ·exact⟨(K.getD j 0,K.getD i 0),nh.mpr ⟨j,hj,rfl,fI.mpr ⟨i,h,hi,rfl⟩⟩,by rw[l_];exact hm,Ex _ _⟩
  ·subst h;exact absurd rfl ne
  ·exact⟨(K.getD i 0,K.getD j 0),nh.mpr ⟨i,hi,rfl,fI.mpr ⟨j,h,hj,rfl⟩⟩,hm,rfl⟩
 ·rintro⟨⟨a,b⟩,hp,hm,rfl⟩
  obtain⟨i,hi,rfl,hb⟩:=nh.mp hp
  obtain⟨j,h1,h2,rfl⟩:=fI.mp hb
  exact⟨_,iU hi,_,iU h2,λe=>by have:=lh nd hi h2 e;omega,hm,rfl⟩
theorem uF {F ys:List Nat}{ns':List Int}(pm:ns'.Perm (F.map λr=>((r:Nat):Int)))(up:ns'.Pairwise (· <= ·))(nd:F.Nodup)(hy:ys.Pairwise (· < ·))(hm:∀x,x∈F↔x∈ys):ns'=ys.map λr=>((r:Nat):Int):=by
 have h1:ns'.Perm (ys.map λr=>((r:Nat):Int)):=pm.trans (List.Perm.map _ ((List.perm_ext_iff_of_nodup nd (hy.imp λh=>by omega)).mpr hm))
 exact List.Perm.eq_of_pairwise (le:=λa b=>a<=b) (λa b _ _ h1 h2=>Int.le_antisymm h1 h2) up ((jf hy).imp λh=>by omega) h1
theorem ya {F:List Nat}(nd:F.Nodup)(h:∀r∈F,1<=r/\r<64):F.length<64:=by
 have:=CA nd (l₂:=(zn 63).map (· + 1)) λx hx=>by
  have:=h x hx
  exact BP.mpr ⟨x - 1,Bv.mpr (by omega),by omega⟩
 rw[lw,Cy]at this
 omega
theorem wV {a b:Nat}(ha:a<64)(hb:b<64):a ^^^ b<64:=Nat.xor_lt_two_pow (n:=6) ha hb
theorem wR {a b:Nat}(h:a≠b):1<=a ^^^ b:=FK λe=>h (by
 have:=congrArg (λt=>t ^^^ b) e
 simp only[Fz,JG,E5,Nat.zero_xor]at this
 exact this)
def insM (M:List Nat)(x:Nat):List Nat:=if x∈M then M else M++[x]
theorem pL {M:List Nat}{x y:Nat}:y∈insM M x↔y∈M∨y=x:=by
 unfold insM
 split
 ·rename_i h
  exact⟨.inl,λz=>z.elim id λe=>e▸h⟩
 ·rw[Bq,wE]
theorem sW {M:List Nat}{x:Nat}(h:M.Nodup):(insM M x).Nodup:=by
 unfold insM
 split
 ·exact h
 ·rename_i hx
  exact Dn.mpr ⟨h,by simp,λa ha b hb e=>hx (by rw[wE.mp hb]at e;exact e▸ha)⟩
theorem dJ {c:Bool}{K:List Nat}(hk:∀r∈K,1<=r/\r<64){r:Nat}(h:eR c K r=true):1<=r/\r<64:=by
 obtain⟨a,ha,b,hb,ne,_,rfl⟩:=eA.mp h
 exact⟨wR ne,wV (hk a ha).2 (hk b hb).2⟩
theorem cv {c:Bool}{K S:List Nat}(hk:∀r∈K,1<=r/\r<64){r:Nat}:r∈bY c K S↔eR c K r=true/\r∉K/\r∉S:=by
 unfold bY
 rw[Bm,Bv,A7,A7,BV,BV,<- Cm,<- Cm,A5,A5,and_assoc]
 exact⟨λh=>h.2,λh=>⟨(dJ hk h.1).2,h⟩⟩
theorem pO (c:Bool)(K S:List Nat):(bY c K S).Pairwise (· < ·):=Dj _ Cw
theorem vj (W K:List Nat):(bB W K).Pairwise (· < ·):=Dj _ Cw
theorem dM {W K:List Nat}(hw:∀r∈W,1<=r/\r<64){r:Nat}:r∈bB W K↔r∈W/\r∉K:=by
 unfold bB
 rw[Bm,Bv,A7,BV,<- Cm,A5,A5]
 exact⟨λh=>h.2,λh=>⟨(hw r h.1).2,h⟩⟩
theorem xv {c:Bool}{K:List Nat}(hk:∀r∈K,1<=r/\r<64){n r:Nat}(h:Rch c K n r):r<64:=by
 induction h with
 | nil=>decide
 | add h hp hm ih=>exact wV ih (hk _ hp).2
theorem xu {c:Bool}{K:List Nat}{n x:Nat}(h:Rch c K (n+1) x):∃t p,Rch c K n t/\p∈K/\mayN c t p=true/\x=t ^^^ p:=by
 cases h with
 | add h hp hm=>exact⟨_,_,h,hp,hm,rfl⟩
def sumN (c:Bool)(K N:List Nat):List Nat:=N.flatMap λt=>(K.filter (mayN c t)).map λp=>t ^^^ p
theorem oP {c:Bool}{K N:List Nat}{x:Nat}:x∈sumN c K N↔∃t∈N,∃p∈K,mayN c t p=true/\t ^^^ p=x:=by
 unfold sumN
 rw[F6]
 refine exists_congr λt=>and_congr Iv ?_
 rw[BP]
 refine exists_congr λp=>?_
 rw[Bm,and_assoc]
structure Lev (c:Bool)(K:List Nat)(k:Nat)(M N:List Nat):Prop where
 m:∀x,x∈M↔∃n,n<=k/\Rch c K n x
 n:∀x,x∈N↔Rch c K k x/\∀n,n<k->¬Rch c K n x
 nd:N.Nodup
 up:k=0->N=[0]
theorem Lev.new {c:Bool}{K:List Nat}{k:Nat}{M N:List Nat}(L:Lev c K k M N){x:Nat}(hx:x∉M):x∈sumN c K N↔Rch c K (k+1) x:=by
 rw[oP]
 constructor
 ·rintro⟨t,ht,p,hp,hm,rfl⟩
  exact .add ((L.n t).mp ht).1 hp hm
 ·intro h
  obtain⟨t,p,h1,hp,hm,rfl⟩:=xu h
  refine⟨t,(L.n t).mpr ⟨h1,λn hn h2=>hx ((L.m _).mpr ⟨n+1,by omega,.add h2 hp hm⟩)⟩,p,hp,hm,rfl⟩
theorem Lev.next {c:Bool}{K:List Nat}{k:Nat}{M N N' M':List Nat}(L:Lev c K k M N)(hn:∀x,x∈N'↔x∈sumN c K N/\x∉M)(hm:∀x,x∈M'↔x∈M∨x∈N')(nd:N'.Nodup):Lev c K (k+1) M' N':=by
 have key:∀x,x∈N'↔Rch c K (k+1) x/\∀n,n<k+1->¬Rch c K n x:=λx=>by
  rw[hn]
  constructor
  ·rintro⟨h1,h2⟩
   exact⟨(L.new h2).mp h1,λn hn h=>h2 ((L.m x).mpr ⟨n,by omega,h⟩)⟩
  ·rintro⟨h1,h2⟩
   have h3:x∉M:=λh=>by
    obtain⟨n,hn,h⟩:=(L.m x).mp h
    exact h2 n (by omega) h
   exact⟨(L.new h3).mpr h1,h3⟩
 refine⟨λx=>?_,key,nd,λe=>by omega⟩
 rw[hm,L.m,key]
 constructor
 ·rintro(⟨n,h1,h2⟩ | ⟨h1,_⟩)
  ·exact⟨n,by omega,h2⟩
  ·exact⟨k+1,wl _,h1⟩
 ·rintro⟨n,h1,h2⟩
  by_cases z:∃n,n<=k/\Rch c K n x
  ·exact .inl z
  ·have:n=k+1:=by
    rcases Bh k n with q | q
    ·omega
    ·exact absurd ⟨n,q,h2⟩ z
   subst this
   exact .inr ⟨h2,λn hn h=>z ⟨n,by omega,h⟩⟩
theorem Lev.start {c:Bool}{K:List Nat}:Lev c K 0 [0] [0]:=by
 have h0:∀x,Rch c K 0 x↔x=0:=λx=>⟨λh=>by cases h;rfl,λe=>by rw[e];exact .nil⟩
 refine⟨λx=>?_,λx=>?_,by simp,λ_=>rfl⟩
 ·rw[wE]
  exact⟨λe=>⟨0,wl _,(h0 x).mpr e⟩,λ⟨n,hn,h⟩=>by
   have e:n=0:=by omega
   subst e
   exact(h0 x).mp h⟩
 ·rw[wE,h0]
  exact⟨λe=>⟨e,λn hn=>by omega⟩,λh=>h.1⟩
theorem Lev.lt {c:Bool}{K:List Nat}{k:Nat}{M N:List Nat}(L:Lev c K k M N)(hk:∀r∈K,1<=r/\r<64):N.length<64:=by
 by_cases z:k=0
 ·rw[L.up z];decide
 ·refine ya L.nd λr hr=>?_
  obtain⟨h1,h2⟩:=(L.n r).mp hr
  exact⟨FK λe=>h2 0 (by omega) (by rw[e];exact .nil),xv hk h1⟩
theorem kM (c:Bool)(K:List Nat):∀N:List Nat,(sumN c K N).length<=N.length*K.length
 | []=>by simp[sumN]
 | t::N=>by
  have:=kM c K N
  unfold sumN at this ⊢
  rw[ED,A2,lw,A6,J7]
  have:=C1 (mayN c t) K
  omega
theorem tL (N:List Nat):∀M:List Nat,M.Nodup->(N.foldl insM M).Nodup/\∀x,x∈N.foldl insM M↔x∈M∨x∈N:=by
 induction N with
 | nil=>intro M h;exact⟨h,λx=>by simp⟩
 | cons n N ih =>
  intro M h
  obtain⟨a,b⟩:=ih (insM M n) (sW h)
  refine⟨a,λx=>?_⟩
  rw[E7,b x,pL,wn,or_assoc]
theorem pR {c:Bool}{K:List Nat}{l r:Nat}:farN c K l r=true↔¬ ∃n,n<=l+1/\Rch c K n r:=by classical unfold farN;exact decide_eq_true_iff
theorem yb {c:Bool}{K:List Nat}{l r:Nat}{b:Bool}(h:b=true↔∃n,n<=l+1/\Rch c K n r):farN c K l r = !b:=by
 rw[CM,pR,<- h]
 cases b <;> simp
def Pap (W:List Nat)(cl:Bool):Nat->List Nat->List Nat->D->Prop
 | 0,kn,sh,d=>(d = .tup [.str "rows"]/\0<(bB W kn).length)∨(∃r,d = .tup [.str "far",nD r]/\r∈bB W kn/\farN cl kn 0 r=true)
 | l+1,kn,sh,d=>(d = .tup [.str "rows"]/\l+1<(bB W kn).length)∨(∃r,d = .tup [.str "far",nD r]/\r∈bB W kn/\farN cl kn (l+1) r=true) ∨
  (∃r p,d = .tup [.str "made",nD r,p]/\r∈bB W kn/\r∈bY cl kn sh/\Pap W cl l (kn++[r]) sh p) ∨
  (∃ps,d = .tup [.str "next",.tup ps]/\bB W kn≠[]/\ps.length=(bY cl kn sh).length/\∀i,i<ps.length->Pap W cl l (kn++[(bY cl kn sh).getD i 0]) (sh++(bY cl kn sh).take i) (ps.getD i .non))
theorem AB {b:Bool}{p:Prop}(h:b=true↔p)(n:¬p):b=false:=by
 cases b with
 | false=>rfl
 | true=>exact absurd (h.mp rfl) n
theorem vA {c:Cs}(hc:CsOk c):(bY c.cl c.kn c.sh).length<=63:=by
 have:=ya ((pO c.cl c.kn c.sh).imp λh=>by omega) λr hr=>dJ hc.k ((cv hc.k).mp hr).1
 omega
theorem CsOk.with {c:Cs}(hc:CsOk c)(hl:1<=c.lf){r:Nat}{s:List Nat}(hr:1<=r/\r<64)(hn:r∉c.kn)(hs:∀x∈s,x<64)(sl:s.length<=c.sh.length+63):CsOk ⟨c.W,c.cl,c.kn++[r],s,c.lf - 1⟩ :=
 ⟨hc.w24,hc.w,λx hx=>(Bq.mp hx).elim (hc.k x) λh=>by rw[wE.mp h];exact hr,Dn.mpr ⟨hc.kd,by simp,λa ha b hb e=>hn (by rw[wE.mp hb]at e;exact e▸ha)⟩,by have:=hc.sl;show s.length+64*(c.lf - 1)<=704;omega,hs,by have:=hc.l;show c.lf - 1<=11;omega⟩
section
variable {P:wT}{w:Bf}{K:bi}{mg:Str->Option bv}{base:Heap}
theorem sH {C_Cases:Addr}(o:ClsO K mg C_Cases "Cases" ["wished", "clean", "known", "shut", "left"])(dn:DefM K C_Cases "__init__" "Cases.__init__" br ["self", "wished", "clean", "known", "shut", "left"]):ObC P w K mg base C_Cases "Cases" ["wished", "clean", "known", "shut", "left"]:=by
 refine ObC.of o dn g7 λf cdv A outer s H vs Q E hr h=>?_
 obtain⟨x,dx,us,rfl,hl,hx,hq⟩:=h
 match us,hl with
 | [a0,a1,a2,a3,a4],_ =>
  refine⟨_,(aw (lT (pv 0) (pv 1) rfl) (aw (lT (pv 0) (pv 2) rfl) (aw (lT (pv 0) (pv 3) rfl) (aw (lT (pv 0) (pv 4) rfl) (aJ (lT (pv 0) (pv 5) rfl)))))),?_⟩
  refine⟨_,rfl,_,rfl,x,C_Cases,dx,_,rfl,hx,o.cl,o.na _ (.head _),(show 0<1000 from by decide),?_⟩
  refine⟨_,rfl,_,rfl,x,C_Cases,dx,_,rfl,aQ,o.cl,o.na _ (.tail _ (.head _)),(show 1<1000 from by decide),?_⟩
  refine⟨_,rfl,_,rfl,x,C_Cases,dx,_,rfl,aQ,o.cl,o.na _ (.tail _ (.tail _ (.head _))),(show 2<1000 from by decide),?_⟩
  refine⟨_,rfl,_,rfl,x,C_Cases,dx,_,rfl,aQ,o.cl,o.na _ (.tail _ (.tail _ (.tail _ (.head _)))),(show 3<1000 from by decide),?_⟩
  refine⟨_,rfl,_,rfl,x,C_Cases,dx,_,rfl,aQ,o.cl,o.na _ (.tail _ (.tail _ (.tail _ (.tail _ (.head _))))),(show 4<1000 from by decide),?_⟩
  rw[g0,g0,g0,g0]
  exact hq
theorem qp {K:bi}{mg:Str->Option bv}{h:Heap}{C_Cases f_0 f_1 f_2 f_3 f_4 f_5 f_6 f_7 f_8 f_9:Addr}{oc_0 kV_0 doc_0 pm_0 cdv_0 ct_0:bv}{od_0 an_0:Option Addr}{osl_0:Array (Option bv)}{oc_1 kV_1 doc_1 pm_1 cdv_1 ct_1:bv}{od_1 an_1:Option Addr}{osl_1:Array (Option bv)}{oc_2 kV_2 doc_2 pm_2 cdv_2 ct_2:bv}{od_2 an_2:Option Addr}{osl_2:Array (Option bv)}{oc_3 kV_3 doc_3 pm_3 cdv_3 ct_3:bv}{od_3 an_3:Option Addr}{osl_3:Array (Option bv)}{oc_4 kV_4 doc_4 pm_4 cdv_4 ct_4:bv}{od_4 an_4:Option Addr}{osl_4:Array (Option bv)}{oc_5 kV_5 doc_5 pm_5 cdv_5 ct_5:bv}{od_5 an_5:Option Addr}{osl_5:Array (Option bv)}{oc_6 kV_6 doc_6 pm_6 cdv_6 ct_6:bv}{od_6 an_6:Option Addr}{osl_6:Array (Option bv)}{oc_7 kV_7 doc_7 pm_7 cdv_7 ct_7:bv}{od_7 an_7:Option Addr}{osl_7:Array (Option bv)}{oc_8 kV_8 doc_8 pm_8 cdv_8 ct_8:bv}{od_8 an_8:Option Addr}{osl_8:Array (Option bv)}{oc_9 kV_9 doc_9 pm_9 cdv_9 ct_9:bv}{od_9 an_9:Option Addr}{osl_9:Array (Option bv)}(KX:K.In h)(G:h.Ns At mg)(f0:A8 K At "Cases" = some (some (.ref C_Cases)))(f1:DN K C_Cases Fp=true)(f2:DE K C_Cases=true)(f3:Fs K C_Cases=true)(f4:A9 K (.ref C_Cases) "__setattr__" = some (some (.builtin "object.__setattr__")))(f5:ES K C_Cases=true)(f6:Bs K (.ref C_Cases)=true)(na0:A9 K (.ref C_Cases) "wished" = some none)(na1:A9 K (.ref C_Cases) "clean" = some none)(na2:A9 K (.ref C_Cases) "known" = some none)(na3:A9 K (.ref C_Cases) "shut" = some none)(na4:A9 K (.ref C_Cases) "left" = some none)(m0_0:A9 K (.ref C_Cases) "__init__" = some (some (.ref f_0)))(m0_1:K.lookup f_0=some ⟨oc_0,od_0,.func (BH "__init__" "Cases.__init__" (cw br) (bu br) (ar br) .none kV_0 doc_0 pm_0 an_0 cdv_0 ct_0),osl_0⟩)(m0_2:BO K cdv_0 "Cases.__init__" = true)(m0_3:Bs K (.ref f_0)=true)(m0_4:Ce K (.ref f_0)=true)(m1_0:A9 K (.ref C_Cases) "with_row" = some (some (.ref f_1)))(m1_1:K.lookup f_1=some ⟨oc_1,od_1,.func (BH "with_row" "Cases.with_row" (cw bq) (bu bq) (ar bq) .none kV_1 doc_1 pm_1 an_1 cdv_1 ct_1),osl_1⟩)(m1_2:BO K cdv_1 "Cases.with_row" = true)(m1_3:Bs K (.ref f_1)=true)(m1_4:Ce K (.ref f_1)=true)(m2_0:A9 K (.ref C_Cases) "lacking" = some (some (.ref f_2)))(m2_1:K.lookup f_2=some ⟨oc_2,od_2,.func (BH "lacking" "Cases.lacking" (cw bo) (bu bo) (ar bo) .none kV_2 doc_2 pm_2 an_2 cdv_2 ct_2),osl_2⟩)(m2_2:BO K cdv_2 "Cases.lacking" = true)(m2_3:Bs K (.ref f_2)=true)(m2_4:Ce K (.ref f_2)=true)(m3_0:A9 K (.ref C_Cases) "free_rows" = some (some (.ref f_3)))(m3_1:K.lookup f_3=some ⟨oc_3,od_3,.func (BH "free_rows" "Cases.free_rows" (cw aW) (bu aW) (ar aW) .none kV_3 doc_3 pm_3 an_3 cdv_3 ct_3),osl_3⟩)(m3_2:BO K cdv_3 "Cases.free_rows" = true)(m3_3:Bs K (.ref f_3)=true)(m3_4:Ce K (.ref f_3)=true)(m4_0:A9 K (.ref C_Cases) "lacks_too_many" = some (some (.ref f_4)))(m4_1:K.lookup f_4=some ⟨oc_4,od_4,.func (BH "lacks_too_many" "Cases.lacks_too_many" (cw aU) (bu aU) (ar aU) .none kV_4 doc_4 pm_4 an_4 cdv_4 ct_4),osl_4⟩)(m4_2:BO K cdv_4 "Cases.lacks_too_many" = true)(m4_3:Bs K (.ref f_4)=true)(m4_4:Ce K (.ref f_4)=true)(m5_0:A9 K (.ref C_Cases) "is_far" = some (some (.ref f_5)))(m5_1:K.lookup f_5=some ⟨oc_5,od_5,.func (BH "is_far" "Cases.is_far" (cw bb) (bu bb) (ar bb) .none kV_5 doc_5 pm_5 an_5 cdv_5 ct_5),osl_5⟩)(m5_2:BO K cdv_5 "Cases.is_far" = true)(m5_3:Bs K (.ref f_5)=true)(m5_4:Ce K (.ref f_5)=true)(m6_0:A9 K (.ref C_Cases) "shown_by" = some (some (.ref f_6)))(m6_1:K.lookup f_6=some ⟨oc_6,od_6,.func (BH "shown_by" "Cases.shown_by" (cw bO) (bu bO) (ar bO) .none kV_6 doc_6 pm_6 an_6 cdv_6 ct_6),osl_6⟩)(m6_2:BO K cdv_6 "Cases.shown_by" = true)(m6_3:Bs K (.ref f_6)=true)(m6_4:Ce K (.ref f_6)=true)(m7_0:A9 K (.ref C_Cases) "shown_far" = some (some (.ref f_7)))(m7_1:K.lookup f_7=some ⟨oc_7,od_7,.func (BH "shown_far" "Cases.shown_far" (cw bF) (bu bF) (ar bF) .none kV_7 doc_7 pm_7 an_7 cdv_7 ct_7),osl_7⟩)(m7_2:BO K cdv_7 "Cases.shown_far" = true)(m7_3:Bs K (.ref f_7)=true)(m7_4:Ce K (.ref f_7)=true)(m8_0:A9 K (.ref C_Cases) "shown_made" = some (some (.ref f_8)))(m8_1:K.lookup f_8=some ⟨oc_8,od_8,.func (BH "shown_made" "Cases.shown_made" (cw bD) (bu bD) (ar bD) .none kV_8 doc_8 pm_8 an_8 cdv_8 ct_8),osl_8⟩)(m8_2:BO K cdv_8 "Cases.shown_made" = true)(m8_3:Bs K (.ref f_8)=true)(m8_4:Ce K (.ref f_8)=true)(m9_0:A9 K (.ref C_Cases) "shown_next" = some (some (.ref f_9)))(m9_1:K.lookup f_9=some ⟨oc_9,od_9,.func (BH "shown_next" "Cases.shown_next" (cw bC) (bu bC) (ar bC) .none kV_9 doc_9 pm_9 an_9 cdv_9 ct_9),osl_9⟩)(m9_2:BO K cdv_9 "Cases.shown_next" = true)(m9_3:Bs K (.ref f_9)=true)(m9_4:Ce K (.ref f_9)=true):∃C_Cases:Addr,ClsO K mg C_Cases "Cases" ["wished", "clean", "known", "shut", "left"]/\DefM K C_Cases "__init__" "Cases.__init__" br ["self", "wished", "clean", "known", "shut", "left"]/\DefM K C_Cases "with_row" "Cases.with_row" bq ["self", "row", "shut"]/\DefM K C_Cases "lacking" "Cases.lacking" bo ["self"]/\DefM K C_Cases "free_rows" "Cases.free_rows" aW ["self"]/\DefM K C_Cases "lacks_too_many" "Cases.lacks_too_many" aU ["self"]/\DefM K C_Cases "is_far" "Cases.is_far" bb ["self", "row"]/\DefM K C_Cases "shown_by" "Cases.shown_by" bO ["self", "paper"]/\DefM K C_Cases "shown_far" "Cases.shown_far" bF ["self", "row"]/\DefM K C_Cases "shown_made" "Cases.shown_made" bD ["self", "row", "paper"]/\DefM K C_Cases "shown_next" "Cases.shown_next" bC ["self", "papers"]:=by
 refine⟨C_Cases,?_,dZ m0_0 m0_1 m0_2 m0_3 m0_4 (λ_ _ _ _ _ _ us hl=>match us,hl with | [_,_,_,_,_,_],_=>rfl),dZ m1_0 m1_1 m1_2 m1_3 m1_4 (λ_ _ _ _ _ _ us hl=>match us,hl with | [_,_,_],_=>rfl),dZ m2_0 m2_1 m2_2 m2_3 m2_4 (λ_ _ _ _ _ _ us hl=>match us,hl with | [_],_=>rfl),dZ m3_0 m3_1 m3_2 m3_3 m3_4 (λ_ _ _ _ _ _ us hl=>match us,hl with | [_],_=>rfl),dZ m4_0 m4_1 m4_2 m4_3 m4_4 (λ_ _ _ _ _ _ us hl=>match us,hl with | [_],_=>rfl),dZ m5_0 m5_1 m5_2 m5_3 m5_4 (λ_ _ _ _ _ _ us hl=>match us,hl with | [_,_],_=>rfl),dZ m6_0 m6_1 m6_2 m6_3 m6_4 (λ_ _ _ _ _ _ us hl=>match us,hl with | [_,_],_=>rfl),dZ m7_0 m7_1 m7_2 m7_3 m7_4 (λ_ _ _ _ _ _ us hl=>match us,hl with | [_,_],_=>rfl),dZ m8_0 m8_1 m8_2 m8_3 m8_4 (λ_ _ _ _ _ _ us hl=>match us,hl with | [_,_,_],_=>rfl),dZ m9_0 m9_1 m9_2 m9_3 m9_4 (λ_ _ _ _ _ _ us hl=>match us,hl with | [_,_],_=>rfl)⟩
 refine⟨BE KX G f0,⟨f1,f2,f3,f4⟩,λf hf=>?_,f5,f6⟩
 simp only[wn,BD,or_false]at hf
 rcases hf with rfl | rfl | rfl | rfl | rfl
 ·exact na0
 ·exact na1
 ·exact na2
 ·exact na3
 ·exact na4
theorem sE (dn:DefN K mg "joined" iP ["one", "other"])(B:BI mg):OkN P w K mg base 1 "joined" ["one", "other"] (spA K iq):=by
 refine dn.aok2 (k:=0) rN (λj=>j==0||j==1) [] iq rfl (λf cdv A outer s H E hr=>have hu:=cW hr;⟨_,(aJ (bg (bM zj (pv 0) (pv 1)))),(aV (aR cc af af))⟩) ?_
 rintro ss q ⟨x,y,rfl,hq⟩
 refine⟨rfl,rfl,?_⟩
 show q (.d (.int (E8 x y))) [nv x,nv y]
 rw[wU];exact hq
theorem nz (dn:DefN K mg "own_rows" d5 ["many"])(B:BI mg):OkN P w K mg base 1 "own_rows" ["many"] (spA K SOwn):=by
 refine dn.aok2 (k:=0) m8 (λj=>j==0) [] SOwn rfl (λf cdv A outer s H E hr=>have hu:=cW hr;⟨_,(aJ (bg (jo ["given"] [] rfl (Blk.of (ar d5) jw) (jm rfl B.range_ (ao (pv 0) aD)) (λ_ _ _ _ nd=>(aI (i:=0) nd rfl (by first | exact Or.inl rfl | exact Or.inr rfl))) (λ_ _ _ _=>dW) (λ_ _ _ _=>(bM wt aN (pv 0)))))),(aV (fH (i9 (aa af aq)) (az rfl) c9 (aR k8 aK af)))⟩) ?_
 rintro ss q ⟨m,rfl,hm,hq⟩
 refine⟨rfl,rfl,⟨by omega,by omega⟩,by rw[dO];omega,?_⟩
 refine tY (λk=>.int (1 <<< k:Nat)) trivial (λk acc N hk hN=>?_) ?_
 ·rw[Int.zero_add]
  refine⟨⟨by omega,by omega,by decide⟩,?_⟩
  show N (acc++[.int ((1:Int)*2^((k:Int).toNat))]) _
  rw[rL];exact hN
 ·rw[B4]
  have e:((zn m).map λk=>D.int (1 <<< k:Nat))=aE (aP m):=by unfold aP aE;rw[BF];rfl
  rw[e];exact hq
theorem nA (dn:DefN K mg "may_join" fL ["clean", "one", "other"])(B:BI mg):OkN P w K mg base 1 "may_join" ["clean", "one", "other"] (spA K SMay):=by
 refine dn.aok2 (k:=0) m9 (λj=>j==0||j==1||j==2) [] SMay rfl (λf cdv A outer s H E hr=>have hu:=cW hr;⟨_,(aJ (bg (uR (ze (pv 0)) (lV (dX (lX K hr.units) (bM zr (pv 1) (pv 2)) aN (bU _)))))),(aV (kK (uz af) (aR lY (aR cc af af) aK)))⟩) ?_
 rintro ss q ⟨c,x,y,rfl,hq⟩
 refine⟨rfl,rfl,?_⟩
 cases c with
 | false=>exact hq
 | true =>
  refine iA (b:=decide (x &&& y=0)) rfl rfl (by simp[D.depth]) ?_ hq
  show eqD (.int (Em (x:Int) (y:Int))) (.int 0)=_
  rw[uc]
  show decide (((x &&& y:Nat):Int)=0)=_
  rw[decide_eq_decide];omega
theorem h_ {C_Cases:Addr}(ob_Cases:ObC P w K mg base C_Cases "Cases" ["wished", "clean", "known", "shut", "left"])(dn:DefM K C_Cases "with_row" "Cases.with_row" bq ["self", "row", "shut"])(B:BI mg):OkM P w K mg base 3 C_Cases "with_row" ["self", "row", "shut"] (spA K (vR C_Cases)):=by
 refine dn.aok2 (k:=2) g6 (λj=>j==0||j==1||j==2) [] (vR C_Cases) rfl (λf cdv A outer s H E hr=>have hu:=cW hr;⟨_,(aJ (bg (wm ob_Cases.nw (hr.mono (by decide)) (ao (cY (pv 0) rfl) (ao (cY (pv 0) rfl) (ao (bM (sx K) (cY (pv 0) rfl) (gM (ao (pv 1) aD))) (ao (pv 2) (ao (bM j7 (cY (pv 0) rfl) aN) aD)))))))),(aV (qW (aa (b_ ob_Cases.cl (ob_Cases.na _ (.head _)) af) (aa (b_ ob_Cases.cl (ob_Cases.na _ (.tail _ (.head _))) af) (aa (aR sy (b_ ob_Cases.cl (ob_Cases.na _ (.tail _ (.tail _ (.head _)))) af) (eI (aa af aq))) (aa af (aa (aR cc (b_ ob_Cases.cl (ob_Cases.na _ (.tail _ (.tail _ (.tail _ (.tail _ (.head _)))))) af) aK) aq)))))))⟩) ?_
 rintro ss q ⟨c,r,s,rfl,hl,h1,hq⟩
 refine⟨rfl,rfl,?_⟩
 refine⟨rfl,_,rfl,rfl,_,rfl,rfl,_,rfl,by simp,by rw[cV];simp;omega,rfl,_,rfl,rfl,?_⟩
 have e:aE c.kn++[D.int (r:Int)]=aE (c.kn++[r]):=(dD _ _).symm
 have e2:(c.lf:Int) - 1=((c.lf - 1:Nat):Int):=by omega
 show q (.x (.ob C_Cases [("wished",.tup (aE c.W)),("clean",.bl c.cl),("known",.lst (aE c.kn++[D.int (r:Int)])),("shut",.lst (aE s)),("left",.int ((c.lf:Int) - 1))])) _
 rw[e,e2]
 exact hq
theorem iF {C_Cases:Addr}(ob_Cases:ObC P w K mg base C_Cases "Cases" ["wished", "clean", "known", "shut", "left"])(dn:DefM K C_Cases "lacking" "Cases.lacking" bo ["self"])(B:BI mg):OkM P w K mg base 3 C_Cases "lacking" ["self"] (spA K (vS C_Cases)):=by
 refine dn.aok2 (k:=2) iD (λj=>j==0) [] (vS C_Cases) rfl (λf cdv A outer s H E hr=>have hu:=cW hr;⟨_,(aJ (bg (lU ["row"] [0] rfl rfl B.sorted_ (Blk.of (ar bo) e8) (c7 K (cY (pv 0) rfl)) (λ_ _ _ _ nd=>(aI (i:=0) nd rfl (by first | exact Or.inl rfl | exact Or.inr rfl))) (λ_ _ _ _=>(gb (bR (eO K) (pv 0) (cY (pv 1) rfl) rfl))) (λ_ _ _ _=>(pv 0))))),(aV (j0 (cx (b_ ob_Cases.cl (ob_Cases.na _ (.head _)) af)) (az rfl) (bj (aR (pB true) af (b_ ob_Cases.cl (ob_Cases.na _ (.tail _ (.tail _ (.head _)))) af))) af))⟩) ?_
 rintro ss q ⟨c,rfl,hc,hq⟩
 have w24:=hc.w24
 refine⟨rfl,rfl,?_⟩
 refine⟨rfl,_,rfl,by rw[cV];omega,?_⟩
 refine ig nD (λr=>!c.kn.contains r) (λr=>((r:Nat):Int)) trivial (λr acc N hr hN=>?_) ?_
 ·refine⟨rfl,_,rfl,pN (xs:=c.kn) rfl ?_⟩
  cases hb:c.kn.contains r with
  | true=>rw[hb]at hN;exact hN
  | false=>rw[hb]at hN;exact hN
 ·rw[IG]
  refine⟨?_,λns' up hm=>?_⟩
  ·refine EB (wJ _) ?_
   rw[lw]
   have:=C1 (λr=>!c.kn.contains r) c.W
   omega
  ·have:ns'=(bB c.W c.kn).map λr=>((r:Nat):Int):=je up (jf (Dj _ Cw)) λx=>by
    rw[hm x,BP,BP]
    unfold bB
    constructor
    ·rintro⟨r,hr,rfl⟩
     obtain⟨h1,h2⟩:=Bm.mp hr
     exact⟨r,Bm.mpr ⟨Bv.mpr (hc.w r h1).2,by rw[A5.mpr h1,h2];rfl⟩,rfl⟩
    ·rintro⟨r,hr,rfl⟩
     obtain⟨h1,h2⟩:=Bm.mp hr
     rw[A7]at h2
     exact⟨r,Bm.mpr ⟨A5.mp h2.1,h2.2⟩,rfl⟩
   subst this
   rw[BF]
   exact hq
theorem eP {C_Cases:Addr}(ob_Cases:ObC P w K mg base C_Cases "Cases" ["wished", "clean", "known", "shut", "left"])(dn:DefM K C_Cases "lacks_too_many" "Cases.lacks_too_many" aU ["self"])(B:BI mg)(g_Cases_lacking:OkM P w K mg base 3 C_Cases "lacking" ["self"] (spA K (vS C_Cases))):OkM P w K mg base 4 C_Cases "lacks_too_many" ["self"] (spA K (uh C_Cases)):=by
 refine dn.aok2 (k:=3) eK (λj=>j==0) [] (uh C_Cases) rfl (λf cdv A outer s H E hr=>have hu:=cW hr;⟨_,(aJ (bg (dX jP (cH (fC K) rfl B.len_ mS (ao (ph g_Cases_lacking ob_Cases.cl (hr.mono (by decide)) (pv 0)) aD)) (cY (pv 0) rfl) (bU _)))),(aV (aR cK (dF pU (aa (eG af aq) aq)) (b_ ob_Cases.cl (ob_Cases.na _ (.tail _ (.tail _ (.tail _ (.tail _ (.head _)))))) af)))⟩) ?_
 rintro ss q ⟨c,rfl,hc,hq⟩
 refine⟨rfl,rfl,?_⟩
 refine⟨rfl,rfl,rfl,c,rfl,hc,rfl,_,rfl,?_⟩
 have e:decide (((c.lf:Nat):Int)<(((aE (bB c.W c.kn)).length:Nat):Int))=decide (c.lf<(bB c.W c.kn).length):=by
  rw[cV,decide_eq_decide];omega
 show q (.d (.bl (decide (((c.lf:Nat):Int)<(((aE (bB c.W c.kn)).length:Nat):Int))))) _
 rw[e]
 exact hq
theorem jR {C_Cases:Addr}(ob_Cases:ObC P w K mg base C_Cases "Cases" ["wished", "clean", "known", "shut", "left"])(dn:DefN K mg "first_cases" dz ["wish", "clean", "count"])(B:BI mg)(g_own_rows:OkN P w K mg base 1 "own_rows" ["many"] (spA K SOwn)):OkN P w K mg base 3 "first_cases" ["wish", "clean", "count"] (spA K (ui C_Cases)):=by
 refine dn.aok2 (k:=2) dU (λj=>j==0||j==1||j==2) [.un,.un] (ui C_Cases) rfl (λf cdv A outer s H E hr=>have hu:=cW hr;⟨_,(aw (dP (pv 0) (bz K (n:=2) rfl (aG (aI (i:=3) dU.nd rfl (by first | exact Or.inl rfl | exact Or.inr rfl)) (aG (aI (i:=4) dU.nd rfl (by first | exact Or.inl rfl | exact Or.inr rfl)) bx))))
  (aJ (bg (wm ob_Cases.nw (hr.mono (by decide)) (ao (pv 4) (ao (pv 1) (ao (bQ g_own_rows (hr.mono (by decide)) (ao (pv 3) aD)) (ao (gM aD) (ao (pv 2) aD))))))))),(aF (cQ af (ba (aA (az rfl) (aA (az rfl) aY (λ_ _ _=>aO)) (λ_ _ _=>aO))))
  (aV (qW (aa af (aa af (aa (aM (aa af aq)) (aa (eI aq) (aa af aq))))))))⟩) ?_
 rintro ss q ⟨m,W,cl,l,rfl,hm,hq⟩
 refine⟨rfl,rfl,?_⟩
 refine cutS (λρ=>ρ=[.vl (bK m W),.vl (.bl cl),nv l,nv m,.vl (.tup (aE W))]) (λM hM=>hM _ rfl) ?_
 rintro _ rfl
 exact⟨rfl,m,rfl,by omega,by simp,rfl,hq⟩
end
section
variable {P:wT}{w:Bf}{K:bi}{mg:Str->Option bv}{base:Heap}
theorem gN {C_Cases:Addr}(ob_Cases:ObC P w K mg base C_Cases "Cases" ["wished", "clean", "known", "shut", "left"])(dn:DefM K C_Cases "free_rows" "Cases.free_rows" aW ["self"])(B:BI mg)(g_joined:OkN P w K mg base 1 "joined" ["one", "other"] (spA K iq))(g_may_join:OkN P w K mg base 1 "may_join" ["clean", "one", "other"] (spA K SMay)):OkM P w K mg base 3 C_Cases "free_rows" ["self"] (spA K (yB C_Cases)):=by
 refine dn.aok2 (k:=2) cR (λj=>j==0) [.un,.un] (yB C_Cases) rfl (λf cdv A outer s H E hr=>have hu:=cW hr;⟨_,(aw (kY (i:=1) ["other", "at", "one"] [0] cR.nd rfl (by first | exact Or.inl rfl | exact Or.inr rfl) rfl (Blk.of (ar aW) cf) (g_ K rfl B.enumerate_ (ao (cY (pv 0) rfl) aD)) (λ_ _ _ _ nd=>(bz K (n:=2) rfl (aG (aI (i:=1) nd rfl (by first | exact Or.inl rfl | exact Or.inr rfl)) (aG (aI (i:=2) nd rfl (by first | exact Or.inl rfl | exact Or.inr rfl)) bx)))) (λ_ _ _ _=>dW) (λ_ _ _ _=>(c7 K (gK (gC K) (cY (pv 3) rfl) jk (jj (pv 1))))) (λ_ _ _ _ nd=>(aI (i:=0) nd rfl (by first | exact Or.inl rfl | exact Or.inr rfl))) (λ_ _ _ _=>dW) (λ_ _ _ _=>(cq (ao (pv 2) (ao (pv 0) aD)))))
  (aw (pb (i:=2) ["one", "other"] [0] cR.nd rfl (by first | exact Or.inl rfl | exact Or.inr rfl) rfl (Blk.of (ar aW) cf) (c7 K (pv 1)) (λ_ _ _ _ nd=>(bz K (n:=2) rfl (aG (aI (i:=0) nd rfl (by first | exact Or.inl rfl | exact Or.inr rfl)) (aG (aI (i:=1) nd rfl (by first | exact Or.inl rfl | exact Or.inr rfl)) bx)))) (λ_ _ _ _=>(gb (iu (bQ g_may_join (hr.mono (by decide)) (ao (cY (pv 2) rfl) (ao (pv 0) (ao (pv 1) aD))))))) (λ_ _ _ _=>(bQ g_joined (hr.mono (by decide)) (ao (pv 0) (ao (pv 1) aD)))) (λ_ _ _ _=>d_))
  (aJ (bg (cH (oo K) rfl B.sorted_ mR (ao (jo ["row"] [0] rfl (Blk.of (ar aW) cf) (xB (pv 2)) (λ_ _ _ _ nd=>(aI (i:=0) nd rfl (by first | exact Or.inl rfl | exact Or.inr rfl))) (λ_ _ _ _=>(gb (PW.pt (o7 (bR (eO K) (pv 0) (cY (pv 1) rfl) rfl) (kT (bR (eO K) (pv 0) (cY (pv 1) rfl) rfl)))))) (λ_ _ _ _=>(pv 0))) aD)))))),(aF (ja (i0 (n2:=1) (d0 (aa (b_ ob_Cases.cl (ob_Cases.na _ (.tail _ (.tail _ (.head _)))) af) aq)) (ba (aA (az rfl) (aA (az rfl) aY (λ_ _ _=>aO)) (λ_ _ _=>aO))) c9 (cx (kJ (b_ ob_Cases.cl (ob_Cases.na _ (.tail _ (.tail _ (.head _)))) af) kI (gy af))) (az rfl) c9 (bL (aa af (aa af aq)))) rfl)
  (aF (lP (iZ (cx af) (ba (aA (az rfl) (aA (az rfl) aY (λ_ _ _=>aO)) (λ_ _ _=>aO))) (gx (aM (aa (b_ ob_Cases.cl (ob_Cases.na _ (.tail _ (.head _))) af) (aa af (aa af aq))))) (aM (aa af (aa af aq))) cL) rfl)
  (aV (dF om (aa (fH (q_ af) (az rfl) (kH (bj (aR (pB true) af (b_ ob_Cases.cl (ob_Cases.na _ (.tail _ (.tail _ (.head _)))) af))) (bj (aR (pB true) af (b_ ob_Cases.cl (ob_Cases.na _ (.tail _ (.tail _ (.tail _ (.head _))))) af)))) af) aq)))))⟩) ?_
 rintro ss q ⟨c,rfl,hc,hq⟩
 have hkl:=hc.kl
 refine⟨rfl,rfl,?_⟩
 have hpl:(prN c.kn).length<=63*63:=A_ (xA c.kn) (Fk hkl hkl)
 refine cutS (λρ=>ρ=[obC C_Cases c,.ow ((prN c.kn).map pD),.un]) (λM hM=>?_) ?_
 ·refine⟨rfl,_,rfl,?_⟩
  have pre:∀i,i<=c.kn.length->(prU c.kn i).length<=63*63:=λi hi=>A_ (ng c.kn i) (Fk (A_ hi hkl) hkl)
  refine mI (λi acc ρ=>acc=(prU c.kn i).map pD/\i<=c.kn.length/\ρ=[obC C_Cases c,.un,.un]) (λi acc ρ _ h=>⟨trivial,by rw[h.1,lw];exact A_ (pre i h.2.1) (by decide)⟩) ?_ ?_ _ ⟨rfl,Bl _,rfl⟩
  ·rintro i d acc _ N hd ⟨rfl,hil,rfl⟩ hN
   obtain⟨x,hx,rfl⟩:=cF hd
   rw[aE,wP]at hx
   obtain⟨a,ha,rfl⟩:=Bb.mp hx
   have hi:=(sK.mp ha).1
   have ea:c.kn.getD i 0=a:=by rw[wS,ha];rfl
   rw[Cb]
   refine⟨rfl,_,rfl,?_⟩
   have ec:cutD (aE c.kn) none (some ((i:Nat):Int))=(c.kn.take i).map nD:=by rw[ft];unfold aE;rw[EL]
   show fU 1 (λ_=>True) _ _ _ _ (cutD (aE c.kn) none (some ((i:Nat):Int))) _ [.un,.vl (.int (i:Int)),.vl (.int (a:Int)),obC C_Cases c]
   rw[ec]
   refine fu nD (λ_=>true) (λb=>pD (a,b)) trivial (by rw[lw,Bz];have:=pre i (by omega);omega) (λb acc N2 hb hN2=>⟨by simp,hN2⟩) ?_
   refine hN _ _ ⟨?_,by omega,rfl⟩
   rw[pf,Br,BF,ea,List.filter_eq_self.mpr (λ_ _=>rfl)]
   rfl
  ·rintro acc _ ⟨rfl,_,rfl⟩
   have el:(di 0 (aE c.kn)).length=c.kn.length:=by rw[bI,cV]
   rw[el]
   exact hM _ rfl
 rintro _ rfl
 refine cutS (λρ=>∃M:List Nat,M.Nodup/\(∀x,x∈M↔eR c.cl c.kn x=true)/\ρ=[obC C_Cases c,.ow ((prN c.kn).map pD),.dk (mkT M)]) (λM hM=>?_) ?_
 ·refine⟨rfl,by rw[lw];omega,?_⟩
  refine ik (λj acc ρ=>∃M:List Nat,acc=mkT M/\M.Nodup/\(∀x,x∈M↔∃p∈(prN c.kn).take j,mayN c.cl p.1 p.2=true/\p.1 ^^^ p.2=x)/\ρ=[obC C_Cases c,.ow ((prN c.kn).map pD),.un]) (λj acc ρ _ ⟨M,_,_,_,e⟩=>by rw[e];rfl) ?_ ?_ _ ⟨[],rfl,IV,by simp,rfl⟩
  ·rintro j d acc _ N hd ⟨M,rfl,nd,hm,rfl⟩ hN
   rw[wP]at hd
   obtain⟨⟨a,b⟩,hp,rfl⟩:=Bb.mp hd
   refine⟨rfl,_,rfl,rfl,c.cl,a,b,rfl,?_⟩
   have et:(prN c.kn).take (j+1)=(prN c.kn).take j++[(a,b)]:=by rw[B2,hp];rfl
   cases hb:mayN c.cl a b with
   | true =>
    refine⟨rfl,a,b,rfl,hN _ _ ⟨insM M (a ^^^ b),kX M (a ^^^ b),sW nd,λx=>?_,rfl⟩⟩
    rw[pL,hm x,et]
    constructor
    ·rintro(⟨p,h1,h2⟩ | rfl)
     ·exact⟨p,Bu _ h1,h2⟩
     ·exact⟨(a,b),lm _ (wE.mpr rfl),hb,rfl⟩
    ·rintro⟨p,h1,h2,h3⟩
     rcases Bq.mp h1 with h1 | h1
     ·exact .inl ⟨p,h1,h2,h3⟩
     ·rw[wE.mp h1]at h3
      exact .inr h3.symm
   | false =>
    refine hN _ _ ⟨M,rfl,nd,λx=>?_,rfl⟩
    rw[hm x,et]
    constructor
    ·rintro⟨p,h1,h2⟩
     exact⟨p,Bu _ h1,h2⟩
    ·rintro⟨p,h1,h2,h3⟩
     rcases Bq.mp h1 with h1 | h1
     ·exact⟨p,h1,h2,h3⟩
     ·rw[wE.mp h1]at h2
      rw[hb]at h2;cases h2
  ·rintro acc _ ⟨M,rfl,nd,hm,rfl⟩
   rw[lw,Cj]at hm
   exact hM _ ⟨M,nd,λx=>by rw[hm x,xK hc.kd],rfl⟩
 rintro _ ⟨M,nd,hm,rfl⟩
 have hM64:∀r∈M,1<=r/\r<64:=λr hr=>dJ hc.k ((hm r).mp hr)
 have hMl:=ya nd hM64
 have ek:(mkT M).map (λp=>kD p.1)=M.map nD:=by unfold mkT;rw[BF];rfl
 show((mkT M).map λp=>kD p.1).length<=1000000/\fV _ _ _ _ _ _ _ ((mkT M).map λp=>kD p.1) [] _
 rw[ek]
 refine⟨by rw[lw];omega,?_⟩
 refine mK nD (λx=>!c.kn.contains x && !c.sh.contains x) nD trivial (λx acc N hx hN=>?_) ?_
 ·refine⟨rfl,_,rfl,pN (xs:=c.kn) rfl ?_⟩
  cases h1:c.kn.contains x with
  | true=>rw[h1]at hN;exact hN
  | false =>
   refine⟨rfl,_,rfl,pN (xs:=c.sh) rfl ?_⟩
   cases h2:c.sh.contains x with
   | true=>rw[h1,h2]at hN;exact hN
   | false=>rw[h1,h2]at hN;exact hN
 ·have nf:(M.filter λx=>!c.kn.contains x && !c.sh.contains x).Nodup:=nd.sublist HA
  refine qF (ns:=(M.filter λx=>!c.kn.contains x && !c.sh.contains x).map λr=>((r:Nat):Int)) (by rw[BF];rfl) (by rw[lw];have:=C1 (λx=>!c.kn.contains x && !c.sh.contains x) M;omega) λns' pm up=>?_
  have:=uF pm up nf (pO c.cl c.kn c.sh) λx=>by
   rw[cv hc.k,Bm,hm x,A7,BV,BV,<- Cm,<- Cm,A5,A5]
  subst this
  rw[BF]
  exact hq
end
section
variable {P:wT}{w:Bf}{K:bi}{mg:Str->Option bv}{base:Heap}
theorem jv {C_Cases:Addr}(ob_Cases:ObC P w K mg base C_Cases "Cases" ["wished", "clean", "known", "shut", "left"])(dn:DefM K C_Cases "is_far" "Cases.is_far" bb ["self", "row"])(B:BI mg)(g_joined:OkN P w K mg base 1 "joined" ["one", "other"] (spA K iq))(g_may_join:OkN P w K mg base 1 "may_join" ["clean", "one", "other"] (spA K SMay)):OkM P w K mg base 3 C_Cases "is_far" ["self", "row"] (spA K (SFar C_Cases)):=by
 refine dn.aok2 (k:=2) bG (λj=>j==0||j==1) [.un,.un,.un,.un] (SFar C_Cases) rfl (λf cdv A outer s H E hr=>have hu:=cW hr;⟨_,(aw (bf (i:=2) bG.nd rfl (by first | exact Or.inl rfl | exact Or.inr rfl) (sf (iQ aN d_ rY) rfl rfl (by simp) (by decide)))
  (aw (bf (i:=3) bG.nd rfl (by first | exact Or.inl rfl | exact Or.inr rfl) (gM (ao aN aD)))
  (aw (bf (i:=4) bG.nd rfl (by first | exact Or.inl rfl | exact Or.inr rfl) aN)
  (aw (o_ Cr (PW.pt (o7 (bR sr (pv 4) (cY (pv 0) rfl) (bU _)) (kT (o9 (jr hu (pv 1) (pv 2))))))
  (aw (kY (i:=5) ["part", "total"] [0] bG.nd rfl (by first | exact Or.inl rfl | exact Or.inr rfl) rfl (Blk.of (ar bb) cU) (c7 K (pv 3)) (λ_ _ _ _ nd=>(aI (i:=1) nd rfl (by first | exact Or.inl rfl | exact Or.inr rfl))) (λ_ _ _ _=>dW) (λ_ _ _ _=>(c7 K (cY (pv 2) rfl))) (λ_ _ _ _ nd=>(aI (i:=0) nd rfl (by first | exact Or.inl rfl | exact Or.inr rfl))) (λ_ _ _ _=>(gb (iu (bQ g_may_join (hr.mono (by decide)) (ao (cY (pv 2) rfl) (ao (pv 1) (ao (pv 0) aD))))))) (λ_ _ _ _=>(bQ g_joined (hr.mono (by decide)) (ao (pv 1) (ao (pv 0) aD)))))
  (aw (bf (i:=3) bG.nd rfl (by first | exact Or.inl rfl | exact Or.inr rfl) (lU ["total"] [2] rfl rfl B.sorted_ (Blk.of (ar bb) cU) (c7 K (pv 5)) (λ_ _ _ _ nd=>(aI (i:=0) nd rfl (by first | exact Or.inl rfl | exact Or.inr rfl))) (λ_ _ _ _=>(gb (o9 (jr hu (pv 0) (pv 1))))) (λ_ _ _ _=>(pv 0))))
  (aw (g9 (jq K GD Gw PySem.F.type_dict_update xN (pv 2) (ao (uX ["total"] [] rfl (Blk.of (ar bb) cU) (c7 K (pv 3)) (λ_ _ _ _ nd=>(aI (i:=0) nd rfl (by first | exact Or.inl rfl | exact Or.inr rfl))) (λ_ _ _ _=>dW) (λ_ _ _ _=>(pv 0)) (λ_ _ _ _=>d_)) aD)))
  (aJ (rX (i:=4) bG.nd rfl (by first | exact Or.inl rfl | exact Or.inr rfl) aN sU))))))
  (aJ (bg (zh (jr hu (pv 1) (pv 2))))))))),(aF (aZ (qc zB zB aK cL) rfl)
  (aF (aZ (eI (aa aK aq)) rfl)
  (aF (aZ aK rfl)
  (aF (i_ (kH (bj (aR cK af (b_ ob_Cases.cl (ob_Cases.na _ (.tail _ (.tail _ (.tail _ (.tail _ (.head _)))))) af))) (bj (g5 af af)))
  (aF (ja (i0 (n2:=1) (cx af) (az rfl) c9 (cx (b_ ob_Cases.cl (ob_Cases.na _ (.tail _ (.tail _ (.head _)))) af)) (az rfl) (gx (aM (aa (b_ ob_Cases.cl (ob_Cases.na _ (.tail _ (.head _))) af) (aa af (aa af aq))))) (aM (aa af (aa af aq)))) rfl)
  (aF (aZ (j0 (cx af) (az rfl) (bj (g5 af af)) af) rfl)
  (aF (fJ (ux (iZ (cx af) (az rfl) c9 af cL)))
  (m7 aK rfl)))))
  (aV (g5 af af))))))⟩) ?_
 rintro ss q ⟨c,r,rfl,hc,hr,hq⟩
 have hkl:=hc.kl
 have hl:=hc.l
 refine⟨rfl,rfl,?_⟩
 refine cutS (λρ=>ρ=[obC C_Cases c,nv r,.dk (mkT [0]),.un,.un,.un]) (λM hM=>hM _ rfl) ?_
 rintro _ rfl
 refine cutS (λρ=>ρ=[obC C_Cases c,nv r,.dk (mkT [0]),.ow (aE [0]),.un,.un]) (λM hM=>⟨by simp,hM _ rfl⟩) ?_
 rintro _ rfl
 refine cutS (λρ=>ρ=[obC C_Cases c,nv r,.dk (mkT [0]),.ow (aE [0]),nv 0,.un]) (λM hM=>hM _ rfl) ?_
 rintro _ rfl
 refine cutS (λρ=>∃M s3 s4 s5,(M.contains r=true↔∃n,n<=c.lf+1/\Rch c.cl c.kn n r)/\ρ=[obC C_Cases c,nv r,.dk (mkT M),s3,s4,s5]) (λMx hMx=>qR (λρ=>∃k M N s5,Lev c.cl c.kn k M N/\k<=c.lf+1/\M.Nodup/\ρ=[obC C_Cases c,nv r,.dk (mkT M),.ow (aE N),nv k,s5]) (λρ=>match gt ρ 4 with | .vl (.int k)=>100 - k.toNat | _=>0) ?_ _ ⟨0,[0],[0],.un,.start,by omega,by simp,rfl⟩) ?_
 ·rintro _ Nx ⟨k,M,N,s5,L,hkk,mnd,rfl⟩ hNx
  have nl:=L.lt hc.k
  have go:decide (((k:Nat):Int)<=((c.lf:Nat):Int))=decide (k<=c.lf):=by rw[decide_eq_decide];omega
  refine⟨rfl,_,rfl,?_⟩
  show if decide (((k:Nat):Int)<=((c.lf:Nat):Int))=true then _ else _
  rw[go]
  by_cases hk:k<=c.lf
  ·rw[if_pos (decide_eq_true hk)]
   show if(!(valD (mkT M) (Sum.inl ((r:Nat):Int):Key)).isSome)=true then _ else _
   rw[kG]
   cases hMr:M.contains r with
   | true =>
    rw[if_neg (by decide)]
    refine hMx _ ⟨M,_,_,_,⟨λ_=>?_,λ_=>hMr⟩,rfl⟩
    obtain⟨n,hn,h⟩:=(L.m r).mp (A5.mp hMr)
    exact⟨n,by omega,h⟩
   | false =>
    rw[if_pos (by decide)]
    have sl:(sumN c.cl c.kn N).length<=3969:=A_ (kM c.cl c.kn N) (Fk (by omega:N.length<=63) hkl)
    have s64:∀x∈sumN c.cl c.kn N,x<64:=λx hx=>by
     obtain⟨t,ht,p,hp,_,rfl⟩:=oP.mp hx
     exact wV (xv hc.k ((L.n t).mp ht).1) (hc.k p hp).2
    refine cutS (λρ=>ρ=[obC C_Cases c,nv r,.dk (mkT M),.ow (aE N),nv k,.ow (aE (sumN c.cl c.kn N))]) (λQ hQ=>?_) ?_
    ·have ef:aE (sumN c.cl c.kn N)=N.flatMap λt=>(c.kn.filter (mayN c.cl t)).map λp=>nD (t ^^^ p):=by
      unfold sumN aE
      rw[Ip]
      refine congrArg (λf=>N.flatMap f) (funext λt=>?_)
      rw[BF];rfl
     refine⟨rfl,tX nD (λt=>(c.kn.filter (mayN c.cl t)).map λp=>nD (t ^^^ p)) rfl (λt acc N2 ht hacc hN2=>?_) (by rw[<- ef,cV];omega) (by rw[<- ef];exact hQ _ rfl)⟩
     obtain⟨ys,yl,rfl,_⟩:=hacc
     have al:(ys.flatMap λt=>(c.kn.filter (mayN c.cl t)).map λp=>nD (t ^^^ p)).length<=63*63:=by
      have e2:(ys.flatMap λt=>(c.kn.filter (mayN c.cl t)).map λp=>nD (t ^^^ p))=aE (sumN c.cl c.kn ys):=by
       unfold sumN aE
       rw[Ip]
       refine congrArg (λf=>ys.flatMap f) (funext λt=>?_)
       rw[BF];rfl
      rw[e2,cV]
      exact A_ (kM c.cl c.kn ys) (Fk (by omega) hkl)
     refine⟨rfl,_,rfl,?_⟩
     refine fu nD (mayN c.cl t) (λp=>nD (t ^^^ p)) trivial (by omega) (λp acc N3 hp hN3=>?_) (hN2)
     refine⟨rfl,_,rfl,rfl,c.cl,t,p,rfl,?_⟩
     cases hb:mayN c.cl t p with
     | true=>rw[if_pos hb]at hN3;exact⟨rfl,t,p,rfl,hN3⟩
     | false=>rw[if_neg (by rw[hb];decide)]at hN3;exact hN3
    rintro _ rfl
    refine cutS (λρ=>∃N':List Nat,N'.Nodup/\(∀x,x∈N'↔x∈sumN c.cl c.kn N/\x∉M)/\ρ=[obC C_Cases c,nv r,.dk (mkT M),.ow (aE N'),nv k,.ow (aE (sumN c.cl c.kn N))]) (λQ hQ=>?_) ?_
    ·refine⟨rfl,by rw[cV];omega,?_⟩
     refine ig nD (λt=>!M.contains t) (λt=>((t:Nat):Int)) (by rfl) (λt acc N2 ht hN2=>?_) ?_
     ·show if(!(valD (mkT M) (Sum.inl ((t:Nat):Int):Key)).isSome)=true then _ else _
      rw[kG]
      cases hb:M.contains t with
      | true=>rw[hb]at hN2;exact hN2
      | false=>rw[hb]at hN2;exact hN2
     ·rw[IG]
      have m0:0∈M:=(L.m 0).mpr ⟨0,Bl _,.nil⟩
      refine⟨yk (zs:=(zn 63).map λi=>((i+1:Nat):Int)) (λx hx=>?_) (by rw[lw,Cy];decide),λns' up hm=>?_⟩
      ·obtain⟨t,ht,rfl⟩:=BP.mp hx
       obtain⟨h1,h2⟩:=Bm.mp ht
       have h3:=s64 t h1
       have h4:t≠0:=λe=>by
        subst e
        rw[A5.mpr m0]at h2;cases h2
       exact BP.mpr ⟨t - 1,Bv.mpr (by omega),by omega⟩
      ·have:ns'=((zn 64).filter λx=>(sumN c.cl c.kn N).contains x && !M.contains x).map λr=>((r:Nat):Int):=je up (jf (Dj _ Cw)) λx=>by
        rw[hm x,BP,BP]
        constructor
        ·rintro⟨t,ht,rfl⟩
         obtain⟨h1,h2⟩:=Bm.mp ht
         exact⟨t,Bm.mpr ⟨Bv.mpr (s64 t h1),by rw[A5.mpr h1,h2];rfl⟩,rfl⟩
        ·rintro⟨t,ht,rfl⟩
         obtain⟨h1,h2⟩:=Bm.mp ht
         rw[A7]at h2
         exact⟨t,Bm.mpr ⟨A5.mp h2.1,h2.2⟩,rfl⟩
       subst this
       rw[BF]
       refine hQ _ ⟨(zn 64).filter λx=>(sumN c.cl c.kn N).contains x && !M.contains x,(Dj _ Cw).imp λh=>by omega,λx=>?_,rfl⟩
       rw[Bm,Bv,A7,BV,<- Cm,A5,A5]
       exact⟨λh=>h.2,λh=>⟨s64 x h.1,h⟩⟩
    rintro _ ⟨N',nd',hN',rfl⟩
    obtain⟨u1,u2⟩:=tL N' M mnd
    have L':=L.next hN' u2 nd'
    have nl':=L'.lt hc.k
    refine cutS (λρ=>ρ=[obC C_Cases c,nv r,.dk (mkT (N'.foldl insM M)),.ow (aE N'),nv k,.ow (aE (sumN c.cl c.kn N))]) (λQ hQ=>?_) ?_
    ·refine⟨rfl,by rw[cV];omega,?_⟩
     refine ik (λj acc ρ=>acc=mkT (N'.take j)/\ρ=[obC C_Cases c,nv r,.dk (mkT M),.ow (aE N'),nv k,.ow (aE (sumN c.cl c.kn N))]) (λj acc ρ _ ⟨_,e⟩=>by rw[e];rfl) ?_ ?_ _ ⟨rfl,rfl⟩
     ·rintro j d acc _ N2 hd ⟨rfl,rfl⟩ hN2
      rw[aE,wP]at hd
      obtain⟨x,hx,rfl⟩:=Bb.mp hd
      refine hN2 _ _ ⟨?_,rfl⟩
      have hxn:x∉N'.take j:=λh=>by
       obtain⟨i,hi,hil,e⟩:=fI.mp h
       obtain⟨hj,e2⟩:=sK.mp hx
       have:=lh nd' hil hj (by rw[e,wS,hx];rfl)
       omega
      show putD (mkT (N'.take j)) (Sum.inl ((x:Nat):Int)) (D.bl true)=_
      rw[kX,if_neg hxn,B2,hx]
      rfl
     ·rintro acc _ ⟨rfl,rfl⟩
      rw[cV,Cj]
      refine⟨?_,?_⟩
      ·have h1:(mkT M).length=M.length:=by unfold mkT;rw[lw]
       have h2:(mkT N').length=N'.length:=by unfold mkT;rw[lw]
       have h3:M.length<=64:=by
        have:=CA mnd (l₂:=zn 64) λx hx=>by
         obtain⟨n,_,h⟩:=(L.m x).mp hx
         exact Bv.mpr (xv hc.k h)
        rwa [Cy]at this
       omega
      ·rw[ke]
       exact hQ _ rfl
    rintro _ rfl
    have ek:((k:Nat):Int)+1=((k+1:Nat):Int):=by omega
    have:=hNx [obC C_Cases c,nv r,.dk (mkT (N'.foldl insM M)),.ow (aE N'),nv (k+1),.ow (aE (sumN c.cl c.kn N))] ⟨k+1,_,N',_,L',by omega,u1,rfl⟩ (by show 100 - (((k+1:Nat):Int)).toNat<100 - ((k:Nat):Int).toNat;omega)
    rw[<- Au ek]at this
    exact this
  ·rw[if_neg (by rw[decide_eq_true_eq];exact hk)]
   have:k=c.lf+1:=by omega
   subst this
   refine hMx _ ⟨M,_,_,_,?_,rfl⟩
   rw[A5]
   exact L.m r
 rintro _ ⟨M,s3,s4,s5,hM,rfl⟩
 have:farN c.cl c.kn c.lf r = !M.contains r:=yb hM
 rw[this,<- kG]at hq
 exact hq
end
def goN (f:Nat->List Nat->List Nat ⊕ D)(sh:List Nat):List Nat->List Nat->List D->List Nat ⊕ D
 | _,[],acc=>.inr (.tup [.str "next",.tup acc])
 | done,r::rest,acc=>match f r (sh++done)with
  | .inl t=>.inl t
  | .inr p=>goN f sh (done++[r]) rest (acc++[p])
def mkM (r:Nat):List Nat ⊕ D->List Nat ⊕ D
 | .inl t=>.inl t
 | .inr p=>.inr (.tup [.str "made",nD r,p])
noncomputable def srN (W:List Nat)(cl:Bool):Nat->List Nat->List Nat->List Nat ⊕ D
 | 0,kn,_=>if bB W kn=[]then .inl kn else .inr (.tup [.str "rows"])
 | l+1,kn,sh=>if bB W kn=[]then .inl kn else if l+1<(bB W kn).length then .inr (.tup [.str "rows"])else
  match (bB W kn).find? (λr=>farN cl kn (l+1) r)with
  | some r=>.inr (.tup [.str "far",nD r])
  | none=>match (bB W kn).find? (λr=>(bY cl kn sh).contains r)with
   | some r=>mkM r (srN W cl l (kn++[r]) sh)
   | none=>goN (λr s=>srN W cl l (kn++[r]) s) sh [] (bY cl kn sh) []
def resD:List Nat ⊕ D->D
 | .inl t=>.tup [.bl true,.lst (aE t)]
 | .inr p=>.tup [.bl false,p]
def qa:List Nat ⊕ D->D
 | .inl t=>.lst (aE t)
 | .inr p=>p
theorem nc (x:List Nat ⊕ D):resD x = .tup [.bl x.isLeft,qa x]:=by cases x <;> rfl
def SSr (C:Addr):Nat->ASp
 | 0=>λ_ _=>False
 | j+1=>λss q=>∃c:Cs,ss=[obC C c]/\CsOk c/\c.lf<=j/\q (.d (resD (srN c.W c.cl c.lf c.kn c.sh))) [obC C c]
def SSrM (C:Addr)(j:Nat):ASp:=λss q=>∃(c:Cs) (r:Nat),ss=[obC C c,nv r]/\CsOk c/\1<=c.lf/\c.lf<=j/\r∈bY c.cl c.kn c.sh/\q (.d (resD (mkM r (srN c.W c.cl (c.lf - 1) (c.kn++[r]) c.sh)))) [obC C c,nv r]
def SSrN (C:Addr)(j:Nat):ASp:=λss q=>∃c:Cs,ss=[obC C c,.ow (aE (bY c.cl c.kn c.sh))]/\CsOk c/\1<=c.lf/\c.lf<=j/\q (.d (resD (goN (λr s=>srN c.W c.cl (c.lf - 1) (c.kn++[r]) s) c.sh [] (bY c.cl c.kn c.sh) []))) [obC C c,.ow (aE (bY c.cl c.kn c.sh))]
theorem gaT2 {i j:Nat}{a b:D}{ρ:En}{M:En->Prop}(h:M (pt (pt ρ i (.vl a)) j (.vl b))):mx 2 (eE (dQ i) (eE (dQ j) gaNil)) (.tup [a,b]) ρ M:=h
section
variable {P:wT}{w:Bf}{K:bi}{mg:Str->Option bv}{base:Heap}
theorem aT (j k:Nat){C_Cases:Addr}(ob_Cases:ObC P w K mg base C_Cases "Cases" ["wished", "clean", "known", "shut", "left"])(dn:DefN K mg "searched_made" cT ["cases", "row"])(B:BI mg)(g_Cases_with_row:OkM P w K mg base 3 C_Cases "with_row" ["self", "row", "shut"] (spA K (vR C_Cases)))(g_searched:OkN P w K mg base (k+4) "searched" ["cases"] (spA K ((SSr C_Cases) j))):OkN P w K mg base (k+5) "searched_made" ["cases", "row"] (spA K ((SSrM C_Cases) j)):=by
 refine dn.aok2 (k:=k+4) dj (λj=>j==0||j==1) [.un,.un] (((SSrM C_Cases) j)) rfl (λf cdv A outer s H E hr=>have hu:=cW hr;⟨_,(aw (dP (bQ g_searched (hr.mono (by omega)) (ao (xC g_Cases_with_row ob_Cases.cl (hr.mono (by omega)) (pv 0) (ao (pv 1) (ao (cY (pv 0) rfl) aD))) aD)) (bz K (n:=2) rfl (aG (aI (i:=2) dj.nd rfl (by first | exact Or.inl rfl | exact Or.inr rfl)) (aG (aI (i:=3) dj.nd rfl (by first | exact Or.inl rfl | exact Or.inr rfl)) bx))))
  (aw (d9 (d8 K (pv 2) (λ_=>rfl))
  (aJ (bg (cq (ao d_ (ao (pv 3) aD)))))
  bX)
  (aJ (bg (cq (ao d_ (ao (cq (ao cN (ao (pv 1) (ao (pv 3) aD)))) aD))))))),(aF (cQ (aM (aa (eG af (aa af (aa (b_ ob_Cases.cl (ob_Cases.na _ (.tail _ (.tail _ (.tail _ (.head _))))) af) aq))) aq)) (ba (aA (az rfl) (aA (az rfl) aY (λ_ _ _=>aO)) (λ_ _ _=>aO))))
  (aF (cP (fG af)
  (aV (bL (aa cL (aa af aq))))
  bw)
  (aV (bL (aa cL (aa (bL (aa fg (aa af (aa af aq)))) aq))))))⟩) ?_
 rintro ss q ⟨c,r,rfl,hc,hl,hj,hr,hq⟩
 obtain⟨j,rfl⟩:∃j',j=j'+1:=⟨j - 1,by omega⟩
 have kl:=hc.kl
 have l2:(2:Nat)<=1000000:=by decide
 have l3:(3:Nat)<=1000000:=by decide
 obtain⟨fa,fb,_⟩:=(cv hc.k).mp hr
 have hc':=hc.with hl (dJ hc.k fa) fb hc.s (by omega)
 refine⟨rfl,rfl,?_⟩
 have red:∀x y:List Nat ⊕ D,x=y->q (.d (resD (mkM r x))) [obC C_Cases c,nv r]->q (.d (resD (mkM r y))) [obC C_Cases c,nv r]:=λx y e h=>e▸h
 refine cutS (λρ=>ρ=[obC C_Cases c,nv r,.vl (.bl (srN c.W c.cl (c.lf - 1) (c.kn++[r]) c.sh).isLeft),.vl (qa (srN c.W c.cl (c.lf - 1) (c.kn++[r]) c.sh))]) (λM hM=>?_) ?_
 ·refine⟨rfl,rfl,rfl,_,rfl,?_⟩
  refine⟨rfl,c,r,_,rfl,by omega,hl,?_⟩
  refine⟨rfl,_,rfl,hc',by show c.lf - 1<=j;omega,?_⟩
  rw[nc]
  exact hM _ rfl
 rintro _ rfl
 cases e:srN c.W c.cl (c.lf - 1) (c.kn++[r]) c.sh with
 | inl t =>
  have hq:=red _ _ e hq
  refine⟨l2,?_⟩
  exact hq
 | inr p =>
  have hq:=red _ _ e hq
  refine⟨l3,?_⟩
  refine⟨l2,?_⟩
  exact hq
theorem aS (j k:Nat){C_Cases:Addr}(ob_Cases:ObC P w K mg base C_Cases "Cases" ["wished", "clean", "known", "shut", "left"])(dn:DefN K mg "searched_next" cS ["cases", "free"])(B:BI mg)(g_Cases_with_row:OkM P w K mg base 3 C_Cases "with_row" ["self", "row", "shut"] (spA K (vR C_Cases)))(g_searched:OkN P w K mg base (k+4) "searched" ["cases"] (spA K ((SSr C_Cases) j))):OkN P w K mg base (k+5) "searched_next" ["cases", "free"] (spA K ((SSrN C_Cases) j)):=by
 refine dn.aok2 (k:=k+4) bN (λj=>j==0||j==1) [.un,.un,.un,.un,.un] (((SSrN C_Cases) j)) rfl (λf cdv A outer s H E hr=>have hu:=cW hr;⟨_,(aw (bf (i:=2) bN.nd rfl (by first | exact Or.inl rfl | exact Or.inr rfl) (gM aD))
  (aw (iw Cr rfl (g_ K rfl B.enumerate_ (ao (pv 1) aD)) (bz K (n:=2) rfl (aG (aI (i:=3) bN.nd rfl (by first | exact Or.inl rfl | exact Or.inr rfl)) (aG (aI (i:=4) bN.nd rfl (by first | exact Or.inl rfl | exact Or.inr rfl)) bx)))
  (aw (dP (bQ g_searched (hr.mono (by omega)) (ao (xC g_Cases_with_row ob_Cases.cl (hr.mono (by omega)) (pv 0) (ao (pv 4) (ao (bM (sx K) (cY (pv 0) rfl) (gK (gC K) (pv 1) jk (jj (pv 3)))) aD))) aD)) (bz K (n:=2) rfl (aG (aI (i:=5) bN.nd rfl (by first | exact Or.inl rfl | exact Or.inr rfl)) (aG (aI (i:=6) bN.nd rfl (by first | exact Or.inl rfl | exact Or.inr rfl)) bx))))
  (aw (d9 (d8 K (pv 5) (λ_=>rfl))
  (aJ (bg (cq (ao d_ (ao (pv 6) aD)))))
  bX)
  (aJ (g9 (jq K CH C_ C9 fo (pv 2) (ao (pv 6) aD)))))))
  (aJ (bg (cq (ao d_ (ao (cq (ao cN (ao (cu (c8 K) rfl B.tuple_ eV (ao (pv 2) aD)) aD))) aD))))))),(aF (aZ (eI aq) rfl)
  (aF (fj (pin:=(λj=>j==1)) (d0 (aa af aq)) (ba (aA (az rfl) (aA (az rfl) aY (λ_ _ _=>aO)) (λ_ _ _=>aO)))
  (aF (cQ (aM (aa (eG af (aa af (aa (aR sy (b_ ob_Cases.cl (ob_Cases.na _ (.tail _ (.tail _ (.tail _ (.head _))))) af) (kJ af kI (gy af))) aq))) aq)) (ba (aA (az rfl) (aA (az rfl) aY (λ_ _ _=>aO)) (λ_ _ _=>aO))))
  (aF (cP (fG af)
  (aV (bL (aa cL (aa af aq))))
  bw)
  (fJ (i7 af (aa af aq))))))
  (aV (bL (aa cL (aa (bL (aa fg (aa (dF dE (aa af aq)) aq))) aq))))))⟩) ?_
 rintro ss q ⟨c,rfl,hc,hl,hj,hq⟩
 refine⟨rfl,rfl,?_⟩
 obtain⟨j,rfl⟩:∃j',j=j'+1:=⟨j - 1,by omega⟩
 refine cutS (λρ=>ρ=[obC C_Cases c,.ow (aE (bY c.cl c.kn c.sh)),.ow [],.un,.un,.un,.un]) (λM hM=>⟨Bl _,hM _ rfl⟩) ?_
 rintro _ rfl
 have kl:=hc.kl
 have hsl:=hc.sl
 have l2:(2:Nat)<=1000000:=by decide
 have hfl:=vA hc
 have hfm:=λr (hr:r∈bY c.cl c.kn c.sh)=>(cv hc.k).mp hr
 generalize hres:goN (λr s=>srN c.W c.cl (c.lf - 1) (c.kn++[r]) s) c.sh [] (bY c.cl c.kn c.sh) []=res at hq
 generalize bY c.cl c.kn c.sh=Fr at *
 refine cutS (λρ=>∃ps s3 s4 s5 s6,res = .inr (.tup [.str "next",.tup ps])/\ps.length<=64/\ρ=[obC C_Cases c,.ow (aE Fr),.ow ps,s3,s4,s5,s6]) (λM hM=>?_) ?_
 ·refine dS (λk ρ=>∃ps s3 s4 s5 s6,goN (λr s=>srN c.W c.cl (c.lf - 1) (c.kn++[r]) s) c.sh (Fr.take k) (Fr.drop k) ps=res/\ps.length=k/\ρ=[obC C_Cases c,.ow (aE Fr),.ow ps,s3,s4,s5,s6]) (λk ρ _ ⟨_,s3,s4,s5,s6,_,_,e⟩=>by rw[e];rfl) ?_ ?_ _ ⟨[],.un,.un,.un,.un,hres,rfl,rfl⟩
  ·rintro k x _ N hx ⟨ps,s3,s4,s5,s6,hgo,hps,rfl⟩ hN
   obtain⟨y,hy,rfl⟩:=cF hx
   rw[aE,wP]at hy
   obtain⟨r,hr,rfl⟩:=Bb.mp hy
   have hk:=(sK.mp hr).1
   have hrF:r∈Fr:=BC hr
   obtain⟨fa,fb,_⟩:=hfm r hrF
   rw[Cb]
   have hs64:∀x∈c.sh++Fr.take k,x<64:=λx hx=>(Bq.mp hx).elim (hc.s x) λh=>(dJ hc.k (hfm x (List.mem_of_mem_take h)).1).2
   have hc':=hc.with (s:=c.sh++Fr.take k) hl (dJ hc.k fa) fb hs64 (by rw[A2,Bz];omega)
   have ec:aE c.sh++cutD (aE Fr) none (some ((k:Nat):Int))=aE (c.sh++Fr.take k):=by
    rw[ft];unfold aE;rw[Br,EL]
   have hil:r<64:=(dJ hc.k fa).2
   have hb:(aE c.sh).length+(L2.cutD (aE Fr) none (some ((k:Nat):Int))).length<=1000000:=by
    rw[ft,cV,Bz,cV]
    omega
   have hd:Fr.drop k=r::Fr.drop (k+1):=by
    rw[Bo hk]
    rw[im hk]at hr
    injection hr with hr
    rw[hr]
   have ht:Fr.take (k+1)=Fr.take k++[r]:=by rw[B2,hr];rfl
   rw[hd]at hgo
   simp only[goN]at hgo
   refine gaT2 ?_
   show aSeq _ _ _ [obC C_Cases c,.ow (aE Fr),.ow ps,.vl (.int (k:Nat)),nv r,s5,s6]
   refine cutS (λρ=>ρ=[obC C_Cases c,.ow (aE Fr),.ow ps,.vl (.int (k:Nat)),nv r,.vl (.bl (srN c.W c.cl (c.lf - 1) (c.kn++[r]) (c.sh++Fr.take k)).isLeft),.vl (qa (srN c.W c.cl (c.lf - 1) (c.kn++[r]) (c.sh++Fr.take k)))]) (λM hM=>?_) ?_
   ·refine⟨rfl,rfl,rfl,_,rfl,hb,?_⟩
    rw[ec]
    refine⟨rfl,c,r,_,rfl,by omega,hl,?_⟩
    refine⟨rfl,_,rfl,hc',by show c.lf - 1<=j;omega,?_⟩
    rw[nc]
    exact hM _ rfl
   rintro _ rfl
   cases e:srN c.W c.cl (c.lf - 1) (c.kn++[r]) (c.sh++Fr.take k)with
   | inl t =>
    rw[e]at hgo
    refine⟨l2,?_⟩
    subst hgo
    exact hq
   | inr p =>
    rw[e]at hgo
    have hpl:ps.length<=1000000:=by omega
    refine⟨hpl,?_⟩
    exact hN _ ⟨ps++[p],.vl (.int (k:Nat)),nv r,.vl (.bl false),.vl p,by rw[ht];exact hgo,by rw[A2,hps];rfl,rfl⟩
  ·rintro _ ⟨ps,s3,s4,s5,s6,hgo,hps,rfl⟩
   rw[bI,cV]at hgo hps
   rw[Ir]at hgo
   exact hM _ ⟨ps,s3,s4,s5,s6,hgo.symm,by omega,rfl⟩
 rintro _ ⟨ps,s3,s4,s5,s6,rfl,hps,rfl⟩
 have lp:ps.length<=1000000:=by omega
 refine⟨l2,?_⟩
 refine⟨l2,?_⟩
 exact hq
theorem bt (j k:Nat){C_Cases:Addr}(ob_Cases:ObC P w K mg base C_Cases "Cases" ["wished", "clean", "known", "shut", "left"])(dn:DefN K mg "searched" fK ["cases"])(B:BI mg)(g_Cases_lacking:OkM P w K mg base 3 C_Cases "lacking" ["self"] (spA K (vS C_Cases)))(g_Cases_lacks_too_many:OkM P w K mg base 4 C_Cases "lacks_too_many" ["self"] (spA K (uh C_Cases)))(g_Cases_free_rows:OkM P w K mg base 3 C_Cases "free_rows" ["self"] (spA K (yB C_Cases)))(g_Cases_is_far:OkM P w K mg base 3 C_Cases "is_far" ["self", "row"] (spA K (SFar C_Cases)))(g_searched_next:OkN P w K mg base (k+5) "searched_next" ["cases", "free"] (spA K ((SSrN C_Cases) j)))(g_searched_made:OkN P w K mg base (k+5) "searched_made" ["cases", "row"] (spA K ((SSrM C_Cases) j))):OkN P w K mg base (k+6) "searched" ["cases"] (spA K ((SSr C_Cases) (j+1))):=by
 refine dn.aok2 (k:=k+5) cZ (λj=>j==0) [.un,.un,.un] (((SSr C_Cases) (j+1))) rfl (λf cdv A outer s H E hr=>have hu:=cW hr;⟨_,(aw (bf (i:=1) cZ.nd rfl (by first | exact Or.inl rfl | exact Or.inr rfl) (ph g_Cases_lacking ob_Cases.cl (hr.mono (by omega)) (pv 0)))
  (aw (d9 (lR (d8 K (pv 1) (λ_=>rfl)))
  (aJ (bg (cq (ao d_ (ao (cY (pv 0) rfl) aD)))))
  bX)
  (aw (d9 (iu (ph g_Cases_lacks_too_many ob_Cases.cl (hr.mono (by omega)) (pv 0)))
  (aJ (bg (cq (ao d_ (ao (cq (ao cN aD)) aD)))))
  bX)
  (aw (iw Cr rfl (c7 K (pv 1)) (aI (i:=2) cZ.nd rfl (by first | exact Or.inl rfl | exact Or.inr rfl))
  (aJ (d9 (iu (xC g_Cases_is_far ob_Cases.cl (hr.mono (by omega)) (pv 0) (ao (pv 2) aD)))
  (aJ (bg (cq (ao d_ (ao (cq (ao cN (ao (pv 2) aD))) aD)))))
  bX)))
  (aw (bf (i:=3) cZ.nd rfl (by first | exact Or.inl rfl | exact Or.inr rfl) (ph g_Cases_free_rows ob_Cases.cl (hr.mono (by omega)) (pv 0)))
  (aw (iw Cr rfl (c7 K (pv 1)) (aI (i:=2) cZ.nd rfl (by first | exact Or.inl rfl | exact Or.inr rfl))
  (aJ (d9 (bR (qk K) (pv 2) (pv 3) rfl)
  (aJ (bg (bQ g_searched_made (hr.mono (by omega)) (ao (pv 0) (ao (pv 2) aD)))))
  bX)))
  (aJ (bg (bQ g_searched_next (hr.mono (by omega)) (ao (pv 0) (ao (pv 3) aD))))))))))),(aF (aZ (eG af aq) rfl)
  (aF (cP (gu (fG af))
  (aV (bL (aa cL (aa (b_ ob_Cases.cl (ob_Cases.na _ (.tail _ (.tail _ (.head _)))) af) aq))))
  bw)
  (aF (cP (gx (eG af aq))
  (aV (bL (aa cL (aa (bL (aa fg aq)) aq))))
  bw)
  (aF (fj (pin:=(λj=>j==1)) (cx af) (az rfl)
  (cP (gx (eG af (aa af aq)))
  (aV (bL (aa cL (aa (bL (aa fg (aa af aq))) aq))))
  bw))
  (aF (aZ (eG af aq) rfl)
  (aF (fj (pin:=(λj=>j==1)) (cx af) (az rfl)
  (cP (bj (aR (pB false) af af))
  (aV (aM (aa af (aa af aq))))
  bw))
  (aV (aM (aa af (aa af aq))))))))))⟩) ?_
 rintro ss q ⟨c,rfl,hc,hj,hq⟩
 refine⟨rfl,rfl,?_⟩
 have l1:(1:Nat)<=1000000:=by decide
 have l2:(2:Nat)<=1000000:=by decide
 have no0:bB c.W c.kn≠[]->¬c.lf<(bB c.W c.kn).length->1<=c.lf:=λh h'=>by
  have:=Ej.mpr h
  omega
 refine cutS (λρ=>ρ=[obC C_Cases c,.ow (aE (bB c.W c.kn)),.un,.un]) (λM hM=>⟨rfl,rfl,rfl,c,rfl,hc,hM _ rfl⟩) ?_
 rintro _ rfl
 refine cutS (λρ=>bB c.W c.kn≠[]/\ρ=[obC C_Cases c,.ow (aE (bB c.W c.kn)),.un,.un]) (λM hM=>?_) ?_
 ·cases hL:bB c.W c.kn with
  | nil =>
   refine⟨rfl,_,rfl,l2,?_⟩
   have:srN c.W c.cl c.lf c.kn c.sh = .inl c.kn:=by
    cases h:c.lf <;> simp only[srN,hL,if_true]
   rw[this]at hq
   exact hq
  | cons x xs=>exact hM _ ⟨by rw[hL];simp,by rw[hL]⟩
 rintro _ ⟨hL,rfl⟩
 refine cutS (λρ=>¬c.lf<(bB c.W c.kn).length/\ρ=[obC C_Cases c,.ow (aE (bB c.W c.kn)),.un,.un]) (λM hM=>⟨rfl,rfl,rfl,c,rfl,hc,?_⟩) ?_
 ·show if decide (c.lf<(bB c.W c.kn).length)=true then _ else _
  by_cases h:c.lf<(bB c.W c.kn).length
  ·rw[if_pos (decide_eq_true h)]
   refine⟨l1,?_⟩
   refine⟨l2,?_⟩
   have:srN c.W c.cl c.lf c.kn c.sh = .inr (.tup [.str "rows"]):=by
    cases hl:c.lf with
    | zero=>simp only[srN];rw[if_neg hL]
    | succ l=>simp only[srN];rw[if_neg hL,if_pos (by rw[<- hl];exact h)]
   rw[this]at hq
   exact hq
  ·rw[if_neg (by rw[decide_eq_true_eq];exact h)]
   exact hM _ ⟨h,rfl⟩
 rintro _ ⟨hM,rfl⟩
 obtain⟨l,hl⟩:∃l,c.lf=l+1:=⟨c.lf - 1,by have:=no0 hL hM;omega⟩
 have hS:srN c.W c.cl c.lf c.kn c.sh=match (bB c.W c.kn).find? (λr=>farN c.cl c.kn c.lf r)with
  | some r=>.inr (.tup [.str "far",nD r])
  | none=>match (bB c.W c.kn).find? (λr=>(bY c.cl c.kn c.sh).contains r)with
   | some r=>mkM r (srN c.W c.cl (c.lf - 1) (c.kn++[r]) c.sh)
   | none=>goN (λr s=>srN c.W c.cl (c.lf - 1) (c.kn++[r]) s) c.sh [] (bY c.cl c.kn c.sh) []:=by
  rw[hl]at hM ⊢
  simp only[srN]
  rw[if_neg hL,if_neg hM]
  rfl
 have take1:∀ {k:Nat} {r:Nat} (p:Nat->Bool),(bB c.W c.kn)[k]? = some r->((bB c.W c.kn).take k).find? p=none->(((bB c.W c.kn).take (k+1)).find? p=if p r=true then some r else none)/\(p r=true->(bB c.W c.kn).find? p=some r):=by
  intro k r p e h
  have hk:=(sK.mp e).1
  have h1:((bB c.W c.kn).take (k+1)).find? p=if p r=true then some r else none:=by
   rw[B2,e,FV,h,Dz,BQ]
   cases p r <;> rfl
  refine⟨h1,λhp=>?_⟩
  have:bB c.W c.kn=(bB c.W c.kn).take (k+1)++(bB c.W c.kn).drop (k+1):=(E_ _ _).symm
  rw[this,FV,h1,if_pos hp]
  rfl
 refine cutS (λρ=>(bB c.W c.kn).find? (λr=>farN c.cl c.kn c.lf r)=none/\∃s2,ρ=[obC C_Cases c,.ow (aE (bB c.W c.kn)),s2,.un]) (λM hM=>⟨rfl,?_⟩) ?_
 ·refine dS (λk ρ=>((bB c.W c.kn).take k).find? (λr=>farN c.cl c.kn c.lf r)=none/\∃s2,ρ=[obC C_Cases c,.ow (aE (bB c.W c.kn)),s2,.un]) (λk ρ _ ⟨_,s2,e⟩=>by rw[e];rfl) ?_ ?_ _ ⟨rfl,.un,rfl⟩
  ·rintro k x _ N hx ⟨hpre,s2,rfl⟩ hN
   rw[aE,wP]at hx
   obtain⟨r,hr,rfl⟩:=Bb.mp hx
   have hrW:=(dM hc.w).mp (BC hr)
   obtain⟨t1,t2⟩:=take1 (λr=>farN c.cl c.kn c.lf r) hr hpre
   refine⟨rfl,rfl,rfl,c,r,rfl,hc,(hc.w r hrW.1).2,?_⟩
   show if farN c.cl c.kn c.lf r=true then _ else _
   by_cases h:farN c.cl c.kn c.lf r=true
   ·rw[if_pos h]
    refine⟨l2,?_⟩
    refine⟨l2,?_⟩
    rw[hS,t2 h]at hq
    exact hq
   ·rw[if_neg h]
    exact hN _ ⟨by rw[t1,if_neg h],_,rfl⟩
  ·rintro _ ⟨h,s2,rfl⟩
   rw[cV,Cj]at h
   exact hM _ ⟨h,s2,rfl⟩
 rintro _ ⟨hF,s2,rfl⟩
 rw[hF]at hS
 refine cutS (λρ=>ρ=[obC C_Cases c,.ow (aE (bB c.W c.kn)),s2,.ow (aE (bY c.cl c.kn c.sh))]) (λM hM=>⟨rfl,rfl,rfl,c,rfl,hc,hM _ rfl⟩) ?_
 rintro _ rfl
 refine cutS (λρ=>(bB c.W c.kn).find? (λr=>(bY c.cl c.kn c.sh).contains r)=none/\∃s2,ρ=[obC C_Cases c,.ow (aE (bB c.W c.kn)),s2,.ow (aE (bY c.cl c.kn c.sh))]) (λM hM=>⟨rfl,?_⟩) ?_
 ·refine dS (λk ρ=>((bB c.W c.kn).take k).find? (λr=>(bY c.cl c.kn c.sh).contains r)=none/\∃s2,ρ=[obC C_Cases c,.ow (aE (bB c.W c.kn)),s2,.ow (aE (bY c.cl c.kn c.sh))]) (λk ρ _ ⟨_,s2,e⟩=>by rw[e];rfl) ?_ ?_ _ ⟨rfl,s2,rfl⟩
  ·rintro k x _ N hx ⟨hpre,s2,rfl⟩ hN
   rw[aE,wP]at hx
   obtain⟨r,hr,rfl⟩:=Bb.mp hx
   obtain⟨t1,t2⟩:=take1 (λr=>(bY c.cl c.kn c.sh).contains r) hr hpre
   have depF:∀e∈aE (bY c.cl c.kn c.sh),e.depth<=60:=λe he=>by
    obtain⟨x,_,rfl⟩:=BP.mp he
    simp[D.depth]
   refine pN (n:=r) (xs:=bY c.cl c.kn c.sh) rfl ?_
   show if(bY c.cl c.kn c.sh).contains r=true then _ else _
   by_cases h:(bY c.cl c.kn c.sh).contains r=true
   ·rw[if_pos h]
    refine⟨rfl,c,r,rfl,hc,by omega,hj,A5.mp h,?_⟩
    rw[hS,t2 h]at hq
    exact hq
   ·rw[if_neg h]
    exact hN _ ⟨by rw[t1,if_neg h],_,rfl⟩
  ·rintro _ ⟨h,s2,rfl⟩
   rw[cV,Cj]at h
   exact hM _ ⟨h,s2,rfl⟩
 rintro _ ⟨hG,s2,rfl⟩
 rw[hG]at hS
 rw[hS]at hq
 refine⟨rfl,c,rfl,hc,by omega,hj,?_⟩
 exact hq
end
theorem oJ {κ:Type} [DecidableEq κ](k k':κ)(d:D):∀(kvs:List (κ×D)),valD (putD kvs k d) k'=if k'=k then some d else valD kvs k':=by
 have rep:∀kvs:List (κ×D),(kvs.any λkv=>decide (kv.1=k))=true->valD (kvs.map λkv=>if kv.1=k then(kv.1,d)else kv) k'=if k'=k then some d else valD kvs k':=by
  intro kvs
  induction kvs with
  | nil=>intro h;cases h
  | cons p r ih =>
   intro h
   rw[A1]
   by_cases e:p.1=k
   ·rw[if_pos e]
    by_cases e':k'=k
    ·rw[if_pos e']
     simp[valD,BQ,e,e']
    ·rw[if_neg e']
     have ne:¬p.1=k':=λz=>e' (z.symm.trans e)
     have tail:∀r:List (κ×D),valD (r.map λkv=>if kv.1=k then(kv.1,d)else kv) k'=valD r k':=by
      intro r
      induction r with
      | nil=>rfl
      | cons q r ih =>
       rw[A1]
       by_cases eq:q.1=k
       ·have nq:¬q.1=k':=λz=>e' (z.symm.trans eq)
        rw[if_pos eq]
        unfold valD at ih ⊢
        rw[BX (by simpa using nq),BX (by simpa using nq)]
        exact ih
       ·rw[if_neg eq]
        by_cases nq:q.1=k'
        ·unfold valD
         rw[DJ (by simpa using nq),DJ (by simpa using nq)]
        ·unfold valD at ih ⊢
         rw[BX (by simpa using nq),BX (by simpa using nq)]
         exact ih
     have t:=tail r
     unfold valD at t ⊢
     rw[BX (by simpa using ne),BX (by simpa using ne)]
     exact t
   ·rw[if_neg e]
    have h':(r.any λkv=>decide (kv.1=k))=true:=by simpa [e] using h
    have ih':=ih h'
    by_cases ek:p.1=k'
    ·have nk:¬k'=k:=λz=>e (ek.trans z)
     rw[if_neg nk]
     unfold valD
     rw[DJ (by simpa using ek),DJ (by simpa using ek)]
    ·unfold valD at ih' ⊢
     rw[BX (by simpa using ek),BX (by simpa using ek)]
     exact ih'
 intro kvs
 unfold putD
 split
 ·rename_i h;exact rep kvs h
 ·rename_i h
  have hn:∀kv∈kvs,¬kv.1=k:=λkv hkv e=>h (CD.mpr ⟨kv,hkv,decide_eq_true e⟩)
  unfold valD
  rw[FV]
  by_cases e':k'=k
  ·rw[if_pos e']
   have:(kvs.find? λkv=>decide (kv.1=k'))=none:=List.find?_eq_none.mpr λkv hkv=>by rw[e'];simpa using hn kv hkv
   rw[this]
   simp[BQ,e']
  ·rw[if_neg e']
   have:([(k,d)].find? λkv=>decide (kv.1=k'))=none:=by rw[BX (by simpa using λz:k=k'=>e' z.symm)];rfl
   rw[this]
   cases (kvs.find? λkv=>decide (kv.1=k')) <;> rfl
def stN (R:List Nat):List Nat:=(zn R.length).map (fst1 R)
theorem eJ (R:List Nat):(stN R).length=R.length:=by simp[stN]
theorem gA {R:List Nat}{t:Nat}(h:t<R.length):(stN R).getD t 0=fst1 R t:=by
 rw[n5 (by rw[eJ];exact h)]
 simp[stN]
def metD (R:List Nat)(k:Nat)(kvs:List (Key×D)):Prop:=∀r:Nat,valD kvs (.inl (r:Int))=if r∈R.take k then some (nD (R.idxOf r))else none
def uj:ASp:=λss q=>∃R:List Nat,ss=[.vl (.lst (aE R))]/\R.length<=1000/\q (.f (aE (stN R))) [.vl (.lst (aE R))]
def nY (M:Nat->Bool)(kvs:List (Key×D)):Prop:=∀t:Nat,(valD kvs (.inl (t:Int))).isSome=M t
theorem k_ {M:Nat->Bool}{kvs:List (Key×D)}(h:nY M kvs)(x:Nat)(d:D):nY (λt=>M t||t==x) (putD kvs (.inl (x:Int)) d):=λt=>by
 rw[oJ]
 by_cases e:t=x
 ·subst e;simp
 ·have:¬(Sum.inl (t:Int):Key) = .inl (x:Int):=λz=>e (by injection z with z;omega)
  rw[if_neg this,h t]
  simp[e]
def ug:ASp:=λss q=>∃(N:Net),ss=[.vl (netD N),.ow (aE (stN (cb N)))]/\vV N/\∀kvs,nY (iI N) kvs->q (.n (.dk kvs)) [.vl (netD N),.ow (aE (stN (cb N)))]
def STid:ASp:=λss q=>∃N:Net,ss=[.vl (netD N)]/\vV N/\q (.d (netD (tidN N))) [.vl (netD N)]
theorem Al {i j:Nat}{d1 d2:D}{ρ:En}{k:En->Prop}(h:k (pt (pt ρ i (.vl d1)) j (.vl d2))):mx 2 (eE (dQ i) (eE (dQ j) gaNil)) (.tup [d1,d2]) ρ k:=h
theorem mh {m:Nat}{f:Nat->Nat}{p:Nat×Nat}{r:List (Nat×Nat)}{k:Nat}{M:Nat->Bool}{t:Nat}:nW m f (p::r) k M t=(nW m f r (k+1) M t||(nW m f r (k+1) M (m+k)&&(t==f p.1||t==f p.2))):=rfl
def canN (cl:Bool)(K:List Nat)(r:Nat)(n:Nat):List (Nat×Nat):=(zn n).flatMap λb=>((zn b).filter λa=>decide (K.getD a 0 ^^^ K.getD b 0=r)&&mayN cl (K.getD a 0) (K.getD b 0)).map λa=>(a,b)
def fjN (cl:Bool)(K:List Nat)(r:Nat):Nat×Nat:=(canN cl K r K.length).getD 0 (0,0)
theorem kq (K:List Nat){i:Nat}(hi:i<=K.length):di 0 (aE (K.take i))=(zn i).map λa=>.tup [nD a,nD (K.getD a 0)]:=by
 refine CJ λk=>?_
 have hl:(K.take i).length=i:=by rw[Bz];omega
 rcases Bh k i with h | h
 ·have h1:k<(di 0 (aE (K.take i))).length:=by rw[bI,cV,hl];exact h
  have h2:(di 0 (aE (K.take i)))[k]? = some ((di 0 (aE (K.take i)))[k]'h1):=im h1
  obtain⟨x,hx,e⟩:=cF h2
  rw[h2,e,Cb,wP,Ek h]
  rw[aE,wP,EM h,im (by omega)]at hx
  injection hx with hx
  rw[<- hx]
  show _=some (D.tup [nD k,nD (K.getD k 0)])
  rw[wS,im (show k<K.length by omega)]
  rfl
 ·rw[CB (by rw[bI,cV,hl];exact h),CB (by rw[lw,Cy];exact h)]
theorem mL (cl:Bool)(K:List Nat)(r n:Nat):canN cl K r (n+1)=canN cl K r n++((zn n).filter λa=>decide (K.getD a 0 ^^^ K.getD n 0=r)&&mayN cl (K.getD a 0) (K.getD n 0)).map λa=>(a,n):=by
 unfold canN
 rw[CL,El,ED,F7,Bn]
theorem pX (cl:Bool)(K:List Nat)(r:Nat):∀n,n<=63->(canN cl K r n).length<=n*63
 | 0,_=>by simp[canN]
 | n+1,h=>by
  rw[mL,A2,lw]
  have:=pX cl K r n (by omega)
  have:=C1 (λa=>decide (K.getD a 0 ^^^ K.getD n 0=r)&&mayN cl (K.getD a 0) (K.getD n 0)) (zn n)
  rw[Cy]at this
  omega
theorem lD {cl:Bool}{K:List Nat}{r n:Nat}{p:Nat×Nat}:p∈canN cl K r n↔p.1<p.2/\p.2<n/\K.getD p.1 0 ^^^ K.getD p.2 0=r/\mayN cl (K.getD p.1 0) (K.getD p.2 0)=true:=by
 unfold canN
 rw[F6]
 constructor
 ·rintro⟨b,hb,h⟩
  obtain⟨a,ha,rfl⟩:=BP.mp h
  obtain⟨h1,h2⟩:=Bm.mp ha
  rw[A7,decide_eq_true_eq]at h2
  exact⟨Bv.mp h1,Bv.mp hb,h2⟩
 ·rintro⟨h1,h2,h3,h4⟩
  exact⟨p.2,Bv.mpr h2,BP.mpr ⟨p.1,Bm.mpr ⟨Bv.mpr h1,by rw[A7,decide_eq_true_eq];exact⟨h3,h4⟩⟩,rfl⟩⟩
theorem t7 {cl:Bool}{K:List Nat}{r:Nat}(h:eR cl K r=true):canN cl K r K.length≠[]:=by
 obtain⟨a,ha,b,hb,ne,hm,rfl⟩:=eA.mp h
 obtain⟨i,hi,rfl⟩:=iS ha
 obtain⟨j,hj,rfl⟩:=iS hb
 rcases CK i j with q | q | q
 ·exact HV (lD.mpr ⟨q,hj,rfl,hm⟩:(i,j)∈_)
 ·subst q;exact absurd rfl ne
 ·exact HV (lD.mpr ⟨q,hi,Ex _ _,by rw[l_];exact hm⟩:(j,i)∈_)
theorem x_ {cl:Bool}{K:List Nat}{r:Nat}(h:canN cl K r K.length≠[]):fjN cl K r∈canN cl K r K.length:=by
 unfold fjN
 rw[wS,im (Ej.mpr h)]
 exact DS _
def SFj:ASp:=λss q=>∃(K:List Nat) (r:Nat) (cl:Bool),ss=[.vl (.lst (aE K)),nv r,.vl (.bl cl)]/\K.length<=63/\canN cl K r K.length≠[]/\q (.d (cj (fjN cl K r))) [.vl (.lst (aE K)),nv r,.vl (.bl cl)]
def gh (m:Nat)(cl:Bool)(L W:List Nat):Net:=⟨m,(zn (L.length - m)).map λi=>fjN cl (L.take (m+i)) (L.getD (m+i) 0),W.map L.idxOf⟩
structure Fnd (m:Nat)(cl:Bool)(L W:List Nat):Prop where
 m1:1<=m
 m12:m<=12
 l:L.length<=63
 w1:1<=W.length
 w24:W.length<=24
 w:∀r∈W,r∈L
 ml:m<=L.length
 own:L.take m=aP m
 nd:L.Nodup
 nx:∀i,m<=i->i<L.length->eR cl (L.take i) (L.getD i 0)=true
theorem sF:∀ {js:List (Nat×Nat)} {rows:List Nat},(∀i p,js[i]? = some p->p.1<p.2/\p.2<rows.length+i/\((js.take i).foldl bh rows).getD p.1 0≠((js.take i).foldl bh rows).getD p.2 0)->okJs rows js
 | [],_,_=>trivial
 | p::r,rows,h=>by
  obtain⟨h1,h2,h3⟩:=h 0 p rfl
  refine⟨h1,h2,h3,sF λi q e=>?_⟩
  obtain⟨a,b,c⟩:=h (i+1) q e
  exact⟨a,by rw[iO];omega,c⟩
theorem de {L:List Nat}{n i:Nat}(h:i<n):(L.take n).getD i 0=L.getD i 0:=by
 rw[wS,wS,EM h]
theorem pG {m:Nat}{cl:Bool}{L W:List Nat}(F:Fnd m cl L W){k:Nat}(h:k<L.length - m):(gh m cl L W).js[k]? = some (fjN cl (L.take (m+k)) (L.getD (m+k) 0))/\(fjN cl (L.take (m+k)) (L.getD (m+k) 0)).1<(fjN cl (L.take (m+k)) (L.getD (m+k) 0)).2/\(fjN cl (L.take (m+k)) (L.getD (m+k) 0)).2<m+k /\
  L.getD (fjN cl (L.take (m+k)) (L.getD (m+k) 0)).1 0 ^^^ L.getD (fjN cl (L.take (m+k)) (L.getD (m+k) 0)).2 0=L.getD (m+k) 0/\mayN cl (L.getD (fjN cl (L.take (m+k)) (L.getD (m+k) 0)).1 0) (L.getD (fjN cl (L.take (m+k)) (L.getD (m+k) 0)).2 0)=true:=by
 have hl:(L.take (m+k)).length=m+k:=by rw[Bz];omega
 have hm:=x_ (t7 (F.nx (m+k) (by omega) (by omega)))
 obtain⟨h1,h2,h3,h4⟩:=lD.mp hm
 rw[hl]at h2
 refine⟨?_,h1,h2,?_,?_⟩
 ·unfold gh
  rw[wP,Ek h];rfl
 ·rwa [de (by omega),de h2]at h3
 ·rwa [de (by omega),de h2]at h4
theorem jz (m:Nat)(cl:Bool)(L W:List Nat):(gh m cl L W).js.length=L.length - m:=by simp[gh]
theorem j_ {m:Nat}{cl:Bool}{L W:List Nat}(F:Fnd m cl L W):∀k,k<=L.length - m->((gh m cl L W).js.take k).foldl bh (aP m)=L.take (m+k)
 | 0,_=>F.own.symm
 | k+1,h=>by
  obtain⟨e,h1,h2,h3,_⟩:=pG F (show k<L.length - m by omega)
  rw[my e,j_ F k (by omega)]
  unfold bh
  rw[de (by omega),de h2,h3,<- Jq,B2,wS,im (show m+k<L.length by omega)]
  rfl
theorem sL {m:Nat}{cl:Bool}{L W:List Nat}(F:Fnd m cl L W):vV (gh m cl L W):=by
 have hml:=F.ml
 have hl:=F.l
 refine⟨F.m1,F.m12,by rw[jz];omega,sF λi p e=>?_,?_,?_,λo ho=>?_⟩
 ·have hi:=(sK.mp e).1
  rw[jz]at hi
  obtain⟨e',h1,h2,h3,h4⟩:=pG F hi
  rw[e']at e
  injection e with e
  subst e
  refine⟨h1,by rw[gg];exact h2,?_⟩
  have et:=j_ F i (by omega)
  show((gh m cl L W).js.take i |>.foldl bh (aP m)).getD _ 0≠((gh m cl L W).js.take i |>.foldl bh (aP m)).getD _ 0
  rw[et,de (by omega),de h2]
  intro z
  have:=lh F.nd (by omega) (by omega) z
  omega
 ·show 1<=(W.map L.idxOf).length
  rw[lw];exact F.w1
 ·show(W.map L.idxOf).length<=24
  rw[lw];exact F.w24
 ·obtain⟨r,hr,rfl⟩:=BP.mp ho
  have:=Gy (F.w r hr)
  rw[jz]
  show _<m+_
  omega
theorem pQ (m:Nat):∀n,(zn n).filter (λi=>decide (m<=i))=(zn (n - m)).map (m + ·)
 | 0=>by simp
 | n+1=>by
  rw[CL,FA,pQ m n]
  by_cases h:m<=n
  ·rw[ET (by simpa using h),show n+1 - m=(n - m)+1 by omega,CL,Br]
   show _++[n]=_++[m+(n - m)]
   rw[show m+(n - m)=n by omega]
  ·rw[EU (by simpa using h),show n+1 - m=n - m by omega]
   simp
def yA:ASp:=λss q=>∃(m:Nat) (cl:Bool) (L W:List Nat),ss=[.vl (bK m W),.vl (.bl cl),.vl (.lst (aE L))]/\Fnd m cl L W/\q (.d (netD (tidN (gh m cl L W)))) [.vl (bK m W),.vl (.bl cl),.vl (.lst (aE L))]
theorem wC:∀ {L:List Nat} {r k:Nat},k<L.idxOf r->L[k]? ≠ some r
 | [],r,k,h,e=>by simp at e
 | x::L,r,0,h,e=>by
  injection e with e
  subst e
  simp at h
 | x::L,r,k+1,h,e=>by
  rw[List.idxOf_cons]at h
  cases hx:x==r with
  | true=>rw[hx]at h;simp at h
  | false =>
   rw[hx]at h
   exact wC (k:=k) (by simpa using h) (by simpa using e)
section
variable {P:wT}{w:Bf}{K:bi}{mg:Str->Option bv}{base:Heap}
theorem qm (dn:DefN K mg "joining" gH ["one", "other"])(B:BI mg):OkN P w K mg base 1 "joining" ["one", "other"] (spA K lI):=by
 refine dn.aok2 (k:=0) qh (λj=>j==0||j==1) [] lI rfl (λf cdv A outer s H E hr=>have hu:=cW hr;⟨_,(aJ (bg (cq (ao (cH (t8 rfl) rfl B.min_ z_ (ao (pv 0) (ao (pv 1) aD))) (ao (cH (t_ rfl) rfl B.max_ Aa (ao (pv 0) (ao (pv 1) aD))) aD))))),(aV (bL (aa (dF vJ (aa af (aa af aq))) (aa (dF vK (aa af (aa af aq))) aq))))⟩) ?_
 rintro ss q ⟨a,b,rfl,hq⟩
 refine⟨rfl,rfl,by simp,?_⟩
 show q (.d (.tup [.int (if(b:Int)<(a:Int)then(b:Int)else(a:Int)),.int (if(b:Int) > (a:Int)then(b:Int)else(a:Int))])) [nv a,nv b]
 rw[minI,maxI];exact hq
theorem lZ (dn:DefN K mg "all_words" eM ["net", "words"])(B:BI mg)(g_joined:OkN P w K mg base 1 "joined" ["one", "other"] (spA K iq)):OkN P w K mg base 2 "all_words" ["net", "words"] (spA K SAll):=by
 refine dn.aok2 (k:=1) cn (λj=>j==0||j==1) [.un,.un,.un,.un,.un,.un] SAll rfl (λf cdv A outer s H E hr=>have hu:=cW hr;⟨_,(aw (dP (pv 0) (bz K (n:=3) rfl (aG (aI (i:=2) cn.nd rfl (by first | exact Or.inl rfl | exact Or.inr rfl)) (aG (aI (i:=3) cn.nd rfl (by first | exact Or.inl rfl | exact Or.inr rfl)) (aG (aI (i:=4) cn.nd rfl (by first | exact Or.inl rfl | exact Or.inr rfl)) bx)))))
  (aw (bf (i:=5) cn.nd rfl (by first | exact Or.inl rfl | exact Or.inr rfl) (cu (qM K) rfl B.list_ oy (ao (pv 1) aD)))
  (aw (iw Cr rfl (c7 K (pv 3)) (bz K (n:=2) rfl (aG (aI (i:=6) cn.nd rfl (by first | exact Or.inl rfl | exact Or.inr rfl)) (aG (aI (i:=7) cn.nd rfl (by first | exact Or.inl rfl | exact Or.inr rfl)) bx)))
  (aJ (g9 (jq K CH C_ C9 fo (pv 5) (ao (bQ g_joined (hr.mono (by decide)) (ao (dG (bH K) (pv 5) (pv 6) (λ_ _=>rfl)) (ao (dG (bH K) (pv 5) (pv 7) (λ_ _=>rfl)) aD))) aD)))))
  (aJ (bg (pv 5)))))),(aF (cQ af (ba (aA (az rfl) (aA (az rfl) (aA (az rfl) aY (λ_ _ _=>aO)) (λ_ _ _=>aO)) (λ_ _ _=>aO))))
  (aF (aZ (dF t6 (aa af aq)) rfl)
  (aF (fj (pin:=(λj=>j==3)) (cx af) (ba (aA (az rfl) (aA (az rfl) aY (λ_ _ _=>aO)) (λ_ _ _=>aO)))
  (fJ (i7 af (aa (aM (aa (aR cB af af) (aa (aR cB af af) aq))) aq))))
  (aV af))))⟩) ?_
 rintro ss q ⟨N,ws,rfl,hix,hz,hq⟩
 refine⟨rfl,rfl,?_⟩
 refine vC cj (λk ρ=>∃s6 s7,ρ=[.vl (netD N),.vl (.lst (aE ws)),nv N.m,.vl (.tup (N.js.map cj)),.vl (.tup (aE N.os)),.ow (aE ((N.js.take k).foldl bh ws)),s6,s7]) (λ_ _ _=>trivial) ?_ ?_ ⟨_,_,rfl⟩
 ·rintro k p _ M hk ⟨s6,s7,rfl⟩ hM
  obtain⟨q1,q2⟩:=iR hix hk
  have hlen:((N.js.take k).foldl bh ws).length=ws.length+k:=by
   have:=(sK.mp hk).1
   rw[lq,Bz];omega
  have hi:k<N.js.length:=(sK.mp hk).1
  refine cX rfl (by omega) (cX rfl (by omega) ⟨rfl,_,_,rfl,?_,hM _ ⟨nv p.1,nv p.2,?_⟩⟩)
  ·rw[lw,hlen];omega
  ·rw[my hk,qt];rfl
 ·rintro ρ ⟨s6,s7,rfl⟩
  rw[Cj]
  exact hq
theorem ql (dn:DefN K mg "rows_of" gG ["net"])(B:BI mg)(g_all_words:OkN P w K mg base 2 "all_words" ["net", "words"] (spA K SAll))(g_own_rows:OkN P w K mg base 1 "own_rows" ["many"] (spA K SOwn)):OkN P w K mg base 3 "rows_of" ["net"] (spA K oC):=by
 refine dn.aok2 (k:=2) qg (λj=>j==0) [] oC rfl (λf cdv A outer s H E hr=>have hu:=cW hr;⟨_,(aJ (bg (bQ g_all_words (hr.mono (by decide)) (ao (pv 0) (ao (bQ g_own_rows (hr.mono (by decide)) (ao (dG (bH K) (pv 0) aN (λ_ _=>rfl)) aD)) aD))))),(aV (aM (aa af (aa (aM (aa (aR cB af aK) aq)) aq))))⟩) ?_
 rintro ss q ⟨N,rfl,hix,hz,hq⟩
 refine⟨rfl,rfl,?_⟩
 refine qG rfl rfl ⟨rfl,N.m,rfl,by omega,rfl,N,aP N.m,rfl,?_,?_,hq⟩
 ·rw[gg];exact hix
 ·rw[gg];exact hz
theorem jS (dn:DefN K mg "first_alike" dA ["rows"])(B:BI mg):OkN P w K mg base 1 "first_alike" ["rows"] (spA K uj):=by
 refine dn.aok2 (k:=0) cE (λj=>j==0) [.un,.un,.un,.un] uj rfl (λf cdv A outer s H E hr=>have hu:=cW hr;⟨_,(aw (bf (i:=1) cE.nd rfl (by first | exact Or.inl rfl | exact Or.inr rfl) uW)
  (aw (bf (i:=2) cE.nd rfl (by first | exact Or.inl rfl | exact Or.inr rfl) (gM aD))
  (aw (iw Cr rfl (g_ K rfl B.enumerate_ (ao (pv 0) aD)) (bz K (n:=2) rfl (aG (aI (i:=3) cE.nd rfl (by first | exact Or.inl rfl | exact Or.inr rfl)) (aG (aI (i:=4) cE.nd rfl (by first | exact Or.inl rfl | exact Or.inr rfl)) bx)))
  (aJ (g9 (jq K CH C_ C9 fo (pv 2) (ao (uV (pv 1) (pv 4) (pv 3) ⟨rfl,rfl,rfl,rfl⟩) aD)))))
  (aJ (bg (pv 2)))))),(aF (aZ uC rfl)
  (aF (aZ (eI aq) rfl)
  (aF (fj (pin:=(λj=>j==0)) (d0 (aa af aq)) (ba (aA (az rfl) (aA (az rfl) aY (λ_ _ _=>aO)) (λ_ _ _=>aO)))
  (fJ (i7 af (aa (qZ af af af) aq))))
  (aV af))))⟩) ?_
 rintro ss q ⟨R,rfl,hz,hq⟩
 refine⟨rfl,rfl,?_⟩
 refine⟨by simp,?_⟩
 refine dS (λk ρ=>k<=R.length/\∃kvs s3 s4,ρ=[.vl (.lst (aE R)),.dk kvs,.ow (aE ((stN R).take k)),s3,s4]/\metD R k kvs/\kvs.length<=k) (λ_ _ _ _=>trivial) ?_ ?_ _ ⟨Bl _,[],.un,.un,rfl,λr=>by simp[valD],wl _⟩
 ·rintro k d _ M hk ⟨_,kvs,s3,s4,rfl,hm,hkl⟩ hM
  obtain⟨x,ex,rfl⟩:=cF hk
  rw[wP]at ex
  obtain⟨r,er,rfl⟩:=Bb.mp ex
  have lt:k<R.length:=(sK.mp er).1
  have er':R.getD k 0=r:=by rw[wS,er];rfl
  have ef:fst1 R k=R.idxOf r:=by unfold fst1;rw[er']
  have et:R.take (k+1)=R.take k++[r]:=by rw[B2,er];rfl
  have es:(stN R).take (k+1)=(stN R).take k++[R.idxOf r]:=by
   rw[B2]
   congr 1
   have:(stN R)[k]? = some (fst1 R k):=by simp[stN,lt]
   rw[this,ef];rfl
  have hsl:(aE ((stN R).take k)).length<=1000:=by rw[eB,Bz,eJ];omega
  rw[Cb]
  refine Al ?_
  refine vt (k:=.inl (r:Int)) rfl (by omega) (λx hx=>?_) λhx=>?_
  ·have h1:=hm r
   rw[hx]at h1
   by_cases hr:r∈R.take k
   ·rw[if_pos hr]at h1
    cases h1
    refine⟨by omega,hM _ ⟨by omega,kvs,nv k,nv r,?_,λr'=>?_,by omega⟩⟩
    ·rw[es,dD];rfl
    ·rw[hm r',et]
     by_cases e:r'=r
     ·subst e;rw[if_pos hr,if_pos (Bu _ hr)]
     ·congr 1
      simp[e]
   ·rw[if_neg hr]at h1;cases h1
  ·have h1:=hm r
   rw[hx]at h1
   by_cases hr:r∈R.take k
   ·rw[if_pos hr]at h1;cases h1
   ·have ei:R.idxOf r=k:=by
     have l1:R.idxOf r<=k:=by rw[<- ef];exact tJ lt
     rcases Bh (R.idxOf r) k with q | q
     ·exfalso
      refine hr ?_
      have g:=vy (R:=R) (t:=k) lt
      rw[ef,er',n5 (by omega)]at g
      exact List.mem_iff_getElem.mpr ⟨R.idxOf r,by rw[Bz];omega,by rw[FT];exact g⟩
     ·omega
    refine⟨by omega,hM _ ⟨by omega,putD kvs (.inl (r:Int)) (nD k),nv k,nv r,?_,λr'=>?_,?_⟩⟩
    ·rw[es,dD,ei];rfl
    ·rw[oJ,et]
     by_cases e:r'=r
     ·subst e
      rw[if_pos rfl,if_pos (by simp),ei]
     ·have ne:¬(Sum.inl (r':Int):Key) = .inl (r:Int):=λz=>e (by injection z with z;omega)
      rw[if_neg ne,hm r']
      congr 1
      simp[e]
    ·have:=fQ kvs (.inl (r:Int)) (nD k);omega
 ·rintro _ ⟨_,kvs,s3,s4,rfl,hm,hkl⟩
  have e:(di 0 (aE R)).length=R.length:=by rw[bI,eB]
  rw[e,Ca (by rw[eJ];exact wl _)]
  exact hq
theorem nB (dn:DefN K mg "leant_on" d7 ["net", "stands"])(B:BI mg):OkN P w K mg base 1 "leant_on" ["net", "stands"] (spA K ug):=by
 refine dn.aok2 (k:=0) cm (λj=>j==0||j==1) [.un,.un,.un,.un,.un,.un,.un] ug rfl (λf cdv A outer s H E hr=>have hu:=cW hr;⟨_,(aw (dP (pv 0) (bz K (n:=3) rfl (aG (aI (i:=2) cm.nd rfl (by first | exact Or.inl rfl | exact Or.inr rfl)) (aG (aI (i:=3) cm.nd rfl (by first | exact Or.inl rfl | exact Or.inr rfl)) (aG (aI (i:=4) cm.nd rfl (by first | exact Or.inl rfl | exact Or.inr rfl)) bx)))))
  (aw (pb (i:=5) ["out"] [1] cm.nd rfl (by first | exact Or.inl rfl | exact Or.inr rfl) rfl (Blk.of (ar d7) jx) (c7 K (pv 4)) (λ_ _ _ _ nd=>(aI (i:=0) nd rfl (by first | exact Or.inl rfl | exact Or.inr rfl))) (λ_ _ _ _=>dW) (λ_ _ _ _=>(dG (bH K) (pv 1) (pv 0) (λ_ _=>rfl))) (λ_ _ _ _=>d_))
  (aw (iw Cr rfl (za K rfl B.reversed_ (ao (zf K rfl rfl B.list_ rfl B.enumerate_ (ao (pv 3) aD)) aD)) (bz K (n:=2) rfl (aG (aI (i:=6) cm.nd rfl (by first | exact Or.inl rfl | exact Or.inr rfl)) (aG (bz K (n:=2) rfl (aG (aI (i:=7) cm.nd rfl (by first | exact Or.inl rfl | exact Or.inr rfl)) (aG (aI (i:=8) cm.nd rfl (by first | exact Or.inl rfl | exact Or.inr rfl)) bx))) bx)))
  (aJ (d9 (o9 (wo hu (bM eh (pv 2) (pv 6)) (pv 5)))
  (aw (ji hu (pv 5) (dG (bH K) (pv 1) (pv 7) (λ_ _=>rfl)) d_ rfl)
  (aJ (ji hu (pv 5) (dG (bH K) (pv 1) (pv 8) (λ_ _=>rfl)) d_ rfl)))
  bX)))
  (aJ (bg (pv 5)))))),(aF (cQ af (ba (aA (az rfl) (aA (az rfl) (aA (az rfl) aY (λ_ _ _=>aO)) (λ_ _ _=>aO)) (λ_ _ _=>aO))))
  (aF (lP (iZ (cx af) (az rfl) c9 (aR cB af af) cL) rfl)
  (aF (fj (pin:=(λ_=>false)) (uE (aa (w6 (aa af aq)) aq)) (ba (aA (az rfl) (aA (ba (aA (az rfl) (aA (az rfl) aY (λ_ _ _=>aO)) (λ_ _ _=>aO))) aY (λ_ _ _=>wG)) (λ_ _ _=>aO)))
  (cP (bj (q0 (aR cc af af) af))
  (aF (oU cL af (aR cB af af))
  (oU cL af (aR cB af af)))
  bw))
  (aV af))))⟩) ?_
 rintro ss q ⟨N,rfl,hN,hq⟩
 have Rw:=wc hN
 have hl:(cb N).length=N.m+N.js.length:=kR N
 have jl:=hN.jl
 have m12:=hN.m12
 have o24:=hN.o24
 refine⟨rfl,rfl,?_⟩
 refine cutS (λρ=>ρ=[.vl (netD N),.ow (aE (stN (cb N))),nv N.m,.vl (.tup (N.js.map L2.cj)),.vl (.tup (aE N.os)),.un,.un,.un,.un]) (λM hM=>hM _ rfl) ?_
 rintro _ rfl
 refine cutS (λρ=>∃kvs,ρ=[.vl (netD N),.ow (aE (stN (cb N))),nv N.m,.vl (.tup (N.js.map L2.cj)),.vl (.tup (aE N.os)),.dk kvs,.un,.un,.un]/\nY (λt=>(N.os.map (fT N)).contains t) kvs/\kvs.length<=24) (λM hM=>?_) ?_
 ·refine⟨by rw[eB];omega,?_⟩
  refine ik (λk acc ρ=>ρ=[.vl (netD N),.ow (aE (stN (cb N))),nv N.m,.vl (.tup (N.js.map L2.cj)),.vl (.tup (aE N.os)),.un,.un,.un,.un]/\nY (λt=>((N.os.take k).map (fT N)).contains t) acc/\acc.length<=k) (λ_ _ _ _ _=>trivial) ?_ ?_ _ ⟨rfl,λt=>by simp[valD],wl _⟩
  ·rintro k d acc _ M2 hk ⟨rfl,hka,hla⟩ hM2
   rw[wP]at hk
   obtain⟨o,eo,rfl⟩:=Bb.mp hk
   have ho:=hN.os o (BC eo)
   refine cX rfl (by rw[eJ];omega) (hM2 _ _ ⟨rfl,?_,?_⟩)
   ·rw[gA (by omega)]
    have:=k_ hka (fst1 (cb N) o) (.bl true)
    intro t
    rw[this t,B2,eo,Dz,Br,A1,CF]
    rw[CM]
    simp[fT]
   ·have:=fQ acc (.inl (((stN (cb N)).getD o 0:Nat):Int)) (.bl true);omega
  ·rintro acc _ ⟨rfl,hka,hla⟩
   rw[eB]at hka hla
   rw[Cj]at hka
   exact hM _ ⟨acc,rfl,hka,by omega⟩
 rintro _ ⟨kvs,rfl,hk0,hl0⟩
 refine dS (λk ρ=>k<=N.js.length/\∃kvs s6 s7 s8,ρ=[.vl (netD N),.ow (aE (stN (cb N))),nv N.m,.vl (.tup (N.js.map L2.cj)),.vl (.tup (aE N.os)),.dk kvs,s6,s7,s8]/\nY (nW N.m (fT N) (N.js.drop (N.js.length - k)) (N.js.length - k) λt=>(N.os.map (fT N)).contains t) kvs/\kvs.length<=24+2*k) (λ_ _ _ _=>trivial) ?_ ?_ _ ⟨Bl _,kvs,.un,.un,.un,rfl,?_,by omega⟩
 ·rintro k d _ M hk ⟨_,kvs,s6,s7,s8,rfl,hka,hla⟩ hM
  have lk:k<N.js.length:=by
   have:=(sK.mp hk).1
   rwa [Ei,bI,lw]at this
  rw[Ho (by rw[bI,lw];exact lk),bI,lw]at hk
  obtain⟨x,ex,rfl⟩:=cF hk
  rw[wP]at ex
  obtain⟨p,ep,rfl⟩:=Bb.mp ex
  obtain⟨a1,a2,a3⟩:=xW Rw ep
  rw[Cb]
  have ed:N.js.drop (N.js.length - (k+1))=p::N.js.drop (N.js.length - k):=by
   rw[show N.js.length - (k+1)=N.js.length - 1 - k by omega,Bo (by omega),show N.js.length - 1 - k+1=N.js.length - k by omega]
   congr 1
   exact(sK.mp ep).2
  have ek:N.js.length - (k+1)+1=N.js.length - k:=by omega
  refine rh (d2:=nD p.1) (d3:=nD p.2) ?_
  show aIfS _ _ _ _ [.vl (netD N),.ow (aE (stN (cb N))),nv N.m,.vl (.tup (N.js.map L2.cj)),.vl (.tup (aE N.os)),.dk kvs,nv (N.js.length - 1 - k),nv p.1,nv p.2]
  have ht:=hka (N.m+(N.js.length - (k+1)))
  have ec:((N.m:Int)+((N.js.length - 1 - k:Nat):Int))=((N.m+(N.js.length - (k+1)):Nat):Int):=by omega
  refine ite2 (λh=>?_) λh=>?_
  ·have h':(valD kvs (.inl ((N.m:Int)+((N.js.length - 1 - k:Nat):Int)))).isSome=true:=h
   rw[ec,ht]at h'
   refine cX rfl (by rw[eJ];omega) ⟨by omega,?_⟩
   refine cX rfl (by rw[eJ];omega) ⟨?_,hM _ ⟨by omega,_,nv (N.js.length - 1 - k),nv p.1,nv p.2,rfl,?_,?_⟩⟩
   ·have:=fQ kvs (.inl (((stN (cb N)).getD p.1 0:Nat):Int)) (.bl true);omega
   ·rw[gA (by omega),gA (by omega)]
    have:=k_ (k_ hka (fst1 (cb N) p.1) (.bl true)) (fst1 (cb N) p.2) (.bl true)
    intro t
    rw[this t,ed,mh,ek,h']
    simp only[D6,Bool.or_assoc]
    rfl
   ·have h1:=fQ kvs (.inl (((stN (cb N)).getD p.1 0:Nat):Int)) (.bl true)
    have h2:=fQ (putD kvs (.inl (((stN (cb N)).getD p.1 0:Nat):Int)) (.bl true)) (.inl (((stN (cb N)).getD p.2 0:Nat):Int)) (.bl true)
    omega
  ·have h':¬(valD kvs (.inl ((N.m:Int)+((N.js.length - 1 - k:Nat):Int)))).isSome=true:=h
   rw[ec,ht]at h'
   refine hM _ ⟨by omega,kvs,nv (N.js.length - 1 - k),nv p.1,nv p.2,rfl,λt=>?_,by omega⟩
   rw[hka t,ed,mh,ek,Cm _ |>.mp h',DL,Fx]
 ·rintro _ ⟨_,kvs,s6,s7,s8,rfl,hka,hla⟩
  have e:((di 0 (N.js.map L2.cj)).reverse).length=N.js.length:=by rw[Ei,bI,lw]
  rw[e,Nat.sub_self,GG]at hka
  exact hq kvs hka
 ·rw[F3,Ir]
  exact hk0
theorem sD (dn:DefN K mg "tidied" gF ["net"])(B:BI mg)(g_first_alike:OkN P w K mg base 1 "first_alike" ["rows"] (spA K uj))(g_leant_on:OkN P w K mg base 1 "leant_on" ["net", "stands"] (spA K ug))(g_rows_of:OkN P w K mg base 3 "rows_of" ["net"] (spA K oC))(g_joining:OkN P w K mg base 1 "joining" ["one", "other"] (spA K lI)):OkN P w K mg base 4 "tidied" ["net"] (spA K STid):=by
 refine dn.aok2 (k:=3) ck (λj=>j==0) [.un,.un,.un,.un,.un,.un,.un,.un,.un,.un] STid rfl (λf cdv A outer s H E hr=>have hu:=cW hr;⟨_,(aw (dP (pv 0) (bz K (n:=3) rfl (aG (aI (i:=1) ck.nd rfl (by first | exact Or.inl rfl | exact Or.inr rfl)) (aG (aI (i:=2) ck.nd rfl (by first | exact Or.inl rfl | exact Or.inr rfl)) (aG (aI (i:=3) ck.nd rfl (by first | exact Or.inl rfl | exact Or.inr rfl)) bx)))))
  (aw (bf (i:=4) ck.nd rfl (by first | exact Or.inl rfl | exact Or.inr rfl) (bQ g_first_alike (hr.mono (by decide)) (ao (bQ g_rows_of (hr.mono (by decide)) (ao (pv 0) aD)) aD)))
  (aw (bf (i:=5) ck.nd rfl (by first | exact Or.inl rfl | exact Or.inr rfl) (bQ g_leant_on (hr.mono (by decide)) (ao (pv 0) (ao (pv 4) aD))))
  (aw (bf (i:=6) ck.nd rfl (by first | exact Or.inl rfl | exact Or.inr rfl) (cu (qL rfl) rfl B.list_ oy (ao (cu oq rfl B.range_ vM (ao (pv 1) aD)) aD)))
  (aw (bf (i:=7) ck.nd rfl (by first | exact Or.inl rfl | exact Or.inr rfl) (gM aD))
  (aw (iw Cr rfl (uQ K rfl B.enumerate_ (ao (pv 2) aD)) (bz K (n:=2) rfl (aG (aI (i:=8) ck.nd rfl (by first | exact Or.inl rfl | exact Or.inr rfl)) (aG (bz K (n:=2) rfl (aG (aI (i:=9) ck.nd rfl (by first | exact Or.inl rfl | exact Or.inr rfl)) (aG (aI (i:=10) ck.nd rfl (by first | exact Or.inl rfl | exact Or.inr rfl)) bx))) bx)))
  (aw (g9 (jq K CH C_ C9 fo (pv 6) (ao (bM eh (pv 1) (cH (fC K) rfl B.len_ mS (ao (pv 7) aD))) aD)))
  (aJ (d9 (o9 (wo hu (bM eh (pv 1) (pv 8)) (pv 5)))
  (aJ (g9 (jq K CH C_ C9 fo (pv 7) (ao (bQ g_joining (hr.mono (by decide)) (ao (dG (bH K) (pv 6) (dG (bH K) (pv 4) (pv 9) (λ_ _=>rfl)) (λ_ _=>rfl)) (ao (dG (bH K) (pv 6) (dG (bH K) (pv 4) (pv 10) (λ_ _=>rfl)) (λ_ _=>rfl)) aD))) aD))))
  bX))))
  (aJ (bg (cq (ao (pv 1) (ao (cu (c8 K) rfl B.tuple_ eV (ao (pv 7) aD)) (ao (cu (c8 K) rfl B.tuple_ eV (ao (jo ["out"] [6,4] rfl (Blk.of (ar gF) l7) (c7 K (pv 3)) (λ_ _ _ _ nd=>(aI (i:=0) nd rfl (by first | exact Or.inl rfl | exact Or.inr rfl))) (λ_ _ _ _=>dW) (λ_ _ _ _=>(dG (bH K) (pv 1) (dG (bH K) (pv 2) (pv 0) (λ_ _=>rfl)) (λ_ _=>rfl)))) aD)) aD)))))))))))),(aF (cQ af (ba (aA (az rfl) (aA (az rfl) (aA (az rfl) aY (λ_ _ _=>aO)) (λ_ _ _=>aO)) (λ_ _ _=>aO))))
  (aF (aZ (aM (aa (aM (aa af aq)) aq)) rfl)
  (aF (aZ (aM (aa af (aa af aq))) rfl)
  (aF (aZ (uA af) rfl)
  (aF (aZ (eI aq) rfl)
  (aF (fj (pin:=(λj=>j==2)) (qd (aa af aq)) (ba (aA (az rfl) (aA (ba (aA (az rfl) (aA (az rfl) aY (λ_ _ _=>aO)) (λ_ _ _=>aO))) aY (λ_ _ _=>wG)) (λ_ _ _=>aO)))
  (aF (fJ (i7 af (aa (aR cc af (dF pU (aa af aq))) aq)))
  (cP (bj (q0 (aR cc af af) af))
  (fJ (i7 af (aa (aM (aa (aR cB af (aR cB af af)) (aa (aR cB af (aR cB af af)) aq))) aq)))
  bw)))
  (aV (bL (aa af (aa (dF dE (aa af aq)) (aa (dF dE (aa (fH (cx af) (az rfl) c9 (aR cB af (aR cB af af))) aq)) aq)))))))))))⟩) ?_
 rintro ss q ⟨N,rfl,hN,hq⟩
 have Rw:=wc hN
 have hl:(cb N).length=N.m+N.js.length:=kR N
 have jl:=hN.jl
 have m12:=hN.m12
 have o24:=hN.o24
 refine⟨rfl,rfl,?_⟩
 refine cutS (λρ=>ρ=[.vl (netD N),nv N.m,.vl (.tup (N.js.map L2.cj)),.vl (.tup (aE N.os)),.un,.un,.un,.un,.un,.un,.un]) (λM hM=>hM _ rfl) ?_
 rintro _ rfl
 refine cutS (λρ=>ρ=[.vl (netD N),nv N.m,.vl (.tup (N.js.map L2.cj)),.vl (.tup (aE N.os)),.ow (aE (stN (cb N))),.un,.un,.un,.un,.un,.un]) (λM hM=>⟨rfl,N,rfl,Rw.ix,by omega,rfl,cb N,rfl,by omega,hM _ rfl⟩) ?_
 rintro _ rfl
 refine cutS (λρ=>∃kvs,ρ=[.vl (netD N),nv N.m,.vl (.tup (N.js.map L2.cj)),.vl (.tup (aE N.os)),.ow (aE (stN (cb N))),.dk kvs,.un,.un,.un,.un,.un]/\nY (iI N) kvs) (λM hM=>⟨rfl,N,rfl,hN,λkvs hk=>hM _ ⟨kvs,rfl,hk⟩⟩) ?_
 rintro _ ⟨kvs,rfl,hk⟩
 refine cutS (λρ=>ρ=[.vl (netD N),nv N.m,.vl (.tup (N.js.map L2.cj)),.vl (.tup (aE N.os)),.ow (aE (stN (cb N))),.dk kvs,.ow (aE (zn N.m)),.un,.un,.un,.un]) (λM hM=>⟨⟨by omega,by omega⟩,hM _ (by rw[B4];rfl)⟩) ?_
 rintro _ rfl
 refine cutS (λρ=>ρ=[.vl (netD N),nv N.m,.vl (.tup (N.js.map L2.cj)),.vl (.tup (aE N.os)),.ow (aE (stN (cb N))),.dk kvs,.ow (aE (zn N.m)),.ow [],.un,.un,.un]) (λM hM=>⟨by simp,hM _ rfl⟩) ?_
 rintro _ rfl
 refine cutS (λρ=>∃s8 s9 s10,ρ=[.vl (netD N),nv N.m,.vl (.tup (N.js.map L2.cj)),.vl (.tup (aE N.os)),.ow (aE (stN (cb N))),.dk kvs,.ow (aE ((zn (N.m+N.js.length)).map (nT N))),.ow ((tidN N).js.map L2.cj),s8,s9,s10]) (λM hM=>?_) ?_
 ·refine dS (λk ρ=>k<=N.js.length/\∃s8 s9 s10,ρ=[.vl (netD N),nv N.m,.vl (.tup (N.js.map L2.cj)),.vl (.tup (aE N.os)),.ow (aE (stN (cb N))),.dk kvs,.ow (aE ((zn (N.m+k)).map (nT N))),.ow ((jV N.m (fT N) (iI N) N.js k).map L2.cj),s8,s9,s10]) (λ_ _ _ _=>trivial) ?_ ?_ _ ⟨Bl _,.un,.un,.un,?_⟩
  ·rintro k d _ M2 hk' ⟨_,s8,s9,s10,rfl⟩ hM2
   obtain⟨x,ex,rfl⟩:=cF hk'
   rw[wP]at ex
   obtain⟨p,ep,rfl⟩:=Bb.mp ex
   obtain⟨a1,a2,a3⟩:=xW Rw ep
   obtain⟨f1,f2⟩:=f_lt Rw ep
   rw[Cb]
   have enk:nT N (N.m+k)=N.m+nkT N.m (iI N) k:=by unfold nT nbT;rw[if_neg (by omega)];congr 2;omega
   have ers:(zn (N.m+(k+1))).map (nT N)=(zn (N.m+k)).map (nT N)++[nT N (N.m+k)]:=by
    rw[<- Jq,CL,Br];rfl
   have eln:(N.m:Int)+(((jV N.m (fT N) (iI N) N.js k).map L2.cj).length:Int)=((nT N (N.m+k):Nat):Int):=by
    rw[lw,pJ,enk];omega
   have ejs:N.js.getD k (0,0)=p:=by rw[wS,ep];rfl
   have nkl:=Av (m:=N.m) (L:=iI N) k
   refine rh (d2:=nD p.1) (d3:=nD p.2) ?_
   show aSeq _ _ _ [.vl (netD N),nv N.m,.vl (.tup (N.js.map L2.cj)),.vl (.tup (aE N.os)),.ow (aE (stN (cb N))),.dk kvs,.ow (aE ((zn (N.m+k)).map (nT N))),.ow ((jV N.m (fT N) (iI N) N.js k).map L2.cj),nv k,nv p.1,nv p.2]
   refine cutS (λρ=>ρ=[.vl (netD N),nv N.m,.vl (.tup (N.js.map L2.cj)),.vl (.tup (aE N.os)),.ow (aE (stN (cb N))),.dk kvs,.ow (aE ((zn (N.m+(k+1))).map (nT N))),.ow ((jV N.m (fT N) (iI N) N.js k).map L2.cj),nv k,nv p.1,nv p.2]) (λM3 hM3=>⟨?_,hM3 _ ?_⟩) ?_
   ·rw[eB,lw,Cy];omega
   ·rw[ers,dD,show nD (nT N (N.m+k))=D.int ((N.m:Int)+(((jV N.m (fT N) (iI N) N.js k).map L2.cj).length:Int))from congrArg D.int eln.symm];rfl
   rintro _ rfl
   have ec:((N.m:Int)+(k:Int))=((N.m+k:Nat):Int):=by omega
   have ht:=hk (N.m+k)
   have gat:∀t,t<N.m+k->((zn (N.m+(k+1))).map (nT N)).getD t 0=nT N t:=λt h=>by
    rw[n5 (by simp;omega)];simp
   have glen:((zn (N.m+(k+1))).map (nT N)).length=N.m+(k+1):=by simp
   refine ite2 (λh=>?_) λh=>?_
   ·have h':(valD kvs (.inl ((N.m:Int)+(k:Int)))).isSome=true:=h
    rw[ec,ht]at h'
    refine cX rfl (by rw[eJ];omega) ?_
    refine cX rfl (by rw[gA (by omega),glen];show fT N p.1<_;omega) ?_
    refine cX rfl (by rw[eJ];omega) ?_
    refine cX rfl (by rw[gA (by omega),glen];show fT N p.2<_;omega) ?_
    refine⟨rfl,_,_,rfl,by rw[lw,pJ];omega,hM2 _ ⟨by omega,nv k,nv p.1,nv p.2,?_⟩⟩
    rw[gA (by omega),gA (by omega)]
    have g1:=gat (fst1 (cb N) p.1) f1
    have g2:=gat (fst1 (cb N) p.2) f2
    rw[g1,g2,jD,if_pos h',ejs,Br]
    rfl
   ·have h':¬(valD kvs (.inl ((N.m:Int)+(k:Int)))).isSome=true:=h
    rw[ec,ht]at h'
    refine hM2 _ ⟨by omega,nv k,nv p.1,nv p.2,?_⟩
    rw[jD,if_neg h',Bn]
  ·rintro _ ⟨_,s8,s9,s10,rfl⟩
   have e:(di 0 (N.js.map L2.cj)).length=N.js.length:=by rw[bI,lw]
   rw[e]
   exact hM _ ⟨s8,s9,s10,rfl⟩
  ·have e:(zn (N.m+0)).map (nT N)=zn N.m:=by
    refine List.ext_getElem (by simp) λi h1 h2=>?_
    have h3:i<N.m:=by simpa using h2
    simp[nbT,h3]
   rw[e];rfl
 rintro _ ⟨s8,s9,s10,rfl⟩
 refine⟨by rw[eB];omega,?_⟩
 refine mJ nD (λo=>nD (nT N (fT N o))) trivial (λo acc M ho hM=>?_) ?_
 ·have h1:=hN.os o ho
  have h2:=yc (N:=N) (t:=o) h1
  refine cX rfl (by rw[eJ];omega) ?_
  refine cX rfl (by rw[gA (by omega)];simp;show fT N o<_;omega) ?_
  rw[gA (by omega)]
  have:((zn (N.m+N.js.length)).map (nT N)).getD (fst1 (cb N) o) 0=nT N (fT N o):=by
   rw[n5 (by simp;show fT N o<_;omega)];simp[fT]
  rw[this]
  exact hM
 have e:(N.os.map λo=>nD (nT N (fT N o)))=aE (tidN N).os:=by
  show _=aE (N.os.map _)
  unfold aE;rw[BF];rfl
 rw[e]
 exact⟨by simp,hq⟩
theorem iE (dn:DefN K mg "first_joining" cp ["things", "row", "clean"])(B:BI mg)(g_may_join:OkN P w K mg base 1 "may_join" ["clean", "one", "other"] (spA K SMay))(g_joined:OkN P w K mg base 1 "joined" ["one", "other"] (spA K iq)):OkN P w K mg base 2 "first_joining" ["things", "row", "clean"] (spA K SFj):=by
 refine dn.aok2 (k:=1) eZ (λj=>j==0||j==1||j==2) [.un] SFj rfl (λf cdv A outer s H E hr=>have hu:=cW hr;⟨_,(aw (kY (i:=3) ["a", "one", "b", "other"] [0,1,2] eZ.nd rfl (by first | exact Or.inl rfl | exact Or.inr rfl) rfl (Blk.of (ar cp) e7) (g_ K rfl B.enumerate_ (ao (pv 0) aD)) (λ_ _ _ _ nd=>(bz K (n:=2) rfl (aG (aI (i:=2) nd rfl (by first | exact Or.inl rfl | exact Or.inr rfl)) (aG (aI (i:=3) nd rfl (by first | exact Or.inl rfl | exact Or.inr rfl)) bx)))) (λ_ _ _ _=>dW) (λ_ _ _ _=>(g_ K rfl B.enumerate_ (ao (gK (gC K) (pv 4) jk (jj (pv 2))) aD))) (λ_ _ _ _ nd=>(bz K (n:=2) rfl (aG (aI (i:=0) nd rfl (by first | exact Or.inl rfl | exact Or.inr rfl)) (aG (aI (i:=1) nd rfl (by first | exact Or.inl rfl | exact Or.inr rfl)) bx)))) (λ_ _ _ _=>(gb (PW.pt (o7 (bR (lX K hr.units) (bQ g_joined (hr.mono (by decide)) (ao (pv 1) (ao (pv 3) aD))) (pv 5) (bU _)) (kT (iu (bQ g_may_join (hr.mono (by decide)) (ao (pv 6) (ao (pv 1) (ao (pv 3) aD)))))))))) (λ_ _ _ _=>(cq (ao (pv 0) (ao (pv 2) aD)))))
  (aJ (bg (dG (bH K) (pv 3) aN (λ_ _=>rfl))))),(aF (ja (i0 (n2:=2) (d0 (aa af aq)) (ba (aA (az rfl) (aA (az rfl) aY (λ_ _ _=>aO)) (λ_ _ _=>aO))) c9 (d0 (aa (kJ af kI (gy af)) aq)) (ba (aA (az rfl) (aA (az rfl) aY (λ_ _ _=>aO)) (λ_ _ _=>aO))) (kH (bj (aR lY (aM (aa af (aa af aq))) af)) (gx (aM (aa af (aa af (aa af aq)))))) (bL (aa af (aa af aq)))) rfl)
  (aV (aR cB af aK)))⟩) ?_
 rintro ss q ⟨K,r,cl,rfl,hl,hne,hq⟩
 refine⟨rfl,rfl,?_⟩
 have pre:∀i,i<=K.length->(canN cl K r i).length<=63*63:=λi hi=>by have:=pX cl K r i (by omega);omega
 refine cutS (λρ=>ρ=[.vl (.lst (aE K)),nv r,.vl (.bl cl),.ow ((canN cl K r K.length).map L2.cj)]) (λM hM=>?_) ?_
 ·refine mI (λi acc ρ=>acc=(canN cl K r i).map L2.cj/\i<=K.length/\ρ=[.vl (.lst (aE K)),nv r,.vl (.bl cl),.un]) (λi acc ρ _ h=>⟨trivial,by rw[h.1,lw];exact A_ (pre i h.2.1) (by decide)⟩) ?_ ?_ _ ⟨rfl,Bl _,rfl⟩
  ·rintro i d acc _ N hd ⟨rfl,hil,rfl⟩ hN
   obtain⟨x,hx,rfl⟩:=cF hd
   rw[aE,wP]at hx
   obtain⟨b,hb,rfl⟩:=Bb.mp hx
   have hi:=(sK.mp hb).1
   have eb:K.getD i 0=b:=by rw[wS,hb];rfl
   rw[Cb]
   have ec:di 0 (cutD (aE K) none (some ((i:Nat):Int)))=(zn i).map λa=>.tup [nD a,nD (K.getD a 0)]:=by
    rw[ft,<- kq K (BZ hi)];unfold aE;rw[EL]
   show fU 2 (λ_=>True) _ _ _ _ (di 0 (cutD (aE K) none (some ((i:Nat):Int)))) _ [.un,.un,.vl (.int (i:Int)),.vl (.int (b:Int)),.vl (.lst (aE K)),nv r,.vl (.bl cl)]
   rw[ec]
   refine fu (λa=>.tup [nD a,nD (K.getD a 0)]) (λa=>decide (K.getD a 0 ^^^ b=r)&&mayN cl (K.getD a 0) b) (λa=>L2.cj (a,i)) trivial (by rw[lw,Cy];have:=pre i hil;omega) (λa acc N2 ha hN2=>?_) ?_
   ·refine gaT2 ?_
    refine⟨rfl,_,_,rfl,?_⟩
    refine iA (b:=decide (K.getD a 0 ^^^ b=r)) rfl rfl (show D.depth (.int _)<=60 by simp[D.depth]) (by
     show decide (((K.getD a 0 ^^^ b:Nat):Int)=(r:Int))=_
     rw[decide_eq_decide];omega) ?_
    by_cases h:K.getD a 0 ^^^ b=r
    ·rw[decide_eq_true h,D6]at hN2
     show if decide (K.getD a 0 ^^^ b=r)=true then _ else _
     rw[if_pos (decide_eq_true h)]
     refine⟨rfl,cl,K.getD a 0,b,rfl,?_⟩
     cases hb:mayN cl (K.getD a 0) b with
     | true=>rw[hb]at hN2;exact⟨by simp,hN2⟩
     | false=>rw[hb]at hN2;exact hN2
    ·rw[decide_eq_false h,DL]at hN2
     show if decide (K.getD a 0 ^^^ b=r)=true then _ else _
     rw[if_neg (by rw[decide_eq_true_eq];exact h)]
     exact hN2
   refine hN _ _ ⟨?_,by omega,rfl⟩
   rw[mL,Br,BF,eb]
   rfl
  ·rintro acc _ ⟨rfl,_,rfl⟩
   have el:(di 0 (aE K)).length=K.length:=by rw[bI,cV]
   rw[el]
   exact hM _ rfl
 rintro _ rfl
 have hat:atI ((canN cl K r K.length).map L2.cj) 0=some (L2.cj (fjN cl K r)):=fE (j:=0) (by
  unfold fjN
  rw[wP,wS,im (Ej.mpr hne)];rfl)
 exact tE rfl hat hq
theorem jQ (dn:DefN K mg "net_of_rows" cy ["wish", "clean", "known"])(B:BI mg)(g_tidied:OkN P w K mg base 4 "tidied" ["net"] (spA K STid))(g_first_joining:OkN P w K mg base 2 "first_joining" ["things", "row", "clean"] (spA K SFj)):OkN P w K mg base 5 "net_of_rows" ["wish", "clean", "known"] (spA K yA):=by
 refine dn.aok2 (k:=4) c_ (λj=>j==0||j==1||j==2) [.un,.un,.un] yA rfl (λf cdv A outer s H E hr=>have hu:=cW hr;⟨_,(aw (dP (pv 0) (bz K (n:=2) rfl (aG (aI (i:=3) c_.nd rfl (by first | exact Or.inl rfl | exact Or.inr rfl)) (aG (aI (i:=4) c_.nd rfl (by first | exact Or.inl rfl | exact Or.inr rfl)) bx))))
  (aw (xy (i:=5) ["at", "row"] [2,1,3] c_.nd rfl (by first | exact Or.inl rfl | exact Or.inr rfl) rfl (Blk.of (ar cy) dY) (g_ K rfl B.enumerate_ (ao (pv 2) aD)) (λ_ _ _ _ nd=>(bz K (n:=2) rfl (aG (aI (i:=0) nd rfl (by first | exact Or.inl rfl | exact Or.inr rfl)) (aG (aI (i:=1) nd rfl (by first | exact Or.inl rfl | exact Or.inr rfl)) bx)))) (λ_ _ _ _=>(gb (bR zp (pv 0) (pv 4) (bU _)))) (λ_ _ _ _=>(bQ g_first_joining (hr.mono (by decide)) (ao (gK (gC K) (pv 2) jk (jj (pv 0))) (ao (pv 1) (ao (pv 3) aD))))))
  (aJ (bg (bQ g_tidied (hr.mono (by decide)) (ao (cq (ao (pv 3) (ao (cu (c8 K) rfl B.tuple_ eV (ao (pv 5) aD)) (ao (cu (c8 K) rfl B.tuple_ eV (ao (jo ["row"] [2] rfl (Blk.of (ar cy) dY) (c7 K (pv 4)) (λ_ _ _ _ nd=>(aI (i:=0) nd rfl (by first | exact Or.inl rfl | exact Or.inr rfl))) (λ_ _ _ _=>dW) (λ_ _ _ _=>(jq K CH GB PySem.F.type_list_index (vb K) (pv 1) (ao (pv 0) aD)))) aD)) aD)))) aD)))))),(aF (cQ af (ba (aA (az rfl) (aA (az rfl) aY (λ_ _ _=>aO)) (λ_ _ _=>aO))))
  (aF (uG (fH (d0 (aa af aq)) (ba (aA (az rfl) (aA (az rfl) aY (λ_ _ _=>aO)) (λ_ _ _=>aO))) (bj (aR cK af af)) (aM (aa (kJ af kI (gy af)) (aa af (aa af aq))))) rfl)
  (aV (aM (aa (bL (aa af (aa (dF dE (aa af aq)) (aa (dF dE (aa (fH (cx af) (az rfl) c9 (w_ af (aa af aq))) aq)) aq)))) aq)))))⟩) ?_
 rintro ss q ⟨m,cl,L,W,rfl,hF,hq⟩
 have hFl:=hF.l
 refine⟨rfl,rfl,?_⟩
 refine cutS (λρ=>ρ=[.vl (bK m W),.vl (.bl cl),.vl (.lst (aE L)),nv m,.vl (.tup (aE W)),.un]) (λM hM=>hM _ rfl) ?_
 rintro _ rfl
 refine cutS (λρ=>ρ=[.vl (bK m W),.vl (.bl cl),.vl (.lst (aE L)),nv m,.vl (.tup (aE W)),.ow ((gh m cl L W).js.map L2.cj)]) (λM hM=>?_) ?_
 ·refine⟨by rw[bI,cV];omega,?_⟩
  have ee:di 0 (aE L)=(zn L.length).map λa=>.tup [nD a,nD (L.getD a 0)]:=by
   have:=kq L (wl _)
   rwa [Cj]at this
  rw[ee]
  refine mK (λa=>.tup [nD a,nD (L.getD a 0)]) (λa=>decide (m<=a)) (λa=>L2.cj (fjN cl (L.take a) (L.getD a 0))) trivial (λa acc N ha hN=>?_) ?_
  ·have go:decide (((m:Nat):Int)<=((a:Nat):Int))=decide (m<=a):=by rw[decide_eq_decide];omega
   show if decide (((m:Nat):Int)<=((a:Nat):Int))=true then _ else _
   rw[go]
   by_cases h:m<=a
   ·rw[if_pos (decide_eq_true h)]
    rw[if_pos (decide_eq_true h)]at hN
    have ec:cutD (aE L) none (some ((a:Nat):Int))=aE (L.take a):=by rw[ft];unfold aE;rw[EL]
    refine⟨rfl,L.take a,L.getD a 0,cl,by rw[<- ec];rfl,by rw[Bz];omega,t7 (hF.nx a h (Bv.mp ha)),hN⟩
   ·rw[if_neg (by rw[decide_eq_true_eq];exact h)]
    rw[if_neg (by rw[decide_eq_true_eq];exact h)]at hN
    exact hN
  ·rw[pQ,BF]
   have e2:(gh m cl L W).js.map L2.cj=(zn (L.length - m)).map ((λa=>L2.cj (fjN cl (L.take a) (L.getD a 0))) ∘ (m + ·)):=by
    unfold gh
    rw[BF];rfl
   rw[<- e2]
   exact hM _ rfl
 rintro _ rfl
 have hW:=hF.w24
 refine⟨by rw[cV];omega,?_⟩
 refine mJ nD (λr=>nD (L.idxOf r)) trivial (λr acc N hr hN=>?_) ?_
 ·have e1:aE L=(L.map λx=>((x:Nat):Int)).map D.int:=by unfold aE;rw[BF];rfl
  have hi:=Gy (hF.w r hr)
  have gi:∀ {q:Nat->Prop},q (L.idxOf r)->gIdx (aE L) ((r:Nat):Int) q:=λ{q} hq=>by
   rw[e1]
   refine x8 (j:=L.idxOf r) ?_ (by omega) (λk hk z=>?_) hq
   ·rw[wP,im hi,HX];rfl
   ·rw[wP,im (show k<L.length by omega)]at z
    injection z with z
    have z:=Js.mp z
    exact wC hk (by rw[im (show k<L.length by omega),z])
  exact gi ⟨rfl,hN⟩
 ·refine⟨show 3<=1000000 by decide,?_⟩
  have eo:(W.map λr=>nD (L.idxOf r))=aE (W.map L.idxOf):=by unfold aE;rw[BF];rfl
  rw[eo]
  exact⟨rfl,gh m cl L W,rfl,sL hF,hq⟩
end
theorem tm {f:Nat->List Nat->List Nat ⊕ D}{sh t:List Nat}:∀ {rest done:List Nat} {acc:List D},goN f sh done rest acc = .inl t->∃r∈rest,∃s,f r s = .inl t
 | [],done,acc,h=>by cases h
 | r::rest,done,acc,h=>by
  unfold goN at h
  cases e:f r (sh++done)with
  | inl u =>
   rw[e]at h
   exact⟨r,Bj,_,e.trans h⟩
  | inr p =>
   rw[e]at h
   obtain⟨r',h1,h2⟩:=tm h
   exact⟨r',Be _ h1,h2⟩
theorem tj {f:Nat->List Nat->List Nat ⊕ D}{sh:List Nat}{p:D}:∀ {rest done:List Nat} {acc:List D},goN f sh done rest acc = .inr p->∃ps,p = .tup [.str "next",.tup (acc++ps)]/\ps.length=rest.length/\∀i,i<rest.length->f (rest.getD i 0) (sh++(done++rest.take i)) = .inr (ps.getD i .non)
 | [],done,acc,h=>by
  injection h with h
  exact⟨[],by rw[Bn];exact h.symm,rfl,λi hi=>absurd hi (Gx i)⟩
 | r::rest,done,acc,h=>by
  unfold goN at h
  cases e:f r (sh++done)with
  | inl u=>rw[e]at h;cases h
  | inr d =>
   rw[e]at h
   obtain⟨ps,h1,h2,h3⟩:=tj h
   refine⟨d::ps,by rw[h1,BK];rfl,by rw[A6,h2];rfl,λi hi=>?_⟩
   cases i with
   | zero =>
    show f r (sh++(done++[]))=_
    rw[Bn];exact e
   | succ i =>
    have:=h3 i (by rw[A6]at hi;omega)
    rw[BK]at this
    exact this
theorem xP {r:Nat}{x:List Nat ⊕ D}{t:List Nat}(h:mkM r x = .inl t):x = .inl t:=by
 cases x with
 | inl u=>exact h
 | inr p=>cases h
theorem xO {r:Nat}{x:List Nat ⊕ D}{d:D}(h:mkM r x = .inr d):∃p,x = .inr p/\d = .tup [.str "made",nD r,p]:=by
 cases x with
 | inl u=>cases h
 | inr p=>injection h with h;exact⟨p,rfl,h.symm⟩
theorem k9 {W K:List Nat}(hw:∀r∈W,1<=r/\r<64):bB W K=[]↔∀r∈W,r∈K:=by
 rw[List.eq_nil_iff_forall_not_mem]
 constructor
 ·intro h r hr
  exact F9 λz=>h r ((dM hw).mpr ⟨hr,z⟩)
 ·intro h r hr
  obtain⟨a,b⟩:=(dM hw).mp hr
  exact b (h r a)
structure Ext (cl:Bool)(kn t:List Nat):Prop where
 nd:(kn++t).Nodup
 nx:∀i,i<t.length->eR cl (kn++t.take i) (t.getD i 0)=true
theorem Ext.nil {cl:Bool}{kn:List Nat}(h:kn.Nodup):Ext cl kn []:=⟨by rw[Bn];exact h,λi hi=>absurd hi (Gx i)⟩
theorem Ext.cons {cl:Bool}{kn t:List Nat}{r:Nat}(h:eR cl kn r=true)(e:Ext cl (kn++[r]) t):Ext cl kn (r::t):=by
 refine⟨by have:=e.nd;rwa [BK]at this,λi hi=>?_⟩
 cases i with
 | zero=>show eR cl (kn++[]) r=true;rw[Bn];exact h
 | succ i =>
  have:=e.nx i (by rw[A6]at hi;omega)
  rw[BK]at this
  exact this
theorem Ext.uncons {cl:Bool}{kn t:List Nat}{r:Nat}(e:Ext cl kn (r::t)):eR cl kn r=true/\r∉kn/\Ext cl (kn++[r]) t:=by
 have h0:=e.nx 0 (by simp)
 rw[IU,Bn]at h0
 have nd:=e.nd
 refine⟨h0,λz=>?_,?_,λi hi=>?_⟩
 ·exact(Dn.mp nd).2.2 r z r Bj rfl
 ·rwa [BK]
 ·have:=e.nx (i+1) (by rw[A6];omega)
  rw[BK]
  exact this
theorem kO {kn:List Nat}{r:Nat}(hk:∀r∈kn,1<=r/\r<64)(h:1<=r/\r<64):∀x∈kn++[r],1<=x/\x<64:=λx hx=>(Bq.mp hx).elim (hk x) λz=>by rw[wE.mp z];exact h
theorem xk {kn:List Nat}{r:Nat}(nd:kn.Nodup)(h:r∉kn):(kn++[r]).Nodup:=Dn.mpr ⟨nd,by simp,λa ha b hb e=>h (by rw[wE.mp hb]at e;exact e▸ha)⟩
theorem wa {W:List Nat}{cl:Bool}(hw:∀r∈W,1<=r/\r<64):∀ {lf:Nat} {kn sh L:List Nat},(∀r∈kn,1<=r/\r<64)->kn.Nodup->srN W cl lf kn sh = .inl L->∃t,L=kn++t/\t.length<=lf/\Ext cl kn t/\∀r∈W,r∈L
 | 0,kn,sh,L,hk,nd,h=>by
  unfold srN at h
  split at h
  ·rename_i h0
   injection h with h
   subst h
   exact⟨[],(Bn _).symm,wl _,.nil nd,(k9 hw).mp h0⟩
  ·cases h
 | l+1,kn,sh,L,hk,nd,h=>by
  have step:∀r s,eR cl kn r=true->r∉kn->srN W cl l (kn++[r]) s = .inl L->∃t,L=kn++t/\t.length<=l+1/\Ext cl kn t/\∀r∈W,r∈L:=λr s h1 h2 h3=>by
   obtain⟨t,e,hl,ex,hW⟩:=wa hw (kO hk (dJ hk h1)) (xk nd h2) h3
   exact⟨r::t,by rw[e,BK];rfl,by rw[A6];omega,ex.cons h1,hW⟩
  unfold srN at h
  split at h
  ·rename_i h0
   injection h with h
   subst h
   exact⟨[],(Bn _).symm,Bl _,.nil nd,(k9 hw).mp h0⟩
  split at h
  ·cases h
  split at h
  ·cases h
  split at h
  ·rename_i r e
   have hr:=Gm e
   have hr:=(cv hk).mp (A5.mp hr)
   exact step r sh hr.1 hr.2.1 (xP h)
  ·obtain⟨r,hr,s,e⟩:=tm h
   have hr:=(cv hk).mp hr
   exact step r s hr.1 hr.2.1 e
theorem rF {W:List Nat}{cl:Bool}:∀ {lf:Nat} {kn sh:List Nat} {p:D},(∀r∈kn,1<=r/\r<64)->srN W cl lf kn sh = .inr p->Pap W cl lf kn sh p
 | 0,kn,sh,p,hk,h=>by
  unfold srN at h
  split at h
  ·cases h
  ·rename_i h0
   injection h with h
   unfold Pap
   exact .inl ⟨h.symm,Ej.mpr h0⟩
 | l+1,kn,sh,p,hk,h=>by
  unfold srN at h
  unfold Pap
  split at h
  ·cases h
  rename_i h0
  split at h
  ·rename_i h1
   injection h with h
   exact .inl ⟨h.symm,h1⟩
  split at h
  ·rename_i r e
   injection h with h
   exact .inr (.inl ⟨r,h.symm,GN e,Gm (p:=λr=>farN cl kn (l+1) r) e⟩)
  split at h
  ·rename_i r e
   have hr:=A5.mp (Gm e)
   have hf:=(cv hk).mp hr
   obtain⟨d,e1,rfl⟩:=xO h
   exact .inr (.inr (.inl ⟨r,d,rfl,GN e,hr,rF (kO hk (dJ hk hf.1)) e1⟩))
  ·obtain⟨ps,rfl,h2,h3⟩:=tj h
   refine .inr (.inr (.inr ⟨ps,rfl,h0,h2,λi hi=>?_⟩))
   have hr:(bY cl kn sh).getD i 0∈bY cl kn sh:=iU (by omega)
   have hf:=(cv hk).mp hr
   exact rF (kO hk (dJ hk hf.1)) (h3 i (by omega))
theorem jy {cl:Bool}{K K':List Nat}{r:Nat}(h:∀x∈K,x∈K')(n:eR cl K r=true):eR cl K' r=true:=by
 obtain⟨a,ha,b,hb,z⟩:=eA.mp n
 exact eA.mpr ⟨a,h a ha,b,h b hb,z⟩
theorem Ext.perm {cl:Bool}{kn kn' t:List Nat}(p:kn.Perm kn')(e:Ext cl kn t):Ext cl kn' t :=
 ⟨(p.append_right t).nodup_iff.mp e.nd,λi hi=>jy (λx hx=>(p.append_right _).mem_iff.mp hx) (e.nx i hi)⟩
theorem Ext.front {cl:Bool}{r:Nat}:∀ {t kn:List Nat},Ext cl kn t->r∈t->eR cl kn r=true->Ext cl (kn++[r]) (t.erase r)
 | [],kn,e,h,n=>by cases h
 | x::t,kn,e,h,n=>by
  obtain⟨h1,h2,h3⟩:=e.uncons
  by_cases hx:x=r
  ·subst hx
   rw[List.erase_cons_head];exact h3
  ·rw[List.erase_cons_tail (by simpa using hx)]
   have hr:r∈t:=(wn.mp h).resolve_left λz=>hx z.symm
   have:=Ext.front h3 hr (jy (λx hx=>Bu _ hx) n)
   refine Ext.cons (jy (λx hx=>Bu _ hx) h1) (this.perm ?_)
   rw[BK,BK]
   exact GH kn (List.Perm.swap r x [])
def xorL (l:List Nat):Nat:=l.foldr (· ^^^ ·) 0
structure Lst (cl:Bool)(K l:List Nat)(x:Nat):Prop where
 k:∀p∈l,p∈K
 d:cl=true->l.Pairwise λa b=>a &&& b=0
 x:xorL l=x
theorem eX {a b:Nat}:a &&& b=0↔∀i,a.testBit i=true->b.testBit i=false:=by
 constructor
 ·intro h i ha
  have:=congrArg (λz=>z.testBit i) h
  simp only[Eh,Gh,ha,D6]at this
  exact this
 ·intro h
  apply Fl
  intro i
  rw[Eh,Gh]
  cases ha:a.testBit i with
  | false=>rfl
  | true=>rw[h i ha];rfl
theorem oG {p:Nat}:∀ {l:List Nat},(∀q∈l,q &&& p=0)->xorL l &&& p=0
 | [],_=>Nat.zero_and p
 | q::l,h=>by
  have h1:=eX.mp (h q Bj)
  have h2:=eX.mp (oG (p:=p) λq hq=>h q (Be _ hq))
  refine eX.mpr λi hi=>?_
  show p.testBit i=false
  have hi:(q ^^^ xorL l).testBit i=true:=hi
  rw[DB]at hi
  cases hq:q.testBit i with
  | true=>exact h1 i hq
  | false=>rw[hq,Bool.false_xor]at hi;exact h2 i hi
theorem sN {cl:Bool}{K:List Nat}:∀ {l:List Nat} {x:Nat},Lst cl K l x->Rch cl K l.length x
 | [],x,L=>by rw[<- L.x];exact .nil
 | p::l,x,L=>by
  have ih:Rch cl K l.length (xorL l):=sN ⟨λq hq=>L.k q (Be _ hq),λhc=>(CC.mp (L.d hc)).2,rfl⟩
  have hx:x=xorL l ^^^ p:=by
   rw[<- L.x,Ex];rfl
  rw[hx]
  refine .add ih (L.k p Bj) ?_
  unfold mayN
  cases cl with
  | false=>rfl
  | true =>
   have:=oG (p:=p) λq hq=>by rw[Hm];exact(CC.mp (L.d rfl)).1 q hq
   simp[this]
theorem oF {r:Nat}:∀l:List Nat,∃b:Bool,xorL l=xorL (l.filter (· != r)) ^^^ (if b=true then r else 0)/\(b=true->r∈l/\(l.filter (· != r)).length+1<=l.length)
 | []=>⟨false,by simp[xorL],λh=>by cases h⟩
 | y::l=>by
  obtain⟨b,h1,h2⟩:=oF (r:=r) l
  by_cases e:y=r
  ·subst e
   refine⟨!b,?_,λ_=>⟨Bj,?_⟩⟩
   ·rw[EU (by simp)]
    show y ^^^ xorL l=_
    rw[h1]
    cases b with
    | false =>
     simp only[Bool.not_false,if_true]
     rw[if_neg (by decide),E5,Ex]
    | true =>
     simp only[Bool.not_true,if_true]
     rw[if_neg (by decide),E5,Ex,Fz,JG,E5]
   ·rw[EU (by simp),A6]
    have:=C1 (· != y) l
    omega
  ·refine⟨b,?_,λhb=>⟨Be _ (h2 hb).1,?_⟩⟩
   ·rw[ET (by simpa using e)]
    show y ^^^ xorL l=(y ^^^ xorL _) ^^^ _
    rw[h1,Fz]
   ·rw[ET (by simpa using e),A6,A6]
    have:=(h2 hb).2
    omega
theorem An {l:List Nat}(h:l.Pairwise λa b=>a &&& b=0){a b:Nat}(ha:a∈l)(hb:b∈l)(ne:a≠b):a &&& b=0:=by
 obtain⟨i,hi,rfl⟩:=CO ha
 obtain⟨j,hj,rfl⟩:=CO hb
 rcases CK i j with q | q | q
 ·exact C5.mp h i j hi hj q
 ·subst q;exact absurd rfl ne
 ·rw[Hm];exact C5.mp h j i hj hi q
theorem tN {cl:Bool}:∀ {t kn:List Nat} {x:Nat},Ext cl kn t->x∈kn++t->∃l,l.length<=t.length+1/\Lst cl kn l x
 | [],kn,x,e,hx=>by
  rw[Bn]at hx
  exact⟨[x],wl _,⟨λp hp=>(by rw[wE.mp hp];exact hx),λ_=>(by simp),(by simp[xorL])⟩⟩
 | r::t,kn,x,e,hx=>by
  obtain⟨h1,h2,h3⟩:=e.uncons
  obtain⟨l,hl,L⟩:=tN (x:=x) h3 (by rwa [BK])
  obtain⟨a,ha,b,hb,ne,hm,hr⟩:=eA.mp h1
  obtain⟨o,ho,hz⟩:=oF (r:=r) l
  have hk:∀p∈l.filter (· != r),p∈kn:=λp hp=>by
   obtain⟨p1,p2⟩:=Bm.mp hp
   rcases Bq.mp (L.k p p1)with q | q
   ·exact q
   ·rw[wE.mp q]at p2
    simp at p2
  have hd:cl=true->(l.filter (· != r)).Pairwise λa b=>a &&& b=0:=λhc=>(L.d hc).filter _
  have hle:=C1 (· != r) l
  cases o with
  | false =>
   refine⟨_,?_,⟨hk,hd,?_⟩⟩
   ·rw[A6];omega
   ·rw[<- L.x,ho,if_neg (by decide),E5]
  | true =>
   obtain⟨z1,z2⟩:=hz rfl
   refine⟨a::b::l.filter (· != r),?_,⟨λp hp=>?_,λhc=>?_,?_⟩⟩
   ·rw[A6,A6,A6];omega
   ·rcases wn.mp hp with rfl | hp
    ·exact ha
    rcases wn.mp hp with rfl | hp
    ·exact hb
    ·exact hk p hp
   ·have hab:a &&& b=0:=by
     unfold mayN at hm
     rw[hc]at hm
     simpa using hm
    have hab':=eX.mp hab
    have hq:∀q∈l.filter (· != r),a &&& q=0/\b &&& q=0:=λq hq=>by
     obtain⟨q1,q2⟩:=Bm.mp hq
     have:=eX.mp (An (L.d hc) z1 q1 λz=>by rw[<- z]at q2;simp at q2)
     rw[<- hr]at this
     refine⟨eX.mpr λi hi=>this i ?_,eX.mpr λi hi=>this i ?_⟩
     ·rw[DB,hi,hab' i hi];rfl
     ·rw[DB,hi]
      cases z:a.testBit i with
      | false=>rfl
      | true=>rw[hab' i z]at hi;cases hi
    refine CC.mpr ⟨λq hq'=>?_,CC.mpr ⟨λq hq'=>(hq q hq').2,hd hc⟩⟩
    rcases wn.mp hq' with rfl | hq'
    ·exact hab
    ·exact(hq q hq').1
   ·show a ^^^ (b ^^^ xorL _)=x
    rw[<- L.x,ho,if_pos rfl,<- Fz,hr,Ex]
theorem wI {cl:Bool}{t kn:List Nat}{r l:Nat}(e:Ext cl kn t)(hl:t.length<=l)(hr:r∈kn++t):farN cl kn l r=false:=by
 obtain⟨s,hs,L⟩:=tN e hr
 refine AB pR λh=>h ⟨s.length,by omega,sN L⟩
theorem sj {W:List Nat}{cl:Bool}(hw:∀r∈W,1<=r/\r<64):∀ {lf:Nat} {kn sh:List Nat} {p:D} {t:List Nat},(∀r∈kn,1<=r/\r<64)->Pap W cl lf kn sh p->Ext cl kn t->t.length<=lf->(∀x∈t,x∉sh)->(∀r∈W,r∈kn++t)->False:=by
 have rows:∀ {lf:Nat} {kn t:List Nat},lf<(bB W kn).length->t.length<=lf->(∀r∈W,r∈kn++t)->False:=λ{lf kn t} h1 h2 h3=>by
  have:=CA ((vj W kn).imp λh=>by omega) (l₂:=t) λx hx=>by
   obtain⟨a,b⟩:=(dM hw).mp hx
   exact(Bq.mp (h3 x a)).resolve_left b
  omega
 intro lf
 induction lf with
 | zero =>
  intro kn sh p t hk hp e hl hs hW
  unfold Pap at hp
  rcases hp with⟨_,h⟩ | ⟨r,_,h1,h2⟩
  ·exact rows h hl hW
  ·have:=wI e hl (hW r ((dM hw).mp h1).1)
   rw[h2]at this;cases this
 | succ l ih =>
  intro kn sh p t hk hp e hl hs hW
  have go:∀ {r:Nat} {sh':List Nat} {p':D},eR cl kn r=true->r∈t->Pap W cl l (kn++[r]) sh' p'->(∀x∈t.erase r,x∉sh')->False:=λ{r sh' p'} h1 h2 h3 h4=>by
   refine ih (kO hk (dJ hk h1)) h3 (e.front h2 h1) ?_ h4 λx hx=>?_
   ·rw[GX h2];omega
   ·rw[BK]
    rcases Bq.mp (hW x hx)with q | q
    ·exact Bu _ q
    ·exact lm _ ((Ht h2).mem_iff.mp q)
  unfold Pap at hp
  rcases hp with⟨_,h⟩ | ⟨r,_,h1,h2⟩ | ⟨r,p',_,h1,h2,h3⟩ | ⟨ps,_,h0,h1,h2⟩
  ·exact rows h hl hW
  ·have:=wI e hl (hW r ((dM hw).mp h1).1)
   rw[h2]at this;cases this
  ·obtain⟨a,b⟩:=(dM hw).mp h1
   exact go ((cv hk).mp h2).1 ((Bq.mp (hW r a)).resolve_left b) h3 λx hx=>hs x (Hn hx)
  ·-- the smallest of the free rows that comes
   have ht:∃x∈t,x∈bY cl kn sh:=by
    cases t with
    | nil =>
     exfalso
     refine h0 ((k9 hw).mpr λr hr=>?_)
     have:=hW r hr
     rwa [Bn]at this
    | cons x t =>
     obtain⟨z1,z2,_⟩:=e.uncons
     exact⟨x,Bj,(cv hk).mpr ⟨z1,z2,hs x Bj⟩⟩
   have first:∀n,n<=(bY cl kn sh).length->(∃x∈t,x∈(bY cl kn sh).take n)->∃i,i<n/\(bY cl kn sh).getD i 0∈t/\∀x∈(bY cl kn sh).take i,x∉t:=by
    intro n
    induction n with
    | zero=>rintro _ ⟨x,_,h⟩;rw[IU]at h;cases h
    | succ n ihn =>
     rintro hn ⟨x,hx,h⟩
     by_cases z:∃x∈t,x∈(bY cl kn sh).take n
     ·obtain⟨i,hi,hr⟩:=ihn (by omega) z
      exact⟨i,by omega,hr⟩
     ·obtain⟨j,hj1,hj2,rfl⟩:=fI.mp h
      have:j=n:=by
       rcases Bh j n with q | q
       ·exact absurd ⟨_,hx,fI.mpr ⟨j,q,hj2,rfl⟩⟩ z
       ·omega
      subst this
      exact⟨j,by omega,hx,λy hy hy'=>z ⟨y,hy',hy⟩⟩
   obtain⟨i,hi,hit,hno⟩:=first _ (wl _) (by obtain⟨x,a,b⟩:=ht;exact⟨x,a,by rw[Cj];exact b⟩)
   have hf:=(cv hk).mp (iU hi)
   refine go hf.1 hit (h2 i (by omega)) λx hx hx'=>?_
   have hxt:=Hn hx
   rcases Bq.mp hx' with q | q
   ·exact hs x hxt q
   ·exact hno x q hxt
structure iB (m:Nat)(W:List Nat):Prop where
 m1:1<=m
 m6:m<=6
 w1:1<=W.length
 w24:W.length<=24
 w:∀r∈W,1<=r/\r<64
noncomputable def oM (m:Nat)(W:List Nat)(cl:Bool)(n:Nat):D:=match srN W cl n (aP m) []with
 | .inl L=>.tup [.bl true,netD (tidN (gh m cl L W))]
 | .inr p=>.tup [.bl false,p]
def cC (m n:Nat):Bool:=decide (m<=6)&&decide (n<=if m<=4 then 11 else 3)
def kF:ASp:=λss q=>∃(m:Nat) (W:List Nat) (cl:Bool) (n:Nat),ss=[.vl (bK m W),.vl (.bl cl),nv n]/\iB m W/\cC m n=true/\q (.d (oM m W cl n)) [.vl (bK m W),.vl (.bl cl),nv n]
theorem pq {m:Nat}(h:m<=6):∀r∈aP m,1<=r/\r<64:=λr hr=>by
 obtain⟨k,hk,rfl⟩:=BP.mp hr
 have hk:=Bv.mp hk
 rw[F4]
 have h1:=Nat.one_le_two_pow (n:=k)
 have h2:2^k<=2^5:=D_ (by decide) (by omega)
 omega
theorem wq (m:Nat):(aP m).Nodup:=by
 unfold aP
 rw[List.nodup_iff_pairwise_ne,Ie]
 refine List.nodup_range.imp λ{a b} h e=>h ?_
 rw[F4,F4]at e
 rcases CK a b with q | q | q
 ·have:=Hz (a:=2) (by decide) q;omega
 ·exact q
 ·have:=Hz (a:=2) (by decide) q;omega
theorem uw {m n:Nat}(h:cC m n=true):n<=11:=by
 unfold cC at h
 rw[A7,decide_eq_true_eq,decide_eq_true_eq]at h
 have:=h.2
 split at this <;> omega
theorem vD {m n:Nat}{W:List Nat}{cl:Bool}(h:iB m W)(hn:n<=11):CsOk ⟨W,cl,aP m,[],n⟩ :=
 ⟨h.w24,h.w,pq h.m6,wq m,by show 0+64*n<=704;omega,λx hx=>(by cases hx),hn⟩
theorem zY {m n:Nat}{W L:List Nat}{cl:Bool}(h:iB m W)(hn:n<=11)(e:srN W cl n (aP m) [] = .inl L):Fnd m cl L W/\L.length<=m+n:=by
 obtain⟨t,rfl,hl,ex,hW⟩:=wa h.w (pq h.m6) (wq m) e
 have h6:=h.m6
 have lo:=gg m
 refine⟨⟨h.m1,by omega,?_,h.w1,h.w24,hW,?_,?_,ex.nd,λi h1 h2=>?_⟩,?_⟩
 ·rw[A2];omega
 ·rw[A2];omega
 ·rw[List.take_append_of_le_length (by omega),Ca (by omega)]
 ·have:=ex.nx (i - m) (by rw[A2]at h2;omega)
  have e1:(aP m++t).take i=aP m++t.take (i - m):=by
   rw[List.take_append,lo,Ca (by omega)]
  have e2:(aP m++t).getD i 0=t.getD (i - m) 0:=by
   rw[wS,By (by omega),lo,<- wS]
  rw[e1,e2];exact this
 ·rw[A2];omega
theorem gaN1 {i:Nat}{a:D}{ρ:En}{M:En->Prop}(h:M (pt ρ i (.vl a))):dQ i a ρ M:=h
def lsN (f:Nat->Bool):Nat->Nat->Nat
 | 0,k=>k
 | j+1,k=>if f k=true then k else lsN f j (k+1)
theorem zy {f:Nat->Bool}:∀ {j k i:Nat},k<=i->i<lsN f j k->f i=false
 | 0,k,i,h1,h2=>by unfold lsN at h2;omega
 | j+1,k,i,h1,h2=>by
  unfold lsN at h2
  split at h2
  ·omega
  ·rename_i h
   by_cases e:i=k
   ·rw[e];exact Ii.mpr h
   ·exact zy (j:=j) (k:=k+1) (by omega) h2
theorem zz {f:Nat->Bool}{n:Nat}(hf:f n=true):∀ {j k:Nat},k<=n->lsN f j k<=n
 | 0,k,h=>h
 | j+1,k,h=>by
  unfold lsN
  split
  ·exact h
  ·rename_i z
   exact zz hf (Nat.lt_of_le_of_ne h λe=>z (e▸hf))
theorem zA {f:Nat->Bool}{n:Nat}(hf:f n=true):∀ {j k:Nat},k<=n->n<k+j->f (lsN f j k)=true
 | 0,k,h1,h2=>by omega
 | j+1,k,h1,h2=>by
  unfold lsN
  split
  ·assumption
  ·rename_i z
   have:k≠n:=λe=>z (e▸hf)
   exact zA hf (by omega) (by omega)
def qi (m:Nat):List Nat:=(zn (2^m)).filter λr=>decide (r≠0) && !(aP m).contains r
theorem uM:∀m,m<5->∀cl:Bool,(aP m++qi m).Nodup/\(qi m).length<=11/\∀i,i<(qi m).length->eR cl (aP m++(qi m).take i) ((qi m).getD i 0)=true:=by decide +kernel
theorem ends {m:Nat}{W:List Nat}(h:iB m W)(h4:m<=4)(hr:∀r∈W,r<2^m)(cl:Bool):∃L,srN W cl 11 (aP m) [] = .inl L:=by
 cases e:srN W cl 11 (aP m) []with
 | inl L=>exact⟨L,rfl⟩
 | inr p =>
  exfalso
  obtain⟨a,b,c⟩:=uM m (by omega) cl
  refine sj h.w (pq h.m6) (rF (pq h.m6) e) (t:=qi m) ⟨a,c⟩ b (λx _=>by simp) λr hW=>?_
  by_cases z:r∈aP m
  ·exact Bu _ z
  ·refine lm _ (Bm.mpr ⟨Bv.mpr (hr r hW),?_⟩)
   have:=h.w r hW
   rw[A7,decide_eq_true_eq,BV,<- Cm,A5]
   exact⟨by omega,z⟩
noncomputable def e9 (m:Nat)(W:List Nat)(cl:Bool):Nat:=lsN (λn=>(srN W cl n (aP m) []).isLeft) 12 0
theorem ve {m:Nat}{W:List Nat}(h:iB m W)(h4:m<=4)(hr:∀r∈W,r<2^m)(cl:Bool):e9 m W cl<=11:=by
 obtain⟨L,e⟩:=ends h h4 hr cl
 exact zz (by rw[e];rfl) (by decide)
theorem vf {m:Nat}{W:List Nat}(h:iB m W)(h4:m<=4)(hr:∀r∈W,r<2^m)(cl:Bool):∃L,srN W cl (e9 m W cl) (aP m) [] = .inl L:=by
 obtain⟨L,e⟩:=ends h h4 hr cl
 have:=zA (f:=λn=>(srN W cl n (aP m) []).isLeft) (n:=11) (by rw[e];rfl) (j:=12) (k:=0) (by decide) (by decide)
 have:(srN W cl (e9 m W cl) (aP m) []).isLeft=true:=this
 cases e:srN W cl (e9 m W cl) (aP m) []with
 | inl L=>exact⟨L,rfl⟩
 | inr p=>rw[e]at this;cases this
theorem vd {m n:Nat}{W:List Nat}{cl:Bool}(h:n<e9 m W cl):∃p,srN W cl n (aP m) [] = .inr p:=by
 have:(srN W cl n (aP m) []).isLeft=false:=zy (Bl n) h
 cases e:srN W cl n (aP m) []with
 | inl L=>rw[e]at this;cases this
 | inr p=>exact⟨p,rfl⟩
noncomputable def papD (m:Nat)(W:List Nat)(cl:Bool):Nat->D
 | 0=>.non
 | n+1=>qa (srN W cl n (aP m) [])
noncomputable def tolD (m:Nat)(W:List Nat)(cl:Bool)(n:Nat):D:=match srN W cl n (aP m) []with
 | .inl L=>netD (tidN (gh m cl L W))
 | .inr p=>p
theorem lM (m:Nat)(W:List Nat)(cl:Bool)(n:Nat):oM m W cl n = .tup [.bl (srN W cl n (aP m) []).isLeft,tolD m W cl n]:=by
 unfold oM tolD
 cases srN W cl n (aP m) [] <;> rfl
noncomputable def zE (m:Nat)(W:List Nat)(cl:Bool):D:=.tup [tolD m W cl (e9 m W cl),papD m W cl (e9 m W cl)]
def uf:ASp:=λss q=>∃(m:Nat) (W:List Nat) (cl:Bool),ss=[.vl (bK m W),.vl (.bl cl)]/\iB m W/\m<=4/\(∀r∈W,r<2^m)/\q (.d (zE m W cl)) [.vl (bK m W),.vl (.bl cl)]
theorem try4 {m n:Nat}(h4:m<=4)(hn:n<=11):cC m n=true:=by
 unfold cC
 rw[if_pos h4,A7,decide_eq_true_eq,decide_eq_true_eq]
 omega
theorem zw {i:Nat}{ρ:En}{A B:En->Prop}(h:gt ρ i = .vl (.bl false))(a:A ρ):aNot (aTru (aVar i)) ρ λk ρ1=>if k=true then A ρ1 else B ρ1:=by
 unfold aNot aTru aVar
 rw[h]
 exact a
def gY:ASp:=λss q=>∃(m:Nat) (z:Int),ss=[nv m,.vl (.int z)]/\q (.d (.bl (decide (0<=z)&&cC m z.toNat))) [nv m,.vl (.int z)]
def lH:ASp:=λss q=>∃(m:Nat) (W:List Nat) (cl:Bool) (z:Int),ss=[.vl (bK m W),.vl (.bl cl),.vl (.int z)]/\(decide (0<=z)&&cC m z.toNat)=false/\q (.d .non) [.vl (bK m W),.vl (.bl cl),.vl (.int z)]
def oE:ASp:=λss q=>∃(m:Nat) (W:List Nat) (cl:Bool),ss=[.vl (bK m W),.vl (.bl cl)]/\4<m/\m<=12/\q (.d .non) [.vl (bK m W),.vl (.bl cl)]
section
variable {P:wT}{w:Bf}{K:bi}{mg:Str->Option bv}{base:Heap}
def XF (K:bi)(mg:Str->Option bv):Prop:=∃C_TooMany C_JoinError C_Bare C_Leans C_Loose C_NoAnswer C_NoFit C_NoName C_NoRow C_NoText C_Nought C_NoWidth:Addr,mg "TooMany" = some (.ref C_TooMany)/\mg "JoinError" = some (.ref C_JoinError)/\mg "Bare" = some (.ref C_Bare)/\mg "Leans" = some (.ref C_Leans)/\mg "Loose" = some (.ref C_Loose)/\mg "NoAnswer" = some (.ref C_NoAnswer)/\mg "NoFit" = some (.ref C_NoFit)/\mg "NoName" = some (.ref C_NoName)/\mg "NoRow" = some (.ref C_NoRow)/\mg "NoText" = some (.ref C_NoText)/\mg "Nought" = some (.ref C_Nought)/\mg "NoWidth" = some (.ref C_NoWidth)/\mg "ValueError" = none/\C8 K C_TooMany bmV "ValueError.__new__" = true/\jH K C_JoinError=true/\EA K (.ref C_TooMany) (.ref C_JoinError)=some true/\ExIs K C_TooMany/\Ge K (.ref C_TooMany) [.ref C_Bare,.ref C_Leans,.ref C_Loose,.ref C_NoAnswer,.ref C_NoFit,.ref C_NoName,.ref C_NoRow,.ref C_NoText,.ref C_Nought,.ref C_NoWidth]=some false/\CT K (.ref C_TooMany) (.ref C_TooMany)=some true/\CT K (.ref C_TooMany) (.type "ValueError")=some true
theorem XF.mk {K:bi}{mg:Str->Option bv}{h:Heap}{C_TooMany C_JoinError C_Bare C_Leans C_Loose C_NoAnswer C_NoFit C_NoName C_NoRow C_NoText C_Nought C_NoWidth:Addr}(KX:K.In h)(G:h.Ns At mg)(f0:A8 K At "TooMany" = some (some (.ref C_TooMany)))(f1:A8 K At "JoinError" = some (some (.ref C_JoinError)))(f2:A8 K At "Bare" = some (some (.ref C_Bare)))(f3:A8 K At "Leans" = some (some (.ref C_Leans)))(f4:A8 K At "Loose" = some (some (.ref C_Loose)))(f5:A8 K At "NoAnswer" = some (some (.ref C_NoAnswer)))(f6:A8 K At "NoFit" = some (some (.ref C_NoFit)))(f7:A8 K At "NoName" = some (some (.ref C_NoName)))(f8:A8 K At "NoRow" = some (some (.ref C_NoRow)))(f9:A8 K At "NoText" = some (some (.ref C_NoText)))(f10:A8 K At "Nought" = some (some (.ref C_Nought)))(f11:A8 K At "NoWidth" = some (some (.ref C_NoWidth)))(f12:A8 K At "ValueError" = some none)(f13:C8 K C_TooMany bmV "ValueError.__new__" = true)(f14:C8 K C_JoinError bmV "ValueError.__new__" = true)(f15:EA K (.ref C_TooMany) (.ref C_JoinError)=some true)(f16_0:A9 K (.ref C_TooMany) "__getattribute__" = some (some (.builtin "BaseException.__getattribute__")))(f16_1:A9 K (.ref C_TooMany) "__getattr__" = some none)(f16_2:DE K C_TooMany=true)(f16_3:A9 K (.ref C_TooMany) "__class__" = some (some (.builtin "object.__class__")))(f16_4:Hr K (.builtin "object.__class__") "__get__" = some (some (.builtin "getset_descriptor.__get__")))(f16_5:HQ K (.builtin "object.__class__")=some true)(f16_6:Im K C_TooMany (.type "object")=some true)(f16_7:EA K (.ref C_TooMany) (.type "BaseException")=some true)(f17:Ge K (.ref C_TooMany) [.ref C_Bare,.ref C_Leans,.ref C_Loose,.ref C_NoAnswer,.ref C_NoFit,.ref C_NoName,.ref C_NoRow,.ref C_NoText,.ref C_Nought,.ref C_NoWidth]=some false)(f18:CT K (.ref C_TooMany) (.ref C_TooMany)=some true)(f19:CT K (.ref C_TooMany) (.type "ValueError")=some true):XF K mg:=⟨C_TooMany,C_JoinError,C_Bare,C_Leans,C_Loose,C_NoAnswer,C_NoFit,C_NoName,C_NoRow,C_NoText,C_Nought,C_NoWidth,BE KX G f0,BE KX G f1,BE KX G f2,BE KX G f3,BE KX G f4,BE KX G f5,BE KX G f6,BE KX G f7,BE KX G f8,BE KX G f9,BE KX G f10,BE KX G f11,Bc KX G f12,f13,tP f14,f15,ExIs.of f16_0 f16_1 f16_2 f16_3 f16_4 f16_5 f16_6 f16_7,f17,f18,f19⟩
theorem nH (dn:DefN K mg "is_tried" fP ["many", "count"])(B:BI mg)(c_FEW_GIVENS_COUNT:∃u,mg "FEW_GIVENS_COUNT" = some u/\RelV (.int 11) u)(c_MORE_GIVENS_COUNT:∃u,mg "MORE_GIVENS_COUNT" = some u/\RelV (.int 3) u)(c_FEW_GIVENS:∃u,mg "FEW_GIVENS" = some u/\RelV (.int 4) u)(c_MORE_GIVENS:∃u,mg "MORE_GIVENS" = some u/\RelV (.int 6) u):OkN P w K mg base 1 "is_tried" ["many", "count"] (spA K gY):=by
 refine dn.aok2 (k:=0) jb (λj=>j==0||j==1) [.un] gY rfl (λf cdv A outer s H E hr=>have hu:=cW hr;⟨_,(aw (bf (i:=2) jb.nd rfl (by first | exact Or.inl rfl | exact Or.inr rfl) (uU (bR sr (pv 0) (ny c_FEW_GIVENS rfl) (bU _)) (ny c_FEW_GIVENS_COUNT rfl) (ny c_MORE_GIVENS_COUNT rfl)))
  (aJ (bg (si (dX sr (pv 0) (ny c_MORE_GIVENS rfl) (bU _)) (lV (uY sr sr aN (pv 1) (pv 2))))))),(aF (aZ (yO (bj (aR cK af aK)) aK aK) rfl)
  (aV (kL (aR cK af aK) (q8 cK cK aK af af))))⟩) ?_
 rintro ss q ⟨m,z,rfl,hq⟩
 refine⟨rfl,rfl,?_⟩
 refine cutS (λρ=>ρ=[nv m,.vl (.int z),nv (if m<=4 then 11 else 3)]) (λM hM=>?_) ?_
 ·have go:decide (((m:Nat):Int)<=4)=decide (m<=4):=by rw[decide_eq_decide];omega
  show if decide (((m:Nat):Int)<=4)=true then _ else _
  rw[go]
  by_cases h:m<=4
  ·rw[if_pos (decide_eq_true h)]
   exact hM _ (by rw[if_pos h];rfl)
  ·rw[if_neg (by rw[decide_eq_true_eq];exact h)]
   exact hM _ (by rw[if_neg h];rfl)
 rintro _ rfl
 generalize hk:(if m<=4 then 11 else 3)=k
 have ek:cC m z.toNat=(decide (m<=6)&&decide (z.toNat<=k)):=by unfold cC;rw[hk]
 rw[ek]at hq
 have go:decide (((m:Nat):Int)<=6)=decide (m<=6):=by rw[decide_eq_decide];omega
 show if decide (((m:Nat):Int)<=6)=true then _ else _
 rw[go]
 by_cases h:m<=6
 ·rw[if_pos (decide_eq_true h)]
  rw[decide_eq_true h,D6]at hq
  show if decide ((0:Int)<=z)=true then q (.d (.bl (decide (z<=((k:Nat):Int))))) [nv m,.vl (.int z)]else q (.d (.bl false)) [nv m,.vl (.int z)]
  by_cases h0:0<=z
  ·rw[if_pos (decide_eq_true h0)]
   rw[decide_eq_true h0,D6]at hq
   have gk:decide (z<=((k:Nat):Int))=decide (z.toNat<=k):=by rw[decide_eq_decide];omega
   rw[gk]
   exact hq
  ·rw[if_neg (by rw[decide_eq_true_eq];exact h0)]
   rw[decide_eq_false h0,DL]at hq
   exact hq
 ·rw[if_neg (by rw[decide_eq_true_eq];exact h)]
  rw[decide_eq_false h,DL,Fh]at hq
  exact hq
theorem u4 (dn:DefN K mg "tried" jc ["wish", "clean", "count"])(B:BI mg)(g_searched:OkN P w K mg base 30 "searched" ["cases"] (spA K ((SSr C_Cases) 13)))(g_is_tried:OkN P w K mg base 1 "is_tried" ["many", "count"] (spA K gY))(g_first_cases:OkN P w K mg base 3 "first_cases" ["wish", "clean", "count"] (spA K (ui C_Cases)))(g_net_of_rows:OkN P w K mg base 5 "net_of_rows" ["wish", "clean", "known"] (spA K yA)):OkN P w K mg base 31 "tried" ["wish", "clean", "count"] (spA K kF):=by
 refine dn.aok2 (k:=30) dN (λj=>j==0||j==1||j==2) [.un,.un,.un,.un] kF rfl (λf cdv A outer s H E hr=>have hu:=cW hr;⟨_,(aw (dP (pv 0) (bz K (n:=2) rfl (aG (aI (i:=3) dN.nd rfl (by first | exact Or.inl rfl | exact Or.inr rfl)) (aG (aI (i:=4) dN.nd rfl (by first | exact Or.inl rfl | exact Or.inr rfl)) bx))))
  (aw (d9 (lR (iu (bQ g_is_tried (hr.mono (by decide)) (ao (pv 3) (ao (pv 2) aD)))))
  (aJ pd)
  bX)
  (aw (dP (bQ g_searched (hr.mono (by decide)) (ao (bQ g_first_cases (hr.mono (by decide)) (ao (pv 0) (ao (pv 1) (ao (pv 2) aD)))) aD)) (bz K (n:=2) rfl (aG (aI (i:=5) dN.nd rfl (by first | exact Or.inl rfl | exact Or.inr rfl)) (aG (aI (i:=6) dN.nd rfl (by first | exact Or.inl rfl | exact Or.inr rfl)) bx))))
  (aw (d9 (d8 K (pv 5) (λ_=>rfl))
  (aJ (bg (cq (ao d_ (ao (bQ g_net_of_rows (hr.mono (by decide)) (ao (pv 0) (ao (pv 1) (ao (pv 6) aD)))) aD)))))
  bX)
  (aJ (bg (cq (ao d_ (ao (pv 6) aD))))))))),(aF (cQ af (ba (aA (az rfl) (aA (az rfl) aY (λ_ _ _=>aO)) (λ_ _ _=>aO))))
  (aF (cP (gu (gx (aM (aa af (aa af aq)))))
  gB
  bw)
  (aF (cQ (aM (aa (aM (aa af (aa af (aa af aq)))) aq)) (ba (aA (az rfl) (aA (az rfl) aY (λ_ _ _=>aO)) (λ_ _ _=>aO))))
  (aF (cP (fG af)
  (aV (bL (aa cL (aa (aM (aa af (aa af (aa af aq)))) aq))))
  bw)
  (aV (bL (aa cL (aa af aq))))))))⟩) ?_
 rintro ss q ⟨m,W,cl,n,rfl,hW,ht,hq⟩
 have h11:=uw ht
 have l2:(2:Nat)<=1000000:=by decide
 have hm6:=hW.m6
 refine⟨rfl,rfl,?_⟩
 refine cutS (λρ=>ρ=[.vl (bK m W),.vl (.bl cl),nv n,nv m,.vl (.tup (aE W)),.un,.un]) (λM hM=>hM _ rfl) ?_
 rintro _ rfl
 refine cutS (λρ=>ρ=[.vl (bK m W),.vl (.bl cl),nv n,nv m,.vl (.tup (aE W)),.un,.un]) (λM hM=>⟨rfl,m,_,rfl,?_⟩) ?_
 ·have e:(decide (0<=((n:Nat):Int))&&cC m ((n:Nat):Int).toNat)=true:=by
   rw[decide_eq_true (FL n),B4,ht];rfl
  rw[e]
  exact hM _ rfl
 rintro _ rfl
 refine cutS (λρ=>ρ=[.vl (bK m W),.vl (.bl cl),nv n,nv m,.vl (.tup (aE W)),.vl (.bl (srN W cl n (aP m) []).isLeft),.vl (qa (srN W cl n (aP m) []))]) (λM hM=>⟨rfl,m,W,cl,n,rfl,by omega,?_⟩) ?_
 ·refine⟨rfl,⟨W,cl,aP m,[],n⟩,rfl,vD hW h11,by show n<=12;omega,?_⟩
  rw[nc]
  exact hM _ rfl
 rintro _ rfl
 unfold oM at hq
 cases e:srN W cl n (aP m) []with
 | inl L =>
  rw[e]at hq
  obtain⟨F,_⟩:=zY hW h11 e
  refine⟨rfl,m,cl,L,W,rfl,F,?_⟩
  refine⟨l2,?_⟩
  exact hq
 | inr p =>
  rw[e]at hq
  refine⟨l2,?_⟩
  exact hq
theorem hU {C_TooMany:Addr}(m_TooMany:mg "TooMany" = some (.ref C_TooMany))(e_TooMany:C8 K C_TooMany bmV "ValueError.__new__" = true)(dn:DefN K mg "tried" jc ["wish", "clean", "count"])(B:BI mg)(g_is_tried:OkN P w K mg base 1 "is_tried" ["many", "count"] (spA K gY)):OkX P w K mg base 2 "tried" ["wish", "clean", "count"] C_TooMany none (spA K lH):=by
 refine dn.aokX (k:=1) dN (λj=>j==0||j==1||j==2) [.un,.un,.un,.un] lH C_TooMany none rfl (λf cdv A outer s H E hr=>have hu:=cW hr;⟨_,(b8 (jh (dP (pv 0) (bz K (n:=2) rfl (aG (aI (i:=3) dN.nd rfl (by first | exact Or.inl rfl | exact Or.inr rfl)) (aG (aI (i:=4) dN.nd rfl (by first | exact Or.inl rfl | exact Or.inr rfl)) bx)))))
  (b8 (wj (lR (iu (bQ g_is_tried (hr.mono (by decide)) (ao (pv 3) (ao (pv 2) aD)))))
  (b8 (rT tie1 rfl m_TooMany e_TooMany cN)
  gJ)
  gJ)
  j4)),(aF (cQ af (ba (aA (az rfl) (aA (az rfl) aY (λ_ _ _=>aO)) (λ_ _ _=>aO))))
  (aF (cP (gu (gx (aM (aa af (aa af aq)))))
  (aF (aV f_)
  bw)
  bw)
  gB))⟩) ?_
 rintro ss q ⟨m,W,cl,z,rfl,ht,hq⟩
 refine⟨rfl,rfl,?_⟩
 refine cutS (λρ=>ρ=[.vl (bK m W),.vl (.bl cl),.vl (.int z),nv m,.vl (.tup (aE W)),.un,.un]) (λM hM=>hM _ rfl) ?_
 rintro _ rfl
 refine⟨rfl,m,z,rfl,?_⟩
 rw[ht]
 exact⟨⟨_,rfl⟩,hq⟩
theorem hV {C_TooMany:Addr}(m_TooMany:mg "TooMany" = some (.ref C_TooMany))(e_TooMany:C8 K C_TooMany bmV "ValueError.__new__" = true)(dn:DefN K mg "least" jd ["wish", "clean"])(B:BI mg)(g_tried:OkN P w K mg base 31 "tried" ["wish", "clean", "count"] (spA K kF))(x_tried_TooMany:OkX P w K mg base 2 "tried" ["wish", "clean", "count"] C_TooMany none (spA K lH))(c_FEW_GIVENS:∃u,mg "FEW_GIVENS" = some u/\RelV (.int 4) u):OkX P w K mg base 32 "least" ["wish", "clean"] C_TooMany none (spA K oE):=by
 refine dn.aokX (k:=31) bJ (λj=>j==0||j==1) [.un,.un,.un,.un] oE C_TooMany none rfl (λf cdv A outer s H E hr=>have hu:=cW hr;⟨_,(b8 (wj (bR jP (dG (bH K) (pv 0) aN (λ_ _=>rfl)) (ny c_FEW_GIVENS rfl) (bU _))
  (b8 (qj tie1 rfl m_TooMany e_TooMany (se (nu cN (nu (zg (ny c_FEW_GIVENS rfl)) (nu cN y9)))))
  gJ)
  gJ)
  (b8 (jh (bf (i:=2) bJ.nd rfl (by first | exact Or.inl rfl | exact Or.inr rfl) aN))
  (b8 (jh (bf (i:=3) bJ.nd rfl (by first | exact Or.inl rfl | exact Or.inr rfl) j6))
  (b8 (wg (rV x_tried_TooMany (hr.mono (by decide)) Ar (ao (pv 0) (ao (pv 1) (ao (pv 2) aD)))) (jh (dP (bQ g_tried (hr.mono (by decide)) (ao (pv 0) (ao (pv 1) (ao (pv 2) aD)))) (bz K (n:=2) rfl (aG (aI (i:=4) bJ.nd rfl (by first | exact Or.inl rfl | exact Or.inr rfl)) (aG (aI (i:=5) bJ.nd rfl (by first | exact Or.inl rfl | exact Or.inr rfl)) bx))))))
  (b8 (rS (lR (d8 K (pv 4) (λ_=>rfl)))
  (b8 (jh (rX (i:=2) bJ.nd rfl (by first | exact Or.inl rfl | exact Or.inr rfl) aN sU))
  (b8 (jh (bf (i:=3) bJ.nd rfl (by first | exact Or.inl rfl | exact Or.inr rfl) (pv 5)))
  (b8 (wg (rV x_tried_TooMany (hr.mono (by decide)) Aq (ao (pv 0) (ao (pv 1) (ao (pv 2) aD)))) (jh (dP (bQ g_tried (hr.mono (by decide)) (ao (pv 0) (ao (pv 1) (ao (pv 2) aD)))) (bz K (n:=2) rfl (aG (aI (i:=4) bJ.nd rfl (by first | exact Or.inl rfl | exact Or.inr rfl)) (aG (aI (i:=5) bJ.nd rfl (by first | exact Or.inl rfl | exact Or.inr rfl)) bx))))))
  gJ))))
  j4))))),(aF (cP (bj (aR cK (aR cB af aK) aK))
  (aF (aV (uy (qb (i8 fg (i8 (xa aK) (i8 fg uD))))))
  bw)
  bw)
  (aF (aZ aK rfl)
  (aF (aZ f_ rfl)
  (aF (oS (aV (aM (aa af (aa af (aa af aq))))) (cQ (aM (aa af (aa af (aa af aq)))) (ba (aA (az rfl) (aA (az rfl) aY (λ_ _ _=>aO)) (λ_ _ _=>aO)))))
  (aF (i_ (gu (fG af))
  (aF (m7 aK rfl)
  (aF (aZ af rfl)
  (aF (oS (aV (aM (aa af (aa af (aa af aq))))) (cQ (aM (aa af (aa af (aa af aq)))) (ba (aA (az rfl) (aA (az rfl) aY (λ_ _ _=>aO)) (λ_ _ _=>aO)))))
  bw))))
  gB)))))⟩) ?_
 rintro ss q ⟨m,W,cl,rfl,h4,h12,hq⟩
 refine⟨rfl,rfl,?_⟩
 refine qG rfl (fE (j:=0) rfl) ?_
 show if decide ((4:Int)<((m:Nat):Int))=true then _ else _
 rw[if_pos (by rw[decide_eq_true_eq];omega)]
 exact⟨by decide +kernel,by decide +kernel,by decide +kernel,by decide +kernel,by decide +kernel,⟨_,rfl⟩,hq⟩
theorem u5 (dn:DefN K mg "least" jd ["wish", "clean"])(B:BI mg)(g_tried:OkN P w K mg base 31 "tried" ["wish", "clean", "count"] (spA K kF))(c_FEW_GIVENS:∃u,mg "FEW_GIVENS" = some u/\RelV (.int 4) u):OkN P w K mg base 32 "least" ["wish", "clean"] (spA K uf):=by
 refine dn.aok2 (k:=31) bJ (λj=>j==0||j==1) [.un,.un,.un,.un] uf rfl (λf cdv A outer s H E hr=>have hu:=cW hr;⟨_,(aw (d9 (bR jP (dG (bH K) (pv 0) aN (λ_ _=>rfl)) (ny c_FEW_GIVENS rfl) (bU _))
  (aJ pd)
  bX)
  (aw (bf (i:=2) bJ.nd rfl (by first | exact Or.inl rfl | exact Or.inr rfl) aN)
  (aw (bf (i:=3) bJ.nd rfl (by first | exact Or.inl rfl | exact Or.inr rfl) j6)
  (aw (dP (bQ g_tried (hr.mono (by decide)) (ao (pv 0) (ao (pv 1) (ao (pv 2) aD)))) (bz K (n:=2) rfl (aG (aI (i:=4) bJ.nd rfl (by first | exact Or.inl rfl | exact Or.inr rfl)) (aG (aI (i:=5) bJ.nd rfl (by first | exact Or.inl rfl | exact Or.inr rfl)) bx))))
  (aw (o_ Cr (lR (d8 K (pv 4) (λ_=>rfl)))
  (aw (rX (i:=2) bJ.nd rfl (by first | exact Or.inl rfl | exact Or.inr rfl) aN sU)
  (aw (bf (i:=3) bJ.nd rfl (by first | exact Or.inl rfl | exact Or.inr rfl) (pv 5))
  (aJ (dP (bQ g_tried (hr.mono (by decide)) (ao (pv 0) (ao (pv 1) (ao (pv 2) aD)))) (bz K (n:=2) rfl (aG (aI (i:=4) bJ.nd rfl (by first | exact Or.inl rfl | exact Or.inr rfl)) (aG (aI (i:=5) bJ.nd rfl (by first | exact Or.inl rfl | exact Or.inr rfl)) bx))))))))
  (aJ (bg (cq (ao (pv 5) (ao (pv 3) aD)))))))))),(aF (cP (bj (aR cK (aR cB af aK) aK))
  gB
  bw)
  (aF (aZ aK rfl)
  (aF (aZ f_ rfl)
  (aF (cQ (aM (aa af (aa af (aa af aq)))) (ba (aA (az rfl) (aA (az rfl) aY (λ_ _ _=>aO)) (λ_ _ _=>aO))))
  (aF (i_ (gu (fG af))
  (aF (m7 aK rfl)
  (aF (aZ af rfl)
  (cQ (aM (aa af (aa af (aa af aq)))) (ba (aA (az rfl) (aA (az rfl) aY (λ_ _ _=>aO)) (λ_ _ _=>aO)))))))
  (aV (bL (aa af (aa af aq)))))))))⟩) ?_
 rintro ss q ⟨m,W,cl,rfl,hW,h4,hr,hq⟩
 have l2:(2:Nat)<=1000000:=by decide
 have h11:=ve hW h4 hr cl
 refine⟨rfl,rfl,?_⟩
 refine cutS (λρ=>ρ=[.vl (bK m W),.vl (.bl cl),.un,.un,.un,.un]) (λM hM=>qG rfl (fE (j:=0) rfl) ?_) ?_
 ·show if decide ((4:Int)<((m:Nat):Int))=true then _ else _
  rw[if_neg (by rw[decide_eq_true_eq];omega)]
  exact hM _ rfl
 rintro _ rfl
 refine cutS (λρ=>ρ=[.vl (bK m W),.vl (.bl cl),nv 0,.un,.un,.un]) (λM hM=>hM _ rfl) ?_
 rintro _ rfl
 refine cutS (λρ=>ρ=[.vl (bK m W),.vl (.bl cl),nv 0,.vl (papD m W cl 0),.un,.un]) (λM hM=>hM _ rfl) ?_
 rintro _ rfl
 have try1:∀ {n:Nat} {s2 s4 s5:Sv} {M:En->Prop},n<=11->M [.vl (bK m W),.vl (.bl cl),nv n,s2,.vl (.bl (srN W cl n (aP m) []).isLeft),.vl (tolD m W cl n)]->aAsg (yw kF (vP (aVar 0) (vP (aVar 1) (vP (aVar 2) aNil)))) (mx 2 (eE (dQ 4) (eE (dQ 5) gaNil))) {nx:=M,ct:=M,bk:=λ_=>False,rt:=λ_ _=>False} [.vl (bK m W),.vl (.bl cl),nv n,s2,s4,s5]:=λ{n s2 s4 s5 M} hn h=>by
  refine⟨rfl,m,W,cl,n,rfl,hW,try4 h4 hn,?_⟩
  rw[lM]
  exact h
 refine cutS (λρ=>ρ=[.vl (bK m W),.vl (.bl cl),nv 0,.vl (papD m W cl 0),.vl (.bl (srN W cl 0 (aP m) []).isLeft),.vl (tolD m W cl 0)]) (λM hM=>try1 (by decide) (hM _ rfl)) ?_
 rintro _ rfl
 refine cutS (λρ=>ρ=[.vl (bK m W),.vl (.bl cl),nv (e9 m W cl),.vl (papD m W cl (e9 m W cl)),.vl (.bl true),.vl (tolD m W cl (e9 m W cl))]) (λM hM=>?_) ?_
 ·refine qR (λρ=>∃n,n<=e9 m W cl/\ρ=[.vl (bK m W),.vl (.bl cl),nv n,.vl (papD m W cl n),.vl (.bl (srN W cl n (aP m) []).isLeft),.vl (tolD m W cl n)]) (λρ=>match ρ with | [_,_,.vl (.int z),_,_,_]=>11 - z.toNat | _=>0) ?_ _ ⟨0,Bl _,rfl⟩
  rintro _ N ⟨n,hn,rfl⟩ hN
  by_cases e:n=e9 m W cl
  ·obtain⟨L,eL⟩:=vf hW h4 hr cl
   have hM':=hM _ rfl
   rw[<- e]at eL hM'
   rw[eL]
   exact hM'
  ·obtain⟨p,ep⟩:=vd (m:=m) (W:=W) (cl:=cl) (n:=n) (by omega)
   have et:tolD m W cl n=papD m W cl (n+1):=by
    unfold tolD
    rw[ep]
    show p=qa (srN W cl n (aP m) [])
    rw[ep]
    rfl
   have el:(srN W cl n (aP m) []).isLeft=false:=by rw[ep];rfl
   rw[et,el]
   refine zw (i:=4) rfl ?_
   show aSeq _ _ _ [.vl (bK m W),.vl (.bl cl),nv n,.vl (papD m W cl n),.vl (.bl false),.vl (papD m W cl (n+1))]
   refine cutS (λρ=>ρ=[.vl (bK m W),.vl (.bl cl),nv (n+1),.vl (papD m W cl n),.vl (.bl false),.vl (papD m W cl (n+1))]) (λM hM=>hM _ rfl) ?_
   rintro _ rfl
   refine cutS (λρ=>ρ=[.vl (bK m W),.vl (.bl cl),nv (n+1),.vl (papD m W cl (n+1)),.vl (.bl false),.vl (papD m W cl (n+1))]) (λM hM=>hM _ rfl) ?_
   rintro _ rfl
   refine try1 (by omega) (hN _ ⟨n+1,by omega,rfl⟩ ?_)
   show 11 - (((n+1:Nat):Int)).toNat<11 - ((n:Nat):Int).toNat
   omega
 rintro _ rfl
 exact⟨l2,hq⟩
end
structure jN (m:Nat)(W:List Nat):Prop where
 m1:1<=m
 m12:m<=12
 w1:1<=W.length
 w24:W.length<=24
 r:∀r∈W,1<=r/\r<2^m
theorem jN.ok {m:Nat}{W:List Nat}(h:jN m W)(h6:m<=6):iB m W :=
 ⟨h.m1,h6,h.w1,h.w24,λr hr=>⟨(h.r r hr).1,xz (h.r r hr).2 (D_ (n:=2) (by decide) (show m<=6 from h6))⟩⟩
def oB:ASp:=λss q=>∃(n lo hi:Nat),ss=[.tp n,nv lo,nv hi]/\n<1000000/\1<=lo/\lo<=hi/\hi<=12/\∀(m n':Nat) (W:List Nat),lo<=m->m<=hi->jN m W->n'<=n+40->q (.d (bK m W)) [.tp n',nv lo,nv hi]
def dueB (way m:Nat)(z:Int):Bool:=if way=0 then decide (4<m)else !(decide (0<=z)&&cC m z.toNat)
def yy:ASp:=λss q=>∃(way m:Nat) (W:List Nat) (cl:Bool) (z:Int),ss=[nv way,.vl (bK m W),.vl (.bl cl),.vl (.int z)]/\way<2/\jN m W/\q (.d (if dueB way m z then .tup [.str "many",.bl true]else .bl true)) [nv way,.vl (bK m W),.vl (.bl cl),.vl (.int z)]
theorem dv59:Dv (10^(59:Int).toNat):=⟨by decide +kernel,by decide +kernel⟩
def refD (b:Bool):D:=if b then .tup [.str "many",.bl true]else .bl true
theorem s_ (m:Nat)(z:Int):dueB 1 m z=(decide ((6:Int)<(m:Int))||((decide ((4:Int)<(m:Int))&&decide (3<z))||(decide (z<0)||decide (11<z)))):=by
 unfold dueB cC
 rw[if_neg (by decide),CM]
 simp only[BV,Go,A7,decide_eq_true_eq,<- Cm]
 constructor
 ·intro h
  apply F9
  intro n
  simp only[not_or,not_and]at n
  apply h
  refine⟨by omega,by omega,?_⟩
  split <;> omega
 ·intro h n
  obtain⟨h1,h2,h3⟩:=n
  split at h3 <;> omega
section
variable {P:wT}{w:Bf}{K:bi}{mg:Str->Option bv}{base:Heap}
theorem hZ (dn:DefN K mg "_law_small_wish" bZ ["_law_tape_here", "_law_low", "_law_most"])(B:BI mg)(g_law_draw:OkN P w K mg base 1 "_law_draw" ["_law_tape_here", "_law_many"] (spA K vT)):OkN P w K mg base 2 "_law_small_wish" ["_law_tape_here", "_law_low", "_law_most"] (spA K oB):=by
 refine dn.aok2 (k:=1) c0 (λj=>j==0||j==1||j==2) [.un,.un] oB rfl (λf cdv A outer s H E hr=>have hu:=cW hr;⟨_,(aw (bf (i:=3) c0.nd rfl (by first | exact Or.inl rfl | exact Or.inr rfl) (bM eh (pv 1) (bQ g_law_draw (hr.mono (by decide)) (ao (pv 0) (ao (bM eh (bM j7 (pv 2) (pv 1)) aN) aD)))))
  (aw (bf (i:=4) c0.nd rfl (by first | exact Or.inl rfl | exact Or.inr rfl) (bM eh aN (bQ g_law_draw (hr.mono (by decide)) (ao (pv 0) (ao (dG (bH K) (gM (ao aN (ao aN (ao aN (ao aN aD))))) (bQ g_law_draw (hr.mono (by decide)) (ao (pv 0) (ao aN aD))) (λ_ _=>rfl)) aD)))))
  (aJ (bg (cq (ao (pv 3) (ao (cu (c8 K) rfl B.tuple_ eV (ao (jo ["_law_turn"] [0,3] rfl (Blk.of (ar bZ) en) (jm rfl B.range_ (ao (pv 4) aD)) (λ_ _ _ _ nd=>(aI (i:=0) nd rfl (by first | exact Or.inl rfl | exact Or.inr rfl))) (λ_ _ _ _=>dW) (λ_ _ _ _=>(bM eh aN (bQ g_law_draw (hr.mono (by decide)) (ao (pv 1) (ao (bM j7 (bM wt aN (pv 2)) aN) aD)))))) aD)) aD))))))),(aF (aZ (aR cc af (aM (aa af (aa (aR cc (aR cc af af) aK) aq)))) rfl)
  (aF (aZ (aR cc aK (aM (aa af (aa (aR cB (eI (aa aK (aa aK (aa aK (aa aK aq))))) (aM (aa af (aa aK aq)))) aq)))) rfl)
  (aV (bL (aa af (aa (dF dE (aa (fH (i9 (aa af aq)) (az rfl) c9 (aR cc aK (aM (aa af (aa (aR cc (aR k8 aK af) aK) aq))))) aq)) aq))))))⟩) ?_
 rintro ss q ⟨n,lo,hi,rfl,hn,h1,h2,h6,hq⟩
 refine⟨rfl,rfl,?_⟩
 have l2:(2:Nat)<=1000000:=by decide
 have l4:(4:Nat)<=1000000:=by decide
 refine cutS (λρ=>∃m:Nat,lo<=m/\m<=hi/\ρ=[.tp (n+1),nv lo,nv hi,nv m,.un]) (λM hM=>⟨rfl,n,(hi:Int) - (lo:Int)+1,rfl,by omega,Dv.small (by omega) (by omega),λx hx=>hM _ ⟨lo+x,by omega,by omega,rfl⟩⟩) ?_
 rintro _ ⟨m,hm1,hm2,rfl⟩
 have p1:2<=2^m:=D_ (n:=2) (by decide) (show 1<=m by omega)
 have p2:2^m<=4096:=D_ (n:=2) (by decide) (show m<=12 by omega)
 have ep:(1:Int)*(2:Int)^((m:Int).toNat)=((2^m:Nat):Int):=by rw[rL,IE,J6]
 refine cutS (λρ=>∃k:Nat,1<=k/\k<=24/\ρ=[.tp (n+3),nv lo,nv hi,nv m,nv k]) (λM hM=>⟨l4,rfl,n+1,4,rfl,by omega,Dv.small (by decide) (by decide),λx hx=>?_⟩) ?_
 ·have at4:∃w:Nat,1<=w/\w<=24/\atI [D.int 8,.int 8,.int 8,.int 24] ((x:Nat):Int)=some (.int (w:Nat)):=by
   have hx:x<4:=by omega
   match x,hx with
   | 0,_=>exact⟨8,by decide,by decide,rfl⟩
   | 1,_=>exact⟨8,by decide,by decide,rfl⟩
   | 2,_=>exact⟨8,by decide,by decide,rfl⟩
   | 3,_=>exact⟨24,by decide,by decide,rfl⟩
  obtain⟨w,w1,w2,ew⟩:=at4
  refine tE rfl ew ⟨rfl,n+2,w,rfl,by omega,Dv.small (by omega) (by omega),λy hy=>?_⟩
  exact hM _ ⟨1+y,by omega,by omega,rfl⟩
 rintro _ ⟨k,hk1,hk2,rfl⟩
 refine⟨⟨by omega,by omega⟩,by rw[dO];omega,?_⟩
 refine gV (λj acc ρ=>∃W:List Nat,W.length=j/\(∀r∈W,1<=r/\r<2^m)/\acc=aE W/\ρ=[.tp (n+3+j),nv lo,nv hi,nv m,nv k]) (λ_ _ _ _ _=>trivial) ?_ ?_ _ ⟨[],rfl,λr hr=>(by cases hr),rfl,rfl⟩
 ·rintro j d acc _ N hd ⟨W,hl,hW,rfl,rfl⟩ hN
  have hj:j<k:=by
   have:=(sK.mp hd).1
   rw[dO]at this
   omega
  refine⟨⟨by omega,by omega,by decide⟩,rfl,n+3+j,_,rfl,by omega,Dv.small (by show 0<(1:Int)*(2:Int)^((m:Int).toNat) - 1;rw[ep];omega) (by show(1:Int)*(2:Int)^((m:Int).toNat) - 1<1073741824;rw[ep];omega),λr hr=>?_⟩
  have hr:(r:Int)<(1:Int)*(2:Int)^((m:Int).toNat) - 1:=hr
  rw[ep]at hr
  refine hN _ _ ⟨W++[1+r],by rw[A2,hl];rfl,λy hy=>?_,?_,rfl⟩
  ·rcases Bq.mp hy with z | z
   ·exact hW y z
   ·rw[wE.mp z];omega
  ·rw[dD]
   show aE W++[.int ((1:Int)+(r:Int))]=_
   rw[show(1:Int)+(r:Int)=((1+r:Nat):Int)by omega]
 ·rintro acc _ ⟨W,hl,hW,rfl,rfl⟩
  rw[dO]at hl
  refine⟨l2,?_⟩
  exact hq m _ W hm1 hm2 ⟨by omega,by omega,by omega,by omega,hW⟩ (by rw[dO];omega)
theorem nE {C_TooMany C_JoinError C_Bare C_Leans C_Loose C_NoAnswer C_NoFit C_NoName C_NoRow C_NoText C_Nought C_NoWidth:Addr}(m_TooMany:mg "TooMany" = some (.ref C_TooMany))(m_JoinError:mg "JoinError" = some (.ref C_JoinError))(ea_JoinError:jH K C_JoinError=true)(s_TooMany_JoinError:EA K (.ref C_TooMany) (.ref C_JoinError)=some true)(m_Bare:mg "Bare" = some (.ref C_Bare))(m_Leans:mg "Leans" = some (.ref C_Leans))(m_Loose:mg "Loose" = some (.ref C_Loose))(m_NoAnswer:mg "NoAnswer" = some (.ref C_NoAnswer))(m_NoFit:mg "NoFit" = some (.ref C_NoFit))(m_NoName:mg "NoName" = some (.ref C_NoName))(m_NoRow:mg "NoRow" = some (.ref C_NoRow))(m_NoText:mg "NoText" = some (.ref C_NoText))(m_Nought:mg "Nought" = some (.ref C_Nought))(m_NoWidth:mg "NoWidth" = some (.ref C_NoWidth))(n_ValueError:mg "ValueError" = none)(i_TooMany:ExIs K C_TooMany)(ka_law_told_0_TooMany:Ge K (.ref C_TooMany) [.ref C_Bare,.ref C_Leans,.ref C_Loose,.ref C_NoAnswer,.ref C_NoFit,.ref C_NoName,.ref C_NoRow,.ref C_NoText,.ref C_Nought,.ref C_NoWidth]=some false)(k_TooMany_TooMany:CT K (.ref C_TooMany) (.ref C_TooMany)=some true)(k_TooMany_ValueError:CT K (.ref C_TooMany) (.type "ValueError")=some true)(dn:DefN K mg "_law_told" fM ["_law_way", "_law_wish", "_law_clean", "_law_count"])(B:BI mg)(g_least:OkN P w K mg base 32 "least" ["wish", "clean"] (spA K uf))(g_tried:OkN P w K mg base 31 "tried" ["wish", "clean", "count"] (spA K kF))(x_least_TooMany:OkX P w K mg base 32 "least" ["wish", "clean"] C_TooMany none (spA K oE))(x_tried_TooMany:OkX P w K mg base 2 "tried" ["wish", "clean", "count"] C_TooMany none (spA K lH)):OkN P w K mg base 33 "_law_told" ["_law_way", "_law_wish", "_law_clean", "_law_count"] (spA K yy):=by
 refine dn.aok2 (k:=32) bW (λj=>j==0||j==1||j==2||j==3) [.un,.un,.un] yy rfl (λf cdv A outer s H E hr=>have hu:=cW hr;⟨_,(aw (bf (i:=4) bW.nd rfl (by first | exact Or.inl rfl | exact Or.inr rfl) j6)
  (aw (bf (i:=5) bW.nd rfl (by first | exact Or.inl rfl | exact Or.inr rfl) j6)
  (aw (y8 (y8 (xx (aJ (d9 (bR (lX K hr.units) (pv 0) aN (bU _))
  (aJ (bf (i:=4) bW.nd rfl (by first | exact Or.inl rfl | exact Or.inr rfl) (bQ g_least (hr.mono (by decide)) (ao (pv 1) (ao (pv 2) aD)))))
  (aJ (bf (i:=4) bW.nd rfl (by first | exact Or.inl rfl | exact Or.inr rfl) (bQ g_tried (hr.mono (by decide)) (ao (pv 1) (ao (pv 2) (ao (pv 3) aD)))))))))
  (rW x_least_TooMany (hr.mono (by decide)) rfl rfl rfl rfl (ao (pv 1) (ao (pv 2) aD)) (sC (b:=true) (bR zq (pv 0) aN (bU _)) sA) (λod=>(wF (i:=6) rfl m_JoinError ea_JoinError s_TooMany_JoinError bW.nd rfl rfl (λa =>
  (aJ (bf (i:=5) bW.nd rfl (by first | exact Or.inl rfl | exact Or.inr rfl) (pv 6))))))))
  (rW x_tried_TooMany (hr.mono (by decide)) rfl rfl rfl rfl (ao (pv 1) (ao (pv 2) (ao (pv 3) aD))) (sC (b:=false) (bR zq (pv 0) aN (bU _)) sA) (λod=>(wF (i:=6) rfl m_JoinError ea_JoinError s_TooMany_JoinError bW.nd rfl rfl (λa =>
  (aJ (bf (i:=5) bW.nd rfl (by first | exact Or.inl rfl | exact Or.inr rfl) (pv 6))))))))
  (aw (d9 (bR zm (pv 5) j6 (bU _))
  (aJ (bg (cH (ua K) rfl B.isinstance_ dC (ao (pv 4) (ao (zd rfl B.tuple_ eV) aD)))))
  bX)
  (aw (d9 (iu (cH (qN K (ds:=[C_Bare,C_Leans,C_Loose,C_NoAnswer,C_NoFit,C_NoName,C_NoRow,C_NoText,C_Nought,C_NoWidth])) rfl B.isinstance_ dC (ao (pv 5) (ao (cq (ao (dq (v:=.ref C_Bare) rfl m_Bare rfl) (ao (dq (v:=.ref C_Leans) rfl m_Leans rfl) (ao (dq (v:=.ref C_Loose) rfl m_Loose rfl) (ao (dq (v:=.ref C_NoAnswer) rfl m_NoAnswer rfl) (ao (dq (v:=.ref C_NoFit) rfl m_NoFit rfl) (ao (dq (v:=.ref C_NoName) rfl m_NoName rfl) (ao (dq (v:=.ref C_NoRow) rfl m_NoRow rfl) (ao (dq (v:=.ref C_NoText) rfl m_NoText rfl) (ao (dq (v:=.ref C_Nought) rfl m_Nought rfl) (ao (dq (v:=.ref C_NoWidth) rfl m_NoWidth rfl) aD))))))))))) aD))))
  (aJ (bg j6))
  bX)
  (aJ (bg (cq (ao cN (ao (si (cH (mP K (c:=.ref C_TooMany) (u:=.ref C_TooMany) (λ_ h=>h)) rfl B.isinstance_ dC (ao (pv 5) (ao (dq (v:=.ref C_TooMany) rfl m_TooMany rfl) aD))) (lV (cH (mP K (c:=.ty "ValueError") (u:=.type "ValueError") (λ_ h=>h)) rfl B.isinstance_ dC (ao (pv 5) (ao (zd (T := "ValueError") rfl n_ValueError (by decide +kernel)) aD))))) aD)))))))))),(aF (aZ f_ rfl)
  (aF (aZ f_ rfl)
  (aF (oS (oS (cP (bj (aR lY af aK))
  (aZ (aM (aa af (aa af aq))) rfl)
  (aZ (aM (aa af (aa af (aa af aq)))) rfl))
  (oR (i:=0) (c:=0) (b:=true) (oQ (aa af (aa af aq))
  (pW rfl (aZ af rfl)))))
  (oR (i:=0) (c:=0) (b:=false) (oQ (aa af (aa af (aa af aq)))
  (pW rfl (aZ af rfl)))))
  (aF (cP (bj (aR xI af f_))
  (aV (dF vL (aa af (aa yN aq))))
  bw)
  (aF (cP (gx (uB (by simp[Et])))
  (aV f_)
  bw)
  (aV (bL (aa fg (aa (kL qX qX) aq)))))))))⟩) ?_
 rintro ss q ⟨way,m,W,cl,z,rfl,hw,hW,hq⟩
 have dI:∀ {i:Int},D.depth (.int i)<=60:=λ{i}=>by simp[D.depth]
 refine⟨rfl,rfl,?_⟩
 refine cutS (λρ=>ρ=[nv way,.vl (bK m W),.vl (.bl cl),.vl (.int z),.vl .non,.un,.un]) (λM hM=>hM _ rfl) ?_
 rintro _ rfl
 refine cutS (λρ=>ρ=[nv way,.vl (bK m W),.vl (.bl cl),.vl (.int z),.vl .non,.vl .non,.un]) (λM hM=>hM _ rfl) ?_
 rintro _ rfl
 refine cutS (λρ=>(dueB way m z=false/\∃ds,ρ=[nv way,.vl (bK m W),.vl (.bl cl),.vl (.int z),.vl (.tup ds),.vl .non,.un])∨(dueB way m z=true/\∃s6,ρ=[nv way,.vl (bK m W),.vl (.bl cl),.vl (.int z),.vl .non,.ex C_TooMany none,s6])) (λM hM=>?_) ?_
 ·have h01:way=0∨way=1:=by omega
  rcases h01 with rfl | rfl
  ·by_cases h:4<m
   ·have hd:dueB 0 m z=true:=decide_eq_true h
    refine .inl (.inr ⟨⟨0,rfl,rfl⟩,rfl,m,W,cl,rfl,h,hW.m12,?_⟩)
    exact hM _ (.inr ⟨hd,_,rfl⟩)
   ·have hd:dueB 0 m z=false:=decide_eq_false h
    refine .inl (.inl (iA (b:=true) rfl rfl dI rfl ⟨rfl,m,W,cl,rfl,hW.ok (by omega),by omega,λr hr=>(hW.r r hr).2,hM _ (.inl ⟨hd,_,rfl⟩)⟩))
  ·cases hd:(decide (0<=z)&&cC m z.toNat)with
   | false =>
    have hd':dueB 1 m z=true:=by
     show(!(decide (0<=z)&&cC m z.toNat))=true
     rw[hd];rfl
    refine .inr ⟨⟨1,rfl,rfl⟩,rfl,m,W,cl,z,rfl,hd,?_⟩
    exact hM _ (.inr ⟨hd',_,rfl⟩)
   | true =>
    have hd':dueB 1 m z=false:=by
     show(!(decide (0<=z)&&cC m z.toNat))=false
     rw[hd];rfl
    rw[A7,decide_eq_true_eq]at hd
    obtain⟨n,rfl⟩:=DG hd.1
    have ht:=hd.2
    rw[B4]at ht
    have h6:m<=6:=by
     unfold cC at ht
     rw[A7,decide_eq_true_eq]at ht
     exact ht.1
    refine .inl (.inl (iA (b:=false) rfl rfl dI rfl ⟨rfl,m,W,cl,n,rfl,hW.ok h6,ht,?_⟩))
    rw[lM]
    exact hM _ (.inl ⟨hd',_,rfl⟩)
 rintro _ (⟨hd,ds,rfl⟩ | ⟨hd,s6,rfl⟩)
 ·rw[hd]at hq
  exact x6 rfl iJ hq
 ·rw[hd]at hq
  refine cutS (λρ=>ρ=[nv way,.vl (bK m W),.vl (.bl cl),.vl (.int z),.vl .non,.ex C_TooMany none,s6]) (λM hM=>⟨rfl,hM _ rfl⟩) ?_
  rintro _ rfl
  refine cutS (λρ=>ρ=[nv way,.vl (bK m W),.vl (.bl cl),.vl (.int z),.vl .non,.ex C_TooMany none,s6]) (λM hM=>⟨false,i_TooMany,ka_law_told_0_TooMany,hM _ rfl⟩) ?_
  rintro _ rfl
  exact⟨true,i_TooMany,k_TooMany_TooMany,true,i_TooMany,k_TooMany_ValueError,by simp,hq⟩
theorem zt (dn:DefN K mg "law" uK ["_law_script"])(B:BI mg)(g_law_tape:OkN P w K mg base 1 "_law_tape" ["_law_script"] (spA K yz))(g_law_small_wish:OkN P w K mg base 2 "_law_small_wish" ["_law_tape_here", "_law_low", "_law_most"] (spA K oB))(g_law_draw:OkN P w K mg base 1 "_law_draw" ["_law_tape_here", "_law_many"] (spA K vT))(g_law_told:OkN P w K mg base 33 "_law_told" ["_law_way", "_law_wish", "_law_clean", "_law_count"] (spA K yy)):OkN P w K mg base 34 "law" ["_law_script"] (spA K SLaw):=by
 refine dn.aok2 (k:=33) gE (λj=>j==0) [.un,.un,.un,.un,.un,.un,.un] SLaw rfl (λf cdv A outer s H E hr=>have hu:=cW hr;⟨_,(aw (bf (i:=1) gE.nd rfl (by first | exact Or.inl rfl | exact Or.inr rfl) (bQ g_law_tape (hr.mono (by decide)) (ao (pv 0) aD)))
  (aw (iw Cr rfl (jm rfl B.range_ (ao aN aD)) (aI (i:=2) gE.nd rfl (by first | exact Or.inl rfl | exact Or.inr rfl))
  (aw (bf (i:=3) gE.nd rfl (by first | exact Or.inl rfl | exact Or.inr rfl) (bQ g_law_small_wish (hr.mono (by decide)) (ao (pv 1) (ao aN (ao aN aD)))))
  (aw (bf (i:=4) gE.nd rfl (by first | exact Or.inl rfl | exact Or.inr rfl) (dX (lX K hr.units) (bQ g_law_draw (hr.mono (by decide)) (ao (pv 1) (ao aN aD))) aN (bU _)))
  (aw (bf (i:=5) gE.nd rfl (by first | exact Or.inl rfl | exact Or.inr rfl) (bM j7 (bQ g_law_draw (hr.mono (by decide)) (ao (pv 1) (ao aN aD))) aN))
  (aw (d9 (bR (lX K hr.units) (bQ g_law_draw (hr.mono (by decide)) (ao (pv 1) (ao aN aD))) aN (bU _))
  (aJ (bf (i:=5) gE.nd rfl (by first | exact Or.inl rfl | exact Or.inr rfl) (bM j8 (dG (bH K) (gM (ao aN (ao (Ao yJ aN) aD))) (bQ g_law_draw (hr.mono (by decide)) (ao (pv 1) (ao aN aD))) (λ_ _=>rfl)) (bM eh aN (bQ g_law_draw (hr.mono (by decide)) (ao (pv 1) (ao (bM pA aN aN) aD)))))))
  bX)
  (aw (bf (i:=6) gE.nd rfl (by first | exact Or.inl rfl | exact Or.inr rfl) (gM (ao d_ (ao (cq (ao cN (ao d_ aD))) aD))))
  (aw (d9 (bR (wu K hr.units) (bQ g_law_told (hr.mono (by decide)) (ao aN (ao (pv 3) (ao (pv 4) (ao (pv 5) aD))))) (dG (bH K) (pv 6) (cu mQ rfl B.int_ wK (ao (dX jP (dG (bH K) (pv 3) aN (λ_ _=>rfl)) aN (bU _)) aD)) (λ_ _=>rfl)) (bU _))
  (aJ (bg d_))
  bX)
  (aw (bf (i:=7) gE.nd rfl (by first | exact Or.inl rfl | exact Or.inr rfl) (uR (dX jP (dG (bH K) (pv 3) aN (λ_ _=>rfl)) aN (bU _)) (uR (si (dX jP (dG (bH K) (pv 3) aN (λ_ _=>rfl)) aN (bU _)) (lV (dX jP (pv 5) aN (bU _)))) (uR (dX zk (pv 5) aN (bU _)) (lV (dX jP (pv 5) aN (bU _)))))))
  (aJ (d9 (bR (wu K hr.units) (bQ g_law_told (hr.mono (by decide)) (ao aN (ao (pv 3) (ao (pv 4) (ao (pv 5) aD))))) (dG (bH K) (pv 6) (cu mQ rfl B.int_ wK (ao (pv 7) aD)) (λ_ _=>rfl)) (bU _))
  (aJ (bg d_))
  bX))))))))))
  (aJ (bg d_)))),(aF (aZ (aM (aa af aq)) rfl)
  (aF (fj (pin:=(λ_=>false)) (i9 (aa aK aq)) (az rfl)
  (aF (aZ (aM (aa af (aa aK (aa aK aq)))) rfl)
  (aF (aZ (aR lY (aM (aa af (aa aK aq))) aK) rfl)
  (aF (aZ (aR cc (aM (aa af (aa aK aq))) aK) rfl)
  (aF (cP (bj (aR lY (aM (aa af (aa aK aq))) aK))
  (aZ (aR k8 (aR cB (eI (aa aK (aa (wZ aK) aq))) (aM (aa af (aa aK aq)))) (aR cc aK (aM (aa af (aa (aR k8 aK aK) aq))))) rfl)
  bw)
  (aF (aZ (eI (aa cL (aa (bL (aa fg (aa cL aq))) aq))) rfl)
  (aF (cP (bj (aR wx (aM (aa aK (aa af (aa af (aa af aq))))) (aR cB af (dF pV (aa (aR cK (aR cB af aK) aK) aq)))))
  (aV cL)
  bw)
  (aF (aZ (kK (aR cK (aR cB af aK) aK) (kK (kL (aR cK (aR cB af aK) aK) (aR cK af aK)) (kK (aR cK af aK) (aR cK af aK)))) rfl)
  (cP (bj (aR wx (aM (aa aK (aa af (aa af (aa af aq))))) (aR cB af (dF pV (aa af aq)))))
  (aV cL)
  bw)))))))))
  (aV cL)))⟩) ?_
 rintro ss q ⟨ns,hl,rfl,hq⟩
 refine⟨rfl,rfl,rfl,ns,rfl,?_⟩
 dsimp only[stS,pt,back,R.frz]
 have dI:∀ {i:Int},D.depth (.int i)<=60:=λ{i}=>by simp[D.depth]
 have dR:∀b,(refD b).depth<=60:=λb=>by cases b <;> simp[refD,D.depth,depths]
 refine cutS (λρ=>∃s0 n' s2 s3 s4 s5 s6 s7,ρ=[s0,.tp n',s2,s3,s4,s5,s6,s7]) (λM hM=>⟨⟨by decide,by decide⟩,?_⟩) ?_
 ·refine vB (λk ρ=>∃s0 n' s2 s3 s4 s5 s6 s7,n'<=100*k/\ρ=[s0,.tp n',s2,s3,s4,s5,s6,s7]) (λ_ _ _=>trivial) ?_ (λρ ⟨s0,n',s2,s3,s4,s5,s6,s7,_,e⟩=>hM ρ ⟨s0,n',s2,s3,s4,s5,s6,s7,e⟩) ⟨_,0,.un,.un,.un,.un,.un,.un,Bl _,rfl⟩
  rintro k _ N hk ⟨s0,n',s2,s3,s4,s5,s6,s7,hn',rfl⟩ hN
  have hk:k<4:=hk
  refine gaN1 ?_
  generalize Sv.vl (D.int (0+(k:Int)))=s2
  show aSeq _ _ _ [s0,.tp n',s2,s3,s4,s5,s6,s7]
  refine cutS (λρ=>∃m n1 W,jN m W/\n1<=n'+40/\ρ=[s0,.tp n1,s2,.vl (bK m W),s4,s5,s6,s7]) (λM hM=>⟨rfl,n',1,12,rfl,by omega,by decide,by decide,by decide,λm n1 W h1 h2 hW hn1=>hM _ ⟨m,n1,W,hW,hn1,rfl⟩⟩) ?_
  rintro _ ⟨m,n1,W,hW,hn1,rfl⟩
  refine cutS (λρ=>∃cl,ρ=[s0,.tp (n1+1),s2,.vl (bK m W),.vl (.bl cl),s5,s6,s7]) (λM hM=>⟨rfl,n1,2,rfl,by omega,Dv.small (by decide) (by decide),λx hx=>iA rfl rfl dI rfl (hM _ ⟨_,rfl⟩)⟩) ?_
  rintro _ ⟨cl,rfl⟩
  refine cutS (λρ=>∃z:Int,ρ=[s0,.tp (n1+2),s2,.vl (bK m W),.vl (.bl cl),.vl (.int z),s6,s7]) (λM hM=>⟨rfl,n1+1,16,rfl,by omega,Dv.small (by decide) (by decide),λx hx=>hM _ ⟨_,rfl⟩⟩) ?_
  rintro _ ⟨z,rfl⟩
  refine cutS (λρ=>∃(z:Int) (n2:Nat),n2<=n1+5/\ρ=[s0,.tp n2,s2,.vl (bK m W),.vl (.bl cl),.vl (.int z),s6,s7]) (λM hM=>⟨rfl,n1+2,8,rfl,by omega,Dv.small (by decide) (by decide),λx hx=>iA rfl rfl dI rfl (ite2 (λ_=>?_) λ_=>?_)⟩) ?_
  ·refine⟨by simp,rfl,n1+3,2,rfl,by omega,Dv.small (by decide) (by decide),λy hy=>?_⟩
   have at2:∃i:Int,-(2^64)<i/\i<2^64/\atI [D.int 1,.int (-1)] ((y:Nat):Int)=some (.int i):=by
    have hy:y<2:=by omega
    match y,hy with
    | 0,_=>exact⟨1,by decide,by decide,rfl⟩
    | 1,_=>exact⟨-1,by decide,by decide,rfl⟩
   obtain⟨i,i1,i2,ei⟩:=at2
   refine tE rfl ei ⟨⟨by decide,by decide,by decide⟩,rfl,n1+4,_,rfl,by omega,dv59,λu hu=>?_⟩
   exact⟨.inl ⟨i1,i2⟩,hM _ ⟨_,n1+5,by omega,rfl⟩⟩
  ·exact hM _ ⟨z,n1+3,by omega,rfl⟩
  rintro _ ⟨z,n2,hn2,rfl⟩
  refine cutS (λρ=>ρ=[s0,.tp n2,s2,.vl (bK m W),.vl (.bl cl),.vl (.int z),.ow [refD false,refD true],s7]) (λM hM=>⟨by simp,by simp,hM _ rfl⟩) ?_
  rintro _ rfl
  have at3:∀b:Bool,atI [refD false,refD true] (if b=true then 1 else 0)=some (refD b):=λb=>by cases b <;> rfl
  refine cutS (λρ=>ρ=[s0,.tp n2,s2,.vl (bK m W),.vl (.bl cl),.vl (.int z),.ow [refD false,refD true],s7]) (λM hM=>⟨rfl,0,m,W,cl,z,rfl,by decide,hW,?_⟩) ?_
  ·refine qG (i:=0) rfl (fE (j:=0) rfl) ?_
   refine tE rfl (at3 (decide ((4:Int)<((m:Nat):Int)))) (iA (b:=true) rfl rfl (dR (dueB 0 m z)) ?_ (hM _ rfl))
   have e:decide ((4:Int)<((m:Nat):Int))=dueB 0 m z:=by
    show _=decide (4<m)
    rw[decide_eq_decide];omega
   rw[e]
   exact gS _
  rintro _ rfl
  refine cutS (λρ=>ρ=[s0,.tp n2,s2,.vl (bK m W),.vl (.bl cl),.vl (.int z),.ow [refD false,refD true],.vl (.bl (dueB 1 m z))]) (λM hM=>?_) ?_
  ·have hM':=hM _ rfl
   rw[s_]at hM'
   refine qG (i:=0) rfl (fE (j:=0) rfl) ?_
   show if decide ((6:Int)<((m:Nat):Int))=true then _ else _
   cases h6:decide ((6:Int)<((m:Nat):Int))with
   | true=>rw[h6]at hM';exact hM'
   | false =>
    rw[h6,DA]at hM'
    refine qG (i:=0) rfl (fE (j:=0) rfl) ?_
    show if decide ((4:Int)<((m:Nat):Int))=true then _ else _
    cases h4:decide ((4:Int)<((m:Nat):Int))with
    | true =>
     rw[h4,D6]at hM'
     show if decide ((3:Int)<z)=true then _ else _
     cases h3:decide ((3:Int)<z)with
     | true=>rw[h3]at hM';exact hM'
     | false =>
      rw[h3,DA]at hM'
      show if decide (z<0)=true then _ else _
      cases h0:decide (z<0)with
      | true=>rw[h0]at hM';exact hM'
      | false=>rw[h0,DA]at hM';exact hM'
    | false =>
     rw[h4,DL,DA]at hM'
     show if decide (z<0)=true then _ else _
     cases h0:decide (z<0)with
     | true=>rw[h0]at hM';exact hM'
     | false=>rw[h0,DA]at hM';exact hM'
  rintro _ rfl
  refine⟨rfl,1,m,W,cl,z,rfl,by decide,hW,?_⟩
  refine tE rfl (at3 (dueB 1 m z)) (iA (b:=true) rfl rfl (dR (dueB 1 m z)) (gS _) ?_)
  exact hN _ ⟨_,n2,_,_,_,_,_,_,by omega,rfl⟩
 rintro _ ⟨s0,n',s2,s3,s4,s5,s6,s7,rfl⟩
 exact hq _
theorem fin (d_wall:DefN K mg "_wall" wb ["k"])(d_joined:DefN K mg "joined" iP ["one", "other"])(d_own_rows:DefN K mg "own_rows" d5 ["many"])(d_joining:DefN K mg "joining" gH ["one", "other"])(d_all_words:DefN K mg "all_words" eM ["net", "words"])(d_rows_of:DefN K mg "rows_of" gG ["net"])(d_first_cases:DefN K mg "first_cases" dz ["wish", "clean", "count"])(d_may_join:DefN K mg "may_join" fL ["clean", "one", "other"])(d_tidied:DefN K mg "tidied" gF ["net"])(d_first_alike:DefN K mg "first_alike" dA ["rows"])(d_leant_on:DefN K mg "leant_on" d7 ["net", "stands"])(d_tried:DefN K mg "tried" jc ["wish", "clean", "count"])(d_is_tried:DefN K mg "is_tried" fP ["many", "count"])(d_least:DefN K mg "least" jd ["wish", "clean"])(d_searched:DefN K mg "searched" fK ["cases"])(d_searched_made:DefN K mg "searched_made" cT ["cases", "row"])(d_searched_next:DefN K mg "searched_next" cS ["cases", "free"])(d_net_of_rows:DefN K mg "net_of_rows" cy ["wish", "clean", "known"])(d_first_joining:DefN K mg "first_joining" cp ["things", "row", "clean"])(d_law_tape:DefN K mg "_law_tape" fN ["_law_script"])(d_law_draw:DefN K mg "_law_draw" fO ["_law_tape_here", "_law_many"])(d_law_small_wish:DefN K mg "_law_small_wish" bZ ["_law_tape_here", "_law_low", "_law_most"])(d_law_told:DefN K mg "_law_told" fM ["_law_way", "_law_wish", "_law_clean", "_law_count"])(d_law:DefN K mg "law" uK ["_law_script"])(c_FEW_GIVENS:∃u,mg "FEW_GIVENS" = some u/\RelV (.int 4) u)(c_FEW_GIVENS_COUNT:∃u,mg "FEW_GIVENS_COUNT" = some u/\RelV (.int 11) u)(c_MORE_GIVENS:∃u,mg "MORE_GIVENS" = some u/\RelV (.int 6) u)(c_MORE_GIVENS_COUNT:∃u,mg "MORE_GIVENS_COUNT" = some u/\RelV (.int 3) u)(xf:XF K mg)(oc_Cases:∃C_Cases:Addr,ClsO K mg C_Cases "Cases" ["wished", "clean", "known", "shut", "left"]/\DefM K C_Cases "__init__" "Cases.__init__" br ["self", "wished", "clean", "known", "shut", "left"]/\DefM K C_Cases "with_row" "Cases.with_row" bq ["self", "row", "shut"]/\DefM K C_Cases "lacking" "Cases.lacking" bo ["self"]/\DefM K C_Cases "free_rows" "Cases.free_rows" aW ["self"]/\DefM K C_Cases "lacks_too_many" "Cases.lacks_too_many" aU ["self"]/\DefM K C_Cases "is_far" "Cases.is_far" bb ["self", "row"]/\DefM K C_Cases "shown_by" "Cases.shown_by" bO ["self", "paper"]/\DefM K C_Cases "shown_far" "Cases.shown_far" bF ["self", "row"]/\DefM K C_Cases "shown_made" "Cases.shown_made" bD ["self", "row", "paper"]/\DefM K C_Cases "shown_next" "Cases.shown_next" bC ["self", "papers"])(B:BI mg):OkN P w K mg base 34 "law" ["_law_script"] (xj K):=by
 obtain⟨C_Cases,o_Cases,d_Cases___init__,d_Cases_with_row,d_Cases_lacking,d_Cases_free_rows,d_Cases_lacks_too_many,d_Cases_is_far,d_Cases_shown_by,d_Cases_shown_far,d_Cases_shown_made,d_Cases_shown_next⟩:=oc_Cases
 have ob_Cases:=sH (P:=P) (w:=w) (base:=base) o_Cases d_Cases___init__
 obtain⟨C_TooMany,C_JoinError,C_Bare,C_Leans,C_Loose,C_NoAnswer,C_NoFit,C_NoName,C_NoRow,C_NoText,C_Nought,C_NoWidth,m_TooMany,m_JoinError,m_Bare,m_Leans,m_Loose,m_NoAnswer,m_NoFit,m_NoName,m_NoRow,m_NoText,m_Nought,m_NoWidth,n_ValueError,e_TooMany,ea_JoinError,s_TooMany_JoinError,i_TooMany,ka_law_told_0_TooMany,k_TooMany_TooMany,k_TooMany_ValueError⟩:=xf
 exact
 have g_law_tape:=nF d_law_tape B
 have g_law_draw:=nG d_law_draw B
 have g_joined:=sE d_joined B
 have g_own_rows:=nz d_own_rows B
 have g_may_join:=nA d_may_join B
 have g_Cases_with_row:=h_ ob_Cases d_Cases_with_row B
 have g_Cases_lacking:=iF ob_Cases d_Cases_lacking B
 have g_Cases_lacks_too_many:=eP ob_Cases d_Cases_lacks_too_many B g_Cases_lacking
 have g_first_cases:=jR ob_Cases d_first_cases B g_own_rows
 have g_Cases_free_rows:=gN ob_Cases d_Cases_free_rows B g_joined g_may_join
 have g_Cases_is_far:=jv ob_Cases d_Cases_is_far B g_joined g_may_join
 have z0_searched:=d_searched.no (P:=P) (w:=w) (mg:=mg) (base:=base) cZ 3
 have y0_searched_made:=aT 0 0 ob_Cases d_searched_made B g_Cases_with_row z0_searched
 have y0_searched_next:=aS 0 0 ob_Cases d_searched_next B g_Cases_with_row z0_searched
 have z1_searched:=bt 0 0 ob_Cases d_searched B g_Cases_lacking g_Cases_lacks_too_many g_Cases_free_rows g_Cases_is_far y0_searched_next y0_searched_made
 have y1_searched_made:=aT 1 2 ob_Cases d_searched_made B g_Cases_with_row z1_searched
 have y1_searched_next:=aS 1 2 ob_Cases d_searched_next B g_Cases_with_row z1_searched
 have z2_searched:=bt 1 2 ob_Cases d_searched B g_Cases_lacking g_Cases_lacks_too_many g_Cases_free_rows g_Cases_is_far y1_searched_next y1_searched_made
 have y2_searched_made:=aT 2 4 ob_Cases d_searched_made B g_Cases_with_row z2_searched
 have y2_searched_next:=aS 2 4 ob_Cases d_searched_next B g_Cases_with_row z2_searched
 have z3_searched:=bt 2 4 ob_Cases d_searched B g_Cases_lacking g_Cases_lacks_too_many g_Cases_free_rows g_Cases_is_far y2_searched_next y2_searched_made
 have y3_searched_made:=aT 3 6 ob_Cases d_searched_made B g_Cases_with_row z3_searched
 have y3_searched_next:=aS 3 6 ob_Cases d_searched_next B g_Cases_with_row z3_searched
 have z4_searched:=bt 3 6 ob_Cases d_searched B g_Cases_lacking g_Cases_lacks_too_many g_Cases_free_rows g_Cases_is_far y3_searched_next y3_searched_made
 have y4_searched_made:=aT 4 8 ob_Cases d_searched_made B g_Cases_with_row z4_searched
 have y4_searched_next:=aS 4 8 ob_Cases d_searched_next B g_Cases_with_row z4_searched
 have z5_searched:=bt 4 8 ob_Cases d_searched B g_Cases_lacking g_Cases_lacks_too_many g_Cases_free_rows g_Cases_is_far y4_searched_next y4_searched_made
 have y5_searched_made:=aT 5 10 ob_Cases d_searched_made B g_Cases_with_row z5_searched
 have y5_searched_next:=aS 5 10 ob_Cases d_searched_next B g_Cases_with_row z5_searched
 have z6_searched:=bt 5 10 ob_Cases d_searched B g_Cases_lacking g_Cases_lacks_too_many g_Cases_free_rows g_Cases_is_far y5_searched_next y5_searched_made
 have y6_searched_made:=aT 6 12 ob_Cases d_searched_made B g_Cases_with_row z6_searched
 have y6_searched_next:=aS 6 12 ob_Cases d_searched_next B g_Cases_with_row z6_searched
 have z7_searched:=bt 6 12 ob_Cases d_searched B g_Cases_lacking g_Cases_lacks_too_many g_Cases_free_rows g_Cases_is_far y6_searched_next y6_searched_made
 have y7_searched_made:=aT 7 14 ob_Cases d_searched_made B g_Cases_with_row z7_searched
 have y7_searched_next:=aS 7 14 ob_Cases d_searched_next B g_Cases_with_row z7_searched
 have z8_searched:=bt 7 14 ob_Cases d_searched B g_Cases_lacking g_Cases_lacks_too_many g_Cases_free_rows g_Cases_is_far y7_searched_next y7_searched_made
 have y8_searched_made:=aT 8 16 ob_Cases d_searched_made B g_Cases_with_row z8_searched
 have y8_searched_next:=aS 8 16 ob_Cases d_searched_next B g_Cases_with_row z8_searched
 have z9_searched:=bt 8 16 ob_Cases d_searched B g_Cases_lacking g_Cases_lacks_too_many g_Cases_free_rows g_Cases_is_far y8_searched_next y8_searched_made
 have y9_searched_made:=aT 9 18 ob_Cases d_searched_made B g_Cases_with_row z9_searched
 have y9_searched_next:=aS 9 18 ob_Cases d_searched_next B g_Cases_with_row z9_searched
 have z10_searched:=bt 9 18 ob_Cases d_searched B g_Cases_lacking g_Cases_lacks_too_many g_Cases_free_rows g_Cases_is_far y9_searched_next y9_searched_made
 have y10_searched_made:=aT 10 20 ob_Cases d_searched_made B g_Cases_with_row z10_searched
 have y10_searched_next:=aS 10 20 ob_Cases d_searched_next B g_Cases_with_row z10_searched
 have z11_searched:=bt 10 20 ob_Cases d_searched B g_Cases_lacking g_Cases_lacks_too_many g_Cases_free_rows g_Cases_is_far y10_searched_next y10_searched_made
 have y11_searched_made:=aT 11 22 ob_Cases d_searched_made B g_Cases_with_row z11_searched
 have y11_searched_next:=aS 11 22 ob_Cases d_searched_next B g_Cases_with_row z11_searched
 have z12_searched:=bt 11 22 ob_Cases d_searched B g_Cases_lacking g_Cases_lacks_too_many g_Cases_free_rows g_Cases_is_far y11_searched_next y11_searched_made
 have y12_searched_made:=aT 12 24 ob_Cases d_searched_made B g_Cases_with_row z12_searched
 have y12_searched_next:=aS 12 24 ob_Cases d_searched_next B g_Cases_with_row z12_searched
 have z13_searched:=bt 12 24 ob_Cases d_searched B g_Cases_lacking g_Cases_lacks_too_many g_Cases_free_rows g_Cases_is_far y12_searched_next y12_searched_made
 have g_searched:=z13_searched
 have g_joining:=qm d_joining B
 have g_all_words:=lZ d_all_words B g_joined
 have g_rows_of:=ql d_rows_of B g_all_words g_own_rows
 have g_first_alike:=jS d_first_alike B
 have g_leant_on:=nB d_leant_on B
 have g_tidied:=sD d_tidied B g_first_alike g_leant_on g_rows_of g_joining
 have g_first_joining:=iE d_first_joining B g_may_join g_joined
 have g_net_of_rows:=jQ d_net_of_rows B g_tidied g_first_joining
 have g_is_tried:=nH d_is_tried B c_FEW_GIVENS_COUNT c_MORE_GIVENS_COUNT c_FEW_GIVENS c_MORE_GIVENS
 have g_tried:=u4 d_tried B g_searched g_is_tried g_first_cases g_net_of_rows
 have x_tried_TooMany:=hU m_TooMany e_TooMany d_tried B g_is_tried
 have x_least_TooMany:=hV m_TooMany e_TooMany d_least B g_tried x_tried_TooMany c_FEW_GIVENS
 have g_least:=u5 d_least B g_tried c_FEW_GIVENS
 have g_law_small_wish:=hZ d_law_small_wish B g_law_draw
 have g_law_told:=nE m_TooMany m_JoinError ea_JoinError s_TooMany_JoinError m_Bare m_Leans m_Loose m_NoAnswer m_NoFit m_NoName m_NoRow m_NoText m_Nought m_NoWidth n_ValueError i_TooMany ka_law_told_0_TooMany k_TooMany_TooMany k_TooMany_ValueError d_law_told B g_least g_tried x_least_TooMany x_tried_TooMany
 have g_law:=zt d_law B g_law_tape g_law_small_wish g_law_draw g_law_told
 zF g_law
end
end K88
namespace PySem.W.Fast
def tw7865790513366716351:=()
def tw6988983216560105406:=()
def tw16598332775670553856:=()
def tw5342142681522480322:=()
def tw15892258758584295650:=()
def tw466603703439198969:=()
def tw6401274495372277866:=()
def tw7944761666728546399:=()
def tw14390222273672585925:=()
def tw11541782517273920299:=()
def tw18411618348622213398:=()
def tw3310157044524478169:=()
def tw14742233878332092974:=()
def tw17271466612891292782:=()
def tw9190931052240689040:=()
def tw12251405318024356679:=()
def tw15065790443694856955:=()
def tw12411695549534048410:=()
def tw4172905998720489188:=()
def tw12269564238751243352:=()
def tw4593769312670785371:=()
def tw13564538462646721612:=()
def tw12976468719634072560:=()
def tw11581466427010103617:=()
def tw1146393333581281754:=()
def tw6354520834845115359:=()
def tw3296268975305853431:=()
def tw15252489152676333493:=()
def tw10125002886929617316:=()
def tw305630762329848502:=()
def tw1675645059418646888:=()
def tw8636873599787985478:=()
def tw14926948630886756243:=()
def tw1589656257215348967:=()
def tw8349958345679297777:=()
def tw18378230411589422185:=()
def tw12851909934751104267:=()
def tw5394663834550991596:=()
def tw11266234649175043055:=()
def tw12875227822953258063:=()
def tw14352650729017362790:=()
def tw8027806725652666484:=()
def tw8591802695312975994:=()
def tw17150548659913552772:=()
def tw17388260718700380339:=()
def tw16707869281130542502:=()
def tw2116270943737675212:=()
def tw3652969000212927434:=()
def tw4087325807352974524:=()
def tw9757626183909004223:=()
def tw6466059614875781230:=()
def tw10109507367130605006:=()
def tw9875401316090036717:=()
def tw15813769363539752424:=()
def tw720017113287531993:=()
def tw14626453759941051303:=()
def tw17033162821283872636:=()
def tw3328968445835431290:=()
def tw7741900024187845465:=()
def tw11865448241749095295:=()
def tw18102546577235609094:=()
def tw14140140574954283905:=()
def tw5266115639251143046:=()
def tw5632557668340703703:=()
def tw12870460362582611295:=()
def tw14414653144153309479:=()
def tw3962506648431546306:=()
def tw1043942436113744220:=()
def tw1483799510661461958:=()
def tw12442982458049228694:=()
def tw12631912734287063093:=()
def tw9820626703489801119:=()
def tw8868005946662509119:=()
def tw14936213914278837116:=()
def tw8784013686588431480:=()
def tw11702427496910043289:=()
def tw10301472314099542792:=()
def tw485693695655925852:=()
def tw11867292372982172974:=()
def tw12618744432353412969:=()
def tw11771543902993954476:=()
def tw983910027362576388:=()
def tw7043877763973713940:=()
def tw9168680406605031561:=()
def tw7569850231613184141:=()
def tw14483668864873323570:=()
def tw14624900890968772986:=()
def tw2638649972290295979:=()
def tw15130792135600907667:=()
def tw16259058528796627541:=()
def tw9557477652873534464:=()
def tw7035945870425402881:=()
def tw16524941668702714713:=()
def tw5195621971863504386:=()
def tw13965587018004766968:=()
def tw7461635187568954854:=()
def tw15735386513723499463:=()
def tw829158424051419582:=()
def tw10921560393284866520:=()
def tw10047561352817843255:=()
def tw8118984034068257183:=()
def tw2329448454790506006:=()
def tw13940750106762977654:=()
def tw7185197665114577674:=()
def tw16021572501462152318:=()
def tw9563892659388537439:=()
def tw1857382445794849852:=()
def tw14717020024508429322:=()
def tw14857208970644066354:=()
def tw89321022126430725:=()
def tw16988249094393564216:=()
def tw4721968686917432802:=()
def tw5067241531866990200:=()
def tw4902664716781654798:=()
def tw3067249110558297579:=()
def tw6639381889978347177:=()
def tw17276218685335601853:=()
def tw3393024396387011055:=()
def tw12763923845496169409:=()
def tw10837733014683511373:=()
def tw14976933158643060831:=()
def tw1941233041297103575:=()
def tw13622772527676153809:=()
def tw14519214577245707977:=()
def tw5570953108577907932:=()
def tw6048427794969097506:=()
def tw10693581717119663788:=()
def tw17692138654579062273:=()
def tw9743758818645548808:=()
def tw16869216448646201072:=()
def tw18255535344473231465:=()
def tw9429802127409129523:=()
def tw15417204113224465138:=()
def tw12874087853226988637:=()
def tw13071996273739836247:=()
def tw601841738093972032:=()
def tw2513517342361365845:=()
def tw4320647565115233104:=()
def tw18343951445755633237:=()
def tw18167618339129213073:=()
def tw6943315252652716380:=()
def tw8578235497162648862:=()
def tw16673101013347313131:=()
def tw14789424271199052458:=()
def tw4429078349994665328:=()
def tw3614312867815188093:=()
def tw8216700741420020833:=()
def tw12300177770871670967:=()
def tw16827335287789243775:=()
def tw15215942586376852582:=()
def tw7007652089781136665:=()
def tw13730318387546291421:=()
def tw15457019595845288438:=()
def tw5314915496858326927:=()
def tw13018273818035676941:=()
def tw2273031779704510291:=()
def tw4310991360223390326:=()
def tw12376121255464247155:=()
def tw609680815220433464:=()
def tw11129183806174706585:=()
def tw16434852179614902104:=()
def tw6208990095705283496:=()
def tw463330069495757782:=()
def tw14259651851166090808:=()
def tw14601451575527470070:=()
def tw6985291796899802872:=()
def tw18199183199473688710:=()
def tw17426811535050860734:=()
def tw7943076475527056692:=()
def tw12406757477568016411:=()
def tw16673006629433663605:=()
def tw17792525412092983871:=()
def tw12000724847418419694:=()
def tw4619240659322421935:=()
def tw10591252348710198555:=()
def tw2865060350268899572:=()
def tw17806329744711164842:=()
def tw18051138107706702730:=()
def tw8757973910801372243:=()
def tw2955364470755460456:=()
def tw8448646673093681782:=()
def tw2484171303330540157:=()
def tw12136792532397856180:=()
def tw7669313967704717577:=()
def tw9830210346383325444:=()
def tw10691388066246221456:=()
def tw4884218977308593958:=()
def tw12652144391911941162:=()
def tw1521371049096884998:=()
def tw14666812006412244287:=()
def tw14008149987874783833:=()
def tw12522749268138660260:=()
def tw15893448137897786358:=()
def tw1173799005379107059:=()
def tw2643247291665022809:=()
def tw2607242764063558994:=()
def tw11231557831306682585:=()
def tw11856146387927042196:=()
def tw17044313375927262045:=()
def tw11710640824304440293:=()
def tw11722476459384791950:=()
def tw3704180311489647517:=()
def tw3790016266259284269:=()
def tw15952601566139316362:=()
def tw4264690880663501799:=()
def tw717885830175184760:=()
def tw1823194624513617037:=()
def tw6216681748333070817:=()
def tw7607511893971795017:=()
def tw6485441652277942749:=()
def tw13899971352269527419:=()
def tw7877281756906789134:=()
def tw18411301718036278274:=()
def tw3481201708087422061:=()
def tw4378369751022900965:=()
def tw10492012216861748514:=()
def tw18150928574311308322:=()
def tw9258804893136974929:=()
def tw12934670563790745269:=()
def tw17252778358995444980:=()
def tw16947594088982806020:=()
def tw8939720030902213804:=()
def tw7826851167554263408:=()
def tw7349049535938279567:=()
def tw2517088953093901230:=()
def tw18241293209769016326:=()
def tw16803737483922726960:=()
def tw12846834467870030743:=()
def tw16335023379941139633:=()
def tw12861849119020805747:=()
def tw4746369074639781889:=()
def tw11731512580848404723:=()
def tw16514673415047830753:=()
def tw16468640480470979371:=()
def tw16112680433751707346:=()
def tw9035467077487095451:=()
def tw10607063240052426764:=()
def tw12404658333404927199:=()
def tw2697235202395713654:=()
def tw172638714505081731:=()
def tw14009762204582083688:=()
def tw1050179861695034346:=()
def tw1179307424519324350:=()
def tw8021543563037700943:=()
def tw13490131326755791443:=()
def tw2054333749225654695:=()
def tw17331743733169658872:=()
def tw9391521303158395077:=()
def tw15131530832495724070:=()
def tw14753798635900451109:=()
def tw9541476414732091540:=()
def tw6461254482957781355:=()
def tw1041426088262156186:=()
def tw3561369013657582483:=()
def tw11320700476673253016:=()
def tw18319574748781532537:=()
def tw8879121646502474778:=()
def tw3398655485300472725:=()
def tw5526379245620899154:=()
def tw10445584511484903912:=()
def tw7720163839906135201:=()
def tw6265621894410438178:=()
def tw15881351773051654145:=()
def tw16501095869218070409:=()
def tw18015496836972974748:=()
def tw6659020602383851263:=()
def tw16582068945143603706:=()
def tw11077677729606012223:=()
def tw13866889443827554405:=()
def tw13813228456049725277:=()
def tw13153171822516733818:=()
def tw12048378246931352207:=()
def tw15825967583389942407:=()
def tw2303193501163158412:=()
def tw6077397417477079065:=()
def tw15825414066015442228:=()
def tw17812147596485621287:=()
def tw2425668052136388631:=()
def tw8912326470060189960:=()
def tw1311737715278885205:=()
def tw8338127379629834950:=()
def tw11843324447736806271:=()
def tw18429308319205371375:=()
def tw10986028176751654730:=()
def tw18341837347685616398:=()
def tw11324387494094639465:=()
def tw13484556515830879897:=()
def tw17237462477914038950:=()
def tw11105190082143630702:=()
def tw15551235920946533929:=()
def tw18185168041863719662:=()
def tw4706642562649722487:=()
def tw13977786916930145601:=()
def tw1308119406066841050:=()
def tw12206587594325577303:=()
def tw14036268564348550464:=()
def tw6453446711553056991:=()
def tw9106550084657445035:=()
def tw1690409867662953480:=()
def tw10157200187195738004:=()
def tw15267874285690438271:=()
def tw3225128242057346960:=()
def tw14206931802132768744:=()
def tw18186349063640348582:=()
def tw9244966838324179653:=()
def tw16477746135508803635:=()
def tw10124674506654324175:=()
def tw5680769397928315854:=()
def tw8695646414620806262:=()
def tw12694285867520760027:=()
def tw5898878164501350587:=()
def tw5345148670934606442:=()
def tw10146195296869587145:=()
def tw13981621748472078868:=()
def tw11961014751904258519:=()
def tw9912034698662614347:=()
def tw4148164901910497918:=()
def tw4820533158412495796:=()
def tw3329764337191563034:=()
def tw3023711087081723998:=()
def tw2058336425017283203:=()
def tw844622927504378221:=()
def tw12119067585991661526:=()
def tw1428247548464618097:=()
def tw15416158348952190035:=()
def tw8020623285642408807:=()
def tw12453107589143465077:=()
def tw12302073189823469002:=()
def tw6902872637913154567:=()
def tw7824124025367206111:=()
def tw3622186740478193123:=()
def tw7394117350262763104:=()
def tw17883583998386358671:=()
def tw6825554295586356791:=()
def tw9737900299904479141:=()
def tw13671064617818314611:=()
def tw2971793776640911945:=()
def tw7972839094214194839:=()
def tw1221509058073698064:=()
def tw15711549757614818366:=()
def tw106836500955326436:=()
def tw5465910342692485834:=()
def tw14055210048189490469:=()
def tw14211522076198112115:=()
def tw3754088388372998389:=()
def tw12820051197492390259:=()
def tw18149857014577862826:=()
def tw8586114928813762085:=()
def tw10552832713065379795:=()
def tw18367822706466108494:=()
def tw4966142039415588035:=()
def tw10346692434824971981:=()
def tw16106334931308921936:=()
def tw1781046166386217700:=()
def tw11869140466851511032:=()
def tw9570836901339051129:=()
def tw13138866630094296322:=()
def tw11646464599134673729:=()
def tw802053401263217402:=()
def tw5571545707103734553:=()
def tw17497446765839798793:=()
def tw14036999056771483582:=()
def tw16999067778052123951:=()
def tw10476352574246000214:=()
def tw11908166320676308970:=()
def tw8024192870038543398:=()
def tw18270057925241404318:=()
def tw9460427083717590430:=()
def tw5705399633635026079:=()
def tw5865407883218197501:=()
def tw14286065858573792941:=()
def tw3604332871536153327:=()
def tw16062140431420146089:=()
def tw6320819549407451466:=()
def tw13437101392698770962:=()
def tw7112651998256772018:=()
def tw10095788316900136849:=()
def tw6787860647713144344:=()
def tw2553014582553378316:=()
def tw7786477079743270175:=()
def tw4671897384191776244:=()
def tw2752109259659322192:=()
def tw3276748676177000955:=()
def tw5586568984002171318:=()
def tw12254669931538749323:=()
def tw1408545238298071742:=()
def tw4350893263455704843:=()
def tw14995564199460762713:=()
def tw1823961618025397251:=()
def tw10257339802765211570:=()
def tw148741500890262382:=()
def tw12603977822299979767:=()
def tw669395249794784002:=()
def tw13508749733454060777:=()
def tw13971514574395648854:=()
def tw1239379674394590932:=()
def tw12367466683489055199:=()
def tw3969949775299395910:=()
def tw14025327391624010745:=()
def tw267688480344104564:=()
def tw13345186469097367365:=()
def tw6358132294664167826:=()
def tw7537240291611712775:=()
def tw8702715553713234562:=()
def tw13760520345468961648:=()
def tw16367386307959503967:=()
def tw10722390480530252527:=()
def tw16300716739283169820:=()
def tw2395521361643365083:=()
def tw14075272163321383372:=()
def tw12895703748457501165:=()
def tw1600898600248464921:=()
def tw646433412653942655:=()
def tw11394391844410252676:=()
def tw2164438041451760458:=()
def tw6988884440338212202:=()
def tw176226843418718674:=()
def tw15905126445260052371:=()
def tw9284416354829635161:=()
def tw13030888008346616250:=()
def tw9965520084063141426:=()
def tw8072263488818266942:=()
def tw5233424822845078136:=()
def tw4147452594509615820:=()
def tw13863588658772211974:=()
def tw7415109769913456799:=()
def tw3433962220757983617:=()
def tw15653185260841297142:=()
def tw15852904011576200332:=()
def tw5680250635538919914:=()
def tw14712677319795859661:=()
def tw12420076194477406896:=()
def tw2738780094086102513:=()
def tw17226836365387589273:=()
def tw7463711210314688139:=()
def tw9792298029287654533:=()
def tw7084519457370943727:=()
def tw3164023172359671326:=()
end PySem.W.Fast
open PySem PySem.W PyProof.Rows
set_option maxRecDepth 100000 in
set_option maxHeartbeats 0 in
theorem PySem.Challenge.cw_fewjoins_k88_searches_refused_holds : PySem.Challenge.rw_fewjoins_k88_searches_refused.Holds := by
 w_on;o_law;k_head;(case hw=>w_witness2)
 k_fill
 refine L2.ur (l:=PySem.Challenge.rw_fewjoins_k88_searches_refused) (n:=63) (k:=34) (x := "_law_script") (CX:=L2.CX0) (sp:=L2.xj) rfl (by decide) rfl ⟨rfl,by decide,by decide,rfl⟩ (λw h Y=>PySem.W.kIn_of Y) ?F ?S ?C
 case S=>exact λK H a ns hl hO hS=>⟨a,ns,rfl,hS,hl,λ_=>rfl⟩
 case C=>exact λH s e s' h=>h
 case F =>
  intro w mg fa h KX G hmg
  have d_wall:L2.DefN (L2.KOf KX) mg "_wall" K88.wb ["k"]:=by
   dsimp only[L2.KOf]
   refine' L2.cg KX G ?a ?l ?c ?k (λ_ _ _ _ _ _ us hl=>match us,hl with | [_],_=>rfl)
   (case a=>k_is);(case l=>k_is);(case c=>k_is);(case k=>k_is)
  have d_joined:L2.DefN (L2.KOf KX) mg "joined" K88.iP ["one", "other"]:=by
   dsimp only[L2.KOf]
   refine' L2.cg KX G ?a ?l ?c ?k (λ_ _ _ _ _ _ us hl=>match us,hl with | [_,_],_=>rfl)
   (case a=>k_is);(case l=>k_is);(case c=>k_is);(case k=>k_is)
  have d_own_rows:L2.DefN (L2.KOf KX) mg "own_rows" K88.d5 ["many"]:=by
   dsimp only[L2.KOf]
   refine' L2.cg KX G ?a ?l ?c ?k (λ_ _ _ _ _ _ us hl=>match us,hl with | [_],_=>rfl)
   (case a=>k_is);(case l=>k_is);(case c=>k_is);(case k=>k_is)
  have d_joining:L2.DefN (L2.KOf KX) mg "joining" K88.gH ["one", "other"]:=by
   dsimp only[L2.KOf]
   refine' L2.cg KX G ?a ?l ?c ?k (λ_ _ _ _ _ _ us hl=>match us,hl with | [_,_],_=>rfl)
   (case a=>k_is);(case l=>k_is);(case c=>k_is);(case k=>k_is)
  have d_all_words:L2.DefN (L2.KOf KX) mg "all_words" K88.eM ["net", "words"]:=by
   dsimp only[L2.KOf]
   refine' L2.cg KX G ?a ?l ?c ?k (λ_ _ _ _ _ _ us hl=>match us,hl with | [_,_],_=>rfl)
   (case a=>k_is);(case l=>k_is);(case c=>k_is);(case k=>k_is)
  have d_rows_of:L2.DefN (L2.KOf KX) mg "rows_of" K88.gG ["net"]:=by
   dsimp only[L2.KOf]
   refine' L2.cg KX G ?a ?l ?c ?k (λ_ _ _ _ _ _ us hl=>match us,hl with | [_],_=>rfl)
   (case a=>k_is);(case l=>k_is);(case c=>k_is);(case k=>k_is)
  have d_first_cases:L2.DefN (L2.KOf KX) mg "first_cases" K88.dz ["wish", "clean", "count"]:=by
   dsimp only[L2.KOf]
   refine' L2.cg KX G ?a ?l ?c ?k (λ_ _ _ _ _ _ us hl=>match us,hl with | [_,_,_],_=>rfl)
   (case a=>k_is);(case l=>k_is);(case c=>k_is);(case k=>k_is)
  have d_may_join:L2.DefN (L2.KOf KX) mg "may_join" K88.fL ["clean", "one", "other"]:=by
   dsimp only[L2.KOf]
   refine' L2.cg KX G ?a ?l ?c ?k (λ_ _ _ _ _ _ us hl=>match us,hl with | [_,_,_],_=>rfl)
   (case a=>k_is);(case l=>k_is);(case c=>k_is);(case k=>k_is)
  have d_tidied:L2.DefN (L2.KOf KX) mg "tidied" K88.gF ["net"]:=by
   dsimp only[L2.KOf]
   refine' L2.cg KX G ?a ?l ?c ?k (λ_ _ _ _ _ _ us hl=>match us,hl with | [_],_=>rfl)
   (case a=>k_is);(case l=>k_is);(case c=>k_is);(case k=>k_is)
  have d_first_alike:L2.DefN (L2.KOf KX) mg "first_alike" K88.dA ["rows"]:=by
   dsimp only[L2.KOf]
   refine' L2.cg KX G ?a ?l ?c ?k (λ_ _ _ _ _ _ us hl=>match us,hl with | [_],_=>rfl)
   (case a=>k_is);(case l=>k_is);(case c=>k_is);(case k=>k_is)
  have d_leant_on:L2.DefN (L2.KOf KX) mg "leant_on" K88.d7 ["net", "stands"]:=by
   dsimp only[L2.KOf]
   refine' L2.cg KX G ?a ?l ?c ?k (λ_ _ _ _ _ _ us hl=>match us,hl with | [_,_],_=>rfl)
   (case a=>k_is);(case l=>k_is);(case c=>k_is);(case k=>k_is)
  have d_tried:L2.DefN (L2.KOf KX) mg "tried" K88.jc ["wish", "clean", "count"]:=by
   dsimp only[L2.KOf]
   refine' L2.cg KX G ?a ?l ?c ?k (λ_ _ _ _ _ _ us hl=>match us,hl with | [_,_,_],_=>rfl)
   (case a=>k_is);(case l=>k_is);(case c=>k_is);(case k=>k_is)
  have d_is_tried:L2.DefN (L2.KOf KX) mg "is_tried" K88.fP ["many", "count"]:=by
   dsimp only[L2.KOf]
   refine' L2.cg KX G ?a ?l ?c ?k (λ_ _ _ _ _ _ us hl=>match us,hl with | [_,_],_=>rfl)
   (case a=>k_is);(case l=>k_is);(case c=>k_is);(case k=>k_is)
  have d_least:L2.DefN (L2.KOf KX) mg "least" K88.jd ["wish", "clean"]:=by
   dsimp only[L2.KOf]
   refine' L2.cg KX G ?a ?l ?c ?k (λ_ _ _ _ _ _ us hl=>match us,hl with | [_,_],_=>rfl)
   (case a=>k_is);(case l=>k_is);(case c=>k_is);(case k=>k_is)
  have d_searched:L2.DefN (L2.KOf KX) mg "searched" K88.fK ["cases"]:=by
   dsimp only[L2.KOf]
   refine' L2.cg KX G ?a ?l ?c ?k (λ_ _ _ _ _ _ us hl=>match us,hl with | [_],_=>rfl)
   (case a=>k_is);(case l=>k_is);(case c=>k_is);(case k=>k_is)
  have d_searched_made:L2.DefN (L2.KOf KX) mg "searched_made" K88.cT ["cases", "row"]:=by
   dsimp only[L2.KOf]
   refine' L2.cg KX G ?a ?l ?c ?k (λ_ _ _ _ _ _ us hl=>match us,hl with | [_,_],_=>rfl)
   (case a=>k_is);(case l=>k_is);(case c=>k_is);(case k=>k_is)
  have d_searched_next:L2.DefN (L2.KOf KX) mg "searched_next" K88.cS ["cases", "free"]:=by
   dsimp only[L2.KOf]
   refine' L2.cg KX G ?a ?l ?c ?k (λ_ _ _ _ _ _ us hl=>match us,hl with | [_,_],_=>rfl)
   (case a=>k_is);(case l=>k_is);(case c=>k_is);(case k=>k_is)
  have d_net_of_rows:L2.DefN (L2.KOf KX) mg "net_of_rows" K88.cy ["wish", "clean", "known"]:=by
   dsimp only[L2.KOf]
   refine' L2.cg KX G ?a ?l ?c ?k (λ_ _ _ _ _ _ us hl=>match us,hl with | [_,_,_],_=>rfl)
   (case a=>k_is);(case l=>k_is);(case c=>k_is);(case k=>k_is)
  have d_first_joining:L2.DefN (L2.KOf KX) mg "first_joining" K88.cp ["things", "row", "clean"]:=by
   dsimp only[L2.KOf]
   refine' L2.cg KX G ?a ?l ?c ?k (λ_ _ _ _ _ _ us hl=>match us,hl with | [_,_,_],_=>rfl)
   (case a=>k_is);(case l=>k_is);(case c=>k_is);(case k=>k_is)
  have d_law_tape:L2.DefN (L2.KOf KX) mg "_law_tape" K88.fN ["_law_script"]:=by
   dsimp only[L2.KOf]
   refine' L2.cg KX G ?a ?l ?c ?k (λ_ _ _ _ _ _ us hl=>match us,hl with | [_],_=>rfl)
   (case a=>k_is);(case l=>k_is);(case c=>k_is);(case k=>k_is)
  have d_law_draw:L2.DefN (L2.KOf KX) mg "_law_draw" K88.fO ["_law_tape_here", "_law_many"]:=by
   dsimp only[L2.KOf]
   refine' L2.cg KX G ?a ?l ?c ?k (λ_ _ _ _ _ _ us hl=>match us,hl with | [_,_],_=>rfl)
   (case a=>k_is);(case l=>k_is);(case c=>k_is);(case k=>k_is)
  have d_law_small_wish:L2.DefN (L2.KOf KX) mg "_law_small_wish" K88.bZ ["_law_tape_here", "_law_low", "_law_most"]:=by
   dsimp only[L2.KOf]
   refine' L2.cg KX G ?a ?l ?c ?k (λ_ _ _ _ _ _ us hl=>match us,hl with | [_,_,_],_=>rfl)
   (case a=>k_is);(case l=>k_is);(case c=>k_is);(case k=>k_is)
  have d_law_told:L2.DefN (L2.KOf KX) mg "_law_told" K88.fM ["_law_way", "_law_wish", "_law_clean", "_law_count"]:=by
   dsimp only[L2.KOf]
   refine' L2.cg KX G ?a ?l ?c ?k (λ_ _ _ _ _ _ us hl=>match us,hl with | [_,_,_,_],_=>rfl)
   (case a=>k_is);(case l=>k_is);(case c=>k_is);(case k=>k_is)
  have d_law:L2.DefN (L2.KOf KX) mg "law" K88.uK ["_law_script"]:=by
   dsimp only[L2.KOf]
   refine' L2.cg KX G ?a ?l ?c ?k (λ_ _ _ _ _ _ us hl=>match us,hl with | [_],_=>rfl)
   (case a=>k_is);(case l=>k_is);(case c=>k_is);(case k=>k_is)
  have B:L2.BI mg:=by
   refine' L2.AD KX G ?z_len ?z_range ?z_isinstance ?z_int ?z_bool ?z_list ?z_tuple ?z_str ?z_sum ?z_all ?z_max ?z_min ?z_sorted ?z_set ?z_zip ?z_enumerate ?z_reversed ?z_dict ?z_any ?z_abs ?z_repr
   (case z_len=>k_is);(case z_range=>k_is);(case z_isinstance=>k_is);(case z_int=>k_is);(case z_bool=>k_is);(case z_list=>k_is);(case z_tuple=>k_is);(case z_str=>k_is);(case z_sum=>k_is);(case z_all=>k_is);(case z_max=>k_is);(case z_min=>k_is);(case z_sorted=>k_is);(case z_set=>k_is);(case z_zip=>k_is);(case z_enumerate=>k_is);(case z_reversed=>k_is);(case z_dict=>k_is);(case z_any=>k_is);(case z_abs=>k_is);(case z_repr=>k_is)
  have c_FEW_GIVENS:∃u,mg "FEW_GIVENS" = some u/\L2.RelV (.int 4) u:=by
   refine' ⟨_,BE KX G ?a,?b⟩
   (case a=>k_is)
   (case b=>exact⟨_,rfl⟩)
  have c_FEW_GIVENS_COUNT:∃u,mg "FEW_GIVENS_COUNT" = some u/\L2.RelV (.int 11) u:=by
   refine' ⟨_,BE KX G ?a,?b⟩
   (case a=>k_is)
   (case b=>exact⟨_,rfl⟩)
  have c_MORE_GIVENS:∃u,mg "MORE_GIVENS" = some u/\L2.RelV (.int 6) u:=by
   refine' ⟨_,BE KX G ?a,?b⟩
   (case a=>k_is)
   (case b=>exact⟨_,rfl⟩)
  have c_MORE_GIVENS_COUNT:∃u,mg "MORE_GIVENS_COUNT" = some u/\L2.RelV (.int 3) u:=by
   refine' ⟨_,BE KX G ?a,?b⟩
   (case a=>k_is)
   (case b=>exact⟨_,rfl⟩)
  have xf:K88.XF (L2.KOf KX) mg:=by
   dsimp only[L2.KOf]
   refine' K88.XF.mk KX G ?f0 ?f1 ?f2 ?f3 ?f4 ?f5 ?f6 ?f7 ?f8 ?f9 ?f10 ?f11 ?f12 ?f13 ?f14 ?f15 ?f16_0 ?f16_1 ?f16_2 ?f16_3 ?f16_4 ?f16_5 ?f16_6 ?f16_7 ?f17 ?f18 ?f19
   (case f0=>k_is);(case f1=>k_is);(case f2=>k_is);(case f3=>k_is);(case f4=>k_is);(case f5=>k_is);(case f6=>k_is);(case f7=>k_is);(case f8=>k_is);(case f9=>k_is);(case f10=>k_is);(case f11=>k_is);(case f12=>k_is);(case f13=>k_exc);(case f14=>k_exc);(case f15=>k_is);(case f16_0=>k_is);(case f16_1=>k_is);(case f16_2=>k_is);(case f16_3=>k_is);(case f16_4=>k_is);(case f16_5=>k_is);(case f16_6=>k_is);(case f16_7=>k_is);(case f17=>kit_is);(case f18=>kit_is);(case f19=>kit_is)
  have oc_Cases:∃C_Cases:Addr,L2.ClsO (L2.KOf KX) mg C_Cases "Cases" ["wished", "clean", "known", "shut", "left"]/\L2.DefM (L2.KOf KX) C_Cases "__init__" "Cases.__init__" K88.br ["self", "wished", "clean", "known", "shut", "left"]/\L2.DefM (L2.KOf KX) C_Cases "with_row" "Cases.with_row" K88.bq ["self", "row", "shut"]/\L2.DefM (L2.KOf KX) C_Cases "lacking" "Cases.lacking" K88.bo ["self"]/\L2.DefM (L2.KOf KX) C_Cases "free_rows" "Cases.free_rows" K88.aW ["self"]/\L2.DefM (L2.KOf KX) C_Cases "lacks_too_many" "Cases.lacks_too_many" K88.aU ["self"]/\L2.DefM (L2.KOf KX) C_Cases "is_far" "Cases.is_far" K88.bb ["self", "row"]/\L2.DefM (L2.KOf KX) C_Cases "shown_by" "Cases.shown_by" K88.bO ["self", "paper"]/\L2.DefM (L2.KOf KX) C_Cases "shown_far" "Cases.shown_far" K88.bF ["self", "row"]/\L2.DefM (L2.KOf KX) C_Cases "shown_made" "Cases.shown_made" K88.bD ["self", "row", "paper"]/\L2.DefM (L2.KOf KX) C_Cases "shown_next" "Cases.shown_next" K88.bC ["self", "papers"]:=by
   dsimp only[L2.KOf]
   refine' K88.qp KX G ?f0 ?f1 ?f2 ?f3 ?f4 ?f5 ?f6 ?na0 ?na1 ?na2 ?na3 ?na4 ?m0_0 ?m0_1 ?m0_2 ?m0_3 ?m0_4 ?m1_0 ?m1_1 ?m1_2 ?m1_3 ?m1_4 ?m2_0 ?m2_1 ?m2_2 ?m2_3 ?m2_4 ?m3_0 ?m3_1 ?m3_2 ?m3_3 ?m3_4 ?m4_0 ?m4_1 ?m4_2 ?m4_3 ?m4_4 ?m5_0 ?m5_1 ?m5_2 ?m5_3 ?m5_4 ?m6_0 ?m6_1 ?m6_2 ?m6_3 ?m6_4 ?m7_0 ?m7_1 ?m7_2 ?m7_3 ?m7_4 ?m8_0 ?m8_1 ?m8_2 ?m8_3 ?m8_4 ?m9_0 ?m9_1 ?m9_2 ?m9_3 ?m9_4
   (case f0=>k_is);(case f1=>k_is);(case f2=>k_is);(case f3=>k_is);(case f4=>k_is);(case f5=>k_is);(case f6=>k_is);(case na0=>k_is);(case na1=>k_is);(case na2=>k_is);(case na3=>k_is);(case na4=>k_is);(case m0_0=>k_is);(case m0_1=>k_is);(case m0_2=>k_is);(case m0_3=>k_is);(case m0_4=>k_is);(case m1_0=>k_is);(case m1_1=>k_is);(case m1_2=>k_is);(case m1_3=>k_is);(case m1_4=>k_is);(case m2_0=>k_is);(case m2_1=>k_is);(case m2_2=>k_is);(case m2_3=>k_is);(case m2_4=>k_is);(case m3_0=>k_is);(case m3_1=>k_is);(case m3_2=>k_is);(case m3_3=>k_is);(case m3_4=>k_is);(case m4_0=>k_is);(case m4_1=>k_is);(case m4_2=>k_is);(case m4_3=>k_is);(case m4_4=>k_is);(case m5_0=>k_is);(case m5_1=>k_is);(case m5_2=>k_is);(case m5_3=>k_is);(case m5_4=>k_is);(case m6_0=>k_is);(case m6_1=>k_is);(case m6_2=>k_is);(case m6_3=>k_is);(case m6_4=>k_is);(case m7_0=>k_is);(case m7_1=>k_is);(case m7_2=>k_is);(case m7_3=>k_is);(case m7_4=>k_is);(case m8_0=>k_is);(case m8_1=>k_is);(case m8_2=>k_is);(case m8_3=>k_is);(case m8_4=>k_is);(case m9_0=>k_is);(case m9_1=>k_is);(case m9_2=>k_is);(case m9_3=>k_is);(case m9_4=>k_is)
  refine L2.xU d_law hmg λbase=>?_
  exact K88.fin d_wall d_joined d_own_rows d_joining d_all_words d_rows_of d_first_cases d_may_join d_tidied d_first_alike d_leant_on d_tried d_is_tried d_least d_searched d_searched_made d_searched_next d_net_of_rows d_first_joining d_law_tape d_law_draw d_law_small_wish d_law_told d_law c_FEW_GIVENS c_FEW_GIVENS_COUNT c_MORE_GIVENS c_MORE_GIVENS_COUNT xf oc_Cases B
#print axioms PySem.Challenge.cw_fewjoins_k88_searches_refused_holds

