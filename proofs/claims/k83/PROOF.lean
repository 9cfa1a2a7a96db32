import PyProof.Rows.All
import Wide.All
import OpenK.AllK
import Wide.FinOn
import Lean
import PyProof.EqAt
import PyProof.EqKinds
import PyProof.TupleCall
import PyProof.NeKinds
import PyProof.ListMulAny
import PyProof.Rows.CallKwBuiltin
import PyProof.MinMaxWalk
import PyProof.SeqI3
import PyProof.Rows.TupAdd
import PyProof.MeetsDict
import PyProof.DictList
import PyProof.ZipIter
import PyProof.Rows.ZipGen
import PyProof.ListRange
import PyProof.TupleOfStr
import PyProof.Rows.FStr
import PyProof.Rows.StrJoin2
import PyProof.Rows.Range3
import PyProof.EnumMake
import PyProof.EnumFor
import PyProof.EnumStmt
import KE.KUnpackStar
import KE.KDictList
import PyProof.Rows.SortWalk
import KE.RegKIsAll
import PyProof.NsDelKeeps
import PyProof.Rows.CountFlat
import KE.KRevIter
import PyProof.Draws
import PyProof.ExcInit
import PyProof.InstStoreFacts
import PyProof.DictCompW
import PyProof.DictIter
import PyProof.DictWalks
import PyProof.Rows.SetFrom
import PyProof.SetRoads
import KE.KDictOf
import PyProof.Rows.SortShellK
import PyProof.ReprRoads
import PyProof.CallFns
import PyProof.DictUpdate
import KE.KDictLaws
import PySem.Challenge.RW_fewjoins_k83_fewest_of_three_givens
open Array renaming getElem?_eq_getElem→C2,length_toList→Di,getElem?_toList→FN,getElem_toList→FT,toList_push→Gw,getElem?_eq_none→HP,getD→IA,toList→JO
open Bool renaming and_eq_true→BP,false_ne_true→B4,not_eq_true'→CL,not_eq_true→CQ,true_and→Du,eq_false_iff→DB,false_and→DY,false_eq_true→D5,eq_iff_iff→D8,or_eq_true→ET,and_false→FX,or_false→Gf,and_true→HJ,not_false→JD,false_or→JN
open Classical renaming byContradiction→DJ
open False renaming elim→DI
open Iff renaming rfl→Hr
open Int renaming toNat_natCast→Cr,eq_ofNat_of_zero_le→CW,zero_add→FM,natCast_nonneg→Gu,le_of_lt→GP,ediv_nonneg→Hi,fdiv_eq_ediv_of_nonneg→Hy,ofNat_inj→HM,emod_lt_of_pos→I_,emod_nonneg→JC,ne_of_gt→Kf
open List renaming getElem?_eq_getElem→bv,length_map→f8,mem_append_right→ga,getElem?_eq_some_iff→im,getD_eq_getElem?_getD→kt,size_toArray→on,contains_iff_mem→o0,replicate→pc,mem_cons→sB,range→sK,map_cons→wl,getElem?_map→wn,mem_singleton→wv,length_append→wS,length_cons→At,mem_filter→AC,mem_append→BO,getElem?_append_left→BQ,mem_append_left→BS,mem_cons_of_mem→BU,length_take→B0,mem_cons_self→B3,append_nil→B5,getElem?_set_ne→B6,map_append→B7,map_map→B8,mem_range→B9,drop_eq_getElem_cons→B_,mem_of_getElem?→Cb,getElem?_append_right→Cc,append_assoc→Cd,take_length→Cf,getElem?_drop→Cg,mem_map→Cn,not_mem_nil→Cp,take_of_length_le→CC,take_add_one→CD,drop_eq_nil_of_le→CF,length_filter_le→CH,find?_cons→CJ,getElem?_replicate→CK,find?_cons_of_neg→CM,getElem_of_mem→C3,nodup_append→C4,length_range→C5,length_replicate→C7,lookup_cons→C_,pairwise_lt_range→Dg,map_nil→Dh,length_singleton→Dp,getElem?_eq_none→Dq,pairwise_cons→Dr,any_eq_true→Ds,any_cons→Dt,getElem?_cons_zero→Dz,ext_getElem?→DA,range_succ→DC,all_eq_true→DG,pairwise_iff_getElem→DP,drop_left'→DT,filterMap_cons→DW,getElem_mem→DX,getElem?_set_self→D4,foldl_cons→D7,take_append_drop→Ea,lookup→Ee,length_pos_iff→Ek,nodup_cons→Eo,foldl_append→Ex,find?_cons_of_pos→Ey,length_drop→EE,map_take→EL,take_append_of_le_length→EN,eq_nil_of_length_eq_zero→EO,drop_eq_nil_iff→EQ,map_congr_left→E1,length_reverse→E2,getElem?_range→E3,flatMap_append→E4,filter_sublist→E5,idxOf_lt_length_of_mem→E7,filter_append→Fg,flatMap_cons→Fm,getElem?_take_of_lt→Fq,all_cons→Fs,isEmpty_iff→Fy,filter_cons_of_pos→Fz,filter_cons_of_neg→FA,filter_cons→FC,filter_eq_nil_iff→FH,pairwise_append→FV,getElem_toArray→FW,getElem_idxOf→Gh,getElem_take→GC,find?_append→GD,any_map→GF,mem_flatMap→GR,flatMap_nil→GS,drop_length→GU,of_mem_zip→G5,length_set→G6,find?_some→G7,filter_nil→G8,length_eraseIdx_of_lt→Hn,drop_zero→Ho,mem_of_find?_eq_some→Hv,exists_mem_of_ne_nil→Hw,set_eq_of_length_le→HG,length_erase_of_mem→HH,mem_of_mem_erase→Ii,getElem?_reverse→Ij,perm_cons_erase→Im,mem_of_mem_take→Io,mem_of_mem_drop→Ip,map→Iq,ne_nil_of_mem→IQ,mem_filterMap→IR,pairwise_map→I0,map_flatMap→Je,nil_append→Jn,length_nil→Jo,take_zero→JA,nodup_nil→JB,take_nil→JL,drop_nil→JM,any_nil→JY,all_map→JZ,length→Kc
open List.Nodup renaming length_le_of_subset→Cu
open List.Pairwise renaming filter→D3,sublist→Kd,and→Ke
open List.Perm renaming append_left→Hq
open List.cons renaming injEq→ED
open Nat renaming le_refl→li,ne_of_lt→wP,lt_of_lt_of_le→xz,le_trans→xL,zero_le→zn,lt_or_ge→BW,mod_two_eq_zero_or_one→Cy,le_of_lt→CI,zero_add→CU,ne_of_gt→CV,lt_trichotomy→Dj,pow_le_pow_right→Dx,lt_trans→DE,lt_succ_self→DH,xor_comm→DU,lt_irrefl→DV,testBit_zero→Ei,xor_assoc→Em,testBit_xor→Er,testBit_and→EX,not_lt_zero→EY,min_eq_left→EZ,xor_zero→Fc,xor_self→Fd,le_of_eq→Fe,lt_of_le_of_lt→Fi,lt_succ_of_lt→Fo,le_succ→Fp,shiftLeft_eq→FE,min_eq_right→FF,pow_lt_pow_right→F2,mul_le_mul→F3,eq_of_testBit_eq→F4,pos_of_ne_zero→Gs,sub_zero→GK,one_shiftLeft→GL,le_total→GN,and_comm→GO,zero_testBit→G1,one_mul→G4,zero_xor→Ig,sub_self→Ih,not_succ_le_zero→Iy,xor_lt_two_pow→IZ,succ_ne_self→Jk,succ_le_succ→Jl,max_eq_right→Jm,two_pow_pos→Jx,strongRecOn→Jy,max_eq_left→Jz,add_assoc→JX,add_zero→Kb,add_mul→Kq
open Ne renaming symm→Dk
open Option renaming map_eq_some_iff→BR,toList_some→DF,map_some→FD,isSome_map→Gg,getD_none→IP
open Option.some renaming injEq→Co,inj→Dc
open Prod renaming fst→BV,snd→Ce
open Prod.mk renaming injEq→Eh
open PyProof.Rows renaming callWith_type1→CB,step_dedup→Eb,IntsAre→Ez,envOfC→EU,callWith_builtin1→FU,AllBare→F5,subscriptTail→Iu,Call_→IS,subscriptTail_builtinR→IV,Subscript_→JJ
open PyProof.Rows.IntsAre renaming length→G2
open PySem renaming wpAny_bind→bm,Value→bn,Shared→ca,wpAny_pure→dL,wpAny→lm,model→sn,Program→wE,sizeLine→wT,mainGlobals→BZ,starEach→B1,World→B2,Around→Ca,bootBuiltins→Cz,mem_of_lookup→CP,wpAny_standAt→CT,foldedSetIterable→CY,codeAny→CZ,letOwnedTupleGo→Db,wpAny_setField_rec→Dd,wpAny_call_entry→Df,wpAny_truthy_bool→Dl,wpAny_newObj_type→Dm,wpAny_mono→Dn,compareOp→Do,Scope→Dw,wpAny_comprehension_free→Dy,wpAny_callSpecial?_slot→DD,rawInt→DK,intKind→DL,wpAny_askSetting→DO,wpAny_rule→DQ,SetTable→DR,wpAny_holding→DZ,sysModules→D0,assign→D1,backTo→D6,wpAny_field→D9,wpAny_passesOwn→Ed,wpAny_setState_of→Ef,standAt→Eg,NameKind→El,pyNext→Es,binaryOp→Eu,wpAny_updateSeq→Ev,valueAt→Ew,sizeLine_eq→EB,wpAny_pyIter_enum→EG,fits_of_scanBound→EH,cLine→EI,Result→EK,FuncData→EM,builtinLookup_eq_fast→ES,closureFor→EV,assignEach→EW,behindInMarks→E6,wpAny_newFunctionEnv→E8,sliceBounds→E9,keywordEach→E_,theTreesLotGoes→Fh,codeAny_mono→Fl,scanBound→Fn,wpAny_pyIter_tuple→Ft,wpAny_Call_Name_kw→Fu,tupleKind_room_in1→Fv,isTrue→Fw,wpAny_assign_Name→FG,plainId_quiet→FI,comprehension→FJ,attributeBase→FK,wpAny_isInstance→FO,swapsWith→FP,noteFrame→FQ,compTurn→FR,codeAny_loop→FY,wpAny_specialOf→F6,wpAny_execs_nil→F7,typeLookup_type→F8,codeAny_builtin→F9,exec_Assign_Name_used→F_,wpAny_seqItems→Gk,wpAny_noted→Gm,relayAll→Gn,newFunctionEnv→Go,backToKw→Gp,list_append→Gq,updateSeq→Gx,relabel→Gy,holding→Gz,getMethod→GA,callerA→GB,wpAny_setEntries_of→GH,wpAny_attempt→GQ,typeLookup→GW,setsByText→GX,pyIter→GY,call_meets→GZ,setNext→G_,compPost→Hc,tupleKind→Hs,stored→Ht,IsEnum→Hx,subscripted→HB,wpAny_ite_split→HK,Within→HL,getItem→HQ,Keyword→HR,BindsTo→HV,wpAny_letOwnedTupleGo_enum→HW,isSubtype_type→HX,isSubtype_stop→HY,dictSetDefault→HZ,compEnvC→H_,bindArgs→Ia,atKey→Ib,Paired→Ie,call→Iv,wpAny_pyNext_enum_itemD→IC,field→ID,drawOrder→IE,compStart→IF,bindL→IG,bindC→IH,again→II,wpAny_typeOf→IT,wpAny_pyNext_enum_endD→IU,newList→IW,codeAny_compStart_list→IX,ElemsOf→Ja,wpAny_isTrue_Compare1→Jb,wpAny_pyIter_revIter→Jg,wpAny_of_eq→Jh,wpAny_loadName_local→Ji,callWith→Jj,GenState→Jp,CmpOp→Jq,wpAny_loadName_cell→Jv,wpAny_load→JE,wpAny_Name→JF,findBy_of_findIdx?→JG,cellOf→JH,builtinsNs→JI,wpAny_storeSet_of→JP,wpAny_pyIter_slot→JQ,wpAny_pyIter_list→JR,spliced→JS,slot_list_getitem→JT,Draws→J5,wpAny_execs_cons→J6,storeName→J7,seqItems?→J8,pickOrder→J9,cellsFrom→J_,theWindowsPlace→Ki,codeAny_of_tree→Kj
open PySem.Around renaming under_plainId→EF,under→Gj
open PySem.AutoSeq1 renaming list_insert_list_int_val_1→JW
open PySem.Builtin renaming bitAnd→Ct,bitXor→Et,bitOr→Jf
open PySem.Builtin.Dict renaming keyAndDefault→Kt
open PySem.Builtin.Frozenset renaming slot0→Jr,sizeOf→Js,oneOther→Jt,addrOf→Ju
open PySem.Builtin.List renaming listExtendWith→C8,listSameRef→Ec,listLengthHint→EC,listFitsIndex→Gi,listItems→GV,listUpdate→Kr,listTouch→Ks
open PySem.Builtin.Range renaming rangeSize→GG
open PySem.Builtin.SmallTypes renaming ownedTupleIsFree→Fj
open PySem.Calls renaming spliced_cons→Ep,spliced_nil→Fk,Name_function_global→Hj,callWith_builtin→HN,evalArgs_plain→Ik
open PySem.Code renaming isFrame→HU,frames→Kh
open PySem.F renaming plainAttrs_list→Ch,type_list_append→Cv,slot_list_append→Cw,plain_extend_loop→DM,slot_tuple_iterator_next→Ej,slot_enumerate_next→ER,args_list_append_2→Ge,entry_list_append→Gv,slot_dict_setdefault→GJ,entry_extend_loop→G3,slot_list_insert→Hf,slot_dict_update→Hg,slot_list_index→Hk,plain_list_iadd→Hl,plainAttrs_dict→Hm,args_tuple_iterator_next_1→HA,slot_set_iter→HF,entry_tuple_iterator_next→HI,args_enumerate_next_1→Ir,entry_enumerate_next→Iz
open PySem.Heap renaming get?_push_of_some→db,lt_size→lc,get?_push_size→ww,SameBut→Cq,get?_update_other→CN,get?_update_self→CS,size_push→C0,dictOf_iff→G9,ExtBut→Kg
open PySem.Heap.DictOf renaming new→HS
open PySem.Heap.IsSliceOf renaming new→J0
open PySem.Heap.SameBut renaming update→C9,refl→Hz
open PySem.IsL renaming update→Gd
open PySem.Obj renaming mapSeq→C1,putSet→Gr,data_mapDictKeys→Ix,data_mapFields→IY
open PySem.Paired renaming length→F1,snoc→JK
open PySem.PassesOwn renaming never→Cj
open PySem.SeqAt renaming EqAt→Fb,RcAt→He
open PySem.SeqAt.EqAt renaming str_int→HC,int_str→HD
open PySem.SeqAt.RcNeAt renaming tuples→Kk,lists_lengths→Kl,lists→Km
open PySem.SetTable renaming below→Cm,grown→D_,fresh→IK,Probe→IL
open PySem.SetTable.Met.empty renaming injEq→Jc
open PySem.SetTable.below renaming go→EJ
open PySem.SetTable.probe renaming go→Hd
open PySem.Str renaming ofString→Fa
open PySem.Value renaming isInt_shape→IJ,isStrOf→Jw,isInt→JV
open PySem.W renaming Frag→bi,mg_none_of→BX,findIn→BY,keepIn→Ci,nsIn→Ck,fnOf→CA,codeIn→CG,kia_one→CO,isFn→C6,emptyDict→De,instObj→DN,mg_of→DS,plainGet→EA,hasDictIn→Ff,makesIn→Fx,lookIn→FL,plainGet_of→FS,callWith_K→FZ,plainOver→Ga,methodObj→Gb,kitx_list→Gc,takerIn→GI,kitOne→G0,cellsFrom_some→Hu,methodCall_KW→HE,kitx_tuple→Ic,kitx_dict→Il,handedIn→Iw,OpenLaw→IM,WalkO→Jd
open PySem.W.Looks renaming here→Ka
open PySem.W.WShape renaming has→JU
open PySem.Within renaming cons→Kn
open PySem.pickOrder renaming go→Ha
set_option Elab.async false
set_option linter.all false
set_option maxRecDepth 100000
namespace L2
open PySem PySem.Spec PyProof.Rows
abbrev Key:=Sum Int Str
def sF:Key->bn->Bool
 | .inl k,v=>JV k v
 | .inr x,v=>Jw x v
def keyH (w:B2):Key->Int
 | .inl k=>hashInt k
 | .inr x=>hashStr w x
theorem b_:∀ {k:Key} {v:bn},sF k v=true->(∃i t,k=Sum.inl i/\v=Value.int i t)∨(∃x t,k=Sum.inr x/\v=Value.str x t)
 | .inl i,v,h=>by
  obtain⟨t,e⟩:=IJ (k:=i) (v:=v) h
  exact .inl ⟨i,t,rfl,e⟩
 | .inr x,v,h=>by
  obtain⟨t,e⟩:=Value.isStrOf_shape (x:=x) (v:=v) h
  exact .inr ⟨x,t,rfl,e⟩
theorem uO (i:Int)(t:Tok):sF (.inl i) (.int i t)=true:=by simp[sF,JV]
theorem uN (x:Str)(t:Tok):sF (.inr x) (.str x t)=true:=by simp[sF,Jw]
theorem AB (a b:Int):decide ((Sum.inl a:Key)=Sum.inl b)=(a==b):=by
 by_cases e:a=b
 ·subst e;simp
 ·have h:¬(Sum.inl a:Key)=Sum.inl b:=λq=>e (Sum.inl.inj q)
  rw[decide_eq_false h]
  exact(beq_eq_false_iff_ne.mpr e).symm
theorem Ax (a b:Str):decide ((Sum.inr a:Key)=Sum.inr b)=decide (a=b):=by
 by_cases e:a=b
 ·subst e;simp
 ·have h:¬(Sum.inr a:Key)=Sum.inr b:=λq=>e (Sum.inr.inj q)
  rw[decide_eq_false h,decide_eq_false e]
theorem Az (a:Int)(b:Str):decide ((Sum.inl a:Key)=Sum.inr b)=false:=decide_eq_false (λq=>nomatch q)
theorem Ay (a:Str)(b:Int):decide ((Sum.inr a:Key)=Sum.inl b)=false:=decide_eq_false (λq=>nomatch q)
def bG (prog:wE)(w:B2):PySem.KeyKind prog w Key where
 is:=sF
 hash:=keyH w
 inj:=λv a b ha hb=>by
  rcases b_ ha with⟨i,t,rfl,rfl⟩ | ⟨x,t,rfl,rfl⟩
  ·rcases b_ hb with⟨j,u,rfl,e⟩ | ⟨y,u,rfl,e⟩
   ·injection e with e1 _;rw[e1]
   ·exact nomatch e
  ·rcases b_ hb with⟨j,u,rfl,e⟩ | ⟨y,u,rfl,e⟩
   ·exact nomatch e
   ·injection e with e1 _;rw[e1]
 byValue:=λk v h=>by
  rcases b_ h with⟨i,t,rfl,rfl⟩ | ⟨x,t,rfl,rfl⟩ <;> rfl
 pyHash:=λhv h=>by
  rcases b_ hv with⟨i,t,rfl,rfl⟩ | ⟨x,t,rfl,rfl⟩
  ·exact wpAny_pyHash_int h
  ·exact wpAny_pyHash_str h
 eqBool:=λhu hv h=>by
  rcases b_ hu with⟨i,t,rfl,rfl⟩ | ⟨x,t,rfl,rfl⟩
  ·rcases b_ hv with⟨j,u,rfl,rfl⟩ | ⟨y,u,rfl,rfl⟩
   ·rw[AB]at h;exact wpAny_eqBool_int h
   ·rw[Az]at h;exact HD i t y u _ _ _ _ h
  ·rcases b_ hv with⟨j,u,rfl,rfl⟩ | ⟨y,u,rfl,rfl⟩
   ·rw[Ay]at h;exact HC x t j u _ _ _ _ h
   ·rw[Ax]at h;exact wpAny_eqBool_str h
 «strs»:=λk x t v h=>by
  rcases b_ h with⟨i,u,rfl,e⟩ | ⟨y,u,rfl,e⟩
  ·exact nomatch e
  ·injection e with e1 _
   subst e1
   cases v <;> rfl
theorem qd (prog:wE)(w:B2)(i:Int)(t:Tok):(bG prog w).is (.inl i) (.int i t)=true:=uO i t
theorem qc (prog:wE)(w:B2)(x:Str)(t:Tok):(bG prog w).is (.inr x) (.str x t)=true:=uN x t
inductive V where
 | non | bl (b:Bool) | int (i:Int) | str (x:Str) | byt (b:Array UInt8) | flt (b:UInt64) | ref (a:Addr) | ty (n:String)
 deriving DecidableEq
def RelV:V->bn->Prop
 | .non,u=>u=Value.none
 | .bl b,u=>u=Value.bool b
 | .int i,u=>∃t,u=Value.int i t
 | .str x,u=>∃t,u=Value.str x t
 | .byt b,u=>∃t,u=Value.bytes b t
 | .flt b,u=>∃t,u=Value.float b t
 | .ref a,u=>u=Value.ref a
 | .ty n,u=>u=Value.type n
abbrev Vals:List V->List bn->Prop:=Ie RelV
theorem Vals.length {xs:List V}{us:List bn}(r:Vals xs us):xs.length=us.length:=F1 r
theorem Vals.get:∀ {xs:List V} {us:List bn} {i:Nat} {x:V},Vals xs us->xs[i]? = some x->∃u,us[i]? = some u/\RelV x u
 | _,_,_,_,.nil,e=>by simp at e
 | _,_,0,_,.cons r _,e=>by simp at e;subst e;exact⟨_,rfl,r⟩
 | _,_,i+1,x,.cons _ t,e=>by
  obtain⟨u,h1,h2⟩:=Vals.get (i:=i) (x:=x) t (by simpa using e)
  exact⟨u,by simpa using h1,h2⟩
theorem Vals.append:∀ {xs ys:List V} {us ws:List bn},Vals xs us->Vals ys ws->Vals (xs++ys) (us++ws)
 | _,_,_,_,.nil,s=>s
 | _,_,_,_,.cons r t,s=>.cons r (Vals.append t s)
theorem Vals.take:∀ {xs:List V} {us:List bn} (n:Nat),Vals xs us->Vals (xs.take n) (us.take n)
 | _,_,0,_=>.nil
 | _,_,_+1,.nil=>.nil
 | _,_,n+1,.cons r t=>.cons r (Vals.take n t)
theorem Vals.drop:∀ {xs:List V} {us:List bn} (n:Nat),Vals xs us->Vals (xs.drop n) (us.drop n)
 | _,_,0,r=>r
 | _,_,_+1,.nil=>.nil
 | _,_,n+1,.cons _ t=>Vals.drop n t
def RelO:Option V->Option bn->Prop
 | some v,some u=>RelV v u
 | none,none=>True
 | _,_=>False
def KV {κ:Type}:List (κ×V)->List (κ×bn)->Prop:=Ie λ(p:κ×V) (q:κ×bn)=>p.1=q.1/\RelV p.2 q.2
def kV:Key->V
 | .inl i=>.int i
 | .inr x=>.str x
inductive HO where
 | lst (xs:List V)
 | tup (xs:List V)
 | dK (kvs:List (Key×V)) | dT (kvs:List (List Key×V))
 | set (S:Int->Bool) (n:Nat)
 | ins (C dx:Addr) (fs:List (Str×V))
 | own (x:Addr)
 | xd (fs:List (Str×V))
 | met (f x:Addr)
 | rng (lo hi:Int)
 | frz (o:Obj) (u:HO)
 | tbl (ps:Array bn)
 | ext (φ:Heap->Prop)
 | big (ps:List Addr) (φ:wE->B2->Heap->Prop)
abbrev Hp:=Addr->Option HO
def upd (H:Hp)(a:Addr)(o:HO):Hp:=λb=>if b=a then some o else H b
theorem aS {H:Hp}{a:Addr}{o:HO}:upd H a o a=some o:=by unfold upd;rw[if_pos rfl]
theorem aR {H:Hp}{a b:Addr}{o:HO}(h:b≠a):upd H a o b=H b:=by unfold upd;rw[if_neg h]
theorem jf {H:Hp}{a:Addr}{o u:HO}:upd (upd H a o) a u=upd H a u:=by
 funext b;unfold upd;split <;> rfl
theorem yR {H:Hp}{a b:Addr}{o u:HO}(h:H a=some o)(h':H b=some u)(d:o≠u):a≠b:=by
 intro e;subst e;rw[h]at h';exact d (Dc h')
theorem be {H:Hp}{a b:Addr}{o:HO}(h:H a=some o)(h':H b=none):a≠b:=by
 intro e;subst e;rw[h]at h';cases h'
section
variable (P:wE)(w:B2)
def cK (H:Hp)(h:Heap)(a:Addr):HO->Prop
 | .lst xs=>xs.length<=wT/\∃(its:List bn) (n:Nat),Vals xs its/\h.get? a=some {cls:=.type "list",data:=.seq its.toArray n}
 | .tup xs=>xs.length<=wT/\∃its:List bn,Vals xs its/\IsTup h a its.toArray
 | .dK kvs=>kvs.length<=wT/\(a==D0)=false/\∃vs,KV kvs vs/\h.DictOf (bG P w) a vs
 | .dT kvs=>kvs.length<=wT/\(a==D0)=false/\∃xs:List (List Key×Addr×bn),
   Ie (λ(p:List Key×V) (q:List Key×Addr×bn)=>p.1=q.1/\H q.2.1=some (.tup (p.1.map kV))/\RelV p.2 q.2.2) kvs xs /\
   ∃o es ep,h.get? a=some o/\o.ExactDict/\o.data = .dict es ep/\es.toList=xs.map (entryOfKey (Hs (bG P w)))/\(xs.map (·.1)).Nodup
 | .set S n=>h.SetOf (DL P w) a S n
 | .ins C dx fs=>H dx=some (.own a)/\fs.length<=1000/\dx≠a/\h.get? a=some (DN C dx) /\
   ∃mA,h.Ns1 dx mA/\(∀f,RelO (fs.lookup f) (mA f))/\HL mA (fs.map (·.1))
 | .own _=>∃o,h.get? a=some o
 | .xd fs=>∃mA,h.Ns1 a mA/\∀f,RelO (fs.lookup f) (mA f)
 | .rng lo hi=>∃t u v,h.get? a=some {cls:=.type "range",data:=.fields #[.int lo t,.int hi u,.int 1 v]}
 | .frz o u=>h.get? a=some o/\cK H h a u
 | .tbl ps=>h.get? a=some {cls:=.none,data:=.fields ps}
 | .met f x=>h.get? a=some (Gb (.ref f) (.ref x))
 | .ext φ=>φ h/\(∃o,h.get? a=some o)/\∀h1 h2:Heap,φ h1->(∀o,h1.get? a=some o->h2.get? a=some o)->φ h2
 | .big ps φ=>(∀p∈ps,p≠a/\H p=some (.own a))/\φ P w h/\(∃o,h.get? a=some o)/\∀h1 h2:Heap,φ P w h1->(∀b o,(b=a∨b∈ps)->h1.get? b=some o->h2.get? b=some o)->φ P w h2
def HOk (H:Hp)(h:Heap):Prop:=∀a o,H a=some o->cK P w H h a o
end
section
variable {P:wE}{w:B2}{H H':Hp}{h h':Heap}{a:Addr}{o:HO}
theorem cK.lt (x:cK P w H h a o):a<h.objs.size:=by
 cases o with
 | lst xs=>obtain⟨_,_,_,_,e⟩:=x;exact lc e
 | tup xs=>obtain⟨_,_,_,p⟩:=x;exact p.lt
 | dK kvs=>obtain⟨_,_,_,_,o,_,_,e,_⟩:=x;exact lc e
 | dT kvs=>obtain⟨_,_,_,_,o,_,_,e,_⟩:=x;exact lc e
 | set S n=>obtain⟨o,_,_,_,e,_⟩:=x;exact lc e
 | ins C dx fs=>obtain⟨_,_,_,e,_⟩:=x;exact lc e
 | own y=>obtain⟨_,e⟩:=x;exact lc e
 | xd fs=>obtain⟨_,⟨_,_,_,e,_⟩,_⟩:=x;exact lc e
 | rng lo hi=>obtain⟨_,_,_,e⟩:=x;exact lc e
 | frz ob u=>obtain⟨e,_⟩:=x;exact lc e
 | tbl ps=>exact lc (show h.get? a=some _ from x)
 | met f y=>exact lc (show h.get? a=some _ from x)
 | ext φ=>obtain⟨_,⟨_,e⟩,_⟩:=x;exact lc e
 | big ps φ=>obtain⟨_,_,⟨_,e⟩,_⟩:=x;exact lc e
theorem Paired.mapP {α β:Type}{F G:α->β->Prop}:∀ {l₁:List α} {l₂:List β},Ie F l₁ l₂->(∀a b,F a b->G a b)->Ie G l₁ l₂
 | _,_,.nil,_=>.nil
 | _,_,.cons r t,f=>.cons (f _ _ r) (Paired.mapP t f)
theorem cK.stay (x:cK P w H h a o)(k:∀b u,(b=a∨H b=some (.own a))->h.get? b=some u->h'.get? b=some u)
  (ho:∀b,H b=some (.own a)->H' b=some (.own a)) (ht:∀b xs,H b=some (.tup xs)->H' b=some (.tup xs)):cK P w H' h' a o:=by
 induction o with
 | lst xs=>obtain⟨z,its,n,r,e⟩:=x;exact⟨z,its,n,r,k _ _ (.inl rfl) e⟩
 | tup xs=>obtain⟨z,its,r,ob,e,c⟩:=x;exact⟨z,its,r,ob,k _ _ (.inl rfl) e,c⟩
 | dK kvs=>obtain⟨z,y,vs,r,ob,es,ep,e,c⟩:=x;exact⟨z,y,vs,r,ob,es,ep,k _ _ (.inl rfl) e,c⟩
 | dT kvs =>
  obtain⟨z,y,xs,r,ob,es,ep,e,c⟩:=x
  exact⟨z,y,xs,Paired.mapP r λp q z=>⟨z.1,ht _ _ z.2.1,z.2.2⟩,ob,es,ep,k _ _ (.inl rfl) e,c⟩
 | set S n=>obtain⟨ob,es,ep,t,e,c⟩:=x;exact⟨ob,es,ep,t,k _ _ (.inl rfl) e,c⟩
 | ins C dx fs =>
  obtain⟨d,z,ne,e,mA,⟨od,es,ep,e2,c⟩,r⟩:=x
  exact⟨ho _ d,z,ne,k _ _ (.inl rfl) e,mA,⟨od,es,ep,k _ _ (.inr d) e2,c⟩,r⟩
 | own y=>obtain⟨ob,e⟩:=x;exact⟨ob,k _ _ (.inl rfl) e⟩
 | xd fs=>obtain⟨mA,⟨od,es,ep,e,c⟩,r⟩:=x;exact⟨mA,⟨od,es,ep,k _ _ (.inl rfl) e,c⟩,r⟩
 | rng lo hi=>obtain⟨t,u,v,e⟩:=x;exact⟨t,u,v,k _ _ (.inl rfl) e⟩
 | frz ob u ih=>obtain⟨e,q⟩:=x;exact⟨k _ _ (.inl rfl) e,ih q⟩
 | tbl ps =>
  have e:h.get? a=some {cls:=.none,data:=.fields ps}:=x
  show h'.get? a=some {cls:=.none,data:=.fields ps}
  exact k a _ (.inl rfl) e
 | met f y =>
  have e:h.get? a=some (Gb (.ref f) (.ref y)):=x
  show h'.get? a=some (Gb (.ref f) (.ref y))
  exact k a _ (.inl rfl) e
 | ext φ=>obtain⟨p,⟨o,e⟩,st⟩:=x;exact⟨st _ _ p λo q=>k _ _ (.inl rfl) q,⟨o,k _ _ (.inl rfl) e⟩,st⟩
 | big ps φ=>obtain⟨ow,p,⟨o,e⟩,st⟩:=x;exact⟨λb hb=>⟨(ow b hb).1,ho _ (ow b hb).2⟩,st _ _ p λb o hb q=>k _ _ (hb.imp id λz=>(ow b z).2) q,⟨o,k _ _ (.inl rfl) e⟩,st⟩
theorem HOk.lt (x:HOk P w H h)(e:H a=some o):a<h.objs.size:=(x a o e).lt
theorem HOk.fresh (x:HOk P w H h)(e:h.objs.size<=a):H a=none:=by
 cases q:H a with
 | none=>rfl
 | some u=>exact absurd (xz (x.lt q) e) (DV _)
theorem HOk.kept (x:HOk P w H h)(k:∀b u,h.get? b=some u->h'.get? b=some u):HOk P w H h':=λa o e =>
 (x a o e).stay (λb u _ q=>k b u q) (λ_ q=>q) λ_ _ q=>q
theorem HOk.laid (x:HOk P w H h)(k:∀b u,h.get? b=some u->h'.get? b=some u)(hp:h.objs.size<=a)(new:cK P w (upd H a o) h' a o):HOk P w (upd H a o) h':=λb u e=>by
 have hn:=x.fresh hp
 by_cases hb:b=a
 ·subst hb;rw[aS]at e;cases e;exact new
 ·rw[aR hb]at e
  exact(x b u e).stay (λc v _ q=>k c v q) (λc q=>by rw[aR (be q hn)];exact q) λc xs q=>by rw[aR (be q hn)];exact q
end
def Rd (H:Hp)(a:Addr)(u:HO):Prop:=H a=some u ∨ ∃o,H a=some (.frz o u)
theorem Rd.ok {P:wE}{w:B2}{H:Hp}{h:Heap}{a:Addr}{u:HO}(r:Rd H a u)(x:HOk P w H h):cK P w H h a u:=by
 rcases r with r | ⟨o,r⟩
 ·exact x a u r
 ·obtain⟨_,q⟩:=x a _ r
  exact q
def Mut:Option HO->Prop
 | some (.lst _)=>True
 | some (.dK _)=>True
 | some (.dT _)=>True
 | some (.set _ _)=>True
 | some (.ins _ _ _)=>True
 | some (.ext _)=>True
 | some (.big _ _)=>True
 | _=>False
section
variable {P:wE}{w:B2}{H:Hp}{h h':Heap}{x e:Addr}{o':HO}
theorem HOk.write (ok:HOk P w H h)(mu:Mut (H x))(he:e=x∨H e=some (.own x))(k:∀b u,b≠e->h.get? b=some u->h'.get? b=some u)(heo:∃u,h'.get? e=some u)
  (new:cK P w (upd H x o') h' x o'):HOk P w (upd H x o') h':=λb u q=>by
 have nown:∀c y,H c=some (.own y)->c≠x:=λc y r z=>by subst z;rw[r]at mu;exact mu
 have ntup:∀c xs,H c=some (.tup xs)->c≠x:=λc xs r z=>by subst z;rw[r]at mu;exact mu
 by_cases hb:b=x
 ·subst hb;rw[aS]at q;cases q;exact new
 ·rw[aR hb]at q
  by_cases hbe:b=e
  ·have q':H b=some (.own x):=by
    rcases he with z | z
    ·exact absurd (hbe.trans z) hb
    ·rw[hbe];exact z
   rw[q]at q';cases q'
   obtain⟨v,hv⟩:=heo
   exact⟨v,by rw[hbe];exact hv⟩
  ·refine(ok b u q).stay (λc v hc r=>k c v ?_ r) (λc r=>by rw[aR (nown c b r)];exact r) λc xs r=>by rw[aR (ntup c xs r)];exact r
   rcases hc with rfl | hc
   ·exact hbe
   ·rintro rfl
    rcases he with z | z
    ·exact nown c b hc z
    ·rw[hc]at z;cases z;exact hb rfl
end
structure Un (fs ex:List Addr)(H H':Hp)(h h':Heap):Prop where
 keep:∀b o,h.get? b=some o->H b=none->b∉fs->b∉ex->h'.get? b=some o
 slot:∀b o,h.get? b=some o->H b=none->b∈fs->b∉ex->∃sl,h'.get? b=some {o with slots:=sl}
 free:∀b o,h.get? b=some o->H b=none->b∉ex->H' b=none
 there:∀b o,h.get? b=some o->b∉ex->∃o',h'.get? b=some o'
 tups:∀b xs,H b=some (.tup xs)->H' b=some (.tup xs)
 frzs:∀b o u,H b=some (.frz o u)->H' b=some (.frz o u)
 tbls:∀b ps,H b=some (.tbl ps)->∃more,H' b=some (.tbl (ps++more))
section
variable {fs fs' ex ex':List Addr}{H H1 H2:Hp}{h h1 h2 h':Heap}{a x e:Addr}{o:HO}
theorem Un.any (u:Un fs ex H H1 h h1){b:Addr}{ob:Obj}(q:h.get? b=some ob)(n:H b=none)(hx:b∉ex):∃sl,h1.get? b=some {ob with slots:=sl}:=by
 by_cases hb:b∈fs
 ·exact u.slot b ob q n hb hx
 ·exact⟨ob.slots,u.keep b ob q n hb hx⟩
theorem Un.kept (k:∀b u,h.get? b=some u->h'.get? b=some u):Un fs ex H H h h' :=
 ⟨λb ob q _ _ _=>k b ob q,λb ob q _ _ _=>⟨ob.slots,k b ob q⟩,λ_ _ _ n _=>n,λb ob q _=>⟨ob,k b ob q⟩,λ_ _ q=>q,λ_ _ _ q=>q,λ_ ps q=>⟨#[],by rw[q];simp⟩⟩
theorem Un.refl:Un fs ex H H h h:=Un.kept λ_ _ q=>q
theorem Un.laid (k:∀b u,h.get? b=some u->h'.get? b=some u)(hp:h.objs.size<=a)(hn:H a=none):Un fs ex H (upd H a o) h h' where
 keep:=λb u q _ _ _=>k b u q
 slot:=λb u q _ _ _=>⟨u.slots,k b u q⟩
 free:=λb u q n _=>by rw[aR (wP (xz (lc q) hp))];exact n
 there:=λb u q _=>⟨u,k b u q⟩
 tups:=λb xs q=>by rw[aR (be q hn)];exact q
 frzs:=λb u xs q=>by rw[aR (be q hn)];exact q
 tbls:=λb ps q=>⟨#[],by rw[aR (be q hn),q];simp⟩
theorem Un.write (mu:Mut (H x))(he:e=x∨H e=some (.own x))(k:∀b u,b≠e->h.get? b=some u->h'.get? b=some u)(heo:∃u,h'.get? e=some u):Un fs ex H (upd H x o) h h':=by
 have hx:∀b,H b=none->b≠x:=λb n z=>by subst z;rw[n]at mu;exact mu
 have hb:∀b,H b=none->b≠e:=λb n z=>by
  subst z
  rcases he with r | r
  ·exact hx b n r
  ·rw[n]at r;cases r
 have hm:∀b u,H b=some u->¬Mut (some u)->b≠x:=λb u q nm z=>by subst z;rw[q]at mu;exact nm mu
 refine⟨λb u q n _ _=>k b u (hb b n) q,λb u q n _ _=>⟨u.slots,k b u (hb b n) q⟩,λb u q n _=>by rw[aR (hx b n)];exact n,λb u q _=>?_,
  λb xs q=>by rw[aR (hm b _ q λz=>z)];exact q,λb u xs q=>by rw[aR (hm b _ q λz=>z)];exact q,λb ps q=>⟨#[],by rw[aR (hm b _ q λz=>z),q];simp⟩⟩
 by_cases hbe:b=e
 ·subst hbe;exact heo
 ·exact⟨u,k b u hbe q⟩
end
def trk (h:Heap)(H:Hp):List Addr:=(sK h.objs.size).filter λa=>(H a).isSome
def hidT (h:Heap)(H:Hp):Heap:=PySem.W.hideAll h (trk h H)
theorem uX (h:Heap)(H:Hp):(hidT h H).objs.size=h.objs.size:=PySem.W.hideAll_size _ _
theorem w5 {h:Heap}{H:Hp}{b:Addr}{o:Obj}(e:h.get? b=some o)(n:H b=none):(hidT h H).get? b=some o :=
 PySem.W.hideAll_get _ e λhm=>by
  have q:(H b).isSome=true:=(AC.mp hm).2
  rw[n]at q;simp at q
theorem yK {h:Heap}{H:Hp}{b:Addr}{o:Obj}(e:(hidT h H).get? b=some o):h.get? b=some o/\H b=none:=by
 have e':h.get? b=some o:=PySem.W.of_hideAll (trk h H) e
 refine⟨e',?_⟩
 cases q:H b with
 | none=>rfl
 | some x =>
  have hm:b∈trk h H:=AC.mpr ⟨B9.mpr (lc e'),by simp[q]⟩
  have z:(hidT h H).get? b=none:=PySem.W.hideAll_none (trk h H) hm
  rw[z]at e;cases e
structure Mod (K:bi)(mg:Str->Option bn)(base:Heap):Prop where
 kin:K.In base
 glob:base.Ns BZ mg
 blt:∃mb,base.Ns JI mb/\∀x:Str,x ≠ "__name__" -> mb x=Cz x
 nolimit:base.NoLimit
structure Cx where
 prog:wE
 w:B2
 K:bi
 mg:Str->Option bn
 base:Heap
 A:Ca
 N:List Str
 s₀:ca
 H₀:Hp
 env:Env
 outer:List Env
 stack:List Env
 ex:List Addr
 fn:Str->Bool
 calm:Bool
 pn:List (Addr×Obj)
 xe:bn->ca->Prop
def frs (l:List Env):List Addr:=l.filterMap (·.frame)
abbrev Cx.fs (X:Cx):List Addr:=frs X.outer
def Vis (sc:Dw)(x:Str):Prop:=sc.names.lookup x=some .local∨sc.names.lookup x=some .cell∨sc.names.lookup x=some .free
def Loc (sc:Dw)(x:Str):Prop:=sc.names.lookup x=some .local∨sc.names.lookup x=some .cell
def Look (env:Env)(h:Heap)(m:Str->Option bn)(x:Str)(u:bn):Prop :=
 (env.kindOf x=some .local/\m x=some u)∨((env.kindOf x=some .cell∨env.kindOf x=some .free)/\∃c,env.cells.lookup x=some c/\h.IsCell c (some u))
structure Cx.Ok (X:Cx):Prop where
 mod:Mod X.K X.mg X.base
 kind:X.env.scope.kind = .function
 glob:X.env.globals=BZ
 blt:X.env.builtins=JI
 above:X.s₀.heap.objs.size<=X.env.locals
 inj:∀x y c,X.env.cells.lookup x=some c->X.env.cells.lookup y=some c->x=y
 has:∀x,(X.env.kindOf x=some .cell∨X.env.kindOf x=some .free)->∃c,X.env.cells.lookup x=some c
 cab:∀x c,X.fn x=true->X.env.cells.lookup x=some c->X.s₀.heap.objs.size<=c
 hd:X.calm=true->X.A.handled=none
 frames:X.A.frames=some X.stack
 stk:X.stack=X.outer∨(X.stack=X.env::X.outer/\X.env.frame=some X.env.locals)
 exf:∀b∈X.ex,b≠X.env.locals/\∀x c,X.env.cells.lookup x=some c->c≠b
 bs:∀b o,X.base.get? b=some o->X.s₀.heap.get? b=some o/\X.H₀ b=none
 bsz:X.base.objs.size<=X.s₀.heap.objs.size
 noex:∀b o,X.base.get? b=some o->b∉X.ex
 exfs:∀b∈X.ex,b∉X.fs
 funs:X.s₀.heap.FunFrames X.base X.outer
 frf:∀b∈X.fs,X.H₀ b=none
structure Inv (X:Cx)(pins:List (Addr×Obj))(σ:List (Option V))(H:Hp)(s:ca):Prop where
 ok:X.Ok
 os:s.os=X.s₀.os
 bare:F5 s.gens
 base:Un X.fs X.ex X.H₀ H X.s₀.heap s.heap
 loc:∃m,s.heap.Ns X.env.locals m/\∀(i:Nat) (x:Str) (v:V),X.N[i]? = some x->σ[i]? = some (some v)->Vis X.env.scope x->∃u,RelV v u/\Look X.env s.heap m x u
 cell:∀x c,X.env.cells.lookup x=some c->∃v,s.heap.IsCell c v
 free:H X.env.locals=none
 freeC:∀x c,X.env.cells.lookup x=some c->H c=none
 pin:∀p∈X.pn++pins,s.heap.get? p.1=some p.2/\H p.1=none/\p.1≠X.env.locals/\p.1∉X.fs/\∀v,p.2.data ≠ .cell v
 hok:HOk X.prog X.w H s.heap
 len:σ.length=X.N.length
section
variable {X:Cx}{pins:List (Addr×Obj)}{σ:List (Option V)}{H H':Hp}{s:ca}{h':Heap}
theorem Cx.Ok.nofr (ok:X.Ok){b:Addr}{o:Obj}(e:X.base.get? b=some o):b∉X.fs:=λhb=>by
 have:=(ok.funs.mem hb).1
 rw[e]at this;cases this
theorem Inv.bs (I:Inv X pins σ H s):∀b o,X.base.get? b=some o->s.heap.get? b=some o/\H b=none:=λb o e =>
 ⟨I.base.keep b o (I.ok.bs b o e).1 (I.ok.bs b o e).2 (I.ok.nofr e) (I.ok.noex b o e),I.base.free b o (I.ok.bs b o e).1 (I.ok.bs b o e).2 (I.ok.noex b o e)⟩
theorem Inv.bk (I:Inv X pins σ H s):∀b o,X.base.get? b=some o->s.heap.get? b=some o:=λb o e=>(I.bs b o e).1
theorem Inv.mod (I:Inv X pins σ H s):Mod X.K X.mg X.base:=I.ok.mod
theorem Inv.kIn (I:Inv X pins σ H s):X.K.In s.heap:=I.ok.mod.kin.keeps I.bk
theorem Inv.fr (I:Inv X pins σ H s):∃m,Fr X.base X.env.locals s.heap m :=
 let ⟨m,hn,_⟩:=I.loc
 ⟨m,hn,I.bk,xL I.ok.bsz I.ok.above⟩
theorem Inv.lt (I:Inv X pins σ H s):X.env.locals<s.heap.objs.size:=let ⟨_,hn,_⟩:=I.loc;hn.lt
theorem Inv.sz (I:Inv X pins σ H s):X.s₀.heap.objs.size<=s.heap.objs.size:=xL I.ok.above (CI I.lt)
theorem Inv.nofs (I:Inv X pins σ H s){a:Addr}(h:s.heap.objs.size<=a):a∉X.fs:=λhb=>by
 obtain⟨_,o,ho,_⟩:=I.ok.funs.mem hb
 exact absurd (xz (lc ho) (xL I.sz h)) (DV _)
theorem Inv.cne (I:Inv X pins σ H s):∀x c,X.env.cells.lookup x=some c->c≠X.env.locals:=λx c e z=>by
 obtain⟨v,o,ho,hd⟩:=I.cell x c e
 obtain⟨m,⟨o',es,ep,ho',hd',_⟩,_⟩:=I.loc
 rw[z,ho']at ho;cases ho;rw[hd']at hd;cases hd
theorem Inv.funs (I:Inv X pins σ H s):s.heap.FunFrames X.base X.outer:=by
 have all:∀(l:List Env),(∀b∈frs l,b∈X.fs)->X.s₀.heap.FunFrames X.base l->s.heap.FunFrames X.base l:=by
  intro l
  induction l with
  | nil=>intro _ _;trivial
  | cons env r ih =>
   intro hs hl
   obtain⟨hk,⟨L,o,hf,hn,ho,hd⟩,hr⟩:=hl
   have hL:L∈X.fs:=hs L (by unfold frs;rw[DW,hf];exact B3)
   obtain⟨sl,e⟩:=I.base.slot L o ho (I.ok.frf L hL) hL λz=>I.ok.exfs L z hL
   exact⟨hk,⟨L,_,hf,hn,e,hd⟩,ih (λb hb=>hs b (by unfold frs;rw[DW,hf];exact BU _ hb)) hr⟩
 exact all X.outer (λ_ hb=>hb) I.ok.funs
theorem Inv.stack (I:Inv X pins σ H s):s.heap.FunFrames X.base X.stack:=by
 rcases I.ok.stk with e | ⟨e,hf⟩
 ·rw[e];exact I.funs
 ·rw[e]
  obtain⟨m,hn,_⟩:=I.loc
  refine .cons (by rw[I.ok.kind];decide) hf hn ?_ I.funs
  exact Heap.get?_none_of_le (xL I.ok.bsz I.ok.above)
theorem Inv.stkSub (I:Inv X pins σ H s):∀b∈frs X.stack,b∈X.env.locals::X.fs:=λb hb=>by
 rcases I.ok.stk with e | ⟨e,hf⟩
 ·rw[e]at hb;exact BU _ hb
 ·rw[e]at hb
  unfold frs at hb
  rw[DW,hf]at hb
  exact hb
theorem Inv.stkFree (I:Inv X pins σ H s):∀b∈frs X.stack,H b=none:=λb hb=>by
 rcases sB.mp (I.stkSub b hb)with e | hb
 ·rw[e];exact I.free
 ·obtain⟨_,o,ho,_⟩:=I.ok.funs.mem hb
  exact I.base.free b o ho (I.ok.frf b hb) λz=>I.ok.exfs b z hb
theorem Inv.step {g':Array Jp}{t':Nat}{d':Drawn}{ch:List Addr}(I:Inv X pins σ H s)
  (hch:∀b∈ch,(b∈X.ex∨X.s₀.heap.objs.size<=b)/\b≠X.env.locals/\(∀x c,X.env.cells.lookup x=some c->c≠b)/\∀p∈X.pn++pins,p.1≠b)
  (keep:∀b o,b≠X.env.locals->b∉X.fs->b∉ch->s.heap.get? b=some o->H b=none->h'.get? b=some o)
  (slot:∀b o,b≠X.env.locals->b∈X.fs->b∉ch->s.heap.get? b=some o->H b=none->∃sl,h'.get? b=some {o with slots:=sl}) (free:∀b o,b∉ch->s.heap.get? b=some o->H b=none->H' b=none)
  (there:∀b o,b∉ch->s.heap.get? b=some o->∃o',h'.get? b=some o')
  (tups:∀b xs,H b=some (.tup xs)->H' b=some (.tup xs)) (frzs:∀b o u,H b=some (.frz o u)->H' b=some (.frz o u)) (tbls:∀b ps,H b=some (.tbl ps)->∃more,H' b=some (.tbl (ps++more)))
  (ns:∀m,s.heap.Ns X.env.locals m->h'.Ns X.env.locals m) (hok:HOk X.prog X.w H' h') (hg:F5 g') :
  Inv X pins σ H' {s with heap:=h',gens:=g',drawn:=d',toks:=t'}:=by
 have neL:∀b o,X.s₀.heap.get? b=some o->b≠X.env.locals:=λb o e=>wP (xz (lc e) I.ok.above)
 have neC:∀b o,X.s₀.heap.get? b=some o->b∉X.ex->b∉ch:=λb o e hx hb=>by
  rcases(hch b hb).1 with z | z
  ·exact hx z
  ·exact absurd (xz (lc e) z) (DV _)
 have cellK:∀x c,X.env.cells.lookup x=some c->∀v,s.heap.IsCell c v->h'.IsCell c v:=λx c e v ⟨o,ho,hd⟩=>by
  have nch:c∉ch:=λz=>(hch c z).2.2.1 x c e rfl
  by_cases hc:c∈X.fs
  ·obtain⟨sl,q⟩:=slot c o (I.cne x c e) hc nch ho (I.freeC x c e)
   exact⟨_,q,hd⟩
  ·exact⟨o,keep c o (I.cne x c e) hc nch ho (I.freeC x c e),hd⟩
 refine⟨I.ok,I.os,hg,⟨λb o e n hb hx=>?_,λb o e n hb hx=>?_,λb o e n hx=>?_,λb o e hx=>?_,λb xs e=>tups b xs (I.base.tups b xs e),λb o xs e=>frzs b o xs (I.base.frzs b o xs e),λb ps e=>?_⟩,?_,λx c e=>?_,?_,λx c e=>?_,λp hp=>?_,hok,I.len⟩
 ·exact keep b o (neL b o e) hb (neC b o e hx) (I.base.keep b o e n hb hx) (I.base.free b o e n hx)
 ·obtain⟨sl,e1⟩:=I.base.slot b o e n hb hx
  obtain⟨sl',e2⟩:=slot b _ (neL b o e) hb (neC b o e hx) e1 (I.base.free b o e n hx)
  exact⟨sl',e2⟩
 ·obtain⟨o',e1⟩:=I.base.there b o e hx
  exact free b o' (neC b o e hx) e1 (I.base.free b o e n hx)
 ·obtain⟨o',e1⟩:=I.base.there b o e hx
  exact there b o' (neC b o e hx) e1
 ·obtain⟨m1,e1⟩:=I.base.tbls b ps e
  obtain⟨m2,e2⟩:=tbls b _ e1
  exact⟨m1++m2,by rw[e2,Array.append_assoc]⟩
 ·obtain⟨m,hn,hl⟩:=I.loc
  refine⟨m,ns m hn,λi x v e1 e2 e3=>?_⟩
  obtain⟨u,r,l⟩:=hl i x v e1 e2 e3
  refine⟨u,r,?_⟩
  rcases l with l | ⟨k,c,e,z⟩
  ·exact .inl l
  ·exact .inr ⟨k,c,e,cellK x c e _ z⟩
 ·obtain⟨v,z⟩:=I.cell x c e
  exact⟨v,cellK x c e v z⟩
 ·obtain⟨m,⟨o,_,_,ho,_⟩,_⟩:=I.loc
  exact free _ o (λz=>(hch _ z).2.1 rfl) ho I.free
 ·obtain⟨v,o,ho,hd⟩:=I.cell x c e
  exact free c o (λz=>(hch c z).2.2.1 x c e rfl) ho (I.freeC x c e)
 ·obtain⟨e,n,ne,nf,d⟩:=I.pin p hp
  have nch:p.1∉ch:=λz=>(hch p.1 z).2.2.2 p hp rfl
  exact⟨keep p.1 p.2 ne nf nch e n,free p.1 p.2 nch e n,ne,nf,d⟩
theorem Inv.un {t':Nat}(I:Inv X pins σ H s)(u:Un X.fs [] H H' s.heap h')(hok:HOk X.prog X.w H' h'):Inv X pins σ H' {s with heap:=h',toks:=t'}:=by
 obtain⟨m,⟨o,es,ep,ho,r⟩,_⟩:=id I.loc
 obtain⟨sl,hL⟩:=u.any ho I.free (by simp)
 exact I.step (g':=s.gens) (d':=s.drawn) (ch:=[]) (λ_ z=>nomatch z) (λb o _ hb _ e n=>u.keep b o e n hb (by simp)) (λb o _ hb _ e n=>u.slot b o e n hb (by simp)) (λb o _ e n=>u.free b o e n (by simp)) (λb o _ e=>u.there b o e (by simp)) u.tups u.frzs u.tbls (λm' hm=>by
  obtain⟨o',es',ep',ho',r'⟩:=hm
  rw[ho]at ho';cases ho'
  exact⟨_,es',ep',hL,r'⟩) hok I.bare
theorem Inv.call {g':Array Jp}{t':Nat}{d':Drawn}{ch:List Addr}(I:Inv X pins σ H s)(u:Un (frs X.stack) ch H H' s.heap h')(hok:HOk X.prog X.w H' h')(hg:F5 g')
  (hch:∀b∈ch,(b∈X.ex∨X.s₀.heap.objs.size<=b)/\b≠X.env.locals/\(∀x c,X.env.cells.lookup x=some c->c≠b)/\∀p∈X.pn++pins,p.1≠b) :
  Inv X pins σ H' {s with heap:=h',gens:=g',drawn:=d',toks:=t'}:=by
 obtain⟨m,⟨o,es,ep,ho,r⟩,_⟩:=id I.loc
 obtain⟨sl,hL⟩:=u.any ho I.free λz=>(hch _ z).2.1 rfl
 exact I.step (ch:=ch) hch (λb o hL hb hc e n=>u.keep b o e n (λz=>(sB.mp (I.stkSub b z)).elim hL hb) hc) (λb o _ _ hc e n=>u.any e n hc) (λb o hc e n=>u.free b o e n hc) (λb o hc e=>u.there b o e hc) u.tups u.frzs u.tbls (λm' hm=>by
  obtain⟨o',es',ep',ho',r'⟩:=hm
  rw[ho]at ho';cases ho'
  exact⟨_,es',ep',hL,r'⟩) hok hg
theorem Inv.turned {t':Nat}{it:Addr}(I:Inv X pins σ H s)(k:∀b o,b≠it->s.heap.get? b=some o->h'.get? b=some o)(hn:H it=none)(hL:it≠X.env.locals)
  (h1:it∈X.ex∨X.s₀.heap.objs.size<=it) (h2:∀x c,X.env.cells.lookup x=some c->c≠it) (h3:∀p∈X.pn++pins,p.1≠it):Inv X pins σ H {s with heap:=h',toks:=t'}:=by
 have nit:∀b u,H b=some u->b≠it:=λb u e z=>by rw[z,hn]at e;cases e
 refine I.step (g':=s.gens) (d':=s.drawn) (ch:=[it]) (λb hb=>?_) (λb o _ _ hc e _=>k b o (λz=>hc (by simp[z])) e) (λb o _ _ hc e _=>⟨o.slots,k b o (λz=>hc (by simp[z])) e⟩) (λ_ _ _ _ n=>n)
  (λb o hc e=>⟨o,k b o (λz=>hc (by simp[z])) e⟩) (λ_ _ e=>e) (λ_ _ _ e=>e) (λb ps e=>⟨#[],by rw[e];simp⟩) (λm hm=>?_) (λb u e=>?_) I.bare
 ·have e:b=it:=by simpa using hb
  subst e
  exact⟨h1,hL,h2,h3⟩
 ·obtain⟨o,es,ep,ho,r⟩:=hm
  exact⟨o,es,ep,k _ o (Dk hL) ho,r⟩
 ·refine(I.hok b u e).stay (λc v hc q=>k c v ?_ q) (λ_ q=>q) λ_ _ q=>q
  rcases hc with z | z
  ·rw[z];exact nit b u e
  ·exact nit c _ z
theorem Inv.tok (I:Inv X pins σ H s)(t:Nat):Inv X pins σ H {s with toks:=t}:=I.un (h':=s.heap) (t':=t) Un.refl I.hok
theorem Inv.kept {t':Nat}(I:Inv X pins σ H s)(k:∀b u,s.heap.get? b=some u->h'.get? b=some u):Inv X pins σ H {s with heap:=h',toks:=t'}:=I.un (Un.kept k) (I.hok.kept k)
theorem Inv.laid {a:Addr}{o:HO}{t':Nat}(I:Inv X pins σ H s)(k:∀b u,s.heap.get? b=some u->h'.get? b=some u)(hp:s.heap.objs.size<=a)(new:cK X.prog X.w (upd H a o) h' a o) :
  Inv X pins σ (upd H a o) {s with heap:=h',toks:=t'}:=I.un (Un.laid k hp (I.hok.fresh hp)) (I.hok.laid k hp new)
theorem Inv.write {x e:Addr}{o:HO}{t':Nat}(I:Inv X pins σ H s)(mu:Mut (H x))(he:e=x∨H e=some (.own x))(k:∀b u,b≠e->s.heap.get? b=some u->h'.get? b=some u)(heo:∃u,h'.get? e=some u)
  (new:cK X.prog X.w (upd H x o) h' x o):Inv X pins σ (upd H x o) {s with heap:=h',toks:=t'}:=I.un (Un.write mu he k heo) (I.hok.write mu he k heo new)
theorem Inv.weak {σ':List (Option V)}(I:Inv X pins σ H s)(hl:σ'.length=σ.length)(w:∀(i:Nat) v,σ'[i]? = some (some v)->σ[i]? = some (some v)):Inv X pins σ' H s :=
 ⟨I.ok,I.os,I.bare,I.base,let ⟨m,hn,hl'⟩:=I.loc;⟨m,hn,λi x v e1 e2 e3=>hl' i x v e1 (w i v e2) e3⟩,I.cell,I.free,I.freeC,I.pin,I.hok,hl.trans I.len⟩
theorem Inv.pins_of {pins':List (Addr×Obj)}(I:Inv X pins σ H s)(h:∀p∈pins',s.heap.get? p.1=some p.2/\H p.1=none/\p.1≠X.env.locals/\p.1∉X.fs/\∀v,p.2.data ≠ .cell v):Inv X pins' σ H s :=
 ⟨I.ok,I.os,I.bare,I.base,I.loc,I.cell,I.free,I.freeC,λp hp=>(BO.mp hp).elim (λz=>I.pin p (BS _ z)) (h p),I.hok,I.len⟩
theorem rq {N:List Str}(hN:N.Nodup){i j:Nat}{x:Str}(a:N[i]? = some x)(b:N[j]? = some x):i=j:=by
 obtain⟨h1,e1⟩:=im.mp a
 obtain⟨h2,e2⟩:=im.mp b
 exact(List.getElem_inj hN).mp (e1.trans e2.symm)
theorem iA {M:Model}{A:Ca}{E:bn->ca->Prop}{i:Nat}{x:Str}{v:V}{u:bn}{Q:Unit->ca->Prop}(I:Inv X pins σ H s)(hN:X.N.Nodup)(hi:X.N[i]? = some x)(hx:Loc X.env.scope x)(r:RelV v u)
  (h:∀s',Inv X pins (σ.set i (some v)) H s'->(∃a,Cq a s.heap s'.heap/\(a=X.env.locals∨X.env.cells.lookup x=some a))->Q () s') (hf:X.fn x=true∨X.env.scope.names.lookup x=some .local:=by first | exact .inl rfl | exact .inr rfl | assumption):lm M A (J7 X.env x u) Q E s:=by
 obtain⟨m,hn,hl⟩:=id I.loc
 have hcls:(X.env.scope.kind == .class||(X.env.scope.kind == .module&&X.env.locals != X.env.globals))=false:=by rw[I.ok.kind];rfl
 have hiσ:i<σ.length:=by rw[I.len];exact(im.mp hi).1
 have cne:=I.cne
 have tracked:∀ {a:Addr} {h':Heap},(∃o,s.heap.get? a=some o/\H a=none)->Cq a s.heap h'->HOk X.prog X.w H h':=λ{a h'} ha hs b ob e=>by
  obtain⟨_,_,hfree⟩:=ha
  refine(I.hok b ob e).stay (λc w' hc q=>(hs.2 c ?_).trans q) (λ_ q=>q) λ_ _ q=>q
  rintro rfl
  rcases hc with rfl | hc
  ·rw[hfree]at e;cases e
  ·rw[hfree]at hc;cases hc
 rcases hx with hk | hk
 ·refine wpAny_storeName_local hk hn (λh' hn' hs=>?_) hcls
  obtain⟨oL,_,_,hoL,_⟩:=id hn
  refine h _ ⟨I.ok,I.os,I.bare,⟨λb o e n hb hx=>?_,λb o e n hb hx=>?_,I.base.free,λb o e hx=>?_,I.base.tups,I.base.frzs,I.base.tbls⟩,⟨_,hn',λj y v' e1 e2 e3=>?_⟩,λy c e=>?_,I.free,I.freeC,λp hp=>?_,tracked ⟨oL,hoL,I.free⟩ hs,by simpa using I.len⟩ ⟨_,hs,.inl rfl⟩
  ·exact(hs.2 b (wP (xz (lc e) I.ok.above))).trans (I.base.keep b o e n hb hx)
  ·obtain⟨sl,e1⟩:=I.base.slot b o e n hb hx
   exact⟨sl,(hs.2 b (wP (xz (lc e) I.ok.above))).trans e1⟩
  ·obtain⟨o',e1⟩:=I.base.there b o e hx
   exact⟨o',(hs.2 b (wP (xz (lc e) I.ok.above))).trans e1⟩
  ·by_cases hj:j=i
   ·subst hj
    rw[hi]at e1;cases e1
    rw[D4 hiσ]at e2
    cases e2
    exact⟨u,r,.inl ⟨hk,by simp⟩⟩
   ·rw[B6 (Dk hj)]at e2
    obtain⟨u',r',q⟩:=hl j y v' e1 e2 e3
    refine⟨u',r',?_⟩
    rcases q with⟨k,e⟩ | ⟨k,c,e,z⟩
    ·refine .inl ⟨k,?_⟩
     have:y≠x:=λe=>hj (rq hN e1 (e▸hi))
     simp[this,e]
    ·exact .inr ⟨k,c,e,z.sameBut hs (cne y c e)⟩
  ·obtain⟨w',z⟩:=I.cell y c e
   exact⟨w',z.sameBut hs (cne y c e)⟩
  ·obtain⟨e,n,ne,nf,d⟩:=I.pin p hp
   exact⟨(hs.2 p.1 ne).trans e,n,ne,nf,d⟩
 ·have hfn:X.fn x=true:=by
   rcases hf with z | z
   ·exact z
   ·rw[z]at hk;cases hk
  obtain⟨c,hc⟩:=I.ok.has x (.inl hk)
  obtain⟨w',z⟩:=I.cell x c hc
  refine wpAny_storeName_cell I.ok.kind hk hc z (λh' hc' hs=>?_)
  obtain⟨oc,hoc,hocd⟩:=id z
  refine h {s with heap:=h'} ⟨I.ok,I.os,I.bare,⟨λb o e n hb hx=>?_,λb o e n hb hx=>?_,I.base.free,λb o e hx=>?_,I.base.tups,I.base.frzs,I.base.tbls⟩,⟨m,hn.sameBut hs (Dk (cne x c hc)),λj y v' e1 e2 e3=>?_⟩,λy c' e=>?_,I.free,I.freeC,λp hp=>?_,tracked ⟨oc,hoc,I.freeC x c hc⟩ hs,by simpa using I.len⟩ ⟨c,hs,.inr hc⟩
  ·exact(hs.2 b (wP (xz (lc e) (I.ok.cab x c hfn hc)))).trans (I.base.keep b o e n hb hx)
  ·obtain⟨sl,e1⟩:=I.base.slot b o e n hb hx
   exact⟨sl,(hs.2 b (wP (xz (lc e) (I.ok.cab x c hfn hc)))).trans e1⟩
  ·obtain⟨o',e1⟩:=I.base.there b o e hx
   exact⟨o',(hs.2 b (wP (xz (lc e) (I.ok.cab x c hfn hc)))).trans e1⟩
  ·by_cases hj:j=i
   ·subst hj
    rw[hi]at e1;cases e1
    rw[D4 hiσ]at e2
    cases e2
    exact⟨u,r,.inr ⟨.inl hk,c,hc,hc'⟩⟩
   ·rw[B6 (Dk hj)]at e2
    obtain⟨u',r',q⟩:=hl j y v' e1 e2 e3
    refine⟨u',r',?_⟩
    rcases q with q | ⟨k,c',e,z'⟩
    ·exact .inl q
    ·refine .inr ⟨k,c',e,z'.sameBut hs ?_⟩
     rintro rfl
     exact hj (rq hN e1 (I.ok.inj _ _ _ e hc▸hi))
  ·by_cases hcc:c'=c
   ·subst hcc;exact⟨_,hc'⟩
   ·obtain⟨w2,z2⟩:=I.cell y c' e
    exact⟨w2,z2.sameBut hs hcc⟩
  ·obtain⟨e,n,ne,nf,d⟩:=I.pin p hp
   refine⟨(hs.2 p.1 ?_).trans e,n,ne,nf,d⟩
   intro q
   rw[q,hoc]at e
   have q':oc=p.2:=Dc e
   exact d w' (by rw[<- q'];exact hocd)
theorem mn {M:Model}{A:Ca}{E:bn->ca->Prop}{i:Nat}{x:Str}{v:V}{u:bn}{Q:Unit->ca->Prop}(I:Inv X pins σ H s)(hN:X.N.Nodup)(hi:X.N[i]? = some x)(hx:Loc X.env.scope x)(r:RelV v u)
  (h:∀s',Inv X pins (σ.set i (some v)) H s'->Q () s') (hf:X.fn x=true∨X.env.scope.names.lookup x=some .local:=by first | exact .inl rfl | exact .inr rfl | assumption):lm M A (J7 X.env x u) Q E s :=
 iA I hN hi hx r (λs' I' _=>h s' I') hf
theorem Inv.call' {s':ca}{ch:List Addr}(I:Inv X pins σ H s)(ho:s'.os=s.os)(u:Un (frs X.stack) ch H H' s.heap s'.heap)(hok:HOk X.prog X.w H' s'.heap)(hg:F5 s'.gens)
  (hch:∀b∈ch,(b∈X.ex∨X.s₀.heap.objs.size<=b)/\b≠X.env.locals/\(∀x c,X.env.cells.lookup x=some c->c≠b)/\∀p∈X.pn++pins,p.1≠b):Inv X pins σ H' s':=by
 obtain⟨h',g',d',t',o'⟩:=s'
 have e:o'=s.os:=ho
 subst e
 exact I.call (g':=g') (t':=t') (d':=d') u hok hg hch
end
abbrev XK:=bn->Option Addr->Hp->Prop
abbrev St:=List (Option V)
abbrev VK:=V->Hp->Prop
abbrev TE:=St->Hp->VK->Prop
abbrev TT:=St->Hp->(Bool->Hp->Prop)->Prop
abbrev TA:=St->Hp->(List V->Hp->Prop)->Prop
structure Ends where
 nx:St->Hp->Prop
 rt:VK
 bk:St->Hp->Prop:=λ_ _=>False
 ct:St->Hp->Prop:=λ_ _=>False
abbrev TS:=Ends->St->Hp->Prop
def EP (X:Cx)(pins:List (Addr×Obj))(σ:St)(Q:VK)(u:bn)(s':ca):Prop:=∃v H',Inv X pins σ H' s'/\RelV v u/\Q v H'
def TP (X:Cx)(pins:List (Addr×Obj))(σ:St)(Q:Bool->Hp->Prop)(b:Bool)(s':ca):Prop:=∃H',Inv X pins σ H' s'/\Q b H'
def AP (X:Cx)(pins:List (Addr×Obj))(σ:St)(Q:List V->Hp->Prop)(us:List bn)(s':ca):Prop:=∃vs H',Inv X pins σ H' s'/\Vals vs us/\Q vs H'
def SP (X:Cx)(pins:List (Addr×Obj))(D:Ends)(f:Flow)(s':ca):Prop :=
 match f with
 | .next=>∃ σ' H',Inv X pins σ' H' s'/\D.nx σ' H'
 | .brk=>∃ σ' H',Inv X pins σ' H' s'/\D.bk σ' H'
 | .cont=>∃ σ' H',Inv X pins σ' H' s'/\D.ct σ' H'
 | .ret u=>∃v σ' H',Inv X pins σ' H' s'/\RelV v u/\D.rt v H'
def PE (X:Cx)(e:Expr)(t:TE):Prop :=
 ∀(pins:List (Addr×Obj)) (s:ca) (σ:St) (H:Hp) (Q:VK),Inv X pins σ H s->t σ H Q->lm (sn X.prog X.w) X.A (eval e X.env) (EP X pins σ Q) X.xe s
def PT (X:Cx)(e:Expr)(t:TT):Prop :=
 ∀(pins:List (Addr×Obj)) (s:ca) (σ:St) (H:Hp) (Q:Bool->Hp->Prop),Inv X pins σ H s->t σ H Q->lm (sn X.prog X.w) X.A (Fw e X.env (eval e X.env)) (TP X pins σ Q) X.xe s
def PW (X:Cx)(e:Expr)(t:TT):Prop :=
 ∀(whole:Sem bn) (pins:List (Addr×Obj)) (s:ca) (σ:St) (H:Hp) (Q:Bool->Hp->Prop),Inv X pins σ H s->t σ H Q->lm (sn X.prog X.w) X.A (Fw e X.env whole) (TP X pins σ Q) X.xe s
theorem PW.pt {X:Cx}{e:Expr}{t:TT}(h:PW X e t):PT X e t:=h _
def PA (X:Cx)(es:List Expr)(t:TA):Prop :=
 ∀(pos:Pos) (pins:List (Addr×Obj)) (s:ca) (σ:St) (H:Hp) (Q:List V->Hp->Prop),Inv X pins σ H s->t σ H Q->lm (sn X.prog X.w) X.A (JS (D6 pos (B1 es X.env))) (AP X pins σ Q) X.xe s
def PS (X:Cx)(st:Stmt)(t:TS):Prop :=
 ∀(pins:List (Addr×Obj)) (s:ca) (σ:St) (H:Hp) (D:Ends),Inv X pins σ H s->t D σ H->lm (sn X.prog X.w) X.A (exec st X.env) (SP X pins D) X.xe s
def PSs (X:Cx)(st:List Stmt)(t:TS):Prop :=
 ∀(pins:List (Addr×Obj)) (s:ca) (σ:St) (H:Hp) (D:Ends),Inv X pins σ H s->t D σ H->lm (sn X.prog X.w) X.A (execs st X.env) (SP X pins D) X.xe s
theorem thn {α:Type}{t:Sem α}{Q Q':α->ca->Prop}{M:Model}{A:Ca}{E:bn->ca->Prop}{s:ca}(h:lm M A t Q E s)(hQ:∀a s,Q a s->Q' a s):lm M A t Q' E s:=Dn h hQ λ_ _ x=>x
section
variable {X:Cx}
def tVar (i:Nat):TE:=λσ H Q=>∃v,σ[i]? = some (some v)/\Q v H
def tC (v:V):TE:=λ_ H Q=>Q v H
theorem Ae {i:Nat}{x:Str}{pos:Pos}(hN:X.N[i]? = some x)(hv:Vis X.env.scope x)(hd:(x==("__debug__" : Str))=false:=by decide)(hcd:(x==("__classdict__" : Str))=false:=by decide):PE X (.Name x pos) (tVar i):=by
 intro pins s σ H Q I h
 obtain⟨v,e,h⟩:=h
 obtain⟨m,hn,hl⟩:=I.loc
 obtain⟨u,r,l⟩:=hl i x v hN e hv
 have fin:EP X pins σ Q u s:=⟨v,H,I,r,h⟩
 rcases l with⟨hk,hm⟩ | ⟨hk,c,hc,hcell⟩
 ·exact JF (Ji I.ok.kind hk hn hm fin) hd
 ·rcases hk with hk | hk
  ·exact JF (Jv I.ok.kind hk hc hcell fin) hd
  ·exact JF (wpAny_loadName_free I.ok.kind hk hc hcell fin hcd) hd
theorem aJ {i j pos}:PE X (.Constant (.int i) j pos) (tC (.int i)):=λ_ _ _ H _ I h=>wpAny_Constant_int ⟨.int i,H,I.tok _,⟨_,rfl⟩,h⟩
theorem c9 {b j pos}:PE X (.Constant (.bool b) j pos) (tC (.bl b)):=λ_ _ _ H _ I h=>Constant_bool ⟨.bl b,H,I,rfl,h⟩
theorem xN {j pos}:PE X (.Constant .none j pos) (tC .non):=λ_ _ _ H _ I h=>Constant_none ⟨.non,H,I,rfl,h⟩
theorem eJ {x j pos}:PE X (.Constant (.str x) j pos) (tC (.str x)):=λ_ _ _ H _ I h=>Calls.Constant_str ⟨.str x,H,I.tok _,⟨_,rfl⟩,h⟩
def Gl (X:Cx)(x:Str):Prop:=X.env.kindOf x=some .globalImplicit
theorem qh {E:bn->ca->Prop}{pins:List (Addr×Obj)}{s:ca}{σ:St}{H:Hp}{x:Str}{u:bn}{pos:Pos}{Q:bn->ca->Prop}(I:Inv X pins σ H s)(hg:Gl X x)(hm:X.mg x=some u)(h:Q u s)
  (hd:(x==("__debug__" : Str))=false:=by decide):lm (sn X.prog X.w) X.A (eval (.Name x pos) X.env) Q E s :=
 Hj I.ok.kind hg (Calls.loadGlobal_global (by rw[I.ok.glob];exact I.mod.glob.keeps I.bk) hm h) hd
theorem gE {E:bn->ca->Prop}{pins:List (Addr×Obj)}{s:ca}{σ:St}{H:Hp}{x:Str}{u:bn}{pos:Pos}{Q:bn->ca->Prop}(I:Inv X pins σ H s)(hg:Gl X x)(hm:X.mg x=none)(hv:Cz x=some u)(h:Q u s)
  (hn:x ≠ "__name__" := by decide) (hd:(x==("__debug__" : Str))=false:=by decide):lm (sn X.prog X.w) X.A (eval (.Name x pos) X.env) Q E s:=by
 obtain⟨mb,h1,h2⟩:=I.mod.blt
 exact Hj I.ok.kind hg (Calls.loadGlobal_builtin (by rw[I.ok.glob];exact I.mod.glob.keeps I.bk) hm (by rw[I.ok.blt];exact h1.keeps I.bk) ((h2 x hn).trans hv) h) hd
theorem yB {x:Str}{v:V}{u:bn}{pos:Pos}(hg:Gl X x)(hm:X.mg x=some u)(r:RelV v u)(hd:(x==("__debug__" : Str))=false:=by decide):PE X (.Name x pos) (tC v) :=
 λ_ _ _ H _ I h=>qh I hg hm ⟨v,H,I,r,h⟩ hd
theorem yD {x:Str}{v:V}{u:bn}{pos:Pos}(hg:Gl X x)(hm:X.mg x=none)(hv:Cz x=some u)(r:RelV v u)(hn:x ≠ "__name__" := by decide)(hd:(x==("__debug__" : Str))=false:=by decide):PE X (.Name x pos) (tC v) :=
 λ_ _ _ H _ I h=>gE I hg hm hv ⟨v,H,I,r,h⟩ hn hd
variable {a b:Expr}{ta tb:TE}{pos:Pos}
def PC (X:Cx)(op:Jq)(a b:Expr)(t:TE):Prop :=
 ∀(pins:List (Addr×Obj)) (s:ca) (σ:St) (H:Hp) (Q:VK),Inv X pins σ H s->t σ H Q ->
  lm (sn X.prog X.w) X.A (eval a X.env) (λv s₁=>lm (sn X.prog X.w) X.A (eval b X.env) (λu s₂=>lm (sn X.prog X.w) X.A (Do op v u) (EP X pins σ Q) X.xe s₂) X.xe s₁) X.xe s
def tB (t:TE):TT:=λσ H Q=>t σ H λx H1=>∃c,x = .bl c/\Q c H1
theorem Ag {op:Jq}{t:TE}(h:PC X op a b t)(h1:E6 op b=false:=by first | exact nobehind _ (by decide) (by decide) | rfl):PE X (.Compare a [op] [b] pos) t:=λpins s σ H Q I hw=>wpAny_Compare1 (h pins s σ H Q I hw) h1
theorem q5 {op:Jq}{t:TE}(h:PC X op a b t)(h1:E6 op b=false:=by first | exact nobehind _ (by decide) (by decide) | rfl):PT X (.Compare a [op] [b] pos) (tB t):=by
 intro pins s σ H Q I hw
 refine Jb (thn (h pins s σ H _ I hw) λv s1 h1=>thn h1 λu s2 h2=>thn h2 λc s3 ⟨x,H1,I1,r1,q1⟩=>?_) h1
 obtain⟨d,rfl,q⟩:=q1
 cases r1
 exact Dl ⟨H1,I1,q⟩
theorem eE {e:Expr}{t:TE}(h:PE X e t)(he:∀whole,Fw e X.env whole=(do let v <- whole;Eg e.pos;Gz [v] (truthy v)):=by intro _;rfl):PT X e (tB t):=by
 intro pins s σ H Q I hw
 refine isTrue_plain (thn (h pins s σ H _ I hw) λv s1 ⟨x,H1,I1,r1,q1⟩=>?_) (he _)
 obtain⟨d,rfl,q⟩:=q1
 cases r1
 exact Dl ⟨H1,I1,q⟩
variable {tA tB':TT}{rest:List Expr}
def tAnd (t u:TT):TT:=λσ H Q=>t σ H λc H1=>if c=true then u σ H1 Q else Q false H1
def tOr (t u:TT):TT:=λσ H Q=>t σ H λc H1=>if c=true then Q true H1 else u σ H1 Q
def tNot (t:TT):TT:=λσ H Q=>t σ H λc H1=>Q (!c) H1
theorem gq (ha:PT X a tA):PW X (.BoolOp .And [a] pos) tA:=by
 intro wh pins s σ H Q I h
 refine isTrue_and (thn (ha pins s σ H Q I h) λc s1 e=>?_)
 cases c with
 | true=>exact isTrue_and_nil e
 | false=>exact e
theorem q0 (ha:PT X a tA):PW X (.BoolOp .Or [a] pos) tA:=by
 intro wh pins s σ H Q I h
 refine isTrue_or (thn (ha pins s σ H Q I h) λc s1 e=>?_)
 cases c with
 | false=>exact isTrue_or_nil e
 | true=>exact e
theorem jA (ha:PT X a tA)(hb:PW X (.BoolOp .And (b::rest) pos) tB'):PW X (.BoolOp .And (a::b::rest) pos) (tAnd tA tB'):=by
 intro wh pins s σ H Q I h
 refine isTrue_and (thn (ha pins s σ H _ I h) λc s1 ⟨H1,I1,q1⟩=>?_)
 cases c with
 | true=>exact hb wh pins s1 σ H1 Q I1 q1
 | false=>exact⟨H1,I1,q1⟩
theorem sg (ha:PT X a tA)(hb:PW X (.BoolOp .Or (b::rest) pos) tB'):PW X (.BoolOp .Or (a::b::rest) pos) (tOr tA tB'):=by
 intro wh pins s σ H Q I h
 refine isTrue_or (thn (ha pins s σ H _ I h) λc s1 ⟨H1,I1,q1⟩=>?_)
 cases c with
 | true=>exact⟨H1,I1,q1⟩
 | false=>exact hb wh pins s1 σ H1 Q I1 q1
theorem f7 (ha:PT X a tA):PT X (.UnaryOp .Not a pos) (tNot tA):=by
 intro pins s σ H Q I h
 exact isTrue_not (ha pins s σ H (λc H1=>Q (!c) H1) I h)
def z3 (ta tb:TE):TE:=λσ H Q=>ta σ H λx H1=>∃c,x = .bl c/\if c=true then tb σ H1 Q else Q (.bl false) H1
def tOrV (ta tb:TE):TE:=λσ H Q=>ta σ H λx H1=>∃c,x = .bl c/\if c=true then Q (.bl true) H1 else tb σ H1 Q
def zX (ta:TE):TE:=λσ H Q=>ta σ H λx H1=>∃c,x = .bl c/\Q (.bl (!c)) H1
theorem ki {op}{t:TE}(h:PE X a t):PE X (.BoolOp op [a] pos) t:=λpins s σ H Q I hw=>BoolOp_one (h pins s σ H Q I hw)
theorem h_ (ha:PE X a ta)(hb:PE X (.BoolOp .And (b::rest) pos) tb):PE X (.BoolOp .And (a::b::rest) pos) (z3 ta tb):=by
 intro pins s σ H Q I h
 refine BoolOp_and (thn (ha pins s σ H _ I h) λv s1 ⟨x,H1,I1,r1,q1⟩=>?_)
 obtain⟨c,rfl,q1⟩:=q1
 cases r1
 refine Dl ?_
 cases c with
 | true=>exact hb pins s1 σ H1 Q I1 q1
 | false=>exact⟨.bl false,H1,I1,rfl,q1⟩
theorem Bn (ha:PE X a ta)(hb:PE X (.BoolOp .Or (b::rest) pos) tb):PE X (.BoolOp .Or (a::b::rest) pos) (tOrV ta tb):=by
 intro pins s σ H Q I h
 refine BoolOp_or (thn (ha pins s σ H _ I h) λv s1 ⟨x,H1,I1,r1,q1⟩=>?_)
 obtain⟨c,rfl,q1⟩:=q1
 cases r1
 refine Dl ?_
 cases c with
 | false=>exact hb pins s1 σ H1 Q I1 q1
 | true=>exact⟨.bl true,H1,I1,rfl,q1⟩
theorem xM (ha:PE X a ta):PE X (.UnaryOp .Not a pos) (zX ta):=by
 intro pins s σ H Q I h
 refine UnaryOp_ (thn (ha pins s σ H _ I h) λv s1 ⟨x,H1,I1,r1,q1⟩=>?_)
 obtain⟨c,rfl,q1⟩:=q1
 cases r1
 exact not_of (Dl ⟨.bl (!c),H1,I1,rfl,q1⟩)
def tIf (t:TT)(ta tb:TE):TE:=λσ H Q=>t σ H λc H1=>if c=true then ta σ H1 Q else tb σ H1 Q
theorem wz {c:Expr}(hc:PT X c tA)(ha:PE X a ta)(hb:PE X b tb):PE X (.IfExp c a b pos) (tIf tA ta tb):=by
 intro pins s σ H Q I h
 refine wpAny_IfExp (thn (hc pins s σ H _ I h) λd s1 ⟨H1,I1,q1⟩=>?_)
 cases d with
 | true=>exact ha pins s1 σ H1 Q I1 q1
 | false=>exact hb pins s1 σ H1 Q I1 q1
end
def SqL (K:bi)(H:Hp)(a:Addr)(xs:List V):Prop :=
 Rd H a (.lst xs) ∨
  ∃(o:Obj) (its:Array bn) (n:Nat),K.lookup a=some o/\o.cls = .type "list" /\ o.dict=none/\o.data = .seq its n/\its.size<=wT/\Vals xs its.toList
def SqT (K:bi)(H:Hp)(a:Addr)(xs:List V):Prop :=
 Rd H a (.tup xs) ∨
  ∃(o:Obj) (its:Array bn) (n:Nat),K.lookup a=some o/\o.cls = .type "tuple" /\ o.data = .seq its n/\its.size<=wT/\Vals xs its.toList
def absV:bn->Option V
 | .none=>some .non
 | .bool b=>some (.bl b)
 | .int i _=>some (.int i)
 | .str x _=>some (.str x)
 | .bytes b _=>some (.byt b)
 | .float b _=>some (.flt b)
 | .ref a=>some (.ref a)
 | .type n=>some (.ty n)
 | _=>none
theorem RelV.abs {x:V}{u:bn}(r:RelV x u):absV u=some x:=by
 cases x with
 | non=>cases r;rfl
 | bl _=>cases r;rfl
 | int _=>obtain⟨t,rfl⟩:=r;rfl
 | str _=>obtain⟨t,rfl⟩:=r;rfl
 | byt _=>obtain⟨t,rfl⟩:=r;rfl
 | flt _=>obtain⟨t,rfl⟩:=r;rfl
 | ref _=>cases r;rfl
 | ty _=>cases r;rfl
theorem RelV.inj {x y:V}{u:bn}(r:RelV x u)(q:RelV y u):x=y:=Dc (r.abs.symm.trans q.abs)
theorem Vals.inj:∀ {xs ys:List V} {us:List bn},Vals xs us->Vals ys us->xs=ys
 | _,_,_,.nil,.nil=>rfl
 | _,_,_,.cons r t,.cons r' t'=>by rw[r.inj r',Vals.inj t t']
section
variable {X:Cx}{pins:List (Addr×Obj)}{σ:St}{H:Hp}{s:ca}{a:Addr}{xs ys:List V}
theorem SqL.of {K:bi}(h:H a=some (.lst xs)):SqL K H a xs:=.inl (.inl h)
theorem SqT.of {K:bi}(h:H a=some (.tup xs)):SqT K H a xs:=.inl (.inl h)
theorem Inv.list (I:Inv X pins σ H s)(h:SqL X.K H a xs):∃its:List bn,Vals xs its/\PlainL s.heap a its.toArray/\xs.length<=wT:=by
 rcases h with h | ⟨o,its,n,hk,hc,hd,hs,hz,r⟩
 ·obtain⟨z,its,n,r,e⟩:=h.ok I.hok
  exact⟨its,r,⟨_,n,e,rfl,rfl,rfl⟩,z⟩
 ·refine⟨its.toList,r,⟨o,n,I.kIn a o hk,hc,hd,by simpa using hs⟩,?_⟩
  have e:=r.length
  simp only[Di]at e
  omega
theorem Inv.tuple (I:Inv X pins σ H s)(h:SqT X.K H a xs):∃its:List bn,Vals xs its/\IsTup s.heap a its.toArray/\xs.length<=wT:=by
 rcases h with h | ⟨o,its,n,hk,hc,hs,hz,r⟩
 ·obtain⟨z,its,r,p⟩:=h.ok I.hok
  exact⟨its,r,p,z⟩
 ·refine⟨its.toList,r,⟨o,I.kIn a o hk,hc,n,by simpa using hs⟩,?_⟩
  have e:=r.length
  simp only[Di]at e
  omega
theorem Inv.list_inj (I:Inv X pins σ H s)(h:SqL X.K H a xs)(h':SqL X.K H a ys):xs=ys:=by
 obtain⟨its,r,⟨o,n,e,_,_,d⟩,_⟩:=I.list h
 obtain⟨its',r',⟨o',n',e',_,_,d'⟩,_⟩:=I.list h'
 rw[e]at e';cases e'
 rw[d]at d'
 injection d' with d1 _
 have:its=its':=by simpa using congrArg JO d1
 subst this
 exact r.inj r'
theorem Inv.tuple_inj (I:Inv X pins σ H s)(h:SqT X.K H a xs)(h':SqT X.K H a ys):xs=ys:=by
 obtain⟨its,r,⟨o,e,_,n,d⟩,_⟩:=I.tuple h
 obtain⟨its',r',⟨o',e',_,n',d'⟩,_⟩:=I.tuple h'
 rw[e]at e';cases e'
 rw[d]at d'
 injection d' with d1 _
 have:its=its':=by simpa using congrArg JO d1
 subst this
 exact r.inj r'
end
abbrev Cx.wish (X:Cx)(E:bn->ca->Prop):Cx:={X with xe:=E}
abbrev Cx.nox (X:Cx):Cx:=X.wish λ_ _=>False
theorem Cx.Ok.wish {X:Cx}(ok:X.Ok)(E:bn->ca->Prop):(X.wish E).Ok :=
 ⟨ok.mod,ok.kind,ok.glob,ok.blt,ok.above,ok.inj,ok.has,ok.cab,ok.hd,ok.frames,ok.stk,ok.exf,ok.bs,ok.bsz,ok.noex,ok.exfs,ok.funs,ok.frf⟩
theorem Cx.Ok.unwish {X:Cx}{E:bn->ca->Prop}(ok:(X.wish E).Ok):X.Ok :=
 ⟨ok.mod,ok.kind,ok.glob,ok.blt,ok.above,ok.inj,ok.has,ok.cab,ok.hd,ok.frames,ok.stk,ok.exf,ok.bs,ok.bsz,ok.noex,ok.exfs,ok.funs,ok.frf⟩
section
variable {X:Cx}{pins:List (Addr×Obj)}{σ:St}{H:Hp}{s:ca}{E:bn->ca->Prop}
theorem Inv.wish (I:Inv X pins σ H s)(E:bn->ca->Prop):Inv (X.wish E) pins σ H s:=⟨I.ok.wish E,I.os,I.bare,I.base,I.loc,I.cell,I.free,I.freeC,I.pin,I.hok,I.len⟩
theorem Inv.unwish (I:Inv (X.wish E) pins σ H s):Inv X pins σ H s:=⟨I.ok.unwish,I.os,I.bare,I.base,I.loc,I.cell,I.free,I.freeC,I.pin,I.hok,I.len⟩
theorem SP.unwish {D:Ends}{f:Flow}{s':ca}(h:SP (X.wish E) pins D f s'):SP X pins D f s':=by
 cases f with
 | next=>obtain⟨σ',H',I,q⟩:=h;exact⟨σ',H',I.unwish,q⟩
 | brk=>obtain⟨σ',H',I,q⟩:=h;exact⟨σ',H',I.unwish,q⟩
 | cont=>obtain⟨σ',H',I,q⟩:=h;exact⟨σ',H',I.unwish,q⟩
 | ret u=>obtain⟨v,σ',H',I,r,q⟩:=h;exact⟨v,σ',H',I.unwish,r,q⟩
theorem PSs.nox {st:List Stmt}{t:TS}(h:PSs X.nox st t):PSs X st t:=λpins s σ H D I hw =>
 Dn (h pins s σ H D (I.wish _) hw) (λ_ _ q=>q.unwish) λ_ _ z=>DI z
end
section
variable {X:Cx}{st:Stmt}{rest:List Stmt}{t u:TS}{e:Expr}{te:TE}{pos:Pos}
def tNext:TS:=λD σ H=>D.nx σ H
def tSeq (t u:TS):TS:=λD σ H=>t {D with nx:=u D} σ H
theorem bx:PSs X [] tNext:=λ_ _ σ H _ I h=>F7 ⟨σ,H,I,h⟩
theorem ao (h1:PS X st t)(h2:PSs X rest u):PSs X (st::rest) (tSeq t u):=by
 intro pins s σ H D I h
 refine J6 (thn (h1 pins s σ H {D with nx:=u D} I h) λf s1 q=>?_)
 cases f with
 | next =>
  obtain⟨σ',H',I',q⟩:=q
  exact h2 pins s1 σ' H' D I' q
 | ret v=>exact q
 | brk=>exact q
 | cont=>exact q
theorem aI (h1:PS X st t):PSs X [st] t:=by
 intro pins s σ H D I h
 refine J6 (thn (h1 pins s σ H D I h) λf s1 q=>?_)
 cases f with
 | next=>exact F7 q
 | ret v=>exact q
 | brk=>exact q
 | cont=>exact q
theorem Inv.quiet {pins:List (Addr×Obj)}{σ:St}{H:Hp}{s:ca}(I:Inv X pins σ H s):interactive X.env=false:=by simp[interactive,I.ok.kind]
def zY (te:TE):TS:=λD σ H=>te σ H λ_ H1=>D.nx σ H1
theorem dX (he:PE X e te)(hs:FP e none pos.line X.env=pure false:=by rfl):PS X (.Expr e pos) (zY te):=by
 intro pins s σ H D I h
 exact wpAny_Expr_any (thn (he pins s σ H _ I h) λv s1 ⟨x,H1,I1,r1,q1⟩=>⟨σ,H1,I1,q1⟩) I.quiet hs
def tRet (te:TE):TS:=λD σ H=>te σ H D.rt
theorem aZ (he:PE X e te):PS X (.Return (some e) pos) (tRet te):=by
 intro pins s σ H D I h
 exact wpAny_Return_some (thn (he pins s σ H _ I h) λv s1 ⟨x,H1,I1,r1,q1⟩=>⟨x,σ,H1,I1,r1,q1⟩)
def tIfS (c:TT)(t u:TS):TS:=λD σ H=>c σ H λb H1=>if b=true then t D σ H1 else u D σ H1
theorem dq {c:Expr}{a b:List Stmt}{tc:TT}(hc:PT X c tc)(ha:PSs X a t)(hb:PSs X b u):PS X (.If c a b pos) (tIfS tc t u):=by
 intro pins s σ H D I h
 refine wpAny_If (thn (hc pins s σ H _ I h) λd s1 ⟨H1,I1,q1⟩=>?_)
 cases d with
 | true=>exact ha pins s1 σ H1 D I1 q1
 | false=>exact hb pins s1 σ H1 D I1 q1
def tNever:TS:=λ_ _ _=>False
theorem q_:PS X st tNever:=λ_ _ _ _ _ _ h=>h.elim
end
abbrev TG:=V->St->Hp->(St->Hp->Prop)->Prop
abbrev TGs:=List V->St->Hp->(St->Hp->Prop)->Prop
def PG (X:Cx)(target:Expr)(t:TG):Prop :=
 ∀(pins:List (Addr×Obj)) (s:ca) (σ:St) (H:Hp) (v:V) (u:bn) (Q:St->Hp->Prop),Inv X pins σ H s->RelV v u->t v σ H Q ->
  lm (sn X.prog X.w) X.A (D1 target X.env u) (λ_ s'=>∃ σ' H',Inv X pins σ' H' s'/\Q σ' H') X.xe s
def PGs (X:Cx)(ts:List Expr)(t:TGs):Prop :=
 ∀(pins:List (Addr×Obj)) (s:ca) (σ:St) (H:Hp) (vs:List V) (us:List bn) (Q:St->Hp->Prop),Inv X pins σ H s->Vals vs us->t vs σ H Q ->
  lm (sn X.prog X.w) X.A (assignInOrder ((EW ts X.env).map (·.2)) us) (λ_ s'=>∃ σ' H',Inv X pins σ' H' s'/\Q σ' H') X.xe s
abbrev TIp:=V->V->Hp->VK->Prop
def PIp (X:Cx)(op:Operator)(t:TIp):Prop :=
 ∀(pins:List (Addr×Obj)) (s:ca) (σ:St) (H:Hp) (x y:V) (v u:bn) (Q:VK),Inv X pins σ H s->RelV x v->RelV y u->t x y H Q ->
  lm (sn X.prog X.w) X.A (inplaceOp op v u) (EP X pins σ Q) X.xe s
section
variable {X:Cx}{pos:Pos}
def xa (i:Nat):TG:=λv σ H Q=>Q (σ.set i (some v)) H
theorem aG {i:Nat}{x:Str}(hN:X.N.Nodup)(hi:X.N[i]? = some x)(hx:Loc X.env.scope x)(hf:X.fn x=true∨X.env.scope.names.lookup x=some .local:=by first | exact .inl rfl | exact .inr rfl | assumption):PG X (.Name x pos) (xa i):=by
 intro pins s σ H v u Q I r h
 exact FG (mn I hN hi hx r (λs' I'=>⟨_,H,I',h⟩) hf)
def gNil:TGs:=λvs σ H Q=>vs=[]/\Q σ H
def AY (t:TG)(u:TGs):TGs:=λvs σ H Q=>∃v r,vs=v::r/\t v σ H λσ' H'=>u r σ' H' Q
theorem bA:PGs X [] gNil:=by
 intro pins s σ H vs us Q I r h
 obtain⟨e,h⟩:=h
 subst e
 cases r
 exact assignInOrder_nil ⟨σ,H,I,h⟩
theorem aK {e:Expr}{es:List Expr}{t:TG}{u:TGs}(h1:PG X e t)(h2:PGs X es u)
  (hs:(EW (e::es) X.env).map (·.2)=D1 e X.env::(EW es X.env).map (·.2):=by rfl):PGs X (e::es) (AY t u):=by
 intro pins s σ H vs us Q I r h
 obtain⟨v,vr,e1,h⟩:=h
 subst e1
 cases r with
 | cons r rr =>
  rw[hs]
  refine assignInOrder_cons (thn (h1 pins s σ H _ _ _ I r h) λ_ s1 ⟨σ1,H1,I1,q1⟩=>?_)
  exact h2 pins s1 σ1 H1 _ _ Q I1 rr q1
def gTup (K:bi)(n:Nat)(t:TGs):TG:=λv σ H Q=>∃a xs,v = .ref a/\SqT K H a xs/\xs.length=n/\t xs σ H Q
theorem Ad {es:List Expr}{k:Nat}{t:TGs}{n:Nat}(hc:X.calm=true)(h:PGs X es t)
  (hn:(EW es X.env).length=n:=by rfl) (hst:(EW es X.env).findIdx? (·.1)=none:=by rfl):PG X (.Tuple es k pos) (gTup X.K n t):=by
 intro pins s σ H v u Q I r hw
 obtain⟨a,xs,e1,hq,hl,hw⟩:=hw
 subst e1
 cases r
 obtain⟨its,rv,ht,hz⟩:=I.tuple hq
 refine assign_Tuple_tuple (I.ok.hd hc) ht (by simp[hn,<- hl,rv.length]) hst λh' hx=>?_
 have I1:Inv X pins σ H {s with heap:=h'}:=I.kept (t':=s.toks) λb o e=>hx b o (wP (lc e)) e
 exact h pins _ σ H xs _ Q I1 (by simpa using rv) hw
def tAsg (te:TE)(g:TG):TS:=λD σ H=>te σ H λx H1=>g x σ H1 D.nx
theorem fk {tg e:Expr}{te:TE}{g:TG}(he:PE X e te)(hg:PG X tg g)(hs:swapsWithSole [tg] e pos.line X.env=pure false:=by rfl)(hw:swappedStores [tg] e X.env=pure none:=by rfl)
  (h1:(EW [tg] X.env).map (·.2)=[D1 tg X.env]:=by rfl):PS X (.Assign [tg] e pos) (tAsg te g):=by
 intro pins s σ H D I h
 refine wpAny_Assign_stores (thn (he pins s σ H _ I h) λv s1 ⟨x,H1,I1,r1,q1⟩=>?_) hs hw
 rw[h1]
 exact thn (hg pins s1 σ H1 x v _ I1 r1 q1) λ_ s2 q=>q
theorem bj {i:Nat}{x:Str}{e:Expr}{te:TE}{pos':Pos}(hN:X.N.Nodup)(hi:X.N[i]? = some x)(hx:Loc X.env.scope x)(he:PE X e te)(hs:FP e (some (.Name x pos')) pos.line X.env=pure false:=by rfl)(hf:X.fn x=true∨X.env.scope.names.lookup x=some .local:=by first | exact .inl rfl | exact .inr rfl | assumption) :
  PS X (.Assign [.Name x pos'] e pos) (tAsg te (xa i)):=by
 intro pins s σ H D I h
 refine wpAny_Assign_Name (thn (he pins s σ H _ I h) λv s1 ⟨y,H1,I1,r1,q1⟩=>?_) hs
 exact mn I1 hN hi hx r1 (λs2 I2=>⟨_,H1,I2,q1⟩) hf
def tAug (i:Nat)(te:TE)(ti:TIp):TS:=λD σ H=>∃x,σ[i]? = some (some x)/\te σ H λy H1=>ti x y H1 λz H2=>D.nx (σ.set i (some z)) H2
theorem xK {i:Nat}{x:Str}{e:Expr}{te:TE}{op:Operator}{ti:TIp}{pos':Pos}(hN:X.N.Nodup)(hi:X.N[i]? = some x)(hx:Loc X.env.scope x)(he:PE X e te)(ho:PIp X op ti)(hf:X.fn x=true∨X.env.scope.names.lookup x=some .local:=by first | exact .inl rfl | exact .inr rfl | assumption) :
  PS X (.AugAssign (.Name x pos') op e pos) (tAug i te ti):=by
 intro pins s σ H D I h
 obtain⟨v,e1,h⟩:=h
 obtain⟨m,hn,hl⟩:=I.loc
 have vis:Vis X.env.scope x:=by rcases hx with k | k;exact .inl k;exact .inr (.inl k)
 obtain⟨u,r,l⟩:=hl i x v hi e1 vis
 refine wpAny_AugAssign_Name ?_
 have go:lm (sn X.prog X.w) X.A (eval e X.env) (λw s₂=>lm (sn X.prog X.w) X.A (inplaceOp op u w) (λr s₃=>lm (sn X.prog X.w) X.A (J7 X.env x r) (λ_=>SP X pins D .next) X.xe s₃) X.xe s₂) X.xe s:=by
  refine thn (he pins s σ H _ I h) λw s1 ⟨y,H1,I1,r1,q1⟩=>?_
  refine thn (ho pins s1 σ H1 v y u w _ I1 r r1 q1) λz s2 ⟨zv,H2,I2,r2,q2⟩=>?_
  exact mn I2 hN hi hx r2 (λs3 I3=>⟨_,H2,I3,q2⟩) hf
 rcases l with⟨hk,hm⟩ | ⟨hk,c,hc,hcell⟩
 ·exact Ji I.ok.kind hk hn hm go
 ·rcases hk with hk | hk
  ·exact Jv I.ok.kind hk hc hcell go
  ·rcases hx with k | k
   ·have:X.env.scope.names.lookup x=some .free:=hk
    rw[k]at this;cases this
   ·have:X.env.scope.names.lookup x=some .free:=hk
    rw[k]at this;cases this
def ipI (f:Int->Int->Int):TIp:=λx y H Q=>∃i j,x = .int i/\y = .int j/\Q (.int (f i j)) H
theorem xT:PIp X .Add (ipI λi j=>i+j):=by
 intro pins s σ H x y v u Q I r1 r2 h
 obtain⟨i,j,e1,e2,q⟩:=h
 subst e1;subst e2
 obtain⟨t,rfl⟩:=r1
 obtain⟨t',rfl⟩:=r2
 exact iadd_int ⟨.int _,H,I.tok _,⟨_,rfl⟩,q⟩
end
section
variable {X:Cx}{pos:Pos}
def xC (c:TT)(tb:TS):TS:=λD σ H=>∃W:Nat->St->Hp->Prop,(∃m,W m σ H)/\∀m σ H,W m σ H ->
 c σ H λb H1=>if b=true then ∃N:St->Hp->Prop,(∀ σ' H',N σ' H'->∃m',m'<m/\W m' σ' H')/\tb {D with nx:=N,ct:=N,bk:=D.nx} σ H1 else D.nx σ H1
theorem mC {c:Expr}{body:List Stmt}{tc:TT}{tb:TS}(hp:PassesOwn (sn X.prog X.w) X.A X.env X.xe)(hc:PT X c tc)(hb:PSs X body tb):PS X (.While c body [] pos) (xC tc tb):=by
 intro pins s σ H D I h
 obtain⟨W,⟨m0,w0⟩,turn⟩:=h
 refine wpAny_While (codeAny_whileLoop (λn s'=>∃ σ' H',Inv X pins σ' H' s'/\W n σ' H') ?_ m0 ⟨σ,H,I,w0⟩)
 rintro n s1 ⟨σ1,H1,I1,w1⟩
 refine Ed hp (thn (hc pins s1 σ1 H1 _ I1 (turn n σ1 H1 w1)) λb s2 ⟨H2,I2,q2⟩=>?_)
 cases b with
 | true =>
  obtain⟨N,hN,q2⟩:=q2
  rw[if_pos rfl]
  refine Ed hp (thn (hb pins s2 σ1 H2 _ I2 q2) λf s3 q3=>?_)
  cases f with
  | next =>
   obtain⟨σ3,H3,I3,n3⟩:=q3
   obtain⟨m',hm,w3⟩:=hN σ3 H3 n3
   exact⟨m',hm,σ3,H3,I3,w3⟩
  | cont =>
   obtain⟨σ3,H3,I3,n3⟩:=q3
   obtain⟨m',hm,w3⟩:=hN σ3 H3 n3
   exact⟨m',hm,σ3,H3,I3,w3⟩
  | brk=>exact q3
  | ret v=>exact q3
 | false =>
  rw[if_neg B4]
  exact F7 ⟨σ1,H2,I2,q2⟩
end
structure It where
 go:Nat->Hp->Prop
 yld:Nat->Hp->V->Hp->Prop
 stop:Nat->Hp->Prop
def FpOk (X:Cx)(pins:List (Addr×Obj))(H:Hp)(b:Addr):Prop :=
 H b=none/\b≠X.env.locals/\b∉X.fs/\(b∈X.ex∨X.s₀.heap.objs.size<=b)/\(∀x c,X.env.cells.lookup x=some c->c≠b)/\∀p∈X.pn++pins,p.1≠b
theorem Inv.fpOk {X:Cx}{pins:List (Addr×Obj)}{σ:St}{H H':Hp}{s:ca}{b:Addr}(I:Inv X pins σ H s)(hb:s.heap.objs.size<=b)(hn:H' b=none):FpOk X pins H' b:=by
 refine⟨hn,CV (xz I.lt hb),I.nofs hb,.inr (xL I.sz hb),λx c e z=>?_,λp hp z=>?_⟩
 ·obtain⟨v,q⟩:=I.cell x c e
  exact absurd (xz q.lt (by rw[z];exact hb)) (DV _)
 ·exact absurd (xz (lc (I.pin p hp).1) (by rw[z];exact hb)) (DV _)
structure Turn (P:wE)(w:B2)(K:bi)(tg:Expr)(J:It)(fp:List Addr)(it:Addr)(tn:Nat->Heap->Prop):Prop where
 mem:it∈fp
 obj:∀i h,tn i h->∀b∈fp,∃o,h.get? b=some o/\∀v,o.data ≠ .cell v
 keep:∀i h h',tn i h->(∀b∈fp,∀o,h.get? b=some o->h'.get? b=some o)->tn i h'
 item:∀(X:Cx),X.prog=P->X.w=w->X.K=K->X.calm=true->∀(i:Nat) (pins:List (Addr×Obj)) (s:ca) (σ:St) (H:Hp) (E:bn->ca->Prop),Inv X pins σ H s->(∀b∈fp,FpOk X pins H b)->tn i s.heap->J.go i H ->
  lm (sn P w) X.A (Es (.ref it)) (λr s1=>∃u,r=some u /\
   lm (sn P w) X.A (Db tg (.ref it) u) (λ_ s2=>∃x H',Inv X pins σ H' s2/\RelV x u/\J.yld i H x H'/\tn (i+1) s2.heap/\∀b∈fp,H' b=none) E s1) E s
 done:∀(X:Cx),X.prog=P->X.w=w->X.K=K->X.calm=true->∀(i:Nat) (pins:List (Addr×Obj)) (s:ca) (σ:St) (H:Hp) (E:bn->ca->Prop),Inv X pins σ H s->(∀b∈fp,FpOk X pins H b)->tn i s.heap->J.stop i H ->
  lm (sn P w) X.A (Es (.ref it)) (λr s1=>r=none/\Inv X pins σ H s1) E s
 self:∀(A:Ca) (i:Nat) (s:ca) (Q:bn->ca->Prop) (E:bn->ca->Prop),tn i s.heap->Q (.ref it) s->lm (sn P w) A (GY (.ref it)) Q E s
abbrev TI:=St->Hp->(It->Hp->Prop)->Prop
def PIE (X:Cx)(pins:List (Addr×Obj))(σ:St)(tg:Expr)(R:It->Hp->Prop)(itv:bn)(s2:ca):Prop :=
 ∃(it:Addr) (fp:List Addr) (tn:Nat->Heap->Prop) (J:It) (H':Hp),itv = .ref it/\Inv X pins σ H' s2/\Turn X.prog X.w X.K tg J fp it tn/\tn 0 s2.heap/\(∀b∈fp,FpOk X pins H' b)/\R J H'
def PI (X:Cx)(tg iter:Expr)(wi:TI):Prop :=
 ∀(pins:List (Addr×Obj)) (s:ca) (σ:St) (H:Hp) (R:It->Hp->Prop),Inv X pins σ H s->wi σ H R ->
  lm (sn X.prog X.w) X.A (eval iter X.env) (λv s1=>lm (sn X.prog X.w) X.A (GY v) (PIE X pins σ tg R) X.xe s1) X.xe s
theorem uZ {M:Model}{A:Ca}{E:bn->ca->Prop}{s:ca}{tg:Expr}{it:Addr}{u:bn}{o:Obj}{n:String}{vs:Array bn}{Q:Unit->ca->Prop}(ho:s.heap.get? it=some o)(hc:o.cls = .type n)(hd:o.data = .fields vs)
  (hn:["enumerate", "zip", "dict_itemiterator", "dict_reverseitemiterator", "odict_iterator", "itertools.zip_longest", "itertools.pairwise"].contains n=false) (hQ:Q () s):lm M A (Db tg (.ref it) u) Q E s:=by
 unfold Db
 cases tg <;> first
  | exact dL hQ
  | (cases u <;> first
    | exact dL hQ
    | (refine bm (JE ho ?_);rw[hc,hd];show lm M A (if(["enumerate", "zip", "dict_itemiterator", "dict_reverseitemiterator", "odict_iterator", "itertools.zip_longest", "itertools.pairwise"].contains n&&vs[0]? == some (DK _))=true then _ else _) Q E s;rw[if_neg (by intro h;rw[hn,DY]at h;cases h)];exact dL hQ))
def Itl (K:bi)(a:Addr):It :=
 ⟨λi H=>∃xs x,SqL K H a xs/\xs[i]? = some x,λi H x H'=>H'=H/\∀xs,SqL K H a xs->xs[i]? = some x,λi H=>∃xs,SqL K H a xs/\xs.length<=i⟩
def Itt (K:bi)(a:Addr):It :=
 ⟨λi H=>∃xs x,SqT K H a xs/\xs[i]? = some x,λi H x H'=>H'=H/\∀xs,SqT K H a xs->xs[i]? = some x,λi H=>∃xs,SqT K H a xs/\xs.length<=i⟩
def Itr (lo:Int)(n:Nat):It:=⟨λi _=>i<n,λi H x H'=>H'=H/\x = .int (lo+i),λi _=>n<=i⟩
theorem tf {P:wE}{w:B2}{K:bi}{tg:Expr}(a it:Addr):Turn P w K tg (Itl K a) [it] it (λi h=>h.IsListIter it a i) where
 mem:=by simp
 obj:=λi h st b hb=>by
  have e:b=it:=by simpa using hb
  subst e
  obtain⟨o,e,c,d⟩:=st
  exact⟨o,e,λv z=>by rw[d]at z;cases z⟩
 keep:=λi h h' st k=>st.at λo e=>k it (by simp) o e
 item:=by
  intro X hP hw hK hc i pins s σ H E I hf st hg
  subst hP hw hK
  obtain⟨xs,x,hq,hx⟩:=hg
  obtain⟨its,rv,p,hz⟩:=I.list hq
  obtain⟨u,hu,ru⟩:=rv.get hx
  obtain⟨f0,f1,f2,f3,f4,f5⟩:=hf it (by simp)
  refine wpAny_pyNext_list_item st p.isList (x:=u) (by simpa using hu) λh' st' sb=>?_
  have I1:Inv X pins σ H {s with heap:=h'}:=I.turned (t':=s.toks) (λb o hb e=>(sb.2 b hb).trans e) f0 f1 f3 f4 f5
  obtain⟨o,e,c,d⟩:=id st'
  exact⟨u,rfl,uZ (s:={s with heap:=h'}) e c d (by decide) ⟨x,H,I1,ru,⟨rfl,λys hy=>by rw[I.list_inj hy hq];exact hx⟩,st',λb hb=>(hf b hb).1⟩⟩
 done:=by
  intro X hP hw hK hc i pins s σ H E I hf st hg
  subst hP hw hK
  obtain⟨xs,hq,hx⟩:=hg
  obtain⟨its,rv,p,hz⟩:=I.list hq
  obtain⟨f0,f1,f2,f3,f4,f5⟩:=hf it (by simp)
  have hl:=rv.length
  exact wpAny_pyNext_list_end (I.ok.hd hc) st p.isList (by simp;omega) λh' eb=>⟨rfl,I.turned (t':=s.toks) (λb o hb e=>eb b o hb e) f0 f1 f3 f4 f5⟩
 self:=λ_ _ _ _ _ st h=>wpAny_pyIter_listiter st h
theorem rU {P:wE}{w:B2}{K:bi}{tg:Expr}(a it:Addr):Turn P w K tg (Itt K a) [it] it (λi h=>h.IsTupleIter it a i) where
 mem:=by simp
 obj:=λi h st b hb=>by
  have e:b=it:=by simpa using hb
  subst e
  obtain⟨o,e,c,d⟩:=st
  exact⟨o,e,λv z=>by rw[d]at z;cases z⟩
 keep:=λi h h' st k=>st.at λo e=>k it (by simp) o e
 item:=by
  intro X hP hw hK hc i pins s σ H E I hf st hg
  subst hP hw hK
  obtain⟨xs,x,hq,hx⟩:=hg
  obtain⟨its,rv,p,hz⟩:=I.tuple hq
  obtain⟨u,hu,ru⟩:=rv.get hx
  obtain⟨f0,f1,f2,f3,f4,f5⟩:=hf it (by simp)
  refine wpAny_pyNext_tuple_item st (show s.heap.IsTuple a its.toArray from p) (x:=u) (by simpa using hu) λh' st' sb=>?_
  have I1:Inv X pins σ H {s with heap:=h'}:=I.turned (t':=s.toks) (λb o hb e=>(sb.2 b hb).trans e) f0 f1 f3 f4 f5
  obtain⟨o,e,c,d⟩:=id st'
  exact⟨u,rfl,uZ (s:={s with heap:=h'}) e c d (by decide) ⟨x,H,I1,ru,⟨rfl,λys hy=>by rw[I.tuple_inj hy hq];exact hx⟩,st',λb hb=>(hf b hb).1⟩⟩
 done:=by
  intro X hP hw hK hc i pins s σ H E I hf st hg
  subst hP hw hK
  obtain⟨xs,hq,hx⟩:=hg
  obtain⟨its,rv,p,hz⟩:=I.tuple hq
  obtain⟨f0,f1,f2,f3,f4,f5⟩:=hf it (by simp)
  have hl:=rv.length
  exact wpAny_pyNext_tuple_end (I.ok.hd hc) st (show s.heap.IsTuple a its.toArray from p) (by simp;omega) λh' eb=>⟨rfl,I.turned (t':=s.toks) (λb o hb e=>eb b o hb e) f0 f1 f3 f4 f5⟩
 self:=λ_ _ _ _ _ st h=>wpAny_pyIter_tupleiter st h
theorem rV {P:wE}{w:B2}{K:bi}{tg:Expr}(it:Addr)(lo:Int)(n:Nat):Turn P w K tg (Itr lo n) [it] it (λi h=>IsRangeIter h it (lo+(i:Nat)*1) ((n:Int) - (i:Nat)) 1) where
 mem:=by simp
 obj:=λi h st b hb=>by
  have e:b=it:=by simpa using hb
  subst e
  exact⟨_,st,λv z=>by
   have z':Data.fields _=Data.cell v:=z
   cases z'⟩
 keep:=λi h h' st k=>k it (by simp) _ st
 item:=by
  intro X hP hw hK hc i pins s σ H E I hf st hg
  subst hP hw hK
  obtain⟨f0,f1,f2,f3,f4,f5⟩:=hf it (by simp)
  have W:=Walks.range (prog:=X.prog) (w:=X.w) (I.ok.hd hc) it lo 1 n
  refine W.item i s _ _ hg st λv h' tk hv st' kk=>?_
  obtain⟨t,rfl⟩:=hv
  have I1:Inv X pins σ H {s with heap:=h',toks:=tk}:=I.turned (λb o hb e=>kk b o (by simpa using hb) e) f0 f1 f3 f4 f5
  refine⟨_,rfl,uZ (s:={s with heap:=h',toks:=tk}) (n := "range_iterator") st' rfl rfl (by decide) ⟨.int (lo+i),H,I1,⟨t,?_⟩,⟨rfl,rfl⟩,st',λb hb=>(hf b hb).1⟩⟩
  rw[Int.mul_one]
 done:=by
  intro X hP hw hK hc i pins s σ H E I hf st hg
  subst hP hw hK
  obtain⟨f0,f1,f2,f3,f4,f5⟩:=hf it (by simp)
  exact wpAny_pyNext_range_end (I.ok.hd hc) st (by have:n<=i:=hg;omega) λh' eb=>⟨rfl,I.turned (t':=s.toks) (λb o hb e=>eb b o hb e) f0 f1 f3 f4 f5⟩
 self:=λ_ _ _ _ _ st h=>wpAny_pyIter_rangeiter st h
section
variable {X:Cx}{tg:Expr}
theorem qZ {pins:List (Addr×Obj)}{σ:St}{H:Hp}{s:ca}{R:It->Hp->Prop}{E:bn->ca->Prop}{lo hi:Int}{t u v:Tok}{tk:Nat}(I:Inv X pins σ H s)(h1:-(2^62)<=lo)(h2:lo<2^62)(h3:-(2^62)<=hi)(h4:hi<2^62)
  (q:R (Itr lo (hi - lo).toNat) H):lm (sn X.prog X.w) X.A (GY (.ref s.heap.objs.size)) (PIE X pins σ tg R) E {s with heap:=s.heap.push {cls:=.type "range",data:=.fields #[.int lo t,.int hi u,.int 1 v]},toks:=tk}:=by
 refine wpAny_pyIter_range (IsRange.new ..) (small_one h1 h2 h3 h4) ?_
 have I1:Inv X pins σ H {s with heap:=s.heap.push {cls:=.type "range",data:=.fields #[.int lo t,.int hi u,.int 1 v]},toks:=tk}:=I.kept λb o e=>db _ e
 refine⟨(s.heap.push {cls:=.type "range",data:=.fields #[.int lo t,.int hi u,.int 1 v]}).objs.size,[(s.heap.push {cls:=.type "range",data:=.fields #[.int lo t,.int hi u,.int 1 v]}).objs.size],_,_,H,rfl,
  I1.kept (t':=tk) λb o e=>db _ e,rV _ lo (hi - lo).toNat,?_,λb hb=>?_,q⟩
 ·have e1:lo+((0:Nat):Int)*1=lo:=by simp
  have e2:(((hi - lo).toNat:Nat):Int) - ((0:Nat):Int)=GG lo hi 1:=by rw[rangeSize_one];split <;> omega
  show IsRangeIter _ _ (lo+((0:Nat):Int)*1) ((((hi - lo).toNat:Nat):Int) - ((0:Nat):Int)) 1
  rw[e1,e2]
  exact ww _ rfl
 ·have e:b=(s.heap.push {cls:=.type "range",data:=.fields #[.int lo t,.int hi u,.int 1 v]}).objs.size:=by simpa using hb
  subst e
  exact I1.fpOk (li _) (I1.hok.fresh (li _))
def AQ (ta:TA):TI:=λσ H R=>ta σ H λvs H1=>∃j:Int,vs=[.int j]/\-(2^62)<=j/\j<2^62/\R (Itr 0 j.toNat) H1
def AN (ta:TA):TI:=λσ H R=>ta σ H λvs H1=>∃i j:Int,vs=[.int i,.int j]/\(-(2^62)<=i/\i<2^62/\-(2^62)<=j/\j<2^62)/\R (Itr i (j - i).toNat) H1
theorem eI {a:Expr}{ta:TA}{p pos:Pos}(hg:Gl X "range")(hm:X.mg "range" = none)(ha:PA X [a] ta)(hs:B1 [a] X.env=[(false,eval a X.env)]:=by rfl):PI X tg (.Call (.Name "range" p) [a] [] pos) (AQ ta):=by
 intro pins s σ H R I h
 refine IS (gE I hg hm boot_range (CB (thn (ha pos pins s σ H _ I h) λus s1 ⟨vs,H1,I1,r1,q1⟩=>?_) hs rfl))
 obtain⟨j,e,q1,q2,q⟩:=q1
 subst e
 cases r1 with
 | cons r rr =>
  cases rr
  obtain⟨t,rfl⟩:=r
  exact call_range_1 (qZ I1 (by omega) (by omega) q1 q2 (by simpa using q))
theorem uk {a b:Expr}{ta:TA}{p pos:Pos}(hg:Gl X "range")(hm:X.mg "range" = none)(ha:PA X [a,b] ta)(hs:B1 [a,b] X.env=[(false,eval a X.env),(false,eval b X.env)]:=by rfl)(hs2:B1 [b] X.env=[(false,eval b X.env)]:=by rfl) :
  PI X tg (.Call (.Name "range" p) [a,b] [] pos) (AN ta):=by
 intro pins s σ H R I h
 refine IS (gE I hg hm boot_range (CB (thn (ha pos pins s σ H _ I h) λus s1 ⟨vs,H1,I1,r1,q1⟩=>?_) (by rw[hs,hs2]) (by rw[hs2];rfl)))
 obtain⟨i,j,e,⟨q1,q2,q3,q4⟩,q⟩:=q1
 subst e
 cases r1 with
 | cons r rr =>
  cases rr with
  | cons r' rr =>
   cases rr
   obtain⟨t,rfl⟩:=r
   obtain⟨t',rfl⟩:=r'
   exact call_range_2 (qZ I1 q1 q2 q3 q4 q)
def tFor (wi:TI)(g:TG)(tb:TS):TS:=λD σ H=>wi σ H λJ H1=>∃W:Nat->Nat->St->Hp->Prop,(∃m,W 0 m σ H1)/\∀i m σ H,W i m σ H ->
 (J.stop i H/\D.nx σ H)∨(J.go i H/\∃N:St->Hp->Prop,(∀ σ' H',N σ' H'->∃m',m'<m/\W (i+1) m' σ' H')/\∀x H',J.yld i H x H'->g x σ H' λσ2 H2=>tb {D with nx:=N,ct:=N,bk:=D.nx} σ2 H2)
def f9 (fp:List Addr)(h:Heap):List (Addr×Obj):=fp.filterMap λb=>(h.get? b).map λo=>(b,o)
theorem bZ {fp:List Addr}{h:Heap}{b:Addr}{o:Obj}(hb:b∈fp)(e:h.get? b=some o):(b,o)∈f9 fp h:=IR.mpr ⟨b,hb,by rw[e];rfl⟩
theorem nY {fp:List Addr}{h:Heap}{p:Addr×Obj}(hp:p∈f9 fp h):p.1∈fp/\h.get? p.1=some p.2:=by
 obtain⟨b,hb,e⟩:=IR.mp hp
 cases q:h.get? b with
 | none=>rw[q]at e;cases e
 | some o =>
  rw[q]at e
  have e':(b,o)=p:=Dc e
  subst e'
  exact⟨hb,q⟩
theorem Inv.pinned {pins:List (Addr×Obj)}{σ:St}{H:Hp}{s:ca}{fp:List Addr}(I:Inv X pins σ H s)(hf:∀b∈fp,FpOk X pins H b)(ho:∀b∈fp,∃o,s.heap.get? b=some o/\∀v,o.data ≠ .cell v):Inv X (pins++f9 fp s.heap) σ H s :=
 I.pins_of λp hp=>(BO.mp hp).elim (λz=>I.pin p (ga _ z)) λz=>by
  obtain⟨hb,e⟩:=nY z
  obtain⟨f0,f1,f2,_⟩:=hf p.1 hb
  obtain⟨o,e',d⟩:=ho p.1 hb
  rw[e]at e';cases e'
  exact⟨e,f0,f1,f2,d⟩
theorem Inv.unpinned {pins pl:List (Addr×Obj)}{σ:St}{H:Hp}{s:ca}(I:Inv X (pins++pl) σ H s):Inv X pins σ H s:=I.pins_of λp hp=>I.pin p (ga _ (BS _ hp))
theorem eG {iter:Expr}{body:List Stmt}{wi:TI}{g:TG}{tb:TS}{pos:Pos}(hp:PassesOwn (sn X.prog X.w) X.A X.env X.xe)(hc:X.calm=true)(hi:PI X tg iter wi)(hg:PG X tg g)(hb:PSs X body tb)
  (hs:∀x,CY iter X.env x=pure x:=by intro _;rfl):PS X (.For tg iter body [] pos) (tFor wi g tb):=by
 intro pins s σ H D I h
 refine wpAny_For (thn (hi pins s σ H _ I h) λv s1 h1=>thn h1 λitv s2 h2=>?_) hs
 obtain⟨it,fp,tn,J,H2,e,I2,T,st2,f2,W,⟨m0,w0⟩,turn⟩:=h2
 subst e
 have stat:∀ {H':Hp},(∀b∈fp,H' b=none)->∀b∈fp,FpOk X pins H' b:=λhn b hb=>⟨hn b hb,(f2 b hb).2⟩
 refine codeAny_forLoop_any (λn s'=>∃i σ' H',Inv X pins σ' H' s'/\tn i s'.heap/\(∀b∈fp,H' b=none)/\W i n σ' H') ?_ m0 ⟨0,σ,H2,I2,st2,λb hb=>(f2 b hb).1,w0⟩
 rintro n s3 ⟨i,σ3,H3,I3,st3,fr3,w3⟩
 rcases turn i n σ3 H3 w3 with⟨stop,qn⟩ | ⟨go,N,hN,step⟩
 ·refine Ed hp (thn (T.done X rfl rfl rfl hc i pins s3 σ3 H3 X.xe I3 (stat fr3) st3 stop) λr s4 ⟨hr,I4⟩=>?_)
  subst hr
  exact F7 ⟨σ3,H3,I4,qn⟩
 ·refine Ed hp (thn (T.item X rfl rfl rfl hc i pins s3 σ3 H3 X.xe I3 (stat fr3) st3 go) λr s4 ⟨u,hr,h4⟩=>?_)
  subst hr
  refine Ed hp (thn h4 λ_ s5 ⟨x,H5,I5,r5,y5,st5,fr5⟩=>?_)
  have I5':=I5.pinned (stat fr5) (T.obj _ _ st5)
  refine Ed hp (thn (hg _ s5 σ3 H5 x u _ I5' r5 (step x H5 y5)) λ_ s6 ⟨σ6,H6,I6,q6⟩=>?_)
  refine Ed hp (thn (hb _ s6 σ6 H6 _ I6 q6) λf s7 q7=>?_)
  have II:∀ {σ7:St} {H7:Hp},Inv X (pins++f9 fp s5.heap) σ7 H7 s7->N σ7 H7->∃m,m<n/\∃i σ' H',Inv X pins σ' H' s7/\tn i s7.heap/\(∀b∈fp,H' b=none)/\W i m σ' H':=λ{σ7 H7} I7 n7=>by
   obtain⟨m',hm,w7⟩:=hN σ7 H7 n7
   refine⟨m',hm,i+1,σ7,H7,I7.unpinned,T.keep _ _ _ st5 λb hb o e=>(I7.pin (b,o) (ga _ (ga _ (bZ hb e)))).1,λb hb=>?_,w7⟩
   obtain⟨o,e,d⟩:=T.obj _ _ st5 b hb
   exact(I7.pin (b,o) (ga _ (ga _ (bZ hb e)))).2.1
  cases f with
  | next=>obtain⟨σ7,H7,I7,n7⟩:=q7;exact II I7 n7
  | cont=>obtain⟨σ7,H7,I7,n7⟩:=q7;exact II I7 n7
  | brk=>obtain⟨σ7,H7,I7,q7⟩:=q7;exact⟨σ7,H7,I7.unpinned,q7⟩
  | ret v=>obtain⟨x7,σ7,H7,I7,r7,q7⟩:=q7;exact⟨x7,σ7,H7,I7.unpinned,r7,q7⟩
end
abbrev R2:=V->V->Hp->VK->Prop
def OpR (X:Cx)(f:bn->bn->Sem bn)(r:R2):Prop :=
 ∀(pins:List (Addr×Obj)) (s:ca) (σ:St) (H:Hp) (x y:V) (v u:bn) (Q:VK),Inv X pins σ H s->RelV x v->RelV y u->r x y H Q ->
  lm (sn X.prog X.w) X.A (f v u) (EP X pins σ Q) X.xe s
def iq (X:Cx)(f:bn)(r:List V->Hp->VK->Prop):Prop :=
 ∀(pins:List (Addr×Obj)) (s:ca) (σ:St) (H:Hp) (xs:List V) (us:List bn) (Q:VK),Inv X pins σ H s->Vals xs us->r xs H Q ->
  lm (sn X.prog X.w) X.A (call f us) (EP X pins σ Q) X.xe s
def TruR (X:Cx)(r:V->Hp->(Bool->Hp->Prop)->Prop):Prop :=
 ∀(pins:List (Addr×Obj)) (s:ca) (σ:St) (H:Hp) (x:V) (v:bn) (Q:Bool->Hp->Prop),Inv X pins σ H s->RelV x v->r x H Q ->
  lm (sn X.prog X.w) X.A (truthy v) (TP X pins σ Q) X.xe s
def tOp (r:R2)(ta tb:TE):TE:=λσ H Q=>ta σ H λx H1=>tb σ H1 λy H2=>r x y H2 Q
def rI (C:Int->Int->Prop)(g:Int->Int->V):R2:=λx y H Q=>∃i j,x = .int i/\y = .int j/\C i j/\Q (g i j) H
def rI0 (g:Int->Int->V):R2:=λx y H Q=>∃i j,x = .int i/\y = .int j/\Q (g i j) H
section
variable {X:Cx}{a b c:Expr}{ta tb tc:TE}{pos:Pos}
theorem binT (ha:PE X a ta)(hb:PE X b tb){pins:List (Addr×Obj)}{s:ca}{σ:St}{H:Hp}{R:V->V->Hp->Prop}(I:Inv X pins σ H s)
  (h:ta σ H λx H1=>tb σ H1 λy H2=>R x y H2) {Q:bn->ca->Prop} {f:bn->bn->Sem bn}
  (hf:∀v u s2 x y H2,Inv X pins σ H2 s2->RelV x v->RelV y u->R x y H2->lm (sn X.prog X.w) X.A (f v u) Q X.xe s2) :
  lm (sn X.prog X.w) X.A (eval a X.env) (λv s₁=>lm (sn X.prog X.w) X.A (eval b X.env) (λu s₂=>lm (sn X.prog X.w) X.A (f v u) Q X.xe s₂) X.xe s₁) X.xe s:=by
 refine thn (ha pins s σ H _ I h) λv s1 ⟨x,H1,I1,r1,q1⟩=>?_
 refine thn (hb pins s1 σ H1 _ I1 q1) λu s2 ⟨y,H2,I2,r2,q2⟩=>?_
 exact hf v u s2 x y H2 I2 r1 r2 q2
theorem bh {op:Operator}{r:R2}(ho:OpR X (Eu op) r)(ha:PE X a ta)(hb:PE X b tb):PE X (.BinOp a op b pos) (tOp r ta tb):=by
 intro pins s σ H Q I h
 exact wpAny_BinOp (binT ha hb I h λv u s2 x y H2 I2 rx ry q=>ho pins s2 σ H2 x y v u Q I2 rx ry q)
theorem opI {f:bn->bn->Sem bn}{C:Int->Int->Prop}{g:Int->Int->Int}
  (rule:∀(i j:Int) (t u:Tok) (s:ca) (Q:bn->ca->Prop) (E:bn->ca->Prop),C i j->Q (.int (g i j) s.toks) {s with toks:=s.toks+1}->lm (sn X.prog X.w) X.A (f (.int i t) (.int j u)) Q E s) :
  OpR X f (rI C λi j=>.int (g i j)):=by
 intro pins s σ H x y v u Q I rx ry h
 obtain⟨i,j,rfl,rfl,hc,q⟩:=h
 obtain⟨t,rfl⟩:=rx
 obtain⟨t',rfl⟩:=ry
 exact rule i j t t' s _ _ hc ⟨.int (g i j),H,I.tok _,⟨_,rfl⟩,q⟩
theorem opI0 {f:bn->bn->Sem bn}{g:Int->Int->Int}
  (rule:∀(i j:Int) (t u:Tok) (s:ca) (Q:bn->ca->Prop) (E:bn->ca->Prop),Q (.int (g i j) s.toks) {s with toks:=s.toks+1}->lm (sn X.prog X.w) X.A (f (.int i t) (.int j u)) Q E s) :
  OpR X f (rI0 λi j=>.int (g i j)):=by
 intro pins s σ H x y v u Q I rx ry h
 obtain⟨i,j,rfl,rfl,q⟩:=h
 obtain⟨t,rfl⟩:=rx
 obtain⟨t',rfl⟩:=ry
 exact rule i j t t' s _ _ ⟨.int (g i j),H,I.tok _,⟨_,rfl⟩,q⟩
theorem opB0 {f:bn->bn->Sem bn}{g:Int->Int->Bool}
  (rule:∀(i j:Int) (t u:Tok) (s:ca) (Q:bn->ca->Prop) (E:bn->ca->Prop),Q (.bool (g i j)) s->lm (sn X.prog X.w) X.A (f (.int i t) (.int j u)) Q E s) :
  OpR X f (rI0 λi j=>.bl (g i j)):=by
 intro pins s σ H x y v u Q I rx ry h
 obtain⟨i,j,rfl,rfl,q⟩:=h
 obtain⟨t,rfl⟩:=rx
 obtain⟨t',rfl⟩:=ry
 exact rule i j t t' s _ _ ⟨.bl (g i j),H,I,rfl,q⟩
def CPow (i j:Int):Prop:=0<=j/\j<=1000000/\i.natAbs<2^64
def CMul (i j:Int):Prop:=(-(2^64)<i/\i<2^64)∨(-(2^64)<j/\j<2^64)
theorem CMul.ok {i j:Int}(h:CMul i j):IntMulOk i j:=by
 rcases h with⟨h1,h2⟩ | ⟨h1,h2⟩
 ·exact .of_left (intBits_le_64 h1 h2)
 ·exact .of_right (intBits_le_64 h1 h2)
theorem rT (k:Nat):(0:Int)<=2^k:=by
 rw[two_pow_cast]
 exact Gu _
theorem fq:OpR X (Eu .Add) (rI0 λi j=>.int (i+j)):=opI0 λ_ _ _ _ _ _ _ q=>add_int q
theorem iN:OpR X (Eu .Sub) (rI0 λi j=>.int (i - j)):=opI0 λ_ _ _ _ _ _ _ q=>sub_int q
theorem nR:OpR X (Eu .Mult) (rI CMul λi j=>.int (i*j)):=opI λ_ _ _ _ _ _ _ hc q=>mul_int q hc.ok
theorem kr:OpR X (Eu .Mod) (rI (λ_ j=>0<j) λi j=>.int (i % j)):=opI λi j _ _ _ _ _ hc q=>by
 have h1:(0:Int)<j:=hc
 exact mod_int' (by omega) (by rw[Int.fmod_eq_emod_of_nonneg i (by omega)];exact q)
theorem uq:OpR X (Eu .Pow) (rI CPow λi j=>.int (i^j.toNat)):=opI λ_ _ _ _ _ _ _ hc q=>pow_int_small hc.1 hc.2.1 hc.2.2 q
theorem kq:OpR X (Eu .LShift) (rI CPow λi j=>.int (i*2^j.toNat)):=opI λ_ _ _ _ _ _ _ hc q=>lshift_int_small hc.1 hc.2.1 hc.2.2 q
theorem xQ:OpR X (Eu .RShift) (rI (λ_ j=>0<=j) λi j=>.int (i / 2^j.toNat)):=opI λi j _ _ _ _ _ hc q =>
 rshift_int hc (by rw[Hy i (rT _)];exact q)
theorem lI:OpR X (Eu .BitAnd) (rI0 λi j=>.int (Ct i j)):=opI0 λ_ _ _ _ _ _ _ q=>and_int q
theorem nP:OpR X (Eu .BitXor) (rI0 λi j=>.int (Et i j)):=opI0 λ_ _ _ _ _ _ _ q=>xor_int q
end
section
variable {X:Cx}{a b c:Expr}{ta tb tc:TE}{pos:Pos}
theorem A0 {pins:List (Addr×Obj)}{σ:St}{H:Hp}{s:ca}{Q:VK}{k k':Bool}(I:Inv X pins σ H s)(q:Q (.bl k) H)(e:k=k'):EP X pins σ Q (.bool k') s:=by
 subst e
 exact⟨.bl k,H,I,rfl,q⟩
theorem yH:OpR X (Do .Lt) (rI0 λi j=>.bl (decide (i<j))):=opB0 λ_ _ _ _ _ _ _ q=>lt_int q
theorem mF:OpR X (Do .LtE) (rI0 λi j=>.bl (decide (i<=j))):=opB0 λ_ _ _ _ _ _ _ q=>le_int q
theorem wH:OpR X (Do .Gt) (rI0 λi j=>.bl (decide (j<i))):=opB0 λ_ _ _ _ _ _ _ q=>gt_int q
theorem yI:OpR X (Do .GtE) (rI0 λi j=>.bl (decide (j<=i))):=opB0 λ_ _ _ _ _ _ _ q=>ge_int q
theorem Aj:OpR X (Do .Is) (λx y H Q=>y = .non/\Q (.bl (decide (x = .non))) H):=by
 intro pins s σ H x y v u Q I rx ry h
 obtain⟨rfl,q⟩:=h
 cases ry
 refine is_none_gen (A0 I q ?_)
 cases x <;> first
  | (cases rx;rfl)
  | (obtain⟨t,rfl⟩:=rx;rfl)
theorem bL (b:Expr){op:Jq}(h:op ≠ .In:=by decide)(h2:op ≠ .NotIn:=by decide):E6 op b=false:=by
 have e1:(op==CmpOp.In)=false:=by cases op <;> first | rfl | exact absurd rfl h
 have e2:(op==CmpOp.NotIn)=false:=by cases op <;> first | rfl | exact absurd rfl h2
 cases b <;> simp[E6,e1,e2]
theorem gr {op:Jq}{r:R2}(ho:OpR X (Do op) r)(ha:PE X a ta)(hb:PE X b tb)(hm:E6 op b=false):PE X (.Compare a [op] [b] pos) (tOp r ta tb):=by
 intro pins s σ H Q I h
 exact wpAny_Compare1 (binT ha hb I h λv u s2 x y H2 I2 rx ry q=>ho pins s2 σ H2 x y v u Q I2 rx ry q) hm
def zV (t:TE):TT:=λσ H Q=>t σ H λx H'=>∃k,x = .bl k/\Q k H'
theorem a_ {op:Jq}{r:R2}(ho:OpR X (Do op) r)(ha:PE X a ta)(hb:PE X b tb)(hm:E6 op b=false):PT X (.Compare a [op] [b] pos) (zV (tOp r ta tb)):=by
 intro pins s σ H Q I h
 refine Jb (thn (ha pins s σ H _ I h) λv s1 ⟨x,H1,I1,r1,q1⟩=>thn (hb pins s1 σ H1 _ I1 q1) λu s2 ⟨y,H2,I2,r2,q2⟩ =>
  thn (ho pins s2 σ H2 x y v u _ I2 r1 r2 q2) λc s3 ⟨z,H3,I3,r3,k,e,q3⟩=>?_) hm
 subst e
 cases r3
 exact Dl ⟨H3,I3,q3⟩
def xE (r r':R2)(ta tb tc:TE):TE:=λσ H Q=>ta σ H λx H1=>tb σ H1 λy H2=>r x y H2 λz H3=>∃k,z = .bl k /\
 (if k=true then tc σ H3 λw' H4=>r' y w' H4 Q else Q (.bl false) H3)
theorem mE {op op':Jq}{r r':R2}(ho:OpR X (Do op) r)(ho':OpR X (Do op') r')(ha:PE X a ta)(hb:PE X b tb)(hc:PE X c tc)
  (hm:lastMarks [op,op'] [b,c]=false:=by with_unfolding_all rfl):PE X (.Compare a [op,op'] [b,c] pos) (xE r r' ta tb tc):=by
 intro pins s σ H Q I h
 refine Compare_chain (thn (ha pins s σ H _ I h) λv s1 ⟨x,H1,I1,r1,q1⟩=>chain_link (thn (hb pins s1 σ H1 _ I1 q1) λu s2 ⟨y,H2,I2,r2,q2⟩ =>
  thn (ho pins s2 σ H2 x y v u _ I2 r1 r2 q2) λd s3 ⟨z,H3,I3,r3,k,e,q3⟩=>?_)) hm
 subst e
 cases r3
 refine Dl ?_
 cases k with
 | false=>exact ite_ff ⟨.bl false,H3,I3,rfl,q3⟩
 | true=>exact ite_tt (chain_last (thn (hc pins s3 σ H3 _ I3 q3) λw' s4 ⟨z',H4,I4,r4,q4⟩=>ho' pins s4 σ H4 y z' u w' Q I4 r2 r4 q4))
def TruV (K:bi)(x:V)(H:Hp)(k:Bool):Prop :=
 match x with
 | .non=>k=false
 | .bl b=>k=b
 | .int i=>k=(i != 0)
 | .str y=>y.length<=wT/\k=((y.length:Int) != 0)
 | .byt y=>y.size<=wT/\k=((y.size:Int) != 0)
 | .ref p=>(∃xs,SqL K H p xs/\k = !xs.isEmpty)∨(∃xs,SqT K H p xs/\k = !xs.isEmpty) ∨ ∃kvs,H p=some (.dK kvs)/\k = !kvs.isEmpty
 | _=>False
theorem sH {κ:Type}{kvs:List (κ×V)}{vs:List (κ×bn)}(r:KV kvs vs):(!vs.isEmpty) = !kvs.isEmpty:=by
 cases r <;> rfl
theorem lQ {xs:List V}{its:List bn}(r:Vals xs its):(!its.toArray.isEmpty) = !xs.isEmpty:=by
 cases r <;> simp
theorem oh:(wT:Nat)<2^63:=by rw[EB];decide
theorem zP:TruR X (λx H Q=>∃k,TruV X.K x H k/\Q k H):=by
 intro pins s σ H x v Q I rx h
 obtain⟨k,e,q⟩:=h
 have hl:=oh
 have hs:wT=16777216:=EB
 cases x with
 | non =>
  cases rx
  have e':k=false:=e
  subst e'
  exact truthy_none ⟨H,I,q⟩
 | bl b =>
  cases rx
  have e':k=b:=e
  subst e'
  exact Dl ⟨H,I,q⟩
 | int i =>
  obtain⟨t,rfl⟩:=rx
  have e':k=(i != 0):=e
  subst e'
  exact PySem.P.truthy_int ⟨H,I,q⟩
 | str y =>
  obtain⟨t,rfl⟩:=rx
  obtain⟨hy,e'⟩:y.length<=wT/\k=((y.length:Int) != 0):=e
  subst e'
  exact PySem.P.truthy_str (by omega) ⟨H,I.tok _,q⟩
 | byt y =>
  obtain⟨t,rfl⟩:=rx
  obtain⟨hy,e'⟩:y.size<=wT/\k=((y.size:Int) != 0):=e
  subst e'
  exact PySem.W.truthy_bytes (by omega) ⟨H,I.tok _,q⟩
 | ref p =>
  cases rx
  have e':(∃xs,SqL X.K H p xs/\k = !xs.isEmpty)∨(∃xs,SqT X.K H p xs/\k = !xs.isEmpty) ∨ ∃kvs,H p=some (.dK kvs)/\k = !kvs.isEmpty:=e
  rcases e' with⟨xs,hx,e'⟩ | ⟨xs,hx,e'⟩ | ⟨kvs,hx,e'⟩
  ·subst e'
   obtain⟨its,r,pl,hz⟩:=I.list hx
   have hlen:=r.length
   exact wpAny_truthy_list pl.isList (by simp only[on];omega) ⟨H,I.tok _,by rw[lQ r];exact q⟩
  ·subst e'
   obtain⟨its,r,pl,hz⟩:=I.tuple hx
   have hlen:=r.length
   exact truthy_tuple pl (by simp only[on];omega) ⟨H,I.tok _,by rw[lQ r];exact q⟩
  ·subst e'
   obtain⟨hz,hS,vs,r,m⟩:kvs.length<=wT/\(p==D0)=false/\∃vs,KV kvs vs/\s.heap.DictOf (bG X.prog X.w) p vs:=I.hok p _ hx
   have hlen:kvs.length=vs.length:=F1 r
   exact wpAny_truthy_dict hS m (by omega) ⟨H,I.tok _,by rw[sH r];exact q⟩
 | _=>exact(show False from e).elim
theorem wt (ha:PE X a ta)(he:∀whole,Fw a X.env whole=(do let v <- whole;Eg a.pos;Gz [v] (truthy v))) :
  PT X a (λσ H Q=>ta σ H λx H'=>∃k,TruV X.K x H' k/\Q k H'):=by
 intro pins s σ H Q I h
 exact isTrue_plain (thn (ha pins s σ H _ I h) λv s1 ⟨x,H1,I1,r1,q1⟩=>zP pins s1 σ H1 x v Q I1 r1 q1) (he _)
theorem jY {x:V}{us:List bn}(r:Vals [x] us):∃u,us=[u]/\RelV x u:=by
 cases r with
 | cons r1 r2=>cases r2;exact⟨_,rfl,r1⟩
theorem ya {x y:V}{us:List bn}(r:Vals [x,y] us):∃u w',us=[u,w']/\RelV x u/\RelV y w':=by
 cases r with
 | cons r1 r2 =>
  cases r2 with
  | cons r3 r4=>cases r4;exact⟨_,_,rfl,r1,r3⟩
theorem vz (hc:X.calm=true):iq X (.builtin "max") (λxs H Q=>∃i j,xs=[.int i,.int j]/\Q (.int (if j > i then j else i)) H):=by
 intro pins s σ H xs us Q I r h
 obtain⟨i,j,rfl,q⟩:=h
 obtain⟨u,w',rfl,⟨t,rfl⟩,⟨t',rfl⟩⟩:=ya r
 refine max_two_ints (I.ok.hd hc) λh' tk k=>⟨_,H,I.kept k,?_,q⟩
 by_cases hj:j > i
 ·rw[if_pos hj,if_pos hj];exact⟨_,rfl⟩
 ·rw[if_neg hj,if_neg hj];exact⟨_,rfl⟩
theorem vy (hc:X.calm=true):iq X (.builtin "min") (λxs H Q=>∃i j,xs=[.int i,.int j]/\Q (.int (if j<i then j else i)) H):=by
 intro pins s σ H xs us Q I r h
 obtain⟨i,j,rfl,q⟩:=h
 obtain⟨u,w',rfl,⟨t,rfl⟩,⟨t',rfl⟩⟩:=ya r
 refine min_two_ints (I.ok.hd hc) λh' tk k=>⟨_,H,I.kept k,?_,q⟩
 by_cases hj:j<i
 ·rw[if_pos hj,if_pos hj];exact⟨_,rfl⟩
 ·rw[if_neg hj,if_neg hj];exact⟨_,rfl⟩
end
structure ObjM (h:Heap)(x dx C:Addr)(mA:Str->Option bn):Prop where
 obj:h.get? x=some (DN C dx)
 ns:h.Ns1 dx mA
 ne:dx≠x
theorem uI {h:Heap}{dx:Addr}{mA:Str->Option bn}(n:h.Ns1 dx mA):∃od,h.get? dx=some od/\∀name,FL name od=some (mA name):=by
 obtain⟨o,es,ep,ho,hd,hk,_,hm⟩:=n
 refine⟨o,ho,λname=>?_⟩
 have e:=hm name
 unfold nsFind findBy at e
 rw[<- Array.find?_toList]at e
 unfold FL
 rw[hd]
 dsimp only
 split
 ·rename_i y q
  rw[q]at e
  exact congrArg some e
 ·rename_i q
  rw[q]at e
  have a:es.toList.any (·.refKey)=false:=by
   rw[List.any_eq_false]
   intro y hy
   obtain⟨z,t,hkey⟩:=hk y (Array.mem_toList_iff.mp hy)
   simp[DictEntry.refKey,hkey]
  have a':¬es.toList.any (·.refKey)=true:=by rw[a];exact B4
  rw[if_neg a']
  exact congrArg some e
theorem ObjM.look {h:Heap}{x dx C:Addr}{mA:Str->Option bn}(I:ObjM h x dx C mA):∃od,PySem.W.InstAt h x (DN C dx) C (some od)/\∀name,FL name od=some (mA name) :=
 let ⟨od,ho,hl⟩:=uI I.ns
 ⟨od,⟨I.obj,rfl,rfl,ho⟩,hl⟩
section
variable {prog:wE}{w:B2}{A:Ca}{E:bn->ca->Prop}{s:ca}{K:bi}{x dx C f:Addr}{mA:Str->Option bn}{name:Str}{v:bn}
theorem zb {expr:Bool}{Q:bn->ca->Prop}(X:K.In s.heap)(I:ObjM s.heap x dx C mA)(hg:EA K C name=true)(hh:Ff K C=true)
  (ha:BY K (.ref C) name=some none) (hv:mA name=some v) (hv':Iw v=true) (h:Q v {s with toks:=s.toks+1}) :
  lm (sn prog w) A (getAttr (.ref x) name expr) Q E s:=by
 obtain⟨od,J,hl⟩:=I.look
 exact PySem.W.get_value X J (FS hg).1 (PySem.W.findObj_own hh ha rfl (by rw[hl,hv])) hv' h
theorem w6 {pl:Sem Bool}{Q:bn×List bn->ca->Prop}(X:K.In s.heap)(I:ObjM s.heap x dx C mA)(hg:EA K C name=true)
  (hf:BY K (.ref C) name=some (some (.ref f))) (ht:C6 K (.ref f)=true) (hv:mA name=none) (h:Q (.ref f,[.ref x]) s) :
  lm (sn prog w) A (GA (.ref x) name pl) Q E s:=by
 obtain⟨od,J,hl⟩:=I.look
 exact PySem.W.method_fn X J (FS hg).1 (FS hg).2 hf (beq_iff_eq.mp ht) (by show(FL name od).map (·.isSome)=some false;rw[hl,hv];rfl) h
theorem yq {ns:List Str}{Q:Unit->ca->Prop}(X:K.In s.heap)(I:ObjM s.heap x dx C mA)
  (hs:BY K (.ref C) "__setattr__" = some (some (.builtin "object.__setattr__"))) (hp:Ga K C=true) (ht:GI K C name=some none) (hh:Ff K C=true)
  (hw:HL mA ns) (hsz:ns.length<=wT)
  (h:∀h',ObjM h' x dx C (λy=>if y=name then some v else mA y)->Cq dx s.heap h'->Q () {s with heap:=h',toks:=s.toks+2}) :
  lm (sn prog w) A (setAttr (.ref x) name v) Q E s:=by
 obtain⟨od,J,hl⟩:=I.look
 refine PySem.W.set_plain X J hs (PySem.W.osa_open (s:={s with toks:=s.toks+1}) (r:=none) X J hp ht λb=>?_)
 obtain⟨cd,hc,hd'⟩:=PySem.W.any_some hh
 have hx:s.heap.get? x=some ⟨.ref C,some dx,.plain,#[]⟩:=I.obj
 refine bm (dL (bm (bm (wpAny_loadPart hx (bm (Ka (s:={s with toks:=s.toks+1}) (PySem.W.looks_clsIn X hc) ?_))))))
 rw[hd']
 refine dL (a:=some dx) (bm (dL (bm ?_)))
 refine wpAny_nsSet1 (s:={s with toks:=s.toks+1}) I.ns λh' hn2 hs2=>?_
 obtain⟨oD,esD,epD,hoD,hdD,hcD⟩:=hn2.count (Kn name v hw)
 refine bm (wpAny_lookBehind hoD (by rw[hdD];exact pastItsLine_dict (xL hcD (by rw[At];omega))) ?_)
 exact dL (h _ ⟨(hs2.2 _ (Dk I.ne)).trans I.obj,hn2,I.ne⟩ hs2)
theorem wR {R:EK->ca->Prop}{vs:List bn}{kw:List (Str×bn)}(X:K.In s.heap)(hm:Fx K C=true)
  (hi:BY K (.ref C) "__init__" = some (some (.ref f))) (hf:PySem.W.typeIn K (.ref f)=some (.type "function"))
  (h:CZ (sn prog w) (A.under (.builtin "type.__call__" ⟨.ref C::vs,kw⟩)) (.call (.ref f) ⟨.ref (s.heap.objs.size+1)::vs,kw⟩) (PySem.W.InitBack (s.heap.objs.size+1) R)
   {s with heap:=(s.heap.push De).push (DN C s.heap.objs.size)}) :
  CZ (sn prog w) A (.call (.ref C) ⟨vs,kw⟩) R s:=by
 obtain⟨hh,g,d,t,os⟩:=s
 exact PySem.W.make_core (PySem.W.makes_of X hm) (PySem.W.looks_findIn X hi) (λself=>PySem.W.bind_fn X self hf) (.inl rfl) h
end
def putF (f:Str)(v:V):List (Str×V)->List (Str×V)
 | []=>[(f,v)]
 | (g,x)::r=>if g=f then(g,v)::r else(g,x)::putF f v r
theorem kH (f g:Str)(v:V):∀fs:List (Str×V),(putF f v fs).lookup g=if g=f then some v else fs.lookup g
 | []=>by
  show Ee g [(f,v)]=_
  by_cases h:g=f
  ·have hb:(g==f)=true:=beq_iff_eq.mpr h
   simp only[Ee,hb,if_pos h]
  ·have hb:(g==f)=false:=beq_eq_false_iff_ne.mpr h
   simp only[Ee,hb,if_neg h]
 | (k,x)::r=>by
  have ih:=kH f g v r
  rw[show putF f v ((k,x)::r)=(if k=f then(k,v)::r else(k,x)::putF f v r)from rfl]
  by_cases hk:k=f
  ·rw[if_pos hk]
   by_cases h:g=k
   ·have hb:(g==k)=true:=beq_iff_eq.mpr h
    simp only[Ee,hb,if_pos (h.trans hk)]
   ·have hb:(g==k)=false:=beq_eq_false_iff_ne.mpr h
    simp only[Ee,hb,if_neg (λe:g=f=>h (e.trans hk.symm))]
  ·rw[if_neg hk]
   by_cases h:g=k
   ·have hb:(g==k)=true:=beq_iff_eq.mpr h
    simp only[Ee,hb,if_neg (λe:g=f=>hk (h.symm.trans e))]
   ·have hb:(g==k)=false:=beq_eq_false_iff_ne.mpr h
    simp only[Ee,hb]
    exact ih
theorem kJ (f:Str)(v:V):∀fs:List (Str×V),f∈(putF f v fs).map (·.1)/\∀g,g∈fs.map (·.1)->g∈(putF f v fs).map (·.1)
 | []=>⟨by simp[putF],λg h=>by simp at h⟩
 | (k,x)::r=>by
  obtain⟨i1,i2⟩:=kJ f v r
  rw[show putF f v ((k,x)::r)=(if k=f then(k,v)::r else(k,x)::putF f v r)from rfl]
  by_cases hk:k=f
  ·rw[if_pos hk]
   subst hk
   exact⟨by simp,λg h=>by simpa using h⟩
  ·rw[if_neg hk]
   refine⟨?_,λg h=>?_⟩
   ·rw[wl]
    exact BU _ i1
   ·rw[wl]at h ⊢
    rcases sB.mp h with e | e
    ·exact sB.mpr (.inl e)
    ·exact BU _ (i2 g e)
theorem kI (f:Str)(v:V):∀fs:List (Str×V),(putF f v fs).length<=fs.length+1
 | []=>by simp[putF]
 | (k,x)::r=>by
  have ih:=kI f v r
  rw[show putF f v ((k,x)::r)=(if k=f then(k,v)::r else(k,x)::putF f v r)from rfl]
  by_cases hk:k=f
  ·rw[if_pos hk,At,At];omega
  ·rw[if_neg hk,At,At];omega
theorem RelO.some_of {v:V}{o:Option bn}(r:RelO (some v) o):∃u,o=some u/\RelV v u:=by
 cases o with
 | none=>exact(show False from r).elim
 | some u=>exact⟨u,rfl,r⟩
theorem RelO.none_of {o:Option bn}(r:RelO none o):o=none:=by
 cases o with
 | none=>rfl
 | some u=>exact(show False from r).elim
theorem uY {v:V}{u:bn}(r:RelV v u):Iw u=true:=by
 cases v with
 | non=>cases (show u=Value.none from r);rfl
 | bl b=>cases (show u=Value.bool b from r);rfl
 | int i=>obtain⟨t,e⟩:=(show ∃t,u=Value.int i t from r);cases e;rfl
 | str x=>obtain⟨t,e⟩:=(show ∃t,u=Value.str x t from r);cases e;rfl
 | byt b=>obtain⟨t,e⟩:=(show ∃t,u=Value.bytes b t from r);cases e;rfl
 | flt b=>obtain⟨t,e⟩:=(show ∃t,u=Value.float b t from r);cases e;rfl
 | ref a=>cases (show u=Value.ref a from r);rfl
 | ty n=>cases (show u=Value.type n from r);rfl
section
variable {P:wE}{w:B2}{H H':Hp}{h h':Heap}{a C dx:Addr}{fs fs':List (Str×V)}
theorem mT (hok:HOk P w H h)(e:H a=some (.ins C dx fs)):∃mA,ObjM h a dx C mA/\(∀f,RelO (fs.lookup f) (mA f))/\HL mA (fs.map (·.1))/\fs.length<=1000/\H dx=some (.own a):=by
 obtain⟨d,z,ne,ob,mA,n,r,q⟩:=(show cK P w H h a (.ins C dx fs)from hok a _ e)
 exact⟨mA,⟨ob,n,ne⟩,r,q,z,d⟩
end
structure Cls (K:bi)(C:Addr):Prop where
 pg:EA K C Str.empty=true
 hd:Ff K C=true
 po:Ga K C=true
 sa:BY K (.ref C) "__setattr__" = some (some (.builtin "object.__setattr__"))
theorem Cls.get {K:bi}{C:Addr}(c:Cls K C)(f:Str):EA K C f=true:=c.pg
def jc (K:bi)(C:Addr)(f:Str):Prop:=BY K (.ref C) f=some none
theorem jc.taker {K:bi}{C:Addr}{f:Str}(n:jc K C f):GI K C f=some none:=by
 unfold GI
 rw[show BY K (.ref C) f=some none from n]
 rfl
structure Meth (K:bi)(C:Addr)(m:Str)(f:Addr):Prop where
 at_:BY K (.ref C) m=some (some (.ref f))
 fn:C6 K (.ref f)=true
 kp:Ci K (.ref f)=true
section
variable {X:Cx}{pins:List (Addr×Obj)}{σ:St}{H:Hp}{s:ca}{a C dx:Addr}{fs:List (Str×V)}{f:Str}{v:V}{A:Ca}{E:bn->ca->Prop}
theorem sO {b:Bool}{Q:bn->ca->Prop}(I:Inv X pins σ H s)(e:H a=some (.ins C dx fs))(c:Cls X.K C)(n:jc X.K C f)(l:fs.lookup f=some v)
  (h:∀u s',Inv X pins σ H s'->RelV v u->Q u s'):lm (sn X.prog X.w) A (getAttr (.ref a) f b) Q E s:=by
 obtain⟨mA,O,r,_,_,_⟩:=mT I.hok e
 obtain⟨u,hu,ru⟩:=RelO.some_of (v:=v) (o:=mA f) (by rw[<- l];exact r f)
 exact zb I.kIn O (c.get f) c.hd n hu (uY ru) (h u _ (I.tok _) ru)
theorem lT {m:Str}{g:Addr}{pl:Sem Bool}{Q:bn×List bn->ca->Prop}(I:Inv X pins σ H s)(e:H a=some (.ins C dx fs))(c:Cls X.K C)(k:Meth X.K C m g)(l:fs.lookup m=none)
  (h:Q (.ref g,[.ref a]) s):lm (sn X.prog X.w) A (GA (.ref a) m pl) Q E s:=by
 obtain⟨mA,O,r,_,_,_⟩:=mT I.hok e
 have hn:mA m=none:=RelO.none_of (by rw[<- l];exact r m)
 exact w6 I.kIn O (c.get m) k.at_ k.fn hn h
theorem r_ {y:V}{u:bn}{Q:Unit->ca->Prop}(I:Inv X pins σ H s)(e:H a=some (.ins C dx fs))(c:Cls X.K C)(n:jc X.K C f)(hl:fs.length<1000)(ry:RelV y u)
  (h:∀s',Inv X pins σ (upd H a (.ins C dx (putF f y fs))) s'->Q () s'):lm (sn X.prog X.w) A (setAttr (.ref a) f u) Q E s:=by
 obtain⟨mA,O,r,wi,_,ho⟩:=mT I.hok e
 have hz:(fs.map (·.1)).length<=wT:=by rw[f8,EB];omega
 refine yq I.kIn O c.sa c.po n.taker c.hd wi hz λh' O' sb=>h _ ?_
 have hd:∃o,h'.get? dx=some o:=let ⟨o,_,_,e',_⟩:=O'.ns;⟨o,e'⟩
 refine I.write (x:=a) (e:=dx) (by rw[e];exact True.intro) (.inr ho) (λb q hb z=>(sb.2 b hb).trans z) hd ?_
 refine⟨by rw[aR O.ne];exact ho,?_,O.ne,O'.obj,_,O'.ns,λg=>?_,λg hg=>?_⟩
 ·have:=kI f y fs;omega
 ·show RelO ((putF f y fs).lookup g) (if g=f then some u else mA g)
  rw[kH]
  by_cases q:g=f
  ·rw[if_pos q,if_pos q];exact ry
  ·rw[if_neg q,if_neg q];exact r g
 ·by_cases q:g=f
  ·rw[q];exact(kJ f y fs).1
  ·refine(kJ f y fs).2 g (wi g λz=>hg ?_)
   show(if g=f then some u else mA g)=none
   rw[if_neg q];exact z
theorem Inv.made (I:Inv X pins σ H s):Inv X pins σ (upd (upd H s.heap.objs.size (.own (s.heap.objs.size+1))) (s.heap.objs.size+1) (.ins C s.heap.objs.size []))
  {s with heap:=(s.heap.push De).push (DN C s.heap.objs.size)}:=by
 have e1:(s.heap.push De).get? s.heap.objs.size=some De:=ww s.heap rfl
 have e2:((s.heap.push De).push (DN C s.heap.objs.size)).get? (s.heap.objs.size+1)=some (DN C s.heap.objs.size):=by
  have:=ww (s.heap.push De) (o:=DN C s.heap.objs.size) rfl
  rwa [C0]at this
 have e3:(s.heap.push De).Ns s.heap.objs.size (λ_=>none):=⟨De,#[],_,e1,rfl,(λe he=>absurd he (by simp)),λ_=>rfl⟩
 have I1:=I.laid (a:=s.heap.objs.size) (o:=.own (s.heap.objs.size+1)) (h':=s.heap.push De) (t':=s.toks) (λb u q=>db _ q) (li _) ⟨_,e1⟩
 refine I1.laid (a:=s.heap.objs.size+1) (o:=.ins C s.heap.objs.size []) (t':=s.toks) (λb u q=>db _ q) (Fe (C0 _ _)) ?_
 have ne:s.heap.objs.size≠s.heap.objs.size+1:=wP (DH _)
 refine⟨by rw[aR ne,aS],zn _,ne,e2,λ_=>none,(Heap.Ns1.of_empty e3).at λo q=>db _ q,λ_=>True.intro,λy hy=>absurd rfl hy⟩
theorem zz {prog:wE}{w:B2}{env:Env}{e:Expr}{f:Str}{pos:Pos}{s:ca}{Q:bn->ca->Prop}(hb:FK e f env (eval e env)=eval e env)
  (h:lm (sn prog w) A (eval e env) (λo s₁=>lm (sn prog w) A (getAttr o f true) Q E s₁) E s):lm (sn prog w) A (eval (.Attribute e f pos) env) Q E s :=
 Attribute_any_ h (by rw[arm_eval_Attribute,hb])
end
def tFld (K:bi)(ta:TE)(f:Str):TE:=λσ H Q=>ta σ H λx H1=>∃a C dx fs v,x = .ref a/\H1 a=some (.ins C dx fs)/\Cls K C/\jc K C f/\fs.lookup f=some v/\Q v H1
def sFld (K:bi)(ta tv:TE)(f:Str):TS:=λD σ H=>tv σ H λy H1=>ta σ H1 λx H2=>∃a C dx fs,x = .ref a/\H2 a=some (.ins C dx fs)/\Cls K C/\jc K C f/\fs.length<1000 /\
 D.nx σ (upd H2 a (.ins C dx (putF f y fs)))
section
variable {X:Cx}{o e value:Expr}{f:Str}{pos pos' tpos:Pos}{ta tv:TE}
theorem dw (he:PE X e ta)(hb:FK e f X.env (eval e X.env)=eval e X.env):PE X (.Attribute e f pos) (tFld X.K ta f):=by
 intro pins s σ H Q I h
 refine zz hb (thn (he pins s σ H _ I h) λu s1 ⟨x,H1,I1,rx,a,C,dx,fs,v,ex,ea,c,n,l,q⟩=>?_)
 subst ex
 obtain rfl:u=Value.ref a:=rx
 exact sO I1 ea c n l λu' s2 I2 ru=>⟨v,H1,I2,ru,q⟩
theorem nK (ha:PE X o ta)(hv:PE X value tv)(hs:FP value (some (.Attribute o f pos')) pos.line X.env=pure false):PS X (.Assign [.Attribute o f pos'] value pos) (sFld X.K ta tv f):=by
 intro pins s σ H D I h
 refine plainObj_wpAny_Assign_Attribute (thn (hv pins s σ H _ I h) λu s1 ⟨y,H1,I1,ry,q⟩=>thn (ha pins s1 σ H1 _ I1 q) λov s2 ⟨x,H2,I2,rx,a,C,dx,fs,ex,ea,c,n,l,q2⟩=>?_) hs
 subst ex
 obtain rfl:ov=Value.ref a:=rx
 exact r_ I2 ea c n l ry λs3 I3=>⟨σ,_,I3,q2⟩
end
section
variable {X:Cx}{pins:List (Addr×Obj)}{σ:St}{H:Hp}{s:ca}{A:Ca}{E:bn->ca->Prop}{Q:bn->ca->Prop}{c:bn}{b:Bool}
inductive TyOf (K:bi) (H:Hp):V->bn->Prop where
 | non:TyOf K H .non (.type "NoneType")
 | bl (x:Bool):TyOf K H (.bl x) (.type "bool")
 | int (i:Int):TyOf K H (.int i) (.type "int")
 | str (x:Str):TyOf K H (.str x) (.type "str")
 | flt (x:UInt64):TyOf K H (.flt x) (.type "float")
 | lst {a:Addr} {xs:List V} (e:H a=some (.lst xs)):TyOf K H (.ref a) (.type "list")
 | frz {a:Addr} {o:Obj} {xs:List V} (e:H a=some (.frz o (.lst xs))):TyOf K H (.ref a) (.type "list")
 | tup {a:Addr} {xs:List V} (e:H a=some (.tup xs)):TyOf K H (.ref a) (.type "tuple")
 | dK {a:Addr} {kvs:List (Key×V)} (e:H a=some (.dK kvs)):TyOf K H (.ref a) (.type "dict")
 | dT {a:Addr} {kvs:List (List Key×V)} (e:H a=some (.dT kvs)):TyOf K H (.ref a) (.type "dict")
 | ins {a C dx:Addr} {fs:List (Str×V)} (e:H a=some (.ins C dx fs)) (cl:Cls K C) (ha:BY K (.ref C) "__class__" = some (some (.builtin "object.__class__")))
   (hn:PySem.W.specialIn K (.builtin "object.__class__") "__get__" = some (some (.builtin "getset_descriptor.__get__"))) (htk:PySem.W.takesIn K (.builtin "object.__class__")=some true)
   (hm:PySem.W.mroIn K C (.type "object")=some true):TyOf K H (.ref a) (.ref C)
theorem iV {x:V}{u t:bn}(I:Inv X pins σ H s)(rx:RelV x u)(ty:TyOf X.K H x t)(e:G0 X.K t c=some b)(h:∀tk,Q (.bool b) {s with toks:=tk}) :
  lm (sn X.prog X.w) A (call (.builtin "isinstance") [u,c]) Q E s:=by
 cases ty with
 | non=>cases (show u=Value.none from rx);exact CO PySem.W.kitx_none I.kIn True.intro e (λz=>nomatch z) h
 | bl y=>cases (show u=Value.bool y from rx);exact CO PySem.W.kitx_bool I.kIn True.intro e (λz=>nomatch z) h
 | int i=>obtain⟨t,q⟩:=(show ∃t,u=Value.int i t from rx);cases q;exact CO PySem.W.kitx_int I.kIn True.intro e (λz=>nomatch z) h
 | str y=>obtain⟨t,q⟩:=(show ∃t,u=Value.str y t from rx);cases q;exact CO PySem.W.kitx_str I.kIn True.intro e (λz=>nomatch z) h
 | flt y=>obtain⟨t,q⟩:=(show ∃t,u=Value.float y t from rx);cases q;exact CO PySem.W.kitx_float I.kIn True.intro e (λz=>nomatch z) h
 | @lst a xs ea =>
  cases (show u=Value.ref a from rx)
  obtain⟨_,_,n,_,h1⟩:=(show cK X.prog X.w H s.heap a (.lst xs)from I.hok a _ ea)
  exact CO Gc I.kIn ⟨_,h1,rfl⟩ e (λz=>nomatch z) h
 | @frz a ob xs ea =>
  cases (show u=Value.ref a from rx)
  obtain⟨_,_,_,n,_,h1⟩:=(show cK X.prog X.w H s.heap a (.frz ob (.lst xs))from I.hok a _ ea)
  exact CO Gc I.kIn ⟨_,h1,rfl⟩ e (λz=>nomatch z) h
 | @tup a xs ea =>
  cases (show u=Value.ref a from rx)
  obtain⟨_,_,_,p⟩:=(show cK X.prog X.w H s.heap a (.tup xs)from I.hok a _ ea)
  obtain⟨o,h1,h2,_⟩:=p
  exact CO Ic I.kIn ⟨o,h1,h2⟩ e (λz=>nomatch z) h
 | @dK a kvs ea =>
  cases (show u=Value.ref a from rx)
  obtain⟨_,_,vs,_,p⟩:=(show cK X.prog X.w H s.heap a (.dK kvs)from I.hok a _ ea)
  obtain⟨o,es,ep,h1,h2,_⟩:=p
  exact CO Il I.kIn ⟨o,h1,h2.1⟩ e (λz=>nomatch z) h
 | @dT a kvs ea =>
  cases (show u=Value.ref a from rx)
  obtain⟨_,_,xs,_,o,es,ep,h1,h2,_⟩:=(show cK X.prog X.w H s.heap a (.dT kvs)from I.hok a _ ea)
  exact CO Il I.kIn ⟨o,h1,h2.1⟩ e (λz=>nomatch z) h
 | @ins a C dx fs ea cl ha hn htk hm =>
  cases (show u=Value.ref a from rx)
  obtain⟨mA,O,_⟩:=mT I.hok ea
  obtain⟨od,J,_⟩:=O.look
  exact CO (PySem.W.kitx_own (cl.get _) cl.hd ha hn htk hm) I.kIn J e (λz=>nomatch z) h
end
structure Room (k:Nat)(A:Ca):Prop where
 hd:A.handled=none
 dp:A.depth+3*k+5<recursionLimit
 un:A.units+16*k+200<EI
 gd:A.guards=some []
theorem Room.mono {j k:Nat}{A:Ca}(r:Room k A)(h:j<=k):Room j A:=⟨r.hd,by have:=r.dp;omega,by have:=r.un;omega,r.gd⟩
theorem Room.deeper {k:Nat}{A:Ca}(r:Room (k+1) A)(env:Env):Room k (A.deeper env) :=
 ⟨r.hd,by have:=r.dp;show A.depth+1+3*k+5<_;omega,by have:=r.un;show A.units+3+16*k+200<_;omega,r.gd⟩
theorem sD {A:Ca}{C:Addr}{us:List bn}{kw:List (Str×bn)}:(A.under (.builtin "type.__call__" ⟨.ref C::us,kw⟩)).depth=A.depth+1:=by
 first | rfl | simp[Gj,Code.weight,Code.isCreation,Code.isGuard,Code.isCaller,Kh,HU,guardIds]
theorem sC {A:Ca}{C:Addr}{us:List bn}{kw:List (Str×bn)}:(A.under (.builtin "type.__call__" ⟨.ref C::us,kw⟩)).units=A.units+1:=by
 first | rfl | simp[Gj,Code.cUnits,Kh,HU]
theorem qg {A:Ca}{C:Addr}{us:List bn}{kw:List (Str×bn)}:(A.under (.builtin "type.__call__" ⟨.ref C::us,kw⟩)).guards=A.guards:=by
 have:(Code.builtin "type.__call__" ⟨.ref C::us,kw⟩).guards=[]:=by
  unfold Code.guards
  rw[if_neg]
  show ¬guardIds.contains "type.__call__" = true
  decide +kernel
 unfold Gj
 rw[this]
 cases A with
 | mk a b c d e=>cases d <;> rfl
theorem Room.make {k:Nat}{A:Ca}(r:Room (k+1) A)(C:Addr)(us:List bn)(kw:List (Str×bn)):Room k (A.under (.builtin "type.__call__" ⟨.ref C::us,kw⟩)) :=
 ⟨r.hd,by have:=r.dp;rw[sD];omega,by have:=r.un;rw[sC];omega,by rw[qg];exact r.gd⟩
theorem Room.depth {k:Nat}{A:Ca}(r:Room k A):A.depth<recursionLimit:=by have:=r.dp;omega
theorem Room.units {k:Nat}{A:Ca}(r:Room k A):A.units+64<EI:=by have:=r.un;omega
def tNil:TA:=λ_ H Q=>Q [] H
def tV (ta:TE)(tr:TA):TA:=λσ H Q=>ta σ H λx H1=>tr σ H1 λxs H2=>Q (x::xs) H2
section
variable {X:Cx}{e:Expr}{es:List Expr}{te:TE}{t:TA}{pos:Pos}
theorem aA:PA X [] tNil:=λ_ _ _ _ H Q I h=>Fk ⟨[],H,I,.nil,h⟩
theorem ah (ha:PE X e te)(hr:PA X es t)(hs:B1 (e::es) X.env=(false,eval e X.env)::B1 es X.env:=by rfl):PA X (e::es) (tV te t):=by
 intro pos pins s σ H Q I h
 rw[hs]
 show lm _ _ (JS ((false,eval e X.env)::D6 pos (B1 es X.env))) _ _ s
 refine Ep (thn (ha pins s σ H _ I h) λu s1 ⟨x,H1,I1,r1,q1⟩=>?_)
 exact thn (hr pos pins s1 σ H1 _ I1 q1) λus s2 ⟨xs,H2,I2,r2,q2⟩=>⟨x::xs,H2,I2,.cons r1 r2,q2⟩
def tTup (t:TA):TE:=λσ H Q=>t σ H λxs H1=>xs.length<=wT/\∀p,H1 p=none->Q (.ref p) (upd H1 p (.tup xs))
def tLst (t:TA):TE:=λσ H Q=>t σ H λxs H1=>xs.length<=wT/\∀p,H1 p=none->Q (.ref p) (upd H1 p (.lst xs))
theorem c8 {x1}(h:PA X es t):PE X (.Tuple es x1 pos) (tTup t):=by
 intro pins s σ H Q I hq
 refine wpAny_Tuple_spliced (thn (h pos pins s σ H _ I hq) λus s1 ⟨xs,H1,I1,r,z,q⟩=>⟨by rw[<- r.length];exact z,?_⟩)
 have hf:H1 s1.heap.objs.size=none:=I1.hok.fresh (li _)
 refine⟨.ref s1.heap.objs.size,upd H1 s1.heap.objs.size (.tup xs),I1.laid (t':=s1.toks) (λb u e=>db _ e) (li _) ?_,rfl,q _ hf⟩
 exact⟨z,us,r,⟨_,ww _ rfl,rfl,_,rfl⟩⟩
theorem eK (h:PA X es t):PE X (.List es pos) (tLst t):=by
 intro pins s σ H Q I hq
 refine wpAny_List_spliced (thn (h pos pins s σ H _ I hq) λus s1 ⟨xs,H1,I1,r,z,q⟩=>⟨by rw[<- r.length];exact z,?_⟩)
 have hf:H1 s1.heap.objs.size=none:=I1.hok.fresh (li _)
 refine⟨.ref s1.heap.objs.size,upd H1 s1.heap.objs.size (.lst xs),I1.laid (t':=s1.toks) (λb u e=>db _ e) (li _) ?_,rfl,q _ hf⟩
 exact⟨z,us,0,r,ww _ rfl⟩
end
abbrev Sp:=List V->Hp->VK->XK->Prop
abbrev CXT:=List Env->Hp->ca->XK->bn->ca->Prop
structure Env0 (P:wE)(w:B2)(K:bi)(mg:Str->Option bn)(base:Heap)(A:Ca)(outer:List Env)(s:ca)(H:Hp):Prop where
 frames:A.frames=some outer
 mod:Mod K mg base
 bs:∀b o,base.get? b=some o->s.heap.get? b=some o/\H b=none
 bsz:base.objs.size<=s.heap.objs.size
 funs:s.heap.FunFrames base outer
 frf:∀b∈frs outer,H b=none
 hok:HOk P w H s.heap
 bare:F5 s.gens
def CE (outer:List Env)(P:wE)(w:B2)(H:Hp)(s:ca)(Q:VK)(u:bn)(s':ca):Prop :=
 ∃v H',s'.os=s.os/\F5 s'.gens/\Un (frs outer) [] H H' s.heap s'.heap/\HOk P w H' s'.heap/\RelV v u/\Q v H'
def CR (CX:CXT)(outer:List Env)(P:wE)(w:B2)(H:Hp)(s:ca)(Q:VK)(E:XK)(r:EK)(s':ca):Prop :=
 match r with
 | .ok (.ret u)=>CE outer P w H s Q u s'
 | .ok _=>False
 | .error e=>CX outer H s E e s'
structure FnOk (P:wE)(w:B2)(K:bi)(mg:Str->Option bn)(base:Heap)(CX:CXT)(k:Nat)(f:Addr)(fd:EM)(ps:List Str)(sp:Sp):Prop where
 len:∀vs H Q E,sp vs H Q E->vs.length=ps.length
 run:∀(A:Ca) (outer:List Env) (s:ca) (H:Hp) (args:Args) (us:List bn) (vs:List V) (Q:VK) (E:XK),Room k A->Env0 P w K mg base A outer s H->HV s fd args (ps.zip us)->Vals vs us->sp vs H Q E ->
  CZ (sn P w) A (.call (.ref f) args) (CR CX outer P w H s Q E) s
theorem FnOk.imp {P:wE}{w:B2}{K:bi}{mg:Str->Option bn}{base:Heap}{CX:CXT}{k:Nat}{f:Addr}{fd:EM}{ps:List Str}{sp sp':Sp}(F:FnOk P w K mg base CX k f fd ps sp)
  (h:∀vs H Q E,sp' vs H Q E->sp vs H Q E):FnOk P w K mg base CX k f fd ps sp' :=
 ⟨λvs H Q E q=>F.len vs H Q E (h _ _ _ _ q),λA outer s H args us vs Q E hr he hb hv hs=>F.run A outer s H args us vs Q E hr he hb hv (h _ _ _ _ hs)⟩
theorem Env0.make {P:wE}{w:B2}{K:bi}{mg:Str->Option bn}{base:Heap}{A:Ca}{outer:List Env}{s:ca}{H:Hp}(e:Env0 P w K mg base A outer s H)(C:Addr)(us:List bn)(kw:List (Str×bn)) :
  Env0 P w K mg base (A.under (.builtin "type.__call__" ⟨.ref C::us,kw⟩)) outer s H:=⟨by first | exact e.frames | (simpa [Gj,Code.envs,HU,pushEnvs] using e.frames),e.mod,e.bs,e.bsz,e.funs,e.frf,e.hok,e.bare⟩
section
variable {X:Cx}{pins:List (Addr×Obj)}{σ:St}{H:Hp}{s s':ca}
theorem Inv.env0 (I:Inv X pins σ H s):Env0 X.prog X.w X.K X.mg X.base X.A X.stack s H :=
 ⟨I.ok.frames,I.ok.mod,I.bs,xL I.ok.bsz I.sz,I.stack,I.stkFree,I.hok,I.bare⟩
theorem Inv.after {Q:VK}{u:bn}(I:Inv X pins σ H s)(h:CE X.stack X.prog X.w H s Q u s'):EP X pins σ Q u s':=by
 obtain⟨v,H',os,bare,un,hok,r,q⟩:=h
 obtain⟨hh,g,d,t,os'⟩:=s'
 obtain rfl:os'=s.os:=os
 exact⟨v,H',I.call (h':=hh) (g':=g) (d':=d) (t':=t) (ch:=[]) un hok bare (λb z=>absurd z (by simp)),r,q⟩
end
def yi (sp:Sp)(dvs:List V)(E:XK)(t:TA):TE:=λσ H Q=>t σ H λvs H1=>sp (vs++dvs) H1 Q E
def tS (C:Addr)(m:Str)(sp:Sp)(dvs:List V)(E:XK)(ta:TE)(t:TA):TE:=λσ H Q=>ta σ H λx H1=>∃a dx fs,x = .ref a/\H1 a=some (.ins C dx fs)/\fs.lookup m=none /\
 t σ H1 λvs H2=>sp (x::(vs++dvs)) H2 Q E
def yh (C:Addr)(sp:Sp)(dvs:List V)(E:XK)(t:TA):TE:=λσ H Q=>t σ H λvs H1=>∀x dx,H1 x=none->H1 dx=none->dx≠x ->
 sp (.ref x::(vs++dvs)) (upd (upd H1 dx (.own x)) x (.ins C dx [])) (λv H2=>v = .non/\Q (.ref x) H2) E
def kZ (K:bi)(fd:EM)(ps:List Str)(ds:List bn):Prop :=
 ∀(s:ca) (us:List bn),K.In s.heap->(us++ds).length=ps.length->HV s fd ⟨us,[]⟩ (ps.zip (us++ds))
theorem kZ.all {K:bi}{fd:EM}{ps:List Str}(h:∀us:List bn,us.length=ps.length->Ia fd ⟨us,[]⟩=pure (ps.zip us)):kZ K fd ps []:=λs us _ hl=>by
 rw[B5]at hl ⊢
 exact .of_eq (h us hl)
def kY (CX:CXT)(X:Cx)(E:XK):Prop:=∀(pins:List (Addr×Obj)) (σ:St) (H:Hp) (s:ca) (e:bn) (s':ca),Inv X pins σ H s->CX X.stack H s E e s'->X.xe e s'
section
variable {X:Cx}{CX:CXT}{k:Nat}{f C:Addr}{fd:EM}{ps:List Str}{sp:Sp}{dvs:List V}{ds:List bn}{E:XK}{x m:Str}{p pos apos:Pos}{e o:Expr}{es:List Expr}{ta:TE}{t:TA}
theorem ub {pins:List (Addr×Obj)}{σ:St}{H:Hp}{s:ca}{Q:VK}{us:List bn}{vs:List V}(F:FnOk X.prog X.w X.K X.mg X.base CX k f fd ps sp)(hr:Room k X.A)(hb:kZ X.K fd ps ds)(hd:Vals dvs ds)(hx:kY CX X E)
  (I:Inv X pins σ H s) (r:Vals vs us) (h:sp (vs++dvs) H Q E):lm (sn X.prog X.w) X.A (call (.ref f) us) (EP X pins σ Q) X.xe s:=by
 have r2:Vals (vs++dvs) (us++ds):=r.append hd
 have hl:(us++ds).length=ps.length:=by rw[<- r2.length];exact F.len _ _ _ _ h
 refine wpAny_call (Fl (F.run X.A X.stack s H ⟨us,[]⟩ (us++ds) (vs++dvs) Q E hr I.env0 (hb s us I.kIn hl) r2 h) λr s' hq=>?_)
 cases r with
 | error e=>exact hx pins σ H s e s' I hq
 | ok fl =>
  cases fl with
  | ret u=>exact I.after hq
  | next=>exact DI hq
  | brk=>exact DI hq
  | cont=>exact DI hq
theorem yC (F:FnOk X.prog X.w X.K X.mg X.base CX k f fd ps sp)(hr:Room k X.A)(hg:Gl X x)(hm:X.mg x=some (.ref f))(hk:Ci X.K (.ref f)=true)(hb:kZ X.K fd ps ds)(hd:Vals dvs ds)(hx:kY CX X E)
  (ha:PA X (e::es) t) (hdb:(x==("__debug__" : Str))=false:=by decide) (he:B1 (e::es) X.env=(false,eval e X.env)::B1 es X.env:=by rfl) (hpl:(D6 pos (B1 es X.env)).any (·.1)=false:=by rfl) :
  PE X (.Call (.Name x p) (e::es) [] pos) (yi sp dvs E t):=by
 intro pins s σ H Q I h
 refine Fu (qh I hg hm ?_ hdb)
 refine FZ (h₀:=X.base) I.ok.mod.kin hk (thn (ha pos pins s σ H _ I h) λus s1 ⟨vs,H1,I1,r,q⟩=>⟨I1.kIn,?_⟩) he hpl
 exact ub F hr hb hd hx I1 r q
theorem yz {pl:Sem Bool}(he:PE X o ta)(c:Cls X.K C)(hm:Meth X.K C m f)(F:FnOk X.prog X.w X.K X.mg X.base CX k f fd ps sp)(hr:Room k X.A)(hb:kZ X.K fd ps ds)(hd:Vals dvs ds)(hx:kY CX X E)(ha:PA X (e::es) t)
  (hst:B1 (e::es) X.env=(false,eval e X.env)::B1 es X.env:=by rfl) (hpl:(D6 pos (B1 es X.env)).any (·.1)=false:=by rfl)
  (ht:eval (.Call (.Attribute o m apos) (e::es) [] pos) X.env=(do
   let ov <- eval o X.env
   Eg apos.atName
   let (f,first) <- Gz [ov] (GA ov m pl)
   Jj pos f first (D6 pos (B1 (e::es) X.env)) (Gp pos (E_ [] X.env))):=by rfl) :
  PE X (.Call (.Attribute o m apos) (e::es) [] pos) (tS C m sp dvs E ta t):=by
 intro pins s σ H Q I h
 refine HE (pl:=pl) (thn (he pins s σ H _ I h) λu s1 ⟨x,H1,I1,rx,a,dx,fs,ex,ea,l,q⟩=>?_) ht
 subst ex
 obtain rfl:u=Value.ref a:=rx
 refine lT I1 ea c hm l ?_
 refine FZ (first:=[.ref a]) (h₀:=X.base) I.ok.mod.kin hm.kp (thn (ha pos pins s1 σ H1 _ I1 q) λus s2 ⟨vs,H2,I2,r,q2⟩=>⟨I2.kIn,?_⟩) hst hpl
 exact ub (us:=.ref a::us) (vs:=.ref a::vs) F hr hb hd hx I2 (.cons rfl r) q2
theorem wy {pl:Sem Bool}(he:PE X o ta)(c:Cls X.K C)(hm:Meth X.K C m f)(F:FnOk X.prog X.w X.K X.mg X.base CX k f fd ps sp)(hr:Room k X.A)(hb:kZ X.K fd ps ds)(hd:Vals dvs ds)(hx:kY CX X E)
  (ht:eval (.Call (.Attribute o m apos) [] [] pos) X.env=(do
   let ov <- eval o X.env
   Eg apos.atName
   let (f,first) <- Gz [ov] (GA ov m pl)
   Jj pos f first (D6 pos (B1 [] X.env)) (Gp pos (E_ [] X.env))):=by rfl) :
  PE X (.Call (.Attribute o m apos) [] [] pos) (tS C m sp dvs E ta tNil):=by
 intro pins s σ H Q I h
 refine HE (pl:=pl) (thn (he pins s σ H _ I h) λu s1 ⟨x,H1,I1,rx,a,dx,fs,ex,ea,l,q⟩=>?_) ht
 subst ex
 obtain rfl:u=Value.ref a:=rx
 refine lT I1 ea c hm l ?_
 exact PySem.W.callWith_K0 (first:=[.ref a]) I1.kIn hm.kp (ub (us:=[.ref a]) (vs:=[.ref a]) F hr hb hd hx I1 (.cons rfl .nil) q)
structure Mk (K:bi)(C f:Addr):Prop where
 makes:Fx K C=true
 init:BY K (.ref C) "__init__" = some (some (.ref f))
 fn:C6 K (.ref f)=true
 kp:Ci K (.ref C)=true
theorem wj {pins:List (Addr×Obj)}{σ:St}{H:Hp}{s:ca}{Q:VK}{us:List bn}{vs:List V}(M:Mk X.K C f)(F:FnOk X.prog X.w X.K X.mg X.base CX k f fd ps sp)(hr:Room (k+1) X.A)(hb:kZ X.K fd ps ds)(hd:Vals dvs ds)
  (hx:kY CX X E) (I:Inv X pins σ H s) (r:Vals vs us)
  (h:∀x dx,H x=none->H dx=none->dx≠x->sp (.ref x::(vs++dvs)) (upd (upd H dx (.own x)) x (.ins C dx [])) (λv H2=>v = .non/\Q (.ref x) H2) E) :
  lm (sn X.prog X.w) X.A (call (.ref C) us) (EP X pins σ Q) X.xe s:=by
 have hq:=h (s.heap.objs.size+1) s.heap.objs.size (I.hok.fresh (Fp _)) (I.hok.fresh (li _)) (wP (DH _))
 have I2:=Inv.made (C:=C) I
 have r2:Vals (V.ref (s.heap.objs.size+1)::(vs++dvs)) (Value.ref (s.heap.objs.size+1)::(us++ds)):=.cons rfl (r.append hd)
 have hl:(Value.ref (s.heap.objs.size+1)::us++ds).length=ps.length:=by
  have e:=r2.length
  rw[F.len _ _ _ _ hq]at e
  exact e.symm
 refine wpAny_call (wR (f:=f) I.kIn M.makes M.init (beq_iff_eq.mp M.fn) (Fl (F.run _ X.stack _ _ ⟨Value.ref (s.heap.objs.size+1)::us,[]⟩ (Value.ref (s.heap.objs.size+1)::(us++ds)) _ _ E (hr.make C us [])
  (I2.env0.make C us []) (hb _ (Value.ref (s.heap.objs.size+1)::us) I2.kIn hl) r2 hq) λr s' hq'=>?_))
 cases r with
 | error e=>exact hx pins σ _ _ e s' I2 hq'
 | ok fl =>
  cases fl with
  | ret u =>
   obtain⟨v,H',I3,rv,ev,q3⟩:=I2.after hq'
   subst ev
   exact⟨rv,⟨V.ref (s.heap.objs.size+1),H',I3,rfl,q3⟩⟩
  | next=>exact DI hq'
  | brk=>exact DI hq'
  | cont=>exact DI hq'
theorem yA (M:Mk X.K C f)(F:FnOk X.prog X.w X.K X.mg X.base CX k f fd ps sp)(hr:Room (k+1) X.A)(hg:Gl X x)(hm:X.mg x=some (.ref C))(hb:kZ X.K fd ps ds)(hd:Vals dvs ds)(hx:kY CX X E)
  (ha:PA X (e::es) t) (hdb:(x==("__debug__" : Str))=false:=by decide) (he:B1 (e::es) X.env=(false,eval e X.env)::B1 es X.env:=by rfl) (hpl:(D6 pos (B1 es X.env)).any (·.1)=false:=by rfl) :
  PE X (.Call (.Name x p) (e::es) [] pos) (yh C sp dvs E t):=by
 intro pins s σ H Q I h
 refine Fu (qh I hg hm ?_ hdb)
 refine FZ (h₀:=X.base) I.ok.mod.kin M.kp (thn (ha pos pins s σ H _ I h) λus s1 ⟨vs,H1,I1,r,q⟩=>⟨I1.kIn,?_⟩) he hpl
 exact wj M F hr hb hd hx I1 r q
end
structure aQ (N P:List Str)(sc:Dw):Prop where
 kind:sc.kind = .function
 co:sc.isCoroutine=false
 gen:sc.isGenerator=false
 nd:N.Nodup
 pre:N.take P.length=P
 par:∀x∈P,sc.names.lookup x=some .local∨sc.names.lookup x=some .cell
 nofree:∀y∈sc.names,y.2 ≠ .free
theorem oU {kindOf:Str->Option El}{x:Str}:∀ {binds:List (Str×bn)} {m:Str->Option bn},(∀v,(x,v)∉binds)->IG kindOf binds m x=m x
 | [],_,_=>rfl
 | (n,v)::r,m,h=>by
  unfold IG
  rw[oU λw hw=>h w (BU _ hw)]
  split
  ·have:x≠n:=by rintro rfl;exact h v B3
   simp[this]
  ·rfl
theorem oW {kindOf:Str->Option El}{x:Str}:∀ {binds:List (Str×bn)} {m:Str->Option bn},(∀v,(x,v)∉binds)->IH kindOf binds m x=m x
 | [],_,_=>rfl
 | (n,v)::r,m,h=>by
  unfold IH
  rw[oW λw hw=>h w (BU _ hw)]
  split
  ·rfl
  ·have:x≠n:=by rintro rfl;exact h v B3
   simp[this]
theorem oV {kindOf:Str->Option El}{x:Str}{v:bn}:∀ {P:List Str} {vs:List bn} {i:Nat} {m:Str->Option bn},P.Nodup->P[i]? = some x->vs[i]? = some v->kindOf x=some .local ->
  IG kindOf (P.zip vs) m x=some v
 | [],_,_,_,_,h,_,_=>by simp at h
 | _::_,[],_,_,_,_,h,_=>by simp at h
 | p::P,w::vs,0,m,nd,h1,h2,hk=>by
  simp at h1 h2;subst h1;subst h2
  show IG kindOf ((p,w)::P.zip vs) m p=_
  unfold IG
  rw[oU λv hv=>(Eo.mp nd).1 (G5 hv).1,if_pos hk]
  simp
 | p::P,w::vs,i+1,m,nd,h1,h2,hk=>by
  show IG kindOf ((p,w)::P.zip vs) m x=_
  unfold IG
  exact oV (i:=i) (Eo.mp nd).2 (by simpa using h1) (by simpa using h2) hk
theorem oX {kindOf:Str->Option El}{x:Str}{v:bn}:∀ {P:List Str} {vs:List bn} {i:Nat} {m:Str->Option bn},P.Nodup->P[i]? = some x->vs[i]? = some v->kindOf x≠some .local ->
  IH kindOf (P.zip vs) m x=some v
 | [],_,_,_,_,h,_,_=>by simp at h
 | _::_,[],_,_,_,_,h,_=>by simp at h
 | p::P,w::vs,0,m,nd,h1,h2,hk=>by
  simp at h1 h2;subst h1;subst h2
  show IH kindOf ((p,w)::P.zip vs) m p=_
  unfold IH
  rw[oW λv hv=>(Eo.mp nd).1 (G5 hv).1,if_neg hk]
  simp
 | p::P,w::vs,i+1,m,nd,h1,h2,hk=>by
  show IH kindOf ((p,w)::P.zip vs) m x=_
  unfold IH
  exact oX (i:=i) (Eo.mp nd).2 (by simpa using h1) (by simpa using h2) hk
def start (N:List Str)(vs:List V):St:=vs.map some++pc (N.length - vs.length) none
def cxOf (CX:CXT)(P:wE)(w:B2)(K:bi)(mg:Str->Option bn)(base:Heap)(N:List Str)(qual:Str)(scope:Dw)(f:Addr)(cd:bn)(A:Ca)(outer:List Env)(s:ca)(H:Hp)(E:XK):Cx where
 prog:=P
 w:=w
 K:=K
 mg:=mg
 base:=base
 A:=A.deeper (EU qual scope s.heap.objs.size f cd)
 N:=N
 s₀:=s
 H₀:=H
 env:=EU qual scope s.heap.objs.size f cd
 outer:=outer
 stack:=EU qual scope s.heap.objs.size f cd::outer
 ex:=[]
 calm:=true
 fn:=λ_=>true
 pn:=[]
 xe:=λe s'=>lm (sn P w) (A.deeper (EU qual scope s.heap.objs.size f cd)) (leaving (EU qual scope s.heap.objs.size f cd) e) (λ_ s''=>CX outer H s E e s'') (λe' s''=>CX outer H s E e' s'') s'
theorem rN {sc:Dw}{n:Nat}{x:Str}(h:sc.names.lookup x=some .cell):∃c,(J_ n sc.names []).lookup x=some c:=by
 have q:=Hu sc.names n [] (.inl h)
 exact Option.isSome_iff_exists.mp q
theorem uT {CX:CXT}{P:wE}{w:B2}{K:bi}{mg:Str->Option bn}{base:Heap}{N ps:List Str}{qual:Str}{scope:Dw}{f:Addr}{cd:bn}{A:Ca}{outer:List Env}{s s1:ca}{H:Hp}{E:XK}{us:List bn}{vs:List V}
  (S:aQ N ps scope) (hd:A.handled=none) (e0:Env0 P w K mg base A outer s H) (hl:vs.length=ps.length) (r:Vals vs us)
  (x:InCallC s s.heap.objs.size (IG (EU qual scope s.heap.objs.size f cd).kindOf (ps.zip us) λ_=>none) (J_ (s.heap.objs.size+1) scope.names []) (IH (EU qual scope s.heap.objs.size f cd).kindOf (ps.zip us) λ_=>none) s1) :
  Inv (cxOf CX P w K mg base N qual scope f cd A outer s H E) [] (start N vs) H s1:=by
 have hpl:ps.length<=N.length:=by have:=congrArg Kc S.pre;rw[B0]at this;omega
 obtain⟨h1,tk,rfl,hk⟩:=x.done
 have noA:∀b:Addr,b∉(cxOf CX P w K mg base N qual scope f cd A outer s H E).ex:=λb z=>absurd (show b∈([]:List Addr)from z) (by simp)
 refine⟨⟨e0.mod,S.kind,rfl,rfl,li _,λy z c h1 h2=>?_,λy hy=>?_,λy c _ h=>?_,λ_=>hd,Around.frames_deeper e0.frames,.inr ⟨rfl,rfl⟩,λb z=>absurd z (noA b),e0.bs,e0.bsz,λb _ _=>noA b,λb z=>absurd z (noA b),e0.funs,e0.frf⟩,
  rfl,e0.bare,Un.kept hk,⟨_,x.toInCall.ns,λi y v h1 h2 h3=>?_⟩,λy c h=>⟨_,x.cell y c h⟩,e0.hok.fresh (li _),λy c h=>?_,λp hp=>absurd (show p∈([]:List (Addr×Obj))from hp) (by simp),e0.hok.kept hk,?_⟩
 ·exact name_of_addr x.apart (CP h1) (CP h2)
 ·have hy:scope.names.lookup y=some .cell∨scope.names.lookup y=some .free:=hy
  rcases hy with hy | hy
  ·exact rN hy
  ·exact absurd rfl (S.nofree _ (CP hy))
 ·exact CI (x.above y c (CP h))
 ·have hi:i<vs.length:=by
   unfold start at h2
   by_cases hi:i<vs.length
   ·exact hi
   ·rw[Cc (by simpa using hi)]at h2
    rw[CK]at h2
    split at h2 <;> cases h2
  have ha:vs[i]? = some v:=by
   unfold start at h2
   rw[BQ (by simpa using hi),wn]at h2
   cases e:vs[i]? with
   | none=>rw[e]at h2;cases h2
   | some a=>rw[e]at h2;cases h2;rfl
  obtain⟨u,hu,rv⟩:=r.get ha
  have hp:ps[i]? = some y:=by
   rw[<- S.pre,Fq (by omega)];exact h1
  have ndP:ps.Nodup:=by rw[<- S.pre];exact S.nd.sublist (List.take_sublist _ _)
  refine⟨u,rv,?_⟩
  rcases S.par y (Cb hp)with k | k
  ·exact .inl ⟨k,oV ndP hp hu k⟩
  ·obtain⟨c,e⟩:=rN (n:=s.heap.objs.size+1) k
   refine .inr ⟨.inl k,c,e,?_⟩
   have q:=x.cell y c e
   rw[oX ndP hp hu (by show scope.names.lookup y≠_;rw[k];decide)]at q
   exact q
 ·exact e0.hok.fresh (CI (x.above y c (CP h)))
 ·unfold start
  show _=N.length
  rw[wS,f8,C7]
  omega
theorem Bt {CX:CXT}{P:wE}{w:B2}{K:bi}{mg:Str->Option bn}{base:Heap}{k:Nat}{f:Addr}{name qual:Str}{params:Arguments}{body:List Stmt}{scope:Dw}{dV kV doc pm cdv ct oc:bn}{an od:Option Addr}
  {osl:Array (Option bn)} {N ps:List Str} {sp:Sp} (lk:K.lookup f=some ⟨oc,od,.func (CA name qual params body scope dV kV doc pm an cdv ct),osl⟩) (hcd:CG K cdv qual=true) (S:aQ N ps scope)
  (len:∀vs H Q E,sp vs H Q E->vs.length=ps.length)
  (hbody:∀(A:Ca) (outer:List Env) (s:ca) (H:Hp) (vs:List V) (Q:VK) (E:XK),Room k (A.deeper (EU qual scope s.heap.objs.size f cdv))->sp vs H Q E ->
   ∃t,PSs (cxOf CX P w K mg base N qual scope f cdv A outer s H E) body t/\t {nx:=λ_ H'=>Q .non H',rt:=Q} (start N vs) H) :
  FnOk P w K mg base CX (k+1) f (CA name qual params body scope dV kV doc pm an cdv ct) ps sp:=by
 refine⟨len,λA outer s H args us vs Q E hr e0 hb r hsp=>?_⟩
 have hl:=len _ _ _ _ hsp
 have KX:K.In s.heap:=e0.mod.kin.keeps λb o e=>(e0.bs b o e).1
 have lim:s.heap.NoLimit:=e0.mod.nolimit.keeps λb o e=>(e0.bs b o e).1
 have hkind:∀y∈ps.zip us,scope.names.lookup y.1=some .local∨(scope.names.lookup y.1=some .cell/\((J_ (s.heap.objs.size+1) scope.names []).lookup y.1).isSome=true):=λ⟨n,v⟩ hy=>by
  rcases S.par n (G5 hy).1 with q | q
  ·exact .inl q
  ·exact .inr ⟨q,Hu _ _ _ (.inl q)⟩
 refine codeAny_call_function hr.depth (KX _ _ lk) rfl S.co S.gen rfl (PySem.W.codeRec_of KX hcd) (hb _ _ _ _ ?_)
 refine wpAny_newFunctionEnv_cells S.kind hkind λenv he s1 x=>?_
 subst he
 refine⟨lim.keeps x.toInCall.keep,codeAny_func ?_⟩
 obtain⟨t,ht,hq⟩:=hbody A outer s H vs Q E (hr.deeper _) hsp
 have I:Inv (cxOf CX P w K mg base N qual scope f cdv A outer s H E) [] (start N vs) H s1:=uT S hr.hd e0 hl r x
 refine Dn (ht [] s1 (start N vs) H _ I hq) (λfl s' hs=>?_) λe s' hs=>hs
 have fin:∀ {σ':St} {H':Hp} {v:V} {u:bn},Inv (cxOf CX P w K mg base N qual scope f cdv A outer s H E) [] σ' H' s'->RelV v u->Q v H'->CE outer P w H s Q u s' :=
  λ{σ' H' v u} J rv q=>⟨v,H',J.os,J.bare,J.base,J.hok,rv,q⟩
 cases fl with
 | ret u =>
  obtain⟨v,σ',H',J,rv,q⟩:=hs
  exact fin J rv q
 | next =>
  obtain⟨σ',H',J,q⟩:=hs
  exact fin (v:=V.non) (u:=Value.none) J rfl q
 | brk =>
  obtain⟨_,_,_,q⟩:=hs
  exact DI q
 | cont =>
  obtain⟨_,_,_,q⟩:=hs
  exact DI q
section
variable {X:Cx}{x:Str}{p pos:Pos}{e:Expr}{es:List Expr}{t:TA}{id T:String}{r:List V->Hp->VK->Prop}
def tCB (r:List V->Hp->VK->Prop)(t:TA):TE:=λσ H Q=>t σ H λvs H1=>r vs H1 Q
theorem bE (hc:iq X (.builtin id) r)(hg:Gl X x)(hm:X.mg x=none)(hv:Cz x=some (.builtin id))(ha:PA X (e::es) t)(hn:x ≠ "__name__" := by decide)(hdb:(x==("__debug__" : Str))=false:=by decide)
  (he:B1 (e::es) X.env=(false,eval e X.env)::B1 es X.env:=by rfl) (hpl:(D6 pos (B1 es X.env)).any (·.1)=false:=by rfl):PE X (.Call (.Name x p) (e::es) [] pos) (tCB r t):=by
 intro pins s σ H Q I h
 refine Fu (gE I hg hm hv ?_ hn hdb)
 exact FU (thn (ha pos pins s σ H _ I h) λus s1 ⟨vs,H1,I1,r1,q1⟩=>hc pins s1 σ H1 vs us Q I1 r1 q1) he hpl
theorem cN (hc:iq X (.type T) r)(hg:Gl X x)(hm:X.mg x=none)(hv:Cz x=some (.type T))(ha:PA X (e::es) t)(hn:x ≠ "__name__" := by decide)(hdb:(x==("__debug__" : Str))=false:=by decide)
  (he:B1 (e::es) X.env=(false,eval e X.env)::B1 es X.env:=by rfl) (hpl:(D6 pos (B1 es X.env)).any (·.1)=false:=by rfl):PE X (.Call (.Name x p) (e::es) [] pos) (tCB r t):=by
 intro pins s σ H Q I h
 refine Fu (gE I hg hm hv ?_ hn hdb)
 exact CB (thn (ha pos pins s σ H _ I h) λus s1 ⟨vs,H1,I1,r1,q1⟩=>hc pins s1 σ H1 vs us Q I1 r1 q1) he hpl
end
end L2
namespace HT
open PySem PyProof.Rows
section
variable {prog:wE}{w:B2}{A:Ca}{E:bn->ca->Prop}{s:ca}
def sIx (n d:Nat):Option Int->Nat
 | none=>d
 | some v=>if v<0 then(v+(n:Int)).toNat else min v.toNat n
theorem sIx_nat (n d k:Nat):sIx n d (some (k:Int))=min k n:=by
 show(if(k:Int)<0 then((k:Int)+(n:Int)).toNat else min (k:Int).toNat n)=min k n
 rw[if_neg (by omega),Cr]
end
end HT
namespace L2
open PySem PySem.Spec PyProof.Rows
abbrev TO:=St->Hp->(Option Int->Hp->Prop)->Prop
def PO (X:Cx)(e:Option Expr)(t:TO):Prop :=
 ∀(pins:List (Addr×Obj)) (s:ca) (σ:St) (H:Hp) (Q:Option Int->Hp->Prop),Inv X pins σ H s->t σ H Q ->
  lm (sn X.prog X.w) X.A (evalPart e X.env) (λu s'=>∃o H',Inv X pins σ H' s'/\IsPart u o/\Q o H') X.xe s
def tNoPart:TO:=λ_ H Q=>Q none H
def zW (t:TE):TO:=λσ H Q=>t σ H λx H1=>∃i,x = .int i/\Q (some i) H1
theorem sJ {ns:List Int}:∀ {us:List bn},Vals (ns.map V.int) us->Ez us ns:=by
 induction ns with
 | nil=>intro us r;rw[Dh]at r;cases r;exact .nil
 | cons n ns ih =>
  intro us r
  rw[wl]at r
  cases r with
  | cons r1 r2 =>
   obtain⟨t,e⟩:=r1
   subst e
   exact .cons n t (ih r2)
section
variable {X:Cx}{e:Expr}{te:TE}{lo hi:Option Expr}{tl th:TO}{pos p2:Pos}
theorem kh:PO X none tNoPart:=by
 intro pins s σ H Q I h
 rw[evalPart_none]
 exact dL ⟨none,H,I,.none,h⟩
theorem kf (h:PE X e te):PO X (some e) (zW te):=by
 intro pins s σ H Q I hw
 rw[evalPart_some]
 refine thn (h pins s σ H _ I hw) λu s1 ⟨x,H1,I1,r1,q1⟩=>?_
 obtain⟨i,rfl,q⟩:=q1
 obtain⟨t,rfl⟩:=r1
 exact⟨some i,H1,I1,.int i t,q⟩
def SlR (X:Cx)(r:V->Option Int->Option Int->Hp->VK->Prop):Prop :=
 ∀(pins:List (Addr×Obj)) (s:ca) (σ:St) (H:Hp) (x:V) (v vl vu:bn) (lo hi:Option Int) (sl:Addr) (Q:VK),Inv X pins σ H s->RelV x v->s.heap.IsSliceOf sl vl vu .none->IsPart vl lo->IsPart vu hi->r x lo hi H Q ->
  ∃T id,GW (.type T) "__getitem__" = pure (some (.builtin id))/\s.TypeIs v T/\lm (sn X.prog X.w) X.A (HQ v (.ref sl)) (EP X pins σ Q) X.xe s
def tSl (r:V->Option Int->Option Int->Hp->VK->Prop)(te:TE)(tl th:TO):TE:=λσ H Q=>te σ H λx H1=>tl σ H1 λl H2=>th σ H2 λu H3=>r x l u H3 Q
theorem iL {r:V->Option Int->Option Int->Hp->VK->Prop}(hr:SlR X r)(he:PE X e te)(hl:PO X lo tl)(hu:PO X hi th):PE X (.Subscript e (.Slice lo hi none p2) pos) (tSl r te tl th):=by
 intro pins s σ H Q I h
 refine JJ (thn (he pins s σ H _ I h) λv s1 ⟨x,H1,I1,r1,q1⟩=>?_)
 refine wpAny_Slice (thn (hl pins s1 σ H1 _ I1 q1) λvl s2 ⟨l,H2,I2,pl,q2⟩=>thn (hu pins s2 σ H2 _ I2 q2) λvu s3 ⟨u,H3,I3,pu,q3⟩=>?_)
 rw[evalPart_none]
 refine dL ?_
 have I4:Inv X pins σ H3 {s3 with heap:=s3.heap.push {cls:=.type "slice",data:=.fields #[vl,vu,.none]}}:=I3.kept (t':=s3.toks) λb ob q=>db _ q
 obtain⟨T,id,hT,ht,hg⟩:=hr pins {s3 with heap:=s3.heap.push {cls:=.type "slice",data:=.fields #[vl,vu,.none]}} σ H3 x v vl vu l u s3.heap.objs.size Q I4 r1 (J0 ..) pl pu q3
 show lm (sn X.prog X.w) X.A (Iu e (.Slice lo hi none p2) v (.ref s3.heap.objs.size)) (EP X pins σ Q) X.xe {s3 with heap:=s3.heap.push {cls:=.type "slice",data:=.fields #[vl,vu,.none]}}
 exact tail_any (ops:=[.ref s3.heap.objs.size,v]) ht hT hg (by with_unfolding_all rfl)
def cutV (xs:List V)(lo hi:Option Int):List V:=(xs.drop (HT.sIx xs.length 0 lo)).take (HT.sIx xs.length xs.length hi - HT.sIx xs.length 0 lo)
theorem qt (xs:List V)(lo hi:Option Int):(cutV xs lo hi).length<=xs.length:=by
 unfold cutV
 rw[B0,EE]
 omega
end
def ixN (n:Nat)(i:Int):Option Nat:=if 0<=i then(if i<n then some i.toNat else none)else if -(n:Int)<=i then some (i+n).toNat else none
def atI {α:Type}(xs:List α)(i:Int):Option α:=(ixN xs.length i).bind λj=>xs[j]?
theorem y6 {n:Nat}{i:Int}{j:Nat}(h:ixN n i=some j):seqIndex? i n=some j/\j<n/\-(n:Int)<=i/\i<n:=by
 unfold ixN at h
 by_cases h0:0<=i
 ·rw[if_pos h0]at h
  by_cases h1:i<n
  ·rw[if_pos h1]at h
   have e:i.toNat=j:=Dc h
   exact⟨by rw[seqIndex_of h0 h1,e],by omega,by omega,h1⟩
  ·rw[if_neg h1]at h;cases h
 ·rw[if_neg h0]at h
  by_cases h1:-(n:Int)<=i
  ·rw[if_pos h1]at h
   have e:(i+n).toNat=j:=Dc h
   exact⟨by rw[seqIndex_neg (by omega) h1,e],by omega,h1,by omega⟩
  ·rw[if_neg h1]at h;cases h
theorem qB {α:Type}{xs:List α}{i:Int}{v:α}(h:atI xs i=some v):∃j,seqIndex? i xs.length=some j/\xs[j]? = some v/\j<xs.length/\-(xs.length:Int)<=i/\i<xs.length:=by
 unfold atI at h
 cases e:ixN xs.length i with
 | none=>rw[e]at h;cases h
 | some j =>
  rw[e]at h
  obtain⟨h1,h2,h3,h4⟩:=y6 e
  exact⟨j,h1,h,h2,h3,h4⟩
theorem eQ {α:Type}{xs:List α}{j:Nat}{v:α}(h:xs[j]? = some v):atI xs (j:Int)=some v:=by
 have hj:j<xs.length:=(im.mp h).1
 have e:ixN xs.length (j:Int)=some j:=by
  unfold ixN
  rw[if_pos (by omega),if_pos (by omega)];simp
 unfold atI;rw[e];exact h
def zI (b:Expr):Prop:=∀o i,HB b false o i=operate [o,i] (HQ o i)
def IxR (X:Cx)(r:R2):Prop :=
 ∀(value slice:Expr) (pins:List (Addr×Obj)) (s:ca) (σ:St) (H:Hp) (x y:V) (v u:bn) (Q:VK),Inv X pins σ H s->RelV x v->RelV y u->r x y H Q ->
  HB slice false v u=operate [v,u] (HQ v u)->lm (sn X.prog X.w) X.A (Iu value slice v u) (EP X pins σ Q) X.xe s
def MtR (X:Cx)(id:String)(r:V->List V->Hp->VK->Prop):Prop :=
 ∀(pins:List (Addr×Obj)) (s:ca) (σ:St) (H:Hp) (x:V) (xs:List V) (v:bn) (us:List bn) (Q:VK),Inv X pins σ H s->RelV x v->Vals xs us->r x xs H Q ->
  lm (sn X.prog X.w) X.A (call (.builtin id) (v::us)) (EP X pins σ Q) X.xe s
section
variable {X:Cx}{a b:Expr}{ta tb:TE}{pos:Pos}
theorem IxR.or {r r':R2}(h:IxR X r)(h':IxR X r'):IxR X (λx y H Q=>r x y H Q∨r' x y H Q):=by
 intro value slice pins s σ H x y v u Q I rx ry q hs
 rcases q with q | q
 ·exact h value slice pins s σ H x y v u Q I rx ry q hs
 ·exact h' value slice pins s σ H x y v u Q I rx ry q hs
theorem bW {r:R2}(hr:IxR X r)(ha:PE X a ta)(hb:PE X b tb)(hs:zI b):PE X (.Subscript a b pos) (tOp r ta tb):=by
 intro pins s σ H Q I h
 exact JJ (binT ha hb I h λv u s2 x y H2 I2 rx ry q=>hr a b pins s2 σ H2 x y v u Q I2 rx ry q (hs _ _))
def rIxL (K:bi):R2:=λx y H Q=>∃p xs i v,x = .ref p/\y = .int i/\SqL K H p xs/\atI xs i=some v/\Q v H
def rIxT (K:bi):R2:=λx y H Q=>∃p xs i v,x = .ref p/\y = .int i/\SqT K H p xs/\atI xs i=some v/\Q v H
def rIxS:R2:=λx y H Q=>∃z i c,x = .str z/\y = .int i/\z.length<=wT/\atI z.cps.toList i=some c/\Q (.str ⟨#[c]⟩) H
theorem y4:IxR X (rIxL X.K):=by
 intro value slice pins s σ H x y v u Q I rx ry h hs
 obtain⟨p,xs,i,z,rfl,rfl,hq,he,q⟩:=h
 cases rx
 obtain⟨t,rfl⟩:=ry
 obtain⟨its,r,pl,hz⟩:=I.list hq
 obtain⟨j,h1,h2,h3,h4,h5⟩:=qB he
 obtain⟨w,ew,rw'⟩:=r.get h2
 have hl:=r.length
 have hn:=oh
 have fin:EP X pins σ Q w s:=⟨z,H,I,rw',q⟩
 by_cases h0:0<=i
 ·have hj:i.toNat=j:=by
   rw[seqIndex_of h0 h5]at h1
   exact Dc h1
  exact item_listR pl.isList h0 (by omega) (by rw[hj];simpa using ew) fin hs
 ·have hj:(i+(its.toArray.size:Int)).toNat=j:=by
   rw[seqIndex_neg (by omega) h4]at h1
   rw[on,<- hl]
   exact Dc h1
  exact IV (x:=w) pl.isList.typeIs JT.lookup
   (wpAny_getItem_list_neg (Q:=λr s'=>r=w/\EP X pins σ Q r s') pl.isList (by omega) (by rw[on] <;> omega) (by omega) (by rw[hj];simpa using ew) ⟨rfl,fin⟩) hs
theorem AH:IxR X (rIxT X.K):=by
 intro value slice pins s σ H x y v u Q I rx ry h hs
 obtain⟨p,xs,i,z,rfl,rfl,hq,he,q⟩:=h
 cases rx
 obtain⟨t,rfl⟩:=ry
 obtain⟨its,r,pl,hz⟩:=I.tuple hq
 obtain⟨j,h1,h2,h3,h4,h5⟩:=qB he
 obtain⟨w,ew,rw'⟩:=r.get h2
 have hl:=r.length
 have hn:=oh
 have fin:EP X pins σ Q w s:=⟨z,H,I,rw',q⟩
 exact IV (x:=w) pl.typeIs slot_tuple_getitem.lookup
  (getItem_tuple (j:=j) (Q:=λr s'=>r=w/\EP X pins σ Q r s') pl (by omega) (by omega) (by rw[on,<- hl];exact h1) (by simpa using ew) ⟨rfl,fin⟩) hs
theorem AJ:IxR X rIxS:=by
 intro value slice pins s σ H x y v u Q I rx ry h hs
 obtain⟨z,i,c,rfl,rfl,hz,he,q⟩:=h
 obtain⟨t,rfl⟩:=rx
 obtain⟨t',rfl⟩:=ry
 obtain⟨j,h1,h2,h3,h4,h5⟩:=qB he
 have hl:z.cps.toList.length=z.length:=by simp[Str.length]
 rw[hl]at h1 h4 h5
 have hn:=oh
 exact tail_any (typeIs_str s z t) slot_str_getitem.lookup (getItem_str (c:=c) (by
  have e1:decide (i < -(2^63:Int))=false:=decide_eq_false (by omega)
  have e2:decide (i>=2^63)=false:=decide_eq_false (by omega)
  rw[e1,e2,Gf]) (by rw[h1];simpa using h2) ⟨.str ⟨#[c]⟩,H,I.tok _,⟨_,rfl⟩,q⟩) hs
def rIx (K:bi):R2:=λx y H Q=>rIxL K x y H Q∨rIxT K x y H Q∨rIxS x y H Q
theorem AK:IxR X (rIx X.K):=y4.or (AH.or AJ)
theorem nI (lo hi:Option Int)(n:Nat):(E9 lo hi none n).1=((HT.sIx n 0 lo:Nat):Int)/\(E9 lo hi none n).2.1=((HT.sIx n n hi:Nat):Int)/\(E9 lo hi none n).2.2=1:=by
 refine⟨?_,?_,rfl⟩
 ·cases lo with
  | none=>simp[E9,HT.sIx]
  | some i =>
   simp only[E9,HT.sIx,IP,show(1:Int) > 0 by decide,if_true]
   by_cases h:i<0
   ·simp only[h,if_true] <;> omega
   ·simp only[h,if_false] <;> omega
 ·cases hi with
  | none=>simp[E9,HT.sIx]
  | some i =>
   simp only[E9,HT.sIx,IP,show(1:Int) > 0 by decide,if_true]
   by_cases h:i<0
   ·simp only[h,if_true] <;> omega
   ·simp only[h,if_false] <;> omega
theorem mr (its:List bn)(lo hi:Option Int):slicePick its.toArray lo hi none=((its.drop (HT.sIx its.length 0 lo)).take (HT.sIx its.length its.length hi - HT.sIx its.length 0 lo)).toArray:=by
 obtain⟨h1,h2,h3⟩:=nI lo hi its.toArray.size
 unfold slicePick
 rw[h1,h2,h3]
 simp only[sliceRange_one,pick_run,on] <;> rfl
def rSlL (K:bi):V->Option Int->Option Int->Hp->VK->Prop:=λx lo hi H Q=>∃a xs,x = .ref a/\SqL K H a xs/\∀p,H p=none->Q (.ref p) (upd H p (.lst (cutV xs lo hi)))
theorem yo:SlR X (rSlL X.K):=by
 intro pins s σ H x v vl vu lo hi sl Q I rx hs pl pu h
 obtain⟨a,xs,rfl,hx,q⟩:=h
 cases rx
 obtain⟨its,r,ht,hz⟩:=I.list hx
 have hlen:=r.length
 refine⟨"list",_,JT.lookup,ht.isList.typeIs,?_⟩
 refine wpAny_getItem_list_slice ht.isList hs pl pu .none (by simp) ?_ (by rw[on] <;> omega)
 rw[mr,<- hlen]
 refine⟨.ref s.heap.objs.size,_,I.laid (t':=s.toks) (o:=.lst (cutV xs lo hi)) (λb ob q=>db _ q) (li _) ?_,rfl,q _ (I.hok.fresh (li _))⟩
 exact⟨xL (qt xs lo hi) hz,_,0,(r.drop (HT.sIx xs.length 0 lo)).take (HT.sIx xs.length xs.length hi - HT.sIx xs.length 0 lo),ww _ rfl⟩
def jJ:V->Bool
 | .non=>true
 | .bl _=>true
 | .int _=>true
 | .str _=>true
 | _=>false
def eqV:V->V->Bool
 | .non,.non=>true
 | .bl a,.bl b=>a==b
 | .bl a,.int b=>(if a then 1 else 0)==b
 | .int a,.bl b=>a==(if b then 1 else 0)
 | .int a,.int b=>a==b
 | .str a,.str b=>a==b
 | _,_=>false
theorem A2 {A:Ca}{s:ca}{y x:V}{u v:bn}(ry:RelV y u)(rx:RelV x v)(fy:jJ y=true)(fx:jJ x=true):Fb A s u v (eqV y x):=by
 cases y with
 | non =>
  cases ry
  cases x with
  | non=>cases rx;exact SeqAt.EqAt.same _
  | bl b=>cases rx;exact SeqAt.EqAt.none_bool b
  | int b=>obtain⟨t,rfl⟩:=rx;exact SeqAt.EqAt.none_int b t
  | str b=>obtain⟨t,rfl⟩:=rx;exact SeqAt.EqAt.none_str b t
  | _=>exact absurd (show false=true from fx) B4
 | bl a =>
  cases ry
  cases x with
  | non=>cases rx;exact SeqAt.EqAt.bool_none a
  | bl b=>cases rx;exact SeqAt.EqAt.bool_bool a b
  | int b=>obtain⟨t,rfl⟩:=rx;exact SeqAt.EqAt.bool_int a b t
  | str b=>obtain⟨t,rfl⟩:=rx;exact SeqAt.EqAt.bool_str a b t
  | _=>exact absurd (show false=true from fx) B4
 | int a =>
  obtain⟨t',rfl⟩:=ry
  cases x with
  | non=>cases rx;exact SeqAt.EqAt.int_none a t'
  | bl b=>cases rx;exact SeqAt.EqAt.int_bool a t' b
  | int b=>obtain⟨t,rfl⟩:=rx;exact SeqAt.EqAt.int_int a t' b t
  | str b=>obtain⟨t,rfl⟩:=rx;exact HD a t' b t
  | _=>exact absurd (show false=true from fx) B4
 | str a =>
  obtain⟨t',rfl⟩:=ry
  cases x with
  | non=>cases rx;exact SeqAt.EqAt.str_none a t'
  | bl b=>cases rx;exact SeqAt.EqAt.str_bool a t' b
  | int b=>obtain⟨t,rfl⟩:=rx;exact HC a t' b t
  | str b=>obtain⟨t,rfl⟩:=rx;exact SeqAt.EqAt.str_str a t' b t
  | _=>exact absurd (show false=true from fx) B4
 | _=>exact absurd (show false=true from fy) B4
def eqU (x:V)(u:bn):Bool:=match u with
 | .none=>eqV .non x
 | .bool b=>eqV (.bl b) x
 | .int i _=>eqV (.int i) x
 | .str z _=>eqV (.str z) x
 | _=>false
theorem vh {x y:V}{u:bn}(r:RelV y u)(f:jJ y=true):eqU x u=eqV y x:=by
 cases y with
 | non=>cases r;rfl
 | bl b=>cases r;rfl
 | int i=>obtain⟨t,rfl⟩:=r;rfl
 | str z=>obtain⟨t,rfl⟩:=r;rfl
 | _=>exact absurd (show false=true from f) B4
theorem kW {x:V}:∀ {xs:List V} {us:List bn},Vals xs us->xs.all jJ=true->us.any (eqU x)=xs.any λy=>eqV y x
 | _,_,.nil,_=>rfl
 | y::xs,u::us,.cons r t,f=>by
  rw[Fs,BP]at f
  rw[Dt,Dt,vh r f.1,kW t f.2]
theorem g6 {A:Ca}{s:ca}{x:V}{v:bn}(rx:RelV x v)(fx:jJ x=true):∀ {xs:List V} {us:List bn},Vals xs us->xs.all jJ=true->∀u∈us,Fb A s u v (eqU x u)
 | _,_,.nil,_=>λu hu=>by cases hu
 | y::xs,u::us,.cons r t,f=>λu' hu=>by
  rw[Fs,BP]at f
  rcases sB.mp hu with rfl | hu
  ·rw[vh r f.1];exact A2 r rx f.1 fx
  ·exact g6 rx fx t f.2 u' hu
def inV (x:V)(xs:List V):Bool:=xs.any λy=>eqV y x
def rIn (K:bi)(neg:Bool):R2:=λx y H Q=>∃p xs,y = .ref p/\(SqL K H p xs∨SqT K H p xs)/\jJ x=true/\xs.all jJ=true/\Q (.bl (if neg then !inV x xs else inV x xs)) H
theorem ur:OpR X (Do .In) (rIn X.K false):=by
 intro pins s σ H x y v u Q I rx ry h
 obtain⟨p,xs,rfl,hq,fx,fs,q⟩:=h
 cases ry
 rcases hq with hq | hq
 ·obtain⟨its,r,pl,hz⟩:=I.list hq
  refine SeqAt.in_listAt (eqU x) pl.isList (λw hw=>g6 rx fx r fs w (by simpa using hw)) ⟨.bl _,H,I,rfl,?_⟩
  rw[show its.toArray.any (eqU x)=its.any (eqU x)by simp,kW r fs]
  exact q
 ·obtain⟨its,r,pl,hz⟩:=I.tuple hq
  refine SeqAt.in_tupleAt (eqU x) pl (λw hw=>g6 rx fx r fs w (by simpa using hw)) ⟨.bl _,H,I,rfl,?_⟩
  rw[show its.toArray.any (eqU x)=its.any (eqU x)by simp,kW r fs]
  exact q
theorem nQ:OpR X (Do .NotIn) (rIn X.K true):=by
 intro pins s σ H x y v u Q I rx ry h
 obtain⟨p,xs,rfl,hq,fx,fs,q⟩:=h
 cases ry
 rcases hq with hq | hq
 ·obtain⟨its,r,pl,hz⟩:=I.list hq
  refine SeqAt.notIn_listAt (eqU x) pl.isList (λw hw=>g6 rx fx r fs w (by simpa using hw)) ⟨.bl _,H,I,rfl,?_⟩
  rw[show its.toArray.any (eqU x)=its.any (eqU x)by simp,kW r fs]
  exact q
 ·obtain⟨its,r,pl,hz⟩:=I.tuple hq
  refine SeqAt.notIn_tupleAt (eqU x) pl (λw hw=>g6 rx fx r fs w (by simpa using hw)) ⟨.bl _,H,I,rfl,?_⟩
  rw[show its.toArray.any (eqU x)=its.any (eqU x)by simp,kW r fs]
  exact q
theorem oS:iq X (.builtin "len") (λxs H Q=>∃p ys,xs=[.ref p]/\(SqL X.K H p ys∨SqT X.K H p ys)/\Q (.int ys.length) H):=by
 intro pins s σ H xs us Q I r h
 obtain⟨p,ys,rfl,hq,q⟩:=h
 obtain⟨u,rfl,rx⟩:=jY r
 cases rx
 have hn:=oh
 rcases hq with hq | hq
 ·obtain⟨its,r',pl,hz⟩:=I.list hq
  have hlen:=r'.length
  exact Calls.call_len_list pl.isList (by simp only[on] <;> omega) ⟨.int ys.length,H,I.tok _,⟨s.toks+1,by rw[on,hlen]⟩,q⟩
 ·obtain⟨its,r',pl,hz⟩:=I.tuple hq
  have hlen:=r'.length
  exact len_tuple pl (by simp only[on] <;> omega) ⟨.int ys.length,H,I.tok _,⟨s.toks+1,by rw[on,hlen]⟩,q⟩
theorem oR:iq X (.type "list") (λxs H Q=>∃p ys,xs=[.ref p]/\(SqL X.K H p ys∨SqT X.K H p ys)/\∀l,H l=none->Q (.ref l) (upd H l (.lst ys))):=by
 intro pins s σ H xs us Q I r h
 obtain⟨p,ys,rfl,hq,q⟩:=h
 obtain⟨u,rfl,rx⟩:=jY r
 cases rx
 have fin:∀(its:List bn),Vals ys its->ys.length<=wT->∀(h':Heap) (c':Nat),(∀b o',s.heap.get? b=some o'->h'.get? b=some o') ->
   h'.get? s.heap.objs.size=some {cls:=.type "list",dict:=none,data:=.seq its.toArray c',slots:=#[]}->EP X pins σ Q (.ref s.heap.objs.size) {s with heap:=h'}:=λits r' hz h' c' kp e =>
  ⟨.ref s.heap.objs.size,_,I.laid (t':=s.toks) kp (li _) (show cK X.prog X.w _ h' _ (.lst ys)from⟨hz,its,c',r',e⟩),rfl,q _ (I.hok.fresh (li _))⟩
 rcases hq with hq | hq
 ·obtain⟨its,r',pl,hz⟩:=I.list hq
  have hlen:=r'.length
  obtain⟨o,ho,hc,n,hd⟩:=pl.isList
  exact call_list_seq p (.inl rfl) ho hc hd (λh' c' kp e=>fin its r' hz h' c' kp e) (by simp only[on] <;> omega)
 ·obtain⟨its,r',pl,hz⟩:=I.tuple hq
  have hlen:=r'.length
  obtain⟨o,ho,hc,n,hd⟩:=pl
  exact call_list_seq p (.inr rfl) ho hc hd (λh' c' kp e=>fin its r' hz h' c' kp e) (by simp only[on] <;> omega)
theorem ng:iq X (.type "tuple") (λxs H Q=>∃p ys,xs=[.ref p]/\((SqL X.K H p ys/\∀l,H l=none->Q (.ref l) (upd H l (.tup ys)))∨(SqT X.K H p ys/\Q (.ref p) H))):=by
 intro pins s σ H xs us Q I r h
 obtain⟨p,ys,rfl,h⟩:=h
 obtain⟨u,rfl,rx⟩:=jY r
 cases rx
 rcases h with⟨hq,q⟩ | ⟨hq,q⟩
 ·obtain⟨its,r',pl,hz⟩:=I.list hq
  have hlen:=r'.length
  refine call_tuple_list pl.isList (λh' kp=>?_) (by simp only[on] <;> omega)
  have I1:Inv X pins σ H {s with heap:=h'}:=I.kept (t':=s.toks) kp
  have I2:Inv X pins σ (upd H h'.objs.size (.tup ys)) {s with heap:=h'.push {cls:=.type "tuple",data:=.seq its.toArray}} :=
   I1.laid (t':=s.toks) (λb o e=>db _ e) (li _) (show cK X.prog X.w _ _ _ (.tup ys)from⟨hz,its,r',IsTup.new _ _⟩)
  exact⟨.ref h'.objs.size,_,I2,rfl,q _ (I1.hok.fresh (li _))⟩
 ·obtain⟨its,r',pl,hz⟩:=I.tuple hq
  exact call_tuple_same pl ⟨.ref p,H,I,rfl,q⟩
def tyV (K:bi)(T:String)(x:V)(H:Hp):Prop:=match x with
 | .str _=>T = "str"
 | .int _=>T = "int"
 | .ref p=>(T = "list" /\ ∃xs,SqL K H p xs)∨(T = "tuple" /\ ∃o,K.lookup p=some o/\o.cls = .type "tuple" /\ o.dict=none) ∨
   (T = "dict" /\ ((∃kvs,H p=some (.dK kvs)) ∨ ∃kvs,H p=some (.dT kvs)))∨(T = "set" /\ ∃S n,H p=some (.set S n))
 | _=>False
theorem zN {pins:List (Addr×Obj)}{σ:St}{H:Hp}{s:ca}{T:String}{x:V}{v:bn}(I:Inv X pins σ H s)(r:RelV x v)(ty:tyV X.K T x H) :
  s.TypeIs v T/\∀a,v = .ref a->∃ob,s.heap.get? a=some ob/\ob.dict=none:=by
 cases x with
 | str z =>
  obtain⟨t,rfl⟩:=r
  cases (show T = "str" from ty)
  exact⟨typeIs_str s z t,λ_ e=>nomatch e⟩
 | int i =>
  obtain⟨t,rfl⟩:=r
  cases (show T = "int" from ty)
  exact⟨typeIs_int s i t,λ_ e=>nomatch e⟩
 | ref p =>
  cases r
  rcases ty with⟨rfl,xs,hq⟩ | ⟨rfl,o,hk,hc,hd⟩ | ⟨rfl,hk⟩ | ⟨rfl,S,n,hk⟩
  ·obtain⟨its,_,pl,_⟩:=I.list hq
   refine⟨pl.isList.typeIs,λa e=>?_⟩
   cases e
   obtain⟨o,n,e,c,hd,_⟩:=pl
   exact⟨o,e,hd⟩
  ·refine⟨⟨o,I.kIn p o hk,hc⟩,λa e=>?_⟩
   cases e
   exact⟨o,I.kIn _ o hk,hd⟩
  ·have z:∃o,s.heap.get? p=some o/\o.ExactDict:=by
    rcases hk with⟨kvs,hk⟩ | ⟨kvs,hk⟩
    ·obtain⟨_,_,_,_,o,_,_,e,ex,_⟩:=I.hok p _ hk
     exact⟨o,e,ex⟩
    ·obtain⟨_,_,_,_,o,_,_,e,ex,_⟩:=I.hok p _ hk
     exact⟨o,e,ex⟩
   obtain⟨o,e,ex⟩:=z
   refine⟨⟨o,e,ex.1⟩,λa e2=>?_⟩
   cases e2
   exact⟨o,e,ex.2.1⟩
  ·obtain⟨o,_,_,_,e,ex,_⟩:=I.hok p _ hk
   refine⟨⟨o,e,ex.1⟩,λa e2=>?_⟩
   cases e2
   exact⟨o,e,ex.2.1⟩
 | _=>exact DI ty
def tBM (K:bi)(T:String)(r:V->List V->Hp->VK->Prop)(to:TE)(t:TA):TE:=λσ H Q=>to σ H λx H1=>tyV K T x H1/\t σ H1 λxs H2=>r x xs H2 Q
variable {o e:Expr}{es:List Expr}{to:TE}{t:TA}{name:Str}{apos cpos:Pos}{T id:String}{r:V->List V->Hp->VK->Prop}
theorem Bo (pa:PlainAttrs T)(slot:Slot T name id)(hty:typeOf (.builtin id)=pure (.type "method_descriptor"))(hm:MtR X id r)(ho:PE X o to)(ha:PA X (e::es) t)
  (hbase:FK o name X.env (eval o X.env)=eval o X.env:=by rfl)
  (hfew:((D6 cpos (B1 (e::es) X.env)).all (λx=>!x.1)&&(Gp cpos (E_ [] X.env)).all (λx=>x.1.isSome)
   && decide ((e::es).length+([]:List HR).length+(if([]:List HR).isEmpty then 0 else 1)<30))=true:=by rfl)
  (hline:(apos.endLine==cpos.line)=true:=by rfl) (hs:B1 (e::es) X.env=(false,eval e X.env)::B1 es X.env:=by rfl) (hplain:(D6 cpos (B1 es X.env)).any (·.1)=false:=by rfl) :
  PE X (.Call (.Attribute o name apos) (e::es) [] cpos) (tBM X.K T r to t):=by
 intro pins s σ H Q I h
 refine wpAny_Call_method_late hbase hfew hline rfl (thn (ho pins s σ H _ I h) λv s1 ⟨x,H1,I1,r1,ty,q1⟩=>?_)
 obtain⟨h1,h2⟩:=zN I1 r1 ty
 refine⟨T,id,pa,slot,hty,h1,h2,?_⟩
 have hA:=ha cpos pins s1 σ H1 _ I1 q1
 rw[hs]at hA ⊢
 refine HN (by show(false||(D6 cpos (B1 es X.env)).any (·.1))=false;rw[hplain] <;> rfl) (Ik ?_)
 exact thn hA λus s2 ⟨vs,H2,I2,r2,q2⟩=>hm pins s2 σ H2 x vs v us Q I2 r1 r2 q2
end
def MtM (X:Cx)(id:String)(r:V->List V->Hp->VK->Prop):Prop :=
 ∀(pins:List (Addr×Obj)) (s:ca) (σ:St) (H:Hp) (x:V) (xs:List V) (v:bn) (us:List bn) (Q:VK),Inv X pins σ H s->RelV x v->Vals xs us->r x xs H Q ->
  lm (sn X.prog X.w) X.A (call (.builtin id) (v::us)) (EP X pins σ Q) X.xe s
theorem Vals.one:∀ {x:V} {us:List bn},Vals [x] us->∃u,us=[u]/\RelV x u
 | _,_,.cons r .nil=>⟨_,rfl,r⟩
section
variable {X:Cx}{pins:List (Addr×Obj)}{σ:St}{H:Hp}{s:ca}{l b:Addr}{xs ys zs:List V}
theorem Inv.lset {its its':List bn}{n:Nat}{f:Array bn->Array bn}{t':Nat}(I:Inv X pins σ H s)(hH:H l=some (.lst xs))
  (e:s.heap.get? l=some {cls:=.type "list",data:=.seq its.toArray n}) (hf:f its.toArray=its'.toArray) (hv:Vals ys its') (hz:ys.length<=wT) :
  Inv X pins σ (upd H l (.lst ys)) {s with heap:=s.heap.update l (C1 f),toks:=t'}:=by
 have q:=Gd e f
 rw[hf]at q
 refine I.write (x:=l) (e:=l) (by rw[hH];exact trivial) (.inl rfl) (λb' u hb hu=>(CN s.heap (C1 f) (Dk hb)).trans hu) ⟨_,q⟩ ?_
 exact⟨hz,its',_,hv,q⟩
theorem Inv.lstM (I:Inv X pins σ H s)(hH:H l=some (.lst xs)):xs.length<=wT/\∃(its:List bn) (n:Nat),Vals xs its/\xs.length=its.length/\s.heap.get? l=some {cls:=.type "list",data:=.seq its.toArray n}:=by
 obtain⟨z,its,n,r,e⟩:=I.hok l _ hH
 exact⟨z,its,n,r,r.length,e⟩
end
section
variable {X:Cx}
def rAppend:V->List V->Hp->VK->Prop:=λx vs H Q=>∃l xs y,x = .ref l/\vs=[y]/\H l=some (.lst xs)/\xs.length<wT/\Q .non (upd H l (.lst (xs++[y])))
theorem cP:MtM X "list.append" rAppend:=by
 intro pins s σ H x vs v us Q I rx rv h
 obtain⟨l,xs,y,rfl,rfl,hH,hz,q⟩:=h
 cases rx
 obtain⟨u,rfl,ru⟩:=rv.one
 obtain⟨z,its,n,r,hl,e⟩:=I.lstM hH
 refine GZ Cw ⟨_,e,rfl⟩ Gv (Ge _ _) (Gq l its.toArray n u (by rw[on];omega)) ⟨e,?_⟩
 refine⟨.non,_,I.lset (its':=its++[u]) hH e (by simp) (r.append (.cons ru .nil)) ?_,rfl,q⟩
 rw[wS,Dp]
 omega
end
section
variable {κ:Type} [DecidableEq κ]
def valV (kvs:List (κ×V))(k:κ):Option V:=(kvs.find? λkv=>decide (kv.1=k)).map (·.2)
def putK (kvs:List (κ×V))(k:κ)(v:V):List (κ×V) :=
 if(kvs.any λkv=>decide (kv.1=k))=true then kvs.map (λkv=>if kv.1=k then(kv.1,v)else kv)else kvs++[(k,v)]
theorem jL {p:κ×V}{r:List (κ×V)}{k:κ}(e:p.1=k):valV (p::r) k=some p.2:=by simp[valV,CJ,e]
theorem jM {p:κ×V}{r:List (κ×V)}{k:κ}(e:¬p.1=k):valV (p::r) k=valV r k:=by simp[valV,CJ,e]
theorem qL (k:κ):∀kvs:List (κ×V),(kvs.any λkv=>decide (kv.1=k))=(valV kvs k).isSome
 | []=>rfl
 | p::r=>by
  rw[Dt]
  by_cases e:p.1=k
  ·simp only[jL e,decide_eq_true e,Bool.true_or,Option.isSome_some]
  ·rw[jM e,decide_eq_false e,JN];exact qL k r
theorem fN (kvs:List (κ×V))(k:κ)(v:V):(putK kvs k v).length<=kvs.length+1:=by
 unfold putK
 split
 ·rw[f8];omega
 ·rw[wS,At,Jo];omega
theorem RelO.isSome_eq {o:Option V}{u:Option bn}(r:RelO o u):o.isSome=u.isSome:=by
 cases o with
 | none=>cases u with
  | none=>rfl
  | some _=>exact(show False from r).elim
 | some _=>cases u with
  | none=>exact(show False from r).elim
  | some _=>rfl
theorem KV.val {kvs:List (κ×V)}{vs:List (κ×bn)}(r:KV kvs vs)(k:κ):RelO (valV kvs k) (Ew vs k):=by
 unfold KV at r
 induction r with
 | nil=>exact True.intro
 | @cons p q ps qs h t ih =>
  obtain⟨h1,h2⟩:=h
  by_cases e:p.1=k
  ·have e':q.1=k:=h1.symm.trans e
   have b:Ew (q::qs) k=some q.2:=by simp[Ew,CJ,e']
   rw[jL e,b];exact h2
  ·have e':¬q.1=k:=λz=>e (h1.trans z)
   have b:Ew (q::qs) k=Ew qs k:=by simp[Ew,CJ,e']
   rw[jM e,b];exact ih
theorem KV.any {kvs:List (κ×V)}{vs:List (κ×bn)}(r:KV kvs vs)(k:κ):(kvs.any λkv=>decide (kv.1=k))=vs.any λkv=>decide (kv.1=k):=by
 unfold KV at r
 induction r with
 | nil=>rfl
 | cons h t ih=>rw[Dt,Dt,ih,h.1]
theorem KV.repl {kvs:List (κ×V)}{vs:List (κ×bn)}(r:KV kvs vs)(k:κ){y:V}{u:bn}(ry:RelV y u) :
  KV (kvs.map λkv=>if kv.1=k then(kv.1,y)else kv) (vs.map λkv=>if kv.1=k then(kv.1,u)else kv):=by
 unfold KV at r ⊢
 induction r with
 | nil=>exact .nil
 | @cons p q ps qs h t ih =>
  rw[wl,wl]
  refine .cons ?_ ih
  obtain⟨h1,h2⟩:=h
  by_cases e:p.1=k
  ·rw[if_pos e,if_pos (h1.symm.trans e)];exact⟨h1,ry⟩
  ·rw[if_neg e,if_neg (λz=>e (h1.trans z))];exact⟨h1,h2⟩
theorem KV.put {kvs:List (κ×V)}{vs:List (κ×bn)}(r:KV kvs vs)(k:κ){y:V}{u:bn}(ry:RelV y u):KV (putK kvs k y) (Ht vs k u):=by
 unfold putK Ht
 rw[r.any k]
 by_cases e:(vs.any λkv=>decide (kv.1=k))=true
 ·rw[if_pos e,if_pos e];exact r.repl k ry
 ·rw[if_neg e,if_neg e];exact JK r ⟨rfl,ry⟩
theorem KV.length {kvs:List (κ×V)}{vs:List (κ×bn)}(r:KV kvs vs):kvs.length=vs.length:=F1 r
end
theorem oo {P:wE}{w:B2}{k:Key}{u:bn}(r:RelV (kV k) u):(bG P w).is k u=true:=by
 cases k with
 | inl i=>obtain⟨t,e⟩:=(show ∃t,u=Value.int i t from r);subst e;exact qd P w i t
 | inr x=>obtain⟨t,e⟩:=(show ∃t,u=Value.str x t from r);subst e;exact qc P w x t
theorem ot {P:wE}{w:B2}:∀ {ks:List Key} {us:List bn},Vals (ks.map kV) us->ItemsAre (bG P w) ks us
 | [],_,r=>by rw[Dh]at r;cases r;exact .nil
 | k::ks,_,r=>by
  rw[wl]at r
  cases r with
  | cons h t=>exact .cons (oo h) (ot t)
abbrev KT (H:Hp):List (List Key×V)->List (List Key×Addr×bn)->Prop:=Ie λp q=>p.1=q.1/\H q.2.1=some (.tup (p.1.map kV))/\RelV p.2 q.2.2
theorem KT.val {H:Hp}{kvs:List (List Key×V)}{xs:List (List Key×Addr×bn)}(r:KT H kvs xs)(k:List Key):RelO (valV kvs k) ((Ib xs k).map (·.2)):=by
 induction r with
 | nil=>exact True.intro
 | @cons p q ps qs h t ih =>
  obtain⟨h1,_,h2⟩:=h
  by_cases e:p.1=k
  ·have e':q.1=k:=h1.symm.trans e
   have b:Ib (q::qs) k=some q.2:=by simp[Ib,CJ,e']
   rw[jL e,b];exact h2
  ·have e':¬q.1=k:=λz=>e (h1.trans z)
   have b:Ib (q::qs) k=Ib qs k:=by simp[Ib,CJ,e']
   rw[jM e,b];exact ih
theorem KT.repl {H:Hp}{kvs:List (List Key×V)}{xs:List (List Key×Addr×bn)}(r:KT H kvs xs)(k:List Key){y:V}{u:bn}(ry:RelV y u) :
  KT H (kvs.map λkv=>if kv.1=k then(kv.1,y)else kv) (xs.map (putAt k u)):=by
 induction r with
 | nil=>exact .nil
 | @cons p q ps qs h t ih =>
  rw[wl,wl]
  refine .cons ?_ ih
  obtain⟨h1,h2,h3⟩:=h
  unfold putAt
  by_cases e:p.1=k
  ·rw[if_pos e,if_pos (h1.symm.trans e)];exact⟨h1,h2,ry⟩
  ·rw[if_neg e,if_neg (λz=>e (h1.trans z))];exact⟨h1,h2,h3⟩
theorem KT.put {H:Hp}{kvs:List (List Key×V)}{xs:List (List Key×Addr×bn)}(r:KT H kvs xs)(k:List Key){b:Addr}{y:V}{u:bn}(hb:H b=some (.tup (k.map kV)))(ry:RelV y u) :
  KT H (putK kvs k y) (storedH xs k b u):=by
 have e:(kvs.any λkv=>decide (kv.1=k))=(Ib xs k).isSome:=by
  rw[qL,(r.val k).isSome_eq,Gg]
 unfold putK storedH
 rw[e]
 by_cases q:(Ib xs k).isSome=true
 ·rw[if_pos q,if_pos q];exact r.repl k ry
 ·rw[if_neg q,if_neg q];exact JK r ⟨rfl,hb,ry⟩
theorem KT.keeps {H H':Hp}{kvs:List (List Key×V)}{xs:List (List Key×Addr×bn)}(r:KT H kvs xs)(ht:∀b ys,H b=some (.tup ys)->H' b=some (.tup ys)):KT H' kvs xs :=
 Paired.mapP r λ_ _ z=>⟨z.1,ht _ _ z.2.1,z.2.2⟩
section
variable {P:wE}{w:B2}{H:Hp}{h:Heap}{a:Addr}
theorem z7 {u:HO}(ok:HOk P w H h)(e:Rd H a u):cK P w H h a u:=e.ok ok
theorem sR {kvs:List (Key×V)}(ok:HOk P w H h)(e:Rd H a (.dK kvs)):kvs.length<=wT/\(a==D0)=false/\∃vs,KV kvs vs/\h.DictOf (bG P w) a vs :=
 show cK P w H h a (.dK kvs)from z7 ok e
theorem xj {kvs:List (Key×V)}(ok:HOk P w H h)(e:H a=some (.dK kvs)):kvs.length<=wT/\(a==D0)=false/\∃vs,KV kvs vs/\h.DictOf (bG P w) a vs:=sR ok (.inl e)
theorem om {ks:List Key}(ok:HOk P w H h)(e:H a=some (.tup (ks.map kV))):(Hs (bG P w)).is h ks a:=by
 obtain⟨_,its,r,o,h1,h2,n,h3⟩:=(show cK P w H h a (.tup (ks.map kV))from ok a _ e)
 exact⟨o,its.toArray,n,h1,h2,h3,by simpa using ot r⟩
theorem sQ {kvs:List (List Key×V)}(ok:HOk P w H h)(e:Rd H a (.dT kvs)):kvs.length<=wT/\(a==D0)=false /\
  ∃xs,KT H kvs xs/\h.DictOfH (Hs (bG P w)) a xs:=by
 obtain⟨z,y,xs,r,o,es,ep,h1,h2,h3,h4,h5⟩:=(show cK P w H h a (.dT kvs)from z7 ok e)
 refine⟨z,y,xs,r,o,es,ep,h1,h2,h3,h4,λx hx=>?_,h5⟩
 have all:∀ {l:List (List Key×V)} {m:List (List Key×Addr×bn)},KT H l m->∀x∈m,(Hs (bG P w)).is h x.1 x.2.1:=by
  intro l m q
  induction q with
  | nil=>intro x hx;exact nomatch hx
  | @cons p q ps qs hq t ih =>
   intro x hx
   rcases sB.mp hx with e | hx
   ·subst e
    exact om ok (by rw[<- hq.1];exact hq.2.1)
   ·exact ih x hx
 exact all r x hx
theorem Bv {kvs:List (List Key×V)}(ok:HOk P w H h)(e:H a=some (.dT kvs)):kvs.length<=wT/\(a==D0)=false /\
  ∃xs,KT H kvs xs/\h.DictOfH (Hs (bG P w)) a xs:=sQ ok (.inl e)
end
def DGet (H:Hp)(a:Addr)(y:V)(r:Option V):Prop :=
 (∃kvs k,Rd H a (.dK kvs)/\y=kV k/\r=valV kvs k) ∨ ∃kvs k b,Rd H a (.dT kvs)/\y = .ref b/\H b=some (.tup (k.map kV))/\r=valV kvs k
def DPut (H:Hp)(a:Addr)(y v:V)(H':Hp):Prop :=
 (∃kvs k,H a=some (.dK kvs)/\y=kV k/\kvs.length<wT/\H'=upd H a (.dK (putK kvs k v))) ∨
 ∃kvs k b,H a=some (.dT kvs)/\y = .ref b/\H b=some (.tup (k.map kV))/\kvs.length<wT/\H'=upd H a (.dT (putK kvs k v))
theorem DGet.k {H:Hp}{a:Addr}{kvs:List (Key×V)}{k:Key}(e:H a=some (.dK kvs)):DGet H a (kV k) (valV kvs k):=.inl ⟨kvs,k,.inl e,rfl,rfl⟩
theorem DPut.k {H:Hp}{a:Addr}{kvs:List (Key×V)}{k:Key}{v:V}(e:H a=some (.dK kvs))(hl:kvs.length<wT):DPut H a (kV k) v (upd H a (.dK (putK kvs k v))):=.inl ⟨kvs,k,e,rfl,hl,rfl⟩
section
variable {X:Cx}{pins:List (Addr×Obj)}{σ:St}{H:Hp}{s:ca}{a:Addr}{y v:V}{u r:bn}{o:Option V}{A:Ca}{E:bn->ca->Prop}
theorem Inv.big (I:Inv X pins σ H s):D0<s.heap.objs.size:=by
 have h:BZ<s.heap.objs.size:=(I.mod.glob.keeps I.bk).lt
 exact DE (by decide) h
theorem vm {Q:bn->ca->Prop}(hu:A.units+1<EI)(I:Inv X pins σ H s)(g:DGet H a y (some v))(ry:RelV y u)(h:∀w' s',Inv X pins σ H s'->RelV v w'->Q w' s') :
  lm (sn X.prog X.w) A (HQ (.ref a) u) Q E s:=by
 rcases g with⟨kvs,k,e,ey,l⟩ | ⟨kvs,k,b,e,ey,eb,l⟩
 ·subst ey
  obtain⟨z,hd,vs,rel,dd⟩:=sR I.hok e
  obtain⟨w',hw,rw'⟩:=RelO.some_of (v:=v) (o:=Ew vs k) (by rw[l];exact rel.val k)
  exact wpAny_getItem_of (oo ry) dd.mapOf hw (h w' _ (I.tok _) rw')
 ·subst ey
  cases (show u=Value.ref b from ry)
  obtain⟨z,hd,xs,rel,dd⟩:=sQ I.hok e
  obtain⟨w',hw,rw'⟩:=RelO.some_of (v:=v) (o:=(Ib xs k).map (·.2)) (by rw[l];exact rel.val k)
  obtain⟨p,hp,hp2⟩:=BR.mp hw
  refine wpAny_getItem_heap (Fv hu) (om I.hok eb) dd hp ?_
  rw[hp2]
  exact h w' _ (I.tok _) rw'
theorem d_in {Q:bn->ca->Prop}(hu:A.units+1<EI)(I:Inv X pins σ H s)(g:DGet H a y o)(ry:RelV y u)(h:∀s',Inv X pins σ H s'->Q (.bool o.isSome) s') :
  lm (sn X.prog X.w) A (Do .In u (.ref a)) Q E s:=by
 rcases g with⟨kvs,k,e,ey,l⟩ | ⟨kvs,k,b,e,ey,eb,l⟩
 ·subst ey
  obtain⟨z,hd,vs,rel,dd⟩:=sR I.hok e
  refine wpAny_in_of (oo ry) hd dd.mapOf ?_
  rw[<- (rel.val k).isSome_eq,<- l]
  exact h _ (I.tok _)
 ·subst ey
  cases (show u=Value.ref b from ry)
  obtain⟨z,hd,xs,rel,dd⟩:=sQ I.hok e
  refine wpAny_in_heap (Fv hu) (om I.hok eb) hd dd ?_
  have q:=(rel.val k).isSome_eq
  rw[Gg]at q
  rw[<- q,<- l]
  exact h _ (I.tok _)
theorem zr {Q:bn->ca->Prop}(hu:A.units+1<EI)(I:Inv X pins σ H s)(g:DGet H a y o)(ry:RelV y u)(h:∀s',Inv X pins σ H s'->Q (.bool (!o.isSome)) s') :
  lm (sn X.prog X.w) A (Do .NotIn u (.ref a)) Q E s:=by
 rcases g with⟨kvs,k,e,ey,l⟩ | ⟨kvs,k,b,e,ey,eb,l⟩
 ·subst ey
  obtain⟨z,hd,vs,rel,dd⟩:=sR I.hok e
  refine wpAny_notIn_of (oo ry) hd dd.mapOf ?_
  rw[<- (rel.val k).isSome_eq,<- l]
  exact h _ (I.tok _)
 ·subst ey
  cases (show u=Value.ref b from ry)
  obtain⟨z,hd,xs,rel,dd⟩:=sQ I.hok e
  refine wpAny_notIn_heap (Fv hu) (om I.hok eb) hd dd ?_
  have q:=(rel.val k).isSome_eq
  rw[Gg]at q
  rw[<- q,<- l]
  exact h _ (I.tok _)
theorem m8 {h':Heap}{t':Nat}{ob:HO}(I:Inv X pins σ H s)(mu:Mut (H a))(hs:Cq a s.heap h')(he:∃q,h'.get? a=some q)(new:cK X.prog X.w (upd H a ob) h' a ob) :
  Inv X pins σ (upd H a ob) {s with heap:=h',toks:=t'} :=
 I.write (x:=a) (e:=a) mu (.inl rfl) (λb q hb z=>(hs.2 b hb).trans z) he new
theorem oJ {P:wE}{w:B2}{H':Hp}{h':Heap}{kvs:List (Key×V)}{vs:List (Key×bn)}(z:kvs.length<=wT)(hd:(a==D0)=false)(rel:KV kvs vs)(dd:h'.DictOf (bG P w) a vs) :
  cK P w H' h' a (.dK kvs):=⟨z,hd,vs,rel,dd⟩
theorem vk {H':Hp}{Q:Unit->ca->Prop}(hu:A.units+1<EI)(I:Inv X pins σ H s)(g:DPut H a y v H')(ry:RelV y u)(rv:RelV v r)(h:∀s',Inv X pins σ H' s'->Q () s') :
  lm (sn X.prog X.w) A (setItem (.ref a) u r) Q E s:=by
 rcases g with⟨kvs,k,e,ey,l,eH⟩ | ⟨kvs,k,b,e,ey,eb,l,eH⟩
 ·subst ey eH
  obtain⟨z,hd,vs,rel,dd⟩:=xj I.hok e
  have hz:vs.length<=wT:=by rw[<- rel.length];exact z
  have hl:(putK kvs k v).length<=wT:=by have:=fN kvs k v;omega
  refine wpAny_setItem_pairs (hsz:=hz) (oo ry) dd λh' dd' hs=>h _ ?_
  have he:∃q,h'.get? a=some q:=let ⟨q,_,_,hq,_⟩:=dd';⟨q,hq⟩
  exact m8 I (by rw[e];exact True.intro) hs he (oJ hl hd (rel.put k rv) dd')
 ·subst ey eH
  cases (show u=Value.ref b from ry)
  obtain⟨z,hd,xs,rel,dd⟩:=Bv I.hok e
  have hz:xs.length<=wT:=by rw[<- F1 rel];exact z
  have hl:(putK kvs k v).length<=wT:=by have:=fN kvs k v;omega
  refine wpAny_setItem_heap (hsz:=hz) (Fv hu) (om I.hok eb) dd λh' dd' hs=>h _ ?_
  obtain⟨q,es,ep,hq,h2,h3,h4,_,h5⟩:=dd'
  refine m8 I (by rw[e];exact True.intro) hs ⟨q,hq⟩ ⟨hl,hd,_,(rel.put k eb rv).keeps λc ys ec=>?_,q,es,ep,hq,h2,h3,h4,h5⟩
  rw[aR (yR ec e (λz=>nomatch z))]
  exact ec
end
def NoSl (i:Expr):Prop:=∀ov iv,HB i false ov iv=operate [ov,iv] (HQ ov iv)
theorem yj {prog:wE}{w:B2}{A:Ca}{E:bn->ca->Prop}{s:ca}{env:Env}{value slice:Expr}{pos:Pos}{T id:String}{Q:bn->ca->Prop}
  (hl:GW (.type T) "__getitem__" = pure (some (.builtin id))) (hs:NoSl slice)
  (h:lm (sn prog w) A (eval value env) (λo s₁=>lm (sn prog w) A (eval slice env) (λi s₂=>s₂.TypeIs o T/\lm (sn prog w) A (HQ o i) Q E s₂) E s₁) E s) :
  lm (sn prog w) A (eval (.Subscript value slice pos) env) Q E s:=by
 refine JJ (Dn h (λo s₁ h₁=>Dn h₁ (λi s₂ h₂=>?_) λ_ _ x=>x) λ_ _ x=>x)
 obtain⟨hT,h₂⟩:=h₂
 unfold Iu
 refine bm ?_
 rw[getitemInPython_of_ne hT.not_modules]
 refine bm (F6 hT hl ?_)
 have fin:lm (sn prog w) A (HB slice false o i) (λr s₃=>lm (sn prog w) A (letTemporaryGo value o r>>=λ_=>pure r) Q E s₃) E s₂:=by
  rw[hs o i]
  exact wpAny_operating (Dn h₂ (λr s₃ h₃=>bm (wpAny_letTemporaryGo (dL h₃))) λ_ _ x=>x)
 first
  | exact dL (bm fin)
  | exact bm (dL (bm fin))
  | exact bm fin
theorem qp {X:Cx}{pins:List (Addr×Obj)}{σ:St}{H:Hp}{s:ca}{a:Addr}{y:V}{o:Option V}(I:Inv X pins σ H s)(g:DGet H a y o):s.TypeIs (.ref a) "dict" := by
 rcases g with⟨kvs,k,e,_,_⟩ | ⟨kvs,k,b,e,_,_,_⟩
 ·obtain⟨_,_,vs,_,dd⟩:=sR I.hok e
  exact dd.typeIs
 ·obtain⟨_,_,xs,_,dd⟩:=sQ I.hok e
  exact dd.typeIs
def Bl (td ty:TE):TE:=λσ H Q=>td σ H λx H1=>ty σ H1 λy H2=>∃a v,x = .ref a/\DGet H2 a y (some v)/\Q v H2
def tDIn (ty td:TE):TE:=λσ H Q=>ty σ H λy H1=>td σ H1 λx H2=>∃a o,x = .ref a/\DGet H2 a y o/\Q (.bl o.isSome) H2
def tT (ty td:TE):TE:=λσ H Q=>ty σ H λy H1=>td σ H1 λx H2=>∃a o,x = .ref a/\DGet H2 a y o/\Q (.bl (!o.isSome)) H2
def z6 (td ty tv:TE):TS:=λD σ H=>tv σ H λv H1=>td σ H1 λx H2=>ty σ H2 λy H3=>∃a H4,x = .ref a/\DPut H3 a y v H4/\D.nx σ H4
section
variable {X:Cx}{o i e value:Expr}{pos pos' tpos:Pos}{td ty tv:TE}
theorem kj (hu:X.A.units+1<EI)(ho:PE X o td)(hi:PE X i ty)(hs:NoSl i):PE X (.Subscript o i pos) (Bl td ty):=by
 intro pins s σ H Q I h
 refine yj PySem.F.slot_dict_getitem.lookup hs (thn (ho pins s σ H _ I h) λu s1 ⟨x,H1,I1,rx,q1⟩=>thn (hi pins s1 σ H1 _ I1 q1) λiv s2 ⟨y,H2,I2,ry,a,v,ex,g,q2⟩=>?_)
 subst ex
 obtain rfl:u=Value.ref a:=rx
 exact⟨qp I2 g,vm hu I2 g ry λw' s3 I3 rw'=>⟨v,H2,I3,rw',q2⟩⟩
theorem xP (hu:X.A.units+1<EI)(hi:PE X i ty)(ho:PE X o td):PC X .In i o (tDIn ty td):=by
 intro pins s σ H Q I h
 refine thn (hi pins s σ H _ I h) λiv s1 ⟨y,H1,I1,ry,q1⟩=>thn (ho pins s1 σ H1 _ I1 q1) λu s2 ⟨x,H2,I2,rx,a,ov,ex,g,q2⟩=>?_
 subst ex
 obtain rfl:u=Value.ref a:=rx
 exact d_in hu I2 g ry λs3 I3=>⟨.bl ov.isSome,H2,I3,rfl,q2⟩
theorem km (hu:X.A.units+1<EI)(hi:PE X i ty)(ho:PE X o td):PC X .NotIn i o (tT ty td):=by
 intro pins s σ H Q I h
 refine thn (hi pins s σ H _ I h) λiv s1 ⟨y,H1,I1,ry,q1⟩=>thn (ho pins s1 σ H1 _ I1 q1) λu s2 ⟨x,H2,I2,rx,a,ov,ex,g,q2⟩=>?_
 subst ex
 obtain rfl:u=Value.ref a:=rx
 exact zr hu I2 g ry λs3 I3=>⟨.bl (!ov.isSome),H2,I3,rfl,q2⟩
theorem ke (hu:X.A.units+1<EI)(ho:PE X o td)(hi:PE X i ty)(hv:PE X value tv)(hs:FP value (some (.Subscript o i pos')) pos.line X.env=pure false) :
  PS X (.Assign [.Subscript o i pos'] value pos) (z6 td ty tv):=by
 intro pins s σ H D I h
 refine wpAny_Assign_Subscript (thn (hv pins s σ H _ I h) λr s1 ⟨v,H1,I1,rv,q1⟩=>thn (ho pins s1 σ H1 _ I1 q1) λu s2 ⟨x,H2,I2,rx,q2⟩=>thn (hi pins s2 σ H2 _ I2 q2) λiv s3 ⟨y,H3,I3,ry,a,H4,ex,g,q3⟩=>?_) hs
 subst ex
 obtain rfl:u=Value.ref a:=rx
 exact vk hu I3 g ry rv λs4 I4=>⟨σ,H4,I4,q3⟩
end
theorem rM {P:wE}{w:B2}{H:Hp}(h:Heap)(hb:D0<h.objs.size):cK P w H (h.push {cls:=.type "dict",data:=.dict #[]}) h.objs.size (.dK []) :=
 ⟨zn _,beq_eq_false_iff_ne.mpr (Dk (wP hb)),[],.nil,HS h⟩
def tDNewK:TE:=λ_ H Q=>∀p,H p=none->Q (.ref p) (upd H p (.dK []))
section
variable {X:Cx}{pos:Pos}
theorem wB:PE X (.Dict [] [] pos) tDNewK:=λpins s σ H Q I h =>
 wpAny_Dict_empty ⟨.ref s.heap.objs.size,_,I.laid (a:=s.heap.objs.size) (o:=.dK []) (t':=s.toks) (λ_ _ q=>db _ q) (li _) (rM s.heap I.big),rfl,h _ (I.hok.fresh (li _))⟩
end
def tR:List (TE×TE)->St->Hp->(List (V×V)->Hp->Prop)->Prop
 | [],_,H,Q=>Q [] H
 | (tk,tv)::r,σ,H,Q=>tk σ H λx H1=>tv σ H1 λy H2=>tR r σ H2 λps H3=>Q ((x,y)::ps) H3
abbrev VV:List (V×V)->List (bn×bn)->Prop:=Ie λp q=>RelV p.1 q.1/\RelV p.2 q.2
def PPs (X:Cx)(pos:Pos)(keys:List (Option Expr))(values:List Expr)(trs:List (TE×TE)):Prop :=
 ∀(pins:List (Addr×Obj)) (s:ca) (σ:St) (H:Hp) (Q:List (V×V)->Hp->Prop),Inv X pins σ H s->tR trs σ H Q ->
  lm (sn X.prog X.w) X.A (evalPairs (pairTrees keys values X.env pos)) (λvs s'=>∃ps H',Inv X pins σ H' s'/\VV ps vs/\Q ps H') X.xe s
theorem ug {X:Cx}{pos:Pos}:PPs X pos [] [] []:=λpins s σ H Q I h=>pairTrees_nil_walk ⟨[],H,I,.nil,h⟩
theorem jQ {X:Cx}{pos:Pos}{k v:Expr}{ks:List (Option Expr)}{vs:List Expr}{tk tv:TE}{trs:List (TE×TE)}(hk:PE X k tk)(hv:PE X v tv)(hr:PPs X pos ks vs trs) :
  PPs X pos (some k::ks) (v::vs) ((tk,tv)::trs):=λpins s σ H Q I h =>
 pairTrees_cons_walk (thn (hk pins s σ H _ I h) λu s1 ⟨x,H1,I1,rx,q1⟩=>thn (hv pins s1 σ H1 _ I1 q1) λw2 s2 ⟨y,H2,I2,ry,q2⟩ =>
  thn (hr pins s2 σ H2 _ I2 q2) λws s3 ⟨ps,H3,I3,rel,q3⟩=>⟨(x,y)::ps,H3,I3,.cons ⟨rx,ry⟩ rel,q3⟩)
def fu (kvs more:List (Key×V)):List (Key×V):=more.foldl (λacc kv=>putK acc kv.1 kv.2) kvs
theorem KV.merge:∀ {more:List (Key×V)} {rs:List (Key×bn)} {kvs:List (Key×V)} {vs:List (Key×bn)},KV more rs->KV kvs vs->KV (fu kvs more) (merged vs rs):=by
 intro more rs kvs vs r
 unfold KV at r
 induction r generalizing kvs vs with
 | nil=>intro q;exact q
 | @cons p q ps qs h t ih =>
  intro r0
  have e:KV (putK kvs p.1 p.2) (Ht vs q.1 q.2):=by
   have:=r0.put p.1 h.2
   rw[<- h.1];exact this
  exact ih e
theorem fO:∀(more kvs:List (Key×V)),(fu kvs more).length<=kvs.length+more.length
 | [],kvs=>by show kvs.length<=kvs.length+0;omega
 | p::r,kvs=>by
  have h1:=fO r (putK kvs p.1 p.2)
  have h2:=fN kvs p.1 p.2
  show(fu (putK kvs p.1 p.2) r).length<=_
  rw[At];omega
theorem l5 {P:wE}{w:B2}:∀ {kvs:List (Key×V)} {ws:List (bn×bn)},VV (kvs.map λkv=>(kV kv.1,kv.2)) ws->∃rs,Carries (bG P w) ws rs/\KV kvs rs
 | [],_,r=>by rw[Dh]at r;cases r;exact⟨[],True.intro,.nil⟩
 | p::kvs,_,r=>by
  rw[wl]at r
  cases r with
  | @cons a b as bs h t =>
   obtain⟨rs,c,q⟩:=l5 (P:=P) (w:=w) t
   obtain⟨b1,b2⟩:=b
   exact⟨(p.1,b2)::rs,⟨oo h.1,rfl,c⟩,.cons ⟨rfl,h.2⟩ q⟩
def zZ (trs:List (TE×TE)):TE:=λσ H Q=>∀p,H p=none->tR trs σ (upd H p (.dK [])) λps H2=>H2 p=some (.dK [])/\∃kvs:List (Key×V),ps=kvs.map (λkv=>(kV kv.1,kv.2))/\kvs.length<=15/\Q (.ref p) (upd H2 p (.dK (fu [] kvs)))
theorem um {X:Cx}{pos:Pos}{keys:List (Option Expr)}{values:List Expr}{trs:List (TE×TE)}(h:PPs X pos keys values trs)(hall:keys.all (·.isSome)=true)(hl:keys.length=values.length)(h0:keys≠[])
  (h15:keys.length<=15):PE X (.Dict keys values pos) (zZ trs):=by
 intro pins s σ H Q I q
 have hn:=I.hok.fresh (li s.heap.objs.size)
 have I1:=I.laid (a:=s.heap.objs.size) (o:=.dK []) (h':=s.heap.push {cls:=.type "dict",data:=.dict #[]}) (t':=s.toks) (λ_ _ q=>db _ q) (li _) (rM s.heap I.big)
 refine wpAny_Dict_walk (knd:=bG X.prog X.w) hall hl h0 h15 (thn (h pins _ σ _ _ I1 (q _ hn)) λws s2 ⟨ps,H2,I2,rel,e,kvs,ep,lk,q2⟩=>?_)
 subst ep
 obtain⟨rs,c,rk⟩:=l5 (P:=X.prog) (w:=X.w) rel
 obtain⟨z,hd,vs0,r0,dd⟩:=xj I2.hok e
 cases r0
 refine⟨rs,c,dd,λh' dd' hs=>⟨.ref s.heap.objs.size,_,?_,rfl,q2⟩⟩
 have hz:(fu [] kvs).length<=wT:=by
  have h1:=fO kvs []
  rw[Jo]at h1
  rw[EB];omega
 have he:∃q,h'.get? s.heap.objs.size=some q:=let ⟨q,_,_,hq,_⟩:=dd';⟨q,hq⟩
 exact m8 I2 (by rw[e];exact True.intro) hs he (oJ hz hd (rk.merge .nil) dd')
structure M2 (X:Cx)(o:Expr)(m:Str)(apos:Pos)(e f:Expr)(cpos:Pos):Prop where
 base:FK o m X.env (eval o X.env)=eval o X.env
 few:((D6 cpos (B1 [e,f] X.env)).all (λx=>!x.1)&&(Gp cpos (E_ [] X.env)).all (λx=>x.1.isSome)
  && decide (([e,f]:List Expr).length+([]:List HR).length+(if([]:List HR).isEmpty then 0 else 1)<30))=true
 line:(apos.endLine==cpos.line)=true
 trees:D6 cpos (B1 [e,f] X.env)=[(false,eval e X.env),(false,eval f X.env)]
def IsD (H:Hp)(a:Addr):Prop:=(∃kvs,Rd H a (.dK kvs)) ∨ ∃kvs,Rd H a (.dT kvs)
theorem AM {X:Cx}{pins:List (Addr×Obj)}{σ:St}{H:Hp}{s:ca}{a:Addr}(I:Inv X pins σ H s)(d:IsD H a) :
  s.TypeIs (.ref a) "dict" /\ (∀b,Value.ref a = .ref b->∃ob,s.heap.get? b=some ob/\ob.dict=none)/\(a==D0)=false:=by
 rcases d with⟨kvs,e⟩ | ⟨kvs,e⟩
 ·obtain⟨_,hd,vs,_,dd⟩:=sR I.hok e
  refine⟨dd.typeIs,λb q=>?_,hd⟩
  cases q
  obtain⟨ob,_,_,h1,h2,_⟩:=dd
  exact⟨ob,h1,h2.2.1⟩
 ·obtain⟨_,hd,xs,_,dd⟩:=sQ I.hok e
  refine⟨dd.typeIs,λb q=>?_,hd⟩
  cases q
  obtain⟨ob,_,_,h1,h2,_⟩:=dd
  exact⟨ob,h1,h2.2.1⟩
end L2
namespace Att
open PySem PySem.W PySem.Calls PyProof.Rows
theorem kN {P:Params}{h:Heap}:∀(ns:List Int) (vs:List bn),WellAll P h vs (ns.map WData.int)->Ez vs ns:=by
 intro ns
 induction ns with
 | nil =>
  intro vs w
  rw[Dh]at w
  cases w
  exact .nil
 | cons n ns ih =>
  intro vs w
  rw[wl]at w
  cases w with
  | cons a b =>
   cases a
   exact .cons _ _ (ih _ b)
theorem t_ {l:IM}{n:Nat}(hn:l.most=some n){P:Params}{h:Heap}{args:List WData}{vals:List bn}
  (hpre:l.row.toRowW.claim.pre args=true) (hwl:WellAll P h vals args) :
  ∃a vs ns,vals=[Value.ref a]/\args=[WData.list (ns.map WData.int)]/\h.get? a=some {cls:=.type "list",data:=.seq vs.toArray}/\Ez vs ns/\ns.length<=n:=by
 have hsh:WShape.hasAll [] args [.list .int]=true:=(pre_splitW hpre).1
 have hc:l.pre.holds [] {args:=args}=true:=(pre_splitW hpre).2
 obtain⟨d,r,rfl,h1,h2⟩:=hasAllW_cons hsh
 obtain rfl:=hasAllW_nil h2
 obtain⟨xs,rfl,h3⟩:=hasW_list h1
 obtain⟨ns,rfl⟩:=items_int h3
 have hlen:ns.length<=n:=by
  unfold OpenLaw.pre at hc
  have h4:(WTm.not (.lt (.lit (.int (n:Int))) (.len (.arg 0)))).holds [] {args:=[.list (ns.map .int)]}=true:=by
   have h4:=(holds_andW hc).1
   rw[hn]at h4
   exact h4
  have h5:=condW_of h4 (w_not (w_lt w_lit (w_len_list (w_arg rfl))))
  rw[f8]at h5
  refine Nat.le_of_not_lt λq=>?_
  have q':(n:Int)<((ns.length:Nat):Int):=by omega
  first
   | (rw[decide_eq_true q']at h5;exact absurd h5 (by decide))
   | (simp at h5;omega)
 cases hwl with
 | cons w1 w2 =>
  cases w2
  cases w1 with
  | list ho hall=>exact⟨_,_,ns,rfl,rfl,ho,kN ns _ hall,hlen⟩
theorem uh (l:IM)(args:List WData):l.row.toRowW.claim.post args (.bool true) args=true :=
 postW_of (r:=l.row.toRowW) (X:=(true==true))
  (show JU [] (.bool true) .bool=true by first | rfl | decide | simp[JU,WShape.arms,WShape.armsAll])
  (show(WTm.eq .res (.lit (.bool true))).value [] {args:=args,res:=some (.bool true),after:=args}=some (.bool (true==true))from w_eq_bool (w_res rfl) w_lit) rfl
theorem attach_call {l:IM}{n:Nat}{q:wE}{loose:List Str}{XP:(Str->Option bn)->Heap->Prop}{YP:B2->Heap->Prop}{d:DefRec}
  (hn:l.most=some n) (hdf:d.params.defaults=[])
  (call:∀(w:B2) (s₀ s₁:ca) (mg mb:Str->Option bn) (fa:Addr) (o:Obj) (pm cd doc:bn) (a:Addr) (vs:List bn) (ns:List Int),
   Ground q loose [] XP w s₀ mg mb s₁.heap->YP w s₁.heap ->
   s₁.heap.get? fa=some o->o.data = .func (docDef d.name d.params d.body d.scope pm cd doc)->s₁.heap.CodeRec cd d.name->mg d.name=some (.ref fa) ->
   s₁.heap.get? a=some {cls:=.type "list",data:=.seq vs.toArray}->Ez vs ns->ns.length<=n->s₁.gens = #[] ->
   CZ (sn l.prog w) GB (.call (.ref fa) ⟨[.ref a],[]⟩) (λr s'=>r = .ok (.ret (.bool true))/\OldK s₁.heap s'.heap/\s'.os=s₁.os/\F5 s'.gens) s₁) :
  Jd q loose XP YP l.row.toRowW d [] (λf vs=>Iv f vs):=by
 intro w s₀ s₁ mg mb G Y fa o pm cd doc dV kV ho hd hcd hD hmg hg args vals as hpre hlay hrd hwl hlo
 obtain rfl:dV = .none:=Dflts.none hD hdf
 obtain rfl:kV = .none:=Dflts.noKw hD
 obtain⟨a,vs,ns,rfl,rfl,hobj,hints,hlen⟩:=t_ hn hpre hwl
 refine enter_call (Fl (call w s₀ s₁ mg mb fa o pm cd doc a vs ns G Y ho (fd_plain hd) hcd hmg hobj hints hlen hg) λr s' hq=>?_)
 obtain⟨rfl,h2,h3,h4⟩:=hq
 exact⟨.inl ⟨.bool true,.bool true,[],rfl,λ_=>rfl,.bool true,uh l _,λ_=>⟨List.Pairwise.nil,λ_ hm=>(nomatch hm)⟩⟩,h2,h3,h4⟩
end Att
namespace L2
open PySem PySem.Spec PyProof.Rows
theorem iu:∀ {vs:List bn} {ns:List Int},Ez vs ns->Vals (ns.map V.int) vs
 | _,_,.nil=>.nil
 | _,_,.cons n t h=>.cons ⟨t,rfl⟩ (iu h)
def Only (H:Hp):Prop:=∀b,H b=none ∨ ∃o xs,H b=some (.frz o (.lst xs))
theorem wV {P:wE}{w:B2}{K:bi}{mg mb:Str->Option bn}{CX:CXT}{k:Nat}{fa a:Addr}{fd:EM}{x:Str}{sp:Sp}{s₁:ca}{vs:List bn}{ns:List Int}
  (KX:K.In s₁.heap) (hns:s₁.heap.Ns BZ mg) (hb:s₁.heap.Ns JI mb) (hbb:∀x:Str,x ≠ "__name__" -> mb x=Cz x) (hlim:s₁.heap.NoLimit) (hg:s₁.gens = #[])
  (ha:s₁.heap.get? a=some {cls:=.type "list",data:=.seq vs.toArray}) (hi:Ez vs ns) (hl:ns.length<=wT) (hr:Room k GB)
  (F:∀base:Heap,K.In base->base.Ns BZ mg->FnOk P w K mg base CX k fa fd [x] sp) (hbind:∀(s:ca) (u:bn),HV s fd ⟨[u],[]⟩ [(x,u)])
  (hsp:∀H:Hp,Only H->SqL K H a (ns.map V.int)->sp [.ref a] H (λv _=>v = .bl true) λ_ _ _=>False)
  (hCX:∀H e s',CX [] H s₁ (λ_ _ _=>False) e s'->False) :
  CZ (sn P w) GB (.call (.ref fa) ⟨[.ref a],[]⟩) (λr s'=>r = .ok (.ret (.bool true))/\OldK s₁.heap s'.heap/\s'.os=s₁.os/\F5 s'.gens) s₁:=by
 have rv:=iu hi
 have lenV:=hi.length
 have core:∀H:Hp,Only H->SqL K H a (ns.map V.int)->HOk P w H s₁.heap->(∀b,H b≠none->b=a)->(H a≠none->K.lookup a=none) ->
   CZ (sn P w) GB (.call (.ref fa) ⟨[.ref a],[]⟩) (λr s'=>r = .ok (.ret (.bool true))/\OldK s₁.heap s'.heap/\s'.os=s₁.os/\F5 s'.gens) s₁:=by
  intro H hO hS hok hA hK
  have base_of:∀ {b:Addr} {o:Obj},s₁.heap.get? b=some o->H b=none->(hidT s₁.heap H).get? b=some o:=λe n=>w5 e n
  have noA:∀ {b:Addr} {o:Obj} {es:Array DictEntry} {ep:Nat},s₁.heap.get? b=some o->o.data = .dict es ep->H b=none:=λ{b o es ep} e d=>by
   cases q:H b with
   | none=>rfl
   | some u =>
    have e':b=a:=hA b (by rw[q];simp)
    subst e'
    rw[ha]at e;cases e
    have d':Data.seq vs.toArray _=Data.dict es ep:=d
    cases d'
  have nsK:∀ {b:Addr} {m:Str->Option bn},s₁.heap.Ns b m->(hidT s₁.heap H).Ns b m:=λ{b m} ⟨o,es,ep,e,d,r⟩=>⟨o,es,ep,base_of e (noA e d),d,r⟩
  have hKb:K.In (hidT s₁.heap H):=λb o e=>base_of (KX b o e) (by
   cases q:H b with
   | none=>rfl
   | some u =>
    have e':b=a:=hA b (by rw[q];simp)
    subst e'
    rw[hK (by rw[q];simp)]at e;cases e)
  have hM:Mod K mg (hidT s₁.heap H):=⟨hKb,nsK hns,⟨mb,nsK hb,hbb⟩,let ⟨mc,h1,h2⟩:=hlim;⟨mc,nsK h1,h2⟩⟩
  have e0:Env0 P w K mg (hidT s₁.heap H) GB [] s₁ H:=⟨rfl,hM,λb o e=>yK e,Fe (uX _ _),trivial,λb hb=>absurd (show b∈([]:List Addr)from hb) (by simp),hok,.of_eq hg⟩
  refine Fl ((F _ hKb (nsK hns)).run GB [] s₁ H ⟨[.ref a],[]⟩ [.ref a] [.ref a] _ _ hr e0 (hbind s₁ (.ref a)) (.cons rfl .nil) (hsp H hO hS)) λr s' h=>?_
  cases r with
  | error e=>exact(hCX H e s' h).elim
  | ok fl =>
   cases fl with
   | next=>exact DI h
   | brk=>exact DI h
   | cont=>exact DI h
   | ret u =>
    obtain⟨v,H',os,bare,un,hok',r',q⟩:=h
    have q':v = .bl true:=q
    subst q'
    obtain rfl:u=Value.bool true:=r'
    refine⟨rfl,OldK.of_keep λb o e=>?_,os,bare⟩
    cases q:H b with
    | none=>exact un.keep b o e q (by intro z;exact absurd (show b∈([]:List Addr)from z) (by simp)) (by simp)
    | some u =>
     rcases hO b with z | ⟨ob,xs,z⟩
     ·rw[q]at z;cases z
     ·have z2:=un.frzs b ob _ z
      obtain⟨e1,_⟩:=hok b _ z
      obtain⟨e2,_⟩:=hok' b _ z2
      rw[e]at e1;cases e1
      exact e2
 cases hk:K.lookup a with
 | some o =>
  have e:=KX a o hk
  rw[ha]at e
  cases e
  refine core (λ_=>none) (λ_=>.inl rfl) (.inr ⟨_,vs.toArray,_,hk,rfl,rfl,rfl,by rw[on,lenV];exact hl,by simpa using rv⟩) (λb u z=>by have z':(none:Option HO)=some u:=z;cases z') (λb z=>absurd rfl z) λz=>absurd rfl z
 | none =>
  refine core (λb=>if b=a then some (.frz {cls:=.type "list",data:=.seq vs.toArray} (.lst (ns.map V.int)))else none) (λb=>?_) (.inl (.inr ⟨{cls:=.type "list",data:=.seq vs.toArray},if_pos rfl⟩)) (λb u z=>?_) (λb z=>?_) λ_=>hk
  ·by_cases hb:b=a
   ·exact .inr ⟨_,_,if_pos hb⟩
   ·exact .inl (if_neg hb)
  ·by_cases hb:b=a
   ·have z':=(if_pos hb).symm.trans z
    cases z'
    subst hb
    exact⟨ha,by rw[f8];exact hl,vs,_,rv,ha⟩
   ·have z':=(if_neg hb).symm.trans z
    cases z'
  ·by_cases hb:b=a
   ·exact hb
   ·exact absurd (if_neg hb) z
abbrev KOf {K:bi}{h:Heap}(_:K.In h):bi:=K
theorem x_ {l:IM}{n k:Nat}{q:wE}{loose:List Str}{XP:(Str->Option bn)->Heap->Prop}{YP:B2->Heap->Prop}{d:DefRec}{K:Params->bi}{CX:B2->CXT}{sp:B2->Sp}{x:Str}
  (hn:l.most=some n) (hn2:n<=wT) (hdf:d.params.defaults=[]) (hr:Room k GB)
  (hY:∀(w:B2) (h:Heap),YP w h->(K w.params).In h)
  (F:∀(w:B2) (mg:Str->Option bn) (fa:Addr) (h:Heap),(K w.params).In h->h.Ns BZ mg->mg d.name=some (.ref fa) ->
   ∃fd:EM,(∀(s:ca) (u:bn),HV s fd ⟨[u],[]⟩ [(x,u)]) /\
    ∀base:Heap,(K w.params).In base->base.Ns BZ mg->FnOk l.prog w (K w.params) mg base (CX w) k fa fd [x] (sp w))
  (hsp:∀(w:B2) (H:Hp) (a:Addr) (ns:List Int),ns.length<=n->Only H->SqL (K w.params) H a (ns.map V.int)->sp w [.ref a] H (λv _=>v = .bl true) λ_ _ _=>False)
  (hCX:∀(w:B2) (H:Hp) (s:ca) (e:bn) (s':ca),CX w [] H s (λ_ _ _=>False) e s'->False) :
  Jd q loose XP YP l.row.toRowW d [] (λf vs=>Iv f vs):=by
 refine Att.attach_call hn hdf λw s₀ s₁ mg mb fa o pm cd doc a vs ns G Y ho hd hcd hmg hobj hints hlen hg=>?_
 have KX:=hY w _ Y
 obtain⟨fd,hb,hF⟩:=F w mg fa _ KX G.T.g hmg
 exact wV KX G.T.g G.T.b G.T.builtins G.T.nolimit hg hobj hints (xL hlen hn2) hr hF hb (λH hO hS=>hsp w H a ns hlen hO hS) λH e s'=>hCX w H s₁ e s'
theorem vR {l:IM}{n k:Nat}{q:wE}{loose:List Str}{XP:(Str->Option bn)->Heap->Prop}{YP:B2->Heap->Prop}{d:DefRec}{K:Params->bi}{CX:CXT}{sp:bi->Sp}{x:Str}
  (hn:l.most=some n) (hn2:n<=wT) (hdf:d.params.defaults=[]) (hr:Room k GB)
  (hY:∀(w:B2) (h:Heap),YP w h->(K w.params).In h)
  (F:∀(w:B2) (mg:Str->Option bn) (fa:Addr) (h:Heap),(K w.params).In h->h.Ns BZ mg->mg d.name=some (.ref fa) ->
   ∃fd:EM,(∀(s:ca) (u:bn),HV s fd ⟨[u],[]⟩ [(x,u)]) /\
    ∀base:Heap,(K w.params).In base->base.Ns BZ mg->FnOk l.prog w (K w.params) mg base CX k fa fd [x] (sp (K w.params)))
  (hsp:∀(K:bi) (H:Hp) (a:Addr) (ns:List Int),ns.length<=n->Only H->SqL K H a (ns.map V.int)->sp K [.ref a] H (λv _=>v = .bl true) λ_ _ _=>False)
  (hCX:∀(H:Hp) (s:ca) (e:bn) (s':ca),CX [] H s (λ_ _ _=>False) e s'->False) :
  Jd q loose XP YP l.row.toRowW d [] (λf vs=>Iv f vs) :=
 x_ (K:=K) (CX:=λ_=>CX) (sp:=λw=>sp (K w.params)) hn hn2 hdf hr hY F (λw H a ns h1 h2 h3=>hsp (K w.params) H a ns h1 h2 h3) λ_ H s e s'=>hCX H s e s'
def cF (s:Stmt):Arguments:=match s with
 | .FunctionDef _ a _ _ _ _ _ _ _ _=>a
 | _=>{posonlyargs:=[],args:=[],vararg:=none,kwonlyargs:=[],kw_defaults:=[],kwarg:=none,defaults:=[]}
def bI (s:Stmt):List Stmt:=match s with
 | .FunctionDef _ _ b _ _ _ _ _ _ _=>b
 | _=>[]
def aw (s:Stmt):Dw:=match s with
 | .FunctionDef _ _ _ _ _ _ sc _ _ _=>sc
 | _=>{kind:=.function,names:=[],isGenerator:=false,isCoroutine:=false}
abbrev CX0:CXT:=λ_ _ _ _ _ _=>False
abbrev E0:XK:=λ_ _ _=>False
theorem wD {X:Cx}:kY CX0 X E0:=λ_ _ _ _ _ _ _ h=>h.elim
structure Fun (K:bi)(x qual:Str)(st:Stmt)(f:Addr)(fd:EM):Prop where
 ex:∃(oc:bn) (od:Option Addr) (kV doc pm:bn) (an:Option Addr) (cdv ct:bn) (osl:Array (Option bn)),
  fd=CA x qual (cF st) (bI st) (aw st) .none kV doc pm an cdv ct/\K.lookup f=some ⟨oc,od,.func fd,osl⟩/\CG K cdv qual=true
 kp:Ci K (.ref f)=true
section
variable {P:wE}{w:B2}{K:bi}{mg:Str->Option bn}{base:Heap}
theorem Fun.ok {x qual:Str}{st:Stmt}{f:Addr}{fd:EM}{N ps:List Str}{k:Nat}{sp:Sp}(F:Fun K x qual st f fd)(S:aQ N ps (aw st))(len:∀vs H Q E,sp vs H Q E->vs.length=ps.length)
  (hbody:∀(cdv:bn) (A:Ca) (outer:List Env) (s:ca) (H:Hp) (vs:List V) (Q:VK) (E:XK),Room k (A.deeper (EU qual (aw st) s.heap.objs.size f cdv))->sp vs H Q E ->
   ∃t,PSs (cxOf CX0 P w K mg base N qual (aw st) f cdv A outer s H E).nox (bI st) t/\t {nx:=λ_ H'=>Q .non H',rt:=Q} (start N vs) H):FnOk P w K mg base CX0 (k+1) f fd ps sp:=by
 obtain⟨oc,od,kV,doc,pm,an,cdv,ct,osl,rfl,lk,hcd⟩:=F.ex
 refine Bt lk hcd S len λA outer s H vs Q E hr hsp=>?_
 obtain⟨t,h,q⟩:=hbody cdv A outer s H vs Q E hr hsp
 exact⟨t,h.nox,q⟩
theorem xX {x qual:Str}{st:Stmt}{f:Addr}{oc:bn}{od an:Option Addr}{osl:Array (Option bn)}{kV doc pm cdv ct:bn}(l:K.lookup f=some ⟨oc,od,.func (CA x qual (cF st) (bI st) (aw st) .none kV doc pm an cdv ct),osl⟩)
  (c:CG K cdv qual=true) (k:Ci K (.ref f)=true):Fun K x qual st f (CA x qual (cF st) (bI st) (aw st) .none kV doc pm an cdv ct):=⟨⟨oc,od,kV,doc,pm,an,cdv,ct,osl,rfl,l,c⟩,k⟩
end
theorem cz {A:Ca}{k:Nat}(hr:Room k A):A.units+1<EI:=Fi (Nat.add_le_add_left (by decide:1<=64) _) hr.units
theorem ff {n:Nat}(h:n<=1000):n<wT:=Fi h (by decide)
section
variable {X:Cx}
theorem pv (i:Nat){x:Str}{pos:Pos}(hN:X.N[i]? = some x:=by rfl)(hv:Vis X.env.scope x:=by first | exact Or.inl rfl | exact Or.inr (Or.inl rfl) | exact Or.inr (Or.inr rfl))(hd:(x==("__debug__" : Str))=false:=by decide)
  (hcd:(x==("__classdict__" : Str))=false:=by decide):PE X (.Name x pos) (tVar i):=Ae hN hv hd hcd
end
theorem iteF {A B:Prop}(h:B):if false=true then A else B:=by
 rw[if_neg B4]
 exact h
theorem iteT {A B:Prop}(h:A):if true=true then A else B:=by
 rw[if_pos rfl]
 exact h
theorem ite2 {c A B:Prop} [Decidable c](h1:c->A)(h2:¬c->B):if c then A else B:=by
 by_cases h:c
 ·rw[if_pos h]
  exact h1 h
 ·rw[if_neg h]
  exact h2 h
def Same (H H':Hp):Prop:=∀b o,H b=some o->H' b=some o
theorem Same.refl (H:Hp):Same H H:=λ_ _ h=>h
theorem Same.trans {H H1 H2:Hp}(a:Same H H1)(b:Same H1 H2):Same H H2:=λc o h=>b c o (a c o h)
theorem Same.free {H H':Hp}(e:Same H H'){l:Addr}(h:H' l=Option.none):H l=Option.none:=by
 cases q:H l with
 | none=>rfl
 | some o =>
  rw[e l o q]at h
  cases h
theorem Same.seq {K:bi}{H H':Hp}{a:Addr}{xs:List V}(e:Same H H')(h:SqL K H a xs):SqL K H' a xs:=by
 rcases h with(h | ⟨o,h⟩) | h
 ·exact .inl (.inl (e _ _ h))
 ·exact .inl (.inr ⟨o,e _ _ h⟩)
 ·exact .inr h
def gP (cells:List (Str×Addr)):List (Str×El)->List (Str×Addr)->List (Str×Addr)
 | [],cs=>cs
 | (n,k)::r,cs=>gP cells r (if k == .free then(match cells.lookup n with | some c=>(n,c)::cs | none=>cs)else cs)
def cS (scope:Dw)(env:Env):List (Str×Addr):=gP env.cells scope.names []
theorem sU (env:Env):∀(names:List (Str×El)) (cs:List (Str×Addr)),(∀x∈names,x.2 = .free->∃c,env.cells.lookup x.1=some c) ->
  (forIn names cs λ(x:Str×El) (r:List (Str×Addr))=>(if(x.2 == .free)=true then(do let a <- JH env x.1;pure (ForInStep.yield ((x.1,a)::r)))else pure (ForInStep.yield r):Sem (ForInStep (List (Str×Addr)))))=pure (gP env.cells names cs):=by
 intro names
 induction names with
 | nil=>intro cs _;rfl
 | cons x r ih =>
  intro cs h
  obtain⟨n,k⟩:=x
  rw[List.forIn_cons]
  have hr:∀y∈r,y.2 = .free->∃c,env.cells.lookup y.1=some c:=λy hy=>h y (BU _ hy)
  unfold gP
  by_cases hk:k = .free
  ·subst hk
   obtain⟨c,hc⟩:=h (n,.free) B3 rfl
   have e:JH env n=pure c:=by unfold JH;rw[hc]
   rw[if_pos (show(NameKind.free==NameKind.free)=true from rfl),if_pos (show(NameKind.free==NameKind.free)=true from rfl),hc]
   show(JH env n>>=λa=>_)>>=_=_
   rw[e]
   exact ih _ hr
  ·have hb:(k==NameKind.free)=false:=by simpa using hk
   rw[if_neg (show ¬(k==NameKind.free)=true by rw[hb];exact B4),if_neg (show ¬(k==NameKind.free)=true by rw[hb];exact B4)]
   exact ih _ hr
theorem cJ {scope:Dw}{env:Env}(h:∀x∈scope.names,x.2 = .free->∃c,env.cells.lookup x.1=some c):EV scope env=pure (cS scope env):=by
 have run:=sU env scope.names [] h
 unfold EV cS
 have e:(forIn scope.names ([]:List (Str×Addr)) λ(x:Str×El) (r:List (Str×Addr))=>(match x with
   | (name,kind)=>if(kind==NameKind.free)=true then(do let a <- JH env name;pure (ForInStep.yield ((name,a)::r)))else pure (ForInStep.yield r):Sem (ForInStep (List (Str×Addr)))))=pure (gP env.cells scope.names []):=run
 show(forIn scope.names ([]:List (Str×Addr)) _>>=λcs=>pure cs)=_
 exact(congrArg (λm:Sem (List (Str×Addr))=>m>>=λcs=>pure cs) e)
theorem lZ (cells:List (Str×Addr)):∀(names:List (Str×El)) (cs:List (Str×Addr)),(∀p∈cs,cells.lookup p.1=some p.2)->∀p∈gP cells names cs,cells.lookup p.1=some p.2
 | [],cs,h=>h
 | (n,k)::r,cs,h=>by
  unfold gP
  refine lZ cells r _ λp hp=>?_
  by_cases hk:(k==NameKind.free)=true
  ·rw[if_pos hk]at hp
   cases e:cells.lookup n with
   | none=>rw[e]at hp;exact h p hp
   | some c =>
    rw[e]at hp
    rcases sB.mp hp with rfl | hp
    ·exact e
    ·exact h p hp
  ·rw[if_neg hk]at hp
   exact h p hp
theorem cu {scope:Dw}{env:Env}{x:Str}{c:Addr}(h:(cS scope env).lookup x=some c):env.cells.lookup x=some c :=
 lZ env.cells scope.names [] (λ_ z=>nomatch z) (x,c) (CP h)
theorem hU {cs:List (Str×Addr)}{x:Str}{c:Addr}(h:(x,c)∈cs):∃d,cs.lookup x=some d:=by
 induction cs with
 | nil=>cases h
 | cons p r ih =>
  obtain⟨y,d⟩:=p
  by_cases e:x==y
  ·exact⟨d,by rw[C_,e]⟩
  ·rcases sB.mp h with z | z
   ·cases z;simp at e
   ·obtain⟨d',q⟩:=ih z
    exact⟨d',by simp only[CQ]at e;rw[C_,e];exact q⟩
theorem kU (cells:List (Str×Addr)):∀(names:List (Str×El)) (cs:List (Str×Addr)) (p:Str×Addr),p∈cs->p∈gP cells names cs
 | [],_,_,h=>h
 | (n,k)::r,cs,p,h=>by
  unfold gP
  refine kU cells r _ p ?_
  split
  ·split
   ·exact BU _ h
   ·exact h
  ·exact h
theorem l4 (cells:List (Str×Addr)){x:Str}{c:Addr}(hc:cells.lookup x=some c):∀(names:List (Str×El)) (cs:List (Str×Addr)),(x,NameKind.free)∈names->(x,c)∈gP cells names cs
 | [],_,h=>nomatch h
 | (n,k)::r,cs,h=>by
  unfold gP
  rcases sB.mp h with z | z
  ·cases z
   refine kU cells r _ _ ?_
   rw[if_pos (show(NameKind.free==NameKind.free)=true from rfl),hc]
   exact B3
  ·exact l4 cells hc r _ z
theorem lY {scope:Dw}{env:Env}{x:Str}{c:Addr}(h:(x,NameKind.free)∈scope.names)(hc:env.cells.lookup x=some c):(cS scope env).lookup x=some c:=by
 obtain⟨d,e⟩:=hU (l4 env.cells hc scope.names [] h)
 have e':(cS scope env).lookup x=some d:=e
 rw[e',<- cu e',hc]
def blk (X:Cx)(scope:Dw)(N:List Str)(s:ca)(H:Hp)(C:Addr)(fp:List Addr):Cx where
 prog:=X.prog
 w:=X.w
 K:=X.K
 mg:=X.mg
 base:=X.base
 A:=X.A
 N:=N
 s₀:=s
 H₀:=H
 env:=H_ scope (cS scope X.env) C X.env
 outer:=X.stack
 stack:=X.stack
 ex:=fp
 fn:=λ_=>false
 calm:=X.calm
 pn:=[]
 xe:=λ_ _=>False
def capt (σ:St)(js:List Nat):St:=js.map λj=>(σ[j]?).getD none
def capN (N:List Str)(js:List Nat):List Str:=js.map λj=>(N[j]?).getD ""
def bst (n:Nat)(σ:St)(js:List Nat):St:=pc n none++capt σ js
theorem fU {n:Nat}{σ:St}{js:List Nat}:(bst n σ js).length=n+js.length:=by unfold bst capt;simp
section
variable {P:wE}{w:B2}{A:Ca}{R:EK->ca->Prop}{s:ca}
theorem qw {elt tg iter:Expr}{ifs:List Expr}{scope:Dw}{pos:Pos}{it acc:bn}{env:Env}(J:Nat->ca->Prop)
  (turn:∀n s,J n s->lm (sn P w) A (Es it) (λr s1=>match r with
   | none=>R (.ok .next) s1
   | some v=>lm (sn P w) A (Db tg it v) (λ_ s2=>lm (sn P w) A (D1 tg env v) (λ_ s3 =>
     lm (sn P w) A (forIn ifs true λc r=>if r=true then do let ok <- Fw c env (eval c env);pure (ForInStep.yield ok)else pure (ForInStep.yield r)) (λok s4 =>
      if ok=true then lm (sn P w) A (eval elt env) (λx s5=>lm (sn P w) A (call (.builtin "list.append") [acc,x]) (λ_ s6=>∃m,m<n/\J m s6) (λ_ _=>False) s5) (λ_ _=>False) s4
      else ∃m,m<n/\J m s4) (λ_ _=>False) s3) (λ_ _=>False) s2) (λ_ _=>False) s1) (λ_ _=>False) s)
  (n:Nat) (h:J n s):CZ (sn P w) A (.compLoop (.ListComp elt [⟨tg,iter,ifs,0⟩] scope pos) 0 it acc env) R s:=by
 have no:∀ {α:Type} {t:Sem α} {Q Q':α->ca->Prop} {E:bn->ca->Prop} {s:ca},lm (sn P w) A t Q (λ_ _=>False) s->(∀a s,Q a s->Q' a s)->lm (sn P w) A t Q' E s :=
  λh hq=>Dn h hq λ_ _ f=>f.elim
 refine FY rfl J (λn s hJ=>?_) n h
 show lm _ A ((FR (.ListComp elt [⟨tg,iter,ifs,0⟩] scope pos) 0 it acc env).onRaise (λx=>do FQ x env;Fh x)) _ _ s
 refine Gm ?_
 rw[compTurn_list]
 refine bm (CT (bm (no (turn n s hJ) λr s1 h1=>?_)))
 cases r with
 | none=>exact dL h1
 | some v =>
  refine bm (no h1 λ_ s2 h2=>bm (no h2 λ_ s3 h3=>bm (no h3 λok s4 h4=>?_)))
  cases ok with
  | false=>exact dL ⟨rfl,h4⟩
  | true=>exact bm (bm (no h4 λx s5 h5=>bm (no h5 λ_ s6 h6=>dL (dL ⟨rfl,h6⟩))))
end
def PTs (X:Cx)(ifs:List Expr)(t:TT):Prop :=
 ∀(pins:List (Addr×Obj)) (s:ca) (σ:St) (H:Hp) (Q:Bool->Hp->Prop),Inv X pins σ H s->t σ H Q ->
  lm (sn X.prog X.w) X.A (forIn ifs true λc r=>if r=true then do let ok <- Fw c X.env (eval c X.env);pure (ForInStep.yield ok)else pure (ForInStep.yield r)) (TP X pins σ Q) X.xe s
def tAll:TT:=λ_ H Q=>Q true H
theorem dh {X:Cx}:PTs X [] tAll:=λ_ _ _ H _ I h=>wpAny_tests_nil ⟨H,I,h⟩
theorem dg {X:Cx}{c:Expr}{t:TT}(h:PT X c t):PTs X [c] t:=λpins s σ H Q I hq=>wpAny_tests_one (h pins s σ H Q I hq)
def Bi (J:It)(n:Nat)(js:List Nat)(g:TG)(tc:TT)(te:TE)(Q:VK)(σ:St)(H1:Hp):Prop:=∃W:Nat->Nat->List V->Hp->Prop,(∃m,W 0 m [] H1)/\∀i m ys H,W i m ys H ->
 (J.stop i H/\ys.length<=wT/\∀l,H l=none->Q (.ref l) (upd H l (.lst ys))) ∨
 (J.go i H/\ys.length<wT/\∃N:List V->Hp->Prop,(∀zs H',N zs H'->∃m',m'<m/\W (i+1) m' zs H')/\∀x H',J.yld i H x H'->g x (bst n σ js) H' λσ2 H2=>σ2.drop n=capt σ js/\tc σ2 H2 λb H3 =>
  if b=true then te σ2 H3 λv H4=>N (ys++[v]) H4 else N ys H3)
def tW (n:Nat)(js:List Nat)(wi:TI)(g:TG)(tc:TT)(te:TE):TE:=λσ H Q=>wi σ H λJ H1=>Bi J n js g tc te Q σ H1
section
variable {X:Cx}
structure Blk (X:Cx)(scope:Dw)(own:List Str)(js:List Nat):Prop where
 kind:scope.kind = .function
 nocell:∀y∈scope.names,y.2 ≠ .cell
 names:∀y∈scope.names,y.2 = .local->scope.names.lookup y.1=some .local
 free:∀y∈scope.names,y.2 = .free->X.env.kindOf y.1=some .cell∨X.env.kindOf y.1=some .free
 uniq:∀x,(x,NameKind.free)∈scope.names->scope.names.lookup x=some .free
 nd:(own++capN X.N js).Nodup
 cap:∀j∈js,j<X.N.length/\((X.N[j]?).getD "",NameKind.free)∈scope.names
def blkB (sc:Dw)(N:List Str)(scope:Dw)(own:List Str)(js:List Nat):Bool :=
 scope.kind == .function&&scope.names.all (λy=>y.2 != .cell)&&scope.names.all (λy=>y.2 != .local||scope.names.lookup y.1==some .local) &&
 scope.names.all (λy=>y.2 != .free||sc.names.lookup y.1==some .cell||sc.names.lookup y.1==some .free)&&scope.names.all (λy=>y.2 != .free||scope.names.lookup y.1==some .free) &&
 decide (own++capN N js).Nodup&&js.all (λj=>decide (j<N.length)&&scope.names.any λy=>y.1==(N[j]?).getD "" && y.2 == .free)
theorem Blk.of {scope:Dw}{own:List Str}{js:List Nat}(sc:Dw)(N:List Str)(h:blkB sc N scope own js=true:=by decide +kernel)(e1:X.env.scope=sc:=by rfl)(e2:X.N=N:=by rfl):Blk X scope own js:=by
 subst e1 e2
 unfold blkB at h
 simp only[BP,DG,decide_eq_true_eq,beq_iff_eq]at h
 obtain⟨⟨⟨⟨⟨⟨h1,h2⟩,h3⟩,h4⟩,h5⟩,h6⟩,h7⟩:=h
 refine⟨h1,λy hy=>by simpa using h2 y hy,λy hy e=>?_,λy hy e=>?_,λx hx=>?_,h6,λj hj=>?_⟩
 ·have:=h3 y hy
  simpa [e] using this
 ·have:=h4 y hy
  simp only[e,bne_self_eq_false,JN,ET,beq_iff_eq]at this
  exact this
 ·have:=h5 _ hx
  simpa using this
 ·obtain⟨a,b⟩:=h7 j hj
  refine⟨a,?_⟩
  obtain⟨y,hy,e⟩:=Ds.mp b
  simp only[BP,beq_iff_eq]at e
  obtain⟨e1,e2⟩:=e
  rw[<- e1,<- e2]
  exact hy
theorem dJ {env:Env}:∀ {names:List (Str×El)} {x:Str} {k:El},
  (names.map λ(n,k)=>if(k==NameKind.free&&env.scope.kind == .function&&env.kindOf n==some .cell)then(n,NameKind.cell)else(n,k)).lookup x=some k->names.lookup x=some k∨(k = .cell/\names.lookup x=some .free)
 | [],_,_,h=>by simp at h
 | (n,q)::r,x,k,h=>by
  have ih:=@dJ env r x k
  cases hx:x==n with
  | true =>
   by_cases hc:(q==NameKind.free&&env.scope.kind == .function&&env.kindOf n==some .cell)=true
   ·simp only[wl,if_pos hc,C_,hx]at h
    cases h
    simp only[BP,beq_iff_eq]at hc
    obtain⟨⟨hq,_⟩,_⟩:=hc
    subst hq
    exact .inr ⟨rfl,by rw[C_,hx]⟩
   ·simp only[wl,if_neg hc,C_,hx]at h
    cases h
    exact .inl (by rw[C_,hx])
  | false =>
   have h':(r.map λ(n,k)=>if(k==NameKind.free&&env.scope.kind == .function&&env.kindOf n==some .cell)then(n,NameKind.cell)else(n,k)).lookup x=some k:=by
    by_cases hc:(q==NameKind.free&&env.scope.kind == .function&&env.kindOf n==some .cell)=true
    ·simp only[wl,if_pos hc,C_,hx]at h
     exact h
    ·simp only[wl,if_neg hc,C_,hx]at h
     exact h
   rcases ih h' with z | ⟨z,z'⟩
   ·exact .inl (by rw[C_,hx];exact z)
   ·exact .inr ⟨z,by rw[C_,hx];exact z'⟩
theorem ni {scope:Dw}{own:List Str}{js:List Nat}{pins:List (Addr×Obj)}{σ:St}{H:Hp}{s:ca}{fp:List Addr}{C:Addr}{h1:Heap}{tk:Nat}(B:Blk X scope own js)(I:Inv X pins σ H s)
  (hfp:∀b∈fp,FpOk X pins H b) (hfo:∀b∈fp,∃o,s.heap.get? b=some o) (hC:s.heap.objs.size<=C) (hns:h1.Ns C λ_=>none) (hk:∀b o,s.heap.get? b=some o->h1.get? b=some o) :
  Inv (blk X scope (own++capN X.N js) s H C fp) [] (bst own.length σ js) H {s with heap:=h1,toks:=tk}:=by
 have kindC:∀x,(blk X scope (own++capN X.N js) s H C fp).env.kindOf x=some .cell∨(blk X scope (own++capN X.N js) s H C fp).env.kindOf x=some .free->(x,NameKind.free)∈scope.names:=λx hx=>by
  have hx':(Gy scope X.env).names.lookup x=some .cell∨(Gy scope X.env).names.lookup x=some .free:=hx
  rcases hx' with z | z
  ·rcases dJ z with q | ⟨_,q⟩
   ·exact absurd rfl (B.nocell _ (CP q))
   ·exact CP q
  ·rcases dJ z with q | ⟨_,q⟩
   ·exact CP q
   ·exact CP q
 have has:∀x,(x,NameKind.free)∈scope.names->∃c,X.env.cells.lookup x=some c:=λx hx=>I.ok.has x (B.free (x,.free) hx rfl)
 have old:∀ {x c},(cS scope X.env).lookup x=some c->X.env.cells.lookup x=some c:=λe=>cu e
 have cellLt:∀ {x c},X.env.cells.lookup x=some c->c<s.heap.objs.size:=λ{x c} e=>by
  obtain⟨v,o,ho,_⟩:=I.cell x c e
  exact lc ho
 have fpLt:∀b∈fp,b<s.heap.objs.size:=λb hb=>let ⟨_,e⟩:=hfo b hb;lc e
 have fsOk:∀b∈frs X.stack,b∈X.env.locals::X.fs:=I.stkSub
 refine⟨⟨I.ok.mod,?_,I.ok.glob,I.ok.blt,hC,λx y c e1 e2=>I.ok.inj x y c (old e1) (old e2),λx hx=>?_,λx c z _=>absurd z B4,I.ok.hd,I.ok.frames,.inl rfl,λb hb=>⟨?_,λx c e=>?_⟩,I.bs,xL I.ok.bsz I.sz,
   λb o e hb=>?_,λb hb hf=>?_,I.stack,I.stkFree⟩,rfl,I.bare,Un.kept hk,⟨_,hns,λi x v e1 e2 e3=>?_⟩,λx c e=>?_,?_,λx c e=>I.freeC x c (old e),λp hp=>absurd hp (by show p∉[]++[];simp),I.hok.kept hk,?_⟩
 ·show(Gy scope X.env).kind = .function
  exact B.kind
 ·obtain⟨c,e⟩:=has x (kindC x hx)
  exact⟨c,lY (kindC x hx) e⟩
 ·exact wP (xz (fpLt b hb) hC)
 ·exact(hfp b hb).2.2.2.2.1 x c (old e)
 ·have e1:=I.bs b o e
  obtain⟨f0,f1,f2,f3,f4,f5⟩:=hfp b hb
  rcases f3 with z | z
  ·exact I.ok.noex b o e z
  ·exact absurd (xz (lc (I.ok.bs b o e).1) z) (DV _)
 ·obtain⟨f0,f1,f2,f3,f4,f5⟩:=hfp b hb
  rcases sB.mp (fsOk b hf)with z | z
  ·exact f1 z
  ·exact f2 z
 ·-- a captured name's value
  have hi:own.length<=i:=by
   rcases BW i own.length with z | z
   ·exfalso
    have e2':(pc own.length (none:Option V)++capt σ js)[i]? = some (some v):=e2
    rw[BQ (by simpa using z),CK]at e2'
    split at e2' <;> cases e2'
   ·exact z
  have e1':(own++capN X.N js)[i]? = some x:=e1
  have e2':(pc own.length (none:Option V)++capt σ js)[i]? = some (some v):=e2
  rw[Cc hi]at e1'
  rw[Cc (by simpa using hi),C7]at e2'
  unfold capN at e1'
  unfold capt at e2'
  rw[wn]at e1' e2'
  cases ej:js[i - own.length]? with
  | none=>rw[ej]at e1';cases e1'
  | some j =>
   rw[ej]at e1' e2'
   have e1'':(X.N[j]?).getD "" = x:=Dc e1'
   have e2'':(σ[j]?).getD none=some v:=Dc e2'
   obtain⟨hj,hm⟩:=B.cap j (Cb ej)
   have eN:X.N[j]? = some x:=by
    rw[bv hj]at e1'' ⊢
    exact congrArg some e1''
   have eS:σ[j]? = some (some v):=by
    cases q:σ[j]? with
    | none=>rw[q]at e2'';cases e2''
    | some u=>rw[q]at e2'';exact congrArg some e2''
   rw[e1'']at hm
   obtain⟨m,_,hl⟩:=I.loc
   have hv:Vis X.env.scope x:=by
    rcases B.free (x,.free) hm rfl with z | z
    ·exact .inr (.inl z)
    ·exact .inr (.inr z)
   obtain⟨u,r,l⟩:=hl j x v eN eS hv
   obtain⟨c,hc⟩:=has x hm
   refine⟨u,r,.inr ⟨?_,c,lY hm hc,?_⟩⟩
   ·rcases e3 with z | z | z
    ·exfalso
     have z':(Gy scope X.env).names.lookup x=some .local:=z
     rcases dJ z' with q | ⟨q,_⟩
     ·rw[B.uniq x hm]at q
      cases q
     ·cases q
    ·exact .inl z
    ·exact .inr z
   ·rcases l with⟨k1,_⟩ | ⟨k2,c2,e2,ic⟩
    ·rcases B.free (x,.free) hm rfl with t | t <;> (rw[k1]at t;cases t)
    ·rw[hc]at e2;cases e2
     obtain⟨o,ho,hd⟩:=ic
     exact⟨o,hk c o ho,hd⟩
 ·obtain⟨v,o,ho,hd⟩:=I.cell x c (old e)
  exact⟨v,o,hk c o ho,hd⟩
 ·exact I.hok.fresh hC
 ·rw[fU]
  show _=(own++capN X.N js).length
  unfold capN
  simp
end
section
variable {X:Cx}
theorem Inv.young {pins:List (Addr×Obj)}{σ:St}{H:Hp}{s:ca}{h':Heap}{c:Addr}(I:Inv X pins σ H s)(hs:Cq c s.heap h')(hn:H c=none)(h1:X.s₀.heap.objs.size<=c)(hL:c≠X.env.locals)
  (h2:∀x d,X.env.cells.lookup x=some d->d≠c) (h3:∀p∈X.pn++pins,p.1≠c):Inv X pins σ H {s with heap:=h'} :=
 I.turned (t':=s.toks) (λb o hb e=>(hs.2 b hb).trans e) hn hL (.inr h1) h2 h3
theorem Inv.track {pins:List (Addr×Obj)}{σ:St}{H:Hp}{s:ca}{D:Addr}{ys:List V}{its:List bn}{n:Nat}(I:Inv X pins σ H s)(hn:H D=none)(h1:X.s₀.heap.objs.size<=D)(hL:D≠X.env.locals)
  (h2:∀x d,X.env.cells.lookup x=some d->d≠D) (h3:∀p∈X.pn++pins,p.1≠D) (hz:ys.length<=wT) (r:Vals ys its) (e:s.heap.get? D=some {cls:=.type "list",data:=.seq its.toArray n}) :
  Inv X pins σ (upd H D (.lst ys)) s:=by
 have ne:∀ {b u},H b=some u->b≠D:=λ{b u} q=>be q hn
 refine⟨I.ok,I.os,I.bare,⟨I.base.keep,I.base.slot,λb o q z hx=>?_,I.base.there,λb xs q=>?_,λb o u q=>?_,λb ps q=>?_⟩,I.loc,I.cell,?_,λx c q=>?_,λp hp=>?_,λb o q=>?_,I.len⟩
 ·rw[aR (wP (xz (lc q) h1))]
  exact I.base.free b o q z hx
 ·have q':=I.base.tups b xs q
  rw[aR (ne q')];exact q'
 ·have q':=I.base.frzs b o u q
  rw[aR (ne q')];exact q'
 ·obtain⟨more,q'⟩:=I.base.tbls b ps q
  exact⟨more,by rw[aR (ne q')];exact q'⟩
 ·rw[aR (Dk hL)];exact I.free
 ·rw[aR (h2 x c q)];exact I.freeC x c q
 ·obtain⟨a1,a2,a3⟩:=I.pin p hp
  exact⟨a1,by rw[aR (h3 p hp)];exact a2,a3⟩
 ·by_cases hb:b=D
  ·subst hb
   rw[aS]at q
   cases q
   exact⟨hz,its,n,r,e⟩
  ·rw[aR hb]at q
   refine(I.hok b o q).stay (λ_ _ _ z=>z) (λc z=>?_) λc xs z=>?_
   ·rw[aR (ne z)];exact z
   ·rw[aR (ne z)];exact z
def vO (X:Cx)(pins:List (Addr×Obj))(σ:St)(Q:VK)(C:Addr)(acc:bn)(s':ca):Prop :=
 ∃(D:Addr) (H:Hp) (m:Str->Option bn),acc = .ref D/\s'.heap.Ns C m/\Inv X pins σ H s'/\H C=none/\X.s₀.heap.objs.size<=C/\C≠X.env.locals/\(∀x d,X.env.cells.lookup x=some d->d≠C)/\(∀p∈X.pn++pins,p.1≠C)/\Q (.ref D) H
theorem lX {elt tg iter:Expr}{ifs:List Expr}{scope:Dw}{pos:Pos}{own:List Str}{js:List Nat}{g:TG}{tc:TT}{te:TE}{Q:VK}{pins:List (Addr×Obj)}{σ:St}{s2:ca}{itv:bn}{E:bn->ca->Prop}
  {RR:bn->Addr->EK->ca->Prop} (hc:X.calm=true) (B:Blk X scope own js) (hg:∀s H C fp,(own++capN X.N js).Nodup->PG (blk X scope (own++capN X.N js) s H C fp) tg g) (ht:∀s H C fp,PTs (blk X scope (own++capN X.N js) s H C fp) ifs tc)
  (he:∀s H C fp,PE (blk X scope (own++capN X.N js) s H C fp) elt te)
  (h:PIE X pins σ tg (λJ H1=>Bi J own.length js g tc te Q σ H1) itv s2)
  (hR:∀C acc s',vO X pins σ Q C acc s'->RR acc C (.ok .next) s') :
  lm (sn X.prog X.w) X.A (IW []) (λacc s3=>lm (sn X.prog X.w) X.A (Go scope X.env.globals (cS scope X.env) [] X.env.qual none .none (some X.env)) (λcenv s4 =>
   CZ (sn X.prog X.w) X.A (.compStart (.ListComp elt [⟨tg,iter,ifs,0⟩] scope pos) 0 itv acc {cenv with scope:=Gy scope X.env}) (RR acc cenv.locals) s4) E s3) E s2:=by
 obtain⟨it,fp,tn,J,H2,rfl,I2,T,st2,f2,W,⟨m0,w0⟩,turn⟩:=h
 refine Dm (E8 B.nocell (by intro y hy;simp at hy) (λh1 hns1 hsb1=>?_) B.kind)
 generalize hPu:s2.heap.push {cls:=.type "list",dict:=none,data:=.seq ([]:List bn).toArray}=Pu at hns1 hsb1 ⊢
 dsimp only at hns1 hsb1 ⊢
 have hDC:Pu.objs.size=s2.heap.objs.size+1:=by rw[<- hPu,C0]
 generalize hD:s2.heap.objs.size=D at hDC ⊢
 have gD:Pu.get? D=some {cls:=.type "list",dict:=none,data:=.seq ([]:List bn).toArray}:=by
  rw[<- hPu,<- hD];exact ww _ rfl
 generalize hC:Pu.objs.size=C at hns1 hsb1 hDC ⊢
 have ltDC:D<C:=by rw[hDC];exact DH D
 have neDC:D≠C:=wP ltDC
 have keep1:∀b o,s2.heap.get? b=some o->h1.get? b=some o:=λb o e=>by
  have hb:b<D:=by rw[<- hD];exact lc e
  have hb2:b≠C:=wP (DE hb ltDC)
  refine(hsb1.2 b hb2).trans (db _ ?_)
  rw[<- hPu]
  exact db _ e
 have gD1:h1.get? D=some {cls:=.type "list",dict:=none,data:=.seq ([]:List bn).toArray}:=(hsb1.2 D neDC).trans (db _ gD)
 have szD:s2.heap.objs.size<=D:=Fe hD
 have szC:s2.heap.objs.size<=C:=xL szD (CI ltDC)
 have old:∀ {b:Addr},b<s2.heap.objs.size->b≠D/\b≠C:=λhb=>⟨wP (xz hb szD),wP (xz hb szC)⟩
 have fpo:∀b∈fp,∃o,s2.heap.get? b=some o:=λb hb=>let ⟨o,e,_⟩:=T.obj 0 _ st2 b hb;⟨o,e⟩
 have fpD:∀b∈fp,b≠D/\b≠C:=λb hb=>by
  obtain⟨o,e⟩:=fpo b hb
  exact old (lc e)
 have clD:∀x d,X.env.cells.lookup x=some d->d≠D/\d≠C:=λx d e=>by
  obtain⟨v,o,ho,_⟩:=I2.cell x d e
  exact old (lc ho)
 have pinD:∀p∈X.pn++pins,p.1≠D/\p.1≠C:=λp hp=>by
  exact old (lc (I2.pin p hp).1)
 have locD:D≠X.env.locals/\C≠X.env.locals:=by
  exact⟨(old I2.lt).1.symm,(old I2.lt).2.symm⟩
 let Y:=blk X scope (own++capN X.N js) s2 H2 C fp
 have IB:Inv Y [] (bst own.length σ js) H2 {s2 with heap:=h1,toks:=s2.toks+([]:List (Str×bn)).length}:=ni B I2 f2 fpo szC hns1 keep1
 have fpB:∀ {H':Hp} {pl:List (Addr×Obj)},(∀b∈fp,H' b=none)->(∀p∈pl,p.1=D)->∀b∈fp,FpOk Y pl H' b:=λ{H' pl} hn hp b hb=>by
  obtain⟨f0,f1,f3,f4,f5,f6⟩:=f2 b hb
  refine⟨hn b hb,(fpD b hb).2,λz=>?_,.inl hb,λx c e=>f5 x c (cu e),λp q=>?_⟩
  ·rcases sB.mp (I2.stkSub b z)with z | z
   ·exact f1 z
   ·exact f3 z
  ·have q':p∈pl:=by simpa [Y,blk] using q
   rw[hp p q']
   exact(fpD b hb).1.symm
 have clB:∀x d,Y.env.cells.lookup x=some d->d≠D:=λx d e=>(clD x d (cu e)).1
 have notFs:D∉Y.fs:=λz=>by
  obtain⟨_,o,ho,_⟩:=IB.ok.funs.mem z
  exact(old (lc (show s2.heap.get? D=some o from ho))).1 rfl
 have loop:∀s3:ca,s3={s2 with heap:=h1,toks:=s2.toks+([]:List (Str×bn)).length} ->
   CZ (sn X.prog X.w) X.A (.compLoop (.ListComp elt [⟨tg,iter,ifs,0⟩] scope pos) 0 (.ref it) (.ref D) (H_ scope (cS scope X.env) C X.env)) (RR (.ref D) C) s3:=by
  rintro s3 rfl
  refine qw (λn s'=>∃(i:Nat) (ys:List V) (its:List bn) (k:Nat) (H':Hp),Inv Y [] (bst own.length σ js) H' s'/\tn i s'.heap/\(∀b∈fp,H' b=none)/\H' D=none/\Vals ys its /\
   s'.heap.get? D=some {cls:=.type "list",data:=.seq its.toArray k}/\W i n ys H') ?_ m0 ⟨0,[],[],0,H2,IB,T.keep 0 _ _ st2 (λb hb o e=>keep1 b o e),λb hb=>(f2 b hb).1,I2.hok.fresh szD,.nil,gD1,w0⟩
  rintro n s3 ⟨i,ys,its,k,H3,I3,st3,fr3,hD3,r3,g3,w3⟩
  have I3p:Inv Y [(D,{cls:=.type "list",data:=.seq its.toArray k})] (bst own.length σ js) H3 s3:=I3.pins_of λp hp=>by
   have e:p=(D,{cls:=.type "list",data:=.seq its.toArray k}):=by simpa using hp
   subst e
   exact⟨g3,hD3,neDC,notFs,λv z=>by cases z⟩
  have f3:∀b∈fp,FpOk Y [(D,{cls:=.type "list",data:=.seq its.toArray k})] H3 b:=fpB fr3 λp hp=>by
   have e:p=(D,{cls:=.type "list",data:=.seq its.toArray k}):=by simpa using hp
   rw[e]
  rcases turn i n ys H3 w3 with⟨stop,hz,qn⟩ | ⟨go,hz,N,hN,step⟩
  ·refine thn (T.done Y rfl rfl rfl hc i _ s3 _ H3 (λ_ _=>False) I3p f3 st3 stop) λr s4 ⟨hr,I4⟩=>?_
   subst hr
   refine hR C _ s4 ?_
   have g4:=(I4.pin (D,{cls:=.type "list",data:=.seq its.toArray k}) (by simp[Y,blk])).1
   obtain⟨m,hn4,_⟩:=id I4.loc
   have un:Un (frs X.stack) fp H2 H3 s2.heap s4.heap:=I4.base
   have I5:Inv X pins σ H3 s4:=I2.call' I4.os un I4.hok I4.bare λb hb=>let ⟨_,b1,_,b3,b4,b5⟩:=f2 b hb;⟨b3,b1,b4,b5⟩
   have I6:=I5.track (ys:=ys) (its:=its) (n:=k) hD3 (xL I2.sz szD) locD.1 (λx d e=>(clD x d e).1) (λp hp=>(pinD p hp).1) hz r3 g4
   refine⟨D,_,m,rfl,hn4,I6,?_,xL I2.sz szC,locD.2,λx d e=>(clD x d e).2,λp hp=>(pinD p hp).2,qn D hD3⟩
   rw[aR (Dk neDC)]
   exact I4.free
  ·refine thn (T.item Y rfl rfl rfl hc i _ s3 _ H3 (λ_ _=>False) I3p f3 st3 go) λr s4 ⟨u,hr,h4⟩=>?_
   subst hr
   refine thn h4 λ_ s5 ⟨x,H5,I5,r5,y5,st5,fr5⟩=>?_
   have f5:∀b∈fp,FpOk Y [(D,{cls:=.type "list",data:=.seq its.toArray k})] H5 b:=λb hb=>⟨fr5 b hb,(f3 b hb).2⟩
   have I5':=I5.pinned f5 (T.obj _ _ st5)
   refine thn (hg s2 H2 C fp B.nd _ s5 _ H5 x u _ I5' r5 (step x H5 y5)) λ_ s6 ⟨σ6,H6,I6,d6,q6⟩=>?_
   refine thn (ht s2 H2 C fp _ s6 σ6 H6 _ I6 q6) λok s7 ⟨H7,I7,q7⟩=>?_
   have after:∀ {s8:ca} {H8:Hp},Inv Y ([(D,{cls:=.type "list",data:=.seq its.toArray k})]++f9 fp s5.heap) σ6 H8 s8 ->
     s8.heap.get? D=some {cls:=.type "list",data:=.seq its.toArray k}/\H8 D=none/\tn (i+1) s8.heap/\(∀b∈fp,H8 b=none)/\Inv Y [] (bst own.length σ js) H8 s8:=λ{s8 H8} I8=>by
    have p8:=I8.pin (D,{cls:=.type "list",data:=.seq its.toArray k}) (by simp[Y,blk])
    refine⟨p8.1,p8.2.1,T.keep _ _ _ st5 λb hb o e=>(I8.pin (b,o) (ga _ (ga _ (bZ hb e)))).1,λb hb=>?_,?_⟩
    ·obtain⟨o,e,_⟩:=T.obj _ _ st5 b hb
     exact(I8.pin (b,o) (ga _ (ga _ (bZ hb e)))).2.1
    ·refine(I8.pins_of (pins':=[]) λp hp=>absurd hp (by simp[Y,blk])).weak ?_ λj v e=>?_
     ·rw[I8.len,fU]
      show _=(own++capN X.N js).length
      unfold capN
      simp
     ·rcases BW j own.length with z | z
      ·exfalso
       unfold bst at e
       rw[BQ (by simpa using z),CK]at e
       split at e <;> cases e
      ·unfold bst at e
       rw[Cc (by simpa using z),C7,<- d6,Cg]at e
       rw[<- e]
       congr 1
       omega
   cases ok with
   | false =>
    rw[if_neg B4]at q7 ⊢
    obtain⟨m',hm,w7⟩:=hN _ _ q7
    obtain⟨a1,a2,a3,a4,a5⟩:=after I7
    exact⟨m',hm,i+1,ys,its,k,H7,a5,a3,a4,a2,r3,a1,w7⟩
   | true =>
    rw[if_pos rfl]at q7 ⊢
    refine thn (he s2 H2 C fp _ s7 σ6 H7 _ I7 q7) λu8 s8 ⟨v8,H8,I8,r8,n8⟩=>?_
    obtain⟨m',hm,w8⟩:=hN _ _ n8
    obtain⟨a1,a2,a3,a4,a5⟩:=after I8
    have hsz:its.toArray.size<wT:=by rw[on,<- r3.length];exact hz
    refine GZ Cw ⟨_,a1,rfl⟩ Gv (Ge _ _) (Gq D its.toArray k u8 (by omega)) ⟨a1,?_⟩
    have q9:=Gd a1 (λxs=>xs.push u8)
    have sb:Cq D s8.heap (s8.heap.update D (C1 λxs=>xs.push u8)):=C9 ..
    have I9:=a5.young sb a2 szD neDC clB (λp hp=>absurd hp (by show p∉[]++[];simp))
    have fin:∃k',(s8.heap.update D (C1 λxs=>xs.push u8)).get? D=some {cls:=.type "list",data:=.seq (its++[u8]).toArray k'}:=⟨_,by
     rw[show(its++[u8]).toArray=its.toArray.push u8 by simp]
     exact q9⟩
    obtain⟨k',fin⟩:=fin
    exact⟨m',hm,i+1,ys++[v8],its++[u8],k',H8,I9,T.keep _ _ _ a3 (λb hb o e=>(sb.2 b (fpD b hb).1).trans e),a4,a2,r3.append (.cons r8 .nil),fin,w8⟩
 exact IX (loop _ rfl) (T.self _ 0 _ _ _ (T.keep 0 _ _ st2 λb hb o e=>keep1 b o e) (loop _ rfl))
theorem dY {elt tg iter:Expr}{ifs:List Expr}{scope:Dw}{pos:Pos}(own:List Str)(js:List Nat){wi:TI}{g:TG}{tc:TT}{te:TE}(hc:X.calm=true)(B:Blk X scope own js)(hi:PI X tg iter wi)
  (hg:∀s H C fp,(own++capN X.N js).Nodup->PG (blk X scope (own++capN X.N js) s H C fp) tg g) (ht:∀s H C fp,PTs (blk X scope (own++capN X.N js) s H C fp) ifs tc) (he:∀s H C fp,PE (blk X scope (own++capN X.N js) s H C fp) elt te)
  (hs:∀x,CY iter X.env x=pure x:=by intro _;rfl):PE X (.ListComp elt [⟨tg,iter,ifs,0⟩] scope pos) (tW own.length js wi g tc te):=by
 intro pins s σ H Q I h
 have hcl:EV scope X.env=pure (cS scope X.env):=cJ λx hx hf=>I.ok.has x.1 (B.free x hx hf)
 rw[eval_ListComp]
 refine Dy (use:=none) rfl hs hcl B.kind B.names (thn (hi pins s σ H _ I h) λv s1 h1=>thn h1 λitv s2 h2=>?_)
 refine lX (RR:=λacc C=>Hc (sn X.prog X.w) X.A X.xe none (EP X pins σ Q) acc C) hc B hg ht he h2 λC acc s' hb=>?_
 obtain⟨D,H',m,rfl,hn,I',c1,c2,c3,c4,c5,q⟩:=hb
 exact⟨m,hn,λh' hs'=>⟨.ref D,H',I'.young hs' c1 c2 c3 c4 c5,rfl,q⟩⟩
theorem j_ {elt tg iter:Expr}{ifs:List Expr}{scope:Dw}{pos pos' spos:Pos}{i:Nat}{x:Str}(own:List Str)(js:List Nat){wi:TI}{g:TG}{tc:TT}{te:TE}(hN:X.N.Nodup)(hi:X.N[i]? = some x)(hx:Loc X.env.scope x)
  (hc:X.calm=true) (B:Blk X scope own js) (hit:PI X tg iter wi)
  (hg:∀s H C fp,(own++capN X.N js).Nodup->PG (blk X scope (own++capN X.N js) s H C fp) tg g) (ht:∀s H C fp,PTs (blk X scope (own++capN X.N js) s H C fp) ifs tc) (he:∀s H C fp,PE (blk X scope (own++capN X.N js) s H C fp) elt te)
  (hf:X.fn x=true∨X.env.scope.names.lookup x=some .local:=by first | exact .inl rfl | exact .inr rfl | assumption)
  (hw:FP (.ListComp elt [⟨tg,iter,ifs,0⟩] scope pos) (some (.Name x pos')) spos.line X.env=pure true:=by rfl)
  (hs:∀x,CY iter X.env x=pure x:=by intro _;rfl) :
  PS X (.Assign [.Name x pos'] (.ListComp elt [⟨tg,iter,ifs,0⟩] scope pos) spos) (λD σ H=>tW own.length js wi g tc te σ H λv H'=>D.nx (σ.set i (some v)) H'):=by
 intro pins s σ H D I h
 have hcl:EV scope X.env=pure (cS scope X.env):=cJ λx hx hf=>I.ok.has x.1 (B.free x hx hf)
 rw[F_ _ _ _ _ hw]
 refine bm (CT (bm ?_))
 show lm _ X.A (do let _ <- FJ (.ListComp elt [⟨tg,iter,ifs,0⟩] scope pos) scope X.env _ (IW []) false (eval iter X.env) (some (D1 (.Name x pos') X.env))) _ _ s
 refine bm (thn (Q:=λ_ s'=>SP X pins D .next s') (Dy (use:=some (D1 (.Name x pos') X.env)) rfl hs hcl B.kind B.names (thn (hit pins s σ H _ I h) λv s1 h1=>thn h1 λitv s2 h2=>?_)) λ_ s' q=>dL (dL q))
 refine lX (Q:=λv H'=>D.nx (σ.set i (some v)) H') (RR:=λacc C=>Hc (sn X.prog X.w) X.A X.xe (some (D1 (.Name x pos') X.env)) (λ_ s'=>SP X pins D .next s') acc C) hc B hg ht he h2 λC acc s' hb=>?_
 obtain⟨l,H',m,rfl,hn,I',c1,c2,c3,c4,c5,q⟩:=hb
 show lm _ X.A (D1 (.Name x pos') X.env (.ref l)) _ _ _
 refine FG (iA (v:=.ref l) I' hN hi hx rfl (λs3 I3 ⟨a,sb,ha⟩=>?_) hf)
 have ne:C≠a:=by
  rcases ha with z | z
  ·rw[z];exact c3
  ·exact(c4 x a z).symm
 exact⟨m,hn.sameBut sb ne,λh' hs'=>⟨_,H',I3.young hs' c1 c2 c3 c4 c5,q⟩⟩
end
section
variable {X:Cx}
def Dv (j:Int):Prop:=0<j/\j.natAbs.log2<9000
theorem Dv.small {j:Int}(h:0<j)(h2:j<1073741824):Dv j:=⟨h,by
 have e:j.natAbs≠0:=by omega
 have:j.natAbs.log2<30:=(Nat.log2_lt e).mpr (by omega)
 omega⟩
theorem mG:OpR X (Eu .FloorDiv) (rI (λ_ j=>Dv j) λi j=>.int (i / j)):=opI λi j _ _ _ _ _ hc q=>by
 rw[<- Hy i (GP hc.1)]at q
 exact floordiv_int (Kf hc.1) q (.inl (PyProof.noPylong_of_log2 hc.2))
def isaT (t T:String):Option Bool:=if(Value.type t==Value.type T)=true then some true else if PySem.W.kitMeta T=true then(fastBuiltinMro t).map (·.contains (.type T))else none
theorem oy:isaT "int" "int" = some true:=by decide +kernel
theorem mR:isaT "int" "bool" = some false:=by decide +kernel
theorem lu:isaT "int" "tuple" = some false:=by decide +kernel
theorem mS:isaT "bool" "int" = some true:=by decide +kernel
theorem lx:isaT "bool" "bool" = some true:=by decide +kernel
theorem kL:isaT "bool" "tuple" = some false:=by decide +kernel
theorem ou:isaT "str" "int" = some false:=by decide +kernel
theorem lq:isaT "str" "tuple" = some false:=by decide +kernel
theorem ox:isaT "NoneType" "int" = some false:=by decide +kernel
theorem lr:isaT "NoneType" "tuple" = some false:=by decide +kernel
theorem mQ:isaT "list" "int" = some false:=by decide +kernel
theorem kK:isaT "list" "tuple" = some false:=by decide +kernel
theorem lh:isaT "tuple" "int" = some false:=by decide +kernel
theorem gf:isaT "tuple" "tuple" = some true:=by decide +kernel
theorem wX {K:bi}{t T:String}:G0 K (.type t) (.type T)=isaT t T:=rfl
theorem wx {x:Str}{T:String}{pos:Pos}(hg:Gl X x)(hm:X.mg x=none)(hv:Cz x=some (.type T))(hn:x ≠ "__name__" := by decide)(hd:(x==("__debug__" : Str))=false:=by decide):PE X (.Name x pos) (tC (.ty T)) :=
 yD hg hm hv rfl hn hd
structure OkN (P:wE)(w:B2)(K:bi)(mg:Str->Option bn)(base:Heap)(k:Nat)(x:Str)(ps:List Str)(sp:Sp):Prop where
 ex:∃f fd,mg x=some (.ref f)/\Ci K (.ref f)=true/\kZ K fd ps []/\(∃oc od osl,K.lookup f=some ⟨oc,od,.func fd,osl⟩)/\FnOk P w K mg base CX0 k f fd ps sp
theorem bM {k:Nat}{x:Str}{ps:List Str}{sp:Sp}{p pos:Pos}{e:Expr}{es:List Expr}{t:TA}(F:OkN X.prog X.w X.K X.mg X.base k x ps sp)(hr:Room k X.A)(ha:PA X (e::es) t)(hg:Gl X x:=by rfl)
  (hdb:(x==("__debug__" : Str))=false:=by decide) (he:B1 (e::es) X.env=(false,eval e X.env)::B1 es X.env:=by rfl) (hpl:(D6 pos (B1 es X.env)).any (·.1)=false:=by rfl) :
  PE X (.Call (.Name x p) (e::es) [] pos) (yi sp [] E0 t):=by
 obtain⟨f,fd,hm,hk,hb,lk,F⟩:=F.ex
 exact yC F hr hg hm hk hb .nil wD ha hdb he hpl
structure DefN (K:bi)(mg:Str->Option bn)(x:Str)(st:Stmt)(ps:List Str):Prop where
 ex:∃f fd,mg x=some (.ref f)/\Fun K x x st f fd/\∀us:List bn,us.length=ps.length->Ia fd ⟨us,[]⟩=pure (ps.zip us)
theorem DefN.ok {P:wE}{w:B2}{K:bi}{mg:Str->Option bn}{base:Heap}{x:Str}{st:Stmt}{N ps:List Str}{k:Nat}{sp:Sp}(D:DefN K mg x st ps)(S:aQ N ps (aw st))(len:∀vs H Q E,sp vs H Q E->vs.length=ps.length)
  (hbody:∀(f:Addr) (cdv:bn) (A:Ca) (outer:List Env) (s:ca) (H:Hp) (vs:List V) (Q:VK) (E:XK),Room k (A.deeper (EU x (aw st) s.heap.objs.size f cdv))->sp vs H Q E ->
   ∃t,PSs (cxOf CX0 P w K mg base N x (aw st) f cdv A outer s H E).nox (bI st) t/\t {nx:=λ_ H'=>Q .non H',rt:=Q} (start N vs) H):OkN P w K mg base (k+1) x ps sp:=by
 obtain⟨f,fd,hm,F,hb⟩:=D.ex
 refine⟨f,fd,hm,F.kp,.all hb,?_,F.ok S len λcdv A outer s H vs Q E hr h=>hbody f cdv A outer s H vs Q E hr h⟩
 obtain⟨oc,od,kV,doc,pm,an,cdv,ct,osl,_,lk,_⟩:=F.ex
 exact⟨oc,od,osl,lk⟩
theorem bN {K:bi}{mg:Str->Option bn}{h:Heap}{x:Str}{st:Stmt}{ps:List Str}{f:Addr}{oc:bn}{od an:Option Addr}{osl:Array (Option bn)}{kV doc pm cdv ct:bn}(KX:K.In h)(G:h.Ns BZ mg)
  (a:Ck K BZ x=some (some (.ref f))) (l:K.lookup f=some ⟨oc,od,.func (CA x x (cF st) (bI st) (aw st) .none kV doc pm an cdv ct),osl⟩)
  (c:CG K cdv x=true) (k:Ci K (.ref f)=true)
  (hb:∀(kV doc pm:bn) (an:Option Addr) (cdv ct:bn) (us:List bn),us.length=ps.length->Ia (CA x x (cF st) (bI st) (aw st) .none kV doc pm an cdv ct) ⟨us,[]⟩=pure (ps.zip us)):DefN K mg x st ps :=
 ⟨f,_,DS KX G a,xX l c k,λus hl=>hb kV doc pm an cdv ct us hl⟩
theorem y0 {P:wE}{w:B2}{K:bi}{mg:Str->Option bn}{x p:Str}{st:Stmt}{k:Nat}{fa:Addr}{sp:Sp}(D:DefN K mg x st [p])(hfa:mg x=some (.ref fa))
  (F:∀base:Heap,OkN P w K mg base k x [p] sp):∃fd:EM,(∀(s:ca) (v:bn),HV s fd ⟨[v],[]⟩ [(p,v)])/\∀base:Heap,K.In base->base.Ns BZ mg->FnOk P w K mg base CX0 k fa fd [p] sp:=by
 obtain⟨f,fd,hm,F0,hb⟩:=D.ex
 obtain⟨oc,od,kV,doc,pm,an,cdv,ct,osl,_,lk,_⟩:=F0.ex
 refine⟨fd,λs v=>.of_eq (hb [v] rfl),λbase _ _=>?_⟩
 obtain⟨f',fd',hm',_,_,⟨oc',od',osl',lk'⟩,G⟩:=(F base).ex
 rw[hfa]at hm'
 cases hm'
 rw[hfa]at hm
 cases hm
 rw[lk]at lk'
 cases lk'
 exact G
end
structure BI (mg:Str->Option bn):Prop where
 len_:mg "len" = none
 range_:mg "range" = none
 isinstance_:mg "isinstance" = none
 int_:mg "int" = none
 bool_:mg "bool" = none
 list_:mg "list" = none
 tuple_:mg "tuple" = none
 str_:mg "str" = none
 sum_:mg "sum" = none
 all_:mg "all" = none
 max_:mg "max" = none
 min_:mg "min" = none
 sorted_:mg "sorted" = none
 set_:mg "set" = none
 zip_:mg "zip" = none
 enumerate_:mg "enumerate" = none
 reversed_:mg "reversed" = none
 dict_:mg "dict" = none
 any_:mg "any" = none
 abs_:mg "abs" = none
 repr_:mg "repr" = none
theorem Bz {K:bi}{mg:Str->Option bn}{h:Heap}(KX:K.In h)(G:h.Ns BZ mg)
  (len_:Ck K BZ "len" = some none) (range_:Ck K BZ "range" = some none) (isinstance_:Ck K BZ "isinstance" = some none) (int_:Ck K BZ "int" = some none) (bool_:Ck K BZ "bool" = some none) (list_:Ck K BZ "list" = some none) (tuple_:Ck K BZ "tuple" = some none) (str_:Ck K BZ "str" = some none) (sum_:Ck K BZ "sum" = some none) (all_:Ck K BZ "all" = some none) (max_:Ck K BZ "max" = some none) (min_:Ck K BZ "min" = some none) (sorted_:Ck K BZ "sorted" = some none) (set_:Ck K BZ "set" = some none) (zip_:Ck K BZ "zip" = some none) (enumerate_:Ck K BZ "enumerate" = some none) (reversed_:Ck K BZ "reversed" = some none) (dict_:Ck K BZ "dict" = some none) (any_:Ck K BZ "any" = some none) (abs_:Ck K BZ "abs" = some none) (repr_:Ck K BZ "repr" = some none):BI mg :=
 ⟨BX KX G len_,BX KX G range_,BX KX G isinstance_,BX KX G int_,BX KX G bool_,BX KX G list_,BX KX G tuple_,BX KX G str_,BX KX G sum_,BX KX G all_,BX KX G max_,BX KX G min_,BX KX G sorted_,BX KX G set_,BX KX G zip_,BX KX G enumerate_,BX KX G reversed_,BX KX G dict_,BX KX G any_,BX KX G abs_,BX KX G repr_⟩
def Grow (t:Addr)(H H':Hp):Prop:=∀b o,H b=some o->b≠t->H' b=some o
theorem Grow.refl {t:Addr}{H:Hp}:Grow t H H:=λ_ _ h _=>h
theorem Grow.upd {t:Addr}{H H':Hp}(g:Grow t H H')(o:HO):Grow t H (L2.upd H' t o):=λb u h n=>by rw[aR n];exact g b u h n
theorem Same.new {H H':Hp}{l:Addr}{o:HO}(s:Same H H')(h:H' l=none):Same H (L2.upd H' l o):=λb u e=>by
 have:=s b u e
 rw[aR (be this h)];exact this
theorem Same.seqT {K:bi}{H H':Hp}{a:Addr}{xs:List V}(e:Same H H')(h:SqT K H a xs):SqT K H' a xs:=by
 rcases h with(h | ⟨o,h⟩) | h
 ·exact .inl (.inl (e _ _ h))
 ·exact .inl (.inr ⟨o,e _ _ h⟩)
 ·exact .inr h
theorem Grow.seq {K:bi}{t:Addr}{H H':Hp}{a:Addr}{xs:List V}{kvs:List (Key×V)}(g:Grow t H H')(ht:H t=some (.dK kvs))(h:SqL K H a xs):SqL K H' a xs:=by
 rcases h with(h | ⟨o,h⟩) | h
 ·exact .inl (.inl (g _ _ h (yR h ht (by intro z;cases z))))
 ·exact .inl (.inr ⟨o,g _ _ h (yR h ht (by intro z;cases z))⟩)
 ·exact .inr h
def cL (c:Addr)(sp lf:Int):List (Key×V):=[(Sum.inr "cells",.ref c),(Sum.inr "spot",.int sp),(Sum.inr "left",.int lf)]
theorem zu:¬((Sum.inr ("cells" : Str):Key)=Sum.inr ("spot" : Str)):=by decide +kernel
theorem zw:¬((Sum.inr ("cells" : Str):Key)=Sum.inr ("left" : Str)):=by decide +kernel
theorem wb:¬((Sum.inr ("spot" : Str):Key)=Sum.inr ("left" : Str)):=by decide +kernel
theorem lC {c:Addr}{sp lf:Int}:valV (cL c sp lf) (Sum.inr "cells" : Key)=some (.ref c):=by
 simp[valV,cL]
theorem tN {c:Addr}{sp lf:Int}:valV (cL c sp lf) (Sum.inr "spot" : Key)=some (.int sp):=by
 simp only[valV,cL,CJ,decide_eq_false zu,decide_true,FD]
theorem tP {c:Addr}{sp lf:Int}:valV (cL c sp lf) (Sum.inr "left" : Key)=some (.int lf):=by
 simp only[valV,cL,CJ,decide_eq_false zw,decide_eq_false wb,decide_true,FD]
theorem mz {c:Addr}{sp lf x:Int}:putK (cL c sp lf) (Sum.inr "left" : Key) (.int x)=cL c sp x:=by
 unfold putK
 rw[if_pos (by simp[cL])]
 simp only[cL,wl,Dh,if_neg zw,if_neg wb,if_pos]
theorem wq {c:Addr}{sp lf x:Int}:putK (cL c sp lf) (Sum.inr "spot" : Key) (.int x)=cL c x lf:=by
 unfold putK
 rw[if_pos (by simp[cL])]
 simp only[cL,wl,Dh,if_neg zu,if_pos,if_neg (show ¬((Sum.inr ("left" : Str):Key)=Sum.inr ("spot" : Str))from λe=>wb e.symm)]
theorem tO {c:Addr}:fu [] [((Sum.inr ("cells" : Str):Key),V.ref c),((Sum.inr ("spot" : Str):Key),V.int 0),((Sum.inr ("left" : Str):Key),V.int 0)]=cL c 0 0:=by
 simp only[fu,D7,List.foldl_nil]
 have e1:putK ([]:List (Key×V)) (Sum.inr ("cells" : Str)) (V.ref c)=[((Sum.inr ("cells" : Str):Key),V.ref c)]:=by simp[putK]
 have e2:putK [((Sum.inr ("cells" : Str):Key),V.ref c)] (Sum.inr ("spot" : Str)) (V.int 0)=[((Sum.inr ("cells" : Str):Key),V.ref c),((Sum.inr ("spot" : Str):Key),V.int 0)]:=by
  unfold putK
  rw[if_neg (by simp only[Dt,JY,decide_eq_false zu];simp)]
  rfl
 have e3:putK [((Sum.inr ("cells" : Str):Key),V.ref c),((Sum.inr ("spot" : Str):Key),V.int 0)] (Sum.inr ("left" : Str)) (V.int 0)=cL c 0 0:=by
  unfold putK
  rw[if_neg (by simp only[Dt,JY,decide_eq_false zw,decide_eq_false wb];simp)]
  rfl
 rw[e1,e2,e3]
theorem Bx {ns:List Int}:cutV (ns.map V.int) none (some 63)=(ns.take 63).map V.int:=by
 unfold cutV
 have e0:HT.sIx (ns.map V.int).length 0 none=0:=rfl
 rw[e0,Ho,GK,EL]
 show List.take (HT.sIx _ _ (some ((63:Nat):Int))) _=_
 rw[HT.sIx_nat]
 rcases GN 63 (ns.map V.int).length with h | h
 ·rw[EZ h]
 ·rw[FF h,CC (li _),CC h]
end L2
namespace L2
theorem drawn {Q:Int->Hp->Prop}{m x:Int}{H':Hp}(hm:0<m)(k:∀r:Nat,(r:Int)<m->Q (r:Nat) H'):Q (x % m) H':=by
 obtain⟨r,e⟩:=CW (JC x (Kf hm))
 have:=I_ x hm
 rw[e]at this ⊢
 exact k r this
theorem qU {y:Int}:-(2^64)<y % 2147483647/\y % 2147483647<2^64:=by omega
theorem dv64:Dv 64:=Dv.small (by decide) (by decide)
end L2
namespace L2
open PySem PySem.Spec PyProof.Rows
theorem nu (a b:Nat):Ct (a:Int) (b:Int)=((a &&& b:Nat):Int):=by
 unfold Ct
 rw[decide_eq_true (Gu a),decide_eq_true (Gu b)]
 simp
theorem Ai (a b:Nat):Jf (a:Int) (b:Int)=((a ||| b:Nat):Int):=by
 unfold Jf Ct Builtin.bitNot
 rw[decide_eq_false (show ¬(0:Int) <= -(a:Int) - 1 by omega),decide_eq_false (show ¬(0:Int) <= -(b:Int) - 1 by omega)]
 have h1:(-(-(a:Int) - 1) - 1).toNat=a:=by omega
 have h2:(-(-(b:Int) - 1) - 1).toNat=b:=by omega
 simp only[h1,h2]
 omega
theorem ib:∀(a b:Nat),(a ^^^ b)+2*(a &&& b)=a+b:=by
 intro a
 induction a using Jy with
 | ind a ih =>
  intro b
  by_cases h0:a=0
  ·subst h0;simp
  ·have h:=ih (a / 2) (by omega) (b / 2)
   have e1:(a ^^^ b) / 2=a / 2 ^^^ b / 2:=Nat.xor_div_two
   have e2:(a &&& b) / 2=a / 2 &&& b / 2:=Nat.and_div_two
   have e3:(a ^^^ b) % 2=(a+b) % 2:=by
    have:=Er a b 0
    rw[Ei,Ei,Ei]at this
    rcases Cy a with p | p <;> rcases Cy b with q | q <;> rcases Cy (a ^^^ b)with r | r <;> simp[p,q,r]at this <;> omega
   have e4:(a &&& b) % 2=(a % 2)*(b % 2):=by
    have:=EX a b 0
    rw[Ei,Ei,Ei]at this
    rcases Cy a with p | p <;> rcases Cy b with q | q <;> rcases Cy (a &&& b)with r | r <;> simp[p,q,r]at this <;> simp[p,q,r]
   rcases Cy a with p | p <;> rcases Cy b with q | q <;> rw[p,q]at e4 <;> omega
theorem l9 (a b:Nat):Et (a:Int) (b:Int)=((a ^^^ b:Nat):Int):=by
 unfold Et
 rw[Ai,nu]
 have h1:(a ||| b)+(a &&& b)=a+b:=by
  have:=ib a b
  have e:(a ||| b)=(a ^^^ b)+(a &&& b):=by
   have h2:=ib (a ^^^ b) (a &&& b)
   have h3:(a ^^^ b) &&& (a &&& b)=0:=by
    apply F4
    intro i
    simp only[EX,Er,G1]
    cases a.testBit i <;> cases b.testBit i <;> rfl
   have h4:(a ^^^ b) ^^^ (a &&& b)=a ||| b:=by
    apply F4
    intro i
    simp only[EX,Er,Nat.testBit_or]
    cases a.testBit i <;> cases b.testBit i <;> rfl
   rw[h3,h4]at h2
   omega
  omega
 have:=ib a b
 omega
theorem yp (a k:Nat):(a:Int) / 2^((k:Int).toNat)=((a >>> k:Nat):Int):=by
 rw[Cr,Nat.shiftRight_eq_div_pow]
 exact(Int.natCast_ediv a (2^k)).symm.trans (by norm_cast) |>.symm▸(by simp)
theorem zy (a k:Nat):Ct ((a:Int) / 2^((k:Int).toNat)) 1=if a.testBit k then 1 else 0:=by
 rw[yp,show(1:Int)=((1:Nat):Int)from rfl,nu]
 have:(a >>> k) &&& 1=(a.testBit k).toNat:=by
  rw[Nat.and_one_is_mod,Nat.testBit]
  rw[Nat.one_and_eq_mod_two]
  rcases Cy (a >>> k)with p | p <;> simp[p]
 rw[this]
 cases a.testBit k <;> rfl
theorem ji (k:Nat):(1:Int)*(2:Int)^((k:Int).toNat)=((1 <<< k:Nat):Int):=by
 rw[Cr,FE,Int.one_mul,G4]
 simp
def yk (K:bi):Sp:=λvs H Q _=>∃(a:Addr) (ns:List Int),vs=[.ref a]/\SqL K H a (ns.map V.int)/\ns.length<=63/\∀H',Q (.bl true) H'
theorem fA:Cz "len" = some (.builtin "len"):=by decide +kernel
theorem xp:Cz "range" = some (.type "range"):=by decide +kernel
theorem eh:Cz "isinstance" = some (.builtin "isinstance"):=by decide +kernel
theorem A7:Cz "int" = some (.type "int"):=by decide +kernel
theorem zx:Cz "bool" = some (.type "bool"):=by decide +kernel
theorem nh:Cz "list" = some (.type "list"):=by decide +kernel
theorem eY:Cz "tuple" = some (.type "tuple"):=by decide +kernel
theorem A8:Cz "all" = some (.builtin "all"):=by decide +kernel
theorem A6:Cz "max" = some (.builtin "max"):=by decide +kernel
theorem A5:Cz "min" = some (.builtin "min"):=by decide +kernel
theorem oT:Cz "sorted" = some (.builtin "sorted"):=by decide +kernel
theorem gQ:Cz "enumerate" = some (.type "enumerate"):=by decide +kernel
theorem qA:Cz "reversed" = some (.type "reversed"):=by decide +kernel
section
variable {X:Cx}{a b e o:Expr}{es:List Expr}{ta tb te to:TE}{t:TA}{pos apos cpos:Pos}(K:bi)
theorem eF (ha:PE X a ta)(he:∀whole,Fw a X.env whole=(do let v <- whole;Eg a.pos;Gz [v] (truthy v)))(hK:X.K=K:=by rfl) :
  PT X a (λσ H Q=>ta σ H λx H'=>∃k,TruV K x H' k/\Q k H'):=by subst hK;exact wt ha he
theorem lH (hK:X.K=K:=by rfl):OpR X (Do .In) (rIn K false):=by subst hK;exact ur
theorem cI (hK:X.K=K:=by rfl):OpR X (Do .NotIn) (rIn K true):=by subst hK;exact nQ
theorem aT (hK:X.K=K:=by rfl):IxR X (rIx K):=by subst hK;exact AK
theorem iD (hK:X.K=K:=by rfl):SlR X (rSlL K):=by subst hK;exact yo
theorem cg (hK:X.K=K:=by rfl):iq X (.builtin "len") (λxs H Q=>∃p ys,xs=[.ref p]/\(SqL K H p ys∨SqT K H p ys)/\Q (.int ys.length) H):=by subst hK;exact oS
theorem l7 (hK:X.K=K:=by rfl):iq X (.type "list") (λxs H Q=>∃p ys,xs=[.ref p]/\(SqL K H p ys∨SqT K H p ys)/\∀l,H l=none->Q (.ref l) (upd H l (.lst ys))):=by subst hK;exact oR
theorem dD (hK:X.K=K:=by rfl):iq X (.type "tuple") (λxs H Q=>∃p ys,xs=[.ref p]/\((SqL K H p ys/\∀l,H l=none->Q (.ref l) (upd H l (.tup ys)))∨(SqT K H p ys/\Q (.ref p) H))):=by subst hK;exact ng
theorem bB {es:List Expr}{k:Nat}{t:TGs}{n:Nat}(hc:X.calm=true)(h:PGs X es t)(hn:(EW es X.env).length=n:=by rfl)(hst:(EW es X.env).findIdx? (·.1)=none:=by rfl)(hK:X.K=K:=by rfl) :
  PG X (.Tuple es k pos) (gTup K n t):=by subst hK;exact Ad hc h hn hst
variable {name:Str}{T id:String}{r:V->List V->Hp->VK->Prop}
theorem fo (pa:PlainAttrs T)(slot:Slot T name id)(hty:typeOf (.builtin id)=pure (.type "method_descriptor"))(hm:MtR X id r)(ho:PE X o to)(ha:PA X (e::es) t)
  (hbase:FK o name X.env (eval o X.env)=eval o X.env:=by rfl)
  (hfew:((D6 cpos (B1 (e::es) X.env)).all (λx=>!x.1)&&(Gp cpos (E_ [] X.env)).all (λx=>x.1.isSome)&&decide ((e::es).length+([]:List HR).length+(if([]:List HR).isEmpty then 0 else 1)<30))=true:=by rfl)
  (hline:(apos.endLine==cpos.line)=true:=by rfl) (he:B1 (e::es) X.env=(false,eval e X.env)::B1 es X.env:=by rfl) (hpl:(D6 cpos (B1 es X.env)).any (·.1)=false:=by rfl)
  (hK:X.K=K:=by rfl):PE X (.Call (.Attribute o name apos) (e::es) [] cpos) (tBM K T r to t):=by
 subst hK
 exact Bo pa slot hty hm ho ha hbase hfew hline he hpl
end
inductive D where
 | non | bl (b:Bool) | int (i:Int) | str (x:Str) | tup (ds:List D) | lst (ds:List D)
def StT (H:Hp)(a:Addr)(xs:List V):Prop:=H a=some (.tup xs)
theorem StT.sq {K:bi}{H:Hp}{a:Addr}{xs:List V}(h:StT H a xs):SqT K H a xs:=SqT.of h
instance {K:bi} {H:Hp} {a:Addr} {xs:List V}:Coe (StT H a xs) (SqT K H a xs):=⟨StT.sq⟩
def StL (H:Hp)(a:Addr)(xs:List V):Prop:=H a=some (.lst xs)
theorem StL.sq {K:bi}{H:Hp}{a:Addr}{xs:List V}(h:StL H a xs):SqL K H a xs:=SqL.of h
instance {K:bi} {H:Hp} {a:Addr} {xs:List V}:Coe (StL H a xs) (SqL K H a xs):=⟨StL.sq⟩
mutual
def RepD (K:bi)(H:Hp):V->D->Prop
 | v,.non=>v = .non
 | v,.bl b=>v = .bl b
 | v,.int i=>v = .int i
 | v,.str x=>v = .str x
 | v,.tup ds=>∃a vs,v = .ref a/\StT H a vs/\RepDs K H vs ds
 | v,.lst ds=>∃a vs,v = .ref a/\StL H a vs/\RepDs K H vs ds
def RepDs (K:bi)(H:Hp):List V->List D->Prop
 | [],[]=>True
 | v::vs,d::ds=>RepD K H v d/\RepDs K H vs ds
 | _,_=>False
end
mutual
def eqD:D->D->Bool
 | .non,.non=>true
 | .bl a,.bl b=>a==b
 | .bl a,.int b=>(if a then 1 else 0)==b
 | .int a,.bl b=>a==(if b then 1 else 0)
 | .int a,.int b=>a==b
 | .str a,.str b=>a==b
 | .tup ds,.tup es=>eqDs ds es
 | .lst ds,.lst es=>eqDs ds es
 | _,_=>false
def eqDs:List D->List D->Bool
 | [],[]=>true
 | d::ds,e::es=>eqD d e&&eqDs ds es
 | _,_=>false
end
mutual
def D.depth:D->Nat
 | .tup ds=>depths ds+1
 | .lst ds=>depths ds+1
 | _=>0
def depths:List D->Nat
 | []=>0
 | d::ds=>max d.depth (depths ds)
end
section
variable {K:bi}{H H':Hp}
theorem RepDs.length:∀ {vs:List V} {ds:List D},RepDs K H vs ds->vs.length=ds.length
 | [],[],_=>rfl
 | v::vs,d::ds,h=>by
  unfold RepDs at h
  rw[At,At,RepDs.length h.2]
 | [],d::ds,h=>by unfold RepDs at h;exact h.elim
 | v::vs,[],h=>by unfold RepDs at h;exact h.elim
theorem RepDs.get:∀ {vs:List V} {ds:List D} {i:Nat} {d:D},RepDs K H vs ds->ds[i]? = some d->∃v,vs[i]? = some v/\RepD K H v d
 | [],[],_,_,_,e=>by simp at e
 | v::vs,d::ds,0,_,h,e=>by
  unfold RepDs at h
  simp at e;subst e
  exact⟨v,rfl,h.1⟩
 | v::vs,d::ds,i+1,_,h,e=>by
  unfold RepDs at h
  obtain⟨u,a,b⟩:=RepDs.get (i:=i) h.2 (by simpa using e)
  exact⟨u,by simpa using a,b⟩
 | [],d::ds,_,_,h,_=>by unfold RepDs at h;exact h.elim
 | v::vs,[],_,_,h,_=>by unfold RepDs at h;exact h.elim
theorem RepDs.getV:∀ {vs:List V} {ds:List D} {i:Nat} {v:V},RepDs K H vs ds->vs[i]? = some v->∃d,ds[i]? = some d/\RepD K H v d
 | [],[],_,_,_,e=>by simp at e
 | v::vs,d::ds,0,_,h,e=>by
  unfold RepDs at h
  simp at e;subst e
  exact⟨d,rfl,h.1⟩
 | v::vs,d::ds,i+1,_,h,e=>by
  unfold RepDs at h
  obtain⟨u,a,b⟩:=RepDs.getV (i:=i) h.2 (by simpa using e)
  exact⟨u,by simpa using a,b⟩
 | [],d::ds,_,_,h,_=>by unfold RepDs at h;exact h.elim
 | v::vs,[],_,_,h,_=>by unfold RepDs at h;exact h.elim
theorem RepDs.append:∀ {vs ws:List V} {ds es:List D},RepDs K H vs ds->RepDs K H ws es->RepDs K H (vs++ws) (ds++es)
 | [],ws,[],es,_,h=>h
 | v::vs,ws,d::ds,es,h,h'=>by
  unfold RepDs at h
  show RepDs K H (v::(vs++ws)) (d::(ds++es))
  unfold RepDs
  exact⟨h.1,RepDs.append h.2 h'⟩
 | [],_,d::ds,_,h,_=>by unfold RepDs at h;exact h.elim
 | v::vs,_,[],_,h,_=>by unfold RepDs at h;exact h.elim
theorem RepDs.one {v:V}{d:D}(h:RepD K H v d):RepDs K H [v] [d]:=by unfold RepDs;exact⟨h,by unfold RepDs;trivial⟩
theorem RepDs.nil:RepDs K H [] []:=by unfold RepDs;trivial
theorem RepDs.cons {v:V}{d:D}{vs:List V}{ds:List D}(h:RepD K H v d)(t:RepDs K H vs ds):RepDs K H (v::vs) (d::ds):=by unfold RepDs;exact⟨h,t⟩
theorem jm:∀ {vs:List V} {ns:List Int},RepDs K H vs (ns.map D.int)↔vs=ns.map V.int
 | [],[]=>by simp[RepDs]
 | v::vs,n::ns=>by
  have ih:=@jm vs ns
  rw[wl,wl]
  unfold RepDs RepD
  rw[ih]
  constructor
  ·rintro⟨rfl,rfl⟩;rfl
  ·intro h;injection h with h1 h2;exact⟨h1,h2⟩
 | [],n::ns=>by rw[wl];unfold RepDs;simp
 | v::vs,[]=>by rw[Dh];unfold RepDs;simp
mutual
theorem RepD.keep (hl:∀a vs,StL H a vs->StL H' a vs)(ht:∀a vs,StT H a vs->StT H' a vs):∀ {v:V} {d:D},RepD K H v d->RepD K H' v d
 | v,.non,h=>by unfold RepD at h ⊢;exact h
 | v,.bl b,h=>by unfold RepD at h ⊢;exact h
 | v,.int i,h=>by unfold RepD at h ⊢;exact h
 | v,.str x,h=>by unfold RepD at h ⊢;exact h
 | v,.tup ds,h=>by
  unfold RepD at h ⊢
  obtain⟨a,vs,e,h1,h2⟩:=h
  exact⟨a,vs,e,ht _ _ h1,RepDs.keep hl ht h2⟩
 | v,.lst ds,h=>by
  unfold RepD at h ⊢
  obtain⟨a,vs,e,h1,h2⟩:=h
  exact⟨a,vs,e,hl _ _ h1,RepDs.keep hl ht h2⟩
theorem RepDs.keep (hl:∀a vs,StL H a vs->StL H' a vs)(ht:∀a vs,StT H a vs->StT H' a vs):∀ {vs:List V} {ds:List D},RepDs K H vs ds->RepDs K H' vs ds
 | [],[],_=>RepDs.nil
 | v::vs,d::ds,h=>by
  unfold RepDs at h ⊢
  exact⟨RepD.keep hl ht h.1,RepDs.keep hl ht h.2⟩
 | [],d::ds,h=>by unfold RepDs at h;exact h.elim
 | v::vs,[],h=>by unfold RepDs at h;exact h.elim
end
theorem RepD.same {v:V}{d:D}(h:RepD K H v d)(s:Same H H'):RepD K H' v d:=h.keep (λ_ _ q=>s _ _ q) λ_ _ q=>s _ _ q
theorem RepDs.same {vs:List V}{ds:List D}(h:RepDs K H vs ds)(s:Same H H'):RepDs K H' vs ds:=h.keep (λ_ _ q=>s _ _ q) λ_ _ q=>s _ _ q
end
mutual
theorem g9:∀d:D,eqD d d=true
 | .non=>by simp[eqD]
 | .bl b=>by simp[eqD]
 | .int i=>by simp[eqD]
 | .str x=>by simp[eqD]
 | .tup ds=>by unfold eqD;exact eqDs_refl ds
 | .lst ds=>by unfold eqD;exact eqDs_refl ds
theorem eqDs_refl:∀ds:List D,eqDs ds ds=true
 | []=>by simp[eqDs]
 | d::ds=>by unfold eqDs;rw[g9 d,eqDs_refl ds];rfl
end
section
variable {X:Cx}{pins:List (Addr×Obj)}{σ:St}{H:Hp}{s:ca}
mutual
theorem mx (I:Inv X pins σ H s):∀ {v:V} {d e:D},RepD X.K H v d->RepD X.K H v e->d=e
 | v,.non,e,h,h'=>by
  unfold RepD at h;subst h
  cases e <;> (unfold RepD at h';first | rfl | (obtain⟨_,_,z,_⟩:=h';cases z) | cases h')
 | v,.bl b,e,h,h'=>by
  unfold RepD at h;subst h
  cases e <;> (unfold RepD at h';first | (cases h';rfl) | (obtain⟨_,_,z,_⟩:=h';cases z) | cases h')
 | v,.int b,e,h,h'=>by
  unfold RepD at h;subst h
  cases e <;> (unfold RepD at h';first | (cases h';rfl) | (obtain⟨_,_,z,_⟩:=h';cases z) | cases h')
 | v,.str b,e,h,h'=>by
  unfold RepD at h;subst h
  cases e <;> (unfold RepD at h';first | (cases h';rfl) | (obtain⟨_,_,z,_⟩:=h';cases z) | cases h')
 | v,.tup ds,e,h,h'=>by
  unfold RepD at h
  obtain⟨a,vs,rfl,h1,h2⟩:=h
  cases e with
  | tup es =>
   unfold RepD at h'
   obtain⟨b,ws,z,g1,g2⟩:=h'
   cases z
   rw[I.tuple_inj g1.sq h1.sq]at g2
   rw[repDs_inj I h2 g2]
  | lst es =>
   unfold RepD at h'
   obtain⟨b,ws,z,g1,g2⟩:=h'
   cases z
   obtain⟨_,_,⟨o,n,e1,c1,_⟩,_⟩:=I.list (StL.sq g1)
   obtain⟨_,_,⟨o',e2,c2,_⟩,_⟩:=I.tuple h1.sq
   rw[e1]at e2;cases e2
   rw[c1]at c2
   exact absurd c2 (by decide)
  | non=>unfold RepD at h';cases h'
  | bl _=>unfold RepD at h';cases h'
  | int _=>unfold RepD at h';cases h'
  | str _=>unfold RepD at h';cases h'
 | v,.lst ds,e,h,h'=>by
  unfold RepD at h
  obtain⟨a,vs,rfl,h1,h2⟩:=h
  cases e with
  | lst es =>
   unfold RepD at h'
   obtain⟨b,ws,z,g1,g2⟩:=h'
   cases z
   rw[I.list_inj (StL.sq g1) (StL.sq h1)]at g2
   rw[repDs_inj I h2 g2]
  | tup es =>
   unfold RepD at h'
   obtain⟨b,ws,z,g1,g2⟩:=h'
   cases z
   obtain⟨_,_,⟨o,n,e1,c1,_⟩,_⟩:=I.list (StL.sq h1)
   obtain⟨_,_,⟨o',e2,c2,_⟩,_⟩:=I.tuple g1.sq
   rw[e1]at e2;cases e2
   rw[c1]at c2
   exact absurd c2 (by decide)
  | non=>unfold RepD at h';cases h'
  | bl _=>unfold RepD at h';cases h'
  | int _=>unfold RepD at h';cases h'
  | str _=>unfold RepD at h';cases h'
theorem repDs_inj (I:Inv X pins σ H s):∀ {vs:List V} {ds es:List D},RepDs X.K H vs ds->RepDs X.K H vs es->ds=es
 | [],[],[],_,_=>rfl
 | v::vs,d::ds,e::es,h,h'=>by
  unfold RepDs at h h'
  rw[mx I h.1 h'.1,repDs_inj I h.2 h'.2]
 | [],d::ds,_,h,_=>by unfold RepDs at h;exact h.elim
 | v::vs,[],_,h,_=>by unfold RepDs at h;exact h.elim
 | [],_,d::ds,_,h=>by unfold RepDs at h;exact h.elim
 | v::vs,_,[],_,h=>by unfold RepDs at h;exact h.elim
end
end
theorem iW (A:Ca):A.in1.units=A.units+1:=rfl
theorem lV:∀ {ds:List D} {j:Nat} {d:D},ds[j]? = some d->d.depth<=depths ds
 | [],_,_,h=>by simp at h
 | d::ds,0,_,h=>by simp at h;subst h;unfold depths;omega
 | d::ds,j+1,e,h=>by
  have:=lV (ds:=ds) (j:=j) (by simpa using h)
  unfold depths;omega
def oG (ds es:List D)(j:Nat):Bool:=match ds[j]?,es[j]? with
 | some d,some e=>eqD d e
 | _,_=>true
theorem fz:∀ {ds es:List D},ds.length=es.length->(sK ds.length).all (oG ds es)=eqDs ds es
 | [],[],_=>by simp[eqDs]
 | d::ds,e::es,h=>by
  have ih:=fz (ds:=ds) (es:=es) (by simpa using h)
  rw[At,List.range_succ_eq_map,Fs,JZ]
  unfold eqDs
  rw[<- ih]
  congr 1
 | [],_::_,h=>by simp at h
 | _::_,[],h=>by simp at h
theorem dR:∀ {ds es:List D},ds.length≠es.length->eqDs ds es=false
 | [],[],h=>absurd rfl h
 | [],_::_,_=>by simp[eqDs]
 | _::_,[],_=>by simp[eqDs]
 | d::ds,e::es,h=>by
  unfold eqDs
  rw[dR (ds:=ds) (es:=es) (by simpa using h),FX]
section
variable {X:Cx}{pins:List (Addr×Obj)}{σ:St}{H:Hp}{s:ca}
theorem jS (I:Inv X pins σ H s){m:Nat}(ih:∀ {A:Ca} {v u:V} {vv uu:bn} {d e:D},d.depth<=m->A.units+m<EI->RelV v vv->RelV u uu->RepD X.K H v d->RepD X.K H u e->Fb A s vv uu (eqD d e)){A:Ca}(hu:A.units+m<EI)
  {vs us:List V} {vvs uus:List bn} {ds es:List D} (hd:depths ds<=m) (rv:Vals vs vvs) (ru:Vals us uus) (hv:RepDs X.K H vs ds) (he:RepDs X.K H us es) :
  ∀j (h1:j<vvs.toArray.size) (h2:j<uus.toArray.size),Fb A s vvs.toArray[j] uus.toArray[j] (oG ds es j):=by
 intro j h1 h2
 rw[on]at h1 h2
 have l1:=rv.length
 have l2:=ru.length
 have g1:vs[j]? = some vs[j]:=bv (by omega)
 have g2:us[j]? = some us[j]:=bv (by omega)
 obtain⟨x,ex,rx⟩:=rv.get g1
 obtain⟨y,ey,ry⟩:=ru.get g2
 obtain⟨d,ed,rd⟩:=hv.getV g1
 obtain⟨e,ee,re⟩:=he.getV g2
 rw[bv h1]at ex
 rw[bv h2]at ey
 cases ex
 cases ey
 have:oG ds es j=eqD d e:=by unfold oG;rw[ed,ee]
 rw[this,FW,FW]
 exact ih (xL (lV ed) hd) hu rx ry rd re
theorem xI (I:Inv X pins σ H s)(n:Nat)(ih:0<n->∀ {A:Ca} {v u:V} {vv uu:bn} {d e:D},d.depth<=n - 1->A.units+(n - 1)<EI->RelV v vv->RelV u uu->RepD X.K H v d->RepD X.K H u e->Fb A s vv uu (eqD d e))
  {A:Ca} {v u:V} {vv uu:bn} {d e:D} (hd:d.depth<=n) (hu:A.units+n<EI) (rv:RelV v vv) (ru:RelV u uu) (hv:RepD X.K H v d) (he:RepD X.K H u e):He A s vv uu (eqD d e)/\Fb A s vv uu (eqD d e):=by
 have hu0:A.units<EI:=by omega
 have isL:∀ {a xs},StL H a xs->∃its:List bn,Vals xs its/\s.heap.IsList a its.toArray:=λq=>by
  obtain⟨its,r,p,_⟩:=I.list q.sq
  exact⟨its,r,p.isList⟩
 have isT:∀ {a xs},StT H a xs->∃its:List bn,Vals xs its/\s.heap.IsTuple a its.toArray:=λq=>by
  obtain⟨its,r,p,_⟩:=I.tuple q.sq
  exact⟨its,r,p⟩
 cases d with
 | non =>
  unfold RepD at hv;subst hv;cases rv
  cases e with
  | non=>unfold RepD at he;subst he;cases ru;exact⟨.none_none,.same _⟩
  | bl b=>unfold RepD at he;subst he;cases ru;exact⟨.none_bool _,.none_bool _⟩
  | int b=>unfold RepD at he;subst he;obtain⟨t,rfl⟩:=ru;exact⟨.none_int _ _,.none_int _ _⟩
  | str b=>unfold RepD at he;subst he;obtain⟨t,rfl⟩:=ru;exact⟨.none_str _ _,.none_str _ _⟩
  | tup es=>unfold RepD at he;obtain⟨a,vs,rfl,q,_⟩:=he;cases ru;obtain⟨its,_,q⟩:=isT q;exact⟨.none_tuple q hu0,.none_tuple q hu0⟩
  | lst es=>unfold RepD at he;obtain⟨a,vs,rfl,q,_⟩:=he;cases ru;obtain⟨its,_,q⟩:=isL q;exact⟨.none_list q hu0,.none_list q hu0⟩
 | bl x =>
  unfold RepD at hv;subst hv;cases rv
  cases e with
  | non=>unfold RepD at he;subst he;cases ru;exact⟨.bool_none _,.bool_none _⟩
  | bl b=>unfold RepD at he;subst he;cases ru;exact⟨.bool_bool _ _,.bool_bool _ _⟩
  | int b=>unfold RepD at he;subst he;obtain⟨t,rfl⟩:=ru;exact⟨.bool_int _ _ _,.bool_int _ _ _⟩
  | str b=>unfold RepD at he;subst he;obtain⟨t,rfl⟩:=ru;exact⟨.bool_str _ _ _,.bool_str _ _ _⟩
  | tup es=>unfold RepD at he;obtain⟨a,vs,rfl,q,_⟩:=he;cases ru;obtain⟨its,_,q⟩:=isT q;exact⟨.bool_tuple _ q hu0,.bool_tuple _ q hu0⟩
  | lst es=>unfold RepD at he;obtain⟨a,vs,rfl,q,_⟩:=he;cases ru;obtain⟨its,_,q⟩:=isL q;exact⟨.bool_list _ q hu0,.bool_list _ q hu0⟩
 | int x =>
  unfold RepD at hv;subst hv;obtain⟨t0,rfl⟩:=rv
  cases e with
  | non=>unfold RepD at he;subst he;cases ru;exact⟨.int_none _ _,.int_none _ _⟩
  | bl b=>unfold RepD at he;subst he;cases ru;exact⟨.int_bool _ _ _,.int_bool _ _ _⟩
  | int b=>unfold RepD at he;subst he;obtain⟨t,rfl⟩:=ru;exact⟨.int_int _ _ _ _,.int_int _ _ _ _⟩
  | str b=>unfold RepD at he;subst he;obtain⟨t,rfl⟩:=ru;exact⟨.int_str _ _ _ _,.int_str _ _ _ _⟩
  | tup es=>unfold RepD at he;obtain⟨a,vs,rfl,q,_⟩:=he;cases ru;obtain⟨its,_,q⟩:=isT q;exact⟨.int_tuple _ _ q hu0,.int_tuple _ _ q hu0⟩
  | lst es=>unfold RepD at he;obtain⟨a,vs,rfl,q,_⟩:=he;cases ru;obtain⟨its,_,q⟩:=isL q;exact⟨.int_list _ _ q hu0,.int_list _ _ q hu0⟩
 | str x =>
  unfold RepD at hv;subst hv;obtain⟨t0,rfl⟩:=rv
  cases e with
  | non=>unfold RepD at he;subst he;cases ru;exact⟨.str_none _ _,.str_none _ _⟩
  | bl b=>unfold RepD at he;subst he;cases ru;exact⟨.str_bool _ _ _,.str_bool _ _ _⟩
  | int b=>unfold RepD at he;subst he;obtain⟨t,rfl⟩:=ru;exact⟨.str_int _ _ _ _,.str_int _ _ _ _⟩
  | str b=>unfold RepD at he;subst he;obtain⟨t,rfl⟩:=ru;exact⟨.str_str _ _ _ _,.str_str _ _ _ _⟩
  | tup es=>unfold RepD at he;obtain⟨a,vs,rfl,q,_⟩:=he;cases ru;obtain⟨its,_,q⟩:=isT q;exact⟨.str_tuple _ _ q hu0,.str_tuple _ _ q hu0⟩
  | lst es=>unfold RepD at he;obtain⟨a,vs,rfl,q,_⟩:=he;cases ru;obtain⟨its,_,q⟩:=isL q;exact⟨.str_list _ _ q hu0,.str_list _ _ q hu0⟩
 | tup ds =>
  have hv0:=hv
  unfold RepD at hv
  obtain⟨a,vs,rfl,q,hq⟩:=hv
  cases rv
  obtain⟨its,r1,q1⟩:=isT q
  cases e with
  | non=>unfold RepD at he;subst he;cases ru;exact⟨.tuple_none q1 hu0,.tuple_none q1 hu0⟩
  | bl b=>unfold RepD at he;subst he;cases ru;exact⟨.tuple_bool _ q1 hu0,.tuple_bool _ q1 hu0⟩
  | int b=>unfold RepD at he;subst he;obtain⟨t,rfl⟩:=ru;exact⟨.tuple_int _ _ q1 hu0,.tuple_int _ _ q1 hu0⟩
  | str b=>unfold RepD at he;subst he;obtain⟨t,rfl⟩:=ru;exact⟨.tuple_str _ _ q1 hu0,.tuple_str _ _ q1 hu0⟩
  | lst es=>unfold RepD at he;obtain⟨b,ws,rfl,g,_⟩:=he;cases ru;obtain⟨its2,_,g1⟩:=isL g;exact⟨.tuple_list q1 g1 hu0,.tuple_list q1 g1 hu0⟩
  | tup es =>
   have he0:=he
   unfold RepD at he
   obtain⟨b,ws,rfl,g,hg⟩:=he
   cases ru
   obtain⟨its2,r2,g1⟩:=isT g
   have hd':depths ds+1<=n:=by simpa [D.depth] using hd
   have l1:=r1.length
   have l2:=r2.length
   have m1:=hq.length
   have m2:=hg.length
   have rc:He A s (.ref a) (.ref b) (eqD (.tup ds) (.tup es)):=by
    have:=SeqAt.RcAt.tuples (e:=oG ds es) q1 g1 hu0 (jS I (λ{A} {v} {u} {vv} {uu} {d} {e}=>ih (by omega) (A:=A)) (A:=A.in1) (by rw[iW];omega) (m:=n - 1) (by omega) r1 r2 hq hg)
    rw[on,on]at this
    unfold eqD
    by_cases hl:ds.length=es.length
    ·have z:(its.length==its2.length)=true:=by rw[beq_iff_eq];omega
     have mm:min its.length its2.length=ds.length:=by omega
     rw[z,HJ,mm,fz hl]at this
     exact this
    ·have z:(its.length==its2.length)=false:=by rw[beq_eq_false_iff_ne];omega
     rw[z,FX]at this
     rw[dR hl]
     exact this
   refine⟨rc,?_⟩
   by_cases hab:a=b
   ·subst hab
    rw[mx I hv0 he0,g9]
    exact .same _
   ·exact .of_refs hab rc
 | lst ds =>
  have hv0:=hv
  unfold RepD at hv
  obtain⟨a,vs,rfl,q,hq⟩:=hv
  cases rv
  obtain⟨its,r1,q1⟩:=isL q
  cases e with
  | non=>unfold RepD at he;subst he;cases ru;exact⟨.list_none q1 hu0,.list_none q1 hu0⟩
  | bl b=>unfold RepD at he;subst he;cases ru;exact⟨.list_bool _ q1 hu0,.list_bool _ q1 hu0⟩
  | int b=>unfold RepD at he;subst he;obtain⟨t,rfl⟩:=ru;exact⟨.list_int _ _ q1 hu0,.list_int _ _ q1 hu0⟩
  | str b=>unfold RepD at he;subst he;obtain⟨t,rfl⟩:=ru;exact⟨.list_str _ _ q1 hu0,.list_str _ _ q1 hu0⟩
  | tup es=>unfold RepD at he;obtain⟨b,ws,rfl,g,_⟩:=he;cases ru;obtain⟨its2,_,g1⟩:=isT g;exact⟨.list_tuple q1 g1 hu0,.list_tuple q1 g1 hu0⟩
  | lst es =>
   have he0:=he
   unfold RepD at he
   obtain⟨b,ws,rfl,g,hg⟩:=he
   cases ru
   obtain⟨its2,r2,g1⟩:=isL g
   have hd':depths ds+1<=n:=by simpa [D.depth] using hd
   have l1:=r1.length
   have l2:=r2.length
   have m1:=hq.length
   have m2:=hg.length
   have rc:He A s (.ref a) (.ref b) (eqD (.lst ds) (.lst es)):=by
    unfold eqD
    by_cases hl:ds.length=es.length
    ·have:=SeqAt.RcAt.lists (e:=oG ds es) q1 g1 (by rw[on,on];omega) hu0 (jS I (λ{A} {v} {u} {vv} {uu} {d} {e}=>ih (by omega) (A:=A)) (A:=A.in1) (by rw[iW];omega) (m:=n - 1) (by omega) r1 r2 hq hg)
     rw[on,show its.length=ds.length by omega,fz hl]at this
     exact this
    ·rw[dR hl]
     exact SeqAt.RcAt.lists_lengths q1 g1 (by rw[on,on,bne_iff_ne];omega) hu0
   refine⟨rc,?_⟩
   by_cases hab:a=b
   ·subst hab
    rw[mx I hv0 he0,g9]
    exact .same _
   ·exact .of_refs hab rc
theorem ud (I:Inv X pins σ H s):∀(n:Nat) {A:Ca} {v u:V} {vv uu:bn} {d e:D},d.depth<=n->A.units+n<EI->RelV v vv->RelV u uu->RepD X.K H v d->RepD X.K H u e ->
  He A s vv uu (eqD d e)/\Fb A s vv uu (eqD d e):=by
 intro n
 induction n with
 | zero=>exact λhd hu=>xI I 0 (λhlt=>absurd hlt (by omega)) hd hu
 | succ n ih=>exact λhd hu=>xI I (n+1) (λ_ A v u vv uu d e h1 h2 h3 h4 h5 h6=>(ih (A:=A) h1 h2 h3 h4 h5 h6).2) hd hu
end
section
variable {X:Cx}(K:bi)
def rEqD (K:bi):R2:=λx y H Q=>∃d e,RepD K H x d/\RepD K H y e/\d.depth<=60/\Q (.bl (eqD d e)) H
def rNeD (K:bi):R2:=λx y H Q=>∃d e,RepD K H x d/\RepD K H y e/\d.depth<=60/\Q (.bl (!eqD d e)) H
theorem gA (hu:X.A.units+64<EI)(hK:X.K=K:=by rfl):OpR X (Do .Eq) (rEqD K):=by
 subst hK
 intro pins s σ H x y v u Q I rx ry h
 obtain⟨d,e,hd,he,hz,q⟩:=h
 exact(ud I 60 hz (by omega) rx ry hd he).1 X.prog X.w _ _ ⟨.bl _,H,I,rfl,q⟩
theorem z8 {pins:List (Addr×Obj)}{σ:St}{H:Hp}{s:ca}(I:Inv X pins σ H s){A:Ca}{v u:V}{vv uu:bn}{d e:D}(hd:d.depth<=60)(hu:A.units+61<EI)(rv:RelV v vv)(ru:RelV u uu)(hv:RepD X.K H v d)(he:RepD X.K H u e) :
  SeqAt.RcNeAt A s vv uu (!eqD d e):=by
 have hu0:A.units<EI:=by omega
 have isL:∀ {a xs},StL H a xs->∃its:List bn,Vals xs its/\s.heap.IsList a its.toArray:=λq=>by
  obtain⟨its,r,p,_⟩:=I.list q.sq
  exact⟨its,r,p.isList⟩
 have isT:∀ {a xs},StT H a xs->∃its:List bn,Vals xs its/\s.heap.IsTuple a its.toArray:=λq=>by
  obtain⟨its,r,p,_⟩:=I.tuple q.sq
  exact⟨its,r,p⟩
 cases d with
 | non =>
  unfold RepD at hv;subst hv;cases rv
  cases e with
  | non=>unfold RepD at he;subst he;cases ru;exact .none_none
  | bl b=>unfold RepD at he;subst he;cases ru;exact .none_bool _
  | int b=>unfold RepD at he;subst he;obtain⟨t,rfl⟩:=ru;exact .none_int _ _
  | str b=>unfold RepD at he;subst he;obtain⟨t,rfl⟩:=ru;exact .none_str _ _
  | tup es=>unfold RepD at he;obtain⟨a,vs,rfl,q,_⟩:=he;cases ru;obtain⟨its,_,q⟩:=isT q;exact .none_tuple q hu0
  | lst es=>unfold RepD at he;obtain⟨a,vs,rfl,q,_⟩:=he;cases ru;obtain⟨its,_,q⟩:=isL q;exact .none_list q hu0
 | bl x =>
  unfold RepD at hv;subst hv;cases rv
  cases e with
  | non=>unfold RepD at he;subst he;cases ru;exact .bool_none _
  | bl b=>unfold RepD at he;subst he;cases ru;exact .bool_bool _ _
  | int b=>unfold RepD at he;subst he;obtain⟨t,rfl⟩:=ru;exact .bool_int _ _ _
  | str b=>unfold RepD at he;subst he;obtain⟨t,rfl⟩:=ru;exact .bool_str _ _ _
  | tup es=>unfold RepD at he;obtain⟨a,vs,rfl,q,_⟩:=he;cases ru;obtain⟨its,_,q⟩:=isT q;exact .bool_tuple _ q hu0
  | lst es=>unfold RepD at he;obtain⟨a,vs,rfl,q,_⟩:=he;cases ru;obtain⟨its,_,q⟩:=isL q;exact .bool_list _ q hu0
 | int x =>
  unfold RepD at hv;subst hv;obtain⟨t0,rfl⟩:=rv
  cases e with
  | non=>unfold RepD at he;subst he;cases ru;exact .int_none _ _
  | bl b=>unfold RepD at he;subst he;cases ru;exact .int_bool _ _ _
  | int b=>unfold RepD at he;subst he;obtain⟨t,rfl⟩:=ru;exact .int_int _ _ _ _
  | str b=>unfold RepD at he;subst he;obtain⟨t,rfl⟩:=ru;exact .int_str _ _ _ _
  | tup es=>unfold RepD at he;obtain⟨a,vs,rfl,q,_⟩:=he;cases ru;obtain⟨its,_,q⟩:=isT q;exact .int_tuple _ _ q hu0
  | lst es=>unfold RepD at he;obtain⟨a,vs,rfl,q,_⟩:=he;cases ru;obtain⟨its,_,q⟩:=isL q;exact .int_list _ _ q hu0
 | str x =>
  unfold RepD at hv;subst hv;obtain⟨t0,rfl⟩:=rv
  cases e with
  | non=>unfold RepD at he;subst he;cases ru;exact .str_none _ _
  | bl b=>unfold RepD at he;subst he;cases ru;exact .str_bool _ _ _
  | int b=>unfold RepD at he;subst he;obtain⟨t,rfl⟩:=ru;exact .str_int _ _ _ _
  | str b=>unfold RepD at he;subst he;obtain⟨t,rfl⟩:=ru;exact .str_str _ _ _ _
  | tup es=>unfold RepD at he;obtain⟨a,vs,rfl,q,_⟩:=he;cases ru;obtain⟨its,_,q⟩:=isT q;exact .str_tuple _ _ q hu0
  | lst es=>unfold RepD at he;obtain⟨a,vs,rfl,q,_⟩:=he;cases ru;obtain⟨its,_,q⟩:=isL q;exact .str_list _ _ q hu0
 | tup ds =>
  unfold RepD at hv
  obtain⟨a,vs,rfl,q,hq⟩:=hv
  cases rv
  obtain⟨its,r1,q1⟩:=isT q
  cases e with
  | non=>unfold RepD at he;subst he;cases ru;exact .tuple_none q1 hu0
  | bl b=>unfold RepD at he;subst he;cases ru;exact .tuple_bool _ q1 hu0
  | int b=>unfold RepD at he;subst he;obtain⟨t,rfl⟩:=ru;exact .tuple_int _ _ q1 hu0
  | str b=>unfold RepD at he;subst he;obtain⟨t,rfl⟩:=ru;exact .tuple_str _ _ q1 hu0
  | lst es=>unfold RepD at he;obtain⟨b,ws,rfl,g,_⟩:=he;cases ru;obtain⟨its2,_,g1⟩:=isL g;exact .tuple_list q1 g1 hu0
  | tup es =>
   unfold RepD at he
   obtain⟨b,ws,rfl,g,hg⟩:=he
   cases ru
   obtain⟨its2,r2,g1⟩:=isT g
   have hd':depths ds+1<=60:=by simpa [D.depth] using hd
   have l1:=r1.length
   have l2:=r2.length
   have m1:=hq.length
   have m2:=hg.length
   have:=Kk (e:=oG ds es) q1 g1 hu0 (jS I (λ{A} {v} {u} {vv} {uu} {d} {e} a1 a2 a3 a4 a5 a6=>(ud I 60 a1 a2 a3 a4 a5 a6).2) (A:=A.in1) (by rw[iW];omega) (m:=60) (by omega) r1 r2 hq hg)
   rw[on,on]at this
   unfold eqD
   by_cases hl:ds.length=es.length
   ·have z:(its.length==its2.length)=true:=by rw[beq_iff_eq];omega
    have mm:min its.length its2.length=ds.length:=by omega
    rw[z,HJ,mm,fz hl]at this
    exact this
   ·have z:(its.length==its2.length)=false:=by rw[beq_eq_false_iff_ne];omega
    rw[z,FX]at this
    rw[dR hl]
    exact this
 | lst ds =>
  unfold RepD at hv
  obtain⟨a,vs,rfl,q,hq⟩:=hv
  cases rv
  obtain⟨its,r1,q1⟩:=isL q
  cases e with
  | non=>unfold RepD at he;subst he;cases ru;exact .list_none q1 hu0
  | bl b=>unfold RepD at he;subst he;cases ru;exact .list_bool _ q1 hu0
  | int b=>unfold RepD at he;subst he;obtain⟨t,rfl⟩:=ru;exact .list_int _ _ q1 hu0
  | str b=>unfold RepD at he;subst he;obtain⟨t,rfl⟩:=ru;exact .list_str _ _ q1 hu0
  | tup es=>unfold RepD at he;obtain⟨b,ws,rfl,g,_⟩:=he;cases ru;obtain⟨its2,_,g1⟩:=isT g;exact .list_tuple q1 g1 hu0
  | lst es =>
   unfold RepD at he
   obtain⟨b,ws,rfl,g,hg⟩:=he
   cases ru
   obtain⟨its2,r2,g1⟩:=isL g
   have hd':depths ds+1<=60:=by simpa [D.depth] using hd
   have l1:=r1.length
   have l2:=r2.length
   have m1:=hq.length
   have m2:=hg.length
   unfold eqD
   by_cases hl:ds.length=es.length
   ·have:=Km (e:=oG ds es) q1 g1 (by rw[on,on];omega) hu0 (jS I (λ{A} {v} {u} {vv} {uu} {d} {e} a1 a2 a3 a4 a5 a6=>(ud I 60 a1 a2 a3 a4 a5 a6).2) (A:=A.in1) (by rw[iW];omega) (m:=60) (by omega) r1 r2 hq hg)
    rw[on,show its.length=ds.length by omega,fz hl]at this
    exact this
   ·rw[dR hl]
    exact Kl q1 g1 (by rw[on,on,bne_iff_ne];omega) hu0
theorem iO (hu:X.A.units+64<EI)(hK:X.K=K:=by rfl):OpR X (Do .NotEq) (rNeD K):=by
 subst hK
 intro pins s σ H x y v u Q I rx ry h
 obtain⟨d,e,hd,he,hz,q⟩:=h
 exact z8 I hz (by omega) rx ry hd he X.prog X.w _ _ ⟨.bl _,H,I,rfl,q⟩
theorem vA (hc:X.calm=true)(hK:X.K=K:=by rfl):iq X (.builtin "all") (λxs H Q=>∃(p:Addr) (bs:List Bool),xs=[.ref p]/\SqL K H p (bs.map V.bl)/\Q (.bl (bs.all id)) H):=by
 subst hK
 intro pins s σ H xs us Q I r h
 obtain⟨p,bs,rfl,hq,q⟩:=h
 obtain⟨u,rfl,ru⟩:=jY r
 cases ru
 obtain⟨its,rv,pl,hz⟩:=I.list hq
 refine call_all_walk (JR pl.isList ?_)
 have hne:p≠s.heap.objs.size:=wP (by obtain⟨o,n,e,_⟩:=pl;exact lc e)
 have hl:its.length=bs.length:=by have:=rv.length;rw[f8]at this;omega
 refine⟨s.heap.objs.size,_,_,_,_,_,λi=>bs.getD i true,rfl,Walks.list (A:=X.A.in1) (show X.A.in1.handled=none from I.ok.hd hc) s.heap.objs.size p hne its.toArray,⟨⟨_,ww _ rfl,rfl,rfl⟩,?_⟩,λi v s' Q' E' hv hQ'=>?_,λh' tk hk=>?_⟩
 ·exact pl.isList.at λo e=>db _ e
 ·have hv':its[i]? = some v:=by simpa using hv
  have hi:i<its.length:=(im.mp hv').1
  obtain⟨w,e1,e2⟩:=rv.get (i:=i) (x:=V.bl bs[i]) (by rw[wn,bv (by omega)];rfl)
  rw[hv']at e1;cases e1
  cases e2
  have hQ2:Q' (bs.getD i true) s':=hQ'
  rw[kt,bv (by omega)]at hQ2
  exact Dl hQ2
 ·rw[on,hl]
  have e:((sK bs.length).all λi=>bs.getD i true)=bs.all id:=by
   rw[D8]
   simp only[DG,B9,id]
   constructor
   ·intro g b hb
    obtain⟨i,hi,rfl⟩:=C3 hb
    have:=g i hi
    rw[kt,bv hi]at this
    exact this
   ·intro g i hi
    rw[kt,bv hi]
    exact g _ (DX _)
  rw[e]
  refine⟨.bl (bs.all id),H,I.kept λb o e=>?_,rfl,q⟩
  refine hk b o (λz=>?_) (db _ e)
  rw[wv.mp z]at e
  exact absurd (lc e) (DV _)
end
abbrev qb (ks:List Nat):List V:=ks.map λj=>V.int (j:Nat)
abbrev ar (ks:List Nat):List D:=ks.map λj=>D.int (j:Nat)
theorem yt {K:bi}{H:Hp}:∀ {vs:List V} {ks:List Nat},RepDs K H vs (ar ks)↔vs=qb ks:=by
 intro vs ks
 have:=@jm K H vs (ks.map λj=>((j:Nat):Int))
 rw[B8,B8]at this
 exact this
section
variable {X:Cx}
theorem qz:iq X (.type "range") (λxs H Q=>∃j:Int,xs=[.int j]/\∀p,H p=none->Q (.ref p) (upd H p (.rng 0 j))):=by
 intro pins s σ H xs us Q I r h
 obtain⟨j,rfl,q⟩:=h
 obtain⟨u,rfl,t,rfl⟩:=jY r
 refine call_range_1 ?_
 exact⟨.ref s.heap.objs.size,upd H s.heap.objs.size (.rng 0 j),I.laid (λb u e=>db _ e) (li _) ⟨_,_,_,ww _ rfl⟩,rfl,q _ (I.hok.fresh (li _))⟩
theorem sV (hc:X.calm=true):iq X (.type "list") (λxs H Q=>∃(p:Addr) (n:Nat),xs=[.ref p]/\H p=some (.rng 0 (n:Nat))/\n<=1000000/\∀l,H l=none->Q (.ref l) (upd H l (.lst (qb (sK n))))):=by
 intro pins s σ H xs us Q I r h
 obtain⟨p,n,rfl,hp,hn,q⟩:=h
 obtain⟨u,rfl,ru⟩:=jY r
 cases ru
 obtain⟨t,u,v,e⟩:=(show cK X.prog X.w H s.heap p (.rng 0 (n:Nat))from I.hok p _ hp)
 have hsz:GG 0 (n:Int) 1=(n:Nat):=by rw[rangeSize_one];split <;> omega
 refine call_list_range (I.ok.hd hc) (show IsRange s.heap p 0 n 1 t u v from e) (small_one (by omega) (by omega) (by omega) (by omega)) hsz (xL hn (by decide)) λh' tk acc c hk hl hi=>?_
 have hv:Vals (qb (sK n)) acc.toList:=by
  obtain⟨h1,h2⟩:=hi
  have gen:∀(m:Nat) (us:List bn),us.length=m->(∀(i:Nat) (v:bn),us[i]? = some v->∃t,v=Value.int (0+(i:Int)*1) t)->Vals (qb (sK m)) us:=by
   intro m
   induction m with
   | zero=>intro us e _;cases us with | nil=>exact .nil | cons _ _=>cases e
   | succ m ih =>
    intro us e hx
    have e1:us=us.take m++[us[m]]:=by
     rw[List.take_append_getElem]
     exact(CC (by omega)).symm
    rw[e1,DC]
    unfold qb
    rw[B7]
    refine Vals.append (ih _ (by rw[B0];omega) λi v hv=>?_) ?_
    ·rw[List.getElem?_take]at hv
     split at hv
     ·exact hx i v hv
     ·cases hv
    ·obtain⟨t,ht⟩:=hx m us[m] (bv (by omega))
     rw[ht]
     exact .cons ⟨t,by simp⟩ .nil
  refine gen n acc.toList (by simpa using h1) λi v hv=>?_
  have hv':acc[i]? = some v:=by simpa using hv
  exact h2 i v hv'
 refine⟨.ref s.heap.objs.size,upd H s.heap.objs.size (.lst (qb (sK n))),I.laid (t':=tk) (λb o e=>hk b o e) (li _) ?_,rfl,q _ (I.hok.fresh (li _))⟩
 refine⟨?_,acc.toList,c,hv,by simpa using hl⟩
 rw[f8,C5]
 exact xL hn (by decide)
end
section
variable {X:Cx}
theorem nM {x:Str}{v:V}{pos:Pos}(h:∃u,X.mg x=some u/\RelV v u)(hg:Gl X x)(hd:(x==("__debug__" : Str))=false:=by decide):PE X (.Name x pos) (tC v):=by
 obtain⟨u,hm,r⟩:=h
 exact yB hg hm r hd
end
structure Net where
 m:Nat
 js:List (Nat×Nat)
 os:List Nat
abbrev bQ (p:Nat×Nat):D:=.tup [.int (p.1:Nat),.int (p.2:Nat)]
def netD (N:Net):D:=.tup [.int (N.m:Nat),.tup (N.js.map bQ),.tup (ar N.os)]
def aL (rows:List Nat)(p:Nat×Nat):List Nat:=rows++[rows.getD p.1 0 ^^^ rows.getD p.2 0]
def az (m:Nat):List Nat:=(sK m).map λk=>1 <<< k
def a7 (N:Net):List Nat:=N.js.foldl aL (az N.m)
def okIx:Nat->List (Nat×Nat)->Prop
 | _,[]=>True
 | n,p::r=>p.1<p.2/\p.2<n/\okIx (n+1) r
def okJs:List Nat->List (Nat×Nat)->Prop
 | _,[]=>True
 | rows,p::r=>p.1<p.2/\p.2<rows.length/\rows.getD p.1 0≠rows.getD p.2 0/\okJs (aL rows p) r
structure jd (N:Net):Prop where
 m1:1<=N.m
 m12:N.m<=12
 jl:N.js.length<=132
 js:okJs (az N.m) N.js
 o1:1<=N.os.length
 o24:N.os.length<=24
 os:∀o∈N.os,o<N.m+N.js.length
theorem cx (rows:List Nat)(p:Nat×Nat):(aL rows p).length=rows.length+1:=by simp[aL]
theorem ky:∀ {js:List (Nat×Nat)} {rows:List Nat},okJs rows js->okIx rows.length js
 | [],_,_=>trivial
 | p::r,rows,h=>by
  obtain⟨h1,h2,_,h4⟩:=h
  have:=ky h4
  rw[cx]at this
  exact⟨h1,h2,this⟩
theorem fL:∀ {js:List (Nat×Nat)} {n i:Nat} {p:Nat×Nat},okIx n js->js[i]? = some p->p.1<p.2/\p.2<n+i
 | [],_,_,_,_,h=>by simp at h
 | q::r,n,0,p,h,e=>by
  simp at e;subst e
  exact⟨h.1,by have:=h.2.1;omega⟩
 | q::r,n,i+1,p,h,e=>by
  have:=fL (n:=n+1) (i:=i) (p:=p) h.2.2 (by simpa using e)
  exact⟨this.1,by omega⟩
theorem mI:∀ {js:List (Nat×Nat)} {rows:List Nat} {i:Nat} {p:Nat×Nat},okJs rows js->js[i]? = some p ->
  ((js.take i).foldl aL rows).getD p.1 0≠((js.take i).foldl aL rows).getD p.2 0
 | [],_,_,_,_,h=>by simp at h
 | q::r,rows,0,p,h,e=>by
  simp at e;subst e
  exact h.2.2.1
 | q::r,rows,i+1,p,h,e=>mI (js:=r) (rows:=aL rows q) (i:=i) (p:=p) h.2.2.2 (by simpa using e)
theorem fR (js:List (Nat×Nat)):∀rows:List Nat,(js.foldl aL rows).length=rows.length+js.length:=by
 induction js with
 | nil=>intro rows;rfl
 | cons p r ih=>intro rows;rw[D7,ih,cx,At];omega
theorem gH {js:List (Nat×Nat)}{i:Nat}{p:Nat×Nat}(h:js[i]? = some p)(rows:List Nat):(js.take (i+1)).foldl aL rows=aL ((js.take i).foldl aL rows) p:=by
 rw[CD,h,DF,Ex]
 rfl
theorem cc (m:Nat):(az m).length=m:=by simp[az]
theorem iK (N:Net):(a7 N).length=N.m+N.js.length:=by unfold a7;rw[fR,cc]
def tyD:D->String
 | .non => "NoneType" | .bl _ => "bool" | .int _ => "int" | .str _ => "str" | .tup _ => "tuple" | .lst _ => "list"
theorem i9 (K:bi){X:Cx}(hK:X.K=K:=by rfl):iq X (.builtin "isinstance") (λxs H Q=>∃x d T b,xs=[x,.ty T]/\RepD K H x d/\isaT (tyD d) T=some b/\Q (.bl b) H):=by
 subst hK
 intro pins s σ H xs us Q I r h
 obtain⟨x,d,T,b,rfl,hd,e,q⟩:=h
 cases r with
 | cons r1 rr =>
  cases rr with
  | cons r2 rr =>
   cases rr
   cases (show _=Value.type T from r2)
   have e':∀ {t:String},tyD d=t->G0 X.K (.type t) (.type T)=some b:=λ{t} z=>by rw[<- z];exact wX.trans e
   have fin:∀tk,EP X pins σ Q (.bool b) {s with toks:=tk}:=λtk=>⟨.bl b,H,I.tok tk,rfl,q⟩
   cases d with
   | non=>unfold RepD at hd;subst hd;exact iV I r1 .non (e' rfl) fin
   | bl y=>unfold RepD at hd;subst hd;exact iV I r1 (.bl y) (e' rfl) fin
   | int y=>unfold RepD at hd;subst hd;exact iV I r1 (.int y) (e' rfl) fin
   | str y=>unfold RepD at hd;subst hd;exact iV I r1 (.str y) (e' rfl) fin
   | tup ds =>
    unfold RepD at hd
    obtain⟨a,vs,rfl,hq,_⟩:=hd
    cases r1
    obtain⟨its,_,⟨o,h1,h2,_⟩,_⟩:=I.tuple hq.sq
    exact CO Ic I.kIn ⟨o,h1,h2⟩ (e' rfl) (λz=>nomatch z) fin
   | lst ds =>
    unfold RepD at hd
    obtain⟨a,vs,rfl,hq,_⟩:=hd
    cases r1
    obtain⟨its,_,⟨o,n,h1,h2,_⟩,_⟩:=I.list (StL.sq hq)
    exact CO Gc I.kIn ⟨o,h1,h2⟩ (e' rfl) (λz=>nomatch z) fin
inductive Sv where
 | un | vl (d:D) | ow (ds:List D) | tp (n:Nat) | dk (kvs:List (Key×D)) | dt (kvs:List (List Key×D)) | ex (C:Addr) (fs:Option (List (Str×D))) | sc (ns:List Int) | px (d:D) (C:Addr) (fs:Option (List (Str×D))) | xl (es:List (Addr×Option (List (Str×D)))) | ob (C:Addr) (fs:List (Str×D)) | ll (xss:List (List D)) | ds (C:Addr) (n w:List (Key×D))
def Sv.own:Sv->Bool
 | .ow _=>true
 | .tp _=>true
 | .dk _=>true
 | .dt _=>true
 | .ll _=>true
 | .ds _ _ _=>true
 | _=>false
abbrev En:=List Sv
inductive R where
 | d (d:D) | o (i:Nat) | n (s:Sv) | t (n:String) | x (s:Sv)
abbrev R.f (ds:List D):R:=.n (.ow ds)
def gt:En->Nat->Sv
 | [],_=>.un
 | s::_,0=>s
 | _::r,n+1=>gt r n
def pt:En->Nat->Sv->En
 | [],_,_=>[]
 | _::r,0,s=>s::r
 | x::r,n+1,s=>x::pt r n s
theorem hZ:∀(ρ:En) (i:Nat) (s:Sv),(pt ρ i s).length=ρ.length
 | [],_,_=>rfl
 | _::_,0,_=>rfl
 | x::r,n+1,s=>by simp[pt,hZ r n s]
theorem cn:∀(ρ:En) (i j:Nat) (s:Sv),i≠j->gt (pt ρ i s) j=gt ρ j
 | [],_,_,_,_=>rfl
 | _::_,0,0,_,h=>absurd rfl h
 | _::_,0,j+1,_,_=>rfl
 | x::r,i+1,0,s,_=>rfl
 | x::r,i+1,j+1,s,h=>cn r i j s (by omega)
theorem mU:∀(ρ:En) (i:Nat) (s:Sv),i<ρ.length->gt (pt ρ i s) i=s
 | [],_,_,h=>by simp at h
 | _::_,0,_,_=>rfl
 | x::r,i+1,s,h=>mU r i s (by simpa using h)
theorem lR:∀(ρ:En) (i:Nat),ρ.length<=i->gt ρ i = .un
 | [],_,_=>rfl
 | x::r,0,h=>by simp at h
 | x::r,i+1,h=>lR r i (by simpa using h)
theorem ko {ρ:En}{i:Nat}(h:(gt ρ i).own=true):i<ρ.length:=by
 rcases BW i ρ.length with q | q
 ·exact q
 ·rw[lR ρ i q]at h;cases h
def bO (σ:St)(ρ:En)(a:Addr):Prop:=∃i,(gt ρ i).own=true/\σ[i]? = some (some (.ref a))
open Classical in
noncomputable def hid (H:Hp)(S:Addr->Prop):Hp:=λa=>if S a then none else H a
theorem g8 {H:Hp}{S:Addr->Prop}{a:Addr}{o:HO}:hid H S a=some o↔¬S a/\H a=some o:=by
 unfold hid
 split
 ·rename_i h;simp[h]
 ·rename_i h;simp[h]
theorem gG {H:Hp}{S:Addr->Prop}{a:Addr}{o:HO}(h:¬S a)(e:H a=some o):hid H S a=some o:=g8.mpr ⟨h,e⟩
theorem bq {H H':Hp}{S S':Addr->Prop}(h:∀a o,H a=some o->¬S a->H' a=some o/\¬S' a):Same (hid H S) (hid H' S'):=λa o e=>by
 obtain⟨n,e⟩:=g8.mp e
 obtain⟨e',n'⟩:=h a o e n
 exact gG n' e'
theorem cf {H:Hp}{S:Addr->Prop}:Same (hid H S) H:=λa o e=>(g8.mp e).2
structure Fr where
 H0:Hp
 Z:Addr->Prop
 M:Addr->Prop
 I:Nat->Addr->Prop
 P:Nat->Addr->Prop
def Fr.pin (F:Fr)(i:Nat)(a:Addr):Prop:=F.I i a∨F.P i a
def hs (F:Fr)(σ:St)(ρ:En):Addr->Prop:=λa=>F.Z a∨bO σ ρ a
def exP (e C:Addr)(od:Option Addr):Heap->Prop:=λh=>∃oe vs,h.get? e=some oe/\oe.cls = .ref C/\oe.dict=od/\oe.data = .fields vs
def exD (K:bi)(Hh:Hp):Option (List (Str×D))->Option Addr->Prop
 | none,none=>True
 | some fs,some dx=>∃ks,Hh dx=some (.xd ks)/\ks.map BV=fs.map BV/\RepDs K Hh (ks.map Ce) (fs.map Ce)
 | _,_=>False
theorem exD.same {K:bi}{Hh Hh':Hp}:∀ {fs:Option (List (Str×D))} {od:Option Addr},exD K Hh fs od->Same Hh Hh'->exD K Hh' fs od
 | none,none,h,_=>h
 | some fs,some dx,⟨ks,h1,h2,h3⟩,g=>⟨ks,g _ _ h1,h2,h3.same g⟩
 | none,some _,h,_=>h.elim
 | some _,none,h,_=>h.elim
def Exs (K:bi)(Hh:Hp):List V->List (Addr×Option (List (Str×D)))->Prop
 | [],[]=>True
 | x::vs,c::es=>(∃e od,x = .ref e/\Hh e=some (.ext (exP e c.1 od))/\exD K Hh c.2 od)/\Exs K Hh vs es
 | _,_=>False
theorem Exs.same {K:bi}{Hh Hh':Hp}:∀ {vs:List V} {es:List (Addr×Option (List (Str×D)))},Exs K Hh vs es->Same Hh Hh'->Exs K Hh' vs es
 | [],[],h,_=>h
 | x::vs,c::es,⟨⟨e,od,h1,h2,h3⟩,h4⟩,g=>⟨⟨e,od,h1,g _ _ h2,h3.same g⟩,Exs.same h4 g⟩
 | [],_::_,h,_=>h.elim
 | _::_,[],h,_=>h.elim
def LlP (a:Addr)(bs:List Addr)(vss:List (List V)):wE->B2->Heap->Prop:=λ_ _ h=>bs.length<=wT/\bs.Nodup/\(∃n,h.get? a=some {cls:=.type "list",data:=.seq (bs.map Value.ref).toArray n})/\vss.length=bs.length /\
 ∀(k:Nat) (b:Addr) (vs:List V),bs[k]? = some b->vss[k]? = some vs->vs.length<=wT/\∃(its:List bn) (n:Nat),Vals vs its/\h.get? b=some {cls:=.type "list",data:=.seq its.toArray n}
def xx (K:bi)(H:Hp)(vss:List (List V))(dss:List (List D)):Prop:=vss.length=dss.length/\∀(k:Nat) (vs:List V) (ds:List D),vss[k]? = some vs->dss[k]? = some ds->RepDs K H vs ds
theorem xx.same {K:bi}{H H':Hp}{vss:List (List V)}{dss:List (List D)}(h:xx K H vss dss)(g:Same H H'):xx K H' vss dss:=⟨h.1,λk vs ds a b=>(h.2 k vs ds a b).same g⟩
def DsP (x C dx d1 d2:Addr)(f1 f2:Str)(k1 k2:List (Key×V)):wE->B2->Heap->Prop:=λP w h=>dx≠x/\d1≠x/\d2≠x/\dx≠d1/\dx≠d2/\d1≠d2/\cK P w (λb=>if b=dx then some (.own x)else none) h x (.ins C dx [(f1,.ref d1),(f2,.ref d2)]) /\
 cK P w (λ_=>none) h d1 (.dK k1)/\cK P w (λ_=>none) h d2 (.dK k2)
def SvOk (K:bi)(Hh H:Hp)(v:Option (Option V)):Sv->Prop
 | .xl es=>∃l vs,v=some (some (.ref l))/\Hh l=some (.lst vs)/\Exs K Hh vs es
 | .ob C fs=>∃a dx ks,v=some (some (.ref a))/\Hh a=some (.ins C dx ks)/\ks.map BV=fs.map BV/\RepDs K Hh (ks.map Ce) (fs.map Ce)
 | .ll xss=>∃l bs vss,v=some (some (.ref l))/\H l=some (.big bs (LlP l bs vss))/\xx K Hh vss xss
 | .ds C n w=>∃x dx d1 d2 k1 k2,v=some (some (.ref x))/\H x=some (.big [dx,d1,d2] (DsP x C dx d1 d2 "nets" "wishes" k1 k2))/\k1.map BV=n.map BV/\RepDs K Hh (k1.map Ce) (n.map Ce)/\k2.map BV=w.map BV/\RepDs K Hh (k2.map Ce) (w.map Ce)
 | .px d C fs=>∃p x e od,v=some (some (.ref p))/\Hh p=some (.tup [x,.ref e])/\RepD K Hh x d/\Hh e=some (.ext (exP e C od))/\exD K Hh fs od
 | .sc ns=>∃c,v=some (some (.ref c))/\SqL K Hh c (Iq V.int ns)
 | .ex C fs=>∃e od,v=some (some (.ref e))/\Hh e=some (.ext (exP e C od))/\exD K Hh fs od
 | .un=>True
 | .vl d=>∃x,v=some (some x)/\RepD K Hh x d
 | .ow ds=>∃l vs,v=some (some (.ref l))/\H l=some (.lst vs)/\RepDs K Hh vs ds
 | .tp n=>∃t c ns sp lf,v=some (some (.ref t))/\H t=some (.dK (cL c sp lf))/\SqL K Hh c (Iq V.int ns)/\0<=sp/\sp<=n/\0<=lf
 | .dk kvs=>∃t ks,v=some (some (.ref t))/\H t=some (.dK ks)/\ks.map BV=kvs.map BV/\RepDs K Hh (ks.map Ce) (kvs.map Ce)
 | .dt kvs=>∃t ks,v=some (some (.ref t))/\H t=some (.dT ks)/\ks.map BV=kvs.map BV/\RepDs K Hh (ks.map Ce) (kvs.map Ce)
theorem SvOk.keep {K:bi}{Hh Hh' H H':Hp}{v:Option (Option V)}{s:Sv}(h:SvOk K Hh H v s)(g:Same Hh Hh')(k:∀l o,s.own=true->v=some (some (.ref l))->H l=some o->H' l=some o):SvOk K Hh' H' v s:=by
 cases s with
 | un=>trivial
 | vl d=>obtain⟨x,e,r⟩:=h;exact⟨x,e,r.same g⟩
 | ow ds=>obtain⟨l,vs,e,a,r⟩:=h;exact⟨l,vs,e,k _ _ rfl e a,r.same g⟩
 | tp n=>obtain⟨t,c,ns,sp,lf,e,a,b,r⟩:=h;exact⟨t,c,ns,sp,lf,e,k _ _ rfl e a,g.seq b,r⟩
 | dk kvs=>obtain⟨t,ks,e,a,b,r⟩:=h;exact⟨t,ks,e,k _ _ rfl e a,b,r.same g⟩
 | dt kvs=>obtain⟨t,ks,e,a,b,r⟩:=h;exact⟨t,ks,e,k _ _ rfl e a,b,r.same g⟩
 | ex C fs=>obtain⟨t,od,e,a,b⟩:=h;exact⟨t,od,e,g _ _ a,b.same g⟩
 | sc ns=>obtain⟨c,e,a⟩:=h;exact⟨c,e,g.seq a⟩
 | px d C fs=>obtain⟨p,x,e,od,a,b,c,d',e'⟩:=h;exact⟨p,x,e,od,a,g _ _ b,c.same g,g _ _ d',e'.same g⟩
 | xl es=>obtain⟨p,vs,a,b,c⟩:=h;exact⟨p,vs,a,g _ _ b,c.same g⟩
 | ob C fs=>obtain⟨p,dx,ks,a,b,c,d⟩:=h;exact⟨p,dx,ks,a,g _ _ b,c,d.same g⟩
 | ll xss=>obtain⟨l,bs,vss,e,a,r⟩:=h;exact⟨l,bs,vss,e,k _ _ rfl e a,r.same g⟩
 | ds C n w=>obtain⟨x,dx,d1,d2,k1,k2,e,a,r1,r2,r3,r4⟩:=h;exact⟨x,dx,d1,d2,k1,k2,e,k _ _ rfl e a,r1,r2.same g,r3,r4.same g⟩
theorem SvOk.alive {K:bi}{Hh H:Hp}{v:Option (Option V)}{s:Sv}(h:SvOk K Hh H v s)(ho:s.own=true):∃l o,v=some (some (.ref l))/\H l=some o:=by
 cases s with
 | un=>cases ho
 | vl d=>cases ho
 | ow ds=>obtain⟨l,vs,e,a,r⟩:=h;exact⟨l,_,e,a⟩
 | tp n=>obtain⟨t,c,ns,sp,lf,e,a,b,r⟩:=h;exact⟨t,_,e,a⟩
 | dk kvs=>obtain⟨t,ks,e,a,b,r⟩:=h;exact⟨t,_,e,a⟩
 | dt kvs=>obtain⟨t,ks,e,a,b,r⟩:=h;exact⟨t,_,e,a⟩
 | ex C fs=>cases ho
 | sc ns=>cases ho
 | px d C fs=>cases ho
 | xl es=>cases ho
 | ob C fs=>cases ho
 | ll xss=>obtain⟨l,bs,vss,e,a,r⟩:=h;exact⟨l,_,e,a⟩
 | ds C n w=>obtain⟨x,dx,d1,d2,k1,k2,e,a,r⟩:=h;exact⟨x,_,e,a⟩
def Nt (H:Hp)(a:Addr):Prop:=H a≠none/\∀xs,H a≠some (.tup xs)
theorem xR {H:Hp}{a l:Addr}{o:HO}(al:a≠l)(h:Nt H a):Nt (upd H l o) a:=by unfold Nt;rw[aR al];exact h
structure Rel (K:bi)(F:Fr)(σ:St)(ρ:En)(H:Hp):Prop where
 len:σ.length=ρ.length
 fr:∀a o,F.H0 a=some o->¬F.M a->H a=some o
 zl:∀a,F.Z a->Nt H a
 zo:∀a,bO σ ρ a->¬F.Z a
 ow:∀i a,(gt ρ i).own=true->σ[i]? = some (some (.ref a))->(F.I i a/\F.M a)∨F.H0 a=none
 mi:∀i a,F.pin i a->σ[i]? = some (some (.ref a))
 ml:∀a,F.M a->F.H0 a≠none
 ma:∀a,F.M a->H a≠none
 nd:∀i j a,(gt ρ i).own=true->(gt ρ j).own=true->σ[i]? = some (some (.ref a))->σ[j]? = some (some (.ref a))->i=j
 sl:∀i,SvOk K (hid H (hs F σ ρ)) H σ[i]? (gt ρ i)
structure Kp (σ:St)(ρ ρ':En)(H H':Hp):Prop where
 st:∀a o,H a=some o->¬bO σ ρ a->H' a=some o
 sb:∀i,(gt ρ' i).own=true->(gt ρ i).own=true
theorem Kp.so {σ:St}{ρ ρ':En}{H H':Hp}(k:Kp σ ρ ρ' H H'){a:Addr}(h:bO σ ρ' a):bO σ ρ a:=by
 obtain⟨i,hi,e⟩:=h
 exact⟨i,k.sb i hi,e⟩
theorem Kp.refl {σ:St}{ρ:En}{H:Hp}:Kp σ ρ ρ H H:=⟨λ_ _ e _=>e,λ_ h=>h⟩
theorem Kp.trans {σ:St}{ρ ρ1 ρ2:En}{H H1 H2:Hp}(a:Kp σ ρ ρ1 H H1)(b:Kp σ ρ1 ρ2 H1 H2):Kp σ ρ ρ2 H H2 :=
 ⟨λx o e n=>b.st x o (a.st x o e n) λz=>n (a.so z),λx z=>a.sb x (b.sb x z)⟩
theorem Kp.fresh {σ:St}{ρ:En}{H:Hp}{l:Addr}{o:HO}(h:H l=none):Kp σ ρ ρ H (upd H l o) :=
 ⟨λa u e _=>by rw[aR (be e h)];exact e,λ_ h=>h⟩
section
variable {K:bi}{F:Fr}{σ:St}{ρ ρ':En}{H H':Hp}
theorem fI (r:Rel K F σ ρ H){a:Addr}(h:bO σ ρ a):H a≠none:=by
 obtain⟨i,hi,e⟩:=h
 obtain⟨l,o,e',h'⟩:=(r.sl i).alive hi
 rw[e]at e';injection e' with e';injection e' with e';injection e' with e'
 rw[e',h'];exact λz=>nomatch z
theorem rG (r:Rel K F σ ρ H){a:Addr}(h:hs F σ ρ a):H a≠none:=by
 rcases h with h | h
 ·exact(r.zl a h).1
 ·exact fI r h
theorem SvOk.nt {K:bi}{Hh H:Hp}{v:Option (Option V)}{s:Sv}(h:SvOk K Hh H v s)(ho:s.own=true):∃l,v=some (some (.ref l))/\Nt H l:=by
 cases s with
 | un=>cases ho
 | vl d=>cases ho
 | ow ds=>obtain⟨l,vs,e,a,r⟩:=h;exact⟨l,e,by rw[a];exact(λz=>nomatch z),by rw[a];exact λ_ z=>nomatch z⟩
 | tp n=>obtain⟨l,c,ns,sp,lf,e,a,b,r⟩:=h;exact⟨l,e,by rw[a];exact(λz=>nomatch z),by rw[a];exact λ_ z=>nomatch z⟩
 | dk kvs=>obtain⟨l,ks,e,a,b,r⟩:=h;exact⟨l,e,by rw[a];exact(λz=>nomatch z),by rw[a];exact λ_ z=>nomatch z⟩
 | dt kvs=>obtain⟨l,ks,e,a,b,r⟩:=h;exact⟨l,e,by rw[a];exact(λz=>nomatch z),by rw[a];exact λ_ z=>nomatch z⟩
 | ex C fs=>cases ho
 | sc ns=>cases ho
 | px d C fs=>cases ho
 | xl es=>cases ho
 | ob C fs=>cases ho
 | ll xss=>obtain⟨l,bs,vss,e,a,r⟩:=h;exact⟨l,e,by rw[a];exact(λz=>nomatch z),by rw[a];exact λ_ z=>nomatch z⟩
 | ds C n w=>obtain⟨l,dx,d1,d2,k1,k2,e,a,r⟩:=h;exact⟨l,e,by rw[a];exact(λz=>nomatch z),by rw[a];exact λ_ z=>nomatch z⟩
theorem rj (r:Rel K F σ ρ H){a:Addr}(h:bO σ ρ a):Nt H a:=by
 obtain⟨i,hi,e⟩:=h
 obtain⟨l,e',h'⟩:=(r.sl i).nt hi
 rw[e]at e';injection e' with e';injection e' with e';injection e' with e'
 rw[e'];exact h'
theorem sM (r:Rel K F σ ρ H){a:Addr}(h:hs F σ ρ a):Nt H a:=by
 rcases h with h | h
 ·exact r.zl a h
 ·exact rj r h
theorem iY (r:Rel K F σ ρ H){l:Addr}(h:H l=none):¬hs F σ ρ l:=λz=>rG r z h
theorem xb (r:Rel K F σ ρ H){l:Addr}(h:H l=none):F.H0 l=none:=by
 cases h0:F.H0 l with
 | none=>rfl
 | some o =>
  by_cases q:F.M l
  ·exact absurd h (r.ma l q)
  ·have:=r.fr l o h0 q
   rw[h]at this;cases this
theorem Kp.vis (k:Kp σ ρ ρ' H H'):Same (hid H (hs F σ ρ)) (hid H' (hs F σ ρ')):=bq λa o e n =>
 ⟨k.st a o e λz=>n (.inr z),λz=>by
  rcases z with z | z
  ·exact n (.inl z)
  ·exact n (.inr (k.so z))⟩
theorem sN {a:Addr}(g:Same H H')(h:H a≠none):H' a≠none:=λe=>by
 cases h':H a with
 | none=>exact h h'
 | some o=>rw[g a o h']at e;cases e
theorem y8 {a:Addr}(g:Same H H')(h:Nt H a):Nt H' a:=by
 cases h':H a with
 | none=>exact(h.1 h').elim
 | some o =>
  have e:=g a o h'
  unfold Nt
  rw[e,<- h'];exact h
theorem Rel.grow (r:Rel K F σ ρ H)(g:Same H H'):Rel K F σ ρ H' where
 len:=r.len
 fr:=λa o e n=>g a o (r.fr a o e n)
 zl:=λa z=>y8 g (r.zl a z)
 zo:=r.zo
 ow:=r.ow
 mi:=r.mi
 ml:=r.ml
 ma:=λa z=>sN g (r.ma a z)
 nd:=r.nd
 sl:=λi=>(r.sl i).keep (bq λa o e n=>⟨g a o e,n⟩) λl o _ _ e=>g l o e
theorem Rel.fresh (r:Rel K F σ ρ H){l:Addr}{o:HO}(h:H l=none):Rel K F σ ρ (upd H l o):=r.grow ((Same.refl H).new h)
theorem uf:∀(ρ:En) (i:Nat) (s:Sv),ρ.length<=i->pt ρ i s=ρ
 | [],_,_,_=>rfl
 | x::r,0,s,h=>by simp at h
 | x::r,i+1,s,h=>by simp[pt,uf r i s (by simpa using h)]
theorem gu {i j:Nat}{s:Sv}(hs:s.own=false)(hj:(gt (pt ρ i s) j).own=true):i≠j/\(gt ρ j).own=true:=by
 by_cases ij:i=j
 ·subst ij
  rcases BW i ρ.length with q | q
  ·rw[mU ρ i s q,hs]at hj;cases hj
  ·rw[lR _ i (by rw[hZ];exact q)]at hj;cases hj
 ·rw[cn ρ i j s ij]at hj
  exact⟨ij,hj⟩
theorem Rel.setS (r:Rel K F σ ρ H){i:Nat}{v:V}{s:Sv}(hs':s.own=false)(hd:SvOk K (hid H (hs F σ ρ)) H (some (some v)) s)(hm:∀a,¬F.pin i a):Rel K F (σ.set i (some v)) (pt ρ i s) H:=by
 rcases BW i ρ.length with hi | hi
 case inr =>
  rw[uf ρ i s hi,HG (by rw[r.len];exact hi)];exact r
 have sub:∀a,bO (σ.set i (some v)) (pt ρ i s) a->bO σ ρ a:=λa ⟨j,hj,e⟩=>by
  obtain⟨ij,hj⟩:=gu hs' hj
  rw[B6 ij]at e
  exact⟨j,hj,e⟩
 have vis:Same (hid H (hs F σ ρ)) (hid H (hs F (σ.set i (some v)) (pt ρ i s))):=bq λa o e n=>⟨e,λz=>n (z.imp id (sub a))⟩
 refine⟨by rw[G6,hZ,r.len],r.fr,r.zl,λa h=>r.zo a (sub a h),λj a hj e=>?_,λj a h=>?_,r.ml,r.ma,λj k a hj hk ej ek=>?_,λj=>?_⟩
 ·obtain⟨ij,hj⟩:=gu hs' hj
  rw[B6 ij]at e
  exact r.ow j a hj e
 ·have:i≠j:=λe=>hm a (e▸h)
  rw[B6 this];exact r.mi j a h
 ·obtain⟨nj,hj⟩:=gu hs' hj
  obtain⟨nk,hk⟩:=gu hs' hk
  rw[B6 nj]at ej
  rw[B6 nk]at ek
  exact r.nd j k a hj hk ej ek
 ·by_cases ij:i=j
  ·subst ij
   rw[mU ρ i _ hi,D4 (by rw[r.len];exact hi)]
   exact hd.keep vis λl o ho=>by rw[hs']at ho;cases ho
  ·rw[cn ρ i j _ ij,B6 ij]
   exact(r.sl j).keep vis λl o _ _ e=>e
theorem Rel.set (r:Rel K F σ ρ H){i:Nat}{v:V}{d:D}(hd:RepD K (hid H (hs F σ ρ)) v d)(hm:∀a,¬F.pin i a):Rel K F (σ.set i (some v)) (pt ρ i (.vl d)) H :=
 r.setS rfl ⟨v,rfl,hd⟩ hm
theorem Rel.setF (r:Rel K F σ ρ H){i:Nat}{l:Addr}{o:HO}{s:Sv}(hs':s.own=true)(hd:SvOk K (hid H (hs F σ ρ)) (upd H l o) (some (some (.ref l))) s)(hn:H l=none)(hm:∀a,¬F.pin i a) :
  Rel K F (σ.set i (some (.ref l))) (pt ρ i s) (upd H l o):=by
 have rf:=r.fresh (o:=o) hn
 rcases BW i ρ.length with hi | hi
 case inr =>
  rw[uf ρ i s hi,HG (by rw[r.len];exact hi)];exact rf
 have at1:∀ {a},(σ.set i (some (V.ref l)))[i]? = some (some (.ref a))->a=l:=λe=>by
  rw[D4 (by rw[r.len];exact hi)]at e
  injection e with e;injection e with e;injection e with e
  exact e.symm
 have sub:∀a,bO (σ.set i (some (.ref l))) (pt ρ i s) a->bO σ ρ a∨a=l:=λa h=>by
  obtain⟨j,hj,e⟩:=h
  by_cases ij:i=j
  ·subst ij;exact .inr (at1 e)
  ·rw[cn ρ i j _ ij]at hj
   rw[B6 ij]at e
   exact .inl ⟨j,hj,e⟩
 have vis:Same (hid H (hs F σ ρ)) (hid (upd H l o) (hs F (σ.set i (some (.ref l))) (pt ρ i s))):=bq λa u e n=>by
  have al:=be e hn
  refine⟨by rw[aR al];exact e,λz=>?_⟩
  rcases z with z | z
  ·exact n (.inl z)
  ·rcases sub a z with z | z
   ·exact n (.inr z)
   ·exact al z
 have nol:∀j,(gt ρ j).own=true->σ[j]? ≠ some (some (.ref l)):=λj hj e=>fI r ⟨j,hj,e⟩ hn
 refine⟨by rw[G6,hZ,r.len],rf.fr,rf.zl,λa h=>?_,λj a hj e=>?_,λj a h=>?_,r.ml,rf.ma,λj k a hj hk ej ek=>?_,λj=>?_⟩
 ·rcases sub a h with h | h
  ·exact r.zo a h
  ·subst h;exact λz=>(r.zl _ z).1 hn
 ·by_cases ij:i=j
  ·subst ij
   rw[at1 e];exact .inr (xb r hn)
  ·rw[cn ρ i j _ ij]at hj
   rw[B6 ij]at e
   exact r.ow j a hj e
 ·have:i≠j:=λe=>hm a (e▸h)
  rw[B6 this];exact r.mi j a h
 ·by_cases nj:i=j
  ·by_cases nk:i=k
   ·omega
   ·subst nj
    have:=at1 ej
    subst this
    rw[cn ρ i k _ nk]at hk
    rw[B6 nk]at ek
    exact absurd ek (nol k hk)
  ·rw[cn ρ i j _ nj]at hj
   rw[B6 nj]at ej
   by_cases nk:i=k
   ·subst nk
    have:=at1 ek
    subst this
    exact absurd ej (nol j hj)
   ·rw[cn ρ i k _ nk]at hk
    rw[B6 nk]at ek
    exact r.nd j k a hj hk ej ek
 ·by_cases ij:i=j
  ·subst ij
   rw[mU ρ i _ hi,D4 (by rw[r.len];exact hi)]
   exact hd.keep vis λ_ _ _ _ e=>e
  ·rw[cn ρ i j _ ij,B6 ij]
   exact(r.sl j).keep vis λa o ho e h=>by
    rw[aR (be h hn)];exact h
theorem Rel.write (r:Rel K F σ ρ H){i:Nat}{l:Addr}{o:HO}{s:Sv}(hi:(gt ρ i).own=true)(el:σ[i]? = some (some (.ref l)))(hs':s.own=true)(new:SvOk K (hid H (hs F σ ρ)) (upd H l o) (some (some (.ref l))) s):Rel K F σ (pt ρ i s) (upd H l o)/\Kp σ ρ (pt ρ i s) H (upd H l o):=by
 have lt:=ko hi
 have own':∀j,(gt (pt ρ i s) j).own=true->(gt ρ j).own=true:=λj h=>by
  by_cases ij:i=j
  ·subst ij;exact hi
  ·rw[cn ρ i j _ ij]at h;exact h
 have sub:∀a,bO σ (pt ρ i s) a->bO σ ρ a:=λa ⟨j,hj,e⟩=>⟨j,own' j hj,e⟩
 have hso:bO σ ρ l:=⟨i,hi,el⟩
 have vis:Same (hid H (hs F σ ρ)) (hid (upd H l o) (hs F σ (pt ρ i s))):=bq λa u e n=>by
  have al:a≠l:=λz=>n (.inr (z▸hso))
  exact⟨by rw[aR al];exact e,λz=>n (z.imp id (sub a))⟩
 have up:∀ {a},H a≠none->(upd H l o) a≠none:=λ{a} h e=>by
  by_cases al:a=l
  ·subst al;rw[aS]at e;cases e
  ·rw[aR al]at e;exact h e
 refine⟨⟨by rw[hZ,r.len],λa u e n=>?_,λa z=>xR (λq=>r.zo l hso (q▸z)) (r.zl a z),λa h=>r.zo a (sub a h),λj a hj e=>r.ow j a (own' j hj) e,r.mi,r.ml,λa z=>up (r.ma a z),λj k a hj hk ej ek=>r.nd j k a (own' j hj) (own' k hk) ej ek,λj=>?_⟩,⟨λa u e n=>?_,own'⟩⟩
 ·have al:a≠l:=λz=>by
   subst z
   rcases r.ow i _ hi el with⟨_,q⟩ | q
   ·exact n q
   ·rw[e]at q;cases q
  rw[aR al];exact r.fr a u e n
 ·by_cases ij:i=j
  ·subst ij
   rw[mU ρ i s lt,el]
   exact new.keep vis λ_ _ _ _ e=>e
  ·rw[cn ρ i j _ ij]
   refine(r.sl j).keep vis λa u ho e h=>?_
   have al:a≠l:=λz=>ij (r.nd i j l hi ho el (z▸e))
   rw[aR al];exact h
 ·have al:a≠l:=λz=>n (z▸hso)
  rw[aR al];exact e
theorem Rel.frz (r:Rel K F σ ρ H){i:Nat}{ds:List D}(hi:gt ρ i = .ow ds):∃l,σ[i]? = some (some (.ref l))/\Rel K F σ (pt ρ i (.vl (.lst ds))) H/\Kp σ ρ (pt ρ i (.vl (.lst ds))) H H/\RepD K (hid H (hs F σ (pt ρ i (.vl (.lst ds))))) (.ref l) (.lst ds):=by
 have ho:(gt ρ i).own=true:=by rw[hi];rfl
 have lt:=ko ho
 have q:=r.sl i
 rw[hi]at q
 obtain⟨l,vs,el,hl,hd⟩:=q
 have own':∀j,(gt (pt ρ i (.vl (.lst ds))) j).own=true->i≠j/\(gt ρ j).own=true:=λj h=>gu rfl h
 have sub:∀a,bO σ (pt ρ i (.vl (.lst ds))) a->bO σ ρ a/\a≠l:=λa ⟨j,hj,e⟩=>by
  obtain⟨ij,hj⟩:=own' j hj
  exact⟨⟨j,hj,e⟩,λz=>ij (r.nd i j l ho hj el (z▸e))⟩
 have vis:Same (hid H (hs F σ ρ)) (hid H (hs F σ (pt ρ i (.vl (.lst ds))))):=bq λa u e n=>⟨e,λz=>n (z.imp id λz=>(sub a z).1)⟩
 have vl:¬hs F σ (pt ρ i (.vl (.lst ds))) l:=λz=>by
  rcases z with z | z
  ·exact r.zo l ⟨i,ho,el⟩ z
  ·exact(sub l z).2 rfl
 have rd:RepD K (hid H (hs F σ (pt ρ i (.vl (.lst ds))))) (.ref l) (.lst ds):=by
  unfold RepD
  exact⟨l,vs,rfl,gG vl hl,hd.same vis⟩
 refine⟨l,el,⟨by rw[hZ,r.len],r.fr,r.zl,λa h=>r.zo a (sub a h).1,λj a hj e=>r.ow j a (own' j hj).2 e,r.mi,r.ml,r.ma,λj k a hj hk ej ek=>r.nd j k a (own' j hj).2 (own' k hk).2 ej ek,λj=>?_⟩,⟨λ_ _ e _=>e,λj h=>(own' j h).2⟩,rd⟩
 by_cases ij:i=j
 ·subst ij
  rw[mU ρ i _ lt,el]
  exact⟨_,rfl,rd⟩
 ·rw[cn ρ i j _ ij]
  exact(r.sl j).keep vis λa u _ _ h=>h
end
def RelR (K:bi)(F:Fr)(σ:St)(ρ:En)(v:V)(H:Hp):R->Prop
 | .d d=>Rel K F σ ρ H/\RepD K (hid H (hs F σ ρ)) v d
 | .o i=>Rel K F σ ρ H/\σ[i]? = some (some v)
 | .n s=>∃Hb l o,Rel K F σ ρ Hb/\s.own=true/\SvOk K (hid Hb (hs F σ ρ)) (upd Hb l o) (some (some (.ref l))) s/\Hb l=none/\H=upd Hb l o/\v = .ref l
 | .t n=>Rel K F σ ρ H/\v = .ty n
 | .x s=>Rel K F σ ρ H/\s.own=false/\SvOk K (hid H (hs F σ ρ)) H (some (some v)) s
def Out (K:bi)(F:Fr)(σ:St)(ρ:En)(H:Hp)(ρ':En)(v:V)(H':Hp):R->Prop
 | .d d=>Rel K F σ ρ' H'/\Kp σ ρ ρ' H H'/\RepD K (hid H' (hs F σ ρ')) v d
 | .o i=>Rel K F σ ρ' H'/\Kp σ ρ ρ' H H'/\σ[i]? = some (some v)
 | .n s=>∃Hb l o,Rel K F σ ρ' Hb/\Kp σ ρ ρ' H Hb/\s.own=true/\SvOk K (hid Hb (hs F σ ρ')) (upd Hb l o) (some (some (.ref l))) s/\Hb l=none/\H'=upd Hb l o/\v = .ref l
 | .t n=>Rel K F σ ρ' H'/\Kp σ ρ ρ' H H'/\v = .ty n
 | .x s=>Rel K F σ ρ' H'/\Kp σ ρ ρ' H H'/\s.own=false/\SvOk K (hid H' (hs F σ ρ')) H' (some (some v)) s
def InF (K:bi)(F:Fr)(σ:St)(ρ:En)(H:Hp)(v:V):R->Prop
 | .d d=>RepD K (hid H (hs F σ ρ)) v d
 | .o i=>σ[i]? = some (some v)
 | .n _=>True
 | .t n=>v = .ty n
 | .x s=>s.own=false/\SvOk K (hid H (hs F σ ρ)) H (some (some v)) s
def R.frz:R->R
 | .n (.ow ds)=>.d (.lst ds)
 | r=>r
inductive InFs (K:bi) (F:Fr) (σ:St) (ρ:En) (H:Hp):List V->List R->Prop
 | nil:InFs K F σ ρ H [] []
 | cons {v:V} {r:R} {vs:List V} {rs:List R}:InF K F σ ρ H v r->InFs K F σ ρ H vs rs->InFs K F σ ρ H (v::vs) (r::rs)
def view (ρ:En):R->Option D
 | .d d=>some d
 | .o i=>(match gt ρ i with | .ow ds=>some (.lst ds) | .vl d=>some d | _=>none)
 | _=>none
section
variable {K:bi}{F:Fr}{σ:St}{ρ ρ':En}{H H':Hp}{v:V}{r:R}
theorem InF.keep (h:InF K F σ ρ H v r)(k:Kp σ ρ ρ' H H'):InF K F σ ρ' H' v r:=by
 cases r with
 | d d=>exact RepD.same h k.vis
 | o i=>exact h
 | n s=>exact h
 | t n=>exact h
 | x s=>exact⟨h.1,h.2.keep k.vis λl o ho=>by rw[h.1]at ho;cases ho⟩
theorem InFs.keep {vs:List V}{rs:List R}(h:InFs K F σ ρ H vs rs)(k:Kp σ ρ ρ' H H'):InFs K F σ ρ' H' vs rs:=by
 induction h with
 | nil=>exact .nil
 | cons a _ ih=>exact .cons (a.keep k) ih
theorem Out.inF (h:Out K F σ ρ H ρ' v H' r):Rel K F σ ρ' H'/\Kp σ ρ ρ' H H'/\InF K F σ ρ' H' v r.frz:=by
 cases r with
 | d d=>exact⟨h.1,h.2.1,h.2.2⟩
 | o i=>exact⟨h.1,h.2.1,h.2.2⟩
 | t n=>exact⟨h.1,h.2.1,h.2.2⟩
 | x s=>exact⟨h.1,h.2.1,h.2.2⟩
 | n s =>
  obtain⟨Hb,l,o,a,k0,hs',b,c,rfl,rfl⟩:=h
  have k:Kp σ ρ' ρ' Hb (upd Hb l o):=Kp.fresh c
  refine⟨a.fresh c,k0.trans k,?_⟩
  cases s with
  | un=>trivial
  | vl d=>trivial
  | tp n=>trivial
  | dk n=>trivial
  | dt n=>trivial
  | ex n m=>trivial
  | sc n=>trivial
  | px n m k=>trivial
  | xl es=>trivial
  | ob _ _=>trivial
  | ll _=>trivial
  | ds _ _ _=>trivial
  | ow ds =>
   obtain⟨l',vs,e,h1,h2⟩:=b
   injection e with e;injection e with e;injection e with e;subst e
   show RepD K _ (.ref l) (.lst ds)
   unfold RepD
   exact⟨l,vs,rfl,gG (iY a c) h1,h2.same k.vis⟩
theorem Out.rel (h:Out K F σ ρ H ρ' v H' r):RelR K F σ ρ' v H' r:=by
 cases r with
 | d d=>exact⟨h.1,h.2.2⟩
 | o i=>exact⟨h.1,h.2.2⟩
 | t n=>exact⟨h.1,h.2.2⟩
 | x s=>exact⟨h.1,h.2.2⟩
 | n s =>
  obtain⟨Hb,l,o,a,k0,hs',b,c,e1,e2⟩:=h
  exact⟨Hb,l,o,a,hs',b,c,e1,e2⟩
theorem Out.after {ρ1:En}{H1:Hp}(k:Kp σ ρ ρ1 H H1)(h:Out K F σ ρ1 H1 ρ' v H' r):Out K F σ ρ H ρ' v H' r:=by
 cases r with
 | d d=>exact⟨h.1,k.trans h.2.1,h.2.2⟩
 | o i=>exact⟨h.1,k.trans h.2.1,h.2.2⟩
 | t n=>exact⟨h.1,k.trans h.2.1,h.2.2⟩
 | x s=>exact⟨h.1,k.trans h.2.1,h.2.2⟩
 | n s =>
  obtain⟨Hb,l,o,a,k0,hs',b,c,e1,e2⟩:=h
  exact⟨Hb,l,o,a,k.trans k0,hs',b,c,e1,e2⟩
theorem d4 {d:D}(a:Rel K F σ ρ H)(h:InF K F σ ρ H v r)(e:view ρ r=some d):RepD K H v d:=by
 cases r with
 | d d'=>injection e with e;subst e;exact RepD.same h cf
 | t n=>cases e
 | x s=>cases e
 | n s=>cases e
 | o i =>
  have q:=a.sl i
  unfold view at e
  cases hg:gt ρ i with
  | un=>simp[hg]at e
  | tp n=>simp[hg]at e
  | dk n=>simp[hg]at e
  | dt n=>simp[hg]at e
  | ex n m=>simp[hg]at e
  | sc n=>simp[hg]at e
  | px n m k=>simp[hg]at e
  | xl es=>simp[hg]at e
  | ob _ _=>simp[hg]at e
  | ll _=>simp[hg]at e
  | ds _ _ _=>simp[hg]at e
  | vl d' =>
   simp[hg]at e
   subst e
   rw[hg]at q
   obtain⟨x,e1,r1⟩:=q
   rw[show σ[i]? = _ from h]at e1
   injection e1 with e1;injection e1 with e1;subst e1
   exact r1.same cf
  | ow ds =>
   simp[hg]at e
   subst e
   rw[hg]at q
   obtain⟨l,vs,e1,r1,r2⟩:=q
   rw[show σ[i]? = _ from h]at e1
   injection e1 with e1;injection e1 with e1;subst e1
   unfold RepD
   exact⟨l,vs,rfl,r1,r2.same cf⟩
theorem cT {ds:List D}(a:Rel K F σ ρ H)(h:InF K F σ ρ H v r)(e:view ρ r=some (.lst ds)):∃l vs,v = .ref l/\SqL K H l vs/\RepDs K (hid H (hs F σ ρ)) vs ds:=by
 cases r with
 | d d' =>
  injection e with e;subst e
  have h':RepD K _ v (.lst ds):=h
  unfold RepD at h'
  obtain⟨l,vs,e,q,r⟩:=h'
  exact⟨l,vs,e,cf.seq (StL.sq q),r⟩
 | t n=>cases e
 | x s=>cases e
 | n s=>cases e
 | o i =>
  have q:=a.sl i
  unfold view at e
  cases hg:gt ρ i with
  | un=>simp[hg]at e
  | tp n=>simp[hg]at e
  | dk n=>simp[hg]at e
  | dt n=>simp[hg]at e
  | ex n m=>simp[hg]at e
  | sc n=>simp[hg]at e
  | px n m k=>simp[hg]at e
  | xl es=>simp[hg]at e
  | ob _ _=>simp[hg]at e
  | ll _=>simp[hg]at e
  | ds _ _ _=>simp[hg]at e
  | vl d' =>
   simp[hg]at e
   subst e
   rw[hg]at q
   obtain⟨x,e1,r1⟩:=q
   rw[show σ[i]? = _ from h]at e1
   injection e1 with e1;injection e1 with e1;subst e1
   unfold RepD at r1
   obtain⟨l,vs,e,q,r⟩:=r1
   exact⟨l,vs,e,cf.seq (StL.sq q),r⟩
  | ow ds =>
   simp[hg]at e
   subst e
   rw[hg]at q
   obtain⟨l,vs,e1,r1,r2⟩:=q
   rw[show σ[i]? = _ from h]at e1
   injection e1 with e1;injection e1 with e1;subst e1
   exact⟨l,vs,rfl,SqL.of r1,r2⟩
theorem ir {ds:List D}(a:Rel K F σ ρ H)(h:InF K F σ ρ H v r)(e:view ρ r=some (.tup ds)):∃l vs,v = .ref l/\SqT K H l vs/\RepDs K (hid H (hs F σ ρ)) vs ds/\StT (hid H (hs F σ ρ)) l vs:=by
 have go:∀ {x:V},RepD K (hid H (hs F σ ρ)) x (.tup ds)->∃l vs,x = .ref l/\SqT K H l vs/\RepDs K (hid H (hs F σ ρ)) vs ds/\StT (hid H (hs F σ ρ)) l vs:=λh'=>by
  unfold RepD at h'
  obtain⟨l,vs,e,q,r⟩:=h'
  exact⟨l,vs,e,cf.seqT q.sq,r,q⟩
 cases r with
 | d d'=>injection e with e;subst e;exact go h
 | t n=>cases e
 | x s=>cases e
 | n s=>cases e
 | o i =>
  have q:=a.sl i
  unfold view at e
  cases hg:gt ρ i with
  | un=>simp[hg]at e
  | tp n=>simp[hg]at e
  | dk n=>simp[hg]at e
  | dt n=>simp[hg]at e
  | ex n m=>simp[hg]at e
  | sc n=>simp[hg]at e
  | px n m k=>simp[hg]at e
  | xl es=>simp[hg]at e
  | ob _ _=>simp[hg]at e
  | ll _=>simp[hg]at e
  | ds _ _ _=>simp[hg]at e
  | ow ds'=>simp[hg]at e
  | vl d' =>
   simp[hg]at e
   subst e
   rw[hg]at q
   obtain⟨x,e1,r1⟩:=q
   rw[show σ[i]? = _ from h]at e1
   injection e1 with e1;injection e1 with e1;subst e1
   exact go r1
end
abbrev Ko:=R->En->Prop
abbrev AE:=En->Ko->Prop
abbrev AT:=En->(Bool->En->Prop)->Prop
abbrev AA:=En->(List R->En->Prop)->Prop
structure o7 where
 nx:En->Prop
 rt:R->En->Prop
 bk:En->Prop
 ct:En->Prop
abbrev AS:=o7->En->Prop
def Beh (K:bi)(F:Fr)(σ:St)(ρ:En)(H:Hp)(q:Ko)(Q:VK):Prop:=∀r ρ' v H',q r ρ'->Out K F σ ρ H ρ' v H' r->Q v H'
def TEok (K:bi)(t:TE)(a:AE):Prop:=∀F σ ρ H q Q,Rel K F σ ρ H->a ρ q->Beh K F σ ρ H q Q->t σ H Q
def TTok (K:bi)(t:TT)(a:AT):Prop:=∀F σ ρ H q Q,Rel K F σ ρ H->a ρ q->(∀b ρ' H',q b ρ'->Rel K F σ ρ' H'->Kp σ ρ ρ' H H'->Q b H')->t σ H Q
def TAok (K:bi)(t:TA)(a:AA):Prop:=∀F σ ρ H q Q,Rel K F σ ρ H->a ρ q->(∀rs ρ' vs H',q rs ρ'->Rel K F σ ρ' H'->InFs K F σ ρ' H' vs rs->Kp σ ρ ρ' H H'->Q vs H')->t σ H Q
def OpOk (K:bi)(r:R2)(g:R->R->AE):Prop:=∀F σ ρ H x y r1 r2 q Q,Rel K F σ ρ H->InF K F σ ρ H x r1->InF K F σ ρ H y r2->g r1 r2 ρ q->Beh K F σ ρ H q Q->r x y H Q
def CbOk (K:bi)(r:List V->Hp->VK->Prop)(g:List R->AE):Prop:=∀F σ ρ H vs rs q Q,Rel K F σ ρ H->InFs K F σ ρ H vs rs->g rs ρ q->Beh K F σ ρ H q Q->r vs H Q
section
variable {K:bi}{F:Fr}{σ:St}{ρ ρ':En}{H H':Hp}{v:V}{r:R}{q:Ko}{Q:VK}
theorem Beh.dat (b:Beh K F σ ρ H q Q)(a:Rel K F σ ρ H){d:D}(hq:q (.d d) ρ)(h:RepD K (hid H (hs F σ ρ)) v d):Q v H:=b (.d d) ρ v H hq ⟨a,.refl,h⟩
theorem Beh.int (b:Beh K F σ ρ H q Q)(a:Rel K F σ ρ H){i:Int}(hq:q (.d (.int i)) ρ):Q (.int i) H:=b.dat a hq (by unfold RepD;rfl)
theorem Beh.bl (b:Beh K F σ ρ H q Q)(a:Rel K F σ ρ H){i:Bool}(hq:q (.d (.bl i)) ρ):Q (.bl i) H:=b.dat a hq (by unfold RepD;rfl)
theorem Beh.non (b:Beh K F σ ρ H q Q)(a:Rel K F σ ρ H)(hq:q (.d .non) ρ):Q .non H:=b.dat a hq (by unfold RepD;rfl)
theorem Beh.str (b:Beh K F σ ρ H q Q)(a:Rel K F σ ρ H){x:Str}(hq:q (.d (.str x)) ρ):Q (.str x) H:=b.dat a hq (by unfold RepD;rfl)
theorem Beh.new (b:Beh K F σ ρ H q Q)(a:Rel K F σ ρ H){ds:List D}{vs:List V}{l:Addr}(hq:q (.f ds) ρ)(hd:RepDs K (hid H (hs F σ ρ)) vs ds)(hl:H l=none):Q (.ref l) (upd H l (.lst vs)) :=
 b (.f ds) ρ _ _ hq ⟨H,l,_,a,.refl,rfl,⟨l,vs,rfl,aS,hd⟩,hl,rfl,rfl⟩
theorem Beh.newT (b:Beh K F σ ρ H q Q)(a:Rel K F σ ρ H){ds:List D}{vs:List V}{l:Addr}(hq:q (.d (.tup ds)) ρ)(hd:RepDs K (hid H (hs F σ ρ)) vs ds)(hl:H l=none):Q (.ref l) (upd H l (.tup vs)):=by
 have k:Kp σ ρ ρ H (upd H l (.tup vs)):=Kp.fresh hl
 refine b (.d (.tup ds)) ρ _ _ hq ⟨a.fresh hl,k,?_⟩
 unfold RepD
 exact⟨l,vs,rfl,(gG (iY a hl) aS),hd.same k.vis⟩
theorem Beh.after {ρ1:En}{H1:Hp}(b:Beh K F σ ρ H q Q)(k:Kp σ ρ ρ1 H H1):Beh K F σ ρ1 H1 q Q:=λr ρ' v H' hq h=>b r ρ' v H' hq (.after k h)
def aVar (i:Nat):AE:=λρ q=>match gt ρ i with
 | .un=>False
 | .vl d=>q (.d d) ρ
 | .ow _=>q (.o i) ρ
 | .tp _=>q (.o i) ρ
 | .dk _=>q (.o i) ρ
 | .dt _=>q (.o i) ρ
 | .ex _ _=>q (.o i) ρ
 | .sc _=>q (.o i) ρ
 | .px _ _ _=>q (.o i) ρ
 | .xl _=>q (.o i) ρ
 | .ob _ _=>q (.o i) ρ
 | .ll _=>q (.o i) ρ
 | .ds _ _ _=>q (.o i) ρ
theorem aa {i:Nat}:TEok K (tVar i) (aVar i):=by
 intro F σ ρ H q Q a h b
 have s:=a.sl i
 unfold aVar at h
 cases hg:gt ρ i with
 | un=>rw[hg]at h;exact h.elim
 | vl d =>
  rw[hg]at h s
  obtain⟨x,e,r⟩:=s
  exact⟨x,e,b _ _ _ _ h ⟨a,.refl,r⟩⟩
 | ow ds =>
  rw[hg]at h s
  obtain⟨l,vs,e,_⟩:=s
  exact⟨_,e,b _ _ _ _ h ⟨a,.refl,e⟩⟩
 | tp n =>
  rw[hg]at h s
  obtain⟨l,c,ns,sp,lf,e,_⟩:=s
  exact⟨_,e,b _ _ _ _ h ⟨a,.refl,e⟩⟩
 | dk kvs =>
  rw[hg]at h s
  obtain⟨l,ks,e,_⟩:=s
  exact⟨_,e,b _ _ _ _ h ⟨a,.refl,e⟩⟩
 | dt kvs =>
  rw[hg]at h s
  obtain⟨l,ks,e,_⟩:=s
  exact⟨_,e,b _ _ _ _ h ⟨a,.refl,e⟩⟩
 | ex C fs =>
  rw[hg]at h s
  obtain⟨l,ks,e,_⟩:=s
  exact⟨_,e,b _ _ _ _ h ⟨a,.refl,e⟩⟩
 | sc ns =>
  rw[hg]at h s
  obtain⟨l,e,_⟩:=s
  exact⟨_,e,b _ _ _ _ h ⟨a,.refl,e⟩⟩
 | xl es =>
  rw[hg]at h s
  obtain⟨l,ks,e,_⟩:=s
  exact⟨_,e,b _ _ _ _ h ⟨a,.refl,e⟩⟩
 | ob C fs =>
  rw[hg]at h s
  obtain⟨l,_,_,e,_⟩:=s
  exact⟨_,e,b _ _ _ _ h ⟨a,.refl,e⟩⟩
 | ll xss =>
  rw[hg]at h s
  obtain⟨l,_,_,e,_⟩:=s
  exact⟨_,e,b _ _ _ _ h ⟨a,.refl,e⟩⟩
 | ds C n w =>
  rw[hg]at h s
  obtain⟨l,_,_,_,_,_,e,_⟩:=s
  exact⟨_,e,b _ _ _ _ h ⟨a,.refl,e⟩⟩
 | px d C fs =>
  rw[hg]at h s
  obtain⟨l,x,e',od,e,_⟩:=s
  exact⟨_,e,b _ _ _ _ h ⟨a,.refl,e⟩⟩
def aC (r:R):AE:=λρ q=>q r ρ
theorem aH {i:Int}:TEok K (tC (.int i)) (aC (.d (.int i))):=λ_ _ _ _ _ _ a h b=>b.int a h
theorem bV {i:Bool}:TEok K (tC (.bl i)) (aC (.d (.bl i))):=λ_ _ _ _ _ _ a h b=>b.bl a h
theorem mf {i:Str}:TEok K (tC (.str i)) (aC (.d (.str i))):=λ_ _ _ _ _ _ a h b=>b.str a h
theorem tw:TEok K (tC .non) (aC (.d .non)):=λ_ _ _ _ _ _ a h b=>b.non a h
theorem qN {n:String}:TEok K (tC (.ty n)) (aC (.t n)):=λ_ _ _ _ _ _ a h b=>b _ _ _ _ h ⟨a,.refl,rfl⟩
def aOp (g:R->R->AE)(a b:AE):AE:=λρ q=>a ρ λr1 ρ1=>b ρ1 λr2 ρ2=>g r1.frz r2.frz ρ2 q
variable {t t' ta tb tc:TE}{a b c:AE}{rr:R2}{g:R->R->AE}
theorem aF (ho:OpOk K rr g)(ha:TEok K ta a)(hb:TEok K tb b):TEok K (tOp rr ta tb) (aOp g a b):=by
 intro F σ ρ H q Q r h k
 refine ha F σ ρ H _ _ r h λr1 ρ1 x H1 h1 rel1=>?_
 obtain⟨r',k1,i1⟩:=rel1.inF
 refine hb F σ ρ1 H1 _ _ r' h1 λr2 ρ2 y H2 h2 rel2=>?_
 obtain⟨r'',k2,i2⟩:=rel2.inF
 exact ho F σ ρ2 H2 x y _ _ q Q r'' (i1.keep k2) i2 h2 (k.after (k1.trans k2))
def gI (C:Int->Int->Prop)(f:Int->Int->D):R->R->AE:=λr1 r2 ρ q=>match r1,r2 with
 | .d (.int i),.d (.int j)=>C i j/\q (.d (f i j)) ρ
 | _,_=>False
theorem AX {C:Int->Int->Prop}{f:Int->Int->D}{r1 r2:R}(h:gI C f r1 r2 ρ q):∃i j,r1 = .d (.int i)/\r2 = .d (.int j)/\C i j/\q (.d (f i j)) ρ:=by
 unfold gI at h
 split at h
 ·exact⟨_,_,rfl,rfl,h⟩
 ·exact h.elim
theorem InF.int {i:Int}(h:InF K F σ ρ H v (.d (.int i))):v = .int i:=by
 unfold InF RepD at h;exact h
theorem InF.blv {i:Bool}(h:InF K F σ ρ H v (.d (.bl i))):v = .bl i:=by
 unfold InF RepD at h;exact h
theorem fJ {C:Int->Int->Prop}{f:Int->Int->Int}:OpOk K (rI C λi j=>.int (f i j)) (gI C λi j=>.int (f i j)):=by
 intro F σ ρ H x y r1 r2 q Q a h1 h2 h b
 obtain⟨i,j,rfl,rfl,c,h⟩:=AX h
 exact⟨i,j,h1.int,h2.int,c,b.int a h⟩
def gI0 (f:Int->Int->D):R->R->AE:=λr1 r2 ρ q=>match r1,r2 with
 | .d (.int i),.d (.int j)=>q (.d (f i j)) ρ
 | _,_=>False
theorem u6 {f:Int->Int->D}{r1 r2:R}(h:gI0 f r1 r2 ρ q):∃i j,r1 = .d (.int i)/\r2 = .d (.int j)/\q (.d (f i j)) ρ:=by
 unfold gI0 at h
 split at h
 ·exact⟨_,_,rfl,rfl,h⟩
 ·exact h.elim
theorem bc {f:Int->Int->Int}:OpOk K (rI0 λi j=>.int (f i j)) (gI0 λi j=>.int (f i j)):=by
 intro F σ ρ H x y r1 r2 q Q a h1 h2 h b
 obtain⟨i,j,rfl,rfl,h⟩:=u6 h
 exact⟨i,j,h1.int,h2.int,b.int a h⟩
theorem cZ {f:Int->Int->Bool}:OpOk K (rI0 λi j=>.bl (f i j)) (gI0 λi j=>.bl (f i j)):=by
 intro F σ ρ H x y r1 r2 q Q a h1 h2 h b
 obtain⟨i,j,rfl,rfl,h⟩:=u6 h
 exact⟨i,j,h1.int,h2.int,b.bl a h⟩
@[irreducible] def gEq (neg:Bool):R->R->AE:=λr1 r2 ρ q=>match view ρ r1,view ρ r2 with
 | some d,some e=>d.depth<=60/\q (.d (.bl (if neg then !eqD d e else eqD d e))) ρ
 | _,_=>False
theorem u7 {neg:Bool}{r1 r2:R}(h:gEq neg r1 r2 ρ q):∃d e,view ρ r1=some d/\view ρ r2=some e/\d.depth<=60/\q (.d (.bl (if neg then !eqD d e else eqD d e))) ρ:=by
 unfold gEq at h
 split at h
 ·rename_i d e h1 h2;exact⟨d,e,h1,h2,h⟩
 ·exact h.elim
theorem gB:OpOk K (rEqD K) (gEq false):=by
 intro F σ ρ H x y r1 r2 q Q a h1 h2 h b
 obtain⟨d,e,e1,e2,c,h⟩:=u7 h
 exact⟨d,e,d4 a h1 e1,d4 a h2 e2,c,b.bl a h⟩
theorem iP:OpOk K (rNeD K) (gEq true):=by
 intro F σ ρ H x y r1 r2 q Q a h1 h2 h b
 obtain⟨d,e,e1,e2,c,h⟩:=u7 h
 exact⟨d,e,d4 a h1 e1,d4 a h2 e2,c,b.bl a h⟩
@[irreducible] def gIx:R->R->AE:=λr1 r2 ρ q=>match view ρ r1,r2 with
 | some (.lst ds),.d (.int i)=>(match atI ds i with | some d=>q (.d d) ρ | none=>False)
 | some (.tup ds),.d (.int i)=>(match atI ds i with | some d=>q (.d d) ρ | none=>False)
 | _,_=>False
theorem vC {Hh:Hp}{vs:List V}{ds:List D}{i:Int}{d:D}(h:RepDs K Hh vs ds)(e:atI ds i=some d):∃v,atI vs i=some v/\RepD K Hh v d:=by
 unfold atI at e ⊢
 rw[h.length]
 cases hx:ixN ds.length i with
 | none=>rw[hx]at e;cases e
 | some j =>
  rw[hx]at e
  exact h.get e
theorem bb:OpOk K (rIx K) gIx:=by
 intro F σ ρ H x y r1 r2 q Q a h1 h2 h b
 unfold gIx at h
 split at h
 ·rename_i ds i e1
  split at h
  ·rename_i d e
   obtain⟨l,vs,rfl,sq,rd⟩:=cT a h1 e1
   obtain⟨v,e2,rv⟩:=vC rd e
   exact .inl ⟨l,vs,i,v,rfl,h2.int,sq,e2,b.dat a h rv⟩
  ·exact h.elim
 ·rename_i ds i e1
  split at h
  ·rename_i d e
   obtain⟨l,vs,rfl,sq,rd,_⟩:=ir a h1 e1
   obtain⟨v,e2,rv⟩:=vC rd e
   exact .inr (.inl ⟨l,vs,i,v,rfl,h2.int,sq,e2,b.dat a h rv⟩)
  ·exact h.elim
 ·exact h.elim
def BN (a b:AE):AE:=λρ q=>a ρ λr ρ1=>match r with
 | .d (.bl c)=>if c=true then b ρ1 q else q (.d (.bl false)) ρ1
 | _=>False
def aOrV (a b:AE):AE:=λρ q=>a ρ λr ρ1=>match r with
 | .d (.bl c)=>if c=true then q (.d (.bl true)) ρ1 else b ρ1 q
 | _=>False
def BE (a:AE):AE:=λρ q=>a ρ λr ρ1=>match r with
 | .d (.bl c)=>q (.d (.bl (!c))) ρ1
 | _=>False
theorem dF (ha:TEok K ta a)(hb:TEok K tb b):TEok K (z3 ta tb) (BN a b):=by
 intro F σ ρ H q Q r h k
 refine ha F σ ρ H _ _ r h λr1 ρ1 x H1 h1 rel1=>?_
 split at h1
 ·rename_i c
  obtain⟨r',k1,i1⟩:=rel1.inF
  refine⟨c,i1.blv,?_⟩
  cases c with
  | true=>exact hb F σ ρ1 H1 q Q r' h1 (k.after k1)
  | false=>exact(k.after k1).bl r' h1
 ·exact h1.elim
theorem yc (ha:TEok K ta a)(hb:TEok K tb b):TEok K (tOrV ta tb) (aOrV a b):=by
 intro F σ ρ H q Q r h k
 refine ha F σ ρ H _ _ r h λr1 ρ1 x H1 h1 rel1=>?_
 split at h1
 ·rename_i c
  obtain⟨r',k1,i1⟩:=rel1.inF
  refine⟨c,i1.blv,?_⟩
  cases c with
  | true=>exact(k.after k1).bl r' h1
  | false=>exact hb F σ ρ1 H1 q Q r' h1 (k.after k1)
 ·exact h1.elim
theorem qO (ha:TEok K ta a):TEok K (zX ta) (BE a):=by
 intro F σ ρ H q Q r h k
 refine ha F σ ρ H _ _ r h λr1 ρ1 x H1 h1 rel1=>?_
 split at h1
 ·rename_i c
  obtain⟨r',k1,i1⟩:=rel1.inF
  exact⟨c,i1.blv,(k.after k1).bl r' h1⟩
 ·exact h1.elim
variable {tt tu:TT}{at' au:AT}
def aB (a:AE):AT:=λρ q=>a ρ λr ρ1=>match r with
 | .d (.bl c)=>q c ρ1
 | _=>False
theorem dZ (ha:TEok K ta a):TTok K (tB ta) (aB a):=by
 intro F σ ρ H q Q r h k
 refine ha F σ ρ H _ _ r h λr1 ρ1 x H1 h1 rel1=>?_
 split at h1
 ·rename_i c
  obtain⟨r',k1,i1⟩:=rel1.inF
  exact⟨c,i1.blv,k _ _ _ h1 r' k1⟩
 ·exact h1.elim
theorem aO (ha:TEok K ta a):TTok K (zV ta) (aB a):=dZ ha
def aAnd (a b:AT):AT:=λρ q=>a ρ λc ρ1=>if c=true then b ρ1 q else q false ρ1
def aOr (a b:AT):AT:=λρ q=>a ρ λc ρ1=>if c=true then q true ρ1 else b ρ1 q
def aNot (a:AT):AT:=λρ q=>a ρ λc ρ1=>q (!c) ρ1
theorem fC (ha:TTok K tt at')(hb:TTok K tu au):TTok K (tAnd tt tu) (aAnd at' au):=by
 intro F σ ρ H q Q r h k
 refine ha F σ ρ H _ _ r h λc ρ1 H1 h1 r1 k1=>?_
 cases c with
 | true=>exact hb F σ ρ1 H1 q Q r1 h1 λb ρ2 H2 h2 r2 k2=>k _ _ _ h2 r2 (k1.trans k2)
 | false=>exact k _ _ _ h1 r1 k1
theorem jg (ha:TTok K tt at')(hb:TTok K tu au):TTok K (tOr tt tu) (aOr at' au):=by
 intro F σ ρ H q Q r h k
 refine ha F σ ρ H _ _ r h λc ρ1 H1 h1 r1 k1=>?_
 cases c with
 | true=>exact k _ _ _ h1 r1 k1
 | false=>exact hb F σ ρ1 H1 q Q r1 h1 λb ρ2 H2 h2 r2 k2=>k _ _ _ h2 r2 (k1.trans k2)
theorem cU (ha:TTok K tt at'):TTok K (tNot tt) (aNot at'):=λF σ ρ H q Q r h k=>ha F σ ρ H _ _ r h λc ρ1 H1 h1 r1 k1=>k _ _ _ h1 r1 k1
def truD:D->Bool
 | .non=>false
 | .bl b=>b
 | .int i=>i != 0
 | .str _=>true
 | .tup ds=>!ds.isEmpty
 | .lst ds=>!ds.isEmpty
def aTru (a:AE):AT:=λρ q=>a ρ λr ρ1=>match view ρ1 r.frz with
 | some (.str _)=>False
 | some d=>q (truD d) ρ1
 | none=>False
theorem kM {Hh:Hp}{vs:List V}{ds:List D}(h:RepDs K Hh vs ds):vs.isEmpty=ds.isEmpty:=by
 have:=h.length
 cases vs <;> cases ds <;> simp_all
theorem fB (ha:TEok K ta a):TTok K (λσ H Q=>ta σ H λx H'=>∃k,TruV K x H' k/\Q k H') (aTru a):=by
 intro F σ ρ H q Q r h k
 refine ha F σ ρ H _ _ r h λr1 ρ1 x H1 h1 rel1=>?_
 obtain⟨r',k1,i1⟩:=rel1.inF
 cases e:view ρ1 r1.frz with
 | none=>rw[e]at h1;exact h1.elim
 | some d =>
  rw[e]at h1
  have rd:=d4 r' i1 e
  cases d with
  | str x=>exact h1.elim
  | non=>unfold RepD at rd;subst rd;exact⟨_,rfl,k _ _ _ h1 r' k1⟩
  | bl b=>unfold RepD at rd;subst rd;exact⟨_,rfl,k _ _ _ h1 r' k1⟩
  | int b=>unfold RepD at rd;subst rd;exact⟨_,rfl,k _ _ _ h1 r' k1⟩
  | tup ds =>
   unfold RepD at rd
   obtain⟨p,vs,rfl,sq,rr⟩:=rd
   exact⟨_,.inr (.inl ⟨vs,sq,by rw[kM rr];rfl⟩),k _ _ _ h1 r' k1⟩
  | lst ds =>
   unfold RepD at rd
   obtain⟨p,vs,rfl,sq,rr⟩:=rd
   exact⟨_,.inl ⟨vs,sq,by rw[kM rr];rfl⟩,k _ _ _ h1 r' k1⟩
def aIf (c:AT)(a b:AE):AE:=λρ q=>c ρ λk ρ1=>if k=true then a ρ1 q else b ρ1 q
theorem zQ (hc:TTok K tt at')(ha:TEok K ta a)(hb:TEok K tb b):TEok K (tIf tt ta tb) (aIf at' a b):=by
 intro F σ ρ H q Q r h k
 refine hc F σ ρ H _ _ r h λc ρ1 H1 h1 r1 k1=>?_
 cases c with
 | true=>exact ha F σ ρ1 H1 q Q r1 h1 (k.after k1)
 | false=>exact hb F σ ρ1 H1 q Q r1 h1 (k.after k1)
variable {ts:TA}{as:AA}
def aNil:AA:=λρ q=>q [] ρ
def xt (a:AE)(as:AA):AA:=λρ q=>a ρ λr ρ1=>as ρ1 λrs ρ2=>q (r.frz::rs) ρ2
theorem aj:TAok K tNil aNil:=λF σ ρ H q Q r h k=>k _ _ _ _ h r .nil .refl
theorem af (ha:TEok K ta a)(hs:TAok K ts as):TAok K (tV ta ts) (xt a as):=by
 intro F σ ρ H q Q r h k
 refine ha F σ ρ H _ _ r h λr1 ρ1 x H1 h1 rel1=>?_
 obtain⟨r',k1,i1⟩:=rel1.inF
 refine hs F σ ρ1 H1 _ _ r' h1 λrs ρ2 vs H2 h2 r2 i2 k2=>?_
 exact k _ _ _ _ h2 r2 (.cons (i1.keep k2) i2) (k1.trans k2)
def sto:List R->En->(List D->En->Prop)->Prop
 | [],ρ,q=>q [] ρ
 | .d d::rs,ρ,q=>sto rs ρ λds ρ'=>q (d::ds) ρ'
 | .o i::rs,ρ,q=>(match gt ρ i with
  | .ow ds=>sto rs (pt ρ i (.vl (.lst ds))) λes ρ'=>q (.lst ds::es) ρ'
  | .vl d=>sto rs ρ λes ρ'=>q (d::es) ρ'
  | _=>False)
 | _::_,_,_=>False
theorem gj:∀ {vs:List V} {rs:List R} {ρ:En} {q:List D->En->Prop},Rel K F σ ρ H->InFs K F σ ρ H vs rs->sto rs ρ q->∃ds ρ',q ds ρ'/\Rel K F σ ρ' H/\Kp σ ρ ρ' H H/\RepDs K (hid H (hs F σ ρ')) vs ds
 | _,_,ρ,q,r,.nil,h=>⟨[],ρ,h,r,.refl,.nil⟩
 | _,_,ρ,q,r,.cons (v:=v) (r:=rr) (vs:=vs) (rs:=rs) a t,h=>by
  cases rr with
  | n s=>exact h.elim
  | t n=>exact h.elim
  | x s=>exact h.elim
  | d d =>
   obtain⟨ds,ρ',hq,r',k,rd⟩:=gj r t (show sto rs ρ _ from h)
   exact⟨d::ds,ρ',hq,r',k,.cons (RepD.same a k.vis) rd⟩
  | o i =>
   have s:=r.sl i
   unfold sto at h
   cases hg:gt ρ i with
   | un=>rw[hg]at h;exact h.elim
   | tp n=>rw[hg]at h;exact h.elim
   | dk n=>rw[hg]at h;exact h.elim
   | dt n=>rw[hg]at h;exact h.elim
   | ex n m=>rw[hg]at h;exact h.elim
   | sc n=>rw[hg]at h;exact h.elim
   | px n m k=>rw[hg]at h;exact h.elim
   | xl es=>rw[hg]at h;exact h.elim
   | ob _ _=>rw[hg]at h;exact h.elim
   | ll _=>rw[hg]at h;exact h.elim
   | ds _ _ _=>rw[hg]at h;exact h.elim
   | vl d =>
    rw[hg]at h s
    obtain⟨x,e,rd1⟩:=s
    rw[show σ[i]? = _ from a]at e
    injection e with e;injection e with e;subst e
    obtain⟨ds,ρ',hq,r',k,rd⟩:=gj r t h
    exact⟨d::ds,ρ',hq,r',k,.cons (rd1.same k.vis) rd⟩
   | ow ds =>
    rw[hg]at h
    obtain⟨l,e,r1,k1,rd1⟩:=r.frz hg
    rw[show σ[i]? = _ from a]at e
    injection e with e;injection e with e;subst e
    obtain⟨es,ρ',hq,r',k,rd⟩:=gj r1 (t.keep k1) h
    exact⟨_,ρ',hq,r',k1.trans k,.cons (rd1.same k.vis) rd⟩
theorem small {n:Nat}(h:n<=1000000):n<=wT:=by unfold wT;omega
theorem lD {n:Nat}(h:n<=1000000):n<wT:=by unfold wT;omega
def aTup (as:AA):AE:=λρ q=>as ρ λrs ρ1=>sto rs ρ1 λds ρ2=>ds.length<=1000000/\q (.d (.tup ds)) ρ2
def aLst (as:AA):AE:=λρ q=>as ρ λrs ρ1=>sto rs ρ1 λds ρ2=>ds.length<=1000000/\q (.f ds) ρ2
theorem cb (hs:TAok K ts as):TEok K (tTup ts) (aTup as):=by
 intro F σ ρ H q Q r h k
 refine hs F σ ρ H _ _ r h λrs ρ1 vs H1 h1 r1 i1 k1=>?_
 obtain⟨ds,ρ2,⟨hz,hq⟩,r2,k2,rd⟩:=gj r1 i1 h1
 exact⟨small (by rw[rd.length];exact hz),λp hp=>((k.after k1).after k2).newT r2 hq rd hp⟩
theorem cW (hs:TAok K ts as):TEok K (tLst ts) (aLst as):=by
 intro F σ ρ H q Q r h k
 refine hs F σ ρ H _ _ r h λrs ρ1 vs H1 h1 r1 i1 k1=>?_
 obtain⟨ds,ρ2,⟨hz,hq⟩,r2,k2,rd⟩:=gj r1 i1 h1
 exact⟨small (by rw[rd.length];exact hz),λp hp=>((k.after k1).after k2).new r2 hq rd hp⟩
def aCB (g:List R->AE)(as:AA):AE:=λρ q=>as ρ λrs ρ1=>g rs ρ1 q
theorem cj {rb:List V->Hp->VK->Prop}{g:List R->AE}(hb:CbOk K rb g)(hs:TAok K ts as):TEok K (tCB rb ts) (aCB g as):=by
 intro F σ ρ H q Q r h k
 exact hs F σ ρ H _ _ r h λrs ρ1 vs H1 h1 r1 i1 k1=>hb F σ ρ1 H1 vs rs q Q r1 i1 h1 (k.after k1)
theorem InFs.one {vs:List V}{r1:R}(h:InFs K F σ ρ H vs [r1]):∃x,vs=[x]/\InF K F σ ρ H x r1:=by
 cases h with | cons a t=>cases t;exact⟨_,rfl,a⟩
theorem InFs.two {vs:List V}{r1 r2:R}(h:InFs K F σ ρ H vs [r1,r2]):∃x y,vs=[x,y]/\InF K F σ ρ H x r1/\InF K F σ ρ H y r2:=by
 cases h with | cons a t=>obtain⟨y,rfl,b⟩:=t.one;exact⟨_,_,rfl,a,b⟩
def gLen:List R->AE:=λrs ρ q=>match rs with
 | [r]=>(match view ρ r with
  | some (.lst ds)=>q (.d (.int ds.length)) ρ
  | some (.tup ds)=>q (.d (.int ds.length)) ρ
  | _=>False)
 | _=>False
theorem dM:CbOk K (λxs H Q=>∃p ys,xs=[.ref p]/\(SqL K H p ys∨SqT K H p ys)/\Q (.int ys.length) H) gLen:=by
 intro F σ ρ H vs rs q Q a i h b
 unfold gLen at h
 split at h
 ·obtain⟨x,rfl,i1⟩:=i.one
  split at h
  ·rename_i ds e
   obtain⟨l,vs,rfl,sq,rd⟩:=cT a i1 e
   exact⟨l,vs,rfl,.inl sq,by rw[rd.length];exact b.int a h⟩
  ·rename_i ds e
   obtain⟨l,vs,rfl,sq,rd,_⟩:=ir a i1 e
   exact⟨l,vs,rfl,.inr sq,by rw[rd.length];exact b.int a h⟩
  ·exact h.elim
 ·exact h.elim
@[irreducible] def gIsa:List R->AE:=λrs ρ q=>match rs with
 | [r,.t n]=>(match view ρ r with
  | some d=>(match isaT (tyD d) n with | some b=>q (.d (.bl b)) ρ | none=>False)
  | none=>False)
 | _=>False
theorem jU:CbOk K (λxs H Q=>∃x d T b,xs=[x,.ty T]/\RepD K H x d/\isaT (tyD d) T=some b/\Q (.bl b) H) gIsa:=by
 intro F σ ρ H vs rs q Q a i h b
 unfold gIsa at h
 split at h
 ·obtain⟨x,y,rfl,i1,j1⟩:=i.two
  split at h
  ·rename_i d e
   split at h
   ·rename_i b' e'
    exact⟨x,d,_,b',by rw[show y=_ from j1],d4 a i1 e,e',b.bl a h⟩
   ·exact h.elim
  ·exact h.elim
 ·exact h.elim
def gList:List R->AE:=λrs ρ q=>match rs with
 | [r]=>(match view ρ r with
  | some (.lst ds)=>q (.f ds) ρ
  | some (.tup ds)=>q (.f ds) ρ
  | _=>False)
 | _=>False
theorem oP:CbOk K (λxs H Q=>∃p ys,xs=[.ref p]/\(SqL K H p ys∨SqT K H p ys)/\∀l,H l=none->Q (.ref l) (upd H l (.lst ys))) gList:=by
 intro F σ ρ H vs rs q Q a i h b
 unfold gList at h
 split at h
 ·obtain⟨x,rfl,i1⟩:=i.one
  split at h
  ·rename_i ds e
   obtain⟨l,vs,rfl,sq,rd⟩:=cT a i1 e
   exact⟨l,vs,rfl,.inl sq,λp hp=>b.new a h rd hp⟩
  ·rename_i ds e
   obtain⟨l,vs,rfl,sq,rd,_⟩:=ir a i1 e
   exact⟨l,vs,rfl,.inr sq,λp hp=>b.new a h rd hp⟩
  ·exact h.elim
 ·exact h.elim
def gTuple:List R->AE:=λrs ρ q=>match rs with
 | [r]=>(match view ρ r with
  | some (.lst ds)=>q (.d (.tup ds)) ρ
  | some (.tup ds)=>q (.d (.tup ds)) ρ
  | _=>False)
 | _=>False
theorem en:CbOk K (λxs H Q=>∃p ys,xs=[.ref p]/\((SqL K H p ys/\∀l,H l=none->Q (.ref l) (upd H l (.tup ys)))∨(SqT K H p ys/\Q (.ref p) H))) gTuple:=by
 intro F σ ρ H vs rs q Q a i h b
 unfold gTuple at h
 split at h
 ·obtain⟨x,rfl,i1⟩:=i.one
  split at h
  ·rename_i ds e
   obtain⟨l,vs,rfl,sq,rd⟩:=cT a i1 e
   exact⟨l,vs,rfl,.inl ⟨sq,λp hp=>b.newT a h rd hp⟩⟩
  ·rename_i ds e
   obtain⟨l,vs,rfl,sq,rd,sq'⟩:=ir a i1 e
   refine⟨l,vs,rfl,.inr ⟨sq,b.dat a h ?_⟩⟩
   unfold RepD
   exact⟨l,vs,rfl,sq',rd⟩
  ·exact h.elim
 ·exact h.elim
def gII (f:Int->Int->Int):List R->AE:=λrs ρ q=>match rs with
 | [.d (.int i),.d (.int j)]=>q (.d (.int (f i j))) ρ
 | _=>False
theorem xn:CbOk K (λxs H Q=>∃i j,xs=[.int i,.int j]/\Q (.int (if j > i then j else i)) H) (gII λi j=>if j > i then j else i):=by
 intro F σ ρ H vs rs q Q a i h b
 unfold gII at h
 split at h
 ·obtain⟨x,y,rfl,i1,j1⟩:=i.two
  exact⟨_,_,by rw[i1.int,j1.int],b.int a h⟩
 ·exact h.elim
theorem xm:CbOk K (λxs H Q=>∃i j,xs=[.int i,.int j]/\Q (.int (if j<i then j else i)) H) (gII λi j=>if j<i then j else i):=by
 intro F σ ρ H vs rs q Q a i h b
 unfold gII at h
 split at h
 ·obtain⟨x,y,rfl,i1,j1⟩:=i.two
  exact⟨_,_,by rw[i1.int,j1.int],b.int a h⟩
 ·exact h.elim
def gg:List D->Option (List Int)
 | []=>some []
 | .int i::ds=>(gg ds).map (i :: ·)
 | _=>none
theorem oz:∀ {ds:List D} {ns:List Int},gg ds=some ns->ds=ns.map D.int
 | [],ns,h=>by simp[gg]at h;subst h;rfl
 | .int i::ds,ns,h=>by
  simp only[gg,BR]at h
  obtain⟨ms,e,rfl⟩:=h
  rw[oz e];rfl
 | .non::ds,ns,h=>by simp[gg]at h
 | .bl _::ds,ns,h=>by simp[gg]at h
 | .str _::ds,ns,h=>by simp[gg]at h
 | .tup _::ds,ns,h=>by simp[gg]at h
 | .lst _::ds,ns,h=>by simp[gg]at h
theorem sI (ns:List Int):gg (ns.map D.int)=some ns:=by
 induction ns with
 | nil=>rfl
 | cons n ns ih=>simp[gg,ih]
def jK:List D->Option (List Bool)
 | []=>some []
 | .bl i::ds=>(jK ds).map (i :: ·)
 | _=>none
theorem rP:∀ {ds:List D} {ns:List Bool},jK ds=some ns->ds=ns.map D.bl
 | [],ns,h=>by simp[jK]at h;subst h;rfl
 | .bl i::ds,ns,h=>by
  simp only[jK,BR]at h
  obtain⟨ms,e,rfl⟩:=h
  rw[rP e];rfl
 | .non::ds,ns,h=>by simp[jK]at h
 | .int _::ds,ns,h=>by simp[jK]at h
 | .str _::ds,ns,h=>by simp[jK]at h
 | .tup _::ds,ns,h=>by simp[jK]at h
 | .lst _::ds,ns,h=>by simp[jK]at h
theorem vB (ns:List Bool):jK (ns.map D.bl)=some ns:=by
 induction ns with
 | nil=>rfl
 | cons n ns ih=>simp[jK,ih]
theorem xH:∀ {vs:List V} {ns:List Bool},RepDs K H vs (ns.map D.bl)->vs=ns.map V.bl
 | [],[],_=>rfl
 | v::vs,n::ns,h=>by
  rw[wl]at h
  unfold RepDs at h
  obtain⟨h1,h2⟩:=h
  unfold RepD at h1
  rw[wl,h1,xH h2]
 | [],n::ns,h=>by rw[wl]at h;unfold RepDs at h;exact h.elim
 | v::vs,[],h=>by rw[Dh]at h;unfold RepDs at h;exact h.elim
@[irreducible] def gAll:List R->AE:=λrs ρ q=>match rs with
 | [r]=>(match view ρ r with
  | some (.lst ds)=>(match jK ds with | some bs=>q (.d (.bl (bs.all id))) ρ | none=>False)
  | _=>False)
 | _=>False
theorem xo:CbOk K (λxs H Q=>∃(p:Addr) (bs:List Bool),xs=[.ref p]/\SqL K H p (bs.map V.bl)/\Q (.bl (bs.all id)) H) gAll:=by
 intro F σ ρ H vs rs q Q a i h b
 unfold gAll at h
 split at h
 ·obtain⟨x,rfl,i1⟩:=i.one
  split at h
  ·rename_i ds e
   split at h
   ·rename_i bs e'
    obtain⟨l,vs,rfl,sq,rd⟩:=cT a i1 e
    rw[rP e']at rd
    rw[xH rd]at sq
    exact⟨l,bs,rfl,sq,b.bl a h⟩
   ·exact h.elim
  ·exact h.elim
 ·exact h.elim
def aApp (a:AE)(as:AA):AE:=λρ q=>a ρ λr ρ1=>match r with
 | .o i=>(match gt ρ1 i with
  | .ow _=>as ρ1 λrs ρ2=>(match rs with
   | [y]=>sto [y] ρ2 λes ρ3=>(match gt ρ3 i with
    | .ow ds=>ds.length<=1000000/\q (.d .non) (pt ρ3 i (.ow (ds++es)))
    | _=>False)
   | _=>False)
  | _=>False)
 | _=>False
theorem e6 (ha:TEok K ta a)(hs:TAok K ts as):TEok K (tBM K "list" rAppend ta ts) (aApp a as):=by
 intro F σ ρ H q Q r h k
 refine ha F σ ρ H _ _ r h λr1 ρ1 x H1 h1 rel1=>?_
 split at h1
 ·rename_i i
  obtain⟨r',k1,i1⟩:=rel1.inF
  have ex:σ[i]? = some (some x):=i1
  split at h1
  ·rename_i ds0 hg0
   have s:=r'.sl i
   rw[hg0,ex]at s
   obtain⟨l,vs0,e,hl,_⟩:=s
   injection e with e;injection e with e;subst e
   refine⟨.inl ⟨rfl,_,SqL.of hl⟩,hs F σ ρ1 H1 _ _ r' h1 λrs ρ2 vs H2 h2 r2 i2 k2=>?_⟩
   split at h2
   ·obtain⟨es,ρ3,h3,r3,k3,rd⟩:=gj r2 i2 h2
    split at h3
    ·rename_i ds hg
     have s:=r3.sl i
     rw[hg,ex]at s
     obtain⟨l',us,e,hl',rd'⟩:=s
     injection e with e;injection e with e;injection e with e;subst e
     obtain⟨y,rfl,_⟩:=i2.one
     have hw:=r3.write (i:=i) (l:=l) (o:=.lst (us++[y])) (s:=.ow (ds++es)) (by rw[hg];rfl) ex rfl ⟨l,_,rfl,aS,rd'.append rd⟩
     refine⟨l,us,y,rfl,rfl,hl',lD (by rw[rd'.length];exact h3.1),?_⟩
     exact(((k.after k1).after k2).after (k3.trans hw.2)).non hw.1 h3.2
    ·exact h3.elim
   ·exact h2.elim
  ·exact h1.elim
 ·exact h1.elim
abbrev AO:=En->(Option Int->En->Prop)->Prop
def TOok (K:bi)(t:TO)(a:AO):Prop:=∀F σ ρ H q Q,Rel K F σ ρ H->a ρ q->(∀b ρ' H',q b ρ'->Rel K F σ ρ' H'->Kp σ ρ ρ' H H'->Q b H')->t σ H Q
def oNo:AO:=λρ q=>q none ρ
def Bp (a:AE):AO:=λρ q=>a ρ λr ρ1=>match r with
 | .d (.int i)=>q (some i) ρ1
 | _=>False
theorem md:TOok K tNoPart oNo:=λF σ ρ H q Q r h k=>k _ _ _ h r .refl
theorem iw (ha:TEok K ta a):TOok K (zW ta) (Bp a):=by
 intro F σ ρ H q Q r h k
 refine ha F σ ρ H _ _ r h λr1 ρ1 x H1 h1 rel1=>?_
 split at h1
 ·obtain⟨r',k1,i1⟩:=rel1.inF
  exact⟨_,i1.int,k _ _ _ h1 r' k1⟩
 ·exact h1.elim
def cutD (xs:List D)(lo hi:Option Int):List D:=(xs.drop (HT.sIx xs.length 0 lo)).take (HT.sIx xs.length xs.length hi - HT.sIx xs.length 0 lo)
theorem RepDs.drop:∀ {vs:List V} {ds:List D} (n:Nat),RepDs K H vs ds->RepDs K H (vs.drop n) (ds.drop n)
 | [],[],n,h=>by simp[RepDs.nil]
 | v::vs,d::ds,0,h=>h
 | v::vs,d::ds,n+1,h=>by unfold RepDs at h;exact RepDs.drop n h.2
 | [],d::ds,_,h=>by unfold RepDs at h;exact h.elim
 | v::vs,[],_,h=>by unfold RepDs at h;exact h.elim
theorem RepDs.take:∀ {vs:List V} {ds:List D} (n:Nat),RepDs K H vs ds->RepDs K H (vs.take n) (ds.take n)
 | [],[],n,h=>by simp[RepDs.nil]
 | v::vs,d::ds,0,h=>.nil
 | v::vs,d::ds,n+1,h=>by unfold RepDs at h;exact .cons h.1 (RepDs.take n h.2)
 | [],d::ds,_,h=>by unfold RepDs at h;exact h.elim
 | v::vs,[],_,h=>by unfold RepDs at h;exact h.elim
theorem zt {vs:List V}{ds:List D}{lo hi:Option Int}(h:RepDs K H vs ds):RepDs K H (cutV vs lo hi) (cutD ds lo hi):=by
 unfold cutV cutD
 rw[h.length]
 exact(h.drop _).take _
def aSlL (a:AE)(l u:AO):AE:=λρ q=>a ρ λr ρ1=>l ρ1 λlo ρ2=>u ρ2 λhi ρ3=>match view ρ3 r.frz with
 | some (.lst ds)=>q (.f (cutD ds lo hi)) ρ3
 | _=>False
theorem mh {tl th:TO}{al au:AO}(ha:TEok K ta a)(hl:TOok K tl al)(hh:TOok K th au):TEok K (tSl (rSlL K) ta tl th) (aSlL a al au):=by
 intro F σ ρ H q Q r h k
 refine ha F σ ρ H _ _ r h λr1 ρ1 x H1 h1 rel1=>?_
 obtain⟨r',k1,i1⟩:=rel1.inF
 refine hl F σ ρ1 H1 _ _ r' h1 λlo ρ2 H2 h2 r2 k2=>?_
 refine hh F σ ρ2 H2 _ _ r2 h2 λhi ρ3 H3 h3 r3 k3=>?_
 split at h3
 ·rename_i ds e
  obtain⟨p,vs,rfl,sq,rd⟩:=cT r3 ((i1.keep k2).keep k3) e
  exact⟨p,vs,rfl,sq,λp' hp=>(((k.after k1).after k2).after k3).new r3 h3 (zt rd) hp⟩
 ·exact h3.elim
end
def c_ (ρ:En):R->Sv
 | .d d=>.vl d
 | .o j=>gt ρ j
 | .x s=>s
 | _=>.un
def Src (K:bi)(F:Fr)(σ:St)(ρ:En)(H:Hp)(ov:Option V):R->Prop
 | .d d=>∃v,ov=some v/\RepD K (hid H (hs F σ ρ)) v d
 | .o j=>(σ[j]?).getD none=ov
 | .x s=>∃v,ov=some v/\s.own=false/\SvOk K (hid H (hs F σ ρ)) H (some (some v)) s
 | _=>True
inductive Srcs (K:bi) (F:Fr) (σ:St) (ρ:En) (H:Hp):St->List R->Prop
 | nil:Srcs K F σ ρ H [] []
 | cons {v:Option V} {r:R} {vs:St} {rs:List R}:Src K F σ ρ H v r->Srcs K F σ ρ H vs rs->Srcs K F σ ρ H (v::vs) (r::rs)
def isO (j:Nat):R->Bool
 | .o i=>i==j
 | _=>false
def dis:List R->Bool
 | []=>true
 | .o j::rs=>rs.all (λr=>!isO j r)&&dis rs
 | _::rs=>dis rs
theorem xk:∀ {rs:List R} {k k' j:Nat},dis rs=true->rs[k]? = some (.o j)->rs[k']? = some (.o j)->k=k':=by
 intro rs
 induction rs with
 | nil=>intro k k' j _ h;simp at h
 | cons r rs ih =>
  intro k k' j hd h h'
  have hd':dis rs=true:=by
   cases r <;> simp[dis]at hd <;> first | exact hd.2 | exact hd
  have no:∀(m:Nat),r = .o j->rs[m]? = some (.o j)->False:=λm e hm=>by
   subst e
   simp[dis]at hd
   have:=hd.1 _ (Cb hm)
   simp[isO]at this
  cases k with
  | zero =>
   cases k' with
   | zero=>rfl
   | succ k'=>simp at h h';exact(no k' h h').elim
  | succ k =>
   cases k' with
   | zero=>simp at h h';exact(no k h' h).elim
   | succ k'=>simp at h h';rw[ih hd' h h']
def back:En->List R->En->En
 | ρ,.o j::rs,s::ss=>back (pt ρ j s) rs ss
 | ρ,_::rs,_::ss=>back ρ rs ss
 | ρ,_,_=>ρ
theorem fW:∀(rs:List R) (ρ ss:En),(back ρ rs ss).length=ρ.length
 | [],ρ,ss=>by cases ss <;> rfl
 | r::rs,ρ,[]=>by cases r <;> rfl
 | .o j::rs,ρ,s::ss=>by show(back (pt ρ j s) rs ss).length=_;rw[fW,hZ]
 | .d d::rs,ρ,s::ss=>fW rs ρ ss
 | .n d::rs,ρ,s::ss=>fW rs ρ ss
 | .t d::rs,ρ,s::ss=>fW rs ρ ss
 | .x d::rs,ρ,s::ss=>fW rs ρ ss
theorem ik:∀(rs:List R) (ρ ss:En) (i:Nat),(∀k:Nat,rs[k]? ≠ some (R.o i))->gt (back ρ rs ss) i=gt ρ i
 | [],ρ,ss,i,_=>by cases ss <;> rfl
 | r::rs,ρ,[],i,_=>by cases r <;> rfl
 | .o j::rs,ρ,s::ss,i,h=>by
  have ne:j≠i:=λe=>h 0 (by simp[e])
  show gt (back (pt ρ j s) rs ss) i=_
  rw[ik rs _ ss i (λk z=>h (k+1) (by simpa using z)),cn ρ j i s ne]
 | .d d::rs,ρ,s::ss,i,h=>ik rs ρ ss i (λk z=>h (k+1) (by simpa using z))
 | .n d::rs,ρ,s::ss,i,h=>ik rs ρ ss i (λk z=>h (k+1) (by simpa using z))
 | .t d::rs,ρ,s::ss,i,h=>ik rs ρ ss i (λk z=>h (k+1) (by simpa using z))
 | .x d::rs,ρ,s::ss,i,h=>ik rs ρ ss i (λk z=>h (k+1) (by simpa using z))
theorem jy:∀(rs:List R) (ρ ss:En) (i k:Nat),dis rs=true->rs[k]? = some (.o i)->ss.length=rs.length->i<ρ.length->gt (back ρ rs ss) i=gt ss k
 | [],ρ,ss,i,k,_,h,_,_=>by simp at h
 | r::rs,ρ,[],i,k,_,_,e,_=>by simp at e
 | .o j::rs,ρ,s::ss,i,0,hd,h,e,l=>by
  simp at h;subst h
  simp[dis]at hd
  show gt (back (pt ρ j s) rs ss) j=s
  rw[ik rs _ ss j (λk z=>by have:=hd.1 _ (Cb z);simp[isO]at this),mU ρ j s l]
 | .o j::rs,ρ,s::ss,i,k+1,hd,h,e,l=>by
  simp[dis]at hd
  exact jy rs (pt ρ j s) ss i k hd.2 (by simpa using h) (by simpa using e) (by rw[hZ];exact l)
 | .d d::rs,ρ,s::ss,i,0,hd,h,e,l=>by simp at h
 | .n d::rs,ρ,s::ss,i,0,hd,h,e,l=>by simp at h
 | .t d::rs,ρ,s::ss,i,0,hd,h,e,l=>by simp at h
 | .x d::rs,ρ,s::ss,i,0,hd,h,e,l=>by simp at h
 | .d d::rs,ρ,s::ss,i,k+1,hd,h,e,l=>jy rs ρ ss i k hd (by simpa using h) (by simpa using e) l
 | .n d::rs,ρ,s::ss,i,k+1,hd,h,e,l=>jy rs ρ ss i k hd (by simpa using h) (by simpa using e) l
 | .t d::rs,ρ,s::ss,i,k+1,hd,h,e,l=>jy rs ρ ss i k hd (by simpa using h) (by simpa using e) l
 | .x d::rs,ρ,s::ss,i,k+1,hd,h,e,l=>jy rs ρ ss i k hd (by simpa using h) (by simpa using e) l
theorem oA (ρ:En):∀(rs:List R) (k:Nat),gt (rs.map (c_ ρ)) k=(match rs[k]? with | some r=>c_ ρ r | none=>.un)
 | [],k=>by simp[gt]
 | r::rs,0=>by simp[gt]
 | r::rs,k+1=>by simp[gt,oA ρ rs k]
section
variable {K:bi}{F:Fr}{σ:St}{ρ ρ':En}{H H':Hp}{ovs:St}{rs:List R}
theorem Srcs.length (s:Srcs K F σ ρ H ovs rs):ovs.length=rs.length:=by
 induction s with
 | nil=>rfl
 | cons _ _ ih=>simp[ih]
theorem Srcs.get {k:Nat}{r:R}(s:Srcs K F σ ρ H ovs rs)(h:rs[k]? = some r):∃ov,ovs[k]? = some ov/\Src K F σ ρ H ov r:=by
 induction s generalizing k with
 | nil=>simp at h
 | cons a _ ih =>
  cases k with
  | zero=>simp at h;subst h;exact⟨_,rfl,a⟩
  | succ k=>obtain⟨ov,e,q⟩:=ih (by simpa using h);exact⟨ov,by simpa using e,q⟩
def dU (F:Fr)(σ:St)(ρ:En)(H:Hp)(ovs:St)(ss:En):Fr :=
 ⟨H,λa=>F.Z a∨(bO σ ρ a/\¬bO ovs ss a),λa=>bO ovs ss a,λi a=>(gt ss i).own=true/\ovs[i]? = some (some (.ref a)),λ_ _=>False⟩
theorem pq (s:Srcs K F σ ρ H ovs rs){k:Nat}(h:(gt (rs.map (c_ ρ)) k).own=true):∃j:Nat,rs[k]? = some (R.o j)/\(gt ρ j).own=true/\gt (rs.map (c_ ρ)) k=gt ρ j/\ovs[k]? = some ((σ[j]?).getD none):=by
 rw[oA]at h
 cases e:rs[k]? with
 | none=>simp[e]at h;cases h
 | some r =>
  rw[e]at h
  cases r with
  | d d=>cases h
  | n d=>cases h
  | t d=>cases h
  | x d =>
   obtain⟨ov,_,_,_,hx,_⟩:=s.get e
   have h:d.own=true:=h
   rw[hx]at h;cases h
  | o j =>
   obtain⟨ov,e1,e2⟩:=s.get e
   exact⟨j,rfl,h,by rw[oA,e];rfl,by rw[e1,show _=ov from e2]⟩
theorem mV {x:Option (Option V)}{a:Addr}(h:some (x.getD none)=some (some (V.ref a))):x=some (some (.ref a)):=by
 cases x with
 | none=>simp at h
 | some y=>simpa using h
theorem dP (s:Srcs K F σ ρ H ovs rs){a:Addr}(h:bO ovs (rs.map (c_ ρ)) a):∃k j:Nat,rs[k]? = some (R.o j)/\(gt ρ j).own=true/\σ[j]? = some (some (V.ref a))/\ovs[k]? = some (some (V.ref a)):=by
 obtain⟨k,hk,e⟩:=h
 obtain⟨j,e1,e2,e3,e4⟩:=pq s hk
 rw[e]at e4
 exact⟨k,j,e1,e2,mV e4.symm,e⟩
theorem nE (r:Rel K F σ ρ H)(s:Srcs K F σ ρ H ovs rs):hs (dU F σ ρ H ovs (rs.map (c_ ρ))) ovs (rs.map (c_ ρ))=hs F σ ρ:=by
 funext a
 apply propext
 constructor
 ·rintro((h | h) | h)
  ·exact .inl h
  ·exact .inr h.1
  ·obtain⟨k,j,e1,e2,e3,_⟩:=dP s h
   exact .inr ⟨j,e2,e3⟩
 ·rintro(h | h)
  ·exact .inl (.inl h)
  ·by_cases q:bO ovs (rs.map (c_ ρ)) a
   ·exact .inr q
   ·exact .inl (.inr ⟨h,q⟩)
theorem Rel.sub (r:Rel K F σ ρ H)(s:Srcs K F σ ρ H ovs rs)(hd:dis rs=true):Rel K (dU F σ ρ H ovs (rs.map (c_ ρ))) ovs (rs.map (c_ ρ)) H:=by
 refine⟨by rw[s.length,f8],λa o e _=>e,λa z=>?_,λa h z=>?_,λi a hi e=>.inl ⟨⟨hi,e⟩,i,hi,e⟩,λi a h=>?_,λa h=>?_,λa h=>?_,λi j a hi hj ei ej=>?_,λk=>?_⟩
 ·rcases z with z | z
  ·exact r.zl a z
  ·exact rj r z.1
 ·obtain⟨k,j,e1,e2,e3,_⟩:=dP s h
  rcases z with z | z
  ·exact r.zo a ⟨j,e2,e3⟩ z
  ·exact z.2 h
 ·rcases h with h | h
  ·exact h.2
  ·exact h.elim
 ·obtain⟨k,j,e1,e2,e3,_⟩:=dP s h
  exact fI r ⟨j,e2,e3⟩
 ·obtain⟨k,j,e1,e2,e3,_⟩:=dP s h
  exact fI r ⟨j,e2,e3⟩
 ·obtain⟨p,a1,a2,a3,a4⟩:=pq s hi
  obtain⟨p',b1,b2,b3,b4⟩:=pq s hj
  rw[ei]at a4
  rw[ej]at b4
  have:p=p':=r.nd p p' a a2 b2 (mV a4.symm) (mV b4.symm)
  subst this
  exact xk hd a1 b1
 ·rw[nE r s,oA]
  cases e:rs[k]? with
  | none=>trivial
  | some x =>
   obtain⟨ov,e1,e2⟩:=s.get e
   cases x with
   | n d=>trivial
   | t d=>trivial
   | x d=>obtain⟨v,e3,_,e4⟩:=e2;rw[e1,e3];exact e4
   | d d=>obtain⟨v,e3,e4⟩:=e2;rw[e1,e3];exact⟨v,rfl,e4⟩
   | o j =>
    rw[e1]
    have q:=r.sl j
    show SvOk K _ H (some ov) (gt ρ j)
    rw[<- show(σ[j]?).getD none=ov from e2]
    cases e5:σ[j]? with
    | none =>
     rw[e5]at q
     cases hg:gt ρ j with
     | un=>trivial
     | vl d=>rw[hg]at q;obtain⟨x,z,_⟩:=q;cases z
     | ow d=>rw[hg]at q;obtain⟨x,_,z,_⟩:=q;cases z
     | tp d=>rw[hg]at q;obtain⟨x,_,_,_,_,z,_⟩:=q;cases z
     | dk d=>rw[hg]at q;obtain⟨x,_,z,_⟩:=q;cases z
     | dt d=>rw[hg]at q;obtain⟨x,_,z,_⟩:=q;cases z
     | ex d m=>rw[hg]at q;obtain⟨x,_,z,_⟩:=q;cases z
     | sc d=>rw[hg]at q;obtain⟨x,z,_⟩:=q;cases z
     | px d m k=>rw[hg]at q;obtain⟨x,_,_,_,z,_⟩:=q;cases z
     | xl es=>rw[hg]at q;obtain⟨x,_,z,_⟩:=q;cases z
     | ob _ _=>rw[hg]at q;obtain⟨x,_,_,z,_⟩:=q;cases z
     | ll _=>rw[hg]at q;obtain⟨x,_,_,z,_⟩:=q;cases z
     | ds _ _ _=>rw[hg]at q;obtain⟨x,_,_,_,_,_,z,_⟩:=q;cases z
    | some y=>rw[e5]at q;exact q
theorem Rel.back (r:Rel K F σ ρ H)(s:Srcs K F σ ρ H ovs rs)(hd:dis rs=true){ss':En}(r':Rel K (dU F σ ρ H ovs (rs.map (c_ ρ))) ovs ss' H')(sb:∀i,(gt ss' i).own=true->(gt (rs.map (c_ ρ)) i).own=true) :
  Rel K F σ (L2.back ρ rs ss') H'/\Kp σ ρ (L2.back ρ rs ss') H H'/\Same (hid H' (hs (dU F σ ρ H ovs (rs.map (c_ ρ))) ovs ss')) (hid H' (hs F σ (L2.back ρ rs ss'))):=by
 have ln:ss'.length=rs.length:=by rw[<- r'.len,s.length]
 have cs:∀i:Nat,(∃k:Nat,rs[k]? = some (R.o i)/\i<ρ.length/\gt (L2.back ρ rs ss') i=gt ss' k)∨((∀k:Nat,i<ρ.length->rs[k]? ≠ some (R.o i))/\gt (L2.back ρ rs ss') i=gt ρ i):=λi=>by
  by_cases hi:i<ρ.length
  ·by_cases q:∃k:Nat,rs[k]? = some (R.o i)
   ·obtain⟨k,e⟩:=q
    exact .inl ⟨k,e,hi,jy rs ρ ss' i k hd e ln hi⟩
   ·exact .inr ⟨λk _ z=>q ⟨k,z⟩,ik rs ρ ss' i λk z=>q ⟨k,z⟩⟩
  ·refine .inr ⟨λk z=>absurd z hi,?_⟩
   rw[lR _ i (by rw[fW];omega),lR _ i (by omega)]
 have own':∀i,(gt (L2.back ρ rs ss') i).own=true->(gt ρ i).own=true:=λi h=>by
  rcases cs i with⟨k,e,hi,g⟩ | ⟨_,g⟩
  ·rw[g]at h
   have:=sb k h
   rw[oA,e]at this
   exact this
  ·rw[g]at h;exact h
 have subo:∀ {a},bO σ (L2.back ρ rs ss') a->bO σ ρ a:=λ⟨i,hi,e⟩=>⟨i,own' i hi,e⟩
 have no:∀a,¬bO σ ρ a->¬bO ovs (rs.map (c_ ρ)) a:=λa h z=>by
  obtain⟨k,j,e1,e2,e3,_⟩:=dP s z
  exact h ⟨j,e2,e3⟩
 have st:∀a o,H a=some o->¬bO ovs (rs.map (c_ ρ)) a->H' a=some o:=λa o e n=>r'.fr a o e n
 have hsub:∀a,hs F σ (L2.back ρ rs ss') a->hs (dU F σ ρ H ovs (rs.map (c_ ρ))) ovs ss' a:=λa h=>by
  rcases h with h | ⟨i,hi,e⟩
  ·exact .inl (.inl h)
  ·rcases cs i with⟨k,e1,hl,g⟩ | ⟨n,g⟩
   ·right
    rw[g]at hi
    obtain⟨ov,q1,q2⟩:=s.get e1
    refine⟨k,hi,?_⟩
    rw[q1,<- show(σ[i]?).getD none=ov from q2,e]
    rfl
   ·left;right
    rw[g]at hi
    refine⟨⟨i,hi,e⟩,λz=>?_⟩
    obtain⟨k,j,e1,e2,e3,_⟩:=dP s z
    have:i=j:=r.nd i j a hi e2 e e3
    subst this
    exact n k (ko hi) e1
 have v1:Same (hid H' (hs (dU F σ ρ H ovs (rs.map (c_ ρ))) ovs ss')) (hid H' (hs F σ (L2.back ρ rs ss'))):=bq λa o e n=>⟨e,λz=>n (hsub a z)⟩
 have v2:Same (hid H (hs F σ ρ)) (hid H' (hs F σ (L2.back ρ rs ss'))):=bq λa o e n=>⟨st a o e (no a λz=>n (.inr z)),λz=>n (z.imp id subo)⟩
 refine⟨⟨by rw[fW,r.len],λa o e n=>?_,λa z=>r'.zl a (.inl z),λa h=>r.zo a (subo h),λi a hi e=>r.ow i a (own' i hi) e,r.mi,r.ml,λa z=>?_,λi j a hi hj ei ej=>r.nd i j a (own' i hi) (own' j hj) ei ej,λi=>?_⟩,⟨λa o e n=>st a o e (no a n),own'⟩,v1⟩
 ·have e1:=r.fr a o e n
  refine st a o e1 λz=>?_
  obtain⟨k,j,h1,h2,h3,_⟩:=dP s z
  rcases r.ow j a h2 h3 with q | q
  ·exact n q.2
  ·rw[e]at q;cases q
 ·by_cases q:bO ovs (rs.map (c_ ρ)) a
  ·exact r'.ma a q
  ·cases h:H a with
   | none=>exact absurd h (r.ma a z)
   | some o=>rw[st a o h q];exact λz=>nomatch z
 ·rcases cs i with⟨k,e1,hl,g⟩ | ⟨n,g⟩
  ·rw[g]
   have q:=(r'.sl k).keep v1 λ_ _ _ _ e=>e
   obtain⟨ov,q1,q2⟩:=s.get e1
   rw[q1,<- show(σ[i]?).getD none=ov from q2]at q
   cases e5:σ[i]? with
   | none =>
    rw[e5]at q
    cases hg:gt ss' k with
    | un=>trivial
    | vl d=>rw[hg]at q;obtain⟨x,z,_⟩:=q;cases z
    | ow d=>rw[hg]at q;obtain⟨x,_,z,_⟩:=q;cases z
    | tp d=>rw[hg]at q;obtain⟨x,_,_,_,_,z,_⟩:=q;cases z
    | dk d=>rw[hg]at q;obtain⟨x,_,z,_⟩:=q;cases z
    | dt d=>rw[hg]at q;obtain⟨x,_,z,_⟩:=q;cases z
    | ex d m=>rw[hg]at q;obtain⟨x,_,z,_⟩:=q;cases z
    | sc d=>rw[hg]at q;obtain⟨x,z,_⟩:=q;cases z
    | px d m k=>rw[hg]at q;obtain⟨x,_,_,_,z,_⟩:=q;cases z
    | xl es=>rw[hg]at q;obtain⟨x,_,z,_⟩:=q;cases z
    | ob _ _=>rw[hg]at q;obtain⟨x,_,_,z,_⟩:=q;cases z
    | ll _=>rw[hg]at q;obtain⟨x,_,_,z,_⟩:=q;cases z
    | ds _ _ _=>rw[hg]at q;obtain⟨x,_,_,_,_,_,z,_⟩:=q;cases z
   | some y=>rw[e5]at q;exact q
  ·rw[g]
   refine(r.sl i).keep v2 λl o ho e h=>st l o h λz=>?_
   obtain⟨k,j,e1,e2,e3,_⟩:=dP s z
   have:i=j:=r.nd i j l ho e2 e e3
   subst this
   exact n k (ko ho) e1
end
abbrev ASp:=En->Ko->Prop
def F0 (vs:List V)(ss:En)(H:Hp)(Z:Addr->Prop):Fr:=⟨H,Z,λa=>bO (vs.map some) ss a,λi a=>(gt ss i).own=true/\(vs.map some)[i]? = some (some (.ref a)),λ_ _=>False⟩
def spA (K:bi)(S:ASp):Sp:=λvs H Q _=>∃ss Z q,Rel K (F0 vs ss H Z) (vs.map some) ss H/\S ss q /\
 ∀r ss' v H',q r ss'->(∀i,(gt ss' i).own=true->(gt ss i).own=true)->(∀i,r ≠ .o i)->RelR K (F0 vs ss H Z) (vs.map some) ss' v H' r->Q v H'
def Bg (S:ASp)(as:AA):AE:=λρ q=>as ρ λrs ρ1=>dis rs=true/\S (rs.map (c_ ρ1)) λr ss'=>q r (back ρ1 rs ss')
section
variable {K:bi}{F:Fr}{σ:St}{ρ ρ':En}{H H':Hp}{ovs:St}{rs:List R}
theorem InFs.srcs {vs:List V}(h:InFs K F σ ρ H vs rs):Srcs K F σ ρ H (vs.map some) rs:=by
 induction h with
 | nil=>exact .nil
 | cons a t ih =>
  rename_i v r vs rs
  refine .cons ?_ ih
  cases r with
  | d d=>exact⟨v,rfl,a⟩
  | o j=>show(σ[j]?).getD none=some v;rw[show σ[j]? = _ from a];rfl
  | n s=>trivial
  | t n=>trivial
  | x n=>exact⟨v,rfl,a⟩
theorem aM {S:ASp}{E:XK}{ts:TA}{as:AA}(hs':TAok K ts as):TEok K (yi (spA K S) [] E ts) (Bg S as):=by
 intro F σ ρ H q Q r h k
 refine hs' F σ ρ H _ _ r h λrs ρ1 vs H1 h1 r1 i1 k1=>?_
 obtain⟨hd,hS⟩:=h1
 have s:=i1.srcs
 rw[B5]
 refine⟨rs.map (c_ ρ1),(dU F σ ρ1 H1 (vs.map some) (rs.map (c_ ρ1))).Z,_,r1.sub s hd,hS,λrr ss' v H' hq sb no out=>?_⟩
 refine(k.after k1) rr (back ρ1 rs ss') v H' hq ?_
 cases rr with
 | o i=>exact absurd rfl (no i)
 | d d =>
  obtain⟨a,b⟩:=out
  obtain⟨x,y,z⟩:=r1.back s hd a sb
  exact⟨x,y,RepD.same b z⟩
 | x sv =>
  obtain⟨a,b,c⟩:=out
  obtain⟨x,y,z⟩:=r1.back s hd a sb
  exact⟨x,y,b,c.keep z λl o ho=>by rw[b]at ho;cases ho⟩
 | t n =>
  obtain⟨a,b⟩:=out
  obtain⟨x,y,z⟩:=r1.back s hd a sb
  exact⟨x,y,b⟩
 | n sv =>
  obtain⟨Hb,l,o,a,b,c,e1,e2,e3⟩:=out
  obtain⟨x,y,z⟩:=r1.back s hd a sb
  exact⟨Hb,l,o,x,y,b,c.keep z λ_ _ _ _ e=>e,e1,e2,e3⟩
end
section
variable {K:bi}{F:Fr}{σ σ':St}{ρ ρ':En}{H H':Hp}
open Classical in
noncomputable def rebase (F:Fr)(σ:St)(ρ:En)(H:Hp)(pin:Nat->Bool):Fr :=
 ⟨λa=>if bO σ ρ a/\F.H0 a=none then none else H a,F.Z,λa=>F.M a/\bO σ ρ a,F.I,λi a=>F.P i a∨(pin i=true/\σ[i]? = some (some (.ref a)))⟩
open Classical in
theorem j9 {pin:Nat->Bool}{a:Addr}{o:HO}(h:¬(bO σ ρ a/\F.H0 a=none))(e:H a=some o):(rebase F σ ρ H pin).H0 a=some o:=by
 show(if bO σ ρ a/\F.H0 a=none then none else H a)=some o
 rw[if_neg h];exact e
open Classical in
theorem z9 {pin:Nat->Bool}{a:Addr}{o:HO}(e:(rebase F σ ρ H pin).H0 a=some o):H a=some o:=by
 have e':(if bO σ ρ a/\F.H0 a=none then none else H a)=some o:=e
 split at e'
 ·cases e'
 ·exact e'
open Classical in
theorem Rel.rebase (r:Rel K F σ ρ H)(pin:Nat->Bool):Rel K (L2.rebase F σ ρ H pin) σ ρ H where
 len:=r.len
 fr:=λa o e _=>z9 e
 zl:=r.zl
 zo:=r.zo
 ow:=λi a hi e=>by
  rcases r.ow i a hi e with⟨h1,h2⟩ | h
  ·exact .inl ⟨h1,h2,i,hi,e⟩
  ·refine .inr ?_
   show(if bO σ ρ a/\F.H0 a=none then none else H a)=none
   rw[if_pos ⟨⟨i,hi,e⟩,h⟩]
 mi:=λi a h=>by
  rcases h with h | h | h
  ·exact r.mi i a (.inl h)
  ·exact r.mi i a (.inr h)
  ·exact h.2
 ml:=λa h=>by
  cases e:H a with
  | none=>exact absurd e (r.ma a h.1)
  | some o=>rw[j9 (λz=>r.ml a h.1 z.2) e];exact λz=>nomatch z
 ma:=λa h=>r.ma a h.1
 nd:=r.nd
 sl:=r.sl
theorem Rel.unbase {pin:Nat->Bool}(r:Rel K F σ ρ H)(r':Rel K (L2.rebase F σ ρ H pin) σ' ρ' H'):Rel K F σ' ρ' H'/\Same (hid H (hs F σ ρ)) (hid H' (hs F σ' ρ')):=by
 refine⟨⟨r'.len,λa o e n=>?_,r'.zl,r'.zo,λi a hi e=>?_,λi a h=>r'.mi i a (h.imp id .inl),r.ml,λa h=>?_,r'.nd,r'.sl⟩,bq λa o e n=>?_⟩
 ·exact r'.fr a o (j9 (λz=>by rw[e]at z;cases z.2) (r.fr a o e n)) λz=>n z.1
 ·rcases r'.ow i a hi e with⟨h1,h2⟩ | h
  ·exact .inl ⟨h1,h2.1⟩
  ·right
   cases h0:F.H0 a with
   | none=>rfl
   | some o =>
    exfalso
    have nn:H a≠none:=by
     by_cases q:F.M a
     ·exact r.ma a q
     ·rw[r.fr a o h0 q];exact λz=>nomatch z
    cases e2:H a with
    | none=>exact nn e2
    | some u =>
     rw[j9 (λz=>by rw[h0]at z;cases z.2) e2]at h
     cases h
 ·by_cases q:bO σ ρ a
  ·exact r'.ma a ⟨h,q⟩
  ·cases e:H a with
   | none=>exact absurd e (r.ma a h)
   | some o=>rw[r'.fr a o (j9 (λz=>q z.1) e) λz=>q z.2];exact λz=>nomatch z
 ·have n':¬bO σ ρ a:=λz=>n (.inr z)
  have e0:=j9 (F:=F) (pin:=pin) (λz=>n' z.1) e
  refine⟨r'.fr a o e0 λz=>n' z.2,λz=>?_⟩
  rcases z with z | ⟨i,hi,ei⟩
  ·exact n (.inl z)
  ·rcases r'.ow i a hi ei with⟨_,h2⟩ | h
   ·exact n' h2.2
   ·rw[e0]at h;cases h
theorem RelR.unbase {pin:Nat->Bool}{v:V}{rr:R}(r:Rel K F σ ρ H)(r':RelR K (L2.rebase F σ ρ H pin) σ' ρ' v H' rr):RelR K F σ' ρ' v H' rr:=by
 cases rr with
 | d d=>exact⟨(r.unbase r'.1).1,r'.2⟩
 | o d=>exact⟨(r.unbase r'.1).1,r'.2⟩
 | t d=>exact⟨(r.unbase r'.1).1,r'.2⟩
 | x d=>exact⟨(r.unbase r'.1).1,r'.2⟩
 | n s =>
  obtain⟨Hb,l,o,a,b,c,e⟩:=r'
  exact⟨Hb,l,o,(r.unbase a).1,b,c,e⟩
end
structure Bh (K:bi)(F:Fr)(D:Ends)(e:o7):Prop where
 nx:∀ σ' ρ' H',e.nx ρ'->Rel K F σ' ρ' H'->D.nx σ' H'
 bk:∀ σ' ρ' H',e.bk ρ'->Rel K F σ' ρ' H'->D.bk σ' H'
 ct:∀ σ' ρ' H',e.ct ρ'->Rel K F σ' ρ' H'->D.ct σ' H'
 rt:∀ σ' ρ' r v H',e.rt r ρ'->RelR K F σ' ρ' v H' r->D.rt v H'
def TSok (K:bi)(pr:Nat->Bool)(t:TS)(a:AS):Prop:=∀F σ ρ H D e,(∀i a,F.pin i a->pr i=true)->Rel K F σ ρ H->a e ρ->Bh K F D e->t D σ H
abbrev AG:=D->En->(En->Prop)->Prop
abbrev AGs:=List D->En->(En->Prop)->Prop
def TGok (K:bi)(pr:Nat->Bool)(g:TG)(ag:AG):Prop:=∀F σ ρ H v d k Q,(∀i a,F.pin i a->pr i=true)->Rel K F σ ρ H->RepD K (hid H (hs F σ ρ)) v d->ag d ρ k ->
 (∀ σ' ρ',k ρ'->Rel K F σ' ρ' H->σ'.length=σ.length->(∀i,pr i=true->σ'[i]? = σ[i]?)->(∀i,(gt ρ' i).own=true->(gt ρ i).own=true/\σ'[i]? = σ[i]?)->Q σ' H)->g v σ H Q
def xu (K:bi)(pr:Nat->Bool)(n:Nat)(g:TGs)(ag:AGs):Prop:=(∀ds ρ k,ag ds ρ k->ds.length=n)/\∀F σ ρ H vs ds k Q,(∀i a,F.pin i a->pr i=true)->Rel K F σ ρ H->RepDs K (hid H (hs F σ ρ)) vs ds->ag ds ρ k ->
 (∀ σ' ρ',k ρ'->Rel K F σ' ρ' H->σ'.length=σ.length->(∀i,pr i=true->σ'[i]? = σ[i]?)->(∀i,(gt ρ' i).own=true->(gt ρ i).own=true/\σ'[i]? = σ[i]?)->Q σ' H)->g vs σ H Q
section
variable {K:bi}{pr:Nat->Bool}{t u:TS}{a b:AS}{te:TE}{ae:AE}{tt:TT}{at':AT}
theorem yM {F:Fr}{i:Nat}(hp:∀i a,F.pin i a->pr i=true)(h:pr i=false):∀a,¬F.pin i a:=λa z=>by rw[hp i a z]at h;cases h
def eX (i:Nat):AG:=λd ρ k=>k (pt ρ i (.vl d))
theorem aq {i:Nat}(h:pr i=false):TGok K pr (xa i) (eX i):=by
 intro F σ ρ H v d k Q hp r hd ha kk
 refine kk _ _ ha (r.set hd (yM hp h)) (by rw[G6]) (λj hj=>?_) λj hj=>?_
 ·rw[B6];rintro rfl;rw[h]at hj;cases hj
 ·obtain⟨ne,q⟩:=gu rfl hj
  exact⟨q,by rw[B6 ne]⟩
def gaNil:AGs:=λds ρ k=>match ds with
 | []=>k ρ
 | _=>False
def fw (g:AG)(gs:AGs):AGs:=λds ρ k=>match ds with
 | d::r=>g d ρ λρ1=>gs r ρ1 k
 | []=>False
theorem aX:xu K pr 0 gNil gaNil:=by
 refine⟨λds ρ k h=>?_,?_⟩
 ·cases ds with
  | nil=>rfl
  | cons _ _=>exact h.elim
 intro F σ ρ H vs ds k Q hp r hd ha kk
 cases ds with
 | cons _ _=>exact ha.elim
 | nil =>
  cases vs with
  | nil=>exact⟨rfl,kk _ _ ha r rfl (λ_ _=>rfl) λ_ h=>⟨h,rfl⟩⟩
  | cons v vs=>unfold RepDs at hd;exact hd.elim
theorem yF {F:Fr}{σ σ':St}{ρ ρ':En}{H:Hp}(h:∀i,(gt ρ' i).own=true->(gt ρ i).own=true/\σ'[i]? = σ[i]?):Same (hid H (hs F σ ρ)) (hid H (hs F σ' ρ')):=bq λa o e n=>⟨e,λz=>by
 rcases z with z | ⟨i,hi,ei⟩
 ·exact n (.inl z)
 ·obtain⟨q1,q2⟩:=h i hi
  exact n (.inr ⟨i,q1,q2▸ei⟩)⟩
theorem aD {g:TG}{gs:TGs}{ag:AG}{ags:AGs}{n:Nat}(h:TGok K pr g ag)(hs':xu K pr n gs ags)(gl:∀d ρ k,ag d ρ k->∃ ρ',k ρ'):xu K pr (n+1) (AY g gs) (fw ag ags):=by
 refine⟨λds ρ k ha=>?_,?_⟩
 ·cases ds with
  | nil=>exact ha.elim
  | cons d ds=>obtain⟨ρ',q⟩:=gl _ _ _ ha;rw[At,hs'.1 _ _ _ q]
 intro F σ ρ H vs ds k Q hp r hd ha kk
 cases ds with
 | nil=>exact ha.elim
 | cons d ds =>
  cases vs with
  | nil=>unfold RepDs at hd;exact hd.elim
  | cons v vs =>
   unfold RepDs at hd
   refine⟨v,vs,rfl,h F σ ρ H v d _ _ hp r hd.1 ha λσ1 ρ1 h1 r1 l1 p1 o1=>?_⟩
   refine hs'.2 F σ1 ρ1 H vs ds _ _ hp r1 (hd.2.same (yF o1)) h1 λσ2 ρ2 h2 r2 l2 p2 o2=>?_
   refine kk _ _ h2 r2 (l2.trans l1) (λi hi=>(p2 i hi).trans (p1 i hi)) λi hi=>?_
   obtain⟨a1,a2⟩:=o2 i hi
   obtain⟨b1,b2⟩:=o1 i a1
   exact⟨b1,a2.trans b2⟩
def oE (n:Nat)(gs:AGs):AG:=λd ρ k=>match d with
 | .tup ds=>gs ds ρ k
 | _=>False
theorem aN {i:Nat}{d:D}{ρ:En}{k:En->Prop}(h:eX i d ρ k):∃ ρ',k ρ':=⟨_,h⟩
theorem a9 {gs:TGs}{ags:AGs}{n:Nat}(hs':xu K pr n gs ags):TGok K pr (gTup K n gs) (oE n ags):=by
 intro F σ ρ H v d k Q hp r hd ha kk
 unfold oE at ha
 split at ha
 ·rename_i ds
  unfold RepD at hd
  obtain⟨p,vs,rfl,sq,rd⟩:=hd
  exact⟨p,vs,rfl,cf.seqT sq.sq,by rw[rd.length];exact hs'.1 _ _ _ ha,hs'.2 F σ ρ H vs ds k Q hp r rd ha kk⟩
 ·exact ha.elim
def aNext:AS:=λe ρ=>e.nx ρ
def aSeq (a b:AS):AS:=λe ρ=>a {e with nx:=b e} ρ
theorem bg:TSok K pr tNext aNext:=λF σ ρ H D e hp r h k=>k.nx _ _ _ h r
theorem aE (ha:TSok K pr t a)(hb:TSok K pr u b):TSok K pr (tSeq t u) (aSeq a b):=λF σ ρ H D e hp r h k =>
 ha F σ ρ H _ _ hp r h ⟨λσ' ρ' H' h' r'=>hb F σ' ρ' H' D e hp r' h' k,k.bk,k.ct,k.rt⟩
def BK (x:AE):AS:=λe ρ=>x ρ λ_ ρ1=>e.nx ρ1
theorem cV (h:TEok K te ae):TSok K pr (zY te) (BK ae):=λF σ ρ H D e hp r ha k =>
 h F σ ρ H _ _ r ha λr1 ρ1 v H1 h1 o=>k.nx _ _ _ h1 o.inF.1
def aRet (x:AE):AS:=λe ρ=>x ρ e.rt
theorem aP (h:TEok K te ae):TSok K pr (tRet te) (aRet ae):=λF σ ρ H D e hp r ha k =>
 h F σ ρ H _ _ r ha λr1 ρ1 v H1 h1 o=>k.rt _ _ _ _ _ h1 o.rel
def aIfS (c:AT)(a b:AS):AS:=λe ρ=>c ρ λk ρ1=>if k=true then a e ρ1 else b e ρ1
theorem cp (hc:TTok K tt at')(ha:TSok K pr t a)(hb:TSok K pr u b):TSok K pr (tIfS tt t u) (aIfS at' a b):=by
 intro F σ ρ H D e hp r h k
 refine hc F σ ρ H _ _ r h λc ρ1 H1 h1 r1 k1=>?_
 cases c with
 | true=>exact ha F σ ρ1 H1 D e hp r1 h1 k
 | false=>exact hb F σ ρ1 H1 D e hp r1 h1 k
def stS (i:Nat):R->En->(En->Prop)->Prop
 | .d d,ρ,k=>k (pt ρ i (.vl d))
 | .n s,ρ,k=>k (pt ρ i s)
 | .o j,ρ,k=>(match gt ρ j with
  | .ow ds=>k (pt (pt ρ j (.vl (.lst ds))) i (.vl (.lst ds)))
  | .vl d=>k (pt ρ i (.vl d))
  | .ex C fs=>k (pt ρ i (.ex C fs))
  | .ob C fs=>k (pt ρ i (.ob C fs))
  | _=>False)
 | .t _,_,_=>False
 | .x s,ρ,k=>k (pt ρ i s)
def aSet (i:Nat)(x:AE):AS:=λe ρ=>x ρ λr ρ1=>stS i r ρ1 e.nx
theorem qT {i:Nat}(hi:pr i=false)(h:TEok K te ae):TSok K pr (λD σ H=>te σ H λv H'=>D.nx (σ.set i (some v)) H') (aSet i ae):=by
 intro F σ ρ H D e hp r ha k
 refine h F σ ρ H _ _ r ha λr1 ρ1 v H1 h1 o=>?_
 have np:=yM hp hi
 cases r1 with
 | d d=>exact k.nx _ _ _ h1 (o.1.set o.2.2 np)
 | t n=>exact h1.elim
 | x s=>exact k.nx _ _ _ h1 (o.1.setS o.2.2.1 o.2.2.2 np)
 | n s =>
  obtain⟨Hb,l,u,a1,a2,a3,a4,a5,rfl,rfl⟩:=o
  exact k.nx _ _ _ h1 (a1.setF a3 a4 a5 np)
 | o j =>
  obtain⟨r1,k1,ej⟩:=o
  have h2:(match gt ρ1 j with
   | .ow ds=>e.nx (pt (pt ρ1 j (.vl (.lst ds))) i (.vl (.lst ds)))
   | .vl d=>e.nx (pt ρ1 i (.vl d))
   | .ex C fs=>e.nx (pt ρ1 i (.ex C fs))
   | .ob C fs=>e.nx (pt ρ1 i (.ob C fs))
   | _=>False):=h1
  clear h1
  split at h2
  ·rename_i ds hg
   obtain⟨l,el,r2,k2,rd⟩:=r1.frz hg
   rw[ej]at el
   injection el with el;injection el with el;subst el
   exact k.nx _ _ _ h2 (r2.set rd np)
  ·rename_i d hg
   have q:=r1.sl j
   rw[hg]at q
   obtain⟨x,e1,e2⟩:=q
   rw[ej]at e1
   injection e1 with e1;injection e1 with e1;subst e1
   exact k.nx _ _ _ h2 (r1.set e2 np)
  ·rename_i C fs hg
   have q:=r1.sl j
   rw[hg,ej]at q
   exact k.nx _ _ _ h2 (r1.setS rfl q np)
  ·rename_i C fs hg
   have q:=r1.sl j
   rw[hg,ej]at q
   exact k.nx _ _ _ h2 (r1.setS rfl q np)
  ·exact h2.elim
theorem a8 {i:Nat}(h:TEok K te ae)(hi:pr i=false):TSok K pr (tAsg te (xa i)) (aSet i ae):=qT hi h
theorem iC {i n:Nat}{js:List Nat}{wi:TI}{g:TG}{tc:TT}(h:TEok K (tW n js wi g tc te) ae)(hi:pr i=false):TSok K pr (λD σ H=>tW n js wi g tc te σ H λv H'=>D.nx (σ.set i (some v)) H') (aSet i ae):=qT hi h
def aAsg (x:AE)(g:AG):AS:=λe ρ=>x ρ λr ρ1=>sto [r.frz] ρ1 λds ρ2=>match ds with
 | [d]=>g d ρ2 e.nx
 | _=>False
theorem dy {g:TG}{ag:AG}(h:TEok K te ae)(hg:TGok K pr g ag):TSok K pr (tAsg te g) (aAsg ae ag):=by
 intro F σ ρ H D e hp r ha k
 refine h F σ ρ H _ _ r ha λr1 ρ1 v H1 h1 o=>?_
 obtain⟨r',k1,i1⟩:=o.inF
 obtain⟨ds,ρ2,h2,r2,k2,rd⟩:=gj r' (.cons i1 .nil) h1
 split at h2
 ·rename_i d
  unfold RepDs at rd
  exact hg F σ ρ2 H1 v d _ _ hp r2 rd.1 h2 λσ3 ρ3 h3 r3 _ _ _=>k.nx _ _ _ h3 r3
 ·exact h2.elim
def aAug (i:Nat)(x:AE)(f:Int->Int->Int):AS:=λe ρ=>match gt ρ i with
 | .vl (.int p)=>x ρ λr ρ1=>(match r with
  | .d (.int y)=>e.nx (pt ρ1 i (.vl (.int (f p y))))
  | _=>False)
 | _=>False
theorem t5 {i:Nat}{f:Int->Int->Int}(h:TEok K te ae)(hi:pr i=false):TSok K pr (tAug i te (ipI f)) (aAug i ae f):=by
 intro F σ ρ H D e hp r ha k
 unfold aAug at ha
 split at ha
 ·rename_i p hg
  have q:=r.sl i
  rw[hg]at q
  obtain⟨x,e1,e2⟩:=q
  unfold RepD at e2;subst e2
  refine⟨_,e1,h F σ ρ H _ _ r ha λr1 ρ1 v H1 h1 o=>?_⟩
  obtain⟨r',k1,i1⟩:=o.inF
  split at h1
  ·exact⟨_,_,rfl,i1.int,k.nx _ _ _ h1 (r'.set (by unfold RepD;rfl) (yM hp hi))⟩
  ·exact h1.elim
 ·exact ha.elim
def whA (c:AT)(b:AS)(e:o7):Nat->En->Prop
 | 0,_=>False
 | n+1,ρ=>c ρ λk ρ1=>if k=true then b {nx:=whA c b e n,ct:=whA c b e n,bk:=e.nx,rt:=e.rt} ρ1 else e.nx ρ1
def x3 (c:AT)(b:AS):AS:=λe ρ=>∃n,whA c b e n ρ
theorem j3 (hc:TTok K tt at')(hb:TSok K pr t a):TSok K pr (xC tt t) (x3 at' a):=by
 intro F σ ρ H D e hp r ha k
 obtain⟨n,ha⟩:=ha
 refine⟨λm σ H=>∃ ρ,Rel K F σ ρ H/\whA at' a e m ρ,⟨n,ρ,r,ha⟩,λm σ H ⟨ρ,r,h⟩=>?_⟩
 cases m with
 | zero=>exact h.elim
 | succ m =>
  refine hc F σ ρ H _ _ r h λc ρ1 H1 h1 r1 k1=>?_
  cases c with
  | false=>exact k.nx _ _ _ h1 r1
  | true =>
   refine⟨λσ' H'=>∃ ρ',Rel K F σ' ρ' H'/\whA at' a e m ρ',λσ' H' h'=>⟨m,DH m,h'⟩,?_⟩
   exact hb F σ ρ1 H1 _ _ hp r1 h1 ⟨λσ' ρ' H' h' r'=>⟨ρ',r',h'⟩,k.nx,λσ' ρ' H' h' r'=>⟨ρ',r',h'⟩,k.rt⟩
abbrev AI:=En->(List D->(En->Prop)->En->Prop)->Prop
def WkAt (K:bi)(S:Addr->Prop)(H:Hp)(J:It)(ds:List D):Prop:=∀k:Nat,(∀d,ds[k]? = some d->J.go k H/\∀x H',J.yld k H x H'->Same H H'/\RepD K (hid H' S) x d)/\(ds.length<=k->J.stop k H)
def TIok (K:bi)(pin:Nat->Bool)(wi:TI)(ai:AI):Prop:=∀F σ ρ H q Rk,Rel K F σ ρ H->ai ρ q->(∀ds c ρ' J H',q ds c ρ'->Rel K F σ ρ' H'->Kp σ ρ ρ' H H' ->
 (∀ σ2 ρ2 H2,Same (hid H' (hs F σ ρ')) (hid H2 (hs F σ2 ρ2))->(∀i,SvOk K (hid H2 (hs F σ2 ρ2)) H2 σ2[i]? (gt ρ2 i))->(∀j a,pin j=true->σ[j]? = some (some (.ref a))->σ2[j]? = some (some (.ref a)))->(∀a,hs F σ2 ρ2 a->Nt H2 a)->c ρ2->WkAt K (hs F σ2 ρ2) H2 J ds)->Rk J H')->wi σ H Rk
def rngD (lo:Int)(n:Nat):List D:=(sK n).map λ(i:Nat)=>D.int (lo+(i:Nat))
theorem eV (lo:Int)(n:Nat):(rngD lo n).length=n:=by simp[rngD]
theorem xA {S:Addr->Prop}{H:Hp}{lo:Int}{n:Nat}:WkAt K S H (Itr lo n) (rngD lo n):=by
 intro k
 constructor
 ·intro d h
  unfold rngD at h
  rw[wn]at h
  obtain⟨j,e1,e2⟩:=BR.mp h
  have lt:k<n:=by
   rcases BW k n with q | q
   ·exact q
   ·rw[Dq (by simpa using q)]at e1;cases e1
  rw[E3 lt]at e1
  cases e1
  refine⟨lt,λx H' z=>⟨z.1▸Same.refl H,?_⟩⟩
  rw[z.2,<- e2]
  unfold RepD;rfl
 ·intro h;rw[eV]at h;exact h
def BD (as:AA):AI:=λρ q=>as ρ λrs ρ1=>match rs with
 | [.d (.int j)]=>(-(2^62)<=j/\j<2^62)/\q (rngD 0 j.toNat) (λ_=>True) ρ1
 | _=>False
def BC (as:AA):AI:=λρ q=>as ρ λrs ρ1=>match rs with
 | [.d (.int i),.d (.int j)]=>(-(2^62)<=i/\i<2^62/\-(2^62)<=j/\j<2^62)/\q (rngD i (j - i).toNat) (λ_=>True) ρ1
 | _=>False
theorem eA {pin:Nat->Bool}{ta:TA}{as:AA}(h:TAok K ta as):TIok K pin (AQ ta) (BD as):=by
 intro F σ ρ H q Rk r ha k
 refine h F σ ρ H _ _ r ha λrs ρ1 vs H1 h1 r1 i1 k1=>?_
 split at h1
 ·obtain⟨x,rfl,i⟩:=i1.one
  exact⟨_,by rw[i.int],h1.1.1,h1.1.2,k _ _ _ _ _ h1.2 r1 k1 λ_ _ _ _ _ _ _ _=>xA⟩
 ·exact h1.elim
theorem tG {pin:Nat->Bool}{ta:TA}{as:AA}(h:TAok K ta as):TIok K pin (AN ta) (BC as):=by
 intro F σ ρ H q Rk r ha k
 refine h F σ ρ H _ _ r ha λrs ρ1 vs H1 h1 r1 i1 k1=>?_
 split at h1
 ·obtain⟨x,y,rfl,i,j⟩:=i1.two
  exact⟨_,_,by rw[i.int,j.int],h1.1,k _ _ _ _ _ h1.2 r1 k1 λ_ _ _ _ _ _ _ _=>xA⟩
 ·exact h1.elim
def iSeq (K:bi)(tl:TE):TI:=λσ H R=>tl σ H λx H1=>∃a,x = .ref a/\(((∃xs,SqL K H1 a xs)/\R (Itl K a) H1)∨((∃xs,SqT K H1 a xs)/\R (Itt K a) H1))
theorem Ab {X:Cx}{tg l:Expr}{tl:TE}(hl:PE X l tl):PI X tg l (iSeq X.K tl):=by
 intro pins s σ H R I h
 refine thn (hl pins s σ H _ I h) λv s1 ⟨x,H1,I1,r1,q1⟩=>?_
 obtain⟨a,e,⟨⟨xs,hq⟩,q⟩ | ⟨⟨xs,hq⟩,q⟩⟩:=q1
 ·subst e
  cases r1
  obtain⟨its,rv,p,hz⟩:=I1.list hq
  refine JR p.isList ?_
  refine⟨s1.heap.objs.size,[s1.heap.objs.size],_,_,H1,rfl,I1.kept (t':=s1.toks) λb o e=>db _ e,tf a _,⟨_,ww _ rfl,rfl,rfl⟩,λb hb=>?_,q⟩
  have e:b=s1.heap.objs.size:=by simpa using hb
  subst e
  exact I1.fpOk (li _) (I1.hok.fresh (li _))
 ·subst e
  cases r1
  obtain⟨its,rv,p,hz⟩:=I1.tuple hq
  refine Ft (show s1.heap.IsTuple a its.toArray from p) ?_
  refine⟨s1.heap.objs.size,[s1.heap.objs.size],_,_,H1,rfl,I1.kept (t':=s1.toks) λb o e=>db _ e,rU a _,⟨_,ww _ rfl,rfl,rfl⟩,λb hb=>?_,q⟩
  have e:b=s1.heap.objs.size:=by simpa using hb
  subst e
  exact I1.fpOk (li _) (I1.hok.fresh (li _))
theorem bF (K:bi){X:Cx}{tg l:Expr}{tl:TE}(hl:PE X l tl)(hK:X.K=K:=by rfl):PI X tg l (iSeq K tl):=by subst hK;exact Ab hl
theorem xB {S:Addr->Prop}{H:Hp}{a:Addr}{vs:List V}{ds:List D}(h:SqL K H a vs)(rd:RepDs K (hid H S) vs ds):WkAt K S H (Itl K a) ds:=by
 intro k
 constructor
 ·intro d e
  obtain⟨v,e1,rv⟩:=rd.get e
  refine⟨⟨vs,v,h,e1⟩,λx H' z=>⟨z.1▸Same.refl H,?_⟩⟩
  have:=z.2 vs h
  rw[e1]at this;cases this;rw[z.1];exact rv
 ·intro z;exact⟨vs,h,by rw[rd.length];exact z⟩
theorem zL {S:Addr->Prop}{H:Hp}{a:Addr}{vs:List V}{ds:List D}(h:SqT K H a vs)(rd:RepDs K (hid H S) vs ds):WkAt K S H (Itt K a) ds:=by
 intro k
 constructor
 ·intro d e
  obtain⟨v,e1,rv⟩:=rd.get e
  refine⟨⟨vs,v,h,e1⟩,λx H' z=>⟨z.1▸Same.refl H,?_⟩⟩
  have:=z.2 vs h
  rw[e1]at this;cases this;rw[z.1];exact rv
 ·intro z;exact⟨vs,h,by rw[rd.length];exact z⟩
def BB (pin:Nat->Bool)(x:AE):AI:=λρ q=>x ρ λr ρ1=>match r.frz with
 | .d (.lst ds)=>q ds (λ_=>True) ρ1
 | .d (.tup ds)=>q ds (λ_=>True) ρ1
 | .o i=>(match gt ρ1 i with
  | .ow ds=>pin i=true/\q ds (λρ2=>gt ρ2 i = .ow ds) ρ1
  | _=>False)
 | _=>False
theorem ba {pin:Nat->Bool}(h:TEok K te ae):TIok K pin (iSeq K te) (BB pin ae):=by
 intro F σ ρ H q Rk r ha k
 refine h F σ ρ H _ _ r ha λr1 ρ1 x H1 h1 o1=>?_
 obtain⟨r',k1,i1⟩:=o1.inF
 split at h1
 ·rename_i ds e
  rw[e]at i1
  have rd:RepD K _ x (.lst ds):=i1
  unfold RepD at rd
  obtain⟨a,vs,rfl,sq,rd⟩:=rd
  refine⟨a,rfl,.inl ⟨⟨vs,cf.seq (StL.sq sq)⟩,k _ _ _ _ _ h1 r' k1 λσ2 ρ2 H2 sm _ _ _ _=>?_⟩⟩
  exact xB (cf.seq (sm.seq (StL.sq sq))) (rd.same sm)
 ·rename_i ds e
  rw[e]at i1
  have rd:RepD K _ x (.tup ds):=i1
  unfold RepD at rd
  obtain⟨a,vs,rfl,sq,rd⟩:=rd
  refine⟨a,rfl,.inr ⟨⟨vs,cf.seqT sq.sq⟩,k _ _ _ _ _ h1 r' k1 λσ2 ρ2 H2 sm _ _ _ _=>?_⟩⟩
  exact zL (cf.seqT (sm.seqT sq.sq)) (rd.same sm)
 ·rename_i i e
  rw[e]at i1
  have ei:σ[i]? = some (some x):=i1
  split at h1
  ·rename_i ds hg
   have s:=r'.sl i
   rw[hg,ei]at s
   obtain⟨a,vs,e1,hl,rd⟩:=s
   injection e1 with e1;injection e1 with e1;subst e1
   refine⟨a,rfl,.inl ⟨⟨vs,SqL.of hl⟩,k _ _ _ _ _ h1.2 r' k1 λσ2 ρ2 H2 sm sv pn _ hc=>?_⟩⟩
   have s2:=sv i
   rw[hc,pn i a h1.1 ei]at s2
   obtain⟨a',vs',e2,hl',rd'⟩:=s2
   injection e2 with e2;injection e2 with e2;injection e2 with e2;subst e2
   exact xB (SqL.of hl') rd'
  ·exact h1.elim
 ·exact h1.elim
def forA (c:En->Prop)(g:AG)(b:AS)(e:o7):List D->En->Prop
 | [],ρ=>c ρ/\e.nx ρ
 | d::ds,ρ=>c ρ/\g d ρ λρ1=>b {nx:=forA c g b e ds,ct:=forA c g b e ds,bk:=e.nx,rt:=e.rt} ρ1
def aFor (i:AI)(g:AG)(b:AS):AS:=λe ρ=>i ρ λds c ρ1=>forA c g b e ds ρ1
theorem cX {pin:Nat->Bool}{wi:TI}{ai:AI}{g:TG}{ag:AG}(hi:TIok K pin wi ai)(hg:TGok K (λj=>pr j||pin j) g ag)(hb:TSok K (λj=>pr j||pin j) t a):TSok K pr (tFor wi g t) (aFor ai ag a):=by
 intro F σ ρ H D e hp r ha k
 refine hi F σ ρ H _ _ r ha λds c ρ1 J H1 h1 r1 k1 wk=>?_
 have hp':∀i a,(rebase F σ ρ1 H1 pin).pin i a->(pr i||pin i)=true:=λi a h=>by
  rcases h with h | h | h
  ·rw[hp i a (.inl h)];rfl
  ·rw[hp i a (.inr h)];rfl
  ·rw[h.1];cases pr i <;> rfl
 have ek:Bh K (rebase F σ ρ1 H1 pin) D e:=⟨λ_ _ _ h' r'=>k.nx _ _ _ h' (r1.unbase r').1,λ_ _ _ h' r'=>k.bk _ _ _ h' (r1.unbase r').1,λ_ _ _ h' r'=>k.ct _ _ _ h' (r1.unbase r').1,λ_ _ _ _ _ h' r'=>k.rt _ _ _ _ _ h' (RelR.unbase r1 r')⟩
 refine⟨λi m σ' H'=>∃ ρ',m=ds.length - i/\i<=ds.length/\Rel K (rebase F σ ρ1 H1 pin) σ' ρ' H'/\forA c ag a e (ds.drop i) ρ',⟨ds.length,ρ1,rfl,zn _,r1.rebase pin,h1⟩,?_⟩
 rintro i m σ' H' ⟨ρ',rfl,hl,r',h'⟩
 have w:c ρ'->WkAt K (hs F σ' ρ') H' J ds:=λhc=>wk σ' ρ' H' (r1.unbase r').2 r'.sl (λj x hj ej=>r'.mi j x (.inr (.inr ⟨hj,ej⟩))) (λa z=>sM r' z) hc
 rcases BW i ds.length with q | q
 ·right
  rw[B_ q]at h'
  unfold forA at h'
  obtain⟨hc,h'⟩:=h'
  obtain⟨go,yld⟩:=(w hc i).1 ds[i] (bv q)
  refine⟨go,λσ2 H2=>∃ ρ2,Rel K (rebase F σ ρ1 H1 pin) σ2 ρ2 H2/\forA c ag a e (ds.drop (i+1)) ρ2,λσ2 H2 ⟨ρ2,r2,h2⟩=>⟨ds.length - (i+1),by omega,ρ2,rfl,q,r2,h2⟩,λx H2 hy=>?_⟩
  obtain⟨sm,rd⟩:=yld x H2 hy
  refine hg _ σ' ρ' _ x _ _ _ hp' (r'.grow sm) rd h' λσ3 ρ3 h3 r3 _ _ _=>?_
  exact hb _ σ3 ρ3 _ _ _ hp' r3 h3 ⟨λσ' ρ' H' h' r'=>⟨ρ',r',h'⟩,ek.nx,λσ' ρ' H' h' r'=>⟨ρ',r',h'⟩,ek.rt⟩
 ·left
  rw[CF q]at h'
  unfold forA at h'
  obtain⟨hc,h'⟩:=h'
  exact⟨(w hc i).2 q,ek.nx _ _ _ h' r'⟩
end
def blkE (n:Nat)(js:List Nat)(ρ:En):En:=pc n .un++js.map (gt ρ)
def blkR (n:Nat)(js:List Nat):List R:=pc n (R.t "")++js.map R.o
theorem br (n:Nat)(js:List Nat)(ρ:En):(blkR n js).map (c_ ρ)=blkE n js ρ:=by
 unfold blkR blkE
 rw[B7,List.map_replicate,B8]
 rfl
theorem i_ (js:List Nat):∀n,dis (blkR n js)=dis (js.map R.o)
 | 0=>rfl
 | n+1=>by
  show dis (R.t "" :: blkR n js)=_
  exact i_ js n
theorem ja (js:List Nat)(ρ:En)(n:Nat):∀ss:En,ss.length=n+js.length->back ρ (blkR n js) ss=back ρ (js.map R.o) (ss.drop n):=by
 induction n with
 | zero=>intro ss _;rfl
 | succ n ih =>
  intro ss h
  cases ss with
  | nil=>simp at h;omega
  | cons s ss=>exact ih ss (by simp at h;omega)
theorem jW {n:Nat}{js:List Nat}{ρ:En}{i:Nat}(h:(gt (blkE n js ρ) i).own=true):n<=i:=by
 rcases BW i n with q | q
 ·exfalso
  have:∀(n i:Nat) (x:En),i<n->gt (pc n Sv.un++x) i = .un:=by
   intro n
   induction n with
   | zero=>intro i x h;omega
   | succ n ih =>
    intro i x h
    cases i with
    | zero=>rfl
    | succ i=>exact ih i x (by omega)
  unfold blkE at h
  rw[this n i _ q]at h
  cases h
 ·exact q
section
variable {K:bi}{F:Fr}{σ σ':St}{ρ ρ':En}{H H':Hp}
theorem jV (n:Nat)(js:List Nat):Srcs K F σ ρ H (bst n σ js) (blkR n js):=by
 unfold bst blkR
 induction n with
 | zero =>
  induction js with
  | nil=>exact .nil
  | cons j js ih=>exact .cons rfl ih
 | succ n ih=>exact .cons trivial ih
theorem ie:∀(n i:Nat) (ρ:En),gt (ρ.drop n) i=gt ρ (n+i)
 | 0,i,ρ=>by simp
 | n+1,i,[]=>by simp[gt]
 | n+1,i,s::ρ=>by rw[List.drop_succ_cons,ie n i ρ,Nat.add_right_comm];rfl
theorem kO:∀(n i:Nat) (x:En),gt (pc n Sv.un++x) i=if i<n then .un else gt x (i - n)
 | 0,i,x=>by simp
 | n+1,0,x=>by simp[List.replicate_succ,gt]
 | n+1,i+1,x=>by
  show gt (pc n Sv.un++x) i=_
  rw[kO n i x]
  by_cases h:i<n
  ·rw[if_pos h,if_pos (by omega)]
  ·rw[if_neg h,if_neg (by omega)];congr 1;omega
theorem Rel.forget {n:Nat}(r:Rel K F σ ρ H)(hn:n<=σ.length)(hp:∀i a,F.pin i a->n<=i):Rel K F (pc n none++σ.drop n) (pc n .un++ρ.drop n) H/\Same (hid H (hs F σ ρ)) (hid H (hs F (pc n none++σ.drop n) (pc n .un++ρ.drop n))):=by
 have g:∀i,gt (pc n .un++ρ.drop n) i=if i<n then .un else gt ρ i:=λi=>by
  rw[kO]
  split
  ·rfl
  ·rw[ie];congr 1;omega
 have s:∀i,n<=i->(pc n none++σ.drop n)[i]? = σ[i]?:=λi h=>by
  rw[Cc (by simpa using h),C7,Cg]
  congr 1;omega
 have own':∀i,(gt (pc n .un++ρ.drop n) i).own=true->n<=i/\(gt ρ i).own=true:=λi h=>by
  rw[g]at h
  split at h
  ·cases h
  ·exact⟨by omega,h⟩
 have sub:∀a,bO (pc n none++σ.drop n) (pc n .un++ρ.drop n) a->bO σ ρ a:=λa ⟨i,hi,e⟩=>by
  obtain⟨h1,h2⟩:=own' i hi
  rw[s i h1]at e
  exact⟨i,h2,e⟩
 have vis:Same (hid H (hs F σ ρ)) (hid H (hs F (pc n none++σ.drop n) (pc n .un++ρ.drop n))):=bq λa o e n=>⟨e,λz=>n (z.imp id (sub a))⟩
 refine⟨⟨by have:=r.len;simp;omega,r.fr,r.zl,λa h=>r.zo a (sub a h),λi a hi e=>?_,λi a h=>?_,r.ml,r.ma,λi j a hi hj ei ej=>?_,λi=>?_⟩,vis⟩
 ·obtain⟨h1,h2⟩:=own' i hi
  rw[s i h1]at e
  exact r.ow i a h2 e
 ·rw[s i (hp i a h)];exact r.mi i a h
 ·obtain⟨h1,h2⟩:=own' i hi
  obtain⟨h3,h4⟩:=own' j hj
  rw[s i h1]at ei
  rw[s j h3]at ej
  exact r.nd i j a h2 h4 ei ej
 ·rw[g]
  split
  ·trivial
  ·rw[s i (by omega)]
   exact(r.sl i).keep vis λ_ _ _ _ e=>e
end
def fS (n:Nat)(js:List Nat)(c:En->Prop)(g:AG)(tc:AT)(te:AE)(q:List D->En->Prop):List D->List D->En->Prop
 | [],acc,ρ=>c ρ/\q acc ρ
 | d::ds,acc,ρ=>c ρ/\g d (blkE n js ρ) λρ1=>tc ρ1 λb ρ2=>if b=true then te ρ2 λr ρ3=>sto [r.frz] ρ3 λes ρ4=>fS n js c g tc te q ds (acc++es) (back ρ (js.map R.o) (ρ4.drop n))else fS n js c g tc te q ds acc (back ρ (js.map R.o) (ρ2.drop n))
def BM (n:Nat)(js:List Nat)(i:AI)(g:AG)(tc:AT)(te:AE):AE:=λρ q=>i ρ λds c ρ1=>ds.length<=1000000/\fS n js c g tc te (λacc ρ2=>q (.f acc) ρ2) ds [] ρ1
def aAll:AT:=λρ q=>q true ρ
section
variable {K:bi}
theorem cw:TTok K tAll aAll:=λF σ ρ H q Q r h k=>k _ _ _ h r .refl
theorem pw {F:Fr}{σ:St}{ρ:En}{H:Hp}{v:V}{r:R}{q:List D->En->Prop}(a:Rel K F σ ρ H)(i:InF K F σ ρ H v r)(h:sto [r] ρ q):∃d ρ',q [d] ρ'/\Rel K F σ ρ' H/\Kp σ ρ ρ' H H/\RepD K (hid H (hs F σ ρ')) v d:=by
 obtain⟨ds,ρ',h1,h2,h3,h4⟩:=gj a (.cons i .nil) h
 cases ds with
 | nil=>unfold RepDs at h4;exact h4.elim
 | cons d ds =>
  unfold RepDs at h4
  cases ds with
  | nil=>exact⟨d,ρ',h1,h2,h3,h4.1⟩
  | cons _ _=>obtain⟨_,z⟩:=h4;unfold RepDs at z;exact z.elim
theorem b6 {n:Nat}{js:List Nat}{wi:TI}{g:TG}{tc:TT}{te:TE}{ai:AI}{ag:AG}{atc:AT}{ate:AE}(hi:TIok K (λ_=>true) wi ai)(hg:TGok K (λj=>decide (n<=j)) g ag)(hc:TTok K tc atc)(he:TEok K te ate)
  (hd:dis (js.map R.o)=true:=by rfl):TEok K (tW n js wi g tc te) (BM n js ai ag atc ate):=by
 intro F σ ρ H q Q r h k
 refine hi F σ ρ H _ _ r h λds c ρ1 J H1 h1 r1 k1 wk=>?_
 obtain⟨hz,h1⟩:=h1
 have hd':dis (blkR n js)=true:=by rw[i_];exact hd
 refine⟨λi m ys H'=>∃ ρ' acc,m=ds.length - i/\i<=ds.length/\Rel K F σ ρ' H'/\Kp σ ρ1 ρ' H1 H'/\RepDs K (hid H' (hs F σ ρ')) ys acc/\acc.length<=i/\fS n js c ag atc ate (λacc ρ2=>q (.f acc) ρ2) (ds.drop i) acc ρ',⟨ds.length,ρ1,[],rfl,zn _,r1,.refl,.nil,zn _,h1⟩,?_⟩
 rintro i m ys H' ⟨ρ',acc,rfl,hl,r',k',rd,al,h'⟩
 have w:c ρ'->WkAt K (hs F σ ρ') H' J ds:=λhc=>wk σ ρ' H' k'.vis r'.sl (λ_ _ _ e=>e) (λa z=>sM r' z) hc
 have yl:ys.length=acc.length:=rd.length
 rcases BW i ds.length with lt | ge
 ·right
  rw[B_ lt]at h'
  unfold fS at h'
  obtain⟨hcc,h'⟩:=h'
  obtain⟨go,yld⟩:=(w hcc i).1 ds[i] (bv lt)
  refine⟨go,lD (by omega),λzs H2=>∃ ρ2 acc2,Rel K F σ ρ2 H2/\Kp σ ρ1 ρ2 H1 H2/\RepDs K (hid H2 (hs F σ ρ2)) zs acc2/\acc2.length<=i+1/\fS n js c ag atc ate (λacc ρ2=>q (.f acc) ρ2) (ds.drop (i+1)) acc2 ρ2,
   λzs H2 ⟨ρ2,acc2,a1,a2,a3,a4,a5⟩=>⟨ds.length - (i+1),by omega,ρ2,acc2,rfl,lt,a1,a2,a3,a4,a5⟩,λx H2 hy=>?_⟩
  obtain⟨sm,rx⟩:=yld x H2 hy
  have r0':=r'
  have k':Kp σ ρ1 ρ' H1 H2:=k'.trans ⟨λa o e _=>sm a o e,λ_ h=>h⟩
  have rd:RepDs K (hid H2 (hs F σ ρ')) ys acc:=rd.same (bq λa o e n=>⟨sm a o e,n⟩)
  have r':=r0'.grow sm
  have src:=jV (K:=K) (F:=F) (σ:=σ) (ρ:=ρ') (H:=H2) n js
  have rb:=r'.sub src hd'
  have hs2:=nE r' src
  rw[br]at rb hs2
  have pin:∀i a,(dU F σ ρ' H2 (bst n σ js) (blkE n js ρ')).pin i a->decide (n<=i)=true:=λi a h=>by
   rcases h with h | h
   ·exact decide_eq_true (jW h.1)
   ·exact h.elim
  have hlen:(bst n σ js).length=n+js.length:=fU
  have ret:∀ σ2 ρ2 H3,Rel K (dU F σ ρ' H2 (bst n σ js) (blkE n js ρ')) σ2 ρ2 H3->σ2.length=(bst n σ js).length->σ2.drop n=capt σ js->(∀i,(gt ρ2 i).own=true->(gt (blkE n js ρ') i).own=true) ->
    Rel K F σ (back ρ' (js.map R.o) (ρ2.drop n)) H3/\Kp σ ρ' (back ρ' (js.map R.o) (ρ2.drop n)) H2 H3/\Same (hid H3 (hs (dU F σ ρ' H2 (bst n σ js) (blkE n js ρ')) σ2 ρ2)) (hid H3 (hs F σ (back ρ' (js.map R.o) (ρ2.drop n)))):=λσ2 ρ2 H3 rr hlen2 hdrop hown=>by
   obtain⟨f1,f2⟩:=rr.forget (n:=n) (by omega) λi a h=>of_decide_eq_true (pin i a h)
   rw[hdrop]at f1 f2
   have f1':Rel K (dU F σ ρ' H2 (bst n σ js) ((blkR n js).map (c_ ρ'))) (bst n σ js) (pc n .un++ρ2.drop n) H3:=by rw[br];exact f1
   have bk:=r'.back src hd' f1' λi hi=>by
    rw[br]
    rw[kO]at hi
    split at hi
    ·cases hi
    ·rename_i hni
     rw[ie,show n+(i - n)=i by omega]at hi
     exact hown i hi
   have ln:(pc n Sv.un++ρ2.drop n).length=n+js.length:=by
    have:=rr.len
    simp;omega
   rw[ja js ρ' n _ ln,DT (by simp),br]at bk
   exact⟨bk.1,bk.2.1,f2.trans bk.2.2⟩
  refine hg _ (bst n σ js) (blkE n js ρ') H2 x _ _ _ pin rb (by rw[hs2];exact rx) h' λσ2 ρ2 h2 r2 l2 p2 o2=>?_
  have hdrop:σ2.drop n=capt σ js:=by
   have:σ2.drop n=(bst n σ js).drop n:=by
    apply DA
    intro i
    rw[Cg,Cg]
    exact p2 (n+i) (decide_eq_true (by omega))
   rw[this]
   unfold bst
   rw[DT (by simp)]
  refine⟨hdrop,hc _ σ2 ρ2 H2 _ _ r2 h2 λb ρ3 H3 h3 r3 k3=>?_⟩
  cases b with
  | false =>
   obtain⟨b1,b2,_⟩:=ret σ2 ρ3 H3 r3 l2 hdrop λi hi=>(o2 i (k3.sb i hi)).1
   exact⟨_,acc,b1,k'.trans b2,rd.same b2.vis,by omega,h3⟩
  | true =>
   refine he _ σ2 ρ3 H3 _ _ r3 h3 λr4 ρ4 v H4 h4 o4=>?_
   obtain⟨r4',k4,i4⟩:=o4.inF
   obtain⟨d,ρ5,h5,r5,k5,rv⟩:=pw r4' i4 h4
   obtain⟨b1,b2,b3⟩:=ret σ2 ρ5 H4 r5 l2 hdrop λi hi=>(o2 i (k3.sb i (k4.sb i (k5.sb i hi)))).1
   exact⟨_,acc++[d],b1,k'.trans b2,(rd.same b2.vis).append (.one (rv.same b3)),by simp;omega,h5⟩
 ·left
  rw[CF ge]at h'
  unfold fS at h'
  obtain⟨hcc,h'⟩:=h'
  refine⟨(w hcc i).2 ge,small (by omega),λl hl'=>?_⟩
  exact((k.after k1).after k').new r' h' rd hl'
end
def outS:En->En->En
 | [],_=>[]
 | s::ss,ρ=>(if s.own=true then gt ρ 0 else s)::outS ss ρ.tail
theorem y7 (ρ:En)(i:Nat):gt ρ.tail i=gt ρ (i+1):=by cases ρ <;> rfl
theorem ro:∀(ss ρ:En),(outS ss ρ).length=ss.length
 | [],_=>rfl
 | s::ss,ρ=>by simp[outS,ro ss]
theorem qk:∀(ss ρ:En) (i:Nat),gt (outS ss ρ) i=if(gt ss i).own=true then gt ρ i else gt ss i
 | [],ρ,i=>by simp[outS,gt,Sv.own]
 | s::ss,ρ,0=>rfl
 | s::ss,ρ,i+1=>by
  show gt (outS ss ρ.tail) i=_
  rw[qk ss ρ.tail i,y7]
  rfl
def fin (pr:Nat->Bool):R->En->Ko->Prop
 | .d d,ρ,k=>k (.d d) ρ
 | .n s,ρ,k=>k (.n s) ρ
 | .o i,ρ,k=>(match gt ρ i with
  | .ow ds=>if pr i=true then k (.d (.lst ds)) (pt ρ i (.vl (.lst ds)))else k (.n (.ow ds)) (pt ρ i .un)
  | .vl d=>k (.d d) ρ
  | .dk kvs=>if pr i=true then False else k (.n (.dk kvs)) (pt ρ i .un)
  | .dt kvs=>if pr i=true then False else k (.n (.dt kvs)) (pt ρ i .un)
  | _=>False)
 | .t _,_,_=>False
 | .x s,ρ,k=>k (.x s) ρ
def yG (pr:Nat->Bool)(ss:En):Prop:=∀i,(gt ss i).own=true->pr i=true
section
variable {K:bi}{F:Fr}{σ σ':St}{ρ ρ':En}{H H':Hp}
open Classical in
noncomputable def del (H:Hp)(l:Addr):Hp:=λa=>if a=l then none else H a
open Classical in
theorem m7 {l:Addr}:del H l l=none:=by unfold del;rw[if_pos rfl]
open Classical in
theorem lW {a l:Addr}(h:a≠l):del H l a=H a:=by unfold del;rw[if_neg h]
theorem jv {l:Addr}{o:HO}(h:H l=some o):upd (del H l) l o=H:=by
 funext a
 by_cases e:a=l
 ·subst e;rw[aS,h]
 ·rw[aR e,lW e]
theorem Rel.take (r:Rel K F σ ρ H){i:Nat}(hi:(gt ρ i).own=true)(hm:∀a,¬F.pin i a):∃l o,H l=some o/\σ[i]? = some (some (.ref l))/\Rel K F σ (pt ρ i .un) (del H l)/\SvOk K (hid (del H l) (hs F σ (pt ρ i .un))) H (some (some (.ref l))) (gt ρ i):=by
 have s:=r.sl i
 obtain⟨l,o,el,hl⟩:=s.alive hi
 have own':∀j,(gt (pt ρ i .un) j).own=true->i≠j/\(gt ρ j).own=true:=λj h=>gu rfl h
 have sub:∀a,bO σ (pt ρ i .un) a->bO σ ρ a/\a≠l:=λa ⟨j,hj,e⟩=>by
  obtain⟨ij,hj⟩:=own' j hj
  exact⟨⟨j,hj,e⟩,λz=>ij (r.nd i j l hi hj el (z▸e))⟩
 have ol:bO σ ρ l:=⟨i,hi,el⟩
 have vis:Same (hid H (hs F σ ρ)) (hid (del H l) (hs F σ (pt ρ i .un))):=bq λa u e n=>by
  have al:a≠l:=λz=>n (.inr (z▸ol))
  exact⟨by rw[lW al];exact e,λz=>n (z.imp id λz=>(sub a z).1)⟩
 have h0:F.H0 l=none:=by
  rcases r.ow i l hi el with h | h
  ·exact absurd (Or.inl h.1) (hm l)
  ·exact h
 refine⟨l,o,hl,el,⟨by rw[hZ,r.len],λa u e n=>?_,λa z=>?_,λa h=>r.zo a (sub a h).1,λj a hj e=>r.ow j a (own' j hj).2 e,r.mi,r.ml,λa z=>?_,λj k a hj hk ej ek=>r.nd j k a (own' j hj).2 (own' k hk).2 ej ek,λj=>?_⟩,?_⟩
 ·have al:a≠l:=λz=>by rw[z,h0]at e;cases e
  rw[lW al];exact r.fr a u e n
 ·have al:a≠l:=λq=>r.zo l ol (q▸z)
  unfold Nt;rw[lW al];exact r.zl a z
 ·have al:a≠l:=λq=>r.ml a z (q▸h0)
  rw[lW al];exact r.ma a z
 ·by_cases ij:i=j
  ·subst ij
   rw[mU ρ i _ (ko hi)];trivial
  ·rw[cn ρ i j _ ij]
   refine(r.sl j).keep vis λa u ho e h=>?_
   have al:a≠l:=λz=>ij (r.nd i j l hi ho el (z▸e))
   rw[lW al];exact h
 ·rw[el]at s
  exact s.keep vis λ_ _ _ _ e=>e
theorem Rel.out {vs:List V}{ss:En}{Z:Addr->Prop}(r0:Rel K (F0 vs ss H Z) (vs.map some) ss H)(r:Rel K (F0 vs ss H Z) σ' ρ' H') :
  Rel K (F0 vs ss H Z) (vs.map some) (outS ss ρ') H'/\Same (hid H' (hs (F0 vs ss H Z) σ' ρ')) (hid H' (hs (F0 vs ss H Z) (vs.map some) (outS ss ρ')))/\∀i,(gt (outS ss ρ') i).own=true->(gt ss i).own=true:=by
 have own':∀i,(gt (outS ss ρ') i).own=true->(gt ss i).own=true/\(gt ρ' i).own=true:=λi h=>by
  rw[qk]at h
  split at h
  ·rename_i q;exact⟨q,h⟩
  ·rename_i q;exact absurd h q
 have same:∀i a,(gt ss i).own=true->(vs.map some)[i]? = some (some (.ref a))->σ'[i]? = some (some (.ref a)):=λi a h e=>r.mi i a (.inl ⟨h,e⟩)
 have sub:∀a,bO (vs.map some) (outS ss ρ') a->bO σ' ρ' a/\bO (vs.map some) ss a:=λa ⟨i,hi,e⟩=>by
  obtain⟨h1,h2⟩:=own' i hi
  exact⟨⟨i,h2,same i a h1 e⟩,⟨i,h1,e⟩⟩
 have v1:Same (hid H' (hs (F0 vs ss H Z) σ' ρ')) (hid H' (hs (F0 vs ss H Z) (vs.map some) (outS ss ρ'))):=bq λa o e n=>⟨e,λz=>n (z.imp id λz=>(sub a z).1)⟩
 have v2:Same (hid H (hs (F0 vs ss H Z) (vs.map some) ss)) (hid H' (hs (F0 vs ss H Z) (vs.map some) (outS ss ρ'))):=bq λa o e n=>⟨r.fr a o e λz=>n (.inr z),λz=>n (z.imp id λz=>(sub a z).2)⟩
 refine⟨⟨by rw[ro,r0.len],r.fr,r.zl,λa h=>r.zo a (sub a h).1,λi a hi e=>.inl ⟨⟨(own' i hi).1,e⟩,i,(own' i hi).1,e⟩,r0.mi,r.ml,r.ma,λi j a hi hj ei ej=>r0.nd i j a (own' i hi).1 (own' j hj).1 ei ej,λi=>?_⟩,v1,λi h=>(own' i h).1⟩
 rw[qk]
 split
 ·rename_i q
  obtain⟨l,o,e1,e2⟩:=(r0.sl i).alive q
  have:=same i l q e1
  rw[e1,<- this]
  exact(r.sl i).keep v1 λ_ _ _ _ e=>e
 ·rename_i q
  exact(r0.sl i).keep v2 λl o ho=>absurd ho q
theorem oB:∀(ρ:En) (n i:Nat),gt (ρ++pc n .un) i=gt ρ i
 | [],n,i=>by
  show gt (pc n .un) i = .un
  induction n generalizing i with
  | zero=>rfl
  | succ n ih=>cases i with
   | zero=>rfl
   | succ i=>exact ih i
 | s::ρ,n,0=>rfl
 | s::ρ,n,i+1=>oB ρ n i
theorem Rel.ext (r:Rel K F σ ρ H)(n:Nat):Rel K F (σ++pc n none) (ρ++pc n .un) H:=by
 have s:∀ {i a},(gt ρ i).own=true->(σ++pc n none)[i]? = some (some (V.ref a))->σ[i]? = some (some (.ref a)):=λ{i a} h e=>by
  rwa [BQ (by rw[r.len];exact ko h)]at e
 have sub:∀a,bO (σ++pc n none) (ρ++pc n .un) a->bO σ ρ a:=λa ⟨i,hi,e⟩=>by
  rw[oB]at hi
  exact⟨i,hi,s hi e⟩
 have vis:Same (hid H (hs F σ ρ)) (hid H (hs F (σ++pc n none) (ρ++pc n .un))):=bq λa o e n=>⟨e,λz=>n (z.imp id (sub a))⟩
 refine⟨by simp[r.len],r.fr,r.zl,λa h=>r.zo a (sub a h),λi a hi e=>?_,λi a h=>?_,r.ml,r.ma,λi j a hi hj ei ej=>?_,λi=>?_⟩
 ·rw[oB]at hi
  exact r.ow i a hi (s hi e)
 ·have:=r.mi i a h
  rw[BQ (im.mp this).1];exact this
 ·rw[oB]at hi hj
  exact r.nd i j a hi hj (s hi ei) (s hj ej)
 ·rw[oB]
  have q:=r.sl i
  rcases BW i σ.length with lt | ge
  ·rw[BQ lt]
   exact q.keep vis λ_ _ _ _ e=>e
  ·rw[lR ρ i (by rw[<- r.len];exact ge)];trivial
end
theorem qD {K:bi}{ps:List Str}{S:ASp}(hS:∀ss q,S ss q->ss.length=ps.length):∀vs H Q E,spA K S vs H Q E->vs.length=ps.length:=λvs H Q E h=>by
 obtain⟨ss,Z,q,r,hs',_⟩:=h
 have:=r.len
 rw[f8]at this
 rw[this];exact hS ss q hs'
theorem rQ {P:wE}{w:B2}{K:bi}{mg:Str->Option bn}{base:Heap}{x:Str}{st:Stmt}{N ps:List Str}{a:AS}(pr:Nat->Bool)(S:ASp){f:Addr}{cdv:bn}{A:Ca}{outer:List Env}{s:ca}{H:Hp}{vs:List V}{Q:VK}{E:XK}
  (hbody:∃t,PSs (cxOf CX0 P w K mg base N x (aw st) f cdv A outer s H E).nox (bI st) t/\TSok K pr t a)
  (hS:∀ss q,S ss q->ss.length=ps.length/\yG pr ss/\a ⟨λρ=>q (.d .non) (outS ss ρ),λr ρ=>fin pr r ρ λr' ρ'=>q r' (outS ss ρ'),λ_=>False,λ_=>False⟩ (ss++pc (N.length - ps.length) .un))
  (h:spA K S vs H Q E):∃t,PSs (cxOf CX0 P w K mg base N x (aw st) f cdv A outer s H E).nox (bI st) t/\t {nx:=λ_ H'=>Q .non H',rt:=Q} (start N vs) H:=by
 have hl:=qD (λss q h=>(hS ss q h).1) _ _ _ _ h
 obtain⟨ss,Z,q,r0,hs',post⟩:=h
 obtain⟨h1,h2,h3⟩:=hS ss q hs'
 obtain⟨t,ht,tok⟩:=hbody
 refine⟨t,ht,?_⟩
 have hp:∀i a,(F0 vs ss H Z).pin i a->pr i=true:=λi a h=>by
  rcases h with h | h
  ·exact h2 i h.1
  ·exact h.elim
 unfold start
 rw[hl]
 have fin_d:∀ σ' ρ' v H' d,q (.d d) (outS ss ρ')->Rel K (F0 vs ss H Z) σ' ρ' H'->RepD K (hid H' (hs (F0 vs ss H Z) σ' ρ')) v d->Q v H':=λσ' ρ' v H' d hq r rd=>by
  obtain⟨o1,o2,o3⟩:=r0.out r
  exact post (.d d) _ v H' hq o3 (λi z=>nomatch z) ⟨o1,rd.same o2⟩
 refine tok (F0 vs ss H Z) _ _ H _ _ hp (r0.ext _) h3 ⟨λσ' ρ' H' hq r=>?_,λ_ _ _ z=>z.elim,λ_ _ _ z=>z.elim,λσ' ρ' rr v H' hq r=>?_⟩
 ·exact fin_d σ' ρ' _ H' .non hq r (by unfold RepD;rfl)
 ·cases rr with
  | d d=>exact fin_d σ' ρ' v H' d hq r.1 r.2
  | t n=>exact hq.elim
  | x s =>
   obtain⟨ra,rb,rc⟩:=r
   obtain⟨o1,o2,o3⟩:=r0.out ra
   exact post (.x s) _ v H' hq o3 (λi z=>nomatch z) ⟨o1,rb,rc.keep o2 λl o ho=>by rw[rb]at ho;cases ho⟩
  | n sv =>
   obtain⟨Hb,l,o,a1,a2,a3,a4,a5,a6⟩:=r
   obtain⟨o1,o2,o3⟩:=r0.out a1
   exact post (.n sv) _ v H' hq o3 (λi z=>nomatch z) ⟨Hb,l,o,o1,a2,a3.keep o2 λ_ _ _ _ e=>e,a4,a5,a6⟩
  | o i =>
   obtain⟨r,ei⟩:=r
   have hq':(match gt ρ' i with
    | .ow ds=>if pr i=true then q (.d (.lst ds)) (outS ss (pt ρ' i (.vl (.lst ds))))else q (.n (.ow ds)) (outS ss (pt ρ' i .un))
    | .vl d=>q (.d d) (outS ss ρ')
    | .dk kvs=>if pr i=true then False else q (.n (.dk kvs)) (outS ss (pt ρ' i .un))
    | .dt kvs=>if pr i=true then False else q (.n (.dt kvs)) (outS ss (pt ρ' i .un))
    | _=>False):=hq
   clear hq
   split at hq'
   ·rename_i ds hg
    split at hq'
    ·obtain⟨l,el,r2,k2,rd⟩:=r.frz hg
     rw[ei]at el
     injection el with el;injection el with el;subst el
     exact fin_d σ' _ _ H' _ hq' r2 rd
    ·rename_i hpr
     have ho:(gt ρ' i).own=true:=by rw[hg];rfl
     obtain⟨l,o,hl',el,r2,sv⟩:=r.take ho λa z=>hpr (hp i a z)
     rw[ei]at el
     injection el with el;injection el with el;subst el
     obtain⟨o1,o2,o3⟩:=r0.out r2
     rw[hg]at sv
     refine post (.n (.ow ds)) _ _ H' hq' o3 (λi z=>nomatch z) ⟨del H' l,l,o,o1,rfl,?_,m7,(jv hl').symm,rfl⟩
     rw[jv hl']
     exact sv.keep o2 λ_ _ _ _ e=>e
   ·rename_i d hg
    have s:=r.sl i
    rw[hg,ei]at s
    obtain⟨x,e1,rd⟩:=s
    injection e1 with e1;injection e1 with e1;subst e1
    exact fin_d σ' ρ' _ H' d hq' r rd
   ·rename_i kvs hg
    split at hq'
    ·exact hq'.elim
    ·rename_i hpr
     have ho:(gt ρ' i).own=true:=by rw[hg];rfl
     obtain⟨l,o,hl',el,r2,sv⟩:=r.take ho λa z=>hpr (hp i a z)
     rw[ei]at el
     injection el with el;injection el with el;subst el
     obtain⟨o1,o2,o3⟩:=r0.out r2
     rw[hg]at sv
     refine post (.n (.dk kvs)) _ _ H' hq' o3 (λi z=>nomatch z) ⟨del H' l,l,o,o1,rfl,?_,m7,(jv hl').symm,rfl⟩
     rw[jv hl']
     exact sv.keep o2 λ_ _ _ _ e=>e
   ·rename_i kvs hg
    split at hq'
    ·exact hq'.elim
    ·rename_i hpr
     have ho:(gt ρ' i).own=true:=by rw[hg];rfl
     obtain⟨l,o,hl',el,r2,sv⟩:=r.take ho λa z=>hpr (hp i a z)
     rw[ei]at el
     injection el with el;injection el with el;subst el
     obtain⟨o1,o2,o3⟩:=r0.out r2
     rw[hg]at sv
     refine post (.n (.dt kvs)) _ _ H' hq' o3 (λi z=>nomatch z) ⟨del H' l,l,o,o1,rfl,?_,m7,(jv hl').symm,rfl⟩
     rw[jv hl']
     exact sv.keep o2 λ_ _ _ _ e=>e
   ·exact hq'.elim
theorem DefN.aok {P:wE}{w:B2}{K:bi}{mg:Str->Option bn}{base:Heap}{x:Str}{st:Stmt}{N ps:List Str}{k:Nat}{a:AS}(D:DefN K mg x st ps)(Sc:aQ N ps (aw st))(pr:Nat->Bool)(S:ASp)
  (hbody:∀(f:Addr) (cdv:bn) (A:Ca) (outer:List Env) (s:ca) (H:Hp) (E:XK),Room k (A.deeper (EU x (aw st) s.heap.objs.size f cdv)) ->
   ∃t,PSs (cxOf CX0 P w K mg base N x (aw st) f cdv A outer s H E).nox (bI st) t/\TSok K pr t a)
  (hS:∀ss q,S ss q->ss.length=ps.length/\yG pr ss/\a ⟨λρ=>q (.d .non) (outS ss ρ),λr ρ=>fin pr r ρ λr' ρ'=>q r' (outS ss ρ'),λ_=>False,λ_=>False⟩ (ss++pc (N.length - ps.length) .un)):OkN P w K mg base (k+1) x ps (spA K S) :=
 D.ok Sc (qD λss q h=>(hS ss q h).1) λf cdv A outer s H vs Q E hr h=>rQ pr S (hbody f cdv A outer s H E hr) hS h
def SLaw:ASp:=λss q=>∃ns:List Int,ns.length<=63/\ss=[.sc ns]/\∀ss',q (.d (.bl true)) ss'
theorem Aw {P:wE}{w:B2}{K:bi}{mg:Str->Option bn}{base:Heap}{k:Nat}{x:Str}{ps:List Str}(h:OkN P w K mg base k x ps (spA K SLaw)):OkN P w K mg base k x ps (yk K):=by
 obtain⟨f,fd,a1,a2,a3,a4,g⟩:=h.ex
 refine⟨f,fd,a1,a2,a3,a4,g.imp λvs H Q E hq=>?_⟩
 obtain⟨a,ns,rfl,sq,hl,k⟩:=hq
 refine⟨[.sc ns],λ_=>False,λr _=>r = .d (.bl true),⟨rfl,λa o e _=>e,λa z=>z.elim,λa _ z=>z,λi a hi _=>?_,λi a h=>?_,λa h=>?_,λa h=>?_,λi j a hi=>?_,λi=>?_⟩,⟨ns,hl,rfl,λ_=>rfl⟩,λr ss' v H' e1 _ _ rr=>?_⟩
 ·exfalso;cases i with
  | zero=>cases hi
  | succ i=>cases hi
 ·rcases h with h | h
  ·cases i with
   | zero=>cases h.1
   | succ i=>cases h.1
  ·exact h.elim
 ·obtain⟨i,hi,_⟩:=h
  cases i with
  | zero=>cases hi
  | succ i=>cases hi
 ·obtain⟨i,hi,_⟩:=h
  cases i with
  | zero=>cases hi
  | succ i=>cases hi
 ·exfalso;cases i with
  | zero=>cases hi
  | succ i=>cases hi
 ·cases i with
  | succ i=>trivial
  | zero =>
   refine⟨a,rfl,?_⟩
   refine(show Same H (hid H _)from λb o e=>gG (λz=>?_) e).seq sq
   rcases z with z | ⟨i,hi,_⟩
   ·exact z
   ·cases i with
    | zero=>cases hi
    | succ i=>cases hi
 ·subst e1
  obtain⟨_,rd⟩:=rr
  unfold RepD at rd
  subst rd
  exact k H'
def t4 (K:bi):Sp:=λvs H Q _=>∃(t c:Addr) (m sp lf:Int) (ns:List Int) (n:Nat),vs=[.ref t,.int m]/\H t=some (.dK (cL c sp lf))/\SqL K H c (ns.map V.int)/\0<=sp/\sp<=n/\0<=lf/\n<1000000000000/\Dv m /\
 ∀(r:Nat) (sp' lf':Int),(r:Int)<m->0<=sp'->sp'<=(n+1:Nat)->0<=lf'->Q (.int (r:Nat)) (upd H t (.dK (cL c sp' lf')))
def tY (K:bi):Sp:=λvs H Q _=>∃(a:Addr) (ns:List Int),vs=[.ref a]/\SqL K H a (ns.map V.int) /\
 ∀t c,H t=none->H c=none->t≠c->Q (.ref t) (upd (upd H c (.lst ((ns.take 63).map V.int))) t (.dK (cL c 0 0)))
def zE:ASp:=λss q=>∃ns:List Int,ss=[.sc ns]/\q (.n (.tp 0)) [.sc ns]
def zH:ASp:=λss q=>∃(n:Nat) (m:Int),ss=[.tp n,.vl (.int m)]/\n<1000000000000/\Dv m/\∀r:Nat,(r:Int)<m->q (.d (.int r)) [.tp (n+1),.vl (.int m)]
theorem OkN.imp {P:wE}{w:B2}{K:bi}{mg:Str->Option bn}{base:Heap}{k:Nat}{x:Str}{ps:List Str}{sp sp':Sp}(h:OkN P w K mg base k x ps sp)(i:∀vs H Q E,sp' vs H Q E->sp vs H Q E):OkN P w K mg base k x ps sp':=by
 obtain⟨f,fd,a1,a2,a3,a4,g⟩:=h.ex
 exact⟨f,fd,a1,a2,a3,a4,g.imp i⟩
theorem Ba {vs:List V}{s:Sv}{F:Fr}{K:bi}{H:Hp}(r:Rel K F (vs.map some) [s] H):∃x,vs=[x]:=by
 have:=r.len
 match vs,this with
 | [x],_=>exact⟨x,rfl⟩
theorem A_ {vs:List V}{s s':Sv}{F:Fr}{K:bi}{H:Hp}(r:Rel K F (vs.map some) [s,s'] H):∃x y,vs=[x,y]:=by
 have:=r.len
 match vs,this with
 | [x,y],_=>exact⟨x,y,rfl⟩
theorem zm {K:bi}(vs:List V)(H:Hp)(Q:VK)(E:XK)(h:spA K zH vs H Q E):t4 K vs H Q E:=by
 obtain⟨ss,Z,q,r,⟨n,m,rfl,hn,hm,hq⟩,post⟩:=h
 obtain⟨x,y,rfl⟩:=A_ r
 obtain⟨t,c,ns,sp,lf,e0,ht,hc,h1,h2,h3⟩:=r.sl 0
 obtain⟨y',e1,ry⟩:=r.sl 1
 unfold RepD at ry
 injection e0 with e0;injection e0 with e0;subst e0
 injection e1 with e1;injection e1 with e1
 subst e1 ry
 refine⟨t,c,m,sp,lf,ns,n,rfl,ht,cf.seq hc,h1,h2,h3,hn,hm,λrr sp' lf' hr a1 a2 a3=>?_⟩
 have hw:=r.write (i:=0) (l:=t) (o:=.dK (cL c sp' lf')) (s:=.tp (n+1)) rfl rfl rfl ⟨t,c,ns,sp',lf',rfl,aS,hc,a1,a2,a3⟩
 refine post (.d (.int rr)) [.tp (n+1),.vl (.int m)] _ _ (hq rr hr) (λi h=>?_) (λi z=>nomatch z) ⟨hw.1,by unfold RepD;rfl⟩
 match i,h with
 | 0,_=>rfl
 | 1,h=>cases h
 | i+2,h=>cases h
theorem yg {K:bi}(vs:List V)(H:Hp)(Q:VK)(E:XK)(h:spA K zE vs H Q E):tY K vs H Q E:=by
 obtain⟨ss,Z,q,r,⟨ns,rfl,hq⟩,post⟩:=h
 obtain⟨x,rfl⟩:=Ba r
 obtain⟨a,e0,sq⟩:=r.sl 0
 injection e0 with e0;injection e0 with e0;subst e0
 refine⟨a,ns,rfl,cf.seq sq,λt c ht hc htc=>?_⟩
 have rc:=r.fresh (o:=.lst ((ns.take 63).map V.int)) hc
 have kc:Kp ([V.ref a].map some) [.sc ns] [.sc ns] H (upd H c (.lst ((ns.take 63).map V.int))):=Kp.fresh hc
 have ht':(upd H c (.lst ((ns.take 63).map V.int))) t=none:=by rw[aR htc];exact ht
 refine post (.n (.tp 0)) _ _ _ hq (λi h=>h) (λi z=>nomatch z) ⟨_,t,_,rc,rfl,⟨t,c,ns.take 63,0,0,rfl,aS,SqL.of (gG (iY r hc) aS),by decide,by decide,by decide⟩,ht',rfl,rfl⟩
section
variable {K:bi}{F:Fr}{σ:St}{ρ ρ':En}{H H':Hp}{ta tb tc:TE}{a b c:AE}{rr rr':R2}{g g':R->R->AE}
def Bf (g g':R->R->AE)(a b c:AE):AE:=λρ q=>a ρ λr1 ρ1=>b ρ1 λr2 ρ2=>g r1.frz r2.frz ρ2 λr3 ρ3=>match r3 with
 | .d (.bl k)=>if k=true then c ρ3 λr4 ρ4=>g' r2.frz r4.frz ρ4 q else q (.d (.bl false)) ρ3
 | _=>False
theorem j2 (ho:OpOk K rr g)(ho':OpOk K rr' g')(ha:TEok K ta a)(hb:TEok K tb b)(hc:TEok K tc c):TEok K (xE rr rr' ta tb tc) (Bf g g' a b c):=by
 intro F σ ρ H q Q r h k
 refine ha F σ ρ H _ _ r h λr1 ρ1 x H1 h1 o1=>?_
 obtain⟨r1',k1,i1⟩:=o1.inF
 refine hb F σ ρ1 H1 _ _ r1' h1 λr2 ρ2 y H2 h2 o2=>?_
 obtain⟨r2',k2,i2⟩:=o2.inF
 refine ho F σ ρ2 H2 x y _ _ _ _ r2' (i1.keep k2) i2 h2 λr3 ρ3 z H3 h3 o3=>?_
 obtain⟨r3',k3,i3⟩:=o3.inF
 split at h3
 ·rename_i kk
  refine⟨kk,i3.blv,?_⟩
  cases kk with
  | false=>exact(((k.after k1).after k2).after k3).bl r3' h3
  | true =>
   refine hc F σ ρ3 H3 _ _ r3' h3 λr4 ρ4 w H4 h4 o4=>?_
   obtain⟨r4',k4,i4⟩:=o4.inF
   exact ho' F σ ρ4 H4 y w _ _ q Q r4' ((i2.keep k3).keep k4) i4 h4 ((((k.after k1).after k2).after k3).after k4)
 ·exact h3.elim
def uS:D->Bool
 | .non=>true
 | _=>false
def isEx (ρ:En):R->Bool
 | .o i=>(match gt ρ i with | .ex _ _=>true | _=>false)
 | _=>false
def gIsN (neg:Bool):R->R->AE:=λr1 r2 ρ q=>match view ρ r1,r2 with
 | some d,.d .non=>q (.d (.bl (if neg then !uS d else uS d))) ρ
 | none,.d .non=>isEx ρ r1=true/\q (.d (.bl neg)) ρ
 | _,_=>False
theorem wY {F:Fr}{σ:St}{ρ:En}{H:Hp}{x:V}{r1:R}(a:Rel K F σ ρ H)(h1:InF K F σ ρ H x r1)(h:isEx ρ r1=true):∃e,x = .ref e:=by
 cases r1 with
 | d d=>cases h
 | n s=>cases h
 | t n=>cases h
 | x n=>cases h
 | o i =>
  have q:=a.sl i
  cases hg:gt ρ i with
  | ex C fs =>
   rw[hg]at q
   obtain⟨e,od,e1,_⟩:=q
   rw[show σ[i]? = _ from h1]at e1
   injection e1 with e1;injection e1 with e1
   exact⟨e,e1⟩
  | _=>exact absurd h (by show ¬(match gt ρ i with | .ex _ _=>true | _=>false)=true;rw[hg];exact λz=>nomatch z)
theorem uR {x:V}{d:D}(h:RepD K H x d):decide (x=V.non)=uS d:=by
 cases d with
 | non=>unfold RepD at h;subst h;rfl
 | bl b=>unfold RepD at h;subst h;rfl
 | int b=>unfold RepD at h;subst h;rfl
 | str b=>unfold RepD at h;subst h;rfl
 | tup ds=>unfold RepD at h;obtain⟨a,vs,rfl,_⟩:=h;rfl
 | lst ds=>unfold RepD at h;obtain⟨a,vs,rfl,_⟩:=h;rfl
theorem yJ:OpOk K (λx y H Q=>y = .non/\Q (.bl (decide (x = .non))) H) (gIsN false):=by
 intro F σ ρ H x y r1 r2 q Q a h1 h2 h b
 unfold gIsN at h
 split at h
 ·rename_i d e
  unfold InF RepD at h2
  refine⟨h2,?_⟩
  rw[uR (d4 a h1 e)]
  exact b.bl a h
 ·unfold InF RepD at h2
  obtain⟨h',h⟩:=h
  obtain⟨e,rfl⟩:=wY a h1 h'
  refine⟨h2,?_⟩
  rw[decide_eq_false (λz=>nomatch z)]
  exact b.bl a h
 ·exact h.elim
def m3:D->Bool
 | .tup _=>false
 | .lst _=>false
 | _=>true
def inD (d:D)(ds:List D):Bool:=ds.any λe=>eqD e d
@[irreducible] def gIn (neg:Bool):R->R->AE:=λr1 r2 ρ q=>match view ρ r1,view ρ r2 with
 | some d,some (.lst ds)=>(m3 d=true/\ds.all m3=true)/\q (.d (.bl (if neg then !inD d ds else inD d ds))) ρ
 | some d,some (.tup ds)=>(m3 d=true/\ds.all m3=true)/\q (.d (.bl (if neg then !inD d ds else inD d ds))) ρ
 | _,_=>False
theorem mZ {x:V}{d:D}(h:RepD K H x d)(f:m3 d=true):jJ x=true:=by
 cases d with
 | tup ds=>cases f
 | lst ds=>cases f
 | non=>unfold RepD at h;subst h;rfl
 | bl b=>unfold RepD at h;subst h;rfl
 | int b=>unfold RepD at h;subst h;rfl
 | str b=>unfold RepD at h;subst h;rfl
theorem zj {x y:V}{d e:D}(h:RepD K H x d)(h':RepD K H y e)(f:m3 d=true)(f':m3 e=true):eqV x y=eqD d e:=by
 cases d with
 | tup ds=>cases f
 | lst ds=>cases f
 | non=>unfold RepD at h;subst h;cases e with
  | tup ds=>cases f'
  | lst ds=>cases f'
  | non=>unfold RepD at h';subst h';simp[eqV,eqD]
  | bl b=>unfold RepD at h';subst h';simp[eqV,eqD]
  | int b=>unfold RepD at h';subst h';simp[eqV,eqD]
  | str b=>unfold RepD at h';subst h';simp[eqV,eqD]
 | bl b=>unfold RepD at h;subst h;cases e with
  | tup ds=>cases f'
  | lst ds=>cases f'
  | non=>unfold RepD at h';subst h';simp[eqV,eqD]
  | bl b=>unfold RepD at h';subst h';simp[eqV,eqD]
  | int b=>unfold RepD at h';subst h';simp[eqV,eqD]
  | str b=>unfold RepD at h';subst h';simp[eqV,eqD]
 | int b=>unfold RepD at h;subst h;cases e with
  | tup ds=>cases f'
  | lst ds=>cases f'
  | non=>unfold RepD at h';subst h';simp[eqV,eqD]
  | bl b=>unfold RepD at h';subst h';simp[eqV,eqD]
  | int b=>unfold RepD at h';subst h';simp[eqV,eqD]
  | str b=>unfold RepD at h';subst h';simp[eqV,eqD]
 | str b=>unfold RepD at h;subst h;cases e with
  | tup ds=>cases f'
  | lst ds=>cases f'
  | non=>unfold RepD at h';subst h';simp[eqV,eqD]
  | bl b=>unfold RepD at h';subst h';simp[eqV,eqD]
  | int b=>unfold RepD at h';subst h';simp[eqV,eqD]
  | str b=>unfold RepD at h';subst h';simp[eqV,eqD]
theorem uW {x:V}{d:D}(h:RepD K H x d)(f:m3 d=true):∀ {vs:List V} {ds:List D},RepDs K H vs ds->ds.all m3=true->vs.all jJ=true/\inV x vs=inD d ds
 | [],[],_,_=>⟨rfl,rfl⟩
 | v::vs,e::ds,hr,fa=>by
  unfold RepDs at hr
  rw[Fs,BP]at fa
  obtain⟨q1,q2⟩:=uW h f hr.2 fa.2
  refine⟨by rw[Fs,mZ hr.1 fa.1,q1];rfl,?_⟩
  unfold inV inD at *
  rw[Dt,Dt,q2,zj hr.1 h fa.1 f]
 | [],d::ds,h,_=>by unfold RepDs at h;exact h.elim
 | v::vs,[],h,_=>by unfold RepDs at h;exact h.elim
theorem jB (neg:Bool):OpOk K (rIn K neg) (gIn neg):=by
 intro F σ ρ H x y r1 r2 q Q a h1 h2 h b
 unfold gIn at h
 split at h
 ·rename_i d ds e1 e2
  obtain⟨⟨f1,f2⟩,h⟩:=h
  have rx:=d4 a h1 e1
  obtain⟨l,vs,rfl,sq,rd⟩:=cT a h2 e2
  obtain⟨q1,q2⟩:=uW rx f1 (rd.same cf) f2
  refine⟨l,vs,rfl,.inl sq,mZ rx f1,q1,?_⟩
  rw[q2]
  exact b.bl a h
 ·rename_i d ds e1 e2
  obtain⟨⟨f1,f2⟩,h⟩:=h
  have rx:=d4 a h1 e1
  obtain⟨l,vs,rfl,sq,rd,_⟩:=ir a h2 e2
  obtain⟨q1,q2⟩:=uW rx f1 (rd.same cf) f2
  refine⟨l,vs,rfl,.inr sq,mZ rx f1,q1,?_⟩
  rw[q2]
  exact b.bl a h
 ·exact h.elim
end
theorem d9 {c:En->Prop}{g:AG}{b:AS}{e:o7}(I:Nat->En->Prop){ds:List D}(hc:∀k ρ,k<=ds.length->I k ρ->c ρ)
  (hs:∀(k:Nat) d ρ (N:En->Prop),ds[k]? = some d->I k ρ->(∀ ρ',I (k+1) ρ'->N ρ')->g d ρ λρ1=>b {nx:=N,ct:=N,bk:=e.nx,rt:=e.rt} ρ1) (hd:∀ ρ,I ds.length ρ->e.nx ρ):∀ ρ,I 0 ρ->forA c g b e ds ρ:=by
 have go:∀(es:List D) (k:Nat),ds.drop k=es->k<=ds.length->∀ ρ,I k ρ->forA c g b e es ρ:=by
  intro es
  induction es with
  | nil =>
   intro k h hk ρ i
   have:ds.length<=k:=EQ.mp h
   have:k=ds.length:=by omega
   subst this
   unfold forA
   exact⟨hc _ ρ (li _) i,hd ρ i⟩
  | cons d es ih =>
   intro k h hk ρ i
   have lt:k<ds.length:=by
    rcases BW k ds.length with q | q
    ·exact q
    ·rw[CF q]at h;cases h
   rw[B_ lt]at h
   injection h with h1 h2
   unfold forA
   exact⟨hc k ρ hk i,hs k d ρ _ (by rw[<- h1];exact bv lt) i (λρ' i'=>ih (k+1) h2 lt ρ' i')⟩
 exact go ds 0 rfl (zn _)
theorem i8 {n:Nat}{js:List Nat}{c:En->Prop}{g:AG}{tc:AT}{te:AE}{q:List D->En->Prop}(I:Nat->List D->En->Prop){ds:List D}(hc:∀k acc ρ,k<=ds.length->I k acc ρ->c ρ)
  (hs:∀(k:Nat) d acc ρ (N:List D->En->Prop),ds[k]? = some d->I k acc ρ->(∀acc' ρ',I (k+1) acc' ρ'->N acc' ρ') ->
   g d (blkE n js ρ) λρ1=>tc ρ1 λb ρ2=>if b=true then te ρ2 λr ρ3=>sto [r.frz] ρ3 λes ρ4=>N (acc++es) (back ρ (js.map R.o) (ρ4.drop n))else N acc (back ρ (js.map R.o) (ρ2.drop n)))
  (hd:∀acc ρ,I ds.length acc ρ->q acc ρ):∀ ρ,I 0 [] ρ->fS n js c g tc te q ds [] ρ:=by
 have go:∀(es:List D) (k:Nat),ds.drop k=es->k<=ds.length->∀acc ρ,I k acc ρ->fS n js c g tc te q es acc ρ:=by
  intro es
  induction es with
  | nil =>
   intro k h hk acc ρ i
   have:ds.length<=k:=EQ.mp h
   have:k=ds.length:=by omega
   subst this
   unfold fS
   exact⟨hc _ acc ρ (li _) i,hd acc ρ i⟩
  | cons d es ih =>
   intro k h hk acc ρ i
   have lt:k<ds.length:=by
    rcases BW k ds.length with q | q
    ·exact q
    ·rw[CF q]at h;cases h
   rw[B_ lt]at h
   injection h with h1 h2
   unfold fS
   exact⟨hc k acc ρ hk i,hs k d acc ρ (λacc' ρ'=>fS n js c g tc te q es acc' ρ') (by rw[<- h1];exact bv lt) i (λacc' ρ' i'=>ih (k+1) h2 lt acc' ρ' i')⟩
 exact go ds 0 rfl (zn _) []
theorem sT {n:Nat}{js:List Nat}{c:En->Prop}{g:AG}{tc:AT}{te:AE}{q:List D->En->Prop}(f:Nat->D->List D){ds:List D}(ρ:En)(hc:c ρ)
  (hs:∀(k:Nat) d acc (N:List D->En->Prop),ds[k]? = some d->N (acc++f k d) ρ ->
   g d (blkE n js ρ) λρ1=>tc ρ1 λb ρ2=>if b=true then te ρ2 λr ρ3=>sto [r.frz] ρ3 λes ρ4=>N (acc++es) (back ρ (js.map R.o) (ρ4.drop n))else N acc (back ρ (js.map R.o) (ρ2.drop n)))
  (hd:q (ds.zipIdx.map λp=>f p.2 p.1).flatten ρ):fS n js c g tc te q ds [] ρ:=by
 refine i8 (λk acc ρ'=>ρ'=ρ/\acc=((ds.take k).zipIdx.map λp=>f p.2 p.1).flatten) (λk acc ρ' _ h=>h.1▸hc) ?_ ?_ ρ ⟨rfl,rfl⟩
 ·rintro k d acc _ N hk ⟨rfl,rfl⟩ hN
  refine hs k d _ N hk (hN _ _ ⟨rfl,?_⟩)
  have lt:=(im.mp hk).1
  rw[CD,hk,DF,List.zipIdx_append,B7,List.flatten_append,B0,EZ (by omega)]
  simp
 ·rintro acc _ ⟨rfl,rfl⟩
  rw[Cf];exact hd
theorem vo {n:Nat}{js:List Nat}{c:En->Prop}{g:AG}{tc:AT}{te:AE}{q:List D->En->Prop}(f:D->D){ds:List D}(ρ:En)(hc:c ρ)
  (hs:∀d acc (N:List D->En->Prop),d∈ds->N (acc++[f d]) ρ ->
   g d (blkE n js ρ) λρ1=>tc ρ1 λb ρ2=>if b=true then te ρ2 λr ρ3=>sto [r.frz] ρ3 λes ρ4=>N (acc++es) (back ρ (js.map R.o) (ρ4.drop n))else N acc (back ρ (js.map R.o) (ρ2.drop n)))
  (hd:q (ds.map f) ρ):fS n js c g tc te q ds [] ρ:=by
 refine sT (λ_ d=>[f d]) ρ hc (λk d acc N hk hN=>hs d acc N (Cb hk) hN) ?_
 have:(ds.zipIdx.map λp=>[f p.1]).flatten=ds.map f:=by
  rw[<- List.flatMap_def,show(ds.zipIdx.flatMap λp=>[f p.1])=(ds.zipIdx.map λp=>f p.1)from by rw[List.map_eq_flatMap]]
  rw[show(λp:D×Nat=>f p.1)=f ∘ BV from rfl,<- B8,List.zipIdx_map_fst]
 rw[this];exact hd
theorem o_ {c:AT}{b:AS}{e:o7}(I:En->Prop)(μ:En->Nat)
  (hs:∀ ρ (N:En->Prop),I ρ->(∀ ρ',I ρ'->μ ρ'<μ ρ->N ρ')->c ρ λk ρ1=>if k=true then b {nx:=N,ct:=N,bk:=e.nx,rt:=e.rt} ρ1 else e.nx ρ1):∀ ρ,I ρ->x3 c b e ρ:=by
 have go:∀(n:Nat) ρ,I ρ->μ ρ<n->whA c b e n ρ:=by
  intro n
  induction n with
  | zero=>intro ρ _ h;omega
  | succ n ih=>intro ρ i h;exact hs ρ _ i λρ' i' lt=>ih ρ' i' (by omega)
 exact λρ i=>⟨μ ρ+1,go _ ρ i (by omega)⟩
section
variable {X:Cx}(K:bi)
def z_ (K:bi):R2:=λx y H Q=>∃a b xs ys,x = .ref a/\y = .ref b/\SqL K H a xs/\SqL K H b ys/\xs.length+ys.length<=1000000/\∀p,H p=none->Q (.ref p) (upd H p (.lst (xs++ys)))
theorem pL (hK:X.K=K:=by rfl):OpR X (Eu .Add) (z_ K):=by
 subst hK
 intro pins s σ H x y v u Q I rx ry h
 obtain⟨a,b,xs,ys,rfl,rfl,ha,hb,hz,q⟩:=h
 cases rx
 cases ry
 obtain⟨its,r1,p1,_⟩:=I.list ha
 obtain⟨its2,r2,p2,_⟩:=I.list hb
 have hz':its.length+its2.length<=wT:=small (by rw[<- r1.length,<- r2.length];exact hz)
 obtain⟨⟨cls,dd,data,sl⟩,ho,hc,n,hd⟩:=p1.isList
 obtain⟨⟨cls2,dd2,data2,sl2⟩,ho2,hc2,n2,hd2⟩:=p2.isList
 simp only at hc hd hc2 hd2
 subst hc hd hc2 hd2
 refine concat_meets ⟨_,ho,rfl⟩ ⟨_,ho2,rfl⟩ noFill_list_add seq_list_add PySem.F.slot_list_add PySem.F.entry_list_add (PySem.F.args_list_add_2 _ _) (list_addW a b its.toArray its2.toArray n n2 dd dd2 sl sl2 (by rw[on,on];exact hz')) ⟨ho,ho2,?_⟩
 refine⟨.ref s.heap.objs.size,_,I.laid (t':=s.toks) (o:=.lst (xs++ys)) (λb ob q=>db _ q) (li _) ?_,rfl,q _ (I.hok.fresh (li _))⟩
 refine⟨by rw[wS];exact small hz,_,0,r1.append r2,?_⟩
 rw[show(its++its2).toArray=its.toArray++its2.toArray by simp]
 exact ww _ rfl
variable {e st:Expr}{te:TE}{ts:TO}{pos p2:Pos}
end
section
variable {K:bi}{ta te:TE}{a ae:AE}{ts:TA}{as:AA}
def gCat:R->R->AE:=λr1 r2 ρ q=>match view ρ r1,view ρ r2 with
 | some (.lst ds),some (.lst es)=>ds.length+es.length<=1000000/\q (.f (ds++es)) ρ
 | _,_=>False
theorem pM:OpOk K (z_ K) gCat:=by
 intro F σ ρ H x y r1 r2 q Q a h1 h2 h b
 unfold gCat at h
 split at h
 ·rename_i ds es e1 e2
  obtain⟨l,vs,rfl,sq,rd⟩:=cT a h1 e1
  obtain⟨l2,vs2,rfl,sq2,rd2⟩:=cT a h2 e2
  exact⟨l,l2,vs,vs2,rfl,rfl,sq,sq2,by rw[rd.length,rd2.length];exact h.1,λp hp=>b.new a h.2 (rd.append rd2) hp⟩
 ·exact h.elim
def BG (a:AE):AE:=λρ q=>a ρ λr ρ1=>match r with
 | .d (.int j)=>(0<=j/\j<=1000000)/\q (.f (ar (sK j.toNat))) ρ1
 | _=>False
theorem vY (ha:TEok K ta a):TEok K (tCB (λxs H Q=>∃(p:Addr) (n:Nat),xs=[.ref p]/\H p=some (.rng 0 (n:Nat))/\n<=1000000/\∀l,H l=none->Q (.ref l) (upd H l (.lst (qb (sK n)))))
  (tV (tCB (λxs H Q=>∃j:Int,xs=[.int j]/\∀p,H p=none->Q (.ref p) (upd H p (.rng 0 j))) (tV ta tNil)) tNil)) (BG a):=by
 intro F σ ρ H q Q r h k
 refine ha F σ ρ H _ _ r h λr1 ρ1 x H1 h1 rel1=>?_
 obtain⟨r',k1,i1⟩:=rel1.inF
 split at h1
 ·rename_i j
  obtain⟨⟨h0,h2⟩,h1⟩:=h1
  obtain⟨n,rfl⟩:=CW h0
  refine⟨_,by rw[i1.int],λp hp=>⟨p,n,rfl,aS,by omega,λl hl=>?_⟩⟩
  have rp:=r'.fresh (o:=.rng 0 (n:Nat)) hp
  refine((k.after k1).after (Kp.fresh hp)).new rp h1 ?_ hl
  rw[Cr]
  exact yt.mpr rfl
 ·exact h1.elim
end
abbrev nD (n:Nat):D:=.int (n:Nat)
abbrev nv (n:Nat):Sv:=.vl (.int (n:Nat))
def ownB (pr:Nat->Bool):En->Nat->Bool
 | [],_=>true
 | s::ss,i=>(!s.own||pr i)&&ownB pr ss (i+1)
theorem pK {pr:Nat->Bool}:∀ {ss:En} {j:Nat},ownB pr ss j=true->∀i,(gt ss i).own=true->pr (j+i)=true
 | [],_,_,i,h=>by cases h
 | s::ss,j,hb,0,h=>by
  simp only[ownB,BP,ET,CL]at hb
  rcases hb.1 with q | q
  ·rw[show(gt (s::ss) 0)=s from rfl,q]at h;cases h
  ·exact q
 | s::ss,j,hb,i+1,h=>by
  simp only[ownB,BP]at hb
  have:=pK hb.2 i h
  rwa [show j+1+i=j+(i+1)by omega]at this
theorem DefN.aok2 {P:wE}{w:B2}{K:bi}{mg:Str->Option bn}{base:Heap}{x:Str}{st:Stmt}{N ps:List Str}{k:Nat}{a:AS}(D:DefN K mg x st ps)(Sc:aQ N ps (aw st))(pr:Nat->Bool)(us:En)(S:ASp)(hus:pc (N.length - ps.length) Sv.un=us)
  (hbody:∀(f:Addr) (cdv:bn) (A:Ca) (outer:List Env) (s:ca) (H:Hp) (E:XK),Room k (A.deeper (EU x (aw st) s.heap.objs.size f cdv)) ->
   ∃t,PSs (cxOf CX0 P w K mg base N x (aw st) f cdv A outer s H E).nox (bI st) t/\TSok K pr t a)
  (hS:∀ss q,S ss q->ss.length=ps.length/\ownB pr ss 0=true/\a ⟨λρ=>q (.d .non) (outS ss ρ),λr ρ=>fin pr r ρ λr' ρ'=>q r' (outS ss ρ'),λ_=>False,λ_=>False⟩ (ss++us)):OkN P w K mg base (k+1) x ps (spA K S) :=
 D.aok Sc pr S hbody λss q h=>⟨(hS ss q h).1,λi hi=>by have:=pK (hS ss q h).2.1 i hi;rwa [CU]at this,by rw[hus];exact(hS ss q h).2.2⟩
theorem qW {lo:Int}{n k:Nat}{d:D}(h:(rngD lo n)[k]? = some d):k<n/\d = .int (lo+k):=by
 unfold rngD at h
 rw[wn]at h
 obtain⟨j,e1,e2⟩:=BR.mp h
 have lt:k<n:=by
  rcases BW k n with q | q
  ·exact q
  ·rw[Dq (by simpa using q)]at e1;cases e1
 rw[E3 lt]at e1
 cases e1
 exact⟨lt,e2.symm⟩
abbrev yb (n:Nat)(js:List Nat)(g:AG)(tc:AT)(te:AE)(ρ:En)(d:D)(acc:List D)(N:List D->En->Prop):Prop :=
 g d (blkE n js ρ) λρ1=>tc ρ1 λb ρ2=>if b=true then te ρ2 λr ρ3=>sto [r.frz] ρ3 λes ρ4=>N (acc++es) (back ρ (js.map R.o) (ρ4.drop n))else N acc (back ρ (js.map R.o) (ρ2.drop n))
section
variable {n:Nat}{js:List Nat}{c:En->Prop}{g:AG}{tc:AT}{te:AE}{q:List D->En->Prop}
theorem i7 {lo:Int}{m:Nat}(f:Nat->D){ρ:En}(hc:c ρ)(hs:∀k acc (N:List D->En->Prop),k<m->N (acc++[f k]) ρ->yb n js g tc te ρ (.int (lo+k)) acc N)
  (hd:q ((sK m).map f) ρ):fS n js c g tc te q (rngD lo m) [] ρ:=by
 refine i8 (λk acc ρ'=>k<=m/\ρ'=ρ/\acc=(sK k).map f) (λk acc ρ' _ h=>h.2.1▸hc) ?_ ?_ ρ ⟨zn _,rfl,rfl⟩
 ·rintro k d acc _ N hk ⟨_,rfl,rfl⟩ hN
  obtain⟨lt,rfl⟩:=qW hk
  refine hs k _ N lt (hN _ _ ⟨lt,rfl,?_⟩)
  rw[DC,B7];rfl
 ·rintro acc _ ⟨_,rfl,rfl⟩
  rw[eV];exact hd
theorem kT {α:Type}(h:α->D)(f:α->D){xs:List α}{ρ:En}(hc:c ρ)(hs:∀x acc (N:List D->En->Prop),x∈xs->N (acc++[f x]) ρ->yb n js g tc te ρ (h x) acc N)
  (hd:q (xs.map f) ρ):fS n js c g tc te q (xs.map h) [] ρ:=by
 refine i8 (λk acc ρ'=>ρ'=ρ/\acc=(xs.take k).map f) (λk acc ρ' _ h=>h.1▸hc) ?_ ?_ ρ ⟨rfl,rfl⟩
 ·rintro k d acc _ N hk ⟨rfl,rfl⟩ hN
  rw[wn]at hk
  obtain⟨x,e1,rfl⟩:=BR.mp hk
  refine hs x _ N (Cb e1) (hN _ _ ⟨rfl,?_⟩)
  rw[CD,e1,DF,B7];rfl
 ·rintro acc _ ⟨rfl,rfl⟩
  rw[f8,Cf];exact hd
end
section
variable {c:En->Prop}{g:AG}{b:AS}{e:o7}
theorem mY {lo:Int}{m:Nat}(I:Nat->En->Prop)(hc:∀k ρ,I k ρ->c ρ)(hs:∀(k:Nat) ρ (N:En->Prop),k<m->I k ρ->(∀ ρ',I (k+1) ρ'->N ρ')->g (.int (lo+k)) ρ λρ1=>b {nx:=N,ct:=N,bk:=e.nx,rt:=e.rt} ρ1)
  (hd:∀ ρ,I m ρ->e.nx ρ) {ρ:En} (h0:I 0 ρ):forA c g b e (rngD lo m) ρ:=by
 refine d9 I (λk ρ _ h=>hc k ρ h) (λk d ρ N hk h hN=>?_) (λρ h=>hd ρ (by rwa [eV]at h)) ρ h0
 obtain⟨lt,rfl⟩:=qW hk
 exact hs k ρ N lt h hN
theorem iZ {α:Type}(h:α->D){xs:List α}(I:Nat->En->Prop)(hc:∀k ρ,I k ρ->c ρ)(hs:∀(k:Nat) x ρ (N:En->Prop),xs[k]? = some x->I k ρ->(∀ ρ',I (k+1) ρ'->N ρ')->g (h x) ρ λρ1=>b {nx:=N,ct:=N,bk:=e.nx,rt:=e.rt} ρ1)
  (hd:∀ ρ,I xs.length ρ->e.nx ρ) {ρ:En} (h0:I 0 ρ):forA c g b e (xs.map h) ρ:=by
 refine d9 I (λk ρ _ h=>hc k ρ h) (λk d ρ N hk h' hN=>?_) (λρ h=>hd ρ (by rwa [f8]at h)) ρ h0
 rw[wn]at hk
 obtain⟨x,e1,rfl⟩:=BR.mp hk
 exact hs k x ρ N e1 h' hN
end
theorem xr {xs:List Nat}{i:Nat}(h:i<xs.length):atI (ar xs) ((i:Nat):Int)=some (.int (xs.getD i 0:Nat)):=by
 refine eQ ?_
 unfold ar
 rw[wn,bv h]
 simp[h]
theorem bz {r1:R}{ρ:En}{q:Ko}{xs:List Nat}{i:Nat}(hv:view ρ r1=some (.lst (ar xs)))(h:i<xs.length)(hq:q (.d (.int (xs.getD i 0:Nat))) ρ):gIx r1 (.d (.int (i:Nat))) ρ q:=by
 unfold gIx
 rw[hv]
 simp only[xr h]
 exact hq
theorem cm {neg:Bool}{r1 r2:R}{ρ:En}{q:Ko}{d e:D}{b:Bool}(h1:view ρ r1=some d)(h2:view ρ r2=some e)(hd:d.depth<=60)(hb:eqD d e=b)(hq:q (.d (.bl (if neg then !b else b))) ρ):gEq neg r1 r2 ρ q:=by
 unfold gEq
 rw[h1,h2]
 subst hb
 exact⟨hd,hq⟩
theorem qr (ns:List Int):depths (ns.map D.int)=0:=by
 induction ns with
 | nil=>simp[depths]
 | cons n ns ih=>rw[wl];unfold depths;rw[ih];simp[D.depth]
theorem qq (ns:List Nat):(D.lst (ar ns)).depth<=60:=by
 have:ar ns=(ns.map λ(n:Nat)=>(n:Int)).map D.int:=by unfold ar;simp
 rw[this];unfold D.depth;rw[qr];decide
theorem e_ {r1:R}{ρ:En}{q:Ko}{ds:List D}{i:Int}{d:D}(hv:view ρ r1=some (.tup ds))(h:atI ds i=some d)(hq:q (.d d) ρ):gIx r1 (.d (.int i)) ρ q:=by
 unfold gIx
 rw[hv]
 simp only[h]
 exact hq
theorem AW {r1:R}{ρ:En}{q:Ko}{ds:List D}{i:Int}{d:D}(hv:view ρ r1=some (.lst ds))(h:atI ds i=some d)(hq:q (.d d) ρ):gIx r1 (.d (.int i)) ρ q:=by
 unfold gIx
 rw[hv]
 simp only[h]
 exact hq
theorem c0 {r:R}{ρ:En}{q:Ko}{d:D}{n:String}{b:Bool}(hv:view ρ r=some d)(h:isaT (tyD d) n=some b)(hq:q (.d (.bl b)) ρ):gIsa [r,.t n] ρ q:=by
 unfold gIsa
 simp only[hv,h]
 exact hq
theorem ze {r:R}{ρ:En}{q:Ko}{bs:List Bool}(hv:view ρ r=some (.lst (bs.map D.bl)))(hq:q (.d (.bl (bs.all id))) ρ):gAll [r] ρ q:=by
 unfold gAll
 simp only[hv,vB]
 exact hq
def du (lo hi:Int):D->Bool
 | .int i=>decide (lo<=i)&&decide (i<=hi)
 | _=>false
def tupB (lo hi:Int):D->Bool
 | .tup ds=>decide (lo<=(ds.length:Int))&&decide ((ds.length:Int)<=hi)
 | _=>false
def Bj (rows:List Nat)(a b:Int):Nat:=rows.getD a.toNat 0 ^^^ rows.getD b.toNat 0
def hV (rows:List Nat):D->Bool
 | .tup [.int a,.int b]=>decide (0<=a)&&decide (a<=(rows.length:Int) - 1)&&(decide (0<=b)&&decide (b<=(rows.length:Int) - 1))&&decide (a<b)&&(rows.getD a.toNat 0 != rows.getD b.toNat 0)
 | _=>false
def v_ (rows:List Nat):D->List Nat
 | .tup [.int a,.int b]=>rows++[Bj rows a b]
 | _=>rows
def iU:List Nat->List D->Bool
 | _,[]=>true
 | rows,d::ds=>hV rows d&&iU (v_ rows d) ds
def dN (m:Nat):D->Bool
 | .tup ds=>decide (ds.length<=132)&&iU (az m) ds
 | _=>false
def fX (n:Nat):D->Bool
 | .tup ds=>decide (1<=ds.length)&&decide (ds.length<=24)&&ds.all (du 0 ((n:Int) - 1))
 | _=>false
def lenT:D->Nat
 | .tup ds=>ds.length
 | _=>0
def netB:D->Bool
 | .tup [m,js,os]=>(match m with
  | .int i=>decide (1<=i)&&decide (i<=12)&&dN i.toNat js&&fX (i.toNat+lenT js) os
  | _=>false)
 | _=>false
theorem je {lo hi:Int}{d:D}(h:du lo hi d=true):∃i,d = .int i/\lo<=i/\i<=hi:=by
 cases d with
 | int i=>simp[du]at h;exact⟨i,rfl,h⟩
 | non=>cases h
 | bl _=>cases h
 | str _=>cases h
 | tup _=>cases h
 | lst _=>cases h
theorem jN {lo hi:Int}{d:D}(h:tupB lo hi d=true):∃ds,d = .tup ds/\lo<=(ds.length:Int)/\(ds.length:Int)<=hi:=by
 cases d with
 | tup i=>simp[tupB]at h;exact⟨i,rfl,h⟩
 | non=>cases h
 | bl _=>cases h
 | str _=>cases h
 | int _=>cases h
 | lst _=>cases h
theorem vV {d:D}(h:tupB 2 2 d=true):∃x y,d = .tup [x,y]:=by
 obtain⟨ds,rfl,h1,h2⟩:=jN h
 have:ds.length=2:=by omega
 match ds,this with
 | [x,y],_=>exact⟨x,y,rfl⟩
theorem vU {d:D}(h:tupB 3 3 d=true):∃x y z,d = .tup [x,y,z]:=by
 obtain⟨ds,rfl,h1,h2⟩:=jN h
 have:ds.length=3:=by omega
 match ds,this with
 | [x,y,z],_=>exact⟨x,y,z,rfl⟩
theorem uQ {rows:List Nat}{d:D}(h:tupB 2 2 d=false):hV rows d=false:=by
 unfold hV
 split
 ·simp[tupB]at h
 ·rfl
theorem y3 {rows:List Nat}{x y:D}(h:du 0 ((rows.length:Int) - 1) x=false):hV rows (.tup [x,y])=false:=by
 cases x with
 | int i=>cases y with
  | int j=>simp only[du]at h;simp only[hV,h,DY]
  | _=>rfl
 | _=>rfl
theorem y2 {rows:List Nat}{x y:D}(h:du 0 ((rows.length:Int) - 1) y=false):hV rows (.tup [x,y])=false:=by
 cases x with
 | int i=>cases y with
  | int j=>simp only[du]at h;simp only[hV,h,DY,FX]
  | _=>rfl
 | _=>rfl
theorem lenD (rows:List Nat):((ar rows).length:Int)=rows.length:=by rw[f8]
theorem cutS {A B:AS}{e:o7}{ρ:En}(P:En->Prop)(h1:∀N:En->Prop,(∀ ρ',P ρ'->N ρ')->A {e with nx:=N} ρ)(h2:∀ ρ',P ρ'->B e ρ'):aSeq A B e ρ:=h1 (B e) h2
theorem oY {m:Nat}{d:D}(h:tupB 0 132 d=false):dN m d=false:=by
 cases d with
 | tup ds=>simp[tupB]at h;simp[dN];intro h';omega
 | _=>rfl
theorem qC {n:Nat}{d:D}(h:tupB 1 24 d=false):fX n d=false:=by
 cases d with
 | tup ds =>
  simp only[tupB,Bool.and_eq_false_iff,decide_eq_false_iff_not]at h
  simp only[fX]
  rcases h with h | h
  ·rw[decide_eq_false (p:=1<=ds.length) (by omega)];rfl
  ·rw[decide_eq_false (p:=ds.length<=24) (by omega)];simp
 | _=>rfl
theorem wN {d:D}(h:tupB 3 3 d=false):netB d=false:=by
 unfold netB
 split
 ·simp[tupB]at h
 ·rfl
theorem Bq {x:Int}{n:Nat}(h:x=(n:Nat)):Sv.vl (.int x)=nv n:=by rw[h]
theorem xorD (a b:Nat):D.int (Et (a:Int) (b:Int))=nD (a ^^^ b):=by rw[l9]
theorem minI (a b:Nat):(if(b:Int)<(a:Int)then(b:Int)else(a:Int))=((min a b:Nat):Int):=by split <;> omega
theorem maxI (a b:Nat):(if(b:Int) > (a:Int)then(b:Int)else(a:Int))=((max a b:Nat):Int):=by split <;> omega
def Bs (s:Sv)(ds:List D):Prop:=s = .ow ds∨s = .vl (.lst ds)
def jb:ASp:=λss q=>∃(d:D) (lo hi:Int),ss=[.vl d,.vl (.int lo),.vl (.int hi)]/\q (.d (.bl (du lo hi d))) [.vl d,.vl (.int lo),.vl (.int hi)]
def g_:ASp:=λss q=>∃(d:D) (lo hi:Int),ss=[.vl d,.vl (.int lo),.vl (.int hi)]/\q (.d (.bl (tupB lo hi d))) [.vl d,.vl (.int lo),.vl (.int hi)]
def qF:ASp:=λss q=>∃(s0:Sv) (rows:List Nat) (d:D),ss=[s0,.vl d]/\Bs s0 (ar rows)/\q (.d (.bl (hV rows d))) [s0,.vl d]
def kX:ASp:=λss q=>∃(m:Nat) (d:D),ss=[nv m,.vl d]/\m<=12/\q (.d (.bl (dN m d))) [nv m,.vl d]
def nA:ASp:=λss q=>∃(n:Nat) (d:D),ss=[nv n,.vl d]/\q (.d (.bl (fX n d))) [nv n,.vl d]
def vK:ASp:=λss q=>∃(d:D),ss=[.vl d]/\q (.d (.bl (netB d))) [.vl d]
theorem dC (xs:List Nat)(x:Nat):ar (xs++[x])=ar xs++[nD x]:=by unfold ar;rw[B7];rfl
theorem g5 (rows:List Nat)(p:Nat×Nat):ar (aL rows p)=ar rows++[nD (rows.getD p.1 0 ^^^ rows.getD p.2 0)]:=dC _ _
def il:ASp:=λss q=>∃x y:Nat,ss=[nv x,nv y]/\q (.d (nD (x ^^^ y))) [nv x,nv y]
def SOwn:ASp:=λss q=>∃m:Nat,ss=[nv m]/\m<=1000/\q (.f (ar (az m))) [nv m]
def SAll:ASp:=λss q=>∃(N:Net) (ws:List Nat),ss=[.vl (netD N),.vl (.lst (ar ws))]/\okIx ws.length N.js/\ws.length+N.js.length<=1000/\q (.f (ar (N.js.foldl aL ws))) [.vl (netD N),.vl (.lst (ar ws))]
def qE:ASp:=λss q=>∃N:Net,ss=[.vl (netD N)]/\okIx N.m N.js/\N.m+N.js.length<=1000/\q (.f (ar (a7 N))) [.vl (netD N)]
theorem oq:∀ {js:List (Nat×Nat)} {rows:List Nat},okJs rows js->iU rows (js.map bQ)=true
 | [],_,_=>rfl
 | p::r,rows,h=>by
  obtain⟨h1,h2,h3,h4⟩:=h
  have ih:=oq h4
  rw[wl]
  show(hV rows (bQ p)&&iU (v_ rows (bQ p)) (r.map bQ))=true
  rw[show v_ rows (bQ p)=aL rows p from rfl,ih,HJ]
  show(decide (0<=(p.1:Int))&&decide ((p.1:Int)<=(rows.length:Int) - 1)&&(decide (0<=(p.2:Int))&&decide ((p.2:Int)<=(rows.length:Int) - 1))&&decide ((p.1:Int)<(p.2:Int))&&(rows.getD (p.1:Int).toNat 0 != rows.getD (p.2:Int).toNat 0))=true
  rw[decide_eq_true (show 0<=(p.1:Int)by omega),decide_eq_true (show(p.1:Int)<=(rows.length:Int) - 1 by omega),decide_eq_true (show 0<=(p.2:Int)by omega),decide_eq_true (show(p.2:Int)<=(rows.length:Int) - 1 by omega),decide_eq_true (show(p.1:Int)<(p.2:Int)by omega)]
  simpa using h3
theorem yQ {N:Net}(h:jd N):netB (netD N)=true:=by
 show(decide (1<=(N.m:Int))&&decide ((N.m:Int)<=12)&&dN (N.m:Int).toNat (.tup (N.js.map bQ))&&fX ((N.m:Int).toNat+(N.js.map bQ).length) (.tup (ar N.os)))=true
 have h1:=h.m1
 have h2:=h.m12
 have h3:=h.jl
 have h4:=h.o1
 have h5:=h.o24
 rw[decide_eq_true (show 1<=(N.m:Int)by omega),decide_eq_true (show(N.m:Int)<=12 by omega),Cr]
 simp only[dN,fX,f8,Du]
 rw[oq h.js,decide_eq_true h3,decide_eq_true h4,decide_eq_true h5]
 simp only[Du,JZ,DG]
 intro o ho
 have:=h.os o ho
 show(decide (0<=(o:Int))&&decide ((o:Int)<=((N.m+N.js.length:Nat):Int) - 1))=true
 rw[decide_eq_true (show 0<=(o:Int)by omega),decide_eq_true (show(o:Int)<=((N.m+N.js.length:Nat):Int) - 1 by omega)]
 rfl
structure DefM (K:bi)(C:Addr)(m qual:Str)(st:Stmt)(ps:List Str):Prop where
 ex:∃f fd,Meth K C m f/\Fun K m qual st f fd/\∀us:List bn,us.length=ps.length->Ia fd ⟨us,[]⟩=pure (ps.zip us)
structure OkM (P:wE)(w:B2)(K:bi)(mg:Str->Option bn)(base:Heap)(k:Nat)(C:Addr)(m:Str)(ps:List Str)(sp:Sp):Prop where
 ex:∃f fd,Meth K C m f/\kZ K fd ps []/\FnOk P w K mg base CX0 k f fd ps sp
theorem DefM.ok {P:wE}{w:B2}{K:bi}{mg:Str->Option bn}{base:Heap}{C:Addr}{m qual:Str}{st:Stmt}{N ps:List Str}{k:Nat}{sp:Sp}(D:DefM K C m qual st ps)(S:aQ N ps (aw st))(len:∀vs H Q E,sp vs H Q E->vs.length=ps.length)
  (hbody:∀(f:Addr) (cdv:bn) (A:Ca) (outer:List Env) (s:ca) (H:Hp) (vs:List V) (Q:VK) (E:XK),Room k (A.deeper (EU qual (aw st) s.heap.objs.size f cdv))->sp vs H Q E ->
   ∃t,PSs (cxOf CX0 P w K mg base N qual (aw st) f cdv A outer s H E).nox (bI st) t/\t {nx:=λ_ H'=>Q .non H',rt:=Q} (start N vs) H):OkM P w K mg base (k+1) C m ps sp:=by
 obtain⟨f,fd,hm,F,hb⟩:=D.ex
 exact⟨f,fd,hm,.all hb,F.ok S len λcdv A outer s H vs Q E hr h=>hbody f cdv A outer s H vs Q E hr h⟩
theorem DefM.aok2 {P:wE}{w:B2}{K:bi}{mg:Str->Option bn}{base:Heap}{C:Addr}{m qual:Str}{st:Stmt}{N ps:List Str}{k:Nat}{a:AS}(D:DefM K C m qual st ps)(Sc:aQ N ps (aw st))(pr:Nat->Bool)(us:En)(S:ASp)(hus:pc (N.length - ps.length) Sv.un=us)
  (hbody:∀(f:Addr) (cdv:bn) (A:Ca) (outer:List Env) (s:ca) (H:Hp) (E:XK),Room k (A.deeper (EU qual (aw st) s.heap.objs.size f cdv)) ->
   ∃t,PSs (cxOf CX0 P w K mg base N qual (aw st) f cdv A outer s H E).nox (bI st) t/\TSok K pr t a)
  (hS:∀ss q,S ss q->ss.length=ps.length/\ownB pr ss 0=true/\a ⟨λρ=>q (.d .non) (outS ss ρ),λr ρ=>fin pr r ρ λr' ρ'=>q r' (outS ss ρ'),λ_=>False,λ_=>False⟩ (ss++us)):OkM P w K mg base (k+1) C m ps (spA K S):=by
 have hS':∀ss q,S ss q->ss.length=ps.length/\yG pr ss/\a ⟨λρ=>q (.d .non) (outS ss ρ),λr ρ=>fin pr r ρ λr' ρ'=>q r' (outS ss ρ'),λ_=>False,λ_=>False⟩ (ss++pc (N.length - ps.length) .un) :=
  λss q h=>⟨(hS ss q h).1,λi hi=>by have:=pK (hS ss q h).2.1 i hi;rwa [CU]at this,by rw[hus];exact(hS ss q h).2.2⟩
 exact D.ok Sc (qD λss q h=>(hS ss q h).1) λf cdv A outer s H vs Q E hr h=>rQ pr S (hbody f cdv A outer s H E hr) hS' h
theorem e9 {K:bi}{C:Addr}{m qual:Str}{st:Stmt}{ps:List Str}{f:Addr}{oc:bn}{od an:Option Addr}{osl:Array (Option bn)}{kV doc pm cdv ct:bn}
  (a:BY K (.ref C) m=some (some (.ref f))) (l:K.lookup f=some ⟨oc,od,.func (CA m qual (cF st) (bI st) (aw st) .none kV doc pm an cdv ct),osl⟩)
  (c:CG K cdv qual=true) (k:Ci K (.ref f)=true) (n:C6 K (.ref f)=true)
  (hb:∀(kV doc pm:bn) (an:Option Addr) (cdv ct:bn) (us:List bn),us.length=ps.length->Ia (CA m qual (cF st) (bI st) (aw st) .none kV doc pm an cdv ct) ⟨us,[]⟩=pure (ps.zip us)):DefM K C m qual st ps :=
 ⟨f,_,⟨a,n,k⟩,xX l c k,λus hl=>hb kV doc pm an cdv ct us hl⟩
section
variable {X:Cx}{k:Nat}{C:Addr}{m:Str}{ps:List Str}{sp:Sp}{p pos apos:Pos}{e o:Expr}{es:List Expr}{ta:TE}{t:TA}
theorem yy {pl:Sem Bool}(F:OkM X.prog X.w X.K X.mg X.base k C m ps sp)(c:Cls X.K C)(hr:Room k X.A)(he:PE X o ta)(ha:PA X (e::es) t)
  (hst:B1 (e::es) X.env=(false,eval e X.env)::B1 es X.env:=by rfl) (hpl:(D6 pos (B1 es X.env)).any (·.1)=false:=by rfl)
  (ht:eval (.Call (.Attribute o m apos) (e::es) [] pos) X.env=(do
   let ov <- eval o X.env
   Eg apos.atName
   let (f,first) <- Gz [ov] (GA ov m pl)
   Jj pos f first (D6 pos (B1 (e::es) X.env)) (Gp pos (E_ [] X.env))):=by rfl) :
  PE X (.Call (.Attribute o m apos) (e::es) [] pos) (tS C m sp [] E0 ta t):=by
 obtain⟨f,fd,hm,hb,F⟩:=F.ex
 exact yz he c hm F hr hb .nil wD ha hst hpl ht
theorem ri {pl:Sem Bool}(F:OkM X.prog X.w X.K X.mg X.base k C m ps sp)(c:Cls X.K C)(hr:Room k X.A)(he:PE X o ta)
  (ht:eval (.Call (.Attribute o m apos) [] [] pos) X.env=(do
   let ov <- eval o X.env
   Eg apos.atName
   let (f,first) <- Gz [ov] (GA ov m pl)
   Jj pos f first (D6 pos (B1 [] X.env)) (Gp pos (E_ [] X.env))):=by rfl) :
  PE X (.Call (.Attribute o m apos) [] [] pos) (tS C m sp [] E0 ta tNil):=by
 obtain⟨f,fd,hm,hb,F⟩:=F.ex
 exact wy he c hm F hr hb .nil wD ht
end
def tZ (C:Addr)(ns:List Str):Sp:=λvs H Q _=>∃x dx us,vs = .ref x::us/\us.length=ns.length/\H x=some (.ins C dx [])/\Q .non (upd H x (.ins C dx (ns.zip us)))
structure NewC (P:wE)(w:B2)(K:bi)(mg:Str->Option bn)(base:Heap)(C:Addr)(x:Str)(ns:List Str):Prop where
 ex:∃f fd,mg x=some (.ref C)/\Mk K C f/\kZ K fd ("self" :: ns) []/\FnOk P w K mg base CX0 1 f fd ("self" :: ns) (tZ C ns)
theorem xO {X:Cx}{C:Addr}{x:Str}{ns:List Str}{p pos:Pos}{e:Expr}{es:List Expr}{t:TA}(N:NewC X.prog X.w X.K X.mg X.base C x ns)(hr:Room 2 X.A)(ha:PA X (e::es) t)(hg:Gl X x:=by rfl)
  (hdb:(x==("__debug__" : Str))=false:=by decide) (he:B1 (e::es) X.env=(false,eval e X.env)::B1 es X.env:=by rfl) (hpl:(D6 pos (B1 es X.env)).any (·.1)=false:=by rfl) :
  PE X (.Call (.Name x p) (e::es) [] pos) (yh C (tZ C ns) [] E0 t):=by
 obtain⟨f,fd,hm,M,hb,F⟩:=N.ex
 exact yA M F hr hg hm hb .nil wD ha hdb he hpl
def obR (ρ:En):R->Option (Addr×List (Str×D))
 | .x (.ob C fs)=>some (C,fs)
 | .o i=>(match gt ρ i with | .ob C fs=>some (C,fs) | _=>none)
 | _=>none
def aFld (C:Addr)(f:Str)(a:AE):AE:=λρ q=>a ρ λr ρ1=>match obR ρ1 r.frz with
 | some (C',fs)=>C'=C/\∃d,fs.lookup f=some d/\q (.d d) ρ1
 | none=>False
def BF (C:Addr)(m:Str)(S:ASp)(a:AE)(as:AA):AE:=λρ q=>a ρ λr ρ1=>match obR ρ1 r.frz with
 | some (C',fs)=>C'=C/\fs.lookup m=none/\as ρ1 λrs ρ2=>dis (r.frz::rs)=true/\S ((r.frz::rs).map (c_ ρ2)) λr' ss'=>q r' (back ρ2 (r.frz::rs) ss')
 | none=>False
def aNew (C:Addr)(ns:List Str)(as:AA):AE:=λρ q=>as ρ λrs ρ1=>sto rs ρ1 λds ρ2=>ds.length=ns.length/\q (.x (.ob C (ns.zip ds))) ρ2
section
variable {K:bi}{F:Fr}{σ:St}{ρ ρ':En}{H H':Hp}{v:V}{r:R}{C:Addr}{fs:List (Str×D)}{f m:Str}{ta:TE}{a:AE}{ts:TA}{as:AA}
theorem Al (a:Rel K F σ ρ H)(h:InF K F σ ρ H v r)(e:obR ρ r=some (C,fs)):∃p dx ks,v = .ref p/\H p=some (.ins C dx ks)/\ks.map BV=fs.map BV/\RepDs K (hid H (hs F σ ρ)) (ks.map Ce) (fs.map Ce):=by
 unfold obR at e
 split at e
 ·injection e with e
  injection e with e1 e2
  subst e1;subst e2
  obtain⟨_,p,dx,ks,e1,e2,e3,e4⟩:=h
  injection e1 with e1;injection e1 with e1
  exact⟨p,dx,ks,e1,(g8.mp e2).2,e3,e4⟩
 ·rename_i i
  split at e
  ·rename_i C' fs' hg
   injection e with e
   injection e with e1 e2
   subst e1;subst e2
   have q:=a.sl i
   rw[hg,show σ[i]? = _ from h]at q
   obtain⟨p,dx,ks,e1,e2,e3,e4⟩:=q
   injection e1 with e1;injection e1 with e1
   exact⟨p,dx,ks,e1,(g8.mp e2).2,e3,e4⟩
  ·cases e
 ·cases e
theorem xS {Hh:Hp}{f:Str}{d:D}:∀ {ks:List (Str×V)} {fs:List (Str×D)},ks.map BV=fs.map BV->RepDs K Hh (ks.map Ce) (fs.map Ce)->fs.lookup f=some d->∃v,ks.lookup f=some v/\RepD K Hh v d
 | [],[],_,_,h=>by cases h
 | (k,v)::ks,(g,d')::fs,e,r,h=>by
  simp only[wl,ED]at e
  obtain⟨e1,e2⟩:=e
  simp only[wl]at r
  unfold RepDs at r
  subst e1
  simp only[Ee]at h ⊢
  split at h
  ·rename_i q;cases h;exact⟨v,rfl,r.1⟩
  ·rename_i q;exact xS e2 r.2 h
 | [],_::_,e,_,_=>by cases e
 | _::_,[],e,_,_=>by cases e
theorem uJ {f:Str}:∀ {ks:List (Str×V)} {fs:List (Str×D)},ks.map BV=fs.map BV->fs.lookup f=none->ks.lookup f=none
 | [],[],_,_=>rfl
 | (k,v)::ks,(g,d')::fs,e,h=>by
  simp only[wl,ED]at e
  obtain⟨e1,e2⟩:=e
  subst e1
  simp only[Ee]at h ⊢
  split at h
  ·cases h
  ·rename_i q;exact uJ e2 h
 | [],_::_,e,_=>by cases e
 | _::_,[],e,_=>by cases e
theorem cv (c:Cls K C)(n:jc K C f)(ha:TEok K ta a):TEok K (tFld K ta f) (aFld C f a):=by
 intro F σ ρ H q Q r h b
 refine ha F σ ρ H _ _ r h λr1 ρ1 v H1 h1 o=>?_
 obtain⟨rr,kp,i1⟩:=o.inF
 split at h1
 ·rename_i C' fs e
  obtain⟨rfl,d,l,hq⟩:=h1
  obtain⟨p,dx,ks,rfl,e2,e3,e4⟩:=Al rr i1 e
  obtain⟨y,l2,ry⟩:=xS e3 e4 l
  exact⟨p,C',dx,ks,y,rfl,e2,c,n,l2,(b.after kp).dat rr hq ry⟩
 ·exact h1.elim
theorem fD {S:ASp}{E:XK}(ha:TEok K ta a)(hs':TAok K ts as):TEok K (tS C m (spA K S) [] E ta ts) (BF C m S a as):=by
 intro F σ ρ H q Q r h b
 refine ha F σ ρ H _ _ r h λr1 ρ1 v H1 h1 o=>?_
 obtain⟨rr,kp,i1⟩:=o.inF
 split at h1
 ·rename_i C' fs e
  obtain⟨rfl,l,hq⟩:=h1
  obtain⟨p,dx,ks,rfl,e2,e3,e4⟩:=Al rr i1 e
  refine⟨p,dx,ks,rfl,e2,uJ e3 l,?_⟩
  refine hs' F σ ρ1 H1 _ _ rr hq λrs ρ2 vs H2 h2 r2 i2 k2=>?_
  obtain⟨hd,hS⟩:=h2
  have s:=(InFs.cons (i1.keep k2) i2).srcs
  have k:=(b.after kp).after k2
  rw[B5]
  refine⟨(r1.frz::rs).map (c_ ρ2),(dU F σ ρ2 H2 ((V.ref p::vs).map some) ((r1.frz::rs).map (c_ ρ2))).Z,_,r2.sub s hd,hS,λrr' ss' v H' hq sb no out=>?_⟩
  refine k rr' (back ρ2 (r1.frz::rs) ss') v H' hq ?_
  cases rr' with
  | o i=>exact absurd rfl (no i)
  | d d =>
   obtain⟨a,b⟩:=out
   obtain⟨x,y,z⟩:=r2.back s hd a sb
   exact⟨x,y,RepD.same b z⟩
  | x sv =>
   obtain⟨a,b,c⟩:=out
   obtain⟨x,y,z⟩:=r2.back s hd a sb
   exact⟨x,y,b,c.keep z λl o ho=>by rw[b]at ho;cases ho⟩
  | t n =>
   obtain⟨a,b⟩:=out
   obtain⟨x,y,z⟩:=r2.back s hd a sb
   exact⟨x,y,b⟩
  | n sv =>
   obtain⟨Hb,l,o,a,b,c,e1,e2,e3⟩:=out
   obtain⟨x,y,z⟩:=r2.back s hd a sb
   exact⟨Hb,l,o,x,y,b,c.keep z λ_ _ _ _ e=>e,e1,e2,e3⟩
 ·exact h1.elim
theorem o9 {α β:Type}:∀ {ns:List α} {us:List β},us.length=ns.length->(ns.zip us).map BV=ns
 | [],[],_=>rfl
 | n::ns,u::us,h=>by simp[o9 (ns:=ns) (us:=us) (by simpa using h)]
 | [],_::_,h=>by cases h
 | _::_,[],h=>by cases h
theorem o8 {α β:Type}:∀ {ns:List α} {us:List β},us.length=ns.length->(ns.zip us).map Ce=us
 | [],[],_=>rfl
 | n::ns,u::us,h=>by simp[o8 (ns:=ns) (us:=us) (by simpa using h)]
 | [],_::_,h=>by cases h
 | _::_,[],h=>by cases h
theorem tz {ns:List Str}{E:XK}(hs':TAok K ts as):TEok K (yh C (tZ C ns) [] E ts) (aNew C ns as):=by
 intro F σ ρ H q Q r h b
 refine hs' F σ ρ H _ _ r h λrs ρ1 vs H1 h1 r1 i1 k1=>?_
 obtain⟨ds,ρ2,⟨hl,hq⟩,r2,k2,rd⟩:=gj r1 i1 h1
 intro x dx hx hdx ne
 rw[B5]
 have lv:vs.length=ns.length:=by rw[<- hl];exact RepDs.length rd
 refine⟨x,dx,vs,rfl,lv,aS,?_⟩
 refine⟨rfl,?_⟩
 rw[jf]
 have hx2:upd H1 dx (.own x) x=none:=by rw[aR (Dk ne)];exact hx
 have ra:=r2.fresh (o:=.own x) hdx
 have ka:Kp σ ρ2 ρ2 H1 (upd H1 dx (.own x)):=Kp.fresh hdx
 have rb:=ra.fresh (o:=.ins C dx (ns.zip vs)) hx2
 have kb:Kp σ ρ2 ρ2 _ (upd (upd H1 dx (.own x)) x (.ins C dx (ns.zip vs))):=Kp.fresh hx2
 have kk:=(k1.trans k2).trans (ka.trans kb)
 refine(b.after kk) _ ρ2 _ _ hq ⟨rb,.refl,rfl,x,dx,ns.zip vs,rfl,gG (iY ra hx2) aS,?_,?_⟩
 ·rw[o9 lv,o9 hl]
 ·rw[o8 lv,o8 hl]
  exact rd.same (ka.trans kb).vis
end
def lz:Stmt->Nat->Stmt
 | .ClassDef _ _ _ b _ _ _ _ _ _ _,j=>b.getD j (.Pass ⟨0,0,0,0⟩)
 | _,_=>.Pass ⟨0,0,0,0⟩
structure ClsO (K:bi)(mg:Str->Option bn)(C:Addr)(x:Str)(ns:List Str):Prop where
 m:mg x=some (.ref C)
 cl:Cls K C
 na:∀f∈ns,jc K C f
 mkk:Fx K C=true
 kp:Ci K (.ref C)=true
structure ObC (P:wE)(w:B2)(K:bi)(mg:Str->Option bn)(base:Heap)(C:Addr)(x:Str)(ns:List Str):Prop where
 cl:Cls K C
 na:∀f∈ns,jc K C f
 nw:NewC P w K mg base C x ns
theorem ObC.of {P:wE}{w:B2}{K:bi}{mg:Str->Option bn}{base:Heap}{C:Addr}{x qual:Str}{st:Stmt}{ns:List Str}(o:ClsO K mg C x ns)(D:DefM K C "__init__" qual st ("self" :: ns))(S:aQ ("self" :: ns) ("self" :: ns) (aw st))
  (hbody:∀(f:Addr) (cdv:bn) (A:Ca) (outer:List Env) (s:ca) (H:Hp) (vs:List V) (Q:VK) (E:XK),Room 0 (A.deeper (EU qual (aw st) s.heap.objs.size f cdv))->tZ C ns vs H Q E ->
   ∃t,PSs (cxOf CX0 P w K mg base ("self" :: ns) qual (aw st) f cdv A outer s H E).nox (bI st) t/\t {nx:=λ_ H'=>Q .non H',rt:=Q} (start ("self" :: ns) vs) H):ObC P w K mg base C x ns:=by
 obtain⟨f,fd,hm,F,hb⟩:=D.ex
 have len:∀vs H Q E,tZ C ns vs H Q E->vs.length=(("self" : Str)::ns).length:=by
  rintro vs H Q E ⟨x,dx,us,rfl,hl,_⟩
  simp[hl]
 exact⟨o.cl,o.na,f,fd,o.m,⟨o.mkk,hm.at_,hm.fn,o.kp⟩,.all hb,F.ok S len λcdv A outer s H vs Q E hr h=>hbody f cdv A outer s H vs Q E hr h⟩
theorem gJ (xs:List D)(k:Nat):cutD xs none (some ((k:Nat):Int))=xs.take k:=by
 unfold cutD
 have e0:HT.sIx xs.length 0 none=0:=rfl
 rw[e0,Ho,GK,HT.sIx_nat]
 rcases GN k xs.length with h | h
 ·rw[EZ h]
 ·rw[FF h,CC (li _),CC h]
def ny:ASp:=λss q=>∃a b:Nat,ss=[nv a,nv b]/\q (.d (L2.bQ (min a b,max a b))) [nv a,nv b]
theorem ft (xs:List Nat):(ar xs).length=xs.length:=by rw[f8]
theorem DefN.no {P:wE}{w:B2}{K:bi}{mg:Str->Option bn}{base:Heap}{x:Str}{st:Stmt}{N ps:List Str}(D:DefN K mg x st ps)(Sc:aQ N ps (aw st))(k:Nat):OkN P w K mg base (k+1) x ps (spA K λ_ _=>False) :=
 D.ok Sc (λvs H Q E h=>by obtain⟨_,_,_,_,h,_⟩:=h;exact h.elim) λf cdv A outer s H vs Q E _ h=>by obtain⟨_,_,_,_,h,_⟩:=h;exact h.elim
end L2
namespace HT
open PySem PySem.Spec PyProof.Rows
end HT
namespace L2
open PySem PySem.Spec PyProof.Rows
section
variable {prog:wE}{w:B2}{K0:Type} [DecidableEq K0]{knd:KeyKind prog w K0}{A:Ca}{E:bn->ca->Prop}{s:ca}
theorem rZ {d:Addr}{kvs:List (K0×bn)}{k:K0}{key dv:bn}{Q:bn->ca->Prop}(hkey:knd.is k key=true)(hm:s.heap.DictOf knd d kvs)(hz:kvs.length<=wT)
  (old:∀v,Ew kvs k=some v->Q v {s with toks:=s.toks+1})
  (new:Ew kvs k=none->∀h',h'.DictOf knd d (Ht kvs k dv)->Cq d s.heap h'->Q dv {s with heap:=h',toks:=s.toks+1}):lm (sn prog w) A (HZ d key dv) Q E s:=by
 have hv:=hm.mapOf
 obtain⟨o,es,ep,ho,hc,hd,hk,hp,hn⟩:=hm
 have hes:es.size<=wT:=by
  have e1:=hp.length
  have e2:es.toList.length=es.size:=by simp
  omega
 have hidx:(es.findIdx? λe=>knd.is k e.key)=kvs.findIdx? λkv=>decide (kv.1=k):=by
  rw[<- hp.findIdx k];obtain⟨l⟩:=es;simp
 have hf:findBy knd.is es k=Ew kvs k:=by
  rw[<- hp.find k]
  obtain⟨l⟩:=es
  simp[findBy]
 unfold HZ
 try with_reducible refine DZ ?_
 refine bm (knd.pyHash hkey ?_)
 refine bm (wpAny_dictFind_of (s:={s with toks:=s.toks+1}) hkey ho hd hk ?_)
 cases hi:es.findIdx? λe=>knd.is k e.key with
 | some i =>
  have hfk:Ew kvs k=(es[i]?).map (·.val):=by rw[<- hf,JG,hi]
  refine bm (wpAny_dictEntries (s:={s with toks:=s.toks+1}) ho hd ?_)
  cases he:es[i]? with
  | none =>
   exfalso
   have lt:i<es.size:=(Array.findIdx?_eq_some_iff_findIdx_eq.mp hi).1
   rw[C2 lt]at he
   cases he
  | some e =>
   rw[he]at hfk
   exact bm (DQ (dL (old e.val hfk)))
 | none =>
  have hfk:Ew kvs k=none:=by rw[<- hf,JG,hi]
  have hnot:k∉kvs.map (·.1):=not_mem_of_findIdx_none (hidx▸hi)
  have hany:¬(kvs.any λkv=>decide (kv.1=k))=true:=by
   rw[Ds];rintro⟨kv,hkv,he⟩
   exact hnot (Cn.mpr ⟨kv,hkv,of_decide_eq_true he⟩)
  refine bm (DQ (bm (wpAny_updateDictKeys (hz:=hes) (s:={s with toks:=s.toks+1}) ho hd (dL (new hfk _ ⟨_,_,ep+1,CS _ ho (Obj.isFreed_of_dict (Ix hd _)),hc.mapDictKeys _,Ix hd _,hk.push hkey _,?_,?_⟩ (C9 ..))))))
  ·rw[Ht,if_neg hany]
   have:=hp.append hkey (knd.hash k) dv
   obtain⟨l⟩:=es
   simpa using this
  ·rw[Ht,if_neg hany,B7,C4]
   refine⟨hn,by simp,λa ha b hb e=>?_⟩
   simp only[wl,Dh,wv]at hb
   subst hb
   exact hnot (e▸ha)
end
section
variable {X:Cx}{pins:List (Addr×Obj)}{σ:St}{H:Hp}{s:ca}{A:Ca}{E:bn->ca->Prop}
theorem A4 {a:Addr}{kvs:List (Key×V)}{k:Key}{v:V}{u r:bn}{Q:bn->ca->Prop}(I:Inv X pins σ H s)(e:H a=some (.dK kvs))(hl:kvs.length<wT)(ry:RelV (kV k) u)(rv:RelV v r)
  (old:∀x w' s',valV kvs k=some x->Inv X pins σ H s'->RelV x w'->Q w' s') (new:valV kvs k=none->∀s',Inv X pins σ (upd H a (.dK (putK kvs k v))) s'->Q r s'):lm (sn X.prog X.w) A (call (.builtin "dict.setdefault") [.ref a,u,r]) Q E s:=by
 obtain⟨z,hd,vs,rel,dd⟩:=xj I.hok e
 have hz:vs.length<=wT:=by rw[<- rel.length];exact z
 have hl':(putK kvs k v).length<=wT:=by have:=fN kvs k v;omega
 have mt:MeetsIn X.prog X.w (Builtin.«dict.setdefault» ⟨[.ref a,u,r],[]⟩) (λ_ R s1=>s1=s/\(∀x,Ew vs k=some x->R (.ok (.ret x)) {s with toks:=s.toks+1})/\(Ew vs k=none->∀h',h'.DictOf (bG X.prog X.w) a (Ht vs k r)->Cq a s.heap h'->R (.ok (.ret r)) {s with heap:=h',toks:=s.toks+1})) :=
  .of_wp λA R s1 ⟨e1,h1,h2⟩=>by
   subst e1
   unfold Builtin.«dict.setdefault»
   refine bm ?_
   unfold Kt
   refine bm (wpAny_notOrdered_dict dd.typeIs ?_)
   show lm _ _ (pure (a,u,some r)) _ _ _
   refine dL ?_
   show lm _ _ (if(a==D0)=true then _ else(HZ a u r>>=_)) _ _ _
   rw[if_neg (by rw[hd];exact B4)]
   exact bm (rZ (oo ry) dd hz (λx hx=>dL ⟨x,rfl,h1 x hx⟩) λhn h' hm' hs'=>dL ⟨r,rfl,h2 hn h' hm' hs'⟩)
 have rl:=rel.val k
 refine call_meetsIn GJ dd.typeIs PySem.F.entry_dict_setdefault (PySem.F.args_dict_setdefault_3 _ _ _) mt ⟨rfl,λx hx=>?_,λhx h' dd' hs=>?_⟩
 ·rw[hx]at rl
  cases hv:valV kvs k with
  | none=>rw[hv]at rl;exact rl.elim
  | some y=>rw[hv]at rl;exact old y _ _ hv (I.tok _) rl
 ·rw[hx]at rl
  cases hv:valV kvs k with
  | some y=>rw[hv]at rl;exact rl.elim
  | none =>
   refine new hv _ ?_
   have he:∃q,h'.get? a=some q:=let ⟨q,_,_,hq,_⟩:=dd';⟨q,hq⟩
   exact m8 I (by rw[e];exact True.intro) hs he (oJ hl' hd (rel.put k rv) dd')
def xD (td ty tx:TE):TE:=λσ H Q=>td σ H λx H1=>∃a,x = .ref a/\IsD H1 a/\ty σ H1 λy H2=>tx σ H2 λz H3=>∃kvs k,y=kV k/\H3 a=some (.dK kvs)/\kvs.length<wT /\
 (∀v,valV kvs k=some v->Q v H3)/\(valV kvs k=none->Q z (upd H3 a (.dK (putK kvs k z))))
theorem wA {o e f:Expr}{apos cpos:Pos}{td ty tx:TE}(ho:PE X o td)(he:PE X e ty)(hf:PE X f tx)(m:M2 X o "setdefault" apos e f cpos):PE X (.Call (.Attribute o "setdefault" apos) [e,f] [] cpos) (xD td ty tx):=by
 intro pins s σ H Q I h
 refine wpAny_Call_method m.base m.few m.line Hm GJ PySem.F.type_dict_setdefault (thn (ho pins s σ H _ I h) λu s1 ⟨x,H1,I1,rx,a,ex,d,q1⟩=>?_)
 subst ex
 obtain rfl:u=Value.ref a:=rx
 obtain⟨t1,t2,_⟩:=AM I1 d
 refine⟨t1,t2,?_⟩
 rw[m.trees]
 refine HN rfl (Ik (Ep (thn (he pins s1 σ H1 _ I1 q1) λiv s2 ⟨y,H2,I2,ry,q2⟩ =>
  Ep (thn (hf pins s2 σ H2 _ I2 q2) λfv s3 ⟨z,H3,I3,rz,kvs,k,ey,hk,hl,qo,qn⟩=>Fk ?_))))
 subst ey
 exact A4 I3 hk hl ry rz (λx w' s' hv I' rx=>⟨x,H3,I',rx,qo x hv⟩) λhn s' I'=>⟨z,_,I',rz,qn hn⟩
end
def dKey:D->Option Key
 | .int i=>some (.inl i)
 | .str x=>some (.inr x)
 | _=>none
section
variable {κ:Type} [DecidableEq κ]
def valD (kvs:List (κ×D))(k:κ):Option D:=(kvs.find? λkv=>decide (kv.1=k)).map (·.2)
def putD (kvs:List (κ×D))(k:κ)(d:D):List (κ×D) :=
 if(kvs.any λkv=>decide (kv.1=k))=true then kvs.map (λkv=>if kv.1=k then(kv.1,d)else kv)else kvs++[(k,d)]
variable {K:bi}{H:Hp}
theorem pb (k:κ):∀ {ks:List (κ×V)} {kvs:List (κ×D)},ks.map BV=kvs.map BV->RepDs K H (ks.map Ce) (kvs.map Ce) ->
  (∀d,valD kvs k=some d->∃v,valV ks k=some v/\RepD K H v d)/\(valD kvs k=none->valV ks k=none)
 | [],[],_,_=>⟨(λ_ h=>nomatch h),λ_=>rfl⟩
 | p::ks,q::kvs,e,r=>by
  simp only[wl,ED]at e
  rw[wl,wl]at r
  unfold RepDs at r
  obtain⟨i1,i2⟩:=pb k e.2 r.2
  by_cases z:q.1=k
  ·have e1:valD (q::kvs) k=some q.2:=by simp[valD,CJ,z]
   rw[e1,jL (e.1.trans z)]
   exact⟨λd h=>⟨_,rfl,by cases h;exact r.1⟩,λh=>by cases h⟩
  ·have e1:valD (q::kvs) k=valD kvs k:=by simp[valD,CJ,z]
   rw[e1,jM (λh=>z (e.1▸h))]
   exact⟨i1,i2⟩
 | [],q::kvs,e,_=>by simp at e
 | p::ks,[],e,_=>by simp at e
theorem zA (k:κ){ks:List (κ×V)}{kvs:List (κ×D)}(e:ks.map BV=kvs.map BV):(ks.any λkv=>decide (kv.1=k))=kvs.any λkv=>decide (kv.1=k):=by
 have h1:(ks.any λkv=>decide (kv.1=k))=(ks.map BV).any λx=>decide (x=k):=by rw[GF];rfl
 have h2:(kvs.any λkv=>decide (kv.1=k))=(kvs.map BV).any λx=>decide (x=k):=by rw[GF];rfl
 rw[h1,h2,e]
theorem qX (k:κ){v:V}{d:D}(rv:RepD K H v d):∀ {ks:List (κ×V)} {kvs:List (κ×D)},ks.map BV=kvs.map BV->RepDs K H (ks.map Ce) (kvs.map Ce) ->
  (ks.map λkv=>if kv.1=k then(kv.1,v)else kv).map BV=(kvs.map λkv=>if kv.1=k then(kv.1,d)else kv).map BV/\RepDs K H ((ks.map λkv=>if kv.1=k then(kv.1,v)else kv).map Ce) ((kvs.map λkv=>if kv.1=k then(kv.1,d)else kv).map Ce)
 | [],[],_,_=>⟨rfl,.nil⟩
 | p::ks,q::kvs,e,r=>by
  simp only[wl,ED]at e
  rw[wl,wl]at r
  unfold RepDs at r
  obtain⟨i1,i2⟩:=qX k rv e.2 r.2
  simp only[wl,e.1]
  by_cases z:q.1=k
  ·simp only[z,if_true]
   exact⟨by rw[i1],.cons rv i2⟩
  ·simp only[z,if_false]
   exact⟨by rw[i1,e.1],.cons r.1 i2⟩
 | [],q::kvs,e,_=>by simp at e
 | p::ks,[],e,_=>by simp at e
theorem my (k:κ){v:V}{d:D}(rv:RepD K H v d){ks:List (κ×V)}{kvs:List (κ×D)}(e:ks.map BV=kvs.map BV)(r:RepDs K H (ks.map Ce) (kvs.map Ce)) :
  (putK ks k v).map BV=(putD kvs k d).map BV/\RepDs K H ((putK ks k v).map Ce) ((putD kvs k d).map Ce):=by
 unfold putK putD
 rw[zA k e]
 split
 ·exact qX k rv e r
 ·refine⟨by rw[B7,B7,e];rfl,?_⟩
  rw[B7,B7]
  exact r.append (.one rv)
theorem iS {ks:List (κ×V)}{kvs:List (κ×D)}(e:ks.map BV=kvs.map BV):ks.length=kvs.length:=by
 have:=congrArg Kc e
 simpa using this
end
section
variable {K:bi}{F:Fr}{σ:St}{ρ ρ':En}{H H':Hp}{td ty tx:TE}{ad ay ax:AE}
theorem uP {v:V}{d:D}{k:Key}(h:RepD K H v d)(e:dKey d=some k):v=kV k:=by
 cases d with
 | int i=>unfold RepD at h;injection e with e;subst e;exact h
 | str i=>unfold RepD at h;injection e with e;subst e;exact h
 | non=>cases e
 | bl _=>cases e
 | tup _=>cases e
 | lst _=>cases e
def aDNew:AE:=λρ q=>q (.n (.dk [])) ρ
theorem vZ:TEok K tDNewK aDNew:=λF σ ρ H q Q r h k p hp=>k (.n (.dk [])) ρ _ _ h ⟨H,p,_,r,.refl,rfl,⟨p,[],rfl,aS,rfl,.nil⟩,hp,rfl,rfl⟩
theorem sS {i:Nat}{x:V}{kvs:List (Key×D)}(r:Rel K F σ ρ H)(ei:σ[i]? = some (some x))(hg:gt ρ i = .dk kvs):∃t ks,x = .ref t/\H t=some (.dK ks)/\ks.map BV=kvs.map BV/\RepDs K (hid H (hs F σ ρ)) (ks.map Ce) (kvs.map Ce):=by
 have s:=r.sl i
 rw[hg,ei]at s
 obtain⟨t,ks,e,h1,h2,h3⟩:=s
 injection e with e;injection e with e
 exact⟨t,ks,e,h1,h2,h3⟩
def aDIn (neg:Bool)(i a:AE):AE:=λρ q=>i ρ λr ρ1=>a ρ1 λr2 ρ2=>match r,r2 with
 | .d d,.o j=>(match gt ρ2 j,dKey d with
  | .dk kvs,some k=>q (.d (.bl (if neg then !(valD kvs k).isSome else(valD kvs k).isSome))) ρ2
  | _,_=>False)
 | _,_=>False
theorem lP {kvs:List (Key×D)}{ks:List (Key×V)}{k:Key}(e1:ks.map BV=kvs.map BV)(e2:RepDs K H (ks.map Ce) (kvs.map Ce)):(valV ks k).isSome=(valD kvs k).isSome:=by
 obtain⟨a,b⟩:=pb k e1 e2
 cases h:valD kvs k with
 | none=>rw[b h];rfl
 | some d=>obtain⟨v,e,_⟩:=a d h;rw[e];rfl
theorem tF (hi:TEok K ty ay)(ha:TEok K td ad):TEok K (tDIn ty td) (aDIn false ay ad):=by
 intro F σ ρ H q Q r h k
 refine hi F σ ρ H _ _ r h λr1 ρ1 y H1 h1 o1=>?_
 obtain⟨r1',k1,i1⟩:=o1.inF
 refine ha F σ ρ1 H1 _ _ r1' h1 λr2 ρ2 x H2 h2 o2=>?_
 obtain⟨r2',k2,i2⟩:=o2.inF
 split at h2
 ·rename_i d j
  have ej:σ[j]? = some (some x):=i2
  split at h2
  ·rename_i kvs kk hg ek
   obtain⟨t,ks,rfl,ht,e1,e2⟩:=sS r2' ej hg
   refine⟨t,valV ks kk,rfl,?_,?_⟩
   ·rw[uP i1 ek];exact DGet.k ht
   ·rw[lP e1 e2]
    exact((k.after k1).after k2).bl r2' h2
  ·exact h2.elim
 ·exact h2.elim
theorem jh (hi:TEok K ty ay)(ha:TEok K td ad):TEok K (tT ty td) (aDIn true ay ad):=by
 intro F σ ρ H q Q r h k
 refine hi F σ ρ H _ _ r h λr1 ρ1 y H1 h1 o1=>?_
 obtain⟨r1',k1,i1⟩:=o1.inF
 refine ha F σ ρ1 H1 _ _ r1' h1 λr2 ρ2 x H2 h2 o2=>?_
 obtain⟨r2',k2,i2⟩:=o2.inF
 split at h2
 ·rename_i d j
  have ej:σ[j]? = some (some x):=i2
  split at h2
  ·rename_i kvs kk hg ek
   obtain⟨t,ks,rfl,ht,e1,e2⟩:=sS r2' ej hg
   refine⟨t,valV ks kk,rfl,?_,?_⟩
   ·rw[uP i1 ek];exact DGet.k ht
   ·rw[lP e1 e2]
    exact((k.after k1).after k2).bl r2' h2
  ·exact h2.elim
 ·exact h2.elim
def BL (x o i:AE):AS:=λe ρ=>x ρ λr ρ1=>sto [r.frz] ρ1 λds ρ2=>o ρ2 λr2 ρ3=>match r2 with
 | .o j=>i ρ3 λr3 ρ4=>(match r3,gt ρ4 j,ds with
  | .d kd,.dk kvs,[d]=>(match dKey kd with | some k=>kvs.length<=1000000/\e.nx (pt ρ4 j (.dk (putD kvs k d))) | none=>False)
  | _,_,_=>False)
 | _=>False
theorem qS {pr:Nat->Bool}{tv:TE}{av:AE}(h:TEok K tv av)(ho:TEok K td ad)(hi:TEok K ty ay):TSok K pr (z6 td ty tv) (BL av ad ay):=by
 intro F σ ρ H D e hp r ha k
 refine h F σ ρ H _ _ r ha λr1 ρ1 v H1 h1 o=>?_
 obtain⟨r',k1,i1⟩:=o.inF
 obtain⟨ds,ρ2,h2,r2,k2,rd⟩:=gj r' (.cons i1 .nil) h1
 refine ho F σ ρ2 H1 _ _ r2 h2 λr3 ρ3 x H3 h3 o3=>?_
 obtain⟨r3',k3,i3⟩:=o3.inF
 split at h3
 ·rename_i j
  have ej:σ[j]? = some (some x):=i3
  refine hi F σ ρ3 H3 _ _ r3' h3 λr4 ρ4 y H4 h4 o4=>?_
  obtain⟨r4',k4,i4⟩:=o4.inF
  split at h4
  ·rename_i kd kvs d hg
   split at h4
   ·rename_i kk ek
    obtain⟨t,ks,rfl,ht,e1,e2⟩:=sS r4' ej hg
    unfold RepDs at rd
    have rd4:=(RepD.same rd.1 (k3.trans k4).vis)
    obtain⟨p1,p2⟩:=my kk rd4 e1 e2
    have hw:=r4'.write (i:=j) (l:=t) (o:=.dK (putK ks kk v)) (s:=.dk (putD kvs kk d)) (by rw[hg];rfl) ej rfl ⟨t,_,rfl,aS,p1,p2⟩
    refine⟨t,_,rfl,?_,k.nx _ _ _ h4.2 hw.1⟩
    rw[uP i4 ek]
    exact DPut.k ht (lD (by rw[iS e1];exact h4.1))
   ·exact h4.elim
  ·exact h4.elim
 ·exact h3.elim
@[irreducible] def u5 (kvs:List (Key×D))(kd d:D)(q:D->List (Key×D)->Prop):Prop:=match dKey kd with
 | some k=>kvs.length<=1000000/\(match valD kvs k with | some x=>q x kvs | none=>q d (putD kvs k d))
 | none=>False
theorem u4 {kvs:List (Key×D)}{kd d:D}{q:D->List (Key×D)->Prop}(h:u5 kvs kd d q):∃k,dKey kd=some k/\kvs.length<=1000000/\(∀x,valD kvs k=some x->q x kvs)/\(valD kvs k=none->q d (putD kvs k d)):=by
 unfold u5 at h
 split at h
 ·rename_i k e
  refine⟨k,e,h.1,λx hx=>?_,λhx=>?_⟩
  ·have:=h.2;rw[hx]at this;exact this
  ·have:=h.2;rw[hx]at this;exact this
 ·exact h.elim
theorem w_ {kvs:List (Key×D)}{kd d:D}{k:Key}{q:D->List (Key×D)->Prop}(e:dKey kd=some k)(hz:kvs.length<=1000000)(h1:∀x,valD kvs k=some x->q x kvs)(h2:valD kvs k=none->q d (putD kvs k d)):u5 kvs kd d q:=by
 unfold u5
 simp only[e]
 refine⟨hz,?_⟩
 cases hv:valD kvs k with
 | none=>exact h2 hv
 | some x=>exact h1 x hv
def Bc (a i x:AE):AE:=λρ q=>a ρ λr ρ1=>match r with
 | .o j=>(match gt ρ1 j with
  | .dk _=>i ρ1 λr2 ρ2=>x ρ2 λr3 ρ3=>(match r2,r3,gt ρ3 j with
   | .d kd,.d d,.dk kvs=>u5 kvs kd d λz kvs'=>q (.d z) (pt ρ3 j (.dk kvs'))
   | _,_,_=>False)
  | _=>False)
 | _=>False
theorem Aa:∀ {ρ:En} {i:Nat} {s:Sv},gt ρ i=s->s.own=true->pt ρ i s=ρ
 | [],_,_,h,ho=>by cases h;cases ho
 | x::r,0,s,h,_=>by cases h;rfl
 | x::r,i+1,s,h,ho=>by show x::pt r i s=x::r;rw[Aa (ρ:=r) h ho]
theorem tE (ha:TEok K td ad)(hi:TEok K ty ay)(hx:TEok K tx ax):TEok K (xD td ty tx) (Bc ad ay ax):=by
 intro F σ ρ H q Q r h k
 refine ha F σ ρ H _ _ r h λr1 ρ1 x H1 h1 o1=>?_
 obtain⟨r1',k1,i1⟩:=o1.inF
 split at h1
 ·rename_i j
  have ej:σ[j]? = some (some x):=i1
  split at h1
  ·rename_i kvs0 hg0
   obtain⟨t,ks0,rfl,ht0,_,_⟩:=sS r1' ej hg0
   refine⟨t,rfl,.inl ⟨ks0,.inl ht0⟩,?_⟩
   refine hi F σ ρ1 H1 _ _ r1' h1 λr2 ρ2 y H2 h2 o2=>?_
   obtain⟨r2',k2,i2⟩:=o2.inF
   refine hx F σ ρ2 H2 _ _ r2' h2 λr3 ρ3 z H3 h3 o3=>?_
   obtain⟨r3',k3,i3⟩:=o3.inF
   have kk:=((k.after k1).after k2).after k3
   split at h3
   ·rename_i kd d kvs hg
    obtain⟨key,ek,hz,h4,h5⟩:=u4 h3
    obtain⟨t',ks,et,ht,e1,e2⟩:=sS r3' ej hg
    cases et
    obtain⟨v1,v2⟩:=pb key e1 e2
    refine⟨ks,key,uP i2 ek,ht,lD (by rw[iS e1];exact hz),λv hv=>?_,λhv=>?_⟩
    ·cases hd:valD kvs key with
     | none=>rw[v2 hd]at hv;cases hv
     | some x =>
      obtain⟨v',ev,rv⟩:=v1 x hd
      rw[ev]at hv;cases hv
      have:=h4 x hd
      rw[Aa hg rfl]at this
      exact kk.dat r3' this rv
    ·cases hd:valD kvs key with
     | some x=>obtain⟨v',ev,_⟩:=v1 x hd;rw[ev]at hv;cases hv
     | none =>
      obtain⟨p1,p2⟩:=my key i3 e1 e2
      have hw:=r3'.write (i:=j) (l:=t) (o:=.dK (putK ks key z)) (s:=.dk (putD kvs key d)) (by rw[hg];rfl) ej rfl ⟨t,_,rfl,aS,p1,p2⟩
      exact(kk.after hw.2).dat hw.1 (h5 hd) (RepD.same i3 hw.2.vis)
   ·exact h3.elim
  ·exact h1.elim
 ·exact h1.elim
end
section
variable {X:Cx}{pins:List (Addr×Obj)}{σ:St}{H:Hp}{s:ca}{h':Heap}
theorem Inv.turns {t':Nat}{ch:List Addr}(I:Inv X pins σ H s)(k:∀b o,b∉ch->s.heap.get? b=some o->h'.get? b=some o)(hf:∀b∈ch,FpOk X pins H b):Inv X pins σ H {s with heap:=h',toks:=t'}:=by
 have nit:∀b u,H b=some u->b∉ch:=λb u e z=>by rw[(hf b z).1]at e;cases e
 refine I.step (g':=s.gens) (d':=s.drawn) (ch:=ch) (λb hb=>?_) (λb o _ _ hc e _=>k b o hc e) (λb o _ _ hc e _=>⟨o.slots,k b o hc e⟩) (λ_ _ _ _ n=>n)
  (λb o hc e=>⟨o,k b o hc e⟩) (λ_ _ e=>e) (λ_ _ _ e=>e) (λb ps e=>⟨#[],by rw[e];simp⟩) (λm hm=>?_) (λb u e=>?_) I.bare
 ·obtain⟨_,h2,_,h4,h5,h6⟩:=hf b hb
  exact⟨h4,h2,h5,h6⟩
 ·obtain⟨o,es,ep,ho,r⟩:=hm
  exact⟨o,es,ep,k _ o (λz=>(hf _ z).2.1 rfl) ho,r⟩
 ·refine(I.hok b u e).stay (λc v hc q=>k c v ?_ q) (λ_ q=>q) λ_ _ q=>q
  rcases hc with z | z
  ·rw[z];exact nit b u e
  ·exact nit c _ z
theorem Inv.trackO {p:Addr}{o:HO}(I:Inv X pins σ H s)(hf:FpOk X pins H p)(new:cK X.prog X.w (upd H p o) s.heap p o):Inv X pins σ (upd H p o) s:=by
 have hn:=hf.1
 refine I.call' (ch:=[p]) rfl ⟨λb u e _ _ _=>e,λb u e _ _ _=>⟨u.slots,e⟩,λb u e n hx=>?_,λb u e _=>⟨u,e⟩,λb xs e=>?_,λb u v e=>?_,λb ps e=>⟨#[],?_⟩⟩ (λb u e=>?_) I.bare (λb hb=>?_)
 ·rw[aR (λz=>hx (by simp[z]))];exact n
 ·rw[aR (be e hn)];exact e
 ·rw[aR (be e hn)];exact e
 ·rw[aR (be e hn),e];simp
 ·by_cases hb:b=p
  ·subst hb;rw[aS]at e;cases e;exact new
  ·rw[aR hb]at e
   exact(I.hok b u e).stay (λc v _ q=>q) (λc q=>by rw[aR (be q hn)];exact q) λc xs q=>by rw[aR (be q hn)];exact q
 ·rw[wv.mp hb]
  obtain⟨_,h2,_,h4,h5,h6⟩:=hf
  exact⟨h4,h2,h5,h6⟩
end
section
variable {K:bi}{ts:TA}{as:AA}
def nB (pin:Nat->Bool)(ρ:En):R->Option (List D×(En->Prop))
 | .d (.lst ds)=>some (ds,λ_=>True)
 | .o i=>(match gt ρ i with
  | .ow ds=>if pin i=true then some (ds,λρ2=>gt ρ2 i = .ow ds)else none
  | _=>none)
 | _=>none
theorem qJ {pin:Nat->Bool}{F:Fr}{σ:St}{ρ:En}{H:Hp}{v:V}{r:R}{ds:List D}{c:En->Prop}(a:Rel K F σ ρ H)(i:InF K F σ ρ H v r)(e:nB pin ρ r=some (ds,c)) :
  ∃l vs,v = .ref l/\SqL K H l vs/\∀ σ2 ρ2 H2,Same (hid H (hs F σ ρ)) (hid H2 (hs F σ2 ρ2))->(∀i,SvOk K (hid H2 (hs F σ2 ρ2)) H2 σ2[i]? (gt ρ2 i))->(∀j a,pin j=true->σ[j]? = some (some (.ref a))->σ2[j]? = some (some (.ref a)))->c ρ2->∃vs2,SqL K H2 l vs2/\RepDs K (hid H2 (hs F σ2 ρ2)) vs2 ds:=by
 cases r with
 | n s=>cases e
 | t n=>cases e
 | x s=>cases e
 | d d =>
  cases d with
  | lst es =>
   simp only[nB,Co,Eh]at e
   obtain⟨rfl,rfl⟩:=e
   have rd:RepD K _ v (.lst es):=i
   unfold RepD at rd
   obtain⟨l,vs,rfl,sq,rr⟩:=rd
   exact⟨l,vs,rfl,cf.seq (StL.sq sq),λσ2 ρ2 H2 sm _ _ _=>⟨vs,cf.seq (sm.seq (StL.sq sq)),rr.same sm⟩⟩
  | non=>cases e
  | bl _=>cases e
  | int _=>cases e
  | str _=>cases e
  | tup _=>cases e
 | o j =>
  have ej:σ[j]? = some (some v):=i
  unfold nB at e
  cases hg:gt ρ j with
  | ow es =>
   simp only[hg]at e
   split at e
   ·rename_i hp
    simp only[Co,Eh]at e
    obtain⟨rfl,rfl⟩:=e
    have s:=a.sl j
    rw[hg,ej]at s
    obtain⟨l,vs,e1,hl,rd⟩:=s
    injection e1 with e1;injection e1 with e1;subst e1
    refine⟨l,vs,rfl,SqL.of hl,λσ2 ρ2 H2 sm sv pn hc=>?_⟩
    have s2:=sv j
    rw[hc,pn j l hp ej]at s2
    obtain⟨l',vs',e2,hl',rd'⟩:=s2
    injection e2 with e2;injection e2 with e2;injection e2 with e2;subst e2
    exact⟨vs',SqL.of hl',rd'⟩
   ·cases e
  | un=>simp[hg]at e
  | vl _=>simp[hg]at e
  | tp _=>simp[hg]at e
  | dk _=>simp[hg]at e
  | dt _=>simp[hg]at e
  | ex _ _=>simp[hg]at e
  | sc _=>simp[hg]at e
  | px _ _ _=>simp[hg]at e
  | xl _=>simp[hg]at e
  | ob _ _=>simp[hg]at e
  | ll _=>simp[hg]at e
  | ds _ _ _=>simp[hg]at e
end
section
variable {K:bi}{ts:TA}{as:AA}
def aNever:AS:=λ_ _=>False
theorem nH {pr:Nat->Bool}:TSok K pr tNever aNever:=λF σ ρ H D e hp r h k=>h.elim
end
def zD (t:TE):Prop:=∀ σ H Q,t σ H Q->∃v,Q v H/\∀H' (Q':VK),Q' v H'->t σ H' Q'
theorem Au {v:V}:zD (tC v):=λσ H Q h=>⟨v,h,λ_ _ h'=>h'⟩
def Ite (K:bi)(l:Addr):It :=
 ⟨λi H=>∃xs x,SqL K H l xs/\xs[i]? = some x,λi H v H'=>∃p x,v = .ref p/\H p=none/\H'=upd H p (.tup [.int (i:Nat),x])/\∀xs,SqL K H l xs->xs[i]? = some x,
  λi H=>∃xs,SqL K H l xs/\xs.length<=i⟩
theorem tm {P:wE}{w:B2}{K:bi}{elts:List Expr}{x1}{tpos:Pos}{e it l:Addr}(ne:e≠it) :
  Turn P w K (.Tuple elts x1 tpos) (Ite K l) [e,it] e (λi h=>(∃old,Hx h e it (i:Nat) old)/\h.IsListIter it l i) where
 mem:=by simp
 obj:=λi h st b hb=>by
  obtain⟨⟨old,he⟩,⟨o1,e1,c1,d1⟩⟩:=st
  simp only[sB,Cp,or_false]at hb
  rcases hb with rfl | rfl
  ·exact⟨_,he,λv q=>by cases q⟩
  ·exact⟨o1,e1,λv q=>by rw[d1]at q;cases q⟩
 keep:=λi h h' st k=>by
  obtain⟨⟨old,he⟩,h1⟩:=st
  exact⟨⟨old,k e (by simp) _ he⟩,h1.at λo q=>k it (by simp) o q⟩
 item:=by
  intro X hP hw hK hc i pins s σ H E I hf st hg
  subst hP hw hK
  obtain⟨xs,x,q1,hx⟩:=hg
  obtain⟨⟨old,he⟩,h1⟩:=st
  obtain⟨its,rv,p1,_⟩:=I.list q1
  obtain⟨u,hu,ru⟩:=rv.get hx
  refine wpAny_pyNext_enum_item he h1 p1.isList (x:=u) (by simpa using hu) ne λh' a1 a2 a3 a4 hk=>?_
  refine⟨_,rfl,HW (s:={s with heap:=h',toks:=s.toks+1}) a1 λh2' he' hs'=>?_⟩
  have hs2:Cq e h' h2':=hs'
  have ls:∀ {b o},s.heap.get? b=some o->b≠s.heap.objs.size:=λe=>wP (lc e)
  have es:e≠s.heap.objs.size:=ls he
  have up:∀b o,b∉[e,it]->s.heap.get? b=some o->h2'.get? b=some o:=λb o hb q=>by
   simp only[sB,Cp,or_false,not_or]at hb
   exact(hs2.2 b hb.1).trans (hk b o hb.1 hb.2 q)
  have I1:Inv X pins σ H {s with heap:=h2',toks:=s.toks+1}:=I.turns (t':=s.toks+1) up hf
  have fp:FpOk X pins H s.heap.objs.size:=I.fpOk (li _) (I.hok.fresh (li _))
  have g:h2'.get? s.heap.objs.size=some {cls:=.type "tuple",data:=.seq #[.int i s.toks,u]}:=(hs2.2 _ (Dk es)).trans a3
  have I2:=I1.trackO (o:=.tup [.int (i:Nat),x]) fp ⟨by show 2<=wT;decide,[.int i s.toks,u],.cons ⟨_,rfl⟩ (.cons ru .nil),_,g,rfl,_,rfl⟩
  refine⟨.ref s.heap.objs.size,upd H s.heap.objs.size (.tup [.int (i:Nat),x]),I2,rfl,⟨_,x,rfl,fp.1,rfl,λzs hz=>by rw[I.list_inj hz q1];exact hx⟩,?_,λb hb=>?_⟩
  ·refine⟨⟨u,by simpa using he'⟩,?_⟩
   obtain⟨o,q,r⟩:=a2;exact⟨o,(hs2.2 it (Dk ne)).trans q,r⟩
  ·have hb':=(hf b hb).1
   have ne':b≠s.heap.objs.size:=by
    obtain⟨o1,e1,_⟩:=h1
    simp only[sB,Cp,or_false]at hb
    rcases hb with rfl | rfl
    ·exact ls he
    ·exact ls e1
   rw[aR ne'];exact hb'
 done:=by
  intro X hP hw hK hc i pins s σ H E I hf st hg
  subst hP hw hK
  obtain⟨xs,q1,hl⟩:=hg
  obtain⟨⟨old,he⟩,h1⟩:=st
  obtain⟨its,rv,p1,_⟩:=I.list q1
  have l1:=rv.length
  refine wpAny_pyNext_enum_end (I.ok.hd hc) he h1 p1.isList (by simp;omega) λh' hk=>⟨rfl,I.turns (ch:=[e,it]) (t':=s.toks) (λb o hb q=>?_) hf⟩
  simp only[sB,Cp,or_false,not_or]at hb
  exact hk b o hb.2 q
 self:=λ_ _ _ _ _ st h=>by obtain⟨⟨old,he⟩,_⟩:=st;exact EG he h
def AU (K:bi)(t:TA):TI:=λσ H R=>t σ H λvs H1=>∃l xs,vs=[.ref l]/\SqL K H1 l xs/\R (Ite K l) H1
theorem jn (K:bi){X:Cx}{elts:List Expr}{x1}{tpos:Pos}{a:Expr}{ta:TA}{p pos:Pos}(hg:Gl X "enumerate")(hm:X.mg "enumerate" = none)(ha:PA X [a] ta)(hK:X.K=K:=by rfl)(hs:B1 [a] X.env=[(false,eval a X.env)]:=by rfl) :
  PI X (.Tuple elts x1 tpos) (.Call (.Name "enumerate" p) [a] [] pos) (AU K ta):=by
 subst hK
 intro pins s σ H R I h
 refine IS (gE I hg hm gQ (CB (thn (ha pos pins s σ H _ I h) λus s1 ⟨vs,H1,I1,r1,q1⟩=>?_) hs rfl))
 obtain⟨l,xs,rfl,h1,q⟩:=q1
 obtain⟨u,rfl,ru⟩:=jY r1
 cases ru
 obtain⟨its,_,p1,_⟩:=I1.list h1
 refine call_enumerate_list p1.isList λh' he hi hsz hk=>?_
 refine EG he ?_
 refine⟨_,_,_,_,H1,rfl,I1.kept (t':=s1.toks) hk,tm (show s1.heap.objs.size+1≠s1.heap.objs.size by omega),⟨⟨_,he⟩,hi⟩,λb hb=>?_,q⟩
 have le:s1.heap.objs.size<=b:=by
  simp only[sB,Cp,or_false]at hb
  rcases hb with rfl | rfl <;> omega
 exact I1.fpOk le (I1.hok.fresh le)
section
variable {K:bi}{ts:TA}{as:AA}
def dS (k:Nat):List D->List D
 | []=>[]
 | d::ds=>.tup [.int (k:Nat),d]::dS (k+1) ds
theorem cQ:∀ {ds:List D} {b k:Nat} {d:D},(dS b ds)[k]? = some d->∃x,ds[k]? = some x/\d = .tup [.int ((b+k:Nat):Int),x]
 | [],b,k,d,h=>by simp[dS]at h
 | x::ds,b,0,d,h=>by
  simp only[dS,Dz,Co]at h
  exact⟨x,rfl,h.symm⟩
 | x::ds,b,k+1,d,h=>by
  simp only[dS,List.getElem?_cons_succ]at h
  obtain⟨a,e1,e2⟩:=cQ (ds:=ds) (b:=b+1) (k:=k) h
  exact⟨a,by simpa using e1,by rw[e2,show b+1+k=b+(k+1)by omega]⟩
theorem bU:∀(ds:List D) (b:Nat),(dS b ds).length=ds.length
 | [],b=>rfl
 | x::ds,b=>by simp only[dS,At,bU ds]
theorem x9 {S:Addr->Prop}{H:Hp}{l:Addr}{vs:List V}{ds:List D}(al:∀a,S a->H a≠none)(h1:SqL K H l vs)(r1:RepDs K (hid H S) vs ds):WkAt K S H (Ite K l) (dS 0 ds):=by
 intro k
 constructor
 ·intro d e
  obtain⟨x,ex,rfl⟩:=cQ e
  rw[CU]
  obtain⟨v,e1,rv⟩:=r1.get ex
  refine⟨⟨vs,v,h1,e1⟩,λz H' ⟨p,a,ez,hp,eH,ha⟩=>?_⟩
  have a1:=ha vs h1
  rw[e1]at a1
  cases a1
  subst eH ez
  have sm:Same H (upd H p (.tup [.int (k:Nat),v])):=(Same.refl H).new hp
  have sm':Same (hid H S) (hid (upd H p (.tup [.int (k:Nat),v])) S):=bq λa o e n=>⟨sm a o e,n⟩
  refine⟨sm,?_⟩
  unfold RepD
  exact⟨p,[.int (k:Nat),v],rfl,(gG (λz=>al p z hp) aS),.cons (by unfold RepD;rfl) (.cons (rv.same sm') .nil)⟩
 ·intro z
  rw[bU]at z
  exact⟨vs,h1,by rw[r1.length];exact z⟩
def BJ (pin:Nat->Bool)(as:AA):AI:=λρ q=>as ρ λrs ρ1=>match rs with
 | [r1]=>(match nB pin ρ1 r1 with
  | some (ds,c)=>q (dS 0 ds) c ρ1
  | _=>False)
 | _=>False
theorem fc {pin:Nat->Bool}(h:TAok K ts as):TIok K pin (AU K ts) (BJ pin as):=by
 intro F σ ρ H q Rk r ha k
 refine h F σ ρ H _ _ r ha λrs ρ1 vs H1 h1 r1 i1 k1=>?_
 split at h1
 ·obtain⟨x,rfl,ix⟩:=i1.one
  split at h1
  ·rename_i ds c e1
   obtain⟨l1,us1,rfl,s1,w1⟩:=qJ r1 ix e1
   refine⟨l1,us1,rfl,s1,k _ _ _ _ _ h1 r1 k1 λσ2 ρ2 H2 sm sv pn al hc=>?_⟩
   obtain⟨v1,z1,rd1⟩:=w1 σ2 ρ2 H2 sm sv pn hc
   exact x9 (λa z=>(al a z).1) z1 rd1
  ·exact h1.elim
 ·exact h1.elim
end
open Builtin.SmallTypes (nextOf)
structure Feed (prog:wE)(w:B2)(it:Addr)(dep:List Addr)(St:Nat->Heap->Prop)(gv:Nat->Option bn):Prop where
 mem:it∈dep
 obj:∀i h,St i h->∃o vs n,h.get? it=some o/\o.data = .fields vs/\o.cls = .type n/\n ≠ "zip"
 keep:∀i h h',St i h->(∀b o,b∈dep->h.get? b=some o->h'.get? b=some o)->St i h'
 item:∀(A:Ca) i (s:ca) x (Q:bn->ca->Prop) E,St i s.heap->gv i=some x->(∀h',St (i+1) h'->Cq it s.heap h'->Q x {s with heap:=h'})->lm (sn prog w) A (nextOf (.ref it)) Q E s
 fin:∀(A:Ca) i (s:ca) (Q:bn->ca->Prop) E,A.handled=none->St i s.heap->gv i=none->(∀h' e,Kg it s.heap h'->(∃o,h'.get? e=some o/\o.cls = .type "StopIteration")->E (.ref e) {s with heap:=h'})->lm (sn prog w) A (nextOf (.ref it)) Q E s
section
variable {prog:wE}{w:B2}
theorem m4 {it l:Addr}{xs:Array bn}(hne:l≠it):Feed prog w it [it,l] (λi h=>h.IsTupleIter it l i/\h.IsTuple l xs) (λi=>xs[i]?) where
 mem:=by simp
 obj:=λi h ⟨⟨o,e,c,d⟩,_⟩=>⟨o,_,_,e,d,c,by decide⟩
 keep:=λi h h' ⟨a,b⟩ k=>⟨a.at λo e=>k it o (by simp) e,by obtain⟨o,e,r⟩:=b;exact⟨o,k l o (by simp) e,r⟩⟩
 item:=λA i s x Q E ⟨a,b⟩ hx k=>by
  obtain⟨o,ho,hc,hd⟩:=id a
  obtain⟨ol,hol,rr,nl,hdl⟩:=id b
  unfold nextOf
  refine bm (DD (name:=Fa "__next__") a.typeIs Ej (Df Ej a.typeIs HI ?_ (HA _)))
  show lm _ _ (ID (.ref it) 0>>=_) _ _ s
  refine bm (D9 ho hd (x:=.ref l) rfl ?_)
  show lm _ _ (if(Value.ref l==Value.none)=true then _ else _) _ _ s
  rw[if_neg (λz=>by cases z)]
  show lm _ _ (ID (.ref it) 1>>=_) _ _ s
  refine bm (D9 ho hd (x:=.int i 0) rfl ?_)
  show lm _ _ (J8 (.ref l)>>=_) _ _ s
  refine bm (Gk hol hdl ?_)
  simp only[Cr,hx]
  refine bm (wpAny_setField ho hd (by simp) (dL ⟨x,rfl,dL ?_⟩))
  refine k _ ⟨⟨_,CS _ ho (Obj.isFreed_of_fields (IY hd _)),(Obj.cls_mapFields ..).trans hc,by rw[IY hd];simp[DK]⟩,ol,?_,rr,nl,hdl⟩ (C9 ..)
  exact((C9 ..).2 l hne).trans hol
 fin:=λA i s Q E hh ⟨a,b⟩ hx k=>by
  obtain⟨o,ho,hc,hd⟩:=id a
  obtain⟨ol,hol,rr,nl,hdl⟩:=id b
  unfold nextOf
  refine bm (DD (name:=Fa "__next__") a.typeIs Ej (Df Ej a.typeIs HI ?_ (HA _)))
  show lm _ _ (ID (.ref it) 0>>=_) _ _ s
  refine bm (D9 ho hd (x:=.ref l) rfl ?_)
  show lm _ _ (if(Value.ref l==Value.none)=true then _ else _) _ _ s
  rw[if_neg (λz=>by cases z)]
  show lm _ _ (ID (.ref it) 1>>=_) _ _ s
  refine bm (D9 ho hd (x:=.int i 0) rfl ?_)
  show lm _ _ (J8 (.ref l)>>=_) _ _ s
  refine bm (Gk hol hdl ?_)
  simp only[Cr,hx]
  refine bm (DQ (bm (wpAny_setField ho hd (by simp) ?_)))
  show lm _ _ (newExc (.type "StopIteration") []>>=_) _ _ _
  refine bm ?_
  simp only[newExc,newTuple]
  refine bm (Dm ?_ (by size_fits))
  refine bm (m:=firstArgMember _ _) (Jh (a:=Value.none) (by first | rfl | (simp only[firstArgMember];rfl)) ?_)
  refine Dm ?_ (by size_fits)
  simp only[raiseNew]
  refine bm (wpAny_handled ?_)
  first | rw[show A.in1.handled=none from hh] | rw[hh]
  refine bm (dL (wpAny_throw ?_))
  exact k _ _ (((C9 ..).extBut.push _).push _) ⟨_,ww _ rfl,rfl⟩
variable {A:Ca}{E:bn->ca->Prop}{s:ca}{z TI TO i1 i2:Addr}{d1 d2:List Addr}{S1 S2:Nat->Heap->Prop}{g1 g2:Nat->Option bn}
end
section
variable {X:Cx}
def rInsert:V->List V->Hp->VK->Prop:=λx vs H Q=>∃(l:Addr) (xs:List V) (k:Nat) (y:V),x = .ref l/\vs=[.int (k:Nat),y]/\H l=some (.lst xs)/\k<=xs.length/\xs.length<=1000000/\Q .non (upd H l (.lst (xs.take k++y::xs.drop k)))
theorem vS {xs:List V}{us:List bn}(h:Vals xs us):∀k,Vals (xs.take k) (us.take k)/\Vals (xs.drop k) (us.drop k):=by
 induction h with
 | nil=>intro k;rw[JL,JL,JM,JM];exact⟨.nil,.nil⟩
 | cons h t ih =>
  intro k
  cases k with
  | zero=>exact⟨.nil,.cons h t⟩
  | succ k=>exact⟨.cons h (ih k).1,(ih k).2⟩
theorem uU {l:Addr}{its:List bn}{n:Nat}{j:Int}{k:Nat}{t:Tok}{w:bn}{s:ca}{Q:bn->ca->Prop}{E:bn->ca->Prop}{A:Ca}{prog:wE}{wd:B2}(hj:j=k)(hk:k<=its.length)(hl:its.length<=1000000)
  (e:s.heap.get? l=some {cls:=.type "list",data:=.seq its.toArray n}) (h:∀f:Array bn->Array bn,f its.toArray=(its.take k++w::its.drop k).toArray->Q .none {s with heap:=s.heap.update l (C1 f),toks:=s.toks}):lm (sn prog wd) A (call (.builtin "list.insert") [.ref l,.int j t,w]) Q E s:=by
 have hf:¬(!Gi j)=true:=by
  simp[Gi]
  omega
 refine GZ Hf ⟨_,e,rfl⟩ PySem.F.entry_list_insert (PySem.F.args_list_insert_3 _ _ _) (JW l its.toArray n j t w hf (by rw[on,EB];omega)) ⟨e,h _ ?_⟩
 have ek:(if j<0 then(j+(its.toArray.size:Int)).toNat else min j.toNat its.toArray.size)=k:=by
  rw[if_neg (by omega),on];omega
 show(its.toArray.extract 0 (if j<0 then(j+(its.toArray.size:Int)).toNat else min j.toNat its.toArray.size)).push w++its.toArray.extract (if j<0 then(j+(its.toArray.size:Int)).toNat else min j.toNat its.toArray.size)=_
 rw[ek]
 apply Array.toList_inj.mp
 simp
 rw[CC (by rw[EE];exact li _)]
theorem uF:MtM X "list.insert" rInsert:=by
 intro pins s σ H x vs v us Q I rx rv h
 obtain⟨l,xs,k,y,rfl,rfl,hH,hk,hl',q⟩:=h
 cases rx
 obtain⟨u,w,rfl,⟨t,rfl⟩,rw'⟩:=ya rv
 obtain⟨z,its,n,r,hl,e⟩:=I.lstM hH
 obtain⟨v1,v2⟩:=vS r k
 refine uU rfl (by omega) (by omega) e λf hf=>?_
 refine⟨.non,_,I.lset (its':=its.take k++w::its.drop k) hH e hf (v1.append (.cons rw' v2)) ?_,rfl,q⟩
 rw[wS,At,B0,EE,EB];omega
end
section
variable {K:bi}{ta td tv:TE}{ad a av:AE}{ts:TA}{as:AA}
def aIns (a:AE)(as:AA):AE:=λρ q=>a ρ λr ρ1=>match r with
 | .o i=>(match gt ρ1 i with
  | .ow _=>as ρ1 λrs ρ2=>(match rs with
   | [.d (.int j),y]=>sto [y] ρ2 λes ρ3=>(match gt ρ3 i,es with
    | .ow ds,[d]=>∃n:Nat,j=n/\n<=ds.length/\ds.length<=1000000/\q (.d .non) (pt ρ3 i (.ow (ds.take n++d::ds.drop n)))
    | _,_=>False)
   | _=>False)
  | _=>False)
 | _=>False
theorem ye (ha:TEok K ta a)(hs':TAok K ts as):TEok K (tBM K "list" rInsert ta ts) (aIns a as):=by
 intro F σ ρ H q Q r h k
 refine ha F σ ρ H _ _ r h λr1 ρ1 x H1 h1 rel1=>?_
 split at h1
 ·rename_i i
  obtain⟨r',k1,i1⟩:=rel1.inF
  have ex:σ[i]? = some (some x):=i1
  split at h1
  ·rename_i ds0 hg0
   have s:=r'.sl i
   rw[hg0,ex]at s
   obtain⟨l,vs0,e,hl,_⟩:=s
   injection e with e;injection e with e;subst e
   refine⟨.inl ⟨rfl,_,SqL.of hl⟩,hs' F σ ρ1 H1 _ _ r' h1 λrs ρ2 vs H2 h2 r2 i2 k2=>?_⟩
   split at h2
   ·rename_i j y
    obtain⟨z1,z2,rfl,iz1,iz2⟩:=i2.two
    obtain⟨es,ρ3,h3,r3,k3,rd⟩:=gj r2 (.cons iz2 .nil) h2
    split at h3
    ·rename_i ds d hg
     have s:=r3.sl i
     rw[hg,ex]at s
     obtain⟨l',us,e,hl',rd'⟩:=s
     injection e with e;injection e with e;injection e with e;subst e
     obtain⟨n,rfl,hn,hz,hq⟩:=h3
     unfold RepDs at rd
     have rdn:RepDs K (hid H2 (hs F σ ρ3)) (us.take n++z2::us.drop n) (ds.take n++d::ds.drop n):=(rd'.take n).append (.cons rd.1 (rd'.drop n))
     have hw:=r3.write (i:=i) (l:=l) (o:=.lst (us.take n++z2::us.drop n)) (s:=.ow (ds.take n++d::ds.drop n)) (by rw[hg];rfl) ex rfl ⟨l,_,rfl,aS,rdn⟩
     have ll:=rd'.length
     exact⟨l,us,n,z2,rfl,by rw[iz1.int],hl',by omega,by omega,((((k.after k1).after k2).after k3).after hw.2).non hw.1 hq⟩
    ·exact h3.elim
   ·exact h2.elim
  ·exact h1.elim
 ·exact h1.elim
end
section
variable {X:Cx}(K:bi)
def xJ (K:bi):V->List V->Hp->VK->Prop:=λx vs H Q=>∃(l:Addr) (ns:List Int) (y:Int) (j:Nat),x = .ref l/\vs=[.int y]/\SqL K H l (ns.map V.int)/\ns[j]? = some y/\j<1000000/\(∀m,m<j->ns[m]? ≠ some y)/\Q (.int (j:Nat)) H
theorem wO (hK:X.K=K:=by rfl):MtR X "list.index" (xJ K):=by
 subst hK
 intro pins s σ H x vs v us Q I rx rv h
 obtain⟨l,ns,y,j,rfl,rfl,hq,hj,hsm,hno,q⟩:=h
 cases rx
 obtain⟨u,rfl,ru⟩:=rv.one
 obtain⟨its,r,pl,hz⟩:=I.list hq
 obtain⟨⟨cl,dd,dt,sl⟩,n,e,c1,c2,c3⟩:=pl
 simp only at c1 c2 c3
 subst c1 c2 c3
 have fx:(ns.map V.int).all jJ=true:=by simp[jJ]
 have hl:its.length=ns.length:=by have:=r.length;rw[f8]at this;omega
 have hjl:j<ns.length:=(im.mp hj).1
 have at':∀m (hm:m<its.toArray.size),eqU (.int y) its.toArray[m]=decide (ns[m]? = some y):=λm hm=>by
  have hm':m<its.length:=by simpa using hm
  obtain⟨w,e1,e2⟩:=r.get (i:=m) (x:=V.int ns[m]) (by rw[wn,bv (by omega)];rfl)
  rw[bv hm']at e1
  cases e1
  have:=vh (x:=.int y) e2 rfl
  simp only[FW]
  rw[this,bv (by omega)]
  simp only[eqV,Co]
  rw[D8,beq_iff_eq,decide_eq_true_eq]
 refine GZ Hk ⟨_,e,rfl⟩ PySem.F.entry_list_index (PySem.F.args_list_index_2 _ _) (SeqAt.list_indexAt l its.toArray n none sl u (eqU (.int y)) j (by rw[on];omega) (by omega) (by rw[at'];exact decide_eq_true hj) (λm hm hlt=>by rw[at'];exact decide_eq_false (hno m hlt))) ⟨e,λw hw=>g6 ru rfl r fx w (by simpa using hw),?_⟩
 exact⟨.int (j:Nat),H,I.tok _,⟨s.toks,rfl⟩,q⟩
end
section
variable {K:bi}{ta:TE}{a:AE}{ts:TA}{as:AA}
@[irreducible] def gIdx (ds:List D)(y:Int)(q:Nat->Prop):Prop:=∃(ns:List Int) (j:Nat),ds=ns.map D.int/\ns[j]? = some y/\j<1000000/\(∀m,m<j->ns[m]? ≠ some y)/\q j
theorem zd {ns:List Int}{y:Int}{j:Nat}{q:Nat->Prop}(h:ns[j]? = some y)(hj:j<1000000)(hno:∀m,m<j->ns[m]? ≠ some y)(hq:q j):gIdx (ns.map D.int) y q:=by unfold gIdx;exact⟨ns,j,rfl,h,hj,hno,hq⟩
def aIdx (a:AE)(as:AA):AE:=λρ q=>a ρ λr ρ1=>match view ρ1 r.frz with
 | some (.lst ds)=>as ρ1 λrs ρ2=>(match rs with
  | [.d (.int y)]=>gIdx ds y λj=>ρ1=ρ2/\q (.d (.int (j:Nat))) ρ2
  | _=>False)
 | _=>False
theorem yf (ha:TEok K ta a)(hs':TAok K ts as):TEok K (tBM K "list" (xJ K) ta ts) (aIdx a as):=by
 intro F σ ρ H q Q r h k
 refine ha F σ ρ H _ _ r h λr1 ρ1 x H1 h1 o1=>?_
 obtain⟨r1',k1,i1⟩:=o1.inF
 split at h1
 ·rename_i ds e
  obtain⟨l0,us0,rfl,sq0,_⟩:=cT r1' i1 e
  refine⟨.inl ⟨rfl,_,sq0⟩,hs' F σ ρ1 H1 _ _ r1' h1 λrs ρ2 vs H2 h2 r2 i2 k2=>?_⟩
  split at h2
  ·rename_i y
   obtain⟨z,rfl,iz⟩:=i2.one
   unfold gIdx at h2
   obtain⟨ns,j,rfl,hj,hsm,hno,e12,hq⟩:=h2
   subst e12
   obtain⟨l,us,el,sq,rd⟩:=cT r2 (i1.keep k2) e
   rw[jm]at rd
   rw[rd]at sq
   exact⟨l,ns,y,j,el,by rw[iz.int],sq,hj,hsm,hno,((k.after k1).after k2).int r2 hq⟩
  ·exact h2.elim
 ·exact h1.elim
end
section
variable {X:Cx}(K:bi)
def ue (K:bi):List V->Hp->VK->Prop:=λxs H Q=>∃(p:Addr) (ns:List Int),xs=[.ref p]/\SqL K H p (ns.map V.int)/\ns.length<64/\∀ns':List Int,ns'.Perm ns->ns'.Pairwise (· <= ·)->∀l,H l=none->Q (.ref l) (upd H l (.lst (ns'.map V.int)))
theorem qy (hK:X.K=K:=by rfl):iq X (.builtin "sorted") (ue K):=by
 subst hK
 intro pins s σ H xs us Q I r h
 obtain⟨a,ns,rfl,hq,h64,q1⟩:=h
 obtain⟨u1,rfl,ru⟩:=jY r
 cases ru
 obtain⟨its,rv,pl,hz⟩:=I.list hq
 have hl:its.length=ns.length:=by have:=rv.length;rw[f8]at this;omega
 refine sorted_ints pl.isList (sJ rv) (by omega) λout ns' a1 a2 a3=>?_
 obtain⟨e,he⟩:=sortedAll_at s.heap its out
 have hlen:=a2.length_eq
 refine⟨.ref (s.heap.objs.size+1),_,I.laid (t':=s.toks) (o:=.lst (ns'.map V.int)) (λb o q=>sortedAll_old q) (Fp _) ⟨?_,out.toList,e,iu a1,?_⟩,rfl,q1 ns' a2 a3 _ (I.hok.fresh (Fp _))⟩
 ·rw[f8];exact CI (ff (n:=ns'.length) (by omega))
 ·rw[he]
end
section
variable {K:bi}
@[irreducible] def gSorted:List R->AE:=λrs ρ q=>match rs with
 | [r]=>(match view ρ r with
  | some (.lst ds)=>(match gg ds with | some ns=>ns.length<64/\(∀ns':List Int,ns'.Perm ns->ns'.Pairwise (· <= ·)->q (.f (ns'.map D.int)) ρ) | none=>False)
  | _=>False)
 | _=>False
theorem qx:CbOk K (ue K) gSorted:=by
 intro F σ ρ H vs rs q Q a i h b
 unfold gSorted at h
 split at h
 ·obtain⟨y,rfl,iy⟩:=i.one
  split at h
  ·rename_i ds e
   split at h
   ·rename_i ns e'
    obtain⟨l,us,rfl,sq,rd⟩:=cT a iy e
    rw[oz e',jm]at rd
    rw[rd]at sq
    exact⟨l,ns,rfl,sq,h.1,λns' h1 h2 p hp=>b.new a (h.2 ns' h1 h2) (jm.mpr rfl) hp⟩
   ·exact h.elim
  ·exact h.elim
 ·exact h.elim
theorem sP {r:R}{ρ:En}{q:Ko}{ns:List Int}(hv:view ρ r=some (.lst (ns.map D.int)))(h64:ns.length<64)(h1:∀ns':List Int,ns'.Perm ns->ns'.Pairwise (· <= ·)->q (.f (ns'.map D.int)) ρ):gSorted [r] ρ q:=by
 unfold gSorted
 simp only[hv,sI]
 exact⟨h64,h1⟩
end
end L2
set_option maxHeartbeats 1000000
namespace L2
open PySem PySem.Spec PyProof.Rows
open PySem.MeetsSeq PySem.MeetsSeq2 PySem.MeetsSeq3
open PySem.AutoSeq1 (wpAny_loadPart')
end L2
namespace L2
open PySem PySem.Spec PyProof.Rows PySem.W
end L2
namespace L2
open PySem PySem.Spec PyProof.Rows Builtin
end L2
namespace L2
open PySem PySem.Spec PyProof.Rows
def Itw (K:bi)(l:Addr)(n:Nat):It :=
 ⟨λi H=>∃xs x,SqL K H l xs/\xs.length=n/\i<n/\xs[n - 1 - i]? = some x,λi H x H'=>H'=H/\∀xs,SqL K H l xs->xs[n - 1 - i]? = some x,λi H=>n<=i⟩
theorem vT {P:wE}{w:B2}{K:bi}{tg:Expr}(a it:Addr)(n:Nat):Turn P w K tg (Itw K a n) [it] it (λi h=>i<=n/\h.IsRevIter it a ((n:Int) - 1 - (i:Int))) where
 mem:=by simp
 obj:=λi h st b hb=>by
  have e:b=it:=by simpa using hb
  subst e
  obtain⟨_,o,e,c,d⟩:=st
  exact⟨o,e,λv z=>by rw[d]at z;cases z⟩
 keep:=λi h h' st k=>⟨st.1,st.2.at λo e=>k it (by simp) o e⟩
 item:=by
  intro X hP hw hK hc i pins s σ H E I hf st hg
  subst hP hw hK
  obtain⟨xs,x,hq,hn,hi,hx⟩:=hg
  obtain⟨its,rv,p,hz⟩:=I.list hq
  obtain⟨u,hu,ru⟩:=rv.get hx
  obtain⟨f0,f1,f2,f3,f4,f5⟩:=hf it (by simp)
  have st2:=st.2
  rw[show(n:Int) - 1 - (i:Int)=((n - 1 - i:Nat):Int)by omega]at st2
  refine wpAny_pyNext_rev_item st2 p.isList (x:=u) (by simpa using hu) λh' st' sb=>?_
  have I1:Inv X pins σ H {s with heap:=h'}:=I.turned (t':=s.toks) (λb o hb e=>(sb.2 b hb).trans e) f0 f1 f3 f4 f5
  rw[show((n - 1 - i:Nat):Int) - 1=(n:Int) - 1 - ((i+1:Nat):Int)by omega]at st'
  obtain⟨o,e,c,d⟩:=id st'
  exact⟨u,rfl,uZ (s:={s with heap:=h'}) e c d (by decide) ⟨x,H,I1,ru,⟨rfl,λys hy=>by rw[I.list_inj hy hq];exact hx⟩,⟨by omega,st'⟩,λb hb=>(hf b hb).1⟩⟩
 done:=by
  intro X hP hw hK hc i pins s σ H E I hf st hg
  subst hP hw hK
  obtain⟨f0,f1,f2,f3,f4,f5⟩:=hf it (by simp)
  have hg':n<=i:=hg
  have st2:=st.2
  have st1:=st.1
  rw[show(n:Int) - 1 - (i:Int) = -1 by omega]at st2
  exact wpAny_pyNext_rev_end (I.ok.hd hc) st2 λh' eb=>⟨rfl,I.turned (t':=s.toks) (λb o hb e=>eb b o hb e) f0 f1 f3 f4 f5⟩
 self:=λ_ _ _ _ _ st h=>Jg st.2 h
def iRev (K:bi)(t:TA):TI:=λσ H R=>t σ H λvs H1=>∃l xs,vs=[.ref l]/\SqL K H1 l xs/\R (Itw K l xs.length) H1
theorem Ac (K:bi){X:Cx}{tg:Expr}{a:Expr}{ta:TA}{p pos:Pos}(hg:Gl X "reversed")(hm:X.mg "reversed" = none)(ha:PA X [a] ta)(hK:X.K=K:=by rfl)(hs:B1 [a] X.env=[(false,eval a X.env)]:=by rfl) :
  PI X tg (.Call (.Name "reversed" p) [a] [] pos) (iRev K ta):=by
 subst hK
 intro pins s σ H R I h
 refine IS (gE I hg hm qA (CB (thn (ha pos pins s σ H _ I h) λus s1 ⟨vs,H1,I1,r1,q1⟩=>?_) hs rfl))
 obtain⟨l,xs,rfl,h1,q⟩:=q1
 obtain⟨u,rfl,ru⟩:=jY r1
 cases ru
 obtain⟨its,rv,p1,_⟩:=I1.list h1
 have hl:=rv.length
 refine call_reversed_list p1.isList ?_
 have it:Heap.IsRevIter (s1.heap.push (revObj l ((its.toArray.size:Int) - 1))) s1.heap.objs.size l ((xs.length:Int) - 1 - ((0:Nat):Int)):=⟨_,ww _ rfl,rfl,by rw[on,<- hl];simp[revObj]⟩
 refine Jg it ?_
 refine⟨s1.heap.objs.size,[s1.heap.objs.size],_,_,H1,rfl,I1.kept (t':=s1.toks) λb o e=>db _ e,vT l _ xs.length,⟨zn _,it⟩,λb hb=>?_,q⟩
 have e:b=s1.heap.objs.size:=by simpa using hb
 subst e
 exact I1.fpOk (li _) (I1.hok.fresh (li _))
section
variable {K:bi}{ts:TA}{as:AA}
theorem zM {S:Addr->Prop}{H:Hp}{a:Addr}{vs:List V}{ds:List D}(h:SqL K H a vs)(rd:RepDs K (hid H S) vs ds):WkAt K S H (Itw K a vs.length) ds.reverse:=by
 have hl:=rd.length
 intro k
 constructor
 ·intro d e
  have hk:k<ds.length:=by
   have:=(im.mp e).1
   rwa [E2]at this
  rw[Ij hk]at e
  obtain⟨v,e1,rv⟩:=rd.get e
  rw[<- hl]at e1
  refine⟨⟨vs,v,h,rfl,by omega,e1⟩,λx H' z=>⟨z.1▸Same.refl H,?_⟩⟩
  have:=z.2 vs h
  rw[e1]at this;cases this;rw[z.1];exact rv
 ·intro z
  rw[E2]at z
  show vs.length<=k
  omega
theorem s_ {pin:Nat->Bool}{ρ:En}{r:R}{ds:List D}{c:En->Prop}(e:nB pin ρ r=some (ds,c)):c ρ:=by
 cases r with
 | n s=>cases e
 | t n=>cases e
 | x n=>cases e
 | d d =>
  cases d with
  | lst es=>simp only[nB,Co,Eh]at e;rw[<- e.2];trivial
  | _=>cases e
 | o i =>
  unfold nB at e
  cases hg:gt ρ i with
  | ow es =>
   simp only[hg]at e
   split at e
   ·simp only[Co,Eh]at e
    rw[<- e.2];exact hg
   ·cases e
  | _=>simp[hg]at e
def aRvd (pin:Nat->Bool)(as:AA):AI:=λρ q=>as ρ λrs ρ1=>match rs with
 | [r1]=>(match nB pin ρ1 r1 with
  | some (ds,c)=>q ds.reverse c ρ1
  | _=>False)
 | _=>False
theorem v5 {pin:Nat->Bool}(h:TAok K ts as):TIok K pin (iRev K ts) (aRvd pin as):=by
 intro F σ ρ H q Rk r ha k
 refine h F σ ρ H _ _ r ha λrs ρ1 vs H1 h1 r1 i1 k1=>?_
 split at h1
 ·obtain⟨x,rfl,ix⟩:=i1.one
  split at h1
  ·rename_i ds c e1
   obtain⟨l1,us1,rfl,s1,w1⟩:=qJ r1 ix e1
   obtain⟨v0,z0,rd0⟩:=w1 σ ρ1 H1 (Same.refl _) r1.sl (λ_ _ _ e=>e) (s_ e1)
   refine⟨l1,v0,rfl,z0,k _ _ _ _ _ h1 r1 k1 λσ2 ρ2 H2 sm sv pn al hc=>?_⟩
   obtain⟨v1,z1,rd1⟩:=w1 σ2 ρ2 H2 sm sv pn hc
   have:=zM z1 rd1
   rw[rd1.length,<- rd0.length]at this
   exact this
  ·exact h1.elim
 ·exact h1.elim
end
theorem kQ {prog:wE}{w:B2}{A:Ca}(hh:A.handled=none)(it l:Addr)(hne:l≠it)(xs:Array bn) :
  J5 prog w A it [it,l] xs.size (λi v=>xs[i]? = some v) (λi h=>h.IsTupleIter it l i/\h.IsTuple l xs) where
 live:=λ_ _ st=>let ⟨o,ho,_⟩:=st.1;⟨o,ho⟩
 frame:=λ_ _ _ st hk=>(m4 (prog:=prog) (w:=w) hne).keep _ _ _ st λb o hb e=>hk b hb o e
 item:=λi s Q E hi st hQ=>(m4 hne).item A i s xs[i] Q E st (by simp[hi]) λh' st' sb=>hQ _ h' s.toks (by simp[hi]) st' sb
 done:=λs Q E st hE=>(m4 hne).fin A xs.size s Q E hh st (by simp) hE
open AutoSeq1 (wpAny_loadPart') in
theorem qe (l:Addr)(xs:Array bn) :
  Meets (Builtin.«enumerate.__new__» ⟨[.type "enumerate",.ref l],[]⟩) (λ_ R s=>s.heap.IsTuple l xs /\
   R (.ok (.ret (.ref (s.heap.push {cls:=.type "tuple_iterator",data:=.fields #[.ref l,.int 0 0]}).objs.size)))
    {s with heap:=(s.heap.push {cls:=.type "tuple_iterator",data:=.fields #[.ref l,.int 0 0]}).push {cls:=.type "enumerate",data:=.fields #[.none,.bool false,.ref s.heap.objs.size,DK 0,.none,.none]}}) :=
 .of_wp λprog w A R s h=>by
  obtain⟨hp,g,d,tk,os⟩:=s;obtain⟨hl,h⟩:=h
  have hsub:=sub_enumerate
  have hL:Heap.IsTuple (Shared.heap ⟨hp,g,d,tk,os⟩) l xs:=hl
  wp_walk
  refine wpAny_stack_any λst=>dL ?_
  split
  ·rename_i c _ _ _ _ _
   cases (c==Value.type "enumerate")
   ·wp_walk using Ft hL
    exact⟨_,rfl,h⟩
   ·wp_walk using Ft hL
    exact⟨_,rfl,h⟩
  ·wp_walk using Ft hL
   exact⟨_,rfl,h⟩
theorem l8 {prog:wE}{w:B2}{A:Ca}{E:bn->ca->Prop}{s:ca}{l:Addr}{xs:Array bn}{Q:bn->ca->Prop}(hL:s.heap.IsTuple l xs)
  (h:∀h',Hx h' (s.heap.objs.size+1) s.heap.objs.size 0 .none->h'.IsTupleIter s.heap.objs.size l 0->h'.objs.size=s.heap.objs.size+2 ->
   (∀b o,s.heap.get? b=some o->h'.get? b=some o)->Q (.ref (s.heap.objs.size+1)) {s with heap:=h'}) :
  lm (sn prog w) A (call (.type "enumerate") [.ref l]) Q E s:=by
 refine callType_new F.called_enumerate (by decide) (F.typeCall_enumerate_1 _) (F.newCall_enumerate_1 _) (λobj=>F.args_object_init_2 obj _) F.entry_enumerate_new
  (qe l xs) ⟨hL,?_⟩
 have hz:(s.heap.push {cls:=.type "tuple_iterator",data:=.fields #[.ref l,.int 0 0]}).objs.size=s.heap.objs.size+1:=C0 ..
 show _/\_
 rw[hz]
 have he:Hx ((s.heap.push {cls:=.type "tuple_iterator",data:=.fields #[.ref l,.int 0 0]}).push
   {cls:=.type "enumerate",data:=.fields #[.none,.bool false,.ref s.heap.objs.size,DK 0,.none,.none]}) (s.heap.objs.size+1) s.heap.objs.size 0 .none:=by
  have:=ww (s.heap.push {cls:=.type "tuple_iterator",data:=.fields #[.ref l,.int 0 0]})
   (o:={cls:=.type "enumerate",data:=.fields #[.none,.bool false,.ref s.heap.objs.size,DK 0,.none,.none]}) rfl
  rw[hz]at this;exact this
 refine⟨⟨_,he,rfl⟩,h _ he ⟨_,db _ (ww _ rfl),rfl,rfl⟩ (by rw[C0,hz]) λb o x=>db _ (db _ x)⟩
def Itf (K:bi)(l:Addr)(n:Nat):It :=
 ⟨λi H=>∃xs x,SqT K H l xs/\xs.length=n/\xs[i]? = some x,λi H v H'=>∃p x,v = .ref p/\H p=none/\H'=upd H p (.tup [.int (i:Nat),x])/\∀xs,SqT K H l xs->xs[i]? = some x,
  λi H=>n<=i/\∃xs,SqT K H l xs/\xs.length=n⟩
theorem rW {P:wE}{w:B2}{K:bi}{elts:List Expr}{x1}{tpos:Pos}{e it l:Addr}{n:Nat}(ne:e≠it)(nl:l≠it)(nel:e≠l) :
  Turn P w K (.Tuple elts x1 tpos) (Itf K l n) [e,it] e (λi h=>((∃old,Hx h e it (i:Nat) old)/\h.IsTupleIter it l i)/\i<=n) where
 mem:=by simp
 obj:=λi h st b hb=>by
  obtain⟨⟨⟨old,he⟩,⟨o1,e1,c1,d1⟩⟩,_⟩:=st
  simp only[sB,Cp,or_false]at hb
  rcases hb with rfl | rfl
  ·exact⟨_,he,λv q=>by cases q⟩
  ·exact⟨o1,e1,λv q=>by rw[d1]at q;cases q⟩
 keep:=λi h h' st k=>by
  obtain⟨⟨⟨old,he⟩,h1⟩,hi⟩:=st
  exact⟨⟨⟨old,k e (by simp) _ he⟩,h1.at λo q=>k it (by simp) o q⟩,hi⟩
 item:=by
  intro X hP hw hK hc i pins s σ H E I hf st hg
  subst hP hw hK
  obtain⟨xs,x,q1,hln,hx⟩:=hg
  obtain⟨⟨⟨old,he⟩,h1⟩,hin⟩:=st
  obtain⟨its,rv,p1,_⟩:=I.tuple q1
  have hxi:=(im.mp hx).1
  obtain⟨u,hu,ru⟩:=rv.get hx
  have hlt:i<its.toArray.size:=by rw[on];exact(im.mp hu).1
  refine IC (kQ (show X.A.in1.handled=none from I.ok.hd hc) it l nl its.toArray) he ⟨h1,p1⟩ hlt ne (by simp[ne,nel]) λy h' tk hy a1 a2 a3 a4 hk=>?_
  have ey:y=u:=by
   have hy':its[i]? = some y:=by simpa using hy
   rw[hu]at hy';cases hy';rfl
  subst ey
  refine⟨_,rfl,HW (s:={s with heap:=h',toks:=tk+1}) a1 λh2' he' hs'=>?_⟩
  have hs2:Cq e h' h2':=hs'
  have ls:∀ {b o},s.heap.get? b=some o->b≠s.heap.objs.size:=λe=>wP (lc e)
  have es:e≠s.heap.objs.size:=ls he
  have up:∀b o,b∉[e,it]->s.heap.get? b=some o->h2'.get? b=some o:=λb o hb q=>by
   simp only[sB,Cp,or_false,not_or]at hb
   exact(hs2.2 b hb.1).trans (hk b o hb.1 hb.2 q)
  have I1:Inv X pins σ H {s with heap:=h2',toks:=tk+1}:=I.turns (t':=tk+1) up hf
  have fp:FpOk X pins H s.heap.objs.size:=I.fpOk (li _) (I.hok.fresh (li _))
  have g:h2'.get? s.heap.objs.size=some {cls:=.type "tuple",data:=.seq #[.int i tk,y]}:=(hs2.2 _ (Dk es)).trans a3
  have I2:=I1.trackO (o:=.tup [.int (i:Nat),x]) fp ⟨by show 2<=wT;decide,[.int i tk,y],.cons ⟨_,rfl⟩ (.cons ru .nil),_,g,rfl,_,rfl⟩
  refine⟨.ref s.heap.objs.size,upd H s.heap.objs.size (.tup [.int (i:Nat),x]),I2,rfl,⟨_,x,rfl,fp.1,rfl,λzs hz=>by rw[I.tuple_inj hz q1];exact hx⟩,?_,λb hb=>?_⟩
  ·refine⟨⟨⟨y,by simpa using he'⟩,?_⟩,by omega⟩
   obtain⟨o,q,r⟩:=a2.1;exact⟨o,(hs2.2 it (Dk ne)).trans q,r⟩
  ·have hb':=(hf b hb).1
   have ne':b≠s.heap.objs.size:=by
    obtain⟨o1,e1,_⟩:=h1
    simp only[sB,Cp,or_false]at hb
    rcases hb with rfl | rfl
    ·exact ls he
    ·exact ls e1
   rw[aR ne'];exact hb'
 done:=by
  intro X hP hw hK hc i pins s σ H E I hf st hg
  subst hP hw hK
  obtain⟨hni,xs,q1,hl⟩:=hg
  obtain⟨⟨⟨old,he⟩,h1⟩,hin⟩:=st
  obtain⟨its,rv,p1,_⟩:=I.tuple q1
  have l1:=rv.length
  have ei:i=its.toArray.size:=by rw[on];omega
  subst ei
  refine IU (kQ (show X.A.in1.handled=none from I.ok.hd hc) it l nl its.toArray) he ⟨h1,p1⟩ λh' hk=>⟨rfl,I.turns (ch:=[e,it]) (t':=s.toks) (λb o hb q=>?_) hf⟩
  simp only[sB,Cp,or_false,not_or]at hb
  exact hk b o hb.2 q
 self:=λ_ _ _ _ _ st h=>by obtain⟨⟨⟨old,he⟩,_⟩,_⟩:=st;exact EG he h
def xV (K:bi)(t:TA):TI:=λσ H R=>t σ H λvs H1=>∃l xs,vs=[.ref l]/\SqT K H1 l xs/\R (Itf K l xs.length) H1
theorem wu (K:bi){X:Cx}{elts:List Expr}{x1}{tpos:Pos}{a:Expr}{ta:TA}{p pos:Pos}(hg:Gl X "enumerate")(hm:X.mg "enumerate" = none)(ha:PA X [a] ta)(hK:X.K=K:=by rfl)(hs:B1 [a] X.env=[(false,eval a X.env)]:=by rfl) :
  PI X (.Tuple elts x1 tpos) (.Call (.Name "enumerate" p) [a] [] pos) (xV K ta):=by
 subst hK
 intro pins s σ H R I h
 refine IS (gE I hg hm gQ (CB (thn (ha pos pins s σ H _ I h) λus s1 ⟨vs,H1,I1,r1,q1⟩=>?_) hs rfl))
 obtain⟨l,xs,rfl,h1,q⟩:=q1
 obtain⟨u,rfl,ru⟩:=jY r1
 cases ru
 obtain⟨its,_,p1,_⟩:=I1.tuple h1
 have lt:l<s1.heap.objs.size:=by obtain⟨o,e,_⟩:=id p1;exact lc e
 refine l8 p1 λh' he hi hsz hk=>?_
 refine EG he ?_
 refine⟨_,_,_,_,H1,rfl,I1.kept (t':=s1.toks) hk,rW (show s1.heap.objs.size+1≠s1.heap.objs.size by omega) (wP lt) (Dk (wP (Fo lt))),⟨⟨⟨_,he⟩,hi⟩,zn _⟩,λb hb=>?_,q⟩
 have le:s1.heap.objs.size<=b:=by
  simp only[sB,Cp,or_false]at hb
  rcases hb with rfl | rfl <;> omega
 exact I1.fpOk le (I1.hok.fresh le)
section
variable {K:bi}{ts:TA}{as:AA}
theorem vQ {S:Addr->Prop}{H:Hp}{l:Addr}{vs:List V}{ds:List D}(al:∀a,S a->H a≠none)(h1:SqT K H l vs)(r1:RepDs K (hid H S) vs ds):WkAt K S H (Itf K l vs.length) (dS 0 ds):=by
 intro k
 constructor
 ·intro d e
  obtain⟨x,ex,rfl⟩:=cQ e
  rw[CU]
  obtain⟨v,e1,rv⟩:=r1.get ex
  refine⟨⟨vs,v,h1,rfl,e1⟩,λz H' ⟨p,a,ez,hp,eH,ha⟩=>?_⟩
  have a1:=ha vs h1
  rw[e1]at a1
  cases a1
  subst eH ez
  have sm:Same H (upd H p (.tup [.int (k:Nat),v])):=(Same.refl H).new hp
  have sm':Same (hid H S) (hid (upd H p (.tup [.int (k:Nat),v])) S):=bq λa o e n=>⟨sm a o e,n⟩
  refine⟨sm,?_⟩
  unfold RepD
  exact⟨p,[.int (k:Nat),v],rfl,(gG (λz=>al p z hp) aS),.cons (by unfold RepD;rfl) (.cons (rv.same sm') .nil)⟩
 ·intro z
  rw[bU]at z
  exact⟨by rw[r1.length];exact z,vs,h1,rfl⟩
def Bb (as:AA):AI:=λρ q=>as ρ λrs ρ1=>match rs with
 | [.d (.tup ds)]=>q (dS 0 ds) (λ_=>True) ρ1
 | _=>False
theorem rY {pin:Nat->Bool}(h:TAok K ts as):TIok K pin (xV K ts) (Bb as):=by
 intro F σ ρ H q Rk r ha k
 refine h F σ ρ H _ _ r ha λrs ρ1 vs H1 h1 r1 i1 k1=>?_
 split at h1
 ·rename_i ds
  obtain⟨x,rfl,ix⟩:=i1.one
  have rd:RepD K _ x (.tup ds):=ix
  unfold RepD at rd
  obtain⟨a,vs,rfl,sq,rd⟩:=rd
  refine⟨a,vs,rfl,cf.seqT sq.sq,k _ _ _ _ _ h1 r1 k1 λσ2 ρ2 H2 sm sv pn al hc=>?_⟩
  exact vQ (λa z=>(al a z).1) (cf.seqT (sm.seqT sq.sq)) (rd.same sm)
 ·exact h1.elim
end
end L2
namespace L2
open PySem PySem.Spec PyProof.Rows PySem.W
end L2
namespace L2
open PySem PySem.Spec PyProof.Rows PySem.W Builtin Builtin.ObjectAttr
end L2
namespace L2
open PySem PySem.Spec PyProof.Rows PySem.W
end L2
namespace L2
open PySem PySem.Spec PyProof.Rows
section
variable {P:wE}{w:B2}{A:Ca}{R:EK->ca->Prop}{s:ca}
theorem m_ (elt tg iter tg2 iter2:Expr)(ifs ifs2:List Expr)(scope:Dw)(pos:Pos)(it acc:bn)(env:Env) :
  FR (.ListComp elt [⟨tg,iter,ifs,0⟩,⟨tg2,iter2,ifs2,0⟩] scope pos) 0 it acc env=(do
   Eg iter.pos
   match <- Es it with
   | none=>pure (.done .next)
   | some v =>
    Db tg it v
    D1 tg env v
    let mut ok:=true
    for c in ifs do
     if ok then ok <- Fw c env (eval c env)
    if ok then
     let x <- eval iter2 env
     Eg iter2.pos
     let x <- CY iter2 env x
     let _ <- runOwn (.compStart (.ListComp elt [⟨tg,iter,ifs,0⟩,⟨tg2,iter2,ifs2,0⟩] scope pos) 1 (<- Gz [x] (GY x)) acc env) env
    II (.compLoop (.ListComp elt [⟨tg,iter,ifs,0⟩,⟨tg2,iter2,ifs2,0⟩] scope pos) 0 it acc env)):=by rfl
theorem m9 (elt tg iter tg2 iter2:Expr)(ifs ifs2:List Expr)(scope:Dw)(pos:Pos)(it acc:bn)(env:Env) :
  FR (.ListComp elt [⟨tg,iter,ifs,0⟩,⟨tg2,iter2,ifs2,0⟩] scope pos) 1 it acc env=(do
   Eg iter2.pos
   match <- Es it with
   | none=>pure (.done .next)
   | some v =>
    Db tg2 it v
    D1 tg2 env v
    let mut ok:=true
    for c in ifs2 do
     if ok then ok <- Fw c env (eval c env)
    if ok then
     (do let _ <- call (.builtin "list.append") [acc,<- eval elt env])
    II (.compLoop (.ListComp elt [⟨tg,iter,ifs,0⟩,⟨tg2,iter2,ifs2,0⟩] scope pos) 1 it acc env)):=by rfl
abbrev zU (M:Model)(A:Ca)(ifs:List Expr)(env:Env)(Q:Bool->ca->Prop)(s:ca):Prop :=
 lm M A (forIn ifs true λc r=>if r=true then do let ok <- Fw c env (eval c env);pure (ForInStep.yield ok)else pure (ForInStep.yield r)) Q (λ_ _=>False) s
theorem vp {elt tg iter tg2 iter2:Expr}{ifs ifs2:List Expr}{scope:Dw}{pos:Pos}{it acc:bn}{env:Env}(J:Nat->ca->Prop)
  (turn:∀n s,J n s->lm (sn P w) A (Es it) (λr s1=>match r with
   | none=>R (.ok .next) s1
   | some v=>lm (sn P w) A (Db tg2 it v) (λ_ s2=>lm (sn P w) A (D1 tg2 env v) (λ_ s3 =>
     zU (sn P w) A ifs2 env (λok s4 =>
      if ok=true then lm (sn P w) A (eval elt env) (λx s5=>lm (sn P w) A (call (.builtin "list.append") [acc,x]) (λ_ s6=>∃m,m<n/\J m s6) (λ_ _=>False) s5) (λ_ _=>False) s4
      else ∃m,m<n/\J m s4) s3) (λ_ _=>False) s2) (λ_ _=>False) s1) (λ_ _=>False) s)
  (n:Nat) (h:J n s):CZ (sn P w) A (.compLoop (.ListComp elt [⟨tg,iter,ifs,0⟩,⟨tg2,iter2,ifs2,0⟩] scope pos) 1 it acc env) R s:=by
 have no:∀ {α:Type} {t:Sem α} {Q Q':α->ca->Prop} {E:bn->ca->Prop} {s:ca},lm (sn P w) A t Q (λ_ _=>False) s->(∀a s,Q a s->Q' a s)->lm (sn P w) A t Q' E s :=
  λh hq=>Dn h hq λ_ _ f=>f.elim
 refine FY rfl J (λn s hJ=>?_) n h
 show lm _ A ((FR (.ListComp elt [⟨tg,iter,ifs,0⟩,⟨tg2,iter2,ifs2,0⟩] scope pos) 1 it acc env).onRaise (λx=>do FQ x env;Fh x)) _ _ s
 refine Gm ?_
 rw[m9]
 refine bm (CT (bm (no (turn n s hJ) λr s1 h1=>?_)))
 cases r with
 | none=>exact dL h1
 | some v =>
  refine bm (no h1 λ_ s2 h2=>bm (no h2 λ_ s3 h3=>bm (no h3 λok s4 h4=>?_)))
  cases ok with
  | false=>exact dL ⟨rfl,h4⟩
  | true=>exact bm (bm (no h4 λx s5 h5=>bm (no h5 λ_ s6 h6=>dL (dL ⟨rfl,h6⟩))))
theorem vq {elt tg iter tg2 iter2:Expr}{ifs ifs2:List Expr}{scope:Dw}{pos:Pos}{it acc:bn}{env:Env}(J:Nat->ca->Prop)(hf:∀x,CY iter2 env x=pure x)
  (turn:∀n s,J n s->lm (sn P w) A (Es it) (λr s1=>match r with
   | none=>R (.ok .next) s1
   | some v=>lm (sn P w) A (Db tg it v) (λ_ s2=>lm (sn P w) A (D1 tg env v) (λ_ s3 =>
     zU (sn P w) A ifs env (λok s4 =>
      if ok=true then lm (sn P w) A (eval iter2 env) (λx s5=>lm (sn P w) A (GY x) (λitv s6 =>
       CZ (sn P w) A (.compStart (.ListComp elt [⟨tg,iter,ifs,0⟩,⟨tg2,iter2,ifs2,0⟩] scope pos) 1 itv acc env) (λr s7=>r = .ok .next/\∃m,m<n/\J m s7) s6) (λ_ _=>False) s5) (λ_ _=>False) s4
      else ∃m,m<n/\J m s4) s3) (λ_ _=>False) s2) (λ_ _=>False) s1) (λ_ _=>False) s)
  (n:Nat) (h:J n s):CZ (sn P w) A (.compLoop (.ListComp elt [⟨tg,iter,ifs,0⟩,⟨tg2,iter2,ifs2,0⟩] scope pos) 0 it acc env) R s:=by
 have no:∀ {α:Type} {t:Sem α} {Q Q':α->ca->Prop} {E:bn->ca->Prop} {s:ca},lm (sn P w) A t Q (λ_ _=>False) s->(∀a s,Q a s->Q' a s)->lm (sn P w) A t Q' E s :=
  λh hq=>Dn h hq λ_ _ f=>f.elim
 refine FY rfl J (λn s hJ=>?_) n h
 show lm _ A ((FR (.ListComp elt [⟨tg,iter,ifs,0⟩,⟨tg2,iter2,ifs2,0⟩] scope pos) 0 it acc env).onRaise (λx=>do FQ x env;Fh x)) _ _ s
 refine Gm ?_
 rw[m_]
 refine bm (CT (bm (no (turn n s hJ) λr s1 h1=>?_)))
 cases r with
 | none=>exact dL h1
 | some v =>
  refine bm (no h1 λ_ s2 h2=>bm (no h2 λ_ s3 h3=>bm (no h3 λok s4 h4=>?_)))
  cases ok with
  | false=>exact dL ⟨rfl,h4⟩
  | true =>
   refine bm (no h4 λx s5 h5=>bm (CT (bm (Jh (hf x) (bm (DZ (no h5 λitv s6 h6=>?_)))))))
   refine bm (wpAny_runOwn (Fl h6 λr s7 h7=>?_))
   obtain⟨rfl,h7⟩:=h7
   exact dL ⟨rfl,h7⟩
theorem ly {elt tg iter tg2 iter2:Expr}{ifs ifs2:List Expr}{scope:Dw}{pos:Pos}{it acc:bn}{env:Env}
  (h0:CZ (sn P w) A (.compLoop (.ListComp elt [⟨tg,iter,ifs,0⟩,⟨tg2,iter2,ifs2,0⟩] scope pos) 1 it acc env) R s)
  (h:lm (sn P w) A (GY it) (λit' s'=>CZ (sn P w) A (.compLoop (.ListComp elt [⟨tg,iter,ifs,0⟩,⟨tg2,iter2,ifs2,0⟩] scope pos) 1 it' acc env) R s') (notedBy (sn P w) A env λx s'=>R (.error x) s') s) :
  CZ (sn P w) A (.compStart (.ListComp elt [⟨tg,iter,ifs,0⟩,⟨tg2,iter2,ifs2,0⟩] scope pos) 1 it acc env) R s:=by
 refine Kj ?_
 show lm _ _ ((IF (.ListComp elt [⟨tg,iter,ifs,0⟩,⟨tg2,iter2,ifs2,0⟩] scope pos) 1 it acc env).onRaise (λx=>do FQ x env;Eg Ki)) _ _ s
 refine wpAny_notedAt ?_
 unfold IF
 show lm _ _ (ask>>=_) _ _ s
 refine bm (DO (wpAny_ite ?_))
 split
 ·first
   | exact bm (dL (dL (And.intro rfl h0)))
   | exact dL (And.intro rfl h0)
 ·first
   | exact bm (DQ (bm (CT (bm (Dn h (λit' s' h'=>dL (And.intro rfl h')) λ_ _ x=>x)))))
   | (refine bm (DQ ?_);show lm _ _ (Eg iter2.pos>>=_) _ _ s;exact bm (CT (bm (Dn h (λit' s' h'=>dL (And.intro rfl h')) λ_ _ x=>x))))
end
def zJ (J:It)(g:TG)(tc:TT)(te:TE)(N:List V->Hp->Prop)(σ:St)(ys0:List V)(H1:Hp):Prop:=∃W:Nat->Nat->List V->Hp->Prop,(∃m,W 0 m ys0 H1)/\∀i m ys H,W i m ys H ->
 (J.stop i H/\N ys H) ∨
 (J.go i H/\ys.length<wT/\∃N2:List V->Hp->Prop,(∀zs H',N2 zs H'->∃m',m'<m/\W (i+1) m' zs H')/\∀x H',J.yld i H x H'->g x σ H' λσ2 H2=>(σ2.length=σ.length/\∀(j:Nat) v,σ[j]? = some (some v)->σ2[j]? = some (some v))/\tc σ2 H2 λb H3 =>
  if b=true then te σ2 H3 λv H4=>N2 (ys++[v]) H4 else N2 ys H3)
def x6 (J:It)(n:Nat)(js:List Nat)(g:TG)(tc:TT)(wi2:TI)(g2:TG)(tc2:TT)(te:TE)(Q:VK)(σ:St)(H1:Hp):Prop:=∃W:Nat->Nat->List V->Hp->Prop,(∃m,W 0 m [] H1)/\∀i m ys H,W i m ys H ->
 (J.stop i H/\ys.length<=wT/\∀l,H l=none->Q (.ref l) (upd H l (.lst ys))) ∨
 (J.go i H/\∃N:List V->Hp->Prop,(∀zs H',N zs H'->∃m',m'<m/\W (i+1) m' zs H')/\∀x H',J.yld i H x H'->g x (bst n σ js) H' λσ2 H2=>σ2.drop n=capt σ js/\tc σ2 H2 λb H3 =>
  if b=true then wi2 σ2 H3 λJ2 H4=>zJ J2 g2 tc2 te N σ2 ys H4 else N ys H3)
def qQ (n:Nat)(js:List Nat)(wi:TI)(g:TG)(tc:TT)(wi2:TI)(g2:TG)(tc2:TT)(te:TE):TE:=λσ H Q=>wi σ H λJ H1=>x6 J n js g tc wi2 g2 tc2 te Q σ H1
section
variable {Y:Cx}
theorem sL {elt tg iter tg2 iter2:Expr}{ifs ifs2:List Expr}{scope:Dw}{pos:Pos}{g2:TG}{tc2:TT}{te:TE}{N:List V->Hp->Prop}{D:Addr}{pl:List (Addr×Obj)}{σ:St}{itv:bn}{ys:List V}{its:List bn}{k:Nat}{s:ca}
  {RR:EK->ca->Prop} (xe:Y.xe=λ_ _=>False) (hc:Y.calm=true) (hg:PG Y tg2 g2) (ht:PTs Y ifs2 tc2) (he:PE Y elt te)
  (szD:Y.s₀.heap.objs.size<=D) (neDL:D≠Y.env.locals) (notFs:D∉Y.fs) (clB:∀x d,Y.env.cells.lookup x=some d->d≠D) (plD:∀p∈Y.pn++pl,p.1≠D)
  (h:PIE Y ((D,{cls:=.type "list",data:=.seq its.toArray k})::pl) σ tg2 (λJ H1=>zJ J g2 tc2 te N σ ys H1) itv s) (r0:Vals ys its)
  (hR:∀zs its' k' H' s',Inv Y pl σ H' s'->Vals zs its'->s'.heap.get? D=some {cls:=.type "list",data:=.seq its'.toArray k'}->H' D=none->N zs H'->RR (.ok .next) s') :
  CZ (sn Y.prog Y.w) Y.A (.compStart (.ListComp elt [⟨tg,iter,ifs,0⟩,⟨tg2,iter2,ifs2,0⟩] scope pos) 1 itv (.ref D) Y.env) RR s:=by
 obtain⟨it,fp,tn,J,H2,rfl,I2,T,st2,f2,W,⟨m0,w0⟩,turn⟩:=h
 have plN:∀p∈pl,p.1≠D:=λp hp=>plD p (ga _ hp)
 have fpD:∀b∈fp,b≠D:=λb hb=>((f2 b hb).2.2.2.2.2 (D,{cls:=.type "list",data:=.seq its.toArray k}) (ga _ (B3 ..))).symm
 have p0:=I2.pin (D,{cls:=.type "list",data:=.seq its.toArray k}) (ga _ (B3 ..))
 have f2':∀(its':List bn) (k':Nat) {H':Hp},(∀b∈fp,H' b=none)->∀b∈fp,FpOk Y ((D,{cls:=.type "list",data:=.seq its'.toArray k'})::pl) H' b:=λits' k' {H'} hn b hb=>by
  obtain⟨f0,f1,f3,f4,f5,f6⟩:=f2 b hb
  refine⟨hn b hb,f1,f3,f4,f5,λp hp=>?_⟩
  rcases BO.mp hp with z | z
  ·exact f6 p (BS _ z)
  ·rcases sB.mp z with z | z
   ·rw[z];exact(fpD b hb).symm
   ·exact f6 p (ga _ (BU _ z))
 have loop:CZ (sn Y.prog Y.w) Y.A (.compLoop (.ListComp elt [⟨tg,iter,ifs,0⟩,⟨tg2,iter2,ifs2,0⟩] scope pos) 1 (.ref it) (.ref D) Y.env) RR s:=by
  refine vp (λn s'=>∃(i:Nat) (ys:List V) (its:List bn) (k:Nat) (H':Hp),Inv Y pl σ H' s'/\tn i s'.heap/\(∀b∈fp,H' b=none)/\H' D=none/\Vals ys its /\
   s'.heap.get? D=some {cls:=.type "list",data:=.seq its.toArray k}/\W i n ys H') ?_ m0 ⟨0,ys,its,k,H2,I2.pins_of λp hp=>I2.pin p (ga _ (BU _ hp)),st2,λb hb=>(f2 b hb).1,p0.2.1,r0,p0.1,w0⟩
  rintro n s3 ⟨i,ys,its,k,H3,I3,st3,fr3,hD3,r3,g3,w3⟩
  have I3p:Inv Y ((D,{cls:=.type "list",data:=.seq its.toArray k})::pl) σ H3 s3:=I3.pins_of λp hp=>by
   rcases sB.mp hp with z | z
   ·subst z
    exact⟨g3,hD3,neDL,notFs,λv z=>by cases z⟩
   ·exact I3.pin p (ga _ z)
  have f3:=f2' its k fr3
  rcases turn i n ys H3 w3 with⟨stop,qn⟩ | ⟨go,hz,N2,hN,step⟩
  ·refine thn (T.done Y rfl rfl rfl hc i _ s3 _ H3 (λ_ _=>False) I3p f3 st3 stop) λr s4 ⟨hr,I4⟩=>?_
   subst hr
   have g4:=I4.pin (D,{cls:=.type "list",data:=.seq its.toArray k}) (ga _ (B3 ..))
   exact hR ys its k H3 s4 (I4.pins_of λp hp=>I4.pin p (ga _ (BU _ hp))) r3 g4.1 hD3 qn
  ·refine thn (T.item Y rfl rfl rfl hc i _ s3 _ H3 (λ_ _=>False) I3p f3 st3 go) λr s4 ⟨u,hr,h4⟩=>?_
   subst hr
   refine thn h4 λ_ s5 ⟨x,H5,I5,r5,y5,st5,fr5⟩=>?_
   have I5':=I5.pinned (f2' its k fr5) (T.obj _ _ st5)
   refine thn (xe▸hg _ s5 _ H5 x u _ I5' r5 (step x H5 y5)) λ_ s6 ⟨σ6,H6,I6,⟨l6,d6⟩,q6⟩=>?_
   refine thn (xe▸ht _ s6 σ6 H6 _ I6 q6) λok s7 ⟨H7,I7,q7⟩=>?_
   have after:∀ {s8:ca} {H8:Hp},Inv Y ((D,{cls:=.type "list",data:=.seq its.toArray k})::pl++f9 fp s5.heap) σ6 H8 s8 ->
     s8.heap.get? D=some {cls:=.type "list",data:=.seq its.toArray k}/\H8 D=none/\tn (i+1) s8.heap/\(∀b∈fp,H8 b=none)/\Inv Y pl σ H8 s8:=λ{s8 H8} I8=>by
    have p8:=I8.pin (D,{cls:=.type "list",data:=.seq its.toArray k}) (ga _ (BS _ (B3 ..)))
    refine⟨p8.1,p8.2.1,T.keep _ _ _ st5 λb hb o e=>(I8.pin (b,o) (ga _ (ga _ (bZ hb e)))).1,λb hb=>?_,?_⟩
    ·obtain⟨o,e,_⟩:=T.obj _ _ st5 b hb
     exact(I8.pin (b,o) (ga _ (ga _ (bZ hb e)))).2.1
    ·exact(I8.pins_of (pins':=pl) λp hp=>I8.pin p (ga _ (BS _ (BU _ hp)))).weak l6.symm d6
   cases ok with
   | false =>
    rw[if_neg B4]at q7 ⊢
    obtain⟨m',hm,w7⟩:=hN _ _ q7
    obtain⟨a1,a2,a3,a4,a5⟩:=after I7
    exact⟨m',hm,i+1,ys,its,k,H7,a5,a3,a4,a2,r3,a1,w7⟩
   | true =>
    rw[if_pos rfl]at q7 ⊢
    refine thn (xe▸he _ s7 σ6 H7 _ I7 q7) λu8 s8 ⟨v8,H8,I8,r8,n8⟩=>?_
    obtain⟨m',hm,w8⟩:=hN _ _ n8
    obtain⟨a1,a2,a3,a4,a5⟩:=after I8
    have hsz:its.toArray.size<wT:=by rw[on,<- r3.length];exact hz
    refine GZ Cw ⟨_,a1,rfl⟩ Gv (Ge _ _) (Gq D its.toArray k u8 (CI hsz)) ⟨a1,?_⟩
    have q9:=Gd a1 (λxs=>xs.push u8)
    have sb:Cq D s8.heap (s8.heap.update D (C1 λxs=>xs.push u8)):=C9 ..
    have I9:=a5.young sb a2 szD neDL clB plD
    have fin:∃k',(s8.heap.update D (C1 λxs=>xs.push u8)).get? D=some {cls:=.type "list",data:=.seq (its++[u8]).toArray k'}:=⟨_,by
     rw[show(its++[u8]).toArray=its.toArray.push u8 by simp]
     exact q9⟩
    obtain⟨k',fin⟩:=fin
    exact⟨m',hm,i+1,ys++[v8],its++[u8],k',H8,I9,T.keep _ _ _ a3 (λb hb o e=>(sb.2 b (fpD b hb)).trans e),a4,a2,r3.append (.cons r8 .nil),fin,w8⟩
 exact ly loop (T.self _ 0 _ _ _ st2 loop)
end
section
variable {X:Cx}
theorem qv {elt tg iter tg2 iter2:Expr}{ifs ifs2:List Expr}{scope:Dw}{pos:Pos}{own:List Str}{js:List Nat}{g g2:TG}{tc tc2:TT}{wi2:TI}{te:TE}{Q:VK}{pins:List (Addr×Obj)}{σ:St}{s2:ca}{itv:bn}{E:bn->ca->Prop}
  {RR:bn->Addr->EK->ca->Prop} (hc:X.calm=true) (B:Blk X scope own js) (hg:∀s H C fp,(own++capN X.N js).Nodup->PG (blk X scope (own++capN X.N js) s H C fp) tg g) (ht:∀s H C fp,PTs (blk X scope (own++capN X.N js) s H C fp) ifs tc)
  (hi2:∀s H C fp,PI (blk X scope (own++capN X.N js) s H C fp) tg2 iter2 wi2) (hg2:∀s H C fp,(own++capN X.N js).Nodup->PG (blk X scope (own++capN X.N js) s H C fp) tg2 g2) (ht2:∀s H C fp,PTs (blk X scope (own++capN X.N js) s H C fp) ifs2 tc2) (hs2:∀s H C fp x,CY iter2 (blk X scope (own++capN X.N js) s H C fp).env x=pure x)
  (he:∀s H C fp,PE (blk X scope (own++capN X.N js) s H C fp) elt te)
  (h:PIE X pins σ tg (λJ H1=>x6 J own.length js g tc wi2 g2 tc2 te Q σ H1) itv s2)
  (hR:∀C acc s',vO X pins σ Q C acc s'->RR acc C (.ok .next) s') :
  lm (sn X.prog X.w) X.A (IW []) (λacc s3=>lm (sn X.prog X.w) X.A (Go scope X.env.globals (cS scope X.env) [] X.env.qual none .none (some X.env)) (λcenv s4 =>
   CZ (sn X.prog X.w) X.A (.compStart (.ListComp elt [⟨tg,iter,ifs,0⟩,⟨tg2,iter2,ifs2,0⟩] scope pos) 0 itv acc {cenv with scope:=Gy scope X.env}) (RR acc cenv.locals) s4) E s3) E s2:=by
 obtain⟨it,fp,tn,J,H2,rfl,I2,T,st2,f2,W,⟨m0,w0⟩,turn⟩:=h
 refine Dm (E8 B.nocell (by intro y hy;simp at hy) (λh1 hns1 hsb1=>?_) B.kind)
 generalize hPu:s2.heap.push {cls:=.type "list",dict:=none,data:=.seq ([]:List bn).toArray}=Pu at hns1 hsb1 ⊢
 dsimp only at hns1 hsb1 ⊢
 have hDC:Pu.objs.size=s2.heap.objs.size+1:=by rw[<- hPu,C0]
 generalize hD:s2.heap.objs.size=D at hDC ⊢
 have gD:Pu.get? D=some {cls:=.type "list",dict:=none,data:=.seq ([]:List bn).toArray}:=by
  rw[<- hPu,<- hD];exact ww _ rfl
 generalize hC:Pu.objs.size=C at hns1 hsb1 hDC ⊢
 have ltDC:D<C:=by rw[hDC];exact DH D
 have neDC:D≠C:=wP ltDC
 have keep1:∀b o,s2.heap.get? b=some o->h1.get? b=some o:=λb o e=>by
  have hb:b<D:=by rw[<- hD];exact lc e
  have hb2:b≠C:=wP (DE hb ltDC)
  refine(hsb1.2 b hb2).trans (db _ ?_)
  rw[<- hPu]
  exact db _ e
 have gD1:h1.get? D=some {cls:=.type "list",dict:=none,data:=.seq ([]:List bn).toArray}:=(hsb1.2 D neDC).trans (db _ gD)
 have szD:s2.heap.objs.size<=D:=Fe hD
 have szC:s2.heap.objs.size<=C:=xL szD (CI ltDC)
 have old:∀ {b:Addr},b<s2.heap.objs.size->b≠D/\b≠C:=λhb=>⟨wP (xz hb szD),wP (xz hb szC)⟩
 have fpo:∀b∈fp,∃o,s2.heap.get? b=some o:=λb hb=>let ⟨o,e,_⟩:=T.obj 0 _ st2 b hb;⟨o,e⟩
 have fpD:∀b∈fp,b≠D/\b≠C:=λb hb=>by
  obtain⟨o,e⟩:=fpo b hb
  exact old (lc e)
 have clD:∀x d,X.env.cells.lookup x=some d->d≠D/\d≠C:=λx d e=>by
  obtain⟨v,o,ho,_⟩:=I2.cell x d e
  exact old (lc ho)
 have pinD:∀p∈X.pn++pins,p.1≠D/\p.1≠C:=λp hp=>by
  exact old (lc (I2.pin p hp).1)
 have locD:D≠X.env.locals/\C≠X.env.locals:=by
  exact⟨(old I2.lt).1.symm,(old I2.lt).2.symm⟩
 let Y:=blk X scope (own++capN X.N js) s2 H2 C fp
 have IB:Inv Y [] (bst own.length σ js) H2 {s2 with heap:=h1,toks:=s2.toks+([]:List (Str×bn)).length}:=ni B I2 f2 fpo szC hns1 keep1
 have fpB:∀ {H':Hp} {pl:List (Addr×Obj)},(∀b∈fp,H' b=none)->(∀p∈pl,p.1=D)->∀b∈fp,FpOk Y pl H' b:=λ{H' pl} hn hp b hb=>by
  obtain⟨f0,f1,f3,f4,f5,f6⟩:=f2 b hb
  refine⟨hn b hb,(fpD b hb).2,λz=>?_,.inl hb,λx c e=>f5 x c (cu e),λp q=>?_⟩
  ·rcases sB.mp (I2.stkSub b z)with z | z
   ·exact f1 z
   ·exact f3 z
  ·have q':p∈pl:=by simpa [Y,blk] using q
   rw[hp p q']
   exact(fpD b hb).1.symm
 have clB:∀x d,Y.env.cells.lookup x=some d->d≠D:=λx d e=>(clD x d (cu e)).1
 have notFs:D∉Y.fs:=λz=>by
  obtain⟨_,o,ho,_⟩:=IB.ok.funs.mem z
  exact(old (lc (show s2.heap.get? D=some o from ho))).1 rfl
 have loop:∀s3:ca,s3={s2 with heap:=h1,toks:=s2.toks+([]:List (Str×bn)).length} ->
   CZ (sn X.prog X.w) X.A (.compLoop (.ListComp elt [⟨tg,iter,ifs,0⟩,⟨tg2,iter2,ifs2,0⟩] scope pos) 0 (.ref it) (.ref D) (H_ scope (cS scope X.env) C X.env)) (RR (.ref D) C) s3:=by
  rintro s3 rfl
  refine vq (λn s'=>∃(i:Nat) (ys:List V) (its:List bn) (k:Nat) (H':Hp),Inv Y [] (bst own.length σ js) H' s'/\tn i s'.heap/\(∀b∈fp,H' b=none)/\H' D=none/\Vals ys its /\
   s'.heap.get? D=some {cls:=.type "list",data:=.seq its.toArray k}/\W i n ys H') (hs2 s2 H2 C fp) ?_ m0 ⟨0,[],[],0,H2,IB,T.keep 0 _ _ st2 (λb hb o e=>keep1 b o e),λb hb=>(f2 b hb).1,I2.hok.fresh szD,.nil,gD1,w0⟩
  rintro n s3 ⟨i,ys,its,k,H3,I3,st3,fr3,hD3,r3,g3,w3⟩
  have I3p:Inv Y [(D,{cls:=.type "list",data:=.seq its.toArray k})] (bst own.length σ js) H3 s3:=I3.pins_of λp hp=>by
   have e:p=(D,{cls:=.type "list",data:=.seq its.toArray k}):=by simpa using hp
   subst e
   exact⟨g3,hD3,neDC,notFs,λv z=>by cases z⟩
  have f3:∀b∈fp,FpOk Y [(D,{cls:=.type "list",data:=.seq its.toArray k})] H3 b:=fpB fr3 λp hp=>by
   have e:p=(D,{cls:=.type "list",data:=.seq its.toArray k}):=by simpa using hp
   rw[e]
  rcases turn i n ys H3 w3 with⟨stop,hz,qn⟩ | ⟨go,N,hN,step⟩
  ·refine thn (T.done Y rfl rfl rfl hc i _ s3 _ H3 (λ_ _=>False) I3p f3 st3 stop) λr s4 ⟨hr,I4⟩=>?_
   subst hr
   refine hR C _ s4 ?_
   have g4:=(I4.pin (D,{cls:=.type "list",data:=.seq its.toArray k}) (by simp[Y,blk])).1
   obtain⟨m,hn4,_⟩:=id I4.loc
   have un:Un (frs X.stack) fp H2 H3 s2.heap s4.heap:=I4.base
   have I5:Inv X pins σ H3 s4:=I2.call' I4.os un I4.hok I4.bare λb hb=>let ⟨_,b1,_,b3,b4,b5⟩:=f2 b hb;⟨b3,b1,b4,b5⟩
   have I6:=I5.track (ys:=ys) (its:=its) (n:=k) hD3 (xL I2.sz szD) locD.1 (λx d e=>(clD x d e).1) (λp hp=>(pinD p hp).1) hz r3 g4
   refine⟨D,_,m,rfl,hn4,I6,?_,xL I2.sz szC,locD.2,λx d e=>(clD x d e).2,λp hp=>(pinD p hp).2,qn D hD3⟩
   rw[aR (Dk neDC)]
   exact I4.free
  ·refine thn (T.item Y rfl rfl rfl hc i _ s3 _ H3 (λ_ _=>False) I3p f3 st3 go) λr s4 ⟨u,hr,h4⟩=>?_
   subst hr
   refine thn h4 λ_ s5 ⟨x,H5,I5,r5,y5,st5,fr5⟩=>?_
   have f5:∀b∈fp,FpOk Y [(D,{cls:=.type "list",data:=.seq its.toArray k})] H5 b:=λb hb=>⟨fr5 b hb,(f3 b hb).2⟩
   have I5':=I5.pinned f5 (T.obj _ _ st5)
   refine thn (hg s2 H2 C fp B.nd _ s5 _ H5 x u _ I5' r5 (step x H5 y5)) λ_ s6 ⟨σ6,H6,I6,d6,q6⟩=>?_
   refine thn (ht s2 H2 C fp _ s6 σ6 H6 _ I6 q6) λok s7 ⟨H7,I7,q7⟩=>?_
   have after:∀ {s8:ca} {H8:Hp} {its:List bn} {k:Nat},Inv Y ([(D,{cls:=.type "list",data:=.seq its.toArray k})]++f9 fp s5.heap) σ6 H8 s8 ->
     s8.heap.get? D=some {cls:=.type "list",data:=.seq its.toArray k}/\H8 D=none/\tn (i+1) s8.heap/\(∀b∈fp,H8 b=none)/\Inv Y [] (bst own.length σ js) H8 s8:=λ{s8 H8 its k} I8=>by
    have p8:=I8.pin (D,{cls:=.type "list",data:=.seq its.toArray k}) (by simp[Y,blk])
    refine⟨p8.1,p8.2.1,T.keep _ _ _ st5 λb hb o e=>(I8.pin (b,o) (ga _ (ga _ (bZ hb e)))).1,λb hb=>?_,?_⟩
    ·obtain⟨o,e,_⟩:=T.obj _ _ st5 b hb
     exact(I8.pin (b,o) (ga _ (ga _ (bZ hb e)))).2.1
    ·refine(I8.pins_of (pins':=[]) λp hp=>absurd hp (by simp[Y,blk])).weak ?_ λj v e=>?_
     ·rw[I8.len,fU]
      show _=(own++capN X.N js).length
      unfold capN
      simp
     ·rcases BW j own.length with z | z
      ·exfalso
       unfold bst at e
       rw[BQ (by simpa using z),CK]at e
       split at e <;> cases e
      ·unfold bst at e
       rw[Cc (by simpa using z),C7,<- d6,Cg]at e
       rw[<- e]
       congr 1
       omega
   cases ok with
   | false =>
    rw[if_neg B4]at q7 ⊢
    obtain⟨m',hm,w7⟩:=hN _ _ q7
    obtain⟨a1,a2,a3,a4,a5⟩:=after I7
    exact⟨m',hm,i+1,ys,its,k,H7,a5,a3,a4,a2,r3,a1,w7⟩
   | true =>
    rw[if_pos rfl]at q7 ⊢
    refine thn (hi2 s2 H2 C fp _ s7 σ6 H7 _ I7 q7) λv8 s8 h8=>thn h8 λitv s9 h9=>?_
    refine sL (Y:=Y) (pl:=f9 fp s5.heap) rfl hc (hg2 s2 H2 C fp B.nd) (ht2 s2 H2 C fp) (he s2 H2 C fp) szD neDC notFs clB (λp hp=>?_) h9 r3 λzs its' k' H' s' I' r' g' d' n'=>⟨rfl,?_⟩
    ·have hp':p∈f9 fp s5.heap:=by simpa [Y,blk] using hp
     exact(fpD p.1 (nY hp').1).1
    ·obtain⟨m',hm,w8⟩:=hN _ _ n'
     have I'p:Inv Y ([(D,{cls:=.type "list",data:=.seq its'.toArray k'})]++f9 fp s5.heap) σ6 H' s':=I'.pins_of λp hp=>by
      rcases BO.mp hp with z | z
      ·have e:p=(D,{cls:=.type "list",data:=.seq its'.toArray k'}):=by simpa using z
       subst e
       exact⟨g',d',neDC,notFs,λv z=>by cases z⟩
      ·exact I'.pin p (ga _ z)
     obtain⟨a1,a2,a3,a4,a5⟩:=after I'p
     exact⟨m',hm,i+1,zs,its',k',H',a5,a3,a4,d',r',g',w8⟩
 exact IX (loop _ rfl) (T.self _ 0 _ _ _ (T.keep 0 _ _ st2 λb hb o e=>keep1 b o e) (loop _ rfl))
theorem mD {elt tg iter tg2 iter2:Expr}{ifs ifs2:List Expr}{scope:Dw}{pos pos' spos:Pos}{i:Nat}{x:Str}(own:List Str)(js:List Nat){wi wi2:TI}{g g2:TG}{tc tc2:TT}{te:TE}(hN:X.N.Nodup)(hi:X.N[i]? = some x)(hx:Loc X.env.scope x)
  (hc:X.calm=true) (B:Blk X scope own js) (hit:PI X tg iter wi)
  (hg:∀s H C fp,(own++capN X.N js).Nodup->PG (blk X scope (own++capN X.N js) s H C fp) tg g) (ht:∀s H C fp,PTs (blk X scope (own++capN X.N js) s H C fp) ifs tc)
  (hi2:∀s H C fp,PI (blk X scope (own++capN X.N js) s H C fp) tg2 iter2 wi2) (hg2:∀s H C fp,(own++capN X.N js).Nodup->PG (blk X scope (own++capN X.N js) s H C fp) tg2 g2) (ht2:∀s H C fp,PTs (blk X scope (own++capN X.N js) s H C fp) ifs2 tc2) (he:∀s H C fp,PE (blk X scope (own++capN X.N js) s H C fp) elt te)
  (hf:X.fn x=true∨X.env.scope.names.lookup x=some .local:=by first | exact .inl rfl | exact .inr rfl | assumption)
  (hw:FP (.ListComp elt [⟨tg,iter,ifs,0⟩,⟨tg2,iter2,ifs2,0⟩] scope pos) (some (.Name x pos')) spos.line X.env=pure true:=by rfl)
  (hs:∀x,CY iter X.env x=pure x:=by intro _;rfl) (hs2:∀s H C fp x,CY iter2 (blk X scope (own++capN X.N js) s H C fp).env x=pure x:=by intros;rfl) :
  PS X (.Assign [.Name x pos'] (.ListComp elt [⟨tg,iter,ifs,0⟩,⟨tg2,iter2,ifs2,0⟩] scope pos) spos) (λD σ H=>qQ own.length js wi g tc wi2 g2 tc2 te σ H λv H'=>D.nx (σ.set i (some v)) H'):=by
 intro pins s σ H D I h
 have hcl:EV scope X.env=pure (cS scope X.env):=cJ λx hx hf=>I.ok.has x.1 (B.free x hx hf)
 rw[F_ _ _ _ _ hw]
 refine bm (CT (bm ?_))
 show lm _ X.A (do let _ <- FJ (.ListComp elt [⟨tg,iter,ifs,0⟩,⟨tg2,iter2,ifs2,0⟩] scope pos) scope X.env _ (IW []) false (eval iter X.env) (some (D1 (.Name x pos') X.env))) _ _ s
 refine bm (thn (Q:=λ_ s'=>SP X pins D .next s') (Dy (use:=some (D1 (.Name x pos') X.env)) rfl hs hcl B.kind B.names (thn (hit pins s σ H _ I h) λv s1 h1=>thn h1 λitv s2 h2=>?_)) λ_ s' q=>dL (dL q))
 refine qv (Q:=λv H'=>D.nx (σ.set i (some v)) H') (RR:=λacc C=>Hc (sn X.prog X.w) X.A X.xe (some (D1 (.Name x pos') X.env)) (λ_ s'=>SP X pins D .next s') acc C) hc B hg ht hi2 hg2 ht2 hs2 he h2 λC acc s' hb=>?_
 obtain⟨l,H',m,rfl,hn,I',c1,c2,c3,c4,c5,q⟩:=hb
 show lm _ X.A (D1 (.Name x pos') X.env (.ref l)) _ _ _
 refine FG (iA (v:=.ref l) I' hN hi hx rfl (λs3 I3 ⟨a,sb,ha⟩=>?_) hf)
 have ne:C≠a:=by
  rcases ha with z | z
  ·rw[z];exact c3
  ·exact(c4 x a z).symm
 exact⟨m,hn.sameBut sb ne,λh' hs'=>⟨_,H',I3.young hs' c1 c2 c3 c4 c5,q⟩⟩
end
def hX (n2:Nat)(c:En->Prop)(g:AG)(tc:AT)(te:AE)(k:List D->En->Prop):List D->List D->En->Prop
 | [],acc,ρ=>c ρ/\k acc ρ
 | d::ds,acc,ρ=>c ρ/\acc.length<=1000000/\g d ρ λρ1=>tc ρ1 λb ρ2=>if b=true then te ρ2 λr ρ3=>sto [r.frz] ρ3 λes ρ4=>hX n2 c g tc te k ds (acc++es) (pc n2 .un++ρ4.drop n2)else hX n2 c g tc te k ds acc (pc n2 .un++ρ2.drop n2)
def gM (n2 n:Nat)(js:List Nat)(c:En->Prop)(g:AG)(tc:AT)(i2:AI)(g2:AG)(tc2:AT)(te:AE)(q:List D->En->Prop):List D->List D->En->Prop
 | [],acc,ρ=>c ρ/\acc.length<=1000000/\q acc ρ
 | d::ds,acc,ρ=>c ρ/\g d (blkE n js ρ) λρ1=>tc ρ1 λb ρ2=>if b=true then i2 ρ2 λds2 c2 ρ3=>hX n2 c2 g2 tc2 te (λacc' ρ4=>gM n2 n js c g tc i2 g2 tc2 te q ds acc' (back ρ (js.map R.o) (ρ4.drop n))) ds2 acc ρ3 else gM n2 n js c g tc i2 g2 tc2 te q ds acc (back ρ (js.map R.o) (ρ2.drop n))
def Be (n2 n:Nat)(js:List Nat)(i:AI)(g:AG)(tc:AT)(i2:AI)(g2:AG)(tc2:AT)(te:AE):AE:=λρ q=>i ρ λds c ρ1=>gM n2 n js c g tc i2 g2 tc2 te (λacc ρ2=>q (.f acc) ρ2) ds [] ρ1
section
variable {K:bi}
theorem tD {n2:Nat}{g2:TG}{tc2:TT}{te:TE}{ag2:AG}{atc2:AT}{ate:AE}(hg:TGok K (λj=>decide (n2<=j)) g2 ag2)(hc:TTok K tc2 atc2)(he:TEok K te ate)
  {F:Fr} {σ:St} {ρ:En} {H:Hp} {J:It} {ds:List D} {c:En->Prop} {k:List D->En->Prop} {N:List V->Hp->Prop} {ys:List V} {acc:List D}
  (hpin:∀i a,F.pin i a->n2<=i) (hn:n2<=σ.length) (h0:σ=pc n2 none++σ.drop n2) (r:Rel K F σ ρ H)
  (wk:∀ ρ2 H2,Same (hid H (hs F σ ρ)) (hid H2 (hs F σ ρ2))->(∀i,SvOk K (hid H2 (hs F σ ρ2)) H2 σ[i]? (gt ρ2 i))->(∀a,hs F σ ρ2 a->Nt H2 a)->c ρ2->WkAt K (hs F σ ρ2) H2 J ds)
  (rd:RepDs K (hid H (hs F σ ρ)) ys acc) (h:hX n2 c ag2 atc2 ate k ds acc ρ)
  (kk:∀acc' ρ' ys' H',k acc' ρ'->Rel K F σ ρ' H'->Kp σ ρ ρ' H H'->RepDs K (hid H' (hs F σ ρ')) ys' acc'->N ys' H'):zJ J g2 tc2 te N σ ys H:=by
 refine⟨λi m ys H'=>∃ ρ' acc,m=ds.length - i/\i<=ds.length/\Rel K F σ ρ' H'/\Kp σ ρ ρ' H H'/\RepDs K (hid H' (hs F σ ρ')) ys acc/\hX n2 c ag2 atc2 ate k (ds.drop i) acc ρ',⟨ds.length,ρ,acc,rfl,zn _,r,.refl,rd,h⟩,?_⟩
 rintro i m ys H' ⟨ρ',acc,rfl,hl,r',k',rd,h'⟩
 have w:c ρ'->WkAt K (hs F σ ρ') H' J ds:=λhc=>wk ρ' H' k'.vis r'.sl (λa z=>sM r' z) hc
 rcases BW i ds.length with lt | ge
 ·right
  rw[B_ lt]at h'
  unfold hX at h'
  obtain⟨hcc,hz,h'⟩:=h'
  obtain⟨go,yld⟩:=(w hcc i).1 ds[i] (bv lt)
  have yl:ys.length=acc.length:=rd.length
  refine⟨go,lD (by omega),λzs H2=>∃ ρ2 acc2,Rel K F σ ρ2 H2/\Kp σ ρ ρ2 H H2/\RepDs K (hid H2 (hs F σ ρ2)) zs acc2/\hX n2 c ag2 atc2 ate k (ds.drop (i+1)) acc2 ρ2,
   λzs H2 ⟨ρ2,acc2,a1,a2,a3,a5⟩=>⟨ds.length - (i+1),by omega,ρ2,acc2,rfl,lt,a1,a2,a3,a5⟩,λx H2 hy=>?_⟩
  obtain⟨sm,rx⟩:=yld x H2 hy
  have k':Kp σ ρ ρ' H H2:=k'.trans ⟨λa o e _=>sm a o e,λ_ h=>h⟩
  have rd:RepDs K (hid H2 (hs F σ ρ')) ys acc:=rd.same (bq λa o e n=>⟨sm a o e,n⟩)
  have r':=r'.grow sm
  refine hg F σ ρ' H2 x _ _ _ (λi a h=>decide_eq_true (hpin i a h)) r' rx h' λσ3 ρ3 h3 r3 l3 p3 o3=>?_
  have drop3:σ3.drop n2=σ.drop n2:=by
   apply DA
   intro i
   rw[Cg,Cg]
   exact p3 (n2+i) (decide_eq_true (Nat.le_add_right ..))
  have ret:∀ ρ4 H4,Rel K F σ3 ρ4 H4->Kp σ3 ρ3 ρ4 H2 H4->Rel K F σ (pc n2 .un++ρ4.drop n2) H4/\Kp σ ρ' (pc n2 .un++ρ4.drop n2) H2 H4/\Same (hid H4 (hs F σ3 ρ4)) (hid H4 (hs F σ (pc n2 .un++ρ4.drop n2))):=λρ4 H4 r4 k4=>by
   obtain⟨f1,f2⟩:=r4.forget (n:=n2) (by omega) hpin
   rw[drop3,<- h0]at f1 f2
   refine⟨f1,⟨λa o e n=>k4.st a o e λ⟨j,hj,ej⟩=>?_,λj hj=>?_⟩,f2⟩
   ·obtain⟨b1,b2⟩:=o3 j hj
    rw[b2]at ej
    exact n ⟨j,b1,ej⟩
   ·rw[kO]at hj
    split at hj
    ·cases hj
    ·rename_i hnj
     rw[ie,show n2+(j - n2)=j by omega]at hj
     exact(o3 j (k4.sb j hj)).1
  refine⟨⟨l3,λj v e=>?_⟩,hc F σ3 ρ3 H2 _ _ r3 h3 λb ρ4 H4 h4 r4 k4=>?_⟩
  ·rcases BW j n2 with z | z
   ·exfalso
    rw[h0,BQ (by simpa using z),CK]at e
    split at e <;> cases e
   ·rw[p3 j (decide_eq_true z)];exact e
  ·cases b with
   | false =>
    obtain⟨b1,b2,_⟩:=ret ρ4 H4 r4 k4
    exact⟨_,acc,b1,k'.trans b2,rd.same b2.vis,h4⟩
   | true =>
    refine he F σ3 ρ4 H4 _ _ r4 h4 λr5 ρ5 v H5 h5 o5=>?_
    obtain⟨r5',k5,i5⟩:=o5.inF
    obtain⟨d,ρ6,h6,r6,k6,rv⟩:=pw r5' i5 h5
    obtain⟨b1,b2,b3⟩:=ret ρ6 H5 r6 (k4.trans (k5.trans k6))
    exact⟨_,acc++[d],b1,k'.trans b2,(rd.same b2.vis).append (.one (rv.same b3)),h6⟩
 ·left
  rw[CF ge]at h'
  unfold hX at h'
  obtain⟨hcc,h'⟩:=h'
  exact⟨(w hcc i).2 ge,kk acc ρ' ys H' h' r' k' rd⟩
theorem j0 {n2 n:Nat}{js:List Nat}{wi wi2:TI}{g g2:TG}{tc tc2:TT}{te:TE}{ai ai2:AI}{ag ag2:AG}{atc atc2:AT}{ate:AE}(hi:TIok K (λ_=>true) wi ai)(hg:TGok K (λj=>decide (j<n2)||decide (n<=j)) g ag)(hc:TTok K tc atc)
  (hi2:TIok K (λ_=>true) wi2 ai2) (hg2:TGok K (λj=>decide (n2<=j)) g2 ag2) (hc2:TTok K tc2 atc2) (he:TEok K te ate)
  (hn:n2<=n:=by decide) (hd:dis (js.map R.o)=true:=by rfl):TEok K (qQ n js wi g tc wi2 g2 tc2 te) (Be n2 n js ai ag atc ai2 ag2 atc2 ate):=by
 intro F σ ρ H q Q r h k
 refine hi F σ ρ H _ _ r h λds c ρ1 J H1 h1 r1 k1 wk=>?_
 have hd':dis (blkR n js)=true:=by rw[i_];exact hd
 refine⟨λi m ys H'=>∃ ρ' acc,m=ds.length - i/\i<=ds.length/\Rel K F σ ρ' H'/\Kp σ ρ1 ρ' H1 H'/\RepDs K (hid H' (hs F σ ρ')) ys acc/\gM n2 n js c ag atc ai2 ag2 atc2 ate (λacc ρ2=>q (.f acc) ρ2) (ds.drop i) acc ρ',⟨ds.length,ρ1,[],rfl,zn _,r1,.refl,.nil,h1⟩,?_⟩
 rintro i m ys H' ⟨ρ',acc,rfl,hl,r',k',rd,h'⟩
 have w:c ρ'->WkAt K (hs F σ ρ') H' J ds:=λhc=>wk σ ρ' H' k'.vis r'.sl (λ_ _ _ e=>e) (λa z=>sM r' z) hc
 have yl:ys.length=acc.length:=rd.length
 rcases BW i ds.length with lt | ge
 ·right
  rw[B_ lt]at h'
  unfold gM at h'
  obtain⟨hcc,h'⟩:=h'
  obtain⟨go,yld⟩:=(w hcc i).1 ds[i] (bv lt)
  refine⟨go,λzs H2=>∃ ρ2 acc2,Rel K F σ ρ2 H2/\Kp σ ρ1 ρ2 H1 H2/\RepDs K (hid H2 (hs F σ ρ2)) zs acc2/\gM n2 n js c ag atc ai2 ag2 atc2 ate (λacc ρ2=>q (.f acc) ρ2) (ds.drop (i+1)) acc2 ρ2,
   λzs H2 ⟨ρ2,acc2,a1,a2,a3,a5⟩=>⟨ds.length - (i+1),by omega,ρ2,acc2,rfl,lt,a1,a2,a3,a5⟩,λx H2 hy=>?_⟩
  obtain⟨sm,rx⟩:=yld x H2 hy
  have r0':=r'
  have k':Kp σ ρ1 ρ' H1 H2:=k'.trans ⟨λa o e _=>sm a o e,λ_ h=>h⟩
  have rd:RepDs K (hid H2 (hs F σ ρ')) ys acc:=rd.same (bq λa o e n=>⟨sm a o e,n⟩)
  have r':=r0'.grow sm
  have src:=jV (K:=K) (F:=F) (σ:=σ) (ρ:=ρ') (H:=H2) n js
  have rb:=r'.sub src hd'
  have hs2:=nE r' src
  rw[br]at rb hs2
  have pin0:∀i a,(dU F σ ρ' H2 (bst n σ js) (blkE n js ρ')).pin i a->n<=i:=λi a h=>by
   rcases h with h | h
   ·exact jW h.1
   ·exact h.elim
  have hlen:(bst n σ js).length=n+js.length:=fU
  have ret:∀ σ2 ρ2 H3,Rel K (dU F σ ρ' H2 (bst n σ js) (blkE n js ρ')) σ2 ρ2 H3->σ2.length=(bst n σ js).length->σ2.drop n=capt σ js->(∀i,(gt ρ2 i).own=true->(gt (blkE n js ρ') i).own=true) ->
    Rel K F σ (back ρ' (js.map R.o) (ρ2.drop n)) H3/\Kp σ ρ' (back ρ' (js.map R.o) (ρ2.drop n)) H2 H3/\Same (hid H3 (hs (dU F σ ρ' H2 (bst n σ js) (blkE n js ρ')) σ2 ρ2)) (hid H3 (hs F σ (back ρ' (js.map R.o) (ρ2.drop n)))):=λσ2 ρ2 H3 rr hlen2 hdrop hown=>by
   obtain⟨f1,f2⟩:=rr.forget (n:=n) (by omega) pin0
   rw[hdrop]at f1 f2
   have f1':Rel K (dU F σ ρ' H2 (bst n σ js) ((blkR n js).map (c_ ρ'))) (bst n σ js) (pc n .un++ρ2.drop n) H3:=by rw[br];exact f1
   have bk:=r'.back src hd' f1' λi hi=>by
    rw[br]
    rw[kO]at hi
    split at hi
    ·cases hi
    ·rename_i hni
     rw[ie,show n+(i - n)=i by omega]at hi
     exact hown i hi
   have ln:(pc n Sv.un++ρ2.drop n).length=n+js.length:=by
    have:=rr.len
    simp;omega
   rw[ja js ρ' n _ ln,DT (by simp),br]at bk
   exact⟨bk.1,bk.2.1,f2.trans bk.2.2⟩
  refine hg _ (bst n σ js) (blkE n js ρ') H2 x _ _ _ (λi a h=>by simp[pin0 i a h]) rb (by rw[hs2];exact rx) h' λσ2 ρ2 h2 r2 l2 p2 o2=>?_
  have hdrop:σ2.drop n=capt σ js:=by
   have:σ2.drop n=(bst n σ js).drop n:=by
    apply DA
    intro i
    rw[Cg,Cg]
    exact p2 (n+i) (by simp)
   rw[this]
   unfold bst
   rw[DT (by simp)]
  have hin:σ2=pc n2 none++σ2.drop n2:=by
   apply DA
   intro j
   rcases BW j n2 with z | z
   ·rw[p2 j (by simp[z]),BQ (by simpa using z)]
    unfold bst
    rw[BQ (by simp;omega),CK,CK,if_pos z,if_pos (by omega)]
   ·rw[Cc (by simpa using z),C7,Cg]
    congr 1;omega
  have rdb:RepDs K (hid H2 (hs (dU F σ ρ' H2 (bst n σ js) (blkE n js ρ')) σ2 ρ2)) ys acc:=by
   rw[<- hs2]at rd
   refine rd.same (bq λa o e nn=>⟨e,λz=>nn ?_⟩)
   rcases z with z | ⟨j,hj,ej⟩
   ·exact .inl z
   ·obtain⟨b1,b2⟩:=o2 j hj
    rw[b2]at ej
    exact .inr ⟨j,b1,ej⟩
  refine⟨hdrop,hc _ σ2 ρ2 H2 _ _ r2 h2 λb ρ3 H3 h3 r3 k3=>?_⟩
  cases b with
  | false =>
   obtain⟨b1,b2,_⟩:=ret σ2 ρ3 H3 r3 l2 hdrop λi hi=>(o2 i (k3.sb i hi)).1
   exact⟨_,acc,b1,k'.trans b2,rd.same b2.vis,h3⟩
  | true =>
   refine hi2 _ σ2 ρ3 H3 _ _ r3 h3 λds2 c2 ρ4 J2 H4 h4 r4 k4 wk2=>?_
   refine tD hg2 hc2 he (λi a h=>xL hn (pin0 i a h)) (by omega) hin r4 (λρ5 H5 a1 a2 a3 a4=>wk2 σ2 ρ5 H5 a1 a2 (λ_ _ _ e=>e) a3 a4) (rdb.same (k3.trans k4).vis) h4 λacc' ρ5 ys' H5 h5 r5 k5 rd5=>?_
   obtain⟨b1,b2,b3⟩:=ret σ2 ρ5 H5 r5 l2 hdrop λi hi=>(o2 i (k3.sb i (k4.sb i (k5.sb i hi)))).1
   exact⟨_,acc',b1,k'.trans b2,rd5.same b3,h5⟩
 ·left
  rw[CF ge]at h'
  unfold gM at h'
  obtain⟨hcc,hz,h'⟩:=h'
  refine⟨(w hcc i).2 ge,small (by omega),λl hl'=>?_⟩
  exact((k.after k1).after k').new r' h' rd hl'
theorem j4 {pr:Nat->Bool}{te:TE}{ae:AE}{i n:Nat}{js:List Nat}{wi wi2:TI}{g g2:TG}{tc tc2:TT}(h:TEok K (qQ n js wi g tc wi2 g2 tc2 te) ae)(hi:pr i=false):TSok K pr (λD σ H=>qQ n js wi g tc wi2 g2 tc2 te σ H λv H'=>D.nx (σ.set i (some v)) H') (aSet i ae):=qT hi h
end
section
variable {n2 n:Nat}{js:List Nat}{c:En->Prop}{g g2:AG}{tc tc2:AT}{i2:AI}{te:AE}
theorem vn {α:Type}{q:List D->En->Prop}(h:α->D)(f:α->List D){xs:List α}{ρ:En}(hc:c ρ)
  (hs:∀x acc (N:List D->En->Prop),x∈xs->(∃ys:List α,ys.length<=xs.length/\acc=(ys.flatMap f)/\∀y∈ys,y∈xs)->N (acc++f x) ρ->g (h x) (blkE n js ρ) λρ1=>tc ρ1 λb ρ2=>if b=true then i2 ρ2 λds2 c2 ρ3=>hX n2 c2 g2 tc2 te (λacc' ρ4=>N acc' (back ρ (js.map R.o) (ρ4.drop n))) ds2 acc ρ3 else N acc (back ρ (js.map R.o) (ρ2.drop n)))
  (hl:(xs.flatMap f).length<=1000000) (hd:q (xs.flatMap f) ρ):gM n2 n js c g tc i2 g2 tc2 te q (xs.map h) [] ρ:=by
 have go:∀(zs ys:List α),ys++zs=xs->gM n2 n js c g tc i2 g2 tc2 te q (zs.map h) (ys.flatMap f) ρ:=by
  intro zs
  induction zs with
  | nil =>
   intro ys e
   rw[B5]at e
   subst e
   rw[Dh]
   unfold gM
   exact⟨hc,hl,hd⟩
  | cons z zs ih =>
   intro ys e
   rw[wl]
   unfold gM
   refine⟨hc,hs z _ (λacc' ρ'=>gM n2 n js c g tc i2 g2 tc2 te q (zs.map h) acc' ρ') (by rw[<- e];simp) ⟨ys,by rw[<- e,wS];omega,rfl,λy hy=>by rw[<- e];exact BS _ hy⟩ ?_⟩
   have:=ih (ys++[z]) (by rw[<- e,Cd];rfl)
   rw[E4,Fm,GS,B5]at this
   exact this
 exact go xs [] rfl
end
end L2
namespace L2
theorem xW {i j:Nat}{d:D}{ρ:En}{k:En->Prop}(h:oE 2 (fw (eX i) (fw (eX j) gaNil)) d ρ k):∃ ρ',k ρ':=by
 cases d with
 | tup ds =>
  cases ds with
  | nil=>exact h.elim
  | cons d1 ds =>
   cases ds with
   | nil=>exact h.elim
   | cons d2 ds =>
    cases ds with
    | nil=>exact⟨_,h⟩
    | cons _ _=>exact h.elim
 | _=>exact h.elim
theorem tM {i j m:Nat}{d1 d2 d3:D}{ρ:En}{k:En->Prop}(h:k (pt (pt (pt ρ i (.vl d1)) j (.vl d2)) m (.vl d3))):oE 2 (fw (eX i) (fw (oE 2 (fw (eX j) (fw (eX m) gaNil))) gaNil)) (.tup [d1,.tup [d2,d3]]) ρ k:=h
end L2
namespace L2
open PySem PySem.Spec PyProof.Rows
abbrev EnO (h:Heap)(e it:Addr)(i:Int)(old:bn)(a:Addr)(f:Bool):Prop :=
 h.get? e=some {cls:=.type "enumerate",dict:=none,data:=.fields #[DK a,.bool f,.ref it,DK i,.none,old],slots:=#[]}
section
variable {prog:wE}{w:B2}{A:Ca}{E:bn->ca->Prop}{s:ca}
theorem wU {a:Addr}{o:Obj}{Q:Option Obj->ca->Prop}(ho:s.heap.get? a=some o)(h:Q (some o) s):lm (sn prog w) A (loadIfAlive a) Q E s:=by
 have h':Q (s.heap.get? a) s:=by rw[ho];exact h
 exact λ_ _ _=>h'
theorem xi {e it a:Addr}{f:Bool}{oa:Obj}{fp:List Addr}{n i:Nat}{P:Nat->bn->Prop}{St:Nat->Heap->Prop}{old:bn}{Q:bn->ca->Prop}
  (D:J5 prog w A it fp n P St) (he:EnO s.heap e it i old a f) (ha:s.heap.get? a=some oa) (hae:a≠e) (hai:a≠it) (hst:St i s.heap) (hlt:i<n) (hne:e≠it) (hef:e∉fp)
  (hQ:∀x h' tk,P i x->EnO h' e it ((i:Int)+1) old a true->St (i+1) h' ->
   h'.get? s.heap.objs.size=some {cls:=.type "tuple",data:=.seq #[.int i tk,x]}->h'.objs.size=s.heap.objs.size+1 ->
   (∀b o,b≠e->b≠it->s.heap.get? b=some o->h'.get? b=some o)->Q (.ref s.heap.objs.size) {s with heap:=h',toks:=tk+1}) :
  lm (sn prog w) A (Builtin.«enumerate.__next__» ⟨[.ref e],[]⟩) (λfin s'=>∃v,fin = .done (.ret v)/\Q v s') E s:=by
 obtain⟨hp,g,d,tk₀,os⟩:=s
 show lm _ _ (ID (.ref e) 2>>=_) _ _ _
 refine bm (D9 he rfl (x:=.ref it) rfl ?_)
 refine bm (D.item i _ _ _ hlt hst λx h₁ tk hPx hit₁ hs₁=>?_)
 replace hs₁:Cq it hp h₁:=hs₁
 have he₁:EnO h₁ e it i old a f:=(hs₁.2 e hne).trans he
 show lm _ _ (ID (.ref e) 3>>=_) _ _ ⟨h₁,g,d,tk,os⟩
 refine bm (D9 he₁ rfl (x:=DK i) rfl ?_)
 show lm _ _ (ID (.ref e) 4>>=_) _ _ ⟨h₁,g,d,tk,os⟩
 refine bm (D9 he₁ rfl (x:=.none) rfl ?_)
 show lm _ _ (mkInt i>>=_) _ _ ⟨h₁,g,d,tk,os⟩
 refine bm (wpAny_mkInt ?_)
 show lm _ _ (setField (.ref e) 3 (DK ((i:Int)+1))>>=_) _ _ ⟨h₁,g,d,tk+1,os⟩
 refine bm (Dd he₁ (by simp) λh₂ he₂ hs₂=>?_)
 replace hs₂:Cq e h₁ h₂:=hs₂
 replace he₂:EnO h₂ e it ((i:Int)+1) old a f:=he₂
 show lm _ _ (setField (.ref e) 4 .none>>=_) _ _ ⟨h₂,g,d,tk+1,os⟩
 refine bm (Dd he₂ (by simp) λh₃ he₃ hs₃=>?_)
 replace hs₃:Cq e h₂ h₃:=hs₃
 replace he₃:EnO h₃ e it ((i:Int)+1) old a f:=he₃
 show lm _ _ (newTuple [.int i tk,x]>>=_) _ _ ⟨h₃,g,d,tk+1,os⟩
 refine bm (wpAny_newTuple ?_)
 have he₄:EnO (h₃.push {cls:=.type "tuple",data:=.seq #[.int i tk,x]}) e it ((i:Int)+1) old a f:=db _ he₃
 generalize hh₄:h₃.push {cls:=.type "tuple",data:=.seq #[.int i tk,x]}=h₄ at he₄
 have hsz:h₃.objs.size=hp.objs.size:=by rw[hs₃.1,hs₂.1,hs₁.1]
 have hel:e<hp.objs.size:=lc he
 have ht₄:h₄.get? hp.objs.size=some {cls:=.type "tuple",data:=.seq #[.int i tk,x]}:=by rw[<- hh₄,<- hsz];exact ww _ rfl
 have hz₄:h₄.objs.size=hp.objs.size+1:=by rw[<- hh₄,C0,hsz]
 have hk₄:∀b o,b≠e->b≠it->hp.get? b=some o->h₄.get? b=some o:=λb o hbe hbi hb=>by
  rw[<- hh₄];exact db _ (hs₃.extBut b o hbe (hs₂.extBut b o hbe (hs₁.extBut b o hbi hb)))
 have hit₄:St (i+1) h₄:=D.frame _ _ _ hit₁ λb hb o y=>by
  have hbe:b≠e:=λq=>hef (q▸hb)
  rw[<- hh₄];exact db _ (hs₃.extBut b o hbe (hs₂.extBut b o hbe y))
 show lm _ _ (Fj (.ref e)>>=_) _ _ ⟨h₄,g,d,tk+1,os⟩
 rw[hsz]
 clear hh₄ he₃ hs₃ he₂ hs₂ he₁ hs₁ hit₁ hsz h₃ h₂ h₁
 have ha₄:h₄.get? a=some oa:=hk₄ a oa hae hai ha
 refine bm ?_
 unfold Fj
 refine bm (D9 he₄ rfl (x:=DK a) rfl ?_)
 show lm _ _ (loadIfAlive ((a:Int).toNat)>>=_) _ _ _
 rw[Cr]
 refine bm (wU ha₄ ?_)
 simp only[Option.isNone_some,D5,if_false]
 refine bm (D9 he₄ rfl (x:=.bool f) rfl ?_)
 have fin:∀h₅:Heap,EnO h₅ e it ((i:Int)+1) old a true->Cq e h₄ h₅->Q (.ref hp.objs.size) ⟨h₅,g,d,tk+1,os⟩:=λh₅ he₅ hs₅ =>
  hQ x h₅ tk hPx he₅ (D.frame _ _ _ hit₄ λb hb o y=>hs₅.extBut b o (λq=>hef (q▸hb)) y) (hs₅.extBut _ _ (CV hel) ht₄) (by show h₅.objs.size=hp.objs.size+1;rw[hs₅.1,hz₄]) λb o hbe hbi hb=>hs₅.extBut b o hbe (hk₄ b o hbe hbi hb)
 cases f with
 | true =>
  rw[if_neg (show ¬((Value.bool true != Value.bool true)=true)from B4)]
  refine dL ?_
  simp only[D5,if_false]
  exact dL ⟨_,rfl,fin h₄ he₄ (Hz _ _)⟩
 | false =>
  rw[if_pos (show(Value.bool false != Value.bool true)=true from rfl)]
  refine bm (Dd he₄ (by simp) λh₅ he₅ hs₅=>?_)
  replace hs₅:Cq e h₄ h₅:=hs₅
  replace he₅:EnO h₅ e it ((i:Int)+1) old a true:=he₅
  refine dL ?_
  simp only[D5,if_false]
  exact dL ⟨_,rfl,fin h₅ he₅ hs₅⟩
def EnS (h:Heap)(e it:Addr)(i:Nat)(S:Addr):Prop:=(∃old,Hx h e it i old) ∨ ∃old a f oa,EnO h e it i old a f/\h.get? a=some oa/\a≠e/\a≠it/\a≠S
theorem EnS.keep {h h':Heap}{e it S:Addr}{i:Nat}(x:EnS h e it i S)(hk:∀b o,b≠S->h.get? b=some o->h'.get? b=some o)(hS:e≠S):EnS h' e it i S:=by
 rcases x with⟨old,he⟩ | ⟨old,a,f,oa,he,ha,h1,h2,h3⟩
 ·exact .inl ⟨old,hk _ _ hS he⟩
 ·exact .inr ⟨old,a,f,oa,hk _ _ hS he,hk _ _ h3 ha,h1,h2,h3⟩
theorem EnS.typeIs {e it S:Addr}{i:Nat}(x:EnS s.heap e it i S):s.TypeIs (.ref e) "enumerate" := by
 rcases x with⟨old,he⟩ | ⟨old,a,f,oa,he,_⟩
 ·exact⟨_,he,rfl⟩
 ·exact⟨_,he,rfl⟩
theorem xh {e it S:Addr}{fp:List Addr}{n i:Nat}{P:Nat->bn->Prop}{St:Nat->Heap->Prop}{Q:Option bn->ca->Prop}
  (D:J5 prog w A.in1 it fp n P St) (he:EnS s.heap e it i S) (hit:it<s.heap.objs.size) (hS:S<s.heap.objs.size) (hst:St i s.heap) (hlt:i<n) (hne:e≠it) (hef:e∉fp)
  (hQ:∀x h' tk,P i x->EnS h' e it (i+1) S->St (i+1) h' ->
   h'.get? s.heap.objs.size=some {cls:=.type "tuple",data:=.seq #[.int i tk,x]}->h'.objs.size=s.heap.objs.size+1 ->
   (∀b o,b≠e->b≠it->s.heap.get? b=some o->h'.get? b=some o)->Q (some (.ref s.heap.objs.size)) {s with heap:=h',toks:=tk+1}) :
  lm (sn prog w) A (Es (.ref e)) Q E s:=by
 have hT:s.TypeIs (.ref e) "enumerate" := he.typeIs
 rcases he with⟨old,he⟩ | ⟨old,a,f,oa,he,ha,h1,h2,h3⟩
 ·refine IC D he hst hlt hne hef λx h' tk hP ho hs ht hz hk=>hQ x h' tk hP (.inr ⟨x,_,false,_,?_,ht,CV (lc he),CV hit,CV hS⟩) hs ht hz hk
  have ec:((i+1:Nat):Int)=(i:Int)+1:=by omega
  rw[ec];exact ho
 ·unfold Es
  refine bm (GQ (DD (name:=Fa "__next__") hT ER
   (Df ER hT Iz
    (xi D he ha h1 h2 hst hlt hne hef λx h' tk hP ho hs ht hz hk=>dL (hQ x h' tk hP (.inr ⟨old,a,true,oa,?_,hk a oa h1 h2 ha,h1,h2,h3⟩) hs ht hz hk)) (Ir _))))
  have ec:((i+1:Nat):Int)=(i:Int)+1:=by omega
  rw[ec];exact ho
theorem zk {e it S:Addr}{fp:List Addr}{n i:Nat}{P:Nat->bn->Prop}{St:Nat->Heap->Prop}{Q:Option bn->ca->Prop}
  (D:J5 prog w A.in1 it fp n P St) (he:EnS s.heap e it i S) (hst:St n s.heap)
  (hQ:∀h',Kg it s.heap h'->Q none {s with heap:=h'}):lm (sn prog w) A (Es (.ref e)) Q E s:=by
 have hT:s.TypeIs (.ref e) "enumerate" := he.typeIs
 rcases he with⟨old,he⟩ | ⟨old,a,f,oa,he,ha,h1,h2,h3⟩
 ·exact IU D he hst hQ
 ·unfold Es
  refine bm (GQ (DD (name:=Fa "__next__") hT ER
   (Df ER hT Iz ?_ (Ir _))))
  show lm _ _ (ID (.ref e) 2>>=_) _ _ _
  refine bm (D9 he rfl (x:=.ref it) rfl ?_)
  refine bm (D.done _ _ _ hst λh' x he' hx'=>?_)
  obtain⟨o,ho,hc⟩:=hx'
  refine bm (FO (T := "StopIteration") (b:=true) ⟨o,ho,hc⟩ HY ?_)
  exact dL (hQ _ he')
end
structure LeG (P:Nat->bn->Prop)(lo:Addr)(h:Heap)(as:List Addr):Prop where
 rise:as.Pairwise (· < ·)
 above:∀a∈as,lo<a
 pairs:∀(j:Nat) (a:Addr),as[j]? = some a->∃tk x,P j x/\h.get? a=some {cls:=.type "tuple",data:=.seq #[.int j tk,x]}
theorem LeG.there {P:Nat->bn->Prop}{lo:Addr}{h:Heap}{as:List Addr}(g:LeG P lo h as){a:Addr}(ha:a∈as):a<h.objs.size:=by
 obtain⟨j,hj⟩:=List.mem_iff_getElem?.mp ha
 obtain⟨_,_,_,e⟩:=g.pairs j a hj
 exact lc e
section
variable {prog:wE}{w:B2}{A:Ca}{s:ca}{R:EK->ca->Prop}
theorem yY {S e it:Addr}{fp:List Addr}{n:Nat}{P:Nat->bn->Prop}{St:Nat->Heap->Prop}(D:J5 prog w A.in1.in1 it fp n P St)(heS:e<S)(hiS:it<S)(hne:e≠it)(hef:e∉fp)(hSf:S∉fp)(hn:n<=wT)(res:bn){h₁:Heap}
  (hR:∀h' tk acc c as,(∀b o,b≠S->b≠e->b≠it->h₁.get? b=some o->h'.get? b=some o)->h'.get? S=some {cls:=.type "list",dict:=none,data:=.seq acc c,slots:=#[]}->as.length=n->LeG P S h' as ->
   acc.toList=as.map Value.ref->R (.ok (.ret res)) {s with heap:=h',toks:=tk}) :
  ∀(k i:Nat) (h:Heap) (tk c:Nat) (acc:Array bn) (as:List Addr),n - i=k->i<=n->EnS h e it i S->St i h->(∀b o,b≠S->b≠e->b≠it->h₁.get? b=some o->h.get? b=some o) ->
   h.get? S=some {cls:=.type "list",dict:=none,data:=.seq acc c,slots:=#[]}->acc.toList=as.map Value.ref->as.length=i->LeG P S h as ->
   CZ (sn prog w) A (.builtin "list.extend.loop" ⟨[.ref S,.ref e,res],[]⟩) R {s with heap:=h,toks:=tk}:=by
 intro k
 induction k with
 | zero =>
  intro i h tk c acc as hk hi hst hD hkeep hS hacc hal hG
  have hin:i=n:=by omega
  subst hin
  refine F9 G3 ?_
  rw[EF DM _]
  show lm _ A.in1 (Es (.ref e)>>=_) _ _ _
  refine bm (zk (s:={s with heap:=h,toks:=tk}) (A:=A.in1) D hst hD λh' he=>?_)
  refine dL (hR h' tk acc c as (λb o h1 h2 h3 e=>he b o h3 (hkeep b o h1 h2 h3 e)) (he S _ (CV hiS) hS) hal ⟨hG.rise,hG.above,λj a hj=>?_⟩ hacc)
  obtain⟨t,x,e1,e3⟩:=hG.pairs j a hj
  exact⟨t,x,e1,he a _ (CV (DE hiS (hG.above a (Cb hj)))) e3⟩
 | succ k ih =>
  intro i h tk c acc as hk hi hst hD hkeep hS hacc hal hG
  have hlt:i<n:=by omega
  have hsz:acc.size=i:=by rw[<- Di,hacc,f8,hal]
  have hSl:S<h.objs.size:=lc hS
  refine F9 G3 ?_
  rw[EF DM _]
  show lm _ A.in1 (Es (.ref e)>>=_) _ _ _
  refine bm (xh (s:={s with heap:=h,toks:=tk}) (A:=A.in1) (S:=S) D hst (DE hiS hSl) hSl hD hlt hne hef λx h' tk' hP hst' hD' ht hz hkp=>?_)
  dsimp only at ht hz hkp ⊢
  have hS':=hkp S _ (CV heS) (CV hiS) hS
  have up:∀b o,b≠S->h'.get? b=some o->(h'.update S (C1 (·.push (Value.ref h.objs.size)))).get? b=some o:=λb o hb e=>(CN _ _ (Dk hb)).trans e
  show lm _ A.in1 (Gx S (·.push (Value.ref h.objs.size))>>=_) _ _ _
  refine bm ?_
  refine Ev hS' rfl (dL ⟨FI DM _,ih (i+1) _ (tk'+1) _ (acc.push (Value.ref h.objs.size)) (as++[h.objs.size]) (by omega) hlt (hst'.keep up (wP heS)) (D.frame _ _ _ hD' λb hb o e=>up b o (λq=>hSf (q▸hb)) e)
   (λb o h1 h2 h3 e=>up b o h1 (hkp b o h2 h3 (hkeep b o h1 h2 h3 e))) (CS _ hS' rfl) (by rw[Gw,hacc,B7];rfl) (by rw[wS,hal];rfl) ⟨?_,?_,?_⟩⟩) (by rw[hsz];omega) (by show(acc.push (Value.ref h.objs.size)).size<=wT+1;rw[Array.size_push,hsz];omega)
  ·refine FV.mpr ⟨hG.rise,List.pairwise_singleton _ _,λa ha b hb=>?_⟩
   rw[wv.mp hb]
   exact hG.there ha
  ·intro a ha
   rcases BO.mp ha with ha | ha
   ·exact hG.above a ha
   ·rw[wv.mp ha];exact hSl
  ·intro j b hj
   rcases Dj j as.length with h1 | h1 | h1
   ·rw[BQ h1]at hj
    obtain⟨t,x',e1,e3⟩:=hG.pairs j b hj
    have hb:=hG.above b (Cb hj)
    exact⟨t,x',e1,up b _ (CV hb) (hkp b _ (CV (DE heS hb)) (CV (DE hiS hb)) e3)⟩
   ·subst h1
    have hb:h.objs.size=b:=by simpa using hj
    subst hb
    exact⟨tk',x,by rw[hal];exact hP,by rw[hal];exact up _ _ (CV hSl) ht⟩
   ·have hnone:(as++[h.objs.size])[j]? = none:=Dq (by rw[wS,Dp];omega)
    rw[hnone]at hj;cases hj
end
theorem qm:GW (.type "enumerate") "__len__" = pure none:=by rw[F8,ES];kernel_rfl
theorem oH:GW (.type "enumerate") "__length_hint__" = pure none:=by rw[F8,ES];kernel_rfl
section
variable {prog:wE}{w:B2}{A:Ca}{E:bn->ca->Prop}{s:ca}
theorem yZ {e it:Addr}{fp:List Addr}{n:Nat}{P:Nat->bn->Prop}{St:Nat->Heap->Prop}{old:bn}{Q:bn->ca->Prop}(D:J5 prog w A.in1.in1.in1 it fp n P St)(he:Hx s.heap e it 0 old)(hit:it<s.heap.objs.size)(hst:St 0 s.heap)(hne:e≠it)(hef:e∉fp)(hfp:∀b∈fp,b<s.heap.objs.size)(hn:n<=wT)
  (hQ:∀h' tk acc c as,(∀b o,b≠e->b≠it->s.heap.get? b=some o->h'.get? b=some o)->h'.get? s.heap.objs.size=some {cls:=.type "list",dict:=none,data:=.seq acc c,slots:=#[]}->as.length=n->LeG P s.heap.objs.size h' as ->
   acc.toList=as.map Value.ref->Q (.ref s.heap.objs.size) {s with heap:=h',toks:=tk}) :
  lm (sn prog w) A (call (.type "list") [.ref e]) Q E s:=by
 refine callType_codes (Q₁:=λobj s₁=>obj = .ref s.heap.objs.size/\s₁={s with heap:=s.heap.push {cls:=.type "list",data:=.seq #[]}}) PySem.F.called_list (PySem.F.typeCall_list_1 _) PySem.F.entry_list_init
  (code_list_new _ ⟨rfl,rfl⟩) λobj s₁ h₁=>?_
 obtain⟨rfl,rfl⟩:=h₁
 have hel:e<s.heap.objs.size:=lc he
 have hS:(s.heap.push {cls:=.type "list",data:=.seq #[]}).get? s.heap.objs.size=some {cls:=.type "list",data:=.seq #[]}:=ww _ rfl
 have old1:∀b o,s.heap.get? b=some o->(s.heap.push {cls:=.type "list",data:=.seq #[]}).get? b=some o:=λb o e=>db _ e
 have lts:∀b o,s.heap.get? b=some o->b≠s.heap.objs.size:=λb o e=>wP (lc e)
 refine⟨⟨_,hS,rfl⟩,PySem.F.args_list_init_2 _ _,?_⟩
 generalize hS0:s.heap.objs.size=S at hS hit hfp hQ hel lts ⊢
 generalize hh1:s.heap.push {cls:=.type "list",data:=.seq #[]}=hp1 at hS old1 ⊢
 show lm _ _ (do let old <- GV (.ref S);Kr (.ref S) (λ_=>#[]);letGo old.toList.reverse;C8 (.ref S) (.ref e) .none) _ _ _
 refine bm ?_
 unfold GV
 refine bm (Gk hS rfl (dL ?_))
 show lm _ _ (Gx S (λ_=>#[])>>=λ_=>letGo (#[]:Array bn).toList.reverse>>=λ_=>C8 (.ref S) (.ref e) .none) _ _ _
 refine bm (Ev hS rfl ?_)
 have hS₂:=CS (C1 (λ_=>(#[]:Array bn))) hS rfl
 have oth:∀b o,b≠S->hp1.get? b=some o->(hp1.update S (C1 (λ_=>(#[]:Array bn)))).get? b=some o :=
  λb o hb e=>(CN _ _ (Dk hb)).trans e
 refine bm (wpAny_letGo ?_)
 generalize hp1.update S (C1 (λ_=>(#[]:Array bn)))=hp2 at hS₂ oth ⊢
 have old2:∀b o,s.heap.get? b=some o->hp2.get? b=some o:=λb o e=>oth b o (lts b o e) (old1 b o e)
 have he2:Hx hp2 e it 0 old:=old2 _ _ he
 have hT2:Shared.TypeIs {s with heap:=hp2} (.ref e) "enumerate" := ⟨_,he2,rfl⟩
 unfold C8
 refine bm (IT hT2 ?_)
 have h1:Ec (.ref S) (.ref e)=false:=by simp[Ec,CV hel]
 have h2:(Value.type "enumerate" == Value.type "list")=false:=by decide
 have h3:(Value.type "enumerate" == Value.type "tuple")=false:=by decide
 simp only[h1,h2,h3,Gf,D5,if_false]
 refine bm (EG he2 ?_)
 refine bm (DZ ?_)
 unfold EC
 refine bm (F6 hT2 qm ?_)
 show lm _ _ (specialOf (Value.ref e) (Fa "__length_hint__")>>=_) _ _ _
 refine bm (F6 hT2 oH ?_)
 refine dL ?_
 show lm _ _ (rule "list.extend.makes-room" >>= λ_=>Ks (.ref S)>>=λ_ =>
  II (.builtin "list.extend.loop" ⟨[.ref S,.ref e,.none],[]⟩)) _ _ _
 refine bm (DQ ?_)
 refine bm ?_
 show lm _ _ (Gx S (·.push .none)>>=λ_=>Gx S (·.pop)) _ _ _
 refine bm (Ev hS₂ rfl ?_)
 have hS₃:=CS (C1 (·.push Value.none)) hS₂ rfl
 refine Ev (hz:=by seq_fits) hS₃ rfl ?_
 have hS₄:=CS (C1 (·.pop)) hS₃ rfl
 have oth4:∀b o,b≠S->hp2.get? b=some o->((hp2.update S (C1 (·.push Value.none))).update S (C1 (·.pop))).get? b=some o :=
  λb o hb e=>(CN _ _ (Dk hb)).trans ((CN _ _ (Dk hb)).trans e)
 generalize (hp2.update S (C1 (·.push Value.none))).update S (C1 (·.pop))=hp4 at hS₄ oth4 ⊢
 have old4:∀b o,s.heap.get? b=some o->hp4.get? b=some o:=λb o e=>oth4 b o (lts b o e) (old2 b o e)
 refine dL ⟨FI DM _,?_⟩
 refine yY (s:=s) (h₁:=s.heap) D hel hit hne hef (λq=>DV _ (hfp _ q)) hn .none (λh' tk acc c as hk hS' hl hG hacc=>?_) n 0 hp4 s.toks _ #[] [] (GK _) (zn _) (.inl ⟨old,old4 _ _ he⟩) (D.frame _ _ _ hst λb hb o e=>old4 b o e) (λb o _ _ _ e=>old4 b o e) hS₄ rfl rfl
  ⟨List.Pairwise.nil,(λ_ ha=>nomatch ha),(λj a hj=>by simp at hj)⟩
 exact⟨rfl,hQ h' tk acc c as (λb o h1 h2 e=>hk b o (lts b o e) h1 h2 e) hS' hl hG hacc⟩
end
theorem lA {X:Cx}{pins:List (Addr×Obj)}{σ:St}{s:ca}{H1:Hp}{lo:Addr}(fp:∀b,lo<=b->FpOk X pins H1 b):∀(as:List Addr) (xs:List V) (k:Nat) (H:Hp),Inv X pins σ H s->as.Pairwise (· < ·)->(∀a∈as,lo<=a)->(∀a∈as,H a=none) ->
  (∀j a,as[j]? = some a->∃tk x u,xs[j]? = some x/\RelV x u/\s.heap.get? a=some {cls:=.type "tuple",data:=.seq #[.int ((k+j:Nat):Int) tk,u]}) ->
  ∃H',Inv X pins σ H' s/\Same H H'/\(∀j a,as[j]? = some a->∃x,xs[j]? = some x/\H' a=some (.tup [.int ((k+j:Nat):Int),x]))/\∀b,b∉as->H' b=H b
 | [],xs,k,H,I,_,_,_,_=>⟨H,I,.refl _,(λj a h=>by simp at h),λ_ _=>rfl⟩
 | a::as,xs,k,H,I,hp,hl,hn,ht=>by
  obtain⟨tk,x,u,ex,ru,eu⟩:=ht 0 a rfl
  have ea:=hn a B3
  have hp':=Dr.mp hp
  have ne:∀b∈as,b≠a:=λb hb=>CV (hp'.1 b hb)
  have I2:=I.trackO (p:=a) (o:=.tup [.int ((k:Nat):Int),x]) ⟨ea,(fp a (hl a B3)).2⟩ ⟨by show 2<=wT;decide,[.int ((k:Nat):Int) tk,u],.cons ⟨_,rfl⟩ (.cons ru .nil),_,eu,rfl,_,rfl⟩
  cases xs with
  | nil=>simp at ex
  | cons x0 xs =>
   simp only[Dz,Co]at ex
   subst ex
   obtain⟨H',J1,J2,J3,J4⟩:=lA fp as xs (k+1) _ I2 hp'.2 (λb hb=>hl b (BU _ hb)) (λb hb=>by rw[aR (ne b hb)];exact hn b (BU _ hb)) (λj b hj=>by
    obtain⟨tk,x,u,e1,e2,e3⟩:=ht (j+1) b (by simpa using hj)
    exact⟨tk,x,u,by simpa using e1,e2,by rw[show k+1+j=k+(j+1)by omega];exact e3⟩)
   refine⟨H',J1,λb o e=>J2 b o (by rw[aR (be e ea)];exact e),λj b hj=>?_,λb hb=>?_⟩
   ·cases j with
    | zero =>
     simp only[Dz,Co]at hj
     subst hj
     exact⟨x0,rfl,J2 a _ aS⟩
    | succ j =>
     obtain⟨x,e1,e2⟩:=J3 j b (by simpa using hj)
     exact⟨x,by simpa using e1,by rw[show k+(j+1)=k+1+j by omega];exact e2⟩
   ·have nb:b≠a:=λz=>hb (z▸B3)
    rw[J4 b (λz=>hb (BU _ z)),aR nb]
def tLsE (K:bi)(t:TA):TE:=λσ H Q=>t σ H λvs H1=>∃l xs,vs=[.ref l]/\SqT K H1 l xs/\∀ys H0 p,Same H1 H0->ys.length=xs.length ->
 (∀j x,xs[j]? = some x->∃q,ys[j]? = some (.ref q)/\H1 q=none/\H0 q=some (.tup [.int (j:Nat),x]))->H0 p=none->Q (.ref p) (upd H0 p (.lst ys))
theorem Af (K:bi){X:Cx}{a:Expr}{ta:TA}{p1 p2 pos1 pos2:Pos}(hc:X.calm=true)(hg1:Gl X "list")(hm1:X.mg "list" = none)(hg2:Gl X "enumerate")(hm2:X.mg "enumerate" = none)(ha:PA X [a] ta)(hK:X.K=K:=by rfl)
  (hs1:B1 [.Call (.Name "enumerate" p2) [a] [] pos2] X.env=[(false,eval (.Call (.Name "enumerate" p2) [a] [] pos2) X.env)]:=by rfl) (hs2:B1 [a] X.env=[(false,eval a X.env)]:=by rfl) :
  PE X (.Call (.Name "list" p1) [.Call (.Name "enumerate" p2) [a] [] pos2] [] pos1) (tLsE K ta):=by
 subst hK
 intro pins s σ H Q I h
 refine IS (gE I hg1 hm1 nh (CB ?_ hs1 rfl))
 rw[hs1]
 show lm _ _ (JS [(false,eval (.Call (.Name "enumerate" p2) [a] [] pos2) X.env)]) _ _ s
 refine Ep ?_
 refine IS (gE I hg2 hm2 gQ (CB (thn (ha pos2 pins s σ H _ I h) λus s1 ⟨vs,H1,I1,r1,q1⟩=>?_) hs2 rfl))
 obtain⟨l,xs,rfl,h1,q⟩:=q1
 obtain⟨u,rfl,ru⟩:=jY r1
 cases ru
 obtain⟨its,rv,p1,hz⟩:=I1.tuple h1
 have lt:l<s1.heap.objs.size:=by obtain⟨o,e,_⟩:=id p1;exact lc e
 refine l8 p1 λh' he hi hsz hk=>Fk ?_
 have pt1:h'.IsTuple l its.toArray:=by obtain⟨o,e,r⟩:=p1;exact⟨o,hk _ _ e,r⟩
 have nl:l≠s1.heap.objs.size:=wP lt
 have nel:s1.heap.objs.size+1≠l:=Dk (wP (Fo lt))
 have ltI:s1.heap.objs.size<h'.objs.size:=by rw[hsz];exact Nat.lt_add_of_pos_right (by decide)
 have e0:Hx h' (s1.heap.objs.size+1) s1.heap.objs.size ((0:Nat):Int) .none:=he
 refine yZ (s:={s1 with heap:=h'}) (kQ (show X.A.in1.in1.in1.handled=none from I1.ok.hd hc) s1.heap.objs.size l nl its.toArray) he ltI ⟨hi,pt1⟩ (Jk _) (λz=>by
  simp only[sB,Cp,or_false]at z
  rcases z with z | z
  ·exact Jk _ z
  ·exact nel z) (λb hb=>?_) (by rw[on,<- rv.length];exact hz) λh2 tk acc c as hk2 hS hl hG hacc=>?_
 ·show b<h'.objs.size
  simp only[sB,Cp,or_false]at hb
  rcases hb with rfl | rfl
  ·exact ltI
  ·exact DE lt ltI
 ·have hle:s1.heap.objs.size<=h'.objs.size:=by omega
  have hS':h2.get? h'.objs.size=some {cls:=.type "list",dict:=none,data:=.seq acc c,slots:=#[]}:=hS
  have le0:∀b,s1.heap.objs.size<=b->FpOk X pins H1 b:=λb hb=>I1.fpOk hb (I1.hok.fresh hb)
  have I2:Inv X pins σ H1 {s1 with heap:=h'}:=I1.kept (t':=s1.toks) hk
  have I3:Inv X pins σ H1 {s1 with heap:=h2,toks:=tk}:=Inv.turns (s:={s1 with heap:=h'}) (ch:=[s1.heap.objs.size+1,s1.heap.objs.size]) (t':=tk) I2 (λb o hb e=>by
   simp only[sB,Cp,or_false,not_or]at hb
   exact hk2 b o hb.1 hb.2 e) (λb hb=>le0 b (by
    simp only[sB,Cp,or_false]at hb
    rcases hb with rfl | rfl
    ·exact Fp _
    ·exact li _))
  have abv:∀b∈as,h'.objs.size<b:=hG.above
  obtain⟨H0,J1,J2,J3,J4⟩:=lA (lo:=s1.heap.objs.size) le0 as xs 0 H1 I3 hG.rise (λb hb=>xL hle (CI (abv b hb))) (λb hb=>I1.hok.fresh (xL hle (CI (abv b hb)))) (λj b hj=>by
   obtain⟨t,x,e1,e2⟩:=hG.pairs j b hj
   have e1':its[j]? = some x:=by simpa using e1
   have hjl:j<xs.length:=by rw[rv.length];exact(im.mp e1').1
   obtain⟨u,hu,ru⟩:=rv.get (bv hjl)
   rw[e1']at hu
   cases hu
   exact⟨t,xs[j],x,bv hjl,ru,by rw[CU];exact e2⟩)
  have nS:h'.objs.size∉as:=λz=>DV _ (abv _ z)
  have f0:=le0 h'.objs.size (by omega)
  have n0:H0 h'.objs.size=none:=by rw[J4 _ nS];exact f0.1
  have hal:as.length=xs.length:=by rw[hl,on,<- rv.length]
  have vr:∀l:List Addr,Vals (l.map V.ref) (l.map Value.ref):=λl=>by
   induction l with
   | nil=>exact .nil
   | cons a l ih=>exact .cons rfl ih
  have I4:=J1.track (D:=h'.objs.size) (ys:=as.map V.ref) (its:=acc.toList) (n:=c) n0 (xL I1.sz (by omega)) f0.2.1 f0.2.2.2.2.1 f0.2.2.2.2.2 (by rw[f8,hal];exact hz) (by rw[hacc];exact vr as) (by simpa using hS')
  refine⟨.ref h'.objs.size,_,I4,rfl,q _ H0 _ J2 (by rw[f8,hal]) (λj x hx=>?_) n0⟩
  have hj:j<as.length:=by rw[hal];exact(im.mp hx).1
  obtain⟨x',e1,e2⟩:=J3 j as[j] (bv hj)
  rw[hx]at e1
  cases e1
  rw[CU]at e2
  refine⟨as[j],by rw[wn,bv hj];rfl,I1.hok.fresh (xL hle (CI (abv as[j] (DX hj)))),e2⟩
section
variable {K:bi}{ts:TA}{as:AA}
def aLsE (as:AA):AE:=λρ q=>as ρ λrs ρ1=>match rs with
 | [.d (.tup ds)]=>q (.n (.ow (dS 0 ds))) ρ1
 | _=>False
theorem qY {H1 H0:Hp}:∀ {vs:List V} {ds:List D} {ys:List V} {b:Nat},RepDs K H1 vs ds->ys.length=vs.length->(∀j x,vs[j]? = some x->∃q,ys[j]? = some (.ref q)/\H0 q=some (.tup [.int ((b+j:Nat):Int),x]))->(∀a o,H1 a=some o->H0 a=some o)->RepDs K H0 ys (dS b ds)
 | [],[],ys,b,_,hl,_,_=>by
  cases ys with
  | nil=>exact .nil
  | cons _ _=>simp at hl
 | v::vs,d::ds,ys,b,r,hl,hy,sm=>by
  cases ys with
  | nil=>simp at hl
  | cons y ys =>
   unfold RepDs at r
   obtain⟨q,e1,e2⟩:=hy 0 v rfl
   simp only[Dz,Co]at e1
   subst e1
   refine .cons ?_ (qY (b:=b+1) r.2 (by simpa using hl) (λj x hx=>?_) sm)
   ·unfold RepD
    exact⟨q,[.int (b:Nat),v],rfl,e2,.cons (by unfold RepD;rfl) (.cons (r.1.same sm) .nil)⟩
   ·obtain⟨q',e3,e4⟩:=hy (j+1) x (by simpa using hx)
    exact⟨q',by simpa using e3,by rw[show b+1+j=b+(j+1)by omega];exact e4⟩
 | [],_::_,_,_,r,_,_,_=>by unfold RepDs at r;exact r.elim
 | _::_,[],_,_,r,_,_,_=>by unfold RepDs at r;exact r.elim
theorem yd (h:TAok K ts as):TEok K (tLsE K ts) (aLsE as):=by
 intro F σ ρ H q Q r ha k
 refine h F σ ρ H _ _ r ha λrs ρ1 vs H1 h1 r1 i1 k1=>?_
 split at h1
 ·rename_i ds
  obtain⟨x,rfl,ix⟩:=i1.one
  have rd:RepD K _ x (.tup ds):=ix
  unfold RepD at rd
  obtain⟨a,vs,rfl,sq,rd⟩:=rd
  refine⟨a,vs,rfl,cf.seqT sq.sq,λys H0 p sm hl hy hp=>?_⟩
  have k0:Kp σ ρ1 ρ1 H1 H0:=⟨λa o e _=>sm a o e,λ_ h=>h⟩
  have hv:∀ {b},H1 b=none->¬hs F σ ρ1 b:=λ{b} e z=>rG r1 z e
  refine k (.n (.ow (dS 0 ds))) ρ1 _ _ h1 ⟨H0,p,_,r1.grow sm,k1.trans k0,rfl,⟨p,ys,rfl,aS,?_⟩,hp,rfl,rfl⟩
  refine qY rd hl (λj x hx=>?_) k0.vis
  obtain⟨q',e1,e2,e3⟩:=hy j x hx
  exact⟨q',e1,gG (hv e2) (by rw[CU];exact e3)⟩
 ·exact h1.elim
end
section
variable {P:wE}{w:B2}{A:Ca}{R:EK->ca->Prop}{s:ca}
theorem oN {kx vx tg iter:Expr}{ifs:List Expr}{scope:Dw}{pos:Pos}{it:bn}{D:Addr}{env:Env}(J:Nat->ca->Prop)
  (turn:∀n s,J n s->lm (sn P w) A (Es it) (λr s1=>match r with
   | none=>R (.ok .next) s1
   | some v=>lm (sn P w) A (Db tg it v) (λ_ s2=>lm (sn P w) A (D1 tg env v) (λ_ s3 =>
     lm (sn P w) A (forIn ifs true λc r=>if r=true then do let ok <- Fw c env (eval c env);pure (ForInStep.yield ok)else pure (ForInStep.yield r)) (λok s4 =>
      if ok=true then lm (sn P w) A (eval kx env) (λkv s5=>lm (sn P w) A (eval vx env) (λvv s6=>lm (sn P w) A (dictSet D kv vv) (λ_ s7=>∃m,m<n/\J m s7) (λ_ _=>False) s6) (λ_ _=>False) s5) (λ_ _=>False) s4
      else ∃m,m<n/\J m s4) (λ_ _=>False) s3) (λ_ _=>False) s2) (λ_ _=>False) s1) (λ_ _=>False) s)
  (n:Nat) (h:J n s):CZ (sn P w) A (.compLoop (.DictComp kx vx [⟨tg,iter,ifs,0⟩] scope pos) 0 it (.ref D) env) R s:=by
 have no:∀ {α:Type} {t:Sem α} {Q Q':α->ca->Prop} {E:bn->ca->Prop} {s:ca},lm (sn P w) A t Q (λ_ _=>False) s->(∀a s,Q a s->Q' a s)->lm (sn P w) A t Q' E s :=
  λh hq=>Dn h hq λ_ _ f=>f.elim
 refine FY rfl J (λn s hJ=>?_) n h
 show lm _ A ((FR (.DictComp kx vx [⟨tg,iter,ifs,0⟩] scope pos) 0 it (.ref D) env).onRaise (λx=>do FQ x env;Fh x)) _ _ s
 refine Gm ?_
 rw[compTurn_dict]
 refine bm (CT (bm (no (turn n s hJ) λr s1 h1=>?_)))
 cases r with
 | none=>exact dL h1
 | some v =>
  refine bm (no h1 λ_ s2 h2=>bm (no h2 λ_ s3 h3=>bm (no h3 λok s4 h4=>?_)))
  cases ok with
  | false=>exact dL ⟨rfl,h4⟩
  | true=>exact bm (bm (no h4 λx s5 h5=>bm (DZ (no h5 λy s6 h6=>bm (CT (DZ (no h6 λ_ s7 h7=>dL ⟨rfl,h7⟩)))))))
end
def x5 (J:It)(n:Nat)(js:List Nat)(g:TG)(tc:TT)(tk tv:TE)(Q:VK)(σ:St)(H1:Hp):Prop:=∃W:Nat->Nat->List (Key×V)->Hp->Prop,(∃m,W 0 m [] H1)/\∀i m ys H,W i m ys H ->
 (J.stop i H/\ys.length<=wT/\∀l,H l=none->Q (.ref l) (upd H l (.dK ys))) ∨
 (J.go i H/\ys.length<wT/\∃N:List (Key×V)->Hp->Prop,(∀zs H',N zs H'->∃m',m'<m/\W (i+1) m' zs H')/\∀x H',J.yld i H x H'->g x (bst n σ js) H' λσ2 H2=>σ2.drop n=capt σ js/\tc σ2 H2 λb H3 =>
  if b=true then tk σ2 H3 λkv H4=>tv σ2 H4 λv H5=>∃k,kv=kV k/\N (putK ys k v) H5 else N ys H3)
def nC (n:Nat)(js:List Nat)(wi:TI)(g:TG)(tc:TT)(tk tv:TE):TE:=λσ H Q=>wi σ H λJ H1=>x5 J n js g tc tk tv Q σ H1
section
variable {X:Cx}
theorem kS {kx vx tg iter:Expr}{ifs:List Expr}{scope:Dw}{pos:Pos}{own:List Str}{js:List Nat}{g:TG}{tc:TT}{tk tv:TE}{Q:VK}{pins:List (Addr×Obj)}{σ:St}{s2:ca}{itv:bn}{E:bn->ca->Prop}
  {RR:bn->Addr->EK->ca->Prop} (hc:X.calm=true) (B:Blk X scope own js) (hg:∀s H C fp,(own++capN X.N js).Nodup->PG (blk X scope (own++capN X.N js) s H C fp) tg g) (ht:∀s H C fp,PTs (blk X scope (own++capN X.N js) s H C fp) ifs tc)
  (hk:∀s H C fp,PE (blk X scope (own++capN X.N js) s H C fp) kx tk) (hv:∀s H C fp,PE (blk X scope (own++capN X.N js) s H C fp) vx tv)
  (h:PIE X pins σ tg (λJ H1=>x5 J own.length js g tc tk tv Q σ H1) itv s2)
  (hR:∀C acc s',vO X pins σ Q C acc s'->RR acc C (.ok .next) s') :
  lm (sn X.prog X.w) X.A newDict (λacc s3=>lm (sn X.prog X.w) X.A (Go scope X.env.globals (cS scope X.env) [] X.env.qual none .none (some X.env)) (λcenv s4 =>
   CZ (sn X.prog X.w) X.A (.compStart (.DictComp kx vx [⟨tg,iter,ifs,0⟩] scope pos) 0 itv acc {cenv with scope:=Gy scope X.env}) (RR acc cenv.locals) s4) E s3) E s2:=by
 obtain⟨it,fp,tn,J,H2,rfl,I2,T,st2,f2,W,⟨m0,w0⟩,turn⟩:=h
 refine Dm (E8 B.nocell (by intro y hy;simp at hy) (λh1 hns1 hsb1=>?_) B.kind)
 have hnew:(s2.heap.push {cls:=.type "dict",dict:=none,data:=.dict #[]}).DictOf (bG X.prog X.w) s2.heap.objs.size []:=HS s2.heap
 generalize hPu:s2.heap.push {cls:=.type "dict",dict:=none,data:=.dict #[]}=Pu at hns1 hsb1 hnew ⊢
 dsimp only at hns1 hsb1 ⊢
 have hDC:Pu.objs.size=s2.heap.objs.size+1:=by rw[<- hPu,C0]
 have hbig:=I2.big
 generalize hD:s2.heap.objs.size=D at hDC hnew hbig ⊢
 generalize hC:Pu.objs.size=C at hns1 hsb1 hDC ⊢
 have ltDC:D<C:=by rw[hDC];exact DH D
 have neDC:D≠C:=wP ltDC
 have keep1:∀b o,s2.heap.get? b=some o->h1.get? b=some o:=λb o e=>by
  have hb:b<D:=by rw[<- hD];exact lc e
  have hb2:b≠C:=wP (DE hb ltDC)
  refine(hsb1.2 b hb2).trans (db _ ?_)
  rw[<- hPu]
  exact db _ e
 have gD1:h1.DictOf (bG X.prog X.w) D []:=hnew.at λo e=>(hsb1.2 D neDC).trans (db _ e)
 have szD:s2.heap.objs.size<=D:=Fe hD
 have szC:s2.heap.objs.size<=C:=xL szD (CI ltDC)
 have old:∀ {b:Addr},b<s2.heap.objs.size->b≠D/\b≠C:=λhb=>⟨wP (xz hb szD),wP (xz hb szC)⟩
 have fpo:∀b∈fp,∃o,s2.heap.get? b=some o:=λb hb=>let ⟨o,e,_⟩:=T.obj 0 _ st2 b hb;⟨o,e⟩
 have fpD:∀b∈fp,b≠D/\b≠C:=λb hb=>by
  obtain⟨o,e⟩:=fpo b hb
  exact old (lc e)
 have clD:∀x d,X.env.cells.lookup x=some d->d≠D/\d≠C:=λx d e=>by
  obtain⟨v,o,ho,_⟩:=I2.cell x d e
  exact old (lc ho)
 have pinD:∀p∈X.pn++pins,p.1≠D/\p.1≠C:=λp hp=>by
  exact old (lc (I2.pin p hp).1)
 have locD:D≠X.env.locals/\C≠X.env.locals:=by
  exact⟨(old I2.lt).1.symm,(old I2.lt).2.symm⟩
 let Y:=blk X scope (own++capN X.N js) s2 H2 C fp
 have IB:Inv Y [] (bst own.length σ js) H2 {s2 with heap:=h1,toks:=s2.toks+([]:List (Str×bn)).length}:=ni B I2 f2 fpo szC hns1 keep1
 have fpB:∀ {H':Hp} {pl:List (Addr×Obj)},(∀b∈fp,H' b=none)->(∀p∈pl,p.1=D)->∀b∈fp,FpOk Y pl H' b:=λ{H' pl} hn hp b hb=>by
  obtain⟨f0,f1,f3,f4,f5,f6⟩:=f2 b hb
  refine⟨hn b hb,(fpD b hb).2,λz=>?_,.inl hb,λx c e=>f5 x c (cu e),λp q=>?_⟩
  ·rcases sB.mp (I2.stkSub b z)with z | z
   ·exact f1 z
   ·exact f3 z
  ·have q':p∈pl:=by simpa [Y,blk] using q
   rw[hp p q']
   exact(fpD b hb).1.symm
 have clB:∀x d,Y.env.cells.lookup x=some d->d≠D:=λx d e=>(clD x d (cu e)).1
 have notFs:D∉Y.fs:=λz=>by
  obtain⟨_,o,ho,_⟩:=IB.ok.funs.mem z
  exact(old (lc (show s2.heap.get? D=some o from ho))).1 rfl
 have loop:∀s3:ca,s3={s2 with heap:=h1,toks:=s2.toks+([]:List (Str×bn)).length} ->
   CZ (sn X.prog X.w) X.A (.compLoop (.DictComp kx vx [⟨tg,iter,ifs,0⟩] scope pos) 0 (.ref it) (.ref D) (H_ scope (cS scope X.env) C X.env)) (RR (.ref D) C) s3:=by
  rintro s3 rfl
  refine oN (λn s'=>∃(i:Nat) (ys:List (Key×V)) (vs:List (Key×bn)) (H':Hp),Inv Y [] (bst own.length σ js) H' s'/\tn i s'.heap/\(∀b∈fp,H' b=none)/\H' D=none/\KV ys vs /\
   s'.heap.DictOf (bG X.prog X.w) D vs/\W i n ys H') ?_ m0 ⟨0,[],[],H2,IB,T.keep 0 _ _ st2 (λb hb o e=>keep1 b o e),λb hb=>(f2 b hb).1,I2.hok.fresh szD,.nil,gD1,w0⟩
  rintro n s3 ⟨i,ys,vs,H3,I3,st3,fr3,hD3,r3,g3,w3⟩
  obtain⟨od,ho3,hdd⟩:=G9.mp g3
  have dat3:∀ {h:Heap},h.get? D=some od->h.DictOf (bG X.prog X.w) D vs:=λe=>G9.mpr ⟨od,e,hdd⟩
  have ncell:∀v,od.data ≠ .cell v:=λv z=>by
   obtain⟨o,es,ep,ho,hcl,hda,_⟩:=g3
   rw[ho3]at ho;cases ho;rw[hda]at z;cases z
  have I3p:Inv Y [(D,od)] (bst own.length σ js) H3 s3:=I3.pins_of λp hp=>by
   have e:p=(D,od):=by simpa using hp
   subst e
   exact⟨ho3,hD3,neDC,notFs,ncell⟩
  have f3:∀b∈fp,FpOk Y [(D,od)] H3 b:=fpB fr3 λp hp=>by
   have e:p=(D,od):=by simpa using hp
   rw[e]
  rcases turn i n ys H3 w3 with⟨stop,hz,qn⟩ | ⟨go,hz,N,hN,step⟩
  ·refine thn (T.done Y rfl rfl rfl hc i _ s3 _ H3 (λ_ _=>False) I3p f3 st3 stop) λr s4 ⟨hr,I4⟩=>?_
   subst hr
   refine hR C _ s4 ?_
   have g4:=(I4.pin (D,od) (by simp[Y,blk])).1
   obtain⟨m,hn4,_⟩:=id I4.loc
   have un:Un (frs X.stack) fp H2 H3 s2.heap s4.heap:=I4.base
   have I5:Inv X pins σ H3 s4:=I2.call' I4.os un I4.hok I4.bare λb hb=>let ⟨_,b1,_,b3,b4,b5⟩:=f2 b hb;⟨b3,b1,b4,b5⟩
   have I6:=I5.trackO (p:=D) (o:=.dK ys) (I2.fpOk szD hD3) (oJ hz (beq_eq_false_iff_ne.mpr (Dk (wP hbig))) r3 (dat3 g4))
   refine⟨D,_,m,rfl,hn4,I6,?_,xL I2.sz szC,locD.2,λx d e=>(clD x d e).2,λp hp=>(pinD p hp).2,qn D hD3⟩
   rw[aR (Dk neDC)]
   exact I4.free
  ·refine thn (T.item Y rfl rfl rfl hc i _ s3 _ H3 (λ_ _=>False) I3p f3 st3 go) λr s4 ⟨u,hr,h4⟩=>?_
   subst hr
   refine thn h4 λ_ s5 ⟨x,H5,I5,r5,y5,st5,fr5⟩=>?_
   have f5:∀b∈fp,FpOk Y [(D,od)] H5 b:=λb hb=>⟨fr5 b hb,(f3 b hb).2⟩
   have I5':=I5.pinned f5 (T.obj _ _ st5)
   refine thn (hg s2 H2 C fp B.nd _ s5 _ H5 x u _ I5' r5 (step x H5 y5)) λ_ s6 ⟨σ6,H6,I6,d6,q6⟩=>?_
   refine thn (ht s2 H2 C fp _ s6 σ6 H6 _ I6 q6) λok s7 ⟨H7,I7,q7⟩=>?_
   have after:∀ {s8:ca} {H8:Hp},Inv Y ([(D,od)]++f9 fp s5.heap) σ6 H8 s8 ->
     s8.heap.get? D=some od/\H8 D=none/\tn (i+1) s8.heap/\(∀b∈fp,H8 b=none)/\Inv Y [] (bst own.length σ js) H8 s8:=λ{s8 H8} I8=>by
    have p8:=I8.pin (D,od) (by simp[Y,blk])
    refine⟨p8.1,p8.2.1,T.keep _ _ _ st5 λb hb o e=>(I8.pin (b,o) (ga _ (ga _ (bZ hb e)))).1,λb hb=>?_,?_⟩
    ·obtain⟨o,e,_⟩:=T.obj _ _ st5 b hb
     exact(I8.pin (b,o) (ga _ (ga _ (bZ hb e)))).2.1
    ·refine(I8.pins_of (pins':=[]) λp hp=>absurd hp (by simp[Y,blk])).weak ?_ λj v e=>?_
     ·rw[I8.len,fU]
      show _=(own++capN X.N js).length
      unfold capN
      simp
     ·rcases BW j own.length with z | z
      ·exfalso
       unfold bst at e
       rw[BQ (by simpa using z),CK]at e
       split at e <;> cases e
      ·unfold bst at e
       rw[Cc (by simpa using z),C7,<- d6,Cg]at e
       rw[<- e]
       congr 1
       omega
   cases ok with
   | false =>
    rw[if_neg B4]at q7 ⊢
    obtain⟨m',hm,w7⟩:=hN _ _ q7
    obtain⟨a1,a2,a3,a4,a5⟩:=after I7
    exact⟨m',hm,i+1,ys,vs,H7,a5,a3,a4,a2,r3,dat3 a1,w7⟩
   | true =>
    rw[if_pos rfl]at q7 ⊢
    refine thn (hk s2 H2 C fp _ s7 σ6 H7 _ I7 q7) λu8 s8 ⟨v8,H8,I8,r8,n8⟩=>?_
    refine thn (hv s2 H2 C fp _ s8 σ6 H8 _ I8 n8) λu9 s9 ⟨v9,H9,I9,r9,kk,ek,n9⟩=>?_
    subst ek
    obtain⟨m',hm,w9⟩:=hN _ _ n9
    obtain⟨a1,a2,a3,a4,a5⟩:=after I9
    have hvz:vs.length<=wT:=by rw[<- r3.length];exact CI hz
    refine wpAny_dictSet_pairs (hsz:=hvz) (oo r8) (dat3 a1) λh' dd' hs'=>?_
    have sb:Cq D s9.heap h':=hs'
    have I10:=(Inv.young a5 sb a2 szD neDC clB (λp hp=>absurd hp (by show p∉[]++[];simp))).tok (s9.toks+1)
    exact⟨m',hm,i+1,putK ys kk v9,Ht vs kk u9,H9,I10,T.keep _ _ _ a3 (λb hb o e=>(sb.2 b (fpD b hb).1).trans e),a4,a2,r3.put kk r9,dd',w9⟩
 exact codeAny_compStart_dict (loop _ rfl) (T.self _ 0 _ _ _ (T.keep 0 _ _ st2 λb hb o e=>keep1 b o e) (loop _ rfl))
theorem q8 {kx vx tg iter:Expr}{ifs:List Expr}{scope:Dw}{pos pos' spos:Pos}{i:Nat}{x:Str}(own:List Str)(js:List Nat){wi:TI}{g:TG}{tc:TT}{tk tv:TE}(hN:X.N.Nodup)(hi:X.N[i]? = some x)(hx:Loc X.env.scope x)
  (hc:X.calm=true) (B:Blk X scope own js) (hit:PI X tg iter wi)
  (hg:∀s H C fp,(own++capN X.N js).Nodup->PG (blk X scope (own++capN X.N js) s H C fp) tg g) (ht:∀s H C fp,PTs (blk X scope (own++capN X.N js) s H C fp) ifs tc) (hk:∀s H C fp,PE (blk X scope (own++capN X.N js) s H C fp) kx tk) (hv:∀s H C fp,PE (blk X scope (own++capN X.N js) s H C fp) vx tv)
  (hf:X.fn x=true∨X.env.scope.names.lookup x=some .local:=by first | exact .inl rfl | exact .inr rfl | assumption)
  (hw:FP (.DictComp kx vx [⟨tg,iter,ifs,0⟩] scope pos) (some (.Name x pos')) spos.line X.env=pure true:=by rfl)
  (hs:∀x,CY iter X.env x=pure x:=by intro _;rfl) :
  PS X (.Assign [.Name x pos'] (.DictComp kx vx [⟨tg,iter,ifs,0⟩] scope pos) spos) (λD σ H=>nC own.length js wi g tc tk tv σ H λv H'=>D.nx (σ.set i (some v)) H'):=by
 intro pins s σ H D I h
 have hcl:EV scope X.env=pure (cS scope X.env):=cJ λx hx hf=>I.ok.has x.1 (B.free x hx hf)
 rw[F_ _ _ _ _ hw]
 refine bm (CT (bm ?_))
 show lm _ X.A (do let _ <- FJ (.DictComp kx vx [⟨tg,iter,ifs,0⟩] scope pos) scope X.env _ newDict false (eval iter X.env) (some (D1 (.Name x pos') X.env))) _ _ s
 refine bm (thn (Q:=λ_ s'=>SP X pins D .next s') (Dy (use:=some (D1 (.Name x pos') X.env)) rfl hs hcl B.kind B.names (thn (hit pins s σ H _ I h) λv s1 h1=>thn h1 λitv s2 h2=>?_)) λ_ s' q=>dL (dL q))
 refine kS (Q:=λv H'=>D.nx (σ.set i (some v)) H') (RR:=λacc C=>Hc (sn X.prog X.w) X.A X.xe (some (D1 (.Name x pos') X.env)) (λ_ s'=>SP X pins D .next s') acc C) hc B hg ht hk hv h2 λC acc s' hb=>?_
 obtain⟨l,H',m,rfl,hn,I',c1,c2,c3,c4,c5,q⟩:=hb
 show lm _ X.A (D1 (.Name x pos') X.env (.ref l)) _ _ _
 refine FG (iA (v:=.ref l) I' hN hi hx rfl (λs3 I3 ⟨a,sb,ha⟩=>?_) hf)
 have ne:C≠a:=by
  rcases ha with z | z
  ·rw[z];exact c3
  ·exact(c4 x a z).symm
 exact⟨m,hn.sameBut sb ne,λh' hs'=>⟨_,H',I3.young hs' c1 c2 c3 c4 c5,q⟩⟩
end
def gh (n:Nat)(js:List Nat)(c:En->Prop)(g:AG)(tc:AT)(ak av:AE)(q:List (Key×D)->En->Prop):List D->List (Key×D)->En->Prop
 | [],acc,ρ=>c ρ/\q acc ρ
 | d::ds,acc,ρ=>c ρ/\g d (blkE n js ρ) λρ1=>tc ρ1 λb ρ2=>if b=true then ak ρ2 λrk ρ3=>av ρ3 λr ρ4=>sto [r.frz] ρ4 λes ρ5=>(match rk,es with
   | .d kd,[e]=>(match dKey kd with
    | some k=>gh n js c g tc ak av q ds (putD acc k e) (back ρ (js.map R.o) (ρ5.drop n))
    | none=>False)
   | _,_=>False)else gh n js c g tc ak av q ds acc (back ρ (js.map R.o) (ρ2.drop n))
def Bd (n:Nat)(js:List Nat)(i:AI)(g:AG)(tc:AT)(ak av:AE):AE:=λρ q=>i ρ λds c ρ1=>ds.length<=1000000/\gh n js c g tc ak av (λacc ρ2=>q (.n (.dk acc)) ρ2) ds [] ρ1
theorem g0 {κ:Type} [DecidableEq κ](kvs:List (κ×D))(k:κ)(d:D):(putD kvs k d).length<=kvs.length+1:=by
 unfold putD
 split
 ·simp
 ·simp
section
variable {K:bi}
theorem jZ {n:Nat}{js:List Nat}{wi:TI}{g:TG}{tc:TT}{tk tv:TE}{ai:AI}{ag:AG}{atc:AT}{ak av:AE}(hi:TIok K (λ_=>true) wi ai)(hg:TGok K (λj=>decide (n<=j)) g ag)(hc:TTok K tc atc)(hk:TEok K tk ak)(hv:TEok K tv av)
  (hd:dis (js.map R.o)=true:=by rfl):TEok K (nC n js wi g tc tk tv) (Bd n js ai ag atc ak av):=by
 intro F σ ρ H q Q r h k
 refine hi F σ ρ H _ _ r h λds c ρ1 J H1 h1 r1 k1 wk=>?_
 obtain⟨hz,h1⟩:=h1
 have hd':dis (blkR n js)=true:=by rw[i_];exact hd
 refine⟨λi m ys H'=>∃ ρ' acc,m=ds.length - i/\i<=ds.length/\Rel K F σ ρ' H'/\Kp σ ρ1 ρ' H1 H'/\ys.map BV=acc.map BV/\RepDs K (hid H' (hs F σ ρ')) (ys.map Ce) (acc.map Ce)/\acc.length<=i/\gh n js c ag atc ak av (λacc ρ2=>q (.n (.dk acc)) ρ2) (ds.drop i) acc ρ',⟨ds.length,ρ1,[],rfl,zn _,r1,.refl,rfl,.nil,zn _,h1⟩,?_⟩
 rintro i m ys H' ⟨ρ',acc,rfl,hl,r',k',rk,rd,al,h'⟩
 have w:c ρ'->WkAt K (hs F σ ρ') H' J ds:=λhc=>wk σ ρ' H' k'.vis r'.sl (λ_ _ _ e=>e) (λa z=>sM r' z) hc
 have yl:ys.length=acc.length:=iS rk
 rcases BW i ds.length with lt | ge
 ·right
  rw[B_ lt]at h'
  unfold gh at h'
  obtain⟨hcc,h'⟩:=h'
  obtain⟨go,yld⟩:=(w hcc i).1 ds[i] (bv lt)
  refine⟨go,lD (by omega),λzs H2=>∃ ρ2 acc2,Rel K F σ ρ2 H2/\Kp σ ρ1 ρ2 H1 H2/\zs.map BV=acc2.map BV/\RepDs K (hid H2 (hs F σ ρ2)) (zs.map Ce) (acc2.map Ce)/\acc2.length<=i+1/\gh n js c ag atc ak av (λacc ρ2=>q (.n (.dk acc)) ρ2) (ds.drop (i+1)) acc2 ρ2,
   λzs H2 ⟨ρ2,acc2,a1,a2,a3,a3',a4,a5⟩=>⟨ds.length - (i+1),by omega,ρ2,acc2,rfl,lt,a1,a2,a3,a3',a4,a5⟩,λx H2 hy=>?_⟩
  obtain⟨sm,rx⟩:=yld x H2 hy
  have r0':=r'
  have k':Kp σ ρ1 ρ' H1 H2:=k'.trans ⟨λa o e _=>sm a o e,λ_ h=>h⟩
  have rd:RepDs K (hid H2 (hs F σ ρ')) (ys.map Ce) (acc.map Ce):=rd.same (bq λa o e n=>⟨sm a o e,n⟩)
  have r':=r0'.grow sm
  have src:=jV (K:=K) (F:=F) (σ:=σ) (ρ:=ρ') (H:=H2) n js
  have rb:=r'.sub src hd'
  have hs2:=nE r' src
  rw[br]at rb hs2
  have pin:∀i a,(dU F σ ρ' H2 (bst n σ js) (blkE n js ρ')).pin i a->decide (n<=i)=true:=λi a h=>by
   rcases h with h | h
   ·exact decide_eq_true (jW h.1)
   ·exact h.elim
  have hlen:(bst n σ js).length=n+js.length:=fU
  have ret:∀ σ2 ρ2 H3,Rel K (dU F σ ρ' H2 (bst n σ js) (blkE n js ρ')) σ2 ρ2 H3->σ2.length=(bst n σ js).length->σ2.drop n=capt σ js->(∀i,(gt ρ2 i).own=true->(gt (blkE n js ρ') i).own=true) ->
    Rel K F σ (back ρ' (js.map R.o) (ρ2.drop n)) H3/\Kp σ ρ' (back ρ' (js.map R.o) (ρ2.drop n)) H2 H3/\Same (hid H3 (hs (dU F σ ρ' H2 (bst n σ js) (blkE n js ρ')) σ2 ρ2)) (hid H3 (hs F σ (back ρ' (js.map R.o) (ρ2.drop n)))):=λσ2 ρ2 H3 rr hlen2 hdrop hown=>by
   obtain⟨f1,f2⟩:=rr.forget (n:=n) (by omega) λi a h=>of_decide_eq_true (pin i a h)
   rw[hdrop]at f1 f2
   have f1':Rel K (dU F σ ρ' H2 (bst n σ js) ((blkR n js).map (c_ ρ'))) (bst n σ js) (pc n .un++ρ2.drop n) H3:=by rw[br];exact f1
   have bk:=r'.back src hd' f1' λi hi=>by
    rw[br]
    rw[kO]at hi
    split at hi
    ·cases hi
    ·rename_i hni
     rw[ie,show n+(i - n)=i by omega]at hi
     exact hown i hi
   have ln:(pc n Sv.un++ρ2.drop n).length=n+js.length:=by
    have:=rr.len
    simp;omega
   rw[ja js ρ' n _ ln,DT (by simp),br]at bk
   exact⟨bk.1,bk.2.1,f2.trans bk.2.2⟩
  refine hg _ (bst n σ js) (blkE n js ρ') H2 x _ _ _ pin rb (by rw[hs2];exact rx) h' λσ2 ρ2 h2 r2 l2 p2 o2=>?_
  have hdrop:σ2.drop n=capt σ js:=by
   have:σ2.drop n=(bst n σ js).drop n:=by
    apply DA
    intro i
    rw[Cg,Cg]
    exact p2 (n+i) (decide_eq_true (by omega))
   rw[this]
   unfold bst
   rw[DT (by simp)]
  refine⟨hdrop,hc _ σ2 ρ2 H2 _ _ r2 h2 λb ρ3 H3 h3 r3 k3=>?_⟩
  cases b with
  | false =>
   obtain⟨b1,b2,_⟩:=ret σ2 ρ3 H3 r3 l2 hdrop λi hi=>(o2 i (k3.sb i hi)).1
   exact⟨_,acc,b1,k'.trans b2,rk,rd.same b2.vis,by omega,h3⟩
  | true =>
   refine hk _ σ2 ρ3 H3 _ _ r3 h3 λr4 ρ4 v4 H4 h4 o4=>?_
   obtain⟨r4',k4,i4⟩:=o4.inF
   refine hv _ σ2 ρ4 H4 _ _ r4' h4 λr6 ρ6 v6 H6 h6 o6=>?_
   obtain⟨r6',k6,i6⟩:=o6.inF
   obtain⟨d,ρ5,h5,r5,k5,rv⟩:=pw r6' i6 h6
   split at h5
   ·rename_i kd e0 ee
    cases ee
    split at h5
    ·rename_i kk ek
     obtain⟨b1,b2,b3⟩:=ret σ2 ρ5 H6 r5 l2 hdrop λi hi=>(o2 i (k3.sb i (k4.sb i (k6.sb i (k5.sb i hi))))).1
     obtain⟨p1,p2⟩:=my kk (rv.same b3) rk (rd.same b2.vis)
     exact⟨kk,uP i4 ek,_,putD acc kk d,b1,k'.trans b2,p1,p2,by have:=g0 acc kk d;omega,h5⟩
    ·exact h5.elim
   ·exact h5.elim
 ·left
  rw[CF ge]at h'
  unfold gh at h'
  obtain⟨hcc,h'⟩:=h'
  refine⟨(w hcc i).2 ge,small (by omega),λl hl'=>?_⟩
  exact k (.n (.dk acc)) ρ' _ _ h' ⟨H',l,_,r',k1.trans k',rfl,⟨l,ys,rfl,aS,rk,rd⟩,hl',rfl,rfl⟩
theorem nG {pr:Nat->Bool}{ae:AE}{i n:Nat}{js:List Nat}{wi:TI}{g:TG}{tc:TT}{tk tv:TE}(h:TEok K (nC n js wi g tc tk tv) ae)(hi:pr i=false):TSok K pr (λD σ H=>nC n js wi g tc tk tv σ H λv H'=>D.nx (σ.set i (some v)) H') (aSet i ae):=qT hi h
end
theorem jx {n:Nat}{js:List Nat}{c:En->Prop}{g:AG}{tc:AT}{ak av:AE}{q:List (Key×D)->En->Prop}(I:Nat->List (Key×D)->En->Prop){ds:List D}(hc:∀k acc ρ,k<=ds.length->I k acc ρ->c ρ)
  (hs:∀(k:Nat) d acc ρ (N:List (Key×D)->En->Prop),ds[k]? = some d->I k acc ρ->(∀acc' ρ',I (k+1) acc' ρ'->N acc' ρ') ->
   g d (blkE n js ρ) λρ1=>tc ρ1 λb ρ2=>if b=true then ak ρ2 λrk ρ3=>av ρ3 λr ρ4=>sto [r.frz] ρ4 λes ρ5=>(match rk,es with
   | .d kd,[e]=>(match dKey kd with
    | some k=>N (putD acc k e) (back ρ (js.map R.o) (ρ5.drop n))
    | none=>False)
   | _,_=>False)else N acc (back ρ (js.map R.o) (ρ2.drop n)))
  (hd:∀acc ρ,I ds.length acc ρ->q acc ρ):∀ ρ,I 0 [] ρ->gh n js c g tc ak av q ds [] ρ:=by
 have go:∀(es:List D) (k:Nat),ds.drop k=es->k<=ds.length->∀acc ρ,I k acc ρ->gh n js c g tc ak av q es acc ρ:=by
  intro es
  induction es with
  | nil =>
   intro k h hk acc ρ i
   have:ds.length<=k:=EQ.mp h
   have:k=ds.length:=by omega
   subst this
   unfold gh
   exact⟨hc _ acc ρ (li _) i,hd acc ρ i⟩
  | cons d es ih =>
   intro k h hk acc ρ i
   have lt:k<ds.length:=by
    rcases BW k ds.length with q | q
    ·exact q
    ·rw[CF q]at h;cases h
   rw[B_ lt]at h
   injection h with h1 h2
   unfold gh
   exact⟨hc k acc ρ hk i,hs k d acc ρ (λacc' ρ'=>gh n js c g tc ak av q es acc' ρ') (by rw[<- h1];exact bv lt) i (λacc' ρ' i'=>ih (k+1) h2 lt acc' ρ' i')⟩
 exact go ds 0 rfl (zn _) []
def kD:Key->D
 | .inl i=>.int i
 | .inr x=>.str x
theorem AF {K:bi}{H:Hp}(k:Key):RepD K H (kV k) (kD k):=by
 cases k with
 | inl i=>unfold RepD;rfl
 | inr x=>unfold RepD;rfl
def Itk (a:Addr)(ob:Obj)(ks:List Key):It :=
 ⟨λi H=>(∃u,H a=some (.frz ob u))/\i<ks.length,λi H v H'=>H'=H/\∃k,ks[i]? = some k/\v=kV k,λi H=>(∃u,H a=some (.frz ob u))/\ks.length<=i⟩
theorem AD {P:wE}{w:B2}{k:Key}{u:bn}(h:(bG P w).is k u=true):RelV (kV k) u:=by
 rcases b_ (k:=k) (v:=u) h with⟨i,t,rfl,rfl⟩ | ⟨x,t,rfl,rfl⟩
 ·exact⟨t,rfl⟩
 ·exact⟨t,rfl⟩
theorem tj {P:wE}{w:B2}{K:bi}{tg:Expr}{it a:Addr}{ob:Obj}{ks:List Key}{kv:List (Key×bn)}{ep:Nat}(rv:ks=kv.map BV)(ne:a≠it)(hob:∀h:Heap,h.get? a=some ob->h.DictAt (bG P w) a kv ep) :
  Turn P w K tg (Itk a ob ks) [it] it (λi h=>h.IsKeyIter it a i kv.length ep) where
 mem:=by simp
 obj:=λi h st b hb=>by
  obtain⟨o1,e1,c1,d1⟩:=st
  rw[wv.mp hb]
  exact⟨o1,e1,λv q=>by rw[d1]at q;cases q⟩
 keep:=λi h h' st k=>st.at λo q=>k it (by simp) o q
 item:=by
  intro X hP hw hK hc i pins s σ H E I hf st hg
  subst hP hw hK
  obtain⟨⟨u,hu⟩,hi⟩:=hg
  have ha:s.heap.get? a=some ob:=(show cK X.prog X.w H s.heap a (.frz ob u)from I.hok a _ hu).1
  have hl:ks.length=kv.length:=by rw[rv,f8]
  obtain⟨⟨kk,x⟩,hx⟩:∃p,kv[i]? = some p:=⟨kv[i],bv (by omega)⟩
  have hx':ks[i]? = some kk:=by rw[rv,wn,hx];rfl
  refine wpAny_pyNext_dict_item st (hob _ ha) hx λkey h' hkey hit' hs'=>?_
  obtain⟨o1,e1,c1,d1⟩:=id hit'
  refine⟨_,rfl,uZ e1 c1 d1 (by decide) ?_⟩
  refine⟨kV kk,H,I.turns (ch:=[it]) (t':=s.toks) (λb o hb q=>hs'.extBut b o (λz=>hb (by simp[z])) q) hf,AD hkey,⟨rfl,kk,hx',rfl⟩,hit',λb hb=>(hf b hb).1⟩
 done:=by
  intro X hP hw hK hc i pins s σ H E I hf st hg
  subst hP hw hK
  obtain⟨⟨u,hu⟩,hi⟩:=hg
  have ha:s.heap.get? a=some ob:=(show cK X.prog X.w H s.heap a (.frz ob u)from I.hok a _ hu).1
  have hl:ks.length=kv.length:=by rw[rv,f8]
  refine wpAny_pyNext_dict_end (I.ok.hd hc) st (hob _ ha) (by rw[Dq (by omega)]) λh' he'=>⟨rfl,I.turns (ch:=[it]) (t':=s.toks) (λb o hb q=>he' b o (λz=>hb (by simp[z])) q) hf⟩
 self:=λ_ _ _ _ _ st h=>wpAny_pyIter_keyiter st h
def AR (td:TE):TI:=λσ H R=>td σ H λx H1=>∃a kvs,x = .ref a/\H1 a=some (.dK kvs)/\∀ob,R (Itk a ob (kvs.map BV)) (upd H1 a (.frz ob (.dK kvs)))
theorem y1 {kvs:List (Key×V)}{vs:List (Key×bn)}(h:KV kvs vs):kvs.map BV=vs.map BV:=by
 induction h with
 | nil=>rfl
 | cons a _ ih=>simp only[wl,ih,a.1]
theorem yx {X:Cx}{tg o:Expr}{td:TE}(ho:PE X o td):PI X tg o (AR td):=by
 intro pins s σ H R I h
 refine thn (ho pins s σ H _ I h) λv s1 ⟨x,H1,I1,r1,a,kvs,ex,ha,q1⟩=>?_
 subst ex
 obtain rfl:v=Value.ref a:=r1
 obtain⟨z,hd,vs,rel,dd⟩:=xj I1.hok ha
 obtain⟨ep,da⟩:=dd.dictAt
 obtain⟨ob,es,eo,r⟩:=id da
 refine wpAny_pyIter_dict (knd:=bG X.prog X.w) (kvs:=vs) (ep:=ep) hd da ?_
 have I2:Inv X pins σ H1 {s1 with heap:=s1.heap.push {cls:=.type "dict_keyiterator",data:=.fields #[.ref a,.int 0 0,.int vs.length 0,.int ep 0]}}:=I1.kept (t':=s1.toks) λb o e=>db _ e
 have ha2:(s1.heap.push {cls:=.type "dict_keyiterator",data:=.fields #[.ref a,.int 0 0,.int vs.length 0,.int ep 0]}).get? a=some ob:=db _ eo
 have I3:=I2.write (x:=a) (e:=a) (o:=.frz ob (.dK kvs)) (t':=s1.toks) (h':=s1.heap.push {cls:=.type "dict_keyiterator",data:=.fields #[.ref a,.int 0 0,.int vs.length 0,.int ep 0]}) (by rw[ha];exact True.intro) (.inl rfl) (λb q _ e=>e) ⟨ob,ha2⟩ ⟨ha2,z,hd,vs,rel,⟨ob,es,ep,ha2,r⟩⟩
 have lt:a<s1.heap.objs.size:=lc eo
 have ne:a≠s1.heap.objs.size:=wP lt
 have T:Turn X.prog X.w X.K tg (Itk a ob (kvs.map BV)) [s1.heap.objs.size] s1.heap.objs.size (λi h=>h.IsKeyIter s1.heap.objs.size a i vs.length ep) :=
  tj (y1 rel) ne (λh e=>(⟨ob,es,e,r⟩:h.DictAt (bG X.prog X.w) a vs ep))
 refine⟨_,_,_,_,_,rfl,I3,T,⟨_,ww _ rfl,rfl,rfl⟩,λb hb=>?_,q1 ob⟩
 rw[wv.mp hb]
 refine I1.fpOk (li _) ?_
 rw[aR ne.symm]
 exact I1.hok.fresh (li _)
section
variable {K:bi}{F:Fr}{σ:St}{ρ:En}{H:Hp}
theorem Rel.giveUp (r:Rel K F σ ρ H){i:Nat}{a:Addr}{o:HO}(ho:(gt ρ i).own=true)(el:σ[i]? = some (some (.ref a))):Rel K F σ (pt ρ i .un) (upd H a o)/\Kp σ ρ (pt ρ i .un) H (upd H a o)/\¬hs F σ (pt ρ i .un) a:=by
 have lt:=ko ho
 have own':∀j,(gt (pt ρ i .un) j).own=true->i≠j/\(gt ρ j).own=true:=λj h=>gu rfl h
 have sub:∀b,bO σ (pt ρ i .un) b->bO σ ρ b/\b≠a:=λb ⟨j,hj,e⟩=>by
  obtain⟨ij,hj⟩:=own' j hj
  exact⟨⟨j,hj,e⟩,λz=>ij (r.nd i j a ho hj el (z▸e))⟩
 have hso:bO σ ρ a:=⟨i,ho,el⟩
 have vis:Same (hid H (hs F σ ρ)) (hid (upd H a o) (hs F σ (pt ρ i .un))):=bq λb u e n=>by
  have al:b≠a:=λz=>n (.inr (z▸hso))
  exact⟨by rw[aR al];exact e,λz=>n (z.imp id λz=>(sub b z).1)⟩
 have vl:¬hs F σ (pt ρ i .un) a:=λz=>by
  rcases z with z | z
  ·exact r.zo a hso z
  ·exact(sub a z).2 rfl
 have up:∀ {b},H b≠none->(upd H a o) b≠none:=λ{b} h e=>by
  by_cases al:b=a
  ·subst al;rw[aS]at e;cases e
  ·rw[aR al]at e;exact h e
 refine⟨⟨by rw[hZ,r.len],λb u e n=>?_,λb z=>xR (λq=>r.zo a hso (q▸z)) (r.zl b z),λb h=>r.zo b (sub b h).1,λj b hj e=>r.ow j b (own' j hj).2 e,r.mi,r.ml,λb z=>up (r.ma b z),λj k b hj hk ej ek=>r.nd j k b (own' j hj).2 (own' k hk).2 ej ek,λj=>?_⟩,⟨λb u e n=>?_,λj h=>(own' j h).2⟩,vl⟩
 ·have al:b≠a:=λz=>by
   subst z
   rcases r.ow i _ ho el with⟨_,q⟩ | q
   ·exact n q
   ·rw[e]at q;cases q
  rw[aR al];exact r.fr b u e n
 ·by_cases ij:i=j
  ·subst ij
   rw[mU ρ i _ lt]
   trivial
  ·rw[cn ρ i j _ ij]
   refine(r.sl j).keep vis λb u ho' e h=>?_
   have al:b≠a:=λz=>ij (r.nd i j a ho ho' el (z▸e))
   rw[aR al];exact h
 ·have al:b≠a:=λz=>n (z▸hso)
  rw[aR al];exact e
end
section
variable {K:bi}{td:TE}{ad:AE}
def BH (a:AE):AI:=λρ q=>a ρ λr ρ1=>match r with
 | .o i=>(match gt ρ1 i with | .dk kvs=>q (kvs.map λp=>kD p.1) (λ_=>True) (pt ρ1 i .un) | _=>False)
 | _=>False
theorem tH {pin:Nat->Bool}(h:TEok K td ad):TIok K pin (AR td) (BH ad):=by
 intro F σ ρ H q Rk r ha k
 refine h F σ ρ H _ _ r ha λr1 ρ1 x H1 h1 o1=>?_
 obtain⟨r1',k1,i1⟩:=o1.inF
 split at h1
 ·rename_i j
  have ej:σ[j]? = some (some x):=i1
  split at h1
  ·rename_i kvs hg
   obtain⟨t,ks,rfl,ht,e1,e2⟩:=sS r1' ej hg
   refine⟨t,ks,rfl,ht,λob=>?_⟩
   obtain⟨rg,kg,vg⟩:=r1'.giveUp (i:=j) (a:=t) (o:=.frz ob (.dK ks)) (by rw[hg];rfl) ej
   refine k _ _ _ _ _ h1 rg (k1.trans kg) λσ2 ρ2 H2 sm _ _ _ _=>?_
   have h2:H2 t=some (.frz ob (.dK ks)):=(g8.mp (sm _ _ (gG vg aS))).2
   have el:(kvs.map λp=>kD p.1)=(ks.map BV).map kD:=by rw[e1,B8];rfl
   intro i
   rw[el]
   refine⟨λd hd=>?_,λhi=>⟨⟨_,h2⟩,by simpa using hi⟩⟩
   rw[wn]at hd
   cases hk:(ks.map BV)[i]? with
   | none=>rw[hk]at hd;cases hd
   | some kk =>
    rw[hk]at hd
    cases hd
    refine⟨⟨⟨_,h2⟩,(im.mp hk).1⟩,λy H' hy=>?_⟩
    obtain⟨rfl,k',hk',rfl⟩:=hy
    rw[hk]at hk';cases hk'
    exact⟨Same.refl _,AF kk⟩
  ·exact h1.elim
 ·exact h1.elim
end
end L2
namespace L2
theorem oC {R:List Nat}{i:Nat}(h:i<R.length):R.getD i 0=R[i]:=by rw[kt,bv h];rfl
theorem AV {R:List Nat}{i:Nat}(h:i<R.length):R.getD i 0∈R:=by rw[oC h];exact DX h
theorem mX {A B:List Nat}{i:Nat}(h:i<A.length):(A++B).getD i 0=A.getD i 0:=by
 simp only[kt]
 rw[BQ h]
theorem zc {A:List Nat}{x:Nat}:(A++[x]).getD A.length 0=x:=by simp
def fst1 (R:List Nat)(t:Nat):Nat:=R.idxOf (R.getD t 0)
theorem u_ {R:List Nat}{t:Nat}(h:t<R.length):fst1 R t<R.length:=List.idxOf_lt_length_iff.mpr (AV h)
theorem rH {R:List Nat}{t:Nat}(h:t<R.length):R.getD (fst1 R t) 0=R.getD t 0:=by
 rw[oC (u_ h)]
 exact Gh (u_ h)
theorem va {R:List Nat}{t:Nat}(h:t<R.length):fst1 R t<=t:=by
 rcases BW t (fst1 R t)with q | q
 ·have:=List.not_of_lt_findIdx (p:=λx=>x==R.getD t 0) (xs:=R) (i:=t) q
  have e:(R[t]==R.getD t 0)=true:=by rw[oC h];simp
  exact absurd (this.symm.trans e) B4
 ·exact q
def fP (m:Nat)(f:Nat->Nat):List (Nat×Nat)->Nat->(Nat->Bool)->Nat->Bool
 | [],_,M,t=>M t
 | p::r,k,M,t=>fP m f r (k+1) M t||(fP m f r (k+1) M (m+k)&&(t==f p.1||t==f p.2))
section
variable {m:Nat}{f:Nat->Nat}
theorem oj:∀ {js:List (Nat×Nat)} {k:Nat} {M:Nat->Bool} {t:Nat},M t=true->fP m f js k M t=true
 | [],_,_,_,h=>h
 | p::r,k,M,t,h=>by unfold fP;rw[oj (js:=r) h];rfl
theorem uM:∀ {js:List (Nat×Nat)} {k:Nat} {M:Nat->Bool},(∀j p,js[j]? = some p->f p.1<m+(k+j)/\f p.2<m+(k+j))->∀ {j p},js[j]? = some p->fP m f js k M (m+(k+j))=true->fP m f js k M (f p.1)=true/\fP m f js k M (f p.2)=true
 | [],_,_,_,j,p,e,_=>by simp at e
 | q::r,k,M,hlt,j,p,e,h=>by
  have h0:=hlt 0 q rfl
  rw[Kb]at h0
  have hA:fP m f r (k+1) M (m+(k+j))=true:=by
   unfold fP at h
   rw[ET,BP,ET,beq_iff_eq,beq_iff_eq]at h
   rcases h with h | ⟨_,h | h⟩
   ·exact h
   ·omega
   ·omega
  cases j with
  | zero =>
   simp only[Dz,Co]at e
   subst e
   have hA':fP m f r (k+1) M (m+k)=true:=hA
   constructor
   ·unfold fP
    rw[hA'];simp
   ·unfold fP
    rw[hA'];simp
  | succ j =>
   have ih:=uM (js:=r) (k:=k+1) (M:=M) (λj p e=>by have:=hlt (j+1) p (by simpa using e);rw[show k+1+j=k+(j+1)by omega];exact this) (j:=j) (p:=p) (by simpa using e) (by rw[show k+1+j=k+(j+1)by omega];exact hA)
   constructor
   ·unfold fP;rw[ih.1];rfl
   ·unfold fP;rw[ih.2];rfl
end
def nkT (m:Nat)(L:Nat->Bool)(k:Nat):Nat:=((sK k).filter λj=>L (m+j)).length
def nbT (m:Nat)(L:Nat->Bool)(t:Nat):Nat:=if t<m then t else m+nkT m L (t - m)
section
variable {m:Nat}{L:Nat->Bool}
theorem jr (k:Nat):nkT m L (k+1)=nkT m L k+(if L (m+k)=true then 1 else 0):=by
 unfold nkT
 rw[DC,Fg,wS]
 congr 1
 by_cases h:L (m+k)=true
 ·rw[if_pos h];simp[FC,h]
 ·rw[if_neg h];simp[FC,h]
theorem uC {a b:Nat}(h:a<=b):nkT m L a<=nkT m L b:=by
 induction b with
 | zero=>rw[show a=0 by omega];exact li _
 | succ b ih =>
  rcases BW a (b+1)with q | q
  ·rw[jr];have:=ih (by omega);omega
  ·rw[show a=b+1 by omega];exact li _
theorem yN (k:Nat):nkT m L k<=k:=by
 induction k with
 | zero=>exact li _
 | succ k ih=>rw[jr];split <;> omega
theorem uE {x y:Nat}(h:x<y)(g:x<m∨L x=true):nbT m L x<nbT m L y:=by
 unfold nbT
 by_cases hx:x<m
 ·rw[if_pos hx]
  by_cases hy:y<m
  ·rw[if_pos hy];exact h
  ·rw[if_neg hy];omega
 ·rw[if_neg hx,if_neg (by omega)]
  have hL:L (m+(x - m))=true:=by rw[show m+(x - m)=x by omega];exact g.resolve_left hx
  have e:=jr (m:=m) (L:=L) (x - m)
  rw[if_pos hL]at e
  have:=uC (m:=m) (L:=L) (show x - m+1<=y - m by omega)
  omega
theorem Ap {x y:Nat}(gx:x<m∨L x=true)(gy:y<m∨L y=true)(e:nbT m L x=nbT m L y):x=y:=by
 rcases Dj x y with h | h | h
 ·have:=uE h gx;omega
 ·exact h
 ·have:=uE h gy;omega
theorem p_:∀ {n j:Nat},j<nkT m L n->∃k,k<n/\L (m+k)=true/\nkT m L k=j
 | 0,j,h=>by simp[nkT]at h
 | n+1,j,h=>by
  rw[jr]at h
  by_cases hL:L (m+n)=true
  ·rw[if_pos hL]at h
   rcases BW j (nkT m L n)with q | q
   ·obtain⟨k,a,b,c⟩:=p_ q
    exact⟨k,by omega,b,c⟩
   ·exact⟨n,by omega,hL,by omega⟩
  ·rw[if_neg hL]at h
   obtain⟨k,a,b,c⟩:=p_ (n:=n) (j:=j) (by omega)
   exact⟨k,by omega,b,c⟩
end
def newJ (m:Nat)(f:Nat->Nat)(L:Nat->Bool)(p:Nat×Nat):Nat×Nat:=(min (nbT m L (f p.1)) (nbT m L (f p.2)),max (nbT m L (f p.1)) (nbT m L (f p.2)))
def jI (m:Nat)(f:Nat->Nat)(L:Nat->Bool)(js:List (Nat×Nat))(n:Nat):List (Nat×Nat):=(sK n).flatMap λk=>if L (m+k)=true then[newJ m f L (js.getD k (0,0))]else[]
section
variable {m:Nat}{f:Nat->Nat}{L:Nat->Bool}{js:List (Nat×Nat)}
theorem iT (n:Nat):jI m f L js (n+1)=jI m f L js n++(if L (m+n)=true then[newJ m f L (js.getD n (0,0))]else[]):=by
 unfold jI
 rw[DC,E4]
 simp
theorem fQ (n:Nat):(jI m f L js n).length=nkT m L n:=by
 induction n with
 | zero=>rfl
 | succ n ih =>
  rw[iT,wS,ih,jr]
  split <;> rfl
theorem mP:∀ {n k:Nat},k<n->L (m+k)=true->(jI m f L js n)[nkT m L k]? = some (newJ m f L (js.getD k (0,0)))
 | 0,k,h,_=>by omega
 | n+1,k,h,hL=>by
  rw[iT]
  rcases BW k n with q | q
  ·have e:=jr (m:=m) (L:=L) k
   rw[if_pos hL]at e
   have:=uC (m:=m) (L:=L) (show k+1<=n by omega)
   rw[BQ (by rw[fQ];omega)]
   exact mP q hL
  ·have:k=n:=by omega
   subst this
   rw[if_pos hL,Cc (by rw[fQ];exact li _),fQ,Ih]
   rfl
end
theorem d_:∀ {js:List (Nat×Nat)} {rows:List Nat} {i:Nat},i<rows.length->(js.foldl aL rows).getD i 0=rows.getD i 0
 | [],_,_,_=>rfl
 | p::r,rows,i,h=>by
  rw[D7,d_ (by rw[cx];omega)]
  exact mX h
theorem vd:∀ {js:List (Nat×Nat)} {rows:List Nat} {k:Nat} {p:Nat×Nat},okIx rows.length js->js[k]? = some p ->
  (js.foldl aL rows).getD (rows.length+k) 0=(js.foldl aL rows).getD p.1 0 ^^^ (js.foldl aL rows).getD p.2 0
 | [],_,_,_,_,e=>by simp at e
 | q::r,rows,k,p,h,e=>by
  obtain⟨h1,h2,h3⟩:=h
  rw[D7]
  cases k with
  | zero =>
   simp only[Dz,Co]at e
   subst e
   rw[d_ (by rw[cx];omega),d_ (by rw[cx];omega),d_ (by rw[cx];omega)]
   have e1:(aL rows q).getD (rows.length+0) 0=rows.getD q.1 0 ^^^ rows.getD q.2 0:=zc
   have e2:(aL rows q).getD q.1 0=rows.getD q.1 0:=mX (by omega)
   have e3:(aL rows q).getD q.2 0=rows.getD q.2 0:=mX (by omega)
   rw[e1,e2,e3]
  | succ k =>
   have:=vd (js:=r) (rows:=aL rows q) (k:=k) (p:=p) (by rw[cx];exact h3) (by simpa using e)
   rw[cx]at this
   rw[<- this]
   congr 1
   omega
theorem okJs_of:∀ {js:List (Nat×Nat)} {rows:List Nat},(∀i p,js[i]? = some p->p.1<p.2/\p.2<rows.length+i/\(js.foldl aL rows).getD p.1 0≠(js.foldl aL rows).getD p.2 0)->okJs rows js
 | [],_,_=>trivial
 | q::r,rows,h=>by
  obtain⟨h1,h2,h3⟩:=h 0 q rfl
  rw[Kb]at h2
  rw[D7,d_ (by rw[cx];omega),d_ (by rw[cx];omega)]at h3
  have e:∀i,i<rows.length->(aL rows q).getD i 0=rows.getD i 0:=λi hi=>mX hi
  rw[e _ (by omega),e _ h2]at h3
  refine⟨h1,h2,h3,okJs_of λi p hp=>?_⟩
  obtain⟨a,b,c⟩:=h (i+1) p (by simpa using hp)
  exact⟨a,by rw[cx];omega,c⟩
theorem Ah {m t:Nat}(h:t<m):(az m).getD t 0=1 <<< t:=by
 rw[oC (by rw[cc];exact h)]
 unfold az
 simp
structure Rws (N:Net):Prop where
 ix:okIx N.m N.js
 ne:∀(i:Nat) (p:Nat×Nat),N.js[i]? = some p->(a7 N).getD p.1 0≠(a7 N).getD p.2 0
theorem lE {N:Net}(h:jd N):Rws N:=by
 have hix:okIx N.m N.js:=by have:=ky h.js;rwa [cc]at this
 refine⟨hix,λi p hp=>?_⟩
 have:=mI h.js hp
 obtain⟨h1,h2⟩:=fL hix hp
 have lt:=(im.mp hp).1
 have hl:((N.js.take i).foldl aL (az N.m)).length=N.m+i:=by rw[fR,cc,B0];omega
 have e:∀j,j<N.m+i->((N.js.take i).foldl aL (az N.m)).getD j 0=(a7 N).getD j 0:=λj hj=>by
  unfold a7
  conv=>rhs;rw[<- Ea i N.js,Ex]
  exact(d_ (by rw[hl];exact hj)).symm
 rw[e _ (by omega),e _ h2]at this
 exact this
theorem nJ {N:Net}{t:Nat}(h:t<N.m):(a7 N).getD t 0=1 <<< t:=by
 unfold a7
 rw[d_ (by rw[cc];exact h),Ah h]
theorem qV {N:Net}(hix:okIx N.m N.js){k:Nat}{p:Nat×Nat}(e:N.js[k]? = some p):(a7 N).getD (N.m+k) 0=(a7 N).getD p.1 0 ^^^ (a7 N).getD p.2 0:=by
 have:=vd (rows:=az N.m) (js:=N.js) (k:=k) (p:=p) (by rw[cc];exact hix) e
 rw[cc]at this
 exact this
def fT (N:Net):Nat->Nat:=fst1 (a7 N)
def bH (N:Net):Nat->Bool:=fP N.m (fT N) N.js 0 λt=>(N.os.map (fT N)).contains t
def tidN (N:Net):Net:=⟨N.m,jI N.m (fT N) (bH N) N.js N.js.length,N.os.map λo=>nbT N.m (bH N) (fT N o)⟩
section
variable {N:Net}
theorem xg {t:Nat}(h:t<N.m+N.js.length):fT N t<=t:=va (by rw[iK];exact h)
theorem oF {t:Nat}(h:t<N.m+N.js.length):(a7 N).getD (fT N t) 0=(a7 N).getD t 0:=rH (by rw[iK];exact h)
theorem sG (R:Rws N){k:Nat}{p:Nat×Nat}(e:N.js[k]? = some p):p.1<p.2/\p.2<N.m+k/\N.m+k<N.m+N.js.length:=by
 obtain⟨a,b⟩:=fL R.ix e
 have:=(im.mp e).1
 exact⟨a,b,by omega⟩
theorem f_lt (R:Rws N){k:Nat}{p:Nat×Nat}(e:N.js[k]? = some p):fT N p.1<N.m+k/\fT N p.2<N.m+k:=by
 obtain⟨a,b,c⟩:=sG R e
 have h1:=xg (N:=N) (t:=p.1) (by omega)
 have h2:=xg (N:=N) (t:=p.2) (by omega)
 omega
theorem wQ {o:Nat}(h:o∈N.os):bH N (fT N o)=true:=oj (o0.mpr (Cn.mpr ⟨o,h,rfl⟩))
theorem qf (R:Rws N){k:Nat}{p:Nat×Nat}(e:N.js[k]? = some p)(h:bH N (N.m+k)=true):bH N (fT N p.1)=true/\bH N (fT N p.2)=true :=
 uM (λj p e=>by rw[CU];exact f_lt R e) e (by rw[CU];exact h)
end
abbrev za (N:Net)(t:Nat):Prop:=t<N.m∨bH N t=true
abbrev nT (N:Net):Nat->Nat:=nbT N.m (bH N)
section
variable {N:Net}(R:Rws N)(ho:∀o∈N.os,o<N.m+N.js.length)
include R ho
theorem Ao {k:Nat}{p:Nat×Nat}(e:N.js[k]? = some p)(h:bH N (N.m+k)=true):(newJ N.m (fT N) (bH N) p).1<(newJ N.m (fT N) (bH N) p).2/\(newJ N.m (fT N) (bH N) p).2<N.m+nkT N.m (bH N) k:=by
 obtain⟨m1,m2⟩:=qf R e h
 obtain⟨l1,l2⟩:=f_lt R e
 obtain⟨a,b,c⟩:=sG R e
 have ne:fT N p.1≠fT N p.2:=λz=>R.ne k p e (by rw[<- oF (N:=N) (t:=p.1) (by omega),z,oF (by omega)])
 have n1:=uE (m:=N.m) (L:=bH N) l1 (.inr m1)
 have n2:=uE (m:=N.m) (L:=bH N) l2 (.inr m2)
 have nn:nbT N.m (bH N) (fT N p.1)≠nbT N.m (bH N) (fT N p.2):=λz=>ne (Ap (.inr m1) (.inr m2) z)
 have e3:nbT N.m (bH N) (N.m+k)=N.m+nkT N.m (bH N) k:=by unfold nbT;rw[if_neg (by omega)];congr 2;omega
 rw[e3]at n1 n2
 unfold newJ
 dsimp only
 omega
theorem pk {j:Nat}{q:Nat×Nat}(e:(tidN N).js[j]? = some q):∃k p,N.js[k]? = some p/\bH N (N.m+k)=true/\nkT N.m (bH N) k=j/\q=newJ N.m (fT N) (bH N) p:=by
 have hj:j<nkT N.m (bH N) N.js.length:=by
  have:=(im.mp e).1
  rwa [show(tidN N).js=jI N.m (fT N) (bH N) N.js N.js.length from rfl,fQ]at this
 obtain⟨k,h1,h2,h3⟩:=p_ hj
 have e':(tidN N).js[j]? = some (newJ N.m (fT N) (bH N) (N.js.getD k (0,0))):=by rw[<- h3];exact mP h1 h2
 rw[e]at e'
 cases e'
 have ek:N.js[k]? = some (N.js.getD k (0,0)):=by rw[kt,bv h1];rfl
 exact⟨k,_,ek,h2,h3,rfl⟩
theorem zT {k:Nat}{p:Nat×Nat}(e:N.js[k]? = some p)(h:bH N (N.m+k)=true):(tidN N).js[nkT N.m (bH N) k]? = some (newJ N.m (fT N) (bH N) p):=by
 have lt:=(im.mp e).1
 have:=mP (f:=fT N) (js:=N.js) lt h
 rw[kt,e]at this
 exact this
theorem ph:(tidN N).js.length=nkT N.m (bH N) N.js.length:=fQ _
theorem tK:∀i p,(tidN N).js[i]? = some p->p.1<p.2/\p.2<N.m+i:=λi q e=>by
 obtain⟨k,p,e1,e2,e3,rfl⟩:=pk R ho e
 rw[<- e3]
 exact Ao R ho e1 e2
omit R ho in
theorem uy:∀ {js:List (Nat×Nat)} {n:Nat},(∀i p,js[i]? = some p->p.1<p.2/\p.2<n+i)->okIx n js
 | [],_,_=>trivial
 | p::r,n,h=>⟨(h 0 p rfl).1,(h 0 p rfl).2,uy λi q e=>by have:=h (i+1) q (by simpa using e);exact⟨this.1,by omega⟩⟩
theorem zS:okIx (tidN N).m (tidN N).js:=uy (tK R ho)
theorem pf:∀(t:Nat),t<N.m+N.js.length->za N t->(a7 (tidN N)).getD (nT N t) 0=(a7 N).getD t 0:=by
 intro t
 induction t using Jy with
 | _ t ih =>
  intro ht g
  by_cases hm:t<N.m
  ·rw[show nT N t=t by unfold nT nbT;rw[if_pos hm],nJ hm,nJ (N:=tidN N) (t:=t) hm]
  ·obtain⟨k,rfl⟩:∃k,t=N.m+k:=⟨t - N.m,by omega⟩
   have hk:k<N.js.length:=by omega
   have hL:=g.resolve_left hm
   have e:N.js[k]? = some N.js[k]:=bv hk
   obtain⟨m1,m2⟩:=qf R e hL
   obtain⟨l1,l2⟩:=f_lt R e
   obtain⟨a,b,c⟩:=sG R e
   have e3:nT N (N.m+k)=N.m+nkT N.m (bH N) k:=by unfold nT nbT;rw[if_neg (by omega)];congr 2;omega
   rw[e3]
   have:=qV (N:=tidN N) (zS R ho) (zT R ho e hL)
   rw[show(tidN N).m=N.m from rfl]at this
   rw[this,qV R.ix e]
   have i1:=ih _ l1 (by omega) (.inr m1)
   have i2:=ih _ l2 (by omega) (.inr m2)
   rw[oF (by omega)]at i1 i2
   rw[<- i1,<- i2]
   unfold newJ
   dsimp only
   rcases GN (nbT N.m (bH N) (fT N N.js[k].1)) (nbT N.m (bH N) (fT N N.js[k].2))with q | q
   ·rw[EZ q,Jm q]
   ·rw[FF q,Jz q,DU]
theorem Br {t:Nat}(ht:t<N.m+N.js.length)(g:za N t):nT N t<N.m+(tidN N).js.length:=by
 have:=uE (m:=N.m) (L:=bH N) ht g
 rw[ph R ho]
 have e3:nbT N.m (bH N) (N.m+N.js.length)=N.m+nkT N.m (bH N) N.js.length:=by unfold nbT;rw[if_neg (by omega)];congr 2;omega
 rw[e3]at this
 exact this
theorem rn {o:Nat}(h:o∈N.os):fT N o<N.m+N.js.length/\za N (fT N o):=by
 have h1:=ho o h
 have:=xg (N:=N) (t:=o) h1
 exact⟨by omega,.inr (wQ h)⟩
theorem zR:∀o∈(tidN N).os,o<N.m+(tidN N).js.length:=λo h=>by
 obtain⟨x,hx,rfl⟩:=Cn.mp h
 obtain⟨a,b⟩:=rn R ho hx
 exact Br R ho a b
theorem v7:(tidN N).os.map (λo=>(a7 (tidN N)).getD o 0)=N.os.map λo=>(a7 N).getD o 0:=by
 show(N.os.map λo=>nbT N.m (bH N) (fT N o)).map _=_
 rw[B8]
 refine E1 λo h=>?_
 obtain⟨a,b⟩:=rn R ho h
 show(a7 (tidN N)).getD (nT N (fT N o)) 0=_
 rw[pf R ho _ a b,oF (ho o h)]
theorem qP {k:Nat}{p:Nat×Nat}(e:N.js[k]? = some p)(h:bH N (N.m+k)=true) :
  ((a7 (tidN N)).getD (newJ N.m (fT N) (bH N) p).1 0=(a7 N).getD p.1 0/\(a7 (tidN N)).getD (newJ N.m (fT N) (bH N) p).2 0=(a7 N).getD p.2 0) ∨
  ((a7 (tidN N)).getD (newJ N.m (fT N) (bH N) p).1 0=(a7 N).getD p.2 0/\(a7 (tidN N)).getD (newJ N.m (fT N) (bH N) p).2 0=(a7 N).getD p.1 0):=by
 obtain⟨m1,m2⟩:=qf R e h
 obtain⟨l1,l2⟩:=f_lt R e
 obtain⟨a,b,c⟩:=sG R e
 have r1:=pf R ho (fT N p.1) (by omega) (.inr m1)
 have r2:=pf R ho (fT N p.2) (by omega) (.inr m2)
 rw[oF (by omega)]at r1 r2
 unfold newJ
 dsimp only
 rcases GN (nbT N.m (bH N) (fT N p.1)) (nbT N.m (bH N) (fT N p.2))with q | q
 ·rw[EZ q,Jm q];exact .inl ⟨r1,r2⟩
 ·rw[FF q,Jz q];exact .inr ⟨r2,r1⟩
end
theorem tJ {N:Net}(h:jd N):jd (tidN N):=by
 have R:=lE h
 have ho:=h.os
 refine⟨h.m1,h.m12,?_,okJs_of λi q e=>?_,?_,?_,zR R ho⟩
 ·rw[ph R ho];have:=yN (m:=N.m) (L:=bH N) N.js.length;have:=h.jl;omega
 ·obtain⟨a,b⟩:=tK R ho i q e
  refine⟨a,by rw[cc];exact b,?_⟩
  obtain⟨k,p,e1,e2,e3,rfl⟩:=pk R ho e
  have ne:=R.ne k p e1
  show(a7 (tidN N)).getD _ 0≠(a7 (tidN N)).getD _ 0
  rcases qP R ho e1 e2 with⟨r1,r2⟩ | ⟨r1,r2⟩
  ·rw[r1,r2];exact ne
  ·rw[r1,r2];exact ne.symm
 ·show 1<=(N.os.map _).length
  rw[f8];exact h.o1
 ·show(N.os.map _).length<=24
  rw[f8];exact h.o24
def ia (N:Net):Bool:=N.js.all λp=>(a7 N).getD p.1 0 &&& (a7 N).getD p.2 0==0
theorem tL {N:Net}(h:jd N)(hc:ia N=true):ia (tidN N)=true:=by
 have R:=lE h
 have ho:=h.os
 unfold ia at hc ⊢
 rw[DG]at hc ⊢
 intro q hq
 obtain⟨i,hi⟩:=List.getElem?_of_mem hq
 obtain⟨k,p,e1,e2,e3,rfl⟩:=pk R ho hi
 have:=hc p (Cb e1)
 rcases qP R ho e1 e2 with⟨r1,r2⟩ | ⟨r1,r2⟩
 ·rw[r1,r2];exact this
 ·rw[r1,r2,GO];exact this
theorem tI {N:Net}(h:jd N):(tidN N).js.length<=N.js.length:=by
 rw[ph (lE h) h.os];exact yN _
theorem oO {n2 n:Nat}{js:List Nat}{c:En->Prop}{g:AG}{tc:AT}{i2:AI}{g2:AG}{tc2:AT}{te:AE}{q:List D->En->Prop}(I:Nat->List D->En->Prop){ds:List D}(hc:∀i acc ρ,i<=ds.length->I i acc ρ->c ρ/\acc.length<=1000000)
  (hs:∀(i:Nat) d acc ρ (N:List D->En->Prop),ds[i]? = some d->I i acc ρ->(∀acc' ρ',I (i+1) acc' ρ'->N acc' ρ') ->
   g d (blkE n js ρ) λρ1=>tc ρ1 λb ρ2=>if b=true then i2 ρ2 λds2 c2 ρ3=>hX n2 c2 g2 tc2 te (λacc' ρ4=>N acc' (back ρ (js.map R.o) (ρ4.drop n))) ds2 acc ρ3 else N acc (back ρ (js.map R.o) (ρ2.drop n)))
  (hd:∀acc ρ,I ds.length acc ρ->q acc ρ):∀ ρ,I 0 [] ρ->gM n2 n js c g tc i2 g2 tc2 te q ds [] ρ:=by
 have go:∀(es:List D) (i:Nat),ds.drop i=es->i<=ds.length->∀acc ρ,I i acc ρ->gM n2 n js c g tc i2 g2 tc2 te q es acc ρ:=by
  intro es
  induction es with
  | nil =>
   intro i h hi acc ρ hI
   have:ds.length<=i:=EQ.mp h
   have:i=ds.length:=by omega
   subst this
   unfold gM
   obtain⟨a,b⟩:=hc _ acc ρ (li _) hI
   exact⟨a,b,hd acc ρ hI⟩
  | cons d es ih =>
   intro i h hi acc ρ hI
   have lt:i<ds.length:=by
    rcases BW i ds.length with q | q
    ·exact q
    ·rw[CF q]at h;cases h
   rw[B_ lt]at h
   injection h with h1 h2
   unfold gM
   exact⟨(hc i acc ρ hi hI).1,hs i d acc ρ (λacc' ρ'=>gM n2 n js c g tc i2 g2 tc2 te q es acc' ρ') (by rw[<- h1];exact bv lt) hI (λacc' ρ' i'=>ih (i+1) h2 lt acc' ρ' i')⟩
 exact go ds 0 rfl (zn _) []
end L2
namespace L2
open PySem PySem.Spec PyProof.Rows
end L2
set_option maxHeartbeats 2000000
namespace L2
open PySem PySem.Spec PyProof.Rows
end L2
namespace L2
open PySem
def Ris (xs:Array Nat):Prop:=xs.toList.Pairwise (· < ·)
theorem Ris.lt {xs:Array Nat}(h:Ris xs){i k:Nat}(hk:k<xs.size)(hi:i<k):xs[i]'(by omega)<xs[k]:=by
 have:=DP.mp h i k (by simp;omega) (by simpa using hk) hi
 simpa using this
theorem nr {xs:Array Nat}{j:Nat}(hr:Ris xs):∀(f lo hi:Nat),hi - lo<=f->lo<=hi->hi<=xs.size->(∀k (h:k<xs.size),k<lo->xs[k]<j)->(∀k (h:k<xs.size),hi<=k->j<=xs[k]) ->
  EJ xs j f lo hi<=xs.size/\(∀k (h:k<xs.size),k<EJ xs j f lo hi->xs[k]<j)/\(∀k (h:k<xs.size),EJ xs j f lo hi<=k->j<=xs[k])
 | 0,lo,hi,hf,hl,hz,h1,h2=>by
  have:hi=lo:=by omega
  subst this
  exact⟨hz,h1,h2⟩
 | f+1,lo,hi,hf,hl,hz,h1,h2=>by
  unfold EJ
  by_cases hlt:lo<hi
  ·rw[if_pos hlt]
   dsimp only
   have hm:(lo+hi) / 2<xs.size:=by omega
   have eg:xs.getD ((lo+hi) / 2) j=xs[(lo+hi) / 2]:=by simp[IA,hm]
   rw[eg]
   by_cases hc:xs[(lo+hi) / 2]<j
   ·rw[if_pos hc]
    refine nr hr f _ hi (by omega) (by omega) hz (λk hk h=>?_) h2
    by_cases e:k=(lo+hi) / 2
    ·subst e;exact hc
    ·exact DE (hr.lt hm (by omega)) hc
   ·rw[if_neg hc]
    refine nr hr f lo _ (by omega) (by omega) (by omega) h1 (λk hk h=>?_)
    by_cases e:k=(lo+hi) / 2
    ·subst e;omega
    ·have:=hr.lt hk (show(lo+hi) / 2<k by omega)
     omega
  ·rw[if_neg hlt]
   have:hi=lo:=by omega
   subst this
   exact⟨hz,h1,h2⟩
theorem jX {xs:Array Nat}{j:Nat}(hr:Ris xs):Cm xs j<=xs.size/\(∀k (h:k<xs.size),k<Cm xs j->xs[k]<j)/\(∀k (h:k<xs.size),Cm xs j<=k->j<=xs[k]) :=
 nr hr xs.size 0 xs.size (by omega) (zn _) (li _) (λk _ h=>absurd h (EY _)) λk h h'=>absurd h (by omega)
theorem xq {xs:Array Nat}(hr:Ris xs){k:Nat}(hk:k<xs.size):Cm xs xs[k]=k:=by
 obtain⟨h0,h1,h2⟩:=jX (j:=xs[k]) hr
 rcases Dj (Cm xs xs[k]) k with h | h | h
 ·have a:=h2 (Cm xs xs[k]) (by omega) (li _)
  have b:=hr.lt hk h
  omega
 ·exact h
 ·have:=h1 k hk h
  omega
theorem sX {xs:Array Nat}(hr:Ris xs){k:Nat}(hk:k<xs.size):Cm xs (xs[k]+1)=k+1:=by
 obtain⟨h0,h1,h2⟩:=jX (j:=xs[k]+1) hr
 rcases Dj (Cm xs (xs[k]+1)) (k+1)with h | h | h
 ·have:=h2 k hk (by omega)
  omega
 ·exact h
 ·have a:=h1 (k+1) (by omega) h
  have b:=hr.lt (show k+1<xs.size by omega) (show k<k+1 by omega)
  omega
theorem sW {xs:Array Nat}(hr:Ris xs):Cm xs 0=0:=by
 obtain⟨h0,h1,h2⟩:=jX (j:=0) hr
 rcases Nat.eq_zero_or_pos (Cm xs 0)with h | h
 ·exact h
 ·have:=h1 0 (by omega) h
  omega
theorem yr {xs:Array Nat}{j:Nat}(hr:Ris xs)(hj:j∉xs.toList):Ris (SetTable.insertAt xs (Cm xs j) j):=by
 obtain⟨h0,h1,h2⟩:=jX (j:=j) hr
 unfold Ris
 rw[SetTable.toList_insertAt]
 have sp:(xs.toList.take (Cm xs j)++xs.toList.drop (Cm xs j)).Pairwise (· < ·):=by rw[Ea];exact hr
 obtain⟨p1,p2,p3⟩:=FV.mp sp
 have lo:∀a∈xs.toList.take (Cm xs j),a<j:=λa ha=>by
  obtain⟨i,hi,rfl⟩:=C3 ha
  rw[B0,Di]at hi
  rw[GC,FT]
  exact h1 i (by omega) (by omega)
 have up:∀a∈xs.toList.drop (Cm xs j),j<a:=λa ha=>by
  have hm:=Ip ha
  obtain⟨i,hi,rfl⟩:=C3 ha
  rw[EE,Di]at hi
  rw[List.getElem_drop,FT]at hm ⊢
  have:=h2 (Cm xs j+i) (by omega) (by omega)
  rcases Nat.lt_or_eq_of_le this with h | h
  ·exact h
  ·exact absurd (h▸hm) hj
 refine FV.mpr ⟨p1,Dr.mpr ⟨up,p2⟩,λa ha b hb=>?_⟩
 rcases sB.mp hb with rfl | hb
 ·exact lo a ha
 ·exact p3 a ha b hb
def Open (t:DR)(j:Nat):Prop:=∀i,t.slot j ≠ .live i
theorem wG {t:DR}{j:Nat}(hr:Ris t.place)(h:Open t j):j∉t.place.toList:=by
 intro hm
 obtain⟨k,hk,e⟩:=C3 hm
 rw[Di]at hk
 rw[FT]at e
 refine h k ?_
 unfold SetTable.slot
 dsimp only
 rw[<- e,xq hr hk,if_pos (by simp[hk])]
theorem oZ (t:DR)(p:IL):(t.advance p).dummy=p.dummy:=by
 unfold SetTable.advance;split <;> rfl
theorem ql {t:DR}{f:Nat->Int}{h:Int}:∀(n:Nat) (p:IL) (j:Nat) (d:Option Nat),Hd t f h n p=some (.empty j d)->(∀x,p.dummy=some x->Open t x)->Open t j/\∀x,d=some x->Open t x
 | 0,p,j,d,e,_=>by cases e
 | n+1,p,j,d,e,hd=>by
  unfold Hd at e
  cases es:t.slot p.j with
  | empty =>
   rw[es]at e
   dsimp only at e
   simp only[Co,Jc]at e
   obtain⟨rfl,rfl⟩:=e
   exact⟨λi z=>(by rw[es]at z;cases z),hd⟩
  | dummy =>
   rw[es]at e
   refine ql n _ j d e λx hx=>?_
   rw[oZ]at hx
   cases hx
   exact λi z=>by rw[es]at z;cases z
  | live i =>
   rw[es]at e
   dsimp only at e
   split at e
   ·cases e
   ·refine ql n _ j d e λx hx=>?_
    rw[oZ]at hx
    exact hd x hx
theorem vb {t:DR}{h:Int}{j:Nat}{b:Bool}(e:t.freeSlot h=some (j,b)):Open t j:=by
 unfold SetTable.freeSlot at e
 split at e
 ·rename_i j' d hp
  simp only[Co,Eh]at e
  obtain⟨rfl,_⟩:=e
  unfold SetTable.probe at hp
  obtain⟨a,b⟩:=ql _ _ _ _ hp λx hx=>by cases hx
  cases d with
  | none=>exact a
  | some x=>exact b x rfl
 ·cases e
def Led (t:DR):Prop:=t.led=true/\Ris t.place
theorem uc (n:Nat):Ris (Array.range n):=by
 unfold Ris
 rw[Array.toList_range]
 exact Dg
theorem iR {t:DR}(h:t.led=true)(n:Nat):Led (t.standIn n):=⟨h,uc n⟩
theorem Av {t:DR}(h:Led t)(n:Nat):Led (t.orStandIn n):=by
 unfold SetTable.orStandIn
 split
 ·exact h
 ·exact iR h.1 n
theorem yW {t:DR}(h:Led t)(es:Array (Int×bn))(k:Int)(x:bn):Led (layNew t es k x).2.1:=by
 unfold layNew
 split
 ·rename_i j b e
  have l2:Led (t.put j).1:=⟨h.1,yr h.2 (wG h.2 (vb e))⟩
  exact Av l2 _
 ·exact iR h.1 _
theorem zf {α:Type}(f:Nat->Option α)(n:Nat):(((sK n).filterMap λj=>(f j).map (j,·)).map (·.1)).Sublist (sK n):=by
 rw[List.map_filterMap]
 have:(λx=>Option.map (λy:Nat×α=>y.1) ((f x).map (x,·)))=λx=>if(f x).isSome then some x else none:=by
  funext x;cases f x <;> rfl
 rw[this]
 have e:(sK n).filterMap (λx=>if(f x).isSome=true then some x else none)=(sK n).filter λx=>(f x).isSome:=by
  induction sK n with
  | nil=>rfl
  | cons a l ih =>
   rw[DW,FC]
   cases (f a).isSome <;> simp[ih]
 rw[e]
 exact E5
theorem sE {t t':DR}{hs:Array Int}{k:Nat}{o:Array Nat}(h:t.led=true)(e:t.relaid hs k=some (t',o)):Led t':=by
 unfold SetTable.relaid SetTable.laid at e
 cases ho:SetTable.layClean (SetTable.sizeAbove k - 1) hs with
 | none=>rw[ho]at e;cases e
 | some ow =>
  rw[ho]at e
  simp only[Option.bind_eq_bind,Option.bind_some,Option.pure_def,Co,Eh]at e
  obtain⟨rfl,_⟩:=e
  refine⟨h,?_⟩
  unfold Ris
  dsimp only
  exact Kd (zf (λj=>ow.getD j none) _) Dg
theorem yX {t:DR}(h:t.led=true)(es:Array (Int×bn))(k:Nat):Led (Gn t es k).2.1:=by
 unfold Gn
 split
 ·rename_i t' o e
  dsimp only
  split
  ·exact sE h e
  ·exact iR h _
 ·exact iR h _
end L2
namespace L2
open PySem PySem.Spec PyProof.Rows
def byT (w:B2):Bool:=w.params.followText "set-order"
def SetI (P:wE)(w:B2)(h:Heap)(a:Addr)(ks:List Int):Prop :=
 ∃o es ep t,h.get? a=some o/\o.ExactSet/\o.data = .set es ep t/\Ja (DL P w) es.toList/\(∀k,k∈ks↔∃e∈es.toList,(DL P w).is k e.2=true)/\es.size<Fn/\t.fits es.size=true/\es.size=ks.length/\(byT w=false->Led t)
section
variable {P:wE}{w:B2}{A:Ca}{E:bn->ca->Prop}{s:ca}
theorem SetI.kept {h h':Heap}{a:Addr}{ks:List Int}(hS:SetI P w h a ks)(k:∀o,h.get? a=some o->h'.get? a=some o):SetI P w h' a ks:=by
 obtain⟨o,es,ep,t,ho,r⟩:=hS
 exact⟨o,es,ep,t,k o ho,r⟩
theorem SetI.store {h:Heap}{a:Addr}{o:Obj}{es es':Array (Int×bn)}{ep:Nat}{t t':DR}{ks:List Int}(e:h.get? a=some o)(x:o.ExactSet)(d:o.data = .set es ep t)
  (h1:Ja (DL P w) es'.toList) (h2:∀k,k∈ks↔∃e∈es'.toList,(DL P w).is k e.2=true) (h3:es'.size<Fn) (h4:t'.fits es'.size=true) (h5:es'.size=ks.length) (h6:byT w=false->Led t') :
  (h.update a (Gr es' t')).get? a=some {o with data:=.set es' (ep+1) t'}/\SetI P w (h.update a (Gr es' t')) a ks:=by
 have g:(h.update a (Gr es' t')).get? a=some {o with data:=.set es' (ep+1) t'}:=by
  rw[CS (Gr es' t') e (by rw[putSet_of es' t' d];rfl),putSet_of es' t' d]
 exact⟨g,{o with data:=.set es' (ep+1) t'},es',ep+1,t',g,x,rfl,h1,h2,h3,h4,h5,h6⟩
theorem vD {g:Bool->Sem Unit}(hg:∀(b:Bool) (z:ca) (q:Unit->ca->Prop),q () z->lm (sn P w) A (g b) q E z){a:Addr}{o:Obj}{es e1:Array (Int×bn)}{ep:Nat}{t t2:DR}{ks:List Int}
  (e:s.heap.get? a=some o) (x:o.ExactSet) (d:o.data = .set es ep t)
  (h1:Ja (DL P w) e1.toList) (h2:∀k,k∈ks↔∃e∈e1.toList,(DL P w).is k e.2=true) (h3:e1.size<Fn) (h4:t2.fits e1.size=true) (h5:e1.size=ks.length) (h6:byT w=false->Led t2)
  {dm:Bool} {R:Option Bool->ca->Prop} (h:∀h',Cq a s.heap h'->SetI P w h' a ks->R (some true) {s with heap:=h'}) :
  lm (sn P w) A (do
   storeSet a e1 t2
   if(!dm&&t2.tooFull)=true then do
    g (Gn t2 e1 (D_ e1.size)).2.2
    storeSet a (Gn t2 e1 (D_ e1.size)).1 (Gn t2 e1 (D_ e1.size)).2.1
    pure (some true)
   else pure (some true)) R E s:=by
 refine bm (JP e d ?_ (EH h3))
 obtain⟨g1,S1⟩:=SetI.store (P:=P) (w:=w) e x d h1 h2 h3 h4 h5 h6
 have b1:=C9 s.heap a (Gr e1 t2)
 split
 ·have p:=relayAll_perm t2 e1 (D_ e1.size)
  have f:=relayAll_fits t2 e1 (D_ e1.size)
  have l:byT w=false->Led (Gn t2 e1 (D_ e1.size)).2.1:=λz=>yX (h6 z).1 _ _
  generalize Gn t2 e1 (D_ e1.size)=R2 at p f l ⊢
  obtain⟨e2,t3,g2⟩:=R2
  dsimp only at p f l ⊢
  have n2:e2.size=e1.size:=by have:=p.length_eq;simpa using this
  refine bm (hg _ _ _ ?_)
  refine bm (JP g1 rfl ?_ (EH (by omega)))
  obtain⟨_,S2⟩:=SetI.store (P:=P) (w:=w) (ks:=ks) g1 x rfl (ElemsOf.perm h1 p) (λk=>(h2 k).trans ⟨λ⟨y,hy,z⟩=>⟨y,p.mem_iff.mpr hy,z⟩,λ⟨y,hy,z⟩=>⟨y,p.mem_iff.mp hy,z⟩⟩) (by omega) f (by omega) l
  exact dL (h _ (b1.trans (C9 _ a _)) S2)
 ·exact dL (h _ b1 S1)
theorem A3 (ks:List Int)(k j:Int):j∈Eb ks k↔j∈ks∨j=k:=by
 unfold Eb
 split
 ·rename_i h
  rw[Ds]at h
  obtain⟨y,hy,e⟩:=h
  have:y=k:=by simpa using e
  subst this
  exact⟨.inl,λz=>z.elim id λe=>e▸hy⟩
 ·simp
theorem zq {ks:List Int}{k:Int}(h:k∈ks):Eb ks k=ks:=by
 unfold Eb
 rw[if_pos (Ds.mpr ⟨k,h,by simp⟩)]
theorem vj {ks:List Int}{k:Int}(h:k∉ks):Eb ks k=ks++[k]:=by
 unfold Eb
 rw[if_neg (λz=>by obtain⟨y,hy,e⟩:=Ds.mp z;exact h ((by simpa using e:y=k)▸hy))]
theorem BA {a:Addr}{ks:List Int}{k:Int}{x:bn}{Q:Bool->ca->Prop}(hk:(DL P w).is k x=true)(hx:x.scannable=true)(hS:SetI P w s.heap a ks)(hr:ks.length+1<Fn)
  (h:∀h' b,Cq a s.heap h'->SetI P w h' a (Eb ks k)->Q b {s with heap:=h'}):lm (sn P w) A (setAddHashed a x ((DL P w).hash k)) Q E s:=by
 obtain⟨o,es,ep,t,ho,ex,d,el,me,bd,fi,le,ld⟩:=hS
 unfold setAddHashed setAddHashedIn
 refine DZ (bm (Ef ho d fi ?_));dsimp only
 rw[byScan_of hx bd el];simp only[if_true]
 unfold setAddByScan
 refine bm (bm (DQ (bm (wpAny_setScan_of hk ho d fi el ?_))))
 cases hf:List.findIdx? (λe=>(DL P w).is k e.2) es.toList with
 | some j =>
  dsimp only
  obtain⟨lj,pj,_⟩:=List.findIdx?_eq_some_iff_getElem.mp hf
  have kin:k∈ks:=(me k).mpr ⟨_,DX lj,pj⟩
  refine dL (dL ?_)
  have:=h s.heap false (Hz a s.heap) (by rw[zq kin];exact⟨o,es,ep,t,ho,ex,d,el,me,bd,fi,le,ld⟩)
  exact this
 | none =>
  dsimp only
  have kout:k∉ks:=λz=>by
   obtain⟨y,hy,q⟩:=(me k).mp z
   have:=List.findIdx?_eq_none_iff.mp hf y hy
   rw[q]at this;cases this
  have gw:∀(b:Bool) {z:ca} {q:Unit->ca->Prop},q () z->lm (sn P w) A (match b with | true=>rule "set.scan.the-table-gave-way" | false=>pure ()) q E z:=λb z q hq=>by
   cases b
   ·exact dL hq
   ·exact DQ hq
  have pe:=layNew_perm t es ((DL P w).hash k) x
  have fe:=layNew_fits t es ((DL P w).hash k) x
  have lf:byT w=false->Led (layNew t es ((DL P w).hash k) x).2.1:=λz=>yW (ld z) _ _ _
  generalize layNew t es ((DL P w).hash k) x=L at pe fe lf ⊢
  obtain⟨e1,t1,dm,gv⟩:=L
  dsimp only at pe fe lf ⊢
  rw[Gw]at pe
  have el1:Ja (DL P w) e1.toList:=(ElemsOf.push el hk hx).perm pe
  have n1:e1.size=ks.length+1:=by have:=pe.length_eq;simp at this;omega
  have me1:∀j,j∈ks++[k]↔∃e∈e1.toList,(DL P w).is j e.2=true:=λj=>by
   rw[BO,me j,wv]
   constructor
   ·rintro(⟨y,hy,q⟩ | rfl)
    ·exact⟨y,pe.mem_iff.mpr (BS _ hy),q⟩
    ·exact⟨_,pe.mem_iff.mpr (ga _ (wv.mpr rfl)),hk⟩
   ·rintro⟨y,hy,q⟩
    rcases BO.mp (pe.mem_iff.mp hy)with hy | hy
    ·exact .inl ⟨y,hy,q⟩
    ·rw[wv.mp hy]at q
     exact .inr ((DL P w).inj x j k q hk)
  refine bm (gw _ ?_)
  have fin:∀h',Cq a s.heap h'->SetI P w h' a (ks++[k])->Q true {s with heap:=h'}:=λh' b z=>h h' true b (by rw[vj kout];exact z)
  split
  ·refine bm ?_
   rw[hashByValue_scannable 8 hx]
   refine dL ?_
   refine vD ?_ ho ex d el1 me1 (by omega) ?_ (by rw[wS];simpa using n1) ?_ ?_
   ·intro b z q hq
    cases b
    ·exact dL hq
    ·exact DQ hq
   ·split
    ·exact fe
    ·exact SetTable.fits_plain_off fe
   ·intro z
    split
    ·exact lf z
    ·exact lf z
   ·intro h' b z
    exact dL (fin h' b z)
  ·refine bm (dL ?_)
   simp only[if_true]
   refine vD ?_ ho ex d el1 me1 (by omega) fe (by rw[wS];simpa using n1) lf ?_
   ·intro b z q hq
    cases b
    ·exact dL hq
    ·exact DQ hq
   ·intro h' b z
    exact dL (fin h' b z)
end
end L2
set_option maxHeartbeats 3200000
namespace L2
open PySem PySem.Spec PyProof.Rows
def setO (w:B2):Obj:={cls:=.type "set",dict:=none,data:=.set #[] 0 (.fresh 0 0 (!byT w))}
section
variable {P:wE}{w:B2}{A:Ca}{E:bn->ca->Prop}{s:ca}
theorem wc (h:Heap):SetI P w (h.push (setO w)) h.objs.size [] :=
 ⟨setO w,#[],0,_,ww _ rfl,⟨rfl,rfl,rfl⟩,rfl,λe he=>by simp at he,λk=>by simp,by decide,by rfl,rfl,λz=>⟨by simp[IK,z],by simp[Ris,IK]⟩⟩
variable {R:EK->ca->Prop}{I:Addr}{fp wr:List Addr}{G:Array Jp->Array Jp->Prop}{n:Nat}{p:Nat->bn->Prop}{St:Nat->ca->Prop}
end
end L2
set_option maxHeartbeats 1000000
namespace L2
open PySem PySem.Spec PyProof.Rows
theorem c7:Slot "set_iterator" "__next__" "set_iterator.__next__" :=
 .of (owner := "set_iterator") (n := "__next__") (by rw[F8,ES];kernel_rfl) (by decide +kernel) (by decide +kernel) (by decide +kernel) (by first | exact .inl (by decide +kernel) | exact .inr (by decide +kernel)) (by rw[HX];kernel_rfl)
theorem i0:entryFor table "set_iterator.__next__" = some Builtin.«set_iterator.__next__»:=entryFor_of_tree (by kernel_rfl)
theorem jz:Slot "set_iterator" "__iter__" "set_iterator.__iter__" :=
 .of (owner := "set_iterator") (n := "__iter__") (by rw[F8,ES];kernel_rfl) (by decide +kernel) (by decide +kernel) (by decide +kernel) (by first | exact .inl (by decide +kernel) | exact .inr (by decide +kernel)) (by rw[HX];kernel_rfl)
theorem oI:entryFor table "set.__iter__" = some Builtin.«frozenset.__iter__»:=entryFor_alias (id' := "frozenset.__iter__") (by kernel_rfl) rfl (by decide +kernel) (by kernel_rfl)
theorem ju {α:Type}:∀(l:List α) (i:Nat) (h:i<l.length),(l[i]::l.eraseIdx i).Perm l
 | a::l,0,_=>.refl _
 | a::l,i+1,h=>(List.Perm.swap _ _ _).trans (List.Perm.cons a (ju l i (by simpa using h)))
theorem uj {α:Type}(f:Nat->Nat):∀(n k:Nat) (l:List α) (o:Array α),l.length=n->List.Perm (Ha f n k l o).toList (o.toList++l)
 | 0,k,l,o,h=>by
  obtain rfl:l=[]:=EO h
  unfold Ha;simp
 | n+1,k,l,o,h=>by
  unfold Ha
  have lt:f k % l.length<l.length:=Nat.mod_lt _ (by omega)
  rw[bv lt]
  dsimp only
  refine(uj f n (k+1) _ _ (by rw[Hn lt];omega)).trans ?_
  rw[Gw,Cd]
  exact Hq _ (ju l _ lt)
theorem ui {α:Type}(f:Nat->Nat)(xs:Array α):List.Perm (J9 f xs).toList xs.toList:=by
 have:=uj f xs.size 0 xs.toList #[] (by simp)
 simpa [J9] using this
theorem lG:∀ {ks ms:List Int},ks.Nodup->(∀k∈ks,k∈ms)->ms.length=ks.length->ms.Perm ks
 | [],ms,_,_,h=>by rw[EO h]
 | k::ks,ms,hn,hm,h=>by
  obtain⟨h1,h2⟩:=Eo.mp hn
  have hk:=hm k (.head _)
  have p:=Im hk
  refine p.trans (List.Perm.cons k (lG h2 (λj hj=>?_) ?_))
  ·have ne:j≠k:=λe=>h1 (by rw[<- e];exact hj)
   exact(List.mem_erase_of_ne ne).mpr (hm j (.tail _ hj))
  ·rw[HH hk,h];simp
section
variable {P:wE}{w:B2}{A:Ca}{E:bn->ca->Prop}{s:ca}
theorem sZ {src:Source}{n:Nat}{Q:Nat->ca->Prop}(hn:n≠0)(h:∀i d,i<n->Q i {s with drawn:=d}):lm (sn P w) A (choose src n) Q E s:=by
 intro Γ p hΓ
 unfold choose
 simp only[Sem.wp]
 exact⟨hn,h _ _ (Nat.mod_lt _ (Gs hn))⟩
theorem vP {α:Type}(n:Nat):∀(xs:List α) {s:ca} {Q:List α->ca->Prop},xs.length=n->(∀ys d,ys.Perm xs->Q ys {s with drawn:=d})->lm (sn P w) A (IE n xs) Q E s:=by
 induction n with
 | zero =>
  intro xs s Q hl h
  obtain rfl:xs=[]:=EO hl
  unfold IE
  exact dL (h [] s.drawn (.refl _))
 | succ n ih =>
  intro xs s Q hl h
  cases xs with
  | nil=>cases hl
  | cons x xs =>
  unfold IE
  refine bm (sZ (by simp) λi d hi=>?_)
  rw[bv hi]
  refine bm (ih _ (by rw[Hn hi,hl];rfl) λys d' hp=>?_)
  exact dL (h _ d' ((List.Perm.cons _ hp).trans (ju _ i hi)))
theorem xF {s:ca}{Q:bn->ca->Prop}{R:bn->ca->Prop}{α:Type}{q:α->ca->Prop}(hh:A.handled=none)(h:∀x h',(∀b o,s.heap.get? b=some o->h'.get? b=some o)->({s with heap:=h'}:ca).TypeIs x "StopIteration" -> R x {s with heap:=h'}) :
  lm (sn P w) A (newExc (.type "StopIteration") []>>=λx=>(raiseNew x:Sem α)) q R s:=by
 have ho:∃n,n<=10/\(ownMembersOf (Value.type "StopIteration") []).size=n:=by
  first
  | exact⟨_,by decide,rfl⟩
  | exact⟨(ownMembersOf (Value.type "StopIteration") []).size,by decide +kernel,rfl⟩
 obtain⟨no,hno,eno⟩:=ho
 refine bm (bm (Dm (bm (Jh rfl (Dm ?_ (by first | trivial | (unfold sizeOk;trivial) | (simp[sizeOk,EB,eno];omega) | (simp only[sizeOk,Array.size_append,eno,EB];simp;omega))))) (by show 0<=wT;decide)))
 refine bm (wpAny_handled ?_)
 rw[hh]
 refine bm (dL (wpAny_throw (h _ _ (λb o q=>db _ (db _ q)) ?_)))
 exact⟨_,ww _ rfl,rfl⟩
def itO (f:bn)(i:Nat)(S:Addr)(n ep:Nat):Obj:={cls:=.type "set_iterator",data:=.fields #[f,DK (i:Nat),.ref S,DK (n:Nat),DK (ep:Nat)]}
variable {I S:Addr}{o:Obj}{es:Array (Int×bn)}{ep:Nat}{t:DR}
theorem rB {f i:Nat}{r:Option (bn×Nat)}{Q:Option bn->ca->Prop}(hh:A.handled=none)(hI:s.heap.get? I=some (itO (DK (f:Nat)) i S es.size ep))(hS:s.heap.get? S=some o)(hd:o.data = .set es ep t)(hf:t.fits es.size=true)
  (hn:∀(A:Ca) (E:bn->ca->Prop) (q:Option (bn×Nat)->ca->Prop),q r s->lm (sn P w) A (G_ S f i ep) q E s)
  (hq:∀x k h',r=some (x,k)->h'.get? I=some (itO (DK (k:Nat)) (i+1) S es.size ep)->(∀b o,b≠I->s.heap.get? b=some o->h'.get? b=some o)->Q (some x) {s with heap:=h'})
  (he:∀h',r=none->(∀b o,b≠I->s.heap.get? b=some o->h'.get? b=some o)->Q none {s with heap:=h'}):lm (sn P w) A (Es (.ref I)) Q E s:=by
 have hT:s.TypeIs (.ref I) "set_iterator" := by
  first
  | exact⟨_,hI,rfl⟩
  | exact⟨_,_,hI,rfl⟩
 refine bm (GQ (DD hT c7 (Df c7 hT i0 (bm (dL (bm (wpAny_fieldsOf hI rfl ?_)))))))
 show lm _ _ (setEntries S>>=_) _ _ _
 refine bm (GH hS hd hf ?_)
 show lm _ _ (ite (((es.size:Int) != (es.size:Int))=true) _ _) _ _ _
 rw[if_neg (by simp)]
 show lm _ _ (G_ S f i ep>>=_) _ _ _
 refine bm (hn _ _ _ ?_)
 cases r with
 | some p =>
  obtain⟨x,k⟩:=p
  refine bm (Dd hI (by show 0<5;decide) λh1 g1 sb1=>?_)
  refine bm (Dd g1 (by show 1<5;decide) λh2 g2 sb2=>?_)
  exact dL ⟨_,rfl,dL (hq x k h2 rfl g2 λb o hb q=>(sb2.2 b hb).trans ((sb1.2 b hb).trans q))⟩
 | none =>
  refine bm (Dd hI (by show 2<5;decide) λh1 g1 sb1=>?_)
  refine xF (Q:=λ_ _=>True) (by exact hh) λx h' hk hx=>?_
  refine bm (FO (T := "StopIteration") hx HY (dL (he h' rfl λb o hb q=>hk b o ((sb1.2 b hb).trans q))))
theorem lJ {T:Addr}{i:Nat}{ps:List Nat}{Q:Option bn->ca->Prop}(hh:A.handled=none)(hI:s.heap.get? I=some (itO (.ref T) i S es.size ep))(hT2:s.heap.get? T=some {cls:=.type "tuple",data:=.seq (ps.map λp=>DK (p:Nat)).toArray})(hS:s.heap.get? S=some o)(hd:o.data = .set es ep t)(hf:t.fits es.size=true)
  (hq:∀p e h',ps[i]? = some p->es[p]? = some e->h'.get? I=some (itO (.ref T) (i+1) S es.size ep)->(∀b o,b≠I->s.heap.get? b=some o->h'.get? b=some o)->Q (some e.2) {s with heap:=h'}) (hp:∀p∈ps,p<es.size)
  (he:∀h',ps[i]? = none->(∀b o,b≠I->s.heap.get? b=some o->h'.get? b=some o)->Q none {s with heap:=h'}):lm (sn P w) A (Es (.ref I)) Q E s:=by
 have hT:s.TypeIs (.ref I) "set_iterator" := by
  first
  | exact⟨_,hI,rfl⟩
  | exact⟨_,_,hI,rfl⟩
 refine bm (GQ (DD hT c7 (Df c7 hT i0 (bm (dL (bm (wpAny_fieldsOf hI rfl ?_)))))))
 show lm _ _ (setEntries S>>=_) _ _ _
 refine bm (GH hS hd hf ?_)
 show lm _ _ (ite (((es.size:Int) != (es.size:Int))=true) _ _) _ _ _
 rw[if_neg (by simp)]
 show lm _ _ (J8 (.ref T)>>=_) _ _ _
 refine bm (Gk hT2 rfl ?_)
 dsimp only
 rw[List.getElem?_toArray,Cr,wn]
 cases hx:ps[i]? with
 | some p =>
  have lp:=hp p (Cb hx)
  have ge:es[p]? = some es[p]:=C2 lp
  show lm _ _ (setNextDrawn S p ep>>=_) _ _ _
  refine bm ?_
  unfold setNextDrawn
  refine bm (Ef hS hd hf ?_)
  show lm _ _ (ite ((ep != ep)=true) _ _) _ _ _
  rw[if_neg (by simp)]
  show lm _ _ (match es[p]? with | some (_,x)=>pure x | _=>_) _ _ _
  rw[ge]
  refine dL ?_
  refine bm (Dd hI (by show 1<5;decide) λh1 g1 sb1=>?_)
  exact dL ⟨_,rfl,dL (hq p es[p] h1 hx ge g1 λb o hb q=>(sb1.2 b hb).trans q)⟩
 | none =>
  show lm _ _ (setField (.ref I) 0 (DK 0)>>=_) _ _ _
  refine bm (Dd hI (by show 0<5;decide) λh1 g1 sb1=>?_)
  refine bm (Dd g1 (by show 2<5;decide) λh2 g2 sb2=>?_)
  refine xF (Q:=λ_ _=>True) (by exact hh) λx h' hk hx'=>?_
  exact bm (FO (T := "StopIteration") hx' HY (dL (he h' hx λb o hb q=>hk b o ((sb2.2 b hb).trans ((sb1.2 b hb).trans q)))))
theorem ym {f i:Nat}{Q:Option (bn×Nat)->ca->Prop}(hb:byT w=true)(hS:s.heap.get? S=some o)(hd:o.data = .set es ep t)(hf:t.fits es.size=true)
  (h:Q (((J9 (w.params.setOrder S ep) es)[i]?).map λe=>(e.2,f)) s):lm (sn P w) A (G_ S f i ep) Q E s:=by
 unfold byT at hb
 unfold G_ GX
 refine bm (Ef hS hd hf ?_)
 refine bm (bm (DO (dL ?_)))
 show lm _ _ (ite (w.params.followText "set-order" = true) _ _) _ _ _
 rw[if_pos hb]
 show lm _ _ (ite ((ep != ep)=true) _ _) _ _ _
 rw[if_neg (by simp)]
 unfold setWalk GX
 refine bm (bm (Ef hS hd hf ?_))
 refine bm (bm (DO (dL ?_)))
 show lm _ _ (ite (w.params.followText "set-order" = true) _ _) _ _ _
 rw[if_pos hb]
 exact bm (DO (dL (dL h)))
theorem yn {f i:Nat}{Q:Option (bn×Nat)->ca->Prop}(hb:byT w=false)(hp:(!t.plain&&decide (es.size > 1))=false)(hl:t.led=true)(hS:s.heap.get? S=some o)(hd:o.data = .set es ep t)(hf:t.fits es.size=true)
  (h:Q (match es[Cm t.place f]?,t.place[Cm t.place f]? with | some (_,x),some j=>some (x,j+1) | _,_=>none) s):lm (sn P w) A (G_ S f i ep) Q E s:=by
 unfold byT at hb
 unfold G_ GX
 refine bm (Ef hS hd hf ?_)
 refine bm (bm (DO (dL ?_)))
 show lm _ _ (ite (w.params.followText "set-order" = true) _ _) _ _ _
 rw[if_neg (by rw[hb];simp)]
 show lm _ _ (ite ((!t.plain&&decide (es.size > 1))=true) _ _) _ _ _
 rw[if_neg (by rw[hp];simp)]
 show lm _ _ (ite ((!t.led && !es.isEmpty)=true) _ (pure ())>>=_) _ _ _
 rw[if_neg (by rw[hl];simp)]
 exact bm (dL (dL h))
end
theorem m5:entryFor table "set_iterator.__iter__" = some Builtin.«dict_keyiterator.__iter__»:=entryFor_alias (id' := "dict_keyiterator.__iter__") (by kernel_rfl) rfl (by decide +kernel) (by kernel_rfl)
theorem ve {α:Type}{es:Array α}:∀(ps:List Nat),(∀p∈ps,p<es.size)->(ps.filterMap λp=>es[p]?).length=ps.length
 | [],_=>rfl
 | p::ps,h=>by
  rw[DW,C2 (h p (.head _))]
  simp[ve ps λq hq=>h q (.tail _ hq)]
theorem AZ {α:Type}{es:Array α}:∀(ps:List Nat),(∀p∈ps,p<es.size)->∀i:Nat,(ps.filterMap λp=>es[p]?)[i]? = (ps[i]?).bind λp=>es[p]?
 | [],_,i=>by simp
 | p::ps,h,i=>by
  rw[DW,C2 (h p (.head _))]
  cases i with
  | zero=>simp[h p (.head _)]
  | succ i=>simpa using AZ ps (λq hq=>h q (.tail _ hq)) i
section
variable {P:wE}{w:B2}{A:Ca}{E:bn->ca->Prop}{s:ca}{I S:Addr}{o:Obj}{es:Array (Int×bn)}{ep:Nat}{t:DR}
theorem t7 {f:bn}{i n:Nat}{Q:bn->ca->Prop}(hI:s.heap.get? I=some (itO f i S n ep))(h:Q (.ref I) s):lm (sn P w) A (GY (.ref I)) Q E s:=by
 have hT:s.TypeIs (.ref I) "set_iterator" := by
  first
  | exact⟨_,hI,rfl⟩
  | exact⟨_,_,hI,rfl⟩
 refine JQ hT jz (Df jz hT m5 ?_)
 exact(show lm _ _ (ret (.ref I)) _ _ s from dL ⟨_,rfl, "set_iterator",_,hT,c7.lookup,h⟩)
theorem qI (hh:A.handled=none)(hne:S≠I)(hd:o.data = .set es ep t)(hf:t.fits es.size=true)(vs:List bn)(nx:Nat->Nat)
  (hs:∀i (s:ca),i<=vs.length->s.heap.get? S=some o->∀(A:Ca) (E:bn->ca->Prop) (q:Option (bn×Nat)->ca->Prop),q ((vs[i]?).map λx=>(x,nx (i+1))) s->lm (sn P w) A (G_ S (nx i) i ep) q E s) :
  Walks P w A I [I,S] [I] vs.length (λi v=>vs[i]? = some v) (λi h=>h.get? I=some (itO (DK (nx i:Nat)) i S es.size ep)/\h.get? S=some o) where
 sub:=λb hb=>by simp at hb;simp[hb]
 frame:=λ_ _ _ st hk=>⟨hk I (by simp) _ st.1,hk S (by simp) _ st.2⟩
 item:=λi s Q E hi st hQ=>by
  have gv:vs[i]? = some vs[i]:=bv hi
  refine rB hh st.1 st.2 hd hf (hs i s (by omega) st.2) (λx k h' e g kp=>?_) (λh' e=>?_)
  ·rw[gv]at e
   simp only[FD,Co,Eh]at e
   obtain⟨rfl,rfl⟩:=e
   exact hQ _ h' s.toks gv ⟨g,kp S _ hne st.2⟩ λb o hb q=>kp b o (λz=>hb (by simp[z])) q
  ·rw[gv]at e;cases e
 done:=λs Q E st hQ=>by
  have gn:vs[vs.length]? = none:=by simp
  refine rB hh st.1 st.2 hd hf (hs vs.length s (li _) st.2) (λx k h' e g kp=>?_) (λh' e kp=>?_)
  ·rw[gn]at e;cases e
  ·exact hQ h' s.toks λb o hb q=>kp b o (λz=>hb (by simp[z])) q
 self:=λ_ _ _ _ st hQ=>t7 st.1 hQ
theorem rS {T:Addr}(hh:A.handled=none)(hne:S≠I)(hn2:T≠I)(hd:o.data = .set es ep t)(hf:t.fits es.size=true)(ps:List Nat)(hp:∀p∈ps,p<es.size)(hl:ps.length=es.size) :
  Walks P w A I [I,S,T] [I] (ps.filterMap λp=>es[p]?).length (λi v=>(((ps.filterMap λp=>es[p]?).map (·.2))[i]? = some v)) (λi h=>h.get? I=some (itO (.ref T) i S es.size ep)/\h.get? S=some o/\h.get? T=some {cls:=.type "tuple",data:=.seq (ps.map λp=>DK (p:Nat)).toArray}) where
 sub:=λb hb=>by simp at hb;simp[hb]
 frame:=λ_ _ _ st hk=>⟨hk I (by simp) _ st.1,hk S (by simp) _ st.2.1,hk T (by simp) _ st.2.2⟩
 item:=λi s Q E hi st hQ=>by
  have fm:=AZ ps hp
  refine lJ hh st.1 st.2.2 st.2.1 hd hf (λp e h' e1 e2 g kp=>?_) hp (λh' e=>?_)
  ·refine hQ _ h' s.toks ?_ ⟨g,kp S _ hne st.2.1,kp T _ hn2 st.2.2⟩ λb o hb q=>kp b o (λz=>hb (by simp[z])) q
   rw[wn,fm,e1]
   simp[e2]
  ·have:ps.length<=i:=List.getElem?_eq_none_iff.mp e
   rw[ve ps hp]at hi
   omega
 done:=λs Q E st hQ=>by
  refine lJ hh st.1 st.2.2 st.2.1 hd hf (λp e h' e1 e2 g kp=>?_) hp (λh' e kp=>?_)
  ·rw[ve ps hp]at e1
   simp at e1
  ·exact hQ h' s.toks λb o hb q=>kp b o (λz=>hb (by simp[z])) q
 self:=λ_ _ _ _ st hQ=>t7 st.1 hQ
end
def nxS (t:DR):Nat->Nat
 | 0=>0
 | k+1=>t.place.getD k 0+1
section
variable {P:wE}{w:B2}{A:Ca}{E:bn->ca->Prop}{s:ca}{I S:Addr}{o:Obj}{es:Array (Int×bn)}{ep:Nat}{t:DR}
theorem qi:∀ {l:List (Int×bn)},Ja (DL P w) l->∃ms,Ez (l.map (·.2)) ms/\∀k,k∈ms↔∃e∈l,(DL P w).is k e.2=true
 | [],_=>⟨[],.nil,λk=>by simp⟩
 | e::l,h=>by
  obtain⟨ms,h1,h2⟩:=qi h.tail
  obtain⟨⟨k,hk,_⟩,_⟩:=h.head
  obtain⟨tk,ev⟩:=IJ hk
  refine⟨k::ms,by rw[wl,ev];exact .cons k tk h1,λj=>?_⟩
  rw[sB,h2 j]
  constructor
  ·rintro(rfl | ⟨y,hy,q⟩)
   ·exact⟨e,.head _,hk⟩
   ·exact⟨y,.tail _ hy,q⟩
  ·rintro⟨y,hy,q⟩
   rcases sB.mp hy with rfl | hy
   ·exact .inl ((DL P w).inj _ j k q hk)
   ·exact .inr ⟨y,hy,q⟩
theorem AL {ks:List Int}{Q:bn->ca->Prop}(hh:A.handled=none)(hS:SetI P w s.heap S ks)(hk:ks.Nodup)
  (h:∀h' d I fp vs ms St,(∀b o,s.heap.get? b=some o->h'.get? b=some o)->Ez vs ms->ms.Perm ks->Walks P w A I fp [I] vs.length (λi v=>vs[i]? = some v) St->St 0 h'->(∀b∈fp,b=S∨s.heap.objs.size<=b)->s.heap.objs.size<=I->Q (.ref I) {s with heap:=h',drawn:=d}) :
  lm (sn P w) A (GY (.ref S)) Q E s:=by
 obtain⟨o,es,ep,t,ho,ex,d,el,me,bd,fi,le,ld⟩:=hS
 obtain⟨⟨oc,od,oda,osl⟩,ho,ex,d⟩:∃o:Obj,s.heap.get? S=some o/\o.ExactSet/\o.data = .set es ep t:=⟨o,ho,ex,d⟩
 have hT:s.TypeIs (.ref S) "set" := ⟨_,ho,ex.1⟩
 have hlt:S<s.heap.objs.size:=lc ho
 obtain⟨ms,m1,m2⟩:=qi el
 have mp:∀ {l:List (Int×bn)},l.Perm es.toList->∃ms',Ez (l.map (·.2)) ms'/\ms'.Perm ks:=λ{l} q=>by
  obtain⟨ms',a1,a2⟩:=qi (el.perm q)
  have hl:ms'.length=ks.length:=by
   have:=G2 a1
   rw[f8,q.length_eq,Di]at this
   omega
  refine⟨ms',a1,lG hk (λk kk=>?_) hl⟩
  obtain⟨e,he,z⟩:=(me k).mp kk
  exact(a2 k).mpr ⟨e,q.mem_iff.mpr he,z⟩
 refine JQ hT HF (Df HF hT oI ?_)
 unfold Builtin.«frozenset.__iter__» Jr
 refine bm (bm (dL (dL ?_)))
 unfold Js
 refine bm (bm (GH ho d fi (dL ?_)))
 unfold setDrawn GX
 refine bm (bm (Ef ho d fi (bm (bm (DO (dL (dL ?_)))))))
 show lm _ _ (ite ((!byT w&&(!t.plain&&decide (es.size > 1)))=true) (IE es.size (sK es.size)>>=_) _) _ _ _
 have hz:es.size<=wT:=EH bd
 have fin:∀(f:bn) (h1:Heap) (dr:Drawn) (fp:List Addr) (vs:List bn) (ms:List Int) (St:Nat->Heap->Prop),(∀b o,s.heap.get? b=some o->h1.get? b=some o)->s.heap.objs.size<=h1.objs.size->Ez vs ms->ms.Perm ks ->
   Walks P w A h1.objs.size fp [h1.objs.size] vs.length (λi v=>vs[i]? = some v) St->St 0 (h1.push (itO f 0 S es.size ep))->(∀b∈fp,b=S∨s.heap.objs.size<=b) ->
   lm (sn P w) A.in1 (do let e <- setEpoch S;let x <- newFields "set_iterator" [f,DK 0,Value.ref S,DK (es.size:Nat),DK (e:Nat)];ret x) (λfin s'=>∃v,fin=Fin.done (Flow.ret v)/\∃T' r,s'.TypeIs v T'/\GW (Value.type T') (Fa "__next__")=pure (some r)/\Q v s') E {s with heap:=h1,drawn:=dr}:=by
  intro f h1 dr fp vs ms St k1 k2 a1 a2 W st hb
  refine bm (wpAny_setEpoch_of (s:={s with heap:=h1,drawn:=dr}) (k1 _ _ ho) d fi ?_)
  unfold newFields
  refine bm (Dm (dL ⟨_,rfl, "set_iterator",_,⟨_,ww _ rfl,rfl⟩,c7.lookup,?_⟩) (by show 5<=wT+2;decide))
  exact h _ dr _ fp vs ms St (λb o q=>db _ (k1 b o q)) a1 a2 W st hb k2
 by_cases hdr:(!byT w&&(!t.plain&&decide (es.size > 1)))=true
 ·rw[if_pos hdr]
  refine bm (vP _ _ (by simp) λps dr hp=>?_)
  have lp:∀p∈ps,p<es.size:=λp q=>B9.mp (hp.mem_iff.mp q)
  have ll:ps.length=es.size:=by rw[hp.length_eq];simp
  refine bm (wpAny_newTuple ?_ (by rw[f8,ll];exact hz))
  have pp:(ps.filterMap λp=>es[p]?).Perm es.toList:=(hp.filterMap _).trans (by rw[filterMap_getElem?_range])
  obtain⟨ms',a1,a2⟩:=mp pp
  have nT:s.heap.objs.size≠(s.heap.push {cls:=.type "tuple",data:=.seq (ps.map λi=>DK (i:Nat)).toArray}).objs.size:=by rw[C0];exact wP (DH _)
  have nS:S≠(s.heap.push {cls:=.type "tuple",data:=.seq (ps.map λi=>DK (i:Nat)).toArray}).objs.size:=by rw[C0];exact wP (Fo hlt)
  have W:=rS (P:=P) (w:=w) (A:=A) hh nS nT d fi ps lp ll
  have el2:(ps.filterMap λp=>es[p]?).length=((ps.filterMap λp=>es[p]?).map (·.2)).length:=by rw[f8]
  rw[el2]at W
  refine fin (.ref s.heap.objs.size) _ dr [_,S,s.heap.objs.size] ((ps.filterMap λp=>es[p]?).map (·.2)) ms' _ (λb o q=>db _ q) (by rw[C0];exact Fp _) a1 a2 W ⟨ww _ rfl,db _ (db _ ho),db _ (ww _ rfl)⟩ λb hb=>?_
  rcases sB.mp hb with rfl | hb
  ·exact .inr (by rw[C0];exact Fp _)
  ·rcases sB.mp hb with rfl | hb
   ·exact .inl rfl
   ·rw[wv.mp hb];exact .inr (li _)
 ·rw[if_neg hdr]
  refine bm (dL ?_)
  have nS:S≠s.heap.objs.size:=wP hlt
  have hfp:∀b∈[s.heap.objs.size,S],b=S∨s.heap.objs.size<=b:=λb hb=>by
   rcases sB.mp hb with rfl | hb
   ·exact .inr (li _)
   ·exact .inl (wv.mp hb)
  cases hb:byT w with
  | true =>
   have pp:=ui (w.params.setOrder S ep) es
   obtain⟨ms',a1,a2⟩:=mp pp
   refine fin (DK 0) s.heap s.drawn [s.heap.objs.size,S] _ ms' _ (λb o q=>q) (li _) a1 a2 (qI hh nS d fi _ (λ_=>0) λi z hi hz' A' E' q hq=>ym hb hz' d fi ?_) ⟨ww _ rfl,db _ ho⟩ hfp
   rw[wn,FN,Option.map_map]at hq
   exact hq
  | false =>
   obtain⟨l1,l2⟩:=ld hb
   rw[hb]at hdr
   have hpl:(!t.plain&&decide (es.size > 1))=false:=by
    cases z:(!t.plain&&decide (es.size > 1))with
    | false=>rfl
    | true=>rw[z]at hdr;exact absurd rfl hdr
   have sz:t.place.size=es.size:=by
    simp only[SetTable.fits,BP,beq_iff_eq]at fi
    exact fi.1
   obtain⟨ms',a1,a2⟩:=mp (l:=es.toList) (.refl _)
   refine fin (DK 0) s.heap s.drawn [s.heap.objs.size,S] _ ms' _ (λb o q=>q) (li _) a1 a2 (qI hh nS d fi _ (nxS t) λi z hi hz' A' E' q hq=>yn hb hpl l1 hz' d fi ?_) ⟨ww _ rfl,db _ ho⟩ hfp
   rw[f8,Di]at hi
   have hbl:Cm t.place (nxS t i)=i:=by
    cases i with
    | zero=>exact sW l2
    | succ k =>
     have lk:k<t.place.size:=by omega
     have:=sX l2 lk
     simpa [nxS,IA,lk] using this
   rw[hbl]
   rw[wn,FN]at hq
   by_cases hi':i<es.size
   ·have g1:es[i]? = some es[i]:=C2 hi'
    have g2:t.place[i]? = some t.place[i]:=C2 (by omega)
    rw[g1]at hq ⊢
    rw[g2]
    have e3:t.place.getD i 0=t.place[i]:=by simp[IA,show i<t.place.size by omega]
    simp only[FD,nxS,e3]at hq
    exact hq
   ·have g1:es[i]? = none:=HP (by omega)
    rw[g1]at hq ⊢
    exact hq
end
section
variable {P:wE}{w:B2}{A:Ca}{E:bn->ca->Prop}{s:ca}{S:Addr}
theorem w4 {Q:Bool->ca->Prop}(hT:s.TypeIs (.ref S) "set")(h:Q false s):lm (sn P w) A (EC (.ref S)) Q E s:=by
 unfold EC
 refine bm (F6 hT PySem.F.slot_set_len.lookup ?_)
 generalize hid:("set.__len__" : String)=id0
 wp_delta
 rw[show splitId id0=some ("set", "__len__")from by subst hid;decide +kernel]
 subst hid
 refine bm (FO (T := "set") (b:=true) hT (by rw[HX];kernel_rfl) ?_)
 refine HK (λz=>absurd z (by decide)) (λ_=>HK (λ_=>bm (IT hT (dL h))) (λz=>absurd (by decide +kernel) z))
theorem Bu {ks:List Int}{R:EK->ca->Prop}(hh:A.handled=none)(hS:SetI P w s.heap S ks)(hk:ks.Nodup)(hz:ks.length<4096)(L:Addr)(hL:L≠S)(res:bn)(c:Nat)(gL:s.heap.get? L=some {cls:=.type "list",data:=.seq #[] c})
  (hR:∀h' tk dr acc c' ms,(∀b o,b≠L->s.heap.get? b=some o->h'.get? b=some o)->h'.get? L=some {cls:=.type "list",dict:=none,data:=.seq acc c',slots:=#[]}->Ez acc.toList ms->ms.Perm ks->R (.ok (.ret res)) {s with heap:=h',toks:=tk,drawn:=dr}) :
  lm (sn P w) A.in1 (C8 (.ref L) (.ref S) res)
   (λfin s'=>match fin with | .done f=>R (.ok f) s' | .again c'=>c'.quiet=true/\CZ (sn P w) A c' R s') (λe s'=>R (.error e) s') s:=by
 have hT:s.TypeIs (.ref S) "set" := by
  obtain⟨o,_,_,_,ho,ex,_⟩:=hS
  exact⟨_,ho,ex.1⟩
 have lL:=lc gL
 unfold C8
 refine bm (IT (T := "set") hT ?_)
 have h1:Ec (.ref L) (.ref S)=false:=by simp[Ec,hL]
 have h2:(Value.type "set" == Value.type "list")=false:=by decide
 have h3:(Value.type "set" == Value.type "tuple")=false:=by decide
 simp only[h1,h2,h3,Gf,D5,if_false]
 refine bm (AL (A:=A.in1) hh hS hk λh' dr I fp vs ms St kp a1 a2 W st hb hI=>?_)
 have nf:L∉fp:=λq=>by
  rcases hb L q with e | e
  ·exact hL e
  ·exact absurd lL (Nat.not_lt.mpr e)
 have vl:vs.length<=wT:=by
  have:=G2 a1
  have:=a2.length_eq
  exact EH (show vs.length<Fn by unfold Fn;omega)
 have key:∀(h:Heap) (c1:Nat),St 0 h->(∀b o,b≠L->s.heap.get? b=some o->h.get? b=some o)->h.get? L=some {cls:=.type "list",data:=.seq #[] c1} ->
   CZ (sn P w) A (.builtin "list.extend.loop" ⟨[.ref L,.ref I,res],[]⟩) R {s with heap:=h,drawn:=dr}:=by
  intro h c1 st' hk' gL'
  refine codeAny_extend_loopS W.toS vl L nf res vs.length 0 _ #[] c1 rfl (zn _) st' gL' (ItemsOf.nil _) λz acc c2 hm gz ha=>?_
  rw[Moved.eq_with hm]
  refine hR z.heap z.toks dr acc c2 ms (λb o hb' e=>hm.heap b o (λq=>?_) (hk' b o hb' e)) gz ?_ a2
  ·rcases sB.mp q with e' | q
   ·exact hb' e'
   ·have:=lc e
    rw[wv.mp q]at this
    exact absurd this (Nat.not_lt.mpr hI)
  ·have:acc.toList=vs:=by
    refine DA λj=>?_
    rw[FN]
    by_cases hj:j<acc.size
    ·have g:acc[j]? = some acc[j]:=C2 hj
     rw[g];exact(ha.2 j _ g).symm
    ·have l2:=ha.1
     rw[HP (by omega),Dq (by omega)]
   rw[this];exact a1
 have g1:=kp _ _ gL
 refine bm (DZ (w4 (s:={s with heap:=h',drawn:=dr}) (by obtain⟨o,ho,ec⟩:=hT;exact⟨o,kp _ _ ho,ec⟩) ?_))
 refine HK (λ_=>?_) (λ_=>dL ⟨FI DM _,key _ c st (λb o _ e=>kp b o e) g1⟩)
 refine bm (DQ (bm ?_))
 show lm _ _ (Gx L (·.push .none)>>=λ_=>Gx L (·.pop)) _ _ _
 refine bm (Ev g1 rfl ?_)
 have g2:=CS (C1 (·.push Value.none)) g1 rfl
 refine Ev (hz:=by seq_fits) g2 rfl ?_
 have g3:=CS (C1 (·.pop)) g2 rfl
 refine dL ⟨FI DM _,key _ _ (W.frame 0 _ _ st λb hb o e=>?_) (λb o hb e=>?_) g3⟩
 ·have nb:L≠b:=λz=>nf (z▸hb)
  exact(CN _ _ nb).trans ((CN _ _ nb).trans e)
 ·exact(CN _ _ (Dk hb)).trans ((CN _ _ (Dk hb)).trans (kp _ _ e))
theorem vt {ks:List Int}{R:List bn->ca->Prop}(hh:A.handled=none)(hS:SetI P w s.heap S ks)(hk:ks.Nodup)(hz:ks.length<4096)
  (h:∀h' tk dr vs ms,(∀b o,s.heap.get? b=some o->h'.get? b=some o)->s.heap.objs.size<=h'.objs.size->Ez vs ms->ms.Perm ks->R vs {s with heap:=h',toks:=tk,drawn:=dr}):lm (sn P w) A (collect (.ref S)) R E s:=by
 have lS:S<s.heap.objs.size:=by obtain⟨o,_,_,_,ho,_⟩:=hS;exact lc ho
 unfold collect
 refine bm (wpAny_runValue (F9 entry_proto_collect' ?_))
 rw[EF PySem.F.plain_proto_collect _]
 refine(show lm _ A.in1 (IW []>>=λl=>II (.builtin "list.__iadd__" ⟨[l,.ref S],[]⟩)) _ _ s from bm (Dm (dL ⟨FI Hl _,F9 entry_list_iadd' ?_⟩)))
 rw[EF Hl _]
 have gL:(s.heap.push {cls:=.type "list",data:=.seq ([]:List bn).toArray}).get? s.heap.objs.size=some {cls:=.type "list",data:=.seq #[]}:=ww _ rfl
 show lm _ A.in1 (C8 (.ref s.heap.objs.size) (.ref S) (.ref s.heap.objs.size)) _ _ _
 have key:=Bu (A:=A) (s:={s with heap:=s.heap.push {cls:=.type "list",data:=.seq ([]:List bn).toArray}})
  (R:=λ(q:EK) (z:ca)=>∃(h':Heap) (tk:Nat) (dr:Drawn) (acc:Array bn) (c':Nat) (ms:List Int),q = .ok (.ret (.ref s.heap.objs.size))/\z={s with heap:=h',toks:=tk,drawn:=dr}/\(∀b o,s.heap.get? b=some o->h'.get? b=some o)/\h'.get? s.heap.objs.size=some {cls:=.type "list",dict:=none,data:=.seq acc c',slots:=#[]}/\Ez acc.toList ms/\ms.Perm ks)
  hh (hS.kept λo e=>db _ e) hk hz s.heap.objs.size (CV lS) (.ref s.heap.objs.size) 0 gL
  (λh' tk dr acc c' ms k1 g a1 a2=>⟨h',tk,dr,acc,c',ms,rfl,rfl,λb o e=>k1 b o (wP (lc e)) (db _ e),g,a1,a2⟩)
 refine Dn key (λfin z x=>?_) λe z x=>?_
 ·cases fin with
  | done f =>
   obtain⟨h',tk,dr,acc,c',ms,e,rfl,k1,g,a1,a2⟩:=x
   cases e
   exact(show lm _ A (load s.heap.objs.size>>=_) _ _ _ from bm (JE g (dL (h h' tk dr _ ms k1 (CI (lc g)) a1 a2))))
  | again c1 =>
   refine⟨x.1,Fl x.2 λq z2 y=>?_⟩
   obtain⟨h',tk,dr,acc,c',ms,rfl,rfl,k1,g,a1,a2⟩:=y
   exact(show lm _ A (load s.heap.objs.size>>=_) _ _ _ from bm (JE g (dL (h h' tk dr _ ms k1 (CI (lc g)) a1 a2))))
 ·obtain⟨_,_,_,_,_,_,e',_⟩:=x
  cases e'
theorem z4 {ks:List Int}{Q:bn->ca->Prop}(hh:A.handled=none)(hS:SetI P w s.heap S ks)(hk:ks.Nodup)(h64:ks.length<64)
  (h:∀h' tk dr D out e ns',(∀b o,s.heap.get? b=some o->h'.get? b=some o)->s.heap.objs.size<=D->h'.get? D=some (seqObj "list" out e)->Ez out.toList ns'->ns'.Perm ks->ns'.Pairwise (· <= ·)->Q (.ref D) {s with heap:=h',toks:=tk,drawn:=dr}) :
  lm (sn P w) A (call (.builtin "sorted") [.ref S]) Q E s:=by
 refine Calls.call_function_entry kind_sorted plain_sorted entry_sorted (args_sorted1 _) ?_
 unfold Builtin.«sorted»
 refine bm (m:=checkCount "sorted" 1 1 _) (dL ?_)
 refine bm (vt (A:=A.in1) hh hS hk (by omega) λh' tk dr vs ms k1 sz a1 a2=>?_)
 have l1:vs.length<64:=by
  have:=G2 a1
  have:=a2.length_eq
  omega
 refine bm (wpAny_newList ?_ (EH (by unfold Fn;omega)))
 have gD:(h'.push (seqObj "list" vs.toArray 0)).get? h'.objs.size=some (seqObj "list" vs.toArray 0):=ww _ rfl
 refine bm (DZ (Df slot_list_sort ⟨_,gD,rfl⟩ entry_list_sort (list_sort_tree (s:={s with heap:=h'.push (seqObj "list" vs.toArray 0),toks:=tk,drawn:=dr}) gD a1 l1 λout ns' b1 b2 b3=>⟨_,rfl,?_⟩) (args_list_sort _)))
 obtain⟨e,ge⟩:=sortedHeap_at (out:=out) gD
 refine dL ⟨_,rfl,h _ tk dr h'.objs.size out e ns' (λb o q=>?_) sz ge b1 (b2.trans a2) b3⟩
 have lb:=lc (k1 b o q)
 rw[sortedHeap_old (wP lb) (by rw[size_push'];exact Fo lb)]
 exact db _ (k1 b o q)
end
theorem Inv.drawn {X:Cx}{pins:List (Addr×Obj)}{σ:List (Option V)}{H:Hp}{s:ca}(I:Inv X pins σ H s)(d:Drawn):Inv X pins σ H {s with drawn:=d} :=
 ⟨I.ok,I.os,I.bare,I.base,I.loc,I.cell,I.free,I.freeC,I.pin,I.hok,I.len⟩
section
variable {K:bi}{ts:TA}{as:AA}
theorem j7:∀ {xs ys:List Int},xs.Pairwise (· < ·)->ys.Pairwise (· < ·)->(∀x,x∈xs↔x∈ys)->xs=ys
 | [],[],_,_,_=>rfl
 | [],y::ys,_,_,h=>absurd ((h y).mpr (.head _)) (by simp)
 | x::xs,[],_,_,h=>absurd ((h x).mp (.head _)) (by simp)
 | x::xs,y::ys,h1,h2,h=>by
  obtain⟨a1,b1⟩:=Dr.mp h1
  obtain⟨a2,b2⟩:=Dr.mp h2
  have e:x=y:=by
   rcases sB.mp ((h x).mp (.head _))with e | e
   ·exact e
   ·rcases sB.mp ((h y).mpr (.head _))with e' | e'
    ·exact e'.symm
    ·have:=a2 x e
     have:=a1 y e'
     omega
  subst e
  congr 1
  refine j7 b1 b2 λz=>?_
  constructor
  ·intro hz
   rcases sB.mp ((h z).mp (.tail _ hz))with e | e
   ·have:=a1 z hz;omega
   ·exact e
  ·intro hz
   rcases sB.mp ((h z).mpr (.tail _ hz))with e | e
   ·have:=a2 z hz;omega
   ·exact e
end
end L2
namespace L2
open PySem PySem.Spec PyProof.Rows PySem.W
end L2
namespace L2
open PySem PySem.Spec PyProof.Rows
end L2
namespace L2
open PySem PySem.Spec PyProof.Rows PySem.W
end L2
namespace L2
open PySem PySem.Spec PyProof.Rows
theorem oK (elt target iter:Expr)(ifs:List Expr)(scope:Dw)(pos:Pos)(it:bn)(D:Addr)(env:Env) :
  FR (.SetComp elt [⟨target,iter,ifs,0⟩] scope pos) 0 it (.ref D) env=(do
   Eg iter.pos
   match <- Es it with
   | none=>pure (.done .next)
   | some v =>
    Db target it v
    D1 target env v
    let mut ok:=true
    for c in ifs do
     if ok then ok <- Fw c env (eval c env)
    if ok then
     (do
      let v <- eval elt env
      Eg elt.pos
      let _ <- call (.builtin "set.add") [.ref D,v])
    II (.compLoop (.SetComp elt [⟨target,iter,ifs,0⟩] scope pos) 0 it (.ref D) env)):=by rfl
section
variable {P:wE}{w:B2}{A:Ca}{E:bn->ca->Prop}{R:EK->ca->Prop}{s:ca}
theorem gO {elt target iter ifs rest scope pos it acc env}
  (h0:CZ (sn P w) A (.compLoop (.SetComp elt (⟨target,iter,ifs,0⟩::rest) scope pos) 0 it acc env) R s)
  (h:lm (sn P w) A (GY it) (λit' s'=>CZ (sn P w) A (.compLoop (.SetComp elt (⟨target,iter,ifs,0⟩::rest) scope pos) 0 it' acc env) R s')
   (notedBy (sn P w) A env λx s'=>R (.error x) s') s) :
  CZ (sn P w) A (.compStart (.SetComp elt (⟨target,iter,ifs,0⟩::rest) scope pos) 0 it acc env) R s:=by
 refine Kj ?_
 show lm _ A ((IF (.SetComp elt (⟨target,iter,ifs,0⟩::rest) scope pos) 0 it acc env).onRaise (λx=>do FQ x env;Eg Ki)) _ _ s
 refine wpAny_notedAt ?_
 unfold IF
 show lm _ A (ask>>=_) _ _ s
 refine bm (DO (wpAny_ite ?_))
 split
 ·first
   | exact bm (dL (dL (And.intro rfl h0)))
   | exact dL (And.intro rfl h0)
 ·first
   | exact bm (DQ (bm (CT (bm (Dn h (λit' s' h'=>dL (And.intro rfl h')) λ_ _ x=>x)))))
   | (refine bm (DQ ?_);show lm _ _ (Eg iter.pos>>=_) _ _ s;exact bm (CT (bm (Dn h (λit' s' h'=>dL (And.intro rfl h')) λ_ _ x=>x))))
theorem wM {q:bn->ca->Prop}(h:q (.ref s.heap.objs.size) {s with heap:=s.heap.push (setO w)}):lm (sn P w) A (newSet (.type "set")) q E s:=by
 unfold newSet GX
 refine bm (bm (DO (dL ?_)))
 dsimp only;simp only[newObj]
 exact bm (wpAny_alloc (dL h))
theorem we {D:Addr}{ks:List Int}{k:Int}{t:Tok}{Q:bn->ca->Prop}(hS:SetI P w s.heap D ks)(hr:ks.length+1<Fn)
  (h:∀h',Cq D s.heap h'->SetI P w h' D (Eb ks k)->Q .none {s with heap:=h',toks:=s.toks+1}):lm (sn P w) A (call (.builtin "set.add") [.ref D,.int k t]) Q E s:=by
 have hT:s.TypeIs (.ref D) "set" := by
  obtain⟨o,_,_,_,ho,ex,_⟩:=hS
  exact⟨_,ho,ex.1⟩
 refine Df PySem.F.slot_set_add hT PySem.F.entry_set_add ?_ (PySem.F.args_set_add_2 _ _)
 unfold Builtin.«set.add» Jt
 simp only[List.isEmpty_nil,bind_assoc]
 unfold Ju setAdd
 refine bm (dL ?_)
 try dsimp only
 refine bm (dL ?_)
 try dsimp only
 refine bm ?_
 refine DZ ?_
 refine bm ((DL P w).pyHash (k:=k) (intKind_is _ _ _ _) ?_)
 refine BA (s:={s with toks:=s.toks+1}) (intKind_is _ _ _ _) rfl hS hr λh' b hsb hS'=>?_
 show lm _ _ (ret Value.none) _ _ _
 exact dL ⟨_,rfl,h h' hsb hS'⟩
end
def ddl (ys:List Int):List Int:=ys.foldl Eb []
theorem jT (ys:List Int)(k:Int):ddl (ys++[k])=Eb (ddl ys) k:=by unfold ddl;rw[Ex];rfl
theorem Bw (ks:List Int)(k:Int):(Eb ks k).length<=ks.length+1:=by
 by_cases h:k∈ks
 ·rw[zq h];omega
 ·rw[vj h,wS];exact li _
theorem mq {p:List Int->Prop}(h0:p [])(h1:∀ys k,p ys->p (ys++[k]))(ys:List Int):p ys:=by
 rw[<- List.reverse_reverse ys]
 induction ys.reverse with
 | nil=>exact h0
 | cons k zs ih=>rw[List.reverse_cons];exact h1 _ _ ih
theorem x2 (ys:List Int):(ddl ys).length<=ys.length:=by
 refine mq (p:=λys=>(ddl ys).length<=ys.length) (li _) (λys k h=>?_) ys
 rw[jT,wS]
 have:=Bw (ddl ys) k
 simp only[Dp]
 omega
theorem vi (ys:List Int)(x:Int):x∈ddl ys↔x∈ys:=by
 refine mq (p:=λys=>x∈ddl ys↔x∈ys) Hr (λys k h=>?_) ys
 rw[jT,A3,h,BO,wv]
theorem kR (ys:List Int):(ddl ys).Nodup:=by
 refine mq (p:=λys=>(ddl ys).Nodup) JB (λys k h=>?_) ys
 rw[jT]
 by_cases hk:k∈ddl ys
 ·rw[zq hk];exact h
 ·rw[vj hk,C4]
  exact⟨h,by simp,λa ha b hb e=>hk (by rw[wv.mp hb]at e;exact e▸ha)⟩
section
variable {P:wE}{w:B2}{A:Ca}{R:EK->ca->Prop}{s:ca}
theorem oM {elt tg iter:Expr}{ifs:List Expr}{scope:Dw}{pos:Pos}{it:bn}{D:Addr}{env:Env}(J:Nat->ca->Prop)
  (turn:∀n s,J n s->lm (sn P w) A (Es it) (λr s1=>match r with
   | none=>R (.ok .next) s1
   | some v=>lm (sn P w) A (Db tg it v) (λ_ s2=>lm (sn P w) A (D1 tg env v) (λ_ s3 =>
     lm (sn P w) A (forIn ifs true λc r=>if r=true then do let ok <- Fw c env (eval c env);pure (ForInStep.yield ok)else pure (ForInStep.yield r)) (λok s4 =>
      if ok=true then lm (sn P w) A (eval elt env) (λv s5=>lm (sn P w) A (call (.builtin "set.add") [.ref D,v]) (λ_ s7=>∃m,m<n/\J m s7) (λ_ _=>False) s5) (λ_ _=>False) s4
      else ∃m,m<n/\J m s4) (λ_ _=>False) s3) (λ_ _=>False) s2) (λ_ _=>False) s1) (λ_ _=>False) s)
  (n:Nat) (h:J n s):CZ (sn P w) A (.compLoop (.SetComp elt [⟨tg,iter,ifs,0⟩] scope pos) 0 it (.ref D) env) R s:=by
 have no:∀ {α:Type} {t:Sem α} {Q Q':α->ca->Prop} {E:bn->ca->Prop} {s:ca},lm (sn P w) A t Q (λ_ _=>False) s->(∀a s,Q a s->Q' a s)->lm (sn P w) A t Q' E s :=
  λh hq=>Dn h hq λ_ _ f=>f.elim
 refine FY rfl J (λn s hJ=>?_) n h
 show lm _ A ((FR (.SetComp elt [⟨tg,iter,ifs,0⟩] scope pos) 0 it (.ref D) env).onRaise (λx=>do FQ x env;Fh x)) _ _ s
 refine Gm ?_
 rw[oK]
 refine bm (CT (bm (no (turn n s hJ) λr s1 h1=>?_)))
 cases r with
 | none=>exact dL h1
 | some v =>
  refine bm (no h1 λ_ s2 h2=>bm (no h2 λ_ s3 h3=>bm (no h3 λok s4 h4=>?_)))
  cases ok with
  | false=>exact dL ⟨rfl,h4⟩
  | true=>exact bm (bm (no h4 λx s5 h5=>bm (CT (bm (no h5 λ_ s7 h7=>dL (dL ⟨rfl,h7⟩))))))
end
def x4 (J:It)(n:Nat)(js:List Nat)(g:TG)(tc:TT)(te:TE)(R:List Int->Hp->Prop)(σ:St)(H1:Hp):Prop:=∃W:Nat->Nat->List Int->Hp->Prop,(∃m,W 0 m [] H1)/\∀i m ys H,W i m ys H ->
 (J.stop i H/\R ys H) ∨
 (J.go i H/\ys.length+1<4096/\∃N:List Int->Hp->Prop,(∀zs H',N zs H'->∃m',m'<m/\W (i+1) m' zs H')/\∀x H',J.yld i H x H'->g x (bst n σ js) H' λσ2 H2=>σ2.drop n=capt σ js/\tc σ2 H2 λb H3 =>
  if b=true then te σ2 H3 λv H4=>∃k:Int,v = .int k/\N (ys++[k]) H4 else N ys H3)
def tQ (n:Nat)(js:List Nat)(wi:TI)(g:TG)(tc:TT)(te:TE):TE:=λσ H Q=>wi σ H λJ H1=>x4 J n js g tc te (λys H'=>(ddl ys).length<64/\∀ns':List Int,ns'.Pairwise (· < ·)->(∀x,x∈ns'↔x∈ys)->∀l,H' l=none->Q (.ref l) (upd H' l (.lst (ns'.map V.int)))) σ H1
def zK (X:Cx)(pins:List (Addr×Obj))(σ:St)(Q:List Int->Hp->Prop)(C:Addr)(acc:bn)(s':ca):Prop :=
 ∃(D:Addr) (H:Hp) (m:Str->Option bn) (ys:List Int),acc = .ref D/\s'.heap.Ns C m/\Inv X pins σ H s'/\H C=none/\X.s₀.heap.objs.size<=C/\C≠X.env.locals/\(∀x d,X.env.cells.lookup x=some d->d≠C)/\(∀p∈X.pn++pins,p.1≠C)/\D≠C/\SetI X.prog X.w s'.heap D (ddl ys)/\Q ys H
section
variable {X:Cx}
theorem qu {elt tg iter:Expr}{ifs:List Expr}{scope:Dw}{pos:Pos}{own:List Str}{js:List Nat}{g:TG}{tc:TT}{te:TE}{Q:List Int->Hp->Prop}{pins:List (Addr×Obj)}{σ:St}{s2:ca}{itv:bn}{E:bn->ca->Prop}
  {RR:bn->Addr->EK->ca->Prop} (hc:X.calm=true) (B:Blk X scope own js) (hg:∀s H C fp,(own++capN X.N js).Nodup->PG (blk X scope (own++capN X.N js) s H C fp) tg g) (ht:∀s H C fp,PTs (blk X scope (own++capN X.N js) s H C fp) ifs tc)
  (he:∀s H C fp,PE (blk X scope (own++capN X.N js) s H C fp) elt te)
  (h:PIE X pins σ tg (λJ H1=>x4 J own.length js g tc te Q σ H1) itv s2)
  (hR:∀C acc s',zK X pins σ Q C acc s'->RR acc C (.ok .next) s') :
  lm (sn X.prog X.w) X.A (newSet (.type "set")) (λacc s3=>lm (sn X.prog X.w) X.A (Go scope X.env.globals (cS scope X.env) [] X.env.qual none .none (some X.env)) (λcenv s4 =>
   CZ (sn X.prog X.w) X.A (.compStart (.SetComp elt [⟨tg,iter,ifs,0⟩] scope pos) 0 itv acc {cenv with scope:=Gy scope X.env}) (RR acc cenv.locals) s4) E s3) E s2:=by
 obtain⟨it,fp,tn,J,H2,rfl,I2,T,st2,f2,W,⟨m0,w0⟩,turn⟩:=h
 refine wM (E8 B.nocell (by intro y hy;simp at hy) (λh1 hns1 hsb1=>?_) B.kind)
 have hnew:SetI X.prog X.w (s2.heap.push (setO X.w)) s2.heap.objs.size []:=wc s2.heap
 generalize hPu:s2.heap.push (setO X.w)=Pu at hns1 hsb1 hnew ⊢
 dsimp only at hns1 hsb1 ⊢
 have hDC:Pu.objs.size=s2.heap.objs.size+1:=by rw[<- hPu,C0]
 have hbig:=I2.big
 generalize hD:s2.heap.objs.size=D at hDC hnew hbig ⊢
 generalize hC:Pu.objs.size=C at hns1 hsb1 hDC ⊢
 have ltDC:D<C:=by rw[hDC];exact DH D
 have neDC:D≠C:=wP ltDC
 have keep1:∀b o,s2.heap.get? b=some o->h1.get? b=some o:=λb o e=>by
  have hb:b<D:=by rw[<- hD];exact lc e
  have hb2:b≠C:=wP (DE hb ltDC)
  refine(hsb1.2 b hb2).trans (db _ ?_)
  rw[<- hPu]
  exact db _ e
 have gD1:SetI X.prog X.w h1 D []:=hnew.kept λo e=>(hsb1.2 D neDC).trans (db _ e)
 have szD:s2.heap.objs.size<=D:=Fe hD
 have szC:s2.heap.objs.size<=C:=xL szD (CI ltDC)
 have old:∀ {b:Addr},b<s2.heap.objs.size->b≠D/\b≠C:=λhb=>⟨wP (xz hb szD),wP (xz hb szC)⟩
 have fpo:∀b∈fp,∃o,s2.heap.get? b=some o:=λb hb=>let ⟨o,e,_⟩:=T.obj 0 _ st2 b hb;⟨o,e⟩
 have fpD:∀b∈fp,b≠D/\b≠C:=λb hb=>by
  obtain⟨o,e⟩:=fpo b hb
  exact old (lc e)
 have clD:∀x d,X.env.cells.lookup x=some d->d≠D/\d≠C:=λx d e=>by
  obtain⟨v,o,ho,_⟩:=I2.cell x d e
  exact old (lc ho)
 have pinD:∀p∈X.pn++pins,p.1≠D/\p.1≠C:=λp hp=>by
  exact old (lc (I2.pin p hp).1)
 have locD:D≠X.env.locals/\C≠X.env.locals:=by
  exact⟨(old I2.lt).1.symm,(old I2.lt).2.symm⟩
 let Y:=blk X scope (own++capN X.N js) s2 H2 C fp
 have IB:Inv Y [] (bst own.length σ js) H2 {s2 with heap:=h1,toks:=s2.toks+([]:List (Str×bn)).length}:=ni B I2 f2 fpo szC hns1 keep1
 have fpB:∀ {H':Hp} {pl:List (Addr×Obj)},(∀b∈fp,H' b=none)->(∀p∈pl,p.1=D)->∀b∈fp,FpOk Y pl H' b:=λ{H' pl} hn hp b hb=>by
  obtain⟨f0,f1,f3,f4,f5,f6⟩:=f2 b hb
  refine⟨hn b hb,(fpD b hb).2,λz=>?_,.inl hb,λx c e=>f5 x c (cu e),λp q=>?_⟩
  ·rcases sB.mp (I2.stkSub b z)with z | z
   ·exact f1 z
   ·exact f3 z
  ·have q':p∈pl:=by simpa [Y,blk] using q
   rw[hp p q']
   exact(fpD b hb).1.symm
 have clB:∀x d,Y.env.cells.lookup x=some d->d≠D:=λx d e=>(clD x d (cu e)).1
 have notFs:D∉Y.fs:=λz=>by
  obtain⟨_,o,ho,_⟩:=IB.ok.funs.mem z
  exact(old (lc (show s2.heap.get? D=some o from ho))).1 rfl
 have loop:∀s3:ca,s3={s2 with heap:=h1,toks:=s2.toks+([]:List (Str×bn)).length} ->
   CZ (sn X.prog X.w) X.A (.compLoop (.SetComp elt [⟨tg,iter,ifs,0⟩] scope pos) 0 (.ref it) (.ref D) (H_ scope (cS scope X.env) C X.env)) (RR (.ref D) C) s3:=by
  rintro s3 rfl
  refine oM (λn s'=>∃(i:Nat) (ys:List Int) (H':Hp),Inv Y [] (bst own.length σ js) H' s'/\tn i s'.heap/\(∀b∈fp,H' b=none)/\H' D=none /\
   SetI X.prog X.w s'.heap D (ddl ys)/\W i n ys H') ?_ m0 ⟨0,[],H2,IB,T.keep 0 _ _ st2 (λb hb o e=>keep1 b o e),λb hb=>(f2 b hb).1,I2.hok.fresh szD,gD1,w0⟩
  rintro n s3 ⟨i,ys,H3,I3,st3,fr3,hD3,g3,w3⟩
  obtain⟨od,ho3,ncell⟩:∃od,s3.heap.get? D=some od/\∀v,od.data ≠ .cell v:=by
   obtain⟨o,es,ep,t,ho,_,hda,_⟩:=g3
   exact⟨o,ho,λv z=>by rw[hda]at z;cases z⟩
  have dat3:∀ {h:Heap},h.get? D=some od->SetI X.prog X.w h D (ddl ys):=λe=>g3.kept λo e'=>by rw[ho3]at e';cases e';exact e
  have I3p:Inv Y [(D,od)] (bst own.length σ js) H3 s3:=I3.pins_of λp hp=>by
   have e:p=(D,od):=by simpa using hp
   subst e
   exact⟨ho3,hD3,neDC,notFs,ncell⟩
  have f3:∀b∈fp,FpOk Y [(D,od)] H3 b:=fpB fr3 λp hp=>by
   have e:p=(D,od):=by simpa using hp
   rw[e]
  rcases turn i n ys H3 w3 with⟨stop,qn⟩ | ⟨go,hz,N,hN,step⟩
  ·refine thn (T.done Y rfl rfl rfl hc i _ s3 _ H3 (λ_ _=>False) I3p f3 st3 stop) λr s4 ⟨hr,I4⟩=>?_
   subst hr
   refine hR C _ s4 ?_
   have g4:=(I4.pin (D,od) (by simp[Y,blk])).1
   obtain⟨m,hn4,_⟩:=id I4.loc
   have un:Un (frs X.stack) fp H2 H3 s2.heap s4.heap:=I4.base
   have I5:Inv X pins σ H3 s4:=I2.call' I4.os un I4.hok I4.bare λb hb=>let ⟨_,b1,_,b3,b4,b5⟩:=f2 b hb;⟨b3,b1,b4,b5⟩
   exact⟨D,_,m,ys,rfl,hn4,I5,I4.free,xL I2.sz szC,locD.2,λx d e=>(clD x d e).2,λp hp=>(pinD p hp).2,neDC,dat3 g4,qn⟩
  ·refine thn (T.item Y rfl rfl rfl hc i _ s3 _ H3 (λ_ _=>False) I3p f3 st3 go) λr s4 ⟨u,hr,h4⟩=>?_
   subst hr
   refine thn h4 λ_ s5 ⟨x,H5,I5,r5,y5,st5,fr5⟩=>?_
   have f5:∀b∈fp,FpOk Y [(D,od)] H5 b:=λb hb=>⟨fr5 b hb,(f3 b hb).2⟩
   have I5':=I5.pinned f5 (T.obj _ _ st5)
   refine thn (hg s2 H2 C fp B.nd _ s5 _ H5 x u _ I5' r5 (step x H5 y5)) λ_ s6 ⟨σ6,H6,I6,d6,q6⟩=>?_
   refine thn (ht s2 H2 C fp _ s6 σ6 H6 _ I6 q6) λok s7 ⟨H7,I7,q7⟩=>?_
   have after:∀ {s8:ca} {H8:Hp},Inv Y ([(D,od)]++f9 fp s5.heap) σ6 H8 s8 ->
     s8.heap.get? D=some od/\H8 D=none/\tn (i+1) s8.heap/\(∀b∈fp,H8 b=none)/\Inv Y [] (bst own.length σ js) H8 s8:=λ{s8 H8} I8=>by
    have p8:=I8.pin (D,od) (by simp[Y,blk])
    refine⟨p8.1,p8.2.1,T.keep _ _ _ st5 λb hb o e=>(I8.pin (b,o) (ga _ (ga _ (bZ hb e)))).1,λb hb=>?_,?_⟩
    ·obtain⟨o,e,_⟩:=T.obj _ _ st5 b hb
     exact(I8.pin (b,o) (ga _ (ga _ (bZ hb e)))).2.1
    ·refine(I8.pins_of (pins':=[]) λp hp=>absurd hp (by simp[Y,blk])).weak ?_ λj v e=>?_
     ·rw[I8.len,fU]
      show _=(own++capN X.N js).length
      unfold capN
      simp
     ·rcases BW j own.length with z | z
      ·exfalso
       unfold bst at e
       rw[BQ (by simpa using z),CK]at e
       split at e <;> cases e
      ·unfold bst at e
       rw[Cc (by simpa using z),C7,<- d6,Cg]at e
       rw[<- e]
       congr 1
       omega
   cases ok with
   | false =>
    rw[if_neg B4]at q7 ⊢
    obtain⟨m',hm,w7⟩:=hN _ _ q7
    obtain⟨a1,a2,a3,a4,a5⟩:=after I7
    exact⟨m',hm,i+1,ys,H7,a5,a3,a4,a2,dat3 a1,w7⟩
   | true =>
    rw[if_pos rfl]at q7 ⊢
    refine thn (he s2 H2 C fp _ s7 σ6 H7 _ I7 q7) λu9 s9 ⟨v9,H9,I9,r9,kk,ek,n9⟩=>?_
    subst ek
    obtain⟨t9,rfl⟩:=r9
    obtain⟨m',hm,w9⟩:=hN _ _ n9
    obtain⟨a1,a2,a3,a4,a5⟩:=after I9
    refine we (dat3 a1) (by have:=x2 ys;show(ddl ys).length+1<4096;omega) λh' sb dd'=>?_
    have I10:=(Inv.young a5 sb a2 szD neDC clB (λp hp=>absurd hp (by show p∉[]++[];simp))).tok (s9.toks+1)
    exact⟨m',hm,i+1,ys++[kk],H9,I10,T.keep _ _ _ a3 (λb hb o e=>(sb.2 b (fpD b hb).1).trans e),a4,a2,by rw[jT];exact dd',w9⟩
 exact gO (loop _ rfl) (T.self _ 0 _ _ _ (T.keep 0 _ _ st2 λb hb o e=>keep1 b o e) (loop _ rfl))
theorem nL {elt tg iter:Expr}{ifs:List Expr}{scope:Dw}{p pos cpos:Pos}(own:List Str)(js:List Nat){wi:TI}{g:TG}{tc:TT}{te:TE}(hc:X.calm=true)(hg1:Gl X "sorted")(hm1:X.mg "sorted" = none)(B:Blk X scope own js)(hi:PI X tg iter wi)
  (hg:∀s H C fp,(own++capN X.N js).Nodup->PG (blk X scope (own++capN X.N js) s H C fp) tg g) (ht:∀s H C fp,PTs (blk X scope (own++capN X.N js) s H C fp) ifs tc) (he:∀s H C fp,PE (blk X scope (own++capN X.N js) s H C fp) elt te)
  (hs:∀x,CY iter X.env x=pure x:=by intro _;rfl)
  (ho:B1 [.SetComp elt [⟨tg,iter,ifs,0⟩] scope cpos] X.env=[(false,eval (.SetComp elt [⟨tg,iter,ifs,0⟩] scope cpos) X.env)]:=by rfl) (hpl:(D6 pos (B1 [] X.env)).any (·.1)=false:=by rfl) :
  PE X (.Call (.Name "sorted" p) [.SetComp elt [⟨tg,iter,ifs,0⟩] scope cpos] [] pos) (tQ own.length js wi g tc te):=by
 intro pins s σ H Q I h
 refine IS (gE I hg1 hm1 oT ?_)
 refine FU ?_ (by rw[ho];rfl) hpl
 rw[ho]
 show lm _ _ (JS [(false,eval (.SetComp elt [⟨tg,iter,ifs,0⟩] scope cpos) X.env)]) _ _ s
 refine Ep ?_
 have hcl:EV scope X.env=pure (cS scope X.env):=cJ λx hx hf=>I.ok.has x.1 (B.free x hx hf)
 show lm _ X.A (FJ (.SetComp elt [⟨tg,iter,ifs,0⟩] scope cpos) scope X.env _ (newSet (.type "set")) false (eval iter X.env)) _ _ s
 refine Dy (use:=none) rfl hs hcl B.kind B.names (thn (hi pins s σ H _ I h) λv s1 h1=>thn h1 λitv s2 h2=>?_)
 refine qu (RR:=λacc C=>Hc (sn X.prog X.w) X.A X.xe none _ acc C) hc B hg ht he h2 λC acc s' hb=>?_
 obtain⟨D,H',m,ys,rfl,hn,I',c1,c2,c3,c4,c5,c6,hS,h64,q⟩:=hb
 refine⟨m,hn,λh' hs'=>Fk ?_⟩
 have I2:=I'.young hs' c1 c2 c3 c4 c5
 have hS2:SetI X.prog X.w h' D (ddl ys):=hS.kept λo e=>(hs'.2 D c6).trans e
 refine z4 (s:={s' with heap:=h'}) (by exact I2.ok.hd hc) hS2 (kR _) h64 λh2 tk2 dr D2 out e ns' k2 sz ge b1 b2 b3=>?_
 have hlen:ns'.length<64:=by rw[b2.length_eq];exact h64
 have hst:ns'.Pairwise (· < ·):=by
  have nd:ns'.Nodup:=b2.nodup_iff.mpr (kR _)
  exact(Ke b3 nd).imp λ{a b} z=>by have h1:=z.1;have h2:=z.2;omega
 have hm':∀x,x∈ns'↔x∈ys:=λx=>by rw[b2.mem_iff];exact vi ys x
 have I3:=(I2.laid (t':=tk2) (o:=.lst (ns'.map V.int)) k2 sz ⟨by rw[f8];exact CI (ff (n:=ns'.length) (by omega)),out.toList,e,iu b1,by rw[ge]⟩).drawn dr
 exact⟨.ref D2,_,I3,rfl,q ns' hst hm' D2 (I2.hok.fresh sz)⟩
end
def gN (n:Nat)(js:List Nat)(c:En->Prop)(g:AG)(tc:AT)(te:AE)(q:List Int->En->Prop):List D->List Int->En->Prop
 | [],acc,ρ=>c ρ/\q acc ρ
 | d::ds,acc,ρ=>c ρ/\g d (blkE n js ρ) λρ1=>tc ρ1 λb ρ2=>if b=true then te ρ2 λr ρ3=>(match r with
   | .d (.int k)=>gN n js c g tc te q ds (acc++[k]) (back ρ (js.map R.o) (ρ3.drop n))
   | _=>False)else gN n js c g tc te q ds acc (back ρ (js.map R.o) (ρ2.drop n))
def zB (n:Nat)(js:List Nat)(i:AI)(g:AG)(tc:AT)(te:AE):AE:=λρ q=>i ρ λds c ρ1=>ds.length<=4000/\gN n js c g tc te (λns ρ2=>(ddl ns).length<64/\∀ns':List Int,ns'.Pairwise (· < ·)->(∀x,x∈ns'↔x∈ns)->q (.f (ns'.map D.int)) ρ2) ds [] ρ1
section
variable {K:bi}
theorem lB {n:Nat}{js:List Nat}{wi:TI}{g:TG}{tc:TT}{te:TE}{ai:AI}{ag:AG}{atc:AT}{ae:AE}(hi:TIok K (λ_=>true) wi ai)(hg:TGok K (λj=>decide (n<=j)) g ag)(hc:TTok K tc atc)(he:TEok K te ae)
  (hd:dis (js.map R.o)=true:=by rfl):TEok K (tQ n js wi g tc te) (zB n js ai ag atc ae):=by
 intro F σ ρ H q Q r h k
 refine hi F σ ρ H _ _ r h λds c ρ1 J H1 h1 r1 k1 wk=>?_
 obtain⟨hz,h1⟩:=h1
 have hd':dis (blkR n js)=true:=by rw[i_];exact hd
 refine⟨λi m ys H'=>∃ ρ',m=ds.length - i/\i<=ds.length/\Rel K F σ ρ' H'/\Kp σ ρ1 ρ' H1 H'/\ys.length<=i/\gN n js c ag atc ae (λns ρ2=>(ddl ns).length<64/\∀ns':List Int,ns'.Pairwise (· < ·)->(∀x,x∈ns'↔x∈ns)->q (.f (ns'.map D.int)) ρ2) (ds.drop i) ys ρ',⟨ds.length,ρ1,rfl,zn _,r1,.refl,zn _,h1⟩,?_⟩
 rintro i m ys H' ⟨ρ',rfl,hl,r',k',al,h'⟩
 have w:c ρ'->WkAt K (hs F σ ρ') H' J ds:=λhc=>wk σ ρ' H' k'.vis r'.sl (λ_ _ _ e=>e) (λa z=>sM r' z) hc
 rcases BW i ds.length with lt | ge
 ·right
  rw[B_ lt]at h'
  unfold gN at h'
  obtain⟨hcc,h'⟩:=h'
  obtain⟨go,yld⟩:=(w hcc i).1 ds[i] (bv lt)
  refine⟨go,by omega,λzs H2=>∃ ρ2,Rel K F σ ρ2 H2/\Kp σ ρ1 ρ2 H1 H2/\zs.length<=i+1/\gN n js c ag atc ae (λns ρ2=>(ddl ns).length<64/\∀ns':List Int,ns'.Pairwise (· < ·)->(∀x,x∈ns'↔x∈ns)->q (.f (ns'.map D.int)) ρ2) (ds.drop (i+1)) zs ρ2,
   λzs H2 ⟨ρ2,a1,a2,a4,a5⟩=>⟨ds.length - (i+1),by omega,ρ2,rfl,lt,a1,a2,a4,a5⟩,λx H2 hy=>?_⟩
  obtain⟨sm,rx⟩:=yld x H2 hy
  have r0':=r'
  have k':Kp σ ρ1 ρ' H1 H2:=k'.trans ⟨λa o e _=>sm a o e,λ_ h=>h⟩
  have r':=r0'.grow sm
  have src:=jV (K:=K) (F:=F) (σ:=σ) (ρ:=ρ') (H:=H2) n js
  have rb:=r'.sub src hd'
  have hs2:=nE r' src
  rw[br]at rb hs2
  have pin:∀i a,(dU F σ ρ' H2 (bst n σ js) (blkE n js ρ')).pin i a->decide (n<=i)=true:=λi a h=>by
   rcases h with h | h
   ·exact decide_eq_true (jW h.1)
   ·exact h.elim
  have hlen:(bst n σ js).length=n+js.length:=fU
  have ret:∀ σ2 ρ2 H3,Rel K (dU F σ ρ' H2 (bst n σ js) (blkE n js ρ')) σ2 ρ2 H3->σ2.length=(bst n σ js).length->σ2.drop n=capt σ js->(∀i,(gt ρ2 i).own=true->(gt (blkE n js ρ') i).own=true) ->
    Rel K F σ (back ρ' (js.map R.o) (ρ2.drop n)) H3/\Kp σ ρ' (back ρ' (js.map R.o) (ρ2.drop n)) H2 H3/\Same (hid H3 (hs (dU F σ ρ' H2 (bst n σ js) (blkE n js ρ')) σ2 ρ2)) (hid H3 (hs F σ (back ρ' (js.map R.o) (ρ2.drop n)))):=λσ2 ρ2 H3 rr hlen2 hdrop hown=>by
   obtain⟨f1,f2⟩:=rr.forget (n:=n) (by omega) λi a h=>of_decide_eq_true (pin i a h)
   rw[hdrop]at f1 f2
   have f1':Rel K (dU F σ ρ' H2 (bst n σ js) ((blkR n js).map (c_ ρ'))) (bst n σ js) (pc n .un++ρ2.drop n) H3:=by rw[br];exact f1
   have bk:=r'.back src hd' f1' λi hi=>by
    rw[br]
    rw[kO]at hi
    split at hi
    ·cases hi
    ·rename_i hni
     rw[ie,show n+(i - n)=i by omega]at hi
     exact hown i hi
   have ln:(pc n Sv.un++ρ2.drop n).length=n+js.length:=by
    have:=rr.len
    simp;omega
   rw[ja js ρ' n _ ln,DT (by simp),br]at bk
   exact⟨bk.1,bk.2.1,f2.trans bk.2.2⟩
  refine hg _ (bst n σ js) (blkE n js ρ') H2 x _ _ _ pin rb (by rw[hs2];exact rx) h' λσ2 ρ2 h2 r2 l2 p2 o2=>?_
  have hdrop:σ2.drop n=capt σ js:=by
   have:σ2.drop n=(bst n σ js).drop n:=by
    apply DA
    intro i
    rw[Cg,Cg]
    exact p2 (n+i) (decide_eq_true (by omega))
   rw[this]
   unfold bst
   rw[DT (by simp)]
  refine⟨hdrop,hc _ σ2 ρ2 H2 _ _ r2 h2 λb ρ3 H3 h3 r3 k3=>?_⟩
  cases b with
  | false =>
   obtain⟨b1,b2,_⟩:=ret σ2 ρ3 H3 r3 l2 hdrop λi hi=>(o2 i (k3.sb i hi)).1
   exact⟨_,b1,k'.trans b2,by omega,h3⟩
  | true =>
   refine he _ σ2 ρ3 H3 _ _ r3 h3 λr4 ρ4 v4 H4 h4 o4=>?_
   obtain⟨r4',k4,i4⟩:=o4.inF
   split at h4
   ·rename_i k0
    obtain⟨b1,b2,b3⟩:=ret σ2 ρ4 H4 r4' l2 hdrop λi hi=>(o2 i (k3.sb i (k4.sb i hi))).1
    exact⟨k0,i4.int,_,b1,k'.trans b2,by rw[wS];simp;omega,h4⟩
   ·exact h4.elim
 ·left
  rw[CF ge]at h'
  unfold gN at h'
  obtain⟨hcc,h64,h'⟩:=h'
  refine⟨(w hcc i).2 ge,h64,λns' a1 a2 l hl'=>?_⟩
  exact(k.after (k1.trans k')).new r' (h' ns' a1 a2) (jm.mpr rfl) hl'
end
abbrev zO (n:Nat)(js:List Nat)(g:AG)(tc:AT)(te:AE)(ρ:En)(d:D)(acc:List Int)(N:List Int->En->Prop):Prop :=
 g d (blkE n js ρ) λρ1=>tc ρ1 λb ρ2=>if b=true then te ρ2 λr ρ3=>(match r with
   | .d (.int k)=>N (acc++[k]) (back ρ (js.map R.o) (ρ3.drop n))
   | _=>False)else N acc (back ρ (js.map R.o) (ρ2.drop n))
theorem jw {α:Type}{n:Nat}{js:List Nat}{c:En->Prop}{g:AG}{tc:AT}{te:AE}{q:List Int->En->Prop}(h:α->D)(p:α->Bool)(f:α->Int){ρ:En}(hc:c ρ):∀ {xs:List α} {acc:List Int},(∀x acc (N:List Int->En->Prop),x∈xs->N (if p x=true then acc++[f x]else acc) ρ->zO n js g tc te ρ (h x) acc N) ->
  q (acc++(xs.filter p).map f) ρ->gN n js c g tc te q (xs.map h) acc ρ
 | [],acc,_,hd=>by
  simp only[G8,Dh,B5]at hd
  unfold gN
  exact⟨hc,hd⟩
 | x::xs,acc,hs,hd=>by
  unfold gN
  refine⟨hc,hs x acc (λacc ρ=>gN n js c g tc te q (xs.map h) acc ρ) (.head _) (jw h p f hc (λy acc N hy=>hs y acc N (.tail _ hy)) ?_)⟩
  cases hp:p x <;> simp[hp]at hd ⊢ <;> exact hd
theorem zp {ys:List Int}{zs:List Int}(h:∀x∈ys,x∈zs)(hl:zs.length<64):(ddl ys).length<64 :=
 Fi (Cu (kR ys) λx hx=>h x ((vi ys x).mp hx)) hl
section
variable {X:Cx}
theorem wC {kx vx tg iter:Expr}{ifs:List Expr}{scope:Dw}{pos:Pos}(own:List Str)(js:List Nat){wi:TI}{g:TG}{tc:TT}{tk tv:TE}(hc:X.calm=true)(B:Blk X scope own js)(hi:PI X tg iter wi)
  (hg:∀s H C fp,(own++capN X.N js).Nodup->PG (blk X scope (own++capN X.N js) s H C fp) tg g) (ht:∀s H C fp,PTs (blk X scope (own++capN X.N js) s H C fp) ifs tc) (hk:∀s H C fp,PE (blk X scope (own++capN X.N js) s H C fp) kx tk) (hv:∀s H C fp,PE (blk X scope (own++capN X.N js) s H C fp) vx tv)
  (hs:∀x,CY iter X.env x=pure x:=by intro _;rfl):PE X (.DictComp kx vx [⟨tg,iter,ifs,0⟩] scope pos) (nC own.length js wi g tc tk tv):=by
 intro pins s σ H Q I h
 have hcl:EV scope X.env=pure (cS scope X.env):=cJ λx hx hf=>I.ok.has x.1 (B.free x hx hf)
 show lm _ X.A (FJ (.DictComp kx vx [⟨tg,iter,ifs,0⟩] scope pos) scope X.env _ newDict false (eval iter X.env)) _ _ s
 refine Dy (use:=none) rfl hs hcl B.kind B.names (thn (hi pins s σ H _ I h) λv s1 h1=>thn h1 λitv s2 h2=>?_)
 refine kS (RR:=λacc C=>Hc (sn X.prog X.w) X.A X.xe none (EP X pins σ Q) acc C) hc B hg ht hk hv h2 λC acc s' hb=>?_
 obtain⟨D,H',m,rfl,hn,I',c1,c2,c3,c4,c5,q⟩:=hb
 exact⟨m,hn,λh' hs'=>⟨.ref D,H',I'.young hs' c1 c2 c3 c4 c5,rfl,q⟩⟩
end
def lO (ks more:List (Key×D)):List (Key×D):=more.foldl (λacc kv=>putD acc kv.1 kv.2) ks
theorem n_ {K:bi}{H:Hp}:∀ {ms:List (Key×V)} {more:List (Key×D)} {ks:List (Key×V)} {kvs:List (Key×D)},ms.map BV=more.map BV->RepDs K H (ms.map Ce) (more.map Ce)->ks.map BV=kvs.map BV->RepDs K H (ks.map Ce) (kvs.map Ce) ->
  (fu ks ms).map BV=(lO kvs more).map BV/\RepDs K H ((fu ks ms).map Ce) ((lO kvs more).map Ce)
 | [],[],_,_,_,_,e,r=>⟨e,r⟩
 | (k,v)::ms,(k',d)::more,ks,kvs,e1,r1,e,r=>by
  simp only[wl,ED]at e1
  obtain⟨rfl,e2⟩:=e1
  simp only[wl]at r1
  unfold RepDs at r1
  obtain⟨a,b⟩:=my k r1.1 e r
  exact n_ (ms:=ms) (more:=more) (ks:=putK ks k v) (kvs:=putD kvs k d) e2 r1.2 a b
 | [],_::_,_,_,e,_,_,_=>by cases e
 | _::_,[],_,_,e,_,_,_=>by cases e
def rDUpd:V->List V->Hp->VK->Prop:=λx vs H Q=>∃d o ks more,x = .ref d/\vs=[.ref o]/\d≠o/\H d=some (.dK ks)/\H o=some (.dK more)/\ks.length+more.length<=wT/\Q .non (upd H d (.dK (fu ks more)))
theorem yS {X:Cx}:MtR X "dict.update" rDUpd:=by
 intro pins s σ H x vs v us Q I rx rv h
 obtain⟨d,o,ks,more,rfl,rfl,ne,hd,ho,hz,q⟩:=h
 cases rx
 obtain⟨u,rfl,ru⟩:=rv.one
 cases ru
 obtain⟨z1,n1,vs1,r1,dd1⟩:=I.hok d _ hd
 obtain⟨z2,n2,vs2,r2,dd2⟩:=I.hok o _ ho
 refine call_meetsIn Hg dd1.typeIs PySem.F.entry_dict_update (PySem.F.args_dict_update_2 _ _) (meets_dict_update (bG X.prog X.w) d o ne n2) ⟨vs1,vs2,dd1,dd2,by rw[<- r1.length,<- r2.length];exact hz,λh' hd' ho' hs=>?_⟩
 obtain⟨od,god,_⟩:=G9.mp hd'
 refine⟨.non,_,I.write (x:=d) (e:=d) (o:=.dK (fu ks more)) (t':=s.toks) (h':=h') (by rw[hd];exact True.intro) (.inl rfl) (λb u nb e=>(hs.2 b nb).trans e) ⟨_,god⟩ (oJ (xL (fO more ks) hz) n1 (KV.merge r2 r1) hd'),rfl,q⟩
def aUpd (i:Nat)(ac:AE):AE:=λρ q=>match gt ρ i with
 | .dk _=>ac ρ λr ρ1=>(match r,gt ρ1 i with
  | .n (.dk more),.dk kvs=>kvs.length+more.length<=1000000/\q (.d .non) (pt ρ1 i (.dk (lO kvs more)))
  | _,_=>False)
 | _=>False
theorem vX {K:bi}{tc:TE}{ac:AE}{i:Nat}(hc:TEok K tc ac):TEok K (tBM K "dict" rDUpd (tVar i) (tV tc tNil)) (aUpd i ac):=by
 intro F σ ρ H q Q r h k
 unfold aUpd at h
 split at h
 ·rename_i kvs0 hg0
  have s:=r.sl i
  rw[hg0]at s
  obtain⟨t,ks0,ex,ht0,_⟩:=s
  refine⟨.ref t,ex,.inr (.inr (.inl ⟨rfl,.inl ⟨_,ht0⟩⟩)),?_⟩
  refine hc F σ ρ H _ _ r h λr1 ρ1 v H1 h1 o=>?_
  split at h1
  ·rename_i more kvs hg
   obtain⟨hl,hq⟩:=h1
   obtain⟨Hb,l,ob,r2,k2,_,sv,hn,rfl,rfl⟩:=o
   obtain⟨l',ms,e,hl1,em,rm⟩:=sv
   injection e with e;injection e with e;injection e with e;subst e
   have s:=r2.sl i
   rw[hg,ex]at s
   obtain⟨t',ks,e,ht,ek,rk⟩:=s
   injection e with e;injection e with e;injection e with e;subst e
   have ne:t≠l:=be ht hn
   have r3:=r2.fresh (o:=ob) hn
   have k3:Kp σ ρ1 ρ1 Hb (upd Hb l ob):=Kp.fresh hn
   have v3:=k3.vis (F:=F)
   obtain⟨p1,p2⟩:=n_ em (rm.same v3) ek (rk.same v3)
   have ht1:upd Hb l ob t=some (.dK ks):=by rw[aR ne];exact ht
   have hw:=r3.write (i:=i) (l:=t) (o:=.dK (fu ks ms)) (s:=.dk (lO kvs more)) (by rw[hg];rfl) ex rfl ⟨t,_,rfl,aS,p1,p2⟩
   refine⟨t,l,ks,ms,rfl,rfl,ne,ht1,hl1,?_,?_⟩
   ·rw[iS ek,iS em]
    exact small (n:=kvs.length+more.length) hl
   ·exact((k.after (k2.trans k3)).after hw.2).non hw.1 hq
  ·exact h1.elim
 ·exact h.elim
theorem gK {α:Type}{n2:Nat}{c:En->Prop}{g:AG}{tc:AT}{te:AE}{k:List D->En->Prop}(h:α->D)(p:α->Bool)(f:α->D){ρ:En}(hc:c ρ):∀ {xs:List α} {acc:List D},acc.length+xs.length<=1000000 ->
  (∀x acc (N:List D->En->Prop),x∈xs->N (if p x=true then acc++[f x]else acc) ρ->g (h x) ρ λρ1=>tc ρ1 λb ρ2=>if b=true then te ρ2 λr ρ3=>sto [r.frz] ρ3 λes ρ4=>N (acc++es) (pc n2 .un++ρ4.drop n2)else N acc (pc n2 .un++ρ2.drop n2)) ->
  k (acc++(xs.filter p).map f) ρ->hX n2 c g tc te k (xs.map h) acc ρ
 | [],acc,_,_,hd=>by
  simp only[G8,Dh,B5]at hd
  unfold hX
  exact⟨hc,hd⟩
 | x::xs,acc,hl,hs,hd=>by
  rw[wl]
  unfold hX
  rw[At]at hl
  refine⟨hc,by omega,hs x acc (λacc' ρ'=>hX n2 c g tc te k (xs.map h) acc' ρ') (.head _) ?_⟩
  have hs':=λy acc N (hy:y∈xs)=>hs y acc N (.tail _ hy)
  cases hp:p x with
  | true =>
   rw[if_pos rfl]
   exact gK h p f hc (by rw[wS,Dp];omega) hs' (by simpa [hp] using hd)
  | false =>
   rw[if_neg (by decide)]
   exact gK h p f hc (by omega) hs' (by simpa [hp] using hd)
def mkT (M:List Nat):List (Key×D):=M.map λx:Nat=>((Sum.inl (x:Int):Key),D.bl true)
theorem uG (M:List Nat)(x:Nat):((mkT M).any λkv=>decide (kv.1=(Sum.inl (x:Int):Key)))=M.contains x:=by
 unfold mkT
 rw[GF,D8,Ds,o0]
 constructor
 ·rintro⟨y,hy,e⟩
  have e:=of_decide_eq_true e
  injection e with e
  have:y=x:=HM.mp e
  rw[<- this];exact hy
 ·intro h
  exact⟨x,h,decide_eq_true rfl⟩
theorem mB (M:List Nat)(x:Nat):putD (mkT M) (Sum.inl (x:Int)) (D.bl true)=mkT (if x∈M then M else M++[x]):=by
 unfold putD
 rw[uG]
 by_cases h:x∈M
 ·rw[if_pos (o0.mpr h),if_pos h]
  unfold mkT
  rw[B8]
  refine E1 λy _=>?_
  show(if(Sum.inl (y:Int):Key)=Sum.inl (x:Int)then _ else _)=_
  split
  ·rfl
  ·rfl
 ·rw[if_neg (λz=>h (o0.mp z)),if_neg h]
  unfold mkT
  rw[B7];rfl
theorem l_ (M:List Nat)(x:Nat):(valD (mkT M) (Sum.inl (x:Int):Key)).isSome=M.contains x:=by
 rw[<- uG]
 induction mkT M with
 | nil=>rfl
 | cons kv t ih =>
  obtain⟨k,d⟩:=kv
  unfold valD at ih ⊢
  rw[Dt,CJ]
  dsimp only
  cases decide (k=(Sum.inl (x:Int):Key))with
  | true=>rfl
  | false=>exact ih
theorem lN:∀(N M:List Nat),lO (mkT M) (mkT N)=mkT (N.foldl (λM x=>if x∈M then M else M++[x]) M)
 | [],M=>rfl
 | x::N,M=>by
  show lO (putD (mkT M) (Sum.inl (x:Int)) (D.bl true)) (mkT N)=_
  rw[mB,lN N];rfl
def zC (ak av:AE):AE:=λρ q=>ak ρ λr1 ρ1=>match r1 with
 | .d (.int i)=>av ρ1 λr2 ρ2=>(match r2 with | .d (.bl j)=>q (.n (.dk [(.inl i,.bl j)])) ρ2 | _=>False)
 | _=>False
theorem InF.bl {K:bi}{F:Fr}{σ:St}{ρ:En}{H:Hp}{v:V}{b:Bool}(h:InF K F σ ρ H v (.d (.bl b))):v = .bl b:=by
 have h:RepD K (hid H (hs F σ ρ)) v (.bl b):=h
 unfold RepD at h;exact h
theorem rX {K:bi}{tk tv:TE}{ak av:AE}(lk:zD tk)(lv:zD tv)(hk:TEok K tk ak)(hv:TEok K tv av):TEok K (zZ [(tk,tv)]) (zC ak av):=by
 intro F σ ρ H q Q r h k p hp
 have go:tk σ H λv H1=>∃i,v = .int i/\tv σ H1 λv2 H2=>∃j,v2 = .bl j/\∃ ρ2,q (.n (.dk [(.inl i,.bl j)])) ρ2/\Rel K F σ ρ2 H2/\Kp σ ρ ρ2 H H2:=by
  refine hk F σ ρ H _ _ r h λr1 ρ1 x H1 h1 o1=>?_
  obtain⟨r1',k1,i1⟩:=o1.inF
  split at h1
  ·rename_i i
   refine⟨i,i1.int,hv F σ ρ1 H1 _ _ r1' h1 λr2 ρ2 y H2 h2 o2=>?_⟩
   obtain⟨r2',k2,i2⟩:=o2.inF
   split at h2
   ·exact⟨_,i2.bl,ρ2,h2,r2',k1.trans k2⟩
   ·exact h2.elim
  ·exact h1.elim
 obtain⟨_,⟨i,rfl,g2⟩,f1⟩:=lk σ H _ go
 obtain⟨_,⟨j,rfl,ρ2,hq,rel,kp⟩,f2⟩:=lv σ H _ g2
 refine f1 _ _ (f2 _ _ ⟨aS,[(.inl i,.bl j)],rfl,by simp,?_⟩)
 have e:upd (upd H p (.dK [])) p (.dK (fu [] [(.inl i,.bl j)]))=upd H p (.dK [(.inl i,.bl j)]):=by
  funext a
  unfold upd
  split <;> rfl
 rw[e]
 exact k _ ρ2 _ _ hq ⟨H,p,_,rel,kp,rfl,⟨p,[(.inl i,.bl j)],rfl,aS,rfl,.one (by unfold RepD;rfl)⟩,hp,rfl,rfl⟩
end L2
set_option maxHeartbeats 3200000
namespace L2
open PySem PySem.Spec PyProof.Rows
end L2
namespace K83
open PySem PySem.Spec PyProof.Rows L2
def top (i:Nat):Stmt:=PySem.Challenge.pw_fewjoins_k83_fewest_of_three_givens.main.body.getD i (.Pass ⟨0,0,0,0⟩)
abbrev bw:Stmt:=lz (top 21) 0
theorem jk:aQ ["self", "wished", "clean", "known", "shut", "left"] ["self", "wished", "clean", "known", "shut", "left"] (aw bw):=⟨rfl,rfl,rfl,by decide +kernel,rfl,by decide +kernel,by decide +kernel⟩
abbrev xG:Stmt:=top 0
abbrev gX:Stmt:=top 2
abbrev p6:List Str:=["thing", "least", "most"]
theorem pC:aQ p6 ["thing", "least", "most"] (aw gX):=⟨rfl,rfl,rfl,by decide +kernel,rfl,by decide +kernel,by decide +kernel⟩
abbrev gY:Stmt:=top 3
abbrev p7:List Str:=["thing", "least", "most"]
theorem pE:aQ p7 ["thing", "least", "most"] (aw gY):=⟨rfl,rfl,rfl,by decide +kernel,rfl,by decide +kernel,by decide +kernel⟩
abbrev jO:Stmt:=top 6
abbrev uA:List Str:=["one", "other"]
theorem ua:aQ uA ["one", "other"] (aw jO):=⟨rfl,rfl,rfl,by decide +kernel,rfl,by decide +kernel,by decide +kernel⟩
abbrev jP:Stmt:=top 10
abbrev uB:List Str:=["thing", "many", "joins", "outs"]
theorem iF:aQ uB ["thing"] (aw jP):=⟨rfl,rfl,rfl,by decide +kernel,rfl,by decide +kernel,by decide +kernel⟩
abbrev fG:Stmt:=top 11
abbrev n4:List Str:=["many", "joins", "rows", "join"]
theorem gp:aQ n4 ["many", "joins"] (aw fG):=⟨rfl,rfl,rfl,by decide +kernel,rfl,by decide +kernel,by decide +kernel⟩
abbrev iJ:Stmt:=top 12
abbrev sy:List Str:=["rows", "join", "a", "b", "last"]
theorem gR:aQ sy ["rows", "join"] (aw iJ):=⟨rfl,rfl,rfl,by decide +kernel,rfl,by decide +kernel,by decide +kernel⟩
abbrev fj:Stmt:=top 13
abbrev kB:List Str:=["things", "outs"]
theorem pF:aQ kB ["things", "outs"] (aw fj):=⟨rfl,rfl,rfl,by decide +kernel,rfl,by decide +kernel,by decide +kernel⟩
abbrev fg:Stmt:=top 14
abbrev kz:List Str:=["many"]
theorem pz:aQ kz ["many"] (aw fg):=⟨rfl,rfl,rfl,by decide +kernel,rfl,by decide +kernel,by decide +kernel⟩
abbrev iI:Stmt:=top 15
abbrev sx:List Str:=["one", "other"]
theorem se:aQ sx ["one", "other"] (aw iI):=⟨rfl,rfl,rfl,by decide +kernel,rfl,by decide +kernel,by decide +kernel⟩
abbrev fH:Stmt:=top 16
abbrev n5:List Str:=["net", "words", "many", "joins", "outs", "told", "a", "b"]
theorem cC:aQ n5 ["net", "words"] (aw fH):=⟨rfl,rfl,rfl,by decide +kernel,rfl,by decide +kernel,by decide +kernel⟩
abbrev iH:Stmt:=top 17
abbrev su:List Str:=["net"]
theorem sd:aQ su ["net"] (aw iH):=⟨rfl,rfl,rfl,by decide +kernel,rfl,by decide +kernel,by decide +kernel⟩
abbrev d7:Stmt:=top 19
abbrev la:List Str:=["wish", "clean", "count", "many", "rows"]
theorem e7:aQ la ["wish", "clean", "count"] (aw d7):=⟨rfl,rfl,rfl,by decide +kernel,rfl,by decide +kernel,by decide +kernel⟩
abbrev gT:Stmt:=top 20
abbrev pY:List Str:=["clean", "one", "other"]
theorem pA:aQ pY ["clean", "one", "other"] (aw gT):=⟨rfl,rfl,rfl,by decide +kernel,rfl,by decide +kernel,by decide +kernel⟩
abbrev iG:Stmt:=top 26
abbrev nZ:List Str:=["net", "many", "joins", "outs", "stands", "leant", "numbers", "kept", "at", "a", "b"]
theorem cA:aQ nZ ["net"] (aw iG):=⟨rfl,rfl,rfl,by decide +kernel,rfl,by decide +kernel,by decide +kernel⟩
abbrev d8:Stmt:=top 27
abbrev lg:List Str:=["rows", "first", "stands", "thing", "row"]
theorem cM:aQ lg ["rows"] (aw d8):=⟨rfl,rfl,rfl,by decide +kernel,rfl,by decide +kernel,by decide +kernel⟩
abbrev fh:Stmt:=top 28
abbrev kA:List Str:=["net", "stands", "many", "joins", "outs", "leant", "at", "a", "b"]
theorem cB:aQ kA ["net", "stands"] (aw fh):=⟨rfl,rfl,rfl,by decide +kernel,rfl,by decide +kernel,by decide +kernel⟩
abbrev mv:Stmt:=top 34
abbrev wK:List Str:=["wish", "clean", "count", "many", "rows", "found", "told"]
theorem iE:aQ wK ["wish", "clean", "count"] (aw mv):=⟨rfl,rfl,rfl,by decide +kernel,rfl,by decide +kernel,by decide +kernel⟩
abbrev gZ:Stmt:=top 35
abbrev p9:List Str:=["many", "count", "most"]
theorem j6:aQ p9 ["many", "count"] (aw gZ):=⟨rfl,rfl,rfl,by decide +kernel,rfl,by decide +kernel,by decide +kernel⟩
abbrev mw:Stmt:=top 36
abbrev wL:List Str:=["wish", "clean", "count", "paper", "found", "told"]
theorem d5:aQ wL ["wish", "clean"] (aw mw):=⟨rfl,rfl,rfl,by decide +kernel,rfl,by decide +kernel,by decide +kernel⟩
abbrev gS:Stmt:=top 37
abbrev pX:List Str:=["cases", "lacking", "row", "free"]
theorem dz:aQ pX ["cases"] (aw gS):=⟨rfl,rfl,rfl,by decide +kernel,rfl,by decide +kernel,by decide +kernel⟩
abbrev df:Stmt:=top 38
abbrev jH:List Str:=["cases", "row", "found", "told"]
theorem dW:aQ jH ["cases", "row"] (aw df):=⟨rfl,rfl,rfl,by decide +kernel,rfl,by decide +kernel,by decide +kernel⟩
abbrev de:Stmt:=top 39
abbrev jG:List Str:=["cases", "free", "papers", "at", "row", "found", "told"]
theorem bX:aQ jG ["cases", "free"] (aw de):=⟨rfl,rfl,rfl,by decide +kernel,rfl,by decide +kernel,by decide +kernel⟩
abbrev cH:Stmt:=top 40
abbrev e8:List Str:=["wish", "clean", "known", "many", "rows", "joins"]
theorem dH:aQ e8 ["wish", "clean", "known"] (aw cH):=⟨rfl,rfl,rfl,by decide +kernel,rfl,by decide +kernel,by decide +kernel⟩
abbrev cD:Stmt:=top 41
abbrev f_:List Str:=["things", "row", "clean", "pairs"]
theorem fY:aQ f_ ["things", "row", "clean"] (aw cD):=⟨rfl,rfl,rfl,by decide +kernel,rfl,by decide +kernel,by decide +kernel⟩
abbrev gV:Stmt:=top 43
abbrev p4:List Str:=["_law_script"]
theorem pB:aQ p4 ["_law_script"] (aw gV):=⟨rfl,rfl,rfl,by decide +kernel,rfl,by decide +kernel,by decide +kernel⟩
abbrev gW:Stmt:=top 44
abbrev p5:List Str:=["_law_tape_here", "_law_many", "_law_found", "_law_spot", "_law_cells", "_law_cell", "_law_seed"]
theorem cY:aQ p5 ["_law_tape_here", "_law_many"] (aw gW):=⟨rfl,rfl,rfl,by decide +kernel,rfl,by decide +kernel,by decide +kernel⟩
abbrev b7:Stmt:=top 45
abbrev cO:List Str:=["_law_many", "_law_rows", "_law_clean_here", "_law_known", "_law_left", "_law_here", "_law_row"]
theorem b9:aQ cO ["_law_many", "_law_rows", "_law_clean_here"] (aw b7):=⟨rfl,rfl,rfl,by decide +kernel,rfl,by decide +kernel,by decide +kernel⟩
abbrev dB:Stmt:=top 46
abbrev gC:List Str:=["_law_net", "_law_wish_here", "_law_rows", "_law_a", "_law_b"]
theorem eT:aQ gC ["_law_net", "_law_wish_here"] (aw dB):=⟨rfl,rfl,rfl,by decide +kernel,rfl,by decide +kernel,by decide +kernel⟩
abbrev eC:Stmt:=top 47
abbrev jC:List Str:=["_law_net", "_law_rows", "_law_a", "_law_b"]
theorem eU:aQ jC ["_law_net"] (aw eC):=⟨rfl,rfl,rfl,by decide +kernel,rfl,by decide +kernel,by decide +kernel⟩
abbrev ck:Stmt:=top 48
abbrev di:List Str:=["_law_wish_here", "_law_clean_here", "_law_wanted", "_law_found", "_law_bits", "_law_rows"]
theorem cG:aQ di ["_law_wish_here", "_law_clean_here"] (aw ck):=⟨rfl,rfl,rfl,by decide +kernel,rfl,by decide +kernel,by decide +kernel⟩
abbrev gU:Stmt:=top 49
abbrev pZ:List Str:=["_law_tape_here", "_law_many", "_law_great", "_law_bits", "_law_rows", "_law_row"]
theorem dA:aQ pZ ["_law_tape_here"] (aw gU):=⟨rfl,rfl,rfl,by decide +kernel,rfl,by decide +kernel,by decide +kernel⟩
abbrev wg:Stmt:=top 50
abbrev An:List Str:=["_law_script", "_law_tape_here", "_law_turn", "_law_wish_here", "_law_clean_here", "_law_found", "_law_fewest_here"]
theorem j5:aQ An ["_law_script"] (aw wg):=⟨rfl,rfl,rfl,by decide +kernel,rfl,by decide +kernel,by decide +kernel⟩
abbrev bu:Stmt:=lz (top 21) 1
abbrev jq:List Str:=["self", "row", "shut"]
theorem jj:aQ jq ["self", "row", "shut"] (aw bu):=⟨rfl,rfl,rfl,by decide +kernel,rfl,by decide +kernel,by decide +kernel⟩
abbrev bp:Stmt:=lz (top 21) 2
abbrev gb:List Str:=["self"]
theorem jD:aQ gb ["self"] (aw bp):=⟨rfl,rfl,rfl,by decide +kernel,rfl,by decide +kernel,by decide +kernel⟩
abbrev aY:Stmt:=lz (top 21) 3
abbrev cy:List Str:=["self", "pairs", "made"]
theorem dc:aQ cy ["self"] (aw aY):=⟨rfl,rfl,rfl,by decide +kernel,rfl,by decide +kernel,by decide +kernel⟩
abbrev aW:Stmt:=lz (top 21) 4
abbrev fM:List Str:=["self"]
theorem fF:aQ fM ["self"] (aw aW):=⟨rfl,rfl,rfl,by decide +kernel,rfl,by decide +kernel,by decide +kernel⟩
abbrev bf:Stmt:=lz (top 21) 5
abbrev dj:List Str:=["self", "row", "met", "newest", "parts", "sums"]
theorem bS:aQ dj ["self", "row"] (aw bf):=⟨rfl,rfl,rfl,by decide +kernel,rfl,by decide +kernel,by decide +kernel⟩
abbrev bY:Stmt:=lz (top 21) 6
abbrev bP:Stmt:=lz (top 21) 7
abbrev bK:Stmt:=lz (top 21) 8
abbrev bJ:Stmt:=lz (top 21) 9
section
variable {P:wE}{w:B2}{K:bi}{mg:Str->Option bn}{base:Heap}
theorem pR (D:DefN K mg "_law_tape" gV ["_law_script"])(B:BI mg):OkN P w K mg base 1 "_law_tape" ["_law_script"] (spA K zE):=by
 refine OkN.imp (sp:=tY K) ?_ yg
 refine D.ok pB (λvs H Q E h=>?_) (λf cdv A outer s H vs Q E hr h=>?_)
 ·obtain⟨a,ns,rfl,_⟩:=h
  rfl
 ·obtain⟨a,ns,rfl,hS,k⟩:=h
  refine⟨_,(aI (aZ (um (jQ eJ (iL (iD K) (pv 0) kh (kf aJ)) (jQ eJ aJ (jQ eJ aJ ug))) rfl rfl (by simp) (by decide)))),?_⟩
  intro t ht
  have s0:Same H (upd H t (.dK [])):=(Same.refl H).new ht
  refine⟨_,rfl,63,rfl,a,_,rfl,s0.seq hS,λl hl=>?_⟩
  have ntl:t≠l:=be aS hl
  refine⟨by rw[aR ntl,aS],[(Sum.inr ("cells" : Str),V.ref l),(Sum.inr ("spot" : Str),V.int 0),(Sum.inr ("left" : Str),V.int 0)],rfl,(by show 3<=15;decide),?_⟩
  rw[tO]
  have fin:=k t l ht (s0.free hl) ntl
  have eq:upd (upd (upd H t (.dK [])) l (.lst (cutV (ns.map V.int) none (some 63)))) t (.dK (cL l 0 0))=upd (upd H l (.lst ((ns.take 63).map V.int))) t (.dK (cL l 0 0)):=by
   rw[Bx]
   funext b
   unfold upd
   by_cases h1:b=t
   ·rw[if_pos h1,if_pos h1]
   ·rw[if_neg h1,if_neg h1,if_neg h1]
  rw[eq]
  exact fin
theorem pS (D:DefN K mg "_law_draw" gW ["_law_tape_here", "_law_many"])(B:BI mg):OkN P w K mg base 1 "_law_draw" ["_law_tape_here", "_law_many"] (spA K zH):=by
 refine OkN.imp (sp:=t4 K) ?_ zm
 refine D.ok cY (λvs H Q E h=>?_) (λf cdv A outer s H vs Q E hr h=>?_)
 ·obtain⟨t,c,m,sp,lf,ns,n,rfl,_⟩:=h
  rfl
 ·obtain⟨t,c,m,sp,lf,ns,n,rfl,hT,hC,h1,h2,h3,hn,hm,k⟩:=h
  have hu:=cz hr
  have hm0:=hm.1
  have gl:DGet H t (kV (Sum.inr "left")) (some (.int lf)):=by rw[<- tP (c:=c) (sp:=sp)];exact DGet.k hT
  have gs:DGet H t (kV (Sum.inr "spot")) (some (.int sp)):=by rw[<- tN (c:=c) (lf:=lf)];exact DGet.k hT
  have gc:DGet H t (kV (Sum.inr "cells")) (some (.ref c)):=by rw[<- lC (sp:=sp) (lf:=lf)];exact DGet.k hT
  refine⟨_,(ao (dq (a_ wH (kj hu (pv 0) eJ (λ_ _=>rfl)) aJ (bL _))
   (ao (bj (i:=2) cY.nd rfl (by first | exact Or.inl rfl | exact Or.inr rfl) (bh kr (kj hu (pv 0) eJ (λ_ _=>rfl)) (pv 1)))
   (ao (ke hu (pv 0) eJ (bh mG (kj hu (pv 0) eJ (λ_ _=>rfl)) (pv 1)) rfl)
   (aI (aZ (pv 2)))))
   bx)
   (ao (bj (i:=3) cY.nd rfl (by first | exact Or.inl rfl | exact Or.inr rfl) (kj hu (pv 0) eJ (λ_ _=>rfl)))
   (ao (ke hu (pv 0) eJ (bh fq (pv 3) aJ) rfl)
   (ao (bj (i:=4) cY.nd rfl (by first | exact Or.inl rfl | exact Or.inr rfl) (kj hu (pv 0) eJ (λ_ _=>rfl)))
   (ao (bj (i:=5) cY.nd rfl (by first | exact Or.inl rfl | exact Or.inr rfl) aJ)
   (ao (dq (a_ wH (bE (cg K) rfl B.len_ fA (ah (pv 4) aA)) aJ (bL _))
   (aI (bj (i:=5) cY.nd rfl (by first | exact Or.inl rfl | exact Or.inr rfl) (bW (aT K) (pv 4) (bh kr (pv 3) (bE (cg K) rfl B.len_ fA (ah (pv 4) aA))) (λ_ _=>rfl))))
   bx)
   (ao (dq (PW.pt (jA (a_ yI (pv 5) (bh uq aJ aJ) (bL _)) (gq (a_ yH (pv 3) (bE (cg K) rfl B.len_ fA (ah (pv 4) aA)) (bL _)))))
   (ao (ke hu (pv 0) eJ (bh mG (bh iN (pv 5) (bh uq aJ aJ)) (pv 1)) rfl)
   (aI (aZ (bh kr (bh iN (pv 5) (bh uq aJ aJ)) (pv 1)))))
   bx)
   (ao (bj (i:=6) cY.nd rfl (by first | exact Or.inl rfl | exact Or.inr rfl) (bh kr (bh nR (bh fq (bh fq (bh fq (bh kr (pv 5) aJ) (bh nR (bh nR aJ (pv 3)) (pv 3))) (bh nR aJ (pv 3))) aJ) aJ) aJ))
   (aI (aZ (bh kr (bh mG (bh kr (bh nR (pv 6) (bh fq (pv 6) aJ)) aJ) aJ) (pv 1)))))))))))),?_⟩
  refine⟨_,rfl,t,_,rfl,gl,_,_,rfl,rfl,_,rfl,ite2 (λhl=>?_) λhl=>?_⟩
  ·refine⟨_,rfl,t,_,rfl,gl,_,rfl,_,_,rfl,rfl,hm0,?_⟩
   refine⟨_,rfl,t,_,rfl,gl,_,rfl,_,_,rfl,rfl,hm,_,rfl,t,_,rfl,DPut.k (k:=Sum.inr "left") hT (ff (by show 3<=1000;decide)),_,rfl,?_⟩
   rw[mz]
   exact drawn (Q:=λz H=>Q (.int z) H) hm0 λr hr=>k r _ _ hr h1 (by omega) (Hi h3 (GP hm0))
  ·refine⟨_,rfl,t,_,rfl,gs,?_⟩
   refine⟨_,rfl,_,_,rfl,rfl,_,rfl,t,_,rfl,DPut.k (k:=Sum.inr "spot") hT (ff (by show 3<=1000;decide)),?_⟩
   rw[wq]
   have hT1:(upd H t (.dK (cL c (sp+1) lf))) t=some (.dK (cL c (sp+1) lf)):=aS
   have hC1:SqL K (upd H t (.dK (cL c (sp+1) lf))) c (ns.map V.int):=Grow.seq (Grow.refl.upd _) hT hC
   have gr1:Grow t H (upd H t (.dK (cL c (sp+1) lf))):=Grow.refl.upd _
   have gc1:DGet (upd H t (.dK (cL c (sp+1) lf))) t (kV (Sum.inr "cells")) (some (.ref c)):=by rw[<- lC (sp:=sp+1) (lf:=lf)];exact DGet.k hT1
   have kk:∀(r:Nat) (lf':Int),(r:Int)<m->0<=lf'->Q (.int (r:Nat)) (upd (upd H t (.dK (cL c (sp+1) lf))) t (.dK (cL c (sp+1) lf'))):=λr lf' hr hl=>by rw[jf];exact k r _ _ hr (by omega) (by omega) hl
   have kl:∀(r:Nat),(r:Int)<m->Q (.int (r:Nat)) (upd H t (.dK (cL c (sp+1) lf))):=λr hr=>k r _ _ hr (by omega) (by omega) h3
   generalize upd H t (.dK (cL c (sp+1) lf))=H1 at hT1 hC1 gr1 gc1 kk kl ⊢
   refine⟨_,rfl,t,_,rfl,gc1,?_⟩
   have p18:(10:Int)^(18:Int).toNat=1000000000000000000:=by decide
   have fits:CPow 10 18:=⟨by decide,by decide,by decide⟩
   have pos1:(0:Int)<2147483629:=by decide
   have pos2:(0:Int)<2147483647:=by decide
   have spOk:-(2^64)<sp/\sp<2^64:=by omega
   refine⟨_,rfl,c,_,rfl,.inl hC1,_,_,rfl,rfl,_,rfl,ite2 (λhl=>?_) λhl=>?_⟩
   ·have hl':0<ns.length:=by
     have:=of_decide_eq_true hl
     rw[f8]at this
     omega
    have el:((ns.map V.int).length:Int)=ns.length:=by rw[f8]
    have hb0:0<=sp % ((ns.map V.int).length:Int):=JC _ (by omega)
    have hb1:sp % ((ns.map V.int).length:Int)<((ns.map V.int).length:Int):=I_ _ (by omega)
    obtain⟨j,hj⟩:=CW hb0
    have hj':j<ns.length:=by rw[hj]at hb1;omega
    refine⟨_,rfl,_,rfl,_,rfl,c,_,rfl,.inl hC1,_,_,rfl,rfl,(by show(0:Int)<((ns.map V.int).length:Int);omega),.inl ⟨c,_,_,V.int ns[j],rfl,rfl,hC1,?_,?_⟩⟩
    ·rw[hj]
     exact eQ (by simp[hj'])
    ·generalize ns[j]=z
     refine⟨_,rfl,_,_,rfl,rfl,fits,_,_,rfl,rfl,_,rfl,ite2 (λhz=>?_) λhz=>?_⟩
     ·refine⟨_,rfl,_,rfl,c,_,rfl,.inl hC1,_,_,rfl,rfl,_,rfl,ite2 (λhs=>?_) λhs=>?_⟩
      ·refine⟨_,rfl,_,_,rfl,rfl,fits,_,_,rfl,rfl,_,rfl,_,_,rfl,rfl,hm,_,rfl,t,_,rfl,DPut.k (k:=Sum.inr "left") hT1 (ff (by show 3<=1000;decide)),?_⟩
       rw[mz]
       refine⟨_,rfl,_,_,rfl,rfl,fits,_,_,rfl,rfl,_,rfl,_,_,rfl,rfl,hm0,?_⟩
       refine drawn (Q:=λz H=>Q (.int z) H) hm0 λr hr=>kk r _ hr (Hi ?_ (GP hm0))
       have hz':=of_decide_eq_true hz
       rw[p18]at hz' ⊢
       omega
      ·refine⟨_,rfl,_,_,rfl,rfl,pos1,_,rfl,_,_,rfl,rfl,.inl ⟨by decide,by decide⟩,_,rfl,_,_,rfl,rfl,.inr spOk,_,_,rfl,rfl,_,rfl,_,_,rfl,rfl,.inl ⟨by decide,by decide⟩,_,_,rfl,rfl,_,_,rfl,rfl,_,_,rfl,rfl,.inr ⟨by decide,by decide⟩,_,_,rfl,rfl,pos2,?_⟩
       refine⟨_,rfl,_,rfl,_,_,rfl,rfl,_,_,rfl,rfl,.inl qU,_,_,rfl,rfl,pos1,_,_,rfl,rfl,dv64,_,rfl,_,_,rfl,rfl,hm0,?_⟩
       exact drawn (Q:=λz H=>Q (.int z) H) hm0 λr hr=>kl r hr
     ·refine⟨_,rfl,_,_,rfl,rfl,pos1,_,rfl,_,_,rfl,rfl,.inl ⟨by decide,by decide⟩,_,rfl,_,_,rfl,rfl,.inr spOk,_,_,rfl,rfl,_,rfl,_,_,rfl,rfl,.inl ⟨by decide,by decide⟩,_,_,rfl,rfl,_,_,rfl,rfl,_,_,rfl,rfl,.inr ⟨by decide,by decide⟩,_,_,rfl,rfl,pos2,?_⟩
      refine⟨_,rfl,_,rfl,_,_,rfl,rfl,_,_,rfl,rfl,.inl qU,_,_,rfl,rfl,pos1,_,_,rfl,rfl,dv64,_,rfl,_,_,rfl,rfl,hm0,?_⟩
      exact drawn (Q:=λz H=>Q (.int z) H) hm0 λr hr=>kl r hr
   ·refine⟨_,rfl,_,_,rfl,rfl,fits,_,_,rfl,rfl,_,rfl,ite2 (λhz=>?_) λhz=>?_⟩
    ·refine⟨_,rfl,_,rfl,c,_,rfl,.inl hC1,_,_,rfl,rfl,_,rfl,ite2 (λhs=>?_) λhs=>?_⟩
     ·refine⟨_,rfl,_,_,rfl,rfl,fits,_,_,rfl,rfl,_,rfl,_,_,rfl,rfl,hm,_,rfl,t,_,rfl,DPut.k (k:=Sum.inr "left") hT1 (ff (by show 3<=1000;decide)),?_⟩
      rw[mz]
      refine⟨_,rfl,_,_,rfl,rfl,fits,_,_,rfl,rfl,_,rfl,_,_,rfl,rfl,hm0,?_⟩
      refine drawn (Q:=λz H=>Q (.int z) H) hm0 λr hr=>kk r _ hr (Hi ?_ (GP hm0))
      have hz':=of_decide_eq_true hz
      rw[p18]at hz' ⊢
      omega
     ·refine⟨_,rfl,_,_,rfl,rfl,pos1,_,rfl,_,_,rfl,rfl,.inl ⟨by decide,by decide⟩,_,rfl,_,_,rfl,rfl,.inr spOk,_,_,rfl,rfl,_,rfl,_,_,rfl,rfl,.inl ⟨by decide,by decide⟩,_,_,rfl,rfl,_,_,rfl,rfl,_,_,rfl,rfl,.inr ⟨by decide,by decide⟩,_,_,rfl,rfl,pos2,?_⟩
      refine⟨_,rfl,_,rfl,_,_,rfl,rfl,_,_,rfl,rfl,.inl qU,_,_,rfl,rfl,pos1,_,_,rfl,rfl,dv64,_,rfl,_,_,rfl,rfl,hm0,?_⟩
      exact drawn (Q:=λz H=>Q (.int z) H) hm0 λr hr=>kl r hr
    ·refine⟨_,rfl,_,_,rfl,rfl,pos1,_,rfl,_,_,rfl,rfl,.inl ⟨by decide,by decide⟩,_,rfl,_,_,rfl,rfl,.inr spOk,_,_,rfl,rfl,_,rfl,_,_,rfl,rfl,.inl ⟨by decide,by decide⟩,_,_,rfl,rfl,_,_,rfl,rfl,_,_,rfl,rfl,.inr ⟨by decide,by decide⟩,_,_,rfl,rfl,pos2,?_⟩
     refine⟨_,rfl,_,rfl,_,_,rfl,rfl,_,_,rfl,rfl,.inl qU,_,_,rfl,rfl,pos1,_,_,rfl,rfl,dv64,_,rfl,_,_,rfl,rfl,hm0,?_⟩
     exact drawn (Q:=λz H=>Q (.int z) H) hm0 λr hr=>kl r hr
end
end K83
set_option maxHeartbeats 1000000
namespace K83
open PySem PySem.Spec PyProof.Rows L2
theorem wZ (n:Nat)(xs:List Nat):inD (nD n) (ar xs)=xs.contains n:=by
 unfold inD ar
 rw[GF]
 induction xs with
 | nil=>rfl
 | cons x xs ih =>
  rw[Dt,List.contains_cons,ih]
  congr 1
  show eqD (nD x) (nD n)=(n==x)
  unfold eqD
  show decide ((x:Int)=(n:Int))=(n==x)
  by_cases h:n=x
  ·subst h;simp
  ·have:¬((x:Int)=(n:Int)):=by omega
   simp[h,this]
theorem iX {neg:Bool}{r2:R}{ρ:En}{q:Ko}{xs:List Nat}{n:Nat}(hv:view ρ r2=some (.lst (ar xs)))(hq:q (.d (.bl (if neg then !xs.contains n else xs.contains n))) ρ):gIn neg (.d (nD n)) r2 ρ q:=by
 unfold gIn
 have e1:view ρ (.d (nD n))=some (nD n):=rfl
 rw[e1,hv]
 refine⟨⟨rfl,DG.mpr λd hd=>?_⟩,?_⟩
 ·obtain⟨x,_,rfl⟩:=Cn.mp hd;rfl
 ·rw[wZ];exact hq
theorem bo (xs:List Nat):(ar xs).length=xs.length:=by unfold ar;rw[f8]
theorem j8 {xs:List Nat}(h:xs.Pairwise (· < ·)):(xs.map λr=>((r:Nat):Int)).Pairwise (· < ·):=I0.mpr (h.imp λh=>by omega)
section
variable {n:Nat}{js:List Nat}{c:En->Prop}{g:AG}{tc:AT}{te:AE}{q:List D->En->Prop}
theorem cR {α:Type}(h:α->D)(p:α->Bool)(f:α->D){xs:List α}{ρ:En}(hc:c ρ)(hs:∀x acc (N:List D->En->Prop),x∈xs->N (if p x=true then acc++[f x]else acc) ρ->yb n js g tc te ρ (h x) acc N)
  (hd:q ((xs.filter p).map f) ρ):fS n js c g tc te q (xs.map h) [] ρ:=by
 refine i8 (λk acc ρ'=>ρ'=ρ/\acc=((xs.take k).filter p).map f) (λk acc ρ' _ h=>h.1▸hc) ?_ ?_ ρ ⟨rfl,rfl⟩
 ·rintro k d acc _ N hk ⟨rfl,rfl⟩ hN
  rw[wn]at hk
  obtain⟨x,e1,rfl⟩:=BR.mp hk
  refine hs x _ N (Cb e1) (hN _ _ ⟨rfl,?_⟩)
  rw[CD,e1,DF,Fg,B7]
  cases hp:p x <;> simp[hp]
 ·rintro acc _ ⟨rfl,rfl⟩
  rw[f8,Cf];exact hd
end
structure Cs where
 W:List Nat
 cl:Bool
 kn:List Nat
 sh:List Nat
 lf:Nat
def obC (C:Addr)(c:Cs):Sv:=.ob C [("wished",.tup (ar c.W)),("clean",.bl c.cl),("known",.lst (ar c.kn)),("shut",.lst (ar c.sh)),("left",.int (c.lf:Nat))]
structure CsOk (c:Cs):Prop where
 w24:c.W.length<=24
 w:∀r∈c.W,1<=r/\r<64
 k:∀r∈c.kn,1<=r/\r<64
 kd:c.kn.Nodup
 sl:c.sh.length+64*c.lf<=704
 s:∀r∈c.sh,r<64
 l:c.lf<=11
def bt (W K:List Nat):List Nat:=(sK 64).filter λr=>W.contains r && !K.contains r
def mayN (c:Bool)(x y:Nat):Bool:=!c||decide (x &&& y=0)
def b8 (c:Bool)(K:List Nat)(r:Nat):Bool:=K.any λa=>K.any λb=>decide (a≠b)&&mayN c a b&&decide (a ^^^ b=r)
def bT (c:Bool)(K S:List Nat):List Nat:=(sK 64).filter λr=>b8 c K r && !K.contains r && !S.contains r
inductive Rch (c:Bool) (K:List Nat):Nat->Nat->Prop
 | nil:Rch c K 0 0
 | add {n t p:Nat} (h:Rch c K n t) (hp:p∈K) (hm:mayN c t p=true):Rch c K (n+1) (t ^^^ p)
open Classical in
noncomputable def farN (c:Bool)(K:List Nat)(l r:Nat):Bool:=decide (¬ ∃n,n<=l+1/\Rch c K n r)
def bR (m:Nat)(rs:List Nat):D:=.tup [nD m,.tup (ar rs)]
def SMay:ASp:=λss q=>∃(c:Bool) (x y:Nat),ss=[.vl (.bl c),nv x,nv y]/\q (.d (.bl (mayN c x y))) [.vl (.bl c),nv x,nv y]
def xv (C:Addr):ASp:=λss q=>∃(c:Cs) (r:Nat) (s:List Nat),ss=[obC C c,nv r,.vl (.lst (ar s))]/\c.kn.length<=1000/\1<=c.lf/\q (.x (obC C ⟨c.W,c.cl,c.kn++[r],s,c.lf - 1⟩)) [obC C c,nv r,.vl (.lst (ar s))]
def xw (C:Addr):ASp:=λss q=>∃c:Cs,ss=[obC C c]/\CsOk c/\q (.f (ar (bt c.W c.kn))) [obC C c]
def vJ (C:Addr):ASp:=λss q=>∃c:Cs,ss=[obC C c]/\CsOk c/\q (.d (.bl (decide (c.lf<(bt c.W c.kn).length)))) [obC C c]
def zG (C:Addr):ASp:=λss q=>∃c:Cs,ss=[obC C c]/\CsOk c/\q (.f (ar (bT c.cl c.kn c.sh))) [obC C c]
def SFar (C:Addr):ASp:=λss q=>∃(c:Cs) (r:Nat),ss=[obC C c,nv r]/\CsOk c/\r<64/\q (.d (.bl (farN c.cl c.kn c.lf r))) [obC C c,nv r]
def vL (C:Addr):ASp:=λss q=>∃(m:Nat) (W:List Nat) (cl:Bool) (l:Nat),ss=[.vl (bR m W),.vl (.bl cl),nv l]/\m<=12/\q (.x (obC C ⟨W,cl,az m,[],l⟩)) [.vl (bR m W),.vl (.bl cl),nv l]
theorem CsOk.kl {c:Cs}(h:CsOk c):c.kn.length<=63:=by
 have:=Cu h.kd (l₂:=(sK 63).map (· + 1)) λx hx=>by
  have:=h.k x hx
  exact Cn.mpr ⟨x - 1,B9.mpr (by omega),by omega⟩
 rwa [f8,C5]at this
def pD (p:Nat×Nat):D:=.tup [nD p.1,nD p.2]
def prU (K:List Nat)(n:Nat):List (Nat×Nat):=(sK n).flatMap λi=>(K.take i).map λb=>(K.getD i 0,b)
def prN (K:List Nat):List (Nat×Nat):=prU K K.length
theorem rh (K:List Nat)(n:Nat):prU K (n+1)=prU K n++(K.take n).map λb=>(K.getD n 0,b):=by
 unfold prU
 rw[DC,E4,Fm,GS,B5]
theorem pI (K:List Nat):∀n,(prU K n).length<=n*K.length
 | 0=>by simp[prU]
 | n+1=>by
  rw[rh,wS,f8,B0,Kq]
  have:=pI K n
  omega
theorem yw (K:List Nat):(prN K).length<=K.length*K.length:=pI K _
theorem pJ {K:List Nat}{a b:Nat}:(a,b)∈prN K↔∃i,i<K.length/\K.getD i 0=a/\b∈K.take i:=by
 unfold prN prU
 rw[GR]
 constructor
 ·rintro⟨i,hi,h⟩
  obtain⟨x,hx,e⟩:=Cn.mp h
  injection e with e1 e2
  subst e2
  exact⟨i,B9.mp hi,e1,hx⟩
 ·rintro⟨i,hi,rfl,h⟩
  exact⟨i,B9.mpr hi,Cn.mpr ⟨b,h,rfl⟩⟩
theorem eW {K:List Nat}{i:Nat}(h:i<K.length):K.getD i 0∈K:=by
 rw[kt,bv h];exact DX h
theorem jR {K:List Nat}{x:Nat}(h:x∈K):∃i,i<K.length/\K.getD i 0=x:=by
 obtain⟨i,hi,e⟩:=C3 h
 exact⟨i,hi,by rw[kt,bv hi];exact e⟩
theorem dG {K:List Nat}{i:Nat}{x:Nat}:x∈K.take i↔∃j,j<i/\j<K.length/\K.getD j 0=x:=by
 constructor
 ·intro h
  obtain⟨j,hj,e⟩:=C3 h
  rw[B0]at hj
  refine⟨j,by omega,by omega,?_⟩
  rw[kt,bv (by omega)]
  rw[GC]at e
  exact e
 ·rintro⟨j,h1,h2,rfl⟩
  rw[kt,bv h2]
  exact List.mem_take_iff_getElem.mpr ⟨j,by omega,rfl⟩
theorem mW {K:List Nat}(nd:K.Nodup){i j:Nat}(hi:i<K.length)(hj:j<K.length)(e:K.getD i 0=K.getD j 0):i=j:=by
 rw[kt,kt,bv hi,bv hj]at e
 rcases Dj i j with h | h | h
 ·exact absurd e (DP.mp nd i j hi hj h)
 ·exact h
 ·exact absurd e.symm (DP.mp nd j i hj hi h)
theorem og (c:Bool)(a b:Nat):mayN c a b=mayN c b a:=by unfold mayN;rw[GO]
theorem cq {c:Bool}{K:List Nat}{r:Nat}:b8 c K r=true↔∃a∈K,∃b∈K,a≠b/\mayN c a b=true/\a ^^^ b=r:=by
 unfold b8
 rw[Ds]
 refine exists_congr λa=>and_congr Hr ?_
 rw[Ds]
 refine exists_congr λb=>and_congr Hr ?_
 rw[BP,BP,decide_eq_true_eq,decide_eq_true_eq,and_assoc]
theorem yO {c:Bool}{K:List Nat}(nd:K.Nodup){r:Nat}:b8 c K r=true↔∃p∈prN K,mayN c p.1 p.2=true/\p.1 ^^^ p.2=r:=by
 rw[cq]
 constructor
 ·rintro⟨a,ha,b,hb,ne,hm,rfl⟩
  obtain⟨i,hi,rfl⟩:=jR ha
  obtain⟨j,hj,rfl⟩:=jR hb
  rcases Dj i j with h | h | h
  ·exact⟨(K.getD j 0,K.getD i 0),pJ.mpr ⟨j,hj,rfl,dG.mpr ⟨i,h,hi,rfl⟩⟩,by rw[og];exact hm,DU _ _⟩
  ·subst h;exact absurd rfl ne
  ·exact⟨(K.getD i 0,K.getD j 0),pJ.mpr ⟨i,hi,rfl,dG.mpr ⟨j,h,hj,rfl⟩⟩,hm,rfl⟩
 ·rintro⟨⟨a,b⟩,hp,hm,rfl⟩
  obtain⟨i,hi,rfl,hb⟩:=pJ.mp hp
  obtain⟨j,h1,h2,rfl⟩:=dG.mp hb
  exact⟨_,eW hi,_,eW h2,λe=>by have:=mW nd hi h2 e;omega,hm,rfl⟩
theorem wa {F ys:List Nat}{ns':List Int}(pm:ns'.Perm (F.map λr=>((r:Nat):Int)))(up:ns'.Pairwise (· <= ·))(nd:F.Nodup)(hy:ys.Pairwise (· < ·))(hm:∀x,x∈F↔x∈ys):ns'=ys.map λr=>((r:Nat):Int):=by
 have h1:ns'.Perm (ys.map λr=>((r:Nat):Int)):=pm.trans (List.Perm.map _ ((List.perm_ext_iff_of_nodup nd (hy.imp λh=>by omega)).mpr hm))
 exact List.Perm.eq_of_pairwise (le:=λa b=>a<=b) (λa b _ _ h1 h2=>Int.le_antisymm h1 h2) up ((j8 hy).imp λh=>by omega) h1
theorem zh {F:List Nat}(nd:F.Nodup)(h:∀r∈F,1<=r/\r<64):F.length<64:=by
 have:=Cu nd (l₂:=(sK 63).map (· + 1)) λx hx=>by
  have:=h x hx
  exact Cn.mpr ⟨x - 1,B9.mpr (by omega),by omega⟩
 rw[f8,C5]at this
 omega
theorem x8 {a b:Nat}(ha:a<64)(hb:b<64):a ^^^ b<64:=IZ (n:=6) ha hb
theorem sY {a b:Nat}(h:a≠b):1<=a ^^^ b:=Gs λe=>h (by
 have:=congrArg (λt=>t ^^^ b) e
 simp only[Em,Fd,Fc,Ig]at this
 exact this)
def insM (M:List Nat)(x:Nat):List Nat:=if x∈M then M else M++[x]
theorem rF {M:List Nat}{x y:Nat}:y∈insM M x↔y∈M∨y=x:=by
 unfold insM
 split
 ·rename_i h
  exact⟨.inl,λz=>z.elim id λe=>e▸h⟩
 ·rw[BO,wv]
theorem uV {M:List Nat}{x:Nat}(h:M.Nodup):(insM M x).Nodup:=by
 unfold insM
 split
 ·exact h
 ·rename_i hx
  exact C4.mpr ⟨h,by simp,λa ha b hb e=>hx (by rw[wv.mp hb]at e;exact e▸ha)⟩
theorem eM {c:Bool}{K:List Nat}(hk:∀r∈K,1<=r/\r<64){r:Nat}(h:b8 c K r=true):1<=r/\r<64:=by
 obtain⟨a,ha,b,hb,ne,_,rfl⟩:=cq.mp h
 exact⟨sY ne,x8 (hk a ha).2 (hk b hb).2⟩
theorem cE {c:Bool}{K S:List Nat}(hk:∀r∈K,1<=r/\r<64){r:Nat}:r∈bT c K S↔b8 c K r=true/\r∉K/\r∉S:=by
 unfold bT
 rw[AC,B9,BP,BP,CL,CL,<- CQ,<- CQ,o0,o0,and_assoc]
 exact⟨λh=>h.2,λh=>⟨(eM hk h.1).2,h⟩⟩
theorem rJ (c:Bool)(K S:List Nat):(bT c K S).Pairwise (· < ·):=D3 _ Dg
theorem wW (W K:List Nat):(bt W K).Pairwise (· < ·):=D3 _ Dg
theorem eP {W K:List Nat}(hw:∀r∈W,1<=r/\r<64){r:Nat}:r∈bt W K↔r∈W/\r∉K:=by
 unfold bt
 rw[AC,B9,BP,CL,<- CQ,o0,o0]
 exact⟨λh=>h.2,λh=>⟨(hw r h.1).2,h⟩⟩
theorem yv {c:Bool}{K:List Nat}(hk:∀r∈K,1<=r/\r<64){n r:Nat}(h:Rch c K n r):r<64:=by
 induction h with
 | nil=>decide
 | add h hp hm ih=>exact x8 ih (hk _ hp).2
theorem yu {c:Bool}{K:List Nat}{n x:Nat}(h:Rch c K (n+1) x):∃t p,Rch c K n t/\p∈K/\mayN c t p=true/\x=t ^^^ p:=by
 cases h with
 | add h hp hm=>exact⟨_,_,h,hp,hm,rfl⟩
def sumN (c:Bool)(K N:List Nat):List Nat:=N.flatMap λt=>(K.filter (mayN c t)).map λp=>t ^^^ p
theorem qR {c:Bool}{K N:List Nat}{x:Nat}:x∈sumN c K N↔∃t∈N,∃p∈K,mayN c t p=true/\t ^^^ p=x:=by
 unfold sumN
 rw[GR]
 refine exists_congr λt=>and_congr Hr ?_
 rw[Cn]
 refine exists_congr λp=>?_
 rw[AC,and_assoc]
structure Lev (c:Bool)(K:List Nat)(k:Nat)(M N:List Nat):Prop where
 m:∀x,x∈M↔∃n,n<=k/\Rch c K n x
 n:∀x,x∈N↔Rch c K k x/\∀n,n<k->¬Rch c K n x
 nd:N.Nodup
 up:k=0->N=[0]
theorem Lev.new {c:Bool}{K:List Nat}{k:Nat}{M N:List Nat}(L:Lev c K k M N){x:Nat}(hx:x∉M):x∈sumN c K N↔Rch c K (k+1) x:=by
 rw[qR]
 constructor
 ·rintro⟨t,ht,p,hp,hm,rfl⟩
  exact .add ((L.n t).mp ht).1 hp hm
 ·intro h
  obtain⟨t,p,h1,hp,hm,rfl⟩:=yu h
  refine⟨t,(L.n t).mpr ⟨h1,λn hn h2=>hx ((L.m _).mpr ⟨n+1,by omega,.add h2 hp hm⟩)⟩,p,hp,hm,rfl⟩
theorem Lev.next {c:Bool}{K:List Nat}{k:Nat}{M N N' M':List Nat}(L:Lev c K k M N)(hn:∀x,x∈N'↔x∈sumN c K N/\x∉M)(hm:∀x,x∈M'↔x∈M∨x∈N')(nd:N'.Nodup):Lev c K (k+1) M' N':=by
 have key:∀x,x∈N'↔Rch c K (k+1) x/\∀n,n<k+1->¬Rch c K n x:=λx=>by
  rw[hn]
  constructor
  ·rintro⟨h1,h2⟩
   exact⟨(L.new h2).mp h1,λn hn h=>h2 ((L.m x).mpr ⟨n,by omega,h⟩)⟩
  ·rintro⟨h1,h2⟩
   have h3:x∉M:=λh=>by
    obtain⟨n,hn,h⟩:=(L.m x).mp h
    exact h2 n (by omega) h
   exact⟨(L.new h3).mpr h1,h3⟩
 refine⟨λx=>?_,key,nd,λe=>by omega⟩
 rw[hm,L.m,key]
 constructor
 ·rintro(⟨n,h1,h2⟩ | ⟨h1,_⟩)
  ·exact⟨n,by omega,h2⟩
  ·exact⟨k+1,li _,h1⟩
 ·rintro⟨n,h1,h2⟩
  by_cases z:∃n,n<=k/\Rch c K n x
  ·exact .inl z
  ·have:n=k+1:=by
    rcases BW k n with q | q
    ·omega
    ·exact absurd ⟨n,q,h2⟩ z
   subst this
   exact .inr ⟨h2,λn hn h=>z ⟨n,by omega,h⟩⟩
theorem Lev.start {c:Bool}{K:List Nat}:Lev c K 0 [0] [0]:=by
 have h0:∀x,Rch c K 0 x↔x=0:=λx=>⟨λh=>by cases h;rfl,λe=>by rw[e];exact .nil⟩
 refine⟨λx=>?_,λx=>?_,by simp,λ_=>rfl⟩
 ·rw[wv]
  exact⟨λe=>⟨0,li _,(h0 x).mpr e⟩,λ⟨n,hn,h⟩=>by
   have e:n=0:=by omega
   subst e
   exact(h0 x).mp h⟩
 ·rw[wv,h0]
  exact⟨λe=>⟨e,λn hn=>by omega⟩,λh=>h.1⟩
theorem Lev.lt {c:Bool}{K:List Nat}{k:Nat}{M N:List Nat}(L:Lev c K k M N)(hk:∀r∈K,1<=r/\r<64):N.length<64:=by
 by_cases z:k=0
 ·rw[L.up z];decide
 ·refine zh L.nd λr hr=>?_
  obtain⟨h1,h2⟩:=(L.n r).mp hr
  exact⟨Gs λe=>h2 0 (by omega) (by rw[e];exact .nil),yv hk h1⟩
theorem mj (c:Bool)(K:List Nat):∀N:List Nat,(sumN c K N).length<=N.length*K.length
 | []=>by simp[sumN]
 | t::N=>by
  have:=mj c K N
  unfold sumN at this ⊢
  rw[Fm,wS,f8,At,Kq]
  have:=CH (mayN c t) K
  omega
theorem vc (N:List Nat):∀M:List Nat,M.Nodup->(N.foldl insM M).Nodup/\∀x,x∈N.foldl insM M↔x∈M∨x∈N:=by
 induction N with
 | nil=>intro M h;exact⟨h,λx=>by simp⟩
 | cons n N ih =>
  intro M h
  obtain⟨a,b⟩:=ih (insM M n) (uV h)
  refine⟨a,λx=>?_⟩
  rw[D7,b x,rF,sB,or_assoc]
theorem rL {c:Bool}{K:List Nat}{l r:Nat}:farN c K l r=true↔¬ ∃n,n<=l+1/\Rch c K n r:=by classical unfold farN;exact decide_eq_true_iff
theorem zi {c:Bool}{K:List Nat}{l r:Nat}{b:Bool}(h:b=true↔∃n,n<=l+1/\Rch c K n r):farN c K l r = !b:=by
 rw[D8,rL,<- h]
 cases b <;> simp
def Pap (W:List Nat)(cl:Bool):Nat->List Nat->List Nat->D->Prop
 | 0,kn,sh,d=>(d = .tup [.str "rows"]/\0<(bt W kn).length)∨(∃r,d = .tup [.str "far",nD r]/\r∈bt W kn/\farN cl kn 0 r=true)
 | l+1,kn,sh,d=>(d = .tup [.str "rows"]/\l+1<(bt W kn).length)∨(∃r,d = .tup [.str "far",nD r]/\r∈bt W kn/\farN cl kn (l+1) r=true) ∨
  (∃r p,d = .tup [.str "made",nD r,p]/\r∈bt W kn/\r∈bT cl kn sh/\Pap W cl l (kn++[r]) sh p) ∨
  (∃ps,d = .tup [.str "next",.tup ps]/\bt W kn≠[]/\ps.length=(bT cl kn sh).length/\∀i,i<ps.length->Pap W cl l (kn++[(bT cl kn sh).getD i 0]) (sh++(bT cl kn sh).take i) (ps.getD i .non))
open Classical in
noncomputable def yV (c:Cs)(r p:D):Bool:=decide (∃n,r=nD n/\1<=c.lf/\n∈bt c.W c.kn/\n∈bT c.cl c.kn c.sh/\Pap c.W c.cl (c.lf - 1) (c.kn++[n]) c.sh p)
theorem kG {c:Cs}{r p:D}:yV c r p=true↔∃n,r=nD n/\1<=c.lf/\n∈bt c.W c.kn/\n∈bT c.cl c.kn c.sh/\Pap c.W c.cl (c.lf - 1) (c.kn++[n]) c.sh p:=by classical unfold yV;exact decide_eq_true_iff
open Classical in
noncomputable def yP (c:Cs)(d:D):Bool:=decide (∃ps,d = .tup ps/\1<=c.lf/\bt c.W c.kn≠[]/\ps.length=(bT c.cl c.kn c.sh).length/\∀i,i<ps.length->Pap c.W c.cl (c.lf - 1) (c.kn++[(bT c.cl c.kn c.sh).getD i 0]) (c.sh++(bT c.cl c.kn c.sh).take i) (ps.getD i .non))
theorem kE {c:Cs}{d:D}:yP c d=true↔∃ps,d = .tup ps/\1<=c.lf/\bt c.W c.kn≠[]/\ps.length=(bT c.cl c.kn c.sh).length/\∀i,i<ps.length->Pap c.W c.cl (c.lf - 1) (c.kn++[(bT c.cl c.kn c.sh).getD i 0]) (c.sh++(bT c.cl c.kn c.sh).take i) (ps.getD i .non):=by classical unfold yP;exact decide_eq_true_iff
theorem uo {c:Cs}{d:D}:Pap c.W c.cl c.lf c.kn c.sh d↔(d = .tup [.str "rows"]/\c.lf<(bt c.W c.kn).length)∨(∃r,d = .tup [.str "far",nD r]/\r∈bt c.W c.kn/\farN c.cl c.kn c.lf r=true)∨(∃r p,d = .tup [.str "made",r,p]/\yV c r p=true) ∨ ∃p,d = .tup [.str "next",p]/\yP c p=true:=by
 obtain⟨W,cl,kn,sh,lf⟩:=c
 cases lf with
 | zero =>
  unfold Pap
  constructor
  ·rintro(h | h)
   ·exact .inl h
   ·exact .inr (.inl h)
  ·rintro(h | h | ⟨r,p,rfl,h⟩ | ⟨p,rfl,h⟩)
   ·exact .inl h
   ·exact .inr h
   ·obtain⟨n,_,h1,_⟩:=kG.mp h
    exact absurd h1 (Iy 0)
   ·obtain⟨n,_,h1,_⟩:=kE.mp h
    exact absurd h1 (Iy 0)
 | succ l =>
  unfold Pap
  refine or_congr Hr (or_congr Hr (or_congr ?_ ?_))
  ·constructor
   ·rintro⟨r,p,rfl,h1,h2,h3⟩
    exact⟨_,_,rfl,kG.mpr ⟨r,rfl,Jl (zn _),h1,h2,h3⟩⟩
   ·rintro⟨r,p,rfl,h⟩
    obtain⟨n,rfl,_,h1,h2,h3⟩:=kG.mp h
    exact⟨n,p,rfl,h1,h2,h3⟩
  ·constructor
   ·rintro⟨ps,rfl,h1,h2,h3⟩
    exact⟨_,rfl,kE.mpr ⟨ps,rfl,Jl (zn _),h1,h2,h3⟩⟩
   ·rintro⟨p,rfl,h⟩
    obtain⟨ps,rfl,_,h1,h2,h3⟩:=kE.mp h
    exact⟨ps,rfl,h1,h2,h3⟩
theorem By {b:Bool}{p:Prop}(h:b=true↔p)(n:¬p):b=false:=by
 cases b with
 | false=>rfl
 | true=>exact absurd (h.mp rfl) n
theorem xc {c:Cs}(hc:CsOk c):(bT c.cl c.kn c.sh).length<=63:=by
 have:=zh ((rJ c.cl c.kn c.sh).imp λh=>by omega) λr hr=>eM hc.k ((cE hc.k).mp hr).1
 omega
theorem CsOk.with {c:Cs}(hc:CsOk c)(hl:1<=c.lf){r:Nat}{s:List Nat}(hr:1<=r/\r<64)(hn:r∉c.kn)(hs:∀x∈s,x<64)(sl:s.length<=c.sh.length+63):CsOk ⟨c.W,c.cl,c.kn++[r],s,c.lf - 1⟩ :=
 ⟨hc.w24,hc.w,λx hx=>(BO.mp hx).elim (hc.k x) λh=>by rw[wv.mp h];exact hr,C4.mpr ⟨hc.kd,by simp,λa ha b hb e=>hn (by rw[wv.mp hb]at e;exact e▸ha)⟩,by have:=hc.sl;show s.length+64*(c.lf - 1)<=704;omega,hs,by have:=hc.l;show c.lf - 1<=11;omega⟩
section
variable {P:wE}{w:B2}{K:bi}{mg:Str->Option bn}{base:Heap}
theorem uz {C_Cases:Addr}(o:ClsO K mg C_Cases "Cases" ["wished", "clean", "known", "shut", "left"])(dn:DefM K C_Cases "__init__" "Cases.__init__" bw ["self", "wished", "clean", "known", "shut", "left"]):ObC P w K mg base C_Cases "Cases" ["wished", "clean", "known", "shut", "left"]:=by
 refine ObC.of o dn jk λf cdv A outer s H vs Q E hr h=>?_
 obtain⟨x,dx,us,rfl,hl,hx,hq⟩:=h
 match us,hl with
 | [a0,a1,a2,a3,a4],_ =>
  refine⟨_,(ao (nK (pv 0) (pv 1) rfl) (ao (nK (pv 0) (pv 2) rfl) (ao (nK (pv 0) (pv 3) rfl) (ao (nK (pv 0) (pv 4) rfl) (aI (nK (pv 0) (pv 5) rfl)))))),?_⟩
  refine⟨_,rfl,_,rfl,x,C_Cases,dx,_,rfl,hx,o.cl,o.na _ (.head _),(show 0<1000 from by decide),?_⟩
  refine⟨_,rfl,_,rfl,x,C_Cases,dx,_,rfl,aS,o.cl,o.na _ (.tail _ (.head _)),(show 1<1000 from by decide),?_⟩
  refine⟨_,rfl,_,rfl,x,C_Cases,dx,_,rfl,aS,o.cl,o.na _ (.tail _ (.tail _ (.head _))),(show 2<1000 from by decide),?_⟩
  refine⟨_,rfl,_,rfl,x,C_Cases,dx,_,rfl,aS,o.cl,o.na _ (.tail _ (.tail _ (.tail _ (.head _)))),(show 3<1000 from by decide),?_⟩
  refine⟨_,rfl,_,rfl,x,C_Cases,dx,_,rfl,aS,o.cl,o.na _ (.tail _ (.tail _ (.tail _ (.tail _ (.head _))))),(show 4<1000 from by decide),?_⟩
  rw[jf,jf,jf,jf]
  exact hq
theorem sr {K:bi}{mg:Str->Option bn}{h:Heap}{C_Cases f_0 f_1 f_2 f_3 f_4 f_5 f_6 f_7 f_8 f_9:Addr}{oc_0 kV_0 doc_0 pm_0 cdv_0 ct_0:bn}{od_0 an_0:Option Addr}{osl_0:Array (Option bn)}{oc_1 kV_1 doc_1 pm_1 cdv_1 ct_1:bn}{od_1 an_1:Option Addr}{osl_1:Array (Option bn)}{oc_2 kV_2 doc_2 pm_2 cdv_2 ct_2:bn}{od_2 an_2:Option Addr}{osl_2:Array (Option bn)}{oc_3 kV_3 doc_3 pm_3 cdv_3 ct_3:bn}{od_3 an_3:Option Addr}{osl_3:Array (Option bn)}{oc_4 kV_4 doc_4 pm_4 cdv_4 ct_4:bn}{od_4 an_4:Option Addr}{osl_4:Array (Option bn)}{oc_5 kV_5 doc_5 pm_5 cdv_5 ct_5:bn}{od_5 an_5:Option Addr}{osl_5:Array (Option bn)}{oc_6 kV_6 doc_6 pm_6 cdv_6 ct_6:bn}{od_6 an_6:Option Addr}{osl_6:Array (Option bn)}{oc_7 kV_7 doc_7 pm_7 cdv_7 ct_7:bn}{od_7 an_7:Option Addr}{osl_7:Array (Option bn)}{oc_8 kV_8 doc_8 pm_8 cdv_8 ct_8:bn}{od_8 an_8:Option Addr}{osl_8:Array (Option bn)}{oc_9 kV_9 doc_9 pm_9 cdv_9 ct_9:bn}{od_9 an_9:Option Addr}{osl_9:Array (Option bn)}(KX:K.In h)(G:h.Ns BZ mg)(f0:Ck K BZ "Cases" = some (some (.ref C_Cases)))(f1:EA K C_Cases Str.empty=true)(f2:Ff K C_Cases=true)(f3:Ga K C_Cases=true)(f4:BY K (.ref C_Cases) "__setattr__" = some (some (.builtin "object.__setattr__")))(f5:Fx K C_Cases=true)(f6:Ci K (.ref C_Cases)=true)(na0:BY K (.ref C_Cases) "wished" = some none)(na1:BY K (.ref C_Cases) "clean" = some none)(na2:BY K (.ref C_Cases) "known" = some none)(na3:BY K (.ref C_Cases) "shut" = some none)(na4:BY K (.ref C_Cases) "left" = some none)(m0_0:BY K (.ref C_Cases) "__init__" = some (some (.ref f_0)))(m0_1:K.lookup f_0=some ⟨oc_0,od_0,.func (CA "__init__" "Cases.__init__" (cF bw) (bI bw) (aw bw) .none kV_0 doc_0 pm_0 an_0 cdv_0 ct_0),osl_0⟩)(m0_2:CG K cdv_0 "Cases.__init__" = true)(m0_3:Ci K (.ref f_0)=true)(m0_4:C6 K (.ref f_0)=true)(m1_0:BY K (.ref C_Cases) "with_row" = some (some (.ref f_1)))(m1_1:K.lookup f_1=some ⟨oc_1,od_1,.func (CA "with_row" "Cases.with_row" (cF bu) (bI bu) (aw bu) .none kV_1 doc_1 pm_1 an_1 cdv_1 ct_1),osl_1⟩)(m1_2:CG K cdv_1 "Cases.with_row" = true)(m1_3:Ci K (.ref f_1)=true)(m1_4:C6 K (.ref f_1)=true)(m2_0:BY K (.ref C_Cases) "lacking" = some (some (.ref f_2)))(m2_1:K.lookup f_2=some ⟨oc_2,od_2,.func (CA "lacking" "Cases.lacking" (cF bp) (bI bp) (aw bp) .none kV_2 doc_2 pm_2 an_2 cdv_2 ct_2),osl_2⟩)(m2_2:CG K cdv_2 "Cases.lacking" = true)(m2_3:Ci K (.ref f_2)=true)(m2_4:C6 K (.ref f_2)=true)(m3_0:BY K (.ref C_Cases) "free_rows" = some (some (.ref f_3)))(m3_1:K.lookup f_3=some ⟨oc_3,od_3,.func (CA "free_rows" "Cases.free_rows" (cF aY) (bI aY) (aw aY) .none kV_3 doc_3 pm_3 an_3 cdv_3 ct_3),osl_3⟩)(m3_2:CG K cdv_3 "Cases.free_rows" = true)(m3_3:Ci K (.ref f_3)=true)(m3_4:C6 K (.ref f_3)=true)(m4_0:BY K (.ref C_Cases) "lacks_too_many" = some (some (.ref f_4)))(m4_1:K.lookup f_4=some ⟨oc_4,od_4,.func (CA "lacks_too_many" "Cases.lacks_too_many" (cF aW) (bI aW) (aw aW) .none kV_4 doc_4 pm_4 an_4 cdv_4 ct_4),osl_4⟩)(m4_2:CG K cdv_4 "Cases.lacks_too_many" = true)(m4_3:Ci K (.ref f_4)=true)(m4_4:C6 K (.ref f_4)=true)(m5_0:BY K (.ref C_Cases) "is_far" = some (some (.ref f_5)))(m5_1:K.lookup f_5=some ⟨oc_5,od_5,.func (CA "is_far" "Cases.is_far" (cF bf) (bI bf) (aw bf) .none kV_5 doc_5 pm_5 an_5 cdv_5 ct_5),osl_5⟩)(m5_2:CG K cdv_5 "Cases.is_far" = true)(m5_3:Ci K (.ref f_5)=true)(m5_4:C6 K (.ref f_5)=true)(m6_0:BY K (.ref C_Cases) "shown_by" = some (some (.ref f_6)))(m6_1:K.lookup f_6=some ⟨oc_6,od_6,.func (CA "shown_by" "Cases.shown_by" (cF bY) (bI bY) (aw bY) .none kV_6 doc_6 pm_6 an_6 cdv_6 ct_6),osl_6⟩)(m6_2:CG K cdv_6 "Cases.shown_by" = true)(m6_3:Ci K (.ref f_6)=true)(m6_4:C6 K (.ref f_6)=true)(m7_0:BY K (.ref C_Cases) "shown_far" = some (some (.ref f_7)))(m7_1:K.lookup f_7=some ⟨oc_7,od_7,.func (CA "shown_far" "Cases.shown_far" (cF bP) (bI bP) (aw bP) .none kV_7 doc_7 pm_7 an_7 cdv_7 ct_7),osl_7⟩)(m7_2:CG K cdv_7 "Cases.shown_far" = true)(m7_3:Ci K (.ref f_7)=true)(m7_4:C6 K (.ref f_7)=true)(m8_0:BY K (.ref C_Cases) "shown_made" = some (some (.ref f_8)))(m8_1:K.lookup f_8=some ⟨oc_8,od_8,.func (CA "shown_made" "Cases.shown_made" (cF bK) (bI bK) (aw bK) .none kV_8 doc_8 pm_8 an_8 cdv_8 ct_8),osl_8⟩)(m8_2:CG K cdv_8 "Cases.shown_made" = true)(m8_3:Ci K (.ref f_8)=true)(m8_4:C6 K (.ref f_8)=true)(m9_0:BY K (.ref C_Cases) "shown_next" = some (some (.ref f_9)))(m9_1:K.lookup f_9=some ⟨oc_9,od_9,.func (CA "shown_next" "Cases.shown_next" (cF bJ) (bI bJ) (aw bJ) .none kV_9 doc_9 pm_9 an_9 cdv_9 ct_9),osl_9⟩)(m9_2:CG K cdv_9 "Cases.shown_next" = true)(m9_3:Ci K (.ref f_9)=true)(m9_4:C6 K (.ref f_9)=true):∃C_Cases:Addr,ClsO K mg C_Cases "Cases" ["wished", "clean", "known", "shut", "left"]/\DefM K C_Cases "__init__" "Cases.__init__" bw ["self", "wished", "clean", "known", "shut", "left"]/\DefM K C_Cases "with_row" "Cases.with_row" bu ["self", "row", "shut"]/\DefM K C_Cases "lacking" "Cases.lacking" bp ["self"]/\DefM K C_Cases "free_rows" "Cases.free_rows" aY ["self"]/\DefM K C_Cases "lacks_too_many" "Cases.lacks_too_many" aW ["self"]/\DefM K C_Cases "is_far" "Cases.is_far" bf ["self", "row"]/\DefM K C_Cases "shown_by" "Cases.shown_by" bY ["self", "paper"]/\DefM K C_Cases "shown_far" "Cases.shown_far" bP ["self", "row"]/\DefM K C_Cases "shown_made" "Cases.shown_made" bK ["self", "row", "paper"]/\DefM K C_Cases "shown_next" "Cases.shown_next" bJ ["self", "papers"]:=by
 refine⟨C_Cases,?_,e9 m0_0 m0_1 m0_2 m0_3 m0_4 (λ_ _ _ _ _ _ us hl=>match us,hl with | [_,_,_,_,_,_],_=>rfl),e9 m1_0 m1_1 m1_2 m1_3 m1_4 (λ_ _ _ _ _ _ us hl=>match us,hl with | [_,_,_],_=>rfl),e9 m2_0 m2_1 m2_2 m2_3 m2_4 (λ_ _ _ _ _ _ us hl=>match us,hl with | [_],_=>rfl),e9 m3_0 m3_1 m3_2 m3_3 m3_4 (λ_ _ _ _ _ _ us hl=>match us,hl with | [_],_=>rfl),e9 m4_0 m4_1 m4_2 m4_3 m4_4 (λ_ _ _ _ _ _ us hl=>match us,hl with | [_],_=>rfl),e9 m5_0 m5_1 m5_2 m5_3 m5_4 (λ_ _ _ _ _ _ us hl=>match us,hl with | [_,_],_=>rfl),e9 m6_0 m6_1 m6_2 m6_3 m6_4 (λ_ _ _ _ _ _ us hl=>match us,hl with | [_,_],_=>rfl),e9 m7_0 m7_1 m7_2 m7_3 m7_4 (λ_ _ _ _ _ _ us hl=>match us,hl with | [_,_],_=>rfl),e9 m8_0 m8_1 m8_2 m8_3 m8_4 (λ_ _ _ _ _ _ us hl=>match us,hl with | [_,_,_],_=>rfl),e9 m9_0 m9_1 m9_2 m9_3 m9_4 (λ_ _ _ _ _ _ us hl=>match us,hl with | [_,_],_=>rfl)⟩
 refine⟨DS KX G f0,⟨f1,f2,f3,f4⟩,λf hf=>?_,f5,f6⟩
 simp only[sB,Cp,or_false]at hf
 rcases hf with rfl | rfl | rfl | rfl | rfl
 ·exact na0
 ·exact na1
 ·exact na2
 ·exact na3
 ·exact na4
theorem pT (dn:DefN K mg "is_whole" gX ["thing", "least", "most"])(B:BI mg):OkN P w K mg base 1 "is_whole" ["thing", "least", "most"] (spA K jb):=by
 refine dn.aok2 (k:=0) pC (λj=>j==0||j==1||j==2) [] jb rfl (λf cdv A outer s H E hr=>have hu:=cz hr;⟨_,(aI (aZ (h_ (bE (i9 K) rfl B.isinstance_ eh (ah (pv 0) (ah (wx rfl B.int_ A7) aA))) (h_ (xM (bE (i9 K) rfl B.isinstance_ eh (ah (pv 0) (ah (wx rfl B.bool_ zx) aA)))) (ki (mE mF mF (pv 1) (pv 0) (pv 2))))))),(aP (dF (cj jU (af aa (af qN aj))) (dF (qO (cj jU (af aa (af qN aj)))) (j2 cZ cZ aa aa aa))))⟩) ?_
 rintro ss q ⟨d,lo,hi,rfl,hq⟩
 refine⟨rfl,rfl,?_⟩
 cases d with
 | non=>exact c0 rfl ox hq
 | str _=>exact c0 rfl ou hq
 | tup _=>exact c0 rfl lh hq
 | lst _=>exact c0 rfl mQ hq
 | bl b=>exact c0 rfl mS (c0 rfl lx hq)
 | int i =>
  refine c0 rfl oy (c0 rfl mR ?_)
  refine iteT (ite2 (λh=>?_) λh=>?_)
  ·rw[show du lo hi (.int i)=decide (i<=hi)by simp[du,of_decide_eq_true h]]at hq
   exact hq
  ·rw[show du lo hi (.int i)=false by simp[du];intro h';exact absurd (decide_eq_true h') h]at hq
   exact hq
theorem pU (dn:DefN K mg "is_tuple" gY ["thing", "least", "most"])(B:BI mg):OkN P w K mg base 1 "is_tuple" ["thing", "least", "most"] (spA K g_):=by
 refine dn.aok2 (k:=0) pE (λj=>j==0||j==1||j==2) [] g_ rfl (λf cdv A outer s H E hr=>have hu:=cz hr;⟨_,(aI (aZ (h_ (bE (i9 K) rfl B.isinstance_ eh (ah (pv 0) (ah (wx rfl B.tuple_ eY) aA))) (ki (mE mF mF (pv 1) (bE (cg K) rfl B.len_ fA (ah (pv 0) aA)) (pv 2)))))),(aP (dF (cj jU (af aa (af qN aj))) (j2 cZ cZ aa (cj dM (af aa aj)) aa)))⟩) ?_
 rintro ss q ⟨d,lo,hi,rfl,hq⟩
 refine⟨rfl,rfl,?_⟩
 cases d with
 | non=>exact c0 rfl lr hq
 | str _=>exact c0 rfl lq hq
 | int _=>exact c0 rfl lu hq
 | lst _=>exact c0 rfl kK hq
 | bl b=>exact c0 rfl kL hq
 | tup ds =>
  refine c0 rfl gf ?_
  refine iteT (ite2 (λh=>?_) λh=>?_)
  ·rw[show tupB lo hi (.tup ds)=decide ((ds.length:Int)<=hi)by simp[tupB,of_decide_eq_true h]]at hq
   exact hq
  ·rw[show tupB lo hi (.tup ds)=false by simp[tupB];intro h';exact absurd (decide_eq_true h') h]at hq
   exact hq
theorem uw (dn:DefN K mg "joined" jO ["one", "other"])(B:BI mg):OkN P w K mg base 1 "joined" ["one", "other"] (spA K il):=by
 refine dn.aok2 (k:=0) ua (λj=>j==0||j==1) [] il rfl (λf cdv A outer s H E hr=>have hu:=cz hr;⟨_,(aI (aZ (bh nP (pv 0) (pv 1)))),(aP (aF bc aa aa))⟩) ?_
 rintro ss q ⟨x,y,rfl,hq⟩
 refine⟨rfl,rfl,?_⟩
 show q (.d (.int (Et x y))) [nv x,nv y]
 rw[l9];exact hq
theorem pN (dn:DefN K mg "own_rows" fg ["many"])(B:BI mg):OkN P w K mg base 1 "own_rows" ["many"] (spA K SOwn):=by
 refine dn.aok2 (k:=0) pz (λj=>j==0) [] SOwn rfl (λf cdv A outer s H E hr=>have hu:=cz hr;⟨_,(aI (aZ (dY ["given"] [] rfl (Blk.of (aw fg) kz) (eI rfl B.range_ (ah (pv 0) aA)) (λ_ _ _ _ nd=>(aG (i:=0) nd rfl (by first | exact Or.inl rfl | exact Or.inr rfl))) (λ_ _ _ _=>dh) (λ_ _ _ _=>(bh kq aJ (pv 0)))))),(aP (b6 (eA (af aa aj)) (aq rfl) cw (aF fJ aH aa)))⟩) ?_
 rintro ss q ⟨m,rfl,hm,hq⟩
 refine⟨rfl,rfl,⟨by omega,by omega⟩,by rw[eV];omega,?_⟩
 refine i7 (λk=>.int (1 <<< k:Nat)) trivial (λk acc N hk hN=>?_) ?_
 ·rw[FM]
  refine⟨⟨by omega,by omega,by decide⟩,?_⟩
  show N (acc++[.int ((1:Int)*2^((k:Int).toNat))]) _
  rw[ji];exact hN
 ·rw[Cr]
  have e:((sK m).map λk=>D.int (1 <<< k:Nat))=ar (az m):=by unfold az ar;rw[B8];rfl
  rw[e];exact hq
theorem pO (dn:DefN K mg "may_join" gT ["clean", "one", "other"])(B:BI mg):OkN P w K mg base 1 "may_join" ["clean", "one", "other"] (spA K SMay):=by
 refine dn.aok2 (k:=0) pA (λj=>j==0||j==1||j==2) [] SMay rfl (λf cdv A outer s H E hr=>have hu:=cz hr;⟨_,(aI (aZ (Bn (xM (pv 0)) (ki (gr (gA K hr.units) (bh lI (pv 1) (pv 2)) aJ (bL _)))))),(aP (yc (qO aa) (aF gB (aF bc aa aa) aH)))⟩) ?_
 rintro ss q ⟨c,x,y,rfl,hq⟩
 refine⟨rfl,rfl,?_⟩
 cases c with
 | false=>exact hq
 | true =>
  refine cm (b:=decide (x &&& y=0)) rfl rfl (by simp[D.depth]) ?_ hq
  show eqD (.int (Ct (x:Int) (y:Int))) (.int 0)=_
  rw[nu]
  show decide (((x &&& y:Nat):Int)=0)=_
  rw[decide_eq_decide];omega
theorem jo {C_Cases:Addr}(ob_Cases:ObC P w K mg base C_Cases "Cases" ["wished", "clean", "known", "shut", "left"])(dn:DefM K C_Cases "with_row" "Cases.with_row" bu ["self", "row", "shut"])(B:BI mg):OkM P w K mg base 3 C_Cases "with_row" ["self", "row", "shut"] (spA K (xv C_Cases)):=by
 refine dn.aok2 (k:=2) jj (λj=>j==0||j==1||j==2) [] (xv C_Cases) rfl (λf cdv A outer s H E hr=>have hu:=cz hr;⟨_,(aI (aZ (xO ob_Cases.nw (hr.mono (by decide)) (ah (dw (pv 0) rfl) (ah (dw (pv 0) rfl) (ah (bh (pL K) (dw (pv 0) rfl) (eK (ah (pv 1) aA))) (ah (pv 2) (ah (bh iN (dw (pv 0) rfl) aJ) aA)))))))),(aP (tz (af (cv ob_Cases.cl (ob_Cases.na _ (.head _)) aa) (af (cv ob_Cases.cl (ob_Cases.na _ (.tail _ (.head _))) aa) (af (aF pM (cv ob_Cases.cl (ob_Cases.na _ (.tail _ (.tail _ (.head _)))) aa) (cW (af aa aj))) (af aa (af (aF bc (cv ob_Cases.cl (ob_Cases.na _ (.tail _ (.tail _ (.tail _ (.tail _ (.head _)))))) aa) aH) aj)))))))⟩) ?_
 rintro ss q ⟨c,r,s,rfl,hl,h1,hq⟩
 refine⟨rfl,rfl,?_⟩
 refine⟨rfl,_,rfl,rfl,_,rfl,rfl,_,rfl,by simp,by rw[bo];simp;omega,rfl,_,rfl,rfl,?_⟩
 have e:ar c.kn++[D.int (r:Int)]=ar (c.kn++[r]):=(dC _ _).symm
 have e2:(c.lf:Int) - 1=((c.lf - 1:Nat):Int):=by omega
 show q (.x (.ob C_Cases [("wished",.tup (ar c.W)),("clean",.bl c.cl),("known",.lst (ar c.kn++[D.int (r:Int)])),("shut",.lst (ar s)),("left",.int ((c.lf:Int) - 1))])) _
 rw[e,e2]
 exact hq
theorem jF {C_Cases:Addr}(ob_Cases:ObC P w K mg base C_Cases "Cases" ["wished", "clean", "known", "shut", "left"])(dn:DefM K C_Cases "lacking" "Cases.lacking" bp ["self"])(B:BI mg):OkM P w K mg base 3 C_Cases "lacking" ["self"] (spA K (xw C_Cases)):=by
 refine dn.aok2 (k:=2) jD (λj=>j==0) [] (xw C_Cases) rfl (λf cdv A outer s H E hr=>have hu:=cz hr;⟨_,(aI (aZ (nL ["row"] [0] rfl rfl B.sorted_ (Blk.of (aw bp) gb) (bF K (dw (pv 0) rfl)) (λ_ _ _ _ nd=>(aG (i:=0) nd rfl (by first | exact Or.inl rfl | exact Or.inr rfl))) (λ_ _ _ _=>(dg (a_ (cI K) (pv 0) (dw (pv 1) rfl) rfl))) (λ_ _ _ _=>(pv 0))))),(aP (lB (ba (cv ob_Cases.cl (ob_Cases.na _ (.head _)) aa)) (aq rfl) (aO (aF (jB true) aa (cv ob_Cases.cl (ob_Cases.na _ (.tail _ (.tail _ (.head _)))) aa))) aa))⟩) ?_
 rintro ss q ⟨c,rfl,hc,hq⟩
 have w24:=hc.w24
 refine⟨rfl,rfl,?_⟩
 refine⟨rfl,_,rfl,by rw[bo];omega,?_⟩
 refine jw nD (λr=>!c.kn.contains r) (λr=>((r:Nat):Int)) trivial (λr acc N hr hN=>?_) ?_
 ·refine⟨rfl,_,rfl,iX (xs:=c.kn) rfl ?_⟩
  cases hb:c.kn.contains r with
  | true=>rw[hb]at hN;exact hN
  | false=>rw[hb]at hN;exact hN
 ·rw[Jn]
  refine⟨?_,λns' up hm=>?_⟩
  ·refine Fi (x2 _) ?_
   rw[f8]
   have:=CH (λr=>!c.kn.contains r) c.W
   omega
  ·have:ns'=(bt c.W c.kn).map λr=>((r:Nat):Int):=j7 up (j8 (D3 _ Dg)) λx=>by
    rw[hm x,Cn,Cn]
    unfold bt
    constructor
    ·rintro⟨r,hr,rfl⟩
     obtain⟨h1,h2⟩:=AC.mp hr
     exact⟨r,AC.mpr ⟨B9.mpr (hc.w r h1).2,by rw[o0.mpr h1,h2];rfl⟩,rfl⟩
    ·rintro⟨r,hr,rfl⟩
     obtain⟨h1,h2⟩:=AC.mp hr
     rw[BP]at h2
     exact⟨r,AC.mpr ⟨o0.mp h2.1,h2.2⟩,rfl⟩
   subst this
   rw[B8]
   exact hq
theorem fK {C_Cases:Addr}(ob_Cases:ObC P w K mg base C_Cases "Cases" ["wished", "clean", "known", "shut", "left"])(dn:DefM K C_Cases "lacks_too_many" "Cases.lacks_too_many" aW ["self"])(B:BI mg)(g_Cases_lacking:OkM P w K mg base 3 C_Cases "lacking" ["self"] (spA K (xw C_Cases))):OkM P w K mg base 4 C_Cases "lacks_too_many" ["self"] (spA K (vJ C_Cases)):=by
 refine dn.aok2 (k:=3) fF (λj=>j==0) [] (vJ C_Cases) rfl (λf cdv A outer s H E hr=>have hu:=cz hr;⟨_,(aI (aZ (gr wH (bE (cg K) rfl B.len_ fA (ah (ri g_Cases_lacking ob_Cases.cl (hr.mono (by decide)) (pv 0)) aA)) (dw (pv 0) rfl) (bL _)))),(aP (aF cZ (cj dM (af (fD aa aj) aj)) (cv ob_Cases.cl (ob_Cases.na _ (.tail _ (.tail _ (.tail _ (.tail _ (.head _)))))) aa)))⟩) ?_
 rintro ss q ⟨c,rfl,hc,hq⟩
 refine⟨rfl,rfl,?_⟩
 refine⟨rfl,rfl,rfl,c,rfl,hc,rfl,_,rfl,?_⟩
 have e:decide (((c.lf:Nat):Int)<(((ar (bt c.W c.kn)).length:Nat):Int))=decide (c.lf<(bt c.W c.kn).length):=by
  rw[bo,decide_eq_decide];omega
 show q (.d (.bl (decide (((c.lf:Nat):Int)<(((ar (bt c.W c.kn)).length:Nat):Int))))) _
 rw[e]
 exact hq
theorem k9 {C_Cases:Addr}(ob_Cases:ObC P w K mg base C_Cases "Cases" ["wished", "clean", "known", "shut", "left"])(dn:DefN K mg "first_cases" d7 ["wish", "clean", "count"])(B:BI mg)(g_own_rows:OkN P w K mg base 1 "own_rows" ["many"] (spA K SOwn)):OkN P w K mg base 3 "first_cases" ["wish", "clean", "count"] (spA K (vL C_Cases)):=by
 refine dn.aok2 (k:=2) e7 (λj=>j==0||j==1||j==2) [.un,.un] (vL C_Cases) rfl (λf cdv A outer s H E hr=>have hu:=cz hr;⟨_,(ao (fk (pv 0) (bB K (n:=2) rfl (aK (aG (i:=3) e7.nd rfl (by first | exact Or.inl rfl | exact Or.inr rfl)) (aK (aG (i:=4) e7.nd rfl (by first | exact Or.inl rfl | exact Or.inr rfl)) bA))))
  (aI (aZ (xO ob_Cases.nw (hr.mono (by decide)) (ah (pv 4) (ah (pv 1) (ah (bM g_own_rows (hr.mono (by decide)) (ah (pv 3) aA)) (ah (eK aA) (ah (pv 2) aA))))))))),(aE (dy aa (a9 (aD (aq rfl) (aD (aq rfl) aX (λ_ _ _=>aN)) (λ_ _ _=>aN))))
  (aP (tz (af aa (af aa (af (aM (af aa aj)) (af (cW aj) (af aa aj))))))))⟩) ?_
 rintro ss q ⟨m,W,cl,l,rfl,hm,hq⟩
 refine⟨rfl,rfl,?_⟩
 refine cutS (λρ=>ρ=[.vl (bR m W),.vl (.bl cl),nv l,nv m,.vl (.tup (ar W))]) (λM hM=>hM _ rfl) ?_
 rintro _ rfl
 exact⟨rfl,m,rfl,by omega,by simp,rfl,hq⟩
end
section
variable {P:wE}{w:B2}{K:bi}{mg:Str->Option bn}{base:Heap}
theorem iQ {C_Cases:Addr}(ob_Cases:ObC P w K mg base C_Cases "Cases" ["wished", "clean", "known", "shut", "left"])(dn:DefM K C_Cases "free_rows" "Cases.free_rows" aY ["self"])(B:BI mg)(g_joined:OkN P w K mg base 1 "joined" ["one", "other"] (spA K il))(g_may_join:OkN P w K mg base 1 "may_join" ["clean", "one", "other"] (spA K SMay)):OkM P w K mg base 3 C_Cases "free_rows" ["self"] (spA K (zG C_Cases)):=by
 refine dn.aok2 (k:=2) dc (λj=>j==0) [.un,.un] (zG C_Cases) rfl (λf cdv A outer s H E hr=>have hu:=cz hr;⟨_,(ao (mD (i:=1) ["other", "at", "one"] [0] dc.nd rfl (by first | exact Or.inl rfl | exact Or.inr rfl) rfl (Blk.of (aw aY) cy) (jn K rfl B.enumerate_ (ah (dw (pv 0) rfl) aA)) (λ_ _ _ _ nd=>(bB K (n:=2) rfl (aK (aG (i:=1) nd rfl (by first | exact Or.inl rfl | exact Or.inr rfl)) (aK (aG (i:=2) nd rfl (by first | exact Or.inl rfl | exact Or.inr rfl)) bA)))) (λ_ _ _ _=>dh) (λ_ _ _ _=>(bF K (iL (iD K) (dw (pv 3) rfl) kh (kf (pv 1))))) (λ_ _ _ _ nd=>(aG (i:=0) nd rfl (by first | exact Or.inl rfl | exact Or.inr rfl))) (λ_ _ _ _=>dh) (λ_ _ _ _=>(c8 (ah (pv 2) (ah (pv 0) aA)))))
  (ao (q8 (i:=2) ["one", "other"] [0] dc.nd rfl (by first | exact Or.inl rfl | exact Or.inr rfl) rfl (Blk.of (aw aY) cy) (bF K (pv 1)) (λ_ _ _ _ nd=>(bB K (n:=2) rfl (aK (aG (i:=0) nd rfl (by first | exact Or.inl rfl | exact Or.inr rfl)) (aK (aG (i:=1) nd rfl (by first | exact Or.inl rfl | exact Or.inr rfl)) bA)))) (λ_ _ _ _=>(dg (eE (bM g_may_join (hr.mono (by decide)) (ah (dw (pv 2) rfl) (ah (pv 0) (ah (pv 1) aA))))))) (λ_ _ _ _=>(bM g_joined (hr.mono (by decide)) (ah (pv 0) (ah (pv 1) aA)))) (λ_ _ _ _=>c9))
  (aI (aZ (bE (qy K) rfl B.sorted_ oT (ah (dY ["row"] [0] rfl (Blk.of (aw aY) cy) (yx (pv 2)) (λ_ _ _ _ nd=>(aG (i:=0) nd rfl (by first | exact Or.inl rfl | exact Or.inr rfl))) (λ_ _ _ _=>(dg (PW.pt (jA (a_ (cI K) (pv 0) (dw (pv 1) rfl) rfl) (gq (a_ (cI K) (pv 0) (dw (pv 1) rfl) rfl)))))) (λ_ _ _ _=>(pv 0))) aA)))))),(aE (j4 (j0 (n2:=1) (fc (af (cv ob_Cases.cl (ob_Cases.na _ (.tail _ (.tail _ (.head _)))) aa) aj)) (a9 (aD (aq rfl) (aD (aq rfl) aX (λ_ _ _=>aN)) (λ_ _ _=>aN))) cw (ba (mh (cv ob_Cases.cl (ob_Cases.na _ (.tail _ (.tail _ (.head _)))) aa) md (iw aa))) (aq rfl) cw (cb (af aa (af aa aj)))) rfl)
  (aE (nG (jZ (ba aa) (a9 (aD (aq rfl) (aD (aq rfl) aX (λ_ _ _=>aN)) (λ_ _ _=>aN))) (dZ (aM (af (cv ob_Cases.cl (ob_Cases.na _ (.tail _ (.head _))) aa) (af aa (af aa aj))))) (aM (af aa (af aa aj))) bV) rfl)
  (aP (cj qx (af (b6 (tH aa) (aq rfl) (fC (aO (aF (jB true) aa (cv ob_Cases.cl (ob_Cases.na _ (.tail _ (.tail _ (.head _)))) aa))) (aO (aF (jB true) aa (cv ob_Cases.cl (ob_Cases.na _ (.tail _ (.tail _ (.tail _ (.head _))))) aa)))) aa) aj)))))⟩) ?_
 rintro ss q ⟨c,rfl,hc,hq⟩
 have hkl:=hc.kl
 refine⟨rfl,rfl,?_⟩
 have hpl:(prN c.kn).length<=63*63:=xL (yw c.kn) (F3 hkl hkl)
 refine cutS (λρ=>ρ=[obC C_Cases c,.ow ((prN c.kn).map pD),.un]) (λM hM=>?_) ?_
 ·refine⟨rfl,_,rfl,?_⟩
  have pre:∀i,i<=c.kn.length->(prU c.kn i).length<=63*63:=λi hi=>xL (pI c.kn i) (F3 (xL hi hkl) hkl)
  refine oO (λi acc ρ=>acc=(prU c.kn i).map pD/\i<=c.kn.length/\ρ=[obC C_Cases c,.un,.un]) (λi acc ρ _ h=>⟨trivial,by rw[h.1,f8];exact xL (pre i h.2.1) (by decide)⟩) ?_ ?_ _ ⟨rfl,zn _,rfl⟩
  ·rintro i d acc _ N hd ⟨rfl,hil,rfl⟩ hN
   obtain⟨x,hx,rfl⟩:=cQ hd
   rw[ar,wn]at hx
   obtain⟨a,ha,rfl⟩:=BR.mp hx
   have hi:=(im.mp ha).1
   have ea:c.kn.getD i 0=a:=by rw[kt,ha];rfl
   rw[CU]
   refine⟨rfl,_,rfl,?_⟩
   have ec:cutD (ar c.kn) none (some ((i:Nat):Int))=(c.kn.take i).map nD:=by rw[gJ];unfold ar;rw[EL]
   show hX 1 (λ_=>True) _ _ _ _ (cutD (ar c.kn) none (some ((i:Nat):Int))) _ [.un,.vl (.int (i:Int)),.vl (.int (a:Int)),obC C_Cases c]
   rw[ec]
   refine gK nD (λ_=>true) (λb=>pD (a,b)) trivial (by rw[f8,B0];have:=pre i (by omega);omega) (λb acc N2 hb hN2=>⟨by simp,hN2⟩) ?_
   refine hN _ _ ⟨?_,by omega,rfl⟩
   rw[rh,B7,B8,ea,List.filter_eq_self.mpr (λ_ _=>rfl)]
   rfl
  ·rintro acc _ ⟨rfl,_,rfl⟩
   have el:(dS 0 (ar c.kn)).length=c.kn.length:=by rw[bU,bo]
   rw[el]
   exact hM _ rfl
 rintro _ rfl
 refine cutS (λρ=>∃M:List Nat,M.Nodup/\(∀x,x∈M↔b8 c.cl c.kn x=true)/\ρ=[obC C_Cases c,.ow ((prN c.kn).map pD),.dk (mkT M)]) (λM hM=>?_) ?_
 ·refine⟨rfl,by rw[f8];omega,?_⟩
  refine jx (λj acc ρ=>∃M:List Nat,acc=mkT M/\M.Nodup/\(∀x,x∈M↔∃p∈(prN c.kn).take j,mayN c.cl p.1 p.2=true/\p.1 ^^^ p.2=x)/\ρ=[obC C_Cases c,.ow ((prN c.kn).map pD),.un]) (λj acc ρ _ ⟨M,_,_,_,e⟩=>by rw[e];rfl) ?_ ?_ _ ⟨[],rfl,JB,by simp,rfl⟩
  ·rintro j d acc _ N hd ⟨M,rfl,nd,hm,rfl⟩ hN
   rw[wn]at hd
   obtain⟨⟨a,b⟩,hp,rfl⟩:=BR.mp hd
   refine⟨rfl,_,rfl,rfl,c.cl,a,b,rfl,?_⟩
   have et:(prN c.kn).take (j+1)=(prN c.kn).take j++[(a,b)]:=by rw[CD,hp];rfl
   cases hb:mayN c.cl a b with
   | true =>
    refine⟨rfl,a,b,rfl,hN _ _ ⟨insM M (a ^^^ b),mB M (a ^^^ b),uV nd,λx=>?_,rfl⟩⟩
    rw[rF,hm x,et]
    constructor
    ·rintro(⟨p,h1,h2⟩ | rfl)
     ·exact⟨p,BS _ h1,h2⟩
     ·exact⟨(a,b),ga _ (wv.mpr rfl),hb,rfl⟩
    ·rintro⟨p,h1,h2,h3⟩
     rcases BO.mp h1 with h1 | h1
     ·exact .inl ⟨p,h1,h2,h3⟩
     ·rw[wv.mp h1]at h3
      exact .inr h3.symm
   | false =>
    refine hN _ _ ⟨M,rfl,nd,λx=>?_,rfl⟩
    rw[hm x,et]
    constructor
    ·rintro⟨p,h1,h2⟩
     exact⟨p,BS _ h1,h2⟩
    ·rintro⟨p,h1,h2,h3⟩
     rcases BO.mp h1 with h1 | h1
     ·exact⟨p,h1,h2,h3⟩
     ·rw[wv.mp h1]at h2
      rw[hb]at h2;cases h2
  ·rintro acc _ ⟨M,rfl,nd,hm,rfl⟩
   rw[f8,Cf]at hm
   exact hM _ ⟨M,nd,λx=>by rw[hm x,yO hc.kd],rfl⟩
 rintro _ ⟨M,nd,hm,rfl⟩
 have hM64:∀r∈M,1<=r/\r<64:=λr hr=>eM hc.k ((hm r).mp hr)
 have hMl:=zh nd hM64
 have ek:(mkT M).map (λp=>kD p.1)=M.map nD:=by unfold mkT;rw[B8];rfl
 show((mkT M).map λp=>kD p.1).length<=1000000/\fS _ _ _ _ _ _ _ ((mkT M).map λp=>kD p.1) [] _
 rw[ek]
 refine⟨by rw[f8];omega,?_⟩
 refine cR nD (λx=>!c.kn.contains x && !c.sh.contains x) nD trivial (λx acc N hx hN=>?_) ?_
 ·refine⟨rfl,_,rfl,iX (xs:=c.kn) rfl ?_⟩
  cases h1:c.kn.contains x with
  | true=>rw[h1]at hN;exact hN
  | false =>
   refine⟨rfl,_,rfl,iX (xs:=c.sh) rfl ?_⟩
   cases h2:c.sh.contains x with
   | true=>rw[h1,h2]at hN;exact hN
   | false=>rw[h1,h2]at hN;exact hN
 ·have nf:(M.filter λx=>!c.kn.contains x && !c.sh.contains x).Nodup:=nd.sublist E5
  refine sP (ns:=(M.filter λx=>!c.kn.contains x && !c.sh.contains x).map λr=>((r:Nat):Int)) (by rw[B8];rfl) (by rw[f8];have:=CH (λx=>!c.kn.contains x && !c.sh.contains x) M;omega) λns' pm up=>?_
  have:=wa pm up nf (rJ c.cl c.kn c.sh) λx=>by
   rw[cE hc.k,AC,hm x,BP,CL,CL,<- CQ,<- CQ,o0,o0]
  subst this
  rw[B8]
  exact hq
end
section
variable {P:wE}{w:B2}{K:bi}{mg:Str->Option bn}{base:Heap}
theorem ku {C_Cases:Addr}(ob_Cases:ObC P w K mg base C_Cases "Cases" ["wished", "clean", "known", "shut", "left"])(dn:DefM K C_Cases "is_far" "Cases.is_far" bf ["self", "row"])(B:BI mg)(g_joined:OkN P w K mg base 1 "joined" ["one", "other"] (spA K il))(g_may_join:OkN P w K mg base 1 "may_join" ["clean", "one", "other"] (spA K SMay)):OkM P w K mg base 3 C_Cases "is_far" ["self", "row"] (spA K (SFar C_Cases)):=by
 refine dn.aok2 (k:=2) bS (λj=>j==0||j==1) [.un,.un,.un,.un] (SFar C_Cases) rfl (λf cdv A outer s H E hr=>have hu:=cz hr;⟨_,(ao (bj (i:=2) bS.nd rfl (by first | exact Or.inl rfl | exact Or.inr rfl) (um (jQ aJ c9 ug) rfl rfl (by simp) (by decide)))
  (ao (bj (i:=3) bS.nd rfl (by first | exact Or.inl rfl | exact Or.inr rfl) (eK (ah aJ aA)))
  (ao (bj (i:=4) bS.nd rfl (by first | exact Or.inl rfl | exact Or.inr rfl) aJ)
  (ao (mC Cj (PW.pt (jA (a_ mF (pv 4) (dw (pv 0) rfl) (bL _)) (gq (q5 (km hu (pv 1) (pv 2))))))
  (ao (mD (i:=5) ["part", "total"] [0] bS.nd rfl (by first | exact Or.inl rfl | exact Or.inr rfl) rfl (Blk.of (aw bf) dj) (bF K (pv 3)) (λ_ _ _ _ nd=>(aG (i:=1) nd rfl (by first | exact Or.inl rfl | exact Or.inr rfl))) (λ_ _ _ _=>dh) (λ_ _ _ _=>(bF K (dw (pv 2) rfl))) (λ_ _ _ _ nd=>(aG (i:=0) nd rfl (by first | exact Or.inl rfl | exact Or.inr rfl))) (λ_ _ _ _=>(dg (eE (bM g_may_join (hr.mono (by decide)) (ah (dw (pv 2) rfl) (ah (pv 1) (ah (pv 0) aA))))))) (λ_ _ _ _=>(bM g_joined (hr.mono (by decide)) (ah (pv 1) (ah (pv 0) aA)))))
  (ao (bj (i:=3) bS.nd rfl (by first | exact Or.inl rfl | exact Or.inr rfl) (nL ["total"] [2] rfl rfl B.sorted_ (Blk.of (aw bf) dj) (bF K (pv 5)) (λ_ _ _ _ nd=>(aG (i:=0) nd rfl (by first | exact Or.inl rfl | exact Or.inr rfl))) (λ_ _ _ _=>(dg (q5 (km hu (pv 0) (pv 1))))) (λ_ _ _ _=>(pv 0))))
  (ao (dX (fo K Hm Hg PySem.F.type_dict_update yS (pv 2) (ah (wC ["total"] [] rfl (Blk.of (aw bf) dj) (bF K (pv 3)) (λ_ _ _ _ nd=>(aG (i:=0) nd rfl (by first | exact Or.inl rfl | exact Or.inr rfl))) (λ_ _ _ _=>dh) (λ_ _ _ _=>(pv 0)) (λ_ _ _ _=>c9)) aA)))
  (aI (xK (i:=4) bS.nd rfl (by first | exact Or.inl rfl | exact Or.inr rfl) aJ xT))))))
  (aI (aZ (Ag (km hu (pv 1) (pv 2))))))))),(aE (a8 (rX Au Au aH bV) rfl)
  (aE (a8 (cW (af aH aj)) rfl)
  (aE (a8 aH rfl)
  (aE (j3 (fC (aO (aF cZ aa (cv ob_Cases.cl (ob_Cases.na _ (.tail _ (.tail _ (.tail _ (.tail _ (.head _)))))) aa))) (aO (jh aa aa)))
  (aE (j4 (j0 (n2:=1) (ba aa) (aq rfl) cw (ba (cv ob_Cases.cl (ob_Cases.na _ (.tail _ (.tail _ (.head _)))) aa)) (aq rfl) (dZ (aM (af (cv ob_Cases.cl (ob_Cases.na _ (.tail _ (.head _))) aa) (af aa (af aa aj))))) (aM (af aa (af aa aj)))) rfl)
  (aE (a8 (lB (ba aa) (aq rfl) (aO (jh aa aa)) aa) rfl)
  (aE (cV (vX (jZ (ba aa) (aq rfl) cw aa bV)))
  (t5 aH rfl)))))
  (aP (jh aa aa))))))⟩) ?_
 rintro ss q ⟨c,r,rfl,hc,hr,hq⟩
 have hkl:=hc.kl
 have hl:=hc.l
 refine⟨rfl,rfl,?_⟩
 refine cutS (λρ=>ρ=[obC C_Cases c,nv r,.dk (mkT [0]),.un,.un,.un]) (λM hM=>hM _ rfl) ?_
 rintro _ rfl
 refine cutS (λρ=>ρ=[obC C_Cases c,nv r,.dk (mkT [0]),.ow (ar [0]),.un,.un]) (λM hM=>⟨by simp,hM _ rfl⟩) ?_
 rintro _ rfl
 refine cutS (λρ=>ρ=[obC C_Cases c,nv r,.dk (mkT [0]),.ow (ar [0]),nv 0,.un]) (λM hM=>hM _ rfl) ?_
 rintro _ rfl
 refine cutS (λρ=>∃M s3 s4 s5,(M.contains r=true↔∃n,n<=c.lf+1/\Rch c.cl c.kn n r)/\ρ=[obC C_Cases c,nv r,.dk (mkT M),s3,s4,s5]) (λMx hMx=>o_ (λρ=>∃k M N s5,Lev c.cl c.kn k M N/\k<=c.lf+1/\M.Nodup/\ρ=[obC C_Cases c,nv r,.dk (mkT M),.ow (ar N),nv k,s5]) (λρ=>match gt ρ 4 with | .vl (.int k)=>100 - k.toNat | _=>0) ?_ _ ⟨0,[0],[0],.un,.start,by omega,by simp,rfl⟩) ?_
 ·rintro _ Nx ⟨k,M,N,s5,L,hkk,mnd,rfl⟩ hNx
  have nl:=L.lt hc.k
  have go:decide (((k:Nat):Int)<=((c.lf:Nat):Int))=decide (k<=c.lf):=by rw[decide_eq_decide];omega
  refine⟨rfl,_,rfl,?_⟩
  show if decide (((k:Nat):Int)<=((c.lf:Nat):Int))=true then _ else _
  rw[go]
  by_cases hk:k<=c.lf
  ·rw[if_pos (decide_eq_true hk)]
   show if(!(valD (mkT M) (Sum.inl ((r:Nat):Int):Key)).isSome)=true then _ else _
   rw[l_]
   cases hMr:M.contains r with
   | true =>
    rw[if_neg (by decide)]
    refine hMx _ ⟨M,_,_,_,⟨λ_=>?_,λ_=>hMr⟩,rfl⟩
    obtain⟨n,hn,h⟩:=(L.m r).mp (o0.mp hMr)
    exact⟨n,by omega,h⟩
   | false =>
    rw[if_pos (by decide)]
    have sl:(sumN c.cl c.kn N).length<=3969:=xL (mj c.cl c.kn N) (F3 (by omega:N.length<=63) hkl)
    have s64:∀x∈sumN c.cl c.kn N,x<64:=λx hx=>by
     obtain⟨t,ht,p,hp,_,rfl⟩:=qR.mp hx
     exact x8 (yv hc.k ((L.n t).mp ht).1) (hc.k p hp).2
    refine cutS (λρ=>ρ=[obC C_Cases c,nv r,.dk (mkT M),.ow (ar N),nv k,.ow (ar (sumN c.cl c.kn N))]) (λQ hQ=>?_) ?_
    ·have ef:ar (sumN c.cl c.kn N)=N.flatMap λt=>(c.kn.filter (mayN c.cl t)).map λp=>nD (t ^^^ p):=by
      unfold sumN ar
      rw[Je]
      refine congrArg (λf=>N.flatMap f) (funext λt=>?_)
      rw[B8];rfl
     refine⟨rfl,vn nD (λt=>(c.kn.filter (mayN c.cl t)).map λp=>nD (t ^^^ p)) rfl (λt acc N2 ht hacc hN2=>?_) (by rw[<- ef,bo];omega) (by rw[<- ef];exact hQ _ rfl)⟩
     obtain⟨ys,yl,rfl,_⟩:=hacc
     have al:(ys.flatMap λt=>(c.kn.filter (mayN c.cl t)).map λp=>nD (t ^^^ p)).length<=63*63:=by
      have e2:(ys.flatMap λt=>(c.kn.filter (mayN c.cl t)).map λp=>nD (t ^^^ p))=ar (sumN c.cl c.kn ys):=by
       unfold sumN ar
       rw[Je]
       refine congrArg (λf=>ys.flatMap f) (funext λt=>?_)
       rw[B8];rfl
      rw[e2,bo]
      exact xL (mj c.cl c.kn ys) (F3 (by omega) hkl)
     refine⟨rfl,_,rfl,?_⟩
     refine gK nD (mayN c.cl t) (λp=>nD (t ^^^ p)) trivial (by omega) (λp acc N3 hp hN3=>?_) (hN2)
     refine⟨rfl,_,rfl,rfl,c.cl,t,p,rfl,?_⟩
     cases hb:mayN c.cl t p with
     | true=>rw[if_pos hb]at hN3;exact⟨rfl,t,p,rfl,hN3⟩
     | false=>rw[if_neg (by rw[hb];decide)]at hN3;exact hN3
    rintro _ rfl
    refine cutS (λρ=>∃N':List Nat,N'.Nodup/\(∀x,x∈N'↔x∈sumN c.cl c.kn N/\x∉M)/\ρ=[obC C_Cases c,nv r,.dk (mkT M),.ow (ar N'),nv k,.ow (ar (sumN c.cl c.kn N))]) (λQ hQ=>?_) ?_
    ·refine⟨rfl,by rw[bo];omega,?_⟩
     refine jw nD (λt=>!M.contains t) (λt=>((t:Nat):Int)) (by rfl) (λt acc N2 ht hN2=>?_) ?_
     ·show if(!(valD (mkT M) (Sum.inl ((t:Nat):Int):Key)).isSome)=true then _ else _
      rw[l_]
      cases hb:M.contains t with
      | true=>rw[hb]at hN2;exact hN2
      | false=>rw[hb]at hN2;exact hN2
     ·rw[Jn]
      have m0:0∈M:=(L.m 0).mpr ⟨0,zn _,.nil⟩
      refine⟨zp (zs:=(sK 63).map λi=>((i+1:Nat):Int)) (λx hx=>?_) (by rw[f8,C5];decide),λns' up hm=>?_⟩
      ·obtain⟨t,ht,rfl⟩:=Cn.mp hx
       obtain⟨h1,h2⟩:=AC.mp ht
       have h3:=s64 t h1
       have h4:t≠0:=λe=>by
        subst e
        rw[o0.mpr m0]at h2;cases h2
       exact Cn.mpr ⟨t - 1,B9.mpr (by omega),by omega⟩
      ·have:ns'=((sK 64).filter λx=>(sumN c.cl c.kn N).contains x && !M.contains x).map λr=>((r:Nat):Int):=j7 up (j8 (D3 _ Dg)) λx=>by
        rw[hm x,Cn,Cn]
        constructor
        ·rintro⟨t,ht,rfl⟩
         obtain⟨h1,h2⟩:=AC.mp ht
         exact⟨t,AC.mpr ⟨B9.mpr (s64 t h1),by rw[o0.mpr h1,h2];rfl⟩,rfl⟩
        ·rintro⟨t,ht,rfl⟩
         obtain⟨h1,h2⟩:=AC.mp ht
         rw[BP]at h2
         exact⟨t,AC.mpr ⟨o0.mp h2.1,h2.2⟩,rfl⟩
       subst this
       rw[B8]
       refine hQ _ ⟨(sK 64).filter λx=>(sumN c.cl c.kn N).contains x && !M.contains x,(D3 _ Dg).imp λh=>by omega,λx=>?_,rfl⟩
       rw[AC,B9,BP,CL,<- CQ,o0,o0]
       exact⟨λh=>h.2,λh=>⟨s64 x h.1,h⟩⟩
    rintro _ ⟨N',nd',hN',rfl⟩
    obtain⟨u1,u2⟩:=vc N' M mnd
    have L':=L.next hN' u2 nd'
    have nl':=L'.lt hc.k
    refine cutS (λρ=>ρ=[obC C_Cases c,nv r,.dk (mkT (N'.foldl insM M)),.ow (ar N'),nv k,.ow (ar (sumN c.cl c.kn N))]) (λQ hQ=>?_) ?_
    ·refine⟨rfl,by rw[bo];omega,?_⟩
     refine jx (λj acc ρ=>acc=mkT (N'.take j)/\ρ=[obC C_Cases c,nv r,.dk (mkT M),.ow (ar N'),nv k,.ow (ar (sumN c.cl c.kn N))]) (λj acc ρ _ ⟨_,e⟩=>by rw[e];rfl) ?_ ?_ _ ⟨rfl,rfl⟩
     ·rintro j d acc _ N2 hd ⟨rfl,rfl⟩ hN2
      rw[ar,wn]at hd
      obtain⟨x,hx,rfl⟩:=BR.mp hd
      refine hN2 _ _ ⟨?_,rfl⟩
      have hxn:x∉N'.take j:=λh=>by
       obtain⟨i,hi,hil,e⟩:=dG.mp h
       obtain⟨hj,e2⟩:=im.mp hx
       have:=mW nd' hil hj (by rw[e,kt,hx];rfl)
       omega
      show putD (mkT (N'.take j)) (Sum.inl ((x:Nat):Int)) (D.bl true)=_
      rw[mB,if_neg hxn,CD,hx]
      rfl
     ·rintro acc _ ⟨rfl,rfl⟩
      rw[bo,Cf]
      refine⟨?_,?_⟩
      ·have h1:(mkT M).length=M.length:=by unfold mkT;rw[f8]
       have h2:(mkT N').length=N'.length:=by unfold mkT;rw[f8]
       have h3:M.length<=64:=by
        have:=Cu mnd (l₂:=sK 64) λx hx=>by
         obtain⟨n,_,h⟩:=(L.m x).mp hx
         exact B9.mpr (yv hc.k h)
        rwa [C5]at this
       omega
      ·rw[lN]
       exact hQ _ rfl
    rintro _ rfl
    have ek:((k:Nat):Int)+1=((k+1:Nat):Int):=by omega
    have:=hNx [obC C_Cases c,nv r,.dk (mkT (N'.foldl insM M)),.ow (ar N'),nv (k+1),.ow (ar (sumN c.cl c.kn N))] ⟨k+1,_,N',_,L',by omega,u1,rfl⟩ (by show 100 - (((k+1:Nat):Int)).toNat<100 - ((k:Nat):Int).toNat;omega)
    rw[<- Bq ek]at this
    exact this
  ·rw[if_neg (by rw[decide_eq_true_eq];exact hk)]
   have:k=c.lf+1:=by omega
   subst this
   refine hMx _ ⟨M,_,_,_,?_,rfl⟩
   rw[o0]
   exact L.m r
 rintro _ ⟨M,s3,s4,s5,hM,rfl⟩
 have:farN c.cl c.kn c.lf r = !M.contains r:=zi hM
 rw[this,<- l_]at hq
 exact hq
end
def goN (f:Nat->List Nat->List Nat ⊕ D)(sh:List Nat):List Nat->List Nat->List D->List Nat ⊕ D
 | _,[],acc=>.inr (.tup [.str "next",.tup acc])
 | done,r::rest,acc=>match f r (sh++done)with
  | .inl t=>.inl t
  | .inr p=>goN f sh (done++[r]) rest (acc++[p])
def mkM (r:Nat):List Nat ⊕ D->List Nat ⊕ D
 | .inl t=>.inl t
 | .inr p=>.inr (.tup [.str "made",nD r,p])
noncomputable def srN (W:List Nat)(cl:Bool):Nat->List Nat->List Nat->List Nat ⊕ D
 | 0,kn,_=>if bt W kn=[]then .inl kn else .inr (.tup [.str "rows"])
 | l+1,kn,sh=>if bt W kn=[]then .inl kn else if l+1<(bt W kn).length then .inr (.tup [.str "rows"])else
  match (bt W kn).find? (λr=>farN cl kn (l+1) r)with
  | some r=>.inr (.tup [.str "far",nD r])
  | none=>match (bt W kn).find? (λr=>(bT cl kn sh).contains r)with
   | some r=>mkM r (srN W cl l (kn++[r]) sh)
   | none=>goN (λr s=>srN W cl l (kn++[r]) s) sh [] (bT cl kn sh) []
def resD:List Nat ⊕ D->D
 | .inl t=>.tup [.bl true,.lst (ar t)]
 | .inr p=>.tup [.bl false,p]
def pd:List Nat ⊕ D->D
 | .inl t=>.lst (ar t)
 | .inr p=>p
theorem pG (x:List Nat ⊕ D):resD x = .tup [.bl x.isLeft,pd x]:=by cases x <;> rfl
def SSr (C:Addr):Nat->ASp
 | 0=>λ_ _=>False
 | j+1=>λss q=>∃c:Cs,ss=[obC C c]/\CsOk c/\c.lf<=j/\q (.d (resD (srN c.W c.cl c.lf c.kn c.sh))) [obC C c]
def SSrM (C:Addr)(j:Nat):ASp:=λss q=>∃(c:Cs) (r:Nat),ss=[obC C c,nv r]/\CsOk c/\1<=c.lf/\c.lf<=j/\r∈bT c.cl c.kn c.sh/\q (.d (resD (mkM r (srN c.W c.cl (c.lf - 1) (c.kn++[r]) c.sh)))) [obC C c,nv r]
def SSrN (C:Addr)(j:Nat):ASp:=λss q=>∃c:Cs,ss=[obC C c,.ow (ar (bT c.cl c.kn c.sh))]/\CsOk c/\1<=c.lf/\c.lf<=j/\q (.d (resD (goN (λr s=>srN c.W c.cl (c.lf - 1) (c.kn++[r]) s) c.sh [] (bT c.cl c.kn c.sh) []))) [obC C c,.ow (ar (bT c.cl c.kn c.sh))]
theorem gaT2 {i j:Nat}{a b:D}{ρ:En}{M:En->Prop}(h:M (pt (pt ρ i (.vl a)) j (.vl b))):oE 2 (fw (eX i) (fw (eX j) gaNil)) (.tup [a,b]) ρ M:=h
section
variable {P:wE}{w:B2}{K:bi}{mg:Str->Option bn}{base:Heap}
theorem aV (j k:Nat){C_Cases:Addr}(ob_Cases:ObC P w K mg base C_Cases "Cases" ["wished", "clean", "known", "shut", "left"])(dn:DefN K mg "searched_made" df ["cases", "row"])(B:BI mg)(g_Cases_with_row:OkM P w K mg base 3 C_Cases "with_row" ["self", "row", "shut"] (spA K (xv C_Cases)))(g_searched:OkN P w K mg base (k+4) "searched" ["cases"] (spA K ((SSr C_Cases) j))):OkN P w K mg base (k+5) "searched_made" ["cases", "row"] (spA K ((SSrM C_Cases) j)):=by
 refine dn.aok2 (k:=k+4) dW (λj=>j==0||j==1) [.un,.un] (((SSrM C_Cases) j)) rfl (λf cdv A outer s H E hr=>have hu:=cz hr;⟨_,(ao (fk (bM g_searched (hr.mono (by omega)) (ah (yy g_Cases_with_row ob_Cases.cl (hr.mono (by omega)) (pv 0) (ah (pv 1) (ah (dw (pv 0) rfl) aA))) aA)) (bB K (n:=2) rfl (aK (aG (i:=2) dW.nd rfl (by first | exact Or.inl rfl | exact Or.inr rfl)) (aK (aG (i:=3) dW.nd rfl (by first | exact Or.inl rfl | exact Or.inr rfl)) bA))))
  (ao (dq (eF K (pv 2) (λ_=>rfl))
  (aI (aZ (c8 (ah c9 (ah (pv 3) aA)))))
  bx)
  (aI (aZ (c8 (ah c9 (ah (c8 (ah eJ (ah (pv 1) (ah (pv 3) aA)))) aA))))))),(aE (dy (aM (af (fD aa (af aa (af (cv ob_Cases.cl (ob_Cases.na _ (.tail _ (.tail _ (.tail _ (.head _))))) aa) aj))) aj)) (a9 (aD (aq rfl) (aD (aq rfl) aX (λ_ _ _=>aN)) (λ_ _ _=>aN))))
  (aE (cp (fB aa)
  (aP (cb (af bV (af aa aj))))
  bg)
  (aP (cb (af bV (af (cb (af mf (af aa (af aa aj)))) aj))))))⟩) ?_
 rintro ss q ⟨c,r,rfl,hc,hl,hj,hr,hq⟩
 obtain⟨j,rfl⟩:∃j',j=j'+1:=⟨j - 1,by omega⟩
 have kl:=hc.kl
 have l2:(2:Nat)<=1000000:=by decide
 have l3:(3:Nat)<=1000000:=by decide
 obtain⟨fa,fb,_⟩:=(cE hc.k).mp hr
 have hc':=hc.with hl (eM hc.k fa) fb hc.s (by omega)
 refine⟨rfl,rfl,?_⟩
 have red:∀x y:List Nat ⊕ D,x=y->q (.d (resD (mkM r x))) [obC C_Cases c,nv r]->q (.d (resD (mkM r y))) [obC C_Cases c,nv r]:=λx y e h=>e▸h
 refine cutS (λρ=>ρ=[obC C_Cases c,nv r,.vl (.bl (srN c.W c.cl (c.lf - 1) (c.kn++[r]) c.sh).isLeft),.vl (pd (srN c.W c.cl (c.lf - 1) (c.kn++[r]) c.sh))]) (λM hM=>?_) ?_
 ·refine⟨rfl,rfl,rfl,_,rfl,?_⟩
  refine⟨rfl,c,r,_,rfl,by omega,hl,?_⟩
  refine⟨rfl,_,rfl,hc',by show c.lf - 1<=j;omega,?_⟩
  rw[pG]
  exact hM _ rfl
 rintro _ rfl
 cases e:srN c.W c.cl (c.lf - 1) (c.kn++[r]) c.sh with
 | inl t =>
  have hq:=red _ _ e hq
  refine⟨l2,?_⟩
  exact hq
 | inr p =>
  have hq:=red _ _ e hq
  refine⟨l3,?_⟩
  refine⟨l2,?_⟩
  exact hq
theorem aU (j k:Nat){C_Cases:Addr}(ob_Cases:ObC P w K mg base C_Cases "Cases" ["wished", "clean", "known", "shut", "left"])(dn:DefN K mg "searched_next" de ["cases", "free"])(B:BI mg)(g_Cases_with_row:OkM P w K mg base 3 C_Cases "with_row" ["self", "row", "shut"] (spA K (xv C_Cases)))(g_searched:OkN P w K mg base (k+4) "searched" ["cases"] (spA K ((SSr C_Cases) j))):OkN P w K mg base (k+5) "searched_next" ["cases", "free"] (spA K ((SSrN C_Cases) j)):=by
 refine dn.aok2 (k:=k+4) bX (λj=>j==0||j==1) [.un,.un,.un,.un,.un] (((SSrN C_Cases) j)) rfl (λf cdv A outer s H E hr=>have hu:=cz hr;⟨_,(ao (bj (i:=2) bX.nd rfl (by first | exact Or.inl rfl | exact Or.inr rfl) (eK aA))
  (ao (eG Cj rfl (jn K rfl B.enumerate_ (ah (pv 1) aA)) (bB K (n:=2) rfl (aK (aG (i:=3) bX.nd rfl (by first | exact Or.inl rfl | exact Or.inr rfl)) (aK (aG (i:=4) bX.nd rfl (by first | exact Or.inl rfl | exact Or.inr rfl)) bA)))
  (ao (fk (bM g_searched (hr.mono (by omega)) (ah (yy g_Cases_with_row ob_Cases.cl (hr.mono (by omega)) (pv 0) (ah (pv 4) (ah (bh (pL K) (dw (pv 0) rfl) (iL (iD K) (pv 1) kh (kf (pv 3)))) aA))) aA)) (bB K (n:=2) rfl (aK (aG (i:=5) bX.nd rfl (by first | exact Or.inl rfl | exact Or.inr rfl)) (aK (aG (i:=6) bX.nd rfl (by first | exact Or.inl rfl | exact Or.inr rfl)) bA))))
  (ao (dq (eF K (pv 5) (λ_=>rfl))
  (aI (aZ (c8 (ah c9 (ah (pv 6) aA)))))
  bx)
  (aI (dX (fo K Ch Cw Cv cP (pv 2) (ah (pv 6) aA)))))))
  (aI (aZ (c8 (ah c9 (ah (c8 (ah eJ (ah (cN (dD K) rfl B.tuple_ eY (ah (pv 2) aA)) aA))) aA))))))),(aE (a8 (cW aj) rfl)
  (aE (cX (pin:=(λj=>j==1)) (fc (af aa aj)) (a9 (aD (aq rfl) (aD (aq rfl) aX (λ_ _ _=>aN)) (λ_ _ _=>aN)))
  (aE (dy (aM (af (fD aa (af aa (af (aF pM (cv ob_Cases.cl (ob_Cases.na _ (.tail _ (.tail _ (.tail _ (.head _))))) aa) (mh aa md (iw aa))) aj))) aj)) (a9 (aD (aq rfl) (aD (aq rfl) aX (λ_ _ _=>aN)) (λ_ _ _=>aN))))
  (aE (cp (fB aa)
  (aP (cb (af bV (af aa aj))))
  bg)
  (cV (e6 aa (af aa aj))))))
  (aP (cb (af bV (af (cb (af mf (af (cj en (af aa aj)) aj))) aj))))))⟩) ?_
 rintro ss q ⟨c,rfl,hc,hl,hj,hq⟩
 refine⟨rfl,rfl,?_⟩
 obtain⟨j,rfl⟩:∃j',j=j'+1:=⟨j - 1,by omega⟩
 refine cutS (λρ=>ρ=[obC C_Cases c,.ow (ar (bT c.cl c.kn c.sh)),.ow [],.un,.un,.un,.un]) (λM hM=>⟨zn _,hM _ rfl⟩) ?_
 rintro _ rfl
 have kl:=hc.kl
 have hsl:=hc.sl
 have l2:(2:Nat)<=1000000:=by decide
 have hfl:=xc hc
 have hfm:=λr (hr:r∈bT c.cl c.kn c.sh)=>(cE hc.k).mp hr
 generalize hres:goN (λr s=>srN c.W c.cl (c.lf - 1) (c.kn++[r]) s) c.sh [] (bT c.cl c.kn c.sh) []=res at hq
 generalize bT c.cl c.kn c.sh=Fr at *
 refine cutS (λρ=>∃ps s3 s4 s5 s6,res = .inr (.tup [.str "next",.tup ps])/\ps.length<=64/\ρ=[obC C_Cases c,.ow (ar Fr),.ow ps,s3,s4,s5,s6]) (λM hM=>?_) ?_
 ·refine d9 (λk ρ=>∃ps s3 s4 s5 s6,goN (λr s=>srN c.W c.cl (c.lf - 1) (c.kn++[r]) s) c.sh (Fr.take k) (Fr.drop k) ps=res/\ps.length=k/\ρ=[obC C_Cases c,.ow (ar Fr),.ow ps,s3,s4,s5,s6]) (λk ρ _ ⟨_,s3,s4,s5,s6,_,_,e⟩=>by rw[e];rfl) ?_ ?_ _ ⟨[],.un,.un,.un,.un,hres,rfl,rfl⟩
  ·rintro k x _ N hx ⟨ps,s3,s4,s5,s6,hgo,hps,rfl⟩ hN
   obtain⟨y,hy,rfl⟩:=cQ hx
   rw[ar,wn]at hy
   obtain⟨r,hr,rfl⟩:=BR.mp hy
   have hk:=(im.mp hr).1
   have hrF:r∈Fr:=Cb hr
   obtain⟨fa,fb,_⟩:=hfm r hrF
   rw[CU]
   have hs64:∀x∈c.sh++Fr.take k,x<64:=λx hx=>(BO.mp hx).elim (hc.s x) λh=>(eM hc.k (hfm x (Io h)).1).2
   have hc':=hc.with (s:=c.sh++Fr.take k) hl (eM hc.k fa) fb hs64 (by rw[wS,B0];omega)
   have ec:ar c.sh++cutD (ar Fr) none (some ((k:Nat):Int))=ar (c.sh++Fr.take k):=by
    rw[gJ];unfold ar;rw[B7,EL]
   have hil:r<64:=(eM hc.k fa).2
   have hb:(ar c.sh).length+(L2.cutD (ar Fr) none (some ((k:Nat):Int))).length<=1000000:=by
    rw[gJ,bo,B0,bo]
    omega
   have hd:Fr.drop k=r::Fr.drop (k+1):=by
    rw[B_ hk]
    rw[bv hk]at hr
    injection hr with hr
    rw[hr]
   have ht:Fr.take (k+1)=Fr.take k++[r]:=by rw[CD,hr];rfl
   rw[hd]at hgo
   simp only[goN]at hgo
   refine gaT2 ?_
   show aSeq _ _ _ [obC C_Cases c,.ow (ar Fr),.ow ps,.vl (.int (k:Nat)),nv r,s5,s6]
   refine cutS (λρ=>ρ=[obC C_Cases c,.ow (ar Fr),.ow ps,.vl (.int (k:Nat)),nv r,.vl (.bl (srN c.W c.cl (c.lf - 1) (c.kn++[r]) (c.sh++Fr.take k)).isLeft),.vl (pd (srN c.W c.cl (c.lf - 1) (c.kn++[r]) (c.sh++Fr.take k)))]) (λM hM=>?_) ?_
   ·refine⟨rfl,rfl,rfl,_,rfl,hb,?_⟩
    rw[ec]
    refine⟨rfl,c,r,_,rfl,by omega,hl,?_⟩
    refine⟨rfl,_,rfl,hc',by show c.lf - 1<=j;omega,?_⟩
    rw[pG]
    exact hM _ rfl
   rintro _ rfl
   cases e:srN c.W c.cl (c.lf - 1) (c.kn++[r]) (c.sh++Fr.take k)with
   | inl t =>
    rw[e]at hgo
    refine⟨l2,?_⟩
    subst hgo
    exact hq
   | inr p =>
    rw[e]at hgo
    have hpl:ps.length<=1000000:=by omega
    refine⟨hpl,?_⟩
    exact hN _ ⟨ps++[p],.vl (.int (k:Nat)),nv r,.vl (.bl false),.vl p,by rw[ht];exact hgo,by rw[wS,hps];rfl,rfl⟩
  ·rintro _ ⟨ps,s3,s4,s5,s6,hgo,hps,rfl⟩
   rw[bU,bo]at hgo hps
   rw[GU]at hgo
   exact hM _ ⟨ps,s3,s4,s5,s6,hgo.symm,by omega,rfl⟩
 rintro _ ⟨ps,s3,s4,s5,s6,rfl,hps,rfl⟩
 have lp:ps.length<=1000000:=by omega
 refine⟨l2,?_⟩
 refine⟨l2,?_⟩
 exact hq
theorem bC (j k:Nat){C_Cases:Addr}(ob_Cases:ObC P w K mg base C_Cases "Cases" ["wished", "clean", "known", "shut", "left"])(dn:DefN K mg "searched" gS ["cases"])(B:BI mg)(g_Cases_lacking:OkM P w K mg base 3 C_Cases "lacking" ["self"] (spA K (xw C_Cases)))(g_Cases_lacks_too_many:OkM P w K mg base 4 C_Cases "lacks_too_many" ["self"] (spA K (vJ C_Cases)))(g_Cases_free_rows:OkM P w K mg base 3 C_Cases "free_rows" ["self"] (spA K (zG C_Cases)))(g_Cases_is_far:OkM P w K mg base 3 C_Cases "is_far" ["self", "row"] (spA K (SFar C_Cases)))(g_searched_next:OkN P w K mg base (k+5) "searched_next" ["cases", "free"] (spA K ((SSrN C_Cases) j)))(g_searched_made:OkN P w K mg base (k+5) "searched_made" ["cases", "row"] (spA K ((SSrM C_Cases) j))):OkN P w K mg base (k+6) "searched" ["cases"] (spA K ((SSr C_Cases) (j+1))):=by
 refine dn.aok2 (k:=k+5) dz (λj=>j==0) [.un,.un,.un] (((SSr C_Cases) (j+1))) rfl (λf cdv A outer s H E hr=>have hu:=cz hr;⟨_,(ao (bj (i:=1) dz.nd rfl (by first | exact Or.inl rfl | exact Or.inr rfl) (ri g_Cases_lacking ob_Cases.cl (hr.mono (by omega)) (pv 0)))
  (ao (dq (f7 (eF K (pv 1) (λ_=>rfl)))
  (aI (aZ (c8 (ah c9 (ah (dw (pv 0) rfl) aA)))))
  bx)
  (ao (dq (eE (ri g_Cases_lacks_too_many ob_Cases.cl (hr.mono (by omega)) (pv 0)))
  (aI (aZ (c8 (ah c9 (ah (c8 (ah eJ aA)) aA)))))
  bx)
  (ao (eG Cj rfl (bF K (pv 1)) (aG (i:=2) dz.nd rfl (by first | exact Or.inl rfl | exact Or.inr rfl))
  (aI (dq (eE (yy g_Cases_is_far ob_Cases.cl (hr.mono (by omega)) (pv 0) (ah (pv 2) aA)))
  (aI (aZ (c8 (ah c9 (ah (c8 (ah eJ (ah (pv 2) aA))) aA)))))
  bx)))
  (ao (bj (i:=3) dz.nd rfl (by first | exact Or.inl rfl | exact Or.inr rfl) (ri g_Cases_free_rows ob_Cases.cl (hr.mono (by omega)) (pv 0)))
  (ao (eG Cj rfl (bF K (pv 1)) (aG (i:=2) dz.nd rfl (by first | exact Or.inl rfl | exact Or.inr rfl))
  (aI (dq (a_ (lH K) (pv 2) (pv 3) rfl)
  (aI (aZ (bM g_searched_made (hr.mono (by omega)) (ah (pv 0) (ah (pv 2) aA)))))
  bx)))
  (aI (aZ (bM g_searched_next (hr.mono (by omega)) (ah (pv 0) (ah (pv 3) aA))))))))))),(aE (a8 (fD aa aj) rfl)
  (aE (cp (cU (fB aa))
  (aP (cb (af bV (af (cv ob_Cases.cl (ob_Cases.na _ (.tail _ (.tail _ (.head _)))) aa) aj))))
  bg)
  (aE (cp (dZ (fD aa aj))
  (aP (cb (af bV (af (cb (af mf aj)) aj))))
  bg)
  (aE (cX (pin:=(λj=>j==1)) (ba aa) (aq rfl)
  (cp (dZ (fD aa (af aa aj)))
  (aP (cb (af bV (af (cb (af mf (af aa aj))) aj))))
  bg))
  (aE (a8 (fD aa aj) rfl)
  (aE (cX (pin:=(λj=>j==1)) (ba aa) (aq rfl)
  (cp (aO (aF (jB false) aa aa))
  (aP (aM (af aa (af aa aj))))
  bg))
  (aP (aM (af aa (af aa aj))))))))))⟩) ?_
 rintro ss q ⟨c,rfl,hc,hj,hq⟩
 refine⟨rfl,rfl,?_⟩
 have l1:(1:Nat)<=1000000:=by decide
 have l2:(2:Nat)<=1000000:=by decide
 have no0:bt c.W c.kn≠[]->¬c.lf<(bt c.W c.kn).length->1<=c.lf:=λh h'=>by
  have:=Ek.mpr h
  omega
 refine cutS (λρ=>ρ=[obC C_Cases c,.ow (ar (bt c.W c.kn)),.un,.un]) (λM hM=>⟨rfl,rfl,rfl,c,rfl,hc,hM _ rfl⟩) ?_
 rintro _ rfl
 refine cutS (λρ=>bt c.W c.kn≠[]/\ρ=[obC C_Cases c,.ow (ar (bt c.W c.kn)),.un,.un]) (λM hM=>?_) ?_
 ·cases hL:bt c.W c.kn with
  | nil =>
   refine⟨rfl,_,rfl,l2,?_⟩
   have:srN c.W c.cl c.lf c.kn c.sh = .inl c.kn:=by
    cases h:c.lf <;> simp only[srN,hL,if_true]
   rw[this]at hq
   exact hq
  | cons x xs=>exact hM _ ⟨by rw[hL];simp,by rw[hL]⟩
 rintro _ ⟨hL,rfl⟩
 refine cutS (λρ=>¬c.lf<(bt c.W c.kn).length/\ρ=[obC C_Cases c,.ow (ar (bt c.W c.kn)),.un,.un]) (λM hM=>⟨rfl,rfl,rfl,c,rfl,hc,?_⟩) ?_
 ·show if decide (c.lf<(bt c.W c.kn).length)=true then _ else _
  by_cases h:c.lf<(bt c.W c.kn).length
  ·rw[if_pos (decide_eq_true h)]
   refine⟨l1,?_⟩
   refine⟨l2,?_⟩
   have:srN c.W c.cl c.lf c.kn c.sh = .inr (.tup [.str "rows"]):=by
    cases hl:c.lf with
    | zero=>simp only[srN];rw[if_neg hL]
    | succ l=>simp only[srN];rw[if_neg hL,if_pos (by rw[<- hl];exact h)]
   rw[this]at hq
   exact hq
  ·rw[if_neg (by rw[decide_eq_true_eq];exact h)]
   exact hM _ ⟨h,rfl⟩
 rintro _ ⟨hM,rfl⟩
 obtain⟨l,hl⟩:∃l,c.lf=l+1:=⟨c.lf - 1,by have:=no0 hL hM;omega⟩
 have hS:srN c.W c.cl c.lf c.kn c.sh=match (bt c.W c.kn).find? (λr=>farN c.cl c.kn c.lf r)with
  | some r=>.inr (.tup [.str "far",nD r])
  | none=>match (bt c.W c.kn).find? (λr=>(bT c.cl c.kn c.sh).contains r)with
   | some r=>mkM r (srN c.W c.cl (c.lf - 1) (c.kn++[r]) c.sh)
   | none=>goN (λr s=>srN c.W c.cl (c.lf - 1) (c.kn++[r]) s) c.sh [] (bT c.cl c.kn c.sh) []:=by
  rw[hl]at hM ⊢
  simp only[srN]
  rw[if_neg hL,if_neg hM]
  rfl
 have take1:∀ {k:Nat} {r:Nat} (p:Nat->Bool),(bt c.W c.kn)[k]? = some r->((bt c.W c.kn).take k).find? p=none->(((bt c.W c.kn).take (k+1)).find? p=if p r=true then some r else none)/\(p r=true->(bt c.W c.kn).find? p=some r):=by
  intro k r p e h
  have hk:=(im.mp e).1
  have h1:((bt c.W c.kn).take (k+1)).find? p=if p r=true then some r else none:=by
   rw[CD,e,GD,h,DF,CJ]
   cases p r <;> rfl
  refine⟨h1,λhp=>?_⟩
  have:bt c.W c.kn=(bt c.W c.kn).take (k+1)++(bt c.W c.kn).drop (k+1):=(Ea _ _).symm
  rw[this,GD,h1,if_pos hp]
  rfl
 refine cutS (λρ=>(bt c.W c.kn).find? (λr=>farN c.cl c.kn c.lf r)=none/\∃s2,ρ=[obC C_Cases c,.ow (ar (bt c.W c.kn)),s2,.un]) (λM hM=>⟨rfl,?_⟩) ?_
 ·refine d9 (λk ρ=>((bt c.W c.kn).take k).find? (λr=>farN c.cl c.kn c.lf r)=none/\∃s2,ρ=[obC C_Cases c,.ow (ar (bt c.W c.kn)),s2,.un]) (λk ρ _ ⟨_,s2,e⟩=>by rw[e];rfl) ?_ ?_ _ ⟨rfl,.un,rfl⟩
  ·rintro k x _ N hx ⟨hpre,s2,rfl⟩ hN
   rw[ar,wn]at hx
   obtain⟨r,hr,rfl⟩:=BR.mp hx
   have hrW:=(eP hc.w).mp (Cb hr)
   obtain⟨t1,t2⟩:=take1 (λr=>farN c.cl c.kn c.lf r) hr hpre
   refine⟨rfl,rfl,rfl,c,r,rfl,hc,(hc.w r hrW.1).2,?_⟩
   show if farN c.cl c.kn c.lf r=true then _ else _
   by_cases h:farN c.cl c.kn c.lf r=true
   ·rw[if_pos h]
    refine⟨l2,?_⟩
    refine⟨l2,?_⟩
    rw[hS,t2 h]at hq
    exact hq
   ·rw[if_neg h]
    exact hN _ ⟨by rw[t1,if_neg h],_,rfl⟩
  ·rintro _ ⟨h,s2,rfl⟩
   rw[bo,Cf]at h
   exact hM _ ⟨h,s2,rfl⟩
 rintro _ ⟨hF,s2,rfl⟩
 rw[hF]at hS
 refine cutS (λρ=>ρ=[obC C_Cases c,.ow (ar (bt c.W c.kn)),s2,.ow (ar (bT c.cl c.kn c.sh))]) (λM hM=>⟨rfl,rfl,rfl,c,rfl,hc,hM _ rfl⟩) ?_
 rintro _ rfl
 refine cutS (λρ=>(bt c.W c.kn).find? (λr=>(bT c.cl c.kn c.sh).contains r)=none/\∃s2,ρ=[obC C_Cases c,.ow (ar (bt c.W c.kn)),s2,.ow (ar (bT c.cl c.kn c.sh))]) (λM hM=>⟨rfl,?_⟩) ?_
 ·refine d9 (λk ρ=>((bt c.W c.kn).take k).find? (λr=>(bT c.cl c.kn c.sh).contains r)=none/\∃s2,ρ=[obC C_Cases c,.ow (ar (bt c.W c.kn)),s2,.ow (ar (bT c.cl c.kn c.sh))]) (λk ρ _ ⟨_,s2,e⟩=>by rw[e];rfl) ?_ ?_ _ ⟨rfl,s2,rfl⟩
  ·rintro k x _ N hx ⟨hpre,s2,rfl⟩ hN
   rw[ar,wn]at hx
   obtain⟨r,hr,rfl⟩:=BR.mp hx
   obtain⟨t1,t2⟩:=take1 (λr=>(bT c.cl c.kn c.sh).contains r) hr hpre
   have depF:∀e∈ar (bT c.cl c.kn c.sh),e.depth<=60:=λe he=>by
    obtain⟨x,_,rfl⟩:=Cn.mp he
    simp[D.depth]
   refine iX (n:=r) (xs:=bT c.cl c.kn c.sh) rfl ?_
   show if(bT c.cl c.kn c.sh).contains r=true then _ else _
   by_cases h:(bT c.cl c.kn c.sh).contains r=true
   ·rw[if_pos h]
    refine⟨rfl,c,r,rfl,hc,by omega,hj,o0.mp h,?_⟩
    rw[hS,t2 h]at hq
    exact hq
   ·rw[if_neg h]
    exact hN _ ⟨by rw[t1,if_neg h],_,rfl⟩
  ·rintro _ ⟨h,s2,rfl⟩
   rw[bo,Cf]at h
   exact hM _ ⟨h,s2,rfl⟩
 rintro _ ⟨hG,s2,rfl⟩
 rw[hG]at hS
 rw[hS]at hq
 refine⟨rfl,c,rfl,hc,by omega,hj,?_⟩
 exact hq
end
theorem qK {κ:Type} [DecidableEq κ](k k':κ)(d:D):∀(kvs:List (κ×D)),valD (putD kvs k d) k'=if k'=k then some d else valD kvs k':=by
 have rep:∀kvs:List (κ×D),(kvs.any λkv=>decide (kv.1=k))=true->valD (kvs.map λkv=>if kv.1=k then(kv.1,d)else kv) k'=if k'=k then some d else valD kvs k':=by
  intro kvs
  induction kvs with
  | nil=>intro h;cases h
  | cons p r ih =>
   intro h
   rw[wl]
   by_cases e:p.1=k
   ·rw[if_pos e]
    by_cases e':k'=k
    ·rw[if_pos e']
     simp[valD,CJ,e,e']
    ·rw[if_neg e']
     have ne:¬p.1=k':=λz=>e' (z.symm.trans e)
     have tail:∀r:List (κ×D),valD (r.map λkv=>if kv.1=k then(kv.1,d)else kv) k'=valD r k':=by
      intro r
      induction r with
      | nil=>rfl
      | cons q r ih =>
       rw[wl]
       by_cases eq:q.1=k
       ·have nq:¬q.1=k':=λz=>e' (z.symm.trans eq)
        rw[if_pos eq]
        unfold valD at ih ⊢
        rw[CM (by simpa using nq),CM (by simpa using nq)]
        exact ih
       ·rw[if_neg eq]
        by_cases nq:q.1=k'
        ·unfold valD
         rw[Ey (by simpa using nq),Ey (by simpa using nq)]
        ·unfold valD at ih ⊢
         rw[CM (by simpa using nq),CM (by simpa using nq)]
         exact ih
     have t:=tail r
     unfold valD at t ⊢
     rw[CM (by simpa using ne),CM (by simpa using ne)]
     exact t
   ·rw[if_neg e]
    have h':(r.any λkv=>decide (kv.1=k))=true:=by simpa [e] using h
    have ih':=ih h'
    by_cases ek:p.1=k'
    ·have nk:¬k'=k:=λz=>e (ek.trans z)
     rw[if_neg nk]
     unfold valD
     rw[Ey (by simpa using ek),Ey (by simpa using ek)]
    ·unfold valD at ih' ⊢
     rw[CM (by simpa using ek),CM (by simpa using ek)]
     exact ih'
 intro kvs
 unfold putD
 split
 ·rename_i h;exact rep kvs h
 ·rename_i h
  have hn:∀kv∈kvs,¬kv.1=k:=λkv hkv e=>h (Ds.mpr ⟨kv,hkv,decide_eq_true e⟩)
  unfold valD
  rw[GD]
  by_cases e':k'=k
  ·rw[if_pos e']
   have:(kvs.find? λkv=>decide (kv.1=k'))=none:=List.find?_eq_none.mpr λkv hkv=>by rw[e'];simpa using hn kv hkv
   rw[this]
   simp[CJ,e']
  ·rw[if_neg e']
   have:([(k,d)].find? λkv=>decide (kv.1=k'))=none:=by rw[CM (by simpa using λz:k=k'=>e' z.symm)];rfl
   rw[this]
   cases (kvs.find? λkv=>decide (kv.1=k')) <;> rfl
def stN (R:List Nat):List Nat:=(sK R.length).map (fst1 R)
theorem fE (R:List Nat):(stN R).length=R.length:=by simp[stN]
theorem iB {R:List Nat}{t:Nat}(h:t<R.length):(stN R).getD t 0=fst1 R t:=by
 rw[oC (by rw[fE];exact h)]
 simp[stN]
def metD (R:List Nat)(k:Nat)(kvs:List (Key×D)):Prop:=∀r:Nat,valD kvs (.inl (r:Int))=if r∈R.take k then some (nD (R.idxOf r))else none
def vN:ASp:=λss q=>∃R:List Nat,ss=[.vl (.lst (ar R))]/\R.length<=1000/\q (.f (ar (stN R))) [.vl (.lst (ar R))]
def qj (M:Nat->Bool)(kvs:List (Key×D)):Prop:=∀t:Nat,(valD kvs (.inl (t:Int))).isSome=M t
theorem mO {M:Nat->Bool}{kvs:List (Key×D)}(h:qj M kvs)(x:Nat)(d:D):qj (λt=>M t||t==x) (putD kvs (.inl (x:Int)) d):=λt=>by
 rw[qK]
 by_cases e:t=x
 ·subst e;simp
 ·have:¬(Sum.inl (t:Int):Key) = .inl (x:Int):=λz=>e (by injection z with z;omega)
  rw[if_neg this,h t]
  simp[e]
def vI:ASp:=λss q=>∃(N:Net),ss=[.vl (netD N),.ow (ar (stN (a7 N)))]/\jd N/\∀kvs,qj (bH N) kvs->q (.n (.dk kvs)) [.vl (netD N),.ow (ar (stN (a7 N)))]
def STid:ASp:=λss q=>∃N:Net,ss=[.vl (netD N)]/\jd N/\q (.d (netD (tidN N))) [.vl (netD N)]
theorem Bk {i j:Nat}{d1 d2:D}{ρ:En}{k:En->Prop}(h:k (pt (pt ρ i (.vl d1)) j (.vl d2))):oE 2 (fw (eX i) (fw (eX j) gaNil)) (.tup [d1,d2]) ρ k:=h
theorem oi {m:Nat}{f:Nat->Nat}{p:Nat×Nat}{r:List (Nat×Nat)}{k:Nat}{M:Nat->Bool}{t:Nat}:fP m f (p::r) k M t=(fP m f r (k+1) M t||(fP m f r (k+1) M (m+k)&&(t==f p.1||t==f p.2))):=rfl
def canN (cl:Bool)(K:List Nat)(r:Nat)(n:Nat):List (Nat×Nat):=(sK n).flatMap λb=>((sK b).filter λa=>decide (K.getD a 0 ^^^ K.getD b 0=r)&&mayN cl (K.getD a 0) (K.getD b 0)).map λa=>(a,b)
def fjN (cl:Bool)(K:List Nat)(r:Nat):Nat×Nat:=(canN cl K r K.length).getD 0 (0,0)
theorem lU (K:List Nat){i:Nat}(hi:i<=K.length):dS 0 (ar (K.take i))=(sK i).map λa=>.tup [nD a,nD (K.getD a 0)]:=by
 refine DA λk=>?_
 have hl:(K.take i).length=i:=by rw[B0];omega
 rcases BW k i with h | h
 ·have h1:k<(dS 0 (ar (K.take i))).length:=by rw[bU,bo,hl];exact h
  have h2:(dS 0 (ar (K.take i)))[k]? = some ((dS 0 (ar (K.take i)))[k]'h1):=bv h1
  obtain⟨x,hx,e⟩:=cQ h2
  rw[h2,e,CU,wn,E3 h]
  rw[ar,wn,Fq h,bv (by omega)]at hx
  injection hx with hx
  rw[<- hx]
  show _=some (D.tup [nD k,nD (K.getD k 0)])
  rw[kt,bv (show k<K.length by omega)]
  rfl
 ·rw[Dq (by rw[bU,bo,hl];exact h),Dq (by rw[f8,C5];exact h)]
theorem oQ (cl:Bool)(K:List Nat)(r n:Nat):canN cl K r (n+1)=canN cl K r n++((sK n).filter λa=>decide (K.getD a 0 ^^^ K.getD n 0=r)&&mayN cl (K.getD a 0) (K.getD n 0)).map λa=>(a,n):=by
 unfold canN
 rw[DC,E4,Fm,GS,B5]
theorem rO (cl:Bool)(K:List Nat)(r:Nat):∀n,n<=63->(canN cl K r n).length<=n*63
 | 0,_=>by simp[canN]
 | n+1,h=>by
  rw[oQ,wS,f8]
  have:=rO cl K r n (by omega)
  have:=CH (λa=>decide (K.getD a 0 ^^^ K.getD n 0=r)&&mayN cl (K.getD a 0) (K.getD n 0)) (sK n)
  rw[C5]at this
  omega
theorem nc {cl:Bool}{K:List Nat}{r n:Nat}{p:Nat×Nat}:p∈canN cl K r n↔p.1<p.2/\p.2<n/\K.getD p.1 0 ^^^ K.getD p.2 0=r/\mayN cl (K.getD p.1 0) (K.getD p.2 0)=true:=by
 unfold canN
 rw[GR]
 constructor
 ·rintro⟨b,hb,h⟩
  obtain⟨a,ha,rfl⟩:=Cn.mp h
  obtain⟨h1,h2⟩:=AC.mp ha
  rw[BP,decide_eq_true_eq]at h2
  exact⟨B9.mp h1,B9.mp hb,h2⟩
 ·rintro⟨h1,h2,h3,h4⟩
  exact⟨p.2,B9.mpr h2,Cn.mpr ⟨p.1,AC.mpr ⟨B9.mpr h1,by rw[BP,decide_eq_true_eq];exact⟨h3,h4⟩⟩,rfl⟩⟩
theorem vw {cl:Bool}{K:List Nat}{r:Nat}(h:b8 cl K r=true):canN cl K r K.length≠[]:=by
 obtain⟨a,ha,b,hb,ne,hm,rfl⟩:=cq.mp h
 obtain⟨i,hi,rfl⟩:=jR ha
 obtain⟨j,hj,rfl⟩:=jR hb
 rcases Dj i j with q | q | q
 ·exact IQ (nc.mpr ⟨q,hj,rfl,hm⟩:(i,j)∈_)
 ·subst q;exact absurd rfl ne
 ·exact IQ (nc.mpr ⟨q,hi,DU _ _,by rw[og];exact hm⟩:(j,i)∈_)
theorem zg {cl:Bool}{K:List Nat}{r:Nat}(h:canN cl K r K.length≠[]):fjN cl K r∈canN cl K r K.length:=by
 unfold fjN
 rw[kt,bv (Ek.mpr h)]
 exact DX _
def SFj:ASp:=λss q=>∃(K:List Nat) (r:Nat) (cl:Bool),ss=[.vl (.lst (ar K)),nv r,.vl (.bl cl)]/\K.length<=63/\canN cl K r K.length≠[]/\q (.d (bQ (fjN cl K r))) [.vl (.lst (ar K)),nv r,.vl (.bl cl)]
def eO (m:Nat)(cl:Bool)(L W:List Nat):Net:=⟨m,(sK (L.length - m)).map λi=>fjN cl (L.take (m+i)) (L.getD (m+i) 0),W.map L.idxOf⟩
structure Fnd (m:Nat)(cl:Bool)(L W:List Nat):Prop where
 m1:1<=m
 m12:m<=12
 l:L.length<=63
 w1:1<=W.length
 w24:W.length<=24
 w:∀r∈W,r∈L
 ml:m<=L.length
 own:L.take m=az m
 nd:L.Nodup
 nx:∀i,m<=i->i<L.length->b8 cl (L.take i) (L.getD i 0)=true
theorem okJs_of:∀ {js:List (Nat×Nat)} {rows:List Nat},(∀i p,js[i]? = some p->p.1<p.2/\p.2<rows.length+i/\((js.take i).foldl aL rows).getD p.1 0≠((js.take i).foldl aL rows).getD p.2 0)->okJs rows js
 | [],_,_=>trivial
 | p::r,rows,h=>by
  obtain⟨h1,h2,h3⟩:=h 0 p rfl
  refine⟨h1,h2,h3,okJs_of λi q e=>?_⟩
  obtain⟨a,b,c⟩:=h (i+1) q e
  exact⟨a,by rw[cx];omega,c⟩
theorem dO {L:List Nat}{n i:Nat}(h:i<n):(L.take n).getD i 0=L.getD i 0:=by
 rw[kt,kt,Fq h]
theorem mJ {m:Nat}{cl:Bool}{L W:List Nat}(F:Fnd m cl L W){k:Nat}(h:k<L.length - m):(eO m cl L W).js[k]? = some (fjN cl (L.take (m+k)) (L.getD (m+k) 0))/\(fjN cl (L.take (m+k)) (L.getD (m+k) 0)).1<(fjN cl (L.take (m+k)) (L.getD (m+k) 0)).2/\(fjN cl (L.take (m+k)) (L.getD (m+k) 0)).2<m+k /\
  L.getD (fjN cl (L.take (m+k)) (L.getD (m+k) 0)).1 0 ^^^ L.getD (fjN cl (L.take (m+k)) (L.getD (m+k) 0)).2 0=L.getD (m+k) 0/\mayN cl (L.getD (fjN cl (L.take (m+k)) (L.getD (m+k) 0)).1 0) (L.getD (fjN cl (L.take (m+k)) (L.getD (m+k) 0)).2 0)=true:=by
 have hl:(L.take (m+k)).length=m+k:=by rw[B0];omega
 have hm:=zg (vw (F.nx (m+k) (by omega) (by omega)))
 obtain⟨h1,h2,h3,h4⟩:=nc.mp hm
 rw[hl]at h2
 refine⟨?_,h1,h2,?_,?_⟩
 ·unfold eO
  rw[wn,E3 h];rfl
 ·rwa [dO (by omega),dO h2]at h3
 ·rwa [dO (by omega),dO h2]at h4
theorem dQ (m:Nat)(cl:Bool)(L W:List Nat):(eO m cl L W).js.length=L.length - m:=by simp[eO]
theorem jt {m:Nat}{cl:Bool}{L W:List Nat}(F:Fnd m cl L W):∀k,k<=L.length - m->((eO m cl L W).js.take k).foldl aL (az m)=L.take (m+k)
 | 0,_=>F.own.symm
 | k+1,h=>by
  obtain⟨e,h1,h2,h3,_⟩:=mJ F (show k<L.length - m by omega)
  rw[gH e,jt F k (by omega)]
  unfold aL
  rw[dO (by omega),dO h2,h3,<- JX,CD,kt,bv (show m+k<L.length by omega)]
  rfl
theorem lM {m:Nat}{cl:Bool}{L W:List Nat}(F:Fnd m cl L W):a7 (eO m cl L W)=L:=by
 have:=jt F (L.length - m) (li _)
 rw[<- dQ m cl L W,Cf,dQ]at this
 unfold a7
 show List.foldl aL (az m) _=_
 have hml:=F.ml
 rw[this,CC (by omega)]
theorem n6 {m:Nat}{cl:Bool}{L W:List Nat}(F:Fnd m cl L W):jd (eO m cl L W):=by
 have hml:=F.ml
 have hl:=F.l
 refine⟨F.m1,F.m12,by rw[dQ];omega,okJs_of λi p e=>?_,?_,?_,λo ho=>?_⟩
 ·have hi:=(im.mp e).1
  rw[dQ]at hi
  obtain⟨e',h1,h2,h3,h4⟩:=mJ F hi
  rw[e']at e
  injection e with e
  subst e
  refine⟨h1,by rw[cc];exact h2,?_⟩
  have et:=jt F i (by omega)
  show((eO m cl L W).js.take i |>.foldl aL (az m)).getD _ 0≠((eO m cl L W).js.take i |>.foldl aL (az m)).getD _ 0
  rw[et,dO (by omega),dO h2]
  intro z
  have:=mW F.nd (by omega) (by omega) z
  omega
 ·show 1<=(W.map L.idxOf).length
  rw[f8];exact F.w1
 ·show(W.map L.idxOf).length<=24
  rw[f8];exact F.w24
 ·obtain⟨r,hr,rfl⟩:=Cn.mp ho
  have:=E7 (F.w r hr)
  rw[dQ]
  show _<m+_
  omega
theorem qa {m:Nat}{L W:List Nat}(F:Fnd m true L W):ia (eO m true L W)=true:=by
 unfold ia
 rw[lM F,DG]
 intro p hp
 obtain⟨i,hi,e⟩:=C3 hp
 rw[dQ]at hi
 obtain⟨e',h1,h2,h3,h4⟩:=mJ F hi
 rw[bv (by rw[dQ];exact hi),e]at e'
 injection e' with e'
 rw[e']
 unfold mayN at h4
 simpa using h4
theorem sA {m:Nat}{cl:Bool}{L W:List Nat}(F:Fnd m cl L W):(eO m cl L W).os.map (λo=>(a7 (eO m cl L W)).getD o 0)=W:=by
 rw[lM F]
 show(W.map L.idxOf).map _=W
 rw[B8]
 refine(E1 λr hr=>?_).trans (List.map_id W)
 show L.getD (L.idxOf r) 0=r
 have:=E7 (F.w r hr)
 rw[kt,bv this]
 exact Gh this
theorem rK (m:Nat):∀n,(sK n).filter (λi=>decide (m<=i))=(sK (n - m)).map (m + ·)
 | 0=>by simp
 | n+1=>by
  rw[DC,Fg,rK m n]
  by_cases h:m<=n
  ·rw[Fz (by simpa using h),show n+1 - m=(n - m)+1 by omega,DC,B7]
   show _++[n]=_++[m+(n - m)]
   rw[show m+(n - m)=n by omega]
  ·rw[FA (by simpa using h),show n+1 - m=n - m by omega]
   simp
def zF:ASp:=λss q=>∃(m:Nat) (cl:Bool) (L W:List Nat),ss=[.vl (bR m W),.vl (.bl cl),.vl (.lst (ar L))]/\Fnd m cl L W/\q (.d (netD (tidN (eO m cl L W)))) [.vl (bR m W),.vl (.bl cl),.vl (.lst (ar L))]
theorem xU:∀ {L:List Nat} {r k:Nat},k<L.idxOf r->L[k]? ≠ some r
 | [],r,k,h,e=>by simp at e
 | x::L,r,0,h,e=>by
  injection e with e
  subst e
  simp at h
 | x::L,r,k+1,h,e=>by
  rw[List.idxOf_cons]at h
  cases hx:x==r with
  | true=>rw[hx]at h;simp at h
  | false =>
   rw[hx]at h
   exact xU (k:=k) (by simpa using h) (by simpa using e)
section
variable {P:wE}{w:B2}{K:bi}{mg:Str->Option bn}{base:Heap}
theorem sj (dn:DefN K mg "joining" iI ["one", "other"])(B:BI mg):OkN P w K mg base 1 "joining" ["one", "other"] (spA K ny):=by
 refine dn.aok2 (k:=0) se (λj=>j==0||j==1) [] ny rfl (λf cdv A outer s H E hr=>have hu:=cz hr;⟨_,(aI (aZ (c8 (ah (bE (vy rfl) rfl B.min_ A5 (ah (pv 0) (ah (pv 1) aA))) (ah (bE (vz rfl) rfl B.max_ A6 (ah (pv 0) (ah (pv 1) aA))) aA))))),(aP (cb (af (cj xm (af aa (af aa aj))) (af (cj xn (af aa (af aa aj))) aj))))⟩) ?_
 rintro ss q ⟨a,b,rfl,hq⟩
 refine⟨rfl,rfl,by simp,?_⟩
 show q (.d (.tup [.int (if(b:Int)<(a:Int)then(b:Int)else(a:Int)),.int (if(b:Int) > (a:Int)then(b:Int)else(a:Int))])) [nv a,nv b]
 rw[minI,maxI];exact hq
theorem nX (dn:DefN K mg "all_words" fH ["net", "words"])(B:BI mg)(g_joined:OkN P w K mg base 1 "joined" ["one", "other"] (spA K il)):OkN P w K mg base 2 "all_words" ["net", "words"] (spA K SAll):=by
 refine dn.aok2 (k:=1) cC (λj=>j==0||j==1) [.un,.un,.un,.un,.un,.un] SAll rfl (λf cdv A outer s H E hr=>have hu:=cz hr;⟨_,(ao (fk (pv 0) (bB K (n:=3) rfl (aK (aG (i:=2) cC.nd rfl (by first | exact Or.inl rfl | exact Or.inr rfl)) (aK (aG (i:=3) cC.nd rfl (by first | exact Or.inl rfl | exact Or.inr rfl)) (aK (aG (i:=4) cC.nd rfl (by first | exact Or.inl rfl | exact Or.inr rfl)) bA)))))
  (ao (bj (i:=5) cC.nd rfl (by first | exact Or.inl rfl | exact Or.inr rfl) (cN (l7 K) rfl B.list_ nh (ah (pv 1) aA)))
  (ao (eG Cj rfl (bF K (pv 3)) (bB K (n:=2) rfl (aK (aG (i:=6) cC.nd rfl (by first | exact Or.inl rfl | exact Or.inr rfl)) (aK (aG (i:=7) cC.nd rfl (by first | exact Or.inl rfl | exact Or.inr rfl)) bA)))
  (aI (dX (fo K Ch Cw Cv cP (pv 5) (ah (bM g_joined (hr.mono (by decide)) (ah (bW (aT K) (pv 5) (pv 6) (λ_ _=>rfl)) (ah (bW (aT K) (pv 5) (pv 7) (λ_ _=>rfl)) aA))) aA)))))
  (aI (aZ (pv 5)))))),(aE (dy aa (a9 (aD (aq rfl) (aD (aq rfl) (aD (aq rfl) aX (λ_ _ _=>aN)) (λ_ _ _=>aN)) (λ_ _ _=>aN))))
  (aE (a8 (cj oP (af aa aj)) rfl)
  (aE (cX (pin:=(λj=>j==3)) (ba aa) (a9 (aD (aq rfl) (aD (aq rfl) aX (λ_ _ _=>aN)) (λ_ _ _=>aN)))
  (cV (e6 aa (af (aM (af (aF bb aa aa) (af (aF bb aa aa) aj))) aj))))
  (aP aa))))⟩) ?_
 rintro ss q ⟨N,ws,rfl,hix,hz,hq⟩
 refine⟨rfl,rfl,?_⟩
 refine iZ bQ (λk ρ=>∃s6 s7,ρ=[.vl (netD N),.vl (.lst (ar ws)),nv N.m,.vl (.tup (N.js.map bQ)),.vl (.tup (ar N.os)),.ow (ar ((N.js.take k).foldl aL ws)),s6,s7]) (λ_ _ _=>trivial) ?_ ?_ ⟨_,_,rfl⟩
 ·rintro k p _ M hk ⟨s6,s7,rfl⟩ hM
  obtain⟨q1,q2⟩:=fL hix hk
  have hlen:((N.js.take k).foldl aL ws).length=ws.length+k:=by
   have:=(im.mp hk).1
   rw[fR,B0];omega
  have hi:k<N.js.length:=(im.mp hk).1
  refine bz rfl (by omega) (bz rfl (by omega) ⟨rfl,_,_,rfl,?_,hM _ ⟨nv p.1,nv p.2,?_⟩⟩)
  ·rw[f8,hlen];omega
  ·rw[gH hk,g5];rfl
 ·rintro ρ ⟨s6,s7,rfl⟩
  rw[Cf]
  exact hq
theorem si (dn:DefN K mg "rows_of" iH ["net"])(B:BI mg)(g_all_words:OkN P w K mg base 2 "all_words" ["net", "words"] (spA K SAll))(g_own_rows:OkN P w K mg base 1 "own_rows" ["many"] (spA K SOwn)):OkN P w K mg base 3 "rows_of" ["net"] (spA K qE):=by
 refine dn.aok2 (k:=2) sd (λj=>j==0) [] qE rfl (λf cdv A outer s H E hr=>have hu:=cz hr;⟨_,(aI (aZ (bM g_all_words (hr.mono (by decide)) (ah (pv 0) (ah (bM g_own_rows (hr.mono (by decide)) (ah (bW (aT K) (pv 0) aJ (λ_ _=>rfl)) aA)) aA))))),(aP (aM (af aa (af (aM (af (aF bb aa aH) aj)) aj))))⟩) ?_
 rintro ss q ⟨N,rfl,hix,hz,hq⟩
 refine⟨rfl,rfl,?_⟩
 refine e_ rfl rfl ⟨rfl,N.m,rfl,by omega,rfl,N,az N.m,rfl,?_,?_,hq⟩
 ·rw[cc];exact hix
 ·rw[cc];exact hz
theorem k_ (dn:DefN K mg "first_alike" d8 ["rows"])(B:BI mg):OkN P w K mg base 1 "first_alike" ["rows"] (spA K vN):=by
 refine dn.aok2 (k:=0) cM (λj=>j==0) [.un,.un,.un,.un] vN rfl (λf cdv A outer s H E hr=>have hu:=cz hr;⟨_,(ao (bj (i:=1) cM.nd rfl (by first | exact Or.inl rfl | exact Or.inr rfl) wB)
  (ao (bj (i:=2) cM.nd rfl (by first | exact Or.inl rfl | exact Or.inr rfl) (eK aA))
  (ao (eG Cj rfl (jn K rfl B.enumerate_ (ah (pv 0) aA)) (bB K (n:=2) rfl (aK (aG (i:=3) cM.nd rfl (by first | exact Or.inl rfl | exact Or.inr rfl)) (aK (aG (i:=4) cM.nd rfl (by first | exact Or.inl rfl | exact Or.inr rfl)) bA)))
  (aI (dX (fo K Ch Cw Cv cP (pv 2) (ah (wA (pv 1) (pv 4) (pv 3) ⟨rfl,rfl,rfl,rfl⟩) aA)))))
  (aI (aZ (pv 2)))))),(aE (a8 vZ rfl)
  (aE (a8 (cW aj) rfl)
  (aE (cX (pin:=(λj=>j==0)) (fc (af aa aj)) (a9 (aD (aq rfl) (aD (aq rfl) aX (λ_ _ _=>aN)) (λ_ _ _=>aN)))
  (cV (e6 aa (af (tE aa aa aa) aj))))
  (aP aa))))⟩) ?_
 rintro ss q ⟨R,rfl,hz,hq⟩
 refine⟨rfl,rfl,?_⟩
 refine⟨by simp,?_⟩
 refine d9 (λk ρ=>k<=R.length/\∃kvs s3 s4,ρ=[.vl (.lst (ar R)),.dk kvs,.ow (ar ((stN R).take k)),s3,s4]/\metD R k kvs/\kvs.length<=k) (λ_ _ _ _=>trivial) ?_ ?_ _ ⟨zn _,[],.un,.un,rfl,λr=>by simp[valD],li _⟩
 ·rintro k d _ M hk ⟨_,kvs,s3,s4,rfl,hm,hkl⟩ hM
  obtain⟨x,ex,rfl⟩:=cQ hk
  rw[wn]at ex
  obtain⟨r,er,rfl⟩:=BR.mp ex
  have lt:k<R.length:=(im.mp er).1
  have er':R.getD k 0=r:=by rw[kt,er];rfl
  have ef:fst1 R k=R.idxOf r:=by unfold fst1;rw[er']
  have et:R.take (k+1)=R.take k++[r]:=by rw[CD,er];rfl
  have es:(stN R).take (k+1)=(stN R).take k++[R.idxOf r]:=by
   rw[CD]
   congr 1
   have:(stN R)[k]? = some (fst1 R k):=by simp[stN,lt]
   rw[this,ef];rfl
  have hsl:(ar ((stN R).take k)).length<=1000:=by rw[ft,B0,fE];omega
  rw[CU]
  refine Bk ?_
  refine w_ (k:=.inl (r:Int)) rfl (by omega) (λx hx=>?_) λhx=>?_
  ·have h1:=hm r
   rw[hx]at h1
   by_cases hr:r∈R.take k
   ·rw[if_pos hr]at h1
    cases h1
    refine⟨by omega,hM _ ⟨by omega,kvs,nv k,nv r,?_,λr'=>?_,by omega⟩⟩
    ·rw[es,dC];rfl
    ·rw[hm r',et]
     by_cases e:r'=r
     ·subst e;rw[if_pos hr,if_pos (BS _ hr)]
     ·congr 1
      simp[e]
   ·rw[if_neg hr]at h1;cases h1
  ·have h1:=hm r
   rw[hx]at h1
   by_cases hr:r∈R.take k
   ·rw[if_pos hr]at h1;cases h1
   ·have ei:R.idxOf r=k:=by
     have l1:R.idxOf r<=k:=by rw[<- ef];exact va lt
     rcases BW (R.idxOf r) k with q | q
     ·exfalso
      refine hr ?_
      have g:=rH (R:=R) (t:=k) lt
      rw[ef,er',oC (by omega)]at g
      exact List.mem_iff_getElem.mpr ⟨R.idxOf r,by rw[B0];omega,by rw[GC];exact g⟩
     ·omega
    refine⟨by omega,hM _ ⟨by omega,putD kvs (.inl (r:Int)) (nD k),nv k,nv r,?_,λr'=>?_,?_⟩⟩
    ·rw[es,dC,ei];rfl
    ·rw[qK,et]
     by_cases e:r'=r
     ·subst e
      rw[if_pos rfl,if_pos (by simp),ei]
     ·have ne:¬(Sum.inl (r':Int):Key) = .inl (r:Int):=λz=>e (by injection z with z;omega)
      rw[if_neg ne,hm r']
      congr 1
      simp[e]
    ·have:=g0 kvs (.inl (r:Int)) (nD k);omega
 ·rintro _ ⟨_,kvs,s3,s4,rfl,hm,hkl⟩
  have e:(dS 0 (ar R)).length=R.length:=by rw[bU,ft]
  rw[e,CC (by rw[fE];exact li _)]
  exact hq
theorem pP (dn:DefN K mg "leant_on" fh ["net", "stands"])(B:BI mg):OkN P w K mg base 1 "leant_on" ["net", "stands"] (spA K vI):=by
 refine dn.aok2 (k:=0) cB (λj=>j==0||j==1) [.un,.un,.un,.un,.un,.un,.un] vI rfl (λf cdv A outer s H E hr=>have hu:=cz hr;⟨_,(ao (fk (pv 0) (bB K (n:=3) rfl (aK (aG (i:=2) cB.nd rfl (by first | exact Or.inl rfl | exact Or.inr rfl)) (aK (aG (i:=3) cB.nd rfl (by first | exact Or.inl rfl | exact Or.inr rfl)) (aK (aG (i:=4) cB.nd rfl (by first | exact Or.inl rfl | exact Or.inr rfl)) bA)))))
  (ao (q8 (i:=5) ["out"] [1] cB.nd rfl (by first | exact Or.inl rfl | exact Or.inr rfl) rfl (Blk.of (aw fh) kA) (bF K (pv 4)) (λ_ _ _ _ nd=>(aG (i:=0) nd rfl (by first | exact Or.inl rfl | exact Or.inr rfl))) (λ_ _ _ _=>dh) (λ_ _ _ _=>(bW (aT K) (pv 1) (pv 0) (λ_ _=>rfl))) (λ_ _ _ _=>c9))
  (ao (eG Cj rfl (Ac K rfl B.reversed_ (ah (Af K rfl rfl B.list_ rfl B.enumerate_ (ah (pv 3) aA)) aA)) (bB K (n:=2) rfl (aK (aG (i:=6) cB.nd rfl (by first | exact Or.inl rfl | exact Or.inr rfl)) (aK (bB K (n:=2) rfl (aK (aG (i:=7) cB.nd rfl (by first | exact Or.inl rfl | exact Or.inr rfl)) (aK (aG (i:=8) cB.nd rfl (by first | exact Or.inl rfl | exact Or.inr rfl)) bA))) bA)))
  (aI (dq (q5 (xP hu (bh fq (pv 2) (pv 6)) (pv 5)))
  (ao (ke hu (pv 5) (bW (aT K) (pv 1) (pv 7) (λ_ _=>rfl)) c9 rfl)
  (aI (ke hu (pv 5) (bW (aT K) (pv 1) (pv 8) (λ_ _=>rfl)) c9 rfl)))
  bx)))
  (aI (aZ (pv 5)))))),(aE (dy aa (a9 (aD (aq rfl) (aD (aq rfl) (aD (aq rfl) aX (λ_ _ _=>aN)) (λ_ _ _=>aN)) (λ_ _ _=>aN))))
  (aE (nG (jZ (ba aa) (aq rfl) cw (aF bb aa aa) bV) rfl)
  (aE (cX (pin:=(λ_=>false)) (v5 (af (yd (af aa aj)) aj)) (a9 (aD (aq rfl) (aD (a9 (aD (aq rfl) (aD (aq rfl) aX (λ_ _ _=>aN)) (λ_ _ _=>aN))) aX (λ_ _ _=>xW)) (λ_ _ _=>aN)))
  (cp (aO (tF (aF bc aa aa) aa))
  (aE (qS bV aa (aF bb aa aa))
  (qS bV aa (aF bb aa aa)))
  bg))
  (aP aa))))⟩) ?_
 rintro ss q ⟨N,rfl,hN,hq⟩
 have Rw:=lE hN
 have hl:(a7 N).length=N.m+N.js.length:=iK N
 have jl:=hN.jl
 have m12:=hN.m12
 have o24:=hN.o24
 refine⟨rfl,rfl,?_⟩
 refine cutS (λρ=>ρ=[.vl (netD N),.ow (ar (stN (a7 N))),nv N.m,.vl (.tup (N.js.map L2.bQ)),.vl (.tup (ar N.os)),.un,.un,.un,.un]) (λM hM=>hM _ rfl) ?_
 rintro _ rfl
 refine cutS (λρ=>∃kvs,ρ=[.vl (netD N),.ow (ar (stN (a7 N))),nv N.m,.vl (.tup (N.js.map L2.bQ)),.vl (.tup (ar N.os)),.dk kvs,.un,.un,.un]/\qj (λt=>(N.os.map (fT N)).contains t) kvs/\kvs.length<=24) (λM hM=>?_) ?_
 ·refine⟨by rw[ft];omega,?_⟩
  refine jx (λk acc ρ=>ρ=[.vl (netD N),.ow (ar (stN (a7 N))),nv N.m,.vl (.tup (N.js.map L2.bQ)),.vl (.tup (ar N.os)),.un,.un,.un,.un]/\qj (λt=>((N.os.take k).map (fT N)).contains t) acc/\acc.length<=k) (λ_ _ _ _ _=>trivial) ?_ ?_ _ ⟨rfl,λt=>by simp[valD],li _⟩
  ·rintro k d acc _ M2 hk ⟨rfl,hka,hla⟩ hM2
   rw[wn]at hk
   obtain⟨o,eo,rfl⟩:=BR.mp hk
   have ho:=hN.os o (Cb eo)
   refine bz rfl (by rw[fE];omega) (hM2 _ _ ⟨rfl,?_,?_⟩)
   ·rw[iB (by omega)]
    have:=mO hka (fst1 (a7 N) o) (.bl true)
    intro t
    rw[this t,CD,eo,DF,B7,wl,Dh]
    rw[D8]
    simp[fT]
   ·have:=g0 acc (.inl (((stN (a7 N)).getD o 0:Nat):Int)) (.bl true);omega
  ·rintro acc _ ⟨rfl,hka,hla⟩
   rw[ft]at hka hla
   rw[Cf]at hka
   exact hM _ ⟨acc,rfl,hka,by omega⟩
 rintro _ ⟨kvs,rfl,hk0,hl0⟩
 refine d9 (λk ρ=>k<=N.js.length/\∃kvs s6 s7 s8,ρ=[.vl (netD N),.ow (ar (stN (a7 N))),nv N.m,.vl (.tup (N.js.map L2.bQ)),.vl (.tup (ar N.os)),.dk kvs,s6,s7,s8]/\qj (fP N.m (fT N) (N.js.drop (N.js.length - k)) (N.js.length - k) λt=>(N.os.map (fT N)).contains t) kvs/\kvs.length<=24+2*k) (λ_ _ _ _=>trivial) ?_ ?_ _ ⟨zn _,kvs,.un,.un,.un,rfl,?_,by omega⟩
 ·rintro k d _ M hk ⟨_,kvs,s6,s7,s8,rfl,hka,hla⟩ hM
  have lk:k<N.js.length:=by
   have:=(im.mp hk).1
   rwa [E2,bU,f8]at this
  rw[Ij (by rw[bU,f8];exact lk),bU,f8]at hk
  obtain⟨x,ex,rfl⟩:=cQ hk
  rw[wn]at ex
  obtain⟨p,ep,rfl⟩:=BR.mp ex
  obtain⟨a1,a2,a3⟩:=sG Rw ep
  rw[CU]
  have ed:N.js.drop (N.js.length - (k+1))=p::N.js.drop (N.js.length - k):=by
   rw[show N.js.length - (k+1)=N.js.length - 1 - k by omega,B_ (by omega),show N.js.length - 1 - k+1=N.js.length - k by omega]
   congr 1
   exact(im.mp ep).2
  have ek:N.js.length - (k+1)+1=N.js.length - k:=by omega
  refine tM (d2:=nD p.1) (d3:=nD p.2) ?_
  show aIfS _ _ _ _ [.vl (netD N),.ow (ar (stN (a7 N))),nv N.m,.vl (.tup (N.js.map L2.bQ)),.vl (.tup (ar N.os)),.dk kvs,nv (N.js.length - 1 - k),nv p.1,nv p.2]
  have ht:=hka (N.m+(N.js.length - (k+1)))
  have ec:((N.m:Int)+((N.js.length - 1 - k:Nat):Int))=((N.m+(N.js.length - (k+1)):Nat):Int):=by omega
  refine ite2 (λh=>?_) λh=>?_
  ·have h':(valD kvs (.inl ((N.m:Int)+((N.js.length - 1 - k:Nat):Int)))).isSome=true:=h
   rw[ec,ht]at h'
   refine bz rfl (by rw[fE];omega) ⟨by omega,?_⟩
   refine bz rfl (by rw[fE];omega) ⟨?_,hM _ ⟨by omega,_,nv (N.js.length - 1 - k),nv p.1,nv p.2,rfl,?_,?_⟩⟩
   ·have:=g0 kvs (.inl (((stN (a7 N)).getD p.1 0:Nat):Int)) (.bl true);omega
   ·rw[iB (by omega),iB (by omega)]
    have:=mO (mO hka (fst1 (a7 N) p.1) (.bl true)) (fst1 (a7 N) p.2) (.bl true)
    intro t
    rw[this t,ed,oi,ek,h']
    simp only[Du,Bool.or_assoc]
    rfl
   ·have h1:=g0 kvs (.inl (((stN (a7 N)).getD p.1 0:Nat):Int)) (.bl true)
    have h2:=g0 (putD kvs (.inl (((stN (a7 N)).getD p.1 0:Nat):Int)) (.bl true)) (.inl (((stN (a7 N)).getD p.2 0:Nat):Int)) (.bl true)
    omega
  ·have h':¬(valD kvs (.inl ((N.m:Int)+((N.js.length - 1 - k:Nat):Int)))).isSome=true:=h
   rw[ec,ht]at h'
   refine hM _ ⟨by omega,kvs,nv (N.js.length - 1 - k),nv p.1,nv p.2,rfl,λt=>?_,by omega⟩
   rw[hka t,ed,oi,ek,CQ _ |>.mp h',DY,Gf]
 ·rintro _ ⟨_,kvs,s6,s7,s8,rfl,hka,hla⟩
  have e:((dS 0 (N.js.map L2.bQ)).reverse).length=N.js.length:=by rw[E2,bU,f8]
  rw[e,Ih,Ho]at hka
  exact hq kvs hka
 ·rw[GK,GU]
  exact hk0
theorem uv (dn:DefN K mg "tidied" iG ["net"])(B:BI mg)(g_first_alike:OkN P w K mg base 1 "first_alike" ["rows"] (spA K vN))(g_leant_on:OkN P w K mg base 1 "leant_on" ["net", "stands"] (spA K vI))(g_rows_of:OkN P w K mg base 3 "rows_of" ["net"] (spA K qE))(g_joining:OkN P w K mg base 1 "joining" ["one", "other"] (spA K ny)):OkN P w K mg base 4 "tidied" ["net"] (spA K STid):=by
 refine dn.aok2 (k:=3) cA (λj=>j==0) [.un,.un,.un,.un,.un,.un,.un,.un,.un,.un] STid rfl (λf cdv A outer s H E hr=>have hu:=cz hr;⟨_,(ao (fk (pv 0) (bB K (n:=3) rfl (aK (aG (i:=1) cA.nd rfl (by first | exact Or.inl rfl | exact Or.inr rfl)) (aK (aG (i:=2) cA.nd rfl (by first | exact Or.inl rfl | exact Or.inr rfl)) (aK (aG (i:=3) cA.nd rfl (by first | exact Or.inl rfl | exact Or.inr rfl)) bA)))))
  (ao (bj (i:=4) cA.nd rfl (by first | exact Or.inl rfl | exact Or.inr rfl) (bM g_first_alike (hr.mono (by decide)) (ah (bM g_rows_of (hr.mono (by decide)) (ah (pv 0) aA)) aA)))
  (ao (bj (i:=5) cA.nd rfl (by first | exact Or.inl rfl | exact Or.inr rfl) (bM g_leant_on (hr.mono (by decide)) (ah (pv 0) (ah (pv 4) aA))))
  (ao (bj (i:=6) cA.nd rfl (by first | exact Or.inl rfl | exact Or.inr rfl) (cN (sV rfl) rfl B.list_ nh (ah (cN qz rfl B.range_ xp (ah (pv 1) aA)) aA)))
  (ao (bj (i:=7) cA.nd rfl (by first | exact Or.inl rfl | exact Or.inr rfl) (eK aA))
  (ao (eG Cj rfl (wu K rfl B.enumerate_ (ah (pv 2) aA)) (bB K (n:=2) rfl (aK (aG (i:=8) cA.nd rfl (by first | exact Or.inl rfl | exact Or.inr rfl)) (aK (bB K (n:=2) rfl (aK (aG (i:=9) cA.nd rfl (by first | exact Or.inl rfl | exact Or.inr rfl)) (aK (aG (i:=10) cA.nd rfl (by first | exact Or.inl rfl | exact Or.inr rfl)) bA))) bA)))
  (ao (dX (fo K Ch Cw Cv cP (pv 6) (ah (bh fq (pv 1) (bE (cg K) rfl B.len_ fA (ah (pv 7) aA))) aA)))
  (aI (dq (q5 (xP hu (bh fq (pv 1) (pv 8)) (pv 5)))
  (aI (dX (fo K Ch Cw Cv cP (pv 7) (ah (bM g_joining (hr.mono (by decide)) (ah (bW (aT K) (pv 6) (bW (aT K) (pv 4) (pv 9) (λ_ _=>rfl)) (λ_ _=>rfl)) (ah (bW (aT K) (pv 6) (bW (aT K) (pv 4) (pv 10) (λ_ _=>rfl)) (λ_ _=>rfl)) aA))) aA))))
  bx))))
  (aI (aZ (c8 (ah (pv 1) (ah (cN (dD K) rfl B.tuple_ eY (ah (pv 7) aA)) (ah (cN (dD K) rfl B.tuple_ eY (ah (dY ["out"] [6,4] rfl (Blk.of (aw iG) nZ) (bF K (pv 3)) (λ_ _ _ _ nd=>(aG (i:=0) nd rfl (by first | exact Or.inl rfl | exact Or.inr rfl))) (λ_ _ _ _=>dh) (λ_ _ _ _=>(bW (aT K) (pv 1) (bW (aT K) (pv 2) (pv 0) (λ_ _=>rfl)) (λ_ _=>rfl)))) aA)) aA)))))))))))),(aE (dy aa (a9 (aD (aq rfl) (aD (aq rfl) (aD (aq rfl) aX (λ_ _ _=>aN)) (λ_ _ _=>aN)) (λ_ _ _=>aN))))
  (aE (a8 (aM (af (aM (af aa aj)) aj)) rfl)
  (aE (a8 (aM (af aa (af aa aj))) rfl)
  (aE (a8 (vY aa) rfl)
  (aE (a8 (cW aj) rfl)
  (aE (cX (pin:=(λj=>j==2)) (rY (af aa aj)) (a9 (aD (aq rfl) (aD (a9 (aD (aq rfl) (aD (aq rfl) aX (λ_ _ _=>aN)) (λ_ _ _=>aN))) aX (λ_ _ _=>xW)) (λ_ _ _=>aN)))
  (aE (cV (e6 aa (af (aF bc aa (cj dM (af aa aj))) aj)))
  (cp (aO (tF (aF bc aa aa) aa))
  (cV (e6 aa (af (aM (af (aF bb aa (aF bb aa aa)) (af (aF bb aa (aF bb aa aa)) aj))) aj)))
  bg)))
  (aP (cb (af aa (af (cj en (af aa aj)) (af (cj en (af (b6 (ba aa) (aq rfl) cw (aF bb aa (aF bb aa aa))) aj)) aj)))))))))))⟩) ?_
 rintro ss q ⟨N,rfl,hN,hq⟩
 have Rw:=lE hN
 have hl:(a7 N).length=N.m+N.js.length:=iK N
 have jl:=hN.jl
 have m12:=hN.m12
 have o24:=hN.o24
 refine⟨rfl,rfl,?_⟩
 refine cutS (λρ=>ρ=[.vl (netD N),nv N.m,.vl (.tup (N.js.map L2.bQ)),.vl (.tup (ar N.os)),.un,.un,.un,.un,.un,.un,.un]) (λM hM=>hM _ rfl) ?_
 rintro _ rfl
 refine cutS (λρ=>ρ=[.vl (netD N),nv N.m,.vl (.tup (N.js.map L2.bQ)),.vl (.tup (ar N.os)),.ow (ar (stN (a7 N))),.un,.un,.un,.un,.un,.un]) (λM hM=>⟨rfl,N,rfl,Rw.ix,by omega,rfl,a7 N,rfl,by omega,hM _ rfl⟩) ?_
 rintro _ rfl
 refine cutS (λρ=>∃kvs,ρ=[.vl (netD N),nv N.m,.vl (.tup (N.js.map L2.bQ)),.vl (.tup (ar N.os)),.ow (ar (stN (a7 N))),.dk kvs,.un,.un,.un,.un,.un]/\qj (bH N) kvs) (λM hM=>⟨rfl,N,rfl,hN,λkvs hk=>hM _ ⟨kvs,rfl,hk⟩⟩) ?_
 rintro _ ⟨kvs,rfl,hk⟩
 refine cutS (λρ=>ρ=[.vl (netD N),nv N.m,.vl (.tup (N.js.map L2.bQ)),.vl (.tup (ar N.os)),.ow (ar (stN (a7 N))),.dk kvs,.ow (ar (sK N.m)),.un,.un,.un,.un]) (λM hM=>⟨⟨by omega,by omega⟩,hM _ (by rw[Cr];rfl)⟩) ?_
 rintro _ rfl
 refine cutS (λρ=>ρ=[.vl (netD N),nv N.m,.vl (.tup (N.js.map L2.bQ)),.vl (.tup (ar N.os)),.ow (ar (stN (a7 N))),.dk kvs,.ow (ar (sK N.m)),.ow [],.un,.un,.un]) (λM hM=>⟨by simp,hM _ rfl⟩) ?_
 rintro _ rfl
 refine cutS (λρ=>∃s8 s9 s10,ρ=[.vl (netD N),nv N.m,.vl (.tup (N.js.map L2.bQ)),.vl (.tup (ar N.os)),.ow (ar (stN (a7 N))),.dk kvs,.ow (ar ((sK (N.m+N.js.length)).map (nT N))),.ow ((tidN N).js.map L2.bQ),s8,s9,s10]) (λM hM=>?_) ?_
 ·refine d9 (λk ρ=>k<=N.js.length/\∃s8 s9 s10,ρ=[.vl (netD N),nv N.m,.vl (.tup (N.js.map L2.bQ)),.vl (.tup (ar N.os)),.ow (ar (stN (a7 N))),.dk kvs,.ow (ar ((sK (N.m+k)).map (nT N))),.ow ((jI N.m (fT N) (bH N) N.js k).map L2.bQ),s8,s9,s10]) (λ_ _ _ _=>trivial) ?_ ?_ _ ⟨zn _,.un,.un,.un,?_⟩
  ·rintro k d _ M2 hk' ⟨_,s8,s9,s10,rfl⟩ hM2
   obtain⟨x,ex,rfl⟩:=cQ hk'
   rw[wn]at ex
   obtain⟨p,ep,rfl⟩:=BR.mp ex
   obtain⟨a1,a2,a3⟩:=sG Rw ep
   obtain⟨f1,f2⟩:=f_lt Rw ep
   rw[CU]
   have enk:nT N (N.m+k)=N.m+nkT N.m (bH N) k:=by unfold nT nbT;rw[if_neg (by omega)];congr 2;omega
   have ers:(sK (N.m+(k+1))).map (nT N)=(sK (N.m+k)).map (nT N)++[nT N (N.m+k)]:=by
    rw[<- JX,DC,B7];rfl
   have eln:(N.m:Int)+(((jI N.m (fT N) (bH N) N.js k).map L2.bQ).length:Int)=((nT N (N.m+k):Nat):Int):=by
    rw[f8,fQ,enk];omega
   have ejs:N.js.getD k (0,0)=p:=by rw[kt,ep];rfl
   have nkl:=yN (m:=N.m) (L:=bH N) k
   refine tM (d2:=nD p.1) (d3:=nD p.2) ?_
   show aSeq _ _ _ [.vl (netD N),nv N.m,.vl (.tup (N.js.map L2.bQ)),.vl (.tup (ar N.os)),.ow (ar (stN (a7 N))),.dk kvs,.ow (ar ((sK (N.m+k)).map (nT N))),.ow ((jI N.m (fT N) (bH N) N.js k).map L2.bQ),nv k,nv p.1,nv p.2]
   refine cutS (λρ=>ρ=[.vl (netD N),nv N.m,.vl (.tup (N.js.map L2.bQ)),.vl (.tup (ar N.os)),.ow (ar (stN (a7 N))),.dk kvs,.ow (ar ((sK (N.m+(k+1))).map (nT N))),.ow ((jI N.m (fT N) (bH N) N.js k).map L2.bQ),nv k,nv p.1,nv p.2]) (λM3 hM3=>⟨?_,hM3 _ ?_⟩) ?_
   ·rw[ft,f8,C5];omega
   ·rw[ers,dC,show nD (nT N (N.m+k))=D.int ((N.m:Int)+(((jI N.m (fT N) (bH N) N.js k).map L2.bQ).length:Int))from congrArg D.int eln.symm];rfl
   rintro _ rfl
   have ec:((N.m:Int)+(k:Int))=((N.m+k:Nat):Int):=by omega
   have ht:=hk (N.m+k)
   have gat:∀t,t<N.m+k->((sK (N.m+(k+1))).map (nT N)).getD t 0=nT N t:=λt h=>by
    rw[oC (by simp;omega)];simp
   have glen:((sK (N.m+(k+1))).map (nT N)).length=N.m+(k+1):=by simp
   refine ite2 (λh=>?_) λh=>?_
   ·have h':(valD kvs (.inl ((N.m:Int)+(k:Int)))).isSome=true:=h
    rw[ec,ht]at h'
    refine bz rfl (by rw[fE];omega) ?_
    refine bz rfl (by rw[iB (by omega),glen];show fT N p.1<_;omega) ?_
    refine bz rfl (by rw[fE];omega) ?_
    refine bz rfl (by rw[iB (by omega),glen];show fT N p.2<_;omega) ?_
    refine⟨rfl,_,_,rfl,by rw[f8,fQ];omega,hM2 _ ⟨by omega,nv k,nv p.1,nv p.2,?_⟩⟩
    rw[iB (by omega),iB (by omega)]
    have g1:=gat (fst1 (a7 N) p.1) f1
    have g2:=gat (fst1 (a7 N) p.2) f2
    rw[g1,g2,iT,if_pos h',ejs,B7]
    rfl
   ·have h':¬(valD kvs (.inl ((N.m:Int)+(k:Int)))).isSome=true:=h
    rw[ec,ht]at h'
    refine hM2 _ ⟨by omega,nv k,nv p.1,nv p.2,?_⟩
    rw[iT,if_neg h',B5]
  ·rintro _ ⟨_,s8,s9,s10,rfl⟩
   have e:(dS 0 (N.js.map L2.bQ)).length=N.js.length:=by rw[bU,f8]
   rw[e]
   exact hM _ ⟨s8,s9,s10,rfl⟩
  ·have e:(sK (N.m+0)).map (nT N)=sK N.m:=by
    refine List.ext_getElem (by simp) λi h1 h2=>?_
    have h3:i<N.m:=by simpa using h2
    simp[nbT,h3]
   rw[e];rfl
 rintro _ ⟨s8,s9,s10,rfl⟩
 refine⟨by rw[ft];omega,?_⟩
 refine kT nD (λo=>nD (nT N (fT N o))) trivial (λo acc M ho hM=>?_) ?_
 ·have h1:=hN.os o ho
  have h2:=xg (N:=N) (t:=o) h1
  refine bz rfl (by rw[fE];omega) ?_
  refine bz rfl (by rw[iB (by omega)];simp;show fT N o<_;omega) ?_
  rw[iB (by omega)]
  have:((sK (N.m+N.js.length)).map (nT N)).getD (fst1 (a7 N) o) 0=nT N (fT N o):=by
   rw[oC (by simp;show fT N o<_;omega)];simp[fT]
  rw[this]
  exact hM
 have e:(N.os.map λo=>nD (nT N (fT N o)))=ar (tidN N).os:=by
  show _=ar (N.os.map _)
  unfold ar;rw[B8];rfl
 rw[e]
 exact⟨by simp,hq⟩
theorem jE (dn:DefN K mg "first_joining" cD ["things", "row", "clean"])(B:BI mg)(g_may_join:OkN P w K mg base 1 "may_join" ["clean", "one", "other"] (spA K SMay))(g_joined:OkN P w K mg base 1 "joined" ["one", "other"] (spA K il)):OkN P w K mg base 2 "first_joining" ["things", "row", "clean"] (spA K SFj):=by
 refine dn.aok2 (k:=1) fY (λj=>j==0||j==1||j==2) [.un] SFj rfl (λf cdv A outer s H E hr=>have hu:=cz hr;⟨_,(ao (mD (i:=3) ["a", "one", "b", "other"] [0,1,2] fY.nd rfl (by first | exact Or.inl rfl | exact Or.inr rfl) rfl (Blk.of (aw cD) f_) (jn K rfl B.enumerate_ (ah (pv 0) aA)) (λ_ _ _ _ nd=>(bB K (n:=2) rfl (aK (aG (i:=2) nd rfl (by first | exact Or.inl rfl | exact Or.inr rfl)) (aK (aG (i:=3) nd rfl (by first | exact Or.inl rfl | exact Or.inr rfl)) bA)))) (λ_ _ _ _=>dh) (λ_ _ _ _=>(jn K rfl B.enumerate_ (ah (iL (iD K) (pv 4) kh (kf (pv 2))) aA))) (λ_ _ _ _ nd=>(bB K (n:=2) rfl (aK (aG (i:=0) nd rfl (by first | exact Or.inl rfl | exact Or.inr rfl)) (aK (aG (i:=1) nd rfl (by first | exact Or.inl rfl | exact Or.inr rfl)) bA)))) (λ_ _ _ _=>(dg (PW.pt (jA (a_ (gA K hr.units) (bM g_joined (hr.mono (by decide)) (ah (pv 1) (ah (pv 3) aA))) (pv 5) (bL _)) (gq (eE (bM g_may_join (hr.mono (by decide)) (ah (pv 6) (ah (pv 1) (ah (pv 3) aA)))))))))) (λ_ _ _ _=>(c8 (ah (pv 0) (ah (pv 2) aA)))))
  (aI (aZ (bW (aT K) (pv 3) aJ (λ_ _=>rfl))))),(aE (j4 (j0 (n2:=2) (fc (af aa aj)) (a9 (aD (aq rfl) (aD (aq rfl) aX (λ_ _ _=>aN)) (λ_ _ _=>aN))) cw (fc (af (mh aa md (iw aa)) aj)) (a9 (aD (aq rfl) (aD (aq rfl) aX (λ_ _ _=>aN)) (λ_ _ _=>aN))) (fC (aO (aF gB (aM (af aa (af aa aj))) aa)) (dZ (aM (af aa (af aa (af aa aj)))))) (cb (af aa (af aa aj)))) rfl)
  (aP (aF bb aa aH)))⟩) ?_
 rintro ss q ⟨K,r,cl,rfl,hl,hne,hq⟩
 refine⟨rfl,rfl,?_⟩
 have pre:∀i,i<=K.length->(canN cl K r i).length<=63*63:=λi hi=>by have:=rO cl K r i (by omega);omega
 refine cutS (λρ=>ρ=[.vl (.lst (ar K)),nv r,.vl (.bl cl),.ow ((canN cl K r K.length).map L2.bQ)]) (λM hM=>?_) ?_
 ·refine oO (λi acc ρ=>acc=(canN cl K r i).map L2.bQ/\i<=K.length/\ρ=[.vl (.lst (ar K)),nv r,.vl (.bl cl),.un]) (λi acc ρ _ h=>⟨trivial,by rw[h.1,f8];exact xL (pre i h.2.1) (by decide)⟩) ?_ ?_ _ ⟨rfl,zn _,rfl⟩
  ·rintro i d acc _ N hd ⟨rfl,hil,rfl⟩ hN
   obtain⟨x,hx,rfl⟩:=cQ hd
   rw[ar,wn]at hx
   obtain⟨b,hb,rfl⟩:=BR.mp hx
   have hi:=(im.mp hb).1
   have eb:K.getD i 0=b:=by rw[kt,hb];rfl
   rw[CU]
   have ec:dS 0 (cutD (ar K) none (some ((i:Nat):Int)))=(sK i).map λa=>.tup [nD a,nD (K.getD a 0)]:=by
    rw[gJ,<- lU K (CI hi)];unfold ar;rw[EL]
   show hX 2 (λ_=>True) _ _ _ _ (dS 0 (cutD (ar K) none (some ((i:Nat):Int)))) _ [.un,.un,.vl (.int (i:Int)),.vl (.int (b:Int)),.vl (.lst (ar K)),nv r,.vl (.bl cl)]
   rw[ec]
   refine gK (λa=>.tup [nD a,nD (K.getD a 0)]) (λa=>decide (K.getD a 0 ^^^ b=r)&&mayN cl (K.getD a 0) b) (λa=>L2.bQ (a,i)) trivial (by rw[f8,C5];have:=pre i hil;omega) (λa acc N2 ha hN2=>?_) ?_
   ·refine gaT2 ?_
    refine⟨rfl,_,_,rfl,?_⟩
    refine cm (b:=decide (K.getD a 0 ^^^ b=r)) rfl rfl (show D.depth (.int _)<=60 by simp[D.depth]) (by
     show decide (((K.getD a 0 ^^^ b:Nat):Int)=(r:Int))=_
     rw[decide_eq_decide];omega) ?_
    by_cases h:K.getD a 0 ^^^ b=r
    ·rw[decide_eq_true h,Du]at hN2
     show if decide (K.getD a 0 ^^^ b=r)=true then _ else _
     rw[if_pos (decide_eq_true h)]
     refine⟨rfl,cl,K.getD a 0,b,rfl,?_⟩
     cases hb:mayN cl (K.getD a 0) b with
     | true=>rw[hb]at hN2;exact⟨by simp,hN2⟩
     | false=>rw[hb]at hN2;exact hN2
    ·rw[decide_eq_false h,DY]at hN2
     show if decide (K.getD a 0 ^^^ b=r)=true then _ else _
     rw[if_neg (by rw[decide_eq_true_eq];exact h)]
     exact hN2
   refine hN _ _ ⟨?_,by omega,rfl⟩
   rw[oQ,B7,B8,eb]
   rfl
  ·rintro acc _ ⟨rfl,_,rfl⟩
   have el:(dS 0 (ar K)).length=K.length:=by rw[bU,bo]
   rw[el]
   exact hM _ rfl
 rintro _ rfl
 have hat:atI ((canN cl K r K.length).map L2.bQ) 0=some (L2.bQ (fjN cl K r)):=eQ (j:=0) (by
  unfold fjN
  rw[wn,kt,bv (Ek.mpr hne)];rfl)
 exact AW rfl hat hq
theorem k7 (dn:DefN K mg "net_of_rows" cH ["wish", "clean", "known"])(B:BI mg)(g_tidied:OkN P w K mg base 4 "tidied" ["net"] (spA K STid))(g_first_joining:OkN P w K mg base 2 "first_joining" ["things", "row", "clean"] (spA K SFj)):OkN P w K mg base 5 "net_of_rows" ["wish", "clean", "known"] (spA K zF):=by
 refine dn.aok2 (k:=4) dH (λj=>j==0||j==1||j==2) [.un,.un,.un] zF rfl (λf cdv A outer s H E hr=>have hu:=cz hr;⟨_,(ao (fk (pv 0) (bB K (n:=2) rfl (aK (aG (i:=3) dH.nd rfl (by first | exact Or.inl rfl | exact Or.inr rfl)) (aK (aG (i:=4) dH.nd rfl (by first | exact Or.inl rfl | exact Or.inr rfl)) bA))))
  (ao (j_ (i:=5) ["at", "row"] [2,1,3] dH.nd rfl (by first | exact Or.inl rfl | exact Or.inr rfl) rfl (Blk.of (aw cH) e8) (jn K rfl B.enumerate_ (ah (pv 2) aA)) (λ_ _ _ _ nd=>(bB K (n:=2) rfl (aK (aG (i:=0) nd rfl (by first | exact Or.inl rfl | exact Or.inr rfl)) (aK (aG (i:=1) nd rfl (by first | exact Or.inl rfl | exact Or.inr rfl)) bA)))) (λ_ _ _ _=>(dg (a_ yI (pv 0) (pv 4) (bL _)))) (λ_ _ _ _=>(bM g_first_joining (hr.mono (by decide)) (ah (iL (iD K) (pv 2) kh (kf (pv 0))) (ah (pv 1) (ah (pv 3) aA))))))
  (aI (aZ (bM g_tidied (hr.mono (by decide)) (ah (c8 (ah (pv 3) (ah (cN (dD K) rfl B.tuple_ eY (ah (pv 5) aA)) (ah (cN (dD K) rfl B.tuple_ eY (ah (dY ["row"] [2] rfl (Blk.of (aw cH) e8) (bF K (pv 4)) (λ_ _ _ _ nd=>(aG (i:=0) nd rfl (by first | exact Or.inl rfl | exact Or.inr rfl))) (λ_ _ _ _=>dh) (λ_ _ _ _=>(fo K Ch Hk PySem.F.type_list_index (wO K) (pv 1) (ah (pv 0) aA)))) aA)) aA)))) aA)))))),(aE (dy aa (a9 (aD (aq rfl) (aD (aq rfl) aX (λ_ _ _=>aN)) (λ_ _ _=>aN))))
  (aE (iC (b6 (fc (af aa aj)) (a9 (aD (aq rfl) (aD (aq rfl) aX (λ_ _ _=>aN)) (λ_ _ _=>aN))) (aO (aF cZ aa aa)) (aM (af (mh aa md (iw aa)) (af aa (af aa aj))))) rfl)
  (aP (aM (af (cb (af aa (af (cj en (af aa aj)) (af (cj en (af (b6 (ba aa) (aq rfl) cw (yf aa (af aa aj))) aj)) aj)))) aj)))))⟩) ?_
 rintro ss q ⟨m,cl,L,W,rfl,hF,hq⟩
 have hFl:=hF.l
 refine⟨rfl,rfl,?_⟩
 refine cutS (λρ=>ρ=[.vl (bR m W),.vl (.bl cl),.vl (.lst (ar L)),nv m,.vl (.tup (ar W)),.un]) (λM hM=>hM _ rfl) ?_
 rintro _ rfl
 refine cutS (λρ=>ρ=[.vl (bR m W),.vl (.bl cl),.vl (.lst (ar L)),nv m,.vl (.tup (ar W)),.ow ((eO m cl L W).js.map L2.bQ)]) (λM hM=>?_) ?_
 ·refine⟨by rw[bU,bo];omega,?_⟩
  have ee:dS 0 (ar L)=(sK L.length).map λa=>.tup [nD a,nD (L.getD a 0)]:=by
   have:=lU L (li _)
   rwa [Cf]at this
  rw[ee]
  refine cR (λa=>.tup [nD a,nD (L.getD a 0)]) (λa=>decide (m<=a)) (λa=>L2.bQ (fjN cl (L.take a) (L.getD a 0))) trivial (λa acc N ha hN=>?_) ?_
  ·have go:decide (((m:Nat):Int)<=((a:Nat):Int))=decide (m<=a):=by rw[decide_eq_decide];omega
   show if decide (((m:Nat):Int)<=((a:Nat):Int))=true then _ else _
   rw[go]
   by_cases h:m<=a
   ·rw[if_pos (decide_eq_true h)]
    rw[if_pos (decide_eq_true h)]at hN
    have ec:cutD (ar L) none (some ((a:Nat):Int))=ar (L.take a):=by rw[gJ];unfold ar;rw[EL]
    refine⟨rfl,L.take a,L.getD a 0,cl,by rw[<- ec];rfl,by rw[B0];omega,vw (hF.nx a h (B9.mp ha)),hN⟩
   ·rw[if_neg (by rw[decide_eq_true_eq];exact h)]
    rw[if_neg (by rw[decide_eq_true_eq];exact h)]at hN
    exact hN
  ·rw[rK,B8]
   have e2:(eO m cl L W).js.map L2.bQ=(sK (L.length - m)).map ((λa=>L2.bQ (fjN cl (L.take a) (L.getD a 0))) ∘ (m + ·)):=by
    unfold eO
    rw[B8];rfl
   rw[<- e2]
   exact hM _ rfl
 rintro _ rfl
 have hW:=hF.w24
 refine⟨by rw[bo];omega,?_⟩
 refine kT nD (λr=>nD (L.idxOf r)) trivial (λr acc N hr hN=>?_) ?_
 ·have e1:ar L=(L.map λx=>((x:Nat):Int)).map D.int:=by unfold ar;rw[B8];rfl
  have hi:=E7 (hF.w r hr)
  have gi:∀ {q:Nat->Prop},q (L.idxOf r)->gIdx (ar L) ((r:Nat):Int) q:=λ{q} hq=>by
   rw[e1]
   refine zd (j:=L.idxOf r) ?_ (by omega) (λk hk z=>?_) hq
   ·rw[wn,bv hi,Gh];rfl
   ·rw[wn,bv (show k<L.length by omega)]at z
    injection z with z
    have z:=HM.mp z
    exact xU hk (by rw[bv (show k<L.length by omega),z])
  exact gi ⟨rfl,hN⟩
 ·refine⟨show 3<=1000000 by decide,?_⟩
  have eo:(W.map λr=>nD (L.idxOf r))=ar (W.map L.idxOf):=by unfold ar;rw[B8];rfl
  rw[eo]
  exact⟨rfl,eO m cl L W,rfl,n6 hF,hq⟩
end
theorem u3 {f:Nat->List Nat->List Nat ⊕ D}{sh t:List Nat}:∀ {rest done:List Nat} {acc:List D},goN f sh done rest acc = .inl t->∃r∈rest,∃s,f r s = .inl t
 | [],done,acc,h=>by cases h
 | r::rest,done,acc,h=>by
  unfold goN at h
  cases e:f r (sh++done)with
  | inl u =>
   rw[e]at h
   exact⟨r,B3,_,e.trans h⟩
  | inr p =>
   rw[e]at h
   obtain⟨r',h1,h2⟩:=u3 h
   exact⟨r',BU _ h1,h2⟩
theorem u0 {f:Nat->List Nat->List Nat ⊕ D}{sh:List Nat}{p:D}:∀ {rest done:List Nat} {acc:List D},goN f sh done rest acc = .inr p->∃ps,p = .tup [.str "next",.tup (acc++ps)]/\ps.length=rest.length/\∀i,i<rest.length->f (rest.getD i 0) (sh++(done++rest.take i)) = .inr (ps.getD i .non)
 | [],done,acc,h=>by
  injection h with h
  exact⟨[],by rw[B5];exact h.symm,rfl,λi hi=>absurd hi (EY i)⟩
 | r::rest,done,acc,h=>by
  unfold goN at h
  cases e:f r (sh++done)with
  | inl u=>rw[e]at h;cases h
  | inr d =>
   rw[e]at h
   obtain⟨ps,h1,h2,h3⟩:=u0 h
   refine⟨d::ps,by rw[h1,Cd];rfl,by rw[At,h2];rfl,λi hi=>?_⟩
   cases i with
   | zero =>
    show f r (sh++(done++[]))=_
    rw[B5];exact e
   | succ i =>
    have:=h3 i (by rw[At]at hi;omega)
    rw[Cd]at this
    exact this
theorem yU {r:Nat}{x:List Nat ⊕ D}{t:List Nat}(h:mkM r x = .inl t):x = .inl t:=by
 cases x with
 | inl u=>exact h
 | inr p=>cases h
theorem yT {r:Nat}{x:List Nat ⊕ D}{d:D}(h:mkM r x = .inr d):∃p,x = .inr p/\d = .tup [.str "made",nD r,p]:=by
 cases x with
 | inl u=>cases h
 | inr p=>injection h with h;exact⟨p,rfl,h.symm⟩
theorem mN {W K:List Nat}(hw:∀r∈W,1<=r/\r<64):bt W K=[]↔∀r∈W,r∈K:=by
 rw[List.eq_nil_iff_forall_not_mem]
 constructor
 ·intro h r hr
  exact DJ λz=>h r ((eP hw).mpr ⟨hr,z⟩)
 ·intro h r hr
  obtain⟨a,b⟩:=(eP hw).mp hr
  exact b (h r a)
structure Ext (cl:Bool)(kn t:List Nat):Prop where
 nd:(kn++t).Nodup
 nx:∀i,i<t.length->b8 cl (kn++t.take i) (t.getD i 0)=true
theorem Ext.nil {cl:Bool}{kn:List Nat}(h:kn.Nodup):Ext cl kn []:=⟨by rw[B5];exact h,λi hi=>absurd hi (EY i)⟩
theorem Ext.cons {cl:Bool}{kn t:List Nat}{r:Nat}(h:b8 cl kn r=true)(e:Ext cl (kn++[r]) t):Ext cl kn (r::t):=by
 refine⟨by have:=e.nd;rwa [Cd]at this,λi hi=>?_⟩
 cases i with
 | zero=>show b8 cl (kn++[]) r=true;rw[B5];exact h
 | succ i =>
  have:=e.nx i (by rw[At]at hi;omega)
  rw[Cd]at this
  exact this
theorem Ext.uncons {cl:Bool}{kn t:List Nat}{r:Nat}(e:Ext cl kn (r::t)):b8 cl kn r=true/\r∉kn/\Ext cl (kn++[r]) t:=by
 have h0:=e.nx 0 (by simp)
 rw[JA,B5]at h0
 have nd:=e.nd
 refine⟨h0,λz=>?_,?_,λi hi=>?_⟩
 ·exact(C4.mp nd).2.2 r z r B3 rfl
 ·rwa [Cd]
 ·have:=e.nx (i+1) (by rw[At];omega)
  rw[Cd]
  exact this
theorem mo {kn:List Nat}{r:Nat}(hk:∀r∈kn,1<=r/\r<64)(h:1<=r/\r<64):∀x∈kn++[r],1<=x/\x<64:=λx hx=>(BO.mp hx).elim (hk x) λz=>by rw[wv.mp z];exact h
theorem t6 {kn:List Nat}{r:Nat}(nd:kn.Nodup)(h:r∉kn):(kn++[r]).Nodup:=C4.mpr ⟨nd,by simp,λa ha b hb e=>h (by rw[wv.mp hb]at e;exact e▸ha)⟩
theorem tX {W:List Nat}{cl:Bool}(hw:∀r∈W,1<=r/\r<64):∀ {lf:Nat} {kn sh L:List Nat},(∀r∈kn,1<=r/\r<64)->kn.Nodup->srN W cl lf kn sh = .inl L->∃t,L=kn++t/\t.length<=lf/\Ext cl kn t/\∀r∈W,r∈L
 | 0,kn,sh,L,hk,nd,h=>by
  unfold srN at h
  split at h
  ·rename_i h0
   injection h with h
   subst h
   exact⟨[],(B5 _).symm,li _,.nil nd,(mN hw).mp h0⟩
  ·cases h
 | l+1,kn,sh,L,hk,nd,h=>by
  have step:∀r s,b8 cl kn r=true->r∉kn->srN W cl l (kn++[r]) s = .inl L->∃t,L=kn++t/\t.length<=l+1/\Ext cl kn t/\∀r∈W,r∈L:=λr s h1 h2 h3=>by
   obtain⟨t,e,hl,ex,hW⟩:=tX hw (mo hk (eM hk h1)) (t6 nd h2) h3
   exact⟨r::t,by rw[e,Cd];rfl,by rw[At];omega,ex.cons h1,hW⟩
  unfold srN at h
  split at h
  ·rename_i h0
   injection h with h
   subst h
   exact⟨[],(B5 _).symm,zn _,.nil nd,(mN hw).mp h0⟩
  split at h
  ·cases h
  split at h
  ·cases h
  split at h
  ·rename_i r e
   have hr:=G7 e
   have hr:=(cE hk).mp (o0.mp hr)
   exact step r sh hr.1 hr.2.1 (yU h)
  ·obtain⟨r,hr,s,e⟩:=u3 h
   have hr:=(cE hk).mp hr
   exact step r s hr.1 hr.2.1 e
theorem nF {W:List Nat}{cl:Bool}:∀ {lf:Nat} {kn sh:List Nat} {p:D},(∀r∈kn,1<=r/\r<64)->srN W cl lf kn sh = .inr p->Pap W cl lf kn sh p
 | 0,kn,sh,p,hk,h=>by
  unfold srN at h
  split at h
  ·cases h
  ·rename_i h0
   injection h with h
   unfold Pap
   exact .inl ⟨h.symm,Ek.mpr h0⟩
 | l+1,kn,sh,p,hk,h=>by
  unfold srN at h
  unfold Pap
  split at h
  ·cases h
  rename_i h0
  split at h
  ·rename_i h1
   injection h with h
   exact .inl ⟨h.symm,h1⟩
  split at h
  ·rename_i r e
   injection h with h
   exact .inr (.inl ⟨r,h.symm,Hv e,G7 (p:=λr=>farN cl kn (l+1) r) e⟩)
  split at h
  ·rename_i r e
   have hr:=o0.mp (G7 e)
   have hf:=(cE hk).mp hr
   obtain⟨d,e1,rfl⟩:=yT h
   exact .inr (.inr (.inl ⟨r,d,rfl,Hv e,hr,nF (mo hk (eM hk hf.1)) e1⟩))
  ·obtain⟨ps,rfl,h2,h3⟩:=u0 h
   refine .inr (.inr (.inr ⟨ps,rfl,h0,h2,λi hi=>?_⟩))
   have hr:(bT cl kn sh).getD i 0∈bT cl kn sh:=eW (by omega)
   have hf:=(cE hk).mp hr
   exact nF (mo hk (eM hk hf.1)) (h3 i (by omega))
theorem kC {cl:Bool}{K K':List Nat}{r:Nat}(h:∀x∈K,x∈K')(n:b8 cl K r=true):b8 cl K' r=true:=by
 obtain⟨a,ha,b,hb,z⟩:=cq.mp n
 exact cq.mpr ⟨a,h a ha,b,h b hb,z⟩
theorem Ext.perm {cl:Bool}{kn kn' t:List Nat}(p:kn.Perm kn')(e:Ext cl kn t):Ext cl kn' t :=
 ⟨(p.append_right t).nodup_iff.mp e.nd,λi hi=>kC (λx hx=>(p.append_right _).mem_iff.mp hx) (e.nx i hi)⟩
theorem Ext.front {cl:Bool}{r:Nat}:∀ {t kn:List Nat},Ext cl kn t->r∈t->b8 cl kn r=true->Ext cl (kn++[r]) (t.erase r)
 | [],kn,e,h,n=>by cases h
 | x::t,kn,e,h,n=>by
  obtain⟨h1,h2,h3⟩:=e.uncons
  by_cases hx:x=r
  ·subst hx
   rw[List.erase_cons_head];exact h3
  ·rw[List.erase_cons_tail (by simpa using hx)]
   have hr:r∈t:=(sB.mp h).resolve_left λz=>hx z.symm
   have:=Ext.front h3 hr (kC (λx hx=>BS _ hx) n)
   refine Ext.cons (kC (λx hx=>BS _ hx) h1) (this.perm ?_)
   rw[Cd,Cd]
   exact Hq kn (List.Perm.swap r x [])
def xorL (l:List Nat):Nat:=l.foldr (· ^^^ ·) 0
structure Lst (cl:Bool)(K l:List Nat)(x:Nat):Prop where
 k:∀p∈l,p∈K
 d:cl=true->l.Pairwise λa b=>a &&& b=0
 x:xorL l=x
theorem fV {a b:Nat}:a &&& b=0↔∀i,a.testBit i=true->b.testBit i=false:=by
 constructor
 ·intro h i ha
  have:=congrArg (λz=>z.testBit i) h
  simp only[EX,G1,ha,Du]at this
  exact this
 ·intro h
  apply F4
  intro i
  rw[EX,G1]
  cases ha:a.testBit i with
  | false=>rfl
  | true=>rw[h i ha];rfl
theorem qH {p:Nat}:∀ {l:List Nat},(∀q∈l,q &&& p=0)->xorL l &&& p=0
 | [],_=>Nat.zero_and p
 | q::l,h=>by
  have h1:=fV.mp (h q B3)
  have h2:=fV.mp (qH (p:=p) λq hq=>h q (BU _ hq))
  refine fV.mpr λi hi=>?_
  show p.testBit i=false
  have hi:(q ^^^ xorL l).testBit i=true:=hi
  rw[Er]at hi
  cases hq:q.testBit i with
  | true=>exact h1 i hq
  | false=>rw[hq,Bool.false_xor]at hi;exact h2 i hi
theorem uH {cl:Bool}{K:List Nat}:∀ {l:List Nat} {x:Nat},Lst cl K l x->Rch cl K l.length x
 | [],x,L=>by rw[<- L.x];exact .nil
 | p::l,x,L=>by
  have ih:Rch cl K l.length (xorL l):=uH ⟨λq hq=>L.k q (BU _ hq),λhc=>(Dr.mp (L.d hc)).2,rfl⟩
  have hx:x=xorL l ^^^ p:=by
   rw[<- L.x,DU];rfl
  rw[hx]
  refine .add ih (L.k p B3) ?_
  unfold mayN
  cases cl with
  | false=>rfl
  | true =>
   have:=qH (p:=p) λq hq=>by rw[GO];exact(Dr.mp (L.d rfl)).1 q hq
   simp[this]
theorem qG {r:Nat}:∀l:List Nat,∃b:Bool,xorL l=xorL (l.filter (· != r)) ^^^ (if b=true then r else 0)/\(b=true->r∈l/\(l.filter (· != r)).length+1<=l.length)
 | []=>⟨false,by simp[xorL],λh=>by cases h⟩
 | y::l=>by
  obtain⟨b,h1,h2⟩:=qG (r:=r) l
  by_cases e:y=r
  ·subst e
   refine⟨!b,?_,λ_=>⟨B3,?_⟩⟩
   ·rw[FA (by simp)]
    show y ^^^ xorL l=_
    rw[h1]
    cases b with
    | false =>
     simp only[JD,if_true]
     rw[if_neg (by decide),Fc,DU]
    | true =>
     simp only[Bool.not_true,if_true]
     rw[if_neg (by decide),Fc,DU,Em,Fd,Fc]
   ·rw[FA (by simp),At]
    have:=CH (· != y) l
    omega
  ·refine⟨b,?_,λhb=>⟨BU _ (h2 hb).1,?_⟩⟩
   ·rw[Fz (by simpa using e)]
    show y ^^^ xorL l=(y ^^^ xorL _) ^^^ _
    rw[h1,Em]
   ·rw[Fz (by simpa using e),At,At]
    have:=(h2 hb).2
    omega
theorem Bm {l:List Nat}(h:l.Pairwise λa b=>a &&& b=0){a b:Nat}(ha:a∈l)(hb:b∈l)(ne:a≠b):a &&& b=0:=by
 obtain⟨i,hi,rfl⟩:=C3 ha
 obtain⟨j,hj,rfl⟩:=C3 hb
 rcases Dj i j with q | q | q
 ·exact DP.mp h i j hi hj q
 ·subst q;exact absurd rfl ne
 ·rw[GO];exact DP.mp h j i hj hi q
theorem vf {cl:Bool}:∀ {t kn:List Nat} {x:Nat},Ext cl kn t->x∈kn++t->∃l,l.length<=t.length+1/\Lst cl kn l x
 | [],kn,x,e,hx=>by
  rw[B5]at hx
  exact⟨[x],li _,⟨λp hp=>(by rw[wv.mp hp];exact hx),λ_=>(by simp),(by simp[xorL])⟩⟩
 | r::t,kn,x,e,hx=>by
  obtain⟨h1,h2,h3⟩:=e.uncons
  obtain⟨l,hl,L⟩:=vf (x:=x) h3 (by rwa [Cd])
  obtain⟨a,ha,b,hb,ne,hm,hr⟩:=cq.mp h1
  obtain⟨o,ho,hz⟩:=qG (r:=r) l
  have hk:∀p∈l.filter (· != r),p∈kn:=λp hp=>by
   obtain⟨p1,p2⟩:=AC.mp hp
   rcases BO.mp (L.k p p1)with q | q
   ·exact q
   ·rw[wv.mp q]at p2
    simp at p2
  have hd:cl=true->(l.filter (· != r)).Pairwise λa b=>a &&& b=0:=λhc=>(L.d hc).filter _
  have hle:=CH (· != r) l
  cases o with
  | false =>
   refine⟨_,?_,⟨hk,hd,?_⟩⟩
   ·rw[At];omega
   ·rw[<- L.x,ho,if_neg (by decide),Fc]
  | true =>
   obtain⟨z1,z2⟩:=hz rfl
   refine⟨a::b::l.filter (· != r),?_,⟨λp hp=>?_,λhc=>?_,?_⟩⟩
   ·rw[At,At,At];omega
   ·rcases sB.mp hp with rfl | hp
    ·exact ha
    rcases sB.mp hp with rfl | hp
    ·exact hb
    ·exact hk p hp
   ·have hab:a &&& b=0:=by
     unfold mayN at hm
     rw[hc]at hm
     simpa using hm
    have hab':=fV.mp hab
    have hq:∀q∈l.filter (· != r),a &&& q=0/\b &&& q=0:=λq hq=>by
     obtain⟨q1,q2⟩:=AC.mp hq
     have:=fV.mp (Bm (L.d hc) z1 q1 λz=>by rw[<- z]at q2;simp at q2)
     rw[<- hr]at this
     refine⟨fV.mpr λi hi=>this i ?_,fV.mpr λi hi=>this i ?_⟩
     ·rw[Er,hi,hab' i hi];rfl
     ·rw[Er,hi]
      cases z:a.testBit i with
      | false=>rfl
      | true=>rw[hab' i z]at hi;cases hi
    refine Dr.mpr ⟨λq hq'=>?_,Dr.mpr ⟨λq hq'=>(hq q hq').2,hd hc⟩⟩
    rcases sB.mp hq' with rfl | hq'
    ·exact hab
    ·exact(hq q hq').1
   ·show a ^^^ (b ^^^ xorL _)=x
    rw[<- L.x,ho,if_pos rfl,<- Em,hr,DU]
theorem xZ {cl:Bool}{t kn:List Nat}{r l:Nat}(e:Ext cl kn t)(hl:t.length<=l)(hr:r∈kn++t):farN cl kn l r=false:=by
 obtain⟨s,hs,L⟩:=vf e hr
 refine By rL λh=>h ⟨s.length,by omega,uH L⟩
theorem nN {W:List Nat}{cl:Bool}(hw:∀r∈W,1<=r/\r<64):∀ {lf:Nat} {kn sh:List Nat} {p:D} {t:List Nat},(∀r∈kn,1<=r/\r<64)->Pap W cl lf kn sh p->Ext cl kn t->t.length<=lf->(∀x∈t,x∉sh)->(∀r∈W,r∈kn++t)->False:=by
 have rows:∀ {lf:Nat} {kn t:List Nat},lf<(bt W kn).length->t.length<=lf->(∀r∈W,r∈kn++t)->False:=λ{lf kn t} h1 h2 h3=>by
  have:=Cu ((wW W kn).imp λh=>by omega) (l₂:=t) λx hx=>by
   obtain⟨a,b⟩:=(eP hw).mp hx
   exact(BO.mp (h3 x a)).resolve_left b
  omega
 intro lf
 induction lf with
 | zero =>
  intro kn sh p t hk hp e hl hs hW
  unfold Pap at hp
  rcases hp with⟨_,h⟩ | ⟨r,_,h1,h2⟩
  ·exact rows h hl hW
  ·have:=xZ e hl (hW r ((eP hw).mp h1).1)
   rw[h2]at this;cases this
 | succ l ih =>
  intro kn sh p t hk hp e hl hs hW
  have go:∀ {r:Nat} {sh':List Nat} {p':D},b8 cl kn r=true->r∈t->Pap W cl l (kn++[r]) sh' p'->(∀x∈t.erase r,x∉sh')->False:=λ{r sh' p'} h1 h2 h3 h4=>by
   refine ih (mo hk (eM hk h1)) h3 (e.front h2 h1) ?_ h4 λx hx=>?_
   ·rw[HH h2];omega
   ·rw[Cd]
    rcases BO.mp (hW x hx)with q | q
    ·exact BS _ q
    ·exact ga _ ((Im h2).mem_iff.mp q)
  unfold Pap at hp
  rcases hp with⟨_,h⟩ | ⟨r,_,h1,h2⟩ | ⟨r,p',_,h1,h2,h3⟩ | ⟨ps,_,h0,h1,h2⟩
  ·exact rows h hl hW
  ·have:=xZ e hl (hW r ((eP hw).mp h1).1)
   rw[h2]at this;cases this
  ·obtain⟨a,b⟩:=(eP hw).mp h1
   exact go ((cE hk).mp h2).1 ((BO.mp (hW r a)).resolve_left b) h3 λx hx=>hs x (Ii hx)
  ·-- the smallest of the free rows that comes
   have ht:∃x∈t,x∈bT cl kn sh:=by
    cases t with
    | nil =>
     exfalso
     refine h0 ((mN hw).mpr λr hr=>?_)
     have:=hW r hr
     rwa [B5]at this
    | cons x t =>
     obtain⟨z1,z2,_⟩:=e.uncons
     exact⟨x,B3,(cE hk).mpr ⟨z1,z2,hs x B3⟩⟩
   have first:∀n,n<=(bT cl kn sh).length->(∃x∈t,x∈(bT cl kn sh).take n)->∃i,i<n/\(bT cl kn sh).getD i 0∈t/\∀x∈(bT cl kn sh).take i,x∉t:=by
    intro n
    induction n with
    | zero=>rintro _ ⟨x,_,h⟩;rw[JA]at h;cases h
    | succ n ihn =>
     rintro hn ⟨x,hx,h⟩
     by_cases z:∃x∈t,x∈(bT cl kn sh).take n
     ·obtain⟨i,hi,hr⟩:=ihn (by omega) z
      exact⟨i,by omega,hr⟩
     ·obtain⟨j,hj1,hj2,rfl⟩:=dG.mp h
      have:j=n:=by
       rcases BW j n with q | q
       ·exact absurd ⟨_,hx,dG.mpr ⟨j,q,hj2,rfl⟩⟩ z
       ·omega
      subst this
      exact⟨j,by omega,hx,λy hy hy'=>z ⟨y,hy',hy⟩⟩
   obtain⟨i,hi,hit,hno⟩:=first _ (li _) (by obtain⟨x,a,b⟩:=ht;exact⟨x,a,by rw[Cf];exact b⟩)
   have hf:=(cE hk).mp (eW hi)
   refine go hf.1 hit (h2 i (by omega)) λx hx hx'=>?_
   have hxt:=Ii hx
   rcases BO.mp hx' with q | q
   ·exact hs x hxt q
   ·exact hno x q hxt
structure d0 (m:Nat)(W:List Nat):Prop where
 m1:1<=m
 m6:m<=6
 w1:1<=W.length
 w24:W.length<=24
 w:∀r∈W,1<=r/\r<64
noncomputable def qM (m:Nat)(W:List Nat)(cl:Bool)(n:Nat):D:=match srN W cl n (az m) []with
 | .inl L=>.tup [.bl true,netD (tidN (eO m cl L W))]
 | .inr p=>.tup [.bl false,p]
def gF (m n:Nat):Bool:=decide (m<=6)&&decide (n<=if m<=4 then 11 else 3)
def nz:ASp:=λss q=>∃(m n:Nat),ss=[nv m,nv n]/\q (.d (.bl (gF m n))) [nv m,nv n]
def rR:ASp:=λss q=>∃(m:Nat) (W:List Nat) (cl:Bool) (n:Nat),ss=[.vl (bR m W),.vl (.bl cl),nv n]/\d0 m W/\gF m n=true/\q (.d (qM m W cl n)) [.vl (bR m W),.vl (.bl cl),nv n]
theorem iM {m:Nat}(h:m<=6):∀r∈az m,1<=r/\r<64:=λr hr=>by
 obtain⟨k,hk,rfl⟩:=Cn.mp hr
 have hk:=B9.mp hk
 rw[GL]
 have h1:=Nat.one_le_two_pow (n:=k)
 have h2:2^k<=2^5:=Dx (by decide) (by omega)
 omega
theorem nO (m:Nat):(az m).Nodup:=by
 unfold az
 rw[List.nodup_iff_pairwise_ne,I0]
 refine List.nodup_range.imp λ{a b} h e=>h ?_
 rw[GL,GL]at e
 rcases Dj a b with q | q | q
 ·have:=F2 (a:=2) (by decide) q;omega
 ·exact q
 ·have:=F2 (a:=2) (by decide) q;omega
theorem vW {m n:Nat}(h:gF m n=true):n<=11:=by
 unfold gF at h
 rw[BP,decide_eq_true_eq,decide_eq_true_eq]at h
 have:=h.2
 split at this <;> omega
theorem xf {m n:Nat}{W:List Nat}{cl:Bool}(h:d0 m W)(hn:n<=11):CsOk ⟨W,cl,az m,[],n⟩ :=
 ⟨h.w24,h.w,iM h.m6,nO m,by show 0+64*n<=704;omega,λx hx=>(by cases hx),hn⟩
theorem xY {m n:Nat}{W L:List Nat}{cl:Bool}(h:d0 m W)(hn:n<=11)(e:srN W cl n (az m) [] = .inl L):Fnd m cl L W/\L.length<=m+n:=by
 obtain⟨t,rfl,hl,ex,hW⟩:=tX h.w (iM h.m6) (nO m) e
 have h6:=h.m6
 have lo:=cc m
 refine⟨⟨h.m1,by omega,?_,h.w1,h.w24,hW,?_,?_,ex.nd,λi h1 h2=>?_⟩,?_⟩
 ·rw[wS];omega
 ·rw[wS];omega
 ·rw[EN (by omega),CC (by omega)]
 ·have:=ex.nx (i - m) (by rw[wS]at h2;omega)
  have e1:(az m++t).take i=az m++t.take (i - m):=by
   rw[List.take_append,lo,CC (by omega)]
  have e2:(az m++t).getD i 0=t.getD (i - m) 0:=by
   rw[kt,Cc (by omega),lo,<- kt]
  rw[e1,e2];exact this
 ·rw[wS];omega
section
variable {P:wE}{w:B2}{K:bi}{mg:Str->Option bn}{base:Heap}
theorem pV (dn:DefN K mg "is_tried" gZ ["many", "count"])(B:BI mg)(c_FEW_GIVENS_COUNT:∃u,mg "FEW_GIVENS_COUNT" = some u/\RelV (.int 11) u)(c_MORE_GIVENS_COUNT:∃u,mg "MORE_GIVENS_COUNT" = some u/\RelV (.int 3) u)(c_FEW_GIVENS:∃u,mg "FEW_GIVENS" = some u/\RelV (.int 4) u)(c_MORE_GIVENS:∃u,mg "MORE_GIVENS" = some u/\RelV (.int 6) u):OkN P w K mg base 1 "is_tried" ["many", "count"] (spA K nz):=by
 refine dn.aok2 (k:=0) j6 (λj=>j==0||j==1) [.un] nz rfl (λf cdv A outer s H E hr=>have hu:=cz hr;⟨_,(ao (bj (i:=2) j6.nd rfl (by first | exact Or.inl rfl | exact Or.inr rfl) (wz (a_ mF (pv 0) (nM c_FEW_GIVENS rfl) (bL _)) (nM c_FEW_GIVENS_COUNT rfl) (nM c_MORE_GIVENS_COUNT rfl)))
  (aI (aZ (h_ (gr mF (pv 0) (nM c_MORE_GIVENS rfl) (bL _)) (ki (mE mF mF aJ (pv 1) (pv 2))))))),(aE (a8 (zQ (aO (aF cZ aa aH)) aH aH) rfl)
  (aP (dF (aF cZ aa aH) (j2 cZ cZ aH aa aa))))⟩) ?_
 rintro ss q ⟨m,n,rfl,hq⟩
 refine⟨rfl,rfl,?_⟩
 refine cutS (λρ=>ρ=[nv m,nv n,nv (if m<=4 then 11 else 3)]) (λM hM=>?_) ?_
 ·have go:decide (((m:Nat):Int)<=4)=decide (m<=4):=by rw[decide_eq_decide];omega
  show if decide (((m:Nat):Int)<=4)=true then _ else _
  rw[go]
  by_cases h:m<=4
  ·rw[if_pos (decide_eq_true h)]
   exact hM _ (by rw[if_pos h];rfl)
  ·rw[if_neg (by rw[decide_eq_true_eq];exact h)]
   exact hM _ (by rw[if_neg h];rfl)
 rintro _ rfl
 generalize hk:(if m<=4 then 11 else 3)=k
 have ek:gF m n=(decide (m<=6)&&decide (n<=k)):=by unfold gF;rw[hk]
 rw[ek]at hq
 have go:decide (((m:Nat):Int)<=6)=decide (m<=6):=by rw[decide_eq_decide];omega
 show if decide (((m:Nat):Int)<=6)=true then _ else _
 rw[go]
 by_cases h:m<=6
 ·rw[if_pos (decide_eq_true h)]
  rw[decide_eq_true h,Du]at hq
  show if decide ((0:Int)<=((n:Nat):Int))=true then q (.d (.bl (decide (((n:Nat):Int)<=((k:Nat):Int))))) [nv m,nv n]else q (.d (.bl false)) [nv m,nv n]
  rw[if_pos (by rw[decide_eq_true_eq];omega)]
  have gk:decide (((n:Nat):Int)<=((k:Nat):Int))=decide (n<=k):=by rw[decide_eq_decide];omega
  rw[gk]
  exact hq
 ·rw[if_neg (by rw[decide_eq_true_eq];exact h)]
  rw[decide_eq_false h,DY]at hq
  exact hq
theorem wI (dn:DefN K mg "tried" mv ["wish", "clean", "count"])(B:BI mg)(g_searched:OkN P w K mg base 30 "searched" ["cases"] (spA K ((SSr C_Cases) 13)))(g_is_tried:OkN P w K mg base 1 "is_tried" ["many", "count"] (spA K nz))(g_first_cases:OkN P w K mg base 3 "first_cases" ["wish", "clean", "count"] (spA K (vL C_Cases)))(g_net_of_rows:OkN P w K mg base 5 "net_of_rows" ["wish", "clean", "known"] (spA K zF)):OkN P w K mg base 31 "tried" ["wish", "clean", "count"] (spA K rR):=by
 refine dn.aok2 (k:=30) iE (λj=>j==0||j==1||j==2) [.un,.un,.un,.un] rR rfl (λf cdv A outer s H E hr=>have hu:=cz hr;⟨_,(ao (fk (pv 0) (bB K (n:=2) rfl (aK (aG (i:=3) iE.nd rfl (by first | exact Or.inl rfl | exact Or.inr rfl)) (aK (aG (i:=4) iE.nd rfl (by first | exact Or.inl rfl | exact Or.inr rfl)) bA))))
  (ao (dq (f7 (eE (bM g_is_tried (hr.mono (by decide)) (ah (pv 3) (ah (pv 2) aA)))))
  (aI q_)
  bx)
  (ao (fk (bM g_searched (hr.mono (by decide)) (ah (bM g_first_cases (hr.mono (by decide)) (ah (pv 0) (ah (pv 1) (ah (pv 2) aA)))) aA)) (bB K (n:=2) rfl (aK (aG (i:=5) iE.nd rfl (by first | exact Or.inl rfl | exact Or.inr rfl)) (aK (aG (i:=6) iE.nd rfl (by first | exact Or.inl rfl | exact Or.inr rfl)) bA))))
  (ao (dq (eF K (pv 5) (λ_=>rfl))
  (aI (aZ (c8 (ah c9 (ah (bM g_net_of_rows (hr.mono (by decide)) (ah (pv 0) (ah (pv 1) (ah (pv 6) aA)))) aA)))))
  bx)
  (aI (aZ (c8 (ah c9 (ah (pv 6) aA))))))))),(aE (dy aa (a9 (aD (aq rfl) (aD (aq rfl) aX (λ_ _ _=>aN)) (λ_ _ _=>aN))))
  (aE (cp (cU (dZ (aM (af aa (af aa aj)))))
  nH
  bg)
  (aE (dy (aM (af (aM (af aa (af aa (af aa aj)))) aj)) (a9 (aD (aq rfl) (aD (aq rfl) aX (λ_ _ _=>aN)) (λ_ _ _=>aN))))
  (aE (cp (fB aa)
  (aP (cb (af bV (af (aM (af aa (af aa (af aa aj)))) aj))))
  bg)
  (aP (cb (af bV (af aa aj))))))))⟩) ?_
 rintro ss q ⟨m,W,cl,n,rfl,hW,ht,hq⟩
 have h11:=vW ht
 have l2:(2:Nat)<=1000000:=by decide
 have hm6:=hW.m6
 refine⟨rfl,rfl,?_⟩
 refine cutS (λρ=>ρ=[.vl (bR m W),.vl (.bl cl),nv n,nv m,.vl (.tup (ar W)),.un,.un]) (λM hM=>hM _ rfl) ?_
 rintro _ rfl
 refine cutS (λρ=>ρ=[.vl (bR m W),.vl (.bl cl),nv n,nv m,.vl (.tup (ar W)),.un,.un]) (λM hM=>⟨rfl,m,n,rfl,?_⟩) ?_
 ·rw[ht]
  exact hM _ rfl
 rintro _ rfl
 refine cutS (λρ=>ρ=[.vl (bR m W),.vl (.bl cl),nv n,nv m,.vl (.tup (ar W)),.vl (.bl (srN W cl n (az m) []).isLeft),.vl (pd (srN W cl n (az m) []))]) (λM hM=>⟨rfl,m,W,cl,n,rfl,by omega,?_⟩) ?_
 ·refine⟨rfl,⟨W,cl,az m,[],n⟩,rfl,xf hW h11,by show n<=12;omega,?_⟩
  rw[pG]
  exact hM _ rfl
 rintro _ rfl
 unfold qM at hq
 cases e:srN W cl n (az m) []with
 | inl L =>
  rw[e]at hq
  obtain⟨F,_⟩:=xY hW h11 e
  refine⟨rfl,m,cl,L,W,rfl,F,?_⟩
  refine⟨l2,?_⟩
  exact hq
 | inr p =>
  rw[e]at hq
  refine⟨l2,?_⟩
  exact hq
end
def lsN (f:Nat->Bool):Nat->Nat->Nat
 | 0,k=>k
 | j+1,k=>if f k=true then k else lsN f j (k+1)
theorem Aq {f:Nat->Bool}:∀ {j k i:Nat},k<=i->i<lsN f j k->f i=false
 | 0,k,i,h1,h2=>by unfold lsN at h2;omega
 | j+1,k,i,h1,h2=>by
  unfold lsN at h2
  split at h2
  ·omega
  ·rename_i h
   by_cases e:i=k
   ·rw[e];exact DB.mpr h
   ·exact Aq (j:=j) (k:=k+1) (by omega) h2
theorem Ar {f:Nat->Bool}{n:Nat}(hf:f n=true):∀ {j k:Nat},k<=n->lsN f j k<=n
 | 0,k,h=>h
 | j+1,k,h=>by
  unfold lsN
  split
  ·exact h
  ·rename_i z
   exact Ar hf (Nat.lt_of_le_of_ne h λe=>z (e▸hf))
theorem As {f:Nat->Bool}{n:Nat}(hf:f n=true):∀ {j k:Nat},k<=n->n<k+j->f (lsN f j k)=true
 | 0,k,h1,h2=>by omega
 | j+1,k,h1,h2=>by
  unfold lsN
  split
  ·assumption
  ·rename_i z
   have:k≠n:=λe=>z (e▸hf)
   exact As hf (by omega) (by omega)
def sf (m:Nat):List Nat:=(sK (2^m)).filter λr=>decide (r≠0) && !(az m).contains r
theorem wm:∀m,m<5->∀cl:Bool,(az m++sf m).Nodup/\(sf m).length<=11/\∀i,i<(sf m).length->b8 cl (az m++(sf m).take i) ((sf m).getD i 0)=true:=by decide +kernel
theorem ends {m:Nat}{W:List Nat}(h:d0 m W)(h4:m<=4)(hr:∀r∈W,r<2^m)(cl:Bool):∃L,srN W cl 11 (az m) [] = .inl L:=by
 cases e:srN W cl 11 (az m) []with
 | inl L=>exact⟨L,rfl⟩
 | inr p =>
  exfalso
  obtain⟨a,b,c⟩:=wm m (by omega) cl
  refine nN h.w (iM h.m6) (nF (iM h.m6) e) (t:=sf m) ⟨a,c⟩ b (λx _=>by simp) λr hW=>?_
  by_cases z:r∈az m
  ·exact BS _ z
  ·refine ga _ (AC.mpr ⟨B9.mpr (hr r hW),?_⟩)
   have:=h.w r hW
   rw[BP,decide_eq_true_eq,CL,<- CQ,o0]
   exact⟨by omega,z⟩
noncomputable def bD (m:Nat)(W:List Nat)(cl:Bool):Nat:=lsN (λn=>(srN W cl n (az m) []).isLeft) 12 0
theorem mL {m:Nat}{W:List Nat}(h:d0 m W)(h4:m<=4)(hr:∀r∈W,r<2^m)(cl:Bool):bD m W cl<=11:=by
 obtain⟨L,e⟩:=ends h h4 hr cl
 exact Ar (by rw[e];rfl) (by decide)
theorem mM {m:Nat}{W:List Nat}(h:d0 m W)(h4:m<=4)(hr:∀r∈W,r<2^m)(cl:Bool):∃L,srN W cl (bD m W cl) (az m) [] = .inl L:=by
 obtain⟨L,e⟩:=ends h h4 hr cl
 have:=As (f:=λn=>(srN W cl n (az m) []).isLeft) (n:=11) (by rw[e];rfl) (j:=12) (k:=0) (by decide) (by decide)
 have:(srN W cl (bD m W cl) (az m) []).isLeft=true:=this
 cases e:srN W cl (bD m W cl) (az m) []with
 | inl L=>exact⟨L,rfl⟩
 | inr p=>rw[e]at this;cases this
theorem mK {m n:Nat}{W:List Nat}{cl:Bool}(h:n<bD m W cl):∃p,srN W cl n (az m) [] = .inr p:=by
 have:(srN W cl n (az m) []).isLeft=false:=Aq (zn n) h
 cases e:srN W cl n (az m) []with
 | inl L=>rw[e]at this;cases this
 | inr p=>exact⟨p,rfl⟩
noncomputable def papD (m:Nat)(W:List Nat)(cl:Bool):Nat->D
 | 0=>.non
 | n+1=>pd (srN W cl n (az m) [])
noncomputable def tolD (m:Nat)(W:List Nat)(cl:Bool)(n:Nat):D:=match srN W cl n (az m) []with
 | .inl L=>netD (tidN (eO m cl L W))
 | .inr p=>p
theorem tq (m:Nat)(W:List Nat)(cl:Bool)(n:Nat):qM m W cl n = .tup [.bl (srN W cl n (az m) []).isLeft,tolD m W cl n]:=by
 unfold qM tolD
 cases srN W cl n (az m) [] <;> rfl
noncomputable def rE (m:Nat)(W:List Nat)(cl:Bool):D:=.tup [tolD m W cl (bD m W cl),papD m W cl (bD m W cl)]
def vH:ASp:=λss q=>∃(m:Nat) (W:List Nat) (cl:Bool),ss=[.vl (bR m W),.vl (.bl cl)]/\d0 m W/\m<=4/\(∀r∈W,r<2^m)/\q (.d (rE m W cl)) [.vl (bR m W),.vl (.bl cl)]
theorem try4 {m n:Nat}(h4:m<=4)(hn:n<=11):gF m n=true:=by
 unfold gF
 rw[if_pos h4,BP,decide_eq_true_eq,decide_eq_true_eq]
 omega
theorem Am {i:Nat}{ρ:En}{A B:En->Prop}(h:gt ρ i = .vl (.bl false))(a:A ρ):aNot (aTru (aVar i)) ρ λk ρ1=>if k=true then A ρ1 else B ρ1:=by
 unfold aNot aTru aVar
 rw[h]
 exact a
section
variable {P:wE}{w:B2}{K:bi}{mg:Str->Option bn}{base:Heap}
theorem wJ (dn:DefN K mg "least" mw ["wish", "clean"])(B:BI mg)(g_tried:OkN P w K mg base 31 "tried" ["wish", "clean", "count"] (spA K rR))(c_FEW_GIVENS:∃u,mg "FEW_GIVENS" = some u/\RelV (.int 4) u):OkN P w K mg base 32 "least" ["wish", "clean"] (spA K vH):=by
 refine dn.aok2 (k:=31) d5 (λj=>j==0||j==1) [.un,.un,.un,.un] vH rfl (λf cdv A outer s H E hr=>have hu:=cz hr;⟨_,(ao (dq (a_ wH (bW (aT K) (pv 0) aJ (λ_ _=>rfl)) (nM c_FEW_GIVENS rfl) (bL _))
  (aI q_)
  bx)
  (ao (bj (i:=2) d5.nd rfl (by first | exact Or.inl rfl | exact Or.inr rfl) aJ)
  (ao (bj (i:=3) d5.nd rfl (by first | exact Or.inl rfl | exact Or.inr rfl) xN)
  (ao (fk (bM g_tried (hr.mono (by decide)) (ah (pv 0) (ah (pv 1) (ah (pv 2) aA)))) (bB K (n:=2) rfl (aK (aG (i:=4) d5.nd rfl (by first | exact Or.inl rfl | exact Or.inr rfl)) (aK (aG (i:=5) d5.nd rfl (by first | exact Or.inl rfl | exact Or.inr rfl)) bA))))
  (ao (mC Cj (f7 (eF K (pv 4) (λ_=>rfl)))
  (ao (xK (i:=2) d5.nd rfl (by first | exact Or.inl rfl | exact Or.inr rfl) aJ xT)
  (ao (bj (i:=3) d5.nd rfl (by first | exact Or.inl rfl | exact Or.inr rfl) (pv 5))
  (aI (fk (bM g_tried (hr.mono (by decide)) (ah (pv 0) (ah (pv 1) (ah (pv 2) aA)))) (bB K (n:=2) rfl (aK (aG (i:=4) d5.nd rfl (by first | exact Or.inl rfl | exact Or.inr rfl)) (aK (aG (i:=5) d5.nd rfl (by first | exact Or.inl rfl | exact Or.inr rfl)) bA))))))))
  (aI (aZ (c8 (ah (pv 5) (ah (pv 3) aA)))))))))),(aE (cp (aO (aF cZ (aF bb aa aH) aH))
  nH
  bg)
  (aE (a8 aH rfl)
  (aE (a8 tw rfl)
  (aE (dy (aM (af aa (af aa (af aa aj)))) (a9 (aD (aq rfl) (aD (aq rfl) aX (λ_ _ _=>aN)) (λ_ _ _=>aN))))
  (aE (j3 (cU (fB aa))
  (aE (t5 aH rfl)
  (aE (a8 aa rfl)
  (dy (aM (af aa (af aa (af aa aj)))) (a9 (aD (aq rfl) (aD (aq rfl) aX (λ_ _ _=>aN)) (λ_ _ _=>aN)))))))
  (aP (cb (af aa (af aa aj)))))))))⟩) ?_
 rintro ss q ⟨m,W,cl,rfl,hW,h4,hr,hq⟩
 have l2:(2:Nat)<=1000000:=by decide
 have h11:=mL hW h4 hr cl
 refine⟨rfl,rfl,?_⟩
 refine cutS (λρ=>ρ=[.vl (bR m W),.vl (.bl cl),.un,.un,.un,.un]) (λM hM=>e_ rfl (eQ (j:=0) rfl) ?_) ?_
 ·show if decide ((4:Int)<((m:Nat):Int))=true then _ else _
  rw[if_neg (by rw[decide_eq_true_eq];omega)]
  exact hM _ rfl
 rintro _ rfl
 refine cutS (λρ=>ρ=[.vl (bR m W),.vl (.bl cl),nv 0,.un,.un,.un]) (λM hM=>hM _ rfl) ?_
 rintro _ rfl
 refine cutS (λρ=>ρ=[.vl (bR m W),.vl (.bl cl),nv 0,.vl (papD m W cl 0),.un,.un]) (λM hM=>hM _ rfl) ?_
 rintro _ rfl
 have try1:∀ {n:Nat} {s2 s4 s5:Sv} {M:En->Prop},n<=11->M [.vl (bR m W),.vl (.bl cl),nv n,s2,.vl (.bl (srN W cl n (az m) []).isLeft),.vl (tolD m W cl n)]->aAsg (Bg rR (xt (aVar 0) (xt (aVar 1) (xt (aVar 2) aNil)))) (oE 2 (fw (eX 4) (fw (eX 5) gaNil))) {nx:=M,ct:=M,bk:=λ_=>False,rt:=λ_ _=>False} [.vl (bR m W),.vl (.bl cl),nv n,s2,s4,s5]:=λ{n s2 s4 s5 M} hn h=>by
  refine⟨rfl,m,W,cl,n,rfl,hW,try4 h4 hn,?_⟩
  rw[tq]
  exact h
 refine cutS (λρ=>ρ=[.vl (bR m W),.vl (.bl cl),nv 0,.vl (papD m W cl 0),.vl (.bl (srN W cl 0 (az m) []).isLeft),.vl (tolD m W cl 0)]) (λM hM=>try1 (by decide) (hM _ rfl)) ?_
 rintro _ rfl
 refine cutS (λρ=>ρ=[.vl (bR m W),.vl (.bl cl),nv (bD m W cl),.vl (papD m W cl (bD m W cl)),.vl (.bl true),.vl (tolD m W cl (bD m W cl))]) (λM hM=>?_) ?_
 ·refine o_ (λρ=>∃n,n<=bD m W cl/\ρ=[.vl (bR m W),.vl (.bl cl),nv n,.vl (papD m W cl n),.vl (.bl (srN W cl n (az m) []).isLeft),.vl (tolD m W cl n)]) (λρ=>match ρ with | [_,_,.vl (.int z),_,_,_]=>11 - z.toNat | _=>0) ?_ _ ⟨0,zn _,rfl⟩
  rintro _ N ⟨n,hn,rfl⟩ hN
  by_cases e:n=bD m W cl
  ·obtain⟨L,eL⟩:=mM hW h4 hr cl
   have hM':=hM _ rfl
   rw[<- e]at eL hM'
   rw[eL]
   exact hM'
  ·obtain⟨p,ep⟩:=mK (m:=m) (W:=W) (cl:=cl) (n:=n) (by omega)
   have et:tolD m W cl n=papD m W cl (n+1):=by
    unfold tolD
    rw[ep]
    show p=pd (srN W cl n (az m) [])
    rw[ep]
    rfl
   have el:(srN W cl n (az m) []).isLeft=false:=by rw[ep];rfl
   rw[et,el]
   refine Am (i:=4) rfl ?_
   show aSeq _ _ _ [.vl (bR m W),.vl (.bl cl),nv n,.vl (papD m W cl n),.vl (.bl false),.vl (papD m W cl (n+1))]
   refine cutS (λρ=>ρ=[.vl (bR m W),.vl (.bl cl),nv (n+1),.vl (papD m W cl n),.vl (.bl false),.vl (papD m W cl (n+1))]) (λM hM=>hM _ rfl) ?_
   rintro _ rfl
   refine cutS (λρ=>ρ=[.vl (bR m W),.vl (.bl cl),nv (n+1),.vl (papD m W cl (n+1)),.vl (.bl false),.vl (papD m W cl (n+1))]) (λM hM=>hM _ rfl) ?_
   rintro _ rfl
   refine try1 (by omega) (hN _ ⟨n+1,by omega,rfl⟩ ?_)
   show 11 - (((n+1:Nat):Int)).toNat<11 - ((n:Nat):Int).toNat
   omega
 rintro _ rfl
 exact⟨l2,hq⟩
end
theorem eqX {a b:Nat}:eqD (.int (Ct (a:Int) (b:Int))) (.int 0)=decide (a &&& b=0):=by
 rw[nu]
 show decide (((a &&& b:Nat):Int)=0)=_
 rw[decide_eq_decide];omega
theorem gaN1 {i:Nat}{a:D}{ρ:En}{M:En->Prop}(h:M (pt ρ i (.vl a))):eX i a ρ M:=h
theorem ig:∀xs:List Nat,depths (ar xs)<=1
 | []=>by simp[ar,depths]
 | x::xs=>by
  have:=ig xs
  unfold ar at this ⊢
  rw[wl]
  simp only[depths,D.depth]
  omega
def vG:ASp:=λss q=>∃(N:Net) (W:List Nat),ss=[.vl (netD N),.vl (bR N.m W)]/\jd N/\N.os.map (λo=>(a7 N).getD o 0)=W/\q (.d (.bl true)) [.vl (netD N),.vl (bR N.m W)]
def vM:ASp:=λss q=>∃N:Net,ss=[.vl (netD N)]/\jd N/\ia N=true/\q (.d (.bl true)) [.vl (netD N)]
theorem kP:∀(js:List (Nat×Nat)) (rows:List Nat) {i:Nat},i<rows.length->(js.foldl aL rows).getD i 0=rows.getD i 0
 | [],_,_,_=>rfl
 | p::js,rows,i,h=>by
  rw[D7,kP js _ (by rw[cx];omega)]
  unfold aL
  rw[kt,BQ h,<- kt]
section
variable {P:wE}{w:B2}{K:bi}{mg:Str->Option bn}{base:Heap}
theorem sk (dn:DefN K mg "is_join" iJ ["rows", "join"])(B:BI mg)(g_is_tuple:OkN P w K mg base 1 "is_tuple" ["thing", "least", "most"] (spA K g_))(g_is_whole:OkN P w K mg base 1 "is_whole" ["thing", "least", "most"] (spA K jb)):OkN P w K mg base 2 "is_join" ["rows", "join"] (spA K qF):=by
 refine dn.aok2 (k:=1) gR (λj=>j==0||j==1) [.un,.un,.un] qF rfl (λf cdv A outer s H E hr=>have hu:=cz hr;⟨_,(ao (dq (f7 (eE (bM g_is_tuple (hr.mono (by decide)) (ah (pv 1) (ah aJ (ah aJ aA))))))
  (aI (aZ c9))
  bx)
  (ao (fk (pv 1) (bB K (n:=2) rfl (aK (aG (i:=2) gR.nd rfl (by first | exact Or.inl rfl | exact Or.inr rfl)) (aK (aG (i:=3) gR.nd rfl (by first | exact Or.inl rfl | exact Or.inr rfl)) bA))))
  (ao (bj (i:=4) gR.nd rfl (by first | exact Or.inl rfl | exact Or.inr rfl) (bh iN (bE (cg K) rfl B.len_ fA (ah (pv 0) aA)) aJ))
  (aI (aZ (h_ (bM g_is_whole (hr.mono (by decide)) (ah (pv 2) (ah aJ (ah (pv 4) aA)))) (h_ (bM g_is_whole (hr.mono (by decide)) (ah (pv 3) (ah aJ (ah (pv 4) aA)))) (h_ (gr yH (pv 2) (pv 3) (bL _)) (ki (gr (iO K hr.units) (bW (aT K) (pv 0) (pv 2) (λ_ _=>rfl)) (bW (aT K) (pv 0) (pv 3) (λ_ _=>rfl)) (bL _))))))))))),(aE (cp (cU (dZ (aM (af aa (af aH (af aH aj))))))
  (aP bV)
  bg)
  (aE (dy aa (a9 (aD (aq rfl) (aD (aq rfl) aX (λ_ _ _=>aN)) (λ_ _ _=>aN))))
  (aE (a8 (aF bc (cj dM (af aa aj)) aH) rfl)
  (aP (dF (aM (af aa (af aH (af aa aj)))) (dF (aM (af aa (af aH (af aa aj)))) (dF (aF cZ aa aa) (aF iP (aF bb aa aa) (aF bb aa aa)))))))))⟩) ?_
 rintro ss q ⟨s0,rows,d,rfl,hs,hq⟩
 cases ht:tupB 2 2 d with
 | false =>
  rw[uQ ht]at hq
  rcases hs with rfl | rfl <;>
  ·refine⟨rfl,rfl,rfl,d,2,2,rfl,?_⟩
   rw[ht];exact hq
 | true =>
  obtain⟨x,y,rfl⟩:=vV ht
  rcases hs with rfl | rfl <;>
  ·refine⟨rfl,rfl,rfl,_,2,2,rfl,iteF ?_⟩
   refine⟨rfl,x,0,_,rfl,?_⟩
   rw[lenD]
   refine ite2 (λh1=>?_) λh1=>?_
   ·refine⟨rfl,y,0,_,rfl,?_⟩
    refine ite2 (λh2=>?_) λh2=>?_
    ·obtain⟨a,rfl,a1,a2⟩:=je h1
     obtain⟨b,rfl,b1,b2⟩:=je h2
     obtain⟨a,rfl⟩:=CW a1
     obtain⟨b,rfl⟩:=CW b1
     refine ite2 (λh3=>?_) λh3=>?_
     ·refine bz rfl (by omega) (bz rfl (by omega) (cm rfl rfl (by simp[D.depth]) rfl ?_))
      have e:hV rows (.tup [.int (a:Nat),.int (b:Nat)]) = !eqD (.int (rows.getD a 0:Nat)) (.int (rows.getD b 0:Nat)):=by
       have h3':=of_decide_eq_true h3
       simp only[hV,eqD,Cr]
       rw[decide_eq_true a1,decide_eq_true a2,decide_eq_true b1,decide_eq_true b2,decide_eq_true h3']
       simp only[Du,bne]
       congr 1
       rw[D8];simp;exact HM.symm
      rw[e]at hq;exact hq
     ·have e:hV rows (.tup [.int (a:Nat),.int (b:Nat)])=false:=by
       simp only[hV]
       rw[show decide ((a:Int)<(b:Int))=false by simpa using h3]
       simp
      rw[e]at hq;exact hq
    ·rw[y2 (by simpa using h2)]at hq;exact hq
   ·rw[y3 (by simpa using h1)]at hq;exact hq
theorem nW (dn:DefN K mg "are_joins" fG ["many", "joins"])(B:BI mg)(g_own_rows:OkN P w K mg base 1 "own_rows" ["many"] (spA K SOwn))(g_is_tuple:OkN P w K mg base 1 "is_tuple" ["thing", "least", "most"] (spA K g_))(g_is_join:OkN P w K mg base 2 "is_join" ["rows", "join"] (spA K qF))(g_joined:OkN P w K mg base 1 "joined" ["one", "other"] (spA K il))(c_MOST_JOINS:∃u,mg "MOST_JOINS" = some u/\RelV (.int 132) u):OkN P w K mg base 3 "are_joins" ["many", "joins"] (spA K kX):=by
 refine dn.aok2 (k:=2) gp (λj=>j==0||j==1) [.un,.un] kX rfl (λf cdv A outer s H E hr=>have hu:=cz hr;⟨_,(ao (dq (f7 (eE (bM g_is_tuple (hr.mono (by decide)) (ah (pv 1) (ah aJ (ah (nM c_MOST_JOINS rfl) aA))))))
  (aI (aZ c9))
  bx)
  (ao (bj (i:=2) gp.nd rfl (by first | exact Or.inl rfl | exact Or.inr rfl) (bM g_own_rows (hr.mono (by decide)) (ah (pv 0) aA)))
  (ao (eG Cj rfl (bF K (pv 1)) (aG (i:=3) gp.nd rfl (by first | exact Or.inl rfl | exact Or.inr rfl))
  (ao (dq (f7 (eE (bM g_is_join (hr.mono (by decide)) (ah (pv 2) (ah (pv 3) aA)))))
  (aI (aZ c9))
  bx)
  (aI (dX (fo K Ch Cw Cv cP (pv 2) (ah (bM g_joined (hr.mono (by decide)) (ah (bW (aT K) (pv 2) (bW (aT K) (pv 3) aJ (λ_ _=>rfl)) (λ_ _=>rfl)) (ah (bW (aT K) (pv 2) (bW (aT K) (pv 3) aJ (λ_ _=>rfl)) (λ_ _=>rfl)) aA))) aA))))))
  (aI (aZ c9))))),(aE (cp (cU (dZ (aM (af aa (af aH (af aH aj))))))
  (aP bV)
  bg)
  (aE (a8 (aM (af aa aj)) rfl)
  (aE (cX (pin:=(λj=>j==1)) (ba aa) (aq rfl)
  (aE (cp (cU (dZ (aM (af aa (af aa aj)))))
  (aP bV)
  bg)
  (cV (e6 aa (af (aM (af (aF bb aa (aF bb aa aH)) (af (aF bb aa (aF bb aa aH)) aj))) aj)))))
  (aP bV))))⟩) ?_
 rintro ss q ⟨m,d,rfl,hm,hq⟩
 refine⟨rfl,rfl,rfl,d,0,132,rfl,?_⟩
 cases ht:tupB 0 132 d with
 | false=>rw[oY ht]at hq;exact hq
 | true =>
  obtain⟨ds,rfl,_,hl⟩:=jN ht
  have hl':ds.length<=132:=by omega
  rw[show dN m (.tup ds)=iU (az m) ds by simp[dN,hl']]at hq
  refine iteF ⟨rfl,m,rfl,by omega,?_⟩
  refine d9 (λk ρ=>∃rows s3,ρ=[nv m,.vl (.tup ds),.ow (ar rows),s3]/\rows.length=m+k/\iU rows (ds.drop k)=iU (az m) ds) (λ_ _ _ _=>trivial) ?_ ?_ _ ⟨_,_,rfl,cc m,rfl⟩
  ·rintro k d ρ M hk ⟨rows,s3,rfl,hlen,hj⟩ hM
   have lt:=(im.mp hk).1
   have ed:ds[k]=d:=(im.mp hk).2
   rw[B_ lt,ed]at hj
   rw[show iU rows (d::List.drop (k+1) ds)=(hV rows d&&iU (v_ rows d) (List.drop (k+1) ds))from rfl]at hj
   refine⟨rfl,_,rows,d,rfl,.inl rfl,?_⟩
   cases hb:hV rows d with
   | false =>
    rw[hb,DY]at hj
    rw[<- hj]at hq
    exact hq
   | true =>
    rw[hb,Du]at hj
    refine iteF ?_
    have hb':=hb
    unfold hV at hb'
    split at hb'
    ·rename_i a b
     simp only[BP,decide_eq_true_eq]at hb'
     obtain⟨⟨⟨⟨a1,a2⟩,b1,b2⟩,ab⟩,_⟩:=hb'
     obtain⟨a,rfl⟩:=CW a1
     obtain⟨b,rfl⟩:=CW b1
     refine e_ rfl rfl (bz rfl (by omega) (e_ rfl rfl (bz rfl (by omega) ⟨rfl,_,_,rfl,?_,hM _ ⟨aL rows (a,b),.vl (.tup [.int (a:Nat),.int (b:Nat)]),?_,?_,hj⟩⟩)))
     ·rw[f8,hlen];omega
     ·rw[g5];rfl
     ·rw[cx,hlen];omega
    ·cases hb'
  ·rintro ρ ⟨rows,s3,rfl,hlen,hj⟩
   rw[GU]at hj
   rw[<- hj]at hq
   exact hq
theorem pW (dn:DefN K mg "are_outs" fj ["things", "outs"])(B:BI mg)(g_is_tuple:OkN P w K mg base 1 "is_tuple" ["thing", "least", "most"] (spA K g_))(g_is_whole:OkN P w K mg base 1 "is_whole" ["thing", "least", "most"] (spA K jb))(c_MOST_OUTS:∃u,mg "MOST_OUTS" = some u/\RelV (.int 24) u):OkN P w K mg base 2 "are_outs" ["things", "outs"] (spA K nA):=by
 refine dn.aok2 (k:=1) pF (λj=>j==0||j==1) [] nA rfl (λf cdv A outer s H E hr=>have hu:=cz hr;⟨_,(aI (aZ (h_ (bM g_is_tuple (hr.mono (by decide)) (ah (pv 1) (ah aJ (ah (nM c_MOST_OUTS rfl) aA)))) (ki (bE (vA K rfl) rfl B.all_ A8 (ah (dY ["out"] [0] rfl (Blk.of (aw fj) kB) (bF K (pv 1)) (λ_ _ _ _ nd=>(aG (i:=0) nd rfl (by first | exact Or.inl rfl | exact Or.inr rfl))) (λ_ _ _ _=>dh) (λ_ _ _ _=>(bM g_is_whole (hr.mono (by decide)) (ah (pv 0) (ah aJ (ah (bh iN (pv 1) aJ) aA)))))) aA)))))),(aP (dF (aM (af aa (af aH (af aH aj)))) (cj xo (af (b6 (ba aa) (aq rfl) cw (aM (af aa (af aH (af (aF bc aa aH) aj))))) aj))))⟩) ?_
 rintro ss q ⟨n,d,rfl,hq⟩
 refine⟨rfl,rfl,rfl,d,1,24,rfl,?_⟩
 cases ht:tupB 1 24 d with
 | false=>rw[qC ht]at hq;exact hq
 | true =>
  obtain⟨ds,rfl,h1,hl⟩:=jN ht
  have hl':ds.length<=24:=by omega
  have h1':1<=ds.length:=by omega
  refine iteT ⟨by omega,?_⟩
  refine vo (λd=>.bl (du 0 ((n:Int) - 1) d)) _ trivial (λd acc M _ hM=>?_) ?_
  ·exact⟨rfl,d,0,_,rfl,hM⟩
  ·refine ze (bs:=ds.map (du 0 ((n:Int) - 1))) ?_ ?_
   ·show some (D.lst (ds.map _))=_
    rw[B8];rfl
   ·rw[show fX n (.tup ds)=(ds.map (du 0 ((n:Int) - 1))).all id by simp[fX,hl',h1']]at hq
    exact hq
theorem ux (dn:DefN K mg "is_net" jP ["thing"])(B:BI mg)(g_is_tuple:OkN P w K mg base 1 "is_tuple" ["thing", "least", "most"] (spA K g_))(g_is_whole:OkN P w K mg base 1 "is_whole" ["thing", "least", "most"] (spA K jb))(g_are_joins:OkN P w K mg base 3 "are_joins" ["many", "joins"] (spA K kX))(g_are_outs:OkN P w K mg base 2 "are_outs" ["things", "outs"] (spA K nA))(c_MOST_GIVENS:∃u,mg "MOST_GIVENS" = some u/\RelV (.int 12) u):OkN P w K mg base 4 "is_net" ["thing"] (spA K vK):=by
 refine dn.aok2 (k:=3) iF (λj=>j==0) [.un,.un,.un] vK rfl (λf cdv A outer s H E hr=>have hu:=cz hr;⟨_,(ao (dq (f7 (eE (bM g_is_tuple (hr.mono (by decide)) (ah (pv 0) (ah aJ (ah aJ aA))))))
  (aI (aZ c9))
  bx)
  (ao (fk (pv 0) (bB K (n:=3) rfl (aK (aG (i:=1) iF.nd rfl (by first | exact Or.inl rfl | exact Or.inr rfl)) (aK (aG (i:=2) iF.nd rfl (by first | exact Or.inl rfl | exact Or.inr rfl)) (aK (aG (i:=3) iF.nd rfl (by first | exact Or.inl rfl | exact Or.inr rfl)) bA)))))
  (aI (aZ (h_ (bM g_is_whole (hr.mono (by decide)) (ah (pv 1) (ah aJ (ah (nM c_MOST_GIVENS rfl) aA)))) (h_ (bM g_are_joins (hr.mono (by decide)) (ah (pv 1) (ah (pv 2) aA))) (ki (bM g_are_outs (hr.mono (by decide)) (ah (bh fq (pv 1) (bE (cg K) rfl B.len_ fA (ah (pv 2) aA))) (ah (pv 3) aA)))))))))),(aE (cp (cU (dZ (aM (af aa (af aH (af aH aj))))))
  (aP bV)
  bg)
  (aE (dy aa (a9 (aD (aq rfl) (aD (aq rfl) (aD (aq rfl) aX (λ_ _ _=>aN)) (λ_ _ _=>aN)) (λ_ _ _=>aN))))
  (aP (dF (aM (af aa (af aH (af aH aj)))) (dF (aM (af aa (af aa aj))) (aM (af (aF bc aa (cj dM (af aa aj))) (af aa aj))))))))⟩) ?_
 rintro ss q ⟨d,rfl,hq⟩
 refine⟨rfl,rfl,rfl,d,3,3,rfl,?_⟩
 cases ht:tupB 3 3 d with
 | false=>rw[wN ht]at hq;exact hq
 | true =>
  obtain⟨x,y,z,rfl⟩:=vU ht
  refine iteF ⟨rfl,x,1,12,rfl,?_⟩
  cases hw:du 1 12 x with
  | false =>
   have e:netB (.tup [x,y,z])=false:=by
    cases x with
    | int i=>simp only[du]at hw;simp only[netB,hw,DY]
    | _=>rfl
   rw[e]at hq;exact hq
  | true =>
   obtain⟨i,rfl,i1,i2⟩:=je hw
   obtain⟨m,rfl⟩:=CW (show 0<=i by omega)
   have e:netB (.tup [.int (m:Nat),y,z])=(dN m y&&fX (m+lenT y) z):=by
    simp only[netB,du]at hw ⊢
    rw[hw,Cr,Du]
   rw[e]at hq
   refine iteT ⟨rfl,m,y,rfl,by omega,?_⟩
   cases hj:dN m y with
   | false=>rw[hj]at hq;exact hq
   | true =>
    rw[hj,Du]at hq
    refine iteT ?_
    have:∃ds,y = .tup ds:=by
     cases y with
     | tup ds=>exact⟨ds,rfl⟩
     | _=>cases hj
    obtain⟨ds,rfl⟩:=this
    exact⟨rfl,m+ds.length,z,rfl,hq⟩
theorem nU (dn:DefN K mg "_law_makes" dB ["_law_net", "_law_wish_here"])(B:BI mg)(g_is_net:OkN P w K mg base 4 "is_net" ["thing"] (spA K vK)):OkN P w K mg base 5 "_law_makes" ["_law_net", "_law_wish_here"] (spA K vG):=by
 refine dn.aok2 (k:=4) eT (λj=>j==0||j==1) [.un,.un,.un] vG rfl (λf cdv A outer s H E hr=>have hu:=cz hr;⟨_,(ao (bj (i:=2) eT.nd rfl (by first | exact Or.inl rfl | exact Or.inr rfl) (dY ["_law_k"] [] rfl (Blk.of (aw dB) gC) (eI rfl B.range_ (ah (bW (aT K) (pv 1) aJ (λ_ _=>rfl)) aA)) (λ_ _ _ _ nd=>(aG (i:=0) nd rfl (by first | exact Or.inl rfl | exact Or.inr rfl))) (λ_ _ _ _=>dh) (λ_ _ _ _=>(bh kq aJ (pv 0)))))
  (ao (dq (PW.pt (sg (f7 (eE (bM g_is_net (hr.mono (by decide)) (ah (pv 0) aA)))) (q0 (a_ (iO K hr.units) (bW (aT K) (pv 0) aJ (λ_ _=>rfl)) (bW (aT K) (pv 1) aJ (λ_ _=>rfl)) (bL _)))))
  (aI (aZ c9))
  bx)
  (ao (eG Cj rfl (bF K (bW (aT K) (pv 0) aJ (λ_ _=>rfl))) (bB K (n:=2) rfl (aK (aG (i:=3) eT.nd rfl (by first | exact Or.inl rfl | exact Or.inr rfl)) (aK (aG (i:=4) eT.nd rfl (by first | exact Or.inl rfl | exact Or.inr rfl)) bA)))
  (aI (dX (fo K Ch Cw Cv cP (pv 2) (ah (bh nP (bW (aT K) (pv 2) (pv 3) (λ_ _=>rfl)) (bW (aT K) (pv 2) (pv 4) (λ_ _=>rfl))) aA)))))
  (aI (aZ (gr (gA K hr.units) (dY ["_law_out"] [2] rfl (Blk.of (aw dB) gC) (bF K (bW (aT K) (pv 0) aJ (λ_ _=>rfl))) (λ_ _ _ _ nd=>(aG (i:=0) nd rfl (by first | exact Or.inl rfl | exact Or.inr rfl))) (λ_ _ _ _=>dh) (λ_ _ _ _=>(bW (aT K) (pv 1) (pv 0) (λ_ _=>rfl)))) (cN (l7 K) rfl B.list_ nh (ah (bW (aT K) (pv 1) aJ (λ_ _=>rfl)) aA)) (bL _))))))),(aE (a8 (b6 (eA (af (aF bb aa aH) aj)) (aq rfl) cw (aF fJ aH aa)) rfl)
  (aE (cp (jg (cU (dZ (aM (af aa aj)))) (aO (aF iP (aF bb aa aH) (aF bb aa aH))))
  (aP bV)
  bg)
  (aE (cX (pin:=(λ_=>false)) (ba (aF bb aa aH)) (a9 (aD (aq rfl) (aD (aq rfl) aX (λ_ _ _=>aN)) (λ_ _ _=>aN)))
  (cV (e6 aa (af (aF bc (aF bb aa aa) (aF bb aa aa)) aj))))
  (aP (aF gB (b6 (ba (aF bb aa aH)) (aq rfl) cw (aF bb aa aa)) (cj oP (af (aF bb aa aH) aj)))))))⟩) ?_
 rintro ss q ⟨N,W,rfl,hN,hW,hq⟩
 have m12:=hN.m12
 have jl:=hN.jl
 have o24:=hN.o24
 have hix:okIx N.m N.js:=by have:=ky hN.js;rwa [cc]at this
 have lw:W.length<=24:=by rw[<- hW,f8];exact o24
 refine⟨rfl,rfl,?_⟩
 refine cutS (λρ=>ρ=[.vl (netD N),.vl (bR N.m W),.ow (ar (az N.m)),.un,.un]) (λM hM=>e_ (i:=0) (d:=nD N.m) rfl rfl ⟨⟨by omega,by omega⟩,by rw[eV];omega,?_⟩) ?_
 ·refine i7 (λk=>.int (1 <<< k:Nat)) trivial (λk acc M' hk hM'=>?_) ?_
  ·rw[FM]
   refine⟨⟨by omega,by omega,by decide⟩,?_⟩
   show M' (acc++[.int ((1:Int)*2^((k:Int).toNat))]) _
   rw[ji];exact hM'
  ·have e:((sK N.m).map λk=>D.int (1 <<< k:Nat))=ar (az N.m):=by unfold az ar;rw[B8];rfl
   rw[Cr,e]
   exact hM _ rfl
 rintro _ rfl
 refine cutS (λρ=>ρ=[.vl (netD N),.vl (bR N.m W),.ow (ar (az N.m)),.un,.un]) (λM hM=>?_) ?_
 ·refine⟨rfl,netD N,rfl,?_⟩
  rw[yQ hN]
  refine e_ (i:=0) (d:=nD N.m) rfl rfl (e_ (i:=0) (d:=nD N.m) rfl rfl (cm (b:=true) rfl rfl (show D.depth (.int _)<=60 by simp[D.depth]) (by show decide (((N.m:Nat):Int)=((N.m:Nat):Int))=true;simp) ?_))
  exact hM _ rfl
 rintro _ rfl
 refine cutS (λρ=>∃s3 s4,ρ=[.vl (netD N),.vl (bR N.m W),.ow (ar (a7 N)),s3,s4]) (λM hM=>?_) ?_
 ·refine e_ (i:=1) (d:=.tup (N.js.map L2.bQ)) rfl rfl (iZ L2.bQ (λj ρ=>∃s3 s4,ρ=[.vl (netD N),.vl (bR N.m W),.ow (ar ((N.js.take j).foldl aL (az N.m))),s3,s4]) (λ_ _ _=>trivial) ?_ ?_ ⟨.un,.un,rfl⟩)
  ·rintro j p _ M' hj ⟨s3,s4,rfl⟩ hM'
   obtain⟨q1,q2⟩:=fL hix hj
   have hlen:((N.js.take j).foldl aL (az N.m)).length=N.m+j:=by
    have:=(im.mp hj).1
    rw[fR,B0,cc];omega
   have hi:j<N.js.length:=(im.mp hj).1
   refine gaT2 ?_
   refine bz rfl (by omega) (bz rfl (by omega) ⟨?_,hM' _ ⟨nv p.1,nv p.2,?_⟩⟩)
   ·rw[bo,hlen];omega
   ·rw[gH hj,g5,<- xorD];rfl
  ·rintro ρ ⟨s3,s4,rfl⟩
   rw[Cf]
   exact hM _ ⟨s3,s4,rfl⟩
 rintro _ ⟨s3,s4,rfl⟩
 have rl:(a7 N).length=N.m+N.js.length:=iK N
 refine e_ (i:=2) (d:=.tup (ar N.os)) rfl rfl ⟨by rw[bo];omega,kT nD (λo=>nD ((a7 N).getD o 0)) trivial (λo acc M ho' hM=>bz rfl (by rw[rl];exact hN.os o ho') hM) ?_⟩
 have e1:(N.os.map λo=>nD ((a7 N).getD o 0))=ar W:=by rw[<- hW];unfold ar;rw[B8];rfl
 rw[e1]
 refine e_ (i:=1) (d:=.tup (ar W)) rfl rfl ?_
 exact cm rfl rfl (qq _) (b:=true) (g9 _) hq
theorem nV (dn:DefN K mg "_law_clean" eC ["_law_net"])(B:BI mg):OkN P w K mg base 1 "_law_clean" ["_law_net"] (spA K vM):=by
 refine dn.aok2 (k:=0) eU (λj=>j==0) [.un,.un,.un] vM rfl (λf cdv A outer s H E hr=>have hu:=cz hr;⟨_,(ao (j_ (i:=1) ["_law_k"] [] eU.nd rfl (by first | exact Or.inl rfl | exact Or.inr rfl) rfl (Blk.of (aw eC) jC) (eI rfl B.range_ (ah (bW (aT K) (pv 0) aJ (λ_ _=>rfl)) aA)) (λ_ _ _ _ nd=>(aG (i:=0) nd rfl (by first | exact Or.inl rfl | exact Or.inr rfl))) (λ_ _ _ _=>dh) (λ_ _ _ _=>(bh kq aJ (pv 0))))
  (ao (eG Cj rfl (bF K (bW (aT K) (pv 0) aJ (λ_ _=>rfl))) (bB K (n:=2) rfl (aK (aG (i:=2) eU.nd rfl (by first | exact Or.inl rfl | exact Or.inr rfl)) (aK (aG (i:=3) eU.nd rfl (by first | exact Or.inl rfl | exact Or.inr rfl)) bA)))
  (ao (dq (a_ (iO K hr.units) (bh lI (bW (aT K) (pv 1) (pv 2) (λ_ _=>rfl)) (bW (aT K) (pv 1) (pv 3) (λ_ _=>rfl))) aJ (bL _))
  (aI (aZ c9))
  bx)
  (aI (dX (fo K Ch Cw Cv cP (pv 1) (ah (bh nP (bW (aT K) (pv 1) (pv 2) (λ_ _=>rfl)) (bW (aT K) (pv 1) (pv 3) (λ_ _=>rfl))) aA))))))
  (aI (aZ c9)))),(aE (iC (b6 (eA (af (aF bb aa aH) aj)) (aq rfl) cw (aF fJ aH aa)) rfl)
  (aE (cX (pin:=(λ_=>false)) (ba (aF bb aa aH)) (a9 (aD (aq rfl) (aD (aq rfl) aX (λ_ _ _=>aN)) (λ_ _ _=>aN)))
  (aE (cp (aO (aF iP (aF bc (aF bb aa aa) (aF bb aa aa)) aH))
  (aP bV)
  bg)
  (cV (e6 aa (af (aF bc (aF bb aa aa) (aF bb aa aa)) aj)))))
  (aP bV)))⟩) ?_
 rintro ss q ⟨N,rfl,hN,hc,hq⟩
 have m12:=hN.m12
 have jl:=hN.jl
 have hix:okIx N.m N.js:=by have:=ky hN.js;rwa [cc]at this
 refine⟨rfl,rfl,?_⟩
 refine cutS (λρ=>ρ=[.vl (netD N),.ow (ar (az N.m)),.un,.un]) (λM hM=>e_ (i:=0) (d:=nD N.m) rfl rfl ⟨⟨by omega,by omega⟩,by rw[eV];omega,?_⟩) ?_
 ·refine i7 (λk=>.int (1 <<< k:Nat)) trivial (λk acc M' hk hM'=>?_) ?_
  ·rw[FM]
   refine⟨⟨by omega,by omega,by decide⟩,?_⟩
   show M' (acc++[.int ((1:Int)*2^((k:Int).toNat))]) _
   rw[ji];exact hM'
  ·have e:((sK N.m).map λk=>D.int (1 <<< k:Nat))=ar (az N.m):=by unfold az ar;rw[B8];rfl
   rw[Cr,e]
   exact hM _ rfl
 rintro _ rfl
 refine cutS (λρ=>∃s3 s4,ρ=[.vl (netD N),.ow (ar (a7 N)),s3,s4]) (λM hM=>?_) ?_
 ·refine e_ (i:=1) (d:=.tup (N.js.map L2.bQ)) rfl rfl (iZ L2.bQ (λj ρ=>∃s3 s4,ρ=[.vl (netD N),.ow (ar ((N.js.take j).foldl aL (az N.m))),s3,s4]) (λ_ _ _=>trivial) ?_ ?_ ⟨.un,.un,rfl⟩)
  ·rintro j p _ M' hj ⟨s3,s4,rfl⟩ hM'
   obtain⟨q1,q2⟩:=fL hix hj
   have hi:j<N.js.length:=(im.mp hj).1
   have hlen:((N.js.take j).foldl aL (az N.m)).length=N.m+j:=by
    rw[fR,B0,cc];omega
   have hz:((N.js.take j).foldl aL (az N.m)).getD p.1 0 &&& ((N.js.take j).foldl aL (az N.m)).getD p.2 0=0:=by
    have h0:=DG.mp hc p (Cb hj)
    have eR:a7 N=(N.js.drop j).foldl aL ((N.js.take j).foldl aL (az N.m)):=by
     unfold a7
     rw[<- Ex,Ea]
    rw[eR,kP (N.js.drop j) ((N.js.take j).foldl aL (az N.m)) (show p.1<_ by omega),kP (N.js.drop j) ((N.js.take j).foldl aL (az N.m)) (show p.2<_ by omega)]at h0
    simpa using h0
   refine gaT2 ?_
   show aSeq _ _ _ [.vl (netD N),.ow (ar ((N.js.take j).foldl aL (az N.m))),nv p.1,nv p.2]
   refine cutS (λρ=>ρ=[.vl (netD N),.ow (ar ((N.js.take j).foldl aL (az N.m))),nv p.1,nv p.2]) (λM hM=>?_) ?_
   ·refine bz rfl (by omega) (bz rfl (by omega) ?_)
    refine cm (b:=true) rfl rfl (show D.depth (.int _)<=60 by simp[D.depth]) (eqX.trans (decide_eq_true hz)) ?_
    exact hM _ rfl
   rintro _ rfl
   refine bz rfl (by omega) (bz rfl (by omega) ⟨?_,hM' _ ⟨nv p.1,nv p.2,?_⟩⟩)
   ·rw[bo,hlen];omega
   ·rw[gH hj,g5,<- xorD];rfl
  ·rintro ρ ⟨s3,s4,rfl⟩
   rw[Cf]
   exact hM _ ⟨s3,s4,rfl⟩
 rintro _ ⟨s3,s4,rfl⟩
 exact hq
end
theorem Ext.snoc {cl:Bool}{kn t:List Nat}{r:Nat}(e:Ext cl kn t)(h:b8 cl (kn++t) r=true)(hr:r∉kn++t):Ext cl kn (t++[r]):=by
 refine⟨by rw[<- Cd];exact t6 e.nd hr,λi hi=>?_⟩
 rw[wS,Dp]at hi
 by_cases z:i<t.length
 ·rw[EN (by omega),kt,BQ z,<- kt]
  exact e.nx i z
 ·obtain rfl:i=t.length:=by omega
  rw[EN (li _),Cf,kt,Cc (li _),Ih]
  exact h
def ip (m:Nat)(cl:Bool)(j:Nat)(R:List Nat):Prop:=∃t,Ext cl (az m) t/\t.length<=j/\∀r∈R,r∈az m++t
theorem ip.step {m j:Nat}{cl:Bool}{R:List Nat}(h:ip m cl j R){a b:Nat}(ha:a∈R)(hb:b∈R)(ne:a≠b)(hm:mayN cl a b=true):ip m cl (j+1) (R++[a ^^^ b]):=by
 obtain⟨t,e,hl,hR⟩:=h
 by_cases z:a ^^^ b∈az m++t
 ·refine⟨t,e,by omega,λr hr=>?_⟩
  rcases BO.mp hr with q | q
  ·exact hR r q
  ·rw[wv.mp q];exact z
 ·refine⟨t++[a ^^^ b],e.snoc (cq.mpr ⟨a,hR a ha,b,hR b hb,ne,hm,rfl⟩) z,by rw[wS,Dp];omega,λr hr=>?_⟩
  rw[<- Cd]
  rcases BO.mp hr with q | q
  ·exact BS _ (hR r q)
  ·exact ga _ q
theorem kF {N:Net}{cl:Bool}(hN:jd N)(hc:cl=true->ia N=true):∀k,k<=N.js.length->ip N.m cl k ((N.js.take k).foldl aL (az N.m))
 | 0,_=>⟨[],Ext.nil (nO _),li _,λr hr=>BS _ hr⟩
 | k+1,h=>by
  have ih:=kF hN hc k (by omega)
  have hk:k<N.js.length:=by omega
  have e:N.js[k]? = some (N.js[k]):=bv hk
  have ix:=fL (ky hN.js) e
  rw[cc]at ix
  have ne:=mI hN.js e
  have hl:((N.js.take k).foldl aL (az N.m)).length=N.m+k:=by rw[fR,cc,B0];omega
  rw[gH e]
  refine ih.step (eW (by omega)) (eW (by omega)) ne ?_
  cases cl with
  | false=>rfl
  | true =>
   have h1:=DG.mp (hc rfl) _ (DX hk)
   have pre:∀i,i<N.m+k->(a7 N).getD i 0=((N.js.take k).foldl aL (az N.m)).getD i 0:=λi hi=>by
    have:a7 N=(N.js.drop k).foldl aL ((N.js.take k).foldl aL (az N.m)):=by
     rw[<- Ex,Ea];rfl
    rw[this]
    exact d_ (by omega)
   rw[pre _ (by omega),pre _ (by omega)]at h1
   unfold mayN
   rw[decide_eq_true (eq_of_beq h1)]
   rfl
theorem uD {N:Net}{cl:Bool}(hN:jd N)(hc:cl=true->ia N=true){W:List Nat}(hW:N.os.map (λo=>(a7 N).getD o 0)=W):ip N.m cl N.js.length W:=by
 obtain⟨t,e,hl,hR⟩:=kF hN hc N.js.length (li _)
 rw[Cf]at hR
 refine⟨t,e,hl,λr hr=>?_⟩
 rw[<- hW]at hr
 obtain⟨o,ho,rfl⟩:=Cn.mp hr
 refine hR _ (eW ?_)
 have:=hN.os o ho
 rw[fR,cc]
 exact this
theorem rD {m j:Nat}{W:List Nat}{cl:Bool}(h:d0 m W)(hR:ip m cl j W):bD m W cl<=j:=by
 apply DJ
 intro hj
 obtain⟨p,e⟩:=mK (m:=m) (W:=W) (cl:=cl) (n:=j) (by omega)
 obtain⟨t,ex,hl,hW⟩:=hR
 exact nN h.w (iM h.m6) (nF (iM h.m6) e) ex hl (λx _=>by simp) hW
structure LNet (m:Nat)(W:List Nat)(cl:Bool)(N:Net):Prop where
 t:tolD m W cl (bD m W cl)=netD N
 n:jd N
 mm:N.m=m
 w:N.os.map (λo=>(a7 N).getD o 0)=W
 l:N.js.length=bD m W cl
 c:cl=true->ia N=true
theorem uL {m:Nat}{W:List Nat}(h:d0 m W)(h4:m<=4)(hr:∀r∈W,r<2^m)(cl:Bool):∃N,LNet m W cl N:=by
 obtain⟨L,e⟩:=mM h h4 hr cl
 have h11:=mL h h4 hr cl
 obtain⟨F,hL⟩:=xY h (by omega) e
 have hN:=n6 F
 have hw:(tidN (eO m cl L W)).os.map (λo=>(a7 (tidN (eO m cl L W))).getD o 0)=W:=(v7 (lE hN) hN.os).trans (sA F)
 have hc:cl=true->ia (tidN (eO m cl L W))=true:=λz=>by subst z;exact tL hN (qa F)
 have sh:=tI hN
 rw[dQ]at sh
 have ge:=rD h (uD (tJ hN) hc hw)
 refine⟨tidN (eO m cl L W),by unfold tolD;rw[e],tJ hN,rfl,hw,Nat.le_antisymm (by omega) ge,hc⟩
theorem rA {c:Bool}{K K':List Nat}{r:Nat}(h:∀x∈K,x∈K')(hr:b8 c K r=true):b8 c K' r=true:=by
 obtain⟨a,ha,b,hb,z⟩:=cq.mp hr
 exact cq.mpr ⟨a,h a ha,b,h b hb,z⟩
theorem Ext.many {cl:Bool}{kn:List Nat}:∀ {h t:List Nat},Ext cl kn t->(∀r∈h,b8 cl (kn++t) r=true/\r∉kn++t)->h.Nodup->Ext cl kn (t++h)
 | [],t,e,_,_=>by rw[B5];exact e
 | r::h,t,e,hh,nd=>by
  rw[Eo]at nd
  obtain⟨h1,h2⟩:=hh r (B3 ..)
  rw[show t++r::h=(t++[r])++h by simp]
  refine Ext.many (e.snoc h1 h2) (λx hx=>?_) nd.2
  obtain⟨a,b⟩:=hh x (BU _ hx)
  rw[<- Cd]
  refine⟨rA (λy hy=>BS _ hy) a,λz=>?_⟩
  rcases BO.mp z with z | z
  ·exact b z
  ·rw[wv.mp z]at hx;exact nd.1 hx
open Classical in
noncomputable def fZ (m:Nat)(R:List Nat)(cl:Bool):Bool:=decide (∃t,Ext cl (az m) t/\∀x,x∈t↔x∈R/\x∉az m)
open Classical in
theorem wo {m:Nat}{R:List Nat}{cl:Bool}(h:fZ m R cl=true)(nd:R.Nodup):ip m cl R.length R:=by
 unfold fZ at h
 rw[decide_eq_true_eq]at h
 obtain⟨t,e,ht⟩:=h
 refine⟨t,e,?_,λr hr=>?_⟩
 ·refine Cu (C4.mp e.nd).2.1 λx hx=>((ht x).mp hx).1
 ·by_cases z:r∈az m
  ·exact BS _ z
  ·exact ga _ ((ht r).mpr ⟨hr,z⟩)
open Classical in
theorem lF {m:Nat}{R t:List Nat}{cl:Bool}(e:Ext cl (az m) t)(ht:∀x∈t,x∈R)(hR:∀x∈R,x∈az m++t):fZ m R cl=true:=by
 unfold fZ
 rw[decide_eq_true_eq]
 refine⟨t,e,λx=>⟨λhx=>⟨ht x hx,λz=>(C4.mp e.nd).2.2 x z x hx rfl⟩,λ⟨a,b⟩=>?_⟩⟩
 rcases BO.mp (hR x a)with z | z
 ·exact absurd z b
 ·exact z
open Classical in
theorem pH {m:Nat}{R t:List Nat}{cl:Bool}{y:Nat}(hy:y∈R)(hy2:y∉az m++t)(hno:∀x∈R,x∉az m++t->b8 cl (az m++t) x=false):fZ m R cl=false:=by
 apply DB.mpr
 intro h
 unfold fZ at h
 rw[decide_eq_true_eq]at h
 obtain⟨t',e,ht⟩:=h
 have all:∀i,i<=t'.length->∀x∈t'.take i,x∈az m++t:=by
  intro i
  induction i with
  | zero=>intro _ x hx;cases hx
  | succ i ih =>
   intro hi x hx
   have ih:=ih (by omega)
   apply DJ
   intro z
   obtain⟨j,h1,h2,rfl⟩:=dG.mp hx
   by_cases ej:j<i
   ·exact z (ih _ (dG.mpr ⟨j,ej,h2,rfl⟩))
   obtain rfl:j=i:=by omega
   have nx:=e.nx j h2
   have:=rA (K':=az m++t) (λy hy=>(BO.mp hy).elim (BS _) (ih y)) nx
   rw[hno _ ((ht _).mp (eW h2)).1 z]at this
   cases this
 have:=all t'.length (li _)
 rw[Cf]at this
 exact hy2 (this y ((ht y).mpr ⟨hy,λz=>hy2 (BS _ z)⟩))
theorem rC {cl:Bool}{K:List Nat}{r:Nat}(h:1<=r):(K.filter λo=>K.contains (r ^^^ o)&&mayN cl o (r ^^^ o))=[]↔b8 cl K r=false:=by
 rw[FH]
 constructor
 ·intro z
  apply DB.mpr
  intro n
  obtain⟨a,ha,b,hb,ne,hm,e⟩:=cq.mp n
  have eb:r ^^^ a=b:=by rw[<- e,DU a b,Em,Fd,Fc]
  apply z a ha
  rw[eb,BP,o0]
  exact⟨hb,hm⟩
 ·intro z a ha c
  rw[BP,o0]at c
  have:b8 cl K r=true:=cq.mpr ⟨a,ha,r ^^^ a,c.1,λe=>?_,c.2,by rw[DU r a,<- Em,Fd,Ig]⟩
  ·rw[this]at z;cases z
  ·have:r=0:=by
    have:=congrArg (a ^^^ ·) e
    simp only[Fd]at this
    rw[DU r a,<- Em,Fd,Ig]at this
    exact this.symm
   omega
def vF:ASp:=λss q=>∃(m:Nat) (R:List Nat) (cl:Bool) (s1:Sv),(s1 = .vl (.lst (ar R))∨s1 = .ow (ar R))/\ss=[nv m,s1,.vl (.bl cl)]/\m<=6/\R.Nodup/\(∀r∈R,1<=r/\r<64)/\q (.d (.bl (fZ m R cl))) [nv m,s1,.vl (.bl cl)]
theorem le63 {K:List Nat}(nd:K.Nodup)(hk:∀r∈K,1<=r/\r<64):K.length<=63:=by
 have:=Cu nd (l₂:=(sK 63).map (· + 1)) λx hx=>by
  have:=hk x hx
  exact Cn.mpr ⟨x - 1,B9.mpr (by omega),by omega⟩
 rwa [f8,C5]at this
section
variable {P:wE}{w:B2}{K:bi}{mg:Str->Option bn}{base:Heap}
theorem k8 (dn:DefN K mg "_law_reached" b7 ["_law_many", "_law_rows", "_law_clean_here"])(B:BI mg):OkN P w K mg base 1 "_law_reached" ["_law_many", "_law_rows", "_law_clean_here"] (spA K vF):=by
 refine dn.aok2 (k:=0) b9 (λj=>j==0||j==1||j==2) [.un,.un,.un,.un] vF rfl (λf cdv A outer s H E hr=>have hu:=cz hr;⟨_,(ao (bj (i:=3) b9.nd rfl (by first | exact Or.inl rfl | exact Or.inr rfl) (dY ["_law_k"] [] rfl (Blk.of (aw b7) cO) (eI rfl B.range_ (ah (pv 0) aA)) (λ_ _ _ _ nd=>(aG (i:=0) nd rfl (by first | exact Or.inl rfl | exact Or.inr rfl))) (λ_ _ _ _=>dh) (λ_ _ _ _=>(bh kq aJ (pv 0)))))
  (ao (j_ (i:=4) ["_law_row"] [3] b9.nd rfl (by first | exact Or.inl rfl | exact Or.inr rfl) rfl (Blk.of (aw b7) cO) (bF K (pv 1)) (λ_ _ _ _ nd=>(aG (i:=0) nd rfl (by first | exact Or.inl rfl | exact Or.inr rfl))) (λ_ _ _ _=>(dg (a_ (cI K) (pv 0) (pv 1) rfl))) (λ_ _ _ _=>(pv 0)))
  (ao (mC Cj (a_ (iO K hr.units) (pv 4) (eK aA) (bL _))
  (ao (bj (i:=5) b9.nd rfl (by first | exact Or.inl rfl | exact Or.inr rfl) (eK aA))
  (ao (eG Cj rfl (bF K (pv 4)) (aG (i:=6) b9.nd rfl (by first | exact Or.inl rfl | exact Or.inr rfl))
  (aI (dq (a_ (iO K hr.units) (dY ["_law_one"] [6,3,2] rfl (Blk.of (aw b7) cO) (bF K (pv 3)) (λ_ _ _ _ nd=>(aG (i:=0) nd rfl (by first | exact Or.inl rfl | exact Or.inr rfl))) (λ_ _ _ _=>(dg (PW.pt (jA (a_ (lH K) (bh nP (pv 1) (pv 0)) (pv 2) rfl) (gq (PW.pt (sg (f7 (eF K (pv 3) (λ_=>rfl))) (q0 (a_ (gA K hr.units) (bh lI (pv 0) (bh nP (pv 1) (pv 0))) aJ (bL _)))))))))) (λ_ _ _ _=>(pv 0))) (eK aA) (bL _))
  (aI (dX (fo K Ch Cw Cv cP (pv 5) (ah (pv 6) aA))))
  bx)))
  (ao (dq (a_ (gA K hr.units) (pv 5) (eK aA) (bL _))
  (aI (aZ c9))
  bx)
  (ao (bj (i:=3) b9.nd rfl (by first | exact Or.inl rfl | exact Or.inr rfl) (bh (pL K) (pv 3) (pv 5)))
  (aI (j_ (i:=4) ["_law_row"] [5] b9.nd rfl (by first | exact Or.inl rfl | exact Or.inr rfl) rfl (Blk.of (aw b7) cO) (bF K (pv 4)) (λ_ _ _ _ nd=>(aG (i:=0) nd rfl (by first | exact Or.inl rfl | exact Or.inr rfl))) (λ_ _ _ _=>(dg (a_ (cI K) (pv 0) (pv 1) rfl))) (λ_ _ _ _=>(pv 0)))))))))
  (aI (aZ c9))))),(aE (a8 (b6 (eA (af aa aj)) (aq rfl) cw (aF fJ aH aa)) rfl)
  (aE (iC (b6 (ba aa) (aq rfl) (aO (aF (jB true) aa aa)) aa) rfl)
  (aE (j3 (aO (aF iP aa (cW aj)))
  (aE (a8 (cW aj) rfl)
  (aE (cX (pin:=(λj=>j==4)) (ba aa) (aq rfl)
  (cp (aO (aF iP (b6 (ba aa) (aq rfl) (fC (aO (aF (jB false) (aF bc aa aa) aa)) (jg (cU (fB aa)) (aO (aF gB (aF bc aa (aF bc aa aa)) aH)))) aa) (cW aj)))
  (cV (e6 aa (af aa aj)))
  bg))
  (aE (cp (aO (aF gB aa (cW aj)))
  (aP bV)
  bg)
  (aE (a8 (aF pM aa aa) rfl)
  (iC (b6 (ba aa) (aq rfl) (aO (aF (jB true) aa aa)) aa) rfl))))))
  (aP bV))))⟩) ?_
 rintro ss q ⟨m,R,cl,s1,hs1,rfl,h6,nd,hR,hq⟩
 have dI:∀ {i:Int},D.depth (.int i)<=60:=λ{i}=>by simp[D.depth]
 have rl:R.length<=63:=le63 nd hR
 refine⟨by rcases hs1 with rfl | rfl <;> rfl,by rcases hs1 with rfl | rfl <;> rfl,?_⟩
 refine cutS (λρ=>ρ=[nv m,s1,.vl (.bl cl),.ow (ar (az m)),.un,.un,.un]) (λM hM=>?_) ?_
 ·refine⟨⟨by omega,by omega⟩,by rw[eV];omega,i7 (λk=>.int (1 <<< k:Nat)) trivial (λk acc N hk hN=>?_) ?_⟩
  ·rw[FM]
   refine⟨⟨by omega,by omega,by decide⟩,?_⟩
   show N (acc++[.int ((1:Int)*2^((k:Int).toNat))]) _
   rw[ji];exact hN
  have e:((sK (m:Int).toNat).map λk=>D.int (1 <<< k:Nat))=ar (az m):=by
   rw[show(m:Int).toNat=m by omega]
   unfold az ar;rw[B8];rfl
  rw[e];exact hM _ rfl
 rintro _ rfl
 refine cutS (λρ=>ρ=[nv m,s1,.vl (.bl cl),.ow (ar (az m)),.ow (ar (R.filter λr=>!(az m++[]).contains r)),.un,.un]) (λM hM=>?_) ?_
 ·have hl:(ar R).length<=1000000:=by rw[bo];omega
  rw[B5]at hM
  have hM':=hM _ rfl
  rcases hs1 with rfl | rfl
  ·refine⟨hl,cR nD (λr=>!(az m).contains r) nD trivial (λr acc N hr hN=>?_) hM'⟩
   refine iX (n:=r) (xs:=az m) rfl ?_
   cases h2:(az m).contains r <;> (rw[h2]at hN;exact hN)
  ·refine⟨rfl,hl,cR nD (λr=>!(az m).contains r) nD rfl (λr acc N hr hN=>?_) hM'⟩
   refine iX (n:=r) (xs:=az m) rfl ?_
   cases h2:(az m).contains r <;> (rw[h2]at hN;exact hN)
 rintro _ rfl
 refine cutS (λρ=>∃s3 s4 s5 s6,fZ m R cl=true/\ρ=[nv m,s1,.vl (.bl cl),s3,s4,s5,s6]) (λM hM=>?_) ?_
 ·refine o_ (λρ=>∃t s5 s6,Ext cl (az m) t/\(∀x∈t,x∈R)/\ρ=[nv m,s1,.vl (.bl cl),.ow (ar (az m++t)),.ow (ar (R.filter λr=>!(az m++t).contains r)),s5,s6]) (λρ=>match ρ with | [_,_,_,_,.ow ds,_,_]=>ds.length | _=>0) ?_ _ ⟨[],.un,.un,Ext.nil (nO m),(λx hx=>by cases hx),by rw[B5]⟩
  rintro _ N ⟨t,s5,s6,ex,ht,rfl⟩ hN
  have hK:∀r∈az m++t,1<=r/\r<64:=λr hr=>(BO.mp hr).elim (iM h6 r) λz=>hR r (ht r z)
  have kl:(az m++t).length<=63:=le63 ex.nd hK
  generalize hKe:az m++t=K at *
  generalize hLe:(R.filter λr=>!K.contains r)=L at *
  have ll:L.length<=63:=by rw[<- hLe];exact xL (CH _ _) rl
  have Ll:∀r,r∈L↔r∈R/\r∉K:=λr=>by rw[<- hLe,AC,CL,<- CQ,o0]
  have Lnd:L.Nodup:=by rw[<- hLe];exact nd.sublist E5
  have eqE:∀xs:List Nat,eqD (.lst (ar xs)) (.lst [])=xs.isEmpty:=λxs=>by cases xs <;> rfl
  have dE:∀xs:List Nat,(D.lst (ar xs)).depth<=60:=λxs=>by have:=ig xs;simp only[D.depth];omega
  by_cases hL:L=[]
  ·subst hL
   refine⟨zn _,cm (b:=true) rfl rfl (dE []) rfl (hM _ ⟨_,_,s5,s6,lF ex ht λx hx=>?_,rfl⟩)⟩
   rw[hKe]
   apply DJ
   intro z
   have:=(Ll x).mpr ⟨hx,z⟩
   cases this
  ·obtain⟨y,yL⟩:=Hw _ hL
   refine⟨zn _,cm (b:=false) rfl rfl (dE L) ((eqE L).trans (by cases L with | nil=>exact absurd rfl hL | cons=>rfl)) ?_⟩
   have lK:(ar K).length<=1000000:=by rw[bo];omega
   have lL:(ar L).length<=1000000:=by rw[bo];omega
   simp only[if_true,JD]
   refine cutS (λρ=>ρ=[nv m,s1,.vl (.bl cl),.ow (ar K),.ow (ar L),.ow (ar []),s6]) (λM hM=>⟨zn _,hM _ rfl⟩) ?_
   rintro _ rfl
   refine cutS (λρ=>∃s6,ρ=[nv m,s1,.vl (.bl cl),.ow (ar K),.ow (ar L),.ow (ar (L.filter (b8 cl K))),s6]) (λM hM=>?_) ?_
   ·refine⟨rfl,?_⟩
    refine iZ nD (λk ρ=>∃s6,ρ=[nv m,s1,.vl (.bl cl),.ow (ar K),.ow (ar L),.ow (ar ((L.take k).filter (b8 cl K))),s6]) (λ_ ρ ⟨_,e⟩=>by rw[e];rfl) ?_ (λρ ⟨s6,e⟩=>by rw[Cf]at e;exact hM _ ⟨s6,e⟩) ⟨s6,rfl⟩
    rintro k r _ N hr ⟨s6,rfl⟩ hN
    have hrL:=Cb hr
    have r1:=(hR r ((Ll r).mp hrL).1).1
    have fs:(L.take (k+1)).filter (b8 cl K)=(L.take k).filter (b8 cl K)++if b8 cl K r=true then[r]else[]:=by
     rw[CD,hr,DF,Fg]
     congr 1
     cases h:b8 cl K r <;> simp[h]
    refine gaN1 ?_
    have hfl:(K.filter λo=>K.contains (r ^^^ o)&&mayN cl o (r ^^^ o)).isEmpty = !b8 cl K r:=by
     cases h:b8 cl K r with
     | false=>rw[(rC r1).mpr h];rfl
     | true=>exact DB.mpr λz=>by have:=(rC r1).mp (Fy.mp z);rw[h]at this;cases this
    refine⟨rfl,lK,cR nD (λo=>K.contains (r ^^^ o)&&mayN cl o (r ^^^ o)) nD rfl (λo acc N ho hN=>?_) ?_⟩
    ·show gIn false (.d (.int (Et (r:Int) (o:Int)))) (.o 2) _ _
     rw[l9]
     refine iX (n:=r ^^^ o) (xs:=K) rfl ?_
     cases h2:K.contains (r ^^^ o)with
     | false=>rw[h2]at hN;exact hN
     | true =>
      rw[h2,Du]at hN
      cases cl with
      | false=>exact hN
      | true =>
       refine cm (b:=decide (o &&& (r ^^^ o)=0)) rfl rfl dI (by rw[l9];exact eqX) ?_
       have em:mayN true o (r ^^^ o)=decide (o &&& (r ^^^ o)=0):=rfl
       rw[em]at hN
       cases h3:decide (o &&& (r ^^^ o)=0) <;> (rw[h3]at hN;exact hN)
    refine⟨zn _,cm (b:=!b8 cl K r) rfl rfl (dE _) ((eqE _).trans hfl) ?_⟩
    cases h:b8 cl K r with
    | true =>
     rw[h,if_pos rfl]at fs
     refine⟨by rw[bo];exact xL (CH _ _) (by rw[B0];omega),hN _ ⟨_,by rw[fs,dC];rfl⟩⟩
    | false =>
     rw[h,if_neg (by decide),B5]at fs
     exact hN _ ⟨_,by rw[fs];rfl⟩
   rintro _ ⟨s6,rfl⟩
   have hnx:∀r∈L.filter (b8 cl K),b8 cl K r=true/\r∉K:=λr hr=>⟨(AC.mp hr).2,((Ll r).mp (AC.mp hr).1).2⟩
   have hH:(L.filter (b8 cl K)).length<=63:=xL (CH _ _) ll
   refine cutS (λρ=>L.filter (b8 cl K)≠[]/\ρ=[nv m,s1,.vl (.bl cl),.ow (ar K),.ow (ar L),.ow (ar (L.filter (b8 cl K))),s6]) (λM hM=>?_) ?_
   ·by_cases hz:L.filter (b8 cl K)=[]
    ·have e:fZ m R cl=false:=by
      refine pH (t:=t) (y:=y) ((Ll y).mp yL).1 (by rw[hKe];exact((Ll y).mp yL).2) λx hx hx2=>?_
      rw[hKe]at hx2 ⊢
      apply DB.mpr
      intro z
      have:x∈L.filter (b8 cl K):=AC.mpr ⟨(Ll x).mpr ⟨hx,hx2⟩,z⟩
      rw[hz]at this
      cases this
     rw[e]at hq
     refine⟨zn _,cm (b:=true) rfl rfl (dE _) (by rw[hz];rfl) ?_⟩
     rcases hs1 with rfl | rfl <;> exact hq
    ·refine⟨zn _,cm (b:=false) rfl rfl (dE _) ((eqE _).trans (DB.mpr λz=>hz (Fy.mp z))) ?_⟩
     exact hM _ ⟨hz,rfl⟩
   rintro _ ⟨hz,rfl⟩
   generalize hHe:L.filter (b8 cl K)=H at *
   refine cutS (λρ=>ρ=[nv m,s1,.vl (.bl cl),.ow (ar (K++H)),.ow (ar L),.ow (ar H),s6]) (λM hM=>⟨by rw[bo,bo];omega,by have:=hM _ rfl;unfold ar at this ⊢;rw[B7]at this;exact this⟩) ?_
   rintro _ rfl
   have eR:(R.filter λr=>!(az m++(t++H)).contains r)=L.filter λr=>!H.contains r:=by
    rw[<- hLe,List.filter_filter,<- Cd,hKe]
    apply List.filter_congr
    intro x _
    rw[D8]
    simp only[CL,BP,<- CQ,o0,BO,not_or]
    exact And.comm
   refine⟨rfl,lL,cR nD (λr=>!H.contains r) nD rfl (λr acc N hr hN=>?_) ?_⟩
   ·refine iX (n:=r) (xs:=H) rfl ?_
    cases h2:H.contains r <;> (rw[h2]at hN;exact hN)
   ·refine hN _ ⟨t++H,.ow (ar H),s6,ex.many (λr hr=>by rw[hKe];exact hnx r hr) (by rw[<- hHe];exact Lnd.sublist E5),λx hx=>?_,by rw[eR,<- Cd,hKe];rfl⟩ ?_
    ·rcases BO.mp hx with z | z
     ·exact ht x z
     ·rw[<- hHe]at z
      exact((Ll x).mp (AC.mp z).1).1
    ·show(ar (L.filter λr=>!H.contains r)).length<(ar L).length
     rw[bo,bo]
     obtain⟨h,hh⟩:=Hw _ hz
     refine List.length_filter_lt_length_iff_exists.mpr ⟨h,?_,?_⟩
     ·rw[<- hHe]at hh;exact(AC.mp hh).1
     ·rw[o0.mpr hh];decide
 rintro _ ⟨s3,s4,s5,s6,e,rfl⟩
 rw[e]at hq
 rcases hs1 with rfl | rfl <;> exact hq
end
def wtB (r:Nat):Bool:=!(eqD (.int (Ct (r:Int) ((r:Int) - 1))) (.int 0))
theorem xy:∀m,m<5->∀r,r<2^m->1<=r->(wtB r=true↔r∉az m):=λm h0 r h1 h2=>by
 have key:∀m,m<5->∀r:Nat,r<2^m->1<=r->(decide (Ct (r:Int) ((r:Int) - 1)=0)=(az m).contains r):=by decide +kernel
 have k:=key m h0 r h1 h2
 have e:wtB r = !decide (Ct (r:Int) ((r:Int) - 1)=0):=rfl
 rw[e,k,CL,<- CQ,o0]
theorem uK {m:Nat}{W R:List Nat}{cl:Bool}(h:d0 m W)(nd:R.Nodup)(hR:fZ m R cl=true)(hW:∀r∈W,r∉az m->r∈R):bD m W cl<=R.length:=by
 obtain⟨t,ex,hl,ht⟩:=wo hR nd
 refine rD h ⟨t,ex,hl,λr hr=>?_⟩
 by_cases z:r∈az m
 ·exact BS _ z
 ·exact ht r (hW r hr z)
theorem yE {W kn sh:List Nat}{cl:Bool}{lf:Nat}{p:D}(h:Pap W cl lf kn sh p):∃ds,p = .tup ds:=by
 rcases(uo (c:=⟨W,cl,kn,sh,lf⟩)).mp h with h | ⟨_,h,_⟩ | ⟨_,_,h,_⟩ | ⟨_,h,_⟩
 ·exact⟨_,h.1⟩
 all_goals exact⟨_,h⟩
theorem wF {m:Nat}{W:List Nat}{cl:Bool}(h:d0 m W)(h4:m<=4)(hr:∀r∈W,r<2^m):uS (papD m W cl (bD m W cl))=decide (bD m W cl=0):=by
 cases e:bD m W cl with
 | zero=>rfl
 | succ n =>
  obtain⟨p,ep⟩:=mK (m:=m) (W:=W) (cl:=cl) (n:=n) (by omega)
  obtain⟨ds,rfl⟩:=yE (nF (iM h.m6) ep)
  have:papD m W cl (n+1) = .tup ds:=by
   show pd (srN W cl n (az m) [])=_
   rw[ep];rfl
  rw[this]
  rfl
theorem A1 {cl:Bool}{m:Nat}{t:List Nat}(e:Ext cl (az m) t):∀x∈t,1<=x/\x<2^m:=by
 have ho:∀r∈az m,1<=r/\r<2^m:=λr hr=>by
  obtain⟨k,hk,rfl⟩:=Cn.mp hr
  rw[FE,G4]
  exact⟨Jx k,F2 (by decide) (B9.mp hk)⟩
 have all:∀i,i<=t.length->∀x∈t.take i,1<=x/\x<2^m:=by
  intro i
  induction i with
  | zero=>intro _ x hx;cases hx
  | succ i ih =>
   intro hi x hx
   have ih:=ih (by omega)
   obtain⟨j,h1,h2,rfl⟩:=dG.mp hx
   by_cases ej:j<i
   ·exact ih _ (dG.mpr ⟨j,ej,h2,rfl⟩)
   obtain rfl:j=i:=by omega
   obtain⟨a,ha,b,hb,ne,_,e⟩:=cq.mp (e.nx j h2)
   have hh:∀y∈az m++t.take j,1<=y/\y<2^m:=λy hy=>(BO.mp hy).elim (ho y) (ih y)
   rw[<- e]
   exact⟨sY ne,IZ (hh a ha).2 (hh b hb).2⟩
 have:=all t.length (li _)
 rw[Cf]at this
 exact this
def setB (b:Nat):List Nat:=((sK 4).filter λk=>decide (Ct ((b:Int) / (2:Int)^k) 1=1)).map λk=>[3,5,6,7].getD k 0
theorem t8:∀b,b<16->(setB b).Nodup/\(setB b).length<=4/\∀x∈setB b,x∈[3,5,6,7]:=by decide +kernel
theorem z5 (p:Nat->Bool):∃b,b<16/\setB b=[3,5,6,7].filter p:=by
 have key:∀b0 b1 b2 b3:Bool,∃b,b<16/\setB b=(if b0 then[3]else[])++((if b1 then[5]else[])++((if b2 then[6]else[])++(if b3 then[7]else[]))):=by
  intro b0 b1 b2 b3
  refine⟨(if b0 then 1 else 0)+(if b1 then 2 else 0)+(if b2 then 4 else 0)+(if b3 then 8 else 0),?_⟩
  revert b0 b1 b2 b3
  decide +kernel
 obtain⟨b,h1,h2⟩:=key (p 3) (p 5) (p 6) (p 7)
 refine⟨b,h1,h2.trans ?_⟩
 simp only[FC,G8]
 cases p 3 <;> cases p 5 <;> cases p 6 <;> cases p 7 <;> rfl
def Good (m:Nat)(W:List Nat)(cl:Bool)(R:List Nat):Prop:=(∀r∈W,wtB r=true->r∈R)/\(∀r∈R,r<2^m)/\fZ m R cl=true
theorem y9 {m:Nat}{W R:List Nat}{cl:Bool}(h:d0 m W)(h3:m<=3)(hr:∀r∈W,r<2^m)(nd:R.Nodup)(g:Good m W cl R):bD m W cl<=R.length :=
 uK h nd g.2.2 λr h1 h2=>g.1 r h1 ((xy m (by omega) r (hr r h1) (h.w r h1).1).mpr h2)
theorem y_ {m:Nat}{W:List Nat}(h:d0 m W)(h3:m<=3)(hr:∀r∈W,r<2^m)(cl:Bool):∃b,b<16/\Good m W cl (setB b)/\(setB b).length<=bD m W cl:=by
 obtain⟨L,e⟩:=mM h (by omega) hr cl
 obtain⟨t,eL,hl,ex,hW⟩:=tX h.w (iM h.m6) (nO m) e
 have tl:=A1 ex
 have tnd:=(C4.mp ex.nd).2.1
 have tno:∀x∈t,x∉az m:=λx hx z=>(C4.mp ex.nd).2.2 x z x hx rfl
 obtain⟨b,hb,hs⟩:=z5 λx=>t.contains x
 have in4:∀m:Nat,m<4->∀x:Nat,x<2^m->1<=x->x∉az m->x∈[3,5,6,7]:=λm h1 x h2 h3 h4=>by
  have key:∀m,m<4->∀x:Nat,x<2^m->1<=x->((az m).contains x||[3,5,6,7].contains x)=true:=by decide
  have:=key m h1 x h2 h3
  rw[ET,o0,o0]at this
  exact this.resolve_left h4
 have ms:∀x,x∈setB b↔x∈t:=λx=>by
  rw[hs,AC,o0]
  exact⟨λz=>z.2,λz=>⟨in4 m (by omega) x (tl x z).2 (tl x z).1 (tno x z),z⟩⟩
 have hW':∀r∈W,r∈az m++t:=by rw[<- eL];exact hW
 refine⟨b,hb,⟨λr h1 h2=>?_,λr h1=>(tl r ((ms r).mp h1)).2,lF ex (λx hx=>(ms x).mpr hx) λx hx=>ga _ ((ms x).mp hx)⟩,?_⟩
 ·have:=(xy m (by omega) r (hr r h1) (h.w r h1).1).mp h2
  rcases BO.mp (hW' r h1)with z | z
  ·exact absurd z this
  ·exact(ms r).mpr z
 ·exact xL (Cu (t8 b hb).1 λx hx=>(ms x).mp hx) hl
def SFew:ASp:=λss q=>∃(m:Nat) (W:List Nat) (cl:Bool),ss=[.vl (bR m W),.vl (.bl cl)]/\d0 m W/\m<=3/\(∀r∈W,r<2^m)/\q (.d (nD (bD m W cl))) [.vl (bR m W),.vl (.bl cl)]
def vE:ASp:=λss q=>∃(n:Nat),ss=[.tp n]/\n<1000000/\∀(m n':Nat) (W:List Nat),1<=m->m<=3->d0 m W->(∀r∈W,r<2^m)->n'<=n+30->q (.d (bR m W)) [.tp n']
theorem A9 (a k:Nat):eqD (.int (Ct ((a:Int) / 2^((k:Int).toNat)) 1)) (.int 1)=a.testBit k:=by
 rw[zy]
 cases a.testBit k <;> simp[eqD]
section
variable {P:wE}{w:B2}{K:bi}{mg:Str->Option bn}{base:Heap}
theorem mH (dn:DefN K mg "_law_fewest" ck ["_law_wish_here", "_law_clean_here"])(B:BI mg)(g_law_reached:OkN P w K mg base 1 "_law_reached" ["_law_many", "_law_rows", "_law_clean_here"] (spA K vF)):OkN P w K mg base 2 "_law_fewest" ["_law_wish_here", "_law_clean_here"] (spA K SFew):=by
 refine dn.aok2 (k:=1) cG (λj=>j==0||j==1) [.un,.un,.un,.un] SFew rfl (λf cdv A outer s H E hr=>have hu:=cz hr;⟨_,(ao (j_ (i:=2) ["_law_row"] [] cG.nd rfl (by first | exact Or.inl rfl | exact Or.inr rfl) rfl (Blk.of (aw ck) di) (bF K (bW (aT K) (pv 0) aJ (λ_ _=>rfl))) (λ_ _ _ _ nd=>(aG (i:=0) nd rfl (by first | exact Or.inl rfl | exact Or.inr rfl))) (λ_ _ _ _=>(dg (a_ (iO K hr.units) (bh lI (pv 0) (bh iN (pv 0) aJ)) aJ (bL _)))) (λ_ _ _ _=>(pv 0)))
  (ao (bj (i:=3) cG.nd rfl (by first | exact Or.inl rfl | exact Or.inr rfl) aJ)
  (ao (eG Cj rfl (eI rfl B.range_ (ah aJ aA)) (aG (i:=4) cG.nd rfl (by first | exact Or.inl rfl | exact Or.inr rfl))
  (ao (bj (i:=5) cG.nd rfl (by first | exact Or.inl rfl | exact Or.inr rfl) (dY ["_law_k"] [4] rfl (Blk.of (aw ck) di) (eI rfl B.range_ (ah aJ aA)) (λ_ _ _ _ nd=>(aG (i:=0) nd rfl (by first | exact Or.inl rfl | exact Or.inr rfl))) (λ_ _ _ _=>(dg (a_ (gA K hr.units) (bh lI (bh xQ (pv 1) (pv 0)) aJ) aJ (bL _)))) (λ_ _ _ _=>(bW (aT K) (eK (ah aJ (ah aJ (ah aJ (ah aJ aA))))) (pv 0) (λ_ _=>rfl)))))
  (aI (dq (PW.pt (jA (a_ (gA K hr.units) (dY ["_law_row"] [5] rfl (Blk.of (aw ck) di) (bF K (pv 2)) (λ_ _ _ _ nd=>(aG (i:=0) nd rfl (by first | exact Or.inl rfl | exact Or.inr rfl))) (λ_ _ _ _=>(dg (a_ (cI K) (pv 0) (pv 1) rfl))) (λ_ _ _ _=>(pv 0))) (eK aA) (bL _)) (gq (a_ (gA K hr.units) (dY ["_law_row"] [0] rfl (Blk.of (aw ck) di) (bF K (pv 5)) (λ_ _ _ _ nd=>(aG (i:=0) nd rfl (by first | exact Or.inl rfl | exact Or.inr rfl))) (λ_ _ _ _=>(dg (a_ yI (pv 0) (bh kq aJ (bW (aT K) (pv 1) aJ (λ_ _=>rfl))) (bL _)))) (λ_ _ _ _=>(pv 0))) (eK aA) (bL _)))))
  (aI (dq (PW.pt (jA (a_ yH (bE (cg K) rfl B.len_ fA (ah (pv 5) aA)) (pv 3) (bL _)) (gq (eE (bM g_law_reached (hr.mono (by decide)) (ah (bW (aT K) (pv 0) aJ (λ_ _=>rfl)) (ah (pv 5) (ah (pv 1) aA))))))))
  (aI (bj (i:=3) cG.nd rfl (by first | exact Or.inl rfl | exact Or.inr rfl) (bE (cg K) rfl B.len_ fA (ah (pv 5) aA))))
  bx))
  bx))))
  (aI (aZ (pv 3)))))),(aE (iC (b6 (ba (aF bb aa aH)) (aq rfl) (aO (aF iP (aF bc aa (aF bc aa aH)) aH)) aa) rfl)
  (aE (a8 aH rfl)
  (aE (cX (pin:=(λ_=>false)) (eA (af aH aj)) (aq rfl)
  (aE (a8 (b6 (eA (af aH aj)) (aq rfl) (aO (aF gB (aF bc (aF fJ aa aa) aH) aH)) (aF bb (cW (af aH (af aH (af aH (af aH aj))))) aa)) rfl)
  (cp (fC (aO (aF gB (b6 (ba aa) (aq rfl) (aO (aF (jB true) aa aa)) aa) (cW aj))) (aO (aF gB (b6 (ba aa) (aq rfl) (aO (aF cZ aa (aF fJ aH (aF bb aa aH)))) aa) (cW aj))))
  (cp (fC (aO (aF cZ (cj dM (af aa aj)) aa)) (dZ (aM (af (aF bb aa aH) (af aa (af aa aj))))))
  (a8 (cj dM (af aa aj)) rfl)
  bg)
  bg)))
  (aP aa))))⟩) ?_
 rintro ss q ⟨m,W,cl,rfl,hW,h3,hr,hq⟩
 have dI:∀ {i:Int},D.depth (.int i)<=60:=λ{i}=>by simp[D.depth]
 have w24:=hW.w24
 have l11:=mL hW (by omega) hr cl
 have eqE:∀xs:List Nat,eqD (.lst (ar xs)) (.lst [])=xs.isEmpty:=λxs=>by cases xs <;> rfl
 have dE:∀xs:List Nat,(D.lst (ar xs)).depth<=60:=λxs=>by have:=ig xs;simp only[D.depth];omega
 refine⟨rfl,rfl,?_⟩
 refine cutS (λρ=>ρ=[.vl (bR m W),.vl (.bl cl),.ow (ar (W.filter wtB)),.un,.un,.un]) (λM hM=>?_) ?_
 ·refine e_ (i:=1) (d:=.tup (ar W)) rfl rfl ⟨by rw[bo];omega,?_⟩
  refine cR nD wtB nD trivial (λr acc N hr hN=>?_) (hM _ rfl)
  refine cm (b:=eqD (.int (Ct (r:Int) ((r:Int) - 1))) (.int 0)) rfl rfl dI rfl ?_
  have hN:N (if(!(eqD (.int (Ct (r:Int) ((r:Int) - 1))) (.int 0)))=true then acc++[nD r]else acc) _:=hN
  cases hb:eqD (.int (Ct (r:Int) ((r:Int) - 1))) (.int 0)with
  | true=>rw[hb]at hN;exact hN
  | false=>rw[hb]at hN;exact hN
 rintro _ rfl
 refine cutS (λρ=>ρ=[.vl (bR m W),.vl (.bl cl),.ow (ar (W.filter wtB)),nv 99,.un,.un]) (λM hM=>hM _ rfl) ?_
 rintro _ rfl
 generalize hYe:W.filter wtB=Y at *
 have Yl:Y.length<=24:=by rw[<- hYe];exact xL (CH _ _) w24
 refine cutS (λρ=>∃s4 s5,ρ=[.vl (bR m W),.vl (.bl cl),.ow (ar Y),nv (bD m W cl),s4,s5]) (λM hM=>⟨⟨by decide,by decide⟩,?_⟩) ?_
 ·refine mY (λk ρ=>∃F s4 s5,bD m W cl<=F/\(∀b,b<k->Good m W cl (setB b)->F<=(setB b).length)/\ρ=[.vl (bR m W),.vl (.bl cl),.ow (ar Y),nv F,s4,s5]) (λ_ _ _=>trivial) ?_ (λρ ⟨F,s4,s5,a,c,e⟩=>?_) ⟨99,.un,.un,by omega,λb hb=>absurd hb (EY _),rfl⟩
  ·rintro k ρ N hk ⟨F,s4,s5,hF,hB,rfl⟩ hN
   have hk:k<16:=hk
   obtain⟨snd,sl,s4m⟩:=t8 k hk
   refine gaN1 ?_
   rw[FM]
   show aSeq _ _ _ [.vl (bR m W),.vl (.bl cl),.ow (ar Y),nv F,nv k,s5]
   refine cutS (λρ=>ρ=[.vl (bR m W),.vl (.bl cl),.ow (ar Y),nv F,nv k,.ow (ar (setB k))]) (λM hM=>?_) ?_
   ·have e4:rngD 0 (4:Int).toNat=(sK 4).map nD:=E1 λx _=>congrArg D.int (by show(0:Int)+(x:Int)=_;omega)
    refine⟨⟨by decide,by decide⟩,by rw[eV];decide,?_⟩
    show fS _ _ _ _ _ _ _ (rngD 0 (4:Int).toNat) [] _
    rw[e4]
    refine cR nD (λj=>decide (Ct ((k:Int) / (2:Int)^j) 1=1)) (λj=>nD ([3,5,6,7].getD j 0)) trivial (λj acc N hj hN=>?_) ?_
    ·have hj:j<4:=B9.mp hj
     refine⟨by omega,cm (b:=decide (Ct ((k:Int) / (2:Int)^j) 1=1)) rfl rfl dI rfl ?_⟩
     have at4:atI [D.int 3,.int 5,.int 6,.int 7] ((j:Nat):Int)=some (nD ([3,5,6,7].getD j 0)):=by
      match j,hj with
      | 0,_=>rfl
      | 1,_=>rfl
      | 2,_=>rfl
      | 3,_=>rfl
     cases hb:decide (Ct ((k:Int) / (2:Int)^j) 1=1)with
     | true=>rw[hb]at hN;exact⟨by simp,AW rfl at4 hN⟩
     | false=>rw[hb]at hN;exact hN
    ·have:=hM _ rfl
     unfold setB ar at this
     rw[B8]at this
     exact this
   rintro _ rfl
   generalize hSe:setB k=S at *
   have keep:(Good m W cl S->F<=S.length)->N [.vl (bR m W),.vl (.bl cl),.ow (ar Y),nv F,nv k,.ow (ar S)]:=λh=>hN _ ⟨F,nv k,_,hF,λb hb g=>by
    by_cases e:b=k
    ·subst e;rw[hSe]at g ⊢;exact h g
    ·exact hB b (by omega) g,rfl⟩
   have e1:(Y.filter λr=>!S.contains r)=[]↔∀r∈W,wtB r=true->r∈S:=by
    rw[FH]
    constructor
    ·intro z r h1 h2
     have:=z r (by rw[<- hYe];exact AC.mpr ⟨h1,h2⟩)
     rw[CL,Bool.not_eq_false]at this
     exact o0.mp this
    ·intro z r h1
     rw[<- hYe]at h1
     have:=z r (AC.mp h1).1 (AC.mp h1).2
     rw[o0.mpr this]
     decide
   have e2:(S.filter λr=>decide (2^m<=r))=[]↔∀r∈S,r<2^m:=by
    rw[FH]
    constructor
    ·intro z r h1
     have:=z r h1
     rw[decide_eq_true_eq]at this
     omega
    ·intro z r h1
     have:=z r h1
     rw[decide_eq_true_eq]
     omega
   refine⟨rfl,by rw[bo];omega,cR nD (λr=>!S.contains r) nD rfl (λr acc N hr hN=>?_) ?_⟩
   ·refine iX (n:=r) (xs:=S) rfl ?_
    cases h2:S.contains r <;> (rw[h2]at hN;exact hN)
   by_cases h1:(Y.filter λr=>!S.contains r)=[]
   ·have h1':=e1.mp h1
    refine⟨zn _,cm (b:=true) rfl rfl (dE _) (by rw[show Iq nD _=ar (Y.filter λr=>!S.contains r)from rfl,h1];rfl) ?_⟩
    have ep:(1:Int)*(2:Int)^((m:Int).toNat)=((2^m:Nat):Int):=by rw[ji,FE,G4]
    refine⟨rfl,by rw[bo];omega,cR nD (λr=>decide (2^m<=r)) nD rfl (λr acc N hr hN=>?_) ?_⟩
    ·refine e_ rfl (eQ (j:=0) rfl) ⟨⟨by omega,by omega,by decide⟩,?_⟩
     have go:decide ((1:Int)*(2:Int)^((m:Int).toNat)<=((r:Nat):Int))=decide (2^m<=r):=by rw[ep,decide_eq_decide];omega
     show if decide ((1:Int)*(2:Int)^((m:Int).toNat)<=((r:Nat):Int))=true then N (acc++[nD r]) _ else N acc _
     rw[go]
     cases h2:decide (2^m<=r) <;> (rw[h2]at hN;exact hN)
    by_cases h2:(S.filter λr=>decide (2^m<=r))=[]
    ·have h2':=e2.mp h2
     refine⟨zn _,cm (b:=true) rfl rfl (dE _) (by rw[show Iq nD _=ar (S.filter λr=>decide (2^m<=r))from rfl,h2];rfl) ?_⟩
     have go:decide ((((ar S).length:Nat):Int)<((F:Nat):Int))=decide (S.length<F):=by rw[decide_eq_decide,bo];omega
     show if decide ((((ar S).length:Nat):Int)<((F:Nat):Int))=true then _ else _
     rw[go]
     by_cases h3':S.length<F
     ·rw[if_pos (decide_eq_true h3')]
      refine e_ rfl (eQ (j:=0) rfl) ⟨rfl,m,S,cl,.ow (ar S),.inr rfl,rfl,by omega,snd,λr hr=>?_,?_⟩
      ·have:=s4m r hr
       simp only[sB,Cp,or_false]at this
       omega
      ·cases hb:fZ m S cl with
       | true =>
        refine hN _ ⟨S.length,nv k,.ow (ar S),y9 hW h3 hr snd ⟨h1',h2',hb⟩,λb hb' g=>?_,by rw[<- bo S];rfl⟩
        by_cases e:b=k
        ·subst e;rw[hSe];exact li _
        ·exact xL (CI h3') (hB b (by omega) g)
       | false=>exact keep λg=>by have:=g.2.2;rw[hb]at this;cases this
     ·rw[if_neg (by rw[decide_eq_true_eq];exact h3')]
      exact keep λ_=>by omega
    ·refine⟨zn _,cm (b:=false) rfl rfl (dE _) ((eqE _).trans (DB.mpr λz=>h2 (Fy.mp z))) ?_⟩
     exact keep λg=>absurd (e2.mpr g.2.1) h2
   ·refine⟨zn _,cm (b:=false) rfl rfl (dE _) ((eqE _).trans (DB.mpr λz=>h1 (Fy.mp z))) ?_⟩
    exact keep λg=>absurd (e1.mpr g.1) h1
  ·have:F=bD m W cl:=by
    obtain⟨b,hb,g,gl⟩:=y_ hW h3 hr cl
    have:=c b hb g
    omega
   rw[this]at e
   exact hM ρ ⟨s4,s5,e⟩
 rintro _ ⟨s4,s5,rfl⟩
 exact hq
theorem pQ (dn:DefN K mg "_law_wish" gU ["_law_tape_here"])(B:BI mg)(g_law_draw:OkN P w K mg base 1 "_law_draw" ["_law_tape_here", "_law_many"] (spA K zH)):OkN P w K mg base 2 "_law_wish" ["_law_tape_here"] (spA K vE):=by
 refine dn.aok2 (k:=1) dA (λj=>j==0) [.un,.un,.un,.un,.un] vE rfl (λf cdv A outer s H E hr=>have hu:=cz hr;⟨_,(ao (bj (i:=1) dA.nd rfl (by first | exact Or.inl rfl | exact Or.inr rfl) (bh fq aJ (bM g_law_draw (hr.mono (by decide)) (ah (pv 0) (ah aJ aA)))))
  (ao (bj (i:=2) dA.nd rfl (by first | exact Or.inl rfl | exact Or.inr rfl) (bh iN (bh kq aJ (pv 1)) aJ))
  (ao (bj (i:=3) dA.nd rfl (by first | exact Or.inl rfl | exact Or.inr rfl) (bh fq aJ (bM g_law_draw (hr.mono (by decide)) (ah (pv 0) (ah (bh iN (bh kq aJ (pv 2)) aJ) aA)))))
  (ao (bj (i:=4) dA.nd rfl (by first | exact Or.inl rfl | exact Or.inr rfl) (eK aA))
  (ao (eG Cj rfl (uk rfl B.range_ (ah aJ (ah (bh fq (pv 2) aJ) aA))) (aG (i:=5) dA.nd rfl (by first | exact Or.inl rfl | exact Or.inr rfl))
  (aI (dq (a_ (gA K hr.units) (bh lI (bh xQ (pv 3) (bh iN (pv 5) aJ)) aJ) aJ (bL _))
  (ao (dX (fo K Ch Hf PySem.F.type_list_insert uF (pv 4) (ah (bM g_law_draw (hr.mono (by decide)) (ah (pv 0) (ah (bh fq (bE (cg K) rfl B.len_ fA (ah (pv 4) aA)) aJ) aA))) (ah (pv 5) aA))))
  (aI (dq (a_ (gA K hr.units) (bM g_law_draw (hr.mono (by decide)) (ah (pv 0) (ah aJ aA))) aJ (bL _))
  (aI (dX (fo K Ch Cw Cv cP (pv 4) (ah (pv 5) aA))))
  bx)))
  bx)))
  (aI (aZ (c8 (ah (pv 1) (ah (cN (dD K) rfl B.tuple_ eY (ah (pv 4) aA)) aA)))))))))),(aE (a8 (aF bc aH (aM (af aa (af aH aj)))) rfl)
  (aE (a8 (aF bc (aF fJ aH aa) aH) rfl)
  (aE (a8 (aF bc aH (aM (af aa (af (aF bc (aF fJ aH aa) aH) aj)))) rfl)
  (aE (a8 (cW aj) rfl)
  (aE (cX (pin:=(λ_=>false)) (tG (af aH (af (aF bc aa aH) aj))) (aq rfl)
  (cp (aO (aF gB (aF bc (aF fJ aa (aF bc aa aH)) aH) aH))
  (aE (cV (ye aa (af (aM (af aa (af (aF bc (cj dM (af aa aj)) aH) aj))) (af aa aj))))
  (cp (aO (aF gB (aM (af aa (af aH aj))) aH))
  (cV (e6 aa (af aa aj)))
  bg))
  bg))
  (aP (cb (af aa (af (cj en (af aa aj)) aj)))))))))⟩) ?_
 rintro ss q ⟨n,rfl,hn,hq⟩
 have dI:∀ {i:Int},D.depth (.int i)<=60:=λ{i}=>by simp[D.depth]
 refine⟨rfl,rfl,?_⟩
 refine cutS (λρ=>∃m:Nat,1<=m/\m<=3/\ρ=[.tp (n+1),nv m,.un,.un,.un,.un]) (λM hM=>⟨rfl,n,3,rfl,by omega,Dv.small (by decide) (by decide),λx hx=>hM _ ⟨1+x,by omega,by omega,rfl⟩⟩) ?_
 rintro _ ⟨m,h1,h3,rfl⟩
 have ep:∀m:Nat,(1:Int)*(2:Int)^((m:Int).toNat) - 1=((2^m - 1:Nat):Int):=λm=>by
  have:=Jx m
  rw[ji,FE,G4];omega
 refine cutS (λρ=>ρ=[.tp (n+1),nv m,nv (2^m - 1),.un,.un,.un]) (λM hM=>⟨⟨by omega,by omega,by decide⟩,?_⟩) ?_
 ·show M [.tp (n+1),nv m,.vl (.int ((1:Int)*(2:Int)^((m:Int).toNat) - 1)),.un,.un,.un]
  rw[ep]
  exact hM _ rfl
 rintro _ rfl
 have g1:1<=2^m - 1:=by have:2<=2^m:=Dx (n:=2) (by decide) h1;omega
 have g7:2^m - 1<=7:=by have:2^m<=2^3:=Dx (n:=2) (by decide) h3;omega
 have gm:∀x,1<=x->x<=2^m - 1->x<2^m:=λx _ h=>by omega
 generalize 2^m - 1=g at *
 refine cutS (λρ=>∃B:Nat,1<=B/\B<2^g/\ρ=[.tp (n+2),nv m,nv g,nv B,.un,.un]) (λM hM=>⟨⟨by omega,by omega,by decide⟩,rfl,n+1,_,rfl,by omega,Dv.small ?_ ?_,λx hx=>?_⟩) ?_
 ·show(0:Int)<(1:Int)*(2:Int)^((g:Int).toNat) - 1
  have:2<=2^g:=Dx (n:=2) (by decide) g1
  rw[ep];omega
 ·show(1:Int)*(2:Int)^((g:Int).toNat) - 1<1073741824
  have:2^g<=2^7:=Dx (n:=2) (by decide) g7
  rw[ep];omega
 ·have hx:(x:Int)<(1:Int)*(2:Int)^((g:Int).toNat) - 1:=hx
  rw[ep]at hx
  exact hM _ ⟨1+x,by omega,by omega,rfl⟩
 rintro _ ⟨B,hB1,hB2,rfl⟩
 refine cutS (λρ=>ρ=[.tp (n+2),nv m,nv g,nv B,.ow (ar []),.un]) (λM hM=>⟨zn _,hM _ rfl⟩) ?_
 rintro _ rfl
 refine cutS (λρ=>∃(R:List Nat) (n':Nat) (s5:Sv),R≠[]/\R.length<=14/\(∀r∈R,1<=r/\r<2^m)/\n'<=n+20/\ρ=[.tp n',nv m,nv g,nv B,.ow (ar R),s5]) (λM hM=>?_) ?_
 ·refine⟨⟨by omega,by omega⟩,?_⟩
  refine mY (λk ρ=>∃(R:List Nat) (n':Nat) (s5:Sv),((∃j,j<k/\B.testBit j=true)->R≠[])/\R.length<=2*k/\(∀r∈R,1<=r/\r<2^m)/\n'<=n+2+2*k/\ρ=[.tp n',nv m,nv g,nv B,.ow (ar R),s5]) (λ_ _ _=>trivial) ?_ (λρ ⟨R,n',s5,a,b,c,d,e⟩=>?_) ⟨[],n+2,.un,λ⟨j,h,_⟩=>absurd h (EY j),li _,λr hr=>(by cases hr),by omega,rfl⟩
  ·rintro k ρ N hk ⟨R,n',s5,hne,hl,hR,hn',rfl⟩ hN
   have hk:k<g:=by omega
   refine gaN1 ?_
   have e1:∀M:En->Prop,M [.tp n',nv m,nv g,nv B,.ow (ar R),nv (1+k)]->M (pt [.tp n',nv m,nv g,nv B,.ow (ar R),s5] 5 (.vl (.int ((1:Int)+(k:Int))))):=λM h=>by
    rw[show(1:Int)+(k:Int)=((1+k:Nat):Int)by omega];exact h
   refine e1 _ ?_
   refine⟨by omega,cm (b:=B.testBit k) rfl rfl dI (by rw[show(((1+k:Nat):Int) - 1)=(k:Int)by omega];exact A9 B k) ?_⟩
   cases hb:B.testBit k with
   | false =>
    refine hN _ ⟨R,n',nv (1+k),λ⟨j,h1,h2⟩=>hne ⟨j,?_,h2⟩,by omega,hR,by omega,rfl⟩
    rcases BW j k with z | z
    ·exact z
    ·obtain rfl:j=k:=by omega
     rw[hb]at h2;cases h2
   | true =>
    simp only[D5,if_false,if_true]
    have r1:1<=1+k/\1+k<2^m:=⟨by omega,gm _ (by omega) (by omega)⟩
    refine cutS (λρ=>∃R:List Nat,R≠[]/\R.length<=2*k+1/\(∀r∈R,1<=r/\r<2^m)/\ρ=[.tp (n'+1),nv m,nv g,nv B,.ow (ar R),nv (1+k)]) (λM hM=>⟨rfl,n',_,rfl,by omega,Dv.small (by rw[bo];omega) (by rw[bo];omega),λx hx=>?_⟩) ?_
    ·rw[bo]at hx
     have hx:x<=R.length:=by omega
     refine⟨x,rfl,by rw[bo];exact hx,by rw[bo];omega,hM _ ⟨R.take x++(1+k)::R.drop x,by simp,?_,λr hr=>?_,?_⟩⟩
     ·rw[wS,At,B0,EE];omega
     ·rcases BO.mp hr with z | z
      ·exact hR r (Io z)
      ·rcases sB.mp z with rfl | z
       ·exact r1
       ·exact hR r (Ip z)
     ·have e:(ar R).take x++nD (1+k)::(ar R).drop x=ar (R.take x++(1+k)::R.drop x):=by
       unfold ar;rw[B7,wl,EL,List.map_drop]
      rw[<- e];rfl
    rintro _ ⟨R,hne,hl,hR,rfl⟩
    refine⟨rfl,n'+1,4,rfl,by omega,Dv.small (by decide) (by decide),λx hx=>cm rfl rfl dI rfl (ite2 (λ_=>?_) λ_=>?_)⟩
    ·refine⟨by rw[bo];omega,hN _ ⟨R++[1+k],n'+2,nv (1+k),λ_=>by simp,by rw[wS,Dp];omega,λr hr=>?_,by omega,by rw[dC];rfl⟩⟩
     rcases BO.mp hr with z | z
     ·exact hR r z
     ·rw[wv.mp z];exact r1
    ·exact hN _ ⟨R,n'+2,nv (1+k),λ_=>hne,by omega,hR,by omega,rfl⟩
  ·obtain⟨j,hj⟩:=Nat.exists_testBit_of_ne_zero (x:=B) (by omega)
   have hj2:j<g:=by
    apply DJ
    intro z
    have:=Nat.testBit_lt_two_pow (xz hB2 (Dx (n:=2) (by decide) (show g<=j by omega)))
    rw[this]at hj;cases hj
   exact hM ρ ⟨R,n',s5,a ⟨j,by omega,hj⟩,by omega,c,by omega,e⟩
 rintro _ ⟨R,n',s5,hne,hl,hR,hn',rfl⟩
 have l1:1<=R.length:=Ek.mpr hne
 have p64:2^m<=64:=Dx (n:=2) (by decide) (show m<=6 by omega)
 exact⟨by simp,hq m n' R h1 h3 ⟨h1,by omega,l1,by omega,λr hr=>⟨(hR r hr).1,xz (hR r hr).2 p64⟩⟩ (λr hr=>(hR r hr).2) (by omega)⟩
theorem Ak (dn:DefN K mg "law" wg ["_law_script"])(B:BI mg)(g_law_tape:OkN P w K mg base 1 "_law_tape" ["_law_script"] (spA K zE))(g_law_wish:OkN P w K mg base 2 "_law_wish" ["_law_tape_here"] (spA K vE))(g_least:OkN P w K mg base 32 "least" ["wish", "clean"] (spA K vH))(g_law_fewest:OkN P w K mg base 2 "_law_fewest" ["_law_wish_here", "_law_clean_here"] (spA K SFew))(g_law_makes:OkN P w K mg base 5 "_law_makes" ["_law_net", "_law_wish_here"] (spA K vG))(g_law_clean:OkN P w K mg base 1 "_law_clean" ["_law_net"] (spA K vM)):OkN P w K mg base 33 "law" ["_law_script"] (spA K SLaw):=by
 refine dn.aok2 (k:=32) j5 (λj=>j==0) [.un,.un,.un,.un,.un,.un] SLaw rfl (λf cdv A outer s H E hr=>have hu:=cz hr;⟨_,(ao (bj (i:=1) j5.nd rfl (by first | exact Or.inl rfl | exact Or.inr rfl) (bM g_law_tape (hr.mono (by decide)) (ah (pv 0) aA)))
  (ao (eG Cj rfl (eI rfl B.range_ (ah aJ aA)) (aG (i:=2) j5.nd rfl (by first | exact Or.inl rfl | exact Or.inr rfl))
  (ao (bj (i:=3) j5.nd rfl (by first | exact Or.inl rfl | exact Or.inr rfl) (bM g_law_wish (hr.mono (by decide)) (ah (pv 1) aA)))
  (aI (eG Cj rfl (bF K (eK (ah c9 (ah c9 aA)))) (aG (i:=4) j5.nd rfl (by first | exact Or.inl rfl | exact Or.inr rfl))
  (ao (bj (i:=5) j5.nd rfl (by first | exact Or.inl rfl | exact Or.inr rfl) (bM g_least (hr.mono (by decide)) (ah (pv 3) (ah (pv 4) aA))))
  (ao (dq (PW.pt (sg (f7 (eE (bE (i9 K) rfl B.isinstance_ eh (ah (pv 5) (ah (wx rfl B.tuple_ eY) aA))))) (sg (a_ (iO K hr.units) (bE (cg K) rfl B.len_ fA (ah (pv 5) aA)) aJ (bL _)) (q0 (f7 (eE (bM g_law_makes (hr.mono (by decide)) (ah (bW (aT K) (pv 5) aJ (λ_ _=>rfl)) (ah (pv 3) aA)))))))))
  (aI (aZ c9))
  bx)
  (ao (bj (i:=6) j5.nd rfl (by first | exact Or.inl rfl | exact Or.inr rfl) (bM g_law_fewest (hr.mono (by decide)) (ah (pv 3) (ah (pv 4) aA))))
  (aI (dq (PW.pt (sg (a_ (iO K hr.units) (bE (cg K) rfl B.len_ fA (ah (bW (aT K) (bW (aT K) (pv 5) aJ (λ_ _=>rfl)) aJ (λ_ _=>rfl)) aA)) (pv 6) (bL _)) (sg (PW.pt (jA (eF K (pv 4) (λ_=>rfl)) (gq (f7 (eE (bM g_law_clean (hr.mono (by decide)) (ah (bW (aT K) (pv 5) aJ (λ_ _=>rfl)) aA))))))) (q0 (a_ (iO K hr.units) (gr Aj (bW (aT K) (pv 5) aJ (λ_ _=>rfl)) xN (bL _)) (gr (gA K hr.units) (pv 6) aJ (bL _)) (bL _))))))
  (aI (aZ c9))
  bx)))))))))
  (aI (aZ c9)))),(aE (a8 (aM (af aa aj)) rfl)
  (aE (cX (pin:=(λ_=>false)) (eA (af aH aj)) (aq rfl)
  (aE (a8 (aM (af aa aj)) rfl)
  (cX (pin:=(λ_=>false)) (ba (cW (af bV (af bV aj)))) (aq rfl)
  (aE (a8 (aM (af aa (af aa aj))) rfl)
  (aE (cp (jg (cU (dZ (cj jU (af aa (af qN aj))))) (jg (aO (aF iP (cj dM (af aa aj)) aH)) (cU (dZ (aM (af (aF bb aa aH) (af aa aj)))))))
  (aP bV)
  bg)
  (aE (a8 (aM (af aa (af aa aj))) rfl)
  (cp (jg (aO (aF iP (cj dM (af (aF bb (aF bb aa aH) aH) aj)) aa)) (jg (fC (fB aa) (cU (dZ (aM (af (aF bb aa aH) aj))))) (aO (aF iP (aF yJ (aF bb aa aH) tw) (aF gB aa aH)))))
  (aP bV)
  bg)))))))
  (aP bV)))⟩) ?_
 rintro ss q ⟨ns,hl,rfl,hq⟩
 refine⟨rfl,rfl,rfl,ns,rfl,?_⟩
 dsimp only[stS,pt,back,R.frz]
 have dI:∀ {i:Int},D.depth (.int i)<=60:=λ{i}=>by simp[D.depth]
 have l2:(2:Nat)<=1000000:=by decide
 refine cutS (λρ=>∃s0 n' s2 s3 s4 s5 s6,ρ=[s0,.tp n',s2,s3,s4,s5,s6]) (λM hM=>⟨⟨by decide,by decide⟩,?_⟩) ?_
 ·refine mY (λk ρ=>∃s0 n' s2 s3 s4 s5 s6,n'<=100*k/\ρ=[s0,.tp n',s2,s3,s4,s5,s6]) (λ_ _ _=>trivial) ?_ (λρ ⟨s0,n',s2,s3,s4,s5,s6,_,e⟩=>hM ρ ⟨s0,n',s2,s3,s4,s5,s6,e⟩) ⟨_,0,.un,.un,.un,.un,.un,zn _,rfl⟩
  rintro k _ N hk ⟨s0,n',s2,s3,s4,s5,s6,hn',rfl⟩ hN
  have hk:k<12:=hk
  refine gaN1 ?_
  generalize Sv.vl (D.int (0+(k:Int)))=s2
  show aSeq _ _ _ [s0,.tp n',s2,s3,s4,s5,s6]
  refine cutS (λρ=>∃m n1 W,d0 m W/\m<=3/\(∀r∈W,r<2^m)/\n1<=n'+30/\ρ=[s0,.tp n1,s2,.vl (bR m W),s4,s5,s6]) (λM hM=>⟨rfl,n',rfl,by omega,λm n1 W h1 h3 ok hr hn1=>hM _ ⟨m,n1,W,ok,h3,hr,hn1,rfl⟩⟩) ?_
  rintro _ ⟨m,n1,W,ok,h3,hr,hn1,rfl⟩
  refine⟨l2,?_⟩
  refine iZ D.bl (xs:=[true,false]) (λ_ ρ=>∃s4 s5 s6,ρ=[s0,.tp n1,s2,.vl (bR m W),s4,s5,s6]) (λ_ _ _=>trivial) ?_ (λρ ⟨s4,s5,s6,e⟩=>hN ρ ⟨s0,n1,s2,_,s4,s5,s6,by omega,e⟩) ⟨s4,s5,s6,rfl⟩
  rintro _ cl _ N2 _ ⟨s4,s5,s6,rfl⟩ hN2
  refine gaN1 ?_
  show aSeq _ _ _ [s0,.tp n1,s2,.vl (bR m W),.vl (.bl cl),s5,s6]
  obtain⟨N,LN⟩:=uL ok (by omega) hr cl
  have hp:=wF (cl:=cl) ok (by omega) hr
  obtain⟨hT,hNn,hNm,hNw,hNl,hNc⟩:=LN
  refine cutS (λρ=>ρ=[s0,.tp n1,s2,.vl (bR m W),.vl (.bl cl),.vl (rE m W cl),s6]) (λM hM=>⟨rfl,m,W,cl,rfl,ok,by omega,hr,hM _ rfl⟩) ?_
  rintro _ rfl
  have eD:rE m W cl = .tup [netD N,papD m W cl (bD m W cl)]:=by unfold rE;rw[hT]
  rw[eD]
  refine cutS (λρ=>ρ=[s0,.tp n1,s2,.vl (bR m W),.vl (.bl cl),.vl (.tup [netD N,papD m W cl (bD m W cl)]),s6]) (λM hM=>c0 rfl gf (cm (b:=true) rfl rfl dI rfl (e_ rfl (eQ (j:=0) rfl) ⟨rfl,N,W,by rw[hNm];rfl,hNn,hNw,hM _ rfl⟩))) ?_
  rintro _ rfl
  refine cutS (λρ=>ρ=[s0,.tp n1,s2,.vl (bR m W),.vl (.bl cl),.vl (.tup [netD N,papD m W cl (bD m W cl)]),nv (bD m W cl)]) (λM hM=>⟨rfl,m,W,cl,rfl,ok,h3,hr,hM _ rfl⟩) ?_
  rintro _ rfl
  refine e_ rfl (eQ (j:=0) rfl) (e_ (i:=1) (d:=.tup (N.js.map L2.bQ)) rfl rfl ?_)
  refine cm (b:=true) rfl rfl dI (by rw[f8,hNl];exact g9 _) ?_
  have eZ:eqD (.int ((bD m W cl:Nat):Int)) (.int 0)=decide (bD m W cl=0):=by
   show decide (((bD m W cl:Nat):Int)=0)=_
   rw[decide_eq_decide];omega
  have eB:eqD (.bl (uS (papD m W cl (bD m W cl)))) (.bl (decide (bD m W cl=0)))=true:=by rw[hp];exact g9 _
  have fin:=hN2 _ ⟨.vl (.bl cl),.vl (.tup [netD N,papD m W cl (bD m W cl)]),nv (bD m W cl),rfl⟩
  cases cl with
  | false=>exact e_ rfl (eQ (j:=1) rfl) (cm rfl rfl dI eZ (cm rfl rfl (by simp[D.depth]) eB fin))
  | true=>exact e_ rfl (eQ (j:=0) rfl) ⟨rfl,N,rfl,hNn,hNc rfl,e_ rfl (eQ (j:=1) rfl) (cm rfl rfl dI eZ (cm rfl rfl (by simp[D.depth]) eB fin))⟩
 rintro _ ⟨s0,n',s2,s3,s4,s5,s6,rfl⟩
 exact hq _
theorem fin (d_wall:DefN K mg "_wall" xG ["k"])(d_is_whole:DefN K mg "is_whole" gX ["thing", "least", "most"])(d_is_tuple:DefN K mg "is_tuple" gY ["thing", "least", "most"])(d_joined:DefN K mg "joined" jO ["one", "other"])(d_is_net:DefN K mg "is_net" jP ["thing"])(d_are_joins:DefN K mg "are_joins" fG ["many", "joins"])(d_is_join:DefN K mg "is_join" iJ ["rows", "join"])(d_are_outs:DefN K mg "are_outs" fj ["things", "outs"])(d_own_rows:DefN K mg "own_rows" fg ["many"])(d_joining:DefN K mg "joining" iI ["one", "other"])(d_all_words:DefN K mg "all_words" fH ["net", "words"])(d_rows_of:DefN K mg "rows_of" iH ["net"])(d_first_cases:DefN K mg "first_cases" d7 ["wish", "clean", "count"])(d_may_join:DefN K mg "may_join" gT ["clean", "one", "other"])(d_tidied:DefN K mg "tidied" iG ["net"])(d_first_alike:DefN K mg "first_alike" d8 ["rows"])(d_leant_on:DefN K mg "leant_on" fh ["net", "stands"])(d_tried:DefN K mg "tried" mv ["wish", "clean", "count"])(d_is_tried:DefN K mg "is_tried" gZ ["many", "count"])(d_least:DefN K mg "least" mw ["wish", "clean"])(d_searched:DefN K mg "searched" gS ["cases"])(d_searched_made:DefN K mg "searched_made" df ["cases", "row"])(d_searched_next:DefN K mg "searched_next" de ["cases", "free"])(d_net_of_rows:DefN K mg "net_of_rows" cH ["wish", "clean", "known"])(d_first_joining:DefN K mg "first_joining" cD ["things", "row", "clean"])(d_law_tape:DefN K mg "_law_tape" gV ["_law_script"])(d_law_draw:DefN K mg "_law_draw" gW ["_law_tape_here", "_law_many"])(d_law_reached:DefN K mg "_law_reached" b7 ["_law_many", "_law_rows", "_law_clean_here"])(d_law_makes:DefN K mg "_law_makes" dB ["_law_net", "_law_wish_here"])(d_law_clean:DefN K mg "_law_clean" eC ["_law_net"])(d_law_fewest:DefN K mg "_law_fewest" ck ["_law_wish_here", "_law_clean_here"])(d_law_wish:DefN K mg "_law_wish" gU ["_law_tape_here"])(d_law:DefN K mg "law" wg ["_law_script"])(c_MOST_GIVENS:∃u,mg "MOST_GIVENS" = some u/\RelV (.int 12) u)(c_MOST_JOINS:∃u,mg "MOST_JOINS" = some u/\RelV (.int 132) u)(c_MOST_OUTS:∃u,mg "MOST_OUTS" = some u/\RelV (.int 24) u)(c_FEW_GIVENS:∃u,mg "FEW_GIVENS" = some u/\RelV (.int 4) u)(c_FEW_GIVENS_COUNT:∃u,mg "FEW_GIVENS_COUNT" = some u/\RelV (.int 11) u)(c_MORE_GIVENS:∃u,mg "MORE_GIVENS" = some u/\RelV (.int 6) u)(c_MORE_GIVENS_COUNT:∃u,mg "MORE_GIVENS_COUNT" = some u/\RelV (.int 3) u)(oc_Cases:∃C_Cases:Addr,ClsO K mg C_Cases "Cases" ["wished", "clean", "known", "shut", "left"]/\DefM K C_Cases "__init__" "Cases.__init__" bw ["self", "wished", "clean", "known", "shut", "left"]/\DefM K C_Cases "with_row" "Cases.with_row" bu ["self", "row", "shut"]/\DefM K C_Cases "lacking" "Cases.lacking" bp ["self"]/\DefM K C_Cases "free_rows" "Cases.free_rows" aY ["self"]/\DefM K C_Cases "lacks_too_many" "Cases.lacks_too_many" aW ["self"]/\DefM K C_Cases "is_far" "Cases.is_far" bf ["self", "row"]/\DefM K C_Cases "shown_by" "Cases.shown_by" bY ["self", "paper"]/\DefM K C_Cases "shown_far" "Cases.shown_far" bP ["self", "row"]/\DefM K C_Cases "shown_made" "Cases.shown_made" bK ["self", "row", "paper"]/\DefM K C_Cases "shown_next" "Cases.shown_next" bJ ["self", "papers"])(B:BI mg):OkN P w K mg base 33 "law" ["_law_script"] (yk K):=by
 obtain⟨C_Cases,o_Cases,d_Cases___init__,d_Cases_with_row,d_Cases_lacking,d_Cases_free_rows,d_Cases_lacks_too_many,d_Cases_is_far,d_Cases_shown_by,d_Cases_shown_far,d_Cases_shown_made,d_Cases_shown_next⟩:=oc_Cases
 have ob_Cases:=uz (P:=P) (w:=w) (base:=base) o_Cases d_Cases___init__
 exact
 have g_law_tape:=pR d_law_tape B
 have g_law_draw:=pS d_law_draw B
 have g_is_whole:=pT d_is_whole B
 have g_is_tuple:=pU d_is_tuple B
 have g_joined:=uw d_joined B
 have g_own_rows:=pN d_own_rows B
 have g_may_join:=pO d_may_join B
 have g_Cases_with_row:=jo ob_Cases d_Cases_with_row B
 have g_Cases_lacking:=jF ob_Cases d_Cases_lacking B
 have g_Cases_lacks_too_many:=fK ob_Cases d_Cases_lacks_too_many B g_Cases_lacking
 have g_first_cases:=k9 ob_Cases d_first_cases B g_own_rows
 have g_Cases_free_rows:=iQ ob_Cases d_Cases_free_rows B g_joined g_may_join
 have g_Cases_is_far:=ku ob_Cases d_Cases_is_far B g_joined g_may_join
 have z0_searched:=d_searched.no (P:=P) (w:=w) (mg:=mg) (base:=base) dz 3
 have y0_searched_made:=aV 0 0 ob_Cases d_searched_made B g_Cases_with_row z0_searched
 have y0_searched_next:=aU 0 0 ob_Cases d_searched_next B g_Cases_with_row z0_searched
 have z1_searched:=bC 0 0 ob_Cases d_searched B g_Cases_lacking g_Cases_lacks_too_many g_Cases_free_rows g_Cases_is_far y0_searched_next y0_searched_made
 have y1_searched_made:=aV 1 2 ob_Cases d_searched_made B g_Cases_with_row z1_searched
 have y1_searched_next:=aU 1 2 ob_Cases d_searched_next B g_Cases_with_row z1_searched
 have z2_searched:=bC 1 2 ob_Cases d_searched B g_Cases_lacking g_Cases_lacks_too_many g_Cases_free_rows g_Cases_is_far y1_searched_next y1_searched_made
 have y2_searched_made:=aV 2 4 ob_Cases d_searched_made B g_Cases_with_row z2_searched
 have y2_searched_next:=aU 2 4 ob_Cases d_searched_next B g_Cases_with_row z2_searched
 have z3_searched:=bC 2 4 ob_Cases d_searched B g_Cases_lacking g_Cases_lacks_too_many g_Cases_free_rows g_Cases_is_far y2_searched_next y2_searched_made
 have y3_searched_made:=aV 3 6 ob_Cases d_searched_made B g_Cases_with_row z3_searched
 have y3_searched_next:=aU 3 6 ob_Cases d_searched_next B g_Cases_with_row z3_searched
 have z4_searched:=bC 3 6 ob_Cases d_searched B g_Cases_lacking g_Cases_lacks_too_many g_Cases_free_rows g_Cases_is_far y3_searched_next y3_searched_made
 have y4_searched_made:=aV 4 8 ob_Cases d_searched_made B g_Cases_with_row z4_searched
 have y4_searched_next:=aU 4 8 ob_Cases d_searched_next B g_Cases_with_row z4_searched
 have z5_searched:=bC 4 8 ob_Cases d_searched B g_Cases_lacking g_Cases_lacks_too_many g_Cases_free_rows g_Cases_is_far y4_searched_next y4_searched_made
 have y5_searched_made:=aV 5 10 ob_Cases d_searched_made B g_Cases_with_row z5_searched
 have y5_searched_next:=aU 5 10 ob_Cases d_searched_next B g_Cases_with_row z5_searched
 have z6_searched:=bC 5 10 ob_Cases d_searched B g_Cases_lacking g_Cases_lacks_too_many g_Cases_free_rows g_Cases_is_far y5_searched_next y5_searched_made
 have y6_searched_made:=aV 6 12 ob_Cases d_searched_made B g_Cases_with_row z6_searched
 have y6_searched_next:=aU 6 12 ob_Cases d_searched_next B g_Cases_with_row z6_searched
 have z7_searched:=bC 6 12 ob_Cases d_searched B g_Cases_lacking g_Cases_lacks_too_many g_Cases_free_rows g_Cases_is_far y6_searched_next y6_searched_made
 have y7_searched_made:=aV 7 14 ob_Cases d_searched_made B g_Cases_with_row z7_searched
 have y7_searched_next:=aU 7 14 ob_Cases d_searched_next B g_Cases_with_row z7_searched
 have z8_searched:=bC 7 14 ob_Cases d_searched B g_Cases_lacking g_Cases_lacks_too_many g_Cases_free_rows g_Cases_is_far y7_searched_next y7_searched_made
 have y8_searched_made:=aV 8 16 ob_Cases d_searched_made B g_Cases_with_row z8_searched
 have y8_searched_next:=aU 8 16 ob_Cases d_searched_next B g_Cases_with_row z8_searched
 have z9_searched:=bC 8 16 ob_Cases d_searched B g_Cases_lacking g_Cases_lacks_too_many g_Cases_free_rows g_Cases_is_far y8_searched_next y8_searched_made
 have y9_searched_made:=aV 9 18 ob_Cases d_searched_made B g_Cases_with_row z9_searched
 have y9_searched_next:=aU 9 18 ob_Cases d_searched_next B g_Cases_with_row z9_searched
 have z10_searched:=bC 9 18 ob_Cases d_searched B g_Cases_lacking g_Cases_lacks_too_many g_Cases_free_rows g_Cases_is_far y9_searched_next y9_searched_made
 have y10_searched_made:=aV 10 20 ob_Cases d_searched_made B g_Cases_with_row z10_searched
 have y10_searched_next:=aU 10 20 ob_Cases d_searched_next B g_Cases_with_row z10_searched
 have z11_searched:=bC 10 20 ob_Cases d_searched B g_Cases_lacking g_Cases_lacks_too_many g_Cases_free_rows g_Cases_is_far y10_searched_next y10_searched_made
 have y11_searched_made:=aV 11 22 ob_Cases d_searched_made B g_Cases_with_row z11_searched
 have y11_searched_next:=aU 11 22 ob_Cases d_searched_next B g_Cases_with_row z11_searched
 have z12_searched:=bC 11 22 ob_Cases d_searched B g_Cases_lacking g_Cases_lacks_too_many g_Cases_free_rows g_Cases_is_far y11_searched_next y11_searched_made
 have y12_searched_made:=aV 12 24 ob_Cases d_searched_made B g_Cases_with_row z12_searched
 have y12_searched_next:=aU 12 24 ob_Cases d_searched_next B g_Cases_with_row z12_searched
 have z13_searched:=bC 12 24 ob_Cases d_searched B g_Cases_lacking g_Cases_lacks_too_many g_Cases_free_rows g_Cases_is_far y12_searched_next y12_searched_made
 have g_searched:=z13_searched
 have g_joining:=sj d_joining B
 have g_all_words:=nX d_all_words B g_joined
 have g_rows_of:=si d_rows_of B g_all_words g_own_rows
 have g_first_alike:=k_ d_first_alike B
 have g_leant_on:=pP d_leant_on B
 have g_tidied:=uv d_tidied B g_first_alike g_leant_on g_rows_of g_joining
 have g_first_joining:=jE d_first_joining B g_may_join g_joined
 have g_net_of_rows:=k7 d_net_of_rows B g_tidied g_first_joining
 have g_is_tried:=pV d_is_tried B c_FEW_GIVENS_COUNT c_MORE_GIVENS_COUNT c_FEW_GIVENS c_MORE_GIVENS
 have g_tried:=wI d_tried B g_searched g_is_tried g_first_cases g_net_of_rows
 have g_least:=wJ d_least B g_tried c_FEW_GIVENS
 have g_is_join:=sk d_is_join B g_is_tuple g_is_whole
 have g_are_joins:=nW d_are_joins B g_own_rows g_is_tuple g_is_join g_joined c_MOST_JOINS
 have g_are_outs:=pW d_are_outs B g_is_tuple g_is_whole c_MOST_OUTS
 have g_is_net:=ux d_is_net B g_is_tuple g_is_whole g_are_joins g_are_outs c_MOST_GIVENS
 have g_law_makes:=nU d_law_makes B g_is_net
 have g_law_clean:=nV d_law_clean B
 have g_law_reached:=k8 d_law_reached B
 have g_law_fewest:=mH d_law_fewest B g_law_reached
 have g_law_wish:=pQ d_law_wish B g_law_draw
 have g_law:=Ak d_law B g_law_tape g_law_wish g_least g_law_fewest g_law_makes g_law_clean
 Aw g_law
end
end K83
namespace PySem.W.Fast
def tw6463348402466983054:=()
def tw18100597724382601510:=()
def tw9764166462687634840:=()
def tw6532615078611796992:=()
def tw13530847571364481621:=()
def tw3387004243971578404:=()
def tw17646370433894242574:=()
def tw16779579252547970277:=()
def tw15779423773969731715:=()
def tw560542394960803514:=()
def tw3819098713628277978:=()
def tw15234072889446187087:=()
def tw10406847761986349795:=()
def tw16649596723062057179:=()
def tw4637908014650507628:=()
def tw7304797765389376702:=()
def tw7490501664758211007:=()
def tw633016987371687825:=()
def tw7041879878956777109:=()
def tw5387171634524927048:=()
def tw16854615639859556069:=()
def tw7568509130888802606:=()
def tw9307448982561627752:=()
def tw13314655923187697491:=()
def tw1296699837272740773:=()
def tw17251784334198901545:=()
def tw6477430891591659410:=()
def tw15229387460988371237:=()
def tw5118156214090257619:=()
def tw5214185158554274430:=()
def tw15129088875404892318:=()
def tw12033591517380638847:=()
def tw17215686828503307366:=()
def tw14222044346358317311:=()
def tw15833064764231543834:=()
def tw6181494570007489459:=()
def tw5497916915231849088:=()
def tw18376244172783002206:=()
def tw4020808494271164381:=()
def tw10603926893276704101:=()
def tw8066718995717610570:=()
def tw17162680879044772708:=()
def tw4321595546820070714:=()
def tw672659241236088278:=()
def tw4912510623329299886:=()
def tw5194618619896303065:=()
def tw8193005616746827575:=()
def tw3741054062378569536:=()
def tw14377416110810839664:=()
def tw7139759656507328907:=()
def tw16341889288126034155:=()
def tw15504456465577103393:=()
def tw11540834824291989897:=()
def tw6039839178314821000:=()
def tw16557457240378465261:=()
def tw1878737506035077203:=()
def tw17996737202141981498:=()
def tw12727316394205619714:=()
def tw8996087140065370630:=()
def tw14768283463938340674:=()
def tw13874365802421106233:=()
def tw11097408848286502206:=()
def tw11529723642257704653:=()
def tw14510566029754158921:=()
def tw2496779903391553909:=()
def tw3866820296399113883:=()
def tw9323913269055120714:=()
def tw6923627574540574623:=()
def tw8539178499302626110:=()
def tw241222111237635336:=()
def tw13364448808148102047:=()
def tw4592994653132007240:=()
def tw11515080797212209680:=()
def tw9224509759121723827:=()
def tw9972587092297547124:=()
def tw11289176127630479409:=()
def tw805076590657105898:=()
def tw12834665169225104966:=()
def tw4095177654343838175:=()
def tw14981921410249952703:=()
def tw9260337087418826486:=()
def tw6258910637478334470:=()
def tw129108958069185357:=()
def tw7928847050490829917:=()
def tw10082583500374831328:=()
def tw3084472599644733568:=()
def tw13517204789030956290:=()
def tw10671570492936920471:=()
def tw5000319321272185093:=()
def tw13574434959062489792:=()
def tw9257323911417825192:=()
def tw17297110979639121350:=()
def tw13483193804684357363:=()
def tw7630791540129236643:=()
def tw1365024818657738802:=()
def tw818537712766579333:=()
def tw3671319350406539841:=()
def tw7758084389990613050:=()
def tw15754589744287566171:=()
def tw6354724569422757299:=()
def tw15446465757470731174:=()
def tw2031715817243171970:=()
def tw10519502070647185213:=()
def tw9368778391226685541:=()
def tw9905844342360552530:=()
def tw8186794176336650346:=()
def tw901727884381351235:=()
def tw15377815961450196383:=()
def tw9431350688992898860:=()
def tw1706913831625686975:=()
def tw12976048893122113723:=()
def tw10095038867846330035:=()
def tw3995776645892262211:=()
def tw6571045680806845113:=()
def tw13675305412618609026:=()
def tw8019970772208615942:=()
def tw6033333120174822875:=()
def tw10862065177544847978:=()
def tw8644924071124687551:=()
def tw5959830412482238713:=()
def tw749737123030589752:=()
def tw11090852335427511077:=()
def tw2016569850368528260:=()
def tw17237203186007070932:=()
def tw2886157233147083506:=()
def tw15922900104500329057:=()
def tw5722254084247092737:=()
def tw8275260886840809122:=()
def tw11032504357007344276:=()
def tw4534045231789301870:=()
def tw3466243930843739685:=()
def tw9920498760070370122:=()
def tw10042547641300351208:=()
def tw11653909353345519472:=()
def tw9996007397060496460:=()
def tw11028980719586910271:=()
def tw8260884568451919013:=()
def tw15729253304304313300:=()
def tw2555322102104181619:=()
def tw18368429953364385518:=()
def tw6063058559138451246:=()
def tw5516859276627780727:=()
def tw2048876683190731482:=()
def tw4162501075381268818:=()
def tw9299735939147127330:=()
def tw9538153640580414381:=()
def tw13987397048012286633:=()
def tw9304253019761174251:=()
def tw5137613284549071414:=()
def tw8072724102636889682:=()
def tw2126269010547588482:=()
def tw9404325980644198613:=()
def tw230356083495212123:=()
def tw16230700529159372520:=()
def tw2532849563631102666:=()
def tw8329669970262137037:=()
def tw14211758001600016018:=()
def tw3822995347538273696:=()
def tw5205177149182942842:=()
def tw17692582206978095404:=()
def tw17550944840503366207:=()
def tw3495847283834424131:=()
def tw13451889710313065973:=()
def tw9169172013584956625:=()
def tw16053478667796986699:=()
def tw1893138324502878655:=()
def tw293730163640441041:=()
def tw7211797534491384526:=()
def tw6170852150212007680:=()
def tw7297857697314128501:=()
def tw4858495171385903918:=()
def tw757304775121854175:=()
def tw18356421805886731759:=()
def tw11610540107049337472:=()
def tw6162574272447810976:=()
def tw12607342432880043710:=()
def tw16024759924353453306:=()
def tw10085351190576073642:=()
def tw18045247656510246913:=()
def tw16757610805363187539:=()
def tw14376410131196444462:=()
def tw8450543984558450061:=()
def tw18087461492148008653:=()
def tw5963197863915438538:=()
def tw8206535461753763588:=()
def tw15666108754882488970:=()
def tw1423443845593038722:=()
def tw1707084650741469950:=()
def tw401627264737248897:=()
def tw12745031597209098193:=()
def tw13928437695132375216:=()
def tw15439685971295771947:=()
def tw7185441109621754718:=()
def tw17208943040758594650:=()
def tw14498596376903794405:=()
def tw17833314561726202366:=()
def tw7227482248355579315:=()
def tw2461107512213147523:=()
def tw6125863282783278066:=()
def tw9449033171337669965:=()
def tw15734739420671469779:=()
def tw3486488673731358715:=()
def tw2286027613186132979:=()
def tw7171010591674073600:=()
def tw4112991563173250788:=()
def tw1726493169687407969:=()
def tw16915191310351600119:=()
def tw11673377185405894565:=()
def tw1631693544861733427:=()
def tw16816324139483039953:=()
def tw1489992067648378539:=()
def tw11516718915294082273:=()
def tw10250175452997584289:=()
def tw9636438598419119980:=()
def tw7785132932276457009:=()
def tw3799453069000471041:=()
def tw7312689051532630078:=()
def tw13407343532815441656:=()
def tw2145219095577606378:=()
def tw218944608753577817:=()
def tw15523931866570930679:=()
def tw8238910945960643858:=()
def tw17498739973822039417:=()
def tw18132381519899151890:=()
def tw484430155434745764:=()
def tw17691882788701392971:=()
def tw1953176488910703543:=()
def tw17167886984076983423:=()
def tw3781690700960252224:=()
def tw12804381732052503820:=()
def tw3347000553974522120:=()
def tw13900982220929728881:=()
def tw15170246768954911029:=()
def tw12068244639871633277:=()
def tw5713865589010490605:=()
def tw4628641896800017378:=()
def tw1166117409286688499:=()
def tw13692695680120028100:=()
def tw45027755380060605:=()
def tw8975108464807437676:=()
def tw5382355979888843795:=()
def tw7842431867828183964:=()
def tw7972640319244881163:=()
def tw16309532476204280615:=()
def tw4352593806434254749:=()
def tw5277699622454283304:=()
def tw2731891487874448266:=()
def tw6167098482293765249:=()
def tw7349258518257918876:=()
def tw12647250295231759904:=()
def tw5057180794856207753:=()
def tw2372124642391251333:=()
def tw2627836958125528312:=()
def tw16553308522637091986:=()
def tw6614404134863007660:=()
def tw15679817266019481734:=()
def tw10529232850402736749:=()
def tw3935739364451600817:=()
def tw1501566184209572687:=()
def tw16487437023468291970:=()
def tw4430397244809914373:=()
def tw12221719931066039961:=()
def tw5692865689802721535:=()
def tw3043832545955396077:=()
def tw628546414883971550:=()
def tw4510561862143100204:=()
def tw4443628677341141684:=()
def tw2724741391602210848:=()
def tw5475618577222488875:=()
def tw11725965052458609487:=()
def tw16863353466430280020:=()
def tw40966751473241680:=()
def tw9147925712174882131:=()
def tw908285193705653674:=()
def tw1795056697607545247:=()
def tw6655898050449360028:=()
def tw17533589858251521334:=()
def tw13415050332807808200:=()
def tw8729785798967559630:=()
def tw6425383715289424485:=()
def tw2054671542314843765:=()
def tw6736166713269283929:=()
def tw2192818087503920674:=()
def tw9049243002402270252:=()
def tw12799328172463404217:=()
def tw15307019196349859702:=()
def tw8401696046155413408:=()
def tw16350569186339856156:=()
def tw791589478361980138:=()
def tw16467865997532813528:=()
def tw3026137037724387279:=()
def tw18234863189671924964:=()
def tw10291950922567390785:=()
def tw705401603177838963:=()
def tw18217037201766353978:=()
def tw7319246411868894930:=()
def tw5787752766439798780:=()
def tw12025574157381127414:=()
def tw10182137806932401451:=()
def tw16048261955295704272:=()
def tw570389421453283813:=()
end PySem.W.Fast
open PySem PySem.W PyProof.Rows
set_option maxRecDepth 100000 in
set_option maxHeartbeats 0 in
theorem PySem.Challenge.cw_fewjoins_k83_fewest_of_three_givens_holds : PySem.Challenge.rw_fewjoins_k83_fewest_of_three_givens.Holds := by
 w_on;o_law;k_head;(case hw=>w_witness2)
 k_fill
 refine L2.vR (l:=PySem.Challenge.rw_fewjoins_k83_fewest_of_three_givens) (n:=63) (k:=33) (x := "_law_script") (CX:=L2.CX0) (sp:=L2.yk) rfl (by decide) rfl ⟨rfl,by decide,by decide,rfl⟩ (λw h Y=>PySem.W.kIn_of Y) ?F ?S ?C
 case S=>exact λK H a ns hl hO hS=>⟨a,ns,rfl,hS,hl,λ_=>rfl⟩
 case C=>exact λH s e s' h=>h
 case F =>
  intro w mg fa h KX G hmg
  have d_wall:L2.DefN (L2.KOf KX) mg "_wall" K83.xG ["k"]:=by
   dsimp only[L2.KOf]
   refine' L2.bN KX G ?a ?l ?c ?k (λ_ _ _ _ _ _ us hl=>match us,hl with | [_],_=>rfl)
   (case a=>k_is);(case l=>k_is);(case c=>k_is);(case k=>k_is)
  have d_is_whole:L2.DefN (L2.KOf KX) mg "is_whole" K83.gX ["thing", "least", "most"]:=by
   dsimp only[L2.KOf]
   refine' L2.bN KX G ?a ?l ?c ?k (λ_ _ _ _ _ _ us hl=>match us,hl with | [_,_,_],_=>rfl)
   (case a=>k_is);(case l=>k_is);(case c=>k_is);(case k=>k_is)
  have d_is_tuple:L2.DefN (L2.KOf KX) mg "is_tuple" K83.gY ["thing", "least", "most"]:=by
   dsimp only[L2.KOf]
   refine' L2.bN KX G ?a ?l ?c ?k (λ_ _ _ _ _ _ us hl=>match us,hl with | [_,_,_],_=>rfl)
   (case a=>k_is);(case l=>k_is);(case c=>k_is);(case k=>k_is)
  have d_joined:L2.DefN (L2.KOf KX) mg "joined" K83.jO ["one", "other"]:=by
   dsimp only[L2.KOf]
   refine' L2.bN KX G ?a ?l ?c ?k (λ_ _ _ _ _ _ us hl=>match us,hl with | [_,_],_=>rfl)
   (case a=>k_is);(case l=>k_is);(case c=>k_is);(case k=>k_is)
  have d_is_net:L2.DefN (L2.KOf KX) mg "is_net" K83.jP ["thing"]:=by
   dsimp only[L2.KOf]
   refine' L2.bN KX G ?a ?l ?c ?k (λ_ _ _ _ _ _ us hl=>match us,hl with | [_],_=>rfl)
   (case a=>k_is);(case l=>k_is);(case c=>k_is);(case k=>k_is)
  have d_are_joins:L2.DefN (L2.KOf KX) mg "are_joins" K83.fG ["many", "joins"]:=by
   dsimp only[L2.KOf]
   refine' L2.bN KX G ?a ?l ?c ?k (λ_ _ _ _ _ _ us hl=>match us,hl with | [_,_],_=>rfl)
   (case a=>k_is);(case l=>k_is);(case c=>k_is);(case k=>k_is)
  have d_is_join:L2.DefN (L2.KOf KX) mg "is_join" K83.iJ ["rows", "join"]:=by
   dsimp only[L2.KOf]
   refine' L2.bN KX G ?a ?l ?c ?k (λ_ _ _ _ _ _ us hl=>match us,hl with | [_,_],_=>rfl)
   (case a=>k_is);(case l=>k_is);(case c=>k_is);(case k=>k_is)
  have d_are_outs:L2.DefN (L2.KOf KX) mg "are_outs" K83.fj ["things", "outs"]:=by
   dsimp only[L2.KOf]
   refine' L2.bN KX G ?a ?l ?c ?k (λ_ _ _ _ _ _ us hl=>match us,hl with | [_,_],_=>rfl)
   (case a=>k_is);(case l=>k_is);(case c=>k_is);(case k=>k_is)
  have d_own_rows:L2.DefN (L2.KOf KX) mg "own_rows" K83.fg ["many"]:=by
   dsimp only[L2.KOf]
   refine' L2.bN KX G ?a ?l ?c ?k (λ_ _ _ _ _ _ us hl=>match us,hl with | [_],_=>rfl)
   (case a=>k_is);(case l=>k_is);(case c=>k_is);(case k=>k_is)
  have d_joining:L2.DefN (L2.KOf KX) mg "joining" K83.iI ["one", "other"]:=by
   dsimp only[L2.KOf]
   refine' L2.bN KX G ?a ?l ?c ?k (λ_ _ _ _ _ _ us hl=>match us,hl with | [_,_],_=>rfl)
   (case a=>k_is);(case l=>k_is);(case c=>k_is);(case k=>k_is)
  have d_all_words:L2.DefN (L2.KOf KX) mg "all_words" K83.fH ["net", "words"]:=by
   dsimp only[L2.KOf]
   refine' L2.bN KX G ?a ?l ?c ?k (λ_ _ _ _ _ _ us hl=>match us,hl with | [_,_],_=>rfl)
   (case a=>k_is);(case l=>k_is);(case c=>k_is);(case k=>k_is)
  have d_rows_of:L2.DefN (L2.KOf KX) mg "rows_of" K83.iH ["net"]:=by
   dsimp only[L2.KOf]
   refine' L2.bN KX G ?a ?l ?c ?k (λ_ _ _ _ _ _ us hl=>match us,hl with | [_],_=>rfl)
   (case a=>k_is);(case l=>k_is);(case c=>k_is);(case k=>k_is)
  have d_first_cases:L2.DefN (L2.KOf KX) mg "first_cases" K83.d7 ["wish", "clean", "count"]:=by
   dsimp only[L2.KOf]
   refine' L2.bN KX G ?a ?l ?c ?k (λ_ _ _ _ _ _ us hl=>match us,hl with | [_,_,_],_=>rfl)
   (case a=>k_is);(case l=>k_is);(case c=>k_is);(case k=>k_is)
  have d_may_join:L2.DefN (L2.KOf KX) mg "may_join" K83.gT ["clean", "one", "other"]:=by
   dsimp only[L2.KOf]
   refine' L2.bN KX G ?a ?l ?c ?k (λ_ _ _ _ _ _ us hl=>match us,hl with | [_,_,_],_=>rfl)
   (case a=>k_is);(case l=>k_is);(case c=>k_is);(case k=>k_is)
  have d_tidied:L2.DefN (L2.KOf KX) mg "tidied" K83.iG ["net"]:=by
   dsimp only[L2.KOf]
   refine' L2.bN KX G ?a ?l ?c ?k (λ_ _ _ _ _ _ us hl=>match us,hl with | [_],_=>rfl)
   (case a=>k_is);(case l=>k_is);(case c=>k_is);(case k=>k_is)
  have d_first_alike:L2.DefN (L2.KOf KX) mg "first_alike" K83.d8 ["rows"]:=by
   dsimp only[L2.KOf]
   refine' L2.bN KX G ?a ?l ?c ?k (λ_ _ _ _ _ _ us hl=>match us,hl with | [_],_=>rfl)
   (case a=>k_is);(case l=>k_is);(case c=>k_is);(case k=>k_is)
  have d_leant_on:L2.DefN (L2.KOf KX) mg "leant_on" K83.fh ["net", "stands"]:=by
   dsimp only[L2.KOf]
   refine' L2.bN KX G ?a ?l ?c ?k (λ_ _ _ _ _ _ us hl=>match us,hl with | [_,_],_=>rfl)
   (case a=>k_is);(case l=>k_is);(case c=>k_is);(case k=>k_is)
  have d_tried:L2.DefN (L2.KOf KX) mg "tried" K83.mv ["wish", "clean", "count"]:=by
   dsimp only[L2.KOf]
   refine' L2.bN KX G ?a ?l ?c ?k (λ_ _ _ _ _ _ us hl=>match us,hl with | [_,_,_],_=>rfl)
   (case a=>k_is);(case l=>k_is);(case c=>k_is);(case k=>k_is)
  have d_is_tried:L2.DefN (L2.KOf KX) mg "is_tried" K83.gZ ["many", "count"]:=by
   dsimp only[L2.KOf]
   refine' L2.bN KX G ?a ?l ?c ?k (λ_ _ _ _ _ _ us hl=>match us,hl with | [_,_],_=>rfl)
   (case a=>k_is);(case l=>k_is);(case c=>k_is);(case k=>k_is)
  have d_least:L2.DefN (L2.KOf KX) mg "least" K83.mw ["wish", "clean"]:=by
   dsimp only[L2.KOf]
   refine' L2.bN KX G ?a ?l ?c ?k (λ_ _ _ _ _ _ us hl=>match us,hl with | [_,_],_=>rfl)
   (case a=>k_is);(case l=>k_is);(case c=>k_is);(case k=>k_is)
  have d_searched:L2.DefN (L2.KOf KX) mg "searched" K83.gS ["cases"]:=by
   dsimp only[L2.KOf]
   refine' L2.bN KX G ?a ?l ?c ?k (λ_ _ _ _ _ _ us hl=>match us,hl with | [_],_=>rfl)
   (case a=>k_is);(case l=>k_is);(case c=>k_is);(case k=>k_is)
  have d_searched_made:L2.DefN (L2.KOf KX) mg "searched_made" K83.df ["cases", "row"]:=by
   dsimp only[L2.KOf]
   refine' L2.bN KX G ?a ?l ?c ?k (λ_ _ _ _ _ _ us hl=>match us,hl with | [_,_],_=>rfl)
   (case a=>k_is);(case l=>k_is);(case c=>k_is);(case k=>k_is)
  have d_searched_next:L2.DefN (L2.KOf KX) mg "searched_next" K83.de ["cases", "free"]:=by
   dsimp only[L2.KOf]
   refine' L2.bN KX G ?a ?l ?c ?k (λ_ _ _ _ _ _ us hl=>match us,hl with | [_,_],_=>rfl)
   (case a=>k_is);(case l=>k_is);(case c=>k_is);(case k=>k_is)
  have d_net_of_rows:L2.DefN (L2.KOf KX) mg "net_of_rows" K83.cH ["wish", "clean", "known"]:=by
   dsimp only[L2.KOf]
   refine' L2.bN KX G ?a ?l ?c ?k (λ_ _ _ _ _ _ us hl=>match us,hl with | [_,_,_],_=>rfl)
   (case a=>k_is);(case l=>k_is);(case c=>k_is);(case k=>k_is)
  have d_first_joining:L2.DefN (L2.KOf KX) mg "first_joining" K83.cD ["things", "row", "clean"]:=by
   dsimp only[L2.KOf]
   refine' L2.bN KX G ?a ?l ?c ?k (λ_ _ _ _ _ _ us hl=>match us,hl with | [_,_,_],_=>rfl)
   (case a=>k_is);(case l=>k_is);(case c=>k_is);(case k=>k_is)
  have d_law_tape:L2.DefN (L2.KOf KX) mg "_law_tape" K83.gV ["_law_script"]:=by
   dsimp only[L2.KOf]
   refine' L2.bN KX G ?a ?l ?c ?k (λ_ _ _ _ _ _ us hl=>match us,hl with | [_],_=>rfl)
   (case a=>k_is);(case l=>k_is);(case c=>k_is);(case k=>k_is)
  have d_law_draw:L2.DefN (L2.KOf KX) mg "_law_draw" K83.gW ["_law_tape_here", "_law_many"]:=by
   dsimp only[L2.KOf]
   refine' L2.bN KX G ?a ?l ?c ?k (λ_ _ _ _ _ _ us hl=>match us,hl with | [_,_],_=>rfl)
   (case a=>k_is);(case l=>k_is);(case c=>k_is);(case k=>k_is)
  have d_law_reached:L2.DefN (L2.KOf KX) mg "_law_reached" K83.b7 ["_law_many", "_law_rows", "_law_clean_here"]:=by
   dsimp only[L2.KOf]
   refine' L2.bN KX G ?a ?l ?c ?k (λ_ _ _ _ _ _ us hl=>match us,hl with | [_,_,_],_=>rfl)
   (case a=>k_is);(case l=>k_is);(case c=>k_is);(case k=>k_is)
  have d_law_makes:L2.DefN (L2.KOf KX) mg "_law_makes" K83.dB ["_law_net", "_law_wish_here"]:=by
   dsimp only[L2.KOf]
   refine' L2.bN KX G ?a ?l ?c ?k (λ_ _ _ _ _ _ us hl=>match us,hl with | [_,_],_=>rfl)
   (case a=>k_is);(case l=>k_is);(case c=>k_is);(case k=>k_is)
  have d_law_clean:L2.DefN (L2.KOf KX) mg "_law_clean" K83.eC ["_law_net"]:=by
   dsimp only[L2.KOf]
   refine' L2.bN KX G ?a ?l ?c ?k (λ_ _ _ _ _ _ us hl=>match us,hl with | [_],_=>rfl)
   (case a=>k_is);(case l=>k_is);(case c=>k_is);(case k=>k_is)
  have d_law_fewest:L2.DefN (L2.KOf KX) mg "_law_fewest" K83.ck ["_law_wish_here", "_law_clean_here"]:=by
   dsimp only[L2.KOf]
   refine' L2.bN KX G ?a ?l ?c ?k (λ_ _ _ _ _ _ us hl=>match us,hl with | [_,_],_=>rfl)
   (case a=>k_is);(case l=>k_is);(case c=>k_is);(case k=>k_is)
  have d_law_wish:L2.DefN (L2.KOf KX) mg "_law_wish" K83.gU ["_law_tape_here"]:=by
   dsimp only[L2.KOf]
   refine' L2.bN KX G ?a ?l ?c ?k (λ_ _ _ _ _ _ us hl=>match us,hl with | [_],_=>rfl)
   (case a=>k_is);(case l=>k_is);(case c=>k_is);(case k=>k_is)
  have d_law:L2.DefN (L2.KOf KX) mg "law" K83.wg ["_law_script"]:=by
   dsimp only[L2.KOf]
   refine' L2.bN KX G ?a ?l ?c ?k (λ_ _ _ _ _ _ us hl=>match us,hl with | [_],_=>rfl)
   (case a=>k_is);(case l=>k_is);(case c=>k_is);(case k=>k_is)
  have B:L2.BI mg:=by
   refine' L2.Bz KX G ?z_len ?z_range ?z_isinstance ?z_int ?z_bool ?z_list ?z_tuple ?z_str ?z_sum ?z_all ?z_max ?z_min ?z_sorted ?z_set ?z_zip ?z_enumerate ?z_reversed ?z_dict ?z_any ?z_abs ?z_repr
   (case z_len=>k_is);(case z_range=>k_is);(case z_isinstance=>k_is);(case z_int=>k_is);(case z_bool=>k_is);(case z_list=>k_is);(case z_tuple=>k_is);(case z_str=>k_is);(case z_sum=>k_is);(case z_all=>k_is);(case z_max=>k_is);(case z_min=>k_is);(case z_sorted=>k_is);(case z_set=>k_is);(case z_zip=>k_is);(case z_enumerate=>k_is);(case z_reversed=>k_is);(case z_dict=>k_is);(case z_any=>k_is);(case z_abs=>k_is);(case z_repr=>k_is)
  have c_MOST_GIVENS:∃u,mg "MOST_GIVENS" = some u/\L2.RelV (.int 12) u:=by
   refine' ⟨_,DS KX G ?a,?b⟩
   (case a=>k_is)
   (case b=>exact⟨_,rfl⟩)
  have c_MOST_JOINS:∃u,mg "MOST_JOINS" = some u/\L2.RelV (.int 132) u:=by
   refine' ⟨_,DS KX G ?a,?b⟩
   (case a=>k_is)
   (case b=>exact⟨_,rfl⟩)
  have c_MOST_OUTS:∃u,mg "MOST_OUTS" = some u/\L2.RelV (.int 24) u:=by
   refine' ⟨_,DS KX G ?a,?b⟩
   (case a=>k_is)
   (case b=>exact⟨_,rfl⟩)
  have c_FEW_GIVENS:∃u,mg "FEW_GIVENS" = some u/\L2.RelV (.int 4) u:=by
   refine' ⟨_,DS KX G ?a,?b⟩
   (case a=>k_is)
   (case b=>exact⟨_,rfl⟩)
  have c_FEW_GIVENS_COUNT:∃u,mg "FEW_GIVENS_COUNT" = some u/\L2.RelV (.int 11) u:=by
   refine' ⟨_,DS KX G ?a,?b⟩
   (case a=>k_is)
   (case b=>exact⟨_,rfl⟩)
  have c_MORE_GIVENS:∃u,mg "MORE_GIVENS" = some u/\L2.RelV (.int 6) u:=by
   refine' ⟨_,DS KX G ?a,?b⟩
   (case a=>k_is)
   (case b=>exact⟨_,rfl⟩)
  have c_MORE_GIVENS_COUNT:∃u,mg "MORE_GIVENS_COUNT" = some u/\L2.RelV (.int 3) u:=by
   refine' ⟨_,DS KX G ?a,?b⟩
   (case a=>k_is)
   (case b=>exact⟨_,rfl⟩)
  have oc_Cases:∃C_Cases:Addr,L2.ClsO (L2.KOf KX) mg C_Cases "Cases" ["wished", "clean", "known", "shut", "left"]/\L2.DefM (L2.KOf KX) C_Cases "__init__" "Cases.__init__" K83.bw ["self", "wished", "clean", "known", "shut", "left"]/\L2.DefM (L2.KOf KX) C_Cases "with_row" "Cases.with_row" K83.bu ["self", "row", "shut"]/\L2.DefM (L2.KOf KX) C_Cases "lacking" "Cases.lacking" K83.bp ["self"]/\L2.DefM (L2.KOf KX) C_Cases "free_rows" "Cases.free_rows" K83.aY ["self"]/\L2.DefM (L2.KOf KX) C_Cases "lacks_too_many" "Cases.lacks_too_many" K83.aW ["self"]/\L2.DefM (L2.KOf KX) C_Cases "is_far" "Cases.is_far" K83.bf ["self", "row"]/\L2.DefM (L2.KOf KX) C_Cases "shown_by" "Cases.shown_by" K83.bY ["self", "paper"]/\L2.DefM (L2.KOf KX) C_Cases "shown_far" "Cases.shown_far" K83.bP ["self", "row"]/\L2.DefM (L2.KOf KX) C_Cases "shown_made" "Cases.shown_made" K83.bK ["self", "row", "paper"]/\L2.DefM (L2.KOf KX) C_Cases "shown_next" "Cases.shown_next" K83.bJ ["self", "papers"]:=by
   dsimp only[L2.KOf]
   refine' K83.sr KX G ?f0 ?f1 ?f2 ?f3 ?f4 ?f5 ?f6 ?na0 ?na1 ?na2 ?na3 ?na4 ?m0_0 ?m0_1 ?m0_2 ?m0_3 ?m0_4 ?m1_0 ?m1_1 ?m1_2 ?m1_3 ?m1_4 ?m2_0 ?m2_1 ?m2_2 ?m2_3 ?m2_4 ?m3_0 ?m3_1 ?m3_2 ?m3_3 ?m3_4 ?m4_0 ?m4_1 ?m4_2 ?m4_3 ?m4_4 ?m5_0 ?m5_1 ?m5_2 ?m5_3 ?m5_4 ?m6_0 ?m6_1 ?m6_2 ?m6_3 ?m6_4 ?m7_0 ?m7_1 ?m7_2 ?m7_3 ?m7_4 ?m8_0 ?m8_1 ?m8_2 ?m8_3 ?m8_4 ?m9_0 ?m9_1 ?m9_2 ?m9_3 ?m9_4
   (case f0=>k_is);(case f1=>k_is);(case f2=>k_is);(case f3=>k_is);(case f4=>k_is);(case f5=>k_is);(case f6=>k_is);(case na0=>k_is);(case na1=>k_is);(case na2=>k_is);(case na3=>k_is);(case na4=>k_is);(case m0_0=>k_is);(case m0_1=>k_is);(case m0_2=>k_is);(case m0_3=>k_is);(case m0_4=>k_is);(case m1_0=>k_is);(case m1_1=>k_is);(case m1_2=>k_is);(case m1_3=>k_is);(case m1_4=>k_is);(case m2_0=>k_is);(case m2_1=>k_is);(case m2_2=>k_is);(case m2_3=>k_is);(case m2_4=>k_is);(case m3_0=>k_is);(case m3_1=>k_is);(case m3_2=>k_is);(case m3_3=>k_is);(case m3_4=>k_is);(case m4_0=>k_is);(case m4_1=>k_is);(case m4_2=>k_is);(case m4_3=>k_is);(case m4_4=>k_is);(case m5_0=>k_is);(case m5_1=>k_is);(case m5_2=>k_is);(case m5_3=>k_is);(case m5_4=>k_is);(case m6_0=>k_is);(case m6_1=>k_is);(case m6_2=>k_is);(case m6_3=>k_is);(case m6_4=>k_is);(case m7_0=>k_is);(case m7_1=>k_is);(case m7_2=>k_is);(case m7_3=>k_is);(case m7_4=>k_is);(case m8_0=>k_is);(case m8_1=>k_is);(case m8_2=>k_is);(case m8_3=>k_is);(case m8_4=>k_is);(case m9_0=>k_is);(case m9_1=>k_is);(case m9_2=>k_is);(case m9_3=>k_is);(case m9_4=>k_is)
  refine L2.y0 d_law hmg λbase=>?_
  exact K83.fin d_wall d_is_whole d_is_tuple d_joined d_is_net d_are_joins d_is_join d_are_outs d_own_rows d_joining d_all_words d_rows_of d_first_cases d_may_join d_tidied d_first_alike d_leant_on d_tried d_is_tried d_least d_searched d_searched_made d_searched_next d_net_of_rows d_first_joining d_law_tape d_law_draw d_law_reached d_law_makes d_law_clean d_law_fewest d_law_wish d_law c_MOST_GIVENS c_MOST_JOINS c_MOST_OUTS c_FEW_GIVENS c_FEW_GIVENS_COUNT c_MORE_GIVENS c_MORE_GIVENS_COUNT oc_Cases B
#print axioms PySem.Challenge.cw_fewjoins_k83_fewest_of_three_givens_holds

