import PyProof.Rows.All
import Wide.All
import OpenK.AllK
import Wide.FinOn
import Lean
import PyProof.EqAt
import PyProof.EqKinds
import PyProof.TupleCall
import PyProof.NeKinds
import PyProof.ListMulAny
import PyProof.Rows.CallKwBuiltin
import PyProof.MinMaxWalk
import PyProof.SeqI3
import PyProof.Rows.TupAdd
import PyProof.MeetsDict
import PyProof.DictList
import PyProof.ZipIter
import PyProof.Rows.ZipGen
import PyProof.ListRange
import PyProof.TupleOfStr
import PyProof.Rows.FStr
import PyProof.Rows.StrJoin2
import PyProof.Rows.Range3
import PyProof.EnumMake
import PyProof.EnumFor
import PyProof.EnumStmt
import KE.KUnpackStar
import KE.KDictList
import PyProof.Rows.SortWalk
import KE.RegKIsAll
import PyProof.NsDelKeeps
import PyProof.Rows.CountFlat
import KE.KRevIter
import PyProof.Draws
import PyProof.ExcInit
import PyProof.InstStoreFacts
import PyProof.DictCompW
import PyProof.DictIter
import PyProof.DictWalks
import PyProof.Rows.SetFrom
import PyProof.SetRoads
import KE.KDictOf
import PyProof.Rows.SortShellK
import PyProof.ReprRoads
import PyProof.CallFns
import PyProof.DictUpdate
import KE.KDictLaws
import PySem.Challenge.RW_fewjoins_k84_fewest_of_four_givens
open Array renaming getElem?_eq_getElem→C8,length_toList→Do,getElem?_toList→ET,getElem_toList→F1,toList_push→GB,getElem?_eq_none→HY,getD→IM,toList→J7
open Bool renaming and_eq_true→BX,false_ne_true→Ca,not_eq_true→C0,not_eq_true'→C3,true_and→DD,eq_false_iff→D1,false_and→D8,eq_iff_iff→Eh,false_eq_true→EH,and_false→Fv,or_eq_true→FU,or_false→Gm,and_true→HS,not_false→JR,not_true→J5,false_or→J6
open Classical renaming byContradiction→Eo
open False renaming elim→DS
open Iff renaming rfl→Hx
open Int renaming toNat_natCast→CB,eq_ofNat_of_zero_le→C6,zero_add→FT,le_of_lt→GV,ediv_nonneg→Hl,ofNat_inj→HW,natCast_nonneg→Jj,emod_lt_of_pos→Jk,emod_nonneg→JQ,ne_of_gt→Ku
open List renaming getElem?_eq_getElem→bv,length_map→f8,getD_eq_getElem?_getD→ga,mem_append_right→im,getElem?_eq_some_iff→kt,size_toArray→on,replicate→o0,mem_singleton→sn,contains_iff_mem→sB,mem_cons→sK,range→wl,getElem?_map→wv,map_cons→wE,length_append→wP,mem_append→xL,length_cons→At,mem_filter→AC,mem_cons_of_mem→BV,mem_append_left→BW,getElem?_append_left→BY,mem_cons_self→B2,map_map→B3,length_take→B6,map_append→Cb,append_nil→Cc,mem_of_getElem?→Cd,getElem?_set_ne→Ce,drop_eq_getElem_cons→Cf,mem_map→Ch,getElem?_append_right→Ci,append_assoc→Ck,mem_range→Cn,getElem?_drop→Co,take_length→Cp,not_mem_nil→Cr,length_filter_le→CD,take_add_one→CG,drop_eq_nil_of_le→CH,find?_cons→CO,getElem?_replicate→CP,take_of_length_le→CS,find?_cons_of_neg→CT,getElem_of_mem→C1,nodup_append→C_,length_range→Db,length_replicate→Dd,lookup_cons→Dg,pairwise_lt_range→Dm,map_nil→Dn,pairwise_iff_getElem→Dw,getElem?_eq_none→Dy,pairwise_cons→Dz,any_eq_true→DA,any_cons→DC,getElem?_cons_zero→DJ,ext_getElem?→DK,range_succ→DL,getElem_mem→DQ,all_eq_true→DR,length_singleton→DV,drop_left'→D0,filter_sublist→D6,filterMap_cons→D7,getElem?_set_self→Ed,nodup_cons→Ef,foldl_cons→Eg,take_append_drop→Ek,lookup→Es,map_congr_left→Ez,foldl_append→EO,find?_cons_of_pos→EQ,map_take→E2,take_append_of_le_length→E4,eq_nil_of_length_eq_zero→E5,drop_eq_nil_iff→E6,length_reverse→Fd,length_pos_iff→Fe,getElem?_range→Ff,flatMap_append→Fg,idxOf_lt_length_of_mem→Fi,filter_append→Fu,flatMap_cons→Fz,getElem?_take_of_lt→FC,all_cons→FD,filter_cons_of_pos→FJ,filter_cons_of_neg→FK,length_nil→FS,pairwise_append→F2,getElem_toArray→F3,getElem_idxOf→Go,pairwise_map→GH,getElem_take→GI,find?_append→GJ,any_map→GK,mem_flatMap→GX,flatMap_nil→GY,filter_cons→GZ,drop_length→G0,of_mem_zip→G8,length_set→G9,find?_some→G_,nodup_nil→Hr,nodup_iff_pairwise_ne→Hs,length_eraseIdx_of_lt→Ht,drop_zero→Hu,mem_of_find?_eq_some→HB,exists_mem_of_ne_nil→HC,set_eq_of_length_le→HN,length_erase_of_mem→HP,mem_of_mem_erase→Iw,getElem?_reverse→Ix,perm_cons_erase→IA,mem_of_mem_take→IC,ne_nil_of_mem→I0,mem_filterMap→I_,filter_filter→Ja,filter_congr→Ji,map_flatMap→Jp,length_drop→Jq,isEmpty_iff→Jr,nil_append→JB,filter_nil→JC,take_zero→JP,any_nil→Kd,all_map→Ke,map_id→Kr,length→Ks
open List.Nodup renaming length_le_of_subset→Cj
open List.Pairwise renaming filter→Eb,and→Hw,sublist→Kt
open List.Perm renaming append_left→Hv
open List.cons renaming injEq→EU
open Nat renaming le_refl→lm,ne_of_lt→ww,le_trans→xz,lt_of_lt_of_le→zn,zero_le→B0,lt_or_ge→B7,le_of_lt→CN,mod_two_eq_zero_or_one→CQ,ne_of_gt→CW,zero_add→C5,lt_trichotomy→Dp,lt_succ_self→DB,lt_trans→DO,xor_comm→D3,lt_irrefl→D4,lt_succ_of_lt→Em,testBit_zero→Ex,xor_assoc→ED,testBit_xor→EG,le_succ→EJ,testBit_and→Fb,min_eq_left→Fc,xor_zero→Fp,xor_self→Fq,le_of_eq→Fs,lt_of_le_of_lt→Fx,min_eq_right→FM,pow_le_pow_right→F8,mul_le_mul→F9,eq_of_testBit_eq→F_,pos_of_ne_zero→Gz,sub_zero→GQ,one_shiftLeft→GR,le_total→GS,and_comm→GU,zero_testBit→G5,not_lt_zero→Hk,zero_xor→Iu,sub_self→Iv,pow_lt_pow_right→IJ,not_succ_le_zero→IK,succ_ne_self→Jx,succ_le_succ→Jy,shiftLeft_eq→Jz,max_eq_right→JA,strongRecOn→JN,max_eq_left→JO,add_assoc→Kc,add_zero→Kq,one_mul→KD,add_mul→KG
open Ne renaming symm→Dq
open Option renaming map_eq_some_iff→BZ,toList_some→DP,map_some→FL,isSome_map→Gn,getD_none→IZ
open Option.some renaming injEq→Cv,inj→Di
open Prod renaming fst→B1,snd→Cm
open Prod.mk renaming injEq→Ew
open PyProof.Rows renaming callWith_type1→Cy,step_dedup→El,IntsAre→EE,callWith_builtin1→EF,envOfC→E9,firstMet→Fm,AllBare→Ga,Call_→HR,subscriptTail→IE,firstMet_succ→IF,subscriptTail_builtinR→Jd,firstMet_length_le→JV,Subscript_→JZ
open PyProof.Rows.F renaming plain_set_update_loop→Ee,entry_set_update_loop→FA
open PyProof.Rows.IntsAre renaming length→G6
open PySem renaming wpAny_bind→bm,Value→bn,Shared→ca,wpAny_pure→dL,wpAny→li,model→pc,Program→wS,sizeLine→wT,starEach→B4,mainGlobals→B9,World→B_,Around→Cg,bootBuiltins→CA,codeAny→CY,mem_of_lookup→CZ,wpAny_standAt→C4,foldedSetIterable→C7,letOwnedTupleGo→Dh,wpAny_setField_rec→Dj,wpAny_call_entry→Dl,wpAny_truthy_bool→Dr,wpAny_newObj_type→Ds,wpAny_mono→Dt,compareOp→Dx,Scope→DF,wpAny_askSetting→DG,wpAny_holding→DH,wpAny_comprehension_free→DI,wpAny_callSpecial?_slot→DM,intKind→DN,rawInt→DT,wpAny_rule→DX,SetTable→DY,codeAny_builtin→D5,sysModules→D9,backTo→D_,assign→Ea,wpAny_field→Ei,wpAny_passesOwn→Er,pyNext→Et,wpAny_setState_of→Eu,standAt→Ev,NameKind→EA,scanBound→EB,codeAny_mono→EC,plainId_quiet→EK,wpAny_updateSeq→EM,valueAt→EN,wpAny_pyIter_enum→EV,fits_of_scanBound→EW,cLine→EX,binaryOp→EY,Result→E1,FuncData→E3,builtinLookup_eq_fast→E8,closureFor→E_,assignEach→Fa,behindInMarks→Fh,wpAny_newFunctionEnv→Fj,sliceBounds→Fk,keywordEach→Fl,theTreesLotGoes→Fw,wpAny_pyIter_tuple→FE,wpAny_Call_Name_kw→FF,tupleKind_room_in1→FG,isTrue→FH,wpAny_assign_Name→FN,sizeLine_eq→FO,comprehension→FP,attributeBase→FQ,wpAny_isInstance→FV,swapsWith→FW,noteFrame→FX,compTurn→FY,holding→F4,codeAny_loop→F5,wpAny_specialOf→Gb,wpAny_execs_nil→Gc,typeLookup_type→Gd,codeAny_of_tree→Ge,exec_Assign_Name_used→Gf,wpAny_seqItems→Gq,wpAny_noted→Gr,relayAll→Gs,pyIter→Gu,newFunctionEnv→Gv,backToKw→Gw,list_append→Gx,updateSeq→GC,relabel→GD,getMethod→GF,callerA→GG,wpAny_setEntries_of→GN,wpAny_attempt→GW,typeLookup→G2,setsByText→G3,wpAny_pyIter_list→Hc,setNext→Hd,compPost→Hf,tupleKind→Hy,stored→Hz,IsEnum→HD,wpAny_of_eq→HG,subscripted→HH,wpAny_ite_split→HU,Within→HV,getItem→HZ,Keyword→H_,BindsTo→Ic,wpAny_letOwnedTupleGo_enum→Ie,isSubtype_type→Ig,isSubtype_stop→Ih,intKind_is→Ii,dictSetDefault→Ij,compEnvC→Ik,call_meets→Il,bindArgs→Im,atKey→Io,again→Ip,Paired→Ir,call→IG,wpAny_pyNext_enum_itemD→IP,field→IQ,drawOrder→IR,compStart→IS,bindL→IT,bindC→IU,wpAny_typeOf→Jb,wpAny_pyNext_enum_endD→Jc,spliced→Je,newList→Jf,codeAny_compStart_list→Jg,ElemsOf→Jl,wpAny_isTrue_Compare1→Jm,wpAny_pyIter_revIter→Jt,wpAny_loadName_local→Ju,callWith→Jv,GenState→JD,CmpOp→JE,wpAny_loadName_cell→JL,wpAny_load→JS,wpAny_call→JT,wpAny_Name→JU,findBy_of_findIdx?→JW,cellOf→JX,builtinsNs→JY,wpAny_storeSet_of→J8,wpAny_pyIter_slot→J9,slot_list_getitem→J_,Draws→Kg,wpAny_execs_cons→Kh,storeName→Ki,seqItems?→Kj,pickOrder→Kk,cellsFrom→Kl,theWindowsPlace→Kx
open PySem.Around renaming under_plainId→DE,under→Gp
open PySem.Builtin renaming bitAnd→CM,bitXor→EI,bitOr→Js
open PySem.Builtin.Dict renaming keyAndDefault→KJ
open PySem.Builtin.Frozenset renaming updateFrom→JF,slot0→JG,sizeOf→JH,oneOther→JI,newClass→JJ,addrOf→JK
open PySem.Builtin.List renaming listExtendWith→De,listSameRef→Ep,listLengthHint→ES,listItems→G1,listUpdate→KH,listTouch→KI
open PySem.Builtin.Range renaming rangeSize→GL
open PySem.Builtin.SmallTypes renaming ownedTupleIsFree→Fy
open PySem.Calls renaming spliced_cons→Ec,spliced_nil→EL,Name_function_global→Hm,callWith_builtin→HX,evalArgs_plain→Iy
open PySem.Code renaming isFrame→Ib,frames→Kw
open PySem.F renaming plainAttrs_list→CC,type_list_append→CJ,slot_list_append→CK,called_set→Du,plain_extend_loop→DU,slot_tuple_iterator_next→Ey,slot_enumerate_next→E7,args_list_append_2→Gk,entry_list_append→GA,slot_dict_setdefault→GP,entry_extend_loop→G7,slot_dict_update→Hj,slot_list_index→Hn,plain_list_iadd→Ho,plainAttrs_dict→Hq,args_tuple_iterator_next_1→HF,slot_set_iter→HL,plain_set_new→HM,entry_tuple_iterator_next→HQ,args_enumerate_next_1→ID,entry_enumerate_next→IL
open PySem.Heap renaming get?_push_of_some→db,lt_size→lc,get?_push_size→wn,SameBut→Cw,size_push→CI,get?_update_other→CU,get?_update_self→C2,dictOf_iff→Ha,ExtBut→Kv
open PySem.Heap.DictOf renaming new→Ia
open PySem.Heap.IsSliceOf renaming new→Kf
open PySem.Heap.SameBut renaming update→Df,refl→HE
open PySem.IsL renaming update→Gj
open PySem.Obj renaming mapSeq→C9,putSet→Gy,data_mapDictKeys→II,data_mapFields→Jh
open PySem.Paired renaming length→F7,snoc→J0
open PySem.PassesOwn renaming never→Cz
open PySem.SeqAt renaming EqAt→Fo,RcAt→Hi
open PySem.SeqAt.EqAt renaming str_int→HI,int_str→HJ
open PySem.SeqAt.RcNeAt renaming tuples→Ky,lists_lengths→Kz,lists→KA
open PySem.SetTable renaming below→Cu,grown→Ej,fresh→IW,Probe→IX
open PySem.SetTable.Met.empty renaming injEq→Jn
open PySem.SetTable.below renaming go→EZ
open PySem.SetTable.probe renaming go→Hg
open PySem.Shared renaming TypeIs→Jw
open PySem.Str renaming ofString→Fn
open PySem.Value renaming isInt_shape→IV,isStrOf→JM,isInt→Kb
open PySem.W renaming Frag→bi,mg_none_of→B5,findIn→B8,keepIn→Cq,nsIn→Ct,fnOf→CF,codeIn→CL,kia_one→CV,isFn→Dc,emptyDict→Dk,instObj→DW,mg_of→DZ,plainGet→ER,hasDictIn→Ft,makesIn→FI,lookIn→FR,plainGet_of→FZ,callWith_K→F6,plainOver→Gg,methodObj→Gh,kitx_list→Gi,takerIn→GO,kitOne→G4,cellsFrom_some→HA,methodCall_KW→HK,kitx_tuple→Iq,kitx_dict→Iz,handedIn→IH,OpenLaw→IY,WalkO→Jo
open PySem.W.Looks renaming here→Kn
open PySem.W.WShape renaming has→Ka
open PySem.Walks renaming list→Km
open PySem.Within renaming cons→KC
open PySem.pickOrder renaming go→He
set_option Elab.async false
set_option linter.all false
set_option maxRecDepth 100000
namespace L2
open PySem PySem.Spec PyProof.Rows
abbrev Key:=Sum Int Str
def sR:Key->bn->Bool
 | .inl k,v=>Kb k v
 | .inr x,v=>JM x v
def keyH (w:B_):Key->Int
 | .inl k=>hashInt k
 | .inr x=>hashStr w x
theorem b_:∀ {k:Key} {v:bn},sR k v=true->(∃i t,k=Sum.inl i/\v=Value.int i t)∨(∃x t,k=Sum.inr x/\v=Value.str x t)
 | .inl i,v,h=>by
  obtain⟨t,e⟩:=IV (k:=i) (v:=v) h
  exact .inl ⟨i,t,rfl,e⟩
 | .inr x,v,h=>by
  obtain⟨t,e⟩:=Value.isStrOf_shape (x:=x) (v:=v) h
  exact .inr ⟨x,t,rfl,e⟩
theorem u0 (i:Int)(t:Tok):sR (.inl i) (.int i t)=true:=by simp[sR,Kb]
theorem uZ (x:Str)(t:Tok):sR (.inr x) (.str x t)=true:=by simp[sR,JM]
theorem AK (a b:Int):decide ((Sum.inl a:Key)=Sum.inl b)=(a==b):=by
 by_cases e:a=b
 ·subst e;simp
 ·have h:¬(Sum.inl a:Key)=Sum.inl b:=λq=>e (Sum.inl.inj q)
  rw[decide_eq_false h]
  exact(beq_eq_false_iff_ne.mpr e).symm
theorem AF (a b:Str):decide ((Sum.inr a:Key)=Sum.inr b)=decide (a=b):=by
 by_cases e:a=b
 ·subst e;simp
 ·have h:¬(Sum.inr a:Key)=Sum.inr b:=λq=>e (Sum.inr.inj q)
  rw[decide_eq_false h,decide_eq_false e]
theorem AJ (a:Int)(b:Str):decide ((Sum.inl a:Key)=Sum.inr b)=false:=decide_eq_false (λq=>nomatch q)
theorem AH (a:Str)(b:Int):decide ((Sum.inr a:Key)=Sum.inl b)=false:=decide_eq_false (λq=>nomatch q)
def bG (prog:wS)(w:B_):PySem.KeyKind prog w Key where
 is:=sR
 hash:=keyH w
 inj:=λv a b ha hb=>by
  rcases b_ ha with⟨i,t,rfl,rfl⟩ | ⟨x,t,rfl,rfl⟩
  ·rcases b_ hb with⟨j,u,rfl,e⟩ | ⟨y,u,rfl,e⟩
   ·injection e with e1 _;rw[e1]
   ·exact nomatch e
  ·rcases b_ hb with⟨j,u,rfl,e⟩ | ⟨y,u,rfl,e⟩
   ·exact nomatch e
   ·injection e with e1 _;rw[e1]
 byValue:=λk v h=>by
  rcases b_ h with⟨i,t,rfl,rfl⟩ | ⟨x,t,rfl,rfl⟩ <;> rfl
 pyHash:=λhv h=>by
  rcases b_ hv with⟨i,t,rfl,rfl⟩ | ⟨x,t,rfl,rfl⟩
  ·exact wpAny_pyHash_int h
  ·exact wpAny_pyHash_str h
 eqBool:=λhu hv h=>by
  rcases b_ hu with⟨i,t,rfl,rfl⟩ | ⟨x,t,rfl,rfl⟩
  ·rcases b_ hv with⟨j,u,rfl,rfl⟩ | ⟨y,u,rfl,rfl⟩
   ·rw[AK]at h;exact wpAny_eqBool_int h
   ·rw[AJ]at h;exact HJ i t y u _ _ _ _ h
  ·rcases b_ hv with⟨j,u,rfl,rfl⟩ | ⟨y,u,rfl,rfl⟩
   ·rw[AH]at h;exact HI x t j u _ _ _ _ h
   ·rw[AF]at h;exact wpAny_eqBool_str h
 «strs»:=λk x t v h=>by
  rcases b_ h with⟨i,u,rfl,e⟩ | ⟨y,u,rfl,e⟩
  ·exact nomatch e
  ·injection e with e1 _
   subst e1
   cases v <;> rfl
theorem qi (prog:wS)(w:B_)(i:Int)(t:Tok):(bG prog w).is (.inl i) (.int i t)=true:=u0 i t
theorem qh (prog:wS)(w:B_)(x:Str)(t:Tok):(bG prog w).is (.inr x) (.str x t)=true:=uZ x t
inductive V where
 | non | bl (b:Bool) | int (i:Int) | str (x:Str) | byt (b:Array UInt8) | flt (b:UInt64) | ref (a:Addr) | ty (n:String)
 deriving DecidableEq
def RelV:V->bn->Prop
 | .non,u=>u=Value.none
 | .bl b,u=>u=Value.bool b
 | .int i,u=>∃t,u=Value.int i t
 | .str x,u=>∃t,u=Value.str x t
 | .byt b,u=>∃t,u=Value.bytes b t
 | .flt b,u=>∃t,u=Value.float b t
 | .ref a,u=>u=Value.ref a
 | .ty n,u=>u=Value.type n
abbrev Vals:List V->List bn->Prop:=Ir RelV
theorem Vals.length {xs:List V}{us:List bn}(r:Vals xs us):xs.length=us.length:=F7 r
theorem Vals.get:∀ {xs:List V} {us:List bn} {i:Nat} {x:V},Vals xs us->xs[i]? = some x->∃u,us[i]? = some u/\RelV x u
 | _,_,_,_,.nil,e=>by simp at e
 | _,_,0,_,.cons r _,e=>by simp at e;subst e;exact⟨_,rfl,r⟩
 | _,_,i+1,x,.cons _ t,e=>by
  obtain⟨u,h1,h2⟩:=Vals.get (i:=i) (x:=x) t (by simpa using e)
  exact⟨u,by simpa using h1,h2⟩
theorem Vals.append:∀ {xs ys:List V} {us ws:List bn},Vals xs us->Vals ys ws->Vals (xs++ys) (us++ws)
 | _,_,_,_,.nil,s=>s
 | _,_,_,_,.cons r t,s=>.cons r (Vals.append t s)
theorem Vals.take:∀ {xs:List V} {us:List bn} (n:Nat),Vals xs us->Vals (xs.take n) (us.take n)
 | _,_,0,_=>.nil
 | _,_,_+1,.nil=>.nil
 | _,_,n+1,.cons r t=>.cons r (Vals.take n t)
theorem Vals.drop:∀ {xs:List V} {us:List bn} (n:Nat),Vals xs us->Vals (xs.drop n) (us.drop n)
 | _,_,0,r=>r
 | _,_,_+1,.nil=>.nil
 | _,_,n+1,.cons _ t=>Vals.drop n t
def RelO:Option V->Option bn->Prop
 | some v,some u=>RelV v u
 | none,none=>True
 | _,_=>False
def KV {κ:Type}:List (κ×V)->List (κ×bn)->Prop:=Ir λ(p:κ×V) (q:κ×bn)=>p.1=q.1/\RelV p.2 q.2
def kV:Key->V
 | .inl i=>.int i
 | .inr x=>.str x
inductive HO where
 | lst (xs:List V)
 | tup (xs:List V)
 | dK (kvs:List (Key×V)) | dT (kvs:List (List Key×V))
 | set (S:Int->Bool) (n:Nat)
 | ins (C dx:Addr) (fs:List (Str×V))
 | own (x:Addr)
 | xd (fs:List (Str×V))
 | met (f x:Addr)
 | rng (lo hi:Int)
 | frz (o:Obj) (u:HO)
 | tbl (ps:Array bn)
 | ext (φ:Heap->Prop)
 | big (ps:List Addr) (φ:wS->B_->Heap->Prop)
abbrev Hp:=Addr->Option HO
def upd (H:Hp)(a:Addr)(o:HO):Hp:=λb=>if b=a then some o else H b
theorem aR {H:Hp}{a:Addr}{o:HO}:upd H a o a=some o:=by unfold upd;rw[if_pos rfl]
theorem aQ {H:Hp}{a b:Addr}{o:HO}(h:b≠a):upd H a o b=H b:=by unfold upd;rw[if_neg h]
theorem i7 {H:Hp}{a:Addr}{o u:HO}:upd (upd H a o) a u=upd H a u:=by
 funext b;unfold upd;split <;> rfl
theorem y0 {H:Hp}{a b:Addr}{o u:HO}(h:H a=some o)(h':H b=some u)(d:o≠u):a≠b:=by
 intro e;subst e;rw[h]at h';exact d (Di h')
theorem bb {H:Hp}{a b:Addr}{o:HO}(h:H a=some o)(h':H b=none):a≠b:=by
 intro e;subst e;rw[h]at h';cases h'
section
variable (P:wS)(w:B_)
def cL (H:Hp)(h:Heap)(a:Addr):HO->Prop
 | .lst xs=>xs.length<=wT/\∃(its:List bn) (n:Nat),Vals xs its/\h.get? a=some {cls:=.type "list",data:=.seq its.toArray n}
 | .tup xs=>xs.length<=wT/\∃its:List bn,Vals xs its/\IsTup h a its.toArray
 | .dK kvs=>kvs.length<=wT/\(a==D9)=false/\∃vs,KV kvs vs/\h.DictOf (bG P w) a vs
 | .dT kvs=>kvs.length<=wT/\(a==D9)=false/\∃xs:List (List Key×Addr×bn),
   Ir (λ(p:List Key×V) (q:List Key×Addr×bn)=>p.1=q.1/\H q.2.1=some (.tup (p.1.map kV))/\RelV p.2 q.2.2) kvs xs /\
   ∃o es ep,h.get? a=some o/\o.ExactDict/\o.data = .dict es ep/\es.toList=xs.map (entryOfKey (Hy (bG P w)))/\(xs.map (·.1)).Nodup
 | .set S n=>h.SetOf (DN P w) a S n
 | .ins C dx fs=>H dx=some (.own a)/\fs.length<=1000/\dx≠a/\h.get? a=some (DW C dx) /\
   ∃mA,h.Ns1 dx mA/\(∀f,RelO (fs.lookup f) (mA f))/\HV mA (fs.map (·.1))
 | .own _=>∃o,h.get? a=some o
 | .xd fs=>∃mA,h.Ns1 a mA/\∀f,RelO (fs.lookup f) (mA f)
 | .rng lo hi=>∃t u v,h.get? a=some {cls:=.type "range",data:=.fields #[.int lo t,.int hi u,.int 1 v]}
 | .frz o u=>h.get? a=some o/\cL H h a u
 | .tbl ps=>h.get? a=some {cls:=.none,data:=.fields ps}
 | .met f x=>h.get? a=some (Gh (.ref f) (.ref x))
 | .ext φ=>φ h/\(∃o,h.get? a=some o)/\∀h1 h2:Heap,φ h1->(∀o,h1.get? a=some o->h2.get? a=some o)->φ h2
 | .big ps φ=>(∀p∈ps,p≠a/\H p=some (.own a))/\φ P w h/\(∃o,h.get? a=some o)/\∀h1 h2:Heap,φ P w h1->(∀b o,(b=a∨b∈ps)->h1.get? b=some o->h2.get? b=some o)->φ P w h2
def HOk (H:Hp)(h:Heap):Prop:=∀a o,H a=some o->cL P w H h a o
end
section
variable {P:wS}{w:B_}{H H':Hp}{h h':Heap}{a:Addr}{o:HO}
theorem cL.lt (x:cL P w H h a o):a<h.objs.size:=by
 cases o with
 | lst xs=>obtain⟨_,_,_,_,e⟩:=x;exact lc e
 | tup xs=>obtain⟨_,_,_,p⟩:=x;exact p.lt
 | dK kvs=>obtain⟨_,_,_,_,o,_,_,e,_⟩:=x;exact lc e
 | dT kvs=>obtain⟨_,_,_,_,o,_,_,e,_⟩:=x;exact lc e
 | set S n=>obtain⟨o,_,_,_,e,_⟩:=x;exact lc e
 | ins C dx fs=>obtain⟨_,_,_,e,_⟩:=x;exact lc e
 | own y=>obtain⟨_,e⟩:=x;exact lc e
 | xd fs=>obtain⟨_,⟨_,_,_,e,_⟩,_⟩:=x;exact lc e
 | rng lo hi=>obtain⟨_,_,_,e⟩:=x;exact lc e
 | frz ob u=>obtain⟨e,_⟩:=x;exact lc e
 | tbl ps=>exact lc (show h.get? a=some _ from x)
 | met f y=>exact lc (show h.get? a=some _ from x)
 | ext φ=>obtain⟨_,⟨_,e⟩,_⟩:=x;exact lc e
 | big ps φ=>obtain⟨_,_,⟨_,e⟩,_⟩:=x;exact lc e
theorem Paired.mapP {α β:Type}{F G:α->β->Prop}:∀ {l₁:List α} {l₂:List β},Ir F l₁ l₂->(∀a b,F a b->G a b)->Ir G l₁ l₂
 | _,_,.nil,_=>.nil
 | _,_,.cons r t,f=>.cons (f _ _ r) (Paired.mapP t f)
theorem cL.stay (x:cL P w H h a o)(k:∀b u,(b=a∨H b=some (.own a))->h.get? b=some u->h'.get? b=some u)
  (ho:∀b,H b=some (.own a)->H' b=some (.own a)) (ht:∀b xs,H b=some (.tup xs)->H' b=some (.tup xs)):cL P w H' h' a o:=by
 induction o with
 | lst xs=>obtain⟨z,its,n,r,e⟩:=x;exact⟨z,its,n,r,k _ _ (.inl rfl) e⟩
 | tup xs=>obtain⟨z,its,r,ob,e,c⟩:=x;exact⟨z,its,r,ob,k _ _ (.inl rfl) e,c⟩
 | dK kvs=>obtain⟨z,y,vs,r,ob,es,ep,e,c⟩:=x;exact⟨z,y,vs,r,ob,es,ep,k _ _ (.inl rfl) e,c⟩
 | dT kvs =>
  obtain⟨z,y,xs,r,ob,es,ep,e,c⟩:=x
  exact⟨z,y,xs,Paired.mapP r λp q z=>⟨z.1,ht _ _ z.2.1,z.2.2⟩,ob,es,ep,k _ _ (.inl rfl) e,c⟩
 | set S n=>obtain⟨ob,es,ep,t,e,c⟩:=x;exact⟨ob,es,ep,t,k _ _ (.inl rfl) e,c⟩
 | ins C dx fs =>
  obtain⟨d,z,ne,e,mA,⟨od,es,ep,e2,c⟩,r⟩:=x
  exact⟨ho _ d,z,ne,k _ _ (.inl rfl) e,mA,⟨od,es,ep,k _ _ (.inr d) e2,c⟩,r⟩
 | own y=>obtain⟨ob,e⟩:=x;exact⟨ob,k _ _ (.inl rfl) e⟩
 | xd fs=>obtain⟨mA,⟨od,es,ep,e,c⟩,r⟩:=x;exact⟨mA,⟨od,es,ep,k _ _ (.inl rfl) e,c⟩,r⟩
 | rng lo hi=>obtain⟨t,u,v,e⟩:=x;exact⟨t,u,v,k _ _ (.inl rfl) e⟩
 | frz ob u ih=>obtain⟨e,q⟩:=x;exact⟨k _ _ (.inl rfl) e,ih q⟩
 | tbl ps =>
  have e:h.get? a=some {cls:=.none,data:=.fields ps}:=x
  show h'.get? a=some {cls:=.none,data:=.fields ps}
  exact k a _ (.inl rfl) e
 | met f y =>
  have e:h.get? a=some (Gh (.ref f) (.ref y)):=x
  show h'.get? a=some (Gh (.ref f) (.ref y))
  exact k a _ (.inl rfl) e
 | ext φ=>obtain⟨p,⟨o,e⟩,st⟩:=x;exact⟨st _ _ p λo q=>k _ _ (.inl rfl) q,⟨o,k _ _ (.inl rfl) e⟩,st⟩
 | big ps φ=>obtain⟨ow,p,⟨o,e⟩,st⟩:=x;exact⟨λb hb=>⟨(ow b hb).1,ho _ (ow b hb).2⟩,st _ _ p λb o hb q=>k _ _ (hb.imp id λz=>(ow b z).2) q,⟨o,k _ _ (.inl rfl) e⟩,st⟩
theorem HOk.lt (x:HOk P w H h)(e:H a=some o):a<h.objs.size:=(x a o e).lt
theorem HOk.fresh (x:HOk P w H h)(e:h.objs.size<=a):H a=none:=by
 cases q:H a with
 | none=>rfl
 | some u=>exact absurd (zn (x.lt q) e) (D4 _)
theorem HOk.kept (x:HOk P w H h)(k:∀b u,h.get? b=some u->h'.get? b=some u):HOk P w H h':=λa o e =>
 (x a o e).stay (λb u _ q=>k b u q) (λ_ q=>q) λ_ _ q=>q
theorem HOk.laid (x:HOk P w H h)(k:∀b u,h.get? b=some u->h'.get? b=some u)(hp:h.objs.size<=a)(new:cL P w (upd H a o) h' a o):HOk P w (upd H a o) h':=λb u e=>by
 have hn:=x.fresh hp
 by_cases hb:b=a
 ·subst hb;rw[aR]at e;cases e;exact new
 ·rw[aQ hb]at e
  exact(x b u e).stay (λc v _ q=>k c v q) (λc q=>by rw[aQ (bb q hn)];exact q) λc xs q=>by rw[aQ (bb q hn)];exact q
end
def Rd (H:Hp)(a:Addr)(u:HO):Prop:=H a=some u ∨ ∃o,H a=some (.frz o u)
theorem Rd.ok {P:wS}{w:B_}{H:Hp}{h:Heap}{a:Addr}{u:HO}(r:Rd H a u)(x:HOk P w H h):cL P w H h a u:=by
 rcases r with r | ⟨o,r⟩
 ·exact x a u r
 ·obtain⟨_,q⟩:=x a _ r
  exact q
def Mut:Option HO->Prop
 | some (.lst _)=>True
 | some (.dK _)=>True
 | some (.dT _)=>True
 | some (.set _ _)=>True
 | some (.ins _ _ _)=>True
 | some (.ext _)=>True
 | some (.big _ _)=>True
 | _=>False
section
variable {P:wS}{w:B_}{H:Hp}{h h':Heap}{x e:Addr}{o':HO}
theorem HOk.write (ok:HOk P w H h)(mu:Mut (H x))(he:e=x∨H e=some (.own x))(k:∀b u,b≠e->h.get? b=some u->h'.get? b=some u)(heo:∃u,h'.get? e=some u)
  (new:cL P w (upd H x o') h' x o'):HOk P w (upd H x o') h':=λb u q=>by
 have nown:∀c y,H c=some (.own y)->c≠x:=λc y r z=>by subst z;rw[r]at mu;exact mu
 have ntup:∀c xs,H c=some (.tup xs)->c≠x:=λc xs r z=>by subst z;rw[r]at mu;exact mu
 by_cases hb:b=x
 ·subst hb;rw[aR]at q;cases q;exact new
 ·rw[aQ hb]at q
  by_cases hbe:b=e
  ·have q':H b=some (.own x):=by
    rcases he with z | z
    ·exact absurd (hbe.trans z) hb
    ·rw[hbe];exact z
   rw[q]at q';cases q'
   obtain⟨v,hv⟩:=heo
   exact⟨v,by rw[hbe];exact hv⟩
  ·refine(ok b u q).stay (λc v hc r=>k c v ?_ r) (λc r=>by rw[aQ (nown c b r)];exact r) λc xs r=>by rw[aQ (ntup c xs r)];exact r
   rcases hc with rfl | hc
   ·exact hbe
   ·rintro rfl
    rcases he with z | z
    ·exact nown c b hc z
    ·rw[hc]at z;cases z;exact hb rfl
end
structure Un (fs ex:List Addr)(H H':Hp)(h h':Heap):Prop where
 keep:∀b o,h.get? b=some o->H b=none->b∉fs->b∉ex->h'.get? b=some o
 slot:∀b o,h.get? b=some o->H b=none->b∈fs->b∉ex->∃sl,h'.get? b=some {o with slots:=sl}
 free:∀b o,h.get? b=some o->H b=none->b∉ex->H' b=none
 there:∀b o,h.get? b=some o->b∉ex->∃o',h'.get? b=some o'
 tups:∀b xs,H b=some (.tup xs)->H' b=some (.tup xs)
 frzs:∀b o u,H b=some (.frz o u)->H' b=some (.frz o u)
 tbls:∀b ps,H b=some (.tbl ps)->∃more,H' b=some (.tbl (ps++more))
section
variable {fs fs' ex ex':List Addr}{H H1 H2:Hp}{h h1 h2 h':Heap}{a x e:Addr}{o:HO}
theorem Un.any (u:Un fs ex H H1 h h1){b:Addr}{ob:Obj}(q:h.get? b=some ob)(n:H b=none)(hx:b∉ex):∃sl,h1.get? b=some {ob with slots:=sl}:=by
 by_cases hb:b∈fs
 ·exact u.slot b ob q n hb hx
 ·exact⟨ob.slots,u.keep b ob q n hb hx⟩
theorem Un.kept (k:∀b u,h.get? b=some u->h'.get? b=some u):Un fs ex H H h h' :=
 ⟨λb ob q _ _ _=>k b ob q,λb ob q _ _ _=>⟨ob.slots,k b ob q⟩,λ_ _ _ n _=>n,λb ob q _=>⟨ob,k b ob q⟩,λ_ _ q=>q,λ_ _ _ q=>q,λ_ ps q=>⟨#[],by rw[q];simp⟩⟩
theorem Un.refl:Un fs ex H H h h:=Un.kept λ_ _ q=>q
theorem Un.laid (k:∀b u,h.get? b=some u->h'.get? b=some u)(hp:h.objs.size<=a)(hn:H a=none):Un fs ex H (upd H a o) h h' where
 keep:=λb u q _ _ _=>k b u q
 slot:=λb u q _ _ _=>⟨u.slots,k b u q⟩
 free:=λb u q n _=>by rw[aQ (ww (zn (lc q) hp))];exact n
 there:=λb u q _=>⟨u,k b u q⟩
 tups:=λb xs q=>by rw[aQ (bb q hn)];exact q
 frzs:=λb u xs q=>by rw[aQ (bb q hn)];exact q
 tbls:=λb ps q=>⟨#[],by rw[aQ (bb q hn),q];simp⟩
theorem Un.write (mu:Mut (H x))(he:e=x∨H e=some (.own x))(k:∀b u,b≠e->h.get? b=some u->h'.get? b=some u)(heo:∃u,h'.get? e=some u):Un fs ex H (upd H x o) h h':=by
 have hx:∀b,H b=none->b≠x:=λb n z=>by subst z;rw[n]at mu;exact mu
 have hb:∀b,H b=none->b≠e:=λb n z=>by
  subst z
  rcases he with r | r
  ·exact hx b n r
  ·rw[n]at r;cases r
 have hm:∀b u,H b=some u->¬Mut (some u)->b≠x:=λb u q nm z=>by subst z;rw[q]at mu;exact nm mu
 refine⟨λb u q n _ _=>k b u (hb b n) q,λb u q n _ _=>⟨u.slots,k b u (hb b n) q⟩,λb u q n _=>by rw[aQ (hx b n)];exact n,λb u q _=>?_,
  λb xs q=>by rw[aQ (hm b _ q λz=>z)];exact q,λb u xs q=>by rw[aQ (hm b _ q λz=>z)];exact q,λb ps q=>⟨#[],by rw[aQ (hm b _ q λz=>z),q];simp⟩⟩
 by_cases hbe:b=e
 ·subst hbe;exact heo
 ·exact⟨u,k b u hbe q⟩
end
def trk (h:Heap)(H:Hp):List Addr:=(wl h.objs.size).filter λa=>(H a).isSome
def hidT (h:Heap)(H:Hp):Heap:=PySem.W.hideAll h (trk h H)
theorem vb (h:Heap)(H:Hp):(hidT h H).objs.size=h.objs.size:=PySem.W.hideAll_size _ _
theorem xc {h:Heap}{H:Hp}{b:Addr}{o:Obj}(e:h.get? b=some o)(n:H b=none):(hidT h H).get? b=some o :=
 PySem.W.hideAll_get _ e λhm=>by
  have q:(H b).isSome=true:=(AC.mp hm).2
  rw[n]at q;simp at q
theorem yU {h:Heap}{H:Hp}{b:Addr}{o:Obj}(e:(hidT h H).get? b=some o):h.get? b=some o/\H b=none:=by
 have e':h.get? b=some o:=PySem.W.of_hideAll (trk h H) e
 refine⟨e',?_⟩
 cases q:H b with
 | none=>rfl
 | some x =>
  have hm:b∈trk h H:=AC.mpr ⟨Cn.mpr (lc e'),by simp[q]⟩
  have z:(hidT h H).get? b=none:=PySem.W.hideAll_none (trk h H) hm
  rw[z]at e;cases e
structure Mod (K:bi)(mg:Str->Option bn)(base:Heap):Prop where
 kin:K.In base
 glob:base.Ns B9 mg
 blt:∃mb,base.Ns JY mb/\∀x:Str,x ≠ "__name__" -> mb x=CA x
 nolimit:base.NoLimit
structure Cx where
 prog:wS
 w:B_
 K:bi
 mg:Str->Option bn
 base:Heap
 A:Cg
 N:List Str
 s₀:ca
 H₀:Hp
 env:Env
 outer:List Env
 stack:List Env
 ex:List Addr
 fn:Str->Bool
 calm:Bool
 pn:List (Addr×Obj)
 xe:bn->ca->Prop
def frs (l:List Env):List Addr:=l.filterMap (·.frame)
abbrev Cx.fs (X:Cx):List Addr:=frs X.outer
def Vis (sc:DF)(x:Str):Prop:=sc.names.lookup x=some .local∨sc.names.lookup x=some .cell∨sc.names.lookup x=some .free
def Loc (sc:DF)(x:Str):Prop:=sc.names.lookup x=some .local∨sc.names.lookup x=some .cell
def Look (env:Env)(h:Heap)(m:Str->Option bn)(x:Str)(u:bn):Prop :=
 (env.kindOf x=some .local/\m x=some u)∨((env.kindOf x=some .cell∨env.kindOf x=some .free)/\∃c,env.cells.lookup x=some c/\h.IsCell c (some u))
structure Cx.Ok (X:Cx):Prop where
 mod:Mod X.K X.mg X.base
 kind:X.env.scope.kind = .function
 glob:X.env.globals=B9
 blt:X.env.builtins=JY
 above:X.s₀.heap.objs.size<=X.env.locals
 inj:∀x y c,X.env.cells.lookup x=some c->X.env.cells.lookup y=some c->x=y
 has:∀x,(X.env.kindOf x=some .cell∨X.env.kindOf x=some .free)->∃c,X.env.cells.lookup x=some c
 cab:∀x c,X.fn x=true->X.env.cells.lookup x=some c->X.s₀.heap.objs.size<=c
 hd:X.calm=true->X.A.handled=none
 frames:X.A.frames=some X.stack
 stk:X.stack=X.outer∨(X.stack=X.env::X.outer/\X.env.frame=some X.env.locals)
 exf:∀b∈X.ex,b≠X.env.locals/\∀x c,X.env.cells.lookup x=some c->c≠b
 bs:∀b o,X.base.get? b=some o->X.s₀.heap.get? b=some o/\X.H₀ b=none
 bsz:X.base.objs.size<=X.s₀.heap.objs.size
 noex:∀b o,X.base.get? b=some o->b∉X.ex
 exfs:∀b∈X.ex,b∉X.fs
 funs:X.s₀.heap.FunFrames X.base X.outer
 frf:∀b∈X.fs,X.H₀ b=none
structure Inv (X:Cx)(pins:List (Addr×Obj))(σ:List (Option V))(H:Hp)(s:ca):Prop where
 ok:X.Ok
 os:s.os=X.s₀.os
 bare:Ga s.gens
 base:Un X.fs X.ex X.H₀ H X.s₀.heap s.heap
 loc:∃m,s.heap.Ns X.env.locals m/\∀(i:Nat) (x:Str) (v:V),X.N[i]? = some x->σ[i]? = some (some v)->Vis X.env.scope x->∃u,RelV v u/\Look X.env s.heap m x u
 cell:∀x c,X.env.cells.lookup x=some c->∃v,s.heap.IsCell c v
 free:H X.env.locals=none
 freeC:∀x c,X.env.cells.lookup x=some c->H c=none
 pin:∀p∈X.pn++pins,s.heap.get? p.1=some p.2/\H p.1=none/\p.1≠X.env.locals/\p.1∉X.fs/\∀v,p.2.data ≠ .cell v
 hok:HOk X.prog X.w H s.heap
 len:σ.length=X.N.length
section
variable {X:Cx}{pins:List (Addr×Obj)}{σ:List (Option V)}{H H':Hp}{s:ca}{h':Heap}
theorem Cx.Ok.nofr (ok:X.Ok){b:Addr}{o:Obj}(e:X.base.get? b=some o):b∉X.fs:=λhb=>by
 have:=(ok.funs.mem hb).1
 rw[e]at this;cases this
theorem Inv.bs (I:Inv X pins σ H s):∀b o,X.base.get? b=some o->s.heap.get? b=some o/\H b=none:=λb o e =>
 ⟨I.base.keep b o (I.ok.bs b o e).1 (I.ok.bs b o e).2 (I.ok.nofr e) (I.ok.noex b o e),I.base.free b o (I.ok.bs b o e).1 (I.ok.bs b o e).2 (I.ok.noex b o e)⟩
theorem Inv.bk (I:Inv X pins σ H s):∀b o,X.base.get? b=some o->s.heap.get? b=some o:=λb o e=>(I.bs b o e).1
theorem Inv.mod (I:Inv X pins σ H s):Mod X.K X.mg X.base:=I.ok.mod
theorem Inv.kIn (I:Inv X pins σ H s):X.K.In s.heap:=I.ok.mod.kin.keeps I.bk
theorem Inv.fr (I:Inv X pins σ H s):∃m,Fr X.base X.env.locals s.heap m :=
 let ⟨m,hn,_⟩:=I.loc
 ⟨m,hn,I.bk,xz I.ok.bsz I.ok.above⟩
theorem Inv.lt (I:Inv X pins σ H s):X.env.locals<s.heap.objs.size:=let ⟨_,hn,_⟩:=I.loc;hn.lt
theorem Inv.sz (I:Inv X pins σ H s):X.s₀.heap.objs.size<=s.heap.objs.size:=xz I.ok.above (CN I.lt)
theorem Inv.nofs (I:Inv X pins σ H s){a:Addr}(h:s.heap.objs.size<=a):a∉X.fs:=λhb=>by
 obtain⟨_,o,ho,_⟩:=I.ok.funs.mem hb
 exact absurd (zn (lc ho) (xz I.sz h)) (D4 _)
theorem Inv.cne (I:Inv X pins σ H s):∀x c,X.env.cells.lookup x=some c->c≠X.env.locals:=λx c e z=>by
 obtain⟨v,o,ho,hd⟩:=I.cell x c e
 obtain⟨m,⟨o',es,ep,ho',hd',_⟩,_⟩:=I.loc
 rw[z,ho']at ho;cases ho;rw[hd']at hd;cases hd
theorem Inv.funs (I:Inv X pins σ H s):s.heap.FunFrames X.base X.outer:=by
 have all:∀(l:List Env),(∀b∈frs l,b∈X.fs)->X.s₀.heap.FunFrames X.base l->s.heap.FunFrames X.base l:=by
  intro l
  induction l with
  | nil=>intro _ _;trivial
  | cons env r ih =>
   intro hs hl
   obtain⟨hk,⟨L,o,hf,hn,ho,hd⟩,hr⟩:=hl
   have hL:L∈X.fs:=hs L (by unfold frs;rw[D7,hf];exact B2)
   obtain⟨sl,e⟩:=I.base.slot L o ho (I.ok.frf L hL) hL λz=>I.ok.exfs L z hL
   exact⟨hk,⟨L,_,hf,hn,e,hd⟩,ih (λb hb=>hs b (by unfold frs;rw[D7,hf];exact BV _ hb)) hr⟩
 exact all X.outer (λ_ hb=>hb) I.ok.funs
theorem Inv.stack (I:Inv X pins σ H s):s.heap.FunFrames X.base X.stack:=by
 rcases I.ok.stk with e | ⟨e,hf⟩
 ·rw[e];exact I.funs
 ·rw[e]
  obtain⟨m,hn,_⟩:=I.loc
  refine .cons (by rw[I.ok.kind];decide) hf hn ?_ I.funs
  exact Heap.get?_none_of_le (xz I.ok.bsz I.ok.above)
theorem Inv.stkSub (I:Inv X pins σ H s):∀b∈frs X.stack,b∈X.env.locals::X.fs:=λb hb=>by
 rcases I.ok.stk with e | ⟨e,hf⟩
 ·rw[e]at hb;exact BV _ hb
 ·rw[e]at hb
  unfold frs at hb
  rw[D7,hf]at hb
  exact hb
theorem Inv.stkFree (I:Inv X pins σ H s):∀b∈frs X.stack,H b=none:=λb hb=>by
 rcases sK.mp (I.stkSub b hb)with e | hb
 ·rw[e];exact I.free
 ·obtain⟨_,o,ho,_⟩:=I.ok.funs.mem hb
  exact I.base.free b o ho (I.ok.frf b hb) λz=>I.ok.exfs b z hb
theorem Inv.step {g':Array JD}{t':Nat}{d':Drawn}{ch:List Addr}(I:Inv X pins σ H s)
  (hch:∀b∈ch,(b∈X.ex∨X.s₀.heap.objs.size<=b)/\b≠X.env.locals/\(∀x c,X.env.cells.lookup x=some c->c≠b)/\∀p∈X.pn++pins,p.1≠b)
  (keep:∀b o,b≠X.env.locals->b∉X.fs->b∉ch->s.heap.get? b=some o->H b=none->h'.get? b=some o)
  (slot:∀b o,b≠X.env.locals->b∈X.fs->b∉ch->s.heap.get? b=some o->H b=none->∃sl,h'.get? b=some {o with slots:=sl}) (free:∀b o,b∉ch->s.heap.get? b=some o->H b=none->H' b=none)
  (there:∀b o,b∉ch->s.heap.get? b=some o->∃o',h'.get? b=some o')
  (tups:∀b xs,H b=some (.tup xs)->H' b=some (.tup xs)) (frzs:∀b o u,H b=some (.frz o u)->H' b=some (.frz o u)) (tbls:∀b ps,H b=some (.tbl ps)->∃more,H' b=some (.tbl (ps++more)))
  (ns:∀m,s.heap.Ns X.env.locals m->h'.Ns X.env.locals m) (hok:HOk X.prog X.w H' h') (hg:Ga g') :
  Inv X pins σ H' {s with heap:=h',gens:=g',drawn:=d',toks:=t'}:=by
 have neL:∀b o,X.s₀.heap.get? b=some o->b≠X.env.locals:=λb o e=>ww (zn (lc e) I.ok.above)
 have neC:∀b o,X.s₀.heap.get? b=some o->b∉X.ex->b∉ch:=λb o e hx hb=>by
  rcases(hch b hb).1 with z | z
  ·exact hx z
  ·exact absurd (zn (lc e) z) (D4 _)
 have cellK:∀x c,X.env.cells.lookup x=some c->∀v,s.heap.IsCell c v->h'.IsCell c v:=λx c e v ⟨o,ho,hd⟩=>by
  have nch:c∉ch:=λz=>(hch c z).2.2.1 x c e rfl
  by_cases hc:c∈X.fs
  ·obtain⟨sl,q⟩:=slot c o (I.cne x c e) hc nch ho (I.freeC x c e)
   exact⟨_,q,hd⟩
  ·exact⟨o,keep c o (I.cne x c e) hc nch ho (I.freeC x c e),hd⟩
 refine⟨I.ok,I.os,hg,⟨λb o e n hb hx=>?_,λb o e n hb hx=>?_,λb o e n hx=>?_,λb o e hx=>?_,λb xs e=>tups b xs (I.base.tups b xs e),λb o xs e=>frzs b o xs (I.base.frzs b o xs e),λb ps e=>?_⟩,?_,λx c e=>?_,?_,λx c e=>?_,λp hp=>?_,hok,I.len⟩
 ·exact keep b o (neL b o e) hb (neC b o e hx) (I.base.keep b o e n hb hx) (I.base.free b o e n hx)
 ·obtain⟨sl,e1⟩:=I.base.slot b o e n hb hx
  obtain⟨sl',e2⟩:=slot b _ (neL b o e) hb (neC b o e hx) e1 (I.base.free b o e n hx)
  exact⟨sl',e2⟩
 ·obtain⟨o',e1⟩:=I.base.there b o e hx
  exact free b o' (neC b o e hx) e1 (I.base.free b o e n hx)
 ·obtain⟨o',e1⟩:=I.base.there b o e hx
  exact there b o' (neC b o e hx) e1
 ·obtain⟨m1,e1⟩:=I.base.tbls b ps e
  obtain⟨m2,e2⟩:=tbls b _ e1
  exact⟨m1++m2,by rw[e2,Array.append_assoc]⟩
 ·obtain⟨m,hn,hl⟩:=I.loc
  refine⟨m,ns m hn,λi x v e1 e2 e3=>?_⟩
  obtain⟨u,r,l⟩:=hl i x v e1 e2 e3
  refine⟨u,r,?_⟩
  rcases l with l | ⟨k,c,e,z⟩
  ·exact .inl l
  ·exact .inr ⟨k,c,e,cellK x c e _ z⟩
 ·obtain⟨v,z⟩:=I.cell x c e
  exact⟨v,cellK x c e v z⟩
 ·obtain⟨m,⟨o,_,_,ho,_⟩,_⟩:=I.loc
  exact free _ o (λz=>(hch _ z).2.1 rfl) ho I.free
 ·obtain⟨v,o,ho,hd⟩:=I.cell x c e
  exact free c o (λz=>(hch c z).2.2.1 x c e rfl) ho (I.freeC x c e)
 ·obtain⟨e,n,ne,nf,d⟩:=I.pin p hp
  have nch:p.1∉ch:=λz=>(hch p.1 z).2.2.2 p hp rfl
  exact⟨keep p.1 p.2 ne nf nch e n,free p.1 p.2 nch e n,ne,nf,d⟩
theorem Inv.un {t':Nat}(I:Inv X pins σ H s)(u:Un X.fs [] H H' s.heap h')(hok:HOk X.prog X.w H' h'):Inv X pins σ H' {s with heap:=h',toks:=t'}:=by
 obtain⟨m,⟨o,es,ep,ho,r⟩,_⟩:=id I.loc
 obtain⟨sl,hL⟩:=u.any ho I.free (by simp)
 exact I.step (g':=s.gens) (d':=s.drawn) (ch:=[]) (λ_ z=>nomatch z) (λb o _ hb _ e n=>u.keep b o e n hb (by simp)) (λb o _ hb _ e n=>u.slot b o e n hb (by simp)) (λb o _ e n=>u.free b o e n (by simp)) (λb o _ e=>u.there b o e (by simp)) u.tups u.frzs u.tbls (λm' hm=>by
  obtain⟨o',es',ep',ho',r'⟩:=hm
  rw[ho]at ho';cases ho'
  exact⟨_,es',ep',hL,r'⟩) hok I.bare
theorem Inv.call {g':Array JD}{t':Nat}{d':Drawn}{ch:List Addr}(I:Inv X pins σ H s)(u:Un (frs X.stack) ch H H' s.heap h')(hok:HOk X.prog X.w H' h')(hg:Ga g')
  (hch:∀b∈ch,(b∈X.ex∨X.s₀.heap.objs.size<=b)/\b≠X.env.locals/\(∀x c,X.env.cells.lookup x=some c->c≠b)/\∀p∈X.pn++pins,p.1≠b) :
  Inv X pins σ H' {s with heap:=h',gens:=g',drawn:=d',toks:=t'}:=by
 obtain⟨m,⟨o,es,ep,ho,r⟩,_⟩:=id I.loc
 obtain⟨sl,hL⟩:=u.any ho I.free λz=>(hch _ z).2.1 rfl
 exact I.step (ch:=ch) hch (λb o hL hb hc e n=>u.keep b o e n (λz=>(sK.mp (I.stkSub b z)).elim hL hb) hc) (λb o _ _ hc e n=>u.any e n hc) (λb o hc e n=>u.free b o e n hc) (λb o hc e=>u.there b o e hc) u.tups u.frzs u.tbls (λm' hm=>by
  obtain⟨o',es',ep',ho',r'⟩:=hm
  rw[ho]at ho';cases ho'
  exact⟨_,es',ep',hL,r'⟩) hok hg
theorem Inv.turned {t':Nat}{it:Addr}(I:Inv X pins σ H s)(k:∀b o,b≠it->s.heap.get? b=some o->h'.get? b=some o)(hn:H it=none)(hL:it≠X.env.locals)
  (h1:it∈X.ex∨X.s₀.heap.objs.size<=it) (h2:∀x c,X.env.cells.lookup x=some c->c≠it) (h3:∀p∈X.pn++pins,p.1≠it):Inv X pins σ H {s with heap:=h',toks:=t'}:=by
 have nit:∀b u,H b=some u->b≠it:=λb u e z=>by rw[z,hn]at e;cases e
 refine I.step (g':=s.gens) (d':=s.drawn) (ch:=[it]) (λb hb=>?_) (λb o _ _ hc e _=>k b o (λz=>hc (by simp[z])) e) (λb o _ _ hc e _=>⟨o.slots,k b o (λz=>hc (by simp[z])) e⟩) (λ_ _ _ _ n=>n)
  (λb o hc e=>⟨o,k b o (λz=>hc (by simp[z])) e⟩) (λ_ _ e=>e) (λ_ _ _ e=>e) (λb ps e=>⟨#[],by rw[e];simp⟩) (λm hm=>?_) (λb u e=>?_) I.bare
 ·have e:b=it:=by simpa using hb
  subst e
  exact⟨h1,hL,h2,h3⟩
 ·obtain⟨o,es,ep,ho,r⟩:=hm
  exact⟨o,es,ep,k _ o (Dq hL) ho,r⟩
 ·refine(I.hok b u e).stay (λc v hc q=>k c v ?_ q) (λ_ q=>q) λ_ _ q=>q
  rcases hc with z | z
  ·rw[z];exact nit b u e
  ·exact nit c _ z
theorem Inv.tok (I:Inv X pins σ H s)(t:Nat):Inv X pins σ H {s with toks:=t}:=I.un (h':=s.heap) (t':=t) Un.refl I.hok
theorem Inv.kept {t':Nat}(I:Inv X pins σ H s)(k:∀b u,s.heap.get? b=some u->h'.get? b=some u):Inv X pins σ H {s with heap:=h',toks:=t'}:=I.un (Un.kept k) (I.hok.kept k)
theorem Inv.laid {a:Addr}{o:HO}{t':Nat}(I:Inv X pins σ H s)(k:∀b u,s.heap.get? b=some u->h'.get? b=some u)(hp:s.heap.objs.size<=a)(new:cL X.prog X.w (upd H a o) h' a o) :
  Inv X pins σ (upd H a o) {s with heap:=h',toks:=t'}:=I.un (Un.laid k hp (I.hok.fresh hp)) (I.hok.laid k hp new)
theorem Inv.write {x e:Addr}{o:HO}{t':Nat}(I:Inv X pins σ H s)(mu:Mut (H x))(he:e=x∨H e=some (.own x))(k:∀b u,b≠e->s.heap.get? b=some u->h'.get? b=some u)(heo:∃u,h'.get? e=some u)
  (new:cL X.prog X.w (upd H x o) h' x o):Inv X pins σ (upd H x o) {s with heap:=h',toks:=t'}:=I.un (Un.write mu he k heo) (I.hok.write mu he k heo new)
theorem Inv.weak {σ':List (Option V)}(I:Inv X pins σ H s)(hl:σ'.length=σ.length)(w:∀(i:Nat) v,σ'[i]? = some (some v)->σ[i]? = some (some v)):Inv X pins σ' H s :=
 ⟨I.ok,I.os,I.bare,I.base,let ⟨m,hn,hl'⟩:=I.loc;⟨m,hn,λi x v e1 e2 e3=>hl' i x v e1 (w i v e2) e3⟩,I.cell,I.free,I.freeC,I.pin,I.hok,hl.trans I.len⟩
theorem Inv.pins_of {pins':List (Addr×Obj)}(I:Inv X pins σ H s)(h:∀p∈pins',s.heap.get? p.1=some p.2/\H p.1=none/\p.1≠X.env.locals/\p.1∉X.fs/\∀v,p.2.data ≠ .cell v):Inv X pins' σ H s :=
 ⟨I.ok,I.os,I.bare,I.base,I.loc,I.cell,I.free,I.freeC,λp hp=>(xL.mp hp).elim (λz=>I.pin p (BW _ z)) (h p),I.hok,I.len⟩
theorem rG {N:List Str}(hN:N.Nodup){i j:Nat}{x:Str}(a:N[i]? = some x)(b:N[j]? = some x):i=j:=by
 obtain⟨h1,e1⟩:=kt.mp a
 obtain⟨h2,e2⟩:=kt.mp b
 exact(List.getElem_inj hN).mp (e1.trans e2.symm)
theorem ip {M:Model}{A:Cg}{E:bn->ca->Prop}{i:Nat}{x:Str}{v:V}{u:bn}{Q:Unit->ca->Prop}(I:Inv X pins σ H s)(hN:X.N.Nodup)(hi:X.N[i]? = some x)(hx:Loc X.env.scope x)(r:RelV v u)
  (h:∀s',Inv X pins (σ.set i (some v)) H s'->(∃a,Cw a s.heap s'.heap/\(a=X.env.locals∨X.env.cells.lookup x=some a))->Q () s') (hf:X.fn x=true∨X.env.scope.names.lookup x=some .local:=by first | exact .inl rfl | exact .inr rfl | assumption):li M A (Ki X.env x u) Q E s:=by
 obtain⟨m,hn,hl⟩:=id I.loc
 have hcls:(X.env.scope.kind == .class||(X.env.scope.kind == .module&&X.env.locals != X.env.globals))=false:=by rw[I.ok.kind];rfl
 have hiσ:i<σ.length:=by rw[I.len];exact(kt.mp hi).1
 have cne:=I.cne
 have tracked:∀ {a:Addr} {h':Heap},(∃o,s.heap.get? a=some o/\H a=none)->Cw a s.heap h'->HOk X.prog X.w H h':=λ{a h'} ha hs b ob e=>by
  obtain⟨_,_,hfree⟩:=ha
  refine(I.hok b ob e).stay (λc w' hc q=>(hs.2 c ?_).trans q) (λ_ q=>q) λ_ _ q=>q
  rintro rfl
  rcases hc with rfl | hc
  ·rw[hfree]at e;cases e
  ·rw[hfree]at hc;cases hc
 rcases hx with hk | hk
 ·refine wpAny_storeName_local hk hn (λh' hn' hs=>?_) hcls
  obtain⟨oL,_,_,hoL,_⟩:=id hn
  refine h _ ⟨I.ok,I.os,I.bare,⟨λb o e n hb hx=>?_,λb o e n hb hx=>?_,I.base.free,λb o e hx=>?_,I.base.tups,I.base.frzs,I.base.tbls⟩,⟨_,hn',λj y v' e1 e2 e3=>?_⟩,λy c e=>?_,I.free,I.freeC,λp hp=>?_,tracked ⟨oL,hoL,I.free⟩ hs,by simpa using I.len⟩ ⟨_,hs,.inl rfl⟩
  ·exact(hs.2 b (ww (zn (lc e) I.ok.above))).trans (I.base.keep b o e n hb hx)
  ·obtain⟨sl,e1⟩:=I.base.slot b o e n hb hx
   exact⟨sl,(hs.2 b (ww (zn (lc e) I.ok.above))).trans e1⟩
  ·obtain⟨o',e1⟩:=I.base.there b o e hx
   exact⟨o',(hs.2 b (ww (zn (lc e) I.ok.above))).trans e1⟩
  ·by_cases hj:j=i
   ·subst hj
    rw[hi]at e1;cases e1
    rw[Ed hiσ]at e2
    cases e2
    exact⟨u,r,.inl ⟨hk,by simp⟩⟩
   ·rw[Ce (Dq hj)]at e2
    obtain⟨u',r',q⟩:=hl j y v' e1 e2 e3
    refine⟨u',r',?_⟩
    rcases q with⟨k,e⟩ | ⟨k,c,e,z⟩
    ·refine .inl ⟨k,?_⟩
     have:y≠x:=λe=>hj (rG hN e1 (e▸hi))
     simp[this,e]
    ·exact .inr ⟨k,c,e,z.sameBut hs (cne y c e)⟩
  ·obtain⟨w',z⟩:=I.cell y c e
   exact⟨w',z.sameBut hs (cne y c e)⟩
  ·obtain⟨e,n,ne,nf,d⟩:=I.pin p hp
   exact⟨(hs.2 p.1 ne).trans e,n,ne,nf,d⟩
 ·have hfn:X.fn x=true:=by
   rcases hf with z | z
   ·exact z
   ·rw[z]at hk;cases hk
  obtain⟨c,hc⟩:=I.ok.has x (.inl hk)
  obtain⟨w',z⟩:=I.cell x c hc
  refine wpAny_storeName_cell I.ok.kind hk hc z (λh' hc' hs=>?_)
  obtain⟨oc,hoc,hocd⟩:=id z
  refine h {s with heap:=h'} ⟨I.ok,I.os,I.bare,⟨λb o e n hb hx=>?_,λb o e n hb hx=>?_,I.base.free,λb o e hx=>?_,I.base.tups,I.base.frzs,I.base.tbls⟩,⟨m,hn.sameBut hs (Dq (cne x c hc)),λj y v' e1 e2 e3=>?_⟩,λy c' e=>?_,I.free,I.freeC,λp hp=>?_,tracked ⟨oc,hoc,I.freeC x c hc⟩ hs,by simpa using I.len⟩ ⟨c,hs,.inr hc⟩
  ·exact(hs.2 b (ww (zn (lc e) (I.ok.cab x c hfn hc)))).trans (I.base.keep b o e n hb hx)
  ·obtain⟨sl,e1⟩:=I.base.slot b o e n hb hx
   exact⟨sl,(hs.2 b (ww (zn (lc e) (I.ok.cab x c hfn hc)))).trans e1⟩
  ·obtain⟨o',e1⟩:=I.base.there b o e hx
   exact⟨o',(hs.2 b (ww (zn (lc e) (I.ok.cab x c hfn hc)))).trans e1⟩
  ·by_cases hj:j=i
   ·subst hj
    rw[hi]at e1;cases e1
    rw[Ed hiσ]at e2
    cases e2
    exact⟨u,r,.inr ⟨.inl hk,c,hc,hc'⟩⟩
   ·rw[Ce (Dq hj)]at e2
    obtain⟨u',r',q⟩:=hl j y v' e1 e2 e3
    refine⟨u',r',?_⟩
    rcases q with q | ⟨k,c',e,z'⟩
    ·exact .inl q
    ·refine .inr ⟨k,c',e,z'.sameBut hs ?_⟩
     rintro rfl
     exact hj (rG hN e1 (I.ok.inj _ _ _ e hc▸hi))
  ·by_cases hcc:c'=c
   ·subst hcc;exact⟨_,hc'⟩
   ·obtain⟨w2,z2⟩:=I.cell y c' e
    exact⟨w2,z2.sameBut hs hcc⟩
  ·obtain⟨e,n,ne,nf,d⟩:=I.pin p hp
   refine⟨(hs.2 p.1 ?_).trans e,n,ne,nf,d⟩
   intro q
   rw[q,hoc]at e
   have q':oc=p.2:=Di e
   exact d w' (by rw[<- q'];exact hocd)
theorem mq {M:Model}{A:Cg}{E:bn->ca->Prop}{i:Nat}{x:Str}{v:V}{u:bn}{Q:Unit->ca->Prop}(I:Inv X pins σ H s)(hN:X.N.Nodup)(hi:X.N[i]? = some x)(hx:Loc X.env.scope x)(r:RelV v u)
  (h:∀s',Inv X pins (σ.set i (some v)) H s'->Q () s') (hf:X.fn x=true∨X.env.scope.names.lookup x=some .local:=by first | exact .inl rfl | exact .inr rfl | assumption):li M A (Ki X.env x u) Q E s :=
 ip I hN hi hx r (λs' I' _=>h s' I') hf
theorem Inv.call' {s':ca}{ch:List Addr}(I:Inv X pins σ H s)(ho:s'.os=s.os)(u:Un (frs X.stack) ch H H' s.heap s'.heap)(hok:HOk X.prog X.w H' s'.heap)(hg:Ga s'.gens)
  (hch:∀b∈ch,(b∈X.ex∨X.s₀.heap.objs.size<=b)/\b≠X.env.locals/\(∀x c,X.env.cells.lookup x=some c->c≠b)/\∀p∈X.pn++pins,p.1≠b):Inv X pins σ H' s':=by
 obtain⟨h',g',d',t',o'⟩:=s'
 have e:o'=s.os:=ho
 subst e
 exact I.call (g':=g') (t':=t') (d':=d') u hok hg hch
end
abbrev XK:=bn->Option Addr->Hp->Prop
abbrev St:=List (Option V)
abbrev VK:=V->Hp->Prop
abbrev TE:=St->Hp->VK->Prop
abbrev TT:=St->Hp->(Bool->Hp->Prop)->Prop
abbrev TA:=St->Hp->(List V->Hp->Prop)->Prop
structure Ends where
 nx:St->Hp->Prop
 rt:VK
 bk:St->Hp->Prop:=λ_ _=>False
 ct:St->Hp->Prop:=λ_ _=>False
abbrev TS:=Ends->St->Hp->Prop
def EP (X:Cx)(pins:List (Addr×Obj))(σ:St)(Q:VK)(u:bn)(s':ca):Prop:=∃v H',Inv X pins σ H' s'/\RelV v u/\Q v H'
def TP (X:Cx)(pins:List (Addr×Obj))(σ:St)(Q:Bool->Hp->Prop)(b:Bool)(s':ca):Prop:=∃H',Inv X pins σ H' s'/\Q b H'
def AP (X:Cx)(pins:List (Addr×Obj))(σ:St)(Q:List V->Hp->Prop)(us:List bn)(s':ca):Prop:=∃vs H',Inv X pins σ H' s'/\Vals vs us/\Q vs H'
def SP (X:Cx)(pins:List (Addr×Obj))(D:Ends)(f:Flow)(s':ca):Prop :=
 match f with
 | .next=>∃ σ' H',Inv X pins σ' H' s'/\D.nx σ' H'
 | .brk=>∃ σ' H',Inv X pins σ' H' s'/\D.bk σ' H'
 | .cont=>∃ σ' H',Inv X pins σ' H' s'/\D.ct σ' H'
 | .ret u=>∃v σ' H',Inv X pins σ' H' s'/\RelV v u/\D.rt v H'
def PE (X:Cx)(e:Expr)(t:TE):Prop :=
 ∀(pins:List (Addr×Obj)) (s:ca) (σ:St) (H:Hp) (Q:VK),Inv X pins σ H s->t σ H Q->li (pc X.prog X.w) X.A (eval e X.env) (EP X pins σ Q) X.xe s
def PT (X:Cx)(e:Expr)(t:TT):Prop :=
 ∀(pins:List (Addr×Obj)) (s:ca) (σ:St) (H:Hp) (Q:Bool->Hp->Prop),Inv X pins σ H s->t σ H Q->li (pc X.prog X.w) X.A (FH e X.env (eval e X.env)) (TP X pins σ Q) X.xe s
def PW (X:Cx)(e:Expr)(t:TT):Prop :=
 ∀(whole:Sem bn) (pins:List (Addr×Obj)) (s:ca) (σ:St) (H:Hp) (Q:Bool->Hp->Prop),Inv X pins σ H s->t σ H Q->li (pc X.prog X.w) X.A (FH e X.env whole) (TP X pins σ Q) X.xe s
theorem PW.pt {X:Cx}{e:Expr}{t:TT}(h:PW X e t):PT X e t:=h _
def PA (X:Cx)(es:List Expr)(t:TA):Prop :=
 ∀(pos:Pos) (pins:List (Addr×Obj)) (s:ca) (σ:St) (H:Hp) (Q:List V->Hp->Prop),Inv X pins σ H s->t σ H Q->li (pc X.prog X.w) X.A (Je (D_ pos (B4 es X.env))) (AP X pins σ Q) X.xe s
def PS (X:Cx)(st:Stmt)(t:TS):Prop :=
 ∀(pins:List (Addr×Obj)) (s:ca) (σ:St) (H:Hp) (D:Ends),Inv X pins σ H s->t D σ H->li (pc X.prog X.w) X.A (exec st X.env) (SP X pins D) X.xe s
def PSs (X:Cx)(st:List Stmt)(t:TS):Prop :=
 ∀(pins:List (Addr×Obj)) (s:ca) (σ:St) (H:Hp) (D:Ends),Inv X pins σ H s->t D σ H->li (pc X.prog X.w) X.A (execs st X.env) (SP X pins D) X.xe s
theorem thn {α:Type}{t:Sem α}{Q Q':α->ca->Prop}{M:Model}{A:Cg}{E:bn->ca->Prop}{s:ca}(h:li M A t Q E s)(hQ:∀a s,Q a s->Q' a s):li M A t Q' E s:=Dt h hQ λ_ _ x=>x
section
variable {X:Cx}
def tVar (i:Nat):TE:=λσ H Q=>∃v,σ[i]? = some (some v)/\Q v H
def tC (v:V):TE:=λ_ H Q=>Q v H
theorem Aj {i:Nat}{x:Str}{pos:Pos}(hN:X.N[i]? = some x)(hv:Vis X.env.scope x)(hd:(x==("__debug__" : Str))=false:=by decide)(hcd:(x==("__classdict__" : Str))=false:=by decide):PE X (.Name x pos) (tVar i):=by
 intro pins s σ H Q I h
 obtain⟨v,e,h⟩:=h
 obtain⟨m,hn,hl⟩:=I.loc
 obtain⟨u,r,l⟩:=hl i x v hN e hv
 have fin:EP X pins σ Q u s:=⟨v,H,I,r,h⟩
 rcases l with⟨hk,hm⟩ | ⟨hk,c,hc,hcell⟩
 ·exact JU (Ju I.ok.kind hk hn hm fin) hd
 ·rcases hk with hk | hk
  ·exact JU (JL I.ok.kind hk hc hcell fin) hd
  ·exact JU (wpAny_loadName_free I.ok.kind hk hc hcell fin hcd) hd
theorem aL {i j pos}:PE X (.Constant (.int i) j pos) (tC (.int i)):=λ_ _ _ H _ I h=>wpAny_Constant_int ⟨.int i,H,I.tok _,⟨_,rfl⟩,h⟩
theorem dw {b j pos}:PE X (.Constant (.bool b) j pos) (tC (.bl b)):=λ_ _ _ H _ I h=>Constant_bool ⟨.bl b,H,I,rfl,h⟩
theorem xV {j pos}:PE X (.Constant .none j pos) (tC .non):=λ_ _ _ H _ I h=>Constant_none ⟨.non,H,I,rfl,h⟩
theorem eC {x j pos}:PE X (.Constant (.str x) j pos) (tC (.str x)):=λ_ _ _ H _ I h=>Calls.Constant_str ⟨.str x,H,I.tok _,⟨_,rfl⟩,h⟩
def Gl (X:Cx)(x:Str):Prop:=X.env.kindOf x=some .globalImplicit
theorem qm {E:bn->ca->Prop}{pins:List (Addr×Obj)}{s:ca}{σ:St}{H:Hp}{x:Str}{u:bn}{pos:Pos}{Q:bn->ca->Prop}(I:Inv X pins σ H s)(hg:Gl X x)(hm:X.mg x=some u)(h:Q u s)
  (hd:(x==("__debug__" : Str))=false:=by decide):li (pc X.prog X.w) X.A (eval (.Name x pos) X.env) Q E s :=
 Hm I.ok.kind hg (Calls.loadGlobal_global (by rw[I.ok.glob];exact I.mod.glob.keeps I.bk) hm h) hd
theorem fj {E:bn->ca->Prop}{pins:List (Addr×Obj)}{s:ca}{σ:St}{H:Hp}{x:Str}{u:bn}{pos:Pos}{Q:bn->ca->Prop}(I:Inv X pins σ H s)(hg:Gl X x)(hm:X.mg x=none)(hv:CA x=some u)(h:Q u s)
  (hn:x ≠ "__name__" := by decide) (hd:(x==("__debug__" : Str))=false:=by decide):li (pc X.prog X.w) X.A (eval (.Name x pos) X.env) Q E s:=by
 obtain⟨mb,h1,h2⟩:=I.mod.blt
 exact Hm I.ok.kind hg (Calls.loadGlobal_builtin (by rw[I.ok.glob];exact I.mod.glob.keeps I.bk) hm (by rw[I.ok.blt];exact h1.keeps I.bk) ((h2 x hn).trans hv) h) hd
theorem yK {x:Str}{v:V}{u:bn}{pos:Pos}(hg:Gl X x)(hm:X.mg x=some u)(r:RelV v u)(hd:(x==("__debug__" : Str))=false:=by decide):PE X (.Name x pos) (tC v) :=
 λ_ _ _ H _ I h=>qm I hg hm ⟨v,H,I,r,h⟩ hd
theorem yN {x:Str}{v:V}{u:bn}{pos:Pos}(hg:Gl X x)(hm:X.mg x=none)(hv:CA x=some u)(r:RelV v u)(hn:x ≠ "__name__" := by decide)(hd:(x==("__debug__" : Str))=false:=by decide):PE X (.Name x pos) (tC v) :=
 λ_ _ _ H _ I h=>fj I hg hm hv ⟨v,H,I,r,h⟩ hn hd
variable {a b:Expr}{ta tb:TE}{pos:Pos}
def PC (X:Cx)(op:JE)(a b:Expr)(t:TE):Prop :=
 ∀(pins:List (Addr×Obj)) (s:ca) (σ:St) (H:Hp) (Q:VK),Inv X pins σ H s->t σ H Q ->
  li (pc X.prog X.w) X.A (eval a X.env) (λv s₁=>li (pc X.prog X.w) X.A (eval b X.env) (λu s₂=>li (pc X.prog X.w) X.A (Dx op v u) (EP X pins σ Q) X.xe s₂) X.xe s₁) X.xe s
def tB (t:TE):TT:=λσ H Q=>t σ H λx H1=>∃c,x = .bl c/\Q c H1
theorem Al {op:JE}{t:TE}(h:PC X op a b t)(h1:Fh op b=false:=by first | exact nobehind _ (by decide) (by decide) | rfl):PE X (.Compare a [op] [b] pos) t:=λpins s σ H Q I hw=>wpAny_Compare1 (h pins s σ H Q I hw) h1
theorem ro {op:JE}{t:TE}(h:PC X op a b t)(h1:Fh op b=false:=by first | exact nobehind _ (by decide) (by decide) | rfl):PT X (.Compare a [op] [b] pos) (tB t):=by
 intro pins s σ H Q I hw
 refine Jm (thn (h pins s σ H _ I hw) λv s1 h1=>thn h1 λu s2 h2=>thn h2 λc s3 ⟨x,H1,I1,r1,q1⟩=>?_) h1
 obtain⟨d,rfl,q⟩:=q1
 cases r1
 exact Dr ⟨H1,I1,q⟩
theorem eM {e:Expr}{t:TE}(h:PE X e t)(he:∀whole,FH e X.env whole=(do let v <- whole;Ev e.pos;F4 [v] (truthy v)):=by intro _;rfl):PT X e (tB t):=by
 intro pins s σ H Q I hw
 refine isTrue_plain (thn (h pins s σ H _ I hw) λv s1 ⟨x,H1,I1,r1,q1⟩=>?_) (he _)
 obtain⟨d,rfl,q⟩:=q1
 cases r1
 exact Dr ⟨H1,I1,q⟩
variable {tA tB':TT}{rest:List Expr}
def tAnd (t u:TT):TT:=λσ H Q=>t σ H λc H1=>if c=true then u σ H1 Q else Q false H1
def tOr (t u:TT):TT:=λσ H Q=>t σ H λc H1=>if c=true then Q true H1 else u σ H1 Q
def tNot (t:TT):TT:=λσ H Q=>t σ H λc H1=>Q (!c) H1
theorem gh (ha:PT X a tA):PW X (.BoolOp .And [a] pos) tA:=by
 intro wh pins s σ H Q I h
 refine isTrue_and (thn (ha pins s σ H Q I h) λc s1 e=>?_)
 cases c with
 | true=>exact isTrue_and_nil e
 | false=>exact e
theorem uv (ha:PT X a tA):PW X (.BoolOp .Or [a] pos) tA:=by
 intro wh pins s σ H Q I h
 refine isTrue_or (thn (ha pins s σ H Q I h) λc s1 e=>?_)
 cases c with
 | false=>exact isTrue_or_nil e
 | true=>exact e
theorem jt (ha:PT X a tA)(hb:PW X (.BoolOp .And (b::rest) pos) tB'):PW X (.BoolOp .And (a::b::rest) pos) (tAnd tA tB'):=by
 intro wh pins s σ H Q I h
 refine isTrue_and (thn (ha pins s σ H _ I h) λc s1 ⟨H1,I1,q1⟩=>?_)
 cases c with
 | true=>exact hb wh pins s1 σ H1 Q I1 q1
 | false=>exact⟨H1,I1,q1⟩
theorem yD (ha:PT X a tA)(hb:PW X (.BoolOp .Or (b::rest) pos) tB'):PW X (.BoolOp .Or (a::b::rest) pos) (tOr tA tB'):=by
 intro wh pins s σ H Q I h
 refine isTrue_or (thn (ha pins s σ H _ I h) λc s1 ⟨H1,I1,q1⟩=>?_)
 cases c with
 | true=>exact⟨H1,I1,q1⟩
 | false=>exact hb wh pins s1 σ H1 Q I1 q1
theorem gj (ha:PT X a tA):PT X (.UnaryOp .Not a pos) (tNot tA):=by
 intro pins s σ H Q I h
 exact isTrue_not (ha pins s σ H (λc H1=>Q (!c) H1) I h)
def z_ (ta tb:TE):TE:=λσ H Q=>ta σ H λx H1=>∃c,x = .bl c/\if c=true then tb σ H1 Q else Q (.bl false) H1
def tOrV (ta tb:TE):TE:=λσ H Q=>ta σ H λx H1=>∃c,x = .bl c/\if c=true then Q (.bl true) H1 else tb σ H1 Q
def z7 (ta:TE):TE:=λσ H Q=>ta σ H λx H1=>∃c,x = .bl c/\Q (.bl (!c)) H1
theorem ju {op}{t:TE}(h:PE X a t):PE X (.BoolOp op [a] pos) t:=λpins s σ H Q I hw=>BoolOp_one (h pins s σ H Q I hw)
theorem gp (ha:PE X a ta)(hb:PE X (.BoolOp .And (b::rest) pos) tb):PE X (.BoolOp .And (a::b::rest) pos) (z_ ta tb):=by
 intro pins s σ H Q I h
 refine BoolOp_and (thn (ha pins s σ H _ I h) λv s1 ⟨x,H1,I1,r1,q1⟩=>?_)
 obtain⟨c,rfl,q1⟩:=q1
 cases r1
 refine Dr ?_
 cases c with
 | true=>exact hb pins s1 σ H1 Q I1 q1
 | false=>exact⟨.bl false,H1,I1,rfl,q1⟩
theorem Bt (ha:PE X a ta)(hb:PE X (.BoolOp .Or (b::rest) pos) tb):PE X (.BoolOp .Or (a::b::rest) pos) (tOrV ta tb):=by
 intro pins s σ H Q I h
 refine BoolOp_or (thn (ha pins s σ H _ I h) λv s1 ⟨x,H1,I1,r1,q1⟩=>?_)
 obtain⟨c,rfl,q1⟩:=q1
 cases r1
 refine Dr ?_
 cases c with
 | false=>exact hb pins s1 σ H1 Q I1 q1
 | true=>exact⟨.bl true,H1,I1,rfl,q1⟩
theorem xU (ha:PE X a ta):PE X (.UnaryOp .Not a pos) (z7 ta):=by
 intro pins s σ H Q I h
 refine UnaryOp_ (thn (ha pins s σ H _ I h) λv s1 ⟨x,H1,I1,r1,q1⟩=>?_)
 obtain⟨c,rfl,q1⟩:=q1
 cases r1
 exact not_of (Dr ⟨.bl (!c),H1,I1,rfl,q1⟩)
def tIf (t:TT)(ta tb:TE):TE:=λσ H Q=>t σ H λc H1=>if c=true then ta σ H1 Q else tb σ H1 Q
theorem wD {c:Expr}(hc:PT X c tA)(ha:PE X a ta)(hb:PE X b tb):PE X (.IfExp c a b pos) (tIf tA ta tb):=by
 intro pins s σ H Q I h
 refine wpAny_IfExp (thn (hc pins s σ H _ I h) λd s1 ⟨H1,I1,q1⟩=>?_)
 cases d with
 | true=>exact ha pins s1 σ H1 Q I1 q1
 | false=>exact hb pins s1 σ H1 Q I1 q1
end
def SqL (K:bi)(H:Hp)(a:Addr)(xs:List V):Prop :=
 Rd H a (.lst xs) ∨
  ∃(o:Obj) (its:Array bn) (n:Nat),K.lookup a=some o/\o.cls = .type "list" /\ o.dict=none/\o.data = .seq its n/\its.size<=wT/\Vals xs its.toList
def SqT (K:bi)(H:Hp)(a:Addr)(xs:List V):Prop :=
 Rd H a (.tup xs) ∨
  ∃(o:Obj) (its:Array bn) (n:Nat),K.lookup a=some o/\o.cls = .type "tuple" /\ o.data = .seq its n/\its.size<=wT/\Vals xs its.toList
def absV:bn->Option V
 | .none=>some .non
 | .bool b=>some (.bl b)
 | .int i _=>some (.int i)
 | .str x _=>some (.str x)
 | .bytes b _=>some (.byt b)
 | .float b _=>some (.flt b)
 | .ref a=>some (.ref a)
 | .type n=>some (.ty n)
 | _=>none
theorem RelV.abs {x:V}{u:bn}(r:RelV x u):absV u=some x:=by
 cases x with
 | non=>cases r;rfl
 | bl _=>cases r;rfl
 | int _=>obtain⟨t,rfl⟩:=r;rfl
 | str _=>obtain⟨t,rfl⟩:=r;rfl
 | byt _=>obtain⟨t,rfl⟩:=r;rfl
 | flt _=>obtain⟨t,rfl⟩:=r;rfl
 | ref _=>cases r;rfl
 | ty _=>cases r;rfl
theorem RelV.inj {x y:V}{u:bn}(r:RelV x u)(q:RelV y u):x=y:=Di (r.abs.symm.trans q.abs)
theorem Vals.inj:∀ {xs ys:List V} {us:List bn},Vals xs us->Vals ys us->xs=ys
 | _,_,_,.nil,.nil=>rfl
 | _,_,_,.cons r t,.cons r' t'=>by rw[r.inj r',Vals.inj t t']
section
variable {X:Cx}{pins:List (Addr×Obj)}{σ:St}{H:Hp}{s:ca}{a:Addr}{xs ys:List V}
theorem SqL.of {K:bi}(h:H a=some (.lst xs)):SqL K H a xs:=.inl (.inl h)
theorem SqT.of {K:bi}(h:H a=some (.tup xs)):SqT K H a xs:=.inl (.inl h)
theorem Inv.list (I:Inv X pins σ H s)(h:SqL X.K H a xs):∃its:List bn,Vals xs its/\PlainL s.heap a its.toArray/\xs.length<=wT:=by
 rcases h with h | ⟨o,its,n,hk,hc,hd,hs,hz,r⟩
 ·obtain⟨z,its,n,r,e⟩:=h.ok I.hok
  exact⟨its,r,⟨_,n,e,rfl,rfl,rfl⟩,z⟩
 ·refine⟨its.toList,r,⟨o,n,I.kIn a o hk,hc,hd,by simpa using hs⟩,?_⟩
  have e:=r.length
  simp only[Do]at e
  omega
theorem Inv.tuple (I:Inv X pins σ H s)(h:SqT X.K H a xs):∃its:List bn,Vals xs its/\IsTup s.heap a its.toArray/\xs.length<=wT:=by
 rcases h with h | ⟨o,its,n,hk,hc,hs,hz,r⟩
 ·obtain⟨z,its,r,p⟩:=h.ok I.hok
  exact⟨its,r,p,z⟩
 ·refine⟨its.toList,r,⟨o,I.kIn a o hk,hc,n,by simpa using hs⟩,?_⟩
  have e:=r.length
  simp only[Do]at e
  omega
theorem Inv.list_inj (I:Inv X pins σ H s)(h:SqL X.K H a xs)(h':SqL X.K H a ys):xs=ys:=by
 obtain⟨its,r,⟨o,n,e,_,_,d⟩,_⟩:=I.list h
 obtain⟨its',r',⟨o',n',e',_,_,d'⟩,_⟩:=I.list h'
 rw[e]at e';cases e'
 rw[d]at d'
 injection d' with d1 _
 have:its=its':=by simpa using congrArg J7 d1
 subst this
 exact r.inj r'
theorem Inv.tuple_inj (I:Inv X pins σ H s)(h:SqT X.K H a xs)(h':SqT X.K H a ys):xs=ys:=by
 obtain⟨its,r,⟨o,e,_,n,d⟩,_⟩:=I.tuple h
 obtain⟨its',r',⟨o',e',_,n',d'⟩,_⟩:=I.tuple h'
 rw[e]at e';cases e'
 rw[d]at d'
 injection d' with d1 _
 have:its=its':=by simpa using congrArg J7 d1
 subst this
 exact r.inj r'
end
abbrev Cx.wish (X:Cx)(E:bn->ca->Prop):Cx:={X with xe:=E}
abbrev Cx.nox (X:Cx):Cx:=X.wish λ_ _=>False
theorem Cx.Ok.wish {X:Cx}(ok:X.Ok)(E:bn->ca->Prop):(X.wish E).Ok :=
 ⟨ok.mod,ok.kind,ok.glob,ok.blt,ok.above,ok.inj,ok.has,ok.cab,ok.hd,ok.frames,ok.stk,ok.exf,ok.bs,ok.bsz,ok.noex,ok.exfs,ok.funs,ok.frf⟩
theorem Cx.Ok.unwish {X:Cx}{E:bn->ca->Prop}(ok:(X.wish E).Ok):X.Ok :=
 ⟨ok.mod,ok.kind,ok.glob,ok.blt,ok.above,ok.inj,ok.has,ok.cab,ok.hd,ok.frames,ok.stk,ok.exf,ok.bs,ok.bsz,ok.noex,ok.exfs,ok.funs,ok.frf⟩
section
variable {X:Cx}{pins:List (Addr×Obj)}{σ:St}{H:Hp}{s:ca}{E:bn->ca->Prop}
theorem Inv.wish (I:Inv X pins σ H s)(E:bn->ca->Prop):Inv (X.wish E) pins σ H s:=⟨I.ok.wish E,I.os,I.bare,I.base,I.loc,I.cell,I.free,I.freeC,I.pin,I.hok,I.len⟩
theorem Inv.unwish (I:Inv (X.wish E) pins σ H s):Inv X pins σ H s:=⟨I.ok.unwish,I.os,I.bare,I.base,I.loc,I.cell,I.free,I.freeC,I.pin,I.hok,I.len⟩
theorem SP.unwish {D:Ends}{f:Flow}{s':ca}(h:SP (X.wish E) pins D f s'):SP X pins D f s':=by
 cases f with
 | next=>obtain⟨σ',H',I,q⟩:=h;exact⟨σ',H',I.unwish,q⟩
 | brk=>obtain⟨σ',H',I,q⟩:=h;exact⟨σ',H',I.unwish,q⟩
 | cont=>obtain⟨σ',H',I,q⟩:=h;exact⟨σ',H',I.unwish,q⟩
 | ret u=>obtain⟨v,σ',H',I,r,q⟩:=h;exact⟨v,σ',H',I.unwish,r,q⟩
theorem PSs.nox {st:List Stmt}{t:TS}(h:PSs X.nox st t):PSs X st t:=λpins s σ H D I hw =>
 Dt (h pins s σ H D (I.wish _) hw) (λ_ _ q=>q.unwish) λ_ _ z=>DS z
end
section
variable {X:Cx}{st:Stmt}{rest:List Stmt}{t u:TS}{e:Expr}{te:TE}{pos:Pos}
def tNext:TS:=λD σ H=>D.nx σ H
def tSeq (t u:TS):TS:=λD σ H=>t {D with nx:=u D} σ H
theorem bE:PSs X [] tNext:=λ_ _ σ H _ I h=>Gc ⟨σ,H,I,h⟩
theorem aw (h1:PS X st t)(h2:PSs X rest u):PSs X (st::rest) (tSeq t u):=by
 intro pins s σ H D I h
 refine Kh (thn (h1 pins s σ H {D with nx:=u D} I h) λf s1 q=>?_)
 cases f with
 | next =>
  obtain⟨σ',H',I',q⟩:=q
  exact h2 pins s1 σ' H' D I' q
 | ret v=>exact q
 | brk=>exact q
 | cont=>exact q
theorem aH (h1:PS X st t):PSs X [st] t:=by
 intro pins s σ H D I h
 refine Kh (thn (h1 pins s σ H D I h) λf s1 q=>?_)
 cases f with
 | next=>exact Gc q
 | ret v=>exact q
 | brk=>exact q
 | cont=>exact q
theorem Inv.quiet {pins:List (Addr×Obj)}{σ:St}{H:Hp}{s:ca}(I:Inv X pins σ H s):interactive X.env=false:=by simp[interactive,I.ok.kind]
def z8 (te:TE):TS:=λD σ H=>te σ H λ_ H1=>D.nx σ H1
theorem eW (he:PE X e te)(hs:FW e none pos.line X.env=pure false:=by rfl):PS X (.Expr e pos) (z8 te):=by
 intro pins s σ H D I h
 exact wpAny_Expr_any (thn (he pins s σ H _ I h) λv s1 ⟨x,H1,I1,r1,q1⟩=>⟨σ,H1,I1,q1⟩) I.quiet hs
def tRet (te:TE):TS:=λD σ H=>te σ H D.rt
theorem aZ (he:PE X e te):PS X (.Return (some e) pos) (tRet te):=by
 intro pins s σ H D I h
 exact wpAny_Return_some (thn (he pins s σ H _ I h) λv s1 ⟨x,H1,I1,r1,q1⟩=>⟨x,σ,H1,I1,r1,q1⟩)
def tIfS (c:TT)(t u:TS):TS:=λD σ H=>c σ H λb H1=>if b=true then t D σ H1 else u D σ H1
theorem dH {c:Expr}{a b:List Stmt}{tc:TT}(hc:PT X c tc)(ha:PSs X a t)(hb:PSs X b u):PS X (.If c a b pos) (tIfS tc t u):=by
 intro pins s σ H D I h
 refine wpAny_If (thn (hc pins s σ H _ I h) λd s1 ⟨H1,I1,q1⟩=>?_)
 cases d with
 | true=>exact ha pins s1 σ H1 D I1 q1
 | false=>exact hb pins s1 σ H1 D I1 q1
def tNever:TS:=λ_ _ _=>False
theorem rA:PS X st tNever:=λ_ _ _ _ _ _ h=>h.elim
end
abbrev TG:=V->St->Hp->(St->Hp->Prop)->Prop
abbrev TGs:=List V->St->Hp->(St->Hp->Prop)->Prop
def PG (X:Cx)(target:Expr)(t:TG):Prop :=
 ∀(pins:List (Addr×Obj)) (s:ca) (σ:St) (H:Hp) (v:V) (u:bn) (Q:St->Hp->Prop),Inv X pins σ H s->RelV v u->t v σ H Q ->
  li (pc X.prog X.w) X.A (Ea target X.env u) (λ_ s'=>∃ σ' H',Inv X pins σ' H' s'/\Q σ' H') X.xe s
def PGs (X:Cx)(ts:List Expr)(t:TGs):Prop :=
 ∀(pins:List (Addr×Obj)) (s:ca) (σ:St) (H:Hp) (vs:List V) (us:List bn) (Q:St->Hp->Prop),Inv X pins σ H s->Vals vs us->t vs σ H Q ->
  li (pc X.prog X.w) X.A (assignInOrder ((Fa ts X.env).map (·.2)) us) (λ_ s'=>∃ σ' H',Inv X pins σ' H' s'/\Q σ' H') X.xe s
abbrev TIp:=V->V->Hp->VK->Prop
def PIp (X:Cx)(op:Operator)(t:TIp):Prop :=
 ∀(pins:List (Addr×Obj)) (s:ca) (σ:St) (H:Hp) (x y:V) (v u:bn) (Q:VK),Inv X pins σ H s->RelV x v->RelV y u->t x y H Q ->
  li (pc X.prog X.w) X.A (inplaceOp op v u) (EP X pins σ Q) X.xe s
section
variable {X:Cx}{pos:Pos}
def xh (i:Nat):TG:=λv σ H Q=>Q (σ.set i (some v)) H
theorem aF {i:Nat}{x:Str}(hN:X.N.Nodup)(hi:X.N[i]? = some x)(hx:Loc X.env.scope x)(hf:X.fn x=true∨X.env.scope.names.lookup x=some .local:=by first | exact .inl rfl | exact .inr rfl | assumption):PG X (.Name x pos) (xh i):=by
 intro pins s σ H v u Q I r h
 exact FN (mq I hN hi hx r (λs' I'=>⟨_,H,I',h⟩) hf)
def gNil:TGs:=λvs σ H Q=>vs=[]/\Q σ H
def A3 (t:TG)(u:TGs):TGs:=λvs σ H Q=>∃v r,vs=v::r/\t v σ H λσ' H'=>u r σ' H' Q
theorem bB:PGs X [] gNil:=by
 intro pins s σ H vs us Q I r h
 obtain⟨e,h⟩:=h
 subst e
 cases r
 exact assignInOrder_nil ⟨σ,H,I,h⟩
theorem aJ {e:Expr}{es:List Expr}{t:TG}{u:TGs}(h1:PG X e t)(h2:PGs X es u)
  (hs:(Fa (e::es) X.env).map (·.2)=Ea e X.env::(Fa es X.env).map (·.2):=by rfl):PGs X (e::es) (A3 t u):=by
 intro pins s σ H vs us Q I r h
 obtain⟨v,vr,e1,h⟩:=h
 subst e1
 cases r with
 | cons r rr =>
  rw[hs]
  refine assignInOrder_cons (thn (h1 pins s σ H _ _ _ I r h) λ_ s1 ⟨σ1,H1,I1,q1⟩=>?_)
  exact h2 pins s1 σ1 H1 _ _ Q I1 rr q1
def gTup (K:bi)(n:Nat)(t:TGs):TG:=λv σ H Q=>∃a xs,v = .ref a/\SqT K H a xs/\xs.length=n/\t xs σ H Q
theorem Ai {es:List Expr}{k:Nat}{t:TGs}{n:Nat}(hc:X.calm=true)(h:PGs X es t)
  (hn:(Fa es X.env).length=n:=by rfl) (hst:(Fa es X.env).findIdx? (·.1)=none:=by rfl):PG X (.Tuple es k pos) (gTup X.K n t):=by
 intro pins s σ H v u Q I r hw
 obtain⟨a,xs,e1,hq,hl,hw⟩:=hw
 subst e1
 cases r
 obtain⟨its,rv,ht,hz⟩:=I.tuple hq
 refine assign_Tuple_tuple (I.ok.hd hc) ht (by simp[hn,<- hl,rv.length]) hst λh' hx=>?_
 have I1:Inv X pins σ H {s with heap:=h'}:=I.kept (t':=s.toks) λb o e=>hx b o (ww (lc e)) e
 exact h pins _ σ H xs _ Q I1 (by simpa using rv) hw
def tAsg (te:TE)(g:TG):TS:=λD σ H=>te σ H λx H1=>g x σ H1 D.nx
theorem eO {tg e:Expr}{te:TE}{g:TG}(he:PE X e te)(hg:PG X tg g)(hs:swapsWithSole [tg] e pos.line X.env=pure false:=by rfl)(hw:swappedStores [tg] e X.env=pure none:=by rfl)
  (h1:(Fa [tg] X.env).map (·.2)=[Ea tg X.env]:=by rfl):PS X (.Assign [tg] e pos) (tAsg te g):=by
 intro pins s σ H D I h
 refine wpAny_Assign_stores (thn (he pins s σ H _ I h) λv s1 ⟨x,H1,I1,r1,q1⟩=>?_) hs hw
 rw[h1]
 exact thn (hg pins s1 σ H1 x v _ I1 r1 q1) λ_ s2 q=>q
theorem bp {i:Nat}{x:Str}{e:Expr}{te:TE}{pos':Pos}(hN:X.N.Nodup)(hi:X.N[i]? = some x)(hx:Loc X.env.scope x)(he:PE X e te)(hs:FW e (some (.Name x pos')) pos.line X.env=pure false:=by rfl)(hf:X.fn x=true∨X.env.scope.names.lookup x=some .local:=by first | exact .inl rfl | exact .inr rfl | assumption) :
  PS X (.Assign [.Name x pos'] e pos) (tAsg te (xh i)):=by
 intro pins s σ H D I h
 refine wpAny_Assign_Name (thn (he pins s σ H _ I h) λv s1 ⟨y,H1,I1,r1,q1⟩=>?_) hs
 exact mq I1 hN hi hx r1 (λs2 I2=>⟨_,H1,I2,q1⟩) hf
def tAug (i:Nat)(te:TE)(ti:TIp):TS:=λD σ H=>∃x,σ[i]? = some (some x)/\te σ H λy H1=>ti x y H1 λz H2=>D.nx (σ.set i (some z)) H2
theorem xT {i:Nat}{x:Str}{e:Expr}{te:TE}{op:Operator}{ti:TIp}{pos':Pos}(hN:X.N.Nodup)(hi:X.N[i]? = some x)(hx:Loc X.env.scope x)(he:PE X e te)(ho:PIp X op ti)(hf:X.fn x=true∨X.env.scope.names.lookup x=some .local:=by first | exact .inl rfl | exact .inr rfl | assumption) :
  PS X (.AugAssign (.Name x pos') op e pos) (tAug i te ti):=by
 intro pins s σ H D I h
 obtain⟨v,e1,h⟩:=h
 obtain⟨m,hn,hl⟩:=I.loc
 have vis:Vis X.env.scope x:=by rcases hx with k | k;exact .inl k;exact .inr (.inl k)
 obtain⟨u,r,l⟩:=hl i x v hi e1 vis
 refine wpAny_AugAssign_Name ?_
 have go:li (pc X.prog X.w) X.A (eval e X.env) (λw s₂=>li (pc X.prog X.w) X.A (inplaceOp op u w) (λr s₃=>li (pc X.prog X.w) X.A (Ki X.env x r) (λ_=>SP X pins D .next) X.xe s₃) X.xe s₂) X.xe s:=by
  refine thn (he pins s σ H _ I h) λw s1 ⟨y,H1,I1,r1,q1⟩=>?_
  refine thn (ho pins s1 σ H1 v y u w _ I1 r r1 q1) λz s2 ⟨zv,H2,I2,r2,q2⟩=>?_
  exact mq I2 hN hi hx r2 (λs3 I3=>⟨_,H2,I3,q2⟩) hf
 rcases l with⟨hk,hm⟩ | ⟨hk,c,hc,hcell⟩
 ·exact Ju I.ok.kind hk hn hm go
 ·rcases hk with hk | hk
  ·exact JL I.ok.kind hk hc hcell go
  ·rcases hx with k | k
   ·have:X.env.scope.names.lookup x=some .free:=hk
    rw[k]at this;cases this
   ·have:X.env.scope.names.lookup x=some .free:=hk
    rw[k]at this;cases this
def ipI (f:Int->Int->Int):TIp:=λx y H Q=>∃i j,x = .int i/\y = .int j/\Q (.int (f i j)) H
theorem x2:PIp X .Add (ipI λi j=>i+j):=by
 intro pins s σ H x y v u Q I r1 r2 h
 obtain⟨i,j,e1,e2,q⟩:=h
 subst e1;subst e2
 obtain⟨t,rfl⟩:=r1
 obtain⟨t',rfl⟩:=r2
 exact iadd_int ⟨.int _,H,I.tok _,⟨_,rfl⟩,q⟩
end
section
variable {X:Cx}{pos:Pos}
def xJ (c:TT)(tb:TS):TS:=λD σ H=>∃W:Nat->St->Hp->Prop,(∃m,W m σ H)/\∀m σ H,W m σ H ->
 c σ H λb H1=>if b=true then ∃N:St->Hp->Prop,(∀ σ' H',N σ' H'->∃m',m'<m/\W m' σ' H')/\tb {D with nx:=N,ct:=N,bk:=D.nx} σ H1 else D.nx σ H1
theorem mE {c:Expr}{body:List Stmt}{tc:TT}{tb:TS}(hp:PassesOwn (pc X.prog X.w) X.A X.env X.xe)(hc:PT X c tc)(hb:PSs X body tb):PS X (.While c body [] pos) (xJ tc tb):=by
 intro pins s σ H D I h
 obtain⟨W,⟨m0,w0⟩,turn⟩:=h
 refine wpAny_While (codeAny_whileLoop (λn s'=>∃ σ' H',Inv X pins σ' H' s'/\W n σ' H') ?_ m0 ⟨σ,H,I,w0⟩)
 rintro n s1 ⟨σ1,H1,I1,w1⟩
 refine Er hp (thn (hc pins s1 σ1 H1 _ I1 (turn n σ1 H1 w1)) λb s2 ⟨H2,I2,q2⟩=>?_)
 cases b with
 | true =>
  obtain⟨N,hN,q2⟩:=q2
  rw[if_pos rfl]
  refine Er hp (thn (hb pins s2 σ1 H2 _ I2 q2) λf s3 q3=>?_)
  cases f with
  | next =>
   obtain⟨σ3,H3,I3,n3⟩:=q3
   obtain⟨m',hm,w3⟩:=hN σ3 H3 n3
   exact⟨m',hm,σ3,H3,I3,w3⟩
  | cont =>
   obtain⟨σ3,H3,I3,n3⟩:=q3
   obtain⟨m',hm,w3⟩:=hN σ3 H3 n3
   exact⟨m',hm,σ3,H3,I3,w3⟩
  | brk=>exact q3
  | ret v=>exact q3
 | false =>
  rw[if_neg Ca]
  exact Gc ⟨σ1,H2,I2,q2⟩
end
structure It where
 go:Nat->Hp->Prop
 yld:Nat->Hp->V->Hp->Prop
 stop:Nat->Hp->Prop
def FpOk (X:Cx)(pins:List (Addr×Obj))(H:Hp)(b:Addr):Prop :=
 H b=none/\b≠X.env.locals/\b∉X.fs/\(b∈X.ex∨X.s₀.heap.objs.size<=b)/\(∀x c,X.env.cells.lookup x=some c->c≠b)/\∀p∈X.pn++pins,p.1≠b
theorem Inv.fpOk {X:Cx}{pins:List (Addr×Obj)}{σ:St}{H H':Hp}{s:ca}{b:Addr}(I:Inv X pins σ H s)(hb:s.heap.objs.size<=b)(hn:H' b=none):FpOk X pins H' b:=by
 refine⟨hn,CW (zn I.lt hb),I.nofs hb,.inr (xz I.sz hb),λx c e z=>?_,λp hp z=>?_⟩
 ·obtain⟨v,q⟩:=I.cell x c e
  exact absurd (zn q.lt (by rw[z];exact hb)) (D4 _)
 ·exact absurd (zn (lc (I.pin p hp).1) (by rw[z];exact hb)) (D4 _)
structure Turn (P:wS)(w:B_)(K:bi)(tg:Expr)(J:It)(fp:List Addr)(it:Addr)(tn:Nat->Heap->Prop):Prop where
 mem:it∈fp
 obj:∀i h,tn i h->∀b∈fp,∃o,h.get? b=some o/\∀v,o.data ≠ .cell v
 keep:∀i h h',tn i h->(∀b∈fp,∀o,h.get? b=some o->h'.get? b=some o)->tn i h'
 item:∀(X:Cx),X.prog=P->X.w=w->X.K=K->X.calm=true->∀(i:Nat) (pins:List (Addr×Obj)) (s:ca) (σ:St) (H:Hp) (E:bn->ca->Prop),Inv X pins σ H s->(∀b∈fp,FpOk X pins H b)->tn i s.heap->J.go i H ->
  li (pc P w) X.A (Et (.ref it)) (λr s1=>∃u,r=some u /\
   li (pc P w) X.A (Dh tg (.ref it) u) (λ_ s2=>∃x H',Inv X pins σ H' s2/\RelV x u/\J.yld i H x H'/\tn (i+1) s2.heap/\∀b∈fp,H' b=none) E s1) E s
 done:∀(X:Cx),X.prog=P->X.w=w->X.K=K->X.calm=true->∀(i:Nat) (pins:List (Addr×Obj)) (s:ca) (σ:St) (H:Hp) (E:bn->ca->Prop),Inv X pins σ H s->(∀b∈fp,FpOk X pins H b)->tn i s.heap->J.stop i H ->
  li (pc P w) X.A (Et (.ref it)) (λr s1=>r=none/\Inv X pins σ H s1) E s
 self:∀(A:Cg) (i:Nat) (s:ca) (Q:bn->ca->Prop) (E:bn->ca->Prop),tn i s.heap->Q (.ref it) s->li (pc P w) A (Gu (.ref it)) Q E s
abbrev TI:=St->Hp->(It->Hp->Prop)->Prop
def PIE (X:Cx)(pins:List (Addr×Obj))(σ:St)(tg:Expr)(R:It->Hp->Prop)(itv:bn)(s2:ca):Prop :=
 ∃(it:Addr) (fp:List Addr) (tn:Nat->Heap->Prop) (J:It) (H':Hp),itv = .ref it/\Inv X pins σ H' s2/\Turn X.prog X.w X.K tg J fp it tn/\tn 0 s2.heap/\(∀b∈fp,FpOk X pins H' b)/\R J H'
def PI (X:Cx)(tg iter:Expr)(wi:TI):Prop :=
 ∀(pins:List (Addr×Obj)) (s:ca) (σ:St) (H:Hp) (R:It->Hp->Prop),Inv X pins σ H s->wi σ H R ->
  li (pc X.prog X.w) X.A (eval iter X.env) (λv s1=>li (pc X.prog X.w) X.A (Gu v) (PIE X pins σ tg R) X.xe s1) X.xe s
theorem vd {M:Model}{A:Cg}{E:bn->ca->Prop}{s:ca}{tg:Expr}{it:Addr}{u:bn}{o:Obj}{n:String}{vs:Array bn}{Q:Unit->ca->Prop}(ho:s.heap.get? it=some o)(hc:o.cls = .type n)(hd:o.data = .fields vs)
  (hn:["enumerate", "zip", "dict_itemiterator", "dict_reverseitemiterator", "odict_iterator", "itertools.zip_longest", "itertools.pairwise"].contains n=false) (hQ:Q () s):li M A (Dh tg (.ref it) u) Q E s:=by
 unfold Dh
 cases tg <;> first
  | exact dL hQ
  | (cases u <;> first
    | exact dL hQ
    | (refine bm (JS ho ?_);rw[hc,hd];show li M A (if(["enumerate", "zip", "dict_itemiterator", "dict_reverseitemiterator", "odict_iterator", "itertools.zip_longest", "itertools.pairwise"].contains n&&vs[0]? == some (DT _))=true then _ else _) Q E s;rw[if_neg (by intro h;rw[hn,D8]at h;cases h)];exact dL hQ))
def Itl (K:bi)(a:Addr):It :=
 ⟨λi H=>∃xs x,SqL K H a xs/\xs[i]? = some x,λi H x H'=>H'=H/\∀xs,SqL K H a xs->xs[i]? = some x,λi H=>∃xs,SqL K H a xs/\xs.length<=i⟩
def Itt (K:bi)(a:Addr):It :=
 ⟨λi H=>∃xs x,SqT K H a xs/\xs[i]? = some x,λi H x H'=>H'=H/\∀xs,SqT K H a xs->xs[i]? = some x,λi H=>∃xs,SqT K H a xs/\xs.length<=i⟩
def Itr (lo:Int)(n:Nat):It:=⟨λi _=>i<n,λi H x H'=>H'=H/\x = .int (lo+i),λi _=>n<=i⟩
theorem tG {P:wS}{w:B_}{K:bi}{tg:Expr}(a it:Addr):Turn P w K tg (Itl K a) [it] it (λi h=>h.IsListIter it a i) where
 mem:=by simp
 obj:=λi h st b hb=>by
  have e:b=it:=by simpa using hb
  subst e
  obtain⟨o,e,c,d⟩:=st
  exact⟨o,e,λv z=>by rw[d]at z;cases z⟩
 keep:=λi h h' st k=>st.at λo e=>k it (by simp) o e
 item:=by
  intro X hP hw hK hc i pins s σ H E I hf st hg
  subst hP hw hK
  obtain⟨xs,x,hq,hx⟩:=hg
  obtain⟨its,rv,p,hz⟩:=I.list hq
  obtain⟨u,hu,ru⟩:=rv.get hx
  obtain⟨f0,f1,f2,f3,f4,f5⟩:=hf it (by simp)
  refine wpAny_pyNext_list_item st p.isList (x:=u) (by simpa using hu) λh' st' sb=>?_
  have I1:Inv X pins σ H {s with heap:=h'}:=I.turned (t':=s.toks) (λb o hb e=>(sb.2 b hb).trans e) f0 f1 f3 f4 f5
  obtain⟨o,e,c,d⟩:=id st'
  exact⟨u,rfl,vd (s:={s with heap:=h'}) e c d (by decide) ⟨x,H,I1,ru,⟨rfl,λys hy=>by rw[I.list_inj hy hq];exact hx⟩,st',λb hb=>(hf b hb).1⟩⟩
 done:=by
  intro X hP hw hK hc i pins s σ H E I hf st hg
  subst hP hw hK
  obtain⟨xs,hq,hx⟩:=hg
  obtain⟨its,rv,p,hz⟩:=I.list hq
  obtain⟨f0,f1,f2,f3,f4,f5⟩:=hf it (by simp)
  have hl:=rv.length
  exact wpAny_pyNext_list_end (I.ok.hd hc) st p.isList (by simp;omega) λh' eb=>⟨rfl,I.turned (t':=s.toks) (λb o hb e=>eb b o hb e) f0 f1 f3 f4 f5⟩
 self:=λ_ _ _ _ _ st h=>wpAny_pyIter_listiter st h
theorem sd {P:wS}{w:B_}{K:bi}{tg:Expr}(a it:Addr):Turn P w K tg (Itt K a) [it] it (λi h=>h.IsTupleIter it a i) where
 mem:=by simp
 obj:=λi h st b hb=>by
  have e:b=it:=by simpa using hb
  subst e
  obtain⟨o,e,c,d⟩:=st
  exact⟨o,e,λv z=>by rw[d]at z;cases z⟩
 keep:=λi h h' st k=>st.at λo e=>k it (by simp) o e
 item:=by
  intro X hP hw hK hc i pins s σ H E I hf st hg
  subst hP hw hK
  obtain⟨xs,x,hq,hx⟩:=hg
  obtain⟨its,rv,p,hz⟩:=I.tuple hq
  obtain⟨u,hu,ru⟩:=rv.get hx
  obtain⟨f0,f1,f2,f3,f4,f5⟩:=hf it (by simp)
  refine wpAny_pyNext_tuple_item st (show s.heap.IsTuple a its.toArray from p) (x:=u) (by simpa using hu) λh' st' sb=>?_
  have I1:Inv X pins σ H {s with heap:=h'}:=I.turned (t':=s.toks) (λb o hb e=>(sb.2 b hb).trans e) f0 f1 f3 f4 f5
  obtain⟨o,e,c,d⟩:=id st'
  exact⟨u,rfl,vd (s:={s with heap:=h'}) e c d (by decide) ⟨x,H,I1,ru,⟨rfl,λys hy=>by rw[I.tuple_inj hy hq];exact hx⟩,st',λb hb=>(hf b hb).1⟩⟩
 done:=by
  intro X hP hw hK hc i pins s σ H E I hf st hg
  subst hP hw hK
  obtain⟨xs,hq,hx⟩:=hg
  obtain⟨its,rv,p,hz⟩:=I.tuple hq
  obtain⟨f0,f1,f2,f3,f4,f5⟩:=hf it (by simp)
  have hl:=rv.length
  exact wpAny_pyNext_tuple_end (I.ok.hd hc) st (show s.heap.IsTuple a its.toArray from p) (by simp;omega) λh' eb=>⟨rfl,I.turned (t':=s.toks) (λb o hb e=>eb b o hb e) f0 f1 f3 f4 f5⟩
 self:=λ_ _ _ _ _ st h=>wpAny_pyIter_tupleiter st h
theorem se {P:wS}{w:B_}{K:bi}{tg:Expr}(it:Addr)(lo:Int)(n:Nat):Turn P w K tg (Itr lo n) [it] it (λi h=>IsRangeIter h it (lo+(i:Nat)*1) ((n:Int) - (i:Nat)) 1) where
 mem:=by simp
 obj:=λi h st b hb=>by
  have e:b=it:=by simpa using hb
  subst e
  exact⟨_,st,λv z=>by
   have z':Data.fields _=Data.cell v:=z
   cases z'⟩
 keep:=λi h h' st k=>k it (by simp) _ st
 item:=by
  intro X hP hw hK hc i pins s σ H E I hf st hg
  subst hP hw hK
  obtain⟨f0,f1,f2,f3,f4,f5⟩:=hf it (by simp)
  have W:=Walks.range (prog:=X.prog) (w:=X.w) (I.ok.hd hc) it lo 1 n
  refine W.item i s _ _ hg st λv h' tk hv st' kk=>?_
  obtain⟨t,rfl⟩:=hv
  have I1:Inv X pins σ H {s with heap:=h',toks:=tk}:=I.turned (λb o hb e=>kk b o (by simpa using hb) e) f0 f1 f3 f4 f5
  refine⟨_,rfl,vd (s:={s with heap:=h',toks:=tk}) (n := "range_iterator") st' rfl rfl (by decide) ⟨.int (lo+i),H,I1,⟨t,?_⟩,⟨rfl,rfl⟩,st',λb hb=>(hf b hb).1⟩⟩
  rw[Int.mul_one]
 done:=by
  intro X hP hw hK hc i pins s σ H E I hf st hg
  subst hP hw hK
  obtain⟨f0,f1,f2,f3,f4,f5⟩:=hf it (by simp)
  exact wpAny_pyNext_range_end (I.ok.hd hc) st (by have:n<=i:=hg;omega) λh' eb=>⟨rfl,I.turned (t':=s.toks) (λb o hb e=>eb b o hb e) f0 f1 f3 f4 f5⟩
 self:=λ_ _ _ _ _ st h=>wpAny_pyIter_rangeiter st h
section
variable {X:Cx}{tg:Expr}
theorem rn {pins:List (Addr×Obj)}{σ:St}{H:Hp}{s:ca}{R:It->Hp->Prop}{E:bn->ca->Prop}{lo hi:Int}{t u v:Tok}{tk:Nat}(I:Inv X pins σ H s)(h1:-(2^62)<=lo)(h2:lo<2^62)(h3:-(2^62)<=hi)(h4:hi<2^62)
  (q:R (Itr lo (hi - lo).toNat) H):li (pc X.prog X.w) X.A (Gu (.ref s.heap.objs.size)) (PIE X pins σ tg R) E {s with heap:=s.heap.push {cls:=.type "range",data:=.fields #[.int lo t,.int hi u,.int 1 v]},toks:=tk}:=by
 refine wpAny_pyIter_range (IsRange.new ..) (small_one h1 h2 h3 h4) ?_
 have I1:Inv X pins σ H {s with heap:=s.heap.push {cls:=.type "range",data:=.fields #[.int lo t,.int hi u,.int 1 v]},toks:=tk}:=I.kept λb o e=>db _ e
 refine⟨(s.heap.push {cls:=.type "range",data:=.fields #[.int lo t,.int hi u,.int 1 v]}).objs.size,[(s.heap.push {cls:=.type "range",data:=.fields #[.int lo t,.int hi u,.int 1 v]}).objs.size],_,_,H,rfl,
  I1.kept (t':=tk) λb o e=>db _ e,se _ lo (hi - lo).toNat,?_,λb hb=>?_,q⟩
 ·have e1:lo+((0:Nat):Int)*1=lo:=by simp
  have e2:(((hi - lo).toNat:Nat):Int) - ((0:Nat):Int)=GL lo hi 1:=by rw[rangeSize_one];split <;> omega
  show IsRangeIter _ _ (lo+((0:Nat):Int)*1) ((((hi - lo).toNat:Nat):Int) - ((0:Nat):Int)) 1
  rw[e1,e2]
  exact wn _ rfl
 ·have e:b=(s.heap.push {cls:=.type "range",data:=.fields #[.int lo t,.int hi u,.int 1 v]}).objs.size:=by simpa using hb
  subst e
  exact I1.fpOk (lm _) (I1.hok.fresh (lm _))
def AX (ta:TA):TI:=λσ H R=>ta σ H λvs H1=>∃j:Int,vs=[.int j]/\-(2^62)<=j/\j<2^62/\R (Itr 0 j.toNat) H1
def AW (ta:TA):TI:=λσ H R=>ta σ H λvs H1=>∃i j:Int,vs=[.int i,.int j]/\(-(2^62)<=i/\i<2^62/\-(2^62)<=j/\j<2^62)/\R (Itr i (j - i).toNat) H1
theorem fc {a:Expr}{ta:TA}{p pos:Pos}(hg:Gl X "range")(hm:X.mg "range" = none)(ha:PA X [a] ta)(hs:B4 [a] X.env=[(false,eval a X.env)]:=by rfl):PI X tg (.Call (.Name "range" p) [a] [] pos) (AX ta):=by
 intro pins s σ H R I h
 refine HR (fj I hg hm boot_range (Cy (thn (ha pos pins s σ H _ I h) λus s1 ⟨vs,H1,I1,r1,q1⟩=>?_) hs rfl))
 obtain⟨j,e,q1,q2,q⟩:=q1
 subst e
 cases r1 with
 | cons r rr =>
  cases rr
  obtain⟨t,rfl⟩:=r
  exact call_range_1 (rn I1 (by omega) (by omega) q1 q2 (by simpa using q))
theorem uB {a b:Expr}{ta:TA}{p pos:Pos}(hg:Gl X "range")(hm:X.mg "range" = none)(ha:PA X [a,b] ta)(hs:B4 [a,b] X.env=[(false,eval a X.env),(false,eval b X.env)]:=by rfl)(hs2:B4 [b] X.env=[(false,eval b X.env)]:=by rfl) :
  PI X tg (.Call (.Name "range" p) [a,b] [] pos) (AW ta):=by
 intro pins s σ H R I h
 refine HR (fj I hg hm boot_range (Cy (thn (ha pos pins s σ H _ I h) λus s1 ⟨vs,H1,I1,r1,q1⟩=>?_) (by rw[hs,hs2]) (by rw[hs2];rfl)))
 obtain⟨i,j,e,⟨q1,q2,q3,q4⟩,q⟩:=q1
 subst e
 cases r1 with
 | cons r rr =>
  cases rr with
  | cons r' rr =>
   cases rr
   obtain⟨t,rfl⟩:=r
   obtain⟨t',rfl⟩:=r'
   exact call_range_2 (rn I1 q1 q2 q3 q4 q)
def tFor (wi:TI)(g:TG)(tb:TS):TS:=λD σ H=>wi σ H λJ H1=>∃W:Nat->Nat->St->Hp->Prop,(∃m,W 0 m σ H1)/\∀i m σ H,W i m σ H ->
 (J.stop i H/\D.nx σ H)∨(J.go i H/\∃N:St->Hp->Prop,(∀ σ' H',N σ' H'->∃m',m'<m/\W (i+1) m' σ' H')/\∀x H',J.yld i H x H'->g x σ H' λσ2 H2=>tb {D with nx:=N,ct:=N,bk:=D.nx} σ2 H2)
def fW (fp:List Addr)(h:Heap):List (Addr×Obj):=fp.filterMap λb=>(h.get? b).map λo=>(b,o)
theorem bX {fp:List Addr}{h:Heap}{b:Addr}{o:Obj}(hb:b∈fp)(e:h.get? b=some o):(b,o)∈fW fp h:=I_.mpr ⟨b,hb,by rw[e];rfl⟩
theorem n6 {fp:List Addr}{h:Heap}{p:Addr×Obj}(hp:p∈fW fp h):p.1∈fp/\h.get? p.1=some p.2:=by
 obtain⟨b,hb,e⟩:=I_.mp hp
 cases q:h.get? b with
 | none=>rw[q]at e;cases e
 | some o =>
  rw[q]at e
  have e':(b,o)=p:=Di e
  subst e'
  exact⟨hb,q⟩
theorem Inv.pinned {pins:List (Addr×Obj)}{σ:St}{H:Hp}{s:ca}{fp:List Addr}(I:Inv X pins σ H s)(hf:∀b∈fp,FpOk X pins H b)(ho:∀b∈fp,∃o,s.heap.get? b=some o/\∀v,o.data ≠ .cell v):Inv X (pins++fW fp s.heap) σ H s :=
 I.pins_of λp hp=>(xL.mp hp).elim (λz=>I.pin p (im _ z)) λz=>by
  obtain⟨hb,e⟩:=n6 z
  obtain⟨f0,f1,f2,_⟩:=hf p.1 hb
  obtain⟨o,e',d⟩:=ho p.1 hb
  rw[e]at e';cases e'
  exact⟨e,f0,f1,f2,d⟩
theorem Inv.unpinned {pins pl:List (Addr×Obj)}{σ:St}{H:Hp}{s:ca}(I:Inv X (pins++pl) σ H s):Inv X pins σ H s:=I.pins_of λp hp=>I.pin p (im _ (BW _ hp))
theorem e_ {iter:Expr}{body:List Stmt}{wi:TI}{g:TG}{tb:TS}{pos:Pos}(hp:PassesOwn (pc X.prog X.w) X.A X.env X.xe)(hc:X.calm=true)(hi:PI X tg iter wi)(hg:PG X tg g)(hb:PSs X body tb)
  (hs:∀x,C7 iter X.env x=pure x:=by intro _;rfl):PS X (.For tg iter body [] pos) (tFor wi g tb):=by
 intro pins s σ H D I h
 refine wpAny_For (thn (hi pins s σ H _ I h) λv s1 h1=>thn h1 λitv s2 h2=>?_) hs
 obtain⟨it,fp,tn,J,H2,e,I2,T,st2,f2,W,⟨m0,w0⟩,turn⟩:=h2
 subst e
 have stat:∀ {H':Hp},(∀b∈fp,H' b=none)->∀b∈fp,FpOk X pins H' b:=λhn b hb=>⟨hn b hb,(f2 b hb).2⟩
 refine codeAny_forLoop_any (λn s'=>∃i σ' H',Inv X pins σ' H' s'/\tn i s'.heap/\(∀b∈fp,H' b=none)/\W i n σ' H') ?_ m0 ⟨0,σ,H2,I2,st2,λb hb=>(f2 b hb).1,w0⟩
 rintro n s3 ⟨i,σ3,H3,I3,st3,fr3,w3⟩
 rcases turn i n σ3 H3 w3 with⟨stop,qn⟩ | ⟨go,N,hN,step⟩
 ·refine Er hp (thn (T.done X rfl rfl rfl hc i pins s3 σ3 H3 X.xe I3 (stat fr3) st3 stop) λr s4 ⟨hr,I4⟩=>?_)
  subst hr
  exact Gc ⟨σ3,H3,I4,qn⟩
 ·refine Er hp (thn (T.item X rfl rfl rfl hc i pins s3 σ3 H3 X.xe I3 (stat fr3) st3 go) λr s4 ⟨u,hr,h4⟩=>?_)
  subst hr
  refine Er hp (thn h4 λ_ s5 ⟨x,H5,I5,r5,y5,st5,fr5⟩=>?_)
  have I5':=I5.pinned (stat fr5) (T.obj _ _ st5)
  refine Er hp (thn (hg _ s5 σ3 H5 x u _ I5' r5 (step x H5 y5)) λ_ s6 ⟨σ6,H6,I6,q6⟩=>?_)
  refine Er hp (thn (hb _ s6 σ6 H6 _ I6 q6) λf s7 q7=>?_)
  have Ip:∀ {σ7:St} {H7:Hp},Inv X (pins++fW fp s5.heap) σ7 H7 s7->N σ7 H7->∃m,m<n/\∃i σ' H',Inv X pins σ' H' s7/\tn i s7.heap/\(∀b∈fp,H' b=none)/\W i m σ' H':=λ{σ7 H7} I7 n7=>by
   obtain⟨m',hm,w7⟩:=hN σ7 H7 n7
   refine⟨m',hm,i+1,σ7,H7,I7.unpinned,T.keep _ _ _ st5 λb hb o e=>(I7.pin (b,o) (im _ (im _ (bX hb e)))).1,λb hb=>?_,w7⟩
   obtain⟨o,e,d⟩:=T.obj _ _ st5 b hb
   exact(I7.pin (b,o) (im _ (im _ (bX hb e)))).2.1
  cases f with
  | next=>obtain⟨σ7,H7,I7,n7⟩:=q7;exact Ip I7 n7
  | cont=>obtain⟨σ7,H7,I7,n7⟩:=q7;exact Ip I7 n7
  | brk=>obtain⟨σ7,H7,I7,q7⟩:=q7;exact⟨σ7,H7,I7.unpinned,q7⟩
  | ret v=>obtain⟨x7,σ7,H7,I7,r7,q7⟩:=q7;exact⟨x7,σ7,H7,I7.unpinned,r7,q7⟩
end
abbrev R2:=V->V->Hp->VK->Prop
def OpR (X:Cx)(f:bn->bn->Sem bn)(r:R2):Prop :=
 ∀(pins:List (Addr×Obj)) (s:ca) (σ:St) (H:Hp) (x y:V) (v u:bn) (Q:VK),Inv X pins σ H s->RelV x v->RelV y u->r x y H Q ->
  li (pc X.prog X.w) X.A (f v u) (EP X pins σ Q) X.xe s
def ik (X:Cx)(f:bn)(r:List V->Hp->VK->Prop):Prop :=
 ∀(pins:List (Addr×Obj)) (s:ca) (σ:St) (H:Hp) (xs:List V) (us:List bn) (Q:VK),Inv X pins σ H s->Vals xs us->r xs H Q ->
  li (pc X.prog X.w) X.A (call f us) (EP X pins σ Q) X.xe s
def TruR (X:Cx)(r:V->Hp->(Bool->Hp->Prop)->Prop):Prop :=
 ∀(pins:List (Addr×Obj)) (s:ca) (σ:St) (H:Hp) (x:V) (v:bn) (Q:Bool->Hp->Prop),Inv X pins σ H s->RelV x v->r x H Q ->
  li (pc X.prog X.w) X.A (truthy v) (TP X pins σ Q) X.xe s
def tOp (r:R2)(ta tb:TE):TE:=λσ H Q=>ta σ H λx H1=>tb σ H1 λy H2=>r x y H2 Q
def rI (C:Int->Int->Prop)(g:Int->Int->V):R2:=λx y H Q=>∃i j,x = .int i/\y = .int j/\C i j/\Q (g i j) H
def rI0 (g:Int->Int->V):R2:=λx y H Q=>∃i j,x = .int i/\y = .int j/\Q (g i j) H
section
variable {X:Cx}{a b c:Expr}{ta tb tc:TE}{pos:Pos}
theorem binT (ha:PE X a ta)(hb:PE X b tb){pins:List (Addr×Obj)}{s:ca}{σ:St}{H:Hp}{R:V->V->Hp->Prop}(I:Inv X pins σ H s)
  (h:ta σ H λx H1=>tb σ H1 λy H2=>R x y H2) {Q:bn->ca->Prop} {f:bn->bn->Sem bn}
  (hf:∀v u s2 x y H2,Inv X pins σ H2 s2->RelV x v->RelV y u->R x y H2->li (pc X.prog X.w) X.A (f v u) Q X.xe s2) :
  li (pc X.prog X.w) X.A (eval a X.env) (λv s₁=>li (pc X.prog X.w) X.A (eval b X.env) (λu s₂=>li (pc X.prog X.w) X.A (f v u) Q X.xe s₂) X.xe s₁) X.xe s:=by
 refine thn (ha pins s σ H _ I h) λv s1 ⟨x,H1,I1,r1,q1⟩=>?_
 refine thn (hb pins s1 σ H1 _ I1 q1) λu s2 ⟨y,H2,I2,r2,q2⟩=>?_
 exact hf v u s2 x y H2 I2 r1 r2 q2
theorem be {op:Operator}{r:R2}(ho:OpR X (EY op) r)(ha:PE X a ta)(hb:PE X b tb):PE X (.BinOp a op b pos) (tOp r ta tb):=by
 intro pins s σ H Q I h
 exact wpAny_BinOp (binT ha hb I h λv u s2 x y H2 I2 rx ry q=>ho pins s2 σ H2 x y v u Q I2 rx ry q)
theorem opI {f:bn->bn->Sem bn}{C:Int->Int->Prop}{g:Int->Int->Int}
  (rule:∀(i j:Int) (t u:Tok) (s:ca) (Q:bn->ca->Prop) (E:bn->ca->Prop),C i j->Q (.int (g i j) s.toks) {s with toks:=s.toks+1}->li (pc X.prog X.w) X.A (f (.int i t) (.int j u)) Q E s) :
  OpR X f (rI C λi j=>.int (g i j)):=by
 intro pins s σ H x y v u Q I rx ry h
 obtain⟨i,j,rfl,rfl,hc,q⟩:=h
 obtain⟨t,rfl⟩:=rx
 obtain⟨t',rfl⟩:=ry
 exact rule i j t t' s _ _ hc ⟨.int (g i j),H,I.tok _,⟨_,rfl⟩,q⟩
theorem opI0 {f:bn->bn->Sem bn}{g:Int->Int->Int}
  (rule:∀(i j:Int) (t u:Tok) (s:ca) (Q:bn->ca->Prop) (E:bn->ca->Prop),Q (.int (g i j) s.toks) {s with toks:=s.toks+1}->li (pc X.prog X.w) X.A (f (.int i t) (.int j u)) Q E s) :
  OpR X f (rI0 λi j=>.int (g i j)):=by
 intro pins s σ H x y v u Q I rx ry h
 obtain⟨i,j,rfl,rfl,q⟩:=h
 obtain⟨t,rfl⟩:=rx
 obtain⟨t',rfl⟩:=ry
 exact rule i j t t' s _ _ ⟨.int (g i j),H,I.tok _,⟨_,rfl⟩,q⟩
theorem opB0 {f:bn->bn->Sem bn}{g:Int->Int->Bool}
  (rule:∀(i j:Int) (t u:Tok) (s:ca) (Q:bn->ca->Prop) (E:bn->ca->Prop),Q (.bool (g i j)) s->li (pc X.prog X.w) X.A (f (.int i t) (.int j u)) Q E s) :
  OpR X f (rI0 λi j=>.bl (g i j)):=by
 intro pins s σ H x y v u Q I rx ry h
 obtain⟨i,j,rfl,rfl,q⟩:=h
 obtain⟨t,rfl⟩:=rx
 obtain⟨t',rfl⟩:=ry
 exact rule i j t t' s _ _ ⟨.bl (g i j),H,I,rfl,q⟩
def CPow (i j:Int):Prop:=0<=j/\j<=1000000/\i.natAbs<2^64
def CMul (i j:Int):Prop:=(-(2^64)<i/\i<2^64)∨(-(2^64)<j/\j<2^64)
theorem CMul.ok {i j:Int}(h:CMul i j):IntMulOk i j:=by
 rcases h with⟨h1,h2⟩ | ⟨h1,h2⟩
 ·exact .of_left (intBits_le_64 h1 h2)
 ·exact .of_right (intBits_le_64 h1 h2)
theorem eP:OpR X (EY .Add) (rI0 λi j=>.int (i+j)):=opI0 λ_ _ _ _ _ _ _ q=>add_int q
theorem gr:OpR X (EY .Sub) (rI0 λi j=>.int (i - j)):=opI0 λ_ _ _ _ _ _ _ q=>sub_int q
theorem nW:OpR X (EY .Mult) (rI CMul λi j=>.int (i*j)):=opI λ_ _ _ _ _ _ _ hc q=>mul_int q hc.ok
theorem kj:OpR X (EY .Mod) (rI (λ_ j=>0<j) λi j=>.int (i % j)):=opI λi j _ _ _ _ _ hc q=>by
 have h1:(0:Int)<j:=hc
 exact mod_int' (by omega) (by rw[Int.fmod_eq_emod_of_nonneg i (by omega)];exact q)
theorem uE:OpR X (EY .Pow) (rI CPow λi j=>.int (i^j.toNat)):=opI λ_ _ _ _ _ _ _ hc q=>pow_int_small hc.1 hc.2.1 hc.2.2 q
theorem nU:OpR X (EY .LShift) (rI CPow λi j=>.int (i*2^j.toNat)):=opI λ_ _ _ _ _ _ _ hc q=>lshift_int_small hc.1 hc.2.1 hc.2.2 q
theorem nX:OpR X (EY .BitAnd) (rI0 λi j=>.int (CM i j)):=opI0 λ_ _ _ _ _ _ _ q=>and_int q
theorem nR:OpR X (EY .BitXor) (rI0 λi j=>.int (EI i j)):=opI0 λ_ _ _ _ _ _ _ q=>xor_int q
end
section
variable {X:Cx}{a b c:Expr}{ta tb tc:TE}{pos:Pos}
theorem A5 {pins:List (Addr×Obj)}{σ:St}{H:Hp}{s:ca}{Q:VK}{k k':Bool}(I:Inv X pins σ H s)(q:Q (.bl k) H)(e:k=k'):EP X pins σ Q (.bool k') s:=by
 subst e
 exact⟨.bl k,H,I,rfl,q⟩
theorem yR:OpR X (Dx .Lt) (rI0 λi j=>.bl (decide (i<j))):=opB0 λ_ _ _ _ _ _ _ q=>lt_int q
theorem mH:OpR X (Dx .LtE) (rI0 λi j=>.bl (decide (i<=j))):=opB0 λ_ _ _ _ _ _ _ q=>le_int q
theorem sE:OpR X (Dx .Gt) (rI0 λi j=>.bl (decide (j<i))):=opB0 λ_ _ _ _ _ _ _ q=>gt_int q
theorem yS:OpR X (Dx .GtE) (rI0 λi j=>.bl (decide (j<=i))):=opB0 λ_ _ _ _ _ _ _ q=>ge_int q
theorem Ao:OpR X (Dx .Is) (λx y H Q=>y = .non/\Q (.bl (decide (x = .non))) H):=by
 intro pins s σ H x y v u Q I rx ry h
 obtain⟨rfl,q⟩:=h
 cases ry
 refine is_none_gen (A5 I q ?_)
 cases x <;> first
  | (cases rx;rfl)
  | (obtain⟨t,rfl⟩:=rx;rfl)
theorem bR (b:Expr){op:JE}(h:op ≠ .In:=by decide)(h2:op ≠ .NotIn:=by decide):Fh op b=false:=by
 have e1:(op==CmpOp.In)=false:=by cases op <;> first | rfl | exact absurd rfl h
 have e2:(op==CmpOp.NotIn)=false:=by cases op <;> first | rfl | exact absurd rfl h2
 cases b <;> simp[Fh,e1,e2]
theorem eE {op:JE}{r:R2}(ho:OpR X (Dx op) r)(ha:PE X a ta)(hb:PE X b tb)(hm:Fh op b=false):PE X (.Compare a [op] [b] pos) (tOp r ta tb):=by
 intro pins s σ H Q I h
 exact wpAny_Compare1 (binT ha hb I h λv u s2 x y H2 I2 rx ry q=>ho pins s2 σ H2 x y v u Q I2 rx ry q) hm
def z5 (t:TE):TT:=λσ H Q=>t σ H λx H'=>∃k,x = .bl k/\Q k H'
theorem bA {op:JE}{r:R2}(ho:OpR X (Dx op) r)(ha:PE X a ta)(hb:PE X b tb)(hm:Fh op b=false):PT X (.Compare a [op] [b] pos) (z5 (tOp r ta tb)):=by
 intro pins s σ H Q I h
 refine Jm (thn (ha pins s σ H _ I h) λv s1 ⟨x,H1,I1,r1,q1⟩=>thn (hb pins s1 σ H1 _ I1 q1) λu s2 ⟨y,H2,I2,r2,q2⟩ =>
  thn (ho pins s2 σ H2 x y v u _ I2 r1 r2 q2) λc s3 ⟨z,H3,I3,r3,k,e,q3⟩=>?_) hm
 subst e
 cases r3
 exact Dr ⟨H3,I3,q3⟩
def xM (r r':R2)(ta tb tc:TE):TE:=λσ H Q=>ta σ H λx H1=>tb σ H1 λy H2=>r x y H2 λz H3=>∃k,z = .bl k /\
 (if k=true then tc σ H3 λw' H4=>r' y w' H4 Q else Q (.bl false) H3)
theorem mG {op op':JE}{r r':R2}(ho:OpR X (Dx op) r)(ho':OpR X (Dx op') r')(ha:PE X a ta)(hb:PE X b tb)(hc:PE X c tc)
  (hm:lastMarks [op,op'] [b,c]=false:=by with_unfolding_all rfl):PE X (.Compare a [op,op'] [b,c] pos) (xM r r' ta tb tc):=by
 intro pins s σ H Q I h
 refine Compare_chain (thn (ha pins s σ H _ I h) λv s1 ⟨x,H1,I1,r1,q1⟩=>chain_link (thn (hb pins s1 σ H1 _ I1 q1) λu s2 ⟨y,H2,I2,r2,q2⟩ =>
  thn (ho pins s2 σ H2 x y v u _ I2 r1 r2 q2) λd s3 ⟨z,H3,I3,r3,k,e,q3⟩=>?_)) hm
 subst e
 cases r3
 refine Dr ?_
 cases k with
 | false=>exact ite_ff ⟨.bl false,H3,I3,rfl,q3⟩
 | true=>exact ite_tt (chain_last (thn (hc pins s3 σ H3 _ I3 q3) λw' s4 ⟨z',H4,I4,r4,q4⟩=>ho' pins s4 σ H4 y z' u w' Q I4 r2 r4 q4))
def TruV (K:bi)(x:V)(H:Hp)(k:Bool):Prop :=
 match x with
 | .non=>k=false
 | .bl b=>k=b
 | .int i=>k=(i != 0)
 | .str y=>y.length<=wT/\k=((y.length:Int) != 0)
 | .byt y=>y.size<=wT/\k=((y.size:Int) != 0)
 | .ref p=>(∃xs,SqL K H p xs/\k = !xs.isEmpty)∨(∃xs,SqT K H p xs/\k = !xs.isEmpty) ∨ ∃kvs,H p=some (.dK kvs)/\k = !kvs.isEmpty
 | _=>False
theorem sT {κ:Type}{kvs:List (κ×V)}{vs:List (κ×bn)}(r:KV kvs vs):(!vs.isEmpty) = !kvs.isEmpty:=by
 cases r <;> rfl
theorem lP {xs:List V}{its:List bn}(r:Vals xs its):(!its.toArray.isEmpty) = !xs.isEmpty:=by
 cases r <;> simp
theorem oo:(wT:Nat)<2^63:=by rw[FO];decide
theorem zW:TruR X (λx H Q=>∃k,TruV X.K x H k/\Q k H):=by
 intro pins s σ H x v Q I rx h
 obtain⟨k,e,q⟩:=h
 have hl:=oo
 have hs:wT=16777216:=FO
 cases x with
 | non =>
  cases rx
  have e':k=false:=e
  subst e'
  exact truthy_none ⟨H,I,q⟩
 | bl b =>
  cases rx
  have e':k=b:=e
  subst e'
  exact Dr ⟨H,I,q⟩
 | int i =>
  obtain⟨t,rfl⟩:=rx
  have e':k=(i != 0):=e
  subst e'
  exact PySem.P.truthy_int ⟨H,I,q⟩
 | str y =>
  obtain⟨t,rfl⟩:=rx
  obtain⟨hy,e'⟩:y.length<=wT/\k=((y.length:Int) != 0):=e
  subst e'
  exact PySem.P.truthy_str (by omega) ⟨H,I.tok _,q⟩
 | byt y =>
  obtain⟨t,rfl⟩:=rx
  obtain⟨hy,e'⟩:y.size<=wT/\k=((y.size:Int) != 0):=e
  subst e'
  exact PySem.W.truthy_bytes (by omega) ⟨H,I.tok _,q⟩
 | ref p =>
  cases rx
  have e':(∃xs,SqL X.K H p xs/\k = !xs.isEmpty)∨(∃xs,SqT X.K H p xs/\k = !xs.isEmpty) ∨ ∃kvs,H p=some (.dK kvs)/\k = !kvs.isEmpty:=e
  rcases e' with⟨xs,hx,e'⟩ | ⟨xs,hx,e'⟩ | ⟨kvs,hx,e'⟩
  ·subst e'
   obtain⟨its,r,pl,hz⟩:=I.list hx
   have hlen:=r.length
   exact wpAny_truthy_list pl.isList (by simp only[on];omega) ⟨H,I.tok _,by rw[lP r];exact q⟩
  ·subst e'
   obtain⟨its,r,pl,hz⟩:=I.tuple hx
   have hlen:=r.length
   exact truthy_tuple pl (by simp only[on];omega) ⟨H,I.tok _,by rw[lP r];exact q⟩
  ·subst e'
   obtain⟨hz,hS,vs,r,m⟩:kvs.length<=wT/\(p==D9)=false/\∃vs,KV kvs vs/\s.heap.DictOf (bG X.prog X.w) p vs:=I.hok p _ hx
   have hlen:kvs.length=vs.length:=F7 r
   exact wpAny_truthy_dict hS m (by omega) ⟨H,I.tok _,by rw[sT r];exact q⟩
 | _=>exact(show False from e).elim
theorem wA (ha:PE X a ta)(he:∀whole,FH a X.env whole=(do let v <- whole;Ev a.pos;F4 [v] (truthy v))) :
  PT X a (λσ H Q=>ta σ H λx H'=>∃k,TruV X.K x H' k/\Q k H'):=by
 intro pins s σ H Q I h
 exact isTrue_plain (thn (ha pins s σ H _ I h) λv s1 ⟨x,H1,I1,r1,q1⟩=>zW pins s1 σ H1 x v Q I1 r1 q1) (he _)
theorem jz {x:V}{us:List bn}(r:Vals [x] us):∃u,us=[u]/\RelV x u:=by
 cases r with
 | cons r1 r2=>cases r2;exact⟨_,rfl,r1⟩
theorem zT {x y:V}{us:List bn}(r:Vals [x,y] us):∃u w',us=[u,w']/\RelV x u/\RelV y w':=by
 cases r with
 | cons r1 r2 =>
  cases r2 with
  | cons r3 r4=>cases r4;exact⟨_,_,rfl,r1,r3⟩
theorem vI (hc:X.calm=true):ik X (.builtin "max") (λxs H Q=>∃i j,xs=[.int i,.int j]/\Q (.int (if j > i then j else i)) H):=by
 intro pins s σ H xs us Q I r h
 obtain⟨i,j,rfl,q⟩:=h
 obtain⟨u,w',rfl,⟨t,rfl⟩,⟨t',rfl⟩⟩:=zT r
 refine max_two_ints (I.ok.hd hc) λh' tk k=>⟨_,H,I.kept k,?_,q⟩
 by_cases hj:j > i
 ·rw[if_pos hj,if_pos hj];exact⟨_,rfl⟩
 ·rw[if_neg hj,if_neg hj];exact⟨_,rfl⟩
theorem oV (hc:X.calm=true):ik X (.builtin "min") (λxs H Q=>∃i j,xs=[.int i,.int j]/\Q (.int (if j<i then j else i)) H):=by
 intro pins s σ H xs us Q I r h
 obtain⟨i,j,rfl,q⟩:=h
 obtain⟨u,w',rfl,⟨t,rfl⟩,⟨t',rfl⟩⟩:=zT r
 refine min_two_ints (I.ok.hd hc) λh' tk k=>⟨_,H,I.kept k,?_,q⟩
 by_cases hj:j<i
 ·rw[if_pos hj,if_pos hj];exact⟨_,rfl⟩
 ·rw[if_neg hj,if_neg hj];exact⟨_,rfl⟩
end
structure ObjM (h:Heap)(x dx C:Addr)(mA:Str->Option bn):Prop where
 obj:h.get? x=some (DW C dx)
 ns:h.Ns1 dx mA
 ne:dx≠x
theorem uU {h:Heap}{dx:Addr}{mA:Str->Option bn}(n:h.Ns1 dx mA):∃od,h.get? dx=some od/\∀name,FR name od=some (mA name):=by
 obtain⟨o,es,ep,ho,hd,hk,_,hm⟩:=n
 refine⟨o,ho,λname=>?_⟩
 have e:=hm name
 unfold nsFind findBy at e
 rw[<- Array.find?_toList]at e
 unfold FR
 rw[hd]
 dsimp only
 split
 ·rename_i y q
  rw[q]at e
  exact congrArg some e
 ·rename_i q
  rw[q]at e
  have a:es.toList.any (·.refKey)=false:=by
   rw[List.any_eq_false]
   intro y hy
   obtain⟨z,t,hkey⟩:=hk y (Array.mem_toList_iff.mp hy)
   simp[DictEntry.refKey,hkey]
  have a':¬es.toList.any (·.refKey)=true:=by rw[a];exact Ca
  rw[if_neg a']
  exact congrArg some e
theorem ObjM.look {h:Heap}{x dx C:Addr}{mA:Str->Option bn}(I:ObjM h x dx C mA):∃od,PySem.W.InstAt h x (DW C dx) C (some od)/\∀name,FR name od=some (mA name) :=
 let ⟨od,ho,hl⟩:=uU I.ns
 ⟨od,⟨I.obj,rfl,rfl,ho⟩,hl⟩
section
variable {prog:wS}{w:B_}{A:Cg}{E:bn->ca->Prop}{s:ca}{K:bi}{x dx C f:Addr}{mA:Str->Option bn}{name:Str}{v:bn}
theorem zj {expr:Bool}{Q:bn->ca->Prop}(X:K.In s.heap)(I:ObjM s.heap x dx C mA)(hg:ER K C name=true)(hh:Ft K C=true)
  (ha:B8 K (.ref C) name=some none) (hv:mA name=some v) (hv':IH v=true) (h:Q v {s with toks:=s.toks+1}) :
  li (pc prog w) A (getAttr (.ref x) name expr) Q E s:=by
 obtain⟨od,J,hl⟩:=I.look
 exact PySem.W.get_value X J (FZ hg).1 (PySem.W.findObj_own hh ha rfl (by rw[hl,hv])) hv' h
theorem xf {pl:Sem Bool}{Q:bn×List bn->ca->Prop}(X:K.In s.heap)(I:ObjM s.heap x dx C mA)(hg:ER K C name=true)
  (hf:B8 K (.ref C) name=some (some (.ref f))) (ht:Dc K (.ref f)=true) (hv:mA name=none) (h:Q (.ref f,[.ref x]) s) :
  li (pc prog w) A (GF (.ref x) name pl) Q E s:=by
 obtain⟨od,J,hl⟩:=I.look
 exact PySem.W.method_fn X J (FZ hg).1 (FZ hg).2 hf (beq_iff_eq.mp ht) (by show(FR name od).map (·.isSome)=some false;rw[hl,hv];rfl) h
theorem yy {ns:List Str}{Q:Unit->ca->Prop}(X:K.In s.heap)(I:ObjM s.heap x dx C mA)
  (hs:B8 K (.ref C) "__setattr__" = some (some (.builtin "object.__setattr__"))) (hp:Gg K C=true) (ht:GO K C name=some none) (hh:Ft K C=true)
  (hw:HV mA ns) (hsz:ns.length<=wT)
  (h:∀h',ObjM h' x dx C (λy=>if y=name then some v else mA y)->Cw dx s.heap h'->Q () {s with heap:=h',toks:=s.toks+2}) :
  li (pc prog w) A (setAttr (.ref x) name v) Q E s:=by
 obtain⟨od,J,hl⟩:=I.look
 refine PySem.W.set_plain X J hs (PySem.W.osa_open (s:={s with toks:=s.toks+1}) (r:=none) X J hp ht λb=>?_)
 obtain⟨cd,hc,hd'⟩:=PySem.W.any_some hh
 have hx:s.heap.get? x=some ⟨.ref C,some dx,.plain,#[]⟩:=I.obj
 refine bm (dL (bm (bm (wpAny_loadPart hx (bm (Kn (s:={s with toks:=s.toks+1}) (PySem.W.looks_clsIn X hc) ?_))))))
 rw[hd']
 refine dL (a:=some dx) (bm (dL (bm ?_)))
 refine wpAny_nsSet1 (s:={s with toks:=s.toks+1}) I.ns λh' hn2 hs2=>?_
 obtain⟨oD,esD,epD,hoD,hdD,hcD⟩:=hn2.count (KC name v hw)
 refine bm (wpAny_lookBehind hoD (by rw[hdD];exact pastItsLine_dict (xz hcD (by rw[At];omega))) ?_)
 exact dL (h _ ⟨(hs2.2 _ (Dq I.ne)).trans I.obj,hn2,I.ne⟩ hs2)
theorem wW {R:E1->ca->Prop}{vs:List bn}{kw:List (Str×bn)}(X:K.In s.heap)(hm:FI K C=true)
  (hi:B8 K (.ref C) "__init__" = some (some (.ref f))) (hf:PySem.W.typeIn K (.ref f)=some (.type "function"))
  (h:CY (pc prog w) (A.under (.builtin "type.__call__" ⟨.ref C::vs,kw⟩)) (.call (.ref f) ⟨.ref (s.heap.objs.size+1)::vs,kw⟩) (PySem.W.InitBack (s.heap.objs.size+1) R)
   {s with heap:=(s.heap.push Dk).push (DW C s.heap.objs.size)}) :
  CY (pc prog w) A (.call (.ref C) ⟨vs,kw⟩) R s:=by
 obtain⟨hh,g,d,t,os⟩:=s
 exact PySem.W.make_core (PySem.W.makes_of X hm) (PySem.W.looks_findIn X hi) (λself=>PySem.W.bind_fn X self hf) (.inl rfl) h
end
def putF (f:Str)(v:V):List (Str×V)->List (Str×V)
 | []=>[(f,v)]
 | (g,x)::r=>if g=f then(g,v)::r else(g,x)::putF f v r
theorem kF (f g:Str)(v:V):∀fs:List (Str×V),(putF f v fs).lookup g=if g=f then some v else fs.lookup g
 | []=>by
  show Es g [(f,v)]=_
  by_cases h:g=f
  ·have hb:(g==f)=true:=beq_iff_eq.mpr h
   simp only[Es,hb,if_pos h]
  ·have hb:(g==f)=false:=beq_eq_false_iff_ne.mpr h
   simp only[Es,hb,if_neg h]
 | (k,x)::r=>by
  have ih:=kF f g v r
  rw[show putF f v ((k,x)::r)=(if k=f then(k,v)::r else(k,x)::putF f v r)from rfl]
  by_cases hk:k=f
  ·rw[if_pos hk]
   by_cases h:g=k
   ·have hb:(g==k)=true:=beq_iff_eq.mpr h
    simp only[Es,hb,if_pos (h.trans hk)]
   ·have hb:(g==k)=false:=beq_eq_false_iff_ne.mpr h
    simp only[Es,hb,if_neg (λe:g=f=>h (e.trans hk.symm))]
  ·rw[if_neg hk]
   by_cases h:g=k
   ·have hb:(g==k)=true:=beq_iff_eq.mpr h
    simp only[Es,hb,if_neg (λe:g=f=>hk (h.symm.trans e))]
   ·have hb:(g==k)=false:=beq_eq_false_iff_ne.mpr h
    simp only[Es,hb]
    exact ih
theorem kH (f:Str)(v:V):∀fs:List (Str×V),f∈(putF f v fs).map (·.1)/\∀g,g∈fs.map (·.1)->g∈(putF f v fs).map (·.1)
 | []=>⟨by simp[putF],λg h=>by simp at h⟩
 | (k,x)::r=>by
  obtain⟨i1,i2⟩:=kH f v r
  rw[show putF f v ((k,x)::r)=(if k=f then(k,v)::r else(k,x)::putF f v r)from rfl]
  by_cases hk:k=f
  ·rw[if_pos hk]
   subst hk
   exact⟨by simp,λg h=>by simpa using h⟩
  ·rw[if_neg hk]
   refine⟨?_,λg h=>?_⟩
   ·rw[wE]
    exact BV _ i1
   ·rw[wE]at h ⊢
    rcases sK.mp h with e | e
    ·exact sK.mpr (.inl e)
    ·exact BV _ (i2 g e)
theorem kG (f:Str)(v:V):∀fs:List (Str×V),(putF f v fs).length<=fs.length+1
 | []=>by simp[putF]
 | (k,x)::r=>by
  have ih:=kG f v r
  rw[show putF f v ((k,x)::r)=(if k=f then(k,v)::r else(k,x)::putF f v r)from rfl]
  by_cases hk:k=f
  ·rw[if_pos hk,At,At];omega
  ·rw[if_neg hk,At,At];omega
theorem RelO.some_of {v:V}{o:Option bn}(r:RelO (some v) o):∃u,o=some u/\RelV v u:=by
 cases o with
 | none=>exact(show False from r).elim
 | some u=>exact⟨u,rfl,r⟩
theorem RelO.none_of {o:Option bn}(r:RelO none o):o=none:=by
 cases o with
 | none=>rfl
 | some u=>exact(show False from r).elim
theorem vc {v:V}{u:bn}(r:RelV v u):IH u=true:=by
 cases v with
 | non=>cases (show u=Value.none from r);rfl
 | bl b=>cases (show u=Value.bool b from r);rfl
 | int i=>obtain⟨t,e⟩:=(show ∃t,u=Value.int i t from r);cases e;rfl
 | str x=>obtain⟨t,e⟩:=(show ∃t,u=Value.str x t from r);cases e;rfl
 | byt b=>obtain⟨t,e⟩:=(show ∃t,u=Value.bytes b t from r);cases e;rfl
 | flt b=>obtain⟨t,e⟩:=(show ∃t,u=Value.float b t from r);cases e;rfl
 | ref a=>cases (show u=Value.ref a from r);rfl
 | ty n=>cases (show u=Value.type n from r);rfl
section
variable {P:wS}{w:B_}{H H':Hp}{h h':Heap}{a C dx:Addr}{fs fs':List (Str×V)}
theorem mU (hok:HOk P w H h)(e:H a=some (.ins C dx fs)):∃mA,ObjM h a dx C mA/\(∀f,RelO (fs.lookup f) (mA f))/\HV mA (fs.map (·.1))/\fs.length<=1000/\H dx=some (.own a):=by
 obtain⟨d,z,ne,ob,mA,n,r,q⟩:=(show cL P w H h a (.ins C dx fs)from hok a _ e)
 exact⟨mA,⟨ob,n,ne⟩,r,q,z,d⟩
end
structure Cls (K:bi)(C:Addr):Prop where
 pg:ER K C Str.empty=true
 hd:Ft K C=true
 po:Gg K C=true
 sa:B8 K (.ref C) "__setattr__" = some (some (.builtin "object.__setattr__"))
theorem Cls.get {K:bi}{C:Addr}(c:Cls K C)(f:Str):ER K C f=true:=c.pg
def iY (K:bi)(C:Addr)(f:Str):Prop:=B8 K (.ref C) f=some none
theorem iY.taker {K:bi}{C:Addr}{f:Str}(n:iY K C f):GO K C f=some none:=by
 unfold GO
 rw[show B8 K (.ref C) f=some none from n]
 rfl
structure Meth (K:bi)(C:Addr)(m:Str)(f:Addr):Prop where
 at_:B8 K (.ref C) m=some (some (.ref f))
 fn:Dc K (.ref f)=true
 kp:Cq K (.ref f)=true
section
variable {X:Cx}{pins:List (Addr×Obj)}{σ:St}{H:Hp}{s:ca}{a C dx:Addr}{fs:List (Str×V)}{f:Str}{v:V}{A:Cg}{E:bn->ca->Prop}
theorem sX {b:Bool}{Q:bn->ca->Prop}(I:Inv X pins σ H s)(e:H a=some (.ins C dx fs))(c:Cls X.K C)(n:iY X.K C f)(l:fs.lookup f=some v)
  (h:∀u s',Inv X pins σ H s'->RelV v u->Q u s'):li (pc X.prog X.w) A (getAttr (.ref a) f b) Q E s:=by
 obtain⟨mA,O,r,_,_,_⟩:=mU I.hok e
 obtain⟨u,hu,ru⟩:=RelO.some_of (v:=v) (o:=mA f) (by rw[<- l];exact r f)
 exact zj I.kIn O (c.get f) c.hd n hu (vc ru) (h u _ (I.tok _) ru)
theorem lU {m:Str}{g:Addr}{pl:Sem Bool}{Q:bn×List bn->ca->Prop}(I:Inv X pins σ H s)(e:H a=some (.ins C dx fs))(c:Cls X.K C)(k:Meth X.K C m g)(l:fs.lookup m=none)
  (h:Q (.ref g,[.ref a]) s):li (pc X.prog X.w) A (GF (.ref a) m pl) Q E s:=by
 obtain⟨mA,O,r,_,_,_⟩:=mU I.hok e
 have hn:mA m=none:=RelO.none_of (by rw[<- l];exact r m)
 exact xf I.kIn O (c.get m) k.at_ k.fn hn h
theorem sk {y:V}{u:bn}{Q:Unit->ca->Prop}(I:Inv X pins σ H s)(e:H a=some (.ins C dx fs))(c:Cls X.K C)(n:iY X.K C f)(hl:fs.length<1000)(ry:RelV y u)
  (h:∀s',Inv X pins σ (upd H a (.ins C dx (putF f y fs))) s'->Q () s'):li (pc X.prog X.w) A (setAttr (.ref a) f u) Q E s:=by
 obtain⟨mA,O,r,wi,_,ho⟩:=mU I.hok e
 have hz:(fs.map (·.1)).length<=wT:=by rw[f8,FO];omega
 refine yy I.kIn O c.sa c.po n.taker c.hd wi hz λh' O' sb=>h _ ?_
 have hd:∃o,h'.get? dx=some o:=let ⟨o,_,_,e',_⟩:=O'.ns;⟨o,e'⟩
 refine I.write (x:=a) (e:=dx) (by rw[e];exact True.intro) (.inr ho) (λb q hb z=>(sb.2 b hb).trans z) hd ?_
 refine⟨by rw[aQ O.ne];exact ho,?_,O.ne,O'.obj,_,O'.ns,λg=>?_,λg hg=>?_⟩
 ·have:=kG f y fs;omega
 ·show RelO ((putF f y fs).lookup g) (if g=f then some u else mA g)
  rw[kF]
  by_cases q:g=f
  ·rw[if_pos q,if_pos q];exact ry
  ·rw[if_neg q,if_neg q];exact r g
 ·by_cases q:g=f
  ·rw[q];exact(kH f y fs).1
  ·refine(kH f y fs).2 g (wi g λz=>hg ?_)
   show(if g=f then some u else mA g)=none
   rw[if_neg q];exact z
theorem Inv.made (I:Inv X pins σ H s):Inv X pins σ (upd (upd H s.heap.objs.size (.own (s.heap.objs.size+1))) (s.heap.objs.size+1) (.ins C s.heap.objs.size []))
  {s with heap:=(s.heap.push Dk).push (DW C s.heap.objs.size)}:=by
 have e1:(s.heap.push Dk).get? s.heap.objs.size=some Dk:=wn s.heap rfl
 have e2:((s.heap.push Dk).push (DW C s.heap.objs.size)).get? (s.heap.objs.size+1)=some (DW C s.heap.objs.size):=by
  have:=wn (s.heap.push Dk) (o:=DW C s.heap.objs.size) rfl
  rwa [CI]at this
 have e3:(s.heap.push Dk).Ns s.heap.objs.size (λ_=>none):=⟨Dk,#[],_,e1,rfl,(λe he=>absurd he (by simp)),λ_=>rfl⟩
 have I1:=I.laid (a:=s.heap.objs.size) (o:=.own (s.heap.objs.size+1)) (h':=s.heap.push Dk) (t':=s.toks) (λb u q=>db _ q) (lm _) ⟨_,e1⟩
 refine I1.laid (a:=s.heap.objs.size+1) (o:=.ins C s.heap.objs.size []) (t':=s.toks) (λb u q=>db _ q) (Fs (CI _ _)) ?_
 have ne:s.heap.objs.size≠s.heap.objs.size+1:=ww (DB _)
 refine⟨by rw[aQ ne,aR],B0 _,ne,e2,λ_=>none,(Heap.Ns1.of_empty e3).at λo q=>db _ q,λ_=>True.intro,λy hy=>absurd rfl hy⟩
theorem zF {prog:wS}{w:B_}{env:Env}{e:Expr}{f:Str}{pos:Pos}{s:ca}{Q:bn->ca->Prop}(hb:FQ e f env (eval e env)=eval e env)
  (h:li (pc prog w) A (eval e env) (λo s₁=>li (pc prog w) A (getAttr o f true) Q E s₁) E s):li (pc prog w) A (eval (.Attribute e f pos) env) Q E s :=
 Attribute_any_ h (by rw[arm_eval_Attribute,hb])
end
def tFld (K:bi)(ta:TE)(f:Str):TE:=λσ H Q=>ta σ H λx H1=>∃a C dx fs v,x = .ref a/\H1 a=some (.ins C dx fs)/\Cls K C/\iY K C f/\fs.lookup f=some v/\Q v H1
def sFld (K:bi)(ta tv:TE)(f:Str):TS:=λD σ H=>tv σ H λy H1=>ta σ H1 λx H2=>∃a C dx fs,x = .ref a/\H2 a=some (.ins C dx fs)/\Cls K C/\iY K C f/\fs.length<1000 /\
 D.nx σ (upd H2 a (.ins C dx (putF f y fs)))
section
variable {X:Cx}{o e value:Expr}{f:Str}{pos pos' tpos:Pos}{ta tv:TE}
theorem dg (he:PE X e ta)(hb:FQ e f X.env (eval e X.env)=eval e X.env):PE X (.Attribute e f pos) (tFld X.K ta f):=by
 intro pins s σ H Q I h
 refine zF hb (thn (he pins s σ H _ I h) λu s1 ⟨x,H1,I1,rx,a,C,dx,fs,v,ex,ea,c,n,l,q⟩=>?_)
 subst ex
 obtain rfl:u=Value.ref a:=rx
 exact sX I1 ea c n l λu' s2 I2 ru=>⟨v,H1,I2,ru,q⟩
theorem nM (ha:PE X o ta)(hv:PE X value tv)(hs:FW value (some (.Attribute o f pos')) pos.line X.env=pure false):PS X (.Assign [.Attribute o f pos'] value pos) (sFld X.K ta tv f):=by
 intro pins s σ H D I h
 refine plainObj_wpAny_Assign_Attribute (thn (hv pins s σ H _ I h) λu s1 ⟨y,H1,I1,ry,q⟩=>thn (ha pins s1 σ H1 _ I1 q) λov s2 ⟨x,H2,I2,rx,a,C,dx,fs,ex,ea,c,n,l,q2⟩=>?_) hs
 subst ex
 obtain rfl:ov=Value.ref a:=rx
 exact sk I2 ea c n l ry λs3 I3=>⟨σ,_,I3,q2⟩
end
section
variable {X:Cx}{pins:List (Addr×Obj)}{σ:St}{H:Hp}{s:ca}{A:Cg}{E:bn->ca->Prop}{Q:bn->ca->Prop}{c:bn}{b:Bool}
inductive TyOf (K:bi) (H:Hp):V->bn->Prop where
 | non:TyOf K H .non (.type "NoneType")
 | bl (x:Bool):TyOf K H (.bl x) (.type "bool")
 | int (i:Int):TyOf K H (.int i) (.type "int")
 | str (x:Str):TyOf K H (.str x) (.type "str")
 | flt (x:UInt64):TyOf K H (.flt x) (.type "float")
 | lst {a:Addr} {xs:List V} (e:H a=some (.lst xs)):TyOf K H (.ref a) (.type "list")
 | frz {a:Addr} {o:Obj} {xs:List V} (e:H a=some (.frz o (.lst xs))):TyOf K H (.ref a) (.type "list")
 | tup {a:Addr} {xs:List V} (e:H a=some (.tup xs)):TyOf K H (.ref a) (.type "tuple")
 | dK {a:Addr} {kvs:List (Key×V)} (e:H a=some (.dK kvs)):TyOf K H (.ref a) (.type "dict")
 | dT {a:Addr} {kvs:List (List Key×V)} (e:H a=some (.dT kvs)):TyOf K H (.ref a) (.type "dict")
 | ins {a C dx:Addr} {fs:List (Str×V)} (e:H a=some (.ins C dx fs)) (cl:Cls K C) (ha:B8 K (.ref C) "__class__" = some (some (.builtin "object.__class__")))
   (hn:PySem.W.specialIn K (.builtin "object.__class__") "__get__" = some (some (.builtin "getset_descriptor.__get__"))) (htk:PySem.W.takesIn K (.builtin "object.__class__")=some true)
   (hm:PySem.W.mroIn K C (.type "object")=some true):TyOf K H (.ref a) (.ref C)
theorem iN {x:V}{u t:bn}(I:Inv X pins σ H s)(rx:RelV x u)(ty:TyOf X.K H x t)(e:G4 X.K t c=some b)(h:∀tk,Q (.bool b) {s with toks:=tk}) :
  li (pc X.prog X.w) A (call (.builtin "isinstance") [u,c]) Q E s:=by
 cases ty with
 | non=>cases (show u=Value.none from rx);exact CV PySem.W.kitx_none I.kIn True.intro e (λz=>nomatch z) h
 | bl y=>cases (show u=Value.bool y from rx);exact CV PySem.W.kitx_bool I.kIn True.intro e (λz=>nomatch z) h
 | int i=>obtain⟨t,q⟩:=(show ∃t,u=Value.int i t from rx);cases q;exact CV PySem.W.kitx_int I.kIn True.intro e (λz=>nomatch z) h
 | str y=>obtain⟨t,q⟩:=(show ∃t,u=Value.str y t from rx);cases q;exact CV PySem.W.kitx_str I.kIn True.intro e (λz=>nomatch z) h
 | flt y=>obtain⟨t,q⟩:=(show ∃t,u=Value.float y t from rx);cases q;exact CV PySem.W.kitx_float I.kIn True.intro e (λz=>nomatch z) h
 | @lst a xs ea =>
  cases (show u=Value.ref a from rx)
  obtain⟨_,_,n,_,h1⟩:=(show cL X.prog X.w H s.heap a (.lst xs)from I.hok a _ ea)
  exact CV Gi I.kIn ⟨_,h1,rfl⟩ e (λz=>nomatch z) h
 | @frz a ob xs ea =>
  cases (show u=Value.ref a from rx)
  obtain⟨_,_,_,n,_,h1⟩:=(show cL X.prog X.w H s.heap a (.frz ob (.lst xs))from I.hok a _ ea)
  exact CV Gi I.kIn ⟨_,h1,rfl⟩ e (λz=>nomatch z) h
 | @tup a xs ea =>
  cases (show u=Value.ref a from rx)
  obtain⟨_,_,_,p⟩:=(show cL X.prog X.w H s.heap a (.tup xs)from I.hok a _ ea)
  obtain⟨o,h1,h2,_⟩:=p
  exact CV Iq I.kIn ⟨o,h1,h2⟩ e (λz=>nomatch z) h
 | @dK a kvs ea =>
  cases (show u=Value.ref a from rx)
  obtain⟨_,_,vs,_,p⟩:=(show cL X.prog X.w H s.heap a (.dK kvs)from I.hok a _ ea)
  obtain⟨o,es,ep,h1,h2,_⟩:=p
  exact CV Iz I.kIn ⟨o,h1,h2.1⟩ e (λz=>nomatch z) h
 | @dT a kvs ea =>
  cases (show u=Value.ref a from rx)
  obtain⟨_,_,xs,_,o,es,ep,h1,h2,_⟩:=(show cL X.prog X.w H s.heap a (.dT kvs)from I.hok a _ ea)
  exact CV Iz I.kIn ⟨o,h1,h2.1⟩ e (λz=>nomatch z) h
 | @ins a C dx fs ea cl ha hn htk hm =>
  cases (show u=Value.ref a from rx)
  obtain⟨mA,O,_⟩:=mU I.hok ea
  obtain⟨od,J,_⟩:=O.look
  exact CV (PySem.W.kitx_own (cl.get _) cl.hd ha hn htk hm) I.kIn J e (λz=>nomatch z) h
end
structure Room (k:Nat)(A:Cg):Prop where
 hd:A.handled=none
 dp:A.depth+3*k+5<recursionLimit
 un:A.units+16*k+200<EX
 gd:A.guards=some []
theorem Room.mono {j k:Nat}{A:Cg}(r:Room k A)(h:j<=k):Room j A:=⟨r.hd,by have:=r.dp;omega,by have:=r.un;omega,r.gd⟩
theorem Room.deeper {k:Nat}{A:Cg}(r:Room (k+1) A)(env:Env):Room k (A.deeper env) :=
 ⟨r.hd,by have:=r.dp;show A.depth+1+3*k+5<_;omega,by have:=r.un;show A.units+3+16*k+200<_;omega,r.gd⟩
theorem sP {A:Cg}{C:Addr}{us:List bn}{kw:List (Str×bn)}:(A.under (.builtin "type.__call__" ⟨.ref C::us,kw⟩)).depth=A.depth+1:=by
 first | rfl | simp[Gp,Code.weight,Code.isCreation,Code.isGuard,Code.isCaller,Kw,Ib,guardIds]
theorem sO {A:Cg}{C:Addr}{us:List bn}{kw:List (Str×bn)}:(A.under (.builtin "type.__call__" ⟨.ref C::us,kw⟩)).units=A.units+1:=by
 first | rfl | simp[Gp,Code.cUnits,Kw,Ib]
theorem ql {A:Cg}{C:Addr}{us:List bn}{kw:List (Str×bn)}:(A.under (.builtin "type.__call__" ⟨.ref C::us,kw⟩)).guards=A.guards:=by
 have:(Code.builtin "type.__call__" ⟨.ref C::us,kw⟩).guards=[]:=by
  unfold Code.guards
  rw[if_neg]
  show ¬guardIds.contains "type.__call__" = true
  decide +kernel
 unfold Gp
 rw[this]
 cases A with
 | mk a b c d e=>cases d <;> rfl
theorem Room.make {k:Nat}{A:Cg}(r:Room (k+1) A)(C:Addr)(us:List bn)(kw:List (Str×bn)):Room k (A.under (.builtin "type.__call__" ⟨.ref C::us,kw⟩)) :=
 ⟨r.hd,by have:=r.dp;rw[sP];omega,by have:=r.un;rw[sO];omega,by rw[ql];exact r.gd⟩
theorem Room.depth {k:Nat}{A:Cg}(r:Room k A):A.depth<recursionLimit:=by have:=r.dp;omega
theorem Room.units {k:Nat}{A:Cg}(r:Room k A):A.units+64<EX:=by have:=r.un;omega
def tNil:TA:=λ_ H Q=>Q [] H
def ua (ta:TE)(tr:TA):TA:=λσ H Q=>ta σ H λx H1=>tr σ H1 λxs H2=>Q (x::xs) H2
section
variable {X:Cx}{e:Expr}{es:List Expr}{te:TE}{t:TA}{pos:Pos}
theorem aA:PA X [] tNil:=λ_ _ _ _ H Q I h=>EL ⟨[],H,I,.nil,h⟩
theorem ah (ha:PE X e te)(hr:PA X es t)(hs:B4 (e::es) X.env=(false,eval e X.env)::B4 es X.env:=by rfl):PA X (e::es) (ua te t):=by
 intro pos pins s σ H Q I h
 rw[hs]
 show li _ _ (Je ((false,eval e X.env)::D_ pos (B4 es X.env))) _ _ s
 refine Ec (thn (ha pins s σ H _ I h) λu s1 ⟨x,H1,I1,r1,q1⟩=>?_)
 exact thn (hr pos pins s1 σ H1 _ I1 q1) λus s2 ⟨xs,H2,I2,r2,q2⟩=>⟨x::xs,H2,I2,.cons r1 r2,q2⟩
def tTup (t:TA):TE:=λσ H Q=>t σ H λxs H1=>xs.length<=wT/\∀p,H1 p=none->Q (.ref p) (upd H1 p (.tup xs))
def tLst (t:TA):TE:=λσ H Q=>t σ H λxs H1=>xs.length<=wT/\∀p,H1 p=none->Q (.ref p) (upd H1 p (.lst xs))
theorem cO {x1}(h:PA X es t):PE X (.Tuple es x1 pos) (tTup t):=by
 intro pins s σ H Q I hq
 refine wpAny_Tuple_spliced (thn (h pos pins s σ H _ I hq) λus s1 ⟨xs,H1,I1,r,z,q⟩=>⟨by rw[<- r.length];exact z,?_⟩)
 have hf:H1 s1.heap.objs.size=none:=I1.hok.fresh (lm _)
 refine⟨.ref s1.heap.objs.size,upd H1 s1.heap.objs.size (.tup xs),I1.laid (t':=s1.toks) (λb u e=>db _ e) (lm _) ?_,rfl,q _ hf⟩
 exact⟨z,us,r,⟨_,wn _ rfl,rfl,_,rfl⟩⟩
theorem eD (h:PA X es t):PE X (.List es pos) (tLst t):=by
 intro pins s σ H Q I hq
 refine wpAny_List_spliced (thn (h pos pins s σ H _ I hq) λus s1 ⟨xs,H1,I1,r,z,q⟩=>⟨by rw[<- r.length];exact z,?_⟩)
 have hf:H1 s1.heap.objs.size=none:=I1.hok.fresh (lm _)
 refine⟨.ref s1.heap.objs.size,upd H1 s1.heap.objs.size (.lst xs),I1.laid (t':=s1.toks) (λb u e=>db _ e) (lm _) ?_,rfl,q _ hf⟩
 exact⟨z,us,0,r,wn _ rfl⟩
end
abbrev Sp:=List V->Hp->VK->XK->Prop
abbrev CXT:=List Env->Hp->ca->XK->bn->ca->Prop
structure Env0 (P:wS)(w:B_)(K:bi)(mg:Str->Option bn)(base:Heap)(A:Cg)(outer:List Env)(s:ca)(H:Hp):Prop where
 frames:A.frames=some outer
 mod:Mod K mg base
 bs:∀b o,base.get? b=some o->s.heap.get? b=some o/\H b=none
 bsz:base.objs.size<=s.heap.objs.size
 funs:s.heap.FunFrames base outer
 frf:∀b∈frs outer,H b=none
 hok:HOk P w H s.heap
 bare:Ga s.gens
def CE (outer:List Env)(P:wS)(w:B_)(H:Hp)(s:ca)(Q:VK)(u:bn)(s':ca):Prop :=
 ∃v H',s'.os=s.os/\Ga s'.gens/\Un (frs outer) [] H H' s.heap s'.heap/\HOk P w H' s'.heap/\RelV v u/\Q v H'
def CR (CX:CXT)(outer:List Env)(P:wS)(w:B_)(H:Hp)(s:ca)(Q:VK)(E:XK)(r:E1)(s':ca):Prop :=
 match r with
 | .ok (.ret u)=>CE outer P w H s Q u s'
 | .ok _=>False
 | .error e=>CX outer H s E e s'
structure FnOk (P:wS)(w:B_)(K:bi)(mg:Str->Option bn)(base:Heap)(CX:CXT)(k:Nat)(f:Addr)(fd:E3)(ps:List Str)(sp:Sp):Prop where
 len:∀vs H Q E,sp vs H Q E->vs.length=ps.length
 run:∀(A:Cg) (outer:List Env) (s:ca) (H:Hp) (args:Args) (us:List bn) (vs:List V) (Q:VK) (E:XK),Room k A->Env0 P w K mg base A outer s H->Ic s fd args (ps.zip us)->Vals vs us->sp vs H Q E ->
  CY (pc P w) A (.call (.ref f) args) (CR CX outer P w H s Q E) s
theorem FnOk.imp {P:wS}{w:B_}{K:bi}{mg:Str->Option bn}{base:Heap}{CX:CXT}{k:Nat}{f:Addr}{fd:E3}{ps:List Str}{sp sp':Sp}(F:FnOk P w K mg base CX k f fd ps sp)
  (h:∀vs H Q E,sp' vs H Q E->sp vs H Q E):FnOk P w K mg base CX k f fd ps sp' :=
 ⟨λvs H Q E q=>F.len vs H Q E (h _ _ _ _ q),λA outer s H args us vs Q E hr he hb hv hs=>F.run A outer s H args us vs Q E hr he hb hv (h _ _ _ _ hs)⟩
theorem Env0.make {P:wS}{w:B_}{K:bi}{mg:Str->Option bn}{base:Heap}{A:Cg}{outer:List Env}{s:ca}{H:Hp}(e:Env0 P w K mg base A outer s H)(C:Addr)(us:List bn)(kw:List (Str×bn)) :
  Env0 P w K mg base (A.under (.builtin "type.__call__" ⟨.ref C::us,kw⟩)) outer s H:=⟨by first | exact e.frames | (simpa [Gp,Code.envs,Ib,pushEnvs] using e.frames),e.mod,e.bs,e.bsz,e.funs,e.frf,e.hok,e.bare⟩
section
variable {X:Cx}{pins:List (Addr×Obj)}{σ:St}{H:Hp}{s s':ca}
theorem Inv.env0 (I:Inv X pins σ H s):Env0 X.prog X.w X.K X.mg X.base X.A X.stack s H :=
 ⟨I.ok.frames,I.ok.mod,I.bs,xz I.ok.bsz I.sz,I.stack,I.stkFree,I.hok,I.bare⟩
theorem Inv.after {Q:VK}{u:bn}(I:Inv X pins σ H s)(h:CE X.stack X.prog X.w H s Q u s'):EP X pins σ Q u s':=by
 obtain⟨v,H',os,bare,un,hok,r,q⟩:=h
 obtain⟨hh,g,d,t,os'⟩:=s'
 obtain rfl:os'=s.os:=os
 exact⟨v,H',I.call (h':=hh) (g':=g) (d':=d) (t':=t) (ch:=[]) un hok bare (λb z=>absurd z (by simp)),r,q⟩
end
def yr (sp:Sp)(dvs:List V)(E:XK)(t:TA):TE:=λσ H Q=>t σ H λvs H1=>sp (vs++dvs) H1 Q E
def t8 (C:Addr)(m:Str)(sp:Sp)(dvs:List V)(E:XK)(ta:TE)(t:TA):TE:=λσ H Q=>ta σ H λx H1=>∃a dx fs,x = .ref a/\H1 a=some (.ins C dx fs)/\fs.lookup m=none /\
 t σ H1 λvs H2=>sp (x::(vs++dvs)) H2 Q E
def yq (C:Addr)(sp:Sp)(dvs:List V)(E:XK)(t:TA):TE:=λσ H Q=>t σ H λvs H1=>∀x dx,H1 x=none->H1 dx=none->dx≠x ->
 sp (.ref x::(vs++dvs)) (upd (upd H1 dx (.own x)) x (.ins C dx [])) (λv H2=>v = .non/\Q (.ref x) H2) E
def k7 (K:bi)(fd:E3)(ps:List Str)(ds:List bn):Prop :=
 ∀(s:ca) (us:List bn),K.In s.heap->(us++ds).length=ps.length->Ic s fd ⟨us,[]⟩ (ps.zip (us++ds))
theorem k7.all {K:bi}{fd:E3}{ps:List Str}(h:∀us:List bn,us.length=ps.length->Im fd ⟨us,[]⟩=pure (ps.zip us)):k7 K fd ps []:=λs us _ hl=>by
 rw[Cc]at hl ⊢
 exact .of_eq (h us hl)
def kZ (CX:CXT)(X:Cx)(E:XK):Prop:=∀(pins:List (Addr×Obj)) (σ:St) (H:Hp) (s:ca) (e:bn) (s':ca),Inv X pins σ H s->CX X.stack H s E e s'->X.xe e s'
section
variable {X:Cx}{CX:CXT}{k:Nat}{f C:Addr}{fd:E3}{ps:List Str}{sp:Sp}{dvs:List V}{ds:List bn}{E:XK}{x m:Str}{p pos apos:Pos}{e o:Expr}{es:List Expr}{ta:TE}{t:TA}
theorem um {pins:List (Addr×Obj)}{σ:St}{H:Hp}{s:ca}{Q:VK}{us:List bn}{vs:List V}(F:FnOk X.prog X.w X.K X.mg X.base CX k f fd ps sp)(hr:Room k X.A)(hb:k7 X.K fd ps ds)(hd:Vals dvs ds)(hx:kZ CX X E)
  (I:Inv X pins σ H s) (r:Vals vs us) (h:sp (vs++dvs) H Q E):li (pc X.prog X.w) X.A (call (.ref f) us) (EP X pins σ Q) X.xe s:=by
 have r2:Vals (vs++dvs) (us++ds):=r.append hd
 have hl:(us++ds).length=ps.length:=by rw[<- r2.length];exact F.len _ _ _ _ h
 refine JT (EC (F.run X.A X.stack s H ⟨us,[]⟩ (us++ds) (vs++dvs) Q E hr I.env0 (hb s us I.kIn hl) r2 h) λr s' hq=>?_)
 cases r with
 | error e=>exact hx pins σ H s e s' I hq
 | ok fl =>
  cases fl with
  | ret u=>exact I.after hq
  | next=>exact DS hq
  | brk=>exact DS hq
  | cont=>exact DS hq
theorem yM (F:FnOk X.prog X.w X.K X.mg X.base CX k f fd ps sp)(hr:Room k X.A)(hg:Gl X x)(hm:X.mg x=some (.ref f))(hk:Cq X.K (.ref f)=true)(hb:k7 X.K fd ps ds)(hd:Vals dvs ds)(hx:kZ CX X E)
  (ha:PA X (e::es) t) (hdb:(x==("__debug__" : Str))=false:=by decide) (he:B4 (e::es) X.env=(false,eval e X.env)::B4 es X.env:=by rfl) (hpl:(D_ pos (B4 es X.env)).any (·.1)=false:=by rfl) :
  PE X (.Call (.Name x p) (e::es) [] pos) (yr sp dvs E t):=by
 intro pins s σ H Q I h
 refine FF (qm I hg hm ?_ hdb)
 refine F6 (h₀:=X.base) I.ok.mod.kin hk (thn (ha pos pins s σ H _ I h) λus s1 ⟨vs,H1,I1,r,q⟩=>⟨I1.kIn,?_⟩) he hpl
 exact um F hr hb hd hx I1 r q
theorem yI {pl:Sem Bool}(he:PE X o ta)(c:Cls X.K C)(hm:Meth X.K C m f)(F:FnOk X.prog X.w X.K X.mg X.base CX k f fd ps sp)(hr:Room k X.A)(hb:k7 X.K fd ps ds)(hd:Vals dvs ds)(hx:kZ CX X E)(ha:PA X (e::es) t)
  (hst:B4 (e::es) X.env=(false,eval e X.env)::B4 es X.env:=by rfl) (hpl:(D_ pos (B4 es X.env)).any (·.1)=false:=by rfl)
  (ht:eval (.Call (.Attribute o m apos) (e::es) [] pos) X.env=(do
   let ov <- eval o X.env
   Ev apos.atName
   let (f,first) <- F4 [ov] (GF ov m pl)
   Jv pos f first (D_ pos (B4 (e::es) X.env)) (Gw pos (Fl [] X.env))):=by rfl) :
  PE X (.Call (.Attribute o m apos) (e::es) [] pos) (t8 C m sp dvs E ta t):=by
 intro pins s σ H Q I h
 refine HK (pl:=pl) (thn (he pins s σ H _ I h) λu s1 ⟨x,H1,I1,rx,a,dx,fs,ex,ea,l,q⟩=>?_) ht
 subst ex
 obtain rfl:u=Value.ref a:=rx
 refine lU I1 ea c hm l ?_
 refine F6 (first:=[.ref a]) (h₀:=X.base) I.ok.mod.kin hm.kp (thn (ha pos pins s1 σ H1 _ I1 q) λus s2 ⟨vs,H2,I2,r,q2⟩=>⟨I2.kIn,?_⟩) hst hpl
 exact um (us:=.ref a::us) (vs:=.ref a::vs) F hr hb hd hx I2 (.cons rfl r) q2
theorem wC {pl:Sem Bool}(he:PE X o ta)(c:Cls X.K C)(hm:Meth X.K C m f)(F:FnOk X.prog X.w X.K X.mg X.base CX k f fd ps sp)(hr:Room k X.A)(hb:k7 X.K fd ps ds)(hd:Vals dvs ds)(hx:kZ CX X E)
  (ht:eval (.Call (.Attribute o m apos) [] [] pos) X.env=(do
   let ov <- eval o X.env
   Ev apos.atName
   let (f,first) <- F4 [ov] (GF ov m pl)
   Jv pos f first (D_ pos (B4 [] X.env)) (Gw pos (Fl [] X.env))):=by rfl) :
  PE X (.Call (.Attribute o m apos) [] [] pos) (t8 C m sp dvs E ta tNil):=by
 intro pins s σ H Q I h
 refine HK (pl:=pl) (thn (he pins s σ H _ I h) λu s1 ⟨x,H1,I1,rx,a,dx,fs,ex,ea,l,q⟩=>?_) ht
 subst ex
 obtain rfl:u=Value.ref a:=rx
 refine lU I1 ea c hm l ?_
 exact PySem.W.callWith_K0 (first:=[.ref a]) I1.kIn hm.kp (um (us:=[.ref a]) (vs:=[.ref a]) F hr hb hd hx I1 (.cons rfl .nil) q)
structure Mk (K:bi)(C f:Addr):Prop where
 makes:FI K C=true
 init:B8 K (.ref C) "__init__" = some (some (.ref f))
 fn:Dc K (.ref f)=true
 kp:Cq K (.ref C)=true
theorem wu {pins:List (Addr×Obj)}{σ:St}{H:Hp}{s:ca}{Q:VK}{us:List bn}{vs:List V}(M:Mk X.K C f)(F:FnOk X.prog X.w X.K X.mg X.base CX k f fd ps sp)(hr:Room (k+1) X.A)(hb:k7 X.K fd ps ds)(hd:Vals dvs ds)
  (hx:kZ CX X E) (I:Inv X pins σ H s) (r:Vals vs us)
  (h:∀x dx,H x=none->H dx=none->dx≠x->sp (.ref x::(vs++dvs)) (upd (upd H dx (.own x)) x (.ins C dx [])) (λv H2=>v = .non/\Q (.ref x) H2) E) :
  li (pc X.prog X.w) X.A (call (.ref C) us) (EP X pins σ Q) X.xe s:=by
 have hq:=h (s.heap.objs.size+1) s.heap.objs.size (I.hok.fresh (EJ _)) (I.hok.fresh (lm _)) (ww (DB _))
 have I2:=Inv.made (C:=C) I
 have r2:Vals (V.ref (s.heap.objs.size+1)::(vs++dvs)) (Value.ref (s.heap.objs.size+1)::(us++ds)):=.cons rfl (r.append hd)
 have hl:(Value.ref (s.heap.objs.size+1)::us++ds).length=ps.length:=by
  have e:=r2.length
  rw[F.len _ _ _ _ hq]at e
  exact e.symm
 refine JT (wW (f:=f) I.kIn M.makes M.init (beq_iff_eq.mp M.fn) (EC (F.run _ X.stack _ _ ⟨Value.ref (s.heap.objs.size+1)::us,[]⟩ (Value.ref (s.heap.objs.size+1)::(us++ds)) _ _ E (hr.make C us [])
  (I2.env0.make C us []) (hb _ (Value.ref (s.heap.objs.size+1)::us) I2.kIn hl) r2 hq) λr s' hq'=>?_))
 cases r with
 | error e=>exact hx pins σ _ _ e s' I2 hq'
 | ok fl =>
  cases fl with
  | ret u =>
   obtain⟨v,H',I3,rv,ev,q3⟩:=I2.after hq'
   subst ev
   exact⟨rv,⟨V.ref (s.heap.objs.size+1),H',I3,rfl,q3⟩⟩
  | next=>exact DS hq'
  | brk=>exact DS hq'
  | cont=>exact DS hq'
theorem yJ (M:Mk X.K C f)(F:FnOk X.prog X.w X.K X.mg X.base CX k f fd ps sp)(hr:Room (k+1) X.A)(hg:Gl X x)(hm:X.mg x=some (.ref C))(hb:k7 X.K fd ps ds)(hd:Vals dvs ds)(hx:kZ CX X E)
  (ha:PA X (e::es) t) (hdb:(x==("__debug__" : Str))=false:=by decide) (he:B4 (e::es) X.env=(false,eval e X.env)::B4 es X.env:=by rfl) (hpl:(D_ pos (B4 es X.env)).any (·.1)=false:=by rfl) :
  PE X (.Call (.Name x p) (e::es) [] pos) (yq C sp dvs E t):=by
 intro pins s σ H Q I h
 refine FF (qm I hg hm ?_ hdb)
 refine F6 (h₀:=X.base) I.ok.mod.kin M.kp (thn (ha pos pins s σ H _ I h) λus s1 ⟨vs,H1,I1,r,q⟩=>⟨I1.kIn,?_⟩) he hpl
 exact wu M F hr hb hd hx I1 r q
end
structure aP (N P:List Str)(sc:DF):Prop where
 kind:sc.kind = .function
 co:sc.isCoroutine=false
 gen:sc.isGenerator=false
 nd:N.Nodup
 pre:N.take P.length=P
 par:∀x∈P,sc.names.lookup x=some .local∨sc.names.lookup x=some .cell
 nofree:∀y∈sc.names,y.2 ≠ .free
theorem oY {kindOf:Str->Option EA}{x:Str}:∀ {binds:List (Str×bn)} {m:Str->Option bn},(∀v,(x,v)∉binds)->IT kindOf binds m x=m x
 | [],_,_=>rfl
 | (n,v)::r,m,h=>by
  unfold IT
  rw[oY λw hw=>h w (BV _ hw)]
  split
  ·have:x≠n:=by rintro rfl;exact h v B2
   simp[this]
  ·rfl
theorem o7 {kindOf:Str->Option EA}{x:Str}:∀ {binds:List (Str×bn)} {m:Str->Option bn},(∀v,(x,v)∉binds)->IU kindOf binds m x=m x
 | [],_,_=>rfl
 | (n,v)::r,m,h=>by
  unfold IU
  rw[o7 λw hw=>h w (BV _ hw)]
  split
  ·rfl
  ·have:x≠n:=by rintro rfl;exact h v B2
   simp[this]
theorem oZ {kindOf:Str->Option EA}{x:Str}{v:bn}:∀ {P:List Str} {vs:List bn} {i:Nat} {m:Str->Option bn},P.Nodup->P[i]? = some x->vs[i]? = some v->kindOf x=some .local ->
  IT kindOf (P.zip vs) m x=some v
 | [],_,_,_,_,h,_,_=>by simp at h
 | _::_,[],_,_,_,_,h,_=>by simp at h
 | p::P,w::vs,0,m,nd,h1,h2,hk=>by
  simp at h1 h2;subst h1;subst h2
  show IT kindOf ((p,w)::P.zip vs) m p=_
  unfold IT
  rw[oY λv hv=>(Ef.mp nd).1 (G8 hv).1,if_pos hk]
  simp
 | p::P,w::vs,i+1,m,nd,h1,h2,hk=>by
  show IT kindOf ((p,w)::P.zip vs) m x=_
  unfold IT
  exact oZ (i:=i) (Ef.mp nd).2 (by simpa using h1) (by simpa using h2) hk
theorem o8 {kindOf:Str->Option EA}{x:Str}{v:bn}:∀ {P:List Str} {vs:List bn} {i:Nat} {m:Str->Option bn},P.Nodup->P[i]? = some x->vs[i]? = some v->kindOf x≠some .local ->
  IU kindOf (P.zip vs) m x=some v
 | [],_,_,_,_,h,_,_=>by simp at h
 | _::_,[],_,_,_,_,h,_=>by simp at h
 | p::P,w::vs,0,m,nd,h1,h2,hk=>by
  simp at h1 h2;subst h1;subst h2
  show IU kindOf ((p,w)::P.zip vs) m p=_
  unfold IU
  rw[o7 λv hv=>(Ef.mp nd).1 (G8 hv).1,if_neg hk]
  simp
 | p::P,w::vs,i+1,m,nd,h1,h2,hk=>by
  show IU kindOf ((p,w)::P.zip vs) m x=_
  unfold IU
  exact o8 (i:=i) (Ef.mp nd).2 (by simpa using h1) (by simpa using h2) hk
def start (N:List Str)(vs:List V):St:=vs.map some++o0 (N.length - vs.length) none
def cxOf (CX:CXT)(P:wS)(w:B_)(K:bi)(mg:Str->Option bn)(base:Heap)(N:List Str)(qual:Str)(scope:DF)(f:Addr)(cd:bn)(A:Cg)(outer:List Env)(s:ca)(H:Hp)(E:XK):Cx where
 prog:=P
 w:=w
 K:=K
 mg:=mg
 base:=base
 A:=A.deeper (E9 qual scope s.heap.objs.size f cd)
 N:=N
 s₀:=s
 H₀:=H
 env:=E9 qual scope s.heap.objs.size f cd
 outer:=outer
 stack:=E9 qual scope s.heap.objs.size f cd::outer
 ex:=[]
 calm:=true
 fn:=λ_=>true
 pn:=[]
 xe:=λe s'=>li (pc P w) (A.deeper (E9 qual scope s.heap.objs.size f cd)) (leaving (E9 qual scope s.heap.objs.size f cd) e) (λ_ s''=>CX outer H s E e s'') (λe' s''=>CX outer H s E e' s'') s'
theorem rU {sc:DF}{n:Nat}{x:Str}(h:sc.names.lookup x=some .cell):∃c,(Kl n sc.names []).lookup x=some c:=by
 have q:=HA sc.names n [] (.inl h)
 exact Option.isSome_iff_exists.mp q
theorem u7 {CX:CXT}{P:wS}{w:B_}{K:bi}{mg:Str->Option bn}{base:Heap}{N ps:List Str}{qual:Str}{scope:DF}{f:Addr}{cd:bn}{A:Cg}{outer:List Env}{s s1:ca}{H:Hp}{E:XK}{us:List bn}{vs:List V}
  (S:aP N ps scope) (hd:A.handled=none) (e0:Env0 P w K mg base A outer s H) (hl:vs.length=ps.length) (r:Vals vs us)
  (x:InCallC s s.heap.objs.size (IT (E9 qual scope s.heap.objs.size f cd).kindOf (ps.zip us) λ_=>none) (Kl (s.heap.objs.size+1) scope.names []) (IU (E9 qual scope s.heap.objs.size f cd).kindOf (ps.zip us) λ_=>none) s1) :
  Inv (cxOf CX P w K mg base N qual scope f cd A outer s H E) [] (start N vs) H s1:=by
 have hpl:ps.length<=N.length:=by have:=congrArg Ks S.pre;rw[B6]at this;omega
 obtain⟨h1,tk,rfl,hk⟩:=x.done
 have noA:∀b:Addr,b∉(cxOf CX P w K mg base N qual scope f cd A outer s H E).ex:=λb z=>absurd (show b∈([]:List Addr)from z) (by simp)
 refine⟨⟨e0.mod,S.kind,rfl,rfl,lm _,λy z c h1 h2=>?_,λy hy=>?_,λy c _ h=>?_,λ_=>hd,Around.frames_deeper e0.frames,.inr ⟨rfl,rfl⟩,λb z=>absurd z (noA b),e0.bs,e0.bsz,λb _ _=>noA b,λb z=>absurd z (noA b),e0.funs,e0.frf⟩,
  rfl,e0.bare,Un.kept hk,⟨_,x.toInCall.ns,λi y v h1 h2 h3=>?_⟩,λy c h=>⟨_,x.cell y c h⟩,e0.hok.fresh (lm _),λy c h=>?_,λp hp=>absurd (show p∈([]:List (Addr×Obj))from hp) (by simp),e0.hok.kept hk,?_⟩
 ·exact name_of_addr x.apart (CZ h1) (CZ h2)
 ·have hy:scope.names.lookup y=some .cell∨scope.names.lookup y=some .free:=hy
  rcases hy with hy | hy
  ·exact rU hy
  ·exact absurd rfl (S.nofree _ (CZ hy))
 ·exact CN (x.above y c (CZ h))
 ·have hi:i<vs.length:=by
   unfold start at h2
   by_cases hi:i<vs.length
   ·exact hi
   ·rw[Ci (by simpa using hi)]at h2
    rw[CP]at h2
    split at h2 <;> cases h2
  have ha:vs[i]? = some v:=by
   unfold start at h2
   rw[BY (by simpa using hi),wv]at h2
   cases e:vs[i]? with
   | none=>rw[e]at h2;cases h2
   | some a=>rw[e]at h2;cases h2;rfl
  obtain⟨u,hu,rv⟩:=r.get ha
  have hp:ps[i]? = some y:=by
   rw[<- S.pre,FC (by omega)];exact h1
  have ndP:ps.Nodup:=by rw[<- S.pre];exact S.nd.sublist (List.take_sublist _ _)
  refine⟨u,rv,?_⟩
  rcases S.par y (Cd hp)with k | k
  ·exact .inl ⟨k,oZ ndP hp hu k⟩
  ·obtain⟨c,e⟩:=rU (n:=s.heap.objs.size+1) k
   refine .inr ⟨.inl k,c,e,?_⟩
   have q:=x.cell y c e
   rw[o8 ndP hp hu (by show scope.names.lookup y≠_;rw[k];decide)]at q
   exact q
 ·exact e0.hok.fresh (CN (x.above y c (CZ h)))
 ·unfold start
  show _=N.length
  rw[wP,f8,Dd]
  omega
theorem BA {CX:CXT}{P:wS}{w:B_}{K:bi}{mg:Str->Option bn}{base:Heap}{k:Nat}{f:Addr}{name qual:Str}{params:Arguments}{body:List Stmt}{scope:DF}{dV kV doc pm cdv ct oc:bn}{an od:Option Addr}
  {osl:Array (Option bn)} {N ps:List Str} {sp:Sp} (lk:K.lookup f=some ⟨oc,od,.func (CF name qual params body scope dV kV doc pm an cdv ct),osl⟩) (hcd:CL K cdv qual=true) (S:aP N ps scope)
  (len:∀vs H Q E,sp vs H Q E->vs.length=ps.length)
  (hbody:∀(A:Cg) (outer:List Env) (s:ca) (H:Hp) (vs:List V) (Q:VK) (E:XK),Room k (A.deeper (E9 qual scope s.heap.objs.size f cdv))->sp vs H Q E ->
   ∃t,PSs (cxOf CX P w K mg base N qual scope f cdv A outer s H E) body t/\t {nx:=λ_ H'=>Q .non H',rt:=Q} (start N vs) H) :
  FnOk P w K mg base CX (k+1) f (CF name qual params body scope dV kV doc pm an cdv ct) ps sp:=by
 refine⟨len,λA outer s H args us vs Q E hr e0 hb r hsp=>?_⟩
 have hl:=len _ _ _ _ hsp
 have KX:K.In s.heap:=e0.mod.kin.keeps λb o e=>(e0.bs b o e).1
 have lim:s.heap.NoLimit:=e0.mod.nolimit.keeps λb o e=>(e0.bs b o e).1
 have hkind:∀y∈ps.zip us,scope.names.lookup y.1=some .local∨(scope.names.lookup y.1=some .cell/\((Kl (s.heap.objs.size+1) scope.names []).lookup y.1).isSome=true):=λ⟨n,v⟩ hy=>by
  rcases S.par n (G8 hy).1 with q | q
  ·exact .inl q
  ·exact .inr ⟨q,HA _ _ _ (.inl q)⟩
 refine codeAny_call_function hr.depth (KX _ _ lk) rfl S.co S.gen rfl (PySem.W.codeRec_of KX hcd) (hb _ _ _ _ ?_)
 refine wpAny_newFunctionEnv_cells S.kind hkind λenv he s1 x=>?_
 subst he
 refine⟨lim.keeps x.toInCall.keep,codeAny_func ?_⟩
 obtain⟨t,ht,hq⟩:=hbody A outer s H vs Q E (hr.deeper _) hsp
 have I:Inv (cxOf CX P w K mg base N qual scope f cdv A outer s H E) [] (start N vs) H s1:=u7 S hr.hd e0 hl r x
 refine Dt (ht [] s1 (start N vs) H _ I hq) (λfl s' hs=>?_) λe s' hs=>hs
 have fin:∀ {σ':St} {H':Hp} {v:V} {u:bn},Inv (cxOf CX P w K mg base N qual scope f cdv A outer s H E) [] σ' H' s'->RelV v u->Q v H'->CE outer P w H s Q u s' :=
  λ{σ' H' v u} J rv q=>⟨v,H',J.os,J.bare,J.base,J.hok,rv,q⟩
 cases fl with
 | ret u =>
  obtain⟨v,σ',H',J,rv,q⟩:=hs
  exact fin J rv q
 | next =>
  obtain⟨σ',H',J,q⟩:=hs
  exact fin (v:=V.non) (u:=Value.none) J rfl q
 | brk =>
  obtain⟨_,_,_,q⟩:=hs
  exact DS q
 | cont =>
  obtain⟨_,_,_,q⟩:=hs
  exact DS q
section
variable {X:Cx}{x:Str}{p pos:Pos}{e:Expr}{es:List Expr}{t:TA}{id T:String}{r:List V->Hp->VK->Prop}
def tCB (r:List V->Hp->VK->Prop)(t:TA):TE:=λσ H Q=>t σ H λvs H1=>r vs H1 Q
theorem bh (hc:ik X (.builtin id) r)(hg:Gl X x)(hm:X.mg x=none)(hv:CA x=some (.builtin id))(ha:PA X (e::es) t)(hn:x ≠ "__name__" := by decide)(hdb:(x==("__debug__" : Str))=false:=by decide)
  (he:B4 (e::es) X.env=(false,eval e X.env)::B4 es X.env:=by rfl) (hpl:(D_ pos (B4 es X.env)).any (·.1)=false:=by rfl):PE X (.Call (.Name x p) (e::es) [] pos) (tCB r t):=by
 intro pins s σ H Q I h
 refine FF (fj I hg hm hv ?_ hn hdb)
 exact EF (thn (ha pos pins s σ H _ I h) λus s1 ⟨vs,H1,I1,r1,q1⟩=>hc pins s1 σ H1 vs us Q I1 r1 q1) he hpl
theorem cP (hc:ik X (.type T) r)(hg:Gl X x)(hm:X.mg x=none)(hv:CA x=some (.type T))(ha:PA X (e::es) t)(hn:x ≠ "__name__" := by decide)(hdb:(x==("__debug__" : Str))=false:=by decide)
  (he:B4 (e::es) X.env=(false,eval e X.env)::B4 es X.env:=by rfl) (hpl:(D_ pos (B4 es X.env)).any (·.1)=false:=by rfl):PE X (.Call (.Name x p) (e::es) [] pos) (tCB r t):=by
 intro pins s σ H Q I h
 refine FF (fj I hg hm hv ?_ hn hdb)
 exact Cy (thn (ha pos pins s σ H _ I h) λus s1 ⟨vs,H1,I1,r1,q1⟩=>hc pins s1 σ H1 vs us Q I1 r1 q1) he hpl
end
end L2
namespace HT
open PySem PyProof.Rows
section
variable {prog:wS}{w:B_}{A:Cg}{E:bn->ca->Prop}{s:ca}
def sIx (n d:Nat):Option Int->Nat
 | none=>d
 | some v=>if v<0 then(v+(n:Int)).toNat else min v.toNat n
theorem sIx_nat (n d k:Nat):sIx n d (some (k:Int))=min k n:=by
 show(if(k:Int)<0 then((k:Int)+(n:Int)).toNat else min (k:Int).toNat n)=min k n
 rw[if_neg (by omega),CB]
end
end HT
namespace L2
open PySem PySem.Spec PyProof.Rows
abbrev TO:=St->Hp->(Option Int->Hp->Prop)->Prop
def PO (X:Cx)(e:Option Expr)(t:TO):Prop :=
 ∀(pins:List (Addr×Obj)) (s:ca) (σ:St) (H:Hp) (Q:Option Int->Hp->Prop),Inv X pins σ H s->t σ H Q ->
  li (pc X.prog X.w) X.A (evalPart e X.env) (λu s'=>∃o H',Inv X pins σ H' s'/\IsPart u o/\Q o H') X.xe s
def tNoPart:TO:=λ_ H Q=>Q none H
def z6 (t:TE):TO:=λσ H Q=>t σ H λx H1=>∃i,x = .int i/\Q (some i) H1
theorem lR {ns:List Int}:∀ {us:List bn},Vals (ns.map V.int) us->EE us ns:=by
 induction ns with
 | nil=>intro us r;rw[Dn]at r;cases r;exact .nil
 | cons n ns ih =>
  intro us r
  rw[wE]at r
  cases r with
  | cons r1 r2 =>
   obtain⟨t,e⟩:=r1
   subst e
   exact .cons n t (ih r2)
section
variable {X:Cx}{e:Expr}{te:TE}{lo hi:Option Expr}{tl th:TO}{pos p2:Pos}
theorem jb:PO X none tNoPart:=by
 intro pins s σ H Q I h
 rw[evalPart_none]
 exact dL ⟨none,H,I,.none,h⟩
theorem ja (h:PE X e te):PO X (some e) (z6 te):=by
 intro pins s σ H Q I hw
 rw[evalPart_some]
 refine thn (h pins s σ H _ I hw) λu s1 ⟨x,H1,I1,r1,q1⟩=>?_
 obtain⟨i,rfl,q⟩:=q1
 obtain⟨t,rfl⟩:=r1
 exact⟨some i,H1,I1,.int i t,q⟩
def SlR (X:Cx)(r:V->Option Int->Option Int->Hp->VK->Prop):Prop :=
 ∀(pins:List (Addr×Obj)) (s:ca) (σ:St) (H:Hp) (x:V) (v vl vu:bn) (lo hi:Option Int) (sl:Addr) (Q:VK),Inv X pins σ H s->RelV x v->s.heap.IsSliceOf sl vl vu .none->IsPart vl lo->IsPart vu hi->r x lo hi H Q ->
  ∃T id,G2 (.type T) "__getitem__" = pure (some (.builtin id))/\s.TypeIs v T/\li (pc X.prog X.w) X.A (HZ v (.ref sl)) (EP X pins σ Q) X.xe s
def tSl (r:V->Option Int->Option Int->Hp->VK->Prop)(te:TE)(tl th:TO):TE:=λσ H Q=>te σ H λx H1=>tl σ H1 λl H2=>th σ H2 λu H3=>r x l u H3 Q
theorem g0 {r:V->Option Int->Option Int->Hp->VK->Prop}(hr:SlR X r)(he:PE X e te)(hl:PO X lo tl)(hu:PO X hi th):PE X (.Subscript e (.Slice lo hi none p2) pos) (tSl r te tl th):=by
 intro pins s σ H Q I h
 refine JZ (thn (he pins s σ H _ I h) λv s1 ⟨x,H1,I1,r1,q1⟩=>?_)
 refine wpAny_Slice (thn (hl pins s1 σ H1 _ I1 q1) λvl s2 ⟨l,H2,I2,pl,q2⟩=>thn (hu pins s2 σ H2 _ I2 q2) λvu s3 ⟨u,H3,I3,pu,q3⟩=>?_)
 rw[evalPart_none]
 refine dL ?_
 have I4:Inv X pins σ H3 {s3 with heap:=s3.heap.push {cls:=.type "slice",data:=.fields #[vl,vu,.none]}}:=I3.kept (t':=s3.toks) λb ob q=>db _ q
 obtain⟨T,id,hT,ht,hg⟩:=hr pins {s3 with heap:=s3.heap.push {cls:=.type "slice",data:=.fields #[vl,vu,.none]}} σ H3 x v vl vu l u s3.heap.objs.size Q I4 r1 (Kf ..) pl pu q3
 show li (pc X.prog X.w) X.A (IE e (.Slice lo hi none p2) v (.ref s3.heap.objs.size)) (EP X pins σ Q) X.xe {s3 with heap:=s3.heap.push {cls:=.type "slice",data:=.fields #[vl,vu,.none]}}
 exact tail_any (ops:=[.ref s3.heap.objs.size,v]) ht hT hg (by with_unfolding_all rfl)
def cutV (xs:List V)(lo hi:Option Int):List V:=(xs.drop (HT.sIx xs.length 0 lo)).take (HT.sIx xs.length xs.length hi - HT.sIx xs.length 0 lo)
theorem qz (xs:List V)(lo hi:Option Int):(cutV xs lo hi).length<=xs.length:=by
 unfold cutV
 rw[B6,Jq]
 omega
end
def ixN (n:Nat)(i:Int):Option Nat:=if 0<=i then(if i<n then some i.toNat else none)else if -(n:Int)<=i then some (i+n).toNat else none
def atI {α:Type}(xs:List α)(i:Int):Option α:=(ixN xs.length i).bind λj=>xs[j]?
theorem zf {n:Nat}{i:Int}{j:Nat}(h:ixN n i=some j):seqIndex? i n=some j/\j<n/\-(n:Int)<=i/\i<n:=by
 unfold ixN at h
 by_cases h0:0<=i
 ·rw[if_pos h0]at h
  by_cases h1:i<n
  ·rw[if_pos h1]at h
   have e:i.toNat=j:=Di h
   exact⟨by rw[seqIndex_of h0 h1,e],by omega,by omega,h1⟩
  ·rw[if_neg h1]at h;cases h
 ·rw[if_neg h0]at h
  by_cases h1:-(n:Int)<=i
  ·rw[if_pos h1]at h
   have e:(i+n).toNat=j:=Di h
   exact⟨by rw[seqIndex_neg (by omega) h1,e],by omega,h1,by omega⟩
  ·rw[if_neg h1]at h;cases h
theorem qH {α:Type}{xs:List α}{i:Int}{v:α}(h:atI xs i=some v):∃j,seqIndex? i xs.length=some j/\xs[j]? = some v/\j<xs.length/\-(xs.length:Int)<=i/\i<xs.length:=by
 unfold atI at h
 cases e:ixN xs.length i with
 | none=>rw[e]at h;cases h
 | some j =>
  rw[e]at h
  obtain⟨h1,h2,h3,h4⟩:=zf e
  exact⟨j,h1,h,h2,h3,h4⟩
theorem ny {α:Type}{xs:List α}{j:Nat}{v:α}(h:xs[j]? = some v):atI xs (j:Int)=some v:=by
 have hj:j<xs.length:=(kt.mp h).1
 have e:ixN xs.length (j:Int)=some j:=by
  unfold ixN
  rw[if_pos (by omega),if_pos (by omega)];simp
 unfold atI;rw[e];exact h
def zO (b:Expr):Prop:=∀o i,HH b false o i=operate [o,i] (HZ o i)
def IxR (X:Cx)(r:R2):Prop :=
 ∀(value slice:Expr) (pins:List (Addr×Obj)) (s:ca) (σ:St) (H:Hp) (x y:V) (v u:bn) (Q:VK),Inv X pins σ H s->RelV x v->RelV y u->r x y H Q ->
  HH slice false v u=operate [v,u] (HZ v u)->li (pc X.prog X.w) X.A (IE value slice v u) (EP X pins σ Q) X.xe s
def MtR (X:Cx)(id:String)(r:V->List V->Hp->VK->Prop):Prop :=
 ∀(pins:List (Addr×Obj)) (s:ca) (σ:St) (H:Hp) (x:V) (xs:List V) (v:bn) (us:List bn) (Q:VK),Inv X pins σ H s->RelV x v->Vals xs us->r x xs H Q ->
  li (pc X.prog X.w) X.A (call (.builtin id) (v::us)) (EP X pins σ Q) X.xe s
section
variable {X:Cx}{a b:Expr}{ta tb:TE}{pos:Pos}
theorem IxR.or {r r':R2}(h:IxR X r)(h':IxR X r'):IxR X (λx y H Q=>r x y H Q∨r' x y H Q):=by
 intro value slice pins s σ H x y v u Q I rx ry q hs
 rcases q with q | q
 ·exact h value slice pins s σ H x y v u Q I rx ry q hs
 ·exact h' value slice pins s σ H x y v u Q I rx ry q hs
theorem b9 {r:R2}(hr:IxR X r)(ha:PE X a ta)(hb:PE X b tb)(hs:zO b):PE X (.Subscript a b pos) (tOp r ta tb):=by
 intro pins s σ H Q I h
 exact JZ (binT ha hb I h λv u s2 x y H2 I2 rx ry q=>hr a b pins s2 σ H2 x y v u Q I2 rx ry q (hs _ _))
def rIxL (K:bi):R2:=λx y H Q=>∃p xs i v,x = .ref p/\y = .int i/\SqL K H p xs/\atI xs i=some v/\Q v H
def rIxT (K:bi):R2:=λx y H Q=>∃p xs i v,x = .ref p/\y = .int i/\SqT K H p xs/\atI xs i=some v/\Q v H
def rIxS:R2:=λx y H Q=>∃z i c,x = .str z/\y = .int i/\z.length<=wT/\atI z.cps.toList i=some c/\Q (.str ⟨#[c]⟩) H
theorem ze:IxR X (rIxL X.K):=by
 intro value slice pins s σ H x y v u Q I rx ry h hs
 obtain⟨p,xs,i,z,rfl,rfl,hq,he,q⟩:=h
 cases rx
 obtain⟨t,rfl⟩:=ry
 obtain⟨its,r,pl,hz⟩:=I.list hq
 obtain⟨j,h1,h2,h3,h4,h5⟩:=qH he
 obtain⟨w,ew,rw'⟩:=r.get h2
 have hl:=r.length
 have hn:=oo
 have fin:EP X pins σ Q w s:=⟨z,H,I,rw',q⟩
 by_cases h0:0<=i
 ·have hj:i.toNat=j:=by
   rw[seqIndex_of h0 h5]at h1
   exact Di h1
  exact item_listR pl.isList h0 (by omega) (by rw[hj];simpa using ew) fin hs
 ·have hj:(i+(its.toArray.size:Int)).toNat=j:=by
   rw[seqIndex_neg (by omega) h4]at h1
   rw[on,<- hl]
   exact Di h1
  exact Jd (x:=w) pl.isList.typeIs J_.lookup
   (wpAny_getItem_list_neg (Q:=λr s'=>r=w/\EP X pins σ Q r s') pl.isList (by omega) (by rw[on] <;> omega) (by omega) (by rw[hj];simpa using ew) ⟨rfl,fin⟩) hs
theorem AN:IxR X (rIxT X.K):=by
 intro value slice pins s σ H x y v u Q I rx ry h hs
 obtain⟨p,xs,i,z,rfl,rfl,hq,he,q⟩:=h
 cases rx
 obtain⟨t,rfl⟩:=ry
 obtain⟨its,r,pl,hz⟩:=I.tuple hq
 obtain⟨j,h1,h2,h3,h4,h5⟩:=qH he
 obtain⟨w,ew,rw'⟩:=r.get h2
 have hl:=r.length
 have hn:=oo
 have fin:EP X pins σ Q w s:=⟨z,H,I,rw',q⟩
 exact Jd (x:=w) pl.typeIs slot_tuple_getitem.lookup
  (getItem_tuple (j:=j) (Q:=λr s'=>r=w/\EP X pins σ Q r s') pl (by omega) (by omega) (by rw[on,<- hl];exact h1) (by simpa using ew) ⟨rfl,fin⟩) hs
theorem AQ:IxR X rIxS:=by
 intro value slice pins s σ H x y v u Q I rx ry h hs
 obtain⟨z,i,c,rfl,rfl,hz,he,q⟩:=h
 obtain⟨t,rfl⟩:=rx
 obtain⟨t',rfl⟩:=ry
 obtain⟨j,h1,h2,h3,h4,h5⟩:=qH he
 have hl:z.cps.toList.length=z.length:=by simp[Str.length]
 rw[hl]at h1 h4 h5
 have hn:=oo
 exact tail_any (typeIs_str s z t) slot_str_getitem.lookup (getItem_str (c:=c) (by
  have e1:decide (i < -(2^63:Int))=false:=decide_eq_false (by omega)
  have e2:decide (i>=2^63)=false:=decide_eq_false (by omega)
  rw[e1,e2,Gm]) (by rw[h1];simpa using h2) ⟨.str ⟨#[c]⟩,H,I.tok _,⟨_,rfl⟩,q⟩) hs
def rIx (K:bi):R2:=λx y H Q=>rIxL K x y H Q∨rIxT K x y H Q∨rIxS x y H Q
theorem AR:IxR X (rIx X.K):=ze.or (AN.or AQ)
theorem nK (lo hi:Option Int)(n:Nat):(Fk lo hi none n).1=((HT.sIx n 0 lo:Nat):Int)/\(Fk lo hi none n).2.1=((HT.sIx n n hi:Nat):Int)/\(Fk lo hi none n).2.2=1:=by
 refine⟨?_,?_,rfl⟩
 ·cases lo with
  | none=>simp[Fk,HT.sIx]
  | some i =>
   simp only[Fk,HT.sIx,IZ,show(1:Int) > 0 by decide,if_true]
   by_cases h:i<0
   ·simp only[h,if_true] <;> omega
   ·simp only[h,if_false] <;> omega
 ·cases hi with
  | none=>simp[Fk,HT.sIx]
  | some i =>
   simp only[Fk,HT.sIx,IZ,show(1:Int) > 0 by decide,if_true]
   by_cases h:i<0
   ·simp only[h,if_true] <;> omega
   ·simp only[h,if_false] <;> omega
theorem mw (its:List bn)(lo hi:Option Int):slicePick its.toArray lo hi none=((its.drop (HT.sIx its.length 0 lo)).take (HT.sIx its.length its.length hi - HT.sIx its.length 0 lo)).toArray:=by
 obtain⟨h1,h2,h3⟩:=nK lo hi its.toArray.size
 unfold slicePick
 rw[h1,h2,h3]
 simp only[sliceRange_one,pick_run,on] <;> rfl
def rSlL (K:bi):V->Option Int->Option Int->Hp->VK->Prop:=λx lo hi H Q=>∃a xs,x = .ref a/\SqL K H a xs/\∀p,H p=none->Q (.ref p) (upd H p (.lst (cutV xs lo hi)))
theorem yx:SlR X (rSlL X.K):=by
 intro pins s σ H x v vl vu lo hi sl Q I rx hs pl pu h
 obtain⟨a,xs,rfl,hx,q⟩:=h
 cases rx
 obtain⟨its,r,ht,hz⟩:=I.list hx
 have hlen:=r.length
 refine⟨"list",_,J_.lookup,ht.isList.typeIs,?_⟩
 refine wpAny_getItem_list_slice ht.isList hs pl pu .none (by simp) ?_ (by rw[on] <;> omega)
 rw[mw,<- hlen]
 refine⟨.ref s.heap.objs.size,_,I.laid (t':=s.toks) (o:=.lst (cutV xs lo hi)) (λb ob q=>db _ q) (lm _) ?_,rfl,q _ (I.hok.fresh (lm _))⟩
 exact⟨xz (qz xs lo hi) hz,_,0,(r.drop (HT.sIx xs.length 0 lo)).take (HT.sIx xs.length xs.length hi - HT.sIx xs.length 0 lo),wn _ rfl⟩
def jH:V->Bool
 | .non=>true
 | .bl _=>true
 | .int _=>true
 | .str _=>true
 | _=>false
def eqV:V->V->Bool
 | .non,.non=>true
 | .bl a,.bl b=>a==b
 | .bl a,.int b=>(if a then 1 else 0)==b
 | .int a,.bl b=>a==(if b then 1 else 0)
 | .int a,.int b=>a==b
 | .str a,.str b=>a==b
 | _,_=>false
theorem A7 {A:Cg}{s:ca}{y x:V}{u v:bn}(ry:RelV y u)(rx:RelV x v)(fy:jH y=true)(fx:jH x=true):Fo A s u v (eqV y x):=by
 cases y with
 | non =>
  cases ry
  cases x with
  | non=>cases rx;exact SeqAt.EqAt.same _
  | bl b=>cases rx;exact SeqAt.EqAt.none_bool b
  | int b=>obtain⟨t,rfl⟩:=rx;exact SeqAt.EqAt.none_int b t
  | str b=>obtain⟨t,rfl⟩:=rx;exact SeqAt.EqAt.none_str b t
  | _=>exact absurd (show false=true from fx) Ca
 | bl a =>
  cases ry
  cases x with
  | non=>cases rx;exact SeqAt.EqAt.bool_none a
  | bl b=>cases rx;exact SeqAt.EqAt.bool_bool a b
  | int b=>obtain⟨t,rfl⟩:=rx;exact SeqAt.EqAt.bool_int a b t
  | str b=>obtain⟨t,rfl⟩:=rx;exact SeqAt.EqAt.bool_str a b t
  | _=>exact absurd (show false=true from fx) Ca
 | int a =>
  obtain⟨t',rfl⟩:=ry
  cases x with
  | non=>cases rx;exact SeqAt.EqAt.int_none a t'
  | bl b=>cases rx;exact SeqAt.EqAt.int_bool a t' b
  | int b=>obtain⟨t,rfl⟩:=rx;exact SeqAt.EqAt.int_int a t' b t
  | str b=>obtain⟨t,rfl⟩:=rx;exact HJ a t' b t
  | _=>exact absurd (show false=true from fx) Ca
 | str a =>
  obtain⟨t',rfl⟩:=ry
  cases x with
  | non=>cases rx;exact SeqAt.EqAt.str_none a t'
  | bl b=>cases rx;exact SeqAt.EqAt.str_bool a t' b
  | int b=>obtain⟨t,rfl⟩:=rx;exact HI a t' b t
  | str b=>obtain⟨t,rfl⟩:=rx;exact SeqAt.EqAt.str_str a t' b t
  | _=>exact absurd (show false=true from fx) Ca
 | _=>exact absurd (show false=true from fy) Ca
def eqU (x:V)(u:bn):Bool:=match u with
 | .none=>eqV .non x
 | .bool b=>eqV (.bl b) x
 | .int i _=>eqV (.int i) x
 | .str z _=>eqV (.str z) x
 | _=>false
theorem vy {x y:V}{u:bn}(r:RelV y u)(f:jH y=true):eqU x u=eqV y x:=by
 cases y with
 | non=>cases r;rfl
 | bl b=>cases r;rfl
 | int i=>obtain⟨t,rfl⟩:=r;rfl
 | str z=>obtain⟨t,rfl⟩:=r;rfl
 | _=>exact absurd (show false=true from f) Ca
theorem kX {x:V}:∀ {xs:List V} {us:List bn},Vals xs us->xs.all jH=true->us.any (eqU x)=xs.any λy=>eqV y x
 | _,_,.nil,_=>rfl
 | y::xs,u::us,.cons r t,f=>by
  rw[FD,BX]at f
  rw[DC,DC,vy r f.1,kX t f.2]
theorem g6 {A:Cg}{s:ca}{x:V}{v:bn}(rx:RelV x v)(fx:jH x=true):∀ {xs:List V} {us:List bn},Vals xs us->xs.all jH=true->∀u∈us,Fo A s u v (eqU x u)
 | _,_,.nil,_=>λu hu=>by cases hu
 | y::xs,u::us,.cons r t,f=>λu' hu=>by
  rw[FD,BX]at f
  rcases sK.mp hu with rfl | hu
  ·rw[vy r f.1];exact A7 r rx f.1 fx
  ·exact g6 rx fx t f.2 u' hu
def inV (x:V)(xs:List V):Bool:=xs.any λy=>eqV y x
def rIn (K:bi)(neg:Bool):R2:=λx y H Q=>∃p xs,y = .ref p/\(SqL K H p xs∨SqT K H p xs)/\jH x=true/\xs.all jH=true/\Q (.bl (if neg then !inV x xs else inV x xs)) H
theorem uF:OpR X (Dx .In) (rIn X.K false):=by
 intro pins s σ H x y v u Q I rx ry h
 obtain⟨p,xs,rfl,hq,fx,fs,q⟩:=h
 cases ry
 rcases hq with hq | hq
 ·obtain⟨its,r,pl,hz⟩:=I.list hq
  refine SeqAt.in_listAt (eqU x) pl.isList (λw hw=>g6 rx fx r fs w (by simpa using hw)) ⟨.bl _,H,I,rfl,?_⟩
  rw[show its.toArray.any (eqU x)=its.any (eqU x)by simp,kX r fs]
  exact q
 ·obtain⟨its,r,pl,hz⟩:=I.tuple hq
  refine SeqAt.in_tupleAt (eqU x) pl (λw hw=>g6 rx fx r fs w (by simpa using hw)) ⟨.bl _,H,I,rfl,?_⟩
  rw[show its.toArray.any (eqU x)=its.any (eqU x)by simp,kX r fs]
  exact q
theorem nV:OpR X (Dx .NotIn) (rIn X.K true):=by
 intro pins s σ H x y v u Q I rx ry h
 obtain⟨p,xs,rfl,hq,fx,fs,q⟩:=h
 cases ry
 rcases hq with hq | hq
 ·obtain⟨its,r,pl,hz⟩:=I.list hq
  refine SeqAt.notIn_listAt (eqU x) pl.isList (λw hw=>g6 rx fx r fs w (by simpa using hw)) ⟨.bl _,H,I,rfl,?_⟩
  rw[show its.toArray.any (eqU x)=its.any (eqU x)by simp,kX r fs]
  exact q
 ·obtain⟨its,r,pl,hz⟩:=I.tuple hq
  refine SeqAt.notIn_tupleAt (eqU x) pl (λw hw=>g6 rx fx r fs w (by simpa using hw)) ⟨.bl _,H,I,rfl,?_⟩
  rw[show its.toArray.any (eqU x)=its.any (eqU x)by simp,kX r fs]
  exact q
theorem oX:ik X (.builtin "len") (λxs H Q=>∃p ys,xs=[.ref p]/\(SqL X.K H p ys∨SqT X.K H p ys)/\Q (.int ys.length) H):=by
 intro pins s σ H xs us Q I r h
 obtain⟨p,ys,rfl,hq,q⟩:=h
 obtain⟨u,rfl,rx⟩:=jz r
 cases rx
 have hn:=oo
 rcases hq with hq | hq
 ·obtain⟨its,r',pl,hz⟩:=I.list hq
  have hlen:=r'.length
  exact Calls.call_len_list pl.isList (by simp only[on] <;> omega) ⟨.int ys.length,H,I.tok _,⟨s.toks+1,by rw[on,hlen]⟩,q⟩
 ·obtain⟨its,r',pl,hz⟩:=I.tuple hq
  have hlen:=r'.length
  exact len_tuple pl (by simp only[on] <;> omega) ⟨.int ys.length,H,I.tok _,⟨s.toks+1,by rw[on,hlen]⟩,q⟩
theorem oW:ik X (.type "list") (λxs H Q=>∃p ys,xs=[.ref p]/\(SqL X.K H p ys∨SqT X.K H p ys)/\∀l,H l=none->Q (.ref l) (upd H l (.lst ys))):=by
 intro pins s σ H xs us Q I r h
 obtain⟨p,ys,rfl,hq,q⟩:=h
 obtain⟨u,rfl,rx⟩:=jz r
 cases rx
 have fin:∀(its:List bn),Vals ys its->ys.length<=wT->∀(h':Heap) (c':Nat),(∀b o',s.heap.get? b=some o'->h'.get? b=some o') ->
   h'.get? s.heap.objs.size=some {cls:=.type "list",dict:=none,data:=.seq its.toArray c',slots:=#[]}->EP X pins σ Q (.ref s.heap.objs.size) {s with heap:=h'}:=λits r' hz h' c' kp e =>
  ⟨.ref s.heap.objs.size,_,I.laid (t':=s.toks) kp (lm _) (show cL X.prog X.w _ h' _ (.lst ys)from⟨hz,its,c',r',e⟩),rfl,q _ (I.hok.fresh (lm _))⟩
 rcases hq with hq | hq
 ·obtain⟨its,r',pl,hz⟩:=I.list hq
  have hlen:=r'.length
  obtain⟨o,ho,hc,n,hd⟩:=pl.isList
  exact call_list_seq p (.inl rfl) ho hc hd (λh' c' kp e=>fin its r' hz h' c' kp e) (by simp only[on] <;> omega)
 ·obtain⟨its,r',pl,hz⟩:=I.tuple hq
  have hlen:=r'.length
  obtain⟨o,ho,hc,n,hd⟩:=pl
  exact call_list_seq p (.inr rfl) ho hc hd (λh' c' kp e=>fin its r' hz h' c' kp e) (by simp only[on] <;> omega)
theorem nh:ik X (.type "tuple") (λxs H Q=>∃p ys,xs=[.ref p]/\((SqL X.K H p ys/\∀l,H l=none->Q (.ref l) (upd H l (.tup ys)))∨(SqT X.K H p ys/\Q (.ref p) H))):=by
 intro pins s σ H xs us Q I r h
 obtain⟨p,ys,rfl,h⟩:=h
 obtain⟨u,rfl,rx⟩:=jz r
 cases rx
 rcases h with⟨hq,q⟩ | ⟨hq,q⟩
 ·obtain⟨its,r',pl,hz⟩:=I.list hq
  have hlen:=r'.length
  refine call_tuple_list pl.isList (λh' kp=>?_) (by simp only[on] <;> omega)
  have I1:Inv X pins σ H {s with heap:=h'}:=I.kept (t':=s.toks) kp
  have I2:Inv X pins σ (upd H h'.objs.size (.tup ys)) {s with heap:=h'.push {cls:=.type "tuple",data:=.seq its.toArray}} :=
   I1.laid (t':=s.toks) (λb o e=>db _ e) (lm _) (show cL X.prog X.w _ _ _ (.tup ys)from⟨hz,its,r',IsTup.new _ _⟩)
  exact⟨.ref h'.objs.size,_,I2,rfl,q _ (I1.hok.fresh (lm _))⟩
 ·obtain⟨its,r',pl,hz⟩:=I.tuple hq
  exact call_tuple_same pl ⟨.ref p,H,I,rfl,q⟩
def tyV (K:bi)(T:String)(x:V)(H:Hp):Prop:=match x with
 | .str _=>T = "str"
 | .int _=>T = "int"
 | .ref p=>(T = "list" /\ ∃xs,SqL K H p xs)∨(T = "tuple" /\ ∃o,K.lookup p=some o/\o.cls = .type "tuple" /\ o.dict=none) ∨
   (T = "dict" /\ ((∃kvs,H p=some (.dK kvs)) ∨ ∃kvs,H p=some (.dT kvs)))∨(T = "set" /\ ∃S n,H p=some (.set S n))
 | _=>False
theorem zU {pins:List (Addr×Obj)}{σ:St}{H:Hp}{s:ca}{T:String}{x:V}{v:bn}(I:Inv X pins σ H s)(r:RelV x v)(ty:tyV X.K T x H) :
  s.TypeIs v T/\∀a,v = .ref a->∃ob,s.heap.get? a=some ob/\ob.dict=none:=by
 cases x with
 | str z =>
  obtain⟨t,rfl⟩:=r
  cases (show T = "str" from ty)
  exact⟨typeIs_str s z t,λ_ e=>nomatch e⟩
 | int i =>
  obtain⟨t,rfl⟩:=r
  cases (show T = "int" from ty)
  exact⟨typeIs_int s i t,λ_ e=>nomatch e⟩
 | ref p =>
  cases r
  rcases ty with⟨rfl,xs,hq⟩ | ⟨rfl,o,hk,hc,hd⟩ | ⟨rfl,hk⟩ | ⟨rfl,S,n,hk⟩
  ·obtain⟨its,_,pl,_⟩:=I.list hq
   refine⟨pl.isList.typeIs,λa e=>?_⟩
   cases e
   obtain⟨o,n,e,c,hd,_⟩:=pl
   exact⟨o,e,hd⟩
  ·refine⟨⟨o,I.kIn p o hk,hc⟩,λa e=>?_⟩
   cases e
   exact⟨o,I.kIn _ o hk,hd⟩
  ·have z:∃o,s.heap.get? p=some o/\o.ExactDict:=by
    rcases hk with⟨kvs,hk⟩ | ⟨kvs,hk⟩
    ·obtain⟨_,_,_,_,o,_,_,e,ex,_⟩:=I.hok p _ hk
     exact⟨o,e,ex⟩
    ·obtain⟨_,_,_,_,o,_,_,e,ex,_⟩:=I.hok p _ hk
     exact⟨o,e,ex⟩
   obtain⟨o,e,ex⟩:=z
   refine⟨⟨o,e,ex.1⟩,λa e2=>?_⟩
   cases e2
   exact⟨o,e,ex.2.1⟩
  ·obtain⟨o,_,_,_,e,ex,_⟩:=I.hok p _ hk
   refine⟨⟨o,e,ex.1⟩,λa e2=>?_⟩
   cases e2
   exact⟨o,e,ex.2.1⟩
 | _=>exact DS ty
def tBM (K:bi)(T:String)(r:V->List V->Hp->VK->Prop)(to:TE)(t:TA):TE:=λσ H Q=>to σ H λx H1=>tyV K T x H1/\t σ H1 λxs H2=>r x xs H2 Q
variable {o e:Expr}{es:List Expr}{to:TE}{t:TA}{name:Str}{apos cpos:Pos}{T id:String}{r:V->List V->Hp->VK->Prop}
theorem Bu (pa:PlainAttrs T)(slot:Slot T name id)(hty:typeOf (.builtin id)=pure (.type "method_descriptor"))(hm:MtR X id r)(ho:PE X o to)(ha:PA X (e::es) t)
  (hbase:FQ o name X.env (eval o X.env)=eval o X.env:=by rfl)
  (hfew:((D_ cpos (B4 (e::es) X.env)).all (λx=>!x.1)&&(Gw cpos (Fl [] X.env)).all (λx=>x.1.isSome)
   && decide ((e::es).length+([]:List H_).length+(if([]:List H_).isEmpty then 0 else 1)<30))=true:=by rfl)
  (hline:(apos.endLine==cpos.line)=true:=by rfl) (hs:B4 (e::es) X.env=(false,eval e X.env)::B4 es X.env:=by rfl) (hplain:(D_ cpos (B4 es X.env)).any (·.1)=false:=by rfl) :
  PE X (.Call (.Attribute o name apos) (e::es) [] cpos) (tBM X.K T r to t):=by
 intro pins s σ H Q I h
 refine wpAny_Call_method_late hbase hfew hline rfl (thn (ho pins s σ H _ I h) λv s1 ⟨x,H1,I1,r1,ty,q1⟩=>?_)
 obtain⟨h1,h2⟩:=zU I1 r1 ty
 refine⟨T,id,pa,slot,hty,h1,h2,?_⟩
 have hA:=ha cpos pins s1 σ H1 _ I1 q1
 rw[hs]at hA ⊢
 refine HX (by show(false||(D_ cpos (B4 es X.env)).any (·.1))=false;rw[hplain] <;> rfl) (Iy ?_)
 exact thn hA λus s2 ⟨vs,H2,I2,r2,q2⟩=>hm pins s2 σ H2 x vs v us Q I2 r1 r2 q2
end
def MtM (X:Cx)(id:String)(r:V->List V->Hp->VK->Prop):Prop :=
 ∀(pins:List (Addr×Obj)) (s:ca) (σ:St) (H:Hp) (x:V) (xs:List V) (v:bn) (us:List bn) (Q:VK),Inv X pins σ H s->RelV x v->Vals xs us->r x xs H Q ->
  li (pc X.prog X.w) X.A (call (.builtin id) (v::us)) (EP X pins σ Q) X.xe s
theorem Vals.one:∀ {x:V} {us:List bn},Vals [x] us->∃u,us=[u]/\RelV x u
 | _,_,.cons r .nil=>⟨_,rfl,r⟩
section
variable {X:Cx}{pins:List (Addr×Obj)}{σ:St}{H:Hp}{s:ca}{l b:Addr}{xs ys zs:List V}
theorem Inv.lset {its its':List bn}{n:Nat}{f:Array bn->Array bn}{t':Nat}(I:Inv X pins σ H s)(hH:H l=some (.lst xs))
  (e:s.heap.get? l=some {cls:=.type "list",data:=.seq its.toArray n}) (hf:f its.toArray=its'.toArray) (hv:Vals ys its') (hz:ys.length<=wT) :
  Inv X pins σ (upd H l (.lst ys)) {s with heap:=s.heap.update l (C9 f),toks:=t'}:=by
 have q:=Gj e f
 rw[hf]at q
 refine I.write (x:=l) (e:=l) (by rw[hH];exact trivial) (.inl rfl) (λb' u hb hu=>(CU s.heap (C9 f) (Dq hb)).trans hu) ⟨_,q⟩ ?_
 exact⟨hz,its',_,hv,q⟩
theorem Inv.lstM (I:Inv X pins σ H s)(hH:H l=some (.lst xs)):xs.length<=wT/\∃(its:List bn) (n:Nat),Vals xs its/\xs.length=its.length/\s.heap.get? l=some {cls:=.type "list",data:=.seq its.toArray n}:=by
 obtain⟨z,its,n,r,e⟩:=I.hok l _ hH
 exact⟨z,its,n,r,r.length,e⟩
end
section
variable {X:Cx}
def rAppend:V->List V->Hp->VK->Prop:=λx vs H Q=>∃l xs y,x = .ref l/\vs=[y]/\H l=some (.lst xs)/\xs.length<wT/\Q .non (upd H l (.lst (xs++[y])))
theorem dc:MtM X "list.append" rAppend:=by
 intro pins s σ H x vs v us Q I rx rv h
 obtain⟨l,xs,y,rfl,rfl,hH,hz,q⟩:=h
 cases rx
 obtain⟨u,rfl,ru⟩:=rv.one
 obtain⟨z,its,n,r,hl,e⟩:=I.lstM hH
 refine Il CK ⟨_,e,rfl⟩ GA (Gk _ _) (Gx l its.toArray n u (by rw[on];omega)) ⟨e,?_⟩
 refine⟨.non,_,I.lset (its':=its++[u]) hH e (by simp) (r.append (.cons ru .nil)) ?_,rfl,q⟩
 rw[wP,DV]
 omega
end
section
variable {κ:Type} [DecidableEq κ]
def valV (kvs:List (κ×V))(k:κ):Option V:=(kvs.find? λkv=>decide (kv.1=k)).map (·.2)
def putK (kvs:List (κ×V))(k:κ)(v:V):List (κ×V) :=
 if(kvs.any λkv=>decide (kv.1=k))=true then kvs.map (λkv=>if kv.1=k then(kv.1,v)else kv)else kvs++[(k,v)]
theorem jJ {p:κ×V}{r:List (κ×V)}{k:κ}(e:p.1=k):valV (p::r) k=some p.2:=by simp[valV,CO,e]
theorem jK {p:κ×V}{r:List (κ×V)}{k:κ}(e:¬p.1=k):valV (p::r) k=valV r k:=by simp[valV,CO,e]
theorem qS (k:κ):∀kvs:List (κ×V),(kvs.any λkv=>decide (kv.1=k))=(valV kvs k).isSome
 | []=>rfl
 | p::r=>by
  rw[DC]
  by_cases e:p.1=k
  ·simp only[jJ e,decide_eq_true e,Bool.true_or,Option.isSome_some]
  ·rw[jK e,decide_eq_false e,J6];exact qS k r
theorem fJ (kvs:List (κ×V))(k:κ)(v:V):(putK kvs k v).length<=kvs.length+1:=by
 unfold putK
 split
 ·rw[f8];omega
 ·rw[wP,At,FS];omega
theorem RelO.isSome_eq {o:Option V}{u:Option bn}(r:RelO o u):o.isSome=u.isSome:=by
 cases o with
 | none=>cases u with
  | none=>rfl
  | some _=>exact(show False from r).elim
 | some _=>cases u with
  | none=>exact(show False from r).elim
  | some _=>rfl
theorem KV.val {kvs:List (κ×V)}{vs:List (κ×bn)}(r:KV kvs vs)(k:κ):RelO (valV kvs k) (EN vs k):=by
 unfold KV at r
 induction r with
 | nil=>exact True.intro
 | @cons p q ps qs h t ih =>
  obtain⟨h1,h2⟩:=h
  by_cases e:p.1=k
  ·have e':q.1=k:=h1.symm.trans e
   have b:EN (q::qs) k=some q.2:=by simp[EN,CO,e']
   rw[jJ e,b];exact h2
  ·have e':¬q.1=k:=λz=>e (h1.trans z)
   have b:EN (q::qs) k=EN qs k:=by simp[EN,CO,e']
   rw[jK e,b];exact ih
theorem KV.any {kvs:List (κ×V)}{vs:List (κ×bn)}(r:KV kvs vs)(k:κ):(kvs.any λkv=>decide (kv.1=k))=vs.any λkv=>decide (kv.1=k):=by
 unfold KV at r
 induction r with
 | nil=>rfl
 | cons h t ih=>rw[DC,DC,ih,h.1]
theorem KV.repl {kvs:List (κ×V)}{vs:List (κ×bn)}(r:KV kvs vs)(k:κ){y:V}{u:bn}(ry:RelV y u) :
  KV (kvs.map λkv=>if kv.1=k then(kv.1,y)else kv) (vs.map λkv=>if kv.1=k then(kv.1,u)else kv):=by
 unfold KV at r ⊢
 induction r with
 | nil=>exact .nil
 | @cons p q ps qs h t ih =>
  rw[wE,wE]
  refine .cons ?_ ih
  obtain⟨h1,h2⟩:=h
  by_cases e:p.1=k
  ·rw[if_pos e,if_pos (h1.symm.trans e)];exact⟨h1,ry⟩
  ·rw[if_neg e,if_neg (λz=>e (h1.trans z))];exact⟨h1,h2⟩
theorem KV.put {kvs:List (κ×V)}{vs:List (κ×bn)}(r:KV kvs vs)(k:κ){y:V}{u:bn}(ry:RelV y u):KV (putK kvs k y) (Hz vs k u):=by
 unfold putK Hz
 rw[r.any k]
 by_cases e:(vs.any λkv=>decide (kv.1=k))=true
 ·rw[if_pos e,if_pos e];exact r.repl k ry
 ·rw[if_neg e,if_neg e];exact J0 r ⟨rfl,ry⟩
theorem KV.length {kvs:List (κ×V)}{vs:List (κ×bn)}(r:KV kvs vs):kvs.length=vs.length:=F7 r
end
theorem ox {P:wS}{w:B_}{k:Key}{u:bn}(r:RelV (kV k) u):(bG P w).is k u=true:=by
 cases k with
 | inl i=>obtain⟨t,e⟩:=(show ∃t,u=Value.int i t from r);subst e;exact qi P w i t
 | inr x=>obtain⟨t,e⟩:=(show ∃t,u=Value.str x t from r);subst e;exact qh P w x t
theorem oz {P:wS}{w:B_}:∀ {ks:List Key} {us:List bn},Vals (ks.map kV) us->ItemsAre (bG P w) ks us
 | [],_,r=>by rw[Dn]at r;cases r;exact .nil
 | k::ks,_,r=>by
  rw[wE]at r
  cases r with
  | cons h t=>exact .cons (ox h) (oz t)
abbrev KT (H:Hp):List (List Key×V)->List (List Key×Addr×bn)->Prop:=Ir λp q=>p.1=q.1/\H q.2.1=some (.tup (p.1.map kV))/\RelV p.2 q.2.2
theorem KT.val {H:Hp}{kvs:List (List Key×V)}{xs:List (List Key×Addr×bn)}(r:KT H kvs xs)(k:List Key):RelO (valV kvs k) ((Io xs k).map (·.2)):=by
 induction r with
 | nil=>exact True.intro
 | @cons p q ps qs h t ih =>
  obtain⟨h1,_,h2⟩:=h
  by_cases e:p.1=k
  ·have e':q.1=k:=h1.symm.trans e
   have b:Io (q::qs) k=some q.2:=by simp[Io,CO,e']
   rw[jJ e,b];exact h2
  ·have e':¬q.1=k:=λz=>e (h1.trans z)
   have b:Io (q::qs) k=Io qs k:=by simp[Io,CO,e']
   rw[jK e,b];exact ih
theorem KT.repl {H:Hp}{kvs:List (List Key×V)}{xs:List (List Key×Addr×bn)}(r:KT H kvs xs)(k:List Key){y:V}{u:bn}(ry:RelV y u) :
  KT H (kvs.map λkv=>if kv.1=k then(kv.1,y)else kv) (xs.map (putAt k u)):=by
 induction r with
 | nil=>exact .nil
 | @cons p q ps qs h t ih =>
  rw[wE,wE]
  refine .cons ?_ ih
  obtain⟨h1,h2,h3⟩:=h
  unfold putAt
  by_cases e:p.1=k
  ·rw[if_pos e,if_pos (h1.symm.trans e)];exact⟨h1,h2,ry⟩
  ·rw[if_neg e,if_neg (λz=>e (h1.trans z))];exact⟨h1,h2,h3⟩
theorem KT.put {H:Hp}{kvs:List (List Key×V)}{xs:List (List Key×Addr×bn)}(r:KT H kvs xs)(k:List Key){b:Addr}{y:V}{u:bn}(hb:H b=some (.tup (k.map kV)))(ry:RelV y u) :
  KT H (putK kvs k y) (storedH xs k b u):=by
 have e:(kvs.any λkv=>decide (kv.1=k))=(Io xs k).isSome:=by
  rw[qS,(r.val k).isSome_eq,Gn]
 unfold putK storedH
 rw[e]
 by_cases q:(Io xs k).isSome=true
 ·rw[if_pos q,if_pos q];exact r.repl k ry
 ·rw[if_neg q,if_neg q];exact J0 r ⟨rfl,hb,ry⟩
theorem KT.keeps {H H':Hp}{kvs:List (List Key×V)}{xs:List (List Key×Addr×bn)}(r:KT H kvs xs)(ht:∀b ys,H b=some (.tup ys)->H' b=some (.tup ys)):KT H' kvs xs :=
 Paired.mapP r λ_ _ z=>⟨z.1,ht _ _ z.2.1,z.2.2⟩
section
variable {P:wS}{w:B_}{H:Hp}{h:Heap}{a:Addr}
theorem Ab {u:HO}(ok:HOk P w H h)(e:Rd H a u):cL P w H h a u:=e.ok ok
theorem s_ {kvs:List (Key×V)}(ok:HOk P w H h)(e:Rd H a (.dK kvs)):kvs.length<=wT/\(a==D9)=false/\∃vs,KV kvs vs/\h.DictOf (bG P w) a vs :=
 show cL P w H h a (.dK kvs)from Ab ok e
theorem xq {kvs:List (Key×V)}(ok:HOk P w H h)(e:H a=some (.dK kvs)):kvs.length<=wT/\(a==D9)=false/\∃vs,KV kvs vs/\h.DictOf (bG P w) a vs:=s_ ok (.inl e)
theorem ou {ks:List Key}(ok:HOk P w H h)(e:H a=some (.tup (ks.map kV))):(Hy (bG P w)).is h ks a:=by
 obtain⟨_,its,r,o,h1,h2,n,h3⟩:=(show cL P w H h a (.tup (ks.map kV))from ok a _ e)
 exact⟨o,its.toArray,n,h1,h2,h3,by simpa using oz r⟩
theorem sZ {kvs:List (List Key×V)}(ok:HOk P w H h)(e:Rd H a (.dT kvs)):kvs.length<=wT/\(a==D9)=false /\
  ∃xs,KT H kvs xs/\h.DictOfH (Hy (bG P w)) a xs:=by
 obtain⟨z,y,xs,r,o,es,ep,h1,h2,h3,h4,h5⟩:=(show cL P w H h a (.dT kvs)from Ab ok e)
 refine⟨z,y,xs,r,o,es,ep,h1,h2,h3,h4,λx hx=>?_,h5⟩
 have all:∀ {l:List (List Key×V)} {m:List (List Key×Addr×bn)},KT H l m->∀x∈m,(Hy (bG P w)).is h x.1 x.2.1:=by
  intro l m q
  induction q with
  | nil=>intro x hx;exact nomatch hx
  | @cons p q ps qs hq t ih =>
   intro x hx
   rcases sK.mp hx with e | hx
   ·subst e
    exact ou ok (by rw[<- hq.1];exact hq.2.1)
   ·exact ih x hx
 exact all r x hx
theorem BC {kvs:List (List Key×V)}(ok:HOk P w H h)(e:H a=some (.dT kvs)):kvs.length<=wT/\(a==D9)=false /\
  ∃xs,KT H kvs xs/\h.DictOfH (Hy (bG P w)) a xs:=sZ ok (.inl e)
end
def DGet (H:Hp)(a:Addr)(y:V)(r:Option V):Prop :=
 (∃kvs k,Rd H a (.dK kvs)/\y=kV k/\r=valV kvs k) ∨ ∃kvs k b,Rd H a (.dT kvs)/\y = .ref b/\H b=some (.tup (k.map kV))/\r=valV kvs k
def DPut (H:Hp)(a:Addr)(y v:V)(H':Hp):Prop :=
 (∃kvs k,H a=some (.dK kvs)/\y=kV k/\kvs.length<wT/\H'=upd H a (.dK (putK kvs k v))) ∨
 ∃kvs k b,H a=some (.dT kvs)/\y = .ref b/\H b=some (.tup (k.map kV))/\kvs.length<wT/\H'=upd H a (.dT (putK kvs k v))
theorem DGet.k {H:Hp}{a:Addr}{kvs:List (Key×V)}{k:Key}(e:H a=some (.dK kvs)):DGet H a (kV k) (valV kvs k):=.inl ⟨kvs,k,.inl e,rfl,rfl⟩
theorem DPut.k {H:Hp}{a:Addr}{kvs:List (Key×V)}{k:Key}{v:V}(e:H a=some (.dK kvs))(hl:kvs.length<wT):DPut H a (kV k) v (upd H a (.dK (putK kvs k v))):=.inl ⟨kvs,k,e,rfl,hl,rfl⟩
section
variable {X:Cx}{pins:List (Addr×Obj)}{σ:St}{H:Hp}{s:ca}{a:Addr}{y v:V}{u r:bn}{o:Option V}{A:Cg}{E:bn->ca->Prop}
theorem Inv.big (I:Inv X pins σ H s):D9<s.heap.objs.size:=by
 have h:B9<s.heap.objs.size:=(I.mod.glob.keeps I.bk).lt
 exact DO (by decide) h
theorem vB {Q:bn->ca->Prop}(hu:A.units+1<EX)(I:Inv X pins σ H s)(g:DGet H a y (some v))(ry:RelV y u)(h:∀w' s',Inv X pins σ H s'->RelV v w'->Q w' s') :
  li (pc X.prog X.w) A (HZ (.ref a) u) Q E s:=by
 rcases g with⟨kvs,k,e,ey,l⟩ | ⟨kvs,k,b,e,ey,eb,l⟩
 ·subst ey
  obtain⟨z,hd,vs,rel,dd⟩:=s_ I.hok e
  obtain⟨w',hw,rw'⟩:=RelO.some_of (v:=v) (o:=EN vs k) (by rw[l];exact rel.val k)
  exact wpAny_getItem_of (ox ry) dd.mapOf hw (h w' _ (I.tok _) rw')
 ·subst ey
  cases (show u=Value.ref b from ry)
  obtain⟨z,hd,xs,rel,dd⟩:=sZ I.hok e
  obtain⟨w',hw,rw'⟩:=RelO.some_of (v:=v) (o:=(Io xs k).map (·.2)) (by rw[l];exact rel.val k)
  obtain⟨p,hp,hp2⟩:=BZ.mp hw
  refine wpAny_getItem_heap (FG hu) (ou I.hok eb) dd hp ?_
  rw[hp2]
  exact h w' _ (I.tok _) rw'
theorem d_in {Q:bn->ca->Prop}(hu:A.units+1<EX)(I:Inv X pins σ H s)(g:DGet H a y o)(ry:RelV y u)(h:∀s',Inv X pins σ H s'->Q (.bool o.isSome) s') :
  li (pc X.prog X.w) A (Dx .In u (.ref a)) Q E s:=by
 rcases g with⟨kvs,k,e,ey,l⟩ | ⟨kvs,k,b,e,ey,eb,l⟩
 ·subst ey
  obtain⟨z,hd,vs,rel,dd⟩:=s_ I.hok e
  refine wpAny_in_of (ox ry) hd dd.mapOf ?_
  rw[<- (rel.val k).isSome_eq,<- l]
  exact h _ (I.tok _)
 ·subst ey
  cases (show u=Value.ref b from ry)
  obtain⟨z,hd,xs,rel,dd⟩:=sZ I.hok e
  refine wpAny_in_heap (FG hu) (ou I.hok eb) hd dd ?_
  have q:=(rel.val k).isSome_eq
  rw[Gn]at q
  rw[<- q,<- l]
  exact h _ (I.tok _)
theorem zA {Q:bn->ca->Prop}(hu:A.units+1<EX)(I:Inv X pins σ H s)(g:DGet H a y o)(ry:RelV y u)(h:∀s',Inv X pins σ H s'->Q (.bool (!o.isSome)) s') :
  li (pc X.prog X.w) A (Dx .NotIn u (.ref a)) Q E s:=by
 rcases g with⟨kvs,k,e,ey,l⟩ | ⟨kvs,k,b,e,ey,eb,l⟩
 ·subst ey
  obtain⟨z,hd,vs,rel,dd⟩:=s_ I.hok e
  refine wpAny_notIn_of (ox ry) hd dd.mapOf ?_
  rw[<- (rel.val k).isSome_eq,<- l]
  exact h _ (I.tok _)
 ·subst ey
  cases (show u=Value.ref b from ry)
  obtain⟨z,hd,xs,rel,dd⟩:=sZ I.hok e
  refine wpAny_notIn_heap (FG hu) (ou I.hok eb) hd dd ?_
  have q:=(rel.val k).isSome_eq
  rw[Gn]at q
  rw[<- q,<- l]
  exact h _ (I.tok _)
theorem m8 {h':Heap}{t':Nat}{ob:HO}(I:Inv X pins σ H s)(mu:Mut (H a))(hs:Cw a s.heap h')(he:∃q,h'.get? a=some q)(new:cL X.prog X.w (upd H a ob) h' a ob) :
  Inv X pins σ (upd H a ob) {s with heap:=h',toks:=t'} :=
 I.write (x:=a) (e:=a) mu (.inl rfl) (λb q hb z=>(hs.2 b hb).trans z) he new
theorem oN {P:wS}{w:B_}{H':Hp}{h':Heap}{kvs:List (Key×V)}{vs:List (Key×bn)}(z:kvs.length<=wT)(hd:(a==D9)=false)(rel:KV kvs vs)(dd:h'.DictOf (bG P w) a vs) :
  cL P w H' h' a (.dK kvs):=⟨z,hd,vs,rel,dd⟩
theorem vA {H':Hp}{Q:Unit->ca->Prop}(hu:A.units+1<EX)(I:Inv X pins σ H s)(g:DPut H a y v H')(ry:RelV y u)(rv:RelV v r)(h:∀s',Inv X pins σ H' s'->Q () s') :
  li (pc X.prog X.w) A (setItem (.ref a) u r) Q E s:=by
 rcases g with⟨kvs,k,e,ey,l,eH⟩ | ⟨kvs,k,b,e,ey,eb,l,eH⟩
 ·subst ey eH
  obtain⟨z,hd,vs,rel,dd⟩:=xq I.hok e
  have hz:vs.length<=wT:=by rw[<- rel.length];exact z
  have hl:(putK kvs k v).length<=wT:=by have:=fJ kvs k v;omega
  refine wpAny_setItem_pairs (hsz:=hz) (ox ry) dd λh' dd' hs=>h _ ?_
  have he:∃q,h'.get? a=some q:=let ⟨q,_,_,hq,_⟩:=dd';⟨q,hq⟩
  exact m8 I (by rw[e];exact True.intro) hs he (oN hl hd (rel.put k rv) dd')
 ·subst ey eH
  cases (show u=Value.ref b from ry)
  obtain⟨z,hd,xs,rel,dd⟩:=BC I.hok e
  have hz:xs.length<=wT:=by rw[<- F7 rel];exact z
  have hl:(putK kvs k v).length<=wT:=by have:=fJ kvs k v;omega
  refine wpAny_setItem_heap (hsz:=hz) (FG hu) (ou I.hok eb) dd λh' dd' hs=>h _ ?_
  obtain⟨q,es,ep,hq,h2,h3,h4,_,h5⟩:=dd'
  refine m8 I (by rw[e];exact True.intro) hs ⟨q,hq⟩ ⟨hl,hd,_,(rel.put k eb rv).keeps λc ys ec=>?_,q,es,ep,hq,h2,h3,h4,h5⟩
  rw[aQ (y0 ec e (λz=>nomatch z))]
  exact ec
end
def NoSl (i:Expr):Prop:=∀ov iv,HH i false ov iv=operate [ov,iv] (HZ ov iv)
theorem yt {prog:wS}{w:B_}{A:Cg}{E:bn->ca->Prop}{s:ca}{env:Env}{value slice:Expr}{pos:Pos}{T id:String}{Q:bn->ca->Prop}
  (hl:G2 (.type T) "__getitem__" = pure (some (.builtin id))) (hs:NoSl slice)
  (h:li (pc prog w) A (eval value env) (λo s₁=>li (pc prog w) A (eval slice env) (λi s₂=>s₂.TypeIs o T/\li (pc prog w) A (HZ o i) Q E s₂) E s₁) E s) :
  li (pc prog w) A (eval (.Subscript value slice pos) env) Q E s:=by
 refine JZ (Dt h (λo s₁ h₁=>Dt h₁ (λi s₂ h₂=>?_) λ_ _ x=>x) λ_ _ x=>x)
 obtain⟨hT,h₂⟩:=h₂
 unfold IE
 refine bm ?_
 rw[getitemInPython_of_ne hT.not_modules]
 refine bm (Gb hT hl ?_)
 have fin:li (pc prog w) A (HH slice false o i) (λr s₃=>li (pc prog w) A (letTemporaryGo value o r>>=λ_=>pure r) Q E s₃) E s₂:=by
  rw[hs o i]
  exact wpAny_operating (Dt h₂ (λr s₃ h₃=>bm (wpAny_letTemporaryGo (dL h₃))) λ_ _ x=>x)
 first
  | exact dL (bm fin)
  | exact bm (dL (bm fin))
  | exact bm fin
theorem qw {X:Cx}{pins:List (Addr×Obj)}{σ:St}{H:Hp}{s:ca}{a:Addr}{y:V}{o:Option V}(I:Inv X pins σ H s)(g:DGet H a y o):s.TypeIs (.ref a) "dict" := by
 rcases g with⟨kvs,k,e,_,_⟩ | ⟨kvs,k,b,e,_,_,_⟩
 ·obtain⟨_,_,vs,_,dd⟩:=s_ I.hok e
  exact dd.typeIs
 ·obtain⟨_,_,xs,_,dd⟩:=sZ I.hok e
  exact dd.typeIs
def Bq (td ty:TE):TE:=λσ H Q=>td σ H λx H1=>ty σ H1 λy H2=>∃a v,x = .ref a/\DGet H2 a y (some v)/\Q v H2
def tDIn (ty td:TE):TE:=λσ H Q=>ty σ H λy H1=>td σ H1 λx H2=>∃a o,x = .ref a/\DGet H2 a y o/\Q (.bl o.isSome) H2
def t_ (ty td:TE):TE:=λσ H Q=>ty σ H λy H1=>td σ H1 λx H2=>∃a o,x = .ref a/\DGet H2 a y o/\Q (.bl (!o.isSome)) H2
def Aa (td ty tv:TE):TS:=λD σ H=>tv σ H λv H1=>td σ H1 λx H2=>ty σ H2 λy H3=>∃a H4,x = .ref a/\DPut H3 a y v H4/\D.nx σ H4
section
variable {X:Cx}{o i e value:Expr}{pos pos' tpos:Pos}{td ty tv:TE}
theorem ke (hu:X.A.units+1<EX)(ho:PE X o td)(hi:PE X i ty)(hs:NoSl i):PE X (.Subscript o i pos) (Bq td ty):=by
 intro pins s σ H Q I h
 refine yt PySem.F.slot_dict_getitem.lookup hs (thn (ho pins s σ H _ I h) λu s1 ⟨x,H1,I1,rx,q1⟩=>thn (hi pins s1 σ H1 _ I1 q1) λiv s2 ⟨y,H2,I2,ry,a,v,ex,g,q2⟩=>?_)
 subst ex
 obtain rfl:u=Value.ref a:=rx
 exact⟨qw I2 g,vB hu I2 g ry λw' s3 I3 rw'=>⟨v,H2,I3,rw',q2⟩⟩
theorem xX (hu:X.A.units+1<EX)(hi:PE X i ty)(ho:PE X o td):PC X .In i o (tDIn ty td):=by
 intro pins s σ H Q I h
 refine thn (hi pins s σ H _ I h) λiv s1 ⟨y,H1,I1,ry,q1⟩=>thn (ho pins s1 σ H1 _ I1 q1) λu s2 ⟨x,H2,I2,rx,a,ov,ex,g,q2⟩=>?_
 subst ex
 obtain rfl:u=Value.ref a:=rx
 exact d_in hu I2 g ry λs3 I3=>⟨.bl ov.isSome,H2,I3,rfl,q2⟩
theorem kf (hu:X.A.units+1<EX)(hi:PE X i ty)(ho:PE X o td):PC X .NotIn i o (t_ ty td):=by
 intro pins s σ H Q I h
 refine thn (hi pins s σ H _ I h) λiv s1 ⟨y,H1,I1,ry,q1⟩=>thn (ho pins s1 σ H1 _ I1 q1) λu s2 ⟨x,H2,I2,rx,a,ov,ex,g,q2⟩=>?_
 subst ex
 obtain rfl:u=Value.ref a:=rx
 exact zA hu I2 g ry λs3 I3=>⟨.bl (!ov.isSome),H2,I3,rfl,q2⟩
theorem j_ (hu:X.A.units+1<EX)(ho:PE X o td)(hi:PE X i ty)(hv:PE X value tv)(hs:FW value (some (.Subscript o i pos')) pos.line X.env=pure false) :
  PS X (.Assign [.Subscript o i pos'] value pos) (Aa td ty tv):=by
 intro pins s σ H D I h
 refine wpAny_Assign_Subscript (thn (hv pins s σ H _ I h) λr s1 ⟨v,H1,I1,rv,q1⟩=>thn (ho pins s1 σ H1 _ I1 q1) λu s2 ⟨x,H2,I2,rx,q2⟩=>thn (hi pins s2 σ H2 _ I2 q2) λiv s3 ⟨y,H3,I3,ry,a,H4,ex,g,q3⟩=>?_) hs
 subst ex
 obtain rfl:u=Value.ref a:=rx
 exact vA hu I3 g ry rv λs4 I4=>⟨σ,H4,I4,q3⟩
end
theorem rS {P:wS}{w:B_}{H:Hp}(h:Heap)(hb:D9<h.objs.size):cL P w H (h.push {cls:=.type "dict",data:=.dict #[]}) h.objs.size (.dK []) :=
 ⟨B0 _,beq_eq_false_iff_ne.mpr (Dq (ww hb)),[],.nil,Ia h⟩
def tDNewK:TE:=λ_ H Q=>∀p,H p=none->Q (.ref p) (upd H p (.dK []))
section
variable {X:Cx}{pos:Pos}
theorem wG:PE X (.Dict [] [] pos) tDNewK:=λpins s σ H Q I h =>
 wpAny_Dict_empty ⟨.ref s.heap.objs.size,_,I.laid (a:=s.heap.objs.size) (o:=.dK []) (t':=s.toks) (λ_ _ q=>db _ q) (lm _) (rS s.heap I.big),rfl,h _ (I.hok.fresh (lm _))⟩
end
def t7:List (TE×TE)->St->Hp->(List (V×V)->Hp->Prop)->Prop
 | [],_,H,Q=>Q [] H
 | (tk,tv)::r,σ,H,Q=>tk σ H λx H1=>tv σ H1 λy H2=>t7 r σ H2 λps H3=>Q ((x,y)::ps) H3
abbrev VV:List (V×V)->List (bn×bn)->Prop:=Ir λp q=>RelV p.1 q.1/\RelV p.2 q.2
def PPs (X:Cx)(pos:Pos)(keys:List (Option Expr))(values:List Expr)(trs:List (TE×TE)):Prop :=
 ∀(pins:List (Addr×Obj)) (s:ca) (σ:St) (H:Hp) (Q:List (V×V)->Hp->Prop),Inv X pins σ H s->t7 trs σ H Q ->
  li (pc X.prog X.w) X.A (evalPairs (pairTrees keys values X.env pos)) (λvs s'=>∃ps H',Inv X pins σ H' s'/\VV ps vs/\Q ps H') X.xe s
theorem ux {X:Cx}{pos:Pos}:PPs X pos [] [] []:=λpins s σ H Q I h=>pairTrees_nil_walk ⟨[],H,I,.nil,h⟩
theorem jO {X:Cx}{pos:Pos}{k v:Expr}{ks:List (Option Expr)}{vs:List Expr}{tk tv:TE}{trs:List (TE×TE)}(hk:PE X k tk)(hv:PE X v tv)(hr:PPs X pos ks vs trs) :
  PPs X pos (some k::ks) (v::vs) ((tk,tv)::trs):=λpins s σ H Q I h =>
 pairTrees_cons_walk (thn (hk pins s σ H _ I h) λu s1 ⟨x,H1,I1,rx,q1⟩=>thn (hv pins s1 σ H1 _ I1 q1) λw2 s2 ⟨y,H2,I2,ry,q2⟩ =>
  thn (hr pins s2 σ H2 _ I2 q2) λws s3 ⟨ps,H3,I3,rel,q3⟩=>⟨(x,y)::ps,H3,I3,.cons ⟨rx,ry⟩ rel,q3⟩)
def fh (kvs more:List (Key×V)):List (Key×V):=more.foldl (λacc kv=>putK acc kv.1 kv.2) kvs
theorem KV.merge:∀ {more:List (Key×V)} {rs:List (Key×bn)} {kvs:List (Key×V)} {vs:List (Key×bn)},KV more rs->KV kvs vs->KV (fh kvs more) (merged vs rs):=by
 intro more rs kvs vs r
 unfold KV at r
 induction r generalizing kvs vs with
 | nil=>intro q;exact q
 | @cons p q ps qs h t ih =>
  intro r0
  have e:KV (putK kvs p.1 p.2) (Hz vs q.1 q.2):=by
   have:=r0.put p.1 h.2
   rw[<- h.1];exact this
  exact ih e
theorem fK:∀(more kvs:List (Key×V)),(fh kvs more).length<=kvs.length+more.length
 | [],kvs=>by show kvs.length<=kvs.length+0;omega
 | p::r,kvs=>by
  have h1:=fK r (putK kvs p.1 p.2)
  have h2:=fJ kvs p.1 p.2
  show(fh (putK kvs p.1 p.2) r).length<=_
  rw[At];omega
theorem l9 {P:wS}{w:B_}:∀ {kvs:List (Key×V)} {ws:List (bn×bn)},VV (kvs.map λkv=>(kV kv.1,kv.2)) ws->∃rs,Carries (bG P w) ws rs/\KV kvs rs
 | [],_,r=>by rw[Dn]at r;cases r;exact⟨[],True.intro,.nil⟩
 | p::kvs,_,r=>by
  rw[wE]at r
  cases r with
  | @cons a b as bs h t =>
   obtain⟨rs,c,q⟩:=l9 (P:=P) (w:=w) t
   obtain⟨b1,b2⟩:=b
   exact⟨(p.1,b2)::rs,⟨ox h.1,rfl,c⟩,.cons ⟨rfl,h.2⟩ q⟩
def z9 (trs:List (TE×TE)):TE:=λσ H Q=>∀p,H p=none->t7 trs σ (upd H p (.dK [])) λps H2=>H2 p=some (.dK [])/\∃kvs:List (Key×V),ps=kvs.map (λkv=>(kV kv.1,kv.2))/\kvs.length<=15/\Q (.ref p) (upd H2 p (.dK (fh [] kvs)))
theorem uC {X:Cx}{pos:Pos}{keys:List (Option Expr)}{values:List Expr}{trs:List (TE×TE)}(h:PPs X pos keys values trs)(hall:keys.all (·.isSome)=true)(hl:keys.length=values.length)(h0:keys≠[])
  (h15:keys.length<=15):PE X (.Dict keys values pos) (z9 trs):=by
 intro pins s σ H Q I q
 have hn:=I.hok.fresh (lm s.heap.objs.size)
 have I1:=I.laid (a:=s.heap.objs.size) (o:=.dK []) (h':=s.heap.push {cls:=.type "dict",data:=.dict #[]}) (t':=s.toks) (λ_ _ q=>db _ q) (lm _) (rS s.heap I.big)
 refine wpAny_Dict_walk (knd:=bG X.prog X.w) hall hl h0 h15 (thn (h pins _ σ _ _ I1 (q _ hn)) λws s2 ⟨ps,H2,I2,rel,e,kvs,ep,lk,q2⟩=>?_)
 subst ep
 obtain⟨rs,c,rk⟩:=l9 (P:=X.prog) (w:=X.w) rel
 obtain⟨z,hd,vs0,r0,dd⟩:=xq I2.hok e
 cases r0
 refine⟨rs,c,dd,λh' dd' hs=>⟨.ref s.heap.objs.size,_,?_,rfl,q2⟩⟩
 have hz:(fh [] kvs).length<=wT:=by
  have h1:=fK kvs []
  rw[FS]at h1
  rw[FO];omega
 have he:∃q,h'.get? s.heap.objs.size=some q:=let ⟨q,_,_,hq,_⟩:=dd';⟨q,hq⟩
 exact m8 I2 (by rw[e];exact True.intro) hs he (oN hz hd (rk.merge .nil) dd')
structure M2 (X:Cx)(o:Expr)(m:Str)(apos:Pos)(e f:Expr)(cpos:Pos):Prop where
 base:FQ o m X.env (eval o X.env)=eval o X.env
 few:((D_ cpos (B4 [e,f] X.env)).all (λx=>!x.1)&&(Gw cpos (Fl [] X.env)).all (λx=>x.1.isSome)
  && decide (([e,f]:List Expr).length+([]:List H_).length+(if([]:List H_).isEmpty then 0 else 1)<30))=true
 line:(apos.endLine==cpos.line)=true
 trees:D_ cpos (B4 [e,f] X.env)=[(false,eval e X.env),(false,eval f X.env)]
def IsD (H:Hp)(a:Addr):Prop:=(∃kvs,Rd H a (.dK kvs)) ∨ ∃kvs,Rd H a (.dT kvs)
theorem AV {X:Cx}{pins:List (Addr×Obj)}{σ:St}{H:Hp}{s:ca}{a:Addr}(I:Inv X pins σ H s)(d:IsD H a) :
  s.TypeIs (.ref a) "dict" /\ (∀b,Value.ref a = .ref b->∃ob,s.heap.get? b=some ob/\ob.dict=none)/\(a==D9)=false:=by
 rcases d with⟨kvs,e⟩ | ⟨kvs,e⟩
 ·obtain⟨_,hd,vs,_,dd⟩:=s_ I.hok e
  refine⟨dd.typeIs,λb q=>?_,hd⟩
  cases q
  obtain⟨ob,_,_,h1,h2,_⟩:=dd
  exact⟨ob,h1,h2.2.1⟩
 ·obtain⟨_,hd,xs,_,dd⟩:=sZ I.hok e
  refine⟨dd.typeIs,λb q=>?_,hd⟩
  cases q
  obtain⟨ob,_,_,h1,h2,_⟩:=dd
  exact⟨ob,h1,h2.2.1⟩
end L2
namespace Att
open PySem PySem.W PySem.Calls PyProof.Rows
theorem kL {P:Params}{h:Heap}:∀(ns:List Int) (vs:List bn),WellAll P h vs (ns.map WData.int)->EE vs ns:=by
 intro ns
 induction ns with
 | nil =>
  intro vs w
  rw[Dn]at w
  cases w
  exact .nil
 | cons n ns ih =>
  intro vs w
  rw[wE]at w
  cases w with
  | cons a b =>
   cases a
   exact .cons _ _ (ih _ b)
theorem uj {l:IY}{n:Nat}(hn:l.most=some n){P:Params}{h:Heap}{args:List WData}{vals:List bn}
  (hpre:l.row.toRowW.claim.pre args=true) (hwl:WellAll P h vals args) :
  ∃a vs ns,vals=[Value.ref a]/\args=[WData.list (ns.map WData.int)]/\h.get? a=some {cls:=.type "list",data:=.seq vs.toArray}/\EE vs ns/\ns.length<=n:=by
 have hsh:WShape.hasAll [] args [.list .int]=true:=(pre_splitW hpre).1
 have hc:l.pre.holds [] {args:=args}=true:=(pre_splitW hpre).2
 obtain⟨d,r,rfl,h1,h2⟩:=hasAllW_cons hsh
 obtain rfl:=hasAllW_nil h2
 obtain⟨xs,rfl,h3⟩:=hasW_list h1
 obtain⟨ns,rfl⟩:=items_int h3
 have hlen:ns.length<=n:=by
  unfold OpenLaw.pre at hc
  have h4:(WTm.not (.lt (.lit (.int (n:Int))) (.len (.arg 0)))).holds [] {args:=[.list (ns.map .int)]}=true:=by
   have h4:=(holds_andW hc).1
   rw[hn]at h4
   exact h4
  have h5:=condW_of h4 (w_not (w_lt w_lit (w_len_list (w_arg rfl))))
  rw[f8]at h5
  refine Nat.le_of_not_lt λq=>?_
  have q':(n:Int)<((ns.length:Nat):Int):=by omega
  first
   | (rw[decide_eq_true q']at h5;exact absurd h5 (by decide))
   | (simp at h5;omega)
 cases hwl with
 | cons w1 w2 =>
  cases w2
  cases w1 with
  | list ho hall=>exact⟨_,_,ns,rfl,rfl,ho,kL ns _ hall,hlen⟩
theorem uy (l:IY)(args:List WData):l.row.toRowW.claim.post args (.bool true) args=true :=
 postW_of (r:=l.row.toRowW) (X:=(true==true))
  (show Ka [] (.bool true) .bool=true by first | rfl | decide | simp[Ka,WShape.arms,WShape.armsAll])
  (show(WTm.eq .res (.lit (.bool true))).value [] {args:=args,res:=some (.bool true),after:=args}=some (.bool (true==true))from w_eq_bool (w_res rfl) w_lit) rfl
theorem attach_call {l:IY}{n:Nat}{q:wS}{loose:List Str}{XP:(Str->Option bn)->Heap->Prop}{YP:B_->Heap->Prop}{d:DefRec}
  (hn:l.most=some n) (hdf:d.params.defaults=[])
  (call:∀(w:B_) (s₀ s₁:ca) (mg mb:Str->Option bn) (fa:Addr) (o:Obj) (pm cd doc:bn) (a:Addr) (vs:List bn) (ns:List Int),
   Ground q loose [] XP w s₀ mg mb s₁.heap->YP w s₁.heap ->
   s₁.heap.get? fa=some o->o.data = .func (docDef d.name d.params d.body d.scope pm cd doc)->s₁.heap.CodeRec cd d.name->mg d.name=some (.ref fa) ->
   s₁.heap.get? a=some {cls:=.type "list",data:=.seq vs.toArray}->EE vs ns->ns.length<=n->s₁.gens = #[] ->
   CY (pc l.prog w) GG (.call (.ref fa) ⟨[.ref a],[]⟩) (λr s'=>r = .ok (.ret (.bool true))/\OldK s₁.heap s'.heap/\s'.os=s₁.os/\Ga s'.gens) s₁) :
  Jo q loose XP YP l.row.toRowW d [] (λf vs=>IG f vs):=by
 intro w s₀ s₁ mg mb G Y fa o pm cd doc dV kV ho hd hcd hD hmg hg args vals as hpre hlay hrd hwl hlo
 obtain rfl:dV = .none:=Dflts.none hD hdf
 obtain rfl:kV = .none:=Dflts.noKw hD
 obtain⟨a,vs,ns,rfl,rfl,hobj,hints,hlen⟩:=uj hn hpre hwl
 refine enter_call (EC (call w s₀ s₁ mg mb fa o pm cd doc a vs ns G Y ho (fd_plain hd) hcd hmg hobj hints hlen hg) λr s' hq=>?_)
 obtain⟨rfl,h2,h3,h4⟩:=hq
 exact⟨.inl ⟨.bool true,.bool true,[],rfl,λ_=>rfl,.bool true,uy l _,λ_=>⟨List.Pairwise.nil,λ_ hm=>(nomatch hm)⟩⟩,h2,h3,h4⟩
end Att
namespace L2
open PySem PySem.Spec PyProof.Rows
theorem f9:∀ {vs:List bn} {ns:List Int},EE vs ns->Vals (ns.map V.int) vs
 | _,_,.nil=>.nil
 | _,_,.cons n t h=>.cons ⟨t,rfl⟩ (f9 h)
def Only (H:Hp):Prop:=∀b,H b=none ∨ ∃o xs,H b=some (.frz o (.lst xs))
theorem wZ {P:wS}{w:B_}{K:bi}{mg mb:Str->Option bn}{CX:CXT}{k:Nat}{fa a:Addr}{fd:E3}{x:Str}{sp:Sp}{s₁:ca}{vs:List bn}{ns:List Int}
  (KX:K.In s₁.heap) (hns:s₁.heap.Ns B9 mg) (hb:s₁.heap.Ns JY mb) (hbb:∀x:Str,x ≠ "__name__" -> mb x=CA x) (hlim:s₁.heap.NoLimit) (hg:s₁.gens = #[])
  (ha:s₁.heap.get? a=some {cls:=.type "list",data:=.seq vs.toArray}) (hi:EE vs ns) (hl:ns.length<=wT) (hr:Room k GG)
  (F:∀base:Heap,K.In base->base.Ns B9 mg->FnOk P w K mg base CX k fa fd [x] sp) (hbind:∀(s:ca) (u:bn),Ic s fd ⟨[u],[]⟩ [(x,u)])
  (hsp:∀H:Hp,Only H->SqL K H a (ns.map V.int)->sp [.ref a] H (λv _=>v = .bl true) λ_ _ _=>False)
  (hCX:∀H e s',CX [] H s₁ (λ_ _ _=>False) e s'->False) :
  CY (pc P w) GG (.call (.ref fa) ⟨[.ref a],[]⟩) (λr s'=>r = .ok (.ret (.bool true))/\OldK s₁.heap s'.heap/\s'.os=s₁.os/\Ga s'.gens) s₁:=by
 have rv:=f9 hi
 have lenV:=hi.length
 have core:∀H:Hp,Only H->SqL K H a (ns.map V.int)->HOk P w H s₁.heap->(∀b,H b≠none->b=a)->(H a≠none->K.lookup a=none) ->
   CY (pc P w) GG (.call (.ref fa) ⟨[.ref a],[]⟩) (λr s'=>r = .ok (.ret (.bool true))/\OldK s₁.heap s'.heap/\s'.os=s₁.os/\Ga s'.gens) s₁:=by
  intro H hO hS hok hA hK
  have base_of:∀ {b:Addr} {o:Obj},s₁.heap.get? b=some o->H b=none->(hidT s₁.heap H).get? b=some o:=λe n=>xc e n
  have noA:∀ {b:Addr} {o:Obj} {es:Array DictEntry} {ep:Nat},s₁.heap.get? b=some o->o.data = .dict es ep->H b=none:=λ{b o es ep} e d=>by
   cases q:H b with
   | none=>rfl
   | some u =>
    have e':b=a:=hA b (by rw[q];simp)
    subst e'
    rw[ha]at e;cases e
    have d':Data.seq vs.toArray _=Data.dict es ep:=d
    cases d'
  have nsK:∀ {b:Addr} {m:Str->Option bn},s₁.heap.Ns b m->(hidT s₁.heap H).Ns b m:=λ{b m} ⟨o,es,ep,e,d,r⟩=>⟨o,es,ep,base_of e (noA e d),d,r⟩
  have hKb:K.In (hidT s₁.heap H):=λb o e=>base_of (KX b o e) (by
   cases q:H b with
   | none=>rfl
   | some u =>
    have e':b=a:=hA b (by rw[q];simp)
    subst e'
    rw[hK (by rw[q];simp)]at e;cases e)
  have hM:Mod K mg (hidT s₁.heap H):=⟨hKb,nsK hns,⟨mb,nsK hb,hbb⟩,let ⟨mc,h1,h2⟩:=hlim;⟨mc,nsK h1,h2⟩⟩
  have e0:Env0 P w K mg (hidT s₁.heap H) GG [] s₁ H:=⟨rfl,hM,λb o e=>yU e,Fs (vb _ _),trivial,λb hb=>absurd (show b∈([]:List Addr)from hb) (by simp),hok,.of_eq hg⟩
  refine EC ((F _ hKb (nsK hns)).run GG [] s₁ H ⟨[.ref a],[]⟩ [.ref a] [.ref a] _ _ hr e0 (hbind s₁ (.ref a)) (.cons rfl .nil) (hsp H hO hS)) λr s' h=>?_
  cases r with
  | error e=>exact(hCX H e s' h).elim
  | ok fl =>
   cases fl with
   | next=>exact DS h
   | brk=>exact DS h
   | cont=>exact DS h
   | ret u =>
    obtain⟨v,H',os,bare,un,hok',r',q⟩:=h
    have q':v = .bl true:=q
    subst q'
    obtain rfl:u=Value.bool true:=r'
    refine⟨rfl,OldK.of_keep λb o e=>?_,os,bare⟩
    cases q:H b with
    | none=>exact un.keep b o e q (by intro z;exact absurd (show b∈([]:List Addr)from z) (by simp)) (by simp)
    | some u =>
     rcases hO b with z | ⟨ob,xs,z⟩
     ·rw[q]at z;cases z
     ·have z2:=un.frzs b ob _ z
      obtain⟨e1,_⟩:=hok b _ z
      obtain⟨e2,_⟩:=hok' b _ z2
      rw[e]at e1;cases e1
      exact e2
 cases hk:K.lookup a with
 | some o =>
  have e:=KX a o hk
  rw[ha]at e
  cases e
  refine core (λ_=>none) (λ_=>.inl rfl) (.inr ⟨_,vs.toArray,_,hk,rfl,rfl,rfl,by rw[on,lenV];exact hl,by simpa using rv⟩) (λb u z=>by have z':(none:Option HO)=some u:=z;cases z') (λb z=>absurd rfl z) λz=>absurd rfl z
 | none =>
  refine core (λb=>if b=a then some (.frz {cls:=.type "list",data:=.seq vs.toArray} (.lst (ns.map V.int)))else none) (λb=>?_) (.inl (.inr ⟨{cls:=.type "list",data:=.seq vs.toArray},if_pos rfl⟩)) (λb u z=>?_) (λb z=>?_) λ_=>hk
  ·by_cases hb:b=a
   ·exact .inr ⟨_,_,if_pos hb⟩
   ·exact .inl (if_neg hb)
  ·by_cases hb:b=a
   ·have z':=(if_pos hb).symm.trans z
    cases z'
    subst hb
    exact⟨ha,by rw[f8];exact hl,vs,_,rv,ha⟩
   ·have z':=(if_neg hb).symm.trans z
    cases z'
  ·by_cases hb:b=a
   ·exact hb
   ·exact absurd (if_neg hb) z
abbrev KOf {K:bi}{h:Heap}(_:K.In h):bi:=K
theorem yj {l:IY}{n k:Nat}{q:wS}{loose:List Str}{XP:(Str->Option bn)->Heap->Prop}{YP:B_->Heap->Prop}{d:DefRec}{K:Params->bi}{CX:B_->CXT}{sp:B_->Sp}{x:Str}
  (hn:l.most=some n) (hn2:n<=wT) (hdf:d.params.defaults=[]) (hr:Room k GG)
  (hY:∀(w:B_) (h:Heap),YP w h->(K w.params).In h)
  (F:∀(w:B_) (mg:Str->Option bn) (fa:Addr) (h:Heap),(K w.params).In h->h.Ns B9 mg->mg d.name=some (.ref fa) ->
   ∃fd:E3,(∀(s:ca) (u:bn),Ic s fd ⟨[u],[]⟩ [(x,u)]) /\
    ∀base:Heap,(K w.params).In base->base.Ns B9 mg->FnOk l.prog w (K w.params) mg base (CX w) k fa fd [x] (sp w))
  (hsp:∀(w:B_) (H:Hp) (a:Addr) (ns:List Int),ns.length<=n->Only H->SqL (K w.params) H a (ns.map V.int)->sp w [.ref a] H (λv _=>v = .bl true) λ_ _ _=>False)
  (hCX:∀(w:B_) (H:Hp) (s:ca) (e:bn) (s':ca),CX w [] H s (λ_ _ _=>False) e s'->False) :
  Jo q loose XP YP l.row.toRowW d [] (λf vs=>IG f vs):=by
 refine Att.attach_call hn hdf λw s₀ s₁ mg mb fa o pm cd doc a vs ns G Y ho hd hcd hmg hobj hints hlen hg=>?_
 have KX:=hY w _ Y
 obtain⟨fd,hb,hF⟩:=F w mg fa _ KX G.T.g hmg
 exact wZ KX G.T.g G.T.b G.T.builtins G.T.nolimit hg hobj hints (xz hlen hn2) hr hF hb (λH hO hS=>hsp w H a ns hlen hO hS) λH e s'=>hCX w H s₁ e s'
theorem v5 {l:IY}{n k:Nat}{q:wS}{loose:List Str}{XP:(Str->Option bn)->Heap->Prop}{YP:B_->Heap->Prop}{d:DefRec}{K:Params->bi}{CX:CXT}{sp:bi->Sp}{x:Str}
  (hn:l.most=some n) (hn2:n<=wT) (hdf:d.params.defaults=[]) (hr:Room k GG)
  (hY:∀(w:B_) (h:Heap),YP w h->(K w.params).In h)
  (F:∀(w:B_) (mg:Str->Option bn) (fa:Addr) (h:Heap),(K w.params).In h->h.Ns B9 mg->mg d.name=some (.ref fa) ->
   ∃fd:E3,(∀(s:ca) (u:bn),Ic s fd ⟨[u],[]⟩ [(x,u)]) /\
    ∀base:Heap,(K w.params).In base->base.Ns B9 mg->FnOk l.prog w (K w.params) mg base CX k fa fd [x] (sp (K w.params)))
  (hsp:∀(K:bi) (H:Hp) (a:Addr) (ns:List Int),ns.length<=n->Only H->SqL K H a (ns.map V.int)->sp K [.ref a] H (λv _=>v = .bl true) λ_ _ _=>False)
  (hCX:∀(H:Hp) (s:ca) (e:bn) (s':ca),CX [] H s (λ_ _ _=>False) e s'->False) :
  Jo q loose XP YP l.row.toRowW d [] (λf vs=>IG f vs) :=
 yj (K:=K) (CX:=λ_=>CX) (sp:=λw=>sp (K w.params)) hn hn2 hdf hr hY F (λw H a ns h1 h2 h3=>hsp (K w.params) H a ns h1 h2 h3) λ_ H s e s'=>hCX H s e s'
def cF (s:Stmt):Arguments:=match s with
 | .FunctionDef _ a _ _ _ _ _ _ _ _=>a
 | _=>{posonlyargs:=[],args:=[],vararg:=none,kwonlyargs:=[],kw_defaults:=[],kwarg:=none,defaults:=[]}
def bI (s:Stmt):List Stmt:=match s with
 | .FunctionDef _ _ b _ _ _ _ _ _ _=>b
 | _=>[]
def ar (s:Stmt):DF:=match s with
 | .FunctionDef _ _ _ _ _ _ sc _ _ _=>sc
 | _=>{kind:=.function,names:=[],isGenerator:=false,isCoroutine:=false}
abbrev CX0:CXT:=λ_ _ _ _ _ _=>False
abbrev E0:XK:=λ_ _ _=>False
theorem wI {X:Cx}:kZ CX0 X E0:=λ_ _ _ _ _ _ _ h=>h.elim
structure Fun (K:bi)(x qual:Str)(st:Stmt)(f:Addr)(fd:E3):Prop where
 ex:∃(oc:bn) (od:Option Addr) (kV doc pm:bn) (an:Option Addr) (cdv ct:bn) (osl:Array (Option bn)),
  fd=CF x qual (cF st) (bI st) (ar st) .none kV doc pm an cdv ct/\K.lookup f=some ⟨oc,od,.func fd,osl⟩/\CL K cdv qual=true
 kp:Cq K (.ref f)=true
section
variable {P:wS}{w:B_}{K:bi}{mg:Str->Option bn}{base:Heap}
theorem Fun.ok {x qual:Str}{st:Stmt}{f:Addr}{fd:E3}{N ps:List Str}{k:Nat}{sp:Sp}(F:Fun K x qual st f fd)(S:aP N ps (ar st))(len:∀vs H Q E,sp vs H Q E->vs.length=ps.length)
  (hbody:∀(cdv:bn) (A:Cg) (outer:List Env) (s:ca) (H:Hp) (vs:List V) (Q:VK) (E:XK),Room k (A.deeper (E9 qual (ar st) s.heap.objs.size f cdv))->sp vs H Q E ->
   ∃t,PSs (cxOf CX0 P w K mg base N qual (ar st) f cdv A outer s H E).nox (bI st) t/\t {nx:=λ_ H'=>Q .non H',rt:=Q} (start N vs) H):FnOk P w K mg base CX0 (k+1) f fd ps sp:=by
 obtain⟨oc,od,kV,doc,pm,an,cdv,ct,osl,rfl,lk,hcd⟩:=F.ex
 refine BA lk hcd S len λA outer s H vs Q E hr hsp=>?_
 obtain⟨t,h,q⟩:=hbody cdv A outer s H vs Q E hr hsp
 exact⟨t,h.nox,q⟩
theorem x6 {x qual:Str}{st:Stmt}{f:Addr}{oc:bn}{od an:Option Addr}{osl:Array (Option bn)}{kV doc pm cdv ct:bn}(l:K.lookup f=some ⟨oc,od,.func (CF x qual (cF st) (bI st) (ar st) .none kV doc pm an cdv ct),osl⟩)
  (c:CL K cdv qual=true) (k:Cq K (.ref f)=true):Fun K x qual st f (CF x qual (cF st) (bI st) (ar st) .none kV doc pm an cdv ct):=⟨⟨oc,od,kV,doc,pm,an,cdv,ct,osl,rfl,l,c⟩,k⟩
end
theorem cv {A:Cg}{k:Nat}(hr:Room k A):A.units+1<EX:=Fx (Nat.add_le_add_left (by decide:1<=64) _) hr.units
theorem eh {n:Nat}(h:n<=1000):n<wT:=Fx h (by decide)
section
variable {X:Cx}
theorem pv (i:Nat){x:Str}{pos:Pos}(hN:X.N[i]? = some x:=by rfl)(hv:Vis X.env.scope x:=by first | exact Or.inl rfl | exact Or.inr (Or.inl rfl) | exact Or.inr (Or.inr rfl))(hd:(x==("__debug__" : Str))=false:=by decide)
  (hcd:(x==("__classdict__" : Str))=false:=by decide):PE X (.Name x pos) (tVar i):=Aj hN hv hd hcd
end
theorem iteF {A B:Prop}(h:B):if false=true then A else B:=by
 rw[if_neg Ca]
 exact h
theorem iteT {A B:Prop}(h:A):if true=true then A else B:=by
 rw[if_pos rfl]
 exact h
theorem ite2 {c A B:Prop} [Decidable c](h1:c->A)(h2:¬c->B):if c then A else B:=by
 by_cases h:c
 ·rw[if_pos h]
  exact h1 h
 ·rw[if_neg h]
  exact h2 h
def Same (H H':Hp):Prop:=∀b o,H b=some o->H' b=some o
theorem Same.refl (H:Hp):Same H H:=λ_ _ h=>h
theorem Same.trans {H H1 H2:Hp}(a:Same H H1)(b:Same H1 H2):Same H H2:=λc o h=>b c o (a c o h)
theorem Same.free {H H':Hp}(e:Same H H'){l:Addr}(h:H' l=Option.none):H l=Option.none:=by
 cases q:H l with
 | none=>rfl
 | some o =>
  rw[e l o q]at h
  cases h
theorem Same.seq {K:bi}{H H':Hp}{a:Addr}{xs:List V}(e:Same H H')(h:SqL K H a xs):SqL K H' a xs:=by
 rcases h with(h | ⟨o,h⟩) | h
 ·exact .inl (.inl (e _ _ h))
 ·exact .inl (.inr ⟨o,e _ _ h⟩)
 ·exact .inr h
def gN (cells:List (Str×Addr)):List (Str×EA)->List (Str×Addr)->List (Str×Addr)
 | [],cs=>cs
 | (n,k)::r,cs=>gN cells r (if k == .free then(match cells.lookup n with | some c=>(n,c)::cs | none=>cs)else cs)
def cS (scope:DF)(env:Env):List (Str×Addr):=gN env.cells scope.names []
theorem tm (env:Env):∀(names:List (Str×EA)) (cs:List (Str×Addr)),(∀x∈names,x.2 = .free->∃c,env.cells.lookup x.1=some c) ->
  (forIn names cs λ(x:Str×EA) (r:List (Str×Addr))=>(if(x.2 == .free)=true then(do let a <- JX env x.1;pure (ForInStep.yield ((x.1,a)::r)))else pure (ForInStep.yield r):Sem (ForInStep (List (Str×Addr)))))=pure (gN env.cells names cs):=by
 intro names
 induction names with
 | nil=>intro cs _;rfl
 | cons x r ih =>
  intro cs h
  obtain⟨n,k⟩:=x
  rw[List.forIn_cons]
  have hr:∀y∈r,y.2 = .free->∃c,env.cells.lookup y.1=some c:=λy hy=>h y (BV _ hy)
  unfold gN
  by_cases hk:k = .free
  ·subst hk
   obtain⟨c,hc⟩:=h (n,.free) B2 rfl
   have e:JX env n=pure c:=by unfold JX;rw[hc]
   rw[if_pos (show(NameKind.free==NameKind.free)=true from rfl),if_pos (show(NameKind.free==NameKind.free)=true from rfl),hc]
   show(JX env n>>=λa=>_)>>=_=_
   rw[e]
   exact ih _ hr
  ·have hb:(k==NameKind.free)=false:=by simpa using hk
   rw[if_neg (show ¬(k==NameKind.free)=true by rw[hb];exact Ca),if_neg (show ¬(k==NameKind.free)=true by rw[hb];exact Ca)]
   exact ih _ hr
theorem cJ {scope:DF}{env:Env}(h:∀x∈scope.names,x.2 = .free->∃c,env.cells.lookup x.1=some c):E_ scope env=pure (cS scope env):=by
 have run:=tm env scope.names [] h
 unfold E_ cS
 have e:(forIn scope.names ([]:List (Str×Addr)) λ(x:Str×EA) (r:List (Str×Addr))=>(match x with
   | (name,kind)=>if(kind==NameKind.free)=true then(do let a <- JX env name;pure (ForInStep.yield ((name,a)::r)))else pure (ForInStep.yield r):Sem (ForInStep (List (Str×Addr)))))=pure (gN env.cells scope.names []):=run
 show(forIn scope.names ([]:List (Str×Addr)) _>>=λcs=>pure cs)=_
 exact(congrArg (λm:Sem (List (Str×Addr))=>m>>=λcs=>pure cs) e)
theorem l7 (cells:List (Str×Addr)):∀(names:List (Str×EA)) (cs:List (Str×Addr)),(∀p∈cs,cells.lookup p.1=some p.2)->∀p∈gN cells names cs,cells.lookup p.1=some p.2
 | [],cs,h=>h
 | (n,k)::r,cs,h=>by
  unfold gN
  refine l7 cells r _ λp hp=>?_
  by_cases hk:(k==NameKind.free)=true
  ·rw[if_pos hk]at hp
   cases e:cells.lookup n with
   | none=>rw[e]at hp;exact h p hp
   | some c =>
    rw[e]at hp
    rcases sK.mp hp with rfl | hp
    ·exact e
    ·exact h p hp
  ·rw[if_neg hk]at hp
   exact h p hp
theorem cn {scope:DF}{env:Env}{x:Str}{c:Addr}(h:(cS scope env).lookup x=some c):env.cells.lookup x=some c :=
 l7 env.cells scope.names [] (λ_ z=>nomatch z) (x,c) (CZ h)
theorem g9 {cs:List (Str×Addr)}{x:Str}{c:Addr}(h:(x,c)∈cs):∃d,cs.lookup x=some d:=by
 induction cs with
 | nil=>cases h
 | cons p r ih =>
  obtain⟨y,d⟩:=p
  by_cases e:x==y
  ·exact⟨d,by rw[Dg,e]⟩
  ·rcases sK.mp h with z | z
   ·cases z;simp at e
   ·obtain⟨d',q⟩:=ih z
    exact⟨d',by simp only[C0]at e;rw[Dg,e];exact q⟩
theorem kT (cells:List (Str×Addr)):∀(names:List (Str×EA)) (cs:List (Str×Addr)) (p:Str×Addr),p∈cs->p∈gN cells names cs
 | [],_,_,h=>h
 | (n,k)::r,cs,p,h=>by
  unfold gN
  refine kT cells r _ p ?_
  split
  ·split
   ·exact BV _ h
   ·exact h
  ·exact h
theorem l8 (cells:List (Str×Addr)){x:Str}{c:Addr}(hc:cells.lookup x=some c):∀(names:List (Str×EA)) (cs:List (Str×Addr)),(x,NameKind.free)∈names->(x,c)∈gN cells names cs
 | [],_,h=>nomatch h
 | (n,k)::r,cs,h=>by
  unfold gN
  rcases sK.mp h with z | z
  ·cases z
   refine kT cells r _ _ ?_
   rw[if_pos (show(NameKind.free==NameKind.free)=true from rfl),hc]
   exact B2
  ·exact l8 cells hc r _ z
theorem l5 {scope:DF}{env:Env}{x:Str}{c:Addr}(h:(x,NameKind.free)∈scope.names)(hc:env.cells.lookup x=some c):(cS scope env).lookup x=some c:=by
 obtain⟨d,e⟩:=g9 (l8 env.cells hc scope.names [] h)
 have e':(cS scope env).lookup x=some d:=e
 rw[e',<- cn e',hc]
def blk (X:Cx)(scope:DF)(N:List Str)(s:ca)(H:Hp)(C:Addr)(fp:List Addr):Cx where
 prog:=X.prog
 w:=X.w
 K:=X.K
 mg:=X.mg
 base:=X.base
 A:=X.A
 N:=N
 s₀:=s
 H₀:=H
 env:=Ik scope (cS scope X.env) C X.env
 outer:=X.stack
 stack:=X.stack
 ex:=fp
 fn:=λ_=>false
 calm:=X.calm
 pn:=[]
 xe:=λ_ _=>False
def capt (σ:St)(js:List Nat):St:=js.map λj=>(σ[j]?).getD none
def capN (N:List Str)(js:List Nat):List Str:=js.map λj=>(N[j]?).getD ""
def bst (n:Nat)(σ:St)(js:List Nat):St:=o0 n none++capt σ js
theorem fQ {n:Nat}{σ:St}{js:List Nat}:(bst n σ js).length=n+js.length:=by unfold bst capt;simp
section
variable {P:wS}{w:B_}{A:Cg}{R:E1->ca->Prop}{s:ca}
theorem qC {elt tg iter:Expr}{ifs:List Expr}{scope:DF}{pos:Pos}{it acc:bn}{env:Env}(J:Nat->ca->Prop)
  (turn:∀n s,J n s->li (pc P w) A (Et it) (λr s1=>match r with
   | none=>R (.ok .next) s1
   | some v=>li (pc P w) A (Dh tg it v) (λ_ s2=>li (pc P w) A (Ea tg env v) (λ_ s3 =>
     li (pc P w) A (forIn ifs true λc r=>if r=true then do let ok <- FH c env (eval c env);pure (ForInStep.yield ok)else pure (ForInStep.yield r)) (λok s4 =>
      if ok=true then li (pc P w) A (eval elt env) (λx s5=>li (pc P w) A (call (.builtin "list.append") [acc,x]) (λ_ s6=>∃m,m<n/\J m s6) (λ_ _=>False) s5) (λ_ _=>False) s4
      else ∃m,m<n/\J m s4) (λ_ _=>False) s3) (λ_ _=>False) s2) (λ_ _=>False) s1) (λ_ _=>False) s)
  (n:Nat) (h:J n s):CY (pc P w) A (.compLoop (.ListComp elt [⟨tg,iter,ifs,0⟩] scope pos) 0 it acc env) R s:=by
 have no:∀ {α:Type} {t:Sem α} {Q Q':α->ca->Prop} {E:bn->ca->Prop} {s:ca},li (pc P w) A t Q (λ_ _=>False) s->(∀a s,Q a s->Q' a s)->li (pc P w) A t Q' E s :=
  λh hq=>Dt h hq λ_ _ f=>f.elim
 refine F5 rfl J (λn s hJ=>?_) n h
 show li _ A ((FY (.ListComp elt [⟨tg,iter,ifs,0⟩] scope pos) 0 it acc env).onRaise (λx=>do FX x env;Fw x)) _ _ s
 refine Gr ?_
 rw[compTurn_list]
 refine bm (C4 (bm (no (turn n s hJ) λr s1 h1=>?_)))
 cases r with
 | none=>exact dL h1
 | some v =>
  refine bm (no h1 λ_ s2 h2=>bm (no h2 λ_ s3 h3=>bm (no h3 λok s4 h4=>?_)))
  cases ok with
  | false=>exact dL ⟨rfl,h4⟩
  | true=>exact bm (bm (no h4 λx s5 h5=>bm (no h5 λ_ s6 h6=>dL (dL ⟨rfl,h6⟩))))
end
def PTs (X:Cx)(ifs:List Expr)(t:TT):Prop :=
 ∀(pins:List (Addr×Obj)) (s:ca) (σ:St) (H:Hp) (Q:Bool->Hp->Prop),Inv X pins σ H s->t σ H Q ->
  li (pc X.prog X.w) X.A (forIn ifs true λc r=>if r=true then do let ok <- FH c X.env (eval c X.env);pure (ForInStep.yield ok)else pure (ForInStep.yield r)) (TP X pins σ Q) X.xe s
def tAll:TT:=λ_ H Q=>Q true H
theorem cB {X:Cx}:PTs X [] tAll:=λ_ _ _ H _ I h=>wpAny_tests_nil ⟨H,I,h⟩
theorem dS {X:Cx}{c:Expr}{t:TT}(h:PT X c t):PTs X [c] t:=λpins s σ H Q I hq=>wpAny_tests_one (h pins s σ H Q I hq)
def Bm (J:It)(n:Nat)(js:List Nat)(g:TG)(tc:TT)(te:TE)(Q:VK)(σ:St)(H1:Hp):Prop:=∃W:Nat->Nat->List V->Hp->Prop,(∃m,W 0 m [] H1)/\∀i m ys H,W i m ys H ->
 (J.stop i H/\ys.length<=wT/\∀l,H l=none->Q (.ref l) (upd H l (.lst ys))) ∨
 (J.go i H/\ys.length<wT/\∃N:List V->Hp->Prop,(∀zs H',N zs H'->∃m',m'<m/\W (i+1) m' zs H')/\∀x H',J.yld i H x H'->g x (bst n σ js) H' λσ2 H2=>σ2.drop n=capt σ js/\tc σ2 H2 λb H3 =>
  if b=true then te σ2 H3 λv H4=>N (ys++[v]) H4 else N ys H3)
def ub (n:Nat)(js:List Nat)(wi:TI)(g:TG)(tc:TT)(te:TE):TE:=λσ H Q=>wi σ H λJ H1=>Bm J n js g tc te Q σ H1
section
variable {X:Cx}
structure Blk (X:Cx)(scope:DF)(own:List Str)(js:List Nat):Prop where
 kind:scope.kind = .function
 nocell:∀y∈scope.names,y.2 ≠ .cell
 names:∀y∈scope.names,y.2 = .local->scope.names.lookup y.1=some .local
 free:∀y∈scope.names,y.2 = .free->X.env.kindOf y.1=some .cell∨X.env.kindOf y.1=some .free
 uniq:∀x,(x,NameKind.free)∈scope.names->scope.names.lookup x=some .free
 nd:(own++capN X.N js).Nodup
 cap:∀j∈js,j<X.N.length/\((X.N[j]?).getD "",NameKind.free)∈scope.names
def blkB (sc:DF)(N:List Str)(scope:DF)(own:List Str)(js:List Nat):Bool :=
 scope.kind == .function&&scope.names.all (λy=>y.2 != .cell)&&scope.names.all (λy=>y.2 != .local||scope.names.lookup y.1==some .local) &&
 scope.names.all (λy=>y.2 != .free||sc.names.lookup y.1==some .cell||sc.names.lookup y.1==some .free)&&scope.names.all (λy=>y.2 != .free||scope.names.lookup y.1==some .free) &&
 decide (own++capN N js).Nodup&&js.all (λj=>decide (j<N.length)&&scope.names.any λy=>y.1==(N[j]?).getD "" && y.2 == .free)
theorem Blk.of {scope:DF}{own:List Str}{js:List Nat}(sc:DF)(N:List Str)(h:blkB sc N scope own js=true:=by decide +kernel)(e1:X.env.scope=sc:=by rfl)(e2:X.N=N:=by rfl):Blk X scope own js:=by
 subst e1 e2
 unfold blkB at h
 simp only[BX,DR,decide_eq_true_eq,beq_iff_eq]at h
 obtain⟨⟨⟨⟨⟨⟨h1,h2⟩,h3⟩,h4⟩,h5⟩,h6⟩,h7⟩:=h
 refine⟨h1,λy hy=>by simpa using h2 y hy,λy hy e=>?_,λy hy e=>?_,λx hx=>?_,h6,λj hj=>?_⟩
 ·have:=h3 y hy
  simpa [e] using this
 ·have:=h4 y hy
  simp only[e,bne_self_eq_false,J6,FU,beq_iff_eq]at this
  exact this
 ·have:=h5 _ hx
  simpa using this
 ·obtain⟨a,b⟩:=h7 j hj
  refine⟨a,?_⟩
  obtain⟨y,hy,e⟩:=DA.mp b
  simp only[BX,beq_iff_eq]at e
  obtain⟨e1,e2⟩:=e
  rw[<- e1,<- e2]
  exact hy
theorem dC {env:Env}:∀ {names:List (Str×EA)} {x:Str} {k:EA},
  (names.map λ(n,k)=>if(k==NameKind.free&&env.scope.kind == .function&&env.kindOf n==some .cell)then(n,NameKind.cell)else(n,k)).lookup x=some k->names.lookup x=some k∨(k = .cell/\names.lookup x=some .free)
 | [],_,_,h=>by simp at h
 | (n,q)::r,x,k,h=>by
  have ih:=@dC env r x k
  cases hx:x==n with
  | true =>
   by_cases hc:(q==NameKind.free&&env.scope.kind == .function&&env.kindOf n==some .cell)=true
   ·simp only[wE,if_pos hc,Dg,hx]at h
    cases h
    simp only[BX,beq_iff_eq]at hc
    obtain⟨⟨hq,_⟩,_⟩:=hc
    subst hq
    exact .inr ⟨rfl,by rw[Dg,hx]⟩
   ·simp only[wE,if_neg hc,Dg,hx]at h
    cases h
    exact .inl (by rw[Dg,hx])
  | false =>
   have h':(r.map λ(n,k)=>if(k==NameKind.free&&env.scope.kind == .function&&env.kindOf n==some .cell)then(n,NameKind.cell)else(n,k)).lookup x=some k:=by
    by_cases hc:(q==NameKind.free&&env.scope.kind == .function&&env.kindOf n==some .cell)=true
    ·simp only[wE,if_pos hc,Dg,hx]at h
     exact h
    ·simp only[wE,if_neg hc,Dg,hx]at h
     exact h
   rcases ih h' with z | ⟨z,z'⟩
   ·exact .inl (by rw[Dg,hx];exact z)
   ·exact .inr ⟨z,by rw[Dg,hx];exact z'⟩
theorem nr {scope:DF}{own:List Str}{js:List Nat}{pins:List (Addr×Obj)}{σ:St}{H:Hp}{s:ca}{fp:List Addr}{C:Addr}{h1:Heap}{tk:Nat}(B:Blk X scope own js)(I:Inv X pins σ H s)
  (hfp:∀b∈fp,FpOk X pins H b) (hfo:∀b∈fp,∃o,s.heap.get? b=some o) (hC:s.heap.objs.size<=C) (hns:h1.Ns C λ_=>none) (hk:∀b o,s.heap.get? b=some o->h1.get? b=some o) :
  Inv (blk X scope (own++capN X.N js) s H C fp) [] (bst own.length σ js) H {s with heap:=h1,toks:=tk}:=by
 have kindC:∀x,(blk X scope (own++capN X.N js) s H C fp).env.kindOf x=some .cell∨(blk X scope (own++capN X.N js) s H C fp).env.kindOf x=some .free->(x,NameKind.free)∈scope.names:=λx hx=>by
  have hx':(GD scope X.env).names.lookup x=some .cell∨(GD scope X.env).names.lookup x=some .free:=hx
  rcases hx' with z | z
  ·rcases dC z with q | ⟨_,q⟩
   ·exact absurd rfl (B.nocell _ (CZ q))
   ·exact CZ q
  ·rcases dC z with q | ⟨_,q⟩
   ·exact CZ q
   ·exact CZ q
 have has:∀x,(x,NameKind.free)∈scope.names->∃c,X.env.cells.lookup x=some c:=λx hx=>I.ok.has x (B.free (x,.free) hx rfl)
 have old:∀ {x c},(cS scope X.env).lookup x=some c->X.env.cells.lookup x=some c:=λe=>cn e
 have cellLt:∀ {x c},X.env.cells.lookup x=some c->c<s.heap.objs.size:=λ{x c} e=>by
  obtain⟨v,o,ho,_⟩:=I.cell x c e
  exact lc ho
 have fpLt:∀b∈fp,b<s.heap.objs.size:=λb hb=>let ⟨_,e⟩:=hfo b hb;lc e
 have fsOk:∀b∈frs X.stack,b∈X.env.locals::X.fs:=I.stkSub
 refine⟨⟨I.ok.mod,?_,I.ok.glob,I.ok.blt,hC,λx y c e1 e2=>I.ok.inj x y c (old e1) (old e2),λx hx=>?_,λx c z _=>absurd z Ca,I.ok.hd,I.ok.frames,.inl rfl,λb hb=>⟨?_,λx c e=>?_⟩,I.bs,xz I.ok.bsz I.sz,
   λb o e hb=>?_,λb hb hf=>?_,I.stack,I.stkFree⟩,rfl,I.bare,Un.kept hk,⟨_,hns,λi x v e1 e2 e3=>?_⟩,λx c e=>?_,?_,λx c e=>I.freeC x c (old e),λp hp=>absurd hp (by show p∉[]++[];simp),I.hok.kept hk,?_⟩
 ·show(GD scope X.env).kind = .function
  exact B.kind
 ·obtain⟨c,e⟩:=has x (kindC x hx)
  exact⟨c,l5 (kindC x hx) e⟩
 ·exact ww (zn (fpLt b hb) hC)
 ·exact(hfp b hb).2.2.2.2.1 x c (old e)
 ·have e1:=I.bs b o e
  obtain⟨f0,f1,f2,f3,f4,f5⟩:=hfp b hb
  rcases f3 with z | z
  ·exact I.ok.noex b o e z
  ·exact absurd (zn (lc (I.ok.bs b o e).1) z) (D4 _)
 ·obtain⟨f0,f1,f2,f3,f4,f5⟩:=hfp b hb
  rcases sK.mp (fsOk b hf)with z | z
  ·exact f1 z
  ·exact f2 z
 ·-- a captured name's value
  have hi:own.length<=i:=by
   rcases B7 i own.length with z | z
   ·exfalso
    have e2':(o0 own.length (none:Option V)++capt σ js)[i]? = some (some v):=e2
    rw[BY (by simpa using z),CP]at e2'
    split at e2' <;> cases e2'
   ·exact z
  have e1':(own++capN X.N js)[i]? = some x:=e1
  have e2':(o0 own.length (none:Option V)++capt σ js)[i]? = some (some v):=e2
  rw[Ci hi]at e1'
  rw[Ci (by simpa using hi),Dd]at e2'
  unfold capN at e1'
  unfold capt at e2'
  rw[wv]at e1' e2'
  cases ej:js[i - own.length]? with
  | none=>rw[ej]at e1';cases e1'
  | some j =>
   rw[ej]at e1' e2'
   have e1'':(X.N[j]?).getD "" = x:=Di e1'
   have e2'':(σ[j]?).getD none=some v:=Di e2'
   obtain⟨hj,hm⟩:=B.cap j (Cd ej)
   have eN:X.N[j]? = some x:=by
    rw[bv hj]at e1'' ⊢
    exact congrArg some e1''
   have eS:σ[j]? = some (some v):=by
    cases q:σ[j]? with
    | none=>rw[q]at e2'';cases e2''
    | some u=>rw[q]at e2'';exact congrArg some e2''
   rw[e1'']at hm
   obtain⟨m,_,hl⟩:=I.loc
   have hv:Vis X.env.scope x:=by
    rcases B.free (x,.free) hm rfl with z | z
    ·exact .inr (.inl z)
    ·exact .inr (.inr z)
   obtain⟨u,r,l⟩:=hl j x v eN eS hv
   obtain⟨c,hc⟩:=has x hm
   refine⟨u,r,.inr ⟨?_,c,l5 hm hc,?_⟩⟩
   ·rcases e3 with z | z | z
    ·exfalso
     have z':(GD scope X.env).names.lookup x=some .local:=z
     rcases dC z' with q | ⟨q,_⟩
     ·rw[B.uniq x hm]at q
      cases q
     ·cases q
    ·exact .inl z
    ·exact .inr z
   ·rcases l with⟨k1,_⟩ | ⟨k2,c2,e2,ic⟩
    ·rcases B.free (x,.free) hm rfl with t | t <;> (rw[k1]at t;cases t)
    ·rw[hc]at e2;cases e2
     obtain⟨o,ho,hd⟩:=ic
     exact⟨o,hk c o ho,hd⟩
 ·obtain⟨v,o,ho,hd⟩:=I.cell x c (old e)
  exact⟨v,o,hk c o ho,hd⟩
 ·exact I.hok.fresh hC
 ·rw[fQ]
  show _=(own++capN X.N js).length
  unfold capN
  simp
end
section
variable {X:Cx}
theorem Inv.young {pins:List (Addr×Obj)}{σ:St}{H:Hp}{s:ca}{h':Heap}{c:Addr}(I:Inv X pins σ H s)(hs:Cw c s.heap h')(hn:H c=none)(h1:X.s₀.heap.objs.size<=c)(hL:c≠X.env.locals)
  (h2:∀x d,X.env.cells.lookup x=some d->d≠c) (h3:∀p∈X.pn++pins,p.1≠c):Inv X pins σ H {s with heap:=h'} :=
 I.turned (t':=s.toks) (λb o hb e=>(hs.2 b hb).trans e) hn hL (.inr h1) h2 h3
theorem Inv.track {pins:List (Addr×Obj)}{σ:St}{H:Hp}{s:ca}{D:Addr}{ys:List V}{its:List bn}{n:Nat}(I:Inv X pins σ H s)(hn:H D=none)(h1:X.s₀.heap.objs.size<=D)(hL:D≠X.env.locals)
  (h2:∀x d,X.env.cells.lookup x=some d->d≠D) (h3:∀p∈X.pn++pins,p.1≠D) (hz:ys.length<=wT) (r:Vals ys its) (e:s.heap.get? D=some {cls:=.type "list",data:=.seq its.toArray n}) :
  Inv X pins σ (upd H D (.lst ys)) s:=by
 have ne:∀ {b u},H b=some u->b≠D:=λ{b u} q=>bb q hn
 refine⟨I.ok,I.os,I.bare,⟨I.base.keep,I.base.slot,λb o q z hx=>?_,I.base.there,λb xs q=>?_,λb o u q=>?_,λb ps q=>?_⟩,I.loc,I.cell,?_,λx c q=>?_,λp hp=>?_,λb o q=>?_,I.len⟩
 ·rw[aQ (ww (zn (lc q) h1))]
  exact I.base.free b o q z hx
 ·have q':=I.base.tups b xs q
  rw[aQ (ne q')];exact q'
 ·have q':=I.base.frzs b o u q
  rw[aQ (ne q')];exact q'
 ·obtain⟨more,q'⟩:=I.base.tbls b ps q
  exact⟨more,by rw[aQ (ne q')];exact q'⟩
 ·rw[aQ (Dq hL)];exact I.free
 ·rw[aQ (h2 x c q)];exact I.freeC x c q
 ·obtain⟨a1,a2,a3⟩:=I.pin p hp
  exact⟨a1,by rw[aQ (h3 p hp)];exact a2,a3⟩
 ·by_cases hb:b=D
  ·subst hb
   rw[aR]at q
   cases q
   exact⟨hz,its,n,r,e⟩
  ·rw[aQ hb]at q
   refine(I.hok b o q).stay (λ_ _ _ z=>z) (λc z=>?_) λc xs z=>?_
   ·rw[aQ (ne z)];exact z
   ·rw[aQ (ne z)];exact z
def vX (X:Cx)(pins:List (Addr×Obj))(σ:St)(Q:VK)(C:Addr)(acc:bn)(s':ca):Prop :=
 ∃(D:Addr) (H:Hp) (m:Str->Option bn),acc = .ref D/\s'.heap.Ns C m/\Inv X pins σ H s'/\H C=none/\X.s₀.heap.objs.size<=C/\C≠X.env.locals/\(∀x d,X.env.cells.lookup x=some d->d≠C)/\(∀p∈X.pn++pins,p.1≠C)/\Q (.ref D) H
theorem lZ {elt tg iter:Expr}{ifs:List Expr}{scope:DF}{pos:Pos}{own:List Str}{js:List Nat}{g:TG}{tc:TT}{te:TE}{Q:VK}{pins:List (Addr×Obj)}{σ:St}{s2:ca}{itv:bn}{E:bn->ca->Prop}
  {RR:bn->Addr->E1->ca->Prop} (hc:X.calm=true) (B:Blk X scope own js) (hg:∀s H C fp,(own++capN X.N js).Nodup->PG (blk X scope (own++capN X.N js) s H C fp) tg g) (ht:∀s H C fp,PTs (blk X scope (own++capN X.N js) s H C fp) ifs tc)
  (he:∀s H C fp,PE (blk X scope (own++capN X.N js) s H C fp) elt te)
  (h:PIE X pins σ tg (λJ H1=>Bm J own.length js g tc te Q σ H1) itv s2)
  (hR:∀C acc s',vX X pins σ Q C acc s'->RR acc C (.ok .next) s') :
  li (pc X.prog X.w) X.A (Jf []) (λacc s3=>li (pc X.prog X.w) X.A (Gv scope X.env.globals (cS scope X.env) [] X.env.qual none .none (some X.env)) (λcenv s4 =>
   CY (pc X.prog X.w) X.A (.compStart (.ListComp elt [⟨tg,iter,ifs,0⟩] scope pos) 0 itv acc {cenv with scope:=GD scope X.env}) (RR acc cenv.locals) s4) E s3) E s2:=by
 obtain⟨it,fp,tn,J,H2,rfl,I2,T,st2,f2,W,⟨m0,w0⟩,turn⟩:=h
 refine Ds (Fj B.nocell (by intro y hy;simp at hy) (λh1 hns1 hsb1=>?_) B.kind)
 generalize hPu:s2.heap.push {cls:=.type "list",dict:=none,data:=.seq ([]:List bn).toArray}=Pu at hns1 hsb1 ⊢
 dsimp only at hns1 hsb1 ⊢
 have hDC:Pu.objs.size=s2.heap.objs.size+1:=by rw[<- hPu,CI]
 generalize hD:s2.heap.objs.size=D at hDC ⊢
 have gD:Pu.get? D=some {cls:=.type "list",dict:=none,data:=.seq ([]:List bn).toArray}:=by
  rw[<- hPu,<- hD];exact wn _ rfl
 generalize hC:Pu.objs.size=C at hns1 hsb1 hDC ⊢
 have ltDC:D<C:=by rw[hDC];exact DB D
 have neDC:D≠C:=ww ltDC
 have keep1:∀b o,s2.heap.get? b=some o->h1.get? b=some o:=λb o e=>by
  have hb:b<D:=by rw[<- hD];exact lc e
  have hb2:b≠C:=ww (DO hb ltDC)
  refine(hsb1.2 b hb2).trans (db _ ?_)
  rw[<- hPu]
  exact db _ e
 have gD1:h1.get? D=some {cls:=.type "list",dict:=none,data:=.seq ([]:List bn).toArray}:=(hsb1.2 D neDC).trans (db _ gD)
 have szD:s2.heap.objs.size<=D:=Fs hD
 have szC:s2.heap.objs.size<=C:=xz szD (CN ltDC)
 have old:∀ {b:Addr},b<s2.heap.objs.size->b≠D/\b≠C:=λhb=>⟨ww (zn hb szD),ww (zn hb szC)⟩
 have fpo:∀b∈fp,∃o,s2.heap.get? b=some o:=λb hb=>let ⟨o,e,_⟩:=T.obj 0 _ st2 b hb;⟨o,e⟩
 have fpD:∀b∈fp,b≠D/\b≠C:=λb hb=>by
  obtain⟨o,e⟩:=fpo b hb
  exact old (lc e)
 have clD:∀x d,X.env.cells.lookup x=some d->d≠D/\d≠C:=λx d e=>by
  obtain⟨v,o,ho,_⟩:=I2.cell x d e
  exact old (lc ho)
 have pinD:∀p∈X.pn++pins,p.1≠D/\p.1≠C:=λp hp=>by
  exact old (lc (I2.pin p hp).1)
 have locD:D≠X.env.locals/\C≠X.env.locals:=by
  exact⟨(old I2.lt).1.symm,(old I2.lt).2.symm⟩
 let Y:=blk X scope (own++capN X.N js) s2 H2 C fp
 have IB:Inv Y [] (bst own.length σ js) H2 {s2 with heap:=h1,toks:=s2.toks+([]:List (Str×bn)).length}:=nr B I2 f2 fpo szC hns1 keep1
 have fpB:∀ {H':Hp} {pl:List (Addr×Obj)},(∀b∈fp,H' b=none)->(∀p∈pl,p.1=D)->∀b∈fp,FpOk Y pl H' b:=λ{H' pl} hn hp b hb=>by
  obtain⟨f0,f1,f3,f4,f5,f6⟩:=f2 b hb
  refine⟨hn b hb,(fpD b hb).2,λz=>?_,.inl hb,λx c e=>f5 x c (cn e),λp q=>?_⟩
  ·rcases sK.mp (I2.stkSub b z)with z | z
   ·exact f1 z
   ·exact f3 z
  ·have q':p∈pl:=by simpa [Y,blk] using q
   rw[hp p q']
   exact(fpD b hb).1.symm
 have clB:∀x d,Y.env.cells.lookup x=some d->d≠D:=λx d e=>(clD x d (cn e)).1
 have notFs:D∉Y.fs:=λz=>by
  obtain⟨_,o,ho,_⟩:=IB.ok.funs.mem z
  exact(old (lc (show s2.heap.get? D=some o from ho))).1 rfl
 have loop:∀s3:ca,s3={s2 with heap:=h1,toks:=s2.toks+([]:List (Str×bn)).length} ->
   CY (pc X.prog X.w) X.A (.compLoop (.ListComp elt [⟨tg,iter,ifs,0⟩] scope pos) 0 (.ref it) (.ref D) (Ik scope (cS scope X.env) C X.env)) (RR (.ref D) C) s3:=by
  rintro s3 rfl
  refine qC (λn s'=>∃(i:Nat) (ys:List V) (its:List bn) (k:Nat) (H':Hp),Inv Y [] (bst own.length σ js) H' s'/\tn i s'.heap/\(∀b∈fp,H' b=none)/\H' D=none/\Vals ys its /\
   s'.heap.get? D=some {cls:=.type "list",data:=.seq its.toArray k}/\W i n ys H') ?_ m0 ⟨0,[],[],0,H2,IB,T.keep 0 _ _ st2 (λb hb o e=>keep1 b o e),λb hb=>(f2 b hb).1,I2.hok.fresh szD,.nil,gD1,w0⟩
  rintro n s3 ⟨i,ys,its,k,H3,I3,st3,fr3,hD3,r3,g3,w3⟩
  have I3p:Inv Y [(D,{cls:=.type "list",data:=.seq its.toArray k})] (bst own.length σ js) H3 s3:=I3.pins_of λp hp=>by
   have e:p=(D,{cls:=.type "list",data:=.seq its.toArray k}):=by simpa using hp
   subst e
   exact⟨g3,hD3,neDC,notFs,λv z=>by cases z⟩
  have f3:∀b∈fp,FpOk Y [(D,{cls:=.type "list",data:=.seq its.toArray k})] H3 b:=fpB fr3 λp hp=>by
   have e:p=(D,{cls:=.type "list",data:=.seq its.toArray k}):=by simpa using hp
   rw[e]
  rcases turn i n ys H3 w3 with⟨stop,hz,qn⟩ | ⟨go,hz,N,hN,step⟩
  ·refine thn (T.done Y rfl rfl rfl hc i _ s3 _ H3 (λ_ _=>False) I3p f3 st3 stop) λr s4 ⟨hr,I4⟩=>?_
   subst hr
   refine hR C _ s4 ?_
   have g4:=(I4.pin (D,{cls:=.type "list",data:=.seq its.toArray k}) (by simp[Y,blk])).1
   obtain⟨m,hn4,_⟩:=id I4.loc
   have un:Un (frs X.stack) fp H2 H3 s2.heap s4.heap:=I4.base
   have I5:Inv X pins σ H3 s4:=I2.call' I4.os un I4.hok I4.bare λb hb=>let ⟨_,b1,_,b3,b4,b5⟩:=f2 b hb;⟨b3,b1,b4,b5⟩
   have I6:=I5.track (ys:=ys) (its:=its) (n:=k) hD3 (xz I2.sz szD) locD.1 (λx d e=>(clD x d e).1) (λp hp=>(pinD p hp).1) hz r3 g4
   refine⟨D,_,m,rfl,hn4,I6,?_,xz I2.sz szC,locD.2,λx d e=>(clD x d e).2,λp hp=>(pinD p hp).2,qn D hD3⟩
   rw[aQ (Dq neDC)]
   exact I4.free
  ·refine thn (T.item Y rfl rfl rfl hc i _ s3 _ H3 (λ_ _=>False) I3p f3 st3 go) λr s4 ⟨u,hr,h4⟩=>?_
   subst hr
   refine thn h4 λ_ s5 ⟨x,H5,I5,r5,y5,st5,fr5⟩=>?_
   have f5:∀b∈fp,FpOk Y [(D,{cls:=.type "list",data:=.seq its.toArray k})] H5 b:=λb hb=>⟨fr5 b hb,(f3 b hb).2⟩
   have I5':=I5.pinned f5 (T.obj _ _ st5)
   refine thn (hg s2 H2 C fp B.nd _ s5 _ H5 x u _ I5' r5 (step x H5 y5)) λ_ s6 ⟨σ6,H6,I6,d6,q6⟩=>?_
   refine thn (ht s2 H2 C fp _ s6 σ6 H6 _ I6 q6) λok s7 ⟨H7,I7,q7⟩=>?_
   have after:∀ {s8:ca} {H8:Hp},Inv Y ([(D,{cls:=.type "list",data:=.seq its.toArray k})]++fW fp s5.heap) σ6 H8 s8 ->
     s8.heap.get? D=some {cls:=.type "list",data:=.seq its.toArray k}/\H8 D=none/\tn (i+1) s8.heap/\(∀b∈fp,H8 b=none)/\Inv Y [] (bst own.length σ js) H8 s8:=λ{s8 H8} I8=>by
    have p8:=I8.pin (D,{cls:=.type "list",data:=.seq its.toArray k}) (by simp[Y,blk])
    refine⟨p8.1,p8.2.1,T.keep _ _ _ st5 λb hb o e=>(I8.pin (b,o) (im _ (im _ (bX hb e)))).1,λb hb=>?_,?_⟩
    ·obtain⟨o,e,_⟩:=T.obj _ _ st5 b hb
     exact(I8.pin (b,o) (im _ (im _ (bX hb e)))).2.1
    ·refine(I8.pins_of (pins':=[]) λp hp=>absurd hp (by simp[Y,blk])).weak ?_ λj v e=>?_
     ·rw[I8.len,fQ]
      show _=(own++capN X.N js).length
      unfold capN
      simp
     ·rcases B7 j own.length with z | z
      ·exfalso
       unfold bst at e
       rw[BY (by simpa using z),CP]at e
       split at e <;> cases e
      ·unfold bst at e
       rw[Ci (by simpa using z),Dd,<- d6,Co]at e
       rw[<- e]
       congr 1
       omega
   cases ok with
   | false =>
    rw[if_neg Ca]at q7 ⊢
    obtain⟨m',hm,w7⟩:=hN _ _ q7
    obtain⟨a1,a2,a3,a4,a5⟩:=after I7
    exact⟨m',hm,i+1,ys,its,k,H7,a5,a3,a4,a2,r3,a1,w7⟩
   | true =>
    rw[if_pos rfl]at q7 ⊢
    refine thn (he s2 H2 C fp _ s7 σ6 H7 _ I7 q7) λu8 s8 ⟨v8,H8,I8,r8,n8⟩=>?_
    obtain⟨m',hm,w8⟩:=hN _ _ n8
    obtain⟨a1,a2,a3,a4,a5⟩:=after I8
    have hsz:its.toArray.size<wT:=by rw[on,<- r3.length];exact hz
    refine Il CK ⟨_,a1,rfl⟩ GA (Gk _ _) (Gx D its.toArray k u8 (by omega)) ⟨a1,?_⟩
    have q9:=Gj a1 (λxs=>xs.push u8)
    have sb:Cw D s8.heap (s8.heap.update D (C9 λxs=>xs.push u8)):=Df ..
    have I9:=a5.young sb a2 szD neDC clB (λp hp=>absurd hp (by show p∉[]++[];simp))
    have fin:∃k',(s8.heap.update D (C9 λxs=>xs.push u8)).get? D=some {cls:=.type "list",data:=.seq (its++[u8]).toArray k'}:=⟨_,by
     rw[show(its++[u8]).toArray=its.toArray.push u8 by simp]
     exact q9⟩
    obtain⟨k',fin⟩:=fin
    exact⟨m',hm,i+1,ys++[v8],its++[u8],k',H8,I9,T.keep _ _ _ a3 (λb hb o e=>(sb.2 b (fpD b hb).1).trans e),a4,a2,r3.append (.cons r8 .nil),fin,w8⟩
 exact Jg (loop _ rfl) (T.self _ 0 _ _ _ (T.keep 0 _ _ st2 λb hb o e=>keep1 b o e) (loop _ rfl))
theorem du {elt tg iter:Expr}{ifs:List Expr}{scope:DF}{pos:Pos}(own:List Str)(js:List Nat){wi:TI}{g:TG}{tc:TT}{te:TE}(hc:X.calm=true)(B:Blk X scope own js)(hi:PI X tg iter wi)
  (hg:∀s H C fp,(own++capN X.N js).Nodup->PG (blk X scope (own++capN X.N js) s H C fp) tg g) (ht:∀s H C fp,PTs (blk X scope (own++capN X.N js) s H C fp) ifs tc) (he:∀s H C fp,PE (blk X scope (own++capN X.N js) s H C fp) elt te)
  (hs:∀x,C7 iter X.env x=pure x:=by intro _;rfl):PE X (.ListComp elt [⟨tg,iter,ifs,0⟩] scope pos) (ub own.length js wi g tc te):=by
 intro pins s σ H Q I h
 have hcl:E_ scope X.env=pure (cS scope X.env):=cJ λx hx hf=>I.ok.has x.1 (B.free x hx hf)
 rw[eval_ListComp]
 refine DI (use:=none) rfl hs hcl B.kind B.names (thn (hi pins s σ H _ I h) λv s1 h1=>thn h1 λitv s2 h2=>?_)
 refine lZ (RR:=λacc C=>Hf (pc X.prog X.w) X.A X.xe none (EP X pins σ Q) acc C) hc B hg ht he h2 λC acc s' hb=>?_
 obtain⟨D,H',m,rfl,hn,I',c1,c2,c3,c4,c5,q⟩:=hb
 exact⟨m,hn,λh' hs'=>⟨.ref D,H',I'.young hs' c1 c2 c3 c4 c5,rfl,q⟩⟩
theorem j9 {elt tg iter:Expr}{ifs:List Expr}{scope:DF}{pos pos' spos:Pos}{i:Nat}{x:Str}(own:List Str)(js:List Nat){wi:TI}{g:TG}{tc:TT}{te:TE}(hN:X.N.Nodup)(hi:X.N[i]? = some x)(hx:Loc X.env.scope x)
  (hc:X.calm=true) (B:Blk X scope own js) (hit:PI X tg iter wi)
  (hg:∀s H C fp,(own++capN X.N js).Nodup->PG (blk X scope (own++capN X.N js) s H C fp) tg g) (ht:∀s H C fp,PTs (blk X scope (own++capN X.N js) s H C fp) ifs tc) (he:∀s H C fp,PE (blk X scope (own++capN X.N js) s H C fp) elt te)
  (hf:X.fn x=true∨X.env.scope.names.lookup x=some .local:=by first | exact .inl rfl | exact .inr rfl | assumption)
  (hw:FW (.ListComp elt [⟨tg,iter,ifs,0⟩] scope pos) (some (.Name x pos')) spos.line X.env=pure true:=by rfl)
  (hs:∀x,C7 iter X.env x=pure x:=by intro _;rfl) :
  PS X (.Assign [.Name x pos'] (.ListComp elt [⟨tg,iter,ifs,0⟩] scope pos) spos) (λD σ H=>ub own.length js wi g tc te σ H λv H'=>D.nx (σ.set i (some v)) H'):=by
 intro pins s σ H D I h
 have hcl:E_ scope X.env=pure (cS scope X.env):=cJ λx hx hf=>I.ok.has x.1 (B.free x hx hf)
 rw[Gf _ _ _ _ hw]
 refine bm (C4 (bm ?_))
 show li _ X.A (do let _ <- FP (.ListComp elt [⟨tg,iter,ifs,0⟩] scope pos) scope X.env _ (Jf []) false (eval iter X.env) (some (Ea (.Name x pos') X.env))) _ _ s
 refine bm (thn (Q:=λ_ s'=>SP X pins D .next s') (DI (use:=some (Ea (.Name x pos') X.env)) rfl hs hcl B.kind B.names (thn (hit pins s σ H _ I h) λv s1 h1=>thn h1 λitv s2 h2=>?_)) λ_ s' q=>dL (dL q))
 refine lZ (Q:=λv H'=>D.nx (σ.set i (some v)) H') (RR:=λacc C=>Hf (pc X.prog X.w) X.A X.xe (some (Ea (.Name x pos') X.env)) (λ_ s'=>SP X pins D .next s') acc C) hc B hg ht he h2 λC acc s' hb=>?_
 obtain⟨l,H',m,rfl,hn,I',c1,c2,c3,c4,c5,q⟩:=hb
 show li _ X.A (Ea (.Name x pos') X.env (.ref l)) _ _ _
 refine FN (ip (v:=.ref l) I' hN hi hx rfl (λs3 I3 ⟨a,sb,ha⟩=>?_) hf)
 have ne:C≠a:=by
  rcases ha with z | z
  ·rw[z];exact c3
  ·exact(c4 x a z).symm
 exact⟨m,hn.sameBut sb ne,λh' hs'=>⟨_,H',I3.young hs' c1 c2 c3 c4 c5,q⟩⟩
end
section
variable {X:Cx}
def Dv (j:Int):Prop:=0<j/\j.natAbs.log2<9000
theorem Dv.small {j:Int}(h:0<j)(h2:j<1073741824):Dv j:=⟨h,by
 have e:j.natAbs≠0:=by omega
 have:j.natAbs.log2<30:=(Nat.log2_lt e).mpr (by omega)
 omega⟩
theorem mI:OpR X (EY .FloorDiv) (rI (λ_ j=>Dv j) λi j=>.int (i / j)):=opI λi j _ _ _ _ _ hc q=>by
 rw[<- Int.fdiv_eq_ediv_of_nonneg i (GV hc.1)]at q
 exact floordiv_int (Ku hc.1) q (.inl (PyProof.noPylong_of_log2 hc.2))
def isaT (t T:String):Option Bool:=if(Value.type t==Value.type T)=true then some true else if PySem.W.kitMeta T=true then(fastBuiltinMro t).map (·.contains (.type T))else none
theorem oC:isaT "int" "int" = some true:=by decide +kernel
theorem mS:isaT "int" "bool" = some false:=by decide +kernel
theorem lx:isaT "int" "tuple" = some false:=by decide +kernel
theorem mT:isaT "bool" "int" = some true:=by decide +kernel
theorem ly:isaT "bool" "bool" = some true:=by decide +kernel
theorem kJ:isaT "bool" "tuple" = some false:=by decide +kernel
theorem oA:isaT "str" "int" = some false:=by decide +kernel
theorem lr:isaT "str" "tuple" = some false:=by decide +kernel
theorem oB:isaT "NoneType" "int" = some false:=by decide +kernel
theorem lu:isaT "NoneType" "tuple" = some false:=by decide +kernel
theorem mR:isaT "list" "int" = some false:=by decide +kernel
theorem kI:isaT "list" "tuple" = some false:=by decide +kernel
theorem lq:isaT "tuple" "int" = some false:=by decide +kernel
theorem jG:isaT "tuple" "tuple" = some true:=by decide +kernel
theorem w6 {K:bi}{t T:String}:G4 K (.type t) (.type T)=isaT t T:=rfl
theorem yG {x:Str}{T:String}{pos:Pos}(hg:Gl X x)(hm:X.mg x=none)(hv:CA x=some (.type T))(hn:x ≠ "__name__" := by decide)(hd:(x==("__debug__" : Str))=false:=by decide):PE X (.Name x pos) (tC (.ty T)) :=
 yN hg hm hv rfl hn hd
structure OkN (P:wS)(w:B_)(K:bi)(mg:Str->Option bn)(base:Heap)(k:Nat)(x:Str)(ps:List Str)(sp:Sp):Prop where
 ex:∃f fd,mg x=some (.ref f)/\Cq K (.ref f)=true/\k7 K fd ps []/\(∃oc od osl,K.lookup f=some ⟨oc,od,.func fd,osl⟩)/\FnOk P w K mg base CX0 k f fd ps sp
theorem bJ {k:Nat}{x:Str}{ps:List Str}{sp:Sp}{p pos:Pos}{e:Expr}{es:List Expr}{t:TA}(F:OkN X.prog X.w X.K X.mg X.base k x ps sp)(hr:Room k X.A)(ha:PA X (e::es) t)(hg:Gl X x:=by rfl)
  (hdb:(x==("__debug__" : Str))=false:=by decide) (he:B4 (e::es) X.env=(false,eval e X.env)::B4 es X.env:=by rfl) (hpl:(D_ pos (B4 es X.env)).any (·.1)=false:=by rfl) :
  PE X (.Call (.Name x p) (e::es) [] pos) (yr sp [] E0 t):=by
 obtain⟨f,fd,hm,hk,hb,lk,F⟩:=F.ex
 exact yM F hr hg hm hk hb .nil wI ha hdb he hpl
structure DefN (K:bi)(mg:Str->Option bn)(x:Str)(st:Stmt)(ps:List Str):Prop where
 ex:∃f fd,mg x=some (.ref f)/\Fun K x x st f fd/\∀us:List bn,us.length=ps.length->Im fd ⟨us,[]⟩=pure (ps.zip us)
theorem DefN.ok {P:wS}{w:B_}{K:bi}{mg:Str->Option bn}{base:Heap}{x:Str}{st:Stmt}{N ps:List Str}{k:Nat}{sp:Sp}(D:DefN K mg x st ps)(S:aP N ps (ar st))(len:∀vs H Q E,sp vs H Q E->vs.length=ps.length)
  (hbody:∀(f:Addr) (cdv:bn) (A:Cg) (outer:List Env) (s:ca) (H:Hp) (vs:List V) (Q:VK) (E:XK),Room k (A.deeper (E9 x (ar st) s.heap.objs.size f cdv))->sp vs H Q E ->
   ∃t,PSs (cxOf CX0 P w K mg base N x (ar st) f cdv A outer s H E).nox (bI st) t/\t {nx:=λ_ H'=>Q .non H',rt:=Q} (start N vs) H):OkN P w K mg base (k+1) x ps sp:=by
 obtain⟨f,fd,hm,F,hb⟩:=D.ex
 refine⟨f,fd,hm,F.kp,.all hb,?_,F.ok S len λcdv A outer s H vs Q E hr h=>hbody f cdv A outer s H vs Q E hr h⟩
 obtain⟨oc,od,kV,doc,pm,an,cdv,ct,osl,_,lk,_⟩:=F.ex
 exact⟨oc,od,osl,lk⟩
theorem bM {K:bi}{mg:Str->Option bn}{h:Heap}{x:Str}{st:Stmt}{ps:List Str}{f:Addr}{oc:bn}{od an:Option Addr}{osl:Array (Option bn)}{kV doc pm cdv ct:bn}(KX:K.In h)(G:h.Ns B9 mg)
  (a:Ct K B9 x=some (some (.ref f))) (l:K.lookup f=some ⟨oc,od,.func (CF x x (cF st) (bI st) (ar st) .none kV doc pm an cdv ct),osl⟩)
  (c:CL K cdv x=true) (k:Cq K (.ref f)=true)
  (hb:∀(kV doc pm:bn) (an:Option Addr) (cdv ct:bn) (us:List bn),us.length=ps.length->Im (CF x x (cF st) (bI st) (ar st) .none kV doc pm an cdv ct) ⟨us,[]⟩=pure (ps.zip us)):DefN K mg x st ps :=
 ⟨f,_,DZ KX G a,x6 l c k,λus hl=>hb kV doc pm an cdv ct us hl⟩
theorem za {P:wS}{w:B_}{K:bi}{mg:Str->Option bn}{x p:Str}{st:Stmt}{k:Nat}{fa:Addr}{sp:Sp}(D:DefN K mg x st [p])(hfa:mg x=some (.ref fa))
  (F:∀base:Heap,OkN P w K mg base k x [p] sp):∃fd:E3,(∀(s:ca) (v:bn),Ic s fd ⟨[v],[]⟩ [(p,v)])/\∀base:Heap,K.In base->base.Ns B9 mg->FnOk P w K mg base CX0 k fa fd [p] sp:=by
 obtain⟨f,fd,hm,F0,hb⟩:=D.ex
 obtain⟨oc,od,kV,doc,pm,an,cdv,ct,osl,_,lk,_⟩:=F0.ex
 refine⟨fd,λs v=>.of_eq (hb [v] rfl),λbase _ _=>?_⟩
 obtain⟨f',fd',hm',_,_,⟨oc',od',osl',lk'⟩,G⟩:=(F base).ex
 rw[hfa]at hm'
 cases hm'
 rw[hfa]at hm
 cases hm
 rw[lk]at lk'
 cases lk'
 exact G
end
structure BI (mg:Str->Option bn):Prop where
 len_:mg "len" = none
 range_:mg "range" = none
 isinstance_:mg "isinstance" = none
 int_:mg "int" = none
 bool_:mg "bool" = none
 list_:mg "list" = none
 tuple_:mg "tuple" = none
 str_:mg "str" = none
 sum_:mg "sum" = none
 all_:mg "all" = none
 max_:mg "max" = none
 min_:mg "min" = none
 sorted_:mg "sorted" = none
 set_:mg "set" = none
 zip_:mg "zip" = none
 enumerate_:mg "enumerate" = none
 reversed_:mg "reversed" = none
 dict_:mg "dict" = none
 any_:mg "any" = none
 abs_:mg "abs" = none
 repr_:mg "repr" = none
theorem BG {K:bi}{mg:Str->Option bn}{h:Heap}(KX:K.In h)(G:h.Ns B9 mg)
  (len_:Ct K B9 "len" = some none) (range_:Ct K B9 "range" = some none) (isinstance_:Ct K B9 "isinstance" = some none) (int_:Ct K B9 "int" = some none) (bool_:Ct K B9 "bool" = some none) (list_:Ct K B9 "list" = some none) (tuple_:Ct K B9 "tuple" = some none) (str_:Ct K B9 "str" = some none) (sum_:Ct K B9 "sum" = some none) (all_:Ct K B9 "all" = some none) (max_:Ct K B9 "max" = some none) (min_:Ct K B9 "min" = some none) (sorted_:Ct K B9 "sorted" = some none) (set_:Ct K B9 "set" = some none) (zip_:Ct K B9 "zip" = some none) (enumerate_:Ct K B9 "enumerate" = some none) (reversed_:Ct K B9 "reversed" = some none) (dict_:Ct K B9 "dict" = some none) (any_:Ct K B9 "any" = some none) (abs_:Ct K B9 "abs" = some none) (repr_:Ct K B9 "repr" = some none):BI mg :=
 ⟨B5 KX G len_,B5 KX G range_,B5 KX G isinstance_,B5 KX G int_,B5 KX G bool_,B5 KX G list_,B5 KX G tuple_,B5 KX G str_,B5 KX G sum_,B5 KX G all_,B5 KX G max_,B5 KX G min_,B5 KX G sorted_,B5 KX G set_,B5 KX G zip_,B5 KX G enumerate_,B5 KX G reversed_,B5 KX G dict_,B5 KX G any_,B5 KX G abs_,B5 KX G repr_⟩
def Grow (t:Addr)(H H':Hp):Prop:=∀b o,H b=some o->b≠t->H' b=some o
theorem Grow.refl {t:Addr}{H:Hp}:Grow t H H:=λ_ _ h _=>h
theorem Grow.upd {t:Addr}{H H':Hp}(g:Grow t H H')(o:HO):Grow t H (L2.upd H' t o):=λb u h n=>by rw[aQ n];exact g b u h n
theorem Same.new {H H':Hp}{l:Addr}{o:HO}(s:Same H H')(h:H' l=none):Same H (L2.upd H' l o):=λb u e=>by
 have:=s b u e
 rw[aQ (bb this h)];exact this
theorem Same.seqT {K:bi}{H H':Hp}{a:Addr}{xs:List V}(e:Same H H')(h:SqT K H a xs):SqT K H' a xs:=by
 rcases h with(h | ⟨o,h⟩) | h
 ·exact .inl (.inl (e _ _ h))
 ·exact .inl (.inr ⟨o,e _ _ h⟩)
 ·exact .inr h
theorem Grow.seq {K:bi}{t:Addr}{H H':Hp}{a:Addr}{xs:List V}{kvs:List (Key×V)}(g:Grow t H H')(ht:H t=some (.dK kvs))(h:SqL K H a xs):SqL K H' a xs:=by
 rcases h with(h | ⟨o,h⟩) | h
 ·exact .inl (.inl (g _ _ h (y0 h ht (by intro z;cases z))))
 ·exact .inl (.inr ⟨o,g _ _ h (y0 h ht (by intro z;cases z))⟩)
 ·exact .inr h
def cM (c:Addr)(sp lf:Int):List (Key×V):=[(Sum.inr "cells",.ref c),(Sum.inr "spot",.int sp),(Sum.inr "left",.int lf)]
theorem zC:¬((Sum.inr ("cells" : Str):Key)=Sum.inr ("spot" : Str)):=by decide +kernel
theorem zD:¬((Sum.inr ("cells" : Str):Key)=Sum.inr ("left" : Str)):=by decide +kernel
theorem wq:¬((Sum.inr ("spot" : Str):Key)=Sum.inr ("left" : Str)):=by decide +kernel
theorem lD {c:Addr}{sp lf:Int}:valV (cM c sp lf) (Sum.inr "cells" : Key)=some (.ref c):=by
 simp[valV,cM]
theorem tZ {c:Addr}{sp lf:Int}:valV (cM c sp lf) (Sum.inr "spot" : Key)=some (.int sp):=by
 simp only[valV,cM,CO,decide_eq_false zC,decide_true,FL]
theorem t5 {c:Addr}{sp lf:Int}:valV (cM c sp lf) (Sum.inr "left" : Key)=some (.int lf):=by
 simp only[valV,cM,CO,decide_eq_false zD,decide_eq_false wq,decide_true,FL]
theorem mC {c:Addr}{sp lf x:Int}:putK (cM c sp lf) (Sum.inr "left" : Key) (.int x)=cM c sp x:=by
 unfold putK
 rw[if_pos (by simp[cM])]
 simp only[cM,wE,Dn,if_neg zD,if_neg wq,if_pos]
theorem wz {c:Addr}{sp lf x:Int}:putK (cM c sp lf) (Sum.inr "spot" : Key) (.int x)=cM c x lf:=by
 unfold putK
 rw[if_pos (by simp[cM])]
 simp only[cM,wE,Dn,if_neg zC,if_pos,if_neg (show ¬((Sum.inr ("left" : Str):Key)=Sum.inr ("spot" : Str))from λe=>wq e.symm)]
theorem t4 {c:Addr}:fh [] [((Sum.inr ("cells" : Str):Key),V.ref c),((Sum.inr ("spot" : Str):Key),V.int 0),((Sum.inr ("left" : Str):Key),V.int 0)]=cM c 0 0:=by
 simp only[fh,Eg,List.foldl_nil]
 have e1:putK ([]:List (Key×V)) (Sum.inr ("cells" : Str)) (V.ref c)=[((Sum.inr ("cells" : Str):Key),V.ref c)]:=by simp[putK]
 have e2:putK [((Sum.inr ("cells" : Str):Key),V.ref c)] (Sum.inr ("spot" : Str)) (V.int 0)=[((Sum.inr ("cells" : Str):Key),V.ref c),((Sum.inr ("spot" : Str):Key),V.int 0)]:=by
  unfold putK
  rw[if_neg (by simp only[DC,Kd,decide_eq_false zC];simp)]
  rfl
 have e3:putK [((Sum.inr ("cells" : Str):Key),V.ref c),((Sum.inr ("spot" : Str):Key),V.int 0)] (Sum.inr ("left" : Str)) (V.int 0)=cM c 0 0:=by
  unfold putK
  rw[if_neg (by simp only[DC,Kd,decide_eq_false zD,decide_eq_false wq];simp)]
  rfl
 rw[e1,e2,e3]
theorem BE {ns:List Int}:cutV (ns.map V.int) none (some 63)=(ns.take 63).map V.int:=by
 unfold cutV
 have e0:HT.sIx (ns.map V.int).length 0 none=0:=rfl
 rw[e0,Hu,GQ,E2]
 show List.take (HT.sIx _ _ (some ((63:Nat):Int))) _=_
 rw[HT.sIx_nat]
 rcases GS 63 (ns.map V.int).length with h | h
 ·rw[Fc h]
 ·rw[FM h,CS (lm _),CS h]
end L2
namespace L2
theorem drawn {Q:Int->Hp->Prop}{m x:Int}{H':Hp}(hm:0<m)(k:∀r:Nat,(r:Int)<m->Q (r:Nat) H'):Q (x % m) H':=by
 obtain⟨r,e⟩:=C6 (JQ x (Ku hm))
 have:=Jk x hm
 rw[e]at this ⊢
 exact k r this
theorem q8 {y:Int}:-(2^64)<y % 2147483647/\y % 2147483647<2^64:=by omega
theorem dv64:Dv 64:=Dv.small (by decide) (by decide)
end L2
namespace L2
open PySem PySem.Spec PyProof.Rows
theorem qK (a b:Nat):CM (a:Int) (b:Int)=((a &&& b:Nat):Int):=by
 unfold CM
 rw[decide_eq_true (Jj a),decide_eq_true (Jj b)]
 simp
theorem An (a b:Nat):Js (a:Int) (b:Int)=((a ||| b:Nat):Int):=by
 unfold Js CM Builtin.bitNot
 rw[decide_eq_false (show ¬(0:Int) <= -(a:Int) - 1 by omega),decide_eq_false (show ¬(0:Int) <= -(b:Int) - 1 by omega)]
 have h1:(-(-(a:Int) - 1) - 1).toNat=a:=by omega
 have h2:(-(-(b:Int) - 1) - 1).toNat=b:=by omega
 simp only[h1,h2]
 omega
theorem hZ:∀(a b:Nat),(a ^^^ b)+2*(a &&& b)=a+b:=by
 intro a
 induction a using JN with
 | ind a ih =>
  intro b
  by_cases h0:a=0
  ·subst h0;simp
  ·have h:=ih (a / 2) (by omega) (b / 2)
   have e1:(a ^^^ b) / 2=a / 2 ^^^ b / 2:=Nat.xor_div_two
   have e2:(a &&& b) / 2=a / 2 &&& b / 2:=Nat.and_div_two
   have e3:(a ^^^ b) % 2=(a+b) % 2:=by
    have:=EG a b 0
    rw[Ex,Ex,Ex]at this
    rcases CQ a with p | p <;> rcases CQ b with q | q <;> rcases CQ (a ^^^ b)with r | r <;> simp[p,q,r]at this <;> omega
   have e4:(a &&& b) % 2=(a % 2)*(b % 2):=by
    have:=Fb a b 0
    rw[Ex,Ex,Ex]at this
    rcases CQ a with p | p <;> rcases CQ b with q | q <;> rcases CQ (a &&& b)with r | r <;> simp[p,q,r]at this <;> simp[p,q,r]
   rcases CQ a with p | p <;> rcases CQ b with q | q <;> rw[p,q]at e4 <;> omega
theorem mh (a b:Nat):EI (a:Int) (b:Int)=((a ^^^ b:Nat):Int):=by
 unfold EI
 rw[An,qK]
 have h1:(a ||| b)+(a &&& b)=a+b:=by
  have:=hZ a b
  have e:(a ||| b)=(a ^^^ b)+(a &&& b):=by
   have h2:=hZ (a ^^^ b) (a &&& b)
   have h3:(a ^^^ b) &&& (a &&& b)=0:=by
    apply F_
    intro i
    simp only[Fb,EG,G5]
    cases a.testBit i <;> cases b.testBit i <;> rfl
   have h4:(a ^^^ b) ^^^ (a &&& b)=a ||| b:=by
    apply F_
    intro i
    simp only[Fb,EG,Nat.testBit_or]
    cases a.testBit i <;> cases b.testBit i <;> rfl
   rw[h3,h4]at h2
   omega
  omega
 have:=hZ a b
 omega
theorem j4 (k:Nat):(1:Int)*(2:Int)^((k:Int).toNat)=((1 <<< k:Nat):Int):=by
 rw[CB,Jz,Int.one_mul,KD]
 simp
def yu (K:bi):Sp:=λvs H Q _=>∃(a:Addr) (ns:List Int),vs=[.ref a]/\SqL K H a (ns.map V.int)/\ns.length<=63/\∀H',Q (.bl true) H'
theorem dU:CA "len" = some (.builtin "len"):=by decide +kernel
theorem xw:CA "range" = some (.type "range"):=by decide +kernel
theorem fP:CA "isinstance" = some (.builtin "isinstance"):=by decide +kernel
theorem Ba:CA "int" = some (.type "int"):=by decide +kernel
theorem zE:CA "bool" = some (.type "bool"):=by decide +kernel
theorem ni:CA "list" = some (.type "list"):=by decide +kernel
theorem fO:CA "tuple" = some (.type "tuple"):=by decide +kernel
theorem Bb:CA "all" = some (.builtin "all"):=by decide +kernel
theorem A_:CA "max" = some (.builtin "max"):=by decide +kernel
theorem yb:CA "min" = some (.builtin "min"):=by decide +kernel
theorem kW:CA "sorted" = some (.builtin "sorted"):=by decide +kernel
theorem A9:CA "set" = some (.type "set"):=by decide +kernel
theorem gO:CA "enumerate" = some (.type "enumerate"):=by decide +kernel
theorem qG:CA "reversed" = some (.type "reversed"):=by decide +kernel
section
variable {X:Cx}{a b e o:Expr}{es:List Expr}{ta tb te to:TE}{t:TA}{pos apos cpos:Pos}(K:bi)
theorem eB (ha:PE X a ta)(he:∀whole,FH a X.env whole=(do let v <- whole;Ev a.pos;F4 [v] (truthy v)))(hK:X.K=K:=by rfl) :
  PT X a (λσ H Q=>ta σ H λx H'=>∃k,TruV K x H' k/\Q k H'):=by subst hK;exact wA ha he
theorem lH (hK:X.K=K:=by rfl):OpR X (Dx .In) (rIn K false):=by subst hK;exact uF
theorem cI (hK:X.K=K:=by rfl):OpR X (Dx .NotIn) (rIn K true):=by subst hK;exact nV
theorem aU (hK:X.K=K:=by rfl):IxR X (rIx K):=by subst hK;exact AR
theorem gP (hK:X.K=K:=by rfl):SlR X (rSlL K):=by subst hK;exact yx
theorem bN (hK:X.K=K:=by rfl):ik X (.builtin "len") (λxs H Q=>∃p ys,xs=[.ref p]/\(SqL K H p ys∨SqT K H p ys)/\Q (.int ys.length) H):=by subst hK;exact oX
theorem l_ (hK:X.K=K:=by rfl):ik X (.type "list") (λxs H Q=>∃p ys,xs=[.ref p]/\(SqL K H p ys∨SqT K H p ys)/\∀l,H l=none->Q (.ref l) (upd H l (.lst ys))):=by subst hK;exact oW
theorem dz (hK:X.K=K:=by rfl):ik X (.type "tuple") (λxs H Q=>∃p ys,xs=[.ref p]/\((SqL K H p ys/\∀l,H l=none->Q (.ref l) (upd H l (.tup ys)))∨(SqT K H p ys/\Q (.ref p) H))):=by subst hK;exact nh
theorem bC {es:List Expr}{k:Nat}{t:TGs}{n:Nat}(hc:X.calm=true)(h:PGs X es t)(hn:(Fa es X.env).length=n:=by rfl)(hst:(Fa es X.env).findIdx? (·.1)=none:=by rfl)(hK:X.K=K:=by rfl) :
  PG X (.Tuple es k pos) (gTup K n t):=by subst hK;exact Ai hc h hn hst
variable {name:Str}{T id:String}{r:V->List V->Hp->VK->Prop}
theorem gm (pa:PlainAttrs T)(slot:Slot T name id)(hty:typeOf (.builtin id)=pure (.type "method_descriptor"))(hm:MtR X id r)(ho:PE X o to)(ha:PA X (e::es) t)
  (hbase:FQ o name X.env (eval o X.env)=eval o X.env:=by rfl)
  (hfew:((D_ cpos (B4 (e::es) X.env)).all (λx=>!x.1)&&(Gw cpos (Fl [] X.env)).all (λx=>x.1.isSome)&&decide ((e::es).length+([]:List H_).length+(if([]:List H_).isEmpty then 0 else 1)<30))=true:=by rfl)
  (hline:(apos.endLine==cpos.line)=true:=by rfl) (he:B4 (e::es) X.env=(false,eval e X.env)::B4 es X.env:=by rfl) (hpl:(D_ cpos (B4 es X.env)).any (·.1)=false:=by rfl)
  (hK:X.K=K:=by rfl):PE X (.Call (.Attribute o name apos) (e::es) [] cpos) (tBM K T r to t):=by
 subst hK
 exact Bu pa slot hty hm ho ha hbase hfew hline he hpl
end
inductive D where
 | non | bl (b:Bool) | int (i:Int) | str (x:Str) | tup (ds:List D) | lst (ds:List D)
def StT (H:Hp)(a:Addr)(xs:List V):Prop:=H a=some (.tup xs)
theorem StT.sq {K:bi}{H:Hp}{a:Addr}{xs:List V}(h:StT H a xs):SqT K H a xs:=SqT.of h
instance {K:bi} {H:Hp} {a:Addr} {xs:List V}:Coe (StT H a xs) (SqT K H a xs):=⟨StT.sq⟩
def StL (H:Hp)(a:Addr)(xs:List V):Prop:=H a=some (.lst xs)
theorem StL.sq {K:bi}{H:Hp}{a:Addr}{xs:List V}(h:StL H a xs):SqL K H a xs:=SqL.of h
instance {K:bi} {H:Hp} {a:Addr} {xs:List V}:Coe (StL H a xs) (SqL K H a xs):=⟨StL.sq⟩
mutual
def RepD (K:bi)(H:Hp):V->D->Prop
 | v,.non=>v = .non
 | v,.bl b=>v = .bl b
 | v,.int i=>v = .int i
 | v,.str x=>v = .str x
 | v,.tup ds=>∃a vs,v = .ref a/\StT H a vs/\RepDs K H vs ds
 | v,.lst ds=>∃a vs,v = .ref a/\StL H a vs/\RepDs K H vs ds
def RepDs (K:bi)(H:Hp):List V->List D->Prop
 | [],[]=>True
 | v::vs,d::ds=>RepD K H v d/\RepDs K H vs ds
 | _,_=>False
end
mutual
def eqD:D->D->Bool
 | .non,.non=>true
 | .bl a,.bl b=>a==b
 | .bl a,.int b=>(if a then 1 else 0)==b
 | .int a,.bl b=>a==(if b then 1 else 0)
 | .int a,.int b=>a==b
 | .str a,.str b=>a==b
 | .tup ds,.tup es=>eqDs ds es
 | .lst ds,.lst es=>eqDs ds es
 | _,_=>false
def eqDs:List D->List D->Bool
 | [],[]=>true
 | d::ds,e::es=>eqD d e&&eqDs ds es
 | _,_=>false
end
mutual
def D.depth:D->Nat
 | .tup ds=>depths ds+1
 | .lst ds=>depths ds+1
 | _=>0
def depths:List D->Nat
 | []=>0
 | d::ds=>max d.depth (depths ds)
end
section
variable {K:bi}{H H':Hp}
theorem RepDs.length:∀ {vs:List V} {ds:List D},RepDs K H vs ds->vs.length=ds.length
 | [],[],_=>rfl
 | v::vs,d::ds,h=>by
  unfold RepDs at h
  rw[At,At,RepDs.length h.2]
 | [],d::ds,h=>by unfold RepDs at h;exact h.elim
 | v::vs,[],h=>by unfold RepDs at h;exact h.elim
theorem RepDs.get:∀ {vs:List V} {ds:List D} {i:Nat} {d:D},RepDs K H vs ds->ds[i]? = some d->∃v,vs[i]? = some v/\RepD K H v d
 | [],[],_,_,_,e=>by simp at e
 | v::vs,d::ds,0,_,h,e=>by
  unfold RepDs at h
  simp at e;subst e
  exact⟨v,rfl,h.1⟩
 | v::vs,d::ds,i+1,_,h,e=>by
  unfold RepDs at h
  obtain⟨u,a,b⟩:=RepDs.get (i:=i) h.2 (by simpa using e)
  exact⟨u,by simpa using a,b⟩
 | [],d::ds,_,_,h,_=>by unfold RepDs at h;exact h.elim
 | v::vs,[],_,_,h,_=>by unfold RepDs at h;exact h.elim
theorem RepDs.getV:∀ {vs:List V} {ds:List D} {i:Nat} {v:V},RepDs K H vs ds->vs[i]? = some v->∃d,ds[i]? = some d/\RepD K H v d
 | [],[],_,_,_,e=>by simp at e
 | v::vs,d::ds,0,_,h,e=>by
  unfold RepDs at h
  simp at e;subst e
  exact⟨d,rfl,h.1⟩
 | v::vs,d::ds,i+1,_,h,e=>by
  unfold RepDs at h
  obtain⟨u,a,b⟩:=RepDs.getV (i:=i) h.2 (by simpa using e)
  exact⟨u,by simpa using a,b⟩
 | [],d::ds,_,_,h,_=>by unfold RepDs at h;exact h.elim
 | v::vs,[],_,_,h,_=>by unfold RepDs at h;exact h.elim
theorem RepDs.append:∀ {vs ws:List V} {ds es:List D},RepDs K H vs ds->RepDs K H ws es->RepDs K H (vs++ws) (ds++es)
 | [],ws,[],es,_,h=>h
 | v::vs,ws,d::ds,es,h,h'=>by
  unfold RepDs at h
  show RepDs K H (v::(vs++ws)) (d::(ds++es))
  unfold RepDs
  exact⟨h.1,RepDs.append h.2 h'⟩
 | [],_,d::ds,_,h,_=>by unfold RepDs at h;exact h.elim
 | v::vs,_,[],_,h,_=>by unfold RepDs at h;exact h.elim
theorem RepDs.one {v:V}{d:D}(h:RepD K H v d):RepDs K H [v] [d]:=by unfold RepDs;exact⟨h,by unfold RepDs;trivial⟩
theorem RepDs.nil:RepDs K H [] []:=by unfold RepDs;trivial
theorem RepDs.cons {v:V}{d:D}{vs:List V}{ds:List D}(h:RepD K H v d)(t:RepDs K H vs ds):RepDs K H (v::vs) (d::ds):=by unfold RepDs;exact⟨h,t⟩
theorem gf:∀ {vs:List V} {ns:List Int},RepDs K H vs (ns.map D.int)↔vs=ns.map V.int
 | [],[]=>by simp[RepDs]
 | v::vs,n::ns=>by
  have ih:=@gf vs ns
  rw[wE,wE]
  unfold RepDs RepD
  rw[ih]
  constructor
  ·rintro⟨rfl,rfl⟩;rfl
  ·intro h;injection h with h1 h2;exact⟨h1,h2⟩
 | [],n::ns=>by rw[wE];unfold RepDs;simp
 | v::vs,[]=>by rw[Dn];unfold RepDs;simp
mutual
theorem RepD.keep (hl:∀a vs,StL H a vs->StL H' a vs)(ht:∀a vs,StT H a vs->StT H' a vs):∀ {v:V} {d:D},RepD K H v d->RepD K H' v d
 | v,.non,h=>by unfold RepD at h ⊢;exact h
 | v,.bl b,h=>by unfold RepD at h ⊢;exact h
 | v,.int i,h=>by unfold RepD at h ⊢;exact h
 | v,.str x,h=>by unfold RepD at h ⊢;exact h
 | v,.tup ds,h=>by
  unfold RepD at h ⊢
  obtain⟨a,vs,e,h1,h2⟩:=h
  exact⟨a,vs,e,ht _ _ h1,RepDs.keep hl ht h2⟩
 | v,.lst ds,h=>by
  unfold RepD at h ⊢
  obtain⟨a,vs,e,h1,h2⟩:=h
  exact⟨a,vs,e,hl _ _ h1,RepDs.keep hl ht h2⟩
theorem RepDs.keep (hl:∀a vs,StL H a vs->StL H' a vs)(ht:∀a vs,StT H a vs->StT H' a vs):∀ {vs:List V} {ds:List D},RepDs K H vs ds->RepDs K H' vs ds
 | [],[],_=>RepDs.nil
 | v::vs,d::ds,h=>by
  unfold RepDs at h ⊢
  exact⟨RepD.keep hl ht h.1,RepDs.keep hl ht h.2⟩
 | [],d::ds,h=>by unfold RepDs at h;exact h.elim
 | v::vs,[],h=>by unfold RepDs at h;exact h.elim
end
theorem RepD.same {v:V}{d:D}(h:RepD K H v d)(s:Same H H'):RepD K H' v d:=h.keep (λ_ _ q=>s _ _ q) λ_ _ q=>s _ _ q
theorem RepDs.same {vs:List V}{ds:List D}(h:RepDs K H vs ds)(s:Same H H'):RepDs K H' vs ds:=h.keep (λ_ _ q=>s _ _ q) λ_ _ q=>s _ _ q
end
mutual
theorem iS:∀d:D,eqD d d=true
 | .non=>by simp[eqD]
 | .bl b=>by simp[eqD]
 | .int i=>by simp[eqD]
 | .str x=>by simp[eqD]
 | .tup ds=>by unfold eqD;exact eqDs_refl ds
 | .lst ds=>by unfold eqD;exact eqDs_refl ds
theorem eqDs_refl:∀ds:List D,eqDs ds ds=true
 | []=>by simp[eqDs]
 | d::ds=>by unfold eqDs;rw[iS d,eqDs_refl ds];rfl
end
section
variable {X:Cx}{pins:List (Addr×Obj)}{σ:St}{H:Hp}{s:ca}
mutual
theorem mz (I:Inv X pins σ H s):∀ {v:V} {d e:D},RepD X.K H v d->RepD X.K H v e->d=e
 | v,.non,e,h,h'=>by
  unfold RepD at h;subst h
  cases e <;> (unfold RepD at h';first | rfl | (obtain⟨_,_,z,_⟩:=h';cases z) | cases h')
 | v,.bl b,e,h,h'=>by
  unfold RepD at h;subst h
  cases e <;> (unfold RepD at h';first | (cases h';rfl) | (obtain⟨_,_,z,_⟩:=h';cases z) | cases h')
 | v,.int b,e,h,h'=>by
  unfold RepD at h;subst h
  cases e <;> (unfold RepD at h';first | (cases h';rfl) | (obtain⟨_,_,z,_⟩:=h';cases z) | cases h')
 | v,.str b,e,h,h'=>by
  unfold RepD at h;subst h
  cases e <;> (unfold RepD at h';first | (cases h';rfl) | (obtain⟨_,_,z,_⟩:=h';cases z) | cases h')
 | v,.tup ds,e,h,h'=>by
  unfold RepD at h
  obtain⟨a,vs,rfl,h1,h2⟩:=h
  cases e with
  | tup es =>
   unfold RepD at h'
   obtain⟨b,ws,z,g1,g2⟩:=h'
   cases z
   rw[I.tuple_inj g1.sq h1.sq]at g2
   rw[repDs_inj I h2 g2]
  | lst es =>
   unfold RepD at h'
   obtain⟨b,ws,z,g1,g2⟩:=h'
   cases z
   obtain⟨_,_,⟨o,n,e1,c1,_⟩,_⟩:=I.list (StL.sq g1)
   obtain⟨_,_,⟨o',e2,c2,_⟩,_⟩:=I.tuple h1.sq
   rw[e1]at e2;cases e2
   rw[c1]at c2
   exact absurd c2 (by decide)
  | non=>unfold RepD at h';cases h'
  | bl _=>unfold RepD at h';cases h'
  | int _=>unfold RepD at h';cases h'
  | str _=>unfold RepD at h';cases h'
 | v,.lst ds,e,h,h'=>by
  unfold RepD at h
  obtain⟨a,vs,rfl,h1,h2⟩:=h
  cases e with
  | lst es =>
   unfold RepD at h'
   obtain⟨b,ws,z,g1,g2⟩:=h'
   cases z
   rw[I.list_inj (StL.sq g1) (StL.sq h1)]at g2
   rw[repDs_inj I h2 g2]
  | tup es =>
   unfold RepD at h'
   obtain⟨b,ws,z,g1,g2⟩:=h'
   cases z
   obtain⟨_,_,⟨o,n,e1,c1,_⟩,_⟩:=I.list (StL.sq h1)
   obtain⟨_,_,⟨o',e2,c2,_⟩,_⟩:=I.tuple g1.sq
   rw[e1]at e2;cases e2
   rw[c1]at c2
   exact absurd c2 (by decide)
  | non=>unfold RepD at h';cases h'
  | bl _=>unfold RepD at h';cases h'
  | int _=>unfold RepD at h';cases h'
  | str _=>unfold RepD at h';cases h'
theorem repDs_inj (I:Inv X pins σ H s):∀ {vs:List V} {ds es:List D},RepDs X.K H vs ds->RepDs X.K H vs es->ds=es
 | [],[],[],_,_=>rfl
 | v::vs,d::ds,e::es,h,h'=>by
  unfold RepDs at h h'
  rw[mz I h.1 h'.1,repDs_inj I h.2 h'.2]
 | [],d::ds,_,h,_=>by unfold RepDs at h;exact h.elim
 | v::vs,[],_,h,_=>by unfold RepDs at h;exact h.elim
 | [],_,d::ds,_,h=>by unfold RepDs at h;exact h.elim
 | v::vs,_,[],_,h=>by unfold RepDs at h;exact h.elim
end
end
theorem iO (A:Cg):A.in1.units=A.units+1:=rfl
theorem lW:∀ {ds:List D} {j:Nat} {d:D},ds[j]? = some d->d.depth<=depths ds
 | [],_,_,h=>by simp at h
 | d::ds,0,_,h=>by simp at h;subst h;unfold depths;omega
 | d::ds,j+1,e,h=>by
  have:=lW (ds:=ds) (j:=j) (by simpa using h)
  unfold depths;omega
def oJ (ds es:List D)(j:Nat):Bool:=match ds[j]?,es[j]? with
 | some d,some e=>eqD d e
 | _,_=>true
theorem fq:∀ {ds es:List D},ds.length=es.length->(wl ds.length).all (oJ ds es)=eqDs ds es
 | [],[],_=>by simp[eqDs]
 | d::ds,e::es,h=>by
  have ih:=fq (ds:=ds) (es:=es) (by simpa using h)
  rw[At,List.range_succ_eq_map,FD,Ke]
  unfold eqDs
  rw[<- ih]
  congr 1
 | [],_::_,h=>by simp at h
 | _::_,[],h=>by simp at h
theorem dN:∀ {ds es:List D},ds.length≠es.length->eqDs ds es=false
 | [],[],h=>absurd rfl h
 | [],_::_,_=>by simp[eqDs]
 | _::_,[],_=>by simp[eqDs]
 | d::ds,e::es,h=>by
  unfold eqDs
  rw[dN (ds:=ds) (es:=es) (by simpa using h),Fv]
section
variable {X:Cx}{pins:List (Addr×Obj)}{σ:St}{H:Hp}{s:ca}
theorem jQ (I:Inv X pins σ H s){m:Nat}(ih:∀ {A:Cg} {v u:V} {vv uu:bn} {d e:D},d.depth<=m->A.units+m<EX->RelV v vv->RelV u uu->RepD X.K H v d->RepD X.K H u e->Fo A s vv uu (eqD d e)){A:Cg}(hu:A.units+m<EX)
  {vs us:List V} {vvs uus:List bn} {ds es:List D} (hd:depths ds<=m) (rv:Vals vs vvs) (ru:Vals us uus) (hv:RepDs X.K H vs ds) (he:RepDs X.K H us es) :
  ∀j (h1:j<vvs.toArray.size) (h2:j<uus.toArray.size),Fo A s vvs.toArray[j] uus.toArray[j] (oJ ds es j):=by
 intro j h1 h2
 rw[on]at h1 h2
 have l1:=rv.length
 have l2:=ru.length
 have g1:vs[j]? = some vs[j]:=bv (by omega)
 have g2:us[j]? = some us[j]:=bv (by omega)
 obtain⟨x,ex,rx⟩:=rv.get g1
 obtain⟨y,ey,ry⟩:=ru.get g2
 obtain⟨d,ed,rd⟩:=hv.getV g1
 obtain⟨e,ee,re⟩:=he.getV g2
 rw[bv h1]at ex
 rw[bv h2]at ey
 cases ex
 cases ey
 have:oJ ds es j=eqD d e:=by unfold oJ;rw[ed,ee]
 rw[this,F3,F3]
 exact ih (xz (lW ed) hd) hu rx ry rd re
theorem xR (I:Inv X pins σ H s)(n:Nat)(ih:0<n->∀ {A:Cg} {v u:V} {vv uu:bn} {d e:D},d.depth<=n - 1->A.units+(n - 1)<EX->RelV v vv->RelV u uu->RepD X.K H v d->RepD X.K H u e->Fo A s vv uu (eqD d e))
  {A:Cg} {v u:V} {vv uu:bn} {d e:D} (hd:d.depth<=n) (hu:A.units+n<EX) (rv:RelV v vv) (ru:RelV u uu) (hv:RepD X.K H v d) (he:RepD X.K H u e):Hi A s vv uu (eqD d e)/\Fo A s vv uu (eqD d e):=by
 have hu0:A.units<EX:=by omega
 have isL:∀ {a xs},StL H a xs->∃its:List bn,Vals xs its/\s.heap.IsList a its.toArray:=λq=>by
  obtain⟨its,r,p,_⟩:=I.list q.sq
  exact⟨its,r,p.isList⟩
 have isT:∀ {a xs},StT H a xs->∃its:List bn,Vals xs its/\s.heap.IsTuple a its.toArray:=λq=>by
  obtain⟨its,r,p,_⟩:=I.tuple q.sq
  exact⟨its,r,p⟩
 cases d with
 | non =>
  unfold RepD at hv;subst hv;cases rv
  cases e with
  | non=>unfold RepD at he;subst he;cases ru;exact⟨.none_none,.same _⟩
  | bl b=>unfold RepD at he;subst he;cases ru;exact⟨.none_bool _,.none_bool _⟩
  | int b=>unfold RepD at he;subst he;obtain⟨t,rfl⟩:=ru;exact⟨.none_int _ _,.none_int _ _⟩
  | str b=>unfold RepD at he;subst he;obtain⟨t,rfl⟩:=ru;exact⟨.none_str _ _,.none_str _ _⟩
  | tup es=>unfold RepD at he;obtain⟨a,vs,rfl,q,_⟩:=he;cases ru;obtain⟨its,_,q⟩:=isT q;exact⟨.none_tuple q hu0,.none_tuple q hu0⟩
  | lst es=>unfold RepD at he;obtain⟨a,vs,rfl,q,_⟩:=he;cases ru;obtain⟨its,_,q⟩:=isL q;exact⟨.none_list q hu0,.none_list q hu0⟩
 | bl x =>
  unfold RepD at hv;subst hv;cases rv
  cases e with
  | non=>unfold RepD at he;subst he;cases ru;exact⟨.bool_none _,.bool_none _⟩
  | bl b=>unfold RepD at he;subst he;cases ru;exact⟨.bool_bool _ _,.bool_bool _ _⟩
  | int b=>unfold RepD at he;subst he;obtain⟨t,rfl⟩:=ru;exact⟨.bool_int _ _ _,.bool_int _ _ _⟩
  | str b=>unfold RepD at he;subst he;obtain⟨t,rfl⟩:=ru;exact⟨.bool_str _ _ _,.bool_str _ _ _⟩
  | tup es=>unfold RepD at he;obtain⟨a,vs,rfl,q,_⟩:=he;cases ru;obtain⟨its,_,q⟩:=isT q;exact⟨.bool_tuple _ q hu0,.bool_tuple _ q hu0⟩
  | lst es=>unfold RepD at he;obtain⟨a,vs,rfl,q,_⟩:=he;cases ru;obtain⟨its,_,q⟩:=isL q;exact⟨.bool_list _ q hu0,.bool_list _ q hu0⟩
 | int x =>
  unfold RepD at hv;subst hv;obtain⟨t0,rfl⟩:=rv
  cases e with
  | non=>unfold RepD at he;subst he;cases ru;exact⟨.int_none _ _,.int_none _ _⟩
  | bl b=>unfold RepD at he;subst he;cases ru;exact⟨.int_bool _ _ _,.int_bool _ _ _⟩
  | int b=>unfold RepD at he;subst he;obtain⟨t,rfl⟩:=ru;exact⟨.int_int _ _ _ _,.int_int _ _ _ _⟩
  | str b=>unfold RepD at he;subst he;obtain⟨t,rfl⟩:=ru;exact⟨.int_str _ _ _ _,.int_str _ _ _ _⟩
  | tup es=>unfold RepD at he;obtain⟨a,vs,rfl,q,_⟩:=he;cases ru;obtain⟨its,_,q⟩:=isT q;exact⟨.int_tuple _ _ q hu0,.int_tuple _ _ q hu0⟩
  | lst es=>unfold RepD at he;obtain⟨a,vs,rfl,q,_⟩:=he;cases ru;obtain⟨its,_,q⟩:=isL q;exact⟨.int_list _ _ q hu0,.int_list _ _ q hu0⟩
 | str x =>
  unfold RepD at hv;subst hv;obtain⟨t0,rfl⟩:=rv
  cases e with
  | non=>unfold RepD at he;subst he;cases ru;exact⟨.str_none _ _,.str_none _ _⟩
  | bl b=>unfold RepD at he;subst he;cases ru;exact⟨.str_bool _ _ _,.str_bool _ _ _⟩
  | int b=>unfold RepD at he;subst he;obtain⟨t,rfl⟩:=ru;exact⟨.str_int _ _ _ _,.str_int _ _ _ _⟩
  | str b=>unfold RepD at he;subst he;obtain⟨t,rfl⟩:=ru;exact⟨.str_str _ _ _ _,.str_str _ _ _ _⟩
  | tup es=>unfold RepD at he;obtain⟨a,vs,rfl,q,_⟩:=he;cases ru;obtain⟨its,_,q⟩:=isT q;exact⟨.str_tuple _ _ q hu0,.str_tuple _ _ q hu0⟩
  | lst es=>unfold RepD at he;obtain⟨a,vs,rfl,q,_⟩:=he;cases ru;obtain⟨its,_,q⟩:=isL q;exact⟨.str_list _ _ q hu0,.str_list _ _ q hu0⟩
 | tup ds =>
  have hv0:=hv
  unfold RepD at hv
  obtain⟨a,vs,rfl,q,hq⟩:=hv
  cases rv
  obtain⟨its,r1,q1⟩:=isT q
  cases e with
  | non=>unfold RepD at he;subst he;cases ru;exact⟨.tuple_none q1 hu0,.tuple_none q1 hu0⟩
  | bl b=>unfold RepD at he;subst he;cases ru;exact⟨.tuple_bool _ q1 hu0,.tuple_bool _ q1 hu0⟩
  | int b=>unfold RepD at he;subst he;obtain⟨t,rfl⟩:=ru;exact⟨.tuple_int _ _ q1 hu0,.tuple_int _ _ q1 hu0⟩
  | str b=>unfold RepD at he;subst he;obtain⟨t,rfl⟩:=ru;exact⟨.tuple_str _ _ q1 hu0,.tuple_str _ _ q1 hu0⟩
  | lst es=>unfold RepD at he;obtain⟨b,ws,rfl,g,_⟩:=he;cases ru;obtain⟨its2,_,g1⟩:=isL g;exact⟨.tuple_list q1 g1 hu0,.tuple_list q1 g1 hu0⟩
  | tup es =>
   have he0:=he
   unfold RepD at he
   obtain⟨b,ws,rfl,g,hg⟩:=he
   cases ru
   obtain⟨its2,r2,g1⟩:=isT g
   have hd':depths ds+1<=n:=by simpa [D.depth] using hd
   have l1:=r1.length
   have l2:=r2.length
   have m1:=hq.length
   have m2:=hg.length
   have rc:Hi A s (.ref a) (.ref b) (eqD (.tup ds) (.tup es)):=by
    have:=SeqAt.RcAt.tuples (e:=oJ ds es) q1 g1 hu0 (jQ I (λ{A} {v} {u} {vv} {uu} {d} {e}=>ih (by omega) (A:=A)) (A:=A.in1) (by rw[iO];omega) (m:=n - 1) (by omega) r1 r2 hq hg)
    rw[on,on]at this
    unfold eqD
    by_cases hl:ds.length=es.length
    ·have z:(its.length==its2.length)=true:=by rw[beq_iff_eq];omega
     have mm:min its.length its2.length=ds.length:=by omega
     rw[z,HS,mm,fq hl]at this
     exact this
    ·have z:(its.length==its2.length)=false:=by rw[beq_eq_false_iff_ne];omega
     rw[z,Fv]at this
     rw[dN hl]
     exact this
   refine⟨rc,?_⟩
   by_cases hab:a=b
   ·subst hab
    rw[mz I hv0 he0,iS]
    exact .same _
   ·exact .of_refs hab rc
 | lst ds =>
  have hv0:=hv
  unfold RepD at hv
  obtain⟨a,vs,rfl,q,hq⟩:=hv
  cases rv
  obtain⟨its,r1,q1⟩:=isL q
  cases e with
  | non=>unfold RepD at he;subst he;cases ru;exact⟨.list_none q1 hu0,.list_none q1 hu0⟩
  | bl b=>unfold RepD at he;subst he;cases ru;exact⟨.list_bool _ q1 hu0,.list_bool _ q1 hu0⟩
  | int b=>unfold RepD at he;subst he;obtain⟨t,rfl⟩:=ru;exact⟨.list_int _ _ q1 hu0,.list_int _ _ q1 hu0⟩
  | str b=>unfold RepD at he;subst he;obtain⟨t,rfl⟩:=ru;exact⟨.list_str _ _ q1 hu0,.list_str _ _ q1 hu0⟩
  | tup es=>unfold RepD at he;obtain⟨b,ws,rfl,g,_⟩:=he;cases ru;obtain⟨its2,_,g1⟩:=isT g;exact⟨.list_tuple q1 g1 hu0,.list_tuple q1 g1 hu0⟩
  | lst es =>
   have he0:=he
   unfold RepD at he
   obtain⟨b,ws,rfl,g,hg⟩:=he
   cases ru
   obtain⟨its2,r2,g1⟩:=isL g
   have hd':depths ds+1<=n:=by simpa [D.depth] using hd
   have l1:=r1.length
   have l2:=r2.length
   have m1:=hq.length
   have m2:=hg.length
   have rc:Hi A s (.ref a) (.ref b) (eqD (.lst ds) (.lst es)):=by
    unfold eqD
    by_cases hl:ds.length=es.length
    ·have:=SeqAt.RcAt.lists (e:=oJ ds es) q1 g1 (by rw[on,on];omega) hu0 (jQ I (λ{A} {v} {u} {vv} {uu} {d} {e}=>ih (by omega) (A:=A)) (A:=A.in1) (by rw[iO];omega) (m:=n - 1) (by omega) r1 r2 hq hg)
     rw[on,show its.length=ds.length by omega,fq hl]at this
     exact this
    ·rw[dN hl]
     exact SeqAt.RcAt.lists_lengths q1 g1 (by rw[on,on,bne_iff_ne];omega) hu0
   refine⟨rc,?_⟩
   by_cases hab:a=b
   ·subst hab
    rw[mz I hv0 he0,iS]
    exact .same _
   ·exact .of_refs hab rc
theorem uq (I:Inv X pins σ H s):∀(n:Nat) {A:Cg} {v u:V} {vv uu:bn} {d e:D},d.depth<=n->A.units+n<EX->RelV v vv->RelV u uu->RepD X.K H v d->RepD X.K H u e ->
  Hi A s vv uu (eqD d e)/\Fo A s vv uu (eqD d e):=by
 intro n
 induction n with
 | zero=>exact λhd hu=>xR I 0 (λhlt=>absurd hlt (by omega)) hd hu
 | succ n ih=>exact λhd hu=>xR I (n+1) (λ_ A v u vv uu d e h1 h2 h3 h4 h5 h6=>(ih (A:=A) h1 h2 h3 h4 h5 h6).2) hd hu
end
section
variable {X:Cx}(K:bi)
def rEqD (K:bi):R2:=λx y H Q=>∃d e,RepD K H x d/\RepD K H y e/\d.depth<=60/\Q (.bl (eqD d e)) H
def rNeD (K:bi):R2:=λx y H Q=>∃d e,RepD K H x d/\RepD K H y e/\d.depth<=60/\Q (.bl (!eqD d e)) H
theorem jv (hu:X.A.units+64<EX)(hK:X.K=K:=by rfl):OpR X (Dx .Eq) (rEqD K):=by
 subst hK
 intro pins s σ H x y v u Q I rx ry h
 obtain⟨d,e,hd,he,hz,q⟩:=h
 exact(uq I 60 hz (by omega) rx ry hd he).1 X.prog X.w _ _ ⟨.bl _,H,I,rfl,q⟩
theorem Ac {pins:List (Addr×Obj)}{σ:St}{H:Hp}{s:ca}(I:Inv X pins σ H s){A:Cg}{v u:V}{vv uu:bn}{d e:D}(hd:d.depth<=60)(hu:A.units+61<EX)(rv:RelV v vv)(ru:RelV u uu)(hv:RepD X.K H v d)(he:RepD X.K H u e) :
  SeqAt.RcNeAt A s vv uu (!eqD d e):=by
 have hu0:A.units<EX:=by omega
 have isL:∀ {a xs},StL H a xs->∃its:List bn,Vals xs its/\s.heap.IsList a its.toArray:=λq=>by
  obtain⟨its,r,p,_⟩:=I.list q.sq
  exact⟨its,r,p.isList⟩
 have isT:∀ {a xs},StT H a xs->∃its:List bn,Vals xs its/\s.heap.IsTuple a its.toArray:=λq=>by
  obtain⟨its,r,p,_⟩:=I.tuple q.sq
  exact⟨its,r,p⟩
 cases d with
 | non =>
  unfold RepD at hv;subst hv;cases rv
  cases e with
  | non=>unfold RepD at he;subst he;cases ru;exact .none_none
  | bl b=>unfold RepD at he;subst he;cases ru;exact .none_bool _
  | int b=>unfold RepD at he;subst he;obtain⟨t,rfl⟩:=ru;exact .none_int _ _
  | str b=>unfold RepD at he;subst he;obtain⟨t,rfl⟩:=ru;exact .none_str _ _
  | tup es=>unfold RepD at he;obtain⟨a,vs,rfl,q,_⟩:=he;cases ru;obtain⟨its,_,q⟩:=isT q;exact .none_tuple q hu0
  | lst es=>unfold RepD at he;obtain⟨a,vs,rfl,q,_⟩:=he;cases ru;obtain⟨its,_,q⟩:=isL q;exact .none_list q hu0
 | bl x =>
  unfold RepD at hv;subst hv;cases rv
  cases e with
  | non=>unfold RepD at he;subst he;cases ru;exact .bool_none _
  | bl b=>unfold RepD at he;subst he;cases ru;exact .bool_bool _ _
  | int b=>unfold RepD at he;subst he;obtain⟨t,rfl⟩:=ru;exact .bool_int _ _ _
  | str b=>unfold RepD at he;subst he;obtain⟨t,rfl⟩:=ru;exact .bool_str _ _ _
  | tup es=>unfold RepD at he;obtain⟨a,vs,rfl,q,_⟩:=he;cases ru;obtain⟨its,_,q⟩:=isT q;exact .bool_tuple _ q hu0
  | lst es=>unfold RepD at he;obtain⟨a,vs,rfl,q,_⟩:=he;cases ru;obtain⟨its,_,q⟩:=isL q;exact .bool_list _ q hu0
 | int x =>
  unfold RepD at hv;subst hv;obtain⟨t0,rfl⟩:=rv
  cases e with
  | non=>unfold RepD at he;subst he;cases ru;exact .int_none _ _
  | bl b=>unfold RepD at he;subst he;cases ru;exact .int_bool _ _ _
  | int b=>unfold RepD at he;subst he;obtain⟨t,rfl⟩:=ru;exact .int_int _ _ _ _
  | str b=>unfold RepD at he;subst he;obtain⟨t,rfl⟩:=ru;exact .int_str _ _ _ _
  | tup es=>unfold RepD at he;obtain⟨a,vs,rfl,q,_⟩:=he;cases ru;obtain⟨its,_,q⟩:=isT q;exact .int_tuple _ _ q hu0
  | lst es=>unfold RepD at he;obtain⟨a,vs,rfl,q,_⟩:=he;cases ru;obtain⟨its,_,q⟩:=isL q;exact .int_list _ _ q hu0
 | str x =>
  unfold RepD at hv;subst hv;obtain⟨t0,rfl⟩:=rv
  cases e with
  | non=>unfold RepD at he;subst he;cases ru;exact .str_none _ _
  | bl b=>unfold RepD at he;subst he;cases ru;exact .str_bool _ _ _
  | int b=>unfold RepD at he;subst he;obtain⟨t,rfl⟩:=ru;exact .str_int _ _ _ _
  | str b=>unfold RepD at he;subst he;obtain⟨t,rfl⟩:=ru;exact .str_str _ _ _ _
  | tup es=>unfold RepD at he;obtain⟨a,vs,rfl,q,_⟩:=he;cases ru;obtain⟨its,_,q⟩:=isT q;exact .str_tuple _ _ q hu0
  | lst es=>unfold RepD at he;obtain⟨a,vs,rfl,q,_⟩:=he;cases ru;obtain⟨its,_,q⟩:=isL q;exact .str_list _ _ q hu0
 | tup ds =>
  unfold RepD at hv
  obtain⟨a,vs,rfl,q,hq⟩:=hv
  cases rv
  obtain⟨its,r1,q1⟩:=isT q
  cases e with
  | non=>unfold RepD at he;subst he;cases ru;exact .tuple_none q1 hu0
  | bl b=>unfold RepD at he;subst he;cases ru;exact .tuple_bool _ q1 hu0
  | int b=>unfold RepD at he;subst he;obtain⟨t,rfl⟩:=ru;exact .tuple_int _ _ q1 hu0
  | str b=>unfold RepD at he;subst he;obtain⟨t,rfl⟩:=ru;exact .tuple_str _ _ q1 hu0
  | lst es=>unfold RepD at he;obtain⟨b,ws,rfl,g,_⟩:=he;cases ru;obtain⟨its2,_,g1⟩:=isL g;exact .tuple_list q1 g1 hu0
  | tup es =>
   unfold RepD at he
   obtain⟨b,ws,rfl,g,hg⟩:=he
   cases ru
   obtain⟨its2,r2,g1⟩:=isT g
   have hd':depths ds+1<=60:=by simpa [D.depth] using hd
   have l1:=r1.length
   have l2:=r2.length
   have m1:=hq.length
   have m2:=hg.length
   have:=Ky (e:=oJ ds es) q1 g1 hu0 (jQ I (λ{A} {v} {u} {vv} {uu} {d} {e} a1 a2 a3 a4 a5 a6=>(uq I 60 a1 a2 a3 a4 a5 a6).2) (A:=A.in1) (by rw[iO];omega) (m:=60) (by omega) r1 r2 hq hg)
   rw[on,on]at this
   unfold eqD
   by_cases hl:ds.length=es.length
   ·have z:(its.length==its2.length)=true:=by rw[beq_iff_eq];omega
    have mm:min its.length its2.length=ds.length:=by omega
    rw[z,HS,mm,fq hl]at this
    exact this
   ·have z:(its.length==its2.length)=false:=by rw[beq_eq_false_iff_ne];omega
    rw[z,Fv]at this
    rw[dN hl]
    exact this
 | lst ds =>
  unfold RepD at hv
  obtain⟨a,vs,rfl,q,hq⟩:=hv
  cases rv
  obtain⟨its,r1,q1⟩:=isL q
  cases e with
  | non=>unfold RepD at he;subst he;cases ru;exact .list_none q1 hu0
  | bl b=>unfold RepD at he;subst he;cases ru;exact .list_bool _ q1 hu0
  | int b=>unfold RepD at he;subst he;obtain⟨t,rfl⟩:=ru;exact .list_int _ _ q1 hu0
  | str b=>unfold RepD at he;subst he;obtain⟨t,rfl⟩:=ru;exact .list_str _ _ q1 hu0
  | tup es=>unfold RepD at he;obtain⟨b,ws,rfl,g,_⟩:=he;cases ru;obtain⟨its2,_,g1⟩:=isT g;exact .list_tuple q1 g1 hu0
  | lst es =>
   unfold RepD at he
   obtain⟨b,ws,rfl,g,hg⟩:=he
   cases ru
   obtain⟨its2,r2,g1⟩:=isL g
   have hd':depths ds+1<=60:=by simpa [D.depth] using hd
   have l1:=r1.length
   have l2:=r2.length
   have m1:=hq.length
   have m2:=hg.length
   unfold eqD
   by_cases hl:ds.length=es.length
   ·have:=KA (e:=oJ ds es) q1 g1 (by rw[on,on];omega) hu0 (jQ I (λ{A} {v} {u} {vv} {uu} {d} {e} a1 a2 a3 a4 a5 a6=>(uq I 60 a1 a2 a3 a4 a5 a6).2) (A:=A.in1) (by rw[iO];omega) (m:=60) (by omega) r1 r2 hq hg)
    rw[on,show its.length=ds.length by omega,fq hl]at this
    exact this
   ·rw[dN hl]
    exact Kz q1 g1 (by rw[on,on,bne_iff_ne];omega) hu0
theorem ki (hu:X.A.units+64<EX)(hK:X.K=K:=by rfl):OpR X (Dx .NotEq) (rNeD K):=by
 subst hK
 intro pins s σ H x y v u Q I rx ry h
 obtain⟨d,e,hd,he,hz,q⟩:=h
 exact Ac I hz (by omega) rx ry hd he X.prog X.w _ _ ⟨.bl _,H,I,rfl,q⟩
theorem vJ (hc:X.calm=true)(hK:X.K=K:=by rfl):ik X (.builtin "all") (λxs H Q=>∃(p:Addr) (bs:List Bool),xs=[.ref p]/\SqL K H p (bs.map V.bl)/\Q (.bl (bs.all id)) H):=by
 subst hK
 intro pins s σ H xs us Q I r h
 obtain⟨p,bs,rfl,hq,q⟩:=h
 obtain⟨u,rfl,ru⟩:=jz r
 cases ru
 obtain⟨its,rv,pl,hz⟩:=I.list hq
 refine call_all_walk (Hc pl.isList ?_)
 have hne:p≠s.heap.objs.size:=ww (by obtain⟨o,n,e,_⟩:=pl;exact lc e)
 have hl:its.length=bs.length:=by have:=rv.length;rw[f8]at this;omega
 refine⟨s.heap.objs.size,_,_,_,_,_,λi=>bs.getD i true,rfl,Km (A:=X.A.in1) (show X.A.in1.handled=none from I.ok.hd hc) s.heap.objs.size p hne its.toArray,⟨⟨_,wn _ rfl,rfl,rfl⟩,?_⟩,λi v s' Q' E' hv hQ'=>?_,λh' tk hk=>?_⟩
 ·exact pl.isList.at λo e=>db _ e
 ·have hv':its[i]? = some v:=by simpa using hv
  have hi:i<its.length:=(kt.mp hv').1
  obtain⟨w,e1,e2⟩:=rv.get (i:=i) (x:=V.bl bs[i]) (by rw[wv,bv (by omega)];rfl)
  rw[hv']at e1;cases e1
  cases e2
  have hQ2:Q' (bs.getD i true) s':=hQ'
  rw[ga,bv (by omega)]at hQ2
  exact Dr hQ2
 ·rw[on,hl]
  have e:((wl bs.length).all λi=>bs.getD i true)=bs.all id:=by
   rw[Eh]
   simp only[DR,Cn,id]
   constructor
   ·intro g b hb
    obtain⟨i,hi,rfl⟩:=C1 hb
    have:=g i hi
    rw[ga,bv hi]at this
    exact this
   ·intro g i hi
    rw[ga,bv hi]
    exact g _ (DQ _)
  rw[e]
  refine⟨.bl (bs.all id),H,I.kept λb o e=>?_,rfl,q⟩
  refine hk b o (λz=>?_) (db _ e)
  rw[sn.mp z]at e
  exact absurd (lc e) (D4 _)
end
abbrev qf (ks:List Nat):List V:=ks.map λj=>V.int (j:Nat)
abbrev ao (ks:List Nat):List D:=ks.map λj=>D.int (j:Nat)
theorem yA {K:bi}{H:Hp}:∀ {vs:List V} {ks:List Nat},RepDs K H vs (ao ks)↔vs=qf ks:=by
 intro vs ks
 have:=@gf K H vs (ks.map λj=>((j:Nat):Int))
 rw[B3,B3]at this
 exact this
section
variable {X:Cx}
theorem qF:ik X (.type "range") (λxs H Q=>∃j:Int,xs=[.int j]/\∀p,H p=none->Q (.ref p) (upd H p (.rng 0 j))):=by
 intro pins s σ H xs us Q I r h
 obtain⟨j,rfl,q⟩:=h
 obtain⟨u,rfl,t,rfl⟩:=jz r
 refine call_range_1 ?_
 exact⟨.ref s.heap.objs.size,upd H s.heap.objs.size (.rng 0 j),I.laid (λb u e=>db _ e) (lm _) ⟨_,_,_,wn _ rfl⟩,rfl,q _ (I.hok.fresh (lm _))⟩
theorem tq (hc:X.calm=true):ik X (.type "list") (λxs H Q=>∃(p:Addr) (n:Nat),xs=[.ref p]/\H p=some (.rng 0 (n:Nat))/\n<=1000000/\∀l,H l=none->Q (.ref l) (upd H l (.lst (qf (wl n))))):=by
 intro pins s σ H xs us Q I r h
 obtain⟨p,n,rfl,hp,hn,q⟩:=h
 obtain⟨u,rfl,ru⟩:=jz r
 cases ru
 obtain⟨t,u,v,e⟩:=(show cL X.prog X.w H s.heap p (.rng 0 (n:Nat))from I.hok p _ hp)
 have hsz:GL 0 (n:Int) 1=(n:Nat):=by rw[rangeSize_one];split <;> omega
 refine call_list_range (I.ok.hd hc) (show IsRange s.heap p 0 n 1 t u v from e) (small_one (by omega) (by omega) (by omega) (by omega)) hsz (xz hn (by decide)) λh' tk acc c hk hl hi=>?_
 have hv:Vals (qf (wl n)) acc.toList:=by
  obtain⟨h1,h2⟩:=hi
  have gen:∀(m:Nat) (us:List bn),us.length=m->(∀(i:Nat) (v:bn),us[i]? = some v->∃t,v=Value.int (0+(i:Int)*1) t)->Vals (qf (wl m)) us:=by
   intro m
   induction m with
   | zero=>intro us e _;cases us with | nil=>exact .nil | cons _ _=>cases e
   | succ m ih =>
    intro us e hx
    have e1:us=us.take m++[us[m]]:=by
     rw[List.take_append_getElem]
     exact(CS (by omega)).symm
    rw[e1,DL]
    unfold qf
    rw[Cb]
    refine Vals.append (ih _ (by rw[B6];omega) λi v hv=>?_) ?_
    ·rw[List.getElem?_take]at hv
     split at hv
     ·exact hx i v hv
     ·cases hv
    ·obtain⟨t,ht⟩:=hx m us[m] (bv (by omega))
     rw[ht]
     exact .cons ⟨t,by simp⟩ .nil
  refine gen n acc.toList (by simpa using h1) λi v hv=>?_
  have hv':acc[i]? = some v:=by simpa using hv
  exact h2 i v hv'
 refine⟨.ref s.heap.objs.size,upd H s.heap.objs.size (.lst (qf (wl n))),I.laid (t':=tk) (λb o e=>hk b o e) (lm _) ?_,rfl,q _ (I.hok.fresh (lm _))⟩
 refine⟨?_,acc.toList,c,hv,by simpa using hl⟩
 rw[f8,Db]
 exact xz hn (by decide)
end
section
variable {X:Cx}
theorem nO {x:Str}{v:V}{pos:Pos}(h:∃u,X.mg x=some u/\RelV v u)(hg:Gl X x)(hd:(x==("__debug__" : Str))=false:=by decide):PE X (.Name x pos) (tC v):=by
 obtain⟨u,hm,r⟩:=h
 exact yK hg hm r hd
end
structure Net where
 m:Nat
 js:List (Nat×Nat)
 os:List Nat
abbrev bq (p:Nat×Nat):D:=.tup [.int (p.1:Nat),.int (p.2:Nat)]
def netD (N:Net):D:=.tup [.int (N.m:Nat),.tup (N.js.map bq),.tup (ao N.os)]
def aK (rows:List Nat)(p:Nat×Nat):List Nat:=rows++[rows.getD p.1 0 ^^^ rows.getD p.2 0]
def az (m:Nat):List Nat:=(wl m).map λk=>1 <<< k
def a7 (N:Net):List Nat:=N.js.foldl aK (az N.m)
def okIx:Nat->List (Nat×Nat)->Prop
 | _,[]=>True
 | n,p::r=>p.1<p.2/\p.2<n/\okIx (n+1) r
def okJs:List Nat->List (Nat×Nat)->Prop
 | _,[]=>True
 | rows,p::r=>p.1<p.2/\p.2<rows.length/\rows.getD p.1 0≠rows.getD p.2 0/\okJs (aK rows p) r
structure iZ (N:Net):Prop where
 m1:1<=N.m
 m12:N.m<=12
 jl:N.js.length<=132
 js:okJs (az N.m) N.js
 o1:1<=N.os.length
 o24:N.os.length<=24
 os:∀o∈N.os,o<N.m+N.js.length
theorem cq (rows:List Nat)(p:Nat×Nat):(aK rows p).length=rows.length+1:=by simp[aK]
theorem kr:∀ {js:List (Nat×Nat)} {rows:List Nat},okJs rows js->okIx rows.length js
 | [],_,_=>trivial
 | p::r,rows,h=>by
  obtain⟨h1,h2,_,h4⟩:=h
  have:=kr h4
  rw[cq]at this
  exact⟨h1,h2,this⟩
theorem fH:∀ {js:List (Nat×Nat)} {n i:Nat} {p:Nat×Nat},okIx n js->js[i]? = some p->p.1<p.2/\p.2<n+i
 | [],_,_,_,_,h=>by simp at h
 | q::r,n,0,p,h,e=>by
  simp at e;subst e
  exact⟨h.1,by have:=h.2.1;omega⟩
 | q::r,n,i+1,p,h,e=>by
  have:=fH (n:=n+1) (i:=i) (p:=p) h.2.2 (by simpa using e)
  exact⟨this.1,by omega⟩
theorem mJ:∀ {js:List (Nat×Nat)} {rows:List Nat} {i:Nat} {p:Nat×Nat},okJs rows js->js[i]? = some p ->
  ((js.take i).foldl aK rows).getD p.1 0≠((js.take i).foldl aK rows).getD p.2 0
 | [],_,_,_,_,h=>by simp at h
 | q::r,rows,0,p,h,e=>by
  simp at e;subst e
  exact h.2.2.1
 | q::r,rows,i+1,p,h,e=>mJ (js:=r) (rows:=aK rows q) (i:=i) (p:=p) h.2.2.2 (by simpa using e)
theorem fN (js:List (Nat×Nat)):∀rows:List Nat,(js.foldl aK rows).length=rows.length+js.length:=by
 induction js with
 | nil=>intro rows;rfl
 | cons p r ih=>intro rows;rw[Eg,ih,cq,At];omega
theorem gE {js:List (Nat×Nat)}{i:Nat}{p:Nat×Nat}(h:js[i]? = some p)(rows:List Nat):(js.take (i+1)).foldl aK rows=aK ((js.take i).foldl aK rows) p:=by
 rw[CG,h,DP,EO]
 rfl
theorem cf (m:Nat):(az m).length=m:=by simp[az]
theorem iF (N:Net):(a7 N).length=N.m+N.js.length:=by unfold a7;rw[fN,cf]
def tyD:D->String
 | .non => "NoneType" | .bl _ => "bool" | .int _ => "int" | .str _ => "str" | .tup _ => "tuple" | .lst _ => "list"
theorem kU (K:bi){X:Cx}(hK:X.K=K:=by rfl):ik X (.builtin "isinstance") (λxs H Q=>∃x d T b,xs=[x,.ty T]/\RepD K H x d/\isaT (tyD d) T=some b/\Q (.bl b) H):=by
 subst hK
 intro pins s σ H xs us Q I r h
 obtain⟨x,d,T,b,rfl,hd,e,q⟩:=h
 cases r with
 | cons r1 rr =>
  cases rr with
  | cons r2 rr =>
   cases rr
   cases (show _=Value.type T from r2)
   have e':∀ {t:String},tyD d=t->G4 X.K (.type t) (.type T)=some b:=λ{t} z=>by rw[<- z];exact w6.trans e
   have fin:∀tk,EP X pins σ Q (.bool b) {s with toks:=tk}:=λtk=>⟨.bl b,H,I.tok tk,rfl,q⟩
   cases d with
   | non=>unfold RepD at hd;subst hd;exact iN I r1 .non (e' rfl) fin
   | bl y=>unfold RepD at hd;subst hd;exact iN I r1 (.bl y) (e' rfl) fin
   | int y=>unfold RepD at hd;subst hd;exact iN I r1 (.int y) (e' rfl) fin
   | str y=>unfold RepD at hd;subst hd;exact iN I r1 (.str y) (e' rfl) fin
   | tup ds =>
    unfold RepD at hd
    obtain⟨a,vs,rfl,hq,_⟩:=hd
    cases r1
    obtain⟨its,_,⟨o,h1,h2,_⟩,_⟩:=I.tuple hq.sq
    exact CV Iq I.kIn ⟨o,h1,h2⟩ (e' rfl) (λz=>nomatch z) fin
   | lst ds =>
    unfold RepD at hd
    obtain⟨a,vs,rfl,hq,_⟩:=hd
    cases r1
    obtain⟨its,_,⟨o,n,h1,h2,_⟩,_⟩:=I.list (StL.sq hq)
    exact CV Gi I.kIn ⟨o,h1,h2⟩ (e' rfl) (λz=>nomatch z) fin
inductive Sv where
 | un | vl (d:D) | ow (ds:List D) | tp (n:Nat) | dk (kvs:List (Key×D)) | dt (kvs:List (List Key×D)) | ex (C:Addr) (fs:Option (List (Str×D))) | sc (ns:List Int) | px (d:D) (C:Addr) (fs:Option (List (Str×D))) | xl (es:List (Addr×Option (List (Str×D)))) | ob (C:Addr) (fs:List (Str×D)) | ll (xss:List (List D)) | ds (C:Addr) (n w:List (Key×D))
def Sv.own:Sv->Bool
 | .ow _=>true
 | .tp _=>true
 | .dk _=>true
 | .dt _=>true
 | .ll _=>true
 | .ds _ _ _=>true
 | _=>false
abbrev En:=List Sv
inductive R where
 | d (d:D) | o (i:Nat) | n (s:Sv) | t (n:String) | x (s:Sv)
abbrev R.f (ds:List D):R:=.n (.ow ds)
def gt:En->Nat->Sv
 | [],_=>.un
 | s::_,0=>s
 | _::r,n+1=>gt r n
def pt:En->Nat->Sv->En
 | [],_,_=>[]
 | _::r,0,s=>s::r
 | x::r,n+1,s=>x::pt r n s
theorem hV:∀(ρ:En) (i:Nat) (s:Sv),(pt ρ i s).length=ρ.length
 | [],_,_=>rfl
 | _::_,0,_=>rfl
 | x::r,n+1,s=>by simp[pt,hV r n s]
theorem ck:∀(ρ:En) (i j:Nat) (s:Sv),i≠j->gt (pt ρ i s) j=gt ρ j
 | [],_,_,_,_=>rfl
 | _::_,0,0,_,h=>absurd rfl h
 | _::_,0,j+1,_,_=>rfl
 | x::r,i+1,0,s,_=>rfl
 | x::r,i+1,j+1,s,h=>ck r i j s (by omega)
theorem mV:∀(ρ:En) (i:Nat) (s:Sv),i<ρ.length->gt (pt ρ i s) i=s
 | [],_,_,h=>by simp at h
 | _::_,0,_,_=>rfl
 | x::r,i+1,s,h=>mV r i s (by simpa using h)
theorem lT:∀(ρ:En) (i:Nat),ρ.length<=i->gt ρ i = .un
 | [],_,_=>rfl
 | x::r,0,h=>by simp at h
 | x::r,i+1,h=>lT r i (by simpa using h)
theorem kh {ρ:En}{i:Nat}(h:(gt ρ i).own=true):i<ρ.length:=by
 rcases B7 i ρ.length with q | q
 ·exact q
 ·rw[lT ρ i q]at h;cases h
def bO (σ:St)(ρ:En)(a:Addr):Prop:=∃i,(gt ρ i).own=true/\σ[i]? = some (some (.ref a))
open Classical in
noncomputable def hid (H:Hp)(S:Addr->Prop):Hp:=λa=>if S a then none else H a
theorem g7 {H:Hp}{S:Addr->Prop}{a:Addr}{o:HO}:hid H S a=some o↔¬S a/\H a=some o:=by
 unfold hid
 split
 ·rename_i h;simp[h]
 ·rename_i h;simp[h]
theorem gB {H:Hp}{S:Addr->Prop}{a:Addr}{o:HO}(h:¬S a)(e:H a=some o):hid H S a=some o:=g7.mpr ⟨h,e⟩
theorem br {H H':Hp}{S S':Addr->Prop}(h:∀a o,H a=some o->¬S a->H' a=some o/\¬S' a):Same (hid H S) (hid H' S'):=λa o e=>by
 obtain⟨n,e⟩:=g7.mp e
 obtain⟨e',n'⟩:=h a o e n
 exact gB n' e'
theorem cg {H:Hp}{S:Addr->Prop}:Same (hid H S) H:=λa o e=>(g7.mp e).2
structure Fr where
 H0:Hp
 Z:Addr->Prop
 M:Addr->Prop
 I:Nat->Addr->Prop
 P:Nat->Addr->Prop
def Fr.pin (F:Fr)(i:Nat)(a:Addr):Prop:=F.I i a∨F.P i a
def hs (F:Fr)(σ:St)(ρ:En):Addr->Prop:=λa=>F.Z a∨bO σ ρ a
def exP (e C:Addr)(od:Option Addr):Heap->Prop:=λh=>∃oe vs,h.get? e=some oe/\oe.cls = .ref C/\oe.dict=od/\oe.data = .fields vs
def exD (K:bi)(Hh:Hp):Option (List (Str×D))->Option Addr->Prop
 | none,none=>True
 | some fs,some dx=>∃ks,Hh dx=some (.xd ks)/\ks.map B1=fs.map B1/\RepDs K Hh (ks.map Cm) (fs.map Cm)
 | _,_=>False
theorem exD.same {K:bi}{Hh Hh':Hp}:∀ {fs:Option (List (Str×D))} {od:Option Addr},exD K Hh fs od->Same Hh Hh'->exD K Hh' fs od
 | none,none,h,_=>h
 | some fs,some dx,⟨ks,h1,h2,h3⟩,g=>⟨ks,g _ _ h1,h2,h3.same g⟩
 | none,some _,h,_=>h.elim
 | some _,none,h,_=>h.elim
def Exs (K:bi)(Hh:Hp):List V->List (Addr×Option (List (Str×D)))->Prop
 | [],[]=>True
 | x::vs,c::es=>(∃e od,x = .ref e/\Hh e=some (.ext (exP e c.1 od))/\exD K Hh c.2 od)/\Exs K Hh vs es
 | _,_=>False
theorem Exs.same {K:bi}{Hh Hh':Hp}:∀ {vs:List V} {es:List (Addr×Option (List (Str×D)))},Exs K Hh vs es->Same Hh Hh'->Exs K Hh' vs es
 | [],[],h,_=>h
 | x::vs,c::es,⟨⟨e,od,h1,h2,h3⟩,h4⟩,g=>⟨⟨e,od,h1,g _ _ h2,h3.same g⟩,Exs.same h4 g⟩
 | [],_::_,h,_=>h.elim
 | _::_,[],h,_=>h.elim
def LlP (a:Addr)(bs:List Addr)(vss:List (List V)):wS->B_->Heap->Prop:=λ_ _ h=>bs.length<=wT/\bs.Nodup/\(∃n,h.get? a=some {cls:=.type "list",data:=.seq (bs.map Value.ref).toArray n})/\vss.length=bs.length /\
 ∀(k:Nat) (b:Addr) (vs:List V),bs[k]? = some b->vss[k]? = some vs->vs.length<=wT/\∃(its:List bn) (n:Nat),Vals vs its/\h.get? b=some {cls:=.type "list",data:=.seq its.toArray n}
def xG (K:bi)(H:Hp)(vss:List (List V))(dss:List (List D)):Prop:=vss.length=dss.length/\∀(k:Nat) (vs:List V) (ds:List D),vss[k]? = some vs->dss[k]? = some ds->RepDs K H vs ds
theorem xG.same {K:bi}{H H':Hp}{vss:List (List V)}{dss:List (List D)}(h:xG K H vss dss)(g:Same H H'):xG K H' vss dss:=⟨h.1,λk vs ds a b=>(h.2 k vs ds a b).same g⟩
def DsP (x C dx d1 d2:Addr)(f1 f2:Str)(k1 k2:List (Key×V)):wS->B_->Heap->Prop:=λP w h=>dx≠x/\d1≠x/\d2≠x/\dx≠d1/\dx≠d2/\d1≠d2/\cL P w (λb=>if b=dx then some (.own x)else none) h x (.ins C dx [(f1,.ref d1),(f2,.ref d2)]) /\
 cL P w (λ_=>none) h d1 (.dK k1)/\cL P w (λ_=>none) h d2 (.dK k2)
def SvOk (K:bi)(Hh H:Hp)(v:Option (Option V)):Sv->Prop
 | .xl es=>∃l vs,v=some (some (.ref l))/\Hh l=some (.lst vs)/\Exs K Hh vs es
 | .ob C fs=>∃a dx ks,v=some (some (.ref a))/\Hh a=some (.ins C dx ks)/\ks.map B1=fs.map B1/\RepDs K Hh (ks.map Cm) (fs.map Cm)
 | .ll xss=>∃l bs vss,v=some (some (.ref l))/\H l=some (.big bs (LlP l bs vss))/\xG K Hh vss xss
 | .ds C n w=>∃x dx d1 d2 k1 k2,v=some (some (.ref x))/\H x=some (.big [dx,d1,d2] (DsP x C dx d1 d2 "nets" "wishes" k1 k2))/\k1.map B1=n.map B1/\RepDs K Hh (k1.map Cm) (n.map Cm)/\k2.map B1=w.map B1/\RepDs K Hh (k2.map Cm) (w.map Cm)
 | .px d C fs=>∃p x e od,v=some (some (.ref p))/\Hh p=some (.tup [x,.ref e])/\RepD K Hh x d/\Hh e=some (.ext (exP e C od))/\exD K Hh fs od
 | .sc ns=>∃c,v=some (some (.ref c))/\SqL K Hh c (List.map V.int ns)
 | .ex C fs=>∃e od,v=some (some (.ref e))/\Hh e=some (.ext (exP e C od))/\exD K Hh fs od
 | .un=>True
 | .vl d=>∃x,v=some (some x)/\RepD K Hh x d
 | .ow ds=>∃l vs,v=some (some (.ref l))/\H l=some (.lst vs)/\RepDs K Hh vs ds
 | .tp n=>∃t c ns sp lf,v=some (some (.ref t))/\H t=some (.dK (cM c sp lf))/\SqL K Hh c (List.map V.int ns)/\0<=sp/\sp<=n/\0<=lf
 | .dk kvs=>∃t ks,v=some (some (.ref t))/\H t=some (.dK ks)/\ks.map B1=kvs.map B1/\RepDs K Hh (ks.map Cm) (kvs.map Cm)
 | .dt kvs=>∃t ks,v=some (some (.ref t))/\H t=some (.dT ks)/\ks.map B1=kvs.map B1/\RepDs K Hh (ks.map Cm) (kvs.map Cm)
theorem SvOk.keep {K:bi}{Hh Hh' H H':Hp}{v:Option (Option V)}{s:Sv}(h:SvOk K Hh H v s)(g:Same Hh Hh')(k:∀l o,s.own=true->v=some (some (.ref l))->H l=some o->H' l=some o):SvOk K Hh' H' v s:=by
 cases s with
 | un=>trivial
 | vl d=>obtain⟨x,e,r⟩:=h;exact⟨x,e,r.same g⟩
 | ow ds=>obtain⟨l,vs,e,a,r⟩:=h;exact⟨l,vs,e,k _ _ rfl e a,r.same g⟩
 | tp n=>obtain⟨t,c,ns,sp,lf,e,a,b,r⟩:=h;exact⟨t,c,ns,sp,lf,e,k _ _ rfl e a,g.seq b,r⟩
 | dk kvs=>obtain⟨t,ks,e,a,b,r⟩:=h;exact⟨t,ks,e,k _ _ rfl e a,b,r.same g⟩
 | dt kvs=>obtain⟨t,ks,e,a,b,r⟩:=h;exact⟨t,ks,e,k _ _ rfl e a,b,r.same g⟩
 | ex C fs=>obtain⟨t,od,e,a,b⟩:=h;exact⟨t,od,e,g _ _ a,b.same g⟩
 | sc ns=>obtain⟨c,e,a⟩:=h;exact⟨c,e,g.seq a⟩
 | px d C fs=>obtain⟨p,x,e,od,a,b,c,d',e'⟩:=h;exact⟨p,x,e,od,a,g _ _ b,c.same g,g _ _ d',e'.same g⟩
 | xl es=>obtain⟨p,vs,a,b,c⟩:=h;exact⟨p,vs,a,g _ _ b,c.same g⟩
 | ob C fs=>obtain⟨p,dx,ks,a,b,c,d⟩:=h;exact⟨p,dx,ks,a,g _ _ b,c,d.same g⟩
 | ll xss=>obtain⟨l,bs,vss,e,a,r⟩:=h;exact⟨l,bs,vss,e,k _ _ rfl e a,r.same g⟩
 | ds C n w=>obtain⟨x,dx,d1,d2,k1,k2,e,a,r1,r2,r3,r4⟩:=h;exact⟨x,dx,d1,d2,k1,k2,e,k _ _ rfl e a,r1,r2.same g,r3,r4.same g⟩
theorem SvOk.alive {K:bi}{Hh H:Hp}{v:Option (Option V)}{s:Sv}(h:SvOk K Hh H v s)(ho:s.own=true):∃l o,v=some (some (.ref l))/\H l=some o:=by
 cases s with
 | un=>cases ho
 | vl d=>cases ho
 | ow ds=>obtain⟨l,vs,e,a,r⟩:=h;exact⟨l,_,e,a⟩
 | tp n=>obtain⟨t,c,ns,sp,lf,e,a,b,r⟩:=h;exact⟨t,_,e,a⟩
 | dk kvs=>obtain⟨t,ks,e,a,b,r⟩:=h;exact⟨t,_,e,a⟩
 | dt kvs=>obtain⟨t,ks,e,a,b,r⟩:=h;exact⟨t,_,e,a⟩
 | ex C fs=>cases ho
 | sc ns=>cases ho
 | px d C fs=>cases ho
 | xl es=>cases ho
 | ob C fs=>cases ho
 | ll xss=>obtain⟨l,bs,vss,e,a,r⟩:=h;exact⟨l,_,e,a⟩
 | ds C n w=>obtain⟨x,dx,d1,d2,k1,k2,e,a,r⟩:=h;exact⟨x,_,e,a⟩
def Nt (H:Hp)(a:Addr):Prop:=H a≠none/\∀xs,H a≠some (.tup xs)
theorem xY {H:Hp}{a l:Addr}{o:HO}(al:a≠l)(h:Nt H a):Nt (upd H l o) a:=by unfold Nt;rw[aQ al];exact h
structure Rel (K:bi)(F:Fr)(σ:St)(ρ:En)(H:Hp):Prop where
 len:σ.length=ρ.length
 fr:∀a o,F.H0 a=some o->¬F.M a->H a=some o
 zl:∀a,F.Z a->Nt H a
 zo:∀a,bO σ ρ a->¬F.Z a
 ow:∀i a,(gt ρ i).own=true->σ[i]? = some (some (.ref a))->(F.I i a/\F.M a)∨F.H0 a=none
 mi:∀i a,F.pin i a->σ[i]? = some (some (.ref a))
 ml:∀a,F.M a->F.H0 a≠none
 ma:∀a,F.M a->H a≠none
 nd:∀i j a,(gt ρ i).own=true->(gt ρ j).own=true->σ[i]? = some (some (.ref a))->σ[j]? = some (some (.ref a))->i=j
 sl:∀i,SvOk K (hid H (hs F σ ρ)) H σ[i]? (gt ρ i)
structure Kp (σ:St)(ρ ρ':En)(H H':Hp):Prop where
 st:∀a o,H a=some o->¬bO σ ρ a->H' a=some o
 sb:∀i,(gt ρ' i).own=true->(gt ρ i).own=true
theorem Kp.so {σ:St}{ρ ρ':En}{H H':Hp}(k:Kp σ ρ ρ' H H'){a:Addr}(h:bO σ ρ' a):bO σ ρ a:=by
 obtain⟨i,hi,e⟩:=h
 exact⟨i,k.sb i hi,e⟩
theorem Kp.refl {σ:St}{ρ:En}{H:Hp}:Kp σ ρ ρ H H:=⟨λ_ _ e _=>e,λ_ h=>h⟩
theorem Kp.trans {σ:St}{ρ ρ1 ρ2:En}{H H1 H2:Hp}(a:Kp σ ρ ρ1 H H1)(b:Kp σ ρ1 ρ2 H1 H2):Kp σ ρ ρ2 H H2 :=
 ⟨λx o e n=>b.st x o (a.st x o e n) λz=>n (a.so z),λx z=>a.sb x (b.sb x z)⟩
theorem Kp.fresh {σ:St}{ρ:En}{H:Hp}{l:Addr}{o:HO}(h:H l=none):Kp σ ρ ρ H (upd H l o) :=
 ⟨λa u e _=>by rw[aQ (bb e h)];exact e,λ_ h=>h⟩
section
variable {K:bi}{F:Fr}{σ:St}{ρ ρ':En}{H H':Hp}
theorem fF (r:Rel K F σ ρ H){a:Addr}(h:bO σ ρ a):H a≠none:=by
 obtain⟨i,hi,e⟩:=h
 obtain⟨l,o,e',h'⟩:=(r.sl i).alive hi
 rw[e]at e';injection e' with e';injection e' with e';injection e' with e'
 rw[e',h'];exact λz=>nomatch z
theorem rN (r:Rel K F σ ρ H){a:Addr}(h:hs F σ ρ a):H a≠none:=by
 rcases h with h | h
 ·exact(r.zl a h).1
 ·exact fF r h
theorem SvOk.nt {K:bi}{Hh H:Hp}{v:Option (Option V)}{s:Sv}(h:SvOk K Hh H v s)(ho:s.own=true):∃l,v=some (some (.ref l))/\Nt H l:=by
 cases s with
 | un=>cases ho
 | vl d=>cases ho
 | ow ds=>obtain⟨l,vs,e,a,r⟩:=h;exact⟨l,e,by rw[a];exact(λz=>nomatch z),by rw[a];exact λ_ z=>nomatch z⟩
 | tp n=>obtain⟨l,c,ns,sp,lf,e,a,b,r⟩:=h;exact⟨l,e,by rw[a];exact(λz=>nomatch z),by rw[a];exact λ_ z=>nomatch z⟩
 | dk kvs=>obtain⟨l,ks,e,a,b,r⟩:=h;exact⟨l,e,by rw[a];exact(λz=>nomatch z),by rw[a];exact λ_ z=>nomatch z⟩
 | dt kvs=>obtain⟨l,ks,e,a,b,r⟩:=h;exact⟨l,e,by rw[a];exact(λz=>nomatch z),by rw[a];exact λ_ z=>nomatch z⟩
 | ex C fs=>cases ho
 | sc ns=>cases ho
 | px d C fs=>cases ho
 | xl es=>cases ho
 | ob C fs=>cases ho
 | ll xss=>obtain⟨l,bs,vss,e,a,r⟩:=h;exact⟨l,e,by rw[a];exact(λz=>nomatch z),by rw[a];exact λ_ z=>nomatch z⟩
 | ds C n w=>obtain⟨l,dx,d1,d2,k1,k2,e,a,r⟩:=h;exact⟨l,e,by rw[a];exact(λz=>nomatch z),by rw[a];exact λ_ z=>nomatch z⟩
theorem rD (r:Rel K F σ ρ H){a:Addr}(h:bO σ ρ a):Nt H a:=by
 obtain⟨i,hi,e⟩:=h
 obtain⟨l,e',h'⟩:=(r.sl i).nt hi
 rw[e]at e';injection e' with e';injection e' with e';injection e' with e'
 rw[e'];exact h'
theorem sV (r:Rel K F σ ρ H){a:Addr}(h:hs F σ ρ a):Nt H a:=by
 rcases h with h | h
 ·exact r.zl a h
 ·exact rD r h
theorem iQ (r:Rel K F σ ρ H){l:Addr}(h:H l=none):¬hs F σ ρ l:=λz=>rN r z h
theorem xi (r:Rel K F σ ρ H){l:Addr}(h:H l=none):F.H0 l=none:=by
 cases h0:F.H0 l with
 | none=>rfl
 | some o =>
  by_cases q:F.M l
  ·exact absurd h (r.ma l q)
  ·have:=r.fr l o h0 q
   rw[h]at this;cases this
theorem Kp.vis (k:Kp σ ρ ρ' H H'):Same (hid H (hs F σ ρ)) (hid H' (hs F σ ρ')):=br λa o e n =>
 ⟨k.st a o e λz=>n (.inr z),λz=>by
  rcases z with z | z
  ·exact n (.inl z)
  ·exact n (.inr (k.so z))⟩
theorem sW {a:Addr}(g:Same H H')(h:H a≠none):H' a≠none:=λe=>by
 cases h':H a with
 | none=>exact h h'
 | some o=>rw[g a o h']at e;cases e
theorem zh {a:Addr}(g:Same H H')(h:Nt H a):Nt H' a:=by
 cases h':H a with
 | none=>exact(h.1 h').elim
 | some o =>
  have e:=g a o h'
  unfold Nt
  rw[e,<- h'];exact h
theorem Rel.grow (r:Rel K F σ ρ H)(g:Same H H'):Rel K F σ ρ H' where
 len:=r.len
 fr:=λa o e n=>g a o (r.fr a o e n)
 zl:=λa z=>zh g (r.zl a z)
 zo:=r.zo
 ow:=r.ow
 mi:=r.mi
 ml:=r.ml
 ma:=λa z=>sW g (r.ma a z)
 nd:=r.nd
 sl:=λi=>(r.sl i).keep (br λa o e n=>⟨g a o e,n⟩) λl o _ _ e=>g l o e
theorem Rel.fresh (r:Rel K F σ ρ H){l:Addr}{o:HO}(h:H l=none):Rel K F σ ρ (upd H l o):=r.grow ((Same.refl H).new h)
theorem uw:∀(ρ:En) (i:Nat) (s:Sv),ρ.length<=i->pt ρ i s=ρ
 | [],_,_,_=>rfl
 | x::r,0,s,h=>by simp at h
 | x::r,i+1,s,h=>by simp[pt,uw r i s (by simpa using h)]
theorem gq {i j:Nat}{s:Sv}(hs:s.own=false)(hj:(gt (pt ρ i s) j).own=true):i≠j/\(gt ρ j).own=true:=by
 by_cases ij:i=j
 ·subst ij
  rcases B7 i ρ.length with q | q
  ·rw[mV ρ i s q,hs]at hj;cases hj
  ·rw[lT _ i (by rw[hV];exact q)]at hj;cases hj
 ·rw[ck ρ i j s ij]at hj
  exact⟨ij,hj⟩
theorem Rel.setS (r:Rel K F σ ρ H){i:Nat}{v:V}{s:Sv}(hs':s.own=false)(hd:SvOk K (hid H (hs F σ ρ)) H (some (some v)) s)(hm:∀a,¬F.pin i a):Rel K F (σ.set i (some v)) (pt ρ i s) H:=by
 rcases B7 i ρ.length with hi | hi
 case inr =>
  rw[uw ρ i s hi,HN (by rw[r.len];exact hi)];exact r
 have sub:∀a,bO (σ.set i (some v)) (pt ρ i s) a->bO σ ρ a:=λa ⟨j,hj,e⟩=>by
  obtain⟨ij,hj⟩:=gq hs' hj
  rw[Ce ij]at e
  exact⟨j,hj,e⟩
 have vis:Same (hid H (hs F σ ρ)) (hid H (hs F (σ.set i (some v)) (pt ρ i s))):=br λa o e n=>⟨e,λz=>n (z.imp id (sub a))⟩
 refine⟨by rw[G9,hV,r.len],r.fr,r.zl,λa h=>r.zo a (sub a h),λj a hj e=>?_,λj a h=>?_,r.ml,r.ma,λj k a hj hk ej ek=>?_,λj=>?_⟩
 ·obtain⟨ij,hj⟩:=gq hs' hj
  rw[Ce ij]at e
  exact r.ow j a hj e
 ·have:i≠j:=λe=>hm a (e▸h)
  rw[Ce this];exact r.mi j a h
 ·obtain⟨nj,hj⟩:=gq hs' hj
  obtain⟨nk,hk⟩:=gq hs' hk
  rw[Ce nj]at ej
  rw[Ce nk]at ek
  exact r.nd j k a hj hk ej ek
 ·by_cases ij:i=j
  ·subst ij
   rw[mV ρ i _ hi,Ed (by rw[r.len];exact hi)]
   exact hd.keep vis λl o ho=>by rw[hs']at ho;cases ho
  ·rw[ck ρ i j _ ij,Ce ij]
   exact(r.sl j).keep vis λl o _ _ e=>e
theorem Rel.set (r:Rel K F σ ρ H){i:Nat}{v:V}{d:D}(hd:RepD K (hid H (hs F σ ρ)) v d)(hm:∀a,¬F.pin i a):Rel K F (σ.set i (some v)) (pt ρ i (.vl d)) H :=
 r.setS rfl ⟨v,rfl,hd⟩ hm
theorem Rel.setF (r:Rel K F σ ρ H){i:Nat}{l:Addr}{o:HO}{s:Sv}(hs':s.own=true)(hd:SvOk K (hid H (hs F σ ρ)) (upd H l o) (some (some (.ref l))) s)(hn:H l=none)(hm:∀a,¬F.pin i a) :
  Rel K F (σ.set i (some (.ref l))) (pt ρ i s) (upd H l o):=by
 have rf:=r.fresh (o:=o) hn
 rcases B7 i ρ.length with hi | hi
 case inr =>
  rw[uw ρ i s hi,HN (by rw[r.len];exact hi)];exact rf
 have at1:∀ {a},(σ.set i (some (V.ref l)))[i]? = some (some (.ref a))->a=l:=λe=>by
  rw[Ed (by rw[r.len];exact hi)]at e
  injection e with e;injection e with e;injection e with e
  exact e.symm
 have sub:∀a,bO (σ.set i (some (.ref l))) (pt ρ i s) a->bO σ ρ a∨a=l:=λa h=>by
  obtain⟨j,hj,e⟩:=h
  by_cases ij:i=j
  ·subst ij;exact .inr (at1 e)
  ·rw[ck ρ i j _ ij]at hj
   rw[Ce ij]at e
   exact .inl ⟨j,hj,e⟩
 have vis:Same (hid H (hs F σ ρ)) (hid (upd H l o) (hs F (σ.set i (some (.ref l))) (pt ρ i s))):=br λa u e n=>by
  have al:=bb e hn
  refine⟨by rw[aQ al];exact e,λz=>?_⟩
  rcases z with z | z
  ·exact n (.inl z)
  ·rcases sub a z with z | z
   ·exact n (.inr z)
   ·exact al z
 have nol:∀j,(gt ρ j).own=true->σ[j]? ≠ some (some (.ref l)):=λj hj e=>fF r ⟨j,hj,e⟩ hn
 refine⟨by rw[G9,hV,r.len],rf.fr,rf.zl,λa h=>?_,λj a hj e=>?_,λj a h=>?_,r.ml,rf.ma,λj k a hj hk ej ek=>?_,λj=>?_⟩
 ·rcases sub a h with h | h
  ·exact r.zo a h
  ·subst h;exact λz=>(r.zl _ z).1 hn
 ·by_cases ij:i=j
  ·subst ij
   rw[at1 e];exact .inr (xi r hn)
  ·rw[ck ρ i j _ ij]at hj
   rw[Ce ij]at e
   exact r.ow j a hj e
 ·have:i≠j:=λe=>hm a (e▸h)
  rw[Ce this];exact r.mi j a h
 ·by_cases nj:i=j
  ·by_cases nk:i=k
   ·omega
   ·subst nj
    have:=at1 ej
    subst this
    rw[ck ρ i k _ nk]at hk
    rw[Ce nk]at ek
    exact absurd ek (nol k hk)
  ·rw[ck ρ i j _ nj]at hj
   rw[Ce nj]at ej
   by_cases nk:i=k
   ·subst nk
    have:=at1 ek
    subst this
    exact absurd ej (nol j hj)
   ·rw[ck ρ i k _ nk]at hk
    rw[Ce nk]at ek
    exact r.nd j k a hj hk ej ek
 ·by_cases ij:i=j
  ·subst ij
   rw[mV ρ i _ hi,Ed (by rw[r.len];exact hi)]
   exact hd.keep vis λ_ _ _ _ e=>e
  ·rw[ck ρ i j _ ij,Ce ij]
   exact(r.sl j).keep vis λa o ho e h=>by
    rw[aQ (bb h hn)];exact h
theorem Rel.write (r:Rel K F σ ρ H){i:Nat}{l:Addr}{o:HO}{s:Sv}(hi:(gt ρ i).own=true)(el:σ[i]? = some (some (.ref l)))(hs':s.own=true)(new:SvOk K (hid H (hs F σ ρ)) (upd H l o) (some (some (.ref l))) s):Rel K F σ (pt ρ i s) (upd H l o)/\Kp σ ρ (pt ρ i s) H (upd H l o):=by
 have lt:=kh hi
 have own':∀j,(gt (pt ρ i s) j).own=true->(gt ρ j).own=true:=λj h=>by
  by_cases ij:i=j
  ·subst ij;exact hi
  ·rw[ck ρ i j _ ij]at h;exact h
 have sub:∀a,bO σ (pt ρ i s) a->bO σ ρ a:=λa ⟨j,hj,e⟩=>⟨j,own' j hj,e⟩
 have hso:bO σ ρ l:=⟨i,hi,el⟩
 have vis:Same (hid H (hs F σ ρ)) (hid (upd H l o) (hs F σ (pt ρ i s))):=br λa u e n=>by
  have al:a≠l:=λz=>n (.inr (z▸hso))
  exact⟨by rw[aQ al];exact e,λz=>n (z.imp id (sub a))⟩
 have up:∀ {a},H a≠none->(upd H l o) a≠none:=λ{a} h e=>by
  by_cases al:a=l
  ·subst al;rw[aR]at e;cases e
  ·rw[aQ al]at e;exact h e
 refine⟨⟨by rw[hV,r.len],λa u e n=>?_,λa z=>xY (λq=>r.zo l hso (q▸z)) (r.zl a z),λa h=>r.zo a (sub a h),λj a hj e=>r.ow j a (own' j hj) e,r.mi,r.ml,λa z=>up (r.ma a z),λj k a hj hk ej ek=>r.nd j k a (own' j hj) (own' k hk) ej ek,λj=>?_⟩,⟨λa u e n=>?_,own'⟩⟩
 ·have al:a≠l:=λz=>by
   subst z
   rcases r.ow i _ hi el with⟨_,q⟩ | q
   ·exact n q
   ·rw[e]at q;cases q
  rw[aQ al];exact r.fr a u e n
 ·by_cases ij:i=j
  ·subst ij
   rw[mV ρ i s lt,el]
   exact new.keep vis λ_ _ _ _ e=>e
  ·rw[ck ρ i j _ ij]
   refine(r.sl j).keep vis λa u ho e h=>?_
   have al:a≠l:=λz=>ij (r.nd i j l hi ho el (z▸e))
   rw[aQ al];exact h
 ·have al:a≠l:=λz=>n (z▸hso)
  rw[aQ al];exact e
theorem Rel.frz (r:Rel K F σ ρ H){i:Nat}{ds:List D}(hi:gt ρ i = .ow ds):∃l,σ[i]? = some (some (.ref l))/\Rel K F σ (pt ρ i (.vl (.lst ds))) H/\Kp σ ρ (pt ρ i (.vl (.lst ds))) H H/\RepD K (hid H (hs F σ (pt ρ i (.vl (.lst ds))))) (.ref l) (.lst ds):=by
 have ho:(gt ρ i).own=true:=by rw[hi];rfl
 have lt:=kh ho
 have q:=r.sl i
 rw[hi]at q
 obtain⟨l,vs,el,hl,hd⟩:=q
 have own':∀j,(gt (pt ρ i (.vl (.lst ds))) j).own=true->i≠j/\(gt ρ j).own=true:=λj h=>gq rfl h
 have sub:∀a,bO σ (pt ρ i (.vl (.lst ds))) a->bO σ ρ a/\a≠l:=λa ⟨j,hj,e⟩=>by
  obtain⟨ij,hj⟩:=own' j hj
  exact⟨⟨j,hj,e⟩,λz=>ij (r.nd i j l ho hj el (z▸e))⟩
 have vis:Same (hid H (hs F σ ρ)) (hid H (hs F σ (pt ρ i (.vl (.lst ds))))):=br λa u e n=>⟨e,λz=>n (z.imp id λz=>(sub a z).1)⟩
 have vl:¬hs F σ (pt ρ i (.vl (.lst ds))) l:=λz=>by
  rcases z with z | z
  ·exact r.zo l ⟨i,ho,el⟩ z
  ·exact(sub l z).2 rfl
 have rd:RepD K (hid H (hs F σ (pt ρ i (.vl (.lst ds))))) (.ref l) (.lst ds):=by
  unfold RepD
  exact⟨l,vs,rfl,gB vl hl,hd.same vis⟩
 refine⟨l,el,⟨by rw[hV,r.len],r.fr,r.zl,λa h=>r.zo a (sub a h).1,λj a hj e=>r.ow j a (own' j hj).2 e,r.mi,r.ml,r.ma,λj k a hj hk ej ek=>r.nd j k a (own' j hj).2 (own' k hk).2 ej ek,λj=>?_⟩,⟨λ_ _ e _=>e,λj h=>(own' j h).2⟩,rd⟩
 by_cases ij:i=j
 ·subst ij
  rw[mV ρ i _ lt,el]
  exact⟨_,rfl,rd⟩
 ·rw[ck ρ i j _ ij]
  exact(r.sl j).keep vis λa u _ _ h=>h
end
def RelR (K:bi)(F:Fr)(σ:St)(ρ:En)(v:V)(H:Hp):R->Prop
 | .d d=>Rel K F σ ρ H/\RepD K (hid H (hs F σ ρ)) v d
 | .o i=>Rel K F σ ρ H/\σ[i]? = some (some v)
 | .n s=>∃Hb l o,Rel K F σ ρ Hb/\s.own=true/\SvOk K (hid Hb (hs F σ ρ)) (upd Hb l o) (some (some (.ref l))) s/\Hb l=none/\H=upd Hb l o/\v = .ref l
 | .t n=>Rel K F σ ρ H/\v = .ty n
 | .x s=>Rel K F σ ρ H/\s.own=false/\SvOk K (hid H (hs F σ ρ)) H (some (some v)) s
def Out (K:bi)(F:Fr)(σ:St)(ρ:En)(H:Hp)(ρ':En)(v:V)(H':Hp):R->Prop
 | .d d=>Rel K F σ ρ' H'/\Kp σ ρ ρ' H H'/\RepD K (hid H' (hs F σ ρ')) v d
 | .o i=>Rel K F σ ρ' H'/\Kp σ ρ ρ' H H'/\σ[i]? = some (some v)
 | .n s=>∃Hb l o,Rel K F σ ρ' Hb/\Kp σ ρ ρ' H Hb/\s.own=true/\SvOk K (hid Hb (hs F σ ρ')) (upd Hb l o) (some (some (.ref l))) s/\Hb l=none/\H'=upd Hb l o/\v = .ref l
 | .t n=>Rel K F σ ρ' H'/\Kp σ ρ ρ' H H'/\v = .ty n
 | .x s=>Rel K F σ ρ' H'/\Kp σ ρ ρ' H H'/\s.own=false/\SvOk K (hid H' (hs F σ ρ')) H' (some (some v)) s
def InF (K:bi)(F:Fr)(σ:St)(ρ:En)(H:Hp)(v:V):R->Prop
 | .d d=>RepD K (hid H (hs F σ ρ)) v d
 | .o i=>σ[i]? = some (some v)
 | .n _=>True
 | .t n=>v = .ty n
 | .x s=>s.own=false/\SvOk K (hid H (hs F σ ρ)) H (some (some v)) s
def R.frz:R->R
 | .n (.ow ds)=>.d (.lst ds)
 | r=>r
inductive InFs (K:bi) (F:Fr) (σ:St) (ρ:En) (H:Hp):List V->List R->Prop
 | nil:InFs K F σ ρ H [] []
 | cons {v:V} {r:R} {vs:List V} {rs:List R}:InF K F σ ρ H v r->InFs K F σ ρ H vs rs->InFs K F σ ρ H (v::vs) (r::rs)
def view (ρ:En):R->Option D
 | .d d=>some d
 | .o i=>(match gt ρ i with | .ow ds=>some (.lst ds) | .vl d=>some d | _=>none)
 | _=>none
section
variable {K:bi}{F:Fr}{σ:St}{ρ ρ':En}{H H':Hp}{v:V}{r:R}
theorem InF.keep (h:InF K F σ ρ H v r)(k:Kp σ ρ ρ' H H'):InF K F σ ρ' H' v r:=by
 cases r with
 | d d=>exact RepD.same h k.vis
 | o i=>exact h
 | n s=>exact h
 | t n=>exact h
 | x s=>exact⟨h.1,h.2.keep k.vis λl o ho=>by rw[h.1]at ho;cases ho⟩
theorem InFs.keep {vs:List V}{rs:List R}(h:InFs K F σ ρ H vs rs)(k:Kp σ ρ ρ' H H'):InFs K F σ ρ' H' vs rs:=by
 induction h with
 | nil=>exact .nil
 | cons a _ ih=>exact .cons (a.keep k) ih
theorem Out.inF (h:Out K F σ ρ H ρ' v H' r):Rel K F σ ρ' H'/\Kp σ ρ ρ' H H'/\InF K F σ ρ' H' v r.frz:=by
 cases r with
 | d d=>exact⟨h.1,h.2.1,h.2.2⟩
 | o i=>exact⟨h.1,h.2.1,h.2.2⟩
 | t n=>exact⟨h.1,h.2.1,h.2.2⟩
 | x s=>exact⟨h.1,h.2.1,h.2.2⟩
 | n s =>
  obtain⟨Hb,l,o,a,k0,hs',b,c,rfl,rfl⟩:=h
  have k:Kp σ ρ' ρ' Hb (upd Hb l o):=Kp.fresh c
  refine⟨a.fresh c,k0.trans k,?_⟩
  cases s with
  | un=>trivial
  | vl d=>trivial
  | tp n=>trivial
  | dk n=>trivial
  | dt n=>trivial
  | ex n m=>trivial
  | sc n=>trivial
  | px n m k=>trivial
  | xl es=>trivial
  | ob _ _=>trivial
  | ll _=>trivial
  | ds _ _ _=>trivial
  | ow ds =>
   obtain⟨l',vs,e,h1,h2⟩:=b
   injection e with e;injection e with e;injection e with e;subst e
   show RepD K _ (.ref l) (.lst ds)
   unfold RepD
   exact⟨l,vs,rfl,gB (iQ a c) h1,h2.same k.vis⟩
theorem Out.rel (h:Out K F σ ρ H ρ' v H' r):RelR K F σ ρ' v H' r:=by
 cases r with
 | d d=>exact⟨h.1,h.2.2⟩
 | o i=>exact⟨h.1,h.2.2⟩
 | t n=>exact⟨h.1,h.2.2⟩
 | x s=>exact⟨h.1,h.2.2⟩
 | n s =>
  obtain⟨Hb,l,o,a,k0,hs',b,c,e1,e2⟩:=h
  exact⟨Hb,l,o,a,hs',b,c,e1,e2⟩
theorem Out.after {ρ1:En}{H1:Hp}(k:Kp σ ρ ρ1 H H1)(h:Out K F σ ρ1 H1 ρ' v H' r):Out K F σ ρ H ρ' v H' r:=by
 cases r with
 | d d=>exact⟨h.1,k.trans h.2.1,h.2.2⟩
 | o i=>exact⟨h.1,k.trans h.2.1,h.2.2⟩
 | t n=>exact⟨h.1,k.trans h.2.1,h.2.2⟩
 | x s=>exact⟨h.1,k.trans h.2.1,h.2.2⟩
 | n s =>
  obtain⟨Hb,l,o,a,k0,hs',b,c,e1,e2⟩:=h
  exact⟨Hb,l,o,a,k.trans k0,hs',b,c,e1,e2⟩
theorem dW {d:D}(a:Rel K F σ ρ H)(h:InF K F σ ρ H v r)(e:view ρ r=some d):RepD K H v d:=by
 cases r with
 | d d'=>injection e with e;subst e;exact RepD.same h cg
 | t n=>cases e
 | x s=>cases e
 | n s=>cases e
 | o i =>
  have q:=a.sl i
  unfold view at e
  cases hg:gt ρ i with
  | un=>simp[hg]at e
  | tp n=>simp[hg]at e
  | dk n=>simp[hg]at e
  | dt n=>simp[hg]at e
  | ex n m=>simp[hg]at e
  | sc n=>simp[hg]at e
  | px n m k=>simp[hg]at e
  | xl es=>simp[hg]at e
  | ob _ _=>simp[hg]at e
  | ll _=>simp[hg]at e
  | ds _ _ _=>simp[hg]at e
  | vl d' =>
   simp[hg]at e
   subst e
   rw[hg]at q
   obtain⟨x,e1,r1⟩:=q
   rw[show σ[i]? = _ from h]at e1
   injection e1 with e1;injection e1 with e1;subst e1
   exact r1.same cg
  | ow ds =>
   simp[hg]at e
   subst e
   rw[hg]at q
   obtain⟨l,vs,e1,r1,r2⟩:=q
   rw[show σ[i]? = _ from h]at e1
   injection e1 with e1;injection e1 with e1;subst e1
   unfold RepD
   exact⟨l,vs,rfl,r1,r2.same cg⟩
theorem cG {ds:List D}(a:Rel K F σ ρ H)(h:InF K F σ ρ H v r)(e:view ρ r=some (.lst ds)):∃l vs,v = .ref l/\SqL K H l vs/\RepDs K (hid H (hs F σ ρ)) vs ds:=by
 cases r with
 | d d' =>
  injection e with e;subst e
  have h':RepD K _ v (.lst ds):=h
  unfold RepD at h'
  obtain⟨l,vs,e,q,r⟩:=h'
  exact⟨l,vs,e,cg.seq (StL.sq q),r⟩
 | t n=>cases e
 | x s=>cases e
 | n s=>cases e
 | o i =>
  have q:=a.sl i
  unfold view at e
  cases hg:gt ρ i with
  | un=>simp[hg]at e
  | tp n=>simp[hg]at e
  | dk n=>simp[hg]at e
  | dt n=>simp[hg]at e
  | ex n m=>simp[hg]at e
  | sc n=>simp[hg]at e
  | px n m k=>simp[hg]at e
  | xl es=>simp[hg]at e
  | ob _ _=>simp[hg]at e
  | ll _=>simp[hg]at e
  | ds _ _ _=>simp[hg]at e
  | vl d' =>
   simp[hg]at e
   subst e
   rw[hg]at q
   obtain⟨x,e1,r1⟩:=q
   rw[show σ[i]? = _ from h]at e1
   injection e1 with e1;injection e1 with e1;subst e1
   unfold RepD at r1
   obtain⟨l,vs,e,q,r⟩:=r1
   exact⟨l,vs,e,cg.seq (StL.sq q),r⟩
  | ow ds =>
   simp[hg]at e
   subst e
   rw[hg]at q
   obtain⟨l,vs,e1,r1,r2⟩:=q
   rw[show σ[i]? = _ from h]at e1
   injection e1 with e1;injection e1 with e1;subst e1
   exact⟨l,vs,rfl,SqL.of r1,r2⟩
theorem il {ds:List D}(a:Rel K F σ ρ H)(h:InF K F σ ρ H v r)(e:view ρ r=some (.tup ds)):∃l vs,v = .ref l/\SqT K H l vs/\RepDs K (hid H (hs F σ ρ)) vs ds/\StT (hid H (hs F σ ρ)) l vs:=by
 have go:∀ {x:V},RepD K (hid H (hs F σ ρ)) x (.tup ds)->∃l vs,x = .ref l/\SqT K H l vs/\RepDs K (hid H (hs F σ ρ)) vs ds/\StT (hid H (hs F σ ρ)) l vs:=λh'=>by
  unfold RepD at h'
  obtain⟨l,vs,e,q,r⟩:=h'
  exact⟨l,vs,e,cg.seqT q.sq,r,q⟩
 cases r with
 | d d'=>injection e with e;subst e;exact go h
 | t n=>cases e
 | x s=>cases e
 | n s=>cases e
 | o i =>
  have q:=a.sl i
  unfold view at e
  cases hg:gt ρ i with
  | un=>simp[hg]at e
  | tp n=>simp[hg]at e
  | dk n=>simp[hg]at e
  | dt n=>simp[hg]at e
  | ex n m=>simp[hg]at e
  | sc n=>simp[hg]at e
  | px n m k=>simp[hg]at e
  | xl es=>simp[hg]at e
  | ob _ _=>simp[hg]at e
  | ll _=>simp[hg]at e
  | ds _ _ _=>simp[hg]at e
  | ow ds'=>simp[hg]at e
  | vl d' =>
   simp[hg]at e
   subst e
   rw[hg]at q
   obtain⟨x,e1,r1⟩:=q
   rw[show σ[i]? = _ from h]at e1
   injection e1 with e1;injection e1 with e1;subst e1
   exact go r1
end
abbrev Ko:=R->En->Prop
abbrev AE:=En->Ko->Prop
abbrev AT:=En->(Bool->En->Prop)->Prop
abbrev AA:=En->(List R->En->Prop)->Prop
structure pb where
 nx:En->Prop
 rt:R->En->Prop
 bk:En->Prop
 ct:En->Prop
abbrev AS:=pb->En->Prop
def Beh (K:bi)(F:Fr)(σ:St)(ρ:En)(H:Hp)(q:Ko)(Q:VK):Prop:=∀r ρ' v H',q r ρ'->Out K F σ ρ H ρ' v H' r->Q v H'
def TEok (K:bi)(t:TE)(a:AE):Prop:=∀F σ ρ H q Q,Rel K F σ ρ H->a ρ q->Beh K F σ ρ H q Q->t σ H Q
def TTok (K:bi)(t:TT)(a:AT):Prop:=∀F σ ρ H q Q,Rel K F σ ρ H->a ρ q->(∀b ρ' H',q b ρ'->Rel K F σ ρ' H'->Kp σ ρ ρ' H H'->Q b H')->t σ H Q
def TAok (K:bi)(t:TA)(a:AA):Prop:=∀F σ ρ H q Q,Rel K F σ ρ H->a ρ q->(∀rs ρ' vs H',q rs ρ'->Rel K F σ ρ' H'->InFs K F σ ρ' H' vs rs->Kp σ ρ ρ' H H'->Q vs H')->t σ H Q
def OpOk (K:bi)(r:R2)(g:R->R->AE):Prop:=∀F σ ρ H x y r1 r2 q Q,Rel K F σ ρ H->InF K F σ ρ H x r1->InF K F σ ρ H y r2->g r1 r2 ρ q->Beh K F σ ρ H q Q->r x y H Q
def CbOk (K:bi)(r:List V->Hp->VK->Prop)(g:List R->AE):Prop:=∀F σ ρ H vs rs q Q,Rel K F σ ρ H->InFs K F σ ρ H vs rs->g rs ρ q->Beh K F σ ρ H q Q->r vs H Q
section
variable {K:bi}{F:Fr}{σ:St}{ρ ρ':En}{H H':Hp}{v:V}{r:R}{q:Ko}{Q:VK}
theorem Beh.dat (b:Beh K F σ ρ H q Q)(a:Rel K F σ ρ H){d:D}(hq:q (.d d) ρ)(h:RepD K (hid H (hs F σ ρ)) v d):Q v H:=b (.d d) ρ v H hq ⟨a,.refl,h⟩
theorem Beh.int (b:Beh K F σ ρ H q Q)(a:Rel K F σ ρ H){i:Int}(hq:q (.d (.int i)) ρ):Q (.int i) H:=b.dat a hq (by unfold RepD;rfl)
theorem Beh.bl (b:Beh K F σ ρ H q Q)(a:Rel K F σ ρ H){i:Bool}(hq:q (.d (.bl i)) ρ):Q (.bl i) H:=b.dat a hq (by unfold RepD;rfl)
theorem Beh.non (b:Beh K F σ ρ H q Q)(a:Rel K F σ ρ H)(hq:q (.d .non) ρ):Q .non H:=b.dat a hq (by unfold RepD;rfl)
theorem Beh.str (b:Beh K F σ ρ H q Q)(a:Rel K F σ ρ H){x:Str}(hq:q (.d (.str x)) ρ):Q (.str x) H:=b.dat a hq (by unfold RepD;rfl)
theorem Beh.new (b:Beh K F σ ρ H q Q)(a:Rel K F σ ρ H){ds:List D}{vs:List V}{l:Addr}(hq:q (.f ds) ρ)(hd:RepDs K (hid H (hs F σ ρ)) vs ds)(hl:H l=none):Q (.ref l) (upd H l (.lst vs)) :=
 b (.f ds) ρ _ _ hq ⟨H,l,_,a,.refl,rfl,⟨l,vs,rfl,aR,hd⟩,hl,rfl,rfl⟩
theorem Beh.newT (b:Beh K F σ ρ H q Q)(a:Rel K F σ ρ H){ds:List D}{vs:List V}{l:Addr}(hq:q (.d (.tup ds)) ρ)(hd:RepDs K (hid H (hs F σ ρ)) vs ds)(hl:H l=none):Q (.ref l) (upd H l (.tup vs)):=by
 have k:Kp σ ρ ρ H (upd H l (.tup vs)):=Kp.fresh hl
 refine b (.d (.tup ds)) ρ _ _ hq ⟨a.fresh hl,k,?_⟩
 unfold RepD
 exact⟨l,vs,rfl,(gB (iQ a hl) aR),hd.same k.vis⟩
theorem Beh.after {ρ1:En}{H1:Hp}(b:Beh K F σ ρ H q Q)(k:Kp σ ρ ρ1 H H1):Beh K F σ ρ1 H1 q Q:=λr ρ' v H' hq h=>b r ρ' v H' hq (.after k h)
def aVar (i:Nat):AE:=λρ q=>match gt ρ i with
 | .un=>False
 | .vl d=>q (.d d) ρ
 | .ow _=>q (.o i) ρ
 | .tp _=>q (.o i) ρ
 | .dk _=>q (.o i) ρ
 | .dt _=>q (.o i) ρ
 | .ex _ _=>q (.o i) ρ
 | .sc _=>q (.o i) ρ
 | .px _ _ _=>q (.o i) ρ
 | .xl _=>q (.o i) ρ
 | .ob _ _=>q (.o i) ρ
 | .ll _=>q (.o i) ρ
 | .ds _ _ _=>q (.o i) ρ
theorem af {i:Nat}:TEok K (tVar i) (aVar i):=by
 intro F σ ρ H q Q a h b
 have s:=a.sl i
 unfold aVar at h
 cases hg:gt ρ i with
 | un=>rw[hg]at h;exact h.elim
 | vl d =>
  rw[hg]at h s
  obtain⟨x,e,r⟩:=s
  exact⟨x,e,b _ _ _ _ h ⟨a,.refl,r⟩⟩
 | ow ds =>
  rw[hg]at h s
  obtain⟨l,vs,e,_⟩:=s
  exact⟨_,e,b _ _ _ _ h ⟨a,.refl,e⟩⟩
 | tp n =>
  rw[hg]at h s
  obtain⟨l,c,ns,sp,lf,e,_⟩:=s
  exact⟨_,e,b _ _ _ _ h ⟨a,.refl,e⟩⟩
 | dk kvs =>
  rw[hg]at h s
  obtain⟨l,ks,e,_⟩:=s
  exact⟨_,e,b _ _ _ _ h ⟨a,.refl,e⟩⟩
 | dt kvs =>
  rw[hg]at h s
  obtain⟨l,ks,e,_⟩:=s
  exact⟨_,e,b _ _ _ _ h ⟨a,.refl,e⟩⟩
 | ex C fs =>
  rw[hg]at h s
  obtain⟨l,ks,e,_⟩:=s
  exact⟨_,e,b _ _ _ _ h ⟨a,.refl,e⟩⟩
 | sc ns =>
  rw[hg]at h s
  obtain⟨l,e,_⟩:=s
  exact⟨_,e,b _ _ _ _ h ⟨a,.refl,e⟩⟩
 | xl es =>
  rw[hg]at h s
  obtain⟨l,ks,e,_⟩:=s
  exact⟨_,e,b _ _ _ _ h ⟨a,.refl,e⟩⟩
 | ob C fs =>
  rw[hg]at h s
  obtain⟨l,_,_,e,_⟩:=s
  exact⟨_,e,b _ _ _ _ h ⟨a,.refl,e⟩⟩
 | ll xss =>
  rw[hg]at h s
  obtain⟨l,_,_,e,_⟩:=s
  exact⟨_,e,b _ _ _ _ h ⟨a,.refl,e⟩⟩
 | ds C n w =>
  rw[hg]at h s
  obtain⟨l,_,_,_,_,_,e,_⟩:=s
  exact⟨_,e,b _ _ _ _ h ⟨a,.refl,e⟩⟩
 | px d C fs =>
  rw[hg]at h s
  obtain⟨l,x,e',od,e,_⟩:=s
  exact⟨_,e,b _ _ _ _ h ⟨a,.refl,e⟩⟩
def aC (r:R):AE:=λρ q=>q r ρ
theorem aI {i:Int}:TEok K (tC (.int i)) (aC (.d (.int i))):=λ_ _ _ _ _ _ a h b=>b.int a h
theorem cc {i:Bool}:TEok K (tC (.bl i)) (aC (.d (.bl i))):=λ_ _ _ _ _ _ a h b=>b.bl a h
theorem mn {i:Str}:TEok K (tC (.str i)) (aC (.d (.str i))):=λ_ _ _ _ _ _ a h b=>b.str a h
theorem tL:TEok K (tC .non) (aC (.d .non)):=λ_ _ _ _ _ _ a h b=>b.non a h
theorem tK {n:String}:TEok K (tC (.ty n)) (aC (.t n)):=λ_ _ _ _ _ _ a h b=>b _ _ _ _ h ⟨a,.refl,rfl⟩
def aOp (g:R->R->AE)(a b:AE):AE:=λρ q=>a ρ λr1 ρ1=>b ρ1 λr2 ρ2=>g r1.frz r2.frz ρ2 q
variable {t t' ta tb tc:TE}{a b c:AE}{rr:R2}{g:R->R->AE}
theorem aG (ho:OpOk K rr g)(ha:TEok K ta a)(hb:TEok K tb b):TEok K (tOp rr ta tb) (aOp g a b):=by
 intro F σ ρ H q Q r h k
 refine ha F σ ρ H _ _ r h λr1 ρ1 x H1 h1 rel1=>?_
 obtain⟨r',k1,i1⟩:=rel1.inF
 refine hb F σ ρ1 H1 _ _ r' h1 λr2 ρ2 y H2 h2 rel2=>?_
 obtain⟨r'',k2,i2⟩:=rel2.inF
 exact ho F σ ρ2 H2 x y _ _ q Q r'' (i1.keep k2) i2 h2 (k.after (k1.trans k2))
def gI (C:Int->Int->Prop)(f:Int->Int->D):R->R->AE:=λr1 r2 ρ q=>match r1,r2 with
 | .d (.int i),.d (.int j)=>C i j/\q (.d (f i j)) ρ
 | _,_=>False
theorem A2 {C:Int->Int->Prop}{f:Int->Int->D}{r1 r2:R}(h:gI C f r1 r2 ρ q):∃i j,r1 = .d (.int i)/\r2 = .d (.int j)/\C i j/\q (.d (f i j)) ρ:=by
 unfold gI at h
 split at h
 ·exact⟨_,_,rfl,rfl,h⟩
 ·exact h.elim
theorem InF.int {i:Int}(h:InF K F σ ρ H v (.d (.int i))):v = .int i:=by
 unfold InF RepD at h;exact h
theorem InF.blv {i:Bool}(h:InF K F σ ρ H v (.d (.bl i))):v = .bl i:=by
 unfold InF RepD at h;exact h
theorem ko {C:Int->Int->Prop}{f:Int->Int->Int}:OpOk K (rI C λi j=>.int (f i j)) (gI C λi j=>.int (f i j)):=by
 intro F σ ρ H x y r1 r2 q Q a h1 h2 h b
 obtain⟨i,j,rfl,rfl,c,h⟩:=A2 h
 exact⟨i,j,h1.int,h2.int,c,b.int a h⟩
def gI0 (f:Int->Int->D):R->R->AE:=λr1 r2 ρ q=>match r1,r2 with
 | .d (.int i),.d (.int j)=>q (.d (f i j)) ρ
 | _,_=>False
theorem vj {f:Int->Int->D}{r1 r2:R}(h:gI0 f r1 r2 ρ q):∃i j,r1 = .d (.int i)/\r2 = .d (.int j)/\q (.d (f i j)) ρ:=by
 unfold gI0 at h
 split at h
 ·exact⟨_,_,rfl,rfl,h⟩
 ·exact h.elim
theorem a9 {f:Int->Int->Int}:OpOk K (rI0 λi j=>.int (f i j)) (gI0 λi j=>.int (f i j)):=by
 intro F σ ρ H x y r1 r2 q Q a h1 h2 h b
 obtain⟨i,j,rfl,rfl,h⟩:=vj h
 exact⟨i,j,h1.int,h2.int,b.int a h⟩
theorem cC {f:Int->Int->Bool}:OpOk K (rI0 λi j=>.bl (f i j)) (gI0 λi j=>.bl (f i j)):=by
 intro F σ ρ H x y r1 r2 q Q a h1 h2 h b
 obtain⟨i,j,rfl,rfl,h⟩:=vj h
 exact⟨i,j,h1.int,h2.int,b.bl a h⟩
@[irreducible] def gEq (neg:Bool):R->R->AE:=λr1 r2 ρ q=>match view ρ r1,view ρ r2 with
 | some d,some e=>d.depth<=60/\q (.d (.bl (if neg then !eqD d e else eqD d e))) ρ
 | _,_=>False
theorem vk {neg:Bool}{r1 r2:R}(h:gEq neg r1 r2 ρ q):∃d e,view ρ r1=some d/\view ρ r2=some e/\d.depth<=60/\q (.d (.bl (if neg then !eqD d e else eqD d e))) ρ:=by
 unfold gEq at h
 split at h
 ·rename_i d e h1 h2;exact⟨d,e,h1,h2,h⟩
 ·exact h.elim
theorem jx:OpOk K (rEqD K) (gEq false):=by
 intro F σ ρ H x y r1 r2 q Q a h1 h2 h b
 obtain⟨d,e,e1,e2,c,h⟩:=vk h
 exact⟨d,e,dW a h1 e1,dW a h2 e2,c,b.bl a h⟩
theorem km:OpOk K (rNeD K) (gEq true):=by
 intro F σ ρ H x y r1 r2 q Q a h1 h2 h b
 obtain⟨d,e,e1,e2,c,h⟩:=vk h
 exact⟨d,e,dW a h1 e1,dW a h2 e2,c,b.bl a h⟩
@[irreducible] def gIx:R->R->AE:=λr1 r2 ρ q=>match view ρ r1,r2 with
 | some (.lst ds),.d (.int i)=>(match atI ds i with | some d=>q (.d d) ρ | none=>False)
 | some (.tup ds),.d (.int i)=>(match atI ds i with | some d=>q (.d d) ρ | none=>False)
 | _,_=>False
theorem vL {Hh:Hp}{vs:List V}{ds:List D}{i:Int}{d:D}(h:RepDs K Hh vs ds)(e:atI ds i=some d):∃v,atI vs i=some v/\RepD K Hh v d:=by
 unfold atI at e ⊢
 rw[h.length]
 cases hx:ixN ds.length i with
 | none=>rw[hx]at e;cases e
 | some j =>
  rw[hx]at e
  exact h.get e
theorem bf:OpOk K (rIx K) gIx:=by
 intro F σ ρ H x y r1 r2 q Q a h1 h2 h b
 unfold gIx at h
 split at h
 ·rename_i ds i e1
  split at h
  ·rename_i d e
   obtain⟨l,vs,rfl,sq,rd⟩:=cG a h1 e1
   obtain⟨v,e2,rv⟩:=vL rd e
   exact .inl ⟨l,vs,i,v,rfl,h2.int,sq,e2,b.dat a h rv⟩
  ·exact h.elim
 ·rename_i ds i e1
  split at h
  ·rename_i d e
   obtain⟨l,vs,rfl,sq,rd,_⟩:=il a h1 e1
   obtain⟨v,e2,rv⟩:=vL rd e
   exact .inr (.inl ⟨l,vs,i,v,rfl,h2.int,sq,e2,b.dat a h rv⟩)
  ·exact h.elim
 ·exact h.elim
def BU (a b:AE):AE:=λρ q=>a ρ λr ρ1=>match r with
 | .d (.bl c)=>if c=true then b ρ1 q else q (.d (.bl false)) ρ1
 | _=>False
def aOrV (a b:AE):AE:=λρ q=>a ρ λr ρ1=>match r with
 | .d (.bl c)=>if c=true then q (.d (.bl true)) ρ1 else b ρ1 q
 | _=>False
def BL (a:AE):AE:=λρ q=>a ρ λr ρ1=>match r with
 | .d (.bl c)=>q (.d (.bl (!c))) ρ1
 | _=>False
theorem cY (ha:TEok K ta a)(hb:TEok K tb b):TEok K (z_ ta tb) (BU a b):=by
 intro F σ ρ H q Q r h k
 refine ha F σ ρ H _ _ r h λr1 ρ1 x H1 h1 rel1=>?_
 split at h1
 ·rename_i c
  obtain⟨r',k1,i1⟩:=rel1.inF
  refine⟨c,i1.blv,?_⟩
  cases c with
  | true=>exact hb F σ ρ1 H1 q Q r' h1 (k.after k1)
  | false=>exact(k.after k1).bl r' h1
 ·exact h1.elim
theorem ym (ha:TEok K ta a)(hb:TEok K tb b):TEok K (tOrV ta tb) (aOrV a b):=by
 intro F σ ρ H q Q r h k
 refine ha F σ ρ H _ _ r h λr1 ρ1 x H1 h1 rel1=>?_
 split at h1
 ·rename_i c
  obtain⟨r',k1,i1⟩:=rel1.inF
  refine⟨c,i1.blv,?_⟩
  cases c with
  | true=>exact(k.after k1).bl r' h1
  | false=>exact hb F σ ρ1 H1 q Q r' h1 (k.after k1)
 ·exact h1.elim
theorem qU (ha:TEok K ta a):TEok K (z7 ta) (BL a):=by
 intro F σ ρ H q Q r h k
 refine ha F σ ρ H _ _ r h λr1 ρ1 x H1 h1 rel1=>?_
 split at h1
 ·rename_i c
  obtain⟨r',k1,i1⟩:=rel1.inF
  exact⟨c,i1.blv,(k.after k1).bl r' h1⟩
 ·exact h1.elim
variable {tt tu:TT}{at' au:AT}
def aB (a:AE):AT:=λρ q=>a ρ λr ρ1=>match r with
 | .d (.bl c)=>q c ρ1
 | _=>False
theorem d_ (ha:TEok K ta a):TTok K (tB ta) (aB a):=by
 intro F σ ρ H q Q r h k
 refine ha F σ ρ H _ _ r h λr1 ρ1 x H1 h1 rel1=>?_
 split at h1
 ·rename_i c
  obtain⟨r',k1,i1⟩:=rel1.inF
  exact⟨c,i1.blv,k _ _ _ h1 r' k1⟩
 ·exact h1.elim
theorem aV (ha:TEok K ta a):TTok K (z5 ta) (aB a):=d_ ha
def aAnd (a b:AT):AT:=λρ q=>a ρ λc ρ1=>if c=true then b ρ1 q else q false ρ1
def aOr (a b:AT):AT:=λρ q=>a ρ λc ρ1=>if c=true then q true ρ1 else b ρ1 q
def aNot (a:AT):AT:=λρ q=>a ρ λc ρ1=>q (!c) ρ1
theorem fw (ha:TTok K tt at')(hb:TTok K tu au):TTok K (tAnd tt tu) (aAnd at' au):=by
 intro F σ ρ H q Q r h k
 refine ha F σ ρ H _ _ r h λc ρ1 H1 h1 r1 k1=>?_
 cases c with
 | true=>exact hb F σ ρ1 H1 q Q r1 h1 λb ρ2 H2 h2 r2 k2=>k _ _ _ h2 r2 (k1.trans k2)
 | false=>exact k _ _ _ h1 r1 k1
theorem pq (ha:TTok K tt at')(hb:TTok K tu au):TTok K (tOr tt tu) (aOr at' au):=by
 intro F σ ρ H q Q r h k
 refine ha F σ ρ H _ _ r h λc ρ1 H1 h1 r1 k1=>?_
 cases c with
 | true=>exact k _ _ _ h1 r1 k1
 | false=>exact hb F σ ρ1 H1 q Q r1 h1 λb ρ2 H2 h2 r2 k2=>k _ _ _ h2 r2 (k1.trans k2)
theorem cX (ha:TTok K tt at'):TTok K (tNot tt) (aNot at'):=λF σ ρ H q Q r h k=>ha F σ ρ H _ _ r h λc ρ1 H1 h1 r1 k1=>k _ _ _ h1 r1 k1
def truD:D->Bool
 | .non=>false
 | .bl b=>b
 | .int i=>i != 0
 | .str _=>true
 | .tup ds=>!ds.isEmpty
 | .lst ds=>!ds.isEmpty
def aTru (a:AE):AT:=λρ q=>a ρ λr ρ1=>match view ρ1 r.frz with
 | some (.str _)=>False
 | some d=>q (truD d) ρ1
 | none=>False
theorem kK {Hh:Hp}{vs:List V}{ds:List D}(h:RepDs K Hh vs ds):vs.isEmpty=ds.isEmpty:=by
 have:=h.length
 cases vs <;> cases ds <;> simp_all
theorem fu (ha:TEok K ta a):TTok K (λσ H Q=>ta σ H λx H'=>∃k,TruV K x H' k/\Q k H') (aTru a):=by
 intro F σ ρ H q Q r h k
 refine ha F σ ρ H _ _ r h λr1 ρ1 x H1 h1 rel1=>?_
 obtain⟨r',k1,i1⟩:=rel1.inF
 cases e:view ρ1 r1.frz with
 | none=>rw[e]at h1;exact h1.elim
 | some d =>
  rw[e]at h1
  have rd:=dW r' i1 e
  cases d with
  | str x=>exact h1.elim
  | non=>unfold RepD at rd;subst rd;exact⟨_,rfl,k _ _ _ h1 r' k1⟩
  | bl b=>unfold RepD at rd;subst rd;exact⟨_,rfl,k _ _ _ h1 r' k1⟩
  | int b=>unfold RepD at rd;subst rd;exact⟨_,rfl,k _ _ _ h1 r' k1⟩
  | tup ds =>
   unfold RepD at rd
   obtain⟨p,vs,rfl,sq,rr⟩:=rd
   exact⟨_,.inr (.inl ⟨vs,sq,by rw[kK rr];rfl⟩),k _ _ _ h1 r' k1⟩
  | lst ds =>
   unfold RepD at rd
   obtain⟨p,vs,rfl,sq,rr⟩:=rd
   exact⟨_,.inl ⟨vs,sq,by rw[kK rr];rfl⟩,k _ _ _ h1 r' k1⟩
def aIf (c:AT)(a b:AE):AE:=λρ q=>c ρ λk ρ1=>if k=true then a ρ1 q else b ρ1 q
theorem zX (hc:TTok K tt at')(ha:TEok K ta a)(hb:TEok K tb b):TEok K (tIf tt ta tb) (aIf at' a b):=by
 intro F σ ρ H q Q r h k
 refine hc F σ ρ H _ _ r h λc ρ1 H1 h1 r1 k1=>?_
 cases c with
 | true=>exact ha F σ ρ1 H1 q Q r1 h1 (k.after k1)
 | false=>exact hb F σ ρ1 H1 q Q r1 h1 (k.after k1)
variable {ts:TA}{as:AA}
def aNil:AA:=λρ q=>q [] ρ
def xB (a:AE)(as:AA):AA:=λρ q=>a ρ λr ρ1=>as ρ1 λrs ρ2=>q (r.frz::rs) ρ2
theorem aj:TAok K tNil aNil:=λF σ ρ H q Q r h k=>k _ _ _ _ h r .nil .refl
theorem aa (ha:TEok K ta a)(hs:TAok K ts as):TAok K (ua ta ts) (xB a as):=by
 intro F σ ρ H q Q r h k
 refine ha F σ ρ H _ _ r h λr1 ρ1 x H1 h1 rel1=>?_
 obtain⟨r',k1,i1⟩:=rel1.inF
 refine hs F σ ρ1 H1 _ _ r' h1 λrs ρ2 vs H2 h2 r2 i2 k2=>?_
 exact k _ _ _ _ h2 r2 (.cons (i1.keep k2) i2) (k1.trans k2)
def sto:List R->En->(List D->En->Prop)->Prop
 | [],ρ,q=>q [] ρ
 | .d d::rs,ρ,q=>sto rs ρ λds ρ'=>q (d::ds) ρ'
 | .o i::rs,ρ,q=>(match gt ρ i with
  | .ow ds=>sto rs (pt ρ i (.vl (.lst ds))) λes ρ'=>q (.lst ds::es) ρ'
  | .vl d=>sto rs ρ λes ρ'=>q (d::es) ρ'
  | _=>False)
 | _::_,_,_=>False
theorem hU:∀ {vs:List V} {rs:List R} {ρ:En} {q:List D->En->Prop},Rel K F σ ρ H->InFs K F σ ρ H vs rs->sto rs ρ q->∃ds ρ',q ds ρ'/\Rel K F σ ρ' H/\Kp σ ρ ρ' H H/\RepDs K (hid H (hs F σ ρ')) vs ds
 | _,_,ρ,q,r,.nil,h=>⟨[],ρ,h,r,.refl,.nil⟩
 | _,_,ρ,q,r,.cons (v:=v) (r:=rr) (vs:=vs) (rs:=rs) a t,h=>by
  cases rr with
  | n s=>exact h.elim
  | t n=>exact h.elim
  | x s=>exact h.elim
  | d d =>
   obtain⟨ds,ρ',hq,r',k,rd⟩:=hU r t (show sto rs ρ _ from h)
   exact⟨d::ds,ρ',hq,r',k,.cons (RepD.same a k.vis) rd⟩
  | o i =>
   have s:=r.sl i
   unfold sto at h
   cases hg:gt ρ i with
   | un=>rw[hg]at h;exact h.elim
   | tp n=>rw[hg]at h;exact h.elim
   | dk n=>rw[hg]at h;exact h.elim
   | dt n=>rw[hg]at h;exact h.elim
   | ex n m=>rw[hg]at h;exact h.elim
   | sc n=>rw[hg]at h;exact h.elim
   | px n m k=>rw[hg]at h;exact h.elim
   | xl es=>rw[hg]at h;exact h.elim
   | ob _ _=>rw[hg]at h;exact h.elim
   | ll _=>rw[hg]at h;exact h.elim
   | ds _ _ _=>rw[hg]at h;exact h.elim
   | vl d =>
    rw[hg]at h s
    obtain⟨x,e,rd1⟩:=s
    rw[show σ[i]? = _ from a]at e
    injection e with e;injection e with e;subst e
    obtain⟨ds,ρ',hq,r',k,rd⟩:=hU r t h
    exact⟨d::ds,ρ',hq,r',k,.cons (rd1.same k.vis) rd⟩
   | ow ds =>
    rw[hg]at h
    obtain⟨l,e,r1,k1,rd1⟩:=r.frz hg
    rw[show σ[i]? = _ from a]at e
    injection e with e;injection e with e;subst e
    obtain⟨es,ρ',hq,r',k,rd⟩:=hU r1 (t.keep k1) h
    exact⟨_,ρ',hq,r',k1.trans k,.cons (rd1.same k.vis) rd⟩
theorem small {n:Nat}(h:n<=1000000):n<=wT:=by unfold wT;omega
theorem lE {n:Nat}(h:n<=1000000):n<wT:=by unfold wT;omega
def aTup (as:AA):AE:=λρ q=>as ρ λrs ρ1=>sto rs ρ1 λds ρ2=>ds.length<=1000000/\q (.d (.tup ds)) ρ2
def aLst (as:AA):AE:=λρ q=>as ρ λrs ρ1=>sto rs ρ1 λds ρ2=>ds.length<=1000000/\q (.f ds) ρ2
theorem b7 (hs:TAok K ts as):TEok K (tTup ts) (aTup as):=by
 intro F σ ρ H q Q r h k
 refine hs F σ ρ H _ _ r h λrs ρ1 vs H1 h1 r1 i1 k1=>?_
 obtain⟨ds,ρ2,⟨hz,hq⟩,r2,k2,rd⟩:=hU r1 i1 h1
 exact⟨small (by rw[rd.length];exact hz),λp hp=>((k.after k1).after k2).newT r2 hq rd hp⟩
theorem cU (hs:TAok K ts as):TEok K (tLst ts) (aLst as):=by
 intro F σ ρ H q Q r h k
 refine hs F σ ρ H _ _ r h λrs ρ1 vs H1 h1 r1 i1 k1=>?_
 obtain⟨ds,ρ2,⟨hz,hq⟩,r2,k2,rd⟩:=hU r1 i1 h1
 exact⟨small (by rw[rd.length];exact hz),λp hp=>((k.after k1).after k2).new r2 hq rd hp⟩
def aCB (g:List R->AE)(as:AA):AE:=λρ q=>as ρ λrs ρ1=>g rs ρ1 q
theorem bZ {rb:List V->Hp->VK->Prop}{g:List R->AE}(hb:CbOk K rb g)(hs:TAok K ts as):TEok K (tCB rb ts) (aCB g as):=by
 intro F σ ρ H q Q r h k
 exact hs F σ ρ H _ _ r h λrs ρ1 vs H1 h1 r1 i1 k1=>hb F σ ρ1 H1 vs rs q Q r1 i1 h1 (k.after k1)
theorem InFs.one {vs:List V}{r1:R}(h:InFs K F σ ρ H vs [r1]):∃x,vs=[x]/\InF K F σ ρ H x r1:=by
 cases h with | cons a t=>cases t;exact⟨_,rfl,a⟩
theorem InFs.two {vs:List V}{r1 r2:R}(h:InFs K F σ ρ H vs [r1,r2]):∃x y,vs=[x,y]/\InF K F σ ρ H x r1/\InF K F σ ρ H y r2:=by
 cases h with | cons a t=>obtain⟨y,rfl,b⟩:=t.one;exact⟨_,_,rfl,a,b⟩
def gLen:List R->AE:=λrs ρ q=>match rs with
 | [r]=>(match view ρ r with
  | some (.lst ds)=>q (.d (.int ds.length)) ρ
  | some (.tup ds)=>q (.d (.int ds.length)) ρ
  | _=>False)
 | _=>False
theorem cK:CbOk K (λxs H Q=>∃p ys,xs=[.ref p]/\(SqL K H p ys∨SqT K H p ys)/\Q (.int ys.length) H) gLen:=by
 intro F σ ρ H vs rs q Q a i h b
 unfold gLen at h
 split at h
 ·obtain⟨x,rfl,i1⟩:=i.one
  split at h
  ·rename_i ds e
   obtain⟨l,vs,rfl,sq,rd⟩:=cG a i1 e
   exact⟨l,vs,rfl,.inl sq,by rw[rd.length];exact b.int a h⟩
  ·rename_i ds e
   obtain⟨l,vs,rfl,sq,rd,_⟩:=il a i1 e
   exact⟨l,vs,rfl,.inr sq,by rw[rd.length];exact b.int a h⟩
  ·exact h.elim
 ·exact h.elim
@[irreducible] def gIsa:List R->AE:=λrs ρ q=>match rs with
 | [r,.t n]=>(match view ρ r with
  | some d=>(match isaT (tyD d) n with | some b=>q (.d (.bl b)) ρ | none=>False)
  | none=>False)
 | _=>False
theorem nc:CbOk K (λxs H Q=>∃x d T b,xs=[x,.ty T]/\RepD K H x d/\isaT (tyD d) T=some b/\Q (.bl b) H) gIsa:=by
 intro F σ ρ H vs rs q Q a i h b
 unfold gIsa at h
 split at h
 ·obtain⟨x,y,rfl,i1,j1⟩:=i.two
  split at h
  ·rename_i d e
   split at h
   ·rename_i b' e'
    exact⟨x,d,_,b',by rw[show y=_ from j1],dW a i1 e,e',b.bl a h⟩
   ·exact h.elim
  ·exact h.elim
 ·exact h.elim
def gList:List R->AE:=λrs ρ q=>match rs with
 | [r]=>(match view ρ r with
  | some (.lst ds)=>q (.f ds) ρ
  | some (.tup ds)=>q (.f ds) ρ
  | _=>False)
 | _=>False
theorem oT:CbOk K (λxs H Q=>∃p ys,xs=[.ref p]/\(SqL K H p ys∨SqT K H p ys)/\∀l,H l=none->Q (.ref l) (upd H l (.lst ys))) gList:=by
 intro F σ ρ H vs rs q Q a i h b
 unfold gList at h
 split at h
 ·obtain⟨x,rfl,i1⟩:=i.one
  split at h
  ·rename_i ds e
   obtain⟨l,vs,rfl,sq,rd⟩:=cG a i1 e
   exact⟨l,vs,rfl,.inl sq,λp hp=>b.new a h rd hp⟩
  ·rename_i ds e
   obtain⟨l,vs,rfl,sq,rd,_⟩:=il a i1 e
   exact⟨l,vs,rfl,.inr sq,λp hp=>b.new a h rd hp⟩
  ·exact h.elim
 ·exact h.elim
def gTuple:List R->AE:=λrs ρ q=>match rs with
 | [r]=>(match view ρ r with
  | some (.lst ds)=>q (.d (.tup ds)) ρ
  | some (.tup ds)=>q (.d (.tup ds)) ρ
  | _=>False)
 | _=>False
theorem d9:CbOk K (λxs H Q=>∃p ys,xs=[.ref p]/\((SqL K H p ys/\∀l,H l=none->Q (.ref l) (upd H l (.tup ys)))∨(SqT K H p ys/\Q (.ref p) H))) gTuple:=by
 intro F σ ρ H vs rs q Q a i h b
 unfold gTuple at h
 split at h
 ·obtain⟨x,rfl,i1⟩:=i.one
  split at h
  ·rename_i ds e
   obtain⟨l,vs,rfl,sq,rd⟩:=cG a i1 e
   exact⟨l,vs,rfl,.inl ⟨sq,λp hp=>b.newT a h rd hp⟩⟩
  ·rename_i ds e
   obtain⟨l,vs,rfl,sq,rd,sq'⟩:=il a i1 e
   refine⟨l,vs,rfl,.inr ⟨sq,b.dat a h ?_⟩⟩
   unfold RepD
   exact⟨l,vs,rfl,sq',rd⟩
  ·exact h.elim
 ·exact h.elim
def gII (f:Int->Int->Int):List R->AE:=λrs ρ q=>match rs with
 | [.d (.int i),.d (.int j)]=>q (.d (.int (f i j))) ρ
 | _=>False
theorem xu:CbOk K (λxs H Q=>∃i j,xs=[.int i,.int j]/\Q (.int (if j > i then j else i)) H) (gII λi j=>if j > i then j else i):=by
 intro F σ ρ H vs rs q Q a i h b
 unfold gII at h
 split at h
 ·obtain⟨x,y,rfl,i1,j1⟩:=i.two
  exact⟨_,_,by rw[i1.int,j1.int],b.int a h⟩
 ·exact h.elim
theorem rV:CbOk K (λxs H Q=>∃i j,xs=[.int i,.int j]/\Q (.int (if j<i then j else i)) H) (gII λi j=>if j<i then j else i):=by
 intro F σ ρ H vs rs q Q a i h b
 unfold gII at h
 split at h
 ·obtain⟨x,y,rfl,i1,j1⟩:=i.two
  exact⟨_,_,by rw[i1.int,j1.int],b.int a h⟩
 ·exact h.elim
def fk:List D->Option (List Int)
 | []=>some []
 | .int i::ds=>(fk ds).map (i :: ·)
 | _=>none
theorem kM:∀ {ds:List D} {ns:List Int},fk ds=some ns->ds=ns.map D.int
 | [],ns,h=>by simp[fk]at h;subst h;rfl
 | .int i::ds,ns,h=>by
  simp only[fk,BZ]at h
  obtain⟨ms,e,rfl⟩:=h
  rw[kM e];rfl
 | .non::ds,ns,h=>by simp[fk]at h
 | .bl _::ds,ns,h=>by simp[fk]at h
 | .str _::ds,ns,h=>by simp[fk]at h
 | .tup _::ds,ns,h=>by simp[fk]at h
 | .lst _::ds,ns,h=>by simp[fk]at h
theorem lQ (ns:List Int):fk (ns.map D.int)=some ns:=by
 induction ns with
 | nil=>rfl
 | cons n ns ih=>simp[fk,ih]
def jI:List D->Option (List Bool)
 | []=>some []
 | .bl i::ds=>(jI ds).map (i :: ·)
 | _=>none
theorem rX:∀ {ds:List D} {ns:List Bool},jI ds=some ns->ds=ns.map D.bl
 | [],ns,h=>by simp[jI]at h;subst h;rfl
 | .bl i::ds,ns,h=>by
  simp only[jI,BZ]at h
  obtain⟨ms,e,rfl⟩:=h
  rw[rX e];rfl
 | .non::ds,ns,h=>by simp[jI]at h
 | .int _::ds,ns,h=>by simp[jI]at h
 | .str _::ds,ns,h=>by simp[jI]at h
 | .tup _::ds,ns,h=>by simp[jI]at h
 | .lst _::ds,ns,h=>by simp[jI]at h
theorem vK (ns:List Bool):jI (ns.map D.bl)=some ns:=by
 induction ns with
 | nil=>rfl
 | cons n ns ih=>simp[jI,ih]
theorem xQ:∀ {vs:List V} {ns:List Bool},RepDs K H vs (ns.map D.bl)->vs=ns.map V.bl
 | [],[],_=>rfl
 | v::vs,n::ns,h=>by
  rw[wE]at h
  unfold RepDs at h
  obtain⟨h1,h2⟩:=h
  unfold RepD at h1
  rw[wE,h1,xQ h2]
 | [],n::ns,h=>by rw[wE]at h;unfold RepDs at h;exact h.elim
 | v::vs,[],h=>by rw[Dn]at h;unfold RepDs at h;exact h.elim
@[irreducible] def gAll:List R->AE:=λrs ρ q=>match rs with
 | [r]=>(match view ρ r with
  | some (.lst ds)=>(match jI ds with | some bs=>q (.d (.bl (bs.all id))) ρ | none=>False)
  | _=>False)
 | _=>False
theorem xv:CbOk K (λxs H Q=>∃(p:Addr) (bs:List Bool),xs=[.ref p]/\SqL K H p (bs.map V.bl)/\Q (.bl (bs.all id)) H) gAll:=by
 intro F σ ρ H vs rs q Q a i h b
 unfold gAll at h
 split at h
 ·obtain⟨x,rfl,i1⟩:=i.one
  split at h
  ·rename_i ds e
   split at h
   ·rename_i bs e'
    obtain⟨l,vs,rfl,sq,rd⟩:=cG a i1 e
    rw[rX e']at rd
    rw[xQ rd]at sq
    exact⟨l,bs,rfl,sq,b.bl a h⟩
   ·exact h.elim
  ·exact h.elim
 ·exact h.elim
def aApp (a:AE)(as:AA):AE:=λρ q=>a ρ λr ρ1=>match r with
 | .o i=>(match gt ρ1 i with
  | .ow _=>as ρ1 λrs ρ2=>(match rs with
   | [y]=>sto [y] ρ2 λes ρ3=>(match gt ρ3 i with
    | .ow ds=>ds.length<=1000000/\q (.d .non) (pt ρ3 i (.ow (ds++es)))
    | _=>False)
   | _=>False)
  | _=>False)
 | _=>False
theorem fA (ha:TEok K ta a)(hs:TAok K ts as):TEok K (tBM K "list" rAppend ta ts) (aApp a as):=by
 intro F σ ρ H q Q r h k
 refine ha F σ ρ H _ _ r h λr1 ρ1 x H1 h1 rel1=>?_
 split at h1
 ·rename_i i
  obtain⟨r',k1,i1⟩:=rel1.inF
  have ex:σ[i]? = some (some x):=i1
  split at h1
  ·rename_i ds0 hg0
   have s:=r'.sl i
   rw[hg0,ex]at s
   obtain⟨l,vs0,e,hl,_⟩:=s
   injection e with e;injection e with e;subst e
   refine⟨.inl ⟨rfl,_,SqL.of hl⟩,hs F σ ρ1 H1 _ _ r' h1 λrs ρ2 vs H2 h2 r2 i2 k2=>?_⟩
   split at h2
   ·obtain⟨es,ρ3,h3,r3,k3,rd⟩:=hU r2 i2 h2
    split at h3
    ·rename_i ds hg
     have s:=r3.sl i
     rw[hg,ex]at s
     obtain⟨l',us,e,hl',rd'⟩:=s
     injection e with e;injection e with e;injection e with e;subst e
     obtain⟨y,rfl,_⟩:=i2.one
     have hw:=r3.write (i:=i) (l:=l) (o:=.lst (us++[y])) (s:=.ow (ds++es)) (by rw[hg];rfl) ex rfl ⟨l,_,rfl,aR,rd'.append rd⟩
     refine⟨l,us,y,rfl,rfl,hl',lE (by rw[rd'.length];exact h3.1),?_⟩
     exact(((k.after k1).after k2).after (k3.trans hw.2)).non hw.1 h3.2
    ·exact h3.elim
   ·exact h2.elim
  ·exact h1.elim
 ·exact h1.elim
abbrev AO:=En->(Option Int->En->Prop)->Prop
def TOok (K:bi)(t:TO)(a:AO):Prop:=∀F σ ρ H q Q,Rel K F σ ρ H->a ρ q->(∀b ρ' H',q b ρ'->Rel K F σ ρ' H'->Kp σ ρ ρ' H H'->Q b H')->t σ H Q
def oNo:AO:=λρ q=>q none ρ
def Bv (a:AE):AO:=λρ q=>a ρ λr ρ1=>match r with
 | .d (.int i)=>q (some i) ρ1
 | _=>False
theorem jW:TOok K tNoPart oNo:=λF σ ρ H q Q r h k=>k _ _ _ h r .refl
theorem f_ (ha:TEok K ta a):TOok K (z6 ta) (Bv a):=by
 intro F σ ρ H q Q r h k
 refine ha F σ ρ H _ _ r h λr1 ρ1 x H1 h1 rel1=>?_
 split at h1
 ·obtain⟨r',k1,i1⟩:=rel1.inF
  exact⟨_,i1.int,k _ _ _ h1 r' k1⟩
 ·exact h1.elim
def cutD (xs:List D)(lo hi:Option Int):List D:=(xs.drop (HT.sIx xs.length 0 lo)).take (HT.sIx xs.length xs.length hi - HT.sIx xs.length 0 lo)
theorem RepDs.drop:∀ {vs:List V} {ds:List D} (n:Nat),RepDs K H vs ds->RepDs K H (vs.drop n) (ds.drop n)
 | [],[],n,h=>by simp[RepDs.nil]
 | v::vs,d::ds,0,h=>h
 | v::vs,d::ds,n+1,h=>by unfold RepDs at h;exact RepDs.drop n h.2
 | [],d::ds,_,h=>by unfold RepDs at h;exact h.elim
 | v::vs,[],_,h=>by unfold RepDs at h;exact h.elim
theorem RepDs.take:∀ {vs:List V} {ds:List D} (n:Nat),RepDs K H vs ds->RepDs K H (vs.take n) (ds.take n)
 | [],[],n,h=>by simp[RepDs.nil]
 | v::vs,d::ds,0,h=>.nil
 | v::vs,d::ds,n+1,h=>by unfold RepDs at h;exact .cons h.1 (RepDs.take n h.2)
 | [],d::ds,_,h=>by unfold RepDs at h;exact h.elim
 | v::vs,[],_,h=>by unfold RepDs at h;exact h.elim
theorem zB {vs:List V}{ds:List D}{lo hi:Option Int}(h:RepDs K H vs ds):RepDs K H (cutV vs lo hi) (cutD ds lo hi):=by
 unfold cutV cutD
 rw[h.length]
 exact(h.drop _).take _
def aSlL (a:AE)(l u:AO):AE:=λρ q=>a ρ λr ρ1=>l ρ1 λlo ρ2=>u ρ2 λhi ρ3=>match view ρ3 r.frz with
 | some (.lst ds)=>q (.f (cutD ds lo hi)) ρ3
 | _=>False
theorem jX {tl th:TO}{al au:AO}(ha:TEok K ta a)(hl:TOok K tl al)(hh:TOok K th au):TEok K (tSl (rSlL K) ta tl th) (aSlL a al au):=by
 intro F σ ρ H q Q r h k
 refine ha F σ ρ H _ _ r h λr1 ρ1 x H1 h1 rel1=>?_
 obtain⟨r',k1,i1⟩:=rel1.inF
 refine hl F σ ρ1 H1 _ _ r' h1 λlo ρ2 H2 h2 r2 k2=>?_
 refine hh F σ ρ2 H2 _ _ r2 h2 λhi ρ3 H3 h3 r3 k3=>?_
 split at h3
 ·rename_i ds e
  obtain⟨p,vs,rfl,sq,rd⟩:=cG r3 ((i1.keep k2).keep k3) e
  exact⟨p,vs,rfl,sq,λp' hp=>(((k.after k1).after k2).after k3).new r3 h3 (zB rd) hp⟩
 ·exact h3.elim
end
def c0 (ρ:En):R->Sv
 | .d d=>.vl d
 | .o j=>gt ρ j
 | .x s=>s
 | _=>.un
def Src (K:bi)(F:Fr)(σ:St)(ρ:En)(H:Hp)(ov:Option V):R->Prop
 | .d d=>∃v,ov=some v/\RepD K (hid H (hs F σ ρ)) v d
 | .o j=>(σ[j]?).getD none=ov
 | .x s=>∃v,ov=some v/\s.own=false/\SvOk K (hid H (hs F σ ρ)) H (some (some v)) s
 | _=>True
inductive Srcs (K:bi) (F:Fr) (σ:St) (ρ:En) (H:Hp):St->List R->Prop
 | nil:Srcs K F σ ρ H [] []
 | cons {v:Option V} {r:R} {vs:St} {rs:List R}:Src K F σ ρ H v r->Srcs K F σ ρ H vs rs->Srcs K F σ ρ H (v::vs) (r::rs)
def isO (j:Nat):R->Bool
 | .o i=>i==j
 | _=>false
def dis:List R->Bool
 | []=>true
 | .o j::rs=>rs.all (λr=>!isO j r)&&dis rs
 | _::rs=>dis rs
theorem xr:∀ {rs:List R} {k k' j:Nat},dis rs=true->rs[k]? = some (.o j)->rs[k']? = some (.o j)->k=k':=by
 intro rs
 induction rs with
 | nil=>intro k k' j _ h;simp at h
 | cons r rs ih =>
  intro k k' j hd h h'
  have hd':dis rs=true:=by
   cases r <;> simp[dis]at hd <;> first | exact hd.2 | exact hd
  have no:∀(m:Nat),r = .o j->rs[m]? = some (.o j)->False:=λm e hm=>by
   subst e
   simp[dis]at hd
   have:=hd.1 _ (Cd hm)
   simp[isO]at this
  cases k with
  | zero =>
   cases k' with
   | zero=>rfl
   | succ k'=>simp at h h';exact(no k' h h').elim
  | succ k =>
   cases k' with
   | zero=>simp at h h';exact(no k h' h).elim
   | succ k'=>simp at h h';rw[ih hd' h h']
def back:En->List R->En->En
 | ρ,.o j::rs,s::ss=>back (pt ρ j s) rs ss
 | ρ,_::rs,_::ss=>back ρ rs ss
 | ρ,_,_=>ρ
theorem fS:∀(rs:List R) (ρ ss:En),(back ρ rs ss).length=ρ.length
 | [],ρ,ss=>by cases ss <;> rfl
 | r::rs,ρ,[]=>by cases r <;> rfl
 | .o j::rs,ρ,s::ss=>by show(back (pt ρ j s) rs ss).length=_;rw[fS,hV]
 | .d d::rs,ρ,s::ss=>fS rs ρ ss
 | .n d::rs,ρ,s::ss=>fS rs ρ ss
 | .t d::rs,ρ,s::ss=>fS rs ρ ss
 | .x d::rs,ρ,s::ss=>fS rs ρ ss
theorem ib:∀(rs:List R) (ρ ss:En) (i:Nat),(∀k:Nat,rs[k]? ≠ some (R.o i))->gt (back ρ rs ss) i=gt ρ i
 | [],ρ,ss,i,_=>by cases ss <;> rfl
 | r::rs,ρ,[],i,_=>by cases r <;> rfl
 | .o j::rs,ρ,s::ss,i,h=>by
  have ne:j≠i:=λe=>h 0 (by simp[e])
  show gt (back (pt ρ j s) rs ss) i=_
  rw[ib rs _ ss i (λk z=>h (k+1) (by simpa using z)),ck ρ j i s ne]
 | .d d::rs,ρ,s::ss,i,h=>ib rs ρ ss i (λk z=>h (k+1) (by simpa using z))
 | .n d::rs,ρ,s::ss,i,h=>ib rs ρ ss i (λk z=>h (k+1) (by simpa using z))
 | .t d::rs,ρ,s::ss,i,h=>ib rs ρ ss i (λk z=>h (k+1) (by simpa using z))
 | .x d::rs,ρ,s::ss,i,h=>ib rs ρ ss i (λk z=>h (k+1) (by simpa using z))
theorem jq:∀(rs:List R) (ρ ss:En) (i k:Nat),dis rs=true->rs[k]? = some (.o i)->ss.length=rs.length->i<ρ.length->gt (back ρ rs ss) i=gt ss k
 | [],ρ,ss,i,k,_,h,_,_=>by simp at h
 | r::rs,ρ,[],i,k,_,_,e,_=>by simp at e
 | .o j::rs,ρ,s::ss,i,0,hd,h,e,l=>by
  simp at h;subst h
  simp[dis]at hd
  show gt (back (pt ρ j s) rs ss) j=s
  rw[ib rs _ ss j (λk z=>by have:=hd.1 _ (Cd z);simp[isO]at this),mV ρ j s l]
 | .o j::rs,ρ,s::ss,i,k+1,hd,h,e,l=>by
  simp[dis]at hd
  exact jq rs (pt ρ j s) ss i k hd.2 (by simpa using h) (by simpa using e) (by rw[hV];exact l)
 | .d d::rs,ρ,s::ss,i,0,hd,h,e,l=>by simp at h
 | .n d::rs,ρ,s::ss,i,0,hd,h,e,l=>by simp at h
 | .t d::rs,ρ,s::ss,i,0,hd,h,e,l=>by simp at h
 | .x d::rs,ρ,s::ss,i,0,hd,h,e,l=>by simp at h
 | .d d::rs,ρ,s::ss,i,k+1,hd,h,e,l=>jq rs ρ ss i k hd (by simpa using h) (by simpa using e) l
 | .n d::rs,ρ,s::ss,i,k+1,hd,h,e,l=>jq rs ρ ss i k hd (by simpa using h) (by simpa using e) l
 | .t d::rs,ρ,s::ss,i,k+1,hd,h,e,l=>jq rs ρ ss i k hd (by simpa using h) (by simpa using e) l
 | .x d::rs,ρ,s::ss,i,k+1,hd,h,e,l=>jq rs ρ ss i k hd (by simpa using h) (by simpa using e) l
theorem oE (ρ:En):∀(rs:List R) (k:Nat),gt (rs.map (c0 ρ)) k=(match rs[k]? with | some r=>c0 ρ r | none=>.un)
 | [],k=>by simp[gt]
 | r::rs,0=>by simp[gt]
 | r::rs,k+1=>by simp[gt,oE ρ rs k]
section
variable {K:bi}{F:Fr}{σ:St}{ρ ρ':En}{H H':Hp}{ovs:St}{rs:List R}
theorem Srcs.length (s:Srcs K F σ ρ H ovs rs):ovs.length=rs.length:=by
 induction s with
 | nil=>rfl
 | cons _ _ ih=>simp[ih]
theorem Srcs.get {k:Nat}{r:R}(s:Srcs K F σ ρ H ovs rs)(h:rs[k]? = some r):∃ov,ovs[k]? = some ov/\Src K F σ ρ H ov r:=by
 induction s generalizing k with
 | nil=>simp at h
 | cons a _ ih =>
  cases k with
  | zero=>simp at h;subst h;exact⟨_,rfl,a⟩
  | succ k=>obtain⟨ov,e,q⟩:=ih (by simpa using h);exact⟨ov,by simpa using e,q⟩
def dQ (F:Fr)(σ:St)(ρ:En)(H:Hp)(ovs:St)(ss:En):Fr :=
 ⟨H,λa=>F.Z a∨(bO σ ρ a/\¬bO ovs ss a),λa=>bO ovs ss a,λi a=>(gt ss i).own=true/\ovs[i]? = some (some (.ref a)),λ_ _=>False⟩
theorem pE (s:Srcs K F σ ρ H ovs rs){k:Nat}(h:(gt (rs.map (c0 ρ)) k).own=true):∃j:Nat,rs[k]? = some (R.o j)/\(gt ρ j).own=true/\gt (rs.map (c0 ρ)) k=gt ρ j/\ovs[k]? = some ((σ[j]?).getD none):=by
 rw[oE]at h
 cases e:rs[k]? with
 | none=>simp[e]at h;cases h
 | some r =>
  rw[e]at h
  cases r with
  | d d=>cases h
  | n d=>cases h
  | t d=>cases h
  | x d =>
   obtain⟨ov,_,_,_,hx,_⟩:=s.get e
   have h:d.own=true:=h
   rw[hx]at h;cases h
  | o j =>
   obtain⟨ov,e1,e2⟩:=s.get e
   exact⟨j,rfl,h,by rw[oE,e];rfl,by rw[e1,show _=ov from e2]⟩
theorem mW {x:Option (Option V)}{a:Addr}(h:some (x.getD none)=some (some (V.ref a))):x=some (some (.ref a)):=by
 cases x with
 | none=>simp at h
 | some y=>simpa using h
theorem dG (s:Srcs K F σ ρ H ovs rs){a:Addr}(h:bO ovs (rs.map (c0 ρ)) a):∃k j:Nat,rs[k]? = some (R.o j)/\(gt ρ j).own=true/\σ[j]? = some (some (V.ref a))/\ovs[k]? = some (some (V.ref a)):=by
 obtain⟨k,hk,e⟩:=h
 obtain⟨j,e1,e2,e3,e4⟩:=pE s hk
 rw[e]at e4
 exact⟨k,j,e1,e2,mW e4.symm,e⟩
theorem nF (r:Rel K F σ ρ H)(s:Srcs K F σ ρ H ovs rs):hs (dQ F σ ρ H ovs (rs.map (c0 ρ))) ovs (rs.map (c0 ρ))=hs F σ ρ:=by
 funext a
 apply propext
 constructor
 ·rintro((h | h) | h)
  ·exact .inl h
  ·exact .inr h.1
  ·obtain⟨k,j,e1,e2,e3,_⟩:=dG s h
   exact .inr ⟨j,e2,e3⟩
 ·rintro(h | h)
  ·exact .inl (.inl h)
  ·by_cases q:bO ovs (rs.map (c0 ρ)) a
   ·exact .inr q
   ·exact .inl (.inr ⟨h,q⟩)
theorem Rel.sub (r:Rel K F σ ρ H)(s:Srcs K F σ ρ H ovs rs)(hd:dis rs=true):Rel K (dQ F σ ρ H ovs (rs.map (c0 ρ))) ovs (rs.map (c0 ρ)) H:=by
 refine⟨by rw[s.length,f8],λa o e _=>e,λa z=>?_,λa h z=>?_,λi a hi e=>.inl ⟨⟨hi,e⟩,i,hi,e⟩,λi a h=>?_,λa h=>?_,λa h=>?_,λi j a hi hj ei ej=>?_,λk=>?_⟩
 ·rcases z with z | z
  ·exact r.zl a z
  ·exact rD r z.1
 ·obtain⟨k,j,e1,e2,e3,_⟩:=dG s h
  rcases z with z | z
  ·exact r.zo a ⟨j,e2,e3⟩ z
  ·exact z.2 h
 ·rcases h with h | h
  ·exact h.2
  ·exact h.elim
 ·obtain⟨k,j,e1,e2,e3,_⟩:=dG s h
  exact fF r ⟨j,e2,e3⟩
 ·obtain⟨k,j,e1,e2,e3,_⟩:=dG s h
  exact fF r ⟨j,e2,e3⟩
 ·obtain⟨p,a1,a2,a3,a4⟩:=pE s hi
  obtain⟨p',b1,b2,b3,b4⟩:=pE s hj
  rw[ei]at a4
  rw[ej]at b4
  have:p=p':=r.nd p p' a a2 b2 (mW a4.symm) (mW b4.symm)
  subst this
  exact xr hd a1 b1
 ·rw[nF r s,oE]
  cases e:rs[k]? with
  | none=>trivial
  | some x =>
   obtain⟨ov,e1,e2⟩:=s.get e
   cases x with
   | n d=>trivial
   | t d=>trivial
   | x d=>obtain⟨v,e3,_,e4⟩:=e2;rw[e1,e3];exact e4
   | d d=>obtain⟨v,e3,e4⟩:=e2;rw[e1,e3];exact⟨v,rfl,e4⟩
   | o j =>
    rw[e1]
    have q:=r.sl j
    show SvOk K _ H (some ov) (gt ρ j)
    rw[<- show(σ[j]?).getD none=ov from e2]
    cases e5:σ[j]? with
    | none =>
     rw[e5]at q
     cases hg:gt ρ j with
     | un=>trivial
     | vl d=>rw[hg]at q;obtain⟨x,z,_⟩:=q;cases z
     | ow d=>rw[hg]at q;obtain⟨x,_,z,_⟩:=q;cases z
     | tp d=>rw[hg]at q;obtain⟨x,_,_,_,_,z,_⟩:=q;cases z
     | dk d=>rw[hg]at q;obtain⟨x,_,z,_⟩:=q;cases z
     | dt d=>rw[hg]at q;obtain⟨x,_,z,_⟩:=q;cases z
     | ex d m=>rw[hg]at q;obtain⟨x,_,z,_⟩:=q;cases z
     | sc d=>rw[hg]at q;obtain⟨x,z,_⟩:=q;cases z
     | px d m k=>rw[hg]at q;obtain⟨x,_,_,_,z,_⟩:=q;cases z
     | xl es=>rw[hg]at q;obtain⟨x,_,z,_⟩:=q;cases z
     | ob _ _=>rw[hg]at q;obtain⟨x,_,_,z,_⟩:=q;cases z
     | ll _=>rw[hg]at q;obtain⟨x,_,_,z,_⟩:=q;cases z
     | ds _ _ _=>rw[hg]at q;obtain⟨x,_,_,_,_,_,z,_⟩:=q;cases z
    | some y=>rw[e5]at q;exact q
theorem Rel.back (r:Rel K F σ ρ H)(s:Srcs K F σ ρ H ovs rs)(hd:dis rs=true){ss':En}(r':Rel K (dQ F σ ρ H ovs (rs.map (c0 ρ))) ovs ss' H')(sb:∀i,(gt ss' i).own=true->(gt (rs.map (c0 ρ)) i).own=true) :
  Rel K F σ (L2.back ρ rs ss') H'/\Kp σ ρ (L2.back ρ rs ss') H H'/\Same (hid H' (hs (dQ F σ ρ H ovs (rs.map (c0 ρ))) ovs ss')) (hid H' (hs F σ (L2.back ρ rs ss'))):=by
 have ln:ss'.length=rs.length:=by rw[<- r'.len,s.length]
 have cs:∀i:Nat,(∃k:Nat,rs[k]? = some (R.o i)/\i<ρ.length/\gt (L2.back ρ rs ss') i=gt ss' k)∨((∀k:Nat,i<ρ.length->rs[k]? ≠ some (R.o i))/\gt (L2.back ρ rs ss') i=gt ρ i):=λi=>by
  by_cases hi:i<ρ.length
  ·by_cases q:∃k:Nat,rs[k]? = some (R.o i)
   ·obtain⟨k,e⟩:=q
    exact .inl ⟨k,e,hi,jq rs ρ ss' i k hd e ln hi⟩
   ·exact .inr ⟨λk _ z=>q ⟨k,z⟩,ib rs ρ ss' i λk z=>q ⟨k,z⟩⟩
  ·refine .inr ⟨λk z=>absurd z hi,?_⟩
   rw[lT _ i (by rw[fS];omega),lT _ i (by omega)]
 have own':∀i,(gt (L2.back ρ rs ss') i).own=true->(gt ρ i).own=true:=λi h=>by
  rcases cs i with⟨k,e,hi,g⟩ | ⟨_,g⟩
  ·rw[g]at h
   have:=sb k h
   rw[oE,e]at this
   exact this
  ·rw[g]at h;exact h
 have subo:∀ {a},bO σ (L2.back ρ rs ss') a->bO σ ρ a:=λ⟨i,hi,e⟩=>⟨i,own' i hi,e⟩
 have no:∀a,¬bO σ ρ a->¬bO ovs (rs.map (c0 ρ)) a:=λa h z=>by
  obtain⟨k,j,e1,e2,e3,_⟩:=dG s z
  exact h ⟨j,e2,e3⟩
 have st:∀a o,H a=some o->¬bO ovs (rs.map (c0 ρ)) a->H' a=some o:=λa o e n=>r'.fr a o e n
 have hsub:∀a,hs F σ (L2.back ρ rs ss') a->hs (dQ F σ ρ H ovs (rs.map (c0 ρ))) ovs ss' a:=λa h=>by
  rcases h with h | ⟨i,hi,e⟩
  ·exact .inl (.inl h)
  ·rcases cs i with⟨k,e1,hl,g⟩ | ⟨n,g⟩
   ·right
    rw[g]at hi
    obtain⟨ov,q1,q2⟩:=s.get e1
    refine⟨k,hi,?_⟩
    rw[q1,<- show(σ[i]?).getD none=ov from q2,e]
    rfl
   ·left;right
    rw[g]at hi
    refine⟨⟨i,hi,e⟩,λz=>?_⟩
    obtain⟨k,j,e1,e2,e3,_⟩:=dG s z
    have:i=j:=r.nd i j a hi e2 e e3
    subst this
    exact n k (kh hi) e1
 have v1:Same (hid H' (hs (dQ F σ ρ H ovs (rs.map (c0 ρ))) ovs ss')) (hid H' (hs F σ (L2.back ρ rs ss'))):=br λa o e n=>⟨e,λz=>n (hsub a z)⟩
 have v2:Same (hid H (hs F σ ρ)) (hid H' (hs F σ (L2.back ρ rs ss'))):=br λa o e n=>⟨st a o e (no a λz=>n (.inr z)),λz=>n (z.imp id subo)⟩
 refine⟨⟨by rw[fS,r.len],λa o e n=>?_,λa z=>r'.zl a (.inl z),λa h=>r.zo a (subo h),λi a hi e=>r.ow i a (own' i hi) e,r.mi,r.ml,λa z=>?_,λi j a hi hj ei ej=>r.nd i j a (own' i hi) (own' j hj) ei ej,λi=>?_⟩,⟨λa o e n=>st a o e (no a n),own'⟩,v1⟩
 ·have e1:=r.fr a o e n
  refine st a o e1 λz=>?_
  obtain⟨k,j,h1,h2,h3,_⟩:=dG s z
  rcases r.ow j a h2 h3 with q | q
  ·exact n q.2
  ·rw[e]at q;cases q
 ·by_cases q:bO ovs (rs.map (c0 ρ)) a
  ·exact r'.ma a q
  ·cases h:H a with
   | none=>exact absurd h (r.ma a z)
   | some o=>rw[st a o h q];exact λz=>nomatch z
 ·rcases cs i with⟨k,e1,hl,g⟩ | ⟨n,g⟩
  ·rw[g]
   have q:=(r'.sl k).keep v1 λ_ _ _ _ e=>e
   obtain⟨ov,q1,q2⟩:=s.get e1
   rw[q1,<- show(σ[i]?).getD none=ov from q2]at q
   cases e5:σ[i]? with
   | none =>
    rw[e5]at q
    cases hg:gt ss' k with
    | un=>trivial
    | vl d=>rw[hg]at q;obtain⟨x,z,_⟩:=q;cases z
    | ow d=>rw[hg]at q;obtain⟨x,_,z,_⟩:=q;cases z
    | tp d=>rw[hg]at q;obtain⟨x,_,_,_,_,z,_⟩:=q;cases z
    | dk d=>rw[hg]at q;obtain⟨x,_,z,_⟩:=q;cases z
    | dt d=>rw[hg]at q;obtain⟨x,_,z,_⟩:=q;cases z
    | ex d m=>rw[hg]at q;obtain⟨x,_,z,_⟩:=q;cases z
    | sc d=>rw[hg]at q;obtain⟨x,z,_⟩:=q;cases z
    | px d m k=>rw[hg]at q;obtain⟨x,_,_,_,z,_⟩:=q;cases z
    | xl es=>rw[hg]at q;obtain⟨x,_,z,_⟩:=q;cases z
    | ob _ _=>rw[hg]at q;obtain⟨x,_,_,z,_⟩:=q;cases z
    | ll _=>rw[hg]at q;obtain⟨x,_,_,z,_⟩:=q;cases z
    | ds _ _ _=>rw[hg]at q;obtain⟨x,_,_,_,_,_,z,_⟩:=q;cases z
   | some y=>rw[e5]at q;exact q
  ·rw[g]
   refine(r.sl i).keep v2 λl o ho e h=>st l o h λz=>?_
   obtain⟨k,j,e1,e2,e3,_⟩:=dG s z
   have:i=j:=r.nd i j l ho e2 e e3
   subst this
   exact n k (kh ho) e1
end
abbrev ASp:=En->Ko->Prop
def F0 (vs:List V)(ss:En)(H:Hp)(Z:Addr->Prop):Fr:=⟨H,Z,λa=>bO (vs.map some) ss a,λi a=>(gt ss i).own=true/\(vs.map some)[i]? = some (some (.ref a)),λ_ _=>False⟩
def spA (K:bi)(S:ASp):Sp:=λvs H Q _=>∃ss Z q,Rel K (F0 vs ss H Z) (vs.map some) ss H/\S ss q /\
 ∀r ss' v H',q r ss'->(∀i,(gt ss' i).own=true->(gt ss i).own=true)->(∀i,r ≠ .o i)->RelR K (F0 vs ss H Z) (vs.map some) ss' v H' r->Q v H'
def Bk (S:ASp)(as:AA):AE:=λρ q=>as ρ λrs ρ1=>dis rs=true/\S (rs.map (c0 ρ1)) λr ss'=>q r (back ρ1 rs ss')
section
variable {K:bi}{F:Fr}{σ:St}{ρ ρ':En}{H H':Hp}{ovs:St}{rs:List R}
theorem InFs.srcs {vs:List V}(h:InFs K F σ ρ H vs rs):Srcs K F σ ρ H (vs.map some) rs:=by
 induction h with
 | nil=>exact .nil
 | cons a t ih =>
  rename_i v r vs rs
  refine .cons ?_ ih
  cases r with
  | d d=>exact⟨v,rfl,a⟩
  | o j=>show(σ[j]?).getD none=some v;rw[show σ[j]? = _ from a];rfl
  | n s=>trivial
  | t n=>trivial
  | x n=>exact⟨v,rfl,a⟩
theorem aM {S:ASp}{E:XK}{ts:TA}{as:AA}(hs':TAok K ts as):TEok K (yr (spA K S) [] E ts) (Bk S as):=by
 intro F σ ρ H q Q r h k
 refine hs' F σ ρ H _ _ r h λrs ρ1 vs H1 h1 r1 i1 k1=>?_
 obtain⟨hd,hS⟩:=h1
 have s:=i1.srcs
 rw[Cc]
 refine⟨rs.map (c0 ρ1),(dQ F σ ρ1 H1 (vs.map some) (rs.map (c0 ρ1))).Z,_,r1.sub s hd,hS,λrr ss' v H' hq sb no out=>?_⟩
 refine(k.after k1) rr (back ρ1 rs ss') v H' hq ?_
 cases rr with
 | o i=>exact absurd rfl (no i)
 | d d =>
  obtain⟨a,b⟩:=out
  obtain⟨x,y,z⟩:=r1.back s hd a sb
  exact⟨x,y,RepD.same b z⟩
 | x sv =>
  obtain⟨a,b,c⟩:=out
  obtain⟨x,y,z⟩:=r1.back s hd a sb
  exact⟨x,y,b,c.keep z λl o ho=>by rw[b]at ho;cases ho⟩
 | t n =>
  obtain⟨a,b⟩:=out
  obtain⟨x,y,z⟩:=r1.back s hd a sb
  exact⟨x,y,b⟩
 | n sv =>
  obtain⟨Hb,l,o,a,b,c,e1,e2,e3⟩:=out
  obtain⟨x,y,z⟩:=r1.back s hd a sb
  exact⟨Hb,l,o,x,y,b,c.keep z λ_ _ _ _ e=>e,e1,e2,e3⟩
end
section
variable {K:bi}{F:Fr}{σ σ':St}{ρ ρ':En}{H H':Hp}
open Classical in
noncomputable def rebase (F:Fr)(σ:St)(ρ:En)(H:Hp)(pin:Nat->Bool):Fr :=
 ⟨λa=>if bO σ ρ a/\F.H0 a=none then none else H a,F.Z,λa=>F.M a/\bO σ ρ a,F.I,λi a=>F.P i a∨(pin i=true/\σ[i]? = some (some (.ref a)))⟩
open Classical in
theorem j8 {pin:Nat->Bool}{a:Addr}{o:HO}(h:¬(bO σ ρ a/\F.H0 a=none))(e:H a=some o):(rebase F σ ρ H pin).H0 a=some o:=by
 show(if bO σ ρ a/\F.H0 a=none then none else H a)=some o
 rw[if_neg h];exact e
open Classical in
theorem Ad {pin:Nat->Bool}{a:Addr}{o:HO}(e:(rebase F σ ρ H pin).H0 a=some o):H a=some o:=by
 have e':(if bO σ ρ a/\F.H0 a=none then none else H a)=some o:=e
 split at e'
 ·cases e'
 ·exact e'
open Classical in
theorem Rel.rebase (r:Rel K F σ ρ H)(pin:Nat->Bool):Rel K (L2.rebase F σ ρ H pin) σ ρ H where
 len:=r.len
 fr:=λa o e _=>Ad e
 zl:=r.zl
 zo:=r.zo
 ow:=λi a hi e=>by
  rcases r.ow i a hi e with⟨h1,h2⟩ | h
  ·exact .inl ⟨h1,h2,i,hi,e⟩
  ·refine .inr ?_
   show(if bO σ ρ a/\F.H0 a=none then none else H a)=none
   rw[if_pos ⟨⟨i,hi,e⟩,h⟩]
 mi:=λi a h=>by
  rcases h with h | h | h
  ·exact r.mi i a (.inl h)
  ·exact r.mi i a (.inr h)
  ·exact h.2
 ml:=λa h=>by
  cases e:H a with
  | none=>exact absurd e (r.ma a h.1)
  | some o=>rw[j8 (λz=>r.ml a h.1 z.2) e];exact λz=>nomatch z
 ma:=λa h=>r.ma a h.1
 nd:=r.nd
 sl:=r.sl
theorem Rel.unbase {pin:Nat->Bool}(r:Rel K F σ ρ H)(r':Rel K (L2.rebase F σ ρ H pin) σ' ρ' H'):Rel K F σ' ρ' H'/\Same (hid H (hs F σ ρ)) (hid H' (hs F σ' ρ')):=by
 refine⟨⟨r'.len,λa o e n=>?_,r'.zl,r'.zo,λi a hi e=>?_,λi a h=>r'.mi i a (h.imp id .inl),r.ml,λa h=>?_,r'.nd,r'.sl⟩,br λa o e n=>?_⟩
 ·exact r'.fr a o (j8 (λz=>by rw[e]at z;cases z.2) (r.fr a o e n)) λz=>n z.1
 ·rcases r'.ow i a hi e with⟨h1,h2⟩ | h
  ·exact .inl ⟨h1,h2.1⟩
  ·right
   cases h0:F.H0 a with
   | none=>rfl
   | some o =>
    exfalso
    have nn:H a≠none:=by
     by_cases q:F.M a
     ·exact r.ma a q
     ·rw[r.fr a o h0 q];exact λz=>nomatch z
    cases e2:H a with
    | none=>exact nn e2
    | some u =>
     rw[j8 (λz=>by rw[h0]at z;cases z.2) e2]at h
     cases h
 ·by_cases q:bO σ ρ a
  ·exact r'.ma a ⟨h,q⟩
  ·cases e:H a with
   | none=>exact absurd e (r.ma a h)
   | some o=>rw[r'.fr a o (j8 (λz=>q z.1) e) λz=>q z.2];exact λz=>nomatch z
 ·have n':¬bO σ ρ a:=λz=>n (.inr z)
  have e0:=j8 (F:=F) (pin:=pin) (λz=>n' z.1) e
  refine⟨r'.fr a o e0 λz=>n' z.2,λz=>?_⟩
  rcases z with z | ⟨i,hi,ei⟩
  ·exact n (.inl z)
  ·rcases r'.ow i a hi ei with⟨_,h2⟩ | h
   ·exact n' h2.2
   ·rw[e0]at h;cases h
theorem RelR.unbase {pin:Nat->Bool}{v:V}{rr:R}(r:Rel K F σ ρ H)(r':RelR K (L2.rebase F σ ρ H pin) σ' ρ' v H' rr):RelR K F σ' ρ' v H' rr:=by
 cases rr with
 | d d=>exact⟨(r.unbase r'.1).1,r'.2⟩
 | o d=>exact⟨(r.unbase r'.1).1,r'.2⟩
 | t d=>exact⟨(r.unbase r'.1).1,r'.2⟩
 | x d=>exact⟨(r.unbase r'.1).1,r'.2⟩
 | n s =>
  obtain⟨Hb,l,o,a,b,c,e⟩:=r'
  exact⟨Hb,l,o,(r.unbase a).1,b,c,e⟩
end
structure Bl (K:bi)(F:Fr)(D:Ends)(e:pb):Prop where
 nx:∀ σ' ρ' H',e.nx ρ'->Rel K F σ' ρ' H'->D.nx σ' H'
 bk:∀ σ' ρ' H',e.bk ρ'->Rel K F σ' ρ' H'->D.bk σ' H'
 ct:∀ σ' ρ' H',e.ct ρ'->Rel K F σ' ρ' H'->D.ct σ' H'
 rt:∀ σ' ρ' r v H',e.rt r ρ'->RelR K F σ' ρ' v H' r->D.rt v H'
def TSok (K:bi)(pr:Nat->Bool)(t:TS)(a:AS):Prop:=∀F σ ρ H D e,(∀i a,F.pin i a->pr i=true)->Rel K F σ ρ H->a e ρ->Bl K F D e->t D σ H
abbrev AG:=D->En->(En->Prop)->Prop
abbrev AGs:=List D->En->(En->Prop)->Prop
def TGok (K:bi)(pr:Nat->Bool)(g:TG)(ag:AG):Prop:=∀F σ ρ H v d k Q,(∀i a,F.pin i a->pr i=true)->Rel K F σ ρ H->RepD K (hid H (hs F σ ρ)) v d->ag d ρ k ->
 (∀ σ' ρ',k ρ'->Rel K F σ' ρ' H->σ'.length=σ.length->(∀i,pr i=true->σ'[i]? = σ[i]?)->(∀i,(gt ρ' i).own=true->(gt ρ i).own=true/\σ'[i]? = σ[i]?)->Q σ' H)->g v σ H Q
def xC (K:bi)(pr:Nat->Bool)(n:Nat)(g:TGs)(ag:AGs):Prop:=(∀ds ρ k,ag ds ρ k->ds.length=n)/\∀F σ ρ H vs ds k Q,(∀i a,F.pin i a->pr i=true)->Rel K F σ ρ H->RepDs K (hid H (hs F σ ρ)) vs ds->ag ds ρ k ->
 (∀ σ' ρ',k ρ'->Rel K F σ' ρ' H->σ'.length=σ.length->(∀i,pr i=true->σ'[i]? = σ[i]?)->(∀i,(gt ρ' i).own=true->(gt ρ i).own=true/\σ'[i]? = σ[i]?)->Q σ' H)->g vs σ H Q
section
variable {K:bi}{pr:Nat->Bool}{t u:TS}{a b:AS}{te:TE}{ae:AE}{tt:TT}{at':AT}
theorem yV {F:Fr}{i:Nat}(hp:∀i a,F.pin i a->pr i=true)(h:pr i=false):∀a,¬F.pin i a:=λa z=>by rw[hp i a z]at h;cases h
def eQ (i:Nat):AG:=λd ρ k=>k (pt ρ i (.vl d))
theorem aq {i:Nat}(h:pr i=false):TGok K pr (xh i) (eQ i):=by
 intro F σ ρ H v d k Q hp r hd ha kk
 refine kk _ _ ha (r.set hd (yV hp h)) (by rw[G9]) (λj hj=>?_) λj hj=>?_
 ·rw[Ce];rintro rfl;rw[h]at hj;cases hj
 ·obtain⟨ne,q⟩:=gq rfl hj
  exact⟨q,by rw[Ce ne]⟩
def gaNil:AGs:=λds ρ k=>match ds with
 | []=>k ρ
 | _=>False
def fo (g:AG)(gs:AGs):AGs:=λds ρ k=>match ds with
 | d::r=>g d ρ λρ1=>gs r ρ1 k
 | []=>False
theorem aW:xC K pr 0 gNil gaNil:=by
 refine⟨λds ρ k h=>?_,?_⟩
 ·cases ds with
  | nil=>rfl
  | cons _ _=>exact h.elim
 intro F σ ρ H vs ds k Q hp r hd ha kk
 cases ds with
 | cons _ _=>exact ha.elim
 | nil =>
  cases vs with
  | nil=>exact⟨rfl,kk _ _ ha r rfl (λ_ _=>rfl) λ_ h=>⟨h,rfl⟩⟩
  | cons v vs=>unfold RepDs at hd;exact hd.elim
theorem yP {F:Fr}{σ σ':St}{ρ ρ':En}{H:Hp}(h:∀i,(gt ρ' i).own=true->(gt ρ i).own=true/\σ'[i]? = σ[i]?):Same (hid H (hs F σ ρ)) (hid H (hs F σ' ρ')):=br λa o e n=>⟨e,λz=>by
 rcases z with z | ⟨i,hi,ei⟩
 ·exact n (.inl z)
 ·obtain⟨q1,q2⟩:=h i hi
  exact n (.inr ⟨i,q1,q2▸ei⟩)⟩
theorem aD {g:TG}{gs:TGs}{ag:AG}{ags:AGs}{n:Nat}(h:TGok K pr g ag)(hs':xC K pr n gs ags)(gl:∀d ρ k,ag d ρ k->∃ ρ',k ρ'):xC K pr (n+1) (A3 g gs) (fo ag ags):=by
 refine⟨λds ρ k ha=>?_,?_⟩
 ·cases ds with
  | nil=>exact ha.elim
  | cons d ds=>obtain⟨ρ',q⟩:=gl _ _ _ ha;rw[At,hs'.1 _ _ _ q]
 intro F σ ρ H vs ds k Q hp r hd ha kk
 cases ds with
 | nil=>exact ha.elim
 | cons d ds =>
  cases vs with
  | nil=>unfold RepDs at hd;exact hd.elim
  | cons v vs =>
   unfold RepDs at hd
   refine⟨v,vs,rfl,h F σ ρ H v d _ _ hp r hd.1 ha λσ1 ρ1 h1 r1 l1 p1 o1=>?_⟩
   refine hs'.2 F σ1 ρ1 H vs ds _ _ hp r1 (hd.2.same (yP o1)) h1 λσ2 ρ2 h2 r2 l2 p2 o2=>?_
   refine kk _ _ h2 r2 (l2.trans l1) (λi hi=>(p2 i hi).trans (p1 i hi)) λi hi=>?_
   obtain⟨a1,a2⟩:=o2 i hi
   obtain⟨b1,b2⟩:=o1 i a1
   exact⟨b1,a2.trans b2⟩
def oH (n:Nat)(gs:AGs):AG:=λd ρ k=>match d with
 | .tup ds=>gs ds ρ k
 | _=>False
theorem aN {i:Nat}{d:D}{ρ:En}{k:En->Prop}(h:eQ i d ρ k):∃ ρ',k ρ':=⟨_,h⟩
theorem a8 {gs:TGs}{ags:AGs}{n:Nat}(hs':xC K pr n gs ags):TGok K pr (gTup K n gs) (oH n ags):=by
 intro F σ ρ H v d k Q hp r hd ha kk
 unfold oH at ha
 split at ha
 ·rename_i ds
  unfold RepD at hd
  obtain⟨p,vs,rfl,sq,rd⟩:=hd
  exact⟨p,vs,rfl,cg.seqT sq.sq,by rw[rd.length];exact hs'.1 _ _ _ ha,hs'.2 F σ ρ H vs ds k Q hp r rd ha kk⟩
 ·exact ha.elim
def aNext:AS:=λe ρ=>e.nx ρ
def aSeq (a b:AS):AS:=λe ρ=>a {e with nx:=b e} ρ
theorem bj:TSok K pr tNext aNext:=λF σ ρ H D e hp r h k=>k.nx _ _ _ h r
theorem aE (ha:TSok K pr t a)(hb:TSok K pr u b):TSok K pr (tSeq t u) (aSeq a b):=λF σ ρ H D e hp r h k =>
 ha F σ ρ H _ _ hp r h ⟨λσ' ρ' H' h' r'=>hb F σ' ρ' H' D e hp r' h' k,k.bk,k.ct,k.rt⟩
def BQ (x:AE):AS:=λe ρ=>x ρ λ_ ρ1=>e.nx ρ1
theorem dA (h:TEok K te ae):TSok K pr (z8 te) (BQ ae):=λF σ ρ H D e hp r ha k =>
 h F σ ρ H _ _ r ha λr1 ρ1 v H1 h1 o=>k.nx _ _ _ h1 o.inF.1
def aRet (x:AE):AS:=λe ρ=>x ρ e.rt
theorem aO (h:TEok K te ae):TSok K pr (tRet te) (aRet ae):=λF σ ρ H D e hp r ha k =>
 h F σ ρ H _ _ r ha λr1 ρ1 v H1 h1 o=>k.rt _ _ _ _ _ h1 o.rel
def aIfS (c:AT)(a b:AS):AS:=λe ρ=>c ρ λk ρ1=>if k=true then a e ρ1 else b e ρ1
theorem cw (hc:TTok K tt at')(ha:TSok K pr t a)(hb:TSok K pr u b):TSok K pr (tIfS tt t u) (aIfS at' a b):=by
 intro F σ ρ H D e hp r h k
 refine hc F σ ρ H _ _ r h λc ρ1 H1 h1 r1 k1=>?_
 cases c with
 | true=>exact ha F σ ρ1 H1 D e hp r1 h1 k
 | false=>exact hb F σ ρ1 H1 D e hp r1 h1 k
def stS (i:Nat):R->En->(En->Prop)->Prop
 | .d d,ρ,k=>k (pt ρ i (.vl d))
 | .n s,ρ,k=>k (pt ρ i s)
 | .o j,ρ,k=>(match gt ρ j with
  | .ow ds=>k (pt (pt ρ j (.vl (.lst ds))) i (.vl (.lst ds)))
  | .vl d=>k (pt ρ i (.vl d))
  | .ex C fs=>k (pt ρ i (.ex C fs))
  | .ob C fs=>k (pt ρ i (.ob C fs))
  | _=>False)
 | .t _,_,_=>False
 | .x s,ρ,k=>k (pt ρ i s)
def aSet (i:Nat)(x:AE):AS:=λe ρ=>x ρ λr ρ1=>stS i r ρ1 e.nx
theorem q0 {i:Nat}(hi:pr i=false)(h:TEok K te ae):TSok K pr (λD σ H=>te σ H λv H'=>D.nx (σ.set i (some v)) H') (aSet i ae):=by
 intro F σ ρ H D e hp r ha k
 refine h F σ ρ H _ _ r ha λr1 ρ1 v H1 h1 o=>?_
 have np:=yV hp hi
 cases r1 with
 | d d=>exact k.nx _ _ _ h1 (o.1.set o.2.2 np)
 | t n=>exact h1.elim
 | x s=>exact k.nx _ _ _ h1 (o.1.setS o.2.2.1 o.2.2.2 np)
 | n s =>
  obtain⟨Hb,l,u,a1,a2,a3,a4,a5,rfl,rfl⟩:=o
  exact k.nx _ _ _ h1 (a1.setF a3 a4 a5 np)
 | o j =>
  obtain⟨r1,k1,ej⟩:=o
  have h2:(match gt ρ1 j with
   | .ow ds=>e.nx (pt (pt ρ1 j (.vl (.lst ds))) i (.vl (.lst ds)))
   | .vl d=>e.nx (pt ρ1 i (.vl d))
   | .ex C fs=>e.nx (pt ρ1 i (.ex C fs))
   | .ob C fs=>e.nx (pt ρ1 i (.ob C fs))
   | _=>False):=h1
  clear h1
  split at h2
  ·rename_i ds hg
   obtain⟨l,el,r2,k2,rd⟩:=r1.frz hg
   rw[ej]at el
   injection el with el;injection el with el;subst el
   exact k.nx _ _ _ h2 (r2.set rd np)
  ·rename_i d hg
   have q:=r1.sl j
   rw[hg]at q
   obtain⟨x,e1,e2⟩:=q
   rw[ej]at e1
   injection e1 with e1;injection e1 with e1;subst e1
   exact k.nx _ _ _ h2 (r1.set e2 np)
  ·rename_i C fs hg
   have q:=r1.sl j
   rw[hg,ej]at q
   exact k.nx _ _ _ h2 (r1.setS rfl q np)
  ·rename_i C fs hg
   have q:=r1.sl j
   rw[hg,ej]at q
   exact k.nx _ _ _ h2 (r1.setS rfl q np)
  ·exact h2.elim
theorem a_ {i:Nat}(h:TEok K te ae)(hi:pr i=false):TSok K pr (tAsg te (xh i)) (aSet i ae):=q0 hi h
theorem ir {i n:Nat}{js:List Nat}{wi:TI}{g:TG}{tc:TT}(h:TEok K (ub n js wi g tc te) ae)(hi:pr i=false):TSok K pr (λD σ H=>ub n js wi g tc te σ H λv H'=>D.nx (σ.set i (some v)) H') (aSet i ae):=q0 hi h
def aAsg (x:AE)(g:AG):AS:=λe ρ=>x ρ λr ρ1=>sto [r.frz] ρ1 λds ρ2=>match ds with
 | [d]=>g d ρ2 e.nx
 | _=>False
theorem cZ {g:TG}{ag:AG}(h:TEok K te ae)(hg:TGok K pr g ag):TSok K pr (tAsg te g) (aAsg ae ag):=by
 intro F σ ρ H D e hp r ha k
 refine h F σ ρ H _ _ r ha λr1 ρ1 v H1 h1 o=>?_
 obtain⟨r',k1,i1⟩:=o.inF
 obtain⟨ds,ρ2,h2,r2,k2,rd⟩:=hU r' (.cons i1 .nil) h1
 split at h2
 ·rename_i d
  unfold RepDs at rd
  exact hg F σ ρ2 H1 v d _ _ hp r2 rd.1 h2 λσ3 ρ3 h3 r3 _ _ _=>k.nx _ _ _ h3 r3
 ·exact h2.elim
def aAug (i:Nat)(x:AE)(f:Int->Int->Int):AS:=λe ρ=>match gt ρ i with
 | .vl (.int p)=>x ρ λr ρ1=>(match r with
  | .d (.int y)=>e.nx (pt ρ1 i (.vl (.int (f p y))))
  | _=>False)
 | _=>False
theorem ug {i:Nat}{f:Int->Int->Int}(h:TEok K te ae)(hi:pr i=false):TSok K pr (tAug i te (ipI f)) (aAug i ae f):=by
 intro F σ ρ H D e hp r ha k
 unfold aAug at ha
 split at ha
 ·rename_i p hg
  have q:=r.sl i
  rw[hg]at q
  obtain⟨x,e1,e2⟩:=q
  unfold RepD at e2;subst e2
  refine⟨_,e1,h F σ ρ H _ _ r ha λr1 ρ1 v H1 h1 o=>?_⟩
  obtain⟨r',k1,i1⟩:=o.inF
  split at h1
  ·exact⟨_,_,rfl,i1.int,k.nx _ _ _ h1 (r'.set (by unfold RepD;rfl) (yV hp hi))⟩
  ·exact h1.elim
 ·exact ha.elim
def whA (c:AT)(b:AS)(e:pb):Nat->En->Prop
 | 0,_=>False
 | n+1,ρ=>c ρ λk ρ1=>if k=true then b {nx:=whA c b e n,ct:=whA c b e n,bk:=e.nx,rt:=e.rt} ρ1 else e.nx ρ1
def yc (c:AT)(b:AS):AS:=λe ρ=>∃n,whA c b e n ρ
theorem j2 (hc:TTok K tt at')(hb:TSok K pr t a):TSok K pr (xJ tt t) (yc at' a):=by
 intro F σ ρ H D e hp r ha k
 obtain⟨n,ha⟩:=ha
 refine⟨λm σ H=>∃ ρ,Rel K F σ ρ H/\whA at' a e m ρ,⟨n,ρ,r,ha⟩,λm σ H ⟨ρ,r,h⟩=>?_⟩
 cases m with
 | zero=>exact h.elim
 | succ m =>
  refine hc F σ ρ H _ _ r h λc ρ1 H1 h1 r1 k1=>?_
  cases c with
  | false=>exact k.nx _ _ _ h1 r1
  | true =>
   refine⟨λσ' H'=>∃ ρ',Rel K F σ' ρ' H'/\whA at' a e m ρ',λσ' H' h'=>⟨m,DB m,h'⟩,?_⟩
   exact hb F σ ρ1 H1 _ _ hp r1 h1 ⟨λσ' ρ' H' h' r'=>⟨ρ',r',h'⟩,k.nx,λσ' ρ' H' h' r'=>⟨ρ',r',h'⟩,k.rt⟩
abbrev AI:=En->(List D->(En->Prop)->En->Prop)->Prop
def WkAt (K:bi)(S:Addr->Prop)(H:Hp)(J:It)(ds:List D):Prop:=∀k:Nat,(∀d,ds[k]? = some d->J.go k H/\∀x H',J.yld k H x H'->Same H H'/\RepD K (hid H' S) x d)/\(ds.length<=k->J.stop k H)
def TIok (K:bi)(pin:Nat->Bool)(wi:TI)(ai:AI):Prop:=∀F σ ρ H q Rk,Rel K F σ ρ H->ai ρ q->(∀ds c ρ' J H',q ds c ρ'->Rel K F σ ρ' H'->Kp σ ρ ρ' H H' ->
 (∀ σ2 ρ2 H2,Same (hid H' (hs F σ ρ')) (hid H2 (hs F σ2 ρ2))->(∀i,SvOk K (hid H2 (hs F σ2 ρ2)) H2 σ2[i]? (gt ρ2 i))->(∀j a,pin j=true->σ[j]? = some (some (.ref a))->σ2[j]? = some (some (.ref a)))->(∀a,hs F σ2 ρ2 a->Nt H2 a)->c ρ2->WkAt K (hs F σ2 ρ2) H2 J ds)->Rk J H')->wi σ H Rk
def rngD (lo:Int)(n:Nat):List D:=(wl n).map λ(i:Nat)=>D.int (lo+(i:Nat))
theorem cT (lo:Int)(n:Nat):(rngD lo n).length=n:=by simp[rngD]
theorem xH {S:Addr->Prop}{H:Hp}{lo:Int}{n:Nat}:WkAt K S H (Itr lo n) (rngD lo n):=by
 intro k
 constructor
 ·intro d h
  unfold rngD at h
  rw[wv]at h
  obtain⟨j,e1,e2⟩:=BZ.mp h
  have lt:k<n:=by
   rcases B7 k n with q | q
   ·exact q
   ·rw[Dy (by simpa using q)]at e1;cases e1
  rw[Ff lt]at e1
  cases e1
  refine⟨lt,λx H' z=>⟨z.1▸Same.refl H,?_⟩⟩
  rw[z.2,<- e2]
  unfold RepD;rfl
 ·intro h;rw[cT]at h;exact h
def BK (as:AA):AI:=λρ q=>as ρ λrs ρ1=>match rs with
 | [.d (.int j)]=>(-(2^62)<=j/\j<2^62)/\q (rngD 0 j.toNat) (λ_=>True) ρ1
 | _=>False
def BJ (as:AA):AI:=λρ q=>as ρ λrs ρ1=>match rs with
 | [.d (.int i),.d (.int j)]=>(-(2^62)<=i/\i<2^62/\-(2^62)<=j/\j<2^62)/\q (rngD i (j - i).toNat) (λ_=>True) ρ1
 | _=>False
theorem eZ {pin:Nat->Bool}{ta:TA}{as:AA}(h:TAok K ta as):TIok K pin (AX ta) (BK as):=by
 intro F σ ρ H q Rk r ha k
 refine h F σ ρ H _ _ r ha λrs ρ1 vs H1 h1 r1 i1 k1=>?_
 split at h1
 ·obtain⟨x,rfl,i⟩:=i1.one
  exact⟨_,by rw[i.int],h1.1.1,h1.1.2,k _ _ _ _ _ h1.2 r1 k1 λ_ _ _ _ _ _ _ _=>xH⟩
 ·exact h1.elim
theorem tQ {pin:Nat->Bool}{ta:TA}{as:AA}(h:TAok K ta as):TIok K pin (AW ta) (BJ as):=by
 intro F σ ρ H q Rk r ha k
 refine h F σ ρ H _ _ r ha λrs ρ1 vs H1 h1 r1 i1 k1=>?_
 split at h1
 ·obtain⟨x,y,rfl,i,j⟩:=i1.two
  exact⟨_,_,by rw[i.int,j.int],h1.1,k _ _ _ _ _ h1.2 r1 k1 λ_ _ _ _ _ _ _ _=>xH⟩
 ·exact h1.elim
def iSeq (K:bi)(tl:TE):TI:=λσ H R=>tl σ H λx H1=>∃a,x = .ref a/\(((∃xs,SqL K H1 a xs)/\R (Itl K a) H1)∨((∃xs,SqT K H1 a xs)/\R (Itt K a) H1))
theorem Ag {X:Cx}{tg l:Expr}{tl:TE}(hl:PE X l tl):PI X tg l (iSeq X.K tl):=by
 intro pins s σ H R I h
 refine thn (hl pins s σ H _ I h) λv s1 ⟨x,H1,I1,r1,q1⟩=>?_
 obtain⟨a,e,⟨⟨xs,hq⟩,q⟩ | ⟨⟨xs,hq⟩,q⟩⟩:=q1
 ·subst e
  cases r1
  obtain⟨its,rv,p,hz⟩:=I1.list hq
  refine Hc p.isList ?_
  refine⟨s1.heap.objs.size,[s1.heap.objs.size],_,_,H1,rfl,I1.kept (t':=s1.toks) λb o e=>db _ e,tG a _,⟨_,wn _ rfl,rfl,rfl⟩,λb hb=>?_,q⟩
  have e:b=s1.heap.objs.size:=by simpa using hb
  subst e
  exact I1.fpOk (lm _) (I1.hok.fresh (lm _))
 ·subst e
  cases r1
  obtain⟨its,rv,p,hz⟩:=I1.tuple hq
  refine FE (show s1.heap.IsTuple a its.toArray from p) ?_
  refine⟨s1.heap.objs.size,[s1.heap.objs.size],_,_,H1,rfl,I1.kept (t':=s1.toks) λb o e=>db _ e,sd a _,⟨_,wn _ rfl,rfl,rfl⟩,λb hb=>?_,q⟩
  have e:b=s1.heap.objs.size:=by simpa using hb
  subst e
  exact I1.fpOk (lm _) (I1.hok.fresh (lm _))
theorem bF (K:bi){X:Cx}{tg l:Expr}{tl:TE}(hl:PE X l tl)(hK:X.K=K:=by rfl):PI X tg l (iSeq K tl):=by subst hK;exact Ag hl
theorem xI {S:Addr->Prop}{H:Hp}{a:Addr}{vs:List V}{ds:List D}(h:SqL K H a vs)(rd:RepDs K (hid H S) vs ds):WkAt K S H (Itl K a) ds:=by
 intro k
 constructor
 ·intro d e
  obtain⟨v,e1,rv⟩:=rd.get e
  refine⟨⟨vs,v,h,e1⟩,λx H' z=>⟨z.1▸Same.refl H,?_⟩⟩
  have:=z.2 vs h
  rw[e1]at this;cases this;rw[z.1];exact rv
 ·intro z;exact⟨vs,h,by rw[rd.length];exact z⟩
theorem zR {S:Addr->Prop}{H:Hp}{a:Addr}{vs:List V}{ds:List D}(h:SqT K H a vs)(rd:RepDs K (hid H S) vs ds):WkAt K S H (Itt K a) ds:=by
 intro k
 constructor
 ·intro d e
  obtain⟨v,e1,rv⟩:=rd.get e
  refine⟨⟨vs,v,h,e1⟩,λx H' z=>⟨z.1▸Same.refl H,?_⟩⟩
  have:=z.2 vs h
  rw[e1]at this;cases this;rw[z.1];exact rv
 ·intro z;exact⟨vs,h,by rw[rd.length];exact z⟩
def BH (pin:Nat->Bool)(x:AE):AI:=λρ q=>x ρ λr ρ1=>match r.frz with
 | .d (.lst ds)=>q ds (λ_=>True) ρ1
 | .d (.tup ds)=>q ds (λ_=>True) ρ1
 | .o i=>(match gt ρ1 i with
  | .ow ds=>pin i=true/\q ds (λρ2=>gt ρ2 i = .ow ds) ρ1
  | _=>False)
 | _=>False
theorem ba {pin:Nat->Bool}(h:TEok K te ae):TIok K pin (iSeq K te) (BH pin ae):=by
 intro F σ ρ H q Rk r ha k
 refine h F σ ρ H _ _ r ha λr1 ρ1 x H1 h1 o1=>?_
 obtain⟨r',k1,i1⟩:=o1.inF
 split at h1
 ·rename_i ds e
  rw[e]at i1
  have rd:RepD K _ x (.lst ds):=i1
  unfold RepD at rd
  obtain⟨a,vs,rfl,sq,rd⟩:=rd
  refine⟨a,rfl,.inl ⟨⟨vs,cg.seq (StL.sq sq)⟩,k _ _ _ _ _ h1 r' k1 λσ2 ρ2 H2 sm _ _ _ _=>?_⟩⟩
  exact xI (cg.seq (sm.seq (StL.sq sq))) (rd.same sm)
 ·rename_i ds e
  rw[e]at i1
  have rd:RepD K _ x (.tup ds):=i1
  unfold RepD at rd
  obtain⟨a,vs,rfl,sq,rd⟩:=rd
  refine⟨a,rfl,.inr ⟨⟨vs,cg.seqT sq.sq⟩,k _ _ _ _ _ h1 r' k1 λσ2 ρ2 H2 sm _ _ _ _=>?_⟩⟩
  exact zR (cg.seqT (sm.seqT sq.sq)) (rd.same sm)
 ·rename_i i e
  rw[e]at i1
  have ei:σ[i]? = some (some x):=i1
  split at h1
  ·rename_i ds hg
   have s:=r'.sl i
   rw[hg,ei]at s
   obtain⟨a,vs,e1,hl,rd⟩:=s
   injection e1 with e1;injection e1 with e1;subst e1
   refine⟨a,rfl,.inl ⟨⟨vs,SqL.of hl⟩,k _ _ _ _ _ h1.2 r' k1 λσ2 ρ2 H2 sm sv pn _ hc=>?_⟩⟩
   have s2:=sv i
   rw[hc,pn i a h1.1 ei]at s2
   obtain⟨a',vs',e2,hl',rd'⟩:=s2
   injection e2 with e2;injection e2 with e2;injection e2 with e2;subst e2
   exact xI (SqL.of hl') rd'
  ·exact h1.elim
 ·exact h1.elim
def forA (c:En->Prop)(g:AG)(b:AS)(e:pb):List D->En->Prop
 | [],ρ=>c ρ/\e.nx ρ
 | d::ds,ρ=>c ρ/\g d ρ λρ1=>b {nx:=forA c g b e ds,ct:=forA c g b e ds,bk:=e.nx,rt:=e.rt} ρ1
def aFor (i:AI)(g:AG)(b:AS):AS:=λe ρ=>i ρ λds c ρ1=>forA c g b e ds ρ1
theorem dh {pin:Nat->Bool}{wi:TI}{ai:AI}{g:TG}{ag:AG}(hi:TIok K pin wi ai)(hg:TGok K (λj=>pr j||pin j) g ag)(hb:TSok K (λj=>pr j||pin j) t a):TSok K pr (tFor wi g t) (aFor ai ag a):=by
 intro F σ ρ H D e hp r ha k
 refine hi F σ ρ H _ _ r ha λds c ρ1 J H1 h1 r1 k1 wk=>?_
 have hp':∀i a,(rebase F σ ρ1 H1 pin).pin i a->(pr i||pin i)=true:=λi a h=>by
  rcases h with h | h | h
  ·rw[hp i a (.inl h)];rfl
  ·rw[hp i a (.inr h)];rfl
  ·rw[h.1];cases pr i <;> rfl
 have ek:Bl K (rebase F σ ρ1 H1 pin) D e:=⟨λ_ _ _ h' r'=>k.nx _ _ _ h' (r1.unbase r').1,λ_ _ _ h' r'=>k.bk _ _ _ h' (r1.unbase r').1,λ_ _ _ h' r'=>k.ct _ _ _ h' (r1.unbase r').1,λ_ _ _ _ _ h' r'=>k.rt _ _ _ _ _ h' (RelR.unbase r1 r')⟩
 refine⟨λi m σ' H'=>∃ ρ',m=ds.length - i/\i<=ds.length/\Rel K (rebase F σ ρ1 H1 pin) σ' ρ' H'/\forA c ag a e (ds.drop i) ρ',⟨ds.length,ρ1,rfl,B0 _,r1.rebase pin,h1⟩,?_⟩
 rintro i m σ' H' ⟨ρ',rfl,hl,r',h'⟩
 have w:c ρ'->WkAt K (hs F σ' ρ') H' J ds:=λhc=>wk σ' ρ' H' (r1.unbase r').2 r'.sl (λj x hj ej=>r'.mi j x (.inr (.inr ⟨hj,ej⟩))) (λa z=>sV r' z) hc
 rcases B7 i ds.length with q | q
 ·right
  rw[Cf q]at h'
  unfold forA at h'
  obtain⟨hc,h'⟩:=h'
  obtain⟨go,yld⟩:=(w hc i).1 ds[i] (bv q)
  refine⟨go,λσ2 H2=>∃ ρ2,Rel K (rebase F σ ρ1 H1 pin) σ2 ρ2 H2/\forA c ag a e (ds.drop (i+1)) ρ2,λσ2 H2 ⟨ρ2,r2,h2⟩=>⟨ds.length - (i+1),by omega,ρ2,rfl,q,r2,h2⟩,λx H2 hy=>?_⟩
  obtain⟨sm,rd⟩:=yld x H2 hy
  refine hg _ σ' ρ' _ x _ _ _ hp' (r'.grow sm) rd h' λσ3 ρ3 h3 r3 _ _ _=>?_
  exact hb _ σ3 ρ3 _ _ _ hp' r3 h3 ⟨λσ' ρ' H' h' r'=>⟨ρ',r',h'⟩,ek.nx,λσ' ρ' H' h' r'=>⟨ρ',r',h'⟩,ek.rt⟩
 ·left
  rw[CH q]at h'
  unfold forA at h'
  obtain⟨hc,h'⟩:=h'
  exact⟨(w hc i).2 q,ek.nx _ _ _ h' r'⟩
end
def blkE (n:Nat)(js:List Nat)(ρ:En):En:=o0 n .un++js.map (gt ρ)
def blkR (n:Nat)(js:List Nat):List R:=o0 n (R.t "")++js.map R.o
theorem bu (n:Nat)(js:List Nat)(ρ:En):(blkR n js).map (c0 ρ)=blkE n js ρ:=by
 unfold blkR blkE
 rw[Cb,List.map_replicate,B3]
 rfl
theorem iV (js:List Nat):∀n,dis (blkR n js)=dis (js.map R.o)
 | 0=>rfl
 | n+1=>by
  show dis (R.t "" :: blkR n js)=_
  exact iV js n
theorem iW (js:List Nat)(ρ:En)(n:Nat):∀ss:En,ss.length=n+js.length->back ρ (blkR n js) ss=back ρ (js.map R.o) (ss.drop n):=by
 induction n with
 | zero=>intro ss _;rfl
 | succ n ih =>
  intro ss h
  cases ss with
  | nil=>simp at h;omega
  | cons s ss=>exact ih ss (by simp at h;omega)
theorem jU {n:Nat}{js:List Nat}{ρ:En}{i:Nat}(h:(gt (blkE n js ρ) i).own=true):n<=i:=by
 rcases B7 i n with q | q
 ·exfalso
  have:∀(n i:Nat) (x:En),i<n->gt (o0 n Sv.un++x) i = .un:=by
   intro n
   induction n with
   | zero=>intro i x h;omega
   | succ n ih =>
    intro i x h
    cases i with
    | zero=>rfl
    | succ i=>exact ih i x (by omega)
  unfold blkE at h
  rw[this n i _ q]at h
  cases h
 ·exact q
section
variable {K:bi}{F:Fr}{σ σ':St}{ρ ρ':En}{H H':Hp}
theorem jT (n:Nat)(js:List Nat):Srcs K F σ ρ H (bst n σ js) (blkR n js):=by
 unfold bst blkR
 induction n with
 | zero =>
  induction js with
  | nil=>exact .nil
  | cons j js ih=>exact .cons rfl ih
 | succ n ih=>exact .cons trivial ih
theorem ia:∀(n i:Nat) (ρ:En),gt (ρ.drop n) i=gt ρ (n+i)
 | 0,i,ρ=>by simp
 | n+1,i,[]=>by simp[gt]
 | n+1,i,s::ρ=>by rw[List.drop_succ_cons,ia n i ρ,Nat.add_right_comm];rfl
theorem kN:∀(n i:Nat) (x:En),gt (o0 n Sv.un++x) i=if i<n then .un else gt x (i - n)
 | 0,i,x=>by simp
 | n+1,0,x=>by simp[List.replicate_succ,gt]
 | n+1,i+1,x=>by
  show gt (o0 n Sv.un++x) i=_
  rw[kN n i x]
  by_cases h:i<n
  ·rw[if_pos h,if_pos (by omega)]
  ·rw[if_neg h,if_neg (by omega)];congr 1;omega
theorem Rel.forget {n:Nat}(r:Rel K F σ ρ H)(hn:n<=σ.length)(hp:∀i a,F.pin i a->n<=i):Rel K F (o0 n none++σ.drop n) (o0 n .un++ρ.drop n) H/\Same (hid H (hs F σ ρ)) (hid H (hs F (o0 n none++σ.drop n) (o0 n .un++ρ.drop n))):=by
 have g:∀i,gt (o0 n .un++ρ.drop n) i=if i<n then .un else gt ρ i:=λi=>by
  rw[kN]
  split
  ·rfl
  ·rw[ia];congr 1;omega
 have s:∀i,n<=i->(o0 n none++σ.drop n)[i]? = σ[i]?:=λi h=>by
  rw[Ci (by simpa using h),Dd,Co]
  congr 1;omega
 have own':∀i,(gt (o0 n .un++ρ.drop n) i).own=true->n<=i/\(gt ρ i).own=true:=λi h=>by
  rw[g]at h
  split at h
  ·cases h
  ·exact⟨by omega,h⟩
 have sub:∀a,bO (o0 n none++σ.drop n) (o0 n .un++ρ.drop n) a->bO σ ρ a:=λa ⟨i,hi,e⟩=>by
  obtain⟨h1,h2⟩:=own' i hi
  rw[s i h1]at e
  exact⟨i,h2,e⟩
 have vis:Same (hid H (hs F σ ρ)) (hid H (hs F (o0 n none++σ.drop n) (o0 n .un++ρ.drop n))):=br λa o e n=>⟨e,λz=>n (z.imp id (sub a))⟩
 refine⟨⟨by have:=r.len;simp;omega,r.fr,r.zl,λa h=>r.zo a (sub a h),λi a hi e=>?_,λi a h=>?_,r.ml,r.ma,λi j a hi hj ei ej=>?_,λi=>?_⟩,vis⟩
 ·obtain⟨h1,h2⟩:=own' i hi
  rw[s i h1]at e
  exact r.ow i a h2 e
 ·rw[s i (hp i a h)];exact r.mi i a h
 ·obtain⟨h1,h2⟩:=own' i hi
  obtain⟨h3,h4⟩:=own' j hj
  rw[s i h1]at ei
  rw[s j h3]at ej
  exact r.nd i j a h2 h4 ei ej
 ·rw[g]
  split
  ·trivial
  ·rw[s i (by omega)]
   exact(r.sl i).keep vis λ_ _ _ _ e=>e
end
def f7 (n:Nat)(js:List Nat)(c:En->Prop)(g:AG)(tc:AT)(te:AE)(q:List D->En->Prop):List D->List D->En->Prop
 | [],acc,ρ=>c ρ/\q acc ρ
 | d::ds,acc,ρ=>c ρ/\g d (blkE n js ρ) λρ1=>tc ρ1 λb ρ2=>if b=true then te ρ2 λr ρ3=>sto [r.frz] ρ3 λes ρ4=>f7 n js c g tc te q ds (acc++es) (back ρ (js.map R.o) (ρ4.drop n))else f7 n js c g tc te q ds acc (back ρ (js.map R.o) (ρ2.drop n))
def BS (n:Nat)(js:List Nat)(i:AI)(g:AG)(tc:AT)(te:AE):AE:=λρ q=>i ρ λds c ρ1=>ds.length<=1000000/\f7 n js c g tc te (λacc ρ2=>q (.f acc) ρ2) ds [] ρ1
def aAll:AT:=λρ q=>q true ρ
section
variable {K:bi}
theorem bY:TTok K tAll aAll:=λF σ ρ H q Q r h k=>k _ _ _ h r .refl
theorem pF {F:Fr}{σ:St}{ρ:En}{H:Hp}{v:V}{r:R}{q:List D->En->Prop}(a:Rel K F σ ρ H)(i:InF K F σ ρ H v r)(h:sto [r] ρ q):∃d ρ',q [d] ρ'/\Rel K F σ ρ' H/\Kp σ ρ ρ' H H/\RepD K (hid H (hs F σ ρ')) v d:=by
 obtain⟨ds,ρ',h1,h2,h3,h4⟩:=hU a (.cons i .nil) h
 cases ds with
 | nil=>unfold RepDs at h4;exact h4.elim
 | cons d ds =>
  unfold RepDs at h4
  cases ds with
  | nil=>exact⟨d,ρ',h1,h2,h3,h4.1⟩
  | cons _ _=>obtain⟨_,z⟩:=h4;unfold RepDs at z;exact z.elim
theorem bU {n:Nat}{js:List Nat}{wi:TI}{g:TG}{tc:TT}{te:TE}{ai:AI}{ag:AG}{atc:AT}{ate:AE}(hi:TIok K (λ_=>true) wi ai)(hg:TGok K (λj=>decide (n<=j)) g ag)(hc:TTok K tc atc)(he:TEok K te ate)
  (hd:dis (js.map R.o)=true:=by rfl):TEok K (ub n js wi g tc te) (BS n js ai ag atc ate):=by
 intro F σ ρ H q Q r h k
 refine hi F σ ρ H _ _ r h λds c ρ1 J H1 h1 r1 k1 wk=>?_
 obtain⟨hz,h1⟩:=h1
 have hd':dis (blkR n js)=true:=by rw[iV];exact hd
 refine⟨λi m ys H'=>∃ ρ' acc,m=ds.length - i/\i<=ds.length/\Rel K F σ ρ' H'/\Kp σ ρ1 ρ' H1 H'/\RepDs K (hid H' (hs F σ ρ')) ys acc/\acc.length<=i/\f7 n js c ag atc ate (λacc ρ2=>q (.f acc) ρ2) (ds.drop i) acc ρ',⟨ds.length,ρ1,[],rfl,B0 _,r1,.refl,.nil,B0 _,h1⟩,?_⟩
 rintro i m ys H' ⟨ρ',acc,rfl,hl,r',k',rd,al,h'⟩
 have w:c ρ'->WkAt K (hs F σ ρ') H' J ds:=λhc=>wk σ ρ' H' k'.vis r'.sl (λ_ _ _ e=>e) (λa z=>sV r' z) hc
 have yl:ys.length=acc.length:=rd.length
 rcases B7 i ds.length with lt | ge
 ·right
  rw[Cf lt]at h'
  unfold f7 at h'
  obtain⟨hcc,h'⟩:=h'
  obtain⟨go,yld⟩:=(w hcc i).1 ds[i] (bv lt)
  refine⟨go,lE (by omega),λzs H2=>∃ ρ2 acc2,Rel K F σ ρ2 H2/\Kp σ ρ1 ρ2 H1 H2/\RepDs K (hid H2 (hs F σ ρ2)) zs acc2/\acc2.length<=i+1/\f7 n js c ag atc ate (λacc ρ2=>q (.f acc) ρ2) (ds.drop (i+1)) acc2 ρ2,
   λzs H2 ⟨ρ2,acc2,a1,a2,a3,a4,a5⟩=>⟨ds.length - (i+1),by omega,ρ2,acc2,rfl,lt,a1,a2,a3,a4,a5⟩,λx H2 hy=>?_⟩
  obtain⟨sm,rx⟩:=yld x H2 hy
  have r0':=r'
  have k':Kp σ ρ1 ρ' H1 H2:=k'.trans ⟨λa o e _=>sm a o e,λ_ h=>h⟩
  have rd:RepDs K (hid H2 (hs F σ ρ')) ys acc:=rd.same (br λa o e n=>⟨sm a o e,n⟩)
  have r':=r0'.grow sm
  have src:=jT (K:=K) (F:=F) (σ:=σ) (ρ:=ρ') (H:=H2) n js
  have rb:=r'.sub src hd'
  have hs2:=nF r' src
  rw[bu]at rb hs2
  have pin:∀i a,(dQ F σ ρ' H2 (bst n σ js) (blkE n js ρ')).pin i a->decide (n<=i)=true:=λi a h=>by
   rcases h with h | h
   ·exact decide_eq_true (jU h.1)
   ·exact h.elim
  have hlen:(bst n σ js).length=n+js.length:=fQ
  have ret:∀ σ2 ρ2 H3,Rel K (dQ F σ ρ' H2 (bst n σ js) (blkE n js ρ')) σ2 ρ2 H3->σ2.length=(bst n σ js).length->σ2.drop n=capt σ js->(∀i,(gt ρ2 i).own=true->(gt (blkE n js ρ') i).own=true) ->
    Rel K F σ (back ρ' (js.map R.o) (ρ2.drop n)) H3/\Kp σ ρ' (back ρ' (js.map R.o) (ρ2.drop n)) H2 H3/\Same (hid H3 (hs (dQ F σ ρ' H2 (bst n σ js) (blkE n js ρ')) σ2 ρ2)) (hid H3 (hs F σ (back ρ' (js.map R.o) (ρ2.drop n)))):=λσ2 ρ2 H3 rr hlen2 hdrop hown=>by
   obtain⟨f1,f2⟩:=rr.forget (n:=n) (by omega) λi a h=>of_decide_eq_true (pin i a h)
   rw[hdrop]at f1 f2
   have f1':Rel K (dQ F σ ρ' H2 (bst n σ js) ((blkR n js).map (c0 ρ'))) (bst n σ js) (o0 n .un++ρ2.drop n) H3:=by rw[bu];exact f1
   have bk:=r'.back src hd' f1' λi hi=>by
    rw[bu]
    rw[kN]at hi
    split at hi
    ·cases hi
    ·rename_i hni
     rw[ia,show n+(i - n)=i by omega]at hi
     exact hown i hi
   have ln:(o0 n Sv.un++ρ2.drop n).length=n+js.length:=by
    have:=rr.len
    simp;omega
   rw[iW js ρ' n _ ln,D0 (by simp),bu]at bk
   exact⟨bk.1,bk.2.1,f2.trans bk.2.2⟩
  refine hg _ (bst n σ js) (blkE n js ρ') H2 x _ _ _ pin rb (by rw[hs2];exact rx) h' λσ2 ρ2 h2 r2 l2 p2 o2=>?_
  have hdrop:σ2.drop n=capt σ js:=by
   have:σ2.drop n=(bst n σ js).drop n:=by
    apply DK
    intro i
    rw[Co,Co]
    exact p2 (n+i) (decide_eq_true (by omega))
   rw[this]
   unfold bst
   rw[D0 (by simp)]
  refine⟨hdrop,hc _ σ2 ρ2 H2 _ _ r2 h2 λb ρ3 H3 h3 r3 k3=>?_⟩
  cases b with
  | false =>
   obtain⟨b1,b2,_⟩:=ret σ2 ρ3 H3 r3 l2 hdrop λi hi=>(o2 i (k3.sb i hi)).1
   exact⟨_,acc,b1,k'.trans b2,rd.same b2.vis,by omega,h3⟩
  | true =>
   refine he _ σ2 ρ3 H3 _ _ r3 h3 λr4 ρ4 v H4 h4 o4=>?_
   obtain⟨r4',k4,i4⟩:=o4.inF
   obtain⟨d,ρ5,h5,r5,k5,rv⟩:=pF r4' i4 h4
   obtain⟨b1,b2,b3⟩:=ret σ2 ρ5 H4 r5 l2 hdrop λi hi=>(o2 i (k3.sb i (k4.sb i (k5.sb i hi)))).1
   exact⟨_,acc++[d],b1,k'.trans b2,(rd.same b2.vis).append (.one (rv.same b3)),by simp;omega,h5⟩
 ·left
  rw[CH ge]at h'
  unfold f7 at h'
  obtain⟨hcc,h'⟩:=h'
  refine⟨(w hcc i).2 ge,small (by omega),λl hl'=>?_⟩
  exact((k.after k1).after k').new r' h' rd hl'
end
def outS:En->En->En
 | [],_=>[]
 | s::ss,ρ=>(if s.own=true then gt ρ 0 else s)::outS ss ρ.tail
theorem zg (ρ:En)(i:Nat):gt ρ.tail i=gt ρ (i+1):=by cases ρ <;> rfl
theorem rF:∀(ss ρ:En),(outS ss ρ).length=ss.length
 | [],_=>rfl
 | s::ss,ρ=>by simp[outS,rF ss]
theorem qr:∀(ss ρ:En) (i:Nat),gt (outS ss ρ) i=if(gt ss i).own=true then gt ρ i else gt ss i
 | [],ρ,i=>by simp[outS,gt,Sv.own]
 | s::ss,ρ,0=>rfl
 | s::ss,ρ,i+1=>by
  show gt (outS ss ρ.tail) i=_
  rw[qr ss ρ.tail i,zg]
  rfl
def fin (pr:Nat->Bool):R->En->Ko->Prop
 | .d d,ρ,k=>k (.d d) ρ
 | .n s,ρ,k=>k (.n s) ρ
 | .o i,ρ,k=>(match gt ρ i with
  | .ow ds=>if pr i=true then k (.d (.lst ds)) (pt ρ i (.vl (.lst ds)))else k (.n (.ow ds)) (pt ρ i .un)
  | .vl d=>k (.d d) ρ
  | .dk kvs=>if pr i=true then False else k (.n (.dk kvs)) (pt ρ i .un)
  | .dt kvs=>if pr i=true then False else k (.n (.dt kvs)) (pt ρ i .un)
  | _=>False)
 | .t _,_,_=>False
 | .x s,ρ,k=>k (.x s) ρ
def yQ (pr:Nat->Bool)(ss:En):Prop:=∀i,(gt ss i).own=true->pr i=true
section
variable {K:bi}{F:Fr}{σ σ':St}{ρ ρ':En}{H H':Hp}
open Classical in
noncomputable def del (H:Hp)(l:Addr):Hp:=λa=>if a=l then none else H a
open Classical in
theorem m7 {l:Addr}:del H l l=none:=by unfold del;rw[if_pos rfl]
open Classical in
theorem lX {a l:Addr}(h:a≠l):del H l a=H a:=by unfold del;rw[if_neg h]
theorem jm {l:Addr}{o:HO}(h:H l=some o):upd (del H l) l o=H:=by
 funext a
 by_cases e:a=l
 ·subst e;rw[aR,h]
 ·rw[aQ e,lX e]
theorem Rel.take (r:Rel K F σ ρ H){i:Nat}(hi:(gt ρ i).own=true)(hm:∀a,¬F.pin i a):∃l o,H l=some o/\σ[i]? = some (some (.ref l))/\Rel K F σ (pt ρ i .un) (del H l)/\SvOk K (hid (del H l) (hs F σ (pt ρ i .un))) H (some (some (.ref l))) (gt ρ i):=by
 have s:=r.sl i
 obtain⟨l,o,el,hl⟩:=s.alive hi
 have own':∀j,(gt (pt ρ i .un) j).own=true->i≠j/\(gt ρ j).own=true:=λj h=>gq rfl h
 have sub:∀a,bO σ (pt ρ i .un) a->bO σ ρ a/\a≠l:=λa ⟨j,hj,e⟩=>by
  obtain⟨ij,hj⟩:=own' j hj
  exact⟨⟨j,hj,e⟩,λz=>ij (r.nd i j l hi hj el (z▸e))⟩
 have ol:bO σ ρ l:=⟨i,hi,el⟩
 have vis:Same (hid H (hs F σ ρ)) (hid (del H l) (hs F σ (pt ρ i .un))):=br λa u e n=>by
  have al:a≠l:=λz=>n (.inr (z▸ol))
  exact⟨by rw[lX al];exact e,λz=>n (z.imp id λz=>(sub a z).1)⟩
 have h0:F.H0 l=none:=by
  rcases r.ow i l hi el with h | h
  ·exact absurd (Or.inl h.1) (hm l)
  ·exact h
 refine⟨l,o,hl,el,⟨by rw[hV,r.len],λa u e n=>?_,λa z=>?_,λa h=>r.zo a (sub a h).1,λj a hj e=>r.ow j a (own' j hj).2 e,r.mi,r.ml,λa z=>?_,λj k a hj hk ej ek=>r.nd j k a (own' j hj).2 (own' k hk).2 ej ek,λj=>?_⟩,?_⟩
 ·have al:a≠l:=λz=>by rw[z,h0]at e;cases e
  rw[lX al];exact r.fr a u e n
 ·have al:a≠l:=λq=>r.zo l ol (q▸z)
  unfold Nt;rw[lX al];exact r.zl a z
 ·have al:a≠l:=λq=>r.ml a z (q▸h0)
  rw[lX al];exact r.ma a z
 ·by_cases ij:i=j
  ·subst ij
   rw[mV ρ i _ (kh hi)];trivial
  ·rw[ck ρ i j _ ij]
   refine(r.sl j).keep vis λa u ho e h=>?_
   have al:a≠l:=λz=>ij (r.nd i j l hi ho el (z▸e))
   rw[lX al];exact h
 ·rw[el]at s
  exact s.keep vis λ_ _ _ _ e=>e
theorem Rel.out {vs:List V}{ss:En}{Z:Addr->Prop}(r0:Rel K (F0 vs ss H Z) (vs.map some) ss H)(r:Rel K (F0 vs ss H Z) σ' ρ' H') :
  Rel K (F0 vs ss H Z) (vs.map some) (outS ss ρ') H'/\Same (hid H' (hs (F0 vs ss H Z) σ' ρ')) (hid H' (hs (F0 vs ss H Z) (vs.map some) (outS ss ρ')))/\∀i,(gt (outS ss ρ') i).own=true->(gt ss i).own=true:=by
 have own':∀i,(gt (outS ss ρ') i).own=true->(gt ss i).own=true/\(gt ρ' i).own=true:=λi h=>by
  rw[qr]at h
  split at h
  ·rename_i q;exact⟨q,h⟩
  ·rename_i q;exact absurd h q
 have same:∀i a,(gt ss i).own=true->(vs.map some)[i]? = some (some (.ref a))->σ'[i]? = some (some (.ref a)):=λi a h e=>r.mi i a (.inl ⟨h,e⟩)
 have sub:∀a,bO (vs.map some) (outS ss ρ') a->bO σ' ρ' a/\bO (vs.map some) ss a:=λa ⟨i,hi,e⟩=>by
  obtain⟨h1,h2⟩:=own' i hi
  exact⟨⟨i,h2,same i a h1 e⟩,⟨i,h1,e⟩⟩
 have v1:Same (hid H' (hs (F0 vs ss H Z) σ' ρ')) (hid H' (hs (F0 vs ss H Z) (vs.map some) (outS ss ρ'))):=br λa o e n=>⟨e,λz=>n (z.imp id λz=>(sub a z).1)⟩
 have v2:Same (hid H (hs (F0 vs ss H Z) (vs.map some) ss)) (hid H' (hs (F0 vs ss H Z) (vs.map some) (outS ss ρ'))):=br λa o e n=>⟨r.fr a o e λz=>n (.inr z),λz=>n (z.imp id λz=>(sub a z).2)⟩
 refine⟨⟨by rw[rF,r0.len],r.fr,r.zl,λa h=>r.zo a (sub a h).1,λi a hi e=>.inl ⟨⟨(own' i hi).1,e⟩,i,(own' i hi).1,e⟩,r0.mi,r.ml,r.ma,λi j a hi hj ei ej=>r0.nd i j a (own' i hi).1 (own' j hj).1 ei ej,λi=>?_⟩,v1,λi h=>(own' i h).1⟩
 rw[qr]
 split
 ·rename_i q
  obtain⟨l,o,e1,e2⟩:=(r0.sl i).alive q
  have:=same i l q e1
  rw[e1,<- this]
  exact(r.sl i).keep v1 λ_ _ _ _ e=>e
 ·rename_i q
  exact(r0.sl i).keep v2 λl o ho=>absurd ho q
theorem oF:∀(ρ:En) (n i:Nat),gt (ρ++o0 n .un) i=gt ρ i
 | [],n,i=>by
  show gt (o0 n .un) i = .un
  induction n generalizing i with
  | zero=>rfl
  | succ n ih=>cases i with
   | zero=>rfl
   | succ i=>exact ih i
 | s::ρ,n,0=>rfl
 | s::ρ,n,i+1=>oF ρ n i
theorem Rel.ext (r:Rel K F σ ρ H)(n:Nat):Rel K F (σ++o0 n none) (ρ++o0 n .un) H:=by
 have s:∀ {i a},(gt ρ i).own=true->(σ++o0 n none)[i]? = some (some (V.ref a))->σ[i]? = some (some (.ref a)):=λ{i a} h e=>by
  rwa [BY (by rw[r.len];exact kh h)]at e
 have sub:∀a,bO (σ++o0 n none) (ρ++o0 n .un) a->bO σ ρ a:=λa ⟨i,hi,e⟩=>by
  rw[oF]at hi
  exact⟨i,hi,s hi e⟩
 have vis:Same (hid H (hs F σ ρ)) (hid H (hs F (σ++o0 n none) (ρ++o0 n .un))):=br λa o e n=>⟨e,λz=>n (z.imp id (sub a))⟩
 refine⟨by simp[r.len],r.fr,r.zl,λa h=>r.zo a (sub a h),λi a hi e=>?_,λi a h=>?_,r.ml,r.ma,λi j a hi hj ei ej=>?_,λi=>?_⟩
 ·rw[oF]at hi
  exact r.ow i a hi (s hi e)
 ·have:=r.mi i a h
  rw[BY (kt.mp this).1];exact this
 ·rw[oF]at hi hj
  exact r.nd i j a hi hj (s hi ei) (s hj ej)
 ·rw[oF]
  have q:=r.sl i
  rcases B7 i σ.length with lt | ge
  ·rw[BY lt]
   exact q.keep vis λ_ _ _ _ e=>e
  ·rw[lT ρ i (by rw[<- r.len];exact ge)];trivial
end
theorem qJ {K:bi}{ps:List Str}{S:ASp}(hS:∀ss q,S ss q->ss.length=ps.length):∀vs H Q E,spA K S vs H Q E->vs.length=ps.length:=λvs H Q E h=>by
 obtain⟨ss,Z,q,r,hs',_⟩:=h
 have:=r.len
 rw[f8]at this
 rw[this];exact hS ss q hs'
theorem rY {P:wS}{w:B_}{K:bi}{mg:Str->Option bn}{base:Heap}{x:Str}{st:Stmt}{N ps:List Str}{a:AS}(pr:Nat->Bool)(S:ASp){f:Addr}{cdv:bn}{A:Cg}{outer:List Env}{s:ca}{H:Hp}{vs:List V}{Q:VK}{E:XK}
  (hbody:∃t,PSs (cxOf CX0 P w K mg base N x (ar st) f cdv A outer s H E).nox (bI st) t/\TSok K pr t a)
  (hS:∀ss q,S ss q->ss.length=ps.length/\yQ pr ss/\a ⟨λρ=>q (.d .non) (outS ss ρ),λr ρ=>fin pr r ρ λr' ρ'=>q r' (outS ss ρ'),λ_=>False,λ_=>False⟩ (ss++o0 (N.length - ps.length) .un))
  (h:spA K S vs H Q E):∃t,PSs (cxOf CX0 P w K mg base N x (ar st) f cdv A outer s H E).nox (bI st) t/\t {nx:=λ_ H'=>Q .non H',rt:=Q} (start N vs) H:=by
 have hl:=qJ (λss q h=>(hS ss q h).1) _ _ _ _ h
 obtain⟨ss,Z,q,r0,hs',post⟩:=h
 obtain⟨h1,h2,h3⟩:=hS ss q hs'
 obtain⟨t,ht,tok⟩:=hbody
 refine⟨t,ht,?_⟩
 have hp:∀i a,(F0 vs ss H Z).pin i a->pr i=true:=λi a h=>by
  rcases h with h | h
  ·exact h2 i h.1
  ·exact h.elim
 unfold start
 rw[hl]
 have fin_d:∀ σ' ρ' v H' d,q (.d d) (outS ss ρ')->Rel K (F0 vs ss H Z) σ' ρ' H'->RepD K (hid H' (hs (F0 vs ss H Z) σ' ρ')) v d->Q v H':=λσ' ρ' v H' d hq r rd=>by
  obtain⟨o1,o2,o3⟩:=r0.out r
  exact post (.d d) _ v H' hq o3 (λi z=>nomatch z) ⟨o1,rd.same o2⟩
 refine tok (F0 vs ss H Z) _ _ H _ _ hp (r0.ext _) h3 ⟨λσ' ρ' H' hq r=>?_,λ_ _ _ z=>z.elim,λ_ _ _ z=>z.elim,λσ' ρ' rr v H' hq r=>?_⟩
 ·exact fin_d σ' ρ' _ H' .non hq r (by unfold RepD;rfl)
 ·cases rr with
  | d d=>exact fin_d σ' ρ' v H' d hq r.1 r.2
  | t n=>exact hq.elim
  | x s =>
   obtain⟨ra,rb,rc⟩:=r
   obtain⟨o1,o2,o3⟩:=r0.out ra
   exact post (.x s) _ v H' hq o3 (λi z=>nomatch z) ⟨o1,rb,rc.keep o2 λl o ho=>by rw[rb]at ho;cases ho⟩
  | n sv =>
   obtain⟨Hb,l,o,a1,a2,a3,a4,a5,a6⟩:=r
   obtain⟨o1,o2,o3⟩:=r0.out a1
   exact post (.n sv) _ v H' hq o3 (λi z=>nomatch z) ⟨Hb,l,o,o1,a2,a3.keep o2 λ_ _ _ _ e=>e,a4,a5,a6⟩
  | o i =>
   obtain⟨r,ei⟩:=r
   have hq':(match gt ρ' i with
    | .ow ds=>if pr i=true then q (.d (.lst ds)) (outS ss (pt ρ' i (.vl (.lst ds))))else q (.n (.ow ds)) (outS ss (pt ρ' i .un))
    | .vl d=>q (.d d) (outS ss ρ')
    | .dk kvs=>if pr i=true then False else q (.n (.dk kvs)) (outS ss (pt ρ' i .un))
    | .dt kvs=>if pr i=true then False else q (.n (.dt kvs)) (outS ss (pt ρ' i .un))
    | _=>False):=hq
   clear hq
   split at hq'
   ·rename_i ds hg
    split at hq'
    ·obtain⟨l,el,r2,k2,rd⟩:=r.frz hg
     rw[ei]at el
     injection el with el;injection el with el;subst el
     exact fin_d σ' _ _ H' _ hq' r2 rd
    ·rename_i hpr
     have ho:(gt ρ' i).own=true:=by rw[hg];rfl
     obtain⟨l,o,hl',el,r2,sv⟩:=r.take ho λa z=>hpr (hp i a z)
     rw[ei]at el
     injection el with el;injection el with el;subst el
     obtain⟨o1,o2,o3⟩:=r0.out r2
     rw[hg]at sv
     refine post (.n (.ow ds)) _ _ H' hq' o3 (λi z=>nomatch z) ⟨del H' l,l,o,o1,rfl,?_,m7,(jm hl').symm,rfl⟩
     rw[jm hl']
     exact sv.keep o2 λ_ _ _ _ e=>e
   ·rename_i d hg
    have s:=r.sl i
    rw[hg,ei]at s
    obtain⟨x,e1,rd⟩:=s
    injection e1 with e1;injection e1 with e1;subst e1
    exact fin_d σ' ρ' _ H' d hq' r rd
   ·rename_i kvs hg
    split at hq'
    ·exact hq'.elim
    ·rename_i hpr
     have ho:(gt ρ' i).own=true:=by rw[hg];rfl
     obtain⟨l,o,hl',el,r2,sv⟩:=r.take ho λa z=>hpr (hp i a z)
     rw[ei]at el
     injection el with el;injection el with el;subst el
     obtain⟨o1,o2,o3⟩:=r0.out r2
     rw[hg]at sv
     refine post (.n (.dk kvs)) _ _ H' hq' o3 (λi z=>nomatch z) ⟨del H' l,l,o,o1,rfl,?_,m7,(jm hl').symm,rfl⟩
     rw[jm hl']
     exact sv.keep o2 λ_ _ _ _ e=>e
   ·rename_i kvs hg
    split at hq'
    ·exact hq'.elim
    ·rename_i hpr
     have ho:(gt ρ' i).own=true:=by rw[hg];rfl
     obtain⟨l,o,hl',el,r2,sv⟩:=r.take ho λa z=>hpr (hp i a z)
     rw[ei]at el
     injection el with el;injection el with el;subst el
     obtain⟨o1,o2,o3⟩:=r0.out r2
     rw[hg]at sv
     refine post (.n (.dt kvs)) _ _ H' hq' o3 (λi z=>nomatch z) ⟨del H' l,l,o,o1,rfl,?_,m7,(jm hl').symm,rfl⟩
     rw[jm hl']
     exact sv.keep o2 λ_ _ _ _ e=>e
   ·exact hq'.elim
theorem DefN.aok {P:wS}{w:B_}{K:bi}{mg:Str->Option bn}{base:Heap}{x:Str}{st:Stmt}{N ps:List Str}{k:Nat}{a:AS}(D:DefN K mg x st ps)(Sc:aP N ps (ar st))(pr:Nat->Bool)(S:ASp)
  (hbody:∀(f:Addr) (cdv:bn) (A:Cg) (outer:List Env) (s:ca) (H:Hp) (E:XK),Room k (A.deeper (E9 x (ar st) s.heap.objs.size f cdv)) ->
   ∃t,PSs (cxOf CX0 P w K mg base N x (ar st) f cdv A outer s H E).nox (bI st) t/\TSok K pr t a)
  (hS:∀ss q,S ss q->ss.length=ps.length/\yQ pr ss/\a ⟨λρ=>q (.d .non) (outS ss ρ),λr ρ=>fin pr r ρ λr' ρ'=>q r' (outS ss ρ'),λ_=>False,λ_=>False⟩ (ss++o0 (N.length - ps.length) .un)):OkN P w K mg base (k+1) x ps (spA K S) :=
 D.ok Sc (qJ λss q h=>(hS ss q h).1) λf cdv A outer s H vs Q E hr h=>rY pr S (hbody f cdv A outer s H E hr) hS h
def SLaw:ASp:=λss q=>∃ns:List Int,ns.length<=63/\ss=[.sc ns]/\∀ss',q (.d (.bl true)) ss'
theorem AD {P:wS}{w:B_}{K:bi}{mg:Str->Option bn}{base:Heap}{k:Nat}{x:Str}{ps:List Str}(h:OkN P w K mg base k x ps (spA K SLaw)):OkN P w K mg base k x ps (yu K):=by
 obtain⟨f,fd,a1,a2,a3,a4,g⟩:=h.ex
 refine⟨f,fd,a1,a2,a3,a4,g.imp λvs H Q E hq=>?_⟩
 obtain⟨a,ns,rfl,sq,hl,k⟩:=hq
 refine⟨[.sc ns],λ_=>False,λr _=>r = .d (.bl true),⟨rfl,λa o e _=>e,λa z=>z.elim,λa _ z=>z,λi a hi _=>?_,λi a h=>?_,λa h=>?_,λa h=>?_,λi j a hi=>?_,λi=>?_⟩,⟨ns,hl,rfl,λ_=>rfl⟩,λr ss' v H' e1 _ _ rr=>?_⟩
 ·exfalso;cases i with
  | zero=>cases hi
  | succ i=>cases hi
 ·rcases h with h | h
  ·cases i with
   | zero=>cases h.1
   | succ i=>cases h.1
  ·exact h.elim
 ·obtain⟨i,hi,_⟩:=h
  cases i with
  | zero=>cases hi
  | succ i=>cases hi
 ·obtain⟨i,hi,_⟩:=h
  cases i with
  | zero=>cases hi
  | succ i=>cases hi
 ·exfalso;cases i with
  | zero=>cases hi
  | succ i=>cases hi
 ·cases i with
  | succ i=>trivial
  | zero =>
   refine⟨a,rfl,?_⟩
   refine(show Same H (hid H _)from λb o e=>gB (λz=>?_) e).seq sq
   rcases z with z | ⟨i,hi,_⟩
   ·exact z
   ·cases i with
    | zero=>cases hi
    | succ i=>cases hi
 ·subst e1
  obtain⟨_,rd⟩:=rr
  unfold RepD at rd
  subst rd
  exact k H'
def uf (K:bi):Sp:=λvs H Q _=>∃(t c:Addr) (m sp lf:Int) (ns:List Int) (n:Nat),vs=[.ref t,.int m]/\H t=some (.dK (cM c sp lf))/\SqL K H c (ns.map V.int)/\0<=sp/\sp<=n/\0<=lf/\n<1000000000000/\Dv m /\
 ∀(r:Nat) (sp' lf':Int),(r:Int)<m->0<=sp'->sp'<=(n+1:Nat)->0<=lf'->Q (.int (r:Nat)) (upd H t (.dK (cM c sp' lf')))
def ud (K:bi):Sp:=λvs H Q _=>∃(a:Addr) (ns:List Int),vs=[.ref a]/\SqL K H a (ns.map V.int) /\
 ∀t c,H t=none->H c=none->t≠c->Q (.ref t) (upd (upd H c (.lst ((ns.take 63).map V.int))) t (.dK (cM c 0 0)))
def zK:ASp:=λss q=>∃ns:List Int,ss=[.sc ns]/\q (.n (.tp 0)) [.sc ns]
def xF:ASp:=λss q=>∃(n:Nat) (m:Int),ss=[.tp n,.vl (.int m)]/\n<1000000000000/\Dv m/\∀r:Nat,(r:Int)<m->q (.d (.int r)) [.tp (n+1),.vl (.int m)]
theorem OkN.imp {P:wS}{w:B_}{K:bi}{mg:Str->Option bn}{base:Heap}{k:Nat}{x:Str}{ps:List Str}{sp sp':Sp}(h:OkN P w K mg base k x ps sp)(i:∀vs H Q E,sp' vs H Q E->sp vs H Q E):OkN P w K mg base k x ps sp':=by
 obtain⟨f,fd,a1,a2,a3,a4,g⟩:=h.ex
 exact⟨f,fd,a1,a2,a3,a4,g.imp i⟩
theorem Bd {vs:List V}{s:Sv}{F:Fr}{K:bi}{H:Hp}(r:Rel K F (vs.map some) [s] H):∃x,vs=[x]:=by
 have:=r.len
 match vs,this with
 | [x],_=>exact⟨x,rfl⟩
theorem Bc {vs:List V}{s s':Sv}{F:Fr}{K:bi}{H:Hp}(r:Rel K F (vs.map some) [s,s'] H):∃x y,vs=[x,y]:=by
 have:=r.len
 match vs,this with
 | [x,y],_=>exact⟨x,y,rfl⟩
theorem zy {K:bi}(vs:List V)(H:Hp)(Q:VK)(E:XK)(h:spA K xF vs H Q E):uf K vs H Q E:=by
 obtain⟨ss,Z,q,r,⟨n,m,rfl,hn,hm,hq⟩,post⟩:=h
 obtain⟨x,y,rfl⟩:=Bc r
 obtain⟨t,c,ns,sp,lf,e0,ht,hc,h1,h2,h3⟩:=r.sl 0
 obtain⟨y',e1,ry⟩:=r.sl 1
 unfold RepD at ry
 injection e0 with e0;injection e0 with e0;subst e0
 injection e1 with e1;injection e1 with e1
 subst e1 ry
 refine⟨t,c,m,sp,lf,ns,n,rfl,ht,cg.seq hc,h1,h2,h3,hn,hm,λrr sp' lf' hr a1 a2 a3=>?_⟩
 have hw:=r.write (i:=0) (l:=t) (o:=.dK (cM c sp' lf')) (s:=.tp (n+1)) rfl rfl rfl ⟨t,c,ns,sp',lf',rfl,aR,hc,a1,a2,a3⟩
 refine post (.d (.int rr)) [.tp (n+1),.vl (.int m)] _ _ (hq rr hr) (λi h=>?_) (λi z=>nomatch z) ⟨hw.1,by unfold RepD;rfl⟩
 match i,h with
 | 0,_=>rfl
 | 1,h=>cases h
 | i+2,h=>cases h
theorem yp {K:bi}(vs:List V)(H:Hp)(Q:VK)(E:XK)(h:spA K zK vs H Q E):ud K vs H Q E:=by
 obtain⟨ss,Z,q,r,⟨ns,rfl,hq⟩,post⟩:=h
 obtain⟨x,rfl⟩:=Bd r
 obtain⟨a,e0,sq⟩:=r.sl 0
 injection e0 with e0;injection e0 with e0;subst e0
 refine⟨a,ns,rfl,cg.seq sq,λt c ht hc htc=>?_⟩
 have rc:=r.fresh (o:=.lst ((ns.take 63).map V.int)) hc
 have kc:Kp ([V.ref a].map some) [.sc ns] [.sc ns] H (upd H c (.lst ((ns.take 63).map V.int))):=Kp.fresh hc
 have ht':(upd H c (.lst ((ns.take 63).map V.int))) t=none:=by rw[aQ htc];exact ht
 refine post (.n (.tp 0)) _ _ _ hq (λi h=>h) (λi z=>nomatch z) ⟨_,t,_,rc,rfl,⟨t,c,ns.take 63,0,0,rfl,aR,SqL.of (gB (iQ r hc) aR),by decide,by decide,by decide⟩,ht',rfl,rfl⟩
section
variable {K:bi}{F:Fr}{σ:St}{ρ ρ':En}{H H':Hp}{ta tb tc:TE}{a b c:AE}{rr rr':R2}{g g':R->R->AE}
def Bj (g g':R->R->AE)(a b c:AE):AE:=λρ q=>a ρ λr1 ρ1=>b ρ1 λr2 ρ2=>g r1.frz r2.frz ρ2 λr3 ρ3=>match r3 with
 | .d (.bl k)=>if k=true then c ρ3 λr4 ρ4=>g' r2.frz r4.frz ρ4 q else q (.d (.bl false)) ρ3
 | _=>False
theorem j0 (ho:OpOk K rr g)(ho':OpOk K rr' g')(ha:TEok K ta a)(hb:TEok K tb b)(hc:TEok K tc c):TEok K (xM rr rr' ta tb tc) (Bj g g' a b c):=by
 intro F σ ρ H q Q r h k
 refine ha F σ ρ H _ _ r h λr1 ρ1 x H1 h1 o1=>?_
 obtain⟨r1',k1,i1⟩:=o1.inF
 refine hb F σ ρ1 H1 _ _ r1' h1 λr2 ρ2 y H2 h2 o2=>?_
 obtain⟨r2',k2,i2⟩:=o2.inF
 refine ho F σ ρ2 H2 x y _ _ _ _ r2' (i1.keep k2) i2 h2 λr3 ρ3 z H3 h3 o3=>?_
 obtain⟨r3',k3,i3⟩:=o3.inF
 split at h3
 ·rename_i kk
  refine⟨kk,i3.blv,?_⟩
  cases kk with
  | false=>exact(((k.after k1).after k2).after k3).bl r3' h3
  | true =>
   refine hc F σ ρ3 H3 _ _ r3' h3 λr4 ρ4 w H4 h4 o4=>?_
   obtain⟨r4',k4,i4⟩:=o4.inF
   exact ho' F σ ρ4 H4 y w _ _ q Q r4' ((i2.keep k3).keep k4) i4 h4 ((((k.after k1).after k2).after k3).after k4)
 ·exact h3.elim
def u6:D->Bool
 | .non=>true
 | _=>false
def isEx (ρ:En):R->Bool
 | .o i=>(match gt ρ i with | .ex _ _=>true | _=>false)
 | _=>false
def gIsN (neg:Bool):R->R->AE:=λr1 r2 ρ q=>match view ρ r1,r2 with
 | some d,.d .non=>q (.d (.bl (if neg then !u6 d else u6 d))) ρ
 | none,.d .non=>isEx ρ r1=true/\q (.d (.bl neg)) ρ
 | _,_=>False
theorem w_ {F:Fr}{σ:St}{ρ:En}{H:Hp}{x:V}{r1:R}(a:Rel K F σ ρ H)(h1:InF K F σ ρ H x r1)(h:isEx ρ r1=true):∃e,x = .ref e:=by
 cases r1 with
 | d d=>cases h
 | n s=>cases h
 | t n=>cases h
 | x n=>cases h
 | o i =>
  have q:=a.sl i
  cases hg:gt ρ i with
  | ex C fs =>
   rw[hg]at q
   obtain⟨e,od,e1,_⟩:=q
   rw[show σ[i]? = _ from h1]at e1
   injection e1 with e1;injection e1 with e1
   exact⟨e,e1⟩
  | _=>exact absurd h (by show ¬(match gt ρ i with | .ex _ _=>true | _=>false)=true;rw[hg];exact λz=>nomatch z)
theorem u5 {x:V}{d:D}(h:RepD K H x d):decide (x=V.non)=u6 d:=by
 cases d with
 | non=>unfold RepD at h;subst h;rfl
 | bl b=>unfold RepD at h;subst h;rfl
 | int b=>unfold RepD at h;subst h;rfl
 | str b=>unfold RepD at h;subst h;rfl
 | tup ds=>unfold RepD at h;obtain⟨a,vs,rfl,_⟩:=h;rfl
 | lst ds=>unfold RepD at h;obtain⟨a,vs,rfl,_⟩:=h;rfl
theorem yT:OpOk K (λx y H Q=>y = .non/\Q (.bl (decide (x = .non))) H) (gIsN false):=by
 intro F σ ρ H x y r1 r2 q Q a h1 h2 h b
 unfold gIsN at h
 split at h
 ·rename_i d e
  unfold InF RepD at h2
  refine⟨h2,?_⟩
  rw[u5 (dW a h1 e)]
  exact b.bl a h
 ·unfold InF RepD at h2
  obtain⟨h',h⟩:=h
  obtain⟨e,rfl⟩:=w_ a h1 h'
  refine⟨h2,?_⟩
  rw[decide_eq_false (λz=>nomatch z)]
  exact b.bl a h
 ·exact h.elim
def m3:D->Bool
 | .tup _=>false
 | .lst _=>false
 | _=>true
def inD (d:D)(ds:List D):Bool:=ds.any λe=>eqD e d
@[irreducible] def gIn (neg:Bool):R->R->AE:=λr1 r2 ρ q=>match view ρ r1,view ρ r2 with
 | some d,some (.lst ds)=>(m3 d=true/\ds.all m3=true)/\q (.d (.bl (if neg then !inD d ds else inD d ds))) ρ
 | some d,some (.tup ds)=>(m3 d=true/\ds.all m3=true)/\q (.d (.bl (if neg then !inD d ds else inD d ds))) ρ
 | _,_=>False
theorem mZ {x:V}{d:D}(h:RepD K H x d)(f:m3 d=true):jH x=true:=by
 cases d with
 | tup ds=>cases f
 | lst ds=>cases f
 | non=>unfold RepD at h;subst h;rfl
 | bl b=>unfold RepD at h;subst h;rfl
 | int b=>unfold RepD at h;subst h;rfl
 | str b=>unfold RepD at h;subst h;rfl
theorem zw {x y:V}{d e:D}(h:RepD K H x d)(h':RepD K H y e)(f:m3 d=true)(f':m3 e=true):eqV x y=eqD d e:=by
 cases d with
 | tup ds=>cases f
 | lst ds=>cases f
 | non=>unfold RepD at h;subst h;cases e with
  | tup ds=>cases f'
  | lst ds=>cases f'
  | non=>unfold RepD at h';subst h';simp[eqV,eqD]
  | bl b=>unfold RepD at h';subst h';simp[eqV,eqD]
  | int b=>unfold RepD at h';subst h';simp[eqV,eqD]
  | str b=>unfold RepD at h';subst h';simp[eqV,eqD]
 | bl b=>unfold RepD at h;subst h;cases e with
  | tup ds=>cases f'
  | lst ds=>cases f'
  | non=>unfold RepD at h';subst h';simp[eqV,eqD]
  | bl b=>unfold RepD at h';subst h';simp[eqV,eqD]
  | int b=>unfold RepD at h';subst h';simp[eqV,eqD]
  | str b=>unfold RepD at h';subst h';simp[eqV,eqD]
 | int b=>unfold RepD at h;subst h;cases e with
  | tup ds=>cases f'
  | lst ds=>cases f'
  | non=>unfold RepD at h';subst h';simp[eqV,eqD]
  | bl b=>unfold RepD at h';subst h';simp[eqV,eqD]
  | int b=>unfold RepD at h';subst h';simp[eqV,eqD]
  | str b=>unfold RepD at h';subst h';simp[eqV,eqD]
 | str b=>unfold RepD at h;subst h;cases e with
  | tup ds=>cases f'
  | lst ds=>cases f'
  | non=>unfold RepD at h';subst h';simp[eqV,eqD]
  | bl b=>unfold RepD at h';subst h';simp[eqV,eqD]
  | int b=>unfold RepD at h';subst h';simp[eqV,eqD]
  | str b=>unfold RepD at h';subst h';simp[eqV,eqD]
theorem va {x:V}{d:D}(h:RepD K H x d)(f:m3 d=true):∀ {vs:List V} {ds:List D},RepDs K H vs ds->ds.all m3=true->vs.all jH=true/\inV x vs=inD d ds
 | [],[],_,_=>⟨rfl,rfl⟩
 | v::vs,e::ds,hr,fa=>by
  unfold RepDs at hr
  rw[FD,BX]at fa
  obtain⟨q1,q2⟩:=va h f hr.2 fa.2
  refine⟨by rw[FD,mZ hr.1 fa.1,q1];rfl,?_⟩
  unfold inV inD at *
  rw[DC,DC,q2,zw hr.1 h fa.1 f]
 | [],d::ds,h,_=>by unfold RepDs at h;exact h.elim
 | v::vs,[],h,_=>by unfold RepDs at h;exact h.elim
theorem jw (neg:Bool):OpOk K (rIn K neg) (gIn neg):=by
 intro F σ ρ H x y r1 r2 q Q a h1 h2 h b
 unfold gIn at h
 split at h
 ·rename_i d ds e1 e2
  obtain⟨⟨f1,f2⟩,h⟩:=h
  have rx:=dW a h1 e1
  obtain⟨l,vs,rfl,sq,rd⟩:=cG a h2 e2
  obtain⟨q1,q2⟩:=va rx f1 (rd.same cg) f2
  refine⟨l,vs,rfl,.inl sq,mZ rx f1,q1,?_⟩
  rw[q2]
  exact b.bl a h
 ·rename_i d ds e1 e2
  obtain⟨⟨f1,f2⟩,h⟩:=h
  have rx:=dW a h1 e1
  obtain⟨l,vs,rfl,sq,rd,_⟩:=il a h2 e2
  obtain⟨q1,q2⟩:=va rx f1 (rd.same cg) f2
  refine⟨l,vs,rfl,.inr sq,mZ rx f1,q1,?_⟩
  rw[q2]
  exact b.bl a h
 ·exact h.elim
end
theorem d5 {c:En->Prop}{g:AG}{b:AS}{e:pb}(I:Nat->En->Prop){ds:List D}(hc:∀k ρ,k<=ds.length->I k ρ->c ρ)
  (hs:∀(k:Nat) d ρ (N:En->Prop),ds[k]? = some d->I k ρ->(∀ ρ',I (k+1) ρ'->N ρ')->g d ρ λρ1=>b {nx:=N,ct:=N,bk:=e.nx,rt:=e.rt} ρ1) (hd:∀ ρ,I ds.length ρ->e.nx ρ):∀ ρ,I 0 ρ->forA c g b e ds ρ:=by
 have go:∀(es:List D) (k:Nat),ds.drop k=es->k<=ds.length->∀ ρ,I k ρ->forA c g b e es ρ:=by
  intro es
  induction es with
  | nil =>
   intro k h hk ρ i
   have:ds.length<=k:=E6.mp h
   have:k=ds.length:=by omega
   subst this
   unfold forA
   exact⟨hc _ ρ (lm _) i,hd ρ i⟩
  | cons d es ih =>
   intro k h hk ρ i
   have lt:k<ds.length:=by
    rcases B7 k ds.length with q | q
    ·exact q
    ·rw[CH q]at h;cases h
   rw[Cf lt]at h
   injection h with h1 h2
   unfold forA
   exact⟨hc k ρ hk i,hs k d ρ _ (by rw[<- h1];exact bv lt) i (λρ' i'=>ih (k+1) h2 lt ρ' i')⟩
 exact go ds 0 rfl (B0 _)
theorem gJ {n:Nat}{js:List Nat}{c:En->Prop}{g:AG}{tc:AT}{te:AE}{q:List D->En->Prop}(I:Nat->List D->En->Prop){ds:List D}(hc:∀k acc ρ,k<=ds.length->I k acc ρ->c ρ)
  (hs:∀(k:Nat) d acc ρ (N:List D->En->Prop),ds[k]? = some d->I k acc ρ->(∀acc' ρ',I (k+1) acc' ρ'->N acc' ρ') ->
   g d (blkE n js ρ) λρ1=>tc ρ1 λb ρ2=>if b=true then te ρ2 λr ρ3=>sto [r.frz] ρ3 λes ρ4=>N (acc++es) (back ρ (js.map R.o) (ρ4.drop n))else N acc (back ρ (js.map R.o) (ρ2.drop n)))
  (hd:∀acc ρ,I ds.length acc ρ->q acc ρ):∀ ρ,I 0 [] ρ->f7 n js c g tc te q ds [] ρ:=by
 have go:∀(es:List D) (k:Nat),ds.drop k=es->k<=ds.length->∀acc ρ,I k acc ρ->f7 n js c g tc te q es acc ρ:=by
  intro es
  induction es with
  | nil =>
   intro k h hk acc ρ i
   have:ds.length<=k:=E6.mp h
   have:k=ds.length:=by omega
   subst this
   unfold f7
   exact⟨hc _ acc ρ (lm _) i,hd acc ρ i⟩
  | cons d es ih =>
   intro k h hk acc ρ i
   have lt:k<ds.length:=by
    rcases B7 k ds.length with q | q
    ·exact q
    ·rw[CH q]at h;cases h
   rw[Cf lt]at h
   injection h with h1 h2
   unfold f7
   exact⟨hc k acc ρ hk i,hs k d acc ρ (λacc' ρ'=>f7 n js c g tc te q es acc' ρ') (by rw[<- h1];exact bv lt) i (λacc' ρ' i'=>ih (k+1) h2 lt acc' ρ' i')⟩
 exact go ds 0 rfl (B0 _) []
theorem tj {n:Nat}{js:List Nat}{c:En->Prop}{g:AG}{tc:AT}{te:AE}{q:List D->En->Prop}(f:Nat->D->List D){ds:List D}(ρ:En)(hc:c ρ)
  (hs:∀(k:Nat) d acc (N:List D->En->Prop),ds[k]? = some d->N (acc++f k d) ρ ->
   g d (blkE n js ρ) λρ1=>tc ρ1 λb ρ2=>if b=true then te ρ2 λr ρ3=>sto [r.frz] ρ3 λes ρ4=>N (acc++es) (back ρ (js.map R.o) (ρ4.drop n))else N acc (back ρ (js.map R.o) (ρ2.drop n)))
  (hd:q (ds.zipIdx.map λp=>f p.2 p.1).flatten ρ):f7 n js c g tc te q ds [] ρ:=by
 refine gJ (λk acc ρ'=>ρ'=ρ/\acc=((ds.take k).zipIdx.map λp=>f p.2 p.1).flatten) (λk acc ρ' _ h=>h.1▸hc) ?_ ?_ ρ ⟨rfl,rfl⟩
 ·rintro k d acc _ N hk ⟨rfl,rfl⟩ hN
  refine hs k d _ N hk (hN _ _ ⟨rfl,?_⟩)
  have lt:=(kt.mp hk).1
  rw[CG,hk,DP,List.zipIdx_append,Cb,List.flatten_append,B6,Fc (by omega)]
  simp
 ·rintro acc _ ⟨rfl,rfl⟩
  rw[Cp];exact hd
theorem vD {n:Nat}{js:List Nat}{c:En->Prop}{g:AG}{tc:AT}{te:AE}{q:List D->En->Prop}(f:D->D){ds:List D}(ρ:En)(hc:c ρ)
  (hs:∀d acc (N:List D->En->Prop),d∈ds->N (acc++[f d]) ρ ->
   g d (blkE n js ρ) λρ1=>tc ρ1 λb ρ2=>if b=true then te ρ2 λr ρ3=>sto [r.frz] ρ3 λes ρ4=>N (acc++es) (back ρ (js.map R.o) (ρ4.drop n))else N acc (back ρ (js.map R.o) (ρ2.drop n)))
  (hd:q (ds.map f) ρ):f7 n js c g tc te q ds [] ρ:=by
 refine tj (λ_ d=>[f d]) ρ hc (λk d acc N hk hN=>hs d acc N (Cd hk) hN) ?_
 have:(ds.zipIdx.map λp=>[f p.1]).flatten=ds.map f:=by
  rw[<- List.flatMap_def,show(ds.zipIdx.flatMap λp=>[f p.1])=(ds.zipIdx.map λp=>f p.1)from by rw[List.map_eq_flatMap]]
  rw[show(λp:D×Nat=>f p.1)=f ∘ B1 from rfl,<- B3,List.zipIdx_map_fst]
 rw[this];exact hd
theorem ph {c:AT}{b:AS}{e:pb}(I:En->Prop)(μ:En->Nat)
  (hs:∀ ρ (N:En->Prop),I ρ->(∀ ρ',I ρ'->μ ρ'<μ ρ->N ρ')->c ρ λk ρ1=>if k=true then b {nx:=N,ct:=N,bk:=e.nx,rt:=e.rt} ρ1 else e.nx ρ1):∀ ρ,I ρ->yc c b e ρ:=by
 have go:∀(n:Nat) ρ,I ρ->μ ρ<n->whA c b e n ρ:=by
  intro n
  induction n with
  | zero=>intro ρ _ h;omega
  | succ n ih=>intro ρ i h;exact hs ρ _ i λρ' i' lt=>ih ρ' i' (by omega)
 exact λρ i=>⟨μ ρ+1,go _ ρ i (by omega)⟩
section
variable {X:Cx}(K:bi)
def Ae (K:bi):R2:=λx y H Q=>∃a b xs ys,x = .ref a/\y = .ref b/\SqL K H a xs/\SqL K H b ys/\xs.length+ys.length<=1000000/\∀p,H p=none->Q (.ref p) (upd H p (.lst (xs++ys)))
theorem jd (hK:X.K=K:=by rfl):OpR X (EY .Add) (Ae K):=by
 subst hK
 intro pins s σ H x y v u Q I rx ry h
 obtain⟨a,b,xs,ys,rfl,rfl,ha,hb,hz,q⟩:=h
 cases rx
 cases ry
 obtain⟨its,r1,p1,_⟩:=I.list ha
 obtain⟨its2,r2,p2,_⟩:=I.list hb
 have hz':its.length+its2.length<=wT:=small (by rw[<- r1.length,<- r2.length];exact hz)
 obtain⟨⟨cls,dd,data,sl⟩,ho,hc,n,hd⟩:=p1.isList
 obtain⟨⟨cls2,dd2,data2,sl2⟩,ho2,hc2,n2,hd2⟩:=p2.isList
 simp only at hc hd hc2 hd2
 subst hc hd hc2 hd2
 refine concat_meets ⟨_,ho,rfl⟩ ⟨_,ho2,rfl⟩ noFill_list_add seq_list_add PySem.F.slot_list_add PySem.F.entry_list_add (PySem.F.args_list_add_2 _ _) (list_addW a b its.toArray its2.toArray n n2 dd dd2 sl sl2 (by rw[on,on];exact hz')) ⟨ho,ho2,?_⟩
 refine⟨.ref s.heap.objs.size,_,I.laid (t':=s.toks) (o:=.lst (xs++ys)) (λb ob q=>db _ q) (lm _) ?_,rfl,q _ (I.hok.fresh (lm _))⟩
 refine⟨by rw[wP];exact small hz,_,0,r1.append r2,?_⟩
 rw[show(its++its2).toArray=its.toArray++its2.toArray by simp]
 exact wn _ rfl
variable {e st:Expr}{te:TE}{ts:TO}{pos p2:Pos}
end
section
variable {K:bi}{ta te:TE}{a ae:AE}{ts:TA}{as:AA}
def gCat:R->R->AE:=λr1 r2 ρ q=>match view ρ r1,view ρ r2 with
 | some (.lst ds),some (.lst es)=>ds.length+es.length<=1000000/\q (.f (ds++es)) ρ
 | _,_=>False
theorem je:OpOk K (Ae K) gCat:=by
 intro F σ ρ H x y r1 r2 q Q a h1 h2 h b
 unfold gCat at h
 split at h
 ·rename_i ds es e1 e2
  obtain⟨l,vs,rfl,sq,rd⟩:=cG a h1 e1
  obtain⟨l2,vs2,rfl,sq2,rd2⟩:=cG a h2 e2
  exact⟨l,l2,vs,vs2,rfl,rfl,sq,sq2,by rw[rd.length,rd2.length];exact h.1,λp hp=>b.new a h.2 (rd.append rd2) hp⟩
 ·exact h.elim
def BN (a:AE):AE:=λρ q=>a ρ λr ρ1=>match r with
 | .d (.int j)=>(0<=j/\j<=1000000)/\q (.f (ao (wl j.toNat))) ρ1
 | _=>False
theorem wd (ha:TEok K ta a):TEok K (tCB (λxs H Q=>∃(p:Addr) (n:Nat),xs=[.ref p]/\H p=some (.rng 0 (n:Nat))/\n<=1000000/\∀l,H l=none->Q (.ref l) (upd H l (.lst (qf (wl n)))))
  (ua (tCB (λxs H Q=>∃j:Int,xs=[.int j]/\∀p,H p=none->Q (.ref p) (upd H p (.rng 0 j))) (ua ta tNil)) tNil)) (BN a):=by
 intro F σ ρ H q Q r h k
 refine ha F σ ρ H _ _ r h λr1 ρ1 x H1 h1 rel1=>?_
 obtain⟨r',k1,i1⟩:=rel1.inF
 split at h1
 ·rename_i j
  obtain⟨⟨h0,h2⟩,h1⟩:=h1
  obtain⟨n,rfl⟩:=C6 h0
  refine⟨_,by rw[i1.int],λp hp=>⟨p,n,rfl,aR,by omega,λl hl=>?_⟩⟩
  have rp:=r'.fresh (o:=.rng 0 (n:Nat)) hp
  refine((k.after k1).after (Kp.fresh hp)).new rp h1 ?_ hl
  rw[CB]
  exact yA.mpr rfl
 ·exact h1.elim
end
abbrev nD (n:Nat):D:=.int (n:Nat)
abbrev nv (n:Nat):Sv:=.vl (.int (n:Nat))
def ownB (pr:Nat->Bool):En->Nat->Bool
 | [],_=>true
 | s::ss,i=>(!s.own||pr i)&&ownB pr ss (i+1)
theorem pR {pr:Nat->Bool}:∀ {ss:En} {j:Nat},ownB pr ss j=true->∀i,(gt ss i).own=true->pr (j+i)=true
 | [],_,_,i,h=>by cases h
 | s::ss,j,hb,0,h=>by
  simp only[ownB,BX,FU,C3]at hb
  rcases hb.1 with q | q
  ·rw[show(gt (s::ss) 0)=s from rfl,q]at h;cases h
  ·exact q
 | s::ss,j,hb,i+1,h=>by
  simp only[ownB,BX]at hb
  have:=pR hb.2 i h
  rwa [show j+1+i=j+(i+1)by omega]at this
theorem DefN.aok2 {P:wS}{w:B_}{K:bi}{mg:Str->Option bn}{base:Heap}{x:Str}{st:Stmt}{N ps:List Str}{k:Nat}{a:AS}(D:DefN K mg x st ps)(Sc:aP N ps (ar st))(pr:Nat->Bool)(us:En)(S:ASp)(hus:o0 (N.length - ps.length) Sv.un=us)
  (hbody:∀(f:Addr) (cdv:bn) (A:Cg) (outer:List Env) (s:ca) (H:Hp) (E:XK),Room k (A.deeper (E9 x (ar st) s.heap.objs.size f cdv)) ->
   ∃t,PSs (cxOf CX0 P w K mg base N x (ar st) f cdv A outer s H E).nox (bI st) t/\TSok K pr t a)
  (hS:∀ss q,S ss q->ss.length=ps.length/\ownB pr ss 0=true/\a ⟨λρ=>q (.d .non) (outS ss ρ),λr ρ=>fin pr r ρ λr' ρ'=>q r' (outS ss ρ'),λ_=>False,λ_=>False⟩ (ss++us)):OkN P w K mg base (k+1) x ps (spA K S) :=
 D.aok Sc pr S hbody λss q h=>⟨(hS ss q h).1,λi hi=>by have:=pR (hS ss q h).2.1 i hi;rwa [C5]at this,by rw[hus];exact(hS ss q h).2.2⟩
theorem rh {lo:Int}{n k:Nat}{d:D}(h:(rngD lo n)[k]? = some d):k<n/\d = .int (lo+k):=by
 unfold rngD at h
 rw[wv]at h
 obtain⟨j,e1,e2⟩:=BZ.mp h
 have lt:k<n:=by
  rcases B7 k n with q | q
  ·exact q
  ·rw[Dy (by simpa using q)]at e1;cases e1
 rw[Ff lt]at e1
 cases e1
 exact⟨lt,e2.symm⟩
abbrev yk (n:Nat)(js:List Nat)(g:AG)(tc:AT)(te:AE)(ρ:En)(d:D)(acc:List D)(N:List D->En->Prop):Prop :=
 g d (blkE n js ρ) λρ1=>tc ρ1 λb ρ2=>if b=true then te ρ2 λr ρ3=>sto [r.frz] ρ3 λes ρ4=>N (acc++es) (back ρ (js.map R.o) (ρ4.drop n))else N acc (back ρ (js.map R.o) (ρ2.drop n))
section
variable {n:Nat}{js:List Nat}{c:En->Prop}{g:AG}{tc:AT}{te:AE}{q:List D->En->Prop}
theorem iU {lo:Int}{m:Nat}(f:Nat->D){ρ:En}(hc:c ρ)(hs:∀k acc (N:List D->En->Prop),k<m->N (acc++[f k]) ρ->yk n js g tc te ρ (.int (lo+k)) acc N)
  (hd:q ((wl m).map f) ρ):f7 n js c g tc te q (rngD lo m) [] ρ:=by
 refine gJ (λk acc ρ'=>k<=m/\ρ'=ρ/\acc=(wl k).map f) (λk acc ρ' _ h=>h.2.1▸hc) ?_ ?_ ρ ⟨B0 _,rfl,rfl⟩
 ·rintro k d acc _ N hk ⟨_,rfl,rfl⟩ hN
  obtain⟨lt,rfl⟩:=rh hk
  refine hs k _ N lt (hN _ _ ⟨lt,rfl,?_⟩)
  rw[DL,Cb];rfl
 ·rintro acc _ ⟨_,rfl,rfl⟩
  rw[cT];exact hd
theorem gH {α:Type}(h:α->D)(f:α->D){xs:List α}{ρ:En}(hc:c ρ)(hs:∀x acc (N:List D->En->Prop),x∈xs->N (acc++[f x]) ρ->yk n js g tc te ρ (h x) acc N)
  (hd:q (xs.map f) ρ):f7 n js c g tc te q (xs.map h) [] ρ:=by
 refine gJ (λk acc ρ'=>ρ'=ρ/\acc=(xs.take k).map f) (λk acc ρ' _ h=>h.1▸hc) ?_ ?_ ρ ⟨rfl,rfl⟩
 ·rintro k d acc _ N hk ⟨rfl,rfl⟩ hN
  rw[wv]at hk
  obtain⟨x,e1,rfl⟩:=BZ.mp hk
  refine hs x _ N (Cd e1) (hN _ _ ⟨rfl,?_⟩)
  rw[CG,e1,DP,Cb];rfl
 ·rintro acc _ ⟨rfl,rfl⟩
  rw[f8,Cp];exact hd
end
section
variable {c:En->Prop}{g:AG}{b:AS}{e:pb}
theorem xk {lo:Int}{m:Nat}(I:Nat->En->Prop)(hc:∀k ρ,I k ρ->c ρ)(hs:∀(k:Nat) ρ (N:En->Prop),k<m->I k ρ->(∀ ρ',I (k+1) ρ'->N ρ')->g (.int (lo+k)) ρ λρ1=>b {nx:=N,ct:=N,bk:=e.nx,rt:=e.rt} ρ1)
  (hd:∀ ρ,I m ρ->e.nx ρ) {ρ:En} (h0:I 0 ρ):forA c g b e (rngD lo m) ρ:=by
 refine d5 I (λk ρ _ h=>hc k ρ h) (λk d ρ N hk h hN=>?_) (λρ h=>hd ρ (by rwa [cT]at h)) ρ h0
 obtain⟨lt,rfl⟩:=rh hk
 exact hs k ρ N lt h hN
theorem iR {α:Type}(h:α->D){xs:List α}(I:Nat->En->Prop)(hc:∀k ρ,I k ρ->c ρ)(hs:∀(k:Nat) x ρ (N:En->Prop),xs[k]? = some x->I k ρ->(∀ ρ',I (k+1) ρ'->N ρ')->g (h x) ρ λρ1=>b {nx:=N,ct:=N,bk:=e.nx,rt:=e.rt} ρ1)
  (hd:∀ ρ,I xs.length ρ->e.nx ρ) {ρ:En} (h0:I 0 ρ):forA c g b e (xs.map h) ρ:=by
 refine d5 I (λk ρ _ h=>hc k ρ h) (λk d ρ N hk h' hN=>?_) (λρ h=>hd ρ (by rwa [f8]at h)) ρ h0
 rw[wv]at hk
 obtain⟨x,e1,rfl⟩:=BZ.mp hk
 exact hs k x ρ N e1 h' hN
end
theorem xy {xs:List Nat}{i:Nat}(h:i<xs.length):atI (ao xs) ((i:Nat):Int)=some (.int (xs.getD i 0:Nat)):=by
 refine ny ?_
 unfold ao
 rw[wv,bv h]
 simp[h]
theorem bt {r1:R}{ρ:En}{q:Ko}{xs:List Nat}{i:Nat}(hv:view ρ r1=some (.lst (ao xs)))(h:i<xs.length)(hq:q (.d (.int (xs.getD i 0:Nat))) ρ):gIx r1 (.d (.int (i:Nat))) ρ q:=by
 unfold gIx
 rw[hv]
 simp only[xy h]
 exact hq
theorem dM {neg:Bool}{r1 r2:R}{ρ:En}{q:Ko}{d e:D}{b:Bool}(h1:view ρ r1=some d)(h2:view ρ r2=some e)(hd:d.depth<=60)(hb:eqD d e=b)(hq:q (.d (.bl (if neg then !b else b))) ρ):gEq neg r1 r2 ρ q:=by
 unfold gEq
 rw[h1,h2]
 subst hb
 exact⟨hd,hq⟩
theorem qy (ns:List Int):depths (ns.map D.int)=0:=by
 induction ns with
 | nil=>simp[depths]
 | cons n ns ih=>rw[wE];unfold depths;rw[ih];simp[D.depth]
theorem qx (ns:List Nat):(D.lst (ao ns)).depth<=60:=by
 have:ao ns=(ns.map λ(n:Nat)=>(n:Int)).map D.int:=by unfold ao;simp
 rw[this];unfold D.depth;rw[qy];decide
theorem gC {r1:R}{ρ:En}{q:Ko}{ds:List D}{i:Int}{d:D}(hv:view ρ r1=some (.tup ds))(h:atI ds i=some d)(hq:q (.d d) ρ):gIx r1 (.d (.int i)) ρ q:=by
 unfold gIx
 rw[hv]
 simp only[h]
 exact hq
theorem A1 {r1:R}{ρ:En}{q:Ko}{ds:List D}{i:Int}{d:D}(hv:view ρ r1=some (.lst ds))(h:atI ds i=some d)(hq:q (.d d) ρ):gIx r1 (.d (.int i)) ρ q:=by
 unfold gIx
 rw[hv]
 simp only[h]
 exact hq
theorem de {r:R}{ρ:En}{q:Ko}{d:D}{n:String}{b:Bool}(hv:view ρ r=some d)(h:isaT (tyD d) n=some b)(hq:q (.d (.bl b)) ρ):gIsa [r,.t n] ρ q:=by
 unfold gIsa
 simp only[hv,h]
 exact hq
theorem zp {r:R}{ρ:En}{q:Ko}{bs:List Bool}(hv:view ρ r=some (.lst (bs.map D.bl)))(hq:q (.d (.bl (bs.all id))) ρ):gAll [r] ρ q:=by
 unfold gAll
 simp only[hv,vK]
 exact hq
def df (lo hi:Int):D->Bool
 | .int i=>decide (lo<=i)&&decide (i<=hi)
 | _=>false
def tupB (lo hi:Int):D->Bool
 | .tup ds=>decide (lo<=(ds.length:Int))&&decide ((ds.length:Int)<=hi)
 | _=>false
def Bn (rows:List Nat)(a b:Int):Nat:=rows.getD a.toNat 0 ^^^ rows.getD b.toNat 0
def g_ (rows:List Nat):D->Bool
 | .tup [.int a,.int b]=>decide (0<=a)&&decide (a<=(rows.length:Int) - 1)&&(decide (0<=b)&&decide (b<=(rows.length:Int) - 1))&&decide (a<b)&&(rows.getD a.toNat 0 != rows.getD b.toNat 0)
 | _=>false
def wm (rows:List Nat):D->List Nat
 | .tup [.int a,.int b]=>rows++[Bn rows a b]
 | _=>rows
def iM:List Nat->List D->Bool
 | _,[]=>true
 | rows,d::ds=>g_ rows d&&iM (wm rows d) ds
def dD (m:Nat):D->Bool
 | .tup ds=>decide (ds.length<=132)&&iM (az m) ds
 | _=>false
def fU (n:Nat):D->Bool
 | .tup ds=>decide (1<=ds.length)&&decide (ds.length<=24)&&ds.all (df 0 ((n:Int) - 1))
 | _=>false
def lenT:D->Nat
 | .tup ds=>ds.length
 | _=>0
def netB:D->Bool
 | .tup [m,js,os]=>(match m with
  | .int i=>decide (1<=i)&&decide (i<=12)&&dD i.toNat js&&fU (i.toNat+lenT js) os
  | _=>false)
 | _=>false
theorem i0 {lo hi:Int}{d:D}(h:df lo hi d=true):∃i,d = .int i/\lo<=i/\i<=hi:=by
 cases d with
 | int i=>simp[df]at h;exact⟨i,rfl,h⟩
 | non=>cases h
 | bl _=>cases h
 | str _=>cases h
 | tup _=>cases h
 | lst _=>cases h
theorem jL {lo hi:Int}{d:D}(h:tupB lo hi d=true):∃ds,d = .tup ds/\lo<=(ds.length:Int)/\(ds.length:Int)<=hi:=by
 cases d with
 | tup i=>simp[tupB]at h;exact⟨i,rfl,h⟩
 | non=>cases h
 | bl _=>cases h
 | str _=>cases h
 | int _=>cases h
 | lst _=>cases h
theorem wa {d:D}(h:tupB 2 2 d=true):∃x y,d = .tup [x,y]:=by
 obtain⟨ds,rfl,h1,h2⟩:=jL h
 have:ds.length=2:=by omega
 match ds,this with
 | [x,y],_=>exact⟨x,y,rfl⟩
theorem v_ {d:D}(h:tupB 3 3 d=true):∃x y z,d = .tup [x,y,z]:=by
 obtain⟨ds,rfl,h1,h2⟩:=jL h
 have:ds.length=3:=by omega
 match ds,this with
 | [x,y,z],_=>exact⟨x,y,z,rfl⟩
theorem u4 {rows:List Nat}{d:D}(h:tupB 2 2 d=false):g_ rows d=false:=by
 unfold g_
 split
 ·simp[tupB]at h
 ·rfl
theorem zd {rows:List Nat}{x y:D}(h:df 0 ((rows.length:Int) - 1) x=false):g_ rows (.tup [x,y])=false:=by
 cases x with
 | int i=>cases y with
  | int j=>simp only[df]at h;simp only[g_,h,D8]
  | _=>rfl
 | _=>rfl
theorem zc {rows:List Nat}{x y:D}(h:df 0 ((rows.length:Int) - 1) y=false):g_ rows (.tup [x,y])=false:=by
 cases x with
 | int i=>cases y with
  | int j=>simp only[df]at h;simp only[g_,h,D8,Fv]
  | _=>rfl
 | _=>rfl
theorem lenD (rows:List Nat):((ao rows).length:Int)=rows.length:=by rw[f8]
theorem cutS {A B:AS}{e:pb}{ρ:En}(P:En->Prop)(h1:∀N:En->Prop,(∀ ρ',P ρ'->N ρ')->A {e with nx:=N} ρ)(h2:∀ ρ',P ρ'->B e ρ'):aSeq A B e ρ:=h1 (B e) h2
theorem o9 {m:Nat}{d:D}(h:tupB 0 132 d=false):dD m d=false:=by
 cases d with
 | tup ds=>simp[tupB]at h;simp[dD];intro h';omega
 | _=>rfl
theorem qI {n:Nat}{d:D}(h:tupB 1 24 d=false):fU n d=false:=by
 cases d with
 | tup ds =>
  simp only[tupB,Bool.and_eq_false_iff,decide_eq_false_iff_not]at h
  simp only[fU]
  rcases h with h | h
  ·rw[decide_eq_false (p:=1<=ds.length) (by omega)];rfl
  ·rw[decide_eq_false (p:=ds.length<=24) (by omega)];simp
 | _=>rfl
theorem wR {d:D}(h:tupB 3 3 d=false):netB d=false:=by
 unfold netB
 split
 ·simp[tupB]at h
 ·rfl
theorem Bw {x:Int}{n:Nat}(h:x=(n:Nat)):Sv.vl (.int x)=nv n:=by rw[h]
theorem xorD (a b:Nat):D.int (EI (a:Int) (b:Int))=nD (a ^^^ b):=by rw[mh]
theorem minI (a b:Nat):(if(b:Int)<(a:Int)then(b:Int)else(a:Int))=((min a b:Nat):Int):=by split <;> omega
theorem maxI (a b:Nat):(if(b:Int) > (a:Int)then(b:Int)else(a:Int))=((max a b:Nat):Int):=by split <;> omega
def Bz (s:Sv)(ds:List D):Prop:=s = .ow ds∨s = .vl (.lst ds)
def iX:ASp:=λss q=>∃(d:D) (lo hi:Int),ss=[.vl d,.vl (.int lo),.vl (.int hi)]/\q (.d (.bl (df lo hi d))) [.vl d,.vl (.int lo),.vl (.int hi)]
def g8:ASp:=λss q=>∃(d:D) (lo hi:Int),ss=[.vl d,.vl (.int lo),.vl (.int hi)]/\q (.d (.bl (tupB lo hi d))) [.vl d,.vl (.int lo),.vl (.int hi)]
def qM:ASp:=λss q=>∃(s0:Sv) (rows:List Nat) (d:D),ss=[s0,.vl d]/\Bz s0 (ao rows)/\q (.d (.bl (g_ rows d))) [s0,.vl d]
def kY:ASp:=λss q=>∃(m:Nat) (d:D),ss=[nv m,.vl d]/\m<=12/\q (.d (.bl (dD m d))) [nv m,.vl d]
def nB:ASp:=λss q=>∃(n:Nat) (d:D),ss=[nv n,.vl d]/\q (.d (.bl (fU n d))) [nv n,.vl d]
def vT:ASp:=λss q=>∃(d:D),ss=[.vl d]/\q (.d (.bl (netB d))) [.vl d]
theorem dy (xs:List Nat)(x:Nat):ao (xs++[x])=ao xs++[nD x]:=by unfold ao;rw[Cb];rfl
theorem g5 (rows:List Nat)(p:Nat×Nat):ao (aK rows p)=ao rows++[nD (rows.getD p.1 0 ^^^ rows.getD p.2 0)]:=dy _ _
def ie:ASp:=λss q=>∃x y:Nat,ss=[nv x,nv y]/\q (.d (nD (x ^^^ y))) [nv x,nv y]
def SOwn:ASp:=λss q=>∃m:Nat,ss=[nv m]/\m<=1000/\q (.f (ao (az m))) [nv m]
def SAll:ASp:=λss q=>∃(N:Net) (ws:List Nat),ss=[.vl (netD N),.vl (.lst (ao ws))]/\okIx ws.length N.js/\ws.length+N.js.length<=1000/\q (.f (ao (N.js.foldl aK ws))) [.vl (netD N),.vl (.lst (ao ws))]
def qL:ASp:=λss q=>∃N:Net,ss=[.vl (netD N)]/\okIx N.m N.js/\N.m+N.js.length<=1000/\q (.f (ao (a7 N))) [.vl (netD N)]
theorem oy:∀ {js:List (Nat×Nat)} {rows:List Nat},okJs rows js->iM rows (js.map bq)=true
 | [],_,_=>rfl
 | p::r,rows,h=>by
  obtain⟨h1,h2,h3,h4⟩:=h
  have ih:=oy h4
  rw[wE]
  show(g_ rows (bq p)&&iM (wm rows (bq p)) (r.map bq))=true
  rw[show wm rows (bq p)=aK rows p from rfl,ih,HS]
  show(decide (0<=(p.1:Int))&&decide ((p.1:Int)<=(rows.length:Int) - 1)&&(decide (0<=(p.2:Int))&&decide ((p.2:Int)<=(rows.length:Int) - 1))&&decide ((p.1:Int)<(p.2:Int))&&(rows.getD (p.1:Int).toNat 0 != rows.getD (p.2:Int).toNat 0))=true
  rw[decide_eq_true (show 0<=(p.1:Int)by omega),decide_eq_true (show(p.1:Int)<=(rows.length:Int) - 1 by omega),decide_eq_true (show 0<=(p.2:Int)by omega),decide_eq_true (show(p.2:Int)<=(rows.length:Int) - 1 by omega),decide_eq_true (show(p.1:Int)<(p.2:Int)by omega)]
  simpa using h3
theorem yZ {N:Net}(h:iZ N):netB (netD N)=true:=by
 show(decide (1<=(N.m:Int))&&decide ((N.m:Int)<=12)&&dD (N.m:Int).toNat (.tup (N.js.map bq))&&fU ((N.m:Int).toNat+(N.js.map bq).length) (.tup (ao N.os)))=true
 have h1:=h.m1
 have h2:=h.m12
 have h3:=h.jl
 have h4:=h.o1
 have h5:=h.o24
 rw[decide_eq_true (show 1<=(N.m:Int)by omega),decide_eq_true (show(N.m:Int)<=12 by omega),CB]
 simp only[dD,fU,f8,DD]
 rw[oy h.js,decide_eq_true h3,decide_eq_true h4,decide_eq_true h5]
 simp only[DD,Ke,DR]
 intro o ho
 have:=h.os o ho
 show(decide (0<=(o:Int))&&decide ((o:Int)<=((N.m+N.js.length:Nat):Int) - 1))=true
 rw[decide_eq_true (show 0<=(o:Int)by omega),decide_eq_true (show(o:Int)<=((N.m+N.js.length:Nat):Int) - 1 by omega)]
 rfl
structure DefM (K:bi)(C:Addr)(m qual:Str)(st:Stmt)(ps:List Str):Prop where
 ex:∃f fd,Meth K C m f/\Fun K m qual st f fd/\∀us:List bn,us.length=ps.length->Im fd ⟨us,[]⟩=pure (ps.zip us)
structure OkM (P:wS)(w:B_)(K:bi)(mg:Str->Option bn)(base:Heap)(k:Nat)(C:Addr)(m:Str)(ps:List Str)(sp:Sp):Prop where
 ex:∃f fd,Meth K C m f/\k7 K fd ps []/\FnOk P w K mg base CX0 k f fd ps sp
theorem DefM.ok {P:wS}{w:B_}{K:bi}{mg:Str->Option bn}{base:Heap}{C:Addr}{m qual:Str}{st:Stmt}{N ps:List Str}{k:Nat}{sp:Sp}(D:DefM K C m qual st ps)(S:aP N ps (ar st))(len:∀vs H Q E,sp vs H Q E->vs.length=ps.length)
  (hbody:∀(f:Addr) (cdv:bn) (A:Cg) (outer:List Env) (s:ca) (H:Hp) (vs:List V) (Q:VK) (E:XK),Room k (A.deeper (E9 qual (ar st) s.heap.objs.size f cdv))->sp vs H Q E ->
   ∃t,PSs (cxOf CX0 P w K mg base N qual (ar st) f cdv A outer s H E).nox (bI st) t/\t {nx:=λ_ H'=>Q .non H',rt:=Q} (start N vs) H):OkM P w K mg base (k+1) C m ps sp:=by
 obtain⟨f,fd,hm,F,hb⟩:=D.ex
 exact⟨f,fd,hm,.all hb,F.ok S len λcdv A outer s H vs Q E hr h=>hbody f cdv A outer s H vs Q E hr h⟩
theorem DefM.aok2 {P:wS}{w:B_}{K:bi}{mg:Str->Option bn}{base:Heap}{C:Addr}{m qual:Str}{st:Stmt}{N ps:List Str}{k:Nat}{a:AS}(D:DefM K C m qual st ps)(Sc:aP N ps (ar st))(pr:Nat->Bool)(us:En)(S:ASp)(hus:o0 (N.length - ps.length) Sv.un=us)
  (hbody:∀(f:Addr) (cdv:bn) (A:Cg) (outer:List Env) (s:ca) (H:Hp) (E:XK),Room k (A.deeper (E9 qual (ar st) s.heap.objs.size f cdv)) ->
   ∃t,PSs (cxOf CX0 P w K mg base N qual (ar st) f cdv A outer s H E).nox (bI st) t/\TSok K pr t a)
  (hS:∀ss q,S ss q->ss.length=ps.length/\ownB pr ss 0=true/\a ⟨λρ=>q (.d .non) (outS ss ρ),λr ρ=>fin pr r ρ λr' ρ'=>q r' (outS ss ρ'),λ_=>False,λ_=>False⟩ (ss++us)):OkM P w K mg base (k+1) C m ps (spA K S):=by
 have hS':∀ss q,S ss q->ss.length=ps.length/\yQ pr ss/\a ⟨λρ=>q (.d .non) (outS ss ρ),λr ρ=>fin pr r ρ λr' ρ'=>q r' (outS ss ρ'),λ_=>False,λ_=>False⟩ (ss++o0 (N.length - ps.length) .un) :=
  λss q h=>⟨(hS ss q h).1,λi hi=>by have:=pR (hS ss q h).2.1 i hi;rwa [C5]at this,by rw[hus];exact(hS ss q h).2.2⟩
 exact D.ok Sc (qJ λss q h=>(hS ss q h).1) λf cdv A outer s H vs Q E hr h=>rY pr S (hbody f cdv A outer s H E hr) hS' h
theorem eY {K:bi}{C:Addr}{m qual:Str}{st:Stmt}{ps:List Str}{f:Addr}{oc:bn}{od an:Option Addr}{osl:Array (Option bn)}{kV doc pm cdv ct:bn}
  (a:B8 K (.ref C) m=some (some (.ref f))) (l:K.lookup f=some ⟨oc,od,.func (CF m qual (cF st) (bI st) (ar st) .none kV doc pm an cdv ct),osl⟩)
  (c:CL K cdv qual=true) (k:Cq K (.ref f)=true) (n:Dc K (.ref f)=true)
  (hb:∀(kV doc pm:bn) (an:Option Addr) (cdv ct:bn) (us:List bn),us.length=ps.length->Im (CF m qual (cF st) (bI st) (ar st) .none kV doc pm an cdv ct) ⟨us,[]⟩=pure (ps.zip us)):DefM K C m qual st ps :=
 ⟨f,_,⟨a,n,k⟩,x6 l c k,λus hl=>hb kV doc pm an cdv ct us hl⟩
section
variable {X:Cx}{k:Nat}{C:Addr}{m:Str}{ps:List Str}{sp:Sp}{p pos apos:Pos}{e o:Expr}{es:List Expr}{ta:TE}{t:TA}
theorem yH {pl:Sem Bool}(F:OkM X.prog X.w X.K X.mg X.base k C m ps sp)(c:Cls X.K C)(hr:Room k X.A)(he:PE X o ta)(ha:PA X (e::es) t)
  (hst:B4 (e::es) X.env=(false,eval e X.env)::B4 es X.env:=by rfl) (hpl:(D_ pos (B4 es X.env)).any (·.1)=false:=by rfl)
  (ht:eval (.Call (.Attribute o m apos) (e::es) [] pos) X.env=(do
   let ov <- eval o X.env
   Ev apos.atName
   let (f,first) <- F4 [ov] (GF ov m pl)
   Jv pos f first (D_ pos (B4 (e::es) X.env)) (Gw pos (Fl [] X.env))):=by rfl) :
  PE X (.Call (.Attribute o m apos) (e::es) [] pos) (t8 C m sp [] E0 ta t):=by
 obtain⟨f,fd,hm,hb,F⟩:=F.ex
 exact yI he c hm F hr hb .nil wI ha hst hpl ht
theorem rC {pl:Sem Bool}(F:OkM X.prog X.w X.K X.mg X.base k C m ps sp)(c:Cls X.K C)(hr:Room k X.A)(he:PE X o ta)
  (ht:eval (.Call (.Attribute o m apos) [] [] pos) X.env=(do
   let ov <- eval o X.env
   Ev apos.atName
   let (f,first) <- F4 [ov] (GF ov m pl)
   Jv pos f first (D_ pos (B4 [] X.env)) (Gw pos (Fl [] X.env))):=by rfl) :
  PE X (.Call (.Attribute o m apos) [] [] pos) (t8 C m sp [] E0 ta tNil):=by
 obtain⟨f,fd,hm,hb,F⟩:=F.ex
 exact wC he c hm F hr hb .nil wI ht
end
def ue (C:Addr)(ns:List Str):Sp:=λvs H Q _=>∃x dx us,vs = .ref x::us/\us.length=ns.length/\H x=some (.ins C dx [])/\Q .non (upd H x (.ins C dx (ns.zip us)))
structure NewC (P:wS)(w:B_)(K:bi)(mg:Str->Option bn)(base:Heap)(C:Addr)(x:Str)(ns:List Str):Prop where
 ex:∃f fd,mg x=some (.ref C)/\Mk K C f/\k7 K fd ("self" :: ns) []/\FnOk P w K mg base CX0 1 f fd ("self" :: ns) (ue C ns)
theorem xW {X:Cx}{C:Addr}{x:Str}{ns:List Str}{p pos:Pos}{e:Expr}{es:List Expr}{t:TA}(N:NewC X.prog X.w X.K X.mg X.base C x ns)(hr:Room 2 X.A)(ha:PA X (e::es) t)(hg:Gl X x:=by rfl)
  (hdb:(x==("__debug__" : Str))=false:=by decide) (he:B4 (e::es) X.env=(false,eval e X.env)::B4 es X.env:=by rfl) (hpl:(D_ pos (B4 es X.env)).any (·.1)=false:=by rfl) :
  PE X (.Call (.Name x p) (e::es) [] pos) (yq C (ue C ns) [] E0 t):=by
 obtain⟨f,fd,hm,M,hb,F⟩:=N.ex
 exact yJ M F hr hg hm hb .nil wI ha hdb he hpl
def obR (ρ:En):R->Option (Addr×List (Str×D))
 | .x (.ob C fs)=>some (C,fs)
 | .o i=>(match gt ρ i with | .ob C fs=>some (C,fs) | _=>none)
 | _=>none
def aFld (C:Addr)(f:Str)(a:AE):AE:=λρ q=>a ρ λr ρ1=>match obR ρ1 r.frz with
 | some (C',fs)=>C'=C/\∃d,fs.lookup f=some d/\q (.d d) ρ1
 | none=>False
def BM (C:Addr)(m:Str)(S:ASp)(a:AE)(as:AA):AE:=λρ q=>a ρ λr ρ1=>match obR ρ1 r.frz with
 | some (C',fs)=>C'=C/\fs.lookup m=none/\as ρ1 λrs ρ2=>dis (r.frz::rs)=true/\S ((r.frz::rs).map (c0 ρ2)) λr' ss'=>q r' (back ρ2 (r.frz::rs) ss')
 | none=>False
def aNew (C:Addr)(ns:List Str)(as:AA):AE:=λρ q=>as ρ λrs ρ1=>sto rs ρ1 λds ρ2=>ds.length=ns.length/\q (.x (.ob C (ns.zip ds))) ρ2
section
variable {K:bi}{F:Fr}{σ:St}{ρ ρ':En}{H H':Hp}{v:V}{r:R}{C:Addr}{fs:List (Str×D)}{f m:Str}{ta:TE}{a:AE}{ts:TA}{as:AA}
theorem Aq (a:Rel K F σ ρ H)(h:InF K F σ ρ H v r)(e:obR ρ r=some (C,fs)):∃p dx ks,v = .ref p/\H p=some (.ins C dx ks)/\ks.map B1=fs.map B1/\RepDs K (hid H (hs F σ ρ)) (ks.map Cm) (fs.map Cm):=by
 unfold obR at e
 split at e
 ·injection e with e
  injection e with e1 e2
  subst e1;subst e2
  obtain⟨_,p,dx,ks,e1,e2,e3,e4⟩:=h
  injection e1 with e1;injection e1 with e1
  exact⟨p,dx,ks,e1,(g7.mp e2).2,e3,e4⟩
 ·rename_i i
  split at e
  ·rename_i C' fs' hg
   injection e with e
   injection e with e1 e2
   subst e1;subst e2
   have q:=a.sl i
   rw[hg,show σ[i]? = _ from h]at q
   obtain⟨p,dx,ks,e1,e2,e3,e4⟩:=q
   injection e1 with e1;injection e1 with e1
   exact⟨p,dx,ks,e1,(g7.mp e2).2,e3,e4⟩
  ·cases e
 ·cases e
theorem xZ {Hh:Hp}{f:Str}{d:D}:∀ {ks:List (Str×V)} {fs:List (Str×D)},ks.map B1=fs.map B1->RepDs K Hh (ks.map Cm) (fs.map Cm)->fs.lookup f=some d->∃v,ks.lookup f=some v/\RepD K Hh v d
 | [],[],_,_,h=>by cases h
 | (k,v)::ks,(g,d')::fs,e,r,h=>by
  simp only[wE,EU]at e
  obtain⟨e1,e2⟩:=e
  simp only[wE]at r
  unfold RepDs at r
  subst e1
  simp only[Es]at h ⊢
  split at h
  ·rename_i q;cases h;exact⟨v,rfl,r.1⟩
  ·rename_i q;exact xZ e2 r.2 h
 | [],_::_,e,_,_=>by cases e
 | _::_,[],e,_,_=>by cases e
theorem uV {f:Str}:∀ {ks:List (Str×V)} {fs:List (Str×D)},ks.map B1=fs.map B1->fs.lookup f=none->ks.lookup f=none
 | [],[],_,_=>rfl
 | (k,v)::ks,(g,d')::fs,e,h=>by
  simp only[wE,EU]at e
  obtain⟨e1,e2⟩:=e
  subst e1
  simp only[Es]at h ⊢
  split at h
  ·cases h
  ·rename_i q;exact uV e2 h
 | [],_::_,e,_=>by cases e
 | _::_,[],e,_=>by cases e
theorem cp (c:Cls K C)(n:iY K C f)(ha:TEok K ta a):TEok K (tFld K ta f) (aFld C f a):=by
 intro F σ ρ H q Q r h b
 refine ha F σ ρ H _ _ r h λr1 ρ1 v H1 h1 o=>?_
 obtain⟨rr,kp,i1⟩:=o.inF
 split at h1
 ·rename_i C' fs e
  obtain⟨rfl,d,l,hq⟩:=h1
  obtain⟨p,dx,ks,rfl,e2,e3,e4⟩:=Aq rr i1 e
  obtain⟨y,l2,ry⟩:=xZ e3 e4 l
  exact⟨p,C',dx,ks,y,rfl,e2,c,n,l2,(b.after kp).dat rr hq ry⟩
 ·exact h1.elim
theorem fz {S:ASp}{E:XK}(ha:TEok K ta a)(hs':TAok K ts as):TEok K (t8 C m (spA K S) [] E ta ts) (BM C m S a as):=by
 intro F σ ρ H q Q r h b
 refine ha F σ ρ H _ _ r h λr1 ρ1 v H1 h1 o=>?_
 obtain⟨rr,kp,i1⟩:=o.inF
 split at h1
 ·rename_i C' fs e
  obtain⟨rfl,l,hq⟩:=h1
  obtain⟨p,dx,ks,rfl,e2,e3,e4⟩:=Aq rr i1 e
  refine⟨p,dx,ks,rfl,e2,uV e3 l,?_⟩
  refine hs' F σ ρ1 H1 _ _ rr hq λrs ρ2 vs H2 h2 r2 i2 k2=>?_
  obtain⟨hd,hS⟩:=h2
  have s:=(InFs.cons (i1.keep k2) i2).srcs
  have k:=(b.after kp).after k2
  rw[Cc]
  refine⟨(r1.frz::rs).map (c0 ρ2),(dQ F σ ρ2 H2 ((V.ref p::vs).map some) ((r1.frz::rs).map (c0 ρ2))).Z,_,r2.sub s hd,hS,λrr' ss' v H' hq sb no out=>?_⟩
  refine k rr' (back ρ2 (r1.frz::rs) ss') v H' hq ?_
  cases rr' with
  | o i=>exact absurd rfl (no i)
  | d d =>
   obtain⟨a,b⟩:=out
   obtain⟨x,y,z⟩:=r2.back s hd a sb
   exact⟨x,y,RepD.same b z⟩
  | x sv =>
   obtain⟨a,b,c⟩:=out
   obtain⟨x,y,z⟩:=r2.back s hd a sb
   exact⟨x,y,b,c.keep z λl o ho=>by rw[b]at ho;cases ho⟩
  | t n =>
   obtain⟨a,b⟩:=out
   obtain⟨x,y,z⟩:=r2.back s hd a sb
   exact⟨x,y,b⟩
  | n sv =>
   obtain⟨Hb,l,o,a,b,c,e1,e2,e3⟩:=out
   obtain⟨x,y,z⟩:=r2.back s hd a sb
   exact⟨Hb,l,o,x,y,b,c.keep z λ_ _ _ _ e=>e,e1,e2,e3⟩
 ·exact h1.elim
theorem pf {α β:Type}:∀ {ns:List α} {us:List β},us.length=ns.length->(ns.zip us).map B1=ns
 | [],[],_=>rfl
 | n::ns,u::us,h=>by simp[pf (ns:=ns) (us:=us) (by simpa using h)]
 | [],_::_,h=>by cases h
 | _::_,[],h=>by cases h
theorem pd {α β:Type}:∀ {ns:List α} {us:List β},us.length=ns.length->(ns.zip us).map Cm=us
 | [],[],_=>rfl
 | n::ns,u::us,h=>by simp[pd (ns:=ns) (us:=us) (by simpa using h)]
 | [],_::_,h=>by cases h
 | _::_,[],h=>by cases h
theorem tM {ns:List Str}{E:XK}(hs':TAok K ts as):TEok K (yq C (ue C ns) [] E ts) (aNew C ns as):=by
 intro F σ ρ H q Q r h b
 refine hs' F σ ρ H _ _ r h λrs ρ1 vs H1 h1 r1 i1 k1=>?_
 obtain⟨ds,ρ2,⟨hl,hq⟩,r2,k2,rd⟩:=hU r1 i1 h1
 intro x dx hx hdx ne
 rw[Cc]
 have lv:vs.length=ns.length:=by rw[<- hl];exact RepDs.length rd
 refine⟨x,dx,vs,rfl,lv,aR,?_⟩
 refine⟨rfl,?_⟩
 rw[i7]
 have hx2:upd H1 dx (.own x) x=none:=by rw[aQ (Dq ne)];exact hx
 have ra:=r2.fresh (o:=.own x) hdx
 have ka:Kp σ ρ2 ρ2 H1 (upd H1 dx (.own x)):=Kp.fresh hdx
 have rb:=ra.fresh (o:=.ins C dx (ns.zip vs)) hx2
 have kb:Kp σ ρ2 ρ2 _ (upd (upd H1 dx (.own x)) x (.ins C dx (ns.zip vs))):=Kp.fresh hx2
 have kk:=(k1.trans k2).trans (ka.trans kb)
 refine(b.after kk) _ ρ2 _ _ hq ⟨rb,.refl,rfl,x,dx,ns.zip vs,rfl,gB (iQ ra hx2) aR,?_,?_⟩
 ·rw[pf lv,pf hl]
 ·rw[pd lv,pd hl]
  exact rd.same (ka.trans kb).vis
end
def lA:Stmt->Nat->Stmt
 | .ClassDef _ _ _ b _ _ _ _ _ _ _,j=>b.getD j (.Pass ⟨0,0,0,0⟩)
 | _,_=>.Pass ⟨0,0,0,0⟩
structure ClsO (K:bi)(mg:Str->Option bn)(C:Addr)(x:Str)(ns:List Str):Prop where
 m:mg x=some (.ref C)
 cl:Cls K C
 na:∀f∈ns,iY K C f
 mkk:FI K C=true
 kp:Cq K (.ref C)=true
structure ObC (P:wS)(w:B_)(K:bi)(mg:Str->Option bn)(base:Heap)(C:Addr)(x:Str)(ns:List Str):Prop where
 cl:Cls K C
 na:∀f∈ns,iY K C f
 nw:NewC P w K mg base C x ns
theorem ObC.of {P:wS}{w:B_}{K:bi}{mg:Str->Option bn}{base:Heap}{C:Addr}{x qual:Str}{st:Stmt}{ns:List Str}(o:ClsO K mg C x ns)(D:DefM K C "__init__" qual st ("self" :: ns))(S:aP ("self" :: ns) ("self" :: ns) (ar st))
  (hbody:∀(f:Addr) (cdv:bn) (A:Cg) (outer:List Env) (s:ca) (H:Hp) (vs:List V) (Q:VK) (E:XK),Room 0 (A.deeper (E9 qual (ar st) s.heap.objs.size f cdv))->ue C ns vs H Q E ->
   ∃t,PSs (cxOf CX0 P w K mg base ("self" :: ns) qual (ar st) f cdv A outer s H E).nox (bI st) t/\t {nx:=λ_ H'=>Q .non H',rt:=Q} (start ("self" :: ns) vs) H):ObC P w K mg base C x ns:=by
 obtain⟨f,fd,hm,F,hb⟩:=D.ex
 have len:∀vs H Q E,ue C ns vs H Q E->vs.length=(("self" : Str)::ns).length:=by
  rintro vs H Q E ⟨x,dx,us,rfl,hl,_⟩
  simp[hl]
 exact⟨o.cl,o.na,f,fd,o.m,⟨o.mkk,hm.at_,hm.fn,o.kp⟩,.all hb,F.ok S len λcdv A outer s H vs Q E hr h=>hbody f cdv A outer s H vs Q E hr h⟩
theorem ft (xs:List D)(k:Nat):cutD xs none (some ((k:Nat):Int))=xs.take k:=by
 unfold cutD
 have e0:HT.sIx xs.length 0 none=0:=rfl
 rw[e0,Hu,GQ,HT.sIx_nat]
 rcases GS k xs.length with h | h
 ·rw[Fc h]
 ·rw[FM h,CS (lm _),CS h]
def nz:ASp:=λss q=>∃a b:Nat,ss=[nv a,nv b]/\q (.d (L2.bq (min a b,max a b))) [nv a,nv b]
theorem fg (xs:List Nat):(ao xs).length=xs.length:=by rw[f8]
theorem DefN.no {P:wS}{w:B_}{K:bi}{mg:Str->Option bn}{base:Heap}{x:Str}{st:Stmt}{N ps:List Str}(D:DefN K mg x st ps)(Sc:aP N ps (ar st))(k:Nat):OkN P w K mg base (k+1) x ps (spA K λ_ _=>False) :=
 D.ok Sc (λvs H Q E h=>by obtain⟨_,_,_,_,h,_⟩:=h;exact h.elim) λf cdv A outer s H vs Q E _ h=>by obtain⟨_,_,_,_,h,_⟩:=h;exact h.elim
end L2
namespace HT
open PySem PySem.Spec PyProof.Rows
end HT
namespace L2
open PySem PySem.Spec PyProof.Rows
section
variable {prog:wS}{w:B_}{K0:Type} [DecidableEq K0]{knd:KeyKind prog w K0}{A:Cg}{E:bn->ca->Prop}{s:ca}
theorem sj {d:Addr}{kvs:List (K0×bn)}{k:K0}{key dv:bn}{Q:bn->ca->Prop}(hkey:knd.is k key=true)(hm:s.heap.DictOf knd d kvs)(hz:kvs.length<=wT)
  (old:∀v,EN kvs k=some v->Q v {s with toks:=s.toks+1})
  (new:EN kvs k=none->∀h',h'.DictOf knd d (Hz kvs k dv)->Cw d s.heap h'->Q dv {s with heap:=h',toks:=s.toks+1}):li (pc prog w) A (Ij d key dv) Q E s:=by
 have hv:=hm.mapOf
 obtain⟨o,es,ep,ho,hc,hd,hk,hp,hn⟩:=hm
 have hes:es.size<=wT:=by
  have e1:=hp.length
  have e2:es.toList.length=es.size:=by simp
  omega
 have hidx:(es.findIdx? λe=>knd.is k e.key)=kvs.findIdx? λkv=>decide (kv.1=k):=by
  rw[<- hp.findIdx k];obtain⟨l⟩:=es;simp
 have hf:findBy knd.is es k=EN kvs k:=by
  rw[<- hp.find k]
  obtain⟨l⟩:=es
  simp[findBy]
 unfold Ij
 try with_reducible refine DH ?_
 refine bm (knd.pyHash hkey ?_)
 refine bm (wpAny_dictFind_of (s:={s with toks:=s.toks+1}) hkey ho hd hk ?_)
 cases hi:es.findIdx? λe=>knd.is k e.key with
 | some i =>
  have hfk:EN kvs k=(es[i]?).map (·.val):=by rw[<- hf,JW,hi]
  refine bm (wpAny_dictEntries (s:={s with toks:=s.toks+1}) ho hd ?_)
  cases he:es[i]? with
  | none =>
   exfalso
   have lt:i<es.size:=(Array.findIdx?_eq_some_iff_findIdx_eq.mp hi).1
   rw[C8 lt]at he
   cases he
  | some e =>
   rw[he]at hfk
   exact bm (DX (dL (old e.val hfk)))
 | none =>
  have hfk:EN kvs k=none:=by rw[<- hf,JW,hi]
  have hnot:k∉kvs.map (·.1):=not_mem_of_findIdx_none (hidx▸hi)
  have hany:¬(kvs.any λkv=>decide (kv.1=k))=true:=by
   rw[DA];rintro⟨kv,hkv,he⟩
   exact hnot (Ch.mpr ⟨kv,hkv,of_decide_eq_true he⟩)
  refine bm (DX (bm (wpAny_updateDictKeys (hz:=hes) (s:={s with toks:=s.toks+1}) ho hd (dL (new hfk _ ⟨_,_,ep+1,C2 _ ho (Obj.isFreed_of_dict (II hd _)),hc.mapDictKeys _,II hd _,hk.push hkey _,?_,?_⟩ (Df ..))))))
  ·rw[Hz,if_neg hany]
   have:=hp.append hkey (knd.hash k) dv
   obtain⟨l⟩:=es
   simpa using this
  ·rw[Hz,if_neg hany,Cb,C_]
   refine⟨hn,by simp,λa ha b hb e=>?_⟩
   simp only[wE,Dn,sn]at hb
   subst hb
   exact hnot (e▸ha)
end
section
variable {X:Cx}{pins:List (Addr×Obj)}{σ:St}{H:Hp}{s:ca}{A:Cg}{E:bn->ca->Prop}
theorem A8 {a:Addr}{kvs:List (Key×V)}{k:Key}{v:V}{u r:bn}{Q:bn->ca->Prop}(I:Inv X pins σ H s)(e:H a=some (.dK kvs))(hl:kvs.length<wT)(ry:RelV (kV k) u)(rv:RelV v r)
  (old:∀x w' s',valV kvs k=some x->Inv X pins σ H s'->RelV x w'->Q w' s') (new:valV kvs k=none->∀s',Inv X pins σ (upd H a (.dK (putK kvs k v))) s'->Q r s'):li (pc X.prog X.w) A (call (.builtin "dict.setdefault") [.ref a,u,r]) Q E s:=by
 obtain⟨z,hd,vs,rel,dd⟩:=xq I.hok e
 have hz:vs.length<=wT:=by rw[<- rel.length];exact z
 have hl':(putK kvs k v).length<=wT:=by have:=fJ kvs k v;omega
 have mt:MeetsIn X.prog X.w (Builtin.«dict.setdefault» ⟨[.ref a,u,r],[]⟩) (λ_ R s1=>s1=s/\(∀x,EN vs k=some x->R (.ok (.ret x)) {s with toks:=s.toks+1})/\(EN vs k=none->∀h',h'.DictOf (bG X.prog X.w) a (Hz vs k r)->Cw a s.heap h'->R (.ok (.ret r)) {s with heap:=h',toks:=s.toks+1})) :=
  .of_wp λA R s1 ⟨e1,h1,h2⟩=>by
   subst e1
   unfold Builtin.«dict.setdefault»
   refine bm ?_
   unfold KJ
   refine bm (wpAny_notOrdered_dict dd.typeIs ?_)
   show li _ _ (pure (a,u,some r)) _ _ _
   refine dL ?_
   show li _ _ (if(a==D9)=true then _ else(Ij a u r>>=_)) _ _ _
   rw[if_neg (by rw[hd];exact Ca)]
   exact bm (sj (ox ry) dd hz (λx hx=>dL ⟨x,rfl,h1 x hx⟩) λhn h' hm' hs'=>dL ⟨r,rfl,h2 hn h' hm' hs'⟩)
 have rl:=rel.val k
 refine call_meetsIn GP dd.typeIs PySem.F.entry_dict_setdefault (PySem.F.args_dict_setdefault_3 _ _ _) mt ⟨rfl,λx hx=>?_,λhx h' dd' hs=>?_⟩
 ·rw[hx]at rl
  cases hv:valV kvs k with
  | none=>rw[hv]at rl;exact rl.elim
  | some y=>rw[hv]at rl;exact old y _ _ hv (I.tok _) rl
 ·rw[hx]at rl
  cases hv:valV kvs k with
  | some y=>rw[hv]at rl;exact rl.elim
  | none =>
   refine new hv _ ?_
   have he:∃q,h'.get? a=some q:=let ⟨q,_,_,hq,_⟩:=dd';⟨q,hq⟩
   exact m8 I (by rw[e];exact True.intro) hs he (oN hl' hd (rel.put k rv) dd')
def xK (td ty tx:TE):TE:=λσ H Q=>td σ H λx H1=>∃a,x = .ref a/\IsD H1 a/\ty σ H1 λy H2=>tx σ H2 λz H3=>∃kvs k,y=kV k/\H3 a=some (.dK kvs)/\kvs.length<wT /\
 (∀v,valV kvs k=some v->Q v H3)/\(valV kvs k=none->Q z (upd H3 a (.dK (putK kvs k z))))
theorem wF {o e f:Expr}{apos cpos:Pos}{td ty tx:TE}(ho:PE X o td)(he:PE X e ty)(hf:PE X f tx)(m:M2 X o "setdefault" apos e f cpos):PE X (.Call (.Attribute o "setdefault" apos) [e,f] [] cpos) (xK td ty tx):=by
 intro pins s σ H Q I h
 refine wpAny_Call_method m.base m.few m.line Hq GP PySem.F.type_dict_setdefault (thn (ho pins s σ H _ I h) λu s1 ⟨x,H1,I1,rx,a,ex,d,q1⟩=>?_)
 subst ex
 obtain rfl:u=Value.ref a:=rx
 obtain⟨t1,t2,_⟩:=AV I1 d
 refine⟨t1,t2,?_⟩
 rw[m.trees]
 refine HX rfl (Iy (Ec (thn (he pins s1 σ H1 _ I1 q1) λiv s2 ⟨y,H2,I2,ry,q2⟩ =>
  Ec (thn (hf pins s2 σ H2 _ I2 q2) λfv s3 ⟨z,H3,I3,rz,kvs,k,ey,hk,hl,qo,qn⟩=>EL ?_))))
 subst ey
 exact A8 I3 hk hl ry rz (λx w' s' hv I' rx=>⟨x,H3,I',rx,qo x hv⟩) λhn s' I'=>⟨z,_,I',rz,qn hn⟩
end
def dKey:D->Option Key
 | .int i=>some (.inl i)
 | .str x=>some (.inr x)
 | _=>none
section
variable {κ:Type} [DecidableEq κ]
def valD (kvs:List (κ×D))(k:κ):Option D:=(kvs.find? λkv=>decide (kv.1=k)).map (·.2)
def putD (kvs:List (κ×D))(k:κ)(d:D):List (κ×D) :=
 if(kvs.any λkv=>decide (kv.1=k))=true then kvs.map (λkv=>if kv.1=k then(kv.1,d)else kv)else kvs++[(k,d)]
variable {K:bi}{H:Hp}
theorem pk (k:κ):∀ {ks:List (κ×V)} {kvs:List (κ×D)},ks.map B1=kvs.map B1->RepDs K H (ks.map Cm) (kvs.map Cm) ->
  (∀d,valD kvs k=some d->∃v,valV ks k=some v/\RepD K H v d)/\(valD kvs k=none->valV ks k=none)
 | [],[],_,_=>⟨(λ_ h=>nomatch h),λ_=>rfl⟩
 | p::ks,q::kvs,e,r=>by
  simp only[wE,EU]at e
  rw[wE,wE]at r
  unfold RepDs at r
  obtain⟨i1,i2⟩:=pk k e.2 r.2
  by_cases z:q.1=k
  ·have e1:valD (q::kvs) k=some q.2:=by simp[valD,CO,z]
   rw[e1,jJ (e.1.trans z)]
   exact⟨λd h=>⟨_,rfl,by cases h;exact r.1⟩,λh=>by cases h⟩
  ·have e1:valD (q::kvs) k=valD kvs k:=by simp[valD,CO,z]
   rw[e1,jK (λh=>z (e.1▸h))]
   exact⟨i1,i2⟩
 | [],q::kvs,e,_=>by simp at e
 | p::ks,[],e,_=>by simp at e
theorem zG (k:κ){ks:List (κ×V)}{kvs:List (κ×D)}(e:ks.map B1=kvs.map B1):(ks.any λkv=>decide (kv.1=k))=kvs.any λkv=>decide (kv.1=k):=by
 have h1:(ks.any λkv=>decide (kv.1=k))=(ks.map B1).any λx=>decide (x=k):=by rw[GK];rfl
 have h2:(kvs.any λkv=>decide (kv.1=k))=(kvs.map B1).any λx=>decide (x=k):=by rw[GK];rfl
 rw[h1,h2,e]
theorem ri (k:κ){v:V}{d:D}(rv:RepD K H v d):∀ {ks:List (κ×V)} {kvs:List (κ×D)},ks.map B1=kvs.map B1->RepDs K H (ks.map Cm) (kvs.map Cm) ->
  (ks.map λkv=>if kv.1=k then(kv.1,v)else kv).map B1=(kvs.map λkv=>if kv.1=k then(kv.1,d)else kv).map B1/\RepDs K H ((ks.map λkv=>if kv.1=k then(kv.1,v)else kv).map Cm) ((kvs.map λkv=>if kv.1=k then(kv.1,d)else kv).map Cm)
 | [],[],_,_=>⟨rfl,.nil⟩
 | p::ks,q::kvs,e,r=>by
  simp only[wE,EU]at e
  rw[wE,wE]at r
  unfold RepDs at r
  obtain⟨i1,i2⟩:=ri k rv e.2 r.2
  simp only[wE,e.1]
  by_cases z:q.1=k
  ·simp only[z,if_true]
   exact⟨by rw[i1],.cons rv i2⟩
  ·simp only[z,if_false]
   exact⟨by rw[i1,e.1],.cons r.1 i2⟩
 | [],q::kvs,e,_=>by simp at e
 | p::ks,[],e,_=>by simp at e
theorem mB (k:κ){v:V}{d:D}(rv:RepD K H v d){ks:List (κ×V)}{kvs:List (κ×D)}(e:ks.map B1=kvs.map B1)(r:RepDs K H (ks.map Cm) (kvs.map Cm)) :
  (putK ks k v).map B1=(putD kvs k d).map B1/\RepDs K H ((putK ks k v).map Cm) ((putD kvs k d).map Cm):=by
 unfold putK putD
 rw[zG k e]
 split
 ·exact ri k rv e r
 ·refine⟨by rw[Cb,Cb,e];rfl,?_⟩
  rw[Cb,Cb]
  exact r.append (.one rv)
theorem iK {ks:List (κ×V)}{kvs:List (κ×D)}(e:ks.map B1=kvs.map B1):ks.length=kvs.length:=by
 have:=congrArg Ks e
 simpa using this
end
section
variable {K:bi}{F:Fr}{σ:St}{ρ ρ':En}{H H':Hp}{td ty tx:TE}{ad ay ax:AE}
theorem u3 {v:V}{d:D}{k:Key}(h:RepD K H v d)(e:dKey d=some k):v=kV k:=by
 cases d with
 | int i=>unfold RepD at h;injection e with e;subst e;exact h
 | str i=>unfold RepD at h;injection e with e;subst e;exact h
 | non=>cases e
 | bl _=>cases e
 | tup _=>cases e
 | lst _=>cases e
def aDNew:AE:=λρ q=>q (.n (.dk [])) ρ
theorem we:TEok K tDNewK aDNew:=λF σ ρ H q Q r h k p hp=>k (.n (.dk [])) ρ _ _ h ⟨H,p,_,r,.refl,rfl,⟨p,[],rfl,aR,rfl,.nil⟩,hp,rfl,rfl⟩
theorem tf {i:Nat}{x:V}{kvs:List (Key×D)}(r:Rel K F σ ρ H)(ei:σ[i]? = some (some x))(hg:gt ρ i = .dk kvs):∃t ks,x = .ref t/\H t=some (.dK ks)/\ks.map B1=kvs.map B1/\RepDs K (hid H (hs F σ ρ)) (ks.map Cm) (kvs.map Cm):=by
 have s:=r.sl i
 rw[hg,ei]at s
 obtain⟨t,ks,e,h1,h2,h3⟩:=s
 injection e with e;injection e with e
 exact⟨t,ks,e,h1,h2,h3⟩
def aDIn (neg:Bool)(i a:AE):AE:=λρ q=>i ρ λr ρ1=>a ρ1 λr2 ρ2=>match r,r2 with
 | .d d,.o j=>(match gt ρ2 j,dKey d with
  | .dk kvs,some k=>q (.d (.bl (if neg then !(valD kvs k).isSome else(valD kvs k).isSome))) ρ2
  | _,_=>False)
 | _,_=>False
theorem lO {kvs:List (Key×D)}{ks:List (Key×V)}{k:Key}(e1:ks.map B1=kvs.map B1)(e2:RepDs K H (ks.map Cm) (kvs.map Cm)):(valV ks k).isSome=(valD kvs k).isSome:=by
 obtain⟨a,b⟩:=pk k e1 e2
 cases h:valD kvs k with
 | none=>rw[b h];rfl
 | some d=>obtain⟨v,e,_⟩:=a d h;rw[e];rfl
theorem tP (hi:TEok K ty ay)(ha:TEok K td ad):TEok K (tDIn ty td) (aDIn false ay ad):=by
 intro F σ ρ H q Q r h k
 refine hi F σ ρ H _ _ r h λr1 ρ1 y H1 h1 o1=>?_
 obtain⟨r1',k1,i1⟩:=o1.inF
 refine ha F σ ρ1 H1 _ _ r1' h1 λr2 ρ2 x H2 h2 o2=>?_
 obtain⟨r2',k2,i2⟩:=o2.inF
 split at h2
 ·rename_i d j
  have ej:σ[j]? = some (some x):=i2
  split at h2
  ·rename_i kvs kk hg ek
   obtain⟨t,ks,rfl,ht,e1,e2⟩:=tf r2' ej hg
   refine⟨t,valV ks kk,rfl,?_,?_⟩
   ·rw[u3 i1 ek];exact DGet.k ht
   ·rw[lO e1 e2]
    exact((k.after k1).after k2).bl r2' h2
  ·exact h2.elim
 ·exact h2.elim
theorem i8 (hi:TEok K ty ay)(ha:TEok K td ad):TEok K (t_ ty td) (aDIn true ay ad):=by
 intro F σ ρ H q Q r h k
 refine hi F σ ρ H _ _ r h λr1 ρ1 y H1 h1 o1=>?_
 obtain⟨r1',k1,i1⟩:=o1.inF
 refine ha F σ ρ1 H1 _ _ r1' h1 λr2 ρ2 x H2 h2 o2=>?_
 obtain⟨r2',k2,i2⟩:=o2.inF
 split at h2
 ·rename_i d j
  have ej:σ[j]? = some (some x):=i2
  split at h2
  ·rename_i kvs kk hg ek
   obtain⟨t,ks,rfl,ht,e1,e2⟩:=tf r2' ej hg
   refine⟨t,valV ks kk,rfl,?_,?_⟩
   ·rw[u3 i1 ek];exact DGet.k ht
   ·rw[lO e1 e2]
    exact((k.after k1).after k2).bl r2' h2
  ·exact h2.elim
 ·exact h2.elim
def BR (x o i:AE):AS:=λe ρ=>x ρ λr ρ1=>sto [r.frz] ρ1 λds ρ2=>o ρ2 λr2 ρ3=>match r2 with
 | .o j=>i ρ3 λr3 ρ4=>(match r3,gt ρ4 j,ds with
  | .d kd,.dk kvs,[d]=>(match dKey kd with | some k=>kvs.length<=1000000/\e.nx (pt ρ4 j (.dk (putD kvs k d))) | none=>False)
  | _,_,_=>False)
 | _=>False
theorem qZ {pr:Nat->Bool}{tv:TE}{av:AE}(h:TEok K tv av)(ho:TEok K td ad)(hi:TEok K ty ay):TSok K pr (Aa td ty tv) (BR av ad ay):=by
 intro F σ ρ H D e hp r ha k
 refine h F σ ρ H _ _ r ha λr1 ρ1 v H1 h1 o=>?_
 obtain⟨r',k1,i1⟩:=o.inF
 obtain⟨ds,ρ2,h2,r2,k2,rd⟩:=hU r' (.cons i1 .nil) h1
 refine ho F σ ρ2 H1 _ _ r2 h2 λr3 ρ3 x H3 h3 o3=>?_
 obtain⟨r3',k3,i3⟩:=o3.inF
 split at h3
 ·rename_i j
  have ej:σ[j]? = some (some x):=i3
  refine hi F σ ρ3 H3 _ _ r3' h3 λr4 ρ4 y H4 h4 o4=>?_
  obtain⟨r4',k4,i4⟩:=o4.inF
  split at h4
  ·rename_i kd kvs d hg
   split at h4
   ·rename_i kk ek
    obtain⟨t,ks,rfl,ht,e1,e2⟩:=tf r4' ej hg
    unfold RepDs at rd
    have rd4:=(RepD.same rd.1 (k3.trans k4).vis)
    obtain⟨p1,p2⟩:=mB kk rd4 e1 e2
    have hw:=r4'.write (i:=j) (l:=t) (o:=.dK (putK ks kk v)) (s:=.dk (putD kvs kk d)) (by rw[hg];rfl) ej rfl ⟨t,_,rfl,aR,p1,p2⟩
    refine⟨t,_,rfl,?_,k.nx _ _ _ h4.2 hw.1⟩
    rw[u3 i4 ek]
    exact DPut.k ht (lE (by rw[iK e1];exact h4.1))
   ·exact h4.elim
  ·exact h4.elim
 ·exact h3.elim
@[irreducible] def vi (kvs:List (Key×D))(kd d:D)(q:D->List (Key×D)->Prop):Prop:=match dKey kd with
 | some k=>kvs.length<=1000000/\(match valD kvs k with | some x=>q x kvs | none=>q d (putD kvs k d))
 | none=>False
theorem vh {kvs:List (Key×D)}{kd d:D}{q:D->List (Key×D)->Prop}(h:vi kvs kd d q):∃k,dKey kd=some k/\kvs.length<=1000000/\(∀x,valD kvs k=some x->q x kvs)/\(valD kvs k=none->q d (putD kvs k d)):=by
 unfold vi at h
 split at h
 ·rename_i k e
  refine⟨k,e,h.1,λx hx=>?_,λhx=>?_⟩
  ·have:=h.2;rw[hx]at this;exact this
  ·have:=h.2;rw[hx]at this;exact this
 ·exact h.elim
theorem xg {kvs:List (Key×D)}{kd d:D}{k:Key}{q:D->List (Key×D)->Prop}(e:dKey kd=some k)(hz:kvs.length<=1000000)(h1:∀x,valD kvs k=some x->q x kvs)(h2:valD kvs k=none->q d (putD kvs k d)):vi kvs kd d q:=by
 unfold vi
 simp only[e]
 refine⟨hz,?_⟩
 cases hv:valD kvs k with
 | none=>exact h2 hv
 | some x=>exact h1 x hv
def Bg (a i x:AE):AE:=λρ q=>a ρ λr ρ1=>match r with
 | .o j=>(match gt ρ1 j with
  | .dk _=>i ρ1 λr2 ρ2=>x ρ2 λr3 ρ3=>(match r2,r3,gt ρ3 j with
   | .d kd,.d d,.dk kvs=>vi kvs kd d λz kvs'=>q (.d z) (pt ρ3 j (.dk kvs'))
   | _,_,_=>False)
  | _=>False)
 | _=>False
theorem Af:∀ {ρ:En} {i:Nat} {s:Sv},gt ρ i=s->s.own=true->pt ρ i s=ρ
 | [],_,_,h,ho=>by cases h;cases ho
 | x::r,0,s,h,_=>by cases h;rfl
 | x::r,i+1,s,h,ho=>by show x::pt r i s=x::r;rw[Af (ρ:=r) h ho]
theorem tO (ha:TEok K td ad)(hi:TEok K ty ay)(hx:TEok K tx ax):TEok K (xK td ty tx) (Bg ad ay ax):=by
 intro F σ ρ H q Q r h k
 refine ha F σ ρ H _ _ r h λr1 ρ1 x H1 h1 o1=>?_
 obtain⟨r1',k1,i1⟩:=o1.inF
 split at h1
 ·rename_i j
  have ej:σ[j]? = some (some x):=i1
  split at h1
  ·rename_i kvs0 hg0
   obtain⟨t,ks0,rfl,ht0,_,_⟩:=tf r1' ej hg0
   refine⟨t,rfl,.inl ⟨ks0,.inl ht0⟩,?_⟩
   refine hi F σ ρ1 H1 _ _ r1' h1 λr2 ρ2 y H2 h2 o2=>?_
   obtain⟨r2',k2,i2⟩:=o2.inF
   refine hx F σ ρ2 H2 _ _ r2' h2 λr3 ρ3 z H3 h3 o3=>?_
   obtain⟨r3',k3,i3⟩:=o3.inF
   have kk:=((k.after k1).after k2).after k3
   split at h3
   ·rename_i kd d kvs hg
    obtain⟨key,ek,hz,h4,h5⟩:=vh h3
    obtain⟨t',ks,et,ht,e1,e2⟩:=tf r3' ej hg
    cases et
    obtain⟨v1,v2⟩:=pk key e1 e2
    refine⟨ks,key,u3 i2 ek,ht,lE (by rw[iK e1];exact hz),λv hv=>?_,λhv=>?_⟩
    ·cases hd:valD kvs key with
     | none=>rw[v2 hd]at hv;cases hv
     | some x =>
      obtain⟨v',ev,rv⟩:=v1 x hd
      rw[ev]at hv;cases hv
      have:=h4 x hd
      rw[Af hg rfl]at this
      exact kk.dat r3' this rv
    ·cases hd:valD kvs key with
     | some x=>obtain⟨v',ev,_⟩:=v1 x hd;rw[ev]at hv;cases hv
     | none =>
      obtain⟨p1,p2⟩:=mB key i3 e1 e2
      have hw:=r3'.write (i:=j) (l:=t) (o:=.dK (putK ks key z)) (s:=.dk (putD kvs key d)) (by rw[hg];rfl) ej rfl ⟨t,_,rfl,aR,p1,p2⟩
      exact(kk.after hw.2).dat hw.1 (h5 hd) (RepD.same i3 hw.2.vis)
   ·exact h3.elim
  ·exact h1.elim
 ·exact h1.elim
end
section
variable {X:Cx}{pins:List (Addr×Obj)}{σ:St}{H:Hp}{s:ca}{h':Heap}
theorem Inv.turns {t':Nat}{ch:List Addr}(I:Inv X pins σ H s)(k:∀b o,b∉ch->s.heap.get? b=some o->h'.get? b=some o)(hf:∀b∈ch,FpOk X pins H b):Inv X pins σ H {s with heap:=h',toks:=t'}:=by
 have nit:∀b u,H b=some u->b∉ch:=λb u e z=>by rw[(hf b z).1]at e;cases e
 refine I.step (g':=s.gens) (d':=s.drawn) (ch:=ch) (λb hb=>?_) (λb o _ _ hc e _=>k b o hc e) (λb o _ _ hc e _=>⟨o.slots,k b o hc e⟩) (λ_ _ _ _ n=>n)
  (λb o hc e=>⟨o,k b o hc e⟩) (λ_ _ e=>e) (λ_ _ _ e=>e) (λb ps e=>⟨#[],by rw[e];simp⟩) (λm hm=>?_) (λb u e=>?_) I.bare
 ·obtain⟨_,h2,_,h4,h5,h6⟩:=hf b hb
  exact⟨h4,h2,h5,h6⟩
 ·obtain⟨o,es,ep,ho,r⟩:=hm
  exact⟨o,es,ep,k _ o (λz=>(hf _ z).2.1 rfl) ho,r⟩
 ·refine(I.hok b u e).stay (λc v hc q=>k c v ?_ q) (λ_ q=>q) λ_ _ q=>q
  rcases hc with z | z
  ·rw[z];exact nit b u e
  ·exact nit c _ z
theorem Inv.trackO {p:Addr}{o:HO}(I:Inv X pins σ H s)(hf:FpOk X pins H p)(new:cL X.prog X.w (upd H p o) s.heap p o):Inv X pins σ (upd H p o) s:=by
 have hn:=hf.1
 refine I.call' (ch:=[p]) rfl ⟨λb u e _ _ _=>e,λb u e _ _ _=>⟨u.slots,e⟩,λb u e n hx=>?_,λb u e _=>⟨u,e⟩,λb xs e=>?_,λb u v e=>?_,λb ps e=>⟨#[],?_⟩⟩ (λb u e=>?_) I.bare (λb hb=>?_)
 ·rw[aQ (λz=>hx (by simp[z]))];exact n
 ·rw[aQ (bb e hn)];exact e
 ·rw[aQ (bb e hn)];exact e
 ·rw[aQ (bb e hn),e];simp
 ·by_cases hb:b=p
  ·subst hb;rw[aR]at e;cases e;exact new
  ·rw[aQ hb]at e
   exact(I.hok b u e).stay (λc v _ q=>q) (λc q=>by rw[aQ (bb q hn)];exact q) λc xs q=>by rw[aQ (bb q hn)];exact q
 ·rw[sn.mp hb]
  obtain⟨_,h2,_,h4,h5,h6⟩:=hf
  exact⟨h4,h2,h5,h6⟩
end
section
variable {K:bi}{ts:TA}{as:AA}
def nC (pin:Nat->Bool)(ρ:En):R->Option (List D×(En->Prop))
 | .d (.lst ds)=>some (ds,λ_=>True)
 | .o i=>(match gt ρ i with
  | .ow ds=>if pin i=true then some (ds,λρ2=>gt ρ2 i = .ow ds)else none
  | _=>none)
 | _=>none
theorem qQ {pin:Nat->Bool}{F:Fr}{σ:St}{ρ:En}{H:Hp}{v:V}{r:R}{ds:List D}{c:En->Prop}(a:Rel K F σ ρ H)(i:InF K F σ ρ H v r)(e:nC pin ρ r=some (ds,c)) :
  ∃l vs,v = .ref l/\SqL K H l vs/\∀ σ2 ρ2 H2,Same (hid H (hs F σ ρ)) (hid H2 (hs F σ2 ρ2))->(∀i,SvOk K (hid H2 (hs F σ2 ρ2)) H2 σ2[i]? (gt ρ2 i))->(∀j a,pin j=true->σ[j]? = some (some (.ref a))->σ2[j]? = some (some (.ref a)))->c ρ2->∃vs2,SqL K H2 l vs2/\RepDs K (hid H2 (hs F σ2 ρ2)) vs2 ds:=by
 cases r with
 | n s=>cases e
 | t n=>cases e
 | x s=>cases e
 | d d =>
  cases d with
  | lst es =>
   simp only[nC,Cv,Ew]at e
   obtain⟨rfl,rfl⟩:=e
   have rd:RepD K _ v (.lst es):=i
   unfold RepD at rd
   obtain⟨l,vs,rfl,sq,rr⟩:=rd
   exact⟨l,vs,rfl,cg.seq (StL.sq sq),λσ2 ρ2 H2 sm _ _ _=>⟨vs,cg.seq (sm.seq (StL.sq sq)),rr.same sm⟩⟩
  | non=>cases e
  | bl _=>cases e
  | int _=>cases e
  | str _=>cases e
  | tup _=>cases e
 | o j =>
  have ej:σ[j]? = some (some v):=i
  unfold nC at e
  cases hg:gt ρ j with
  | ow es =>
   simp only[hg]at e
   split at e
   ·rename_i hp
    simp only[Cv,Ew]at e
    obtain⟨rfl,rfl⟩:=e
    have s:=a.sl j
    rw[hg,ej]at s
    obtain⟨l,vs,e1,hl,rd⟩:=s
    injection e1 with e1;injection e1 with e1;subst e1
    refine⟨l,vs,rfl,SqL.of hl,λσ2 ρ2 H2 sm sv pn hc=>?_⟩
    have s2:=sv j
    rw[hc,pn j l hp ej]at s2
    obtain⟨l',vs',e2,hl',rd'⟩:=s2
    injection e2 with e2;injection e2 with e2;injection e2 with e2;subst e2
    exact⟨vs',SqL.of hl',rd'⟩
   ·cases e
  | un=>simp[hg]at e
  | vl _=>simp[hg]at e
  | tp _=>simp[hg]at e
  | dk _=>simp[hg]at e
  | dt _=>simp[hg]at e
  | ex _ _=>simp[hg]at e
  | sc _=>simp[hg]at e
  | px _ _ _=>simp[hg]at e
  | xl _=>simp[hg]at e
  | ob _ _=>simp[hg]at e
  | ll _=>simp[hg]at e
  | ds _ _ _=>simp[hg]at e
end
section
variable {K:bi}{ts:TA}{as:AA}
def aNever:AS:=λ_ _=>False
theorem nJ {pr:Nat->Bool}:TSok K pr tNever aNever:=λF σ ρ H D e hp r h k=>h.elim
end
def zJ (t:TE):Prop:=∀ σ H Q,t σ H Q->∃v,Q v H/\∀H' (Q':VK),Q' v H'->t σ H' Q'
theorem Ay {v:V}:zJ (tC v):=λσ H Q h=>⟨v,h,λ_ _ h'=>h'⟩
def Ite (K:bi)(l:Addr):It :=
 ⟨λi H=>∃xs x,SqL K H l xs/\xs[i]? = some x,λi H v H'=>∃p x,v = .ref p/\H p=none/\H'=upd H p (.tup [.int (i:Nat),x])/\∀xs,SqL K H l xs->xs[i]? = some x,
  λi H=>∃xs,SqL K H l xs/\xs.length<=i⟩
theorem tI {P:wS}{w:B_}{K:bi}{elts:List Expr}{x1}{tpos:Pos}{e it l:Addr}(ne:e≠it) :
  Turn P w K (.Tuple elts x1 tpos) (Ite K l) [e,it] e (λi h=>(∃old,HD h e it (i:Nat) old)/\h.IsListIter it l i) where
 mem:=by simp
 obj:=λi h st b hb=>by
  obtain⟨⟨old,he⟩,⟨o1,e1,c1,d1⟩⟩:=st
  simp only[sK,Cr,or_false]at hb
  rcases hb with rfl | rfl
  ·exact⟨_,he,λv q=>by cases q⟩
  ·exact⟨o1,e1,λv q=>by rw[d1]at q;cases q⟩
 keep:=λi h h' st k=>by
  obtain⟨⟨old,he⟩,h1⟩:=st
  exact⟨⟨old,k e (by simp) _ he⟩,h1.at λo q=>k it (by simp) o q⟩
 item:=by
  intro X hP hw hK hc i pins s σ H E I hf st hg
  subst hP hw hK
  obtain⟨xs,x,q1,hx⟩:=hg
  obtain⟨⟨old,he⟩,h1⟩:=st
  obtain⟨its,rv,p1,_⟩:=I.list q1
  obtain⟨u,hu,ru⟩:=rv.get hx
  refine wpAny_pyNext_enum_item he h1 p1.isList (x:=u) (by simpa using hu) ne λh' a1 a2 a3 a4 hk=>?_
  refine⟨_,rfl,Ie (s:={s with heap:=h',toks:=s.toks+1}) a1 λh2' he' hs'=>?_⟩
  have hs2:Cw e h' h2':=hs'
  have ls:∀ {b o},s.heap.get? b=some o->b≠s.heap.objs.size:=λe=>ww (lc e)
  have es:e≠s.heap.objs.size:=ls he
  have up:∀b o,b∉[e,it]->s.heap.get? b=some o->h2'.get? b=some o:=λb o hb q=>by
   simp only[sK,Cr,or_false,not_or]at hb
   exact(hs2.2 b hb.1).trans (hk b o hb.1 hb.2 q)
  have I1:Inv X pins σ H {s with heap:=h2',toks:=s.toks+1}:=I.turns (t':=s.toks+1) up hf
  have fp:FpOk X pins H s.heap.objs.size:=I.fpOk (lm _) (I.hok.fresh (lm _))
  have g:h2'.get? s.heap.objs.size=some {cls:=.type "tuple",data:=.seq #[.int i s.toks,u]}:=(hs2.2 _ (Dq es)).trans a3
  have I2:=I1.trackO (o:=.tup [.int (i:Nat),x]) fp ⟨by show 2<=wT;decide,[.int i s.toks,u],.cons ⟨_,rfl⟩ (.cons ru .nil),_,g,rfl,_,rfl⟩
  refine⟨.ref s.heap.objs.size,upd H s.heap.objs.size (.tup [.int (i:Nat),x]),I2,rfl,⟨_,x,rfl,fp.1,rfl,λzs hz=>by rw[I.list_inj hz q1];exact hx⟩,?_,λb hb=>?_⟩
  ·refine⟨⟨u,by simpa using he'⟩,?_⟩
   obtain⟨o,q,r⟩:=a2;exact⟨o,(hs2.2 it (Dq ne)).trans q,r⟩
  ·have hb':=(hf b hb).1
   have ne':b≠s.heap.objs.size:=by
    obtain⟨o1,e1,_⟩:=h1
    simp only[sK,Cr,or_false]at hb
    rcases hb with rfl | rfl
    ·exact ls he
    ·exact ls e1
   rw[aQ ne'];exact hb'
 done:=by
  intro X hP hw hK hc i pins s σ H E I hf st hg
  subst hP hw hK
  obtain⟨xs,q1,hl⟩:=hg
  obtain⟨⟨old,he⟩,h1⟩:=st
  obtain⟨its,rv,p1,_⟩:=I.list q1
  have l1:=rv.length
  refine wpAny_pyNext_enum_end (I.ok.hd hc) he h1 p1.isList (by simp;omega) λh' hk=>⟨rfl,I.turns (ch:=[e,it]) (t':=s.toks) (λb o hb q=>?_) hf⟩
  simp only[sK,Cr,or_false,not_or]at hb
  exact hk b o hb.2 q
 self:=λ_ _ _ _ _ st h=>by obtain⟨⟨old,he⟩,_⟩:=st;exact EV he h
def AZ (K:bi)(t:TA):TI:=λσ H R=>t σ H λvs H1=>∃l xs,vs=[.ref l]/\SqL K H1 l xs/\R (Ite K l) H1
theorem jc (K:bi){X:Cx}{elts:List Expr}{x1}{tpos:Pos}{a:Expr}{ta:TA}{p pos:Pos}(hg:Gl X "enumerate")(hm:X.mg "enumerate" = none)(ha:PA X [a] ta)(hK:X.K=K:=by rfl)(hs:B4 [a] X.env=[(false,eval a X.env)]:=by rfl) :
  PI X (.Tuple elts x1 tpos) (.Call (.Name "enumerate" p) [a] [] pos) (AZ K ta):=by
 subst hK
 intro pins s σ H R I h
 refine HR (fj I hg hm gO (Cy (thn (ha pos pins s σ H _ I h) λus s1 ⟨vs,H1,I1,r1,q1⟩=>?_) hs rfl))
 obtain⟨l,xs,rfl,h1,q⟩:=q1
 obtain⟨u,rfl,ru⟩:=jz r1
 cases ru
 obtain⟨its,_,p1,_⟩:=I1.list h1
 refine call_enumerate_list p1.isList λh' he hi hsz hk=>?_
 refine EV he ?_
 refine⟨_,_,_,_,H1,rfl,I1.kept (t':=s1.toks) hk,tI (show s1.heap.objs.size+1≠s1.heap.objs.size by omega),⟨⟨_,he⟩,hi⟩,λb hb=>?_,q⟩
 have le:s1.heap.objs.size<=b:=by
  simp only[sK,Cr,or_false]at hb
  rcases hb with rfl | rfl <;> omega
 exact I1.fpOk le (I1.hok.fresh le)
section
variable {K:bi}{ts:TA}{as:AA}
def dO (k:Nat):List D->List D
 | []=>[]
 | d::ds=>.tup [.int (k:Nat),d]::dO (k+1) ds
theorem cR:∀ {ds:List D} {b k:Nat} {d:D},(dO b ds)[k]? = some d->∃x,ds[k]? = some x/\d = .tup [.int ((b+k:Nat):Int),x]
 | [],b,k,d,h=>by simp[dO]at h
 | x::ds,b,0,d,h=>by
  simp only[dO,DJ,Cv]at h
  exact⟨x,rfl,h.symm⟩
 | x::ds,b,k+1,d,h=>by
  simp only[dO,List.getElem?_cons_succ]at h
  obtain⟨a,e1,e2⟩:=cR (ds:=ds) (b:=b+1) (k:=k) h
  exact⟨a,by simpa using e1,by rw[e2,show b+1+k=b+(k+1)by omega]⟩
theorem bT:∀(ds:List D) (b:Nat),(dO b ds).length=ds.length
 | [],b=>rfl
 | x::ds,b=>by simp only[dO,At,bT ds]
theorem yi {S:Addr->Prop}{H:Hp}{l:Addr}{vs:List V}{ds:List D}(al:∀a,S a->H a≠none)(h1:SqL K H l vs)(r1:RepDs K (hid H S) vs ds):WkAt K S H (Ite K l) (dO 0 ds):=by
 intro k
 constructor
 ·intro d e
  obtain⟨x,ex,rfl⟩:=cR e
  rw[C5]
  obtain⟨v,e1,rv⟩:=r1.get ex
  refine⟨⟨vs,v,h1,e1⟩,λz H' ⟨p,a,ez,hp,eH,ha⟩=>?_⟩
  have a1:=ha vs h1
  rw[e1]at a1
  cases a1
  subst eH ez
  have sm:Same H (upd H p (.tup [.int (k:Nat),v])):=(Same.refl H).new hp
  have sm':Same (hid H S) (hid (upd H p (.tup [.int (k:Nat),v])) S):=br λa o e n=>⟨sm a o e,n⟩
  refine⟨sm,?_⟩
  unfold RepD
  exact⟨p,[.int (k:Nat),v],rfl,(gB (λz=>al p z hp) aR),.cons (by unfold RepD;rfl) (.cons (rv.same sm') .nil)⟩
 ·intro z
  rw[bT]at z
  exact⟨vs,h1,by rw[r1.length];exact z⟩
def BP (pin:Nat->Bool)(as:AA):AI:=λρ q=>as ρ λrs ρ1=>match rs with
 | [r1]=>(match nC pin ρ1 r1 with
  | some (ds,c)=>q (dO 0 ds) c ρ1
  | _=>False)
 | _=>False
theorem e6 {pin:Nat->Bool}(h:TAok K ts as):TIok K pin (AZ K ts) (BP pin as):=by
 intro F σ ρ H q Rk r ha k
 refine h F σ ρ H _ _ r ha λrs ρ1 vs H1 h1 r1 i1 k1=>?_
 split at h1
 ·obtain⟨x,rfl,ix⟩:=i1.one
  split at h1
  ·rename_i ds c e1
   obtain⟨l1,us1,rfl,s1,w1⟩:=qQ r1 ix e1
   refine⟨l1,us1,rfl,s1,k _ _ _ _ _ h1 r1 k1 λσ2 ρ2 H2 sm sv pn al hc=>?_⟩
   obtain⟨v1,z1,rd1⟩:=w1 σ2 ρ2 H2 sm sv pn hc
   exact yi (λa z=>(al a z).1) z1 rd1
  ·exact h1.elim
 ·exact h1.elim
end
open Builtin.SmallTypes (nextOf)
structure Feed (prog:wS)(w:B_)(it:Addr)(dep:List Addr)(St:Nat->Heap->Prop)(gv:Nat->Option bn):Prop where
 mem:it∈dep
 obj:∀i h,St i h->∃o vs n,h.get? it=some o/\o.data = .fields vs/\o.cls = .type n/\n ≠ "zip"
 keep:∀i h h',St i h->(∀b o,b∈dep->h.get? b=some o->h'.get? b=some o)->St i h'
 item:∀(A:Cg) i (s:ca) x (Q:bn->ca->Prop) E,St i s.heap->gv i=some x->(∀h',St (i+1) h'->Cw it s.heap h'->Q x {s with heap:=h'})->li (pc prog w) A (nextOf (.ref it)) Q E s
 fin:∀(A:Cg) i (s:ca) (Q:bn->ca->Prop) E,A.handled=none->St i s.heap->gv i=none->(∀h' e,Kv it s.heap h'->(∃o,h'.get? e=some o/\o.cls = .type "StopIteration")->E (.ref e) {s with heap:=h'})->li (pc prog w) A (nextOf (.ref it)) Q E s
section
variable {prog:wS}{w:B_}
theorem m4 {it l:Addr}{xs:Array bn}(hne:l≠it):Feed prog w it [it,l] (λi h=>h.IsTupleIter it l i/\h.IsTuple l xs) (λi=>xs[i]?) where
 mem:=by simp
 obj:=λi h ⟨⟨o,e,c,d⟩,_⟩=>⟨o,_,_,e,d,c,by decide⟩
 keep:=λi h h' ⟨a,b⟩ k=>⟨a.at λo e=>k it o (by simp) e,by obtain⟨o,e,r⟩:=b;exact⟨o,k l o (by simp) e,r⟩⟩
 item:=λA i s x Q E ⟨a,b⟩ hx k=>by
  obtain⟨o,ho,hc,hd⟩:=id a
  obtain⟨ol,hol,rr,nl,hdl⟩:=id b
  unfold nextOf
  refine bm (DM (name:=Fn "__next__") a.typeIs Ey (Dl Ey a.typeIs HQ ?_ (HF _)))
  show li _ _ (IQ (.ref it) 0>>=_) _ _ s
  refine bm (Ei ho hd (x:=.ref l) rfl ?_)
  show li _ _ (if(Value.ref l==Value.none)=true then _ else _) _ _ s
  rw[if_neg (λz=>by cases z)]
  show li _ _ (IQ (.ref it) 1>>=_) _ _ s
  refine bm (Ei ho hd (x:=.int i 0) rfl ?_)
  show li _ _ (Kj (.ref l)>>=_) _ _ s
  refine bm (Gq hol hdl ?_)
  simp only[CB,hx]
  refine bm (wpAny_setField ho hd (by simp) (dL ⟨x,rfl,dL ?_⟩))
  refine k _ ⟨⟨_,C2 _ ho (Obj.isFreed_of_fields (Jh hd _)),(Obj.cls_mapFields ..).trans hc,by rw[Jh hd];simp[DT]⟩,ol,?_,rr,nl,hdl⟩ (Df ..)
  exact((Df ..).2 l hne).trans hol
 fin:=λA i s Q E hh ⟨a,b⟩ hx k=>by
  obtain⟨o,ho,hc,hd⟩:=id a
  obtain⟨ol,hol,rr,nl,hdl⟩:=id b
  unfold nextOf
  refine bm (DM (name:=Fn "__next__") a.typeIs Ey (Dl Ey a.typeIs HQ ?_ (HF _)))
  show li _ _ (IQ (.ref it) 0>>=_) _ _ s
  refine bm (Ei ho hd (x:=.ref l) rfl ?_)
  show li _ _ (if(Value.ref l==Value.none)=true then _ else _) _ _ s
  rw[if_neg (λz=>by cases z)]
  show li _ _ (IQ (.ref it) 1>>=_) _ _ s
  refine bm (Ei ho hd (x:=.int i 0) rfl ?_)
  show li _ _ (Kj (.ref l)>>=_) _ _ s
  refine bm (Gq hol hdl ?_)
  simp only[CB,hx]
  refine bm (DX (bm (wpAny_setField ho hd (by simp) ?_)))
  show li _ _ (newExc (.type "StopIteration") []>>=_) _ _ _
  refine bm ?_
  simp only[newExc,newTuple]
  refine bm (Ds ?_ (by size_fits))
  refine bm (m:=firstArgMember _ _) (HG (a:=Value.none) (by first | rfl | (simp only[firstArgMember];rfl)) ?_)
  refine Ds ?_ (by size_fits)
  simp only[raiseNew]
  refine bm (wpAny_handled ?_)
  first | rw[show A.in1.handled=none from hh] | rw[hh]
  refine bm (dL (wpAny_throw ?_))
  exact k _ _ (((Df ..).extBut.push _).push _) ⟨_,wn _ rfl,rfl⟩
variable {A:Cg}{E:bn->ca->Prop}{s:ca}{z TI TO i1 i2:Addr}{d1 d2:List Addr}{S1 S2:Nat->Heap->Prop}{g1 g2:Nat->Option bn}
end
section
variable {X:Cx}(K:bi)
def xS (K:bi):V->List V->Hp->VK->Prop:=λx vs H Q=>∃(l:Addr) (ns:List Int) (y:Int) (j:Nat),x = .ref l/\vs=[.int y]/\SqL K H l (ns.map V.int)/\ns[j]? = some y/\j<1000000/\(∀m,m<j->ns[m]? ≠ some y)/\Q (.int (j:Nat)) H
theorem wU (hK:X.K=K:=by rfl):MtR X "list.index" (xS K):=by
 subst hK
 intro pins s σ H x vs v us Q I rx rv h
 obtain⟨l,ns,y,j,rfl,rfl,hq,hj,hsm,hno,q⟩:=h
 cases rx
 obtain⟨u,rfl,ru⟩:=rv.one
 obtain⟨its,r,pl,hz⟩:=I.list hq
 obtain⟨⟨cl,dd,dt,sl⟩,n,e,c1,c2,c3⟩:=pl
 simp only at c1 c2 c3
 subst c1 c2 c3
 have fx:(ns.map V.int).all jH=true:=by simp[jH]
 have hl:its.length=ns.length:=by have:=r.length;rw[f8]at this;omega
 have hjl:j<ns.length:=(kt.mp hj).1
 have at':∀m (hm:m<its.toArray.size),eqU (.int y) its.toArray[m]=decide (ns[m]? = some y):=λm hm=>by
  have hm':m<its.length:=by simpa using hm
  obtain⟨w,e1,e2⟩:=r.get (i:=m) (x:=V.int ns[m]) (by rw[wv,bv (by omega)];rfl)
  rw[bv hm']at e1
  cases e1
  have:=vy (x:=.int y) e2 rfl
  simp only[F3]
  rw[this,bv (by omega)]
  simp only[eqV,Cv]
  rw[Eh,beq_iff_eq,decide_eq_true_eq]
 refine Il Hn ⟨_,e,rfl⟩ PySem.F.entry_list_index (PySem.F.args_list_index_2 _ _) (SeqAt.list_indexAt l its.toArray n none sl u (eqU (.int y)) j (by rw[on];omega) (by omega) (by rw[at'];exact decide_eq_true hj) (λm hm hlt=>by rw[at'];exact decide_eq_false (hno m hlt))) ⟨e,λw hw=>g6 ru rfl r fx w (by simpa using hw),?_⟩
 exact⟨.int (j:Nat),H,I.tok _,⟨s.toks,rfl⟩,q⟩
end
section
variable {K:bi}{ta:TE}{a:AE}{ts:TA}{as:AA}
@[irreducible] def gIdx (ds:List D)(y:Int)(q:Nat->Prop):Prop:=∃(ns:List Int) (j:Nat),ds=ns.map D.int/\ns[j]? = some y/\j<1000000/\(∀m,m<j->ns[m]? ≠ some y)/\q j
theorem zm {ns:List Int}{y:Int}{j:Nat}{q:Nat->Prop}(h:ns[j]? = some y)(hj:j<1000000)(hno:∀m,m<j->ns[m]? ≠ some y)(hq:q j):gIdx (ns.map D.int) y q:=by unfold gIdx;exact⟨ns,j,rfl,h,hj,hno,hq⟩
def aIdx (a:AE)(as:AA):AE:=λρ q=>a ρ λr ρ1=>match view ρ1 r.frz with
 | some (.lst ds)=>as ρ1 λrs ρ2=>(match rs with
  | [.d (.int y)]=>gIdx ds y λj=>ρ1=ρ2/\q (.d (.int (j:Nat))) ρ2
  | _=>False)
 | _=>False
theorem yo (ha:TEok K ta a)(hs':TAok K ts as):TEok K (tBM K "list" (xS K) ta ts) (aIdx a as):=by
 intro F σ ρ H q Q r h k
 refine ha F σ ρ H _ _ r h λr1 ρ1 x H1 h1 o1=>?_
 obtain⟨r1',k1,i1⟩:=o1.inF
 split at h1
 ·rename_i ds e
  obtain⟨l0,us0,rfl,sq0,_⟩:=cG r1' i1 e
  refine⟨.inl ⟨rfl,_,sq0⟩,hs' F σ ρ1 H1 _ _ r1' h1 λrs ρ2 vs H2 h2 r2 i2 k2=>?_⟩
  split at h2
  ·rename_i y
   obtain⟨z,rfl,iz⟩:=i2.one
   unfold gIdx at h2
   obtain⟨ns,j,rfl,hj,hsm,hno,e12,hq⟩:=h2
   subst e12
   obtain⟨l,us,el,sq,rd⟩:=cG r2 (i1.keep k2) e
   rw[gf]at rd
   rw[rd]at sq
   exact⟨l,ns,y,j,el,by rw[iz.int],sq,hj,hsm,hno,((k.after k1).after k2).int r2 hq⟩
  ·exact h2.elim
 ·exact h1.elim
end
section
variable {X:Cx}(K:bi)
def ur (K:bi):List V->Hp->VK->Prop:=λxs H Q=>∃(p:Addr) (ns:List Int),xs=[.ref p]/\SqL K H p (ns.map V.int)/\ns.length<64/\∀ns':List Int,ns'.Perm ns->ns'.Pairwise (· <= ·)->∀l,H l=none->Q (.ref l) (upd H l (.lst (ns'.map V.int)))
theorem qE (hK:X.K=K:=by rfl):ik X (.builtin "sorted") (ur K):=by
 subst hK
 intro pins s σ H xs us Q I r h
 obtain⟨a,ns,rfl,hq,h64,q1⟩:=h
 obtain⟨u1,rfl,ru⟩:=jz r
 cases ru
 obtain⟨its,rv,pl,hz⟩:=I.list hq
 have hl:its.length=ns.length:=by have:=rv.length;rw[f8]at this;omega
 refine sorted_ints pl.isList (lR rv) (by omega) λout ns' a1 a2 a3=>?_
 obtain⟨e,he⟩:=sortedAll_at s.heap its out
 have hlen:=a2.length_eq
 refine⟨.ref (s.heap.objs.size+1),_,I.laid (t':=s.toks) (o:=.lst (ns'.map V.int)) (λb o q=>sortedAll_old q) (EJ _) ⟨?_,out.toList,e,f9 a1,?_⟩,rfl,q1 ns' a2 a3 _ (I.hok.fresh (EJ _))⟩
 ·rw[f8];exact CN (eh (n:=ns'.length) (by omega))
 ·rw[he]
end
section
variable {K:bi}
@[irreducible] def gSorted:List R->AE:=λrs ρ q=>match rs with
 | [r]=>(match view ρ r with
  | some (.lst ds)=>(match fk ds with | some ns=>ns.length<64/\(∀ns':List Int,ns'.Perm ns->ns'.Pairwise (· <= ·)->q (.f (ns'.map D.int)) ρ) | none=>False)
  | _=>False)
 | _=>False
theorem qD:CbOk K (ur K) gSorted:=by
 intro F σ ρ H vs rs q Q a i h b
 unfold gSorted at h
 split at h
 ·obtain⟨y,rfl,iy⟩:=i.one
  split at h
  ·rename_i ds e
   split at h
   ·rename_i ns e'
    obtain⟨l,us,rfl,sq,rd⟩:=cG a iy e
    rw[kM e',gf]at rd
    rw[rd]at sq
    exact⟨l,ns,rfl,sq,h.1,λns' h1 h2 p hp=>b.new a (h.2 ns' h1 h2) (gf.mpr rfl) hp⟩
   ·exact h.elim
  ·exact h.elim
 ·exact h.elim
theorem sY {r:R}{ρ:En}{q:Ko}{ns:List Int}(hv:view ρ r=some (.lst (ns.map D.int)))(h64:ns.length<64)(h1:∀ns':List Int,ns'.Perm ns->ns'.Pairwise (· <= ·)->q (.f (ns'.map D.int)) ρ):gSorted [r] ρ q:=by
 unfold gSorted
 simp only[hv,lQ]
 exact⟨h64,h1⟩
end
end L2
set_option maxHeartbeats 1000000
namespace L2
open PySem PySem.Spec PyProof.Rows
open PySem.MeetsSeq PySem.MeetsSeq2 PySem.MeetsSeq3
open PySem.AutoSeq1 (wpAny_loadPart')
end L2
namespace L2
open PySem PySem.Spec PyProof.Rows PySem.W
end L2
namespace L2
open PySem PySem.Spec PyProof.Rows Builtin
end L2
namespace L2
open PySem PySem.Spec PyProof.Rows
def Itw (K:bi)(l:Addr)(n:Nat):It :=
 ⟨λi H=>∃xs x,SqL K H l xs/\xs.length=n/\i<n/\xs[n - 1 - i]? = some x,λi H x H'=>H'=H/\∀xs,SqL K H l xs->xs[n - 1 - i]? = some x,λi H=>n<=i⟩
theorem v7 {P:wS}{w:B_}{K:bi}{tg:Expr}(a it:Addr)(n:Nat):Turn P w K tg (Itw K a n) [it] it (λi h=>i<=n/\h.IsRevIter it a ((n:Int) - 1 - (i:Int))) where
 mem:=by simp
 obj:=λi h st b hb=>by
  have e:b=it:=by simpa using hb
  subst e
  obtain⟨_,o,e,c,d⟩:=st
  exact⟨o,e,λv z=>by rw[d]at z;cases z⟩
 keep:=λi h h' st k=>⟨st.1,st.2.at λo e=>k it (by simp) o e⟩
 item:=by
  intro X hP hw hK hc i pins s σ H E I hf st hg
  subst hP hw hK
  obtain⟨xs,x,hq,hn,hi,hx⟩:=hg
  obtain⟨its,rv,p,hz⟩:=I.list hq
  obtain⟨u,hu,ru⟩:=rv.get hx
  obtain⟨f0,f1,f2,f3,f4,f5⟩:=hf it (by simp)
  have st2:=st.2
  rw[show(n:Int) - 1 - (i:Int)=((n - 1 - i:Nat):Int)by omega]at st2
  refine wpAny_pyNext_rev_item st2 p.isList (x:=u) (by simpa using hu) λh' st' sb=>?_
  have I1:Inv X pins σ H {s with heap:=h'}:=I.turned (t':=s.toks) (λb o hb e=>(sb.2 b hb).trans e) f0 f1 f3 f4 f5
  rw[show((n - 1 - i:Nat):Int) - 1=(n:Int) - 1 - ((i+1:Nat):Int)by omega]at st'
  obtain⟨o,e,c,d⟩:=id st'
  exact⟨u,rfl,vd (s:={s with heap:=h'}) e c d (by decide) ⟨x,H,I1,ru,⟨rfl,λys hy=>by rw[I.list_inj hy hq];exact hx⟩,⟨by omega,st'⟩,λb hb=>(hf b hb).1⟩⟩
 done:=by
  intro X hP hw hK hc i pins s σ H E I hf st hg
  subst hP hw hK
  obtain⟨f0,f1,f2,f3,f4,f5⟩:=hf it (by simp)
  have hg':n<=i:=hg
  have st2:=st.2
  have st1:=st.1
  rw[show(n:Int) - 1 - (i:Int) = -1 by omega]at st2
  exact wpAny_pyNext_rev_end (I.ok.hd hc) st2 λh' eb=>⟨rfl,I.turned (t':=s.toks) (λb o hb e=>eb b o hb e) f0 f1 f3 f4 f5⟩
 self:=λ_ _ _ _ _ st h=>Jt st.2 h
def iRev (K:bi)(t:TA):TI:=λσ H R=>t σ H λvs H1=>∃l xs,vs=[.ref l]/\SqL K H1 l xs/\R (Itw K l xs.length) H1
theorem Ah (K:bi){X:Cx}{tg:Expr}{a:Expr}{ta:TA}{p pos:Pos}(hg:Gl X "reversed")(hm:X.mg "reversed" = none)(ha:PA X [a] ta)(hK:X.K=K:=by rfl)(hs:B4 [a] X.env=[(false,eval a X.env)]:=by rfl) :
  PI X tg (.Call (.Name "reversed" p) [a] [] pos) (iRev K ta):=by
 subst hK
 intro pins s σ H R I h
 refine HR (fj I hg hm qG (Cy (thn (ha pos pins s σ H _ I h) λus s1 ⟨vs,H1,I1,r1,q1⟩=>?_) hs rfl))
 obtain⟨l,xs,rfl,h1,q⟩:=q1
 obtain⟨u,rfl,ru⟩:=jz r1
 cases ru
 obtain⟨its,rv,p1,_⟩:=I1.list h1
 have hl:=rv.length
 refine call_reversed_list p1.isList ?_
 have it:Heap.IsRevIter (s1.heap.push (revObj l ((its.toArray.size:Int) - 1))) s1.heap.objs.size l ((xs.length:Int) - 1 - ((0:Nat):Int)):=⟨_,wn _ rfl,rfl,by rw[on,<- hl];simp[revObj]⟩
 refine Jt it ?_
 refine⟨s1.heap.objs.size,[s1.heap.objs.size],_,_,H1,rfl,I1.kept (t':=s1.toks) λb o e=>db _ e,v7 l _ xs.length,⟨B0 _,it⟩,λb hb=>?_,q⟩
 have e:b=s1.heap.objs.size:=by simpa using hb
 subst e
 exact I1.fpOk (lm _) (I1.hok.fresh (lm _))
section
variable {K:bi}{ts:TA}{as:AA}
theorem zS {S:Addr->Prop}{H:Hp}{a:Addr}{vs:List V}{ds:List D}(h:SqL K H a vs)(rd:RepDs K (hid H S) vs ds):WkAt K S H (Itw K a vs.length) ds.reverse:=by
 have hl:=rd.length
 intro k
 constructor
 ·intro d e
  have hk:k<ds.length:=by
   have:=(kt.mp e).1
   rwa [Fd]at this
  rw[Ix hk]at e
  obtain⟨v,e1,rv⟩:=rd.get e
  rw[<- hl]at e1
  refine⟨⟨vs,v,h,rfl,by omega,e1⟩,λx H' z=>⟨z.1▸Same.refl H,?_⟩⟩
  have:=z.2 vs h
  rw[e1]at this;cases this;rw[z.1];exact rv
 ·intro z
  rw[Fd]at z
  show vs.length<=k
  omega
theorem tF {pin:Nat->Bool}{ρ:En}{r:R}{ds:List D}{c:En->Prop}(e:nC pin ρ r=some (ds,c)):c ρ:=by
 cases r with
 | n s=>cases e
 | t n=>cases e
 | x n=>cases e
 | d d =>
  cases d with
  | lst es=>simp only[nC,Cv,Ew]at e;rw[<- e.2];trivial
  | _=>cases e
 | o i =>
  unfold nC at e
  cases hg:gt ρ i with
  | ow es =>
   simp only[hg]at e
   split at e
   ·simp only[Cv,Ew]at e
    rw[<- e.2];exact hg
   ·cases e
  | _=>simp[hg]at e
def aRvd (pin:Nat->Bool)(as:AA):AI:=λρ q=>as ρ λrs ρ1=>match rs with
 | [r1]=>(match nC pin ρ1 r1 with
  | some (ds,c)=>q ds.reverse c ρ1
  | _=>False)
 | _=>False
theorem wg {pin:Nat->Bool}(h:TAok K ts as):TIok K pin (iRev K ts) (aRvd pin as):=by
 intro F σ ρ H q Rk r ha k
 refine h F σ ρ H _ _ r ha λrs ρ1 vs H1 h1 r1 i1 k1=>?_
 split at h1
 ·obtain⟨x,rfl,ix⟩:=i1.one
  split at h1
  ·rename_i ds c e1
   obtain⟨l1,us1,rfl,s1,w1⟩:=qQ r1 ix e1
   obtain⟨v0,z0,rd0⟩:=w1 σ ρ1 H1 (Same.refl _) r1.sl (λ_ _ _ e=>e) (tF e1)
   refine⟨l1,v0,rfl,z0,k _ _ _ _ _ h1 r1 k1 λσ2 ρ2 H2 sm sv pn al hc=>?_⟩
   obtain⟨v1,z1,rd1⟩:=w1 σ2 ρ2 H2 sm sv pn hc
   have:=zS z1 rd1
   rw[rd1.length,<- rd0.length]at this
   exact this
  ·exact h1.elim
 ·exact h1.elim
end
theorem kP {prog:wS}{w:B_}{A:Cg}(hh:A.handled=none)(it l:Addr)(hne:l≠it)(xs:Array bn) :
  Kg prog w A it [it,l] xs.size (λi v=>xs[i]? = some v) (λi h=>h.IsTupleIter it l i/\h.IsTuple l xs) where
 live:=λ_ _ st=>let ⟨o,ho,_⟩:=st.1;⟨o,ho⟩
 frame:=λ_ _ _ st hk=>(m4 (prog:=prog) (w:=w) hne).keep _ _ _ st λb o hb e=>hk b hb o e
 item:=λi s Q E hi st hQ=>(m4 hne).item A i s xs[i] Q E st (by simp[hi]) λh' st' sb=>hQ _ h' s.toks (by simp[hi]) st' sb
 done:=λs Q E st hE=>(m4 hne).fin A xs.size s Q E hh st (by simp) hE
open AutoSeq1 (wpAny_loadPart') in
theorem qj (l:Addr)(xs:Array bn) :
  Meets (Builtin.«enumerate.__new__» ⟨[.type "enumerate",.ref l],[]⟩) (λ_ R s=>s.heap.IsTuple l xs /\
   R (.ok (.ret (.ref (s.heap.push {cls:=.type "tuple_iterator",data:=.fields #[.ref l,.int 0 0]}).objs.size)))
    {s with heap:=(s.heap.push {cls:=.type "tuple_iterator",data:=.fields #[.ref l,.int 0 0]}).push {cls:=.type "enumerate",data:=.fields #[.none,.bool false,.ref s.heap.objs.size,DT 0,.none,.none]}}) :=
 .of_wp λprog w A R s h=>by
  obtain⟨hp,g,d,tk,os⟩:=s;obtain⟨hl,h⟩:=h
  have hsub:=sub_enumerate
  have hL:Heap.IsTuple (Shared.heap ⟨hp,g,d,tk,os⟩) l xs:=hl
  wp_walk
  refine wpAny_stack_any λst=>dL ?_
  split
  ·rename_i c _ _ _ _ _
   cases (c==Value.type "enumerate")
   ·wp_walk using FE hL
    exact⟨_,rfl,h⟩
   ·wp_walk using FE hL
    exact⟨_,rfl,h⟩
  ·wp_walk using FE hL
   exact⟨_,rfl,h⟩
theorem mf {prog:wS}{w:B_}{A:Cg}{E:bn->ca->Prop}{s:ca}{l:Addr}{xs:Array bn}{Q:bn->ca->Prop}(hL:s.heap.IsTuple l xs)
  (h:∀h',HD h' (s.heap.objs.size+1) s.heap.objs.size 0 .none->h'.IsTupleIter s.heap.objs.size l 0->h'.objs.size=s.heap.objs.size+2 ->
   (∀b o,s.heap.get? b=some o->h'.get? b=some o)->Q (.ref (s.heap.objs.size+1)) {s with heap:=h'}) :
  li (pc prog w) A (call (.type "enumerate") [.ref l]) Q E s:=by
 refine callType_new F.called_enumerate (by decide) (F.typeCall_enumerate_1 _) (F.newCall_enumerate_1 _) (λobj=>F.args_object_init_2 obj _) F.entry_enumerate_new
  (qj l xs) ⟨hL,?_⟩
 have hz:(s.heap.push {cls:=.type "tuple_iterator",data:=.fields #[.ref l,.int 0 0]}).objs.size=s.heap.objs.size+1:=CI ..
 show _/\_
 rw[hz]
 have he:HD ((s.heap.push {cls:=.type "tuple_iterator",data:=.fields #[.ref l,.int 0 0]}).push
   {cls:=.type "enumerate",data:=.fields #[.none,.bool false,.ref s.heap.objs.size,DT 0,.none,.none]}) (s.heap.objs.size+1) s.heap.objs.size 0 .none:=by
  have:=wn (s.heap.push {cls:=.type "tuple_iterator",data:=.fields #[.ref l,.int 0 0]})
   (o:={cls:=.type "enumerate",data:=.fields #[.none,.bool false,.ref s.heap.objs.size,DT 0,.none,.none]}) rfl
  rw[hz]at this;exact this
 refine⟨⟨_,he,rfl⟩,h _ he ⟨_,db _ (wn _ rfl),rfl,rfl⟩ (by rw[CI,hz]) λb o x=>db _ (db _ x)⟩
def Itf (K:bi)(l:Addr)(n:Nat):It :=
 ⟨λi H=>∃xs x,SqT K H l xs/\xs.length=n/\xs[i]? = some x,λi H v H'=>∃p x,v = .ref p/\H p=none/\H'=upd H p (.tup [.int (i:Nat),x])/\∀xs,SqT K H l xs->xs[i]? = some x,
  λi H=>n<=i/\∃xs,SqT K H l xs/\xs.length=n⟩
theorem sf {P:wS}{w:B_}{K:bi}{elts:List Expr}{x1}{tpos:Pos}{e it l:Addr}{n:Nat}(ne:e≠it)(nl:l≠it)(nel:e≠l) :
  Turn P w K (.Tuple elts x1 tpos) (Itf K l n) [e,it] e (λi h=>((∃old,HD h e it (i:Nat) old)/\h.IsTupleIter it l i)/\i<=n) where
 mem:=by simp
 obj:=λi h st b hb=>by
  obtain⟨⟨⟨old,he⟩,⟨o1,e1,c1,d1⟩⟩,_⟩:=st
  simp only[sK,Cr,or_false]at hb
  rcases hb with rfl | rfl
  ·exact⟨_,he,λv q=>by cases q⟩
  ·exact⟨o1,e1,λv q=>by rw[d1]at q;cases q⟩
 keep:=λi h h' st k=>by
  obtain⟨⟨⟨old,he⟩,h1⟩,hi⟩:=st
  exact⟨⟨⟨old,k e (by simp) _ he⟩,h1.at λo q=>k it (by simp) o q⟩,hi⟩
 item:=by
  intro X hP hw hK hc i pins s σ H E I hf st hg
  subst hP hw hK
  obtain⟨xs,x,q1,hln,hx⟩:=hg
  obtain⟨⟨⟨old,he⟩,h1⟩,hin⟩:=st
  obtain⟨its,rv,p1,_⟩:=I.tuple q1
  have hxi:=(kt.mp hx).1
  obtain⟨u,hu,ru⟩:=rv.get hx
  have hlt:i<its.toArray.size:=by rw[on];exact(kt.mp hu).1
  refine IP (kP (show X.A.in1.handled=none from I.ok.hd hc) it l nl its.toArray) he ⟨h1,p1⟩ hlt ne (by simp[ne,nel]) λy h' tk hy a1 a2 a3 a4 hk=>?_
  have ey:y=u:=by
   have hy':its[i]? = some y:=by simpa using hy
   rw[hu]at hy';cases hy';rfl
  subst ey
  refine⟨_,rfl,Ie (s:={s with heap:=h',toks:=tk+1}) a1 λh2' he' hs'=>?_⟩
  have hs2:Cw e h' h2':=hs'
  have ls:∀ {b o},s.heap.get? b=some o->b≠s.heap.objs.size:=λe=>ww (lc e)
  have es:e≠s.heap.objs.size:=ls he
  have up:∀b o,b∉[e,it]->s.heap.get? b=some o->h2'.get? b=some o:=λb o hb q=>by
   simp only[sK,Cr,or_false,not_or]at hb
   exact(hs2.2 b hb.1).trans (hk b o hb.1 hb.2 q)
  have I1:Inv X pins σ H {s with heap:=h2',toks:=tk+1}:=I.turns (t':=tk+1) up hf
  have fp:FpOk X pins H s.heap.objs.size:=I.fpOk (lm _) (I.hok.fresh (lm _))
  have g:h2'.get? s.heap.objs.size=some {cls:=.type "tuple",data:=.seq #[.int i tk,y]}:=(hs2.2 _ (Dq es)).trans a3
  have I2:=I1.trackO (o:=.tup [.int (i:Nat),x]) fp ⟨by show 2<=wT;decide,[.int i tk,y],.cons ⟨_,rfl⟩ (.cons ru .nil),_,g,rfl,_,rfl⟩
  refine⟨.ref s.heap.objs.size,upd H s.heap.objs.size (.tup [.int (i:Nat),x]),I2,rfl,⟨_,x,rfl,fp.1,rfl,λzs hz=>by rw[I.tuple_inj hz q1];exact hx⟩,?_,λb hb=>?_⟩
  ·refine⟨⟨⟨y,by simpa using he'⟩,?_⟩,by omega⟩
   obtain⟨o,q,r⟩:=a2.1;exact⟨o,(hs2.2 it (Dq ne)).trans q,r⟩
  ·have hb':=(hf b hb).1
   have ne':b≠s.heap.objs.size:=by
    obtain⟨o1,e1,_⟩:=h1
    simp only[sK,Cr,or_false]at hb
    rcases hb with rfl | rfl
    ·exact ls he
    ·exact ls e1
   rw[aQ ne'];exact hb'
 done:=by
  intro X hP hw hK hc i pins s σ H E I hf st hg
  subst hP hw hK
  obtain⟨hni,xs,q1,hl⟩:=hg
  obtain⟨⟨⟨old,he⟩,h1⟩,hin⟩:=st
  obtain⟨its,rv,p1,_⟩:=I.tuple q1
  have l1:=rv.length
  have ei:i=its.toArray.size:=by rw[on];omega
  subst ei
  refine Jc (kP (show X.A.in1.handled=none from I.ok.hd hc) it l nl its.toArray) he ⟨h1,p1⟩ λh' hk=>⟨rfl,I.turns (ch:=[e,it]) (t':=s.toks) (λb o hb q=>?_) hf⟩
  simp only[sK,Cr,or_false,not_or]at hb
  exact hk b o hb.2 q
 self:=λ_ _ _ _ _ st h=>by obtain⟨⟨⟨old,he⟩,_⟩,_⟩:=st;exact EV he h
def x4 (K:bi)(t:TA):TI:=λσ H R=>t σ H λvs H1=>∃l xs,vs=[.ref l]/\SqT K H1 l xs/\R (Itf K l xs.length) H1
theorem wB (K:bi){X:Cx}{elts:List Expr}{x1}{tpos:Pos}{a:Expr}{ta:TA}{p pos:Pos}(hg:Gl X "enumerate")(hm:X.mg "enumerate" = none)(ha:PA X [a] ta)(hK:X.K=K:=by rfl)(hs:B4 [a] X.env=[(false,eval a X.env)]:=by rfl) :
  PI X (.Tuple elts x1 tpos) (.Call (.Name "enumerate" p) [a] [] pos) (x4 K ta):=by
 subst hK
 intro pins s σ H R I h
 refine HR (fj I hg hm gO (Cy (thn (ha pos pins s σ H _ I h) λus s1 ⟨vs,H1,I1,r1,q1⟩=>?_) hs rfl))
 obtain⟨l,xs,rfl,h1,q⟩:=q1
 obtain⟨u,rfl,ru⟩:=jz r1
 cases ru
 obtain⟨its,_,p1,_⟩:=I1.tuple h1
 have lt:l<s1.heap.objs.size:=by obtain⟨o,e,_⟩:=id p1;exact lc e
 refine mf p1 λh' he hi hsz hk=>?_
 refine EV he ?_
 refine⟨_,_,_,_,H1,rfl,I1.kept (t':=s1.toks) hk,sf (show s1.heap.objs.size+1≠s1.heap.objs.size by omega) (ww lt) (Dq (ww (Em lt))),⟨⟨⟨_,he⟩,hi⟩,B0 _⟩,λb hb=>?_,q⟩
 have le:s1.heap.objs.size<=b:=by
  simp only[sK,Cr,or_false]at hb
  rcases hb with rfl | rfl <;> omega
 exact I1.fpOk le (I1.hok.fresh le)
section
variable {K:bi}{ts:TA}{as:AA}
theorem vZ {S:Addr->Prop}{H:Hp}{l:Addr}{vs:List V}{ds:List D}(al:∀a,S a->H a≠none)(h1:SqT K H l vs)(r1:RepDs K (hid H S) vs ds):WkAt K S H (Itf K l vs.length) (dO 0 ds):=by
 intro k
 constructor
 ·intro d e
  obtain⟨x,ex,rfl⟩:=cR e
  rw[C5]
  obtain⟨v,e1,rv⟩:=r1.get ex
  refine⟨⟨vs,v,h1,rfl,e1⟩,λz H' ⟨p,a,ez,hp,eH,ha⟩=>?_⟩
  have a1:=ha vs h1
  rw[e1]at a1
  cases a1
  subst eH ez
  have sm:Same H (upd H p (.tup [.int (k:Nat),v])):=(Same.refl H).new hp
  have sm':Same (hid H S) (hid (upd H p (.tup [.int (k:Nat),v])) S):=br λa o e n=>⟨sm a o e,n⟩
  refine⟨sm,?_⟩
  unfold RepD
  exact⟨p,[.int (k:Nat),v],rfl,(gB (λz=>al p z hp) aR),.cons (by unfold RepD;rfl) (.cons (rv.same sm') .nil)⟩
 ·intro z
  rw[bT]at z
  exact⟨by rw[r1.length];exact z,vs,h1,rfl⟩
def Bf (as:AA):AI:=λρ q=>as ρ λrs ρ1=>match rs with
 | [.d (.tup ds)]=>q (dO 0 ds) (λ_=>True) ρ1
 | _=>False
theorem si {pin:Nat->Bool}(h:TAok K ts as):TIok K pin (x4 K ts) (Bf as):=by
 intro F σ ρ H q Rk r ha k
 refine h F σ ρ H _ _ r ha λrs ρ1 vs H1 h1 r1 i1 k1=>?_
 split at h1
 ·rename_i ds
  obtain⟨x,rfl,ix⟩:=i1.one
  have rd:RepD K _ x (.tup ds):=ix
  unfold RepD at rd
  obtain⟨a,vs,rfl,sq,rd⟩:=rd
  refine⟨a,vs,rfl,cg.seqT sq.sq,k _ _ _ _ _ h1 r1 k1 λσ2 ρ2 H2 sm sv pn al hc=>?_⟩
  exact vZ (λa z=>(al a z).1) (cg.seqT (sm.seqT sq.sq)) (rd.same sm)
 ·exact h1.elim
end
end L2
namespace L2
open PySem PySem.Spec PyProof.Rows PySem.W
end L2
namespace L2
open PySem PySem.Spec PyProof.Rows PySem.W Builtin Builtin.ObjectAttr
end L2
namespace L2
open PySem PySem.Spec PyProof.Rows PySem.W
end L2
namespace L2
open PySem PySem.Spec PyProof.Rows
section
variable {P:wS}{w:B_}{A:Cg}{R:E1->ca->Prop}{s:ca}
theorem m_ (elt tg iter tg2 iter2:Expr)(ifs ifs2:List Expr)(scope:DF)(pos:Pos)(it acc:bn)(env:Env) :
  FY (.ListComp elt [⟨tg,iter,ifs,0⟩,⟨tg2,iter2,ifs2,0⟩] scope pos) 0 it acc env=(do
   Ev iter.pos
   match <- Et it with
   | none=>pure (.done .next)
   | some v =>
    Dh tg it v
    Ea tg env v
    let mut ok:=true
    for c in ifs do
     if ok then ok <- FH c env (eval c env)
    if ok then
     let x <- eval iter2 env
     Ev iter2.pos
     let x <- C7 iter2 env x
     let _ <- runOwn (.compStart (.ListComp elt [⟨tg,iter,ifs,0⟩,⟨tg2,iter2,ifs2,0⟩] scope pos) 1 (<- F4 [x] (Gu x)) acc env) env
    Ip (.compLoop (.ListComp elt [⟨tg,iter,ifs,0⟩,⟨tg2,iter2,ifs2,0⟩] scope pos) 0 it acc env)):=by rfl
theorem m9 (elt tg iter tg2 iter2:Expr)(ifs ifs2:List Expr)(scope:DF)(pos:Pos)(it acc:bn)(env:Env) :
  FY (.ListComp elt [⟨tg,iter,ifs,0⟩,⟨tg2,iter2,ifs2,0⟩] scope pos) 1 it acc env=(do
   Ev iter2.pos
   match <- Et it with
   | none=>pure (.done .next)
   | some v =>
    Dh tg2 it v
    Ea tg2 env v
    let mut ok:=true
    for c in ifs2 do
     if ok then ok <- FH c env (eval c env)
    if ok then
     (do let _ <- call (.builtin "list.append") [acc,<- eval elt env])
    Ip (.compLoop (.ListComp elt [⟨tg,iter,ifs,0⟩,⟨tg2,iter2,ifs2,0⟩] scope pos) 1 it acc env)):=by rfl
abbrev z4 (M:Model)(A:Cg)(ifs:List Expr)(env:Env)(Q:Bool->ca->Prop)(s:ca):Prop :=
 li M A (forIn ifs true λc r=>if r=true then do let ok <- FH c env (eval c env);pure (ForInStep.yield ok)else pure (ForInStep.yield r)) Q (λ_ _=>False) s
theorem vE {elt tg iter tg2 iter2:Expr}{ifs ifs2:List Expr}{scope:DF}{pos:Pos}{it acc:bn}{env:Env}(J:Nat->ca->Prop)
  (turn:∀n s,J n s->li (pc P w) A (Et it) (λr s1=>match r with
   | none=>R (.ok .next) s1
   | some v=>li (pc P w) A (Dh tg2 it v) (λ_ s2=>li (pc P w) A (Ea tg2 env v) (λ_ s3 =>
     z4 (pc P w) A ifs2 env (λok s4 =>
      if ok=true then li (pc P w) A (eval elt env) (λx s5=>li (pc P w) A (call (.builtin "list.append") [acc,x]) (λ_ s6=>∃m,m<n/\J m s6) (λ_ _=>False) s5) (λ_ _=>False) s4
      else ∃m,m<n/\J m s4) s3) (λ_ _=>False) s2) (λ_ _=>False) s1) (λ_ _=>False) s)
  (n:Nat) (h:J n s):CY (pc P w) A (.compLoop (.ListComp elt [⟨tg,iter,ifs,0⟩,⟨tg2,iter2,ifs2,0⟩] scope pos) 1 it acc env) R s:=by
 have no:∀ {α:Type} {t:Sem α} {Q Q':α->ca->Prop} {E:bn->ca->Prop} {s:ca},li (pc P w) A t Q (λ_ _=>False) s->(∀a s,Q a s->Q' a s)->li (pc P w) A t Q' E s :=
  λh hq=>Dt h hq λ_ _ f=>f.elim
 refine F5 rfl J (λn s hJ=>?_) n h
 show li _ A ((FY (.ListComp elt [⟨tg,iter,ifs,0⟩,⟨tg2,iter2,ifs2,0⟩] scope pos) 1 it acc env).onRaise (λx=>do FX x env;Fw x)) _ _ s
 refine Gr ?_
 rw[m9]
 refine bm (C4 (bm (no (turn n s hJ) λr s1 h1=>?_)))
 cases r with
 | none=>exact dL h1
 | some v =>
  refine bm (no h1 λ_ s2 h2=>bm (no h2 λ_ s3 h3=>bm (no h3 λok s4 h4=>?_)))
  cases ok with
  | false=>exact dL ⟨rfl,h4⟩
  | true=>exact bm (bm (no h4 λx s5 h5=>bm (no h5 λ_ s6 h6=>dL (dL ⟨rfl,h6⟩))))
theorem vF {elt tg iter tg2 iter2:Expr}{ifs ifs2:List Expr}{scope:DF}{pos:Pos}{it acc:bn}{env:Env}(J:Nat->ca->Prop)(hf:∀x,C7 iter2 env x=pure x)
  (turn:∀n s,J n s->li (pc P w) A (Et it) (λr s1=>match r with
   | none=>R (.ok .next) s1
   | some v=>li (pc P w) A (Dh tg it v) (λ_ s2=>li (pc P w) A (Ea tg env v) (λ_ s3 =>
     z4 (pc P w) A ifs env (λok s4 =>
      if ok=true then li (pc P w) A (eval iter2 env) (λx s5=>li (pc P w) A (Gu x) (λitv s6 =>
       CY (pc P w) A (.compStart (.ListComp elt [⟨tg,iter,ifs,0⟩,⟨tg2,iter2,ifs2,0⟩] scope pos) 1 itv acc env) (λr s7=>r = .ok .next/\∃m,m<n/\J m s7) s6) (λ_ _=>False) s5) (λ_ _=>False) s4
      else ∃m,m<n/\J m s4) s3) (λ_ _=>False) s2) (λ_ _=>False) s1) (λ_ _=>False) s)
  (n:Nat) (h:J n s):CY (pc P w) A (.compLoop (.ListComp elt [⟨tg,iter,ifs,0⟩,⟨tg2,iter2,ifs2,0⟩] scope pos) 0 it acc env) R s:=by
 have no:∀ {α:Type} {t:Sem α} {Q Q':α->ca->Prop} {E:bn->ca->Prop} {s:ca},li (pc P w) A t Q (λ_ _=>False) s->(∀a s,Q a s->Q' a s)->li (pc P w) A t Q' E s :=
  λh hq=>Dt h hq λ_ _ f=>f.elim
 refine F5 rfl J (λn s hJ=>?_) n h
 show li _ A ((FY (.ListComp elt [⟨tg,iter,ifs,0⟩,⟨tg2,iter2,ifs2,0⟩] scope pos) 0 it acc env).onRaise (λx=>do FX x env;Fw x)) _ _ s
 refine Gr ?_
 rw[m_]
 refine bm (C4 (bm (no (turn n s hJ) λr s1 h1=>?_)))
 cases r with
 | none=>exact dL h1
 | some v =>
  refine bm (no h1 λ_ s2 h2=>bm (no h2 λ_ s3 h3=>bm (no h3 λok s4 h4=>?_)))
  cases ok with
  | false=>exact dL ⟨rfl,h4⟩
  | true =>
   refine bm (no h4 λx s5 h5=>bm (C4 (bm (HG (hf x) (bm (DH (no h5 λitv s6 h6=>?_)))))))
   refine bm (wpAny_runOwn (EC h6 λr s7 h7=>?_))
   obtain⟨rfl,h7⟩:=h7
   exact dL ⟨rfl,h7⟩
theorem lz {elt tg iter tg2 iter2:Expr}{ifs ifs2:List Expr}{scope:DF}{pos:Pos}{it acc:bn}{env:Env}
  (h0:CY (pc P w) A (.compLoop (.ListComp elt [⟨tg,iter,ifs,0⟩,⟨tg2,iter2,ifs2,0⟩] scope pos) 1 it acc env) R s)
  (h:li (pc P w) A (Gu it) (λit' s'=>CY (pc P w) A (.compLoop (.ListComp elt [⟨tg,iter,ifs,0⟩,⟨tg2,iter2,ifs2,0⟩] scope pos) 1 it' acc env) R s') (notedBy (pc P w) A env λx s'=>R (.error x) s') s) :
  CY (pc P w) A (.compStart (.ListComp elt [⟨tg,iter,ifs,0⟩,⟨tg2,iter2,ifs2,0⟩] scope pos) 1 it acc env) R s:=by
 refine Ge ?_
 show li _ _ ((IS (.ListComp elt [⟨tg,iter,ifs,0⟩,⟨tg2,iter2,ifs2,0⟩] scope pos) 1 it acc env).onRaise (λx=>do FX x env;Ev Kx)) _ _ s
 refine wpAny_notedAt ?_
 unfold IS
 show li _ _ (ask>>=_) _ _ s
 refine bm (DG (wpAny_ite ?_))
 split
 ·first
   | exact bm (dL (dL (And.intro rfl h0)))
   | exact dL (And.intro rfl h0)
 ·first
   | exact bm (DX (bm (C4 (bm (Dt h (λit' s' h'=>dL (And.intro rfl h')) λ_ _ x=>x)))))
   | (refine bm (DX ?_);show li _ _ (Ev iter2.pos>>=_) _ _ s;exact bm (C4 (bm (Dt h (λit' s' h'=>dL (And.intro rfl h')) λ_ _ x=>x))))
end
def zP (J:It)(g:TG)(tc:TT)(te:TE)(N:List V->Hp->Prop)(σ:St)(ys0:List V)(H1:Hp):Prop:=∃W:Nat->Nat->List V->Hp->Prop,(∃m,W 0 m ys0 H1)/\∀i m ys H,W i m ys H ->
 (J.stop i H/\N ys H) ∨
 (J.go i H/\ys.length<wT/\∃N2:List V->Hp->Prop,(∀zs H',N2 zs H'->∃m',m'<m/\W (i+1) m' zs H')/\∀x H',J.yld i H x H'->g x σ H' λσ2 H2=>(σ2.length=σ.length/\∀(j:Nat) v,σ[j]? = some (some v)->σ2[j]? = some (some v))/\tc σ2 H2 λb H3 =>
  if b=true then te σ2 H3 λv H4=>N2 (ys++[v]) H4 else N2 ys H3)
def yf (J:It)(n:Nat)(js:List Nat)(g:TG)(tc:TT)(wi2:TI)(g2:TG)(tc2:TT)(te:TE)(Q:VK)(σ:St)(H1:Hp):Prop:=∃W:Nat->Nat->List V->Hp->Prop,(∃m,W 0 m [] H1)/\∀i m ys H,W i m ys H ->
 (J.stop i H/\ys.length<=wT/\∀l,H l=none->Q (.ref l) (upd H l (.lst ys))) ∨
 (J.go i H/\∃N:List V->Hp->Prop,(∀zs H',N zs H'->∃m',m'<m/\W (i+1) m' zs H')/\∀x H',J.yld i H x H'->g x (bst n σ js) H' λσ2 H2=>σ2.drop n=capt σ js/\tc σ2 H2 λb H3 =>
  if b=true then wi2 σ2 H3 λJ2 H4=>zP J2 g2 tc2 te N σ2 ys H4 else N ys H3)
def qX (n:Nat)(js:List Nat)(wi:TI)(g:TG)(tc:TT)(wi2:TI)(g2:TG)(tc2:TT)(te:TE):TE:=λσ H Q=>wi σ H λJ H1=>yf J n js g tc wi2 g2 tc2 te Q σ H1
section
variable {Y:Cx}
theorem sU {elt tg iter tg2 iter2:Expr}{ifs ifs2:List Expr}{scope:DF}{pos:Pos}{g2:TG}{tc2:TT}{te:TE}{N:List V->Hp->Prop}{D:Addr}{pl:List (Addr×Obj)}{σ:St}{itv:bn}{ys:List V}{its:List bn}{k:Nat}{s:ca}
  {RR:E1->ca->Prop} (xe:Y.xe=λ_ _=>False) (hc:Y.calm=true) (hg:PG Y tg2 g2) (ht:PTs Y ifs2 tc2) (he:PE Y elt te)
  (szD:Y.s₀.heap.objs.size<=D) (neDL:D≠Y.env.locals) (notFs:D∉Y.fs) (clB:∀x d,Y.env.cells.lookup x=some d->d≠D) (plD:∀p∈Y.pn++pl,p.1≠D)
  (h:PIE Y ((D,{cls:=.type "list",data:=.seq its.toArray k})::pl) σ tg2 (λJ H1=>zP J g2 tc2 te N σ ys H1) itv s) (r0:Vals ys its)
  (hR:∀zs its' k' H' s',Inv Y pl σ H' s'->Vals zs its'->s'.heap.get? D=some {cls:=.type "list",data:=.seq its'.toArray k'}->H' D=none->N zs H'->RR (.ok .next) s') :
  CY (pc Y.prog Y.w) Y.A (.compStart (.ListComp elt [⟨tg,iter,ifs,0⟩,⟨tg2,iter2,ifs2,0⟩] scope pos) 1 itv (.ref D) Y.env) RR s:=by
 obtain⟨it,fp,tn,J,H2,rfl,I2,T,st2,f2,W,⟨m0,w0⟩,turn⟩:=h
 have plN:∀p∈pl,p.1≠D:=λp hp=>plD p (im _ hp)
 have fpD:∀b∈fp,b≠D:=λb hb=>((f2 b hb).2.2.2.2.2 (D,{cls:=.type "list",data:=.seq its.toArray k}) (im _ (B2 ..))).symm
 have p0:=I2.pin (D,{cls:=.type "list",data:=.seq its.toArray k}) (im _ (B2 ..))
 have f2':∀(its':List bn) (k':Nat) {H':Hp},(∀b∈fp,H' b=none)->∀b∈fp,FpOk Y ((D,{cls:=.type "list",data:=.seq its'.toArray k'})::pl) H' b:=λits' k' {H'} hn b hb=>by
  obtain⟨f0,f1,f3,f4,f5,f6⟩:=f2 b hb
  refine⟨hn b hb,f1,f3,f4,f5,λp hp=>?_⟩
  rcases xL.mp hp with z | z
  ·exact f6 p (BW _ z)
  ·rcases sK.mp z with z | z
   ·rw[z];exact(fpD b hb).symm
   ·exact f6 p (im _ (BV _ z))
 have loop:CY (pc Y.prog Y.w) Y.A (.compLoop (.ListComp elt [⟨tg,iter,ifs,0⟩,⟨tg2,iter2,ifs2,0⟩] scope pos) 1 (.ref it) (.ref D) Y.env) RR s:=by
  refine vE (λn s'=>∃(i:Nat) (ys:List V) (its:List bn) (k:Nat) (H':Hp),Inv Y pl σ H' s'/\tn i s'.heap/\(∀b∈fp,H' b=none)/\H' D=none/\Vals ys its /\
   s'.heap.get? D=some {cls:=.type "list",data:=.seq its.toArray k}/\W i n ys H') ?_ m0 ⟨0,ys,its,k,H2,I2.pins_of λp hp=>I2.pin p (im _ (BV _ hp)),st2,λb hb=>(f2 b hb).1,p0.2.1,r0,p0.1,w0⟩
  rintro n s3 ⟨i,ys,its,k,H3,I3,st3,fr3,hD3,r3,g3,w3⟩
  have I3p:Inv Y ((D,{cls:=.type "list",data:=.seq its.toArray k})::pl) σ H3 s3:=I3.pins_of λp hp=>by
   rcases sK.mp hp with z | z
   ·subst z
    exact⟨g3,hD3,neDL,notFs,λv z=>by cases z⟩
   ·exact I3.pin p (im _ z)
  have f3:=f2' its k fr3
  rcases turn i n ys H3 w3 with⟨stop,qn⟩ | ⟨go,hz,N2,hN,step⟩
  ·refine thn (T.done Y rfl rfl rfl hc i _ s3 _ H3 (λ_ _=>False) I3p f3 st3 stop) λr s4 ⟨hr,I4⟩=>?_
   subst hr
   have g4:=I4.pin (D,{cls:=.type "list",data:=.seq its.toArray k}) (im _ (B2 ..))
   exact hR ys its k H3 s4 (I4.pins_of λp hp=>I4.pin p (im _ (BV _ hp))) r3 g4.1 hD3 qn
  ·refine thn (T.item Y rfl rfl rfl hc i _ s3 _ H3 (λ_ _=>False) I3p f3 st3 go) λr s4 ⟨u,hr,h4⟩=>?_
   subst hr
   refine thn h4 λ_ s5 ⟨x,H5,I5,r5,y5,st5,fr5⟩=>?_
   have I5':=I5.pinned (f2' its k fr5) (T.obj _ _ st5)
   refine thn (xe▸hg _ s5 _ H5 x u _ I5' r5 (step x H5 y5)) λ_ s6 ⟨σ6,H6,I6,⟨l6,d6⟩,q6⟩=>?_
   refine thn (xe▸ht _ s6 σ6 H6 _ I6 q6) λok s7 ⟨H7,I7,q7⟩=>?_
   have after:∀ {s8:ca} {H8:Hp},Inv Y ((D,{cls:=.type "list",data:=.seq its.toArray k})::pl++fW fp s5.heap) σ6 H8 s8 ->
     s8.heap.get? D=some {cls:=.type "list",data:=.seq its.toArray k}/\H8 D=none/\tn (i+1) s8.heap/\(∀b∈fp,H8 b=none)/\Inv Y pl σ H8 s8:=λ{s8 H8} I8=>by
    have p8:=I8.pin (D,{cls:=.type "list",data:=.seq its.toArray k}) (im _ (BW _ (B2 ..)))
    refine⟨p8.1,p8.2.1,T.keep _ _ _ st5 λb hb o e=>(I8.pin (b,o) (im _ (im _ (bX hb e)))).1,λb hb=>?_,?_⟩
    ·obtain⟨o,e,_⟩:=T.obj _ _ st5 b hb
     exact(I8.pin (b,o) (im _ (im _ (bX hb e)))).2.1
    ·exact(I8.pins_of (pins':=pl) λp hp=>I8.pin p (im _ (BW _ (BV _ hp)))).weak l6.symm d6
   cases ok with
   | false =>
    rw[if_neg Ca]at q7 ⊢
    obtain⟨m',hm,w7⟩:=hN _ _ q7
    obtain⟨a1,a2,a3,a4,a5⟩:=after I7
    exact⟨m',hm,i+1,ys,its,k,H7,a5,a3,a4,a2,r3,a1,w7⟩
   | true =>
    rw[if_pos rfl]at q7 ⊢
    refine thn (xe▸he _ s7 σ6 H7 _ I7 q7) λu8 s8 ⟨v8,H8,I8,r8,n8⟩=>?_
    obtain⟨m',hm,w8⟩:=hN _ _ n8
    obtain⟨a1,a2,a3,a4,a5⟩:=after I8
    have hsz:its.toArray.size<wT:=by rw[on,<- r3.length];exact hz
    refine Il CK ⟨_,a1,rfl⟩ GA (Gk _ _) (Gx D its.toArray k u8 (CN hsz)) ⟨a1,?_⟩
    have q9:=Gj a1 (λxs=>xs.push u8)
    have sb:Cw D s8.heap (s8.heap.update D (C9 λxs=>xs.push u8)):=Df ..
    have I9:=a5.young sb a2 szD neDL clB plD
    have fin:∃k',(s8.heap.update D (C9 λxs=>xs.push u8)).get? D=some {cls:=.type "list",data:=.seq (its++[u8]).toArray k'}:=⟨_,by
     rw[show(its++[u8]).toArray=its.toArray.push u8 by simp]
     exact q9⟩
    obtain⟨k',fin⟩:=fin
    exact⟨m',hm,i+1,ys++[v8],its++[u8],k',H8,I9,T.keep _ _ _ a3 (λb hb o e=>(sb.2 b (fpD b hb)).trans e),a4,a2,r3.append (.cons r8 .nil),fin,w8⟩
 exact lz loop (T.self _ 0 _ _ _ st2 loop)
end
section
variable {X:Cx}
theorem qB {elt tg iter tg2 iter2:Expr}{ifs ifs2:List Expr}{scope:DF}{pos:Pos}{own:List Str}{js:List Nat}{g g2:TG}{tc tc2:TT}{wi2:TI}{te:TE}{Q:VK}{pins:List (Addr×Obj)}{σ:St}{s2:ca}{itv:bn}{E:bn->ca->Prop}
  {RR:bn->Addr->E1->ca->Prop} (hc:X.calm=true) (B:Blk X scope own js) (hg:∀s H C fp,(own++capN X.N js).Nodup->PG (blk X scope (own++capN X.N js) s H C fp) tg g) (ht:∀s H C fp,PTs (blk X scope (own++capN X.N js) s H C fp) ifs tc)
  (hi2:∀s H C fp,PI (blk X scope (own++capN X.N js) s H C fp) tg2 iter2 wi2) (hg2:∀s H C fp,(own++capN X.N js).Nodup->PG (blk X scope (own++capN X.N js) s H C fp) tg2 g2) (ht2:∀s H C fp,PTs (blk X scope (own++capN X.N js) s H C fp) ifs2 tc2) (hs2:∀s H C fp x,C7 iter2 (blk X scope (own++capN X.N js) s H C fp).env x=pure x)
  (he:∀s H C fp,PE (blk X scope (own++capN X.N js) s H C fp) elt te)
  (h:PIE X pins σ tg (λJ H1=>yf J own.length js g tc wi2 g2 tc2 te Q σ H1) itv s2)
  (hR:∀C acc s',vX X pins σ Q C acc s'->RR acc C (.ok .next) s') :
  li (pc X.prog X.w) X.A (Jf []) (λacc s3=>li (pc X.prog X.w) X.A (Gv scope X.env.globals (cS scope X.env) [] X.env.qual none .none (some X.env)) (λcenv s4 =>
   CY (pc X.prog X.w) X.A (.compStart (.ListComp elt [⟨tg,iter,ifs,0⟩,⟨tg2,iter2,ifs2,0⟩] scope pos) 0 itv acc {cenv with scope:=GD scope X.env}) (RR acc cenv.locals) s4) E s3) E s2:=by
 obtain⟨it,fp,tn,J,H2,rfl,I2,T,st2,f2,W,⟨m0,w0⟩,turn⟩:=h
 refine Ds (Fj B.nocell (by intro y hy;simp at hy) (λh1 hns1 hsb1=>?_) B.kind)
 generalize hPu:s2.heap.push {cls:=.type "list",dict:=none,data:=.seq ([]:List bn).toArray}=Pu at hns1 hsb1 ⊢
 dsimp only at hns1 hsb1 ⊢
 have hDC:Pu.objs.size=s2.heap.objs.size+1:=by rw[<- hPu,CI]
 generalize hD:s2.heap.objs.size=D at hDC ⊢
 have gD:Pu.get? D=some {cls:=.type "list",dict:=none,data:=.seq ([]:List bn).toArray}:=by
  rw[<- hPu,<- hD];exact wn _ rfl
 generalize hC:Pu.objs.size=C at hns1 hsb1 hDC ⊢
 have ltDC:D<C:=by rw[hDC];exact DB D
 have neDC:D≠C:=ww ltDC
 have keep1:∀b o,s2.heap.get? b=some o->h1.get? b=some o:=λb o e=>by
  have hb:b<D:=by rw[<- hD];exact lc e
  have hb2:b≠C:=ww (DO hb ltDC)
  refine(hsb1.2 b hb2).trans (db _ ?_)
  rw[<- hPu]
  exact db _ e
 have gD1:h1.get? D=some {cls:=.type "list",dict:=none,data:=.seq ([]:List bn).toArray}:=(hsb1.2 D neDC).trans (db _ gD)
 have szD:s2.heap.objs.size<=D:=Fs hD
 have szC:s2.heap.objs.size<=C:=xz szD (CN ltDC)
 have old:∀ {b:Addr},b<s2.heap.objs.size->b≠D/\b≠C:=λhb=>⟨ww (zn hb szD),ww (zn hb szC)⟩
 have fpo:∀b∈fp,∃o,s2.heap.get? b=some o:=λb hb=>let ⟨o,e,_⟩:=T.obj 0 _ st2 b hb;⟨o,e⟩
 have fpD:∀b∈fp,b≠D/\b≠C:=λb hb=>by
  obtain⟨o,e⟩:=fpo b hb
  exact old (lc e)
 have clD:∀x d,X.env.cells.lookup x=some d->d≠D/\d≠C:=λx d e=>by
  obtain⟨v,o,ho,_⟩:=I2.cell x d e
  exact old (lc ho)
 have pinD:∀p∈X.pn++pins,p.1≠D/\p.1≠C:=λp hp=>by
  exact old (lc (I2.pin p hp).1)
 have locD:D≠X.env.locals/\C≠X.env.locals:=by
  exact⟨(old I2.lt).1.symm,(old I2.lt).2.symm⟩
 let Y:=blk X scope (own++capN X.N js) s2 H2 C fp
 have IB:Inv Y [] (bst own.length σ js) H2 {s2 with heap:=h1,toks:=s2.toks+([]:List (Str×bn)).length}:=nr B I2 f2 fpo szC hns1 keep1
 have fpB:∀ {H':Hp} {pl:List (Addr×Obj)},(∀b∈fp,H' b=none)->(∀p∈pl,p.1=D)->∀b∈fp,FpOk Y pl H' b:=λ{H' pl} hn hp b hb=>by
  obtain⟨f0,f1,f3,f4,f5,f6⟩:=f2 b hb
  refine⟨hn b hb,(fpD b hb).2,λz=>?_,.inl hb,λx c e=>f5 x c (cn e),λp q=>?_⟩
  ·rcases sK.mp (I2.stkSub b z)with z | z
   ·exact f1 z
   ·exact f3 z
  ·have q':p∈pl:=by simpa [Y,blk] using q
   rw[hp p q']
   exact(fpD b hb).1.symm
 have clB:∀x d,Y.env.cells.lookup x=some d->d≠D:=λx d e=>(clD x d (cn e)).1
 have notFs:D∉Y.fs:=λz=>by
  obtain⟨_,o,ho,_⟩:=IB.ok.funs.mem z
  exact(old (lc (show s2.heap.get? D=some o from ho))).1 rfl
 have loop:∀s3:ca,s3={s2 with heap:=h1,toks:=s2.toks+([]:List (Str×bn)).length} ->
   CY (pc X.prog X.w) X.A (.compLoop (.ListComp elt [⟨tg,iter,ifs,0⟩,⟨tg2,iter2,ifs2,0⟩] scope pos) 0 (.ref it) (.ref D) (Ik scope (cS scope X.env) C X.env)) (RR (.ref D) C) s3:=by
  rintro s3 rfl
  refine vF (λn s'=>∃(i:Nat) (ys:List V) (its:List bn) (k:Nat) (H':Hp),Inv Y [] (bst own.length σ js) H' s'/\tn i s'.heap/\(∀b∈fp,H' b=none)/\H' D=none/\Vals ys its /\
   s'.heap.get? D=some {cls:=.type "list",data:=.seq its.toArray k}/\W i n ys H') (hs2 s2 H2 C fp) ?_ m0 ⟨0,[],[],0,H2,IB,T.keep 0 _ _ st2 (λb hb o e=>keep1 b o e),λb hb=>(f2 b hb).1,I2.hok.fresh szD,.nil,gD1,w0⟩
  rintro n s3 ⟨i,ys,its,k,H3,I3,st3,fr3,hD3,r3,g3,w3⟩
  have I3p:Inv Y [(D,{cls:=.type "list",data:=.seq its.toArray k})] (bst own.length σ js) H3 s3:=I3.pins_of λp hp=>by
   have e:p=(D,{cls:=.type "list",data:=.seq its.toArray k}):=by simpa using hp
   subst e
   exact⟨g3,hD3,neDC,notFs,λv z=>by cases z⟩
  have f3:∀b∈fp,FpOk Y [(D,{cls:=.type "list",data:=.seq its.toArray k})] H3 b:=fpB fr3 λp hp=>by
   have e:p=(D,{cls:=.type "list",data:=.seq its.toArray k}):=by simpa using hp
   rw[e]
  rcases turn i n ys H3 w3 with⟨stop,hz,qn⟩ | ⟨go,N,hN,step⟩
  ·refine thn (T.done Y rfl rfl rfl hc i _ s3 _ H3 (λ_ _=>False) I3p f3 st3 stop) λr s4 ⟨hr,I4⟩=>?_
   subst hr
   refine hR C _ s4 ?_
   have g4:=(I4.pin (D,{cls:=.type "list",data:=.seq its.toArray k}) (by simp[Y,blk])).1
   obtain⟨m,hn4,_⟩:=id I4.loc
   have un:Un (frs X.stack) fp H2 H3 s2.heap s4.heap:=I4.base
   have I5:Inv X pins σ H3 s4:=I2.call' I4.os un I4.hok I4.bare λb hb=>let ⟨_,b1,_,b3,b4,b5⟩:=f2 b hb;⟨b3,b1,b4,b5⟩
   have I6:=I5.track (ys:=ys) (its:=its) (n:=k) hD3 (xz I2.sz szD) locD.1 (λx d e=>(clD x d e).1) (λp hp=>(pinD p hp).1) hz r3 g4
   refine⟨D,_,m,rfl,hn4,I6,?_,xz I2.sz szC,locD.2,λx d e=>(clD x d e).2,λp hp=>(pinD p hp).2,qn D hD3⟩
   rw[aQ (Dq neDC)]
   exact I4.free
  ·refine thn (T.item Y rfl rfl rfl hc i _ s3 _ H3 (λ_ _=>False) I3p f3 st3 go) λr s4 ⟨u,hr,h4⟩=>?_
   subst hr
   refine thn h4 λ_ s5 ⟨x,H5,I5,r5,y5,st5,fr5⟩=>?_
   have f5:∀b∈fp,FpOk Y [(D,{cls:=.type "list",data:=.seq its.toArray k})] H5 b:=λb hb=>⟨fr5 b hb,(f3 b hb).2⟩
   have I5':=I5.pinned f5 (T.obj _ _ st5)
   refine thn (hg s2 H2 C fp B.nd _ s5 _ H5 x u _ I5' r5 (step x H5 y5)) λ_ s6 ⟨σ6,H6,I6,d6,q6⟩=>?_
   refine thn (ht s2 H2 C fp _ s6 σ6 H6 _ I6 q6) λok s7 ⟨H7,I7,q7⟩=>?_
   have after:∀ {s8:ca} {H8:Hp} {its:List bn} {k:Nat},Inv Y ([(D,{cls:=.type "list",data:=.seq its.toArray k})]++fW fp s5.heap) σ6 H8 s8 ->
     s8.heap.get? D=some {cls:=.type "list",data:=.seq its.toArray k}/\H8 D=none/\tn (i+1) s8.heap/\(∀b∈fp,H8 b=none)/\Inv Y [] (bst own.length σ js) H8 s8:=λ{s8 H8 its k} I8=>by
    have p8:=I8.pin (D,{cls:=.type "list",data:=.seq its.toArray k}) (by simp[Y,blk])
    refine⟨p8.1,p8.2.1,T.keep _ _ _ st5 λb hb o e=>(I8.pin (b,o) (im _ (im _ (bX hb e)))).1,λb hb=>?_,?_⟩
    ·obtain⟨o,e,_⟩:=T.obj _ _ st5 b hb
     exact(I8.pin (b,o) (im _ (im _ (bX hb e)))).2.1
    ·refine(I8.pins_of (pins':=[]) λp hp=>absurd hp (by simp[Y,blk])).weak ?_ λj v e=>?_
     ·rw[I8.len,fQ]
      show _=(own++capN X.N js).length
      unfold capN
      simp
     ·rcases B7 j own.length with z | z
      ·exfalso
       unfold bst at e
       rw[BY (by simpa using z),CP]at e
       split at e <;> cases e
      ·unfold bst at e
       rw[Ci (by simpa using z),Dd,<- d6,Co]at e
       rw[<- e]
       congr 1
       omega
   cases ok with
   | false =>
    rw[if_neg Ca]at q7 ⊢
    obtain⟨m',hm,w7⟩:=hN _ _ q7
    obtain⟨a1,a2,a3,a4,a5⟩:=after I7
    exact⟨m',hm,i+1,ys,its,k,H7,a5,a3,a4,a2,r3,a1,w7⟩
   | true =>
    rw[if_pos rfl]at q7 ⊢
    refine thn (hi2 s2 H2 C fp _ s7 σ6 H7 _ I7 q7) λv8 s8 h8=>thn h8 λitv s9 h9=>?_
    refine sU (Y:=Y) (pl:=fW fp s5.heap) rfl hc (hg2 s2 H2 C fp B.nd) (ht2 s2 H2 C fp) (he s2 H2 C fp) szD neDC notFs clB (λp hp=>?_) h9 r3 λzs its' k' H' s' I' r' g' d' n'=>⟨rfl,?_⟩
    ·have hp':p∈fW fp s5.heap:=by simpa [Y,blk] using hp
     exact(fpD p.1 (n6 hp').1).1
    ·obtain⟨m',hm,w8⟩:=hN _ _ n'
     have I'p:Inv Y ([(D,{cls:=.type "list",data:=.seq its'.toArray k'})]++fW fp s5.heap) σ6 H' s':=I'.pins_of λp hp=>by
      rcases xL.mp hp with z | z
      ·have e:p=(D,{cls:=.type "list",data:=.seq its'.toArray k'}):=by simpa using z
       subst e
       exact⟨g',d',neDC,notFs,λv z=>by cases z⟩
      ·exact I'.pin p (im _ z)
     obtain⟨a1,a2,a3,a4,a5⟩:=after I'p
     exact⟨m',hm,i+1,zs,its',k',H',a5,a3,a4,d',r',g',w8⟩
 exact Jg (loop _ rfl) (T.self _ 0 _ _ _ (T.keep 0 _ _ st2 λb hb o e=>keep1 b o e) (loop _ rfl))
theorem mF {elt tg iter tg2 iter2:Expr}{ifs ifs2:List Expr}{scope:DF}{pos pos' spos:Pos}{i:Nat}{x:Str}(own:List Str)(js:List Nat){wi wi2:TI}{g g2:TG}{tc tc2:TT}{te:TE}(hN:X.N.Nodup)(hi:X.N[i]? = some x)(hx:Loc X.env.scope x)
  (hc:X.calm=true) (B:Blk X scope own js) (hit:PI X tg iter wi)
  (hg:∀s H C fp,(own++capN X.N js).Nodup->PG (blk X scope (own++capN X.N js) s H C fp) tg g) (ht:∀s H C fp,PTs (blk X scope (own++capN X.N js) s H C fp) ifs tc)
  (hi2:∀s H C fp,PI (blk X scope (own++capN X.N js) s H C fp) tg2 iter2 wi2) (hg2:∀s H C fp,(own++capN X.N js).Nodup->PG (blk X scope (own++capN X.N js) s H C fp) tg2 g2) (ht2:∀s H C fp,PTs (blk X scope (own++capN X.N js) s H C fp) ifs2 tc2) (he:∀s H C fp,PE (blk X scope (own++capN X.N js) s H C fp) elt te)
  (hf:X.fn x=true∨X.env.scope.names.lookup x=some .local:=by first | exact .inl rfl | exact .inr rfl | assumption)
  (hw:FW (.ListComp elt [⟨tg,iter,ifs,0⟩,⟨tg2,iter2,ifs2,0⟩] scope pos) (some (.Name x pos')) spos.line X.env=pure true:=by rfl)
  (hs:∀x,C7 iter X.env x=pure x:=by intro _;rfl) (hs2:∀s H C fp x,C7 iter2 (blk X scope (own++capN X.N js) s H C fp).env x=pure x:=by intros;rfl) :
  PS X (.Assign [.Name x pos'] (.ListComp elt [⟨tg,iter,ifs,0⟩,⟨tg2,iter2,ifs2,0⟩] scope pos) spos) (λD σ H=>qX own.length js wi g tc wi2 g2 tc2 te σ H λv H'=>D.nx (σ.set i (some v)) H'):=by
 intro pins s σ H D I h
 have hcl:E_ scope X.env=pure (cS scope X.env):=cJ λx hx hf=>I.ok.has x.1 (B.free x hx hf)
 rw[Gf _ _ _ _ hw]
 refine bm (C4 (bm ?_))
 show li _ X.A (do let _ <- FP (.ListComp elt [⟨tg,iter,ifs,0⟩,⟨tg2,iter2,ifs2,0⟩] scope pos) scope X.env _ (Jf []) false (eval iter X.env) (some (Ea (.Name x pos') X.env))) _ _ s
 refine bm (thn (Q:=λ_ s'=>SP X pins D .next s') (DI (use:=some (Ea (.Name x pos') X.env)) rfl hs hcl B.kind B.names (thn (hit pins s σ H _ I h) λv s1 h1=>thn h1 λitv s2 h2=>?_)) λ_ s' q=>dL (dL q))
 refine qB (Q:=λv H'=>D.nx (σ.set i (some v)) H') (RR:=λacc C=>Hf (pc X.prog X.w) X.A X.xe (some (Ea (.Name x pos') X.env)) (λ_ s'=>SP X pins D .next s') acc C) hc B hg ht hi2 hg2 ht2 hs2 he h2 λC acc s' hb=>?_
 obtain⟨l,H',m,rfl,hn,I',c1,c2,c3,c4,c5,q⟩:=hb
 show li _ X.A (Ea (.Name x pos') X.env (.ref l)) _ _ _
 refine FN (ip (v:=.ref l) I' hN hi hx rfl (λs3 I3 ⟨a,sb,ha⟩=>?_) hf)
 have ne:C≠a:=by
  rcases ha with z | z
  ·rw[z];exact c3
  ·exact(c4 x a z).symm
 exact⟨m,hn.sameBut sb ne,λh' hs'=>⟨_,H',I3.young hs' c1 c2 c3 c4 c5,q⟩⟩
end
def hB (n2:Nat)(c:En->Prop)(g:AG)(tc:AT)(te:AE)(k:List D->En->Prop):List D->List D->En->Prop
 | [],acc,ρ=>c ρ/\k acc ρ
 | d::ds,acc,ρ=>c ρ/\acc.length<=1000000/\g d ρ λρ1=>tc ρ1 λb ρ2=>if b=true then te ρ2 λr ρ3=>sto [r.frz] ρ3 λes ρ4=>hB n2 c g tc te k ds (acc++es) (o0 n2 .un++ρ4.drop n2)else hB n2 c g tc te k ds acc (o0 n2 .un++ρ2.drop n2)
def gG (n2 n:Nat)(js:List Nat)(c:En->Prop)(g:AG)(tc:AT)(i2:AI)(g2:AG)(tc2:AT)(te:AE)(q:List D->En->Prop):List D->List D->En->Prop
 | [],acc,ρ=>c ρ/\acc.length<=1000000/\q acc ρ
 | d::ds,acc,ρ=>c ρ/\g d (blkE n js ρ) λρ1=>tc ρ1 λb ρ2=>if b=true then i2 ρ2 λds2 c2 ρ3=>hB n2 c2 g2 tc2 te (λacc' ρ4=>gG n2 n js c g tc i2 g2 tc2 te q ds acc' (back ρ (js.map R.o) (ρ4.drop n))) ds2 acc ρ3 else gG n2 n js c g tc i2 g2 tc2 te q ds acc (back ρ (js.map R.o) (ρ2.drop n))
def Bi (n2 n:Nat)(js:List Nat)(i:AI)(g:AG)(tc:AT)(i2:AI)(g2:AG)(tc2:AT)(te:AE):AE:=λρ q=>i ρ λds c ρ1=>gG n2 n js c g tc i2 g2 tc2 te (λacc ρ2=>q (.f acc) ρ2) ds [] ρ1
section
variable {K:bi}
theorem tN {n2:Nat}{g2:TG}{tc2:TT}{te:TE}{ag2:AG}{atc2:AT}{ate:AE}(hg:TGok K (λj=>decide (n2<=j)) g2 ag2)(hc:TTok K tc2 atc2)(he:TEok K te ate)
  {F:Fr} {σ:St} {ρ:En} {H:Hp} {J:It} {ds:List D} {c:En->Prop} {k:List D->En->Prop} {N:List V->Hp->Prop} {ys:List V} {acc:List D}
  (hpin:∀i a,F.pin i a->n2<=i) (hn:n2<=σ.length) (h0:σ=o0 n2 none++σ.drop n2) (r:Rel K F σ ρ H)
  (wk:∀ ρ2 H2,Same (hid H (hs F σ ρ)) (hid H2 (hs F σ ρ2))->(∀i,SvOk K (hid H2 (hs F σ ρ2)) H2 σ[i]? (gt ρ2 i))->(∀a,hs F σ ρ2 a->Nt H2 a)->c ρ2->WkAt K (hs F σ ρ2) H2 J ds)
  (rd:RepDs K (hid H (hs F σ ρ)) ys acc) (h:hB n2 c ag2 atc2 ate k ds acc ρ)
  (kk:∀acc' ρ' ys' H',k acc' ρ'->Rel K F σ ρ' H'->Kp σ ρ ρ' H H'->RepDs K (hid H' (hs F σ ρ')) ys' acc'->N ys' H'):zP J g2 tc2 te N σ ys H:=by
 refine⟨λi m ys H'=>∃ ρ' acc,m=ds.length - i/\i<=ds.length/\Rel K F σ ρ' H'/\Kp σ ρ ρ' H H'/\RepDs K (hid H' (hs F σ ρ')) ys acc/\hB n2 c ag2 atc2 ate k (ds.drop i) acc ρ',⟨ds.length,ρ,acc,rfl,B0 _,r,.refl,rd,h⟩,?_⟩
 rintro i m ys H' ⟨ρ',acc,rfl,hl,r',k',rd,h'⟩
 have w:c ρ'->WkAt K (hs F σ ρ') H' J ds:=λhc=>wk ρ' H' k'.vis r'.sl (λa z=>sV r' z) hc
 rcases B7 i ds.length with lt | ge
 ·right
  rw[Cf lt]at h'
  unfold hB at h'
  obtain⟨hcc,hz,h'⟩:=h'
  obtain⟨go,yld⟩:=(w hcc i).1 ds[i] (bv lt)
  have yl:ys.length=acc.length:=rd.length
  refine⟨go,lE (by omega),λzs H2=>∃ ρ2 acc2,Rel K F σ ρ2 H2/\Kp σ ρ ρ2 H H2/\RepDs K (hid H2 (hs F σ ρ2)) zs acc2/\hB n2 c ag2 atc2 ate k (ds.drop (i+1)) acc2 ρ2,
   λzs H2 ⟨ρ2,acc2,a1,a2,a3,a5⟩=>⟨ds.length - (i+1),by omega,ρ2,acc2,rfl,lt,a1,a2,a3,a5⟩,λx H2 hy=>?_⟩
  obtain⟨sm,rx⟩:=yld x H2 hy
  have k':Kp σ ρ ρ' H H2:=k'.trans ⟨λa o e _=>sm a o e,λ_ h=>h⟩
  have rd:RepDs K (hid H2 (hs F σ ρ')) ys acc:=rd.same (br λa o e n=>⟨sm a o e,n⟩)
  have r':=r'.grow sm
  refine hg F σ ρ' H2 x _ _ _ (λi a h=>decide_eq_true (hpin i a h)) r' rx h' λσ3 ρ3 h3 r3 l3 p3 o3=>?_
  have drop3:σ3.drop n2=σ.drop n2:=by
   apply DK
   intro i
   rw[Co,Co]
   exact p3 (n2+i) (decide_eq_true (Nat.le_add_right ..))
  have ret:∀ ρ4 H4,Rel K F σ3 ρ4 H4->Kp σ3 ρ3 ρ4 H2 H4->Rel K F σ (o0 n2 .un++ρ4.drop n2) H4/\Kp σ ρ' (o0 n2 .un++ρ4.drop n2) H2 H4/\Same (hid H4 (hs F σ3 ρ4)) (hid H4 (hs F σ (o0 n2 .un++ρ4.drop n2))):=λρ4 H4 r4 k4=>by
   obtain⟨f1,f2⟩:=r4.forget (n:=n2) (by omega) hpin
   rw[drop3,<- h0]at f1 f2
   refine⟨f1,⟨λa o e n=>k4.st a o e λ⟨j,hj,ej⟩=>?_,λj hj=>?_⟩,f2⟩
   ·obtain⟨b1,b2⟩:=o3 j hj
    rw[b2]at ej
    exact n ⟨j,b1,ej⟩
   ·rw[kN]at hj
    split at hj
    ·cases hj
    ·rename_i hnj
     rw[ia,show n2+(j - n2)=j by omega]at hj
     exact(o3 j (k4.sb j hj)).1
  refine⟨⟨l3,λj v e=>?_⟩,hc F σ3 ρ3 H2 _ _ r3 h3 λb ρ4 H4 h4 r4 k4=>?_⟩
  ·rcases B7 j n2 with z | z
   ·exfalso
    rw[h0,BY (by simpa using z),CP]at e
    split at e <;> cases e
   ·rw[p3 j (decide_eq_true z)];exact e
  ·cases b with
   | false =>
    obtain⟨b1,b2,_⟩:=ret ρ4 H4 r4 k4
    exact⟨_,acc,b1,k'.trans b2,rd.same b2.vis,h4⟩
   | true =>
    refine he F σ3 ρ4 H4 _ _ r4 h4 λr5 ρ5 v H5 h5 o5=>?_
    obtain⟨r5',k5,i5⟩:=o5.inF
    obtain⟨d,ρ6,h6,r6,k6,rv⟩:=pF r5' i5 h5
    obtain⟨b1,b2,b3⟩:=ret ρ6 H5 r6 (k4.trans (k5.trans k6))
    exact⟨_,acc++[d],b1,k'.trans b2,(rd.same b2.vis).append (.one (rv.same b3)),h6⟩
 ·left
  rw[CH ge]at h'
  unfold hB at h'
  obtain⟨hcc,h'⟩:=h'
  exact⟨(w hcc i).2 ge,kk acc ρ' ys H' h' r' k' rd⟩
theorem jZ {n2 n:Nat}{js:List Nat}{wi wi2:TI}{g g2:TG}{tc tc2:TT}{te:TE}{ai ai2:AI}{ag ag2:AG}{atc atc2:AT}{ate:AE}(hi:TIok K (λ_=>true) wi ai)(hg:TGok K (λj=>decide (j<n2)||decide (n<=j)) g ag)(hc:TTok K tc atc)
  (hi2:TIok K (λ_=>true) wi2 ai2) (hg2:TGok K (λj=>decide (n2<=j)) g2 ag2) (hc2:TTok K tc2 atc2) (he:TEok K te ate)
  (hn:n2<=n:=by decide) (hd:dis (js.map R.o)=true:=by rfl):TEok K (qX n js wi g tc wi2 g2 tc2 te) (Bi n2 n js ai ag atc ai2 ag2 atc2 ate):=by
 intro F σ ρ H q Q r h k
 refine hi F σ ρ H _ _ r h λds c ρ1 J H1 h1 r1 k1 wk=>?_
 have hd':dis (blkR n js)=true:=by rw[iV];exact hd
 refine⟨λi m ys H'=>∃ ρ' acc,m=ds.length - i/\i<=ds.length/\Rel K F σ ρ' H'/\Kp σ ρ1 ρ' H1 H'/\RepDs K (hid H' (hs F σ ρ')) ys acc/\gG n2 n js c ag atc ai2 ag2 atc2 ate (λacc ρ2=>q (.f acc) ρ2) (ds.drop i) acc ρ',⟨ds.length,ρ1,[],rfl,B0 _,r1,.refl,.nil,h1⟩,?_⟩
 rintro i m ys H' ⟨ρ',acc,rfl,hl,r',k',rd,h'⟩
 have w:c ρ'->WkAt K (hs F σ ρ') H' J ds:=λhc=>wk σ ρ' H' k'.vis r'.sl (λ_ _ _ e=>e) (λa z=>sV r' z) hc
 have yl:ys.length=acc.length:=rd.length
 rcases B7 i ds.length with lt | ge
 ·right
  rw[Cf lt]at h'
  unfold gG at h'
  obtain⟨hcc,h'⟩:=h'
  obtain⟨go,yld⟩:=(w hcc i).1 ds[i] (bv lt)
  refine⟨go,λzs H2=>∃ ρ2 acc2,Rel K F σ ρ2 H2/\Kp σ ρ1 ρ2 H1 H2/\RepDs K (hid H2 (hs F σ ρ2)) zs acc2/\gG n2 n js c ag atc ai2 ag2 atc2 ate (λacc ρ2=>q (.f acc) ρ2) (ds.drop (i+1)) acc2 ρ2,
   λzs H2 ⟨ρ2,acc2,a1,a2,a3,a5⟩=>⟨ds.length - (i+1),by omega,ρ2,acc2,rfl,lt,a1,a2,a3,a5⟩,λx H2 hy=>?_⟩
  obtain⟨sm,rx⟩:=yld x H2 hy
  have r0':=r'
  have k':Kp σ ρ1 ρ' H1 H2:=k'.trans ⟨λa o e _=>sm a o e,λ_ h=>h⟩
  have rd:RepDs K (hid H2 (hs F σ ρ')) ys acc:=rd.same (br λa o e n=>⟨sm a o e,n⟩)
  have r':=r0'.grow sm
  have src:=jT (K:=K) (F:=F) (σ:=σ) (ρ:=ρ') (H:=H2) n js
  have rb:=r'.sub src hd'
  have hs2:=nF r' src
  rw[bu]at rb hs2
  have pin0:∀i a,(dQ F σ ρ' H2 (bst n σ js) (blkE n js ρ')).pin i a->n<=i:=λi a h=>by
   rcases h with h | h
   ·exact jU h.1
   ·exact h.elim
  have hlen:(bst n σ js).length=n+js.length:=fQ
  have ret:∀ σ2 ρ2 H3,Rel K (dQ F σ ρ' H2 (bst n σ js) (blkE n js ρ')) σ2 ρ2 H3->σ2.length=(bst n σ js).length->σ2.drop n=capt σ js->(∀i,(gt ρ2 i).own=true->(gt (blkE n js ρ') i).own=true) ->
    Rel K F σ (back ρ' (js.map R.o) (ρ2.drop n)) H3/\Kp σ ρ' (back ρ' (js.map R.o) (ρ2.drop n)) H2 H3/\Same (hid H3 (hs (dQ F σ ρ' H2 (bst n σ js) (blkE n js ρ')) σ2 ρ2)) (hid H3 (hs F σ (back ρ' (js.map R.o) (ρ2.drop n)))):=λσ2 ρ2 H3 rr hlen2 hdrop hown=>by
   obtain⟨f1,f2⟩:=rr.forget (n:=n) (by omega) pin0
   rw[hdrop]at f1 f2
   have f1':Rel K (dQ F σ ρ' H2 (bst n σ js) ((blkR n js).map (c0 ρ'))) (bst n σ js) (o0 n .un++ρ2.drop n) H3:=by rw[bu];exact f1
   have bk:=r'.back src hd' f1' λi hi=>by
    rw[bu]
    rw[kN]at hi
    split at hi
    ·cases hi
    ·rename_i hni
     rw[ia,show n+(i - n)=i by omega]at hi
     exact hown i hi
   have ln:(o0 n Sv.un++ρ2.drop n).length=n+js.length:=by
    have:=rr.len
    simp;omega
   rw[iW js ρ' n _ ln,D0 (by simp),bu]at bk
   exact⟨bk.1,bk.2.1,f2.trans bk.2.2⟩
  refine hg _ (bst n σ js) (blkE n js ρ') H2 x _ _ _ (λi a h=>by simp[pin0 i a h]) rb (by rw[hs2];exact rx) h' λσ2 ρ2 h2 r2 l2 p2 o2=>?_
  have hdrop:σ2.drop n=capt σ js:=by
   have:σ2.drop n=(bst n σ js).drop n:=by
    apply DK
    intro i
    rw[Co,Co]
    exact p2 (n+i) (by simp)
   rw[this]
   unfold bst
   rw[D0 (by simp)]
  have hin:σ2=o0 n2 none++σ2.drop n2:=by
   apply DK
   intro j
   rcases B7 j n2 with z | z
   ·rw[p2 j (by simp[z]),BY (by simpa using z)]
    unfold bst
    rw[BY (by simp;omega),CP,CP,if_pos z,if_pos (by omega)]
   ·rw[Ci (by simpa using z),Dd,Co]
    congr 1;omega
  have rdb:RepDs K (hid H2 (hs (dQ F σ ρ' H2 (bst n σ js) (blkE n js ρ')) σ2 ρ2)) ys acc:=by
   rw[<- hs2]at rd
   refine rd.same (br λa o e nn=>⟨e,λz=>nn ?_⟩)
   rcases z with z | ⟨j,hj,ej⟩
   ·exact .inl z
   ·obtain⟨b1,b2⟩:=o2 j hj
    rw[b2]at ej
    exact .inr ⟨j,b1,ej⟩
  refine⟨hdrop,hc _ σ2 ρ2 H2 _ _ r2 h2 λb ρ3 H3 h3 r3 k3=>?_⟩
  cases b with
  | false =>
   obtain⟨b1,b2,_⟩:=ret σ2 ρ3 H3 r3 l2 hdrop λi hi=>(o2 i (k3.sb i hi)).1
   exact⟨_,acc,b1,k'.trans b2,rd.same b2.vis,h3⟩
  | true =>
   refine hi2 _ σ2 ρ3 H3 _ _ r3 h3 λds2 c2 ρ4 J2 H4 h4 r4 k4 wk2=>?_
   refine tN hg2 hc2 he (λi a h=>xz hn (pin0 i a h)) (by omega) hin r4 (λρ5 H5 a1 a2 a3 a4=>wk2 σ2 ρ5 H5 a1 a2 (λ_ _ _ e=>e) a3 a4) (rdb.same (k3.trans k4).vis) h4 λacc' ρ5 ys' H5 h5 r5 k5 rd5=>?_
   obtain⟨b1,b2,b3⟩:=ret σ2 ρ5 H5 r5 l2 hdrop λi hi=>(o2 i (k3.sb i (k4.sb i (k5.sb i hi)))).1
   exact⟨_,acc',b1,k'.trans b2,rd5.same b3,h5⟩
 ·left
  rw[CH ge]at h'
  unfold gG at h'
  obtain⟨hcc,hz,h'⟩:=h'
  refine⟨(w hcc i).2 ge,small (by omega),λl hl'=>?_⟩
  exact((k.after k1).after k').new r' h' rd hl'
theorem j3 {pr:Nat->Bool}{te:TE}{ae:AE}{i n:Nat}{js:List Nat}{wi wi2:TI}{g g2:TG}{tc tc2:TT}(h:TEok K (qX n js wi g tc wi2 g2 tc2 te) ae)(hi:pr i=false):TSok K pr (λD σ H=>qX n js wi g tc wi2 g2 tc2 te σ H λv H'=>D.nx (σ.set i (some v)) H') (aSet i ae):=q0 hi h
end
section
variable {n2 n:Nat}{js:List Nat}{c:En->Prop}{g g2:AG}{tc tc2:AT}{i2:AI}{te:AE}
theorem vC {α:Type}{q:List D->En->Prop}(h:α->D)(f:α->List D){xs:List α}{ρ:En}(hc:c ρ)
  (hs:∀x acc (N:List D->En->Prop),x∈xs->(∃ys:List α,ys.length<=xs.length/\acc=(ys.flatMap f)/\∀y∈ys,y∈xs)->N (acc++f x) ρ->g (h x) (blkE n js ρ) λρ1=>tc ρ1 λb ρ2=>if b=true then i2 ρ2 λds2 c2 ρ3=>hB n2 c2 g2 tc2 te (λacc' ρ4=>N acc' (back ρ (js.map R.o) (ρ4.drop n))) ds2 acc ρ3 else N acc (back ρ (js.map R.o) (ρ2.drop n)))
  (hl:(xs.flatMap f).length<=1000000) (hd:q (xs.flatMap f) ρ):gG n2 n js c g tc i2 g2 tc2 te q (xs.map h) [] ρ:=by
 have go:∀(zs ys:List α),ys++zs=xs->gG n2 n js c g tc i2 g2 tc2 te q (zs.map h) (ys.flatMap f) ρ:=by
  intro zs
  induction zs with
  | nil =>
   intro ys e
   rw[Cc]at e
   subst e
   rw[Dn]
   unfold gG
   exact⟨hc,hl,hd⟩
  | cons z zs ih =>
   intro ys e
   rw[wE]
   unfold gG
   refine⟨hc,hs z _ (λacc' ρ'=>gG n2 n js c g tc i2 g2 tc2 te q (zs.map h) acc' ρ') (by rw[<- e];simp) ⟨ys,by rw[<- e,wP];omega,rfl,λy hy=>by rw[<- e];exact BW _ hy⟩ ?_⟩
   have:=ih (ys++[z]) (by rw[<- e,Ck];rfl)
   rw[Fg,Fz,GY,Cc]at this
   exact this
 exact go xs [] rfl
end
end L2
namespace L2
theorem x5 {i j:Nat}{d:D}{ρ:En}{k:En->Prop}(h:oH 2 (fo (eQ i) (fo (eQ j) gaNil)) d ρ k):∃ ρ',k ρ':=by
 cases d with
 | tup ds =>
  cases ds with
  | nil=>exact h.elim
  | cons d1 ds =>
   cases ds with
   | nil=>exact h.elim
   | cons d2 ds =>
    cases ds with
    | nil=>exact⟨_,h⟩
    | cons _ _=>exact h.elim
 | _=>exact h.elim
theorem tY {i j m:Nat}{d1 d2 d3:D}{ρ:En}{k:En->Prop}(h:k (pt (pt (pt ρ i (.vl d1)) j (.vl d2)) m (.vl d3))):oH 2 (fo (eQ i) (fo (oH 2 (fo (eQ j) (fo (eQ m) gaNil))) gaNil)) (.tup [d1,.tup [d2,d3]]) ρ k:=h
end L2
namespace L2
open PySem PySem.Spec PyProof.Rows
abbrev EnO (h:Heap)(e it:Addr)(i:Int)(old:bn)(a:Addr)(f:Bool):Prop :=
 h.get? e=some {cls:=.type "enumerate",dict:=none,data:=.fields #[DT a,.bool f,.ref it,DT i,.none,old],slots:=#[]}
section
variable {prog:wS}{w:B_}{A:Cg}{E:bn->ca->Prop}{s:ca}
theorem wY {a:Addr}{o:Obj}{Q:Option Obj->ca->Prop}(ho:s.heap.get? a=some o)(h:Q (some o) s):li (pc prog w) A (loadIfAlive a) Q E s:=by
 have h':Q (s.heap.get? a) s:=by rw[ho];exact h
 exact λ_ _ _=>h'
theorem xp {e it a:Addr}{f:Bool}{oa:Obj}{fp:List Addr}{n i:Nat}{P:Nat->bn->Prop}{St:Nat->Heap->Prop}{old:bn}{Q:bn->ca->Prop}
  (D:Kg prog w A it fp n P St) (he:EnO s.heap e it i old a f) (ha:s.heap.get? a=some oa) (hae:a≠e) (hai:a≠it) (hst:St i s.heap) (hlt:i<n) (hne:e≠it) (hef:e∉fp)
  (hQ:∀x h' tk,P i x->EnO h' e it ((i:Int)+1) old a true->St (i+1) h' ->
   h'.get? s.heap.objs.size=some {cls:=.type "tuple",data:=.seq #[.int i tk,x]}->h'.objs.size=s.heap.objs.size+1 ->
   (∀b o,b≠e->b≠it->s.heap.get? b=some o->h'.get? b=some o)->Q (.ref s.heap.objs.size) {s with heap:=h',toks:=tk+1}) :
  li (pc prog w) A (Builtin.«enumerate.__next__» ⟨[.ref e],[]⟩) (λfin s'=>∃v,fin = .done (.ret v)/\Q v s') E s:=by
 obtain⟨hp,g,d,tk₀,os⟩:=s
 show li _ _ (IQ (.ref e) 2>>=_) _ _ _
 refine bm (Ei he rfl (x:=.ref it) rfl ?_)
 refine bm (D.item i _ _ _ hlt hst λx h₁ tk hPx hit₁ hs₁=>?_)
 replace hs₁:Cw it hp h₁:=hs₁
 have he₁:EnO h₁ e it i old a f:=(hs₁.2 e hne).trans he
 show li _ _ (IQ (.ref e) 3>>=_) _ _ ⟨h₁,g,d,tk,os⟩
 refine bm (Ei he₁ rfl (x:=DT i) rfl ?_)
 show li _ _ (IQ (.ref e) 4>>=_) _ _ ⟨h₁,g,d,tk,os⟩
 refine bm (Ei he₁ rfl (x:=.none) rfl ?_)
 show li _ _ (mkInt i>>=_) _ _ ⟨h₁,g,d,tk,os⟩
 refine bm (wpAny_mkInt ?_)
 show li _ _ (setField (.ref e) 3 (DT ((i:Int)+1))>>=_) _ _ ⟨h₁,g,d,tk+1,os⟩
 refine bm (Dj he₁ (by simp) λh₂ he₂ hs₂=>?_)
 replace hs₂:Cw e h₁ h₂:=hs₂
 replace he₂:EnO h₂ e it ((i:Int)+1) old a f:=he₂
 show li _ _ (setField (.ref e) 4 .none>>=_) _ _ ⟨h₂,g,d,tk+1,os⟩
 refine bm (Dj he₂ (by simp) λh₃ he₃ hs₃=>?_)
 replace hs₃:Cw e h₂ h₃:=hs₃
 replace he₃:EnO h₃ e it ((i:Int)+1) old a f:=he₃
 show li _ _ (newTuple [.int i tk,x]>>=_) _ _ ⟨h₃,g,d,tk+1,os⟩
 refine bm (wpAny_newTuple ?_)
 have he₄:EnO (h₃.push {cls:=.type "tuple",data:=.seq #[.int i tk,x]}) e it ((i:Int)+1) old a f:=db _ he₃
 generalize hh₄:h₃.push {cls:=.type "tuple",data:=.seq #[.int i tk,x]}=h₄ at he₄
 have hsz:h₃.objs.size=hp.objs.size:=by rw[hs₃.1,hs₂.1,hs₁.1]
 have hel:e<hp.objs.size:=lc he
 have ht₄:h₄.get? hp.objs.size=some {cls:=.type "tuple",data:=.seq #[.int i tk,x]}:=by rw[<- hh₄,<- hsz];exact wn _ rfl
 have hz₄:h₄.objs.size=hp.objs.size+1:=by rw[<- hh₄,CI,hsz]
 have hk₄:∀b o,b≠e->b≠it->hp.get? b=some o->h₄.get? b=some o:=λb o hbe hbi hb=>by
  rw[<- hh₄];exact db _ (hs₃.extBut b o hbe (hs₂.extBut b o hbe (hs₁.extBut b o hbi hb)))
 have hit₄:St (i+1) h₄:=D.frame _ _ _ hit₁ λb hb o y=>by
  have hbe:b≠e:=λq=>hef (q▸hb)
  rw[<- hh₄];exact db _ (hs₃.extBut b o hbe (hs₂.extBut b o hbe y))
 show li _ _ (Fy (.ref e)>>=_) _ _ ⟨h₄,g,d,tk+1,os⟩
 rw[hsz]
 clear hh₄ he₃ hs₃ he₂ hs₂ he₁ hs₁ hit₁ hsz h₃ h₂ h₁
 have ha₄:h₄.get? a=some oa:=hk₄ a oa hae hai ha
 refine bm ?_
 unfold Fy
 refine bm (Ei he₄ rfl (x:=DT a) rfl ?_)
 show li _ _ (loadIfAlive ((a:Int).toNat)>>=_) _ _ _
 rw[CB]
 refine bm (wY ha₄ ?_)
 simp only[Option.isNone_some,EH,if_false]
 refine bm (Ei he₄ rfl (x:=.bool f) rfl ?_)
 have fin:∀h₅:Heap,EnO h₅ e it ((i:Int)+1) old a true->Cw e h₄ h₅->Q (.ref hp.objs.size) ⟨h₅,g,d,tk+1,os⟩:=λh₅ he₅ hs₅ =>
  hQ x h₅ tk hPx he₅ (D.frame _ _ _ hit₄ λb hb o y=>hs₅.extBut b o (λq=>hef (q▸hb)) y) (hs₅.extBut _ _ (CW hel) ht₄) (by show h₅.objs.size=hp.objs.size+1;rw[hs₅.1,hz₄]) λb o hbe hbi hb=>hs₅.extBut b o hbe (hk₄ b o hbe hbi hb)
 cases f with
 | true =>
  rw[if_neg (show ¬((Value.bool true != Value.bool true)=true)from Ca)]
  refine dL ?_
  simp only[EH,if_false]
  exact dL ⟨_,rfl,fin h₄ he₄ (HE _ _)⟩
 | false =>
  rw[if_pos (show(Value.bool false != Value.bool true)=true from rfl)]
  refine bm (Dj he₄ (by simp) λh₅ he₅ hs₅=>?_)
  replace hs₅:Cw e h₄ h₅:=hs₅
  replace he₅:EnO h₅ e it ((i:Int)+1) old a true:=he₅
  refine dL ?_
  simp only[EH,if_false]
  exact dL ⟨_,rfl,fin h₅ he₅ hs₅⟩
def EnS (h:Heap)(e it:Addr)(i:Nat)(S:Addr):Prop:=(∃old,HD h e it i old) ∨ ∃old a f oa,EnO h e it i old a f/\h.get? a=some oa/\a≠e/\a≠it/\a≠S
theorem EnS.keep {h h':Heap}{e it S:Addr}{i:Nat}(x:EnS h e it i S)(hk:∀b o,b≠S->h.get? b=some o->h'.get? b=some o)(hS:e≠S):EnS h' e it i S:=by
 rcases x with⟨old,he⟩ | ⟨old,a,f,oa,he,ha,h1,h2,h3⟩
 ·exact .inl ⟨old,hk _ _ hS he⟩
 ·exact .inr ⟨old,a,f,oa,hk _ _ hS he,hk _ _ h3 ha,h1,h2,h3⟩
theorem EnS.typeIs {e it S:Addr}{i:Nat}(x:EnS s.heap e it i S):s.TypeIs (.ref e) "enumerate" := by
 rcases x with⟨old,he⟩ | ⟨old,a,f,oa,he,_⟩
 ·exact⟨_,he,rfl⟩
 ·exact⟨_,he,rfl⟩
theorem xo {e it S:Addr}{fp:List Addr}{n i:Nat}{P:Nat->bn->Prop}{St:Nat->Heap->Prop}{Q:Option bn->ca->Prop}
  (D:Kg prog w A.in1 it fp n P St) (he:EnS s.heap e it i S) (hit:it<s.heap.objs.size) (hS:S<s.heap.objs.size) (hst:St i s.heap) (hlt:i<n) (hne:e≠it) (hef:e∉fp)
  (hQ:∀x h' tk,P i x->EnS h' e it (i+1) S->St (i+1) h' ->
   h'.get? s.heap.objs.size=some {cls:=.type "tuple",data:=.seq #[.int i tk,x]}->h'.objs.size=s.heap.objs.size+1 ->
   (∀b o,b≠e->b≠it->s.heap.get? b=some o->h'.get? b=some o)->Q (some (.ref s.heap.objs.size)) {s with heap:=h',toks:=tk+1}) :
  li (pc prog w) A (Et (.ref e)) Q E s:=by
 have hT:s.TypeIs (.ref e) "enumerate" := he.typeIs
 rcases he with⟨old,he⟩ | ⟨old,a,f,oa,he,ha,h1,h2,h3⟩
 ·refine IP D he hst hlt hne hef λx h' tk hP ho hs ht hz hk=>hQ x h' tk hP (.inr ⟨x,_,false,_,?_,ht,CW (lc he),CW hit,CW hS⟩) hs ht hz hk
  have ec:((i+1:Nat):Int)=(i:Int)+1:=by omega
  rw[ec];exact ho
 ·unfold Et
  refine bm (GW (DM (name:=Fn "__next__") hT E7
   (Dl E7 hT IL
    (xp D he ha h1 h2 hst hlt hne hef λx h' tk hP ho hs ht hz hk=>dL (hQ x h' tk hP (.inr ⟨old,a,true,oa,?_,hk a oa h1 h2 ha,h1,h2,h3⟩) hs ht hz hk)) (ID _))))
  have ec:((i+1:Nat):Int)=(i:Int)+1:=by omega
  rw[ec];exact ho
theorem zx {e it S:Addr}{fp:List Addr}{n i:Nat}{P:Nat->bn->Prop}{St:Nat->Heap->Prop}{Q:Option bn->ca->Prop}
  (D:Kg prog w A.in1 it fp n P St) (he:EnS s.heap e it i S) (hst:St n s.heap)
  (hQ:∀h',Kv it s.heap h'->Q none {s with heap:=h'}):li (pc prog w) A (Et (.ref e)) Q E s:=by
 have hT:s.TypeIs (.ref e) "enumerate" := he.typeIs
 rcases he with⟨old,he⟩ | ⟨old,a,f,oa,he,ha,h1,h2,h3⟩
 ·exact Jc D he hst hQ
 ·unfold Et
  refine bm (GW (DM (name:=Fn "__next__") hT E7
   (Dl E7 hT IL ?_ (ID _))))
  show li _ _ (IQ (.ref e) 2>>=_) _ _ _
  refine bm (Ei he rfl (x:=.ref it) rfl ?_)
  refine bm (D.done _ _ _ hst λh' x he' hx'=>?_)
  obtain⟨o,ho,hc⟩:=hx'
  refine bm (FV (T := "StopIteration") (b:=true) ⟨o,ho,hc⟩ Ih ?_)
  exact dL (hQ _ he')
end
structure LeG (P:Nat->bn->Prop)(lo:Addr)(h:Heap)(as:List Addr):Prop where
 rise:as.Pairwise (· < ·)
 above:∀a∈as,lo<a
 pairs:∀(j:Nat) (a:Addr),as[j]? = some a->∃tk x,P j x/\h.get? a=some {cls:=.type "tuple",data:=.seq #[.int j tk,x]}
theorem LeG.there {P:Nat->bn->Prop}{lo:Addr}{h:Heap}{as:List Addr}(g:LeG P lo h as){a:Addr}(ha:a∈as):a<h.objs.size:=by
 obtain⟨j,hj⟩:=List.mem_iff_getElem?.mp ha
 obtain⟨_,_,_,e⟩:=g.pairs j a hj
 exact lc e
section
variable {prog:wS}{w:B_}{A:Cg}{s:ca}{R:E1->ca->Prop}
theorem y9 {S e it:Addr}{fp:List Addr}{n:Nat}{P:Nat->bn->Prop}{St:Nat->Heap->Prop}(D:Kg prog w A.in1.in1 it fp n P St)(heS:e<S)(hiS:it<S)(hne:e≠it)(hef:e∉fp)(hSf:S∉fp)(hn:n<=wT)(res:bn){h₁:Heap}
  (hR:∀h' tk acc c as,(∀b o,b≠S->b≠e->b≠it->h₁.get? b=some o->h'.get? b=some o)->h'.get? S=some {cls:=.type "list",dict:=none,data:=.seq acc c,slots:=#[]}->as.length=n->LeG P S h' as ->
   acc.toList=as.map Value.ref->R (.ok (.ret res)) {s with heap:=h',toks:=tk}) :
  ∀(k i:Nat) (h:Heap) (tk c:Nat) (acc:Array bn) (as:List Addr),n - i=k->i<=n->EnS h e it i S->St i h->(∀b o,b≠S->b≠e->b≠it->h₁.get? b=some o->h.get? b=some o) ->
   h.get? S=some {cls:=.type "list",dict:=none,data:=.seq acc c,slots:=#[]}->acc.toList=as.map Value.ref->as.length=i->LeG P S h as ->
   CY (pc prog w) A (.builtin "list.extend.loop" ⟨[.ref S,.ref e,res],[]⟩) R {s with heap:=h,toks:=tk}:=by
 intro k
 induction k with
 | zero =>
  intro i h tk c acc as hk hi hst hD hkeep hS hacc hal hG
  have hin:i=n:=by omega
  subst hin
  refine D5 G7 ?_
  rw[DE DU _]
  show li _ A.in1 (Et (.ref e)>>=_) _ _ _
  refine bm (zx (s:={s with heap:=h,toks:=tk}) (A:=A.in1) D hst hD λh' he=>?_)
  refine dL (hR h' tk acc c as (λb o h1 h2 h3 e=>he b o h3 (hkeep b o h1 h2 h3 e)) (he S _ (CW hiS) hS) hal ⟨hG.rise,hG.above,λj a hj=>?_⟩ hacc)
  obtain⟨t,x,e1,e3⟩:=hG.pairs j a hj
  exact⟨t,x,e1,he a _ (CW (DO hiS (hG.above a (Cd hj)))) e3⟩
 | succ k ih =>
  intro i h tk c acc as hk hi hst hD hkeep hS hacc hal hG
  have hlt:i<n:=by omega
  have hsz:acc.size=i:=by rw[<- Do,hacc,f8,hal]
  have hSl:S<h.objs.size:=lc hS
  refine D5 G7 ?_
  rw[DE DU _]
  show li _ A.in1 (Et (.ref e)>>=_) _ _ _
  refine bm (xo (s:={s with heap:=h,toks:=tk}) (A:=A.in1) (S:=S) D hst (DO hiS hSl) hSl hD hlt hne hef λx h' tk' hP hst' hD' ht hz hkp=>?_)
  dsimp only at ht hz hkp ⊢
  have hS':=hkp S _ (CW heS) (CW hiS) hS
  have up:∀b o,b≠S->h'.get? b=some o->(h'.update S (C9 (·.push (Value.ref h.objs.size)))).get? b=some o:=λb o hb e=>(CU _ _ (Dq hb)).trans e
  show li _ A.in1 (GC S (·.push (Value.ref h.objs.size))>>=_) _ _ _
  refine bm ?_
  refine EM hS' rfl (dL ⟨EK DU _,ih (i+1) _ (tk'+1) _ (acc.push (Value.ref h.objs.size)) (as++[h.objs.size]) (by omega) hlt (hst'.keep up (ww heS)) (D.frame _ _ _ hD' λb hb o e=>up b o (λq=>hSf (q▸hb)) e)
   (λb o h1 h2 h3 e=>up b o h1 (hkp b o h2 h3 (hkeep b o h1 h2 h3 e))) (C2 _ hS' rfl) (by rw[GB,hacc,Cb];rfl) (by rw[wP,hal];rfl) ⟨?_,?_,?_⟩⟩) (by rw[hsz];omega) (by show(acc.push (Value.ref h.objs.size)).size<=wT+1;rw[Array.size_push,hsz];omega)
  ·refine F2.mpr ⟨hG.rise,List.pairwise_singleton _ _,λa ha b hb=>?_⟩
   rw[sn.mp hb]
   exact hG.there ha
  ·intro a ha
   rcases xL.mp ha with ha | ha
   ·exact hG.above a ha
   ·rw[sn.mp ha];exact hSl
  ·intro j b hj
   rcases Dp j as.length with h1 | h1 | h1
   ·rw[BY h1]at hj
    obtain⟨t,x',e1,e3⟩:=hG.pairs j b hj
    have hb:=hG.above b (Cd hj)
    exact⟨t,x',e1,up b _ (CW hb) (hkp b _ (CW (DO heS hb)) (CW (DO hiS hb)) e3)⟩
   ·subst h1
    have hb:h.objs.size=b:=by simpa using hj
    subst hb
    exact⟨tk',x,by rw[hal];exact hP,by rw[hal];exact up _ _ (CW hSl) ht⟩
   ·have hnone:(as++[h.objs.size])[j]? = none:=Dy (by rw[wP,DV];omega)
    rw[hnone]at hj;cases hj
end
theorem qv:G2 (.type "enumerate") "__len__" = pure none:=by rw[Gd,E8];kernel_rfl
theorem oK:G2 (.type "enumerate") "__length_hint__" = pure none:=by rw[Gd,E8];kernel_rfl
section
variable {prog:wS}{w:B_}{A:Cg}{E:bn->ca->Prop}{s:ca}
theorem y_ {e it:Addr}{fp:List Addr}{n:Nat}{P:Nat->bn->Prop}{St:Nat->Heap->Prop}{old:bn}{Q:bn->ca->Prop}(D:Kg prog w A.in1.in1.in1 it fp n P St)(he:HD s.heap e it 0 old)(hit:it<s.heap.objs.size)(hst:St 0 s.heap)(hne:e≠it)(hef:e∉fp)(hfp:∀b∈fp,b<s.heap.objs.size)(hn:n<=wT)
  (hQ:∀h' tk acc c as,(∀b o,b≠e->b≠it->s.heap.get? b=some o->h'.get? b=some o)->h'.get? s.heap.objs.size=some {cls:=.type "list",dict:=none,data:=.seq acc c,slots:=#[]}->as.length=n->LeG P s.heap.objs.size h' as ->
   acc.toList=as.map Value.ref->Q (.ref s.heap.objs.size) {s with heap:=h',toks:=tk}) :
  li (pc prog w) A (call (.type "list") [.ref e]) Q E s:=by
 refine callType_codes (Q₁:=λobj s₁=>obj = .ref s.heap.objs.size/\s₁={s with heap:=s.heap.push {cls:=.type "list",data:=.seq #[]}}) PySem.F.called_list (PySem.F.typeCall_list_1 _) PySem.F.entry_list_init
  (code_list_new _ ⟨rfl,rfl⟩) λobj s₁ h₁=>?_
 obtain⟨rfl,rfl⟩:=h₁
 have hel:e<s.heap.objs.size:=lc he
 have hS:(s.heap.push {cls:=.type "list",data:=.seq #[]}).get? s.heap.objs.size=some {cls:=.type "list",data:=.seq #[]}:=wn _ rfl
 have old1:∀b o,s.heap.get? b=some o->(s.heap.push {cls:=.type "list",data:=.seq #[]}).get? b=some o:=λb o e=>db _ e
 have lts:∀b o,s.heap.get? b=some o->b≠s.heap.objs.size:=λb o e=>ww (lc e)
 refine⟨⟨_,hS,rfl⟩,PySem.F.args_list_init_2 _ _,?_⟩
 generalize hS0:s.heap.objs.size=S at hS hit hfp hQ hel lts ⊢
 generalize hh1:s.heap.push {cls:=.type "list",data:=.seq #[]}=hp1 at hS old1 ⊢
 show li _ _ (do let old <- G1 (.ref S);KH (.ref S) (λ_=>#[]);letGo old.toList.reverse;De (.ref S) (.ref e) .none) _ _ _
 refine bm ?_
 unfold G1
 refine bm (Gq hS rfl (dL ?_))
 show li _ _ (GC S (λ_=>#[])>>=λ_=>letGo (#[]:Array bn).toList.reverse>>=λ_=>De (.ref S) (.ref e) .none) _ _ _
 refine bm (EM hS rfl ?_)
 have hS₂:=C2 (C9 (λ_=>(#[]:Array bn))) hS rfl
 have oth:∀b o,b≠S->hp1.get? b=some o->(hp1.update S (C9 (λ_=>(#[]:Array bn)))).get? b=some o :=
  λb o hb e=>(CU _ _ (Dq hb)).trans e
 refine bm (wpAny_letGo ?_)
 generalize hp1.update S (C9 (λ_=>(#[]:Array bn)))=hp2 at hS₂ oth ⊢
 have old2:∀b o,s.heap.get? b=some o->hp2.get? b=some o:=λb o e=>oth b o (lts b o e) (old1 b o e)
 have he2:HD hp2 e it 0 old:=old2 _ _ he
 have hT2:Jw {s with heap:=hp2} (.ref e) "enumerate" := ⟨_,he2,rfl⟩
 unfold De
 refine bm (Jb hT2 ?_)
 have h1:Ep (.ref S) (.ref e)=false:=by simp[Ep,CW hel]
 have h2:(Value.type "enumerate" == Value.type "list")=false:=by decide
 have h3:(Value.type "enumerate" == Value.type "tuple")=false:=by decide
 simp only[h1,h2,h3,Gm,EH,if_false]
 refine bm (EV he2 ?_)
 refine bm (DH ?_)
 unfold ES
 refine bm (Gb hT2 qv ?_)
 show li _ _ (specialOf (Value.ref e) (Fn "__length_hint__")>>=_) _ _ _
 refine bm (Gb hT2 oK ?_)
 refine dL ?_
 show li _ _ (rule "list.extend.makes-room" >>= λ_=>KI (.ref S)>>=λ_ =>
  Ip (.builtin "list.extend.loop" ⟨[.ref S,.ref e,.none],[]⟩)) _ _ _
 refine bm (DX ?_)
 refine bm ?_
 show li _ _ (GC S (·.push .none)>>=λ_=>GC S (·.pop)) _ _ _
 refine bm (EM hS₂ rfl ?_)
 have hS₃:=C2 (C9 (·.push Value.none)) hS₂ rfl
 refine EM (hz:=by seq_fits) hS₃ rfl ?_
 have hS₄:=C2 (C9 (·.pop)) hS₃ rfl
 have oth4:∀b o,b≠S->hp2.get? b=some o->((hp2.update S (C9 (·.push Value.none))).update S (C9 (·.pop))).get? b=some o :=
  λb o hb e=>(CU _ _ (Dq hb)).trans ((CU _ _ (Dq hb)).trans e)
 generalize (hp2.update S (C9 (·.push Value.none))).update S (C9 (·.pop))=hp4 at hS₄ oth4 ⊢
 have old4:∀b o,s.heap.get? b=some o->hp4.get? b=some o:=λb o e=>oth4 b o (lts b o e) (old2 b o e)
 refine dL ⟨EK DU _,?_⟩
 refine y9 (s:=s) (h₁:=s.heap) D hel hit hne hef (λq=>D4 _ (hfp _ q)) hn .none (λh' tk acc c as hk hS' hl hG hacc=>?_) n 0 hp4 s.toks _ #[] [] (GQ _) (B0 _) (.inl ⟨old,old4 _ _ he⟩) (D.frame _ _ _ hst λb hb o e=>old4 b o e) (λb o _ _ _ e=>old4 b o e) hS₄ rfl rfl
  ⟨List.Pairwise.nil,(λ_ ha=>nomatch ha),(λj a hj=>by simp at hj)⟩
 exact⟨rfl,hQ h' tk acc c as (λb o h1 h2 e=>hk b o (lts b o e) h1 h2 e) hS' hl hG hacc⟩
end
theorem lB {X:Cx}{pins:List (Addr×Obj)}{σ:St}{s:ca}{H1:Hp}{lo:Addr}(fp:∀b,lo<=b->FpOk X pins H1 b):∀(as:List Addr) (xs:List V) (k:Nat) (H:Hp),Inv X pins σ H s->as.Pairwise (· < ·)->(∀a∈as,lo<=a)->(∀a∈as,H a=none) ->
  (∀j a,as[j]? = some a->∃tk x u,xs[j]? = some x/\RelV x u/\s.heap.get? a=some {cls:=.type "tuple",data:=.seq #[.int ((k+j:Nat):Int) tk,u]}) ->
  ∃H',Inv X pins σ H' s/\Same H H'/\(∀j a,as[j]? = some a->∃x,xs[j]? = some x/\H' a=some (.tup [.int ((k+j:Nat):Int),x]))/\∀b,b∉as->H' b=H b
 | [],xs,k,H,I,_,_,_,_=>⟨H,I,.refl _,(λj a h=>by simp at h),λ_ _=>rfl⟩
 | a::as,xs,k,H,I,hp,hl,hn,ht=>by
  obtain⟨tk,x,u,ex,ru,eu⟩:=ht 0 a rfl
  have ea:=hn a B2
  have hp':=Dz.mp hp
  have ne:∀b∈as,b≠a:=λb hb=>CW (hp'.1 b hb)
  have I2:=I.trackO (p:=a) (o:=.tup [.int ((k:Nat):Int),x]) ⟨ea,(fp a (hl a B2)).2⟩ ⟨by show 2<=wT;decide,[.int ((k:Nat):Int) tk,u],.cons ⟨_,rfl⟩ (.cons ru .nil),_,eu,rfl,_,rfl⟩
  cases xs with
  | nil=>simp at ex
  | cons x0 xs =>
   simp only[DJ,Cv]at ex
   subst ex
   obtain⟨H',J1,J2,J3,J4⟩:=lB fp as xs (k+1) _ I2 hp'.2 (λb hb=>hl b (BV _ hb)) (λb hb=>by rw[aQ (ne b hb)];exact hn b (BV _ hb)) (λj b hj=>by
    obtain⟨tk,x,u,e1,e2,e3⟩:=ht (j+1) b (by simpa using hj)
    exact⟨tk,x,u,by simpa using e1,e2,by rw[show k+1+j=k+(j+1)by omega];exact e3⟩)
   refine⟨H',J1,λb o e=>J2 b o (by rw[aQ (bb e ea)];exact e),λj b hj=>?_,λb hb=>?_⟩
   ·cases j with
    | zero =>
     simp only[DJ,Cv]at hj
     subst hj
     exact⟨x0,rfl,J2 a _ aR⟩
    | succ j =>
     obtain⟨x,e1,e2⟩:=J3 j b (by simpa using hj)
     exact⟨x,by simpa using e1,by rw[show k+(j+1)=k+1+j by omega];exact e2⟩
   ·have nb:b≠a:=λz=>hb (z▸B2)
    rw[J4 b (λz=>hb (BV _ z)),aQ nb]
def tLsE (K:bi)(t:TA):TE:=λσ H Q=>t σ H λvs H1=>∃l xs,vs=[.ref l]/\SqT K H1 l xs/\∀ys H0 p,Same H1 H0->ys.length=xs.length ->
 (∀j x,xs[j]? = some x->∃q,ys[j]? = some (.ref q)/\H1 q=none/\H0 q=some (.tup [.int (j:Nat),x]))->H0 p=none->Q (.ref p) (upd H0 p (.lst ys))
theorem Ak (K:bi){X:Cx}{a:Expr}{ta:TA}{p1 p2 pos1 pos2:Pos}(hc:X.calm=true)(hg1:Gl X "list")(hm1:X.mg "list" = none)(hg2:Gl X "enumerate")(hm2:X.mg "enumerate" = none)(ha:PA X [a] ta)(hK:X.K=K:=by rfl)
  (hs1:B4 [.Call (.Name "enumerate" p2) [a] [] pos2] X.env=[(false,eval (.Call (.Name "enumerate" p2) [a] [] pos2) X.env)]:=by rfl) (hs2:B4 [a] X.env=[(false,eval a X.env)]:=by rfl) :
  PE X (.Call (.Name "list" p1) [.Call (.Name "enumerate" p2) [a] [] pos2] [] pos1) (tLsE K ta):=by
 subst hK
 intro pins s σ H Q I h
 refine HR (fj I hg1 hm1 ni (Cy ?_ hs1 rfl))
 rw[hs1]
 show li _ _ (Je [(false,eval (.Call (.Name "enumerate" p2) [a] [] pos2) X.env)]) _ _ s
 refine Ec ?_
 refine HR (fj I hg2 hm2 gO (Cy (thn (ha pos2 pins s σ H _ I h) λus s1 ⟨vs,H1,I1,r1,q1⟩=>?_) hs2 rfl))
 obtain⟨l,xs,rfl,h1,q⟩:=q1
 obtain⟨u,rfl,ru⟩:=jz r1
 cases ru
 obtain⟨its,rv,p1,hz⟩:=I1.tuple h1
 have lt:l<s1.heap.objs.size:=by obtain⟨o,e,_⟩:=id p1;exact lc e
 refine mf p1 λh' he hi hsz hk=>EL ?_
 have pt1:h'.IsTuple l its.toArray:=by obtain⟨o,e,r⟩:=p1;exact⟨o,hk _ _ e,r⟩
 have nl:l≠s1.heap.objs.size:=ww lt
 have nel:s1.heap.objs.size+1≠l:=Dq (ww (Em lt))
 have ltI:s1.heap.objs.size<h'.objs.size:=by rw[hsz];exact Nat.lt_add_of_pos_right (by decide)
 have e0:HD h' (s1.heap.objs.size+1) s1.heap.objs.size ((0:Nat):Int) .none:=he
 refine y_ (s:={s1 with heap:=h'}) (kP (show X.A.in1.in1.in1.handled=none from I1.ok.hd hc) s1.heap.objs.size l nl its.toArray) he ltI ⟨hi,pt1⟩ (Jx _) (λz=>by
  simp only[sK,Cr,or_false]at z
  rcases z with z | z
  ·exact Jx _ z
  ·exact nel z) (λb hb=>?_) (by rw[on,<- rv.length];exact hz) λh2 tk acc c as hk2 hS hl hG hacc=>?_
 ·show b<h'.objs.size
  simp only[sK,Cr,or_false]at hb
  rcases hb with rfl | rfl
  ·exact ltI
  ·exact DO lt ltI
 ·have hle:s1.heap.objs.size<=h'.objs.size:=by omega
  have hS':h2.get? h'.objs.size=some {cls:=.type "list",dict:=none,data:=.seq acc c,slots:=#[]}:=hS
  have le0:∀b,s1.heap.objs.size<=b->FpOk X pins H1 b:=λb hb=>I1.fpOk hb (I1.hok.fresh hb)
  have I2:Inv X pins σ H1 {s1 with heap:=h'}:=I1.kept (t':=s1.toks) hk
  have I3:Inv X pins σ H1 {s1 with heap:=h2,toks:=tk}:=Inv.turns (s:={s1 with heap:=h'}) (ch:=[s1.heap.objs.size+1,s1.heap.objs.size]) (t':=tk) I2 (λb o hb e=>by
   simp only[sK,Cr,or_false,not_or]at hb
   exact hk2 b o hb.1 hb.2 e) (λb hb=>le0 b (by
    simp only[sK,Cr,or_false]at hb
    rcases hb with rfl | rfl
    ·exact EJ _
    ·exact lm _))
  have abv:∀b∈as,h'.objs.size<b:=hG.above
  obtain⟨H0,J1,J2,J3,J4⟩:=lB (lo:=s1.heap.objs.size) le0 as xs 0 H1 I3 hG.rise (λb hb=>xz hle (CN (abv b hb))) (λb hb=>I1.hok.fresh (xz hle (CN (abv b hb)))) (λj b hj=>by
   obtain⟨t,x,e1,e2⟩:=hG.pairs j b hj
   have e1':its[j]? = some x:=by simpa using e1
   have hjl:j<xs.length:=by rw[rv.length];exact(kt.mp e1').1
   obtain⟨u,hu,ru⟩:=rv.get (bv hjl)
   rw[e1']at hu
   cases hu
   exact⟨t,xs[j],x,bv hjl,ru,by rw[C5];exact e2⟩)
  have nS:h'.objs.size∉as:=λz=>D4 _ (abv _ z)
  have f0:=le0 h'.objs.size (by omega)
  have n0:H0 h'.objs.size=none:=by rw[J4 _ nS];exact f0.1
  have hal:as.length=xs.length:=by rw[hl,on,<- rv.length]
  have vr:∀l:List Addr,Vals (l.map V.ref) (l.map Value.ref):=λl=>by
   induction l with
   | nil=>exact .nil
   | cons a l ih=>exact .cons rfl ih
  have I4:=J1.track (D:=h'.objs.size) (ys:=as.map V.ref) (its:=acc.toList) (n:=c) n0 (xz I1.sz (by omega)) f0.2.1 f0.2.2.2.2.1 f0.2.2.2.2.2 (by rw[f8,hal];exact hz) (by rw[hacc];exact vr as) (by simpa using hS')
  refine⟨.ref h'.objs.size,_,I4,rfl,q _ H0 _ J2 (by rw[f8,hal]) (λj x hx=>?_) n0⟩
  have hj:j<as.length:=by rw[hal];exact(kt.mp hx).1
  obtain⟨x',e1,e2⟩:=J3 j as[j] (bv hj)
  rw[hx]at e1
  cases e1
  rw[C5]at e2
  refine⟨as[j],by rw[wv,bv hj];rfl,I1.hok.fresh (xz hle (CN (abv as[j] (DQ hj)))),e2⟩
section
variable {K:bi}{ts:TA}{as:AA}
def aLsE (as:AA):AE:=λρ q=>as ρ λrs ρ1=>match rs with
 | [.d (.tup ds)]=>q (.n (.ow (dO 0 ds))) ρ1
 | _=>False
theorem rj {H1 H0:Hp}:∀ {vs:List V} {ds:List D} {ys:List V} {b:Nat},RepDs K H1 vs ds->ys.length=vs.length->(∀j x,vs[j]? = some x->∃q,ys[j]? = some (.ref q)/\H0 q=some (.tup [.int ((b+j:Nat):Int),x]))->(∀a o,H1 a=some o->H0 a=some o)->RepDs K H0 ys (dO b ds)
 | [],[],ys,b,_,hl,_,_=>by
  cases ys with
  | nil=>exact .nil
  | cons _ _=>simp at hl
 | v::vs,d::ds,ys,b,r,hl,hy,sm=>by
  cases ys with
  | nil=>simp at hl
  | cons y ys =>
   unfold RepDs at r
   obtain⟨q,e1,e2⟩:=hy 0 v rfl
   simp only[DJ,Cv]at e1
   subst e1
   refine .cons ?_ (rj (b:=b+1) r.2 (by simpa using hl) (λj x hx=>?_) sm)
   ·unfold RepD
    exact⟨q,[.int (b:Nat),v],rfl,e2,.cons (by unfold RepD;rfl) (.cons (r.1.same sm) .nil)⟩
   ·obtain⟨q',e3,e4⟩:=hy (j+1) x (by simpa using hx)
    exact⟨q',by simpa using e3,by rw[show b+1+j=b+(j+1)by omega];exact e4⟩
 | [],_::_,_,_,r,_,_,_=>by unfold RepDs at r;exact r.elim
 | _::_,[],_,_,r,_,_,_=>by unfold RepDs at r;exact r.elim
theorem yn (h:TAok K ts as):TEok K (tLsE K ts) (aLsE as):=by
 intro F σ ρ H q Q r ha k
 refine h F σ ρ H _ _ r ha λrs ρ1 vs H1 h1 r1 i1 k1=>?_
 split at h1
 ·rename_i ds
  obtain⟨x,rfl,ix⟩:=i1.one
  have rd:RepD K _ x (.tup ds):=ix
  unfold RepD at rd
  obtain⟨a,vs,rfl,sq,rd⟩:=rd
  refine⟨a,vs,rfl,cg.seqT sq.sq,λys H0 p sm hl hy hp=>?_⟩
  have k0:Kp σ ρ1 ρ1 H1 H0:=⟨λa o e _=>sm a o e,λ_ h=>h⟩
  have hv:∀ {b},H1 b=none->¬hs F σ ρ1 b:=λ{b} e z=>rN r1 z e
  refine k (.n (.ow (dO 0 ds))) ρ1 _ _ h1 ⟨H0,p,_,r1.grow sm,k1.trans k0,rfl,⟨p,ys,rfl,aR,?_⟩,hp,rfl,rfl⟩
  refine rj rd hl (λj x hx=>?_) k0.vis
  obtain⟨q',e1,e2,e3⟩:=hy j x hx
  exact⟨q',e1,gB (hv e2) (by rw[C5];exact e3)⟩
 ·exact h1.elim
end
section
variable {P:wS}{w:B_}{A:Cg}{R:E1->ca->Prop}{s:ca}
theorem oR {kx vx tg iter:Expr}{ifs:List Expr}{scope:DF}{pos:Pos}{it:bn}{D:Addr}{env:Env}(J:Nat->ca->Prop)
  (turn:∀n s,J n s->li (pc P w) A (Et it) (λr s1=>match r with
   | none=>R (.ok .next) s1
   | some v=>li (pc P w) A (Dh tg it v) (λ_ s2=>li (pc P w) A (Ea tg env v) (λ_ s3 =>
     li (pc P w) A (forIn ifs true λc r=>if r=true then do let ok <- FH c env (eval c env);pure (ForInStep.yield ok)else pure (ForInStep.yield r)) (λok s4 =>
      if ok=true then li (pc P w) A (eval kx env) (λkv s5=>li (pc P w) A (eval vx env) (λvv s6=>li (pc P w) A (dictSet D kv vv) (λ_ s7=>∃m,m<n/\J m s7) (λ_ _=>False) s6) (λ_ _=>False) s5) (λ_ _=>False) s4
      else ∃m,m<n/\J m s4) (λ_ _=>False) s3) (λ_ _=>False) s2) (λ_ _=>False) s1) (λ_ _=>False) s)
  (n:Nat) (h:J n s):CY (pc P w) A (.compLoop (.DictComp kx vx [⟨tg,iter,ifs,0⟩] scope pos) 0 it (.ref D) env) R s:=by
 have no:∀ {α:Type} {t:Sem α} {Q Q':α->ca->Prop} {E:bn->ca->Prop} {s:ca},li (pc P w) A t Q (λ_ _=>False) s->(∀a s,Q a s->Q' a s)->li (pc P w) A t Q' E s :=
  λh hq=>Dt h hq λ_ _ f=>f.elim
 refine F5 rfl J (λn s hJ=>?_) n h
 show li _ A ((FY (.DictComp kx vx [⟨tg,iter,ifs,0⟩] scope pos) 0 it (.ref D) env).onRaise (λx=>do FX x env;Fw x)) _ _ s
 refine Gr ?_
 rw[compTurn_dict]
 refine bm (C4 (bm (no (turn n s hJ) λr s1 h1=>?_)))
 cases r with
 | none=>exact dL h1
 | some v =>
  refine bm (no h1 λ_ s2 h2=>bm (no h2 λ_ s3 h3=>bm (no h3 λok s4 h4=>?_)))
  cases ok with
  | false=>exact dL ⟨rfl,h4⟩
  | true=>exact bm (bm (no h4 λx s5 h5=>bm (DH (no h5 λy s6 h6=>bm (C4 (DH (no h6 λ_ s7 h7=>dL ⟨rfl,h7⟩)))))))
end
def ye (J:It)(n:Nat)(js:List Nat)(g:TG)(tc:TT)(tk tv:TE)(Q:VK)(σ:St)(H1:Hp):Prop:=∃W:Nat->Nat->List (Key×V)->Hp->Prop,(∃m,W 0 m [] H1)/\∀i m ys H,W i m ys H ->
 (J.stop i H/\ys.length<=wT/\∀l,H l=none->Q (.ref l) (upd H l (.dK ys))) ∨
 (J.go i H/\ys.length<wT/\∃N:List (Key×V)->Hp->Prop,(∀zs H',N zs H'->∃m',m'<m/\W (i+1) m' zs H')/\∀x H',J.yld i H x H'->g x (bst n σ js) H' λσ2 H2=>σ2.drop n=capt σ js/\tc σ2 H2 λb H3 =>
  if b=true then tk σ2 H3 λkv H4=>tv σ2 H4 λv H5=>∃k,kv=kV k/\N (putK ys k v) H5 else N ys H3)
def nE (n:Nat)(js:List Nat)(wi:TI)(g:TG)(tc:TT)(tk tv:TE):TE:=λσ H Q=>wi σ H λJ H1=>ye J n js g tc tk tv Q σ H1
section
variable {X:Cx}
theorem kS {kx vx tg iter:Expr}{ifs:List Expr}{scope:DF}{pos:Pos}{own:List Str}{js:List Nat}{g:TG}{tc:TT}{tk tv:TE}{Q:VK}{pins:List (Addr×Obj)}{σ:St}{s2:ca}{itv:bn}{E:bn->ca->Prop}
  {RR:bn->Addr->E1->ca->Prop} (hc:X.calm=true) (B:Blk X scope own js) (hg:∀s H C fp,(own++capN X.N js).Nodup->PG (blk X scope (own++capN X.N js) s H C fp) tg g) (ht:∀s H C fp,PTs (blk X scope (own++capN X.N js) s H C fp) ifs tc)
  (hk:∀s H C fp,PE (blk X scope (own++capN X.N js) s H C fp) kx tk) (hv:∀s H C fp,PE (blk X scope (own++capN X.N js) s H C fp) vx tv)
  (h:PIE X pins σ tg (λJ H1=>ye J own.length js g tc tk tv Q σ H1) itv s2)
  (hR:∀C acc s',vX X pins σ Q C acc s'->RR acc C (.ok .next) s') :
  li (pc X.prog X.w) X.A newDict (λacc s3=>li (pc X.prog X.w) X.A (Gv scope X.env.globals (cS scope X.env) [] X.env.qual none .none (some X.env)) (λcenv s4 =>
   CY (pc X.prog X.w) X.A (.compStart (.DictComp kx vx [⟨tg,iter,ifs,0⟩] scope pos) 0 itv acc {cenv with scope:=GD scope X.env}) (RR acc cenv.locals) s4) E s3) E s2:=by
 obtain⟨it,fp,tn,J,H2,rfl,I2,T,st2,f2,W,⟨m0,w0⟩,turn⟩:=h
 refine Ds (Fj B.nocell (by intro y hy;simp at hy) (λh1 hns1 hsb1=>?_) B.kind)
 have hnew:(s2.heap.push {cls:=.type "dict",dict:=none,data:=.dict #[]}).DictOf (bG X.prog X.w) s2.heap.objs.size []:=Ia s2.heap
 generalize hPu:s2.heap.push {cls:=.type "dict",dict:=none,data:=.dict #[]}=Pu at hns1 hsb1 hnew ⊢
 dsimp only at hns1 hsb1 ⊢
 have hDC:Pu.objs.size=s2.heap.objs.size+1:=by rw[<- hPu,CI]
 have hbig:=I2.big
 generalize hD:s2.heap.objs.size=D at hDC hnew hbig ⊢
 generalize hC:Pu.objs.size=C at hns1 hsb1 hDC ⊢
 have ltDC:D<C:=by rw[hDC];exact DB D
 have neDC:D≠C:=ww ltDC
 have keep1:∀b o,s2.heap.get? b=some o->h1.get? b=some o:=λb o e=>by
  have hb:b<D:=by rw[<- hD];exact lc e
  have hb2:b≠C:=ww (DO hb ltDC)
  refine(hsb1.2 b hb2).trans (db _ ?_)
  rw[<- hPu]
  exact db _ e
 have gD1:h1.DictOf (bG X.prog X.w) D []:=hnew.at λo e=>(hsb1.2 D neDC).trans (db _ e)
 have szD:s2.heap.objs.size<=D:=Fs hD
 have szC:s2.heap.objs.size<=C:=xz szD (CN ltDC)
 have old:∀ {b:Addr},b<s2.heap.objs.size->b≠D/\b≠C:=λhb=>⟨ww (zn hb szD),ww (zn hb szC)⟩
 have fpo:∀b∈fp,∃o,s2.heap.get? b=some o:=λb hb=>let ⟨o,e,_⟩:=T.obj 0 _ st2 b hb;⟨o,e⟩
 have fpD:∀b∈fp,b≠D/\b≠C:=λb hb=>by
  obtain⟨o,e⟩:=fpo b hb
  exact old (lc e)
 have clD:∀x d,X.env.cells.lookup x=some d->d≠D/\d≠C:=λx d e=>by
  obtain⟨v,o,ho,_⟩:=I2.cell x d e
  exact old (lc ho)
 have pinD:∀p∈X.pn++pins,p.1≠D/\p.1≠C:=λp hp=>by
  exact old (lc (I2.pin p hp).1)
 have locD:D≠X.env.locals/\C≠X.env.locals:=by
  exact⟨(old I2.lt).1.symm,(old I2.lt).2.symm⟩
 let Y:=blk X scope (own++capN X.N js) s2 H2 C fp
 have IB:Inv Y [] (bst own.length σ js) H2 {s2 with heap:=h1,toks:=s2.toks+([]:List (Str×bn)).length}:=nr B I2 f2 fpo szC hns1 keep1
 have fpB:∀ {H':Hp} {pl:List (Addr×Obj)},(∀b∈fp,H' b=none)->(∀p∈pl,p.1=D)->∀b∈fp,FpOk Y pl H' b:=λ{H' pl} hn hp b hb=>by
  obtain⟨f0,f1,f3,f4,f5,f6⟩:=f2 b hb
  refine⟨hn b hb,(fpD b hb).2,λz=>?_,.inl hb,λx c e=>f5 x c (cn e),λp q=>?_⟩
  ·rcases sK.mp (I2.stkSub b z)with z | z
   ·exact f1 z
   ·exact f3 z
  ·have q':p∈pl:=by simpa [Y,blk] using q
   rw[hp p q']
   exact(fpD b hb).1.symm
 have clB:∀x d,Y.env.cells.lookup x=some d->d≠D:=λx d e=>(clD x d (cn e)).1
 have notFs:D∉Y.fs:=λz=>by
  obtain⟨_,o,ho,_⟩:=IB.ok.funs.mem z
  exact(old (lc (show s2.heap.get? D=some o from ho))).1 rfl
 have loop:∀s3:ca,s3={s2 with heap:=h1,toks:=s2.toks+([]:List (Str×bn)).length} ->
   CY (pc X.prog X.w) X.A (.compLoop (.DictComp kx vx [⟨tg,iter,ifs,0⟩] scope pos) 0 (.ref it) (.ref D) (Ik scope (cS scope X.env) C X.env)) (RR (.ref D) C) s3:=by
  rintro s3 rfl
  refine oR (λn s'=>∃(i:Nat) (ys:List (Key×V)) (vs:List (Key×bn)) (H':Hp),Inv Y [] (bst own.length σ js) H' s'/\tn i s'.heap/\(∀b∈fp,H' b=none)/\H' D=none/\KV ys vs /\
   s'.heap.DictOf (bG X.prog X.w) D vs/\W i n ys H') ?_ m0 ⟨0,[],[],H2,IB,T.keep 0 _ _ st2 (λb hb o e=>keep1 b o e),λb hb=>(f2 b hb).1,I2.hok.fresh szD,.nil,gD1,w0⟩
  rintro n s3 ⟨i,ys,vs,H3,I3,st3,fr3,hD3,r3,g3,w3⟩
  obtain⟨od,ho3,hdd⟩:=Ha.mp g3
  have dat3:∀ {h:Heap},h.get? D=some od->h.DictOf (bG X.prog X.w) D vs:=λe=>Ha.mpr ⟨od,e,hdd⟩
  have ncell:∀v,od.data ≠ .cell v:=λv z=>by
   obtain⟨o,es,ep,ho,hcl,hda,_⟩:=g3
   rw[ho3]at ho;cases ho;rw[hda]at z;cases z
  have I3p:Inv Y [(D,od)] (bst own.length σ js) H3 s3:=I3.pins_of λp hp=>by
   have e:p=(D,od):=by simpa using hp
   subst e
   exact⟨ho3,hD3,neDC,notFs,ncell⟩
  have f3:∀b∈fp,FpOk Y [(D,od)] H3 b:=fpB fr3 λp hp=>by
   have e:p=(D,od):=by simpa using hp
   rw[e]
  rcases turn i n ys H3 w3 with⟨stop,hz,qn⟩ | ⟨go,hz,N,hN,step⟩
  ·refine thn (T.done Y rfl rfl rfl hc i _ s3 _ H3 (λ_ _=>False) I3p f3 st3 stop) λr s4 ⟨hr,I4⟩=>?_
   subst hr
   refine hR C _ s4 ?_
   have g4:=(I4.pin (D,od) (by simp[Y,blk])).1
   obtain⟨m,hn4,_⟩:=id I4.loc
   have un:Un (frs X.stack) fp H2 H3 s2.heap s4.heap:=I4.base
   have I5:Inv X pins σ H3 s4:=I2.call' I4.os un I4.hok I4.bare λb hb=>let ⟨_,b1,_,b3,b4,b5⟩:=f2 b hb;⟨b3,b1,b4,b5⟩
   have I6:=I5.trackO (p:=D) (o:=.dK ys) (I2.fpOk szD hD3) (oN hz (beq_eq_false_iff_ne.mpr (Dq (ww hbig))) r3 (dat3 g4))
   refine⟨D,_,m,rfl,hn4,I6,?_,xz I2.sz szC,locD.2,λx d e=>(clD x d e).2,λp hp=>(pinD p hp).2,qn D hD3⟩
   rw[aQ (Dq neDC)]
   exact I4.free
  ·refine thn (T.item Y rfl rfl rfl hc i _ s3 _ H3 (λ_ _=>False) I3p f3 st3 go) λr s4 ⟨u,hr,h4⟩=>?_
   subst hr
   refine thn h4 λ_ s5 ⟨x,H5,I5,r5,y5,st5,fr5⟩=>?_
   have f5:∀b∈fp,FpOk Y [(D,od)] H5 b:=λb hb=>⟨fr5 b hb,(f3 b hb).2⟩
   have I5':=I5.pinned f5 (T.obj _ _ st5)
   refine thn (hg s2 H2 C fp B.nd _ s5 _ H5 x u _ I5' r5 (step x H5 y5)) λ_ s6 ⟨σ6,H6,I6,d6,q6⟩=>?_
   refine thn (ht s2 H2 C fp _ s6 σ6 H6 _ I6 q6) λok s7 ⟨H7,I7,q7⟩=>?_
   have after:∀ {s8:ca} {H8:Hp},Inv Y ([(D,od)]++fW fp s5.heap) σ6 H8 s8 ->
     s8.heap.get? D=some od/\H8 D=none/\tn (i+1) s8.heap/\(∀b∈fp,H8 b=none)/\Inv Y [] (bst own.length σ js) H8 s8:=λ{s8 H8} I8=>by
    have p8:=I8.pin (D,od) (by simp[Y,blk])
    refine⟨p8.1,p8.2.1,T.keep _ _ _ st5 λb hb o e=>(I8.pin (b,o) (im _ (im _ (bX hb e)))).1,λb hb=>?_,?_⟩
    ·obtain⟨o,e,_⟩:=T.obj _ _ st5 b hb
     exact(I8.pin (b,o) (im _ (im _ (bX hb e)))).2.1
    ·refine(I8.pins_of (pins':=[]) λp hp=>absurd hp (by simp[Y,blk])).weak ?_ λj v e=>?_
     ·rw[I8.len,fQ]
      show _=(own++capN X.N js).length
      unfold capN
      simp
     ·rcases B7 j own.length with z | z
      ·exfalso
       unfold bst at e
       rw[BY (by simpa using z),CP]at e
       split at e <;> cases e
      ·unfold bst at e
       rw[Ci (by simpa using z),Dd,<- d6,Co]at e
       rw[<- e]
       congr 1
       omega
   cases ok with
   | false =>
    rw[if_neg Ca]at q7 ⊢
    obtain⟨m',hm,w7⟩:=hN _ _ q7
    obtain⟨a1,a2,a3,a4,a5⟩:=after I7
    exact⟨m',hm,i+1,ys,vs,H7,a5,a3,a4,a2,r3,dat3 a1,w7⟩
   | true =>
    rw[if_pos rfl]at q7 ⊢
    refine thn (hk s2 H2 C fp _ s7 σ6 H7 _ I7 q7) λu8 s8 ⟨v8,H8,I8,r8,n8⟩=>?_
    refine thn (hv s2 H2 C fp _ s8 σ6 H8 _ I8 n8) λu9 s9 ⟨v9,H9,I9,r9,kk,ek,n9⟩=>?_
    subst ek
    obtain⟨m',hm,w9⟩:=hN _ _ n9
    obtain⟨a1,a2,a3,a4,a5⟩:=after I9
    have hvz:vs.length<=wT:=by rw[<- r3.length];exact CN hz
    refine wpAny_dictSet_pairs (hsz:=hvz) (ox r8) (dat3 a1) λh' dd' hs'=>?_
    have sb:Cw D s9.heap h':=hs'
    have I10:=(Inv.young a5 sb a2 szD neDC clB (λp hp=>absurd hp (by show p∉[]++[];simp))).tok (s9.toks+1)
    exact⟨m',hm,i+1,putK ys kk v9,Hz vs kk u9,H9,I10,T.keep _ _ _ a3 (λb hb o e=>(sb.2 b (fpD b hb).1).trans e),a4,a2,r3.put kk r9,dd',w9⟩
 exact codeAny_compStart_dict (loop _ rfl) (T.self _ 0 _ _ _ (T.keep 0 _ _ st2 λb hb o e=>keep1 b o e) (loop _ rfl))
theorem rq {kx vx tg iter:Expr}{ifs:List Expr}{scope:DF}{pos pos' spos:Pos}{i:Nat}{x:Str}(own:List Str)(js:List Nat){wi:TI}{g:TG}{tc:TT}{tk tv:TE}(hN:X.N.Nodup)(hi:X.N[i]? = some x)(hx:Loc X.env.scope x)
  (hc:X.calm=true) (B:Blk X scope own js) (hit:PI X tg iter wi)
  (hg:∀s H C fp,(own++capN X.N js).Nodup->PG (blk X scope (own++capN X.N js) s H C fp) tg g) (ht:∀s H C fp,PTs (blk X scope (own++capN X.N js) s H C fp) ifs tc) (hk:∀s H C fp,PE (blk X scope (own++capN X.N js) s H C fp) kx tk) (hv:∀s H C fp,PE (blk X scope (own++capN X.N js) s H C fp) vx tv)
  (hf:X.fn x=true∨X.env.scope.names.lookup x=some .local:=by first | exact .inl rfl | exact .inr rfl | assumption)
  (hw:FW (.DictComp kx vx [⟨tg,iter,ifs,0⟩] scope pos) (some (.Name x pos')) spos.line X.env=pure true:=by rfl)
  (hs:∀x,C7 iter X.env x=pure x:=by intro _;rfl) :
  PS X (.Assign [.Name x pos'] (.DictComp kx vx [⟨tg,iter,ifs,0⟩] scope pos) spos) (λD σ H=>nE own.length js wi g tc tk tv σ H λv H'=>D.nx (σ.set i (some v)) H'):=by
 intro pins s σ H D I h
 have hcl:E_ scope X.env=pure (cS scope X.env):=cJ λx hx hf=>I.ok.has x.1 (B.free x hx hf)
 rw[Gf _ _ _ _ hw]
 refine bm (C4 (bm ?_))
 show li _ X.A (do let _ <- FP (.DictComp kx vx [⟨tg,iter,ifs,0⟩] scope pos) scope X.env _ newDict false (eval iter X.env) (some (Ea (.Name x pos') X.env))) _ _ s
 refine bm (thn (Q:=λ_ s'=>SP X pins D .next s') (DI (use:=some (Ea (.Name x pos') X.env)) rfl hs hcl B.kind B.names (thn (hit pins s σ H _ I h) λv s1 h1=>thn h1 λitv s2 h2=>?_)) λ_ s' q=>dL (dL q))
 refine kS (Q:=λv H'=>D.nx (σ.set i (some v)) H') (RR:=λacc C=>Hf (pc X.prog X.w) X.A X.xe (some (Ea (.Name x pos') X.env)) (λ_ s'=>SP X pins D .next s') acc C) hc B hg ht hk hv h2 λC acc s' hb=>?_
 obtain⟨l,H',m,rfl,hn,I',c1,c2,c3,c4,c5,q⟩:=hb
 show li _ X.A (Ea (.Name x pos') X.env (.ref l)) _ _ _
 refine FN (ip (v:=.ref l) I' hN hi hx rfl (λs3 I3 ⟨a,sb,ha⟩=>?_) hf)
 have ne:C≠a:=by
  rcases ha with z | z
  ·rw[z];exact c3
  ·exact(c4 x a z).symm
 exact⟨m,hn.sameBut sb ne,λh' hs'=>⟨_,H',I3.young hs' c1 c2 c3 c4 c5,q⟩⟩
end
def fZ (n:Nat)(js:List Nat)(c:En->Prop)(g:AG)(tc:AT)(ak av:AE)(q:List (Key×D)->En->Prop):List D->List (Key×D)->En->Prop
 | [],acc,ρ=>c ρ/\q acc ρ
 | d::ds,acc,ρ=>c ρ/\g d (blkE n js ρ) λρ1=>tc ρ1 λb ρ2=>if b=true then ak ρ2 λrk ρ3=>av ρ3 λr ρ4=>sto [r.frz] ρ4 λes ρ5=>(match rk,es with
   | .d kd,[e]=>(match dKey kd with
    | some k=>fZ n js c g tc ak av q ds (putD acc k e) (back ρ (js.map R.o) (ρ5.drop n))
    | none=>False)
   | _,_=>False)else fZ n js c g tc ak av q ds acc (back ρ (js.map R.o) (ρ2.drop n))
def Bh (n:Nat)(js:List Nat)(i:AI)(g:AG)(tc:AT)(ak av:AE):AE:=λρ q=>i ρ λds c ρ1=>ds.length<=1000000/\fZ n js c g tc ak av (λacc ρ2=>q (.n (.dk acc)) ρ2) ds [] ρ1
theorem gZ {κ:Type} [DecidableEq κ](kvs:List (κ×D))(k:κ)(d:D):(putD kvs k d).length<=kvs.length+1:=by
 unfold putD
 split
 ·simp
 ·simp
section
variable {K:bi}
theorem jY {n:Nat}{js:List Nat}{wi:TI}{g:TG}{tc:TT}{tk tv:TE}{ai:AI}{ag:AG}{atc:AT}{ak av:AE}(hi:TIok K (λ_=>true) wi ai)(hg:TGok K (λj=>decide (n<=j)) g ag)(hc:TTok K tc atc)(hk:TEok K tk ak)(hv:TEok K tv av)
  (hd:dis (js.map R.o)=true:=by rfl):TEok K (nE n js wi g tc tk tv) (Bh n js ai ag atc ak av):=by
 intro F σ ρ H q Q r h k
 refine hi F σ ρ H _ _ r h λds c ρ1 J H1 h1 r1 k1 wk=>?_
 obtain⟨hz,h1⟩:=h1
 have hd':dis (blkR n js)=true:=by rw[iV];exact hd
 refine⟨λi m ys H'=>∃ ρ' acc,m=ds.length - i/\i<=ds.length/\Rel K F σ ρ' H'/\Kp σ ρ1 ρ' H1 H'/\ys.map B1=acc.map B1/\RepDs K (hid H' (hs F σ ρ')) (ys.map Cm) (acc.map Cm)/\acc.length<=i/\fZ n js c ag atc ak av (λacc ρ2=>q (.n (.dk acc)) ρ2) (ds.drop i) acc ρ',⟨ds.length,ρ1,[],rfl,B0 _,r1,.refl,rfl,.nil,B0 _,h1⟩,?_⟩
 rintro i m ys H' ⟨ρ',acc,rfl,hl,r',k',rk,rd,al,h'⟩
 have w:c ρ'->WkAt K (hs F σ ρ') H' J ds:=λhc=>wk σ ρ' H' k'.vis r'.sl (λ_ _ _ e=>e) (λa z=>sV r' z) hc
 have yl:ys.length=acc.length:=iK rk
 rcases B7 i ds.length with lt | ge
 ·right
  rw[Cf lt]at h'
  unfold fZ at h'
  obtain⟨hcc,h'⟩:=h'
  obtain⟨go,yld⟩:=(w hcc i).1 ds[i] (bv lt)
  refine⟨go,lE (by omega),λzs H2=>∃ ρ2 acc2,Rel K F σ ρ2 H2/\Kp σ ρ1 ρ2 H1 H2/\zs.map B1=acc2.map B1/\RepDs K (hid H2 (hs F σ ρ2)) (zs.map Cm) (acc2.map Cm)/\acc2.length<=i+1/\fZ n js c ag atc ak av (λacc ρ2=>q (.n (.dk acc)) ρ2) (ds.drop (i+1)) acc2 ρ2,
   λzs H2 ⟨ρ2,acc2,a1,a2,a3,a3',a4,a5⟩=>⟨ds.length - (i+1),by omega,ρ2,acc2,rfl,lt,a1,a2,a3,a3',a4,a5⟩,λx H2 hy=>?_⟩
  obtain⟨sm,rx⟩:=yld x H2 hy
  have r0':=r'
  have k':Kp σ ρ1 ρ' H1 H2:=k'.trans ⟨λa o e _=>sm a o e,λ_ h=>h⟩
  have rd:RepDs K (hid H2 (hs F σ ρ')) (ys.map Cm) (acc.map Cm):=rd.same (br λa o e n=>⟨sm a o e,n⟩)
  have r':=r0'.grow sm
  have src:=jT (K:=K) (F:=F) (σ:=σ) (ρ:=ρ') (H:=H2) n js
  have rb:=r'.sub src hd'
  have hs2:=nF r' src
  rw[bu]at rb hs2
  have pin:∀i a,(dQ F σ ρ' H2 (bst n σ js) (blkE n js ρ')).pin i a->decide (n<=i)=true:=λi a h=>by
   rcases h with h | h
   ·exact decide_eq_true (jU h.1)
   ·exact h.elim
  have hlen:(bst n σ js).length=n+js.length:=fQ
  have ret:∀ σ2 ρ2 H3,Rel K (dQ F σ ρ' H2 (bst n σ js) (blkE n js ρ')) σ2 ρ2 H3->σ2.length=(bst n σ js).length->σ2.drop n=capt σ js->(∀i,(gt ρ2 i).own=true->(gt (blkE n js ρ') i).own=true) ->
    Rel K F σ (back ρ' (js.map R.o) (ρ2.drop n)) H3/\Kp σ ρ' (back ρ' (js.map R.o) (ρ2.drop n)) H2 H3/\Same (hid H3 (hs (dQ F σ ρ' H2 (bst n σ js) (blkE n js ρ')) σ2 ρ2)) (hid H3 (hs F σ (back ρ' (js.map R.o) (ρ2.drop n)))):=λσ2 ρ2 H3 rr hlen2 hdrop hown=>by
   obtain⟨f1,f2⟩:=rr.forget (n:=n) (by omega) λi a h=>of_decide_eq_true (pin i a h)
   rw[hdrop]at f1 f2
   have f1':Rel K (dQ F σ ρ' H2 (bst n σ js) ((blkR n js).map (c0 ρ'))) (bst n σ js) (o0 n .un++ρ2.drop n) H3:=by rw[bu];exact f1
   have bk:=r'.back src hd' f1' λi hi=>by
    rw[bu]
    rw[kN]at hi
    split at hi
    ·cases hi
    ·rename_i hni
     rw[ia,show n+(i - n)=i by omega]at hi
     exact hown i hi
   have ln:(o0 n Sv.un++ρ2.drop n).length=n+js.length:=by
    have:=rr.len
    simp;omega
   rw[iW js ρ' n _ ln,D0 (by simp),bu]at bk
   exact⟨bk.1,bk.2.1,f2.trans bk.2.2⟩
  refine hg _ (bst n σ js) (blkE n js ρ') H2 x _ _ _ pin rb (by rw[hs2];exact rx) h' λσ2 ρ2 h2 r2 l2 p2 o2=>?_
  have hdrop:σ2.drop n=capt σ js:=by
   have:σ2.drop n=(bst n σ js).drop n:=by
    apply DK
    intro i
    rw[Co,Co]
    exact p2 (n+i) (decide_eq_true (by omega))
   rw[this]
   unfold bst
   rw[D0 (by simp)]
  refine⟨hdrop,hc _ σ2 ρ2 H2 _ _ r2 h2 λb ρ3 H3 h3 r3 k3=>?_⟩
  cases b with
  | false =>
   obtain⟨b1,b2,_⟩:=ret σ2 ρ3 H3 r3 l2 hdrop λi hi=>(o2 i (k3.sb i hi)).1
   exact⟨_,acc,b1,k'.trans b2,rk,rd.same b2.vis,by omega,h3⟩
  | true =>
   refine hk _ σ2 ρ3 H3 _ _ r3 h3 λr4 ρ4 v4 H4 h4 o4=>?_
   obtain⟨r4',k4,i4⟩:=o4.inF
   refine hv _ σ2 ρ4 H4 _ _ r4' h4 λr6 ρ6 v6 H6 h6 o6=>?_
   obtain⟨r6',k6,i6⟩:=o6.inF
   obtain⟨d,ρ5,h5,r5,k5,rv⟩:=pF r6' i6 h6
   split at h5
   ·rename_i kd e0 ee
    cases ee
    split at h5
    ·rename_i kk ek
     obtain⟨b1,b2,b3⟩:=ret σ2 ρ5 H6 r5 l2 hdrop λi hi=>(o2 i (k3.sb i (k4.sb i (k6.sb i (k5.sb i hi))))).1
     obtain⟨p1,p2⟩:=mB kk (rv.same b3) rk (rd.same b2.vis)
     exact⟨kk,u3 i4 ek,_,putD acc kk d,b1,k'.trans b2,p1,p2,by have:=gZ acc kk d;omega,h5⟩
    ·exact h5.elim
   ·exact h5.elim
 ·left
  rw[CH ge]at h'
  unfold fZ at h'
  obtain⟨hcc,h'⟩:=h'
  refine⟨(w hcc i).2 ge,small (by omega),λl hl'=>?_⟩
  exact k (.n (.dk acc)) ρ' _ _ h' ⟨H',l,_,r',k1.trans k',rfl,⟨l,ys,rfl,aR,rk,rd⟩,hl',rfl,rfl⟩
theorem nH {pr:Nat->Bool}{ae:AE}{i n:Nat}{js:List Nat}{wi:TI}{g:TG}{tc:TT}{tk tv:TE}(h:TEok K (nE n js wi g tc tk tv) ae)(hi:pr i=false):TSok K pr (λD σ H=>nE n js wi g tc tk tv σ H λv H'=>D.nx (σ.set i (some v)) H') (aSet i ae):=q0 hi h
end
theorem jo {n:Nat}{js:List Nat}{c:En->Prop}{g:AG}{tc:AT}{ak av:AE}{q:List (Key×D)->En->Prop}(I:Nat->List (Key×D)->En->Prop){ds:List D}(hc:∀k acc ρ,k<=ds.length->I k acc ρ->c ρ)
  (hs:∀(k:Nat) d acc ρ (N:List (Key×D)->En->Prop),ds[k]? = some d->I k acc ρ->(∀acc' ρ',I (k+1) acc' ρ'->N acc' ρ') ->
   g d (blkE n js ρ) λρ1=>tc ρ1 λb ρ2=>if b=true then ak ρ2 λrk ρ3=>av ρ3 λr ρ4=>sto [r.frz] ρ4 λes ρ5=>(match rk,es with
   | .d kd,[e]=>(match dKey kd with
    | some k=>N (putD acc k e) (back ρ (js.map R.o) (ρ5.drop n))
    | none=>False)
   | _,_=>False)else N acc (back ρ (js.map R.o) (ρ2.drop n)))
  (hd:∀acc ρ,I ds.length acc ρ->q acc ρ):∀ ρ,I 0 [] ρ->fZ n js c g tc ak av q ds [] ρ:=by
 have go:∀(es:List D) (k:Nat),ds.drop k=es->k<=ds.length->∀acc ρ,I k acc ρ->fZ n js c g tc ak av q es acc ρ:=by
  intro es
  induction es with
  | nil =>
   intro k h hk acc ρ i
   have:ds.length<=k:=E6.mp h
   have:k=ds.length:=by omega
   subst this
   unfold fZ
   exact⟨hc _ acc ρ (lm _) i,hd acc ρ i⟩
  | cons d es ih =>
   intro k h hk acc ρ i
   have lt:k<ds.length:=by
    rcases B7 k ds.length with q | q
    ·exact q
    ·rw[CH q]at h;cases h
   rw[Cf lt]at h
   injection h with h1 h2
   unfold fZ
   exact⟨hc k acc ρ hk i,hs k d acc ρ (λacc' ρ'=>fZ n js c g tc ak av q es acc' ρ') (by rw[<- h1];exact bv lt) i (λacc' ρ' i'=>ih (k+1) h2 lt acc' ρ' i')⟩
 exact go ds 0 rfl (B0 _) []
def kD:Key->D
 | .inl i=>.int i
 | .inr x=>.str x
theorem AM {K:bi}{H:Hp}(k:Key):RepD K H (kV k) (kD k):=by
 cases k with
 | inl i=>unfold RepD;rfl
 | inr x=>unfold RepD;rfl
def Itk (a:Addr)(ob:Obj)(ks:List Key):It :=
 ⟨λi H=>(∃u,H a=some (.frz ob u))/\i<ks.length,λi H v H'=>H'=H/\∃k,ks[i]? = some k/\v=kV k,λi H=>(∃u,H a=some (.frz ob u))/\ks.length<=i⟩
theorem AL {P:wS}{w:B_}{k:Key}{u:bn}(h:(bG P w).is k u=true):RelV (kV k) u:=by
 rcases b_ (k:=k) (v:=u) h with⟨i,t,rfl,rfl⟩ | ⟨x,t,rfl,rfl⟩
 ·exact⟨t,rfl⟩
 ·exact⟨t,rfl⟩
theorem tH {P:wS}{w:B_}{K:bi}{tg:Expr}{it a:Addr}{ob:Obj}{ks:List Key}{kv:List (Key×bn)}{ep:Nat}(rv:ks=kv.map B1)(ne:a≠it)(hob:∀h:Heap,h.get? a=some ob->h.DictAt (bG P w) a kv ep) :
  Turn P w K tg (Itk a ob ks) [it] it (λi h=>h.IsKeyIter it a i kv.length ep) where
 mem:=by simp
 obj:=λi h st b hb=>by
  obtain⟨o1,e1,c1,d1⟩:=st
  rw[sn.mp hb]
  exact⟨o1,e1,λv q=>by rw[d1]at q;cases q⟩
 keep:=λi h h' st k=>st.at λo q=>k it (by simp) o q
 item:=by
  intro X hP hw hK hc i pins s σ H E I hf st hg
  subst hP hw hK
  obtain⟨⟨u,hu⟩,hi⟩:=hg
  have ha:s.heap.get? a=some ob:=(show cL X.prog X.w H s.heap a (.frz ob u)from I.hok a _ hu).1
  have hl:ks.length=kv.length:=by rw[rv,f8]
  obtain⟨⟨kk,x⟩,hx⟩:∃p,kv[i]? = some p:=⟨kv[i],bv (by omega)⟩
  have hx':ks[i]? = some kk:=by rw[rv,wv,hx];rfl
  refine wpAny_pyNext_dict_item st (hob _ ha) hx λkey h' hkey hit' hs'=>?_
  obtain⟨o1,e1,c1,d1⟩:=id hit'
  refine⟨_,rfl,vd e1 c1 d1 (by decide) ?_⟩
  refine⟨kV kk,H,I.turns (ch:=[it]) (t':=s.toks) (λb o hb q=>hs'.extBut b o (λz=>hb (by simp[z])) q) hf,AL hkey,⟨rfl,kk,hx',rfl⟩,hit',λb hb=>(hf b hb).1⟩
 done:=by
  intro X hP hw hK hc i pins s σ H E I hf st hg
  subst hP hw hK
  obtain⟨⟨u,hu⟩,hi⟩:=hg
  have ha:s.heap.get? a=some ob:=(show cL X.prog X.w H s.heap a (.frz ob u)from I.hok a _ hu).1
  have hl:ks.length=kv.length:=by rw[rv,f8]
  refine wpAny_pyNext_dict_end (I.ok.hd hc) st (hob _ ha) (by rw[Dy (by omega)]) λh' he'=>⟨rfl,I.turns (ch:=[it]) (t':=s.toks) (λb o hb q=>he' b o (λz=>hb (by simp[z])) q) hf⟩
 self:=λ_ _ _ _ _ st h=>wpAny_pyIter_keyiter st h
def AY (td:TE):TI:=λσ H R=>td σ H λx H1=>∃a kvs,x = .ref a/\H1 a=some (.dK kvs)/\∀ob,R (Itk a ob (kvs.map B1)) (upd H1 a (.frz ob (.dK kvs)))
theorem zb {kvs:List (Key×V)}{vs:List (Key×bn)}(h:KV kvs vs):kvs.map B1=vs.map B1:=by
 induction h with
 | nil=>rfl
 | cons a _ ih=>simp only[wE,ih,a.1]
theorem yF {X:Cx}{tg o:Expr}{td:TE}(ho:PE X o td):PI X tg o (AY td):=by
 intro pins s σ H R I h
 refine thn (ho pins s σ H _ I h) λv s1 ⟨x,H1,I1,r1,a,kvs,ex,ha,q1⟩=>?_
 subst ex
 obtain rfl:v=Value.ref a:=r1
 obtain⟨z,hd,vs,rel,dd⟩:=xq I1.hok ha
 obtain⟨ep,da⟩:=dd.dictAt
 obtain⟨ob,es,eo,r⟩:=id da
 refine wpAny_pyIter_dict (knd:=bG X.prog X.w) (kvs:=vs) (ep:=ep) hd da ?_
 have I2:Inv X pins σ H1 {s1 with heap:=s1.heap.push {cls:=.type "dict_keyiterator",data:=.fields #[.ref a,.int 0 0,.int vs.length 0,.int ep 0]}}:=I1.kept (t':=s1.toks) λb o e=>db _ e
 have ha2:(s1.heap.push {cls:=.type "dict_keyiterator",data:=.fields #[.ref a,.int 0 0,.int vs.length 0,.int ep 0]}).get? a=some ob:=db _ eo
 have I3:=I2.write (x:=a) (e:=a) (o:=.frz ob (.dK kvs)) (t':=s1.toks) (h':=s1.heap.push {cls:=.type "dict_keyiterator",data:=.fields #[.ref a,.int 0 0,.int vs.length 0,.int ep 0]}) (by rw[ha];exact True.intro) (.inl rfl) (λb q _ e=>e) ⟨ob,ha2⟩ ⟨ha2,z,hd,vs,rel,⟨ob,es,ep,ha2,r⟩⟩
 have lt:a<s1.heap.objs.size:=lc eo
 have ne:a≠s1.heap.objs.size:=ww lt
 have T:Turn X.prog X.w X.K tg (Itk a ob (kvs.map B1)) [s1.heap.objs.size] s1.heap.objs.size (λi h=>h.IsKeyIter s1.heap.objs.size a i vs.length ep) :=
  tH (zb rel) ne (λh e=>(⟨ob,es,e,r⟩:h.DictAt (bG X.prog X.w) a vs ep))
 refine⟨_,_,_,_,_,rfl,I3,T,⟨_,wn _ rfl,rfl,rfl⟩,λb hb=>?_,q1 ob⟩
 rw[sn.mp hb]
 refine I1.fpOk (lm _) ?_
 rw[aQ ne.symm]
 exact I1.hok.fresh (lm _)
section
variable {K:bi}{F:Fr}{σ:St}{ρ:En}{H:Hp}
theorem Rel.giveUp (r:Rel K F σ ρ H){i:Nat}{a:Addr}{o:HO}(ho:(gt ρ i).own=true)(el:σ[i]? = some (some (.ref a))):Rel K F σ (pt ρ i .un) (upd H a o)/\Kp σ ρ (pt ρ i .un) H (upd H a o)/\¬hs F σ (pt ρ i .un) a:=by
 have lt:=kh ho
 have own':∀j,(gt (pt ρ i .un) j).own=true->i≠j/\(gt ρ j).own=true:=λj h=>gq rfl h
 have sub:∀b,bO σ (pt ρ i .un) b->bO σ ρ b/\b≠a:=λb ⟨j,hj,e⟩=>by
  obtain⟨ij,hj⟩:=own' j hj
  exact⟨⟨j,hj,e⟩,λz=>ij (r.nd i j a ho hj el (z▸e))⟩
 have hso:bO σ ρ a:=⟨i,ho,el⟩
 have vis:Same (hid H (hs F σ ρ)) (hid (upd H a o) (hs F σ (pt ρ i .un))):=br λb u e n=>by
  have al:b≠a:=λz=>n (.inr (z▸hso))
  exact⟨by rw[aQ al];exact e,λz=>n (z.imp id λz=>(sub b z).1)⟩
 have vl:¬hs F σ (pt ρ i .un) a:=λz=>by
  rcases z with z | z
  ·exact r.zo a hso z
  ·exact(sub a z).2 rfl
 have up:∀ {b},H b≠none->(upd H a o) b≠none:=λ{b} h e=>by
  by_cases al:b=a
  ·subst al;rw[aR]at e;cases e
  ·rw[aQ al]at e;exact h e
 refine⟨⟨by rw[hV,r.len],λb u e n=>?_,λb z=>xY (λq=>r.zo a hso (q▸z)) (r.zl b z),λb h=>r.zo b (sub b h).1,λj b hj e=>r.ow j b (own' j hj).2 e,r.mi,r.ml,λb z=>up (r.ma b z),λj k b hj hk ej ek=>r.nd j k b (own' j hj).2 (own' k hk).2 ej ek,λj=>?_⟩,⟨λb u e n=>?_,λj h=>(own' j h).2⟩,vl⟩
 ·have al:b≠a:=λz=>by
   subst z
   rcases r.ow i _ ho el with⟨_,q⟩ | q
   ·exact n q
   ·rw[e]at q;cases q
  rw[aQ al];exact r.fr b u e n
 ·by_cases ij:i=j
  ·subst ij
   rw[mV ρ i _ lt]
   trivial
  ·rw[ck ρ i j _ ij]
   refine(r.sl j).keep vis λb u ho' e h=>?_
   have al:b≠a:=λz=>ij (r.nd i j a ho ho' el (z▸e))
   rw[aQ al];exact h
 ·have al:b≠a:=λz=>n (z▸hso)
  rw[aQ al];exact e
end
section
variable {K:bi}{td:TE}{ad:AE}
def BO (a:AE):AI:=λρ q=>a ρ λr ρ1=>match r with
 | .o i=>(match gt ρ1 i with | .dk kvs=>q (kvs.map λp=>kD p.1) (λ_=>True) (pt ρ1 i .un) | _=>False)
 | _=>False
theorem tR {pin:Nat->Bool}(h:TEok K td ad):TIok K pin (AY td) (BO ad):=by
 intro F σ ρ H q Rk r ha k
 refine h F σ ρ H _ _ r ha λr1 ρ1 x H1 h1 o1=>?_
 obtain⟨r1',k1,i1⟩:=o1.inF
 split at h1
 ·rename_i j
  have ej:σ[j]? = some (some x):=i1
  split at h1
  ·rename_i kvs hg
   obtain⟨t,ks,rfl,ht,e1,e2⟩:=tf r1' ej hg
   refine⟨t,ks,rfl,ht,λob=>?_⟩
   obtain⟨rg,kg,vg⟩:=r1'.giveUp (i:=j) (a:=t) (o:=.frz ob (.dK ks)) (by rw[hg];rfl) ej
   refine k _ _ _ _ _ h1 rg (k1.trans kg) λσ2 ρ2 H2 sm _ _ _ _=>?_
   have h2:H2 t=some (.frz ob (.dK ks)):=(g7.mp (sm _ _ (gB vg aR))).2
   have el:(kvs.map λp=>kD p.1)=(ks.map B1).map kD:=by rw[e1,B3];rfl
   intro i
   rw[el]
   refine⟨λd hd=>?_,λhi=>⟨⟨_,h2⟩,by simpa using hi⟩⟩
   rw[wv]at hd
   cases hk:(ks.map B1)[i]? with
   | none=>rw[hk]at hd;cases hd
   | some kk =>
    rw[hk]at hd
    cases hd
    refine⟨⟨⟨_,h2⟩,(kt.mp hk).1⟩,λy H' hy=>?_⟩
    obtain⟨rfl,k',hk',rfl⟩:=hy
    rw[hk]at hk';cases hk'
    exact⟨Same.refl _,AM kk⟩
  ·exact h1.elim
 ·exact h1.elim
end
end L2
namespace L2
theorem oG {R:List Nat}{i:Nat}(h:i<R.length):R.getD i 0=R[i]:=by rw[ga,bv h];rfl
theorem A0 {R:List Nat}{i:Nat}(h:i<R.length):R.getD i 0∈R:=by rw[oG h];exact DQ h
theorem mY {A B:List Nat}{i:Nat}(h:i<A.length):(A++B).getD i 0=A.getD i 0:=by
 simp only[ga]
 rw[BY h]
theorem zk {A:List Nat}{x:Nat}:(A++[x]).getD A.length 0=x:=by simp
def fst1 (R:List Nat)(t:Nat):Nat:=R.idxOf (R.getD t 0)
theorem vm {R:List Nat}{t:Nat}(h:t<R.length):fst1 R t<R.length:=List.idxOf_lt_length_iff.mpr (A0 h)
theorem rO {R:List Nat}{t:Nat}(h:t<R.length):R.getD (fst1 R t) 0=R.getD t 0:=by
 rw[oG (vm h)]
 exact Go (vm h)
theorem vn {R:List Nat}{t:Nat}(h:t<R.length):fst1 R t<=t:=by
 rcases B7 t (fst1 R t)with q | q
 ·have:=List.not_of_lt_findIdx (p:=λx=>x==R.getD t 0) (xs:=R) (i:=t) q
  have e:(R[t]==R.getD t 0)=true:=by rw[oG h];simp
  exact absurd (this.symm.trans e) Ca
 ·exact q
def fL (m:Nat)(f:Nat->Nat):List (Nat×Nat)->Nat->(Nat->Bool)->Nat->Bool
 | [],_,M,t=>M t
 | p::r,k,M,t=>fL m f r (k+1) M t||(fL m f r (k+1) M (m+k)&&(t==f p.1||t==f p.2))
section
variable {m:Nat}{f:Nat->Nat}
theorem ot:∀ {js:List (Nat×Nat)} {k:Nat} {M:Nat->Bool} {t:Nat},M t=true->fL m f js k M t=true
 | [],_,_,_,h=>h
 | p::r,k,M,t,h=>by unfold fL;rw[ot (js:=r) h];rfl
theorem uY:∀ {js:List (Nat×Nat)} {k:Nat} {M:Nat->Bool},(∀j p,js[j]? = some p->f p.1<m+(k+j)/\f p.2<m+(k+j))->∀ {j p},js[j]? = some p->fL m f js k M (m+(k+j))=true->fL m f js k M (f p.1)=true/\fL m f js k M (f p.2)=true
 | [],_,_,_,j,p,e,_=>by simp at e
 | q::r,k,M,hlt,j,p,e,h=>by
  have h0:=hlt 0 q rfl
  rw[Kq]at h0
  have hA:fL m f r (k+1) M (m+(k+j))=true:=by
   unfold fL at h
   rw[FU,BX,FU,beq_iff_eq,beq_iff_eq]at h
   rcases h with h | ⟨_,h | h⟩
   ·exact h
   ·omega
   ·omega
  cases j with
  | zero =>
   simp only[DJ,Cv]at e
   subst e
   have hA':fL m f r (k+1) M (m+k)=true:=hA
   constructor
   ·unfold fL
    rw[hA'];simp
   ·unfold fL
    rw[hA'];simp
  | succ j =>
   have ih:=uY (js:=r) (k:=k+1) (M:=M) (λj p e=>by have:=hlt (j+1) p (by simpa using e);rw[show k+1+j=k+(j+1)by omega];exact this) (j:=j) (p:=p) (by simpa using e) (by rw[show k+1+j=k+(j+1)by omega];exact hA)
   constructor
   ·unfold fL;rw[ih.1];rfl
   ·unfold fL;rw[ih.2];rfl
end
def nkT (m:Nat)(L:Nat->Bool)(k:Nat):Nat:=((wl k).filter λj=>L (m+j)).length
def nbT (m:Nat)(L:Nat->Bool)(t:Nat):Nat:=if t<m then t else m+nkT m L (t - m)
section
variable {m:Nat}{L:Nat->Bool}
theorem ji (k:Nat):nkT m L (k+1)=nkT m L k+(if L (m+k)=true then 1 else 0):=by
 unfold nkT
 rw[DL,Fu,wP]
 congr 1
 by_cases h:L (m+k)=true
 ·rw[if_pos h];simp[GZ,h]
 ·rw[if_neg h];simp[GZ,h]
theorem uO {a b:Nat}(h:a<=b):nkT m L a<=nkT m L b:=by
 induction b with
 | zero=>rw[show a=0 by omega];exact lm _
 | succ b ih =>
  rcases B7 a (b+1)with q | q
  ·rw[ji];have:=ih (by omega);omega
  ·rw[show a=b+1 by omega];exact lm _
theorem yW (k:Nat):nkT m L k<=k:=by
 induction k with
 | zero=>exact lm _
 | succ k ih=>rw[ji];split <;> omega
theorem uQ {x y:Nat}(h:x<y)(g:x<m∨L x=true):nbT m L x<nbT m L y:=by
 unfold nbT
 by_cases hx:x<m
 ·rw[if_pos hx]
  by_cases hy:y<m
  ·rw[if_pos hy];exact h
  ·rw[if_neg hy];omega
 ·rw[if_neg hx,if_neg (by omega)]
  have hL:L (m+(x - m))=true:=by rw[show m+(x - m)=x by omega];exact g.resolve_left hx
  have e:=ji (m:=m) (L:=L) (x - m)
  rw[if_pos hL]at e
  have:=uO (m:=m) (L:=L) (show x - m+1<=y - m by omega)
  omega
theorem Au {x y:Nat}(gx:x<m∨L x=true)(gy:y<m∨L y=true)(e:nbT m L x=nbT m L y):x=y:=by
 rcases Dp x y with h | h | h
 ·have:=uQ h gx;omega
 ·exact h
 ·have:=uQ h gy;omega
theorem qd:∀ {n j:Nat},j<nkT m L n->∃k,k<n/\L (m+k)=true/\nkT m L k=j
 | 0,j,h=>by simp[nkT]at h
 | n+1,j,h=>by
  rw[ji]at h
  by_cases hL:L (m+n)=true
  ·rw[if_pos hL]at h
   rcases B7 j (nkT m L n)with q | q
   ·obtain⟨k,a,b,c⟩:=qd q
    exact⟨k,by omega,b,c⟩
   ·exact⟨n,by omega,hL,by omega⟩
  ·rw[if_neg hL]at h
   obtain⟨k,a,b,c⟩:=qd (n:=n) (j:=j) (by omega)
   exact⟨k,by omega,b,c⟩
end
def newJ (m:Nat)(f:Nat->Nat)(L:Nat->Bool)(p:Nat×Nat):Nat×Nat:=(min (nbT m L (f p.1)) (nbT m L (f p.2)),max (nbT m L (f p.1)) (nbT m L (f p.2)))
def jF (m:Nat)(f:Nat->Nat)(L:Nat->Bool)(js:List (Nat×Nat))(n:Nat):List (Nat×Nat):=(wl n).flatMap λk=>if L (m+k)=true then[newJ m f L (js.getD k (0,0))]else[]
section
variable {m:Nat}{f:Nat->Nat}{L:Nat->Bool}{js:List (Nat×Nat)}
theorem iL (n:Nat):jF m f L js (n+1)=jF m f L js n++(if L (m+n)=true then[newJ m f L (js.getD n (0,0))]else[]):=by
 unfold jF
 rw[DL,Fg]
 simp
theorem fM (n:Nat):(jF m f L js n).length=nkT m L n:=by
 induction n with
 | zero=>rfl
 | succ n ih =>
  rw[iL,wP,ih,ji]
  split <;> rfl
theorem mQ:∀ {n k:Nat},k<n->L (m+k)=true->(jF m f L js n)[nkT m L k]? = some (newJ m f L (js.getD k (0,0)))
 | 0,k,h,_=>by omega
 | n+1,k,h,hL=>by
  rw[iL]
  rcases B7 k n with q | q
  ·have e:=ji (m:=m) (L:=L) k
   rw[if_pos hL]at e
   have:=uO (m:=m) (L:=L) (show k+1<=n by omega)
   rw[BY (by rw[fM];omega)]
   exact mQ q hL
  ·have:k=n:=by omega
   subst this
   rw[if_pos hL,Ci (by rw[fM];exact lm _),fM,Iv]
   rfl
end
theorem d7:∀ {js:List (Nat×Nat)} {rows:List Nat} {i:Nat},i<rows.length->(js.foldl aK rows).getD i 0=rows.getD i 0
 | [],_,_,_=>rfl
 | p::r,rows,i,h=>by
  rw[Eg,d7 (by rw[cq];omega)]
  exact mY h
theorem vq:∀ {js:List (Nat×Nat)} {rows:List Nat} {k:Nat} {p:Nat×Nat},okIx rows.length js->js[k]? = some p ->
  (js.foldl aK rows).getD (rows.length+k) 0=(js.foldl aK rows).getD p.1 0 ^^^ (js.foldl aK rows).getD p.2 0
 | [],_,_,_,_,e=>by simp at e
 | q::r,rows,k,p,h,e=>by
  obtain⟨h1,h2,h3⟩:=h
  rw[Eg]
  cases k with
  | zero =>
   simp only[DJ,Cv]at e
   subst e
   rw[d7 (by rw[cq];omega),d7 (by rw[cq];omega),d7 (by rw[cq];omega)]
   have e1:(aK rows q).getD (rows.length+0) 0=rows.getD q.1 0 ^^^ rows.getD q.2 0:=zk
   have e2:(aK rows q).getD q.1 0=rows.getD q.1 0:=mY (by omega)
   have e3:(aK rows q).getD q.2 0=rows.getD q.2 0:=mY (by omega)
   rw[e1,e2,e3]
  | succ k =>
   have:=vq (js:=r) (rows:=aK rows q) (k:=k) (p:=p) (by rw[cq];exact h3) (by simpa using e)
   rw[cq]at this
   rw[<- this]
   congr 1
   omega
theorem okJs_of:∀ {js:List (Nat×Nat)} {rows:List Nat},(∀i p,js[i]? = some p->p.1<p.2/\p.2<rows.length+i/\(js.foldl aK rows).getD p.1 0≠(js.foldl aK rows).getD p.2 0)->okJs rows js
 | [],_,_=>trivial
 | q::r,rows,h=>by
  obtain⟨h1,h2,h3⟩:=h 0 q rfl
  rw[Kq]at h2
  rw[Eg,d7 (by rw[cq];omega),d7 (by rw[cq];omega)]at h3
  have e:∀i,i<rows.length->(aK rows q).getD i 0=rows.getD i 0:=λi hi=>mY hi
  rw[e _ (by omega),e _ h2]at h3
  refine⟨h1,h2,h3,okJs_of λi p hp=>?_⟩
  obtain⟨a,b,c⟩:=h (i+1) p (by simpa using hp)
  exact⟨a,by rw[cq];omega,c⟩
theorem Am {m t:Nat}(h:t<m):(az m).getD t 0=1 <<< t:=by
 rw[oG (by rw[cf];exact h)]
 unfold az
 simp
structure Rws (N:Net):Prop where
 ix:okIx N.m N.js
 ne:∀(i:Nat) (p:Nat×Nat),N.js[i]? = some p->(a7 N).getD p.1 0≠(a7 N).getD p.2 0
theorem lF {N:Net}(h:iZ N):Rws N:=by
 have hix:okIx N.m N.js:=by have:=kr h.js;rwa [cf]at this
 refine⟨hix,λi p hp=>?_⟩
 have:=mJ h.js hp
 obtain⟨h1,h2⟩:=fH hix hp
 have lt:=(kt.mp hp).1
 have hl:((N.js.take i).foldl aK (az N.m)).length=N.m+i:=by rw[fN,cf,B6];omega
 have e:∀j,j<N.m+i->((N.js.take i).foldl aK (az N.m)).getD j 0=(a7 N).getD j 0:=λj hj=>by
  unfold a7
  conv=>rhs;rw[<- Ek i N.js,EO]
  exact(d7 (by rw[hl];exact hj)).symm
 rw[e _ (by omega),e _ h2]at this
 exact this
theorem nL {N:Net}{t:Nat}(h:t<N.m):(a7 N).getD t 0=1 <<< t:=by
 unfold a7
 rw[d7 (by rw[cf];exact h),Am h]
theorem q_ {N:Net}(hix:okIx N.m N.js){k:Nat}{p:Nat×Nat}(e:N.js[k]? = some p):(a7 N).getD (N.m+k) 0=(a7 N).getD p.1 0 ^^^ (a7 N).getD p.2 0:=by
 have:=vq (rows:=az N.m) (js:=N.js) (k:=k) (p:=p) (by rw[cf];exact hix) e
 rw[cf]at this
 exact this
def fT (N:Net):Nat->Nat:=fst1 (a7 N)
def bH (N:Net):Nat->Bool:=fL N.m (fT N) N.js 0 λt=>(N.os.map (fT N)).contains t
def tidN (N:Net):Net:=⟨N.m,jF N.m (fT N) (bH N) N.js N.js.length,N.os.map λo=>nbT N.m (bH N) (fT N o)⟩
section
variable {N:Net}
theorem xn {t:Nat}(h:t<N.m+N.js.length):fT N t<=t:=vn (by rw[iF];exact h)
theorem oI {t:Nat}(h:t<N.m+N.js.length):(a7 N).getD (fT N t) 0=(a7 N).getD t 0:=rO (by rw[iF];exact h)
theorem sS (R:Rws N){k:Nat}{p:Nat×Nat}(e:N.js[k]? = some p):p.1<p.2/\p.2<N.m+k/\N.m+k<N.m+N.js.length:=by
 obtain⟨a,b⟩:=fH R.ix e
 have:=(kt.mp e).1
 exact⟨a,b,by omega⟩
theorem f_lt (R:Rws N){k:Nat}{p:Nat×Nat}(e:N.js[k]? = some p):fT N p.1<N.m+k/\fT N p.2<N.m+k:=by
 obtain⟨a,b,c⟩:=sS R e
 have h1:=xn (N:=N) (t:=p.1) (by omega)
 have h2:=xn (N:=N) (t:=p.2) (by omega)
 omega
theorem wV {o:Nat}(h:o∈N.os):bH N (fT N o)=true:=ot (sB.mpr (Ch.mpr ⟨o,h,rfl⟩))
theorem qk (R:Rws N){k:Nat}{p:Nat×Nat}(e:N.js[k]? = some p)(h:bH N (N.m+k)=true):bH N (fT N p.1)=true/\bH N (fT N p.2)=true :=
 uY (λj p e=>by rw[C5];exact f_lt R e) e (by rw[C5];exact h)
end
abbrev zi (N:Net)(t:Nat):Prop:=t<N.m∨bH N t=true
abbrev nT (N:Net):Nat->Nat:=nbT N.m (bH N)
section
variable {N:Net}(R:Rws N)(ho:∀o∈N.os,o<N.m+N.js.length)
include R ho
theorem As {k:Nat}{p:Nat×Nat}(e:N.js[k]? = some p)(h:bH N (N.m+k)=true):(newJ N.m (fT N) (bH N) p).1<(newJ N.m (fT N) (bH N) p).2/\(newJ N.m (fT N) (bH N) p).2<N.m+nkT N.m (bH N) k:=by
 obtain⟨m1,m2⟩:=qk R e h
 obtain⟨l1,l2⟩:=f_lt R e
 obtain⟨a,b,c⟩:=sS R e
 have ne:fT N p.1≠fT N p.2:=λz=>R.ne k p e (by rw[<- oI (N:=N) (t:=p.1) (by omega),z,oI (by omega)])
 have n1:=uQ (m:=N.m) (L:=bH N) l1 (.inr m1)
 have n2:=uQ (m:=N.m) (L:=bH N) l2 (.inr m2)
 have nn:nbT N.m (bH N) (fT N p.1)≠nbT N.m (bH N) (fT N p.2):=λz=>ne (Au (.inr m1) (.inr m2) z)
 have e3:nbT N.m (bH N) (N.m+k)=N.m+nkT N.m (bH N) k:=by unfold nbT;rw[if_neg (by omega)];congr 2;omega
 rw[e3]at n1 n2
 unfold newJ
 dsimp only
 omega
theorem pC {j:Nat}{q:Nat×Nat}(e:(tidN N).js[j]? = some q):∃k p,N.js[k]? = some p/\bH N (N.m+k)=true/\nkT N.m (bH N) k=j/\q=newJ N.m (fT N) (bH N) p:=by
 have hj:j<nkT N.m (bH N) N.js.length:=by
  have:=(kt.mp e).1
  rwa [show(tidN N).js=jF N.m (fT N) (bH N) N.js N.js.length from rfl,fM]at this
 obtain⟨k,h1,h2,h3⟩:=qd hj
 have e':(tidN N).js[j]? = some (newJ N.m (fT N) (bH N) (N.js.getD k (0,0))):=by rw[<- h3];exact mQ h1 h2
 rw[e]at e'
 cases e'
 have ek:N.js[k]? = some (N.js.getD k (0,0)):=by rw[ga,bv h1];rfl
 exact⟨k,_,ek,h2,h3,rfl⟩
theorem z3 {k:Nat}{p:Nat×Nat}(e:N.js[k]? = some p)(h:bH N (N.m+k)=true):(tidN N).js[nkT N.m (bH N) k]? = some (newJ N.m (fT N) (bH N) p):=by
 have lt:=(kt.mp e).1
 have:=mQ (f:=fT N) (js:=N.js) lt h
 rw[ga,e]at this
 exact this
theorem pB:(tidN N).js.length=nkT N.m (bH N) N.js.length:=fM _
theorem tW:∀i p,(tidN N).js[i]? = some p->p.1<p.2/\p.2<N.m+i:=λi q e=>by
 obtain⟨k,p,e1,e2,e3,rfl⟩:=pC R ho e
 rw[<- e3]
 exact As R ho e1 e2
omit R ho in
theorem uJ:∀ {js:List (Nat×Nat)} {n:Nat},(∀i p,js[i]? = some p->p.1<p.2/\p.2<n+i)->okIx n js
 | [],_,_=>trivial
 | p::r,n,h=>⟨(h 0 p rfl).1,(h 0 p rfl).2,uJ λi q e=>by have:=h (i+1) q (by simpa using e);exact⟨this.1,by omega⟩⟩
theorem zZ:okIx (tidN N).m (tidN N).js:=uJ (tW R ho)
theorem pA:∀(t:Nat),t<N.m+N.js.length->zi N t->(a7 (tidN N)).getD (nT N t) 0=(a7 N).getD t 0:=by
 intro t
 induction t using JN with
 | _ t ih =>
  intro ht g
  by_cases hm:t<N.m
  ·rw[show nT N t=t by unfold nT nbT;rw[if_pos hm],nL hm,nL (N:=tidN N) (t:=t) hm]
  ·obtain⟨k,rfl⟩:∃k,t=N.m+k:=⟨t - N.m,by omega⟩
   have hk:k<N.js.length:=by omega
   have hL:=g.resolve_left hm
   have e:N.js[k]? = some N.js[k]:=bv hk
   obtain⟨m1,m2⟩:=qk R e hL
   obtain⟨l1,l2⟩:=f_lt R e
   obtain⟨a,b,c⟩:=sS R e
   have e3:nT N (N.m+k)=N.m+nkT N.m (bH N) k:=by unfold nT nbT;rw[if_neg (by omega)];congr 2;omega
   rw[e3]
   have:=q_ (N:=tidN N) (zZ R ho) (z3 R ho e hL)
   rw[show(tidN N).m=N.m from rfl]at this
   rw[this,q_ R.ix e]
   have i1:=ih _ l1 (by omega) (.inr m1)
   have i2:=ih _ l2 (by omega) (.inr m2)
   rw[oI (by omega)]at i1 i2
   rw[<- i1,<- i2]
   unfold newJ
   dsimp only
   rcases GS (nbT N.m (bH N) (fT N N.js[k].1)) (nbT N.m (bH N) (fT N N.js[k].2))with q | q
   ·rw[Fc q,JA q]
   ·rw[FM q,JO q,D3]
theorem By {t:Nat}(ht:t<N.m+N.js.length)(g:zi N t):nT N t<N.m+(tidN N).js.length:=by
 have:=uQ (m:=N.m) (L:=bH N) ht g
 rw[pB R ho]
 have e3:nbT N.m (bH N) (N.m+N.js.length)=N.m+nkT N.m (bH N) N.js.length:=by unfold nbT;rw[if_neg (by omega)];congr 2;omega
 rw[e3]at this
 exact this
theorem rE {o:Nat}(h:o∈N.os):fT N o<N.m+N.js.length/\zi N (fT N o):=by
 have h1:=ho o h
 have:=xn (N:=N) (t:=o) h1
 exact⟨by omega,.inr (wV h)⟩
theorem zY:∀o∈(tidN N).os,o<N.m+(tidN N).js.length:=λo h=>by
 obtain⟨x,hx,rfl⟩:=Ch.mp h
 obtain⟨a,b⟩:=rE R ho hx
 exact By R ho a b
theorem wj:(tidN N).os.map (λo=>(a7 (tidN N)).getD o 0)=N.os.map λo=>(a7 N).getD o 0:=by
 show(N.os.map λo=>nbT N.m (bH N) (fT N o)).map _=_
 rw[B3]
 refine Ez λo h=>?_
 obtain⟨a,b⟩:=rE R ho h
 show(a7 (tidN N)).getD (nT N (fT N o)) 0=_
 rw[pA R ho _ a b,oI (ho o h)]
theorem qV {k:Nat}{p:Nat×Nat}(e:N.js[k]? = some p)(h:bH N (N.m+k)=true) :
  ((a7 (tidN N)).getD (newJ N.m (fT N) (bH N) p).1 0=(a7 N).getD p.1 0/\(a7 (tidN N)).getD (newJ N.m (fT N) (bH N) p).2 0=(a7 N).getD p.2 0) ∨
  ((a7 (tidN N)).getD (newJ N.m (fT N) (bH N) p).1 0=(a7 N).getD p.2 0/\(a7 (tidN N)).getD (newJ N.m (fT N) (bH N) p).2 0=(a7 N).getD p.1 0):=by
 obtain⟨m1,m2⟩:=qk R e h
 obtain⟨l1,l2⟩:=f_lt R e
 obtain⟨a,b,c⟩:=sS R e
 have r1:=pA R ho (fT N p.1) (by omega) (.inr m1)
 have r2:=pA R ho (fT N p.2) (by omega) (.inr m2)
 rw[oI (by omega)]at r1 r2
 unfold newJ
 dsimp only
 rcases GS (nbT N.m (bH N) (fT N p.1)) (nbT N.m (bH N) (fT N p.2))with q | q
 ·rw[Fc q,JA q];exact .inl ⟨r1,r2⟩
 ·rw[FM q,JO q];exact .inr ⟨r2,r1⟩
end
theorem tV {N:Net}(h:iZ N):iZ (tidN N):=by
 have R:=lF h
 have ho:=h.os
 refine⟨h.m1,h.m12,?_,okJs_of λi q e=>?_,?_,?_,zY R ho⟩
 ·rw[pB R ho];have:=yW (m:=N.m) (L:=bH N) N.js.length;have:=h.jl;omega
 ·obtain⟨a,b⟩:=tW R ho i q e
  refine⟨a,by rw[cf];exact b,?_⟩
  obtain⟨k,p,e1,e2,e3,rfl⟩:=pC R ho e
  have ne:=R.ne k p e1
  show(a7 (tidN N)).getD _ 0≠(a7 (tidN N)).getD _ 0
  rcases qV R ho e1 e2 with⟨r1,r2⟩ | ⟨r1,r2⟩
  ·rw[r1,r2];exact ne
  ·rw[r1,r2];exact ne.symm
 ·show 1<=(N.os.map _).length
  rw[f8];exact h.o1
 ·show(N.os.map _).length<=24
  rw[f8];exact h.o24
def hX (N:Net):Bool:=N.js.all λp=>(a7 N).getD p.1 0 &&& (a7 N).getD p.2 0==0
theorem tX {N:Net}(h:iZ N)(hc:hX N=true):hX (tidN N)=true:=by
 have R:=lF h
 have ho:=h.os
 unfold hX at hc ⊢
 rw[DR]at hc ⊢
 intro q hq
 obtain⟨i,hi⟩:=List.getElem?_of_mem hq
 obtain⟨k,p,e1,e2,e3,rfl⟩:=pC R ho hi
 have:=hc p (Cd e1)
 rcases qV R ho e1 e2 with⟨r1,r2⟩ | ⟨r1,r2⟩
 ·rw[r1,r2];exact this
 ·rw[r1,r2,GU];exact this
theorem tT {N:Net}(h:iZ N):(tidN N).js.length<=N.js.length:=by
 rw[pB (lF h) h.os];exact yW _
theorem oS {n2 n:Nat}{js:List Nat}{c:En->Prop}{g:AG}{tc:AT}{i2:AI}{g2:AG}{tc2:AT}{te:AE}{q:List D->En->Prop}(I:Nat->List D->En->Prop){ds:List D}(hc:∀i acc ρ,i<=ds.length->I i acc ρ->c ρ/\acc.length<=1000000)
  (hs:∀(i:Nat) d acc ρ (N:List D->En->Prop),ds[i]? = some d->I i acc ρ->(∀acc' ρ',I (i+1) acc' ρ'->N acc' ρ') ->
   g d (blkE n js ρ) λρ1=>tc ρ1 λb ρ2=>if b=true then i2 ρ2 λds2 c2 ρ3=>hB n2 c2 g2 tc2 te (λacc' ρ4=>N acc' (back ρ (js.map R.o) (ρ4.drop n))) ds2 acc ρ3 else N acc (back ρ (js.map R.o) (ρ2.drop n)))
  (hd:∀acc ρ,I ds.length acc ρ->q acc ρ):∀ ρ,I 0 [] ρ->gG n2 n js c g tc i2 g2 tc2 te q ds [] ρ:=by
 have go:∀(es:List D) (i:Nat),ds.drop i=es->i<=ds.length->∀acc ρ,I i acc ρ->gG n2 n js c g tc i2 g2 tc2 te q es acc ρ:=by
  intro es
  induction es with
  | nil =>
   intro i h hi acc ρ hI
   have:ds.length<=i:=E6.mp h
   have:i=ds.length:=by omega
   subst this
   unfold gG
   obtain⟨a,b⟩:=hc _ acc ρ (lm _) hI
   exact⟨a,b,hd acc ρ hI⟩
  | cons d es ih =>
   intro i h hi acc ρ hI
   have lt:i<ds.length:=by
    rcases B7 i ds.length with q | q
    ·exact q
    ·rw[CH q]at h;cases h
   rw[Cf lt]at h
   injection h with h1 h2
   unfold gG
   exact⟨(hc i acc ρ hi hI).1,hs i d acc ρ (λacc' ρ'=>gG n2 n js c g tc i2 g2 tc2 te q es acc' ρ') (by rw[<- h1];exact bv lt) hI (λacc' ρ' i'=>ih (i+1) h2 lt acc' ρ' i')⟩
 exact go ds 0 rfl (B0 _) []
end L2
namespace L2
open PySem PySem.Spec PyProof.Rows
end L2
set_option maxHeartbeats 2000000
namespace L2
open PySem PySem.Spec PyProof.Rows
end L2
namespace L2
open PySem
def Ris (xs:Array Nat):Prop:=xs.toList.Pairwise (· < ·)
theorem Ris.lt {xs:Array Nat}(h:Ris xs){i k:Nat}(hk:k<xs.size)(hi:i<k):xs[i]'(by omega)<xs[k]:=by
 have:=Dw.mp h i k (by simp;omega) (by simpa using hk) hi
 simpa using this
theorem nu {xs:Array Nat}{j:Nat}(hr:Ris xs):∀(f lo hi:Nat),hi - lo<=f->lo<=hi->hi<=xs.size->(∀k (h:k<xs.size),k<lo->xs[k]<j)->(∀k (h:k<xs.size),hi<=k->j<=xs[k]) ->
  EZ xs j f lo hi<=xs.size/\(∀k (h:k<xs.size),k<EZ xs j f lo hi->xs[k]<j)/\(∀k (h:k<xs.size),EZ xs j f lo hi<=k->j<=xs[k])
 | 0,lo,hi,hf,hl,hz,h1,h2=>by
  have:hi=lo:=by omega
  subst this
  exact⟨hz,h1,h2⟩
 | f+1,lo,hi,hf,hl,hz,h1,h2=>by
  unfold EZ
  by_cases hlt:lo<hi
  ·rw[if_pos hlt]
   dsimp only
   have hm:(lo+hi) / 2<xs.size:=by omega
   have eg:xs.getD ((lo+hi) / 2) j=xs[(lo+hi) / 2]:=by simp[IM,hm]
   rw[eg]
   by_cases hc:xs[(lo+hi) / 2]<j
   ·rw[if_pos hc]
    refine nu hr f _ hi (by omega) (by omega) hz (λk hk h=>?_) h2
    by_cases e:k=(lo+hi) / 2
    ·subst e;exact hc
    ·exact DO (hr.lt hm (by omega)) hc
   ·rw[if_neg hc]
    refine nu hr f lo _ (by omega) (by omega) (by omega) h1 (λk hk h=>?_)
    by_cases e:k=(lo+hi) / 2
    ·subst e;omega
    ·have:=hr.lt hk (show(lo+hi) / 2<k by omega)
     omega
  ·rw[if_neg hlt]
   have:hi=lo:=by omega
   subst this
   exact⟨hz,h1,h2⟩
theorem jV {xs:Array Nat}{j:Nat}(hr:Ris xs):Cu xs j<=xs.size/\(∀k (h:k<xs.size),k<Cu xs j->xs[k]<j)/\(∀k (h:k<xs.size),Cu xs j<=k->j<=xs[k]) :=
 nu hr xs.size 0 xs.size (by omega) (B0 _) (lm _) (λk _ h=>absurd h (Hk _)) λk h h'=>absurd h (by omega)
theorem xx {xs:Array Nat}(hr:Ris xs){k:Nat}(hk:k<xs.size):Cu xs xs[k]=k:=by
 obtain⟨h0,h1,h2⟩:=jV (j:=xs[k]) hr
 rcases Dp (Cu xs xs[k]) k with h | h | h
 ·have a:=h2 (Cu xs xs[k]) (by omega) (lm _)
  have b:=hr.lt hk h
  omega
 ·exact h
 ·have:=h1 k hk h
  omega
theorem tz {xs:Array Nat}(hr:Ris xs){k:Nat}(hk:k<xs.size):Cu xs (xs[k]+1)=k+1:=by
 obtain⟨h0,h1,h2⟩:=jV (j:=xs[k]+1) hr
 rcases Dp (Cu xs (xs[k]+1)) (k+1)with h | h | h
 ·have:=h2 k hk (by omega)
  omega
 ·exact h
 ·have a:=h1 (k+1) (by omega) h
  have b:=hr.lt (show k+1<xs.size by omega) (show k<k+1 by omega)
  omega
theorem tw {xs:Array Nat}(hr:Ris xs):Cu xs 0=0:=by
 obtain⟨h0,h1,h2⟩:=jV (j:=0) hr
 rcases Nat.eq_zero_or_pos (Cu xs 0)with h | h
 ·exact h
 ·have:=h1 0 (by omega) h
  omega
theorem yz {xs:Array Nat}{j:Nat}(hr:Ris xs)(hj:j∉xs.toList):Ris (SetTable.insertAt xs (Cu xs j) j):=by
 obtain⟨h0,h1,h2⟩:=jV (j:=j) hr
 unfold Ris
 rw[SetTable.toList_insertAt]
 have sp:(xs.toList.take (Cu xs j)++xs.toList.drop (Cu xs j)).Pairwise (· < ·):=by rw[Ek];exact hr
 obtain⟨p1,p2,p3⟩:=F2.mp sp
 have lo:∀a∈xs.toList.take (Cu xs j),a<j:=λa ha=>by
  obtain⟨i,hi,rfl⟩:=C1 ha
  rw[B6,Do]at hi
  rw[GI,F1]
  exact h1 i (by omega) (by omega)
 have up:∀a∈xs.toList.drop (Cu xs j),j<a:=λa ha=>by
  have hm:=List.mem_of_mem_drop ha
  obtain⟨i,hi,rfl⟩:=C1 ha
  rw[Jq,Do]at hi
  rw[List.getElem_drop,F1]at hm ⊢
  have:=h2 (Cu xs j+i) (by omega) (by omega)
  rcases Nat.lt_or_eq_of_le this with h | h
  ·exact h
  ·exact absurd (h▸hm) hj
 refine F2.mpr ⟨p1,Dz.mpr ⟨up,p2⟩,λa ha b hb=>?_⟩
 rcases sK.mp hb with rfl | hb
 ·exact lo a ha
 ·exact p3 a ha b hb
def Open (t:DY)(j:Nat):Prop:=∀i,t.slot j ≠ .live i
theorem wK {t:DY}{j:Nat}(hr:Ris t.place)(h:Open t j):j∉t.place.toList:=by
 intro hm
 obtain⟨k,hk,e⟩:=C1 hm
 rw[Do]at hk
 rw[F1]at e
 refine h k ?_
 unfold SetTable.slot
 dsimp only
 rw[<- e,xx hr hk,if_pos (by simp[hk])]
theorem o_ (t:DY)(p:IX):(t.advance p).dummy=p.dummy:=by
 unfold SetTable.advance;split <;> rfl
theorem qt {t:DY}{f:Nat->Int}{h:Int}:∀(n:Nat) (p:IX) (j:Nat) (d:Option Nat),Hg t f h n p=some (.empty j d)->(∀x,p.dummy=some x->Open t x)->Open t j/\∀x,d=some x->Open t x
 | 0,p,j,d,e,_=>by cases e
 | n+1,p,j,d,e,hd=>by
  unfold Hg at e
  cases es:t.slot p.j with
  | empty =>
   rw[es]at e
   dsimp only at e
   simp only[Cv,Jn]at e
   obtain⟨rfl,rfl⟩:=e
   exact⟨λi z=>(by rw[es]at z;cases z),hd⟩
  | dummy =>
   rw[es]at e
   refine qt n _ j d e λx hx=>?_
   rw[o_]at hx
   cases hx
   exact λi z=>by rw[es]at z;cases z
  | live i =>
   rw[es]at e
   dsimp only at e
   split at e
   ·cases e
   ·refine qt n _ j d e λx hx=>?_
    rw[o_]at hx
    exact hd x hx
theorem vo {t:DY}{h:Int}{j:Nat}{b:Bool}(e:t.freeSlot h=some (j,b)):Open t j:=by
 unfold SetTable.freeSlot at e
 split at e
 ·rename_i j' d hp
  simp only[Cv,Ew]at e
  obtain⟨rfl,_⟩:=e
  unfold SetTable.probe at hp
  obtain⟨a,b⟩:=qt _ _ _ _ hp λx hx=>by cases hx
  cases d with
  | none=>exact a
  | some x=>exact b x rfl
 ·cases e
def Led (t:DY):Prop:=t.led=true/\Ris t.place
theorem uo (n:Nat):Ris (Array.range n):=by
 unfold Ris
 rw[Array.toList_range]
 exact Dm
theorem iJ {t:DY}(h:t.led=true)(n:Nat):Led (t.standIn n):=⟨h,uo n⟩
theorem Az {t:DY}(h:Led t)(n:Nat):Led (t.orStandIn n):=by
 unfold SetTable.orStandIn
 split
 ·exact h
 ·exact iJ h.1 n
theorem y7 {t:DY}(h:Led t)(es:Array (Int×bn))(k:Int)(x:bn):Led (layNew t es k x).2.1:=by
 unfold layNew
 split
 ·rename_i j b e
  have l2:Led (t.put j).1:=⟨h.1,yz h.2 (wK h.2 (vo e))⟩
  exact Az l2 _
 ·exact iJ h.1 _
theorem zq {α:Type}(f:Nat->Option α)(n:Nat):(((wl n).filterMap λj=>(f j).map (j,·)).map (·.1)).Sublist (wl n):=by
 rw[List.map_filterMap]
 have:(λx=>Option.map (λy:Nat×α=>y.1) ((f x).map (x,·)))=λx=>if(f x).isSome then some x else none:=by
  funext x;cases f x <;> rfl
 rw[this]
 have e:(wl n).filterMap (λx=>if(f x).isSome=true then some x else none)=(wl n).filter λx=>(f x).isSome:=by
  induction wl n with
  | nil=>rfl
  | cons a l ih =>
   rw[D7,GZ]
   cases (f a).isSome <;> simp[ih]
 rw[e]
 exact D6
theorem sQ {t t':DY}{hs:Array Int}{k:Nat}{o:Array Nat}(h:t.led=true)(e:t.relaid hs k=some (t',o)):Led t':=by
 unfold SetTable.relaid SetTable.laid at e
 cases ho:SetTable.layClean (SetTable.sizeAbove k - 1) hs with
 | none=>rw[ho]at e;cases e
 | some ow =>
  rw[ho]at e
  simp only[Option.bind_eq_bind,Option.bind_some,Option.pure_def,Cv,Ew]at e
  obtain⟨rfl,_⟩:=e
  refine⟨h,?_⟩
  unfold Ris
  dsimp only
  exact Kt (zq (λj=>ow.getD j none) _) Dm
theorem y8 {t:DY}(h:t.led=true)(es:Array (Int×bn))(k:Nat):Led (Gs t es k).2.1:=by
 unfold Gs
 split
 ·rename_i t' o e
  dsimp only
  split
  ·exact sQ h e
  ·exact iJ h _
 ·exact iJ h _
end L2
namespace L2
open PySem PySem.Spec PyProof.Rows
def byT (w:B_):Bool:=w.params.followText "set-order"
def SetI (P:wS)(w:B_)(h:Heap)(a:Addr)(ks:List Int):Prop :=
 ∃o es ep t,h.get? a=some o/\o.ExactSet/\o.data = .set es ep t/\Jl (DN P w) es.toList/\(∀k,k∈ks↔∃e∈es.toList,(DN P w).is k e.2=true)/\es.size<EB/\t.fits es.size=true/\es.size=ks.length/\(byT w=false->Led t)
section
variable {P:wS}{w:B_}{A:Cg}{E:bn->ca->Prop}{s:ca}
theorem SetI.kept {h h':Heap}{a:Addr}{ks:List Int}(hS:SetI P w h a ks)(k:∀o,h.get? a=some o->h'.get? a=some o):SetI P w h' a ks:=by
 obtain⟨o,es,ep,t,ho,r⟩:=hS
 exact⟨o,es,ep,t,k o ho,r⟩
theorem SetI.store {h:Heap}{a:Addr}{o:Obj}{es es':Array (Int×bn)}{ep:Nat}{t t':DY}{ks:List Int}(e:h.get? a=some o)(x:o.ExactSet)(d:o.data = .set es ep t)
  (h1:Jl (DN P w) es'.toList) (h2:∀k,k∈ks↔∃e∈es'.toList,(DN P w).is k e.2=true) (h3:es'.size<EB) (h4:t'.fits es'.size=true) (h5:es'.size=ks.length) (h6:byT w=false->Led t') :
  (h.update a (Gy es' t')).get? a=some {o with data:=.set es' (ep+1) t'}/\SetI P w (h.update a (Gy es' t')) a ks:=by
 have g:(h.update a (Gy es' t')).get? a=some {o with data:=.set es' (ep+1) t'}:=by
  rw[C2 (Gy es' t') e (by rw[putSet_of es' t' d];rfl),putSet_of es' t' d]
 exact⟨g,{o with data:=.set es' (ep+1) t'},es',ep+1,t',g,x,rfl,h1,h2,h3,h4,h5,h6⟩
theorem vM {g:Bool->Sem Unit}(hg:∀(b:Bool) (z:ca) (q:Unit->ca->Prop),q () z->li (pc P w) A (g b) q E z){a:Addr}{o:Obj}{es e1:Array (Int×bn)}{ep:Nat}{t t2:DY}{ks:List Int}
  (e:s.heap.get? a=some o) (x:o.ExactSet) (d:o.data = .set es ep t)
  (h1:Jl (DN P w) e1.toList) (h2:∀k,k∈ks↔∃e∈e1.toList,(DN P w).is k e.2=true) (h3:e1.size<EB) (h4:t2.fits e1.size=true) (h5:e1.size=ks.length) (h6:byT w=false->Led t2)
  {dm:Bool} {R:Option Bool->ca->Prop} (h:∀h',Cw a s.heap h'->SetI P w h' a ks->R (some true) {s with heap:=h'}) :
  li (pc P w) A (do
   storeSet a e1 t2
   if(!dm&&t2.tooFull)=true then do
    g (Gs t2 e1 (Ej e1.size)).2.2
    storeSet a (Gs t2 e1 (Ej e1.size)).1 (Gs t2 e1 (Ej e1.size)).2.1
    pure (some true)
   else pure (some true)) R E s:=by
 refine bm (J8 e d ?_ (EW h3))
 obtain⟨g1,S1⟩:=SetI.store (P:=P) (w:=w) e x d h1 h2 h3 h4 h5 h6
 have b1:=Df s.heap a (Gy e1 t2)
 split
 ·have p:=relayAll_perm t2 e1 (Ej e1.size)
  have f:=relayAll_fits t2 e1 (Ej e1.size)
  have l:byT w=false->Led (Gs t2 e1 (Ej e1.size)).2.1:=λz=>y8 (h6 z).1 _ _
  generalize Gs t2 e1 (Ej e1.size)=R2 at p f l ⊢
  obtain⟨e2,t3,g2⟩:=R2
  dsimp only at p f l ⊢
  have n2:e2.size=e1.size:=by have:=p.length_eq;simpa using this
  refine bm (hg _ _ _ ?_)
  refine bm (J8 g1 rfl ?_ (EW (by omega)))
  obtain⟨_,S2⟩:=SetI.store (P:=P) (w:=w) (ks:=ks) g1 x rfl (ElemsOf.perm h1 p) (λk=>(h2 k).trans ⟨λ⟨y,hy,z⟩=>⟨y,p.mem_iff.mpr hy,z⟩,λ⟨y,hy,z⟩=>⟨y,p.mem_iff.mp hy,z⟩⟩) (by omega) f (by omega) l
  exact dL (h _ (b1.trans (Df _ a _)) S2)
 ·exact dL (h _ b1 S1)
theorem ya (ks:List Int)(k j:Int):j∈El ks k↔j∈ks∨j=k:=by
 unfold El
 split
 ·rename_i h
  rw[DA]at h
  obtain⟨y,hy,e⟩:=h
  have:y=k:=by simpa using e
  subst this
  exact⟨.inl,λz=>z.elim id λe=>e▸hy⟩
 ·simp
theorem xt {ks:List Int}{k:Int}(h:k∈ks):El ks k=ks:=by
 unfold El
 rw[if_pos (DA.mpr ⟨k,h,by simp⟩)]
theorem rT {ks:List Int}{k:Int}(h:k∉ks):El ks k=ks++[k]:=by
 unfold El
 rw[if_neg (λz=>by obtain⟨y,hy,e⟩:=DA.mp z;exact h ((by simpa using e:y=k)▸hy))]
theorem Be {a:Addr}{ks:List Int}{k:Int}{x:bn}{Q:Bool->ca->Prop}(hk:(DN P w).is k x=true)(hx:x.scannable=true)(hS:SetI P w s.heap a ks)(hr:ks.length+1<EB)
  (h:∀h' b,Cw a s.heap h'->SetI P w h' a (El ks k)->Q b {s with heap:=h'}):li (pc P w) A (setAddHashed a x ((DN P w).hash k)) Q E s:=by
 obtain⟨o,es,ep,t,ho,ex,d,el,me,bd,fi,le,ld⟩:=hS
 unfold setAddHashed setAddHashedIn
 refine DH (bm (Eu ho d fi ?_));dsimp only
 rw[byScan_of hx bd el];simp only[if_true]
 unfold setAddByScan
 refine bm (bm (DX (bm (wpAny_setScan_of hk ho d fi el ?_))))
 cases hf:List.findIdx? (λe=>(DN P w).is k e.2) es.toList with
 | some j =>
  dsimp only
  obtain⟨lj,pj,_⟩:=List.findIdx?_eq_some_iff_getElem.mp hf
  have kin:k∈ks:=(me k).mpr ⟨_,DQ lj,pj⟩
  refine dL (dL ?_)
  have:=h s.heap false (HE a s.heap) (by rw[xt kin];exact⟨o,es,ep,t,ho,ex,d,el,me,bd,fi,le,ld⟩)
  exact this
 | none =>
  dsimp only
  have kout:k∉ks:=λz=>by
   obtain⟨y,hy,q⟩:=(me k).mp z
   have:=List.findIdx?_eq_none_iff.mp hf y hy
   rw[q]at this;cases this
  have gw:∀(b:Bool) {z:ca} {q:Unit->ca->Prop},q () z->li (pc P w) A (match b with | true=>rule "set.scan.the-table-gave-way" | false=>pure ()) q E z:=λb z q hq=>by
   cases b
   ·exact dL hq
   ·exact DX hq
  have pe:=layNew_perm t es ((DN P w).hash k) x
  have fe:=layNew_fits t es ((DN P w).hash k) x
  have lf:byT w=false->Led (layNew t es ((DN P w).hash k) x).2.1:=λz=>y7 (ld z) _ _ _
  generalize layNew t es ((DN P w).hash k) x=L at pe fe lf ⊢
  obtain⟨e1,t1,dm,gv⟩:=L
  dsimp only at pe fe lf ⊢
  rw[GB]at pe
  have el1:Jl (DN P w) e1.toList:=(ElemsOf.push el hk hx).perm pe
  have n1:e1.size=ks.length+1:=by have:=pe.length_eq;simp at this;omega
  have me1:∀j,j∈ks++[k]↔∃e∈e1.toList,(DN P w).is j e.2=true:=λj=>by
   rw[xL,me j,sn]
   constructor
   ·rintro(⟨y,hy,q⟩ | rfl)
    ·exact⟨y,pe.mem_iff.mpr (BW _ hy),q⟩
    ·exact⟨_,pe.mem_iff.mpr (im _ (sn.mpr rfl)),hk⟩
   ·rintro⟨y,hy,q⟩
    rcases xL.mp (pe.mem_iff.mp hy)with hy | hy
    ·exact .inl ⟨y,hy,q⟩
    ·rw[sn.mp hy]at q
     exact .inr ((DN P w).inj x j k q hk)
  refine bm (gw _ ?_)
  have fin:∀h',Cw a s.heap h'->SetI P w h' a (ks++[k])->Q true {s with heap:=h'}:=λh' b z=>h h' true b (by rw[rT kout];exact z)
  split
  ·refine bm ?_
   rw[hashByValue_scannable 8 hx]
   refine dL ?_
   refine vM ?_ ho ex d el1 me1 (by omega) ?_ (by rw[wP];simpa using n1) ?_ ?_
   ·intro b z q hq
    cases b
    ·exact dL hq
    ·exact DX hq
   ·split
    ·exact fe
    ·exact SetTable.fits_plain_off fe
   ·intro z
    split
    ·exact lf z
    ·exact lf z
   ·intro h' b z
    exact dL (fin h' b z)
  ·refine bm (dL ?_)
   simp only[if_true]
   refine vM ?_ ho ex d el1 me1 (by omega) fe (by rw[wP];simpa using n1) lf ?_
   ·intro b z q hq
    cases b
    ·exact dL hq
    ·exact DX hq
   ·intro h' b z
    exact dL (fin h' b z)
end
end L2
set_option maxHeartbeats 3200000
namespace L2
open PySem PySem.Spec PyProof.Rows
def setO (w:B_):Obj:={cls:=.type "set",dict:=none,data:=.set #[] 0 (.fresh 0 0 (!byT w))}
section
variable {P:wS}{w:B_}{A:Cg}{E:bn->ca->Prop}{s:ca}
theorem Bx (a:bn){q:bn->ca->Prop}(h:q (.ref s.heap.objs.size) {s with heap:=s.heap.push (setO w)}) :
  CY (pc P w) A (.call (.builtin "set.__new__") ⟨[.type "set",a],[]⟩) (wants q E) s:=by
 refine Ge (show li _ A.in1 (do checkBuiltinCall "set.__new__" ⟨[.type "set",a],[]⟩;Ip (.builtin "set.__new__" ⟨[.type "set",a],[]⟩)) _ _ s from ?_)
 refine bm (HG (PySem.F.newCall_set_1 a) (dL ⟨EK HM _,D5 PySem.F.entry_set_new ?_⟩))
 rw[DE HM _];unfold Builtin.«set.__new__» JJ
 have su:=sub_set_self
 obtain⟨hp,g,d,tk,os⟩:=s
 dsimp only
 wp_walk
 refine DG (dL ?_)
 dsimp only;simp only[newObj]
 exact bm (wpAny_alloc (dL (dL h)))
theorem q5 (h:Heap):SetI P w (h.push (setO w)) h.objs.size [] :=
 ⟨setO w,#[],0,_,wn _ rfl,⟨rfl,rfl,rfl⟩,rfl,λe he=>by simp at he,λk=>by simp,by decide,by rfl,rfl,λz=>⟨by simp[IW,z],by simp[Ris,IW]⟩⟩
variable {R:E1->ca->Prop}{I:Addr}{fp wr:List Addr}{G:Array JD->Array JD->Prop}{n:Nat}{p:Nat->bn->Prop}{St:Nat->ca->Prop}
theorem Bo (W:WalksS P w A.in1 I fp wr G n p St)(S:Addr)(hf:S∉fp)(f:Nat->Int)(hv:∀i v,p i v->∃t,v = .int (f i) t)(hb:n+1<EB) :
  ∀(k i:Nat) (z:ca),n - i=k->i<=n->St i z->SetI P w z.heap S (Fm f i) ->
   (∀z',Moved (S::wr) G z z'->SetI P w z'.heap S (Fm f n)->R (.ok (.ret .none)) z')->CY (pc P w) A (.builtin "set.update.loop" ⟨[.ref S,.ref I],[]⟩) R z:=by
 have hw:S∉wr:=λq=>hf (W.sub _ q)
 have sb:∀b∈wr,b∈S::wr:=λb q=>BV _ q
 intro k
 induction k with
 | zero =>
  intro i z hk hi st hS hR
  obtain rfl:i=n:=by omega
  refine D5 FA ?_
  rw[DE Ee _]
  refine(show li _ A.in1 (Et (.ref I)>>=_) _ _ z from bm (W.done z _ _ st λz' m=>?_))
  exact(show li _ A.in1 (ret Value.none) _ _ z' from dL (hR z' (m.mono sb) (hS.kept λo e=>m.heap S _ hw e)))
 | succ k ih =>
  intro i z hk hi st hS hR
  have lt:i<n:=by omega
  refine D5 FA ?_
  rw[DE Ee _]
  refine(show li _ A.in1 (Et (.ref I)>>=_) _ _ z from bm (W.item i z _ _ lt st λv z' hp st' m=>?_))
  obtain⟨t,rfl⟩:=hv i v hp
  have hS':SetI P w z'.heap S (Fm f i):=hS.kept λo e=>m.heap S _ hw e
  refine(show li _ A.in1 (F4 [Value.int (f i) t] (setAdd S (.int (f i) t))>>=_) _ _ z' from bm (DH ?_))
  unfold setAdd
  refine DH (bm ((DN P w).pyHash (k:=f i) (Ii _ _ _ _) ?_))
  have rm:(Fm f i).length+1<EB:=by have:=JV f i;omega
  refine Be (s:={z' with toks:=z'.toks+1}) (Ii _ _ _ _) rfl hS' rm λh' b hs hS2=>?_
  rw[<- IF]at hS2
  refine dL ⟨EK Ee _,ih (i+1) _ (by omega) lt (W.frame _ z' _ _ st' (EJ _) λb hb o e=>?_) hS2 λz2 m2 hS3=>?_⟩
  ·rw[hs.2 b (λq:b=S=>hf (q▸hb))];exact e
  ·refine hR z2 (Moved.trans W.gtrans ((m.mono sb).then_heap (EJ _) λb o hb e=>?_) m2) hS3
   rw[hs.2 b (λq:b=S=>hb (by rw[q];exact B2))];exact e
end
section
variable {P:wS}{w:B_}{A:Cg}{E:bn->ca->Prop}{s:ca}
theorem Br {l:Addr}{its:Array bn}{ns:List Int}{Q:bn->ca->Prop}(hh:A.handled=none)(hl:s.heap.IsList l its)(hi:EE its.toList ns)(hb:its.size+1<EB)
  (h:∀(h':Heap) (tk:Nat),SetI P w h' s.heap.objs.size (Fm (λi=>ns.getD i 0) its.size)->(∀b o,s.heap.get? b=some o->h'.get? b=some o)->Q (.ref s.heap.objs.size) {s with heap:=h',toks:=tk}) :
  li (pc P w) A (call (.type "set") [.ref l]) Q E s:=by
 obtain⟨c,tl,mro⟩:=Du.mro
 have md:=Du.made
 have sb:=Du.sub
 refine JT (Ge (show li _ _ (callAny (.type "set") _) _ _ _ from ?_))
 refine dL ⟨Code.quiet_builtin _ (by decide +kernel),D5 PySem.F.entry_type_call ?_⟩
 rw[Around.under_plain (weight_type_call_type "set" [.ref l] []) rfl]
 have n1:=Du.notType
 have n2:=Du.canCreate
 have n3:=PySem.F.typeCall_set_1 (.ref l)
 repeat (any_goals (first | assumption | wp_step))
 refine EC (Bx (.ref l) (E:=E) (q:=λob z=>ob = .ref s.heap.objs.size/\z={s with heap:=s.heap.push (setO w)}) ⟨rfl,rfl⟩) λr z hr=>?_
 cases r with
 | error e=>exact hr
 | ok fl =>
  cases fl with
  | ret ob =>
   obtain⟨rfl,rfl⟩:=hr
   have gS:(s.heap.push (setO w)).get? s.heap.objs.size=some (setO w):=wn _ rfl
   have tS:Jw {s with heap:=s.heap.push (setO w)} (.ref s.heap.objs.size) "set" := ⟨_,gS,rfl⟩
   have i1:=Du.init.lookup
   have i2:=Du.init.bind (.ref s.heap.objs.size)
   repeat (any_goals (first | assumption | wp_step))
   refine EC (codeAny_call_builtin (R:=wants (λr z=>r = .none/\∃h' tk,z={s with heap:=h',toks:=tk}/\SetI P w h' s.heap.objs.size (Fm (λi=>ns.getD i 0) its.size)/\(∀b o,s.heap.get? b=some o->h'.get? b=some o)) E) Du.init.plain PySem.F.entry_set_init (check_set_init_1 tS ?_)) λr2 z2 hr2=>?_
   ·obtain⟨⟨oc,od,oda,osl⟩,ol,hc,nl,hd⟩:=hl
    simp only at hc hd;subst hc;subst hd
    have ol':(s.heap.push (setO w)).get? l=some {cls:=.type "list",dict:=od,data:=.seq its nl,slots:=osl}:=db _ ol
    have s1:=PySem.F.sub_list_set
    have s2:=PySem.F.sub_list_frozenset
    have ne:(Value.type "list" == Value.type "dict")=false:=by decide
    have l1:(s.heap.push (setO w)).IsList l its:=⟨_,ol',rfl,nl,rfl⟩
    unfold Builtin.«set.__init__» noKeywords JF
    generalize hp:Gu=pI
    wp_walk
    subst hp
    refine Hc l1 (bm (wpAny_runValue ?_))
    have ll:l<s.heap.objs.size:=lc ol
    have h3:A.in1.in1.in1.handled=none:=by simp[hh]
    have nI:l≠(s.heap.push (setO w)).objs.size:=by rw[CI];exact ww (Em ll)
    have nf:s.heap.objs.size∉[(s.heap.push (setO w)).objs.size,l]:=by
     rw[CI];simp only[sK,Cr,or_false,not_or]
     exact⟨ww (DB _),CW ll⟩
    have hv:∀(i:Nat) (v:bn),its[i]? = some v->∃t,v = .int ((λi=>ns.getD i 0) i) t:=λi v q=>IntsAre.int_at hi i v (by rw[ET];exact q)
    refine Bo ((Km h3 _ l nI its).toS) s.heap.objs.size nf (λi=>ns.getD i 0) hv hb (its.size - 0) 0 _ (by omega) (B0 _) ⟨⟨_,wn _ rfl,rfl,rfl⟩,(l1.push _)⟩ ?st ?fin
    case st=>exact(q5 s.heap).kept λo e=>db _ e
    case fin =>
     intro z' m hS
     obtain⟨h',g',d',tk',os'⟩:=z'
     obtain rfl:g'=s.gens:=m.gens
     obtain rfl:d'=s.drawn:=m.drawn
     obtain rfl:os'=s.os:=m.os
     refine(show li _ _ _ _ _ _ from dL ?_)
     refine(show li _ _ (ret Value.none) _ _ _ from dL ⟨rfl,h',tk',rfl,hS,λb o e=>?_⟩)
     have lb:=lc e
     refine m.heap b o ?_ (db _ (db _ e))
     rw[CI];simp only[sK,Cr,or_false,not_or]
     exact⟨ww lb,ww (Em lb)⟩
   ·cases r2 with
    | error e=>exact hr2
    | ok f2 =>
     cases f2 with
     | ret r =>
      obtain⟨rfl,h',tk,rfl,hS,hk⟩:=hr2
      repeat (any_goals (first | assumption | wp_step))
      exact h _ _ hS hk
     | _=>exact hr2.elim
  | _=>exact hr.elim
end
end L2
set_option maxHeartbeats 1000000
namespace L2
open PySem PySem.Spec PyProof.Rows
theorem cW:Slot "set_iterator" "__next__" "set_iterator.__next__" :=
 .of (owner := "set_iterator") (n := "__next__") (by rw[Gd,E8];kernel_rfl) (by decide +kernel) (by decide +kernel) (by decide +kernel) (by first | exact .inl (by decide +kernel) | exact .inr (by decide +kernel)) (by rw[Ig];kernel_rfl)
theorem iT:entryFor table "set_iterator.__next__" = some Builtin.«set_iterator.__next__»:=entryFor_of_tree (by kernel_rfl)
theorem jr:Slot "set_iterator" "__iter__" "set_iterator.__iter__" :=
 .of (owner := "set_iterator") (n := "__iter__") (by rw[Gd,E8];kernel_rfl) (by decide +kernel) (by decide +kernel) (by decide +kernel) (by first | exact .inl (by decide +kernel) | exact .inr (by decide +kernel)) (by rw[Ig];kernel_rfl)
theorem oM:entryFor table "set.__iter__" = some Builtin.«frozenset.__iter__»:=entryFor_alias (id' := "frozenset.__iter__") (by kernel_rfl) rfl (by decide +kernel) (by kernel_rfl)
theorem jk {α:Type}:∀(l:List α) (i:Nat) (h:i<l.length),(l[i]::l.eraseIdx i).Perm l
 | a::l,0,_=>.refl _
 | a::l,i+1,h=>(List.Perm.swap _ _ _).trans (List.Perm.cons a (jk l i (by simpa using h)))
theorem uA {α:Type}(f:Nat->Nat):∀(n k:Nat) (l:List α) (o:Array α),l.length=n->List.Perm (He f n k l o).toList (o.toList++l)
 | 0,k,l,o,h=>by
  obtain rfl:l=[]:=E5 h
  unfold He;simp
 | n+1,k,l,o,h=>by
  unfold He
  have lt:f k % l.length<l.length:=Nat.mod_lt _ (by omega)
  rw[bv lt]
  dsimp only
  refine(uA f n (k+1) _ _ (by rw[Ht lt];omega)).trans ?_
  rw[GB,Ck]
  exact Hv _ (jk l _ lt)
theorem uz {α:Type}(f:Nat->Nat)(xs:Array α):List.Perm (Kk f xs).toList xs.toList:=by
 have:=uA f xs.size 0 xs.toList #[] (by simp)
 simpa [Kk] using this
theorem lG:∀ {ks ms:List Int},ks.Nodup->(∀k∈ks,k∈ms)->ms.length=ks.length->ms.Perm ks
 | [],ms,_,_,h=>by rw[E5 h]
 | k::ks,ms,hn,hm,h=>by
  obtain⟨h1,h2⟩:=Ef.mp hn
  have hk:=hm k (.head _)
  have p:=IA hk
  refine p.trans (List.Perm.cons k (lG h2 (λj hj=>?_) ?_))
  ·have ne:j≠k:=λe=>h1 (by rw[<- e];exact hj)
   exact(List.mem_erase_of_ne ne).mpr (hm j (.tail _ hj))
  ·rw[HP hk,h];simp
section
variable {P:wS}{w:B_}{A:Cg}{E:bn->ca->Prop}{s:ca}
theorem tE {src:Source}{n:Nat}{Q:Nat->ca->Prop}(hn:n≠0)(h:∀i d,i<n->Q i {s with drawn:=d}):li (pc P w) A (choose src n) Q E s:=by
 intro Γ p hΓ
 unfold choose
 simp only[Sem.wp]
 exact⟨hn,h _ _ (Nat.mod_lt _ (Gz hn))⟩
theorem vY {α:Type}(n:Nat):∀(xs:List α) {s:ca} {Q:List α->ca->Prop},xs.length=n->(∀ys d,ys.Perm xs->Q ys {s with drawn:=d})->li (pc P w) A (IR n xs) Q E s:=by
 induction n with
 | zero =>
  intro xs s Q hl h
  obtain rfl:xs=[]:=E5 hl
  unfold IR
  exact dL (h [] s.drawn (.refl _))
 | succ n ih =>
  intro xs s Q hl h
  cases xs with
  | nil=>cases hl
  | cons x xs =>
  unfold IR
  refine bm (tE (by simp) λi d hi=>?_)
  rw[bv hi]
  refine bm (ih _ (by rw[Ht hi,hl];rfl) λys d' hp=>?_)
  exact dL (h _ d' ((List.Perm.cons _ hp).trans (jk _ i hi)))
theorem xN {s:ca}{Q:bn->ca->Prop}{R:bn->ca->Prop}{α:Type}{q:α->ca->Prop}(hh:A.handled=none)(h:∀x h',(∀b o,s.heap.get? b=some o->h'.get? b=some o)->({s with heap:=h'}:ca).TypeIs x "StopIteration" -> R x {s with heap:=h'}) :
  li (pc P w) A (newExc (.type "StopIteration") []>>=λx=>(raiseNew x:Sem α)) q R s:=by
 have ho:∃n,n<=10/\(ownMembersOf (Value.type "StopIteration") []).size=n:=by
  first
  | exact⟨_,by decide,rfl⟩
  | exact⟨(ownMembersOf (Value.type "StopIteration") []).size,by decide +kernel,rfl⟩
 obtain⟨no,hno,eno⟩:=ho
 refine bm (bm (Ds (bm (HG rfl (Ds ?_ (by first | trivial | (unfold sizeOk;trivial) | (simp[sizeOk,FO,eno];omega) | (simp only[sizeOk,Array.size_append,eno,FO];simp;omega))))) (by show 0<=wT;decide)))
 refine bm (wpAny_handled ?_)
 rw[hh]
 refine bm (dL (wpAny_throw (h _ _ (λb o q=>db _ (db _ q)) ?_)))
 exact⟨_,wn _ rfl,rfl⟩
def itO (f:bn)(i:Nat)(S:Addr)(n ep:Nat):Obj:={cls:=.type "set_iterator",data:=.fields #[f,DT (i:Nat),.ref S,DT (n:Nat),DT (ep:Nat)]}
variable {I S:Addr}{o:Obj}{es:Array (Int×bn)}{ep:Nat}{t:DY}
theorem rJ {f i:Nat}{r:Option (bn×Nat)}{Q:Option bn->ca->Prop}(hh:A.handled=none)(hI:s.heap.get? I=some (itO (DT (f:Nat)) i S es.size ep))(hS:s.heap.get? S=some o)(hd:o.data = .set es ep t)(hf:t.fits es.size=true)
  (hn:∀(A:Cg) (E:bn->ca->Prop) (q:Option (bn×Nat)->ca->Prop),q r s->li (pc P w) A (Hd S f i ep) q E s)
  (hq:∀x k h',r=some (x,k)->h'.get? I=some (itO (DT (k:Nat)) (i+1) S es.size ep)->(∀b o,b≠I->s.heap.get? b=some o->h'.get? b=some o)->Q (some x) {s with heap:=h'})
  (he:∀h',r=none->(∀b o,b≠I->s.heap.get? b=some o->h'.get? b=some o)->Q none {s with heap:=h'}):li (pc P w) A (Et (.ref I)) Q E s:=by
 have hT:s.TypeIs (.ref I) "set_iterator" := by
  first
  | exact⟨_,hI,rfl⟩
  | exact⟨_,_,hI,rfl⟩
 refine bm (GW (DM hT cW (Dl cW hT iT (bm (dL (bm (wpAny_fieldsOf hI rfl ?_)))))))
 show li _ _ (setEntries S>>=_) _ _ _
 refine bm (GN hS hd hf ?_)
 show li _ _ (ite (((es.size:Int) != (es.size:Int))=true) _ _) _ _ _
 rw[if_neg (by simp)]
 show li _ _ (Hd S f i ep>>=_) _ _ _
 refine bm (hn _ _ _ ?_)
 cases r with
 | some p =>
  obtain⟨x,k⟩:=p
  refine bm (Dj hI (by show 0<5;decide) λh1 g1 sb1=>?_)
  refine bm (Dj g1 (by show 1<5;decide) λh2 g2 sb2=>?_)
  exact dL ⟨_,rfl,dL (hq x k h2 rfl g2 λb o hb q=>(sb2.2 b hb).trans ((sb1.2 b hb).trans q))⟩
 | none =>
  refine bm (Dj hI (by show 2<5;decide) λh1 g1 sb1=>?_)
  refine xN (Q:=λ_ _=>True) (by exact hh) λx h' hk hx=>?_
  refine bm (FV (T := "StopIteration") hx Ih (dL (he h' rfl λb o hb q=>hk b o ((sb1.2 b hb).trans q))))
theorem lI {T:Addr}{i:Nat}{ps:List Nat}{Q:Option bn->ca->Prop}(hh:A.handled=none)(hI:s.heap.get? I=some (itO (.ref T) i S es.size ep))(hT2:s.heap.get? T=some {cls:=.type "tuple",data:=.seq (ps.map λp=>DT (p:Nat)).toArray})(hS:s.heap.get? S=some o)(hd:o.data = .set es ep t)(hf:t.fits es.size=true)
  (hq:∀p e h',ps[i]? = some p->es[p]? = some e->h'.get? I=some (itO (.ref T) (i+1) S es.size ep)->(∀b o,b≠I->s.heap.get? b=some o->h'.get? b=some o)->Q (some e.2) {s with heap:=h'}) (hp:∀p∈ps,p<es.size)
  (he:∀h',ps[i]? = none->(∀b o,b≠I->s.heap.get? b=some o->h'.get? b=some o)->Q none {s with heap:=h'}):li (pc P w) A (Et (.ref I)) Q E s:=by
 have hT:s.TypeIs (.ref I) "set_iterator" := by
  first
  | exact⟨_,hI,rfl⟩
  | exact⟨_,_,hI,rfl⟩
 refine bm (GW (DM hT cW (Dl cW hT iT (bm (dL (bm (wpAny_fieldsOf hI rfl ?_)))))))
 show li _ _ (setEntries S>>=_) _ _ _
 refine bm (GN hS hd hf ?_)
 show li _ _ (ite (((es.size:Int) != (es.size:Int))=true) _ _) _ _ _
 rw[if_neg (by simp)]
 show li _ _ (Kj (.ref T)>>=_) _ _ _
 refine bm (Gq hT2 rfl ?_)
 dsimp only
 rw[List.getElem?_toArray,CB,wv]
 cases hx:ps[i]? with
 | some p =>
  have lp:=hp p (Cd hx)
  have ge:es[p]? = some es[p]:=C8 lp
  show li _ _ (setNextDrawn S p ep>>=_) _ _ _
  refine bm ?_
  unfold setNextDrawn
  refine bm (Eu hS hd hf ?_)
  show li _ _ (ite ((ep != ep)=true) _ _) _ _ _
  rw[if_neg (by simp)]
  show li _ _ (match es[p]? with | some (_,x)=>pure x | _=>_) _ _ _
  rw[ge]
  refine dL ?_
  refine bm (Dj hI (by show 1<5;decide) λh1 g1 sb1=>?_)
  exact dL ⟨_,rfl,dL (hq p es[p] h1 hx ge g1 λb o hb q=>(sb1.2 b hb).trans q)⟩
 | none =>
  show li _ _ (setField (.ref I) 0 (DT 0)>>=_) _ _ _
  refine bm (Dj hI (by show 0<5;decide) λh1 g1 sb1=>?_)
  refine bm (Dj g1 (by show 2<5;decide) λh2 g2 sb2=>?_)
  refine xN (Q:=λ_ _=>True) (by exact hh) λx h' hk hx'=>?_
  exact bm (FV (T := "StopIteration") hx' Ih (dL (he h' hx λb o hb q=>hk b o ((sb2.2 b hb).trans ((sb1.2 b hb).trans q)))))
theorem yv {f i:Nat}{Q:Option (bn×Nat)->ca->Prop}(hb:byT w=true)(hS:s.heap.get? S=some o)(hd:o.data = .set es ep t)(hf:t.fits es.size=true)
  (h:Q (((Kk (w.params.setOrder S ep) es)[i]?).map λe=>(e.2,f)) s):li (pc P w) A (Hd S f i ep) Q E s:=by
 unfold byT at hb
 unfold Hd G3
 refine bm (Eu hS hd hf ?_)
 refine bm (bm (DG (dL ?_)))
 show li _ _ (ite (w.params.followText "set-order" = true) _ _) _ _ _
 rw[if_pos hb]
 show li _ _ (ite ((ep != ep)=true) _ _) _ _ _
 rw[if_neg (by simp)]
 unfold setWalk G3
 refine bm (bm (Eu hS hd hf ?_))
 refine bm (bm (DG (dL ?_)))
 show li _ _ (ite (w.params.followText "set-order" = true) _ _) _ _ _
 rw[if_pos hb]
 exact bm (DG (dL (dL h)))
theorem yw {f i:Nat}{Q:Option (bn×Nat)->ca->Prop}(hb:byT w=false)(hp:(!t.plain&&decide (es.size > 1))=false)(hl:t.led=true)(hS:s.heap.get? S=some o)(hd:o.data = .set es ep t)(hf:t.fits es.size=true)
  (h:Q (match es[Cu t.place f]?,t.place[Cu t.place f]? with | some (_,x),some j=>some (x,j+1) | _,_=>none) s):li (pc P w) A (Hd S f i ep) Q E s:=by
 unfold byT at hb
 unfold Hd G3
 refine bm (Eu hS hd hf ?_)
 refine bm (bm (DG (dL ?_)))
 show li _ _ (ite (w.params.followText "set-order" = true) _ _) _ _ _
 rw[if_neg (by rw[hb];simp)]
 show li _ _ (ite ((!t.plain&&decide (es.size > 1))=true) _ _) _ _ _
 rw[if_neg (by rw[hp];simp)]
 show li _ _ (ite ((!t.led && !es.isEmpty)=true) _ (pure ())>>=_) _ _ _
 rw[if_neg (by rw[hl];simp)]
 exact bm (dL (dL h))
end
theorem m5:entryFor table "set_iterator.__iter__" = some Builtin.«dict_keyiterator.__iter__»:=entryFor_alias (id' := "dict_keyiterator.__iter__") (by kernel_rfl) rfl (by decide +kernel) (by kernel_rfl)
theorem vt {α:Type}{es:Array α}:∀(ps:List Nat),(∀p∈ps,p<es.size)->(ps.filterMap λp=>es[p]?).length=ps.length
 | [],_=>rfl
 | p::ps,h=>by
  rw[D7,C8 (h p (.head _))]
  simp[vt ps λq hq=>h q (.tail _ hq)]
theorem A4 {α:Type}{es:Array α}:∀(ps:List Nat),(∀p∈ps,p<es.size)->∀i:Nat,(ps.filterMap λp=>es[p]?)[i]? = (ps[i]?).bind λp=>es[p]?
 | [],_,i=>by simp
 | p::ps,h,i=>by
  rw[D7,C8 (h p (.head _))]
  cases i with
  | zero=>simp[h p (.head _)]
  | succ i=>simpa using A4 ps (λq hq=>h q (.tail _ hq)) i
section
variable {P:wS}{w:B_}{A:Cg}{E:bn->ca->Prop}{s:ca}{I S:Addr}{o:Obj}{es:Array (Int×bn)}{ep:Nat}{t:DY}
theorem ui {f:bn}{i n:Nat}{Q:bn->ca->Prop}(hI:s.heap.get? I=some (itO f i S n ep))(h:Q (.ref I) s):li (pc P w) A (Gu (.ref I)) Q E s:=by
 have hT:s.TypeIs (.ref I) "set_iterator" := by
  first
  | exact⟨_,hI,rfl⟩
  | exact⟨_,_,hI,rfl⟩
 refine J9 hT jr (Dl jr hT m5 ?_)
 exact(show li _ _ (ret (.ref I)) _ _ s from dL ⟨_,rfl, "set_iterator",_,hT,cW.lookup,h⟩)
theorem qP (hh:A.handled=none)(hne:S≠I)(hd:o.data = .set es ep t)(hf:t.fits es.size=true)(vs:List bn)(nx:Nat->Nat)
  (hs:∀i (s:ca),i<=vs.length->s.heap.get? S=some o->∀(A:Cg) (E:bn->ca->Prop) (q:Option (bn×Nat)->ca->Prop),q ((vs[i]?).map λx=>(x,nx (i+1))) s->li (pc P w) A (Hd S (nx i) i ep) q E s) :
  Walks P w A I [I,S] [I] vs.length (λi v=>vs[i]? = some v) (λi h=>h.get? I=some (itO (DT (nx i:Nat)) i S es.size ep)/\h.get? S=some o) where
 sub:=λb hb=>by simp at hb;simp[hb]
 frame:=λ_ _ _ st hk=>⟨hk I (by simp) _ st.1,hk S (by simp) _ st.2⟩
 item:=λi s Q E hi st hQ=>by
  have gv:vs[i]? = some vs[i]:=bv hi
  refine rJ hh st.1 st.2 hd hf (hs i s (by omega) st.2) (λx k h' e g kp=>?_) (λh' e=>?_)
  ·rw[gv]at e
   simp only[FL,Cv,Ew]at e
   obtain⟨rfl,rfl⟩:=e
   exact hQ _ h' s.toks gv ⟨g,kp S _ hne st.2⟩ λb o hb q=>kp b o (λz=>hb (by simp[z])) q
  ·rw[gv]at e;cases e
 done:=λs Q E st hQ=>by
  have gn:vs[vs.length]? = none:=by simp
  refine rJ hh st.1 st.2 hd hf (hs vs.length s (lm _) st.2) (λx k h' e g kp=>?_) (λh' e kp=>?_)
  ·rw[gn]at e;cases e
  ·exact hQ h' s.toks λb o hb q=>kp b o (λz=>hb (by simp[z])) q
 self:=λ_ _ _ _ st hQ=>ui st.1 hQ
theorem r_ {T:Addr}(hh:A.handled=none)(hne:S≠I)(hn2:T≠I)(hd:o.data = .set es ep t)(hf:t.fits es.size=true)(ps:List Nat)(hp:∀p∈ps,p<es.size)(hl:ps.length=es.size) :
  Walks P w A I [I,S,T] [I] (ps.filterMap λp=>es[p]?).length (λi v=>(((ps.filterMap λp=>es[p]?).map (·.2))[i]? = some v)) (λi h=>h.get? I=some (itO (.ref T) i S es.size ep)/\h.get? S=some o/\h.get? T=some {cls:=.type "tuple",data:=.seq (ps.map λp=>DT (p:Nat)).toArray}) where
 sub:=λb hb=>by simp at hb;simp[hb]
 frame:=λ_ _ _ st hk=>⟨hk I (by simp) _ st.1,hk S (by simp) _ st.2.1,hk T (by simp) _ st.2.2⟩
 item:=λi s Q E hi st hQ=>by
  have fm:=A4 ps hp
  refine lI hh st.1 st.2.2 st.2.1 hd hf (λp e h' e1 e2 g kp=>?_) hp (λh' e=>?_)
  ·refine hQ _ h' s.toks ?_ ⟨g,kp S _ hne st.2.1,kp T _ hn2 st.2.2⟩ λb o hb q=>kp b o (λz=>hb (by simp[z])) q
   rw[wv,fm,e1]
   simp[e2]
  ·have:ps.length<=i:=List.getElem?_eq_none_iff.mp e
   rw[vt ps hp]at hi
   omega
 done:=λs Q E st hQ=>by
  refine lI hh st.1 st.2.2 st.2.1 hd hf (λp e h' e1 e2 g kp=>?_) hp (λh' e kp=>?_)
  ·rw[vt ps hp]at e1
   simp at e1
  ·exact hQ h' s.toks λb o hb q=>kp b o (λz=>hb (by simp[z])) q
 self:=λ_ _ _ _ st hQ=>ui st.1 hQ
end
def nxS (t:DY):Nat->Nat
 | 0=>0
 | k+1=>t.place.getD k 0+1
section
variable {P:wS}{w:B_}{A:Cg}{E:bn->ca->Prop}{s:ca}{I S:Addr}{o:Obj}{es:Array (Int×bn)}{ep:Nat}{t:DY}
theorem qp:∀ {l:List (Int×bn)},Jl (DN P w) l->∃ms,EE (l.map (·.2)) ms/\∀k,k∈ms↔∃e∈l,(DN P w).is k e.2=true
 | [],_=>⟨[],.nil,λk=>by simp⟩
 | e::l,h=>by
  obtain⟨ms,h1,h2⟩:=qp h.tail
  obtain⟨⟨k,hk,_⟩,_⟩:=h.head
  obtain⟨tk,ev⟩:=IV hk
  refine⟨k::ms,by rw[wE,ev];exact .cons k tk h1,λj=>?_⟩
  rw[sK,h2 j]
  constructor
  ·rintro(rfl | ⟨y,hy,q⟩)
   ·exact⟨e,.head _,hk⟩
   ·exact⟨y,.tail _ hy,q⟩
  ·rintro⟨y,hy,q⟩
   rcases sK.mp hy with rfl | hy
   ·exact .inl ((DN P w).inj _ j k q hk)
   ·exact .inr ⟨y,hy,q⟩
theorem AU {ks:List Int}{Q:bn->ca->Prop}(hh:A.handled=none)(hS:SetI P w s.heap S ks)(hk:ks.Nodup)
  (h:∀h' d I fp vs ms St,(∀b o,s.heap.get? b=some o->h'.get? b=some o)->EE vs ms->ms.Perm ks->Walks P w A I fp [I] vs.length (λi v=>vs[i]? = some v) St->St 0 h'->(∀b∈fp,b=S∨s.heap.objs.size<=b)->s.heap.objs.size<=I->Q (.ref I) {s with heap:=h',drawn:=d}) :
  li (pc P w) A (Gu (.ref S)) Q E s:=by
 obtain⟨o,es,ep,t,ho,ex,d,el,me,bd,fi,le,ld⟩:=hS
 obtain⟨⟨oc,od,oda,osl⟩,ho,ex,d⟩:∃o:Obj,s.heap.get? S=some o/\o.ExactSet/\o.data = .set es ep t:=⟨o,ho,ex,d⟩
 have hT:s.TypeIs (.ref S) "set" := ⟨_,ho,ex.1⟩
 have hlt:S<s.heap.objs.size:=lc ho
 obtain⟨ms,m1,m2⟩:=qp el
 have mp:∀ {l:List (Int×bn)},l.Perm es.toList->∃ms',EE (l.map (·.2)) ms'/\ms'.Perm ks:=λ{l} q=>by
  obtain⟨ms',a1,a2⟩:=qp (el.perm q)
  have hl:ms'.length=ks.length:=by
   have:=G6 a1
   rw[f8,q.length_eq,Do]at this
   omega
  refine⟨ms',a1,lG hk (λk kk=>?_) hl⟩
  obtain⟨e,he,z⟩:=(me k).mp kk
  exact(a2 k).mpr ⟨e,q.mem_iff.mpr he,z⟩
 refine J9 hT HL (Dl HL hT oM ?_)
 unfold Builtin.«frozenset.__iter__» JG
 refine bm (bm (dL (dL ?_)))
 unfold JH
 refine bm (bm (GN ho d fi (dL ?_)))
 unfold setDrawn G3
 refine bm (bm (Eu ho d fi (bm (bm (DG (dL (dL ?_)))))))
 show li _ _ (ite ((!byT w&&(!t.plain&&decide (es.size > 1)))=true) (IR es.size (wl es.size)>>=_) _) _ _ _
 have hz:es.size<=wT:=EW bd
 have fin:∀(f:bn) (h1:Heap) (dr:Drawn) (fp:List Addr) (vs:List bn) (ms:List Int) (St:Nat->Heap->Prop),(∀b o,s.heap.get? b=some o->h1.get? b=some o)->s.heap.objs.size<=h1.objs.size->EE vs ms->ms.Perm ks ->
   Walks P w A h1.objs.size fp [h1.objs.size] vs.length (λi v=>vs[i]? = some v) St->St 0 (h1.push (itO f 0 S es.size ep))->(∀b∈fp,b=S∨s.heap.objs.size<=b) ->
   li (pc P w) A.in1 (do let e <- setEpoch S;let x <- newFields "set_iterator" [f,DT 0,Value.ref S,DT (es.size:Nat),DT (e:Nat)];ret x) (λfin s'=>∃v,fin=Fin.done (Flow.ret v)/\∃T' r,s'.TypeIs v T'/\G2 (Value.type T') (Fn "__next__")=pure (some r)/\Q v s') E {s with heap:=h1,drawn:=dr}:=by
  intro f h1 dr fp vs ms St k1 k2 a1 a2 W st hb
  refine bm (wpAny_setEpoch_of (s:={s with heap:=h1,drawn:=dr}) (k1 _ _ ho) d fi ?_)
  unfold newFields
  refine bm (Ds (dL ⟨_,rfl, "set_iterator",_,⟨_,wn _ rfl,rfl⟩,cW.lookup,?_⟩) (by show 5<=wT+2;decide))
  exact h _ dr _ fp vs ms St (λb o q=>db _ (k1 b o q)) a1 a2 W st hb k2
 by_cases hdr:(!byT w&&(!t.plain&&decide (es.size > 1)))=true
 ·rw[if_pos hdr]
  refine bm (vY _ _ (by simp) λps dr hp=>?_)
  have lp:∀p∈ps,p<es.size:=λp q=>Cn.mp (hp.mem_iff.mp q)
  have ll:ps.length=es.size:=by rw[hp.length_eq];simp
  refine bm (wpAny_newTuple ?_ (by rw[f8,ll];exact hz))
  have pp:(ps.filterMap λp=>es[p]?).Perm es.toList:=(hp.filterMap _).trans (by rw[filterMap_getElem?_range])
  obtain⟨ms',a1,a2⟩:=mp pp
  have nT:s.heap.objs.size≠(s.heap.push {cls:=.type "tuple",data:=.seq (ps.map λi=>DT (i:Nat)).toArray}).objs.size:=by rw[CI];exact ww (DB _)
  have nS:S≠(s.heap.push {cls:=.type "tuple",data:=.seq (ps.map λi=>DT (i:Nat)).toArray}).objs.size:=by rw[CI];exact ww (Em hlt)
  have W:=r_ (P:=P) (w:=w) (A:=A) hh nS nT d fi ps lp ll
  have el2:(ps.filterMap λp=>es[p]?).length=((ps.filterMap λp=>es[p]?).map (·.2)).length:=by rw[f8]
  rw[el2]at W
  refine fin (.ref s.heap.objs.size) _ dr [_,S,s.heap.objs.size] ((ps.filterMap λp=>es[p]?).map (·.2)) ms' _ (λb o q=>db _ q) (by rw[CI];exact EJ _) a1 a2 W ⟨wn _ rfl,db _ (db _ ho),db _ (wn _ rfl)⟩ λb hb=>?_
  rcases sK.mp hb with rfl | hb
  ·exact .inr (by rw[CI];exact EJ _)
  ·rcases sK.mp hb with rfl | hb
   ·exact .inl rfl
   ·rw[sn.mp hb];exact .inr (lm _)
 ·rw[if_neg hdr]
  refine bm (dL ?_)
  have nS:S≠s.heap.objs.size:=ww hlt
  have hfp:∀b∈[s.heap.objs.size,S],b=S∨s.heap.objs.size<=b:=λb hb=>by
   rcases sK.mp hb with rfl | hb
   ·exact .inr (lm _)
   ·exact .inl (sn.mp hb)
  cases hb:byT w with
  | true =>
   have pp:=uz (w.params.setOrder S ep) es
   obtain⟨ms',a1,a2⟩:=mp pp
   refine fin (DT 0) s.heap s.drawn [s.heap.objs.size,S] _ ms' _ (λb o q=>q) (lm _) a1 a2 (qP hh nS d fi _ (λ_=>0) λi z hi hz' A' E' q hq=>yv hb hz' d fi ?_) ⟨wn _ rfl,db _ ho⟩ hfp
   rw[wv,ET,Option.map_map]at hq
   exact hq
  | false =>
   obtain⟨l1,l2⟩:=ld hb
   rw[hb]at hdr
   have hpl:(!t.plain&&decide (es.size > 1))=false:=by
    cases z:(!t.plain&&decide (es.size > 1))with
    | false=>rfl
    | true=>rw[z]at hdr;exact absurd rfl hdr
   have sz:t.place.size=es.size:=by
    simp only[SetTable.fits,BX,beq_iff_eq]at fi
    exact fi.1
   obtain⟨ms',a1,a2⟩:=mp (l:=es.toList) (.refl _)
   refine fin (DT 0) s.heap s.drawn [s.heap.objs.size,S] _ ms' _ (λb o q=>q) (lm _) a1 a2 (qP hh nS d fi _ (nxS t) λi z hi hz' A' E' q hq=>yw hb hpl l1 hz' d fi ?_) ⟨wn _ rfl,db _ ho⟩ hfp
   rw[f8,Do]at hi
   have hbl:Cu t.place (nxS t i)=i:=by
    cases i with
    | zero=>exact tw l2
    | succ k =>
     have lk:k<t.place.size:=by omega
     have:=tz l2 lk
     simpa [nxS,IM,lk] using this
   rw[hbl]
   rw[wv,ET]at hq
   by_cases hi':i<es.size
   ·have g1:es[i]? = some es[i]:=C8 hi'
    have g2:t.place[i]? = some t.place[i]:=C8 (by omega)
    rw[g1]at hq ⊢
    rw[g2]
    have e3:t.place.getD i 0=t.place[i]:=by simp[IM,show i<t.place.size by omega]
    simp only[FL,nxS,e3]at hq
    exact hq
   ·have g1:es[i]? = none:=HY (by omega)
    rw[g1]at hq ⊢
    exact hq
end
section
variable {P:wS}{w:B_}{A:Cg}{E:bn->ca->Prop}{s:ca}{S:Addr}
theorem xb {Q:Bool->ca->Prop}(hT:s.TypeIs (.ref S) "set")(h:Q false s):li (pc P w) A (ES (.ref S)) Q E s:=by
 unfold ES
 refine bm (Gb hT PySem.F.slot_set_len.lookup ?_)
 generalize hid:("set.__len__" : String)=id0
 wp_delta
 rw[show splitId id0=some ("set", "__len__")from by subst hid;decide +kernel]
 subst hid
 refine bm (FV (T := "set") (b:=true) hT (by rw[Ig];kernel_rfl) ?_)
 refine HU (λz=>absurd z (by decide)) (λ_=>HU (λ_=>bm (Jb hT (dL h))) (λz=>absurd (by decide +kernel) z))
theorem BB {ks:List Int}{R:E1->ca->Prop}(hh:A.handled=none)(hS:SetI P w s.heap S ks)(hk:ks.Nodup)(hz:ks.length<4096)(L:Addr)(hL:L≠S)(res:bn)(c:Nat)(gL:s.heap.get? L=some {cls:=.type "list",data:=.seq #[] c})
  (hR:∀h' tk dr acc c' ms,(∀b o,b≠L->s.heap.get? b=some o->h'.get? b=some o)->h'.get? L=some {cls:=.type "list",dict:=none,data:=.seq acc c',slots:=#[]}->EE acc.toList ms->ms.Perm ks->R (.ok (.ret res)) {s with heap:=h',toks:=tk,drawn:=dr}) :
  li (pc P w) A.in1 (De (.ref L) (.ref S) res)
   (λfin s'=>match fin with | .done f=>R (.ok f) s' | .again c'=>c'.quiet=true/\CY (pc P w) A c' R s') (λe s'=>R (.error e) s') s:=by
 have hT:s.TypeIs (.ref S) "set" := by
  obtain⟨o,_,_,_,ho,ex,_⟩:=hS
  exact⟨_,ho,ex.1⟩
 have lL:=lc gL
 unfold De
 refine bm (Jb (T := "set") hT ?_)
 have h1:Ep (.ref L) (.ref S)=false:=by simp[Ep,hL]
 have h2:(Value.type "set" == Value.type "list")=false:=by decide
 have h3:(Value.type "set" == Value.type "tuple")=false:=by decide
 simp only[h1,h2,h3,Gm,EH,if_false]
 refine bm (AU (A:=A.in1) hh hS hk λh' dr I fp vs ms St kp a1 a2 W st hb hI=>?_)
 have nf:L∉fp:=λq=>by
  rcases hb L q with e | e
  ·exact hL e
  ·exact absurd lL (Nat.not_lt.mpr e)
 have vl:vs.length<=wT:=by
  have:=G6 a1
  have:=a2.length_eq
  exact EW (show vs.length<EB by unfold EB;omega)
 have key:∀(h:Heap) (c1:Nat),St 0 h->(∀b o,b≠L->s.heap.get? b=some o->h.get? b=some o)->h.get? L=some {cls:=.type "list",data:=.seq #[] c1} ->
   CY (pc P w) A (.builtin "list.extend.loop" ⟨[.ref L,.ref I,res],[]⟩) R {s with heap:=h,drawn:=dr}:=by
  intro h c1 st' hk' gL'
  refine codeAny_extend_loopS W.toS vl L nf res vs.length 0 _ #[] c1 rfl (B0 _) st' gL' (ItemsOf.nil _) λz acc c2 hm gz ha=>?_
  rw[Moved.eq_with hm]
  refine hR z.heap z.toks dr acc c2 ms (λb o hb' e=>hm.heap b o (λq=>?_) (hk' b o hb' e)) gz ?_ a2
  ·rcases sK.mp q with e' | q
   ·exact hb' e'
   ·have:=lc e
    rw[sn.mp q]at this
    exact absurd this (Nat.not_lt.mpr hI)
  ·have:acc.toList=vs:=by
    refine DK λj=>?_
    rw[ET]
    by_cases hj:j<acc.size
    ·have g:acc[j]? = some acc[j]:=C8 hj
     rw[g];exact(ha.2 j _ g).symm
    ·have l2:=ha.1
     rw[HY (by omega),Dy (by omega)]
   rw[this];exact a1
 have g1:=kp _ _ gL
 refine bm (DH (xb (s:={s with heap:=h',drawn:=dr}) (by obtain⟨o,ho,ec⟩:=hT;exact⟨o,kp _ _ ho,ec⟩) ?_))
 refine HU (λ_=>?_) (λ_=>dL ⟨EK DU _,key _ c st (λb o _ e=>kp b o e) g1⟩)
 refine bm (DX (bm ?_))
 show li _ _ (GC L (·.push .none)>>=λ_=>GC L (·.pop)) _ _ _
 refine bm (EM g1 rfl ?_)
 have g2:=C2 (C9 (·.push Value.none)) g1 rfl
 refine EM (hz:=by seq_fits) g2 rfl ?_
 have g3:=C2 (C9 (·.pop)) g2 rfl
 refine dL ⟨EK DU _,key _ _ (W.frame 0 _ _ st λb hb o e=>?_) (λb o hb e=>?_) g3⟩
 ·have nb:L≠b:=λz=>nf (z▸hb)
  exact(CU _ _ nb).trans ((CU _ _ nb).trans e)
 ·exact(CU _ _ (Dq hb)).trans ((CU _ _ (Dq hb)).trans (kp _ _ e))
theorem vG {ks:List Int}{R:List bn->ca->Prop}(hh:A.handled=none)(hS:SetI P w s.heap S ks)(hk:ks.Nodup)(hz:ks.length<4096)
  (h:∀h' tk dr vs ms,(∀b o,s.heap.get? b=some o->h'.get? b=some o)->s.heap.objs.size<=h'.objs.size->EE vs ms->ms.Perm ks->R vs {s with heap:=h',toks:=tk,drawn:=dr}):li (pc P w) A (collect (.ref S)) R E s:=by
 have lS:S<s.heap.objs.size:=by obtain⟨o,_,_,_,ho,_⟩:=hS;exact lc ho
 unfold collect
 refine bm (wpAny_runValue (D5 entry_proto_collect' ?_))
 rw[DE PySem.F.plain_proto_collect _]
 refine(show li _ A.in1 (Jf []>>=λl=>Ip (.builtin "list.__iadd__" ⟨[l,.ref S],[]⟩)) _ _ s from bm (Ds (dL ⟨EK Ho _,D5 entry_list_iadd' ?_⟩)))
 rw[DE Ho _]
 have gL:(s.heap.push {cls:=.type "list",data:=.seq ([]:List bn).toArray}).get? s.heap.objs.size=some {cls:=.type "list",data:=.seq #[]}:=wn _ rfl
 show li _ A.in1 (De (.ref s.heap.objs.size) (.ref S) (.ref s.heap.objs.size)) _ _ _
 have key:=BB (A:=A) (s:={s with heap:=s.heap.push {cls:=.type "list",data:=.seq ([]:List bn).toArray}})
  (R:=λ(q:E1) (z:ca)=>∃(h':Heap) (tk:Nat) (dr:Drawn) (acc:Array bn) (c':Nat) (ms:List Int),q = .ok (.ret (.ref s.heap.objs.size))/\z={s with heap:=h',toks:=tk,drawn:=dr}/\(∀b o,s.heap.get? b=some o->h'.get? b=some o)/\h'.get? s.heap.objs.size=some {cls:=.type "list",dict:=none,data:=.seq acc c',slots:=#[]}/\EE acc.toList ms/\ms.Perm ks)
  hh (hS.kept λo e=>db _ e) hk hz s.heap.objs.size (CW lS) (.ref s.heap.objs.size) 0 gL
  (λh' tk dr acc c' ms k1 g a1 a2=>⟨h',tk,dr,acc,c',ms,rfl,rfl,λb o e=>k1 b o (ww (lc e)) (db _ e),g,a1,a2⟩)
 refine Dt key (λfin z x=>?_) λe z x=>?_
 ·cases fin with
  | done f =>
   obtain⟨h',tk,dr,acc,c',ms,e,rfl,k1,g,a1,a2⟩:=x
   cases e
   exact(show li _ A (load s.heap.objs.size>>=_) _ _ _ from bm (JS g (dL (h h' tk dr _ ms k1 (CN (lc g)) a1 a2))))
  | again c1 =>
   refine⟨x.1,EC x.2 λq z2 y=>?_⟩
   obtain⟨h',tk,dr,acc,c',ms,rfl,rfl,k1,g,a1,a2⟩:=y
   exact(show li _ A (load s.heap.objs.size>>=_) _ _ _ from bm (JS g (dL (h h' tk dr _ ms k1 (CN (lc g)) a1 a2))))
 ·obtain⟨_,_,_,_,_,_,e',_⟩:=x
  cases e'
theorem xO {ks:List Int}{Q:bn->ca->Prop}(hh:A.handled=none)(hS:SetI P w s.heap S ks)(hk:ks.Nodup)(h64:ks.length<64)
  (h:∀h' tk dr D out e ns',(∀b o,s.heap.get? b=some o->h'.get? b=some o)->s.heap.objs.size<=D->h'.get? D=some (seqObj "list" out e)->EE out.toList ns'->ns'.Perm ks->ns'.Pairwise (· <= ·)->Q (.ref D) {s with heap:=h',toks:=tk,drawn:=dr}) :
  li (pc P w) A (call (.builtin "sorted") [.ref S]) Q E s:=by
 refine Calls.call_function_entry kind_sorted plain_sorted entry_sorted (args_sorted1 _) ?_
 unfold Builtin.«sorted»
 refine bm (m:=checkCount "sorted" 1 1 _) (dL ?_)
 refine bm (vG (A:=A.in1) hh hS hk (by omega) λh' tk dr vs ms k1 sz a1 a2=>?_)
 have l1:vs.length<64:=by
  have:=G6 a1
  have:=a2.length_eq
  omega
 refine bm (wpAny_newList ?_ (EW (by unfold EB;omega)))
 have gD:(h'.push (seqObj "list" vs.toArray 0)).get? h'.objs.size=some (seqObj "list" vs.toArray 0):=wn _ rfl
 refine bm (DH (Dl slot_list_sort ⟨_,gD,rfl⟩ entry_list_sort (list_sort_tree (s:={s with heap:=h'.push (seqObj "list" vs.toArray 0),toks:=tk,drawn:=dr}) gD a1 l1 λout ns' b1 b2 b3=>⟨_,rfl,?_⟩) (args_list_sort _)))
 obtain⟨e,ge⟩:=sortedHeap_at (out:=out) gD
 refine dL ⟨_,rfl,h _ tk dr h'.objs.size out e ns' (λb o q=>?_) sz ge b1 (b2.trans a2) b3⟩
 have lb:=lc (k1 b o q)
 rw[sortedHeap_old (ww lb) (by rw[size_push'];exact Em lb)]
 exact db _ (k1 b o q)
end
theorem Inv.drawn {X:Cx}{pins:List (Addr×Obj)}{σ:List (Option V)}{H:Hp}{s:ca}(I:Inv X pins σ H s)(d:Drawn):Inv X pins σ H {s with drawn:=d} :=
 ⟨I.ok,I.os,I.bare,I.base,I.loc,I.cell,I.free,I.freeC,I.pin,I.hok,I.len⟩
theorem uS (f:Nat->Int):∀(n:Nat) (k:Int),k∈Fm f n↔∃i,i<n/\f i=k
 | 0,k=>by simp[firstMet_zero]
 | n+1,k=>by
  rw[IF,ya,uS f n k]
  constructor
  ·rintro(⟨i,h,e⟩ | rfl)
   ·exact⟨i,by omega,e⟩
   ·exact⟨n,by omega,rfl⟩
  ·rintro⟨i,h,e⟩
   by_cases z:i=n
   ·subst z;exact .inr e.symm
   ·exact .inl ⟨i,by omega,e⟩
theorem iI (f:Nat->Int):∀n,(Fm f n).Nodup
 | 0=>by simp[firstMet_zero]
 | n+1=>by
  rw[IF]
  by_cases h:f n∈Fm f n
  ·rw[xt h];exact iI f n
  ·rw[rT h,C_]
   refine⟨iI f n,by simp,λa ha b hb e=>h ?_⟩
   rw[sn.mp hb]at e
   exact e▸ha
theorem y4 (ns:List Int)(k:Int):k∈Fm (λi=>ns.getD i 0) ns.length↔k∈ns:=by
 rw[uS]
 constructor
 ·rintro⟨i,h,e⟩
  rw[ga,bv h]at e
  rw[<- e];exact DQ h
 ·intro h
  obtain⟨i,hi,e⟩:=C1 h
  exact⟨i,hi,by rw[ga,bv hi];exact e⟩
def qW (K:bi)(ta:TA):TE:=λσ H Q=>ta σ H λvs H1=>∃(p:Addr) (ns:List Int),vs=[.ref p]/\SqL K H1 p (ns.map V.int)/\ns.length<64/\∀ns':List Int,ns'.Pairwise (· < ·)->(∀x,x∈ns'↔x∈ns)->∀l,H1 l=none->Q (.ref l) (upd H1 l (.lst (ns'.map V.int)))
theorem sD (K:bi){X:Cx}{a:Expr}{ta:TA}{p p2 pos pos2:Pos}(hc:X.calm=true)(hg1:Gl X "sorted")(hm1:X.mg "sorted" = none)(hg:Gl X "set")(hm:X.mg "set" = none)(ha:PA X [a] ta)(hK:X.K=K:=by rfl)
  (ho:B4 [.Call (.Name "set" p2) [a] [] pos2] X.env=[(false,eval (.Call (.Name "set" p2) [a] [] pos2) X.env)]:=by rfl) (hs:B4 [a] X.env=[(false,eval a X.env)]:=by rfl) (hpl:(D_ pos (B4 [] X.env)).any (·.1)=false:=by rfl) :
  PE X (.Call (.Name "sorted" p) [.Call (.Name "set" p2) [a] [] pos2] [] pos) (qW K ta):=by
 subst hK
 intro pins s σ H Q I h
 refine HR (fj I hg1 hm1 kW ?_)
 refine EF ?_ (by rw[ho];rfl) hpl
 rw[ho]
 show li _ _ (Je [(false,eval (.Call (.Name "set" p2) [a] [] pos2) X.env)]) _ _ s
 refine Ec ?_
 refine HR (fj I hg hm A9 (Cy (thn (ha pos2 pins s σ H _ I h) λus s1 ⟨vs,H1,I1,r1,q1⟩=>?_) hs rfl))
 obtain⟨l,ns,rfl,hq,hn,q⟩:=q1
 obtain⟨u,rfl,ru⟩:=jz r1
 cases ru
 obtain⟨its,rv,pl,hz⟩:=I1.list hq
 have hl:its.length=ns.length:=by have:=rv.length;rw[f8]at this;omega
 refine Br (I1.ok.hd hc) pl.isList (lR rv) (by rw[on,hl];show _<4096;omega) λh' tk hS hk=>EL ?_
 rw[show its.toArray.size=ns.length by rw[on,hl]]at hS
 have hle:=JV (λi=>ns.getD i 0) ns.length
 refine xO (s:={s1 with heap:=h',toks:=tk}) (by exact I1.ok.hd hc) hS (iI _ _) (by omega) λh2 tk2 dr D out e ns' k2 sz ge b1 b2 b3=>?_
 have hlen:ns'.length<64:=by rw[b2.length_eq];omega
 have I2:Inv X pins σ H1 {s1 with heap:=h',toks:=tk}:=I1.kept (t':=tk) hk
 have hst:ns'.Pairwise (· < ·):=by
  have nd:ns'.Nodup:=b2.nodup_iff.mpr (iI _ _)
  exact(Hw b3 nd).imp λ{a b} z=>by have h1:=z.1;have h2:=z.2;omega
 have hm':∀x,x∈ns'↔x∈ns:=λx=>by rw[b2.mem_iff];exact y4 ns x
 have I3:=(I2.laid (t':=tk2) (o:=.lst (ns'.map V.int)) k2 sz ⟨by rw[f8];exact CN (eh (n:=ns'.length) (by omega)),out.toList,e,f9 b1,by rw[ge]⟩).drawn dr
 exact⟨.ref D,_,I3,rfl,q ns' hst hm' D (I2.hok.fresh sz)⟩
section
variable {K:bi}{ts:TA}{as:AA}
@[irreducible] def jR (r:R):AE:=λρ q=>match view ρ r with
 | some (.lst ds)=>(match fk ds with | some ns=>ns.length<64/\(∀ns':List Int,ns'.Pairwise (· < ·)->(∀x,x∈ns'↔x∈ns)->q (.f (ns'.map D.int)) ρ) | none=>False)
 | _=>False
def xA (as:AA):AE:=λρ q=>as ρ λrs ρ1=>match rs with
 | [r]=>jR r ρ1 q
 | _=>False
theorem pz (h:TAok K ts as):TEok K (qW K ts) (xA as):=by
 intro F σ ρ H q Q r ha k
 refine h F σ ρ H _ _ r ha λrs ρ1 vs H1 h1 r1 i1 k1=>?_
 split at h1
 ·obtain⟨x,rfl,ix⟩:=i1.one
  unfold jR at h1
  split at h1
  ·rename_i ds e
   split at h1
   ·rename_i ns e'
    obtain⟨l,us,rfl,sq,rd⟩:=cG r1 ix e
    rw[kM e',gf]at rd
    rw[rd]at sq
    exact⟨l,ns,rfl,sq,h1.1,λns' a1 a2 p hp=>(k.after k1).new r1 (h1.2 ns' a1 a2) (gf.mpr rfl) hp⟩
   ·exact h1.elim
  ·exact h1.elim
 ·exact h1.elim
theorem qu {r:R}{ρ:En}{q:Ko}{ns:List Int}(hv:view ρ r=some (.lst (ns.map D.int)))(h64:ns.length<64)(h1:∀ns':List Int,ns'.Pairwise (· < ·)->(∀x,x∈ns'↔x∈ns)->q (.f (ns'.map D.int)) ρ):jR r ρ q:=by
 unfold jR
 simp only[hv,lQ]
 exact⟨h64,h1⟩
theorem j6:∀ {xs ys:List Int},xs.Pairwise (· < ·)->ys.Pairwise (· < ·)->(∀x,x∈xs↔x∈ys)->xs=ys
 | [],[],_,_,_=>rfl
 | [],y::ys,_,_,h=>absurd ((h y).mpr (.head _)) (by simp)
 | x::xs,[],_,_,h=>absurd ((h x).mp (.head _)) (by simp)
 | x::xs,y::ys,h1,h2,h=>by
  obtain⟨a1,b1⟩:=Dz.mp h1
  obtain⟨a2,b2⟩:=Dz.mp h2
  have e:x=y:=by
   rcases sK.mp ((h x).mp (.head _))with e | e
   ·exact e
   ·rcases sK.mp ((h y).mpr (.head _))with e' | e'
    ·exact e'.symm
    ·have:=a2 x e
     have:=a1 y e'
     omega
  subst e
  congr 1
  refine j6 b1 b2 λz=>?_
  constructor
  ·intro hz
   rcases sK.mp ((h z).mp (.tail _ hz))with e | e
   ·have:=a1 z hz;omega
   ·exact e
  ·intro hz
   rcases sK.mp ((h z).mpr (.tail _ hz))with e | e
   ·have:=a2 z hz;omega
   ·exact e
end
end L2
namespace L2
open PySem PySem.Spec PyProof.Rows PySem.W
end L2
namespace L2
open PySem PySem.Spec PyProof.Rows
end L2
namespace L2
open PySem PySem.Spec PyProof.Rows PySem.W
end L2
namespace L2
open PySem PySem.Spec PyProof.Rows
theorem oP (elt target iter:Expr)(ifs:List Expr)(scope:DF)(pos:Pos)(it:bn)(D:Addr)(env:Env) :
  FY (.SetComp elt [⟨target,iter,ifs,0⟩] scope pos) 0 it (.ref D) env=(do
   Ev iter.pos
   match <- Et it with
   | none=>pure (.done .next)
   | some v =>
    Dh target it v
    Ea target env v
    let mut ok:=true
    for c in ifs do
     if ok then ok <- FH c env (eval c env)
    if ok then
     (do
      let v <- eval elt env
      Ev elt.pos
      let _ <- call (.builtin "set.add") [.ref D,v])
    Ip (.compLoop (.SetComp elt [⟨target,iter,ifs,0⟩] scope pos) 0 it (.ref D) env)):=by rfl
section
variable {P:wS}{w:B_}{A:Cg}{E:bn->ca->Prop}{R:E1->ca->Prop}{s:ca}
theorem gM {elt target iter ifs rest scope pos it acc env}
  (h0:CY (pc P w) A (.compLoop (.SetComp elt (⟨target,iter,ifs,0⟩::rest) scope pos) 0 it acc env) R s)
  (h:li (pc P w) A (Gu it) (λit' s'=>CY (pc P w) A (.compLoop (.SetComp elt (⟨target,iter,ifs,0⟩::rest) scope pos) 0 it' acc env) R s')
   (notedBy (pc P w) A env λx s'=>R (.error x) s') s) :
  CY (pc P w) A (.compStart (.SetComp elt (⟨target,iter,ifs,0⟩::rest) scope pos) 0 it acc env) R s:=by
 refine Ge ?_
 show li _ A ((IS (.SetComp elt (⟨target,iter,ifs,0⟩::rest) scope pos) 0 it acc env).onRaise (λx=>do FX x env;Ev Kx)) _ _ s
 refine wpAny_notedAt ?_
 unfold IS
 show li _ A (ask>>=_) _ _ s
 refine bm (DG (wpAny_ite ?_))
 split
 ·first
   | exact bm (dL (dL (And.intro rfl h0)))
   | exact dL (And.intro rfl h0)
 ·first
   | exact bm (DX (bm (C4 (bm (Dt h (λit' s' h'=>dL (And.intro rfl h')) λ_ _ x=>x)))))
   | (refine bm (DX ?_);show li _ _ (Ev iter.pos>>=_) _ _ s;exact bm (C4 (bm (Dt h (λit' s' h'=>dL (And.intro rfl h')) λ_ _ x=>x))))
theorem wQ {q:bn->ca->Prop}(h:q (.ref s.heap.objs.size) {s with heap:=s.heap.push (setO w)}):li (pc P w) A (newSet (.type "set")) q E s:=by
 unfold newSet G3
 refine bm (bm (DG (dL ?_)))
 dsimp only;simp only[newObj]
 exact bm (wpAny_alloc (dL h))
theorem wt {D:Addr}{ks:List Int}{k:Int}{t:Tok}{Q:bn->ca->Prop}(hS:SetI P w s.heap D ks)(hr:ks.length+1<EB)
  (h:∀h',Cw D s.heap h'->SetI P w h' D (El ks k)->Q .none {s with heap:=h',toks:=s.toks+1}):li (pc P w) A (call (.builtin "set.add") [.ref D,.int k t]) Q E s:=by
 have hT:s.TypeIs (.ref D) "set" := by
  obtain⟨o,_,_,_,ho,ex,_⟩:=hS
  exact⟨_,ho,ex.1⟩
 refine Dl PySem.F.slot_set_add hT PySem.F.entry_set_add ?_ (PySem.F.args_set_add_2 _ _)
 unfold Builtin.«set.add» JI
 simp only[List.isEmpty_nil,bind_assoc]
 unfold JK setAdd
 refine bm (dL ?_)
 try dsimp only
 refine bm (dL ?_)
 try dsimp only
 refine bm ?_
 refine DH ?_
 refine bm ((DN P w).pyHash (k:=k) (Ii _ _ _ _) ?_)
 refine Be (s:={s with toks:=s.toks+1}) (Ii _ _ _ _) rfl hS hr λh' b hsb hS'=>?_
 show li _ _ (ret Value.none) _ _ _
 exact dL ⟨_,rfl,h h' hsb hS'⟩
end
def ddl (ys:List Int):List Int:=ys.foldl El []
theorem jS (ys:List Int)(k:Int):ddl (ys++[k])=El (ddl ys) k:=by unfold ddl;rw[EO];rfl
theorem BD (ks:List Int)(k:Int):(El ks k).length<=ks.length+1:=by
 by_cases h:k∈ks
 ·rw[xt h];omega
 ·rw[rT h,wP];exact lm _
theorem mv {p:List Int->Prop}(h0:p [])(h1:∀ys k,p ys->p (ys++[k]))(ys:List Int):p ys:=by
 rw[<- List.reverse_reverse ys]
 induction ys.reverse with
 | nil=>exact h0
 | cons k zs ih=>rw[List.reverse_cons];exact h1 _ _ ih
theorem x_ (ys:List Int):(ddl ys).length<=ys.length:=by
 refine mv (p:=λys=>(ddl ys).length<=ys.length) (lm _) (λys k h=>?_) ys
 rw[jS,wP]
 have:=BD (ddl ys) k
 simp only[DV]
 omega
theorem vz (ys:List Int)(x:Int):x∈ddl ys↔x∈ys:=by
 refine mv (p:=λys=>x∈ddl ys↔x∈ys) Hx (λys k h=>?_) ys
 rw[jS,ya,h,xL,sn]
theorem kR (ys:List Int):(ddl ys).Nodup:=by
 refine mv (p:=λys=>(ddl ys).Nodup) Hr (λys k h=>?_) ys
 rw[jS]
 by_cases hk:k∈ddl ys
 ·rw[xt hk];exact h
 ·rw[rT hk,C_]
  exact⟨h,by simp,λa ha b hb e=>hk (by rw[sn.mp hb]at e;exact e▸ha)⟩
section
variable {P:wS}{w:B_}{A:Cg}{R:E1->ca->Prop}{s:ca}
theorem oQ {elt tg iter:Expr}{ifs:List Expr}{scope:DF}{pos:Pos}{it:bn}{D:Addr}{env:Env}(J:Nat->ca->Prop)
  (turn:∀n s,J n s->li (pc P w) A (Et it) (λr s1=>match r with
   | none=>R (.ok .next) s1
   | some v=>li (pc P w) A (Dh tg it v) (λ_ s2=>li (pc P w) A (Ea tg env v) (λ_ s3 =>
     li (pc P w) A (forIn ifs true λc r=>if r=true then do let ok <- FH c env (eval c env);pure (ForInStep.yield ok)else pure (ForInStep.yield r)) (λok s4 =>
      if ok=true then li (pc P w) A (eval elt env) (λv s5=>li (pc P w) A (call (.builtin "set.add") [.ref D,v]) (λ_ s7=>∃m,m<n/\J m s7) (λ_ _=>False) s5) (λ_ _=>False) s4
      else ∃m,m<n/\J m s4) (λ_ _=>False) s3) (λ_ _=>False) s2) (λ_ _=>False) s1) (λ_ _=>False) s)
  (n:Nat) (h:J n s):CY (pc P w) A (.compLoop (.SetComp elt [⟨tg,iter,ifs,0⟩] scope pos) 0 it (.ref D) env) R s:=by
 have no:∀ {α:Type} {t:Sem α} {Q Q':α->ca->Prop} {E:bn->ca->Prop} {s:ca},li (pc P w) A t Q (λ_ _=>False) s->(∀a s,Q a s->Q' a s)->li (pc P w) A t Q' E s :=
  λh hq=>Dt h hq λ_ _ f=>f.elim
 refine F5 rfl J (λn s hJ=>?_) n h
 show li _ A ((FY (.SetComp elt [⟨tg,iter,ifs,0⟩] scope pos) 0 it (.ref D) env).onRaise (λx=>do FX x env;Fw x)) _ _ s
 refine Gr ?_
 rw[oP]
 refine bm (C4 (bm (no (turn n s hJ) λr s1 h1=>?_)))
 cases r with
 | none=>exact dL h1
 | some v =>
  refine bm (no h1 λ_ s2 h2=>bm (no h2 λ_ s3 h3=>bm (no h3 λok s4 h4=>?_)))
  cases ok with
  | false=>exact dL ⟨rfl,h4⟩
  | true=>exact bm (bm (no h4 λx s5 h5=>bm (C4 (bm (no h5 λ_ s7 h7=>dL (dL ⟨rfl,h7⟩))))))
end
def yd (J:It)(n:Nat)(js:List Nat)(g:TG)(tc:TT)(te:TE)(R:List Int->Hp->Prop)(σ:St)(H1:Hp):Prop:=∃W:Nat->Nat->List Int->Hp->Prop,(∃m,W 0 m [] H1)/\∀i m ys H,W i m ys H ->
 (J.stop i H/\R ys H) ∨
 (J.go i H/\ys.length+1<4096/\∃N:List Int->Hp->Prop,(∀zs H',N zs H'->∃m',m'<m/\W (i+1) m' zs H')/\∀x H',J.yld i H x H'->g x (bst n σ js) H' λσ2 H2=>σ2.drop n=capt σ js/\tc σ2 H2 λb H3 =>
  if b=true then te σ2 H3 λv H4=>∃k:Int,v = .int k/\N (ys++[k]) H4 else N ys H3)
def t6 (n:Nat)(js:List Nat)(wi:TI)(g:TG)(tc:TT)(te:TE):TE:=λσ H Q=>wi σ H λJ H1=>yd J n js g tc te (λys H'=>(ddl ys).length<64/\∀ns':List Int,ns'.Pairwise (· < ·)->(∀x,x∈ns'↔x∈ys)->∀l,H' l=none->Q (.ref l) (upd H' l (.lst (ns'.map V.int)))) σ H1
def zQ (X:Cx)(pins:List (Addr×Obj))(σ:St)(Q:List Int->Hp->Prop)(C:Addr)(acc:bn)(s':ca):Prop :=
 ∃(D:Addr) (H:Hp) (m:Str->Option bn) (ys:List Int),acc = .ref D/\s'.heap.Ns C m/\Inv X pins σ H s'/\H C=none/\X.s₀.heap.objs.size<=C/\C≠X.env.locals/\(∀x d,X.env.cells.lookup x=some d->d≠C)/\(∀p∈X.pn++pins,p.1≠C)/\D≠C/\SetI X.prog X.w s'.heap D (ddl ys)/\Q ys H
section
variable {X:Cx}
theorem qA {elt tg iter:Expr}{ifs:List Expr}{scope:DF}{pos:Pos}{own:List Str}{js:List Nat}{g:TG}{tc:TT}{te:TE}{Q:List Int->Hp->Prop}{pins:List (Addr×Obj)}{σ:St}{s2:ca}{itv:bn}{E:bn->ca->Prop}
  {RR:bn->Addr->E1->ca->Prop} (hc:X.calm=true) (B:Blk X scope own js) (hg:∀s H C fp,(own++capN X.N js).Nodup->PG (blk X scope (own++capN X.N js) s H C fp) tg g) (ht:∀s H C fp,PTs (blk X scope (own++capN X.N js) s H C fp) ifs tc)
  (he:∀s H C fp,PE (blk X scope (own++capN X.N js) s H C fp) elt te)
  (h:PIE X pins σ tg (λJ H1=>yd J own.length js g tc te Q σ H1) itv s2)
  (hR:∀C acc s',zQ X pins σ Q C acc s'->RR acc C (.ok .next) s') :
  li (pc X.prog X.w) X.A (newSet (.type "set")) (λacc s3=>li (pc X.prog X.w) X.A (Gv scope X.env.globals (cS scope X.env) [] X.env.qual none .none (some X.env)) (λcenv s4 =>
   CY (pc X.prog X.w) X.A (.compStart (.SetComp elt [⟨tg,iter,ifs,0⟩] scope pos) 0 itv acc {cenv with scope:=GD scope X.env}) (RR acc cenv.locals) s4) E s3) E s2:=by
 obtain⟨it,fp,tn,J,H2,rfl,I2,T,st2,f2,W,⟨m0,w0⟩,turn⟩:=h
 refine wQ (Fj B.nocell (by intro y hy;simp at hy) (λh1 hns1 hsb1=>?_) B.kind)
 have hnew:SetI X.prog X.w (s2.heap.push (setO X.w)) s2.heap.objs.size []:=q5 s2.heap
 generalize hPu:s2.heap.push (setO X.w)=Pu at hns1 hsb1 hnew ⊢
 dsimp only at hns1 hsb1 ⊢
 have hDC:Pu.objs.size=s2.heap.objs.size+1:=by rw[<- hPu,CI]
 have hbig:=I2.big
 generalize hD:s2.heap.objs.size=D at hDC hnew hbig ⊢
 generalize hC:Pu.objs.size=C at hns1 hsb1 hDC ⊢
 have ltDC:D<C:=by rw[hDC];exact DB D
 have neDC:D≠C:=ww ltDC
 have keep1:∀b o,s2.heap.get? b=some o->h1.get? b=some o:=λb o e=>by
  have hb:b<D:=by rw[<- hD];exact lc e
  have hb2:b≠C:=ww (DO hb ltDC)
  refine(hsb1.2 b hb2).trans (db _ ?_)
  rw[<- hPu]
  exact db _ e
 have gD1:SetI X.prog X.w h1 D []:=hnew.kept λo e=>(hsb1.2 D neDC).trans (db _ e)
 have szD:s2.heap.objs.size<=D:=Fs hD
 have szC:s2.heap.objs.size<=C:=xz szD (CN ltDC)
 have old:∀ {b:Addr},b<s2.heap.objs.size->b≠D/\b≠C:=λhb=>⟨ww (zn hb szD),ww (zn hb szC)⟩
 have fpo:∀b∈fp,∃o,s2.heap.get? b=some o:=λb hb=>let ⟨o,e,_⟩:=T.obj 0 _ st2 b hb;⟨o,e⟩
 have fpD:∀b∈fp,b≠D/\b≠C:=λb hb=>by
  obtain⟨o,e⟩:=fpo b hb
  exact old (lc e)
 have clD:∀x d,X.env.cells.lookup x=some d->d≠D/\d≠C:=λx d e=>by
  obtain⟨v,o,ho,_⟩:=I2.cell x d e
  exact old (lc ho)
 have pinD:∀p∈X.pn++pins,p.1≠D/\p.1≠C:=λp hp=>by
  exact old (lc (I2.pin p hp).1)
 have locD:D≠X.env.locals/\C≠X.env.locals:=by
  exact⟨(old I2.lt).1.symm,(old I2.lt).2.symm⟩
 let Y:=blk X scope (own++capN X.N js) s2 H2 C fp
 have IB:Inv Y [] (bst own.length σ js) H2 {s2 with heap:=h1,toks:=s2.toks+([]:List (Str×bn)).length}:=nr B I2 f2 fpo szC hns1 keep1
 have fpB:∀ {H':Hp} {pl:List (Addr×Obj)},(∀b∈fp,H' b=none)->(∀p∈pl,p.1=D)->∀b∈fp,FpOk Y pl H' b:=λ{H' pl} hn hp b hb=>by
  obtain⟨f0,f1,f3,f4,f5,f6⟩:=f2 b hb
  refine⟨hn b hb,(fpD b hb).2,λz=>?_,.inl hb,λx c e=>f5 x c (cn e),λp q=>?_⟩
  ·rcases sK.mp (I2.stkSub b z)with z | z
   ·exact f1 z
   ·exact f3 z
  ·have q':p∈pl:=by simpa [Y,blk] using q
   rw[hp p q']
   exact(fpD b hb).1.symm
 have clB:∀x d,Y.env.cells.lookup x=some d->d≠D:=λx d e=>(clD x d (cn e)).1
 have notFs:D∉Y.fs:=λz=>by
  obtain⟨_,o,ho,_⟩:=IB.ok.funs.mem z
  exact(old (lc (show s2.heap.get? D=some o from ho))).1 rfl
 have loop:∀s3:ca,s3={s2 with heap:=h1,toks:=s2.toks+([]:List (Str×bn)).length} ->
   CY (pc X.prog X.w) X.A (.compLoop (.SetComp elt [⟨tg,iter,ifs,0⟩] scope pos) 0 (.ref it) (.ref D) (Ik scope (cS scope X.env) C X.env)) (RR (.ref D) C) s3:=by
  rintro s3 rfl
  refine oQ (λn s'=>∃(i:Nat) (ys:List Int) (H':Hp),Inv Y [] (bst own.length σ js) H' s'/\tn i s'.heap/\(∀b∈fp,H' b=none)/\H' D=none /\
   SetI X.prog X.w s'.heap D (ddl ys)/\W i n ys H') ?_ m0 ⟨0,[],H2,IB,T.keep 0 _ _ st2 (λb hb o e=>keep1 b o e),λb hb=>(f2 b hb).1,I2.hok.fresh szD,gD1,w0⟩
  rintro n s3 ⟨i,ys,H3,I3,st3,fr3,hD3,g3,w3⟩
  obtain⟨od,ho3,ncell⟩:∃od,s3.heap.get? D=some od/\∀v,od.data ≠ .cell v:=by
   obtain⟨o,es,ep,t,ho,_,hda,_⟩:=g3
   exact⟨o,ho,λv z=>by rw[hda]at z;cases z⟩
  have dat3:∀ {h:Heap},h.get? D=some od->SetI X.prog X.w h D (ddl ys):=λe=>g3.kept λo e'=>by rw[ho3]at e';cases e';exact e
  have I3p:Inv Y [(D,od)] (bst own.length σ js) H3 s3:=I3.pins_of λp hp=>by
   have e:p=(D,od):=by simpa using hp
   subst e
   exact⟨ho3,hD3,neDC,notFs,ncell⟩
  have f3:∀b∈fp,FpOk Y [(D,od)] H3 b:=fpB fr3 λp hp=>by
   have e:p=(D,od):=by simpa using hp
   rw[e]
  rcases turn i n ys H3 w3 with⟨stop,qn⟩ | ⟨go,hz,N,hN,step⟩
  ·refine thn (T.done Y rfl rfl rfl hc i _ s3 _ H3 (λ_ _=>False) I3p f3 st3 stop) λr s4 ⟨hr,I4⟩=>?_
   subst hr
   refine hR C _ s4 ?_
   have g4:=(I4.pin (D,od) (by simp[Y,blk])).1
   obtain⟨m,hn4,_⟩:=id I4.loc
   have un:Un (frs X.stack) fp H2 H3 s2.heap s4.heap:=I4.base
   have I5:Inv X pins σ H3 s4:=I2.call' I4.os un I4.hok I4.bare λb hb=>let ⟨_,b1,_,b3,b4,b5⟩:=f2 b hb;⟨b3,b1,b4,b5⟩
   exact⟨D,_,m,ys,rfl,hn4,I5,I4.free,xz I2.sz szC,locD.2,λx d e=>(clD x d e).2,λp hp=>(pinD p hp).2,neDC,dat3 g4,qn⟩
  ·refine thn (T.item Y rfl rfl rfl hc i _ s3 _ H3 (λ_ _=>False) I3p f3 st3 go) λr s4 ⟨u,hr,h4⟩=>?_
   subst hr
   refine thn h4 λ_ s5 ⟨x,H5,I5,r5,y5,st5,fr5⟩=>?_
   have f5:∀b∈fp,FpOk Y [(D,od)] H5 b:=λb hb=>⟨fr5 b hb,(f3 b hb).2⟩
   have I5':=I5.pinned f5 (T.obj _ _ st5)
   refine thn (hg s2 H2 C fp B.nd _ s5 _ H5 x u _ I5' r5 (step x H5 y5)) λ_ s6 ⟨σ6,H6,I6,d6,q6⟩=>?_
   refine thn (ht s2 H2 C fp _ s6 σ6 H6 _ I6 q6) λok s7 ⟨H7,I7,q7⟩=>?_
   have after:∀ {s8:ca} {H8:Hp},Inv Y ([(D,od)]++fW fp s5.heap) σ6 H8 s8 ->
     s8.heap.get? D=some od/\H8 D=none/\tn (i+1) s8.heap/\(∀b∈fp,H8 b=none)/\Inv Y [] (bst own.length σ js) H8 s8:=λ{s8 H8} I8=>by
    have p8:=I8.pin (D,od) (by simp[Y,blk])
    refine⟨p8.1,p8.2.1,T.keep _ _ _ st5 λb hb o e=>(I8.pin (b,o) (im _ (im _ (bX hb e)))).1,λb hb=>?_,?_⟩
    ·obtain⟨o,e,_⟩:=T.obj _ _ st5 b hb
     exact(I8.pin (b,o) (im _ (im _ (bX hb e)))).2.1
    ·refine(I8.pins_of (pins':=[]) λp hp=>absurd hp (by simp[Y,blk])).weak ?_ λj v e=>?_
     ·rw[I8.len,fQ]
      show _=(own++capN X.N js).length
      unfold capN
      simp
     ·rcases B7 j own.length with z | z
      ·exfalso
       unfold bst at e
       rw[BY (by simpa using z),CP]at e
       split at e <;> cases e
      ·unfold bst at e
       rw[Ci (by simpa using z),Dd,<- d6,Co]at e
       rw[<- e]
       congr 1
       omega
   cases ok with
   | false =>
    rw[if_neg Ca]at q7 ⊢
    obtain⟨m',hm,w7⟩:=hN _ _ q7
    obtain⟨a1,a2,a3,a4,a5⟩:=after I7
    exact⟨m',hm,i+1,ys,H7,a5,a3,a4,a2,dat3 a1,w7⟩
   | true =>
    rw[if_pos rfl]at q7 ⊢
    refine thn (he s2 H2 C fp _ s7 σ6 H7 _ I7 q7) λu9 s9 ⟨v9,H9,I9,r9,kk,ek,n9⟩=>?_
    subst ek
    obtain⟨t9,rfl⟩:=r9
    obtain⟨m',hm,w9⟩:=hN _ _ n9
    obtain⟨a1,a2,a3,a4,a5⟩:=after I9
    refine wt (dat3 a1) (by have:=x_ ys;show(ddl ys).length+1<4096;omega) λh' sb dd'=>?_
    have I10:=(Inv.young a5 sb a2 szD neDC clB (λp hp=>absurd hp (by show p∉[]++[];simp))).tok (s9.toks+1)
    exact⟨m',hm,i+1,ys++[kk],H9,I10,T.keep _ _ _ a3 (λb hb o e=>(sb.2 b (fpD b hb).1).trans e),a4,a2,by rw[jS];exact dd',w9⟩
 exact gM (loop _ rfl) (T.self _ 0 _ _ _ (T.keep 0 _ _ st2 λb hb o e=>keep1 b o e) (loop _ rfl))
theorem nN {elt tg iter:Expr}{ifs:List Expr}{scope:DF}{p pos cpos:Pos}(own:List Str)(js:List Nat){wi:TI}{g:TG}{tc:TT}{te:TE}(hc:X.calm=true)(hg1:Gl X "sorted")(hm1:X.mg "sorted" = none)(B:Blk X scope own js)(hi:PI X tg iter wi)
  (hg:∀s H C fp,(own++capN X.N js).Nodup->PG (blk X scope (own++capN X.N js) s H C fp) tg g) (ht:∀s H C fp,PTs (blk X scope (own++capN X.N js) s H C fp) ifs tc) (he:∀s H C fp,PE (blk X scope (own++capN X.N js) s H C fp) elt te)
  (hs:∀x,C7 iter X.env x=pure x:=by intro _;rfl)
  (ho:B4 [.SetComp elt [⟨tg,iter,ifs,0⟩] scope cpos] X.env=[(false,eval (.SetComp elt [⟨tg,iter,ifs,0⟩] scope cpos) X.env)]:=by rfl) (hpl:(D_ pos (B4 [] X.env)).any (·.1)=false:=by rfl) :
  PE X (.Call (.Name "sorted" p) [.SetComp elt [⟨tg,iter,ifs,0⟩] scope cpos] [] pos) (t6 own.length js wi g tc te):=by
 intro pins s σ H Q I h
 refine HR (fj I hg1 hm1 kW ?_)
 refine EF ?_ (by rw[ho];rfl) hpl
 rw[ho]
 show li _ _ (Je [(false,eval (.SetComp elt [⟨tg,iter,ifs,0⟩] scope cpos) X.env)]) _ _ s
 refine Ec ?_
 have hcl:E_ scope X.env=pure (cS scope X.env):=cJ λx hx hf=>I.ok.has x.1 (B.free x hx hf)
 show li _ X.A (FP (.SetComp elt [⟨tg,iter,ifs,0⟩] scope cpos) scope X.env _ (newSet (.type "set")) false (eval iter X.env)) _ _ s
 refine DI (use:=none) rfl hs hcl B.kind B.names (thn (hi pins s σ H _ I h) λv s1 h1=>thn h1 λitv s2 h2=>?_)
 refine qA (RR:=λacc C=>Hf (pc X.prog X.w) X.A X.xe none _ acc C) hc B hg ht he h2 λC acc s' hb=>?_
 obtain⟨D,H',m,ys,rfl,hn,I',c1,c2,c3,c4,c5,c6,hS,h64,q⟩:=hb
 refine⟨m,hn,λh' hs'=>EL ?_⟩
 have I2:=I'.young hs' c1 c2 c3 c4 c5
 have hS2:SetI X.prog X.w h' D (ddl ys):=hS.kept λo e=>(hs'.2 D c6).trans e
 refine xO (s:={s' with heap:=h'}) (by exact I2.ok.hd hc) hS2 (kR _) h64 λh2 tk2 dr D2 out e ns' k2 sz ge b1 b2 b3=>?_
 have hlen:ns'.length<64:=by rw[b2.length_eq];exact h64
 have hst:ns'.Pairwise (· < ·):=by
  have nd:ns'.Nodup:=b2.nodup_iff.mpr (kR _)
  exact(Hw b3 nd).imp λ{a b} z=>by have h1:=z.1;have h2:=z.2;omega
 have hm':∀x,x∈ns'↔x∈ys:=λx=>by rw[b2.mem_iff];exact vz ys x
 have I3:=(I2.laid (t':=tk2) (o:=.lst (ns'.map V.int)) k2 sz ⟨by rw[f8];exact CN (eh (n:=ns'.length) (by omega)),out.toList,e,f9 b1,by rw[ge]⟩).drawn dr
 exact⟨.ref D2,_,I3,rfl,q ns' hst hm' D2 (I2.hok.fresh sz)⟩
end
def gK (n:Nat)(js:List Nat)(c:En->Prop)(g:AG)(tc:AT)(te:AE)(q:List Int->En->Prop):List D->List Int->En->Prop
 | [],acc,ρ=>c ρ/\q acc ρ
 | d::ds,acc,ρ=>c ρ/\g d (blkE n js ρ) λρ1=>tc ρ1 λb ρ2=>if b=true then te ρ2 λr ρ3=>(match r with
   | .d (.int k)=>gK n js c g tc te q ds (acc++[k]) (back ρ (js.map R.o) (ρ3.drop n))
   | _=>False)else gK n js c g tc te q ds acc (back ρ (js.map R.o) (ρ2.drop n))
def zH (n:Nat)(js:List Nat)(i:AI)(g:AG)(tc:AT)(te:AE):AE:=λρ q=>i ρ λds c ρ1=>ds.length<=4000/\gK n js c g tc te (λns ρ2=>(ddl ns).length<64/\∀ns':List Int,ns'.Pairwise (· < ·)->(∀x,x∈ns'↔x∈ns)->q (.f (ns'.map D.int)) ρ2) ds [] ρ1
section
variable {K:bi}
theorem lC {n:Nat}{js:List Nat}{wi:TI}{g:TG}{tc:TT}{te:TE}{ai:AI}{ag:AG}{atc:AT}{ae:AE}(hi:TIok K (λ_=>true) wi ai)(hg:TGok K (λj=>decide (n<=j)) g ag)(hc:TTok K tc atc)(he:TEok K te ae)
  (hd:dis (js.map R.o)=true:=by rfl):TEok K (t6 n js wi g tc te) (zH n js ai ag atc ae):=by
 intro F σ ρ H q Q r h k
 refine hi F σ ρ H _ _ r h λds c ρ1 J H1 h1 r1 k1 wk=>?_
 obtain⟨hz,h1⟩:=h1
 have hd':dis (blkR n js)=true:=by rw[iV];exact hd
 refine⟨λi m ys H'=>∃ ρ',m=ds.length - i/\i<=ds.length/\Rel K F σ ρ' H'/\Kp σ ρ1 ρ' H1 H'/\ys.length<=i/\gK n js c ag atc ae (λns ρ2=>(ddl ns).length<64/\∀ns':List Int,ns'.Pairwise (· < ·)->(∀x,x∈ns'↔x∈ns)->q (.f (ns'.map D.int)) ρ2) (ds.drop i) ys ρ',⟨ds.length,ρ1,rfl,B0 _,r1,.refl,B0 _,h1⟩,?_⟩
 rintro i m ys H' ⟨ρ',rfl,hl,r',k',al,h'⟩
 have w:c ρ'->WkAt K (hs F σ ρ') H' J ds:=λhc=>wk σ ρ' H' k'.vis r'.sl (λ_ _ _ e=>e) (λa z=>sV r' z) hc
 rcases B7 i ds.length with lt | ge
 ·right
  rw[Cf lt]at h'
  unfold gK at h'
  obtain⟨hcc,h'⟩:=h'
  obtain⟨go,yld⟩:=(w hcc i).1 ds[i] (bv lt)
  refine⟨go,by omega,λzs H2=>∃ ρ2,Rel K F σ ρ2 H2/\Kp σ ρ1 ρ2 H1 H2/\zs.length<=i+1/\gK n js c ag atc ae (λns ρ2=>(ddl ns).length<64/\∀ns':List Int,ns'.Pairwise (· < ·)->(∀x,x∈ns'↔x∈ns)->q (.f (ns'.map D.int)) ρ2) (ds.drop (i+1)) zs ρ2,
   λzs H2 ⟨ρ2,a1,a2,a4,a5⟩=>⟨ds.length - (i+1),by omega,ρ2,rfl,lt,a1,a2,a4,a5⟩,λx H2 hy=>?_⟩
  obtain⟨sm,rx⟩:=yld x H2 hy
  have r0':=r'
  have k':Kp σ ρ1 ρ' H1 H2:=k'.trans ⟨λa o e _=>sm a o e,λ_ h=>h⟩
  have r':=r0'.grow sm
  have src:=jT (K:=K) (F:=F) (σ:=σ) (ρ:=ρ') (H:=H2) n js
  have rb:=r'.sub src hd'
  have hs2:=nF r' src
  rw[bu]at rb hs2
  have pin:∀i a,(dQ F σ ρ' H2 (bst n σ js) (blkE n js ρ')).pin i a->decide (n<=i)=true:=λi a h=>by
   rcases h with h | h
   ·exact decide_eq_true (jU h.1)
   ·exact h.elim
  have hlen:(bst n σ js).length=n+js.length:=fQ
  have ret:∀ σ2 ρ2 H3,Rel K (dQ F σ ρ' H2 (bst n σ js) (blkE n js ρ')) σ2 ρ2 H3->σ2.length=(bst n σ js).length->σ2.drop n=capt σ js->(∀i,(gt ρ2 i).own=true->(gt (blkE n js ρ') i).own=true) ->
    Rel K F σ (back ρ' (js.map R.o) (ρ2.drop n)) H3/\Kp σ ρ' (back ρ' (js.map R.o) (ρ2.drop n)) H2 H3/\Same (hid H3 (hs (dQ F σ ρ' H2 (bst n σ js) (blkE n js ρ')) σ2 ρ2)) (hid H3 (hs F σ (back ρ' (js.map R.o) (ρ2.drop n)))):=λσ2 ρ2 H3 rr hlen2 hdrop hown=>by
   obtain⟨f1,f2⟩:=rr.forget (n:=n) (by omega) λi a h=>of_decide_eq_true (pin i a h)
   rw[hdrop]at f1 f2
   have f1':Rel K (dQ F σ ρ' H2 (bst n σ js) ((blkR n js).map (c0 ρ'))) (bst n σ js) (o0 n .un++ρ2.drop n) H3:=by rw[bu];exact f1
   have bk:=r'.back src hd' f1' λi hi=>by
    rw[bu]
    rw[kN]at hi
    split at hi
    ·cases hi
    ·rename_i hni
     rw[ia,show n+(i - n)=i by omega]at hi
     exact hown i hi
   have ln:(o0 n Sv.un++ρ2.drop n).length=n+js.length:=by
    have:=rr.len
    simp;omega
   rw[iW js ρ' n _ ln,D0 (by simp),bu]at bk
   exact⟨bk.1,bk.2.1,f2.trans bk.2.2⟩
  refine hg _ (bst n σ js) (blkE n js ρ') H2 x _ _ _ pin rb (by rw[hs2];exact rx) h' λσ2 ρ2 h2 r2 l2 p2 o2=>?_
  have hdrop:σ2.drop n=capt σ js:=by
   have:σ2.drop n=(bst n σ js).drop n:=by
    apply DK
    intro i
    rw[Co,Co]
    exact p2 (n+i) (decide_eq_true (by omega))
   rw[this]
   unfold bst
   rw[D0 (by simp)]
  refine⟨hdrop,hc _ σ2 ρ2 H2 _ _ r2 h2 λb ρ3 H3 h3 r3 k3=>?_⟩
  cases b with
  | false =>
   obtain⟨b1,b2,_⟩:=ret σ2 ρ3 H3 r3 l2 hdrop λi hi=>(o2 i (k3.sb i hi)).1
   exact⟨_,b1,k'.trans b2,by omega,h3⟩
  | true =>
   refine he _ σ2 ρ3 H3 _ _ r3 h3 λr4 ρ4 v4 H4 h4 o4=>?_
   obtain⟨r4',k4,i4⟩:=o4.inF
   split at h4
   ·rename_i k0
    obtain⟨b1,b2,b3⟩:=ret σ2 ρ4 H4 r4' l2 hdrop λi hi=>(o2 i (k3.sb i (k4.sb i hi))).1
    exact⟨k0,i4.int,_,b1,k'.trans b2,by rw[wP];simp;omega,h4⟩
   ·exact h4.elim
 ·left
  rw[CH ge]at h'
  unfold gK at h'
  obtain⟨hcc,h64,h'⟩:=h'
  refine⟨(w hcc i).2 ge,h64,λns' a1 a2 l hl'=>?_⟩
  exact(k.after (k1.trans k')).new r' (h' ns' a1 a2) (gf.mpr rfl) hl'
end
abbrev zV (n:Nat)(js:List Nat)(g:AG)(tc:AT)(te:AE)(ρ:En)(d:D)(acc:List Int)(N:List Int->En->Prop):Prop :=
 g d (blkE n js ρ) λρ1=>tc ρ1 λb ρ2=>if b=true then te ρ2 λr ρ3=>(match r with
   | .d (.int k)=>N (acc++[k]) (back ρ (js.map R.o) (ρ3.drop n))
   | _=>False)else N acc (back ρ (js.map R.o) (ρ2.drop n))
theorem jn {α:Type}{n:Nat}{js:List Nat}{c:En->Prop}{g:AG}{tc:AT}{te:AE}{q:List Int->En->Prop}(h:α->D)(p:α->Bool)(f:α->Int){ρ:En}(hc:c ρ):∀ {xs:List α} {acc:List Int},(∀x acc (N:List Int->En->Prop),x∈xs->N (if p x=true then acc++[f x]else acc) ρ->zV n js g tc te ρ (h x) acc N) ->
  q (acc++(xs.filter p).map f) ρ->gK n js c g tc te q (xs.map h) acc ρ
 | [],acc,_,hd=>by
  simp only[JC,Dn,Cc]at hd
  unfold gK
  exact⟨hc,hd⟩
 | x::xs,acc,hs,hd=>by
  unfold gK
  refine⟨hc,hs x acc (λacc ρ=>gK n js c g tc te q (xs.map h) acc ρ) (.head _) (jn h p f hc (λy acc N hy=>hs y acc N (.tail _ hy)) ?_)⟩
  cases hp:p x <;> simp[hp]at hd ⊢ <;> exact hd
theorem zz {ys:List Int}{zs:List Int}(h:∀x∈ys,x∈zs)(hl:zs.length<64):(ddl ys).length<64 :=
 Fx (Cj (kR ys) λx hx=>h x ((vz ys x).mp hx)) hl
section
variable {X:Cx}
theorem wH {kx vx tg iter:Expr}{ifs:List Expr}{scope:DF}{pos:Pos}(own:List Str)(js:List Nat){wi:TI}{g:TG}{tc:TT}{tk tv:TE}(hc:X.calm=true)(B:Blk X scope own js)(hi:PI X tg iter wi)
  (hg:∀s H C fp,(own++capN X.N js).Nodup->PG (blk X scope (own++capN X.N js) s H C fp) tg g) (ht:∀s H C fp,PTs (blk X scope (own++capN X.N js) s H C fp) ifs tc) (hk:∀s H C fp,PE (blk X scope (own++capN X.N js) s H C fp) kx tk) (hv:∀s H C fp,PE (blk X scope (own++capN X.N js) s H C fp) vx tv)
  (hs:∀x,C7 iter X.env x=pure x:=by intro _;rfl):PE X (.DictComp kx vx [⟨tg,iter,ifs,0⟩] scope pos) (nE own.length js wi g tc tk tv):=by
 intro pins s σ H Q I h
 have hcl:E_ scope X.env=pure (cS scope X.env):=cJ λx hx hf=>I.ok.has x.1 (B.free x hx hf)
 show li _ X.A (FP (.DictComp kx vx [⟨tg,iter,ifs,0⟩] scope pos) scope X.env _ newDict false (eval iter X.env)) _ _ s
 refine DI (use:=none) rfl hs hcl B.kind B.names (thn (hi pins s σ H _ I h) λv s1 h1=>thn h1 λitv s2 h2=>?_)
 refine kS (RR:=λacc C=>Hf (pc X.prog X.w) X.A X.xe none (EP X pins σ Q) acc C) hc B hg ht hk hv h2 λC acc s' hb=>?_
 obtain⟨D,H',m,rfl,hn,I',c1,c2,c3,c4,c5,q⟩:=hb
 exact⟨m,hn,λh' hs'=>⟨.ref D,H',I'.young hs' c1 c2 c3 c4 c5,rfl,q⟩⟩
end
def lN (ks more:List (Key×D)):List (Key×D):=more.foldl (λacc kv=>putD acc kv.1 kv.2) ks
theorem oj {K:bi}{H:Hp}:∀ {ms:List (Key×V)} {more:List (Key×D)} {ks:List (Key×V)} {kvs:List (Key×D)},ms.map B1=more.map B1->RepDs K H (ms.map Cm) (more.map Cm)->ks.map B1=kvs.map B1->RepDs K H (ks.map Cm) (kvs.map Cm) ->
  (fh ks ms).map B1=(lN kvs more).map B1/\RepDs K H ((fh ks ms).map Cm) ((lN kvs more).map Cm)
 | [],[],_,_,_,_,e,r=>⟨e,r⟩
 | (k,v)::ms,(k',d)::more,ks,kvs,e1,r1,e,r=>by
  simp only[wE,EU]at e1
  obtain⟨rfl,e2⟩:=e1
  simp only[wE]at r1
  unfold RepDs at r1
  obtain⟨a,b⟩:=mB k r1.1 e r
  exact oj (ms:=ms) (more:=more) (ks:=putK ks k v) (kvs:=putD kvs k d) e2 r1.2 a b
 | [],_::_,_,_,e,_,_,_=>by cases e
 | _::_,[],_,_,e,_,_,_=>by cases e
def rDUpd:V->List V->Hp->VK->Prop:=λx vs H Q=>∃d o ks more,x = .ref d/\vs=[.ref o]/\d≠o/\H d=some (.dK ks)/\H o=some (.dK more)/\ks.length+more.length<=wT/\Q .non (upd H d (.dK (fh ks more)))
theorem y1 {X:Cx}:MtR X "dict.update" rDUpd:=by
 intro pins s σ H x vs v us Q I rx rv h
 obtain⟨d,o,ks,more,rfl,rfl,ne,hd,ho,hz,q⟩:=h
 cases rx
 obtain⟨u,rfl,ru⟩:=rv.one
 cases ru
 obtain⟨z1,n1,vs1,r1,dd1⟩:=I.hok d _ hd
 obtain⟨z2,n2,vs2,r2,dd2⟩:=I.hok o _ ho
 refine call_meetsIn Hj dd1.typeIs PySem.F.entry_dict_update (PySem.F.args_dict_update_2 _ _) (meets_dict_update (bG X.prog X.w) d o ne n2) ⟨vs1,vs2,dd1,dd2,by rw[<- r1.length,<- r2.length];exact hz,λh' hd' ho' hs=>?_⟩
 obtain⟨od,god,_⟩:=Ha.mp hd'
 refine⟨.non,_,I.write (x:=d) (e:=d) (o:=.dK (fh ks more)) (t':=s.toks) (h':=h') (by rw[hd];exact True.intro) (.inl rfl) (λb u nb e=>(hs.2 b nb).trans e) ⟨_,god⟩ (oN (xz (fK more ks) hz) n1 (KV.merge r2 r1) hd'),rfl,q⟩
def aUpd (i:Nat)(ac:AE):AE:=λρ q=>match gt ρ i with
 | .dk _=>ac ρ λr ρ1=>(match r,gt ρ1 i with
  | .n (.dk more),.dk kvs=>kvs.length+more.length<=1000000/\q (.d .non) (pt ρ1 i (.dk (lN kvs more)))
  | _,_=>False)
 | _=>False
theorem wc {K:bi}{tc:TE}{ac:AE}{i:Nat}(hc:TEok K tc ac):TEok K (tBM K "dict" rDUpd (tVar i) (ua tc tNil)) (aUpd i ac):=by
 intro F σ ρ H q Q r h k
 unfold aUpd at h
 split at h
 ·rename_i kvs0 hg0
  have s:=r.sl i
  rw[hg0]at s
  obtain⟨t,ks0,ex,ht0,_⟩:=s
  refine⟨.ref t,ex,.inr (.inr (.inl ⟨rfl,.inl ⟨_,ht0⟩⟩)),?_⟩
  refine hc F σ ρ H _ _ r h λr1 ρ1 v H1 h1 o=>?_
  split at h1
  ·rename_i more kvs hg
   obtain⟨hl,hq⟩:=h1
   obtain⟨Hb,l,ob,r2,k2,_,sv,hn,rfl,rfl⟩:=o
   obtain⟨l',ms,e,hl1,em,rm⟩:=sv
   injection e with e;injection e with e;injection e with e;subst e
   have s:=r2.sl i
   rw[hg,ex]at s
   obtain⟨t',ks,e,ht,ek,rk⟩:=s
   injection e with e;injection e with e;injection e with e;subst e
   have ne:t≠l:=bb ht hn
   have r3:=r2.fresh (o:=ob) hn
   have k3:Kp σ ρ1 ρ1 Hb (upd Hb l ob):=Kp.fresh hn
   have v3:=k3.vis (F:=F)
   obtain⟨p1,p2⟩:=oj em (rm.same v3) ek (rk.same v3)
   have ht1:upd Hb l ob t=some (.dK ks):=by rw[aQ ne];exact ht
   have hw:=r3.write (i:=i) (l:=t) (o:=.dK (fh ks ms)) (s:=.dk (lN kvs more)) (by rw[hg];rfl) ex rfl ⟨t,_,rfl,aR,p1,p2⟩
   refine⟨t,l,ks,ms,rfl,rfl,ne,ht1,hl1,?_,?_⟩
   ·rw[iK ek,iK em]
    exact small (n:=kvs.length+more.length) hl
   ·exact((k.after (k2.trans k3)).after hw.2).non hw.1 hq
  ·exact h1.elim
 ·exact h.elim
theorem gF {α:Type}{n2:Nat}{c:En->Prop}{g:AG}{tc:AT}{te:AE}{k:List D->En->Prop}(h:α->D)(p:α->Bool)(f:α->D){ρ:En}(hc:c ρ):∀ {xs:List α} {acc:List D},acc.length+xs.length<=1000000 ->
  (∀x acc (N:List D->En->Prop),x∈xs->N (if p x=true then acc++[f x]else acc) ρ->g (h x) ρ λρ1=>tc ρ1 λb ρ2=>if b=true then te ρ2 λr ρ3=>sto [r.frz] ρ3 λes ρ4=>N (acc++es) (o0 n2 .un++ρ4.drop n2)else N acc (o0 n2 .un++ρ2.drop n2)) ->
  k (acc++(xs.filter p).map f) ρ->hB n2 c g tc te k (xs.map h) acc ρ
 | [],acc,_,_,hd=>by
  simp only[JC,Dn,Cc]at hd
  unfold hB
  exact⟨hc,hd⟩
 | x::xs,acc,hl,hs,hd=>by
  rw[wE]
  unfold hB
  rw[At]at hl
  refine⟨hc,by omega,hs x acc (λacc' ρ'=>hB n2 c g tc te k (xs.map h) acc' ρ') (.head _) ?_⟩
  have hs':=λy acc N (hy:y∈xs)=>hs y acc N (.tail _ hy)
  cases hp:p x with
  | true =>
   rw[if_pos rfl]
   exact gF h p f hc (by rw[wP,DV];omega) hs' (by simpa [hp] using hd)
  | false =>
   rw[if_neg (by decide)]
   exact gF h p f hc (by omega) hs' (by simpa [hp] using hd)
def mkT (M:List Nat):List (Key×D):=M.map λx:Nat=>((Sum.inl (x:Int):Key),D.bl true)
theorem uR (M:List Nat)(x:Nat):((mkT M).any λkv=>decide (kv.1=(Sum.inl (x:Int):Key)))=M.contains x:=by
 unfold mkT
 rw[GK,Eh,DA,sB]
 constructor
 ·rintro⟨y,hy,e⟩
  have e:=of_decide_eq_true e
  injection e with e
  have:y=x:=HW.mp e
  rw[<- this];exact hy
 ·intro h
  exact⟨x,h,decide_eq_true rfl⟩
theorem mD (M:List Nat)(x:Nat):putD (mkT M) (Sum.inl (x:Int)) (D.bl true)=mkT (if x∈M then M else M++[x]):=by
 unfold putD
 rw[uR]
 by_cases h:x∈M
 ·rw[if_pos (sB.mpr h),if_pos h]
  unfold mkT
  rw[B3]
  refine Ez λy _=>?_
  show(if(Sum.inl (y:Int):Key)=Sum.inl (x:Int)then _ else _)=_
  split
  ·rfl
  ·rfl
 ·rw[if_neg (λz=>h (sB.mp z)),if_neg h]
  unfold mkT
  rw[Cb];rfl
theorem mj (M:List Nat)(x:Nat):(valD (mkT M) (Sum.inl (x:Int):Key)).isSome=M.contains x:=by
 rw[<- uR]
 induction mkT M with
 | nil=>rfl
 | cons kv t ih =>
  obtain⟨k,d⟩:=kv
  unfold valD at ih ⊢
  rw[DC,CO]
  dsimp only
  cases decide (k=(Sum.inl (x:Int):Key))with
  | true=>rfl
  | false=>exact ih
theorem lM:∀(N M:List Nat),lN (mkT M) (mkT N)=mkT (N.foldl (λM x=>if x∈M then M else M++[x]) M)
 | [],M=>rfl
 | x::N,M=>by
  show lN (putD (mkT M) (Sum.inl (x:Int)) (D.bl true)) (mkT N)=_
  rw[mD,lM N];rfl
def zI (ak av:AE):AE:=λρ q=>ak ρ λr1 ρ1=>match r1 with
 | .d (.int i)=>av ρ1 λr2 ρ2=>(match r2 with | .d (.bl j)=>q (.n (.dk [(.inl i,.bl j)])) ρ2 | _=>False)
 | _=>False
theorem InF.bl {K:bi}{F:Fr}{σ:St}{ρ:En}{H:Hp}{v:V}{b:Bool}(h:InF K F σ ρ H v (.d (.bl b))):v = .bl b:=by
 have h:RepD K (hid H (hs F σ ρ)) v (.bl b):=h
 unfold RepD at h;exact h
theorem sg {K:bi}{tk tv:TE}{ak av:AE}(lk:zJ tk)(lv:zJ tv)(hk:TEok K tk ak)(hv:TEok K tv av):TEok K (z9 [(tk,tv)]) (zI ak av):=by
 intro F σ ρ H q Q r h k p hp
 have go:tk σ H λv H1=>∃i,v = .int i/\tv σ H1 λv2 H2=>∃j,v2 = .bl j/\∃ ρ2,q (.n (.dk [(.inl i,.bl j)])) ρ2/\Rel K F σ ρ2 H2/\Kp σ ρ ρ2 H H2:=by
  refine hk F σ ρ H _ _ r h λr1 ρ1 x H1 h1 o1=>?_
  obtain⟨r1',k1,i1⟩:=o1.inF
  split at h1
  ·rename_i i
   refine⟨i,i1.int,hv F σ ρ1 H1 _ _ r1' h1 λr2 ρ2 y H2 h2 o2=>?_⟩
   obtain⟨r2',k2,i2⟩:=o2.inF
   split at h2
   ·exact⟨_,i2.bl,ρ2,h2,r2',k1.trans k2⟩
   ·exact h2.elim
  ·exact h1.elim
 obtain⟨_,⟨i,rfl,g2⟩,f1⟩:=lk σ H _ go
 obtain⟨_,⟨j,rfl,ρ2,hq,rel,kp⟩,f2⟩:=lv σ H _ g2
 refine f1 _ _ (f2 _ _ ⟨aR,[(.inl i,.bl j)],rfl,by simp,?_⟩)
 have e:upd (upd H p (.dK [])) p (.dK (fh [] [(.inl i,.bl j)]))=upd H p (.dK [(.inl i,.bl j)]):=by
  funext a
  unfold upd
  split <;> rfl
 rw[e]
 exact k _ ρ2 _ _ hq ⟨H,p,_,rel,kp,rfl,⟨p,[(.inl i,.bl j)],rfl,aR,rfl,.one (by unfold RepD;rfl)⟩,hp,rfl,rfl⟩
end L2
set_option maxHeartbeats 3200000
namespace L2
open PySem PySem.Spec PyProof.Rows
end L2
namespace K84
open PySem PySem.Spec PyProof.Rows L2
def top (i:Nat):Stmt:=PySem.Challenge.pw_fewjoins_k84_fewest_of_four_givens.main.body.getD i (.Pass ⟨0,0,0,0⟩)
abbrev bz:Stmt:=lA (top 21) 0
theorem i_:aP ["self", "wished", "clean", "known", "shut", "left"] ["self", "wished", "clean", "known", "shut", "left"] (ar bz):=⟨rfl,rfl,rfl,by decide +kernel,rfl,by decide +kernel,by decide +kernel⟩
abbrev xP:Stmt:=top 0
abbrev gW:Stmt:=top 2
abbrev qa:List Str:=["thing", "least", "most"]
theorem pK:aP qa ["thing", "least", "most"] (ar gW):=⟨rfl,rfl,rfl,by decide +kernel,rfl,by decide +kernel,by decide +kernel⟩
abbrev gX:Stmt:=top 3
abbrev qb:List Str:=["thing", "least", "most"]
theorem pL:aP qb ["thing", "least", "most"] (ar gX):=⟨rfl,rfl,rfl,by decide +kernel,rfl,by decide +kernel,by decide +kernel⟩
abbrev jM:Stmt:=top 6
abbrev uM:List Str:=["one", "other"]
theorem uk:aP uM ["one", "other"] (ar jM):=⟨rfl,rfl,rfl,by decide +kernel,rfl,by decide +kernel,by decide +kernel⟩
abbrev jN:Stmt:=top 10
abbrev uN:List Str:=["thing", "many", "joins", "outs"]
theorem iA:aP uN ["thing"] (ar jN):=⟨rfl,rfl,rfl,by decide +kernel,rfl,by decide +kernel,by decide +kernel⟩
abbrev fD:Stmt:=top 11
abbrev og:List Str:=["many", "joins", "rows", "join"]
theorem gb:aP og ["many", "joins"] (ar fD):=⟨rfl,rfl,rfl,by decide +kernel,rfl,by decide +kernel,by decide +kernel⟩
abbrev iE:Stmt:=top 12
abbrev sM:List Str:=["rows", "join", "a", "b", "last"]
theorem gQ:aP sM ["rows", "join"] (ar iE):=⟨rfl,rfl,rfl,by decide +kernel,rfl,by decide +kernel,by decide +kernel⟩
abbrev e9:Stmt:=top 13
abbrev kz:List Str:=["things", "outs"]
theorem pM:aP kz ["things", "outs"] (ar e9):=⟨rfl,rfl,rfl,by decide +kernel,rfl,by decide +kernel,by decide +kernel⟩
abbrev e7:Stmt:=top 14
abbrev ku:List Str:=["many"]
theorem pG:aP ku ["many"] (ar e7):=⟨rfl,rfl,rfl,by decide +kernel,rfl,by decide +kernel,by decide +kernel⟩
abbrev iD:Stmt:=top 15
abbrev sL:List Str:=["one", "other"]
theorem sx:aP sL ["one", "other"] (ar iD):=⟨rfl,rfl,rfl,by decide +kernel,rfl,by decide +kernel,by decide +kernel⟩
abbrev fE:Stmt:=top 16
abbrev oh:List Str:=["net", "words", "many", "joins", "outs", "told", "a", "b"]
theorem cz:aP oh ["net", "words"] (ar fE):=⟨rfl,rfl,rfl,by decide +kernel,rfl,by decide +kernel,by decide +kernel⟩
abbrev iC:Stmt:=top 17
abbrev sJ:List Str:=["net"]
theorem sr:aP sJ ["net"] (ar iC):=⟨rfl,rfl,rfl,by decide +kernel,rfl,by decide +kernel,by decide +kernel⟩
abbrev dZ:Stmt:=top 19
abbrev lg:List Str:=["wish", "clean", "count", "many", "rows"]
theorem eV:aP lg ["wish", "clean", "count"] (ar dZ):=⟨rfl,rfl,rfl,by decide +kernel,rfl,by decide +kernel,by decide +kernel⟩
abbrev gT:Stmt:=top 20
abbrev p7:List Str:=["clean", "one", "other"]
theorem pH:aP p7 ["clean", "one", "other"] (ar gT):=⟨rfl,rfl,rfl,by decide +kernel,rfl,by decide +kernel,by decide +kernel⟩
abbrev iB:Stmt:=top 26
abbrev n_:List Str:=["net", "many", "joins", "outs", "stands", "leant", "numbers", "kept", "at", "a", "b"]
theorem cx:aP n_ ["net"] (ar iB):=⟨rfl,rfl,rfl,by decide +kernel,rfl,by decide +kernel,by decide +kernel⟩
abbrev d0:Stmt:=top 27
abbrev lh:List Str:=["rows", "first", "stands", "thing", "row"]
theorem cN:aP lh ["rows"] (ar d0):=⟨rfl,rfl,rfl,by decide +kernel,rfl,by decide +kernel,by decide +kernel⟩
abbrev e8:Stmt:=top 28
abbrev ky:List Str:=["net", "stands", "many", "joins", "outs", "leant", "at", "a", "b"]
theorem cy:aP ky ["net", "stands"] (ar e8):=⟨rfl,rfl,rfl,by decide +kernel,rfl,by decide +kernel,by decide +kernel⟩
abbrev mx:Stmt:=top 34
abbrev wN:List Str:=["wish", "clean", "count", "many", "rows", "found", "told"]
theorem iu:aP wN ["wish", "clean", "count"] (ar mx):=⟨rfl,rfl,rfl,by decide +kernel,rfl,by decide +kernel,by decide +kernel⟩
abbrev gY:Stmt:=top 35
abbrev qc:List Str:=["many", "count", "most"]
theorem j5:aP qc ["many", "count"] (ar gY):=⟨rfl,rfl,rfl,by decide +kernel,rfl,by decide +kernel,by decide +kernel⟩
abbrev my:Stmt:=top 36
abbrev wO:List Str:=["wish", "clean", "count", "paper", "found", "told"]
theorem dY:aP wO ["wish", "clean"] (ar my):=⟨rfl,rfl,rfl,by decide +kernel,rfl,by decide +kernel,by decide +kernel⟩
abbrev gR:Stmt:=top 37
abbrev p6:List Str:=["cases", "lacking", "row", "free"]
theorem di:aP p6 ["cases"] (ar gR):=⟨rfl,rfl,rfl,by decide +kernel,rfl,by decide +kernel,by decide +kernel⟩
abbrev c9:Stmt:=top 38
abbrev jE:List Str:=["cases", "row", "found", "told"]
theorem dR:aP jE ["cases", "row"] (ar c9):=⟨rfl,rfl,rfl,by decide +kernel,rfl,by decide +kernel,by decide +kernel⟩
abbrev c8:Stmt:=top 39
abbrev jD:List Str:=["cases", "free", "papers", "at", "row", "found", "told"]
theorem bV:aP jD ["cases", "free"] (ar c8):=⟨rfl,rfl,rfl,by decide +kernel,rfl,by decide +kernel,by decide +kernel⟩
abbrev cH:Stmt:=top 40
abbrev eX:List Str:=["wish", "clean", "known", "many", "rows", "joins"]
theorem dB:aP eX ["wish", "clean", "known"] (ar cH):=⟨rfl,rfl,rfl,by decide +kernel,rfl,by decide +kernel,by decide +kernel⟩
abbrev cA:Stmt:=top 41
abbrev fX:List Str:=["things", "row", "clean", "pairs"]
theorem fV:aP fX ["things", "row", "clean"] (ar cA):=⟨rfl,rfl,rfl,by decide +kernel,rfl,by decide +kernel,by decide +kernel⟩
abbrev gU:Stmt:=top 43
abbrev p9:List Str:=["_law_script"]
theorem pJ:aP p9 ["_law_script"] (ar gU):=⟨rfl,rfl,rfl,by decide +kernel,rfl,by decide +kernel,by decide +kernel⟩
abbrev gV:Stmt:=top 44
abbrev p_:List Str:=["_law_tape_here", "_law_many", "_law_found", "_law_spot", "_law_cells", "_law_cell", "_law_seed"]
theorem cV:aP p_ ["_law_tape_here", "_law_many"] (ar gV):=⟨rfl,rfl,rfl,by decide +kernel,rfl,by decide +kernel,by decide +kernel⟩
abbrev b0:Stmt:=top 45
abbrev cQ:List Str:=["_law_many", "_law_rows", "_law_clean_here", "_law_known", "_law_left", "_law_here", "_law_row"]
theorem b8:aP cQ ["_law_many", "_law_rows", "_law_clean_here"] (ar b0):=⟨rfl,rfl,rfl,by decide +kernel,rfl,by decide +kernel,by decide +kernel⟩
abbrev cm:Stmt:=top 46
abbrev ff:List Str:=["_law_tape_here", "_law_low", "_law_most", "_law_many", "_law_count"]
theorem dj:aP ff ["_law_tape_here", "_law_low", "_law_most"] (ar cm):=⟨rfl,rfl,rfl,by decide +kernel,rfl,by decide +kernel,by decide +kernel⟩
abbrev dq:Stmt:=top 47
abbrev gu:List Str:=["_law_net", "_law_wish", "_law_rows", "_law_a", "_law_b"]
theorem eJ:aP gu ["_law_net", "_law_wish"] (ar dq):=⟨rfl,rfl,rfl,by decide +kernel,rfl,by decide +kernel,by decide +kernel⟩
abbrev eA:Stmt:=top 48
abbrev jy:List Str:=["_law_net", "_law_rows", "_law_a", "_law_b"]
theorem eK:aP jy ["_law_net"] (ar eA):=⟨rfl,rfl,rfl,by decide +kernel,rfl,by decide +kernel,by decide +kernel⟩
abbrev d8:Stmt:=top 49
abbrev h_:List Str:=["_law_rows", "_law_most", "_law_found", "_law_at"]
theorem en:aP h_ ["_law_rows", "_law_most"] (ar d8):=⟨rfl,rfl,rfl,by decide +kernel,rfl,by decide +kernel,by decide +kernel⟩
abbrev sy:Stmt:=top 50
abbrev uL:List Str:=["_law_script", "_law_tape_here", "_law_wish", "_law_wanted", "_law_others", "_law_clean_here", "_law_net", "_law_paper", "_law_more"]
theorem iw:aP uL ["_law_script"] (ar sy):=⟨rfl,rfl,rfl,by decide +kernel,rfl,by decide +kernel,by decide +kernel⟩
abbrev bx:Stmt:=lA (top 21) 1
abbrev jh:List Str:=["self", "row", "shut"]
theorem i9:aP jh ["self", "row", "shut"] (ar bx):=⟨rfl,rfl,rfl,by decide +kernel,rfl,by decide +kernel,by decide +kernel⟩
abbrev bo:Stmt:=lA (top 21) 2
abbrev fY:List Str:=["self"]
theorem jA:aP fY ["self"] (ar bo):=⟨rfl,rfl,rfl,by decide +kernel,rfl,by decide +kernel,by decide +kernel⟩
abbrev aY:Stmt:=lA (top 21) 3
abbrev cu:List Str:=["self", "pairs", "made"]
theorem c7:aP cu ["self"] (ar aY):=⟨rfl,rfl,rfl,by decide +kernel,rfl,by decide +kernel,by decide +kernel⟩
abbrev aX:Stmt:=lA (top 21) 4
abbrev fI:List Str:=["self"]
theorem fC:aP fI ["self"] (ar aX):=⟨rfl,rfl,rfl,by decide +kernel,rfl,by decide +kernel,by decide +kernel⟩
abbrev bc:Stmt:=lA (top 21) 5
abbrev c_:List Str:=["self", "row", "met", "newest", "parts", "sums"]
theorem bQ:aP c_ ["self", "row"] (ar bc):=⟨rfl,rfl,rfl,by decide +kernel,rfl,by decide +kernel,by decide +kernel⟩
abbrev bW:Stmt:=lA (top 21) 6
abbrev bP:Stmt:=lA (top 21) 7
abbrev bL:Stmt:=lA (top 21) 8
abbrev bK:Stmt:=lA (top 21) 9
section
variable {P:wS}{w:B_}{K:bi}{mg:Str->Option bn}{base:Heap}
theorem pV (D:DefN K mg "_law_tape" gU ["_law_script"])(B:BI mg):OkN P w K mg base 1 "_law_tape" ["_law_script"] (spA K zK):=by
 refine OkN.imp (sp:=ud K) ?_ yp
 refine D.ok pJ (λvs H Q E h=>?_) (λf cdv A outer s H vs Q E hr h=>?_)
 ·obtain⟨a,ns,rfl,_⟩:=h
  rfl
 ·obtain⟨a,ns,rfl,hS,k⟩:=h
  refine⟨_,(aH (aZ (uC (jO eC (g0 (gP K) (pv 0) jb (ja aL)) (jO eC aL (jO eC aL ux))) rfl rfl (by simp) (by decide)))),?_⟩
  intro t ht
  have s0:Same H (upd H t (.dK [])):=(Same.refl H).new ht
  refine⟨_,rfl,63,rfl,a,_,rfl,s0.seq hS,λl hl=>?_⟩
  have ntl:t≠l:=bb aR hl
  refine⟨by rw[aQ ntl,aR],[(Sum.inr ("cells" : Str),V.ref l),(Sum.inr ("spot" : Str),V.int 0),(Sum.inr ("left" : Str),V.int 0)],rfl,(by show 3<=15;decide),?_⟩
  rw[t4]
  have fin:=k t l ht (s0.free hl) ntl
  have eq:upd (upd (upd H t (.dK [])) l (.lst (cutV (ns.map V.int) none (some 63)))) t (.dK (cM l 0 0))=upd (upd H l (.lst ((ns.take 63).map V.int))) t (.dK (cM l 0 0)):=by
   rw[BE]
   funext b
   unfold upd
   by_cases h1:b=t
   ·rw[if_pos h1,if_pos h1]
   ·rw[if_neg h1,if_neg h1,if_neg h1]
  rw[eq]
  exact fin
theorem pX (D:DefN K mg "_law_draw" gV ["_law_tape_here", "_law_many"])(B:BI mg):OkN P w K mg base 1 "_law_draw" ["_law_tape_here", "_law_many"] (spA K xF):=by
 refine OkN.imp (sp:=uf K) ?_ zy
 refine D.ok cV (λvs H Q E h=>?_) (λf cdv A outer s H vs Q E hr h=>?_)
 ·obtain⟨t,c,m,sp,lf,ns,n,rfl,_⟩:=h
  rfl
 ·obtain⟨t,c,m,sp,lf,ns,n,rfl,hT,hC,h1,h2,h3,hn,hm,k⟩:=h
  have hu:=cv hr
  have hm0:=hm.1
  have gl:DGet H t (kV (Sum.inr "left")) (some (.int lf)):=by rw[<- t5 (c:=c) (sp:=sp)];exact DGet.k hT
  have gs:DGet H t (kV (Sum.inr "spot")) (some (.int sp)):=by rw[<- tZ (c:=c) (lf:=lf)];exact DGet.k hT
  have gc:DGet H t (kV (Sum.inr "cells")) (some (.ref c)):=by rw[<- lD (sp:=sp) (lf:=lf)];exact DGet.k hT
  refine⟨_,(aw (dH (bA sE (ke hu (pv 0) eC (λ_ _=>rfl)) aL (bR _))
   (aw (bp (i:=2) cV.nd rfl (by first | exact Or.inl rfl | exact Or.inr rfl) (be kj (ke hu (pv 0) eC (λ_ _=>rfl)) (pv 1)))
   (aw (j_ hu (pv 0) eC (be mI (ke hu (pv 0) eC (λ_ _=>rfl)) (pv 1)) rfl)
   (aH (aZ (pv 2)))))
   bE)
   (aw (bp (i:=3) cV.nd rfl (by first | exact Or.inl rfl | exact Or.inr rfl) (ke hu (pv 0) eC (λ_ _=>rfl)))
   (aw (j_ hu (pv 0) eC (be eP (pv 3) aL) rfl)
   (aw (bp (i:=4) cV.nd rfl (by first | exact Or.inl rfl | exact Or.inr rfl) (ke hu (pv 0) eC (λ_ _=>rfl)))
   (aw (bp (i:=5) cV.nd rfl (by first | exact Or.inl rfl | exact Or.inr rfl) aL)
   (aw (dH (bA sE (bh (bN K) rfl B.len_ dU (ah (pv 4) aA)) aL (bR _))
   (aH (bp (i:=5) cV.nd rfl (by first | exact Or.inl rfl | exact Or.inr rfl) (b9 (aU K) (pv 4) (be kj (pv 3) (bh (bN K) rfl B.len_ dU (ah (pv 4) aA))) (λ_ _=>rfl))))
   bE)
   (aw (dH (PW.pt (jt (bA yS (pv 5) (be uE aL aL) (bR _)) (gh (bA yR (pv 3) (bh (bN K) rfl B.len_ dU (ah (pv 4) aA)) (bR _)))))
   (aw (j_ hu (pv 0) eC (be mI (be gr (pv 5) (be uE aL aL)) (pv 1)) rfl)
   (aH (aZ (be kj (be gr (pv 5) (be uE aL aL)) (pv 1)))))
   bE)
   (aw (bp (i:=6) cV.nd rfl (by first | exact Or.inl rfl | exact Or.inr rfl) (be kj (be nW (be eP (be eP (be eP (be kj (pv 5) aL) (be nW (be nW aL (pv 3)) (pv 3))) (be nW aL (pv 3))) aL) aL) aL))
   (aH (aZ (be kj (be mI (be kj (be nW (pv 6) (be eP (pv 6) aL)) aL) aL) (pv 1)))))))))))),?_⟩
  refine⟨_,rfl,t,_,rfl,gl,_,_,rfl,rfl,_,rfl,ite2 (λhl=>?_) λhl=>?_⟩
  ·refine⟨_,rfl,t,_,rfl,gl,_,rfl,_,_,rfl,rfl,hm0,?_⟩
   refine⟨_,rfl,t,_,rfl,gl,_,rfl,_,_,rfl,rfl,hm,_,rfl,t,_,rfl,DPut.k (k:=Sum.inr "left") hT (eh (by show 3<=1000;decide)),_,rfl,?_⟩
   rw[mC]
   exact drawn (Q:=λz H=>Q (.int z) H) hm0 λr hr=>k r _ _ hr h1 (by omega) (Hl h3 (GV hm0))
  ·refine⟨_,rfl,t,_,rfl,gs,?_⟩
   refine⟨_,rfl,_,_,rfl,rfl,_,rfl,t,_,rfl,DPut.k (k:=Sum.inr "spot") hT (eh (by show 3<=1000;decide)),?_⟩
   rw[wz]
   have hT1:(upd H t (.dK (cM c (sp+1) lf))) t=some (.dK (cM c (sp+1) lf)):=aR
   have hC1:SqL K (upd H t (.dK (cM c (sp+1) lf))) c (ns.map V.int):=Grow.seq (Grow.refl.upd _) hT hC
   have gr1:Grow t H (upd H t (.dK (cM c (sp+1) lf))):=Grow.refl.upd _
   have gc1:DGet (upd H t (.dK (cM c (sp+1) lf))) t (kV (Sum.inr "cells")) (some (.ref c)):=by rw[<- lD (sp:=sp+1) (lf:=lf)];exact DGet.k hT1
   have kk:∀(r:Nat) (lf':Int),(r:Int)<m->0<=lf'->Q (.int (r:Nat)) (upd (upd H t (.dK (cM c (sp+1) lf))) t (.dK (cM c (sp+1) lf'))):=λr lf' hr hl=>by rw[i7];exact k r _ _ hr (by omega) (by omega) hl
   have kl:∀(r:Nat),(r:Int)<m->Q (.int (r:Nat)) (upd H t (.dK (cM c (sp+1) lf))):=λr hr=>k r _ _ hr (by omega) (by omega) h3
   generalize upd H t (.dK (cM c (sp+1) lf))=H1 at hT1 hC1 gr1 gc1 kk kl ⊢
   refine⟨_,rfl,t,_,rfl,gc1,?_⟩
   have p18:(10:Int)^(18:Int).toNat=1000000000000000000:=by decide
   have fits:CPow 10 18:=⟨by decide,by decide,by decide⟩
   have pos1:(0:Int)<2147483629:=by decide
   have pos2:(0:Int)<2147483647:=by decide
   have spOk:-(2^64)<sp/\sp<2^64:=by omega
   refine⟨_,rfl,c,_,rfl,.inl hC1,_,_,rfl,rfl,_,rfl,ite2 (λhl=>?_) λhl=>?_⟩
   ·have hl':0<ns.length:=by
     have:=of_decide_eq_true hl
     rw[f8]at this
     omega
    have el:((ns.map V.int).length:Int)=ns.length:=by rw[f8]
    have hb0:0<=sp % ((ns.map V.int).length:Int):=JQ _ (by omega)
    have hb1:sp % ((ns.map V.int).length:Int)<((ns.map V.int).length:Int):=Jk _ (by omega)
    obtain⟨j,hj⟩:=C6 hb0
    have hj':j<ns.length:=by rw[hj]at hb1;omega
    refine⟨_,rfl,_,rfl,_,rfl,c,_,rfl,.inl hC1,_,_,rfl,rfl,(by show(0:Int)<((ns.map V.int).length:Int);omega),.inl ⟨c,_,_,V.int ns[j],rfl,rfl,hC1,?_,?_⟩⟩
    ·rw[hj]
     exact ny (by simp[hj'])
    ·generalize ns[j]=z
     refine⟨_,rfl,_,_,rfl,rfl,fits,_,_,rfl,rfl,_,rfl,ite2 (λhz=>?_) λhz=>?_⟩
     ·refine⟨_,rfl,_,rfl,c,_,rfl,.inl hC1,_,_,rfl,rfl,_,rfl,ite2 (λhs=>?_) λhs=>?_⟩
      ·refine⟨_,rfl,_,_,rfl,rfl,fits,_,_,rfl,rfl,_,rfl,_,_,rfl,rfl,hm,_,rfl,t,_,rfl,DPut.k (k:=Sum.inr "left") hT1 (eh (by show 3<=1000;decide)),?_⟩
       rw[mC]
       refine⟨_,rfl,_,_,rfl,rfl,fits,_,_,rfl,rfl,_,rfl,_,_,rfl,rfl,hm0,?_⟩
       refine drawn (Q:=λz H=>Q (.int z) H) hm0 λr hr=>kk r _ hr (Hl ?_ (GV hm0))
       have hz':=of_decide_eq_true hz
       rw[p18]at hz' ⊢
       omega
      ·refine⟨_,rfl,_,_,rfl,rfl,pos1,_,rfl,_,_,rfl,rfl,.inl ⟨by decide,by decide⟩,_,rfl,_,_,rfl,rfl,.inr spOk,_,_,rfl,rfl,_,rfl,_,_,rfl,rfl,.inl ⟨by decide,by decide⟩,_,_,rfl,rfl,_,_,rfl,rfl,_,_,rfl,rfl,.inr ⟨by decide,by decide⟩,_,_,rfl,rfl,pos2,?_⟩
       refine⟨_,rfl,_,rfl,_,_,rfl,rfl,_,_,rfl,rfl,.inl q8,_,_,rfl,rfl,pos1,_,_,rfl,rfl,dv64,_,rfl,_,_,rfl,rfl,hm0,?_⟩
       exact drawn (Q:=λz H=>Q (.int z) H) hm0 λr hr=>kl r hr
     ·refine⟨_,rfl,_,_,rfl,rfl,pos1,_,rfl,_,_,rfl,rfl,.inl ⟨by decide,by decide⟩,_,rfl,_,_,rfl,rfl,.inr spOk,_,_,rfl,rfl,_,rfl,_,_,rfl,rfl,.inl ⟨by decide,by decide⟩,_,_,rfl,rfl,_,_,rfl,rfl,_,_,rfl,rfl,.inr ⟨by decide,by decide⟩,_,_,rfl,rfl,pos2,?_⟩
      refine⟨_,rfl,_,rfl,_,_,rfl,rfl,_,_,rfl,rfl,.inl q8,_,_,rfl,rfl,pos1,_,_,rfl,rfl,dv64,_,rfl,_,_,rfl,rfl,hm0,?_⟩
      exact drawn (Q:=λz H=>Q (.int z) H) hm0 λr hr=>kl r hr
   ·refine⟨_,rfl,_,_,rfl,rfl,fits,_,_,rfl,rfl,_,rfl,ite2 (λhz=>?_) λhz=>?_⟩
    ·refine⟨_,rfl,_,rfl,c,_,rfl,.inl hC1,_,_,rfl,rfl,_,rfl,ite2 (λhs=>?_) λhs=>?_⟩
     ·refine⟨_,rfl,_,_,rfl,rfl,fits,_,_,rfl,rfl,_,rfl,_,_,rfl,rfl,hm,_,rfl,t,_,rfl,DPut.k (k:=Sum.inr "left") hT1 (eh (by show 3<=1000;decide)),?_⟩
      rw[mC]
      refine⟨_,rfl,_,_,rfl,rfl,fits,_,_,rfl,rfl,_,rfl,_,_,rfl,rfl,hm0,?_⟩
      refine drawn (Q:=λz H=>Q (.int z) H) hm0 λr hr=>kk r _ hr (Hl ?_ (GV hm0))
      have hz':=of_decide_eq_true hz
      rw[p18]at hz' ⊢
      omega
     ·refine⟨_,rfl,_,_,rfl,rfl,pos1,_,rfl,_,_,rfl,rfl,.inl ⟨by decide,by decide⟩,_,rfl,_,_,rfl,rfl,.inr spOk,_,_,rfl,rfl,_,rfl,_,_,rfl,rfl,.inl ⟨by decide,by decide⟩,_,_,rfl,rfl,_,_,rfl,rfl,_,_,rfl,rfl,.inr ⟨by decide,by decide⟩,_,_,rfl,rfl,pos2,?_⟩
      refine⟨_,rfl,_,rfl,_,_,rfl,rfl,_,_,rfl,rfl,.inl q8,_,_,rfl,rfl,pos1,_,_,rfl,rfl,dv64,_,rfl,_,_,rfl,rfl,hm0,?_⟩
      exact drawn (Q:=λz H=>Q (.int z) H) hm0 λr hr=>kl r hr
    ·refine⟨_,rfl,_,_,rfl,rfl,pos1,_,rfl,_,_,rfl,rfl,.inl ⟨by decide,by decide⟩,_,rfl,_,_,rfl,rfl,.inr spOk,_,_,rfl,rfl,_,rfl,_,_,rfl,rfl,.inl ⟨by decide,by decide⟩,_,_,rfl,rfl,_,_,rfl,rfl,_,_,rfl,rfl,.inr ⟨by decide,by decide⟩,_,_,rfl,rfl,pos2,?_⟩
     refine⟨_,rfl,_,rfl,_,_,rfl,rfl,_,_,rfl,rfl,.inl q8,_,_,rfl,rfl,pos1,_,_,rfl,rfl,dv64,_,rfl,_,_,rfl,rfl,hm0,?_⟩
     exact drawn (Q:=λz H=>Q (.int z) H) hm0 λr hr=>kl r hr
end
end K84
set_option maxHeartbeats 1000000
namespace K84
open PySem PySem.Spec PyProof.Rows L2
theorem xa (n:Nat)(xs:List Nat):inD (nD n) (ao xs)=xs.contains n:=by
 unfold inD ao
 rw[GK]
 induction xs with
 | nil=>rfl
 | cons x xs ih =>
  rw[DC,List.contains_cons,ih]
  congr 1
  show eqD (nD x) (nD n)=(n==x)
  unfold eqD
  show decide ((x:Int)=(n:Int))=(n==x)
  by_cases h:n=x
  ·subst h;simp
  ·have:¬((x:Int)=(n:Int)):=by omega
   simp[h,this]
theorem iP {neg:Bool}{r2:R}{ρ:En}{q:Ko}{xs:List Nat}{n:Nat}(hv:view ρ r2=some (.lst (ao xs)))(hq:q (.d (.bl (if neg then !xs.contains n else xs.contains n))) ρ):gIn neg (.d (nD n)) r2 ρ q:=by
 unfold gIn
 have e1:view ρ (.d (nD n))=some (nD n):=rfl
 rw[e1,hv]
 refine⟨⟨rfl,DR.mpr λd hd=>?_⟩,?_⟩
 ·obtain⟨x,_,rfl⟩:=Ch.mp hd;rfl
 ·rw[xa];exact hq
theorem bg (xs:List Nat):(ao xs).length=xs.length:=by unfold ao;rw[f8]
theorem j7 {xs:List Nat}(h:xs.Pairwise (· < ·)):(xs.map λr=>((r:Nat):Int)).Pairwise (· < ·):=GH.mpr (h.imp λh=>by omega)
section
variable {n:Nat}{js:List Nat}{c:En->Prop}{g:AG}{tc:AT}{te:AE}{q:List D->En->Prop}
theorem dP {α:Type}(h:α->D)(p:α->Bool)(f:α->D){xs:List α}{ρ:En}(hc:c ρ)(hs:∀x acc (N:List D->En->Prop),x∈xs->N (if p x=true then acc++[f x]else acc) ρ->yk n js g tc te ρ (h x) acc N)
  (hd:q ((xs.filter p).map f) ρ):f7 n js c g tc te q (xs.map h) [] ρ:=by
 refine gJ (λk acc ρ'=>ρ'=ρ/\acc=((xs.take k).filter p).map f) (λk acc ρ' _ h=>h.1▸hc) ?_ ?_ ρ ⟨rfl,rfl⟩
 ·rintro k d acc _ N hk ⟨rfl,rfl⟩ hN
  rw[wv]at hk
  obtain⟨x,e1,rfl⟩:=BZ.mp hk
  refine hs x _ N (Cd e1) (hN _ _ ⟨rfl,?_⟩)
  rw[CG,e1,DP,Fu,Cb]
  cases hp:p x <;> simp[hp]
 ·rintro acc _ ⟨rfl,rfl⟩
  rw[f8,Cp];exact hd
end
structure Cs where
 W:List Nat
 cl:Bool
 kn:List Nat
 sh:List Nat
 lf:Nat
def obC (C:Addr)(c:Cs):Sv:=.ob C [("wished",.tup (ao c.W)),("clean",.bl c.cl),("known",.lst (ao c.kn)),("shut",.lst (ao c.sh)),("left",.int (c.lf:Nat))]
structure CsOk (c:Cs):Prop where
 w24:c.W.length<=24
 w:∀r∈c.W,1<=r/\r<64
 k:∀r∈c.kn,1<=r/\r<64
 kd:c.kn.Nodup
 sl:c.sh.length+64*c.lf<=704
 s:∀r∈c.sh,r<64
 l:c.lf<=11
def bw (W K:List Nat):List Nat:=(wl 64).filter λr=>W.contains r && !K.contains r
def mayN (c:Bool)(x y:Nat):Bool:=!c||decide (x &&& y=0)
def b6 (c:Bool)(K:List Nat)(r:Nat):Bool:=K.any λa=>K.any λb=>decide (a≠b)&&mayN c a b&&decide (a ^^^ b=r)
def bS (c:Bool)(K S:List Nat):List Nat:=(wl 64).filter λr=>b6 c K r && !K.contains r && !S.contains r
inductive Rch (c:Bool) (K:List Nat):Nat->Nat->Prop
 | nil:Rch c K 0 0
 | add {n t p:Nat} (h:Rch c K n t) (hp:p∈K) (hm:mayN c t p=true):Rch c K (n+1) (t ^^^ p)
open Classical in
noncomputable def farN (c:Bool)(K:List Nat)(l r:Nat):Bool:=decide (¬ ∃n,n<=l+1/\Rch c K n r)
def cb (m:Nat)(rs:List Nat):D:=.tup [nD m,.tup (ao rs)]
def SMay:ASp:=λss q=>∃(c:Bool) (x y:Nat),ss=[.vl (.bl c),nv x,nv y]/\q (.d (.bl (mayN c x y))) [.vl (.bl c),nv x,nv y]
def xD (C:Addr):ASp:=λss q=>∃(c:Cs) (r:Nat) (s:List Nat),ss=[obC C c,nv r,.vl (.lst (ao s))]/\c.kn.length<=1000/\1<=c.lf/\q (.x (obC C ⟨c.W,c.cl,c.kn++[r],s,c.lf - 1⟩)) [obC C c,nv r,.vl (.lst (ao s))]
def xE (C:Addr):ASp:=λss q=>∃c:Cs,ss=[obC C c]/\CsOk c/\q (.f (ao (bw c.W c.kn))) [obC C c]
def vS (C:Addr):ASp:=λss q=>∃c:Cs,ss=[obC C c]/\CsOk c/\q (.d (.bl (decide (c.lf<(bw c.W c.kn).length)))) [obC C c]
def zN (C:Addr):ASp:=λss q=>∃c:Cs,ss=[obC C c]/\CsOk c/\q (.f (ao (bS c.cl c.kn c.sh))) [obC C c]
def SFar (C:Addr):ASp:=λss q=>∃(c:Cs) (r:Nat),ss=[obC C c,nv r]/\CsOk c/\r<64/\q (.d (.bl (farN c.cl c.kn c.lf r))) [obC C c,nv r]
def vU (C:Addr):ASp:=λss q=>∃(m:Nat) (W:List Nat) (cl:Bool) (l:Nat),ss=[.vl (cb m W),.vl (.bl cl),nv l]/\m<=12/\q (.x (obC C ⟨W,cl,az m,[],l⟩)) [.vl (cb m W),.vl (.bl cl),nv l]
theorem CsOk.kl {c:Cs}(h:CsOk c):c.kn.length<=63:=by
 have:=Cj h.kd (l₂:=(wl 63).map (· + 1)) λx hx=>by
  have:=h.k x hx
  exact Ch.mpr ⟨x - 1,Cn.mpr (by omega),by omega⟩
 rwa [f8,Db]at this
def pD (p:Nat×Nat):D:=.tup [nD p.1,nD p.2]
def prU (K:List Nat)(n:Nat):List (Nat×Nat):=(wl n).flatMap λi=>(K.take i).map λb=>(K.getD i 0,b)
def prN (K:List Nat):List (Nat×Nat):=prU K K.length
theorem rB (K:List Nat)(n:Nat):prU K (n+1)=prU K n++(K.take n).map λb=>(K.getD n 0,b):=by
 unfold prU
 rw[DL,Fg,Fz,GY,Cc]
theorem pP (K:List Nat):∀n,(prU K n).length<=n*K.length
 | 0=>by simp[prU]
 | n+1=>by
  rw[rB,wP,f8,B6,KG]
  have:=pP K n
  omega
theorem yE (K:List Nat):(prN K).length<=K.length*K.length:=pP K _
theorem pQ {K:List Nat}{a b:Nat}:(a,b)∈prN K↔∃i,i<K.length/\K.getD i 0=a/\b∈K.take i:=by
 unfold prN prU
 rw[GX]
 constructor
 ·rintro⟨i,hi,h⟩
  obtain⟨x,hx,e⟩:=Ch.mp h
  injection e with e1 e2
  subst e2
  exact⟨i,Cn.mp hi,e1,hx⟩
 ·rintro⟨i,hi,rfl,h⟩
  exact⟨i,Cn.mpr hi,Ch.mpr ⟨b,h,rfl⟩⟩
theorem d4 {K:List Nat}{i:Nat}(h:i<K.length):K.getD i 0∈K:=by
 rw[ga,bv h];exact DQ h
theorem jP {K:List Nat}{x:Nat}(h:x∈K):∃i,i<K.length/\K.getD i 0=x:=by
 obtain⟨i,hi,e⟩:=C1 h
 exact⟨i,hi,by rw[ga,bv hi];exact e⟩
theorem dX {K:List Nat}{i:Nat}{x:Nat}:x∈K.take i↔∃j,j<i/\j<K.length/\K.getD j 0=x:=by
 constructor
 ·intro h
  obtain⟨j,hj,e⟩:=C1 h
  rw[B6]at hj
  refine⟨j,by omega,by omega,?_⟩
  rw[ga,bv (by omega)]
  rw[GI]at e
  exact e
 ·rintro⟨j,h1,h2,rfl⟩
  rw[ga,bv h2]
  exact List.mem_take_iff_getElem.mpr ⟨j,by omega,rfl⟩
theorem mX {K:List Nat}(nd:K.Nodup){i j:Nat}(hi:i<K.length)(hj:j<K.length)(e:K.getD i 0=K.getD j 0):i=j:=by
 rw[ga,ga,bv hi,bv hj]at e
 rcases Dp i j with h | h | h
 ·exact absurd e (Dw.mp nd i j hi hj h)
 ·exact h
 ·exact absurd e.symm (Dw.mp nd j i hj hi h)
theorem om (c:Bool)(a b:Nat):mayN c a b=mayN c b a:=by unfold mayN;rw[GU]
theorem cD {c:Bool}{K:List Nat}{r:Nat}:b6 c K r=true↔∃a∈K,∃b∈K,a≠b/\mayN c a b=true/\a ^^^ b=r:=by
 unfold b6
 rw[DA]
 refine exists_congr λa=>and_congr Hx ?_
 rw[DA]
 refine exists_congr λb=>and_congr Hx ?_
 rw[BX,BX,decide_eq_true_eq,decide_eq_true_eq,and_assoc]
theorem yX {c:Bool}{K:List Nat}(nd:K.Nodup){r:Nat}:b6 c K r=true↔∃p∈prN K,mayN c p.1 p.2=true/\p.1 ^^^ p.2=r:=by
 rw[cD]
 constructor
 ·rintro⟨a,ha,b,hb,ne,hm,rfl⟩
  obtain⟨i,hi,rfl⟩:=jP ha
  obtain⟨j,hj,rfl⟩:=jP hb
  rcases Dp i j with h | h | h
  ·exact⟨(K.getD j 0,K.getD i 0),pQ.mpr ⟨j,hj,rfl,dX.mpr ⟨i,h,hi,rfl⟩⟩,by rw[om];exact hm,D3 _ _⟩
  ·subst h;exact absurd rfl ne
  ·exact⟨(K.getD i 0,K.getD j 0),pQ.mpr ⟨i,hi,rfl,dX.mpr ⟨j,h,hj,rfl⟩⟩,hm,rfl⟩
 ·rintro⟨⟨a,b⟩,hp,hm,rfl⟩
  obtain⟨i,hi,rfl,hb⟩:=pQ.mp hp
  obtain⟨j,h1,h2,rfl⟩:=dX.mp hb
  exact⟨_,d4 hi,_,d4 h2,λe=>by have:=mX nd hi h2 e;omega,hm,rfl⟩
theorem wo {F ys:List Nat}{ns':List Int}(pm:ns'.Perm (F.map λr=>((r:Nat):Int)))(up:ns'.Pairwise (· <= ·))(nd:F.Nodup)(hy:ys.Pairwise (· < ·))(hm:∀x,x∈F↔x∈ys):ns'=ys.map λr=>((r:Nat):Int):=by
 have h1:ns'.Perm (ys.map λr=>((r:Nat):Int)):=pm.trans (List.Perm.map _ ((List.perm_ext_iff_of_nodup nd (hy.imp λh=>by omega)).mpr hm))
 exact List.Perm.eq_of_pairwise (le:=λa b=>a<=b) (λa b _ _ h1 h2=>Int.le_antisymm h1 h2) up ((j7 hy).imp λh=>by omega) h1
theorem zt {F:List Nat}(nd:F.Nodup)(h:∀r∈F,1<=r/\r<64):F.length<64:=by
 have:=Cj nd (l₂:=(wl 63).map (· + 1)) λx hx=>by
  have:=h x hx
  exact Ch.mpr ⟨x - 1,Cn.mpr (by omega),by omega⟩
 rw[f8,Db]at this
 omega
theorem yh {a b:Nat}(ha:a<64)(hb:b<64):a ^^^ b<64:=Nat.xor_lt_two_pow (n:=6) ha hb
theorem yg {a b:Nat}(h:a≠b):1<=a ^^^ b:=Gz λe=>h (by
 have:=congrArg (λt=>t ^^^ b) e
 simp only[ED,Fq,Fp,Iu]at this
 exact this)
def insM (M:List Nat)(x:Nat):List Nat:=if x∈M then M else M++[x]
theorem rM {M:List Nat}{x y:Nat}:y∈insM M x↔y∈M∨y=x:=by
 unfold insM
 split
 ·rename_i h
  exact⟨.inl,λz=>z.elim id λe=>e▸h⟩
 ·rw[xL,sn]
theorem u_ {M:List Nat}{x:Nat}(h:M.Nodup):(insM M x).Nodup:=by
 unfold insM
 split
 ·exact h
 ·rename_i hx
  exact C_.mpr ⟨h,by simp,λa ha b hb e=>hx (by rw[sn.mp hb]at e;exact e▸ha)⟩
theorem eF {c:Bool}{K:List Nat}(hk:∀r∈K,1<=r/\r<64){r:Nat}(h:b6 c K r=true):1<=r/\r<64:=by
 obtain⟨a,ha,b,hb,ne,_,rfl⟩:=cD.mp h
 exact⟨yg ne,yh (hk a ha).2 (hk b hb).2⟩
theorem cE {c:Bool}{K S:List Nat}(hk:∀r∈K,1<=r/\r<64){r:Nat}:r∈bS c K S↔b6 c K r=true/\r∉K/\r∉S:=by
 unfold bS
 rw[AC,Cn,BX,BX,C3,C3,<- C0,<- C0,sB,sB,and_assoc]
 exact⟨λh=>h.2,λh=>⟨(eF hk h.1).2,h⟩⟩
theorem rP (c:Bool)(K S:List Nat):(bS c K S).Pairwise (· < ·):=Eb _ Dm
theorem w4 (W K:List Nat):(bw W K).Pairwise (· < ·):=Eb _ Dm
theorem eI {W K:List Nat}(hw:∀r∈W,1<=r/\r<64){r:Nat}:r∈bw W K↔r∈W/\r∉K:=by
 unfold bw
 rw[AC,Cn,BX,C3,<- C0,sB,sB]
 exact⟨λh=>h.2,λh=>⟨(hw r h.1).2,h⟩⟩
theorem yC {c:Bool}{K:List Nat}(hk:∀r∈K,1<=r/\r<64){n r:Nat}(h:Rch c K n r):r<64:=by
 induction h with
 | nil=>decide
 | add h hp hm ih=>exact yh ih (hk _ hp).2
theorem yB {c:Bool}{K:List Nat}{n x:Nat}(h:Rch c K (n+1) x):∃t p,Rch c K n t/\p∈K/\mayN c t p=true/\x=t ^^^ p:=by
 cases h with
 | add h hp hm=>exact⟨_,_,h,hp,hm,rfl⟩
def sumN (c:Bool)(K N:List Nat):List Nat:=N.flatMap λt=>(K.filter (mayN c t)).map λp=>t ^^^ p
theorem qY {c:Bool}{K N:List Nat}{x:Nat}:x∈sumN c K N↔∃t∈N,∃p∈K,mayN c t p=true/\t ^^^ p=x:=by
 unfold sumN
 rw[GX]
 refine exists_congr λt=>and_congr Hx ?_
 rw[Ch]
 refine exists_congr λp=>?_
 rw[AC,and_assoc]
structure Lev (c:Bool)(K:List Nat)(k:Nat)(M N:List Nat):Prop where
 m:∀x,x∈M↔∃n,n<=k/\Rch c K n x
 n:∀x,x∈N↔Rch c K k x/\∀n,n<k->¬Rch c K n x
 nd:N.Nodup
 up:k=0->N=[0]
theorem Lev.new {c:Bool}{K:List Nat}{k:Nat}{M N:List Nat}(L:Lev c K k M N){x:Nat}(hx:x∉M):x∈sumN c K N↔Rch c K (k+1) x:=by
 rw[qY]
 constructor
 ·rintro⟨t,ht,p,hp,hm,rfl⟩
  exact .add ((L.n t).mp ht).1 hp hm
 ·intro h
  obtain⟨t,p,h1,hp,hm,rfl⟩:=yB h
  refine⟨t,(L.n t).mpr ⟨h1,λn hn h2=>hx ((L.m _).mpr ⟨n+1,by omega,.add h2 hp hm⟩)⟩,p,hp,hm,rfl⟩
theorem Lev.next {c:Bool}{K:List Nat}{k:Nat}{M N N' M':List Nat}(L:Lev c K k M N)(hn:∀x,x∈N'↔x∈sumN c K N/\x∉M)(hm:∀x,x∈M'↔x∈M∨x∈N')(nd:N'.Nodup):Lev c K (k+1) M' N':=by
 have key:∀x,x∈N'↔Rch c K (k+1) x/\∀n,n<k+1->¬Rch c K n x:=λx=>by
  rw[hn]
  constructor
  ·rintro⟨h1,h2⟩
   exact⟨(L.new h2).mp h1,λn hn h=>h2 ((L.m x).mpr ⟨n,by omega,h⟩)⟩
  ·rintro⟨h1,h2⟩
   have h3:x∉M:=λh=>by
    obtain⟨n,hn,h⟩:=(L.m x).mp h
    exact h2 n (by omega) h
   exact⟨(L.new h3).mpr h1,h3⟩
 refine⟨λx=>?_,key,nd,λe=>by omega⟩
 rw[hm,L.m,key]
 constructor
 ·rintro(⟨n,h1,h2⟩ | ⟨h1,_⟩)
  ·exact⟨n,by omega,h2⟩
  ·exact⟨k+1,lm _,h1⟩
 ·rintro⟨n,h1,h2⟩
  by_cases z:∃n,n<=k/\Rch c K n x
  ·exact .inl z
  ·have:n=k+1:=by
    rcases B7 k n with q | q
    ·omega
    ·exact absurd ⟨n,q,h2⟩ z
   subst this
   exact .inr ⟨h2,λn hn h=>z ⟨n,by omega,h⟩⟩
theorem Lev.start {c:Bool}{K:List Nat}:Lev c K 0 [0] [0]:=by
 have h0:∀x,Rch c K 0 x↔x=0:=λx=>⟨λh=>by cases h;rfl,λe=>by rw[e];exact .nil⟩
 refine⟨λx=>?_,λx=>?_,by simp,λ_=>rfl⟩
 ·rw[sn]
  exact⟨λe=>⟨0,lm _,(h0 x).mpr e⟩,λ⟨n,hn,h⟩=>by
   have e:n=0:=by omega
   subst e
   exact(h0 x).mp h⟩
 ·rw[sn,h0]
  exact⟨λe=>⟨e,λn hn=>by omega⟩,λh=>h.1⟩
theorem Lev.lt {c:Bool}{K:List Nat}{k:Nat}{M N:List Nat}(L:Lev c K k M N)(hk:∀r∈K,1<=r/\r<64):N.length<64:=by
 by_cases z:k=0
 ·rw[L.up z];decide
 ·refine zt L.nd λr hr=>?_
  obtain⟨h1,h2⟩:=(L.n r).mp hr
  exact⟨Gz λe=>h2 0 (by omega) (by rw[e];exact .nil),yC hk h1⟩
theorem mo (c:Bool)(K:List Nat):∀N:List Nat,(sumN c K N).length<=N.length*K.length
 | []=>by simp[sumN]
 | t::N=>by
  have:=mo c K N
  unfold sumN at this ⊢
  rw[Fz,wP,f8,At,KG]
  have:=CD (mayN c t) K
  omega
theorem vp (N:List Nat):∀M:List Nat,M.Nodup->(N.foldl insM M).Nodup/\∀x,x∈N.foldl insM M↔x∈M∨x∈N:=by
 induction N with
 | nil=>intro M h;exact⟨h,λx=>by simp⟩
 | cons n N ih =>
  intro M h
  obtain⟨a,b⟩:=ih (insM M n) (u_ h)
  refine⟨a,λx=>?_⟩
  rw[Eg,b x,rM,sK,or_assoc]
theorem rR {c:Bool}{K:List Nat}{l r:Nat}:farN c K l r=true↔¬ ∃n,n<=l+1/\Rch c K n r:=by classical unfold farN;exact decide_eq_true_iff
theorem zu {c:Bool}{K:List Nat}{l r:Nat}{b:Bool}(h:b=true↔∃n,n<=l+1/\Rch c K n r):farN c K l r = !b:=by
 rw[Eh,rR,<- h]
 cases b <;> simp
def Pap (W:List Nat)(cl:Bool):Nat->List Nat->List Nat->D->Prop
 | 0,kn,sh,d=>(d = .tup [.str "rows"]/\0<(bw W kn).length)∨(∃r,d = .tup [.str "far",nD r]/\r∈bw W kn/\farN cl kn 0 r=true)
 | l+1,kn,sh,d=>(d = .tup [.str "rows"]/\l+1<(bw W kn).length)∨(∃r,d = .tup [.str "far",nD r]/\r∈bw W kn/\farN cl kn (l+1) r=true) ∨
  (∃r p,d = .tup [.str "made",nD r,p]/\r∈bw W kn/\r∈bS cl kn sh/\Pap W cl l (kn++[r]) sh p) ∨
  (∃ps,d = .tup [.str "next",.tup ps]/\bw W kn≠[]/\ps.length=(bS cl kn sh).length/\∀i,i<ps.length->Pap W cl l (kn++[(bS cl kn sh).getD i 0]) (sh++(bS cl kn sh).take i) (ps.getD i .non))
open Classical in
noncomputable def y6 (c:Cs)(r p:D):Bool:=decide (∃n,r=nD n/\1<=c.lf/\n∈bw c.W c.kn/\n∈bS c.cl c.kn c.sh/\Pap c.W c.cl (c.lf - 1) (c.kn++[n]) c.sh p)
theorem kE {c:Cs}{r p:D}:y6 c r p=true↔∃n,r=nD n/\1<=c.lf/\n∈bw c.W c.kn/\n∈bS c.cl c.kn c.sh/\Pap c.W c.cl (c.lf - 1) (c.kn++[n]) c.sh p:=by classical unfold y6;exact decide_eq_true_iff
open Classical in
noncomputable def yY (c:Cs)(d:D):Bool:=decide (∃ps,d = .tup ps/\1<=c.lf/\bw c.W c.kn≠[]/\ps.length=(bS c.cl c.kn c.sh).length/\∀i,i<ps.length->Pap c.W c.cl (c.lf - 1) (c.kn++[(bS c.cl c.kn c.sh).getD i 0]) (c.sh++(bS c.cl c.kn c.sh).take i) (ps.getD i .non))
theorem kB {c:Cs}{d:D}:yY c d=true↔∃ps,d = .tup ps/\1<=c.lf/\bw c.W c.kn≠[]/\ps.length=(bS c.cl c.kn c.sh).length/\∀i,i<ps.length->Pap c.W c.cl (c.lf - 1) (c.kn++[(bS c.cl c.kn c.sh).getD i 0]) (c.sh++(bS c.cl c.kn c.sh).take i) (ps.getD i .non):=by classical unfold yY;exact decide_eq_true_iff
theorem uD {c:Cs}{d:D}:Pap c.W c.cl c.lf c.kn c.sh d↔(d = .tup [.str "rows"]/\c.lf<(bw c.W c.kn).length)∨(∃r,d = .tup [.str "far",nD r]/\r∈bw c.W c.kn/\farN c.cl c.kn c.lf r=true)∨(∃r p,d = .tup [.str "made",r,p]/\y6 c r p=true) ∨ ∃p,d = .tup [.str "next",p]/\yY c p=true:=by
 obtain⟨W,cl,kn,sh,lf⟩:=c
 cases lf with
 | zero =>
  unfold Pap
  constructor
  ·rintro(h | h)
   ·exact .inl h
   ·exact .inr (.inl h)
  ·rintro(h | h | ⟨r,p,rfl,h⟩ | ⟨p,rfl,h⟩)
   ·exact .inl h
   ·exact .inr h
   ·obtain⟨n,_,h1,_⟩:=kE.mp h
    exact absurd h1 (IK 0)
   ·obtain⟨n,_,h1,_⟩:=kB.mp h
    exact absurd h1 (IK 0)
 | succ l =>
  unfold Pap
  refine or_congr Hx (or_congr Hx (or_congr ?_ ?_))
  ·constructor
   ·rintro⟨r,p,rfl,h1,h2,h3⟩
    exact⟨_,_,rfl,kE.mpr ⟨r,rfl,Jy (B0 _),h1,h2,h3⟩⟩
   ·rintro⟨r,p,rfl,h⟩
    obtain⟨n,rfl,_,h1,h2,h3⟩:=kE.mp h
    exact⟨n,p,rfl,h1,h2,h3⟩
  ·constructor
   ·rintro⟨ps,rfl,h1,h2,h3⟩
    exact⟨_,rfl,kB.mpr ⟨ps,rfl,Jy (B0 _),h1,h2,h3⟩⟩
   ·rintro⟨p,rfl,h⟩
    obtain⟨ps,rfl,_,h1,h2,h3⟩:=kB.mp h
    exact⟨ps,rfl,h1,h2,h3⟩
theorem BF {b:Bool}{p:Prop}(h:b=true↔p)(n:¬p):b=false:=by
 cases b with
 | false=>rfl
 | true=>exact absurd (h.mp rfl) n
theorem xj {c:Cs}(hc:CsOk c):(bS c.cl c.kn c.sh).length<=63:=by
 have:=zt ((rP c.cl c.kn c.sh).imp λh=>by omega) λr hr=>eF hc.k ((cE hc.k).mp hr).1
 omega
theorem CsOk.with {c:Cs}(hc:CsOk c)(hl:1<=c.lf){r:Nat}{s:List Nat}(hr:1<=r/\r<64)(hn:r∉c.kn)(hs:∀x∈s,x<64)(sl:s.length<=c.sh.length+63):CsOk ⟨c.W,c.cl,c.kn++[r],s,c.lf - 1⟩ :=
 ⟨hc.w24,hc.w,λx hx=>(xL.mp hx).elim (hc.k x) λh=>by rw[sn.mp h];exact hr,C_.mpr ⟨hc.kd,by simp,λa ha b hb e=>hn (by rw[sn.mp hb]at e;exact e▸ha)⟩,by have:=hc.sl;show s.length+64*(c.lf - 1)<=704;omega,hs,by have:=hc.l;show c.lf - 1<=11;omega⟩
section
variable {P:wS}{w:B_}{K:bi}{mg:Str->Option bn}{base:Heap}
theorem uK {C_Cases:Addr}(o:ClsO K mg C_Cases "Cases" ["wished", "clean", "known", "shut", "left"])(dn:DefM K C_Cases "__init__" "Cases.__init__" bz ["self", "wished", "clean", "known", "shut", "left"]):ObC P w K mg base C_Cases "Cases" ["wished", "clean", "known", "shut", "left"]:=by
 refine ObC.of o dn i_ λf cdv A outer s H vs Q E hr h=>?_
 obtain⟨x,dx,us,rfl,hl,hx,hq⟩:=h
 match us,hl with
 | [a0,a1,a2,a3,a4],_ =>
  refine⟨_,(aw (nM (pv 0) (pv 1) rfl) (aw (nM (pv 0) (pv 2) rfl) (aw (nM (pv 0) (pv 3) rfl) (aw (nM (pv 0) (pv 4) rfl) (aH (nM (pv 0) (pv 5) rfl)))))),?_⟩
  refine⟨_,rfl,_,rfl,x,C_Cases,dx,_,rfl,hx,o.cl,o.na _ (.head _),(show 0<1000 from by decide),?_⟩
  refine⟨_,rfl,_,rfl,x,C_Cases,dx,_,rfl,aR,o.cl,o.na _ (.tail _ (.head _)),(show 1<1000 from by decide),?_⟩
  refine⟨_,rfl,_,rfl,x,C_Cases,dx,_,rfl,aR,o.cl,o.na _ (.tail _ (.tail _ (.head _))),(show 2<1000 from by decide),?_⟩
  refine⟨_,rfl,_,rfl,x,C_Cases,dx,_,rfl,aR,o.cl,o.na _ (.tail _ (.tail _ (.tail _ (.head _)))),(show 3<1000 from by decide),?_⟩
  refine⟨_,rfl,_,rfl,x,C_Cases,dx,_,rfl,aR,o.cl,o.na _ (.tail _ (.tail _ (.tail _ (.tail _ (.head _))))),(show 4<1000 from by decide),?_⟩
  rw[i7,i7,i7,i7]
  exact hq
theorem sI {K:bi}{mg:Str->Option bn}{h:Heap}{C_Cases f_0 f_1 f_2 f_3 f_4 f_5 f_6 f_7 f_8 f_9:Addr}{oc_0 kV_0 doc_0 pm_0 cdv_0 ct_0:bn}{od_0 an_0:Option Addr}{osl_0:Array (Option bn)}{oc_1 kV_1 doc_1 pm_1 cdv_1 ct_1:bn}{od_1 an_1:Option Addr}{osl_1:Array (Option bn)}{oc_2 kV_2 doc_2 pm_2 cdv_2 ct_2:bn}{od_2 an_2:Option Addr}{osl_2:Array (Option bn)}{oc_3 kV_3 doc_3 pm_3 cdv_3 ct_3:bn}{od_3 an_3:Option Addr}{osl_3:Array (Option bn)}{oc_4 kV_4 doc_4 pm_4 cdv_4 ct_4:bn}{od_4 an_4:Option Addr}{osl_4:Array (Option bn)}{oc_5 kV_5 doc_5 pm_5 cdv_5 ct_5:bn}{od_5 an_5:Option Addr}{osl_5:Array (Option bn)}{oc_6 kV_6 doc_6 pm_6 cdv_6 ct_6:bn}{od_6 an_6:Option Addr}{osl_6:Array (Option bn)}{oc_7 kV_7 doc_7 pm_7 cdv_7 ct_7:bn}{od_7 an_7:Option Addr}{osl_7:Array (Option bn)}{oc_8 kV_8 doc_8 pm_8 cdv_8 ct_8:bn}{od_8 an_8:Option Addr}{osl_8:Array (Option bn)}{oc_9 kV_9 doc_9 pm_9 cdv_9 ct_9:bn}{od_9 an_9:Option Addr}{osl_9:Array (Option bn)}(KX:K.In h)(G:h.Ns B9 mg)(f0:Ct K B9 "Cases" = some (some (.ref C_Cases)))(f1:ER K C_Cases Str.empty=true)(f2:Ft K C_Cases=true)(f3:Gg K C_Cases=true)(f4:B8 K (.ref C_Cases) "__setattr__" = some (some (.builtin "object.__setattr__")))(f5:FI K C_Cases=true)(f6:Cq K (.ref C_Cases)=true)(na0:B8 K (.ref C_Cases) "wished" = some none)(na1:B8 K (.ref C_Cases) "clean" = some none)(na2:B8 K (.ref C_Cases) "known" = some none)(na3:B8 K (.ref C_Cases) "shut" = some none)(na4:B8 K (.ref C_Cases) "left" = some none)(m0_0:B8 K (.ref C_Cases) "__init__" = some (some (.ref f_0)))(m0_1:K.lookup f_0=some ⟨oc_0,od_0,.func (CF "__init__" "Cases.__init__" (cF bz) (bI bz) (ar bz) .none kV_0 doc_0 pm_0 an_0 cdv_0 ct_0),osl_0⟩)(m0_2:CL K cdv_0 "Cases.__init__" = true)(m0_3:Cq K (.ref f_0)=true)(m0_4:Dc K (.ref f_0)=true)(m1_0:B8 K (.ref C_Cases) "with_row" = some (some (.ref f_1)))(m1_1:K.lookup f_1=some ⟨oc_1,od_1,.func (CF "with_row" "Cases.with_row" (cF bx) (bI bx) (ar bx) .none kV_1 doc_1 pm_1 an_1 cdv_1 ct_1),osl_1⟩)(m1_2:CL K cdv_1 "Cases.with_row" = true)(m1_3:Cq K (.ref f_1)=true)(m1_4:Dc K (.ref f_1)=true)(m2_0:B8 K (.ref C_Cases) "lacking" = some (some (.ref f_2)))(m2_1:K.lookup f_2=some ⟨oc_2,od_2,.func (CF "lacking" "Cases.lacking" (cF bo) (bI bo) (ar bo) .none kV_2 doc_2 pm_2 an_2 cdv_2 ct_2),osl_2⟩)(m2_2:CL K cdv_2 "Cases.lacking" = true)(m2_3:Cq K (.ref f_2)=true)(m2_4:Dc K (.ref f_2)=true)(m3_0:B8 K (.ref C_Cases) "free_rows" = some (some (.ref f_3)))(m3_1:K.lookup f_3=some ⟨oc_3,od_3,.func (CF "free_rows" "Cases.free_rows" (cF aY) (bI aY) (ar aY) .none kV_3 doc_3 pm_3 an_3 cdv_3 ct_3),osl_3⟩)(m3_2:CL K cdv_3 "Cases.free_rows" = true)(m3_3:Cq K (.ref f_3)=true)(m3_4:Dc K (.ref f_3)=true)(m4_0:B8 K (.ref C_Cases) "lacks_too_many" = some (some (.ref f_4)))(m4_1:K.lookup f_4=some ⟨oc_4,od_4,.func (CF "lacks_too_many" "Cases.lacks_too_many" (cF aX) (bI aX) (ar aX) .none kV_4 doc_4 pm_4 an_4 cdv_4 ct_4),osl_4⟩)(m4_2:CL K cdv_4 "Cases.lacks_too_many" = true)(m4_3:Cq K (.ref f_4)=true)(m4_4:Dc K (.ref f_4)=true)(m5_0:B8 K (.ref C_Cases) "is_far" = some (some (.ref f_5)))(m5_1:K.lookup f_5=some ⟨oc_5,od_5,.func (CF "is_far" "Cases.is_far" (cF bc) (bI bc) (ar bc) .none kV_5 doc_5 pm_5 an_5 cdv_5 ct_5),osl_5⟩)(m5_2:CL K cdv_5 "Cases.is_far" = true)(m5_3:Cq K (.ref f_5)=true)(m5_4:Dc K (.ref f_5)=true)(m6_0:B8 K (.ref C_Cases) "shown_by" = some (some (.ref f_6)))(m6_1:K.lookup f_6=some ⟨oc_6,od_6,.func (CF "shown_by" "Cases.shown_by" (cF bW) (bI bW) (ar bW) .none kV_6 doc_6 pm_6 an_6 cdv_6 ct_6),osl_6⟩)(m6_2:CL K cdv_6 "Cases.shown_by" = true)(m6_3:Cq K (.ref f_6)=true)(m6_4:Dc K (.ref f_6)=true)(m7_0:B8 K (.ref C_Cases) "shown_far" = some (some (.ref f_7)))(m7_1:K.lookup f_7=some ⟨oc_7,od_7,.func (CF "shown_far" "Cases.shown_far" (cF bP) (bI bP) (ar bP) .none kV_7 doc_7 pm_7 an_7 cdv_7 ct_7),osl_7⟩)(m7_2:CL K cdv_7 "Cases.shown_far" = true)(m7_3:Cq K (.ref f_7)=true)(m7_4:Dc K (.ref f_7)=true)(m8_0:B8 K (.ref C_Cases) "shown_made" = some (some (.ref f_8)))(m8_1:K.lookup f_8=some ⟨oc_8,od_8,.func (CF "shown_made" "Cases.shown_made" (cF bL) (bI bL) (ar bL) .none kV_8 doc_8 pm_8 an_8 cdv_8 ct_8),osl_8⟩)(m8_2:CL K cdv_8 "Cases.shown_made" = true)(m8_3:Cq K (.ref f_8)=true)(m8_4:Dc K (.ref f_8)=true)(m9_0:B8 K (.ref C_Cases) "shown_next" = some (some (.ref f_9)))(m9_1:K.lookup f_9=some ⟨oc_9,od_9,.func (CF "shown_next" "Cases.shown_next" (cF bK) (bI bK) (ar bK) .none kV_9 doc_9 pm_9 an_9 cdv_9 ct_9),osl_9⟩)(m9_2:CL K cdv_9 "Cases.shown_next" = true)(m9_3:Cq K (.ref f_9)=true)(m9_4:Dc K (.ref f_9)=true):∃C_Cases:Addr,ClsO K mg C_Cases "Cases" ["wished", "clean", "known", "shut", "left"]/\DefM K C_Cases "__init__" "Cases.__init__" bz ["self", "wished", "clean", "known", "shut", "left"]/\DefM K C_Cases "with_row" "Cases.with_row" bx ["self", "row", "shut"]/\DefM K C_Cases "lacking" "Cases.lacking" bo ["self"]/\DefM K C_Cases "free_rows" "Cases.free_rows" aY ["self"]/\DefM K C_Cases "lacks_too_many" "Cases.lacks_too_many" aX ["self"]/\DefM K C_Cases "is_far" "Cases.is_far" bc ["self", "row"]/\DefM K C_Cases "shown_by" "Cases.shown_by" bW ["self", "paper"]/\DefM K C_Cases "shown_far" "Cases.shown_far" bP ["self", "row"]/\DefM K C_Cases "shown_made" "Cases.shown_made" bL ["self", "row", "paper"]/\DefM K C_Cases "shown_next" "Cases.shown_next" bK ["self", "papers"]:=by
 refine⟨C_Cases,?_,eY m0_0 m0_1 m0_2 m0_3 m0_4 (λ_ _ _ _ _ _ us hl=>match us,hl with | [_,_,_,_,_,_],_=>rfl),eY m1_0 m1_1 m1_2 m1_3 m1_4 (λ_ _ _ _ _ _ us hl=>match us,hl with | [_,_,_],_=>rfl),eY m2_0 m2_1 m2_2 m2_3 m2_4 (λ_ _ _ _ _ _ us hl=>match us,hl with | [_],_=>rfl),eY m3_0 m3_1 m3_2 m3_3 m3_4 (λ_ _ _ _ _ _ us hl=>match us,hl with | [_],_=>rfl),eY m4_0 m4_1 m4_2 m4_3 m4_4 (λ_ _ _ _ _ _ us hl=>match us,hl with | [_],_=>rfl),eY m5_0 m5_1 m5_2 m5_3 m5_4 (λ_ _ _ _ _ _ us hl=>match us,hl with | [_,_],_=>rfl),eY m6_0 m6_1 m6_2 m6_3 m6_4 (λ_ _ _ _ _ _ us hl=>match us,hl with | [_,_],_=>rfl),eY m7_0 m7_1 m7_2 m7_3 m7_4 (λ_ _ _ _ _ _ us hl=>match us,hl with | [_,_],_=>rfl),eY m8_0 m8_1 m8_2 m8_3 m8_4 (λ_ _ _ _ _ _ us hl=>match us,hl with | [_,_,_],_=>rfl),eY m9_0 m9_1 m9_2 m9_3 m9_4 (λ_ _ _ _ _ _ us hl=>match us,hl with | [_,_],_=>rfl)⟩
 refine⟨DZ KX G f0,⟨f1,f2,f3,f4⟩,λf hf=>?_,f5,f6⟩
 simp only[sK,Cr,or_false]at hf
 rcases hf with rfl | rfl | rfl | rfl | rfl
 ·exact na0
 ·exact na1
 ·exact na2
 ·exact na3
 ·exact na4
theorem pY (dn:DefN K mg "is_whole" gW ["thing", "least", "most"])(B:BI mg):OkN P w K mg base 1 "is_whole" ["thing", "least", "most"] (spA K iX):=by
 refine dn.aok2 (k:=0) pK (λj=>j==0||j==1||j==2) [] iX rfl (λf cdv A outer s H E hr=>have hu:=cv hr;⟨_,(aH (aZ (gp (bh (kU K) rfl B.isinstance_ fP (ah (pv 0) (ah (yG rfl B.int_ Ba) aA))) (gp (xU (bh (kU K) rfl B.isinstance_ fP (ah (pv 0) (ah (yG rfl B.bool_ zE) aA)))) (ju (mG mH mH (pv 1) (pv 0) (pv 2))))))),(aO (cY (bZ nc (aa af (aa tK aj))) (cY (qU (bZ nc (aa af (aa tK aj)))) (j0 cC cC af af af))))⟩) ?_
 rintro ss q ⟨d,lo,hi,rfl,hq⟩
 refine⟨rfl,rfl,?_⟩
 cases d with
 | non=>exact de rfl oB hq
 | str _=>exact de rfl oA hq
 | tup _=>exact de rfl lq hq
 | lst _=>exact de rfl mR hq
 | bl b=>exact de rfl mT (de rfl ly hq)
 | int i =>
  refine de rfl oC (de rfl mS ?_)
  refine iteT (ite2 (λh=>?_) λh=>?_)
  ·rw[show df lo hi (.int i)=decide (i<=hi)by simp[df,of_decide_eq_true h]]at hq
   exact hq
  ·rw[show df lo hi (.int i)=false by simp[df];intro h';exact absurd (decide_eq_true h') h]at hq
   exact hq
theorem pZ (dn:DefN K mg "is_tuple" gX ["thing", "least", "most"])(B:BI mg):OkN P w K mg base 1 "is_tuple" ["thing", "least", "most"] (spA K g8):=by
 refine dn.aok2 (k:=0) pL (λj=>j==0||j==1||j==2) [] g8 rfl (λf cdv A outer s H E hr=>have hu:=cv hr;⟨_,(aH (aZ (gp (bh (kU K) rfl B.isinstance_ fP (ah (pv 0) (ah (yG rfl B.tuple_ fO) aA))) (ju (mG mH mH (pv 1) (bh (bN K) rfl B.len_ dU (ah (pv 0) aA)) (pv 2)))))),(aO (cY (bZ nc (aa af (aa tK aj))) (j0 cC cC af (bZ cK (aa af aj)) af)))⟩) ?_
 rintro ss q ⟨d,lo,hi,rfl,hq⟩
 refine⟨rfl,rfl,?_⟩
 cases d with
 | non=>exact de rfl lu hq
 | str _=>exact de rfl lr hq
 | int _=>exact de rfl lx hq
 | lst _=>exact de rfl kI hq
 | bl b=>exact de rfl kJ hq
 | tup ds =>
  refine de rfl jG ?_
  refine iteT (ite2 (λh=>?_) λh=>?_)
  ·rw[show tupB lo hi (.tup ds)=decide ((ds.length:Int)<=hi)by simp[tupB,of_decide_eq_true h]]at hq
   exact hq
  ·rw[show tupB lo hi (.tup ds)=false by simp[tupB];intro h';exact absurd (decide_eq_true h') h]at hq
   exact hq
theorem uH (dn:DefN K mg "joined" jM ["one", "other"])(B:BI mg):OkN P w K mg base 1 "joined" ["one", "other"] (spA K ie):=by
 refine dn.aok2 (k:=0) uk (λj=>j==0||j==1) [] ie rfl (λf cdv A outer s H E hr=>have hu:=cv hr;⟨_,(aH (aZ (be nR (pv 0) (pv 1)))),(aO (aG a9 af af))⟩) ?_
 rintro ss q ⟨x,y,rfl,hq⟩
 refine⟨rfl,rfl,?_⟩
 show q (.d (.int (EI x y))) [nv x,nv y]
 rw[mh];exact hq
theorem pS (dn:DefN K mg "own_rows" e7 ["many"])(B:BI mg):OkN P w K mg base 1 "own_rows" ["many"] (spA K SOwn):=by
 refine dn.aok2 (k:=0) pG (λj=>j==0) [] SOwn rfl (λf cdv A outer s H E hr=>have hu:=cv hr;⟨_,(aH (aZ (du ["given"] [] rfl (Blk.of (ar e7) ku) (fc rfl B.range_ (ah (pv 0) aA)) (λ_ _ _ _ nd=>(aF (i:=0) nd rfl (by first | exact Or.inl rfl | exact Or.inr rfl))) (λ_ _ _ _=>cB) (λ_ _ _ _=>(be nU aL (pv 0)))))),(aO (bU (eZ (aa af aj)) (aq rfl) bY (aG ko aI af)))⟩) ?_
 rintro ss q ⟨m,rfl,hm,hq⟩
 refine⟨rfl,rfl,⟨by omega,by omega⟩,by rw[cT];omega,?_⟩
 refine iU (λk=>.int (1 <<< k:Nat)) trivial (λk acc N hk hN=>?_) ?_
 ·rw[FT]
  refine⟨⟨by omega,by omega,by decide⟩,?_⟩
  show N (acc++[.int ((1:Int)*2^((k:Int).toNat))]) _
  rw[j4];exact hN
 ·rw[CB]
  have e:((wl m).map λk=>D.int (1 <<< k:Nat))=ao (az m):=by unfold az ao;rw[B3];rfl
  rw[e];exact hq
theorem pT (dn:DefN K mg "may_join" gT ["clean", "one", "other"])(B:BI mg):OkN P w K mg base 1 "may_join" ["clean", "one", "other"] (spA K SMay):=by
 refine dn.aok2 (k:=0) pH (λj=>j==0||j==1||j==2) [] SMay rfl (λf cdv A outer s H E hr=>have hu:=cv hr;⟨_,(aH (aZ (Bt (xU (pv 0)) (ju (eE (jv K hr.units) (be nX (pv 1) (pv 2)) aL (bR _)))))),(aO (ym (qU af) (aG jx (aG a9 af af) aI)))⟩) ?_
 rintro ss q ⟨c,x,y,rfl,hq⟩
 refine⟨rfl,rfl,?_⟩
 cases c with
 | false=>exact hq
 | true =>
  refine dM (b:=decide (x &&& y=0)) rfl rfl (by simp[D.depth]) ?_ hq
  show eqD (.int (CM (x:Int) (y:Int))) (.int 0)=_
  rw[qK]
  show decide (((x &&& y:Nat):Int)=0)=_
  rw[decide_eq_decide];omega
theorem jg {C_Cases:Addr}(ob_Cases:ObC P w K mg base C_Cases "Cases" ["wished", "clean", "known", "shut", "left"])(dn:DefM K C_Cases "with_row" "Cases.with_row" bx ["self", "row", "shut"])(B:BI mg):OkM P w K mg base 3 C_Cases "with_row" ["self", "row", "shut"] (spA K (xD C_Cases)):=by
 refine dn.aok2 (k:=2) i9 (λj=>j==0||j==1||j==2) [] (xD C_Cases) rfl (λf cdv A outer s H E hr=>have hu:=cv hr;⟨_,(aH (aZ (xW ob_Cases.nw (hr.mono (by decide)) (ah (dg (pv 0) rfl) (ah (dg (pv 0) rfl) (ah (be (jd K) (dg (pv 0) rfl) (eD (ah (pv 1) aA))) (ah (pv 2) (ah (be gr (dg (pv 0) rfl) aL) aA)))))))),(aO (tM (aa (cp ob_Cases.cl (ob_Cases.na _ (.head _)) af) (aa (cp ob_Cases.cl (ob_Cases.na _ (.tail _ (.head _))) af) (aa (aG je (cp ob_Cases.cl (ob_Cases.na _ (.tail _ (.tail _ (.head _)))) af) (cU (aa af aj))) (aa af (aa (aG a9 (cp ob_Cases.cl (ob_Cases.na _ (.tail _ (.tail _ (.tail _ (.tail _ (.head _)))))) af) aI) aj)))))))⟩) ?_
 rintro ss q ⟨c,r,s,rfl,hl,h1,hq⟩
 refine⟨rfl,rfl,?_⟩
 refine⟨rfl,_,rfl,rfl,_,rfl,rfl,_,rfl,by simp,by rw[bg];simp;omega,rfl,_,rfl,rfl,?_⟩
 have e:ao c.kn++[D.int (r:Int)]=ao (c.kn++[r]):=(dy _ _).symm
 have e2:(c.lf:Int) - 1=((c.lf - 1:Nat):Int):=by omega
 show q (.x (.ob C_Cases [("wished",.tup (ao c.W)),("clean",.bl c.cl),("known",.lst (ao c.kn++[D.int (r:Int)])),("shut",.lst (ao s)),("left",.int ((c.lf:Int) - 1))])) _
 rw[e,e2]
 exact hq
theorem jC {C_Cases:Addr}(ob_Cases:ObC P w K mg base C_Cases "Cases" ["wished", "clean", "known", "shut", "left"])(dn:DefM K C_Cases "lacking" "Cases.lacking" bo ["self"])(B:BI mg):OkM P w K mg base 3 C_Cases "lacking" ["self"] (spA K (xE C_Cases)):=by
 refine dn.aok2 (k:=2) jA (λj=>j==0) [] (xE C_Cases) rfl (λf cdv A outer s H E hr=>have hu:=cv hr;⟨_,(aH (aZ (nN ["row"] [0] rfl rfl B.sorted_ (Blk.of (ar bo) fY) (bF K (dg (pv 0) rfl)) (λ_ _ _ _ nd=>(aF (i:=0) nd rfl (by first | exact Or.inl rfl | exact Or.inr rfl))) (λ_ _ _ _=>(dS (bA (cI K) (pv 0) (dg (pv 1) rfl) rfl))) (λ_ _ _ _=>(pv 0))))),(aO (lC (ba (cp ob_Cases.cl (ob_Cases.na _ (.head _)) af)) (aq rfl) (aV (aG (jw true) af (cp ob_Cases.cl (ob_Cases.na _ (.tail _ (.tail _ (.head _)))) af))) af))⟩) ?_
 rintro ss q ⟨c,rfl,hc,hq⟩
 have w24:=hc.w24
 refine⟨rfl,rfl,?_⟩
 refine⟨rfl,_,rfl,by rw[bg];omega,?_⟩
 refine jn nD (λr=>!c.kn.contains r) (λr=>((r:Nat):Int)) trivial (λr acc N hr hN=>?_) ?_
 ·refine⟨rfl,_,rfl,iP (xs:=c.kn) rfl ?_⟩
  cases hb:c.kn.contains r with
  | true=>rw[hb]at hN;exact hN
  | false=>rw[hb]at hN;exact hN
 ·rw[JB]
  refine⟨?_,λns' up hm=>?_⟩
  ·refine Fx (x_ _) ?_
   rw[f8]
   have:=CD (λr=>!c.kn.contains r) c.W
   omega
  ·have:ns'=(bw c.W c.kn).map λr=>((r:Nat):Int):=j6 up (j7 (Eb _ Dm)) λx=>by
    rw[hm x,Ch,Ch]
    unfold bw
    constructor
    ·rintro⟨r,hr,rfl⟩
     obtain⟨h1,h2⟩:=AC.mp hr
     exact⟨r,AC.mpr ⟨Cn.mpr (hc.w r h1).2,by rw[sB.mpr h1,h2];rfl⟩,rfl⟩
    ·rintro⟨r,hr,rfl⟩
     obtain⟨h1,h2⟩:=AC.mp hr
     rw[BX]at h2
     exact⟨r,AC.mpr ⟨sB.mp h2.1,h2.2⟩,rfl⟩
   subst this
   rw[B3]
   exact hq
theorem fG {C_Cases:Addr}(ob_Cases:ObC P w K mg base C_Cases "Cases" ["wished", "clean", "known", "shut", "left"])(dn:DefM K C_Cases "lacks_too_many" "Cases.lacks_too_many" aX ["self"])(B:BI mg)(g_Cases_lacking:OkM P w K mg base 3 C_Cases "lacking" ["self"] (spA K (xE C_Cases))):OkM P w K mg base 4 C_Cases "lacks_too_many" ["self"] (spA K (vS C_Cases)):=by
 refine dn.aok2 (k:=3) fC (λj=>j==0) [] (vS C_Cases) rfl (λf cdv A outer s H E hr=>have hu:=cv hr;⟨_,(aH (aZ (eE sE (bh (bN K) rfl B.len_ dU (ah (rC g_Cases_lacking ob_Cases.cl (hr.mono (by decide)) (pv 0)) aA)) (dg (pv 0) rfl) (bR _)))),(aO (aG cC (bZ cK (aa (fz af aj) aj)) (cp ob_Cases.cl (ob_Cases.na _ (.tail _ (.tail _ (.tail _ (.tail _ (.head _)))))) af)))⟩) ?_
 rintro ss q ⟨c,rfl,hc,hq⟩
 refine⟨rfl,rfl,?_⟩
 refine⟨rfl,rfl,rfl,c,rfl,hc,rfl,_,rfl,?_⟩
 have e:decide (((c.lf:Nat):Int)<(((ao (bw c.W c.kn)).length:Nat):Int))=decide (c.lf<(bw c.W c.kn).length):=by
  rw[bg,decide_eq_decide];omega
 show q (.d (.bl (decide (((c.lf:Nat):Int)<(((ao (bw c.W c.kn)).length:Nat):Int))))) _
 rw[e]
 exact hq
theorem k_ {C_Cases:Addr}(ob_Cases:ObC P w K mg base C_Cases "Cases" ["wished", "clean", "known", "shut", "left"])(dn:DefN K mg "first_cases" dZ ["wish", "clean", "count"])(B:BI mg)(g_own_rows:OkN P w K mg base 1 "own_rows" ["many"] (spA K SOwn)):OkN P w K mg base 3 "first_cases" ["wish", "clean", "count"] (spA K (vU C_Cases)):=by
 refine dn.aok2 (k:=2) eV (λj=>j==0||j==1||j==2) [.un,.un] (vU C_Cases) rfl (λf cdv A outer s H E hr=>have hu:=cv hr;⟨_,(aw (eO (pv 0) (bC K (n:=2) rfl (aJ (aF (i:=3) eV.nd rfl (by first | exact Or.inl rfl | exact Or.inr rfl)) (aJ (aF (i:=4) eV.nd rfl (by first | exact Or.inl rfl | exact Or.inr rfl)) bB))))
  (aH (aZ (xW ob_Cases.nw (hr.mono (by decide)) (ah (pv 4) (ah (pv 1) (ah (bJ g_own_rows (hr.mono (by decide)) (ah (pv 3) aA)) (ah (eD aA) (ah (pv 2) aA))))))))),(aE (cZ af (a8 (aD (aq rfl) (aD (aq rfl) aW (λ_ _ _=>aN)) (λ_ _ _=>aN))))
  (aO (tM (aa af (aa af (aa (aM (aa af aj)) (aa (cU aj) (aa af aj))))))))⟩) ?_
 rintro ss q ⟨m,W,cl,l,rfl,hm,hq⟩
 refine⟨rfl,rfl,?_⟩
 refine cutS (λρ=>ρ=[.vl (cb m W),.vl (.bl cl),nv l,nv m,.vl (.tup (ao W))]) (λM hM=>hM _ rfl) ?_
 rintro _ rfl
 exact⟨rfl,m,rfl,by omega,by simp,rfl,hq⟩
end
section
variable {P:wS}{w:B_}{K:bi}{mg:Str->Option bn}{base:Heap}
theorem iH {C_Cases:Addr}(ob_Cases:ObC P w K mg base C_Cases "Cases" ["wished", "clean", "known", "shut", "left"])(dn:DefM K C_Cases "free_rows" "Cases.free_rows" aY ["self"])(B:BI mg)(g_joined:OkN P w K mg base 1 "joined" ["one", "other"] (spA K ie))(g_may_join:OkN P w K mg base 1 "may_join" ["clean", "one", "other"] (spA K SMay)):OkM P w K mg base 3 C_Cases "free_rows" ["self"] (spA K (zN C_Cases)):=by
 refine dn.aok2 (k:=2) c7 (λj=>j==0) [.un,.un] (zN C_Cases) rfl (λf cdv A outer s H E hr=>have hu:=cv hr;⟨_,(aw (mF (i:=1) ["other", "at", "one"] [0] c7.nd rfl (by first | exact Or.inl rfl | exact Or.inr rfl) rfl (Blk.of (ar aY) cu) (jc K rfl B.enumerate_ (ah (dg (pv 0) rfl) aA)) (λ_ _ _ _ nd=>(bC K (n:=2) rfl (aJ (aF (i:=1) nd rfl (by first | exact Or.inl rfl | exact Or.inr rfl)) (aJ (aF (i:=2) nd rfl (by first | exact Or.inl rfl | exact Or.inr rfl)) bB)))) (λ_ _ _ _=>cB) (λ_ _ _ _=>(bF K (g0 (gP K) (dg (pv 3) rfl) jb (ja (pv 1))))) (λ_ _ _ _ nd=>(aF (i:=0) nd rfl (by first | exact Or.inl rfl | exact Or.inr rfl))) (λ_ _ _ _=>cB) (λ_ _ _ _=>(cO (ah (pv 2) (ah (pv 0) aA)))))
  (aw (rq (i:=2) ["one", "other"] [0] c7.nd rfl (by first | exact Or.inl rfl | exact Or.inr rfl) rfl (Blk.of (ar aY) cu) (bF K (pv 1)) (λ_ _ _ _ nd=>(bC K (n:=2) rfl (aJ (aF (i:=0) nd rfl (by first | exact Or.inl rfl | exact Or.inr rfl)) (aJ (aF (i:=1) nd rfl (by first | exact Or.inl rfl | exact Or.inr rfl)) bB)))) (λ_ _ _ _=>(dS (eM (bJ g_may_join (hr.mono (by decide)) (ah (dg (pv 2) rfl) (ah (pv 0) (ah (pv 1) aA))))))) (λ_ _ _ _=>(bJ g_joined (hr.mono (by decide)) (ah (pv 0) (ah (pv 1) aA)))) (λ_ _ _ _=>dw))
  (aH (aZ (bh (qE K) rfl B.sorted_ kW (ah (du ["row"] [0] rfl (Blk.of (ar aY) cu) (yF (pv 2)) (λ_ _ _ _ nd=>(aF (i:=0) nd rfl (by first | exact Or.inl rfl | exact Or.inr rfl))) (λ_ _ _ _=>(dS (PW.pt (jt (bA (cI K) (pv 0) (dg (pv 1) rfl) rfl) (gh (bA (cI K) (pv 0) (dg (pv 1) rfl) rfl)))))) (λ_ _ _ _=>(pv 0))) aA)))))),(aE (j3 (jZ (n2:=1) (e6 (aa (cp ob_Cases.cl (ob_Cases.na _ (.tail _ (.tail _ (.head _)))) af) aj)) (a8 (aD (aq rfl) (aD (aq rfl) aW (λ_ _ _=>aN)) (λ_ _ _=>aN))) bY (ba (jX (cp ob_Cases.cl (ob_Cases.na _ (.tail _ (.tail _ (.head _)))) af) jW (f_ af))) (aq rfl) bY (b7 (aa af (aa af aj)))) rfl)
  (aE (nH (jY (ba af) (a8 (aD (aq rfl) (aD (aq rfl) aW (λ_ _ _=>aN)) (λ_ _ _=>aN))) (d_ (aM (aa (cp ob_Cases.cl (ob_Cases.na _ (.tail _ (.head _))) af) (aa af (aa af aj))))) (aM (aa af (aa af aj))) cc) rfl)
  (aO (bZ qD (aa (bU (tR af) (aq rfl) (fw (aV (aG (jw true) af (cp ob_Cases.cl (ob_Cases.na _ (.tail _ (.tail _ (.head _)))) af))) (aV (aG (jw true) af (cp ob_Cases.cl (ob_Cases.na _ (.tail _ (.tail _ (.tail _ (.head _))))) af)))) af) aj)))))⟩) ?_
 rintro ss q ⟨c,rfl,hc,hq⟩
 have hkl:=hc.kl
 refine⟨rfl,rfl,?_⟩
 have hpl:(prN c.kn).length<=63*63:=xz (yE c.kn) (F9 hkl hkl)
 refine cutS (λρ=>ρ=[obC C_Cases c,.ow ((prN c.kn).map pD),.un]) (λM hM=>?_) ?_
 ·refine⟨rfl,_,rfl,?_⟩
  have pre:∀i,i<=c.kn.length->(prU c.kn i).length<=63*63:=λi hi=>xz (pP c.kn i) (F9 (xz hi hkl) hkl)
  refine oS (λi acc ρ=>acc=(prU c.kn i).map pD/\i<=c.kn.length/\ρ=[obC C_Cases c,.un,.un]) (λi acc ρ _ h=>⟨trivial,by rw[h.1,f8];exact xz (pre i h.2.1) (by decide)⟩) ?_ ?_ _ ⟨rfl,B0 _,rfl⟩
  ·rintro i d acc _ N hd ⟨rfl,hil,rfl⟩ hN
   obtain⟨x,hx,rfl⟩:=cR hd
   rw[ao,wv]at hx
   obtain⟨a,ha,rfl⟩:=BZ.mp hx
   have hi:=(kt.mp ha).1
   have ea:c.kn.getD i 0=a:=by rw[ga,ha];rfl
   rw[C5]
   refine⟨rfl,_,rfl,?_⟩
   have ec:cutD (ao c.kn) none (some ((i:Nat):Int))=(c.kn.take i).map nD:=by rw[ft];unfold ao;rw[E2]
   show hB 1 (λ_=>True) _ _ _ _ (cutD (ao c.kn) none (some ((i:Nat):Int))) _ [.un,.vl (.int (i:Int)),.vl (.int (a:Int)),obC C_Cases c]
   rw[ec]
   refine gF nD (λ_=>true) (λb=>pD (a,b)) trivial (by rw[f8,B6];have:=pre i (by omega);omega) (λb acc N2 hb hN2=>⟨by simp,hN2⟩) ?_
   refine hN _ _ ⟨?_,by omega,rfl⟩
   rw[rB,Cb,B3,ea,List.filter_eq_self.mpr (λ_ _=>rfl)]
   rfl
  ·rintro acc _ ⟨rfl,_,rfl⟩
   have el:(dO 0 (ao c.kn)).length=c.kn.length:=by rw[bT,bg]
   rw[el]
   exact hM _ rfl
 rintro _ rfl
 refine cutS (λρ=>∃M:List Nat,M.Nodup/\(∀x,x∈M↔b6 c.cl c.kn x=true)/\ρ=[obC C_Cases c,.ow ((prN c.kn).map pD),.dk (mkT M)]) (λM hM=>?_) ?_
 ·refine⟨rfl,by rw[f8];omega,?_⟩
  refine jo (λj acc ρ=>∃M:List Nat,acc=mkT M/\M.Nodup/\(∀x,x∈M↔∃p∈(prN c.kn).take j,mayN c.cl p.1 p.2=true/\p.1 ^^^ p.2=x)/\ρ=[obC C_Cases c,.ow ((prN c.kn).map pD),.un]) (λj acc ρ _ ⟨M,_,_,_,e⟩=>by rw[e];rfl) ?_ ?_ _ ⟨[],rfl,Hr,by simp,rfl⟩
  ·rintro j d acc _ N hd ⟨M,rfl,nd,hm,rfl⟩ hN
   rw[wv]at hd
   obtain⟨⟨a,b⟩,hp,rfl⟩:=BZ.mp hd
   refine⟨rfl,_,rfl,rfl,c.cl,a,b,rfl,?_⟩
   have et:(prN c.kn).take (j+1)=(prN c.kn).take j++[(a,b)]:=by rw[CG,hp];rfl
   cases hb:mayN c.cl a b with
   | true =>
    refine⟨rfl,a,b,rfl,hN _ _ ⟨insM M (a ^^^ b),mD M (a ^^^ b),u_ nd,λx=>?_,rfl⟩⟩
    rw[rM,hm x,et]
    constructor
    ·rintro(⟨p,h1,h2⟩ | rfl)
     ·exact⟨p,BW _ h1,h2⟩
     ·exact⟨(a,b),im _ (sn.mpr rfl),hb,rfl⟩
    ·rintro⟨p,h1,h2,h3⟩
     rcases xL.mp h1 with h1 | h1
     ·exact .inl ⟨p,h1,h2,h3⟩
     ·rw[sn.mp h1]at h3
      exact .inr h3.symm
   | false =>
    refine hN _ _ ⟨M,rfl,nd,λx=>?_,rfl⟩
    rw[hm x,et]
    constructor
    ·rintro⟨p,h1,h2⟩
     exact⟨p,BW _ h1,h2⟩
    ·rintro⟨p,h1,h2,h3⟩
     rcases xL.mp h1 with h1 | h1
     ·exact⟨p,h1,h2,h3⟩
     ·rw[sn.mp h1]at h2
      rw[hb]at h2;cases h2
  ·rintro acc _ ⟨M,rfl,nd,hm,rfl⟩
   rw[f8,Cp]at hm
   exact hM _ ⟨M,nd,λx=>by rw[hm x,yX hc.kd],rfl⟩
 rintro _ ⟨M,nd,hm,rfl⟩
 have hM64:∀r∈M,1<=r/\r<64:=λr hr=>eF hc.k ((hm r).mp hr)
 have hMl:=zt nd hM64
 have ek:(mkT M).map (λp=>kD p.1)=M.map nD:=by unfold mkT;rw[B3];rfl
 show((mkT M).map λp=>kD p.1).length<=1000000/\f7 _ _ _ _ _ _ _ ((mkT M).map λp=>kD p.1) [] _
 rw[ek]
 refine⟨by rw[f8];omega,?_⟩
 refine dP nD (λx=>!c.kn.contains x && !c.sh.contains x) nD trivial (λx acc N hx hN=>?_) ?_
 ·refine⟨rfl,_,rfl,iP (xs:=c.kn) rfl ?_⟩
  cases h1:c.kn.contains x with
  | true=>rw[h1]at hN;exact hN
  | false =>
   refine⟨rfl,_,rfl,iP (xs:=c.sh) rfl ?_⟩
   cases h2:c.sh.contains x with
   | true=>rw[h1,h2]at hN;exact hN
   | false=>rw[h1,h2]at hN;exact hN
 ·have nf:(M.filter λx=>!c.kn.contains x && !c.sh.contains x).Nodup:=nd.sublist D6
  refine sY (ns:=(M.filter λx=>!c.kn.contains x && !c.sh.contains x).map λr=>((r:Nat):Int)) (by rw[B3];rfl) (by rw[f8];have:=CD (λx=>!c.kn.contains x && !c.sh.contains x) M;omega) λns' pm up=>?_
  have:=wo pm up nf (rP c.cl c.kn c.sh) λx=>by
   rw[cE hc.k,AC,hm x,BX,C3,C3,<- C0,<- C0,sB,sB]
  subst this
  rw[B3]
  exact hq
end
section
variable {P:wS}{w:B_}{K:bi}{mg:Str->Option bn}{base:Heap}
theorem kq {C_Cases:Addr}(ob_Cases:ObC P w K mg base C_Cases "Cases" ["wished", "clean", "known", "shut", "left"])(dn:DefM K C_Cases "is_far" "Cases.is_far" bc ["self", "row"])(B:BI mg)(g_joined:OkN P w K mg base 1 "joined" ["one", "other"] (spA K ie))(g_may_join:OkN P w K mg base 1 "may_join" ["clean", "one", "other"] (spA K SMay)):OkM P w K mg base 3 C_Cases "is_far" ["self", "row"] (spA K (SFar C_Cases)):=by
 refine dn.aok2 (k:=2) bQ (λj=>j==0||j==1) [.un,.un,.un,.un] (SFar C_Cases) rfl (λf cdv A outer s H E hr=>have hu:=cv hr;⟨_,(aw (bp (i:=2) bQ.nd rfl (by first | exact Or.inl rfl | exact Or.inr rfl) (uC (jO aL dw ux) rfl rfl (by simp) (by decide)))
  (aw (bp (i:=3) bQ.nd rfl (by first | exact Or.inl rfl | exact Or.inr rfl) (eD (ah aL aA)))
  (aw (bp (i:=4) bQ.nd rfl (by first | exact Or.inl rfl | exact Or.inr rfl) aL)
  (aw (mE Cz (PW.pt (jt (bA mH (pv 4) (dg (pv 0) rfl) (bR _)) (gh (ro (kf hu (pv 1) (pv 2))))))
  (aw (mF (i:=5) ["part", "total"] [0] bQ.nd rfl (by first | exact Or.inl rfl | exact Or.inr rfl) rfl (Blk.of (ar bc) c_) (bF K (pv 3)) (λ_ _ _ _ nd=>(aF (i:=1) nd rfl (by first | exact Or.inl rfl | exact Or.inr rfl))) (λ_ _ _ _=>cB) (λ_ _ _ _=>(bF K (dg (pv 2) rfl))) (λ_ _ _ _ nd=>(aF (i:=0) nd rfl (by first | exact Or.inl rfl | exact Or.inr rfl))) (λ_ _ _ _=>(dS (eM (bJ g_may_join (hr.mono (by decide)) (ah (dg (pv 2) rfl) (ah (pv 1) (ah (pv 0) aA))))))) (λ_ _ _ _=>(bJ g_joined (hr.mono (by decide)) (ah (pv 1) (ah (pv 0) aA)))))
  (aw (bp (i:=3) bQ.nd rfl (by first | exact Or.inl rfl | exact Or.inr rfl) (nN ["total"] [2] rfl rfl B.sorted_ (Blk.of (ar bc) c_) (bF K (pv 5)) (λ_ _ _ _ nd=>(aF (i:=0) nd rfl (by first | exact Or.inl rfl | exact Or.inr rfl))) (λ_ _ _ _=>(dS (ro (kf hu (pv 0) (pv 1))))) (λ_ _ _ _=>(pv 0))))
  (aw (eW (gm K Hq Hj PySem.F.type_dict_update y1 (pv 2) (ah (wH ["total"] [] rfl (Blk.of (ar bc) c_) (bF K (pv 3)) (λ_ _ _ _ nd=>(aF (i:=0) nd rfl (by first | exact Or.inl rfl | exact Or.inr rfl))) (λ_ _ _ _=>cB) (λ_ _ _ _=>(pv 0)) (λ_ _ _ _=>dw)) aA)))
  (aH (xT (i:=4) bQ.nd rfl (by first | exact Or.inl rfl | exact Or.inr rfl) aL x2))))))
  (aH (aZ (Al (kf hu (pv 1) (pv 2))))))))),(aE (a_ (sg Ay Ay aI cc) rfl)
  (aE (a_ (cU (aa aI aj)) rfl)
  (aE (a_ aI rfl)
  (aE (j2 (fw (aV (aG cC af (cp ob_Cases.cl (ob_Cases.na _ (.tail _ (.tail _ (.tail _ (.tail _ (.head _)))))) af))) (aV (i8 af af)))
  (aE (j3 (jZ (n2:=1) (ba af) (aq rfl) bY (ba (cp ob_Cases.cl (ob_Cases.na _ (.tail _ (.tail _ (.head _)))) af)) (aq rfl) (d_ (aM (aa (cp ob_Cases.cl (ob_Cases.na _ (.tail _ (.head _))) af) (aa af (aa af aj))))) (aM (aa af (aa af aj)))) rfl)
  (aE (a_ (lC (ba af) (aq rfl) (aV (i8 af af)) af) rfl)
  (aE (dA (wc (jY (ba af) (aq rfl) bY af cc)))
  (ug aI rfl)))))
  (aO (i8 af af))))))⟩) ?_
 rintro ss q ⟨c,r,rfl,hc,hr,hq⟩
 have hkl:=hc.kl
 have hl:=hc.l
 refine⟨rfl,rfl,?_⟩
 refine cutS (λρ=>ρ=[obC C_Cases c,nv r,.dk (mkT [0]),.un,.un,.un]) (λM hM=>hM _ rfl) ?_
 rintro _ rfl
 refine cutS (λρ=>ρ=[obC C_Cases c,nv r,.dk (mkT [0]),.ow (ao [0]),.un,.un]) (λM hM=>⟨by simp,hM _ rfl⟩) ?_
 rintro _ rfl
 refine cutS (λρ=>ρ=[obC C_Cases c,nv r,.dk (mkT [0]),.ow (ao [0]),nv 0,.un]) (λM hM=>hM _ rfl) ?_
 rintro _ rfl
 refine cutS (λρ=>∃M s3 s4 s5,(M.contains r=true↔∃n,n<=c.lf+1/\Rch c.cl c.kn n r)/\ρ=[obC C_Cases c,nv r,.dk (mkT M),s3,s4,s5]) (λMx hMx=>ph (λρ=>∃k M N s5,Lev c.cl c.kn k M N/\k<=c.lf+1/\M.Nodup/\ρ=[obC C_Cases c,nv r,.dk (mkT M),.ow (ao N),nv k,s5]) (λρ=>match gt ρ 4 with | .vl (.int k)=>100 - k.toNat | _=>0) ?_ _ ⟨0,[0],[0],.un,.start,by omega,by simp,rfl⟩) ?_
 ·rintro _ Nx ⟨k,M,N,s5,L,hkk,mnd,rfl⟩ hNx
  have nl:=L.lt hc.k
  have go:decide (((k:Nat):Int)<=((c.lf:Nat):Int))=decide (k<=c.lf):=by rw[decide_eq_decide];omega
  refine⟨rfl,_,rfl,?_⟩
  show if decide (((k:Nat):Int)<=((c.lf:Nat):Int))=true then _ else _
  rw[go]
  by_cases hk:k<=c.lf
  ·rw[if_pos (decide_eq_true hk)]
   show if(!(valD (mkT M) (Sum.inl ((r:Nat):Int):Key)).isSome)=true then _ else _
   rw[mj]
   cases hMr:M.contains r with
   | true =>
    rw[if_neg (by decide)]
    refine hMx _ ⟨M,_,_,_,⟨λ_=>?_,λ_=>hMr⟩,rfl⟩
    obtain⟨n,hn,h⟩:=(L.m r).mp (sB.mp hMr)
    exact⟨n,by omega,h⟩
   | false =>
    rw[if_pos (by decide)]
    have sl:(sumN c.cl c.kn N).length<=3969:=xz (mo c.cl c.kn N) (F9 (by omega:N.length<=63) hkl)
    have s64:∀x∈sumN c.cl c.kn N,x<64:=λx hx=>by
     obtain⟨t,ht,p,hp,_,rfl⟩:=qY.mp hx
     exact yh (yC hc.k ((L.n t).mp ht).1) (hc.k p hp).2
    refine cutS (λρ=>ρ=[obC C_Cases c,nv r,.dk (mkT M),.ow (ao N),nv k,.ow (ao (sumN c.cl c.kn N))]) (λQ hQ=>?_) ?_
    ·have ef:ao (sumN c.cl c.kn N)=N.flatMap λt=>(c.kn.filter (mayN c.cl t)).map λp=>nD (t ^^^ p):=by
      unfold sumN ao
      rw[Jp]
      refine congrArg (λf=>N.flatMap f) (funext λt=>?_)
      rw[B3];rfl
     refine⟨rfl,vC nD (λt=>(c.kn.filter (mayN c.cl t)).map λp=>nD (t ^^^ p)) rfl (λt acc N2 ht hacc hN2=>?_) (by rw[<- ef,bg];omega) (by rw[<- ef];exact hQ _ rfl)⟩
     obtain⟨ys,yl,rfl,_⟩:=hacc
     have al:(ys.flatMap λt=>(c.kn.filter (mayN c.cl t)).map λp=>nD (t ^^^ p)).length<=63*63:=by
      have e2:(ys.flatMap λt=>(c.kn.filter (mayN c.cl t)).map λp=>nD (t ^^^ p))=ao (sumN c.cl c.kn ys):=by
       unfold sumN ao
       rw[Jp]
       refine congrArg (λf=>ys.flatMap f) (funext λt=>?_)
       rw[B3];rfl
      rw[e2,bg]
      exact xz (mo c.cl c.kn ys) (F9 (by omega) hkl)
     refine⟨rfl,_,rfl,?_⟩
     refine gF nD (mayN c.cl t) (λp=>nD (t ^^^ p)) trivial (by omega) (λp acc N3 hp hN3=>?_) (hN2)
     refine⟨rfl,_,rfl,rfl,c.cl,t,p,rfl,?_⟩
     cases hb:mayN c.cl t p with
     | true=>rw[if_pos hb]at hN3;exact⟨rfl,t,p,rfl,hN3⟩
     | false=>rw[if_neg (by rw[hb];decide)]at hN3;exact hN3
    rintro _ rfl
    refine cutS (λρ=>∃N':List Nat,N'.Nodup/\(∀x,x∈N'↔x∈sumN c.cl c.kn N/\x∉M)/\ρ=[obC C_Cases c,nv r,.dk (mkT M),.ow (ao N'),nv k,.ow (ao (sumN c.cl c.kn N))]) (λQ hQ=>?_) ?_
    ·refine⟨rfl,by rw[bg];omega,?_⟩
     refine jn nD (λt=>!M.contains t) (λt=>((t:Nat):Int)) (by rfl) (λt acc N2 ht hN2=>?_) ?_
     ·show if(!(valD (mkT M) (Sum.inl ((t:Nat):Int):Key)).isSome)=true then _ else _
      rw[mj]
      cases hb:M.contains t with
      | true=>rw[hb]at hN2;exact hN2
      | false=>rw[hb]at hN2;exact hN2
     ·rw[JB]
      have m0:0∈M:=(L.m 0).mpr ⟨0,B0 _,.nil⟩
      refine⟨zz (zs:=(wl 63).map λi=>((i+1:Nat):Int)) (λx hx=>?_) (by rw[f8,Db];decide),λns' up hm=>?_⟩
      ·obtain⟨t,ht,rfl⟩:=Ch.mp hx
       obtain⟨h1,h2⟩:=AC.mp ht
       have h3:=s64 t h1
       have h4:t≠0:=λe=>by
        subst e
        rw[sB.mpr m0]at h2;cases h2
       exact Ch.mpr ⟨t - 1,Cn.mpr (by omega),by omega⟩
      ·have:ns'=((wl 64).filter λx=>(sumN c.cl c.kn N).contains x && !M.contains x).map λr=>((r:Nat):Int):=j6 up (j7 (Eb _ Dm)) λx=>by
        rw[hm x,Ch,Ch]
        constructor
        ·rintro⟨t,ht,rfl⟩
         obtain⟨h1,h2⟩:=AC.mp ht
         exact⟨t,AC.mpr ⟨Cn.mpr (s64 t h1),by rw[sB.mpr h1,h2];rfl⟩,rfl⟩
        ·rintro⟨t,ht,rfl⟩
         obtain⟨h1,h2⟩:=AC.mp ht
         rw[BX]at h2
         exact⟨t,AC.mpr ⟨sB.mp h2.1,h2.2⟩,rfl⟩
       subst this
       rw[B3]
       refine hQ _ ⟨(wl 64).filter λx=>(sumN c.cl c.kn N).contains x && !M.contains x,(Eb _ Dm).imp λh=>by omega,λx=>?_,rfl⟩
       rw[AC,Cn,BX,C3,<- C0,sB,sB]
       exact⟨λh=>h.2,λh=>⟨s64 x h.1,h⟩⟩
    rintro _ ⟨N',nd',hN',rfl⟩
    obtain⟨u1,u2⟩:=vp N' M mnd
    have L':=L.next hN' u2 nd'
    have nl':=L'.lt hc.k
    refine cutS (λρ=>ρ=[obC C_Cases c,nv r,.dk (mkT (N'.foldl insM M)),.ow (ao N'),nv k,.ow (ao (sumN c.cl c.kn N))]) (λQ hQ=>?_) ?_
    ·refine⟨rfl,by rw[bg];omega,?_⟩
     refine jo (λj acc ρ=>acc=mkT (N'.take j)/\ρ=[obC C_Cases c,nv r,.dk (mkT M),.ow (ao N'),nv k,.ow (ao (sumN c.cl c.kn N))]) (λj acc ρ _ ⟨_,e⟩=>by rw[e];rfl) ?_ ?_ _ ⟨rfl,rfl⟩
     ·rintro j d acc _ N2 hd ⟨rfl,rfl⟩ hN2
      rw[ao,wv]at hd
      obtain⟨x,hx,rfl⟩:=BZ.mp hd
      refine hN2 _ _ ⟨?_,rfl⟩
      have hxn:x∉N'.take j:=λh=>by
       obtain⟨i,hi,hil,e⟩:=dX.mp h
       obtain⟨hj,e2⟩:=kt.mp hx
       have:=mX nd' hil hj (by rw[e,ga,hx];rfl)
       omega
      show putD (mkT (N'.take j)) (Sum.inl ((x:Nat):Int)) (D.bl true)=_
      rw[mD,if_neg hxn,CG,hx]
      rfl
     ·rintro acc _ ⟨rfl,rfl⟩
      rw[bg,Cp]
      refine⟨?_,?_⟩
      ·have h1:(mkT M).length=M.length:=by unfold mkT;rw[f8]
       have h2:(mkT N').length=N'.length:=by unfold mkT;rw[f8]
       have h3:M.length<=64:=by
        have:=Cj mnd (l₂:=wl 64) λx hx=>by
         obtain⟨n,_,h⟩:=(L.m x).mp hx
         exact Cn.mpr (yC hc.k h)
        rwa [Db]at this
       omega
      ·rw[lM]
       exact hQ _ rfl
    rintro _ rfl
    have ek:((k:Nat):Int)+1=((k+1:Nat):Int):=by omega
    have:=hNx [obC C_Cases c,nv r,.dk (mkT (N'.foldl insM M)),.ow (ao N'),nv (k+1),.ow (ao (sumN c.cl c.kn N))] ⟨k+1,_,N',_,L',by omega,u1,rfl⟩ (by show 100 - (((k+1:Nat):Int)).toNat<100 - ((k:Nat):Int).toNat;omega)
    rw[<- Bw ek]at this
    exact this
  ·rw[if_neg (by rw[decide_eq_true_eq];exact hk)]
   have:k=c.lf+1:=by omega
   subst this
   refine hMx _ ⟨M,_,_,_,?_,rfl⟩
   rw[sB]
   exact L.m r
 rintro _ ⟨M,s3,s4,s5,hM,rfl⟩
 have:farN c.cl c.kn c.lf r = !M.contains r:=zu hM
 rw[this,<- mj]at hq
 exact hq
end
def goN (f:Nat->List Nat->List Nat ⊕ D)(sh:List Nat):List Nat->List Nat->List D->List Nat ⊕ D
 | _,[],acc=>.inr (.tup [.str "next",.tup acc])
 | done,r::rest,acc=>match f r (sh++done)with
  | .inl t=>.inl t
  | .inr p=>goN f sh (done++[r]) rest (acc++[p])
def mkM (r:Nat):List Nat ⊕ D->List Nat ⊕ D
 | .inl t=>.inl t
 | .inr p=>.inr (.tup [.str "made",nD r,p])
noncomputable def srN (W:List Nat)(cl:Bool):Nat->List Nat->List Nat->List Nat ⊕ D
 | 0,kn,_=>if bw W kn=[]then .inl kn else .inr (.tup [.str "rows"])
 | l+1,kn,sh=>if bw W kn=[]then .inl kn else if l+1<(bw W kn).length then .inr (.tup [.str "rows"])else
  match (bw W kn).find? (λr=>farN cl kn (l+1) r)with
  | some r=>.inr (.tup [.str "far",nD r])
  | none=>match (bw W kn).find? (λr=>(bS cl kn sh).contains r)with
   | some r=>mkM r (srN W cl l (kn++[r]) sh)
   | none=>goN (λr s=>srN W cl l (kn++[r]) s) sh [] (bS cl kn sh) []
def resD:List Nat ⊕ D->D
 | .inl t=>.tup [.bl true,.lst (ao t)]
 | .inr p=>.tup [.bl false,p]
def pw:List Nat ⊕ D->D
 | .inl t=>.lst (ao t)
 | .inr p=>p
theorem pN (x:List Nat ⊕ D):resD x = .tup [.bl x.isLeft,pw x]:=by cases x <;> rfl
def SSr (C:Addr):Nat->ASp
 | 0=>λ_ _=>False
 | j+1=>λss q=>∃c:Cs,ss=[obC C c]/\CsOk c/\c.lf<=j/\q (.d (resD (srN c.W c.cl c.lf c.kn c.sh))) [obC C c]
def SSrM (C:Addr)(j:Nat):ASp:=λss q=>∃(c:Cs) (r:Nat),ss=[obC C c,nv r]/\CsOk c/\1<=c.lf/\c.lf<=j/\r∈bS c.cl c.kn c.sh/\q (.d (resD (mkM r (srN c.W c.cl (c.lf - 1) (c.kn++[r]) c.sh)))) [obC C c,nv r]
def SSrN (C:Addr)(j:Nat):ASp:=λss q=>∃c:Cs,ss=[obC C c,.ow (ao (bS c.cl c.kn c.sh))]/\CsOk c/\1<=c.lf/\c.lf<=j/\q (.d (resD (goN (λr s=>srN c.W c.cl (c.lf - 1) (c.kn++[r]) s) c.sh [] (bS c.cl c.kn c.sh) []))) [obC C c,.ow (ao (bS c.cl c.kn c.sh))]
theorem gaT2 {i j:Nat}{a b:D}{ρ:En}{M:En->Prop}(h:M (pt (pt ρ i (.vl a)) j (.vl b))):oH 2 (fo (eQ i) (fo (eQ j) gaNil)) (.tup [a,b]) ρ M:=h
section
variable {P:wS}{w:B_}{K:bi}{mg:Str->Option bn}{base:Heap}
theorem aT (j k:Nat){C_Cases:Addr}(ob_Cases:ObC P w K mg base C_Cases "Cases" ["wished", "clean", "known", "shut", "left"])(dn:DefN K mg "searched_made" c9 ["cases", "row"])(B:BI mg)(g_Cases_with_row:OkM P w K mg base 3 C_Cases "with_row" ["self", "row", "shut"] (spA K (xD C_Cases)))(g_searched:OkN P w K mg base (k+4) "searched" ["cases"] (spA K ((SSr C_Cases) j))):OkN P w K mg base (k+5) "searched_made" ["cases", "row"] (spA K ((SSrM C_Cases) j)):=by
 refine dn.aok2 (k:=k+4) dR (λj=>j==0||j==1) [.un,.un] (((SSrM C_Cases) j)) rfl (λf cdv A outer s H E hr=>have hu:=cv hr;⟨_,(aw (eO (bJ g_searched (hr.mono (by omega)) (ah (yH g_Cases_with_row ob_Cases.cl (hr.mono (by omega)) (pv 0) (ah (pv 1) (ah (dg (pv 0) rfl) aA))) aA)) (bC K (n:=2) rfl (aJ (aF (i:=2) dR.nd rfl (by first | exact Or.inl rfl | exact Or.inr rfl)) (aJ (aF (i:=3) dR.nd rfl (by first | exact Or.inl rfl | exact Or.inr rfl)) bB))))
  (aw (dH (eB K (pv 2) (λ_=>rfl))
  (aH (aZ (cO (ah dw (ah (pv 3) aA)))))
  bE)
  (aH (aZ (cO (ah dw (ah (cO (ah eC (ah (pv 1) (ah (pv 3) aA)))) aA))))))),(aE (cZ (aM (aa (fz af (aa af (aa (cp ob_Cases.cl (ob_Cases.na _ (.tail _ (.tail _ (.tail _ (.head _))))) af) aj))) aj)) (a8 (aD (aq rfl) (aD (aq rfl) aW (λ_ _ _=>aN)) (λ_ _ _=>aN))))
  (aE (cw (fu af)
  (aO (b7 (aa cc (aa af aj))))
  bj)
  (aO (b7 (aa cc (aa (b7 (aa mn (aa af (aa af aj)))) aj))))))⟩) ?_
 rintro ss q ⟨c,r,rfl,hc,hl,hj,hr,hq⟩
 obtain⟨j,rfl⟩:∃j',j=j'+1:=⟨j - 1,by omega⟩
 have kl:=hc.kl
 have l2:(2:Nat)<=1000000:=by decide
 have l3:(3:Nat)<=1000000:=by decide
 obtain⟨fa,fb,_⟩:=(cE hc.k).mp hr
 have hc':=hc.with hl (eF hc.k fa) fb hc.s (by omega)
 refine⟨rfl,rfl,?_⟩
 have red:∀x y:List Nat ⊕ D,x=y->q (.d (resD (mkM r x))) [obC C_Cases c,nv r]->q (.d (resD (mkM r y))) [obC C_Cases c,nv r]:=λx y e h=>e▸h
 refine cutS (λρ=>ρ=[obC C_Cases c,nv r,.vl (.bl (srN c.W c.cl (c.lf - 1) (c.kn++[r]) c.sh).isLeft),.vl (pw (srN c.W c.cl (c.lf - 1) (c.kn++[r]) c.sh))]) (λM hM=>?_) ?_
 ·refine⟨rfl,rfl,rfl,_,rfl,?_⟩
  refine⟨rfl,c,r,_,rfl,by omega,hl,?_⟩
  refine⟨rfl,_,rfl,hc',by show c.lf - 1<=j;omega,?_⟩
  rw[pN]
  exact hM _ rfl
 rintro _ rfl
 cases e:srN c.W c.cl (c.lf - 1) (c.kn++[r]) c.sh with
 | inl t =>
  have hq:=red _ _ e hq
  refine⟨l2,?_⟩
  exact hq
 | inr p =>
  have hq:=red _ _ e hq
  refine⟨l3,?_⟩
  refine⟨l2,?_⟩
  exact hq
theorem aS (j k:Nat){C_Cases:Addr}(ob_Cases:ObC P w K mg base C_Cases "Cases" ["wished", "clean", "known", "shut", "left"])(dn:DefN K mg "searched_next" c8 ["cases", "free"])(B:BI mg)(g_Cases_with_row:OkM P w K mg base 3 C_Cases "with_row" ["self", "row", "shut"] (spA K (xD C_Cases)))(g_searched:OkN P w K mg base (k+4) "searched" ["cases"] (spA K ((SSr C_Cases) j))):OkN P w K mg base (k+5) "searched_next" ["cases", "free"] (spA K ((SSrN C_Cases) j)):=by
 refine dn.aok2 (k:=k+4) bV (λj=>j==0||j==1) [.un,.un,.un,.un,.un] (((SSrN C_Cases) j)) rfl (λf cdv A outer s H E hr=>have hu:=cv hr;⟨_,(aw (bp (i:=2) bV.nd rfl (by first | exact Or.inl rfl | exact Or.inr rfl) (eD aA))
  (aw (e_ Cz rfl (jc K rfl B.enumerate_ (ah (pv 1) aA)) (bC K (n:=2) rfl (aJ (aF (i:=3) bV.nd rfl (by first | exact Or.inl rfl | exact Or.inr rfl)) (aJ (aF (i:=4) bV.nd rfl (by first | exact Or.inl rfl | exact Or.inr rfl)) bB)))
  (aw (eO (bJ g_searched (hr.mono (by omega)) (ah (yH g_Cases_with_row ob_Cases.cl (hr.mono (by omega)) (pv 0) (ah (pv 4) (ah (be (jd K) (dg (pv 0) rfl) (g0 (gP K) (pv 1) jb (ja (pv 3)))) aA))) aA)) (bC K (n:=2) rfl (aJ (aF (i:=5) bV.nd rfl (by first | exact Or.inl rfl | exact Or.inr rfl)) (aJ (aF (i:=6) bV.nd rfl (by first | exact Or.inl rfl | exact Or.inr rfl)) bB))))
  (aw (dH (eB K (pv 5) (λ_=>rfl))
  (aH (aZ (cO (ah dw (ah (pv 6) aA)))))
  bE)
  (aH (eW (gm K CC CK CJ dc (pv 2) (ah (pv 6) aA)))))))
  (aH (aZ (cO (ah dw (ah (cO (ah eC (ah (cP (dz K) rfl B.tuple_ fO (ah (pv 2) aA)) aA))) aA))))))),(aE (a_ (cU aj) rfl)
  (aE (dh (pin:=(λj=>j==1)) (e6 (aa af aj)) (a8 (aD (aq rfl) (aD (aq rfl) aW (λ_ _ _=>aN)) (λ_ _ _=>aN)))
  (aE (cZ (aM (aa (fz af (aa af (aa (aG je (cp ob_Cases.cl (ob_Cases.na _ (.tail _ (.tail _ (.tail _ (.head _))))) af) (jX af jW (f_ af))) aj))) aj)) (a8 (aD (aq rfl) (aD (aq rfl) aW (λ_ _ _=>aN)) (λ_ _ _=>aN))))
  (aE (cw (fu af)
  (aO (b7 (aa cc (aa af aj))))
  bj)
  (dA (fA af (aa af aj))))))
  (aO (b7 (aa cc (aa (b7 (aa mn (aa (bZ d9 (aa af aj)) aj))) aj))))))⟩) ?_
 rintro ss q ⟨c,rfl,hc,hl,hj,hq⟩
 refine⟨rfl,rfl,?_⟩
 obtain⟨j,rfl⟩:∃j',j=j'+1:=⟨j - 1,by omega⟩
 refine cutS (λρ=>ρ=[obC C_Cases c,.ow (ao (bS c.cl c.kn c.sh)),.ow [],.un,.un,.un,.un]) (λM hM=>⟨B0 _,hM _ rfl⟩) ?_
 rintro _ rfl
 have kl:=hc.kl
 have hsl:=hc.sl
 have l2:(2:Nat)<=1000000:=by decide
 have hfl:=xj hc
 have hfm:=λr (hr:r∈bS c.cl c.kn c.sh)=>(cE hc.k).mp hr
 generalize hres:goN (λr s=>srN c.W c.cl (c.lf - 1) (c.kn++[r]) s) c.sh [] (bS c.cl c.kn c.sh) []=res at hq
 generalize bS c.cl c.kn c.sh=Fr at *
 refine cutS (λρ=>∃ps s3 s4 s5 s6,res = .inr (.tup [.str "next",.tup ps])/\ps.length<=64/\ρ=[obC C_Cases c,.ow (ao Fr),.ow ps,s3,s4,s5,s6]) (λM hM=>?_) ?_
 ·refine d5 (λk ρ=>∃ps s3 s4 s5 s6,goN (λr s=>srN c.W c.cl (c.lf - 1) (c.kn++[r]) s) c.sh (Fr.take k) (Fr.drop k) ps=res/\ps.length=k/\ρ=[obC C_Cases c,.ow (ao Fr),.ow ps,s3,s4,s5,s6]) (λk ρ _ ⟨_,s3,s4,s5,s6,_,_,e⟩=>by rw[e];rfl) ?_ ?_ _ ⟨[],.un,.un,.un,.un,hres,rfl,rfl⟩
  ·rintro k x _ N hx ⟨ps,s3,s4,s5,s6,hgo,hps,rfl⟩ hN
   obtain⟨y,hy,rfl⟩:=cR hx
   rw[ao,wv]at hy
   obtain⟨r,hr,rfl⟩:=BZ.mp hy
   have hk:=(kt.mp hr).1
   have hrF:r∈Fr:=Cd hr
   obtain⟨fa,fb,_⟩:=hfm r hrF
   rw[C5]
   have hs64:∀x∈c.sh++Fr.take k,x<64:=λx hx=>(xL.mp hx).elim (hc.s x) λh=>(eF hc.k (hfm x (IC h)).1).2
   have hc':=hc.with (s:=c.sh++Fr.take k) hl (eF hc.k fa) fb hs64 (by rw[wP,B6];omega)
   have ec:ao c.sh++cutD (ao Fr) none (some ((k:Nat):Int))=ao (c.sh++Fr.take k):=by
    rw[ft];unfold ao;rw[Cb,E2]
   have hil:r<64:=(eF hc.k fa).2
   have hb:(ao c.sh).length+(L2.cutD (ao Fr) none (some ((k:Nat):Int))).length<=1000000:=by
    rw[ft,bg,B6,bg]
    omega
   have hd:Fr.drop k=r::Fr.drop (k+1):=by
    rw[Cf hk]
    rw[bv hk]at hr
    injection hr with hr
    rw[hr]
   have ht:Fr.take (k+1)=Fr.take k++[r]:=by rw[CG,hr];rfl
   rw[hd]at hgo
   simp only[goN]at hgo
   refine gaT2 ?_
   show aSeq _ _ _ [obC C_Cases c,.ow (ao Fr),.ow ps,.vl (.int (k:Nat)),nv r,s5,s6]
   refine cutS (λρ=>ρ=[obC C_Cases c,.ow (ao Fr),.ow ps,.vl (.int (k:Nat)),nv r,.vl (.bl (srN c.W c.cl (c.lf - 1) (c.kn++[r]) (c.sh++Fr.take k)).isLeft),.vl (pw (srN c.W c.cl (c.lf - 1) (c.kn++[r]) (c.sh++Fr.take k)))]) (λM hM=>?_) ?_
   ·refine⟨rfl,rfl,rfl,_,rfl,hb,?_⟩
    rw[ec]
    refine⟨rfl,c,r,_,rfl,by omega,hl,?_⟩
    refine⟨rfl,_,rfl,hc',by show c.lf - 1<=j;omega,?_⟩
    rw[pN]
    exact hM _ rfl
   rintro _ rfl
   cases e:srN c.W c.cl (c.lf - 1) (c.kn++[r]) (c.sh++Fr.take k)with
   | inl t =>
    rw[e]at hgo
    refine⟨l2,?_⟩
    subst hgo
    exact hq
   | inr p =>
    rw[e]at hgo
    have hpl:ps.length<=1000000:=by omega
    refine⟨hpl,?_⟩
    exact hN _ ⟨ps++[p],.vl (.int (k:Nat)),nv r,.vl (.bl false),.vl p,by rw[ht];exact hgo,by rw[wP,hps];rfl,rfl⟩
  ·rintro _ ⟨ps,s3,s4,s5,s6,hgo,hps,rfl⟩
   rw[bT,bg]at hgo hps
   rw[G0]at hgo
   exact hM _ ⟨ps,s3,s4,s5,s6,hgo.symm,by omega,rfl⟩
 rintro _ ⟨ps,s3,s4,s5,s6,rfl,hps,rfl⟩
 have lp:ps.length<=1000000:=by omega
 refine⟨l2,?_⟩
 refine⟨l2,?_⟩
 exact hq
theorem bD (j k:Nat){C_Cases:Addr}(ob_Cases:ObC P w K mg base C_Cases "Cases" ["wished", "clean", "known", "shut", "left"])(dn:DefN K mg "searched" gR ["cases"])(B:BI mg)(g_Cases_lacking:OkM P w K mg base 3 C_Cases "lacking" ["self"] (spA K (xE C_Cases)))(g_Cases_lacks_too_many:OkM P w K mg base 4 C_Cases "lacks_too_many" ["self"] (spA K (vS C_Cases)))(g_Cases_free_rows:OkM P w K mg base 3 C_Cases "free_rows" ["self"] (spA K (zN C_Cases)))(g_Cases_is_far:OkM P w K mg base 3 C_Cases "is_far" ["self", "row"] (spA K (SFar C_Cases)))(g_searched_next:OkN P w K mg base (k+5) "searched_next" ["cases", "free"] (spA K ((SSrN C_Cases) j)))(g_searched_made:OkN P w K mg base (k+5) "searched_made" ["cases", "row"] (spA K ((SSrM C_Cases) j))):OkN P w K mg base (k+6) "searched" ["cases"] (spA K ((SSr C_Cases) (j+1))):=by
 refine dn.aok2 (k:=k+5) di (λj=>j==0) [.un,.un,.un] (((SSr C_Cases) (j+1))) rfl (λf cdv A outer s H E hr=>have hu:=cv hr;⟨_,(aw (bp (i:=1) di.nd rfl (by first | exact Or.inl rfl | exact Or.inr rfl) (rC g_Cases_lacking ob_Cases.cl (hr.mono (by omega)) (pv 0)))
  (aw (dH (gj (eB K (pv 1) (λ_=>rfl)))
  (aH (aZ (cO (ah dw (ah (dg (pv 0) rfl) aA)))))
  bE)
  (aw (dH (eM (rC g_Cases_lacks_too_many ob_Cases.cl (hr.mono (by omega)) (pv 0)))
  (aH (aZ (cO (ah dw (ah (cO (ah eC aA)) aA)))))
  bE)
  (aw (e_ Cz rfl (bF K (pv 1)) (aF (i:=2) di.nd rfl (by first | exact Or.inl rfl | exact Or.inr rfl))
  (aH (dH (eM (yH g_Cases_is_far ob_Cases.cl (hr.mono (by omega)) (pv 0) (ah (pv 2) aA)))
  (aH (aZ (cO (ah dw (ah (cO (ah eC (ah (pv 2) aA))) aA)))))
  bE)))
  (aw (bp (i:=3) di.nd rfl (by first | exact Or.inl rfl | exact Or.inr rfl) (rC g_Cases_free_rows ob_Cases.cl (hr.mono (by omega)) (pv 0)))
  (aw (e_ Cz rfl (bF K (pv 1)) (aF (i:=2) di.nd rfl (by first | exact Or.inl rfl | exact Or.inr rfl))
  (aH (dH (bA (lH K) (pv 2) (pv 3) rfl)
  (aH (aZ (bJ g_searched_made (hr.mono (by omega)) (ah (pv 0) (ah (pv 2) aA)))))
  bE)))
  (aH (aZ (bJ g_searched_next (hr.mono (by omega)) (ah (pv 0) (ah (pv 3) aA))))))))))),(aE (a_ (fz af aj) rfl)
  (aE (cw (cX (fu af))
  (aO (b7 (aa cc (aa (cp ob_Cases.cl (ob_Cases.na _ (.tail _ (.tail _ (.head _)))) af) aj))))
  bj)
  (aE (cw (d_ (fz af aj))
  (aO (b7 (aa cc (aa (b7 (aa mn aj)) aj))))
  bj)
  (aE (dh (pin:=(λj=>j==1)) (ba af) (aq rfl)
  (cw (d_ (fz af (aa af aj)))
  (aO (b7 (aa cc (aa (b7 (aa mn (aa af aj))) aj))))
  bj))
  (aE (a_ (fz af aj) rfl)
  (aE (dh (pin:=(λj=>j==1)) (ba af) (aq rfl)
  (cw (aV (aG (jw false) af af))
  (aO (aM (aa af (aa af aj))))
  bj))
  (aO (aM (aa af (aa af aj))))))))))⟩) ?_
 rintro ss q ⟨c,rfl,hc,hj,hq⟩
 refine⟨rfl,rfl,?_⟩
 have l1:(1:Nat)<=1000000:=by decide
 have l2:(2:Nat)<=1000000:=by decide
 have no0:bw c.W c.kn≠[]->¬c.lf<(bw c.W c.kn).length->1<=c.lf:=λh h'=>by
  have:=Fe.mpr h
  omega
 refine cutS (λρ=>ρ=[obC C_Cases c,.ow (ao (bw c.W c.kn)),.un,.un]) (λM hM=>⟨rfl,rfl,rfl,c,rfl,hc,hM _ rfl⟩) ?_
 rintro _ rfl
 refine cutS (λρ=>bw c.W c.kn≠[]/\ρ=[obC C_Cases c,.ow (ao (bw c.W c.kn)),.un,.un]) (λM hM=>?_) ?_
 ·cases hL:bw c.W c.kn with
  | nil =>
   refine⟨rfl,_,rfl,l2,?_⟩
   have:srN c.W c.cl c.lf c.kn c.sh = .inl c.kn:=by
    cases h:c.lf <;> simp only[srN,hL,if_true]
   rw[this]at hq
   exact hq
  | cons x xs=>exact hM _ ⟨by rw[hL];simp,by rw[hL]⟩
 rintro _ ⟨hL,rfl⟩
 refine cutS (λρ=>¬c.lf<(bw c.W c.kn).length/\ρ=[obC C_Cases c,.ow (ao (bw c.W c.kn)),.un,.un]) (λM hM=>⟨rfl,rfl,rfl,c,rfl,hc,?_⟩) ?_
 ·show if decide (c.lf<(bw c.W c.kn).length)=true then _ else _
  by_cases h:c.lf<(bw c.W c.kn).length
  ·rw[if_pos (decide_eq_true h)]
   refine⟨l1,?_⟩
   refine⟨l2,?_⟩
   have:srN c.W c.cl c.lf c.kn c.sh = .inr (.tup [.str "rows"]):=by
    cases hl:c.lf with
    | zero=>simp only[srN];rw[if_neg hL]
    | succ l=>simp only[srN];rw[if_neg hL,if_pos (by rw[<- hl];exact h)]
   rw[this]at hq
   exact hq
  ·rw[if_neg (by rw[decide_eq_true_eq];exact h)]
   exact hM _ ⟨h,rfl⟩
 rintro _ ⟨hM,rfl⟩
 obtain⟨l,hl⟩:∃l,c.lf=l+1:=⟨c.lf - 1,by have:=no0 hL hM;omega⟩
 have hS:srN c.W c.cl c.lf c.kn c.sh=match (bw c.W c.kn).find? (λr=>farN c.cl c.kn c.lf r)with
  | some r=>.inr (.tup [.str "far",nD r])
  | none=>match (bw c.W c.kn).find? (λr=>(bS c.cl c.kn c.sh).contains r)with
   | some r=>mkM r (srN c.W c.cl (c.lf - 1) (c.kn++[r]) c.sh)
   | none=>goN (λr s=>srN c.W c.cl (c.lf - 1) (c.kn++[r]) s) c.sh [] (bS c.cl c.kn c.sh) []:=by
  rw[hl]at hM ⊢
  simp only[srN]
  rw[if_neg hL,if_neg hM]
  rfl
 have take1:∀ {k:Nat} {r:Nat} (p:Nat->Bool),(bw c.W c.kn)[k]? = some r->((bw c.W c.kn).take k).find? p=none->(((bw c.W c.kn).take (k+1)).find? p=if p r=true then some r else none)/\(p r=true->(bw c.W c.kn).find? p=some r):=by
  intro k r p e h
  have hk:=(kt.mp e).1
  have h1:((bw c.W c.kn).take (k+1)).find? p=if p r=true then some r else none:=by
   rw[CG,e,GJ,h,DP,CO]
   cases p r <;> rfl
  refine⟨h1,λhp=>?_⟩
  have:bw c.W c.kn=(bw c.W c.kn).take (k+1)++(bw c.W c.kn).drop (k+1):=(Ek _ _).symm
  rw[this,GJ,h1,if_pos hp]
  rfl
 refine cutS (λρ=>(bw c.W c.kn).find? (λr=>farN c.cl c.kn c.lf r)=none/\∃s2,ρ=[obC C_Cases c,.ow (ao (bw c.W c.kn)),s2,.un]) (λM hM=>⟨rfl,?_⟩) ?_
 ·refine d5 (λk ρ=>((bw c.W c.kn).take k).find? (λr=>farN c.cl c.kn c.lf r)=none/\∃s2,ρ=[obC C_Cases c,.ow (ao (bw c.W c.kn)),s2,.un]) (λk ρ _ ⟨_,s2,e⟩=>by rw[e];rfl) ?_ ?_ _ ⟨rfl,.un,rfl⟩
  ·rintro k x _ N hx ⟨hpre,s2,rfl⟩ hN
   rw[ao,wv]at hx
   obtain⟨r,hr,rfl⟩:=BZ.mp hx
   have hrW:=(eI hc.w).mp (Cd hr)
   obtain⟨t1,t2⟩:=take1 (λr=>farN c.cl c.kn c.lf r) hr hpre
   refine⟨rfl,rfl,rfl,c,r,rfl,hc,(hc.w r hrW.1).2,?_⟩
   show if farN c.cl c.kn c.lf r=true then _ else _
   by_cases h:farN c.cl c.kn c.lf r=true
   ·rw[if_pos h]
    refine⟨l2,?_⟩
    refine⟨l2,?_⟩
    rw[hS,t2 h]at hq
    exact hq
   ·rw[if_neg h]
    exact hN _ ⟨by rw[t1,if_neg h],_,rfl⟩
  ·rintro _ ⟨h,s2,rfl⟩
   rw[bg,Cp]at h
   exact hM _ ⟨h,s2,rfl⟩
 rintro _ ⟨hF,s2,rfl⟩
 rw[hF]at hS
 refine cutS (λρ=>ρ=[obC C_Cases c,.ow (ao (bw c.W c.kn)),s2,.ow (ao (bS c.cl c.kn c.sh))]) (λM hM=>⟨rfl,rfl,rfl,c,rfl,hc,hM _ rfl⟩) ?_
 rintro _ rfl
 refine cutS (λρ=>(bw c.W c.kn).find? (λr=>(bS c.cl c.kn c.sh).contains r)=none/\∃s2,ρ=[obC C_Cases c,.ow (ao (bw c.W c.kn)),s2,.ow (ao (bS c.cl c.kn c.sh))]) (λM hM=>⟨rfl,?_⟩) ?_
 ·refine d5 (λk ρ=>((bw c.W c.kn).take k).find? (λr=>(bS c.cl c.kn c.sh).contains r)=none/\∃s2,ρ=[obC C_Cases c,.ow (ao (bw c.W c.kn)),s2,.ow (ao (bS c.cl c.kn c.sh))]) (λk ρ _ ⟨_,s2,e⟩=>by rw[e];rfl) ?_ ?_ _ ⟨rfl,s2,rfl⟩
  ·rintro k x _ N hx ⟨hpre,s2,rfl⟩ hN
   rw[ao,wv]at hx
   obtain⟨r,hr,rfl⟩:=BZ.mp hx
   obtain⟨t1,t2⟩:=take1 (λr=>(bS c.cl c.kn c.sh).contains r) hr hpre
   have depF:∀e∈ao (bS c.cl c.kn c.sh),e.depth<=60:=λe he=>by
    obtain⟨x,_,rfl⟩:=Ch.mp he
    simp[D.depth]
   refine iP (n:=r) (xs:=bS c.cl c.kn c.sh) rfl ?_
   show if(bS c.cl c.kn c.sh).contains r=true then _ else _
   by_cases h:(bS c.cl c.kn c.sh).contains r=true
   ·rw[if_pos h]
    refine⟨rfl,c,r,rfl,hc,by omega,hj,sB.mp h,?_⟩
    rw[hS,t2 h]at hq
    exact hq
   ·rw[if_neg h]
    exact hN _ ⟨by rw[t1,if_neg h],_,rfl⟩
  ·rintro _ ⟨h,s2,rfl⟩
   rw[bg,Cp]at h
   exact hM _ ⟨h,s2,rfl⟩
 rintro _ ⟨hG,s2,rfl⟩
 rw[hG]at hS
 rw[hS]at hq
 refine⟨rfl,c,rfl,hc,by omega,hj,?_⟩
 exact hq
end
theorem qR {κ:Type} [DecidableEq κ](k k':κ)(d:D):∀(kvs:List (κ×D)),valD (putD kvs k d) k'=if k'=k then some d else valD kvs k':=by
 have rep:∀kvs:List (κ×D),(kvs.any λkv=>decide (kv.1=k))=true->valD (kvs.map λkv=>if kv.1=k then(kv.1,d)else kv) k'=if k'=k then some d else valD kvs k':=by
  intro kvs
  induction kvs with
  | nil=>intro h;cases h
  | cons p r ih =>
   intro h
   rw[wE]
   by_cases e:p.1=k
   ·rw[if_pos e]
    by_cases e':k'=k
    ·rw[if_pos e']
     simp[valD,CO,e,e']
    ·rw[if_neg e']
     have ne:¬p.1=k':=λz=>e' (z.symm.trans e)
     have tail:∀r:List (κ×D),valD (r.map λkv=>if kv.1=k then(kv.1,d)else kv) k'=valD r k':=by
      intro r
      induction r with
      | nil=>rfl
      | cons q r ih =>
       rw[wE]
       by_cases eq:q.1=k
       ·have nq:¬q.1=k':=λz=>e' (z.symm.trans eq)
        rw[if_pos eq]
        unfold valD at ih ⊢
        rw[CT (by simpa using nq),CT (by simpa using nq)]
        exact ih
       ·rw[if_neg eq]
        by_cases nq:q.1=k'
        ·unfold valD
         rw[EQ (by simpa using nq),EQ (by simpa using nq)]
        ·unfold valD at ih ⊢
         rw[CT (by simpa using nq),CT (by simpa using nq)]
         exact ih
     have t:=tail r
     unfold valD at t ⊢
     rw[CT (by simpa using ne),CT (by simpa using ne)]
     exact t
   ·rw[if_neg e]
    have h':(r.any λkv=>decide (kv.1=k))=true:=by simpa [e] using h
    have ih':=ih h'
    by_cases ek:p.1=k'
    ·have nk:¬k'=k:=λz=>e (ek.trans z)
     rw[if_neg nk]
     unfold valD
     rw[EQ (by simpa using ek),EQ (by simpa using ek)]
    ·unfold valD at ih' ⊢
     rw[CT (by simpa using ek),CT (by simpa using ek)]
     exact ih'
 intro kvs
 unfold putD
 split
 ·rename_i h;exact rep kvs h
 ·rename_i h
  have hn:∀kv∈kvs,¬kv.1=k:=λkv hkv e=>h (DA.mpr ⟨kv,hkv,decide_eq_true e⟩)
  unfold valD
  rw[GJ]
  by_cases e':k'=k
  ·rw[if_pos e']
   have:(kvs.find? λkv=>decide (kv.1=k'))=none:=List.find?_eq_none.mpr λkv hkv=>by rw[e'];simpa using hn kv hkv
   rw[this]
   simp[CO,e']
  ·rw[if_neg e']
   have:([(k,d)].find? λkv=>decide (kv.1=k'))=none:=by rw[CT (by simpa using λz:k=k'=>e' z.symm)];rfl
   rw[this]
   cases (kvs.find? λkv=>decide (kv.1=k')) <;> rfl
def stN (R:List Nat):List Nat:=(wl R.length).map (fst1 R)
theorem fB (R:List Nat):(stN R).length=R.length:=by simp[stN]
theorem iq {R:List Nat}{t:Nat}(h:t<R.length):(stN R).getD t 0=fst1 R t:=by
 rw[oG (by rw[fB];exact h)]
 simp[stN]
def metD (R:List Nat)(k:Nat)(kvs:List (Key×D)):Prop:=∀r:Nat,valD kvs (.inl (r:Int))=if r∈R.take k then some (nD (R.idxOf r))else none
def vW:ASp:=λss q=>∃R:List Nat,ss=[.vl (.lst (ao R))]/\R.length<=1000/\q (.f (ao (stN R))) [.vl (.lst (ao R))]
def qq (M:Nat->Bool)(kvs:List (Key×D)):Prop:=∀t:Nat,(valD kvs (.inl (t:Int))).isSome=M t
theorem mP {M:Nat->Bool}{kvs:List (Key×D)}(h:qq M kvs)(x:Nat)(d:D):qq (λt=>M t||t==x) (putD kvs (.inl (x:Int)) d):=λt=>by
 rw[qR]
 by_cases e:t=x
 ·subst e;simp
 ·have:¬(Sum.inl (t:Int):Key) = .inl (x:Int):=λz=>e (by injection z with z;omega)
  rw[if_neg this,h t]
  simp[e]
def vR:ASp:=λss q=>∃(N:Net),ss=[.vl (netD N),.ow (ao (stN (a7 N)))]/\iZ N/\∀kvs,qq (bH N) kvs->q (.n (.dk kvs)) [.vl (netD N),.ow (ao (stN (a7 N)))]
def STid:ASp:=λss q=>∃N:Net,ss=[.vl (netD N)]/\iZ N/\q (.d (netD (tidN N))) [.vl (netD N)]
theorem Bp {i j:Nat}{d1 d2:D}{ρ:En}{k:En->Prop}(h:k (pt (pt ρ i (.vl d1)) j (.vl d2))):oH 2 (fo (eQ i) (fo (eQ j) gaNil)) (.tup [d1,d2]) ρ k:=h
theorem oq {m:Nat}{f:Nat->Nat}{p:Nat×Nat}{r:List (Nat×Nat)}{k:Nat}{M:Nat->Bool}{t:Nat}:fL m f (p::r) k M t=(fL m f r (k+1) M t||(fL m f r (k+1) M (m+k)&&(t==f p.1||t==f p.2))):=rfl
def canN (cl:Bool)(K:List Nat)(r:Nat)(n:Nat):List (Nat×Nat):=(wl n).flatMap λb=>((wl b).filter λa=>decide (K.getD a 0 ^^^ K.getD b 0=r)&&mayN cl (K.getD a 0) (K.getD b 0)).map λa=>(a,b)
def fjN (cl:Bool)(K:List Nat)(r:Nat):Nat×Nat:=(canN cl K r K.length).getD 0 (0,0)
theorem lV (K:List Nat){i:Nat}(hi:i<=K.length):dO 0 (ao (K.take i))=(wl i).map λa=>.tup [nD a,nD (K.getD a 0)]:=by
 refine DK λk=>?_
 have hl:(K.take i).length=i:=by rw[B6];omega
 rcases B7 k i with h | h
 ·have h1:k<(dO 0 (ao (K.take i))).length:=by rw[bT,bg,hl];exact h
  have h2:(dO 0 (ao (K.take i)))[k]? = some ((dO 0 (ao (K.take i)))[k]'h1):=bv h1
  obtain⟨x,hx,e⟩:=cR h2
  rw[h2,e,C5,wv,Ff h]
  rw[ao,wv,FC h,bv (by omega)]at hx
  injection hx with hx
  rw[<- hx]
  show _=some (D.tup [nD k,nD (K.getD k 0)])
  rw[ga,bv (show k<K.length by omega)]
  rfl
 ·rw[Dy (by rw[bT,bg,hl];exact h),Dy (by rw[f8,Db];exact h)]
theorem oU (cl:Bool)(K:List Nat)(r n:Nat):canN cl K r (n+1)=canN cl K r n++((wl n).filter λa=>decide (K.getD a 0 ^^^ K.getD n 0=r)&&mayN cl (K.getD a 0) (K.getD n 0)).map λa=>(a,n):=by
 unfold canN
 rw[DL,Fg,Fz,GY,Cc]
theorem rW (cl:Bool)(K:List Nat)(r:Nat):∀n,n<=63->(canN cl K r n).length<=n*63
 | 0,_=>by simp[canN]
 | n+1,h=>by
  rw[oU,wP,f8]
  have:=rW cl K r n (by omega)
  have:=CD (λa=>decide (K.getD a 0 ^^^ K.getD n 0=r)&&mayN cl (K.getD a 0) (K.getD n 0)) (wl n)
  rw[Db]at this
  omega
theorem ng {cl:Bool}{K:List Nat}{r n:Nat}{p:Nat×Nat}:p∈canN cl K r n↔p.1<p.2/\p.2<n/\K.getD p.1 0 ^^^ K.getD p.2 0=r/\mayN cl (K.getD p.1 0) (K.getD p.2 0)=true:=by
 unfold canN
 rw[GX]
 constructor
 ·rintro⟨b,hb,h⟩
  obtain⟨a,ha,rfl⟩:=Ch.mp h
  obtain⟨h1,h2⟩:=AC.mp ha
  rw[BX,decide_eq_true_eq]at h2
  exact⟨Cn.mp h1,Cn.mp hb,h2⟩
 ·rintro⟨h1,h2,h3,h4⟩
  exact⟨p.2,Cn.mpr h2,Ch.mpr ⟨p.1,AC.mpr ⟨Cn.mpr h1,by rw[BX,decide_eq_true_eq];exact⟨h3,h4⟩⟩,rfl⟩⟩
theorem vH {cl:Bool}{K:List Nat}{r:Nat}(h:b6 cl K r=true):canN cl K r K.length≠[]:=by
 obtain⟨a,ha,b,hb,ne,hm,rfl⟩:=cD.mp h
 obtain⟨i,hi,rfl⟩:=jP ha
 obtain⟨j,hj,rfl⟩:=jP hb
 rcases Dp i j with q | q | q
 ·exact I0 (ng.mpr ⟨q,hj,rfl,hm⟩:(i,j)∈_)
 ·subst q;exact absurd rfl ne
 ·exact I0 (ng.mpr ⟨q,hi,D3 _ _,by rw[om];exact hm⟩:(j,i)∈_)
theorem zr {cl:Bool}{K:List Nat}{r:Nat}(h:canN cl K r K.length≠[]):fjN cl K r∈canN cl K r K.length:=by
 unfold fjN
 rw[ga,bv (Fe.mpr h)]
 exact DQ _
def SFj:ASp:=λss q=>∃(K:List Nat) (r:Nat) (cl:Bool),ss=[.vl (.lst (ao K)),nv r,.vl (.bl cl)]/\K.length<=63/\canN cl K r K.length≠[]/\q (.d (bq (fjN cl K r))) [.vl (.lst (ao K)),nv r,.vl (.bl cl)]
def eG (m:Nat)(cl:Bool)(L W:List Nat):Net:=⟨m,(wl (L.length - m)).map λi=>fjN cl (L.take (m+i)) (L.getD (m+i) 0),W.map L.idxOf⟩
structure Fnd (m:Nat)(cl:Bool)(L W:List Nat):Prop where
 m1:1<=m
 m12:m<=12
 l:L.length<=63
 w1:1<=W.length
 w24:W.length<=24
 w:∀r∈W,r∈L
 ml:m<=L.length
 own:L.take m=az m
 nd:L.Nodup
 nx:∀i,m<=i->i<L.length->b6 cl (L.take i) (L.getD i 0)=true
theorem okJs_of:∀ {js:List (Nat×Nat)} {rows:List Nat},(∀i p,js[i]? = some p->p.1<p.2/\p.2<rows.length+i/\((js.take i).foldl aK rows).getD p.1 0≠((js.take i).foldl aK rows).getD p.2 0)->okJs rows js
 | [],_,_=>trivial
 | p::r,rows,h=>by
  obtain⟨h1,h2,h3⟩:=h 0 p rfl
  refine⟨h1,h2,h3,okJs_of λi q e=>?_⟩
  obtain⟨a,b,c⟩:=h (i+1) q e
  exact⟨a,by rw[cq];omega,c⟩
theorem dF {L:List Nat}{n i:Nat}(h:i<n):(L.take n).getD i 0=L.getD i 0:=by
 rw[ga,ga,FC h]
theorem mK {m:Nat}{cl:Bool}{L W:List Nat}(F:Fnd m cl L W){k:Nat}(h:k<L.length - m):(eG m cl L W).js[k]? = some (fjN cl (L.take (m+k)) (L.getD (m+k) 0))/\(fjN cl (L.take (m+k)) (L.getD (m+k) 0)).1<(fjN cl (L.take (m+k)) (L.getD (m+k) 0)).2/\(fjN cl (L.take (m+k)) (L.getD (m+k) 0)).2<m+k /\
  L.getD (fjN cl (L.take (m+k)) (L.getD (m+k) 0)).1 0 ^^^ L.getD (fjN cl (L.take (m+k)) (L.getD (m+k) 0)).2 0=L.getD (m+k) 0/\mayN cl (L.getD (fjN cl (L.take (m+k)) (L.getD (m+k) 0)).1 0) (L.getD (fjN cl (L.take (m+k)) (L.getD (m+k) 0)).2 0)=true:=by
 have hl:(L.take (m+k)).length=m+k:=by rw[B6];omega
 have hm:=zr (vH (F.nx (m+k) (by omega) (by omega)))
 obtain⟨h1,h2,h3,h4⟩:=ng.mp hm
 rw[hl]at h2
 refine⟨?_,h1,h2,?_,?_⟩
 ·unfold eG
  rw[wv,Ff h];rfl
 ·rwa [dF (by omega),dF h2]at h3
 ·rwa [dF (by omega),dF h2]at h4
theorem dJ (m:Nat)(cl:Bool)(L W:List Nat):(eG m cl L W).js.length=L.length - m:=by simp[eG]
theorem jj {m:Nat}{cl:Bool}{L W:List Nat}(F:Fnd m cl L W):∀k,k<=L.length - m->((eG m cl L W).js.take k).foldl aK (az m)=L.take (m+k)
 | 0,_=>F.own.symm
 | k+1,h=>by
  obtain⟨e,h1,h2,h3,_⟩:=mK F (show k<L.length - m by omega)
  rw[gE e,jj F k (by omega)]
  unfold aK
  rw[dF (by omega),dF h2,h3,<- Kc,CG,ga,bv (show m+k<L.length by omega)]
  rfl
theorem lJ {m:Nat}{cl:Bool}{L W:List Nat}(F:Fnd m cl L W):a7 (eG m cl L W)=L:=by
 have:=jj F (L.length - m) (lm _)
 rw[<- dJ m cl L W,Cp,dJ]at this
 unfold a7
 show List.foldl aK (az m) _=_
 have hml:=F.ml
 rw[this,CS (by omega)]
theorem oi {m:Nat}{cl:Bool}{L W:List Nat}(F:Fnd m cl L W):iZ (eG m cl L W):=by
 have hml:=F.ml
 have hl:=F.l
 refine⟨F.m1,F.m12,by rw[dJ];omega,okJs_of λi p e=>?_,?_,?_,λo ho=>?_⟩
 ·have hi:=(kt.mp e).1
  rw[dJ]at hi
  obtain⟨e',h1,h2,h3,h4⟩:=mK F hi
  rw[e']at e
  injection e with e
  subst e
  refine⟨h1,by rw[cf];exact h2,?_⟩
  have et:=jj F i (by omega)
  show((eG m cl L W).js.take i |>.foldl aK (az m)).getD _ 0≠((eG m cl L W).js.take i |>.foldl aK (az m)).getD _ 0
  rw[et,dF (by omega),dF h2]
  intro z
  have:=mX F.nd (by omega) (by omega) z
  omega
 ·show 1<=(W.map L.idxOf).length
  rw[f8];exact F.w1
 ·show(W.map L.idxOf).length<=24
  rw[f8];exact F.w24
 ·obtain⟨r,hr,rfl⟩:=Ch.mp ho
  have:=Fi (F.w r hr)
  rw[dJ]
  show _<m+_
  omega
theorem qe {m:Nat}{L W:List Nat}(F:Fnd m true L W):hX (eG m true L W)=true:=by
 unfold hX
 rw[lJ F,DR]
 intro p hp
 obtain⟨i,hi,e⟩:=C1 hp
 rw[dJ]at hi
 obtain⟨e',h1,h2,h3,h4⟩:=mK F hi
 rw[bv (by rw[dJ];exact hi),e]at e'
 injection e' with e'
 rw[e']
 unfold mayN at h4
 simpa using h4
theorem sN {m:Nat}{cl:Bool}{L W:List Nat}(F:Fnd m cl L W):(eG m cl L W).os.map (λo=>(a7 (eG m cl L W)).getD o 0)=W:=by
 rw[lJ F]
 show(W.map L.idxOf).map _=W
 rw[B3]
 refine(Ez λr hr=>?_).trans (Kr W)
 show L.getD (L.idxOf r) 0=r
 have:=Fi (F.w r hr)
 rw[ga,bv this]
 exact Go this
theorem rQ (m:Nat):∀n,(wl n).filter (λi=>decide (m<=i))=(wl (n - m)).map (m + ·)
 | 0=>by simp
 | n+1=>by
  rw[DL,Fu,rQ m n]
  by_cases h:m<=n
  ·rw[FJ (by simpa using h),show n+1 - m=(n - m)+1 by omega,DL,Cb]
   show _++[n]=_++[m+(n - m)]
   rw[show m+(n - m)=n by omega]
  ·rw[FK (by simpa using h),show n+1 - m=n - m by omega]
   simp
def zM:ASp:=λss q=>∃(m:Nat) (cl:Bool) (L W:List Nat),ss=[.vl (cb m W),.vl (.bl cl),.vl (.lst (ao L))]/\Fnd m cl L W/\q (.d (netD (tidN (eG m cl L W)))) [.vl (cb m W),.vl (.bl cl),.vl (.lst (ao L))]
theorem x3:∀ {L:List Nat} {r k:Nat},k<L.idxOf r->L[k]? ≠ some r
 | [],r,k,h,e=>by simp at e
 | x::L,r,0,h,e=>by
  injection e with e
  subst e
  simp at h
 | x::L,r,k+1,h,e=>by
  rw[List.idxOf_cons]at h
  cases hx:x==r with
  | true=>rw[hx]at h;simp at h
  | false =>
   rw[hx]at h
   exact x3 (k:=k) (by simpa using h) (by simpa using e)
section
variable {P:wS}{w:B_}{K:bi}{mg:Str->Option bn}{base:Heap}
theorem sG (dn:DefN K mg "joining" iD ["one", "other"])(B:BI mg):OkN P w K mg base 1 "joining" ["one", "other"] (spA K nz):=by
 refine dn.aok2 (k:=0) sx (λj=>j==0||j==1) [] nz rfl (λf cdv A outer s H E hr=>have hu:=cv hr;⟨_,(aH (aZ (cO (ah (bh (oV rfl) rfl B.min_ yb (ah (pv 0) (ah (pv 1) aA))) (ah (bh (vI rfl) rfl B.max_ A_ (ah (pv 0) (ah (pv 1) aA))) aA))))),(aO (b7 (aa (bZ rV (aa af (aa af aj))) (aa (bZ xu (aa af (aa af aj))) aj))))⟩) ?_
 rintro ss q ⟨a,b,rfl,hq⟩
 refine⟨rfl,rfl,by simp,?_⟩
 show q (.d (.tup [.int (if(b:Int)<(a:Int)then(b:Int)else(a:Int)),.int (if(b:Int) > (a:Int)then(b:Int)else(a:Int))])) [nv a,nv b]
 rw[minI,maxI];exact hq
theorem n5 (dn:DefN K mg "all_words" fE ["net", "words"])(B:BI mg)(g_joined:OkN P w K mg base 1 "joined" ["one", "other"] (spA K ie)):OkN P w K mg base 2 "all_words" ["net", "words"] (spA K SAll):=by
 refine dn.aok2 (k:=1) cz (λj=>j==0||j==1) [.un,.un,.un,.un,.un,.un] SAll rfl (λf cdv A outer s H E hr=>have hu:=cv hr;⟨_,(aw (eO (pv 0) (bC K (n:=3) rfl (aJ (aF (i:=2) cz.nd rfl (by first | exact Or.inl rfl | exact Or.inr rfl)) (aJ (aF (i:=3) cz.nd rfl (by first | exact Or.inl rfl | exact Or.inr rfl)) (aJ (aF (i:=4) cz.nd rfl (by first | exact Or.inl rfl | exact Or.inr rfl)) bB)))))
  (aw (bp (i:=5) cz.nd rfl (by first | exact Or.inl rfl | exact Or.inr rfl) (cP (l_ K) rfl B.list_ ni (ah (pv 1) aA)))
  (aw (e_ Cz rfl (bF K (pv 3)) (bC K (n:=2) rfl (aJ (aF (i:=6) cz.nd rfl (by first | exact Or.inl rfl | exact Or.inr rfl)) (aJ (aF (i:=7) cz.nd rfl (by first | exact Or.inl rfl | exact Or.inr rfl)) bB)))
  (aH (eW (gm K CC CK CJ dc (pv 5) (ah (bJ g_joined (hr.mono (by decide)) (ah (b9 (aU K) (pv 5) (pv 6) (λ_ _=>rfl)) (ah (b9 (aU K) (pv 5) (pv 7) (λ_ _=>rfl)) aA))) aA)))))
  (aH (aZ (pv 5)))))),(aE (cZ af (a8 (aD (aq rfl) (aD (aq rfl) (aD (aq rfl) aW (λ_ _ _=>aN)) (λ_ _ _=>aN)) (λ_ _ _=>aN))))
  (aE (a_ (bZ oT (aa af aj)) rfl)
  (aE (dh (pin:=(λj=>j==3)) (ba af) (a8 (aD (aq rfl) (aD (aq rfl) aW (λ_ _ _=>aN)) (λ_ _ _=>aN)))
  (dA (fA af (aa (aM (aa (aG bf af af) (aa (aG bf af af) aj))) aj))))
  (aO af))))⟩) ?_
 rintro ss q ⟨N,ws,rfl,hix,hz,hq⟩
 refine⟨rfl,rfl,?_⟩
 refine iR bq (λk ρ=>∃s6 s7,ρ=[.vl (netD N),.vl (.lst (ao ws)),nv N.m,.vl (.tup (N.js.map bq)),.vl (.tup (ao N.os)),.ow (ao ((N.js.take k).foldl aK ws)),s6,s7]) (λ_ _ _=>trivial) ?_ ?_ ⟨_,_,rfl⟩
 ·rintro k p _ M hk ⟨s6,s7,rfl⟩ hM
  obtain⟨q1,q2⟩:=fH hix hk
  have hlen:((N.js.take k).foldl aK ws).length=ws.length+k:=by
   have:=(kt.mp hk).1
   rw[fN,B6];omega
  have hi:k<N.js.length:=(kt.mp hk).1
  refine bt rfl (by omega) (bt rfl (by omega) ⟨rfl,_,_,rfl,?_,hM _ ⟨nv p.1,nv p.2,?_⟩⟩)
  ·rw[f8,hlen];omega
  ·rw[gE hk,g5];rfl
 ·rintro ρ ⟨s6,s7,rfl⟩
  rw[Cp]
  exact hq
theorem sF (dn:DefN K mg "rows_of" iC ["net"])(B:BI mg)(g_all_words:OkN P w K mg base 2 "all_words" ["net", "words"] (spA K SAll))(g_own_rows:OkN P w K mg base 1 "own_rows" ["many"] (spA K SOwn)):OkN P w K mg base 3 "rows_of" ["net"] (spA K qL):=by
 refine dn.aok2 (k:=2) sr (λj=>j==0) [] qL rfl (λf cdv A outer s H E hr=>have hu:=cv hr;⟨_,(aH (aZ (bJ g_all_words (hr.mono (by decide)) (ah (pv 0) (ah (bJ g_own_rows (hr.mono (by decide)) (ah (b9 (aU K) (pv 0) aL (λ_ _=>rfl)) aA)) aA))))),(aO (aM (aa af (aa (aM (aa (aG bf af aI) aj)) aj))))⟩) ?_
 rintro ss q ⟨N,rfl,hix,hz,hq⟩
 refine⟨rfl,rfl,?_⟩
 refine gC rfl rfl ⟨rfl,N.m,rfl,by omega,rfl,N,az N.m,rfl,?_,?_,hq⟩
 ·rw[cf];exact hix
 ·rw[cf];exact hz
theorem la (dn:DefN K mg "first_alike" d0 ["rows"])(B:BI mg):OkN P w K mg base 1 "first_alike" ["rows"] (spA K vW):=by
 refine dn.aok2 (k:=0) cN (λj=>j==0) [.un,.un,.un,.un] vW rfl (λf cdv A outer s H E hr=>have hu:=cv hr;⟨_,(aw (bp (i:=1) cN.nd rfl (by first | exact Or.inl rfl | exact Or.inr rfl) wG)
  (aw (bp (i:=2) cN.nd rfl (by first | exact Or.inl rfl | exact Or.inr rfl) (eD aA))
  (aw (e_ Cz rfl (jc K rfl B.enumerate_ (ah (pv 0) aA)) (bC K (n:=2) rfl (aJ (aF (i:=3) cN.nd rfl (by first | exact Or.inl rfl | exact Or.inr rfl)) (aJ (aF (i:=4) cN.nd rfl (by first | exact Or.inl rfl | exact Or.inr rfl)) bB)))
  (aH (eW (gm K CC CK CJ dc (pv 2) (ah (wF (pv 1) (pv 4) (pv 3) ⟨rfl,rfl,rfl,rfl⟩) aA)))))
  (aH (aZ (pv 2)))))),(aE (a_ we rfl)
  (aE (a_ (cU aj) rfl)
  (aE (dh (pin:=(λj=>j==0)) (e6 (aa af aj)) (a8 (aD (aq rfl) (aD (aq rfl) aW (λ_ _ _=>aN)) (λ_ _ _=>aN)))
  (dA (fA af (aa (tO af af af) aj))))
  (aO af))))⟩) ?_
 rintro ss q ⟨R,rfl,hz,hq⟩
 refine⟨rfl,rfl,?_⟩
 refine⟨by simp,?_⟩
 refine d5 (λk ρ=>k<=R.length/\∃kvs s3 s4,ρ=[.vl (.lst (ao R)),.dk kvs,.ow (ao ((stN R).take k)),s3,s4]/\metD R k kvs/\kvs.length<=k) (λ_ _ _ _=>trivial) ?_ ?_ _ ⟨B0 _,[],.un,.un,rfl,λr=>by simp[valD],lm _⟩
 ·rintro k d _ M hk ⟨_,kvs,s3,s4,rfl,hm,hkl⟩ hM
  obtain⟨x,ex,rfl⟩:=cR hk
  rw[wv]at ex
  obtain⟨r,er,rfl⟩:=BZ.mp ex
  have lt:k<R.length:=(kt.mp er).1
  have er':R.getD k 0=r:=by rw[ga,er];rfl
  have ef:fst1 R k=R.idxOf r:=by unfold fst1;rw[er']
  have et:R.take (k+1)=R.take k++[r]:=by rw[CG,er];rfl
  have es:(stN R).take (k+1)=(stN R).take k++[R.idxOf r]:=by
   rw[CG]
   congr 1
   have:(stN R)[k]? = some (fst1 R k):=by simp[stN,lt]
   rw[this,ef];rfl
  have hsl:(ao ((stN R).take k)).length<=1000:=by rw[fg,B6,fB];omega
  rw[C5]
  refine Bp ?_
  refine xg (k:=.inl (r:Int)) rfl (by omega) (λx hx=>?_) λhx=>?_
  ·have h1:=hm r
   rw[hx]at h1
   by_cases hr:r∈R.take k
   ·rw[if_pos hr]at h1
    cases h1
    refine⟨by omega,hM _ ⟨by omega,kvs,nv k,nv r,?_,λr'=>?_,by omega⟩⟩
    ·rw[es,dy];rfl
    ·rw[hm r',et]
     by_cases e:r'=r
     ·subst e;rw[if_pos hr,if_pos (BW _ hr)]
     ·congr 1
      simp[e]
   ·rw[if_neg hr]at h1;cases h1
  ·have h1:=hm r
   rw[hx]at h1
   by_cases hr:r∈R.take k
   ·rw[if_pos hr]at h1;cases h1
   ·have ei:R.idxOf r=k:=by
     have l1:R.idxOf r<=k:=by rw[<- ef];exact vn lt
     rcases B7 (R.idxOf r) k with q | q
     ·exfalso
      refine hr ?_
      have g:=rO (R:=R) (t:=k) lt
      rw[ef,er',oG (by omega)]at g
      exact List.mem_iff_getElem.mpr ⟨R.idxOf r,by rw[B6];omega,by rw[GI];exact g⟩
     ·omega
    refine⟨by omega,hM _ ⟨by omega,putD kvs (.inl (r:Int)) (nD k),nv k,nv r,?_,λr'=>?_,?_⟩⟩
    ·rw[es,dy,ei];rfl
    ·rw[qR,et]
     by_cases e:r'=r
     ·subst e
      rw[if_pos rfl,if_pos (by simp),ei]
     ·have ne:¬(Sum.inl (r':Int):Key) = .inl (r:Int):=λz=>e (by injection z with z;omega)
      rw[if_neg ne,hm r']
      congr 1
      simp[e]
    ·have:=gZ kvs (.inl (r:Int)) (nD k);omega
 ·rintro _ ⟨_,kvs,s3,s4,rfl,hm,hkl⟩
  have e:(dO 0 (ao R)).length=R.length:=by rw[bT,fg]
  rw[e,CS (by rw[fB];exact lm _)]
  exact hq
theorem pU (dn:DefN K mg "leant_on" e8 ["net", "stands"])(B:BI mg):OkN P w K mg base 1 "leant_on" ["net", "stands"] (spA K vR):=by
 refine dn.aok2 (k:=0) cy (λj=>j==0||j==1) [.un,.un,.un,.un,.un,.un,.un] vR rfl (λf cdv A outer s H E hr=>have hu:=cv hr;⟨_,(aw (eO (pv 0) (bC K (n:=3) rfl (aJ (aF (i:=2) cy.nd rfl (by first | exact Or.inl rfl | exact Or.inr rfl)) (aJ (aF (i:=3) cy.nd rfl (by first | exact Or.inl rfl | exact Or.inr rfl)) (aJ (aF (i:=4) cy.nd rfl (by first | exact Or.inl rfl | exact Or.inr rfl)) bB)))))
  (aw (rq (i:=5) ["out"] [1] cy.nd rfl (by first | exact Or.inl rfl | exact Or.inr rfl) rfl (Blk.of (ar e8) ky) (bF K (pv 4)) (λ_ _ _ _ nd=>(aF (i:=0) nd rfl (by first | exact Or.inl rfl | exact Or.inr rfl))) (λ_ _ _ _=>cB) (λ_ _ _ _=>(b9 (aU K) (pv 1) (pv 0) (λ_ _=>rfl))) (λ_ _ _ _=>dw))
  (aw (e_ Cz rfl (Ah K rfl B.reversed_ (ah (Ak K rfl rfl B.list_ rfl B.enumerate_ (ah (pv 3) aA)) aA)) (bC K (n:=2) rfl (aJ (aF (i:=6) cy.nd rfl (by first | exact Or.inl rfl | exact Or.inr rfl)) (aJ (bC K (n:=2) rfl (aJ (aF (i:=7) cy.nd rfl (by first | exact Or.inl rfl | exact Or.inr rfl)) (aJ (aF (i:=8) cy.nd rfl (by first | exact Or.inl rfl | exact Or.inr rfl)) bB))) bB)))
  (aH (dH (ro (xX hu (be eP (pv 2) (pv 6)) (pv 5)))
  (aw (j_ hu (pv 5) (b9 (aU K) (pv 1) (pv 7) (λ_ _=>rfl)) dw rfl)
  (aH (j_ hu (pv 5) (b9 (aU K) (pv 1) (pv 8) (λ_ _=>rfl)) dw rfl)))
  bE)))
  (aH (aZ (pv 5)))))),(aE (cZ af (a8 (aD (aq rfl) (aD (aq rfl) (aD (aq rfl) aW (λ_ _ _=>aN)) (λ_ _ _=>aN)) (λ_ _ _=>aN))))
  (aE (nH (jY (ba af) (aq rfl) bY (aG bf af af) cc) rfl)
  (aE (dh (pin:=(λ_=>false)) (wg (aa (yn (aa af aj)) aj)) (a8 (aD (aq rfl) (aD (a8 (aD (aq rfl) (aD (aq rfl) aW (λ_ _ _=>aN)) (λ_ _ _=>aN))) aW (λ_ _ _=>x5)) (λ_ _ _=>aN)))
  (cw (aV (tP (aG a9 af af) af))
  (aE (qZ cc af (aG bf af af))
  (qZ cc af (aG bf af af)))
  bj))
  (aO af))))⟩) ?_
 rintro ss q ⟨N,rfl,hN,hq⟩
 have Rw:=lF hN
 have hl:(a7 N).length=N.m+N.js.length:=iF N
 have jl:=hN.jl
 have m12:=hN.m12
 have o24:=hN.o24
 refine⟨rfl,rfl,?_⟩
 refine cutS (λρ=>ρ=[.vl (netD N),.ow (ao (stN (a7 N))),nv N.m,.vl (.tup (N.js.map L2.bq)),.vl (.tup (ao N.os)),.un,.un,.un,.un]) (λM hM=>hM _ rfl) ?_
 rintro _ rfl
 refine cutS (λρ=>∃kvs,ρ=[.vl (netD N),.ow (ao (stN (a7 N))),nv N.m,.vl (.tup (N.js.map L2.bq)),.vl (.tup (ao N.os)),.dk kvs,.un,.un,.un]/\qq (λt=>(N.os.map (fT N)).contains t) kvs/\kvs.length<=24) (λM hM=>?_) ?_
 ·refine⟨by rw[fg];omega,?_⟩
  refine jo (λk acc ρ=>ρ=[.vl (netD N),.ow (ao (stN (a7 N))),nv N.m,.vl (.tup (N.js.map L2.bq)),.vl (.tup (ao N.os)),.un,.un,.un,.un]/\qq (λt=>((N.os.take k).map (fT N)).contains t) acc/\acc.length<=k) (λ_ _ _ _ _=>trivial) ?_ ?_ _ ⟨rfl,λt=>by simp[valD],lm _⟩
  ·rintro k d acc _ M2 hk ⟨rfl,hka,hla⟩ hM2
   rw[wv]at hk
   obtain⟨o,eo,rfl⟩:=BZ.mp hk
   have ho:=hN.os o (Cd eo)
   refine bt rfl (by rw[fB];omega) (hM2 _ _ ⟨rfl,?_,?_⟩)
   ·rw[iq (by omega)]
    have:=mP hka (fst1 (a7 N) o) (.bl true)
    intro t
    rw[this t,CG,eo,DP,Cb,wE,Dn]
    rw[Eh]
    simp[fT]
   ·have:=gZ acc (.inl (((stN (a7 N)).getD o 0:Nat):Int)) (.bl true);omega
  ·rintro acc _ ⟨rfl,hka,hla⟩
   rw[fg]at hka hla
   rw[Cp]at hka
   exact hM _ ⟨acc,rfl,hka,by omega⟩
 rintro _ ⟨kvs,rfl,hk0,hl0⟩
 refine d5 (λk ρ=>k<=N.js.length/\∃kvs s6 s7 s8,ρ=[.vl (netD N),.ow (ao (stN (a7 N))),nv N.m,.vl (.tup (N.js.map L2.bq)),.vl (.tup (ao N.os)),.dk kvs,s6,s7,s8]/\qq (fL N.m (fT N) (N.js.drop (N.js.length - k)) (N.js.length - k) λt=>(N.os.map (fT N)).contains t) kvs/\kvs.length<=24+2*k) (λ_ _ _ _=>trivial) ?_ ?_ _ ⟨B0 _,kvs,.un,.un,.un,rfl,?_,by omega⟩
 ·rintro k d _ M hk ⟨_,kvs,s6,s7,s8,rfl,hka,hla⟩ hM
  have lk:k<N.js.length:=by
   have:=(kt.mp hk).1
   rwa [Fd,bT,f8]at this
  rw[Ix (by rw[bT,f8];exact lk),bT,f8]at hk
  obtain⟨x,ex,rfl⟩:=cR hk
  rw[wv]at ex
  obtain⟨p,ep,rfl⟩:=BZ.mp ex
  obtain⟨a1,a2,a3⟩:=sS Rw ep
  rw[C5]
  have ed:N.js.drop (N.js.length - (k+1))=p::N.js.drop (N.js.length - k):=by
   rw[show N.js.length - (k+1)=N.js.length - 1 - k by omega,Cf (by omega),show N.js.length - 1 - k+1=N.js.length - k by omega]
   congr 1
   exact(kt.mp ep).2
  have ek:N.js.length - (k+1)+1=N.js.length - k:=by omega
  refine tY (d2:=nD p.1) (d3:=nD p.2) ?_
  show aIfS _ _ _ _ [.vl (netD N),.ow (ao (stN (a7 N))),nv N.m,.vl (.tup (N.js.map L2.bq)),.vl (.tup (ao N.os)),.dk kvs,nv (N.js.length - 1 - k),nv p.1,nv p.2]
  have ht:=hka (N.m+(N.js.length - (k+1)))
  have ec:((N.m:Int)+((N.js.length - 1 - k:Nat):Int))=((N.m+(N.js.length - (k+1)):Nat):Int):=by omega
  refine ite2 (λh=>?_) λh=>?_
  ·have h':(valD kvs (.inl ((N.m:Int)+((N.js.length - 1 - k:Nat):Int)))).isSome=true:=h
   rw[ec,ht]at h'
   refine bt rfl (by rw[fB];omega) ⟨by omega,?_⟩
   refine bt rfl (by rw[fB];omega) ⟨?_,hM _ ⟨by omega,_,nv (N.js.length - 1 - k),nv p.1,nv p.2,rfl,?_,?_⟩⟩
   ·have:=gZ kvs (.inl (((stN (a7 N)).getD p.1 0:Nat):Int)) (.bl true);omega
   ·rw[iq (by omega),iq (by omega)]
    have:=mP (mP hka (fst1 (a7 N) p.1) (.bl true)) (fst1 (a7 N) p.2) (.bl true)
    intro t
    rw[this t,ed,oq,ek,h']
    simp only[DD,Bool.or_assoc]
    rfl
   ·have h1:=gZ kvs (.inl (((stN (a7 N)).getD p.1 0:Nat):Int)) (.bl true)
    have h2:=gZ (putD kvs (.inl (((stN (a7 N)).getD p.1 0:Nat):Int)) (.bl true)) (.inl (((stN (a7 N)).getD p.2 0:Nat):Int)) (.bl true)
    omega
  ·have h':¬(valD kvs (.inl ((N.m:Int)+((N.js.length - 1 - k:Nat):Int)))).isSome=true:=h
   rw[ec,ht]at h'
   refine hM _ ⟨by omega,kvs,nv (N.js.length - 1 - k),nv p.1,nv p.2,rfl,λt=>?_,by omega⟩
   rw[hka t,ed,oq,ek,C0 _ |>.mp h',D8,Gm]
 ·rintro _ ⟨_,kvs,s6,s7,s8,rfl,hka,hla⟩
  have e:((dO 0 (N.js.map L2.bq)).reverse).length=N.js.length:=by rw[Fd,bT,f8]
  rw[e,Iv,Hu]at hka
  exact hq kvs hka
 ·rw[GQ,G0]
  exact hk0
theorem uG (dn:DefN K mg "tidied" iB ["net"])(B:BI mg)(g_first_alike:OkN P w K mg base 1 "first_alike" ["rows"] (spA K vW))(g_leant_on:OkN P w K mg base 1 "leant_on" ["net", "stands"] (spA K vR))(g_rows_of:OkN P w K mg base 3 "rows_of" ["net"] (spA K qL))(g_joining:OkN P w K mg base 1 "joining" ["one", "other"] (spA K nz)):OkN P w K mg base 4 "tidied" ["net"] (spA K STid):=by
 refine dn.aok2 (k:=3) cx (λj=>j==0) [.un,.un,.un,.un,.un,.un,.un,.un,.un,.un] STid rfl (λf cdv A outer s H E hr=>have hu:=cv hr;⟨_,(aw (eO (pv 0) (bC K (n:=3) rfl (aJ (aF (i:=1) cx.nd rfl (by first | exact Or.inl rfl | exact Or.inr rfl)) (aJ (aF (i:=2) cx.nd rfl (by first | exact Or.inl rfl | exact Or.inr rfl)) (aJ (aF (i:=3) cx.nd rfl (by first | exact Or.inl rfl | exact Or.inr rfl)) bB)))))
  (aw (bp (i:=4) cx.nd rfl (by first | exact Or.inl rfl | exact Or.inr rfl) (bJ g_first_alike (hr.mono (by decide)) (ah (bJ g_rows_of (hr.mono (by decide)) (ah (pv 0) aA)) aA)))
  (aw (bp (i:=5) cx.nd rfl (by first | exact Or.inl rfl | exact Or.inr rfl) (bJ g_leant_on (hr.mono (by decide)) (ah (pv 0) (ah (pv 4) aA))))
  (aw (bp (i:=6) cx.nd rfl (by first | exact Or.inl rfl | exact Or.inr rfl) (cP (tq rfl) rfl B.list_ ni (ah (cP qF rfl B.range_ xw (ah (pv 1) aA)) aA)))
  (aw (bp (i:=7) cx.nd rfl (by first | exact Or.inl rfl | exact Or.inr rfl) (eD aA))
  (aw (e_ Cz rfl (wB K rfl B.enumerate_ (ah (pv 2) aA)) (bC K (n:=2) rfl (aJ (aF (i:=8) cx.nd rfl (by first | exact Or.inl rfl | exact Or.inr rfl)) (aJ (bC K (n:=2) rfl (aJ (aF (i:=9) cx.nd rfl (by first | exact Or.inl rfl | exact Or.inr rfl)) (aJ (aF (i:=10) cx.nd rfl (by first | exact Or.inl rfl | exact Or.inr rfl)) bB))) bB)))
  (aw (eW (gm K CC CK CJ dc (pv 6) (ah (be eP (pv 1) (bh (bN K) rfl B.len_ dU (ah (pv 7) aA))) aA)))
  (aH (dH (ro (xX hu (be eP (pv 1) (pv 8)) (pv 5)))
  (aH (eW (gm K CC CK CJ dc (pv 7) (ah (bJ g_joining (hr.mono (by decide)) (ah (b9 (aU K) (pv 6) (b9 (aU K) (pv 4) (pv 9) (λ_ _=>rfl)) (λ_ _=>rfl)) (ah (b9 (aU K) (pv 6) (b9 (aU K) (pv 4) (pv 10) (λ_ _=>rfl)) (λ_ _=>rfl)) aA))) aA))))
  bE))))
  (aH (aZ (cO (ah (pv 1) (ah (cP (dz K) rfl B.tuple_ fO (ah (pv 7) aA)) (ah (cP (dz K) rfl B.tuple_ fO (ah (du ["out"] [6,4] rfl (Blk.of (ar iB) n_) (bF K (pv 3)) (λ_ _ _ _ nd=>(aF (i:=0) nd rfl (by first | exact Or.inl rfl | exact Or.inr rfl))) (λ_ _ _ _=>cB) (λ_ _ _ _=>(b9 (aU K) (pv 1) (b9 (aU K) (pv 2) (pv 0) (λ_ _=>rfl)) (λ_ _=>rfl)))) aA)) aA)))))))))))),(aE (cZ af (a8 (aD (aq rfl) (aD (aq rfl) (aD (aq rfl) aW (λ_ _ _=>aN)) (λ_ _ _=>aN)) (λ_ _ _=>aN))))
  (aE (a_ (aM (aa (aM (aa af aj)) aj)) rfl)
  (aE (a_ (aM (aa af (aa af aj))) rfl)
  (aE (a_ (wd af) rfl)
  (aE (a_ (cU aj) rfl)
  (aE (dh (pin:=(λj=>j==2)) (si (aa af aj)) (a8 (aD (aq rfl) (aD (a8 (aD (aq rfl) (aD (aq rfl) aW (λ_ _ _=>aN)) (λ_ _ _=>aN))) aW (λ_ _ _=>x5)) (λ_ _ _=>aN)))
  (aE (dA (fA af (aa (aG a9 af (bZ cK (aa af aj))) aj)))
  (cw (aV (tP (aG a9 af af) af))
  (dA (fA af (aa (aM (aa (aG bf af (aG bf af af)) (aa (aG bf af (aG bf af af)) aj))) aj)))
  bj)))
  (aO (b7 (aa af (aa (bZ d9 (aa af aj)) (aa (bZ d9 (aa (bU (ba af) (aq rfl) bY (aG bf af (aG bf af af))) aj)) aj)))))))))))⟩) ?_
 rintro ss q ⟨N,rfl,hN,hq⟩
 have Rw:=lF hN
 have hl:(a7 N).length=N.m+N.js.length:=iF N
 have jl:=hN.jl
 have m12:=hN.m12
 have o24:=hN.o24
 refine⟨rfl,rfl,?_⟩
 refine cutS (λρ=>ρ=[.vl (netD N),nv N.m,.vl (.tup (N.js.map L2.bq)),.vl (.tup (ao N.os)),.un,.un,.un,.un,.un,.un,.un]) (λM hM=>hM _ rfl) ?_
 rintro _ rfl
 refine cutS (λρ=>ρ=[.vl (netD N),nv N.m,.vl (.tup (N.js.map L2.bq)),.vl (.tup (ao N.os)),.ow (ao (stN (a7 N))),.un,.un,.un,.un,.un,.un]) (λM hM=>⟨rfl,N,rfl,Rw.ix,by omega,rfl,a7 N,rfl,by omega,hM _ rfl⟩) ?_
 rintro _ rfl
 refine cutS (λρ=>∃kvs,ρ=[.vl (netD N),nv N.m,.vl (.tup (N.js.map L2.bq)),.vl (.tup (ao N.os)),.ow (ao (stN (a7 N))),.dk kvs,.un,.un,.un,.un,.un]/\qq (bH N) kvs) (λM hM=>⟨rfl,N,rfl,hN,λkvs hk=>hM _ ⟨kvs,rfl,hk⟩⟩) ?_
 rintro _ ⟨kvs,rfl,hk⟩
 refine cutS (λρ=>ρ=[.vl (netD N),nv N.m,.vl (.tup (N.js.map L2.bq)),.vl (.tup (ao N.os)),.ow (ao (stN (a7 N))),.dk kvs,.ow (ao (wl N.m)),.un,.un,.un,.un]) (λM hM=>⟨⟨by omega,by omega⟩,hM _ (by rw[CB];rfl)⟩) ?_
 rintro _ rfl
 refine cutS (λρ=>ρ=[.vl (netD N),nv N.m,.vl (.tup (N.js.map L2.bq)),.vl (.tup (ao N.os)),.ow (ao (stN (a7 N))),.dk kvs,.ow (ao (wl N.m)),.ow [],.un,.un,.un]) (λM hM=>⟨by simp,hM _ rfl⟩) ?_
 rintro _ rfl
 refine cutS (λρ=>∃s8 s9 s10,ρ=[.vl (netD N),nv N.m,.vl (.tup (N.js.map L2.bq)),.vl (.tup (ao N.os)),.ow (ao (stN (a7 N))),.dk kvs,.ow (ao ((wl (N.m+N.js.length)).map (nT N))),.ow ((tidN N).js.map L2.bq),s8,s9,s10]) (λM hM=>?_) ?_
 ·refine d5 (λk ρ=>k<=N.js.length/\∃s8 s9 s10,ρ=[.vl (netD N),nv N.m,.vl (.tup (N.js.map L2.bq)),.vl (.tup (ao N.os)),.ow (ao (stN (a7 N))),.dk kvs,.ow (ao ((wl (N.m+k)).map (nT N))),.ow ((jF N.m (fT N) (bH N) N.js k).map L2.bq),s8,s9,s10]) (λ_ _ _ _=>trivial) ?_ ?_ _ ⟨B0 _,.un,.un,.un,?_⟩
  ·rintro k d _ M2 hk' ⟨_,s8,s9,s10,rfl⟩ hM2
   obtain⟨x,ex,rfl⟩:=cR hk'
   rw[wv]at ex
   obtain⟨p,ep,rfl⟩:=BZ.mp ex
   obtain⟨a1,a2,a3⟩:=sS Rw ep
   obtain⟨f1,f2⟩:=f_lt Rw ep
   rw[C5]
   have enk:nT N (N.m+k)=N.m+nkT N.m (bH N) k:=by unfold nT nbT;rw[if_neg (by omega)];congr 2;omega
   have ers:(wl (N.m+(k+1))).map (nT N)=(wl (N.m+k)).map (nT N)++[nT N (N.m+k)]:=by
    rw[<- Kc,DL,Cb];rfl
   have eln:(N.m:Int)+(((jF N.m (fT N) (bH N) N.js k).map L2.bq).length:Int)=((nT N (N.m+k):Nat):Int):=by
    rw[f8,fM,enk];omega
   have ejs:N.js.getD k (0,0)=p:=by rw[ga,ep];rfl
   have nkl:=yW (m:=N.m) (L:=bH N) k
   refine tY (d2:=nD p.1) (d3:=nD p.2) ?_
   show aSeq _ _ _ [.vl (netD N),nv N.m,.vl (.tup (N.js.map L2.bq)),.vl (.tup (ao N.os)),.ow (ao (stN (a7 N))),.dk kvs,.ow (ao ((wl (N.m+k)).map (nT N))),.ow ((jF N.m (fT N) (bH N) N.js k).map L2.bq),nv k,nv p.1,nv p.2]
   refine cutS (λρ=>ρ=[.vl (netD N),nv N.m,.vl (.tup (N.js.map L2.bq)),.vl (.tup (ao N.os)),.ow (ao (stN (a7 N))),.dk kvs,.ow (ao ((wl (N.m+(k+1))).map (nT N))),.ow ((jF N.m (fT N) (bH N) N.js k).map L2.bq),nv k,nv p.1,nv p.2]) (λM3 hM3=>⟨?_,hM3 _ ?_⟩) ?_
   ·rw[fg,f8,Db];omega
   ·rw[ers,dy,show nD (nT N (N.m+k))=D.int ((N.m:Int)+(((jF N.m (fT N) (bH N) N.js k).map L2.bq).length:Int))from congrArg D.int eln.symm];rfl
   rintro _ rfl
   have ec:((N.m:Int)+(k:Int))=((N.m+k:Nat):Int):=by omega
   have ht:=hk (N.m+k)
   have gat:∀t,t<N.m+k->((wl (N.m+(k+1))).map (nT N)).getD t 0=nT N t:=λt h=>by
    rw[oG (by simp;omega)];simp
   have glen:((wl (N.m+(k+1))).map (nT N)).length=N.m+(k+1):=by simp
   refine ite2 (λh=>?_) λh=>?_
   ·have h':(valD kvs (.inl ((N.m:Int)+(k:Int)))).isSome=true:=h
    rw[ec,ht]at h'
    refine bt rfl (by rw[fB];omega) ?_
    refine bt rfl (by rw[iq (by omega),glen];show fT N p.1<_;omega) ?_
    refine bt rfl (by rw[fB];omega) ?_
    refine bt rfl (by rw[iq (by omega),glen];show fT N p.2<_;omega) ?_
    refine⟨rfl,_,_,rfl,by rw[f8,fM];omega,hM2 _ ⟨by omega,nv k,nv p.1,nv p.2,?_⟩⟩
    rw[iq (by omega),iq (by omega)]
    have g1:=gat (fst1 (a7 N) p.1) f1
    have g2:=gat (fst1 (a7 N) p.2) f2
    rw[g1,g2,iL,if_pos h',ejs,Cb]
    rfl
   ·have h':¬(valD kvs (.inl ((N.m:Int)+(k:Int)))).isSome=true:=h
    rw[ec,ht]at h'
    refine hM2 _ ⟨by omega,nv k,nv p.1,nv p.2,?_⟩
    rw[iL,if_neg h',Cc]
  ·rintro _ ⟨_,s8,s9,s10,rfl⟩
   have e:(dO 0 (N.js.map L2.bq)).length=N.js.length:=by rw[bT,f8]
   rw[e]
   exact hM _ ⟨s8,s9,s10,rfl⟩
  ·have e:(wl (N.m+0)).map (nT N)=wl N.m:=by
    refine List.ext_getElem (by simp) λi h1 h2=>?_
    have h3:i<N.m:=by simpa using h2
    simp[nbT,h3]
   rw[e];rfl
 rintro _ ⟨s8,s9,s10,rfl⟩
 refine⟨by rw[fg];omega,?_⟩
 refine gH nD (λo=>nD (nT N (fT N o))) trivial (λo acc M ho hM=>?_) ?_
 ·have h1:=hN.os o ho
  have h2:=xn (N:=N) (t:=o) h1
  refine bt rfl (by rw[fB];omega) ?_
  refine bt rfl (by rw[iq (by omega)];simp;show fT N o<_;omega) ?_
  rw[iq (by omega)]
  have:((wl (N.m+N.js.length)).map (nT N)).getD (fst1 (a7 N) o) 0=nT N (fT N o):=by
   rw[oG (by simp;show fT N o<_;omega)];simp[fT]
  rw[this]
  exact hM
 have e:(N.os.map λo=>nD (nT N (fT N o)))=ao (tidN N).os:=by
  show _=ao (N.os.map _)
  unfold ao;rw[B3];rfl
 rw[e]
 exact⟨by simp,hq⟩
theorem jB (dn:DefN K mg "first_joining" cA ["things", "row", "clean"])(B:BI mg)(g_may_join:OkN P w K mg base 1 "may_join" ["clean", "one", "other"] (spA K SMay))(g_joined:OkN P w K mg base 1 "joined" ["one", "other"] (spA K ie)):OkN P w K mg base 2 "first_joining" ["things", "row", "clean"] (spA K SFj):=by
 refine dn.aok2 (k:=1) fV (λj=>j==0||j==1||j==2) [.un] SFj rfl (λf cdv A outer s H E hr=>have hu:=cv hr;⟨_,(aw (mF (i:=3) ["a", "one", "b", "other"] [0,1,2] fV.nd rfl (by first | exact Or.inl rfl | exact Or.inr rfl) rfl (Blk.of (ar cA) fX) (jc K rfl B.enumerate_ (ah (pv 0) aA)) (λ_ _ _ _ nd=>(bC K (n:=2) rfl (aJ (aF (i:=2) nd rfl (by first | exact Or.inl rfl | exact Or.inr rfl)) (aJ (aF (i:=3) nd rfl (by first | exact Or.inl rfl | exact Or.inr rfl)) bB)))) (λ_ _ _ _=>cB) (λ_ _ _ _=>(jc K rfl B.enumerate_ (ah (g0 (gP K) (pv 4) jb (ja (pv 2))) aA))) (λ_ _ _ _ nd=>(bC K (n:=2) rfl (aJ (aF (i:=0) nd rfl (by first | exact Or.inl rfl | exact Or.inr rfl)) (aJ (aF (i:=1) nd rfl (by first | exact Or.inl rfl | exact Or.inr rfl)) bB)))) (λ_ _ _ _=>(dS (PW.pt (jt (bA (jv K hr.units) (bJ g_joined (hr.mono (by decide)) (ah (pv 1) (ah (pv 3) aA))) (pv 5) (bR _)) (gh (eM (bJ g_may_join (hr.mono (by decide)) (ah (pv 6) (ah (pv 1) (ah (pv 3) aA)))))))))) (λ_ _ _ _=>(cO (ah (pv 0) (ah (pv 2) aA)))))
  (aH (aZ (b9 (aU K) (pv 3) aL (λ_ _=>rfl))))),(aE (j3 (jZ (n2:=2) (e6 (aa af aj)) (a8 (aD (aq rfl) (aD (aq rfl) aW (λ_ _ _=>aN)) (λ_ _ _=>aN))) bY (e6 (aa (jX af jW (f_ af)) aj)) (a8 (aD (aq rfl) (aD (aq rfl) aW (λ_ _ _=>aN)) (λ_ _ _=>aN))) (fw (aV (aG jx (aM (aa af (aa af aj))) af)) (d_ (aM (aa af (aa af (aa af aj)))))) (b7 (aa af (aa af aj)))) rfl)
  (aO (aG bf af aI)))⟩) ?_
 rintro ss q ⟨K,r,cl,rfl,hl,hne,hq⟩
 refine⟨rfl,rfl,?_⟩
 have pre:∀i,i<=K.length->(canN cl K r i).length<=63*63:=λi hi=>by have:=rW cl K r i (by omega);omega
 refine cutS (λρ=>ρ=[.vl (.lst (ao K)),nv r,.vl (.bl cl),.ow ((canN cl K r K.length).map L2.bq)]) (λM hM=>?_) ?_
 ·refine oS (λi acc ρ=>acc=(canN cl K r i).map L2.bq/\i<=K.length/\ρ=[.vl (.lst (ao K)),nv r,.vl (.bl cl),.un]) (λi acc ρ _ h=>⟨trivial,by rw[h.1,f8];exact xz (pre i h.2.1) (by decide)⟩) ?_ ?_ _ ⟨rfl,B0 _,rfl⟩
  ·rintro i d acc _ N hd ⟨rfl,hil,rfl⟩ hN
   obtain⟨x,hx,rfl⟩:=cR hd
   rw[ao,wv]at hx
   obtain⟨b,hb,rfl⟩:=BZ.mp hx
   have hi:=(kt.mp hb).1
   have eb:K.getD i 0=b:=by rw[ga,hb];rfl
   rw[C5]
   have ec:dO 0 (cutD (ao K) none (some ((i:Nat):Int)))=(wl i).map λa=>.tup [nD a,nD (K.getD a 0)]:=by
    rw[ft,<- lV K (CN hi)];unfold ao;rw[E2]
   show hB 2 (λ_=>True) _ _ _ _ (dO 0 (cutD (ao K) none (some ((i:Nat):Int)))) _ [.un,.un,.vl (.int (i:Int)),.vl (.int (b:Int)),.vl (.lst (ao K)),nv r,.vl (.bl cl)]
   rw[ec]
   refine gF (λa=>.tup [nD a,nD (K.getD a 0)]) (λa=>decide (K.getD a 0 ^^^ b=r)&&mayN cl (K.getD a 0) b) (λa=>L2.bq (a,i)) trivial (by rw[f8,Db];have:=pre i hil;omega) (λa acc N2 ha hN2=>?_) ?_
   ·refine gaT2 ?_
    refine⟨rfl,_,_,rfl,?_⟩
    refine dM (b:=decide (K.getD a 0 ^^^ b=r)) rfl rfl (show D.depth (.int _)<=60 by simp[D.depth]) (by
     show decide (((K.getD a 0 ^^^ b:Nat):Int)=(r:Int))=_
     rw[decide_eq_decide];omega) ?_
    by_cases h:K.getD a 0 ^^^ b=r
    ·rw[decide_eq_true h,DD]at hN2
     show if decide (K.getD a 0 ^^^ b=r)=true then _ else _
     rw[if_pos (decide_eq_true h)]
     refine⟨rfl,cl,K.getD a 0,b,rfl,?_⟩
     cases hb:mayN cl (K.getD a 0) b with
     | true=>rw[hb]at hN2;exact⟨by simp,hN2⟩
     | false=>rw[hb]at hN2;exact hN2
    ·rw[decide_eq_false h,D8]at hN2
     show if decide (K.getD a 0 ^^^ b=r)=true then _ else _
     rw[if_neg (by rw[decide_eq_true_eq];exact h)]
     exact hN2
   refine hN _ _ ⟨?_,by omega,rfl⟩
   rw[oU,Cb,B3,eb]
   rfl
  ·rintro acc _ ⟨rfl,_,rfl⟩
   have el:(dO 0 (ao K)).length=K.length:=by rw[bT,bg]
   rw[el]
   exact hM _ rfl
 rintro _ rfl
 have hat:atI ((canN cl K r K.length).map L2.bq) 0=some (L2.bq (fjN cl K r)):=ny (j:=0) (by
  unfold fjN
  rw[wv,ga,bv (Fe.mpr hne)];rfl)
 exact A1 rfl hat hq
theorem k8 (dn:DefN K mg "net_of_rows" cH ["wish", "clean", "known"])(B:BI mg)(g_tidied:OkN P w K mg base 4 "tidied" ["net"] (spA K STid))(g_first_joining:OkN P w K mg base 2 "first_joining" ["things", "row", "clean"] (spA K SFj)):OkN P w K mg base 5 "net_of_rows" ["wish", "clean", "known"] (spA K zM):=by
 refine dn.aok2 (k:=4) dB (λj=>j==0||j==1||j==2) [.un,.un,.un] zM rfl (λf cdv A outer s H E hr=>have hu:=cv hr;⟨_,(aw (eO (pv 0) (bC K (n:=2) rfl (aJ (aF (i:=3) dB.nd rfl (by first | exact Or.inl rfl | exact Or.inr rfl)) (aJ (aF (i:=4) dB.nd rfl (by first | exact Or.inl rfl | exact Or.inr rfl)) bB))))
  (aw (j9 (i:=5) ["at", "row"] [2,1,3] dB.nd rfl (by first | exact Or.inl rfl | exact Or.inr rfl) rfl (Blk.of (ar cH) eX) (jc K rfl B.enumerate_ (ah (pv 2) aA)) (λ_ _ _ _ nd=>(bC K (n:=2) rfl (aJ (aF (i:=0) nd rfl (by first | exact Or.inl rfl | exact Or.inr rfl)) (aJ (aF (i:=1) nd rfl (by first | exact Or.inl rfl | exact Or.inr rfl)) bB)))) (λ_ _ _ _=>(dS (bA yS (pv 0) (pv 4) (bR _)))) (λ_ _ _ _=>(bJ g_first_joining (hr.mono (by decide)) (ah (g0 (gP K) (pv 2) jb (ja (pv 0))) (ah (pv 1) (ah (pv 3) aA))))))
  (aH (aZ (bJ g_tidied (hr.mono (by decide)) (ah (cO (ah (pv 3) (ah (cP (dz K) rfl B.tuple_ fO (ah (pv 5) aA)) (ah (cP (dz K) rfl B.tuple_ fO (ah (du ["row"] [2] rfl (Blk.of (ar cH) eX) (bF K (pv 4)) (λ_ _ _ _ nd=>(aF (i:=0) nd rfl (by first | exact Or.inl rfl | exact Or.inr rfl))) (λ_ _ _ _=>cB) (λ_ _ _ _=>(gm K CC Hn PySem.F.type_list_index (wU K) (pv 1) (ah (pv 0) aA)))) aA)) aA)))) aA)))))),(aE (cZ af (a8 (aD (aq rfl) (aD (aq rfl) aW (λ_ _ _=>aN)) (λ_ _ _=>aN))))
  (aE (ir (bU (e6 (aa af aj)) (a8 (aD (aq rfl) (aD (aq rfl) aW (λ_ _ _=>aN)) (λ_ _ _=>aN))) (aV (aG cC af af)) (aM (aa (jX af jW (f_ af)) (aa af (aa af aj))))) rfl)
  (aO (aM (aa (b7 (aa af (aa (bZ d9 (aa af aj)) (aa (bZ d9 (aa (bU (ba af) (aq rfl) bY (yo af (aa af aj))) aj)) aj)))) aj)))))⟩) ?_
 rintro ss q ⟨m,cl,L,W,rfl,hF,hq⟩
 have hFl:=hF.l
 refine⟨rfl,rfl,?_⟩
 refine cutS (λρ=>ρ=[.vl (cb m W),.vl (.bl cl),.vl (.lst (ao L)),nv m,.vl (.tup (ao W)),.un]) (λM hM=>hM _ rfl) ?_
 rintro _ rfl
 refine cutS (λρ=>ρ=[.vl (cb m W),.vl (.bl cl),.vl (.lst (ao L)),nv m,.vl (.tup (ao W)),.ow ((eG m cl L W).js.map L2.bq)]) (λM hM=>?_) ?_
 ·refine⟨by rw[bT,bg];omega,?_⟩
  have ee:dO 0 (ao L)=(wl L.length).map λa=>.tup [nD a,nD (L.getD a 0)]:=by
   have:=lV L (lm _)
   rwa [Cp]at this
  rw[ee]
  refine dP (λa=>.tup [nD a,nD (L.getD a 0)]) (λa=>decide (m<=a)) (λa=>L2.bq (fjN cl (L.take a) (L.getD a 0))) trivial (λa acc N ha hN=>?_) ?_
  ·have go:decide (((m:Nat):Int)<=((a:Nat):Int))=decide (m<=a):=by rw[decide_eq_decide];omega
   show if decide (((m:Nat):Int)<=((a:Nat):Int))=true then _ else _
   rw[go]
   by_cases h:m<=a
   ·rw[if_pos (decide_eq_true h)]
    rw[if_pos (decide_eq_true h)]at hN
    have ec:cutD (ao L) none (some ((a:Nat):Int))=ao (L.take a):=by rw[ft];unfold ao;rw[E2]
    refine⟨rfl,L.take a,L.getD a 0,cl,by rw[<- ec];rfl,by rw[B6];omega,vH (hF.nx a h (Cn.mp ha)),hN⟩
   ·rw[if_neg (by rw[decide_eq_true_eq];exact h)]
    rw[if_neg (by rw[decide_eq_true_eq];exact h)]at hN
    exact hN
  ·rw[rQ,B3]
   have e2:(eG m cl L W).js.map L2.bq=(wl (L.length - m)).map ((λa=>L2.bq (fjN cl (L.take a) (L.getD a 0))) ∘ (m + ·)):=by
    unfold eG
    rw[B3];rfl
   rw[<- e2]
   exact hM _ rfl
 rintro _ rfl
 have hW:=hF.w24
 refine⟨by rw[bg];omega,?_⟩
 refine gH nD (λr=>nD (L.idxOf r)) trivial (λr acc N hr hN=>?_) ?_
 ·have e1:ao L=(L.map λx=>((x:Nat):Int)).map D.int:=by unfold ao;rw[B3];rfl
  have hi:=Fi (hF.w r hr)
  have gi:∀ {q:Nat->Prop},q (L.idxOf r)->gIdx (ao L) ((r:Nat):Int) q:=λ{q} hq=>by
   rw[e1]
   refine zm (j:=L.idxOf r) ?_ (by omega) (λk hk z=>?_) hq
   ·rw[wv,bv hi,Go];rfl
   ·rw[wv,bv (show k<L.length by omega)]at z
    injection z with z
    have z:=HW.mp z
    exact x3 hk (by rw[bv (show k<L.length by omega),z])
  exact gi ⟨rfl,hN⟩
 ·refine⟨show 3<=1000000 by decide,?_⟩
  have eo:(W.map λr=>nD (L.idxOf r))=ao (W.map L.idxOf):=by unfold ao;rw[B3];rfl
  rw[eo]
  exact⟨rfl,eG m cl L W,rfl,oi hF,hq⟩
end
theorem vf {f:Nat->List Nat->List Nat ⊕ D}{sh t:List Nat}:∀ {rest done:List Nat} {acc:List D},goN f sh done rest acc = .inl t->∃r∈rest,∃s,f r s = .inl t
 | [],done,acc,h=>by cases h
 | r::rest,done,acc,h=>by
  unfold goN at h
  cases e:f r (sh++done)with
  | inl u =>
   rw[e]at h
   exact⟨r,B2,_,e.trans h⟩
  | inr p =>
   rw[e]at h
   obtain⟨r',h1,h2⟩:=vf h
   exact⟨r',BV _ h1,h2⟩
theorem ve {f:Nat->List Nat->List Nat ⊕ D}{sh:List Nat}{p:D}:∀ {rest done:List Nat} {acc:List D},goN f sh done rest acc = .inr p->∃ps,p = .tup [.str "next",.tup (acc++ps)]/\ps.length=rest.length/\∀i,i<rest.length->f (rest.getD i 0) (sh++(done++rest.take i)) = .inr (ps.getD i .non)
 | [],done,acc,h=>by
  injection h with h
  exact⟨[],by rw[Cc];exact h.symm,rfl,λi hi=>absurd hi (Hk i)⟩
 | r::rest,done,acc,h=>by
  unfold goN at h
  cases e:f r (sh++done)with
  | inl u=>rw[e]at h;cases h
  | inr d =>
   rw[e]at h
   obtain⟨ps,h1,h2,h3⟩:=ve h
   refine⟨d::ps,by rw[h1,Ck];rfl,by rw[At,h2];rfl,λi hi=>?_⟩
   cases i with
   | zero =>
    show f r (sh++(done++[]))=_
    rw[Cc];exact e
   | succ i =>
    have:=h3 i (by rw[At]at hi;omega)
    rw[Ck]at this
    exact this
theorem y3 {r:Nat}{x:List Nat ⊕ D}{t:List Nat}(h:mkM r x = .inl t):x = .inl t:=by
 cases x with
 | inl u=>exact h
 | inr p=>cases h
theorem y2 {r:Nat}{x:List Nat ⊕ D}{d:D}(h:mkM r x = .inr d):∃p,x = .inr p/\d = .tup [.str "made",nD r,p]:=by
 cases x with
 | inl u=>cases h
 | inr p=>injection h with h;exact⟨p,rfl,h.symm⟩
theorem mO {W K:List Nat}(hw:∀r∈W,1<=r/\r<64):bw W K=[]↔∀r∈W,r∈K:=by
 rw[List.eq_nil_iff_forall_not_mem]
 constructor
 ·intro h r hr
  exact Eo λz=>h r ((eI hw).mpr ⟨hr,z⟩)
 ·intro h r hr
  obtain⟨a,b⟩:=(eI hw).mp hr
  exact b (h r a)
structure Ext (cl:Bool)(kn t:List Nat):Prop where
 nd:(kn++t).Nodup
 nx:∀i,i<t.length->b6 cl (kn++t.take i) (t.getD i 0)=true
theorem Ext.nil {cl:Bool}{kn:List Nat}(h:kn.Nodup):Ext cl kn []:=⟨by rw[Cc];exact h,λi hi=>absurd hi (Hk i)⟩
theorem Ext.cons {cl:Bool}{kn t:List Nat}{r:Nat}(h:b6 cl kn r=true)(e:Ext cl (kn++[r]) t):Ext cl kn (r::t):=by
 refine⟨by have:=e.nd;rwa [Ck]at this,λi hi=>?_⟩
 cases i with
 | zero=>show b6 cl (kn++[]) r=true;rw[Cc];exact h
 | succ i =>
  have:=e.nx i (by rw[At]at hi;omega)
  rw[Ck]at this
  exact this
theorem Ext.uncons {cl:Bool}{kn t:List Nat}{r:Nat}(e:Ext cl kn (r::t)):b6 cl kn r=true/\r∉kn/\Ext cl (kn++[r]) t:=by
 have h0:=e.nx 0 (by simp)
 rw[JP,Cc]at h0
 have nd:=e.nd
 refine⟨h0,λz=>?_,?_,λi hi=>?_⟩
 ·exact(C_.mp nd).2.2 r z r B2 rfl
 ·rwa [Ck]
 ·have:=e.nx (i+1) (by rw[At];omega)
  rw[Ck]
  exact this
theorem mr {kn:List Nat}{r:Nat}(hk:∀r∈kn,1<=r/\r<64)(h:1<=r/\r<64):∀x∈kn++[r],1<=x/\x<64:=λx hx=>(xL.mp hx).elim (hk x) λz=>by rw[sn.mp z];exact h
theorem uh {kn:List Nat}{r:Nat}(nd:kn.Nodup)(h:r∉kn):(kn++[r]).Nodup:=C_.mpr ⟨nd,by simp,λa ha b hb e=>h (by rw[sn.mp hb]at e;exact e▸ha)⟩
theorem uc {W:List Nat}{cl:Bool}(hw:∀r∈W,1<=r/\r<64):∀ {lf:Nat} {kn sh L:List Nat},(∀r∈kn,1<=r/\r<64)->kn.Nodup->srN W cl lf kn sh = .inl L->∃t,L=kn++t/\t.length<=lf/\Ext cl kn t/\∀r∈W,r∈L
 | 0,kn,sh,L,hk,nd,h=>by
  unfold srN at h
  split at h
  ·rename_i h0
   injection h with h
   subst h
   exact⟨[],(Cc _).symm,lm _,.nil nd,(mO hw).mp h0⟩
  ·cases h
 | l+1,kn,sh,L,hk,nd,h=>by
  have step:∀r s,b6 cl kn r=true->r∉kn->srN W cl l (kn++[r]) s = .inl L->∃t,L=kn++t/\t.length<=l+1/\Ext cl kn t/\∀r∈W,r∈L:=λr s h1 h2 h3=>by
   obtain⟨t,e,hl,ex,hW⟩:=uc hw (mr hk (eF hk h1)) (uh nd h2) h3
   exact⟨r::t,by rw[e,Ck];rfl,by rw[At];omega,ex.cons h1,hW⟩
  unfold srN at h
  split at h
  ·rename_i h0
   injection h with h
   subst h
   exact⟨[],(Cc _).symm,B0 _,.nil nd,(mO hw).mp h0⟩
  split at h
  ·cases h
  split at h
  ·cases h
  split at h
  ·rename_i r e
   have hr:=G_ e
   have hr:=(cE hk).mp (sB.mp hr)
   exact step r sh hr.1 hr.2.1 (y3 h)
  ·obtain⟨r,hr,s,e⟩:=vf h
   have hr:=(cE hk).mp hr
   exact step r s hr.1 hr.2.1 e
theorem nG {W:List Nat}{cl:Bool}:∀ {lf:Nat} {kn sh:List Nat} {p:D},(∀r∈kn,1<=r/\r<64)->srN W cl lf kn sh = .inr p->Pap W cl lf kn sh p
 | 0,kn,sh,p,hk,h=>by
  unfold srN at h
  split at h
  ·cases h
  ·rename_i h0
   injection h with h
   unfold Pap
   exact .inl ⟨h.symm,Fe.mpr h0⟩
 | l+1,kn,sh,p,hk,h=>by
  unfold srN at h
  unfold Pap
  split at h
  ·cases h
  rename_i h0
  split at h
  ·rename_i h1
   injection h with h
   exact .inl ⟨h.symm,h1⟩
  split at h
  ·rename_i r e
   injection h with h
   exact .inr (.inl ⟨r,h.symm,HB e,G_ (p:=λr=>farN cl kn (l+1) r) e⟩)
  split at h
  ·rename_i r e
   have hr:=sB.mp (G_ e)
   have hf:=(cE hk).mp hr
   obtain⟨d,e1,rfl⟩:=y2 h
   exact .inr (.inr (.inl ⟨r,d,rfl,HB e,hr,nG (mr hk (eF hk hf.1)) e1⟩))
  ·obtain⟨ps,rfl,h2,h3⟩:=ve h
   refine .inr (.inr (.inr ⟨ps,rfl,h0,h2,λi hi=>?_⟩))
   have hr:(bS cl kn sh).getD i 0∈bS cl kn sh:=d4 (by omega)
   have hf:=(cE hk).mp hr
   exact nG (mr hk (eF hk hf.1)) (h3 i (by omega))
theorem kA {cl:Bool}{K K':List Nat}{r:Nat}(h:∀x∈K,x∈K')(n:b6 cl K r=true):b6 cl K' r=true:=by
 obtain⟨a,ha,b,hb,z⟩:=cD.mp n
 exact cD.mpr ⟨a,h a ha,b,h b hb,z⟩
theorem Ext.perm {cl:Bool}{kn kn' t:List Nat}(p:kn.Perm kn')(e:Ext cl kn t):Ext cl kn' t :=
 ⟨(p.append_right t).nodup_iff.mp e.nd,λi hi=>kA (λx hx=>(p.append_right _).mem_iff.mp hx) (e.nx i hi)⟩
theorem Ext.front {cl:Bool}{r:Nat}:∀ {t kn:List Nat},Ext cl kn t->r∈t->b6 cl kn r=true->Ext cl (kn++[r]) (t.erase r)
 | [],kn,e,h,n=>by cases h
 | x::t,kn,e,h,n=>by
  obtain⟨h1,h2,h3⟩:=e.uncons
  by_cases hx:x=r
  ·subst hx
   rw[List.erase_cons_head];exact h3
  ·rw[List.erase_cons_tail (by simpa using hx)]
   have hr:r∈t:=(sK.mp h).resolve_left λz=>hx z.symm
   have:=Ext.front h3 hr (kA (λx hx=>BW _ hx) n)
   refine Ext.cons (kA (λx hx=>BW _ hx) h1) (this.perm ?_)
   rw[Ck,Ck]
   exact Hv kn (List.Perm.swap r x [])
def xorL (l:List Nat):Nat:=l.foldr (· ^^^ ·) 0
structure Lst (cl:Bool)(K l:List Nat)(x:Nat):Prop where
 k:∀p∈l,p∈K
 d:cl=true->l.Pairwise λa b=>a &&& b=0
 x:xorL l=x
theorem fR {a b:Nat}:a &&& b=0↔∀i,a.testBit i=true->b.testBit i=false:=by
 constructor
 ·intro h i ha
  have:=congrArg (λz=>z.testBit i) h
  simp only[Fb,G5,ha,DD]at this
  exact this
 ·intro h
  apply F_
  intro i
  rw[Fb,G5]
  cases ha:a.testBit i with
  | false=>rfl
  | true=>rw[h i ha];rfl
theorem qO {p:Nat}:∀ {l:List Nat},(∀q∈l,q &&& p=0)->xorL l &&& p=0
 | [],_=>Nat.zero_and p
 | q::l,h=>by
  have h1:=fR.mp (h q B2)
  have h2:=fR.mp (qO (p:=p) λq hq=>h q (BV _ hq))
  refine fR.mpr λi hi=>?_
  show p.testBit i=false
  have hi:(q ^^^ xorL l).testBit i=true:=hi
  rw[EG]at hi
  cases hq:q.testBit i with
  | true=>exact h1 i hq
  | false=>rw[hq,Bool.false_xor]at hi;exact h2 i hi
theorem uT {cl:Bool}{K:List Nat}:∀ {l:List Nat} {x:Nat},Lst cl K l x->Rch cl K l.length x
 | [],x,L=>by rw[<- L.x];exact .nil
 | p::l,x,L=>by
  have ih:Rch cl K l.length (xorL l):=uT ⟨λq hq=>L.k q (BV _ hq),λhc=>(Dz.mp (L.d hc)).2,rfl⟩
  have hx:x=xorL l ^^^ p:=by
   rw[<- L.x,D3];rfl
  rw[hx]
  refine .add ih (L.k p B2) ?_
  unfold mayN
  cases cl with
  | false=>rfl
  | true =>
   have:=qO (p:=p) λq hq=>by rw[GU];exact(Dz.mp (L.d rfl)).1 q hq
   simp[this]
theorem qN {r:Nat}:∀l:List Nat,∃b:Bool,xorL l=xorL (l.filter (· != r)) ^^^ (if b=true then r else 0)/\(b=true->r∈l/\(l.filter (· != r)).length+1<=l.length)
 | []=>⟨false,by simp[xorL],λh=>by cases h⟩
 | y::l=>by
  obtain⟨b,h1,h2⟩:=qN (r:=r) l
  by_cases e:y=r
  ·subst e
   refine⟨!b,?_,λ_=>⟨B2,?_⟩⟩
   ·rw[FK (by simp)]
    show y ^^^ xorL l=_
    rw[h1]
    cases b with
    | false =>
     simp only[JR,if_true]
     rw[if_neg (by decide),Fp,D3]
    | true =>
     simp only[J5,if_true]
     rw[if_neg (by decide),Fp,D3,ED,Fq,Fp]
   ·rw[FK (by simp),At]
    have:=CD (· != y) l
    omega
  ·refine⟨b,?_,λhb=>⟨BV _ (h2 hb).1,?_⟩⟩
   ·rw[FJ (by simpa using e)]
    show y ^^^ xorL l=(y ^^^ xorL _) ^^^ _
    rw[h1,ED]
   ·rw[FJ (by simpa using e),At,At]
    have:=(h2 hb).2
    omega
theorem Bs {l:List Nat}(h:l.Pairwise λa b=>a &&& b=0){a b:Nat}(ha:a∈l)(hb:b∈l)(ne:a≠b):a &&& b=0:=by
 obtain⟨i,hi,rfl⟩:=C1 ha
 obtain⟨j,hj,rfl⟩:=C1 hb
 rcases Dp i j with q | q | q
 ·exact Dw.mp h i j hi hj q
 ·subst q;exact absurd rfl ne
 ·rw[GU];exact Dw.mp h j i hj hi q
theorem vw {cl:Bool}:∀ {t kn:List Nat} {x:Nat},Ext cl kn t->x∈kn++t->∃l,l.length<=t.length+1/\Lst cl kn l x
 | [],kn,x,e,hx=>by
  rw[Cc]at hx
  exact⟨[x],lm _,⟨λp hp=>(by rw[sn.mp hp];exact hx),λ_=>(by simp),(by simp[xorL])⟩⟩
 | r::t,kn,x,e,hx=>by
  obtain⟨h1,h2,h3⟩:=e.uncons
  obtain⟨l,hl,L⟩:=vw (x:=x) h3 (by rwa [Ck])
  obtain⟨a,ha,b,hb,ne,hm,hr⟩:=cD.mp h1
  obtain⟨o,ho,hz⟩:=qN (r:=r) l
  have hk:∀p∈l.filter (· != r),p∈kn:=λp hp=>by
   obtain⟨p1,p2⟩:=AC.mp hp
   rcases xL.mp (L.k p p1)with q | q
   ·exact q
   ·rw[sn.mp q]at p2
    simp at p2
  have hd:cl=true->(l.filter (· != r)).Pairwise λa b=>a &&& b=0:=λhc=>(L.d hc).filter _
  have hle:=CD (· != r) l
  cases o with
  | false =>
   refine⟨_,?_,⟨hk,hd,?_⟩⟩
   ·rw[At];omega
   ·rw[<- L.x,ho,if_neg (by decide),Fp]
  | true =>
   obtain⟨z1,z2⟩:=hz rfl
   refine⟨a::b::l.filter (· != r),?_,⟨λp hp=>?_,λhc=>?_,?_⟩⟩
   ·rw[At,At,At];omega
   ·rcases sK.mp hp with rfl | hp
    ·exact ha
    rcases sK.mp hp with rfl | hp
    ·exact hb
    ·exact hk p hp
   ·have hab:a &&& b=0:=by
     unfold mayN at hm
     rw[hc]at hm
     simpa using hm
    have hab':=fR.mp hab
    have hq:∀q∈l.filter (· != r),a &&& q=0/\b &&& q=0:=λq hq=>by
     obtain⟨q1,q2⟩:=AC.mp hq
     have:=fR.mp (Bs (L.d hc) z1 q1 λz=>by rw[<- z]at q2;simp at q2)
     rw[<- hr]at this
     refine⟨fR.mpr λi hi=>this i ?_,fR.mpr λi hi=>this i ?_⟩
     ·rw[EG,hi,hab' i hi];rfl
     ·rw[EG,hi]
      cases z:a.testBit i with
      | false=>rfl
      | true=>rw[hab' i z]at hi;cases hi
    refine Dz.mpr ⟨λq hq'=>?_,Dz.mpr ⟨λq hq'=>(hq q hq').2,hd hc⟩⟩
    rcases sK.mp hq' with rfl | hq'
    ·exact hab
    ·exact(hq q hq').1
   ·show a ^^^ (b ^^^ xorL _)=x
    rw[<- L.x,ho,if_pos rfl,<- ED,hr,D3]
theorem x9 {cl:Bool}{t kn:List Nat}{r l:Nat}(e:Ext cl kn t)(hl:t.length<=l)(hr:r∈kn++t):farN cl kn l r=false:=by
 obtain⟨s,hs,L⟩:=vw e hr
 refine BF rR λh=>h ⟨s.length,by omega,uT L⟩
theorem nP {W:List Nat}{cl:Bool}(hw:∀r∈W,1<=r/\r<64):∀ {lf:Nat} {kn sh:List Nat} {p:D} {t:List Nat},(∀r∈kn,1<=r/\r<64)->Pap W cl lf kn sh p->Ext cl kn t->t.length<=lf->(∀x∈t,x∉sh)->(∀r∈W,r∈kn++t)->False:=by
 have rows:∀ {lf:Nat} {kn t:List Nat},lf<(bw W kn).length->t.length<=lf->(∀r∈W,r∈kn++t)->False:=λ{lf kn t} h1 h2 h3=>by
  have:=Cj ((w4 W kn).imp λh=>by omega) (l₂:=t) λx hx=>by
   obtain⟨a,b⟩:=(eI hw).mp hx
   exact(xL.mp (h3 x a)).resolve_left b
  omega
 intro lf
 induction lf with
 | zero =>
  intro kn sh p t hk hp e hl hs hW
  unfold Pap at hp
  rcases hp with⟨_,h⟩ | ⟨r,_,h1,h2⟩
  ·exact rows h hl hW
  ·have:=x9 e hl (hW r ((eI hw).mp h1).1)
   rw[h2]at this;cases this
 | succ l ih =>
  intro kn sh p t hk hp e hl hs hW
  have go:∀ {r:Nat} {sh':List Nat} {p':D},b6 cl kn r=true->r∈t->Pap W cl l (kn++[r]) sh' p'->(∀x∈t.erase r,x∉sh')->False:=λ{r sh' p'} h1 h2 h3 h4=>by
   refine ih (mr hk (eF hk h1)) h3 (e.front h2 h1) ?_ h4 λx hx=>?_
   ·rw[HP h2];omega
   ·rw[Ck]
    rcases xL.mp (hW x hx)with q | q
    ·exact BW _ q
    ·exact im _ ((IA h2).mem_iff.mp q)
  unfold Pap at hp
  rcases hp with⟨_,h⟩ | ⟨r,_,h1,h2⟩ | ⟨r,p',_,h1,h2,h3⟩ | ⟨ps,_,h0,h1,h2⟩
  ·exact rows h hl hW
  ·have:=x9 e hl (hW r ((eI hw).mp h1).1)
   rw[h2]at this;cases this
  ·obtain⟨a,b⟩:=(eI hw).mp h1
   exact go ((cE hk).mp h2).1 ((xL.mp (hW r a)).resolve_left b) h3 λx hx=>hs x (Iw hx)
  ·-- the smallest of the free rows that comes
   have ht:∃x∈t,x∈bS cl kn sh:=by
    cases t with
    | nil =>
     exfalso
     refine h0 ((mO hw).mpr λr hr=>?_)
     have:=hW r hr
     rwa [Cc]at this
    | cons x t =>
     obtain⟨z1,z2,_⟩:=e.uncons
     exact⟨x,B2,(cE hk).mpr ⟨z1,z2,hs x B2⟩⟩
   have first:∀n,n<=(bS cl kn sh).length->(∃x∈t,x∈(bS cl kn sh).take n)->∃i,i<n/\(bS cl kn sh).getD i 0∈t/\∀x∈(bS cl kn sh).take i,x∉t:=by
    intro n
    induction n with
    | zero=>rintro _ ⟨x,_,h⟩;rw[JP]at h;cases h
    | succ n ihn =>
     rintro hn ⟨x,hx,h⟩
     by_cases z:∃x∈t,x∈(bS cl kn sh).take n
     ·obtain⟨i,hi,hr⟩:=ihn (by omega) z
      exact⟨i,by omega,hr⟩
     ·obtain⟨j,hj1,hj2,rfl⟩:=dX.mp h
      have:j=n:=by
       rcases B7 j n with q | q
       ·exact absurd ⟨_,hx,dX.mpr ⟨j,q,hj2,rfl⟩⟩ z
       ·omega
      subst this
      exact⟨j,by omega,hx,λy hy hy'=>z ⟨y,hy',hy⟩⟩
   obtain⟨i,hi,hit,hno⟩:=first _ (lm _) (by obtain⟨x,a,b⟩:=ht;exact⟨x,a,by rw[Cp];exact b⟩)
   have hf:=(cE hk).mp (d4 hi)
   refine go hf.1 hit (h2 i (by omega)) λx hx hx'=>?_
   have hxt:=Iw hx
   rcases xL.mp hx' with q | q
   ·exact hs x hxt q
   ·exact hno x q hxt
structure eU (m:Nat)(W:List Nat):Prop where
 m1:1<=m
 m6:m<=6
 w1:1<=W.length
 w24:W.length<=24
 w:∀r∈W,1<=r/\r<64
noncomputable def qT (m:Nat)(W:List Nat)(cl:Bool)(n:Nat):D:=match srN W cl n (az m) []with
 | .inl L=>.tup [.bl true,netD (tidN (eG m cl L W))]
 | .inr p=>.tup [.bl false,p]
def gA (m n:Nat):Bool:=decide (m<=6)&&decide (n<=if m<=4 then 11 else 3)
def nA:ASp:=λss q=>∃(m n:Nat),ss=[nv m,nv n]/\q (.d (.bl (gA m n))) [nv m,nv n]
def rZ:ASp:=λss q=>∃(m:Nat) (W:List Nat) (cl:Bool) (n:Nat),ss=[.vl (cb m W),.vl (.bl cl),nv n]/\eU m W/\gA m n=true/\q (.d (qT m W cl n)) [.vl (cb m W),.vl (.bl cl),nv n]
theorem iG {m:Nat}(h:m<=6):∀r∈az m,1<=r/\r<64:=λr hr=>by
 obtain⟨k,hk,rfl⟩:=Ch.mp hr
 have hk:=Cn.mp hk
 rw[GR]
 have h1:=Nat.one_le_two_pow (n:=k)
 have h2:2^k<=2^5:=F8 (by decide) (by omega)
 omega
theorem nQ (m:Nat):(az m).Nodup:=by
 unfold az
 rw[Hs,GH]
 refine List.nodup_range.imp λ{a b} h e=>h ?_
 rw[GR,GR]at e
 rcases Dp a b with q | q | q
 ·have:=IJ (a:=2) (by decide) q;omega
 ·exact q
 ·have:=IJ (a:=2) (by decide) q;omega
theorem wb {m n:Nat}(h:gA m n=true):n<=11:=by
 unfold gA at h
 rw[BX,decide_eq_true_eq,decide_eq_true_eq]at h
 have:=h.2
 split at this <;> omega
theorem xm {m n:Nat}{W:List Nat}{cl:Bool}(h:eU m W)(hn:n<=11):CsOk ⟨W,cl,az m,[],n⟩ :=
 ⟨h.w24,h.w,iG h.m6,nQ m,by show 0+64*n<=704;omega,λx hx=>(by cases hx),hn⟩
theorem x8 {m n:Nat}{W L:List Nat}{cl:Bool}(h:eU m W)(hn:n<=11)(e:srN W cl n (az m) [] = .inl L):Fnd m cl L W/\L.length<=m+n:=by
 obtain⟨t,rfl,hl,ex,hW⟩:=uc h.w (iG h.m6) (nQ m) e
 have h6:=h.m6
 have lo:=cf m
 refine⟨⟨h.m1,by omega,?_,h.w1,h.w24,hW,?_,?_,ex.nd,λi h1 h2=>?_⟩,?_⟩
 ·rw[wP];omega
 ·rw[wP];omega
 ·rw[E4 (by omega),CS (by omega)]
 ·have:=ex.nx (i - m) (by rw[wP]at h2;omega)
  have e1:(az m++t).take i=az m++t.take (i - m):=by
   rw[List.take_append,lo,CS (by omega)]
  have e2:(az m++t).getD i 0=t.getD (i - m) 0:=by
   rw[ga,Ci (by omega),lo,<- ga]
  rw[e1,e2];exact this
 ·rw[wP];omega
section
variable {P:wS}{w:B_}{K:bi}{mg:Str->Option bn}{base:Heap}
theorem p4 (dn:DefN K mg "is_tried" gY ["many", "count"])(B:BI mg)(c_FEW_GIVENS_COUNT:∃u,mg "FEW_GIVENS_COUNT" = some u/\RelV (.int 11) u)(c_MORE_GIVENS_COUNT:∃u,mg "MORE_GIVENS_COUNT" = some u/\RelV (.int 3) u)(c_FEW_GIVENS:∃u,mg "FEW_GIVENS" = some u/\RelV (.int 4) u)(c_MORE_GIVENS:∃u,mg "MORE_GIVENS" = some u/\RelV (.int 6) u):OkN P w K mg base 1 "is_tried" ["many", "count"] (spA K nA):=by
 refine dn.aok2 (k:=0) j5 (λj=>j==0||j==1) [.un] nA rfl (λf cdv A outer s H E hr=>have hu:=cv hr;⟨_,(aw (bp (i:=2) j5.nd rfl (by first | exact Or.inl rfl | exact Or.inr rfl) (wD (bA mH (pv 0) (nO c_FEW_GIVENS rfl) (bR _)) (nO c_FEW_GIVENS_COUNT rfl) (nO c_MORE_GIVENS_COUNT rfl)))
  (aH (aZ (gp (eE mH (pv 0) (nO c_MORE_GIVENS rfl) (bR _)) (ju (mG mH mH aL (pv 1) (pv 2))))))),(aE (a_ (zX (aV (aG cC af aI)) aI aI) rfl)
  (aO (cY (aG cC af aI) (j0 cC cC aI af af))))⟩) ?_
 rintro ss q ⟨m,n,rfl,hq⟩
 refine⟨rfl,rfl,?_⟩
 refine cutS (λρ=>ρ=[nv m,nv n,nv (if m<=4 then 11 else 3)]) (λM hM=>?_) ?_
 ·have go:decide (((m:Nat):Int)<=4)=decide (m<=4):=by rw[decide_eq_decide];omega
  show if decide (((m:Nat):Int)<=4)=true then _ else _
  rw[go]
  by_cases h:m<=4
  ·rw[if_pos (decide_eq_true h)]
   exact hM _ (by rw[if_pos h];rfl)
  ·rw[if_neg (by rw[decide_eq_true_eq];exact h)]
   exact hM _ (by rw[if_neg h];rfl)
 rintro _ rfl
 generalize hk:(if m<=4 then 11 else 3)=k
 have ek:gA m n=(decide (m<=6)&&decide (n<=k)):=by unfold gA;rw[hk]
 rw[ek]at hq
 have go:decide (((m:Nat):Int)<=6)=decide (m<=6):=by rw[decide_eq_decide];omega
 show if decide (((m:Nat):Int)<=6)=true then _ else _
 rw[go]
 by_cases h:m<=6
 ·rw[if_pos (decide_eq_true h)]
  rw[decide_eq_true h,DD]at hq
  show if decide ((0:Int)<=((n:Nat):Int))=true then q (.d (.bl (decide (((n:Nat):Int)<=((k:Nat):Int))))) [nv m,nv n]else q (.d (.bl false)) [nv m,nv n]
  rw[if_pos (by rw[decide_eq_true_eq];omega)]
  have gk:decide (((n:Nat):Int)<=((k:Nat):Int))=decide (n<=k):=by rw[decide_eq_decide];omega
  rw[gk]
  exact hq
 ·rw[if_neg (by rw[decide_eq_true_eq];exact h)]
  rw[decide_eq_false h,D8]at hq
  exact hq
theorem wL (dn:DefN K mg "tried" mx ["wish", "clean", "count"])(B:BI mg)(g_searched:OkN P w K mg base 30 "searched" ["cases"] (spA K ((SSr C_Cases) 13)))(g_is_tried:OkN P w K mg base 1 "is_tried" ["many", "count"] (spA K nA))(g_first_cases:OkN P w K mg base 3 "first_cases" ["wish", "clean", "count"] (spA K (vU C_Cases)))(g_net_of_rows:OkN P w K mg base 5 "net_of_rows" ["wish", "clean", "known"] (spA K zM)):OkN P w K mg base 31 "tried" ["wish", "clean", "count"] (spA K rZ):=by
 refine dn.aok2 (k:=30) iu (λj=>j==0||j==1||j==2) [.un,.un,.un,.un] rZ rfl (λf cdv A outer s H E hr=>have hu:=cv hr;⟨_,(aw (eO (pv 0) (bC K (n:=2) rfl (aJ (aF (i:=3) iu.nd rfl (by first | exact Or.inl rfl | exact Or.inr rfl)) (aJ (aF (i:=4) iu.nd rfl (by first | exact Or.inl rfl | exact Or.inr rfl)) bB))))
  (aw (dH (gj (eM (bJ g_is_tried (hr.mono (by decide)) (ah (pv 3) (ah (pv 2) aA)))))
  (aH rA)
  bE)
  (aw (eO (bJ g_searched (hr.mono (by decide)) (ah (bJ g_first_cases (hr.mono (by decide)) (ah (pv 0) (ah (pv 1) (ah (pv 2) aA)))) aA)) (bC K (n:=2) rfl (aJ (aF (i:=5) iu.nd rfl (by first | exact Or.inl rfl | exact Or.inr rfl)) (aJ (aF (i:=6) iu.nd rfl (by first | exact Or.inl rfl | exact Or.inr rfl)) bB))))
  (aw (dH (eB K (pv 5) (λ_=>rfl))
  (aH (aZ (cO (ah dw (ah (bJ g_net_of_rows (hr.mono (by decide)) (ah (pv 0) (ah (pv 1) (ah (pv 6) aA)))) aA)))))
  bE)
  (aH (aZ (cO (ah dw (ah (pv 6) aA))))))))),(aE (cZ af (a8 (aD (aq rfl) (aD (aq rfl) aW (λ_ _ _=>aN)) (λ_ _ _=>aN))))
  (aE (cw (cX (d_ (aM (aa af (aa af aj)))))
  nJ
  bj)
  (aE (cZ (aM (aa (aM (aa af (aa af (aa af aj)))) aj)) (a8 (aD (aq rfl) (aD (aq rfl) aW (λ_ _ _=>aN)) (λ_ _ _=>aN))))
  (aE (cw (fu af)
  (aO (b7 (aa cc (aa (aM (aa af (aa af (aa af aj)))) aj))))
  bj)
  (aO (b7 (aa cc (aa af aj))))))))⟩) ?_
 rintro ss q ⟨m,W,cl,n,rfl,hW,ht,hq⟩
 have h11:=wb ht
 have l2:(2:Nat)<=1000000:=by decide
 have hm6:=hW.m6
 refine⟨rfl,rfl,?_⟩
 refine cutS (λρ=>ρ=[.vl (cb m W),.vl (.bl cl),nv n,nv m,.vl (.tup (ao W)),.un,.un]) (λM hM=>hM _ rfl) ?_
 rintro _ rfl
 refine cutS (λρ=>ρ=[.vl (cb m W),.vl (.bl cl),nv n,nv m,.vl (.tup (ao W)),.un,.un]) (λM hM=>⟨rfl,m,n,rfl,?_⟩) ?_
 ·rw[ht]
  exact hM _ rfl
 rintro _ rfl
 refine cutS (λρ=>ρ=[.vl (cb m W),.vl (.bl cl),nv n,nv m,.vl (.tup (ao W)),.vl (.bl (srN W cl n (az m) []).isLeft),.vl (pw (srN W cl n (az m) []))]) (λM hM=>⟨rfl,m,W,cl,n,rfl,by omega,?_⟩) ?_
 ·refine⟨rfl,⟨W,cl,az m,[],n⟩,rfl,xm hW h11,by show n<=12;omega,?_⟩
  rw[pN]
  exact hM _ rfl
 rintro _ rfl
 unfold qT at hq
 cases e:srN W cl n (az m) []with
 | inl L =>
  rw[e]at hq
  obtain⟨F,_⟩:=x8 hW h11 e
  refine⟨rfl,m,cl,L,W,rfl,F,?_⟩
  refine⟨l2,?_⟩
  exact hq
 | inr p =>
  rw[e]at hq
  refine⟨l2,?_⟩
  exact hq
end
def lsN (f:Nat->Bool):Nat->Nat->Nat
 | 0,k=>k
 | j+1,k=>if f k=true then k else lsN f j (k+1)
theorem Av {f:Nat->Bool}:∀ {j k i:Nat},k<=i->i<lsN f j k->f i=false
 | 0,k,i,h1,h2=>by unfold lsN at h2;omega
 | j+1,k,i,h1,h2=>by
  unfold lsN at h2
  split at h2
  ·omega
  ·rename_i h
   by_cases e:i=k
   ·rw[e];exact D1.mpr h
   ·exact Av (j:=j) (k:=k+1) (by omega) h2
theorem Aw {f:Nat->Bool}{n:Nat}(hf:f n=true):∀ {j k:Nat},k<=n->lsN f j k<=n
 | 0,k,h=>h
 | j+1,k,h=>by
  unfold lsN
  split
  ·exact h
  ·rename_i z
   exact Aw hf (Nat.lt_of_le_of_ne h λe=>z (e▸hf))
theorem Ax {f:Nat->Bool}{n:Nat}(hf:f n=true):∀ {j k:Nat},k<=n->n<k+j->f (lsN f j k)=true
 | 0,k,h1,h2=>by omega
 | j+1,k,h1,h2=>by
  unfold lsN
  split
  ·assumption
  ·rename_i z
   have:k≠n:=λe=>z (e▸hf)
   exact Ax hf (by omega) (by omega)
def sA (m:Nat):List Nat:=(wl (2^m)).filter λr=>decide (r≠0) && !(az m).contains r
theorem wx:∀m,m<5->∀cl:Bool,(az m++sA m).Nodup/\(sA m).length<=11/\∀i,i<(sA m).length->b6 cl (az m++(sA m).take i) ((sA m).getD i 0)=true:=by decide +kernel
theorem ends {m:Nat}{W:List Nat}(h:eU m W)(h4:m<=4)(hr:∀r∈W,r<2^m)(cl:Bool):∃L,srN W cl 11 (az m) [] = .inl L:=by
 cases e:srN W cl 11 (az m) []with
 | inl L=>exact⟨L,rfl⟩
 | inr p =>
  exfalso
  obtain⟨a,b,c⟩:=wx m (by omega) cl
  refine nP h.w (iG h.m6) (nG (iG h.m6) e) (t:=sA m) ⟨a,c⟩ b (λx _=>by simp) λr hW=>?_
  by_cases z:r∈az m
  ·exact BW _ z
  ·refine im _ (AC.mpr ⟨Cn.mpr (hr r hW),?_⟩)
   have:=h.w r hW
   rw[BX,decide_eq_true_eq,C3,<- C0,sB]
   exact⟨by omega,z⟩
noncomputable def cj (m:Nat)(W:List Nat)(cl:Bool):Nat:=lsN (λn=>(srN W cl n (az m) []).isLeft) 12 0
theorem mM {m:Nat}{W:List Nat}(h:eU m W)(h4:m<=4)(hr:∀r∈W,r<2^m)(cl:Bool):cj m W cl<=11:=by
 obtain⟨L,e⟩:=ends h h4 hr cl
 exact Aw (by rw[e];rfl) (by decide)
theorem mN {m:Nat}{W:List Nat}(h:eU m W)(h4:m<=4)(hr:∀r∈W,r<2^m)(cl:Bool):∃L,srN W cl (cj m W cl) (az m) [] = .inl L:=by
 obtain⟨L,e⟩:=ends h h4 hr cl
 have:=Ax (f:=λn=>(srN W cl n (az m) []).isLeft) (n:=11) (by rw[e];rfl) (j:=12) (k:=0) (by decide) (by decide)
 have:(srN W cl (cj m W cl) (az m) []).isLeft=true:=this
 cases e:srN W cl (cj m W cl) (az m) []with
 | inl L=>exact⟨L,rfl⟩
 | inr p=>rw[e]at this;cases this
theorem mL {m n:Nat}{W:List Nat}{cl:Bool}(h:n<cj m W cl):∃p,srN W cl n (az m) [] = .inr p:=by
 have:(srN W cl n (az m) []).isLeft=false:=Av (B0 n) h
 cases e:srN W cl n (az m) []with
 | inl L=>rw[e]at this;cases this
 | inr p=>exact⟨p,rfl⟩
noncomputable def papD (m:Nat)(W:List Nat)(cl:Bool):Nat->D
 | 0=>.non
 | n+1=>pw (srN W cl n (az m) [])
noncomputable def tolD (m:Nat)(W:List Nat)(cl:Bool)(n:Nat):D:=match srN W cl n (az m) []with
 | .inl L=>netD (tidN (eG m cl L W))
 | .inr p=>p
theorem tJ (m:Nat)(W:List Nat)(cl:Bool)(n:Nat):qT m W cl n = .tup [.bl (srN W cl n (az m) []).isLeft,tolD m W cl n]:=by
 unfold qT tolD
 cases srN W cl n (az m) [] <;> rfl
noncomputable def AB (m:Nat)(W:List Nat)(cl:Bool):D:=.tup [tolD m W cl (cj m W cl),papD m W cl (cj m W cl)]
def vQ:ASp:=λss q=>∃(m:Nat) (W:List Nat) (cl:Bool),ss=[.vl (cb m W),.vl (.bl cl)]/\eU m W/\m<=4/\(∀r∈W,r<2^m)/\q (.d (AB m W cl)) [.vl (cb m W),.vl (.bl cl)]
theorem try4 {m n:Nat}(h4:m<=4)(hn:n<=11):gA m n=true:=by
 unfold gA
 rw[if_pos h4,BX,decide_eq_true_eq,decide_eq_true_eq]
 omega
theorem Ar {i:Nat}{ρ:En}{A B:En->Prop}(h:gt ρ i = .vl (.bl false))(a:A ρ):aNot (aTru (aVar i)) ρ λk ρ1=>if k=true then A ρ1 else B ρ1:=by
 unfold aNot aTru aVar
 rw[h]
 exact a
section
variable {P:wS}{w:B_}{K:bi}{mg:Str->Option bn}{base:Heap}
theorem wM (dn:DefN K mg "least" my ["wish", "clean"])(B:BI mg)(g_tried:OkN P w K mg base 31 "tried" ["wish", "clean", "count"] (spA K rZ))(c_FEW_GIVENS:∃u,mg "FEW_GIVENS" = some u/\RelV (.int 4) u):OkN P w K mg base 32 "least" ["wish", "clean"] (spA K vQ):=by
 refine dn.aok2 (k:=31) dY (λj=>j==0||j==1) [.un,.un,.un,.un] vQ rfl (λf cdv A outer s H E hr=>have hu:=cv hr;⟨_,(aw (dH (bA sE (b9 (aU K) (pv 0) aL (λ_ _=>rfl)) (nO c_FEW_GIVENS rfl) (bR _))
  (aH rA)
  bE)
  (aw (bp (i:=2) dY.nd rfl (by first | exact Or.inl rfl | exact Or.inr rfl) aL)
  (aw (bp (i:=3) dY.nd rfl (by first | exact Or.inl rfl | exact Or.inr rfl) xV)
  (aw (eO (bJ g_tried (hr.mono (by decide)) (ah (pv 0) (ah (pv 1) (ah (pv 2) aA)))) (bC K (n:=2) rfl (aJ (aF (i:=4) dY.nd rfl (by first | exact Or.inl rfl | exact Or.inr rfl)) (aJ (aF (i:=5) dY.nd rfl (by first | exact Or.inl rfl | exact Or.inr rfl)) bB))))
  (aw (mE Cz (gj (eB K (pv 4) (λ_=>rfl)))
  (aw (xT (i:=2) dY.nd rfl (by first | exact Or.inl rfl | exact Or.inr rfl) aL x2)
  (aw (bp (i:=3) dY.nd rfl (by first | exact Or.inl rfl | exact Or.inr rfl) (pv 5))
  (aH (eO (bJ g_tried (hr.mono (by decide)) (ah (pv 0) (ah (pv 1) (ah (pv 2) aA)))) (bC K (n:=2) rfl (aJ (aF (i:=4) dY.nd rfl (by first | exact Or.inl rfl | exact Or.inr rfl)) (aJ (aF (i:=5) dY.nd rfl (by first | exact Or.inl rfl | exact Or.inr rfl)) bB))))))))
  (aH (aZ (cO (ah (pv 5) (ah (pv 3) aA)))))))))),(aE (cw (aV (aG cC (aG bf af aI) aI))
  nJ
  bj)
  (aE (a_ aI rfl)
  (aE (a_ tL rfl)
  (aE (cZ (aM (aa af (aa af (aa af aj)))) (a8 (aD (aq rfl) (aD (aq rfl) aW (λ_ _ _=>aN)) (λ_ _ _=>aN))))
  (aE (j2 (cX (fu af))
  (aE (ug aI rfl)
  (aE (a_ af rfl)
  (cZ (aM (aa af (aa af (aa af aj)))) (a8 (aD (aq rfl) (aD (aq rfl) aW (λ_ _ _=>aN)) (λ_ _ _=>aN)))))))
  (aO (b7 (aa af (aa af aj)))))))))⟩) ?_
 rintro ss q ⟨m,W,cl,rfl,hW,h4,hr,hq⟩
 have l2:(2:Nat)<=1000000:=by decide
 have h11:=mM hW h4 hr cl
 refine⟨rfl,rfl,?_⟩
 refine cutS (λρ=>ρ=[.vl (cb m W),.vl (.bl cl),.un,.un,.un,.un]) (λM hM=>gC rfl (ny (j:=0) rfl) ?_) ?_
 ·show if decide ((4:Int)<((m:Nat):Int))=true then _ else _
  rw[if_neg (by rw[decide_eq_true_eq];omega)]
  exact hM _ rfl
 rintro _ rfl
 refine cutS (λρ=>ρ=[.vl (cb m W),.vl (.bl cl),nv 0,.un,.un,.un]) (λM hM=>hM _ rfl) ?_
 rintro _ rfl
 refine cutS (λρ=>ρ=[.vl (cb m W),.vl (.bl cl),nv 0,.vl (papD m W cl 0),.un,.un]) (λM hM=>hM _ rfl) ?_
 rintro _ rfl
 have try1:∀ {n:Nat} {s2 s4 s5:Sv} {M:En->Prop},n<=11->M [.vl (cb m W),.vl (.bl cl),nv n,s2,.vl (.bl (srN W cl n (az m) []).isLeft),.vl (tolD m W cl n)]->aAsg (Bk rZ (xB (aVar 0) (xB (aVar 1) (xB (aVar 2) aNil)))) (oH 2 (fo (eQ 4) (fo (eQ 5) gaNil))) {nx:=M,ct:=M,bk:=λ_=>False,rt:=λ_ _=>False} [.vl (cb m W),.vl (.bl cl),nv n,s2,s4,s5]:=λ{n s2 s4 s5 M} hn h=>by
  refine⟨rfl,m,W,cl,n,rfl,hW,try4 h4 hn,?_⟩
  rw[tJ]
  exact h
 refine cutS (λρ=>ρ=[.vl (cb m W),.vl (.bl cl),nv 0,.vl (papD m W cl 0),.vl (.bl (srN W cl 0 (az m) []).isLeft),.vl (tolD m W cl 0)]) (λM hM=>try1 (by decide) (hM _ rfl)) ?_
 rintro _ rfl
 refine cutS (λρ=>ρ=[.vl (cb m W),.vl (.bl cl),nv (cj m W cl),.vl (papD m W cl (cj m W cl)),.vl (.bl true),.vl (tolD m W cl (cj m W cl))]) (λM hM=>?_) ?_
 ·refine ph (λρ=>∃n,n<=cj m W cl/\ρ=[.vl (cb m W),.vl (.bl cl),nv n,.vl (papD m W cl n),.vl (.bl (srN W cl n (az m) []).isLeft),.vl (tolD m W cl n)]) (λρ=>match ρ with | [_,_,.vl (.int z),_,_,_]=>11 - z.toNat | _=>0) ?_ _ ⟨0,B0 _,rfl⟩
  rintro _ N ⟨n,hn,rfl⟩ hN
  by_cases e:n=cj m W cl
  ·obtain⟨L,eL⟩:=mN hW h4 hr cl
   have hM':=hM _ rfl
   rw[<- e]at eL hM'
   rw[eL]
   exact hM'
  ·obtain⟨p,ep⟩:=mL (m:=m) (W:=W) (cl:=cl) (n:=n) (by omega)
   have et:tolD m W cl n=papD m W cl (n+1):=by
    unfold tolD
    rw[ep]
    show p=pw (srN W cl n (az m) [])
    rw[ep]
    rfl
   have el:(srN W cl n (az m) []).isLeft=false:=by rw[ep];rfl
   rw[et,el]
   refine Ar (i:=4) rfl ?_
   show aSeq _ _ _ [.vl (cb m W),.vl (.bl cl),nv n,.vl (papD m W cl n),.vl (.bl false),.vl (papD m W cl (n+1))]
   refine cutS (λρ=>ρ=[.vl (cb m W),.vl (.bl cl),nv (n+1),.vl (papD m W cl n),.vl (.bl false),.vl (papD m W cl (n+1))]) (λM hM=>hM _ rfl) ?_
   rintro _ rfl
   refine cutS (λρ=>ρ=[.vl (cb m W),.vl (.bl cl),nv (n+1),.vl (papD m W cl (n+1)),.vl (.bl false),.vl (papD m W cl (n+1))]) (λM hM=>hM _ rfl) ?_
   rintro _ rfl
   refine try1 (by omega) (hN _ ⟨n+1,by omega,rfl⟩ ?_)
   show 11 - (((n+1:Nat):Int)).toNat<11 - ((n:Nat):Int).toNat
   omega
 rintro _ rfl
 exact⟨l2,hq⟩
end
theorem eqX {a b:Nat}:eqD (.int (CM (a:Int) (b:Int))) (.int 0)=decide (a &&& b=0):=by
 rw[qK]
 show decide (((a &&& b:Nat):Int)=0)=_
 rw[decide_eq_decide];omega
theorem gaN1 {i:Nat}{a:D}{ρ:En}{M:En->Prop}(h:M (pt ρ i (.vl a))):eQ i a ρ M:=h
theorem kQ:∀xs:List Nat,depths (ao xs)<=1
 | []=>by simp[ao,depths]
 | x::xs=>by
  have:=kQ xs
  unfold ao at this ⊢
  rw[wE]
  simp only[depths,D.depth]
  omega
theorem oO {n:Nat}:∀ {ds:List D},(∀d∈ds,d.depth<=n)->depths ds<=n
 | [],_=>by simp[depths]
 | d::ds,h=>by
  have h1:=h d B2
  have h2:=oO λe he=>h e (BV _ he)
  simp only[depths]
  omega
def vP:ASp:=λss q=>∃(N:Net) (W:List Nat),ss=[.vl (netD N),.vl (cb N.m W)]/\iZ N/\N.os.map (λo=>(a7 N).getD o 0)=W/\q (.d (.bl true)) [.vl (netD N),.vl (cb N.m W)]
def vV:ASp:=λss q=>∃N:Net,ss=[.vl (netD N)]/\iZ N/\hX N=true/\q (.d (.bl true)) [.vl (netD N)]
theorem kO:∀(js:List (Nat×Nat)) (rows:List Nat) {i:Nat},i<rows.length->(js.foldl aK rows).getD i 0=rows.getD i 0
 | [],_,_,_=>rfl
 | p::js,rows,i,h=>by
  rw[Eg,kO js _ (by rw[cq];omega)]
  unfold aK
  rw[ga,BY h,<- ga]
section
variable {P:wS}{w:B_}{K:bi}{mg:Str->Option bn}{base:Heap}
theorem sH (dn:DefN K mg "is_join" iE ["rows", "join"])(B:BI mg)(g_is_tuple:OkN P w K mg base 1 "is_tuple" ["thing", "least", "most"] (spA K g8))(g_is_whole:OkN P w K mg base 1 "is_whole" ["thing", "least", "most"] (spA K iX)):OkN P w K mg base 2 "is_join" ["rows", "join"] (spA K qM):=by
 refine dn.aok2 (k:=1) gQ (λj=>j==0||j==1) [.un,.un,.un] qM rfl (λf cdv A outer s H E hr=>have hu:=cv hr;⟨_,(aw (dH (gj (eM (bJ g_is_tuple (hr.mono (by decide)) (ah (pv 1) (ah aL (ah aL aA))))))
  (aH (aZ dw))
  bE)
  (aw (eO (pv 1) (bC K (n:=2) rfl (aJ (aF (i:=2) gQ.nd rfl (by first | exact Or.inl rfl | exact Or.inr rfl)) (aJ (aF (i:=3) gQ.nd rfl (by first | exact Or.inl rfl | exact Or.inr rfl)) bB))))
  (aw (bp (i:=4) gQ.nd rfl (by first | exact Or.inl rfl | exact Or.inr rfl) (be gr (bh (bN K) rfl B.len_ dU (ah (pv 0) aA)) aL))
  (aH (aZ (gp (bJ g_is_whole (hr.mono (by decide)) (ah (pv 2) (ah aL (ah (pv 4) aA)))) (gp (bJ g_is_whole (hr.mono (by decide)) (ah (pv 3) (ah aL (ah (pv 4) aA)))) (gp (eE yR (pv 2) (pv 3) (bR _)) (ju (eE (ki K hr.units) (b9 (aU K) (pv 0) (pv 2) (λ_ _=>rfl)) (b9 (aU K) (pv 0) (pv 3) (λ_ _=>rfl)) (bR _))))))))))),(aE (cw (cX (d_ (aM (aa af (aa aI (aa aI aj))))))
  (aO cc)
  bj)
  (aE (cZ af (a8 (aD (aq rfl) (aD (aq rfl) aW (λ_ _ _=>aN)) (λ_ _ _=>aN))))
  (aE (a_ (aG a9 (bZ cK (aa af aj)) aI) rfl)
  (aO (cY (aM (aa af (aa aI (aa af aj)))) (cY (aM (aa af (aa aI (aa af aj)))) (cY (aG cC af af) (aG km (aG bf af af) (aG bf af af)))))))))⟩) ?_
 rintro ss q ⟨s0,rows,d,rfl,hs,hq⟩
 cases ht:tupB 2 2 d with
 | false =>
  rw[u4 ht]at hq
  rcases hs with rfl | rfl <;>
  ·refine⟨rfl,rfl,rfl,d,2,2,rfl,?_⟩
   rw[ht];exact hq
 | true =>
  obtain⟨x,y,rfl⟩:=wa ht
  rcases hs with rfl | rfl <;>
  ·refine⟨rfl,rfl,rfl,_,2,2,rfl,iteF ?_⟩
   refine⟨rfl,x,0,_,rfl,?_⟩
   rw[lenD]
   refine ite2 (λh1=>?_) λh1=>?_
   ·refine⟨rfl,y,0,_,rfl,?_⟩
    refine ite2 (λh2=>?_) λh2=>?_
    ·obtain⟨a,rfl,a1,a2⟩:=i0 h1
     obtain⟨b,rfl,b1,b2⟩:=i0 h2
     obtain⟨a,rfl⟩:=C6 a1
     obtain⟨b,rfl⟩:=C6 b1
     refine ite2 (λh3=>?_) λh3=>?_
     ·refine bt rfl (by omega) (bt rfl (by omega) (dM rfl rfl (by simp[D.depth]) rfl ?_))
      have e:g_ rows (.tup [.int (a:Nat),.int (b:Nat)]) = !eqD (.int (rows.getD a 0:Nat)) (.int (rows.getD b 0:Nat)):=by
       have h3':=of_decide_eq_true h3
       simp only[g_,eqD,CB]
       rw[decide_eq_true a1,decide_eq_true a2,decide_eq_true b1,decide_eq_true b2,decide_eq_true h3']
       simp only[DD,bne]
       congr 1
       rw[Eh];simp;exact HW.symm
      rw[e]at hq;exact hq
     ·have e:g_ rows (.tup [.int (a:Nat),.int (b:Nat)])=false:=by
       simp only[g_]
       rw[show decide ((a:Int)<(b:Int))=false by simpa using h3]
       simp
      rw[e]at hq;exact hq
    ·rw[zc (by simpa using h2)]at hq;exact hq
   ·rw[zd (by simpa using h1)]at hq;exact hq
theorem n4 (dn:DefN K mg "are_joins" fD ["many", "joins"])(B:BI mg)(g_own_rows:OkN P w K mg base 1 "own_rows" ["many"] (spA K SOwn))(g_is_tuple:OkN P w K mg base 1 "is_tuple" ["thing", "least", "most"] (spA K g8))(g_is_join:OkN P w K mg base 2 "is_join" ["rows", "join"] (spA K qM))(g_joined:OkN P w K mg base 1 "joined" ["one", "other"] (spA K ie))(c_MOST_JOINS:∃u,mg "MOST_JOINS" = some u/\RelV (.int 132) u):OkN P w K mg base 3 "are_joins" ["many", "joins"] (spA K kY):=by
 refine dn.aok2 (k:=2) gb (λj=>j==0||j==1) [.un,.un] kY rfl (λf cdv A outer s H E hr=>have hu:=cv hr;⟨_,(aw (dH (gj (eM (bJ g_is_tuple (hr.mono (by decide)) (ah (pv 1) (ah aL (ah (nO c_MOST_JOINS rfl) aA))))))
  (aH (aZ dw))
  bE)
  (aw (bp (i:=2) gb.nd rfl (by first | exact Or.inl rfl | exact Or.inr rfl) (bJ g_own_rows (hr.mono (by decide)) (ah (pv 0) aA)))
  (aw (e_ Cz rfl (bF K (pv 1)) (aF (i:=3) gb.nd rfl (by first | exact Or.inl rfl | exact Or.inr rfl))
  (aw (dH (gj (eM (bJ g_is_join (hr.mono (by decide)) (ah (pv 2) (ah (pv 3) aA)))))
  (aH (aZ dw))
  bE)
  (aH (eW (gm K CC CK CJ dc (pv 2) (ah (bJ g_joined (hr.mono (by decide)) (ah (b9 (aU K) (pv 2) (b9 (aU K) (pv 3) aL (λ_ _=>rfl)) (λ_ _=>rfl)) (ah (b9 (aU K) (pv 2) (b9 (aU K) (pv 3) aL (λ_ _=>rfl)) (λ_ _=>rfl)) aA))) aA))))))
  (aH (aZ dw))))),(aE (cw (cX (d_ (aM (aa af (aa aI (aa aI aj))))))
  (aO cc)
  bj)
  (aE (a_ (aM (aa af aj)) rfl)
  (aE (dh (pin:=(λj=>j==1)) (ba af) (aq rfl)
  (aE (cw (cX (d_ (aM (aa af (aa af aj)))))
  (aO cc)
  bj)
  (dA (fA af (aa (aM (aa (aG bf af (aG bf af aI)) (aa (aG bf af (aG bf af aI)) aj))) aj)))))
  (aO cc))))⟩) ?_
 rintro ss q ⟨m,d,rfl,hm,hq⟩
 refine⟨rfl,rfl,rfl,d,0,132,rfl,?_⟩
 cases ht:tupB 0 132 d with
 | false=>rw[o9 ht]at hq;exact hq
 | true =>
  obtain⟨ds,rfl,_,hl⟩:=jL ht
  have hl':ds.length<=132:=by omega
  rw[show dD m (.tup ds)=iM (az m) ds by simp[dD,hl']]at hq
  refine iteF ⟨rfl,m,rfl,by omega,?_⟩
  refine d5 (λk ρ=>∃rows s3,ρ=[nv m,.vl (.tup ds),.ow (ao rows),s3]/\rows.length=m+k/\iM rows (ds.drop k)=iM (az m) ds) (λ_ _ _ _=>trivial) ?_ ?_ _ ⟨_,_,rfl,cf m,rfl⟩
  ·rintro k d ρ M hk ⟨rows,s3,rfl,hlen,hj⟩ hM
   have lt:=(kt.mp hk).1
   have ed:ds[k]=d:=(kt.mp hk).2
   rw[Cf lt,ed]at hj
   rw[show iM rows (d::List.drop (k+1) ds)=(g_ rows d&&iM (wm rows d) (List.drop (k+1) ds))from rfl]at hj
   refine⟨rfl,_,rows,d,rfl,.inl rfl,?_⟩
   cases hb:g_ rows d with
   | false =>
    rw[hb,D8]at hj
    rw[<- hj]at hq
    exact hq
   | true =>
    rw[hb,DD]at hj
    refine iteF ?_
    have hb':=hb
    unfold g_ at hb'
    split at hb'
    ·rename_i a b
     simp only[BX,decide_eq_true_eq]at hb'
     obtain⟨⟨⟨⟨a1,a2⟩,b1,b2⟩,ab⟩,_⟩:=hb'
     obtain⟨a,rfl⟩:=C6 a1
     obtain⟨b,rfl⟩:=C6 b1
     refine gC rfl rfl (bt rfl (by omega) (gC rfl rfl (bt rfl (by omega) ⟨rfl,_,_,rfl,?_,hM _ ⟨aK rows (a,b),.vl (.tup [.int (a:Nat),.int (b:Nat)]),?_,?_,hj⟩⟩)))
     ·rw[f8,hlen];omega
     ·rw[g5];rfl
     ·rw[cq,hlen];omega
    ·cases hb'
  ·rintro ρ ⟨rows,s3,rfl,hlen,hj⟩
   rw[G0]at hj
   rw[<- hj]at hq
   exact hq
theorem p5 (dn:DefN K mg "are_outs" e9 ["things", "outs"])(B:BI mg)(g_is_tuple:OkN P w K mg base 1 "is_tuple" ["thing", "least", "most"] (spA K g8))(g_is_whole:OkN P w K mg base 1 "is_whole" ["thing", "least", "most"] (spA K iX))(c_MOST_OUTS:∃u,mg "MOST_OUTS" = some u/\RelV (.int 24) u):OkN P w K mg base 2 "are_outs" ["things", "outs"] (spA K nB):=by
 refine dn.aok2 (k:=1) pM (λj=>j==0||j==1) [] nB rfl (λf cdv A outer s H E hr=>have hu:=cv hr;⟨_,(aH (aZ (gp (bJ g_is_tuple (hr.mono (by decide)) (ah (pv 1) (ah aL (ah (nO c_MOST_OUTS rfl) aA)))) (ju (bh (vJ K rfl) rfl B.all_ Bb (ah (du ["out"] [0] rfl (Blk.of (ar e9) kz) (bF K (pv 1)) (λ_ _ _ _ nd=>(aF (i:=0) nd rfl (by first | exact Or.inl rfl | exact Or.inr rfl))) (λ_ _ _ _=>cB) (λ_ _ _ _=>(bJ g_is_whole (hr.mono (by decide)) (ah (pv 0) (ah aL (ah (be gr (pv 1) aL) aA)))))) aA)))))),(aO (cY (aM (aa af (aa aI (aa aI aj)))) (bZ xv (aa (bU (ba af) (aq rfl) bY (aM (aa af (aa aI (aa (aG a9 af aI) aj))))) aj))))⟩) ?_
 rintro ss q ⟨n,d,rfl,hq⟩
 refine⟨rfl,rfl,rfl,d,1,24,rfl,?_⟩
 cases ht:tupB 1 24 d with
 | false=>rw[qI ht]at hq;exact hq
 | true =>
  obtain⟨ds,rfl,h1,hl⟩:=jL ht
  have hl':ds.length<=24:=by omega
  have h1':1<=ds.length:=by omega
  refine iteT ⟨by omega,?_⟩
  refine vD (λd=>.bl (df 0 ((n:Int) - 1) d)) _ trivial (λd acc M _ hM=>?_) ?_
  ·exact⟨rfl,d,0,_,rfl,hM⟩
  ·refine zp (bs:=ds.map (df 0 ((n:Int) - 1))) ?_ ?_
   ·show some (D.lst (ds.map _))=_
    rw[B3];rfl
   ·rw[show fU n (.tup ds)=(ds.map (df 0 ((n:Int) - 1))).all id by simp[fU,hl',h1']]at hq
    exact hq
theorem uI (dn:DefN K mg "is_net" jN ["thing"])(B:BI mg)(g_is_tuple:OkN P w K mg base 1 "is_tuple" ["thing", "least", "most"] (spA K g8))(g_is_whole:OkN P w K mg base 1 "is_whole" ["thing", "least", "most"] (spA K iX))(g_are_joins:OkN P w K mg base 3 "are_joins" ["many", "joins"] (spA K kY))(g_are_outs:OkN P w K mg base 2 "are_outs" ["things", "outs"] (spA K nB))(c_MOST_GIVENS:∃u,mg "MOST_GIVENS" = some u/\RelV (.int 12) u):OkN P w K mg base 4 "is_net" ["thing"] (spA K vT):=by
 refine dn.aok2 (k:=3) iA (λj=>j==0) [.un,.un,.un] vT rfl (λf cdv A outer s H E hr=>have hu:=cv hr;⟨_,(aw (dH (gj (eM (bJ g_is_tuple (hr.mono (by decide)) (ah (pv 0) (ah aL (ah aL aA))))))
  (aH (aZ dw))
  bE)
  (aw (eO (pv 0) (bC K (n:=3) rfl (aJ (aF (i:=1) iA.nd rfl (by first | exact Or.inl rfl | exact Or.inr rfl)) (aJ (aF (i:=2) iA.nd rfl (by first | exact Or.inl rfl | exact Or.inr rfl)) (aJ (aF (i:=3) iA.nd rfl (by first | exact Or.inl rfl | exact Or.inr rfl)) bB)))))
  (aH (aZ (gp (bJ g_is_whole (hr.mono (by decide)) (ah (pv 1) (ah aL (ah (nO c_MOST_GIVENS rfl) aA)))) (gp (bJ g_are_joins (hr.mono (by decide)) (ah (pv 1) (ah (pv 2) aA))) (ju (bJ g_are_outs (hr.mono (by decide)) (ah (be eP (pv 1) (bh (bN K) rfl B.len_ dU (ah (pv 2) aA))) (ah (pv 3) aA)))))))))),(aE (cw (cX (d_ (aM (aa af (aa aI (aa aI aj))))))
  (aO cc)
  bj)
  (aE (cZ af (a8 (aD (aq rfl) (aD (aq rfl) (aD (aq rfl) aW (λ_ _ _=>aN)) (λ_ _ _=>aN)) (λ_ _ _=>aN))))
  (aO (cY (aM (aa af (aa aI (aa aI aj)))) (cY (aM (aa af (aa af aj))) (aM (aa (aG a9 af (bZ cK (aa af aj))) (aa af aj))))))))⟩) ?_
 rintro ss q ⟨d,rfl,hq⟩
 refine⟨rfl,rfl,rfl,d,3,3,rfl,?_⟩
 cases ht:tupB 3 3 d with
 | false=>rw[wR ht]at hq;exact hq
 | true =>
  obtain⟨x,y,z,rfl⟩:=v_ ht
  refine iteF ⟨rfl,x,1,12,rfl,?_⟩
  cases hw:df 1 12 x with
  | false =>
   have e:netB (.tup [x,y,z])=false:=by
    cases x with
    | int i=>simp only[df]at hw;simp only[netB,hw,D8]
    | _=>rfl
   rw[e]at hq;exact hq
  | true =>
   obtain⟨i,rfl,i1,i2⟩:=i0 hw
   obtain⟨m,rfl⟩:=C6 (show 0<=i by omega)
   have e:netB (.tup [.int (m:Nat),y,z])=(dD m y&&fU (m+lenT y) z):=by
    simp only[netB,df]at hw ⊢
    rw[hw,CB,DD]
   rw[e]at hq
   refine iteT ⟨rfl,m,y,rfl,by omega,?_⟩
   cases hj:dD m y with
   | false=>rw[hj]at hq;exact hq
   | true =>
    rw[hj,DD]at hq
    refine iteT ?_
    have:∃ds,y = .tup ds:=by
     cases y with
     | tup ds=>exact⟨ds,rfl⟩
     | _=>cases hj
    obtain⟨ds,rfl⟩:=this
    exact⟨rfl,m+ds.length,z,rfl,hq⟩
theorem nY (dn:DefN K mg "_law_makes" dq ["_law_net", "_law_wish"])(B:BI mg)(g_is_net:OkN P w K mg base 4 "is_net" ["thing"] (spA K vT)):OkN P w K mg base 5 "_law_makes" ["_law_net", "_law_wish"] (spA K vP):=by
 refine dn.aok2 (k:=4) eJ (λj=>j==0||j==1) [.un,.un,.un] vP rfl (λf cdv A outer s H E hr=>have hu:=cv hr;⟨_,(aw (bp (i:=2) eJ.nd rfl (by first | exact Or.inl rfl | exact Or.inr rfl) (du ["_law_k"] [] rfl (Blk.of (ar dq) gu) (fc rfl B.range_ (ah (b9 (aU K) (pv 1) aL (λ_ _=>rfl)) aA)) (λ_ _ _ _ nd=>(aF (i:=0) nd rfl (by first | exact Or.inl rfl | exact Or.inr rfl))) (λ_ _ _ _=>cB) (λ_ _ _ _=>(be nU aL (pv 0)))))
  (aw (dH (PW.pt (yD (gj (eM (bJ g_is_net (hr.mono (by decide)) (ah (pv 0) aA)))) (uv (bA (ki K hr.units) (b9 (aU K) (pv 0) aL (λ_ _=>rfl)) (b9 (aU K) (pv 1) aL (λ_ _=>rfl)) (bR _)))))
  (aH (aZ dw))
  bE)
  (aw (e_ Cz rfl (bF K (b9 (aU K) (pv 0) aL (λ_ _=>rfl))) (bC K (n:=2) rfl (aJ (aF (i:=3) eJ.nd rfl (by first | exact Or.inl rfl | exact Or.inr rfl)) (aJ (aF (i:=4) eJ.nd rfl (by first | exact Or.inl rfl | exact Or.inr rfl)) bB)))
  (aH (eW (gm K CC CK CJ dc (pv 2) (ah (be nR (b9 (aU K) (pv 2) (pv 3) (λ_ _=>rfl)) (b9 (aU K) (pv 2) (pv 4) (λ_ _=>rfl))) aA)))))
  (aH (aZ (eE (jv K hr.units) (du ["_law_out"] [2] rfl (Blk.of (ar dq) gu) (bF K (b9 (aU K) (pv 0) aL (λ_ _=>rfl))) (λ_ _ _ _ nd=>(aF (i:=0) nd rfl (by first | exact Or.inl rfl | exact Or.inr rfl))) (λ_ _ _ _=>cB) (λ_ _ _ _=>(b9 (aU K) (pv 1) (pv 0) (λ_ _=>rfl)))) (cP (l_ K) rfl B.list_ ni (ah (b9 (aU K) (pv 1) aL (λ_ _=>rfl)) aA)) (bR _))))))),(aE (a_ (bU (eZ (aa (aG bf af aI) aj)) (aq rfl) bY (aG ko aI af)) rfl)
  (aE (cw (pq (cX (d_ (aM (aa af aj)))) (aV (aG km (aG bf af aI) (aG bf af aI))))
  (aO cc)
  bj)
  (aE (dh (pin:=(λ_=>false)) (ba (aG bf af aI)) (a8 (aD (aq rfl) (aD (aq rfl) aW (λ_ _ _=>aN)) (λ_ _ _=>aN)))
  (dA (fA af (aa (aG a9 (aG bf af af) (aG bf af af)) aj))))
  (aO (aG jx (bU (ba (aG bf af aI)) (aq rfl) bY (aG bf af af)) (bZ oT (aa (aG bf af aI) aj)))))))⟩) ?_
 rintro ss q ⟨N,W,rfl,hN,hW,hq⟩
 have m12:=hN.m12
 have jl:=hN.jl
 have o24:=hN.o24
 have hix:okIx N.m N.js:=by have:=kr hN.js;rwa [cf]at this
 have lw:W.length<=24:=by rw[<- hW,f8];exact o24
 refine⟨rfl,rfl,?_⟩
 refine cutS (λρ=>ρ=[.vl (netD N),.vl (cb N.m W),.ow (ao (az N.m)),.un,.un]) (λM hM=>gC (i:=0) (d:=nD N.m) rfl rfl ⟨⟨by omega,by omega⟩,by rw[cT];omega,?_⟩) ?_
 ·refine iU (λk=>.int (1 <<< k:Nat)) trivial (λk acc M' hk hM'=>?_) ?_
  ·rw[FT]
   refine⟨⟨by omega,by omega,by decide⟩,?_⟩
   show M' (acc++[.int ((1:Int)*2^((k:Int).toNat))]) _
   rw[j4];exact hM'
  ·have e:((wl N.m).map λk=>D.int (1 <<< k:Nat))=ao (az N.m):=by unfold az ao;rw[B3];rfl
   rw[CB,e]
   exact hM _ rfl
 rintro _ rfl
 refine cutS (λρ=>ρ=[.vl (netD N),.vl (cb N.m W),.ow (ao (az N.m)),.un,.un]) (λM hM=>?_) ?_
 ·refine⟨rfl,netD N,rfl,?_⟩
  rw[yZ hN]
  refine gC (i:=0) (d:=nD N.m) rfl rfl (gC (i:=0) (d:=nD N.m) rfl rfl (dM (b:=true) rfl rfl (show D.depth (.int _)<=60 by simp[D.depth]) (by show decide (((N.m:Nat):Int)=((N.m:Nat):Int))=true;simp) ?_))
  exact hM _ rfl
 rintro _ rfl
 refine cutS (λρ=>∃s3 s4,ρ=[.vl (netD N),.vl (cb N.m W),.ow (ao (a7 N)),s3,s4]) (λM hM=>?_) ?_
 ·refine gC (i:=1) (d:=.tup (N.js.map L2.bq)) rfl rfl (iR L2.bq (λj ρ=>∃s3 s4,ρ=[.vl (netD N),.vl (cb N.m W),.ow (ao ((N.js.take j).foldl aK (az N.m))),s3,s4]) (λ_ _ _=>trivial) ?_ ?_ ⟨.un,.un,rfl⟩)
  ·rintro j p _ M' hj ⟨s3,s4,rfl⟩ hM'
   obtain⟨q1,q2⟩:=fH hix hj
   have hlen:((N.js.take j).foldl aK (az N.m)).length=N.m+j:=by
    have:=(kt.mp hj).1
    rw[fN,B6,cf];omega
   have hi:j<N.js.length:=(kt.mp hj).1
   refine gaT2 ?_
   refine bt rfl (by omega) (bt rfl (by omega) ⟨?_,hM' _ ⟨nv p.1,nv p.2,?_⟩⟩)
   ·rw[bg,hlen];omega
   ·rw[gE hj,g5,<- xorD];rfl
  ·rintro ρ ⟨s3,s4,rfl⟩
   rw[Cp]
   exact hM _ ⟨s3,s4,rfl⟩
 rintro _ ⟨s3,s4,rfl⟩
 have rl:(a7 N).length=N.m+N.js.length:=iF N
 refine gC (i:=2) (d:=.tup (ao N.os)) rfl rfl ⟨by rw[bg];omega,gH nD (λo=>nD ((a7 N).getD o 0)) trivial (λo acc M ho' hM=>bt rfl (by rw[rl];exact hN.os o ho') hM) ?_⟩
 have e1:(N.os.map λo=>nD ((a7 N).getD o 0))=ao W:=by rw[<- hW];unfold ao;rw[B3];rfl
 rw[e1]
 refine gC (i:=1) (d:=.tup (ao W)) rfl rfl ?_
 exact dM rfl rfl (qx _) (b:=true) (iS _) hq
theorem nZ (dn:DefN K mg "_law_clean" eA ["_law_net"])(B:BI mg):OkN P w K mg base 1 "_law_clean" ["_law_net"] (spA K vV):=by
 refine dn.aok2 (k:=0) eK (λj=>j==0) [.un,.un,.un] vV rfl (λf cdv A outer s H E hr=>have hu:=cv hr;⟨_,(aw (j9 (i:=1) ["_law_k"] [] eK.nd rfl (by first | exact Or.inl rfl | exact Or.inr rfl) rfl (Blk.of (ar eA) jy) (fc rfl B.range_ (ah (b9 (aU K) (pv 0) aL (λ_ _=>rfl)) aA)) (λ_ _ _ _ nd=>(aF (i:=0) nd rfl (by first | exact Or.inl rfl | exact Or.inr rfl))) (λ_ _ _ _=>cB) (λ_ _ _ _=>(be nU aL (pv 0))))
  (aw (e_ Cz rfl (bF K (b9 (aU K) (pv 0) aL (λ_ _=>rfl))) (bC K (n:=2) rfl (aJ (aF (i:=2) eK.nd rfl (by first | exact Or.inl rfl | exact Or.inr rfl)) (aJ (aF (i:=3) eK.nd rfl (by first | exact Or.inl rfl | exact Or.inr rfl)) bB)))
  (aw (dH (bA (ki K hr.units) (be nX (b9 (aU K) (pv 1) (pv 2) (λ_ _=>rfl)) (b9 (aU K) (pv 1) (pv 3) (λ_ _=>rfl))) aL (bR _))
  (aH (aZ dw))
  bE)
  (aH (eW (gm K CC CK CJ dc (pv 1) (ah (be nR (b9 (aU K) (pv 1) (pv 2) (λ_ _=>rfl)) (b9 (aU K) (pv 1) (pv 3) (λ_ _=>rfl))) aA))))))
  (aH (aZ dw)))),(aE (ir (bU (eZ (aa (aG bf af aI) aj)) (aq rfl) bY (aG ko aI af)) rfl)
  (aE (dh (pin:=(λ_=>false)) (ba (aG bf af aI)) (a8 (aD (aq rfl) (aD (aq rfl) aW (λ_ _ _=>aN)) (λ_ _ _=>aN)))
  (aE (cw (aV (aG km (aG a9 (aG bf af af) (aG bf af af)) aI))
  (aO cc)
  bj)
  (dA (fA af (aa (aG a9 (aG bf af af) (aG bf af af)) aj)))))
  (aO cc)))⟩) ?_
 rintro ss q ⟨N,rfl,hN,hc,hq⟩
 have m12:=hN.m12
 have jl:=hN.jl
 have hix:okIx N.m N.js:=by have:=kr hN.js;rwa [cf]at this
 refine⟨rfl,rfl,?_⟩
 refine cutS (λρ=>ρ=[.vl (netD N),.ow (ao (az N.m)),.un,.un]) (λM hM=>gC (i:=0) (d:=nD N.m) rfl rfl ⟨⟨by omega,by omega⟩,by rw[cT];omega,?_⟩) ?_
 ·refine iU (λk=>.int (1 <<< k:Nat)) trivial (λk acc M' hk hM'=>?_) ?_
  ·rw[FT]
   refine⟨⟨by omega,by omega,by decide⟩,?_⟩
   show M' (acc++[.int ((1:Int)*2^((k:Int).toNat))]) _
   rw[j4];exact hM'
  ·have e:((wl N.m).map λk=>D.int (1 <<< k:Nat))=ao (az N.m):=by unfold az ao;rw[B3];rfl
   rw[CB,e]
   exact hM _ rfl
 rintro _ rfl
 refine cutS (λρ=>∃s3 s4,ρ=[.vl (netD N),.ow (ao (a7 N)),s3,s4]) (λM hM=>?_) ?_
 ·refine gC (i:=1) (d:=.tup (N.js.map L2.bq)) rfl rfl (iR L2.bq (λj ρ=>∃s3 s4,ρ=[.vl (netD N),.ow (ao ((N.js.take j).foldl aK (az N.m))),s3,s4]) (λ_ _ _=>trivial) ?_ ?_ ⟨.un,.un,rfl⟩)
  ·rintro j p _ M' hj ⟨s3,s4,rfl⟩ hM'
   obtain⟨q1,q2⟩:=fH hix hj
   have hi:j<N.js.length:=(kt.mp hj).1
   have hlen:((N.js.take j).foldl aK (az N.m)).length=N.m+j:=by
    rw[fN,B6,cf];omega
   have hz:((N.js.take j).foldl aK (az N.m)).getD p.1 0 &&& ((N.js.take j).foldl aK (az N.m)).getD p.2 0=0:=by
    have h0:=DR.mp hc p (Cd hj)
    have eR:a7 N=(N.js.drop j).foldl aK ((N.js.take j).foldl aK (az N.m)):=by
     unfold a7
     rw[<- EO,Ek]
    rw[eR,kO (N.js.drop j) ((N.js.take j).foldl aK (az N.m)) (show p.1<_ by omega),kO (N.js.drop j) ((N.js.take j).foldl aK (az N.m)) (show p.2<_ by omega)]at h0
    simpa using h0
   refine gaT2 ?_
   show aSeq _ _ _ [.vl (netD N),.ow (ao ((N.js.take j).foldl aK (az N.m))),nv p.1,nv p.2]
   refine cutS (λρ=>ρ=[.vl (netD N),.ow (ao ((N.js.take j).foldl aK (az N.m))),nv p.1,nv p.2]) (λM hM=>?_) ?_
   ·refine bt rfl (by omega) (bt rfl (by omega) ?_)
    refine dM (b:=true) rfl rfl (show D.depth (.int _)<=60 by simp[D.depth]) (eqX.trans (decide_eq_true hz)) ?_
    exact hM _ rfl
   rintro _ rfl
   refine bt rfl (by omega) (bt rfl (by omega) ⟨?_,hM' _ ⟨nv p.1,nv p.2,?_⟩⟩)
   ·rw[bg,hlen];omega
   ·rw[gE hj,g5,<- xorD];rfl
  ·rintro ρ ⟨s3,s4,rfl⟩
   rw[Cp]
   exact hM _ ⟨s3,s4,rfl⟩
 rintro _ ⟨s3,s4,rfl⟩
 exact hq
end
def vN:ASp:=λss q=>∃(n lo hi:Nat),ss=[.tp n,nv lo,nv hi]/\n<1000000/\1<=lo/\lo<=hi/\hi<=6/\∀(m n':Nat) (W:List Nat),lo<=m->m<=hi->eU m W->(∀r∈W,r<2^m)->n'<=n+40->q (.d (cb m W)) [.tp n',nv lo,nv hi]
section
variable {P:wS}{w:B_}{K:bi}{mg:Str->Option bn}{base:Heap}
theorem jf (dn:DefN K mg "_law_small_wish" cm ["_law_tape_here", "_law_low", "_law_most"])(B:BI mg)(g_law_draw:OkN P w K mg base 1 "_law_draw" ["_law_tape_here", "_law_many"] (spA K xF)):OkN P w K mg base 2 "_law_small_wish" ["_law_tape_here", "_law_low", "_law_most"] (spA K vN):=by
 refine dn.aok2 (k:=1) dj (λj=>j==0||j==1||j==2) [.un,.un] vN rfl (λf cdv A outer s H E hr=>have hu:=cv hr;⟨_,(aw (bp (i:=3) dj.nd rfl (by first | exact Or.inl rfl | exact Or.inr rfl) (be eP (pv 1) (bJ g_law_draw (hr.mono (by decide)) (ah (pv 0) (ah (be eP (be gr (pv 2) (pv 1)) aL) aA)))))
  (aw (bp (i:=4) dj.nd rfl (by first | exact Or.inl rfl | exact Or.inr rfl) (be eP aL (bJ g_law_draw (hr.mono (by decide)) (ah (pv 0) (ah (b9 (aU K) (eD (ah aL (ah aL (ah aL (ah aL aA))))) (bJ g_law_draw (hr.mono (by decide)) (ah (pv 0) (ah aL aA))) (λ_ _=>rfl)) aA)))))
  (aH (aZ (cO (ah (pv 3) (ah (cP (dz K) rfl B.tuple_ fO (ah (du ["_law_turn"] [0,3] rfl (Blk.of (ar cm) ff) (fc rfl B.range_ (ah (pv 4) aA)) (λ_ _ _ _ nd=>(aF (i:=0) nd rfl (by first | exact Or.inl rfl | exact Or.inr rfl))) (λ_ _ _ _=>cB) (λ_ _ _ _=>(be eP aL (bJ g_law_draw (hr.mono (by decide)) (ah (pv 1) (ah (be gr (be nU aL (pv 2)) aL) aA)))))) aA)) aA))))))),(aE (a_ (aG a9 af (aM (aa af (aa (aG a9 (aG a9 af af) aI) aj)))) rfl)
  (aE (a_ (aG a9 aI (aM (aa af (aa (aG bf (cU (aa aI (aa aI (aa aI (aa aI aj))))) (aM (aa af (aa aI aj)))) aj)))) rfl)
  (aO (b7 (aa af (aa (bZ d9 (aa (bU (eZ (aa af aj)) (aq rfl) bY (aG a9 aI (aM (aa af (aa (aG a9 (aG ko aI af) aI) aj))))) aj)) aj))))))⟩) ?_
 rintro ss q ⟨n,lo,hi,rfl,hn,h1,h2,h6,hq⟩
 refine⟨rfl,rfl,?_⟩
 have l2:(2:Nat)<=1000000:=by decide
 have l4:(4:Nat)<=1000000:=by decide
 refine cutS (λρ=>∃m:Nat,lo<=m/\m<=hi/\ρ=[.tp (n+1),nv lo,nv hi,nv m,.un]) (λM hM=>⟨rfl,n,(hi:Int) - (lo:Int)+1,rfl,by omega,Dv.small (by omega) (by omega),λx hx=>hM _ ⟨lo+x,by omega,by omega,rfl⟩⟩) ?_
 rintro _ ⟨m,hm1,hm2,rfl⟩
 have p1:2<=2^m:=F8 (n:=2) (by decide) (show 1<=m by omega)
 have p2:2^m<=64:=F8 (n:=2) (by decide) (show m<=6 by omega)
 have ep:(1:Int)*(2:Int)^((m:Int).toNat)=((2^m:Nat):Int):=by rw[j4,Jz,KD]
 refine cutS (λρ=>∃k:Nat,1<=k/\k<=24/\ρ=[.tp (n+3),nv lo,nv hi,nv m,nv k]) (λM hM=>⟨l4,rfl,n+1,4,rfl,by omega,Dv.small (by decide) (by decide),λx hx=>?_⟩) ?_
 ·have at4:∃w:Nat,1<=w/\w<=24/\atI [D.int 8,.int 8,.int 8,.int 24] ((x:Nat):Int)=some (.int (w:Nat)):=by
   have hx:x<4:=by omega
   match x,hx with
   | 0,_=>exact⟨8,by decide,by decide,rfl⟩
   | 1,_=>exact⟨8,by decide,by decide,rfl⟩
   | 2,_=>exact⟨8,by decide,by decide,rfl⟩
   | 3,_=>exact⟨24,by decide,by decide,rfl⟩
  obtain⟨w,w1,w2,ew⟩:=at4
  refine A1 rfl ew ⟨rfl,n+2,w,rfl,by omega,Dv.small (by omega) (by omega),λy hy=>?_⟩
  exact hM _ ⟨1+y,by omega,by omega,rfl⟩
 rintro _ ⟨k,hk1,hk2,rfl⟩
 refine⟨⟨by omega,by omega⟩,by rw[cT];omega,?_⟩
 refine gJ (λj acc ρ=>∃W:List Nat,W.length=j/\(∀r∈W,1<=r/\r<2^m)/\acc=ao W/\ρ=[.tp (n+3+j),nv lo,nv hi,nv m,nv k]) (λ_ _ _ _ _=>trivial) ?_ ?_ _ ⟨[],rfl,λr hr=>(by cases hr),rfl,rfl⟩
 ·rintro j d acc _ N hd ⟨W,hl,hW,rfl,rfl⟩ hN
  have hj:j<k:=by
   have:=(kt.mp hd).1
   rw[cT]at this
   omega
  refine⟨⟨by omega,by omega,by decide⟩,rfl,n+3+j,_,rfl,by omega,Dv.small (by show 0<(1:Int)*(2:Int)^((m:Int).toNat) - 1;rw[ep];omega) (by show(1:Int)*(2:Int)^((m:Int).toNat) - 1<1073741824;rw[ep];omega),λr hr=>?_⟩
  have hr:(r:Int)<(1:Int)*(2:Int)^((m:Int).toNat) - 1:=hr
  rw[ep]at hr
  refine hN _ _ ⟨W++[1+r],by rw[wP,hl];rfl,λy hy=>?_,?_,rfl⟩
  ·rcases xL.mp hy with z | z
   ·exact hW y z
   ·rw[sn.mp z];omega
  ·rw[dy]
   show ao W++[.int ((1:Int)+(r:Int))]=_
   rw[show(1:Int)+(r:Int)=((1+r:Nat):Int)by omega]
 ·rintro acc _ ⟨W,hl,hW,rfl,rfl⟩
  rw[cT]at hl
  refine⟨l2,?_⟩
  exact hq m _ W hm1 hm2 ⟨by omega,by omega,by omega,by omega,λr hr=>⟨(hW r hr).1,zn (hW r hr).2 p2⟩⟩ (λr hr=>(hW r hr).2) (by rw[cT];omega)
end
theorem Ext.snoc {cl:Bool}{kn t:List Nat}{r:Nat}(e:Ext cl kn t)(h:b6 cl (kn++t) r=true)(hr:r∉kn++t):Ext cl kn (t++[r]):=by
 refine⟨by rw[<- Ck];exact uh e.nd hr,λi hi=>?_⟩
 rw[wP,DV]at hi
 by_cases z:i<t.length
 ·rw[E4 (by omega),ga,BY z,<- ga]
  exact e.nx i z
 ·obtain rfl:i=t.length:=by omega
  rw[E4 (lm _),Cp,ga,Ci (lm _),Iv]
  exact h
def ig (m:Nat)(cl:Bool)(j:Nat)(R:List Nat):Prop:=∃t,Ext cl (az m) t/\t.length<=j/\∀r∈R,r∈az m++t
theorem ig.step {m j:Nat}{cl:Bool}{R:List Nat}(h:ig m cl j R){a b:Nat}(ha:a∈R)(hb:b∈R)(ne:a≠b)(hm:mayN cl a b=true):ig m cl (j+1) (R++[a ^^^ b]):=by
 obtain⟨t,e,hl,hR⟩:=h
 by_cases z:a ^^^ b∈az m++t
 ·refine⟨t,e,by omega,λr hr=>?_⟩
  rcases xL.mp hr with q | q
  ·exact hR r q
  ·rw[sn.mp q];exact z
 ·refine⟨t++[a ^^^ b],e.snoc (cD.mpr ⟨a,hR a ha,b,hR b hb,ne,hm,rfl⟩) z,by rw[wP,DV];omega,λr hr=>?_⟩
  rw[<- Ck]
  rcases xL.mp hr with q | q
  ·exact BW _ (hR r q)
  ·exact im _ q
theorem kC {N:Net}{cl:Bool}(hN:iZ N)(hc:cl=true->hX N=true):∀k,k<=N.js.length->ig N.m cl k ((N.js.take k).foldl aK (az N.m))
 | 0,_=>⟨[],Ext.nil (nQ _),lm _,λr hr=>BW _ hr⟩
 | k+1,h=>by
  have ih:=kC hN hc k (by omega)
  have hk:k<N.js.length:=by omega
  have e:N.js[k]? = some (N.js[k]):=bv hk
  have ix:=fH (kr hN.js) e
  rw[cf]at ix
  have ne:=mJ hN.js e
  have hl:((N.js.take k).foldl aK (az N.m)).length=N.m+k:=by rw[fN,cf,B6];omega
  rw[gE e]
  refine ih.step (d4 (by omega)) (d4 (by omega)) ne ?_
  cases cl with
  | false=>rfl
  | true =>
   have h1:=DR.mp (hc rfl) _ (DQ hk)
   have pre:∀i,i<N.m+k->(a7 N).getD i 0=((N.js.take k).foldl aK (az N.m)).getD i 0:=λi hi=>by
    have:a7 N=(N.js.drop k).foldl aK ((N.js.take k).foldl aK (az N.m)):=by
     rw[<- EO,Ek];rfl
    rw[this]
    exact d7 (by omega)
   rw[pre _ (by omega),pre _ (by omega)]at h1
   unfold mayN
   rw[decide_eq_true (eq_of_beq h1)]
   rfl
theorem uP {N:Net}{cl:Bool}(hN:iZ N)(hc:cl=true->hX N=true){W:List Nat}(hW:N.os.map (λo=>(a7 N).getD o 0)=W):ig N.m cl N.js.length W:=by
 obtain⟨t,e,hl,hR⟩:=kC hN hc N.js.length (lm _)
 rw[Cp]at hR
 refine⟨t,e,hl,λr hr=>?_⟩
 rw[<- hW]at hr
 obtain⟨o,ho,rfl⟩:=Ch.mp hr
 refine hR _ (d4 ?_)
 have:=hN.os o ho
 rw[fN,cf]
 exact this
theorem rL {m j:Nat}{W:List Nat}{cl:Bool}(h:eU m W)(hR:ig m cl j W):cj m W cl<=j:=by
 apply Eo
 intro hj
 obtain⟨p,e⟩:=mL (m:=m) (W:=W) (cl:=cl) (n:=j) (by omega)
 obtain⟨t,ex,hl,hW⟩:=hR
 exact nP h.w (iG h.m6) (nG (iG h.m6) e) ex hl (λx _=>by simp) hW
structure LNet (m:Nat)(W:List Nat)(cl:Bool)(N:Net):Prop where
 t:tolD m W cl (cj m W cl)=netD N
 n:iZ N
 mm:N.m=m
 w:N.os.map (λo=>(a7 N).getD o 0)=W
 l:N.js.length=cj m W cl
 c:cl=true->hX N=true
theorem uX {m:Nat}{W:List Nat}(h:eU m W)(h4:m<=4)(hr:∀r∈W,r<2^m)(cl:Bool):∃N,LNet m W cl N:=by
 obtain⟨L,e⟩:=mN h h4 hr cl
 have h11:=mM h h4 hr cl
 obtain⟨F,hL⟩:=x8 h (by omega) e
 have hN:=oi F
 have hw:(tidN (eG m cl L W)).os.map (λo=>(a7 (tidN (eG m cl L W))).getD o 0)=W:=(wj (lF hN) hN.os).trans (sN F)
 have hc:cl=true->hX (tidN (eG m cl L W))=true:=λz=>by subst z;exact tX hN (qe F)
 have sh:=tT hN
 rw[dJ]at sh
 have ge:=rL h (uP (tV hN) hc hw)
 refine⟨tidN (eG m cl L W),by unfold tolD;rw[e],tV hN,rfl,hw,Nat.le_antisymm (by omega) ge,hc⟩
theorem rH {c:Bool}{K K':List Nat}{r:Nat}(h:∀x∈K,x∈K')(hr:b6 c K r=true):b6 c K' r=true:=by
 obtain⟨a,ha,b,hb,z⟩:=cD.mp hr
 exact cD.mpr ⟨a,h a ha,b,h b hb,z⟩
theorem Ext.many {cl:Bool}{kn:List Nat}:∀ {h t:List Nat},Ext cl kn t->(∀r∈h,b6 cl (kn++t) r=true/\r∉kn++t)->h.Nodup->Ext cl kn (t++h)
 | [],t,e,_,_=>by rw[Cc];exact e
 | r::h,t,e,hh,nd=>by
  rw[Ef]at nd
  obtain⟨h1,h2⟩:=hh r (B2 ..)
  rw[show t++r::h=(t++[r])++h by simp]
  refine Ext.many (e.snoc h1 h2) (λx hx=>?_) nd.2
  obtain⟨a,b⟩:=hh x (BV _ hx)
  rw[<- Ck]
  refine⟨rH (λy hy=>BW _ hy) a,λz=>?_⟩
  rcases xL.mp z with z | z
  ·exact b z
  ·rw[sn.mp z]at hx;exact nd.1 hx
open Classical in
noncomputable def gg (m:Nat)(R:List Nat)(cl:Bool):Bool:=decide (∃t,Ext cl (az m) t/\∀x,x∈t↔x∈R/\x∉az m)
open Classical in
theorem wy {m:Nat}{R:List Nat}{cl:Bool}(h:gg m R cl=true)(nd:R.Nodup):ig m cl R.length R:=by
 unfold gg at h
 rw[decide_eq_true_eq]at h
 obtain⟨t,e,ht⟩:=h
 refine⟨t,e,?_,λr hr=>?_⟩
 ·refine Cj (C_.mp e.nd).2.1 λx hx=>((ht x).mp hx).1
 ·by_cases z:r∈az m
  ·exact BW _ z
  ·exact im _ ((ht r).mpr ⟨hr,z⟩)
open Classical in
theorem sC {m:Nat}{R t:List Nat}{cl:Bool}(e:Ext cl (az m) t)(ht:∀x∈t,x∈R)(hR:∀x∈R,x∈az m++t):gg m R cl=true:=by
 unfold gg
 rw[decide_eq_true_eq]
 refine⟨t,e,λx=>⟨λhx=>⟨ht x hx,λz=>(C_.mp e.nd).2.2 x z x hx rfl⟩,λ⟨a,b⟩=>?_⟩⟩
 rcases xL.mp (hR x a)with z | z
 ·exact absurd z b
 ·exact z
open Classical in
theorem pO {m:Nat}{R t:List Nat}{cl:Bool}{y:Nat}(hy:y∈R)(hy2:y∉az m++t)(hno:∀x∈R,x∉az m++t->b6 cl (az m++t) x=false):gg m R cl=false:=by
 apply D1.mpr
 intro h
 unfold gg at h
 rw[decide_eq_true_eq]at h
 obtain⟨t',e,ht⟩:=h
 have all:∀i,i<=t'.length->∀x∈t'.take i,x∈az m++t:=by
  intro i
  induction i with
  | zero=>intro _ x hx;cases hx
  | succ i ih =>
   intro hi x hx
   have ih:=ih (by omega)
   apply Eo
   intro z
   obtain⟨j,h1,h2,rfl⟩:=dX.mp hx
   by_cases ej:j<i
   ·exact z (ih _ (dX.mpr ⟨j,ej,h2,rfl⟩))
   obtain rfl:j=i:=by omega
   have nx:=e.nx j h2
   have:=rH (K':=az m++t) (λy hy=>(xL.mp hy).elim (BW _) (ih y)) nx
   rw[hno _ ((ht _).mp (d4 h2)).1 z]at this
   cases this
 have:=all t'.length (lm _)
 rw[Cp]at this
 exact hy2 (this y ((ht y).mpr ⟨hy,λz=>hy2 (BW _ z)⟩))
theorem rK {cl:Bool}{K:List Nat}{r:Nat}(h:1<=r):(K.filter λo=>K.contains (r ^^^ o)&&mayN cl o (r ^^^ o))=[]↔b6 cl K r=false:=by
 rw[List.filter_eq_nil_iff]
 constructor
 ·intro z
  apply D1.mpr
  intro n
  obtain⟨a,ha,b,hb,ne,hm,e⟩:=cD.mp n
  have eb:r ^^^ a=b:=by rw[<- e,D3 a b,ED,Fq,Fp]
  apply z a ha
  rw[eb,BX,sB]
  exact⟨hb,hm⟩
 ·intro z a ha c
  rw[BX,sB]at c
  have:b6 cl K r=true:=cD.mpr ⟨a,ha,r ^^^ a,c.1,λe=>?_,c.2,by rw[D3 r a,<- ED,Fq,Iu]⟩
  ·rw[this]at z;cases z
  ·have:r=0:=by
    have:=congrArg (a ^^^ ·) e
    simp only[Fq]at this
    rw[D3 r a,<- ED,Fq,Iu]at this
    exact this.symm
   omega
def vO:ASp:=λss q=>∃(m:Nat) (R:List Nat) (cl:Bool) (s1:Sv),(s1 = .vl (.lst (ao R))∨s1 = .ow (ao R))/\ss=[nv m,s1,.vl (.bl cl)]/\m<=6/\R.Nodup/\(∀r∈R,1<=r/\r<64)/\q (.d (.bl (gg m R cl))) [nv m,s1,.vl (.bl cl)]
theorem le63 {K:List Nat}(nd:K.Nodup)(hk:∀r∈K,1<=r/\r<64):K.length<=63:=by
 have:=Cj nd (l₂:=(wl 63).map (· + 1)) λx hx=>by
  have:=hk x hx
  exact Ch.mpr ⟨x - 1,Cn.mpr (by omega),by omega⟩
 rwa [f8,Db]at this
section
variable {P:wS}{w:B_}{K:bi}{mg:Str->Option bn}{base:Heap}
theorem k9 (dn:DefN K mg "_law_reached" b0 ["_law_many", "_law_rows", "_law_clean_here"])(B:BI mg):OkN P w K mg base 1 "_law_reached" ["_law_many", "_law_rows", "_law_clean_here"] (spA K vO):=by
 refine dn.aok2 (k:=0) b8 (λj=>j==0||j==1||j==2) [.un,.un,.un,.un] vO rfl (λf cdv A outer s H E hr=>have hu:=cv hr;⟨_,(aw (bp (i:=3) b8.nd rfl (by first | exact Or.inl rfl | exact Or.inr rfl) (du ["_law_k"] [] rfl (Blk.of (ar b0) cQ) (fc rfl B.range_ (ah (pv 0) aA)) (λ_ _ _ _ nd=>(aF (i:=0) nd rfl (by first | exact Or.inl rfl | exact Or.inr rfl))) (λ_ _ _ _=>cB) (λ_ _ _ _=>(be nU aL (pv 0)))))
  (aw (j9 (i:=4) ["_law_row"] [3] b8.nd rfl (by first | exact Or.inl rfl | exact Or.inr rfl) rfl (Blk.of (ar b0) cQ) (bF K (pv 1)) (λ_ _ _ _ nd=>(aF (i:=0) nd rfl (by first | exact Or.inl rfl | exact Or.inr rfl))) (λ_ _ _ _=>(dS (bA (cI K) (pv 0) (pv 1) rfl))) (λ_ _ _ _=>(pv 0)))
  (aw (mE Cz (bA (ki K hr.units) (pv 4) (eD aA) (bR _))
  (aw (bp (i:=5) b8.nd rfl (by first | exact Or.inl rfl | exact Or.inr rfl) (eD aA))
  (aw (e_ Cz rfl (bF K (pv 4)) (aF (i:=6) b8.nd rfl (by first | exact Or.inl rfl | exact Or.inr rfl))
  (aH (dH (bA (ki K hr.units) (du ["_law_one"] [6,3,2] rfl (Blk.of (ar b0) cQ) (bF K (pv 3)) (λ_ _ _ _ nd=>(aF (i:=0) nd rfl (by first | exact Or.inl rfl | exact Or.inr rfl))) (λ_ _ _ _=>(dS (PW.pt (jt (bA (lH K) (be nR (pv 1) (pv 0)) (pv 2) rfl) (gh (PW.pt (yD (gj (eB K (pv 3) (λ_=>rfl))) (uv (bA (jv K hr.units) (be nX (pv 0) (be nR (pv 1) (pv 0))) aL (bR _)))))))))) (λ_ _ _ _=>(pv 0))) (eD aA) (bR _))
  (aH (eW (gm K CC CK CJ dc (pv 5) (ah (pv 6) aA))))
  bE)))
  (aw (dH (bA (jv K hr.units) (pv 5) (eD aA) (bR _))
  (aH (aZ dw))
  bE)
  (aw (bp (i:=3) b8.nd rfl (by first | exact Or.inl rfl | exact Or.inr rfl) (be (jd K) (pv 3) (pv 5)))
  (aH (j9 (i:=4) ["_law_row"] [5] b8.nd rfl (by first | exact Or.inl rfl | exact Or.inr rfl) rfl (Blk.of (ar b0) cQ) (bF K (pv 4)) (λ_ _ _ _ nd=>(aF (i:=0) nd rfl (by first | exact Or.inl rfl | exact Or.inr rfl))) (λ_ _ _ _=>(dS (bA (cI K) (pv 0) (pv 1) rfl))) (λ_ _ _ _=>(pv 0)))))))))
  (aH (aZ dw))))),(aE (a_ (bU (eZ (aa af aj)) (aq rfl) bY (aG ko aI af)) rfl)
  (aE (ir (bU (ba af) (aq rfl) (aV (aG (jw true) af af)) af) rfl)
  (aE (j2 (aV (aG km af (cU aj)))
  (aE (a_ (cU aj) rfl)
  (aE (dh (pin:=(λj=>j==4)) (ba af) (aq rfl)
  (cw (aV (aG km (bU (ba af) (aq rfl) (fw (aV (aG (jw false) (aG a9 af af) af)) (pq (cX (fu af)) (aV (aG jx (aG a9 af (aG a9 af af)) aI)))) af) (cU aj)))
  (dA (fA af (aa af aj)))
  bj))
  (aE (cw (aV (aG jx af (cU aj)))
  (aO cc)
  bj)
  (aE (a_ (aG je af af) rfl)
  (ir (bU (ba af) (aq rfl) (aV (aG (jw true) af af)) af) rfl))))))
  (aO cc))))⟩) ?_
 rintro ss q ⟨m,R,cl,s1,hs1,rfl,h6,nd,hR,hq⟩
 have dI:∀ {i:Int},D.depth (.int i)<=60:=λ{i}=>by simp[D.depth]
 have rl:R.length<=63:=le63 nd hR
 refine⟨by rcases hs1 with rfl | rfl <;> rfl,by rcases hs1 with rfl | rfl <;> rfl,?_⟩
 refine cutS (λρ=>ρ=[nv m,s1,.vl (.bl cl),.ow (ao (az m)),.un,.un,.un]) (λM hM=>?_) ?_
 ·refine⟨⟨by omega,by omega⟩,by rw[cT];omega,iU (λk=>.int (1 <<< k:Nat)) trivial (λk acc N hk hN=>?_) ?_⟩
  ·rw[FT]
   refine⟨⟨by omega,by omega,by decide⟩,?_⟩
   show N (acc++[.int ((1:Int)*2^((k:Int).toNat))]) _
   rw[j4];exact hN
  have e:((wl (m:Int).toNat).map λk=>D.int (1 <<< k:Nat))=ao (az m):=by
   rw[show(m:Int).toNat=m by omega]
   unfold az ao;rw[B3];rfl
  rw[e];exact hM _ rfl
 rintro _ rfl
 refine cutS (λρ=>ρ=[nv m,s1,.vl (.bl cl),.ow (ao (az m)),.ow (ao (R.filter λr=>!(az m++[]).contains r)),.un,.un]) (λM hM=>?_) ?_
 ·have hl:(ao R).length<=1000000:=by rw[bg];omega
  rw[Cc]at hM
  have hM':=hM _ rfl
  rcases hs1 with rfl | rfl
  ·refine⟨hl,dP nD (λr=>!(az m).contains r) nD trivial (λr acc N hr hN=>?_) hM'⟩
   refine iP (n:=r) (xs:=az m) rfl ?_
   cases h2:(az m).contains r <;> (rw[h2]at hN;exact hN)
  ·refine⟨rfl,hl,dP nD (λr=>!(az m).contains r) nD rfl (λr acc N hr hN=>?_) hM'⟩
   refine iP (n:=r) (xs:=az m) rfl ?_
   cases h2:(az m).contains r <;> (rw[h2]at hN;exact hN)
 rintro _ rfl
 refine cutS (λρ=>∃s3 s4 s5 s6,gg m R cl=true/\ρ=[nv m,s1,.vl (.bl cl),s3,s4,s5,s6]) (λM hM=>?_) ?_
 ·refine ph (λρ=>∃t s5 s6,Ext cl (az m) t/\(∀x∈t,x∈R)/\ρ=[nv m,s1,.vl (.bl cl),.ow (ao (az m++t)),.ow (ao (R.filter λr=>!(az m++t).contains r)),s5,s6]) (λρ=>match ρ with | [_,_,_,_,.ow ds,_,_]=>ds.length | _=>0) ?_ _ ⟨[],.un,.un,Ext.nil (nQ m),(λx hx=>by cases hx),by rw[Cc]⟩
  rintro _ N ⟨t,s5,s6,ex,ht,rfl⟩ hN
  have hK:∀r∈az m++t,1<=r/\r<64:=λr hr=>(xL.mp hr).elim (iG h6 r) λz=>hR r (ht r z)
  have kl:(az m++t).length<=63:=le63 ex.nd hK
  generalize hKe:az m++t=K at *
  generalize hLe:(R.filter λr=>!K.contains r)=L at *
  have ll:L.length<=63:=by rw[<- hLe];exact xz (CD _ _) rl
  have Ll:∀r,r∈L↔r∈R/\r∉K:=λr=>by rw[<- hLe,AC,C3,<- C0,sB]
  have Lnd:L.Nodup:=by rw[<- hLe];exact nd.sublist D6
  have eqE:∀xs:List Nat,eqD (.lst (ao xs)) (.lst [])=xs.isEmpty:=λxs=>by cases xs <;> rfl
  have dE:∀xs:List Nat,(D.lst (ao xs)).depth<=60:=λxs=>by have:=kQ xs;simp only[D.depth];omega
  by_cases hL:L=[]
  ·subst hL
   refine⟨B0 _,dM (b:=true) rfl rfl (dE []) rfl (hM _ ⟨_,_,s5,s6,sC ex ht λx hx=>?_,rfl⟩)⟩
   rw[hKe]
   apply Eo
   intro z
   have:=(Ll x).mpr ⟨hx,z⟩
   cases this
  ·obtain⟨y,yL⟩:=HC _ hL
   refine⟨B0 _,dM (b:=false) rfl rfl (dE L) ((eqE L).trans (by cases L with | nil=>exact absurd rfl hL | cons=>rfl)) ?_⟩
   have lK:(ao K).length<=1000000:=by rw[bg];omega
   have lL:(ao L).length<=1000000:=by rw[bg];omega
   simp only[if_true,JR]
   refine cutS (λρ=>ρ=[nv m,s1,.vl (.bl cl),.ow (ao K),.ow (ao L),.ow (ao []),s6]) (λM hM=>⟨B0 _,hM _ rfl⟩) ?_
   rintro _ rfl
   refine cutS (λρ=>∃s6,ρ=[nv m,s1,.vl (.bl cl),.ow (ao K),.ow (ao L),.ow (ao (L.filter (b6 cl K))),s6]) (λM hM=>?_) ?_
   ·refine⟨rfl,?_⟩
    refine iR nD (λk ρ=>∃s6,ρ=[nv m,s1,.vl (.bl cl),.ow (ao K),.ow (ao L),.ow (ao ((L.take k).filter (b6 cl K))),s6]) (λ_ ρ ⟨_,e⟩=>by rw[e];rfl) ?_ (λρ ⟨s6,e⟩=>by rw[Cp]at e;exact hM _ ⟨s6,e⟩) ⟨s6,rfl⟩
    rintro k r _ N hr ⟨s6,rfl⟩ hN
    have hrL:=Cd hr
    have r1:=(hR r ((Ll r).mp hrL).1).1
    have fs:(L.take (k+1)).filter (b6 cl K)=(L.take k).filter (b6 cl K)++if b6 cl K r=true then[r]else[]:=by
     rw[CG,hr,DP,Fu]
     congr 1
     cases h:b6 cl K r <;> simp[h]
    refine gaN1 ?_
    have hfl:(K.filter λo=>K.contains (r ^^^ o)&&mayN cl o (r ^^^ o)).isEmpty = !b6 cl K r:=by
     cases h:b6 cl K r with
     | false=>rw[(rK r1).mpr h];rfl
     | true=>exact D1.mpr λz=>by have:=(rK r1).mp (Jr.mp z);rw[h]at this;cases this
    refine⟨rfl,lK,dP nD (λo=>K.contains (r ^^^ o)&&mayN cl o (r ^^^ o)) nD rfl (λo acc N ho hN=>?_) ?_⟩
    ·show gIn false (.d (.int (EI (r:Int) (o:Int)))) (.o 2) _ _
     rw[mh]
     refine iP (n:=r ^^^ o) (xs:=K) rfl ?_
     cases h2:K.contains (r ^^^ o)with
     | false=>rw[h2]at hN;exact hN
     | true =>
      rw[h2,DD]at hN
      cases cl with
      | false=>exact hN
      | true =>
       refine dM (b:=decide (o &&& (r ^^^ o)=0)) rfl rfl dI (by rw[mh];exact eqX) ?_
       have em:mayN true o (r ^^^ o)=decide (o &&& (r ^^^ o)=0):=rfl
       rw[em]at hN
       cases h3:decide (o &&& (r ^^^ o)=0) <;> (rw[h3]at hN;exact hN)
    refine⟨B0 _,dM (b:=!b6 cl K r) rfl rfl (dE _) ((eqE _).trans hfl) ?_⟩
    cases h:b6 cl K r with
    | true =>
     rw[h,if_pos rfl]at fs
     refine⟨by rw[bg];exact xz (CD _ _) (by rw[B6];omega),hN _ ⟨_,by rw[fs,dy];rfl⟩⟩
    | false =>
     rw[h,if_neg (by decide),Cc]at fs
     exact hN _ ⟨_,by rw[fs];rfl⟩
   rintro _ ⟨s6,rfl⟩
   have hnx:∀r∈L.filter (b6 cl K),b6 cl K r=true/\r∉K:=λr hr=>⟨(AC.mp hr).2,((Ll r).mp (AC.mp hr).1).2⟩
   have hH:(L.filter (b6 cl K)).length<=63:=xz (CD _ _) ll
   refine cutS (λρ=>L.filter (b6 cl K)≠[]/\ρ=[nv m,s1,.vl (.bl cl),.ow (ao K),.ow (ao L),.ow (ao (L.filter (b6 cl K))),s6]) (λM hM=>?_) ?_
   ·by_cases hz:L.filter (b6 cl K)=[]
    ·have e:gg m R cl=false:=by
      refine pO (t:=t) (y:=y) ((Ll y).mp yL).1 (by rw[hKe];exact((Ll y).mp yL).2) λx hx hx2=>?_
      rw[hKe]at hx2 ⊢
      apply D1.mpr
      intro z
      have:x∈L.filter (b6 cl K):=AC.mpr ⟨(Ll x).mpr ⟨hx,hx2⟩,z⟩
      rw[hz]at this
      cases this
     rw[e]at hq
     refine⟨B0 _,dM (b:=true) rfl rfl (dE _) (by rw[hz];rfl) ?_⟩
     rcases hs1 with rfl | rfl <;> exact hq
    ·refine⟨B0 _,dM (b:=false) rfl rfl (dE _) ((eqE _).trans (D1.mpr λz=>hz (Jr.mp z))) ?_⟩
     exact hM _ ⟨hz,rfl⟩
   rintro _ ⟨hz,rfl⟩
   generalize hHe:L.filter (b6 cl K)=H at *
   refine cutS (λρ=>ρ=[nv m,s1,.vl (.bl cl),.ow (ao (K++H)),.ow (ao L),.ow (ao H),s6]) (λM hM=>⟨by rw[bg,bg];omega,by have:=hM _ rfl;unfold ao at this ⊢;rw[Cb]at this;exact this⟩) ?_
   rintro _ rfl
   have eR:(R.filter λr=>!(az m++(t++H)).contains r)=L.filter λr=>!H.contains r:=by
    rw[<- hLe,Ja,<- Ck,hKe]
    apply Ji
    intro x _
    rw[Eh]
    simp only[C3,BX,<- C0,sB,xL,not_or]
    exact And.comm
   refine⟨rfl,lL,dP nD (λr=>!H.contains r) nD rfl (λr acc N hr hN=>?_) ?_⟩
   ·refine iP (n:=r) (xs:=H) rfl ?_
    cases h2:H.contains r <;> (rw[h2]at hN;exact hN)
   ·refine hN _ ⟨t++H,.ow (ao H),s6,ex.many (λr hr=>by rw[hKe];exact hnx r hr) (by rw[<- hHe];exact Lnd.sublist D6),λx hx=>?_,by rw[eR,<- Ck,hKe];rfl⟩ ?_
    ·rcases xL.mp hx with z | z
     ·exact ht x z
     ·rw[<- hHe]at z
      exact((Ll x).mp (AC.mp z).1).1
    ·show(ao (L.filter λr=>!H.contains r)).length<(ao L).length
     rw[bg,bg]
     obtain⟨h,hh⟩:=HC _ hz
     refine List.length_filter_lt_length_iff_exists.mpr ⟨h,?_,?_⟩
     ·rw[<- hHe]at hh;exact(AC.mp hh).1
     ·rw[sB.mpr hh];decide
 rintro _ ⟨s3,s4,s5,s6,e,rfl⟩
 rw[e]at hq
 rcases hs1 with rfl | rfl <;> exact hq
end
def lsD (S:List Nat):D:=.lst (ao S)
def zL:ASp:=λss q=>∃(O:List Nat) (z:Int),ss=[.ow (ao O),.vl (.int z)]/\O.Nodup/\O.length<=11/\∀Ls:List (List Nat),(∀S∈Ls,S.Nodup/\∀x∈S,x∈O)->Ls.length<=1000->q (.f (Ls.map lsD)) [.ow (ao O),.vl (.int z)]
theorem qg {ns':List Int}(up:ns'.Pairwise (· < ·))(h:∀x∈ns',0<=x):∃Y:List Nat,ns'=Y.map (λr=>((r:Nat):Int))/\Y.Nodup:=by
 have e:ns'=(ns'.map Int.toNat).map (λr=>((r:Nat):Int)):=by
  rw[B3]
  conv=>lhs;rw[<- Kr ns']
  refine Ez λx hx=>?_
  have:=h x hx
  show x=((x.toNat:Nat):Int)
  omega
 refine⟨ns'.map Int.toNat,e,?_⟩
 rw[e,GH]at up
 exact up.imp λ{a b} h z=>by subst z;omega
def wtB (r:Nat):Bool:=!(eqD (.int (CM (r:Int) ((r:Int) - 1))) (.int 0))
theorem tD:∀r,r<16->1<=r->(wtB r=true↔r∉az 4):=λr h1 h2=>by
 have key:∀r:Nat,r<16->1<=r->(decide (CM (r:Int) ((r:Int) - 1)=0)=(az 4).contains r):=by decide +kernel
 have k:=key r h1 h2
 have e:wtB r = !decide (CM (r:Int) ((r:Int) - 1)=0):=rfl
 rw[e,k,C3,<- C0,sB]
theorem wX {m:Nat}{W Y:List Nat}{cl:Bool}(h:eU m W)(h4:m<=4)(hr:∀r∈W,r<2^m)(nd:Y.Nodup)(hY:∀r∈Y,r∈W/\r∉az m):Y.length<=cj m W cl:=by
 obtain⟨L,e⟩:=mN h h4 hr cl
 obtain⟨t,_,hl,ex,hW⟩:=uc h.w (iG h.m6) (nQ m) e
 refine xz (Cj nd λr hr=>?_) hl
 obtain⟨a,b⟩:=hY r hr
 have:=hW r a
 subst_vars
 rcases xL.mp this with z | z
 ·exact absurd z b
 ·exact z
theorem uW {m:Nat}{W R:List Nat}{cl:Bool}(h:eU m W)(nd:R.Nodup)(hR:gg m R cl=true)(hW:∀r∈W,r∉az m->r∈R):cj m W cl<=R.length:=by
 obtain⟨t,ex,hl,ht⟩:=wy hR nd
 refine rL h ⟨t,ex,hl,λr hr=>?_⟩
 by_cases z:r∈az m
 ·exact BW _ z
 ·exact ht r (hW r hr z)
theorem yO {W kn sh:List Nat}{cl:Bool}{lf:Nat}{p:D}(h:Pap W cl lf kn sh p):∃ds,p = .tup ds:=by
 rcases(uD (c:=⟨W,cl,kn,sh,lf⟩)).mp h with h | ⟨_,h,_⟩ | ⟨_,_,h,_⟩ | ⟨_,h,_⟩
 ·exact⟨_,h.1⟩
 all_goals exact⟨_,h⟩
theorem wJ {m:Nat}{W:List Nat}{cl:Bool}(h:eU m W)(h4:m<=4)(hr:∀r∈W,r<2^m):u6 (papD m W cl (cj m W cl))=decide (cj m W cl=0):=by
 cases e:cj m W cl with
 | zero=>rfl
 | succ n =>
  obtain⟨p,ep⟩:=mL (m:=m) (W:=W) (cl:=cl) (n:=n) (by omega)
  obtain⟨ds,rfl⟩:=yO (nG (iG h.m6) ep)
  have:papD m W cl (n+1) = .tup ds:=by
   show pw (srN W cl n (az m) [])=_
   rw[ep];rfl
  rw[this]
  rfl
theorem A6 (js:List (Nat×Nat)):eqD (.tup (js.map L2.bq)) (.tup [])=decide (js.length=0):=by cases js <;> rfl
theorem w5 (js:List (Nat×Nat)):(D.tup (js.map L2.bq)).depth<=60:=by
 have h1:depths (js.map L2.bq)<=1:=oO λd hd=>by
  obtain⟨p,_,rfl⟩:=Ch.mp hd
  unfold L2.bq
  simp[D.depth,depths]
 simp only[D.depth]
 omega
section
variable {P:wS}{w:B_}{K:bi}{mg:Str->Option bn}{base:Heap}
theorem pW (dn:DefN K mg "_law_sets" d8 ["_law_rows", "_law_most"])(B:BI mg):OkN P w K mg base 1 "_law_sets" ["_law_rows", "_law_most"] (spA K zL):=by
 refine dn.aok2 (k:=0) en (λj=>j==0||j==1) [.un,.un] zL rfl (λf cdv A outer s H E hr=>have hu:=cv hr;⟨_,(aw (bp (i:=2) en.nd rfl (by first | exact Or.inl rfl | exact Or.inr rfl) (eD (ah (eD aA) aA)))
  (aw (dH (bA sE (pv 1) aL (bR _))
  (aH (bp (i:=2) en.nd rfl (by first | exact Or.inl rfl | exact Or.inr rfl) (be (jd K) (pv 2) (du ["_law_row"] [] rfl (Blk.of (ar d8) h_) (bF K (pv 0)) (λ_ _ _ _ nd=>(aF (i:=0) nd rfl (by first | exact Or.inl rfl | exact Or.inr rfl))) (λ_ _ _ _=>cB) (λ_ _ _ _=>(eD (ah (pv 0) aA)))))))
  bE)
  (aw (dH (bA sE (pv 1) aL (bR _))
  (aH (e_ Cz rfl (fc rfl B.range_ (ah (bh (bN K) rfl B.len_ dU (ah (pv 0) aA)) aA)) (aF (i:=3) en.nd rfl (by first | exact Or.inl rfl | exact Or.inr rfl))
  (aH (bp (i:=2) en.nd rfl (by first | exact Or.inl rfl | exact Or.inr rfl) (be (jd K) (pv 2) (du ["_law_other"] [0,3] rfl (Blk.of (ar d8) h_) (bF K (g0 (gP K) (pv 0) jb (ja (pv 3)))) (λ_ _ _ _ nd=>(aF (i:=0) nd rfl (by first | exact Or.inl rfl | exact Or.inr rfl))) (λ_ _ _ _=>cB) (λ_ _ _ _=>(eD (ah (b9 (aU K) (pv 1) (pv 2) (λ_ _=>rfl)) (ah (pv 0) aA))))))))))
  bE)
  (aH (aZ (pv 2)))))),(aE (a_ (cU (aa (cU aj) aj)) rfl)
  (aE (cw (aV (aG cC af aI))
  (a_ (aG je af (bU (ba af) (aq rfl) bY (cU (aa af aj)))) rfl)
  bj)
  (aE (cw (aV (aG cC af aI))
  (dh (pin:=(λ_=>false)) (eZ (aa (bZ cK (aa af aj)) aj)) (aq rfl)
  (a_ (aG je af (bU (ba (jX af jW (f_ af))) (aq rfl) bY (cU (aa (aG bf af af) (aa af aj))))) rfl))
  bj)
  (aO af))))⟩) ?_
 rintro ss q ⟨O,z,rfl,nd,hO,hq⟩
 refine⟨rfl,rfl,?_⟩
 have Ol:(ao O).length<=1000000:=by rw[bg];omega
 have catL:∀(A B:List (List Nat)),A.map lsD++B.map lsD=(A++B).map lsD:=λA B=>by rw[Cb]
 refine cutS (λρ=>ρ=[.ow (ao O),.vl (.int z),.ow (([[]]:List (List Nat)).map lsD),.un]) (λM hM=>⟨by simp,by simp,hM _ rfl⟩) ?_
 rintro _ rfl
 refine cutS (λρ=>∃Ls:List (List Nat),(∀S∈Ls,S.Nodup/\∀x∈S,x∈O)/\Ls.length<=12/\ρ=[.ow (ao O),.vl (.int z),.ow (Ls.map lsD),.un]) (λM hM=>?_) ?_
 ·have h0:∀S∈([[]]:List (List Nat)),S.Nodup/\∀x∈S,x∈O:=λS hS=>by rw[sn.mp hS];exact⟨Hr,λx hx=>by cases hx⟩
  show if decide ((0:Int)<z)=true then _ else _
  by_cases h:(0:Int)<z
  ·rw[if_pos (decide_eq_true h)]
   refine⟨rfl,Ol,gH nD (λr=>lsD [r]) rfl (λr acc N hr hN=>⟨by simp,hN⟩) ?_⟩
   refine⟨by rw[f8,f8];simp only[At,FS];omega,?_⟩
   have e:O.map (λr=>lsD [r])=(O.map λr=>[r]).map lsD:=by rw[B3];rfl
   rw[e]
   refine hM _ ⟨[[]]++O.map λr=>[r],λS hS=>?_,by rw[wP,f8];simp only[At,FS];omega,by rw[<- catL];rfl⟩
   rcases xL.mp hS with q | q
   ·exact h0 S q
   ·obtain⟨r,hr,rfl⟩:=Ch.mp q
    exact⟨by simp,λx hx=>by rw[sn.mp hx];exact hr⟩
  ·rw[if_neg (by rw[decide_eq_true_eq];exact h)]
   exact hM _ ⟨[[]],h0,by decide,rfl⟩
 rintro _ ⟨Ls,hLs,hll,rfl⟩
 refine cutS (λρ=>∃(Ls:List (List Nat)) (s3:Sv),(∀S∈Ls,S.Nodup/\∀x∈S,x∈O)/\Ls.length<=1000/\ρ=[.ow (ao O),.vl (.int z),.ow (Ls.map lsD),s3]) (λM hM=>?_) ?_
 ·show if decide ((1:Int)<z)=true then _ else _
  by_cases h:(1:Int)<z
  ·rw[if_pos (decide_eq_true h)]
   refine⟨⟨by omega,by rw[bg];omega⟩,?_⟩
   refine xk (λk ρ=>∃(Ls:List (List Nat)) (s3:Sv),(∀S∈Ls,S.Nodup/\∀x∈S,x∈O)/\Ls.length<=12+11*k/\ρ=[.ow (ao O),.vl (.int z),.ow (Ls.map lsD),s3]) (λ_ _ _=>trivial) ?_ (λρ ⟨Ls,s3,a,b,e⟩=>hM ρ ⟨Ls,s3,a,by rw[bg]at b;omega,e⟩) ⟨Ls,.un,hLs,by omega,rfl⟩
   rintro k ρ N hk ⟨Ls,s3,hLs,hll,rfl⟩ hN
   have hk:k<O.length:=by rw[bg]at hk;omega
   refine gaN1 ?_
   rw[FT]
   have eT:cutD (ao O) none (some ((k:Nat):Int))=ao (O.take k):=by rw[ft];unfold ao;rw[E2]
   refine⟨by rw[eT,bg,B6];omega,?_⟩
   rw[eT]
   refine gH nD (λr=>lsD [O.getD k 0,r]) trivial (λr acc N hr hN=>bt rfl hk ⟨by simp,hN⟩) ?_
   refine⟨by rw[f8,f8,B6];omega,?_⟩
   have e:(O.take k).map (λr=>lsD [O.getD k 0,r])=((O.take k).map λr=>[O.getD k 0,r]).map lsD:=by rw[B3];rfl
   rw[e]
   refine hN _ ⟨Ls++(O.take k).map λr=>[O.getD k 0,r],nv k,λS hS=>?_,by rw[wP,f8,B6];omega,by rw[<- catL];rfl⟩
   rcases xL.mp hS with q | q
   ·exact hLs S q
   ·obtain⟨r,hr,rfl⟩:=Ch.mp q
    have hr':=IC hr
    refine⟨Ef.mpr ⟨λz=>?_,by simp⟩,λx hx=>?_⟩
    ·rw[<- sn.mp z]at hr
     obtain⟨j,h1,h2,e⟩:=dX.mp hr
     rw[ga,ga,bv h2,bv hk]at e
     have:=Dw.mp (Hs.mp nd) j k h2 hk h1
     exact this e
    ·rcases sK.mp hx with rfl | hx
     ·exact d4 hk
     ·rw[sn.mp hx];exact hr'
  ·rw[if_neg (by rw[decide_eq_true_eq];exact h)]
   exact hM _ ⟨Ls,.un,hLs,by omega,rfl⟩
 rintro _ ⟨Ls,s3,hLs,hll,rfl⟩
 exact hq Ls hLs hll
theorem Ap (dn:DefN K mg "law" sy ["_law_script"])(B:BI mg)(g_law_tape:OkN P w K mg base 1 "_law_tape" ["_law_script"] (spA K zK))(g_law_small_wish:OkN P w K mg base 2 "_law_small_wish" ["_law_tape_here", "_law_low", "_law_most"] (spA K vN))(g_least:OkN P w K mg base 32 "least" ["wish", "clean"] (spA K vQ))(g_law_sets:OkN P w K mg base 1 "_law_sets" ["_law_rows", "_law_most"] (spA K zL))(g_law_draw:OkN P w K mg base 1 "_law_draw" ["_law_tape_here", "_law_many"] (spA K xF))(g_law_makes:OkN P w K mg base 5 "_law_makes" ["_law_net", "_law_wish"] (spA K vP))(g_law_reached:OkN P w K mg base 1 "_law_reached" ["_law_many", "_law_rows", "_law_clean_here"] (spA K vO))(g_law_clean:OkN P w K mg base 1 "_law_clean" ["_law_net"] (spA K vV)):OkN P w K mg base 33 "law" ["_law_script"] (spA K SLaw):=by
 refine dn.aok2 (k:=32) iw (λj=>j==0) [.un,.un,.un,.un,.un,.un,.un,.un] SLaw rfl (λf cdv A outer s H E hr=>have hu:=cv hr;⟨_,(aw (bp (i:=1) iw.nd rfl (by first | exact Or.inl rfl | exact Or.inr rfl) (bJ g_law_tape (hr.mono (by decide)) (ah (pv 0) aA)))
  (aw (bp (i:=2) iw.nd rfl (by first | exact Or.inl rfl | exact Or.inr rfl) (bJ g_law_small_wish (hr.mono (by decide)) (ah (pv 1) (ah aL (ah aL aA)))))
  (aw (bp (i:=3) iw.nd rfl (by first | exact Or.inl rfl | exact Or.inr rfl) (sD K rfl rfl B.sorted_ rfl B.set_ (ah (du ["_law_row"] [] rfl (Blk.of (ar sy) uL) (bF K (b9 (aU K) (pv 2) aL (λ_ _=>rfl))) (λ_ _ _ _ nd=>(aF (i:=0) nd rfl (by first | exact Or.inl rfl | exact Or.inr rfl))) (λ_ _ _ _=>(dS (bA (ki K hr.units) (be nX (pv 0) (be gr (pv 0) aL)) aL (bR _)))) (λ_ _ _ _=>(pv 0))) aA)))
  (aw (j9 (i:=4) ["_law_row"] [3] iw.nd rfl (by first | exact Or.inl rfl | exact Or.inr rfl) rfl (Blk.of (ar sy) uL) (uB rfl B.range_ (ah aL (ah aL aA))) (λ_ _ _ _ nd=>(aF (i:=0) nd rfl (by first | exact Or.inl rfl | exact Or.inr rfl))) (λ_ _ _ _=>(dS (PW.pt (jt (bA (ki K hr.units) (be nX (pv 0) (be gr (pv 0) aL)) aL (bR _)) (gh (bA (cI K) (pv 0) (pv 1) rfl)))))) (λ_ _ _ _=>(pv 0)))
  (aw (bp (i:=5) iw.nd rfl (by first | exact Or.inl rfl | exact Or.inr rfl) (eE (jv K hr.units) (bJ g_law_draw (hr.mono (by decide)) (ah (pv 1) (ah aL aA))) aL (bR _)))
  (aw (eO (bJ g_least (hr.mono (by decide)) (ah (pv 2) (ah (pv 5) aA))) (bC K (n:=2) rfl (aJ (aF (i:=6) iw.nd rfl (by first | exact Or.inl rfl | exact Or.inr rfl)) (aJ (aF (i:=7) iw.nd rfl (by first | exact Or.inl rfl | exact Or.inr rfl)) bB))))
  (aw (dH (PW.pt (yD (gj (eM (bJ g_law_makes (hr.mono (by decide)) (ah (pv 6) (ah (pv 2) aA))))) (uv (PW.pt (jt (eB K (pv 5) (λ_=>rfl)) (gh (gj (eM (bJ g_law_clean (hr.mono (by decide)) (ah (pv 6) aA))))))))))
  (aH (aZ dw))
  bE)
  (aw (e_ Cz rfl (bF K (bJ g_law_sets (hr.mono (by decide)) (ah (pv 4) (ah (bh (oV rfl) rfl B.min_ yb (ah aL (ah (be gr (be gr (bh (bN K) rfl B.len_ dU (ah (b9 (aU K) (pv 6) aL (λ_ _=>rfl)) aA)) (bh (bN K) rfl B.len_ dU (ah (pv 3) aA))) aL) aA))) aA)))) (aF (i:=8) iw.nd rfl (by first | exact Or.inl rfl | exact Or.inr rfl))
  (aH (dH (PW.pt (jt (bA yR (be eP (bh (bN K) rfl B.len_ dU (ah (pv 3) aA)) (bh (bN K) rfl B.len_ dU (ah (pv 8) aA))) (bh (bN K) rfl B.len_ dU (ah (b9 (aU K) (pv 6) aL (λ_ _=>rfl)) aA)) (bR _)) (gh (eM (bJ g_law_reached (hr.mono (by decide)) (ah aL (ah (be (jd K) (pv 3) (pv 8)) (ah (pv 5) aA))))))))
  (aH (aZ dw))
  bE)))
  (aH (aZ (gp (eE yS (bh (bN K) rfl B.len_ dU (ah (b9 (aU K) (pv 6) aL (λ_ _=>rfl)) aA)) (bh (bN K) rfl B.len_ dU (ah (pv 3) aA)) (bR _)) (ju (eE (jv K hr.units) (eE Ao (pv 7) xV (bR _)) (eE (jv K hr.units) (b9 (aU K) (pv 6) aL (λ_ _=>rfl)) (cO aA) (bR _)) (bR _)))))))))))))),(aE (a_ (aM (aa af aj)) rfl)
  (aE (a_ (aM (aa af (aa aI (aa aI aj)))) rfl)
  (aE (a_ (pz (aa (bU (ba (aG bf af aI)) (aq rfl) (aV (aG km (aG a9 af (aG a9 af aI)) aI)) af) aj)) rfl)
  (aE (ir (bU (tQ (aa aI (aa aI aj))) (aq rfl) (fw (aV (aG km (aG a9 af (aG a9 af aI)) aI)) (aV (aG (jw true) af af))) af) rfl)
  (aE (a_ (aG jx (aM (aa af (aa aI aj))) aI) rfl)
  (aE (cZ (aM (aa af (aa af aj))) (a8 (aD (aq rfl) (aD (aq rfl) aW (λ_ _ _=>aN)) (λ_ _ _=>aN))))
  (aE (cw (pq (cX (d_ (aM (aa af (aa af aj))))) (fw (fu af) (cX (d_ (aM (aa af aj))))))
  (aO cc)
  bj)
  (aE (dh (pin:=(λ_=>false)) (ba (aM (aa af (aa (bZ rV (aa aI (aa (aG a9 (aG a9 (bZ cK (aa (aG bf af aI) aj)) (bZ cK (aa af aj))) aI) aj))) aj)))) (aq rfl)
  (cw (fw (aV (aG cC (aG a9 (bZ cK (aa af aj)) (bZ cK (aa af aj))) (bZ cK (aa (aG bf af aI) aj)))) (d_ (aM (aa aI (aa (aG je af af) (aa af aj))))))
  (aO cc)
  bj))
  (aO (cY (aG cC (bZ cK (aa (aG bf af aI) aj)) (bZ cK (aa af aj))) (aG jx (aG yT af tL) (aG jx (aG bf af aI) (b7 aj)))))))))))))⟩) ?_
 rintro ss q ⟨ns,hl,rfl,hq⟩
 refine⟨rfl,rfl,rfl,ns,rfl,?_⟩
 dsimp only[stS,pt,back,R.frz]
 have dI:∀ {i:Int},D.depth (.int i)<=60:=λ{i}=>by simp[D.depth]
 refine cutS (λρ=>∃s0 W n1,eU 4 W/\(∀r∈W,r<2^4)/\n1<=40/\ρ=[s0,.tp n1,.vl (cb 4 W),.un,.un,.un,.un,.un,.un]) (λM hM=>⟨rfl,0,4,4,rfl,by omega,by decide,by decide,by decide,λm n1 W h1 h2 h3 h4 h5=>?_⟩) ?_
 ·obtain rfl:m=4:=by omega
  exact hM _ ⟨_,W,n1,h3,h4,by omega,rfl⟩
 rintro _ ⟨s0,W,n1,ok,hr,hn1,rfl⟩
 have w24:=ok.w24
 refine cutS (λρ=>∃Y:List Nat,Y.Nodup/\(∀r,r∈Y↔r∈W/\r∉az 4)/\ρ=[s0,.tp n1,.vl (cb 4 W),.ow (ao Y),.un,.un,.un,.un,.un]) (λM hM=>?_) ?_
 ·refine gC (i:=1) (d:=.tup (ao W)) rfl rfl ⟨by rw[bg];omega,?_⟩
  refine dP nD wtB nD trivial (λr acc N hr hN=>?_) ?_
  ·refine dM (b:=eqD (.int (CM (r:Int) ((r:Int) - 1))) (.int 0)) rfl rfl dI rfl ?_
   have hN:N (if(!(eqD (.int (CM (r:Int) ((r:Int) - 1))) (.int 0)))=true then acc++[nD r]else acc) _:=hN
   cases hb:eqD (.int (CM (r:Int) ((r:Int) - 1))) (.int 0)with
   | true=>rw[hb]at hN;exact hN
   | false=>rw[hb]at hN;exact hN
  ·refine qu (ns:=(W.filter wtB).map λr=>((r:Nat):Int)) (by rw[B3];rfl) (by rw[f8];have:=CD wtB W;omega) λns' up hm=>?_
   obtain⟨Y,e,nd⟩:=qg up λx hx=>by
    obtain⟨r,_,rfl⟩:=Ch.mp ((hm x).mp hx)
    omega
   subst e
   rw[B3]
   refine hM _ ⟨Y,nd,λr=>?_,rfl⟩
   have h1:=hm ((r:Nat):Int)
   rw[Ch,Ch]at h1
   constructor
   ·intro hr'
    obtain⟨r2,h2,e⟩:=h1.mp ⟨r,hr',rfl⟩
    obtain rfl:r2=r:=by omega
    have h3:=AC.mp h2
    exact⟨h3.1,(tD r2 (hr r2 h3.1) (ok.w r2 h3.1).1).mp h3.2⟩
   ·rintro⟨h2,h3⟩
    obtain⟨r2,h4,e⟩:=h1.mpr ⟨r,AC.mpr ⟨h2,(tD r (hr r h2) (ok.w r h2).1).mpr h3⟩,rfl⟩
    obtain rfl:r2=r:=by omega
    exact h4
 rintro _ ⟨Y,Ynd,hY,rfl⟩
 have Yl:Y.length<=24:=xz (Cj Ynd λr hr=>((hY r).mp hr).1) w24
 refine cutS (λρ=>∃O:List Nat,O.Nodup/\O.length<=11/\(∀r∈O,1<=r/\r<16/\r∉Y)/\ρ=[s0,.tp n1,.vl (cb 4 W),.ow (ao Y),.ow (ao O),.un,.un,.un,.un]) (λM hM=>?_) ?_
 ·have e15:rngD 1 ((16:Int) - 1).toNat=ao ((wl 15).map (1 + ·)):=by
   unfold rngD ao
   rw[B3]
   exact Ez λx _=>congrArg D.int (by show(1:Int)+(x:Int)=((1+x:Nat):Int);omega)
  refine⟨⟨by decide,by decide⟩,by rw[cT];decide,?_⟩
  rw[e15]
  have n15:((wl 15).map (1 + ·)).Nodup:=by decide
  have mem15:∀r∈(wl 15).map (1 + ·),1<=r/\r<16:=by decide
  refine dP nD (λr=>wtB r && !Y.contains r) nD trivial (λr acc N hr hN=>?_) ?_
  ·refine dM (b:=eqD (.int (CM (r:Int) ((r:Int) - 1))) (.int 0)) rfl rfl dI rfl ?_
   have hN:N (if((!(eqD (.int (CM (r:Int) ((r:Int) - 1))) (.int 0))) && !Y.contains r)=true then acc++[nD r]else acc) _:=hN
   cases hb:eqD (.int (CM (r:Int) ((r:Int) - 1))) (.int 0)with
   | true=>rw[hb]at hN;exact hN
   | false =>
    rw[hb]at hN
    refine iP (n:=r) (xs:=Y) rfl ?_
    cases h2:Y.contains r <;> (rw[h2]at hN;exact hN)
  ·refine hM _ ⟨_,n15.sublist D6,?_,λr hr=>?_,rfl⟩
   ·have:((wl 15).map (1 + ·)).filter (λr=>wtB r && !Y.contains r)=(((wl 15).map (1 + ·)).filter wtB).filter (λr=>!Y.contains r):=by
     rw[Ja]
     exact Ji λx _=>Bool.and_comm _ _
    rw[this]
    refine xz (CD _ _) ?_
    refine Cj (l₂:=[3,5,6,7,9,10,11,12,13,14,15]) (n15.sublist D6) λr hr=>?_
    have h1:=AC.mp hr
    have h2:=mem15 r h1.1
    have h3:=(tD r h2.2 h2.1).mp h1.2
    have key:∀r:Nat,r<16->1<=r->r∉az 4->r∈[3,5,6,7,9,10,11,12,13,14,15]:=by decide
    exact key r h2.2 h2.1 h3
   ·have h1:=AC.mp hr
    have h2:=mem15 r h1.1
    refine⟨h2.1,h2.2,λz=>?_⟩
    have:=h1.2
    rw[sB.mpr z,J5,Fv]at this
    cases this
 rintro _ ⟨O,Ond,Ol,hO,rfl⟩
 refine cutS (λρ=>∃cl,ρ=[s0,.tp (n1+1),.vl (cb 4 W),.ow (ao Y),.ow (ao O),.vl (.bl cl),.un,.un,.un]) (λM hM=>⟨rfl,n1,2,rfl,by omega,Dv.small (by decide) (by decide),λx hx=>dM rfl rfl dI rfl (hM _ ⟨_,rfl⟩)⟩) ?_
 rintro _ ⟨cl,rfl⟩
 obtain⟨N,LN⟩:=uX ok (by decide) hr cl
 have l11:=mM ok (by decide) hr cl
 have lY:=wX (cl:=cl) ok (by decide) hr Ynd λr h=>(hY r).mp h
 obtain⟨hT,hNn,hNm,hNw,hNl,hNc⟩:=LN
 refine cutS (λρ=>ρ=[s0,.tp (n1+1),.vl (cb 4 W),.ow (ao Y),.ow (ao O),.vl (.bl cl),.vl (netD N),.vl (papD 4 W cl (cj 4 W cl)),.un]) (λM hM=>⟨rfl,4,W,cl,rfl,ok,by decide,hr,?_⟩) ?_
 ·have:=hM _ rfl
  rw[<- hT]at this
  exact this
 rintro _ rfl
 refine cutS (λρ=>ρ=[s0,.tp (n1+1),.vl (cb 4 W),.ow (ao Y),.ow (ao O),.vl (.bl cl),.vl (netD N),.vl (papD 4 W cl (cj 4 W cl)),.un]) (λM hM=>⟨rfl,N,W,by rw[hNm];rfl,hNn,hNw,?_⟩) ?_
 ·cases cl with
  | false=>exact hM _ rfl
  | true=>exact⟨rfl,N,rfl,hNn,hNc rfl,hM _ rfl⟩
 rintro _ rfl
 refine cutS (λρ=>∃s8,ρ=[s0,.tp (n1+1),.vl (cb 4 W),.ow (ao Y),.ow (ao O),.vl (.bl cl),.vl (netD N),.vl (papD 4 W cl (cj 4 W cl)),s8]) (λM hM=>?_) ?_
 ·refine gC (i:=1) (d:=.tup (N.js.map L2.bq)) rfl rfl ?_
  refine⟨rfl,O,_,rfl,Ond,Ol,λLs hLs hLl=>?_⟩
  refine iR lsD (λ_ ρ=>∃s8,ρ=[s0,.tp (n1+1),.vl (cb 4 W),.ow (ao Y),.ow (ao O),.vl (.bl cl),.vl (netD N),.vl (papD 4 W cl (cj 4 W cl)),s8]) (λ_ _ _=>trivial) ?_ (λρ ⟨s8,e⟩=>hM ρ ⟨s8,e⟩) ⟨.un,rfl⟩
  rintro k S _ M2 hS ⟨s8,rfl⟩ hM2
  obtain⟨Snd,SO⟩:=hLs S (Cd hS)
  refine gaN1 ?_
  have no:M2 [s0,.tp (n1+1),.vl (cb 4 W),.ow (ao Y),.ow (ao O),.vl (.bl cl),.vl (netD N),.vl (papD 4 W cl (cj 4 W cl)),.vl (lsD S)]:=hM2 _ ⟨_,rfl⟩
  refine gC (i:=1) (d:=.tup (N.js.map L2.bq)) rfl rfl ?_
  have go:decide ((((ao Y).length:Nat):Int)+(((ao S).length:Nat):Int)<(((N.js.map L2.bq).length:Nat):Int))=decide (Y.length+S.length<N.js.length):=by
   rw[decide_eq_decide,bg,bg,f8];omega
  show if decide ((((ao Y).length:Nat):Int)+(((ao S).length:Nat):Int)<(((N.js.map L2.bq).length:Nat):Int))=true then _ else _
  rw[go]
  by_cases h:Y.length+S.length<N.js.length
  ·rw[if_pos (decide_eq_true h)]
   have nd:(Y++S).Nodup:=C_.mpr ⟨Ynd,Snd,λa ha b hb e=>(hO b (SO b hb)).2.2 (e▸ha)⟩
   have hb:gg 4 (Y++S) cl=false:=by
    apply D1.mpr
    intro z
    have:=uW ok nd z λr hr hr2=>BW _ ((hY r).mpr ⟨hr,hr2⟩)
    rw[wP]at this
    omega
   have eYS:ao Y++ao S=ao (Y++S):=by unfold ao;rw[Cb]
   refine⟨by rw[bg,bg];omega,rfl,4,Y++S,cl,.vl (.lst (ao (Y++S))),.inl rfl,by rw[<- eYS];rfl,by decide,nd,λr hr=>?_,?_⟩
   ·rcases xL.mp hr with z | z
    ·exact ok.w r ((hY r).mp z).1
    ·have:=hO r (SO r z);omega
   ·rw[hb];exact no
  ·rw[if_neg (by rw[decide_eq_true_eq];exact h)]
   exact no
 rintro _ ⟨s8,rfl⟩
 refine gC (i:=1) (d:=.tup (N.js.map L2.bq)) rfl rfl ?_
 have go:decide ((((ao Y).length:Nat):Int)<=(((N.js.map L2.bq).length:Nat):Int))=true:=by
  rw[decide_eq_true_eq,bg,f8];omega
 show if decide ((((ao Y).length:Nat):Int)<=(((N.js.map L2.bq).length:Nat):Int))=true then _ else _
 rw[if_pos go]
 have hp:=wJ (cl:=cl) ok (by decide) hr
 refine gC (i:=1) (d:=.tup (N.js.map L2.bq)) rfl rfl ?_
 refine⟨by simp,dM (b:=decide (N.js.length=0)) rfl rfl (w5 _) (A6 _) (dM (b:=true) rfl rfl (by simp[D.depth]) ?_ (hq _))⟩
 show eqD (.bl (u6 (papD 4 W cl (cj 4 W cl)))) (.bl (decide (N.js.length=0)))=true
 rw[hp,hNl]
 exact iS _
theorem fin (d_wall:DefN K mg "_wall" xP ["k"])(d_is_whole:DefN K mg "is_whole" gW ["thing", "least", "most"])(d_is_tuple:DefN K mg "is_tuple" gX ["thing", "least", "most"])(d_joined:DefN K mg "joined" jM ["one", "other"])(d_is_net:DefN K mg "is_net" jN ["thing"])(d_are_joins:DefN K mg "are_joins" fD ["many", "joins"])(d_is_join:DefN K mg "is_join" iE ["rows", "join"])(d_are_outs:DefN K mg "are_outs" e9 ["things", "outs"])(d_own_rows:DefN K mg "own_rows" e7 ["many"])(d_joining:DefN K mg "joining" iD ["one", "other"])(d_all_words:DefN K mg "all_words" fE ["net", "words"])(d_rows_of:DefN K mg "rows_of" iC ["net"])(d_first_cases:DefN K mg "first_cases" dZ ["wish", "clean", "count"])(d_may_join:DefN K mg "may_join" gT ["clean", "one", "other"])(d_tidied:DefN K mg "tidied" iB ["net"])(d_first_alike:DefN K mg "first_alike" d0 ["rows"])(d_leant_on:DefN K mg "leant_on" e8 ["net", "stands"])(d_tried:DefN K mg "tried" mx ["wish", "clean", "count"])(d_is_tried:DefN K mg "is_tried" gY ["many", "count"])(d_least:DefN K mg "least" my ["wish", "clean"])(d_searched:DefN K mg "searched" gR ["cases"])(d_searched_made:DefN K mg "searched_made" c9 ["cases", "row"])(d_searched_next:DefN K mg "searched_next" c8 ["cases", "free"])(d_net_of_rows:DefN K mg "net_of_rows" cH ["wish", "clean", "known"])(d_first_joining:DefN K mg "first_joining" cA ["things", "row", "clean"])(d_law_tape:DefN K mg "_law_tape" gU ["_law_script"])(d_law_draw:DefN K mg "_law_draw" gV ["_law_tape_here", "_law_many"])(d_law_reached:DefN K mg "_law_reached" b0 ["_law_many", "_law_rows", "_law_clean_here"])(d_law_small_wish:DefN K mg "_law_small_wish" cm ["_law_tape_here", "_law_low", "_law_most"])(d_law_makes:DefN K mg "_law_makes" dq ["_law_net", "_law_wish"])(d_law_clean:DefN K mg "_law_clean" eA ["_law_net"])(d_law_sets:DefN K mg "_law_sets" d8 ["_law_rows", "_law_most"])(d_law:DefN K mg "law" sy ["_law_script"])(c_MOST_GIVENS:∃u,mg "MOST_GIVENS" = some u/\RelV (.int 12) u)(c_MOST_JOINS:∃u,mg "MOST_JOINS" = some u/\RelV (.int 132) u)(c_MOST_OUTS:∃u,mg "MOST_OUTS" = some u/\RelV (.int 24) u)(c_FEW_GIVENS:∃u,mg "FEW_GIVENS" = some u/\RelV (.int 4) u)(c_FEW_GIVENS_COUNT:∃u,mg "FEW_GIVENS_COUNT" = some u/\RelV (.int 11) u)(c_MORE_GIVENS:∃u,mg "MORE_GIVENS" = some u/\RelV (.int 6) u)(c_MORE_GIVENS_COUNT:∃u,mg "MORE_GIVENS_COUNT" = some u/\RelV (.int 3) u)(oc_Cases:∃C_Cases:Addr,ClsO K mg C_Cases "Cases" ["wished", "clean", "known", "shut", "left"]/\DefM K C_Cases "__init__" "Cases.__init__" bz ["self", "wished", "clean", "known", "shut", "left"]/\DefM K C_Cases "with_row" "Cases.with_row" bx ["self", "row", "shut"]/\DefM K C_Cases "lacking" "Cases.lacking" bo ["self"]/\DefM K C_Cases "free_rows" "Cases.free_rows" aY ["self"]/\DefM K C_Cases "lacks_too_many" "Cases.lacks_too_many" aX ["self"]/\DefM K C_Cases "is_far" "Cases.is_far" bc ["self", "row"]/\DefM K C_Cases "shown_by" "Cases.shown_by" bW ["self", "paper"]/\DefM K C_Cases "shown_far" "Cases.shown_far" bP ["self", "row"]/\DefM K C_Cases "shown_made" "Cases.shown_made" bL ["self", "row", "paper"]/\DefM K C_Cases "shown_next" "Cases.shown_next" bK ["self", "papers"])(B:BI mg):OkN P w K mg base 33 "law" ["_law_script"] (yu K):=by
 obtain⟨C_Cases,o_Cases,d_Cases___init__,d_Cases_with_row,d_Cases_lacking,d_Cases_free_rows,d_Cases_lacks_too_many,d_Cases_is_far,d_Cases_shown_by,d_Cases_shown_far,d_Cases_shown_made,d_Cases_shown_next⟩:=oc_Cases
 have ob_Cases:=uK (P:=P) (w:=w) (base:=base) o_Cases d_Cases___init__
 exact
 have g_law_tape:=pV d_law_tape B
 have g_law_draw:=pX d_law_draw B
 have g_is_whole:=pY d_is_whole B
 have g_is_tuple:=pZ d_is_tuple B
 have g_joined:=uH d_joined B
 have g_own_rows:=pS d_own_rows B
 have g_may_join:=pT d_may_join B
 have g_Cases_with_row:=jg ob_Cases d_Cases_with_row B
 have g_Cases_lacking:=jC ob_Cases d_Cases_lacking B
 have g_Cases_lacks_too_many:=fG ob_Cases d_Cases_lacks_too_many B g_Cases_lacking
 have g_first_cases:=k_ ob_Cases d_first_cases B g_own_rows
 have g_Cases_free_rows:=iH ob_Cases d_Cases_free_rows B g_joined g_may_join
 have g_Cases_is_far:=kq ob_Cases d_Cases_is_far B g_joined g_may_join
 have z0_searched:=d_searched.no (P:=P) (w:=w) (mg:=mg) (base:=base) di 3
 have y0_searched_made:=aT 0 0 ob_Cases d_searched_made B g_Cases_with_row z0_searched
 have y0_searched_next:=aS 0 0 ob_Cases d_searched_next B g_Cases_with_row z0_searched
 have z1_searched:=bD 0 0 ob_Cases d_searched B g_Cases_lacking g_Cases_lacks_too_many g_Cases_free_rows g_Cases_is_far y0_searched_next y0_searched_made
 have y1_searched_made:=aT 1 2 ob_Cases d_searched_made B g_Cases_with_row z1_searched
 have y1_searched_next:=aS 1 2 ob_Cases d_searched_next B g_Cases_with_row z1_searched
 have z2_searched:=bD 1 2 ob_Cases d_searched B g_Cases_lacking g_Cases_lacks_too_many g_Cases_free_rows g_Cases_is_far y1_searched_next y1_searched_made
 have y2_searched_made:=aT 2 4 ob_Cases d_searched_made B g_Cases_with_row z2_searched
 have y2_searched_next:=aS 2 4 ob_Cases d_searched_next B g_Cases_with_row z2_searched
 have z3_searched:=bD 2 4 ob_Cases d_searched B g_Cases_lacking g_Cases_lacks_too_many g_Cases_free_rows g_Cases_is_far y2_searched_next y2_searched_made
 have y3_searched_made:=aT 3 6 ob_Cases d_searched_made B g_Cases_with_row z3_searched
 have y3_searched_next:=aS 3 6 ob_Cases d_searched_next B g_Cases_with_row z3_searched
 have z4_searched:=bD 3 6 ob_Cases d_searched B g_Cases_lacking g_Cases_lacks_too_many g_Cases_free_rows g_Cases_is_far y3_searched_next y3_searched_made
 have y4_searched_made:=aT 4 8 ob_Cases d_searched_made B g_Cases_with_row z4_searched
 have y4_searched_next:=aS 4 8 ob_Cases d_searched_next B g_Cases_with_row z4_searched
 have z5_searched:=bD 4 8 ob_Cases d_searched B g_Cases_lacking g_Cases_lacks_too_many g_Cases_free_rows g_Cases_is_far y4_searched_next y4_searched_made
 have y5_searched_made:=aT 5 10 ob_Cases d_searched_made B g_Cases_with_row z5_searched
 have y5_searched_next:=aS 5 10 ob_Cases d_searched_next B g_Cases_with_row z5_searched
 have z6_searched:=bD 5 10 ob_Cases d_searched B g_Cases_lacking g_Cases_lacks_too_many g_Cases_free_rows g_Cases_is_far y5_searched_next y5_searched_made
 have y6_searched_made:=aT 6 12 ob_Cases d_searched_made B g_Cases_with_row z6_searched
 have y6_searched_next:=aS 6 12 ob_Cases d_searched_next B g_Cases_with_row z6_searched
 have z7_searched:=bD 6 12 ob_Cases d_searched B g_Cases_lacking g_Cases_lacks_too_many g_Cases_free_rows g_Cases_is_far y6_searched_next y6_searched_made
 have y7_searched_made:=aT 7 14 ob_Cases d_searched_made B g_Cases_with_row z7_searched
 have y7_searched_next:=aS 7 14 ob_Cases d_searched_next B g_Cases_with_row z7_searched
 have z8_searched:=bD 7 14 ob_Cases d_searched B g_Cases_lacking g_Cases_lacks_too_many g_Cases_free_rows g_Cases_is_far y7_searched_next y7_searched_made
 have y8_searched_made:=aT 8 16 ob_Cases d_searched_made B g_Cases_with_row z8_searched
 have y8_searched_next:=aS 8 16 ob_Cases d_searched_next B g_Cases_with_row z8_searched
 have z9_searched:=bD 8 16 ob_Cases d_searched B g_Cases_lacking g_Cases_lacks_too_many g_Cases_free_rows g_Cases_is_far y8_searched_next y8_searched_made
 have y9_searched_made:=aT 9 18 ob_Cases d_searched_made B g_Cases_with_row z9_searched
 have y9_searched_next:=aS 9 18 ob_Cases d_searched_next B g_Cases_with_row z9_searched
 have z10_searched:=bD 9 18 ob_Cases d_searched B g_Cases_lacking g_Cases_lacks_too_many g_Cases_free_rows g_Cases_is_far y9_searched_next y9_searched_made
 have y10_searched_made:=aT 10 20 ob_Cases d_searched_made B g_Cases_with_row z10_searched
 have y10_searched_next:=aS 10 20 ob_Cases d_searched_next B g_Cases_with_row z10_searched
 have z11_searched:=bD 10 20 ob_Cases d_searched B g_Cases_lacking g_Cases_lacks_too_many g_Cases_free_rows g_Cases_is_far y10_searched_next y10_searched_made
 have y11_searched_made:=aT 11 22 ob_Cases d_searched_made B g_Cases_with_row z11_searched
 have y11_searched_next:=aS 11 22 ob_Cases d_searched_next B g_Cases_with_row z11_searched
 have z12_searched:=bD 11 22 ob_Cases d_searched B g_Cases_lacking g_Cases_lacks_too_many g_Cases_free_rows g_Cases_is_far y11_searched_next y11_searched_made
 have y12_searched_made:=aT 12 24 ob_Cases d_searched_made B g_Cases_with_row z12_searched
 have y12_searched_next:=aS 12 24 ob_Cases d_searched_next B g_Cases_with_row z12_searched
 have z13_searched:=bD 12 24 ob_Cases d_searched B g_Cases_lacking g_Cases_lacks_too_many g_Cases_free_rows g_Cases_is_far y12_searched_next y12_searched_made
 have g_searched:=z13_searched
 have g_joining:=sG d_joining B
 have g_all_words:=n5 d_all_words B g_joined
 have g_rows_of:=sF d_rows_of B g_all_words g_own_rows
 have g_first_alike:=la d_first_alike B
 have g_leant_on:=pU d_leant_on B
 have g_tidied:=uG d_tidied B g_first_alike g_leant_on g_rows_of g_joining
 have g_first_joining:=jB d_first_joining B g_may_join g_joined
 have g_net_of_rows:=k8 d_net_of_rows B g_tidied g_first_joining
 have g_is_tried:=p4 d_is_tried B c_FEW_GIVENS_COUNT c_MORE_GIVENS_COUNT c_FEW_GIVENS c_MORE_GIVENS
 have g_tried:=wL d_tried B g_searched g_is_tried g_first_cases g_net_of_rows
 have g_least:=wM d_least B g_tried c_FEW_GIVENS
 have g_is_join:=sH d_is_join B g_is_tuple g_is_whole
 have g_are_joins:=n4 d_are_joins B g_own_rows g_is_tuple g_is_join g_joined c_MOST_JOINS
 have g_are_outs:=p5 d_are_outs B g_is_tuple g_is_whole c_MOST_OUTS
 have g_is_net:=uI d_is_net B g_is_tuple g_is_whole g_are_joins g_are_outs c_MOST_GIVENS
 have g_law_makes:=nY d_law_makes B g_is_net
 have g_law_clean:=nZ d_law_clean B
 have g_law_small_wish:=jf d_law_small_wish B g_law_draw
 have g_law_reached:=k9 d_law_reached B
 have g_law_sets:=pW d_law_sets B
 have g_law:=Ap d_law B g_law_tape g_law_small_wish g_least g_law_sets g_law_draw g_law_makes g_law_reached g_law_clean
 AD g_law
end
end K84
namespace PySem.W.Fast
def tw4437877438877517164:=()
def tw12741488629933853701:=()
def tw8488050040139934559:=()
def tw16461084710026155846:=()
def tw15926431626530223510:=()
def tw7867177072280580631:=()
def tw16377612612586568791:=()
def tw6255713107301842643:=()
def tw16722711932588853601:=()
def tw4533392218034642382:=()
def tw3417549526016047178:=()
def tw16075446893748317804:=()
def tw14839592669387183527:=()
def tw13608574215948662925:=()
def tw3298867549574609157:=()
def tw15786330221689028943:=()
def tw13589051153266542068:=()
def tw5180496618628785092:=()
def tw11696880045359078535:=()
def tw14059025931549313761:=()
def tw5831998579068515512:=()
def tw2727251367898674380:=()
def tw9744586213982162605:=()
def tw10243234302902867681:=()
def tw1976822829127289454:=()
def tw5757400018090683462:=()
def tw1997101092234190552:=()
def tw12223990158395819239:=()
def tw8051560475741594268:=()
def tw2963000228771916172:=()
def tw17665537812801120481:=()
def tw1946571221526212021:=()
def tw10587775660222069770:=()
def tw13100958441055337053:=()
def tw8041075992618593771:=()
def tw7202098543218095419:=()
def tw9782768017485344031:=()
def tw12937678802330765421:=()
def tw7673427348732448460:=()
def tw3427653341008220957:=()
def tw3135326281522788592:=()
def tw8910965662872804479:=()
def tw18385443967741096668:=()
def tw7505625077282817700:=()
def tw5522450841409894400:=()
def tw14399580131732646328:=()
def tw9754666689644687078:=()
def tw1833285295977609104:=()
def tw12762427851816231722:=()
def tw1974345161963747787:=()
def tw14593126170964245075:=()
def tw16202343738995664639:=()
def tw9458069449633043598:=()
def tw16375979249814634166:=()
def tw9447069355996037563:=()
def tw8187552994270093836:=()
def tw5182282270277656944:=()
def tw12607887389254448980:=()
def tw17950556011658842925:=()
def tw12254872529736970559:=()
def tw7555244292437332423:=()
def tw10299909336902672676:=()
def tw9988130945300247832:=()
def tw1720534209363510605:=()
def tw16979802382878412754:=()
def tw5854328882715997448:=()
def tw14629135423714871841:=()
def tw941272034228923867:=()
def tw13104526523115944866:=()
def tw4859221251807065581:=()
def tw10684735543013270497:=()
def tw11213175138791813763:=()
def tw16740036362599204276:=()
def tw8571259520795117791:=()
def tw3114323978616678994:=()
def tw11878077214641675387:=()
def tw537463517946759322:=()
def tw4556727839163451656:=()
def tw8303643958734039611:=()
def tw1818383206539677229:=()
def tw15701334855220943196:=()
def tw4219132541523805799:=()
def tw16812320308129460406:=()
def tw11214126445510365194:=()
def tw6640951931916584941:=()
def tw13592080641794119361:=()
def tw4735642202870522812:=()
def tw387308135795580267:=()
def tw7591745834938832150:=()
def tw16209736673624966062:=()
def tw11903694054511798980:=()
def tw17139127692136888785:=()
def tw745667274069961288:=()
def tw15139069821719765457:=()
def tw12245305983955660475:=()
def tw7336416788589622108:=()
def tw15490809254124371038:=()
def tw17444792340021928361:=()
def tw7710480457198492340:=()
def tw13398505877304373670:=()
def tw14644819968498372598:=()
def tw959854993595704245:=()
def tw15611190081976623928:=()
def tw500643738865935338:=()
def tw579907360190496854:=()
def tw15485298589309174538:=()
def tw15769442454227973475:=()
def tw14056064057661276904:=()
def tw3530405433935820476:=()
def tw14243244765088763085:=()
def tw12752171778296131448:=()
def tw14323907206337087254:=()
def tw12098080832860693672:=()
def tw8615782150621369324:=()
def tw16883379518232763743:=()
def tw17576365055887136687:=()
def tw12722239864172271884:=()
def tw9827305038404148731:=()
def tw15986828349820198488:=()
def tw7820561705264964404:=()
def tw16795853618876926152:=()
def tw4558311739378285499:=()
def tw9727368913255093204:=()
def tw16052806064044738793:=()
def tw10664127141849148698:=()
def tw4470308284565786998:=()
def tw13305514730387891935:=()
def tw7216496245491779381:=()
def tw10365306985834481857:=()
def tw742609378179908557:=()
def tw2710142829768069925:=()
def tw15425440046583987149:=()
def tw5207370582940117558:=()
def tw9750861952317039149:=()
def tw16967601026595680128:=()
def tw15729318039716979066:=()
def tw748882501673280192:=()
def tw5122578756846920740:=()
def tw8204376945785503352:=()
def tw8655223073594755073:=()
def tw9484209411120632866:=()
def tw12141946145384841589:=()
def tw8309687017485298259:=()
def tw1095210260860681809:=()
def tw3655768810894729095:=()
def tw7683526160246209288:=()
def tw11611312569293637282:=()
def tw9771441493566609483:=()
def tw14149918944574483893:=()
def tw13738613199736497456:=()
def tw7387736692546976457:=()
def tw18440093685809535437:=()
def tw12476247323396862077:=()
def tw10965145685931990196:=()
def tw2840373742383583995:=()
def tw3450922916868435467:=()
def tw17667009658195499758:=()
def tw16001000115980620993:=()
def tw5080361285383011248:=()
def tw6020517418771729339:=()
def tw14928004615507133007:=()
def tw14745739083578016031:=()
def tw16128002745537867068:=()
def tw9600090361064930823:=()
def tw5278612435746826526:=()
def tw8210342970965678167:=()
def tw8790692805306807186:=()
def tw1200138322896009093:=()
def tw14670275266005309711:=()
def tw13405406040666422638:=()
def tw11349235745136170435:=()
def tw7516000622848515477:=()
def tw10971694561674024125:=()
def tw8569105177194442756:=()
def tw2725318191425485236:=()
def tw15631175927943318252:=()
def tw9883840942573019131:=()
def tw5260149362762936773:=()
def tw17634039803466359422:=()
def tw8044151835306524067:=()
def tw12336546766834961127:=()
def tw17501129092673873076:=()
def tw13357367749755256898:=()
def tw9168733007492391356:=()
def tw11964841322335251442:=()
def tw4133926455875531692:=()
def tw3089433573788480485:=()
def tw15714018454134033365:=()
def tw9047463907430422301:=()
def tw1036163281965894591:=()
def tw12252616068256682529:=()
def tw18424393952758836077:=()
def tw5169974211444190313:=()
def tw17953505890788042712:=()
def tw9089825720521455313:=()
def tw17635171536466085782:=()
def tw4193061005219116635:=()
def tw6979681549793228046:=()
def tw3018191960897051731:=()
def tw312895153641232696:=()
def tw1459170106909193008:=()
def tw7550737649773509706:=()
def tw5783964209388932599:=()
def tw7752164430034970230:=()
def tw12132245287123167983:=()
def tw17645355800415178266:=()
def tw5675235085053616718:=()
def tw18020386993447264673:=()
def tw15899930906997262631:=()
def tw7779230064966685263:=()
def tw9774606043616603269:=()
def tw7739639242683590154:=()
def tw3013276938163573227:=()
def tw15934361632309839917:=()
def tw5590763436206141563:=()
def tw13772900254239348597:=()
def tw13528202006120591047:=()
def tw15298021283581822467:=()
def tw16523914812004475093:=()
def tw9457483447342110304:=()
def tw8041259774328117524:=()
def tw8336055132447095215:=()
def tw10520565662395167053:=()
def tw14490754973887064299:=()
def tw15747570430225506148:=()
def tw6917358187703301706:=()
def tw288685970408961309:=()
def tw8524867591707774065:=()
def tw14650515552399040434:=()
def tw10479556846551571827:=()
def tw740667270347327055:=()
def tw17796860844657909120:=()
def tw750523018581007244:=()
def tw14318727394651739252:=()
def tw10647451194144155442:=()
def tw8136914647384840318:=()
def tw8492858936777099235:=()
def tw13763716849690360365:=()
def tw14175513353888918068:=()
def tw2589398906080262493:=()
def tw12386975588299216262:=()
def tw2361102289874249354:=()
def tw5799909953460795177:=()
def tw18247753090588270395:=()
def tw17573010850948823211:=()
def tw6089627506537640147:=()
def tw13363265954074286841:=()
def tw8140330090082322547:=()
def tw2263899292094989666:=()
def tw11752947566791888320:=()
def tw3969639935147215227:=()
def tw5045924244475514638:=()
def tw14327355686827998692:=()
def tw15080452527181073190:=()
def tw18303301295390300693:=()
def tw14860992208827053308:=()
def tw10403066547175018192:=()
def tw15402373366964557416:=()
def tw5136264765376513104:=()
def tw7970316484403799849:=()
def tw72799141706781796:=()
def tw12499522507867929828:=()
def tw5414274056044122614:=()
def tw9205223074684717933:=()
def tw2328406905368637275:=()
def tw3662949465054618843:=()
def tw2609210714835252014:=()
def tw12414334414689649340:=()
def tw11478709036193260257:=()
def tw8218241287603266623:=()
def tw12197359168157411603:=()
def tw7275237406469273864:=()
def tw18429652690700104495:=()
def tw12739377271658179959:=()
def tw17961131193709935894:=()
def tw18114998327628075777:=()
def tw9520725911469296118:=()
def tw3985297793767348104:=()
def tw7294084291819603704:=()
def tw18259840112656676654:=()
def tw15401354655473422264:=()
def tw2897929823975801724:=()
def tw10992351513440697730:=()
def tw11889683913887044470:=()
def tw17147824235002204072:=()
def tw5940194586870514992:=()
def tw10626947288412706340:=()
def tw4722721866418021655:=()
def tw3653337448970591060:=()
def tw13801630712104508915:=()
def tw673392108262878490:=()
def tw14303998846725142888:=()
def tw60122019120481452:=()
def tw9305032915523641012:=()
def tw15991085476005772396:=()
def tw4351338977088316606:=()
def tw18099482728285791506:=()
end PySem.W.Fast
open PySem PySem.W PyProof.Rows
set_option maxRecDepth 100000 in
set_option maxHeartbeats 0 in
theorem PySem.Challenge.cw_fewjoins_k84_fewest_of_four_givens_holds : PySem.Challenge.rw_fewjoins_k84_fewest_of_four_givens.Holds := by
 w_on;o_law;k_head;(case hw=>w_witness2)
 k_fill
 refine L2.v5 (l:=PySem.Challenge.rw_fewjoins_k84_fewest_of_four_givens) (n:=63) (k:=33) (x := "_law_script") (CX:=L2.CX0) (sp:=L2.yu) rfl (by decide) rfl ⟨rfl,by decide,by decide,rfl⟩ (λw h Y=>PySem.W.kIn_of Y) ?F ?S ?C
 case S=>exact λK H a ns hl hO hS=>⟨a,ns,rfl,hS,hl,λ_=>rfl⟩
 case C=>exact λH s e s' h=>h
 case F =>
  intro w mg fa h KX G hmg
  have d_wall:L2.DefN (L2.KOf KX) mg "_wall" K84.xP ["k"]:=by
   dsimp only[L2.KOf]
   refine' L2.bM KX G ?a ?l ?c ?k (λ_ _ _ _ _ _ us hl=>match us,hl with | [_],_=>rfl)
   (case a=>k_is);(case l=>k_is);(case c=>k_is);(case k=>k_is)
  have d_is_whole:L2.DefN (L2.KOf KX) mg "is_whole" K84.gW ["thing", "least", "most"]:=by
   dsimp only[L2.KOf]
   refine' L2.bM KX G ?a ?l ?c ?k (λ_ _ _ _ _ _ us hl=>match us,hl with | [_,_,_],_=>rfl)
   (case a=>k_is);(case l=>k_is);(case c=>k_is);(case k=>k_is)
  have d_is_tuple:L2.DefN (L2.KOf KX) mg "is_tuple" K84.gX ["thing", "least", "most"]:=by
   dsimp only[L2.KOf]
   refine' L2.bM KX G ?a ?l ?c ?k (λ_ _ _ _ _ _ us hl=>match us,hl with | [_,_,_],_=>rfl)
   (case a=>k_is);(case l=>k_is);(case c=>k_is);(case k=>k_is)
  have d_joined:L2.DefN (L2.KOf KX) mg "joined" K84.jM ["one", "other"]:=by
   dsimp only[L2.KOf]
   refine' L2.bM KX G ?a ?l ?c ?k (λ_ _ _ _ _ _ us hl=>match us,hl with | [_,_],_=>rfl)
   (case a=>k_is);(case l=>k_is);(case c=>k_is);(case k=>k_is)
  have d_is_net:L2.DefN (L2.KOf KX) mg "is_net" K84.jN ["thing"]:=by
   dsimp only[L2.KOf]
   refine' L2.bM KX G ?a ?l ?c ?k (λ_ _ _ _ _ _ us hl=>match us,hl with | [_],_=>rfl)
   (case a=>k_is);(case l=>k_is);(case c=>k_is);(case k=>k_is)
  have d_are_joins:L2.DefN (L2.KOf KX) mg "are_joins" K84.fD ["many", "joins"]:=by
   dsimp only[L2.KOf]
   refine' L2.bM KX G ?a ?l ?c ?k (λ_ _ _ _ _ _ us hl=>match us,hl with | [_,_],_=>rfl)
   (case a=>k_is);(case l=>k_is);(case c=>k_is);(case k=>k_is)
  have d_is_join:L2.DefN (L2.KOf KX) mg "is_join" K84.iE ["rows", "join"]:=by
   dsimp only[L2.KOf]
   refine' L2.bM KX G ?a ?l ?c ?k (λ_ _ _ _ _ _ us hl=>match us,hl with | [_,_],_=>rfl)
   (case a=>k_is);(case l=>k_is);(case c=>k_is);(case k=>k_is)
  have d_are_outs:L2.DefN (L2.KOf KX) mg "are_outs" K84.e9 ["things", "outs"]:=by
   dsimp only[L2.KOf]
   refine' L2.bM KX G ?a ?l ?c ?k (λ_ _ _ _ _ _ us hl=>match us,hl with | [_,_],_=>rfl)
   (case a=>k_is);(case l=>k_is);(case c=>k_is);(case k=>k_is)
  have d_own_rows:L2.DefN (L2.KOf KX) mg "own_rows" K84.e7 ["many"]:=by
   dsimp only[L2.KOf]
   refine' L2.bM KX G ?a ?l ?c ?k (λ_ _ _ _ _ _ us hl=>match us,hl with | [_],_=>rfl)
   (case a=>k_is);(case l=>k_is);(case c=>k_is);(case k=>k_is)
  have d_joining:L2.DefN (L2.KOf KX) mg "joining" K84.iD ["one", "other"]:=by
   dsimp only[L2.KOf]
   refine' L2.bM KX G ?a ?l ?c ?k (λ_ _ _ _ _ _ us hl=>match us,hl with | [_,_],_=>rfl)
   (case a=>k_is);(case l=>k_is);(case c=>k_is);(case k=>k_is)
  have d_all_words:L2.DefN (L2.KOf KX) mg "all_words" K84.fE ["net", "words"]:=by
   dsimp only[L2.KOf]
   refine' L2.bM KX G ?a ?l ?c ?k (λ_ _ _ _ _ _ us hl=>match us,hl with | [_,_],_=>rfl)
   (case a=>k_is);(case l=>k_is);(case c=>k_is);(case k=>k_is)
  have d_rows_of:L2.DefN (L2.KOf KX) mg "rows_of" K84.iC ["net"]:=by
   dsimp only[L2.KOf]
   refine' L2.bM KX G ?a ?l ?c ?k (λ_ _ _ _ _ _ us hl=>match us,hl with | [_],_=>rfl)
   (case a=>k_is);(case l=>k_is);(case c=>k_is);(case k=>k_is)
  have d_first_cases:L2.DefN (L2.KOf KX) mg "first_cases" K84.dZ ["wish", "clean", "count"]:=by
   dsimp only[L2.KOf]
   refine' L2.bM KX G ?a ?l ?c ?k (λ_ _ _ _ _ _ us hl=>match us,hl with | [_,_,_],_=>rfl)
   (case a=>k_is);(case l=>k_is);(case c=>k_is);(case k=>k_is)
  have d_may_join:L2.DefN (L2.KOf KX) mg "may_join" K84.gT ["clean", "one", "other"]:=by
   dsimp only[L2.KOf]
   refine' L2.bM KX G ?a ?l ?c ?k (λ_ _ _ _ _ _ us hl=>match us,hl with | [_,_,_],_=>rfl)
   (case a=>k_is);(case l=>k_is);(case c=>k_is);(case k=>k_is)
  have d_tidied:L2.DefN (L2.KOf KX) mg "tidied" K84.iB ["net"]:=by
   dsimp only[L2.KOf]
   refine' L2.bM KX G ?a ?l ?c ?k (λ_ _ _ _ _ _ us hl=>match us,hl with | [_],_=>rfl)
   (case a=>k_is);(case l=>k_is);(case c=>k_is);(case k=>k_is)
  have d_first_alike:L2.DefN (L2.KOf KX) mg "first_alike" K84.d0 ["rows"]:=by
   dsimp only[L2.KOf]
   refine' L2.bM KX G ?a ?l ?c ?k (λ_ _ _ _ _ _ us hl=>match us,hl with | [_],_=>rfl)
   (case a=>k_is);(case l=>k_is);(case c=>k_is);(case k=>k_is)
  have d_leant_on:L2.DefN (L2.KOf KX) mg "leant_on" K84.e8 ["net", "stands"]:=by
   dsimp only[L2.KOf]
   refine' L2.bM KX G ?a ?l ?c ?k (λ_ _ _ _ _ _ us hl=>match us,hl with | [_,_],_=>rfl)
   (case a=>k_is);(case l=>k_is);(case c=>k_is);(case k=>k_is)
  have d_tried:L2.DefN (L2.KOf KX) mg "tried" K84.mx ["wish", "clean", "count"]:=by
   dsimp only[L2.KOf]
   refine' L2.bM KX G ?a ?l ?c ?k (λ_ _ _ _ _ _ us hl=>match us,hl with | [_,_,_],_=>rfl)
   (case a=>k_is);(case l=>k_is);(case c=>k_is);(case k=>k_is)
  have d_is_tried:L2.DefN (L2.KOf KX) mg "is_tried" K84.gY ["many", "count"]:=by
   dsimp only[L2.KOf]
   refine' L2.bM KX G ?a ?l ?c ?k (λ_ _ _ _ _ _ us hl=>match us,hl with | [_,_],_=>rfl)
   (case a=>k_is);(case l=>k_is);(case c=>k_is);(case k=>k_is)
  have d_least:L2.DefN (L2.KOf KX) mg "least" K84.my ["wish", "clean"]:=by
   dsimp only[L2.KOf]
   refine' L2.bM KX G ?a ?l ?c ?k (λ_ _ _ _ _ _ us hl=>match us,hl with | [_,_],_=>rfl)
   (case a=>k_is);(case l=>k_is);(case c=>k_is);(case k=>k_is)
  have d_searched:L2.DefN (L2.KOf KX) mg "searched" K84.gR ["cases"]:=by
   dsimp only[L2.KOf]
   refine' L2.bM KX G ?a ?l ?c ?k (λ_ _ _ _ _ _ us hl=>match us,hl with | [_],_=>rfl)
   (case a=>k_is);(case l=>k_is);(case c=>k_is);(case k=>k_is)
  have d_searched_made:L2.DefN (L2.KOf KX) mg "searched_made" K84.c9 ["cases", "row"]:=by
   dsimp only[L2.KOf]
   refine' L2.bM KX G ?a ?l ?c ?k (λ_ _ _ _ _ _ us hl=>match us,hl with | [_,_],_=>rfl)
   (case a=>k_is);(case l=>k_is);(case c=>k_is);(case k=>k_is)
  have d_searched_next:L2.DefN (L2.KOf KX) mg "searched_next" K84.c8 ["cases", "free"]:=by
   dsimp only[L2.KOf]
   refine' L2.bM KX G ?a ?l ?c ?k (λ_ _ _ _ _ _ us hl=>match us,hl with | [_,_],_=>rfl)
   (case a=>k_is);(case l=>k_is);(case c=>k_is);(case k=>k_is)
  have d_net_of_rows:L2.DefN (L2.KOf KX) mg "net_of_rows" K84.cH ["wish", "clean", "known"]:=by
   dsimp only[L2.KOf]
   refine' L2.bM KX G ?a ?l ?c ?k (λ_ _ _ _ _ _ us hl=>match us,hl with | [_,_,_],_=>rfl)
   (case a=>k_is);(case l=>k_is);(case c=>k_is);(case k=>k_is)
  have d_first_joining:L2.DefN (L2.KOf KX) mg "first_joining" K84.cA ["things", "row", "clean"]:=by
   dsimp only[L2.KOf]
   refine' L2.bM KX G ?a ?l ?c ?k (λ_ _ _ _ _ _ us hl=>match us,hl with | [_,_,_],_=>rfl)
   (case a=>k_is);(case l=>k_is);(case c=>k_is);(case k=>k_is)
  have d_law_tape:L2.DefN (L2.KOf KX) mg "_law_tape" K84.gU ["_law_script"]:=by
   dsimp only[L2.KOf]
   refine' L2.bM KX G ?a ?l ?c ?k (λ_ _ _ _ _ _ us hl=>match us,hl with | [_],_=>rfl)
   (case a=>k_is);(case l=>k_is);(case c=>k_is);(case k=>k_is)
  have d_law_draw:L2.DefN (L2.KOf KX) mg "_law_draw" K84.gV ["_law_tape_here", "_law_many"]:=by
   dsimp only[L2.KOf]
   refine' L2.bM KX G ?a ?l ?c ?k (λ_ _ _ _ _ _ us hl=>match us,hl with | [_,_],_=>rfl)
   (case a=>k_is);(case l=>k_is);(case c=>k_is);(case k=>k_is)
  have d_law_reached:L2.DefN (L2.KOf KX) mg "_law_reached" K84.b0 ["_law_many", "_law_rows", "_law_clean_here"]:=by
   dsimp only[L2.KOf]
   refine' L2.bM KX G ?a ?l ?c ?k (λ_ _ _ _ _ _ us hl=>match us,hl with | [_,_,_],_=>rfl)
   (case a=>k_is);(case l=>k_is);(case c=>k_is);(case k=>k_is)
  have d_law_small_wish:L2.DefN (L2.KOf KX) mg "_law_small_wish" K84.cm ["_law_tape_here", "_law_low", "_law_most"]:=by
   dsimp only[L2.KOf]
   refine' L2.bM KX G ?a ?l ?c ?k (λ_ _ _ _ _ _ us hl=>match us,hl with | [_,_,_],_=>rfl)
   (case a=>k_is);(case l=>k_is);(case c=>k_is);(case k=>k_is)
  have d_law_makes:L2.DefN (L2.KOf KX) mg "_law_makes" K84.dq ["_law_net", "_law_wish"]:=by
   dsimp only[L2.KOf]
   refine' L2.bM KX G ?a ?l ?c ?k (λ_ _ _ _ _ _ us hl=>match us,hl with | [_,_],_=>rfl)
   (case a=>k_is);(case l=>k_is);(case c=>k_is);(case k=>k_is)
  have d_law_clean:L2.DefN (L2.KOf KX) mg "_law_clean" K84.eA ["_law_net"]:=by
   dsimp only[L2.KOf]
   refine' L2.bM KX G ?a ?l ?c ?k (λ_ _ _ _ _ _ us hl=>match us,hl with | [_],_=>rfl)
   (case a=>k_is);(case l=>k_is);(case c=>k_is);(case k=>k_is)
  have d_law_sets:L2.DefN (L2.KOf KX) mg "_law_sets" K84.d8 ["_law_rows", "_law_most"]:=by
   dsimp only[L2.KOf]
   refine' L2.bM KX G ?a ?l ?c ?k (λ_ _ _ _ _ _ us hl=>match us,hl with | [_,_],_=>rfl)
   (case a=>k_is);(case l=>k_is);(case c=>k_is);(case k=>k_is)
  have d_law:L2.DefN (L2.KOf KX) mg "law" K84.sy ["_law_script"]:=by
   dsimp only[L2.KOf]
   refine' L2.bM KX G ?a ?l ?c ?k (λ_ _ _ _ _ _ us hl=>match us,hl with | [_],_=>rfl)
   (case a=>k_is);(case l=>k_is);(case c=>k_is);(case k=>k_is)
  have B:L2.BI mg:=by
   refine' L2.BG KX G ?z_len ?z_range ?z_isinstance ?z_int ?z_bool ?z_list ?z_tuple ?z_str ?z_sum ?z_all ?z_max ?z_min ?z_sorted ?z_set ?z_zip ?z_enumerate ?z_reversed ?z_dict ?z_any ?z_abs ?z_repr
   (case z_len=>k_is);(case z_range=>k_is);(case z_isinstance=>k_is);(case z_int=>k_is);(case z_bool=>k_is);(case z_list=>k_is);(case z_tuple=>k_is);(case z_str=>k_is);(case z_sum=>k_is);(case z_all=>k_is);(case z_max=>k_is);(case z_min=>k_is);(case z_sorted=>k_is);(case z_set=>k_is);(case z_zip=>k_is);(case z_enumerate=>k_is);(case z_reversed=>k_is);(case z_dict=>k_is);(case z_any=>k_is);(case z_abs=>k_is);(case z_repr=>k_is)
  have c_MOST_GIVENS:∃u,mg "MOST_GIVENS" = some u/\L2.RelV (.int 12) u:=by
   refine' ⟨_,DZ KX G ?a,?b⟩
   (case a=>k_is)
   (case b=>exact⟨_,rfl⟩)
  have c_MOST_JOINS:∃u,mg "MOST_JOINS" = some u/\L2.RelV (.int 132) u:=by
   refine' ⟨_,DZ KX G ?a,?b⟩
   (case a=>k_is)
   (case b=>exact⟨_,rfl⟩)
  have c_MOST_OUTS:∃u,mg "MOST_OUTS" = some u/\L2.RelV (.int 24) u:=by
   refine' ⟨_,DZ KX G ?a,?b⟩
   (case a=>k_is)
   (case b=>exact⟨_,rfl⟩)
  have c_FEW_GIVENS:∃u,mg "FEW_GIVENS" = some u/\L2.RelV (.int 4) u:=by
   refine' ⟨_,DZ KX G ?a,?b⟩
   (case a=>k_is)
   (case b=>exact⟨_,rfl⟩)
  have c_FEW_GIVENS_COUNT:∃u,mg "FEW_GIVENS_COUNT" = some u/\L2.RelV (.int 11) u:=by
   refine' ⟨_,DZ KX G ?a,?b⟩
   (case a=>k_is)
   (case b=>exact⟨_,rfl⟩)
  have c_MORE_GIVENS:∃u,mg "MORE_GIVENS" = some u/\L2.RelV (.int 6) u:=by
   refine' ⟨_,DZ KX G ?a,?b⟩
   (case a=>k_is)
   (case b=>exact⟨_,rfl⟩)
  have c_MORE_GIVENS_COUNT:∃u,mg "MORE_GIVENS_COUNT" = some u/\L2.RelV (.int 3) u:=by
   refine' ⟨_,DZ KX G ?a,?b⟩
   (case a=>k_is)
   (case b=>exact⟨_,rfl⟩)
  have oc_Cases:∃C_Cases:Addr,L2.ClsO (L2.KOf KX) mg C_Cases "Cases" ["wished", "clean", "known", "shut", "left"]/\L2.DefM (L2.KOf KX) C_Cases "__init__" "Cases.__init__" K84.bz ["self", "wished", "clean", "known", "shut", "left"]/\L2.DefM (L2.KOf KX) C_Cases "with_row" "Cases.with_row" K84.bx ["self", "row", "shut"]/\L2.DefM (L2.KOf KX) C_Cases "lacking" "Cases.lacking" K84.bo ["self"]/\L2.DefM (L2.KOf KX) C_Cases "free_rows" "Cases.free_rows" K84.aY ["self"]/\L2.DefM (L2.KOf KX) C_Cases "lacks_too_many" "Cases.lacks_too_many" K84.aX ["self"]/\L2.DefM (L2.KOf KX) C_Cases "is_far" "Cases.is_far" K84.bc ["self", "row"]/\L2.DefM (L2.KOf KX) C_Cases "shown_by" "Cases.shown_by" K84.bW ["self", "paper"]/\L2.DefM (L2.KOf KX) C_Cases "shown_far" "Cases.shown_far" K84.bP ["self", "row"]/\L2.DefM (L2.KOf KX) C_Cases "shown_made" "Cases.shown_made" K84.bL ["self", "row", "paper"]/\L2.DefM (L2.KOf KX) C_Cases "shown_next" "Cases.shown_next" K84.bK ["self", "papers"]:=by
   dsimp only[L2.KOf]
   refine' K84.sI KX G ?f0 ?f1 ?f2 ?f3 ?f4 ?f5 ?f6 ?na0 ?na1 ?na2 ?na3 ?na4 ?m0_0 ?m0_1 ?m0_2 ?m0_3 ?m0_4 ?m1_0 ?m1_1 ?m1_2 ?m1_3 ?m1_4 ?m2_0 ?m2_1 ?m2_2 ?m2_3 ?m2_4 ?m3_0 ?m3_1 ?m3_2 ?m3_3 ?m3_4 ?m4_0 ?m4_1 ?m4_2 ?m4_3 ?m4_4 ?m5_0 ?m5_1 ?m5_2 ?m5_3 ?m5_4 ?m6_0 ?m6_1 ?m6_2 ?m6_3 ?m6_4 ?m7_0 ?m7_1 ?m7_2 ?m7_3 ?m7_4 ?m8_0 ?m8_1 ?m8_2 ?m8_3 ?m8_4 ?m9_0 ?m9_1 ?m9_2 ?m9_3 ?m9_4
   (case f0=>k_is);(case f1=>k_is);(case f2=>k_is);(case f3=>k_is);(case f4=>k_is);(case f5=>k_is);(case f6=>k_is);(case na0=>k_is);(case na1=>k_is);(case na2=>k_is);(case na3=>k_is);(case na4=>k_is);(case m0_0=>k_is);(case m0_1=>k_is);(case m0_2=>k_is);(case m0_3=>k_is);(case m0_4=>k_is);(case m1_0=>k_is);(case m1_1=>k_is);(case m1_2=>k_is);(case m1_3=>k_is);(case m1_4=>k_is);(case m2_0=>k_is);(case m2_1=>k_is);(case m2_2=>k_is);(case m2_3=>k_is);(case m2_4=>k_is);(case m3_0=>k_is);(case m3_1=>k_is);(case m3_2=>k_is);(case m3_3=>k_is);(case m3_4=>k_is);(case m4_0=>k_is);(case m4_1=>k_is);(case m4_2=>k_is);(case m4_3=>k_is);(case m4_4=>k_is);(case m5_0=>k_is);(case m5_1=>k_is);(case m5_2=>k_is);(case m5_3=>k_is);(case m5_4=>k_is);(case m6_0=>k_is);(case m6_1=>k_is);(case m6_2=>k_is);(case m6_3=>k_is);(case m6_4=>k_is);(case m7_0=>k_is);(case m7_1=>k_is);(case m7_2=>k_is);(case m7_3=>k_is);(case m7_4=>k_is);(case m8_0=>k_is);(case m8_1=>k_is);(case m8_2=>k_is);(case m8_3=>k_is);(case m8_4=>k_is);(case m9_0=>k_is);(case m9_1=>k_is);(case m9_2=>k_is);(case m9_3=>k_is);(case m9_4=>k_is)
  refine L2.za d_law hmg λbase=>?_
  exact K84.fin d_wall d_is_whole d_is_tuple d_joined d_is_net d_are_joins d_is_join d_are_outs d_own_rows d_joining d_all_words d_rows_of d_first_cases d_may_join d_tidied d_first_alike d_leant_on d_tried d_is_tried d_least d_searched d_searched_made d_searched_next d_net_of_rows d_first_joining d_law_tape d_law_draw d_law_reached d_law_small_wish d_law_makes d_law_clean d_law_sets d_law c_MOST_GIVENS c_MOST_JOINS c_MOST_OUTS c_FEW_GIVENS c_FEW_GIVENS_COUNT c_MORE_GIVENS c_MORE_GIVENS_COUNT oc_Cases B
#print axioms PySem.Challenge.cw_fewjoins_k84_fewest_of_four_givens_holds

