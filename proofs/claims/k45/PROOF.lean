import PyProof.Rows.All
import Wide.All
import OpenK.AllK
import Wide.FinOn
import Lean
import PyProof.EqAt
import PyProof.EqKinds
import PyProof.TupleCall
import PyProof.NeKinds
import PyProof.ListMulAny
import PyProof.Rows.CallKwBuiltin
import PyProof.MinMaxWalk
import PyProof.SeqI3
import PyProof.Rows.TupAdd
import PyProof.MeetsDict
import PyProof.DictList
import PyProof.ZipIter
import PyProof.Rows.ZipGen
import PyProof.ListRange
import PyProof.TupleOfStr
import PyProof.Rows.FStr
import PyProof.Rows.StrJoin2
import PyProof.Rows.Range3
import PyProof.EnumMake
import PyProof.EnumFor
import PyProof.EnumStmt
import KE.KUnpackStar
import KE.KDictList
import PyProof.Rows.SortWalk
import KE.RegKIsAll
import PyProof.NsDelKeeps
import PyProof.Rows.CountFlat
import KE.KRevIter
import PyProof.Draws
import PyProof.ExcInit
import PyProof.InstStoreFacts
import PyProof.DictCompW
import PyProof.DictIter
import PyProof.DictWalks
import PyProof.Rows.SetFrom
import PyProof.SetRoads
import KE.KDictOf
import PyProof.Rows.SortShellK
import PyProof.ReprRoads
import PyProof.CallFns
import PyProof.DictUpdate
import KE.KDictLaws
import PySem.Challenge.RW_fewjoins_k45_whole_turned_makes_the_turn
open Array renaming getElem?_eq_some_iff→Ak,length_toList→Dp,find?_toList→Fp,append_assoc→Fq,toList→Gw
open Bool renaming and_eq_true→zY,false_ne_true→Ad,false_eq_true→BB,not_eq_true'→BM,true_and→BX,or_true→CF,false_and→CL,eq_false_iff→CS,eq_iff_iff→Db,and_false→Dh,or_eq_true→Eb,false_or→EB,and_true→EC,or_false→Gv
open Classical renaming propDecidable→Ea
open False renaming elim→zZ
open Int renaming toNat_natCast→Aq,eq_ofNat_of_zero_le→AH,natCast_nonneg→BC,zero_add→CK,le_of_lt→DP,ediv_nonneg→El,fdiv_eq_ediv_of_nonneg→Eu,toNat_of_nonneg→FE,emod_lt_of_pos→FS,emod_nonneg→Gi,ne_of_gt→GS
open List renaming getD_eq_getElem?_getD→bi,getElem?_eq_getElem→bv,length_map→im,getElem?_eq_some_iff→kt,size_toArray→li,getElem?_map→lw,length_append→pc,replicate→pp,map_cons→wl,mem_of_getElem?→wp,range→wr,mem_append_right→wv,mem_cons→wS,length_singleton→xL,getElem?_set_ne→zn,length_cons→zK,mem_cons_of_mem→zO,exists_cons_of_ne_nil→zU,map_append→zW,mem_cons_self→z7,getElem?_eq_none→Ab,mem_singleton→Ac,getElem?_range→Af,mem_range→Ah,getElem?_append_left→Aj,mem_filter→Ao,getElem?_set_self→Ap,getElem_mem→Au,drop_eq_getElem_cons→Av,find?_cons_of_neg→Aw,length_take→Az,getElem?_append_right→AJ,find?_cons→AK,map_map→AL,length_reverse→AN,filter_append→AU,take_length→AW,lookup_cons→AX,drop_eq_nil_of_le→A0,range_succ→A4,not_mem_nil→A6,getElem?_drop→A7,all_eq_true→A8,take_add_one→Bb,mem_append→Bc,foldl_cons→Bd,mem_map→Bh,any_cons→Bj,length_set→Bn,append_nil→Bo,mem_append_left→Bq,foldl_append→Br,map_congr_left→By,getElem?_cons_zero→Bz,take_of_length_le→BA,take_append_drop→BG,length_replicate→BH,getElem?_reverse→BJ,map_nil→BP,contains_cons→B0,getElem?_replicate→B1,length_range→B8,find?_cons_of_pos→B9,ext_getElem?→B_,filter_cons→Cj,getElem?_of_mem→Cm,length_nil→Co,filter_nil→Cp,filterMap_cons→Cz,idxOf_lt_length_of_mem→CD,reverse_cons→CQ,set_eq_of_length_le→CU,all_cons→CV,nodup_cons→C9,drop_left'→C_,sum_cons→Dy,lookup_append→DA,append_assoc→DK,length_drop→DT,any_eq_true→DU,of_mem_zip→D9,foldl_nil→Eo,any_map→EJ,all_map→EK,length_filter_le→E4,lookup→E_,length→Fa,getElem_toArray→Fb,drop_eq_nil_iff→Fc,mem_filterMap→FA,getElem_range→FC,find?_eq_none→FD,sum_append→Gb,drop_zero→Gg,map_take→Gu,map_set→GI,any_nil→GJ
open List.Nodup renaming idxOf_getElem→A5,count→EL
open List.Pairwise renaming filter→GR
open List.cons renaming injEq→Fd
open Nat renaming le_refl→lm,lt_of_lt_of_le→nw,lt_or_ge→sK,ne_of_lt→zM,le_trans→zQ,zero_le→zS,mod_two_eq_zero_or_one→z5,ne_of_gt→Aa,le_of_lt→Am,min_eq_left→AR,lt_irrefl→AZ,min_eq_right→A9,zero_add→Ba,zero_testBit→Bk,eq_of_testBit_eq→Bs,testBit_zero→BR,lt_trans→BS,testBit_xor→BZ,one_shiftLeft→Cb,le_total→Cd,testBit_and→Cw,not_lt_zero→Cy,max_eq_right→CZ,lt_succ_self→C0,add_sub_cancel_left→C1,not_lt→C8,max_eq_left→Dd,testBit_two_pow→Dx,sub_zero→DN,lt_succ_of_lt→DO,min_le_right→D7,lt_pow_two_of_testBit→Ey,add_assoc→EF,zero_mul→EZ,testBit_lt_two_pow→E1,le_of_eq→E2,add_zero→E3,testBit→Fl,pow_le_pow_right→Fm,lt_of_le_of_lt→FP,add_sub_cancel→FQ,zero_lt_succ→F_,succ_ne_self→Ga,testBit_or→Gs,one_mul→G4,mul_one→G5,log2_lt→G6,le_succ→G7,add_mul→G8
open Ne renaming symm→AB
open Option renaming map_eq_some_iff→wT,toList_some→CC,isSome_some→E9,isSome_map→Fk,getD_none→Fz,map_some→FO
open Option.some renaming injEq→AV,inj→AY
open Prod renaming fst→Al,snd→AD
open Prod.mk renaming injEq→Dg
open PyProof.Rows renaming callWith_type1→An,envOfC→Ct,AllBare→C3,subscriptTail→DR,Subscript_→EV,subscriptTail_builtinR→FI,IntsAre→FR,Call_→Gc,callWith_builtin1→G3
open PySem renaming Value→bd,wpAny_bind→bn,Shared→db,wpAny→o0,model→wn,wpAny_pure→ww,Program→wE,sizeLine→xz,mainGlobals→zN,starEach→zT,Around→zX,wpAny_field→z6,World→z8,wpAny_mono→z9,mem_of_lookup→z_,rawInt→Ae,bootBuiltins→Ar,cellsFrom→Ay,Scope→AC,wpAny_setField→AM,wpAny_loadPart_at→AQ,wpAny_truthy_bool→Bf,wpAny_newObj_type→Bg,NameKind→Bm,noteFrame→Bu,compareOp→Bv,sizeLine_eq→Bw,foldedSetIterable→Bx,wpAny_of_eq→BD,excClassObj→BE,sysModules→BV,backTo→BW,wpAny_standAt→B2,binaryOp→B3,FuncData→B4,ExceptHandler→B5,wpAny_execs_nil→B7,wpAny_callSpecial?_slot→Ce,setFlight→Cf,wpAny_call_entry→Cq,swapsWith→Cr,pushCells→Cs,assignEach→Cu,codeAny→CB,sliceBounds→CG,cLine→CH,wpAny_passesOwn→CM,letOwnedTupleGo→CN,wpAny_isSubtype_exc→CP,wpAny_pyIter_tuple→CW,wpAny_Call_Name_kw→CY,leaving→C2,wpAny_comprehension_free→C4,behindInMarks→C5,assign→C6,wpAny_execs_cons→Df,wpAny_pyIter_rangeiter→Di,codeAny_mono→Dj,OwnTail→Dn,wpAny_updateSeq→Dq,wpAny_specialOf→Dr,pushCells_keeps→Ds,subscripted→DD,pyNext→DE,newFunctionEnv→DF,list_append→DG,getItem→DI,callerA→DJ,wpAny_holding→DQ,wpAny_setField_rec→DX,wpAny_entryPlaceOf→DY,wpAny_call→DZ,typeLookup→D1,tupleKind_room_in1→D2,closureFor→D3,cameBackBy→D4,wpAny_pyIter_list→Ec,wpAny_pyIter_enum→Ed,wpAny_frameOf_fun→Ee,wpAny_Assign_Name→Ef,valueAt→Eg,slot_list_getitem→Eh,Model→Ek,tupleKind→Er,checkBuiltinCall→Es,IsRangeIter→Ez,codeAny_builtin→ED,relabel→EH,BindsTo→EN,wpAny_seqItems→EO,setField→EQ,isTrue→ER,evalEach→ES,bindArgs→ET,atKey→EU,Paired→EY,IsEnum→E5,GenState→E6,wpAny_getItem_list_slice→Ff,plainId_quiet→Fg,evalPart_none→Fh,call→Fi,wpAny_pyNext_enum_itemD→Fs,updateSeq→Ft,newFields→Fu,field→Fv,bindL→Fw,bindC→Fx,wpAny_pyNext_range_end→FG,wpAny_pyNext_enum_endD→FH,entryPlaceOf→FJ,codeAny_compStart_list→FK,Result→FL,ExcBaseFacts→FV,wpAny_isTrue_Compare1→FW,exec_Assign_Name_used→FX,codeAny_handlers_test→FY,builtinLookup_eq_fast→FZ,wpAny_pyIter_revIter→F4,keywordEach→F5,compPost→F6,compEnvC→F7,codeAny_call_builtin→F8,again→F9,wpAny_handleBy_cons→Gd,codeAny_forLoop_any→Ge,wpAny_rule→Gk,wpAny_Name→Gm,cellOf→Gn,call_meets→Go,builtinsNs→Gp,Within→Gq,wpAny_assign_Name→Gx,standAt→Gy,spliced→Gz,operate→GA,notedBy→GB,newList→GC,holding→GD,Keyword→GK,IsRange→GL,Draws→GN,CmpOp→GO,wpAny_Try_except→GP,wpAny_tests_nil→GW,typeLookup_type→GX,theTreesLotGoes→GY,codeAny_of_tree→GZ
open PySem.Around renaming under_plainId→De,under→DC
open PySem.Builtin renaming bitAnd→BL,bitXor→CA,bitOr→F3
open PySem.Builtin.List renaming listExtendWith→Ci,listSameRef→DL,listItems→DW,listUpdate→G_,listTouch→Ha,listLengthHint→Hc
open PySem.Builtin.Range renaming rangeFitsLong→zR,rangeSize→BO,rangeFields→DB
open PySem.Builtin.SmallTypes renaming ownedTupleIsFree→CO
open PySem.Calls renaming spliced_cons→BY,spliced_nil→B6,evalArgs_plain→Ck,Name_function_global→Em,callWith_builtin→EG
open PySem.Code renaming isFrame→EM,quiet_builtin→FF,frames→GV
open PySem.EntryCells renaming newEntry→Bp
open PySem.F renaming type_list_append→zI,slot_list_append→zJ,plainAttrs_list→zL,slot_tuple_iterator_next→BU,slot_enumerate_next→Cn,excBase_ValueError→Cv,plain_extend_loop→CJ,slot_range_reversed→Do,args_list_append_2→Dz,entry_list_append→DH,entry_extend_loop→D8,store_ValueError→Ej,args_tuple_iterator_next_1→Ev,entry_tuple_iterator_next→EA,args_enumerate_next_1→Fe,entry_enumerate_next→Fo,plain_reversed_new→FU
open PySem.Heap renaming get?_push_of_some→dL,lt_size→lc,get?_update_other→sB,get?_push_size→wP,get?_update_self→zV,SameBut→AF,size_push→A2,get?_none_of_le→BN,size_update→DV,MadeExcOf→Ep,get?_update_ne→Fn,get?_push_at→FT,ExtBut→GU
open PySem.Heap.IsSliceOf renaming new→D_
open PySem.Heap.Ns renaming new→Gj
open PySem.Heap.SameBut renaming update→Bl,refl→G9
open PySem.IsL renaming update→Dw
open PySem.IsRange renaming new→Gh
open PySem.Obj renaming mapFields→Ag,data_mapFields→As,isFreed_of_fields→At,mapSeq→A3,cls_mapFields→CT
open PySem.Paired renaming length→Dm,snoc→Gr
open PySem.PassesOwn renaming never→A_
open PySem.SeqAt renaming EqAt→CI,RcAt→Ei
open PySem.SeqAt.EqAt renaming str_int→Ew,int_str→Ex
open PySem.SeqAt.RcNeAt renaming tuples→G0,lists_lengths→G1,lists→G2
open PySem.Str renaming empty→BF,length_append→Ca,ofString→C7
open PySem.Value renaming isStrOf→Gf,isInt→GH
open PySem.W renaming Frag→ac,mg_none_of→zP,nsIn→z4,subIn→Ai,kia_one→Ax,fnOf→Be,keepIn→Bi,findIn→Bt,codeIn→BK,excIn→BQ,mg_of→Cg,tail_of_in→Dk,isNs_of_in→Dl,methodObj→Dt,kitx_list→Du,instObj→DM,lookIn→D5,kitOne→D6,cellsFrom_some→Et,looks_subIn→EI,kitx_tuple→EW,callWith_K→EX,specialIn→E7,kitx_dict→E8,plainGet→Fj,OpenLaw→Fy,typeIn→FM,tailIn→FN,WalkO→F1
open PySem.W.WShape renaming has→GG
open PySem.Walks renaming range→GF,list→GQ
set_option Elab.async false
set_option linter.all false
set_option maxRecDepth 100000
namespace L2
open PySem PySem.Spec PyProof.Rows
abbrev Key:=Sum Int Str
def qO:Key->bd->Bool
 | .inl k,v=>GH k v
 | .inr x,v=>Gf x v
def keyH (w:z8):Key->Int
 | .inl k=>hashInt k
 | .inr x=>hashStr w x
theorem b_:∀ {k:Key} {v:bd},qO k v=true->(∃i t,k=Sum.inl i/\v=Value.int i t)∨(∃x t,k=Sum.inr x/\v=Value.str x t)
 | .inl i,v,h=>by
  obtain⟨t,e⟩:=Value.isInt_shape (k:=i) (v:=v) h;exact .inl ⟨i,t,rfl,e⟩
 | .inr x,v,h=>by
  obtain⟨t,e⟩:=Value.isStrOf_shape (x:=x) (v:=v) h;exact .inr ⟨x,t,rfl,e⟩
theorem sR (i:Int)(t:Tok):qO (.inl i) (.int i t)=true:=by simp[qO,GH]
theorem sQ (x:Str)(t:Tok):qO (.inr x) (.str x t)=true:=by simp[qO,Gf]
theorem yz (a b:Int):decide ((Sum.inl a:Key)=Sum.inl b)=(a==b):=by
 by_cases e:a=b
 ·subst e;simp
 ·have h:¬(Sum.inl a:Key)=Sum.inl b:=λq=>e (Sum.inl.inj q);rw[decide_eq_false h];exact(beq_eq_false_iff_ne.mpr e).symm
theorem yw (a b:Str):decide ((Sum.inr a:Key)=Sum.inr b)=decide (a=b):=by
 by_cases e:a=b
 ·subst e;simp
 ·have h:¬(Sum.inr a:Key)=Sum.inr b:=λq=>e (Sum.inr.inj q);rw[decide_eq_false h,decide_eq_false e]
theorem yy (a:Int)(b:Str):decide ((Sum.inl a:Key)=Sum.inr b)=false:=decide_eq_false (λq=>nomatch q)
theorem yx (a:Str)(b:Int):decide ((Sum.inr a:Key)=Sum.inl b)=false:=decide_eq_false (λq=>nomatch q)
def cu (prog:wE)(w:z8):PySem.KeyKind prog w Key where
 is:=qO
 hash:=keyH w
 inj:=λv a b ha hb=>by
  rcases b_ ha with⟨i,t,rfl,rfl⟩ | ⟨x,t,rfl,rfl⟩
  ·rcases b_ hb with⟨j,u,rfl,e⟩ | ⟨y,u,rfl,e⟩
   ·injection e with e1 _;rw[e1]
   ·exact nomatch e
  ·rcases b_ hb with⟨j,u,rfl,e⟩ | ⟨y,u,rfl,e⟩
   ·exact nomatch e
   ·injection e with e1 _;rw[e1]
 byValue:=λk v h=>by
  rcases b_ h with⟨i,t,rfl,rfl⟩ | ⟨x,t,rfl,rfl⟩ <;> rfl
 pyHash:=λhv h=>by
  rcases b_ hv with⟨i,t,rfl,rfl⟩ | ⟨x,t,rfl,rfl⟩
  ·exact wpAny_pyHash_int h
  ·exact wpAny_pyHash_str h
 eqBool:=λhu hv h=>by
  rcases b_ hu with⟨i,t,rfl,rfl⟩ | ⟨x,t,rfl,rfl⟩
  ·rcases b_ hv with⟨j,u,rfl,rfl⟩ | ⟨y,u,rfl,rfl⟩
   ·rw[yz]at h;exact wpAny_eqBool_int h
   ·rw[yy]at h;exact Ex i t y u _ _ _ _ h
  ·rcases b_ hv with⟨j,u,rfl,rfl⟩ | ⟨y,u,rfl,rfl⟩
   ·rw[yx]at h;exact Ew x t j u _ _ _ _ h
   ·rw[yw]at h;exact wpAny_eqBool_str h
 «strs»:=λk x t v h=>by
  rcases b_ h with⟨i,u,rfl,e⟩ | ⟨y,u,rfl,e⟩
  ·exact nomatch e
  ·injection e with e1 _;subst e1;cases v <;> rfl
theorem oB (prog:wE)(w:z8)(i:Int)(t:Tok):(cu prog w).is (.inl i) (.int i t)=true:=sR i t
theorem oA (prog:wE)(w:z8)(x:Str)(t:Tok):(cu prog w).is (.inr x) (.str x t)=true:=sQ x t
inductive V where
 | non | bl (b:Bool) | int (i:Int) | str (x:Str) | byt (b:Array UInt8) | flt (b:UInt64) | ref (a:Addr) | ty (n:String)
 deriving DecidableEq
def RelV:V->bd->Prop
 | .non,u=>u=Value.none
 | .bl b,u=>u=Value.bool b
 | .int i,u=>∃t,u=Value.int i t
 | .str x,u=>∃t,u=Value.str x t
 | .byt b,u=>∃t,u=Value.bytes b t
 | .flt b,u=>∃t,u=Value.float b t
 | .ref a,u=>u=Value.ref a
 | .ty n,u=>u=Value.type n
abbrev Vals:List V->List bd->Prop:=EY RelV
theorem Vals.length {xs:List V}{us:List bd}(r:Vals xs us):xs.length=us.length:=Dm r
theorem Vals.get:∀ {xs:List V} {us:List bd} {i:Nat} {x:V},Vals xs us->xs[i]? = some x->∃u,us[i]? = some u/\RelV x u
 | _,_,_,_,.nil,e=>by simp at e
 | _,_,0,_,.cons r _,e=>by simp at e;subst e;exact⟨_,rfl,r⟩
 | _,_,i+1,x,.cons _ t,e=>by
  obtain⟨u,h1,h2⟩:=Vals.get (i:=i) (x:=x) t (by simpa using e);exact⟨u,by simpa using h1,h2⟩
theorem Vals.append:∀ {xs ys:List V} {us ws:List bd},Vals xs us->Vals ys ws->Vals (xs++ys) (us++ws)
 | _,_,_,_,.nil,s=>s
 | _,_,_,_,.cons r t,s=>.cons r (Vals.append t s)
theorem Vals.take:∀ {xs:List V} {us:List bd} (n:Nat),Vals xs us->Vals (xs.take n) (us.take n)
 | _,_,0,_=>.nil
 | _,_,_+1,.nil=>.nil
 | _,_,n+1,.cons r t=>.cons r (Vals.take n t)
theorem Vals.drop:∀ {xs:List V} {us:List bd} (n:Nat),Vals xs us->Vals (xs.drop n) (us.drop n)
 | _,_,0,r=>r
 | _,_,_+1,.nil=>.nil
 | _,_,n+1,.cons _ t=>Vals.drop n t
def RelO:Option V->Option bd->Prop
 | some v,some u=>RelV v u
 | none,none=>True
 | _,_=>False
def KV {κ:Type}:List (κ×V)->List (κ×bd)->Prop:=EY λ(p:κ×V) (q:κ×bd)=>p.1=q.1/\RelV p.2 q.2
def kV:Key->V
 | .inl i=>.int i
 | .inr x=>.str x
inductive HO where
 | lst (xs:List V)
 | tup (xs:List V)
 | dK (kvs:List (Key×V)) | dT (kvs:List (List Key×V))
 | set (S:Int->Bool) (n:Nat)
 | ins (C dx:Addr) (fs:List (Str×V))
 | own (x:Addr)
 | xd (fs:List (Str×V))
 | met (f x:Addr)
 | rng (lo hi:Int)
 | frz (o:Obj) (u:HO)
 | tbl (ps:Array bd)
 | ext (φ:Heap->Prop)
 | big (ps:List Addr) (φ:wE->z8->Heap->Prop)
abbrev Hp:=Addr->Option HO
def upd (H:Hp)(a:Addr)(o:HO):Hp:=λb=>if b=a then some o else H b
theorem bh {H:Hp}{a:Addr}{o:HO}:upd H a o a=some o:=by unfold upd;rw[if_pos rfl]
theorem aW {H:Hp}{a b:Addr}{o:HO}(h:b≠a):upd H a o b=H b:=by unfold upd;rw[if_neg h]
theorem vU {H:Hp}{a:Addr}{o u:HO}:upd (upd H a o) a u=upd H a u:=by
 funext b;unfold upd;split <;> rfl
theorem wR {H:Hp}{a b:Addr}{o u:HO}(h:H a=some o)(h':H b=some u)(d:o≠u):a≠b:=by
 intro e;subst e;rw[h]at h';exact d (AY h')
theorem bB {H:Hp}{a b:Addr}{o:HO}(h:H a=some o)(h':H b=none):a≠b:=by
 intro e;subst e;rw[h]at h';cases h'
section
variable (P:wE)(w:z8)
def cw (H:Hp)(h:Heap)(a:Addr):HO->Prop
 | .lst xs=>xs.length<=xz/\∃(its:List bd) (n:Nat),Vals xs its/\h.get? a=some {cls:=.type "list",data:=.seq its.toArray n}
 | .tup xs=>xs.length<=xz/\∃its:List bd,Vals xs its/\IsTup h a its.toArray
 | .dK kvs=>kvs.length<=xz/\(a==BV)=false/\∃vs,KV kvs vs/\h.DictOf (cu P w) a vs
 | .dT kvs=>kvs.length<=xz/\(a==BV)=false/\∃xs:List (List Key×Addr×bd),
   EY (λ(p:List Key×V) (q:List Key×Addr×bd)=>p.1=q.1/\H q.2.1=some (.tup (p.1.map kV))/\RelV p.2 q.2.2) kvs xs /\
   ∃o es ep,h.get? a=some o/\o.ExactDict/\o.data = .dict es ep/\es.toList=xs.map (entryOfKey (Er (cu P w)))/\(xs.map (·.1)).Nodup
 | .set S n=>h.SetOf (intKind P w) a S n
 | .ins C dx fs=>H dx=some (.own a)/\fs.length<=1000/\dx≠a/\h.get? a=some (DM C dx) /\
   ∃mA,h.Ns1 dx mA/\(∀f,RelO (fs.lookup f) (mA f))/\Gq mA (fs.map (·.1))
 | .own _=>∃o,h.get? a=some o
 | .xd fs=>∃mA,h.Ns1 a mA/\∀f,RelO (fs.lookup f) (mA f)
 | .rng lo hi=>∃t u v,h.get? a=some {cls:=.type "range",data:=.fields #[.int lo t,.int hi u,.int 1 v]}
 | .frz o u=>h.get? a=some o/\cw H h a u
 | .tbl ps=>h.get? a=some {cls:=.none,data:=.fields ps}
 | .met f x=>h.get? a=some (Dt (.ref f) (.ref x))
 | .ext φ=>φ h/\(∃o,h.get? a=some o)/\∀h1 h2:Heap,φ h1->(∀o,h1.get? a=some o->h2.get? a=some o)->φ h2
 | .big ps φ=>(∀p∈ps,p≠a/\H p=some (.own a))/\φ P w h/\(∃o,h.get? a=some o)/\∀h1 h2:Heap,φ P w h1->(∀b o,(b=a∨b∈ps)->h1.get? b=some o->h2.get? b=some o)->φ P w h2
def HOk (H:Hp)(h:Heap):Prop:=∀a o,H a=some o->cw P w H h a o
end
section
variable {P:wE}{w:z8}{H H':Hp}{h h':Heap}{a:Addr}{o:HO}
theorem cw.lt (x:cw P w H h a o):a<h.objs.size:=by
 cases o with
 | lst xs=>obtain⟨_,_,_,_,e⟩:=x;exact lc e
 | tup xs=>obtain⟨_,_,_,p⟩:=x;exact p.lt
 | dK kvs=>obtain⟨_,_,_,_,o,_,_,e,_⟩:=x;exact lc e
 | dT kvs=>obtain⟨_,_,_,_,o,_,_,e,_⟩:=x;exact lc e
 | set S n=>obtain⟨o,_,_,_,e,_⟩:=x;exact lc e
 | ins C dx fs=>obtain⟨_,_,_,e,_⟩:=x;exact lc e
 | own y=>obtain⟨_,e⟩:=x;exact lc e
 | xd fs=>obtain⟨_,⟨_,_,_,e,_⟩,_⟩:=x;exact lc e
 | rng lo hi=>obtain⟨_,_,_,e⟩:=x;exact lc e
 | frz ob u=>obtain⟨e,_⟩:=x;exact lc e
 | tbl ps=>exact lc (show h.get? a=some _ from x)
 | met f y=>exact lc (show h.get? a=some _ from x)
 | ext φ=>obtain⟨_,⟨_,e⟩,_⟩:=x;exact lc e
 | big ps φ=>obtain⟨_,_,⟨_,e⟩,_⟩:=x;exact lc e
theorem Paired.mapP {α β:Type}{F G:α->β->Prop}:∀ {l₁:List α} {l₂:List β},EY F l₁ l₂->(∀a b,F a b->G a b)->EY G l₁ l₂
 | _,_,.nil,_=>.nil
 | _,_,.cons r t,f=>.cons (f _ _ r) (Paired.mapP t f)
theorem cw.stay (x:cw P w H h a o)(k:∀b u,(b=a∨H b=some (.own a))->h.get? b=some u->h'.get? b=some u)
  (ho:∀b,H b=some (.own a)->H' b=some (.own a)) (ht:∀b xs,H b=some (.tup xs)->H' b=some (.tup xs)):cw P w H' h' a o:=by
 induction o with
 | lst xs=>obtain⟨z,its,n,r,e⟩:=x;exact⟨z,its,n,r,k _ _ (.inl rfl) e⟩
 | tup xs=>obtain⟨z,its,r,ob,e,c⟩:=x;exact⟨z,its,r,ob,k _ _ (.inl rfl) e,c⟩
 | dK kvs=>obtain⟨z,y,vs,r,ob,es,ep,e,c⟩:=x;exact⟨z,y,vs,r,ob,es,ep,k _ _ (.inl rfl) e,c⟩
 | dT kvs =>
  obtain⟨z,y,xs,r,ob,es,ep,e,c⟩:=x;exact⟨z,y,xs,Paired.mapP r λp q z=>⟨z.1,ht _ _ z.2.1,z.2.2⟩,ob,es,ep,k _ _ (.inl rfl) e,c⟩
 | set S n=>obtain⟨ob,es,ep,t,e,c⟩:=x;exact⟨ob,es,ep,t,k _ _ (.inl rfl) e,c⟩
 | ins C dx fs =>
  obtain⟨d,z,ne,e,mA,⟨od,es,ep,e2,c⟩,r⟩:=x;exact⟨ho _ d,z,ne,k _ _ (.inl rfl) e,mA,⟨od,es,ep,k _ _ (.inr d) e2,c⟩,r⟩
 | own y=>obtain⟨ob,e⟩:=x;exact⟨ob,k _ _ (.inl rfl) e⟩
 | xd fs=>obtain⟨mA,⟨od,es,ep,e,c⟩,r⟩:=x;exact⟨mA,⟨od,es,ep,k _ _ (.inl rfl) e,c⟩,r⟩
 | rng lo hi=>obtain⟨t,u,v,e⟩:=x;exact⟨t,u,v,k _ _ (.inl rfl) e⟩
 | frz ob u ih=>obtain⟨e,q⟩:=x;exact⟨k _ _ (.inl rfl) e,ih q⟩
 | tbl ps =>
  have e:h.get? a=some {cls:=.none,data:=.fields ps}:=x;show h'.get? a=some {cls:=.none,data:=.fields ps};exact k a _ (.inl rfl) e
 | met f y =>
  have e:h.get? a=some (Dt (.ref f) (.ref y)):=x;show h'.get? a=some (Dt (.ref f) (.ref y));exact k a _ (.inl rfl) e
 | ext φ=>obtain⟨p,⟨o,e⟩,st⟩:=x;exact⟨st _ _ p λo q=>k _ _ (.inl rfl) q,⟨o,k _ _ (.inl rfl) e⟩,st⟩
 | big ps φ=>obtain⟨ow,p,⟨o,e⟩,st⟩:=x;exact⟨λb hb=>⟨(ow b hb).1,ho _ (ow b hb).2⟩,st _ _ p λb o hb q=>k _ _ (hb.imp id λz=>(ow b z).2) q,⟨o,k _ _ (.inl rfl) e⟩,st⟩
theorem HOk.lt (x:HOk P w H h)(e:H a=some o):a<h.objs.size:=(x a o e).lt
theorem HOk.fresh (x:HOk P w H h)(e:h.objs.size<=a):H a=none:=by
 cases q:H a with
 | none=>rfl
 | some u=>exact absurd (nw (x.lt q) e) (AZ _)
theorem HOk.kept (x:HOk P w H h)(k:∀b u,h.get? b=some u->h'.get? b=some u):HOk P w H h':=λa o e =>
 (x a o e).stay (λb u _ q=>k b u q) (λ_ q=>q) λ_ _ q=>q
theorem HOk.laid (x:HOk P w H h)(k:∀b u,h.get? b=some u->h'.get? b=some u)(hp:h.objs.size<=a)(new:cw P w (upd H a o) h' a o):HOk P w (upd H a o) h':=λb u e=>by
 have hn:=x.fresh hp;by_cases hb:b=a
 ·subst hb;rw[bh]at e;cases e;exact new
 ·rw[aW hb]at e;exact(x b u e).stay (λc v _ q=>k c v q) (λc q=>by rw[aW (bB q hn)];exact q) λc xs q=>by rw[aW (bB q hn)];exact q
end
def Rd (H:Hp)(a:Addr)(u:HO):Prop:=H a=some u ∨ ∃o,H a=some (.frz o u)
theorem Rd.ok {P:wE}{w:z8}{H:Hp}{h:Heap}{a:Addr}{u:HO}(r:Rd H a u)(x:HOk P w H h):cw P w H h a u:=by
 rcases r with r | ⟨o,r⟩
 ·exact x a u r
 ·obtain⟨_,q⟩:=x a _ r;exact q
def Mut:Option HO->Prop
 | some (.lst _)=>True
 | some (.dK _)=>True
 | some (.dT _)=>True
 | some (.set _ _)=>True
 | some (.ins _ _ _)=>True
 | some (.ext _)=>True
 | some (.big _ _)=>True
 | _=>False
section
variable {P:wE}{w:z8}{H:Hp}{h h':Heap}{x e:Addr}{o':HO}
theorem HOk.write (ok:HOk P w H h)(mu:Mut (H x))(he:e=x∨H e=some (.own x))(k:∀b u,b≠e->h.get? b=some u->h'.get? b=some u)(heo:∃u,h'.get? e=some u)
  (new:cw P w (upd H x o') h' x o'):HOk P w (upd H x o') h':=λb u q=>by
 have nown:∀c y,H c=some (.own y)->c≠x:=λc y r z=>by subst z;rw[r]at mu;exact mu
 have ntup:∀c xs,H c=some (.tup xs)->c≠x:=λc xs r z=>by subst z;rw[r]at mu;exact mu
 by_cases hb:b=x
 ·subst hb;rw[bh]at q;cases q;exact new
 ·rw[aW hb]at q;by_cases hbe:b=e
  ·have q':H b=some (.own x):=by
    rcases he with z | z
    ·exact absurd (hbe.trans z) hb
    ·rw[hbe];exact z
   rw[q]at q';cases q';obtain⟨v,hv⟩:=heo;exact⟨v,by rw[hbe];exact hv⟩
  ·refine(ok b u q).stay (λc v hc r=>k c v ?_ r) (λc r=>by rw[aW (nown c b r)];exact r) λc xs r=>by rw[aW (ntup c xs r)];exact r
   rcases hc with rfl | hc
   ·exact hbe
   ·rintro rfl;rcases he with z | z
    ·exact nown c b hc z
    ·rw[hc]at z;cases z;exact hb rfl
end
structure Un (fs ex:List Addr)(H H':Hp)(h h':Heap):Prop where
 keep:∀b o,h.get? b=some o->H b=none->b∉fs->b∉ex->h'.get? b=some o
 slot:∀b o,h.get? b=some o->H b=none->b∈fs->b∉ex->∃sl,h'.get? b=some {o with slots:=sl}
 free:∀b o,h.get? b=some o->H b=none->b∉ex->H' b=none
 there:∀b o,h.get? b=some o->b∉ex->∃o',h'.get? b=some o'
 tups:∀b xs,H b=some (.tup xs)->H' b=some (.tup xs)
 frzs:∀b o u,H b=some (.frz o u)->H' b=some (.frz o u)
 tbls:∀b ps,H b=some (.tbl ps)->∃more,H' b=some (.tbl (ps++more))
section
variable {fs fs' ex ex':List Addr}{H H1 H2:Hp}{h h1 h2 h':Heap}{a x e:Addr}{o:HO}
theorem Un.any (u:Un fs ex H H1 h h1){b:Addr}{ob:Obj}(q:h.get? b=some ob)(n:H b=none)(hx:b∉ex):∃sl,h1.get? b=some {ob with slots:=sl}:=by
 by_cases hb:b∈fs
 ·exact u.slot b ob q n hb hx
 ·exact⟨ob.slots,u.keep b ob q n hb hx⟩
theorem Un.trans (a:Un fs ex H H1 h h1)(b:Un fs ex H1 H2 h1 h2):Un fs ex H H2 h h2 where
 keep:=λc ob q n hc hx=>b.keep c ob (a.keep c ob q n hc hx) (a.free c ob q n hx) hc hx
 slot:=λc ob q n hc hx=>by
  obtain⟨sl,e1⟩:=a.slot c ob q n hc hx;obtain⟨sl',e2⟩:=b.slot c _ e1 (a.free c ob q n hx) hc hx;exact⟨sl',e2⟩
 free:=λc ob q n hx=>by
  obtain⟨o',e1⟩:=a.there c ob q hx;exact b.free c o' e1 (a.free c ob q n hx) hx
 there:=λc ob q hx=>by
  obtain⟨o',e1⟩:=a.there c ob q hx;exact b.there c o' e1 hx
 tups:=λc xs q=>b.tups c xs (a.tups c xs q)
 frzs:=λc ob xs q=>b.frzs c ob xs (a.frzs c ob xs q)
 tbls:=λc ps q=>by
  obtain⟨m1,e1⟩:=a.tbls c ps q;obtain⟨m2,e2⟩:=b.tbls c _ e1;exact⟨m1++m2,by rw[e2,Fq]⟩
theorem Un.kept (k:∀b u,h.get? b=some u->h'.get? b=some u):Un fs ex H H h h' :=
 ⟨λb ob q _ _ _=>k b ob q,λb ob q _ _ _=>⟨ob.slots,k b ob q⟩,λ_ _ _ n _=>n,λb ob q _=>⟨ob,k b ob q⟩,λ_ _ q=>q,λ_ _ _ q=>q,λ_ ps q=>⟨#[],by rw[q];simp⟩⟩
theorem Un.refl:Un fs ex H H h h:=Un.kept λ_ _ q=>q
theorem Un.laid (k:∀b u,h.get? b=some u->h'.get? b=some u)(hp:h.objs.size<=a)(hn:H a=none):Un fs ex H (upd H a o) h h' where
 keep:=λb u q _ _ _=>k b u q
 slot:=λb u q _ _ _=>⟨u.slots,k b u q⟩
 free:=λb u q n _=>by rw[aW (zM (nw (lc q) hp))];exact n
 there:=λb u q _=>⟨u,k b u q⟩
 tups:=λb xs q=>by rw[aW (bB q hn)];exact q
 frzs:=λb u xs q=>by rw[aW (bB q hn)];exact q
 tbls:=λb ps q=>⟨#[],by rw[aW (bB q hn),q];simp⟩
theorem Un.write (mu:Mut (H x))(he:e=x∨H e=some (.own x))(k:∀b u,b≠e->h.get? b=some u->h'.get? b=some u)(heo:∃u,h'.get? e=some u):Un fs ex H (upd H x o) h h':=by
 have hx:∀b,H b=none->b≠x:=λb n z=>by subst z;rw[n]at mu;exact mu
 have hb:∀b,H b=none->b≠e:=λb n z=>by
  subst z;rcases he with r | r
  ·exact hx b n r
  ·rw[n]at r;cases r
 have hm:∀b u,H b=some u->¬Mut (some u)->b≠x:=λb u q nm z=>by subst z;rw[q]at mu;exact nm mu
 refine⟨λb u q n _ _=>k b u (hb b n) q,λb u q n _ _=>⟨u.slots,k b u (hb b n) q⟩,λb u q n _=>by rw[aW (hx b n)];exact n,λb u q _=>?_,
  λb xs q=>by rw[aW (hm b _ q λz=>z)];exact q,λb u xs q=>by rw[aW (hm b _ q λz=>z)];exact q,λb ps q=>⟨#[],by rw[aW (hm b _ q λz=>z),q];simp⟩⟩
 by_cases hbe:b=e
 ·subst hbe;exact heo
 ·exact⟨u,k b u hbe q⟩
end
def trk (h:Heap)(H:Hp):List Addr:=(wr h.objs.size).filter λa=>(H a).isSome
def hidT (h:Heap)(H:Hp):Heap:=PySem.W.hideAll h (trk h H)
theorem sZ (h:Heap)(H:Hp):(hidT h H).objs.size=h.objs.size:=PySem.W.hideAll_size _ _
theorem uR {h:Heap}{H:Hp}{b:Addr}{o:Obj}(e:h.get? b=some o)(n:H b=none):(hidT h H).get? b=some o :=
 PySem.W.hideAll_get _ e λhm=>by
  have q:(H b).isSome=true:=(Ao.mp hm).2;rw[n]at q;simp at q
theorem wM {h:Heap}{H:Hp}{b:Addr}{o:Obj}(e:(hidT h H).get? b=some o):h.get? b=some o/\H b=none:=by
 have e':h.get? b=some o:=PySem.W.of_hideAll (trk h H) e;refine⟨e',?_⟩;cases q:H b with
 | none=>rfl
 | some x =>
  have hm:b∈trk h H:=Ao.mpr ⟨Ah.mpr (lc e'),by simp[q]⟩;have z:(hidT h H).get? b=none:=PySem.W.hideAll_none (trk h H) hm;rw[z]at e;cases e
structure Mod (K:ac)(mg:Str->Option bd)(base:Heap):Prop where
 kin:K.In base
 glob:base.Ns zN mg
 blt:∃mb,base.Ns Gp mb/\∀x:Str,x ≠ "__name__" -> mb x=Ar x
 nolimit:base.NoLimit
structure Cx where
 prog:wE
 w:z8
 K:ac
 mg:Str->Option bd
 base:Heap
 A:zX
 N:List Str
 s₀:db
 H₀:Hp
 env:Env
 outer:List Env
 stack:List Env
 ex:List Addr
 fn:Str->Bool
 calm:Bool
 pn:List (Addr×Obj)
 xe:bd->db->Prop
def frs (l:List Env):List Addr:=l.filterMap (·.frame)
abbrev Cx.fs (X:Cx):List Addr:=frs X.outer
def Vis (sc:AC)(x:Str):Prop:=sc.names.lookup x=some .local∨sc.names.lookup x=some .cell∨sc.names.lookup x=some .free
def Loc (sc:AC)(x:Str):Prop:=sc.names.lookup x=some .local∨sc.names.lookup x=some .cell
def Look (env:Env)(h:Heap)(m:Str->Option bd)(x:Str)(u:bd):Prop :=
 (env.kindOf x=some .local/\m x=some u)∨((env.kindOf x=some .cell∨env.kindOf x=some .free)/\∃c,env.cells.lookup x=some c/\h.IsCell c (some u))
structure Cx.Ok (X:Cx):Prop where
 mod:Mod X.K X.mg X.base
 kind:X.env.scope.kind = .function
 glob:X.env.globals=zN
 blt:X.env.builtins=Gp
 above:X.s₀.heap.objs.size<=X.env.locals
 inj:∀x y c,X.env.cells.lookup x=some c->X.env.cells.lookup y=some c->x=y
 has:∀x,(X.env.kindOf x=some .cell∨X.env.kindOf x=some .free)->∃c,X.env.cells.lookup x=some c
 cab:∀x c,X.fn x=true->X.env.cells.lookup x=some c->X.s₀.heap.objs.size<=c
 hd:X.calm=true->X.A.handled=none
 frames:X.A.frames=some X.stack
 stk:X.stack=X.outer∨(X.stack=X.env::X.outer/\X.env.frame=some X.env.locals)
 exf:∀b∈X.ex,b≠X.env.locals/\∀x c,X.env.cells.lookup x=some c->c≠b
 bs:∀b o,X.base.get? b=some o->X.s₀.heap.get? b=some o/\X.H₀ b=none
 bsz:X.base.objs.size<=X.s₀.heap.objs.size
 noex:∀b o,X.base.get? b=some o->b∉X.ex
 exfs:∀b∈X.ex,b∉X.fs
 funs:X.s₀.heap.FunFrames X.base X.outer
 frf:∀b∈X.fs,X.H₀ b=none
structure Inv (X:Cx)(pins:List (Addr×Obj))(σ:List (Option V))(H:Hp)(s:db):Prop where
 ok:X.Ok
 os:s.os=X.s₀.os
 bare:C3 s.gens
 base:Un X.fs X.ex X.H₀ H X.s₀.heap s.heap
 loc:∃m,s.heap.Ns X.env.locals m/\∀(i:Nat) (x:Str) (v:V),X.N[i]? = some x->σ[i]? = some (some v)->Vis X.env.scope x->∃u,RelV v u/\Look X.env s.heap m x u
 cell:∀x c,X.env.cells.lookup x=some c->∃v,s.heap.IsCell c v
 free:H X.env.locals=none
 freeC:∀x c,X.env.cells.lookup x=some c->H c=none
 pin:∀p∈X.pn++pins,s.heap.get? p.1=some p.2/\H p.1=none/\p.1≠X.env.locals/\p.1∉X.fs/\∀v,p.2.data ≠ .cell v
 hok:HOk X.prog X.w H s.heap
 len:σ.length=X.N.length
section
variable {X:Cx}{pins:List (Addr×Obj)}{σ:List (Option V)}{H H':Hp}{s:db}{h':Heap}
theorem Cx.Ok.nofr (ok:X.Ok){b:Addr}{o:Obj}(e:X.base.get? b=some o):b∉X.fs:=λhb=>by
 have:=(ok.funs.mem hb).1;rw[e]at this;cases this
theorem Inv.bs (I:Inv X pins σ H s):∀b o,X.base.get? b=some o->s.heap.get? b=some o/\H b=none:=λb o e =>
 ⟨I.base.keep b o (I.ok.bs b o e).1 (I.ok.bs b o e).2 (I.ok.nofr e) (I.ok.noex b o e),I.base.free b o (I.ok.bs b o e).1 (I.ok.bs b o e).2 (I.ok.noex b o e)⟩
theorem Inv.bk (I:Inv X pins σ H s):∀b o,X.base.get? b=some o->s.heap.get? b=some o:=λb o e=>(I.bs b o e).1
theorem Inv.mod (I:Inv X pins σ H s):Mod X.K X.mg X.base:=I.ok.mod
theorem Inv.kIn (I:Inv X pins σ H s):X.K.In s.heap:=I.ok.mod.kin.keeps I.bk
theorem Inv.fr (I:Inv X pins σ H s):∃m,Fr X.base X.env.locals s.heap m :=
 let ⟨m,hn,_⟩:=I.loc
 ⟨m,hn,I.bk,zQ I.ok.bsz I.ok.above⟩
theorem Inv.lt (I:Inv X pins σ H s):X.env.locals<s.heap.objs.size:=let ⟨_,hn,_⟩:=I.loc;hn.lt
theorem Inv.sz (I:Inv X pins σ H s):X.s₀.heap.objs.size<=s.heap.objs.size:=zQ I.ok.above (Am I.lt)
theorem Inv.nofs (I:Inv X pins σ H s){a:Addr}(h:s.heap.objs.size<=a):a∉X.fs:=λhb=>by
 obtain⟨_,o,ho,_⟩:=I.ok.funs.mem hb;exact absurd (nw (lc ho) (zQ I.sz h)) (AZ _)
theorem Inv.cne (I:Inv X pins σ H s):∀x c,X.env.cells.lookup x=some c->c≠X.env.locals:=λx c e z=>by
 obtain⟨v,o,ho,hd⟩:=I.cell x c e;obtain⟨m,⟨o',es,ep,ho',hd',_⟩,_⟩:=I.loc;rw[z,ho']at ho;cases ho;rw[hd']at hd;cases hd
theorem Inv.funs (I:Inv X pins σ H s):s.heap.FunFrames X.base X.outer:=by
 have all:∀(l:List Env),(∀b∈frs l,b∈X.fs)->X.s₀.heap.FunFrames X.base l->s.heap.FunFrames X.base l:=by
  intro l;induction l with
  | nil=>intro _ _;trivial
  | cons env r ih =>
   intro hs hl;obtain⟨hk,⟨L,o,hf,hn,ho,hd⟩,hr⟩:=hl;have hL:L∈X.fs:=hs L (by unfold frs;rw[Cz,hf];exact z7);obtain⟨sl,e⟩:=I.base.slot L o ho (I.ok.frf L hL) hL λz=>I.ok.exfs L z hL
   exact⟨hk,⟨L,_,hf,hn,e,hd⟩,ih (λb hb=>hs b (by unfold frs;rw[Cz,hf];exact zO _ hb)) hr⟩
 exact all X.outer (λ_ hb=>hb) I.ok.funs
theorem Inv.stack (I:Inv X pins σ H s):s.heap.FunFrames X.base X.stack:=by
 rcases I.ok.stk with e | ⟨e,hf⟩
 ·rw[e];exact I.funs
 ·rw[e];obtain⟨m,hn,_⟩:=I.loc;refine .cons (by rw[I.ok.kind];decide) hf hn ?_ I.funs;exact BN (zQ I.ok.bsz I.ok.above)
theorem Inv.stkSub (I:Inv X pins σ H s):∀b∈frs X.stack,b∈X.env.locals::X.fs:=λb hb=>by
 rcases I.ok.stk with e | ⟨e,hf⟩
 ·rw[e]at hb;exact zO _ hb
 ·rw[e]at hb;unfold frs at hb;rw[Cz,hf]at hb;exact hb
theorem Inv.stkFree (I:Inv X pins σ H s):∀b∈frs X.stack,H b=none:=λb hb=>by
 rcases wS.mp (I.stkSub b hb)with e | hb
 ·rw[e];exact I.free
 ·obtain⟨_,o,ho,_⟩:=I.ok.funs.mem hb;exact I.base.free b o ho (I.ok.frf b hb) λz=>I.ok.exfs b z hb
theorem Inv.step {g':Array E6}{t':Nat}{d':Drawn}{ch:List Addr}(I:Inv X pins σ H s)
  (hch:∀b∈ch,(b∈X.ex∨X.s₀.heap.objs.size<=b)/\b≠X.env.locals/\(∀x c,X.env.cells.lookup x=some c->c≠b)/\∀p∈X.pn++pins,p.1≠b)
  (keep:∀b o,b≠X.env.locals->b∉X.fs->b∉ch->s.heap.get? b=some o->H b=none->h'.get? b=some o)
  (slot:∀b o,b≠X.env.locals->b∈X.fs->b∉ch->s.heap.get? b=some o->H b=none->∃sl,h'.get? b=some {o with slots:=sl}) (free:∀b o,b∉ch->s.heap.get? b=some o->H b=none->H' b=none)
  (there:∀b o,b∉ch->s.heap.get? b=some o->∃o',h'.get? b=some o')
  (tups:∀b xs,H b=some (.tup xs)->H' b=some (.tup xs)) (frzs:∀b o u,H b=some (.frz o u)->H' b=some (.frz o u)) (tbls:∀b ps,H b=some (.tbl ps)->∃more,H' b=some (.tbl (ps++more)))
  (ns:∀m,s.heap.Ns X.env.locals m->h'.Ns X.env.locals m) (hok:HOk X.prog X.w H' h') (hg:C3 g') :
  Inv X pins σ H' {s with heap:=h',gens:=g',drawn:=d',toks:=t'}:=by
 have neL:∀b o,X.s₀.heap.get? b=some o->b≠X.env.locals:=λb o e=>zM (nw (lc e) I.ok.above);have neC:∀b o,X.s₀.heap.get? b=some o->b∉X.ex->b∉ch:=λb o e hx hb=>by
  rcases(hch b hb).1 with z | z
  ·exact hx z
  ·exact absurd (nw (lc e) z) (AZ _)
 have cellK:∀x c,X.env.cells.lookup x=some c->∀v,s.heap.IsCell c v->h'.IsCell c v:=λx c e v ⟨o,ho,hd⟩=>by
  have nch:c∉ch:=λz=>(hch c z).2.2.1 x c e rfl;by_cases hc:c∈X.fs
  ·obtain⟨sl,q⟩:=slot c o (I.cne x c e) hc nch ho (I.freeC x c e);exact⟨_,q,hd⟩
  ·exact⟨o,keep c o (I.cne x c e) hc nch ho (I.freeC x c e),hd⟩
 refine⟨I.ok,I.os,hg,⟨λb o e n hb hx=>?_,λb o e n hb hx=>?_,λb o e n hx=>?_,λb o e hx=>?_,λb xs e=>tups b xs (I.base.tups b xs e),λb o xs e=>frzs b o xs (I.base.frzs b o xs e),λb ps e=>?_⟩,?_,λx c e=>?_,?_,λx c e=>?_,λp hp=>?_,hok,I.len⟩
 ·exact keep b o (neL b o e) hb (neC b o e hx) (I.base.keep b o e n hb hx) (I.base.free b o e n hx)
 ·obtain⟨sl,e1⟩:=I.base.slot b o e n hb hx;obtain⟨sl',e2⟩:=slot b _ (neL b o e) hb (neC b o e hx) e1 (I.base.free b o e n hx);exact⟨sl',e2⟩
 ·obtain⟨o',e1⟩:=I.base.there b o e hx;exact free b o' (neC b o e hx) e1 (I.base.free b o e n hx)
 ·obtain⟨o',e1⟩:=I.base.there b o e hx;exact there b o' (neC b o e hx) e1
 ·obtain⟨m1,e1⟩:=I.base.tbls b ps e;obtain⟨m2,e2⟩:=tbls b _ e1;exact⟨m1++m2,by rw[e2,Fq]⟩
 ·obtain⟨m,hn,hl⟩:=I.loc;refine⟨m,ns m hn,λi x v e1 e2 e3=>?_⟩;obtain⟨u,r,l⟩:=hl i x v e1 e2 e3;refine⟨u,r,?_⟩;rcases l with l | ⟨k,c,e,z⟩
  ·exact .inl l
  ·exact .inr ⟨k,c,e,cellK x c e _ z⟩
 ·obtain⟨v,z⟩:=I.cell x c e;exact⟨v,cellK x c e v z⟩
 ·obtain⟨m,⟨o,_,_,ho,_⟩,_⟩:=I.loc;exact free _ o (λz=>(hch _ z).2.1 rfl) ho I.free
 ·obtain⟨v,o,ho,hd⟩:=I.cell x c e;exact free c o (λz=>(hch c z).2.2.1 x c e rfl) ho (I.freeC x c e)
 ·obtain⟨e,n,ne,nf,d⟩:=I.pin p hp;have nch:p.1∉ch:=λz=>(hch p.1 z).2.2.2 p hp rfl;exact⟨keep p.1 p.2 ne nf nch e n,free p.1 p.2 nch e n,ne,nf,d⟩
theorem Inv.un {t':Nat}(I:Inv X pins σ H s)(u:Un X.fs [] H H' s.heap h')(hok:HOk X.prog X.w H' h'):Inv X pins σ H' {s with heap:=h',toks:=t'}:=by
 obtain⟨m,⟨o,es,ep,ho,r⟩,_⟩:=id I.loc;obtain⟨sl,hL⟩:=u.any ho I.free (by simp);exact I.step (g':=s.gens) (d':=s.drawn) (ch:=[]) (λ_ z=>nomatch z) (λb o _ hb _ e n=>u.keep b o e n hb (by simp)) (λb o _ hb _ e n=>u.slot b o e n hb (by simp)) (λb o _ e n=>u.free b o e n (by simp)) (λb o _ e=>u.there b o e (by simp)) u.tups u.frzs u.tbls (λm' hm=>by
  obtain⟨o',es',ep',ho',r'⟩:=hm;rw[ho]at ho';cases ho';exact⟨_,es',ep',hL,r'⟩) hok I.bare
theorem Inv.call {g':Array E6}{t':Nat}{d':Drawn}{ch:List Addr}(I:Inv X pins σ H s)(u:Un (frs X.stack) ch H H' s.heap h')(hok:HOk X.prog X.w H' h')(hg:C3 g')
  (hch:∀b∈ch,(b∈X.ex∨X.s₀.heap.objs.size<=b)/\b≠X.env.locals/\(∀x c,X.env.cells.lookup x=some c->c≠b)/\∀p∈X.pn++pins,p.1≠b) :
  Inv X pins σ H' {s with heap:=h',gens:=g',drawn:=d',toks:=t'}:=by
 obtain⟨m,⟨o,es,ep,ho,r⟩,_⟩:=id I.loc;obtain⟨sl,hL⟩:=u.any ho I.free λz=>(hch _ z).2.1 rfl
 exact I.step (ch:=ch) hch (λb o hL hb hc e n=>u.keep b o e n (λz=>(wS.mp (I.stkSub b z)).elim hL hb) hc) (λb o _ _ hc e n=>u.any e n hc) (λb o hc e n=>u.free b o e n hc) (λb o hc e=>u.there b o e hc) u.tups u.frzs u.tbls (λm' hm=>by
  obtain⟨o',es',ep',ho',r'⟩:=hm;rw[ho]at ho';cases ho';exact⟨_,es',ep',hL,r'⟩) hok hg
theorem Inv.turned {t':Nat}{it:Addr}(I:Inv X pins σ H s)(k:∀b o,b≠it->s.heap.get? b=some o->h'.get? b=some o)(hn:H it=none)(hL:it≠X.env.locals)
  (h1:it∈X.ex∨X.s₀.heap.objs.size<=it) (h2:∀x c,X.env.cells.lookup x=some c->c≠it) (h3:∀p∈X.pn++pins,p.1≠it):Inv X pins σ H {s with heap:=h',toks:=t'}:=by
 have nit:∀b u,H b=some u->b≠it:=λb u e z=>by rw[z,hn]at e;cases e
 refine I.step (g':=s.gens) (d':=s.drawn) (ch:=[it]) (λb hb=>?_) (λb o _ _ hc e _=>k b o (λz=>hc (by simp[z])) e) (λb o _ _ hc e _=>⟨o.slots,k b o (λz=>hc (by simp[z])) e⟩) (λ_ _ _ _ n=>n)
  (λb o hc e=>⟨o,k b o (λz=>hc (by simp[z])) e⟩) (λ_ _ e=>e) (λ_ _ _ e=>e) (λb ps e=>⟨#[],by rw[e];simp⟩) (λm hm=>?_) (λb u e=>?_) I.bare
 ·have e:b=it:=by simpa using hb
  subst e;exact⟨h1,hL,h2,h3⟩
 ·obtain⟨o,es,ep,ho,r⟩:=hm;exact⟨o,es,ep,k _ o (AB hL) ho,r⟩
 ·refine(I.hok b u e).stay (λc v hc q=>k c v ?_ q) (λ_ q=>q) λ_ _ q=>q;rcases hc with z | z
  ·rw[z];exact nit b u e
  ·exact nit c _ z
theorem Inv.tok (I:Inv X pins σ H s)(t:Nat):Inv X pins σ H {s with toks:=t}:=I.un (h':=s.heap) (t':=t) Un.refl I.hok
theorem Inv.kept {t':Nat}(I:Inv X pins σ H s)(k:∀b u,s.heap.get? b=some u->h'.get? b=some u):Inv X pins σ H {s with heap:=h',toks:=t'}:=I.un (Un.kept k) (I.hok.kept k)
theorem Inv.laid {a:Addr}{o:HO}{t':Nat}(I:Inv X pins σ H s)(k:∀b u,s.heap.get? b=some u->h'.get? b=some u)(hp:s.heap.objs.size<=a)(new:cw X.prog X.w (upd H a o) h' a o) :
  Inv X pins σ (upd H a o) {s with heap:=h',toks:=t'}:=I.un (Un.laid k hp (I.hok.fresh hp)) (I.hok.laid k hp new)
theorem Inv.write {x e:Addr}{o:HO}{t':Nat}(I:Inv X pins σ H s)(mu:Mut (H x))(he:e=x∨H e=some (.own x))(k:∀b u,b≠e->s.heap.get? b=some u->h'.get? b=some u)(heo:∃u,h'.get? e=some u)
  (new:cw X.prog X.w (upd H x o) h' x o):Inv X pins σ (upd H x o) {s with heap:=h',toks:=t'}:=I.un (Un.write mu he k heo) (I.hok.write mu he k heo new)
theorem Inv.weak {σ':List (Option V)}(I:Inv X pins σ H s)(hl:σ'.length=σ.length)(w:∀(i:Nat) v,σ'[i]? = some (some v)->σ[i]? = some (some v)):Inv X pins σ' H s :=
 ⟨I.ok,I.os,I.bare,I.base,let ⟨m,hn,hl'⟩:=I.loc;⟨m,hn,λi x v e1 e2 e3=>hl' i x v e1 (w i v e2) e3⟩,I.cell,I.free,I.freeC,I.pin,I.hok,hl.trans I.len⟩
theorem Inv.pins_of {pins':List (Addr×Obj)}(I:Inv X pins σ H s)(h:∀p∈pins',s.heap.get? p.1=some p.2/\H p.1=none/\p.1≠X.env.locals/\p.1∉X.fs/\∀v,p.2.data ≠ .cell v):Inv X pins' σ H s :=
 ⟨I.ok,I.os,I.bare,I.base,I.loc,I.cell,I.free,I.freeC,λp hp=>(Bc.mp hp).elim (λz=>I.pin p (Bq _ z)) (h p),I.hok,I.len⟩
theorem pP {N:List Str}(hN:N.Nodup){i j:Nat}{x:Str}(a:N[i]? = some x)(b:N[j]? = some x):i=j:=by
 obtain⟨h1,e1⟩:=kt.mp a;obtain⟨h2,e2⟩:=kt.mp b;exact(List.getElem_inj hN).mp (e1.trans e2.symm)
theorem l9 {M:Ek}{A:zX}{E:bd->db->Prop}{i:Nat}{x:Str}{v:V}{u:bd}{Q:Unit->db->Prop}(I:Inv X pins σ H s)(hN:X.N.Nodup)(hi:X.N[i]? = some x)(hx:Loc X.env.scope x)(r:RelV v u)
  (h:∀s',Inv X pins (σ.set i (some v)) H s'->(∃a,AF a s.heap s'.heap/\(a=X.env.locals∨X.env.cells.lookup x=some a))->Q () s') (hf:X.fn x=true∨X.env.scope.names.lookup x=some .local:=by first | exact .inl rfl | exact .inr rfl | assumption):o0 M A (storeName X.env x u) Q E s:=by
 obtain⟨m,hn,hl⟩:=id I.loc;have hcls:(X.env.scope.kind == .class||(X.env.scope.kind == .module&&X.env.locals != X.env.globals))=false:=by rw[I.ok.kind];rfl
 have hiσ:i<σ.length:=by rw[I.len];exact(kt.mp hi).1
 have cne:=I.cne;have tracked:∀ {a:Addr} {h':Heap},(∃o,s.heap.get? a=some o/\H a=none)->AF a s.heap h'->HOk X.prog X.w H h':=λ{a h'} ha hs b ob e=>by
  obtain⟨_,_,hfree⟩:=ha;refine(I.hok b ob e).stay (λc w' hc q=>(hs.2 c ?_).trans q) (λ_ q=>q) λ_ _ q=>q;rintro rfl;rcases hc with rfl | hc
  ·rw[hfree]at e;cases e
  ·rw[hfree]at hc;cases hc
 rcases hx with hk | hk
 ·refine wpAny_storeName_local hk hn (λh' hn' hs=>?_) hcls;obtain⟨oL,_,_,hoL,_⟩:=id hn;refine h _ ⟨I.ok,I.os,I.bare,⟨λb o e n hb hx=>?_,λb o e n hb hx=>?_,I.base.free,λb o e hx=>?_,I.base.tups,I.base.frzs,I.base.tbls⟩,⟨_,hn',λj y v' e1 e2 e3=>?_⟩,λy c e=>?_,I.free,I.freeC,λp hp=>?_,tracked ⟨oL,hoL,I.free⟩ hs,by simpa using I.len⟩ ⟨_,hs,.inl rfl⟩
  ·exact(hs.2 b (zM (nw (lc e) I.ok.above))).trans (I.base.keep b o e n hb hx)
  ·obtain⟨sl,e1⟩:=I.base.slot b o e n hb hx;exact⟨sl,(hs.2 b (zM (nw (lc e) I.ok.above))).trans e1⟩
  ·obtain⟨o',e1⟩:=I.base.there b o e hx;exact⟨o',(hs.2 b (zM (nw (lc e) I.ok.above))).trans e1⟩
  ·by_cases hj:j=i
   ·subst hj;rw[hi]at e1;cases e1;rw[Ap hiσ]at e2;cases e2
    exact⟨u,r,.inl ⟨hk,by simp⟩⟩
   ·rw[zn (AB hj)]at e2;obtain⟨u',r',q⟩:=hl j y v' e1 e2 e3;refine⟨u',r',?_⟩;rcases q with⟨k,e⟩ | ⟨k,c,e,z⟩
    ·refine .inl ⟨k,?_⟩;have:y≠x:=λe=>hj (pP hN e1 (e▸hi));simp[this,e]
    ·exact .inr ⟨k,c,e,z.sameBut hs (cne y c e)⟩
  ·obtain⟨w',z⟩:=I.cell y c e;exact⟨w',z.sameBut hs (cne y c e)⟩
  ·obtain⟨e,n,ne,nf,d⟩:=I.pin p hp;exact⟨(hs.2 p.1 ne).trans e,n,ne,nf,d⟩
 ·have hfn:X.fn x=true:=by
   rcases hf with z | z
   ·exact z
   ·rw[z]at hk;cases hk
  obtain⟨c,hc⟩:=I.ok.has x (.inl hk);obtain⟨w',z⟩:=I.cell x c hc;refine wpAny_storeName_cell I.ok.kind hk hc z (λh' hc' hs=>?_);obtain⟨oc,hoc,hocd⟩:=id z;refine h {s with heap:=h'} ⟨I.ok,I.os,I.bare,⟨λb o e n hb hx=>?_,λb o e n hb hx=>?_,I.base.free,λb o e hx=>?_,I.base.tups,I.base.frzs,I.base.tbls⟩,⟨m,hn.sameBut hs (AB (cne x c hc)),λj y v' e1 e2 e3=>?_⟩,λy c' e=>?_,I.free,I.freeC,λp hp=>?_,tracked ⟨oc,hoc,I.freeC x c hc⟩ hs,by simpa using I.len⟩ ⟨c,hs,.inr hc⟩
  ·exact(hs.2 b (zM (nw (lc e) (I.ok.cab x c hfn hc)))).trans (I.base.keep b o e n hb hx)
  ·obtain⟨sl,e1⟩:=I.base.slot b o e n hb hx;exact⟨sl,(hs.2 b (zM (nw (lc e) (I.ok.cab x c hfn hc)))).trans e1⟩
  ·obtain⟨o',e1⟩:=I.base.there b o e hx;exact⟨o',(hs.2 b (zM (nw (lc e) (I.ok.cab x c hfn hc)))).trans e1⟩
  ·by_cases hj:j=i
   ·subst hj;rw[hi]at e1;cases e1;rw[Ap hiσ]at e2;cases e2
    exact⟨u,r,.inr ⟨.inl hk,c,hc,hc'⟩⟩
   ·rw[zn (AB hj)]at e2;obtain⟨u',r',q⟩:=hl j y v' e1 e2 e3;refine⟨u',r',?_⟩;rcases q with q | ⟨k,c',e,z'⟩
    ·exact .inl q
    ·refine .inr ⟨k,c',e,z'.sameBut hs ?_⟩;rintro rfl;exact hj (pP hN e1 (I.ok.inj _ _ _ e hc▸hi))
  ·by_cases hcc:c'=c
   ·subst hcc;exact⟨_,hc'⟩
   ·obtain⟨w2,z2⟩:=I.cell y c' e;exact⟨w2,z2.sameBut hs hcc⟩
  ·obtain⟨e,n,ne,nf,d⟩:=I.pin p hp;refine⟨(hs.2 p.1 ?_).trans e,n,ne,nf,d⟩;intro q;rw[q,hoc]at e;have q':oc=p.2:=AY e;exact d w' (by rw[<- q'];exact hocd)
theorem ph {M:Ek}{A:zX}{E:bd->db->Prop}{i:Nat}{x:Str}{v:V}{u:bd}{Q:Unit->db->Prop}(I:Inv X pins σ H s)(hN:X.N.Nodup)(hi:X.N[i]? = some x)(hx:Loc X.env.scope x)(r:RelV v u)
  (h:∀s',Inv X pins (σ.set i (some v)) H s'->Q () s') (hf:X.fn x=true∨X.env.scope.names.lookup x=some .local:=by first | exact .inl rfl | exact .inr rfl | assumption):o0 M A (storeName X.env x u) Q E s :=
 l9 I hN hi hx r (λs' I' _=>h s' I') hf
theorem Inv.call' {s':db}{ch:List Addr}(I:Inv X pins σ H s)(ho:s'.os=s.os)(u:Un (frs X.stack) ch H H' s.heap s'.heap)(hok:HOk X.prog X.w H' s'.heap)(hg:C3 s'.gens)
  (hch:∀b∈ch,(b∈X.ex∨X.s₀.heap.objs.size<=b)/\b≠X.env.locals/\(∀x c,X.env.cells.lookup x=some c->c≠b)/\∀p∈X.pn++pins,p.1≠b):Inv X pins σ H' s':=by
 obtain⟨h',g',d',t',o'⟩:=s';have e:o'=s.os:=ho;subst e;exact I.call (g':=g') (t':=t') (d':=d') u hok hg hch
end
abbrev XK:=bd->Option Addr->Hp->Prop
abbrev St:=List (Option V)
abbrev VK:=V->Hp->Prop
abbrev TE:=St->Hp->VK->Prop
abbrev TT:=St->Hp->(Bool->Hp->Prop)->Prop
abbrev TA:=St->Hp->(List V->Hp->Prop)->Prop
structure Ends where
 nx:St->Hp->Prop
 rt:VK
 bk:St->Hp->Prop:=λ_ _=>False
 ct:St->Hp->Prop:=λ_ _=>False
abbrev TS:=Ends->St->Hp->Prop
def EP (X:Cx)(pins:List (Addr×Obj))(σ:St)(Q:VK)(u:bd)(s':db):Prop:=∃v H',Inv X pins σ H' s'/\RelV v u/\Q v H'
def TP (X:Cx)(pins:List (Addr×Obj))(σ:St)(Q:Bool->Hp->Prop)(b:Bool)(s':db):Prop:=∃H',Inv X pins σ H' s'/\Q b H'
def AP (X:Cx)(pins:List (Addr×Obj))(σ:St)(Q:List V->Hp->Prop)(us:List bd)(s':db):Prop:=∃vs H',Inv X pins σ H' s'/\Vals vs us/\Q vs H'
def SP (X:Cx)(pins:List (Addr×Obj))(D:Ends)(f:Flow)(s':db):Prop :=
 match f with
 | .next=>∃ σ' H',Inv X pins σ' H' s'/\D.nx σ' H'
 | .brk=>∃ σ' H',Inv X pins σ' H' s'/\D.bk σ' H'
 | .cont=>∃ σ' H',Inv X pins σ' H' s'/\D.ct σ' H'
 | .ret u=>∃v σ' H',Inv X pins σ' H' s'/\RelV v u/\D.rt v H'
def PE (X:Cx)(e:Expr)(t:TE):Prop :=
 ∀(pins:List (Addr×Obj)) (s:db) (σ:St) (H:Hp) (Q:VK),Inv X pins σ H s->t σ H Q->o0 (wn X.prog X.w) X.A (eval e X.env) (EP X pins σ Q) X.xe s
def PT (X:Cx)(e:Expr)(t:TT):Prop :=
 ∀(pins:List (Addr×Obj)) (s:db) (σ:St) (H:Hp) (Q:Bool->Hp->Prop),Inv X pins σ H s->t σ H Q->o0 (wn X.prog X.w) X.A (ER e X.env (eval e X.env)) (TP X pins σ Q) X.xe s
def PW (X:Cx)(e:Expr)(t:TT):Prop :=
 ∀(whole:Sem bd) (pins:List (Addr×Obj)) (s:db) (σ:St) (H:Hp) (Q:Bool->Hp->Prop),Inv X pins σ H s->t σ H Q->o0 (wn X.prog X.w) X.A (ER e X.env whole) (TP X pins σ Q) X.xe s
theorem PW.pt {X:Cx}{e:Expr}{t:TT}(h:PW X e t):PT X e t:=h _
def PA (X:Cx)(es:List Expr)(t:TA):Prop :=
 ∀(pos:Pos) (pins:List (Addr×Obj)) (s:db) (σ:St) (H:Hp) (Q:List V->Hp->Prop),Inv X pins σ H s->t σ H Q->o0 (wn X.prog X.w) X.A (Gz (BW pos (zT es X.env))) (AP X pins σ Q) X.xe s
def PS (X:Cx)(st:Stmt)(t:TS):Prop :=
 ∀(pins:List (Addr×Obj)) (s:db) (σ:St) (H:Hp) (D:Ends),Inv X pins σ H s->t D σ H->o0 (wn X.prog X.w) X.A (exec st X.env) (SP X pins D) X.xe s
def PSs (X:Cx)(st:List Stmt)(t:TS):Prop :=
 ∀(pins:List (Addr×Obj)) (s:db) (σ:St) (H:Hp) (D:Ends),Inv X pins σ H s->t D σ H->o0 (wn X.prog X.w) X.A (execs st X.env) (SP X pins D) X.xe s
theorem thn {α:Type}{t:Sem α}{Q Q':α->db->Prop}{M:Ek}{A:zX}{E:bd->db->Prop}{s:db}(h:o0 M A t Q E s)(hQ:∀a s,Q a s->Q' a s):o0 M A t Q' E s:=z9 h hQ λ_ _ x=>x
section
variable {X:Cx}
def tVar (i:Nat):TE:=λσ H Q=>∃v,σ[i]? = some (some v)/\Q v H
def tC (v:V):TE:=λ_ H Q=>Q v H
theorem yc {i:Nat}{x:Str}{pos:Pos}(hN:X.N[i]? = some x)(hv:Vis X.env.scope x)(hd:(x==("__debug__" : Str))=false:=by decide)(hcd:(x==("__classdict__" : Str))=false:=by decide):PE X (.Name x pos) (tVar i):=by
 intro pins s σ H Q I h;obtain⟨v,e,h⟩:=h;obtain⟨m,hn,hl⟩:=I.loc;obtain⟨u,r,l⟩:=hl i x v hN e hv;have fin:EP X pins σ Q u s:=⟨v,H,I,r,h⟩
 rcases l with⟨hk,hm⟩ | ⟨hk,c,hc,hcell⟩
 ·exact Gm (wpAny_loadName_local I.ok.kind hk hn hm fin) hd
 ·rcases hk with hk | hk
  ·exact Gm (wpAny_loadName_cell I.ok.kind hk hc hcell fin) hd
  ·exact Gm (wpAny_loadName_free I.ok.kind hk hc hcell fin hcd) hd
theorem aX {i j pos}:PE X (.Constant (.int i) j pos) (tC (.int i)):=λ_ _ _ H _ I h=>wpAny_Constant_int ⟨.int i,H,I.tok _,⟨_,rfl⟩,h⟩
theorem gX {b j pos}:PE X (.Constant (.bool b) j pos) (tC (.bl b)):=λ_ _ _ H _ I h=>Constant_bool ⟨.bl b,H,I,rfl,h⟩
theorem yg {j pos}:PE X (.Constant .none j pos) (tC .non):=λ_ _ _ H _ I h=>Constant_none ⟨.non,H,I,rfl,h⟩
theorem cj {x j pos}:PE X (.Constant (.str x) j pos) (tC (.str x)):=λ_ _ _ H _ I h=>Calls.Constant_str ⟨.str x,H,I.tok _,⟨_,rfl⟩,h⟩
def Gl (X:Cx)(x:Str):Prop:=X.env.kindOf x=some .globalImplicit
theorem fH {E:bd->db->Prop}{pins:List (Addr×Obj)}{s:db}{σ:St}{H:Hp}{x:Str}{u:bd}{pos:Pos}{Q:bd->db->Prop}(I:Inv X pins σ H s)(hg:Gl X x)(hm:X.mg x=some u)(h:Q u s)
  (hd:(x==("__debug__" : Str))=false:=by decide):o0 (wn X.prog X.w) X.A (eval (.Name x pos) X.env) Q E s :=
 Em I.ok.kind hg (Calls.loadGlobal_global (by rw[I.ok.glob];exact I.mod.glob.keeps I.bk) hm h) hd
theorem gn {E:bd->db->Prop}{pins:List (Addr×Obj)}{s:db}{σ:St}{H:Hp}{x:Str}{u:bd}{pos:Pos}{Q:bd->db->Prop}(I:Inv X pins σ H s)(hg:Gl X x)(hm:X.mg x=none)(hv:Ar x=some u)(h:Q u s)
  (hn:x ≠ "__name__" := by decide) (hd:(x==("__debug__" : Str))=false:=by decide):o0 (wn X.prog X.w) X.A (eval (.Name x pos) X.env) Q E s:=by
 obtain⟨mb,h1,h2⟩:=I.mod.blt;exact Em I.ok.kind hg (Calls.loadGlobal_builtin (by rw[I.ok.glob];exact I.mod.glob.keeps I.bk) hm (by rw[I.ok.blt];exact h1.keeps I.bk) ((h2 x hn).trans hv) h) hd
theorem wD {x:Str}{v:V}{u:bd}{pos:Pos}(hg:Gl X x)(hm:X.mg x=some u)(r:RelV v u)(hd:(x==("__debug__" : Str))=false:=by decide):PE X (.Name x pos) (tC v) :=
 λ_ _ _ H _ I h=>fH I hg hm ⟨v,H,I,r,h⟩ hd
theorem wG {x:Str}{v:V}{u:bd}{pos:Pos}(hg:Gl X x)(hm:X.mg x=none)(hv:Ar x=some u)(r:RelV v u)(hn:x ≠ "__name__" := by decide)(hd:(x==("__debug__" : Str))=false:=by decide):PE X (.Name x pos) (tC v) :=
 λ_ _ _ H _ I h=>gn I hg hm hv ⟨v,H,I,r,h⟩ hn hd
variable {a b:Expr}{ta tb:TE}{pos:Pos}
def PC (X:Cx)(op:GO)(a b:Expr)(t:TE):Prop :=
 ∀(pins:List (Addr×Obj)) (s:db) (σ:St) (H:Hp) (Q:VK),Inv X pins σ H s->t σ H Q ->
  o0 (wn X.prog X.w) X.A (eval a X.env) (λv s₁=>o0 (wn X.prog X.w) X.A (eval b X.env) (λu s₂=>o0 (wn X.prog X.w) X.A (Bv op v u) (EP X pins σ Q) X.xe s₂) X.xe s₁) X.xe s
def tB (t:TE):TT:=λσ H Q=>t σ H λx H1=>∃c,x = .bl c/\Q c H1
theorem x9 {op:GO}{t:TE}(h:PC X op a b t)(h1:C5 op b=false:=by first | exact nobehind _ (by decide) (by decide) | rfl):PT X (.Compare a [op] [b] pos) (tB t):=by
 intro pins s σ H Q I hw;refine FW (thn (h pins s σ H _ I hw) λv s1 h1=>thn h1 λu s2 h2=>thn h2 λc s3 ⟨x,H1,I1,r1,q1⟩=>?_) h1;obtain⟨d,rfl,q⟩:=q1;cases r1
 exact Bf ⟨H1,I1,q⟩
theorem je {e:Expr}{t:TE}(h:PE X e t)(he:∀whole,ER e X.env whole=(do let v <- whole;Gy e.pos;GD [v] (truthy v)):=by intro _;rfl):PT X e (tB t):=by
 intro pins s σ H Q I hw;refine isTrue_plain (thn (h pins s σ H _ I hw) λv s1 ⟨x,H1,I1,r1,q1⟩=>?_) (he _);obtain⟨d,rfl,q⟩:=q1;cases r1
 exact Bf ⟨H1,I1,q⟩
variable {tA tB':TT}{rest:List Expr}
def tAnd (t u:TT):TT:=λσ H Q=>t σ H λc H1=>if c=true then u σ H1 Q else Q false H1
def tOr (t u:TT):TT:=λσ H Q=>t σ H λc H1=>if c=true then Q true H1 else u σ H1 Q
def tNot (t:TT):TT:=λσ H Q=>t σ H λc H1=>Q (!c) H1
theorem jd (ha:PT X a tA):PW X (.BoolOp .And [a] pos) tA:=by
 intro wh pins s σ H Q I h;refine isTrue_and (thn (ha pins s σ H Q I h) λc s1 e=>?_);cases c with
 | true=>exact isTrue_and_nil e
 | false=>exact e
theorem gQ (ha:PT X a tA):PW X (.BoolOp .Or [a] pos) tA:=by
 intro wh pins s σ H Q I h;refine isTrue_or (thn (ha pins s σ H Q I h) λc s1 e=>?_);cases c with
 | false=>exact isTrue_or_nil e
 | true=>exact e
theorem mj (ha:PT X a tA)(hb:PW X (.BoolOp .And (b::rest) pos) tB'):PW X (.BoolOp .And (a::b::rest) pos) (tAnd tA tB'):=by
 intro wh pins s σ H Q I h;refine isTrue_and (thn (ha pins s σ H _ I h) λc s1 ⟨H1,I1,q1⟩=>?_);cases c with
 | true=>exact hb wh pins s1 σ H1 Q I1 q1
 | false=>exact⟨H1,I1,q1⟩
theorem jV (ha:PT X a tA)(hb:PW X (.BoolOp .Or (b::rest) pos) tB'):PW X (.BoolOp .Or (a::b::rest) pos) (tOr tA tB'):=by
 intro wh pins s σ H Q I h;refine isTrue_or (thn (ha pins s σ H _ I h) λc s1 ⟨H1,I1,q1⟩=>?_);cases c with
 | true=>exact⟨H1,I1,q1⟩
 | false=>exact hb wh pins s1 σ H1 Q I1 q1
theorem iC (ha:PT X a tA):PT X (.UnaryOp .Not a pos) (tNot tA):=by
 intro pins s σ H Q I h;exact isTrue_not (ha pins s σ H (λc H1=>Q (!c) H1) I h)
def xT (ta tb:TE):TE:=λσ H Q=>ta σ H λx H1=>∃c,x = .bl c/\if c=true then tb σ H1 Q else Q (.bl false) H1
def xS (ta:TE):TE:=λσ H Q=>ta σ H λx H1=>∃c,x = .bl c/\Q (.bl (!c)) H1
theorem mo {op}{t:TE}(h:PE X a t):PE X (.BoolOp op [a] pos) t:=λpins s σ H Q I hw=>BoolOp_one (h pins s σ H Q I hw)
theorem gY (ha:PE X a ta)(hb:PE X (.BoolOp .And (b::rest) pos) tb):PE X (.BoolOp .And (a::b::rest) pos) (xT ta tb):=by
 intro pins s σ H Q I h;refine BoolOp_and (thn (ha pins s σ H _ I h) λv s1 ⟨x,H1,I1,r1,q1⟩=>?_);obtain⟨c,rfl,q1⟩:=q1;cases r1
 refine Bf ?_;cases c with
 | true=>exact hb pins s1 σ H1 Q I1 q1
 | false=>exact⟨.bl false,H1,I1,rfl,q1⟩
theorem yf (ha:PE X a ta):PE X (.UnaryOp .Not a pos) (xS ta):=by
 intro pins s σ H Q I h;refine UnaryOp_ (thn (ha pins s σ H _ I h) λv s1 ⟨x,H1,I1,r1,q1⟩=>?_);obtain⟨c,rfl,q1⟩:=q1;cases r1
 exact not_of (Bf ⟨.bl (!c),H1,I1,rfl,q1⟩)
end
def SqL (K:ac)(H:Hp)(a:Addr)(xs:List V):Prop :=
 Rd H a (.lst xs) ∨
  ∃(o:Obj) (its:Array bd) (n:Nat),K.lookup a=some o/\o.cls = .type "list" /\ o.dict=none/\o.data = .seq its n/\its.size<=xz/\Vals xs its.toList
def SqT (K:ac)(H:Hp)(a:Addr)(xs:List V):Prop :=
 Rd H a (.tup xs) ∨
  ∃(o:Obj) (its:Array bd) (n:Nat),K.lookup a=some o/\o.cls = .type "tuple" /\ o.data = .seq its n/\its.size<=xz/\Vals xs its.toList
def absV:bd->Option V
 | .none=>some .non
 | .bool b=>some (.bl b)
 | .int i _=>some (.int i)
 | .str x _=>some (.str x)
 | .bytes b _=>some (.byt b)
 | .float b _=>some (.flt b)
 | .ref a=>some (.ref a)
 | .type n=>some (.ty n)
 | _=>none
theorem RelV.abs {x:V}{u:bd}(r:RelV x u):absV u=some x:=by
 cases x with
 | non=>cases r;rfl
 | bl _=>cases r;rfl
 | int _=>obtain⟨t,rfl⟩:=r;rfl
 | str _=>obtain⟨t,rfl⟩:=r;rfl
 | byt _=>obtain⟨t,rfl⟩:=r;rfl
 | flt _=>obtain⟨t,rfl⟩:=r;rfl
 | ref _=>cases r;rfl
 | ty _=>cases r;rfl
theorem RelV.inj {x y:V}{u:bd}(r:RelV x u)(q:RelV y u):x=y:=AY (r.abs.symm.trans q.abs)
theorem Vals.inj:∀ {xs ys:List V} {us:List bd},Vals xs us->Vals ys us->xs=ys
 | _,_,_,.nil,.nil=>rfl
 | _,_,_,.cons r t,.cons r' t'=>by rw[r.inj r',Vals.inj t t']
section
variable {X:Cx}{pins:List (Addr×Obj)}{σ:St}{H:Hp}{s:db}{a:Addr}{xs ys:List V}
theorem SqL.of {K:ac}(h:H a=some (.lst xs)):SqL K H a xs:=.inl (.inl h)
theorem SqT.of {K:ac}(h:H a=some (.tup xs)):SqT K H a xs:=.inl (.inl h)
theorem Inv.list (I:Inv X pins σ H s)(h:SqL X.K H a xs):∃its:List bd,Vals xs its/\PlainL s.heap a its.toArray/\xs.length<=xz:=by
 rcases h with h | ⟨o,its,n,hk,hc,hd,hs,hz,r⟩
 ·obtain⟨z,its,n,r,e⟩:=h.ok I.hok;exact⟨its,r,⟨_,n,e,rfl,rfl,rfl⟩,z⟩
 ·refine⟨its.toList,r,⟨o,n,I.kIn a o hk,hc,hd,by simpa using hs⟩,?_⟩;have e:=r.length;simp only[Dp]at e;omega
theorem Inv.tuple (I:Inv X pins σ H s)(h:SqT X.K H a xs):∃its:List bd,Vals xs its/\IsTup s.heap a its.toArray/\xs.length<=xz:=by
 rcases h with h | ⟨o,its,n,hk,hc,hs,hz,r⟩
 ·obtain⟨z,its,r,p⟩:=h.ok I.hok;exact⟨its,r,p,z⟩
 ·refine⟨its.toList,r,⟨o,I.kIn a o hk,hc,n,by simpa using hs⟩,?_⟩;have e:=r.length;simp only[Dp]at e;omega
theorem Inv.list_inj (I:Inv X pins σ H s)(h:SqL X.K H a xs)(h':SqL X.K H a ys):xs=ys:=by
 obtain⟨its,r,⟨o,n,e,_,_,d⟩,_⟩:=I.list h;obtain⟨its',r',⟨o',n',e',_,_,d'⟩,_⟩:=I.list h';rw[e]at e';cases e';rw[d]at d';injection d' with d1 _;have:its=its':=by simpa using congrArg Gw d1
 subst this;exact r.inj r'
theorem Inv.tuple_inj (I:Inv X pins σ H s)(h:SqT X.K H a xs)(h':SqT X.K H a ys):xs=ys:=by
 obtain⟨its,r,⟨o,e,_,n,d⟩,_⟩:=I.tuple h;obtain⟨its',r',⟨o',e',_,n',d'⟩,_⟩:=I.tuple h';rw[e]at e';cases e';rw[d]at d';injection d' with d1 _;have:its=its':=by simpa using congrArg Gw d1
 subst this;exact r.inj r'
end
abbrev Cx.wish (X:Cx)(E:bd->db->Prop):Cx:={X with xe:=E}
abbrev Cx.nox (X:Cx):Cx:=X.wish λ_ _=>False
theorem Cx.Ok.wish {X:Cx}(ok:X.Ok)(E:bd->db->Prop):(X.wish E).Ok :=
 ⟨ok.mod,ok.kind,ok.glob,ok.blt,ok.above,ok.inj,ok.has,ok.cab,ok.hd,ok.frames,ok.stk,ok.exf,ok.bs,ok.bsz,ok.noex,ok.exfs,ok.funs,ok.frf⟩
theorem Cx.Ok.unwish {X:Cx}{E:bd->db->Prop}(ok:(X.wish E).Ok):X.Ok :=
 ⟨ok.mod,ok.kind,ok.glob,ok.blt,ok.above,ok.inj,ok.has,ok.cab,ok.hd,ok.frames,ok.stk,ok.exf,ok.bs,ok.bsz,ok.noex,ok.exfs,ok.funs,ok.frf⟩
section
variable {X:Cx}{pins:List (Addr×Obj)}{σ:St}{H:Hp}{s:db}{E:bd->db->Prop}
theorem Inv.wish (I:Inv X pins σ H s)(E:bd->db->Prop):Inv (X.wish E) pins σ H s:=⟨I.ok.wish E,I.os,I.bare,I.base,I.loc,I.cell,I.free,I.freeC,I.pin,I.hok,I.len⟩
theorem Inv.unwish (I:Inv (X.wish E) pins σ H s):Inv X pins σ H s:=⟨I.ok.unwish,I.os,I.bare,I.base,I.loc,I.cell,I.free,I.freeC,I.pin,I.hok,I.len⟩
theorem SP.unwish {D:Ends}{f:Flow}{s':db}(h:SP (X.wish E) pins D f s'):SP X pins D f s':=by
 cases f with
 | next=>obtain⟨σ',H',I,q⟩:=h;exact⟨σ',H',I.unwish,q⟩
 | brk=>obtain⟨σ',H',I,q⟩:=h;exact⟨σ',H',I.unwish,q⟩
 | cont=>obtain⟨σ',H',I,q⟩:=h;exact⟨σ',H',I.unwish,q⟩
 | ret u=>obtain⟨v,σ',H',I,r,q⟩:=h;exact⟨v,σ',H',I.unwish,r,q⟩
theorem PE.nox {e:Expr}{t:TE}(h:PE X.nox e t):PE X e t:=λpins s σ H Q I hw =>
 z9 (h pins s σ H Q (I.wish _) hw) (λ_ _ ⟨v,H',I',r,q⟩=>⟨v,H',I'.unwish,r,q⟩) λ_ _ z=>zZ z
theorem PT.nox {e:Expr}{t:TT}(h:PT X.nox e t):PT X e t:=λpins s σ H Q I hw =>
 z9 (h pins s σ H Q (I.wish _) hw) (λ_ _ ⟨H',I',q⟩=>⟨H',I'.unwish,q⟩) λ_ _ z=>zZ z
theorem PSs.nox {st:List Stmt}{t:TS}(h:PSs X.nox st t):PSs X st t:=λpins s σ H D I hw =>
 z9 (h pins s σ H D (I.wish _) hw) (λ_ _ q=>q.unwish) λ_ _ z=>zZ z
end
section
variable {X:Cx}{st:Stmt}{rest:List Stmt}{t u:TS}{e:Expr}{te:TE}{pos:Pos}
def tNext:TS:=λD σ H=>D.nx σ H
def tSeq (t u:TS):TS:=λD σ H=>t {D with nx:=u D} σ H
theorem bU:PSs X [] tNext:=λ_ _ σ H _ I h=>B7 ⟨σ,H,I,h⟩
theorem aA (h1:PS X st t)(h2:PSs X rest u):PSs X (st::rest) (tSeq t u):=by
 intro pins s σ H D I h;refine Df (thn (h1 pins s σ H {D with nx:=u D} I h) λf s1 q=>?_);cases f with
 | next =>
  obtain⟨σ',H',I',q⟩:=q;exact h2 pins s1 σ' H' D I' q
 | ret v=>exact q
 | brk=>exact q
 | cont=>exact q
theorem aV (h1:PS X st t):PSs X [st] t:=by
 intro pins s σ H D I h;refine Df (thn (h1 pins s σ H D I h) λf s1 q=>?_);cases f with
 | next=>exact B7 q
 | ret v=>exact q
 | brk=>exact q
 | cont=>exact q
theorem Inv.quiet {pins:List (Addr×Obj)}{σ:St}{H:Hp}{s:db}(I:Inv X pins σ H s):interactive X.env=false:=by simp[interactive,I.ok.kind]
def v_ (te:TE):TS:=λD σ H=>te σ H λ_ H1=>D.nx σ H1
theorem bZ (he:PE X e te)(hs:Cr e none pos.line X.env=pure false:=by rfl):PS X (.Expr e pos) (v_ te):=by
 intro pins s σ H D I h;exact wpAny_Expr_any (thn (he pins s σ H _ I h) λv s1 ⟨x,H1,I1,r1,q1⟩=>⟨σ,H1,I1,q1⟩) I.quiet hs
def tRet (te:TE):TS:=λD σ H=>te σ H D.rt
theorem bH (he:PE X e te):PS X (.Return (some e) pos) (tRet te):=by
 intro pins s σ H D I h;exact wpAny_Return_some (thn (he pins s σ H _ I h) λv s1 ⟨x,H1,I1,r1,q1⟩=>⟨x,σ,H1,I1,r1,q1⟩)
def tIfS (c:TT)(t u:TS):TS:=λD σ H=>c σ H λb H1=>if b=true then t D σ H1 else u D σ H1
theorem eh {c:Expr}{a b:List Stmt}{tc:TT}(hc:PT X c tc)(ha:PSs X a t)(hb:PSs X b u):PS X (.If c a b pos) (tIfS tc t u):=by
 intro pins s σ H D I h;refine wpAny_If (thn (hc pins s σ H _ I h) λd s1 ⟨H1,I1,q1⟩=>?_);cases d with
 | true=>exact ha pins s1 σ H1 D I1 q1
 | false=>exact hb pins s1 σ H1 D I1 q1
def tNever:TS:=λ_ _ _=>False
theorem gU:PS X st tNever:=λ_ _ _ _ _ _ h=>h.elim
end
abbrev TG:=V->St->Hp->(St->Hp->Prop)->Prop
abbrev TGs:=List V->St->Hp->(St->Hp->Prop)->Prop
def PG (X:Cx)(target:Expr)(t:TG):Prop :=
 ∀(pins:List (Addr×Obj)) (s:db) (σ:St) (H:Hp) (v:V) (u:bd) (Q:St->Hp->Prop),Inv X pins σ H s->RelV v u->t v σ H Q ->
  o0 (wn X.prog X.w) X.A (C6 target X.env u) (λ_ s'=>∃ σ' H',Inv X pins σ' H' s'/\Q σ' H') X.xe s
def PGs (X:Cx)(ts:List Expr)(t:TGs):Prop :=
 ∀(pins:List (Addr×Obj)) (s:db) (σ:St) (H:Hp) (vs:List V) (us:List bd) (Q:St->Hp->Prop),Inv X pins σ H s->Vals vs us->t vs σ H Q ->
  o0 (wn X.prog X.w) X.A (assignInOrder ((Cu ts X.env).map (·.2)) us) (λ_ s'=>∃ σ' H',Inv X pins σ' H' s'/\Q σ' H') X.xe s
section
variable {X:Cx}{pos:Pos}
def tq (i:Nat):TG:=λv σ H Q=>Q (σ.set i (some v)) H
theorem aL {i:Nat}{x:Str}(hN:X.N.Nodup)(hi:X.N[i]? = some x)(hx:Loc X.env.scope x)(hf:X.fn x=true∨X.env.scope.names.lookup x=some .local:=by first | exact .inl rfl | exact .inr rfl | assumption):PG X (.Name x pos) (tq i):=by
 intro pins s σ H v u Q I r h;exact Gx (ph I hN hi hx r (λs' I'=>⟨_,H,I',h⟩) hf)
def gNil:TGs:=λvs σ H Q=>vs=[]/\Q σ H
def yK (t:TG)(u:TGs):TGs:=λvs σ H Q=>∃v r,vs=v::r/\t v σ H λσ' H'=>u r σ' H' Q
theorem bN:PGs X [] gNil:=by
 intro pins s σ H vs us Q I r h;obtain⟨e,h⟩:=h;subst e;cases r
 exact assignInOrder_nil ⟨σ,H,I,h⟩
theorem aM {e:Expr}{es:List Expr}{t:TG}{u:TGs}(h1:PG X e t)(h2:PGs X es u)
  (hs:(Cu (e::es) X.env).map (·.2)=C6 e X.env::(Cu es X.env).map (·.2):=by rfl):PGs X (e::es) (yK t u):=by
 intro pins s σ H vs us Q I r h;obtain⟨v,vr,e1,h⟩:=h;subst e1;cases r with
 | cons r rr =>
  rw[hs];refine assignInOrder_cons (thn (h1 pins s σ H _ _ _ I r h) λ_ s1 ⟨σ1,H1,I1,q1⟩=>?_);exact h2 pins s1 σ1 H1 _ _ Q I1 rr q1
def gTup (K:ac)(n:Nat)(t:TGs):TG:=λv σ H Q=>∃a xs,v = .ref a/\SqT K H a xs/\xs.length=n/\t xs σ H Q
theorem ya {es:List Expr}{k:Nat}{t:TGs}{n:Nat}(hc:X.calm=true)(h:PGs X es t)
  (hn:(Cu es X.env).length=n:=by rfl) (hst:(Cu es X.env).findIdx? (·.1)=none:=by rfl):PG X (.Tuple es k pos) (gTup X.K n t):=by
 intro pins s σ H v u Q I r hw;obtain⟨a,xs,e1,hq,hl,hw⟩:=hw;subst e1;cases r
 obtain⟨its,rv,ht,hz⟩:=I.tuple hq;refine assign_Tuple_tuple (I.ok.hd hc) ht (by simp[hn,<- hl,rv.length]) hst λh' hx=>?_;have I1:Inv X pins σ H {s with heap:=h'}:=I.kept (t':=s.toks) λb o e=>hx b o (zM (lc e)) e;exact h pins _ σ H xs _ Q I1 (by simpa using rv) hw
def tAsg (te:TE)(g:TG):TS:=λD σ H=>te σ H λx H1=>g x σ H1 D.nx
theorem eA {tg e:Expr}{te:TE}{g:TG}(he:PE X e te)(hg:PG X tg g)(hs:swapsWithSole [tg] e pos.line X.env=pure false:=by rfl)(hw:swappedStores [tg] e X.env=pure none:=by rfl)
  (h1:(Cu [tg] X.env).map (·.2)=[C6 tg X.env]:=by rfl):PS X (.Assign [tg] e pos) (tAsg te g):=by
 intro pins s σ H D I h;refine wpAny_Assign_stores (thn (he pins s σ H _ I h) λv s1 ⟨x,H1,I1,r1,q1⟩=>?_) hs hw;rw[h1];exact thn (hg pins s1 σ H1 x v _ I1 r1 q1) λ_ s2 q=>q
theorem bo {i:Nat}{x:Str}{e:Expr}{te:TE}{pos':Pos}(hN:X.N.Nodup)(hi:X.N[i]? = some x)(hx:Loc X.env.scope x)(he:PE X e te)(hs:Cr e (some (.Name x pos')) pos.line X.env=pure false:=by rfl)(hf:X.fn x=true∨X.env.scope.names.lookup x=some .local:=by first | exact .inl rfl | exact .inr rfl | assumption) :
  PS X (.Assign [.Name x pos'] e pos) (tAsg te (tq i)):=by
 intro pins s σ H D I h;refine Ef (thn (he pins s σ H _ I h) λv s1 ⟨y,H1,I1,r1,q1⟩=>?_) hs;exact ph I1 hN hi hx r1 (λs2 I2=>⟨_,H1,I2,q1⟩) hf
end
structure It where
 go:Nat->Hp->Prop
 yld:Nat->Hp->V->Hp->Prop
 stop:Nat->Hp->Prop
def FpOk (X:Cx)(pins:List (Addr×Obj))(H:Hp)(b:Addr):Prop :=
 H b=none/\b≠X.env.locals/\b∉X.fs/\(b∈X.ex∨X.s₀.heap.objs.size<=b)/\(∀x c,X.env.cells.lookup x=some c->c≠b)/\∀p∈X.pn++pins,p.1≠b
theorem Inv.fpOk {X:Cx}{pins:List (Addr×Obj)}{σ:St}{H H':Hp}{s:db}{b:Addr}(I:Inv X pins σ H s)(hb:s.heap.objs.size<=b)(hn:H' b=none):FpOk X pins H' b:=by
 refine⟨hn,Aa (nw I.lt hb),I.nofs hb,.inr (zQ I.sz hb),λx c e z=>?_,λp hp z=>?_⟩
 ·obtain⟨v,q⟩:=I.cell x c e;exact absurd (nw q.lt (by rw[z];exact hb)) (AZ _)
 ·exact absurd (nw (lc (I.pin p hp).1) (by rw[z];exact hb)) (AZ _)
structure Turn (P:wE)(w:z8)(K:ac)(tg:Expr)(J:It)(fp:List Addr)(it:Addr)(tn:Nat->Heap->Prop):Prop where
 mem:it∈fp
 obj:∀i h,tn i h->∀b∈fp,∃o,h.get? b=some o/\∀v,o.data ≠ .cell v
 keep:∀i h h',tn i h->(∀b∈fp,∀o,h.get? b=some o->h'.get? b=some o)->tn i h'
 item:∀(X:Cx),X.prog=P->X.w=w->X.K=K->X.calm=true->∀(i:Nat) (pins:List (Addr×Obj)) (s:db) (σ:St) (H:Hp) (E:bd->db->Prop),Inv X pins σ H s->(∀b∈fp,FpOk X pins H b)->tn i s.heap->J.go i H ->
  o0 (wn P w) X.A (DE (.ref it)) (λr s1=>∃u,r=some u /\
   o0 (wn P w) X.A (CN tg (.ref it) u) (λ_ s2=>∃x H',Inv X pins σ H' s2/\RelV x u/\J.yld i H x H'/\tn (i+1) s2.heap/\∀b∈fp,H' b=none) E s1) E s
 done:∀(X:Cx),X.prog=P->X.w=w->X.K=K->X.calm=true->∀(i:Nat) (pins:List (Addr×Obj)) (s:db) (σ:St) (H:Hp) (E:bd->db->Prop),Inv X pins σ H s->(∀b∈fp,FpOk X pins H b)->tn i s.heap->J.stop i H ->
  o0 (wn P w) X.A (DE (.ref it)) (λr s1=>r=none/\Inv X pins σ H s1) E s
 self:∀(A:zX) (i:Nat) (s:db) (Q:bd->db->Prop) (E:bd->db->Prop),tn i s.heap->Q (.ref it) s->o0 (wn P w) A (pyIter (.ref it)) Q E s
abbrev TI:=St->Hp->(It->Hp->Prop)->Prop
def PIE (X:Cx)(pins:List (Addr×Obj))(σ:St)(tg:Expr)(R:It->Hp->Prop)(itv:bd)(s2:db):Prop :=
 ∃(it:Addr) (fp:List Addr) (tn:Nat->Heap->Prop) (J:It) (H':Hp),itv = .ref it/\Inv X pins σ H' s2/\Turn X.prog X.w X.K tg J fp it tn/\tn 0 s2.heap/\(∀b∈fp,FpOk X pins H' b)/\R J H'
def PI (X:Cx)(tg iter:Expr)(wi:TI):Prop :=
 ∀(pins:List (Addr×Obj)) (s:db) (σ:St) (H:Hp) (R:It->Hp->Prop),Inv X pins σ H s->wi σ H R ->
  o0 (wn X.prog X.w) X.A (eval iter X.env) (λv s1=>o0 (wn X.prog X.w) X.A (pyIter v) (PIE X pins σ tg R) X.xe s1) X.xe s
theorem tf {M:Ek}{A:zX}{E:bd->db->Prop}{s:db}{tg:Expr}{it:Addr}{u:bd}{o:Obj}{n:String}{vs:Array bd}{Q:Unit->db->Prop}(ho:s.heap.get? it=some o)(hc:o.cls = .type n)(hd:o.data = .fields vs)
  (hn:["enumerate", "zip", "dict_itemiterator", "dict_reverseitemiterator", "odict_iterator", "itertools.zip_longest", "itertools.pairwise"].contains n=false) (hQ:Q () s):o0 M A (CN tg (.ref it) u) Q E s:=by
 unfold CN;cases tg <;> first
  | exact ww hQ
  | (cases u <;> first
    | exact ww hQ
    | (refine bn (wpAny_load ho ?_);rw[hc,hd];show o0 M A (if(["enumerate", "zip", "dict_itemiterator", "dict_reverseitemiterator", "odict_iterator", "itertools.zip_longest", "itertools.pairwise"].contains n&&vs[0]? == some (Ae _))=true then _ else _) Q E s;rw[if_neg (by intro h;rw[hn,CL]at h;cases h)];exact ww hQ))
def Itl (K:ac)(a:Addr):It :=
 ⟨λi H=>∃xs x,SqL K H a xs/\xs[i]? = some x,λi H x H'=>H'=H/\∀xs,SqL K H a xs->xs[i]? = some x,λi H=>∃xs,SqL K H a xs/\xs.length<=i⟩
def Itt (K:ac)(a:Addr):It :=
 ⟨λi H=>∃xs x,SqT K H a xs/\xs[i]? = some x,λi H x H'=>H'=H/\∀xs,SqT K H a xs->xs[i]? = some x,λi H=>∃xs,SqT K H a xs/\xs.length<=i⟩
def Itr (lo:Int)(n:Nat):It:=⟨λi _=>i<n,λi H x H'=>H'=H/\x = .int (lo+i),λi _=>n<=i⟩
theorem rA {P:wE}{w:z8}{K:ac}{tg:Expr}(a it:Addr):Turn P w K tg (Itl K a) [it] it (λi h=>h.IsListIter it a i) where
 mem:=by simp
 obj:=λi h st b hb=>by
  have e:b=it:=by simpa using hb
  subst e;obtain⟨o,e,c,d⟩:=st;exact⟨o,e,λv z=>by rw[d]at z;cases z⟩
 keep:=λi h h' st k=>st.at λo e=>k it (by simp) o e
 item:=by
  intro X hP hw hK hc i pins s σ H E I hf st hg;subst hP hw hK;obtain⟨xs,x,hq,hx⟩:=hg;obtain⟨its,rv,p,hz⟩:=I.list hq;obtain⟨u,hu,ru⟩:=rv.get hx;obtain⟨f0,f1,f2,f3,f4,f5⟩:=hf it (by simp);refine wpAny_pyNext_list_item st p.isList (x:=u) (by simpa using hu) λh' st' sb=>?_;have I1:Inv X pins σ H {s with heap:=h'}:=I.turned (t':=s.toks) (λb o hb e=>(sb.2 b hb).trans e) f0 f1 f3 f4 f5;obtain⟨o,e,c,d⟩:=id st';exact⟨u,rfl,tf (s:={s with heap:=h'}) e c d (by decide) ⟨x,H,I1,ru,⟨rfl,λys hy=>by rw[I.list_inj hy hq];exact hx⟩,st',λb hb=>(hf b hb).1⟩⟩
 done:=by
  intro X hP hw hK hc i pins s σ H E I hf st hg;subst hP hw hK;obtain⟨xs,hq,hx⟩:=hg;obtain⟨its,rv,p,hz⟩:=I.list hq;obtain⟨f0,f1,f2,f3,f4,f5⟩:=hf it (by simp);have hl:=rv.length;exact wpAny_pyNext_list_end (I.ok.hd hc) st p.isList (by simp;omega) λh' eb=>⟨rfl,I.turned (t':=s.toks) (λb o hb e=>eb b o hb e) f0 f1 f3 f4 f5⟩
 self:=λ_ _ _ _ _ st h=>wpAny_pyIter_listiter st h
theorem ql {P:wE}{w:z8}{K:ac}{tg:Expr}(a it:Addr):Turn P w K tg (Itt K a) [it] it (λi h=>h.IsTupleIter it a i) where
 mem:=by simp
 obj:=λi h st b hb=>by
  have e:b=it:=by simpa using hb
  subst e;obtain⟨o,e,c,d⟩:=st;exact⟨o,e,λv z=>by rw[d]at z;cases z⟩
 keep:=λi h h' st k=>st.at λo e=>k it (by simp) o e
 item:=by
  intro X hP hw hK hc i pins s σ H E I hf st hg;subst hP hw hK;obtain⟨xs,x,hq,hx⟩:=hg;obtain⟨its,rv,p,hz⟩:=I.tuple hq;obtain⟨u,hu,ru⟩:=rv.get hx;obtain⟨f0,f1,f2,f3,f4,f5⟩:=hf it (by simp);refine wpAny_pyNext_tuple_item st (show s.heap.IsTuple a its.toArray from p) (x:=u) (by simpa using hu) λh' st' sb=>?_;have I1:Inv X pins σ H {s with heap:=h'}:=I.turned (t':=s.toks) (λb o hb e=>(sb.2 b hb).trans e) f0 f1 f3 f4 f5;obtain⟨o,e,c,d⟩:=id st';exact⟨u,rfl,tf (s:={s with heap:=h'}) e c d (by decide) ⟨x,H,I1,ru,⟨rfl,λys hy=>by rw[I.tuple_inj hy hq];exact hx⟩,st',λb hb=>(hf b hb).1⟩⟩
 done:=by
  intro X hP hw hK hc i pins s σ H E I hf st hg;subst hP hw hK;obtain⟨xs,hq,hx⟩:=hg;obtain⟨its,rv,p,hz⟩:=I.tuple hq;obtain⟨f0,f1,f2,f3,f4,f5⟩:=hf it (by simp);have hl:=rv.length;exact wpAny_pyNext_tuple_end (I.ok.hd hc) st (show s.heap.IsTuple a its.toArray from p) (by simp;omega) λh' eb=>⟨rfl,I.turned (t':=s.toks) (λb o hb e=>eb b o hb e) f0 f1 f3 f4 f5⟩
 self:=λ_ _ _ _ _ st h=>wpAny_pyIter_tupleiter st h
theorem qm {P:wE}{w:z8}{K:ac}{tg:Expr}(it:Addr)(lo:Int)(n:Nat):Turn P w K tg (Itr lo n) [it] it (λi h=>Ez h it (lo+(i:Nat)*1) ((n:Int) - (i:Nat)) 1) where
 mem:=by simp
 obj:=λi h st b hb=>by
  have e:b=it:=by simpa using hb
  subst e;exact⟨_,st,λv z=>by
   have z':Data.fields _=Data.cell v:=z;cases z'⟩
 keep:=λi h h' st k=>k it (by simp) _ st
 item:=by
  intro X hP hw hK hc i pins s σ H E I hf st hg;subst hP hw hK;obtain⟨f0,f1,f2,f3,f4,f5⟩:=hf it (by simp);have W:=GF (prog:=X.prog) (w:=X.w) (I.ok.hd hc) it lo 1 n;refine W.item i s _ _ hg st λv h' tk hv st' kk=>?_;obtain⟨t,rfl⟩:=hv;have I1:Inv X pins σ H {s with heap:=h',toks:=tk}:=I.turned (λb o hb e=>kk b o (by simpa using hb) e) f0 f1 f3 f4 f5;refine⟨_,rfl,tf (s:={s with heap:=h',toks:=tk}) (n := "range_iterator") st' rfl rfl (by decide) ⟨.int (lo+i),H,I1,⟨t,?_⟩,⟨rfl,rfl⟩,st',λb hb=>(hf b hb).1⟩⟩;rw[Int.mul_one]
 done:=by
  intro X hP hw hK hc i pins s σ H E I hf st hg;subst hP hw hK;obtain⟨f0,f1,f2,f3,f4,f5⟩:=hf it (by simp);exact FG (I.ok.hd hc) st (by have:n<=i:=hg;omega) λh' eb=>⟨rfl,I.turned (t':=s.toks) (λb o hb e=>eb b o hb e) f0 f1 f3 f4 f5⟩
 self:=λ_ _ _ _ _ st h=>Di st h
section
variable {X:Cx}{tg:Expr}
theorem uB {pins:List (Addr×Obj)}{σ:St}{H:Hp}{s:db}{R:It->Hp->Prop}{E:bd->db->Prop}{lo hi:Int}{t u v:Tok}{tk:Nat}(I:Inv X pins σ H s)(h1:-(2^62)<=lo)(h2:lo<2^62)(h3:-(2^62)<=hi)(h4:hi<2^62)
  (q:R (Itr lo (hi - lo).toNat) H):o0 (wn X.prog X.w) X.A (pyIter (.ref s.heap.objs.size)) (PIE X pins σ tg R) E {s with heap:=s.heap.push {cls:=.type "range",data:=.fields #[.int lo t,.int hi u,.int 1 v]},toks:=tk}:=by
 refine wpAny_pyIter_range (Gh ..) (small_one h1 h2 h3 h4) ?_;have I1:Inv X pins σ H {s with heap:=s.heap.push {cls:=.type "range",data:=.fields #[.int lo t,.int hi u,.int 1 v]},toks:=tk}:=I.kept λb o e=>dL _ e;refine⟨(s.heap.push {cls:=.type "range",data:=.fields #[.int lo t,.int hi u,.int 1 v]}).objs.size,[(s.heap.push {cls:=.type "range",data:=.fields #[.int lo t,.int hi u,.int 1 v]}).objs.size],_,_,H,rfl,
  I1.kept (t':=tk) λb o e=>dL _ e,qm _ lo (hi - lo).toNat,?_,λb hb=>?_,q⟩
 ·have e1:lo+((0:Nat):Int)*1=lo:=by simp
  have e2:(((hi - lo).toNat:Nat):Int) - ((0:Nat):Int)=BO lo hi 1:=by rw[rangeSize_one];split <;> omega
  show Ez _ _ (lo+((0:Nat):Int)*1) ((((hi - lo).toNat:Nat):Int) - ((0:Nat):Int)) 1;rw[e1,e2];exact wP _ rfl
 ·have e:b=(s.heap.push {cls:=.type "range",data:=.fields #[.int lo t,.int hi u,.int 1 v]}).objs.size:=by simpa using hb
  subst e;exact I1.fpOk (lm _) (I1.hok.fresh (lm _))
def yH (ta:TA):TI:=λσ H R=>ta σ H λvs H1=>∃j:Int,vs=[.int j]/\-(2^62)<=j/\j<2^62/\R (Itr 0 j.toNat) H1
theorem cz {a:Expr}{ta:TA}{p pos:Pos}(hg:Gl X "range")(hm:X.mg "range" = none)(ha:PA X [a] ta)(hs:zT [a] X.env=[(false,eval a X.env)]:=by rfl):PI X tg (.Call (.Name "range" p) [a] [] pos) (yH ta):=by
 intro pins s σ H R I h;refine Gc (gn I hg hm boot_range (An (thn (ha pos pins s σ H _ I h) λus s1 ⟨vs,H1,I1,r1,q1⟩=>?_) hs rfl));obtain⟨j,e,q1,q2,q⟩:=q1;subst e;cases r1 with
 | cons r rr =>
  cases rr
  obtain⟨t,rfl⟩:=r;exact call_range_1 (uB I1 (by omega) (by omega) q1 q2 (by simpa using q))
def tFor (wi:TI)(g:TG)(tb:TS):TS:=λD σ H=>wi σ H λJ H1=>∃W:Nat->Nat->St->Hp->Prop,(∃m,W 0 m σ H1)/\∀i m σ H,W i m σ H ->
 (J.stop i H/\D.nx σ H)∨(J.go i H/\∃N:St->Hp->Prop,(∀ σ' H',N σ' H'->∃m',m'<m/\W (i+1) m' σ' H')/\∀x H',J.yld i H x H'->g x σ H' λσ2 H2=>tb {D with nx:=N,ct:=N,bk:=D.nx} σ2 H2)
def jk (fp:List Addr)(h:Heap):List (Addr×Obj):=fp.filterMap λb=>(h.get? b).map λo=>(b,o)
theorem cE {fp:List Addr}{h:Heap}{b:Addr}{o:Obj}(hb:b∈fp)(e:h.get? b=some o):(b,o)∈jk fp h:=FA.mpr ⟨b,hb,by rw[e];rfl⟩
theorem sJ {fp:List Addr}{h:Heap}{p:Addr×Obj}(hp:p∈jk fp h):p.1∈fp/\h.get? p.1=some p.2:=by
 obtain⟨b,hb,e⟩:=FA.mp hp;cases q:h.get? b with
 | none=>rw[q]at e;cases e
 | some o =>
  rw[q]at e;have e':(b,o)=p:=AY e;subst e';exact⟨hb,q⟩
theorem Inv.pinned {pins:List (Addr×Obj)}{σ:St}{H:Hp}{s:db}{fp:List Addr}(I:Inv X pins σ H s)(hf:∀b∈fp,FpOk X pins H b)(ho:∀b∈fp,∃o,s.heap.get? b=some o/\∀v,o.data ≠ .cell v):Inv X (pins++jk fp s.heap) σ H s :=
 I.pins_of λp hp=>(Bc.mp hp).elim (λz=>I.pin p (wv _ z)) λz=>by
  obtain⟨hb,e⟩:=sJ z;obtain⟨f0,f1,f2,_⟩:=hf p.1 hb;obtain⟨o,e',d⟩:=ho p.1 hb;rw[e]at e';cases e';exact⟨e,f0,f1,f2,d⟩
theorem Inv.unpinned {pins pl:List (Addr×Obj)}{σ:St}{H:Hp}{s:db}(I:Inv X (pins++pl) σ H s):Inv X pins σ H s:=I.pins_of λp hp=>I.pin p (wv _ (Bq _ hp))
theorem gV {iter:Expr}{body:List Stmt}{wi:TI}{g:TG}{tb:TS}{pos:Pos}(hp:PassesOwn (wn X.prog X.w) X.A X.env X.xe)(hc:X.calm=true)(hi:PI X tg iter wi)(hg:PG X tg g)(hb:PSs X body tb)
  (hs:∀x,Bx iter X.env x=pure x:=by intro _;rfl):PS X (.For tg iter body [] pos) (tFor wi g tb):=by
 intro pins s σ H D I h;refine wpAny_For (thn (hi pins s σ H _ I h) λv s1 h1=>thn h1 λitv s2 h2=>?_) hs;obtain⟨it,fp,tn,J,H2,e,I2,T,st2,f2,W,⟨m0,w0⟩,turn⟩:=h2;subst e;have stat:∀ {H':Hp},(∀b∈fp,H' b=none)->∀b∈fp,FpOk X pins H' b:=λhn b hb=>⟨hn b hb,(f2 b hb).2⟩
 refine Ge (λn s'=>∃i σ' H',Inv X pins σ' H' s'/\tn i s'.heap/\(∀b∈fp,H' b=none)/\W i n σ' H') ?_ m0 ⟨0,σ,H2,I2,st2,λb hb=>(f2 b hb).1,w0⟩;rintro n s3 ⟨i,σ3,H3,I3,st3,fr3,w3⟩;rcases turn i n σ3 H3 w3 with⟨stop,qn⟩ | ⟨go,N,hN,step⟩
 ·refine CM hp (thn (T.done X rfl rfl rfl hc i pins s3 σ3 H3 X.xe I3 (stat fr3) st3 stop) λr s4 ⟨hr,I4⟩=>?_);subst hr;exact B7 ⟨σ3,H3,I4,qn⟩
 ·refine CM hp (thn (T.item X rfl rfl rfl hc i pins s3 σ3 H3 X.xe I3 (stat fr3) st3 go) λr s4 ⟨u,hr,h4⟩=>?_);subst hr;refine CM hp (thn h4 λ_ s5 ⟨x,H5,I5,r5,y5,st5,fr5⟩=>?_);have I5':=I5.pinned (stat fr5) (T.obj _ _ st5);refine CM hp (thn (hg _ s5 σ3 H5 x u _ I5' r5 (step x H5 y5)) λ_ s6 ⟨σ6,H6,I6,q6⟩=>?_);refine CM hp (thn (hb _ s6 σ6 H6 _ I6 q6) λf s7 q7=>?_);have F9:∀ {σ7:St} {H7:Hp},Inv X (pins++jk fp s5.heap) σ7 H7 s7->N σ7 H7->∃m,m<n/\∃i σ' H',Inv X pins σ' H' s7/\tn i s7.heap/\(∀b∈fp,H' b=none)/\W i m σ' H':=λ{σ7 H7} I7 n7=>by
   obtain⟨m',hm,w7⟩:=hN σ7 H7 n7;refine⟨m',hm,i+1,σ7,H7,I7.unpinned,T.keep _ _ _ st5 λb hb o e=>(I7.pin (b,o) (wv _ (wv _ (cE hb e)))).1,λb hb=>?_,w7⟩;obtain⟨o,e,d⟩:=T.obj _ _ st5 b hb;exact(I7.pin (b,o) (wv _ (wv _ (cE hb e)))).2.1
  cases f with
  | next=>obtain⟨σ7,H7,I7,n7⟩:=q7;exact F9 I7 n7
  | cont=>obtain⟨σ7,H7,I7,n7⟩:=q7;exact F9 I7 n7
  | brk=>obtain⟨σ7,H7,I7,q7⟩:=q7;exact⟨σ7,H7,I7.unpinned,q7⟩
  | ret v=>obtain⟨x7,σ7,H7,I7,r7,q7⟩:=q7;exact⟨x7,σ7,H7,I7.unpinned,r7,q7⟩
end
abbrev R2:=V->V->Hp->VK->Prop
def OpR (X:Cx)(f:bd->bd->Sem bd)(r:R2):Prop :=
 ∀(pins:List (Addr×Obj)) (s:db) (σ:St) (H:Hp) (x y:V) (v u:bd) (Q:VK),Inv X pins σ H s->RelV x v->RelV y u->r x y H Q ->
  o0 (wn X.prog X.w) X.A (f v u) (EP X pins σ Q) X.xe s
def UnR (X:Cx)(f:bd->Sem bd)(r:V->Hp->VK->Prop):Prop :=
 ∀(pins:List (Addr×Obj)) (s:db) (σ:St) (H:Hp) (x:V) (v:bd) (Q:VK),Inv X pins σ H s->RelV x v->r x H Q ->
  o0 (wn X.prog X.w) X.A (f v) (EP X pins σ Q) X.xe s
def iw (X:Cx)(f:bd)(r:List V->Hp->VK->Prop):Prop :=
 ∀(pins:List (Addr×Obj)) (s:db) (σ:St) (H:Hp) (xs:List V) (us:List bd) (Q:VK),Inv X pins σ H s->Vals xs us->r xs H Q ->
  o0 (wn X.prog X.w) X.A (call f us) (EP X pins σ Q) X.xe s
def TruR (X:Cx)(r:V->Hp->(Bool->Hp->Prop)->Prop):Prop :=
 ∀(pins:List (Addr×Obj)) (s:db) (σ:St) (H:Hp) (x:V) (v:bd) (Q:Bool->Hp->Prop),Inv X pins σ H s->RelV x v->r x H Q ->
  o0 (wn X.prog X.w) X.A (truthy v) (TP X pins σ Q) X.xe s
def tOp (r:R2)(ta tb:TE):TE:=λσ H Q=>ta σ H λx H1=>tb σ H1 λy H2=>r x y H2 Q
def tUn (r:V->Hp->VK->Prop)(ta:TE):TE:=λσ H Q=>ta σ H λx H1=>r x H1 Q
def rI (C:Int->Int->Prop)(g:Int->Int->V):R2:=λx y H Q=>∃i j,x = .int i/\y = .int j/\C i j/\Q (g i j) H
def rI0 (g:Int->Int->V):R2:=λx y H Q=>∃i j,x = .int i/\y = .int j/\Q (g i j) H
def rU (g:Int->V):V->Hp->VK->Prop:=λx H Q=>∃i,x = .int i/\Q (g i) H
section
variable {X:Cx}{a b c:Expr}{ta tb tc:TE}{pos:Pos}
theorem binT (ha:PE X a ta)(hb:PE X b tb){pins:List (Addr×Obj)}{s:db}{σ:St}{H:Hp}{R:V->V->Hp->Prop}(I:Inv X pins σ H s)
  (h:ta σ H λx H1=>tb σ H1 λy H2=>R x y H2) {Q:bd->db->Prop} {f:bd->bd->Sem bd}
  (hf:∀v u s2 x y H2,Inv X pins σ H2 s2->RelV x v->RelV y u->R x y H2->o0 (wn X.prog X.w) X.A (f v u) Q X.xe s2) :
  o0 (wn X.prog X.w) X.A (eval a X.env) (λv s₁=>o0 (wn X.prog X.w) X.A (eval b X.env) (λu s₂=>o0 (wn X.prog X.w) X.A (f v u) Q X.xe s₂) X.xe s₁) X.xe s:=by
 refine thn (ha pins s σ H _ I h) λv s1 ⟨x,H1,I1,r1,q1⟩=>?_;refine thn (hb pins s1 σ H1 _ I1 q1) λu s2 ⟨y,H2,I2,r2,q2⟩=>?_;exact hf v u s2 x y H2 I2 r1 r2 q2
theorem bA {op:Operator}{r:R2}(ho:OpR X (B3 op) r)(ha:PE X a ta)(hb:PE X b tb):PE X (.BinOp a op b pos) (tOp r ta tb):=by
 intro pins s σ H Q I h;exact wpAny_BinOp (binT ha hb I h λv u s2 x y H2 I2 rx ry q=>ho pins s2 σ H2 x y v u Q I2 rx ry q)
theorem zi {op:UnaryOp}{r:V->Hp->VK->Prop}(ho:UnR X (unaryOp op) r)(ha:PE X a ta):PE X (.UnaryOp op a pos) (tUn r ta):=by
 intro pins s σ H Q I h;exact UnaryOp_ (thn (ha pins s σ H _ I h) λv s1 ⟨x,H1,I1,r1,q1⟩=>ho pins s1 σ H1 x v Q I1 r1 q1)
theorem opI {f:bd->bd->Sem bd}{C:Int->Int->Prop}{g:Int->Int->Int}
  (rule:∀(i j:Int) (t u:Tok) (s:db) (Q:bd->db->Prop) (E:bd->db->Prop),C i j->Q (.int (g i j) s.toks) {s with toks:=s.toks+1}->o0 (wn X.prog X.w) X.A (f (.int i t) (.int j u)) Q E s) :
  OpR X f (rI C λi j=>.int (g i j)):=by
 intro pins s σ H x y v u Q I rx ry h;obtain⟨i,j,rfl,rfl,hc,q⟩:=h;obtain⟨t,rfl⟩:=rx;obtain⟨t',rfl⟩:=ry;exact rule i j t t' s _ _ hc ⟨.int (g i j),H,I.tok _,⟨_,rfl⟩,q⟩
theorem opI0 {f:bd->bd->Sem bd}{g:Int->Int->Int}
  (rule:∀(i j:Int) (t u:Tok) (s:db) (Q:bd->db->Prop) (E:bd->db->Prop),Q (.int (g i j) s.toks) {s with toks:=s.toks+1}->o0 (wn X.prog X.w) X.A (f (.int i t) (.int j u)) Q E s) :
  OpR X f (rI0 λi j=>.int (g i j)):=by
 intro pins s σ H x y v u Q I rx ry h;obtain⟨i,j,rfl,rfl,q⟩:=h;obtain⟨t,rfl⟩:=rx;obtain⟨t',rfl⟩:=ry;exact rule i j t t' s _ _ ⟨.int (g i j),H,I.tok _,⟨_,rfl⟩,q⟩
theorem opB0 {f:bd->bd->Sem bd}{g:Int->Int->Bool}
  (rule:∀(i j:Int) (t u:Tok) (s:db) (Q:bd->db->Prop) (E:bd->db->Prop),Q (.bool (g i j)) s->o0 (wn X.prog X.w) X.A (f (.int i t) (.int j u)) Q E s) :
  OpR X f (rI0 λi j=>.bl (g i j)):=by
 intro pins s σ H x y v u Q I rx ry h;obtain⟨i,j,rfl,rfl,q⟩:=h;obtain⟨t,rfl⟩:=rx;obtain⟨t',rfl⟩:=ry;exact rule i j t t' s _ _ ⟨.bl (g i j),H,I,rfl,q⟩
def CPow (i j:Int):Prop:=0<=j/\j<=1000000/\i.natAbs<2^64
def CMul (i j:Int):Prop:=(-(2^64)<i/\i<2^64)∨(-(2^64)<j/\j<2^64)
theorem CMul.ok {i j:Int}(h:CMul i j):IntMulOk i j:=by
 rcases h with⟨h1,h2⟩ | ⟨h1,h2⟩
 ·exact .of_left (intBits_le_64 h1 h2)
 ·exact .of_right (intBits_le_64 h1 h2)
theorem qk (k:Nat):(0:Int)<=2^k:=by
 rw[two_pow_cast];exact BC _
theorem cn:OpR X (B3 .Add) (rI0 λi j=>.int (i+j)):=opI0 λ_ _ _ _ _ _ _ q=>add_int q
theorem e_:OpR X (B3 .Sub) (rI0 λi j=>.int (i - j)):=opI0 λ_ _ _ _ _ _ _ q=>sub_int q
theorem mv:OpR X (B3 .Mult) (rI CMul λi j=>.int (i*j)):=opI λ_ _ _ _ _ _ _ hc q=>mul_int q hc.ok
theorem jo:OpR X (B3 .Mod) (rI (λ_ j=>0<j) λi j=>.int (i % j)):=opI λi j _ _ _ _ _ hc q=>by
 have h1:(0:Int)<j:=hc;exact mod_int' (by omega) (by rw[Int.fmod_eq_emod_of_nonneg i (by omega)];exact q)
theorem sE:OpR X (B3 .Pow) (rI CPow λi j=>.int (i^j.toNat)):=opI λ_ _ _ _ _ _ _ hc q=>pow_int_small hc.1 hc.2.1 hc.2.2 q
theorem pM:OpR X (B3 .LShift) (rI CPow λi j=>.int (i*2^j.toNat)):=opI λ_ _ _ _ _ _ _ hc q=>lshift_int_small hc.1 hc.2.1 hc.2.2 q
theorem vz:OpR X (B3 .RShift) (rI (λ_ j=>0<=j) λi j=>.int (i / 2^j.toNat)):=opI λi j _ _ _ _ _ hc q =>
 rshift_int hc (by rw[Eu i (qk _)];exact q)
theorem pN:OpR X (B3 .BitAnd) (rI0 λi j=>.int (BL i j)):=opI0 λ_ _ _ _ _ _ _ q=>and_int q
theorem vy:OpR X (B3 .BitXor) (rI0 λi j=>.int (CA i j)):=opI0 λ_ _ _ _ _ _ _ q=>xor_int q
theorem unI {f:bd->Sem bd}{g:Int->Int}
  (rule:∀(i:Int) (t:Tok) (s:db) (Q:bd->db->Prop) (E:bd->db->Prop),Q (.int (g i) s.toks) {s with toks:=s.toks+1}->o0 (wn X.prog X.w) X.A (f (.int i t)) Q E s) :
  UnR X f (rU λi=>.int (g i)):=by
 intro pins s σ H x v Q I rx h;obtain⟨i,rfl,q⟩:=h;obtain⟨t,rfl⟩:=rx;exact rule i t s _ _ ⟨.int (g i),H,I.tok _,⟨_,rfl⟩,q⟩
theorem xK:UnR X (unaryOp .USub) (rU λi=>.int (-i)):=unI λ_ _ _ _ _ q=>neg_int q
end
section
variable {X:Cx}{a b c:Expr}{ta tb tc:TE}{pos:Pos}
theorem yk:OpR X (Bv .Lt) (rI0 λi j=>.bl (decide (i<j))):=opB0 λ_ _ _ _ _ _ _ q=>lt_int q
theorem uG:OpR X (Bv .LtE) (rI0 λi j=>.bl (decide (i<=j))):=opB0 λ_ _ _ _ _ _ _ q=>le_int q
theorem jq:OpR X (Bv .Gt) (rI0 λi j=>.bl (decide (j<i))):=opB0 λ_ _ _ _ _ _ _ q=>gt_int q
theorem zm:OpR X (Bv .GtE) (rI0 λi j=>.bl (decide (j<=i))):=opB0 λ_ _ _ _ _ _ _ q=>ge_int q
theorem bJ (b:Expr){op:GO}(h:op ≠ .In:=by decide)(h2:op ≠ .NotIn:=by decide):C5 op b=false:=by
 have e1:(op==CmpOp.In)=false:=by cases op <;> first | rfl | exact absurd rfl h
 have e2:(op==CmpOp.NotIn)=false:=by cases op <;> first | rfl | exact absurd rfl h2
 cases b <;> simp[C5,e1,e2]
theorem nY {op:GO}{r:R2}(ho:OpR X (Bv op) r)(ha:PE X a ta)(hb:PE X b tb)(hm:C5 op b=false):PE X (.Compare a [op] [b] pos) (tOp r ta tb):=by
 intro pins s σ H Q I h;exact wpAny_Compare1 (binT ha hb I h λv u s2 x y H2 I2 rx ry q=>ho pins s2 σ H2 x y v u Q I2 rx ry q) hm
def xP (t:TE):TT:=λσ H Q=>t σ H λx H'=>∃k,x = .bl k/\Q k H'
theorem bz {op:GO}{r:R2}(ho:OpR X (Bv op) r)(ha:PE X a ta)(hb:PE X b tb)(hm:C5 op b=false):PT X (.Compare a [op] [b] pos) (xP (tOp r ta tb)):=by
 intro pins s σ H Q I h;refine FW (thn (ha pins s σ H _ I h) λv s1 ⟨x,H1,I1,r1,q1⟩=>thn (hb pins s1 σ H1 _ I1 q1) λu s2 ⟨y,H2,I2,r2,q2⟩ =>
  thn (ho pins s2 σ H2 x y v u _ I2 r1 r2 q2) λc s3 ⟨z,H3,I3,r3,k,e,q3⟩=>?_) hm
 subst e;cases r3
 exact Bf ⟨H3,I3,q3⟩
def vf (r r':R2)(ta tb tc:TE):TE:=λσ H Q=>ta σ H λx H1=>tb σ H1 λy H2=>r x y H2 λz H3=>∃k,z = .bl k /\
 (if k=true then tc σ H3 λw' H4=>r' y w' H4 Q else Q (.bl false) H3)
theorem pI {op op':GO}{r r':R2}(ho:OpR X (Bv op) r)(ho':OpR X (Bv op') r')(ha:PE X a ta)(hb:PE X b tb)(hc:PE X c tc)
  (hm:lastMarks [op,op'] [b,c]=false:=by with_unfolding_all rfl):PE X (.Compare a [op,op'] [b,c] pos) (vf r r' ta tb tc):=by
 intro pins s σ H Q I h;refine Compare_chain (thn (ha pins s σ H _ I h) λv s1 ⟨x,H1,I1,r1,q1⟩=>chain_link (thn (hb pins s1 σ H1 _ I1 q1) λu s2 ⟨y,H2,I2,r2,q2⟩ =>
  thn (ho pins s2 σ H2 x y v u _ I2 r1 r2 q2) λd s3 ⟨z,H3,I3,r3,k,e,q3⟩=>?_)) hm
 subst e;cases r3
 refine Bf ?_;cases k with
 | false=>exact ite_ff ⟨.bl false,H3,I3,rfl,q3⟩
 | true=>exact ite_tt (chain_last (thn (hc pins s3 σ H3 _ I3 q3) λw' s4 ⟨z',H4,I4,r4,q4⟩=>ho' pins s4 σ H4 y z' u w' Q I4 r2 r4 q4))
def TruV (K:ac)(x:V)(H:Hp)(k:Bool):Prop :=
 match x with
 | .non=>k=false
 | .bl b=>k=b
 | .int i=>k=(i != 0)
 | .str y=>y.length<=xz/\k=((y.length:Int) != 0)
 | .byt y=>y.size<=xz/\k=((y.size:Int) != 0)
 | .ref p=>(∃xs,SqL K H p xs/\k = !xs.isEmpty)∨(∃xs,SqT K H p xs/\k = !xs.isEmpty) ∨ ∃kvs,H p=some (.dK kvs)/\k = !kvs.isEmpty
 | _=>False
theorem qR {κ:Type}{kvs:List (κ×V)}{vs:List (κ×bd)}(r:KV kvs vs):(!vs.isEmpty) = !kvs.isEmpty:=by
 cases r <;> rfl
theorem kz {xs:List V}{its:List bd}(r:Vals xs its):(!its.toArray.isEmpty) = !xs.isEmpty:=by
 cases r <;> simp
theorem mE:(xz:Nat)<2^63:=by rw[Bw];decide
theorem xN:TruR X (λx H Q=>∃k,TruV X.K x H k/\Q k H):=by
 intro pins s σ H x v Q I rx h;obtain⟨k,e,q⟩:=h;have hl:=mE;have hs:xz=16777216:=Bw;cases x with
 | non =>
  cases rx
  have e':k=false:=e;subst e';exact truthy_none ⟨H,I,q⟩
 | bl b =>
  cases rx
  have e':k=b:=e;subst e';exact Bf ⟨H,I,q⟩
 | int i =>
  obtain⟨t,rfl⟩:=rx;have e':k=(i != 0):=e;subst e';exact PySem.P.truthy_int ⟨H,I,q⟩
 | str y =>
  obtain⟨t,rfl⟩:=rx;obtain⟨hy,e'⟩:y.length<=xz/\k=((y.length:Int) != 0):=e;subst e';exact PySem.P.truthy_str (by omega) ⟨H,I.tok _,q⟩
 | byt y =>
  obtain⟨t,rfl⟩:=rx;obtain⟨hy,e'⟩:y.size<=xz/\k=((y.size:Int) != 0):=e;subst e';exact PySem.W.truthy_bytes (by omega) ⟨H,I.tok _,q⟩
 | ref p =>
  cases rx
  have e':(∃xs,SqL X.K H p xs/\k = !xs.isEmpty)∨(∃xs,SqT X.K H p xs/\k = !xs.isEmpty) ∨ ∃kvs,H p=some (.dK kvs)/\k = !kvs.isEmpty:=e;rcases e' with⟨xs,hx,e'⟩ | ⟨xs,hx,e'⟩ | ⟨kvs,hx,e'⟩
  ·subst e';obtain⟨its,r,pl,hz⟩:=I.list hx;have hlen:=r.length;exact wpAny_truthy_list pl.isList (by simp only[li];omega) ⟨H,I.tok _,by rw[kz r];exact q⟩
  ·subst e';obtain⟨its,r,pl,hz⟩:=I.tuple hx;have hlen:=r.length;exact truthy_tuple pl (by simp only[li];omega) ⟨H,I.tok _,by rw[kz r];exact q⟩
  ·subst e';obtain⟨hz,hS,vs,r,m⟩:kvs.length<=xz/\(p==BV)=false/\∃vs,KV kvs vs/\s.heap.DictOf (cu X.prog X.w) p vs:=I.hok p _ hx;have hlen:kvs.length=vs.length:=Dm r;exact wpAny_truthy_dict hS m (by omega) ⟨H,I.tok _,by rw[qR r];exact q⟩
 | _=>exact(show False from e).elim
theorem uE (ha:PE X a ta)(he:∀whole,ER a X.env whole=(do let v <- whole;Gy a.pos;GD [v] (truthy v))) :
  PT X a (λσ H Q=>ta σ H λx H'=>∃k,TruV X.K x H' k/\Q k H'):=by
 intro pins s σ H Q I h;exact isTrue_plain (thn (ha pins s σ H _ I h) λv s1 ⟨x,H1,I1,r1,q1⟩=>xN pins s1 σ H1 x v Q I1 r1 q1) (he _)
theorem kN {x:V}{us:List bd}(r:Vals [x] us):∃u,us=[u]/\RelV x u:=by
 cases r with
 | cons r1 r2=>cases r2;exact⟨_,rfl,r1⟩
theorem xI {x y:V}{us:List bd}(r:Vals [x,y] us):∃u w',us=[u,w']/\RelV x u/\RelV y w':=by
 cases r with
 | cons r1 r2 =>
  cases r2 with
  | cons r3 r4=>cases r4;exact⟨_,_,rfl,r1,r3⟩
theorem m4 (hc:X.calm=true):iw X (.builtin "max") (λxs H Q=>∃i j,xs=[.int i,.int j]/\Q (.int (if j > i then j else i)) H):=by
 intro pins s σ H xs us Q I r h;obtain⟨i,j,rfl,q⟩:=h;obtain⟨u,w',rfl,⟨t,rfl⟩,⟨t',rfl⟩⟩:=xI r;refine max_two_ints (I.ok.hd hc) λh' tk k=>⟨_,H,I.kept k,?_,q⟩
 by_cases hj:j > i
 ·rw[if_pos hj,if_pos hj];exact⟨_,rfl⟩
 ·rw[if_neg hj,if_neg hj];exact⟨_,rfl⟩
theorem m3 (hc:X.calm=true):iw X (.builtin "min") (λxs H Q=>∃i j,xs=[.int i,.int j]/\Q (.int (if j<i then j else i)) H):=by
 intro pins s σ H xs us Q I r h;obtain⟨i,j,rfl,q⟩:=h;obtain⟨u,w',rfl,⟨t,rfl⟩,⟨t',rfl⟩⟩:=xI r;refine min_two_ints (I.ok.hd hc) λh' tk k=>⟨_,H,I.kept k,?_,q⟩
 by_cases hj:j<i
 ·rw[if_pos hj,if_pos hj];exact⟨_,rfl⟩
 ·rw[if_neg hj,if_neg hj];exact⟨_,rfl⟩
end
structure ObjM (h:Heap)(x dx C:Addr)(mA:Str->Option bd):Prop where
 obj:h.get? x=some (DM C dx)
 ns:h.Ns1 dx mA
 ne:dx≠x
theorem sP {h:Heap}{dx:Addr}{mA:Str->Option bd}(n:h.Ns1 dx mA):∃od,h.get? dx=some od/\∀name,D5 name od=some (mA name):=by
 obtain⟨o,es,ep,ho,hd,hk,_,hm⟩:=n;refine⟨o,ho,λname=>?_⟩;have e:=hm name;unfold nsFind findBy at e;rw[<- Fp]at e;unfold D5;rw[hd];dsimp only;split
 ·rename_i y q;rw[q]at e;exact congrArg some e
 ·rename_i q;rw[q]at e;have a:es.toList.any (·.refKey)=false:=by
   rw[List.any_eq_false];intro y hy;obtain⟨z,t,hkey⟩:=hk y (Array.mem_toList_iff.mp hy);simp[DictEntry.refKey,hkey]
  have a':¬es.toList.any (·.refKey)=true:=by rw[a];exact Ad
  rw[if_neg a'];exact congrArg some e
theorem ObjM.look {h:Heap}{x dx C:Addr}{mA:Str->Option bd}(I:ObjM h x dx C mA):∃od,PySem.W.InstAt h x (DM C dx) C (some od)/\∀name,D5 name od=some (mA name) :=
 let ⟨od,ho,hl⟩:=sP I.ns
 ⟨od,⟨I.obj,rfl,rfl,ho⟩,hl⟩
theorem RelO.some_of {v:V}{o:Option bd}(r:RelO (some v) o):∃u,o=some u/\RelV v u:=by
 cases o with
 | none=>exact(show False from r).elim
 | some u=>exact⟨u,rfl,r⟩
section
variable {P:wE}{w:z8}{H H':Hp}{h h':Heap}{a C dx:Addr}{fs fs':List (Str×V)}
theorem xa (hok:HOk P w H h)(e:H a=some (.ins C dx fs)):∃mA,ObjM h a dx C mA/\(∀f,RelO (fs.lookup f) (mA f))/\Gq mA (fs.map (·.1))/\fs.length<=1000/\H dx=some (.own a):=by
 obtain⟨d,z,ne,ob,mA,n,r,q⟩:=(show cw P w H h a (.ins C dx fs)from hok a _ e)
 exact⟨mA,⟨ob,n,ne⟩,r,q,z,d⟩
end
structure Cls (K:ac)(C:Addr):Prop where
 pg:Fj K C BF=true
 hd:PySem.W.hasDictIn K C=true
 po:PySem.W.plainOver K C=true
 sa:Bt K (.ref C) "__setattr__" = some (some (.builtin "object.__setattr__"))
theorem Cls.get {K:ac}{C:Addr}(c:Cls K C)(f:Str):Fj K C f=true:=c.pg
section
variable {X:Cx}{pins:List (Addr×Obj)}{σ:St}{H:Hp}{s:db}{A:zX}{E:bd->db->Prop}{Q:bd->db->Prop}{c:bd}{b:Bool}
inductive TyOf (K:ac) (H:Hp):V->bd->Prop where
 | non:TyOf K H .non (.type "NoneType")
 | bl (x:Bool):TyOf K H (.bl x) (.type "bool")
 | int (i:Int):TyOf K H (.int i) (.type "int")
 | str (x:Str):TyOf K H (.str x) (.type "str")
 | flt (x:UInt64):TyOf K H (.flt x) (.type "float")
 | lst {a:Addr} {xs:List V} (e:H a=some (.lst xs)):TyOf K H (.ref a) (.type "list")
 | frz {a:Addr} {o:Obj} {xs:List V} (e:H a=some (.frz o (.lst xs))):TyOf K H (.ref a) (.type "list")
 | tup {a:Addr} {xs:List V} (e:H a=some (.tup xs)):TyOf K H (.ref a) (.type "tuple")
 | dK {a:Addr} {kvs:List (Key×V)} (e:H a=some (.dK kvs)):TyOf K H (.ref a) (.type "dict")
 | dT {a:Addr} {kvs:List (List Key×V)} (e:H a=some (.dT kvs)):TyOf K H (.ref a) (.type "dict")
 | ins {a C dx:Addr} {fs:List (Str×V)} (e:H a=some (.ins C dx fs)) (cl:Cls K C) (ha:Bt K (.ref C) "__class__" = some (some (.builtin "object.__class__")))
   (hn:E7 K (.builtin "object.__class__") "__get__" = some (some (.builtin "getset_descriptor.__get__"))) (htk:PySem.W.takesIn K (.builtin "object.__class__")=some true)
   (hm:PySem.W.mroIn K C (.type "object")=some true):TyOf K H (.ref a) (.ref C)
theorem g6 {x:V}{u t:bd}(I:Inv X pins σ H s)(rx:RelV x u)(ty:TyOf X.K H x t)(e:D6 X.K t c=some b)(h:∀tk,Q (.bool b) {s with toks:=tk}) :
  o0 (wn X.prog X.w) A (call (.builtin "isinstance") [u,c]) Q E s:=by
 cases ty with
 | non=>cases (show u=Value.none from rx);exact Ax PySem.W.kitx_none I.kIn True.intro e (λz=>nomatch z) h
 | bl y=>cases (show u=Value.bool y from rx);exact Ax PySem.W.kitx_bool I.kIn True.intro e (λz=>nomatch z) h
 | int i=>obtain⟨t,q⟩:=(show ∃t,u=Value.int i t from rx);cases q;exact Ax PySem.W.kitx_int I.kIn True.intro e (λz=>nomatch z) h
 | str y=>obtain⟨t,q⟩:=(show ∃t,u=Value.str y t from rx);cases q;exact Ax PySem.W.kitx_str I.kIn True.intro e (λz=>nomatch z) h
 | flt y=>obtain⟨t,q⟩:=(show ∃t,u=Value.float y t from rx);cases q;exact Ax PySem.W.kitx_float I.kIn True.intro e (λz=>nomatch z) h
 | @lst a xs ea =>
  cases (show u=Value.ref a from rx)
  obtain⟨_,_,n,_,h1⟩:=(show cw X.prog X.w H s.heap a (.lst xs)from I.hok a _ ea)
  exact Ax Du I.kIn ⟨_,h1,rfl⟩ e (λz=>nomatch z) h
 | @frz a ob xs ea =>
  cases (show u=Value.ref a from rx)
  obtain⟨_,_,_,n,_,h1⟩:=(show cw X.prog X.w H s.heap a (.frz ob (.lst xs))from I.hok a _ ea)
  exact Ax Du I.kIn ⟨_,h1,rfl⟩ e (λz=>nomatch z) h
 | @tup a xs ea =>
  cases (show u=Value.ref a from rx)
  obtain⟨_,_,_,p⟩:=(show cw X.prog X.w H s.heap a (.tup xs)from I.hok a _ ea)
  obtain⟨o,h1,h2,_⟩:=p;exact Ax EW I.kIn ⟨o,h1,h2⟩ e (λz=>nomatch z) h
 | @dK a kvs ea =>
  cases (show u=Value.ref a from rx)
  obtain⟨_,_,vs,_,p⟩:=(show cw X.prog X.w H s.heap a (.dK kvs)from I.hok a _ ea)
  obtain⟨o,es,ep,h1,h2,_⟩:=p;exact Ax E8 I.kIn ⟨o,h1,h2.1⟩ e (λz=>nomatch z) h
 | @dT a kvs ea =>
  cases (show u=Value.ref a from rx)
  obtain⟨_,_,xs,_,o,es,ep,h1,h2,_⟩:=(show cw X.prog X.w H s.heap a (.dT kvs)from I.hok a _ ea)
  exact Ax E8 I.kIn ⟨o,h1,h2.1⟩ e (λz=>nomatch z) h
 | @ins a C dx fs ea cl ha hn htk hm =>
  cases (show u=Value.ref a from rx)
  obtain⟨mA,O,_⟩:=xa I.hok ea;obtain⟨od,J,_⟩:=O.look;exact Ax (PySem.W.kitx_own (cl.get _) cl.hd ha hn htk hm) I.kIn J e (λz=>nomatch z) h
end
structure Room (k:Nat)(A:zX):Prop where
 hd:A.handled=none
 dp:A.depth+3*k+5<recursionLimit
 un:A.units+16*k+200<CH
 gd:A.guards=some []
theorem Room.mono {j k:Nat}{A:zX}(r:Room k A)(h:j<=k):Room j A:=⟨r.hd,by have:=r.dp;omega,by have:=r.un;omega,r.gd⟩
theorem Room.deeper {k:Nat}{A:zX}(r:Room (k+1) A)(env:Env):Room k (A.deeper env) :=
 ⟨r.hd,by have:=r.dp;show A.depth+1+3*k+5<_;omega,by have:=r.un;show A.units+3+16*k+200<_;omega,r.gd⟩
theorem qM {A:zX}{C:Addr}{us:List bd}{kw:List (Str×bd)}:(A.under (.builtin "type.__call__" ⟨.ref C::us,kw⟩)).depth=A.depth+1:=by
 first | rfl | simp[DC,Code.weight,Code.isCreation,Code.isGuard,Code.isCaller,GV,EM,guardIds]
theorem qL {A:zX}{C:Addr}{us:List bd}{kw:List (Str×bd)}:(A.under (.builtin "type.__call__" ⟨.ref C::us,kw⟩)).units=A.units+1:=by
 first | rfl | simp[DC,Code.cUnits,GV,EM]
theorem oE {A:zX}{C:Addr}{us:List bd}{kw:List (Str×bd)}:(A.under (.builtin "type.__call__" ⟨.ref C::us,kw⟩)).guards=A.guards:=by
 have:(Code.builtin "type.__call__" ⟨.ref C::us,kw⟩).guards=[]:=by
  unfold Code.guards;rw[if_neg];show ¬guardIds.contains "type.__call__" = true;decide +kernel
 unfold DC;rw[this];cases A with
 | mk a b c d e=>cases d <;> rfl
theorem Room.make {k:Nat}{A:zX}(r:Room (k+1) A)(C:Addr)(us:List bd)(kw:List (Str×bd)):Room k (A.under (.builtin "type.__call__" ⟨.ref C::us,kw⟩)) :=
 ⟨r.hd,by have:=r.dp;rw[qM];omega,by have:=r.un;rw[qL];omega,by rw[oE];exact r.gd⟩
theorem Room.depth {k:Nat}{A:zX}(r:Room k A):A.depth<recursionLimit:=by have:=r.dp;omega
theorem Room.units {k:Nat}{A:zX}(r:Room k A):A.units+64<CH:=by have:=r.un;omega
def tNil:TA:=λ_ H Q=>Q [] H
def wa (ta:TE)(tr:TA):TA:=λσ H Q=>ta σ H λx H1=>tr σ H1 λxs H2=>Q (x::xs) H2
section
variable {X:Cx}{e:Expr}{es:List Expr}{te:TE}{t:TA}{pos:Pos}
theorem ar:PA X [] tNil:=λ_ _ _ _ H Q I h=>B6 ⟨[],H,I,.nil,h⟩
theorem aj (ha:PE X e te)(hr:PA X es t)(hs:zT (e::es) X.env=(false,eval e X.env)::zT es X.env:=by rfl):PA X (e::es) (wa te t):=by
 intro pos pins s σ H Q I h;rw[hs];show o0 _ _ (Gz ((false,eval e X.env)::BW pos (zT es X.env))) _ _ s;refine BY (thn (ha pins s σ H _ I h) λu s1 ⟨x,H1,I1,r1,q1⟩=>?_);exact thn (hr pos pins s1 σ H1 _ I1 q1) λus s2 ⟨xs,H2,I2,r2,q2⟩=>⟨x::xs,H2,I2,.cons r1 r2,q2⟩
def tTup (t:TA):TE:=λσ H Q=>t σ H λxs H1=>xs.length<=xz/\∀p,H1 p=none->Q (.ref p) (upd H1 p (.tup xs))
def tLst (t:TA):TE:=λσ H Q=>t σ H λxs H1=>xs.length<=xz/\∀p,H1 p=none->Q (.ref p) (upd H1 p (.lst xs))
theorem iD {x1}(h:PA X es t):PE X (.Tuple es x1 pos) (tTup t):=by
 intro pins s σ H Q I hq;refine wpAny_Tuple_spliced (thn (h pos pins s σ H _ I hq) λus s1 ⟨xs,H1,I1,r,z,q⟩=>⟨by rw[<- r.length];exact z,?_⟩);have hf:H1 s1.heap.objs.size=none:=I1.hok.fresh (lm _);refine⟨.ref s1.heap.objs.size,upd H1 s1.heap.objs.size (.tup xs),I1.laid (t':=s1.toks) (λb u e=>dL _ e) (lm _) ?_,rfl,q _ hf⟩;exact⟨z,us,r,⟨_,wP _ rfl,rfl,_,rfl⟩⟩
theorem mq (h:PA X es t):PE X (.List es pos) (tLst t):=by
 intro pins s σ H Q I hq;refine wpAny_List_spliced (thn (h pos pins s σ H _ I hq) λus s1 ⟨xs,H1,I1,r,z,q⟩=>⟨by rw[<- r.length];exact z,?_⟩);have hf:H1 s1.heap.objs.size=none:=I1.hok.fresh (lm _);refine⟨.ref s1.heap.objs.size,upd H1 s1.heap.objs.size (.lst xs),I1.laid (t':=s1.toks) (λb u e=>dL _ e) (lm _) ?_,rfl,q _ hf⟩;exact⟨z,us,0,r,wP _ rfl⟩
end
abbrev Sp:=List V->Hp->VK->XK->Prop
abbrev CXT:=List Env->Hp->db->XK->bd->db->Prop
structure Env0 (P:wE)(w:z8)(K:ac)(mg:Str->Option bd)(base:Heap)(A:zX)(outer:List Env)(s:db)(H:Hp):Prop where
 frames:A.frames=some outer
 mod:Mod K mg base
 bs:∀b o,base.get? b=some o->s.heap.get? b=some o/\H b=none
 bsz:base.objs.size<=s.heap.objs.size
 funs:s.heap.FunFrames base outer
 frf:∀b∈frs outer,H b=none
 hok:HOk P w H s.heap
 bare:C3 s.gens
def CE (outer:List Env)(P:wE)(w:z8)(H:Hp)(s:db)(Q:VK)(u:bd)(s':db):Prop :=
 ∃v H',s'.os=s.os/\C3 s'.gens/\Un (frs outer) [] H H' s.heap s'.heap/\HOk P w H' s'.heap/\RelV v u/\Q v H'
def CR (CX:CXT)(outer:List Env)(P:wE)(w:z8)(H:Hp)(s:db)(Q:VK)(E:XK)(r:FL)(s':db):Prop :=
 match r with
 | .ok (.ret u)=>CE outer P w H s Q u s'
 | .ok _=>False
 | .error e=>CX outer H s E e s'
structure FnOk (P:wE)(w:z8)(K:ac)(mg:Str->Option bd)(base:Heap)(CX:CXT)(k:Nat)(f:Addr)(fd:B4)(ps:List Str)(sp:Sp):Prop where
 len:∀vs H Q E,sp vs H Q E->vs.length=ps.length
 run:∀(A:zX) (outer:List Env) (s:db) (H:Hp) (args:Args) (us:List bd) (vs:List V) (Q:VK) (E:XK),Room k A->Env0 P w K mg base A outer s H->EN s fd args (ps.zip us)->Vals vs us->sp vs H Q E ->
  CB (wn P w) A (.call (.ref f) args) (CR CX outer P w H s Q E) s
theorem FnOk.imp {P:wE}{w:z8}{K:ac}{mg:Str->Option bd}{base:Heap}{CX:CXT}{k:Nat}{f:Addr}{fd:B4}{ps:List Str}{sp sp':Sp}(F:FnOk P w K mg base CX k f fd ps sp)
  (h:∀vs H Q E,sp' vs H Q E->sp vs H Q E):FnOk P w K mg base CX k f fd ps sp' :=
 ⟨λvs H Q E q=>F.len vs H Q E (h _ _ _ _ q),λA outer s H args us vs Q E hr he hb hv hs=>F.run A outer s H args us vs Q E hr he hb hv (h _ _ _ _ hs)⟩
theorem Env0.make {P:wE}{w:z8}{K:ac}{mg:Str->Option bd}{base:Heap}{A:zX}{outer:List Env}{s:db}{H:Hp}(e:Env0 P w K mg base A outer s H)(C:Addr)(us:List bd)(kw:List (Str×bd)) :
  Env0 P w K mg base (A.under (.builtin "type.__call__" ⟨.ref C::us,kw⟩)) outer s H:=⟨by first | exact e.frames | (simpa [DC,Code.envs,EM,pushEnvs] using e.frames),e.mod,e.bs,e.bsz,e.funs,e.frf,e.hok,e.bare⟩
section
variable {X:Cx}{pins:List (Addr×Obj)}{σ:St}{H:Hp}{s s':db}
theorem Inv.env0 (I:Inv X pins σ H s):Env0 X.prog X.w X.K X.mg X.base X.A X.stack s H :=
 ⟨I.ok.frames,I.ok.mod,I.bs,zQ I.ok.bsz I.sz,I.stack,I.stkFree,I.hok,I.bare⟩
theorem Inv.after {Q:VK}{u:bd}(I:Inv X pins σ H s)(h:CE X.stack X.prog X.w H s Q u s'):EP X pins σ Q u s':=by
 obtain⟨v,H',os,bare,un,hok,r,q⟩:=h;obtain⟨hh,g,d,t,os'⟩:=s';obtain rfl:os'=s.os:=os;exact⟨v,H',I.call (h':=hh) (g':=g) (d':=d) (t':=t) (ch:=[]) un hok bare (λb z=>absurd z (by simp)),r,q⟩
end
def nH (sp:Sp)(dvs:List V)(E:XK)(t:TA):TE:=λσ H Q=>t σ H λvs H1=>sp (vs++dvs) H1 Q E
def l4 (K:ac)(fd:B4)(ps:List Str)(ds:List bd):Prop :=
 ∀(s:db) (us:List bd),K.In s.heap->(us++ds).length=ps.length->EN s fd ⟨us,[]⟩ (ps.zip (us++ds))
theorem l4.all {K:ac}{fd:B4}{ps:List Str}(h:∀us:List bd,us.length=ps.length->ET fd ⟨us,[]⟩=pure (ps.zip us)):l4 K fd ps []:=λs us _ hl=>by
 rw[Bo]at hl ⊢;exact .of_eq (h us hl)
def jS (CX:CXT)(X:Cx)(E:XK):Prop:=∀(pins:List (Addr×Obj)) (σ:St) (H:Hp) (s:db) (e:bd) (s':db),Inv X pins σ H s->CX X.stack H s E e s'->X.xe e s'
section
variable {X:Cx}{CX:CXT}{k:Nat}{f C:Addr}{fd:B4}{ps:List Str}{sp:Sp}{dvs:List V}{ds:List bd}{E:XK}{x m:Str}{p pos apos:Pos}{e o:Expr}{es:List Expr}{ta:TE}{t:TA}
theorem xY {pins:List (Addr×Obj)}{σ:St}{H:Hp}{s:db}{Q:VK}{us:List bd}{vs:List V}(F:FnOk X.prog X.w X.K X.mg X.base CX k f fd ps sp)(hr:Room k X.A)(hb:l4 X.K fd ps ds)(hd:Vals dvs ds)(hx:jS CX X E)
  (I:Inv X pins σ H s) (r:Vals vs us) (h:sp (vs++dvs) H Q E):o0 (wn X.prog X.w) X.A (call (.ref f) us) (EP X pins σ Q) X.xe s:=by
 have r2:Vals (vs++dvs) (us++ds):=r.append hd;have hl:(us++ds).length=ps.length:=by rw[<- r2.length];exact F.len _ _ _ _ h
 refine DZ (Dj (F.run X.A X.stack s H ⟨us,[]⟩ (us++ds) (vs++dvs) Q E hr I.env0 (hb s us I.kIn hl) r2 h) λr s' hq=>?_);cases r with
 | error e=>exact hx pins σ H s e s' I hq
 | ok fl =>
  cases fl with
  | ret u=>exact I.after hq
  | next=>exact zZ hq
  | brk=>exact zZ hq
  | cont=>exact zZ hq
theorem nZ (F:FnOk X.prog X.w X.K X.mg X.base CX k f fd ps sp)(hr:Room k X.A)(hg:Gl X x)(hm:X.mg x=some (.ref f))(hk:Bi X.K (.ref f)=true)(hb:l4 X.K fd ps ds)(hd:Vals dvs ds)(hx:jS CX X E)
  (ha:PA X (e::es) t) (hdb:(x==("__debug__" : Str))=false:=by decide) (he:zT (e::es) X.env=(false,eval e X.env)::zT es X.env:=by rfl) (hpl:(BW pos (zT es X.env)).any (·.1)=false:=by rfl) :
  PE X (.Call (.Name x p) (e::es) [] pos) (nH sp dvs E t):=by
 intro pins s σ H Q I h;refine CY (fH I hg hm ?_ hdb);refine EX (h₀:=X.base) I.ok.mod.kin hk (thn (ha pos pins s σ H _ I h) λus s1 ⟨vs,H1,I1,r,q⟩=>⟨I1.kIn,?_⟩) he hpl;exact xY F hr hb hd hx I1 r q
end
structure bw (N P:List Str)(sc:AC):Prop where
 kind:sc.kind = .function
 co:sc.isCoroutine=false
 gen:sc.isGenerator=false
 nd:N.Nodup
 pre:N.take P.length=P
 par:∀x∈P,sc.names.lookup x=some .local∨sc.names.lookup x=some .cell
 nofree:∀y∈sc.names,y.2 ≠ .free
theorem m9 {kindOf:Str->Option Bm}{x:Str}:∀ {binds:List (Str×bd)} {m:Str->Option bd},(∀v,(x,v)∉binds)->Fw kindOf binds m x=m x
 | [],_,_=>rfl
 | (n,v)::r,m,h=>by
  unfold Fw;rw[m9 λw hw=>h w (zO _ hw)];split
  ·have:x≠n:=by rintro rfl;exact h v z7
   simp[this]
  ·rfl
theorem ng {kindOf:Str->Option Bm}{x:Str}:∀ {binds:List (Str×bd)} {m:Str->Option bd},(∀v,(x,v)∉binds)->Fx kindOf binds m x=m x
 | [],_,_=>rfl
 | (n,v)::r,m,h=>by
  unfold Fx;rw[ng λw hw=>h w (zO _ hw)];split
  ·rfl
  ·have:x≠n:=by rintro rfl;exact h v z7
   simp[this]
theorem m_ {kindOf:Str->Option Bm}{x:Str}{v:bd}:∀ {P:List Str} {vs:List bd} {i:Nat} {m:Str->Option bd},P.Nodup->P[i]? = some x->vs[i]? = some v->kindOf x=some .local ->
  Fw kindOf (P.zip vs) m x=some v
 | [],_,_,_,_,h,_,_=>by simp at h
 | _::_,[],_,_,_,_,h,_=>by simp at h
 | p::P,w::vs,0,m,nd,h1,h2,hk=>by
  simp at h1 h2;subst h1;subst h2;show Fw kindOf ((p,w)::P.zip vs) m p=_;unfold Fw;rw[m9 λv hv=>(C9.mp nd).1 (D9 hv).1,if_pos hk];simp
 | p::P,w::vs,i+1,m,nd,h1,h2,hk=>by
  show Fw kindOf ((p,w)::P.zip vs) m x=_;unfold Fw;exact m_ (i:=i) (C9.mp nd).2 (by simpa using h1) (by simpa using h2) hk
theorem nh {kindOf:Str->Option Bm}{x:Str}{v:bd}:∀ {P:List Str} {vs:List bd} {i:Nat} {m:Str->Option bd},P.Nodup->P[i]? = some x->vs[i]? = some v->kindOf x≠some .local ->
  Fx kindOf (P.zip vs) m x=some v
 | [],_,_,_,_,h,_,_=>by simp at h
 | _::_,[],_,_,_,_,h,_=>by simp at h
 | p::P,w::vs,0,m,nd,h1,h2,hk=>by
  simp at h1 h2;subst h1;subst h2;show Fx kindOf ((p,w)::P.zip vs) m p=_;unfold Fx;rw[ng λv hv=>(C9.mp nd).1 (D9 hv).1,if_neg hk];simp
 | p::P,w::vs,i+1,m,nd,h1,h2,hk=>by
  show Fx kindOf ((p,w)::P.zip vs) m x=_;unfold Fx;exact nh (i:=i) (C9.mp nd).2 (by simpa using h1) (by simpa using h2) hk
def iI (N:List Str)(vs:List V):St:=vs.map some++pp (N.length - vs.length) none
def cxOf (CX:CXT)(P:wE)(w:z8)(K:ac)(mg:Str->Option bd)(base:Heap)(N:List Str)(qual:Str)(scope:AC)(f:Addr)(cd:bd)(A:zX)(outer:List Env)(s:db)(H:Hp)(E:XK):Cx where
 prog:=P
 w:=w
 K:=K
 mg:=mg
 base:=base
 A:=A.deeper (Ct qual scope s.heap.objs.size f cd)
 N:=N
 s₀:=s
 H₀:=H
 env:=Ct qual scope s.heap.objs.size f cd
 outer:=outer
 stack:=Ct qual scope s.heap.objs.size f cd::outer
 ex:=[]
 calm:=true
 fn:=λ_=>true
 pn:=[]
 xe:=λe s'=>o0 (wn P w) (A.deeper (Ct qual scope s.heap.objs.size f cd)) (C2 (Ct qual scope s.heap.objs.size f cd) e) (λ_ s''=>CX outer H s E e s'') (λe' s''=>CX outer H s E e' s'') s'
theorem qb {sc:AC}{n:Nat}{x:Str}(h:sc.names.lookup x=some .cell):∃c,(Ay n sc.names []).lookup x=some c:=by
 have q:=Et sc.names n [] (.inl h);exact Option.isSome_iff_exists.mp q
theorem sV {CX:CXT}{P:wE}{w:z8}{K:ac}{mg:Str->Option bd}{base:Heap}{N ps:List Str}{qual:Str}{scope:AC}{f:Addr}{cd:bd}{A:zX}{outer:List Env}{s s1:db}{H:Hp}{E:XK}{us:List bd}{vs:List V}
  (S:bw N ps scope) (hd:A.handled=none) (e0:Env0 P w K mg base A outer s H) (hl:vs.length=ps.length) (r:Vals vs us)
  (x:InCallC s s.heap.objs.size (Fw (Ct qual scope s.heap.objs.size f cd).kindOf (ps.zip us) λ_=>none) (Ay (s.heap.objs.size+1) scope.names []) (Fx (Ct qual scope s.heap.objs.size f cd).kindOf (ps.zip us) λ_=>none) s1) :
  Inv (cxOf CX P w K mg base N qual scope f cd A outer s H E) [] (iI N vs) H s1:=by
 have hpl:ps.length<=N.length:=by have:=congrArg Fa S.pre;rw[Az]at this;omega
 obtain⟨h1,tk,rfl,hk⟩:=x.done;have noA:∀b:Addr,b∉(cxOf CX P w K mg base N qual scope f cd A outer s H E).ex:=λb z=>absurd (show b∈([]:List Addr)from z) (by simp);refine⟨⟨e0.mod,S.kind,rfl,rfl,lm _,λy z c h1 h2=>?_,λy hy=>?_,λy c _ h=>?_,λ_=>hd,Around.frames_deeper e0.frames,.inr ⟨rfl,rfl⟩,λb z=>absurd z (noA b),e0.bs,e0.bsz,λb _ _=>noA b,λb z=>absurd z (noA b),e0.funs,e0.frf⟩,
  rfl,e0.bare,Un.kept hk,⟨_,x.toInCall.ns,λi y v h1 h2 h3=>?_⟩,λy c h=>⟨_,x.cell y c h⟩,e0.hok.fresh (lm _),λy c h=>?_,λp hp=>absurd (show p∈([]:List (Addr×Obj))from hp) (by simp),e0.hok.kept hk,?_⟩
 ·exact name_of_addr x.apart (z_ h1) (z_ h2)
 ·have hy:scope.names.lookup y=some .cell∨scope.names.lookup y=some .free:=hy;rcases hy with hy | hy
  ·exact qb hy
  ·exact absurd rfl (S.nofree _ (z_ hy))
 ·exact Am (x.above y c (z_ h))
 ·have hi:i<vs.length:=by
   unfold iI at h2;by_cases hi:i<vs.length
   ·exact hi
   ·rw[AJ (by simpa using hi)]at h2;rw[B1]at h2;split at h2 <;> cases h2
  have ha:vs[i]? = some v:=by
   unfold iI at h2;rw[Aj (by simpa using hi),lw]at h2;cases e:vs[i]? with
   | none=>rw[e]at h2;cases h2
   | some a=>rw[e]at h2;cases h2;rfl
  obtain⟨u,hu,rv⟩:=r.get ha;have hp:ps[i]? = some y:=by
   rw[<- S.pre,List.getElem?_take_of_lt (by omega)];exact h1
  have ndP:ps.Nodup:=by rw[<- S.pre];exact S.nd.sublist (List.take_sublist _ _)
  refine⟨u,rv,?_⟩;rcases S.par y (wp hp)with k | k
  ·exact .inl ⟨k,m_ ndP hp hu k⟩
  ·obtain⟨c,e⟩:=qb (n:=s.heap.objs.size+1) k;refine .inr ⟨.inl k,c,e,?_⟩;have q:=x.cell y c e;rw[nh ndP hp hu (by show scope.names.lookup y≠_;rw[k];decide)]at q;exact q
 ·exact e0.hok.fresh (Am (x.above y c (z_ h)))
 ·unfold iI;show _=N.length;rw[pc,im,BH];omega
theorem yL {CX:CXT}{P:wE}{w:z8}{K:ac}{mg:Str->Option bd}{base:Heap}{k:Nat}{f:Addr}{name qual:Str}{params:Arguments}{body:List Stmt}{scope:AC}{dV kV doc pm cdv ct oc:bd}{an od:Option Addr}
  {osl:Array (Option bd)} {N ps:List Str} {sp:Sp} (lk:K.lookup f=some ⟨oc,od,.func (Be name qual params body scope dV kV doc pm an cdv ct),osl⟩) (hcd:BK K cdv qual=true) (S:bw N ps scope)
  (len:∀vs H Q E,sp vs H Q E->vs.length=ps.length)
  (hbody:∀(A:zX) (outer:List Env) (s:db) (H:Hp) (vs:List V) (Q:VK) (E:XK),Room k (A.deeper (Ct qual scope s.heap.objs.size f cdv))->sp vs H Q E ->
   ∃t,PSs (cxOf CX P w K mg base N qual scope f cdv A outer s H E) body t/\t {nx:=λ_ H'=>Q .non H',rt:=Q} (iI N vs) H) :
  FnOk P w K mg base CX (k+1) f (Be name qual params body scope dV kV doc pm an cdv ct) ps sp:=by
 refine⟨len,λA outer s H args us vs Q E hr e0 hb r hsp=>?_⟩;have hl:=len _ _ _ _ hsp;have KX:K.In s.heap:=e0.mod.kin.keeps λb o e=>(e0.bs b o e).1;have lim:s.heap.NoLimit:=e0.mod.nolimit.keeps λb o e=>(e0.bs b o e).1;have hkind:∀y∈ps.zip us,scope.names.lookup y.1=some .local∨(scope.names.lookup y.1=some .cell/\((Ay (s.heap.objs.size+1) scope.names []).lookup y.1).isSome=true):=λ⟨n,v⟩ hy=>by
  rcases S.par n (D9 hy).1 with q | q
  ·exact .inl q
  ·exact .inr ⟨q,Et _ _ _ (.inl q)⟩
 refine codeAny_call_function hr.depth (KX _ _ lk) rfl S.co S.gen rfl (PySem.W.codeRec_of KX hcd) (hb _ _ _ _ ?_);refine wpAny_newFunctionEnv_cells S.kind hkind λenv he s1 x=>?_;subst he;refine⟨lim.keeps x.toInCall.keep,codeAny_func ?_⟩;obtain⟨t,ht,hq⟩:=hbody A outer s H vs Q E (hr.deeper _) hsp;have I:Inv (cxOf CX P w K mg base N qual scope f cdv A outer s H E) [] (iI N vs) H s1:=sV S hr.hd e0 hl r x;refine z9 (ht [] s1 (iI N vs) H _ I hq) (λfl s' hs=>?_) λe s' hs=>hs;have fin:∀ {σ':St} {H':Hp} {v:V} {u:bd},Inv (cxOf CX P w K mg base N qual scope f cdv A outer s H E) [] σ' H' s'->RelV v u->Q v H'->CE outer P w H s Q u s' :=
  λ{σ' H' v u} J rv q=>⟨v,H',J.os,J.bare,J.base,J.hok,rv,q⟩
 cases fl with
 | ret u =>
  obtain⟨v,σ',H',J,rv,q⟩:=hs;exact fin J rv q
 | next =>
  obtain⟨σ',H',J,q⟩:=hs;exact fin (v:=V.non) (u:=Value.none) J rfl q
 | brk =>
  obtain⟨_,_,_,q⟩:=hs;exact zZ q
 | cont =>
  obtain⟨_,_,_,q⟩:=hs;exact zZ q
section
variable {X:Cx}{x:Str}{p pos:Pos}{e:Expr}{es:List Expr}{t:TA}{id T:String}{r:List V->Hp->VK->Prop}
def tCB (r:List V->Hp->VK->Prop)(t:TA):TE:=λσ H Q=>t σ H λvs H1=>r vs H1 Q
theorem aS (hc:iw X (.builtin id) r)(hg:Gl X x)(hm:X.mg x=none)(hv:Ar x=some (.builtin id))(ha:PA X (e::es) t)(hn:x ≠ "__name__" := by decide)(hdb:(x==("__debug__" : Str))=false:=by decide)
  (he:zT (e::es) X.env=(false,eval e X.env)::zT es X.env:=by rfl) (hpl:(BW pos (zT es X.env)).any (·.1)=false:=by rfl):PE X (.Call (.Name x p) (e::es) [] pos) (tCB r t):=by
 intro pins s σ H Q I h;refine CY (gn I hg hm hv ?_ hn hdb);exact G3 (thn (ha pos pins s σ H _ I h) λus s1 ⟨vs,H1,I1,r1,q1⟩=>hc pins s1 σ H1 vs us Q I1 r1 q1) he hpl
theorem di (hc:iw X (.type T) r)(hg:Gl X x)(hm:X.mg x=none)(hv:Ar x=some (.type T))(ha:PA X (e::es) t)(hn:x ≠ "__name__" := by decide)(hdb:(x==("__debug__" : Str))=false:=by decide)
  (he:zT (e::es) X.env=(false,eval e X.env)::zT es X.env:=by rfl) (hpl:(BW pos (zT es X.env)).any (·.1)=false:=by rfl):PE X (.Call (.Name x p) (e::es) [] pos) (tCB r t):=by
 intro pins s σ H Q I h;refine CY (gn I hg hm hv ?_ hn hdb);exact An (thn (ha pos pins s σ H _ I h) λus s1 ⟨vs,H1,I1,r1,q1⟩=>hc pins s1 σ H1 vs us Q I1 r1 q1) he hpl
end
end L2
namespace HT
open PySem PyProof.Rows
section
variable {prog:wE}{w:z8}{A:zX}{E:bd->db->Prop}{s:db}
def sIx (n d:Nat):Option Int->Nat
 | none=>d
 | some v=>if v<0 then(v+(n:Int)).toNat else min v.toNat n
theorem sIx_nat (n d k:Nat):sIx n d (some (k:Int))=min k n:=by
 show(if(k:Int)<0 then((k:Int)+(n:Int)).toNat else min (k:Int).toNat n)=min k n;rw[if_neg (by omega),Aq]
end
end HT
namespace L2
open PySem PySem.Spec PyProof.Rows
abbrev TO:=St->Hp->(Option Int->Hp->Prop)->Prop
def PO (X:Cx)(e:Option Expr)(t:TO):Prop :=
 ∀(pins:List (Addr×Obj)) (s:db) (σ:St) (H:Hp) (Q:Option Int->Hp->Prop),Inv X pins σ H s->t σ H Q ->
  o0 (wn X.prog X.w) X.A (evalPart e X.env) (λu s'=>∃o H',Inv X pins σ H' s'/\IsPart u o/\Q o H') X.xe s
def tNoPart:TO:=λ_ H Q=>Q none H
def xR (t:TE):TO:=λσ H Q=>t σ H λx H1=>∃i,x = .int i/\Q (some i) H1
section
variable {X:Cx}{e:Expr}{te:TE}{lo hi:Option Expr}{tl th:TO}{pos p2:Pos}
theorem jh:PO X none tNoPart:=by
 intro pins s σ H Q I h;rw[Fh];exact ww ⟨none,H,I,.none,h⟩
theorem ie (h:PE X e te):PO X (some e) (xR te):=by
 intro pins s σ H Q I hw;rw[evalPart_some];refine thn (h pins s σ H _ I hw) λu s1 ⟨x,H1,I1,r1,q1⟩=>?_;obtain⟨i,rfl,q⟩:=q1;obtain⟨t,rfl⟩:=r1;exact⟨some i,H1,I1,.int i t,q⟩
def SlR (X:Cx)(r:V->Option Int->Option Int->Hp->VK->Prop):Prop :=
 ∀(pins:List (Addr×Obj)) (s:db) (σ:St) (H:Hp) (x:V) (v vl vu:bd) (lo hi:Option Int) (sl:Addr) (Q:VK),Inv X pins σ H s->RelV x v->s.heap.IsSliceOf sl vl vu .none->IsPart vl lo->IsPart vu hi->r x lo hi H Q ->
  ∃T id,D1 (.type T) "__getitem__" = pure (some (.builtin id))/\s.TypeIs v T/\o0 (wn X.prog X.w) X.A (DI v (.ref sl)) (EP X pins σ Q) X.xe s
def tSl (r:V->Option Int->Option Int->Hp->VK->Prop)(te:TE)(tl th:TO):TE:=λσ H Q=>te σ H λx H1=>tl σ H1 λl H2=>th σ H2 λu H3=>r x l u H3 Q
theorem gW {r:V->Option Int->Option Int->Hp->VK->Prop}(hr:SlR X r)(he:PE X e te)(hl:PO X lo tl)(hu:PO X hi th):PE X (.Subscript e (.Slice lo hi none p2) pos) (tSl r te tl th):=by
 intro pins s σ H Q I h;refine EV (thn (he pins s σ H _ I h) λv s1 ⟨x,H1,I1,r1,q1⟩=>?_);refine wpAny_Slice (thn (hl pins s1 σ H1 _ I1 q1) λvl s2 ⟨l,H2,I2,pl,q2⟩=>thn (hu pins s2 σ H2 _ I2 q2) λvu s3 ⟨u,H3,I3,pu,q3⟩=>?_);rw[Fh];refine ww ?_;have I4:Inv X pins σ H3 {s3 with heap:=s3.heap.push {cls:=.type "slice",data:=.fields #[vl,vu,.none]}}:=I3.kept (t':=s3.toks) λb ob q=>dL _ q;obtain⟨T,id,hT,ht,hg⟩:=hr pins {s3 with heap:=s3.heap.push {cls:=.type "slice",data:=.fields #[vl,vu,.none]}} σ H3 x v vl vu l u s3.heap.objs.size Q I4 r1 (D_ ..) pl pu q3;show o0 (wn X.prog X.w) X.A (DR e (.Slice lo hi none p2) v (.ref s3.heap.objs.size)) (EP X pins σ Q) X.xe {s3 with heap:=s3.heap.push {cls:=.type "slice",data:=.fields #[vl,vu,.none]}};exact tail_any (ops:=[.ref s3.heap.objs.size,v]) ht hT hg (by with_unfolding_all rfl)
def cutV (xs:List V)(lo hi:Option Int):List V:=(xs.drop (HT.sIx xs.length 0 lo)).take (HT.sIx xs.length xs.length hi - HT.sIx xs.length 0 lo)
theorem oR (xs:List V)(lo hi:Option Int):(cutV xs lo hi).length<=xs.length:=by
 unfold cutV;rw[Az,DT];omega
end
def ixN (n:Nat)(i:Int):Option Nat:=if 0<=i then(if i<n then some i.toNat else none)else if -(n:Int)<=i then some (i+n).toNat else none
def atI {α:Type}(xs:List α)(i:Int):Option α:=(ixN xs.length i).bind λj=>xs[j]?
theorem w_ {n:Nat}{i:Int}{j:Nat}(h:ixN n i=some j):seqIndex? i n=some j/\j<n/\-(n:Int)<=i/\i<n:=by
 unfold ixN at h;by_cases h0:0<=i
 ·rw[if_pos h0]at h;by_cases h1:i<n
  ·rw[if_pos h1]at h;have e:i.toNat=j:=AY h;exact⟨by rw[seqIndex_of h0 h1,e],by omega,by omega,h1⟩
  ·rw[if_neg h1]at h;cases h
 ·rw[if_neg h0]at h;by_cases h1:-(n:Int)<=i
  ·rw[if_pos h1]at h;have e:(i+n).toNat=j:=AY h;exact⟨by rw[seqIndex_neg (by omega) h1,e],by omega,h1,by omega⟩
  ·rw[if_neg h1]at h;cases h
theorem oX {α:Type}{xs:List α}{i:Int}{v:α}(h:atI xs i=some v):∃j,seqIndex? i xs.length=some j/\xs[j]? = some v/\j<xs.length/\-(xs.length:Int)<=i/\i<xs.length:=by
 unfold atI at h;cases e:ixN xs.length i with
 | none=>rw[e]at h;cases h
 | some j =>
  rw[e]at h;obtain⟨h1,h2,h3,h4⟩:=w_ e;exact⟨j,h1,h,h2,h3,h4⟩
theorem lV {α:Type}{xs:List α}{j:Nat}{v:α}(h:xs[j]? = some v):atI xs (j:Int)=some v:=by
 have hj:j<xs.length:=(kt.mp h).1;have e:ixN xs.length (j:Int)=some j:=by
  unfold ixN;rw[if_pos (by omega),if_pos (by omega)];simp
 unfold atI;rw[e];exact h
def xD (b:Expr):Prop:=∀o i,DD b false o i=GA [o,i] (DI o i)
def IxR (X:Cx)(r:R2):Prop :=
 ∀(value slice:Expr) (pins:List (Addr×Obj)) (s:db) (σ:St) (H:Hp) (x y:V) (v u:bd) (Q:VK),Inv X pins σ H s->RelV x v->RelV y u->r x y H Q ->
  DD slice false v u=GA [v,u] (DI v u)->o0 (wn X.prog X.w) X.A (DR value slice v u) (EP X pins σ Q) X.xe s
def MtR (X:Cx)(id:String)(r:V->List V->Hp->VK->Prop):Prop :=
 ∀(pins:List (Addr×Obj)) (s:db) (σ:St) (H:Hp) (x:V) (xs:List V) (v:bd) (us:List bd) (Q:VK),Inv X pins σ H s->RelV x v->Vals xs us->r x xs H Q ->
  o0 (wn X.prog X.w) X.A (call (.builtin id) (v::us)) (EP X pins σ Q) X.xe s
section
variable {X:Cx}{a b:Expr}{ta tb:TE}{pos:Pos}
theorem IxR.or {r r':R2}(h:IxR X r)(h':IxR X r'):IxR X (λx y H Q=>r x y H Q∨r' x y H Q):=by
 intro value slice pins s σ H x y v u Q I rx ry q hs;rcases q with q | q
 ·exact h value slice pins s σ H x y v u Q I rx ry q hs
 ·exact h' value slice pins s σ H x y v u Q I rx ry q hs
theorem bE {r:R2}(hr:IxR X r)(ha:PE X a ta)(hb:PE X b tb)(hs:xD b):PE X (.Subscript a b pos) (tOp r ta tb):=by
 intro pins s σ H Q I h;exact EV (binT ha hb I h λv u s2 x y H2 I2 rx ry q=>hr a b pins s2 σ H2 x y v u Q I2 rx ry q (hs _ _))
def rIxL (K:ac):R2:=λx y H Q=>∃p xs i v,x = .ref p/\y = .int i/\SqL K H p xs/\atI xs i=some v/\Q v H
def rIxT (K:ac):R2:=λx y H Q=>∃p xs i v,x = .ref p/\y = .int i/\SqT K H p xs/\atI xs i=some v/\Q v H
def rIxS:R2:=λx y H Q=>∃z i c,x = .str z/\y = .int i/\z.length<=xz/\atI z.cps.toList i=some c/\Q (.str ⟨#[c]⟩) H
theorem w9:IxR X (rIxL X.K):=by
 intro value slice pins s σ H x y v u Q I rx ry h hs;obtain⟨p,xs,i,z,rfl,rfl,hq,he,q⟩:=h;cases rx
 obtain⟨t,rfl⟩:=ry;obtain⟨its,r,pl,hz⟩:=I.list hq;obtain⟨j,h1,h2,h3,h4,h5⟩:=oX he;obtain⟨w,ew,rw'⟩:=r.get h2;have hl:=r.length;have hn:=mE;have fin:EP X pins σ Q w s:=⟨z,H,I,rw',q⟩
 by_cases h0:0<=i
 ·have hj:i.toNat=j:=by
   rw[seqIndex_of h0 h5]at h1;exact AY h1
  exact item_listR pl.isList h0 (by omega) (by rw[hj];simpa using ew) fin hs
 ·have hj:(i+(its.toArray.size:Int)).toNat=j:=by
   rw[seqIndex_neg (by omega) h4]at h1;rw[li,<- hl];exact AY h1
  exact FI (x:=w) pl.isList.typeIs Eh.lookup
   (wpAny_getItem_list_neg (Q:=λr s'=>r=w/\EP X pins σ Q r s') pl.isList (by omega) (by rw[li] <;> omega) (by omega) (by rw[hj];simpa using ew) ⟨rfl,fin⟩) hs
theorem yB:IxR X (rIxT X.K):=by
 intro value slice pins s σ H x y v u Q I rx ry h hs;obtain⟨p,xs,i,z,rfl,rfl,hq,he,q⟩:=h;cases rx
 obtain⟨t,rfl⟩:=ry;obtain⟨its,r,pl,hz⟩:=I.tuple hq;obtain⟨j,h1,h2,h3,h4,h5⟩:=oX he;obtain⟨w,ew,rw'⟩:=r.get h2;have hl:=r.length;have hn:=mE;have fin:EP X pins σ Q w s:=⟨z,H,I,rw',q⟩
 exact FI (x:=w) pl.typeIs slot_tuple_getitem.lookup
  (getItem_tuple (j:=j) (Q:=λr s'=>r=w/\EP X pins σ Q r s') pl (by omega) (by omega) (by rw[li,<- hl];exact h1) (by simpa using ew) ⟨rfl,fin⟩) hs
theorem yD:IxR X rIxS:=by
 intro value slice pins s σ H x y v u Q I rx ry h hs;obtain⟨z,i,c,rfl,rfl,hz,he,q⟩:=h;obtain⟨t,rfl⟩:=rx;obtain⟨t',rfl⟩:=ry;obtain⟨j,h1,h2,h3,h4,h5⟩:=oX he;have hl:z.cps.toList.length=z.length:=by simp[Str.length]
 rw[hl]at h1 h4 h5;have hn:=mE;exact tail_any (typeIs_str s z t) slot_str_getitem.lookup (getItem_str (c:=c) (by
  have e1:decide (i < -(2^63:Int))=false:=decide_eq_false (by omega);have e2:decide (i>=2^63)=false:=decide_eq_false (by omega);rw[e1,e2,Gv]) (by rw[h1];simpa using h2) ⟨.str ⟨#[c]⟩,H,I.tok _,⟨_,rfl⟩,q⟩) hs
def rIx (K:ac):R2:=λx y H Q=>rIxL K x y H Q∨rIxT K x y H Q∨rIxS x y H Q
theorem yE:IxR X (rIx X.K):=w9.or (yB.or yD)
theorem me (lo hi:Option Int)(n:Nat):(CG lo hi none n).1=((HT.sIx n 0 lo:Nat):Int)/\(CG lo hi none n).2.1=((HT.sIx n n hi:Nat):Int)/\(CG lo hi none n).2.2=1:=by
 refine⟨?_,?_,rfl⟩
 ·cases lo with
  | none=>simp[CG,HT.sIx]
  | some i =>
   simp only[CG,HT.sIx,Fz,show(1:Int) > 0 by decide,if_true];by_cases h:i<0
   ·simp only[h,if_true] <;> omega
   ·simp only[h,if_false] <;> omega
 ·cases hi with
  | none=>simp[CG,HT.sIx]
  | some i =>
   simp only[CG,HT.sIx,Fz,show(1:Int) > 0 by decide,if_true];by_cases h:i<0
   ·simp only[h,if_true] <;> omega
   ·simp only[h,if_false] <;> omega
theorem kZ (its:List bd)(lo hi:Option Int):slicePick its.toArray lo hi none=((its.drop (HT.sIx its.length 0 lo)).take (HT.sIx its.length its.length hi - HT.sIx its.length 0 lo)).toArray:=by
 obtain⟨h1,h2,h3⟩:=me lo hi its.toArray.size;unfold slicePick;rw[h1,h2,h3];simp only[sliceRange_one,pick_run,li] <;> rfl
def rSlL (K:ac):V->Option Int->Option Int->Hp->VK->Prop:=λx lo hi H Q=>∃a xs,x = .ref a/\SqL K H a xs/\∀p,H p=none->Q (.ref p) (upd H p (.lst (cutV xs lo hi)))
theorem wm:SlR X (rSlL X.K):=by
 intro pins s σ H x v vl vu lo hi sl Q I rx hs pl pu h;obtain⟨a,xs,rfl,hx,q⟩:=h;cases rx
 obtain⟨its,r,ht,hz⟩:=I.list hx;have hlen:=r.length;refine⟨"list",_,Eh.lookup,ht.isList.typeIs,?_⟩;refine Ff ht.isList hs pl pu .none (by simp) ?_ (by rw[li] <;> omega);rw[kZ,<- hlen];refine⟨.ref s.heap.objs.size,_,I.laid (t':=s.toks) (o:=.lst (cutV xs lo hi)) (λb ob q=>dL _ q) (lm _) ?_,rfl,q _ (I.hok.fresh (lm _))⟩;exact⟨zQ (oR xs lo hi) hz,_,0,(r.drop (HT.sIx xs.length 0 lo)).take (HT.sIx xs.length xs.length hi - HT.sIx xs.length 0 lo),wP _ rfl⟩
def j_:V->Bool
 | .non=>true
 | .bl _=>true
 | .int _=>true
 | .str _=>true
 | _=>false
def eqV:V->V->Bool
 | .non,.non=>true
 | .bl a,.bl b=>a==b
 | .bl a,.int b=>(if a then 1 else 0)==b
 | .int a,.bl b=>a==(if b then 1 else 0)
 | .int a,.int b=>a==b
 | .str a,.str b=>a==b
 | _,_=>false
theorem yM {A:zX}{s:db}{y x:V}{u v:bd}(ry:RelV y u)(rx:RelV x v)(fy:j_ y=true)(fx:j_ x=true):CI A s u v (eqV y x):=by
 cases y with
 | non =>
  cases ry
  cases x with
  | non=>cases rx;exact SeqAt.EqAt.same _
  | bl b=>cases rx;exact SeqAt.EqAt.none_bool b
  | int b=>obtain⟨t,rfl⟩:=rx;exact SeqAt.EqAt.none_int b t
  | str b=>obtain⟨t,rfl⟩:=rx;exact SeqAt.EqAt.none_str b t
  | _=>exact absurd (show false=true from fx) Ad
 | bl a =>
  cases ry
  cases x with
  | non=>cases rx;exact SeqAt.EqAt.bool_none a
  | bl b=>cases rx;exact SeqAt.EqAt.bool_bool a b
  | int b=>obtain⟨t,rfl⟩:=rx;exact SeqAt.EqAt.bool_int a b t
  | str b=>obtain⟨t,rfl⟩:=rx;exact SeqAt.EqAt.bool_str a b t
  | _=>exact absurd (show false=true from fx) Ad
 | int a =>
  obtain⟨t',rfl⟩:=ry;cases x with
  | non=>cases rx;exact SeqAt.EqAt.int_none a t'
  | bl b=>cases rx;exact SeqAt.EqAt.int_bool a t' b
  | int b=>obtain⟨t,rfl⟩:=rx;exact SeqAt.EqAt.int_int a t' b t
  | str b=>obtain⟨t,rfl⟩:=rx;exact Ex a t' b t
  | _=>exact absurd (show false=true from fx) Ad
 | str a =>
  obtain⟨t',rfl⟩:=ry;cases x with
  | non=>cases rx;exact SeqAt.EqAt.str_none a t'
  | bl b=>cases rx;exact SeqAt.EqAt.str_bool a t' b
  | int b=>obtain⟨t,rfl⟩:=rx;exact Ew a t' b t
  | str b=>obtain⟨t,rfl⟩:=rx;exact SeqAt.EqAt.str_str a t' b t
  | _=>exact absurd (show false=true from fx) Ad
 | _=>exact absurd (show false=true from fy) Ad
def eqU (x:V)(u:bd):Bool:=match u with
 | .none=>eqV .non x
 | .bool b=>eqV (.bl b) x
 | .int i _=>eqV (.int i) x
 | .str z _=>eqV (.str z) x
 | _=>false
theorem vH {x y:V}{u:bd}(r:RelV y u)(f:j_ y=true):eqU x u=eqV y x:=by
 cases y with
 | non=>cases r;rfl
 | bl b=>cases r;rfl
 | int i=>obtain⟨t,rfl⟩:=r;rfl
 | str z=>obtain⟨t,rfl⟩:=r;rfl
 | _=>exact absurd (show false=true from f) Ad
theorem oZ {x:V}:∀ {xs:List V} {us:List bd},Vals xs us->xs.all j_=true->us.any (eqU x)=xs.any λy=>eqV y x
 | _,_,.nil,_=>rfl
 | y::xs,u::us,.cons r t,f=>by
  rw[CV,zY]at f;rw[Bj,Bj,vH r f.1,oZ t f.2]
theorem ly {A:zX}{s:db}{x:V}{v:bd}(rx:RelV x v)(fx:j_ x=true):∀ {xs:List V} {us:List bd},Vals xs us->xs.all j_=true->∀u∈us,CI A s u v (eqU x u)
 | _,_,.nil,_=>λu hu=>by cases hu
 | y::xs,u::us,.cons r t,f=>λu' hu=>by
  rw[CV,zY]at f;rcases wS.mp hu with rfl | hu
  ·rw[vH r f.1];exact yM r rx f.1 fx
  ·exact ly rx fx t f.2 u' hu
def inV (x:V)(xs:List V):Bool:=xs.any λy=>eqV y x
def rIn (K:ac)(neg:Bool):R2:=λx y H Q=>∃p xs,y = .ref p/\(SqL K H p xs∨SqT K H p xs)/\j_ x=true/\xs.all j_=true/\Q (.bl (if neg then !inV x xs else inV x xs)) H
theorem sF:OpR X (Bv .In) (rIn X.K false):=by
 intro pins s σ H x y v u Q I rx ry h;obtain⟨p,xs,rfl,hq,fx,fs,q⟩:=h;cases ry
 rcases hq with hq | hq
 ·obtain⟨its,r,pl,hz⟩:=I.list hq;refine SeqAt.in_listAt (eqU x) pl.isList (λw hw=>ly rx fx r fs w (by simpa using hw)) ⟨.bl _,H,I,rfl,?_⟩;rw[show its.toArray.any (eqU x)=its.any (eqU x)by simp,oZ r fs];exact q
 ·obtain⟨its,r,pl,hz⟩:=I.tuple hq;refine SeqAt.in_tupleAt (eqU x) pl (λw hw=>ly rx fx r fs w (by simpa using hw)) ⟨.bl _,H,I,rfl,?_⟩;rw[show its.toArray.any (eqU x)=its.any (eqU x)by simp,oZ r fs];exact q
theorem m6:iw X (.builtin "len") (λxs H Q=>∃p ys,xs=[.ref p]/\(SqL X.K H p ys∨SqT X.K H p ys)/\Q (.int ys.length) H):=by
 intro pins s σ H xs us Q I r h;obtain⟨p,ys,rfl,hq,q⟩:=h;obtain⟨u,rfl,rx⟩:=kN r;cases rx
 have hn:=mE;rcases hq with hq | hq
 ·obtain⟨its,r',pl,hz⟩:=I.list hq;have hlen:=r'.length;exact Calls.call_len_list pl.isList (by simp only[li] <;> omega) ⟨.int ys.length,H,I.tok _,⟨s.toks+1,by rw[li,hlen]⟩,q⟩
 ·obtain⟨its,r',pl,hz⟩:=I.tuple hq;have hlen:=r'.length;exact len_tuple pl (by simp only[li] <;> omega) ⟨.int ys.length,H,I.tok _,⟨s.toks+1,by rw[li,hlen]⟩,q⟩
theorem m5:iw X (.type "list") (λxs H Q=>∃p ys,xs=[.ref p]/\(SqL X.K H p ys∨SqT X.K H p ys)/\∀l,H l=none->Q (.ref l) (upd H l (.lst ys))):=by
 intro pins s σ H xs us Q I r h;obtain⟨p,ys,rfl,hq,q⟩:=h;obtain⟨u,rfl,rx⟩:=kN r;cases rx
 have fin:∀(its:List bd),Vals ys its->ys.length<=xz->∀(h':Heap) (c':Nat),(∀b o',s.heap.get? b=some o'->h'.get? b=some o') ->
   h'.get? s.heap.objs.size=some {cls:=.type "list",dict:=none,data:=.seq its.toArray c',slots:=#[]}->EP X pins σ Q (.ref s.heap.objs.size) {s with heap:=h'}:=λits r' hz h' c' kp e =>
  ⟨.ref s.heap.objs.size,_,I.laid (t':=s.toks) kp (lm _) (show cw X.prog X.w _ h' _ (.lst ys)from⟨hz,its,c',r',e⟩),rfl,q _ (I.hok.fresh (lm _))⟩
 rcases hq with hq | hq
 ·obtain⟨its,r',pl,hz⟩:=I.list hq;have hlen:=r'.length;obtain⟨o,ho,hc,n,hd⟩:=pl.isList;exact call_list_seq p (.inl rfl) ho hc hd (λh' c' kp e=>fin its r' hz h' c' kp e) (by simp only[li] <;> omega)
 ·obtain⟨its,r',pl,hz⟩:=I.tuple hq;have hlen:=r'.length;obtain⟨o,ho,hc,n,hd⟩:=pl;exact call_list_seq p (.inr rfl) ho hc hd (λh' c' kp e=>fin its r' hz h' c' kp e) (by simp only[li] <;> omega)
theorem lT:iw X (.type "tuple") (λxs H Q=>∃p ys,xs=[.ref p]/\((SqL X.K H p ys/\∀l,H l=none->Q (.ref l) (upd H l (.tup ys)))∨(SqT X.K H p ys/\Q (.ref p) H))):=by
 intro pins s σ H xs us Q I r h;obtain⟨p,ys,rfl,h⟩:=h;obtain⟨u,rfl,rx⟩:=kN r;cases rx
 rcases h with⟨hq,q⟩ | ⟨hq,q⟩
 ·obtain⟨its,r',pl,hz⟩:=I.list hq;have hlen:=r'.length;refine call_tuple_list pl.isList (λh' kp=>?_) (by simp only[li] <;> omega);have I1:Inv X pins σ H {s with heap:=h'}:=I.kept (t':=s.toks) kp;have I2:Inv X pins σ (upd H h'.objs.size (.tup ys)) {s with heap:=h'.push {cls:=.type "tuple",data:=.seq its.toArray}} :=
   I1.laid (t':=s.toks) (λb o e=>dL _ e) (lm _) (show cw X.prog X.w _ _ _ (.tup ys)from⟨hz,its,r',IsTup.new _ _⟩)
  exact⟨.ref h'.objs.size,_,I2,rfl,q _ (I1.hok.fresh (lm _))⟩
 ·obtain⟨its,r',pl,hz⟩:=I.tuple hq;exact call_tuple_same pl ⟨.ref p,H,I,rfl,q⟩
def tyV (K:ac)(T:String)(x:V)(H:Hp):Prop:=match x with
 | .str _=>T = "str"
 | .int _=>T = "int"
 | .ref p=>(T = "list" /\ ∃xs,SqL K H p xs)∨(T = "tuple" /\ ∃o,K.lookup p=some o/\o.cls = .type "tuple" /\ o.dict=none) ∨
   (T = "dict" /\ ((∃kvs,H p=some (.dK kvs)) ∨ ∃kvs,H p=some (.dT kvs)))∨(T = "set" /\ ∃S n,H p=some (.set S n))
 | _=>False
theorem xM {pins:List (Addr×Obj)}{σ:St}{H:Hp}{s:db}{T:String}{x:V}{v:bd}(I:Inv X pins σ H s)(r:RelV x v)(ty:tyV X.K T x H) :
  s.TypeIs v T/\∀a,v = .ref a->∃ob,s.heap.get? a=some ob/\ob.dict=none:=by
 cases x with
 | str z =>
  obtain⟨t,rfl⟩:=r;cases (show T = "str" from ty)
  exact⟨typeIs_str s z t,λ_ e=>nomatch e⟩
 | int i =>
  obtain⟨t,rfl⟩:=r;cases (show T = "int" from ty)
  exact⟨typeIs_int s i t,λ_ e=>nomatch e⟩
 | ref p =>
  cases r
  rcases ty with⟨rfl,xs,hq⟩ | ⟨rfl,o,hk,hc,hd⟩ | ⟨rfl,hk⟩ | ⟨rfl,S,n,hk⟩
  ·obtain⟨its,_,pl,_⟩:=I.list hq;refine⟨pl.isList.typeIs,λa e=>?_⟩;cases e
   obtain⟨o,n,e,c,hd,_⟩:=pl;exact⟨o,e,hd⟩
  ·refine⟨⟨o,I.kIn p o hk,hc⟩,λa e=>?_⟩;cases e
   exact⟨o,I.kIn _ o hk,hd⟩
  ·have z:∃o,s.heap.get? p=some o/\o.ExactDict:=by
    rcases hk with⟨kvs,hk⟩ | ⟨kvs,hk⟩
    ·obtain⟨_,_,_,_,o,_,_,e,ex,_⟩:=I.hok p _ hk;exact⟨o,e,ex⟩
    ·obtain⟨_,_,_,_,o,_,_,e,ex,_⟩:=I.hok p _ hk;exact⟨o,e,ex⟩
   obtain⟨o,e,ex⟩:=z;refine⟨⟨o,e,ex.1⟩,λa e2=>?_⟩;cases e2
   exact⟨o,e,ex.2.1⟩
  ·obtain⟨o,_,_,_,e,ex,_⟩:=I.hok p _ hk;refine⟨⟨o,e,ex.1⟩,λa e2=>?_⟩;cases e2
   exact⟨o,e,ex.2.1⟩
 | _=>exact zZ ty
def tBM (K:ac)(T:String)(r:V->List V->Hp->VK->Prop)(to:TE)(t:TA):TE:=λσ H Q=>to σ H λx H1=>tyV K T x H1/\t σ H1 λxs H2=>r x xs H2 Q
variable {o e:Expr}{es:List Expr}{to:TE}{t:TA}{name:Str}{apos cpos:Pos}{T id:String}{r:V->List V->Hp->VK->Prop}
theorem zj (pa:PlainAttrs T)(slot:Slot T name id)(hty:typeOf (.builtin id)=pure (.type "method_descriptor"))(hm:MtR X id r)(ho:PE X o to)(ha:PA X (e::es) t)
  (hbase:attributeBase o name X.env (eval o X.env)=eval o X.env:=by rfl)
  (hfew:((BW cpos (zT (e::es) X.env)).all (λx=>!x.1)&&(backToKw cpos (F5 [] X.env)).all (λx=>x.1.isSome)
   && decide ((e::es).length+([]:List GK).length+(if([]:List GK).isEmpty then 0 else 1)<30))=true:=by rfl)
  (hline:(apos.endLine==cpos.line)=true:=by rfl) (hs:zT (e::es) X.env=(false,eval e X.env)::zT es X.env:=by rfl) (hplain:(BW cpos (zT es X.env)).any (·.1)=false:=by rfl) :
  PE X (.Call (.Attribute o name apos) (e::es) [] cpos) (tBM X.K T r to t):=by
 intro pins s σ H Q I h;refine wpAny_Call_method_late hbase hfew hline rfl (thn (ho pins s σ H _ I h) λv s1 ⟨x,H1,I1,r1,ty,q1⟩=>?_);obtain⟨h1,h2⟩:=xM I1 r1 ty;refine⟨T,id,pa,slot,hty,h1,h2,?_⟩;have hA:=ha cpos pins s1 σ H1 _ I1 q1;rw[hs]at hA ⊢;refine EG (by show(false||(BW cpos (zT es X.env)).any (·.1))=false;rw[hplain] <;> rfl) (Ck ?_);exact thn hA λus s2 ⟨vs,H2,I2,r2,q2⟩=>hm pins s2 σ H2 x vs v us Q I2 r1 r2 q2
end
def MtM (X:Cx)(id:String)(r:V->List V->Hp->VK->Prop):Prop :=
 ∀(pins:List (Addr×Obj)) (s:db) (σ:St) (H:Hp) (x:V) (xs:List V) (v:bd) (us:List bd) (Q:VK),Inv X pins σ H s->RelV x v->Vals xs us->r x xs H Q ->
  o0 (wn X.prog X.w) X.A (call (.builtin id) (v::us)) (EP X pins σ Q) X.xe s
theorem Vals.one:∀ {x:V} {us:List bd},Vals [x] us->∃u,us=[u]/\RelV x u
 | _,_,.cons r .nil=>⟨_,rfl,r⟩
section
variable {X:Cx}{pins:List (Addr×Obj)}{σ:St}{H:Hp}{s:db}{l b:Addr}{xs ys zs:List V}
theorem Inv.lset {its its':List bd}{n:Nat}{f:Array bd->Array bd}{t':Nat}(I:Inv X pins σ H s)(hH:H l=some (.lst xs))
  (e:s.heap.get? l=some {cls:=.type "list",data:=.seq its.toArray n}) (hf:f its.toArray=its'.toArray) (hv:Vals ys its') (hz:ys.length<=xz) :
  Inv X pins σ (upd H l (.lst ys)) {s with heap:=s.heap.update l (A3 f),toks:=t'}:=by
 have q:=Dw e f;rw[hf]at q;refine I.write (x:=l) (e:=l) (by rw[hH];exact trivial) (.inl rfl) (λb' u hb hu=>(sB s.heap (A3 f) (AB hb)).trans hu) ⟨_,q⟩ ?_;exact⟨hz,its',_,hv,q⟩
theorem Inv.lstM (I:Inv X pins σ H s)(hH:H l=some (.lst xs)):xs.length<=xz/\∃(its:List bd) (n:Nat),Vals xs its/\xs.length=its.length/\s.heap.get? l=some {cls:=.type "list",data:=.seq its.toArray n}:=by
 obtain⟨z,its,n,r,e⟩:=I.hok l _ hH;exact⟨z,its,n,r,r.length,e⟩
end
section
variable {X:Cx}
def rAppend:V->List V->Hp->VK->Prop:=λx vs H Q=>∃l xs y,x = .ref l/\vs=[y]/\H l=some (.lst xs)/\xs.length<xz/\Q .non (upd H l (.lst (xs++[y])))
theorem bK:MtM X "list.append" rAppend:=by
 intro pins s σ H x vs v us Q I rx rv h;obtain⟨l,xs,y,rfl,rfl,hH,hz,q⟩:=h;cases rx
 obtain⟨u,rfl,ru⟩:=rv.one;obtain⟨z,its,n,r,hl,e⟩:=I.lstM hH;refine Go zJ ⟨_,e,rfl⟩ DH (Dz _ _) (DG l its.toArray n u (by rw[li];omega)) ⟨e,?_⟩;refine⟨.non,_,I.lset (its':=its++[u]) hH e (by simp) (r.append (.cons ru .nil)) ?_,rfl,q⟩;rw[pc,xL];omega
end
section
variable {κ:Type} [DecidableEq κ]
def valV (kvs:List (κ×V))(k:κ):Option V:=(kvs.find? λkv=>decide (kv.1=k)).map (·.2)
def putK (kvs:List (κ×V))(k:κ)(v:V):List (κ×V) :=
 if(kvs.any λkv=>decide (kv.1=k))=true then kvs.map (λkv=>if kv.1=k then(kv.1,v)else kv)else kvs++[(k,v)]
theorem iO {p:κ×V}{r:List (κ×V)}{k:κ}(e:p.1=k):valV (p::r) k=some p.2:=by simp[valV,AK,e]
theorem iP {p:κ×V}{r:List (κ×V)}{k:κ}(e:¬p.1=k):valV (p::r) k=valV r k:=by simp[valV,AK,e]
theorem pd (k:κ):∀kvs:List (κ×V),(kvs.any λkv=>decide (kv.1=k))=(valV kvs k).isSome
 | []=>rfl
 | p::r=>by
  rw[Bj];by_cases e:p.1=k
  ·simp only[iO e,decide_eq_true e,Bool.true_or,E9]
  ·rw[iP e,decide_eq_false e,EB];exact pd k r
theorem gB (kvs:List (κ×V))(k:κ)(v:V):(putK kvs k v).length<=kvs.length+1:=by
 unfold putK;split
 ·rw[im];omega
 ·rw[pc,zK,Co];omega
theorem RelO.isSome_eq {o:Option V}{u:Option bd}(r:RelO o u):o.isSome=u.isSome:=by
 cases o with
 | none=>cases u with
  | none=>rfl
  | some _=>exact(show False from r).elim
 | some _=>cases u with
  | none=>exact(show False from r).elim
  | some _=>rfl
theorem KV.val {kvs:List (κ×V)}{vs:List (κ×bd)}(r:KV kvs vs)(k:κ):RelO (valV kvs k) (Eg vs k):=by
 unfold KV at r;induction r with
 | nil=>exact True.intro
 | @cons p q ps qs h t ih =>
  obtain⟨h1,h2⟩:=h;by_cases e:p.1=k
  ·have e':q.1=k:=h1.symm.trans e;have b:Eg (q::qs) k=some q.2:=by simp[Eg,AK,e']
   rw[iO e,b];exact h2
  ·have e':¬q.1=k:=λz=>e (h1.trans z);have b:Eg (q::qs) k=Eg qs k:=by simp[Eg,AK,e']
   rw[iP e,b];exact ih
theorem KV.any {kvs:List (κ×V)}{vs:List (κ×bd)}(r:KV kvs vs)(k:κ):(kvs.any λkv=>decide (kv.1=k))=vs.any λkv=>decide (kv.1=k):=by
 unfold KV at r;induction r with
 | nil=>rfl
 | cons h t ih=>rw[Bj,Bj,ih,h.1]
theorem KV.repl {kvs:List (κ×V)}{vs:List (κ×bd)}(r:KV kvs vs)(k:κ){y:V}{u:bd}(ry:RelV y u) :
  KV (kvs.map λkv=>if kv.1=k then(kv.1,y)else kv) (vs.map λkv=>if kv.1=k then(kv.1,u)else kv):=by
 unfold KV at r ⊢;induction r with
 | nil=>exact .nil
 | @cons p q ps qs h t ih =>
  rw[wl,wl];refine .cons ?_ ih;obtain⟨h1,h2⟩:=h;by_cases e:p.1=k
  ·rw[if_pos e,if_pos (h1.symm.trans e)];exact⟨h1,ry⟩
  ·rw[if_neg e,if_neg (λz=>e (h1.trans z))];exact⟨h1,h2⟩
theorem KV.put {kvs:List (κ×V)}{vs:List (κ×bd)}(r:KV kvs vs)(k:κ){y:V}{u:bd}(ry:RelV y u):KV (putK kvs k y) (stored vs k u):=by
 unfold putK stored;rw[r.any k];by_cases e:(vs.any λkv=>decide (kv.1=k))=true
 ·rw[if_pos e,if_pos e];exact r.repl k ry
 ·rw[if_neg e,if_neg e];exact Gr r ⟨rfl,ry⟩
theorem KV.length {kvs:List (κ×V)}{vs:List (κ×bd)}(r:KV kvs vs):kvs.length=vs.length:=Dm r
end
theorem sS {P:wE}{w:z8}{k:Key}{u:bd}(r:RelV (kV k) u):(cu P w).is k u=true:=by
 cases k with
 | inl i=>obtain⟨t,e⟩:=(show ∃t,u=Value.int i t from r);subst e;exact oB P w i t
 | inr x=>obtain⟨t,e⟩:=(show ∃t,u=Value.str x t from r);subst e;exact oA P w x t
theorem mG {P:wE}{w:z8}:∀ {ks:List Key} {us:List bd},Vals (ks.map kV) us->ItemsAre (cu P w) ks us
 | [],_,r=>by rw[BP]at r;cases r;exact .nil
 | k::ks,_,r=>by
  rw[wl]at r;cases r with
  | cons h t=>exact .cons (sS h) (mG t)
abbrev KT (H:Hp):List (List Key×V)->List (List Key×Addr×bd)->Prop:=EY λp q=>p.1=q.1/\H q.2.1=some (.tup (p.1.map kV))/\RelV p.2 q.2.2
theorem KT.val {H:Hp}{kvs:List (List Key×V)}{xs:List (List Key×Addr×bd)}(r:KT H kvs xs)(k:List Key):RelO (valV kvs k) ((EU xs k).map (·.2)):=by
 induction r with
 | nil=>exact True.intro
 | @cons p q ps qs h t ih =>
  obtain⟨h1,_,h2⟩:=h;by_cases e:p.1=k
  ·have e':q.1=k:=h1.symm.trans e;have b:EU (q::qs) k=some q.2:=by simp[EU,AK,e']
   rw[iO e,b];exact h2
  ·have e':¬q.1=k:=λz=>e (h1.trans z);have b:EU (q::qs) k=EU qs k:=by simp[EU,AK,e']
   rw[iP e,b];exact ih
theorem KT.repl {H:Hp}{kvs:List (List Key×V)}{xs:List (List Key×Addr×bd)}(r:KT H kvs xs)(k:List Key){y:V}{u:bd}(ry:RelV y u) :
  KT H (kvs.map λkv=>if kv.1=k then(kv.1,y)else kv) (xs.map (putAt k u)):=by
 induction r with
 | nil=>exact .nil
 | @cons p q ps qs h t ih =>
  rw[wl,wl];refine .cons ?_ ih;obtain⟨h1,h2,h3⟩:=h;unfold putAt;by_cases e:p.1=k
  ·rw[if_pos e,if_pos (h1.symm.trans e)];exact⟨h1,h2,ry⟩
  ·rw[if_neg e,if_neg (λz=>e (h1.trans z))];exact⟨h1,h2,h3⟩
theorem KT.put {H:Hp}{kvs:List (List Key×V)}{xs:List (List Key×Addr×bd)}(r:KT H kvs xs)(k:List Key){b:Addr}{y:V}{u:bd}(hb:H b=some (.tup (k.map kV)))(ry:RelV y u) :
  KT H (putK kvs k y) (storedH xs k b u):=by
 have e:(kvs.any λkv=>decide (kv.1=k))=(EU xs k).isSome:=by
  rw[pd,(r.val k).isSome_eq,Fk]
 unfold putK storedH;rw[e];by_cases q:(EU xs k).isSome=true
 ·rw[if_pos q,if_pos q];exact r.repl k ry
 ·rw[if_neg q,if_neg q];exact Gr r ⟨rfl,hb,ry⟩
theorem KT.keeps {H H':Hp}{kvs:List (List Key×V)}{xs:List (List Key×Addr×bd)}(r:KT H kvs xs)(ht:∀b ys,H b=some (.tup ys)->H' b=some (.tup ys)):KT H' kvs xs :=
 Paired.mapP r λ_ _ z=>⟨z.1,ht _ _ z.2.1,z.2.2⟩
section
variable {P:wE}{w:z8}{H:Hp}{h:Heap}{a:Addr}
theorem xZ {u:HO}(ok:HOk P w H h)(e:Rd H a u):cw P w H h a u:=e.ok ok
theorem uX {kvs:List (Key×V)}(ok:HOk P w H h)(e:Rd H a (.dK kvs)):kvs.length<=xz/\(a==BV)=false/\∃vs,KV kvs vs/\h.DictOf (cu P w) a vs :=
 show cw P w H h a (.dK kvs)from xZ ok e
theorem yN {kvs:List (Key×V)}(ok:HOk P w H h)(e:H a=some (.dK kvs)):kvs.length<=xz/\(a==BV)=false/\∃vs,KV kvs vs/\h.DictOf (cu P w) a vs:=uX ok (.inl e)
theorem pT {ks:List Key}(ok:HOk P w H h)(e:H a=some (.tup (ks.map kV))):(Er (cu P w)).is h ks a:=by
 obtain⟨_,its,r,o,h1,h2,n,h3⟩:=(show cw P w H h a (.tup (ks.map kV))from ok a _ e)
 exact⟨o,its.toArray,n,h1,h2,h3,by simpa using mG r⟩
theorem uW {kvs:List (List Key×V)}(ok:HOk P w H h)(e:Rd H a (.dT kvs)):kvs.length<=xz/\(a==BV)=false /\
  ∃xs,KT H kvs xs/\h.DictOfH (Er (cu P w)) a xs:=by
 obtain⟨z,y,xs,r,o,es,ep,h1,h2,h3,h4,h5⟩:=(show cw P w H h a (.dT kvs)from xZ ok e)
 refine⟨z,y,xs,r,o,es,ep,h1,h2,h3,h4,λx hx=>?_,h5⟩;have all:∀ {l:List (List Key×V)} {m:List (List Key×Addr×bd)},KT H l m->∀x∈m,(Er (cu P w)).is h x.1 x.2.1:=by
  intro l m q;induction q with
  | nil=>intro x hx;exact nomatch hx
  | @cons p q ps qs hq t ih =>
   intro x hx;rcases wS.mp hx with e | hx
   ·subst e;exact pT ok (by rw[<- hq.1];exact hq.2.1)
   ·exact ih x hx
 exact all r x hx
theorem zr {kvs:List (List Key×V)}(ok:HOk P w H h)(e:H a=some (.dT kvs)):kvs.length<=xz/\(a==BV)=false /\
  ∃xs,KT H kvs xs/\h.DictOfH (Er (cu P w)) a xs:=uW ok (.inl e)
end
def DGet (H:Hp)(a:Addr)(y:V)(r:Option V):Prop :=
 (∃kvs k,Rd H a (.dK kvs)/\y=kV k/\r=valV kvs k) ∨ ∃kvs k b,Rd H a (.dT kvs)/\y = .ref b/\H b=some (.tup (k.map kV))/\r=valV kvs k
def DPut (H:Hp)(a:Addr)(y v:V)(H':Hp):Prop :=
 (∃kvs k,H a=some (.dK kvs)/\y=kV k/\kvs.length<xz/\H'=upd H a (.dK (putK kvs k v))) ∨
 ∃kvs k b,H a=some (.dT kvs)/\y = .ref b/\H b=some (.tup (k.map kV))/\kvs.length<xz/\H'=upd H a (.dT (putK kvs k v))
theorem DGet.k {H:Hp}{a:Addr}{kvs:List (Key×V)}{k:Key}(e:H a=some (.dK kvs)):DGet H a (kV k) (valV kvs k):=.inl ⟨kvs,k,.inl e,rfl,rfl⟩
theorem DPut.k {H:Hp}{a:Addr}{kvs:List (Key×V)}{k:Key}{v:V}(e:H a=some (.dK kvs))(hl:kvs.length<xz):DPut H a (kV k) v (upd H a (.dK (putK kvs k v))):=.inl ⟨kvs,k,e,rfl,hl,rfl⟩
section
variable {X:Cx}{pins:List (Addr×Obj)}{σ:St}{H:Hp}{s:db}{a:Addr}{y v:V}{u r:bd}{o:Option V}{A:zX}{E:bd->db->Prop}
theorem Inv.big (I:Inv X pins σ H s):BV<s.heap.objs.size:=by
 have h:zN<s.heap.objs.size:=(I.mod.glob.keeps I.bk).lt;exact BS (by decide) h
theorem tL {Q:bd->db->Prop}(hu:A.units+1<CH)(I:Inv X pins σ H s)(g:DGet H a y (some v))(ry:RelV y u)(h:∀w' s',Inv X pins σ H s'->RelV v w'->Q w' s') :
  o0 (wn X.prog X.w) A (DI (.ref a) u) Q E s:=by
 rcases g with⟨kvs,k,e,ey,l⟩ | ⟨kvs,k,b,e,ey,eb,l⟩
 ·subst ey;obtain⟨z,hd,vs,rel,dd⟩:=uX I.hok e;obtain⟨w',hw,rw'⟩:=RelO.some_of (v:=v) (o:=Eg vs k) (by rw[l];exact rel.val k);exact wpAny_getItem_of (sS ry) dd.mapOf hw (h w' _ (I.tok _) rw')
 ·subst ey;cases (show u=Value.ref b from ry)
  obtain⟨z,hd,xs,rel,dd⟩:=uW I.hok e;obtain⟨w',hw,rw'⟩:=RelO.some_of (v:=v) (o:=(EU xs k).map (·.2)) (by rw[l];exact rel.val k);obtain⟨p,hp,hp2⟩:=wT.mp hw;refine wpAny_getItem_heap (D2 hu) (pT I.hok eb) dd hp ?_;rw[hp2];exact h w' _ (I.tok _) rw'
theorem xp {Q:bd->db->Prop}(hu:A.units+1<CH)(I:Inv X pins σ H s)(g:DGet H a y o)(ry:RelV y u)(h:∀s',Inv X pins σ H s'->Q (.bool (!o.isSome)) s') :
  o0 (wn X.prog X.w) A (Bv .NotIn u (.ref a)) Q E s:=by
 rcases g with⟨kvs,k,e,ey,l⟩ | ⟨kvs,k,b,e,ey,eb,l⟩
 ·subst ey;obtain⟨z,hd,vs,rel,dd⟩:=uX I.hok e;refine wpAny_notIn_of (sS ry) hd dd.mapOf ?_;rw[<- (rel.val k).isSome_eq,<- l];exact h _ (I.tok _)
 ·subst ey;cases (show u=Value.ref b from ry)
  obtain⟨z,hd,xs,rel,dd⟩:=uW I.hok e;refine wpAny_notIn_heap (D2 hu) (pT I.hok eb) hd dd ?_;have q:=(rel.val k).isSome_eq;rw[Fk]at q;rw[<- q,<- l];exact h _ (I.tok _)
theorem oQ {h':Heap}{t':Nat}{ob:HO}(I:Inv X pins σ H s)(mu:Mut (H a))(hs:AF a s.heap h')(he:∃q,h'.get? a=some q)(new:cw X.prog X.w (upd H a ob) h' a ob) :
  Inv X pins σ (upd H a ob) {s with heap:=h',toks:=t'} :=
 I.write (x:=a) (e:=a) mu (.inl rfl) (λb q hb z=>(hs.2 b hb).trans z) he new
theorem vI {P:wE}{w:z8}{H':Hp}{h':Heap}{kvs:List (Key×V)}{vs:List (Key×bd)}(z:kvs.length<=xz)(hd:(a==BV)=false)(rel:KV kvs vs)(dd:h'.DictOf (cu P w) a vs) :
  cw P w H' h' a (.dK kvs):=⟨z,hd,vs,rel,dd⟩
theorem tK {H':Hp}{Q:Unit->db->Prop}(hu:A.units+1<CH)(I:Inv X pins σ H s)(g:DPut H a y v H')(ry:RelV y u)(rv:RelV v r)(h:∀s',Inv X pins σ H' s'->Q () s') :
  o0 (wn X.prog X.w) A (setItem (.ref a) u r) Q E s:=by
 rcases g with⟨kvs,k,e,ey,l,eH⟩ | ⟨kvs,k,b,e,ey,eb,l,eH⟩
 ·subst ey eH;obtain⟨z,hd,vs,rel,dd⟩:=yN I.hok e;have hz:vs.length<=xz:=by rw[<- rel.length];exact z
  have hl:(putK kvs k v).length<=xz:=by have:=gB kvs k v;omega
  refine wpAny_setItem_pairs (hsz:=hz) (sS ry) dd λh' dd' hs=>h _ ?_;have he:∃q,h'.get? a=some q:=let ⟨q,_,_,hq,_⟩:=dd';⟨q,hq⟩;exact oQ I (by rw[e];exact True.intro) hs he (vI hl hd (rel.put k rv) dd')
 ·subst ey eH;cases (show u=Value.ref b from ry)
  obtain⟨z,hd,xs,rel,dd⟩:=zr I.hok e;have hz:xs.length<=xz:=by rw[<- Dm rel];exact z
  have hl:(putK kvs k v).length<=xz:=by have:=gB kvs k v;omega
  refine wpAny_setItem_heap (hsz:=hz) (D2 hu) (pT I.hok eb) dd λh' dd' hs=>h _ ?_;obtain⟨q,es,ep,hq,h2,h3,h4,_,h5⟩:=dd';refine oQ I (by rw[e];exact True.intro) hs ⟨q,hq⟩ ⟨hl,hd,_,(rel.put k eb rv).keeps λc ys ec=>?_,q,es,ep,hq,h2,h3,h4,h5⟩;rw[aW (wR ec e (λz=>nomatch z))];exact ec
end
def NoSl (i:Expr):Prop:=∀ov iv,DD i false ov iv=GA [ov,iv] (DI ov iv)
theorem wc {prog:wE}{w:z8}{A:zX}{E:bd->db->Prop}{s:db}{env:Env}{value slice:Expr}{pos:Pos}{T id:String}{Q:bd->db->Prop}
  (hl:D1 (.type T) "__getitem__" = pure (some (.builtin id))) (hs:NoSl slice)
  (h:o0 (wn prog w) A (eval value env) (λo s₁=>o0 (wn prog w) A (eval slice env) (λi s₂=>s₂.TypeIs o T/\o0 (wn prog w) A (DI o i) Q E s₂) E s₁) E s) :
  o0 (wn prog w) A (eval (.Subscript value slice pos) env) Q E s:=by
 refine EV (z9 h (λo s₁ h₁=>z9 h₁ (λi s₂ h₂=>?_) λ_ _ x=>x) λ_ _ x=>x);obtain⟨hT,h₂⟩:=h₂;unfold DR;refine bn ?_;rw[getitemInPython_of_ne hT.not_modules];refine bn (Dr hT hl ?_);have fin:o0 (wn prog w) A (DD slice false o i) (λr s₃=>o0 (wn prog w) A (letTemporaryGo value o r>>=λ_=>pure r) Q E s₃) E s₂:=by
  rw[hs o i];exact wpAny_operating (z9 h₂ (λr s₃ h₃=>bn (wpAny_letTemporaryGo (ww h₃))) λ_ _ x=>x)
 first
  | exact ww (bn fin)
  | exact bn (ww (bn fin))
  | exact bn fin
theorem oO {X:Cx}{pins:List (Addr×Obj)}{σ:St}{H:Hp}{s:db}{a:Addr}{y:V}{o:Option V}(I:Inv X pins σ H s)(g:DGet H a y o):s.TypeIs (.ref a) "dict" := by
 rcases g with⟨kvs,k,e,_,_⟩ | ⟨kvs,k,b,e,_,_,_⟩
 ·obtain⟨_,_,vs,_,dd⟩:=uX I.hok e;exact dd.typeIs
 ·obtain⟨_,_,xs,_,dd⟩:=uW I.hok e;exact dd.typeIs
def zh (td ty:TE):TE:=λσ H Q=>td σ H λx H1=>ty σ H1 λy H2=>∃a v,x = .ref a/\DGet H2 a y (some v)/\Q v H2
def rM (ty td:TE):TE:=λσ H Q=>ty σ H λy H1=>td σ H1 λx H2=>∃a o,x = .ref a/\DGet H2 a y o/\Q (.bl (!o.isSome)) H2
def xX (td ty tv:TE):TS:=λD σ H=>tv σ H λv H1=>td σ H1 λx H2=>ty σ H2 λy H3=>∃a H4,x = .ref a/\DPut H3 a y v H4/\D.nx σ H4
section
variable {X:Cx}{o i e value:Expr}{pos pos' tpos:Pos}{td ty tv:TE}
theorem jm (hu:X.A.units+1<CH)(ho:PE X o td)(hi:PE X i ty)(hs:NoSl i):PE X (.Subscript o i pos) (zh td ty):=by
 intro pins s σ H Q I h;refine wc PySem.F.slot_dict_getitem.lookup hs (thn (ho pins s σ H _ I h) λu s1 ⟨x,H1,I1,rx,q1⟩=>thn (hi pins s1 σ H1 _ I1 q1) λiv s2 ⟨y,H2,I2,ry,a,v,ex,g,q2⟩=>?_);subst ex;obtain rfl:u=Value.ref a:=rx;exact⟨oO I2 g,tL hu I2 g ry λw' s3 I3 rw'=>⟨v,H2,I3,rw',q2⟩⟩
theorem sC (hu:X.A.units+1<CH)(hi:PE X i ty)(ho:PE X o td):PC X .NotIn i o (rM ty td):=by
 intro pins s σ H Q I h;refine thn (hi pins s σ H _ I h) λiv s1 ⟨y,H1,I1,ry,q1⟩=>thn (ho pins s1 σ H1 _ I1 q1) λu s2 ⟨x,H2,I2,rx,a,ov,ex,g,q2⟩=>?_;subst ex;obtain rfl:u=Value.ref a:=rx;exact xp hu I2 g ry λs3 I3=>⟨.bl (!ov.isSome),H2,I3,rfl,q2⟩
theorem jg (hu:X.A.units+1<CH)(ho:PE X o td)(hi:PE X i ty)(hv:PE X value tv)(hs:Cr value (some (.Subscript o i pos')) pos.line X.env=pure false) :
  PS X (.Assign [.Subscript o i pos'] value pos) (xX td ty tv):=by
 intro pins s σ H D I h;refine wpAny_Assign_Subscript (thn (hv pins s σ H _ I h) λr s1 ⟨v,H1,I1,rv,q1⟩=>thn (ho pins s1 σ H1 _ I1 q1) λu s2 ⟨x,H2,I2,rx,q2⟩=>thn (hi pins s2 σ H2 _ I2 q2) λiv s3 ⟨y,H3,I3,ry,a,H4,ex,g,q3⟩=>?_) hs;subst ex;obtain rfl:u=Value.ref a:=rx;exact tK hu I3 g ry rv λs4 I4=>⟨σ,H4,I4,q3⟩
end
theorem p7 {P:wE}{w:z8}{H:Hp}(h:Heap)(hb:BV<h.objs.size):cw P w H (h.push {cls:=.type "dict",data:=.dict #[]}) h.objs.size (.dK []) :=
 ⟨zS _,beq_eq_false_iff_ne.mpr (AB (zM hb)),[],.nil,Heap.DictOf.new h⟩
def tDNewK:TE:=λ_ H Q=>∀p,H p=none->Q (.ref p) (upd H p (.dK []))
section
variable {X:Cx}{pos:Pos}
theorem uF:PE X (.Dict [] [] pos) tDNewK:=λpins s σ H Q I h =>
 wpAny_Dict_empty ⟨.ref s.heap.objs.size,_,I.laid (a:=s.heap.objs.size) (o:=.dK []) (t':=s.toks) (λ_ _ q=>dL _ q) (lm _) (p7 s.heap I.big),rfl,h _ (I.hok.fresh (lm _))⟩
end
def rL:List (TE×TE)->St->Hp->(List (V×V)->Hp->Prop)->Prop
 | [],_,H,Q=>Q [] H
 | (tk,tv)::r,σ,H,Q=>tk σ H λx H1=>tv σ H1 λy H2=>rL r σ H2 λps H3=>Q ((x,y)::ps) H3
abbrev VV:List (V×V)->List (bd×bd)->Prop:=EY λp q=>RelV p.1 q.1/\RelV p.2 q.2
def PPs (X:Cx)(pos:Pos)(keys:List (Option Expr))(values:List Expr)(trs:List (TE×TE)):Prop :=
 ∀(pins:List (Addr×Obj)) (s:db) (σ:St) (H:Hp) (Q:List (V×V)->Hp->Prop),Inv X pins σ H s->rL trs σ H Q ->
  o0 (wn X.prog X.w) X.A (evalPairs (pairTrees keys values X.env pos)) (λvs s'=>∃ps H',Inv X pins σ H' s'/\VV ps vs/\Q ps H') X.xe s
theorem wA {X:Cx}{pos:Pos}:PPs X pos [] [] []:=λpins s σ H Q I h=>pairTrees_nil_walk ⟨[],H,I,.nil,h⟩
theorem lh {X:Cx}{pos:Pos}{k v:Expr}{ks:List (Option Expr)}{vs:List Expr}{tk tv:TE}{trs:List (TE×TE)}(hk:PE X k tk)(hv:PE X v tv)(hr:PPs X pos ks vs trs) :
  PPs X pos (some k::ks) (v::vs) ((tk,tv)::trs):=λpins s σ H Q I h =>
 pairTrees_cons_walk (thn (hk pins s σ H _ I h) λu s1 ⟨x,H1,I1,rx,q1⟩=>thn (hv pins s1 σ H1 _ I1 q1) λw2 s2 ⟨y,H2,I2,ry,q2⟩ =>
  thn (hr pins s2 σ H2 _ I2 q2) λws s3 ⟨ps,H3,I3,rel,q3⟩=>⟨(x,y)::ps,H3,I3,.cons ⟨rx,ry⟩ rel,q3⟩)
def jz (kvs more:List (Key×V)):List (Key×V):=more.foldl (λacc kv=>putK acc kv.1 kv.2) kvs
theorem KV.merge:∀ {more:List (Key×V)} {rs:List (Key×bd)} {kvs:List (Key×V)} {vs:List (Key×bd)},KV more rs->KV kvs vs->KV (jz kvs more) (merged vs rs):=by
 intro more rs kvs vs r;unfold KV at r;induction r generalizing kvs vs with
 | nil=>intro q;exact q
 | @cons p q ps qs h t ih =>
  intro r0;have e:KV (putK kvs p.1 p.2) (stored vs q.1 q.2):=by
   have:=r0.put p.1 h.2;rw[<- h.1];exact this
  exact ih e
theorem g0:∀(more kvs:List (Key×V)),(jz kvs more).length<=kvs.length+more.length
 | [],kvs=>by show kvs.length<=kvs.length+0;omega
 | p::r,kvs=>by
  have h1:=g0 r (putK kvs p.1 p.2);have h2:=gB kvs p.1 p.2;show(jz (putK kvs p.1 p.2) r).length<=_;rw[zK];omega
theorem kK {P:wE}{w:z8}:∀ {kvs:List (Key×V)} {ws:List (bd×bd)},VV (kvs.map λkv=>(kV kv.1,kv.2)) ws->∃rs,Carries (cu P w) ws rs/\KV kvs rs
 | [],_,r=>by rw[BP]at r;cases r;exact⟨[],True.intro,.nil⟩
 | p::kvs,_,r=>by
  rw[wl]at r;cases r with
  | @cons a b as bs h t =>
   obtain⟨rs,c,q⟩:=kK (P:=P) (w:=w) t;obtain⟨b1,b2⟩:=b;exact⟨(p.1,b2)::rs,⟨sS h.1,rfl,c⟩,.cons ⟨rfl,h.2⟩ q⟩
def zg (trs:List (TE×TE)):TE:=λσ H Q=>∀p,H p=none->rL trs σ (upd H p (.dK [])) λps H2=>H2 p=some (.dK [])/\∃kvs:List (Key×V),ps=kvs.map (λkv=>(kV kv.1,kv.2))/\kvs.length<=15/\Q (.ref p) (upd H2 p (.dK (jz [] kvs)))
theorem wF {X:Cx}{pos:Pos}{keys:List (Option Expr)}{values:List Expr}{trs:List (TE×TE)}(h:PPs X pos keys values trs)(hall:keys.all (·.isSome)=true)(hl:keys.length=values.length)(h0:keys≠[])
  (h15:keys.length<=15):PE X (.Dict keys values pos) (zg trs):=by
 intro pins s σ H Q I q;have hn:=I.hok.fresh (lm s.heap.objs.size);have I1:=I.laid (a:=s.heap.objs.size) (o:=.dK []) (h':=s.heap.push {cls:=.type "dict",data:=.dict #[]}) (t':=s.toks) (λ_ _ q=>dL _ q) (lm _) (p7 s.heap I.big);refine wpAny_Dict_walk (knd:=cu X.prog X.w) hall hl h0 h15 (thn (h pins _ σ _ _ I1 (q _ hn)) λws s2 ⟨ps,H2,I2,rel,e,kvs,ep,lk,q2⟩=>?_);subst ep;obtain⟨rs,c,rk⟩:=kK (P:=X.prog) (w:=X.w) rel;obtain⟨z,hd,vs0,r0,dd⟩:=yN I2.hok e;cases r0
 refine⟨rs,c,dd,λh' dd' hs=>⟨.ref s.heap.objs.size,_,?_,rfl,q2⟩⟩;have hz:(jz [] kvs).length<=xz:=by
  have h1:=g0 kvs [];rw[Co]at h1;rw[Bw];omega
 have he:∃q,h'.get? s.heap.objs.size=some q:=let ⟨q,_,_,hq,_⟩:=dd';⟨q,hq⟩;exact oQ I2 (by rw[e];exact True.intro) hs he (vI hz hd (rk.merge .nil) dd')
end L2
namespace Att
open PySem PySem.W PySem.Calls PyProof.Rows
theorem jD {P:Params}{h:Heap}:∀(ns:List Int) (vs:List bd),WellAll P h vs (ns.map WData.int)->FR vs ns:=by
 intro ns;induction ns with
 | nil =>
  intro vs w;rw[BP]at w;cases w
  exact .nil
 | cons n ns ih =>
  intro vs w;rw[wl]at w;cases w with
  | cons a b =>
   cases a
   exact .cons _ _ (ih _ b)
theorem rX {l:Fy}{n:Nat}(hn:l.most=some n){P:Params}{h:Heap}{args:List WData}{vals:List bd}
  (hpre:l.row.toRowW.claim.pre args=true) (hwl:WellAll P h vals args) :
  ∃a vs ns,vals=[Value.ref a]/\args=[WData.list (ns.map WData.int)]/\h.get? a=some {cls:=.type "list",data:=.seq vs.toArray}/\FR vs ns/\ns.length<=n:=by
 have hsh:WShape.hasAll [] args [.list .int]=true:=(pre_splitW hpre).1;have hc:l.pre.holds [] {args:=args}=true:=(pre_splitW hpre).2;obtain⟨d,r,rfl,h1,h2⟩:=hasAllW_cons hsh;obtain rfl:=hasAllW_nil h2;obtain⟨xs,rfl,h3⟩:=hasW_list h1;obtain⟨ns,rfl⟩:=items_int h3;have hlen:ns.length<=n:=by
  unfold OpenLaw.pre at hc;have h4:(WTm.not (.lt (.lit (.int (n:Int))) (.len (.arg 0)))).holds [] {args:=[.list (ns.map .int)]}=true:=by
   have h4:=(holds_andW hc).1;rw[hn]at h4;exact h4
  have h5:=condW_of h4 (w_not (w_lt w_lit (w_len_list (w_arg rfl))));rw[im]at h5;refine Nat.le_of_not_lt λq=>?_;have q':(n:Int)<((ns.length:Nat):Int):=by omega
  first
   | (rw[decide_eq_true q']at h5;exact absurd h5 (by decide))
   | (simp at h5;omega)
 cases hwl with
 | cons w1 w2 =>
  cases w2
  cases w1 with
  | list ho hall=>exact⟨_,_,ns,rfl,rfl,ho,jD ns _ hall,hlen⟩
theorem sx (l:Fy)(args:List WData):l.row.toRowW.claim.post args (.bool true) args=true :=
 postW_of (r:=l.row.toRowW) (X:=(true==true))
  (show GG [] (.bool true) .bool=true by first | rfl | decide | simp[GG,WShape.arms,WShape.armsAll])
  (show(WTm.eq .res (.lit (.bool true))).value [] {args:=args,res:=some (.bool true),after:=args}=some (.bool (true==true))from w_eq_bool (w_res rfl) w_lit) rfl
theorem attach_call {l:Fy}{n:Nat}{q:wE}{loose:List Str}{XP:(Str->Option bd)->Heap->Prop}{YP:z8->Heap->Prop}{d:DefRec}
  (hn:l.most=some n) (hdf:d.params.defaults=[])
  (call:∀(w:z8) (s₀ s₁:db) (mg mb:Str->Option bd) (fa:Addr) (o:Obj) (pm cd doc:bd) (a:Addr) (vs:List bd) (ns:List Int),
   Ground q loose [] XP w s₀ mg mb s₁.heap->YP w s₁.heap ->
   s₁.heap.get? fa=some o->o.data = .func (docDef d.name d.params d.body d.scope pm cd doc)->s₁.heap.CodeRec cd d.name->mg d.name=some (.ref fa) ->
   s₁.heap.get? a=some {cls:=.type "list",data:=.seq vs.toArray}->FR vs ns->ns.length<=n->s₁.gens = #[] ->
   CB (wn l.prog w) DJ (.call (.ref fa) ⟨[.ref a],[]⟩) (λr s'=>r = .ok (.ret (.bool true))/\OldK s₁.heap s'.heap/\s'.os=s₁.os/\C3 s'.gens) s₁) :
  F1 q loose XP YP l.row.toRowW d [] (λf vs=>Fi f vs):=by
 intro w s₀ s₁ mg mb G Y fa o pm cd doc dV kV ho hd hcd hD hmg hg args vals as hpre hlay hrd hwl hlo;obtain rfl:dV = .none:=Dflts.none hD hdf;obtain rfl:kV = .none:=Dflts.noKw hD;obtain⟨a,vs,ns,rfl,rfl,hobj,hints,hlen⟩:=rX hn hpre hwl;refine enter_call (Dj (call w s₀ s₁ mg mb fa o pm cd doc a vs ns G Y ho (fd_plain hd) hcd hmg hobj hints hlen hg) λr s' hq=>?_);obtain⟨rfl,h2,h3,h4⟩:=hq;exact⟨.inl ⟨.bool true,.bool true,[],rfl,λ_=>rfl,.bool true,sx l _,λ_=>⟨List.Pairwise.nil,λ_ hm=>(nomatch hm)⟩⟩,h2,h3,h4⟩
end Att
namespace L2
open PySem PySem.Spec PyProof.Rows
theorem l5:∀ {vs:List bd} {ns:List Int},FR vs ns->Vals (ns.map V.int) vs
 | _,_,.nil=>.nil
 | _,_,.cons n t h=>.cons ⟨t,rfl⟩ (l5 h)
def Only (H:Hp):Prop:=∀b,H b=none ∨ ∃o xs,H b=some (.frz o (.lst xs))
theorem uL {P:wE}{w:z8}{K:ac}{mg mb:Str->Option bd}{CX:CXT}{k:Nat}{fa a:Addr}{fd:B4}{x:Str}{sp:Sp}{s₁:db}{vs:List bd}{ns:List Int}
  (KX:K.In s₁.heap) (hns:s₁.heap.Ns zN mg) (hb:s₁.heap.Ns Gp mb) (hbb:∀x:Str,x ≠ "__name__" -> mb x=Ar x) (hlim:s₁.heap.NoLimit) (hg:s₁.gens = #[])
  (ha:s₁.heap.get? a=some {cls:=.type "list",data:=.seq vs.toArray}) (hi:FR vs ns) (hl:ns.length<=xz) (hr:Room k DJ)
  (F:∀base:Heap,K.In base->base.Ns zN mg->FnOk P w K mg base CX k fa fd [x] sp) (hbind:∀(s:db) (u:bd),EN s fd ⟨[u],[]⟩ [(x,u)])
  (hsp:∀H:Hp,Only H->SqL K H a (ns.map V.int)->sp [.ref a] H (λv _=>v = .bl true) λ_ _ _=>False)
  (hCX:∀H e s',CX [] H s₁ (λ_ _ _=>False) e s'->False) :
  CB (wn P w) DJ (.call (.ref fa) ⟨[.ref a],[]⟩) (λr s'=>r = .ok (.ret (.bool true))/\OldK s₁.heap s'.heap/\s'.os=s₁.os/\C3 s'.gens) s₁:=by
 have rv:=l5 hi;have lenV:=hi.length;have core:∀H:Hp,Only H->SqL K H a (ns.map V.int)->HOk P w H s₁.heap->(∀b,H b≠none->b=a)->(H a≠none->K.lookup a=none) ->
   CB (wn P w) DJ (.call (.ref fa) ⟨[.ref a],[]⟩) (λr s'=>r = .ok (.ret (.bool true))/\OldK s₁.heap s'.heap/\s'.os=s₁.os/\C3 s'.gens) s₁:=by
  intro H hO hS hok hA hK;have base_of:∀ {b:Addr} {o:Obj},s₁.heap.get? b=some o->H b=none->(hidT s₁.heap H).get? b=some o:=λe n=>uR e n;have noA:∀ {b:Addr} {o:Obj} {es:Array DictEntry} {ep:Nat},s₁.heap.get? b=some o->o.data = .dict es ep->H b=none:=λ{b o es ep} e d=>by
   cases q:H b with
   | none=>rfl
   | some u =>
    have e':b=a:=hA b (by rw[q];simp);subst e';rw[ha]at e;cases e;have d':Data.seq vs.toArray _=Data.dict es ep:=d;cases d'
  have nsK:∀ {b:Addr} {m:Str->Option bd},s₁.heap.Ns b m->(hidT s₁.heap H).Ns b m:=λ{b m} ⟨o,es,ep,e,d,r⟩=>⟨o,es,ep,base_of e (noA e d),d,r⟩
  have hKb:K.In (hidT s₁.heap H):=λb o e=>base_of (KX b o e) (by
   cases q:H b with
   | none=>rfl
   | some u =>
    have e':b=a:=hA b (by rw[q];simp);subst e';rw[hK (by rw[q];simp)]at e;cases e)
  have hM:Mod K mg (hidT s₁.heap H):=⟨hKb,nsK hns,⟨mb,nsK hb,hbb⟩,let ⟨mc,h1,h2⟩:=hlim;⟨mc,nsK h1,h2⟩⟩
  have e0:Env0 P w K mg (hidT s₁.heap H) DJ [] s₁ H:=⟨rfl,hM,λb o e=>wM e,E2 (sZ _ _),trivial,λb hb=>absurd (show b∈([]:List Addr)from hb) (by simp),hok,.of_eq hg⟩
  refine Dj ((F _ hKb (nsK hns)).run DJ [] s₁ H ⟨[.ref a],[]⟩ [.ref a] [.ref a] _ _ hr e0 (hbind s₁ (.ref a)) (.cons rfl .nil) (hsp H hO hS)) λr s' h=>?_;cases r with
  | error e=>exact(hCX H e s' h).elim
  | ok fl =>
   cases fl with
   | next=>exact zZ h
   | brk=>exact zZ h
   | cont=>exact zZ h
   | ret u =>
    obtain⟨v,H',os,bare,un,hok',r',q⟩:=h;have q':v = .bl true:=q;subst q';obtain rfl:u=Value.bool true:=r';refine⟨rfl,OldK.of_keep λb o e=>?_,os,bare⟩;cases q:H b with
    | none=>exact un.keep b o e q (by intro z;exact absurd (show b∈([]:List Addr)from z) (by simp)) (by simp)
    | some u =>
     rcases hO b with z | ⟨ob,xs,z⟩
     ·rw[q]at z;cases z
     ·have z2:=un.frzs b ob _ z;obtain⟨e1,_⟩:=hok b _ z;obtain⟨e2,_⟩:=hok' b _ z2;rw[e]at e1;cases e1;exact e2
 cases hk:K.lookup a with
 | some o =>
  have e:=KX a o hk;rw[ha]at e;cases e
  refine core (λ_=>none) (λ_=>.inl rfl) (.inr ⟨_,vs.toArray,_,hk,rfl,rfl,rfl,by rw[li,lenV];exact hl,by simpa using rv⟩) (λb u z=>by have z':(none:Option HO)=some u:=z;cases z') (λb z=>absurd rfl z) λz=>absurd rfl z
 | none =>
  refine core (λb=>if b=a then some (.frz {cls:=.type "list",data:=.seq vs.toArray} (.lst (ns.map V.int)))else none) (λb=>?_) (.inl (.inr ⟨{cls:=.type "list",data:=.seq vs.toArray},if_pos rfl⟩)) (λb u z=>?_) (λb z=>?_) λ_=>hk
  ·by_cases hb:b=a
   ·exact .inr ⟨_,_,if_pos hb⟩
   ·exact .inl (if_neg hb)
  ·by_cases hb:b=a
   ·have z':=(if_pos hb).symm.trans z;cases z'
    subst hb;exact⟨ha,by rw[im];exact hl,vs,_,rv,ha⟩
   ·have z':=(if_neg hb).symm.trans z;cases z'
  ·by_cases hb:b=a
   ·exact hb
   ·exact absurd (if_neg hb) z
abbrev KOf {K:ac}{h:Heap}(_:K.In h):ac:=K
theorem vR {l:Fy}{n k:Nat}{q:wE}{loose:List Str}{XP:(Str->Option bd)->Heap->Prop}{YP:z8->Heap->Prop}{d:DefRec}{K:Params->ac}{CX:z8->CXT}{sp:z8->Sp}{x:Str}
  (hn:l.most=some n) (hn2:n<=xz) (hdf:d.params.defaults=[]) (hr:Room k DJ)
  (hY:∀(w:z8) (h:Heap),YP w h->(K w.params).In h)
  (F:∀(w:z8) (mg:Str->Option bd) (fa:Addr) (h:Heap),(K w.params).In h->h.Ns zN mg->mg d.name=some (.ref fa) ->
   ∃fd:B4,(∀(s:db) (u:bd),EN s fd ⟨[u],[]⟩ [(x,u)]) /\
    ∀base:Heap,(K w.params).In base->base.Ns zN mg->FnOk l.prog w (K w.params) mg base (CX w) k fa fd [x] (sp w))
  (hsp:∀(w:z8) (H:Hp) (a:Addr) (ns:List Int),ns.length<=n->Only H->SqL (K w.params) H a (ns.map V.int)->sp w [.ref a] H (λv _=>v = .bl true) λ_ _ _=>False)
  (hCX:∀(w:z8) (H:Hp) (s:db) (e:bd) (s':db),CX w [] H s (λ_ _ _=>False) e s'->False) :
  F1 q loose XP YP l.row.toRowW d [] (λf vs=>Fi f vs):=by
 refine Att.attach_call hn hdf λw s₀ s₁ mg mb fa o pm cd doc a vs ns G Y ho hd hcd hmg hobj hints hlen hg=>?_;have KX:=hY w _ Y;obtain⟨fd,hb,hF⟩:=F w mg fa _ KX G.T.g hmg;exact uL KX G.T.g G.T.b G.T.builtins G.T.nolimit hg hobj hints (zQ hlen hn2) hr hF hb (λH hO hS=>hsp w H a ns hlen hO hS) λH e s'=>hCX w H s₁ e s'
theorem uj {l:Fy}{n k:Nat}{q:wE}{loose:List Str}{XP:(Str->Option bd)->Heap->Prop}{YP:z8->Heap->Prop}{d:DefRec}{K:Params->ac}{CX:CXT}{sp:ac->Sp}{x:Str}
  (hn:l.most=some n) (hn2:n<=xz) (hdf:d.params.defaults=[]) (hr:Room k DJ)
  (hY:∀(w:z8) (h:Heap),YP w h->(K w.params).In h)
  (F:∀(w:z8) (mg:Str->Option bd) (fa:Addr) (h:Heap),(K w.params).In h->h.Ns zN mg->mg d.name=some (.ref fa) ->
   ∃fd:B4,(∀(s:db) (u:bd),EN s fd ⟨[u],[]⟩ [(x,u)]) /\
    ∀base:Heap,(K w.params).In base->base.Ns zN mg->FnOk l.prog w (K w.params) mg base CX k fa fd [x] (sp (K w.params)))
  (hsp:∀(K:ac) (H:Hp) (a:Addr) (ns:List Int),ns.length<=n->Only H->SqL K H a (ns.map V.int)->sp K [.ref a] H (λv _=>v = .bl true) λ_ _ _=>False)
  (hCX:∀(H:Hp) (s:db) (e:bd) (s':db),CX [] H s (λ_ _ _=>False) e s'->False) :
  F1 q loose XP YP l.row.toRowW d [] (λf vs=>Fi f vs) :=
 vR (K:=K) (CX:=λ_=>CX) (sp:=λw=>sp (K w.params)) hn hn2 hdf hr hY F (λw H a ns h1 h2 h3=>hsp (K w.params) H a ns h1 h2 h3) λ_ H s e s'=>hCX H s e s'
def eO (s:Stmt):Arguments:=match s with
 | .FunctionDef _ a _ _ _ _ _ _ _ _=>a
 | _=>{posonlyargs:=[],args:=[],vararg:=none,kwonlyargs:=[],kw_defaults:=[],kwarg:=none,defaults:=[]}
def cv (s:Stmt):List Stmt:=match s with
 | .FunctionDef _ _ b _ _ _ _ _ _ _=>b
 | _=>[]
def aI (s:Stmt):AC:=match s with
 | .FunctionDef _ _ _ _ _ _ sc _ _ _=>sc
 | _=>{kind:=.function,names:=[],isGenerator:=false,isCoroutine:=false}
abbrev CX0:CXT:=λ_ _ _ _ _ _=>False
abbrev E0:XK:=λ_ _ _=>False
theorem zk {X:Cx}:jS CX0 X E0:=λ_ _ _ _ _ _ _ h=>h.elim
structure Fun (K:ac)(x qual:Str)(st:Stmt)(f:Addr)(fd:B4):Prop where
 ex:∃(oc:bd) (od:Option Addr) (kV doc pm:bd) (an:Option Addr) (cdv ct:bd) (osl:Array (Option bd)),
  fd=Be x qual (eO st) (cv st) (aI st) .none kV doc pm an cdv ct/\K.lookup f=some ⟨oc,od,.func fd,osl⟩/\BK K cdv qual=true
 kp:Bi K (.ref f)=true
section
variable {P:wE}{w:z8}{K:ac}{mg:Str->Option bd}{base:Heap}
theorem Fun.ok {x qual:Str}{st:Stmt}{f:Addr}{fd:B4}{N ps:List Str}{k:Nat}{sp:Sp}(F:Fun K x qual st f fd)(S:bw N ps (aI st))(len:∀vs H Q E,sp vs H Q E->vs.length=ps.length)
  (hbody:∀(cdv:bd) (A:zX) (outer:List Env) (s:db) (H:Hp) (vs:List V) (Q:VK) (E:XK),Room k (A.deeper (Ct qual (aI st) s.heap.objs.size f cdv))->sp vs H Q E ->
   ∃t,PSs (cxOf CX0 P w K mg base N qual (aI st) f cdv A outer s H E).nox (cv st) t/\t {nx:=λ_ H'=>Q .non H',rt:=Q} (iI N vs) H):FnOk P w K mg base CX0 (k+1) f fd ps sp:=by
 obtain⟨oc,od,kV,doc,pm,an,cdv,ct,osl,rfl,lk,hcd⟩:=F.ex;refine yL lk hcd S len λA outer s H vs Q E hr hsp=>?_;obtain⟨t,h,q⟩:=hbody cdv A outer s H vs Q E hr hsp;exact⟨t,h.nox,q⟩
theorem vF {x qual:Str}{st:Stmt}{f:Addr}{oc:bd}{od an:Option Addr}{osl:Array (Option bd)}{kV doc pm cdv ct:bd}(l:K.lookup f=some ⟨oc,od,.func (Be x qual (eO st) (cv st) (aI st) .none kV doc pm an cdv ct),osl⟩)
  (c:BK K cdv qual=true) (k:Bi K (.ref f)=true):Fun K x qual st f (Be x qual (eO st) (cv st) (aI st) .none kV doc pm an cdv ct):=⟨⟨oc,od,kV,doc,pm,an,cdv,ct,osl,rfl,l,c⟩,k⟩
end
theorem cM {A:zX}{k:Nat}(hr:Room k A):A.units+1<CH:=FP (Nat.add_le_add_left (by decide:1<=64) _) hr.units
theorem gM {n:Nat}(h:n<=1000):n<xz:=FP h (by decide)
section
variable {X:Cx}
theorem pv (i:Nat){x:Str}{pos:Pos}(hN:X.N[i]? = some x:=by rfl)(hv:Vis X.env.scope x:=by first | exact Or.inl rfl | exact Or.inr (Or.inl rfl) | exact Or.inr (Or.inr rfl))(hd:(x==("__debug__" : Str))=false:=by decide)
  (hcd:(x==("__classdict__" : Str))=false:=by decide):PE X (.Name x pos) (tVar i):=yc hN hv hd hcd
end
theorem iteF {A B:Prop}(h:B):if false=true then A else B:=by
 rw[if_neg Ad];exact h
theorem iteT {A B:Prop}(h:A):if true=true then A else B:=by
 rw[if_pos rfl];exact h
theorem ite2 {c A B:Prop} [Decidable c](h1:c->A)(h2:¬c->B):if c then A else B:=by
 by_cases h:c
 ·rw[if_pos h];exact h1 h
 ·rw[if_neg h];exact h2 h
def Same (H H':Hp):Prop:=∀b o,H b=some o->H' b=some o
theorem Same.refl (H:Hp):Same H H:=λ_ _ h=>h
theorem Same.trans {H H1 H2:Hp}(a:Same H H1)(b:Same H1 H2):Same H H2:=λc o h=>b c o (a c o h)
theorem Same.free {H H':Hp}(e:Same H H'){l:Addr}(h:H' l=Option.none):H l=Option.none:=by
 cases q:H l with
 | none=>rfl
 | some o =>
  rw[e l o q]at h;cases h
theorem Same.seq {K:ac}{H H':Hp}{a:Addr}{xs:List V}(e:Same H H')(h:SqL K H a xs):SqL K H' a xs:=by
 rcases h with(h | ⟨o,h⟩) | h
 ·exact .inl (.inl (e _ _ h))
 ·exact .inl (.inr ⟨o,e _ _ h⟩)
 ·exact .inr h
def fK (cells:List (Str×Addr)):List (Str×Bm)->List (Str×Addr)->List (Str×Addr)
 | [],cs=>cs
 | (n,k)::r,cs=>fK cells r (if k == .free then(match cells.lookup n with | some c=>(n,c)::cs | none=>cs)else cs)
def fg (scope:AC)(env:Env):List (Str×Addr):=fK env.cells scope.names []
theorem q0 (env:Env):∀(names:List (Str×Bm)) (cs:List (Str×Addr)),(∀x∈names,x.2 = .free->∃c,env.cells.lookup x.1=some c) ->
  (forIn names cs λ(x:Str×Bm) (r:List (Str×Addr))=>(if(x.2 == .free)=true then(do let a <- Gn env x.1;pure (ForInStep.yield ((x.1,a)::r)))else pure (ForInStep.yield r):Sem (ForInStep (List (Str×Addr)))))=pure (fK env.cells names cs):=by
 intro names;induction names with
 | nil=>intro cs _;rfl
 | cons x r ih =>
  intro cs h;obtain⟨n,k⟩:=x;rw[List.forIn_cons];have hr:∀y∈r,y.2 = .free->∃c,env.cells.lookup y.1=some c:=λy hy=>h y (zO _ hy);unfold fK;by_cases hk:k = .free
  ·subst hk;obtain⟨c,hc⟩:=h (n,.free) z7 rfl;have e:Gn env n=pure c:=by unfold Gn;rw[hc]
   rw[if_pos (show(NameKind.free==NameKind.free)=true from rfl),if_pos (show(NameKind.free==NameKind.free)=true from rfl),hc];show(Gn env n>>=λa=>_)>>=_=_;rw[e];exact ih _ hr
  ·have hb:(k==NameKind.free)=false:=by simpa using hk
   rw[if_neg (show ¬(k==NameKind.free)=true by rw[hb];exact Ad),if_neg (show ¬(k==NameKind.free)=true by rw[hb];exact Ad)];exact ih _ hr
theorem eU {scope:AC}{env:Env}(h:∀x∈scope.names,x.2 = .free->∃c,env.cells.lookup x.1=some c):D3 scope env=pure (fg scope env):=by
 have run:=q0 env scope.names [] h;unfold D3 fg;have e:(forIn scope.names ([]:List (Str×Addr)) λ(x:Str×Bm) (r:List (Str×Addr))=>(match x with
   | (name,kind)=>if(kind==NameKind.free)=true then(do let a <- Gn env name;pure (ForInStep.yield ((name,a)::r)))else pure (ForInStep.yield r):Sem (ForInStep (List (Str×Addr)))))=pure (fK env.cells scope.names []):=run
 show(forIn scope.names ([]:List (Str×Addr)) _>>=λcs=>pure cs)=_;exact(congrArg (λm:Sem (List (Str×Addr))=>m>>=λcs=>pure cs) e)
theorem kG (cells:List (Str×Addr)):∀(names:List (Str×Bm)) (cs:List (Str×Addr)),(∀p∈cs,cells.lookup p.1=some p.2)->∀p∈fK cells names cs,cells.lookup p.1=some p.2
 | [],cs,h=>h
 | (n,k)::r,cs,h=>by
  unfold fK;refine kG cells r _ λp hp=>?_;by_cases hk:(k==NameKind.free)=true
  ·rw[if_pos hk]at hp;cases e:cells.lookup n with
   | none=>rw[e]at hp;exact h p hp
   | some c =>
    rw[e]at hp;rcases wS.mp hp with rfl | hp
    ·exact e
    ·exact h p hp
  ·rw[if_neg hk]at hp;exact h p hp
theorem kF {scope:AC}{env:Env}{x:Str}{c:Addr}(h:(fg scope env).lookup x=some c):env.cells.lookup x=some c :=
 kG env.cells scope.names [] (λ_ z=>nomatch z) (x,c) (z_ h)
theorem du {cs:List (Str×Addr)}{x:Str}{c:Addr}(h:(x,c)∈cs):∃d,cs.lookup x=some d:=by
 induction cs with
 | nil=>cases h
 | cons p r ih =>
  obtain⟨y,d⟩:=p;by_cases e:x==y
  ·exact⟨d,by rw[AX,e]⟩
  ·rcases wS.mp h with z | z
   ·cases z;simp at e
   ·obtain⟨d',q⟩:=ih z;exact⟨d',by simp only[Bool.not_eq_true]at e;rw[AX,e];exact q⟩
theorem jK (cells:List (Str×Addr)):∀(names:List (Str×Bm)) (cs:List (Str×Addr)) (p:Str×Addr),p∈cs->p∈fK cells names cs
 | [],_,_,h=>h
 | (n,k)::r,cs,p,h=>by
  unfold fK;refine jK cells r _ p ?_;split
  ·split
   ·exact zO _ h
   ·exact h
  ·exact h
theorem kH (cells:List (Str×Addr)){x:Str}{c:Addr}(hc:cells.lookup x=some c):∀(names:List (Str×Bm)) (cs:List (Str×Addr)),(x,NameKind.free)∈names->(x,c)∈fK cells names cs
 | [],_,h=>nomatch h
 | (n,k)::r,cs,h=>by
  unfold fK;rcases wS.mp h with z | z
  ·cases z
   refine jK cells r _ _ ?_;rw[if_pos (show(NameKind.free==NameKind.free)=true from rfl),hc];exact z7
  ·exact kH cells hc r _ z
theorem qZ {scope:AC}{env:Env}{x:Str}{c:Addr}(h:(x,NameKind.free)∈scope.names)(hc:env.cells.lookup x=some c):(fg scope env).lookup x=some c:=by
 obtain⟨d,e⟩:=du (kH env.cells hc scope.names [] h);have e':(fg scope env).lookup x=some d:=e;rw[e',<- kF e',hc]
def blk (X:Cx)(scope:AC)(N:List Str)(s:db)(H:Hp)(C:Addr)(fp:List Addr):Cx where
 prog:=X.prog
 w:=X.w
 K:=X.K
 mg:=X.mg
 base:=X.base
 A:=X.A
 N:=N
 s₀:=s
 H₀:=H
 env:=F7 scope (fg scope X.env) C X.env
 outer:=X.stack
 stack:=X.stack
 ex:=fp
 fn:=λ_=>false
 calm:=X.calm
 pn:=[]
 xe:=λ_ _=>False
def capt (σ:St)(js:List Nat):St:=js.map λj=>(σ[j]?).getD none
def capN (N:List Str)(js:List Nat):List Str:=js.map λj=>(N[j]?).getD ""
def bst (n:Nat)(σ:St)(js:List Nat):St:=pp n none++capt σ js
theorem jP {n:Nat}{σ:St}{js:List Nat}:(bst n σ js).length=n+js.length:=by unfold bst capt;simp
section
variable {P:wE}{w:z8}{A:zX}{R:FL->db->Prop}{s:db}
theorem oU {elt tg iter:Expr}{ifs:List Expr}{scope:AC}{pos:Pos}{it acc:bd}{env:Env}(J:Nat->db->Prop)
  (turn:∀n s,J n s->o0 (wn P w) A (DE it) (λr s1=>match r with
   | none=>R (.ok .next) s1
   | some v=>o0 (wn P w) A (CN tg it v) (λ_ s2=>o0 (wn P w) A (C6 tg env v) (λ_ s3 =>
     o0 (wn P w) A (forIn ifs true λc r=>if r=true then do let ok <- ER c env (eval c env);pure (ForInStep.yield ok)else pure (ForInStep.yield r)) (λok s4 =>
      if ok=true then o0 (wn P w) A (eval elt env) (λx s5=>o0 (wn P w) A (call (.builtin "list.append") [acc,x]) (λ_ s6=>∃m,m<n/\J m s6) (λ_ _=>False) s5) (λ_ _=>False) s4
      else ∃m,m<n/\J m s4) (λ_ _=>False) s3) (λ_ _=>False) s2) (λ_ _=>False) s1) (λ_ _=>False) s)
  (n:Nat) (h:J n s):CB (wn P w) A (.compLoop (.ListComp elt [⟨tg,iter,ifs,0⟩] scope pos) 0 it acc env) R s:=by
 have no:∀ {α:Type} {t:Sem α} {Q Q':α->db->Prop} {E:bd->db->Prop} {s:db},o0 (wn P w) A t Q (λ_ _=>False) s->(∀a s,Q a s->Q' a s)->o0 (wn P w) A t Q' E s :=
  λh hq=>z9 h hq λ_ _ f=>f.elim
 refine codeAny_loop rfl J (λn s hJ=>?_) n h;show o0 _ A ((compTurn (.ListComp elt [⟨tg,iter,ifs,0⟩] scope pos) 0 it acc env).onRaise (λx=>do Bu x env;GY x)) _ _ s;refine wpAny_noted ?_;rw[compTurn_list];refine bn (B2 (bn (no (turn n s hJ) λr s1 h1=>?_)));cases r with
 | none=>exact ww h1
 | some v =>
  refine bn (no h1 λ_ s2 h2=>bn (no h2 λ_ s3 h3=>bn (no h3 λok s4 h4=>?_)));cases ok with
  | false=>exact ww ⟨rfl,h4⟩
  | true=>exact bn (bn (no h4 λx s5 h5=>bn (no h5 λ_ s6 h6=>ww (ww ⟨rfl,h6⟩))))
end
def PTs (X:Cx)(ifs:List Expr)(t:TT):Prop :=
 ∀(pins:List (Addr×Obj)) (s:db) (σ:St) (H:Hp) (Q:Bool->Hp->Prop),Inv X pins σ H s->t σ H Q ->
  o0 (wn X.prog X.w) X.A (forIn ifs true λc r=>if r=true then do let ok <- ER c X.env (eval c X.env);pure (ForInStep.yield ok)else pure (ForInStep.yield r)) (TP X pins σ Q) X.xe s
def tAll:TT:=λ_ H Q=>Q true H
theorem dZ {X:Cx}:PTs X [] tAll:=λ_ _ _ H _ I h=>GW ⟨H,I,h⟩
theorem nU {X:Cx}{c:Expr}{t:TT}(h:PT X c t):PTs X [c] t:=λpins s σ H Q I hq=>wpAny_tests_one (h pins s σ H Q I hq)
def zc (J:It)(n:Nat)(js:List Nat)(g:TG)(tc:TT)(te:TE)(Q:VK)(σ:St)(H1:Hp):Prop:=∃W:Nat->Nat->List V->Hp->Prop,(∃m,W 0 m [] H1)/\∀i m ys H,W i m ys H ->
 (J.stop i H/\ys.length<=xz/\∀l,H l=none->Q (.ref l) (upd H l (.lst ys))) ∨
 (J.go i H/\ys.length<xz/\∃N:List V->Hp->Prop,(∀zs H',N zs H'->∃m',m'<m/\W (i+1) m' zs H')/\∀x H',J.yld i H x H'->g x (bst n σ js) H' λσ2 H2=>σ2.drop n=capt σ js/\tc σ2 H2 λb H3 =>
  if b=true then te σ2 H3 λv H4=>N (ys++[v]) H4 else N ys H3)
def l8 (n:Nat)(js:List Nat)(wi:TI)(g:TG)(tc:TT)(te:TE):TE:=λσ H Q=>wi σ H λJ H1=>zc J n js g tc te Q σ H1
section
variable {X:Cx}
structure Blk (X:Cx)(scope:AC)(own:List Str)(js:List Nat):Prop where
 kind:scope.kind = .function
 nocell:∀y∈scope.names,y.2 ≠ .cell
 names:∀y∈scope.names,y.2 = .local->scope.names.lookup y.1=some .local
 free:∀y∈scope.names,y.2 = .free->X.env.kindOf y.1=some .cell∨X.env.kindOf y.1=some .free
 uniq:∀x,(x,NameKind.free)∈scope.names->scope.names.lookup x=some .free
 nd:(own++capN X.N js).Nodup
 cap:∀j∈js,j<X.N.length/\((X.N[j]?).getD "",NameKind.free)∈scope.names
def blkB (sc:AC)(N:List Str)(scope:AC)(own:List Str)(js:List Nat):Bool :=
 scope.kind == .function&&scope.names.all (λy=>y.2 != .cell)&&scope.names.all (λy=>y.2 != .local||scope.names.lookup y.1==some .local) &&
 scope.names.all (λy=>y.2 != .free||sc.names.lookup y.1==some .cell||sc.names.lookup y.1==some .free)&&scope.names.all (λy=>y.2 != .free||scope.names.lookup y.1==some .free) &&
 decide (own++capN N js).Nodup&&js.all (λj=>decide (j<N.length)&&scope.names.any λy=>y.1==(N[j]?).getD "" && y.2 == .free)
theorem Blk.of {scope:AC}{own:List Str}{js:List Nat}(sc:AC)(N:List Str)(h:blkB sc N scope own js=true:=by decide +kernel)(e1:X.env.scope=sc:=by rfl)(e2:X.N=N:=by rfl):Blk X scope own js:=by
 subst e1 e2;unfold blkB at h;simp only[zY,A8,decide_eq_true_eq,beq_iff_eq]at h;obtain⟨⟨⟨⟨⟨⟨h1,h2⟩,h3⟩,h4⟩,h5⟩,h6⟩,h7⟩:=h;refine⟨h1,λy hy=>by simpa using h2 y hy,λy hy e=>?_,λy hy e=>?_,λx hx=>?_,h6,λj hj=>?_⟩
 ·have:=h3 y hy;simpa [e] using this
 ·have:=h4 y hy;simp only[e,bne_self_eq_false,EB,Eb,beq_iff_eq]at this;exact this
 ·have:=h5 _ hx;simpa using this
 ·obtain⟨a,b⟩:=h7 j hj;refine⟨a,?_⟩;obtain⟨y,hy,e⟩:=DU.mp b;simp only[zY,beq_iff_eq]at e;obtain⟨e1,e2⟩:=e;rw[<- e1,<- e2];exact hy
theorem dc {env:Env}:∀ {names:List (Str×Bm)} {x:Str} {k:Bm},
  (names.map λ(n,k)=>if(k==NameKind.free&&env.scope.kind == .function&&env.kindOf n==some .cell)then(n,NameKind.cell)else(n,k)).lookup x=some k->names.lookup x=some k∨(k = .cell/\names.lookup x=some .free)
 | [],_,_,h=>by simp at h
 | (n,q)::r,x,k,h=>by
  have ih:=@dc env r x k;cases hx:x==n with
  | true =>
   by_cases hc:(q==NameKind.free&&env.scope.kind == .function&&env.kindOf n==some .cell)=true
   ·simp only[wl,if_pos hc,AX,hx]at h;cases h
    simp only[zY,beq_iff_eq]at hc;obtain⟨⟨hq,_⟩,_⟩:=hc;subst hq;exact .inr ⟨rfl,by rw[AX,hx]⟩
   ·simp only[wl,if_neg hc,AX,hx]at h;cases h
    exact .inl (by rw[AX,hx])
  | false =>
   have h':(r.map λ(n,k)=>if(k==NameKind.free&&env.scope.kind == .function&&env.kindOf n==some .cell)then(n,NameKind.cell)else(n,k)).lookup x=some k:=by
    by_cases hc:(q==NameKind.free&&env.scope.kind == .function&&env.kindOf n==some .cell)=true
    ·simp only[wl,if_pos hc,AX,hx]at h;exact h
    ·simp only[wl,if_neg hc,AX,hx]at h;exact h
   rcases ih h' with z | ⟨z,z'⟩
   ·exact .inl (by rw[AX,hx];exact z)
   ·exact .inr ⟨z,by rw[AX,hx];exact z'⟩
theorem cb:∀(names:List (Str×Bm)) (n:Nat) (acc:List (Str×Addr)),Ay n names acc=Ay n names []++acc
 | [],n,acc=>rfl
 | (x,k)::r,n,acc=>by
  unfold Ay;split
  ·rw[cb r (n+1) ((x,n)::acc),cb r (n+1) [(x,n)],DK];rfl
  ·exact cb r n acc
theorem eV:∀(names:List (Str×Bm)) (n:Nat) (acc:List (Str×Addr)) {x:Str} {c:Addr},(x,c)∈Ay n names acc->(x,NameKind.cell)∈names∨(x,c)∈acc
 | [],n,acc,x,c,h=>.inr h
 | (y,k)::r,n,acc,x,c,h=>by
  unfold Ay at h;split at h
  ·rename_i hk;rcases eV r _ _ h with q | q
   ·exact .inl (.tail _ q)
   ·rcases wS.mp q with z | z
    ·cases z
     have:k = .cell:=by simpa using hk
     subst this;exact .inl (.head _)
    ·exact .inr z
  ·rcases eV r _ _ h with q | q
   ·exact .inl (.tail _ q)
   ·exact .inr q
theorem eW:∀(names:List (Str×Bm)) (n:Nat) (acc:List (Str×Addr)) {x:Str},(x,NameKind.cell)∈names->∃c,(x,c)∈Ay n names acc
 | [],n,acc,x,h=>nomatch h
 | (y,k)::r,n,acc,x,h=>by
  unfold Ay;rcases wS.mp h with z | z
  ·cases z
   rw[if_pos (show(NameKind.cell==NameKind.cell)=true from rfl),cb];exact⟨n,Bc.mpr (.inr (.head _))⟩
  ·split
   ·exact eW r _ _ z
   ·exact eW r _ _ z
def fh (scope:AC)(C:Addr)(env:Env):List (Str×Addr):=Ay (C+1) scope.names (fg scope env)
def relS (scope sc:AC):AC :=
 {scope with names:=scope.names.map λ(n,k)=>if(k == .free&&sc.kind == .function&&sc.names.lookup n==some .cell)then(n,.cell)else(n,k)}
def blkC (X:Cx)(scope:AC)(N:List Str)(s:db)(H:Hp)(C:Addr)(fp:List Addr):Cx where
 prog:=X.prog
 w:=X.w
 K:=X.K
 mg:=X.mg
 base:=X.base
 A:=X.A
 N:=N
 s₀:=s
 H₀:=H
 env:=F7 scope (fh scope C X.env) C X.env
 outer:=X.stack
 stack:=X.stack
 ex:=fp
 fn:=λx=>scope.names.lookup x==some .cell
 calm:=X.calm
 pn:=[]
 xe:=λ_ _=>False
end
section
variable {M:Ek}{A:zX}{E:bd->db->Prop}{s:db}
theorem fk {scope:AC}{cl:List (Str×Addr)}{env:Env}{Q:Env->db->Prop}
  (h:Q {scope,locals:=s.heap.objs.size,globals:=env.globals,cells:=Ay (s.heap.objs.size+1) scope.names cl,qual:=env.qual,func:=none,code:=env.code,frame:=env.frame,builtins:=env.builtins}
   {s with heap:=Cs (s.heap.push {cls:=.type "dict",data:=.dict #[]}) scope.names}) :
  o0 M A (DF scope env.globals cl [] env.qual none .none (some env)) Q E s:=by
 simp only[DF,E9,if_true];refine bn (wpAny_alloc ?_);refine bn (wpAny_layCells _ (λname kind cells=>by cases hkc:kind==NameKind.cell <;> simp[hkc]) _ _ _ _ ?_);rw[show({s with heap:=s.heap.push {cls:=.type "dict",data:=.dict #[]}}:db).heap.objs.size=s.heap.objs.size+1 from A2 ..];refine bn ?_;rw[List.forIn_nil];exact ww (ww h)
end
section
variable {X:Cx}
structure BlkC (X:Cx)(scope:AC)(own:List Str)(js:List Nat):Prop where
 kind:scope.kind = .function
 cells:∀y∈scope.names,y.2 = .cell->scope.names.lookup y.1=some .cell
 names:∀y∈scope.names,y.2 = .local->scope.names.lookup y.1=some .local
 free:∀y∈scope.names,y.2 = .free->X.env.kindOf y.1=some .cell∨X.env.kindOf y.1=some .free
 uniq:∀x,(x,NameKind.free)∈scope.names->scope.names.lookup x=some .free
 nd:(own++capN X.N js).Nodup
 cap:∀j∈js,j<X.N.length/\((X.N[j]?).getD "",NameKind.free)∈scope.names
def yW (sc:AC)(N:List Str)(scope:AC)(own:List Str)(js:List Nat):Bool :=
 scope.kind == .function&&scope.names.all (λy=>y.2 != .cell||scope.names.lookup y.1==some .cell)&&scope.names.all (λy=>y.2 != .local||scope.names.lookup y.1==some .local) &&
 scope.names.all (λy=>y.2 != .free||sc.names.lookup y.1==some .cell||sc.names.lookup y.1==some .free)&&scope.names.all (λy=>y.2 != .free||scope.names.lookup y.1==some .free) &&
 decide (own++capN N js).Nodup&&js.all (λj=>decide (j<N.length)&&scope.names.any λy=>y.1==(N[j]?).getD "" && y.2 == .free)
theorem BlkC.of {scope:AC}{own:List Str}{js:List Nat}(sc:AC)(N:List Str)(h:yW sc N scope own js=true:=by decide +kernel)(e1:X.env.scope=sc:=by rfl)(e2:X.N=N:=by rfl):BlkC X scope own js:=by
 subst e1 e2;unfold yW at h;simp only[zY,A8,decide_eq_true_eq,beq_iff_eq]at h;obtain⟨⟨⟨⟨⟨⟨h1,h2⟩,h3⟩,h4⟩,h5⟩,h6⟩,h7⟩:=h;refine⟨h1,λy hy e=>?_,λy hy e=>?_,λy hy e=>?_,λx hx=>?_,h6,λj hj=>?_⟩
 ·have:=h2 y hy;simpa [e] using this
 ·have:=h3 y hy;simpa [e] using this
 ·have:=h4 y hy;simp only[e,bne_self_eq_false,EB,Eb,beq_iff_eq]at this;exact this
 ·have:=h5 _ hx;simpa using this
 ·obtain⟨a,b⟩:=h7 j hj;refine⟨a,?_⟩;obtain⟨y,hy,e⟩:=DU.mp b;simp only[zY,beq_iff_eq]at e;obtain⟨e1,e2⟩:=e;rw[<- e1,<- e2];exact hy
theorem dr {scope:AC}{C:Addr}{env:Env}{x:Str}{c:Addr}(h:(fh scope C env).lookup x=some c):((x,c)∈Ay (C+1) scope.names [])∨env.cells.lookup x=some c:=by
 unfold fh at h;rw[cb,DA]at h;cases e:(Ay (C+1) scope.names []).lookup x with
 | some d=>rw[e]at h;cases h;exact .inl (z_ e)
 | none=>rw[e]at h;exact .inr (kF h)
theorem kI {scope:AC}{C:Addr}{env:Env}{x:Str}(h:(x,NameKind.cell)∈scope.names):∃c,(fh scope C env).lookup x=some c/\(x,c)∈Ay (C+1) scope.names []:=by
 obtain⟨c,hc⟩:=eW scope.names (C+1) [] h;obtain⟨d,hd⟩:=du hc;refine⟨d,?_,z_ hd⟩;unfold fh;rw[cb,DA,hd];rfl
theorem kJ {scope:AC}{C:Addr}{env:Env}{x:Str}{c:Addr}(hn:(x,NameKind.cell)∉scope.names)(h:(x,NameKind.free)∈scope.names)(hc:env.cells.lookup x=some c):(fh scope C env).lookup x=some c:=by
 unfold fh;rw[cb,DA];have:(Ay (C+1) scope.names []).lookup x=none:=by
  cases e:(Ay (C+1) scope.names []).lookup x with
  | none=>rfl
  | some d =>
   rcases eV _ _ _ (z_ e)with q | q
   ·exact(hn q).elim
   ·cases q
 rw[this];exact qZ h hc
theorem qi {scope:AC}{own:List Str}{js:List Nat}{pins:List (Addr×Obj)}{σ:St}{H:Hp}{s:db}{fp:List Addr}{C:Addr}{h1:Heap}{tk:Nat}(B:BlkC X scope own js)(I:Inv X pins σ H s)
  (hfp:∀b∈fp,FpOk X pins H b) (hfo:∀b∈fp,∃o,s.heap.get? b=some o) (hC:s.heap.objs.size<=C) (hns:h1.Ns C λ_=>none) (hcs:CellsOk h1 (C+1) (Ay (C+1) scope.names [])) (hk:∀b o,s.heap.get? b=some o->h1.get? b=some o) :
  Inv (blkC X scope (own++capN X.N js) s H C fp) [] (bst own.length σ js) H {s with heap:=h1,toks:=tk}:=by
 have kindC:∀x,(blkC X scope (own++capN X.N js) s H C fp).env.kindOf x=some .cell∨(blkC X scope (own++capN X.N js) s H C fp).env.kindOf x=some .free->(x,NameKind.cell)∈scope.names∨(x,NameKind.free)∈scope.names:=λx hx=>by
  have hx':(EH scope X.env).names.lookup x=some .cell∨(EH scope X.env).names.lookup x=some .free:=hx;rcases hx' with z | z
  ·rcases dc z with q | ⟨_,q⟩
   ·exact .inl (z_ q)
   ·exact .inr (z_ q)
  ·rcases dc z with q | ⟨_,q⟩
   ·exact .inr (z_ q)
   ·exact .inr (z_ q)
 have notC:∀x,(x,NameKind.free)∈scope.names->(x,NameKind.cell)∉scope.names:=λx hf hc=>by
  have:=B.cells (x,.cell) hc rfl;rw[B.uniq x hf]at this;cases this
 have ownGt:∀ {x c},(x,c)∈Ay (C+1) scope.names []->C<c/\h1.IsCell c none:=λ{x c} e=>⟨(hcs.empty x c e).2,(hcs.empty x c e).1⟩
 have has:∀x,(x,NameKind.free)∈scope.names->∃c,X.env.cells.lookup x=some c:=λx hx=>I.ok.has x (B.free (x,.free) hx rfl);have old:∀ {x c},(fh scope C X.env).lookup x=some c->((x,c)∈Ay (C+1) scope.names [])∨X.env.cells.lookup x=some c:=λe=>dr e;have cellLt:∀ {x c},X.env.cells.lookup x=some c->c<s.heap.objs.size:=λ{x c} e=>by
  obtain⟨v,o,ho,_⟩:=I.cell x c e;exact lc ho
 have fpLt:∀b∈fp,b<s.heap.objs.size:=λb hb=>let ⟨_,e⟩:=hfo b hb;lc e;have fsOk:∀b∈frs X.stack,b∈X.env.locals::X.fs:=I.stkSub;refine⟨⟨I.ok.mod,?_,I.ok.glob,I.ok.blt,hC,λx y c e1 e2=>?_,λx hx=>?_,λx c z e=>?_,I.ok.hd,I.ok.frames,.inl rfl,λb hb=>⟨?_,λx c e=>?_⟩,I.bs,zQ I.ok.bsz I.sz,
   λb o e hb=>?_,λb hb hf=>?_,I.stack,I.stkFree⟩,rfl,I.bare,Un.kept hk,⟨_,hns,λi x v e1 e2 e3=>?_⟩,λx c e=>?_,?_,λx c e=>?_,λp hp=>absurd hp (by show p∉[]++[];simp),I.hok.kept hk,?_⟩
 ·show(EH scope X.env).kind = .function;exact B.kind
 ·rcases old e1 with q1 | q1
  ·rcases old e2 with q2 | q2
   ·exact PySem.name_of_addr hcs.apart q1 q2
   ·exact absurd (cellLt q2) (C8.mpr (zQ hC (Am (ownGt q1).1)))
  ·rcases old e2 with q2 | q2
   ·exact absurd (cellLt q1) (C8.mpr (zQ hC (Am (ownGt q2).1)))
   ·exact I.ok.inj x y c q1 q2
 ·rcases kindC x hx with q | q
  ·obtain⟨c,e,_⟩:=kI (C:=C) (env:=X.env) q;exact⟨c,e⟩
  ·obtain⟨c,e⟩:=has x q;exact⟨c,kJ (notC x q) q e⟩
 ·have z0:(scope.names.lookup x==some NameKind.cell)=true:=z;have z':scope.names.lookup x=some .cell:=by simpa using z0
  obtain⟨c',e',m'⟩:=kI (C:=C) (env:=X.env) (z_ z');have e'':(fh scope C X.env).lookup x=some c:=e;rw[e']at e'';cases e''
  exact zQ hC (Am (ownGt m').1)
 ·exact zM (nw (fpLt b hb) hC)
 ·rcases old e with q | q
  ·exact Aa (nw (fpLt b hb) (zQ hC (Am (ownGt q).1)))
  ·exact(hfp b hb).2.2.2.2.1 x c q
 ·have e1:=I.bs b o e;obtain⟨f0,f1,f2,f3,f4,f5⟩:=hfp b hb;rcases f3 with z | z
  ·exact I.ok.noex b o e z
  ·exact absurd (nw (lc (I.ok.bs b o e).1) z) (AZ _)
 ·obtain⟨f0,f1,f2,f3,f4,f5⟩:=hfp b hb;rcases wS.mp (fsOk b hf)with z | z
  ·exact f1 z
  ·exact f2 z
 ·-- a captured name's value
  have hi:own.length<=i:=by
   rcases sK i own.length with z | z
   ·exfalso;have e2':(pp own.length (none:Option V)++capt σ js)[i]? = some (some v):=e2;rw[Aj (by simpa using z),B1]at e2';split at e2' <;> cases e2'
   ·exact z
  have e1':(own++capN X.N js)[i]? = some x:=e1;have e2':(pp own.length (none:Option V)++capt σ js)[i]? = some (some v):=e2;rw[AJ hi]at e1';rw[AJ (by simpa using hi),BH]at e2';unfold capN at e1';unfold capt at e2';rw[lw]at e1' e2';cases ej:js[i - own.length]? with
  | none=>rw[ej]at e1';cases e1'
  | some j =>
   rw[ej]at e1' e2';have e1'':(X.N[j]?).getD "" = x:=AY e1';have e2'':(σ[j]?).getD none=some v:=AY e2';obtain⟨hj,hm⟩:=B.cap j (wp ej);have eN:X.N[j]? = some x:=by
    rw[bv hj]at e1'' ⊢;exact congrArg some e1''
   have eS:σ[j]? = some (some v):=by
    cases q:σ[j]? with
    | none=>rw[q]at e2'';cases e2''
    | some u=>rw[q]at e2'';exact congrArg some e2''
   rw[e1'']at hm;obtain⟨m,_,hl⟩:=I.loc;have hv:Vis X.env.scope x:=by
    rcases B.free (x,.free) hm rfl with z | z
    ·exact .inr (.inl z)
    ·exact .inr (.inr z)
   obtain⟨u,r,l⟩:=hl j x v eN eS hv;obtain⟨c,hc⟩:=has x hm;refine⟨u,r,.inr ⟨?_,c,kJ (notC x hm) hm hc,?_⟩⟩
   ·rcases e3 with z | z | z
    ·exfalso;have z':(EH scope X.env).names.lookup x=some .local:=z;rcases dc z' with q | ⟨q,_⟩
     ·rw[B.uniq x hm]at q;cases q
     ·cases q
    ·exact .inl z
    ·exact .inr z
   ·rcases l with⟨k1,_⟩ | ⟨k2,c2,e2,ic⟩
    ·rcases B.free (x,.free) hm rfl with t | t <;> (rw[k1]at t;cases t)
    ·rw[hc]at e2;cases e2;obtain⟨o,ho,hd⟩:=ic;exact⟨o,hk c o ho,hd⟩
 ·rcases old e with q | q
  ·exact⟨none,(ownGt q).2⟩
  ·obtain⟨v,o,ho,hd⟩:=I.cell x c q;exact⟨v,o,hk c o ho,hd⟩
 ·exact I.hok.fresh hC
 ·rcases old e with q | q
  ·exact I.hok.fresh (zQ hC (Am (ownGt q).1))
  ·exact I.freeC x c q
 ·rw[jP];show _=(own++capN X.N js).length;unfold capN;simp
theorem iF:∀ {names:List (Str×Bm)} {n:Nat} {acc:List (Str×Addr)},(∀y∈names,y.2 ≠ .cell)->Ay n names acc=acc
 | [],_,_,_=>rfl
 | (x,k)::r,n,acc,h=>by
  unfold Ay;rw[if_neg (by have:=h (x,k) (.head _);simpa using this)];exact iF λy hy=>h y (.tail _ hy)
section
variable {scope:AC}{own:List Str}{js:List Nat}
theorem Blk.c (B:Blk X scope own js):BlkC X scope own js:=⟨B.kind,λy hy e=>absurd e (B.nocell y hy),B.names,B.free,B.uniq,B.nd,B.cap⟩
theorem iH (B:Blk X scope own js){N:List Str}{s:db}{H:Hp}{C:Addr}{fp:List Addr}:blkC X scope N s H C fp=blk X scope N s H C fp:=by
 have e1:(λx=>scope.names.lookup x==some NameKind.cell)=λ_=>false:=funext λx=>by
  rw[beq_eq_false_iff_ne];exact λz=>B.nocell _ (z_ z) rfl
 unfold blkC blk fh;rw[iF B.nocell,e1]
end
end
section
variable {X:Cx}
theorem Inv.young {pins:List (Addr×Obj)}{σ:St}{H:Hp}{s:db}{h':Heap}{c:Addr}(I:Inv X pins σ H s)(hs:AF c s.heap h')(hn:H c=none)(h1:X.s₀.heap.objs.size<=c)(hL:c≠X.env.locals)
  (h2:∀x d,X.env.cells.lookup x=some d->d≠c) (h3:∀p∈X.pn++pins,p.1≠c):Inv X pins σ H {s with heap:=h'} :=
 I.turned (t':=s.toks) (λb o hb e=>(hs.2 b hb).trans e) hn hL (.inr h1) h2 h3
theorem Inv.track {pins:List (Addr×Obj)}{σ:St}{H:Hp}{s:db}{D:Addr}{ys:List V}{its:List bd}{n:Nat}(I:Inv X pins σ H s)(hn:H D=none)(h1:X.s₀.heap.objs.size<=D)(hL:D≠X.env.locals)
  (h2:∀x d,X.env.cells.lookup x=some d->d≠D) (h3:∀p∈X.pn++pins,p.1≠D) (hz:ys.length<=xz) (r:Vals ys its) (e:s.heap.get? D=some {cls:=.type "list",data:=.seq its.toArray n}) :
  Inv X pins σ (upd H D (.lst ys)) s:=by
 have ne:∀ {b u},H b=some u->b≠D:=λ{b u} q=>bB q hn;refine⟨I.ok,I.os,I.bare,⟨I.base.keep,I.base.slot,λb o q z hx=>?_,I.base.there,λb xs q=>?_,λb o u q=>?_,λb ps q=>?_⟩,I.loc,I.cell,?_,λx c q=>?_,λp hp=>?_,λb o q=>?_,I.len⟩
 ·rw[aW (zM (nw (lc q) h1))];exact I.base.free b o q z hx
 ·have q':=I.base.tups b xs q;rw[aW (ne q')];exact q'
 ·have q':=I.base.frzs b o u q;rw[aW (ne q')];exact q'
 ·obtain⟨more,q'⟩:=I.base.tbls b ps q;exact⟨more,by rw[aW (ne q')];exact q'⟩
 ·rw[aW (AB hL)];exact I.free
 ·rw[aW (h2 x c q)];exact I.freeC x c q
 ·obtain⟨a1,a2,a3⟩:=I.pin p hp;exact⟨a1,by rw[aW (h3 p hp)];exact a2,a3⟩
 ·by_cases hb:b=D
  ·subst hb;rw[bh]at q;cases q
   exact⟨hz,its,n,r,e⟩
  ·rw[aW hb]at q;refine(I.hok b o q).stay (λ_ _ _ z=>z) (λc z=>?_) λc xs z=>?_
   ·rw[aW (ne z)];exact z
   ·rw[aW (ne z)];exact z
def zd (X:Cx)(pins:List (Addr×Obj))(σ:St)(Q:VK)(C:Addr)(acc:bd)(s':db):Prop :=
 ∃(D:Addr) (H:Hp) (m:Str->Option bd),acc = .ref D/\s'.heap.Ns C m/\Inv X pins σ H s'/\H C=none/\X.s₀.heap.objs.size<=C/\C≠X.env.locals/\(∀x d,X.env.cells.lookup x=some d->d≠C)/\(∀p∈X.pn++pins,p.1≠C)/\Q (.ref D) H
theorem jI {elt tg iter:Expr}{ifs:List Expr}{scope:AC}{pos:Pos}{own:List Str}{js:List Nat}{g:TG}{tc:TT}{te:TE}{Q:VK}{pins:List (Addr×Obj)}{σ:St}{s2:db}{itv:bd}{E:bd->db->Prop}
  {RR:bd->Addr->FL->db->Prop} (hc:X.calm=true) (B:BlkC X scope own js) (hg:∀s H C fp,(own++capN X.N js).Nodup->PG (blkC X scope (own++capN X.N js) s H C fp) tg g) (ht:∀s H C fp,PTs (blkC X scope (own++capN X.N js) s H C fp) ifs tc)
  (he:∀s H C fp,PE (blkC X scope (own++capN X.N js) s H C fp) elt te)
  (h:PIE X pins σ tg (λJ H1=>zc J own.length js g tc te Q σ H1) itv s2)
  (hR:∀C acc s',zd X pins σ Q C acc s'->RR acc C (.ok .next) s') :
  o0 (wn X.prog X.w) X.A (GC []) (λacc s3=>o0 (wn X.prog X.w) X.A (DF scope X.env.globals (fg scope X.env) [] X.env.qual none .none (some X.env)) (λcenv s4 =>
   CB (wn X.prog X.w) X.A (.compStart (.ListComp elt [⟨tg,iter,ifs,0⟩] scope pos) 0 itv acc {cenv with scope:=EH scope X.env}) (RR acc cenv.locals) s4) E s3) E s2:=by
 obtain⟨it,fp,tn,J,H2,rfl,I2,T,st2,f2,W,⟨m0,w0⟩,turn⟩:=h;refine Bg (fk ?_);generalize hPu:s2.heap.push {cls:=.type "list",dict:=none,data:=.seq ([]:List bd).toArray}=Pu;dsimp only;have hDC:Pu.objs.size=s2.heap.objs.size+1:=by rw[<- hPu,A2]
 generalize hD:s2.heap.objs.size=D at hDC ⊢;have gD:Pu.get? D=some {cls:=.type "list",dict:=none,data:=.seq ([]:List bd).toArray}:=by
  rw[<- hPu,<- hD];exact wP _ rfl
 have hns1:(Cs (Pu.push {cls:=.type "dict",data:=.dict #[]}) scope.names).Ns Pu.objs.size λ_=>none:=(Gj Pu (.type "dict")).keeps (Ds _ _);have hcs1:CellsOk (Cs (Pu.push {cls:=.type "dict",data:=.dict #[]}) scope.names) (Pu.objs.size+1) (Ay (Pu.objs.size+1) scope.names []):=by
  have ok:=cellsFrom_ok scope.names (Pu.push {cls:=.type "dict",data:=.dict #[]}) (Pu.objs.size+1) [] ⟨λ_ _ hm=>(nomatch hm),List.Pairwise.nil⟩ (by rw[A2];exact lm _);rw[A2]at ok;exact ok
 have keep0:∀b o,Pu.get? b=some o->(Cs (Pu.push {cls:=.type "dict",data:=.dict #[]}) scope.names).get? b=some o:=λb o e=>Ds _ _ b o (dL _ e);generalize hh1:Cs (Pu.push {cls:=.type "dict",data:=.dict #[]}) scope.names=h1 at hns1 hcs1 keep0 ⊢;generalize hC:Pu.objs.size=C at hns1 hcs1 hDC ⊢;have ltDC:D<C:=by rw[hDC];exact C0 D
 have neDC:D≠C:=zM ltDC;have keep1:∀b o,s2.heap.get? b=some o->h1.get? b=some o:=λb o e=>keep0 b o (by
  rw[<- hPu];exact dL _ e)
 have gD1:h1.get? D=some {cls:=.type "list",dict:=none,data:=.seq ([]:List bd).toArray}:=keep0 D _ gD;have szD:s2.heap.objs.size<=D:=E2 hD;have szC:s2.heap.objs.size<=C:=zQ szD (Am ltDC);have old:∀ {b:Addr},b<s2.heap.objs.size->b≠D/\b≠C:=λhb=>⟨zM (nw hb szD),zM (nw hb szC)⟩
 have fpo:∀b∈fp,∃o,s2.heap.get? b=some o:=λb hb=>let ⟨o,e,_⟩:=T.obj 0 _ st2 b hb;⟨o,e⟩;have fpD:∀b∈fp,b≠D/\b≠C:=λb hb=>by
  obtain⟨o,e⟩:=fpo b hb;exact old (lc e)
 have clD:∀x d,X.env.cells.lookup x=some d->d≠D/\d≠C:=λx d e=>by
  obtain⟨v,o,ho,_⟩:=I2.cell x d e;exact old (lc ho)
 have pinD:∀p∈X.pn++pins,p.1≠D/\p.1≠C:=λp hp=>by
  exact old (lc (I2.pin p hp).1)
 have locD:D≠X.env.locals/\C≠X.env.locals:=by
  exact⟨(old I2.lt).1.symm,(old I2.lt).2.symm⟩
 let Y:=blkC X scope (own++capN X.N js) s2 H2 C fp;have IB:Inv Y [] (bst own.length σ js) H2 {s2 with heap:=h1}:=qi B I2 f2 fpo szC hns1 hcs1 keep1;have fpB:∀ {H':Hp} {pl:List (Addr×Obj)},(∀b∈fp,H' b=none)->(∀p∈pl,p.1=D)->∀b∈fp,FpOk Y pl H' b:=λ{H' pl} hn hp b hb=>by
  obtain⟨f0,f1,f3,f4,f5,f6⟩:=f2 b hb;refine⟨hn b hb,(fpD b hb).2,λz=>?_,.inl hb,λx c e=>?_,λp q=>?_⟩
  ·rcases wS.mp (I2.stkSub b z)with z | z
   ·exact f1 z
   ·exact f3 z
  ·rcases dr e with q | q
   ·obtain⟨o,eo⟩:=fpo b hb;exact Aa (nw (lc eo) (zQ szC (Am (hcs1.empty _ _ q).2)))
   ·exact f5 x c q
  ·have q':p∈pl:=by simpa [Y,blkC] using q
   rw[hp p q'];exact(fpD b hb).1.symm
 have clB:∀x d,Y.env.cells.lookup x=some d->d≠D:=λx d e=>by
  rcases dr e with q | q
  ·exact Aa (BS ltDC (hcs1.empty _ _ q).2)
  ·exact(clD x d q).1
 have notFs:D∉Y.fs:=λz=>by
  obtain⟨_,o,ho,_⟩:=IB.ok.funs.mem z;exact(old (lc (show s2.heap.get? D=some o from ho))).1 rfl
 have loop:∀s3:db,s3={s2 with heap:=h1} ->
   CB (wn X.prog X.w) X.A (.compLoop (.ListComp elt [⟨tg,iter,ifs,0⟩] scope pos) 0 (.ref it) (.ref D) (F7 scope (fh scope C X.env) C X.env)) (RR (.ref D) C) s3:=by
  rintro s3 rfl;refine oU (λn s'=>∃(i:Nat) (ys:List V) (its:List bd) (k:Nat) (H':Hp),Inv Y [] (bst own.length σ js) H' s'/\tn i s'.heap/\(∀b∈fp,H' b=none)/\H' D=none/\Vals ys its /\
   s'.heap.get? D=some {cls:=.type "list",data:=.seq its.toArray k}/\W i n ys H') ?_ m0 ⟨0,[],[],0,H2,IB,T.keep 0 _ _ st2 (λb hb o e=>keep1 b o e),λb hb=>(f2 b hb).1,I2.hok.fresh szD,.nil,gD1,w0⟩
  rintro n s3 ⟨i,ys,its,k,H3,I3,st3,fr3,hD3,r3,g3,w3⟩;have I3p:Inv Y [(D,{cls:=.type "list",data:=.seq its.toArray k})] (bst own.length σ js) H3 s3:=I3.pins_of λp hp=>by
   have e:p=(D,{cls:=.type "list",data:=.seq its.toArray k}):=by simpa using hp
   subst e;exact⟨g3,hD3,neDC,notFs,λv z=>by cases z⟩
  have f3:∀b∈fp,FpOk Y [(D,{cls:=.type "list",data:=.seq its.toArray k})] H3 b:=fpB fr3 λp hp=>by
   have e:p=(D,{cls:=.type "list",data:=.seq its.toArray k}):=by simpa using hp
   rw[e]
  rcases turn i n ys H3 w3 with⟨stop,hz,qn⟩ | ⟨go,hz,N,hN,step⟩
  ·refine thn (T.done Y rfl rfl rfl hc i _ s3 _ H3 (λ_ _=>False) I3p f3 st3 stop) λr s4 ⟨hr,I4⟩=>?_;subst hr;refine hR C _ s4 ?_;have g4:=(I4.pin (D,{cls:=.type "list",data:=.seq its.toArray k}) (by simp[Y,blkC])).1;obtain⟨m,hn4,_⟩:=id I4.loc;have un:Un (frs X.stack) fp H2 H3 s2.heap s4.heap:=I4.base;have I5:Inv X pins σ H3 s4:=I2.call' I4.os un I4.hok I4.bare λb hb=>let ⟨_,b1,_,b3,b4,b5⟩:=f2 b hb;⟨b3,b1,b4,b5⟩;have I6:=I5.track (ys:=ys) (its:=its) (n:=k) hD3 (zQ I2.sz szD) locD.1 (λx d e=>(clD x d e).1) (λp hp=>(pinD p hp).1) hz r3 g4;refine⟨D,_,m,rfl,hn4,I6,?_,zQ I2.sz szC,locD.2,λx d e=>(clD x d e).2,λp hp=>(pinD p hp).2,qn D hD3⟩;rw[aW (AB neDC)];exact I4.free
  ·refine thn (T.item Y rfl rfl rfl hc i _ s3 _ H3 (λ_ _=>False) I3p f3 st3 go) λr s4 ⟨u,hr,h4⟩=>?_;subst hr;refine thn h4 λ_ s5 ⟨x,H5,I5,r5,y5,st5,fr5⟩=>?_;have f5:∀b∈fp,FpOk Y [(D,{cls:=.type "list",data:=.seq its.toArray k})] H5 b:=λb hb=>⟨fr5 b hb,(f3 b hb).2⟩
   have I5':=I5.pinned f5 (T.obj _ _ st5);refine thn (hg s2 H2 C fp B.nd _ s5 _ H5 x u _ I5' r5 (step x H5 y5)) λ_ s6 ⟨σ6,H6,I6,d6,q6⟩=>?_;refine thn (ht s2 H2 C fp _ s6 σ6 H6 _ I6 q6) λok s7 ⟨H7,I7,q7⟩=>?_;have after:∀ {s8:db} {H8:Hp},Inv Y ([(D,{cls:=.type "list",data:=.seq its.toArray k})]++jk fp s5.heap) σ6 H8 s8 ->
     s8.heap.get? D=some {cls:=.type "list",data:=.seq its.toArray k}/\H8 D=none/\tn (i+1) s8.heap/\(∀b∈fp,H8 b=none)/\Inv Y [] (bst own.length σ js) H8 s8:=λ{s8 H8} I8=>by
    have p8:=I8.pin (D,{cls:=.type "list",data:=.seq its.toArray k}) (by simp[Y,blkC]);refine⟨p8.1,p8.2.1,T.keep _ _ _ st5 λb hb o e=>(I8.pin (b,o) (wv _ (wv _ (cE hb e)))).1,λb hb=>?_,?_⟩
    ·obtain⟨o,e,_⟩:=T.obj _ _ st5 b hb;exact(I8.pin (b,o) (wv _ (wv _ (cE hb e)))).2.1
    ·refine(I8.pins_of (pins':=[]) λp hp=>absurd hp (by simp[Y,blkC])).weak ?_ λj v e=>?_
     ·rw[I8.len,jP];show _=(own++capN X.N js).length;unfold capN;simp
     ·rcases sK j own.length with z | z
      ·exfalso;unfold bst at e;rw[Aj (by simpa using z),B1]at e;split at e <;> cases e
      ·unfold bst at e;rw[AJ (by simpa using z),BH,<- d6,A7]at e;rw[<- e];congr 1;omega
   cases ok with
   | false =>
    rw[if_neg Ad]at q7 ⊢;obtain⟨m',hm,w7⟩:=hN _ _ q7;obtain⟨a1,a2,a3,a4,a5⟩:=after I7;exact⟨m',hm,i+1,ys,its,k,H7,a5,a3,a4,a2,r3,a1,w7⟩
   | true =>
    rw[if_pos rfl]at q7 ⊢;refine thn (he s2 H2 C fp _ s7 σ6 H7 _ I7 q7) λu8 s8 ⟨v8,H8,I8,r8,n8⟩=>?_;obtain⟨m',hm,w8⟩:=hN _ _ n8;obtain⟨a1,a2,a3,a4,a5⟩:=after I8;have hsz:its.toArray.size<xz:=by rw[li,<- r3.length];exact hz
    refine Go zJ ⟨_,a1,rfl⟩ DH (Dz _ _) (DG D its.toArray k u8 (by omega)) ⟨a1,?_⟩;have q9:=Dw a1 (λxs=>xs.push u8);have sb:AF D s8.heap (s8.heap.update D (A3 λxs=>xs.push u8)):=Bl ..;have I9:=a5.young sb a2 szD neDC clB (λp hp=>absurd hp (by show p∉[]++[];simp));have fin:∃k',(s8.heap.update D (A3 λxs=>xs.push u8)).get? D=some {cls:=.type "list",data:=.seq (its++[u8]).toArray k'}:=⟨_,by
     rw[show(its++[u8]).toArray=its.toArray.push u8 by simp];exact q9⟩
    obtain⟨k',fin⟩:=fin;exact⟨m',hm,i+1,ys++[v8],its++[u8],k',H8,I9,T.keep _ _ _ a3 (λb hb o e=>(sb.2 b (fpD b hb).1).trans e),a4,a2,r3.append (.cons r8 .nil),fin,w8⟩
 exact FK (loop _ rfl) (T.self _ 0 _ _ _ (T.keep 0 _ _ st2 λb hb o e=>keep1 b o e) (loop _ rfl))
theorem pH {elt tg iter:Expr}{ifs:List Expr}{scope:AC}{pos:Pos}(own:List Str)(js:List Nat){wi:TI}{g:TG}{tc:TT}{te:TE}(hc:X.calm=true)(B:BlkC X scope own js)(hi:PI X tg iter wi)
  (hg:∀s H C fp,(own++capN X.N js).Nodup->PG (blkC X scope (own++capN X.N js) s H C fp) tg g) (ht:∀s H C fp,PTs (blkC X scope (own++capN X.N js) s H C fp) ifs tc) (he:∀s H C fp,PE (blkC X scope (own++capN X.N js) s H C fp) elt te)
  (hs:∀x,Bx iter X.env x=pure x:=by intro _;rfl):PE X (.ListComp elt [⟨tg,iter,ifs,0⟩] scope pos) (l8 own.length js wi g tc te):=by
 intro pins s σ H Q I h;have hcl:D3 scope X.env=pure (fg scope X.env):=eU λx hx hf=>I.ok.has x.1 (B.free x hx hf);rw[eval_ListComp];refine C4 (use:=none) rfl hs hcl B.kind B.names (thn (hi pins s σ H _ I h) λv s1 h1=>thn h1 λitv s2 h2=>?_);refine jI (RR:=λacc C=>F6 (wn X.prog X.w) X.A X.xe none (EP X pins σ Q) acc C) hc B hg ht he h2 λC acc s' hb=>?_;obtain⟨D,H',m,rfl,hn,I',c1,c2,c3,c4,c5,q⟩:=hb;exact⟨m,hn,λh' hs'=>⟨.ref D,H',I'.young hs' c1 c2 c3 c4 c5,rfl,q⟩⟩
theorem pF {elt tg iter:Expr}{ifs:List Expr}{scope:AC}{pos pos' spos:Pos}{i:Nat}{x:Str}(own:List Str)(js:List Nat){wi:TI}{g:TG}{tc:TT}{te:TE}(hN:X.N.Nodup)(hi:X.N[i]? = some x)(hx:Loc X.env.scope x)
  (hc:X.calm=true) (B:BlkC X scope own js) (hit:PI X tg iter wi)
  (hg:∀s H C fp,(own++capN X.N js).Nodup->PG (blkC X scope (own++capN X.N js) s H C fp) tg g) (ht:∀s H C fp,PTs (blkC X scope (own++capN X.N js) s H C fp) ifs tc) (he:∀s H C fp,PE (blkC X scope (own++capN X.N js) s H C fp) elt te)
  (hf:X.fn x=true∨X.env.scope.names.lookup x=some .local:=by first | exact .inl rfl | exact .inr rfl | assumption)
  (hw:Cr (.ListComp elt [⟨tg,iter,ifs,0⟩] scope pos) (some (.Name x pos')) spos.line X.env=pure true:=by rfl)
  (hs:∀x,Bx iter X.env x=pure x:=by intro _;rfl) :
  PS X (.Assign [.Name x pos'] (.ListComp elt [⟨tg,iter,ifs,0⟩] scope pos) spos) (λD σ H=>l8 own.length js wi g tc te σ H λv H'=>D.nx (σ.set i (some v)) H'):=by
 intro pins s σ H D I h;have hcl:D3 scope X.env=pure (fg scope X.env):=eU λx hx hf=>I.ok.has x.1 (B.free x hx hf);rw[FX _ _ _ _ hw];refine bn (B2 (bn ?_));show o0 _ X.A (do let _ <- comprehension (.ListComp elt [⟨tg,iter,ifs,0⟩] scope pos) scope X.env _ (GC []) false (eval iter X.env) (some (C6 (.Name x pos') X.env))) _ _ s;refine bn (thn (Q:=λ_ s'=>SP X pins D .next s') (C4 (use:=some (C6 (.Name x pos') X.env)) rfl hs hcl B.kind B.names (thn (hit pins s σ H _ I h) λv s1 h1=>thn h1 λitv s2 h2=>?_)) λ_ s' q=>ww (ww q));refine jI (Q:=λv H'=>D.nx (σ.set i (some v)) H') (RR:=λacc C=>F6 (wn X.prog X.w) X.A X.xe (some (C6 (.Name x pos') X.env)) (λ_ s'=>SP X pins D .next s') acc C) hc B hg ht he h2 λC acc s' hb=>?_;obtain⟨l,H',m,rfl,hn,I',c1,c2,c3,c4,c5,q⟩:=hb;show o0 _ X.A (C6 (.Name x pos') X.env (.ref l)) _ _ _;refine Gx (l9 (v:=.ref l) I' hN hi hx rfl (λs3 I3 ⟨a,sb,ha⟩=>?_) hf);have ne:C≠a:=by
  rcases ha with z | z
  ·rw[z];exact c3
  ·exact(c4 x a z).symm
 exact⟨m,hn.sameBut sb ne,λh' hs'=>⟨_,H',I3.young hs' c1 c2 c3 c4 c5,q⟩⟩
theorem fA {elt tg iter:Expr}{ifs:List Expr}{scope:AC}{pos:Pos}(own:List Str)(js:List Nat){wi:TI}{g:TG}{tc:TT}{te:TE}(hc:X.calm=true)(B:Blk X scope own js)(hi:PI X tg iter wi)
  (hg:∀s H C fp,(own++capN X.N js).Nodup->PG (blk X scope (own++capN X.N js) s H C fp) tg g) (ht:∀s H C fp,PTs (blk X scope (own++capN X.N js) s H C fp) ifs tc) (he:∀s H C fp,PE (blk X scope (own++capN X.N js) s H C fp) elt te)
  (hs:∀x,Bx iter X.env x=pure x:=by intro _;rfl):PE X (.ListComp elt [⟨tg,iter,ifs,0⟩] scope pos) (l8 own.length js wi g tc te) :=
 pH own js hc B.c hi (λs H C fp nd=>by rw[iH B];exact hg s H C fp nd) (λs H C fp=>by rw[iH B];exact ht s H C fp) (λs H C fp=>by rw[iH B];exact he s H C fp) hs
theorem nW {elt tg iter:Expr}{ifs:List Expr}{scope:AC}{pos pos' spos:Pos}{i:Nat}{x:Str}(own:List Str)(js:List Nat){wi:TI}{g:TG}{tc:TT}{te:TE}(hN:X.N.Nodup)(hi:X.N[i]? = some x)(hx:Loc X.env.scope x)
  (hc:X.calm=true) (B:Blk X scope own js) (hit:PI X tg iter wi)
  (hg:∀s H C fp,(own++capN X.N js).Nodup->PG (blk X scope (own++capN X.N js) s H C fp) tg g) (ht:∀s H C fp,PTs (blk X scope (own++capN X.N js) s H C fp) ifs tc) (he:∀s H C fp,PE (blk X scope (own++capN X.N js) s H C fp) elt te)
  (hf:X.fn x=true∨X.env.scope.names.lookup x=some .local:=by first | exact .inl rfl | exact .inr rfl | assumption)
  (hw:Cr (.ListComp elt [⟨tg,iter,ifs,0⟩] scope pos) (some (.Name x pos')) spos.line X.env=pure true:=by rfl)
  (hs:∀x,Bx iter X.env x=pure x:=by intro _;rfl) :
  PS X (.Assign [.Name x pos'] (.ListComp elt [⟨tg,iter,ifs,0⟩] scope pos) spos) (λD σ H=>l8 own.length js wi g tc te σ H λv H'=>D.nx (σ.set i (some v)) H') :=
 pF own js hN hi hx hc B.c hit (λs H C fp nd=>by rw[iH B];exact hg s H C fp nd) (λs H C fp=>by rw[iH B];exact ht s H C fp) (λs H C fp=>by rw[iH B];exact he s H C fp) hf hw hs
end
section
variable {X:Cx}
def Dv (j:Int):Prop:=0<j/\j.natAbs.log2<9000
theorem Dv.small {j:Int}(h:0<j)(h2:j<1073741824):Dv j:=⟨h,by
 have e:j.natAbs≠0:=by omega
 have:j.natAbs.log2<30:=(G6 e).mpr (by omega);omega⟩
theorem lq:OpR X (B3 .FloorDiv) (rI (λ_ j=>Dv j) λi j=>.int (i / j)):=opI λi j _ _ _ _ _ hc q=>by
 rw[<- Eu i (DP hc.1)]at q;exact floordiv_int (GS hc.1) q (.inl (PyProof.noPylong_of_log2 hc.2))
def isaT (t T:String):Option Bool:=if(Value.type t==Value.type T)=true then some true else if PySem.W.kitMeta T=true then(fastBuiltinMro t).map (·.contains (.type T))else none
theorem mJ:isaT "int" "int" = some true:=by decide +kernel
theorem lC:isaT "int" "bool" = some false:=by decide +kernel
theorem j6:isaT "int" "tuple" = some false:=by decide +kernel
theorem lD:isaT "bool" "int" = some true:=by decide +kernel
theorem j7:isaT "bool" "bool" = some true:=by decide +kernel
theorem jB:isaT "bool" "tuple" = some false:=by decide +kernel
theorem mH:isaT "str" "int" = some false:=by decide +kernel
theorem j4:isaT "str" "tuple" = some false:=by decide +kernel
theorem mI:isaT "NoneType" "int" = some false:=by decide +kernel
theorem j5:isaT "NoneType" "tuple" = some false:=by decide +kernel
theorem lB:isaT "list" "int" = some false:=by decide +kernel
theorem jA:isaT "list" "tuple" = some false:=by decide +kernel
theorem j0:isaT "tuple" "int" = some false:=by decide +kernel
theorem iL:isaT "tuple" "tuple" = some true:=by decide +kernel
theorem uO {K:ac}{t T:String}:D6 K (.type t) (.type T)=isaT t T:=rfl
theorem wB {x:Str}{T:String}{pos:Pos}(hg:Gl X x)(hm:X.mg x=none)(hv:Ar x=some (.type T))(hn:x ≠ "__name__" := by decide)(hd:(x==("__debug__" : Str))=false:=by decide):PE X (.Name x pos) (tC (.ty T)) :=
 wG hg hm hv rfl hn hd
structure OkN (P:wE)(w:z8)(K:ac)(mg:Str->Option bd)(base:Heap)(k:Nat)(x:Str)(ps:List Str)(sp:Sp):Prop where
 ex:∃f fd,mg x=some (.ref f)/\Bi K (.ref f)=true/\l4 K fd ps []/\(∃oc od osl,K.lookup f=some ⟨oc,od,.func fd,osl⟩)/\FnOk P w K mg base CX0 k f fd ps sp
theorem bC {k:Nat}{x:Str}{ps:List Str}{sp:Sp}{p pos:Pos}{e:Expr}{es:List Expr}{t:TA}(F:OkN X.prog X.w X.K X.mg X.base k x ps sp)(hr:Room k X.A)(ha:PA X (e::es) t)(hg:Gl X x:=by rfl)
  (hdb:(x==("__debug__" : Str))=false:=by decide) (he:zT (e::es) X.env=(false,eval e X.env)::zT es X.env:=by rfl) (hpl:(BW pos (zT es X.env)).any (·.1)=false:=by rfl) :
  PE X (.Call (.Name x p) (e::es) [] pos) (nH sp [] E0 t):=by
 obtain⟨f,fd,hm,hk,hb,lk,F⟩:=F.ex;exact nZ F hr hg hm hk hb .nil zk ha hdb he hpl
structure DefN (K:ac)(mg:Str->Option bd)(x:Str)(st:Stmt)(ps:List Str):Prop where
 ex:∃f fd,mg x=some (.ref f)/\Fun K x x st f fd/\∀us:List bd,us.length=ps.length->ET fd ⟨us,[]⟩=pure (ps.zip us)
theorem DefN.ok {P:wE}{w:z8}{K:ac}{mg:Str->Option bd}{base:Heap}{x:Str}{st:Stmt}{N ps:List Str}{k:Nat}{sp:Sp}(D:DefN K mg x st ps)(S:bw N ps (aI st))(len:∀vs H Q E,sp vs H Q E->vs.length=ps.length)
  (hbody:∀(f:Addr) (cdv:bd) (A:zX) (outer:List Env) (s:db) (H:Hp) (vs:List V) (Q:VK) (E:XK),Room k (A.deeper (Ct x (aI st) s.heap.objs.size f cdv))->sp vs H Q E ->
   ∃t,PSs (cxOf CX0 P w K mg base N x (aI st) f cdv A outer s H E).nox (cv st) t/\t {nx:=λ_ H'=>Q .non H',rt:=Q} (iI N vs) H):OkN P w K mg base (k+1) x ps sp:=by
 obtain⟨f,fd,hm,F,hb⟩:=D.ex;refine⟨f,fd,hm,F.kp,.all hb,?_,F.ok S len λcdv A outer s H vs Q E hr h=>hbody f cdv A outer s H vs Q E hr h⟩;obtain⟨oc,od,kV,doc,pm,an,cdv,ct,osl,_,lk,_⟩:=F.ex;exact⟨oc,od,osl,lk⟩
theorem yP {K:ac}{mg:Str->Option bd}{h:Heap}{x:Str}{st:Stmt}{ps:List Str}{f:Addr}{oc:bd}{od an:Option Addr}{osl:Array (Option bd)}{kV doc pm cdv ct:bd}(KX:K.In h)(G:h.Ns zN mg)
  (a:z4 K zN x=some (some (.ref f))) (l:K.lookup f=some ⟨oc,od,.func (Be x x (eO st) (cv st) (aI st) .none kV doc pm an cdv ct),osl⟩)
  (c:BK K cdv x=true) (k:Bi K (.ref f)=true)
  (hb:∀(kV doc pm:bd) (an:Option Addr) (cdv ct:bd) (us:List bd),us.length=ps.length->ET (Be x x (eO st) (cv st) (aI st) .none kV doc pm an cdv ct) ⟨us,[]⟩=pure (ps.zip us)):DefN K mg x st ps :=
 ⟨f,_,Cg KX G a,vF l c k,λus hl=>hb kV doc pm an cdv ct us hl⟩
theorem wX {P:wE}{w:z8}{K:ac}{mg:Str->Option bd}{x p:Str}{st:Stmt}{k:Nat}{fa:Addr}{sp:Sp}(D:DefN K mg x st [p])(hfa:mg x=some (.ref fa))
  (F:∀base:Heap,OkN P w K mg base k x [p] sp):∃fd:B4,(∀(s:db) (v:bd),EN s fd ⟨[v],[]⟩ [(p,v)])/\∀base:Heap,K.In base->base.Ns zN mg->FnOk P w K mg base CX0 k fa fd [p] sp:=by
 obtain⟨f,fd,hm,F0,hb⟩:=D.ex;obtain⟨oc,od,kV,doc,pm,an,cdv,ct,osl,_,lk,_⟩:=F0.ex;refine⟨fd,λs v=>.of_eq (hb [v] rfl),λbase _ _=>?_⟩;obtain⟨f',fd',hm',_,_,⟨oc',od',osl',lk'⟩,G⟩:=(F base).ex;rw[hfa]at hm';cases hm'
 rw[hfa]at hm;cases hm
 rw[lk]at lk';cases lk'
 exact G
end
structure BI (mg:Str->Option bd):Prop where
 len_:mg "len" = none
 range_:mg "range" = none
 isinstance_:mg "isinstance" = none
 int_:mg "int" = none
 bool_:mg "bool" = none
 list_:mg "list" = none
 tuple_:mg "tuple" = none
 str_:mg "str" = none
 sum_:mg "sum" = none
 all_:mg "all" = none
 max_:mg "max" = none
 min_:mg "min" = none
 sorted_:mg "sorted" = none
 set_:mg "set" = none
 zip_:mg "zip" = none
 enumerate_:mg "enumerate" = none
 reversed_:mg "reversed" = none
 dict_:mg "dict" = none
 any_:mg "any" = none
 abs_:mg "abs" = none
 repr_:mg "repr" = none
theorem zv {K:ac}{mg:Str->Option bd}{h:Heap}(KX:K.In h)(G:h.Ns zN mg)
  (len_:z4 K zN "len" = some none) (range_:z4 K zN "range" = some none) (isinstance_:z4 K zN "isinstance" = some none) (int_:z4 K zN "int" = some none) (bool_:z4 K zN "bool" = some none) (list_:z4 K zN "list" = some none) (tuple_:z4 K zN "tuple" = some none) (str_:z4 K zN "str" = some none) (sum_:z4 K zN "sum" = some none) (all_:z4 K zN "all" = some none) (max_:z4 K zN "max" = some none) (min_:z4 K zN "min" = some none) (sorted_:z4 K zN "sorted" = some none) (set_:z4 K zN "set" = some none) (zip_:z4 K zN "zip" = some none) (enumerate_:z4 K zN "enumerate" = some none) (reversed_:z4 K zN "reversed" = some none) (dict_:z4 K zN "dict" = some none) (any_:z4 K zN "any" = some none) (abs_:z4 K zN "abs" = some none) (repr_:z4 K zN "repr" = some none):BI mg :=
 ⟨zP KX G len_,zP KX G range_,zP KX G isinstance_,zP KX G int_,zP KX G bool_,zP KX G list_,zP KX G tuple_,zP KX G str_,zP KX G sum_,zP KX G all_,zP KX G max_,zP KX G min_,zP KX G sorted_,zP KX G set_,zP KX G zip_,zP KX G enumerate_,zP KX G reversed_,zP KX G dict_,zP KX G any_,zP KX G abs_,zP KX G repr_⟩
def Grow (t:Addr)(H H':Hp):Prop:=∀b o,H b=some o->b≠t->H' b=some o
theorem Grow.refl {t:Addr}{H:Hp}:Grow t H H:=λ_ _ h _=>h
theorem Grow.upd {t:Addr}{H H':Hp}(g:Grow t H H')(o:HO):Grow t H (L2.upd H' t o):=λb u h n=>by rw[aW n];exact g b u h n
theorem Same.new {H H':Hp}{l:Addr}{o:HO}(s:Same H H')(h:H' l=none):Same H (L2.upd H' l o):=λb u e=>by
 have:=s b u e;rw[aW (bB this h)];exact this
theorem Same.seqT {K:ac}{H H':Hp}{a:Addr}{xs:List V}(e:Same H H')(h:SqT K H a xs):SqT K H' a xs:=by
 rcases h with(h | ⟨o,h⟩) | h
 ·exact .inl (.inl (e _ _ h))
 ·exact .inl (.inr ⟨o,e _ _ h⟩)
 ·exact .inr h
theorem Grow.seq {K:ac}{t:Addr}{H H':Hp}{a:Addr}{xs:List V}{kvs:List (Key×V)}(g:Grow t H H')(ht:H t=some (.dK kvs))(h:SqL K H a xs):SqL K H' a xs:=by
 rcases h with(h | ⟨o,h⟩) | h
 ·exact .inl (.inl (g _ _ h (wR h ht (by intro z;cases z))))
 ·exact .inl (.inr ⟨o,g _ _ h (wR h ht (by intro z;cases z))⟩)
 ·exact .inr h
def cy (c:Addr)(sp lf:Int):List (Key×V):=[(Sum.inr "cells",.ref c),(Sum.inr "spot",.int sp),(Sum.inr "left",.int lf)]
theorem xr:¬((Sum.inr ("cells" : Str):Key)=Sum.inr ("spot" : Str)):=by decide +kernel
theorem xv:¬((Sum.inr ("cells" : Str):Key)=Sum.inr ("left" : Str)):=by decide +kernel
theorem ux:¬((Sum.inr ("spot" : Str):Key)=Sum.inr ("left" : Str)):=by decide +kernel
theorem kh {c:Addr}{sp lf:Int}:valV (cy c sp lf) (Sum.inr "cells" : Key)=some (.ref c):=by
 simp[valV,cy]
theorem rH {c:Addr}{sp lf:Int}:valV (cy c sp lf) (Sum.inr "spot" : Key)=some (.int sp):=by
 simp only[valV,cy,AK,decide_eq_false xr,decide_true,FO]
theorem rK {c:Addr}{sp lf:Int}:valV (cy c sp lf) (Sum.inr "left" : Key)=some (.int lf):=by
 simp only[valV,cy,AK,decide_eq_false xv,decide_eq_false ux,decide_true,FO]
theorem la {c:Addr}{sp lf x:Int}:putK (cy c sp lf) (Sum.inr "left" : Key) (.int x)=cy c sp x:=by
 unfold putK;rw[if_pos (by simp[cy])];simp only[cy,wl,BP,if_neg xv,if_neg ux,if_pos]
theorem uD {c:Addr}{sp lf x:Int}:putK (cy c sp lf) (Sum.inr "spot" : Key) (.int x)=cy c x lf:=by
 unfold putK;rw[if_pos (by simp[cy])];simp only[cy,wl,BP,if_neg xr,if_pos,if_neg (show ¬((Sum.inr ("left" : Str):Key)=Sum.inr ("spot" : Str))from λe=>ux e.symm)]
theorem rJ {c:Addr}:jz [] [((Sum.inr ("cells" : Str):Key),V.ref c),((Sum.inr ("spot" : Str):Key),V.int 0),((Sum.inr ("left" : Str):Key),V.int 0)]=cy c 0 0:=by
 simp only[jz,Bd,Eo];have e1:putK ([]:List (Key×V)) (Sum.inr ("cells" : Str)) (V.ref c)=[((Sum.inr ("cells" : Str):Key),V.ref c)]:=by simp[putK]
 have e2:putK [((Sum.inr ("cells" : Str):Key),V.ref c)] (Sum.inr ("spot" : Str)) (V.int 0)=[((Sum.inr ("cells" : Str):Key),V.ref c),((Sum.inr ("spot" : Str):Key),V.int 0)]:=by
  unfold putK;rw[if_neg (by simp only[Bj,GJ,decide_eq_false xr];simp)];rfl
 have e3:putK [((Sum.inr ("cells" : Str):Key),V.ref c),((Sum.inr ("spot" : Str):Key),V.int 0)] (Sum.inr ("left" : Str)) (V.int 0)=cy c 0 0:=by
  unfold putK;rw[if_neg (by simp only[Bj,GJ,decide_eq_false xv,decide_eq_false ux];simp)];rfl
 rw[e1,e2,e3]
theorem zt {ns:List Int}:cutV (ns.map V.int) none (some 63)=(ns.take 63).map V.int:=by
 unfold cutV;have e0:HT.sIx (ns.map V.int).length 0 none=0:=rfl;rw[e0,Gg,DN,Gu];show List.take (HT.sIx _ _ (some ((63:Nat):Int))) _=_;rw[HT.sIx_nat];rcases Cd 63 (ns.map V.int).length with h | h
 ·rw[AR h]
 ·rw[A9 h,BA (lm _),BA h]
end L2
namespace L2
theorem drawn {Q:Int->Hp->Prop}{m x:Int}{H':Hp}(hm:0<m)(k:∀r:Nat,(r:Int)<m->Q (r:Nat) H'):Q (x % m) H':=by
 obtain⟨r,e⟩:=AH (Gi x (GS hm));have:=FS x hm;rw[e]at this ⊢;exact k r this
theorem pw {y:Int}:-(2^64)<y % 2147483647/\y % 2147483647<2^64:=by omega
theorem dv64:Dv 64:=Dv.small (by decide) (by decide)
end L2
namespace L2
open PySem PySem.Spec PyProof.Rows
theorem o5 (a b:Nat):BL (a:Int) (b:Int)=((a &&& b:Nat):Int):=by
 unfold BL;rw[decide_eq_true (BC a),decide_eq_true (BC b)];simp
theorem yj (a b:Nat):F3 (a:Int) (b:Int)=((a ||| b:Nat):Int):=by
 unfold F3 BL Builtin.bitNot;rw[decide_eq_false (show ¬(0:Int) <= -(a:Int) - 1 by omega),decide_eq_false (show ¬(0:Int) <= -(b:Int) - 1 by omega)];have h1:(-(-(a:Int) - 1) - 1).toNat=a:=by omega
 have h2:(-(-(b:Int) - 1) - 1).toNat=b:=by omega
 simp only[h1,h2];omega
theorem gr:∀(a b:Nat),(a ^^^ b)+2*(a &&& b)=a+b:=by
 intro a;induction a using Nat.strongRecOn with
 | ind a ih =>
  intro b;by_cases h0:a=0
  ·subst h0;simp
  ·have h:=ih (a / 2) (by omega) (b / 2);have e1:(a ^^^ b) / 2=a / 2 ^^^ b / 2:=Nat.xor_div_two;have e2:(a &&& b) / 2=a / 2 &&& b / 2:=Nat.and_div_two;have e3:(a ^^^ b) % 2=(a+b) % 2:=by
    have:=BZ a b 0;rw[BR,BR,BR]at this;rcases z5 a with p | p <;> rcases z5 b with q | q <;> rcases z5 (a ^^^ b)with r | r <;> simp[p,q,r]at this <;> omega
   have e4:(a &&& b) % 2=(a % 2)*(b % 2):=by
    have:=Cw a b 0;rw[BR,BR,BR]at this;rcases z5 a with p | p <;> rcases z5 b with q | q <;> rcases z5 (a &&& b)with r | r <;> simp[p,q,r]at this <;> simp[p,q,r]
   rcases z5 a with p | p <;> rcases z5 b with q | q <;> rw[p,q]at e4 <;> omega
theorem q_ (a b:Nat):CA (a:Int) (b:Int)=((a ^^^ b:Nat):Int):=by
 unfold CA;rw[yj,o5];have h1:(a ||| b)+(a &&& b)=a+b:=by
  have:=gr a b;have e:(a ||| b)=(a ^^^ b)+(a &&& b):=by
   have h2:=gr (a ^^^ b) (a &&& b);have h3:(a ^^^ b) &&& (a &&& b)=0:=by
    apply Bs;intro i;simp only[Cw,BZ,Bk];cases a.testBit i <;> cases b.testBit i <;> rfl
   have h4:(a ^^^ b) ^^^ (a &&& b)=a ||| b:=by
    apply Bs;intro i;simp only[Cw,BZ,Gs];cases a.testBit i <;> cases b.testBit i <;> rfl
   rw[h3,h4]at h2;omega
  omega
 have:=gr a b;omega
theorem wo (a k:Nat):(a:Int) / 2^((k:Int).toNat)=((a >>> k:Nat):Int):=by
 rw[Aq,Nat.shiftRight_eq_div_pow];exact(Int.natCast_ediv a (2^k)).symm.trans (by norm_cast) |>.symm▸(by simp)
theorem tX (a k:Nat):BL ((a:Int) / 2^((k:Int).toNat)) 1=if a.testBit k then 1 else 0:=by
 rw[wo,show(1:Int)=((1:Nat):Int)from rfl,o5];have:(a >>> k) &&& 1=(a.testBit k).toNat:=by
  rw[Nat.and_one_is_mod,Fl];rw[Nat.one_and_eq_mod_two];rcases z5 (a >>> k)with p | p <;> simp[p]
 rw[this];cases a.testBit k <;> rfl
theorem i8 (k:Nat):(1:Int)*(2:Int)^((k:Int).toNat)=((1 <<< k:Nat):Int):=by
 rw[Aq,Nat.shiftLeft_eq,Int.one_mul,G4];simp
def wg (K:ac):Sp:=λvs H Q _=>∃(a:Addr) (ns:List Int),vs=[.ref a]/\SqL K H a (ns.map V.int)/\ns.length<=63/\∀H',Q (.bl true) H'
theorem bF:Ar "len" = some (.builtin "len"):=by decide +kernel
theorem eX:Ar "isinstance" = some (.builtin "isinstance"):=by decide +kernel
theorem yV:Ar "int" = some (.type "int"):=by decide +kernel
theorem xx:Ar "bool" = some (.type "bool"):=by decide +kernel
theorem tV:Ar "list" = some (.type "list"):=by decide +kernel
theorem dW:Ar "tuple" = some (.type "tuple"):=by decide +kernel
theorem yU:Ar "sum" = some (.builtin "sum"):=by decide +kernel
theorem vN:Ar "all" = some (.builtin "all"):=by decide +kernel
theorem vM:Ar "max" = some (.builtin "max"):=by decide +kernel
theorem vL:Ar "min" = some (.builtin "min"):=by decide +kernel
theorem iG:Ar "enumerate" = some (.type "enumerate"):=by decide +kernel
theorem jO:Ar "reversed" = some (.type "reversed"):=by decide +kernel
section
variable {X:Cx}{a b e o:Expr}{es:List Expr}{ta tb te to:TE}{t:TA}{pos apos cpos:Pos}(K:ac)
theorem gR (ha:PE X a ta)(he:∀whole,ER a X.env whole=(do let v <- whole;Gy a.pos;GD [v] (truthy v)))(hK:X.K=K:=by rfl) :
  PT X a (λσ H Q=>ta σ H λx H'=>∃k,TruV K x H' k/\Q k H'):=by subst hK;exact uE ha he
theorem qz (hK:X.K=K:=by rfl):OpR X (Bv .In) (rIn K false):=by subst hK;exact sF
theorem aT (hK:X.K=K:=by rfl):IxR X (rIx K):=by subst hK;exact yE
theorem gN (hK:X.K=K:=by rfl):SlR X (rSlL K):=by subst hK;exact wm
theorem aU (hK:X.K=K:=by rfl):iw X (.builtin "len") (λxs H Q=>∃p ys,xs=[.ref p]/\(SqL K H p ys∨SqT K H p ys)/\Q (.int ys.length) H):=by subst hK;exact m6
theorem q8 (hK:X.K=K:=by rfl):iw X (.type "list") (λxs H Q=>∃p ys,xs=[.ref p]/\(SqL K H p ys∨SqT K H p ys)/\∀l,H l=none->Q (.ref l) (upd H l (.lst ys))):=by subst hK;exact m5
theorem cD (hK:X.K=K:=by rfl):iw X (.type "tuple") (λxs H Q=>∃p ys,xs=[.ref p]/\((SqL K H p ys/\∀l,H l=none->Q (.ref l) (upd H l (.tup ys)))∨(SqT K H p ys/\Q (.ref p) H))):=by subst hK;exact lT
theorem bO {es:List Expr}{k:Nat}{t:TGs}{n:Nat}(hc:X.calm=true)(h:PGs X es t)(hn:(Cu es X.env).length=n:=by rfl)(hst:(Cu es X.env).findIdx? (·.1)=none:=by rfl)(hK:X.K=K:=by rfl) :
  PG X (.Tuple es k pos) (gTup K n t):=by subst hK;exact ya hc h hn hst
variable {name:Str}{T id:String}{r:V->List V->Hp->VK->Prop}
theorem dj (pa:PlainAttrs T)(slot:Slot T name id)(hty:typeOf (.builtin id)=pure (.type "method_descriptor"))(hm:MtR X id r)(ho:PE X o to)(ha:PA X (e::es) t)
  (hbase:attributeBase o name X.env (eval o X.env)=eval o X.env:=by rfl)
  (hfew:((BW cpos (zT (e::es) X.env)).all (λx=>!x.1)&&(backToKw cpos (F5 [] X.env)).all (λx=>x.1.isSome)&&decide ((e::es).length+([]:List GK).length+(if([]:List GK).isEmpty then 0 else 1)<30))=true:=by rfl)
  (hline:(apos.endLine==cpos.line)=true:=by rfl) (he:zT (e::es) X.env=(false,eval e X.env)::zT es X.env:=by rfl) (hpl:(BW cpos (zT es X.env)).any (·.1)=false:=by rfl)
  (hK:X.K=K:=by rfl):PE X (.Call (.Attribute o name apos) (e::es) [] cpos) (tBM K T r to t):=by
 subst hK;exact zj pa slot hty hm ho ha hbase hfew hline he hpl
end
inductive D where
 | non | bl (b:Bool) | int (i:Int) | str (x:Str) | tup (ds:List D) | lst (ds:List D)
def StT (H:Hp)(a:Addr)(xs:List V):Prop:=H a=some (.tup xs)
theorem StT.sq {K:ac}{H:Hp}{a:Addr}{xs:List V}(h:StT H a xs):SqT K H a xs:=SqT.of h
instance {K:ac} {H:Hp} {a:Addr} {xs:List V}:Coe (StT H a xs) (SqT K H a xs):=⟨StT.sq⟩
def StL (H:Hp)(a:Addr)(xs:List V):Prop:=H a=some (.lst xs)
theorem StL.sq {K:ac}{H:Hp}{a:Addr}{xs:List V}(h:StL H a xs):SqL K H a xs:=SqL.of h
instance {K:ac} {H:Hp} {a:Addr} {xs:List V}:Coe (StL H a xs) (SqL K H a xs):=⟨StL.sq⟩
mutual
def RepD (K:ac)(H:Hp):V->D->Prop
 | v,.non=>v = .non
 | v,.bl b=>v = .bl b
 | v,.int i=>v = .int i
 | v,.str x=>v = .str x
 | v,.tup ds=>∃a vs,v = .ref a/\StT H a vs/\RepDs K H vs ds
 | v,.lst ds=>∃a vs,v = .ref a/\StL H a vs/\RepDs K H vs ds
def RepDs (K:ac)(H:Hp):List V->List D->Prop
 | [],[]=>True
 | v::vs,d::ds=>RepD K H v d/\RepDs K H vs ds
 | _,_=>False
end
mutual
def eqD:D->D->Bool
 | .non,.non=>true
 | .bl a,.bl b=>a==b
 | .bl a,.int b=>(if a then 1 else 0)==b
 | .int a,.bl b=>a==(if b then 1 else 0)
 | .int a,.int b=>a==b
 | .str a,.str b=>a==b
 | .tup ds,.tup es=>eqDs ds es
 | .lst ds,.lst es=>eqDs ds es
 | _,_=>false
def eqDs:List D->List D->Bool
 | [],[]=>true
 | d::ds,e::es=>eqD d e&&eqDs ds es
 | _,_=>false
end
mutual
def D.depth:D->Nat
 | .tup ds=>depths ds+1
 | .lst ds=>depths ds+1
 | _=>0
def depths:List D->Nat
 | []=>0
 | d::ds=>max d.depth (depths ds)
end
section
variable {K:ac}{H H':Hp}
theorem RepDs.length:∀ {vs:List V} {ds:List D},RepDs K H vs ds->vs.length=ds.length
 | [],[],_=>rfl
 | v::vs,d::ds,h=>by
  unfold RepDs at h;rw[zK,zK,RepDs.length h.2]
 | [],d::ds,h=>by unfold RepDs at h;exact h.elim
 | v::vs,[],h=>by unfold RepDs at h;exact h.elim
theorem RepDs.get:∀ {vs:List V} {ds:List D} {i:Nat} {d:D},RepDs K H vs ds->ds[i]? = some d->∃v,vs[i]? = some v/\RepD K H v d
 | [],[],_,_,_,e=>by simp at e
 | v::vs,d::ds,0,_,h,e=>by
  unfold RepDs at h;simp at e;subst e;exact⟨v,rfl,h.1⟩
 | v::vs,d::ds,i+1,_,h,e=>by
  unfold RepDs at h;obtain⟨u,a,b⟩:=RepDs.get (i:=i) h.2 (by simpa using e);exact⟨u,by simpa using a,b⟩
 | [],d::ds,_,_,h,_=>by unfold RepDs at h;exact h.elim
 | v::vs,[],_,_,h,_=>by unfold RepDs at h;exact h.elim
theorem RepDs.getV:∀ {vs:List V} {ds:List D} {i:Nat} {v:V},RepDs K H vs ds->vs[i]? = some v->∃d,ds[i]? = some d/\RepD K H v d
 | [],[],_,_,_,e=>by simp at e
 | v::vs,d::ds,0,_,h,e=>by
  unfold RepDs at h;simp at e;subst e;exact⟨d,rfl,h.1⟩
 | v::vs,d::ds,i+1,_,h,e=>by
  unfold RepDs at h;obtain⟨u,a,b⟩:=RepDs.getV (i:=i) h.2 (by simpa using e);exact⟨u,by simpa using a,b⟩
 | [],d::ds,_,_,h,_=>by unfold RepDs at h;exact h.elim
 | v::vs,[],_,_,h,_=>by unfold RepDs at h;exact h.elim
theorem RepDs.append:∀ {vs ws:List V} {ds es:List D},RepDs K H vs ds->RepDs K H ws es->RepDs K H (vs++ws) (ds++es)
 | [],ws,[],es,_,h=>h
 | v::vs,ws,d::ds,es,h,h'=>by
  unfold RepDs at h;show RepDs K H (v::(vs++ws)) (d::(ds++es));unfold RepDs;exact⟨h.1,RepDs.append h.2 h'⟩
 | [],_,d::ds,_,h,_=>by unfold RepDs at h;exact h.elim
 | v::vs,_,[],_,h,_=>by unfold RepDs at h;exact h.elim
theorem RepDs.one {v:V}{d:D}(h:RepD K H v d):RepDs K H [v] [d]:=by unfold RepDs;exact⟨h,by unfold RepDs;trivial⟩
theorem RepDs.nil:RepDs K H [] []:=by unfold RepDs;trivial
theorem RepDs.cons {v:V}{d:D}{vs:List V}{ds:List D}(h:RepD K H v d)(t:RepDs K H vs ds):RepDs K H (v::vs) (d::ds):=by unfold RepDs;exact⟨h,t⟩
theorem r_:∀ {vs:List V} {ns:List Int},RepDs K H vs (ns.map D.int)↔vs=ns.map V.int
 | [],[]=>by simp[RepDs]
 | v::vs,n::ns=>by
  have ih:=@r_ vs ns;rw[wl,wl];unfold RepDs RepD;rw[ih];constructor
  ·rintro⟨rfl,rfl⟩;rfl
  ·intro h;injection h with h1 h2;exact⟨h1,h2⟩
 | [],n::ns=>by rw[wl];unfold RepDs;simp
 | v::vs,[]=>by rw[BP];unfold RepDs;simp
mutual
theorem RepD.keep (hl:∀a vs,StL H a vs->StL H' a vs)(ht:∀a vs,StT H a vs->StT H' a vs):∀ {v:V} {d:D},RepD K H v d->RepD K H' v d
 | v,.non,h=>by unfold RepD at h ⊢;exact h
 | v,.bl b,h=>by unfold RepD at h ⊢;exact h
 | v,.int i,h=>by unfold RepD at h ⊢;exact h
 | v,.str x,h=>by unfold RepD at h ⊢;exact h
 | v,.tup ds,h=>by
  unfold RepD at h ⊢;obtain⟨a,vs,e,h1,h2⟩:=h;exact⟨a,vs,e,ht _ _ h1,RepDs.keep hl ht h2⟩
 | v,.lst ds,h=>by
  unfold RepD at h ⊢;obtain⟨a,vs,e,h1,h2⟩:=h;exact⟨a,vs,e,hl _ _ h1,RepDs.keep hl ht h2⟩
theorem RepDs.keep (hl:∀a vs,StL H a vs->StL H' a vs)(ht:∀a vs,StT H a vs->StT H' a vs):∀ {vs:List V} {ds:List D},RepDs K H vs ds->RepDs K H' vs ds
 | [],[],_=>RepDs.nil
 | v::vs,d::ds,h=>by
  unfold RepDs at h ⊢;exact⟨RepD.keep hl ht h.1,RepDs.keep hl ht h.2⟩
 | [],d::ds,h=>by unfold RepDs at h;exact h.elim
 | v::vs,[],h=>by unfold RepDs at h;exact h.elim
end
theorem RepD.same {v:V}{d:D}(h:RepD K H v d)(s:Same H H'):RepD K H' v d:=h.keep (λ_ _ q=>s _ _ q) λ_ _ q=>s _ _ q
theorem RepDs.same {vs:List V}{ds:List D}(h:RepDs K H vs ds)(s:Same H H'):RepDs K H' vs ds:=h.keep (λ_ _ q=>s _ _ q) λ_ _ q=>s _ _ q
end
mutual
theorem cQ:∀d:D,eqD d d=true
 | .non=>by simp[eqD]
 | .bl b=>by simp[eqD]
 | .int i=>by simp[eqD]
 | .str x=>by simp[eqD]
 | .tup ds=>by unfold eqD;exact eqDs_refl ds
 | .lst ds=>by unfold eqD;exact eqDs_refl ds
theorem eqDs_refl:∀ds:List D,eqDs ds ds=true
 | []=>by simp[eqDs]
 | d::ds=>by unfold eqDs;rw[cQ d,eqDs_refl ds];rfl
end
section
variable {X:Cx}{pins:List (Addr×Obj)}{σ:St}{H:Hp}{s:db}
mutual
theorem k_ (I:Inv X pins σ H s):∀ {v:V} {d e:D},RepD X.K H v d->RepD X.K H v e->d=e
 | v,.non,e,h,h'=>by
  unfold RepD at h;subst h;cases e <;> (unfold RepD at h';first | rfl | (obtain⟨_,_,z,_⟩:=h';cases z) | cases h')
 | v,.bl b,e,h,h'=>by
  unfold RepD at h;subst h;cases e <;> (unfold RepD at h';first | (cases h';rfl) | (obtain⟨_,_,z,_⟩:=h';cases z) | cases h')
 | v,.int b,e,h,h'=>by
  unfold RepD at h;subst h;cases e <;> (unfold RepD at h';first | (cases h';rfl) | (obtain⟨_,_,z,_⟩:=h';cases z) | cases h')
 | v,.str b,e,h,h'=>by
  unfold RepD at h;subst h;cases e <;> (unfold RepD at h';first | (cases h';rfl) | (obtain⟨_,_,z,_⟩:=h';cases z) | cases h')
 | v,.tup ds,e,h,h'=>by
  unfold RepD at h;obtain⟨a,vs,rfl,h1,h2⟩:=h;cases e with
  | tup es =>
   unfold RepD at h';obtain⟨b,ws,z,g1,g2⟩:=h';cases z
   rw[I.tuple_inj g1.sq h1.sq]at g2;rw[repDs_inj I h2 g2]
  | lst es =>
   unfold RepD at h';obtain⟨b,ws,z,g1,g2⟩:=h';cases z
   obtain⟨_,_,⟨o,n,e1,c1,_⟩,_⟩:=I.list (StL.sq g1);obtain⟨_,_,⟨o',e2,c2,_⟩,_⟩:=I.tuple h1.sq;rw[e1]at e2;cases e2;rw[c1]at c2;exact absurd c2 (by decide)
  | non=>unfold RepD at h';cases h'
  | bl _=>unfold RepD at h';cases h'
  | int _=>unfold RepD at h';cases h'
  | str _=>unfold RepD at h';cases h'
 | v,.lst ds,e,h,h'=>by
  unfold RepD at h;obtain⟨a,vs,rfl,h1,h2⟩:=h;cases e with
  | lst es =>
   unfold RepD at h';obtain⟨b,ws,z,g1,g2⟩:=h';cases z
   rw[I.list_inj (StL.sq g1) (StL.sq h1)]at g2;rw[repDs_inj I h2 g2]
  | tup es =>
   unfold RepD at h';obtain⟨b,ws,z,g1,g2⟩:=h';cases z
   obtain⟨_,_,⟨o,n,e1,c1,_⟩,_⟩:=I.list (StL.sq h1);obtain⟨_,_,⟨o',e2,c2,_⟩,_⟩:=I.tuple g1.sq;rw[e1]at e2;cases e2;rw[c1]at c2;exact absurd c2 (by decide)
  | non=>unfold RepD at h';cases h'
  | bl _=>unfold RepD at h';cases h'
  | int _=>unfold RepD at h';cases h'
  | str _=>unfold RepD at h';cases h'
theorem repDs_inj (I:Inv X pins σ H s):∀ {vs:List V} {ds es:List D},RepDs X.K H vs ds->RepDs X.K H vs es->ds=es
 | [],[],[],_,_=>rfl
 | v::vs,d::ds,e::es,h,h'=>by
  unfold RepDs at h h';rw[k_ I h.1 h'.1,repDs_inj I h.2 h'.2]
 | [],d::ds,_,h,_=>by unfold RepDs at h;exact h.elim
 | v::vs,[],_,h,_=>by unfold RepDs at h;exact h.elim
 | [],_,d::ds,_,h=>by unfold RepDs at h;exact h.elim
 | v::vs,_,[],_,h=>by unfold RepDs at h;exact h.elim
end
end
theorem g7 (A:zX):A.in1.units=A.units+1:=rfl
theorem kB:∀ {ds:List D} {j:Nat} {d:D},ds[j]? = some d->d.depth<=depths ds
 | [],_,_,h=>by simp at h
 | d::ds,0,_,h=>by simp at h;subst h;unfold depths;omega
 | d::ds,j+1,e,h=>by
  have:=kB (ds:=ds) (j:=j) (by simpa using h);unfold depths;omega
def mP (ds es:List D)(j:Nat):Bool:=match ds[j]?,es[j]? with
 | some d,some e=>eqD d e
 | _,_=>true
theorem eC:∀ {ds es:List D},ds.length=es.length->(wr ds.length).all (mP ds es)=eqDs ds es
 | [],[],_=>by simp[eqDs]
 | d::ds,e::es,h=>by
  have ih:=eC (ds:=ds) (es:=es) (by simpa using h);rw[zK,List.range_succ_eq_map,CV,EK];unfold eqDs;rw[<- ih];congr 1
 | [],_::_,h=>by simp at h
 | _::_,[],h=>by simp at h
theorem dq:∀ {ds es:List D},ds.length≠es.length->eqDs ds es=false
 | [],[],h=>absurd rfl h
 | [],_::_,_=>by simp[eqDs]
 | _::_,[],_=>by simp[eqDs]
 | d::ds,e::es,h=>by
  unfold eqDs;rw[dq (ds:=ds) (es:=es) (by simpa using h),Dh]
section
variable {X:Cx}{pins:List (Addr×Obj)}{σ:St}{H:Hp}{s:db}
theorem iU (I:Inv X pins σ H s){m:Nat}(ih:∀ {A:zX} {v u:V} {vv uu:bd} {d e:D},d.depth<=m->A.units+m<CH->RelV v vv->RelV u uu->RepD X.K H v d->RepD X.K H u e->CI A s vv uu (eqD d e)){A:zX}(hu:A.units+m<CH)
  {vs us:List V} {vvs uus:List bd} {ds es:List D} (hd:depths ds<=m) (rv:Vals vs vvs) (ru:Vals us uus) (hv:RepDs X.K H vs ds) (he:RepDs X.K H us es) :
  ∀j (h1:j<vvs.toArray.size) (h2:j<uus.toArray.size),CI A s vvs.toArray[j] uus.toArray[j] (mP ds es j):=by
 intro j h1 h2;rw[li]at h1 h2;have l1:=rv.length;have l2:=ru.length;have g1:vs[j]? = some vs[j]:=bv (by omega);have g2:us[j]? = some us[j]:=bv (by omega);obtain⟨x,ex,rx⟩:=rv.get g1;obtain⟨y,ey,ry⟩:=ru.get g2;obtain⟨d,ed,rd⟩:=hv.getV g1;obtain⟨e,ee,re⟩:=he.getV g2;rw[bv h1]at ex;rw[bv h2]at ey;cases ex
 cases ey
 have:mP ds es j=eqD d e:=by unfold mP;rw[ed,ee]
 rw[this,Fb,Fb];exact ih (zQ (kB ed) hd) hu rx ry rd re
theorem vn (I:Inv X pins σ H s)(n:Nat)(ih:0<n->∀ {A:zX} {v u:V} {vv uu:bd} {d e:D},d.depth<=n - 1->A.units+(n - 1)<CH->RelV v vv->RelV u uu->RepD X.K H v d->RepD X.K H u e->CI A s vv uu (eqD d e))
  {A:zX} {v u:V} {vv uu:bd} {d e:D} (hd:d.depth<=n) (hu:A.units+n<CH) (rv:RelV v vv) (ru:RelV u uu) (hv:RepD X.K H v d) (he:RepD X.K H u e):Ei A s vv uu (eqD d e)/\CI A s vv uu (eqD d e):=by
 have hu0:A.units<CH:=by omega
 have isL:∀ {a xs},StL H a xs->∃its:List bd,Vals xs its/\s.heap.IsList a its.toArray:=λq=>by
  obtain⟨its,r,p,_⟩:=I.list q.sq;exact⟨its,r,p.isList⟩
 have isT:∀ {a xs},StT H a xs->∃its:List bd,Vals xs its/\s.heap.IsTuple a its.toArray:=λq=>by
  obtain⟨its,r,p,_⟩:=I.tuple q.sq;exact⟨its,r,p⟩
 cases d with
 | non =>
  unfold RepD at hv;subst hv;cases rv;cases e with
  | non=>unfold RepD at he;subst he;cases ru;exact⟨.none_none,.same _⟩
  | bl b=>unfold RepD at he;subst he;cases ru;exact⟨.none_bool _,.none_bool _⟩
  | int b=>unfold RepD at he;subst he;obtain⟨t,rfl⟩:=ru;exact⟨.none_int _ _,.none_int _ _⟩
  | str b=>unfold RepD at he;subst he;obtain⟨t,rfl⟩:=ru;exact⟨.none_str _ _,.none_str _ _⟩
  | tup es=>unfold RepD at he;obtain⟨a,vs,rfl,q,_⟩:=he;cases ru;obtain⟨its,_,q⟩:=isT q;exact⟨.none_tuple q hu0,.none_tuple q hu0⟩
  | lst es=>unfold RepD at he;obtain⟨a,vs,rfl,q,_⟩:=he;cases ru;obtain⟨its,_,q⟩:=isL q;exact⟨.none_list q hu0,.none_list q hu0⟩
 | bl x =>
  unfold RepD at hv;subst hv;cases rv;cases e with
  | non=>unfold RepD at he;subst he;cases ru;exact⟨.bool_none _,.bool_none _⟩
  | bl b=>unfold RepD at he;subst he;cases ru;exact⟨.bool_bool _ _,.bool_bool _ _⟩
  | int b=>unfold RepD at he;subst he;obtain⟨t,rfl⟩:=ru;exact⟨.bool_int _ _ _,.bool_int _ _ _⟩
  | str b=>unfold RepD at he;subst he;obtain⟨t,rfl⟩:=ru;exact⟨.bool_str _ _ _,.bool_str _ _ _⟩
  | tup es=>unfold RepD at he;obtain⟨a,vs,rfl,q,_⟩:=he;cases ru;obtain⟨its,_,q⟩:=isT q;exact⟨.bool_tuple _ q hu0,.bool_tuple _ q hu0⟩
  | lst es=>unfold RepD at he;obtain⟨a,vs,rfl,q,_⟩:=he;cases ru;obtain⟨its,_,q⟩:=isL q;exact⟨.bool_list _ q hu0,.bool_list _ q hu0⟩
 | int x =>
  unfold RepD at hv;subst hv;obtain⟨t0,rfl⟩:=rv;cases e with
  | non=>unfold RepD at he;subst he;cases ru;exact⟨.int_none _ _,.int_none _ _⟩
  | bl b=>unfold RepD at he;subst he;cases ru;exact⟨.int_bool _ _ _,.int_bool _ _ _⟩
  | int b=>unfold RepD at he;subst he;obtain⟨t,rfl⟩:=ru;exact⟨.int_int _ _ _ _,.int_int _ _ _ _⟩
  | str b=>unfold RepD at he;subst he;obtain⟨t,rfl⟩:=ru;exact⟨.int_str _ _ _ _,.int_str _ _ _ _⟩
  | tup es=>unfold RepD at he;obtain⟨a,vs,rfl,q,_⟩:=he;cases ru;obtain⟨its,_,q⟩:=isT q;exact⟨.int_tuple _ _ q hu0,.int_tuple _ _ q hu0⟩
  | lst es=>unfold RepD at he;obtain⟨a,vs,rfl,q,_⟩:=he;cases ru;obtain⟨its,_,q⟩:=isL q;exact⟨.int_list _ _ q hu0,.int_list _ _ q hu0⟩
 | str x =>
  unfold RepD at hv;subst hv;obtain⟨t0,rfl⟩:=rv;cases e with
  | non=>unfold RepD at he;subst he;cases ru;exact⟨.str_none _ _,.str_none _ _⟩
  | bl b=>unfold RepD at he;subst he;cases ru;exact⟨.str_bool _ _ _,.str_bool _ _ _⟩
  | int b=>unfold RepD at he;subst he;obtain⟨t,rfl⟩:=ru;exact⟨.str_int _ _ _ _,.str_int _ _ _ _⟩
  | str b=>unfold RepD at he;subst he;obtain⟨t,rfl⟩:=ru;exact⟨.str_str _ _ _ _,.str_str _ _ _ _⟩
  | tup es=>unfold RepD at he;obtain⟨a,vs,rfl,q,_⟩:=he;cases ru;obtain⟨its,_,q⟩:=isT q;exact⟨.str_tuple _ _ q hu0,.str_tuple _ _ q hu0⟩
  | lst es=>unfold RepD at he;obtain⟨a,vs,rfl,q,_⟩:=he;cases ru;obtain⟨its,_,q⟩:=isL q;exact⟨.str_list _ _ q hu0,.str_list _ _ q hu0⟩
 | tup ds =>
  have hv0:=hv;unfold RepD at hv;obtain⟨a,vs,rfl,q,hq⟩:=hv;cases rv
  obtain⟨its,r1,q1⟩:=isT q;cases e with
  | non=>unfold RepD at he;subst he;cases ru;exact⟨.tuple_none q1 hu0,.tuple_none q1 hu0⟩
  | bl b=>unfold RepD at he;subst he;cases ru;exact⟨.tuple_bool _ q1 hu0,.tuple_bool _ q1 hu0⟩
  | int b=>unfold RepD at he;subst he;obtain⟨t,rfl⟩:=ru;exact⟨.tuple_int _ _ q1 hu0,.tuple_int _ _ q1 hu0⟩
  | str b=>unfold RepD at he;subst he;obtain⟨t,rfl⟩:=ru;exact⟨.tuple_str _ _ q1 hu0,.tuple_str _ _ q1 hu0⟩
  | lst es=>unfold RepD at he;obtain⟨b,ws,rfl,g,_⟩:=he;cases ru;obtain⟨its2,_,g1⟩:=isL g;exact⟨.tuple_list q1 g1 hu0,.tuple_list q1 g1 hu0⟩
  | tup es =>
   have he0:=he;unfold RepD at he;obtain⟨b,ws,rfl,g,hg⟩:=he;cases ru
   obtain⟨its2,r2,g1⟩:=isT g;have hd':depths ds+1<=n:=by simpa [D.depth] using hd
   have l1:=r1.length;have l2:=r2.length;have m1:=hq.length;have m2:=hg.length;have rc:Ei A s (.ref a) (.ref b) (eqD (.tup ds) (.tup es)):=by
    have:=SeqAt.RcAt.tuples (e:=mP ds es) q1 g1 hu0 (iU I (λ{A} {v} {u} {vv} {uu} {d} {e}=>ih (by omega) (A:=A)) (A:=A.in1) (by rw[g7];omega) (m:=n - 1) (by omega) r1 r2 hq hg);rw[li,li]at this;unfold eqD;by_cases hl:ds.length=es.length
    ·have z:(its.length==its2.length)=true:=by rw[beq_iff_eq];omega
     have mm:min its.length its2.length=ds.length:=by omega
     rw[z,EC,mm,eC hl]at this;exact this
    ·have z:(its.length==its2.length)=false:=by rw[beq_eq_false_iff_ne];omega
     rw[z,Dh]at this;rw[dq hl];exact this
   refine⟨rc,?_⟩;by_cases hab:a=b
   ·subst hab;rw[k_ I hv0 he0,cQ];exact .same _
   ·exact .of_refs hab rc
 | lst ds =>
  have hv0:=hv;unfold RepD at hv;obtain⟨a,vs,rfl,q,hq⟩:=hv;cases rv
  obtain⟨its,r1,q1⟩:=isL q;cases e with
  | non=>unfold RepD at he;subst he;cases ru;exact⟨.list_none q1 hu0,.list_none q1 hu0⟩
  | bl b=>unfold RepD at he;subst he;cases ru;exact⟨.list_bool _ q1 hu0,.list_bool _ q1 hu0⟩
  | int b=>unfold RepD at he;subst he;obtain⟨t,rfl⟩:=ru;exact⟨.list_int _ _ q1 hu0,.list_int _ _ q1 hu0⟩
  | str b=>unfold RepD at he;subst he;obtain⟨t,rfl⟩:=ru;exact⟨.list_str _ _ q1 hu0,.list_str _ _ q1 hu0⟩
  | tup es=>unfold RepD at he;obtain⟨b,ws,rfl,g,_⟩:=he;cases ru;obtain⟨its2,_,g1⟩:=isT g;exact⟨.list_tuple q1 g1 hu0,.list_tuple q1 g1 hu0⟩
  | lst es =>
   have he0:=he;unfold RepD at he;obtain⟨b,ws,rfl,g,hg⟩:=he;cases ru
   obtain⟨its2,r2,g1⟩:=isL g;have hd':depths ds+1<=n:=by simpa [D.depth] using hd
   have l1:=r1.length;have l2:=r2.length;have m1:=hq.length;have m2:=hg.length;have rc:Ei A s (.ref a) (.ref b) (eqD (.lst ds) (.lst es)):=by
    unfold eqD;by_cases hl:ds.length=es.length
    ·have:=SeqAt.RcAt.lists (e:=mP ds es) q1 g1 (by rw[li,li];omega) hu0 (iU I (λ{A} {v} {u} {vv} {uu} {d} {e}=>ih (by omega) (A:=A)) (A:=A.in1) (by rw[g7];omega) (m:=n - 1) (by omega) r1 r2 hq hg);rw[li,show its.length=ds.length by omega,eC hl]at this;exact this
    ·rw[dq hl];exact SeqAt.RcAt.lists_lengths q1 g1 (by rw[li,li,bne_iff_ne];omega) hu0
   refine⟨rc,?_⟩;by_cases hab:a=b
   ·subst hab;rw[k_ I hv0 he0,cQ];exact .same _
   ·exact .of_refs hab rc
theorem sf (I:Inv X pins σ H s):∀(n:Nat) {A:zX} {v u:V} {vv uu:bd} {d e:D},d.depth<=n->A.units+n<CH->RelV v vv->RelV u uu->RepD X.K H v d->RepD X.K H u e ->
  Ei A s vv uu (eqD d e)/\CI A s vv uu (eqD d e):=by
 intro n;induction n with
 | zero=>exact λhd hu=>vn I 0 (λhlt=>absurd hlt (by omega)) hd hu
 | succ n ih=>exact λhd hu=>vn I (n+1) (λ_ A v u vv uu d e h1 h2 h3 h4 h5 h6=>(ih (A:=A) h1 h2 h3 h4 h5 h6).2) hd hu
end
section
variable {X:Cx}(K:ac)
def rEqD (K:ac):R2:=λx y H Q=>∃d e,RepD K H x d/\RepD K H y e/\d.depth<=60/\Q (.bl (eqD d e)) H
def rNeD (K:ac):R2:=λx y H Q=>∃d e,RepD K H x d/\RepD K H y e/\d.depth<=60/\Q (.bl (!eqD d e)) H
theorem gk (hu:X.A.units+64<CH)(hK:X.K=K:=by rfl):OpR X (Bv .Eq) (rEqD K):=by
 subst hK;intro pins s σ H x y v u Q I rx ry h;obtain⟨d,e,hd,he,hz,q⟩:=h;exact(sf I 60 hz (by omega) rx ry hd he).1 X.prog X.w _ _ ⟨.bl _,H,I,rfl,q⟩
theorem x5 {pins:List (Addr×Obj)}{σ:St}{H:Hp}{s:db}(I:Inv X pins σ H s){A:zX}{v u:V}{vv uu:bd}{d e:D}(hd:d.depth<=60)(hu:A.units+61<CH)(rv:RelV v vv)(ru:RelV u uu)(hv:RepD X.K H v d)(he:RepD X.K H u e) :
  SeqAt.RcNeAt A s vv uu (!eqD d e):=by
 have hu0:A.units<CH:=by omega
 have isL:∀ {a xs},StL H a xs->∃its:List bd,Vals xs its/\s.heap.IsList a its.toArray:=λq=>by
  obtain⟨its,r,p,_⟩:=I.list q.sq;exact⟨its,r,p.isList⟩
 have isT:∀ {a xs},StT H a xs->∃its:List bd,Vals xs its/\s.heap.IsTuple a its.toArray:=λq=>by
  obtain⟨its,r,p,_⟩:=I.tuple q.sq;exact⟨its,r,p⟩
 cases d with
 | non =>
  unfold RepD at hv;subst hv;cases rv;cases e with
  | non=>unfold RepD at he;subst he;cases ru;exact .none_none
  | bl b=>unfold RepD at he;subst he;cases ru;exact .none_bool _
  | int b=>unfold RepD at he;subst he;obtain⟨t,rfl⟩:=ru;exact .none_int _ _
  | str b=>unfold RepD at he;subst he;obtain⟨t,rfl⟩:=ru;exact .none_str _ _
  | tup es=>unfold RepD at he;obtain⟨a,vs,rfl,q,_⟩:=he;cases ru;obtain⟨its,_,q⟩:=isT q;exact .none_tuple q hu0
  | lst es=>unfold RepD at he;obtain⟨a,vs,rfl,q,_⟩:=he;cases ru;obtain⟨its,_,q⟩:=isL q;exact .none_list q hu0
 | bl x =>
  unfold RepD at hv;subst hv;cases rv;cases e with
  | non=>unfold RepD at he;subst he;cases ru;exact .bool_none _
  | bl b=>unfold RepD at he;subst he;cases ru;exact .bool_bool _ _
  | int b=>unfold RepD at he;subst he;obtain⟨t,rfl⟩:=ru;exact .bool_int _ _ _
  | str b=>unfold RepD at he;subst he;obtain⟨t,rfl⟩:=ru;exact .bool_str _ _ _
  | tup es=>unfold RepD at he;obtain⟨a,vs,rfl,q,_⟩:=he;cases ru;obtain⟨its,_,q⟩:=isT q;exact .bool_tuple _ q hu0
  | lst es=>unfold RepD at he;obtain⟨a,vs,rfl,q,_⟩:=he;cases ru;obtain⟨its,_,q⟩:=isL q;exact .bool_list _ q hu0
 | int x =>
  unfold RepD at hv;subst hv;obtain⟨t0,rfl⟩:=rv;cases e with
  | non=>unfold RepD at he;subst he;cases ru;exact .int_none _ _
  | bl b=>unfold RepD at he;subst he;cases ru;exact .int_bool _ _ _
  | int b=>unfold RepD at he;subst he;obtain⟨t,rfl⟩:=ru;exact .int_int _ _ _ _
  | str b=>unfold RepD at he;subst he;obtain⟨t,rfl⟩:=ru;exact .int_str _ _ _ _
  | tup es=>unfold RepD at he;obtain⟨a,vs,rfl,q,_⟩:=he;cases ru;obtain⟨its,_,q⟩:=isT q;exact .int_tuple _ _ q hu0
  | lst es=>unfold RepD at he;obtain⟨a,vs,rfl,q,_⟩:=he;cases ru;obtain⟨its,_,q⟩:=isL q;exact .int_list _ _ q hu0
 | str x =>
  unfold RepD at hv;subst hv;obtain⟨t0,rfl⟩:=rv;cases e with
  | non=>unfold RepD at he;subst he;cases ru;exact .str_none _ _
  | bl b=>unfold RepD at he;subst he;cases ru;exact .str_bool _ _ _
  | int b=>unfold RepD at he;subst he;obtain⟨t,rfl⟩:=ru;exact .str_int _ _ _ _
  | str b=>unfold RepD at he;subst he;obtain⟨t,rfl⟩:=ru;exact .str_str _ _ _ _
  | tup es=>unfold RepD at he;obtain⟨a,vs,rfl,q,_⟩:=he;cases ru;obtain⟨its,_,q⟩:=isT q;exact .str_tuple _ _ q hu0
  | lst es=>unfold RepD at he;obtain⟨a,vs,rfl,q,_⟩:=he;cases ru;obtain⟨its,_,q⟩:=isL q;exact .str_list _ _ q hu0
 | tup ds =>
  unfold RepD at hv;obtain⟨a,vs,rfl,q,hq⟩:=hv;cases rv
  obtain⟨its,r1,q1⟩:=isT q;cases e with
  | non=>unfold RepD at he;subst he;cases ru;exact .tuple_none q1 hu0
  | bl b=>unfold RepD at he;subst he;cases ru;exact .tuple_bool _ q1 hu0
  | int b=>unfold RepD at he;subst he;obtain⟨t,rfl⟩:=ru;exact .tuple_int _ _ q1 hu0
  | str b=>unfold RepD at he;subst he;obtain⟨t,rfl⟩:=ru;exact .tuple_str _ _ q1 hu0
  | lst es=>unfold RepD at he;obtain⟨b,ws,rfl,g,_⟩:=he;cases ru;obtain⟨its2,_,g1⟩:=isL g;exact .tuple_list q1 g1 hu0
  | tup es =>
   unfold RepD at he;obtain⟨b,ws,rfl,g,hg⟩:=he;cases ru
   obtain⟨its2,r2,g1⟩:=isT g;have hd':depths ds+1<=60:=by simpa [D.depth] using hd
   have l1:=r1.length;have l2:=r2.length;have m1:=hq.length;have m2:=hg.length;have:=G0 (e:=mP ds es) q1 g1 hu0 (iU I (λ{A} {v} {u} {vv} {uu} {d} {e} a1 a2 a3 a4 a5 a6=>(sf I 60 a1 a2 a3 a4 a5 a6).2) (A:=A.in1) (by rw[g7];omega) (m:=60) (by omega) r1 r2 hq hg);rw[li,li]at this;unfold eqD;by_cases hl:ds.length=es.length
   ·have z:(its.length==its2.length)=true:=by rw[beq_iff_eq];omega
    have mm:min its.length its2.length=ds.length:=by omega
    rw[z,EC,mm,eC hl]at this;exact this
   ·have z:(its.length==its2.length)=false:=by rw[beq_eq_false_iff_ne];omega
    rw[z,Dh]at this;rw[dq hl];exact this
 | lst ds =>
  unfold RepD at hv;obtain⟨a,vs,rfl,q,hq⟩:=hv;cases rv
  obtain⟨its,r1,q1⟩:=isL q;cases e with
  | non=>unfold RepD at he;subst he;cases ru;exact .list_none q1 hu0
  | bl b=>unfold RepD at he;subst he;cases ru;exact .list_bool _ q1 hu0
  | int b=>unfold RepD at he;subst he;obtain⟨t,rfl⟩:=ru;exact .list_int _ _ q1 hu0
  | str b=>unfold RepD at he;subst he;obtain⟨t,rfl⟩:=ru;exact .list_str _ _ q1 hu0
  | tup es=>unfold RepD at he;obtain⟨b,ws,rfl,g,_⟩:=he;cases ru;obtain⟨its2,_,g1⟩:=isT g;exact .list_tuple q1 g1 hu0
  | lst es =>
   unfold RepD at he;obtain⟨b,ws,rfl,g,hg⟩:=he;cases ru
   obtain⟨its2,r2,g1⟩:=isL g;have hd':depths ds+1<=60:=by simpa [D.depth] using hd
   have l1:=r1.length;have l2:=r2.length;have m1:=hq.length;have m2:=hg.length;unfold eqD;by_cases hl:ds.length=es.length
   ·have:=G2 (e:=mP ds es) q1 g1 (by rw[li,li];omega) hu0 (iU I (λ{A} {v} {u} {vv} {uu} {d} {e} a1 a2 a3 a4 a5 a6=>(sf I 60 a1 a2 a3 a4 a5 a6).2) (A:=A.in1) (by rw[g7];omega) (m:=60) (by omega) r1 r2 hq hg);rw[li,show its.length=ds.length by omega,eC hl]at this;exact this
   ·rw[dq hl];exact G1 q1 g1 (by rw[li,li,bne_iff_ne];omega) hu0
theorem fC (hu:X.A.units+64<CH)(hK:X.K=K:=by rfl):OpR X (Bv .NotEq) (rNeD K):=by
 subst hK;intro pins s σ H x y v u Q I rx ry h;obtain⟨d,e,hd,he,hz,q⟩:=h;exact x5 I hz (by omega) rx ry hd he X.prog X.w _ _ ⟨.bl _,H,I,rfl,q⟩
theorem gA (ns:List Int):∀j,j<=ns.length->preSum (λi=>ns.getD i 0) j=(ns.take j).sum
 | 0,_=>by simp[preSum]
 | j+1,h=>by
  rw[preSum,gA ns j (by omega),Bb,Gb];have:ns[j]? = some ns[j]:=bv (by omega);rw[this,bi,this];simp
theorem iY {ns:List Int}(h:∀n∈ns,0<=n):∀j,0<=(ns.take j).sum/\(ns.take j).sum<=ns.sum:=by
 induction ns with
 | nil=>intro j;simp
 | cons a r ih =>
  intro j;have ha:=h a z7;have ih':=ih λn hn=>h n (zO _ hn);have h0:=ih' r.length;rw[AW]at h0;cases j with
  | zero=>simp;omega
  | succ j =>
   have:=ih' j;simp only[List.take_succ_cons,Dy];omega
theorem qK {ns:List Int}(h:∀n∈ns,0<=n):∀n∈ns,n<=ns.sum:=by
 induction ns with
 | nil=>intro n hn;cases hn
 | cons a r ih =>
  intro n hn;have ha:=h a z7;have hr:∀n∈r,0<=n:=λn hn=>h n (zO _ hn);have h0:=iY hr r.length;rw[AW]at h0;rw[Dy];rcases wS.mp hn with rfl | hn
  ·omega
  ·have:=ih hr n hn;omega
theorem tS (hc:X.calm=true)(hK:X.K=K:=by rfl):iw X (.builtin "sum") (λxs H Q=>∃(p:Addr) (ns:List Int),xs=[.ref p]/\SqL K H p (ns.map V.int)/\(∀n∈ns,0<=n)/\ns.sum<2^62/\Q (.int ns.sum) H):=by
 subst hK;intro pins s σ H xs us Q I r h;obtain⟨p,ns,rfl,hq,h0,hb,q⟩:=h;obtain⟨u,rfl,ru⟩:=kN r;cases ru
 obtain⟨its,rv,pl,hz⟩:=I.list hq;refine call_sum_walk (Ec pl.isList ?_);have hne:p≠s.heap.objs.size:=zM (by obtain⟨o,n,e,_⟩:=pl;exact lc e);have hl:its.length=ns.length:=by have:=rv.length;rw[im]at this;omega
 refine⟨s.heap.objs.size,_,_,_,_,_,λi=>ns.getD i 0,rfl,GQ (A:=X.A.in1) (show X.A.in1.handled=none from I.ok.hd hc) s.heap.objs.size p hne its.toArray,⟨⟨_,wP _ rfl,rfl,rfl⟩,?_⟩,λb hb=>?_,λi v hv=>?_,λj hj=>?_,λh' tk t' hk=>?_⟩
 ·exact pl.isList.at λo e=>dL _ e
 ·rw[A2];rcases wS.mp hb with rfl | hb
  ·exact C0 _
  ·rw[Ac.mp hb];obtain⟨o,n,e,_⟩:=pl;exact DO (lc e)
 ·have hv':its[i]? = some v:=by simpa using hv
  have hi:i<its.length:=(kt.mp hv').1;obtain⟨w,e1,e2⟩:=rv.get (i:=i) (x:=V.int ns[i]) (by rw[lw,bv (by omega)];rfl);rw[hv']at e1;cases e1;obtain⟨t,rfl⟩:=e2;exact⟨t,by show _=Value.int (ns.getD i 0) t;rw[bi,bv (by omega)];rfl⟩
 ·rw[li]at hj;have m1:ns.getD j 0∈ns:=by
   rw[bi,bv (by omega)];exact Au _
  have a1:=h0 _ m1;have a2:=qK h0 _ m1;have a3:=iY h0 (j+1);rw[gA ns (j+1) (by omega)];exact⟨⟨by show _<=ns.getD j 0;omega,by show ns.getD j 0<_;omega⟩,by omega,by omega⟩
 ·rw[li,hl,gA ns _ (lm _),AW];refine⟨.int ns.sum,H,I.kept λb o e=>?_,⟨_,rfl⟩,q⟩;refine hk b o (λz=>?_) (dL _ e);rw[Ac.mp z]at e;exact absurd (lc e) (AZ _)
theorem m7 (hc:X.calm=true)(hK:X.K=K:=by rfl):iw X (.builtin "all") (λxs H Q=>∃(p:Addr) (bs:List Bool),xs=[.ref p]/\SqL K H p (bs.map V.bl)/\Q (.bl (bs.all id)) H):=by
 subst hK;intro pins s σ H xs us Q I r h;obtain⟨p,bs,rfl,hq,q⟩:=h;obtain⟨u,rfl,ru⟩:=kN r;cases ru
 obtain⟨its,rv,pl,hz⟩:=I.list hq;refine call_all_walk (Ec pl.isList ?_);have hne:p≠s.heap.objs.size:=zM (by obtain⟨o,n,e,_⟩:=pl;exact lc e);have hl:its.length=bs.length:=by have:=rv.length;rw[im]at this;omega
 refine⟨s.heap.objs.size,_,_,_,_,_,λi=>bs.getD i true,rfl,GQ (A:=X.A.in1) (show X.A.in1.handled=none from I.ok.hd hc) s.heap.objs.size p hne its.toArray,⟨⟨_,wP _ rfl,rfl,rfl⟩,?_⟩,λi v s' Q' E' hv hQ'=>?_,λh' tk hk=>?_⟩
 ·exact pl.isList.at λo e=>dL _ e
 ·have hv':its[i]? = some v:=by simpa using hv
  have hi:i<its.length:=(kt.mp hv').1;obtain⟨w,e1,e2⟩:=rv.get (i:=i) (x:=V.bl bs[i]) (by rw[lw,bv (by omega)];rfl);rw[hv']at e1;cases e1;cases e2
  have hQ2:Q' (bs.getD i true) s':=hQ';rw[bi,bv (by omega)]at hQ2;exact Bf hQ2
 ·rw[li,hl];have e:((wr bs.length).all λi=>bs.getD i true)=bs.all id:=by
   rw[Db];simp only[A8,Ah,id];constructor
   ·intro g b hb;obtain⟨i,hi,rfl⟩:=List.getElem_of_mem hb;have:=g i hi;rw[bi,bv hi]at this;exact this
   ·intro g i hi;rw[bi,bv hi];exact g _ (Au _)
  rw[e];refine⟨.bl (bs.all id),H,I.kept λb o e=>?_,rfl,q⟩;refine hk b o (λz=>?_) (dL _ e);rw[Ac.mp z]at e;exact absurd (lc e) (AZ _)
end
def dR (ks:List Nat):Nat:=ks.foldl (λr k=>r ^^^ (1 <<< k)) 0
theorem ib (ks:List Nat)(k:Nat):dR (ks++[k])=dR ks ^^^ (1 <<< k):=by
 unfold dR;rw[Br];rfl
theorem mh (k:Nat):∀ks:List Nat,(dR ks).testBit k=decide (ks.count k % 2=1):=by
 intro ks;have gen:∀(ks:List Nat) (r:Nat),(ks.foldl (λr k=>r ^^^ (1 <<< k)) r).testBit k=(r.testBit k ^^ decide (ks.count k % 2=1)):=by
  intro ks;induction ks with
  | nil=>intro r;simp
  | cons a t ih =>
   intro r;rw[Bd,ih,BZ,Cb,Dx,List.count_cons];by_cases h:a=k
   ·subst h;simp only[decide_true,beq_self_eq_true,if_true];rcases z5 (t.count a)with p | p
    ·have q:(t.count a+1) % 2=1:=by omega
     simp[p,q]
    ·have q:(t.count a+1) % 2=0:=by omega
     simp[p,q]
   ·have hb:(a==k)=false:=beq_eq_false_iff_ne.mpr h;simp[h,hb]
 have:=gen ks 0;simpa [dR] using this
theorem uA {ks:List Nat}{m:Nat}(h:∀k∈ks,k<m):dR ks<2^m:=by
 apply Ey;intro k hk;rw[mh];have:ks.count k=0:=List.count_eq_zero.mpr λq=>by have:=h k q;omega
 simp[this]
abbrev natsD (ks:List Nat):List D:=ks.map λj=>D.int (j:Nat)
section
variable {X:Cx}
theorem iK {x:Str}{v:V}{pos:Pos}(h:∃u,X.mg x=some u/\RelV v u)(hg:Gl X x)(hd:(x==("__debug__" : Str))=false:=by decide):PE X (.Name x pos) (tC v):=by
 obtain⟨u,hm,r⟩:=h;exact wD hg hm r hd
end
structure Net where
 m:Nat
 js:List (Nat×Nat)
 os:List Nat
abbrev aN (p:Nat×Nat):D:=.tup [.int (p.1:Nat),.int (p.2:Nat)]
def netD (N:Net):D:=.tup [.int (N.m:Nat),.tup (N.js.map aN),.tup (natsD N.os)]
def aF (rows:List Nat)(p:Nat×Nat):List Nat:=rows++[rows.getD p.1 0 ^^^ rows.getD p.2 0]
def aJ (m:Nat):List Nat:=(wr m).map λk=>1 <<< k
def cU (N:Net):List Nat:=N.js.foldl aF (aJ N.m)
def okIx:Nat->List (Nat×Nat)->Prop
 | _,[]=>True
 | n,p::r=>p.1<p.2/\p.2<n/\okIx (n+1) r
def okJs:List Nat->List (Nat×Nat)->Prop
 | _,[]=>True
 | rows,p::r=>p.1<p.2/\p.2<rows.length/\rows.getD p.1 0≠rows.getD p.2 0/\okJs (aF rows p) r
structure cf (N:Net):Prop where
 m1:1<=N.m
 m12:N.m<=12
 jl:N.js.length<=132
 js:okJs (aJ N.m) N.js
 o1:1<=N.os.length
 o24:N.os.length<=24
 os:∀o∈N.os,o<N.m+N.js.length
theorem cZ (rows:List Nat)(p:Nat×Nat):(aF rows p).length=rows.length+1:=by simp[aF]
theorem dF:∀ {js:List (Nat×Nat)} {rows:List Nat},okJs rows js->okIx rows.length js
 | [],_,_=>trivial
 | p::r,rows,h=>by
  obtain⟨h1,h2,_,h4⟩:=h;have:=dF h4;rw[cZ]at this;exact⟨h1,h2,this⟩
theorem cq:∀ {js:List (Nat×Nat)} {n i:Nat} {p:Nat×Nat},okIx n js->js[i]? = some p->p.1<p.2/\p.2<n+i
 | [],_,_,_,_,h=>by simp at h
 | q::r,n,0,p,h,e=>by
  simp at e;subst e;exact⟨h.1,by have:=h.2.1;omega⟩
 | q::r,n,i+1,p,h,e=>by
  have:=cq (n:=n+1) (i:=i) (p:=p) h.2.2 (by simpa using e);exact⟨this.1,by omega⟩
theorem pO:∀ {js:List (Nat×Nat)} {rows:List Nat} {i:Nat} {p:Nat×Nat},okJs rows js->js[i]? = some p ->
  ((js.take i).foldl aF rows).getD p.1 0≠((js.take i).foldl aF rows).getD p.2 0
 | [],_,_,_,_,h=>by simp at h
 | q::r,rows,0,p,h,e=>by
  simp at e;subst e;exact h.2.2.1
 | q::r,rows,i+1,p,h,e=>pO (js:=r) (rows:=aF rows q) (i:=i) (p:=p) h.2.2.2 (by simpa using e)
theorem cP (js:List (Nat×Nat)):∀rows:List Nat,(js.foldl aF rows).length=rows.length+js.length:=by
 induction js with
 | nil=>intro rows;rfl
 | cons p r ih=>intro rows;rw[Bd,ih,cZ,zK];omega
theorem tG {js:List (Nat×Nat)}{i:Nat}{p:Nat×Nat}(h:js[i]? = some p)(rows:List Nat):(js.take (i+1)).foldl aF rows=aF ((js.take i).foldl aF rows) p:=by
 rw[Bb,h,CC,Br];rfl
theorem bu (m:Nat):(aJ m).length=m:=by simp[aJ]
theorem uz (N:Net):(cU N).length=N.m+N.js.length:=by unfold cU;rw[cP,bu]
def tyD:D->String
 | .non => "NoneType" | .bl _ => "bool" | .int _ => "int" | .str _ => "str" | .tup _ => "tuple" | .lst _ => "list"
theorem jN (K:ac){X:Cx}(hK:X.K=K:=by rfl):iw X (.builtin "isinstance") (λxs H Q=>∃x d T b,xs=[x,.ty T]/\RepD K H x d/\isaT (tyD d) T=some b/\Q (.bl b) H):=by
 subst hK;intro pins s σ H xs us Q I r h;obtain⟨x,d,T,b,rfl,hd,e,q⟩:=h;cases r with
 | cons r1 rr =>
  cases rr with
  | cons r2 rr =>
   cases rr
   cases (show _=Value.type T from r2)
   have e':∀ {t:String},tyD d=t->D6 X.K (.type t) (.type T)=some b:=λ{t} z=>by rw[<- z];exact uO.trans e
   have fin:∀tk,EP X pins σ Q (.bool b) {s with toks:=tk}:=λtk=>⟨.bl b,H,I.tok tk,rfl,q⟩
   cases d with
   | non=>unfold RepD at hd;subst hd;exact g6 I r1 .non (e' rfl) fin
   | bl y=>unfold RepD at hd;subst hd;exact g6 I r1 (.bl y) (e' rfl) fin
   | int y=>unfold RepD at hd;subst hd;exact g6 I r1 (.int y) (e' rfl) fin
   | str y=>unfold RepD at hd;subst hd;exact g6 I r1 (.str y) (e' rfl) fin
   | tup ds =>
    unfold RepD at hd;obtain⟨a,vs,rfl,hq,_⟩:=hd;cases r1
    obtain⟨its,_,⟨o,h1,h2,_⟩,_⟩:=I.tuple hq.sq;exact Ax EW I.kIn ⟨o,h1,h2⟩ (e' rfl) (λz=>nomatch z) fin
   | lst ds =>
    unfold RepD at hd;obtain⟨a,vs,rfl,hq,_⟩:=hd;cases r1
    obtain⟨its,_,⟨o,n,h1,h2,_⟩,_⟩:=I.list (StL.sq hq);exact Ax Du I.kIn ⟨o,h1,h2⟩ (e' rfl) (λz=>nomatch z) fin
theorem jt:∀ {js:List (Nat×Nat)} {rows:List Nat} {p:Nat×Nat},okJs rows js->p.1<p.2->p.2<rows.length+js.length->(js.foldl aF rows).getD p.1 0≠(js.foldl aF rows).getD p.2 0->okJs rows (js++[p])
 | [],rows,p,_,h1,h2,h3=>⟨h1,by simpa using h2,h3,trivial⟩
 | q::r,rows,p,h,h1,h2,h3=>⟨h.1,h.2.1,h.2.2.1,jt h.2.2.2 h1 (by rw[cZ];simp at h2;omega) h3⟩
inductive Sv where
 | un | vl (d:D) | ow (ds:List D) | tp (n:Nat) | dk (kvs:List (Key×D)) | dt (kvs:List (List Key×D)) | ex (C:Addr) (fs:Option (List (Str×D))) | sc (ns:List Int) | px (d:D) (C:Addr) (fs:Option (List (Str×D))) | xl (es:List (Addr×Option (List (Str×D)))) | ob (C:Addr) (fs:List (Str×D)) | ll (xss:List (List D)) | ds (C:Addr) (n w:List (Key×D))
def Sv.own:Sv->Bool
 | .ow _=>true
 | .tp _=>true
 | .dk _=>true
 | .dt _=>true
 | .ll _=>true
 | .ds _ _ _=>true
 | _=>false
abbrev En:=List Sv
inductive R where
 | d (d:D) | o (i:Nat) | n (s:Sv) | t (n:String) | x (s:Sv)
abbrev R.f (ds:List D):R:=.n (.ow ds)
def gt:En->Nat->Sv
 | [],_=>.un
 | s::_,0=>s
 | _::r,n+1=>gt r n
def pt:En->Nat->Sv->En
 | [],_,_=>[]
 | _::r,0,s=>s::r
 | x::r,n+1,s=>x::pt r n s
theorem fw:∀(ρ:En) (i:Nat) (s:Sv),(pt ρ i s).length=ρ.length
 | [],_,_=>rfl
 | _::_,0,_=>rfl
 | x::r,n+1,s=>by simp[pt,fw r n s]
theorem bM:∀(ρ:En) (i j:Nat) (s:Sv),i≠j->gt (pt ρ i s) j=gt ρ j
 | [],_,_,_,_=>rfl
 | _::_,0,0,_,h=>absurd rfl h
 | _::_,0,j+1,_,_=>rfl
 | x::r,i+1,0,s,_=>rfl
 | x::r,i+1,j+1,s,h=>bM r i j s (by omega)
theorem j8:∀(ρ:En) (i:Nat) (s:Sv),i<ρ.length->gt (pt ρ i s) i=s
 | [],_,_,h=>by simp at h
 | _::_,0,_,_=>rfl
 | x::r,i+1,s,h=>j8 r i s (by simpa using h)
theorem iE:∀(ρ:En) (i:Nat),ρ.length<=i->gt ρ i = .un
 | [],_,_=>rfl
 | x::r,0,h=>by simp at h
 | x::r,i+1,h=>iE r i (by simpa using h)
theorem jn {ρ:En}{i:Nat}(h:(gt ρ i).own=true):i<ρ.length:=by
 rcases sK i ρ.length with q | q
 ·exact q
 ·rw[iE ρ i q]at h;cases h
def bR (σ:St)(ρ:En)(a:Addr):Prop:=∃i,(gt ρ i).own=true/\σ[i]? = some (some (.ref a))
open Classical in
noncomputable def hid (H:Hp)(S:Addr->Prop):Hp:=λa=>if S a then none else H a
theorem dz {H:Hp}{S:Addr->Prop}{a:Addr}{o:HO}:hid H S a=some o↔¬S a/\H a=some o:=by
 unfold hid;split
 ·rename_i h;simp[h]
 ·rename_i h;simp[h]
theorem eB {H:Hp}{S:Addr->Prop}{a:Addr}{o:HO}(h:¬S a)(e:H a=some o):hid H S a=some o:=dz.mpr ⟨h,e⟩
theorem bP {H H':Hp}{S S':Addr->Prop}(h:∀a o,H a=some o->¬S a->H' a=some o/\¬S' a):Same (hid H S) (hid H' S'):=λa o e=>by
 obtain⟨n,e⟩:=dz.mp e;obtain⟨e',n'⟩:=h a o e n;exact eB n' e'
theorem bW {H:Hp}{S:Addr->Prop}:Same (hid H S) H:=λa o e=>(dz.mp e).2
structure Fr where
 H0:Hp
 Z:Addr->Prop
 M:Addr->Prop
 I:Nat->Addr->Prop
 P:Nat->Addr->Prop
def Fr.pin (F:Fr)(i:Nat)(a:Addr):Prop:=F.I i a∨F.P i a
def hs (F:Fr)(σ:St)(ρ:En):Addr->Prop:=λa=>F.Z a∨bR σ ρ a
def exP (e C:Addr)(od:Option Addr):Heap->Prop:=λh=>∃oe vs,h.get? e=some oe/\oe.cls = .ref C/\oe.dict=od/\oe.data = .fields vs
def exD (K:ac)(Hh:Hp):Option (List (Str×D))->Option Addr->Prop
 | none,none=>True
 | some fs,some dx=>∃ks,Hh dx=some (.xd ks)/\ks.map Al=fs.map Al/\RepDs K Hh (ks.map AD) (fs.map AD)
 | _,_=>False
theorem exD.same {K:ac}{Hh Hh':Hp}:∀ {fs:Option (List (Str×D))} {od:Option Addr},exD K Hh fs od->Same Hh Hh'->exD K Hh' fs od
 | none,none,h,_=>h
 | some fs,some dx,⟨ks,h1,h2,h3⟩,g=>⟨ks,g _ _ h1,h2,h3.same g⟩
 | none,some _,h,_=>h.elim
 | some _,none,h,_=>h.elim
def Exs (K:ac)(Hh:Hp):List V->List (Addr×Option (List (Str×D)))->Prop
 | [],[]=>True
 | x::vs,c::es=>(∃e od,x = .ref e/\Hh e=some (.ext (exP e c.1 od))/\exD K Hh c.2 od)/\Exs K Hh vs es
 | _,_=>False
theorem Exs.same {K:ac}{Hh Hh':Hp}:∀ {vs:List V} {es:List (Addr×Option (List (Str×D)))},Exs K Hh vs es->Same Hh Hh'->Exs K Hh' vs es
 | [],[],h,_=>h
 | x::vs,c::es,⟨⟨e,od,h1,h2,h3⟩,h4⟩,g=>⟨⟨e,od,h1,g _ _ h2,h3.same g⟩,Exs.same h4 g⟩
 | [],_::_,h,_=>h.elim
 | _::_,[],h,_=>h.elim
def LlP (a:Addr)(bs:List Addr)(vss:List (List V)):wE->z8->Heap->Prop:=λ_ _ h=>bs.length<=xz/\bs.Nodup/\(∃n,h.get? a=some {cls:=.type "list",data:=.seq (bs.map Value.ref).toArray n})/\vss.length=bs.length /\
 ∀(k:Nat) (b:Addr) (vs:List V),bs[k]? = some b->vss[k]? = some vs->vs.length<=xz/\∃(its:List bd) (n:Nat),Vals vs its/\h.get? b=some {cls:=.type "list",data:=.seq its.toArray n}
def uf (K:ac)(H:Hp)(vss:List (List V))(dss:List (List D)):Prop:=vss.length=dss.length/\∀(k:Nat) (vs:List V) (ds:List D),vss[k]? = some vs->dss[k]? = some ds->RepDs K H vs ds
theorem uf.same {K:ac}{H H':Hp}{vss:List (List V)}{dss:List (List D)}(h:uf K H vss dss)(g:Same H H'):uf K H' vss dss:=⟨h.1,λk vs ds a b=>(h.2 k vs ds a b).same g⟩
def DsP (x C dx d1 d2:Addr)(f1 f2:Str)(k1 k2:List (Key×V)):wE->z8->Heap->Prop:=λP w h=>dx≠x/\d1≠x/\d2≠x/\dx≠d1/\dx≠d2/\d1≠d2/\cw P w (λb=>if b=dx then some (.own x)else none) h x (.ins C dx [(f1,.ref d1),(f2,.ref d2)]) /\
 cw P w (λ_=>none) h d1 (.dK k1)/\cw P w (λ_=>none) h d2 (.dK k2)
def SvOk (K:ac)(Hh H:Hp)(v:Option (Option V)):Sv->Prop
 | .xl es=>∃l vs,v=some (some (.ref l))/\Hh l=some (.lst vs)/\Exs K Hh vs es
 | .ob C fs=>∃a dx ks,v=some (some (.ref a))/\Hh a=some (.ins C dx ks)/\ks.map Al=fs.map Al/\RepDs K Hh (ks.map AD) (fs.map AD)
 | .ll xss=>∃l bs vss,v=some (some (.ref l))/\H l=some (.big bs (LlP l bs vss))/\uf K Hh vss xss
 | .ds C n w=>∃x dx d1 d2 k1 k2,v=some (some (.ref x))/\H x=some (.big [dx,d1,d2] (DsP x C dx d1 d2 "nets" "wishes" k1 k2))/\k1.map Al=n.map Al/\RepDs K Hh (k1.map AD) (n.map AD)/\k2.map Al=w.map Al/\RepDs K Hh (k2.map AD) (w.map AD)
 | .px d C fs=>∃p x e od,v=some (some (.ref p))/\Hh p=some (.tup [x,.ref e])/\RepD K Hh x d/\Hh e=some (.ext (exP e C od))/\exD K Hh fs od
 | .sc ns=>∃c,v=some (some (.ref c))/\SqL K Hh c (List.map V.int ns)
 | .ex C fs=>∃e od,v=some (some (.ref e))/\Hh e=some (.ext (exP e C od))/\exD K Hh fs od
 | .un=>True
 | .vl d=>∃x,v=some (some x)/\RepD K Hh x d
 | .ow ds=>∃l vs,v=some (some (.ref l))/\H l=some (.lst vs)/\RepDs K Hh vs ds
 | .tp n=>∃t c ns sp lf,v=some (some (.ref t))/\H t=some (.dK (cy c sp lf))/\SqL K Hh c (List.map V.int ns)/\0<=sp/\sp<=n/\0<=lf
 | .dk kvs=>∃t ks,v=some (some (.ref t))/\H t=some (.dK ks)/\ks.map Al=kvs.map Al/\RepDs K Hh (ks.map AD) (kvs.map AD)
 | .dt kvs=>∃t ks,v=some (some (.ref t))/\H t=some (.dT ks)/\ks.map Al=kvs.map Al/\RepDs K Hh (ks.map AD) (kvs.map AD)
theorem SvOk.keep {K:ac}{Hh Hh' H H':Hp}{v:Option (Option V)}{s:Sv}(h:SvOk K Hh H v s)(g:Same Hh Hh')(k:∀l o,s.own=true->v=some (some (.ref l))->H l=some o->H' l=some o):SvOk K Hh' H' v s:=by
 cases s with
 | un=>trivial
 | vl d=>obtain⟨x,e,r⟩:=h;exact⟨x,e,r.same g⟩
 | ow ds=>obtain⟨l,vs,e,a,r⟩:=h;exact⟨l,vs,e,k _ _ rfl e a,r.same g⟩
 | tp n=>obtain⟨t,c,ns,sp,lf,e,a,b,r⟩:=h;exact⟨t,c,ns,sp,lf,e,k _ _ rfl e a,g.seq b,r⟩
 | dk kvs=>obtain⟨t,ks,e,a,b,r⟩:=h;exact⟨t,ks,e,k _ _ rfl e a,b,r.same g⟩
 | dt kvs=>obtain⟨t,ks,e,a,b,r⟩:=h;exact⟨t,ks,e,k _ _ rfl e a,b,r.same g⟩
 | ex C fs=>obtain⟨t,od,e,a,b⟩:=h;exact⟨t,od,e,g _ _ a,b.same g⟩
 | sc ns=>obtain⟨c,e,a⟩:=h;exact⟨c,e,g.seq a⟩
 | px d C fs=>obtain⟨p,x,e,od,a,b,c,d',e'⟩:=h;exact⟨p,x,e,od,a,g _ _ b,c.same g,g _ _ d',e'.same g⟩
 | xl es=>obtain⟨p,vs,a,b,c⟩:=h;exact⟨p,vs,a,g _ _ b,c.same g⟩
 | ob C fs=>obtain⟨p,dx,ks,a,b,c,d⟩:=h;exact⟨p,dx,ks,a,g _ _ b,c,d.same g⟩
 | ll xss=>obtain⟨l,bs,vss,e,a,r⟩:=h;exact⟨l,bs,vss,e,k _ _ rfl e a,r.same g⟩
 | ds C n w=>obtain⟨x,dx,d1,d2,k1,k2,e,a,r1,r2,r3,r4⟩:=h;exact⟨x,dx,d1,d2,k1,k2,e,k _ _ rfl e a,r1,r2.same g,r3,r4.same g⟩
theorem SvOk.alive {K:ac}{Hh H:Hp}{v:Option (Option V)}{s:Sv}(h:SvOk K Hh H v s)(ho:s.own=true):∃l o,v=some (some (.ref l))/\H l=some o:=by
 cases s with
 | un=>cases ho
 | vl d=>cases ho
 | ow ds=>obtain⟨l,vs,e,a,r⟩:=h;exact⟨l,_,e,a⟩
 | tp n=>obtain⟨t,c,ns,sp,lf,e,a,b,r⟩:=h;exact⟨t,_,e,a⟩
 | dk kvs=>obtain⟨t,ks,e,a,b,r⟩:=h;exact⟨t,_,e,a⟩
 | dt kvs=>obtain⟨t,ks,e,a,b,r⟩:=h;exact⟨t,_,e,a⟩
 | ex C fs=>cases ho
 | sc ns=>cases ho
 | px d C fs=>cases ho
 | xl es=>cases ho
 | ob C fs=>cases ho
 | ll xss=>obtain⟨l,bs,vss,e,a,r⟩:=h;exact⟨l,_,e,a⟩
 | ds C n w=>obtain⟨x,dx,d1,d2,k1,k2,e,a,r⟩:=h;exact⟨x,_,e,a⟩
def Nt (H:Hp)(a:Addr):Prop:=H a≠none/\∀xs,H a≠some (.tup xs)
theorem yo {H:Hp}{a l:Addr}{o:HO}(al:a≠l)(h:Nt H a):Nt (upd H l o) a:=by unfold Nt;rw[aW al];exact h
structure Rel (K:ac)(F:Fr)(σ:St)(ρ:En)(H:Hp):Prop where
 len:σ.length=ρ.length
 fr:∀a o,F.H0 a=some o->¬F.M a->H a=some o
 zl:∀a,F.Z a->Nt H a
 zo:∀a,bR σ ρ a->¬F.Z a
 ow:∀i a,(gt ρ i).own=true->σ[i]? = some (some (.ref a))->(F.I i a/\F.M a)∨F.H0 a=none
 mi:∀i a,F.pin i a->σ[i]? = some (some (.ref a))
 ml:∀a,F.M a->F.H0 a≠none
 ma:∀a,F.M a->H a≠none
 nd:∀i j a,(gt ρ i).own=true->(gt ρ j).own=true->σ[i]? = some (some (.ref a))->σ[j]? = some (some (.ref a))->i=j
 sl:∀i,SvOk K (hid H (hs F σ ρ)) H σ[i]? (gt ρ i)
structure Kp (σ:St)(ρ ρ':En)(H H':Hp):Prop where
 st:∀a o,H a=some o->¬bR σ ρ a->H' a=some o
 sb:∀i,(gt ρ' i).own=true->(gt ρ i).own=true
theorem Kp.so {σ:St}{ρ ρ':En}{H H':Hp}(k:Kp σ ρ ρ' H H'){a:Addr}(h:bR σ ρ' a):bR σ ρ a:=by
 obtain⟨i,hi,e⟩:=h;exact⟨i,k.sb i hi,e⟩
theorem Kp.refl {σ:St}{ρ:En}{H:Hp}:Kp σ ρ ρ H H:=⟨λ_ _ e _=>e,λ_ h=>h⟩
theorem Kp.trans {σ:St}{ρ ρ1 ρ2:En}{H H1 H2:Hp}(a:Kp σ ρ ρ1 H H1)(b:Kp σ ρ1 ρ2 H1 H2):Kp σ ρ ρ2 H H2 :=
 ⟨λx o e n=>b.st x o (a.st x o e n) λz=>n (a.so z),λx z=>a.sb x (b.sb x z)⟩
theorem Kp.fresh {σ:St}{ρ:En}{H:Hp}{l:Addr}{o:HO}(h:H l=none):Kp σ ρ ρ H (upd H l o) :=
 ⟨λa u e _=>by rw[aW (bB e h)];exact e,λ_ h=>h⟩
section
variable {K:ac}{F:Fr}{σ:St}{ρ ρ':En}{H H':Hp}
theorem dE (r:Rel K F σ ρ H){a:Addr}(h:bR σ ρ a):H a≠none:=by
 obtain⟨i,hi,e⟩:=h;obtain⟨l,o,e',h'⟩:=(r.sl i).alive hi;rw[e]at e';injection e' with e';injection e' with e';injection e' with e';rw[e',h'];exact λz=>nomatch z
theorem pX (r:Rel K F σ ρ H){a:Addr}(h:hs F σ ρ a):H a≠none:=by
 rcases h with h | h
 ·exact(r.zl a h).1
 ·exact dE r h
theorem SvOk.nt {K:ac}{Hh H:Hp}{v:Option (Option V)}{s:Sv}(h:SvOk K Hh H v s)(ho:s.own=true):∃l,v=some (some (.ref l))/\Nt H l:=by
 cases s with
 | un=>cases ho
 | vl d=>cases ho
 | ow ds=>obtain⟨l,vs,e,a,r⟩:=h;exact⟨l,e,by rw[a];exact(λz=>nomatch z),by rw[a];exact λ_ z=>nomatch z⟩
 | tp n=>obtain⟨l,c,ns,sp,lf,e,a,b,r⟩:=h;exact⟨l,e,by rw[a];exact(λz=>nomatch z),by rw[a];exact λ_ z=>nomatch z⟩
 | dk kvs=>obtain⟨l,ks,e,a,b,r⟩:=h;exact⟨l,e,by rw[a];exact(λz=>nomatch z),by rw[a];exact λ_ z=>nomatch z⟩
 | dt kvs=>obtain⟨l,ks,e,a,b,r⟩:=h;exact⟨l,e,by rw[a];exact(λz=>nomatch z),by rw[a];exact λ_ z=>nomatch z⟩
 | ex C fs=>cases ho
 | sc ns=>cases ho
 | px d C fs=>cases ho
 | xl es=>cases ho
 | ob C fs=>cases ho
 | ll xss=>obtain⟨l,bs,vss,e,a,r⟩:=h;exact⟨l,e,by rw[a];exact(λz=>nomatch z),by rw[a];exact λ_ z=>nomatch z⟩
 | ds C n w=>obtain⟨l,dx,d1,d2,k1,k2,e,a,r⟩:=h;exact⟨l,e,by rw[a];exact(λz=>nomatch z),by rw[a];exact λ_ z=>nomatch z⟩
theorem pK (r:Rel K F σ ρ H){a:Addr}(h:bR σ ρ a):Nt H a:=by
 obtain⟨i,hi,e⟩:=h;obtain⟨l,e',h'⟩:=(r.sl i).nt hi;rw[e]at e';injection e' with e';injection e' with e';injection e' with e';rw[e'];exact h'
theorem uQ (r:Rel K F σ ρ H){a:Addr}(h:hs F σ ρ a):Nt H a:=by
 rcases h with h | h
 ·exact r.zl a h
 ·exact pK r h
theorem jE (r:Rel K F σ ρ H){l:Addr}(h:H l=none):¬hs F σ ρ l:=λz=>pX r z h
theorem uS (r:Rel K F σ ρ H){l:Addr}(h:H l=none):F.H0 l=none:=by
 cases h0:F.H0 l with
 | none=>rfl
 | some o =>
  by_cases q:F.M l
  ·exact absurd h (r.ma l q)
  ·have:=r.fr l o h0 q;rw[h]at this;cases this
theorem Kp.vis (k:Kp σ ρ ρ' H H'):Same (hid H (hs F σ ρ)) (hid H' (hs F σ ρ')):=bP λa o e n =>
 ⟨k.st a o e λz=>n (.inr z),λz=>by
  rcases z with z | z
  ·exact n (.inl z)
  ·exact n (.inr (k.so z))⟩
theorem qU {a:Addr}(g:Same H H')(h:H a≠none):H' a≠none:=λe=>by
 cases h':H a with
 | none=>exact h h'
 | some o=>rw[g a o h']at e;cases e
theorem xg {a:Addr}(g:Same H H')(h:Nt H a):Nt H' a:=by
 cases h':H a with
 | none=>exact(h.1 h').elim
 | some o =>
  have e:=g a o h';unfold Nt;rw[e,<- h'];exact h
theorem Rel.grow (r:Rel K F σ ρ H)(g:Same H H'):Rel K F σ ρ H' where
 len:=r.len
 fr:=λa o e n=>g a o (r.fr a o e n)
 zl:=λa z=>xg g (r.zl a z)
 zo:=r.zo
 ow:=r.ow
 mi:=r.mi
 ml:=r.ml
 ma:=λa z=>qU g (r.ma a z)
 nd:=r.nd
 sl:=λi=>(r.sl i).keep (bP λa o e n=>⟨g a o e,n⟩) λl o _ _ e=>g l o e
theorem Rel.fresh (r:Rel K F σ ρ H){l:Addr}{o:HO}(h:H l=none):Rel K F σ ρ (upd H l o):=r.grow ((Same.refl H).new h)
theorem sg:∀(ρ:En) (i:Nat) (s:Sv),ρ.length<=i->pt ρ i s=ρ
 | [],_,_,_=>rfl
 | x::r,0,s,h=>by simp at h
 | x::r,i+1,s,h=>by simp[pt,sg r i s (by simpa using h)]
theorem fB {i j:Nat}{s:Sv}(hs:s.own=false)(hj:(gt (pt ρ i s) j).own=true):i≠j/\(gt ρ j).own=true:=by
 by_cases ij:i=j
 ·subst ij;rcases sK i ρ.length with q | q
  ·rw[j8 ρ i s q,hs]at hj;cases hj
  ·rw[iE _ i (by rw[fw];exact q)]at hj;cases hj
 ·rw[bM ρ i j s ij]at hj;exact⟨ij,hj⟩
theorem Rel.setS (r:Rel K F σ ρ H){i:Nat}{v:V}{s:Sv}(hs':s.own=false)(hd:SvOk K (hid H (hs F σ ρ)) H (some (some v)) s)(hm:∀a,¬F.pin i a):Rel K F (σ.set i (some v)) (pt ρ i s) H:=by
 rcases sK i ρ.length with hi | hi;case inr =>
  rw[sg ρ i s hi,CU (by rw[r.len];exact hi)];exact r
 have sub:∀a,bR (σ.set i (some v)) (pt ρ i s) a->bR σ ρ a:=λa ⟨j,hj,e⟩=>by
  obtain⟨ij,hj⟩:=fB hs' hj;rw[zn ij]at e;exact⟨j,hj,e⟩
 have vis:Same (hid H (hs F σ ρ)) (hid H (hs F (σ.set i (some v)) (pt ρ i s))):=bP λa o e n=>⟨e,λz=>n (z.imp id (sub a))⟩
 refine⟨by rw[Bn,fw,r.len],r.fr,r.zl,λa h=>r.zo a (sub a h),λj a hj e=>?_,λj a h=>?_,r.ml,r.ma,λj k a hj hk ej ek=>?_,λj=>?_⟩
 ·obtain⟨ij,hj⟩:=fB hs' hj;rw[zn ij]at e;exact r.ow j a hj e
 ·have:i≠j:=λe=>hm a (e▸h);rw[zn this];exact r.mi j a h
 ·obtain⟨nj,hj⟩:=fB hs' hj;obtain⟨nk,hk⟩:=fB hs' hk;rw[zn nj]at ej;rw[zn nk]at ek;exact r.nd j k a hj hk ej ek
 ·by_cases ij:i=j
  ·subst ij;rw[j8 ρ i _ hi,Ap (by rw[r.len];exact hi)];exact hd.keep vis λl o ho=>by rw[hs']at ho;cases ho
  ·rw[bM ρ i j _ ij,zn ij];exact(r.sl j).keep vis λl o _ _ e=>e
theorem Rel.set (r:Rel K F σ ρ H){i:Nat}{v:V}{d:D}(hd:RepD K (hid H (hs F σ ρ)) v d)(hm:∀a,¬F.pin i a):Rel K F (σ.set i (some v)) (pt ρ i (.vl d)) H :=
 r.setS rfl ⟨v,rfl,hd⟩ hm
theorem Rel.setF (r:Rel K F σ ρ H){i:Nat}{l:Addr}{o:HO}{s:Sv}(hs':s.own=true)(hd:SvOk K (hid H (hs F σ ρ)) (upd H l o) (some (some (.ref l))) s)(hn:H l=none)(hm:∀a,¬F.pin i a) :
  Rel K F (σ.set i (some (.ref l))) (pt ρ i s) (upd H l o):=by
 have rf:=r.fresh (o:=o) hn;rcases sK i ρ.length with hi | hi;case inr =>
  rw[sg ρ i s hi,CU (by rw[r.len];exact hi)];exact rf
 have at1:∀ {a},(σ.set i (some (V.ref l)))[i]? = some (some (.ref a))->a=l:=λe=>by
  rw[Ap (by rw[r.len];exact hi)]at e;injection e with e;injection e with e;injection e with e;exact e.symm
 have sub:∀a,bR (σ.set i (some (.ref l))) (pt ρ i s) a->bR σ ρ a∨a=l:=λa h=>by
  obtain⟨j,hj,e⟩:=h;by_cases ij:i=j
  ·subst ij;exact .inr (at1 e)
  ·rw[bM ρ i j _ ij]at hj;rw[zn ij]at e;exact .inl ⟨j,hj,e⟩
 have vis:Same (hid H (hs F σ ρ)) (hid (upd H l o) (hs F (σ.set i (some (.ref l))) (pt ρ i s))):=bP λa u e n=>by
  have al:=bB e hn;refine⟨by rw[aW al];exact e,λz=>?_⟩;rcases z with z | z
  ·exact n (.inl z)
  ·rcases sub a z with z | z
   ·exact n (.inr z)
   ·exact al z
 have nol:∀j,(gt ρ j).own=true->σ[j]? ≠ some (some (.ref l)):=λj hj e=>dE r ⟨j,hj,e⟩ hn;refine⟨by rw[Bn,fw,r.len],rf.fr,rf.zl,λa h=>?_,λj a hj e=>?_,λj a h=>?_,r.ml,rf.ma,λj k a hj hk ej ek=>?_,λj=>?_⟩
 ·rcases sub a h with h | h
  ·exact r.zo a h
  ·subst h;exact λz=>(r.zl _ z).1 hn
 ·by_cases ij:i=j
  ·subst ij;rw[at1 e];exact .inr (uS r hn)
  ·rw[bM ρ i j _ ij]at hj;rw[zn ij]at e;exact r.ow j a hj e
 ·have:i≠j:=λe=>hm a (e▸h);rw[zn this];exact r.mi j a h
 ·by_cases nj:i=j
  ·by_cases nk:i=k
   ·omega
   ·subst nj;have:=at1 ej;subst this;rw[bM ρ i k _ nk]at hk;rw[zn nk]at ek;exact absurd ek (nol k hk)
  ·rw[bM ρ i j _ nj]at hj;rw[zn nj]at ej;by_cases nk:i=k
   ·subst nk;have:=at1 ek;subst this;exact absurd ej (nol j hj)
   ·rw[bM ρ i k _ nk]at hk;rw[zn nk]at ek;exact r.nd j k a hj hk ej ek
 ·by_cases ij:i=j
  ·subst ij;rw[j8 ρ i _ hi,Ap (by rw[r.len];exact hi)];exact hd.keep vis λ_ _ _ _ e=>e
  ·rw[bM ρ i j _ ij,zn ij];exact(r.sl j).keep vis λa o ho e h=>by
    rw[aW (bB h hn)];exact h
theorem Rel.write (r:Rel K F σ ρ H){i:Nat}{l:Addr}{o:HO}{s:Sv}(hi:(gt ρ i).own=true)(el:σ[i]? = some (some (.ref l)))(hs':s.own=true)(new:SvOk K (hid H (hs F σ ρ)) (upd H l o) (some (some (.ref l))) s):Rel K F σ (pt ρ i s) (upd H l o)/\Kp σ ρ (pt ρ i s) H (upd H l o):=by
 have lt:=jn hi;have own':∀j,(gt (pt ρ i s) j).own=true->(gt ρ j).own=true:=λj h=>by
  by_cases ij:i=j
  ·subst ij;exact hi
  ·rw[bM ρ i j _ ij]at h;exact h
 have sub:∀a,bR σ (pt ρ i s) a->bR σ ρ a:=λa ⟨j,hj,e⟩=>⟨j,own' j hj,e⟩
 have hso:bR σ ρ l:=⟨i,hi,el⟩
 have vis:Same (hid H (hs F σ ρ)) (hid (upd H l o) (hs F σ (pt ρ i s))):=bP λa u e n=>by
  have al:a≠l:=λz=>n (.inr (z▸hso));exact⟨by rw[aW al];exact e,λz=>n (z.imp id (sub a))⟩
 have up:∀ {a},H a≠none->(upd H l o) a≠none:=λ{a} h e=>by
  by_cases al:a=l
  ·subst al;rw[bh]at e;cases e
  ·rw[aW al]at e;exact h e
 refine⟨⟨by rw[fw,r.len],λa u e n=>?_,λa z=>yo (λq=>r.zo l hso (q▸z)) (r.zl a z),λa h=>r.zo a (sub a h),λj a hj e=>r.ow j a (own' j hj) e,r.mi,r.ml,λa z=>up (r.ma a z),λj k a hj hk ej ek=>r.nd j k a (own' j hj) (own' k hk) ej ek,λj=>?_⟩,⟨λa u e n=>?_,own'⟩⟩
 ·have al:a≠l:=λz=>by
   subst z;rcases r.ow i _ hi el with⟨_,q⟩ | q
   ·exact n q
   ·rw[e]at q;cases q
  rw[aW al];exact r.fr a u e n
 ·by_cases ij:i=j
  ·subst ij;rw[j8 ρ i s lt,el];exact new.keep vis λ_ _ _ _ e=>e
  ·rw[bM ρ i j _ ij];refine(r.sl j).keep vis λa u ho e h=>?_;have al:a≠l:=λz=>ij (r.nd i j l hi ho el (z▸e));rw[aW al];exact h
 ·have al:a≠l:=λz=>n (z▸hso);rw[aW al];exact e
theorem Rel.frz (r:Rel K F σ ρ H){i:Nat}{ds:List D}(hi:gt ρ i = .ow ds):∃l,σ[i]? = some (some (.ref l))/\Rel K F σ (pt ρ i (.vl (.lst ds))) H/\Kp σ ρ (pt ρ i (.vl (.lst ds))) H H/\RepD K (hid H (hs F σ (pt ρ i (.vl (.lst ds))))) (.ref l) (.lst ds):=by
 have ho:(gt ρ i).own=true:=by rw[hi];rfl
 have lt:=jn ho;have q:=r.sl i;rw[hi]at q;obtain⟨l,vs,el,hl,hd⟩:=q;have own':∀j,(gt (pt ρ i (.vl (.lst ds))) j).own=true->i≠j/\(gt ρ j).own=true:=λj h=>fB rfl h;have sub:∀a,bR σ (pt ρ i (.vl (.lst ds))) a->bR σ ρ a/\a≠l:=λa ⟨j,hj,e⟩=>by
  obtain⟨ij,hj⟩:=own' j hj;exact⟨⟨j,hj,e⟩,λz=>ij (r.nd i j l ho hj el (z▸e))⟩
 have vis:Same (hid H (hs F σ ρ)) (hid H (hs F σ (pt ρ i (.vl (.lst ds))))):=bP λa u e n=>⟨e,λz=>n (z.imp id λz=>(sub a z).1)⟩
 have vl:¬hs F σ (pt ρ i (.vl (.lst ds))) l:=λz=>by
  rcases z with z | z
  ·exact r.zo l ⟨i,ho,el⟩ z
  ·exact(sub l z).2 rfl
 have rd:RepD K (hid H (hs F σ (pt ρ i (.vl (.lst ds))))) (.ref l) (.lst ds):=by
  unfold RepD;exact⟨l,vs,rfl,eB vl hl,hd.same vis⟩
 refine⟨l,el,⟨by rw[fw,r.len],r.fr,r.zl,λa h=>r.zo a (sub a h).1,λj a hj e=>r.ow j a (own' j hj).2 e,r.mi,r.ml,r.ma,λj k a hj hk ej ek=>r.nd j k a (own' j hj).2 (own' k hk).2 ej ek,λj=>?_⟩,⟨λ_ _ e _=>e,λj h=>(own' j h).2⟩,rd⟩;by_cases ij:i=j
 ·subst ij;rw[j8 ρ i _ lt,el];exact⟨_,rfl,rd⟩
 ·rw[bM ρ i j _ ij];exact(r.sl j).keep vis λa u _ _ h=>h
end
def RelR (K:ac)(F:Fr)(σ:St)(ρ:En)(v:V)(H:Hp):R->Prop
 | .d d=>Rel K F σ ρ H/\RepD K (hid H (hs F σ ρ)) v d
 | .o i=>Rel K F σ ρ H/\σ[i]? = some (some v)
 | .n s=>∃Hb l o,Rel K F σ ρ Hb/\s.own=true/\SvOk K (hid Hb (hs F σ ρ)) (upd Hb l o) (some (some (.ref l))) s/\Hb l=none/\H=upd Hb l o/\v = .ref l
 | .t n=>Rel K F σ ρ H/\v = .ty n
 | .x s=>Rel K F σ ρ H/\s.own=false/\SvOk K (hid H (hs F σ ρ)) H (some (some v)) s
def Out (K:ac)(F:Fr)(σ:St)(ρ:En)(H:Hp)(ρ':En)(v:V)(H':Hp):R->Prop
 | .d d=>Rel K F σ ρ' H'/\Kp σ ρ ρ' H H'/\RepD K (hid H' (hs F σ ρ')) v d
 | .o i=>Rel K F σ ρ' H'/\Kp σ ρ ρ' H H'/\σ[i]? = some (some v)
 | .n s=>∃Hb l o,Rel K F σ ρ' Hb/\Kp σ ρ ρ' H Hb/\s.own=true/\SvOk K (hid Hb (hs F σ ρ')) (upd Hb l o) (some (some (.ref l))) s/\Hb l=none/\H'=upd Hb l o/\v = .ref l
 | .t n=>Rel K F σ ρ' H'/\Kp σ ρ ρ' H H'/\v = .ty n
 | .x s=>Rel K F σ ρ' H'/\Kp σ ρ ρ' H H'/\s.own=false/\SvOk K (hid H' (hs F σ ρ')) H' (some (some v)) s
def InF (K:ac)(F:Fr)(σ:St)(ρ:En)(H:Hp)(v:V):R->Prop
 | .d d=>RepD K (hid H (hs F σ ρ)) v d
 | .o i=>σ[i]? = some (some v)
 | .n _=>True
 | .t n=>v = .ty n
 | .x s=>s.own=false/\SvOk K (hid H (hs F σ ρ)) H (some (some v)) s
def R.frz:R->R
 | .n (.ow ds)=>.d (.lst ds)
 | r=>r
inductive InFs (K:ac) (F:Fr) (σ:St) (ρ:En) (H:Hp):List V->List R->Prop
 | nil:InFs K F σ ρ H [] []
 | cons {v:V} {r:R} {vs:List V} {rs:List R}:InF K F σ ρ H v r->InFs K F σ ρ H vs rs->InFs K F σ ρ H (v::vs) (r::rs)
def view (ρ:En):R->Option D
 | .d d=>some d
 | .o i=>(match gt ρ i with | .ow ds=>some (.lst ds) | .vl d=>some d | _=>none)
 | _=>none
section
variable {K:ac}{F:Fr}{σ:St}{ρ ρ':En}{H H':Hp}{v:V}{r:R}
theorem InF.keep (h:InF K F σ ρ H v r)(k:Kp σ ρ ρ' H H'):InF K F σ ρ' H' v r:=by
 cases r with
 | d d=>exact RepD.same h k.vis
 | o i=>exact h
 | n s=>exact h
 | t n=>exact h
 | x s=>exact⟨h.1,h.2.keep k.vis λl o ho=>by rw[h.1]at ho;cases ho⟩
theorem InFs.keep {vs:List V}{rs:List R}(h:InFs K F σ ρ H vs rs)(k:Kp σ ρ ρ' H H'):InFs K F σ ρ' H' vs rs:=by
 induction h with
 | nil=>exact .nil
 | cons a _ ih=>exact .cons (a.keep k) ih
theorem Out.inF (h:Out K F σ ρ H ρ' v H' r):Rel K F σ ρ' H'/\Kp σ ρ ρ' H H'/\InF K F σ ρ' H' v r.frz:=by
 cases r with
 | d d=>exact⟨h.1,h.2.1,h.2.2⟩
 | o i=>exact⟨h.1,h.2.1,h.2.2⟩
 | t n=>exact⟨h.1,h.2.1,h.2.2⟩
 | x s=>exact⟨h.1,h.2.1,h.2.2⟩
 | n s =>
  obtain⟨Hb,l,o,a,k0,hs',b,c,rfl,rfl⟩:=h;have k:Kp σ ρ' ρ' Hb (upd Hb l o):=Kp.fresh c;refine⟨a.fresh c,k0.trans k,?_⟩;cases s with
  | un=>trivial
  | vl d=>trivial
  | tp n=>trivial
  | dk n=>trivial
  | dt n=>trivial
  | ex n m=>trivial
  | sc n=>trivial
  | px n m k=>trivial
  | xl es=>trivial
  | ob _ _=>trivial
  | ll _=>trivial
  | ds _ _ _=>trivial
  | ow ds =>
   obtain⟨l',vs,e,h1,h2⟩:=b;injection e with e;injection e with e;injection e with e;subst e;show RepD K _ (.ref l) (.lst ds);unfold RepD;exact⟨l,vs,rfl,eB (jE a c) h1,h2.same k.vis⟩
theorem Out.rel (h:Out K F σ ρ H ρ' v H' r):RelR K F σ ρ' v H' r:=by
 cases r with
 | d d=>exact⟨h.1,h.2.2⟩
 | o i=>exact⟨h.1,h.2.2⟩
 | t n=>exact⟨h.1,h.2.2⟩
 | x s=>exact⟨h.1,h.2.2⟩
 | n s =>
  obtain⟨Hb,l,o,a,k0,hs',b,c,e1,e2⟩:=h;exact⟨Hb,l,o,a,hs',b,c,e1,e2⟩
theorem Out.after {ρ1:En}{H1:Hp}(k:Kp σ ρ ρ1 H H1)(h:Out K F σ ρ1 H1 ρ' v H' r):Out K F σ ρ H ρ' v H' r:=by
 cases r with
 | d d=>exact⟨h.1,k.trans h.2.1,h.2.2⟩
 | o i=>exact⟨h.1,k.trans h.2.1,h.2.2⟩
 | t n=>exact⟨h.1,k.trans h.2.1,h.2.2⟩
 | x s=>exact⟨h.1,k.trans h.2.1,h.2.2⟩
 | n s =>
  obtain⟨Hb,l,o,a,k0,hs',b,c,e1,e2⟩:=h;exact⟨Hb,l,o,a,k.trans k0,hs',b,c,e1,e2⟩
theorem dN {d:D}(a:Rel K F σ ρ H)(h:InF K F σ ρ H v r)(e:view ρ r=some d):RepD K H v d:=by
 cases r with
 | d d'=>injection e with e;subst e;exact RepD.same h bW
 | t n=>cases e
 | x s=>cases e
 | n s=>cases e
 | o i =>
  have q:=a.sl i;unfold view at e;cases hg:gt ρ i with
  | un=>simp[hg]at e
  | tp n=>simp[hg]at e
  | dk n=>simp[hg]at e
  | dt n=>simp[hg]at e
  | ex n m=>simp[hg]at e
  | sc n=>simp[hg]at e
  | px n m k=>simp[hg]at e
  | xl es=>simp[hg]at e
  | ob _ _=>simp[hg]at e
  | ll _=>simp[hg]at e
  | ds _ _ _=>simp[hg]at e
  | vl d' =>
   simp[hg]at e;subst e;rw[hg]at q;obtain⟨x,e1,r1⟩:=q;rw[show σ[i]? = _ from h]at e1;injection e1 with e1;injection e1 with e1;subst e1;exact r1.same bW
  | ow ds =>
   simp[hg]at e;subst e;rw[hg]at q;obtain⟨l,vs,e1,r1,r2⟩:=q;rw[show σ[i]? = _ from h]at e1;injection e1 with e1;injection e1 with e1;subst e1;unfold RepD;exact⟨l,vs,rfl,r1,r2.same bW⟩
theorem cH {ds:List D}(a:Rel K F σ ρ H)(h:InF K F σ ρ H v r)(e:view ρ r=some (.lst ds)):∃l vs,v = .ref l/\SqL K H l vs/\RepDs K (hid H (hs F σ ρ)) vs ds:=by
 cases r with
 | d d' =>
  injection e with e;subst e;have h':RepD K _ v (.lst ds):=h;unfold RepD at h';obtain⟨l,vs,e,q,r⟩:=h';exact⟨l,vs,e,bW.seq (StL.sq q),r⟩
 | t n=>cases e
 | x s=>cases e
 | n s=>cases e
 | o i =>
  have q:=a.sl i;unfold view at e;cases hg:gt ρ i with
  | un=>simp[hg]at e
  | tp n=>simp[hg]at e
  | dk n=>simp[hg]at e
  | dt n=>simp[hg]at e
  | ex n m=>simp[hg]at e
  | sc n=>simp[hg]at e
  | px n m k=>simp[hg]at e
  | xl es=>simp[hg]at e
  | ob _ _=>simp[hg]at e
  | ll _=>simp[hg]at e
  | ds _ _ _=>simp[hg]at e
  | vl d' =>
   simp[hg]at e;subst e;rw[hg]at q;obtain⟨x,e1,r1⟩:=q;rw[show σ[i]? = _ from h]at e1;injection e1 with e1;injection e1 with e1;subst e1;unfold RepD at r1;obtain⟨l,vs,e,q,r⟩:=r1;exact⟨l,vs,e,bW.seq (StL.sq q),r⟩
  | ow ds =>
   simp[hg]at e;subst e;rw[hg]at q;obtain⟨l,vs,e1,r1,r2⟩:=q;rw[show σ[i]? = _ from h]at e1;injection e1 with e1;injection e1 with e1;subst e1;exact⟨l,vs,rfl,SqL.of r1,r2⟩
theorem gH {ds:List D}(a:Rel K F σ ρ H)(h:InF K F σ ρ H v r)(e:view ρ r=some (.tup ds)):∃l vs,v = .ref l/\SqT K H l vs/\RepDs K (hid H (hs F σ ρ)) vs ds/\StT (hid H (hs F σ ρ)) l vs:=by
 have go:∀ {x:V},RepD K (hid H (hs F σ ρ)) x (.tup ds)->∃l vs,x = .ref l/\SqT K H l vs/\RepDs K (hid H (hs F σ ρ)) vs ds/\StT (hid H (hs F σ ρ)) l vs:=λh'=>by
  unfold RepD at h';obtain⟨l,vs,e,q,r⟩:=h';exact⟨l,vs,e,bW.seqT q.sq,r,q⟩
 cases r with
 | d d'=>injection e with e;subst e;exact go h
 | t n=>cases e
 | x s=>cases e
 | n s=>cases e
 | o i =>
  have q:=a.sl i;unfold view at e;cases hg:gt ρ i with
  | un=>simp[hg]at e
  | tp n=>simp[hg]at e
  | dk n=>simp[hg]at e
  | dt n=>simp[hg]at e
  | ex n m=>simp[hg]at e
  | sc n=>simp[hg]at e
  | px n m k=>simp[hg]at e
  | xl es=>simp[hg]at e
  | ob _ _=>simp[hg]at e
  | ll _=>simp[hg]at e
  | ds _ _ _=>simp[hg]at e
  | ow ds'=>simp[hg]at e
  | vl d' =>
   simp[hg]at e;subst e;rw[hg]at q;obtain⟨x,e1,r1⟩:=q;rw[show σ[i]? = _ from h]at e1;injection e1 with e1;injection e1 with e1;subst e1;exact go r1
end
abbrev Ko:=R->En->Prop
abbrev AE:=En->Ko->Prop
abbrev AT:=En->(Bool->En->Prop)->Prop
abbrev AA:=En->(List R->En->Prop)->Prop
structure nA where
 nx:En->Prop
 rt:R->En->Prop
 bk:En->Prop
 ct:En->Prop
abbrev AS:=nA->En->Prop
def Beh (K:ac)(F:Fr)(σ:St)(ρ:En)(H:Hp)(q:Ko)(Q:VK):Prop:=∀r ρ' v H',q r ρ'->Out K F σ ρ H ρ' v H' r->Q v H'
def TEok (K:ac)(t:TE)(a:AE):Prop:=∀F σ ρ H q Q,Rel K F σ ρ H->a ρ q->Beh K F σ ρ H q Q->t σ H Q
def TTok (K:ac)(t:TT)(a:AT):Prop:=∀F σ ρ H q Q,Rel K F σ ρ H->a ρ q->(∀b ρ' H',q b ρ'->Rel K F σ ρ' H'->Kp σ ρ ρ' H H'->Q b H')->t σ H Q
def TAok (K:ac)(t:TA)(a:AA):Prop:=∀F σ ρ H q Q,Rel K F σ ρ H->a ρ q->(∀rs ρ' vs H',q rs ρ'->Rel K F σ ρ' H'->InFs K F σ ρ' H' vs rs->Kp σ ρ ρ' H H'->Q vs H')->t σ H Q
def OpOk (K:ac)(r:R2)(g:R->R->AE):Prop:=∀F σ ρ H x y r1 r2 q Q,Rel K F σ ρ H->InF K F σ ρ H x r1->InF K F σ ρ H y r2->g r1 r2 ρ q->Beh K F σ ρ H q Q->r x y H Q
def CbOk (K:ac)(r:List V->Hp->VK->Prop)(g:List R->AE):Prop:=∀F σ ρ H vs rs q Q,Rel K F σ ρ H->InFs K F σ ρ H vs rs->g rs ρ q->Beh K F σ ρ H q Q->r vs H Q
section
variable {K:ac}{F:Fr}{σ:St}{ρ ρ':En}{H H':Hp}{v:V}{r:R}{q:Ko}{Q:VK}
theorem Beh.dat (b:Beh K F σ ρ H q Q)(a:Rel K F σ ρ H){d:D}(hq:q (.d d) ρ)(h:RepD K (hid H (hs F σ ρ)) v d):Q v H:=b (.d d) ρ v H hq ⟨a,.refl,h⟩
theorem Beh.int (b:Beh K F σ ρ H q Q)(a:Rel K F σ ρ H){i:Int}(hq:q (.d (.int i)) ρ):Q (.int i) H:=b.dat a hq (by unfold RepD;rfl)
theorem Beh.bl (b:Beh K F σ ρ H q Q)(a:Rel K F σ ρ H){i:Bool}(hq:q (.d (.bl i)) ρ):Q (.bl i) H:=b.dat a hq (by unfold RepD;rfl)
theorem Beh.non (b:Beh K F σ ρ H q Q)(a:Rel K F σ ρ H)(hq:q (.d .non) ρ):Q .non H:=b.dat a hq (by unfold RepD;rfl)
theorem Beh.str (b:Beh K F σ ρ H q Q)(a:Rel K F σ ρ H){x:Str}(hq:q (.d (.str x)) ρ):Q (.str x) H:=b.dat a hq (by unfold RepD;rfl)
theorem Beh.new (b:Beh K F σ ρ H q Q)(a:Rel K F σ ρ H){ds:List D}{vs:List V}{l:Addr}(hq:q (.f ds) ρ)(hd:RepDs K (hid H (hs F σ ρ)) vs ds)(hl:H l=none):Q (.ref l) (upd H l (.lst vs)) :=
 b (.f ds) ρ _ _ hq ⟨H,l,_,a,.refl,rfl,⟨l,vs,rfl,bh,hd⟩,hl,rfl,rfl⟩
theorem Beh.newT (b:Beh K F σ ρ H q Q)(a:Rel K F σ ρ H){ds:List D}{vs:List V}{l:Addr}(hq:q (.d (.tup ds)) ρ)(hd:RepDs K (hid H (hs F σ ρ)) vs ds)(hl:H l=none):Q (.ref l) (upd H l (.tup vs)):=by
 have k:Kp σ ρ ρ H (upd H l (.tup vs)):=Kp.fresh hl;refine b (.d (.tup ds)) ρ _ _ hq ⟨a.fresh hl,k,?_⟩;unfold RepD;exact⟨l,vs,rfl,(eB (jE a hl) bh),hd.same k.vis⟩
theorem Beh.after {ρ1:En}{H1:Hp}(b:Beh K F σ ρ H q Q)(k:Kp σ ρ ρ1 H H1):Beh K F σ ρ1 H1 q Q:=λr ρ' v H' hq h=>b r ρ' v H' hq (.after k h)
def aVar (i:Nat):AE:=λρ q=>match gt ρ i with
 | .un=>False
 | .vl d=>q (.d d) ρ
 | .ow _=>q (.o i) ρ
 | .tp _=>q (.o i) ρ
 | .dk _=>q (.o i) ρ
 | .dt _=>q (.o i) ρ
 | .ex _ _=>q (.o i) ρ
 | .sc _=>q (.o i) ρ
 | .px _ _ _=>q (.o i) ρ
 | .xl _=>q (.o i) ρ
 | .ob _ _=>q (.o i) ρ
 | .ll _=>q (.o i) ρ
 | .ds _ _ _=>q (.o i) ρ
theorem af {i:Nat}:TEok K (tVar i) (aVar i):=by
 intro F σ ρ H q Q a h b;have s:=a.sl i;unfold aVar at h;cases hg:gt ρ i with
 | un=>rw[hg]at h;exact h.elim
 | vl d =>
  rw[hg]at h s;obtain⟨x,e,r⟩:=s;exact⟨x,e,b _ _ _ _ h ⟨a,.refl,r⟩⟩
 | ow ds =>
  rw[hg]at h s;obtain⟨l,vs,e,_⟩:=s;exact⟨_,e,b _ _ _ _ h ⟨a,.refl,e⟩⟩
 | tp n =>
  rw[hg]at h s;obtain⟨l,c,ns,sp,lf,e,_⟩:=s;exact⟨_,e,b _ _ _ _ h ⟨a,.refl,e⟩⟩
 | dk kvs =>
  rw[hg]at h s;obtain⟨l,ks,e,_⟩:=s;exact⟨_,e,b _ _ _ _ h ⟨a,.refl,e⟩⟩
 | dt kvs =>
  rw[hg]at h s;obtain⟨l,ks,e,_⟩:=s;exact⟨_,e,b _ _ _ _ h ⟨a,.refl,e⟩⟩
 | ex C fs =>
  rw[hg]at h s;obtain⟨l,ks,e,_⟩:=s;exact⟨_,e,b _ _ _ _ h ⟨a,.refl,e⟩⟩
 | sc ns =>
  rw[hg]at h s;obtain⟨l,e,_⟩:=s;exact⟨_,e,b _ _ _ _ h ⟨a,.refl,e⟩⟩
 | xl es =>
  rw[hg]at h s;obtain⟨l,ks,e,_⟩:=s;exact⟨_,e,b _ _ _ _ h ⟨a,.refl,e⟩⟩
 | ob C fs =>
  rw[hg]at h s;obtain⟨l,_,_,e,_⟩:=s;exact⟨_,e,b _ _ _ _ h ⟨a,.refl,e⟩⟩
 | ll xss =>
  rw[hg]at h s;obtain⟨l,_,_,e,_⟩:=s;exact⟨_,e,b _ _ _ _ h ⟨a,.refl,e⟩⟩
 | ds C n w =>
  rw[hg]at h s;obtain⟨l,_,_,_,_,_,e,_⟩:=s;exact⟨_,e,b _ _ _ _ h ⟨a,.refl,e⟩⟩
 | px d C fs =>
  rw[hg]at h s;obtain⟨l,x,e',od,e,_⟩:=s;exact⟨_,e,b _ _ _ _ h ⟨a,.refl,e⟩⟩
def aC (r:R):AE:=λρ q=>q r ρ
theorem aO {i:Int}:TEok K (tC (.int i)) (aC (.d (.int i))):=λ_ _ _ _ _ _ a h b=>b.int a h
theorem dP {i:Bool}:TEok K (tC (.bl i)) (aC (.d (.bl i))):=λ_ _ _ _ _ _ a h b=>b.bl a h
theorem eF {i:Str}:TEok K (tC (.str i)) (aC (.d (.str i))):=λ_ _ _ _ _ _ a h b=>b.str a h
theorem rF:TEok K (tC .non) (aC (.d .non)):=λ_ _ _ _ _ _ a h b=>b.non a h
theorem rE {n:String}:TEok K (tC (.ty n)) (aC (.t n)):=λ_ _ _ _ _ _ a h b=>b _ _ _ _ h ⟨a,.refl,rfl⟩
def aOp (g:R->R->AE)(a b:AE):AE:=λρ q=>a ρ λr1 ρ1=>b ρ1 λr2 ρ2=>g r1.frz r2.frz ρ2 q
variable {t t' ta tb tc:TE}{a b c:AE}{rr:R2}{g:R->R->AE}
theorem aG (ho:OpOk K rr g)(ha:TEok K ta a)(hb:TEok K tb b):TEok K (tOp rr ta tb) (aOp g a b):=by
 intro F σ ρ H q Q r h k;refine ha F σ ρ H _ _ r h λr1 ρ1 x H1 h1 rel1=>?_;obtain⟨r',k1,i1⟩:=rel1.inF;refine hb F σ ρ1 H1 _ _ r' h1 λr2 ρ2 y H2 h2 rel2=>?_;obtain⟨r'',k2,i2⟩:=rel2.inF;exact ho F σ ρ2 H2 x y _ _ q Q r'' (i1.keep k2) i2 h2 (k.after (k1.trans k2))
def aUn (g:R->AE)(a:AE):AE:=λρ q=>a ρ λr1 ρ1=>g r1.frz ρ1 q
def gI (C:Int->Int->Prop)(f:Int->Int->D):R->R->AE:=λr1 r2 ρ q=>match r1,r2 with
 | .d (.int i),.d (.int j)=>C i j/\q (.d (f i j)) ρ
 | _,_=>False
theorem yJ {C:Int->Int->Prop}{f:Int->Int->D}{r1 r2:R}(h:gI C f r1 r2 ρ q):∃i j,r1 = .d (.int i)/\r2 = .d (.int j)/\C i j/\q (.d (f i j)) ρ:=by
 unfold gI at h;split at h
 ·exact⟨_,_,rfl,rfl,h⟩
 ·exact h.elim
theorem InF.int {i:Int}(h:InF K F σ ρ H v (.d (.int i))):v = .int i:=by
 unfold InF RepD at h;exact h
theorem InF.blv {i:Bool}(h:InF K F σ ρ H v (.d (.bl i))):v = .bl i:=by
 unfold InF RepD at h;exact h
theorem ig {C:Int->Int->Prop}{f:Int->Int->Int}:OpOk K (rI C λi j=>.int (f i j)) (gI C λi j=>.int (f i j)):=by
 intro F σ ρ H x y r1 r2 q Q a h1 h2 h b;obtain⟨i,j,rfl,rfl,c,h⟩:=yJ h;exact⟨i,j,h1.int,h2.int,c,b.int a h⟩
def gI0 (f:Int->Int->D):R->R->AE:=λr1 r2 ρ q=>match r1,r2 with
 | .d (.int i),.d (.int j)=>q (.d (f i j)) ρ
 | _,_=>False
theorem tD {f:Int->Int->D}{r1 r2:R}(h:gI0 f r1 r2 ρ q):∃i j,r1 = .d (.int i)/\r2 = .d (.int j)/\q (.d (f i j)) ρ:=by
 unfold gI0 at h;split at h
 ·exact⟨_,_,rfl,rfl,h⟩
 ·exact h.elim
theorem bc {f:Int->Int->Int}:OpOk K (rI0 λi j=>.int (f i j)) (gI0 λi j=>.int (f i j)):=by
 intro F σ ρ H x y r1 r2 q Q a h1 h2 h b;obtain⟨i,j,rfl,rfl,h⟩:=tD h;exact⟨i,j,h1.int,h2.int,b.int a h⟩
theorem cK {f:Int->Int->Bool}:OpOk K (rI0 λi j=>.bl (f i j)) (gI0 λi j=>.bl (f i j)):=by
 intro F σ ρ H x y r1 r2 q Q a h1 h2 h b;obtain⟨i,j,rfl,rfl,h⟩:=tD h;exact⟨i,j,h1.int,h2.int,b.bl a h⟩
@[irreducible] def gEq (neg:Bool):R->R->AE:=λr1 r2 ρ q=>match view ρ r1,view ρ r2 with
 | some d,some e=>d.depth<=60/\q (.d (.bl (if neg then !eqD d e else eqD d e))) ρ
 | _,_=>False
theorem tE {neg:Bool}{r1 r2:R}(h:gEq neg r1 r2 ρ q):∃d e,view ρ r1=some d/\view ρ r2=some e/\d.depth<=60/\q (.d (.bl (if neg then !eqD d e else eqD d e))) ρ:=by
 unfold gEq at h;split at h
 ·rename_i d e h1 h2;exact⟨d,e,h1,h2,h⟩
 ·exact h.elim
theorem gm:OpOk K (rEqD K) (gEq false):=by
 intro F σ ρ H x y r1 r2 q Q a h1 h2 h b;obtain⟨d,e,e1,e2,c,h⟩:=tE h;exact⟨d,e,dN a h1 e1,dN a h2 e2,c,b.bl a h⟩
theorem fD:OpOk K (rNeD K) (gEq true):=by
 intro F σ ρ H x y r1 r2 q Q a h1 h2 h b;obtain⟨d,e,e1,e2,c,h⟩:=tE h;exact⟨d,e,dN a h1 e1,dN a h2 e2,c,b.bl a h⟩
@[irreducible] def gIx:R->R->AE:=λr1 r2 ρ q=>match view ρ r1,r2 with
 | some (.lst ds),.d (.int i)=>(match atI ds i with | some d=>q (.d d) ρ | none=>False)
 | some (.tup ds),.d (.int i)=>(match atI ds i with | some d=>q (.d d) ρ | none=>False)
 | _,_=>False
theorem tZ {Hh:Hp}{vs:List V}{ds:List D}{i:Int}{d:D}(h:RepDs K Hh vs ds)(e:atI ds i=some d):∃v,atI vs i=some v/\RepD K Hh v d:=by
 unfold atI at e ⊢;rw[h.length];cases hx:ixN ds.length i with
 | none=>rw[hx]at e;cases e
 | some j =>
  rw[hx]at e;exact h.get e
theorem bg:OpOk K (rIx K) gIx:=by
 intro F σ ρ H x y r1 r2 q Q a h1 h2 h b;unfold gIx at h;split at h
 ·rename_i ds i e1;split at h
  ·rename_i d e;obtain⟨l,vs,rfl,sq,rd⟩:=cH a h1 e1;obtain⟨v,e2,rv⟩:=tZ rd e;exact .inl ⟨l,vs,i,v,rfl,h2.int,sq,e2,b.dat a h rv⟩
  ·exact h.elim
 ·rename_i ds i e1;split at h
  ·rename_i d e;obtain⟨l,vs,rfl,sq,rd,_⟩:=gH a h1 e1;obtain⟨v,e2,rv⟩:=tZ rd e;exact .inr (.inl ⟨l,vs,i,v,rfl,h2.int,sq,e2,b.dat a h rv⟩)
  ·exact h.elim
 ·exact h.elim
def zH (a b:AE):AE:=λρ q=>a ρ λr ρ1=>match r with
 | .d (.bl c)=>if c=true then b ρ1 q else q (.d (.bl false)) ρ1
 | _=>False
def zB (a:AE):AE:=λρ q=>a ρ λr ρ1=>match r with
 | .d (.bl c)=>q (.d (.bl (!c))) ρ1
 | _=>False
theorem dw (ha:TEok K ta a)(hb:TEok K tb b):TEok K (xT ta tb) (zH a b):=by
 intro F σ ρ H q Q r h k;refine ha F σ ρ H _ _ r h λr1 ρ1 x H1 h1 rel1=>?_;split at h1
 ·rename_i c;obtain⟨r',k1,i1⟩:=rel1.inF;refine⟨c,i1.blv,?_⟩;cases c with
  | true=>exact hb F σ ρ1 H1 q Q r' h1 (k.after k1)
  | false=>exact(k.after k1).bl r' h1
 ·exact h1.elim
theorem ur (ha:TEok K ta a):TEok K (xS ta) (zB a):=by
 intro F σ ρ H q Q r h k;refine ha F σ ρ H _ _ r h λr1 ρ1 x H1 h1 rel1=>?_;split at h1
 ·rename_i c;obtain⟨r',k1,i1⟩:=rel1.inF;exact⟨c,i1.blv,(k.after k1).bl r' h1⟩
 ·exact h1.elim
variable {tt tu:TT}{at' au:AT}
def aB (a:AE):AT:=λρ q=>a ρ λr ρ1=>match r with
 | .d (.bl c)=>q c ρ1
 | _=>False
theorem iz (ha:TEok K ta a):TTok K (tB ta) (aB a):=by
 intro F σ ρ H q Q r h k;refine ha F σ ρ H _ _ r h λr1 ρ1 x H1 h1 rel1=>?_;split at h1
 ·rename_i c;obtain⟨r',k1,i1⟩:=rel1.inF;exact⟨c,i1.blv,k _ _ _ h1 r' k1⟩
 ·exact h1.elim
theorem a_ (ha:TEok K ta a):TTok K (xP ta) (aB a):=iz ha
def aAnd (a b:AT):AT:=λρ q=>a ρ λc ρ1=>if c=true then b ρ1 q else q false ρ1
def aOr (a b:AT):AT:=λρ q=>a ρ λc ρ1=>if c=true then q true ρ1 else b ρ1 q
def aNot (a:AT):AT:=λρ q=>a ρ λc ρ1=>q (!c) ρ1
theorem iS (ha:TTok K tt at')(hb:TTok K tu au):TTok K (tAnd tt tu) (aAnd at' au):=by
 intro F σ ρ H q Q r h k;refine ha F σ ρ H _ _ r h λc ρ1 H1 h1 r1 k1=>?_;cases c with
 | true=>exact hb F σ ρ1 H1 q Q r1 h1 λb ρ2 H2 h2 r2 k2=>k _ _ _ h2 r2 (k1.trans k2)
 | false=>exact k _ _ _ h1 r1 k1
theorem dX (ha:TTok K tt at')(hb:TTok K tu au):TTok K (tOr tt tu) (aOr at' au):=by
 intro F σ ρ H q Q r h k;refine ha F σ ρ H _ _ r h λc ρ1 H1 h1 r1 k1=>?_;cases c with
 | true=>exact k _ _ _ h1 r1 k1
 | false=>exact hb F σ ρ1 H1 q Q r1 h1 λb ρ2 H2 h2 r2 k2=>k _ _ _ h2 r2 (k1.trans k2)
theorem dO (ha:TTok K tt at'):TTok K (tNot tt) (aNot at'):=λF σ ρ H q Q r h k=>ha F σ ρ H _ _ r h λc ρ1 H1 h1 r1 k1=>k _ _ _ h1 r1 k1
def truD:D->Bool
 | .non=>false
 | .bl b=>b
 | .int i=>i != 0
 | .str _=>true
 | .tup ds=>!ds.isEmpty
 | .lst ds=>!ds.isEmpty
def aTru (a:AE):AT:=λρ q=>a ρ λr ρ1=>match view ρ1 r.frz with
 | some (.str _)=>False
 | some d=>q (truD d) ρ1
 | none=>False
theorem jC {Hh:Hp}{vs:List V}{ds:List D}(h:RepDs K Hh vs ds):vs.isEmpty=ds.isEmpty:=by
 have:=h.length;cases vs <;> cases ds <;> simp_all
theorem iR (ha:TEok K ta a):TTok K (λσ H Q=>ta σ H λx H'=>∃k,TruV K x H' k/\Q k H') (aTru a):=by
 intro F σ ρ H q Q r h k;refine ha F σ ρ H _ _ r h λr1 ρ1 x H1 h1 rel1=>?_;obtain⟨r',k1,i1⟩:=rel1.inF;cases e:view ρ1 r1.frz with
 | none=>rw[e]at h1;exact h1.elim
 | some d =>
  rw[e]at h1;have rd:=dN r' i1 e;cases d with
  | str x=>exact h1.elim
  | non=>unfold RepD at rd;subst rd;exact⟨_,rfl,k _ _ _ h1 r' k1⟩
  | bl b=>unfold RepD at rd;subst rd;exact⟨_,rfl,k _ _ _ h1 r' k1⟩
  | int b=>unfold RepD at rd;subst rd;exact⟨_,rfl,k _ _ _ h1 r' k1⟩
  | tup ds =>
   unfold RepD at rd;obtain⟨p,vs,rfl,sq,rr⟩:=rd;exact⟨_,.inr (.inl ⟨vs,sq,by rw[jC rr];rfl⟩),k _ _ _ h1 r' k1⟩
  | lst ds =>
   unfold RepD at rd;obtain⟨p,vs,rfl,sq,rr⟩:=rd;exact⟨_,.inl ⟨vs,sq,by rw[jC rr];rfl⟩,k _ _ _ h1 r' k1⟩
variable {ts:TA}{as:AA}
def aNil:AA:=λρ q=>q [] ρ
def zF (a:AE)(as:AA):AA:=λρ q=>a ρ λr ρ1=>as ρ1 λrs ρ2=>q (r.frz::rs) ρ2
theorem aq:TAok K tNil aNil:=λF σ ρ H q Q r h k=>k _ _ _ _ h r .nil .refl
theorem aa (ha:TEok K ta a)(hs:TAok K ts as):TAok K (wa ta ts) (zF a as):=by
 intro F σ ρ H q Q r h k;refine ha F σ ρ H _ _ r h λr1 ρ1 x H1 h1 rel1=>?_;obtain⟨r',k1,i1⟩:=rel1.inF;refine hs F σ ρ1 H1 _ _ r' h1 λrs ρ2 vs H2 h2 r2 i2 k2=>?_;exact k _ _ _ _ h2 r2 (.cons (i1.keep k2) i2) (k1.trans k2)
def sto:List R->En->(List D->En->Prop)->Prop
 | [],ρ,q=>q [] ρ
 | .d d::rs,ρ,q=>sto rs ρ λds ρ'=>q (d::ds) ρ'
 | .o i::rs,ρ,q=>(match gt ρ i with
  | .ow ds=>sto rs (pt ρ i (.vl (.lst ds))) λes ρ'=>q (.lst ds::es) ρ'
  | .vl d=>sto rs ρ λes ρ'=>q (d::es) ρ'
  | _=>False)
 | _::_,_,_=>False
theorem gJ:∀ {vs:List V} {rs:List R} {ρ:En} {q:List D->En->Prop},Rel K F σ ρ H->InFs K F σ ρ H vs rs->sto rs ρ q->∃ds ρ',q ds ρ'/\Rel K F σ ρ' H/\Kp σ ρ ρ' H H/\RepDs K (hid H (hs F σ ρ')) vs ds
 | _,_,ρ,q,r,.nil,h=>⟨[],ρ,h,r,.refl,.nil⟩
 | _,_,ρ,q,r,.cons (v:=v) (r:=rr) (vs:=vs) (rs:=rs) a t,h=>by
  cases rr with
  | n s=>exact h.elim
  | t n=>exact h.elim
  | x s=>exact h.elim
  | d d =>
   obtain⟨ds,ρ',hq,r',k,rd⟩:=gJ r t (show sto rs ρ _ from h);exact⟨d::ds,ρ',hq,r',k,.cons (RepD.same a k.vis) rd⟩
  | o i =>
   have s:=r.sl i;unfold sto at h;cases hg:gt ρ i with
   | un=>rw[hg]at h;exact h.elim
   | tp n=>rw[hg]at h;exact h.elim
   | dk n=>rw[hg]at h;exact h.elim
   | dt n=>rw[hg]at h;exact h.elim
   | ex n m=>rw[hg]at h;exact h.elim
   | sc n=>rw[hg]at h;exact h.elim
   | px n m k=>rw[hg]at h;exact h.elim
   | xl es=>rw[hg]at h;exact h.elim
   | ob _ _=>rw[hg]at h;exact h.elim
   | ll _=>rw[hg]at h;exact h.elim
   | ds _ _ _=>rw[hg]at h;exact h.elim
   | vl d =>
    rw[hg]at h s;obtain⟨x,e,rd1⟩:=s;rw[show σ[i]? = _ from a]at e;injection e with e;injection e with e;subst e;obtain⟨ds,ρ',hq,r',k,rd⟩:=gJ r t h;exact⟨d::ds,ρ',hq,r',k,.cons (rd1.same k.vis) rd⟩
   | ow ds =>
    rw[hg]at h;obtain⟨l,e,r1,k1,rd1⟩:=r.frz hg;rw[show σ[i]? = _ from a]at e;injection e with e;injection e with e;subst e;obtain⟨es,ρ',hq,r',k,rd⟩:=gJ r1 (t.keep k1) h;exact⟨_,ρ',hq,r',k1.trans k,.cons (rd1.same k.vis) rd⟩
theorem small {n:Nat}(h:n<=1000000):n<=xz:=by unfold xz;omega
theorem i6 {n:Nat}(h:n<=1000000):n<xz:=by unfold xz;omega
def aTup (as:AA):AE:=λρ q=>as ρ λrs ρ1=>sto rs ρ1 λds ρ2=>ds.length<=1000000/\q (.d (.tup ds)) ρ2
def aLst (as:AA):AE:=λρ q=>as ρ λrs ρ1=>sto rs ρ1 λds ρ2=>ds.length<=1000000/\q (.f ds) ρ2
theorem fo (hs:TAok K ts as):TEok K (tTup ts) (aTup as):=by
 intro F σ ρ H q Q r h k;refine hs F σ ρ H _ _ r h λrs ρ1 vs H1 h1 r1 i1 k1=>?_;obtain⟨ds,ρ2,⟨hz,hq⟩,r2,k2,rd⟩:=gJ r1 i1 h1;exact⟨small (by rw[rd.length];exact hz),λp hp=>((k.after k1).after k2).newT r2 hq rd hp⟩
theorem kT (hs:TAok K ts as):TEok K (tLst ts) (aLst as):=by
 intro F σ ρ H q Q r h k;refine hs F σ ρ H _ _ r h λrs ρ1 vs H1 h1 r1 i1 k1=>?_;obtain⟨ds,ρ2,⟨hz,hq⟩,r2,k2,rd⟩:=gJ r1 i1 h1;exact⟨small (by rw[rd.length];exact hz),λp hp=>((k.after k1).after k2).new r2 hq rd hp⟩
def aCB (g:List R->AE)(as:AA):AE:=λρ q=>as ρ λrs ρ1=>g rs ρ1 q
theorem be {rb:List V->Hp->VK->Prop}{g:List R->AE}(hb:CbOk K rb g)(hs:TAok K ts as):TEok K (tCB rb ts) (aCB g as):=by
 intro F σ ρ H q Q r h k;exact hs F σ ρ H _ _ r h λrs ρ1 vs H1 h1 r1 i1 k1=>hb F σ ρ1 H1 vs rs q Q r1 i1 h1 (k.after k1)
theorem InFs.one {vs:List V}{r1:R}(h:InFs K F σ ρ H vs [r1]):∃x,vs=[x]/\InF K F σ ρ H x r1:=by
 cases h with | cons a t=>cases t;exact⟨_,rfl,a⟩
theorem InFs.two {vs:List V}{r1 r2:R}(h:InFs K F σ ρ H vs [r1,r2]):∃x y,vs=[x,y]/\InF K F σ ρ H x r1/\InF K F σ ρ H y r2:=by
 cases h with | cons a t=>obtain⟨y,rfl,b⟩:=t.one;exact⟨_,_,rfl,a,b⟩
def gLen:List R->AE:=λrs ρ q=>match rs with
 | [r]=>(match view ρ r with
  | some (.lst ds)=>q (.d (.int ds.length)) ρ
  | some (.tup ds)=>q (.d (.int ds.length)) ρ
  | _=>False)
 | _=>False
theorem aZ:CbOk K (λxs H Q=>∃p ys,xs=[.ref p]/\(SqL K H p ys∨SqT K H p ys)/\Q (.int ys.length) H) gLen:=by
 intro F σ ρ H vs rs q Q a i h b;unfold gLen at h;split at h
 ·obtain⟨x,rfl,i1⟩:=i.one;split at h
  ·rename_i ds e;obtain⟨l,vs,rfl,sq,rd⟩:=cH a i1 e;exact⟨l,vs,rfl,.inl sq,by rw[rd.length];exact b.int a h⟩
  ·rename_i ds e;obtain⟨l,vs,rfl,sq,rd,_⟩:=gH a i1 e;exact⟨l,vs,rfl,.inr sq,by rw[rd.length];exact b.int a h⟩
  ·exact h.elim
 ·exact h.elim
@[irreducible] def gIsa:List R->AE:=λrs ρ q=>match rs with
 | [r,.t n]=>(match view ρ r with
  | some d=>(match isaT (tyD d) n with | some b=>q (.d (.bl b)) ρ | none=>False)
  | none=>False)
 | _=>False
theorem lS:CbOk K (λxs H Q=>∃x d T b,xs=[x,.ty T]/\RepD K H x d/\isaT (tyD d) T=some b/\Q (.bl b) H) gIsa:=by
 intro F σ ρ H vs rs q Q a i h b;unfold gIsa at h;split at h
 ·obtain⟨x,y,rfl,i1,j1⟩:=i.two;split at h
  ·rename_i d e;split at h
   ·rename_i b' e';exact⟨x,d,_,b',by rw[show y=_ from j1],dN a i1 e,e',b.bl a h⟩
   ·exact h.elim
  ·exact h.elim
 ·exact h.elim
def gList:List R->AE:=λrs ρ q=>match rs with
 | [r]=>(match view ρ r with
  | some (.lst ds)=>q (.f ds) ρ
  | some (.tup ds)=>q (.f ds) ρ
  | _=>False)
 | _=>False
theorem tR:CbOk K (λxs H Q=>∃p ys,xs=[.ref p]/\(SqL K H p ys∨SqT K H p ys)/\∀l,H l=none->Q (.ref l) (upd H l (.lst ys))) gList:=by
 intro F σ ρ H vs rs q Q a i h b;unfold gList at h;split at h
 ·obtain⟨x,rfl,i1⟩:=i.one;split at h
  ·rename_i ds e;obtain⟨l,vs,rfl,sq,rd⟩:=cH a i1 e;exact⟨l,vs,rfl,.inl sq,λp hp=>b.new a h rd hp⟩
  ·rename_i ds e;obtain⟨l,vs,rfl,sq,rd,_⟩:=gH a i1 e;exact⟨l,vs,rfl,.inr sq,λp hp=>b.new a h rd hp⟩
  ·exact h.elim
 ·exact h.elim
def gTuple:List R->AE:=λrs ρ q=>match rs with
 | [r]=>(match view ρ r with
  | some (.lst ds)=>q (.d (.tup ds)) ρ
  | some (.tup ds)=>q (.d (.tup ds)) ρ
  | _=>False)
 | _=>False
theorem cW:CbOk K (λxs H Q=>∃p ys,xs=[.ref p]/\((SqL K H p ys/\∀l,H l=none->Q (.ref l) (upd H l (.tup ys)))∨(SqT K H p ys/\Q (.ref p) H))) gTuple:=by
 intro F σ ρ H vs rs q Q a i h b;unfold gTuple at h;split at h
 ·obtain⟨x,rfl,i1⟩:=i.one;split at h
  ·rename_i ds e;obtain⟨l,vs,rfl,sq,rd⟩:=cH a i1 e;exact⟨l,vs,rfl,.inl ⟨sq,λp hp=>b.newT a h rd hp⟩⟩
  ·rename_i ds e;obtain⟨l,vs,rfl,sq,rd,sq'⟩:=gH a i1 e;refine⟨l,vs,rfl,.inr ⟨sq,b.dat a h ?_⟩⟩;unfold RepD;exact⟨l,vs,rfl,sq',rd⟩
  ·exact h.elim
 ·exact h.elim
def gII (f:Int->Int->Int):List R->AE:=λrs ρ q=>match rs with
 | [.d (.int i),.d (.int j)]=>q (.d (.int (f i j))) ρ
 | _=>False
theorem qd:CbOk K (λxs H Q=>∃i j,xs=[.int i,.int j]/\Q (.int (if j > i then j else i)) H) (gII λi j=>if j > i then j else i):=by
 intro F σ ρ H vs rs q Q a i h b;unfold gII at h;split at h
 ·obtain⟨x,y,rfl,i1,j1⟩:=i.two;exact⟨_,_,by rw[i1.int,j1.int],b.int a h⟩
 ·exact h.elim
theorem qc:CbOk K (λxs H Q=>∃i j,xs=[.int i,.int j]/\Q (.int (if j<i then j else i)) H) (gII λi j=>if j<i then j else i):=by
 intro F σ ρ H vs rs q Q a i h b;unfold gII at h;split at h
 ·obtain⟨x,y,rfl,i1,j1⟩:=i.two;exact⟨_,_,by rw[i1.int,j1.int],b.int a h⟩
 ·exact h.elim
def fb:List D->Option (List Int)
 | []=>some []
 | .int i::ds=>(fb ds).map (i :: ·)
 | _=>none
theorem mK:∀ {ds:List D} {ns:List Int},fb ds=some ns->ds=ns.map D.int
 | [],ns,h=>by simp[fb]at h;subst h;rfl
 | .int i::ds,ns,h=>by
  simp only[fb,wT]at h;obtain⟨ms,e,rfl⟩:=h;rw[mK e];rfl
 | .non::ds,ns,h=>by simp[fb]at h
 | .bl _::ds,ns,h=>by simp[fb]at h
 | .str _::ds,ns,h=>by simp[fb]at h
 | .tup _::ds,ns,h=>by simp[fb]at h
 | .lst _::ds,ns,h=>by simp[fb]at h
theorem qS (ns:List Int):fb (ns.map D.int)=some ns:=by
 induction ns with
 | nil=>rfl
 | cons n ns ih=>simp[fb,ih]
def iN:List D->Option (List Bool)
 | []=>some []
 | .bl i::ds=>(iN ds).map (i :: ·)
 | _=>none
theorem qf:∀ {ds:List D} {ns:List Bool},iN ds=some ns->ds=ns.map D.bl
 | [],ns,h=>by simp[iN]at h;subst h;rfl
 | .bl i::ds,ns,h=>by
  simp only[iN,wT]at h;obtain⟨ms,e,rfl⟩:=h;rw[qf e];rfl
 | .non::ds,ns,h=>by simp[iN]at h
 | .int _::ds,ns,h=>by simp[iN]at h
 | .str _::ds,ns,h=>by simp[iN]at h
 | .tup _::ds,ns,h=>by simp[iN]at h
 | .lst _::ds,ns,h=>by simp[iN]at h
theorem tW (ns:List Bool):iN (ns.map D.bl)=some ns:=by
 induction ns with
 | nil=>rfl
 | cons n ns ih=>simp[iN,ih]
theorem vm:∀ {vs:List V} {ns:List Bool},RepDs K H vs (ns.map D.bl)->vs=ns.map V.bl
 | [],[],_=>rfl
 | v::vs,n::ns,h=>by
  rw[wl]at h;unfold RepDs at h;obtain⟨h1,h2⟩:=h;unfold RepD at h1;rw[wl,h1,vm h2]
 | [],n::ns,h=>by rw[wl]at h;unfold RepDs at h;exact h.elim
 | v::vs,[],h=>by rw[BP]at h;unfold RepDs at h;exact h.elim
@[irreducible] def gAll:List R->AE:=λrs ρ q=>match rs with
 | [r]=>(match view ρ r with
  | some (.lst ds)=>(match iN ds with | some bs=>q (.d (.bl (bs.all id))) ρ | none=>False)
  | _=>False)
 | _=>False
theorem qe:CbOk K (λxs H Q=>∃(p:Addr) (bs:List Bool),xs=[.ref p]/\SqL K H p (bs.map V.bl)/\Q (.bl (bs.all id)) H) gAll:=by
 intro F σ ρ H vs rs q Q a i h b;unfold gAll at h;split at h
 ·obtain⟨x,rfl,i1⟩:=i.one;split at h
  ·rename_i ds e;split at h
   ·rename_i bs e';obtain⟨l,vs,rfl,sq,rd⟩:=cH a i1 e;rw[qf e']at rd;rw[vm rd]at sq;exact⟨l,bs,rfl,sq,b.bl a h⟩
   ·exact h.elim
  ·exact h.elim
 ·exact h.elim
@[irreducible] def gSum:List R->AE:=λrs ρ q=>match rs with
 | [r]=>(match view ρ r with
  | some (.lst ds)=>(match fb ds with | some ns=>(∀n∈ns,0<=n)/\ns.sum<2^62/\q (.d (.int ns.sum)) ρ | none=>False)
  | _=>False)
 | _=>False
theorem u1:CbOk K (λxs H Q=>∃(p:Addr) (ns:List Int),xs=[.ref p]/\SqL K H p (ns.map V.int)/\(∀n∈ns,0<=n)/\ns.sum<2^62/\Q (.int ns.sum) H) gSum:=by
 intro F σ ρ H vs rs q Q a i h b;unfold gSum at h;split at h
 ·obtain⟨x,rfl,i1⟩:=i.one;split at h
  ·rename_i ds e;split at h
   ·rename_i bs e';obtain⟨l,vs,rfl,sq,rd⟩:=cH a i1 e;rw[mK e',r_]at rd;rw[rd]at sq;exact⟨l,bs,rfl,sq,h.1,h.2.1,b.int a h.2.2⟩
   ·exact h.elim
  ·exact h.elim
 ·exact h.elim
def aApp (a:AE)(as:AA):AE:=λρ q=>a ρ λr ρ1=>match r with
 | .o i=>(match gt ρ1 i with
  | .ow _=>as ρ1 λrs ρ2=>(match rs with
   | [y]=>sto [y] ρ2 λes ρ3=>(match gt ρ3 i with
    | .ow ds=>ds.length<=1000000/\q (.d .non) (pt ρ3 i (.ow (ds++es)))
    | _=>False)
   | _=>False)
  | _=>False)
 | _=>False
theorem dY (ha:TEok K ta a)(hs:TAok K ts as):TEok K (tBM K "list" rAppend ta ts) (aApp a as):=by
 intro F σ ρ H q Q r h k;refine ha F σ ρ H _ _ r h λr1 ρ1 x H1 h1 rel1=>?_;split at h1
 ·rename_i i;obtain⟨r',k1,i1⟩:=rel1.inF;have ex:σ[i]? = some (some x):=i1;split at h1
  ·rename_i ds0 hg0;have s:=r'.sl i;rw[hg0,ex]at s;obtain⟨l,vs0,e,hl,_⟩:=s;injection e with e;injection e with e;subst e;refine⟨.inl ⟨rfl,_,SqL.of hl⟩,hs F σ ρ1 H1 _ _ r' h1 λrs ρ2 vs H2 h2 r2 i2 k2=>?_⟩;split at h2
   ·obtain⟨es,ρ3,h3,r3,k3,rd⟩:=gJ r2 i2 h2;split at h3
    ·rename_i ds hg;have s:=r3.sl i;rw[hg,ex]at s;obtain⟨l',us,e,hl',rd'⟩:=s;injection e with e;injection e with e;injection e with e;subst e;obtain⟨y,rfl,_⟩:=i2.one;have hw:=r3.write (i:=i) (l:=l) (o:=.lst (us++[y])) (s:=.ow (ds++es)) (by rw[hg];rfl) ex rfl ⟨l,_,rfl,bh,rd'.append rd⟩;refine⟨l,us,y,rfl,rfl,hl',i6 (by rw[rd'.length];exact h3.1),?_⟩;exact(((k.after k1).after k2).after (k3.trans hw.2)).non hw.1 h3.2
    ·exact h3.elim
   ·exact h2.elim
  ·exact h1.elim
 ·exact h1.elim
abbrev AO:=En->(Option Int->En->Prop)->Prop
def TOok (K:ac)(t:TO)(a:AO):Prop:=∀F σ ρ H q Q,Rel K F σ ρ H->a ρ q->(∀b ρ' H',q b ρ'->Rel K F σ ρ' H'->Kp σ ρ ρ' H H'->Q b H')->t σ H Q
def oNo:AO:=λρ q=>q none ρ
def zp (a:AE):AO:=λρ q=>a ρ λr ρ1=>match r with
 | .d (.int i)=>q (some i) ρ1
 | _=>False
theorem kR:TOok K tNoPart oNo:=λF σ ρ H q Q r h k=>k _ _ _ h r .refl
theorem fm (ha:TEok K ta a):TOok K (xR ta) (zp a):=by
 intro F σ ρ H q Q r h k;refine ha F σ ρ H _ _ r h λr1 ρ1 x H1 h1 rel1=>?_;split at h1
 ·obtain⟨r',k1,i1⟩:=rel1.inF;exact⟨_,i1.int,k _ _ _ h1 r' k1⟩
 ·exact h1.elim
def cutD (xs:List D)(lo hi:Option Int):List D:=(xs.drop (HT.sIx xs.length 0 lo)).take (HT.sIx xs.length xs.length hi - HT.sIx xs.length 0 lo)
theorem RepDs.drop:∀ {vs:List V} {ds:List D} (n:Nat),RepDs K H vs ds->RepDs K H (vs.drop n) (ds.drop n)
 | [],[],n,h=>by simp[RepDs.nil]
 | v::vs,d::ds,0,h=>h
 | v::vs,d::ds,n+1,h=>by unfold RepDs at h;exact RepDs.drop n h.2
 | [],d::ds,_,h=>by unfold RepDs at h;exact h.elim
 | v::vs,[],_,h=>by unfold RepDs at h;exact h.elim
theorem RepDs.take:∀ {vs:List V} {ds:List D} (n:Nat),RepDs K H vs ds->RepDs K H (vs.take n) (ds.take n)
 | [],[],n,h=>by simp[RepDs.nil]
 | v::vs,d::ds,0,h=>.nil
 | v::vs,d::ds,n+1,h=>by unfold RepDs at h;exact .cons h.1 (RepDs.take n h.2)
 | [],d::ds,_,h=>by unfold RepDs at h;exact h.elim
 | v::vs,[],_,h=>by unfold RepDs at h;exact h.elim
theorem xq {vs:List V}{ds:List D}{lo hi:Option Int}(h:RepDs K H vs ds):RepDs K H (cutV vs lo hi) (cutD ds lo hi):=by
 unfold cutV cutD;rw[h.length];exact(h.drop _).take _
def aSlL (a:AE)(l u:AO):AE:=λρ q=>a ρ λr ρ1=>l ρ1 λlo ρ2=>u ρ2 λhi ρ3=>match view ρ3 r.frz with
 | some (.lst ds)=>q (.f (cutD ds lo hi)) ρ3
 | _=>False
theorem kS {tl th:TO}{al au:AO}(ha:TEok K ta a)(hl:TOok K tl al)(hh:TOok K th au):TEok K (tSl (rSlL K) ta tl th) (aSlL a al au):=by
 intro F σ ρ H q Q r h k;refine ha F σ ρ H _ _ r h λr1 ρ1 x H1 h1 rel1=>?_;obtain⟨r',k1,i1⟩:=rel1.inF;refine hl F σ ρ1 H1 _ _ r' h1 λlo ρ2 H2 h2 r2 k2=>?_;refine hh F σ ρ2 H2 _ _ r2 h2 λhi ρ3 H3 h3 r3 k3=>?_;split at h3
 ·rename_i ds e;obtain⟨p,vs,rfl,sq,rd⟩:=cH r3 ((i1.keep k2).keep k3) e;exact⟨p,vs,rfl,sq,λp' hp=>(((k.after k1).after k2).after k3).new r3 h3 (xq rd) hp⟩
 ·exact h3.elim
end
def dg (ρ:En):R->Sv
 | .d d=>.vl d
 | .o j=>gt ρ j
 | .x s=>s
 | _=>.un
def Src (K:ac)(F:Fr)(σ:St)(ρ:En)(H:Hp)(ov:Option V):R->Prop
 | .d d=>∃v,ov=some v/\RepD K (hid H (hs F σ ρ)) v d
 | .o j=>(σ[j]?).getD none=ov
 | .x s=>∃v,ov=some v/\s.own=false/\SvOk K (hid H (hs F σ ρ)) H (some (some v)) s
 | _=>True
inductive Srcs (K:ac) (F:Fr) (σ:St) (ρ:En) (H:Hp):St->List R->Prop
 | nil:Srcs K F σ ρ H [] []
 | cons {v:Option V} {r:R} {vs:St} {rs:List R}:Src K F σ ρ H v r->Srcs K F σ ρ H vs rs->Srcs K F σ ρ H (v::vs) (r::rs)
def isO (j:Nat):R->Bool
 | .o i=>i==j
 | _=>false
def dis:List R->Bool
 | []=>true
 | .o j::rs=>rs.all (λr=>!isO j r)&&dis rs
 | _::rs=>dis rs
theorem uY:∀ {rs:List R} {k k' j:Nat},dis rs=true->rs[k]? = some (.o j)->rs[k']? = some (.o j)->k=k':=by
 intro rs;induction rs with
 | nil=>intro k k' j _ h;simp at h
 | cons r rs ih =>
  intro k k' j hd h h';have hd':dis rs=true:=by
   cases r <;> simp[dis]at hd <;> first | exact hd.2 | exact hd
  have no:∀(m:Nat),r = .o j->rs[m]? = some (.o j)->False:=λm e hm=>by
   subst e;simp[dis]at hd;have:=hd.1 _ (wp hm);simp[isO]at this
  cases k with
  | zero =>
   cases k' with
   | zero=>rfl
   | succ k'=>simp at h h';exact(no k' h h').elim
  | succ k =>
   cases k' with
   | zero=>simp at h h';exact(no k h' h).elim
   | succ k'=>simp at h h';rw[ih hd' h h']
def back:En->List R->En->En
 | ρ,.o j::rs,s::ss=>back (pt ρ j s) rs ss
 | ρ,_::rs,_::ss=>back ρ rs ss
 | ρ,_,_=>ρ
theorem eY:∀(rs:List R) (ρ ss:En),(back ρ rs ss).length=ρ.length
 | [],ρ,ss=>by cases ss <;> rfl
 | r::rs,ρ,[]=>by cases r <;> rfl
 | .o j::rs,ρ,s::ss=>by show(back (pt ρ j s) rs ss).length=_;rw[eY,fw]
 | .d d::rs,ρ,s::ss=>eY rs ρ ss
 | .n d::rs,ρ,s::ss=>eY rs ρ ss
 | .t d::rs,ρ,s::ss=>eY rs ρ ss
 | .x d::rs,ρ,s::ss=>eY rs ρ ss
theorem gG:∀(rs:List R) (ρ ss:En) (i:Nat),(∀k:Nat,rs[k]? ≠ some (R.o i))->gt (back ρ rs ss) i=gt ρ i
 | [],ρ,ss,i,_=>by cases ss <;> rfl
 | r::rs,ρ,[],i,_=>by cases r <;> rfl
 | .o j::rs,ρ,s::ss,i,h=>by
  have ne:j≠i:=λe=>h 0 (by simp[e]);show gt (back (pt ρ j s) rs ss) i=_;rw[gG rs _ ss i (λk z=>h (k+1) (by simpa using z)),bM ρ j i s ne]
 | .d d::rs,ρ,s::ss,i,h=>gG rs ρ ss i (λk z=>h (k+1) (by simpa using z))
 | .n d::rs,ρ,s::ss,i,h=>gG rs ρ ss i (λk z=>h (k+1) (by simpa using z))
 | .t d::rs,ρ,s::ss,i,h=>gG rs ρ ss i (λk z=>h (k+1) (by simpa using z))
 | .x d::rs,ρ,s::ss,i,h=>gG rs ρ ss i (λk z=>h (k+1) (by simpa using z))
theorem iu:∀(rs:List R) (ρ ss:En) (i k:Nat),dis rs=true->rs[k]? = some (.o i)->ss.length=rs.length->i<ρ.length->gt (back ρ rs ss) i=gt ss k
 | [],ρ,ss,i,k,_,h,_,_=>by simp at h
 | r::rs,ρ,[],i,k,_,_,e,_=>by simp at e
 | .o j::rs,ρ,s::ss,i,0,hd,h,e,l=>by
  simp at h;subst h;simp[dis]at hd;show gt (back (pt ρ j s) rs ss) j=s;rw[gG rs _ ss j (λk z=>by have:=hd.1 _ (wp z);simp[isO]at this),j8 ρ j s l]
 | .o j::rs,ρ,s::ss,i,k+1,hd,h,e,l=>by
  simp[dis]at hd;exact iu rs (pt ρ j s) ss i k hd.2 (by simpa using h) (by simpa using e) (by rw[fw];exact l)
 | .d d::rs,ρ,s::ss,i,0,hd,h,e,l=>by simp at h
 | .n d::rs,ρ,s::ss,i,0,hd,h,e,l=>by simp at h
 | .t d::rs,ρ,s::ss,i,0,hd,h,e,l=>by simp at h
 | .x d::rs,ρ,s::ss,i,0,hd,h,e,l=>by simp at h
 | .d d::rs,ρ,s::ss,i,k+1,hd,h,e,l=>iu rs ρ ss i k hd (by simpa using h) (by simpa using e) l
 | .n d::rs,ρ,s::ss,i,k+1,hd,h,e,l=>iu rs ρ ss i k hd (by simpa using h) (by simpa using e) l
 | .t d::rs,ρ,s::ss,i,k+1,hd,h,e,l=>iu rs ρ ss i k hd (by simpa using h) (by simpa using e) l
 | .x d::rs,ρ,s::ss,i,k+1,hd,h,e,l=>iu rs ρ ss i k hd (by simpa using h) (by simpa using e) l
theorem mL (ρ:En):∀(rs:List R) (k:Nat),gt (rs.map (dg ρ)) k=(match rs[k]? with | some r=>dg ρ r | none=>.un)
 | [],k=>by simp[gt]
 | r::rs,0=>by simp[gt]
 | r::rs,k+1=>by simp[gt,mL ρ rs k]
section
variable {K:ac}{F:Fr}{σ:St}{ρ ρ':En}{H H':Hp}{ovs:St}{rs:List R}
theorem Srcs.length (s:Srcs K F σ ρ H ovs rs):ovs.length=rs.length:=by
 induction s with
 | nil=>rfl
 | cons _ _ ih=>simp[ih]
theorem Srcs.get {k:Nat}{r:R}(s:Srcs K F σ ρ H ovs rs)(h:rs[k]? = some r):∃ov,ovs[k]? = some ov/\Src K F σ ρ H ov r:=by
 induction s generalizing k with
 | nil=>simp at h
 | cons a _ ih =>
  cases k with
  | zero=>simp at h;subst h;exact⟨_,rfl,a⟩
  | succ k=>obtain⟨ov,e,q⟩:=ih (by simpa using h);exact⟨ov,by simpa using e,q⟩
def fZ (F:Fr)(σ:St)(ρ:En)(H:Hp)(ovs:St)(ss:En):Fr :=
 ⟨H,λa=>F.Z a∨(bR σ ρ a/\¬bR ovs ss a),λa=>bR ovs ss a,λi a=>(gt ss i).own=true/\ovs[i]? = some (some (.ref a)),λ_ _=>False⟩
theorem nI (s:Srcs K F σ ρ H ovs rs){k:Nat}(h:(gt (rs.map (dg ρ)) k).own=true):∃j:Nat,rs[k]? = some (R.o j)/\(gt ρ j).own=true/\gt (rs.map (dg ρ)) k=gt ρ j/\ovs[k]? = some ((σ[j]?).getD none):=by
 rw[mL]at h;cases e:rs[k]? with
 | none=>simp[e]at h;cases h
 | some r =>
  rw[e]at h;cases r with
  | d d=>cases h
  | n d=>cases h
  | t d=>cases h
  | x d =>
   obtain⟨ov,_,_,_,hx,_⟩:=s.get e;have h:d.own=true:=h;rw[hx]at h;cases h
  | o j =>
   obtain⟨ov,e1,e2⟩:=s.get e;exact⟨j,rfl,h,by rw[mL,e];rfl,by rw[e1,show _=ov from e2]⟩
theorem lF {x:Option (Option V)}{a:Addr}(h:some (x.getD none)=some (some (V.ref a))):x=some (some (.ref a)):=by
 cases x with
 | none=>simp at h
 | some y=>simpa using h
theorem df (s:Srcs K F σ ρ H ovs rs){a:Addr}(h:bR ovs (rs.map (dg ρ)) a):∃k j:Nat,rs[k]? = some (R.o j)/\(gt ρ j).own=true/\σ[j]? = some (some (V.ref a))/\ovs[k]? = some (some (V.ref a)):=by
 obtain⟨k,hk,e⟩:=h;obtain⟨j,e1,e2,e3,e4⟩:=nI s hk;rw[e]at e4;exact⟨k,j,e1,e2,lF e4.symm,e⟩
theorem rO (r:Rel K F σ ρ H)(s:Srcs K F σ ρ H ovs rs):hs (fZ F σ ρ H ovs (rs.map (dg ρ))) ovs (rs.map (dg ρ))=hs F σ ρ:=by
 funext a;apply propext;constructor
 ·rintro((h | h) | h)
  ·exact .inl h
  ·exact .inr h.1
  ·obtain⟨k,j,e1,e2,e3,_⟩:=df s h;exact .inr ⟨j,e2,e3⟩
 ·rintro(h | h)
  ·exact .inl (.inl h)
  ·by_cases q:bR ovs (rs.map (dg ρ)) a
   ·exact .inr q
   ·exact .inl (.inr ⟨h,q⟩)
theorem Rel.sub (r:Rel K F σ ρ H)(s:Srcs K F σ ρ H ovs rs)(hd:dis rs=true):Rel K (fZ F σ ρ H ovs (rs.map (dg ρ))) ovs (rs.map (dg ρ)) H:=by
 refine⟨by rw[s.length,im],λa o e _=>e,λa z=>?_,λa h z=>?_,λi a hi e=>.inl ⟨⟨hi,e⟩,i,hi,e⟩,λi a h=>?_,λa h=>?_,λa h=>?_,λi j a hi hj ei ej=>?_,λk=>?_⟩
 ·rcases z with z | z
  ·exact r.zl a z
  ·exact pK r z.1
 ·obtain⟨k,j,e1,e2,e3,_⟩:=df s h;rcases z with z | z
  ·exact r.zo a ⟨j,e2,e3⟩ z
  ·exact z.2 h
 ·rcases h with h | h
  ·exact h.2
  ·exact h.elim
 ·obtain⟨k,j,e1,e2,e3,_⟩:=df s h;exact dE r ⟨j,e2,e3⟩
 ·obtain⟨k,j,e1,e2,e3,_⟩:=df s h;exact dE r ⟨j,e2,e3⟩
 ·obtain⟨p,a1,a2,a3,a4⟩:=nI s hi;obtain⟨p',b1,b2,b3,b4⟩:=nI s hj;rw[ei]at a4;rw[ej]at b4;have:p=p':=r.nd p p' a a2 b2 (lF a4.symm) (lF b4.symm);subst this;exact uY hd a1 b1
 ·rw[rO r s,mL];cases e:rs[k]? with
  | none=>trivial
  | some x =>
   obtain⟨ov,e1,e2⟩:=s.get e;cases x with
   | n d=>trivial
   | t d=>trivial
   | x d=>obtain⟨v,e3,_,e4⟩:=e2;rw[e1,e3];exact e4
   | d d=>obtain⟨v,e3,e4⟩:=e2;rw[e1,e3];exact⟨v,rfl,e4⟩
   | o j =>
    rw[e1];have q:=r.sl j;show SvOk K _ H (some ov) (gt ρ j);rw[<- show(σ[j]?).getD none=ov from e2];cases e5:σ[j]? with
    | none =>
     rw[e5]at q;cases hg:gt ρ j with
     | un=>trivial
     | vl d=>rw[hg]at q;obtain⟨x,z,_⟩:=q;cases z
     | ow d=>rw[hg]at q;obtain⟨x,_,z,_⟩:=q;cases z
     | tp d=>rw[hg]at q;obtain⟨x,_,_,_,_,z,_⟩:=q;cases z
     | dk d=>rw[hg]at q;obtain⟨x,_,z,_⟩:=q;cases z
     | dt d=>rw[hg]at q;obtain⟨x,_,z,_⟩:=q;cases z
     | ex d m=>rw[hg]at q;obtain⟨x,_,z,_⟩:=q;cases z
     | sc d=>rw[hg]at q;obtain⟨x,z,_⟩:=q;cases z
     | px d m k=>rw[hg]at q;obtain⟨x,_,_,_,z,_⟩:=q;cases z
     | xl es=>rw[hg]at q;obtain⟨x,_,z,_⟩:=q;cases z
     | ob _ _=>rw[hg]at q;obtain⟨x,_,_,z,_⟩:=q;cases z
     | ll _=>rw[hg]at q;obtain⟨x,_,_,z,_⟩:=q;cases z
     | ds _ _ _=>rw[hg]at q;obtain⟨x,_,_,_,_,_,z,_⟩:=q;cases z
    | some y=>rw[e5]at q;exact q
theorem Rel.back (r:Rel K F σ ρ H)(s:Srcs K F σ ρ H ovs rs)(hd:dis rs=true){ss':En}(r':Rel K (fZ F σ ρ H ovs (rs.map (dg ρ))) ovs ss' H')(sb:∀i,(gt ss' i).own=true->(gt (rs.map (dg ρ)) i).own=true) :
  Rel K F σ (L2.back ρ rs ss') H'/\Kp σ ρ (L2.back ρ rs ss') H H'/\Same (hid H' (hs (fZ F σ ρ H ovs (rs.map (dg ρ))) ovs ss')) (hid H' (hs F σ (L2.back ρ rs ss'))):=by
 have ln:ss'.length=rs.length:=by rw[<- r'.len,s.length]
 have cs:∀i:Nat,(∃k:Nat,rs[k]? = some (R.o i)/\i<ρ.length/\gt (L2.back ρ rs ss') i=gt ss' k)∨((∀k:Nat,i<ρ.length->rs[k]? ≠ some (R.o i))/\gt (L2.back ρ rs ss') i=gt ρ i):=λi=>by
  by_cases hi:i<ρ.length
  ·by_cases q:∃k:Nat,rs[k]? = some (R.o i)
   ·obtain⟨k,e⟩:=q;exact .inl ⟨k,e,hi,iu rs ρ ss' i k hd e ln hi⟩
   ·exact .inr ⟨λk _ z=>q ⟨k,z⟩,gG rs ρ ss' i λk z=>q ⟨k,z⟩⟩
  ·refine .inr ⟨λk z=>absurd z hi,?_⟩;rw[iE _ i (by rw[eY];omega),iE _ i (by omega)]
 have own':∀i,(gt (L2.back ρ rs ss') i).own=true->(gt ρ i).own=true:=λi h=>by
  rcases cs i with⟨k,e,hi,g⟩ | ⟨_,g⟩
  ·rw[g]at h;have:=sb k h;rw[mL,e]at this;exact this
  ·rw[g]at h;exact h
 have subo:∀ {a},bR σ (L2.back ρ rs ss') a->bR σ ρ a:=λ⟨i,hi,e⟩=>⟨i,own' i hi,e⟩
 have no:∀a,¬bR σ ρ a->¬bR ovs (rs.map (dg ρ)) a:=λa h z=>by
  obtain⟨k,j,e1,e2,e3,_⟩:=df s z;exact h ⟨j,e2,e3⟩
 have st:∀a o,H a=some o->¬bR ovs (rs.map (dg ρ)) a->H' a=some o:=λa o e n=>r'.fr a o e n;have hsub:∀a,hs F σ (L2.back ρ rs ss') a->hs (fZ F σ ρ H ovs (rs.map (dg ρ))) ovs ss' a:=λa h=>by
  rcases h with h | ⟨i,hi,e⟩
  ·exact .inl (.inl h)
  ·rcases cs i with⟨k,e1,hl,g⟩ | ⟨n,g⟩
   ·right;rw[g]at hi;obtain⟨ov,q1,q2⟩:=s.get e1;refine⟨k,hi,?_⟩;rw[q1,<- show(σ[i]?).getD none=ov from q2,e];rfl
   ·left;right;rw[g]at hi;refine⟨⟨i,hi,e⟩,λz=>?_⟩;obtain⟨k,j,e1,e2,e3,_⟩:=df s z;have:i=j:=r.nd i j a hi e2 e e3;subst this;exact n k (jn hi) e1
 have v1:Same (hid H' (hs (fZ F σ ρ H ovs (rs.map (dg ρ))) ovs ss')) (hid H' (hs F σ (L2.back ρ rs ss'))):=bP λa o e n=>⟨e,λz=>n (hsub a z)⟩
 have v2:Same (hid H (hs F σ ρ)) (hid H' (hs F σ (L2.back ρ rs ss'))):=bP λa o e n=>⟨st a o e (no a λz=>n (.inr z)),λz=>n (z.imp id subo)⟩
 refine⟨⟨by rw[eY,r.len],λa o e n=>?_,λa z=>r'.zl a (.inl z),λa h=>r.zo a (subo h),λi a hi e=>r.ow i a (own' i hi) e,r.mi,r.ml,λa z=>?_,λi j a hi hj ei ej=>r.nd i j a (own' i hi) (own' j hj) ei ej,λi=>?_⟩,⟨λa o e n=>st a o e (no a n),own'⟩,v1⟩
 ·have e1:=r.fr a o e n;refine st a o e1 λz=>?_;obtain⟨k,j,h1,h2,h3,_⟩:=df s z;rcases r.ow j a h2 h3 with q | q
  ·exact n q.2
  ·rw[e]at q;cases q
 ·by_cases q:bR ovs (rs.map (dg ρ)) a
  ·exact r'.ma a q
  ·cases h:H a with
   | none=>exact absurd h (r.ma a z)
   | some o=>rw[st a o h q];exact λz=>nomatch z
 ·rcases cs i with⟨k,e1,hl,g⟩ | ⟨n,g⟩
  ·rw[g];have q:=(r'.sl k).keep v1 λ_ _ _ _ e=>e;obtain⟨ov,q1,q2⟩:=s.get e1;rw[q1,<- show(σ[i]?).getD none=ov from q2]at q;cases e5:σ[i]? with
   | none =>
    rw[e5]at q;cases hg:gt ss' k with
    | un=>trivial
    | vl d=>rw[hg]at q;obtain⟨x,z,_⟩:=q;cases z
    | ow d=>rw[hg]at q;obtain⟨x,_,z,_⟩:=q;cases z
    | tp d=>rw[hg]at q;obtain⟨x,_,_,_,_,z,_⟩:=q;cases z
    | dk d=>rw[hg]at q;obtain⟨x,_,z,_⟩:=q;cases z
    | dt d=>rw[hg]at q;obtain⟨x,_,z,_⟩:=q;cases z
    | ex d m=>rw[hg]at q;obtain⟨x,_,z,_⟩:=q;cases z
    | sc d=>rw[hg]at q;obtain⟨x,z,_⟩:=q;cases z
    | px d m k=>rw[hg]at q;obtain⟨x,_,_,_,z,_⟩:=q;cases z
    | xl es=>rw[hg]at q;obtain⟨x,_,z,_⟩:=q;cases z
    | ob _ _=>rw[hg]at q;obtain⟨x,_,_,z,_⟩:=q;cases z
    | ll _=>rw[hg]at q;obtain⟨x,_,_,z,_⟩:=q;cases z
    | ds _ _ _=>rw[hg]at q;obtain⟨x,_,_,_,_,_,z,_⟩:=q;cases z
   | some y=>rw[e5]at q;exact q
  ·rw[g];refine(r.sl i).keep v2 λl o ho e h=>st l o h λz=>?_;obtain⟨k,j,e1,e2,e3,_⟩:=df s z;have:i=j:=r.nd i j l ho e2 e e3;subst this;exact n k (jn ho) e1
end
abbrev ASp:=En->Ko->Prop
def F0 (vs:List V)(ss:En)(H:Hp)(Z:Addr->Prop):Fr:=⟨H,Z,λa=>bR (vs.map some) ss a,λi a=>(gt ss i).own=true/\(vs.map some)[i]? = some (some (.ref a)),λ_ _=>False⟩
def spA (K:ac)(S:ASp):Sp:=λvs H Q _=>∃ss Z q,Rel K (F0 vs ss H Z) (vs.map some) ss H/\S ss q /\
 ∀r ss' v H',q r ss'->(∀i,(gt ss' i).own=true->(gt ss i).own=true)->(∀i,r ≠ .o i)->RelR K (F0 vs ss H Z) (vs.map some) ss' v H' r->Q v H'
def za (S:ASp)(as:AA):AE:=λρ q=>as ρ λrs ρ1=>dis rs=true/\S (rs.map (dg ρ1)) λr ss'=>q r (back ρ1 rs ss')
section
variable {K:ac}{F:Fr}{σ:St}{ρ ρ':En}{H H':Hp}{ovs:St}{rs:List R}
theorem InFs.srcs {vs:List V}(h:InFs K F σ ρ H vs rs):Srcs K F σ ρ H (vs.map some) rs:=by
 induction h with
 | nil=>exact .nil
 | cons a t ih =>
  rename_i v r vs rs;refine .cons ?_ ih;cases r with
  | d d=>exact⟨v,rfl,a⟩
  | o j=>show(σ[j]?).getD none=some v;rw[show σ[j]? = _ from a];rfl
  | n s=>trivial
  | t n=>trivial
  | x n=>exact⟨v,rfl,a⟩
theorem aK {S:ASp}{E:XK}{ts:TA}{as:AA}(hs':TAok K ts as):TEok K (nH (spA K S) [] E ts) (za S as):=by
 intro F σ ρ H q Q r h k;refine hs' F σ ρ H _ _ r h λrs ρ1 vs H1 h1 r1 i1 k1=>?_;obtain⟨hd,hS⟩:=h1;have s:=i1.srcs;rw[Bo];refine⟨rs.map (dg ρ1),(fZ F σ ρ1 H1 (vs.map some) (rs.map (dg ρ1))).Z,_,r1.sub s hd,hS,λrr ss' v H' hq sb no out=>?_⟩;refine(k.after k1) rr (back ρ1 rs ss') v H' hq ?_;cases rr with
 | o i=>exact absurd rfl (no i)
 | d d =>
  obtain⟨a,b⟩:=out;obtain⟨x,y,z⟩:=r1.back s hd a sb;exact⟨x,y,RepD.same b z⟩
 | x sv =>
  obtain⟨a,b,c⟩:=out;obtain⟨x,y,z⟩:=r1.back s hd a sb;exact⟨x,y,b,c.keep z λl o ho=>by rw[b]at ho;cases ho⟩
 | t n =>
  obtain⟨a,b⟩:=out;obtain⟨x,y,z⟩:=r1.back s hd a sb;exact⟨x,y,b⟩
 | n sv =>
  obtain⟨Hb,l,o,a,b,c,e1,e2,e3⟩:=out;obtain⟨x,y,z⟩:=r1.back s hd a sb;exact⟨Hb,l,o,x,y,b,c.keep z λ_ _ _ _ e=>e,e1,e2,e3⟩
end
section
variable {K:ac}{F:Fr}{σ σ':St}{ρ ρ':En}{H H':Hp}
open Classical in
noncomputable def rebase (F:Fr)(σ:St)(ρ:En)(H:Hp)(pin:Nat->Bool):Fr :=
 ⟨λa=>if bR σ ρ a/\F.H0 a=none then none else H a,F.Z,λa=>F.M a/\bR σ ρ a,F.I,λi a=>F.P i a∨(pin i=true/\σ[i]? = some (some (.ref a)))⟩
open Classical in
theorem jc {pin:Nat->Bool}{a:Addr}{o:HO}(h:¬(bR σ ρ a/\F.H0 a=none))(e:H a=some o):(rebase F σ ρ H pin).H0 a=some o:=by
 show(if bR σ ρ a/\F.H0 a=none then none else H a)=some o;rw[if_neg h];exact e
open Classical in
theorem x6 {pin:Nat->Bool}{a:Addr}{o:HO}(e:(rebase F σ ρ H pin).H0 a=some o):H a=some o:=by
 have e':(if bR σ ρ a/\F.H0 a=none then none else H a)=some o:=e;split at e'
 ·cases e'
 ·exact e'
open Classical in
theorem Rel.rebase (r:Rel K F σ ρ H)(pin:Nat->Bool):Rel K (L2.rebase F σ ρ H pin) σ ρ H where
 len:=r.len
 fr:=λa o e _=>x6 e
 zl:=r.zl
 zo:=r.zo
 ow:=λi a hi e=>by
  rcases r.ow i a hi e with⟨h1,h2⟩ | h
  ·exact .inl ⟨h1,h2,i,hi,e⟩
  ·refine .inr ?_;show(if bR σ ρ a/\F.H0 a=none then none else H a)=none;rw[if_pos ⟨⟨i,hi,e⟩,h⟩]
 mi:=λi a h=>by
  rcases h with h | h | h
  ·exact r.mi i a (.inl h)
  ·exact r.mi i a (.inr h)
  ·exact h.2
 ml:=λa h=>by
  cases e:H a with
  | none=>exact absurd e (r.ma a h.1)
  | some o=>rw[jc (λz=>r.ml a h.1 z.2) e];exact λz=>nomatch z
 ma:=λa h=>r.ma a h.1
 nd:=r.nd
 sl:=r.sl
theorem Rel.unbase {pin:Nat->Bool}(r:Rel K F σ ρ H)(r':Rel K (L2.rebase F σ ρ H pin) σ' ρ' H'):Rel K F σ' ρ' H'/\Same (hid H (hs F σ ρ)) (hid H' (hs F σ' ρ')):=by
 refine⟨⟨r'.len,λa o e n=>?_,r'.zl,r'.zo,λi a hi e=>?_,λi a h=>r'.mi i a (h.imp id .inl),r.ml,λa h=>?_,r'.nd,r'.sl⟩,bP λa o e n=>?_⟩
 ·exact r'.fr a o (jc (λz=>by rw[e]at z;cases z.2) (r.fr a o e n)) λz=>n z.1
 ·rcases r'.ow i a hi e with⟨h1,h2⟩ | h
  ·exact .inl ⟨h1,h2.1⟩
  ·right;cases h0:F.H0 a with
   | none=>rfl
   | some o =>
    exfalso;have nn:H a≠none:=by
     by_cases q:F.M a
     ·exact r.ma a q
     ·rw[r.fr a o h0 q];exact λz=>nomatch z
    cases e2:H a with
    | none=>exact nn e2
    | some u =>
     rw[jc (λz=>by rw[h0]at z;cases z.2) e2]at h;cases h
 ·by_cases q:bR σ ρ a
  ·exact r'.ma a ⟨h,q⟩
  ·cases e:H a with
   | none=>exact absurd e (r.ma a h)
   | some o=>rw[r'.fr a o (jc (λz=>q z.1) e) λz=>q z.2];exact λz=>nomatch z
 ·have n':¬bR σ ρ a:=λz=>n (.inr z);have e0:=jc (F:=F) (pin:=pin) (λz=>n' z.1) e;refine⟨r'.fr a o e0 λz=>n' z.2,λz=>?_⟩;rcases z with z | ⟨i,hi,ei⟩
  ·exact n (.inl z)
  ·rcases r'.ow i a hi ei with⟨_,h2⟩ | h
   ·exact n' h2.2
   ·rw[e0]at h;cases h
theorem RelR.unbase {pin:Nat->Bool}{v:V}{rr:R}(r:Rel K F σ ρ H)(r':RelR K (L2.rebase F σ ρ H pin) σ' ρ' v H' rr):RelR K F σ' ρ' v H' rr:=by
 cases rr with
 | d d=>exact⟨(r.unbase r'.1).1,r'.2⟩
 | o d=>exact⟨(r.unbase r'.1).1,r'.2⟩
 | t d=>exact⟨(r.unbase r'.1).1,r'.2⟩
 | x d=>exact⟨(r.unbase r'.1).1,r'.2⟩
 | n s =>
  obtain⟨Hb,l,o,a,b,c,e⟩:=r';exact⟨Hb,l,o,(r.unbase a).1,b,c,e⟩
end
structure u_ (K:ac)(F:Fr)(D:Ends)(e:nA):Prop where
 nx:∀ σ' ρ' H',e.nx ρ'->Rel K F σ' ρ' H'->D.nx σ' H'
 bk:∀ σ' ρ' H',e.bk ρ'->Rel K F σ' ρ' H'->D.bk σ' H'
 ct:∀ σ' ρ' H',e.ct ρ'->Rel K F σ' ρ' H'->D.ct σ' H'
 rt:∀ σ' ρ' r v H',e.rt r ρ'->RelR K F σ' ρ' v H' r->D.rt v H'
def TSok (K:ac)(pr:Nat->Bool)(t:TS)(a:AS):Prop:=∀F σ ρ H D e,(∀i a,F.pin i a->pr i=true)->Rel K F σ ρ H->a e ρ->u_ K F D e->t D σ H
abbrev AG:=D->En->(En->Prop)->Prop
abbrev AGs:=List D->En->(En->Prop)->Prop
def TGok (K:ac)(pr:Nat->Bool)(g:TG)(ag:AG):Prop:=∀F σ ρ H v d k Q,(∀i a,F.pin i a->pr i=true)->Rel K F σ ρ H->RepD K (hid H (hs F σ ρ)) v d->ag d ρ k ->
 (∀ σ' ρ',k ρ'->Rel K F σ' ρ' H->σ'.length=σ.length->(∀i,pr i=true->σ'[i]? = σ[i]?)->(∀i,(gt ρ' i).own=true->(gt ρ i).own=true/\σ'[i]? = σ[i]?)->Q σ' H)->g v σ H Q
def u9 (K:ac)(pr:Nat->Bool)(n:Nat)(g:TGs)(ag:AGs):Prop:=(∀ds ρ k,ag ds ρ k->ds.length=n)/\∀F σ ρ H vs ds k Q,(∀i a,F.pin i a->pr i=true)->Rel K F σ ρ H->RepDs K (hid H (hs F σ ρ)) vs ds->ag ds ρ k ->
 (∀ σ' ρ',k ρ'->Rel K F σ' ρ' H->σ'.length=σ.length->(∀i,pr i=true->σ'[i]? = σ[i]?)->(∀i,(gt ρ' i).own=true->(gt ρ i).own=true/\σ'[i]? = σ[i]?)->Q σ' H)->g vs σ H Q
section
variable {K:ac}{pr:Nat->Bool}{t u:TS}{a b:AS}{te:TE}{ae:AE}{tt:TT}{at':AT}
theorem uH {F:Fr}{i:Nat}(hp:∀i a,F.pin i a->pr i=true)(h:pr i=false):∀a,¬F.pin i a:=λa z=>by rw[hp i a z]at h;cases h
def gp (i:Nat):AG:=λd ρ k=>k (pt ρ i (.vl d))
theorem az {i:Nat}(h:pr i=false):TGok K pr (tq i) (gp i):=by
 intro F σ ρ H v d k Q hp r hd ha kk;refine kk _ _ ha (r.set hd (uH hp h)) (by rw[Bn]) (λj hj=>?_) λj hj=>?_
 ·rw[zn];rintro rfl;rw[h]at hj;cases hj
 ·obtain⟨ne,q⟩:=fB rfl hj;exact⟨q,by rw[zn ne]⟩
def gaNil:AGs:=λds ρ k=>match ds with
 | []=>k ρ
 | _=>False
def g9 (g:AG)(gs:AGs):AGs:=λds ρ k=>match ds with
 | d::r=>g d ρ λρ1=>gs r ρ1 k
 | []=>False
theorem bj:u9 K pr 0 gNil gaNil:=by
 refine⟨λds ρ k h=>?_,?_⟩
 ·cases ds with
  | nil=>rfl
  | cons _ _=>exact h.elim
 intro F σ ρ H vs ds k Q hp r hd ha kk;cases ds with
 | cons _ _=>exact ha.elim
 | nil =>
  cases vs with
  | nil=>exact⟨rfl,kk _ _ ha r rfl (λ_ _=>rfl) λ_ h=>⟨h,rfl⟩⟩
  | cons v vs=>unfold RepDs at hd;exact hd.elim
theorem wH {F:Fr}{σ σ':St}{ρ ρ':En}{H:Hp}(h:∀i,(gt ρ' i).own=true->(gt ρ i).own=true/\σ'[i]? = σ[i]?):Same (hid H (hs F σ ρ)) (hid H (hs F σ' ρ')):=bP λa o e n=>⟨e,λz=>by
 rcases z with z | ⟨i,hi,ei⟩
 ·exact n (.inl z)
 ·obtain⟨q1,q2⟩:=h i hi;exact n (.inr ⟨i,q1,q2▸ei⟩)⟩
theorem aD {g:TG}{gs:TGs}{ag:AG}{ags:AGs}{n:Nat}(h:TGok K pr g ag)(hs':u9 K pr n gs ags)(gl:∀d ρ k,ag d ρ k->∃ ρ',k ρ'):u9 K pr (n+1) (yK g gs) (g9 ag ags):=by
 refine⟨λds ρ k ha=>?_,?_⟩
 ·cases ds with
  | nil=>exact ha.elim
  | cons d ds=>obtain⟨ρ',q⟩:=gl _ _ _ ha;rw[zK,hs'.1 _ _ _ q]
 intro F σ ρ H vs ds k Q hp r hd ha kk;cases ds with
 | nil=>exact ha.elim
 | cons d ds =>
  cases vs with
  | nil=>unfold RepDs at hd;exact hd.elim
  | cons v vs =>
   unfold RepDs at hd;refine⟨v,vs,rfl,h F σ ρ H v d _ _ hp r hd.1 ha λσ1 ρ1 h1 r1 l1 p1 o1=>?_⟩;refine hs'.2 F σ1 ρ1 H vs ds _ _ hp r1 (hd.2.same (wH o1)) h1 λσ2 ρ2 h2 r2 l2 p2 o2=>?_;refine kk _ _ h2 r2 (l2.trans l1) (λi hi=>(p2 i hi).trans (p1 i hi)) λi hi=>?_;obtain⟨a1,a2⟩:=o2 i hi;obtain⟨b1,b2⟩:=o1 i a1;exact⟨b1,a2.trans b2⟩
def qW (n:Nat)(gs:AGs):AG:=λd ρ k=>match d with
 | .tup ds=>gs ds ρ k
 | _=>False
theorem aY {i:Nat}{d:D}{ρ:En}{k:En->Prop}(h:gp i d ρ k):∃ ρ',k ρ':=⟨_,h⟩
theorem bD {gs:TGs}{ags:AGs}{n:Nat}(hs':u9 K pr n gs ags):TGok K pr (gTup K n gs) (qW n ags):=by
 intro F σ ρ H v d k Q hp r hd ha kk;unfold qW at ha;split at ha
 ·rename_i ds;unfold RepD at hd;obtain⟨p,vs,rfl,sq,rd⟩:=hd;exact⟨p,vs,rfl,bW.seqT sq.sq,by rw[rd.length];exact hs'.1 _ _ _ ha,hs'.2 F σ ρ H vs ds k Q hp r rd ha kk⟩
 ·exact ha.elim
def aNext:AS:=λe ρ=>e.nx ρ
def aSeq (a b:AS):AS:=λe ρ=>a {e with nx:=b e} ρ
theorem ba:TSok K pr tNext aNext:=λF σ ρ H D e hp r h k=>k.nx _ _ _ h r
theorem aw (ha:TSok K pr t a)(hb:TSok K pr u b):TSok K pr (tSeq t u) (aSeq a b):=λF σ ρ H D e hp r h k =>
 ha F σ ρ H _ _ hp r h ⟨λσ' ρ' H' h' r'=>hb F σ' ρ' H' D e hp r' h' k,k.bk,k.ct,k.rt⟩
def zD (x:AE):AS:=λe ρ=>x ρ λ_ ρ1=>e.nx ρ1
theorem c_ (h:TEok K te ae):TSok K pr (v_ te) (zD ae):=λF σ ρ H D e hp r ha k =>
 h F σ ρ H _ _ r ha λr1 ρ1 v H1 h1 o=>k.nx _ _ _ h1 o.inF.1
def aRet (x:AE):AS:=λe ρ=>x ρ e.rt
theorem br (h:TEok K te ae):TSok K pr (tRet te) (aRet ae):=λF σ ρ H D e hp r ha k =>
 h F σ ρ H _ _ r ha λr1 ρ1 v H1 h1 o=>k.rt _ _ _ _ _ h1 o.rel
def aIfS (c:AT)(a b:AS):AS:=λe ρ=>c ρ λk ρ1=>if k=true then a e ρ1 else b e ρ1
theorem cg (hc:TTok K tt at')(ha:TSok K pr t a)(hb:TSok K pr u b):TSok K pr (tIfS tt t u) (aIfS at' a b):=by
 intro F σ ρ H D e hp r h k;refine hc F σ ρ H _ _ r h λc ρ1 H1 h1 r1 k1=>?_;cases c with
 | true=>exact ha F σ ρ1 H1 D e hp r1 h1 k
 | false=>exact hb F σ ρ1 H1 D e hp r1 h1 k
def stS (i:Nat):R->En->(En->Prop)->Prop
 | .d d,ρ,k=>k (pt ρ i (.vl d))
 | .n s,ρ,k=>k (pt ρ i s)
 | .o j,ρ,k=>(match gt ρ j with
  | .ow ds=>k (pt (pt ρ j (.vl (.lst ds))) i (.vl (.lst ds)))
  | .vl d=>k (pt ρ i (.vl d))
  | .ex C fs=>k (pt ρ i (.ex C fs))
  | .ob C fs=>k (pt ρ i (.ob C fs))
  | _=>False)
 | .t _,_,_=>False
 | .x s,ρ,k=>k (pt ρ i s)
def aSet (i:Nat)(x:AE):AS:=λe ρ=>x ρ λr ρ1=>stS i r ρ1 e.nx
theorem vj {i:Nat}(hi:pr i=false)(h:TEok K te ae):TSok K pr (λD σ H=>te σ H λv H'=>D.nx (σ.set i (some v)) H') (aSet i ae):=by
 intro F σ ρ H D e hp r ha k;refine h F σ ρ H _ _ r ha λr1 ρ1 v H1 h1 o=>?_;have np:=uH hp hi;cases r1 with
 | d d=>exact k.nx _ _ _ h1 (o.1.set o.2.2 np)
 | t n=>exact h1.elim
 | x s=>exact k.nx _ _ _ h1 (o.1.setS o.2.2.1 o.2.2.2 np)
 | n s =>
  obtain⟨Hb,l,u,a1,a2,a3,a4,a5,rfl,rfl⟩:=o;exact k.nx _ _ _ h1 (a1.setF a3 a4 a5 np)
 | o j =>
  obtain⟨r1,k1,ej⟩:=o;have h2:(match gt ρ1 j with
   | .ow ds=>e.nx (pt (pt ρ1 j (.vl (.lst ds))) i (.vl (.lst ds)))
   | .vl d=>e.nx (pt ρ1 i (.vl d))
   | .ex C fs=>e.nx (pt ρ1 i (.ex C fs))
   | .ob C fs=>e.nx (pt ρ1 i (.ob C fs))
   | _=>False):=h1
  clear h1;split at h2
  ·rename_i ds hg;obtain⟨l,el,r2,k2,rd⟩:=r1.frz hg;rw[ej]at el;injection el with el;injection el with el;subst el;exact k.nx _ _ _ h2 (r2.set rd np)
  ·rename_i d hg;have q:=r1.sl j;rw[hg]at q;obtain⟨x,e1,e2⟩:=q;rw[ej]at e1;injection e1 with e1;injection e1 with e1;subst e1;exact k.nx _ _ _ h2 (r1.set e2 np)
  ·rename_i C fs hg;have q:=r1.sl j;rw[hg,ej]at q;exact k.nx _ _ _ h2 (r1.setS rfl q np)
  ·rename_i C fs hg;have q:=r1.sl j;rw[hg,ej]at q;exact k.nx _ _ _ h2 (r1.setS rfl q np)
  ·exact h2.elim
theorem bb {i:Nat}(h:TEok K te ae)(hi:pr i=false):TSok K pr (tAsg te (tq i)) (aSet i ae):=vj hi h
theorem kY {i n:Nat}{js:List Nat}{wi:TI}{g:TG}{tc:TT}(h:TEok K (l8 n js wi g tc te) ae)(hi:pr i=false):TSok K pr (λD σ H=>l8 n js wi g tc te σ H λv H'=>D.nx (σ.set i (some v)) H') (aSet i ae):=vj hi h
def aAsg (x:AE)(g:AG):AS:=λe ρ=>x ρ λr ρ1=>sto [r.frz] ρ1 λds ρ2=>match ds with
 | [d]=>g d ρ2 e.nx
 | _=>False
theorem cT {g:TG}{ag:AG}(h:TEok K te ae)(hg:TGok K pr g ag):TSok K pr (tAsg te g) (aAsg ae ag):=by
 intro F σ ρ H D e hp r ha k;refine h F σ ρ H _ _ r ha λr1 ρ1 v H1 h1 o=>?_;obtain⟨r',k1,i1⟩:=o.inF;obtain⟨ds,ρ2,h2,r2,k2,rd⟩:=gJ r' (.cons i1 .nil) h1;split at h2
 ·rename_i d;unfold RepDs at rd;exact hg F σ ρ2 H1 v d _ _ hp r2 rd.1 h2 λσ3 ρ3 h3 r3 _ _ _=>k.nx _ _ _ h3 r3
 ·exact h2.elim
abbrev AI:=En->(List D->(En->Prop)->En->Prop)->Prop
def WkAt (K:ac)(S:Addr->Prop)(H:Hp)(J:It)(ds:List D):Prop:=∀k:Nat,(∀d,ds[k]? = some d->J.go k H/\∀x H',J.yld k H x H'->Same H H'/\RepD K (hid H' S) x d)/\(ds.length<=k->J.stop k H)
def TIok (K:ac)(pin:Nat->Bool)(wi:TI)(ai:AI):Prop:=∀F σ ρ H q Rk,Rel K F σ ρ H->ai ρ q->(∀ds c ρ' J H',q ds c ρ'->Rel K F σ ρ' H'->Kp σ ρ ρ' H H' ->
 (∀ σ2 ρ2 H2,Same (hid H' (hs F σ ρ')) (hid H2 (hs F σ2 ρ2))->(∀i,SvOk K (hid H2 (hs F σ2 ρ2)) H2 σ2[i]? (gt ρ2 i))->(∀j a,pin j=true->σ[j]? = some (some (.ref a))->σ2[j]? = some (some (.ref a)))->(∀a,hs F σ2 ρ2 a->Nt H2 a)->c ρ2->WkAt K (hs F σ2 ρ2) H2 J ds)->Rk J H')->wi σ H Rk
def rngD (lo:Int)(n:Nat):List D:=(wr n).map λ(i:Nat)=>D.int (lo+(i:Nat))
theorem cp (lo:Int)(n:Nat):(rngD lo n).length=n:=by simp[rngD]
theorem xF {S:Addr->Prop}{H:Hp}{lo:Int}{n:Nat}:WkAt K S H (Itr lo n) (rngD lo n):=by
 intro k;constructor
 ·intro d h;unfold rngD at h;rw[lw]at h;obtain⟨j,e1,e2⟩:=wT.mp h;have lt:k<n:=by
   rcases sK k n with q | q
   ·exact q
   ·rw[Ab (by simpa using q)]at e1;cases e1
  rw[Af lt]at e1;cases e1
  refine⟨lt,λx H' z=>⟨z.1▸Same.refl H,?_⟩⟩;rw[z.2,<- e2];unfold RepD;rfl
 ·intro h;rw[cp]at h;exact h
def zz (as:AA):AI:=λρ q=>as ρ λrs ρ1=>match rs with
 | [.d (.int j)]=>(-(2^62)<=j/\j<2^62)/\q (rngD 0 j.toNat) (λ_=>True) ρ1
 | _=>False
theorem cx {pin:Nat->Bool}{ta:TA}{as:AA}(h:TAok K ta as):TIok K pin (yH ta) (zz as):=by
 intro F σ ρ H q Rk r ha k;refine h F σ ρ H _ _ r ha λrs ρ1 vs H1 h1 r1 i1 k1=>?_;split at h1
 ·obtain⟨x,rfl,i⟩:=i1.one;exact⟨_,by rw[i.int],h1.1.1,h1.1.2,k _ _ _ _ _ h1.2 r1 k1 λ_ _ _ _ _ _ _ _=>xF⟩
 ·exact h1.elim
def iSeq (K:ac)(tl:TE):TI:=λσ H R=>tl σ H λx H1=>∃a,x = .ref a/\(((∃xs,SqL K H1 a xs)/\R (Itl K a) H1)∨((∃xs,SqT K H1 a xs)/\R (Itt K a) H1))
theorem x_ {X:Cx}{tg l:Expr}{tl:TE}(hl:PE X l tl):PI X tg l (iSeq X.K tl):=by
 intro pins s σ H R I h;refine thn (hl pins s σ H _ I h) λv s1 ⟨x,H1,I1,r1,q1⟩=>?_;obtain⟨a,e,⟨⟨xs,hq⟩,q⟩ | ⟨⟨xs,hq⟩,q⟩⟩:=q1
 ·subst e;cases r1
  obtain⟨its,rv,p,hz⟩:=I1.list hq;refine Ec p.isList ?_;refine⟨s1.heap.objs.size,[s1.heap.objs.size],_,_,H1,rfl,I1.kept (t':=s1.toks) λb o e=>dL _ e,rA a _,⟨_,wP _ rfl,rfl,rfl⟩,λb hb=>?_,q⟩;have e:b=s1.heap.objs.size:=by simpa using hb
  subst e;exact I1.fpOk (lm _) (I1.hok.fresh (lm _))
 ·subst e;cases r1
  obtain⟨its,rv,p,hz⟩:=I1.tuple hq;refine CW (show s1.heap.IsTuple a its.toArray from p) ?_;refine⟨s1.heap.objs.size,[s1.heap.objs.size],_,_,H1,rfl,I1.kept (t':=s1.toks) λb o e=>dL _ e,ql a _,⟨_,wP _ rfl,rfl,rfl⟩,λb hb=>?_,q⟩;have e:b=s1.heap.objs.size:=by simpa using hb
  subst e;exact I1.fpOk (lm _) (I1.hok.fresh (lm _))
theorem d_ (K:ac){X:Cx}{tg l:Expr}{tl:TE}(hl:PE X l tl)(hK:X.K=K:=by rfl):PI X tg l (iSeq K tl):=by subst hK;exact x_ hl
theorem va {S:Addr->Prop}{H:Hp}{a:Addr}{vs:List V}{ds:List D}(h:SqL K H a vs)(rd:RepDs K (hid H S) vs ds):WkAt K S H (Itl K a) ds:=by
 intro k;constructor
 ·intro d e;obtain⟨v,e1,rv⟩:=rd.get e;refine⟨⟨vs,v,h,e1⟩,λx H' z=>⟨z.1▸Same.refl H,?_⟩⟩;have:=z.2 vs h;rw[e1]at this;cases this;rw[z.1];exact rv
 ·intro z;exact⟨vs,h,by rw[rd.length];exact z⟩
theorem xE {S:Addr->Prop}{H:Hp}{a:Addr}{vs:List V}{ds:List D}(h:SqT K H a vs)(rd:RepDs K (hid H S) vs ds):WkAt K S H (Itt K a) ds:=by
 intro k;constructor
 ·intro d e;obtain⟨v,e1,rv⟩:=rd.get e;refine⟨⟨vs,v,h,e1⟩,λx H' z=>⟨z.1▸Same.refl H,?_⟩⟩;have:=z.2 vs h;rw[e1]at this;cases this;rw[z.1];exact rv
 ·intro z;exact⟨vs,h,by rw[rd.length];exact z⟩
def zx (pin:Nat->Bool)(x:AE):AI:=λρ q=>x ρ λr ρ1=>match r.frz with
 | .d (.lst ds)=>q ds (λ_=>True) ρ1
 | .d (.tup ds)=>q ds (λ_=>True) ρ1
 | .o i=>(match gt ρ1 i with
  | .ow ds=>pin i=true/\q ds (λρ2=>gt ρ2 i = .ow ds) ρ1
  | _=>False)
 | _=>False
theorem cY {pin:Nat->Bool}(h:TEok K te ae):TIok K pin (iSeq K te) (zx pin ae):=by
 intro F σ ρ H q Rk r ha k;refine h F σ ρ H _ _ r ha λr1 ρ1 x H1 h1 o1=>?_;obtain⟨r',k1,i1⟩:=o1.inF;split at h1
 ·rename_i ds e;rw[e]at i1;have rd:RepD K _ x (.lst ds):=i1;unfold RepD at rd;obtain⟨a,vs,rfl,sq,rd⟩:=rd;refine⟨a,rfl,.inl ⟨⟨vs,bW.seq (StL.sq sq)⟩,k _ _ _ _ _ h1 r' k1 λσ2 ρ2 H2 sm _ _ _ _=>?_⟩⟩;exact va (bW.seq (sm.seq (StL.sq sq))) (rd.same sm)
 ·rename_i ds e;rw[e]at i1;have rd:RepD K _ x (.tup ds):=i1;unfold RepD at rd;obtain⟨a,vs,rfl,sq,rd⟩:=rd;refine⟨a,rfl,.inr ⟨⟨vs,bW.seqT sq.sq⟩,k _ _ _ _ _ h1 r' k1 λσ2 ρ2 H2 sm _ _ _ _=>?_⟩⟩;exact xE (bW.seqT (sm.seqT sq.sq)) (rd.same sm)
 ·rename_i i e;rw[e]at i1;have ei:σ[i]? = some (some x):=i1;split at h1
  ·rename_i ds hg;have s:=r'.sl i;rw[hg,ei]at s;obtain⟨a,vs,e1,hl,rd⟩:=s;injection e1 with e1;injection e1 with e1;subst e1;refine⟨a,rfl,.inl ⟨⟨vs,SqL.of hl⟩,k _ _ _ _ _ h1.2 r' k1 λσ2 ρ2 H2 sm sv pn _ hc=>?_⟩⟩;have s2:=sv i;rw[hc,pn i a h1.1 ei]at s2;obtain⟨a',vs',e2,hl',rd'⟩:=s2;injection e2 with e2;injection e2 with e2;injection e2 with e2;subst e2;exact va (SqL.of hl') rd'
  ·exact h1.elim
 ·exact h1.elim
def forA (c:En->Prop)(g:AG)(b:AS)(e:nA):List D->En->Prop
 | [],ρ=>c ρ/\e.nx ρ
 | d::ds,ρ=>c ρ/\g d ρ λρ1=>b {nx:=forA c g b e ds,ct:=forA c g b e ds,bk:=e.nx,rt:=e.rt} ρ1
def aFor (i:AI)(g:AG)(b:AS):AS:=λe ρ=>i ρ λds c ρ1=>forA c g b e ds ρ1
theorem cS {pin:Nat->Bool}{wi:TI}{ai:AI}{g:TG}{ag:AG}(hi:TIok K pin wi ai)(hg:TGok K (λj=>pr j||pin j) g ag)(hb:TSok K (λj=>pr j||pin j) t a):TSok K pr (tFor wi g t) (aFor ai ag a):=by
 intro F σ ρ H D e hp r ha k;refine hi F σ ρ H _ _ r ha λds c ρ1 J H1 h1 r1 k1 wk=>?_;have hp':∀i a,(rebase F σ ρ1 H1 pin).pin i a->(pr i||pin i)=true:=λi a h=>by
  rcases h with h | h | h
  ·rw[hp i a (.inl h)];rfl
  ·rw[hp i a (.inr h)];rfl
  ·rw[h.1];cases pr i <;> rfl
 have ek:u_ K (rebase F σ ρ1 H1 pin) D e:=⟨λ_ _ _ h' r'=>k.nx _ _ _ h' (r1.unbase r').1,λ_ _ _ h' r'=>k.bk _ _ _ h' (r1.unbase r').1,λ_ _ _ h' r'=>k.ct _ _ _ h' (r1.unbase r').1,λ_ _ _ _ _ h' r'=>k.rt _ _ _ _ _ h' (RelR.unbase r1 r')⟩
 refine⟨λi m σ' H'=>∃ ρ',m=ds.length - i/\i<=ds.length/\Rel K (rebase F σ ρ1 H1 pin) σ' ρ' H'/\forA c ag a e (ds.drop i) ρ',⟨ds.length,ρ1,rfl,zS _,r1.rebase pin,h1⟩,?_⟩;rintro i m σ' H' ⟨ρ',rfl,hl,r',h'⟩;have w:c ρ'->WkAt K (hs F σ' ρ') H' J ds:=λhc=>wk σ' ρ' H' (r1.unbase r').2 r'.sl (λj x hj ej=>r'.mi j x (.inr (.inr ⟨hj,ej⟩))) (λa z=>uQ r' z) hc;rcases sK i ds.length with q | q
 ·right;rw[Av q]at h';unfold forA at h';obtain⟨hc,h'⟩:=h';obtain⟨go,yld⟩:=(w hc i).1 ds[i] (bv q);refine⟨go,λσ2 H2=>∃ ρ2,Rel K (rebase F σ ρ1 H1 pin) σ2 ρ2 H2/\forA c ag a e (ds.drop (i+1)) ρ2,λσ2 H2 ⟨ρ2,r2,h2⟩=>⟨ds.length - (i+1),by omega,ρ2,rfl,q,r2,h2⟩,λx H2 hy=>?_⟩;obtain⟨sm,rd⟩:=yld x H2 hy;refine hg _ σ' ρ' _ x _ _ _ hp' (r'.grow sm) rd h' λσ3 ρ3 h3 r3 _ _ _=>?_;exact hb _ σ3 ρ3 _ _ _ hp' r3 h3 ⟨λσ' ρ' H' h' r'=>⟨ρ',r',h'⟩,ek.nx,λσ' ρ' H' h' r'=>⟨ρ',r',h'⟩,ek.rt⟩
 ·left;rw[A0 q]at h';unfold forA at h';obtain⟨hc,h'⟩:=h';exact⟨(w hc i).2 q,ek.nx _ _ _ h' r'⟩
end
def blkE (n:Nat)(js:List Nat)(ρ:En):En:=pp n .un++js.map (gt ρ)
def blkR (n:Nat)(js:List Nat):List R:=pp n (R.t "")++js.map R.o
theorem cF (n:Nat)(js:List Nat)(ρ:En):(blkR n js).map (dg ρ)=blkE n js ρ:=by
 unfold blkR blkE;rw[zW,List.map_replicate,AL];rfl
theorem lU (js:List Nat):∀n,dis (blkR n js)=dis (js.map R.o)
 | 0=>rfl
 | n+1=>by
  show dis (R.t "" :: blkR n js)=_;exact lU js n
theorem m8 (js:List Nat)(ρ:En)(n:Nat):∀ss:En,ss.length=n+js.length->back ρ (blkR n js) ss=back ρ (js.map R.o) (ss.drop n):=by
 induction n with
 | zero=>intro ss _;rfl
 | succ n ih =>
  intro ss h;cases ss with
  | nil=>simp at h;omega
  | cons s ss=>exact ih ss (by simp at h;omega)
theorem qh {n:Nat}{js:List Nat}{ρ:En}{i:Nat}(h:(gt (blkE n js ρ) i).own=true):n<=i:=by
 rcases sK i n with q | q
 ·exfalso;have:∀(n i:Nat) (x:En),i<n->gt (pp n Sv.un++x) i = .un:=by
   intro n;induction n with
   | zero=>intro i x h;omega
   | succ n ih =>
    intro i x h;cases i with
    | zero=>rfl
    | succ i=>exact ih i x (by omega)
  unfold blkE at h;rw[this n i _ q]at h;cases h
 ·exact q
section
variable {K:ac}{F:Fr}{σ σ':St}{ρ ρ':En}{H H':Hp}
theorem qg (n:Nat)(js:List Nat):Srcs K F σ ρ H (bst n σ js) (blkR n js):=by
 unfold bst blkR;induction n with
 | zero =>
  induction js with
  | nil=>exact .nil
  | cons j js ih=>exact .cons rfl ih
 | succ n ih=>exact .cons trivial ih
theorem lE:∀(n i:Nat) (ρ:En),gt (ρ.drop n) i=gt ρ (n+i)
 | 0,i,ρ=>by simp
 | n+1,i,[]=>by simp[gt]
 | n+1,i,s::ρ=>by rw[List.drop_succ_cons,lE n i ρ,Nat.add_right_comm];rfl
theorem pZ:∀(n i:Nat) (x:En),gt (pp n Sv.un++x) i=if i<n then .un else gt x (i - n)
 | 0,i,x=>by simp
 | n+1,0,x=>by simp[List.replicate_succ,gt]
 | n+1,i+1,x=>by
  show gt (pp n Sv.un++x) i=_;rw[pZ n i x];by_cases h:i<n
  ·rw[if_pos h,if_pos (by omega)]
  ·rw[if_neg h,if_neg (by omega)];congr 1;omega
theorem Rel.forget {n:Nat}(r:Rel K F σ ρ H)(hn:n<=σ.length)(hp:∀i a,F.pin i a->n<=i):Rel K F (pp n none++σ.drop n) (pp n .un++ρ.drop n) H/\Same (hid H (hs F σ ρ)) (hid H (hs F (pp n none++σ.drop n) (pp n .un++ρ.drop n))):=by
 have g:∀i,gt (pp n .un++ρ.drop n) i=if i<n then .un else gt ρ i:=λi=>by
  rw[pZ];split
  ·rfl
  ·rw[lE];congr 1;omega
 have s:∀i,n<=i->(pp n none++σ.drop n)[i]? = σ[i]?:=λi h=>by
  rw[AJ (by simpa using h),BH,A7];congr 1;omega
 have own':∀i,(gt (pp n .un++ρ.drop n) i).own=true->n<=i/\(gt ρ i).own=true:=λi h=>by
  rw[g]at h;split at h
  ·cases h
  ·exact⟨by omega,h⟩
 have sub:∀a,bR (pp n none++σ.drop n) (pp n .un++ρ.drop n) a->bR σ ρ a:=λa ⟨i,hi,e⟩=>by
  obtain⟨h1,h2⟩:=own' i hi;rw[s i h1]at e;exact⟨i,h2,e⟩
 have vis:Same (hid H (hs F σ ρ)) (hid H (hs F (pp n none++σ.drop n) (pp n .un++ρ.drop n))):=bP λa o e n=>⟨e,λz=>n (z.imp id (sub a))⟩
 refine⟨⟨by have:=r.len;simp;omega,r.fr,r.zl,λa h=>r.zo a (sub a h),λi a hi e=>?_,λi a h=>?_,r.ml,r.ma,λi j a hi hj ei ej=>?_,λi=>?_⟩,vis⟩
 ·obtain⟨h1,h2⟩:=own' i hi;rw[s i h1]at e;exact r.ow i a h2 e
 ·rw[s i (hp i a h)];exact r.mi i a h
 ·obtain⟨h1,h2⟩:=own' i hi;obtain⟨h3,h4⟩:=own' j hj;rw[s i h1]at ei;rw[s j h3]at ej;exact r.nd i j a h2 h4 ei ej
 ·rw[g];split
  ·trivial
  ·rw[s i (by omega)];exact(r.sl i).keep vis λ_ _ _ _ e=>e
end
def eP (n:Nat)(js:List Nat)(c:En->Prop)(g:AG)(tc:AT)(te:AE)(q:List D->En->Prop):List D->List D->En->Prop
 | [],acc,ρ=>c ρ/\q acc ρ
 | d::ds,acc,ρ=>c ρ/\g d (blkE n js ρ) λρ1=>tc ρ1 λb ρ2=>if b=true then te ρ2 λr ρ3=>sto [r.frz] ρ3 λes ρ4=>eP n js c g tc te q ds (acc++es) (back ρ (js.map R.o) (ρ4.drop n))else eP n js c g tc te q ds acc (back ρ (js.map R.o) (ρ2.drop n))
def zG (n:Nat)(js:List Nat)(i:AI)(g:AG)(tc:AT)(te:AE):AE:=λρ q=>i ρ λds c ρ1=>ds.length<=1000000/\eP n js c g tc te (λacc ρ2=>q (.f acc) ρ2) ds [] ρ1
def aAll:AT:=λρ q=>q true ρ
section
variable {K:ac}
theorem dv:TTok K tAll aAll:=λF σ ρ H q Q r h k=>k _ _ _ h r .refl
theorem rP {F:Fr}{σ:St}{ρ:En}{H:Hp}{v:V}{r:R}{q:List D->En->Prop}(a:Rel K F σ ρ H)(i:InF K F σ ρ H v r)(h:sto [r] ρ q):∃d ρ',q [d] ρ'/\Rel K F σ ρ' H/\Kp σ ρ ρ' H H/\RepD K (hid H (hs F σ ρ')) v d:=by
 obtain⟨ds,ρ',h1,h2,h3,h4⟩:=gJ a (.cons i .nil) h;cases ds with
 | nil=>unfold RepDs at h4;exact h4.elim
 | cons d ds =>
  unfold RepDs at h4;cases ds with
  | nil=>exact⟨d,ρ',h1,h2,h3,h4.1⟩
  | cons _ _=>obtain⟨_,z⟩:=h4;unfold RepDs at z;exact z.elim
theorem cA {n:Nat}{js:List Nat}{wi:TI}{g:TG}{tc:TT}{te:TE}{ai:AI}{ag:AG}{atc:AT}{ate:AE}(hi:TIok K (λ_=>true) wi ai)(hg:TGok K (λj=>decide (n<=j)) g ag)(hc:TTok K tc atc)(he:TEok K te ate)
  (hd:dis (js.map R.o)=true:=by rfl):TEok K (l8 n js wi g tc te) (zG n js ai ag atc ate):=by
 intro F σ ρ H q Q r h k;refine hi F σ ρ H _ _ r h λds c ρ1 J H1 h1 r1 k1 wk=>?_;obtain⟨hz,h1⟩:=h1;have hd':dis (blkR n js)=true:=by rw[lU];exact hd
 refine⟨λi m ys H'=>∃ ρ' acc,m=ds.length - i/\i<=ds.length/\Rel K F σ ρ' H'/\Kp σ ρ1 ρ' H1 H'/\RepDs K (hid H' (hs F σ ρ')) ys acc/\acc.length<=i/\eP n js c ag atc ate (λacc ρ2=>q (.f acc) ρ2) (ds.drop i) acc ρ',⟨ds.length,ρ1,[],rfl,zS _,r1,.refl,.nil,zS _,h1⟩,?_⟩;rintro i m ys H' ⟨ρ',acc,rfl,hl,r',k',rd,al,h'⟩;have w:c ρ'->WkAt K (hs F σ ρ') H' J ds:=λhc=>wk σ ρ' H' k'.vis r'.sl (λ_ _ _ e=>e) (λa z=>uQ r' z) hc;have yl:ys.length=acc.length:=rd.length;rcases sK i ds.length with lt | ge
 ·right;rw[Av lt]at h';unfold eP at h';obtain⟨hcc,h'⟩:=h';obtain⟨go,yld⟩:=(w hcc i).1 ds[i] (bv lt);refine⟨go,i6 (by omega),λzs H2=>∃ ρ2 acc2,Rel K F σ ρ2 H2/\Kp σ ρ1 ρ2 H1 H2/\RepDs K (hid H2 (hs F σ ρ2)) zs acc2/\acc2.length<=i+1/\eP n js c ag atc ate (λacc ρ2=>q (.f acc) ρ2) (ds.drop (i+1)) acc2 ρ2,
   λzs H2 ⟨ρ2,acc2,a1,a2,a3,a4,a5⟩=>⟨ds.length - (i+1),by omega,ρ2,acc2,rfl,lt,a1,a2,a3,a4,a5⟩,λx H2 hy=>?_⟩
  obtain⟨sm,rx⟩:=yld x H2 hy;have r0':=r';have k':Kp σ ρ1 ρ' H1 H2:=k'.trans ⟨λa o e _=>sm a o e,λ_ h=>h⟩;have rd:RepDs K (hid H2 (hs F σ ρ')) ys acc:=rd.same (bP λa o e n=>⟨sm a o e,n⟩);have r':=r0'.grow sm;have src:=qg (K:=K) (F:=F) (σ:=σ) (ρ:=ρ') (H:=H2) n js;have rb:=r'.sub src hd';have hs2:=rO r' src;rw[cF]at rb hs2;have pin:∀i a,(fZ F σ ρ' H2 (bst n σ js) (blkE n js ρ')).pin i a->decide (n<=i)=true:=λi a h=>by
   rcases h with h | h
   ·exact decide_eq_true (qh h.1)
   ·exact h.elim
  have hlen:(bst n σ js).length=n+js.length:=jP;have ret:∀ σ2 ρ2 H3,Rel K (fZ F σ ρ' H2 (bst n σ js) (blkE n js ρ')) σ2 ρ2 H3->σ2.length=(bst n σ js).length->σ2.drop n=capt σ js->(∀i,(gt ρ2 i).own=true->(gt (blkE n js ρ') i).own=true) ->
    Rel K F σ (back ρ' (js.map R.o) (ρ2.drop n)) H3/\Kp σ ρ' (back ρ' (js.map R.o) (ρ2.drop n)) H2 H3/\Same (hid H3 (hs (fZ F σ ρ' H2 (bst n σ js) (blkE n js ρ')) σ2 ρ2)) (hid H3 (hs F σ (back ρ' (js.map R.o) (ρ2.drop n)))):=λσ2 ρ2 H3 rr hlen2 hdrop hown=>by
   obtain⟨f1,f2⟩:=rr.forget (n:=n) (by omega) λi a h=>of_decide_eq_true (pin i a h)
   rw[hdrop]at f1 f2;have f1':Rel K (fZ F σ ρ' H2 (bst n σ js) ((blkR n js).map (dg ρ'))) (bst n σ js) (pp n .un++ρ2.drop n) H3:=by rw[cF];exact f1
   have bk:=r'.back src hd' f1' λi hi=>by
    rw[cF];rw[pZ]at hi;split at hi
    ·cases hi
    ·rename_i hni;rw[lE,show n+(i - n)=i by omega]at hi;exact hown i hi
   have ln:(pp n Sv.un++ρ2.drop n).length=n+js.length:=by
    have:=rr.len;simp;omega
   rw[m8 js ρ' n _ ln,C_ (by simp),cF]at bk;exact⟨bk.1,bk.2.1,f2.trans bk.2.2⟩
  refine hg _ (bst n σ js) (blkE n js ρ') H2 x _ _ _ pin rb (by rw[hs2];exact rx) h' λσ2 ρ2 h2 r2 l2 p2 o2=>?_;have hdrop:σ2.drop n=capt σ js:=by
   have:σ2.drop n=(bst n σ js).drop n:=by
    apply B_;intro i;rw[A7,A7];exact p2 (n+i) (decide_eq_true (by omega))
   rw[this];unfold bst;rw[C_ (by simp)]
  refine⟨hdrop,hc _ σ2 ρ2 H2 _ _ r2 h2 λb ρ3 H3 h3 r3 k3=>?_⟩;cases b with
  | false =>
   obtain⟨b1,b2,_⟩:=ret σ2 ρ3 H3 r3 l2 hdrop λi hi=>(o2 i (k3.sb i hi)).1
   exact⟨_,acc,b1,k'.trans b2,rd.same b2.vis,by omega,h3⟩
  | true =>
   refine he _ σ2 ρ3 H3 _ _ r3 h3 λr4 ρ4 v H4 h4 o4=>?_;obtain⟨r4',k4,i4⟩:=o4.inF;obtain⟨d,ρ5,h5,r5,k5,rv⟩:=rP r4' i4 h4;obtain⟨b1,b2,b3⟩:=ret σ2 ρ5 H4 r5 l2 hdrop λi hi=>(o2 i (k3.sb i (k4.sb i (k5.sb i hi)))).1
   exact⟨_,acc++[d],b1,k'.trans b2,(rd.same b2.vis).append (.one (rv.same b3)),by simp;omega,h5⟩
 ·left;rw[A0 ge]at h';unfold eP at h';obtain⟨hcc,h'⟩:=h';refine⟨(w hcc i).2 ge,small (by omega),λl hl'=>?_⟩;exact((k.after k1).after k').new r' h' rd hl'
end
def outS:En->En->En
 | [],_=>[]
 | s::ss,ρ=>(if s.own=true then gt ρ 0 else s)::outS ss ρ.tail
theorem xc (ρ:En)(i:Nat):gt ρ.tail i=gt ρ (i+1):=by cases ρ <;> rfl
theorem pL:∀(ss ρ:En),(outS ss ρ).length=ss.length
 | [],_=>rfl
 | s::ss,ρ=>by simp[outS,pL ss]
theorem oJ:∀(ss ρ:En) (i:Nat),gt (outS ss ρ) i=if(gt ss i).own=true then gt ρ i else gt ss i
 | [],ρ,i=>by simp[outS,gt,Sv.own]
 | s::ss,ρ,0=>rfl
 | s::ss,ρ,i+1=>by
  show gt (outS ss ρ.tail) i=_;rw[oJ ss ρ.tail i,xc];rfl
def fin (pr:Nat->Bool):R->En->Ko->Prop
 | .d d,ρ,k=>k (.d d) ρ
 | .n s,ρ,k=>k (.n s) ρ
 | .o i,ρ,k=>(match gt ρ i with
  | .ow ds=>if pr i=true then k (.d (.lst ds)) (pt ρ i (.vl (.lst ds)))else k (.n (.ow ds)) (pt ρ i .un)
  | .vl d=>k (.d d) ρ
  | .dk kvs=>if pr i=true then False else k (.n (.dk kvs)) (pt ρ i .un)
  | .dt kvs=>if pr i=true then False else k (.n (.dt kvs)) (pt ρ i .un)
  | _=>False)
 | .t _,_,_=>False
 | .x s,ρ,k=>k (.x s) ρ
def yi (pr:Nat->Bool)(ss:En):Prop:=∀i,(gt ss i).own=true->pr i=true
section
variable {K:ac}{F:Fr}{σ σ':St}{ρ ρ':En}{H H':Hp}
open Classical in
noncomputable def del (H:Hp)(l:Addr):Hp:=λa=>if a=l then none else H a
open Classical in
theorem iV {l:Addr}:del H l l=none:=by unfold del;rw[if_pos rfl]
open Classical in
theorem kC {a l:Addr}(h:a≠l):del H l a=H a:=by unfold del;rw[if_neg h]
theorem fJ {l:Addr}{o:HO}(h:H l=some o):upd (del H l) l o=H:=by
 funext a;by_cases e:a=l
 ·subst e;rw[bh,h]
 ·rw[aW e,kC e]
theorem Rel.take (r:Rel K F σ ρ H){i:Nat}(hi:(gt ρ i).own=true)(hm:∀a,¬F.pin i a):∃l o,H l=some o/\σ[i]? = some (some (.ref l))/\Rel K F σ (pt ρ i .un) (del H l)/\SvOk K (hid (del H l) (hs F σ (pt ρ i .un))) H (some (some (.ref l))) (gt ρ i):=by
 have s:=r.sl i;obtain⟨l,o,el,hl⟩:=s.alive hi;have own':∀j,(gt (pt ρ i .un) j).own=true->i≠j/\(gt ρ j).own=true:=λj h=>fB rfl h;have sub:∀a,bR σ (pt ρ i .un) a->bR σ ρ a/\a≠l:=λa ⟨j,hj,e⟩=>by
  obtain⟨ij,hj⟩:=own' j hj;exact⟨⟨j,hj,e⟩,λz=>ij (r.nd i j l hi hj el (z▸e))⟩
 have ol:bR σ ρ l:=⟨i,hi,el⟩
 have vis:Same (hid H (hs F σ ρ)) (hid (del H l) (hs F σ (pt ρ i .un))):=bP λa u e n=>by
  have al:a≠l:=λz=>n (.inr (z▸ol));exact⟨by rw[kC al];exact e,λz=>n (z.imp id λz=>(sub a z).1)⟩
 have h0:F.H0 l=none:=by
  rcases r.ow i l hi el with h | h
  ·exact absurd (Or.inl h.1) (hm l)
  ·exact h
 refine⟨l,o,hl,el,⟨by rw[fw,r.len],λa u e n=>?_,λa z=>?_,λa h=>r.zo a (sub a h).1,λj a hj e=>r.ow j a (own' j hj).2 e,r.mi,r.ml,λa z=>?_,λj k a hj hk ej ek=>r.nd j k a (own' j hj).2 (own' k hk).2 ej ek,λj=>?_⟩,?_⟩
 ·have al:a≠l:=λz=>by rw[z,h0]at e;cases e
  rw[kC al];exact r.fr a u e n
 ·have al:a≠l:=λq=>r.zo l ol (q▸z);unfold Nt;rw[kC al];exact r.zl a z
 ·have al:a≠l:=λq=>r.ml a z (q▸h0);rw[kC al];exact r.ma a z
 ·by_cases ij:i=j
  ·subst ij;rw[j8 ρ i _ (jn hi)];trivial
  ·rw[bM ρ i j _ ij];refine(r.sl j).keep vis λa u ho e h=>?_;have al:a≠l:=λz=>ij (r.nd i j l hi ho el (z▸e));rw[kC al];exact h
 ·rw[el]at s;exact s.keep vis λ_ _ _ _ e=>e
theorem Rel.out {vs:List V}{ss:En}{Z:Addr->Prop}(r0:Rel K (F0 vs ss H Z) (vs.map some) ss H)(r:Rel K (F0 vs ss H Z) σ' ρ' H') :
  Rel K (F0 vs ss H Z) (vs.map some) (outS ss ρ') H'/\Same (hid H' (hs (F0 vs ss H Z) σ' ρ')) (hid H' (hs (F0 vs ss H Z) (vs.map some) (outS ss ρ')))/\∀i,(gt (outS ss ρ') i).own=true->(gt ss i).own=true:=by
 have own':∀i,(gt (outS ss ρ') i).own=true->(gt ss i).own=true/\(gt ρ' i).own=true:=λi h=>by
  rw[oJ]at h;split at h
  ·rename_i q;exact⟨q,h⟩
  ·rename_i q;exact absurd h q
 have same:∀i a,(gt ss i).own=true->(vs.map some)[i]? = some (some (.ref a))->σ'[i]? = some (some (.ref a)):=λi a h e=>r.mi i a (.inl ⟨h,e⟩);have sub:∀a,bR (vs.map some) (outS ss ρ') a->bR σ' ρ' a/\bR (vs.map some) ss a:=λa ⟨i,hi,e⟩=>by
  obtain⟨h1,h2⟩:=own' i hi;exact⟨⟨i,h2,same i a h1 e⟩,⟨i,h1,e⟩⟩
 have v1:Same (hid H' (hs (F0 vs ss H Z) σ' ρ')) (hid H' (hs (F0 vs ss H Z) (vs.map some) (outS ss ρ'))):=bP λa o e n=>⟨e,λz=>n (z.imp id λz=>(sub a z).1)⟩
 have v2:Same (hid H (hs (F0 vs ss H Z) (vs.map some) ss)) (hid H' (hs (F0 vs ss H Z) (vs.map some) (outS ss ρ'))):=bP λa o e n=>⟨r.fr a o e λz=>n (.inr z),λz=>n (z.imp id λz=>(sub a z).2)⟩
 refine⟨⟨by rw[pL,r0.len],r.fr,r.zl,λa h=>r.zo a (sub a h).1,λi a hi e=>.inl ⟨⟨(own' i hi).1,e⟩,i,(own' i hi).1,e⟩,r0.mi,r.ml,r.ma,λi j a hi hj ei ej=>r0.nd i j a (own' i hi).1 (own' j hj).1 ei ej,λi=>?_⟩,v1,λi h=>(own' i h).1⟩;rw[oJ];split
 ·rename_i q;obtain⟨l,o,e1,e2⟩:=(r0.sl i).alive q;have:=same i l q e1;rw[e1,<- this];exact(r.sl i).keep v1 λ_ _ _ _ e=>e
 ·rename_i q;exact(r0.sl i).keep v2 λl o ho=>absurd ho q
theorem mM:∀(ρ:En) (n i:Nat),gt (ρ++pp n .un) i=gt ρ i
 | [],n,i=>by
  show gt (pp n .un) i = .un;induction n generalizing i with
  | zero=>rfl
  | succ n ih=>cases i with
   | zero=>rfl
   | succ i=>exact ih i
 | s::ρ,n,0=>rfl
 | s::ρ,n,i+1=>mM ρ n i
theorem Rel.ext (r:Rel K F σ ρ H)(n:Nat):Rel K F (σ++pp n none) (ρ++pp n .un) H:=by
 have s:∀ {i a},(gt ρ i).own=true->(σ++pp n none)[i]? = some (some (V.ref a))->σ[i]? = some (some (.ref a)):=λ{i a} h e=>by
  rwa [Aj (by rw[r.len];exact jn h)]at e
 have sub:∀a,bR (σ++pp n none) (ρ++pp n .un) a->bR σ ρ a:=λa ⟨i,hi,e⟩=>by
  rw[mM]at hi;exact⟨i,hi,s hi e⟩
 have vis:Same (hid H (hs F σ ρ)) (hid H (hs F (σ++pp n none) (ρ++pp n .un))):=bP λa o e n=>⟨e,λz=>n (z.imp id (sub a))⟩
 refine⟨by simp[r.len],r.fr,r.zl,λa h=>r.zo a (sub a h),λi a hi e=>?_,λi a h=>?_,r.ml,r.ma,λi j a hi hj ei ej=>?_,λi=>?_⟩
 ·rw[mM]at hi;exact r.ow i a hi (s hi e)
 ·have:=r.mi i a h;rw[Aj (kt.mp this).1];exact this
 ·rw[mM]at hi hj;exact r.nd i j a hi hj (s hi ei) (s hj ej)
 ·rw[mM];have q:=r.sl i;rcases sK i σ.length with lt | ge
  ·rw[Aj lt];exact q.keep vis λ_ _ _ _ e=>e
  ·rw[iE ρ i (by rw[<- r.len];exact ge)];trivial
end
theorem t2 {K:ac}{ps:List Str}{S:ASp}(hS:∀ss q,S ss q->ss.length=ps.length):∀vs H Q E,spA K S vs H Q E->vs.length=ps.length:=λvs H Q E h=>by
 obtain⟨ss,Z,q,r,hs',_⟩:=h;have:=r.len;rw[im]at this;rw[this];exact hS ss q hs'
theorem u6 {P:wE}{w:z8}{K:ac}{mg:Str->Option bd}{base:Heap}{x:Str}{st:Stmt}{N ps:List Str}{a:AS}(pr:Nat->Bool)(S:ASp){f:Addr}{cdv:bd}{A:zX}{outer:List Env}{s:db}{H:Hp}{vs:List V}{Q:VK}{E:XK}
  (hbody:∃t,PSs (cxOf CX0 P w K mg base N x (aI st) f cdv A outer s H E).nox (cv st) t/\TSok K pr t a)
  (hS:∀ss q,S ss q->ss.length=ps.length/\yi pr ss/\a ⟨λρ=>q (.d .non) (outS ss ρ),λr ρ=>fin pr r ρ λr' ρ'=>q r' (outS ss ρ'),λ_=>False,λ_=>False⟩ (ss++pp (N.length - ps.length) .un))
  (h:spA K S vs H Q E):∃t,PSs (cxOf CX0 P w K mg base N x (aI st) f cdv A outer s H E).nox (cv st) t/\t {nx:=λ_ H'=>Q .non H',rt:=Q} (iI N vs) H:=by
 have hl:=t2 (λss q h=>(hS ss q h).1) _ _ _ _ h;obtain⟨ss,Z,q,r0,hs',post⟩:=h;obtain⟨h1,h2,h3⟩:=hS ss q hs';obtain⟨t,ht,tok⟩:=hbody;refine⟨t,ht,?_⟩;have hp:∀i a,(F0 vs ss H Z).pin i a->pr i=true:=λi a h=>by
  rcases h with h | h
  ·exact h2 i h.1
  ·exact h.elim
 unfold iI;rw[hl];have fin_d:∀ σ' ρ' v H' d,q (.d d) (outS ss ρ')->Rel K (F0 vs ss H Z) σ' ρ' H'->RepD K (hid H' (hs (F0 vs ss H Z) σ' ρ')) v d->Q v H':=λσ' ρ' v H' d hq r rd=>by
  obtain⟨o1,o2,o3⟩:=r0.out r;exact post (.d d) _ v H' hq o3 (λi z=>nomatch z) ⟨o1,rd.same o2⟩
 refine tok (F0 vs ss H Z) _ _ H _ _ hp (r0.ext _) h3 ⟨λσ' ρ' H' hq r=>?_,λ_ _ _ z=>z.elim,λ_ _ _ z=>z.elim,λσ' ρ' rr v H' hq r=>?_⟩
 ·exact fin_d σ' ρ' _ H' .non hq r (by unfold RepD;rfl)
 ·cases rr with
  | d d=>exact fin_d σ' ρ' v H' d hq r.1 r.2
  | t n=>exact hq.elim
  | x s =>
   obtain⟨ra,rb,rc⟩:=r;obtain⟨o1,o2,o3⟩:=r0.out ra;exact post (.x s) _ v H' hq o3 (λi z=>nomatch z) ⟨o1,rb,rc.keep o2 λl o ho=>by rw[rb]at ho;cases ho⟩
  | n sv =>
   obtain⟨Hb,l,o,a1,a2,a3,a4,a5,a6⟩:=r;obtain⟨o1,o2,o3⟩:=r0.out a1;exact post (.n sv) _ v H' hq o3 (λi z=>nomatch z) ⟨Hb,l,o,o1,a2,a3.keep o2 λ_ _ _ _ e=>e,a4,a5,a6⟩
  | o i =>
   obtain⟨r,ei⟩:=r;have hq':(match gt ρ' i with
    | .ow ds=>if pr i=true then q (.d (.lst ds)) (outS ss (pt ρ' i (.vl (.lst ds))))else q (.n (.ow ds)) (outS ss (pt ρ' i .un))
    | .vl d=>q (.d d) (outS ss ρ')
    | .dk kvs=>if pr i=true then False else q (.n (.dk kvs)) (outS ss (pt ρ' i .un))
    | .dt kvs=>if pr i=true then False else q (.n (.dt kvs)) (outS ss (pt ρ' i .un))
    | _=>False):=hq
   clear hq;split at hq'
   ·rename_i ds hg;split at hq'
    ·obtain⟨l,el,r2,k2,rd⟩:=r.frz hg;rw[ei]at el;injection el with el;injection el with el;subst el;exact fin_d σ' _ _ H' _ hq' r2 rd
    ·rename_i hpr;have ho:(gt ρ' i).own=true:=by rw[hg];rfl
     obtain⟨l,o,hl',el,r2,sv⟩:=r.take ho λa z=>hpr (hp i a z)
     rw[ei]at el;injection el with el;injection el with el;subst el;obtain⟨o1,o2,o3⟩:=r0.out r2;rw[hg]at sv;refine post (.n (.ow ds)) _ _ H' hq' o3 (λi z=>nomatch z) ⟨del H' l,l,o,o1,rfl,?_,iV,(fJ hl').symm,rfl⟩;rw[fJ hl'];exact sv.keep o2 λ_ _ _ _ e=>e
   ·rename_i d hg;have s:=r.sl i;rw[hg,ei]at s;obtain⟨x,e1,rd⟩:=s;injection e1 with e1;injection e1 with e1;subst e1;exact fin_d σ' ρ' _ H' d hq' r rd
   ·rename_i kvs hg;split at hq'
    ·exact hq'.elim
    ·rename_i hpr;have ho:(gt ρ' i).own=true:=by rw[hg];rfl
     obtain⟨l,o,hl',el,r2,sv⟩:=r.take ho λa z=>hpr (hp i a z)
     rw[ei]at el;injection el with el;injection el with el;subst el;obtain⟨o1,o2,o3⟩:=r0.out r2;rw[hg]at sv;refine post (.n (.dk kvs)) _ _ H' hq' o3 (λi z=>nomatch z) ⟨del H' l,l,o,o1,rfl,?_,iV,(fJ hl').symm,rfl⟩;rw[fJ hl'];exact sv.keep o2 λ_ _ _ _ e=>e
   ·rename_i kvs hg;split at hq'
    ·exact hq'.elim
    ·rename_i hpr;have ho:(gt ρ' i).own=true:=by rw[hg];rfl
     obtain⟨l,o,hl',el,r2,sv⟩:=r.take ho λa z=>hpr (hp i a z)
     rw[ei]at el;injection el with el;injection el with el;subst el;obtain⟨o1,o2,o3⟩:=r0.out r2;rw[hg]at sv;refine post (.n (.dt kvs)) _ _ H' hq' o3 (λi z=>nomatch z) ⟨del H' l,l,o,o1,rfl,?_,iV,(fJ hl').symm,rfl⟩;rw[fJ hl'];exact sv.keep o2 λ_ _ _ _ e=>e
   ·exact hq'.elim
theorem DefN.aok {P:wE}{w:z8}{K:ac}{mg:Str->Option bd}{base:Heap}{x:Str}{st:Stmt}{N ps:List Str}{k:Nat}{a:AS}(D:DefN K mg x st ps)(Sc:bw N ps (aI st))(pr:Nat->Bool)(S:ASp)
  (hbody:∀(f:Addr) (cdv:bd) (A:zX) (outer:List Env) (s:db) (H:Hp) (E:XK),Room k (A.deeper (Ct x (aI st) s.heap.objs.size f cdv)) ->
   ∃t,PSs (cxOf CX0 P w K mg base N x (aI st) f cdv A outer s H E).nox (cv st) t/\TSok K pr t a)
  (hS:∀ss q,S ss q->ss.length=ps.length/\yi pr ss/\a ⟨λρ=>q (.d .non) (outS ss ρ),λr ρ=>fin pr r ρ λr' ρ'=>q r' (outS ss ρ'),λ_=>False,λ_=>False⟩ (ss++pp (N.length - ps.length) .un)):OkN P w K mg base (k+1) x ps (spA K S) :=
 D.ok Sc (t2 λss q h=>(hS ss q h).1) λf cdv A outer s H vs Q E hr h=>u6 pr S (hbody f cdv A outer s H E hr) hS h
def SLaw:ASp:=λss q=>∃ns:List Int,ns.length<=63/\ss=[.sc ns]/\∀ss',q (.d (.bl true)) ss'
theorem yu {P:wE}{w:z8}{K:ac}{mg:Str->Option bd}{base:Heap}{k:Nat}{x:Str}{ps:List Str}(h:OkN P w K mg base k x ps (spA K SLaw)):OkN P w K mg base k x ps (wg K):=by
 obtain⟨f,fd,a1,a2,a3,a4,g⟩:=h.ex;refine⟨f,fd,a1,a2,a3,a4,g.imp λvs H Q E hq=>?_⟩;obtain⟨a,ns,rfl,sq,hl,k⟩:=hq;refine⟨[.sc ns],λ_=>False,λr _=>r = .d (.bl true),⟨rfl,λa o e _=>e,λa z=>z.elim,λa _ z=>z,λi a hi _=>?_,λi a h=>?_,λa h=>?_,λa h=>?_,λi j a hi=>?_,λi=>?_⟩,⟨ns,hl,rfl,λ_=>rfl⟩,λr ss' v H' e1 _ _ rr=>?_⟩
 ·exfalso;cases i with
  | zero=>cases hi
  | succ i=>cases hi
 ·rcases h with h | h
  ·cases i with
   | zero=>cases h.1
   | succ i=>cases h.1
  ·exact h.elim
 ·obtain⟨i,hi,_⟩:=h;cases i with
  | zero=>cases hi
  | succ i=>cases hi
 ·obtain⟨i,hi,_⟩:=h;cases i with
  | zero=>cases hi
  | succ i=>cases hi
 ·exfalso;cases i with
  | zero=>cases hi
  | succ i=>cases hi
 ·cases i with
  | succ i=>trivial
  | zero =>
   refine⟨a,rfl,?_⟩;refine(show Same H (hid H _)from λb o e=>eB (λz=>?_) e).seq sq;rcases z with z | ⟨i,hi,_⟩
   ·exact z
   ·cases i with
    | zero=>cases hi
    | succ i=>cases hi
 ·subst e1;obtain⟨_,rd⟩:=rr;unfold RepD at rd;subst rd;exact k H'
def rS (K:ac):Sp:=λvs H Q _=>∃(t c:Addr) (m sp lf:Int) (ns:List Int) (n:Nat),vs=[.ref t,.int m]/\H t=some (.dK (cy c sp lf))/\SqL K H c (ns.map V.int)/\0<=sp/\sp<=n/\0<=lf/\n<1000000000000/\Dv m /\
 ∀(r:Nat) (sp' lf':Int),(r:Int)<m->0<=sp'->sp'<=(n+1:Nat)->0<=lf'->Q (.int (r:Nat)) (upd H t (.dK (cy c sp' lf')))
def rR (K:ac):Sp:=λvs H Q _=>∃(a:Addr) (ns:List Int),vs=[.ref a]/\SqL K H a (ns.map V.int) /\
 ∀t c,H t=none->H c=none->t≠c->Q (.ref t) (upd (upd H c (.lst ((ns.take 63).map V.int))) t (.dK (cy c 0 0)))
def xB:ASp:=λss q=>∃ns:List Int,ss=[.sc ns]/\q (.n (.tp 0)) [.sc ns]
def xC:ASp:=λss q=>∃(n:Nat) (m:Int),ss=[.tp n,.vl (.int m)]/\n<1000000000000/\Dv m/\∀r:Nat,(r:Int)<m->q (.d (.int r)) [.tp (n+1),.vl (.int m)]
theorem OkN.imp {P:wE}{w:z8}{K:ac}{mg:Str->Option bd}{base:Heap}{k:Nat}{x:Str}{ps:List Str}{sp sp':Sp}(h:OkN P w K mg base k x ps sp)(i:∀vs H Q E,sp' vs H Q E->sp vs H Q E):OkN P w K mg base k x ps sp':=by
 obtain⟨f,fd,a1,a2,a3,a4,g⟩:=h.ex;exact⟨f,fd,a1,a2,a3,a4,g.imp i⟩
theorem yZ {vs:List V}{s:Sv}{F:Fr}{K:ac}{H:Hp}(r:Rel K F (vs.map some) [s] H):∃x,vs=[x]:=by
 have:=r.len
 match vs,this with
 | [x],_=>exact⟨x,rfl⟩
theorem yY {vs:List V}{s s':Sv}{F:Fr}{K:ac}{H:Hp}(r:Rel K F (vs.map some) [s,s'] H):∃x y,vs=[x,y]:=by
 have:=r.len
 match vs,this with
 | [x,y],_=>exact⟨x,y,rfl⟩
theorem xo {K:ac}(vs:List V)(H:Hp)(Q:VK)(E:XK)(h:spA K xC vs H Q E):rS K vs H Q E:=by
 obtain⟨ss,Z,q,r,⟨n,m,rfl,hn,hm,hq⟩,post⟩:=h;obtain⟨x,y,rfl⟩:=yY r;obtain⟨t,c,ns,sp,lf,e0,ht,hc,h1,h2,h3⟩:=r.sl 0;obtain⟨y',e1,ry⟩:=r.sl 1;unfold RepD at ry;injection e0 with e0;injection e0 with e0;subst e0;injection e1 with e1;injection e1 with e1;subst e1 ry;refine⟨t,c,m,sp,lf,ns,n,rfl,ht,bW.seq hc,h1,h2,h3,hn,hm,λrr sp' lf' hr a1 a2 a3=>?_⟩;have hw:=r.write (i:=0) (l:=t) (o:=.dK (cy c sp' lf')) (s:=.tp (n+1)) rfl rfl rfl ⟨t,c,ns,sp',lf',rfl,bh,hc,a1,a2,a3⟩;refine post (.d (.int rr)) [.tp (n+1),.vl (.int m)] _ _ (hq rr hr) (λi h=>?_) (λi z=>nomatch z) ⟨hw.1,by unfold RepD;rfl⟩
 match i,h with
 | 0,_=>rfl
 | 1,h=>cases h
 | i+2,h=>cases h
theorem v9 {K:ac}(vs:List V)(H:Hp)(Q:VK)(E:XK)(h:spA K xB vs H Q E):rR K vs H Q E:=by
 obtain⟨ss,Z,q,r,⟨ns,rfl,hq⟩,post⟩:=h;obtain⟨x,rfl⟩:=yZ r;obtain⟨a,e0,sq⟩:=r.sl 0;injection e0 with e0;injection e0 with e0;subst e0;refine⟨a,ns,rfl,bW.seq sq,λt c ht hc htc=>?_⟩;have rc:=r.fresh (o:=.lst ((ns.take 63).map V.int)) hc;have kc:Kp ([V.ref a].map some) [.sc ns] [.sc ns] H (upd H c (.lst ((ns.take 63).map V.int))):=Kp.fresh hc;have ht':(upd H c (.lst ((ns.take 63).map V.int))) t=none:=by rw[aW htc];exact ht
 refine post (.n (.tp 0)) _ _ _ hq (λi h=>h) (λi z=>nomatch z) ⟨_,t,_,rc,rfl,⟨t,c,ns.take 63,0,0,rfl,bh,SqL.of (eB (jE r hc) bh),by decide,by decide,by decide⟩,ht',rfl,rfl⟩
section
variable {K:ac}{F:Fr}{σ:St}{ρ ρ':En}{H H':Hp}{ta tb tc:TE}{a b c:AE}{rr rr':R2}{g g':R->R->AE}
def y_ (g g':R->R->AE)(a b c:AE):AE:=λρ q=>a ρ λr1 ρ1=>b ρ1 λr2 ρ2=>g r1.frz r2.frz ρ2 λr3 ρ3=>match r3 with
 | .d (.bl k)=>if k=true then c ρ3 λr4 ρ4=>g' r2.frz r4.frz ρ4 q else q (.d (.bl false)) ρ3
 | _=>False
theorem l6 (ho:OpOk K rr g)(ho':OpOk K rr' g')(ha:TEok K ta a)(hb:TEok K tb b)(hc:TEok K tc c):TEok K (vf rr rr' ta tb tc) (y_ g g' a b c):=by
 intro F σ ρ H q Q r h k;refine ha F σ ρ H _ _ r h λr1 ρ1 x H1 h1 o1=>?_;obtain⟨r1',k1,i1⟩:=o1.inF;refine hb F σ ρ1 H1 _ _ r1' h1 λr2 ρ2 y H2 h2 o2=>?_;obtain⟨r2',k2,i2⟩:=o2.inF;refine ho F σ ρ2 H2 x y _ _ _ _ r2' (i1.keep k2) i2 h2 λr3 ρ3 z H3 h3 o3=>?_;obtain⟨r3',k3,i3⟩:=o3.inF;split at h3
 ·rename_i kk;refine⟨kk,i3.blv,?_⟩;cases kk with
  | false=>exact(((k.after k1).after k2).after k3).bl r3' h3
  | true =>
   refine hc F σ ρ3 H3 _ _ r3' h3 λr4 ρ4 w H4 h4 o4=>?_;obtain⟨r4',k4,i4⟩:=o4.inF;exact ho' F σ ρ4 H4 y w _ _ q Q r4' ((i2.keep k3).keep k4) i4 h4 ((((k.after k1).after k2).after k3).after k4)
 ·exact h3.elim
def gNeg:R->AE:=λr ρ q=>match r with
 | .d (.int i)=>q (.d (.int (-i))) ρ
 | _=>False
theorem v5 (ha:TEok K ta a):TEok K (tUn (rU λi=>.int (-i)) ta) (aUn gNeg a):=by
 intro F σ ρ H q Q r h k;refine ha F σ ρ H _ _ r h λr1 ρ1 x H1 h1 o1=>?_;obtain⟨r1',k1,i1⟩:=o1.inF;unfold gNeg at h1;split at h1
 ·rename_i i e;rw[e]at i1;exact⟨i,i1.int,(k.after k1).int r1' h1⟩
 ·exact h1.elim
def lL:D->Bool
 | .tup _=>false
 | .lst _=>false
 | _=>true
def inD (d:D)(ds:List D):Bool:=ds.any λe=>eqD e d
@[irreducible] def gIn (neg:Bool):R->R->AE:=λr1 r2 ρ q=>match view ρ r1,view ρ r2 with
 | some d,some (.lst ds)=>(lL d=true/\ds.all lL=true)/\q (.d (.bl (if neg then !inD d ds else inD d ds))) ρ
 | some d,some (.tup ds)=>(lL d=true/\ds.all lL=true)/\q (.d (.bl (if neg then !inD d ds else inD d ds))) ρ
 | _,_=>False
theorem lK {x:V}{d:D}(h:RepD K H x d)(f:lL d=true):j_ x=true:=by
 cases d with
 | tup ds=>cases f
 | lst ds=>cases f
 | non=>unfold RepD at h;subst h;rfl
 | bl b=>unfold RepD at h;subst h;rfl
 | int b=>unfold RepD at h;subst h;rfl
 | str b=>unfold RepD at h;subst h;rfl
theorem xm {x y:V}{d e:D}(h:RepD K H x d)(h':RepD K H y e)(f:lL d=true)(f':lL e=true):eqV x y=eqD d e:=by
 cases d with
 | tup ds=>cases f
 | lst ds=>cases f
 | non=>unfold RepD at h;subst h;cases e with
  | tup ds=>cases f'
  | lst ds=>cases f'
  | non=>unfold RepD at h';subst h';simp[eqV,eqD]
  | bl b=>unfold RepD at h';subst h';simp[eqV,eqD]
  | int b=>unfold RepD at h';subst h';simp[eqV,eqD]
  | str b=>unfold RepD at h';subst h';simp[eqV,eqD]
 | bl b=>unfold RepD at h;subst h;cases e with
  | tup ds=>cases f'
  | lst ds=>cases f'
  | non=>unfold RepD at h';subst h';simp[eqV,eqD]
  | bl b=>unfold RepD at h';subst h';simp[eqV,eqD]
  | int b=>unfold RepD at h';subst h';simp[eqV,eqD]
  | str b=>unfold RepD at h';subst h';simp[eqV,eqD]
 | int b=>unfold RepD at h;subst h;cases e with
  | tup ds=>cases f'
  | lst ds=>cases f'
  | non=>unfold RepD at h';subst h';simp[eqV,eqD]
  | bl b=>unfold RepD at h';subst h';simp[eqV,eqD]
  | int b=>unfold RepD at h';subst h';simp[eqV,eqD]
  | str b=>unfold RepD at h';subst h';simp[eqV,eqD]
 | str b=>unfold RepD at h;subst h;cases e with
  | tup ds=>cases f'
  | lst ds=>cases f'
  | non=>unfold RepD at h';subst h';simp[eqV,eqD]
  | bl b=>unfold RepD at h';subst h';simp[eqV,eqD]
  | int b=>unfold RepD at h';subst h';simp[eqV,eqD]
  | str b=>unfold RepD at h';subst h';simp[eqV,eqD]
theorem sW {x:V}{d:D}(h:RepD K H x d)(f:lL d=true):∀ {vs:List V} {ds:List D},RepDs K H vs ds->ds.all lL=true->vs.all j_=true/\inV x vs=inD d ds
 | [],[],_,_=>⟨rfl,rfl⟩
 | v::vs,e::ds,hr,fa=>by
  unfold RepDs at hr;rw[CV,zY]at fa;obtain⟨q1,q2⟩:=sW h f hr.2 fa.2;refine⟨by rw[CV,lK hr.1 fa.1,q1];rfl,?_⟩;unfold inV inD at *;rw[Bj,Bj,q2,xm hr.1 h fa.1 f]
 | [],d::ds,h,_=>by unfold RepDs at h;exact h.elim
 | v::vs,[],h,_=>by unfold RepDs at h;exact h.elim
theorem ym (neg:Bool):OpOk K (rIn K neg) (gIn neg):=by
 intro F σ ρ H x y r1 r2 q Q a h1 h2 h b;unfold gIn at h;split at h
 ·rename_i d ds e1 e2;obtain⟨⟨f1,f2⟩,h⟩:=h;have rx:=dN a h1 e1;obtain⟨l,vs,rfl,sq,rd⟩:=cH a h2 e2;obtain⟨q1,q2⟩:=sW rx f1 (rd.same bW) f2;refine⟨l,vs,rfl,.inl sq,lK rx f1,q1,?_⟩;rw[q2];exact b.bl a h
 ·rename_i d ds e1 e2;obtain⟨⟨f1,f2⟩,h⟩:=h;have rx:=dN a h1 e1;obtain⟨l,vs,rfl,sq,rd,_⟩:=gH a h2 e2;obtain⟨q1,q2⟩:=sW rx f1 (rd.same bW) f2;refine⟨l,vs,rfl,.inr sq,lK rx f1,q1,?_⟩;rw[q2];exact b.bl a h
 ·exact h.elim
end
theorem eK {c:En->Prop}{g:AG}{b:AS}{e:nA}(I:Nat->En->Prop){ds:List D}(hc:∀k ρ,k<=ds.length->I k ρ->c ρ)
  (hs:∀(k:Nat) d ρ (N:En->Prop),ds[k]? = some d->I k ρ->(∀ ρ',I (k+1) ρ'->N ρ')->g d ρ λρ1=>b {nx:=N,ct:=N,bk:=e.nx,rt:=e.rt} ρ1) (hd:∀ ρ,I ds.length ρ->e.nx ρ):∀ ρ,I 0 ρ->forA c g b e ds ρ:=by
 have go:∀(es:List D) (k:Nat),ds.drop k=es->k<=ds.length->∀ ρ,I k ρ->forA c g b e es ρ:=by
  intro es;induction es with
  | nil =>
   intro k h hk ρ i;have:ds.length<=k:=Fc.mp h;have:k=ds.length:=by omega
   subst this;unfold forA;exact⟨hc _ ρ (lm _) i,hd ρ i⟩
  | cons d es ih =>
   intro k h hk ρ i;have lt:k<ds.length:=by
    rcases sK k ds.length with q | q
    ·exact q
    ·rw[A0 q]at h;cases h
   rw[Av lt]at h;injection h with h1 h2;unfold forA;exact⟨hc k ρ hk i,hs k d ρ _ (by rw[<- h1];exact bv lt) i (λρ' i'=>ih (k+1) h2 lt ρ' i')⟩
 exact go ds 0 rfl (zS _)
theorem dJ {n:Nat}{js:List Nat}{c:En->Prop}{g:AG}{tc:AT}{te:AE}{q:List D->En->Prop}(I:Nat->List D->En->Prop){ds:List D}(hc:∀k acc ρ,k<=ds.length->I k acc ρ->c ρ)
  (hs:∀(k:Nat) d acc ρ (N:List D->En->Prop),ds[k]? = some d->I k acc ρ->(∀acc' ρ',I (k+1) acc' ρ'->N acc' ρ') ->
   g d (blkE n js ρ) λρ1=>tc ρ1 λb ρ2=>if b=true then te ρ2 λr ρ3=>sto [r.frz] ρ3 λes ρ4=>N (acc++es) (back ρ (js.map R.o) (ρ4.drop n))else N acc (back ρ (js.map R.o) (ρ2.drop n)))
  (hd:∀acc ρ,I ds.length acc ρ->q acc ρ):∀ ρ,I 0 [] ρ->eP n js c g tc te q ds [] ρ:=by
 have go:∀(es:List D) (k:Nat),ds.drop k=es->k<=ds.length->∀acc ρ,I k acc ρ->eP n js c g tc te q es acc ρ:=by
  intro es;induction es with
  | nil =>
   intro k h hk acc ρ i;have:ds.length<=k:=Fc.mp h;have:k=ds.length:=by omega
   subst this;unfold eP;exact⟨hc _ acc ρ (lm _) i,hd acc ρ i⟩
  | cons d es ih =>
   intro k h hk acc ρ i;have lt:k<ds.length:=by
    rcases sK k ds.length with q | q
    ·exact q
    ·rw[A0 q]at h;cases h
   rw[Av lt]at h;injection h with h1 h2;unfold eP;exact⟨hc k acc ρ hk i,hs k d acc ρ (λacc' ρ'=>eP n js c g tc te q es acc' ρ') (by rw[<- h1];exact bv lt) i (λacc' ρ' i'=>ih (k+1) h2 lt acc' ρ' i')⟩
 exact go ds 0 rfl (zS _) []
theorem qY {n:Nat}{js:List Nat}{c:En->Prop}{g:AG}{tc:AT}{te:AE}{q:List D->En->Prop}(f:Nat->D->List D){ds:List D}(ρ:En)(hc:c ρ)
  (hs:∀(k:Nat) d acc (N:List D->En->Prop),ds[k]? = some d->N (acc++f k d) ρ ->
   g d (blkE n js ρ) λρ1=>tc ρ1 λb ρ2=>if b=true then te ρ2 λr ρ3=>sto [r.frz] ρ3 λes ρ4=>N (acc++es) (back ρ (js.map R.o) (ρ4.drop n))else N acc (back ρ (js.map R.o) (ρ2.drop n)))
  (hd:q (ds.zipIdx.map λp=>f p.2 p.1).flatten ρ):eP n js c g tc te q ds [] ρ:=by
 refine dJ (λk acc ρ'=>ρ'=ρ/\acc=((ds.take k).zipIdx.map λp=>f p.2 p.1).flatten) (λk acc ρ' _ h=>h.1▸hc) ?_ ?_ ρ ⟨rfl,rfl⟩
 ·rintro k d acc _ N hk ⟨rfl,rfl⟩ hN;refine hs k d _ N hk (hN _ _ ⟨rfl,?_⟩);have lt:=(kt.mp hk).1;rw[Bb,hk,CC,List.zipIdx_append,zW,List.flatten_append,Az,AR (by omega)];simp
 ·rintro acc _ ⟨rfl,rfl⟩;rw[AW];exact hd
theorem tN {n:Nat}{js:List Nat}{c:En->Prop}{g:AG}{tc:AT}{te:AE}{q:List D->En->Prop}(f:D->D){ds:List D}(ρ:En)(hc:c ρ)
  (hs:∀d acc (N:List D->En->Prop),d∈ds->N (acc++[f d]) ρ ->
   g d (blkE n js ρ) λρ1=>tc ρ1 λb ρ2=>if b=true then te ρ2 λr ρ3=>sto [r.frz] ρ3 λes ρ4=>N (acc++es) (back ρ (js.map R.o) (ρ4.drop n))else N acc (back ρ (js.map R.o) (ρ2.drop n)))
  (hd:q (ds.map f) ρ):eP n js c g tc te q ds [] ρ:=by
 refine qY (λ_ d=>[f d]) ρ hc (λk d acc N hk hN=>hs d acc N (wp hk) hN) ?_;have:(ds.zipIdx.map λp=>[f p.1]).flatten=ds.map f:=by
  rw[<- List.flatMap_def,show(ds.zipIdx.flatMap λp=>[f p.1])=(ds.zipIdx.map λp=>f p.1)from by rw[List.map_eq_flatMap]];rw[show(λp:D×Nat=>f p.1)=f ∘ Al from rfl,<- AL,List.zipIdx_map_fst]
 rw[this];exact hd
section
variable {X:Cx}(K:ac)
def x8 (K:ac):R2:=λx y H Q=>∃a b xs ys,x = .ref a/\y = .ref b/\SqL K H a xs/\SqL K H b ys/\xs.length+ys.length<=1000000/\∀p,H p=none->Q (.ref p) (upd H p (.lst (xs++ys)))
theorem wK (hK:X.K=K:=by rfl):OpR X (B3 .Add) (x8 K):=by
 subst hK;intro pins s σ H x y v u Q I rx ry h;obtain⟨a,b,xs,ys,rfl,rfl,ha,hb,hz,q⟩:=h;cases rx
 cases ry
 obtain⟨its,r1,p1,_⟩:=I.list ha;obtain⟨its2,r2,p2,_⟩:=I.list hb;have hz':its.length+its2.length<=xz:=small (by rw[<- r1.length,<- r2.length];exact hz);obtain⟨⟨cls,dd,data,sl⟩,ho,hc,n,hd⟩:=p1.isList;obtain⟨⟨cls2,dd2,data2,sl2⟩,ho2,hc2,n2,hd2⟩:=p2.isList;simp only at hc hd hc2 hd2;subst hc hd hc2 hd2;refine concat_meets ⟨_,ho,rfl⟩ ⟨_,ho2,rfl⟩ noFill_list_add seq_list_add PySem.F.slot_list_add PySem.F.entry_list_add (PySem.F.args_list_add_2 _ _) (list_addW a b its.toArray its2.toArray n n2 dd dd2 sl sl2 (by rw[li,li];exact hz')) ⟨ho,ho2,?_⟩;refine⟨.ref s.heap.objs.size,_,I.laid (t':=s.toks) (o:=.lst (xs++ys)) (λb ob q=>dL _ q) (lm _) ?_,rfl,q _ (I.hok.fresh (lm _))⟩;refine⟨by rw[pc];exact small hz,_,0,r1.append r2,?_⟩;rw[show(its++its2).toArray=its.toArray++its2.toArray by simp];exact wP _ rfl
def tRev (K:ac)(te:TE)(ts:TO):TE:=λσ H Q=>te σ H λx H1=>ts σ H1 λo H2=>o=some (-1)/\∃a xs,x = .ref a/\SqL K H2 a xs/\∀p,H2 p=none->Q (.ref p) (upd H2 p (.lst xs.reverse))
variable {e st:Expr}{te:TE}{ts:TO}{pos p2:Pos}
theorem wC (he:PE X e te)(hst:PO X (some st) ts)(hK:X.K=K:=by rfl){ops:bd->bd->List bd}(htl:∀v sl,DD (.Slice none none (some st) p2) false v sl=GA (ops v sl) (DI v sl)):PE X (.Subscript e (.Slice none none (some st) p2) pos) (tRev K te ts):=by
 subst hK;intro pins s σ H Q I h;refine EV (thn (he pins s σ H _ I h) λv s1 ⟨x,H1,I1,r1,q1⟩=>?_);refine wpAny_Slice ?_;rw[Fh];refine ww (ww ?_);refine thn (hst pins s1 σ H1 _ I1 q1) λvk s3 ⟨o,H3,I3,pk,q3⟩=>?_;obtain⟨rfl,a,xs,rfl,hx,q⟩:=q3;cases r1
 have I4:Inv X pins σ H3 {s3 with heap:=s3.heap.push {cls:=.type "slice",data:=.fields #[.none,.none,vk]}}:=I3.kept (t':=s3.toks) λb ob q=>dL _ q;obtain⟨its,r,ht,hz⟩:=I4.list hx;have hg:o0 (wn X.prog X.w) X.A (DI (.ref a) (.ref s3.heap.objs.size)) (EP X pins σ Q) X.xe {s3 with heap:=s3.heap.push {cls:=.type "slice",data:=.fields #[.none,.none,vk]}}:=by
  refine Ff ht.isList (D_ ..) .none .none pk (by simp) ?_ (by rw[li,<- r.length];exact hz);rw[PySem.W.krv_pick];refine⟨.ref _,_,I4.laid (t':=s3.toks) (o:=.lst xs.reverse) (λb ob q=>dL _ q) (lm _) ?_,rfl,q _ (I4.hok.fresh (lm _))⟩;refine⟨by rw[AN];exact hz,its.reverse,0,?_,?_⟩
  ·have rev:∀ {xs:List V} {us:List bd},Vals xs us->Vals xs.reverse us.reverse:=by
    intro xs us h;induction h with
    | nil=>exact .nil
    | cons a _ ih=>rw[CQ,CQ];exact ih.append (.cons a .nil)
   exact rev r
  ·exact wP _ rfl
 show o0 (wn X.prog X.w) X.A (DR e (.Slice none none (some st) p2) (.ref a) (.ref s3.heap.objs.size)) (EP X pins σ Q) X.xe {s3 with heap:=s3.heap.push {cls:=.type "slice",data:=.fields #[.none,.none,vk]}};exact tail_any ht.isList.typeIs Eh.lookup hg (htl _ _)
end
section
variable {K:ac}{ta te:TE}{a ae:AE}{ts:TA}{as:AA}
def gCat:R->R->AE:=λr1 r2 ρ q=>match view ρ r1,view ρ r2 with
 | some (.lst ds),some (.lst es)=>ds.length+es.length<=1000000/\q (.f (ds++es)) ρ
 | _,_=>False
theorem wL:OpOk K (x8 K) gCat:=by
 intro F σ ρ H x y r1 r2 q Q a h1 h2 h b;unfold gCat at h;split at h
 ·rename_i ds es e1 e2;obtain⟨l,vs,rfl,sq,rd⟩:=cH a h1 e1;obtain⟨l2,vs2,rfl,sq2,rd2⟩:=cH a h2 e2;exact⟨l,l2,vs,vs2,rfl,rfl,sq,sq2,by rw[rd.length,rd2.length];exact h.1,λp hp=>b.new a h.2 (rd.append rd2) hp⟩
 ·exact h.elim
def aRev (a:AE)(o:AO):AE:=λρ q=>a ρ λr ρ1=>o ρ1 λk ρ2=>k=some (-1)/\(match view ρ2 r.frz with
 | some (.lst ds)=>q (.f ds.reverse) ρ2
 | _=>False)
theorem RepDs.reverse {H:Hp}:∀ {vs:List V} {ds:List D},RepDs K H vs ds->RepDs K H vs.reverse ds.reverse
 | [],[],_=>.nil
 | v::vs,d::ds,h=>by
  unfold RepDs at h;rw[CQ,CQ];exact(RepDs.reverse h.2).append (.one h.1)
 | [],d::ds,h=>by unfold RepDs at h;exact h.elim
 | v::vs,[],h=>by unfold RepDs at h;exact h.elim
theorem v3 {to:TO}{ao:AO}(ha:TEok K ta a)(ho:TOok K to ao):TEok K (tRev K ta to) (aRev a ao):=by
 intro F σ ρ H q Q r h k;refine ha F σ ρ H _ _ r h λr1 ρ1 x H1 h1 rel1=>?_;obtain⟨r',k1,i1⟩:=rel1.inF;refine ho F σ ρ1 H1 _ _ r' h1 λo ρ2 H2 h2 r2 k2=>?_;obtain⟨rfl,h2⟩:=h2;split at h2
 ·rename_i ds e;obtain⟨p,vs,rfl,sq,rd⟩:=cH r2 (i1.keep k2) e;exact⟨rfl,p,vs,rfl,sq,λp' hp=>((k.after k1).after k2).new r2 h2 rd.reverse hp⟩
 ·exact h2.elim
end
abbrev nD (n:Nat):D:=.int (n:Nat)
abbrev nv (n:Nat):Sv:=.vl (.int (n:Nat))
def ownB (pr:Nat->Bool):En->Nat->Bool
 | [],_=>true
 | s::ss,i=>(!s.own||pr i)&&ownB pr ss (i+1)
theorem n3 {pr:Nat->Bool}:∀ {ss:En} {j:Nat},ownB pr ss j=true->∀i,(gt ss i).own=true->pr (j+i)=true
 | [],_,_,i,h=>by cases h
 | s::ss,j,hb,0,h=>by
  simp only[ownB,zY,Eb,BM]at hb;rcases hb.1 with q | q
  ·rw[show(gt (s::ss) 0)=s from rfl,q]at h;cases h
  ·exact q
 | s::ss,j,hb,i+1,h=>by
  simp only[ownB,zY]at hb;have:=n3 hb.2 i h;rwa [show j+1+i=j+(i+1)by omega]at this
theorem DefN.aok2 {P:wE}{w:z8}{K:ac}{mg:Str->Option bd}{base:Heap}{x:Str}{st:Stmt}{N ps:List Str}{k:Nat}{a:AS}(D:DefN K mg x st ps)(Sc:bw N ps (aI st))(pr:Nat->Bool)(us:En)(S:ASp)(hus:pp (N.length - ps.length) Sv.un=us)
  (hbody:∀(f:Addr) (cdv:bd) (A:zX) (outer:List Env) (s:db) (H:Hp) (E:XK),Room k (A.deeper (Ct x (aI st) s.heap.objs.size f cdv)) ->
   ∃t,PSs (cxOf CX0 P w K mg base N x (aI st) f cdv A outer s H E).nox (cv st) t/\TSok K pr t a)
  (hS:∀ss q,S ss q->ss.length=ps.length/\ownB pr ss 0=true/\a ⟨λρ=>q (.d .non) (outS ss ρ),λr ρ=>fin pr r ρ λr' ρ'=>q r' (outS ss ρ'),λ_=>False,λ_=>False⟩ (ss++us)):OkN P w K mg base (k+1) x ps (spA K S) :=
 D.aok Sc pr S hbody λss q h=>⟨(hS ss q h).1,λi hi=>by have:=n3 (hS ss q h).2.1 i hi;rwa [Ba]at this,by rw[hus];exact(hS ss q h).2.2⟩
theorem k9 {lo:Int}{n k:Nat}{d:D}(h:(rngD lo n)[k]? = some d):k<n/\d = .int (lo+k):=by
 unfold rngD at h;rw[lw]at h;obtain⟨j,e1,e2⟩:=wT.mp h;have lt:k<n:=by
  rcases sK k n with q | q
  ·exact q
  ·rw[Ab (by simpa using q)]at e1;cases e1
 rw[Af lt]at e1;cases e1
 exact⟨lt,e2.symm⟩
abbrev vX (n:Nat)(js:List Nat)(g:AG)(tc:AT)(te:AE)(ρ:En)(d:D)(acc:List D)(N:List D->En->Prop):Prop :=
 g d (blkE n js ρ) λρ1=>tc ρ1 λb ρ2=>if b=true then te ρ2 λr ρ3=>sto [r.frz] ρ3 λes ρ4=>N (acc++es) (back ρ (js.map R.o) (ρ4.drop n))else N acc (back ρ (js.map R.o) (ρ2.drop n))
section
variable {n:Nat}{js:List Nat}{c:En->Prop}{g:AG}{tc:AT}{te:AE}{q:List D->En->Prop}
theorem g_ {lo:Int}{m:Nat}(f:Nat->D){ρ:En}(hc:c ρ)(hs:∀k acc (N:List D->En->Prop),k<m->N (acc++[f k]) ρ->vX n js g tc te ρ (.int (lo+k)) acc N)
  (hd:q ((wr m).map f) ρ):eP n js c g tc te q (rngD lo m) [] ρ:=by
 refine dJ (λk acc ρ'=>k<=m/\ρ'=ρ/\acc=(wr k).map f) (λk acc ρ' _ h=>h.2.1▸hc) ?_ ?_ ρ ⟨zS _,rfl,rfl⟩
 ·rintro k d acc _ N hk ⟨_,rfl,rfl⟩ hN;obtain⟨lt,rfl⟩:=k9 hk;refine hs k _ N lt (hN _ _ ⟨lt,rfl,?_⟩);rw[A4,zW];rfl
 ·rintro acc _ ⟨_,rfl,rfl⟩;rw[cp];exact hd
theorem mV {α:Type}(h:α->D)(f:α->D){xs:List α}{ρ:En}(hc:c ρ)(hs:∀x acc (N:List D->En->Prop),x∈xs->N (acc++[f x]) ρ->vX n js g tc te ρ (h x) acc N)
  (hd:q (xs.map f) ρ):eP n js c g tc te q (xs.map h) [] ρ:=by
 refine dJ (λk acc ρ'=>ρ'=ρ/\acc=(xs.take k).map f) (λk acc ρ' _ h=>h.1▸hc) ?_ ?_ ρ ⟨rfl,rfl⟩
 ·rintro k d acc _ N hk ⟨rfl,rfl⟩ hN;rw[lw]at hk;obtain⟨x,e1,rfl⟩:=wT.mp hk;refine hs x _ N (wp e1) (hN _ _ ⟨rfl,?_⟩);rw[Bb,e1,CC,zW];rfl
 ·rintro acc _ ⟨rfl,rfl⟩;rw[im,AW];exact hd
end
section
variable {c:En->Prop}{g:AG}{b:AS}{e:nA}
theorem p0 {lo:Int}{m:Nat}(I:Nat->En->Prop)(hc:∀k ρ,I k ρ->c ρ)(hs:∀(k:Nat) ρ (N:En->Prop),k<m->I k ρ->(∀ ρ',I (k+1) ρ'->N ρ')->g (.int (lo+k)) ρ λρ1=>b {nx:=N,ct:=N,bk:=e.nx,rt:=e.rt} ρ1)
  (hd:∀ ρ,I m ρ->e.nx ρ) {ρ:En} (h0:I 0 ρ):forA c g b e (rngD lo m) ρ:=by
 refine eK I (λk ρ _ h=>hc k ρ h) (λk d ρ N hk h hN=>?_) (λρ h=>hd ρ (by rwa [cp]at h)) ρ h0;obtain⟨lt,rfl⟩:=k9 hk;exact hs k ρ N lt h hN
theorem fU {α:Type}(h:α->D){xs:List α}(I:Nat->En->Prop)(hc:∀k ρ,I k ρ->c ρ)(hs:∀(k:Nat) x ρ (N:En->Prop),xs[k]? = some x->I k ρ->(∀ ρ',I (k+1) ρ'->N ρ')->g (h x) ρ λρ1=>b {nx:=N,ct:=N,bk:=e.nx,rt:=e.rt} ρ1)
  (hd:∀ ρ,I xs.length ρ->e.nx ρ) {ρ:En} (h0:I 0 ρ):forA c g b e (xs.map h) ρ:=by
 refine eK I (λk ρ _ h=>hc k ρ h) (λk d ρ N hk h' hN=>?_) (λρ h=>hd ρ (by rwa [im]at h)) ρ h0;rw[lw]at hk;obtain⟨x,e1,rfl⟩:=wT.mp hk;exact hs k x ρ N e1 h' hN
end
theorem u5 {xs:List Nat}{i:Nat}(h:i<xs.length):atI (natsD xs) ((i:Nat):Int)=some (.int (xs.getD i 0:Nat)):=by
 refine lV ?_;unfold natsD;rw[lw,bv h];simp[h]
theorem bq {r1:R}{ρ:En}{q:Ko}{xs:List Nat}{i:Nat}(hv:view ρ r1=some (.lst (natsD xs)))(h:i<xs.length)(hq:q (.d (.int (xs.getD i 0:Nat))) ρ):gIx r1 (.d (.int (i:Nat))) ρ q:=by
 unfold gIx;rw[hv];simp only[u5 h];exact hq
theorem bX {neg:Bool}{r1 r2:R}{ρ:En}{q:Ko}{d e:D}{b:Bool}(h1:view ρ r1=some d)(h2:view ρ r2=some e)(hd:d.depth<=60)(hb:eqD d e=b)(hq:q (.d (.bl (if neg then !b else b))) ρ):gEq neg r1 r2 ρ q:=by
 unfold gEq;rw[h1,h2];subst hb;exact⟨hd,hq⟩
theorem oP (ns:List Int):depths (ns.map D.int)=0:=by
 induction ns with
 | nil=>simp[depths]
 | cons n ns ih=>rw[wl];unfold depths;rw[ih];simp[D.depth]
theorem jH (ns:List Nat):(D.lst (natsD ns)).depth<=60:=by
 have:natsD ns=(ns.map λ(n:Nat)=>(n:Int)).map D.int:=by unfold natsD;simp
 rw[this];unfold D.depth;rw[oP];decide
theorem iM {r1:R}{ρ:En}{q:Ko}{ds:List D}{i:Int}{d:D}(hv:view ρ r1=some (.tup ds))(h:atI ds i=some d)(hq:q (.d d) ρ):gIx r1 (.d (.int i)) ρ q:=by
 unfold gIx;rw[hv];simp only[h];exact hq
theorem j9 {r1:R}{ρ:En}{q:Ko}{ds:List D}{i:Int}{d:D}(hv:view ρ r1=some (.lst ds))(h:atI ds i=some d)(hq:q (.d d) ρ):gIx r1 (.d (.int i)) ρ q:=by
 unfold gIx;rw[hv];simp only[h];exact hq
theorem cN {r:R}{ρ:En}{q:Ko}{d:D}{n:String}{b:Bool}(hv:view ρ r=some d)(h:isaT (tyD d) n=some b)(hq:q (.d (.bl b)) ρ):gIsa [r,.t n] ρ q:=by
 unfold gIsa;simp only[hv,h];exact hq
theorem tF {r:R}{ρ:En}{q:Ko}{bs:List Bool}(hv:view ρ r=some (.lst (bs.map D.bl)))(hq:q (.d (.bl (bs.all id))) ρ):gAll [r] ρ q:=by
 unfold gAll;simp only[hv,tW];exact hq
theorem xk {r:R}{ρ:En}{q:Ko}{ns:List Int}(hv:view ρ r=some (.lst (ns.map D.int)))(h1:∀n∈ns,0<=n)(h2:ns.sum<2^62)(hq:q (.d (.int ns.sum)) ρ):gSum [r] ρ q:=by
 unfold gSum;simp only[hv,qS];exact⟨h1,h2,hq⟩
def cR (lo hi:Int):D->Bool
 | .int i=>decide (lo<=i)&&decide (i<=hi)
 | _=>false
def tupB (lo hi:Int):D->Bool
 | .tup ds=>decide (lo<=(ds.length:Int))&&decide ((ds.length:Int)<=hi)
 | _=>false
def zf (rows:List Nat)(a b:Int):Nat:=rows.getD a.toNat 0 ^^^ rows.getD b.toNat 0
def gb (rows:List Nat):D->Bool
 | .tup [.int a,.int b]=>decide (0<=a)&&decide (a<=(rows.length:Int) - 1)&&(decide (0<=b)&&decide (b<=(rows.length:Int) - 1))&&decide (a<b)&&(rows.getD a.toNat 0 != rows.getD b.toNat 0)
 | _=>false
def uw (rows:List Nat):D->List Nat
 | .tup [.int a,.int b]=>rows++[zf rows a b]
 | _=>rows
def g5:List Nat->List D->Bool
 | _,[]=>true
 | rows,d::ds=>gb rows d&&g5 (uw rows d) ds
def de (m:Nat):D->Bool
 | .tup ds=>decide (ds.length<=132)&&g5 (aJ m) ds
 | _=>false
def eZ (n:Nat):D->Bool
 | .tup ds=>decide (1<=ds.length)&&decide (ds.length<=24)&&ds.all (cR 0 ((n:Int) - 1))
 | _=>false
def lenT:D->Nat
 | .tup ds=>ds.length
 | _=>0
def netB:D->Bool
 | .tup [m,js,os]=>(match m with
  | .int i=>decide (1<=i)&&decide (i<=12)&&de i.toNat js&&eZ (i.toNat+lenT js) os
  | _=>false)
 | _=>false
theorem hZ {lo hi:Int}{d:D}(h:cR lo hi d=true):∃i,d = .int i/\lo<=i/\i<=hi:=by
 cases d with
 | int i=>simp[cR]at h;exact⟨i,rfl,h⟩
 | non=>cases h
 | bl _=>cases h
 | str _=>cases h
 | tup _=>cases h
 | lst _=>cases h
theorem iQ {lo hi:Int}{d:D}(h:tupB lo hi d=true):∃ds,d = .tup ds/\lo<=(ds.length:Int)/\(ds.length:Int)<=hi:=by
 cases d with
 | tup i=>simp[tupB]at h;exact⟨i,rfl,h⟩
 | non=>cases h
 | bl _=>cases h
 | str _=>cases h
 | int _=>cases h
 | lst _=>cases h
theorem uq {d:D}(h:tupB 2 2 d=true):∃x y,d = .tup [x,y]:=by
 obtain⟨ds,rfl,h1,h2⟩:=iQ h;have:ds.length=2:=by omega
 match ds,this with
 | [x,y],_=>exact⟨x,y,rfl⟩
theorem uo {d:D}(h:tupB 3 3 d=true):∃x y z,d = .tup [x,y,z]:=by
 obtain⟨ds,rfl,h1,h2⟩:=iQ h;have:ds.length=3:=by omega
 match ds,this with
 | [x,y,z],_=>exact⟨x,y,z,rfl⟩
theorem sU {rows:List Nat}{d:D}(h:tupB 2 2 d=false):gb rows d=false:=by
 unfold gb;split
 ·simp[tupB]at h
 ·rfl
theorem w6 {rows:List Nat}{x y:D}(h:cR 0 ((rows.length:Int) - 1) x=false):gb rows (.tup [x,y])=false:=by
 cases x with
 | int i=>cases y with
  | int j=>simp only[cR]at h;simp only[gb,h,CL]
  | _=>rfl
 | _=>rfl
theorem wZ {rows:List Nat}{x y:D}(h:cR 0 ((rows.length:Int) - 1) y=false):gb rows (.tup [x,y])=false:=by
 cases x with
 | int i=>cases y with
  | int j=>simp only[cR]at h;simp only[gb,h,CL,Dh]
  | _=>rfl
 | _=>rfl
theorem lenD (rows:List Nat):((natsD rows).length:Int)=rows.length:=by rw[im]
theorem cutS {A B:AS}{e:nA}{ρ:En}(P:En->Prop)(h1:∀N:En->Prop,(∀ ρ',P ρ'->N ρ')->A {e with nx:=N} ρ)(h2:∀ ρ',P ρ'->B e ρ'):aSeq A B e ρ:=h1 (B e) h2
theorem nu {m:Nat}{d:D}(h:tupB 0 132 d=false):de m d=false:=by
 cases d with
 | tup ds=>simp[tupB]at h;simp[de];intro h';omega
 | _=>rfl
theorem oY {n:Nat}{d:D}(h:tupB 1 24 d=false):eZ n d=false:=by
 cases d with
 | tup ds =>
  simp only[tupB,Bool.and_eq_false_iff,decide_eq_false_iff_not]at h;simp only[eZ];rcases h with h | h
  ·rw[decide_eq_false (p:=1<=ds.length) (by omega)];rfl
  ·rw[decide_eq_false (p:=ds.length<=24) (by omega)];simp
 | _=>rfl
theorem uI {d:D}(h:tupB 3 3 d=false):netB d=false:=by
 unfold netB;split
 ·simp[tupB]at h
 ·rfl
theorem wN {x:Int}{n:Nat}(h:x=(n:Nat)):Sv.vl (.int x)=nv n:=by rw[h]
theorem xorD (a b:Nat):D.int (CA (a:Int) (b:Int))=nD (a ^^^ b):=by rw[q_]
theorem minI (a b:Nat):(if(b:Int)<(a:Int)then(b:Int)else(a:Int))=((min a b:Nat):Int):=by split <;> omega
theorem maxI (a b:Nat):(if(b:Int) > (a:Int)then(b:Int)else(a:Int))=((max a b:Nat):Int):=by split <;> omega
theorem rQ (rows:List Nat)(a b:Nat):aF rows (min a b,max a b)=rows++[rows.getD a 0 ^^^ rows.getD b 0]:=by
 unfold aF;rcases Cd a b with h | h
 ·simp only[AR h,CZ h]
 ·simp only[A9 h,Dd h];rw[Nat.xor_comm]
def yF (s:Sv)(ds:List D):Prop:=s = .ow ds∨s = .vl (.lst ds)
def hX:ASp:=λss q=>∃(d:D) (lo hi:Int),ss=[.vl d,.vl (.int lo),.vl (.int hi)]/\q (.d (.bl (cR lo hi d))) [.vl d,.vl (.int lo),.vl (.int hi)]
def fY:ASp:=λss q=>∃(d:D) (lo hi:Int),ss=[.vl d,.vl (.int lo),.vl (.int hi)]/\q (.d (.bl (tupB lo hi d))) [.vl d,.vl (.int lo),.vl (.int hi)]
def o9:ASp:=λss q=>∃(s0:Sv) (rows:List Nat) (d:D),ss=[s0,.vl d]/\yF s0 (natsD rows)/\q (.d (.bl (gb rows d))) [s0,.vl d]
def jQ:ASp:=λss q=>∃(m:Nat) (d:D),ss=[nv m,.vl d]/\m<=12/\q (.d (.bl (de m d))) [nv m,.vl d]
def lZ:ASp:=λss q=>∃(n:Nat) (d:D),ss=[nv n,.vl d]/\q (.d (.bl (eZ n d))) [nv n,.vl d]
def uc:ASp:=λss q=>∃(d:D),ss=[.vl d]/\q (.d (.bl (netB d))) [.vl d]
theorem bV (xs:List Nat)(x:Nat):natsD (xs++[x])=natsD xs++[nD x]:=by unfold natsD;rw[zW];rfl
theorem kx (rows:List Nat)(p:Nat×Nat):natsD (aF rows p)=natsD rows++[nD (rows.getD p.1 0 ^^^ rows.getD p.2 0)]:=bV _ _
def fL:ASp:=λss q=>∃x y:Nat,ss=[nv x,nv y]/\q (.d (nD (x ^^^ y))) [nv x,nv y]
def SOwn:ASp:=λss q=>∃m:Nat,ss=[nv m]/\m<=1000/\q (.f (natsD (aJ m))) [nv m]
def SAll:ASp:=λss q=>∃(N:Net) (ws:List Nat),ss=[.vl (netD N),.vl (.lst (natsD ws))]/\okIx ws.length N.js/\ws.length+N.js.length<=1000/\q (.f (natsD (N.js.foldl aF ws))) [.vl (netD N),.vl (.lst (natsD ws))]
def t4:ASp:=λss q=>∃(N:Net) (ws:List Nat),ss=[.vl (netD N),.vl (.lst (natsD ws))]/\okIx ws.length N.js/\ws.length+N.js.length<=1000/\N.os.length<=1000/\(∀o∈N.os,o<ws.length+N.js.length)/\q (.f (natsD (N.os.map λo=>(N.js.foldl aF ws).getD o 0))) [.vl (netD N),.vl (.lst (natsD ws))]
def o7:ASp:=λss q=>∃N:Net,ss=[.vl (netD N)]/\okIx N.m N.js/\N.m+N.js.length<=1000/\q (.f (natsD (cU N))) [.vl (netD N)]
def o8:ASp:=λss q=>∃N:Net,ss=[.vl (netD N)]/\okIx N.m N.js/\N.m+N.js.length<=1000/\N.os.length<=1000/\(∀o∈N.os,o<N.m+N.js.length)/\q (.f (natsD (N.os.map λo=>(cU N).getD o 0))) [.vl (netD N)]
theorem mF:∀ {js:List (Nat×Nat)} {rows:List Nat},okJs rows js->g5 rows (js.map aN)=true
 | [],_,_=>rfl
 | p::r,rows,h=>by
  obtain⟨h1,h2,h3,h4⟩:=h;have ih:=mF h4;rw[wl];show(gb rows (aN p)&&g5 (uw rows (aN p)) (r.map aN))=true;rw[show uw rows (aN p)=aF rows p from rfl,ih,EC];show(decide (0<=(p.1:Int))&&decide ((p.1:Int)<=(rows.length:Int) - 1)&&(decide (0<=(p.2:Int))&&decide ((p.2:Int)<=(rows.length:Int) - 1))&&decide ((p.1:Int)<(p.2:Int))&&(rows.getD (p.1:Int).toNat 0 != rows.getD (p.2:Int).toNat 0))=true;rw[decide_eq_true (show 0<=(p.1:Int)by omega),decide_eq_true (show(p.1:Int)<=(rows.length:Int) - 1 by omega),decide_eq_true (show 0<=(p.2:Int)by omega),decide_eq_true (show(p.2:Int)<=(rows.length:Int) - 1 by omega),decide_eq_true (show(p.1:Int)<(p.2:Int)by omega)];simpa using h3
theorem wQ {N:Net}(h:cf N):netB (netD N)=true:=by
 show(decide (1<=(N.m:Int))&&decide ((N.m:Int)<=12)&&de (N.m:Int).toNat (.tup (N.js.map aN))&&eZ ((N.m:Int).toNat+(N.js.map aN).length) (.tup (natsD N.os)))=true;have h1:=h.m1;have h2:=h.m12;have h3:=h.jl;have h4:=h.o1;have h5:=h.o24;rw[decide_eq_true (show 1<=(N.m:Int)by omega),decide_eq_true (show(N.m:Int)<=12 by omega),Aq];simp only[de,eZ,im,BX];rw[mF h.js,decide_eq_true h3,decide_eq_true h4,decide_eq_true h5];simp only[BX,EK,A8];intro o ho;have:=h.os o ho;show(decide (0<=(o:Int))&&decide ((o:Int)<=((N.m+N.js.length:Nat):Int) - 1))=true;rw[decide_eq_true (show 0<=(o:Int)by omega),decide_eq_true (show(o:Int)<=((N.m+N.js.length:Nat):Int) - 1 by omega)];rfl
theorem tM (xs:List D)(k:Nat):cutD xs none (some ((k:Nat):Int))=xs.take k:=by
 unfold cutD;have e0:HT.sIx xs.length 0 none=0:=rfl;rw[e0,Gg,DN,HT.sIx_nat];rcases Cd k xs.length with h | h
 ·rw[AR h]
 ·rw[A9 h,BA (lm _),BA h]
def hV:ASp:=λss q=>∃a b:Nat,ss=[nv a,nv b]/\q (.d (L2.aN (min a b,max a b))) [nv a,nv b]
def jL (N:Net):Bool:=N.js.all λp=>(cU N).getD p.1 0 &&& (cU N).getD p.2 0==0
def lY:ASp:=λss q=>∃N:Net,ss=[.vl (netD N)]/\okIx N.m N.js/\N.m+N.js.length<=1000/\q (.d (.bl (jL N))) [.vl (netD N)]
theorem mR (xs:List D)(k:Nat):cutD xs (some ((k:Nat):Int)) none=xs.drop k:=by
 unfold cutD;have e0:HT.sIx xs.length xs.length none=xs.length:=rfl;rw[e0,HT.sIx_nat];rcases Cd k xs.length with h | h
 ·rw[AR h,BA (by rw[DT];omega)]
 ·rw[A9 h,A0 (lm _),A0 h];simp
theorem aQ (xs:List Nat):(natsD xs).length=xs.length:=by rw[im]
end L2
namespace HT
open PySem PySem.Spec PyProof.Rows
end HT
namespace L2
open PySem PySem.Spec PyProof.Rows
def dKey:D->Option Key
 | .int i=>some (.inl i)
 | .str x=>some (.inr x)
 | _=>none
section
variable {κ:Type} [DecidableEq κ]
def valD (kvs:List (κ×D))(k:κ):Option D:=(kvs.find? λkv=>decide (kv.1=k)).map (·.2)
def putD (kvs:List (κ×D))(k:κ)(d:D):List (κ×D) :=
 if(kvs.any λkv=>decide (kv.1=k))=true then kvs.map (λkv=>if kv.1=k then(kv.1,d)else kv)else kvs++[(k,d)]
variable {K:ac}{H:Hp}
theorem ro (k:κ):∀ {ks:List (κ×V)} {kvs:List (κ×D)},ks.map Al=kvs.map Al->RepDs K H (ks.map AD) (kvs.map AD) ->
  (∀d,valD kvs k=some d->∃v,valV ks k=some v/\RepD K H v d)/\(valD kvs k=none->valV ks k=none)
 | [],[],_,_=>⟨(λ_ h=>nomatch h),λ_=>rfl⟩
 | p::ks,q::kvs,e,r=>by
  simp only[wl,Fd]at e;rw[wl,wl]at r;unfold RepDs at r;obtain⟨i1,i2⟩:=ro k e.2 r.2;by_cases z:q.1=k
  ·have e1:valD (q::kvs) k=some q.2:=by simp[valD,AK,z]
   rw[e1,iO (e.1.trans z)];exact⟨λd h=>⟨_,rfl,by cases h;exact r.1⟩,λh=>by cases h⟩
  ·have e1:valD (q::kvs) k=valD kvs k:=by simp[valD,AK,z]
   rw[e1,iP (λh=>z (e.1▸h))];exact⟨i1,i2⟩
 | [],q::kvs,e,_=>by simp at e
 | p::ks,[],e,_=>by simp at e
theorem xy (k:κ){ks:List (κ×V)}{kvs:List (κ×D)}(e:ks.map Al=kvs.map Al):(ks.any λkv=>decide (kv.1=k))=kvs.any λkv=>decide (kv.1=k):=by
 have h1:(ks.any λkv=>decide (kv.1=k))=(ks.map Al).any λx=>decide (x=k):=by rw[EJ];rfl
 have h2:(kvs.any λkv=>decide (kv.1=k))=(kvs.map Al).any λx=>decide (x=k):=by rw[EJ];rfl
 rw[h1,h2,e]
theorem pB (k:κ){v:V}{d:D}(rv:RepD K H v d):∀ {ks:List (κ×V)} {kvs:List (κ×D)},ks.map Al=kvs.map Al->RepDs K H (ks.map AD) (kvs.map AD) ->
  (ks.map λkv=>if kv.1=k then(kv.1,v)else kv).map Al=(kvs.map λkv=>if kv.1=k then(kv.1,d)else kv).map Al/\RepDs K H ((ks.map λkv=>if kv.1=k then(kv.1,v)else kv).map AD) ((kvs.map λkv=>if kv.1=k then(kv.1,d)else kv).map AD)
 | [],[],_,_=>⟨rfl,.nil⟩
 | p::ks,q::kvs,e,r=>by
  simp only[wl,Fd]at e;rw[wl,wl]at r;unfold RepDs at r;obtain⟨i1,i2⟩:=pB k rv e.2 r.2;simp only[wl,e.1];by_cases z:q.1=k
  ·simp only[z,if_true];exact⟨by rw[i1],.cons rv i2⟩
  ·simp only[z,if_false];exact⟨by rw[i1,e.1],.cons r.1 i2⟩
 | [],q::kvs,e,_=>by simp at e
 | p::ks,[],e,_=>by simp at e
theorem wu (k:κ){v:V}{d:D}(rv:RepD K H v d){ks:List (κ×V)}{kvs:List (κ×D)}(e:ks.map Al=kvs.map Al)(r:RepDs K H (ks.map AD) (kvs.map AD)) :
  (putK ks k v).map Al=(putD kvs k d).map Al/\RepDs K H ((putK ks k v).map AD) ((putD kvs k d).map AD):=by
 unfold putK putD;rw[xy k e];split
 ·exact pB k rv e r
 ·refine⟨by rw[zW,zW,e];rfl,?_⟩;rw[zW,zW];exact r.append (.one rv)
theorem uN {ks:List (κ×V)}{kvs:List (κ×D)}(e:ks.map Al=kvs.map Al):ks.length=kvs.length:=by
 have:=congrArg Fa e;simpa using this
end
section
variable {K:ac}{F:Fr}{σ:St}{ρ ρ':En}{H H':Hp}{td ty tx:TE}{ad ay ax:AE}
theorem yA {v:V}{d:D}{k:Key}(h:RepD K H v d)(e:dKey d=some k):v=kV k:=by
 cases d with
 | int i=>unfold RepD at h;injection e with e;subst e;exact h
 | str i=>unfold RepD at h;injection e with e;subst e;exact h
 | non=>cases e
 | bl _=>cases e
 | tup _=>cases e
 | lst _=>cases e
def aDNew:AE:=λρ q=>q (.n (.dk [])) ρ
theorem uv:TEok K tDNewK aDNew:=λF σ ρ H q Q r h k p hp=>k (.n (.dk [])) ρ _ _ h ⟨H,p,_,r,.refl,rfl,⟨p,[],rfl,bh,rfl,.nil⟩,hp,rfl,rfl⟩
theorem yO {i:Nat}{x:V}{kvs:List (Key×D)}(r:Rel K F σ ρ H)(ei:σ[i]? = some (some x))(hg:gt ρ i = .dk kvs):∃t ks,x = .ref t/\H t=some (.dK ks)/\ks.map Al=kvs.map Al/\RepDs K (hid H (hs F σ ρ)) (ks.map AD) (kvs.map AD):=by
 have s:=r.sl i;rw[hg,ei]at s;obtain⟨t,ks,e,h1,h2,h3⟩:=s;injection e with e;injection e with e;exact⟨t,ks,e,h1,h2,h3⟩
def aDIn (neg:Bool)(i a:AE):AE:=λρ q=>i ρ λr ρ1=>a ρ1 λr2 ρ2=>match r,r2 with
 | .d d,.o j=>(match gt ρ2 j,dKey d with
  | .dk kvs,some k=>q (.d (.bl (if neg then !(valD kvs k).isSome else(valD kvs k).isSome))) ρ2
  | _,_=>False)
 | _,_=>False
theorem qQ {kvs:List (Key×D)}{ks:List (Key×V)}{k:Key}(e1:ks.map Al=kvs.map Al)(e2:RepDs K H (ks.map AD) (kvs.map AD)):(valV ks k).isSome=(valD kvs k).isSome:=by
 obtain⟨a,b⟩:=ro k e1 e2;cases h:valD kvs k with
 | none=>rw[b h];rfl
 | some d=>obtain⟨v,e,_⟩:=a d h;rw[e];rfl
theorem qp (hi:TEok K ty ay)(ha:TEok K td ad):TEok K (rM ty td) (aDIn true ay ad):=by
 intro F σ ρ H q Q r h k;refine hi F σ ρ H _ _ r h λr1 ρ1 y H1 h1 o1=>?_;obtain⟨r1',k1,i1⟩:=o1.inF;refine ha F σ ρ1 H1 _ _ r1' h1 λr2 ρ2 x H2 h2 o2=>?_;obtain⟨r2',k2,i2⟩:=o2.inF;split at h2
 ·rename_i d j;have ej:σ[j]? = some (some x):=i2;split at h2
  ·rename_i kvs kk hg ek;obtain⟨t,ks,rfl,ht,e1,e2⟩:=yO r2' ej hg;refine⟨t,valV ks kk,rfl,?_,?_⟩
   ·rw[yA i1 ek];exact DGet.k ht
   ·rw[qQ e1 e2];exact((k.after k1).after k2).bl r2' h2
  ·exact h2.elim
 ·exact h2.elim
def zE (x o i:AE):AS:=λe ρ=>x ρ λr ρ1=>sto [r.frz] ρ1 λds ρ2=>o ρ2 λr2 ρ3=>match r2 with
 | .o j=>i ρ3 λr3 ρ4=>(match r3,gt ρ4 j,ds with
  | .d kd,.dk kvs,[d]=>(match dKey kd with | some k=>kvs.length<=1000000/\e.nx (pt ρ4 j (.dk (putD kvs k d))) | none=>False)
  | _,_,_=>False)
 | _=>False
theorem pq {pr:Nat->Bool}{tv:TE}{av:AE}(h:TEok K tv av)(ho:TEok K td ad)(hi:TEok K ty ay):TSok K pr (xX td ty tv) (zE av ad ay):=by
 intro F σ ρ H D e hp r ha k;refine h F σ ρ H _ _ r ha λr1 ρ1 v H1 h1 o=>?_;obtain⟨r',k1,i1⟩:=o.inF;obtain⟨ds,ρ2,h2,r2,k2,rd⟩:=gJ r' (.cons i1 .nil) h1;refine ho F σ ρ2 H1 _ _ r2 h2 λr3 ρ3 x H3 h3 o3=>?_;obtain⟨r3',k3,i3⟩:=o3.inF;split at h3
 ·rename_i j;have ej:σ[j]? = some (some x):=i3;refine hi F σ ρ3 H3 _ _ r3' h3 λr4 ρ4 y H4 h4 o4=>?_;obtain⟨r4',k4,i4⟩:=o4.inF;split at h4
  ·rename_i kd kvs d hg;split at h4
   ·rename_i kk ek;obtain⟨t,ks,rfl,ht,e1,e2⟩:=yO r4' ej hg;unfold RepDs at rd;have rd4:=(RepD.same rd.1 (k3.trans k4).vis)
    obtain⟨p1,p2⟩:=wu kk rd4 e1 e2;have hw:=r4'.write (i:=j) (l:=t) (o:=.dK (putK ks kk v)) (s:=.dk (putD kvs kk d)) (by rw[hg];rfl) ej rfl ⟨t,_,rfl,bh,p1,p2⟩;refine⟨t,_,rfl,?_,k.nx _ _ _ h4.2 hw.1⟩;rw[yA i4 ek];exact DPut.k ht (i6 (by rw[uN e1];exact h4.1))
   ·exact h4.elim
  ·exact h4.elim
 ·exact h3.elim
end
section
variable {X:Cx}{pins:List (Addr×Obj)}{σ:St}{H:Hp}{s:db}{h':Heap}
theorem Inv.turns {t':Nat}{ch:List Addr}(I:Inv X pins σ H s)(k:∀b o,b∉ch->s.heap.get? b=some o->h'.get? b=some o)(hf:∀b∈ch,FpOk X pins H b):Inv X pins σ H {s with heap:=h',toks:=t'}:=by
 have nit:∀b u,H b=some u->b∉ch:=λb u e z=>by rw[(hf b z).1]at e;cases e
 refine I.step (g':=s.gens) (d':=s.drawn) (ch:=ch) (λb hb=>?_) (λb o _ _ hc e _=>k b o hc e) (λb o _ _ hc e _=>⟨o.slots,k b o hc e⟩) (λ_ _ _ _ n=>n)
  (λb o hc e=>⟨o,k b o hc e⟩) (λ_ _ e=>e) (λ_ _ _ e=>e) (λb ps e=>⟨#[],by rw[e];simp⟩) (λm hm=>?_) (λb u e=>?_) I.bare
 ·obtain⟨_,h2,_,h4,h5,h6⟩:=hf b hb;exact⟨h4,h2,h5,h6⟩
 ·obtain⟨o,es,ep,ho,r⟩:=hm;exact⟨o,es,ep,k _ o (λz=>(hf _ z).2.1 rfl) ho,r⟩
 ·refine(I.hok b u e).stay (λc v hc q=>k c v ?_ q) (λ_ q=>q) λ_ _ q=>q;rcases hc with z | z
  ·rw[z];exact nit b u e
  ·exact nit c _ z
theorem Inv.trackO {p:Addr}{o:HO}(I:Inv X pins σ H s)(hf:FpOk X pins H p)(new:cw X.prog X.w (upd H p o) s.heap p o):Inv X pins σ (upd H p o) s:=by
 have hn:=hf.1;refine I.call' (ch:=[p]) rfl ⟨λb u e _ _ _=>e,λb u e _ _ _=>⟨u.slots,e⟩,λb u e n hx=>?_,λb u e _=>⟨u,e⟩,λb xs e=>?_,λb u v e=>?_,λb ps e=>⟨#[],?_⟩⟩ (λb u e=>?_) I.bare (λb hb=>?_)
 ·rw[aW (λz=>hx (by simp[z]))];exact n
 ·rw[aW (bB e hn)];exact e
 ·rw[aW (bB e hn)];exact e
 ·rw[aW (bB e hn),e];simp
 ·by_cases hb:b=p
  ·subst hb;rw[bh]at e;cases e;exact new
  ·rw[aW hb]at e;exact(I.hok b u e).stay (λc v _ q=>q) (λc q=>by rw[aW (bB q hn)];exact q) λc xs q=>by rw[aW (bB q hn)];exact q
 ·rw[Ac.mp hb];obtain⟨_,h2,_,h4,h5,h6⟩:=hf;exact⟨h4,h2,h5,h6⟩
end
section
variable {K:ac}{ts:TA}{as:AA}
def nB (pin:Nat->Bool)(ρ:En):R->Option (List D×(En->Prop))
 | .d (.lst ds)=>some (ds,λ_=>True)
 | .o i=>(match gt ρ i with
  | .ow ds=>if pin i=true then some (ds,λρ2=>gt ρ2 i = .ow ds)else none
  | _=>none)
 | _=>none
theorem uk {pin:Nat->Bool}{F:Fr}{σ:St}{ρ:En}{H:Hp}{v:V}{r:R}{ds:List D}{c:En->Prop}(a:Rel K F σ ρ H)(i:InF K F σ ρ H v r)(e:nB pin ρ r=some (ds,c)) :
  ∃l vs,v = .ref l/\SqL K H l vs/\∀ σ2 ρ2 H2,Same (hid H (hs F σ ρ)) (hid H2 (hs F σ2 ρ2))->(∀i,SvOk K (hid H2 (hs F σ2 ρ2)) H2 σ2[i]? (gt ρ2 i))->(∀j a,pin j=true->σ[j]? = some (some (.ref a))->σ2[j]? = some (some (.ref a)))->c ρ2->∃vs2,SqL K H2 l vs2/\RepDs K (hid H2 (hs F σ2 ρ2)) vs2 ds:=by
 cases r with
 | n s=>cases e
 | t n=>cases e
 | x s=>cases e
 | d d =>
  cases d with
  | lst es =>
   simp only[nB,AV,Dg]at e;obtain⟨rfl,rfl⟩:=e;have rd:RepD K _ v (.lst es):=i;unfold RepD at rd;obtain⟨l,vs,rfl,sq,rr⟩:=rd;exact⟨l,vs,rfl,bW.seq (StL.sq sq),λσ2 ρ2 H2 sm _ _ _=>⟨vs,bW.seq (sm.seq (StL.sq sq)),rr.same sm⟩⟩
  | non=>cases e
  | bl _=>cases e
  | int _=>cases e
  | str _=>cases e
  | tup _=>cases e
 | o j =>
  have ej:σ[j]? = some (some v):=i;unfold nB at e;cases hg:gt ρ j with
  | ow es =>
   simp only[hg]at e;split at e
   ·rename_i hp;simp only[AV,Dg]at e;obtain⟨rfl,rfl⟩:=e;have s:=a.sl j;rw[hg,ej]at s;obtain⟨l,vs,e1,hl,rd⟩:=s;injection e1 with e1;injection e1 with e1;subst e1;refine⟨l,vs,rfl,SqL.of hl,λσ2 ρ2 H2 sm sv pn hc=>?_⟩;have s2:=sv j;rw[hc,pn j l hp ej]at s2;obtain⟨l',vs',e2,hl',rd'⟩:=s2;injection e2 with e2;injection e2 with e2;injection e2 with e2;subst e2;exact⟨vs',SqL.of hl',rd'⟩
   ·cases e
  | un=>simp[hg]at e
  | vl _=>simp[hg]at e
  | tp _=>simp[hg]at e
  | dk _=>simp[hg]at e
  | dt _=>simp[hg]at e
  | ex _ _=>simp[hg]at e
  | sc _=>simp[hg]at e
  | px _ _ _=>simp[hg]at e
  | xl _=>simp[hg]at e
  | ob _ _=>simp[hg]at e
  | ll _=>simp[hg]at e
  | ds _ _ _=>simp[hg]at e
end
section
variable {K:ac}{ts:TA}{as:AA}
def aNever:AS:=λ_ _=>False
theorem bS {pr:Nat->Bool}:TSok K pr tNever aNever:=λF σ ρ H D e hp r h k=>h.elim
end
section
variable {X:Cx}(K:ac)
def tFmt (te:TE):TE:=λσ H Q=>te σ H λx H1=>∃i,x = .int i/\i.natAbs.log2<1920/\Q (.str (toString i)) H1
theorem vq {e:Expr}{te:TE}{pos:Pos}(he:PE X e te):PE X (.FormattedValue e (-1) none pos) (tFmt te):=by
 intro pins s σ H Q I h;refine FormattedValue_plain (thn (he pins s σ H _ I h) λv s1 ⟨x,H1,I1,r1,q1⟩=>?_);obtain⟨i,rfl,hz,q⟩:=q1;obtain⟨t,rfl⟩:=r1;exact formatField_int_small hz ⟨.str _,H1,I1.tok _,⟨_,rfl⟩,q⟩
abbrev TJ:=Str->TE
def PJ (X:Cx)(es:List Expr)(t:TJ):Prop:=∀(out:Str) (pins:List (Addr×Obj)) (s:db) (σ:St) (H:Hp) (Q:VK),Inv X pins σ H s->t out σ H Q->o0 (wn X.prog X.w) X.A (joinParts out (ES es X.env)) (EP X pins σ Q) X.xe s
def jNil:TJ:=λout _ H Q=>out.length<=xz/\Q (.str out) H
def qP (te:TE)(t:TJ):TJ:=λout σ H Q=>te σ H λx H1=>∃y,x = .str y/\(out++y).length<=xz/\t (out++y) σ H1 Q
theorem vp:PJ X [] jNil:=λout pins s σ H Q I h=>joinParts_nil ⟨.str out,H,I.tok _,⟨_,rfl⟩,h.2⟩ h.1
theorem jj {e:Expr}{es:List Expr}{te:TE}{t:TJ}(he:PE X e te)(hr:PJ X es t)(hs:ES (e::es) X.env=eval e X.env::ES es X.env:=by rfl):PJ X (e::es) (qP te t):=by
 intro out pins s σ H Q I h;rw[hs];refine joinParts_cons (thn (he pins s σ H _ I h) λv s1 ⟨x,H1,I1,r1,y,e1,hz,q⟩=>?_);subst e1;obtain⟨t',rfl⟩:=r1;exact⟨hz,hr _ pins s1 σ H1 Q I1 q⟩
theorem mr {v1 v2:Expr}{rest:List Expr}{pos:Pos}{t:TJ}(h:PJ X (v1::v2::rest) t)(hs:ES (v1::v2::rest) X.env=eval v1 X.env::eval v2 X.env::ES rest X.env:=by rfl):PE X (.JoinedStr (v1::v2::rest) pos) (t BF):=by
 intro pins s σ H Q I hq;refine JoinedStr_many ?_;rw[<- hs];exact h BF pins s σ H Q I hq
end
def Itd (lo:Int)(n:Nat):It:=⟨λi _=>i<n,λi H x H'=>H'=H/\x = .int (lo - i),λi _=>n<=i⟩
theorem rB {P:wE}{w:z8}{K:ac}{tg:Expr}(it:Addr)(lo:Int)(n:Nat):Turn P w K tg (Itd lo n) [it] it (λi h=>Ez h it (lo+(i:Nat)*(-1)) ((n:Int) - (i:Nat)) (-1)) where
 mem:=by simp
 obj:=λi h st b hb=>by
  have e:b=it:=by simpa using hb
  subst e;exact⟨_,st,λv z=>by
   have z':Data.fields _=Data.cell v:=z;cases z'⟩
 keep:=λi h h' st k=>k it (by simp) _ st
 item:=by
  intro X hP hw hK hc i pins s σ H E I hf st hg;subst hP hw hK;obtain⟨f0,f1,f2,f3,f4,f5⟩:=hf it (by simp);have W:=GF (prog:=X.prog) (w:=X.w) (I.ok.hd hc) it lo (-1) n;refine W.item i s _ _ hg st λv h' tk hv st' kk=>?_;obtain⟨t,rfl⟩:=hv;have I1:Inv X pins σ H {s with heap:=h',toks:=tk}:=I.turned (λb o hb e=>kk b o (by simpa using hb) e) f0 f1 f3 f4 f5;refine⟨_,rfl,tf (s:={s with heap:=h',toks:=tk}) (n := "range_iterator") st' rfl rfl (by decide) ⟨.int (lo - i),H,I1,⟨t,?_⟩,⟨rfl,rfl⟩,st',λb hb=>(hf b hb).1⟩⟩;rw[show lo+(i:Int)*(-1)=lo - i by omega]
 done:=by
  intro X hP hw hK hc i pins s σ H E I hf st hg;subst hP hw hK;obtain⟨f0,f1,f2,f3,f4,f5⟩:=hf it (by simp);exact FG (I.ok.hd hc) st (by have:n<=i:=hg;omega) λh' eb=>⟨rfl,I.turned (t':=s.toks) (λb o hb e=>eb b o hb e) f0 f1 f3 f4 f5⟩
 self:=λ_ _ _ _ _ st h=>Di st h
section
variable {K:ac}{tk tv:TE}{ak av:AE}{ts:TA}{as:AA}
def dwnD (lo:Int)(n:Nat):List D:=(wr n).map λ(i:Nat)=>D.int (lo - (i:Nat))
theorem eL (lo:Int)(n:Nat):(dwnD lo n).length=n:=by simp[dwnD]
theorem xH {S:Addr->Prop}{H:Hp}{lo:Int}{n:Nat}:WkAt K S H (Itd lo n) (dwnD lo n):=by
 intro k;constructor
 ·intro d h;unfold dwnD at h;rw[lw]at h;obtain⟨j,e1,e2⟩:=wT.mp h;have lt:k<n:=by
   rcases sK k n with q | q
   ·exact q
   ·rw[Ab (by simpa using q)]at e1;cases e1
  rw[Af lt]at e1;cases e1
  refine⟨lt,λx H' z=>⟨z.1▸Same.refl H,?_⟩⟩;rw[z.2,<- e2];unfold RepD;rfl
 ·intro h;rw[eL]at h;exact h
theorem lN {lo:Int}{n k:Nat}{d:D}(h:(dwnD lo n)[k]? = some d):k<n/\d = .int (lo - k):=by
 unfold dwnD at h;rw[lw]at h;obtain⟨j,e1,e2⟩:=wT.mp h;have lt:k<n:=by
  rcases sK k n with q | q
  ·exact q
  ·rw[Ab (by simpa using q)]at e1;cases e1
 rw[Af lt]at e1;cases e1
 exact⟨lt,e2.symm⟩
end
section
variable {K:ac}{ts:TA}{as:AA}
def iq (k:Nat):List D->List D
 | []=>[]
 | d::ds=>.tup [.int (k:Nat),d]::iq (k+1) ds
theorem dH:∀ {ds:List D} {b k:Nat} {d:D},(iq b ds)[k]? = some d->∃x,ds[k]? = some x/\d = .tup [.int ((b+k:Nat):Int),x]
 | [],b,k,d,h=>by simp[iq]at h
 | x::ds,b,0,d,h=>by
  simp only[iq,Bz,AV]at h;exact⟨x,rfl,h.symm⟩
 | x::ds,b,k+1,d,h=>by
  simp only[iq,List.getElem?_cons_succ]at h;obtain⟨a,e1,e2⟩:=dH (ds:=ds) (b:=b+1) (k:=k) h;exact⟨a,by simpa using e1,by rw[e2,show b+1+k=b+(k+1)by omega]⟩
theorem bL:∀(ds:List D) (b:Nat),(iq b ds).length=ds.length
 | [],b=>rfl
 | x::ds,b=>by simp only[iq,zK,bL ds]
end
open Builtin.SmallTypes (nextOf)
structure Feed (prog:wE)(w:z8)(it:Addr)(dep:List Addr)(St:Nat->Heap->Prop)(gv:Nat->Option bd):Prop where
 mem:it∈dep
 obj:∀i h,St i h->∃o vs n,h.get? it=some o/\o.data = .fields vs/\o.cls = .type n/\n ≠ "zip"
 keep:∀i h h',St i h->(∀b o,b∈dep->h.get? b=some o->h'.get? b=some o)->St i h'
 item:∀(A:zX) i (s:db) x (Q:bd->db->Prop) E,St i s.heap->gv i=some x->(∀h',St (i+1) h'->AF it s.heap h'->Q x {s with heap:=h'})->o0 (wn prog w) A (nextOf (.ref it)) Q E s
 fin:∀(A:zX) i (s:db) (Q:bd->db->Prop) E,A.handled=none->St i s.heap->gv i=none->(∀h' e,GU it s.heap h'->(∃o,h'.get? e=some o/\o.cls = .type "StopIteration")->E (.ref e) {s with heap:=h'})->o0 (wn prog w) A (nextOf (.ref it)) Q E s
section
variable {prog:wE}{w:z8}
theorem lM {it l:Addr}{xs:Array bd}(hne:l≠it):Feed prog w it [it,l] (λi h=>h.IsTupleIter it l i/\h.IsTuple l xs) (λi=>xs[i]?) where
 mem:=by simp
 obj:=λi h ⟨⟨o,e,c,d⟩,_⟩=>⟨o,_,_,e,d,c,by decide⟩
 keep:=λi h h' ⟨a,b⟩ k=>⟨a.at λo e=>k it o (by simp) e,by obtain⟨o,e,r⟩:=b;exact⟨o,k l o (by simp) e,r⟩⟩
 item:=λA i s x Q E ⟨a,b⟩ hx k=>by
  obtain⟨o,ho,hc,hd⟩:=id a;obtain⟨ol,hol,rr,nl,hdl⟩:=id b;unfold nextOf;refine bn (Ce (name:=C7 "__next__") a.typeIs BU (Cq BU a.typeIs EA ?_ (Ev _)));show o0 _ _ (Fv (.ref it) 0>>=_) _ _ s;refine bn (z6 ho hd (x:=.ref l) rfl ?_);show o0 _ _ (if(Value.ref l==Value.none)=true then _ else _) _ _ s;rw[if_neg (λz=>by cases z)];show o0 _ _ (Fv (.ref it) 1>>=_) _ _ s;refine bn (z6 ho hd (x:=.int i 0) rfl ?_);show o0 _ _ (seqItems? (.ref l)>>=_) _ _ s;refine bn (EO hol hdl ?_);simp only[Aq,hx];refine bn (AM ho hd (by simp) (ww ⟨x,rfl,ww ?_⟩));refine k _ ⟨⟨_,zV _ ho (At (As hd _)),(CT ..).trans hc,by rw[As hd];simp[Ae]⟩,ol,?_,rr,nl,hdl⟩ (Bl ..);exact((Bl ..).2 l hne).trans hol
 fin:=λA i s Q E hh ⟨a,b⟩ hx k=>by
  obtain⟨o,ho,hc,hd⟩:=id a;obtain⟨ol,hol,rr,nl,hdl⟩:=id b;unfold nextOf;refine bn (Ce (name:=C7 "__next__") a.typeIs BU (Cq BU a.typeIs EA ?_ (Ev _)));show o0 _ _ (Fv (.ref it) 0>>=_) _ _ s;refine bn (z6 ho hd (x:=.ref l) rfl ?_);show o0 _ _ (if(Value.ref l==Value.none)=true then _ else _) _ _ s;rw[if_neg (λz=>by cases z)];show o0 _ _ (Fv (.ref it) 1>>=_) _ _ s;refine bn (z6 ho hd (x:=.int i 0) rfl ?_);show o0 _ _ (seqItems? (.ref l)>>=_) _ _ s;refine bn (EO hol hdl ?_);simp only[Aq,hx];refine bn (Gk (bn (AM ho hd (by simp) ?_)));show o0 _ _ (newExc (.type "StopIteration") []>>=_) _ _ _;refine bn ?_;simp only[newExc,newTuple];refine bn (Bg ?_ (by size_fits));refine bn (m:=firstArgMember _ _) (BD (a:=Value.none) (by first | rfl | (simp only[firstArgMember];rfl)) ?_);refine Bg ?_ (by size_fits);simp only[raiseNew];refine bn (wpAny_handled ?_);first | rw[show A.in1.handled=none from hh] | rw[hh]
  refine bn (ww (wpAny_throw ?_));exact k _ _ (((Bl ..).extBut.push _).push _) ⟨_,wP _ rfl,rfl⟩
variable {A:zX}{E:bd->db->Prop}{s:db}{z TI TO i1 i2:Addr}{d1 d2:List Addr}{S1 S2:Nat->Heap->Prop}{g1 g2:Nat->Option bd}
end
section
theorem Blk.inC {X0:Cx}{scope0:AC}{N0:List Str}{s:db}{H:Hp}{C:Addr}{fp:List Addr}{scope:AC}{own:List Str}{js:List Nat}(sc:AC)(N:List Str)(h:blkB (relS scope0 sc) N scope own js=true:=by decide +kernel)(e1:X0.env.scope=sc:=by rfl)(e2:N0=N:=by rfl):Blk (blkC X0 scope0 N0 s H C fp) scope own js :=
 Blk.of (X:=blkC X0 scope0 N0 s H C fp) (relS scope0 sc) N h (by subst e1;rfl) e2
end
end L2
set_option maxHeartbeats 1000000
namespace L2
open PySem PySem.Spec PyProof.Rows
open PySem.MeetsSeq PySem.MeetsSeq2 PySem.MeetsSeq3
open PySem.AutoSeq1 (wpAny_loadPart')
def Fly (od:Option Addr)(h:Heap)(e C T:Addr):Prop :=
 ∃oe vs oT ts,h.get? e=some oe/\oe.cls = .ref C/\oe.dict=od/\oe.data = .fields vs/\vs[1]? = some (.ref T)/\T≠e/\h.get? T=some oT/\oT.data = .fields ts/\ts[3]? = some .none
structure Gone (fs:List Addr)(h h':Heap)(e:Addr)(hv:bd):Prop where
 keep:∀b o,h.get? b=some o->b≠e->hv ≠ .ref b->b∉fs->h'.get? b=some o
 slot:∀b o,h.get? b=some o->b≠e->hv ≠ .ref b->∃sl,h'.get? b=some {o with slots:=sl}
section
variable {M:Ek}{A:zX}{E:bd->db->Prop}{s:db}{base:Heap}{env:Env}{outer:List Env}{L e C:Addr}{oe:Obj}{vs:Array bd}{od:Option Addr}
theorem pQ {hd:bd}{had:Bool}{Q:Unit->db->Prop}(fr:A.frames=some (env::outer))(ff:s.heap.FunFrames base (env::outer))(lf:env.frame=some L)
  (ge:s.heap.get? e=some oe) (gc:oe.cls = .ref C) (gd:oe.dict=od) (gf:oe.data = .fields vs) (gz:1<vs.size)
  (fin:∀h' T,s.heap.objs.size<=T->Fly od h' e C T->(∀b o,s.heap.get? b=some o->b≠e->b∉frs (env::outer)->h'.get? b=some o)->(∀b o,s.heap.get? b=some o->b≠e->∃sl,h'.get? b=some {o with slots:=sl})->Q () {s with heap:=h'}) :
  o0 M A (do let a <- frameOf env;let pl <- FJ L had;let b <- Bp hd a .none (Ae L) .none pl;EQ (.ref e) 1 b) (λ_ s'=>o0 M A (Cf (.ref e) none) Q E s') E s:=by
 have off:e∉frs (env::outer):=λq=>by
  obtain⟨_,o,go,no⟩:=ff.mem q;cases ge.symm.trans go
  exact no vs gf
 refine bn (Ee fr ff lf λha sa=>bn (DY λpl ip=>?_));unfold Bp Fu;refine bn (Bg ?_ (ip.sizeOk5 _ _ _ _ _));have ge1:ha.get? e=some oe:=(sa.2.1 e off).trans ge;have sz:ha.objs.size=s.heap.objs.size:=sa.1;generalize hT:([hd,Value.ref L,.none,Ae L,.none]++(if pl.isEmpty then pp 6 Value.none else pl)).toArray=tv;have tz:3<tv.size:=by rw[<- hT,li,pc];simp only[zK,Co];omega
 have neT:e≠ha.objs.size:=zM (lc ge1);refine AM (dL _ ge1) gf gz ?_;generalize hp:ha.push {cls:=.type "traceback",dict:=none,data:=.fields tv}=hb;have gT:hb.get? ha.objs.size=some {cls:=.type "traceback",dict:=none,data:=.fields tv}:=by rw[<- hp];exact wP _ rfl
 have kb:∀b o,ha.get? b=some o->hb.get? b=some o:=λb o q=>by rw[<- hp];exact dL _ q
 have w1:=As gf λa=>a.setIfInBounds 1 (.ref ha.objs.size);have g3:=zV (Ag λa=>a.setIfInBounds 1 (.ref ha.objs.size)) (kb e oe ge1) (At w1);have gT3:=(sB hb (Ag λa=>a.setIfInBounds 1 (.ref ha.objs.size)) neT).trans gT;unfold Cf;refine bn (z6 g3 w1 (x:=.ref ha.objs.size) (by simp[gz]) ?_);rw[if_pos (by simp:(Value.ref ha.objs.size != Value.none)=true)];refine AM gT3 rfl tz ?_;have on:∀b o,b≠e->ha.get? b=some o->((hb.update e (Ag λa=>a.setIfInBounds 1 (.ref ha.objs.size))).update ha.objs.size (Ag λa=>a.setIfInBounds 3 ((none:Option Addr).elim Value.none λf=>Ae f))).get? b=some o:=λb o ne q=>by
  rw[sB _ _ (Aa (lc q)),sB _ _ (AB ne)];exact kb b o q
 refine fin _ ha.objs.size (by rw[sz];exact lm _) ⟨_,_,_,_,(sB _ _ neT.symm).trans g3,(CT _ _).trans gc,?_,w1,by simp[gz],neT.symm,zV _ gT3 (At (As rfl _)),As rfl _,by simp[tz]⟩ (λb o q ne nf=>on b o ne ((sa.2.1 b nf).trans q)) λb o q ne=>?_
 ·obtain⟨oc,od,oda,osl⟩:=oe;cases gf
  exact gd
 ·obtain⟨sl,q'⟩:=sa.2.2 b o q;exact⟨sl,on b _ ne q'⟩
theorem lv {hv:bd}{Q:Unit->db->Prop}(fr:A.frames=some (env::outer))(ff:s.heap.FunFrames base (env::outer))(lf:env.frame=some L)
  (ge:s.heap.get? e=some oe) (gc:oe.cls = .ref C) (gd:oe.dict=od) (gf:oe.data = .fields vs) (g1:vs[1]? = some hv)
  (hh:hv = .none ∨ ∃T oT ts,hv = .ref T/\T≠e/\s.heap.get? T=some oT/\oT.data = .fields ts/\ts[3]? = some .none)
  (fin:∀h' T,s.heap.objs.size<=T->Fly od h' e C T->Gone (frs (env::outer)) s.heap h' e hv->Q () {s with heap:=h'}) :
  o0 M A (Bu (.ref e) env) (λ_ s'=>o0 M A (Cf (.ref e) none) Q E s') E s:=by
 have gz:=(Ak.mp g1).1;unfold Bu;simp only[lf];refine bn (z6 ge gf g1 ?_);rcases hh with rfl | ⟨T,oT,ts,rfl,nT,gT,fT,t3⟩
 ·rw[if_neg (by decide)];exact pQ fr ff lf ge gc gd gf gz λh' T' q1 q2 q3 q4=>fin h' T' q1 q2 ⟨λb o a1 a2 _ a4=>q3 b o a1 a2 a4,λb o a1 a2 _=>q4 b o a1 a2⟩
 ·rw[if_pos (by simp:(Value.ref T != Value.none)=true)];refine bn (z6 gT fT t3 ?_);rw[if_neg (by simp[Ae]:¬(Value.none==Ae L)=true)];refine bn (AM gT fT (Ak.mp t3).1 ?_);have ot:∀b,b≠T->(s.heap.update T (Ag λa=>a.setIfInBounds 3 Value.none)).get? b=s.heap.get? b:=λb q=>sB _ _ (AB q);have gT':=zV (Ag λa=>a.setIfInBounds 3 Value.none) gT (At (As fT _));have nr:∀b o,s.heap.get? b=some o->(∀us,o.data ≠ .fields us)->b≠T:=λb o q nf z=>by
   subst z;cases gT.symm.trans q
   exact nf ts fT
  refine pQ fr (ff.of_keeps λb o q nf=>⟨o,(ot b (nr b o q nf)).trans q,rfl⟩) lf ((ot e nT.symm).trans ge) gc gd gf gz λh' T' q1 q2 q3 q4=>fin h' T' ?_ q2 ⟨λb o a1 a2 a3 a4=>q3 b o ((ot b λz=>a3 (by rw[z])).trans a1) a2 a4,λb o a1 a2 a3=>q4 b o ((ot b λz=>a3 (by rw[z])).trans a1) a2⟩;rwa [DV]at q1
end
def Hot (od:Option Addr)(h0 h:Heap)(H:Hp)(e C:Addr):Prop :=
 ∃oe vs hv,h.get? e=some oe/\oe.cls = .ref C/\oe.dict=od/\oe.data = .fields vs/\vs[1]? = some hv/\h0.get? e=none/\H e=none /\
  (hv = .none ∨ ∃T oT ts,hv = .ref T/\T≠e/\h.get? T=some oT/\oT.data = .fields ts/\ts[3]? = some .none/\h0.get? T=none/\H T=none)
section
variable {X:Cx}{pins:List (Addr×Obj)}{σ:St}{H:Hp}{s:db}{h0:Heap}{e C:Addr}{od:Option Addr}
theorem lvI {E:bd->db->Prop}{Q:Unit->db->Prop}(I:Inv X pins σ H s)(hs:X.stack=X.env::X.outer)(hf:X.env.frame=some X.env.locals)(hsub:∀b o,h0.get? b=some o->b<s.heap.objs.size)(hot:Hot od h0 s.heap H e C)
  (fin:∀h' ch,(∀b∈ch,h0.get? b=none/\H b=none)->e∈ch->Un (frs X.stack) ch H H s.heap h'->HOk X.prog X.w H h'->Hot od h0 h' H e C->Q () {s with heap:=h'}) :
  o0 (wn X.prog X.w) X.A (Bu (.ref e) X.env) (λ_ s'=>o0 (wn X.prog X.w) X.A (Cf (.ref e) none) Q E s') E s:=by
 obtain⟨oe,vs,hv,ge,gc,gd,gf,g1,ye,ue,hh⟩:=hot;have hh':hv = .none ∨ ∃T oT ts,hv = .ref T/\T≠e/\s.heap.get? T=some oT/\oT.data = .fields ts/\ts[3]? = some .none:=by
  rcases hh with q | ⟨T,oT,ts,q1,q2,q3,q4,q5,_⟩
  ·exact .inl q
  ·exact .inr ⟨T,oT,ts,q1,q2,q3,q4,q5⟩
 refine lv (hs▸I.ok.frames) (hs▸I.stack) hf ge gc gd gf g1 hh' λh' T q1 ⟨oe',vs',oT',ts',f1,f2,f3,f4,f5,f6,f7,f8,f9⟩ g=>?_;have hch:∀b∈e::(match hv with | .ref T=>[T] | _=>[]),h0.get? b=none/\H b=none:=λb hb=>by
  rcases wS.mp hb with rfl | hb
  ·exact⟨ye,ue⟩
  ·rcases hh with rfl | ⟨T,oT,ts,rfl,_,_,_,_,y,u⟩
   ·cases hb
   ·rw[Ac.mp hb];exact⟨y,u⟩
 have nch:∀b,b∉e::(match hv with | .ref T=>[T] | _=>[])->b≠e/\hv ≠ .ref b:=λb hb=>⟨λz=>hb (z ▸ .head _),λz=>hb (by subst z;exact .tail _ (.head _))⟩
 have there:∀b o,s.heap.get? b=some o->∃o',h'.get? b=some o'∨b=e∨hv = .ref b:=λb o q=>by
  by_cases z1:b=e
  ·exact⟨o,.inr (.inl z1)⟩
  ·by_cases z2:hv = .ref b
   ·exact⟨o,.inr (.inr z2)⟩
   ·obtain⟨sl,q'⟩:=g.slot b o q z1 z2;exact⟨_,.inl q'⟩
 refine fin h' _ hch (.head _) ⟨λb o q n nf nx=>g.keep b o q (nch b nx).1 (nch b nx).2 (by rw[<- hs];exact nf),λb o q n _ nx=>g.slot b o q (nch b nx).1 (nch b nx).2,λb o _ n _=>n,λb o q nx=>?_,λ_ _ q=>q,λ_ _ _ q=>q,λb ps q=>⟨#[],by rw[q];simp⟩⟩ (λa o q=>?_) ⟨oe',vs',_,f1,f2,f3,f4,f5,ye,ue,.inr ⟨T,oT',ts',rfl,f6,f7,f8,f9,?_,I.hok.fresh q1⟩⟩
 ·obtain⟨sl,q'⟩:=g.slot b o q (nch b nx).1 (nch b nx).2;exact⟨_,q'⟩
 ·have tr:∀b o',H b=some o'->b≠e/\hv ≠ .ref b/\b∉frs (X.env::X.outer):=λb o' z=>by
   refine⟨λw=>?_,λw=>?_,λw=>?_⟩
   ·rw[w,ue]at z;cases z
   ·rcases hh with y | ⟨T,oT,ts,y,_,_,_,_,_,u⟩
    ·rw[y]at w;cases w
    ·rw[y]at w;cases w;rw[u]at z;cases z
   ·rw[<- hs]at w;rw[I.stkFree b w]at z;cases z
  refine(I.hok a o q).stay (λb u hb z=>?_) (λ_ z=>z) λ_ _ z=>z;have:∃o',H b=some o':=by
   rcases hb with rfl | hb
   ·exact⟨_,q⟩
   ·exact⟨_,hb⟩
  obtain⟨o',ho'⟩:=this;obtain⟨a1,a2,a3⟩:=tr b o' ho';exact g.keep b u z a1 a2 a3
 ·cases z:h0.get? T with
  | none=>rfl
  | some o=>exact absurd (hsub T o z) (C8.mpr q1)
end
def odV:Option Addr->bd
 | none=>.none
 | some dx=>.ref dx
def Yg (h:Heap)(od:Option Addr):Prop:=∀dx,od=some dx->h.get? dx=none
def CX1 (P:wE)(w:z8):CXT:=λouter H s E e s' =>
 ∃a C od H',e = .ref a/\s'.os=s.os/\C3 s'.gens/\Un (frs outer) [] H H' s.heap s'.heap/\HOk P w H' s'.heap/\Hot od s.heap s'.heap H' a C/\Yg s.heap od/\E (odV od) (some C) H'
section
variable {P:wE}{w:z8}{K:ac}{mg:Str->Option bd}{base:Heap}{N:List Str}{qual:Str}{scope:AC}{f:Addr}{cd:bd}{A:zX}{outer:List Env}{s0:db}{H0:Hp}{E:XK}
theorem yt {pins:List (Addr×Obj)}{σ:St}{H:Hp}{s:db}{e C:Addr}{od:Option Addr}(I:Inv (cxOf (CX1 P w) P w K mg base N qual scope f cd A outer s0 H0 E) pins σ H s)(hot:Hot od s0.heap s.heap H e C)(hyg:Yg s0.heap od)(he:E (odV od) (some C) H) :
  (cxOf (CX1 P w) P w K mg base N qual scope f cd A outer s0 H0 E).xe (.ref e) s:=by
 show o0 (wn P w) _ (C2 _ (.ref e)) _ _ s;unfold C2;refine bn (lvI I rfl rfl (λb o q=>?_) hot λh' ch hch hin un hok hot'=>?_)
 ·exact nw (lc q) I.sz
 ·have lo:∀b o,s0.heap.get? b=some o->b∉ch:=λb o q z=>by rw[(hch b z).1]at q;cases q
  have nL:∀b o,s0.heap.get? b=some o->b≠s0.heap.objs.size:=λb o q=>zM (lc q);refine⟨e,C,od,H,rfl,I.os,I.bare,⟨λb o q n nf _=>?_,λb o q n hb _=>?_,λb o q n _=>I.base.free b o q n (λz=>nomatch z),λb o q _=>?_,I.base.tups,I.base.frzs,I.base.tbls⟩,hok,hot',hyg,he⟩
  ·refine un.keep b o (I.base.keep b o q n nf λz=>nomatch z) (I.base.free b o q n λz=>nomatch z) (λz=>?_) (lo b o q);rcases wS.mp z with z | z
   ·exact nL b o q z
   ·exact nf z
  ·obtain⟨sl,q'⟩:=I.base.slot b o q n hb λz=>nomatch z
   obtain⟨sl',q''⟩:=un.slot b _ q' (I.base.free b o q n λz=>nomatch z) (.tail _ hb) (lo b o q);exact⟨sl',q''⟩
  ·obtain⟨o',q'⟩:=I.base.there b o q λz=>nomatch z
   exact un.there b o' q' (lo b o q)
end
abbrev bmV:List bd:=[.type "ValueError",.type "Exception",.type "BaseException",.type "object"]
theorem wI {K:ac}{h:Heap}{x:Str}{C:Addr}{mg:Str->Option bd}(KX:K.In h)(hm:mg x=some (.ref C))(q:BQ K C bmV "ValueError.__new__" = true):OwnCls x C bmV "ValueError.__new__" mg h:=by
 unfold BQ at q;split at q;next dd cd sl lk =>
  split at q;next C' bm k0 k1 k2 k3 n k5 em es =>
   simp only[zY,beq_iff_eq,BM]at q;obtain⟨⟨⟨⟨⟨rfl,rfl⟩,nd⟩,tl⟩,nk⟩,ni⟩:=q;obtain⟨a1,a2,a3,a4,a5,a6,a7,a8,a9,a10,a11⟩:=cd;obtain⟨l⟩:=sl;dsimp only at em nd nk ni es;subst em nd es;exact⟨hm,bm,a4,a1,a5,a2,a6,a7,a8,a9,a10,dd,k0,k1,k2,k3,k5,_,KX _ _ lk,.of_isNs (Dl KX nk),PySem.W.nsMap_none_of_in KX nk ni,Dk KX tl⟩
  ·cases q
 ·cases q
theorem HOk.get {P:wE}{w:z8}{H:Hp}{h:Heap}{a:Addr}{o:HO}(k:HOk P w H h)(e:H a=some o):∃u,h.get? a=some u:=by
 have x:=k a o e;cases o with
 | lst xs=>obtain⟨_,_,_,_,e⟩:=x;exact⟨_,e⟩
 | tup xs=>obtain⟨_,_,_,ob,e,_⟩:=x;exact⟨_,e⟩
 | dK kvs=>obtain⟨_,_,_,_,o,_,_,e,_⟩:=x;exact⟨_,e⟩
 | dT kvs=>obtain⟨_,_,_,_,o,_,_,e,_⟩:=x;exact⟨_,e⟩
 | set S n=>obtain⟨o,_,_,_,e,_⟩:=x;exact⟨_,e⟩
 | ins C dx fs=>obtain⟨_,_,_,e,_⟩:=x;exact⟨_,e⟩
 | own y=>exact x
 | xd fs=>obtain⟨_,⟨_,_,_,e,_⟩,_⟩:=x;exact⟨_,e⟩
 | rng lo hi=>obtain⟨_,_,_,e⟩:=x;exact⟨_,e⟩
 | frz ob u=>obtain⟨e,_⟩:=x;exact⟨_,e⟩
 | tbl ps=>exact⟨_,x⟩
 | met f y=>exact⟨_,x⟩
 | ext φ=>obtain⟨_,e,_⟩:=x;exact e
 | big ps φ=>obtain⟨_,_,e,_⟩:=x;exact e
theorem Inv.back0 {X:Cx}{pins:List (Addr×Obj)}{σ:St}{H:Hp}{s:db}(I:Inv X pins σ H s)(hx:X.ex=[]){b:Addr}(h:s.heap.get? b=none):X.s₀.heap.get? b=none:=by
 cases q:X.s₀.heap.get? b with
 | none=>rfl
 | some o =>
  obtain⟨o',q'⟩:=I.base.there b o q (by rw[hx];simp);rw[h]at q';cases q'
def Fld (H:Hp):Option Str->Option Addr->V->Prop
 | none,od,v=>od=none/\v = .non
 | some f,od,v=>∃dx,od=some dx/\H dx=some (.xd [(f,v)])
structure Tie (X:Cx)(C:Addr)(fn:Option Str)(R:VK):Prop where
 ex:X.ex=[]
 run:∀ {pins:List (Addr×Obj)} {σ:St} {H:Hp} {s:db} {e:Addr} {od:Option Addr} {v:V},Inv X pins σ H s->Hot od X.s₀.heap s.heap H e C->Yg X.s₀.heap od->Fld H fn od v->R v H->X.xe (.ref e) s
def SPr (X:Cx)(pins:List (Addr×Obj))(D:Ends)(f:Flow)(s':db):Prop :=
 match f with
 | .next=>∃ σ' H',Inv X pins σ' H' s'/\D.nx σ' H'
 | _=>False
def PSr (X:Cx)(R:VK)(st:Stmt)(t:TS):Prop :=
 ∀(pins:List (Addr×Obj)) (s:db) (σ:St) (H:Hp) (D:Ends),D.rt=R->Inv X pins σ H s->t D σ H->o0 (wn X.prog X.w) X.A (exec st X.env) (SPr X pins D) X.xe s
def PSsr (X:Cx)(R:VK)(st:List Stmt)(t:TS):Prop :=
 ∀(pins:List (Addr×Obj)) (s:db) (σ:St) (H:Hp) (D:Ends),D.rt=R->Inv X pins σ H s->t D σ H->o0 (wn X.prog X.w) X.A (execs st X.env) (SPr X pins D) X.xe s
def vA (D:Ends):Ends:={nx:=D.nx,rt:=λ_ _=>False,bk:=λ_ _=>False,ct:=λ_ _=>False}
section
variable {X:Cx}{R:VK}{C:Addr}
theorem cm {st:Stmt}{t:TS}(h:PS X.nox st t)(ht:∀D σ H,t D σ H->t (vA D) σ H:=by intro _ _ _ h;exact h):PSr X R st t:=λpins s σ H D _ I hw=>by
 refine z9 (h pins s σ H (vA D) (I.wish _) (ht D σ H hw)) (λf s' q=>?_) λ_ _ z=>zZ z;cases f with
 | next=>obtain⟨σ',H',I',q⟩:=q;exact⟨σ',H',I'.unwish,q⟩
 | brk=>obtain⟨_,_,_,q⟩:=q;exact q
 | cont=>obtain⟨_,_,_,q⟩:=q;exact q
 | ret u=>obtain⟨_,_,_,_,_,q⟩:=q;exact q
theorem bQ:PSsr X R [] tNext:=λ_ _ σ H _ _ I h=>B7 ⟨σ,H,I,h⟩
theorem aP {st:Stmt}{rest:List Stmt}{t u:TS}(h1:PSr X R st t)(h2:PSsr X R rest u):PSsr X R (st::rest) (tSeq t u):=by
 intro pins s σ H D e I h;refine Df (thn (h1 pins s σ H {D with nx:=u D} e I h) λf s1 q=>?_);cases f with
 | next =>
  obtain⟨σ',H',I',q⟩:=q;exact h2 pins s1 σ' H' D e I' q
 | ret v=>exact q
 | brk=>exact q
 | cont=>exact q
theorem gS {st:Stmt}:PSr X R st tNever:=λ_ _ _ _ _ _ _ h=>h.elim
theorem ef {st:List Stmt}:PSsr X R st tNever:=λ_ _ _ _ _ _ _ h=>h.elim
theorem jf {c:Expr}{a b:List Stmt}{tc:TT}{t u:TS}{pos:Pos}(hc:PT X.nox c tc)(ha:PSsr X R a t)(hb:PSsr X R b u):PSr X R (.If c a b pos) (tIfS tc t u):=by
 intro pins s σ H D e I h;refine wpAny_If (thn (hc.nox pins s σ H _ I h) λd s1 ⟨H1,I1,q1⟩=>?_);cases d with
 | true=>exact ha pins s1 σ H1 D e I1 q1
 | false=>exact hb pins s1 σ H1 D e I1 q1
theorem sr {x:Str}(T:Tie X C none R)(hc:X.calm=true)(hm:X.mg x=some (.ref C))(hq:BQ X.K C bmV "ValueError.__new__" = true){e0:Expr}{v0:V}{np cpos pos:Pos}(ha:PE X.nox e0 (tC v0))
  (hg:Gl X x:=by rfl) (he:zT [e0] X.env=[(false,eval e0 X.env)]:=by rfl) (hdb:(x==("__debug__" : Str))=false:=by decide):PSr X R (.Raise (some (.Call (.Name x np) [e0] [] cpos)) none pos) (tRet (tC .non)):=by
 intro pins s σ H D e I h;obtain⟨tl,N,nm,q,bs,hdct,sn,sub,ab,col,dd,k0,k1,k2,k3,k5,mN,hC,hN,hni,tw⟩:=(wI I.mod.kin hm hq).obj;refine wpAny_Raise_call_subT (k5:=k5) (k3:=k3) (k2:=k2) (k1:=k1) (k0:=k0) (dd:=dd) (col:=col) (ab:=ab) (sub:=sub) (sn:=sn) (hdct:=hdct) (bs:=bs) (N:=N) (q:=q) (nm:=nm) (C:=C) (bm:=tl) (mN:=mN) Cv (tw.hasType (by decide +kernel)) (I.ok.hd hc) (by rw[he];rfl) hni (fH I hg hm ⟨rfl,?_⟩ hdb);rw[he];refine Ck (BY ?_);refine thn (ha.nox pins s σ H (λv H'=>H'=H) I rfl) λu s1 ⟨x,H1,I1,r1,q1⟩=>B6 ?_;subst q1;refine⟨rfl,by show(1:Nat)<=_;decide,I1.bk _ _ hC,hN.keeps I1.bk,tw.keeps I1.bk,λh' a mk=>?_⟩;obtain⟨tt,g1,g2,g3⟩:=mk.there;refine T.run (I1.kept (t':=s1.toks) mk.keeps) ⟨_,_,.none,g1,rfl,rfl,rfl,rfl,I1.back0 T.ex mk.new,?_,.inl rfl⟩ (λ_ z=>nomatch z) ⟨rfl,rfl⟩ (e▸h);cases z:H1 a with
 | none=>rfl
 | some o =>
  obtain⟨u,z'⟩:=I1.hok.get z;rw[mk.new]at z';cases z'
end
theorem PA.nox {X:Cx}{es:List Expr}{t:TA}(h:PA X.nox es t):PA X es t:=λpos pins s σ H Q I hw =>
 z9 (h pos pins s σ H Q (I.wish _) hw) (λ_ _ ⟨xs,H',I',r,q⟩=>⟨xs,H',I'.unwish,r,q⟩) λ_ _ z=>zZ z
def XW (E:XK)(C:Addr)(fn:Option Str):VK:=λv H'=>∀od,Fld H' fn od v->E (odV od) (some C) H'
def spX (C:Addr)(fn:Option Str)(sp:Sp):Sp:=λvs H Q E=>sp vs H (XW E C fn) E
structure OkX (P:wE)(w:z8)(K:ac)(mg:Str->Option bd)(base:Heap)(k:Nat)(x:Str)(ps:List Str)(C:Addr)(fn:Option Str)(sp:Sp):Prop where
 ex:∃f fd,mg x=some (.ref f)/\Bi K (.ref f)=true/\l4 K fd ps []/\FnOk P w K mg base (CX1 P w) k f fd ps (spX C fn sp)
section
variable {P:wE}{w:z8}{K:ac}{mg:Str->Option bd}{base:Heap}{N:List Str}{qual:Str}{scope:AC}{f:Addr}{cd:bd}{A:zX}{outer:List Env}{s0:db}{H0:Hp}{E:XK}{C:Addr}{fn:Option Str}{od:Option Addr}
theorem tie1:Tie (cxOf (CX1 P w) P w K mg base N qual scope f cd A outer s0 H0 E) C fn (XW E C fn):=⟨rfl,λI hot hy hf hr=>yt I hot hy (hr _ hf)⟩
theorem Hot.older {h0 h1 h:Heap}{H:Hp}{e C:Addr}(q:Hot od h1 h H e C)(le:∀b,h1.get? b=none->h0.get? b=none):Hot od h0 h H e C:=by
 obtain⟨oe,vs,hv,a1,a2,a3,a4,a5,a6,a7,a8⟩:=q;refine⟨oe,vs,hv,a1,a2,a3,a4,a5,le _ a6,a7,?_⟩;rcases a8 with z | ⟨T,oT,ts,b1,b2,b3,b4,b5,b6,b7⟩
 ·exact .inl z
 ·exact .inr ⟨T,oT,ts,b1,b2,b3,b4,b5,le _ b6,b7⟩
end
section
variable {X:Cx}{E:XK}{C:Addr}{fn:Option Str}{K:ac}{S:ASp}
theorem wx {R:VK}{body:List Stmt}{t:TS}(h:PSsr X R body t):PSs X body (λ_ σ H=>∃D0:Ends,D0.rt=R/\(∀ σ H,¬D0.nx σ H)/\t D0 σ H):=by
 rintro pins s σ H D I ⟨D0,e,no,ht⟩;refine thn (h pins s σ H D0 e I ht) λfl s' q=>?_;cases fl with
 | next=>obtain⟨σ',H',_,q⟩:=q;exact(no _ _ q).elim
 | ret v=>exact zZ q
 | brk=>exact zZ q
 | cont=>exact zZ q
end
theorem DefN.aokX {P:wE}{w:z8}{K:ac}{mg:Str->Option bd}{base:Heap}{x:Str}{st:Stmt}{N ps:List Str}{k:Nat}{a:AS}(D:DefN K mg x st ps)(Sc:bw N ps (aI st))(pr:Nat->Bool)(us:En)(S:ASp)(C:Addr)(fn:Option Str)(hus:pp (N.length - ps.length) Sv.un=us)
  (hbody:∀(f:Addr) (cdv:bd) (A:zX) (outer:List Env) (s:db) (H:Hp) (E:XK),Room k (A.deeper (Ct x (aI st) s.heap.objs.size f cdv)) ->
   ∃t,PSsr (cxOf (CX1 P w) P w K mg base N x (aI st) f cdv A outer s H E) (XW E C fn) (cv st) t/\TSok K pr t a)
  (hS:∀ss q,S ss q->ss.length=ps.length/\ownB pr ss 0=true/\a ⟨λ_=>False,λr ρ=>(∃d,r = .d d)/\q r (outS ss ρ),λ_=>False,λ_=>False⟩ (ss++us)):OkX P w K mg base (k+1) x ps C fn (spA K S):=by
 have lenOk:∀vs H Q E,spX C fn (spA K S) vs H Q E->vs.length=ps.length:=λvs H Q E h=>by
  obtain⟨ss,Z,q,r,hs',_⟩:=h;have:=r.len;rw[im]at this;rw[this];exact(hS ss q hs').1
 obtain⟨f,fd,hm,F,hb⟩:=D.ex;refine⟨f,fd,hm,F.kp,.all hb,?_⟩;obtain⟨oc,od,kV,doc,pm,an,cdv,ct,osl,rfl,lk,hcd⟩:=F.ex;refine yL lk hcd Sc lenOk λA outer s H vs Q E hr h=>?_;have hl:=lenOk _ _ _ _ h;obtain⟨ss,Z,q,r0,hs',post⟩:=h;obtain⟨h1,h2,h3⟩:=hS ss q hs';obtain⟨t,ht,tok⟩:=hbody f cdv A outer s H E hr;refine⟨_,wx ht,{nx:=λ_ _=>False,rt:=XW E C fn,bk:=λ_ _=>False,ct:=λ_ _=>False},rfl,λ_ _ z=>z,?_⟩;have hp:∀i a,(F0 vs ss H Z).pin i a->pr i=true:=λi a h=>by
  rcases h with h | h
  ·have:=n3 h2 i h.1;rwa [Ba]at this
  ·exact h.elim
 unfold iI;rw[hl];rw[<- hus]at h3;refine tok (F0 vs ss H Z) _ _ H _ _ hp (r0.ext _) h3 ⟨λ_ _ _ z=>z.elim,λ_ _ _ z=>z.elim,λ_ _ _ z=>z.elim,λσ' ρ' rr v H' hq r=>?_⟩;obtain⟨⟨d,e⟩,hq⟩:=hq;subst e;obtain⟨r1,r2⟩:=r;obtain⟨o1,o2,o3⟩:=r0.out r1;exact post (.d d) _ v H' hq o3 (λi z=>nomatch z) ⟨o1,r2.same o2⟩
section
variable {X:Cx}{pins:List (Addr×Obj)}{σ σ1:St}{H H1:Hp}{s s1:db}{h':Heap}{ch:List Addr}{e C:Addr}
theorem Inv.hot (I1:Inv X pins σ1 H1 s1)(I:Inv X pins σ H s)(hx:X.ex=[])(un:Un (frs X.stack) ch H H s.heap h')(hok:HOk X.prog X.w H h')(hch:∀b∈ch,s1.heap.get? b=none):Inv X pins σ H {s with heap:=h'}:=by
 have n0:∀b o,X.s₀.heap.get? b=some o->b∉ch:=λb o q z=>by
  obtain⟨o',q'⟩:=I1.base.there b o q (by rw[hx];simp);rw[hch b z]at q';cases q'
 have nf:∀b o,X.s₀.heap.get? b=some o->b∉X.fs->b∉frs X.stack:=λb o q n z=>by
  rcases wS.mp (I.stkSub b z)with z | z
  ·exact absurd (nw (lc q) I.ok.above) (by rw[z];exact AZ _)
  ·exact n z
 have nx:∀b,b∉X.ex:=λb=>by rw[hx];simp
 obtain⟨m,⟨o,es,ep,ho,r⟩,hl⟩:=id I.loc;have nL:X.env.locals∉ch:=λz=>by
  obtain⟨m1,⟨o1,_,_,ho1,_⟩,_⟩:=id I1.loc;rw[hch _ z]at ho1;cases ho1
 have nC:∀x c,X.env.cells.lookup x=some c->c∉ch:=λx c q z=>by
  obtain⟨v,o1,ho1,_⟩:=I1.cell x c q;rw[hch _ z]at ho1;cases ho1
 have cell:∀ {x c v},X.env.cells.lookup x=some c->s.heap.IsCell c v->Heap.IsCell h' c v:=λ{x c v} q ⟨oc,hoc,hd⟩=>by
  obtain⟨sl,q'⟩:=un.any hoc (I.freeC x c q) (nC x c q);exact⟨_,q',hd⟩
 obtain⟨sl,hL⟩:=un.any ho I.free nL;refine⟨I.ok,I.os,I.bare,⟨λb o q n f _=>?_,λb o q n f _=>?_,λb o q n _=>I.base.free b o q n (nx b),λb o q _=>?_,I.base.tups,I.base.frzs,I.base.tbls⟩,⟨m,⟨_,es,ep,hL,r⟩,λi x v a1 a2 a3=>?_⟩,λx c q=>?_,I.free,I.freeC,λp hp=>?_,hok,I.len⟩
 ·exact un.keep b o (I.base.keep b o q n f (nx b)) (I.base.free b o q n (nx b)) (nf b o q f) (n0 b o q)
 ·obtain⟨sl1,q1⟩:=I.base.slot b o q n f (nx b);obtain⟨sl2,q2⟩:=un.any q1 (I.base.free b o q n (nx b)) (n0 b o q);exact⟨sl2,q2⟩
 ·obtain⟨o',q'⟩:=I.base.there b o q (nx b);exact un.there b o' q' (n0 b o q)
 ·obtain⟨u,ru,lk⟩:=hl i x v a1 a2 a3;refine⟨u,ru,?_⟩;rcases lk with z | ⟨z1,c,z2,z3⟩
  ·exact .inl z
  ·exact .inr ⟨z1,c,z2,cell z2 z3⟩
 ·obtain⟨v,hv⟩:=I.cell x c q;exact⟨v,cell q hv⟩
 ·obtain⟨p1,p2,p3,p4,p5⟩:=I.pin p hp;refine⟨un.keep _ _ p1 p2 (λz=>?_) (λz=>?_),p2,p3,p4,p5⟩
  ·rcases wS.mp (I.stkSub _ z)with z | z
   ·exact p3 z
   ·exact p4 z
  ·have:=(I1.pin p hp).1;rw[hch _ z]at this;cases this
theorem sfI {A:zX}{E:bd->db->Prop}{Q:Unit->db->Prop}{h0:Heap}{od:Option Addr}(I:Inv X pins σ H s)(hot:Hot od h0 s.heap H e C)
  (fin:∀h' ch,(∀b∈ch,h0.get? b=none)->Un (frs X.stack) ch H H s.heap h'->HOk X.prog X.w H h'->(∃oe vs,h'.get? e=some oe/\oe.cls = .ref C/\oe.dict=od/\oe.data = .fields vs)->Q () {s with heap:=h'}) :
  o0 (wn X.prog X.w) A (Cf (.ref e) none) Q E s:=by
 obtain⟨oe,vs,hv,ge,gc,gd,gf,g1,ye,ue,hh⟩:=hot;unfold Cf;refine bn (z6 ge gf g1 ?_);rcases hh with rfl | ⟨T,oT,ts,rfl,nT,gT,fT,t3,yT,uT⟩
 ·rw[if_neg (by decide)];exact ww (fin s.heap [] (λ_ z=>nomatch z) (.kept λ_ _ q=>q) I.hok ⟨oe,vs,ge,gc,gd,gf⟩)
 ·rw[if_pos (by simp:(Value.ref T != Value.none)=true)];refine AM gT fT (Ak.mp t3).1 ?_;have ot:∀b,b≠T->(s.heap.update T (Ag λa=>a.setIfInBounds 3 ((none:Option Addr).elim Value.none λf=>Ae f))).get? b=s.heap.get? b:=λb q=>sB _ _ (AB q);have nin:∀b,b∉[T]->b≠T:=λb q z=>q (by rw[z];exact .head _);refine fin _ [T] (λb z=>by rw[Ac.mp z];exact yT) ⟨λb o q _ _ n=>(ot b (nin b n)).trans q,λb o q _ _ n=>⟨o.slots,(ot b (nin b n)).trans q⟩,λ_ _ _ n _=>n,λb o q n=>⟨o,(ot b (nin b n)).trans q⟩,λ_ _ q=>q,λ_ _ _ q=>q,λb ps q=>⟨#[],by rw[q];simp⟩⟩ (λa o q=>?_) ⟨oe,vs,(ot e nT.symm).trans ge,gc,gd,gf⟩;refine(I.hok a o q).stay (λb u hb z=>(ot b λw=>?_).trans z) (λ_ z=>z) λ_ _ z=>z;subst w;rcases hb with hb | hb
  ·rw[<- hb,uT]at q;cases q
  ·rw[uT]at hb;cases hb
end
def ug (X:Cx)(body:List Stmt)(c:Expr):Prop:=∀(Q:Flow->db->Prop) (E:bd->db->Prop) (pins:List (Addr×Obj)) (σ:St) (H:Hp) (s:db),Inv X pins σ H s->o0 (wn X.prog X.w) X.A (eval c X.env) (λ_ _=>False) E s->o0 (wn X.prog X.w) X.A (execs body X.env) Q E s
section
variable {X:Cx}{K:ac}{S:ASp}
theorem wy {body:List Stmt}{t:TS}{h0:B5}{hs:List B5}{pos:Pos}(h:PSs X.nox body t):PS X (.Try body (h0::hs) [] [] pos) t:=by
 intro pins s σ H D I ht;refine GP (z9 (h pins s σ H D (I.wish _) ht) (λf s1 q=>?_) λ_ _ z=>zZ z);have q':=SP.unwish q;cases f with
 | next=>exact B7 q'
 | ret v=>exact q'
 | brk=>exact q'
 | cont=>exact q'
theorem wz {st:Stmt}{t u:TS}(h1:PS X st t)(h2:PS X st u):PS X st (λD σ H=>t D σ H∨u D σ H):=λpins s σ H D I h=>h.elim (h1 pins s σ H D I) (h2 pins s σ H D I)
end
end L2
namespace L2
open PySem PySem.Spec PyProof.Rows PySem.W
section
variable {K:ac}{pr:Nat->Bool}{t u:TS}{a b:AS}{S:ASp}{ts:TA}{as:AA}{th:Addr->TS}{ah:AS}{i:Nat}
def aOr2 (a b:AS):AS:=λk ρ=>a k ρ∨b k ρ
theorem md (h1:TSok K pr t a)(h2:TSok K pr u b):TSok K pr (λD σ H=>t D σ H∨u D σ H) (aOr2 a b):=λF σ ρ H D e hp r ha k=>ha.elim (λz=>.inl (h1 F σ ρ H D e hp r z k)) λz=>.inr (h2 F σ ρ H D e hp r z k)
end
section
variable {X:Cx}{pins:List (Addr×Obj)}{σ σ1:St}{H H1:Hp}{s s1:db}{h':Heap}{e C:Addr}
def mcx (X:Cx)(e:Addr):Cx:={X with A:=X.A.mark (some (.ref e)),calm:=false,xe:=λ_ _=>False}
theorem Inv.mcx (I:Inv X pins σ H s)(e:Addr):Inv (mcx X e) pins σ H s :=
 ⟨⟨I.ok.mod,I.ok.kind,I.ok.glob,I.ok.blt,I.ok.above,I.ok.inj,I.ok.has,I.ok.cab,λz=>(nomatch z),I.ok.frames,I.ok.stk,I.ok.exf,I.ok.bs,I.ok.bsz,I.ok.noex,I.ok.exfs,I.ok.funs,I.ok.frf⟩,I.os,I.bare,I.base,I.loc,I.cell,I.free,I.freeC,I.pin,I.hok,I.len⟩
end
structure ECls (C:Addr)(h:Heap):Prop where
 obj:∃bm N nm q bs hdct sn sub ab col dd k0 k1 k2 k3 k5,h.get? C=some (BE nm q C N bs bm hdct sn sub ab col dd k0 k1 k2 k3 k5 "ValueError.__new__")/\Dn h bmV bm
def dG (K:ac)(C:Addr):Bool:=match K.lookup C with
 | some ⟨.type "type",_,.cls cd,sl⟩=>(match cd.mro,sl.toList with
  | .ref C'::bm,[_,_,_,_,some (.builtin n),_]=>C'==C&&n == "ValueError.__new__" && !cd.hasDel&&FN K bmV bm
  | _,_=>false)
 | _=>false
theorem ecls {K:ac}{h:Heap}{C:Addr}(KX:K.In h)(q:dG K C=true):ECls C h:=by
 unfold dG at q;split at q;next dd cd sl lk =>
  split at q;next C' bm k0 k1 k2 k3 n k5 em es =>
   simp only[zY,beq_iff_eq,BM]at q;obtain⟨⟨⟨rfl,rfl⟩,nd⟩,tl⟩:=q;obtain⟨a1,a2,a3,a4,a5,a6,a7,a8,a9,a10,a11⟩:=cd;obtain⟨l⟩:=sl;dsimp only at em nd es;subst em nd es;exact⟨bm,a4,a1,a5,a2,a6,a7,a8,a9,a10,dd,k0,k1,k2,k3,k5,KX _ _ lk,Dk KX tl⟩
  ·cases q
 ·cases q
theorem mO {M:Ek}{A:zX}{E:bd->db->Prop}{h:Heap}{g:Array E6}{d:Drawn}{t:Nat}{os:OsState}{e C Dc:Addr}{oe:Obj}{Q:Bool->db->Prop}{b:Bool}
  (oD:ECls Dc h) (ge:h.get? e=some oe) (gc:oe.cls = .ref C) (hs:∀(A':zX) (E':bd->db->Prop) (Q':Bool->db->Prop),Q' b ⟨h,g,d,t,os⟩->o0 M A' (isSubtype (.ref C) (.ref Dc)) Q' E' ⟨h,g,d,t,os⟩)
  (hq:Q b ⟨h,g,d,t,os⟩):o0 M A (excMatches (.ref e) (.ref Dc)) Q E ⟨h,g,d,t,os⟩:=by
 obtain⟨b2,N2,m2,q2,s2,c2,n2,u2,a2,l2,d2,k20,k21,k22,k23,k25,hD,T2⟩:=oD.obj;have hB:(Value.ref Dc::b2).contains (.type "BaseException")=true:=by rw[B0,T2.hasType (b:=true) (by decide +kernel),CF]
 have f:=tc_notTuple;unfold excMatches;repeat (first | (with_reducible refine AQ ge ?_;rw[gc]) | with_reducible refine AQ hD ?_ | (with_reducible refine CP hD ?_;rw[hB]) | wp_step)
 refine hs _ _ _ ?_;cases b with
 | true =>
  repeat wp_step
  exact hq
 | false =>
  repeat wp_step
  exact hq
section
variable {X:Cx}{K:ac}{S:ASp}
def HB (X:Cx)(C:Addr)(od:Option Addr)(hs:List B5)(tH:Addr->TS):Prop :=
 ∀(a:Addr) (D:Ends) (pins:List (Addr×Obj)) (σ:St) (H1 H2:Hp) (s1 s3:db),Inv X pins σ H1 s1->Inv X pins σ H2 s3->Hot od s1.heap s3.heap H2 a C->tH a D σ H2 ->
  o0 (wn X.prog X.w) X.A (handleBy (.ref a) X.env hs) (SP X pins D) X.xe s3
theorem xb {y:Str}{n:Option Str}{C Dc:Addr}{od:Option Addr}{np hpos:Pos}{suite:List Stmt}{rest:List B5}{tH:Addr->TS}
  (hy:X.mg y=some (.ref Dc)) (q2:dG X.K Dc=true) (q3:Ai X.K (.ref C) (.ref Dc)=some false) (hr:HB X C od rest tH) (hgy:Gl X y:=by rfl) (hdy:(y==("__debug__" : Str))=false:=by decide) :
  HB X C od (.ExceptHandler (some (.Name y np)) n suite hpos::rest) tH:=by
 intro a D pins σ H1 H2 s1 s3 I1 I3 hot3 hW;obtain⟨oe3,vs3,hv3,ge3,gc3,gd3,gf3,g13,y3,u3,hh3⟩:=id hot3;refine Gd (FY (fH (I3.mcx a) hgy hy ?_ hdy)) (by intro q;cases q);refine mO (b:=false) (ecls I3.kIn q2) ge3 gc3 (λA' E' Q' q=>(EI I3.kIn q3).at q) ?_;exact hr a D pins σ H1 H2 s1 s3 I1 I3 hot3 hW
theorem oH {y:Str}{C Dc:Addr}{od:Option Addr}{np hpos:Pos}{suite:List Stmt}{b0:Stmt}{rest:List B5}{th:TS}
  (hex:X.ex=[]) (hy:X.mg y=some (.ref Dc)) (q2:dG X.K Dc=true) (q3:Ai X.K (.ref C) (.ref Dc)=some true)
  (hh:∀a,PSs (mcx X a) (b0::suite) th) (hgy:Gl X y:=by rfl) (hdy:(y==("__debug__" : Str))=false:=by decide) :
  HB X C od (.ExceptHandler (some (.Name y np)) none (b0::suite) hpos::rest) (λ_=>th):=by
 intro a D pins σ H1 H2 s1 s3 I1 I3 hot3 hW;obtain⟨oe3,vs3,hv3,ge3,gc3,gd3,gf3,g13,y3,u3,hh3⟩:=id hot3;refine Gd (FY (fH (I3.mcx a) hgy hy ?_ hdy)) (by intro q;cases q);refine mO (b:=true) (ecls I3.kIn q2) ge3 gc3 (λA' E' Q' q=>(EI I3.kIn q3).at q) (codeAny_handlers_suite ?_);refine sfI I3 hot3 λh4 ch4 hch4 un4 hok4 ⟨oe4,vs4,ge4,gc4,gd4,gf4⟩=>?_;have I4:=Inv.hot I1 I3 hex un4 hok4 hch4;refine z9 (hh a pins _ _ _ D (I4.mcx a) hW) (λfl s6 q6=>?_) λ_ _ z=>zZ z;have go:∀ {σ6:St} {H6:Hp},Inv (L2.mcx X a) pins σ6 H6 s6->Inv X pins σ6 H6 s6:=λI6=>⟨I3.ok,I6.os,I6.bare,I6.base,I6.loc,I6.cell,I6.free,I6.freeC,I6.pin,I6.hok,I6.len⟩
 cases fl with
 | next=>obtain⟨σ6,H6,I6,q⟩:=q6;exact⟨σ6,H6,go I6,q⟩
 | brk=>obtain⟨σ6,H6,I6,q⟩:=q6;exact⟨σ6,H6,go I6,q⟩
 | cont=>obtain⟨σ6,H6,I6,q⟩:=q6;exact⟨σ6,H6,go I6,q⟩
 | ret u=>obtain⟨v,σ6,H6,I6,rv,q⟩:=q6;exact⟨v,σ6,H6,go I6,rv,q⟩
theorem nV {k:Nat}{x:Str}{ps:List Str}{C:Addr}{fn:Option Str}{p cpos pos:Pos}{e:Expr}{es:List Expr}{t:TA}{body:List Stmt}{h0:B5}{hs:List B5}{tH:Option Addr->Addr->TS}
  (F:OkX X.prog X.w X.K X.mg X.base k x ps C fn (spA K S)) (hr:Room k X.A) (hc:X.calm=true) (hex:X.ex=[]) (hst:X.stack=X.env::X.outer) (hfr:X.env.frame=some X.env.locals) (ha:PA X.nox (e::es) t)
  (hb1:ug X body (.Call (.Name x p) (e::es) [] cpos)) (hH:∀od,HB X C od (h0::hs) (tH od))
  (hg:Gl X x:=by rfl) (hdb:(x==("__debug__" : Str))=false:=by decide) (he:zT (e::es) X.env=(false,eval e X.env)::zT es X.env:=by rfl) (hpl:(BW cpos (zT es X.env)).any (·.1)=false:=by rfl) :
  PS X (.Try body (h0::hs) [] [] pos) (λD σ H=>t σ H λvs H1=>spA K S (vs++[]) H1 (λv H'=>∀a od,H' a=none->Fld H' fn od v->(∀dx,od=some dx->H1 dx=none)->tH od a D σ H') E0):=by
 intro pins s σ H D I h;obtain⟨f,fd,hm,hk,hb,F⟩:=F.ex;refine GP (hb1 _ _ pins σ H _ I ?_);refine CY (fH I hg hm ?_ hdb);refine EX (h₀:=X.base) I.ok.mod.kin hk (z9 (ha cpos pins s σ H _ (I.wish _) h) (λus s1 ⟨vs,H1,I1w,r,q⟩=>⟨I1w.unwish.kIn,?_⟩) λ_ _ z=>zZ z) he hpl;have I1:=I1w.unwish;have q':spX C fn (spA K S) (vs++[]) H1 (λ_ _=>False) (λu cls H'=>cls=some C/\∃v od,u=odV od/\Fld H' fn od v/\∀a od,H' a=none->Fld H' fn od v->(∀dx,od=some dx->H1 dx=none)->tH od a D σ H'):=by
  obtain⟨ss,Z,q',a1,a2,a3⟩:=q;exact⟨ss,Z,q',a1,a2,λr ss' v H' b1 b2 b3 b4 od hf=>⟨rfl,v,od,rfl,hf,a3 r ss' v H' b1 b2 b3 b4⟩⟩
 have hl:(us++[]).length=ps.length:=by
  rw[<- (r.append (.nil:Vals [] [])).length];exact F.len (vs++[]) H1 _ _ q'
 refine DZ (Dj (F.run X.A X.stack s1 H1 ⟨us,[]⟩ (us++[]) (vs++[]) _ _ hr I1.env0 (hb s1 us I1.kIn hl) (r.append .nil) q') λrr s2 hq=>?_);cases rr with
 | ok fl =>
  cases fl with
  | ret u=>obtain⟨_,_,_,_,_,_,_,z⟩:=hq;exact z.elim
  | next=>exact zZ hq
  | brk=>exact zZ hq
  | cont=>exact zZ hq
 | error ev =>
  obtain⟨a,C',od,H2,rfl,os,bare,un,hok,hot,hyg,hC,v,od',hO,hF,hW⟩:=hq;cases hC
  obtain rfl:od=od':=by
   cases od <;> cases od' <;> first | rfl | cases hO <;> rfl
  have I2:Inv X pins σ H2 s2:=I1.call' os un hok bare λb z=>nomatch z;have sub1:∀b o,s1.heap.get? b=some o->b<s2.heap.objs.size:=λb o q=>by
   obtain⟨o',q'⟩:=un.there b o q λz=>nomatch z
   exact lc q'
  refine lvI I2 hst hfr sub1 hot λh3 ch3 hch3 _ un3 hok3 hot3=>?_;have I3:=Inv.hot I1 I2 hex un3 hok3 λb hb=>(hch3 b hb).1;obtain⟨oe3,vs3,hv3,ge3,gc3,gd3,gf3,g13,y3,u3,hh3⟩:=id hot3;refine hH od a D pins σ H1 H2 s1 _ I1 I3 hot3 (hW a od u3 hF λdx e=>?_);cases z:H1 dx with
  | none=>rfl
  | some o =>
   obtain⟨u,z'⟩:=I1.hok.get z;rw[hyg dx e]at z';cases z'
theorem n4 {n:Str}{c:Expr}{np pos:Pos}(hs:Cr c (some (.Name n np)) pos.line X.env=pure false:=by rfl):ug X [.Assign [.Name n np] c pos] c:=λQ E pins σ H s I h =>
 Df (Ef (thn h λ_ _ z=>z.elim) hs)
end
section
variable {X:Cx}{R:VK}{E:XK}{C:Addr}{fn:Option Str}{K:ac}{S:ASp}
theorem vo {st:Stmt}{t u:TS}(h1:PSr X R st t)(h2:PSr X R st u):PSr X R st (λD σ H=>t D σ H∨u D σ H):=λpins s σ H D e I h=>h.elim (h1 pins s σ H D e I) (h2 pins s σ H D e I)
end
section
variable {K:ac}{pr:Nat->Bool}{F:Fr}{σ:St}{ρ:En}{H:Hp}{th:TS}{ah:AS}{S:ASp}{ts:TA}{as:AA}{ta:TE}{a:AE}
def zw (ca:AE)(ah:R->AS):AS:=λk ρ=>ca ρ λr ρ1=>ah r k ρ1
theorem kX {fn:Option Str}{tH:Option Addr->Addr->TS}{aH:R->AS}(ht:TAok K ts as)
  (hh:∀(F:Fr) (σ:St) (ρ:En) (H1 H':Hp) (D:Ends) (k:nA) (r:R) (v:V) (a:Addr) (od:Option Addr),(∀i a,F.pin i a->pr i=true)->Rel K F σ ρ H'->InF K F σ ρ H' v r.frz->aH r k ρ->u_ K F D k->H' a=none->Fld H' fn od v->(∀dx,od=some dx->¬hs F σ ρ dx)->tH od a D σ H') :
  TSok K pr (λD σ H=>ts σ H λvs H1=>spA K S (vs++[]) H1 (λv H'=>∀a od,H' a=none->Fld H' fn od v->(∀dx,od=some dx->H1 dx=none)->tH od a D σ H') E0) (zw (za S as) aH):=by
 intro F σ ρ H D k hp r ha ko;refine ht F σ ρ H _ _ r ha λrs ρ1 vs H1 h1 r1 i1 k1=>?_;obtain⟨hd,hS⟩:=h1;have s:=i1.srcs;rw[Bo];refine⟨rs.map (dg ρ1),(fZ F σ ρ1 H1 (vs.map some) (rs.map (dg ρ1))).Z,_,r1.sub s hd,hS,λrr ss' v H' hq sb no out a od hn hf hdx=>?_⟩;have o:Out K F σ ρ1 H1 (back ρ1 rs ss') v H' rr:=by
  cases rr with
  | o i=>exact absurd rfl (no i)
  | d d =>
   obtain⟨a,b⟩:=out;obtain⟨x,y,z⟩:=r1.back s hd a sb;exact⟨x,y,RepD.same b z⟩
  | x sv =>
   obtain⟨a,b,c⟩:=out;obtain⟨x,y,z⟩:=r1.back s hd a sb;exact⟨x,y,b,c.keep z λl o ho=>by rw[b]at ho;cases ho⟩
  | t n =>
   obtain⟨a,b⟩:=out;obtain⟨x,y,z⟩:=r1.back s hd a sb;exact⟨x,y,b⟩
  | n sv =>
   obtain⟨Hb,l,o,a,b,c,e1,e2,e3⟩:=out;obtain⟨x,y,z⟩:=r1.back s hd a sb;exact⟨Hb,l,o,x,y,b,c.keep z λ_ _ _ _ e=>e,e1,e2,e3⟩
 obtain⟨r',k',i'⟩:=o.inF;refine hh F σ _ H1 H' D k rr v a od hp r' i' hq ko hn hf λdx e z=>?_;rcases z with z | z
 ·exact(r1.zl dx z).1 (hdx dx e)
 ·exact dE r1 (k'.so z) (hdx dx e)
theorem jM {fn:Option Str}(hh:TSok K pr th ah) :
  ∀(F:Fr) (σ:St) (ρ:En) (H1 H':Hp) (D:Ends) (k:nA) (r:R) (v:V) (a:Addr) (od:Option Addr),(∀i a,F.pin i a->pr i=true)->Rel K F σ ρ H'->InF K F σ ρ H' v r.frz->(λ_=>ah) r k ρ->u_ K F D k->H' a=none->Fld H' fn od v->(∀dx,od=some dx->¬hs F σ ρ dx)->(λ(_:Option Addr) (_:Addr)=>th) od a D σ H' :=
 λF σ ρ H1 H' D k r v a od hp r' i' z ko hn hf hd=>hh F σ ρ H' D k hp r' z ko
end
end L2
namespace L2
open PySem PySem.Spec PyProof.Rows Builtin
end L2
namespace L2
open PySem PySem.Spec PyProof.Rows
def Itw (K:ac)(l:Addr)(n:Nat):It :=
 ⟨λi H=>∃xs x,SqL K H l xs/\xs.length=n/\i<n/\xs[n - 1 - i]? = some x,λi H x H'=>H'=H/\∀xs,SqL K H l xs->xs[n - 1 - i]? = some x,λi H=>n<=i⟩
theorem um {P:wE}{w:z8}{K:ac}{tg:Expr}(a it:Addr)(n:Nat):Turn P w K tg (Itw K a n) [it] it (λi h=>i<=n/\h.IsRevIter it a ((n:Int) - 1 - (i:Int))) where
 mem:=by simp
 obj:=λi h st b hb=>by
  have e:b=it:=by simpa using hb
  subst e;obtain⟨_,o,e,c,d⟩:=st;exact⟨o,e,λv z=>by rw[d]at z;cases z⟩
 keep:=λi h h' st k=>⟨st.1,st.2.at λo e=>k it (by simp) o e⟩
 item:=by
  intro X hP hw hK hc i pins s σ H E I hf st hg;subst hP hw hK;obtain⟨xs,x,hq,hn,hi,hx⟩:=hg;obtain⟨its,rv,p,hz⟩:=I.list hq;obtain⟨u,hu,ru⟩:=rv.get hx;obtain⟨f0,f1,f2,f3,f4,f5⟩:=hf it (by simp);have st2:=st.2;rw[show(n:Int) - 1 - (i:Int)=((n - 1 - i:Nat):Int)by omega]at st2;refine wpAny_pyNext_rev_item st2 p.isList (x:=u) (by simpa using hu) λh' st' sb=>?_;have I1:Inv X pins σ H {s with heap:=h'}:=I.turned (t':=s.toks) (λb o hb e=>(sb.2 b hb).trans e) f0 f1 f3 f4 f5;rw[show((n - 1 - i:Nat):Int) - 1=(n:Int) - 1 - ((i+1:Nat):Int)by omega]at st';obtain⟨o,e,c,d⟩:=id st';exact⟨u,rfl,tf (s:={s with heap:=h'}) e c d (by decide) ⟨x,H,I1,ru,⟨rfl,λys hy=>by rw[I.list_inj hy hq];exact hx⟩,⟨by omega,st'⟩,λb hb=>(hf b hb).1⟩⟩
 done:=by
  intro X hP hw hK hc i pins s σ H E I hf st hg;subst hP hw hK;obtain⟨f0,f1,f2,f3,f4,f5⟩:=hf it (by simp);have hg':n<=i:=hg;have st2:=st.2;have st1:=st.1;rw[show(n:Int) - 1 - (i:Int) = -1 by omega]at st2;exact wpAny_pyNext_rev_end (I.ok.hd hc) st2 λh' eb=>⟨rfl,I.turned (t':=s.toks) (λb o hb e=>eb b o hb e) f0 f1 f3 f4 f5⟩
 self:=λ_ _ _ _ _ st h=>F4 st.2 h
def iRev (K:ac)(t:TA):TI:=λσ H R=>t σ H λvs H1=>∃l xs,vs=[.ref l]/\SqL K H1 l xs/\R (Itw K l xs.length) H1
theorem sy (K:ac){X:Cx}{tg:Expr}{a:Expr}{ta:TA}{p pos:Pos}(hg:Gl X "reversed")(hm:X.mg "reversed" = none)(ha:PA X [a] ta)(hK:X.K=K:=by rfl)(hs:zT [a] X.env=[(false,eval a X.env)]:=by rfl) :
  PI X tg (.Call (.Name "reversed" p) [a] [] pos) (iRev K ta):=by
 subst hK;intro pins s σ H R I h;refine Gc (gn I hg hm jO (An (thn (ha pos pins s σ H _ I h) λus s1 ⟨vs,H1,I1,r1,q1⟩=>?_) hs rfl));obtain⟨l,xs,rfl,h1,q⟩:=q1;obtain⟨u,rfl,ru⟩:=kN r1;cases ru
 obtain⟨its,rv,p1,_⟩:=I1.list h1;have hl:=rv.length;refine call_reversed_list p1.isList ?_;have it:Heap.IsRevIter (s1.heap.push (revObj l ((its.toArray.size:Int) - 1))) s1.heap.objs.size l ((xs.length:Int) - 1 - ((0:Nat):Int)):=⟨_,wP _ rfl,rfl,by rw[li,<- hl];simp[revObj]⟩
 refine F4 it ?_;refine⟨s1.heap.objs.size,[s1.heap.objs.size],_,_,H1,rfl,I1.kept (t':=s1.toks) λb o e=>dL _ e,um l _ xs.length,⟨zS _,it⟩,λb hb=>?_,q⟩;have e:b=s1.heap.objs.size:=by simpa using hb
 subst e;exact I1.fpOk (lm _) (I1.hok.fresh (lm _))
section
variable {K:ac}{ts:TA}{as:AA}
theorem xG {S:Addr->Prop}{H:Hp}{a:Addr}{vs:List V}{ds:List D}(h:SqL K H a vs)(rd:RepDs K (hid H S) vs ds):WkAt K S H (Itw K a vs.length) ds.reverse:=by
 have hl:=rd.length;intro k;constructor
 ·intro d e;have hk:k<ds.length:=by
   have:=(kt.mp e).1;rwa [AN]at this
  rw[BJ hk]at e;obtain⟨v,e1,rv⟩:=rd.get e;rw[<- hl]at e1;refine⟨⟨vs,v,h,rfl,by omega,e1⟩,λx H' z=>⟨z.1▸Same.refl H,?_⟩⟩;have:=z.2 vs h;rw[e1]at this;cases this;rw[z.1];exact rv
 ·intro z;rw[AN]at z;show vs.length<=k;omega
theorem ri {pin:Nat->Bool}{ρ:En}{r:R}{ds:List D}{c:En->Prop}(e:nB pin ρ r=some (ds,c)):c ρ:=by
 cases r with
 | n s=>cases e
 | t n=>cases e
 | x n=>cases e
 | d d =>
  cases d with
  | lst es=>simp only[nB,AV,Dg]at e;rw[<- e.2];trivial
  | _=>cases e
 | o i =>
  unfold nB at e;cases hg:gt ρ i with
  | ow es =>
   simp only[hg]at e;split at e
   ·simp only[AV,Dg]at e;rw[<- e.2];exact hg
   ·cases e
  | _=>simp[hg]at e
def aRvd (pin:Nat->Bool)(as:AA):AI:=λρ q=>as ρ λrs ρ1=>match rs with
 | [r1]=>(match nB pin ρ1 r1 with
  | some (ds,c)=>q ds.reverse c ρ1
  | _=>False)
 | _=>False
theorem kU {pin:Nat->Bool}(h:TAok K ts as):TIok K pin (iRev K ts) (aRvd pin as):=by
 intro F σ ρ H q Rk r ha k;refine h F σ ρ H _ _ r ha λrs ρ1 vs H1 h1 r1 i1 k1=>?_;split at h1
 ·obtain⟨x,rfl,ix⟩:=i1.one;split at h1
  ·rename_i ds c e1;obtain⟨l1,us1,rfl,s1,w1⟩:=uk r1 ix e1;obtain⟨v0,z0,rd0⟩:=w1 σ ρ1 H1 (Same.refl _) r1.sl (λ_ _ _ e=>e) (ri e1);refine⟨l1,v0,rfl,z0,k _ _ _ _ _ h1 r1 k1 λσ2 ρ2 H2 sm sv pn al hc=>?_⟩;obtain⟨v1,z1,rd1⟩:=w1 σ2 ρ2 H2 sm sv pn hc;have:=xG z1 rd1;rw[rd1.length,<- rd0.length]at this;exact this
  ·exact h1.elim
 ·exact h1.elim
end
theorem jF {prog:wE}{w:z8}{A:zX}(hh:A.handled=none)(it l:Addr)(hne:l≠it)(xs:Array bd) :
  GN prog w A it [it,l] xs.size (λi v=>xs[i]? = some v) (λi h=>h.IsTupleIter it l i/\h.IsTuple l xs) where
 live:=λ_ _ st=>let ⟨o,ho,_⟩:=st.1;⟨o,ho⟩
 frame:=λ_ _ _ st hk=>(lM (prog:=prog) (w:=w) hne).keep _ _ _ st λb o hb e=>hk b hb o e
 item:=λi s Q E hi st hQ=>(lM hne).item A i s xs[i] Q E st (by simp[hi]) λh' st' sb=>hQ _ h' s.toks (by simp[hi]) st' sb
 done:=λs Q E st hE=>(lM hne).fin A xs.size s Q E hh st (by simp) hE
open AutoSeq1 (wpAny_loadPart') in
theorem oC (l:Addr)(xs:Array bd) :
  Meets (Builtin.«enumerate.__new__» ⟨[.type "enumerate",.ref l],[]⟩) (λ_ R s=>s.heap.IsTuple l xs /\
   R (.ok (.ret (.ref (s.heap.push {cls:=.type "tuple_iterator",data:=.fields #[.ref l,.int 0 0]}).objs.size)))
    {s with heap:=(s.heap.push {cls:=.type "tuple_iterator",data:=.fields #[.ref l,.int 0 0]}).push {cls:=.type "enumerate",data:=.fields #[.none,.bool false,.ref s.heap.objs.size,Ae 0,.none,.none]}}) :=
 .of_wp λprog w A R s h=>by
  obtain⟨hp,g,d,tk,os⟩:=s;obtain⟨hl,h⟩:=h;have hsub:=sub_enumerate;have hL:Heap.IsTuple (Shared.heap ⟨hp,g,d,tk,os⟩) l xs:=hl
  wp_walk
  refine wpAny_stack_any λst=>ww ?_;split
  ·rename_i c _ _ _ _ _;cases (c==Value.type "enumerate")
   ·wp_walk using CW hL
    exact⟨_,rfl,h⟩
   ·wp_walk using CW hL
    exact⟨_,rfl,h⟩
  ·wp_walk using CW hL
   exact⟨_,rfl,h⟩
theorem kL {prog:wE}{w:z8}{A:zX}{E:bd->db->Prop}{s:db}{l:Addr}{xs:Array bd}{Q:bd->db->Prop}(hL:s.heap.IsTuple l xs)
  (h:∀h',E5 h' (s.heap.objs.size+1) s.heap.objs.size 0 .none->h'.IsTupleIter s.heap.objs.size l 0->h'.objs.size=s.heap.objs.size+2 ->
   (∀b o,s.heap.get? b=some o->h'.get? b=some o)->Q (.ref (s.heap.objs.size+1)) {s with heap:=h'}) :
  o0 (wn prog w) A (call (.type "enumerate") [.ref l]) Q E s:=by
 refine callType_new F.called_enumerate (by decide) (F.typeCall_enumerate_1 _) (F.newCall_enumerate_1 _) (λobj=>F.args_object_init_2 obj _) F.entry_enumerate_new
  (oC l xs) ⟨hL,?_⟩
 have hz:(s.heap.push {cls:=.type "tuple_iterator",data:=.fields #[.ref l,.int 0 0]}).objs.size=s.heap.objs.size+1:=A2 ..;show _/\_;rw[hz];have he:E5 ((s.heap.push {cls:=.type "tuple_iterator",data:=.fields #[.ref l,.int 0 0]}).push
   {cls:=.type "enumerate",data:=.fields #[.none,.bool false,.ref s.heap.objs.size,Ae 0,.none,.none]}) (s.heap.objs.size+1) s.heap.objs.size 0 .none:=by
  have:=wP (s.heap.push {cls:=.type "tuple_iterator",data:=.fields #[.ref l,.int 0 0]})
   (o:={cls:=.type "enumerate",data:=.fields #[.none,.bool false,.ref s.heap.objs.size,Ae 0,.none,.none]}) rfl
  rw[hz]at this;exact this
 refine⟨⟨_,he,rfl⟩,h _ he ⟨_,dL _ (wP _ rfl),rfl,rfl⟩ (by rw[A2,hz]) λb o x=>dL _ (dL _ x)⟩
def Itf (K:ac)(l:Addr)(n:Nat):It :=
 ⟨λi H=>∃xs x,SqT K H l xs/\xs.length=n/\xs[i]? = some x,λi H v H'=>∃p x,v = .ref p/\H p=none/\H'=upd H p (.tup [.int (i:Nat),x])/\∀xs,SqT K H l xs->xs[i]? = some x,
  λi H=>n<=i/\∃xs,SqT K H l xs/\xs.length=n⟩
theorem qo {P:wE}{w:z8}{K:ac}{elts:List Expr}{x1}{tpos:Pos}{e it l:Addr}{n:Nat}(ne:e≠it)(nl:l≠it)(nel:e≠l) :
  Turn P w K (.Tuple elts x1 tpos) (Itf K l n) [e,it] e (λi h=>((∃old,E5 h e it (i:Nat) old)/\h.IsTupleIter it l i)/\i<=n) where
 mem:=by simp
 obj:=λi h st b hb=>by
  obtain⟨⟨⟨old,he⟩,⟨o1,e1,c1,d1⟩⟩,_⟩:=st;simp only[wS,A6,or_false]at hb;rcases hb with rfl | rfl
  ·exact⟨_,he,λv q=>by cases q⟩
  ·exact⟨o1,e1,λv q=>by rw[d1]at q;cases q⟩
 keep:=λi h h' st k=>by
  obtain⟨⟨⟨old,he⟩,h1⟩,hi⟩:=st;exact⟨⟨⟨old,k e (by simp) _ he⟩,h1.at λo q=>k it (by simp) o q⟩,hi⟩
 item:=by
  intro X hP hw hK hc i pins s σ H E I hf st hg;subst hP hw hK;obtain⟨xs,x,q1,hln,hx⟩:=hg;obtain⟨⟨⟨old,he⟩,h1⟩,hin⟩:=st;obtain⟨its,rv,p1,_⟩:=I.tuple q1;have hxi:=(kt.mp hx).1;obtain⟨u,hu,ru⟩:=rv.get hx;have hlt:i<its.toArray.size:=by rw[li];exact(kt.mp hu).1
  refine Fs (jF (show X.A.in1.handled=none from I.ok.hd hc) it l nl its.toArray) he ⟨h1,p1⟩ hlt ne (by simp[ne,nel]) λy h' tk hy a1 a2 a3 a4 hk=>?_;have ey:y=u:=by
   have hy':its[i]? = some y:=by simpa using hy
   rw[hu]at hy';cases hy';rfl
  subst ey;refine⟨_,rfl,wpAny_letOwnedTupleGo_enum (s:={s with heap:=h',toks:=tk+1}) a1 λh2' he' hs'=>?_⟩;have hs2:AF e h' h2':=hs';have ls:∀ {b o},s.heap.get? b=some o->b≠s.heap.objs.size:=λe=>zM (lc e);have es:e≠s.heap.objs.size:=ls he;have up:∀b o,b∉[e,it]->s.heap.get? b=some o->h2'.get? b=some o:=λb o hb q=>by
   simp only[wS,A6,or_false,not_or]at hb;exact(hs2.2 b hb.1).trans (hk b o hb.1 hb.2 q)
  have I1:Inv X pins σ H {s with heap:=h2',toks:=tk+1}:=I.turns (t':=tk+1) up hf;have fp:FpOk X pins H s.heap.objs.size:=I.fpOk (lm _) (I.hok.fresh (lm _));have g:h2'.get? s.heap.objs.size=some {cls:=.type "tuple",data:=.seq #[.int i tk,y]}:=(hs2.2 _ (AB es)).trans a3;have I2:=I1.trackO (o:=.tup [.int (i:Nat),x]) fp ⟨by show 2<=xz;decide,[.int i tk,y],.cons ⟨_,rfl⟩ (.cons ru .nil),_,g,rfl,_,rfl⟩;refine⟨.ref s.heap.objs.size,upd H s.heap.objs.size (.tup [.int (i:Nat),x]),I2,rfl,⟨_,x,rfl,fp.1,rfl,λzs hz=>by rw[I.tuple_inj hz q1];exact hx⟩,?_,λb hb=>?_⟩
  ·refine⟨⟨⟨y,by simpa using he'⟩,?_⟩,by omega⟩;obtain⟨o,q,r⟩:=a2.1;exact⟨o,(hs2.2 it (AB ne)).trans q,r⟩
  ·have hb':=(hf b hb).1;have ne':b≠s.heap.objs.size:=by
    obtain⟨o1,e1,_⟩:=h1;simp only[wS,A6,or_false]at hb;rcases hb with rfl | rfl
    ·exact ls he
    ·exact ls e1
   rw[aW ne'];exact hb'
 done:=by
  intro X hP hw hK hc i pins s σ H E I hf st hg;subst hP hw hK;obtain⟨hni,xs,q1,hl⟩:=hg;obtain⟨⟨⟨old,he⟩,h1⟩,hin⟩:=st;obtain⟨its,rv,p1,_⟩:=I.tuple q1;have l1:=rv.length;have ei:i=its.toArray.size:=by rw[li];omega
  subst ei;refine FH (jF (show X.A.in1.handled=none from I.ok.hd hc) it l nl its.toArray) he ⟨h1,p1⟩ λh' hk=>⟨rfl,I.turns (ch:=[e,it]) (t':=s.toks) (λb o hb q=>?_) hf⟩
  simp only[wS,A6,or_false,not_or]at hb;exact hk b o hb.2 q
 self:=λ_ _ _ _ _ st h=>by obtain⟨⟨⟨old,he⟩,_⟩,_⟩:=st;exact Ed he h
def vE (K:ac)(t:TA):TI:=λσ H R=>t σ H λvs H1=>∃l xs,vs=[.ref l]/\SqT K H1 l xs/\R (Itf K l xs.length) H1
theorem pG (K:ac){X:Cx}{elts:List Expr}{x1}{tpos:Pos}{a:Expr}{ta:TA}{p pos:Pos}(hg:Gl X "enumerate")(hm:X.mg "enumerate" = none)(ha:PA X [a] ta)(hK:X.K=K:=by rfl)(hs:zT [a] X.env=[(false,eval a X.env)]:=by rfl) :
  PI X (.Tuple elts x1 tpos) (.Call (.Name "enumerate" p) [a] [] pos) (vE K ta):=by
 subst hK;intro pins s σ H R I h;refine Gc (gn I hg hm iG (An (thn (ha pos pins s σ H _ I h) λus s1 ⟨vs,H1,I1,r1,q1⟩=>?_) hs rfl));obtain⟨l,xs,rfl,h1,q⟩:=q1;obtain⟨u,rfl,ru⟩:=kN r1;cases ru
 obtain⟨its,_,p1,_⟩:=I1.tuple h1;have lt:l<s1.heap.objs.size:=by obtain⟨o,e,_⟩:=id p1;exact lc e
 refine kL p1 λh' he hi hsz hk=>?_;refine Ed he ?_;refine⟨_,_,_,_,H1,rfl,I1.kept (t':=s1.toks) hk,qo (show s1.heap.objs.size+1≠s1.heap.objs.size by omega) (zM lt) (AB (zM (DO lt))),⟨⟨⟨_,he⟩,hi⟩,zS _⟩,λb hb=>?_,q⟩;have le:s1.heap.objs.size<=b:=by
  simp only[wS,A6,or_false]at hb;rcases hb with rfl | rfl <;> omega
 exact I1.fpOk le (I1.hok.fresh le)
section
variable {K:ac}{ts:TA}{as:AA}
theorem ui {S:Addr->Prop}{H:Hp}{l:Addr}{vs:List V}{ds:List D}(al:∀a,S a->H a≠none)(h1:SqT K H l vs)(r1:RepDs K (hid H S) vs ds):WkAt K S H (Itf K l vs.length) (iq 0 ds):=by
 intro k;constructor
 ·intro d e;obtain⟨x,ex,rfl⟩:=dH e;rw[Ba];obtain⟨v,e1,rv⟩:=r1.get ex;refine⟨⟨vs,v,h1,rfl,e1⟩,λz H' ⟨p,a,ez,hp,eH,ha⟩=>?_⟩;have a1:=ha vs h1;rw[e1]at a1;cases a1
  subst eH ez;have sm:Same H (upd H p (.tup [.int (k:Nat),v])):=(Same.refl H).new hp;have sm':Same (hid H S) (hid (upd H p (.tup [.int (k:Nat),v])) S):=bP λa o e n=>⟨sm a o e,n⟩
  refine⟨sm,?_⟩;unfold RepD;exact⟨p,[.int (k:Nat),v],rfl,(eB (λz=>al p z hp) bh),.cons (by unfold RepD;rfl) (.cons (rv.same sm') .nil)⟩
 ·intro z;rw[bL]at z;exact⟨by rw[r1.length];exact z,vs,h1,rfl⟩
def y9 (as:AA):AI:=λρ q=>as ρ λrs ρ1=>match rs with
 | [.d (.tup ds)]=>q (iq 0 ds) (λ_=>True) ρ1
 | _=>False
theorem kg {pin:Nat->Bool}(h:TAok K ts as):TIok K pin (vE K ts) (y9 as):=by
 intro F σ ρ H q Rk r ha k;refine h F σ ρ H _ _ r ha λrs ρ1 vs H1 h1 r1 i1 k1=>?_;split at h1
 ·rename_i ds;obtain⟨x,rfl,ix⟩:=i1.one;have rd:RepD K _ x (.tup ds):=ix;unfold RepD at rd;obtain⟨a,vs,rfl,sq,rd⟩:=rd;refine⟨a,vs,rfl,bW.seqT sq.sq,k _ _ _ _ _ h1 r1 k1 λσ2 ρ2 H2 sm sv pn al hc=>?_⟩;exact ui (λa z=>(al a z).1) (bW.seqT (sm.seqT sq.sq)) (rd.same sm)
 ·exact h1.elim
end
end L2
namespace L2
open PySem PySem.Spec PyProof.Rows PySem.W
section
variable {prog:wE}{w:z8}{A:zX}{E:bd->db->Prop}{h:Heap}{g:Array E6}{d:Drawn}{t:Nat}{os:OsState}
variable {nm q:Str}{C N:Addr}{bs bm bmB:List bd}{hdct:Bool}{sn:List Str}{sub:List bd}{ab:Bool}{col:Option Bool}{dd:Option Addr}{k0 k1 k2 k3 k5:Option bd}{B newId initId:String}
theorem jT (F:FV B newId initId bmB)(T:Dn h bmB bm){mN:Str->Option bd}{rest:List bd}{fI:Addr}{oI:Obj}{Q:Fin->db->Prop}
  (hC:h.get? C=some (BE nm q C N bs bm hdct sn sub ab col dd k0 k1 k2 k3 k5 newId)) (hn:h.Ns N mN) (hi:mN "__init__" = some (.ref fI)) (hfI:h.get? fI=some oI) (hfc:oI.cls = .type "function")
  (hq:∀h' e,Ep h h' e (.ref C) rest->o0 (wn prog w) A (call (.ref fI) (.ref e::rest)) (λr s'=>r = .none/\Q (.done (.ret (.ref e))) s') E ⟨h',g,d,t,os⟩) (hrest:rest.length<=xz) :
  o0 (wn prog w) A (Builtin.«type.__call__» ⟨.ref C::rest,[]⟩) Q E ⟨h,g,d,t,os⟩:=by
 repeat (first | with_reducible refine AQ hC ?_ | with_reducible refine wpAny_madeBy_exc hC ?_ | wp_step)
 refine codeAny_call_builtin_code (FF _ F.quiet) (wpAny_check_new_subT F T hC ?_);refine codeAny_exc_new_subT F T hC ?_ hrest;show o0 _ _ _ _ _ _;have hC₁:=dL {cls:=.ref C,data:=.fields #[.ref h.objs.size,.none,.none,.none,.bool false,.none]}
  (dL {cls:=.type "tuple",data:=.seq rest.toArray} hC)
 have hfI₁:=dL {cls:=.ref C,data:=.fields #[.ref h.objs.size,.none,.none,.none,.bool false,.none]}
  (dL {cls:=.type "tuple",data:=.seq rest.toArray} hfI)
 have hn₁:((h.push {cls:=.type "tuple",data:=.seq rest.toArray}).push {cls:=.ref C,data:=.fields #[.ref h.objs.size,.none,.none,.none,.bool false,.none]}).Ns N mN :=
  let ⟨o,es,ep,e,r⟩:=hn;⟨o,es,ep,dL _ (dL _ e),r⟩
 have hget:((h.push {cls:=.type "tuple",data:=.seq rest.toArray}).push
   {cls:=.ref C,data:=.fields #[.ref h.objs.size,.none,.none,.none,.bool false,.none]}).get? (h.objs.size+1)=some
   {cls:=.ref C,data:=.fields #[.ref h.objs.size,.none,.none,.none,.bool false,.none]}:=by heap_get
 have hcC:(Value.ref C::bm).contains (.ref C)=true:=by simp
 have T₁:=T.keeps (h':=(h.push {cls:=.type "tuple",data:=.seq rest.toArray}).push {cls:=.ref C,data:=.fields #[.ref h.objs.size,.none,.none,.none,.bool false,.none]})
  λb o e=>dL _ (dL _ e)
 unfold isInstance;repeat (first | with_reducible refine AQ hget ?_ | (with_reducible refine CP hC₁ ?_;rw[hcC]) | wp_step)
 show o0 _ _ (D1 (.ref C) _) _ _ _;refine wpAny_typeLookup_tail hC₁ hn₁ T₁ F.mroIs F.init.lookup ?_;rw[hi];refine DQ (bn ?_);unfold bindSpecial;refine bn (wpAny_typeOf (T := "function") ⟨_,hfI₁,hfc⟩ ?_);rw[if_pos (by decide)];refine ww (bn (z9 (hq _ (h.objs.size+1) ⟨λb o hb=>dL _ (dL _ hb),BN (G7 _),h.objs.size,hget,BN (lm _),?_⟩) (λr s' hr=>?_) λ_ _ x=>x))
 ·exact dL _ (FT rfl rfl)
 ·obtain⟨rfl,hQ⟩:=hr
  wp_walk
  exact hQ
theorem tT (F:FV B newId initId bmB)(T:Dn h bmB bm){mN:Str->Option bd}{rest:List bd}{fI:Addr}{oI:Obj}{Q:bd->db->Prop}
  (hC:h.get? C=some (BE nm q C N bs bm hdct sn sub ab col dd k0 k1 k2 k3 k5 newId)) (hn:h.Ns N mN) (hi:mN "__init__" = some (.ref fI)) (hfI:h.get? fI=some oI) (hfc:oI.cls = .type "function")
  (hq:∀h' e,Ep h h' e (.ref C) rest->o0 (wn prog w) (A.under (.builtin "type.__call__" ⟨.ref C::rest,[]⟩)) (call (.ref fI) (.ref e::rest)) (λr s'=>r = .none/\Q (.ref e) s') E ⟨h',g,d,t,os⟩) (hrest:rest.length<=xz) :
  o0 (wn prog w) A (call (.ref C) rest) Q E ⟨h,g,d,t,os⟩:=by
 have f1:=tc_lookup;have f2:=tc_bind (.ref C);have hT:(⟨h,g,d,t,os⟩:db).TypeIs (.ref C) "type" := ⟨_,hC,rfl⟩
 refine DZ (GZ ?_);show o0 _ _ (callAny (.ref C) _) _ _ _;repeat (any_goals (first | assumption | with_reducible refine AQ hC ?_ | wp_step))
 refine⟨rfl,?_⟩;refine codeAny_call_builtin_at (FF _ (by decide +kernel)) entry_typeCall (wpAny_check_type_call_sub hC (jT (hrest:=hrest) F T hC hn hi hfI hfc λh' e hm=>?_));exact hq h' e hm
end
section
variable {M:Ek}{A:zX}{E:bd->db->Prop}{env:Env}
variable {nm q:Str}{C N:Addr}{bs bm:List bd}{hdct:Bool}{sn:List Str}{sub:List bd}{ab:Bool}{col:Option Bool}{dd:Option Addr}{k0 k1 k2 k3 k5:Option bd}{newId:String}
theorem jU {s:db}{x:Sem bd}{Q:Flow->db->Prop}(hbase:bm.contains (.type "BaseException")=true)(hh:A.handled=none)
  (h:o0 M A x (λv s₁=>∃e t od,v = .ref e/\s₁.heap.get? C=some (BE nm q C N bs bm hdct sn sub ab col dd k0 k1 k2 k3 k5 newId) /\
   s₁.heap.get? e=some {cls:=.ref C,dict:=od,data:=.fields #[.ref t,.none,.none,.none,.bool false,.none]}/\E (.ref e) s₁) E s) :
  o0 M A (raiseStmt env (some x) none) Q E s:=by
 have hcB:(Value.ref C::bm).contains (.type "BaseException")=true:=by rw[B0,hbase,CF]
 unfold raiseStmt;refine bn (z9 h (λv s₁ h₁=>?_) λ_ _ x=>x);obtain⟨e,t,od,rfl,hC,he,hE⟩:=h₁;obtain⟨hp,g,d,tk,os⟩:=s₁;repeat (first | with_reducible refine AQ he ?_ | with_reducible refine AQ hC ?_ | (with_reducible refine CP hC ?_;rw[hcB]) | wp_step)
 exact wpAny_raiseNew_none hh hE
end
section
variable {prog:wE}{w:z8}{A:zX}{E:bd->db->Prop}{s:db}{env:Env}
variable {nm q:Str}{C N:Addr}{bs bm bmB:List bd}{hdct:Bool}{sn:List Str}{sub:List bd}{ab:Bool}{col:Option Bool}{dd:Option Addr}{k0 k1 k2 k3 k5:Option bd}{B newId initId:String}
theorem jR (F:FV B newId initId bmB){mN:Str->Option bd}{x:Str}{np cpos pos:Pos}{args:List Expr}{Q:Flow->db->Prop}{fI:Addr}{oI:Obj}
  (hbase:bm.contains (.type "BaseException")=true) (hh:A.handled=none) (hplain:(BW cpos (zT args env)).any (·.1)=false) (hi:mN "__init__" = some (.ref fI)) (hfc:oI.cls = .type "function")
  (h:o0 (wn prog w) A (eval (.Name x np) env) (λf s₁=>f = .ref C/\o0 (wn prog w) A (evalArgs (.ref C) true (BW cpos (zT args env)) [])
   (λa s₂=>a.kw=[]/\a.pos.length<=xz/\s₂.heap.get? C=some (BE nm q C N bs bm hdct sn sub ab col dd k0 k1 k2 k3 k5 newId)/\s₂.heap.Ns N mN/\Dn s₂.heap bmB bm/\s₂.heap.get? fI=some oI /\
    ∀h' e,Ep s₂.heap h' e (.ref C) a.pos->o0 (wn prog w) (A.under (.builtin "type.__call__" ⟨.ref C::a.pos,[]⟩)) (call (.ref fI) (.ref e::a.pos))
     (λr s'=>r = .none/\s'.heap.get? C=some (BE nm q C N bs bm hdct sn sub ab col dd k0 k1 k2 k3 k5 newId)/\∃t od,s'.heap.get? e=some {cls:=.ref C,dict:=od,data:=.fields #[.ref t,.none,.none,.none,.bool false,.none]}/\E (.ref e) s') E {s₂ with heap:=h'}) E s₁) E s) :
  o0 (wn prog w) A (exec (.Raise (some (.Call (.Name x np) args [] cpos)) none pos) env) Q E s:=by
 rw[arm_exec_Raise];refine bn (B2 (jU (C:=C) (nm:=nm) (q:=q) (N:=N) (bs:=bs) (bm:=bm) (hdct:=hdct) (sn:=sn) (sub:=sub) (ab:=ab) (col:=col) (dd:=dd) (k0:=k0) (k1:=k1) (k2:=k2) (k3:=k3) (k5:=k5) (newId:=newId) hbase hh (bn (z9 (wpAny_Call_ofName (z9 h (λf s₁ h₁=>?_) λ_ _ x=>x)) (λv s₃ h₃=>bn (B2 (ww h₃))) λ_ _ x=>x))));obtain⟨rfl,h₁⟩:=h₁;unfold callWith;refine bn (DQ (z9 h₁ (λa s₂ h₂=>bn (B2 ?_)) λ_ _ x=>x));obtain⟨apos,akw⟩:=a;obtain⟨hkw,hlen,hC,hn,T,hfI,h₂⟩:=h₂;obtain rfl:akw=[]:=hkw;obtain⟨hp,g,d,tk,os⟩:=s₂;simp only[hplain];refine bn (wpAny_keeperOf_exc hC ?_);refine bn (tT (hrest:=hlen) F T hC hn hi hfI hfc λh' e hm=>z9 (h₂ h' e hm) (λr s' ⟨hr,hC',t,od,he,hE⟩=>⟨hr,?_⟩) λ_ _ x=>x);exact bn (DQ (wpAny_point (ww ⟨e,t,od,rfl,hC',he,hE⟩)))
end
end L2
namespace L2
open PySem PySem.Spec PyProof.Rows PySem.W Builtin Builtin.ObjectAttr
theorem nR {h:Heap}{bmB l:List bd}(T:Dn h bmB l)(self:bd)(what:Str):refuseLoop self what l=refuseLoop self what bmB:=by
 induction T with
 | base=>rfl
 | own _ _ _ _ ih=>rw[refuseLoop_ref,ih]
section
variable {prog:wE}{w:z8}{A:zX}{E:bd->db->Prop}{h:Heap}{g:Array E6}{d:Drawn}{t:Nat}{os:OsState}{K:ac}
variable {nm q:Str}{C N x:Addr}{bs bm:List bd}{sn:List Str}{sub:List bd}{ab:Bool}{col:Option Bool}{dd:Option Addr}{k0 k1 k2 k3 k5:Option bd}{newId:String}{hdct:Bool}{name:Str}{v:bd}{o:Obj}
theorem tY (T:Dn h bmV bm){u:bd}{od:Option Addr}{t0:Addr}{Q:bd->db->Prop}(hC:h.get? C=some (BE nm q C N bs bm hdct sn sub ab col dd k0 k1 k2 k3 k5 "ValueError.__new__"))
  (he:h.get? x=some {cls:=.ref C,dict:=od,data:=.fields #[.ref t0,.none,.none,.none,.bool false,.none]})
  (hq:∀h',(∀b ob,b≠x->h.get? b=some ob->h'.get? b=some ob)->(∃t1,h'.get? x=some {cls:=.ref C,dict:=od,data:=.fields #[.ref t1,.none,.none,.none,.bool false,.none]})->Q .none ⟨h',g,d,t,os⟩) :
  o0 (wn prog w) A (call (.builtin "ValueError.__init__") [.ref x,u]) Q E ⟨h,g,d,t,os⟩:=by
 have F:=Cv;refine DZ (F8 F.init.plain F.initEntry (wpAny_check_init_subT F T hC he rfl ?_))
 wp_walk
 refine hq _ (λb ob ne hb=>?_) ⟨h.objs.size,?_⟩
 ·rw[sB _ _ (AB ne)];exact dL _ hb
 ·rw[zV _ (dL _ he) rfl];rfl
theorem tP {M:Ek}{nameV:bd}{Q:Unit->db->Prop}(T:Dn h bmV bm)(hC:h.get? C=some (BE nm q C N bs bm hdct sn sub ab col dd k0 k1 k2 k3 k5 newId))(hx:h.get? x=some o)(hc:o.cls = .ref C)(hq:Q () ⟨h,g,d,t,os⟩) :
  o0 M A (Es "object.__setattr__" ⟨[.ref x,nameV,v],[]⟩) Q E ⟨h,g,d,t,os⟩:=by
 have SF:=Ej;have hcB:(Value.ref C::bm).contains (.type "object")=true:=by rw[B0,T.hasType SF.hasOwner,CF]
 have ha:=SF.args (.ref x) nameV v;simp only[Es,SF.kind,SF.split];refine bn ?_
 ·unfold isInstance;repeat (first | (with_reducible refine AQ hx ?_;rw[hc]) | (with_reducible refine CP hC ?_;rw[hcB]) | wp_step)
  exact hq
theorem wq {Q:Unit->db->Prop}(KX:K.In h)(T:Dn h bmV bm)(hC:h.get? C=some (BE nm q C N bs bm true sn sub ab col dd k0 k1 k2 k3 k5 newId))
  (hsa:Bt K (.ref C) "__setattr__" = some (some (.builtin "object.__setattr__"))) (hna:Bt K (.ref C) name=some none) (hx:h.get? x=some o) (hc:o.cls = .ref C) (hdn:o.dict=none) (hnc:∀c,o.data ≠ .cls c)
  (hq:∀h' dx tk',h.get? dx=none->dx≠x->h.objs.size<=dx->h'.get? x=some {o with dict:=some dx}->h'.Ns1 dx (λy=>if y=name then some v else none)->(∀b ob,b≠x->h.get? b=some ob->h'.get? b=some ob)->Q () ⟨h',g,d,tk',os⟩) :
  o0 (wn prog w) A (setAttr (.ref x) name v) Q E ⟨h,g,d,t,os⟩:=by
 have SF:=Ej;have f3:=SF.slot.bind (.ref x);have L1:=looks_findIn (M:=wn prog w) KX hsa;have L2:=looks_findIn (M:=wn prog w) KX hna;have hpass:=SF.passes (.ref x);have hcB:(Value.ref C::bm).contains (.type "object")=true:=by rw[B0,T.hasType SF.hasOwner,CF]
 unfold setAttr callSpecial? specialOf;repeat (any_goals (first | assumption | (with_reducible refine AQ hx ?_;rw[hc]) | with_reducible refine L1.at ?_ | wp_step))
 refine F8 SF.slot.plain SF.entry ?_;have core:o0 (wn prog w) A.in1 (Builtin.«object.__setattr__» ⟨[.ref x,.str name t,v],[]⟩) (λfin s'=>fin = .done (.ret .none)/\Q () s') (λ_ _=>False) ⟨h,g,d,t+1,os⟩:=by
  unfold Builtin.«object.__setattr__»;repeat (first | rw[refuse_eq] | (rw[refuseLoop_ref,nR T,hpass]) | (with_reducible refine AQ hx ?_;rw[hc]) | with_reducible refine wpAny_mroOf_exc hC ?_ | with_reducible refine L2.at ?_ | wp_step)
  rw[hdn,if_neg (by simp[typeHasDict])];split
  ·rename_i hcd;cases hcd
  split
  ·rename_i c hcd;exact absurd hcd (hnc c)
  ·have hx₁:(h.push {cls:=.type "dict",data:=.dict #[]}).get? x=some o:=dL _ hx;have hxs:x≠h.objs.size:=zM (lc hx);refine bn (wpAny_alloc' ?_);refine bn (wpAny_update' hx₁ ?_);refine ww ?_;have hgd:((h.push {cls:=.type "dict",data:=.dict #[]}).update x λo=>{cls:=o.cls,dict:=some h.objs.size,data:=o.data,slots:=o.slots}).get? h.objs.size
     = some {cls:=.type "dict",data:=.dict #[]} :=
    (Fn _ _ _ _ hxs.symm).trans (FT rfl rfl)
   have hnd:((h.push {cls:=.type "dict",data:=.dict #[]}).update x λo=>{cls:=o.cls,dict:=some h.objs.size,data:=o.data,slots:=o.slots}).Ns h.objs.size (λ_=>none) :=
    ⟨_,#[],_,hgd,rfl,λe he=>absurd he (by simp),λ_=>rfl⟩
   show o0 _ _ (storeInDict h.objs.size (.str name t) name v) _ _ _;unfold storeInDict newKeyGuard;refine bn (ww (bn (wpAny_nsSet1 (Heap.Ns1.of_empty hnd) λh' hn' hs=>?_)));obtain⟨oD,esD,epD,hoD,hdD,hcD⟩:=hn'.count (Within.cons name v Within.nil);refine bn (wpAny_lookBehind hoD (by rw[hdD];exact pastItsLine_dict (zQ hcD (by rw[zK,Co,Bw];omega))) ?_)
   wp_walk
   refine⟨rfl,hq h' h.objs.size _ (BN (lm _)) hxs.symm (lm _) ?_ hn' λb ob hbx hb=>?_⟩
   ·refine(hs.2 x hxs).trans (zV _ hx₁ ?_);have hfr:=(Heap.get?_some_iff.mp hx).2;obtain⟨oc,od,odt,osl⟩:=o;cases odt <;> first | rfl | exact hfr
   ·exact(hs.2 b (zM (lc hb))).trans ((Fn _ _ _ _ hbx).trans (dL _ hb))
 refine tP T hC hx hc (z9 core (λfin s' ⟨z1,z2⟩=>?_) λ_ _ z=>z.elim);subst z1;repeat (any_goals (first | assumption | wp_step))
end
end L2
namespace L2
open PySem PySem.Spec PyProof.Rows PySem.W
def exI (e C:Addr)(od:Option Addr):Heap->Prop:=λh=>∃t,h.get? e=some {cls:=.ref C,dict:=od,data:=.fields #[.ref t,.none,.none,.none,.bool false,.none]}
theorem exI.ok {P:wE}{w:z8}{H:Hp}{h:Heap}{e C:Addr}{od:Option Addr}(q:exI e C od h):cw P w H h e (.ext (exI e C od)) :=
 ⟨q,let ⟨t,g⟩:=q;⟨_,g⟩,λh1 h2 ⟨t,g⟩ k=>⟨t,k _ g⟩⟩
def gq (K:ac)(C fI:Addr):Bool:=match K.lookup C with
 | some ⟨.type "type",_,.cls cd,sl⟩=>(match cd.mro,sl.toList with
  | .ref C'::bm,[_,_,_,_,some (.builtin n),_]=>C'==C&&n == "ValueError.__new__" && !cd.hasDel&&FN K bmV bm&&PySem.W.nsOkIn K cd.ns&&z4 K cd.ns "__init__" == some (some (.ref fI))&&cd.hasDict
  | _,_=>false)
 | _=>false
structure OwnI (C fI:Addr)(h:Heap):Prop where
 obj:∃bm N nm q bs sn sub ab col dd k0 k1 k2 k3 k5 mN,h.get? C=some (BE nm q C N bs bm true sn sub ab col dd k0 k1 k2 k3 k5 "ValueError.__new__")/\h.Ns N mN/\mN "__init__" = some (.ref fI)/\Dn h bmV bm
theorem qF {K:ac}{h:Heap}{N:Addr}{mg:Str->Option bd}{n:Str}{v:bd}(X:K.In h)(G:h.Ns N mg)(e:nsIn K N n=some (some v)):mg n=some v:=by
 obtain⟨o,es,ep,ho,hd,_,hf⟩:=G;unfold nsIn at e;split at e
 ·rename_i c d es' n' sl q;have:=X _ _ q;rw[ho]at this;cases this
  cases hd
  split at e
  ·rename_i en he;cases e
   rw[<- hf];unfold nsFind findBy;rw[<- Fp,he];rfl
  ·split at e <;> cases e
 ·cases e
theorem sD {K:ac}{h:Heap}{C fI:Addr}(KX:K.In h)(q:gq K C fI=true):OwnI C fI h:=by
 unfold gq at q;split at q;next dd cd sl lk =>
  split at q;next C' bm k0 k1 k2 k3 n k5 em es =>
   simp only[zY,beq_iff_eq,BM]at q;obtain⟨⟨⟨⟨⟨⟨rfl,rfl⟩,nd⟩,tl⟩,nk⟩,ni⟩,hd⟩:=q;obtain⟨a1,a2,a3,a4,a5,a6,a7,a8,a9,a10,a11⟩:=cd;obtain⟨l⟩:=sl;dsimp only at em nd nk ni es hd;subst em nd es hd;exact⟨bm,a4,a1,a5,a2,a7,a8,a9,a10,dd,k0,k1,k2,k3,k5,_,KX _ _ lk,.of_isNs (Dl KX nk),qF KX (.of_isNs (Dl KX nk)) ni,Dk KX tl⟩
  ·cases q
 ·cases q
structure nz (K:ac)(D:Addr):Prop where
 sp:E7 K (.ref D) "__getattribute__" = some (some (.builtin "type.__getattribute__"))
 rd:readsIn K D (.type "type")=true
 fc:findCls K (.ref D) (.type "type") "__init__" = some (.val (.builtin "ValueError.__init__"))
structure ExcI (K:ac)(C fI:Addr)(f:Str):Prop where
 cl:gq K C fI=true
 fn:FM K (.ref fI)=some (.type "function")
 sa:Bt K (.ref C) "__setattr__" = some (some (.builtin "object.__setattr__"))
 na:Bt K (.ref C) f=some none
section
variable {X:Cx}{pins:List (Addr×Obj)}{σ σ1:St}{H H1:Hp}{s s1:db}{h':Heap}{e C:Addr}
theorem Inv.track2 {o:HO}(I:Inv X pins σ H s)(ue:H e=none)(y0:X.s₀.heap.get? e=none)(nL:X.env.locals≠e)(nC:∀x c,X.env.cells.lookup x=some c->c≠e)(nP:∀p∈X.pn++pins,p.1≠e)(new:cw X.prog X.w (upd H e o) s.heap e o):Inv X pins σ (upd H e o) s:=by
 have ne:∀ {b:Addr} {o:HO},H b=some o->b≠e:=λz w=>by rw[w,ue]at z;cases z
 have n0:∀b o,X.s₀.heap.get? b=some o->b≠e:=λb o q z=>by rw[z,y0]at q;cases q
 refine⟨I.ok,I.os,I.bare,⟨I.base.keep,I.base.slot,λb o q n x=>?_,I.base.there,λb xs q=>?_,λb o u q=>?_,λb ps q=>?_⟩,I.loc,I.cell,?_,λx c q=>?_,λp hp'=>?_,λa o q=>?_,I.len⟩
 ·rw[aW (n0 b o q)];exact I.base.free b o q n x
 ·have:=I.base.tups b xs q;rw[aW (ne this)];exact this
 ·have:=I.base.frzs b o u q;rw[aW (ne this)];exact this
 ·obtain⟨more,this⟩:=I.base.tbls b ps q;exact⟨more,by rw[aW (ne this)];exact this⟩
 ·rw[aW nL];exact I.free
 ·rw[aW (nC x c q)];exact I.freeC x c q
 ·obtain⟨p1,p2,p3,p4,p5⟩:=I.pin p hp';exact⟨p1,by rw[aW (nP p hp')];exact p2,p3,p4,p5⟩
 ·by_cases z:a=e
  ·subst z;rw[bh]at q;cases q
   exact new
  ·rw[aW z]at q;exact(I.hok a o q).stay (λ_ _ _ w=>w) (λb w=>by rw[aW (ne w)];exact w) λb xs w=>by rw[aW (ne w)];exact w
def rm (H:Hp)(e:Addr):Hp:=λb=>if b=e then none else H b
theorem r9:rm H e e=none:=by unfold rm;rw[if_pos rfl]
theorem nQ {b:Addr}(h:b≠e):rm H e b=H b:=by unfold rm;rw[if_neg h]
theorem Inv.untrack {φ:Heap->Prop}(I:Inv X pins σ H s)(he:H e=some (.ext φ))(y0:X.s₀.heap.get? e=none):Inv X pins σ (rm H e) s:=by
 have ne:∀ {b:Addr} {o:HO},H b=some o->(∀ φ,o ≠ .ext φ)->b≠e:=λz n w=>by rw[w,he]at z;cases z;exact n _ rfl
 have nn:∀b,H b=none->rm H e b=none:=λb z=>by unfold rm;split <;> first | rfl | exact z
 refine⟨I.ok,I.os,I.bare,⟨I.base.keep,I.base.slot,λb o q n x=>nn b (I.base.free b o q n x),I.base.there,λb xs q=>?_,λb o u q=>?_,λb ps q=>?_⟩,I.loc,I.cell,nn _ I.free,λx c q=>nn _ (I.freeC x c q),λp hp'=>?_,λa o q=>?_,I.len⟩
 ·have:=I.base.tups b xs q;rw[nQ (ne this λ_ z=>nomatch z)];exact this
 ·have:=I.base.frzs b o u q;rw[nQ (ne this λ_ z=>nomatch z)];exact this
 ·obtain⟨more,this⟩:=I.base.tbls b ps q;exact⟨more,by rw[nQ (ne this λ_ z=>nomatch z)];exact this⟩
 ·obtain⟨p1,p2,p3,p4,p5⟩:=I.pin p hp';exact⟨p1,nn _ p2,p3,p4,p5⟩
 ·by_cases z:a=e
  ·subst z;rw[r9]at q;cases q
  ·rw[nQ z]at q;exact(I.hok a o q).stay (λ_ _ _ w=>w) (λb w=>by rw[nQ (ne w λ_ z=>nomatch z)];exact w) λb xs w=>by rw[nQ (ne w λ_ z=>nomatch z)];exact w
theorem xJ {o:HO}(h:H e=some o):upd H e o=H:=by
 funext b;unfold upd;split
 ·rename_i z;rw[z,h]
 ·rfl
end
section
variable {X:Cx}{C D:Addr}{y f:Str}{np apos cpos pos pos' sp:Pos}{e text value:Expr}{es:List Expr}{t:TA}{tv:TE}
def rBI (C:Addr):List V->Hp->VK->Prop:=λvs H Q=>∃e od x,vs=[.ref e,x]/\H e=some (.ext (exI e C od))/\Q .non H
theorem pJ {pl:Sem Bool}(B:nz X.K D)(hc:dG X.K C=true)(hm:X.mg y=some (.ref D))(ha:PA X (e::es) t)(hg:Gl X y:=by rfl)(hdb:(y==("__debug__" : Str))=false:=by decide)
  (hst:zT (e::es) X.env=(false,eval e X.env)::zT es X.env:=by rfl) (hpl:(BW cpos (zT es X.env)).any (·.1)=false:=by rfl)
  (ht:eval (.Call (.Attribute (.Name y np) "__init__" apos) (e::es) [] cpos) X.env=(do
   let ov <- eval (.Name y np) X.env
   Gy apos.atName
   let (f,first) <- GD [ov] (getMethod ov "__init__" pl)
   callWith cpos f first (BW cpos (zT (e::es) X.env)) (backToKw cpos (F5 [] X.env))):=by rfl) :
  PE X (.Call (.Attribute (.Name y np) "__init__" apos) (e::es) [] cpos) (λσ H Q=>t σ H λvs H1=>rBI C vs H1 Q):=by
 intro pins s σ H Q I h;refine PySem.W.methodCall_KW (pl:=pl) (fH I hg hm ?_ hdb) ht;refine method_cls I.kIn B.sp (cls_value I.kIn B.rd B.fc rfl ?_);have hA:=ha cpos pins _ σ H _ (I.tok (s.toks+1)) h;rw[hst]at hA ⊢;refine EG (by show(false||(BW cpos (zT es X.env)).any (·.1))=false;rw[hpl] <;> rfl) (Ck ?_);refine thn hA λus s2 ⟨vs,H2,I2,r,q⟩=>?_;obtain⟨e',od,x,rfl,he,hq⟩:=q;obtain⟨t0,ge⟩:=(I2.hok e' _ he).1;obtain⟨bm,N,nm,q,bs,hdct,sn,sub,ab,col,dd,k0,k1,k2,k3,k5,hC,T⟩:=(ecls I2.kIn hc).obj;cases r with
 | cons r1 rr =>
  cases rr with
  | cons r2 rr =>
   cases rr
   cases (show _=Value.ref e' from r1)
   obtain⟨hh,g,d,tk,os⟩:=s2;refine tY T hC ge λh' k hx=>⟨.non,H2,?_,rfl,hq⟩
   have:=I2.write (x:=e') (e:=e') (o:=.ext (exI e' C od)) (t':=tk) (h':=h') (by rw[he];exact True.intro) (.inl rfl) (λb u ne z=>k b u ne z) (let ⟨t1,g1⟩:=hx;⟨_,g1⟩) (exI.ok hx);rw[xJ he]at this;exact this
def sXF (C:Addr)(tv:TE)(i:Nat)(f:Str):TS:=λD σ H=>tv σ H λy H1=>∃e,σ[i]? = some (some (.ref e))/\H1 e=some (.ext (exI e C none)) /\
 ∀dx,H1 dx=none->dx≠e->D.nx σ (upd (upd H1 e (.ext (exI e C (some dx)))) dx (.xd [(f,y)]))
theorem su {i:Nat}{sn:Str}{fI:Addr}(c:ExcI X.K C fI f)(hv:PE X value tv)(hi:PE X (.Name sn sp) (tVar i))(hs:Cr value (some (.Attribute (.Name sn sp) f pos')) pos.line X.env=pure false:=by rfl) :
  PS X (.Assign [.Attribute (.Name sn sp) f pos'] value pos) (sXF C tv i f):=by
 intro pins s σ H D I h;refine plainObj_wpAny_Assign_Attribute (thn (hv pins s σ H _ I h) λu s1 ⟨yv,H1,I1,ry,e,e1,e2,q⟩=>thn (hi pins s1 σ H1 (λx H2=>x = .ref e/\H2=H1) I1 ⟨.ref e,e1,rfl,rfl⟩) λov s2 ⟨x,H2,I2,rx,ex,eH⟩=>?_) hs;subst ex eH;obtain rfl:ov=Value.ref e:=rx;obtain⟨t0,ge⟩:=(I2.hok e _ e2).1;obtain⟨bm,N,nm,q',bs,sn',sub,ab,col,dd,k0,k1,k2,k3,k5,mN,hC,hN,_,T⟩:=(sD I2.kIn c.cl).obj;obtain⟨hh,g,d,tk,os⟩:=s2;refine wq I2.kIn T hC c.sa c.na ge rfl rfl (λ_ z=>nomatch z) λh' dx tk' hn ne hz gx nx k=>?_;have ud:H2 dx=none:=I2.hok.fresh hz;have I3:=I2.write (x:=e) (e:=e) (o:=.ext (exI e C (some dx))) (t':=tk') (h':=h') (by rw[e2];exact True.intro) (.inl rfl) (λb u ne z=>k b u ne z) ⟨_,gx⟩ (exI.ok ⟨t0,gx⟩);have sz0:X.s₀.heap.objs.size<=dx:=zQ I2.sz hz;have ge':∀b o,hh.get? b=some o->b≠dx:=λb o z w=>by rw[w,hn]at z;cases z
 have I4:=I3.track2 (e:=dx) (o:=.xd [(f,yv)]) (by rw[aW ne];exact ud) (BN sz0)
  (λz=>by obtain⟨m1,⟨o1,_,_,ho1,_⟩,_⟩:=id I2.loc;exact ge' _ _ ho1 z)
  (λx c q z=>by obtain⟨v,o1,ho1,_⟩:=I2.cell x c q;exact ge' _ _ ho1 z)
  (λp hp z=>ge' _ _ (I2.pin p hp).1 z) ⟨_,nx,λg=>?_⟩
 ·exact⟨σ,_,I4,q dx ud ne⟩
 ·show RelO (E_ g [(f,yv)]) (if g=f then some u else none);by_cases z:g=f
  ·rw[if_pos z];have hb:(g==f)=true:=beq_iff_eq.mpr z;simp only[E_,hb];exact ry
  ·rw[if_neg z];have hb:(g==f)=false:=beq_eq_false_iff_ne.mpr z;simp only[E_,hb];trivial
end
section
variable {X:Cx}{R:VK}{C fI:Addr}{f x:Str}
def tRsI (C:Addr)(f:Str)(sp:Sp)(t0:TE):TS:=λD σ H=>t0 σ H λv H1=>∀e,H1 e=none->sp [.ref e,v] (upd H1 e (.ext (exI e C none)))
 (λr H2=>r = .non/\∃dx y,H2 e=some (.ext (exI e C (some dx)))/\H2 dx=some (.xd [(f,y)])/\dx≠e/\H1 dx=none/\D.rt y (rm H2 e)) E0
theorem kr {k:Nat}{fd:B4}{ps:List Str}{sp:Sp}(T:Tie X C (some f) R)(hc:X.calm=true)(hm:X.mg x=some (.ref C))(c:ExcI X.K C fI f)(F:FnOk X.prog X.w X.K X.mg X.base CX0 k fI fd ps sp)(hr:Room (k+1) X.A)(hb:l4 X.K fd ps [])
  {e0:Expr} {t0:TE} {np cpos pos:Pos} (ha:PE X.nox e0 t0) (hg:Gl X x:=by rfl) (he:zT [e0] X.env=[(false,eval e0 X.env)]:=by rfl) (hdb:(x==("__debug__" : Str))=false:=by decide) :
  PSr X R (.Raise (some (.Call (.Name x np) [e0] [] cpos)) none pos) (tRsI C f sp t0):=by
 intro pins s σ H D e I h;obtain⟨tl,N,nm,q,bs,sn,sub,ab,col,dd,k0,k1,k2,k3,k5,mN,hC,hN,hi,tw⟩:=(sD I.mod.kin c.cl).obj;obtain⟨oI,lkI,hfc⟩:=wT.mp (show(X.K.lookup fI).map (·.cls)=some (.type "function")from c.fn);refine jR (k5:=k5) (k3:=k3) (k2:=k2) (k1:=k1) (k0:=k0) (dd:=dd) (col:=col) (ab:=ab) (sub:=sub) (sn:=sn) (hdct:=true) (bs:=bs) (N:=N) (q:=q) (nm:=nm) (C:=C) (bm:=tl) (mN:=mN) (fI:=fI) (oI:=oI) Cv (tw.hasType (by decide +kernel)) (I.ok.hd hc) (by rw[he];rfl) hi hfc (fH I hg hm ⟨rfl,?_⟩ hdb);rw[he];refine Ck (BY ?_);refine thn (ha.nox pins s σ H _ I h) λu s1 ⟨v,H1,I1,r1,q1⟩=>B6 ?_;refine⟨rfl,by show(1:Nat)<=_;decide,I1.bk _ _ hC,hN.keeps I1.bk,tw.keeps I1.bk,I1.kIn _ _ lkI,λh' a mk=>?_⟩;obtain⟨tt,g1,g2,g3⟩:=mk.there;have ua:H1 a=none:=by
  cases z:H1 a with
  | none=>rfl
  | some o =>
   obtain⟨u,z'⟩:=I1.hok.get z;rw[mk.new]at z';cases z'
 have y0:=I1.back0 T.ex mk.new;have ga:∀b o,s1.heap.get? b=some o->b≠a:=λb o z w=>by rw[w,mk.new]at z;cases z
 have It:=(I1.kept (t':=s1.toks) mk.keeps).track2 (e:=a) (o:=.ext (exI a C none)) ua y0
  (λz=>by obtain⟨m1,⟨o1,_,_,ho1,_⟩,_⟩:=id I1.loc;exact ga _ _ ho1 z)
  (λx c q z=>by obtain⟨v,o1,ho1,_⟩:=I1.cell x c q;exact ga _ _ ho1 z)
  (λp hp z=>ga _ _ (I1.pin p hp).1 z) (exI.ok ⟨tt,g1⟩)
 have hl:([Value.ref a,u]:List bd).length=ps.length:=F.len _ _ _ _ (q1 a ua);refine DZ (Dj (F.run _ X.stack _ _ ⟨[Value.ref a,u],[]⟩ [Value.ref a,u] [.ref a,v] _ E0 (hr.make C [u] []) (It.env0.make C [u] []) (by have:=hb _ [Value.ref a,u] It.kIn (by simpa using hl);simpa using this) (.cons rfl (.cons r1 .nil)) (q1 a ua)) λrr s' hq=>?_);cases rr with
 | error ev=>exact zZ hq
 | ok fl =>
  cases fl with
  | next=>exact zZ hq
  | brk=>exact zZ hq
  | cont=>exact zZ hq
  | ret w' =>
   obtain⟨v',H2,os,bare,un,hok,rv,ev,dx,y,e2,e3,ne,ud,qq⟩:=hq;subst ev;have I2:Inv X pins σ H2 s':=It.call' os un hok bare λb z=>nomatch z;have yd:X.s₀.heap.get? dx=none:=by
    refine I1.back0 T.ex ?_;cases z:s1.heap.get? dx with
    | none=>rfl
    | some o =>
     have:=un.free dx o (mk.keeps _ _ z) (by rw[aW ne];exact ud) (λz=>nomatch z);rw[e3]at this;cases this
   have I3:=I2.untrack e2 y0;obtain⟨t1,g4⟩:=(I2.hok a _ e2).1;refine⟨rv,I2.bk _ _ hC,t1,some dx,g4,?_⟩;exact T.run I3 ⟨_,_,.none,g4,rfl,rfl,rfl,rfl,y0,r9,.inl rfl⟩ (λz w=>by cases w;exact yd) ⟨dx,rfl,by rw[nQ ne];exact e3⟩ (e▸qq)
end
def spIP (C:Addr)(f:Str):Sp:=λvs H Q _=>∃e,∃n:Nat,vs=[.ref e,.int n]/\n<10000000000000000000000000000000000000000000000000000000000000000000000/\H e=some (.ext (exI e C none))/\∀dx,H dx=none->dx≠e->Q .non (upd (upd H e (.ext (exI e C (some dx)))) dx (.xd [(f,.int n)]))
theorem tn3:∀k:Nat,k<10000000000000000000000000000000000000000000000000000000000000000000000->(toString (k:Int):Str).length<=70:=λk h=>toString_length_le (v:=(k:Int)) (k:=70) (by omega) (by decide) (by omega)
theorem yq {k:Nat}(h:k<10000000000000000000000000000000000000000000000000000000000000000000000):(k:Int).natAbs.log2<1920:=by
 rw[Int.natAbs_natCast];by_cases h0:k=0
 ·subst h0;decide
 ·have:=(G6 h0).mpr (show k<2^233 by omega);omega
section
variable {K:ac}{C:Addr}{f:Str}{pr:Nat->Bool}{t0:TE}{a0:AE}
theorem wt {H:Hp}{e dx:Addr}{o o1 o2:HO}(he:H e=none)(ne:dx≠e):rm (upd (upd (upd H e o) e o1) dx o2) e=upd H dx o2:=by
 funext b;unfold rm upd;by_cases z:b=e
 ·subst z;rw[if_pos rfl,if_neg (AB ne),he]
 ·rw[if_neg z];by_cases w:b=dx
  ·rw[if_pos w,if_pos w]
  ·rw[if_neg w,if_neg w,if_neg z,if_neg z]
def aRsP (a:AE):AS:=λk ρ=>a ρ λr ρ1=>match r with
 | .d (.int i)=>(0<=i/\i<10000000000000000000000000000000000000000000000000000000000000000000000)/\k.rt (.d (.int i)) ρ1
 | _=>False
theorem kn (ha:TEok K t0 a0):TSok K pr (tRsI C f (spIP C f) t0) (aRsP a0):=by
 intro F σ ρ H D k hp r h ko;refine ha F σ ρ H _ _ r h λr1 ρ1 v H1 h1 o=>?_;obtain⟨r',k1,i1⟩:=o.inF;split at h1
 ·rename_i i;obtain⟨⟨l0,l2⟩,h1⟩:=h1;have ev:v = .int i:=i1.int;subst ev;intro e ue;refine⟨e,i.toNat,by rw[FE l0],by omega,bh,λdx hd ne=>⟨rfl,dx,.int i,?_,?_,ne,?_,?_⟩⟩
  ·rw[aW (AB ne),bh]
  ·rw[bh,FE l0]
  ·rw[aW ne]at hd;exact hd
  ·rw[aW ne]at hd;rw[wt ue ne];refine ko.rt σ ρ1 (.d (.int i)) _ _ h1 ⟨r'.fresh hd,?_⟩;unfold RepD;rfl
 ·exact h1.elim
end
def yR:Stmt->Stmt
 | .ClassDef _ _ _ (st::_) _ _ _ _ _ _ _=>st
 | _=>.Pass ⟨0,0,0,0⟩
structure l3 (K:ac)(C fI:Addr)(f qual:Str)(st:Stmt)(ps:List Str):Prop where
 xi:ExcI K C fI f
 fn:∃fd,Fun K "__init__" qual st fI fd/\∀us:List bd,us.length=ps.length->ET fd ⟨us,[]⟩=pure (ps.zip us)
theorem pW {K:ac}{C fI:Addr}{f qual:Str}{st:Stmt}{ps:List Str}{oc:bd}{od an:Option Addr}{osl:Array (Option bd)}{kV doc pm cdv ct:bd}(i:Bt K (.ref C) "__init__" = some (some (.ref fI)))
  (l:K.lookup fI=some ⟨oc,od,.func (Be "__init__" qual (eO st) (cv st) (aI st) .none kV doc pm an cdv ct),osl⟩) (c:BK K cdv qual=true) (k:Bi K (.ref fI)=true)
  (cl:gq K C fI=true) (fn:FM K (.ref fI)=some (.type "function")) (sa:Bt K (.ref C) "__setattr__" = some (some (.builtin "object.__setattr__"))) (na:Bt K (.ref C) f=some none)
  (hb:∀(kV doc pm:bd) (an:Option Addr) (cdv ct:bd) (us:List bd),us.length=ps.length->ET (Be "__init__" qual (eO st) (cv st) (aI st) .none kV doc pm an cdv ct) ⟨us,[]⟩=pure (ps.zip us)):l3 K C fI f qual st ps :=
 ⟨⟨cl,fn,sa,na⟩,_,vF l c k,λus hl=>hb kV doc pm an cdv ct us hl⟩
theorem tJ {K:ac}{C:Addr}(q:BQ K C bmV "ValueError.__new__" = true):dG K C=true:=by
 unfold BQ at q;unfold dG;split at q;next dd cd sl lk =>
  try rw[lk]
  split at q;next C' bm k0 k1 k2 k3 n k5 em es =>
   simp only[zY,beq_iff_eq,BM]at q;obtain⟨⟨⟨⟨⟨rfl,rfl⟩,nd⟩,tl⟩,nk⟩,ni⟩:=q;first | (simp[em,es,nd,tl];done) | simp_all
  ·cases q
 ·cases q
theorem fW {K:ac}{C fI:Addr}(q:gq K C fI=true):dG K C=true:=by
 unfold gq at q;unfold dG;split at q;next dd cd sl lk =>
  try rw[lk]
  split at q;next C' bm k0 k1 k2 k3 n k5 em es =>
   simp only[zY,beq_iff_eq,BM]at q;obtain⟨⟨⟨⟨⟨⟨rfl,rfl⟩,nd⟩,tl⟩,nk⟩,ni⟩,hd⟩:=q;first | (simp[em,es,nd,tl];done) | simp_all
  ·cases q
 ·cases q
theorem j3 {σ:St}{H:Hp}{Q:VK}{a c:Str}{n i:Nat}(ha:a.length<=1000)(hc:c.length<=1000)(hn:n<10000000000000000000000000000000000000000000000000000000000000000000000)(hv:σ[i]? = some (some (.int n)))(h:∀t,Q (.str t) H):qP (tC (.str a)) (qP (tFmt (tVar i)) (qP (tC (.str c)) jNil)) BF σ H Q:=by
 have t3:=tn3 n hn;have l0:BF.length=0:=rfl;have e1:(BF++a).length<=1000:=by rw[Ca,l0];omega
 have e2:(BF++a++(toString (n:Int):Str)).length<=1070:=by rw[Ca];omega
 have e3:(BF++a++(toString (n:Int):Str)++c).length<=2070:=by rw[Ca];omega
 refine⟨_,rfl,by rw[Bw];omega,.int n,hv,n,rfl,yq hn,_,rfl,by rw[Bw];omega,_,rfl,by rw[Bw];omega,by rw[Bw];omega,h _⟩
theorem j2 {σ:St}{H:Hp}{Q:VK}{a:Str}{n i:Nat}(ha:a.length<=1000)(hn:n<10000000000000000000000000000000000000000000000000000000000000000000000)(hv:σ[i]? = some (some (.int n)))(h:∀t,Q (.str t) H):qP (tC (.str a)) (qP (tFmt (tVar i)) jNil) BF σ H Q:=by
 have t3:=tn3 n hn;have l0:BF.length=0:=rfl;have e1:(BF++a).length<=1000:=by rw[Ca,l0];omega
 have e2:(BF++a++(toString (n:Int):Str)).length<=1070:=by rw[Ca];omega
 refine⟨_,rfl,by rw[Bw];omega,.int n,hv,n,rfl,yq hn,_,rfl,by rw[Bw];omega,by rw[Bw];omega,h _⟩
end L2
namespace L2
open PySem PySem.Spec PyProof.Rows
section
variable {M:Ek}{A:zX}{E:bd->bd->db->Prop}{s:db}{base:Heap}{env:Env}{outer:List Env}{L e C:Addr}{oe:Obj}{vs:Array bd}{od:Option Addr}
theorem mC {E0:bd->db->Prop}{hd:bd}{had:Bool}{Q:bd->Unit->db->Prop}(fr:A.frames=some (env::outer))(ff:s.heap.FunFrames base (env::outer))(lf:env.frame=some L)
  (ge:s.heap.get? e=some oe) (gc:oe.cls = .ref C) (gd:oe.dict=od) (gf:oe.data = .fields vs) (gz:1<vs.size)
  (fin:∀h' T,s.heap.objs.size<=T->Fly od h' e C T->(∀b o,s.heap.get? b=some o->b≠e->b∉frs (env::outer)->h'.get? b=some o)->(∀b o,s.heap.get? b=some o->b≠e->∃sl,h'.get? b=some {o with slots:=sl})->Q (.ref e) () {s with heap:=h'}) :
  o0 M A (do let a <- frameOf env;let pl <- FJ L had;let b <- Bp hd a .none (Ae L) .none pl;EQ (.ref e) 1 b) (λ_ s'=>D4 M A env (λx s2=>o0 M A (C2 env x) (Q x) (E x) s2) (.ref e) s') E0 s:=by
 have off:e∉frs (env::outer):=λq=>by
  obtain⟨_,o,go,no⟩:=ff.mem q;cases ge.symm.trans go
  exact no vs gf
 refine bn (Ee fr ff lf λha sa=>bn (DY λpl ip=>?_));unfold Bp Fu;refine bn (Bg ?_ (ip.sizeOk5 _ _ _ _ _));have ge1:ha.get? e=some oe:=(sa.2.1 e off).trans ge;have sz:ha.objs.size=s.heap.objs.size:=sa.1;generalize hT:([hd,Value.ref L,.none,Ae L,.none]++(if pl.isEmpty then pp 6 Value.none else pl)).toArray=tv;have tz:3<tv.size:=by rw[<- hT,li,pc];simp only[zK,Co];omega
 have neT:e≠ha.objs.size:=zM (lc ge1);refine AM (dL _ ge1) gf gz ?_;generalize hp:ha.push {cls:=.type "traceback",dict:=none,data:=.fields tv}=hb;have gT:hb.get? ha.objs.size=some {cls:=.type "traceback",dict:=none,data:=.fields tv}:=by rw[<- hp];exact wP _ rfl
 have kb:∀b o,ha.get? b=some o->hb.get? b=some o:=λb o q=>by rw[<- hp];exact dL _ q
 have w1:=As gf λa=>a.setIfInBounds 1 (.ref ha.objs.size);have g3:=zV (Ag λa=>a.setIfInBounds 1 (.ref ha.objs.size)) (kb e oe ge1) (At w1);have gT3:=(sB hb (Ag λa=>a.setIfInBounds 1 (.ref ha.objs.size)) neT).trans gT;unfold D4;refine bn (z6 g3 w1 (x:=.ref ha.objs.size) (by simp[gz]) ?_);rw[if_neg (by simp:¬(Value.ref ha.objs.size==Value.none)=true)];rw[lf];unfold Cf;refine bn (z6 g3 w1 (x:=.ref ha.objs.size) (by simp[gz]) ?_);rw[if_pos (by simp:(Value.ref ha.objs.size != Value.none)=true)];refine AM gT3 rfl tz ?_;generalize hh2:hb.update e (Ag λa=>a.setIfInBounds 1 (.ref ha.objs.size))=hc at g3 gT3 ⊢;have g4:=(sB hc (Ag λa=>a.setIfInBounds 3 ((some L:Option Addr).elim Value.none λf=>Ae f)) neT.symm).trans g3;have w4:=As (o:={cls:=.type "traceback",dict:=none,data:=.fields tv}) rfl λa=>a.setIfInBounds 3 ((some L:Option Addr).elim Value.none λf=>Ae f);have gT4:=zV (Ag λa=>a.setIfInBounds 3 ((some L:Option Addr).elim Value.none λf=>Ae f)) gT3 (At w4);unfold C2 Bu;simp only[lf];refine bn (bn (z6 g4 w1 (x:=.ref ha.objs.size) (by simp[gz]) ?_));rw[if_pos (by simp:(Value.ref ha.objs.size != Value.none)=true)];refine bn (z6 gT4 w4 (x:=Ae L) (by simp[tz]) ?_);rw[if_pos (by simp:(Ae L==Ae L)=true)];refine ww ?_;unfold Cf;refine bn (z6 g4 w1 (x:=.ref ha.objs.size) (by simp[gz]) ?_);rw[if_pos (by simp:(Value.ref ha.objs.size != Value.none)=true)];refine AM gT4 w4 (by simp[tz]) ?_;have w5:=As w4 λa=>a.setIfInBounds 3 ((none:Option Addr).elim Value.none λf=>Ae f);have on:∀b o,b≠e->ha.get? b=some o->((hc.update ha.objs.size (Ag λa=>a.setIfInBounds 3 ((some L:Option Addr).elim Value.none λf=>Ae f))).update ha.objs.size (Ag λa=>a.setIfInBounds 3 ((none:Option Addr).elim Value.none λf=>Ae f))).get? b=some o:=λb o ne q=>by
  rw[sB _ _ (Aa (lc q)),sB _ _ (Aa (lc q)),<- hh2,sB _ _ (AB ne)];exact kb b o q
 refine fin _ ha.objs.size (by rw[sz];exact lm _) ⟨_,_,_,_,(sB _ _ neT.symm).trans g4,(CT _ _).trans gc,?_,w1,by simp[gz],neT.symm,zV _ gT4 (At w5),w5,by simp[tz]⟩ (λb o q ne nf=>on b o ne ((sa.2.1 b nf).trans q)) λb o q ne=>?_
 ·obtain⟨oc,od,oda,osl⟩:=oe;cases gf
  exact gd
 ·obtain⟨sl,q'⟩:=sa.2.2 b o q;exact⟨sl,on b _ ne q'⟩
theorem lv2 {E0:bd->db->Prop}{hv:bd}{Q:bd->Unit->db->Prop}(fr:A.frames=some (env::outer))(ff:s.heap.FunFrames base (env::outer))(lf:env.frame=some L)
  (ge:s.heap.get? e=some oe) (gc:oe.cls = .ref C) (gd:oe.dict=od) (gf:oe.data = .fields vs) (g1:vs[1]? = some hv)
  (hh:hv = .none ∨ ∃T oT ts,hv = .ref T/\T≠e/\s.heap.get? T=some oT/\oT.data = .fields ts/\ts[3]? = some .none)
  (fin:∀h' T,s.heap.objs.size<=T->Fly od h' e C T->Gone (frs (env::outer)) s.heap h' e hv->Q (.ref e) () {s with heap:=h'}) :
  o0 M A (Bu (.ref e) env) (λ_ s'=>D4 M A env (λx s2=>o0 M A (C2 env x) (Q x) (E x) s2) (.ref e) s') E0 s:=by
 have gz:=(Ak.mp g1).1;unfold Bu;simp only[lf];refine bn (z6 ge gf g1 ?_);rcases hh with rfl | ⟨T,oT,ts,rfl,nT,gT,fT,t3⟩
 ·rw[if_neg (by decide)];exact mC fr ff lf ge gc gd gf gz λh' T' q1 q2 q3 q4=>fin h' T' q1 q2 ⟨λb o a1 a2 _ a4=>q3 b o a1 a2 a4,λb o a1 a2 _=>q4 b o a1 a2⟩
 ·rw[if_pos (by simp:(Value.ref T != Value.none)=true)];refine bn (z6 gT fT t3 ?_);rw[if_neg (by simp[Ae]:¬(Value.none==Ae L)=true)];refine bn (AM gT fT (Ak.mp t3).1 ?_);have ot:∀b,b≠T->(s.heap.update T (Ag λa=>a.setIfInBounds 3 Value.none)).get? b=s.heap.get? b:=λb q=>sB _ _ (AB q);have gT':=zV (Ag λa=>a.setIfInBounds 3 Value.none) gT (At (As fT _));have nr:∀b o,s.heap.get? b=some o->(∀us,o.data ≠ .fields us)->b≠T:=λb o q nf z=>by
   subst z;cases gT.symm.trans q
   exact nf ts fT
  refine mC fr (ff.of_keeps λb o q nf=>⟨o,(ot b (nr b o q nf)).trans q,rfl⟩) lf ((ot e nT.symm).trans ge) gc gd gf gz λh' T' q1 q2 q3 q4=>fin h' T' ?_ q2 ⟨λb o a1 a2 a3 a4=>q3 b o ((ot b λz=>a3 (by rw[z])).trans a1) a2 a4,λb o a1 a2 a3=>q4 b o ((ot b λz=>a3 (by rw[z])).trans a1) a2⟩;rwa [DV]at q1
end
def Cx.pz (X:Cx):bd->db->Prop:=GB (wn X.prog X.w) X.A X.env (D4 (wn X.prog X.w) X.A X.env X.xe)
section
variable {X:Cx}{pins:List (Addr×Obj)}{σ:St}{H:Hp}{s:db}{h0:Heap}{e C:Addr}{od:Option Addr}
theorem lvI2 {E0:bd->db->Prop}{E:bd->bd->db->Prop}{Q:bd->Unit->db->Prop}(I:Inv X pins σ H s)(hs:X.stack=X.env::X.outer)(hf:X.env.frame=some X.env.locals)(hsub:∀b o,h0.get? b=some o->b<s.heap.objs.size)(hot:Hot od h0 s.heap H e C)
  (fin:∀h' ch,(∀b∈ch,h0.get? b=none/\H b=none)->e∈ch->Un (frs X.stack) ch H H s.heap h'->HOk X.prog X.w H h'->Hot od h0 h' H e C->Q (.ref e) () {s with heap:=h'}) :
  o0 (wn X.prog X.w) X.A (Bu (.ref e) X.env) (λ_ s'=>D4 (wn X.prog X.w) X.A X.env (λx s2=>o0 (wn X.prog X.w) X.A (C2 X.env x) (Q x) (E x) s2) (.ref e) s') E0 s:=by
 obtain⟨oe,vs,hv,ge,gc,gd,gf,g1,ye,ue,hh⟩:=hot;have hh':hv = .none ∨ ∃T oT ts,hv = .ref T/\T≠e/\s.heap.get? T=some oT/\oT.data = .fields ts/\ts[3]? = some .none:=by
  rcases hh with q | ⟨T,oT,ts,q1,q2,q3,q4,q5,_⟩
  ·exact .inl q
  ·exact .inr ⟨T,oT,ts,q1,q2,q3,q4,q5⟩
 refine lv2 (hs▸I.ok.frames) (hs▸I.stack) hf ge gc gd gf g1 hh' λh' T q1 ⟨oe',vs',oT',ts',f1,f2,f3,f4,f5,f6,f7,f8,f9⟩ g=>?_;have hch:∀b∈e::(match hv with | .ref T=>[T] | _=>[]),h0.get? b=none/\H b=none:=λb hb=>by
  rcases wS.mp hb with rfl | hb
  ·exact⟨ye,ue⟩
  ·rcases hh with rfl | ⟨T,oT,ts,rfl,_,_,_,_,y,u⟩
   ·cases hb
   ·rw[Ac.mp hb];exact⟨y,u⟩
 have nch:∀b,b∉e::(match hv with | .ref T=>[T] | _=>[])->b≠e/\hv ≠ .ref b:=λb hb=>⟨λz=>hb (z ▸ .head _),λz=>hb (by subst z;exact .tail _ (.head _))⟩
 have there:∀b o,s.heap.get? b=some o->∃o',h'.get? b=some o'∨b=e∨hv = .ref b:=λb o q=>by
  by_cases z1:b=e
  ·exact⟨o,.inr (.inl z1)⟩
  ·by_cases z2:hv = .ref b
   ·exact⟨o,.inr (.inr z2)⟩
   ·obtain⟨sl,q'⟩:=g.slot b o q z1 z2;exact⟨_,.inl q'⟩
 refine fin h' _ hch (.head _) ⟨λb o q n nf nx=>g.keep b o q (nch b nx).1 (nch b nx).2 (by rw[<- hs];exact nf),λb o q n _ nx=>g.slot b o q (nch b nx).1 (nch b nx).2,λb o _ n _=>n,λb o q nx=>?_,λ_ _ q=>q,λ_ _ _ q=>q,λb ps q=>⟨#[],by rw[q];simp⟩⟩ (λa o q=>?_) ⟨oe',vs',_,f1,f2,f3,f4,f5,ye,ue,.inr ⟨T,oT',ts',rfl,f6,f7,f8,f9,?_,I.hok.fresh q1⟩⟩
 ·obtain⟨sl,q'⟩:=g.slot b o q (nch b nx).1 (nch b nx).2;exact⟨_,q'⟩
 ·have tr:∀b o',H b=some o'->b≠e/\hv ≠ .ref b/\b∉frs (X.env::X.outer):=λb o' z=>by
   refine⟨λw=>?_,λw=>?_,λw=>?_⟩
   ·rw[w,ue]at z;cases z
   ·rcases hh with y | ⟨T,oT,ts,y,_,_,_,_,_,u⟩
    ·rw[y]at w;cases w
    ·rw[y]at w;cases w;rw[u]at z;cases z
   ·rw[<- hs]at w;rw[I.stkFree b w]at z;cases z
  refine(I.hok a o q).stay (λb u hb z=>?_) (λ_ z=>z) λ_ _ z=>z;have:∃o',H b=some o':=by
   rcases hb with rfl | hb
   ·exact⟨_,q⟩
   ·exact⟨_,hb⟩
  obtain⟨o',ho'⟩:=this;obtain⟨a1,a2,a3⟩:=tr b o' ho';exact g.keep b u z a1 a2 a3
 ·cases z:h0.get? T with
  | none=>rfl
  | some o=>exact absurd (hsub T o z) (C8.mpr q1)
end
section
variable {P:wE}{w:z8}{K:ac}{mg:Str->Option bd}{base:Heap}{N:List Str}{qual:Str}{scope:AC}{f:Addr}{cd:bd}{A:zX}{outer:List Env}{s0:db}{H0:Hp}{E:XK}
theorem vC {pins:List (Addr×Obj)}{σ:St}{H:Hp}{s:db}{e C:Addr}{od:Option Addr}(I:Inv (cxOf (CX1 P w) P w K mg base N qual scope f cd A outer s0 H0 E) pins σ H s)(hot:Hot od s0.heap s.heap H e C)(hyg:Yg s0.heap od)(he:E (odV od) (some C) H) :
  (cxOf (CX1 P w) P w K mg base N qual scope f cd A outer s0 H0 E).pz (.ref e) s:=by
 refine lvI2 I rfl rfl (λb o q=>?_) hot λh' ch hch hin un hok hot'=>?_
 ·exact nw (lc q) I.sz
 ·have lo:∀b o,s0.heap.get? b=some o->b∉ch:=λb o q z=>by rw[(hch b z).1]at q;cases q
  have nL:∀b o,s0.heap.get? b=some o->b≠s0.heap.objs.size:=λb o q=>zM (lc q);refine⟨e,C,od,H,rfl,I.os,I.bare,⟨λb o q n nf _=>?_,λb o q n hb _=>?_,λb o q n _=>I.base.free b o q n (λz=>nomatch z),λb o q _=>?_,I.base.tups,I.base.frzs,I.base.tbls⟩,hok,hot',hyg,he⟩
  ·refine un.keep b o (I.base.keep b o q n nf λz=>nomatch z) (I.base.free b o q n λz=>nomatch z) (λz=>?_) (lo b o q);rcases wS.mp z with z | z
   ·exact nL b o q z
   ·exact nf z
  ·obtain⟨sl,q'⟩:=I.base.slot b o q n hb λz=>nomatch z
   obtain⟨sl',q''⟩:=un.slot b _ q' (I.base.free b o q n λz=>nomatch z) (.tail _ hb) (lo b o q);exact⟨sl',q''⟩
  ·obtain⟨o',q'⟩:=I.base.there b o q λz=>nomatch z
   exact un.there b o' q' (lo b o q)
end
abbrev Cx.inFor (X:Cx):Cx:={X with xe:=X.pz}
section
variable {X:Cx}{R:VK}{tg:Expr}
theorem lg {iter:Expr}{body:List Stmt}{wi:TI}{g:TG}{tb:TS}{pos:Pos}(hc:X.calm=true)(hi:PI X.nox tg iter wi)(hg:PG X.nox tg g)(hb:PSsr X.inFor R body tb)
  (hs:∀x,Bx iter X.env x=pure x:=by intro _;rfl):PSr X R (.For tg iter body [] pos) (tFor wi g tb):=by
 intro pins s σ H D e I h;refine wpAny_For (z9 (hi pins s σ H _ (I.wish _) h) (λv s1 h1=>z9 h1 (λitv s2 h2=>?_) λ_ _ z=>zZ z) λ_ _ z=>zZ z) hs;obtain⟨it,fp,tn,J,H2,e2,I2w,T,st2,f2,W,⟨m0,w0⟩,turn⟩:=h2;subst e2;have I2:=I2w.unwish;have stat:∀ {H':Hp},(∀b∈fp,H' b=none)->∀b∈fp,FpOk X pins H' b:=λhn b hb=>⟨hn b hb,(f2 b hb).2⟩
 refine Ge (λn s'=>∃i σ' H',Inv X pins σ' H' s'/\tn i s'.heap/\(∀b∈fp,H' b=none)/\W i n σ' H') ?_ m0 ⟨0,σ,H2,I2,st2,λb hb=>(f2 b hb).1,w0⟩;rintro n s3 ⟨i,σ3,H3,I3,st3,fr3,w3⟩;rcases turn i n σ3 H3 w3 with⟨stop,qn⟩ | ⟨go,N,hN,step⟩
 ·refine thn (T.done X rfl rfl rfl hc i pins s3 σ3 H3 X.pz I3 (stat fr3) st3 stop) λr s4 ⟨hr,I4⟩=>?_;subst hr;exact B7 ⟨σ3,H3,I4,qn⟩
 ·refine thn (T.item X rfl rfl rfl hc i pins s3 σ3 H3 X.pz I3 (stat fr3) st3 go) λr s4 ⟨u,hr,h4⟩=>?_;subst hr;refine thn h4 λ_ s5 ⟨x,H5,I5,r5,y5,st5,fr5⟩=>?_;have I5':=I5.pinned (stat fr5) (T.obj _ _ st5);refine z9 (hg _ s5 σ3 H5 x u _ (I5'.wish _) r5 (step x H5 y5)) (λ_ s6 ⟨σ6,H6,I6,q6⟩=>?_) λ_ _ z=>zZ z;refine thn (hb _ s6 σ6 H6 {D with nx:=N,ct:=N,bk:=D.nx} e (I6.unwish.wish _) q6) λf s7 q7=>?_;have F9:∀ {σ7:St} {H7:Hp},Inv X (pins++jk fp s5.heap) σ7 H7 s7->N σ7 H7->∃m,m<n/\∃i σ' H',Inv X pins σ' H' s7/\tn i s7.heap/\(∀b∈fp,H' b=none)/\W i m σ' H':=λ{σ7 H7} I7 n7=>by
   obtain⟨m',hm,w7⟩:=hN σ7 H7 n7;refine⟨m',hm,i+1,σ7,H7,I7.unpinned,T.keep _ _ _ st5 λb hb o e=>(I7.pin (b,o) (wv _ (wv _ (cE hb e)))).1,λb hb=>?_,w7⟩;obtain⟨o,e,d⟩:=T.obj _ _ st5 b hb;exact(I7.pin (b,o) (wv _ (wv _ (cE hb e)))).2.1
  cases f with
  | next=>obtain⟨σ7,H7,I7,n7⟩:=q7;exact F9 I7.unwish n7
  | cont=>exact q7.elim
  | brk=>exact q7.elim
  | ret v=>exact q7.elim
end
section
variable {P:wE}{w:z8}{K:ac}{mg:Str->Option bd}{base:Heap}{N:List Str}{qual:Str}{scope:AC}{f:Addr}{cd:bd}{A:zX}{outer:List Env}{s0:db}{H0:Hp}{E:XK}{C:Addr}{fn:Option Str}
theorem tie2:Tie (cxOf (CX1 P w) P w K mg base N qual scope f cd A outer s0 H0 E).inFor C fn (XW E C fn):=⟨rfl,λI hot hy hf hr=>vC I.unwish hot hy (hr _ hf)⟩
end
end L2
namespace L2
theorem ti {i j:Nat}{d:D}{ρ:En}{k:En->Prop}(h:qW 2 (g9 (gp i) (g9 (gp j) gaNil)) d ρ k):∃ ρ',k ρ':=by
 cases d with
 | tup ds =>
  cases ds with
  | nil=>exact h.elim
  | cons d1 ds =>
   cases ds with
   | nil=>exact h.elim
   | cons d2 ds =>
    cases ds with
    | nil=>exact⟨_,h⟩
    | cons _ _=>exact h.elim
 | _=>exact h.elim
theorem nG {i j m:Nat}{d1 d2 d3:D}{ρ:En}{k:En->Prop}(h:k (pt (pt (pt ρ i (.vl d1)) j (.vl d2)) m (.vl d3))):qW 2 (g9 (gp i) (g9 (qW 2 (g9 (gp j) (g9 (gp m) gaNil))) gaNil)) (.tup [d1,.tup [d2,d3]]) ρ k:=h
end L2
namespace L2
open PySem PySem.Spec PyProof.Rows
abbrev EnO (h:Heap)(e it:Addr)(i:Int)(old:bd)(a:Addr)(f:Bool):Prop :=
 h.get? e=some {cls:=.type "enumerate",dict:=none,data:=.fields #[Ae a,.bool f,.ref it,Ae i,.none,old],slots:=#[]}
section
variable {prog:wE}{w:z8}{A:zX}{E:bd->db->Prop}{s:db}
theorem uK {a:Addr}{o:Obj}{Q:Option Obj->db->Prop}(ho:s.heap.get? a=some o)(h:Q (some o) s):o0 (wn prog w) A (loadIfAlive a) Q E s:=by
 have h':Q (s.heap.get? a) s:=by rw[ho];exact h
 exact λ_ _ _=>h'
theorem uV {e it a:Addr}{f:Bool}{oa:Obj}{fp:List Addr}{n i:Nat}{P:Nat->bd->Prop}{St:Nat->Heap->Prop}{old:bd}{Q:bd->db->Prop}
  (D:GN prog w A it fp n P St) (he:EnO s.heap e it i old a f) (ha:s.heap.get? a=some oa) (hae:a≠e) (hai:a≠it) (hst:St i s.heap) (hlt:i<n) (hne:e≠it) (hef:e∉fp)
  (hQ:∀x h' tk,P i x->EnO h' e it ((i:Int)+1) old a true->St (i+1) h' ->
   h'.get? s.heap.objs.size=some {cls:=.type "tuple",data:=.seq #[.int i tk,x]}->h'.objs.size=s.heap.objs.size+1 ->
   (∀b o,b≠e->b≠it->s.heap.get? b=some o->h'.get? b=some o)->Q (.ref s.heap.objs.size) {s with heap:=h',toks:=tk+1}) :
  o0 (wn prog w) A (Builtin.«enumerate.__next__» ⟨[.ref e],[]⟩) (λfin s'=>∃v,fin = .done (.ret v)/\Q v s') E s:=by
 obtain⟨hp,g,d,tk₀,os⟩:=s;show o0 _ _ (Fv (.ref e) 2>>=_) _ _ _;refine bn (z6 he rfl (x:=.ref it) rfl ?_);refine bn (D.item i _ _ _ hlt hst λx h₁ tk hPx hit₁ hs₁=>?_);replace hs₁:AF it hp h₁:=hs₁;have he₁:EnO h₁ e it i old a f:=(hs₁.2 e hne).trans he;show o0 _ _ (Fv (.ref e) 3>>=_) _ _ ⟨h₁,g,d,tk,os⟩;refine bn (z6 he₁ rfl (x:=Ae i) rfl ?_);show o0 _ _ (Fv (.ref e) 4>>=_) _ _ ⟨h₁,g,d,tk,os⟩;refine bn (z6 he₁ rfl (x:=.none) rfl ?_);show o0 _ _ (mkInt i>>=_) _ _ ⟨h₁,g,d,tk,os⟩;refine bn (wpAny_mkInt ?_);show o0 _ _ (EQ (.ref e) 3 (Ae ((i:Int)+1))>>=_) _ _ ⟨h₁,g,d,tk+1,os⟩;refine bn (DX he₁ (by simp) λh₂ he₂ hs₂=>?_);replace hs₂:AF e h₁ h₂:=hs₂;replace he₂:EnO h₂ e it ((i:Int)+1) old a f:=he₂;show o0 _ _ (EQ (.ref e) 4 .none>>=_) _ _ ⟨h₂,g,d,tk+1,os⟩;refine bn (DX he₂ (by simp) λh₃ he₃ hs₃=>?_);replace hs₃:AF e h₂ h₃:=hs₃;replace he₃:EnO h₃ e it ((i:Int)+1) old a f:=he₃;show o0 _ _ (newTuple [.int i tk,x]>>=_) _ _ ⟨h₃,g,d,tk+1,os⟩;refine bn (wpAny_newTuple ?_);have he₄:EnO (h₃.push {cls:=.type "tuple",data:=.seq #[.int i tk,x]}) e it ((i:Int)+1) old a f:=dL _ he₃;generalize hh₄:h₃.push {cls:=.type "tuple",data:=.seq #[.int i tk,x]}=h₄ at he₄;have hsz:h₃.objs.size=hp.objs.size:=by rw[hs₃.1,hs₂.1,hs₁.1]
 have hel:e<hp.objs.size:=lc he;have ht₄:h₄.get? hp.objs.size=some {cls:=.type "tuple",data:=.seq #[.int i tk,x]}:=by rw[<- hh₄,<- hsz];exact wP _ rfl
 have hz₄:h₄.objs.size=hp.objs.size+1:=by rw[<- hh₄,A2,hsz]
 have hk₄:∀b o,b≠e->b≠it->hp.get? b=some o->h₄.get? b=some o:=λb o hbe hbi hb=>by
  rw[<- hh₄];exact dL _ (hs₃.extBut b o hbe (hs₂.extBut b o hbe (hs₁.extBut b o hbi hb)))
 have hit₄:St (i+1) h₄:=D.frame _ _ _ hit₁ λb hb o y=>by
  have hbe:b≠e:=λq=>hef (q▸hb);rw[<- hh₄];exact dL _ (hs₃.extBut b o hbe (hs₂.extBut b o hbe y))
 show o0 _ _ (CO (.ref e)>>=_) _ _ ⟨h₄,g,d,tk+1,os⟩;rw[hsz];clear hh₄ he₃ hs₃ he₂ hs₂ he₁ hs₁ hit₁ hsz h₃ h₂ h₁;have ha₄:h₄.get? a=some oa:=hk₄ a oa hae hai ha;refine bn ?_;unfold CO;refine bn (z6 he₄ rfl (x:=Ae a) rfl ?_);show o0 _ _ (loadIfAlive ((a:Int).toNat)>>=_) _ _ _;rw[Aq];refine bn (uK ha₄ ?_);simp only[Option.isNone_some,BB,if_false];refine bn (z6 he₄ rfl (x:=.bool f) rfl ?_);have fin:∀h₅:Heap,EnO h₅ e it ((i:Int)+1) old a true->AF e h₄ h₅->Q (.ref hp.objs.size) ⟨h₅,g,d,tk+1,os⟩:=λh₅ he₅ hs₅ =>
  hQ x h₅ tk hPx he₅ (D.frame _ _ _ hit₄ λb hb o y=>hs₅.extBut b o (λq=>hef (q▸hb)) y) (hs₅.extBut _ _ (Aa hel) ht₄) (by show h₅.objs.size=hp.objs.size+1;rw[hs₅.1,hz₄]) λb o hbe hbi hb=>hs₅.extBut b o hbe (hk₄ b o hbe hbi hb)
 cases f with
 | true =>
  rw[if_neg (show ¬((Value.bool true != Value.bool true)=true)from Ad)];refine ww ?_;simp only[BB,if_false];exact ww ⟨_,rfl,fin h₄ he₄ (G9 _ _)⟩
 | false =>
  rw[if_pos (show(Value.bool false != Value.bool true)=true from rfl)];refine bn (DX he₄ (by simp) λh₅ he₅ hs₅=>?_);replace hs₅:AF e h₄ h₅:=hs₅;replace he₅:EnO h₅ e it ((i:Int)+1) old a true:=he₅;refine ww ?_;simp only[BB,if_false];exact ww ⟨_,rfl,fin h₅ he₅ hs₅⟩
def EnS (h:Heap)(e it:Addr)(i:Nat)(S:Addr):Prop:=(∃old,E5 h e it i old) ∨ ∃old a f oa,EnO h e it i old a f/\h.get? a=some oa/\a≠e/\a≠it/\a≠S
theorem EnS.keep {h h':Heap}{e it S:Addr}{i:Nat}(x:EnS h e it i S)(hk:∀b o,b≠S->h.get? b=some o->h'.get? b=some o)(hS:e≠S):EnS h' e it i S:=by
 rcases x with⟨old,he⟩ | ⟨old,a,f,oa,he,ha,h1,h2,h3⟩
 ·exact .inl ⟨old,hk _ _ hS he⟩
 ·exact .inr ⟨old,a,f,oa,hk _ _ hS he,hk _ _ h3 ha,h1,h2,h3⟩
theorem EnS.typeIs {e it S:Addr}{i:Nat}(x:EnS s.heap e it i S):s.TypeIs (.ref e) "enumerate" := by
 rcases x with⟨old,he⟩ | ⟨old,a,f,oa,he,_⟩
 ·exact⟨_,he,rfl⟩
 ·exact⟨_,he,rfl⟩
theorem uU {e it S:Addr}{fp:List Addr}{n i:Nat}{P:Nat->bd->Prop}{St:Nat->Heap->Prop}{Q:Option bd->db->Prop}
  (D:GN prog w A.in1 it fp n P St) (he:EnS s.heap e it i S) (hit:it<s.heap.objs.size) (hS:S<s.heap.objs.size) (hst:St i s.heap) (hlt:i<n) (hne:e≠it) (hef:e∉fp)
  (hQ:∀x h' tk,P i x->EnS h' e it (i+1) S->St (i+1) h' ->
   h'.get? s.heap.objs.size=some {cls:=.type "tuple",data:=.seq #[.int i tk,x]}->h'.objs.size=s.heap.objs.size+1 ->
   (∀b o,b≠e->b≠it->s.heap.get? b=some o->h'.get? b=some o)->Q (some (.ref s.heap.objs.size)) {s with heap:=h',toks:=tk+1}) :
  o0 (wn prog w) A (DE (.ref e)) Q E s:=by
 have hT:s.TypeIs (.ref e) "enumerate" := he.typeIs;rcases he with⟨old,he⟩ | ⟨old,a,f,oa,he,ha,h1,h2,h3⟩
 ·refine Fs D he hst hlt hne hef λx h' tk hP ho hs ht hz hk=>hQ x h' tk hP (.inr ⟨x,_,false,_,?_,ht,Aa (lc he),Aa hit,Aa hS⟩) hs ht hz hk;have ec:((i+1:Nat):Int)=(i:Int)+1:=by omega
  rw[ec];exact ho
 ·unfold DE;refine bn (wpAny_attempt (Ce (name:=C7 "__next__") hT Cn
   (Cq Cn hT Fo
    (uV D he ha h1 h2 hst hlt hne hef λx h' tk hP ho hs ht hz hk=>ww (hQ x h' tk hP (.inr ⟨old,a,true,oa,?_,hk a oa h1 h2 ha,h1,h2,h3⟩) hs ht hz hk)) (Fe _))))
  have ec:((i+1:Nat):Int)=(i:Int)+1:=by omega
  rw[ec];exact ho
theorem xn {e it S:Addr}{fp:List Addr}{n i:Nat}{P:Nat->bd->Prop}{St:Nat->Heap->Prop}{Q:Option bd->db->Prop}
  (D:GN prog w A.in1 it fp n P St) (he:EnS s.heap e it i S) (hst:St n s.heap)
  (hQ:∀h',GU it s.heap h'->Q none {s with heap:=h'}):o0 (wn prog w) A (DE (.ref e)) Q E s:=by
 have hT:s.TypeIs (.ref e) "enumerate" := he.typeIs;rcases he with⟨old,he⟩ | ⟨old,a,f,oa,he,ha,h1,h2,h3⟩
 ·exact FH D he hst hQ
 ·unfold DE;refine bn (wpAny_attempt (Ce (name:=C7 "__next__") hT Cn
   (Cq Cn hT Fo ?_ (Fe _))))
  show o0 _ _ (Fv (.ref e) 2>>=_) _ _ _;refine bn (z6 he rfl (x:=.ref it) rfl ?_);refine bn (D.done _ _ _ hst λh' x he' hx'=>?_);obtain⟨o,ho,hc⟩:=hx';refine bn (wpAny_isInstance (T := "StopIteration") (b:=true) ⟨o,ho,hc⟩ isSubtype_stop ?_);exact ww (hQ _ he')
end
structure LeG (P:Nat->bd->Prop)(lo:Addr)(h:Heap)(as:List Addr):Prop where
 rise:as.Pairwise (· < ·)
 above:∀a∈as,lo<a
 pairs:∀(j:Nat) (a:Addr),as[j]? = some a->∃tk x,P j x/\h.get? a=some {cls:=.type "tuple",data:=.seq #[.int j tk,x]}
theorem LeG.there {P:Nat->bd->Prop}{lo:Addr}{h:Heap}{as:List Addr}(g:LeG P lo h as){a:Addr}(ha:a∈as):a<h.objs.size:=by
 obtain⟨j,hj⟩:=List.mem_iff_getElem?.mp ha;obtain⟨_,_,_,e⟩:=g.pairs j a hj;exact lc e
section
variable {prog:wE}{w:z8}{A:zX}{s:db}{R:FL->db->Prop}
theorem wV {S e it:Addr}{fp:List Addr}{n:Nat}{P:Nat->bd->Prop}{St:Nat->Heap->Prop}(D:GN prog w A.in1.in1 it fp n P St)(heS:e<S)(hiS:it<S)(hne:e≠it)(hef:e∉fp)(hSf:S∉fp)(hn:n<=xz)(res:bd){h₁:Heap}
  (hR:∀h' tk acc c as,(∀b o,b≠S->b≠e->b≠it->h₁.get? b=some o->h'.get? b=some o)->h'.get? S=some {cls:=.type "list",dict:=none,data:=.seq acc c,slots:=#[]}->as.length=n->LeG P S h' as ->
   acc.toList=as.map Value.ref->R (.ok (.ret res)) {s with heap:=h',toks:=tk}) :
  ∀(k i:Nat) (h:Heap) (tk c:Nat) (acc:Array bd) (as:List Addr),n - i=k->i<=n->EnS h e it i S->St i h->(∀b o,b≠S->b≠e->b≠it->h₁.get? b=some o->h.get? b=some o) ->
   h.get? S=some {cls:=.type "list",dict:=none,data:=.seq acc c,slots:=#[]}->acc.toList=as.map Value.ref->as.length=i->LeG P S h as ->
   CB (wn prog w) A (.builtin "list.extend.loop" ⟨[.ref S,.ref e,res],[]⟩) R {s with heap:=h,toks:=tk}:=by
 intro k;induction k with
 | zero =>
  intro i h tk c acc as hk hi hst hD hkeep hS hacc hal hG;have hin:i=n:=by omega
  subst hin;refine ED D8 ?_;rw[De CJ _];show o0 _ A.in1 (DE (.ref e)>>=_) _ _ _;refine bn (xn (s:={s with heap:=h,toks:=tk}) (A:=A.in1) D hst hD λh' he=>?_);refine ww (hR h' tk acc c as (λb o h1 h2 h3 e=>he b o h3 (hkeep b o h1 h2 h3 e)) (he S _ (Aa hiS) hS) hal ⟨hG.rise,hG.above,λj a hj=>?_⟩ hacc);obtain⟨t,x,e1,e3⟩:=hG.pairs j a hj;exact⟨t,x,e1,he a _ (Aa (BS hiS (hG.above a (wp hj)))) e3⟩
 | succ k ih =>
  intro i h tk c acc as hk hi hst hD hkeep hS hacc hal hG;have hlt:i<n:=by omega
  have hsz:acc.size=i:=by rw[<- Dp,hacc,im,hal]
  have hSl:S<h.objs.size:=lc hS;refine ED D8 ?_;rw[De CJ _];show o0 _ A.in1 (DE (.ref e)>>=_) _ _ _;refine bn (uU (s:={s with heap:=h,toks:=tk}) (A:=A.in1) (S:=S) D hst (BS hiS hSl) hSl hD hlt hne hef λx h' tk' hP hst' hD' ht hz hkp=>?_);dsimp only at ht hz hkp ⊢;have hS':=hkp S _ (Aa heS) (Aa hiS) hS;have up:∀b o,b≠S->h'.get? b=some o->(h'.update S (A3 (·.push (Value.ref h.objs.size)))).get? b=some o:=λb o hb e=>(sB _ _ (AB hb)).trans e;show o0 _ A.in1 (Ft S (·.push (Value.ref h.objs.size))>>=_) _ _ _;refine bn ?_;refine Dq hS' rfl (ww ⟨Fg CJ _,ih (i+1) _ (tk'+1) _ (acc.push (Value.ref h.objs.size)) (as++[h.objs.size]) (by omega) hlt (hst'.keep up (zM heS)) (D.frame _ _ _ hD' λb hb o e=>up b o (λq=>hSf (q▸hb)) e)
   (λb o h1 h2 h3 e=>up b o h1 (hkp b o h2 h3 (hkeep b o h1 h2 h3 e))) (zV _ hS' rfl) (by rw[Array.toList_push,hacc,zW];rfl) (by rw[pc,hal];rfl) ⟨?_,?_,?_⟩⟩) (by rw[hsz];omega) (by show(acc.push (Value.ref h.objs.size)).size<=xz+1;rw[Array.size_push,hsz];omega)
  ·refine List.pairwise_append.mpr ⟨hG.rise,List.pairwise_singleton _ _,λa ha b hb=>?_⟩;rw[Ac.mp hb];exact hG.there ha
  ·intro a ha;rcases Bc.mp ha with ha | ha
   ·exact hG.above a ha
   ·rw[Ac.mp ha];exact hSl
  ·intro j b hj;rcases Nat.lt_trichotomy j as.length with h1 | h1 | h1
   ·rw[Aj h1]at hj;obtain⟨t,x',e1,e3⟩:=hG.pairs j b hj;have hb:=hG.above b (wp hj);exact⟨t,x',e1,up b _ (Aa hb) (hkp b _ (Aa (BS heS hb)) (Aa (BS hiS hb)) e3)⟩
   ·subst h1;have hb:h.objs.size=b:=by simpa using hj
    subst hb;exact⟨tk',x,by rw[hal];exact hP,by rw[hal];exact up _ _ (Aa hSl) ht⟩
   ·have hnone:(as++[h.objs.size])[j]? = none:=Ab (by rw[pc,xL];omega);rw[hnone]at hj;cases hj
end
theorem oN:D1 (.type "enumerate") "__len__" = pure none:=by rw[GX,FZ];kernel_rfl
theorem mQ:D1 (.type "enumerate") "__length_hint__" = pure none:=by rw[GX,FZ];kernel_rfl
section
variable {prog:wE}{w:z8}{A:zX}{E:bd->db->Prop}{s:db}
theorem wW {e it:Addr}{fp:List Addr}{n:Nat}{P:Nat->bd->Prop}{St:Nat->Heap->Prop}{old:bd}{Q:bd->db->Prop}(D:GN prog w A.in1.in1.in1 it fp n P St)(he:E5 s.heap e it 0 old)(hit:it<s.heap.objs.size)(hst:St 0 s.heap)(hne:e≠it)(hef:e∉fp)(hfp:∀b∈fp,b<s.heap.objs.size)(hn:n<=xz)
  (hQ:∀h' tk acc c as,(∀b o,b≠e->b≠it->s.heap.get? b=some o->h'.get? b=some o)->h'.get? s.heap.objs.size=some {cls:=.type "list",dict:=none,data:=.seq acc c,slots:=#[]}->as.length=n->LeG P s.heap.objs.size h' as ->
   acc.toList=as.map Value.ref->Q (.ref s.heap.objs.size) {s with heap:=h',toks:=tk}) :
  o0 (wn prog w) A (call (.type "list") [.ref e]) Q E s:=by
 refine callType_codes (Q₁:=λobj s₁=>obj = .ref s.heap.objs.size/\s₁={s with heap:=s.heap.push {cls:=.type "list",data:=.seq #[]}}) PySem.F.called_list (PySem.F.typeCall_list_1 _) PySem.F.entry_list_init
  (code_list_new _ ⟨rfl,rfl⟩) λobj s₁ h₁=>?_
 obtain⟨rfl,rfl⟩:=h₁;have hel:e<s.heap.objs.size:=lc he;have hS:(s.heap.push {cls:=.type "list",data:=.seq #[]}).get? s.heap.objs.size=some {cls:=.type "list",data:=.seq #[]}:=wP _ rfl;have old1:∀b o,s.heap.get? b=some o->(s.heap.push {cls:=.type "list",data:=.seq #[]}).get? b=some o:=λb o e=>dL _ e;have lts:∀b o,s.heap.get? b=some o->b≠s.heap.objs.size:=λb o e=>zM (lc e);refine⟨⟨_,hS,rfl⟩,PySem.F.args_list_init_2 _ _,?_⟩;generalize hS0:s.heap.objs.size=S at hS hit hfp hQ hel lts ⊢;generalize hh1:s.heap.push {cls:=.type "list",data:=.seq #[]}=hp1 at hS old1 ⊢;show o0 _ _ (do let old <- DW (.ref S);G_ (.ref S) (λ_=>#[]);letGo old.toList.reverse;Ci (.ref S) (.ref e) .none) _ _ _;refine bn ?_;unfold DW;refine bn (EO hS rfl (ww ?_));show o0 _ _ (Ft S (λ_=>#[])>>=λ_=>letGo (#[]:Array bd).toList.reverse>>=λ_=>Ci (.ref S) (.ref e) .none) _ _ _;refine bn (Dq hS rfl ?_);have hS₂:=zV (A3 (λ_=>(#[]:Array bd))) hS rfl;have oth:∀b o,b≠S->hp1.get? b=some o->(hp1.update S (A3 (λ_=>(#[]:Array bd)))).get? b=some o :=
  λb o hb e=>(sB _ _ (AB hb)).trans e
 refine bn (wpAny_letGo ?_);generalize hp1.update S (A3 (λ_=>(#[]:Array bd)))=hp2 at hS₂ oth ⊢;have old2:∀b o,s.heap.get? b=some o->hp2.get? b=some o:=λb o e=>oth b o (lts b o e) (old1 b o e);have he2:E5 hp2 e it 0 old:=old2 _ _ he;have hT2:Shared.TypeIs {s with heap:=hp2} (.ref e) "enumerate" := ⟨_,he2,rfl⟩
 unfold Ci;refine bn (wpAny_typeOf hT2 ?_);have h1:DL (.ref S) (.ref e)=false:=by simp[DL,Aa hel]
 have h2:(Value.type "enumerate" == Value.type "list")=false:=by decide
 have h3:(Value.type "enumerate" == Value.type "tuple")=false:=by decide
 simp only[h1,h2,h3,Gv,BB,if_false];refine bn (Ed he2 ?_);refine bn (DQ ?_);unfold Hc;refine bn (Dr hT2 oN ?_);show o0 _ _ (specialOf (Value.ref e) (C7 "__length_hint__")>>=_) _ _ _;refine bn (Dr hT2 mQ ?_);refine ww ?_;show o0 _ _ (rule "list.extend.makes-room" >>= λ_=>Ha (.ref S)>>=λ_ =>
  F9 (.builtin "list.extend.loop" ⟨[.ref S,.ref e,.none],[]⟩)) _ _ _
 refine bn (Gk ?_);refine bn ?_;show o0 _ _ (Ft S (·.push .none)>>=λ_=>Ft S (·.pop)) _ _ _;refine bn (Dq hS₂ rfl ?_);have hS₃:=zV (A3 (·.push Value.none)) hS₂ rfl;refine Dq (hz:=by seq_fits) hS₃ rfl ?_;have hS₄:=zV (A3 (·.pop)) hS₃ rfl;have oth4:∀b o,b≠S->hp2.get? b=some o->((hp2.update S (A3 (·.push Value.none))).update S (A3 (·.pop))).get? b=some o :=
  λb o hb e=>(sB _ _ (AB hb)).trans ((sB _ _ (AB hb)).trans e)
 generalize (hp2.update S (A3 (·.push Value.none))).update S (A3 (·.pop))=hp4 at hS₄ oth4 ⊢;have old4:∀b o,s.heap.get? b=some o->hp4.get? b=some o:=λb o e=>oth4 b o (lts b o e) (old2 b o e);refine ww ⟨Fg CJ _,?_⟩;refine wV (s:=s) (h₁:=s.heap) D hel hit hne hef (λq=>AZ _ (hfp _ q)) hn .none (λh' tk acc c as hk hS' hl hG hacc=>?_) n 0 hp4 s.toks _ #[] [] (DN _) (zS _) (.inl ⟨old,old4 _ _ he⟩) (D.frame _ _ _ hst λb hb o e=>old4 b o e) (λb o _ _ _ e=>old4 b o e) hS₄ rfl rfl
  ⟨List.Pairwise.nil,(λ_ ha=>nomatch ha),(λj a hj=>by simp at hj)⟩
 exact⟨rfl,hQ h' tk acc c as (λb o h1 h2 e=>hk b o (lts b o e) h1 h2 e) hS' hl hG hacc⟩
end
theorem kf {X:Cx}{pins:List (Addr×Obj)}{σ:St}{s:db}{H1:Hp}{lo:Addr}(fp:∀b,lo<=b->FpOk X pins H1 b):∀(as:List Addr) (xs:List V) (k:Nat) (H:Hp),Inv X pins σ H s->as.Pairwise (· < ·)->(∀a∈as,lo<=a)->(∀a∈as,H a=none) ->
  (∀j a,as[j]? = some a->∃tk x u,xs[j]? = some x/\RelV x u/\s.heap.get? a=some {cls:=.type "tuple",data:=.seq #[.int ((k+j:Nat):Int) tk,u]}) ->
  ∃H',Inv X pins σ H' s/\Same H H'/\(∀j a,as[j]? = some a->∃x,xs[j]? = some x/\H' a=some (.tup [.int ((k+j:Nat):Int),x]))/\∀b,b∉as->H' b=H b
 | [],xs,k,H,I,_,_,_,_=>⟨H,I,.refl _,(λj a h=>by simp at h),λ_ _=>rfl⟩
 | a::as,xs,k,H,I,hp,hl,hn,ht=>by
  obtain⟨tk,x,u,ex,ru,eu⟩:=ht 0 a rfl;have ea:=hn a z7;have hp':=List.pairwise_cons.mp hp;have ne:∀b∈as,b≠a:=λb hb=>Aa (hp'.1 b hb);have I2:=I.trackO (p:=a) (o:=.tup [.int ((k:Nat):Int),x]) ⟨ea,(fp a (hl a z7)).2⟩ ⟨by show 2<=xz;decide,[.int ((k:Nat):Int) tk,u],.cons ⟨_,rfl⟩ (.cons ru .nil),_,eu,rfl,_,rfl⟩;cases xs with
  | nil=>simp at ex
  | cons x0 xs =>
   simp only[Bz,AV]at ex;subst ex;obtain⟨H',J1,J2,J3,J4⟩:=kf fp as xs (k+1) _ I2 hp'.2 (λb hb=>hl b (zO _ hb)) (λb hb=>by rw[aW (ne b hb)];exact hn b (zO _ hb)) (λj b hj=>by
    obtain⟨tk,x,u,e1,e2,e3⟩:=ht (j+1) b (by simpa using hj);exact⟨tk,x,u,by simpa using e1,e2,by rw[show k+1+j=k+(j+1)by omega];exact e3⟩)
   refine⟨H',J1,λb o e=>J2 b o (by rw[aW (bB e ea)];exact e),λj b hj=>?_,λb hb=>?_⟩
   ·cases j with
    | zero =>
     simp only[Bz,AV]at hj;subst hj;exact⟨x0,rfl,J2 a _ bh⟩
    | succ j =>
     obtain⟨x,e1,e2⟩:=J3 j b (by simpa using hj);exact⟨x,by simpa using e1,by rw[show k+(j+1)=k+1+j by omega];exact e2⟩
   ·have nb:b≠a:=λz=>hb (z▸z7);rw[J4 b (λz=>hb (zO _ z)),aW nb]
def tLsE (K:ac)(t:TA):TE:=λσ H Q=>t σ H λvs H1=>∃l xs,vs=[.ref l]/\SqT K H1 l xs/\∀ys H0 p,Same H1 H0->ys.length=xs.length ->
 (∀j x,xs[j]? = some x->∃q,ys[j]? = some (.ref q)/\H1 q=none/\H0 q=some (.tup [.int (j:Nat),x]))->H0 p=none->Q (.ref p) (upd H0 p (.lst ys))
theorem sA (K:ac){X:Cx}{a:Expr}{ta:TA}{p1 p2 pos1 pos2:Pos}(hc:X.calm=true)(hg1:Gl X "list")(hm1:X.mg "list" = none)(hg2:Gl X "enumerate")(hm2:X.mg "enumerate" = none)(ha:PA X [a] ta)(hK:X.K=K:=by rfl)
  (hs1:zT [.Call (.Name "enumerate" p2) [a] [] pos2] X.env=[(false,eval (.Call (.Name "enumerate" p2) [a] [] pos2) X.env)]:=by rfl) (hs2:zT [a] X.env=[(false,eval a X.env)]:=by rfl) :
  PE X (.Call (.Name "list" p1) [.Call (.Name "enumerate" p2) [a] [] pos2] [] pos1) (tLsE K ta):=by
 subst hK;intro pins s σ H Q I h;refine Gc (gn I hg1 hm1 tV (An ?_ hs1 rfl));rw[hs1];show o0 _ _ (Gz [(false,eval (.Call (.Name "enumerate" p2) [a] [] pos2) X.env)]) _ _ s;refine BY ?_;refine Gc (gn I hg2 hm2 iG (An (thn (ha pos2 pins s σ H _ I h) λus s1 ⟨vs,H1,I1,r1,q1⟩=>?_) hs2 rfl));obtain⟨l,xs,rfl,h1,q⟩:=q1;obtain⟨u,rfl,ru⟩:=kN r1;cases ru
 obtain⟨its,rv,p1,hz⟩:=I1.tuple h1;have lt:l<s1.heap.objs.size:=by obtain⟨o,e,_⟩:=id p1;exact lc e
 refine kL p1 λh' he hi hsz hk=>B6 ?_;have pt1:h'.IsTuple l its.toArray:=by obtain⟨o,e,r⟩:=p1;exact⟨o,hk _ _ e,r⟩
 have nl:l≠s1.heap.objs.size:=zM lt;have nel:s1.heap.objs.size+1≠l:=AB (zM (DO lt));have ltI:s1.heap.objs.size<h'.objs.size:=by rw[hsz];exact Nat.lt_add_of_pos_right (by decide)
 have e0:E5 h' (s1.heap.objs.size+1) s1.heap.objs.size ((0:Nat):Int) .none:=he;refine wW (s:={s1 with heap:=h'}) (jF (show X.A.in1.in1.in1.handled=none from I1.ok.hd hc) s1.heap.objs.size l nl its.toArray) he ltI ⟨hi,pt1⟩ (Ga _) (λz=>by
  simp only[wS,A6,or_false]at z;rcases z with z | z
  ·exact Ga _ z
  ·exact nel z) (λb hb=>?_) (by rw[li,<- rv.length];exact hz) λh2 tk acc c as hk2 hS hl hG hacc=>?_
 ·show b<h'.objs.size;simp only[wS,A6,or_false]at hb;rcases hb with rfl | rfl
  ·exact ltI
  ·exact BS lt ltI
 ·have hle:s1.heap.objs.size<=h'.objs.size:=by omega
  have hS':h2.get? h'.objs.size=some {cls:=.type "list",dict:=none,data:=.seq acc c,slots:=#[]}:=hS;have le0:∀b,s1.heap.objs.size<=b->FpOk X pins H1 b:=λb hb=>I1.fpOk hb (I1.hok.fresh hb);have I2:Inv X pins σ H1 {s1 with heap:=h'}:=I1.kept (t':=s1.toks) hk;have I3:Inv X pins σ H1 {s1 with heap:=h2,toks:=tk}:=Inv.turns (s:={s1 with heap:=h'}) (ch:=[s1.heap.objs.size+1,s1.heap.objs.size]) (t':=tk) I2 (λb o hb e=>by
   simp only[wS,A6,or_false,not_or]at hb;exact hk2 b o hb.1 hb.2 e) (λb hb=>le0 b (by
    simp only[wS,A6,or_false]at hb;rcases hb with rfl | rfl
    ·exact G7 _
    ·exact lm _))
  have abv:∀b∈as,h'.objs.size<b:=hG.above;obtain⟨H0,J1,J2,J3,J4⟩:=kf (lo:=s1.heap.objs.size) le0 as xs 0 H1 I3 hG.rise (λb hb=>zQ hle (Am (abv b hb))) (λb hb=>I1.hok.fresh (zQ hle (Am (abv b hb)))) (λj b hj=>by
   obtain⟨t,x,e1,e2⟩:=hG.pairs j b hj;have e1':its[j]? = some x:=by simpa using e1
   have hjl:j<xs.length:=by rw[rv.length];exact(kt.mp e1').1
   obtain⟨u,hu,ru⟩:=rv.get (bv hjl);rw[e1']at hu;cases hu
   exact⟨t,xs[j],x,bv hjl,ru,by rw[Ba];exact e2⟩)
  have nS:h'.objs.size∉as:=λz=>AZ _ (abv _ z);have f0:=le0 h'.objs.size (by omega);have n0:H0 h'.objs.size=none:=by rw[J4 _ nS];exact f0.1
  have hal:as.length=xs.length:=by rw[hl,li,<- rv.length]
  have vr:∀l:List Addr,Vals (l.map V.ref) (l.map Value.ref):=λl=>by
   induction l with
   | nil=>exact .nil
   | cons a l ih=>exact .cons rfl ih
  have I4:=J1.track (D:=h'.objs.size) (ys:=as.map V.ref) (its:=acc.toList) (n:=c) n0 (zQ I1.sz (by omega)) f0.2.1 f0.2.2.2.2.1 f0.2.2.2.2.2 (by rw[im,hal];exact hz) (by rw[hacc];exact vr as) (by simpa using hS');refine⟨.ref h'.objs.size,_,I4,rfl,q _ H0 _ J2 (by rw[im,hal]) (λj x hx=>?_) n0⟩;have hj:j<as.length:=by rw[hal];exact(kt.mp hx).1
  obtain⟨x',e1,e2⟩:=J3 j as[j] (bv hj);rw[hx]at e1;cases e1
  rw[Ba]at e2;refine⟨as[j],by rw[lw,bv hj];rfl,I1.hok.fresh (zQ hle (Am (abv as[j] (Au hj)))),e2⟩
section
variable {K:ac}{ts:TA}{as:AA}
def aLsE (as:AA):AE:=λρ q=>as ρ λrs ρ1=>match rs with
 | [.d (.tup ds)]=>q (.n (.ow (iq 0 ds))) ρ1
 | _=>False
theorem pC {H1 H0:Hp}:∀ {vs:List V} {ds:List D} {ys:List V} {b:Nat},RepDs K H1 vs ds->ys.length=vs.length->(∀j x,vs[j]? = some x->∃q,ys[j]? = some (.ref q)/\H0 q=some (.tup [.int ((b+j:Nat):Int),x]))->(∀a o,H1 a=some o->H0 a=some o)->RepDs K H0 ys (iq b ds)
 | [],[],ys,b,_,hl,_,_=>by
  cases ys with
  | nil=>exact .nil
  | cons _ _=>simp at hl
 | v::vs,d::ds,ys,b,r,hl,hy,sm=>by
  cases ys with
  | nil=>simp at hl
  | cons y ys =>
   unfold RepDs at r;obtain⟨q,e1,e2⟩:=hy 0 v rfl;simp only[Bz,AV]at e1;subst e1;refine .cons ?_ (pC (b:=b+1) r.2 (by simpa using hl) (λj x hx=>?_) sm)
   ·unfold RepD;exact⟨q,[.int (b:Nat),v],rfl,e2,.cons (by unfold RepD;rfl) (.cons (r.1.same sm) .nil)⟩
   ·obtain⟨q',e3,e4⟩:=hy (j+1) x (by simpa using hx);exact⟨q',by simpa using e3,by rw[show b+1+j=b+(j+1)by omega];exact e4⟩
 | [],_::_,_,_,r,_,_,_=>by unfold RepDs at r;exact r.elim
 | _::_,[],_,_,r,_,_,_=>by unfold RepDs at r;exact r.elim
theorem nF (h:TAok K ts as):TEok K (tLsE K ts) (aLsE as):=by
 intro F σ ρ H q Q r ha k;refine h F σ ρ H _ _ r ha λrs ρ1 vs H1 h1 r1 i1 k1=>?_;split at h1
 ·rename_i ds;obtain⟨x,rfl,ix⟩:=i1.one;have rd:RepD K _ x (.tup ds):=ix;unfold RepD at rd;obtain⟨a,vs,rfl,sq,rd⟩:=rd;refine⟨a,vs,rfl,bW.seqT sq.sq,λys H0 p sm hl hy hp=>?_⟩;have k0:Kp σ ρ1 ρ1 H1 H0:=⟨λa o e _=>sm a o e,λ_ h=>h⟩
  have hv:∀ {b},H1 b=none->¬hs F σ ρ1 b:=λ{b} e z=>pX r1 z e;refine k (.n (.ow (iq 0 ds))) ρ1 _ _ h1 ⟨H0,p,_,r1.grow sm,k1.trans k0,rfl,⟨p,ys,rfl,bh,?_⟩,hp,rfl,rfl⟩;refine pC rd hl (λj x hx=>?_) k0.vis;obtain⟨q',e1,e2,e3⟩:=hy j x hx;exact⟨q',e1,eB (hv e2) (by rw[Ba];exact e3)⟩
 ·exact h1.elim
end
theorem pD {κ:Type} [DecidableEq κ](kvs:List (κ×D))(k:κ)(d:D):(putD kvs k d).length<=kvs.length+1:=by
 unfold putD;split
 ·simp
 ·simp
theorem i0:isSubtype (.type "range_iterator") (.type "reversed")=pure false:=by rw[isSubtype_type];kernel_rfl
section
variable {prog:wE}{w:z8}{A:zX}{E:bd->db->Prop}{s:db}
theorem qy {r:Addr}{a b c:Int}{t u v:Tok}{Q:Int×Int×Int->db->Prop}(hr:GL s.heap r a b c t u v)(h:Q (a,b,c) s):o0 (wn prog w) A (DB (.ref r)) Q E s:=by
 unfold DB;refine bn (z6 hr rfl (x:=.int a t) rfl ?_);refine bn (BD (a:=some a) rfl ?_);refine bn (z6 hr rfl (x:=.int b u) rfl ?_);refine bn (BD (a:=some b) rfl ?_);refine bn (z6 hr rfl (x:=.int c v) rfl ?_);refine bn (BD (a:=some c) rfl ?_);exact ww h
theorem mY {r:Addr}{n:Nat}{t u v:Tok}{Q:bd->db->Prop}(hr:GL s.heap r 0 n 1 t u v)(hn:n<=1000000)
  (h:Q (.ref s.heap.objs.size) {s with heap:=s.heap.push {cls:=.type "range_iterator",data:=.fields #[Ae ((n:Int) - 1),Ae n,Ae (-1)]}}) :
  o0 (wn prog w) A (call (.builtin "range.__reversed__") [.ref r]) Q E s:=by
 have hT:s.TypeIs (.ref r) "range" := ⟨_,hr,rfl⟩
 refine Cq Do hT F.entry_range_reversed ?_ (F.args_range_reversed_1 _);have e0:BO 0 n 1=n:=by unfold BO;simp;omega
 have es:(zR 0&&zR n&&zR 1&&zR (-1)&&zR (0 - 1)&&zR n)=true:=by
  simp only[zR,zY,decide_eq_true_eq];omega
 unfold Builtin.«range.__reversed__»;refine bn (BD (a:=Value.ref r) (by first | rfl | kernel_rfl) ?_);refine bn (qy hr ?_);show o0 _ _ (if(!(zR 0&&zR n&&zR 1&&zR (-1)&&zR (0 - 1)&&zR (BO 0 n 1)))=true then _ else _) _ _ _;rw[e0,es];simp only[Bool.not_true,BB,if_false,if_true];refine bn ?_;unfold Fu;refine Bg (ww ⟨_,rfl,?_⟩);have e1:(0:Int)+((n:Int) - 1)*1=(n:Int) - 1:=by omega
 rw[e1];exact h
theorem mX {r:Addr}{n:Nat}{t u v:Tok}{Q₁:bd->db->Prop}(hr:GL s.heap r 0 n 1 t u v)(hn:n<=1000000)
  (h:Q₁ (.ref s.heap.objs.size) {s with heap:=s.heap.push {cls:=.type "range_iterator",data:=.fields #[Ae ((n:Int) - 1),Ae n,Ae (-1)]}}) :
  CB (wn prog w) A (.call (.builtin "reversed.__new__") ⟨[.type "reversed",.ref r],[]⟩) (wants Q₁ E) s:=by
 have hT:s.TypeIs (.ref r) "range" := ⟨_,hr,rfl⟩
 refine GZ ?_;show o0 _ A.in1 (do Es "reversed.__new__" ⟨[.type "reversed",.ref r],[]⟩;F9 (.builtin "reversed.__new__" ⟨[.type "reversed",.ref r],[]⟩)) _ _ s;refine bn (BD (F.newCall_reversed_1 _) (ww ⟨Fg FU _,ED F.entry_reversed_new ?_⟩));rw[De FU _];unfold Builtin.«reversed.__new__»;refine bn (BD (newClass_reversed _) ?_);try dsimp only
 refine bn (BD (a:=()) (by first | rfl | kernel_rfl) ?_);refine bn (BD (a:=()) (by first | rfl | kernel_rfl) ?_);try dsimp only
 refine bn (Dr hT Do.lookup ?_);try dsimp only
 refine bn (BD (Do.bind _) ?_);try dsimp only
 first
 | rw[if_neg (show ¬((Value.builtin "range.__reversed__" == Value.none)=true)from Ad)]
 | (show o0 _ _ (if(Value.builtin "range.__reversed__" == Value.none)=true then _ else _) _ _ _;rw[if_neg (show ¬((Value.builtin "range.__reversed__" == Value.none)=true)from Ad)])
 refine bn (Gk ?_);refine bn (m:=runValue (.call (.builtin "range.__reversed__") ⟨[.ref r],[]⟩)) (show o0 _ _ (call (.builtin "range.__reversed__") [.ref r]) _ _ _ from mY hr hn ?_);first
 | exact ww h
 | exact bn (ww (ww h))
theorem mZ {r:Addr}{n:Nat}{t u v:Tok}{Q:bd->db->Prop}(hr:GL s.heap r 0 n 1 t u v)(hn:n<=1000000)
  (h:Q (.ref s.heap.objs.size) {s with heap:=s.heap.push {cls:=.type "range_iterator",data:=.fields #[Ae ((n:Int) - 1),Ae n,Ae (-1)]}}):o0 (wn prog w) A (call (.type "reversed") [.ref r]) Q E s:=by
 refine callType_other (U := "range_iterator") (Q₁:=λobj s₁=>obj = .ref s.heap.objs.size/\s₁={s with heap:=s.heap.push {cls:=.type "range_iterator",data:=.fields #[Ae ((n:Int) - 1),Ae n,Ae (-1)]}}) (by decide +kernel) F.create_reversed ⟨_,_,F.mro_reversed⟩ F.made_reversed i0 (F.typeCall_reversed_1 _) (mX hr hn ⟨rfl,rfl⟩) ?_;rintro obj s₁ ⟨rfl,rfl⟩;exact⟨⟨_,wP _ rfl,rfl⟩,h⟩
end
def yG (ta:TA):TI:=λσ H R=>ta σ H λvs H1=>∃n:Nat,vs=[.int n]/\n<=1000000/\R (Itd ((n:Int) - 1) n) H1
theorem nX {X:Cx}{tg:Expr}{a:Expr}{ta:TA}{p p2 pos pos2:Pos}(hg1:Gl X "reversed")(hm1:X.mg "reversed" = none)(hg:Gl X "range")(hm:X.mg "range" = none)(ha:PA X [a] ta)
  (ho:zT [.Call (.Name "range" p2) [a] [] pos2] X.env=[(false,eval (.Call (.Name "range" p2) [a] [] pos2) X.env)]:=by rfl) (hs:zT [a] X.env=[(false,eval a X.env)]:=by rfl) :
  PI X tg (.Call (.Name "reversed" p) [.Call (.Name "range" p2) [a] [] pos2] [] pos) (yG ta):=by
 intro pins s σ H R I h;refine Gc (gn I hg1 hm1 jO (An ?_ ho rfl));rw[ho];show o0 _ _ (Gz [(false,eval (.Call (.Name "range" p2) [a] [] pos2) X.env)]) _ _ s;refine BY ?_;refine Gc (gn I hg hm boot_range (An (thn (ha pos2 pins s σ H _ I h) λus s1 ⟨vs,H1,I1,r1,q1⟩=>?_) hs rfl));obtain⟨n,rfl,hn,q⟩:=q1;obtain⟨u,rfl,ru⟩:=kN r1;obtain⟨t,rfl⟩:=ru;refine call_range_1 (B6 ?_);refine mZ (Gh ..) hn ?_;have it0:Ez ((s1.heap.push {cls:=.type "range",data:=.fields #[.int 0 s1.toks,.int n t,.int 1 (s1.toks+1)]}).push {cls:=.type "range_iterator",data:=.fields #[Ae ((n:Int) - 1),Ae n,Ae (-1)]}) (s1.heap.push {cls:=.type "range",data:=.fields #[.int 0 s1.toks,.int n t,.int 1 (s1.toks+1)]}).objs.size (((n:Int) - 1)+((0:Nat):Int)*(-1)) ((n:Int) - ((0:Nat):Int)) (-1):=by
  have e1:((n:Int) - 1)+((0:Nat):Int)*(-1)=(n:Int) - 1:=by simp
  have e2:((n:Int) - ((0:Nat):Int))=n:=by simp
  rw[e1,e2];exact wP _ rfl
 refine Di it0 ?_;have I2:Inv X pins σ H1 {s1 with heap:=s1.heap.push {cls:=.type "range",data:=.fields #[.int 0 s1.toks,.int n t,.int 1 (s1.toks+1)]},toks:=s1.toks+1+1}:=I1.kept λb o e=>dL _ e;refine⟨_,[(s1.heap.push {cls:=.type "range",data:=.fields #[.int 0 s1.toks,.int n t,.int 1 (s1.toks+1)]}).objs.size],_,_,H1,rfl,I2.kept (t':=s1.toks+1+1) λb o e=>dL _ e,rB _ ((n:Int) - 1) n,it0,λb hb=>?_,q⟩;have e:b=(s1.heap.push {cls:=.type "range",data:=.fields #[.int 0 s1.toks,.int n t,.int 1 (s1.toks+1)]}).objs.size:=by simpa using hb
 subst e;exact I2.fpOk (lm _) (I2.hok.fresh (lm _))
section
variable {K:ac}{ts:TA}{as:AA}
def zy (as:AA):AI:=λρ q=>as ρ λrs ρ1=>match rs with
 | [.d (.int j)]=>(0<=j/\j<=1000000)/\q (dwnD (j - 1) j.toNat) (λ_=>True) ρ1
 | _=>False
theorem iX {pin:Nat->Bool}(h:TAok K ts as):TIok K pin (yG ts) (zy as):=by
 intro F σ ρ H q Rk r ha k;refine h F σ ρ H _ _ r ha λrs ρ1 vs H1 h1 r1 i1 k1=>?_;split at h1
 ·rename_i j;obtain⟨x,rfl,ix⟩:=i1.one;obtain⟨⟨h0,hz⟩,h1⟩:=h1;obtain⟨n,rfl⟩:=AH h0;rw[Aq]at h1;exact⟨n,by rw[ix.int],by omega,k _ _ _ _ _ h1 r1 k1 λ_ _ _ _ _ _ _ _=>xH⟩
 ·exact h1.elim
end
end L2
namespace L2
theorem zq {R:List Nat}{i:Nat}(h:i<R.length):R.getD i 0=R[i]:=by rw[bi,bv h];rfl
theorem oK {A B:List Nat}{i:Nat}(h:i<A.length):(A++B).getD i 0=A.getD i 0:=by
 simp only[bi];rw[Aj h]
theorem xh {A:List Nat}{x:Nat}:(A++[x]).getD A.length 0=x:=by simp
theorem fV:∀ {js:List (Nat×Nat)} {rows:List Nat} {i:Nat},i<rows.length->(js.foldl aF rows).getD i 0=rows.getD i 0
 | [],_,_,_=>rfl
 | p::r,rows,i,h=>by
  rw[Bd,fV (by rw[cZ];omega)];exact oK h
theorem tI:∀ {js:List (Nat×Nat)} {rows:List Nat} {k:Nat} {p:Nat×Nat},okIx rows.length js->js[k]? = some p ->
  (js.foldl aF rows).getD (rows.length+k) 0=(js.foldl aF rows).getD p.1 0 ^^^ (js.foldl aF rows).getD p.2 0
 | [],_,_,_,_,e=>by simp at e
 | q::r,rows,k,p,h,e=>by
  obtain⟨h1,h2,h3⟩:=h;rw[Bd];cases k with
  | zero =>
   simp only[Bz,AV]at e;subst e;rw[fV (by rw[cZ];omega),fV (by rw[cZ];omega),fV (by rw[cZ];omega)];have e1:(aF rows q).getD (rows.length+0) 0=rows.getD q.1 0 ^^^ rows.getD q.2 0:=xh;have e2:(aF rows q).getD q.1 0=rows.getD q.1 0:=oK (by omega);have e3:(aF rows q).getD q.2 0=rows.getD q.2 0:=oK (by omega);rw[e1,e2,e3]
  | succ k =>
   have:=tI (js:=r) (rows:=aF rows q) (k:=k) (p:=p) (by rw[cZ];exact h3) (by simpa using e);rw[cZ]at this;rw[<- this];congr 1;omega
theorem yh {m t:Nat}(h:t<m):(aJ m).getD t 0=1 <<< t:=by
 rw[zq (by rw[bu];exact h)];unfold aJ;simp
theorem mf {N:Net}{t:Nat}(h:t<N.m):(cU N).getD t 0=1 <<< t:=by
 unfold cU;rw[fV (by rw[bu];exact h),yh h]
theorem pA {N:Net}(hix:okIx N.m N.js){k:Nat}{p:Nat×Nat}(e:N.js[k]? = some p):(cU N).getD (N.m+k) 0=(cU N).getD p.1 0 ^^^ (cU N).getD p.2 0:=by
 have:=tI (rows:=aJ N.m) (js:=N.js) (k:=k) (p:=p) (by rw[bu];exact hix) e;rw[bu]at this;exact this
end L2
namespace L2
open PySem PySem.Spec PyProof.Rows
section
variable {X:Cx}{R:VK}{E:XK}{C:Addr}{fn:Option Str}{K:ac}{S:ASp}
theorem si {k:Nat}{x y:Str}{ps:List Str}{p np cpos pos:Pos}{e:Expr}{es:List Expr}{t:TA}(F:OkX X.prog X.w X.K X.mg X.base k x ps C fn (spA K S))(hr:Room k X.A)(hx:jS (CX1 X.prog X.w) X E)(ha:PA X.nox (e::es) t)(hg:Gl X x:=by rfl)
  (hdb:(x==("__debug__" : Str))=false:=by decide) (he:zT (e::es) X.env=(false,eval e X.env)::zT es X.env:=by rfl) (hpl:(BW cpos (zT es X.env)).any (·.1)=false:=by rfl)
  (hs:Cr (.Call (.Name x p) (e::es) [] cpos) (some (.Name y np)) pos.line X.env=pure false:=by rfl) :
  PSr X (XW E C fn) (.Assign [.Name y np] (.Call (.Name x p) (e::es) [] cpos) pos) (tRet (nH (spA K S) [] E0 t)):=by
 obtain⟨f,fd,hm,hk,hb,F⟩:=F.ex;intro pins s σ H D e1 I h;have pe:=nZ (p:=p) (sp:=spX C fn (spA K S)) (E:=E) F hr hg hm hk hb .nil hx ha.nox hdb he hpl;have h':nH (spX C fn (spA K S)) [] E t σ H λ_ _=>False:=by
  have h2:t σ H λvs H1=>spA K S (vs++[]) H1 D.rt E0:=h;rw[e1]at h2;exact h2
 exact Ef (thn (pe pins s σ H _ I h') λv s1 ⟨_,_,_,_,q1⟩=>q1.elim) hs
end
end L2
set_option maxHeartbeats 2000000
namespace L2
open PySem PySem.Spec PyProof.Rows
end L2
namespace L2
open PySem
end L2
namespace L2
open PySem PySem.Spec PyProof.Rows
end L2
set_option maxHeartbeats 3200000
namespace L2
open PySem PySem.Spec PyProof.Rows
end L2
set_option maxHeartbeats 1000000
namespace L2
open PySem PySem.Spec PyProof.Rows
end L2
namespace L2
open PySem PySem.Spec PyProof.Rows PySem.W
end L2
namespace L2
open PySem PySem.Spec PyProof.Rows
mutual
def noL:D->Bool
 | .lst _=>false
 | .tup ds=>noLs ds
 | _=>true
def noLs:List D->Bool
 | []=>true
 | d::ds=>noL d&&noLs ds
end
section
variable {K:ac}{H H':Hp}
mutual
theorem RepD.tups (ht:∀a vs,StT H a vs->StT H' a vs):∀ {v:V} {d:D},noL d=true->RepD K H v d->RepD K H' v d
 | v,.non,_,h=>by unfold RepD at h ⊢;exact h
 | v,.bl b,_,h=>by unfold RepD at h ⊢;exact h
 | v,.int i,_,h=>by unfold RepD at h ⊢;exact h
 | v,.str x,_,h=>by unfold RepD at h ⊢;exact h
 | v,.tup ds,z,h=>by
  unfold RepD at h ⊢;obtain⟨a,vs,e,h1,h2⟩:=h;exact⟨a,vs,e,ht _ _ h1,RepDs.tups ht (by unfold noL at z;exact z) h2⟩
 | v,.lst ds,z,h=>by unfold noL at z;cases z
theorem RepDs.tups (ht:∀a vs,StT H a vs->StT H' a vs):∀ {vs:List V} {ds:List D},noLs ds=true->RepDs K H vs ds->RepDs K H' vs ds
 | [],[],_,_=>RepDs.nil
 | v::vs,d::ds,z,h=>by
  unfold RepDs at h ⊢;unfold noLs at z;rw[zY]at z;exact⟨RepD.tups ht z.1 h.1,RepDs.tups ht z.2 h.2⟩
 | [],d::ds,_,h=>by unfold RepDs at h;exact h.elim
 | v::vs,[],_,h=>by unfold RepDs at h;exact h.elim
end
end
def svN:Sv->Bool
 | .un=>true
 | .vl d=>noL d
 | .ow ds=>noLs ds
 | _=>false
def svNs:En->Bool
 | []=>true
 | s::ss=>svN s&&svNs ss
theorem bG:∀ {ss:En} (i:Nat),svNs ss=true->svN (gt ss i)=true
 | [],i,_=>rfl
 | s::ss,0,h=>by unfold svNs at h;rw[zY]at h;exact h.1
 | s::ss,i+1,h=>by unfold svNs at h;rw[zY]at h;exact bG i h.2
section
variable {K:ac}{F:Fr}{σ:St}{ρ ρ':En}{H H':Hp}{vs:List V}{ss ss':En}{Z Z':Addr->Prop}
theorem SvOk.tups {Hh Hh':Hp}{v:Option (Option V)}{s:Sv}(h:SvOk K Hh H v s)(z:svN s=true)(ht:∀a vs,StT Hh a vs->StT Hh' a vs)(k:∀l o,s.own=true->v=some (some (.ref l))->H l=some o->H' l=some o):SvOk K Hh' H' v s:=by
 cases s with
 | un=>trivial
 | vl d=>obtain⟨x,e,r⟩:=h;exact⟨x,e,r.tups ht z⟩
 | ow ds=>obtain⟨l,vs,e,a,r⟩:=h;exact⟨l,vs,e,k _ _ rfl e a,r.tups ht z⟩
 | tp n=>cases z
 | dk kvs=>cases z
 | dt kvs=>cases z
 | ex C fs=>cases z
 | sc ns=>cases z
 | px d C fs=>cases z
 | xl es=>cases z
 | ob _ _=>cases z
 | ll _=>cases z
 | ds _ _ _=>cases z
end
end L2
namespace L2
open PySem PySem.Spec PyProof.Rows PySem.W
end L2
namespace L2
open PySem PySem.Spec PyProof.Rows
end L2
set_option maxHeartbeats 3200000
namespace L2
open PySem PySem.Spec PyProof.Rows
structure Re (H H2:Hp):Prop where
 no:∀a,H a=none->H2 a=none
 tu:∀b xs,H b=some (.tup xs)->H2 b=some (.tup xs)
 fz:∀b o u,H b=some (.frz o u)->H2 b=some (.frz o u)
 tb:∀b ps,H b=some (.tbl ps)->H2 b=some (.tbl ps)
 ok:∀P w h,HOk P w H h->HOk P w H2 h
theorem Re.refl (H:Hp):Re H H:=⟨λ_ h=>h,λ_ _ h=>h,λ_ _ _ h=>h,λ_ _ h=>h,λ_ _ _ h=>h⟩
def Des (H:Hp):Prop:=∃P w h,HOk P w H h
section
variable {X:Cx}{pins:List (Addr×Obj)}{σ:St}{H H2:Hp}{s:db}{st:Stmt}{t:TS}
theorem Inv.re (I:Inv X pins σ H s)(r:Re H H2):Inv X pins σ H2 s :=
 ⟨I.ok,I.os,I.bare,⟨I.base.keep,I.base.slot,λb o e n x=>r.no b (I.base.free b o e n x),I.base.there,λb xs e=>r.tu b xs (I.base.tups b xs e),λb o u e=>r.fz b o u (I.base.frzs b o u e),λb ps e=>by
  obtain⟨m,e'⟩:=I.base.tbls b ps e;exact⟨m,r.tb b _ e'⟩⟩,I.loc,I.cell,r.no _ I.free,λx c e=>r.no _ (I.freeC x c e),λp hp=>by
  obtain⟨a,b,c⟩:=I.pin p hp;exact⟨a,r.no _ b,c⟩,r.ok _ _ _ I.hok,I.len⟩
def tRe (t:TS):TS:=λD σ H=>Des H->∃H0,Re H H0/\t {D with nx:=λσ' H'=>Des H'->∃H2,Re H' H2/\D.nx σ' H2} σ H0
theorem iJ (h:PS X st t):PS X st (tRe t):=by
 intro pins s σ H D I ht;obtain⟨H0,r,ht⟩:=ht ⟨_,_,_,I.hok⟩;refine z9 (h pins s σ H0 _ (I.re r) ht) (λf s' q=>?_) λ_ _ z=>z;cases f with
 | next =>
  obtain⟨σ',H',I',q⟩:=q;obtain⟨H2,r2,q⟩:=q ⟨_,_,_,I'.hok⟩;exact⟨σ',H2,I'.re r2,q⟩
 | brk=>exact q
 | cont=>exact q
 | ret u=>exact q
end
theorem ka:∀bs:List Addr,Vals (bs.map V.ref) (bs.map Value.ref)
 | []=>.nil
 | b::bs=>.cons rfl (ka bs)
theorem gg:∀ {bs:List Addr} {its:List bd},Vals (bs.map V.ref) its->its=bs.map Value.ref
 | [],_,.nil=>rfl
 | b::bs,_,.cons r t=>by rw[gg t];cases r;rfl
def opn (H:Hp)(l:Addr)(bs:List Addr)(vss:List (List V)):Hp:=λa=>if a=l then some (.lst (bs.map V.ref))else if a∈bs then some (.lst (vss.getD (bs.idxOf a) []))else H a
def cls (H:Hp)(l:Addr)(bs:List Addr)(vss:List (List V)):Hp:=λa=>if a=l then some (.big bs (LlP l bs vss))else if a∈bs then some (.own l)else H a
structure LlAt (H:Hp)(l:Addr)(bs:List Addr)(vss:List (List V)):Prop where
 nd:bs.Nodup
 ln:vss.length=bs.length
 ow:∀b∈bs,b≠l/\H b=some (.own l)
section
variable {H H':Hp}{l:Addr}{bs:List Addr}{vss:List (List V)}
theorem lj:opn H l bs vss l=some (.lst (bs.map V.ref)):=by unfold opn;rw[if_pos rfl]
theorem lp {b:Addr}(ne:b≠l)(hb:b∈bs):opn H l bs vss b=some (.lst (vss.getD (bs.idxOf b) [])):=by unfold opn;rw[if_neg ne,if_pos hb]
theorem dU {a:Addr}(ne:a≠l)(hb:a∉bs):opn H l bs vss a=H a:=by unfold opn;rw[if_neg ne,if_neg hb]
theorem tO:cls H l bs vss l=some (.big bs (LlP l bs vss)):=by unfold cls;rw[if_pos rfl]
theorem oW {b:Addr}(ne:b≠l)(hb:b∈bs):cls H l bs vss b=some (.own l):=by unfold cls;rw[if_neg ne,if_pos hb]
theorem fe {a:Addr}(ne:a≠l)(hb:a∉bs):cls H l bs vss a=H a:=by unfold cls;rw[if_neg ne,if_neg hb]
theorem LlAt.of (d:Des H)(hl:H l=some (.big bs (LlP l bs vss))):LlAt H l bs vss:=by
 obtain⟨P,w,h,x⟩:=d;obtain⟨ow,p,_⟩:=x l _ hl;exact⟨p.2.1,p.2.2.2.1,ow⟩
theorem vD {b:Addr}(hb:b∈bs):bs[bs.idxOf b]? = some b:=by
 have h:=CD hb;rw[bv h,List.getElem_idxOf h]
theorem sd (hl:H l=some (.big bs (LlP l bs vss)))(A:LlAt H l bs vss):Re H (opn H l bs vss):=by
 have el:∀a o,H a=some o->(∀ps φ,o ≠ .big ps φ)->(∀x,o ≠ .own x)->opn H l bs vss a=some o:=λa o e n1 n2=>by
  have h1:a≠l:=λq=>by subst q;rw[hl]at e;injection e with e;exact n1 _ _ e.symm
  have h2:a∉bs:=λq=>by have:=(A.ow a q).2;rw[e]at this;injection this with this;exact n2 _ this
  rw[dU h1 h2];exact e
 refine⟨λa e=>?_,λb xs e=>el b _ e (λ_ _ z=>(nomatch z)) (λ_ z=>nomatch z),λb o u e=>el b _ e (λ_ _ z=>(nomatch z)) (λ_ z=>nomatch z),λb ps e=>el b _ e (λ_ _ z=>(nomatch z)) (λ_ z=>nomatch z),λP w h x a o e=>?_⟩
 ·have h1:a≠l:=λq=>by subst q;rw[hl]at e;cases e
  have h2:a∉bs:=λq=>by have:=(A.ow a q).2;rw[e]at this;cases this
  rw[dU h1 h2];exact e
 ·obtain⟨ow,p,_⟩:=x l _ hl;obtain⟨z,nd,⟨n,g⟩,ln,items⟩:=p;by_cases h1:a=l
  ·subst h1;rw[lj]at e;injection e with e;subst e;exact⟨by rw[im];exact z,bs.map Value.ref,n,ka bs,g⟩
  by_cases h2:a∈bs
  ·rw[lp h1 h2]at e;injection e with e;subst e;have hk:=vD h2;have lt:bs.idxOf a<vss.length:=by rw[ln];exact CD h2
   obtain⟨z2,its,n2,r,g2⟩:=items _ a (vss.getD (bs.idxOf a) []) hk (by rw[bi,bv lt];rfl);exact⟨z2,its,n2,r,g2⟩
  ·rw[dU h1 h2]at e;refine(x a o e).stay (λ_ _ _ q=>q) (λb q=>?_) λb xs q=>el b _ q (λ_ _ z=>(nomatch z)) λ_ z=>nomatch z;have h3:b≠l:=λz=>by subst z;rw[hl]at q;cases q
   have h4:b∉bs:=λz=>by
    have:=(A.ow b z).2;rw[q]at this;injection this with this;injection this with this;exact h1 this
   rw[dU h3 h4];exact q
theorem se (hl:H l=some (.lst (bs.map V.ref)))(hb:∀(k:Nat) (b:Addr) (vs:List V),bs[k]? = some b->vss[k]? = some vs->H b=some (.lst vs))(nd:bs.Nodup)(ln:vss.length=bs.length)(nl:l∉bs):Re H (cls H l bs vss):=by
 have lb:∀b∈bs,∃vs,H b=some (.lst vs):=λb h=>by
  have lt:bs.idxOf b<vss.length:=by rw[ln];exact CD h
  exact⟨_,hb _ b _ (vD h) (bv lt)⟩
 have el:∀a o,H a=some o->(∀xs,o ≠ .lst xs)->cls H l bs vss a=some o:=λa o e n1=>by
  have h1:a≠l:=λq=>by subst q;rw[hl]at e;injection e with e;exact n1 _ e.symm
  have h2:a∉bs:=λq=>by
   obtain⟨vs,q⟩:=lb a q;rw[e]at q;injection q with q;exact n1 _ q
  rw[fe h1 h2];exact e
 refine⟨λa e=>?_,λb xs e=>el b _ e (λ_ z=>nomatch z),λb o u e=>el b _ e (λ_ z=>nomatch z),λb ps e=>el b _ e (λ_ z=>nomatch z),λP w h x a o e=>?_⟩
 ·have h1:a≠l:=λq=>by subst q;rw[hl]at e;cases e
  have h2:a∉bs:=λq=>by obtain⟨vs,q⟩:=lb a q;rw[e]at q;cases q
  rw[fe h1 h2];exact e
 ·by_cases h1:a=l
  ·subst h1;rw[tO]at e;injection e with e;subst e;obtain⟨z,its,n,r,g⟩:=x a _ hl;rw[gg r]at g;refine⟨λp hp=>⟨λq=>nl (q▸hp),oW (λq=>nl (q▸hp)) hp⟩,⟨by rw[im]at z;exact z,nd,⟨n,g⟩,ln,λk b vs q1 q2=>?_⟩,⟨_,g⟩,λh1 h2 p st=>?_⟩
   ·obtain⟨z2,its2,n2,r2,g2⟩:=x b _ (hb k b vs q1 q2);exact⟨z2,its2,n2,r2,g2⟩
   ·obtain⟨p1,p2,⟨n,p3⟩,p4,p5⟩:=p;exact⟨p1,p2,⟨n,st _ _ (.inl rfl) p3⟩,p4,λk b vs q1 q2=>by
     obtain⟨y1,its,n,y2,y3⟩:=p5 k b vs q1 q2;exact⟨y1,its,n,y2,st _ _ (.inr (wp q1)) y3⟩⟩
  by_cases h2:a∈bs
  ·rw[oW h1 h2]at e;injection e with e;subst e;obtain⟨vs,q⟩:=lb a h2;obtain⟨_,its,n,_,g⟩:=x a _ q;exact⟨_,g⟩
  ·rw[fe h1 h2]at e;exact(x a o e).stay (λ_ _ _ q=>q) (λb q=>el b _ q (λ_ z=>nomatch z)) λb xs q=>el b _ q (λ_ z=>nomatch z)
end
def Fop (F:Fr)(i:Nat)(l:Addr)(bs:List Addr)(vss:List (List V)):Fr :=
 ⟨opn F.H0 l bs vss,λa=>F.Z a/\a≠l/\a∉bs,λa=>F.M a/\a≠l/\a∉bs,F.I,λj a=>F.P j a∨(j=i/\a=l)⟩
def llD (xss:List (List D)):D:=.lst (xss.map D.lst)
def noLL (xss:List (List D)):Bool:=xss.all noLs
def svX (i:Nat)(ρ:En):Bool:=svNs (pt ρ i .un)
section
variable {K:ac}{F:Fr}{σ σ':St}{ρ ρ':En}{H H':Hp}{i:Nat}{l:Addr}{bs:List Addr}{vss:List (List V)}{xss:List (List D)}
theorem rN (h:svX i ρ=true){j:Nat}(ne:i≠j):svN (gt ρ j)=true:=by
 have:=bG j h;rwa [bM ρ i j _ ne]at this
theorem wb (r:Rel K F σ ρ H){j:Nat}{a:Addr}(hn:svN (gt ρ j)=true)(ho:(gt ρ j).own=true)(e:σ[j]? = some (some (.ref a))):∃vs,H a=some (.lst vs):=by
 have s:=r.sl j;cases g:gt ρ j with
 | ow ds =>
  rw[g,e]at s;obtain⟨l,vs,e2,h,_⟩:=s;injection e2 with e2;injection e2 with e2;injection e2 with e2;exact⟨vs,e2▸h⟩
 | _=>rw[g]at hn ho;simp[svN,Sv.own]at hn ho
theorem kq {Hh:Hp}:∀ {bs:List Addr} {vss:List (List V)} {xss:List (List D)},bs.length=xss.length->(∀(k:Nat) (b:Addr) (ds:List D),bs[k]? = some b->xss[k]? = some ds->∃vs,Hh b=some (.lst vs)/\RepDs K Hh vs ds)->RepDs K Hh (bs.map V.ref) (xss.map D.lst)
 | [],_,[],_,_=>RepDs.nil
 | b::bs,_,ds::xss,h,f=>by
  refine RepDs.cons ?_ (kq (vss:=[]) (by simpa using h) λk b' ds' h1 h2=>f (k+1) b' ds' (by simpa using h1) (by simpa using h2));obtain⟨vs,h1,h2⟩:=f 0 b ds rfl rfl;unfold RepD;exact⟨b,vs,rfl,h1,h2⟩
 | [],_,_::_,h,_=>by simp at h
 | _::_,_,[],h,_=>by simp at h
theorem Rel.opn (r:Rel K F σ ρ H)(hi:gt ρ i = .ll xss)(ei:σ[i]? = some (some (.ref l)))(hl:H l=some (.big bs (LlP l bs vss)))(A:LlAt H l bs vss)(rep:uf K (hid H (hs F σ ρ)) vss xss)(hn:svX i ρ=true)(hx:noLL xss=true) :
  Rel K (Fop F i l bs vss) σ (pt ρ i (.vl (llD xss))) (L2.opn H l bs vss):=by
 have oi:(gt ρ i).own=true:=by rw[hi];rfl
 have lt:=jn oi;have own':∀j,(gt (pt ρ i (.vl (llD xss))) j).own=true->i≠j/\(gt ρ j).own=true:=λj h=>fB rfl h;have far:∀j a,(gt (pt ρ i (.vl (llD xss))) j).own=true->σ[j]? = some (some (.ref a))->a≠l/\a∉bs:=λj a h e=>by
  obtain⟨ij,hj⟩:=own' j h;refine⟨λq=>ij (r.nd i j l oi hj ei (q▸e)),λq=>?_⟩;obtain⟨vs,h1⟩:=wb r (rN hn ij) hj e;rw[(A.ow a q).2]at h1;cases h1
 have vis:∀a o,hid H (hs F σ ρ) a=some o->a≠l->a∉bs->hid (L2.opn H l bs vss) (hs (Fop F i l bs vss) σ (pt ρ i (.vl (llD xss)))) a=some o:=λa o e h1 h2=>by
  obtain⟨n,e⟩:=dz.mp e;refine eB (λz=>n ?_) (by rw[dU h1 h2];exact e);rcases z with z | ⟨j,hj,ej⟩
  ·exact .inl z.1
  ·exact .inr ⟨j,(own' j hj).2,ej⟩
 have vt:∀a vs,StT (hid H (hs F σ ρ)) a vs->StT (hid (L2.opn H l bs vss) (hs (Fop F i l bs vss) σ (pt ρ i (.vl (llD xss))))) a vs:=λa vs e=>by
  have e2:=(dz.mp e).2;exact vis a _ e (λq=>by rw[q,hl]at e2;cases e2) λq=>by rw[(A.ow a q).2]at e2;cases e2
 have nl:∀a,a=l∨a∈bs->¬hs (Fop F i l bs vss) σ (pt ρ i (.vl (llD xss))) a:=λa h z=>by
  rcases z with z | ⟨j,hj,ej⟩
  ·exact h.elim z.2.1 z.2.2
  ·have:=far j a hj ej;exact h.elim this.1 this.2
 refine⟨by rw[fw];exact r.len,λa o e n=>?_,λa z=>?_,λa ⟨j,hj,ej⟩ z=>?_,λj a hj e=>?_,λj a h=>?_,λa z=>?_,λa z=>?_,λj k a hj hk ej ek=>r.nd j k a (own' j hj).2 (own' k hk).2 ej ek,λj=>?_⟩
 ·by_cases h1:a=l
  ·subst h1;have e:L2.opn F.H0 a bs vss a=some o:=e;rw[lj]at e ⊢;exact e
  by_cases h2:a∈bs
  ·have e:L2.opn F.H0 l bs vss a=some o:=e;rw[lp h1 h2]at e ⊢;exact e
  ·have e:L2.opn F.H0 l bs vss a=some o:=e;rw[dU h1 h2]at e ⊢;exact r.fr a o e λm=>n ⟨m,h1,h2⟩
 ·unfold Nt;rw[dU z.2.1 z.2.2];exact r.zl a z.1
 ·exact r.zo a ⟨j,(own' j hj).2,ej⟩ z.1
 ·have f:=far j a hj e;rcases r.ow j a (own' j hj).2 e with⟨h1,h2⟩ | h
  ·exact .inl ⟨h1,h2,f⟩
  ·exact .inr (by show L2.opn F.H0 l bs vss a=none;rw[dU f.1 f.2];exact h)
 ·rcases h with h | h | ⟨rfl,rfl⟩
  ·exact r.mi j a (.inl h)
  ·exact r.mi j a (.inr h)
  ·exact ei
 ·show L2.opn F.H0 l bs vss a≠none;rw[dU z.2.1 z.2.2];exact r.ml a z.1
 ·rw[dU z.2.1 z.2.2];exact r.ma a z.1
 ·by_cases ij:i=j
  ·subst ij;rw[j8 ρ i _ lt,ei];refine⟨_,rfl,?_⟩;unfold llD RepD;refine⟨l,bs.map V.ref,rfl,eB (nl l (.inl rfl)) lj,kq (vss:=vss) (by rw[<- A.ln,rep.1]) λk b ds h1 h2=>?_⟩;have hb:=wp h1;have lk:k<vss.length:=by rw[A.ln];exact(kt.mp h1).1
   have ek:bs.idxOf b=k:=by
    obtain⟨h,e⟩:=kt.mp h1;rw[<- e];exact A5 A.nd k h
   refine⟨vss.getD k [],eB (nl b (.inr hb)) (by rw[lp (A.ow b hb).1 hb,ek]),?_⟩;have hr:=rep.2 k (vss.getD k []) ds (by rw[bi,bv lk];rfl) h2;exact hr.tups vt (A8.mp hx ds (wp h2))
  ·rw[bM ρ i j _ ij];refine(r.sl j).tups (rN hn ij) vt λa o ho e h=>?_;have f:=far j a (by rw[bM ρ i j _ ij];exact ho) e;rw[dU f.1 f.2];exact h
theorem Rel.cls (r:Rel K F σ ρ H)(hi:gt ρ i = .ll xss)(ei:σ[i]? = some (some (.ref l)))(hl:H l=some (.big bs (LlP l bs vss)))(A:LlAt H l bs vss)(hx:noLL xss=true)
  (r1:Rel K (Fop F i l bs vss) σ' ρ' H') (hi':gt ρ' i = .vl (llD xss)) (hn:svX i ρ'=true) (hil:i<ρ'.length):Re H' (L2.cls H' l bs vss)/\Rel K F σ' (pt ρ' i (.ll xss)) (L2.cls H' l bs vss):=by
 have oi:(gt ρ i).own=true:=by rw[hi];rfl
 have ei':σ'[i]? = some (some (.ref l)):=r1.mi i l (.inr (.inr ⟨rfl,rfl⟩));have nlb:l∉bs:=λq=>(A.ow l q).1 rfl;have hl':H' l=some (.lst (bs.map V.ref)):=r1.fr l _ (by show L2.opn F.H0 l bs vss l=_;exact lj) λz=>z.2.1 rfl;have hb':∀b∈bs,H' b=some (.lst (vss.getD (bs.idxOf b) [])):=λb hb=>r1.fr b _ (by show L2.opn F.H0 l bs vss b=_;exact lp (A.ow b hb).1 hb) λz=>z.2.2 hb;have ek:∀ {k:Nat} {b:Addr},bs[k]? = some b->bs.idxOf b=k:=λ{k b} h1=>by
  obtain⟨h,e⟩:=kt.mp h1;rw[<- e];exact A5 A.nd k h
 have own':∀j,(gt (pt ρ' i (.ll xss)) j).own=true->i≠j->(gt ρ' j).own=true:=λj h ij=>by rwa [bM ρ' i j _ ij]at h
 have far:∀j a,(gt ρ' j).own=true->σ'[j]? = some (some (.ref a))->a≠l/\a∉bs:=λj a h e=>by
  rcases r1.ow j a h e with⟨_,h2⟩ | h
  ·exact h2.2
  ·have h:L2.opn F.H0 l bs vss a=none:=h;refine⟨λq=>?_,λq=>?_⟩
   ·rw[q,lj]at h;cases h
   ·rw[lp (A.ow a q).1 q]at h;cases h
 have vt:∀a vs,StT (hid H' (hs (Fop F i l bs vss) σ' ρ')) a vs->StT (hid (L2.cls H' l bs vss) (hs F σ' (pt ρ' i (.ll xss)))) a vs:=λa vs e=>by
  obtain⟨n,e⟩:=dz.mp e;have h1:a≠l:=λq=>by rw[q,hl']at e;cases e
  have h2:a∉bs:=λq=>by rw[hb' a q]at e;cases e
  refine eB (λz=>n ?_) (by rw[fe h1 h2];exact e);rcases z with z | ⟨j,hj,ej⟩
  ·exact .inl ⟨z,h1,h2⟩
  ·by_cases ij:i=j
   ·subst ij;rw[ei']at ej;injection ej with ej;injection ej with ej;injection ej with ej;exact absurd ej.symm h1
   ·exact .inr ⟨j,own' j hj ij,ej⟩
 refine⟨se hl' (λk b vs h1 h2=>?_) A.nd A.ln nlb,?_⟩
 ·rw[hb' b (wp h1),ek h1,bi,h2];rfl
 refine⟨by rw[fw];exact r1.len,λa o e n=>?_,λa z=>?_,λa ⟨j,hj,ej⟩ z=>?_,λj a hj e=>?_,λj a h=>r1.mi j a (h.imp id .inl),r.ml,λa z=>?_,λj k a hj hk ej ek'=>?_,λj=>?_⟩
 ·by_cases h1:a=l
  ·subst h1;rcases r.ow i a oi ei with⟨_,h⟩ | h
   ·exact absurd h n
   ·rw[h]at e;cases e
  by_cases h2:a∈bs
  ·have:=r.fr a o e n;rw[(A.ow a h2).2]at this;rw[oW h1 h2];exact this
  ·rw[fe h1 h2];exact r1.fr a o (by show L2.opn F.H0 l bs vss a=some o;rw[dU h1 h2];exact e) λz=>n z.1
 ·by_cases h1:a=l
  ·subst h1;exact absurd z (r.zo a ⟨i,oi,ei⟩)
  by_cases h2:a∈bs
  ·unfold Nt;rw[oW h1 h2];exact⟨(λz=>nomatch z),λxs z=>nomatch z⟩
  ·unfold Nt;rw[fe h1 h2];exact r1.zl a ⟨z,h1,h2⟩
 ·by_cases ij:i=j
  ·subst ij;rw[ei']at ej;injection ej with ej;injection ej with ej;injection ej with ej;subst ej;exact r.zo l ⟨i,oi,ei⟩ z
  ·have f:=far j a (own' j hj ij) ej;exact r1.zo a ⟨j,own' j hj ij,ej⟩ ⟨z,f⟩
 ·by_cases ij:i=j
  ·subst ij;rw[ei']at e;injection e with e;injection e with e;injection e with e;subst e;exact r.ow i l oi ei
  ·have f:=far j a (own' j hj ij) e;rcases r1.ow j a (own' j hj ij) e with⟨h1,h2⟩ | h
   ·exact .inl ⟨h1,h2.1⟩
   ·have h:L2.opn F.H0 l bs vss a=none:=h;rw[dU f.1 f.2]at h;exact .inr h
 ·by_cases h1:a=l
  ·subst h1;rw[tO];exact λz=>nomatch z
  by_cases h2:a∈bs
  ·rw[oW h1 h2];exact λz=>nomatch z
  ·rw[fe h1 h2];exact r1.ma a ⟨z,h1,h2⟩
 ·by_cases ij:i=j
  ·by_cases ik:i=k
   ·omega
   ·exfalso;subst ij;rw[ei']at ej;injection ej with ej;injection ej with ej;injection ej with ej;exact(far k a (own' k hk ik) ek').1 ej.symm
  ·by_cases ik:i=k
   ·exfalso;subst ik;rw[ei']at ek';injection ek' with ek';injection ek' with ek';injection ek' with ek';exact(far j a (own' j hj ij) ej).1 ek'.symm
   ·exact r1.nd j k a (own' j hj ij) (own' k hk ik) ej ek'
 ·by_cases ij:i=j
  ·subst ij;rw[j8 ρ' i _ hil,ei'];have s:=r1.sl i;rw[hi',ei']at s;obtain⟨x,ex,rd⟩:=s;injection ex with ex;injection ex with ex;subst ex;unfold llD RepD at rd;obtain⟨a,vs,ea,hv,rds⟩:=rd;injection ea with ea;subst ea;have hv2:=(dz.mp hv).2;rw[hl']at hv2;injection hv2 with hv2;injection hv2 with hv2;subst hv2;have hlen:=rds.length;rw[im,im]at hlen;refine⟨l,bs,vss,rfl,tO,by rw[A.ln,hlen],λk vs ds h1 h2=>?_⟩;have lk:k<bs.length:=by rw[<- A.ln];exact(kt.mp h1).1
   obtain⟨v,hv3,rk⟩:=rds.get (i:=k) (d:=.lst ds) (by rw[lw,h2];rfl);rw[lw,bv lk]at hv3;injection hv3 with hv3;subst hv3;unfold RepD at rk;obtain⟨b,us,eb,hu,rk⟩:=rk;injection eb with eb;subst eb;have hu2:=(dz.mp hu).2;rw[hb' _ (Au lk),ek (bv lk),bi,h1]at hu2;injection hu2 with hu2;injection hu2 with hu2;have hu3:vs=us:=hu2;subst hu3;exact rk.tups vt (A8.mp hx ds (wp h2))
  ·rw[bM ρ' i j _ ij];refine(r1.sl j).tups (rN hn ij) vt λa o ho e h=>?_;have f:=far j a ho e;rw[fe f.1 f.2];exact h
end
def zA (i:Nat)(A:AS):AS:=λe ρ=>∃xss,gt ρ i = .ll xss/\svX i ρ=true/\noLL xss=true /\
 A {nx:=λρ'=>gt ρ' i = .vl (llD xss)/\svX i ρ'=true/\e.nx (pt ρ' i (.ll xss)),bk:=λ_=>False,ct:=λ_=>False,rt:=λ_ _=>False} (pt ρ i (.vl (llD xss)))
section
variable {K:ac}{pr:Nat->Bool}{t:TS}{A:AS}
theorem iT {i:Nat}(h:TSok K (λj=>pr j||j==i) t A):TSok K pr (tRe t) (zA i A):=by
 intro F σ ρ H D e hp r ⟨xss,hi,hn,hx,ha⟩ ok d;have s:=r.sl i;rw[hi]at s;obtain⟨l,bs,vss,ei,hl,rep⟩:=s;have A1:=LlAt.of d hl;refine⟨L2.opn H l bs vss,sd hl A1,?_⟩;refine h (Fop F i l bs vss) σ _ _ _ _ (λj a z=>?_) (r.opn hi ei hl A1 rep hn hx) ha ⟨λσ' ρ' H' ⟨h1,h2,h3⟩ r1 d'=>?_,λ_ _ _ z=>z.elim,λ_ _ _ z=>z.elim,λ_ _ _ _ _ z=>z.elim⟩
 ·rcases z with z | z | ⟨rfl,_⟩
  ·have:=hp j a (.inl z);simp[this]
  ·have:=hp j a (.inr z);simp[this]
  ·simp
 ·have lt:i<ρ'.length:=by
   rcases sK i ρ'.length with q | q
   ·exact q
   ·rw[iE ρ' i q]at h1;cases h1
  obtain⟨c1,c2⟩:=r.cls hi ei hl A1 hx r1 h1 h2 lt;exact⟨_,c1,ok.nx _ _ _ h3 c2⟩
end
def zC (i j k:Nat):AS:=λe ρ=>∃(xss:List (List D)) (n:Nat) (d:D),gt ρ i = .ll xss/\gt ρ j = .vl (.int (n:Nat))/\gt ρ k = .vl d/\n<xss.length/\(xss.getD n []).length<=1000000/\e.nx (pt ρ i (.ll (xss.set n (xss.getD n []++[d]))))
section
variable {K:ac}{pr:Nat->Bool}
theorem dB {i j k:Nat}:TSok K pr (tRe (v_ (tBM K "list" rAppend (tOp (rIx K) (tVar i) (tVar j)) (wa (tVar k) tNil)))) (zC i j k):=by
 intro F σ ρ H D e hp r ⟨xss,n,d,hi,hj,hk,hn,hle,hnx⟩ ok des;have s:=r.sl i;rw[hi]at s;obtain⟨l,bs,vss,ei,hl,rep⟩:=s;have A:=LlAt.of des hl;have sj:=r.sl j;rw[hj]at sj;obtain⟨xj,ej,rj⟩:=sj;unfold RepD at rj;subst rj;have sk:=r.sl k;rw[hk]at sk;obtain⟨v,ek,rk⟩:=sk;have hnb:n<bs.length:=by rw[<- A.ln,rep.1];exact hn
 have hnv:n<vss.length:=by rw[A.ln];exact hnb
 have hbm:bs[n]∈bs:=Au hnb;have hb0:opn H l bs vss bs[n]=some (.lst (vss.getD n [])):=by
  rw[lp (A.ow _ hbm).1 hbm,A5 A.nd n hnb]
 have ev:vss[n]? = some (vss.getD n []):=by rw[bi,bv hnv];rfl
 have ex:xss[n]? = some (xss.getD n []):=by rw[bi,bv hn];rfl
 have rn:=rep.2 n _ _ ev ex;refine⟨opn H l bs vss,sd hl A,?_⟩;refine⟨_,ei,_,ej,.inl ⟨l,bs.map V.ref,n,.ref bs[n],rfl,rfl,SqL.of lj,lV (by rw[lw,bv hnb];rfl),?_⟩⟩;refine⟨.inl ⟨rfl,_,SqL.of hb0⟩,v,ek,bs[n],vss.getD n [],v,rfl,rfl,hb0,i6 (by rw[rn.length];exact hle),λ_=>?_⟩;have nlb:l∉bs:=λq=>(A.ow l q).1 rfl;refine⟨cls (upd (opn H l bs vss) bs[n] (.lst (vss.getD n []++[v]))) l bs (vss.set n (vss.getD n []++[v])),se ?_ (λm b us h1 h2=>?_) A.nd (by rw[Bn];exact A.ln) nlb,?_⟩
 ·rw[aW (AB (A.ow _ hbm).1)];exact lj
 ·obtain⟨hm,rfl⟩:=kt.mp h1;have hmm:bs[m]∈bs:=Au hm;by_cases q:m=n
  ·subst q;rw[Ap hnv]at h2;injection h2 with h2;rw[bh,h2]
  ·have ne:bs[m]≠bs[n]:=λz=>q (by
    have a:=A5 A.nd m hm;have b:=A5 A.nd n hnb;rw[z]at a;omega)
   rw[zn (AB q)]at h2;rw[aW ne,lp (A.ow _ hmm).1 hmm,A5 A.nd m hm,bi,h2];rfl
 ·have eH:cls (upd (opn H l bs vss) bs[n] (.lst (vss.getD n []++[v]))) l bs (vss.set n (vss.getD n []++[v]))=upd H l (.big bs (LlP l bs (vss.set n (vss.getD n []++[v])))):=by
   funext a;by_cases h1:a=l
   ·subst h1;rw[tO,bh]
   rw[aW h1];by_cases h2:a∈bs
   ·rw[oW h1 h2];exact(A.ow a h2).2.symm
   ·rw[fe h1 h2,aW (λq=>h2 (by rw[q];exact hbm)),dU h1 h2]
  rw[eH];refine ok.nx _ _ _ hnx (r.write (s:=.ll (xss.set n (xss.getD n []++[d]))) (by rw[hi];rfl) ei rfl ⟨l,bs,vss.set n (vss.getD n []++[v]),rfl,bh,by rw[Bn,Bn];exact rep.1,λm us ds h1 h2=>?_⟩).1;by_cases q:m=n
  ·subst q;rw[Ap hnv]at h1;rw[Ap hn]at h2;injection h1 with h1;injection h2 with h2;subst h1;subst h2;exact rn.append (RepDs.one rk)
  ·rw[zn (AB q)]at h1 h2;exact rep.2 m us ds h1 h2
end
def y4 (i:Nat)(ai:AI):AS:=λe ρ=>ai ρ λds c ρ1=>ds.length<=1000000/\(∀ ρ,c ρ)/\e.nx (pt ρ1 i (.ll (ds.map λ_=>[])))
section
variable {K:ac}{pr:Nat->Bool}
theorem rV {i:Nat}{wi:TI}{ai:AI}(hi:TIok K (λ_=>true) wi ai)(hp:pr i=false):TSok K pr (tRe (λD σ H=>l8 1 [] wi (tq 0) tAll (tLst tNil) σ H λv H'=>D.nx (σ.set i (some v)) H')) (y4 i ai):=by
 intro F σ ρ H D e hpin r ha ok des;refine⟨H,.refl H,?_⟩;refine hi F σ ρ H _ _ r ha λds c ρ1 J H1 ⟨hz,hc,hnx⟩ r1 k1 wk=>?_;refine⟨λk m ys H'=>∃bs:List Addr,ys=bs.map V.ref/\bs.Nodup/\bs.length=k/\k<=ds.length/\m=ds.length - k/\Same H1 H'/\∀b∈bs,H1 b=none/\H' b=some (.lst []),⟨ds.length,[],rfl,List.nodup_nil,rfl,zS _,rfl,Same.refl H1,λb h=>(by cases h)⟩,?_⟩;rintro k m ys H' ⟨bs,rfl,nd,hk,hkl,rfl,sm,hb⟩;have rg:=r1.grow sm;have w:=wk σ ρ1 H' (bP λa o e n=>⟨sm a o e,n⟩) rg.sl (λ_ _ _ e=>e) (λa z=>uQ rg z) (hc ρ1);rcases sK k ds.length with lt | ge
 ·right;obtain⟨go,yld⟩:=(w k).1 ds[k] (bv lt);refine⟨go,i6 (by rw[im];omega),λzs H2=>∃bs:List Addr,zs=bs.map V.ref/\bs.Nodup/\bs.length=k+1/\Same H1 H2/\∀b∈bs,H1 b=none/\H2 b=some (.lst []),λzs H2 ⟨bs,a1,a2,a3,a4,a5⟩=>⟨ds.length - (k+1),by omega,bs,a1,a2,a3,lt,rfl,a4,a5⟩,λx H2 hy=>?_⟩;obtain⟨sm2,_⟩:=yld x H2 hy;refine⟨rfl,?_⟩;unfold tAll;dsimp only;rw[if_pos rfl];refine⟨zS _,λp hp=>?_⟩;have nb:p∉bs:=λq=>by
   have:=sm2 p _ (hb p q).2;rw[hp]at this;cases this
  have h1p:H1 p=none:=by
   cases q:H1 p with
   | none=>rfl
   | some o=>have:=sm2 p o (sm p o q);rw[hp]at this;cases this
  refine⟨bs++[p],by rw[zW];rfl,?_,by rw[pc,xL,hk],λa o q=>?_,λb hb'=>?_⟩
  ·exact List.nodup_append.mpr ⟨nd,by simp,λa ha b hb e=>nb (by rw[Ac.mp hb]at e;exact e▸ha)⟩
  ·rw[aW (bB q h1p)];exact sm2 a o (sm a o q)
  ·rcases Bc.mp hb' with q | q
   ·have bp:b≠p:=λz=>nb (z▸q);rw[aW bp];exact⟨(hb b q).1,sm2 b _ (hb b q).2⟩
   ·rw[Ac.mp q,bh];exact⟨h1p,rfl⟩
 ·left;obtain rfl:k=ds.length:=by omega
  refine⟨(w _).2 (lm _),Am (i6 (by show(bs.map V.ref).length<=1000000;rw[im];omega)),λl hl des'=>?_⟩;have lb:l∉bs:=λq=>by rw[(hb l q).2]at hl;cases hl
  have nbl:∀b∈bs,b≠l:=λb q z=>lb (z▸q);refine⟨cls (upd H' l (.lst (bs.map V.ref))) l bs (ds.map λ_=>[]),se bh (λk b vs h1 h2=>?_) nd (by rw[im,hk]) lb,?_⟩
  ·have hm:=wp h1;rw[lw]at h2;obtain⟨_,_,rfl⟩:=wT.mp h2;rw[aW (nbl b hm)];exact(hb b hm).2
  ·have H1':Rel K F σ ρ1 (λa=>if a∈bs then some (.own l)else H' a):=r1.grow λa o q=>by
    have:a∉bs:=λz=>by rw[(hb a z).1]at q;cases q
    show(if a∈bs then _ else H' a)=_;rw[if_neg this];exact sm a o q
   have hln:(λa=>if a∈bs then some (HO.own l)else H' a) l=none:=by
    show(if l∈bs then _ else H' l)=none;rw[if_neg lb];exact hl
   have eH:cls (upd H' l (.lst (bs.map V.ref))) l bs (ds.map λ_=>[])=upd (λa=>if a∈bs then some (HO.own l)else H' a) l (.big bs (LlP l bs (ds.map λ_=>[]))):=by
    funext a;by_cases h1:a=l
    ·subst h1;rw[tO,bh]
    rw[aW h1];by_cases h2:a∈bs
    ·rw[oW h1 h2,if_pos h2]
    ·rw[fe h1 h2,aW h1,if_neg h2]
   rw[eH];refine ok.nx _ _ _ hnx (H1'.setF (s:=.ll (ds.map λ_=>[])) rfl ⟨l,bs,ds.map λ_=>[],rfl,bh,by rw[im,im],λk vs es h1 h2=>?_⟩ hln (uH hpin hp));rw[lw]at h1 h2;obtain⟨_,_,rfl⟩:=wT.mp h1;obtain⟨_,_,rfl⟩:=wT.mp h2;exact RepDs.nil
end
def y7 (i:Nat):AS:=λe ρ=>∃xss,gt ρ i = .ll xss/\e.rt (.n (.ll xss)) (pt ρ i .un)
theorem rW {K:ac}{pr:Nat->Bool}{i:Nat}(hp:pr i=false):TSok K pr (tRet (tVar i)) (y7 i):=by
 intro F σ ρ H D e hpin r ⟨xss,hi,hr⟩ ok;obtain⟨l,o,hl,el,r',sv⟩:=r.take (i:=i) (by rw[hi];rfl) (uH hpin hp);refine⟨_,el,ok.rt _ _ _ _ _ hr ⟨del H l,l,o,r',rfl,?_,iV,(fJ hl).symm,rfl⟩⟩;rw[fJ hl,<- hi];exact sv
def EE (E:XK):XK:=λv c H'=>Des H'->∃H2,Re H' H2/\E v c H2
theorem Hot.re {od:Option Addr}{h0 h:Heap}{H H2:Hp}{e C:Addr}(q:Hot od h0 h H e C)(r:Re H H2):Hot od h0 h H2 e C:=by
 obtain⟨oe,vs,hv,a1,a2,a3,a4,a5,a6,a7,a8⟩:=q;refine⟨oe,vs,hv,a1,a2,a3,a4,a5,a6,r.no _ a7,?_⟩;rcases a8 with z | ⟨T,oT,ts,b1,b2,b3,b4,b5,b6,b7⟩
 ·exact .inl z
 ·exact .inr ⟨T,oT,ts,b1,b2,b3,b4,b5,b6,r.no _ b7⟩
section
variable {P:wE}{w:z8}{K:ac}{mg:Str->Option bd}{base:Heap}{N:List Str}{qual:Str}{scope:AC}{f:Addr}{cd:bd}{A:zX}{outer:List Env}{s0:db}{H0:Hp}{E:XK}
theorem vx:jS (CX1 P w) (cxOf (CX1 P w) P w K mg base N qual scope f cd A outer s0 H0 E).inFor (EE E):=by
 rintro pins σ H s e s' I ⟨a,C,od,H',rfl,os,bare,un,hok,hot,hy,he⟩;have I':=I.unwish;obtain⟨H2,r,he⟩:=he ⟨_,_,_,hok⟩;exact vC ((I'.call' os un hok bare λb z=>nomatch z).re r) ((hot.older λb q=>I'.back0 rfl q).re r) (λdx q=>I'.back0 rfl (hy dx q)) he
end
def tReR (E:XK)(C:Addr)(fn:Option Str)(t:TS):TS:=λD σ H=>D.rt=XW E C fn->Des H->∃H0,Re H H0/\t {nx:=λ_ _=>False,rt:=XW (EE E) C fn,bk:=λ_ _=>False,ct:=λ_ _=>False} σ H0
theorem pE {X:Cx}{E:XK}{C:Addr}{fn:Option Str}{st:Stmt}{t:TS}(h:PSr X (XW (EE E) C fn) st t):PSr X (XW E C fn) st (tReR E C fn t):=by
 intro pins s σ H D e I ht;obtain⟨H0,r,ht⟩:=ht e ⟨_,_,_,I.hok⟩;refine z9 (h pins s σ H0 _ rfl (I.re r) ht) (λf s' q=>?_) λ_ _ z=>z;cases f with
 | next=>obtain⟨_,_,_,q⟩:=q;exact q.elim
 | brk=>exact q
 | cont=>exact q
 | ret u=>exact q
def y8 (i:Nat)(A:AS):AS:=λe ρ=>∃xss,gt ρ i = .ll xss/\svX i ρ=true/\noLL xss=true /\
 A {nx:=λ_=>False,bk:=λ_=>False,ct:=λ_=>False,rt:=λr ρ'=>gt ρ' i = .vl (llD xss)/\svX i ρ'=true/\(∃d,r = .d d/\noL d=true)/\e.rt r (pt ρ' i (.ll xss))} (pt ρ i (.vl (llD xss)))
section
variable {K:ac}{F:Fr}{σ σ':St}{ρ ρ':En}{H H':Hp}{i:Nat}{l:Addr}{bs:List Addr}{vss:List (List V)}{xss:List (List D)}
theorem Rel.clsD (r:Rel K F σ ρ H)(hi:gt ρ i = .ll xss)(ei:σ[i]? = some (some (.ref l)))(A:LlAt H l bs vss)
  (r1:Rel K (Fop F i l bs vss) σ' ρ' H') (hi':gt ρ' i = .vl (llD xss)) {v:V} {d:D} (hd:noL d=true) (rd:RepD K (hid H' (hs (Fop F i l bs vss) σ' ρ')) v d):RepD K (hid (L2.cls H' l bs vss) (hs F σ' (pt ρ' i (.ll xss)))) v d:=by
 have ei':σ'[i]? = some (some (.ref l)):=r1.mi i l (.inr (.inr ⟨rfl,rfl⟩));have hl':H' l=some (.lst (bs.map V.ref)):=r1.fr l _ (by show L2.opn F.H0 l bs vss l=_;exact lj) λz=>z.2.1 rfl;have hb':∀b∈bs,H' b=some (.lst (vss.getD (bs.idxOf b) [])):=λb hb=>r1.fr b _ (by show L2.opn F.H0 l bs vss b=_;exact lp (A.ow b hb).1 hb) λz=>z.2.2 hb;refine rd.tups (λa vs e=>?_) hd;obtain⟨n,e⟩:=dz.mp e;have h1:a≠l:=λq=>by rw[q,hl']at e;cases e
 have h2:a∉bs:=λq=>by rw[hb' a q]at e;cases e
 refine eB (λz=>n ?_) (by rw[fe h1 h2];exact e);rcases z with z | ⟨j,hj,ej⟩
 ·exact .inl ⟨z,h1,h2⟩
 ·by_cases ij:i=j
  ·subst ij;rw[ei']at ej;injection ej with ej;injection ej with ej;injection ej with ej;exact absurd ej.symm h1
  ·exact .inr ⟨j,by rwa [bM ρ' i j _ ij]at hj,ej⟩
end
section
variable {K:ac}{pr:Nat->Bool}{t:TS}{A:AS}{E:XK}{C:Addr}{fn:Option Str}
theorem gL {i:Nat}(h:TSok K (λj=>pr j||j==i) t A):TSok K pr (tReR E C fn t) (y8 i A):=by
 intro F σ ρ H D e hp r ⟨xss,hi,hn,hx,ha⟩ ok eD d;have s:=r.sl i;rw[hi]at s;obtain⟨l,bs,vss,ei,hl,rep⟩:=s;have A1:=LlAt.of d hl;refine⟨L2.opn H l bs vss,sd hl A1,?_⟩;refine h (Fop F i l bs vss) σ _ _ _ _ (λj a z=>?_) (r.opn hi ei hl A1 rep hn hx) ha ⟨λ_ _ _ z=>z.elim,λ_ _ _ z=>z.elim,λ_ _ _ z=>z.elim,λσ' ρ' r2 v H' ⟨h1,h2,⟨d2,e2,hd2⟩,h3⟩ r1=>?_⟩
 ·rcases z with z | z | ⟨rfl,_⟩
  ·have:=hp j a (.inl z);simp[this]
  ·have:=hp j a (.inr z);simp[this]
  ·simp
 ·subst e2;obtain⟨r1,rd⟩:=r1;have lt:i<ρ'.length:=by
   rcases sK i ρ'.length with q | q
   ·exact q
   ·rw[iE ρ' i q]at h1;cases h1
  obtain⟨c1,c2⟩:=r.cls hi ei hl A1 hx r1 h1 h2 lt;have c3:=r.clsD hi ei A1 r1 h1 hd2 rd;have w:=ok.rt _ _ _ v _ h3 ⟨c2,c3⟩;intro od hf _;refine⟨_,c1,?_⟩;rw[eD]at w;refine w od ?_;cases fn with
  | none=>exact hf
  | some f =>
   obtain⟨dx,e1,e2⟩:=hf;refine⟨dx,e1,?_⟩;have hl':H' l=some (.lst (bs.map V.ref)):=r1.fr l _ (by show L2.opn F.H0 l bs vss l=_;exact lj) λz=>z.2.1 rfl;have hb':∀b∈bs,H' b=some (.lst (vss.getD (bs.idxOf b) [])):=λb hb=>r1.fr b _ (by show L2.opn F.H0 l bs vss b=_;exact lp (A1.ow b hb).1 hb) λz=>z.2.2 hb;rw[fe (λq=>by rw[q,hl']at e2;cases e2) λq=>by rw[hb' dx q]at e2;cases e2];exact e2
end
def FlyF (fl:bd)(od:Option Addr)(h:Heap)(e C T:Addr):Prop :=
 ∃oe vs oT ts,h.get? e=some oe/\oe.cls = .ref C/\oe.dict=od/\oe.data = .fields vs/\vs[1]? = some (.ref T)/\T≠e/\h.get? T=some oT/\oT.data = .fields ts/\ts[3]? = some fl
section
variable {M:Ek}{A:zX}{E:bd->db->Prop}{s:db}{base:Heap}{env:Env}{outer:List Env}{L e C:Addr}{oe:Obj}{vs:Array bd}{od:Option Addr}
theorem mD {hd:bd}{had:Bool}{Q:Unit->db->Prop}(fr:A.frames=some (env::outer))(ff:s.heap.FunFrames base (env::outer))(lf:env.frame=some L)
  (ge:s.heap.get? e=some oe) (gc:oe.cls = .ref C) (gd:oe.dict=od) (gf:oe.data = .fields vs) (gz:1<vs.size)
  (fin:∀h' T,s.heap.objs.size<=T->FlyF (Ae L) od h' e C T->(∀b o,s.heap.get? b=some o->b≠e->b∉frs (env::outer)->h'.get? b=some o)->(∀b o,s.heap.get? b=some o->b≠e->∃sl,h'.get? b=some {o with slots:=sl})->Q () {s with heap:=h'}) :
  o0 M A (do let a <- frameOf env;let pl <- FJ L had;let b <- Bp hd a .none (Ae L) .none pl;EQ (.ref e) 1 b) Q E s:=by
 have off:e∉frs (env::outer):=λq=>by
  obtain⟨_,o,go,no⟩:=ff.mem q;cases ge.symm.trans go
  exact no vs gf
 refine bn (Ee fr ff lf λha sa=>bn (DY λpl ip=>?_));unfold Bp Fu;refine bn (Bg ?_ (ip.sizeOk5 _ _ _ _ _));have ge1:ha.get? e=some oe:=(sa.2.1 e off).trans ge;have sz:ha.objs.size=s.heap.objs.size:=sa.1;generalize hT:([hd,Value.ref L,.none,Ae L,.none]++(if pl.isEmpty then pp 6 Value.none else pl)).toArray=tv;have t3:tv[3]? = some (Ae L):=by rw[<- hT];simp
 have neT:e≠ha.objs.size:=zM (lc ge1);refine AM (dL _ ge1) gf gz ?_;generalize hp:ha.push {cls:=.type "traceback",dict:=none,data:=.fields tv}=hb;have gT:hb.get? ha.objs.size=some {cls:=.type "traceback",dict:=none,data:=.fields tv}:=by rw[<- hp];exact wP _ rfl
 have kb:∀b o,ha.get? b=some o->hb.get? b=some o:=λb o q=>by rw[<- hp];exact dL _ q
 have w1:=As gf λa=>a.setIfInBounds 1 (.ref ha.objs.size);have g3:=zV (Ag λa=>a.setIfInBounds 1 (.ref ha.objs.size)) (kb e oe ge1) (At w1);have gT3:=(sB hb (Ag λa=>a.setIfInBounds 1 (.ref ha.objs.size)) neT).trans gT;have on:∀b o,b≠e->ha.get? b=some o->(hb.update e (Ag λa=>a.setIfInBounds 1 (.ref ha.objs.size))).get? b=some o:=λb o ne q=>by
  rw[sB _ _ (AB ne)];exact kb b o q
 refine fin _ ha.objs.size (by rw[sz];exact lm _) ⟨_,_,_,_,g3,(CT _ _).trans gc,?_,w1,by simp[gz],neT.symm,gT3,rfl,t3⟩ (λb o q ne nf=>on b o ne ((sa.2.1 b nf).trans q)) λb o q ne=>?_
 ·obtain⟨oc,od,oda,osl⟩:=oe;cases gf
  exact gd
 ·obtain⟨sl,q'⟩:=sa.2.2 b o q;exact⟨sl,on b _ ne q'⟩
theorem lvN {hv fl:bd}{Q:Unit->db->Prop}(fr:A.frames=some (env::outer))(ff:s.heap.FunFrames base (env::outer))(lf:env.frame=some L)(hfl:(fl==Ae L)=false)
  (ge:s.heap.get? e=some oe) (gc:oe.cls = .ref C) (gd:oe.dict=od) (gf:oe.data = .fields vs) (g1:vs[1]? = some hv)
  (hh:hv = .none ∨ ∃T oT ts,hv = .ref T/\T≠e/\s.heap.get? T=some oT/\oT.data = .fields ts/\ts[3]? = some fl)
  (fin:∀h' T,s.heap.objs.size<=T->FlyF (Ae L) od h' e C T->Gone (frs (env::outer)) s.heap h' e hv->Q () {s with heap:=h'}) :
  o0 M A (Bu (.ref e) env) Q E s:=by
 have gz:=(Ak.mp g1).1;unfold Bu;simp only[lf];refine bn (z6 ge gf g1 ?_);rcases hh with rfl | ⟨T,oT,ts,rfl,nT,gT,fT,t3⟩
 ·rw[if_neg (by decide)];exact mD fr ff lf ge gc gd gf gz λh' T' q1 q2 q3 q4=>fin h' T' q1 q2 ⟨λb o a1 a2 _ a4=>q3 b o a1 a2 a4,λb o a1 a2 _=>q4 b o a1 a2⟩
 ·rw[if_pos (by simp:(Value.ref T != Value.none)=true)];refine bn (z6 gT fT t3 ?_);rw[if_neg (by rw[hfl];exact Ad)];refine bn (AM gT fT (Ak.mp t3).1 ?_);have ot:∀b,b≠T->(s.heap.update T (Ag λa=>a.setIfInBounds 3 Value.none)).get? b=s.heap.get? b:=λb q=>sB _ _ (AB q);have nr:∀b o,s.heap.get? b=some o->(∀us,o.data ≠ .fields us)->b≠T:=λb o q nf z=>by
   subst z;cases gT.symm.trans q
   exact nf ts fT
  refine mD fr (ff.of_keeps λb o q nf=>⟨o,(ot b (nr b o q nf)).trans q,rfl⟩) lf ((ot e nT.symm).trans ge) gc gd gf gz λh' T' q1 q2 q3 q4=>fin h' T' ?_ q2 ⟨λb o a1 a2 a3 a4=>q3 b o ((ot b λz=>a3 (by rw[z])).trans a1) a2 a4,λb o a1 a2 a3=>q4 b o ((ot b λz=>a3 (by rw[z])).trans a1) a2⟩;rwa [DV]at q1
end
def HotF (fl:bd)(od:Option Addr)(h0 h:Heap)(H:Hp)(e C:Addr):Prop :=
 ∃oe vs T oT ts,h.get? e=some oe/\oe.cls = .ref C/\oe.dict=od/\oe.data = .fields vs/\vs[1]? = some (.ref T)/\h0.get? e=none/\H e=none/\T≠e/\h.get? T=some oT/\oT.data = .fields ts/\ts[3]? = some fl/\h0.get? T=none/\H T=none
def hvs:bd->List Addr
 | .ref T=>[T]
 | _=>[]
theorem Un.more {fs ex ex':List Addr}{H H':Hp}{h h':Heap}(u:Un fs ex H H' h h')(le:∀b,b∉ex'->b∉ex):Un fs ex' H H' h h' :=
 ⟨λb o q n nf nx=>u.keep b o q n nf (le b nx),λb o q n hf nx=>u.slot b o q n hf (le b nx),λb o q n nx=>u.free b o q n (le b nx),λb o q nx=>u.there b o q (le b nx),u.tups,u.frzs,u.tbls⟩
theorem FunFrames.but {base h h':Heap}{c:Addr}(k:∀b o,b≠c->h.get? b=some o->h'.get? b=some o):∀ {l:List Env},c∉frs l->h.FunFrames base l->h'.FunFrames base l
 | [],_,_=>trivial
 | env::rest,nc,hl=>by
  obtain⟨hk,⟨L,o,hf,hn,ho,hd⟩,hr⟩:=hl;have e:frs (env::rest)=L::frs rest:=by unfold frs;rw[Cz,hf]
  rw[e]at nc;exact⟨hk,⟨L,o,hf,hn,k L o (λz=>nc (z ▸ .head _)) ho,hd⟩,FunFrames.but k (λz=>nc (.tail _ z)) hr⟩
structure Ex0 (X:Cx)(h0:Heap)(H:Hp)(hs h:Heap):Prop where
 ff:h.FunFrames X.base X.stack
 hok:HOk X.prog X.w H h
 fr:∀b∈frs X.stack,H b=none
 un:∃ch,(∀b∈ch,h0.get? b=none/\H b=none)/\Un (frs X.stack) ch H H hs h
 sz:∀b o,h0.get? b=some o->b<h.objs.size
section
variable {X:Cx}{H:Hp}{h0 hs h h':Heap}{e C:Addr}{od:Option Addr}
theorem Ex0.step (x:Ex0 X h0 H hs h){c:Addr}(hc:h0.get? c=none)(hn:H c=none)(nf:c∉frs X.stack)(hh:AF c h h'):Ex0 X h0 H hs h':=by
 obtain⟨ch,hch,un⟩:=x.un;have kp:∀b o,b≠c->h.get? b=some o->h'.get? b=some o:=λb o ne q=>(hh.2 b ne).trans q;refine⟨FunFrames.but kp nf x.ff,λa o q=>?_,x.fr,⟨c::ch,λb hb=>?_,(un.more λb hb=>λz=>hb (.tail _ z)).trans ⟨λb o q n _ nx=>kp b o (λz=>nx (z ▸ .head _)) q,λb o q n _ nx=>⟨o.slots,kp b o (λz=>nx (z ▸ .head _)) q⟩,λ_ _ _ n _=>n,λb o q nx=>⟨o,kp b o (λz=>nx (z ▸ .head _)) q⟩,λ_ _ q=>q,λ_ _ _ q=>q,λb ps q=>⟨#[],by rw[q];simp⟩⟩⟩,λb o q=>by rw[hh.1];exact x.sz b o q⟩
 ·refine(x.hok a o q).stay (λb u hb z=>kp b u (λw=>?_) z) (λ_ z=>z) λ_ _ z=>z;subst w;rcases hb with rfl | hb
  ·rw[hn]at q;cases q
  ·rw[hn]at hb;cases hb
 ·rcases wS.mp hb with rfl | hb
  ·exact⟨hc,hn⟩
  ·exact hch b hb
theorem yp {s:db}{E:bd->db->Prop}{Q:Unit->db->Prop}{env:Env}{outer:List Env}{hv fl:bd}{L:Addr}{oe:Obj}{vs:Array bd}(x:Ex0 X h0 H hs s.heap)(hs':X.stack=env::outer)(fr:X.A.frames=some (env::outer))(hf:env.frame=some L)(hfl:(fl==Ae L)=false)
  (ge:s.heap.get? e=some oe) (gc:oe.cls = .ref C) (gd:oe.dict=od) (gf:oe.data = .fields vs) (g1:vs[1]? = some hv) (ye:h0.get? e=none) (ue:H e=none)
  (hh:hv = .none ∨ ∃T oT ts,hv = .ref T/\T≠e/\s.heap.get? T=some oT/\oT.data = .fields ts/\ts[3]? = some fl/\h0.get? T=none/\H T=none)
  (fin:∀h',Ex0 X h0 H hs h'->HotF (Ae L) od h0 h' H e C->(∀b o,s.heap.get? b=some o->(∀us,o.data ≠ .fields us)->b∉frs X.stack->h'.get? b=some o)->Q () {s with heap:=h'}) :
  o0 (wn X.prog X.w) X.A (Bu (.ref e) env) Q E s:=by
 have hh':hv = .none ∨ ∃T oT ts,hv = .ref T/\T≠e/\s.heap.get? T=some oT/\oT.data = .fields ts/\ts[3]? = some fl:=by
  rcases hh with q | ⟨T,oT,ts,q1,q2,q3,q4,q5,_⟩
  ·exact .inl q
  ·exact .inr ⟨T,oT,ts,q1,q2,q3,q4,q5⟩
 have ff:=x.ff;rw[hs']at ff;refine lvN fr ff hf hfl ge gc gd gf g1 hh' λh' T q1 ⟨oe',vs',oT',ts',f1,f2,f3,f4,f5,f6,f7,f8,f9⟩ g=>?_;have hch:∀b∈e::hvs hv,h0.get? b=none/\H b=none:=λb hb=>by
  rcases wS.mp hb with rfl | hb
  ·exact⟨ye,ue⟩
  ·rcases hh with rfl | ⟨T,oT,ts,rfl,_,_,_,_,y,u⟩
   ·cases hb
   ·rw[Ac.mp hb];exact⟨y,u⟩
 have nch:∀b,b∉e::hvs hv->b≠e/\hv ≠ .ref b:=λb hb=>⟨λz=>hb (z ▸ .head _),λz=>hb (by subst z;exact .tail _ (.head _))⟩
 have hvf:∀b o,s.heap.get? b=some o->(∀us,o.data ≠ .fields us)->b≠e/\hv ≠ .ref b:=λb o q no=>by
  refine⟨λz=>?_,λz=>?_⟩
  ·subst z;cases ge.symm.trans q;exact no vs gf
  ·rcases hh with y | ⟨T,oT,ts,y,_,gT,fT,_⟩
   ·rw[y]at z;cases z
   ·rw[y]at z;cases z;cases gT.symm.trans q;exact no ts fT
 have slot:∀b o,s.heap.get? b=some o->b≠e->hv ≠ .ref b->∃sl,h'.get? b=some {o with slots:=sl}:=g.slot;have keep:∀b o,s.heap.get? b=some o->b≠e->hv ≠ .ref b->b∉frs X.stack->h'.get? b=some o:=λb o q z1 z2 z3=>g.keep b o q z1 z2 (by rw[<- hs'];exact z3);have Tsz:h0.get? T=none:=by
  cases z:h0.get? T with
  | none=>rfl
  | some o=>exact absurd (x.sz T o z) (C8.mpr q1)
 obtain⟨ch,hch0,un⟩:=x.un;have un2:Un (frs X.stack) (e::hvs hv) H H s.heap h':=by
  refine⟨λb o q n nf nx=>keep b o q (nch b nx).1 (nch b nx).2 nf,λb o q n _ nx=>slot b o q (nch b nx).1 (nch b nx).2,λb o _ n _=>n,λb o q nx=>?_,λ_ _ q=>q,λ_ _ _ q=>q,λb ps q=>⟨#[],by rw[q];simp⟩⟩;obtain⟨sl,q'⟩:=slot b o q (nch b nx).1 (nch b nx).2;exact⟨_,q'⟩
 have hok':HOk X.prog X.w H h':=λa o q=>by
  have tr:∀b o',H b=some o'->b≠e/\hv ≠ .ref b/\b∉frs X.stack:=λb o' z=>by
   refine⟨λw=>?_,λw=>?_,λw=>?_⟩
   ·rw[w,ue]at z;cases z
   ·rcases hh with y | ⟨T,oT,ts,y,_,_,_,_,_,u⟩
    ·rw[y]at w;cases w
    ·rw[y]at w;cases w;rw[u]at z;cases z
   ·rw[x.fr b w]at z;cases z
  refine(x.hok a o q).stay (λb u hb z=>?_) (λ_ z=>z) λ_ _ z=>z;have:∃o',H b=some o':=by
   rcases hb with rfl | hb
   ·exact⟨_,q⟩
   ·exact⟨_,hb⟩
  obtain⟨o',ho'⟩:=this;obtain⟨a1,a2,a3⟩:=tr b o' ho';exact keep b u z a1 a2 a3
 refine fin h' ⟨?_,hok',x.fr,⟨ch++(e::hvs hv),λb hb=>?_,(un.more λb hb z=>hb (Bq _ z)).trans (un2.more λb hb z=>hb (wv _ z))⟩,λb o q=>?_⟩ ⟨oe',vs',T,oT',ts',f1,f2,f3,f4,f5,ye,ue,f6,f7,f8,f9,Tsz,x.hok.fresh q1⟩ (λb o q no nf=>keep b o q (hvf b o q no).1 (hvf b o q no).2 nf)
 ·exact x.ff.of_keeps λb o q no=>by
   obtain⟨sl,q'⟩:=slot b o q (hvf b o q no).1 (hvf b o q no).2;exact⟨_,q',rfl⟩
 ·rcases Bc.mp hb with z | z
  ·exact hch0 b z
  ·exact hch b z
 ·have lt:=x.sz b o q;refine nw lt (zQ q1 (Am (lc f7)))
theorem oM {s:db}{E:bd->db->Prop}{Q:Unit->db->Prop}{fl:bd}{fr:Option Addr}(x:Ex0 X h0 H hs s.heap)(q:HotF fl od h0 s.heap H e C)
  (fin:∀h',Ex0 X h0 H hs h'->HotF (fr.elim .none λf=>Ae f) od h0 h' H e C->Q () {s with heap:=h'}):o0 (wn X.prog X.w) X.A (Cf (.ref e) fr) Q E s:=by
 obtain⟨oe,vs,T,oT,ts,g1,gc,gd,g2,g3,ye,ue,nT,gT,fT,t3,yT,uT⟩:=q;have nf:T∉frs X.stack:=λz=>by
  obtain⟨_,o,go,no⟩:=x.ff.mem z;cases gT.symm.trans go
  exact no ts fT
 unfold Cf;refine bn (z6 g1 g2 g3 ?_);rw[if_pos (by simp:(Value.ref T != Value.none)=true)];refine AM gT fT (Ak.mp t3).1 ?_;have w:=As fT λa=>a.setIfInBounds 3 (fr.elim Value.none λf=>Ae f);have sb:AF T s.heap (s.heap.update T (Ag λa=>a.setIfInBounds 3 (fr.elim Value.none λf=>Ae f))):=Bl ..;refine fin _ (x.step yT uT nf sb) ⟨oe,vs,T,_,_,(sb.2 e nT.symm).trans g1,gc,gd,g2,g3,ye,ue,nT,zV _ gT (At w),w,?_,yT,uT⟩;have:=(Ak.mp t3).1;simp[this]
theorem yr {s:db}{E:bd->db->Prop}{Q:Unit->db->Prop}{fl:bd}{env:Env}{outer:List Env}{L:Addr}(x:Ex0 X h0 H hs s.heap)(hs':X.stack=env::outer)(fr:X.A.frames=some (env::outer))(hf:env.frame=some L)(q:HotF fl od h0 s.heap H e C)
  (fin:∀h',Ex0 X h0 H hs h'->HotF .none od h0 h' H e C->Q () {s with heap:=h'}):o0 (wn X.prog X.w) X.A (C2 env (.ref e)) Q E s:=by
 unfold C2;cases hfl:fl==Ae L with
 | true =>
  obtain⟨oe,vs,T,oT,ts,g1,gc,gd,g2,g3,ye,ue,nT,gT,fT,t3,yT,uT⟩:=id q;refine bn ?_;unfold Bu;simp only[hf];refine bn (z6 g1 g2 g3 ?_);rw[if_pos (by simp:(Value.ref T != Value.none)=true)];refine bn (z6 gT fT t3 ?_);rw[if_pos hfl];exact ww (oM (fr:=none) x q fin)
 | false =>
  obtain⟨oe,vs,T,oT,ts,g1,gc,gd,g2,g3,ye,ue,nT,gT,fT,t3,yT,uT⟩:=q;exact bn (yp x hs' fr hf hfl g1 gc gd g2 g3 ye ue (.inr ⟨T,oT,ts,rfl,nT,gT,fT,t3,yT,uT⟩) λh' x' q' _=>oM (fr:=none) x' q' fin)
end
section
variable {P:wE}{w:z8}{K:ac}{mg:Str->Option bd}{base:Heap}{N:List Str}{qual:Str}{scope:AC}{f:Addr}{cd:bd}{A:zX}{outer:List Env}{s0:db}{H0:Hp}{E:XK}
def Cx.zb (X:Cx)(Y:Env)(use:Option (bd->Sem Unit))(Q:bd->db->Prop)(acc:bd)(C:Addr):bd->db->Prop :=
 GB (wn X.prog X.w) X.A Y λx s''=>F6 (wn X.prog X.w) X.A X.xe use Q acc C (.error x) s''
theorem ze {sc2:AC}{N2:List Str}{s2 s':db}{H2 H':Hp}{C a Cc:Addr}{od:Option Addr}{fp:List Addr}{pins pY:List (Addr×Obj)}{σ σY:St}{acc:bd}{use:Option (bd->Sem Unit)}{Q:bd->db->Prop}
  (I2:Inv (cxOf (CX1 P w) P w K mg base N qual scope f cd A outer s0 H0 E) pins σ H2 s2) (szC:s2.heap.objs.size<=C) (IX':Inv (cxOf (CX1 P w) P w K mg base N qual scope f cd A outer s0 H0 E) pins σ H' s') (IY':Inv (blkC (cxOf (CX1 P w) P w K mg base N qual scope f cd A outer s0 H0 E) sc2 N2 s2 H2 C fp) pY σY H' s') (hot:Hot od s0.heap s'.heap H' a Cc) (hy:Yg s0.heap od) (he:E (odV od) (some Cc) H') :
  (cxOf (CX1 P w) P w K mg base N qual scope f cd A outer s0 H0 E).zb (blkC (cxOf (CX1 P w) P w K mg base N qual scope f cd A outer s0 H0 E) sc2 N2 s2 H2 C fp).env use Q acc C (.ref a) s':=by
 have ncf:C∉frs (cxOf (CX1 P w) P w K mg base N qual scope f cd A outer s0 H0 E).stack:=λz=>by
  obtain⟨_,o,go,_⟩:=I2.stack.mem z;exact absurd (lc go) (C8.mpr szC)
 obtain⟨m,hn,_⟩:=IY'.loc;have hn:s'.heap.Ns C m:=hn;obtain⟨oe,vs,hv,g1,gc,gd,g2,g3,ye,ue,hh⟩:=hot;have x0:Ex0 (cxOf (CX1 P w) P w K mg base N qual scope f cd A outer s0 H0 E) s0.heap H' s'.heap s'.heap:=⟨IX'.stack,IX'.hok,IX'.stkFree,⟨[],(λb z=>nomatch z),Un.refl⟩,λb o q=>nw (lc q) IX'.sz⟩
 show o0 (wn P w) _ (Bu (.ref a) (Ct qual scope s0.heap.objs.size f cd)) _ _ s';refine yp (X:=cxOf (CX1 P w) P w K mg base N qual scope f cd A outer s0 H0 E) (outer:=outer) (L:=s0.heap.objs.size) (fl:=.none) x0 rfl IX'.ok.frames rfl (CS.mpr (by simp[Ae])) g1 gc gd g2 g3 ye ue hh λh' x' q' kp=>?_;obtain⟨o,es,ep,ho,hd,hk⟩:=hn;have gC:=kp C o ho (λus z=>by rw[hd]at z;cases z) ncf;show ∃m,Heap.Ns h' C m/\∀h'',AF C h' h''->∀cenv:Env,cenv.locals=C->_;refine⟨m,⟨o,es,ep,gC,hd,hk⟩,λh2 sb cenv ce=>?_⟩;have yC:s0.heap.get? C=none:=by
  cases z:s0.heap.get? C with
  | none=>rfl
  | some o=>exact absurd (nw (lc z) (zQ I2.sz szC)) (AZ _)
 have uC:H' C=none:=IY'.free;have x2:=x'.step yC uC ncf sb;obtain⟨oe,vs,T,oT,ts,r1,rc,rd,r2,r3,ye,ue,nT,rT,rt,r4,yT,uT⟩:=q';have n1:a≠C:=λz=>by
  subst z;cases r1.symm.trans gC
  rw[hd]at r2;cases r2
 have n2:T≠C:=λz=>by
  subst z;cases rT.symm.trans gC
  rw[hd]at rt;cases rt
 have g1':=(sb.2 a n1).trans r1;have q2:HotF (Ae s0.heap.objs.size) od s0.heap h2 H' a Cc:=⟨oe,vs,T,oT,ts,g1',rc,rd,r2,r3,ye,ue,nT,(sb.2 T n2).trans rT,rt,r4,yT,uT⟩
 unfold PySem.passOn;refine bn (z6 g1' r2 r3 ?_);rw[if_neg (by simp:¬(Value.ref T==Value.none)=true)];refine bn (oM (X:=cxOf (CX1 P w) P w K mg base N qual scope f cd A outer s0 H0 E) (s:={s' with heap:=h2}) x2 q2 λh3 x3 q3=>wpAny_throw ?_);show o0 (wn P w) _ (C2 (Ct qual scope s0.heap.objs.size f cd) (.ref a)) _ _ _;refine yr (X:=cxOf (CX1 P w) P w K mg base N qual scope f cd A outer s0 H0 E) (outer:=outer) (L:=s0.heap.objs.size) (s:={s' with heap:=h3}) x3 rfl IX'.ok.frames rfl q3 λh4 x4 q4=>?_;obtain⟨ch,hch,u4⟩:=x4.un;have lo:∀b o,s0.heap.get? b=some o->b∉ch:=λb o q z=>by rw[(hch b z).1]at q;cases q
 have nL:∀b o,s0.heap.get? b=some o->b≠s0.heap.objs.size:=λb o q=>zM (lc q);obtain⟨oe,vs,T,oT,ts,r1,rc,rd,r2,r3,ye,ue,nT,rT,rt,r4,yT,uT⟩:=q4;refine⟨a,Cc,od,H',rfl,IX'.os,IX'.bare,⟨λb o q n nf _=>?_,λb o q n hb _=>?_,λb o q n _=>IX'.base.free b o q n (λz=>nomatch z),λb o q _=>?_,IX'.base.tups,IX'.base.frzs,IX'.base.tbls⟩,x4.hok,⟨oe,vs,.ref T,r1,rc,rd,r2,r3,ye,ue,.inr ⟨T,oT,ts,rfl,nT,rT,rt,r4,yT,uT⟩⟩,hy,he⟩
 ·refine u4.keep b o (IX'.base.keep b o q n nf λz=>nomatch z) (IX'.base.free b o q n λz=>nomatch z) (λz=>?_) (lo b o q);rcases wS.mp z with z | z
  ·exact nL b o q z
  ·exact nf z
 ·obtain⟨sl,q'⟩:=IX'.base.slot b o q n hb λz=>nomatch z
  obtain⟨sl',q''⟩:=u4.slot b _ q' (IX'.base.free b o q n λz=>nomatch z) (.tail _ hb) (lo b o q);exact⟨sl',q''⟩
 ·obtain⟨o',q'⟩:=IX'.base.there b o q λz=>nomatch z
  exact u4.there b o' q' (lo b o q)
theorem vw {sc2:AC}{N2:List Str}{s2:db}{H2:Hp}{C:Addr}{fp:List Addr}{pins:List (Addr×Obj)}{σ:St}{acc:bd}{use:Option (bd->Sem Unit)}{Q:bd->db->Prop}
  (I2:Inv (cxOf (CX1 P w) P w K mg base N qual scope f cd A outer s0 H0 E) pins σ H2 s2) (f2:∀b∈fp,FpOk (cxOf (CX1 P w) P w K mg base N qual scope f cd A outer s0 H0 E) pins H2 b) (szC:s2.heap.objs.size<=C) :
  jS (CX1 P w) ((blkC (cxOf (CX1 P w) P w K mg base N qual scope f cd A outer s0 H0 E) sc2 N2 s2 H2 C fp).wish ((cxOf (CX1 P w) P w K mg base N qual scope f cd A outer s0 H0 E).zb (blkC (cxOf (CX1 P w) P w K mg base N qual scope f cd A outer s0 H0 E) sc2 N2 s2 H2 C fp).env use Q acc C)) (EE E):=by
 rintro pY σY H s e s' I ⟨a,Cc,od,H',rfl,os,bare,un,hok,hot,hy,he⟩;have IY:=I.unwish;have IX:Inv (cxOf (CX1 P w) P w K mg base N qual scope f cd A outer s0 H0 E) pins σ H s:=I2.call' IY.os IY.base IY.hok IY.bare λb hb=>let ⟨_,b1,_,b3,b4,b5⟩:=f2 b hb;⟨b3,b1,b4,b5⟩;have back:∀b,s.heap.get? b=none->s0.heap.get? b=none:=λb q=>IX.back0 rfl q;obtain⟨H3,r,he⟩:=he ⟨_,_,_,hok⟩;exact ze I2 szC ((IX.call' os un hok bare λb z=>nomatch z).re r) ((IY.call' os un hok bare λb z=>nomatch z).re r) ((hot.older back).re r) (λdx q=>back dx (hy dx q)) he
end
section
variable {P:wE}{w:z8}{A:zX}{R:FL->db->Prop}{s:db}
theorem mU {elt tg iter:Expr}{scope:AC}{pos:Pos}{it acc:bd}{env:Env}(J:Nat->db->Prop)
  (turn:∀n s,J n s->o0 (wn P w) A (DE it) (λr s1=>match r with
   | none=>False
   | some v=>o0 (wn P w) A (CN tg it v) (λ_ s2=>o0 (wn P w) A (C6 tg env v) (λ_ s3 =>
     o0 (wn P w) A (eval elt env) (λx s5=>o0 (wn P w) A (call (.builtin "list.append") [acc,x]) (λ_ s6=>∃m,m<n/\J m s6) (λ_ _=>False) s5) (GB (wn P w) A env λx s'=>R (.error x) s') s3) (λ_ _=>False) s2) (λ_ _=>False) s1) (λ_ _=>False) s)
  (n:Nat) (h:J n s):CB (wn P w) A (.compLoop (.ListComp elt [⟨tg,iter,[],0⟩] scope pos) 0 it acc env) R s:=by
 have no:∀ {α:Type} {t:Sem α} {Q Q':α->db->Prop} {E:bd->db->Prop} {s:db},o0 (wn P w) A t Q (λ_ _=>False) s->(∀a s,Q a s->Q' a s)->o0 (wn P w) A t Q' E s :=
  λh hq=>z9 h hq λ_ _ f=>f.elim
 refine codeAny_loop rfl J (λn s hJ=>?_) n h;show o0 _ A ((compTurn (.ListComp elt [⟨tg,iter,[],0⟩] scope pos) 0 it acc env).onRaise (λx=>do Bu x env;GY x)) _ _ s;refine wpAny_noted ?_;rw[compTurn_list];refine bn (B2 (bn (no (turn n s hJ) λr s1 h1=>?_)));cases r with
 | none=>exact h1.elim
 | some v =>
  refine bn (no h1 λ_ s2 h2=>bn (no h2 λ_ s3 h3=>bn (GW ?_)));exact bn (bn (z9 h3 (λx s5 h5=>bn (no h5 λ_ s6 h6=>ww (ww ⟨rfl,h6⟩))) λ_ _ z=>z))
end
def uh (J:It)(n:Nat)(js:List Nat)(g:TG)(te:TE)(tr:List (Option V)->Hp->Prop)(σ:St)(H1:Hp):Prop:=∃W:Nat->Nat->List V->Hp->Prop,(∃m,W 0 m [] H1)/\∀i m ys H,W i m ys H ->
 J.go i H/\ys.length<xz/\∃N:List V->Hp->Prop,(∀zs H',N zs H'->∃m',m'<m/\W (i+1) m' zs H')/\∀x H',J.yld i H x H'->g x (bst n σ js) H' λσ2 H2=>σ2.drop n=capt σ js/\(te σ2 H2 (λv H4=>N (ys++[v]) H4)∨tr σ2 H2)
section
variable {X:Cx}
theorem oS {elt tg iter:Expr}{scope:AC}{pos:Pos}{own:List Str}{js:List Nat}{g:TG}{te:TE}{tr:List (Option V)->Hp->Prop}{pins:List (Addr×Obj)}{σ:St}{s2:db}{itv:bd}{E:bd->db->Prop}
  {RR:bd->Addr->FL->db->Prop} (hc:X.calm=true) (B:BlkC X scope own js) (hg:∀s H C fp,(own++capN X.N js).Nodup->PG (blkC X scope (own++capN X.N js) s H C fp) tg g)
  (he:∀s H C fp,PE (blkC X scope (own++capN X.N js) s H C fp) elt te)
  (hr:∀s H C fp acc,Inv X pins σ H s->(∀b∈fp,FpOk X pins H b)->s.heap.objs.size<=C->PE ((blkC X scope (own++capN X.N js) s H C fp).wish (GB (wn X.prog X.w) X.A (blkC X scope (own++capN X.N js) s H C fp).env λx s''=>RR acc C (.error x) s'')) elt (λσ H _=>tr σ H))
  (h:PIE X pins σ tg (λJ H1=>uh J own.length js g te tr σ H1) itv s2) :
  o0 (wn X.prog X.w) X.A (GC []) (λacc s3=>o0 (wn X.prog X.w) X.A (DF scope X.env.globals (fg scope X.env) [] X.env.qual none .none (some X.env)) (λcenv s4 =>
   CB (wn X.prog X.w) X.A (.compStart (.ListComp elt [⟨tg,iter,[],0⟩] scope pos) 0 itv acc {cenv with scope:=EH scope X.env}) (RR acc cenv.locals) s4) E s3) E s2:=by
 obtain⟨it,fp,tn,J,H2,rfl,I2,T,st2,f2,W,⟨m0,w0⟩,turn⟩:=h;refine Bg (fk ?_);generalize hPu:s2.heap.push {cls:=.type "list",dict:=none,data:=.seq ([]:List bd).toArray}=Pu;dsimp only;have hDC:Pu.objs.size=s2.heap.objs.size+1:=by rw[<- hPu,A2]
 generalize hD:s2.heap.objs.size=D at hDC ⊢;have gD:Pu.get? D=some {cls:=.type "list",dict:=none,data:=.seq ([]:List bd).toArray}:=by
  rw[<- hPu,<- hD];exact wP _ rfl
 have hns1:(Cs (Pu.push {cls:=.type "dict",data:=.dict #[]}) scope.names).Ns Pu.objs.size λ_=>none:=(Gj Pu (.type "dict")).keeps (Ds _ _);have hcs1:CellsOk (Cs (Pu.push {cls:=.type "dict",data:=.dict #[]}) scope.names) (Pu.objs.size+1) (Ay (Pu.objs.size+1) scope.names []):=by
  have ok:=cellsFrom_ok scope.names (Pu.push {cls:=.type "dict",data:=.dict #[]}) (Pu.objs.size+1) [] ⟨λ_ _ hm=>(nomatch hm),List.Pairwise.nil⟩ (by rw[A2];exact lm _);rw[A2]at ok;exact ok
 have keep0:∀b o,Pu.get? b=some o->(Cs (Pu.push {cls:=.type "dict",data:=.dict #[]}) scope.names).get? b=some o:=λb o e=>Ds _ _ b o (dL _ e);generalize hh1:Cs (Pu.push {cls:=.type "dict",data:=.dict #[]}) scope.names=h1 at hns1 hcs1 keep0 ⊢;generalize hC:Pu.objs.size=C at hns1 hcs1 hDC ⊢;have ltDC:D<C:=by rw[hDC];exact C0 D
 have neDC:D≠C:=zM ltDC;have keep1:∀b o,s2.heap.get? b=some o->h1.get? b=some o:=λb o e=>keep0 b o (by
  rw[<- hPu];exact dL _ e)
 have gD1:h1.get? D=some {cls:=.type "list",dict:=none,data:=.seq ([]:List bd).toArray}:=keep0 D _ gD;have szD:s2.heap.objs.size<=D:=E2 hD;have szC:s2.heap.objs.size<=C:=zQ szD (Am ltDC);have old:∀ {b:Addr},b<s2.heap.objs.size->b≠D/\b≠C:=λhb=>⟨zM (nw hb szD),zM (nw hb szC)⟩
 have fpo:∀b∈fp,∃o,s2.heap.get? b=some o:=λb hb=>let ⟨o,e,_⟩:=T.obj 0 _ st2 b hb;⟨o,e⟩;have fpD:∀b∈fp,b≠D/\b≠C:=λb hb=>by
  obtain⟨o,e⟩:=fpo b hb;exact old (lc e)
 have clD:∀x d,X.env.cells.lookup x=some d->d≠D/\d≠C:=λx d e=>by
  obtain⟨v,o,ho,_⟩:=I2.cell x d e;exact old (lc ho)
 have pinD:∀p∈X.pn++pins,p.1≠D/\p.1≠C:=λp hp=>by
  exact old (lc (I2.pin p hp).1)
 have locD:D≠X.env.locals/\C≠X.env.locals:=by
  exact⟨(old I2.lt).1.symm,(old I2.lt).2.symm⟩
 let Y:=blkC X scope (own++capN X.N js) s2 H2 C fp;have IB:Inv Y [] (bst own.length σ js) H2 {s2 with heap:=h1}:=qi B I2 f2 fpo szC hns1 hcs1 keep1;have fpB:∀ {H':Hp} {pl:List (Addr×Obj)},(∀b∈fp,H' b=none)->(∀p∈pl,p.1=D)->∀b∈fp,FpOk Y pl H' b:=λ{H' pl} hn hp b hb=>by
  obtain⟨f0,f1,f3,f4,f5,f6⟩:=f2 b hb;refine⟨hn b hb,(fpD b hb).2,λz=>?_,.inl hb,λx c e=>?_,λp q=>?_⟩
  ·rcases wS.mp (I2.stkSub b z)with z | z
   ·exact f1 z
   ·exact f3 z
  ·rcases dr e with q | q
   ·obtain⟨o,eo⟩:=fpo b hb;exact Aa (nw (lc eo) (zQ szC (Am (hcs1.empty _ _ q).2)))
   ·exact f5 x c q
  ·have q':p∈pl:=by simpa [Y,blkC] using q
   rw[hp p q'];exact(fpD b hb).1.symm
 have clB:∀x d,Y.env.cells.lookup x=some d->d≠D:=λx d e=>by
  rcases dr e with q | q
  ·exact Aa (BS ltDC (hcs1.empty _ _ q).2)
  ·exact(clD x d q).1
 have notFs:D∉Y.fs:=λz=>by
  obtain⟨_,o,ho,_⟩:=IB.ok.funs.mem z;exact(old (lc (show s2.heap.get? D=some o from ho))).1 rfl
 have loop:∀s3:db,s3={s2 with heap:=h1} ->
   CB (wn X.prog X.w) X.A (.compLoop (.ListComp elt [⟨tg,iter,[],0⟩] scope pos) 0 (.ref it) (.ref D) (F7 scope (fh scope C X.env) C X.env)) (RR (.ref D) C) s3:=by
  rintro s3 rfl;refine mU (λn s'=>∃(i:Nat) (ys:List V) (its:List bd) (k:Nat) (H':Hp),Inv Y [] (bst own.length σ js) H' s'/\tn i s'.heap/\(∀b∈fp,H' b=none)/\H' D=none/\Vals ys its /\
   s'.heap.get? D=some {cls:=.type "list",data:=.seq its.toArray k}/\W i n ys H') ?_ m0 ⟨0,[],[],0,H2,IB,T.keep 0 _ _ st2 (λb hb o e=>keep1 b o e),λb hb=>(f2 b hb).1,I2.hok.fresh szD,.nil,gD1,w0⟩
  rintro n s3 ⟨i,ys,its,k,H3,I3,st3,fr3,hD3,r3,g3,w3⟩;have I3p:Inv Y [(D,{cls:=.type "list",data:=.seq its.toArray k})] (bst own.length σ js) H3 s3:=I3.pins_of λp hp=>by
   have e:p=(D,{cls:=.type "list",data:=.seq its.toArray k}):=by simpa using hp
   subst e;exact⟨g3,hD3,neDC,notFs,λv z=>by cases z⟩
  have f3:∀b∈fp,FpOk Y [(D,{cls:=.type "list",data:=.seq its.toArray k})] H3 b:=fpB fr3 λp hp=>by
   have e:p=(D,{cls:=.type "list",data:=.seq its.toArray k}):=by simpa using hp
   rw[e]
  obtain⟨go,hz,N,hN,step⟩:=turn i n ys H3 w3
  ·refine thn (T.item Y rfl rfl rfl hc i _ s3 _ H3 (λ_ _=>False) I3p f3 st3 go) λr s4 ⟨u,hr,h4⟩=>?_;subst hr;refine thn h4 λ_ s5 ⟨x,H5,I5,r5,y5,st5,fr5⟩=>?_;have f5:∀b∈fp,FpOk Y [(D,{cls:=.type "list",data:=.seq its.toArray k})] H5 b:=λb hb=>⟨fr5 b hb,(f3 b hb).2⟩
   have I5':=I5.pinned f5 (T.obj _ _ st5);refine thn (hg s2 H2 C fp B.nd _ s5 _ H5 x u _ I5' r5 (step x H5 y5)) λ_ s6 ⟨σ6,H6,I6,d6,q6⟩=>?_;have after:∀ {s8:db} {H8:Hp},Inv Y ([(D,{cls:=.type "list",data:=.seq its.toArray k})]++jk fp s5.heap) σ6 H8 s8 ->
     s8.heap.get? D=some {cls:=.type "list",data:=.seq its.toArray k}/\H8 D=none/\tn (i+1) s8.heap/\(∀b∈fp,H8 b=none)/\Inv Y [] (bst own.length σ js) H8 s8:=λ{s8 H8} I8=>by
    have p8:=I8.pin (D,{cls:=.type "list",data:=.seq its.toArray k}) (by simp[Y,blkC]);refine⟨p8.1,p8.2.1,T.keep _ _ _ st5 λb hb o e=>(I8.pin (b,o) (wv _ (wv _ (cE hb e)))).1,λb hb=>?_,?_⟩
    ·obtain⟨o,e,_⟩:=T.obj _ _ st5 b hb;exact(I8.pin (b,o) (wv _ (wv _ (cE hb e)))).2.1
    ·refine(I8.pins_of (pins':=[]) λp hp=>absurd hp (by simp[Y,blkC])).weak ?_ λj v e=>?_
     ·rw[I8.len,jP];show _=(own++capN X.N js).length;unfold capN;simp
     ·rcases sK j own.length with z | z
      ·exfalso;unfold bst at e;rw[Aj (by simpa using z),B1]at e;split at e <;> cases e
      ·unfold bst at e;rw[AJ (by simpa using z),BH,<- d6,A7]at e;rw[<- e];congr 1;omega
   rcases q6 with q6 | q6
   ·refine z9 (he s2 H2 C fp _ s6 σ6 H6 _ I6 q6) (λu8 s8 ⟨v8,H8,I8,r8,n8⟩=>?_) λ_ _ z=>zZ z;obtain⟨m',hm,w8⟩:=hN _ _ n8;obtain⟨a1,a2,a3,a4,a5⟩:=after I8;have hsz:its.toArray.size<xz:=by rw[li,<- r3.length];exact hz
    refine Go zJ ⟨_,a1,rfl⟩ DH (Dz _ _) (DG D its.toArray k u8 (by omega)) ⟨a1,?_⟩;have q9:=Dw a1 (λxs=>xs.push u8);have sb:AF D s8.heap (s8.heap.update D (A3 λxs=>xs.push u8)):=Bl ..;have I9:=a5.young sb a2 szD neDC clB (λp hp=>absurd hp (by show p∉[]++[];simp));have fin:∃k',(s8.heap.update D (A3 λxs=>xs.push u8)).get? D=some {cls:=.type "list",data:=.seq (its++[u8]).toArray k'}:=⟨_,by
     rw[show(its++[u8]).toArray=its.toArray.push u8 by simp];exact q9⟩
    obtain⟨k',fin⟩:=fin;exact⟨m',hm,i+1,ys++[v8],its++[u8],k',H8,I9,T.keep _ _ _ a3 (λb hb o e=>(sb.2 b (fpD b hb).1).trans e),a4,a2,r3.append (.cons r8 .nil),fin,w8⟩
   ·exact z9 (hr s2 H2 C fp (.ref D) I2 f2 szC _ s6 σ6 H6 (λ_ _=>False) (I6.wish _) q6) (λ_ _ ⟨_,_,_,_,z⟩=>zZ z) λ_ _ z=>z
 exact FK (loop _ rfl) (T.self _ 0 _ _ _ (T.keep 0 _ _ st2 λb hb o e=>keep1 b o e) (loop _ rfl))
theorem mn {R:VK}{elt tg iter:Expr}{scope:AC}{pos pos' spos:Pos}{x:Str}(own:List Str)(js:List Nat){wi:TI}{g:TG}{te:TE}{tr:TS}
  (hc:X.calm=true) (B:Blk X scope own js) (hit:PI X.nox tg iter wi)
  (hg:∀s H C fp,(own++capN X.N js).Nodup->PG (blk X scope (own++capN X.N js) s H C fp) tg g) (he:∀s H C fp,PE (blk X scope (own++capN X.N js) s H C fp) elt te)
  (hr:∀D:Ends,D.rt=R->∀use Q s H C fp acc pins σ,Inv X pins σ H s->(∀b∈fp,FpOk X pins H b)->s.heap.objs.size<=C->PE ((blkC X scope (own++capN X.N js) s H C fp).wish (X.zb (blkC X scope (own++capN X.N js) s H C fp).env use Q acc C)) elt (λσ H _=>tr D σ H))
  (hw:Cr (.ListComp elt [⟨tg,iter,[],0⟩] scope pos) (some (.Name x pos')) spos.line X.env=pure true:=by rfl)
  (hs:∀x,Bx iter X.env x=pure x:=by intro _;rfl) :
  PSr X R (.Assign [.Name x pos'] (.ListComp elt [⟨tg,iter,[],0⟩] scope pos) spos) (λD σ H=>wi σ H λJ H1=>uh J own.length js g te (tr D) σ H1):=by
 intro pins s σ H D e I h;have hcl:D3 scope X.env=pure (fg scope X.env):=eU λx hx hf=>I.ok.has x.1 (B.free x hx hf);rw[FX _ _ _ _ hw];refine bn (B2 (bn ?_));show o0 _ X.A (do let _ <- comprehension (.ListComp elt [⟨tg,iter,[],0⟩] scope pos) scope X.env _ (GC []) false (eval iter X.env) (some (C6 (.Name x pos') X.env))) _ _ s;refine bn (thn (Q:=λ_ _=>False) (C4 (use:=some (C6 (.Name x pos') X.env)) rfl hs hcl B.kind B.names (z9 (hit pins s σ H _ (I.wish _) h) (λv s1 h1=>z9 h1 (λitv s2 h2=>?_) λ_ _ z=>zZ z) λ_ _ z=>zZ z)) λ_ s' q=>q.elim);obtain⟨it,fp,tn,J,H2,e2,I2w,T,st2,f2,W⟩:=h2;exact oS (RR:=λacc C=>F6 (wn X.prog X.w) X.A X.xe (some (C6 (.Name x pos') X.env)) (λ_ _=>False) acc C) hc B.c (λs H C fp nd=>by rw[iH B];exact hg s H C fp nd) (λs H C fp=>by rw[iH B];exact he s H C fp)
  (λs H C fp acc I f2 sz=>hr D e _ _ s H C fp acc pins σ I f2 sz) ⟨it,fp,tn,J,H2,e2,I2w.unwish,T,st2,f2,W⟩
theorem yb {E:XK}{Cl:Addr}{fn:Option Str}{K:ac}{S:ASp}{k:Nat}{x:Str}{ps:List Str}{p cpos:Pos}{e:Expr}{es:List Expr}{t:TA}{D:Ends}(eD:D.rt=XW E Cl fn)(F:OkX X.prog X.w X.K X.mg X.base k x ps Cl fn (spA K S))(hr:Room k X.A)(hx:jS (CX1 X.prog X.w) X E)(ha:PA X.nox (e::es) t)(hg:Gl X x:=by rfl)
  (hdb:(x==("__debug__" : Str))=false:=by decide) (he:zT (e::es) X.env=(false,eval e X.env)::zT es X.env:=by rfl) (hpl:(BW cpos (zT es X.env)).any (·.1)=false:=by rfl) :
  PE X (.Call (.Name x p) (e::es) [] cpos) (λσ H _=>tRet (nH (spA K S) [] E0 t) D σ H):=by
 obtain⟨f,fd,hm,hk,hb,F⟩:=F.ex;intro pins s σ H Q I h;have pe:=nZ (p:=p) (sp:=spX Cl fn (spA K S)) (E:=E) F hr hg hm hk hb .nil hx ha.nox hdb he hpl;have h':nH (spX Cl fn (spA K S)) [] E t σ H λ_ _=>False:=by
  have h2:t σ H λvs H1=>spA K S (vs++[]) H1 D.rt E0:=h;rw[eD]at h2;exact h2
 exact z9 (pe pins s σ H _ I h') (λ_ _ ⟨_,_,_,_,z⟩=>z.elim) λ_ _ z=>z
end
def jJ (n:Nat)(js:List Nat)(c:En->Prop)(g:AG)(te tr:AE)(rt:R->En->Prop):List D->List D->En->Prop
 | [],_,_=>False
 | d::ds,acc,ρ=>c ρ/\g d (blkE n js ρ) λρ1=>(te ρ1 λr ρ3=>sto [r.frz] ρ3 λes ρ4=>jJ n js c g te tr rt ds (acc++es) (back ρ (js.map R.o) (ρ4.drop n)))∨tr ρ1 λr ρ3=>∃d,r = .d d/\rt (.d d) (back ρ (js.map R.o) (ρ3.drop n))
def xQ (n:Nat)(js:List Nat)(wi:TI)(g:TG)(te tr:TE):TS:=λD σ H=>wi σ H λJ H1=>uh J n js g te (λσ H=>tr σ H λv H'=>D.rt v H') σ H1
def y6 (n:Nat)(js:List Nat)(i:AI)(g:AG)(te tr:AE):AS:=λe ρ=>i ρ λds c ρ1=>ds.length<=1000000/\jJ n js c g te tr e.rt ds [] ρ1
section
variable {K:ac}
theorem l_ {pr:Nat->Bool}{n:Nat}{js:List Nat}{wi:TI}{g:TG}{te tr:TE}{ai:AI}{ag:AG}{ate aR:AE}(hi:TIok K (λ_=>true) wi ai)(hg:TGok K (λj=>decide (n<=j)) g ag)(he:TEok K te ate)(hR:TEok K tr aR)
  (hd:dis (js.map R.o)=true:=by rfl):TSok K pr (xQ n js wi g te tr) (y6 n js ai ag ate aR):=by
 intro F σ ρ H D e hp r h ok;refine hi F σ ρ H _ _ r h λds c ρ1 J H1 h1 r1 k1 wk=>?_;obtain⟨hz,h1⟩:=h1;have hd':dis (blkR n js)=true:=by rw[lU];exact hd
 refine⟨λi m ys H'=>∃ ρ' acc,m=ds.length - i/\i<=ds.length/\Rel K F σ ρ' H'/\Kp σ ρ1 ρ' H1 H'/\RepDs K (hid H' (hs F σ ρ')) ys acc/\acc.length<=i/\jJ n js c ag ate aR e.rt (ds.drop i) acc ρ',⟨ds.length,ρ1,[],rfl,zS _,r1,.refl,.nil,zS _,h1⟩,?_⟩;rintro i m ys H' ⟨ρ',acc,rfl,hl,r',k',rd,al,h'⟩;have w:c ρ'->WkAt K (hs F σ ρ') H' J ds:=λhc=>wk σ ρ' H' k'.vis r'.sl (λ_ _ _ e=>e) (λa z=>uQ r' z) hc;have yl:ys.length=acc.length:=rd.length;rcases sK i ds.length with lt | ge
 ·skip
  rw[Av lt]at h';unfold jJ at h';obtain⟨hcc,h'⟩:=h';obtain⟨go,yld⟩:=(w hcc i).1 ds[i] (bv lt);refine⟨go,i6 (by omega),λzs H2=>∃ ρ2 acc2,Rel K F σ ρ2 H2/\Kp σ ρ1 ρ2 H1 H2/\RepDs K (hid H2 (hs F σ ρ2)) zs acc2/\acc2.length<=i+1/\jJ n js c ag ate aR e.rt (ds.drop (i+1)) acc2 ρ2,
   λzs H2 ⟨ρ2,acc2,a1,a2,a3,a4,a5⟩=>⟨ds.length - (i+1),by omega,ρ2,acc2,rfl,lt,a1,a2,a3,a4,a5⟩,λx H2 hy=>?_⟩
  obtain⟨sm,rx⟩:=yld x H2 hy;have r0':=r';have k':Kp σ ρ1 ρ' H1 H2:=k'.trans ⟨λa o e _=>sm a o e,λ_ h=>h⟩;have rd:RepDs K (hid H2 (hs F σ ρ')) ys acc:=rd.same (bP λa o e n=>⟨sm a o e,n⟩);have r':=r0'.grow sm;have src:=qg (K:=K) (F:=F) (σ:=σ) (ρ:=ρ') (H:=H2) n js;have rb:=r'.sub src hd';have hs2:=rO r' src;rw[cF]at rb hs2;have pin:∀i a,(fZ F σ ρ' H2 (bst n σ js) (blkE n js ρ')).pin i a->decide (n<=i)=true:=λi a h=>by
   rcases h with h | h
   ·exact decide_eq_true (qh h.1)
   ·exact h.elim
  have hlen:(bst n σ js).length=n+js.length:=jP;have ret:∀ σ2 ρ2 H3,Rel K (fZ F σ ρ' H2 (bst n σ js) (blkE n js ρ')) σ2 ρ2 H3->σ2.length=(bst n σ js).length->σ2.drop n=capt σ js->(∀i,(gt ρ2 i).own=true->(gt (blkE n js ρ') i).own=true) ->
    Rel K F σ (back ρ' (js.map R.o) (ρ2.drop n)) H3/\Kp σ ρ' (back ρ' (js.map R.o) (ρ2.drop n)) H2 H3/\Same (hid H3 (hs (fZ F σ ρ' H2 (bst n σ js) (blkE n js ρ')) σ2 ρ2)) (hid H3 (hs F σ (back ρ' (js.map R.o) (ρ2.drop n)))):=λσ2 ρ2 H3 rr hlen2 hdrop hown=>by
   obtain⟨f1,f2⟩:=rr.forget (n:=n) (by omega) λi a h=>of_decide_eq_true (pin i a h)
   rw[hdrop]at f1 f2;have f1':Rel K (fZ F σ ρ' H2 (bst n σ js) ((blkR n js).map (dg ρ'))) (bst n σ js) (pp n .un++ρ2.drop n) H3:=by rw[cF];exact f1
   have bk:=r'.back src hd' f1' λi hi=>by
    rw[cF];rw[pZ]at hi;split at hi
    ·cases hi
    ·rename_i hni;rw[lE,show n+(i - n)=i by omega]at hi;exact hown i hi
   have ln:(pp n Sv.un++ρ2.drop n).length=n+js.length:=by
    have:=rr.len;simp;omega
   rw[m8 js ρ' n _ ln,C_ (by simp),cF]at bk;exact⟨bk.1,bk.2.1,f2.trans bk.2.2⟩
  refine hg _ (bst n σ js) (blkE n js ρ') H2 x _ _ _ pin rb (by rw[hs2];exact rx) h' λσ2 ρ2 h2 r2 l2 p2 o2=>?_;have hdrop:σ2.drop n=capt σ js:=by
   have:σ2.drop n=(bst n σ js).drop n:=by
    apply B_;intro i;rw[A7,A7];exact p2 (n+i) (decide_eq_true (by omega))
   rw[this];unfold bst;rw[C_ (by simp)]
  refine⟨hdrop,?_⟩;rcases h2 with h2 | h2
  ·refine .inl (he _ σ2 ρ2 H2 _ _ r2 h2 λr4 ρ4 v H4 h4 o4=>?_);obtain⟨r4',k4,i4⟩:=o4.inF;obtain⟨d,ρ5,h5,r5,k5,rv⟩:=rP r4' i4 h4;obtain⟨b1,b2,b3⟩:=ret σ2 ρ5 H4 r5 l2 hdrop λi hi=>(o2 i (k4.sb i (k5.sb i hi))).1
   exact⟨_,acc++[d],b1,k'.trans b2,(rd.same b2.vis).append (.one (rv.same b3)),by simp;omega,h5⟩
  ·refine .inr (hR _ σ2 ρ2 H2 _ _ r2 h2 λr4 ρ4 v H4 h4 o4=>?_);obtain⟨d,rfl,h4⟩:=h4;obtain⟨r4',k4,rv⟩:=o4;obtain⟨b1,b2,b3⟩:=ret σ2 ρ4 H4 r4' l2 hdrop λi hi=>(o2 i (k4.sb i hi)).1
   exact ok.rt _ _ _ v _ h4 ⟨b1,rv.same b3⟩
 ·rw[A0 ge]at h';exact h'.elim
end
theorem kD {n:Nat}{js:List Nat}{c:En->Prop}{g:AG}{te tr:AE}{rt:R->En->Prop}(I:Nat->List D->En->Prop){ds:List D}(hc:∀k acc ρ,I k acc ρ->c ρ)
  (hs:∀(k:Nat) d acc ρ (N:List D->En->Prop),ds[k]? = some d->I k acc ρ->(∀acc' ρ',I (k+1) acc' ρ'->N acc' ρ') ->
   g d (blkE n js ρ) λρ1=>(te ρ1 λr ρ3=>sto [r.frz] ρ3 λes ρ4=>N (acc++es) (back ρ (js.map R.o) (ρ4.drop n)))∨tr ρ1 λr ρ3=>∃d,r = .d d/\rt (.d d) (back ρ (js.map R.o) (ρ3.drop n)))
  (hd:∀acc ρ,¬I ds.length acc ρ):∀ ρ,I 0 [] ρ->jJ n js c g te tr rt ds [] ρ:=by
 have go:∀(es:List D) (k:Nat),ds.drop k=es->k<=ds.length->∀acc ρ,I k acc ρ->jJ n js c g te tr rt es acc ρ:=by
  intro es;induction es with
  | nil =>
   intro k h hk acc ρ i;have:k=ds.length:=by
    have:=congrArg Fa h;rw[DT]at this;simp at this;omega
   subst this;exact absurd i (hd acc ρ)
  | cons d es ih =>
   intro k h hk acc ρ i;have hd':ds[k]? = some d:=by
    have:(ds.drop k)[0]? = some d:=by rw[h];rfl
    rwa [A7,E3]at this
   have lt:=(kt.mp hd').1;refine⟨hc k acc ρ i,hs k d acc ρ _ hd' i λacc' ρ' i'=>ih (k+1) ?_ lt acc' ρ' i'⟩;rw[<- List.drop_drop,h];rfl
 exact λρ i=>go ds 0 rfl (zS _) [] ρ i
end L2
namespace K45
open PySem PySem.Spec PyProof.Rows L2
def top (i:Nat):Stmt:=PySem.Challenge.pw_fewjoins_k45_whole_turned_makes_the_turn.main.body.getD i (.Pass ⟨0,0,0,0⟩)
abbrev dh:Stmt:=yR (top 3)
theorem qt:bw ["self", "at"] ["self", "at"] (aI dh):=⟨rfl,rfl,rfl,by decide +kernel,rfl,by decide +kernel,by decide +kernel⟩
abbrev dQ:Stmt:=yR (top 5)
theorem rY:bw ["self", "thing"] ["self", "thing"] (aI dQ):=⟨rfl,rfl,rfl,by decide +kernel,rfl,by decide +kernel,by decide +kernel⟩
abbrev h_:Stmt:=top 7
abbrev oy:List Str:=["thing", "least", "most"]
theorem nM:bw oy ["thing", "least", "most"] (aI h_):=⟨rfl,rfl,rfl,by decide +kernel,rfl,by decide +kernel,by decide +kernel⟩
abbrev ia:Stmt:=top 8
abbrev oz:List Str:=["thing", "least", "most"]
theorem nN:bw oz ["thing", "least", "most"] (aI ia):=⟨rfl,rfl,rfl,by decide +kernel,rfl,by decide +kernel,by decide +kernel⟩
abbrev k6:Stmt:=top 11
abbrev sL:List Str:=["givens", "row", "given"]
theorem gO:bw sL ["givens"] (aI k6):=⟨rfl,rfl,rfl,by decide +kernel,rfl,by decide +kernel,by decide +kernel⟩
abbrev k7:Stmt:=top 12
abbrev sM:List Str:=["one", "other"]
theorem rZ:bw sM ["one", "other"] (aI k7):=⟨rfl,rfl,rfl,by decide +kernel,rfl,by decide +kernel,by decide +kernel⟩
abbrev fv:Stmt:=top 13
abbrev ku:List Str:=["many", "rows"]
theorem qx:bw ku ["many", "rows"] (aI fv):=⟨rfl,rfl,rfl,by decide +kernel,rfl,by decide +kernel,by decide +kernel⟩
abbrev k8:Stmt:=top 17
abbrev sN:List Str:=["thing", "many", "joins", "outs"]
theorem gP:bw sN ["thing"] (aI k8):=⟨rfl,rfl,rfl,by decide +kernel,rfl,by decide +kernel,by decide +kernel⟩
abbrev gw:Stmt:=top 18
abbrev my:List Str:=["many", "joins", "rows", "join"]
theorem ft:bw my ["many", "joins"] (aI gw):=⟨rfl,rfl,rfl,by decide +kernel,rfl,by decide +kernel,by decide +kernel⟩
abbrev jb:Stmt:=top 19
abbrev qJ:List Str:=["rows", "join", "a", "b", "last"]
theorem fM:bw qJ ["rows", "join"] (aI jb):=⟨rfl,rfl,rfl,by decide +kernel,rfl,by decide +kernel,by decide +kernel⟩
abbrev fR:Stmt:=top 20
abbrev jy:List Str:=["things", "outs"]
theorem nO:bw jy ["things", "outs"] (aI fR):=⟨rfl,rfl,rfl,by decide +kernel,rfl,by decide +kernel,by decide +kernel⟩
abbrev fO:Stmt:=top 21
abbrev jv:List Str:=["many"]
theorem nJ:bw jv ["many"] (aI fO):=⟨rfl,rfl,rfl,by decide +kernel,rfl,by decide +kernel,by decide +kernel⟩
abbrev ja:Stmt:=top 22
abbrev qI:List Str:=["one", "other"]
theorem qw:bw qI ["one", "other"] (aI ja):=⟨rfl,rfl,rfl,by decide +kernel,rfl,by decide +kernel,by decide +kernel⟩
abbrev gy:Stmt:=top 23
abbrev mz:List Str:=["net", "words", "many", "joins", "outs", "told", "a", "b"]
theorem ck:bw mz ["net", "words"] (aI gy):=⟨rfl,rfl,rfl,by decide +kernel,rfl,by decide +kernel,by decide +kernel⟩
abbrev fN:Stmt:=top 24
abbrev ju:List Str:=["net", "words", "many", "joins", "outs", "told"]
theorem dC:bw ju ["net", "words"] (aI fN):=⟨rfl,rfl,rfl,by decide +kernel,rfl,by decide +kernel,by decide +kernel⟩
abbrev i9:Stmt:=top 25
abbrev qG:List Str:=["net"]
theorem qu:bw qG ["net"] (aI i9):=⟨rfl,rfl,rfl,by decide +kernel,rfl,by decide +kernel,by decide +kernel⟩
abbrev i_:Stmt:=top 26
abbrev qH:List Str:=["net"]
theorem qv:bw qH ["net"] (aI i_):=⟨rfl,rfl,rfl,by decide +kernel,rfl,by decide +kernel,by decide +kernel⟩
abbrev fQ:Stmt:=top 27
abbrev jx:List Str:=["net", "many", "joins", "outs", "rows"]
theorem dD:bw jx ["net"] (aI fQ):=⟨rfl,rfl,rfl,by decide +kernel,rfl,by decide +kernel,by decide +kernel⟩
abbrev eJ:Stmt:=top 29
abbrev jY:List Str:=["wish", "many", "rows", "turned"]
theorem da:bw jY ["wish"] (aI eJ):=⟨rfl,rfl,rfl,by decide +kernel,rfl,by decide +kernel,by decide +kernel⟩
abbrev bT:Stmt:=top 30
abbrev dy:List Str:=["net", "many", "joins", "outs", "uses", "rows", "made", "at", "a", "b", "got", "turned"]
theorem aE:bw dy ["net"] (aI bT):=⟨rfl,rfl,rfl,by decide +kernel,rfl,by decide +kernel,by decide +kernel⟩
abbrev fP:Stmt:=top 31
abbrev jw:List Str:=["net", "many", "joins", "outs", "uses", "place", "out"]
theorem cB:bw jw ["net"] (aI fP):=⟨rfl,rfl,rfl,by decide +kernel,rfl,by decide +kernel,by decide +kernel⟩
abbrev cI:Stmt:=top 32
abbrev jZ:List Str:=["thing", "uses", "rows", "made", "got", "use"]
theorem bt:bw jZ ["thing", "uses", "rows", "made"] (aI cI):=⟨rfl,rfl,rfl,by decide +kernel,rfl,by decide +kernel,by decide +kernel⟩
abbrev h8:Stmt:=top 34
abbrev ou:List Str:=["_law_script"]
theorem nK:bw ou ["_law_script"] (aI h8):=⟨rfl,rfl,rfl,by decide +kernel,rfl,by decide +kernel,by decide +kernel⟩
abbrev h9:Stmt:=top 35
abbrev ox:List Str:=["_law_tape_here", "_law_many", "_law_found", "_law_spot", "_law_cells", "_law_cell", "_law_seed"]
theorem cC:bw ox ["_law_tape_here", "_law_many"] (aI h9):=⟨rfl,rfl,rfl,by decide +kernel,rfl,by decide +kernel,by decide +kernel⟩
abbrev cc:Stmt:=top 36
abbrev cL:List Str:=["_law_tape_here", "_law_many", "_law_rows", "_law_joins", "_law_clean", "_law_turn", "_law_a", "_law_b", "_law_taken", "_law_outs"]
theorem bf:bw cL ["_law_tape_here"] (aI cc):=⟨rfl,rfl,rfl,by decide +kernel,rfl,by decide +kernel,by decide +kernel⟩
abbrev fu:Stmt:=top 37
abbrev lx:List Str:=["_law_net", "_law_kind", "_law_found"]
theorem bY:bw lx ["_law_net"] (aI fu):=⟨rfl,rfl,rfl,by decide +kernel,rfl,by decide +kernel,by decide +kernel⟩
abbrev r6:Stmt:=top 38
abbrev vB:List Str:=["_law_script", "_law_tape_here", "_law_turn", "_law_net", "_law_kind", "_law_found", "_law_made", "_law_due", "_law_again"]
theorem gj:bw vB ["_law_script"] (aI r6):=⟨rfl,rfl,rfl,by decide +kernel,rfl,by decide +kernel,by decide +kernel⟩
section
variable {P:wE}{w:z8}{K:ac}{mg:Str->Option bd}{base:Heap}
theorem n_ (D:DefN K mg "_law_tape" h8 ["_law_script"])(B:BI mg):OkN P w K mg base 1 "_law_tape" ["_law_script"] (spA K xB):=by
 refine OkN.imp (sp:=rR K) ?_ v9;refine D.ok nK (λvs H Q E h=>?_) (λf cdv A outer s H vs Q E hr h=>?_)
 ·obtain⟨a,ns,rfl,_⟩:=h;rfl
 ·obtain⟨a,ns,rfl,hS,k⟩:=h;refine⟨_,(aV (bH (wF (lh cj (gW (gN K) (pv 0) jh (ie aX)) (lh cj aX (lh cj aX wA))) rfl rfl (by simp) (by decide)))),?_⟩;intro t ht;have s0:Same H (upd H t (.dK [])):=(Same.refl H).new ht;refine⟨_,rfl,63,rfl,a,_,rfl,s0.seq hS,λl hl=>?_⟩;have ntl:t≠l:=bB bh hl;refine⟨by rw[aW ntl,bh],[(Sum.inr ("cells" : Str),V.ref l),(Sum.inr ("spot" : Str),V.int 0),(Sum.inr ("left" : Str),V.int 0)],rfl,(by show 3<=15;decide),?_⟩;rw[rJ];have fin:=k t l ht (s0.free hl) ntl;have eq:upd (upd (upd H t (.dK [])) l (.lst (cutV (ns.map V.int) none (some 63)))) t (.dK (cy l 0 0))=upd (upd H l (.lst ((ns.take 63).map V.int))) t (.dK (cy l 0 0)):=by
   rw[zt];funext b;unfold upd;by_cases h1:b=t
   ·rw[if_pos h1,if_pos h1]
   ·rw[if_neg h1,if_neg h1,if_neg h1]
  rw[eq];exact fin
theorem og (D:DefN K mg "_law_draw" h9 ["_law_tape_here", "_law_many"])(B:BI mg):OkN P w K mg base 1 "_law_draw" ["_law_tape_here", "_law_many"] (spA K xC):=by
 refine OkN.imp (sp:=rS K) ?_ xo;refine D.ok cC (λvs H Q E h=>?_) (λf cdv A outer s H vs Q E hr h=>?_)
 ·obtain⟨t,c,m,sp,lf,ns,n,rfl,_⟩:=h;rfl
 ·obtain⟨t,c,m,sp,lf,ns,n,rfl,hT,hC,h1,h2,h3,hn,hm,k⟩:=h;have hu:=cM hr;have hm0:=hm.1;have gl:DGet H t (kV (Sum.inr "left")) (some (.int lf)):=by rw[<- rK (c:=c) (sp:=sp)];exact DGet.k hT
  have gs:DGet H t (kV (Sum.inr "spot")) (some (.int sp)):=by rw[<- rH (c:=c) (lf:=lf)];exact DGet.k hT
  have gc:DGet H t (kV (Sum.inr "cells")) (some (.ref c)):=by rw[<- kh (sp:=sp) (lf:=lf)];exact DGet.k hT
  refine⟨_,(aA (eh (bz jq (jm hu (pv 0) cj (λ_ _=>rfl)) aX (bJ _))
   (aA (bo (i:=2) cC.nd rfl (by first | exact Or.inl rfl | exact Or.inr rfl) (bA jo (jm hu (pv 0) cj (λ_ _=>rfl)) (pv 1)))
   (aA (jg hu (pv 0) cj (bA lq (jm hu (pv 0) cj (λ_ _=>rfl)) (pv 1)) rfl)
   (aV (bH (pv 2)))))
   bU)
   (aA (bo (i:=3) cC.nd rfl (by first | exact Or.inl rfl | exact Or.inr rfl) (jm hu (pv 0) cj (λ_ _=>rfl)))
   (aA (jg hu (pv 0) cj (bA cn (pv 3) aX) rfl)
   (aA (bo (i:=4) cC.nd rfl (by first | exact Or.inl rfl | exact Or.inr rfl) (jm hu (pv 0) cj (λ_ _=>rfl)))
   (aA (bo (i:=5) cC.nd rfl (by first | exact Or.inl rfl | exact Or.inr rfl) aX)
   (aA (eh (bz jq (aS (aU K) rfl B.len_ bF (aj (pv 4) ar)) aX (bJ _))
   (aV (bo (i:=5) cC.nd rfl (by first | exact Or.inl rfl | exact Or.inr rfl) (bE (aT K) (pv 4) (bA jo (pv 3) (aS (aU K) rfl B.len_ bF (aj (pv 4) ar))) (λ_ _=>rfl))))
   bU)
   (aA (eh (PW.pt (mj (bz zm (pv 5) (bA sE aX aX) (bJ _)) (jd (bz yk (pv 3) (aS (aU K) rfl B.len_ bF (aj (pv 4) ar)) (bJ _)))))
   (aA (jg hu (pv 0) cj (bA lq (bA e_ (pv 5) (bA sE aX aX)) (pv 1)) rfl)
   (aV (bH (bA jo (bA e_ (pv 5) (bA sE aX aX)) (pv 1)))))
   bU)
   (aA (bo (i:=6) cC.nd rfl (by first | exact Or.inl rfl | exact Or.inr rfl) (bA jo (bA mv (bA cn (bA cn (bA cn (bA jo (pv 5) aX) (bA mv (bA mv aX (pv 3)) (pv 3))) (bA mv aX (pv 3))) aX) aX) aX))
   (aV (bH (bA jo (bA lq (bA jo (bA mv (pv 6) (bA cn (pv 6) aX)) aX) aX) (pv 1)))))))))))),?_⟩
  refine⟨_,rfl,t,_,rfl,gl,_,_,rfl,rfl,_,rfl,ite2 (λhl=>?_) λhl=>?_⟩
  ·refine⟨_,rfl,t,_,rfl,gl,_,rfl,_,_,rfl,rfl,hm0,?_⟩;refine⟨_,rfl,t,_,rfl,gl,_,rfl,_,_,rfl,rfl,hm,_,rfl,t,_,rfl,DPut.k (k:=Sum.inr "left") hT (gM (by show 3<=1000;decide)),_,rfl,?_⟩;rw[la];exact drawn (Q:=λz H=>Q (.int z) H) hm0 λr hr=>k r _ _ hr h1 (by omega) (El h3 (DP hm0))
  ·refine⟨_,rfl,t,_,rfl,gs,?_⟩;refine⟨_,rfl,_,_,rfl,rfl,_,rfl,t,_,rfl,DPut.k (k:=Sum.inr "spot") hT (gM (by show 3<=1000;decide)),?_⟩;rw[uD];have hT1:(upd H t (.dK (cy c (sp+1) lf))) t=some (.dK (cy c (sp+1) lf)):=bh;have hC1:SqL K (upd H t (.dK (cy c (sp+1) lf))) c (ns.map V.int):=Grow.seq (Grow.refl.upd _) hT hC;have gr1:Grow t H (upd H t (.dK (cy c (sp+1) lf))):=Grow.refl.upd _;have gc1:DGet (upd H t (.dK (cy c (sp+1) lf))) t (kV (Sum.inr "cells")) (some (.ref c)):=by rw[<- kh (sp:=sp+1) (lf:=lf)];exact DGet.k hT1
   have kk:∀(r:Nat) (lf':Int),(r:Int)<m->0<=lf'->Q (.int (r:Nat)) (upd (upd H t (.dK (cy c (sp+1) lf))) t (.dK (cy c (sp+1) lf'))):=λr lf' hr hl=>by rw[vU];exact k r _ _ hr (by omega) (by omega) hl
   have kl:∀(r:Nat),(r:Int)<m->Q (.int (r:Nat)) (upd H t (.dK (cy c (sp+1) lf))):=λr hr=>k r _ _ hr (by omega) (by omega) h3;generalize upd H t (.dK (cy c (sp+1) lf))=H1 at hT1 hC1 gr1 gc1 kk kl ⊢;refine⟨_,rfl,t,_,rfl,gc1,?_⟩;have p18:(10:Int)^(18:Int).toNat=1000000000000000000:=by decide
   have fits:CPow 10 18:=⟨by decide,by decide,by decide⟩
   have pos1:(0:Int)<2147483629:=by decide
   have pos2:(0:Int)<2147483647:=by decide
   have spOk:-(2^64)<sp/\sp<2^64:=by omega
   refine⟨_,rfl,c,_,rfl,.inl hC1,_,_,rfl,rfl,_,rfl,ite2 (λhl=>?_) λhl=>?_⟩
   ·have hl':0<ns.length:=by
     have:=of_decide_eq_true hl;rw[im]at this;omega
    have el:((ns.map V.int).length:Int)=ns.length:=by rw[im]
    have hb0:0<=sp % ((ns.map V.int).length:Int):=Gi _ (by omega);have hb1:sp % ((ns.map V.int).length:Int)<((ns.map V.int).length:Int):=FS _ (by omega);obtain⟨j,hj⟩:=AH hb0;have hj':j<ns.length:=by rw[hj]at hb1;omega
    refine⟨_,rfl,_,rfl,_,rfl,c,_,rfl,.inl hC1,_,_,rfl,rfl,(by show(0:Int)<((ns.map V.int).length:Int);omega),.inl ⟨c,_,_,V.int ns[j],rfl,rfl,hC1,?_,?_⟩⟩
    ·rw[hj];exact lV (by simp[hj'])
    ·generalize ns[j]=z;refine⟨_,rfl,_,_,rfl,rfl,fits,_,_,rfl,rfl,_,rfl,ite2 (λhz=>?_) λhz=>?_⟩
     ·refine⟨_,rfl,_,rfl,c,_,rfl,.inl hC1,_,_,rfl,rfl,_,rfl,ite2 (λhs=>?_) λhs=>?_⟩
      ·refine⟨_,rfl,_,_,rfl,rfl,fits,_,_,rfl,rfl,_,rfl,_,_,rfl,rfl,hm,_,rfl,t,_,rfl,DPut.k (k:=Sum.inr "left") hT1 (gM (by show 3<=1000;decide)),?_⟩;rw[la];refine⟨_,rfl,_,_,rfl,rfl,fits,_,_,rfl,rfl,_,rfl,_,_,rfl,rfl,hm0,?_⟩;refine drawn (Q:=λz H=>Q (.int z) H) hm0 λr hr=>kk r _ hr (El ?_ (DP hm0));have hz':=of_decide_eq_true hz;rw[p18]at hz' ⊢;omega
      ·refine⟨_,rfl,_,_,rfl,rfl,pos1,_,rfl,_,_,rfl,rfl,.inl ⟨by decide,by decide⟩,_,rfl,_,_,rfl,rfl,.inr spOk,_,_,rfl,rfl,_,rfl,_,_,rfl,rfl,.inl ⟨by decide,by decide⟩,_,_,rfl,rfl,_,_,rfl,rfl,_,_,rfl,rfl,.inr ⟨by decide,by decide⟩,_,_,rfl,rfl,pos2,?_⟩;refine⟨_,rfl,_,rfl,_,_,rfl,rfl,_,_,rfl,rfl,.inl pw,_,_,rfl,rfl,pos1,_,_,rfl,rfl,dv64,_,rfl,_,_,rfl,rfl,hm0,?_⟩;exact drawn (Q:=λz H=>Q (.int z) H) hm0 λr hr=>kl r hr
     ·refine⟨_,rfl,_,_,rfl,rfl,pos1,_,rfl,_,_,rfl,rfl,.inl ⟨by decide,by decide⟩,_,rfl,_,_,rfl,rfl,.inr spOk,_,_,rfl,rfl,_,rfl,_,_,rfl,rfl,.inl ⟨by decide,by decide⟩,_,_,rfl,rfl,_,_,rfl,rfl,_,_,rfl,rfl,.inr ⟨by decide,by decide⟩,_,_,rfl,rfl,pos2,?_⟩;refine⟨_,rfl,_,rfl,_,_,rfl,rfl,_,_,rfl,rfl,.inl pw,_,_,rfl,rfl,pos1,_,_,rfl,rfl,dv64,_,rfl,_,_,rfl,rfl,hm0,?_⟩;exact drawn (Q:=λz H=>Q (.int z) H) hm0 λr hr=>kl r hr
   ·refine⟨_,rfl,_,_,rfl,rfl,fits,_,_,rfl,rfl,_,rfl,ite2 (λhz=>?_) λhz=>?_⟩
    ·refine⟨_,rfl,_,rfl,c,_,rfl,.inl hC1,_,_,rfl,rfl,_,rfl,ite2 (λhs=>?_) λhs=>?_⟩
     ·refine⟨_,rfl,_,_,rfl,rfl,fits,_,_,rfl,rfl,_,rfl,_,_,rfl,rfl,hm,_,rfl,t,_,rfl,DPut.k (k:=Sum.inr "left") hT1 (gM (by show 3<=1000;decide)),?_⟩;rw[la];refine⟨_,rfl,_,_,rfl,rfl,fits,_,_,rfl,rfl,_,rfl,_,_,rfl,rfl,hm0,?_⟩;refine drawn (Q:=λz H=>Q (.int z) H) hm0 λr hr=>kk r _ hr (El ?_ (DP hm0));have hz':=of_decide_eq_true hz;rw[p18]at hz' ⊢;omega
     ·refine⟨_,rfl,_,_,rfl,rfl,pos1,_,rfl,_,_,rfl,rfl,.inl ⟨by decide,by decide⟩,_,rfl,_,_,rfl,rfl,.inr spOk,_,_,rfl,rfl,_,rfl,_,_,rfl,rfl,.inl ⟨by decide,by decide⟩,_,_,rfl,rfl,_,_,rfl,rfl,_,_,rfl,rfl,.inr ⟨by decide,by decide⟩,_,_,rfl,rfl,pos2,?_⟩;refine⟨_,rfl,_,rfl,_,_,rfl,rfl,_,_,rfl,rfl,.inl pw,_,_,rfl,rfl,pos1,_,_,rfl,rfl,dv64,_,rfl,_,_,rfl,rfl,hm0,?_⟩;exact drawn (Q:=λz H=>Q (.int z) H) hm0 λr hr=>kl r hr
    ·refine⟨_,rfl,_,_,rfl,rfl,pos1,_,rfl,_,_,rfl,rfl,.inl ⟨by decide,by decide⟩,_,rfl,_,_,rfl,rfl,.inr spOk,_,_,rfl,rfl,_,rfl,_,_,rfl,rfl,.inl ⟨by decide,by decide⟩,_,_,rfl,rfl,_,_,rfl,rfl,_,_,rfl,rfl,.inr ⟨by decide,by decide⟩,_,_,rfl,rfl,pos2,?_⟩;refine⟨_,rfl,_,rfl,_,_,rfl,rfl,_,_,rfl,rfl,.inl pw,_,_,rfl,rfl,pos1,_,_,rfl,rfl,dv64,_,rfl,_,_,rfl,rfl,hm0,?_⟩;exact drawn (Q:=λz H=>Q (.int z) H) hm0 λr hr=>kl r hr
end
end K45
set_option maxHeartbeats 1000000
namespace K45
open PySem PySem.Spec PyProof.Rows L2
theorem rz {i j:Nat}{d1 d2:D}{ρ:En}{k:En->Prop}(h:k (pt (pt ρ i (.vl d1)) j (.vl d2))):qW 2 (g9 (gp i) (g9 (gp j) gaNil)) (.tup [d1,d2]) ρ k:=h
theorem gaN1 {i:Nat}{a:D}{ρ:En}{M:En->Prop}(h:M (pt ρ i (.vl a))):gp i a ρ M:=h
def usO (os:List Nat)(t:Nat):List Nat:=(wr os.length).filter λp=>os.getD p 0==t
def eE (N:Net):List (List Nat):=(wr (N.m+N.js.length)).map (usO N.os)
def hI:ASp:=λss q=>∃N:Net,ss=[.vl (netD N)]/\cf N/\q (.n (.ll ((eE N).map natsD))) [.vl (netD N)]
def juS:List Nat->Nat->List Nat->List (Nat×Nat)->Nat×List Nat×List (Nat×Nat)
 | [],g,R,M=>(g,R,M)
 | u::us,g,R,M=>juS us R.length (R++[R.getD g 0 ^^^ R.getD u 0]) (M++[(min g u,max g u)])
def juOk:List Nat->Nat->List Nat->Prop
 | [],_,_=>True
 | u::us,g,R=>R.getD g 0≠R.getD u 0/\juOk us R.length (R++[R.getD g 0 ^^^ R.getD u 0])
def ny:ASp:=λss q=>∃(t u:Nat) (us R:List Nat) (M:List (Nat×Nat)),ss=[nv t,.vl (.lst (natsD (u::us))),.ow (natsD R),.ow (M.map L2.aN)]/\(∀x∈u::us,x<R.length)/\juOk us u R/\R.length+us.length<=500000/\M.length+us.length<=500000 /\
 q (.d (nD (juS us u R M).1)) [nv t,.vl (.lst (natsD (u::us))),.ow (natsD (juS us u R M).2.1),.ow ((juS us u R M).2.2.map L2.aN)]
def usP (os:List Nat)(k t:Nat):List Nat:=(wr k).filter λp=>os.getD p 0==t
def usA (os:List Nat)(n k:Nat):List (List Nat):=(wr n).map (usP os k)
theorem kO (os:List Nat)(k t:Nat):usP os (k+1) t=usP os k t++if os.getD k 0==t then[k]else[]:=by
 unfold usP;rw[A4,AU];congr 1;rw[Cj,Cp]
theorem vd {os:List Nat}{n k t:Nat}(h:t<n):(usA os n k).getD t []=usP os k t:=by
 unfold usA;rw[bi,lw,Af h];rfl
theorem kP (os:List Nat)(n k:Nat):(usA os n k).length=n:=by simp[usA]
theorem nE (os:List Nat)(k t:Nat):(usP os k t).length<=k:=by
 unfold usP;exact zQ (E4 _ _) (by simp)
theorem vT {os:List Nat}{n k:Nat}(h:os.getD k 0<n):(usA os n k).set (os.getD k 0) ((usA os n k).getD (os.getD k 0) []++[k])=usA os n (k+1):=by
 rw[vd h];apply B_;intro t;rcases sK t n with q | q
 ·have e:(usA os n (k+1))[t]? = some (usP os (k+1) t):=by unfold usA;rw[lw,Af q];rfl
  rw[e,kO];by_cases z:t=os.getD k 0
  ·subst z;rw[Ap (by rw[kP];exact h)];simp
  ·rw[zn (AB z)];unfold usA;rw[lw,Af q];have:(os.getD k 0==t)=false:=by rw[beq_eq_false_iff_ne];exact AB z
   rw[this];simp
 ·rw[Ab (by rw[Bn,kP];exact q),Ab (by rw[kP];exact q)]
theorem lA:∀(xs:List Nat) (y g:Nat) (R:List Nat) (M:List (Nat×Nat)),juS (xs++[y]) g R M=((juS xs g R M).2.1.length,(juS xs g R M).2.1++[(juS xs g R M).2.1.getD (juS xs g R M).1 0 ^^^ (juS xs g R M).2.1.getD y 0],(juS xs g R M).2.2++[(min (juS xs g R M).1 y,max (juS xs g R M).1 y)])
 | [],y,g,R,M=>rfl
 | x::xs,y,g,R,M=>lA xs y _ _ _
theorem gE:∀(xs:List Nat) (g:Nat) (R:List Nat) (M:List (Nat×Nat)),(juS xs g R M).2.1.length=R.length+xs.length/\(juS xs g R M).2.2.length=M.length+xs.length
 | [],g,R,M=>⟨rfl,rfl⟩
 | x::xs,g,R,M=>by
  obtain⟨a,b⟩:=gE xs R.length (R++[R.getD g 0 ^^^ R.getD x 0]) (M++[(min g x,max g x)]);rw[pc,xL]at a b;rw[zK];exact⟨a.trans (by omega),b.trans (by omega)⟩
theorem pV:∀(xs:List Nat) {g:Nat} {R:List Nat} {M:List (Nat×Nat)},g<R.length->(juS xs g R M).1<(juS xs g R M).2.1.length
 | [],_,_,_,h=>h
 | x::xs,g,R,M,_=>pV xs (by rw[pc,xL];omega)
theorem oF:∀(xs:List Nat) {y g:Nat} {R:List Nat} {ys:List Nat} (M:List (Nat×Nat)),juOk (xs++y::ys) g R->(juS xs g R M).2.1.getD (juS xs g R M).1 0≠(juS xs g R M).2.1.getD y 0
 | [],_,_,_,_,_,h=>h.1
 | x::xs,_,_,_,_,M,h=>oF xs _ h.2
def juU (us:List Nat)(R:List Nat)(M:List (Nat×Nat)):Nat×List Nat×List (Nat×Nat):=juS us.tail (us.headD 0) R M
def wY (us R:List Nat):Prop:=us≠[]/\juOk us.tail (us.headD 0) R
def app (U:List (List Nat))(t g:Nat):List (List Nat):=U.set t (U.getD t []++[g])
def tuAt (N:Net):Nat->List (List Nat)×List Nat×List (Nat×Nat)
 | 0=>(eE N,aJ N.os.length,[])
 | k+1=>let S:=tuAt N k
  let J:=juU (S.1.getD (N.m+(N.js.length - 1 - k)) []) S.2.1 S.2.2
  (app (app S.1 (N.js.getD (N.js.length - 1 - k) (0,0)).1 J.1) (N.js.getD (N.js.length - 1 - k) (0,0)).2 J.1,J.2.1,J.2.2)
def tgAt (N:Net):Nat->List Nat×List Nat×List (Nat×Nat)
 | 0=>([],(tuAt N N.js.length).2.1,(tuAt N N.js.length).2.2)
 | k+1=>let S:=tgAt N k
  let J:=juU ((tuAt N N.js.length).1.getD (N.m - 1 - k) []) S.2.1 S.2.2
  (S.1++[J.1],J.2.1,J.2.2)
def bx (N:Net):Net:=⟨N.os.length,(tgAt N N.m).2.2,(tgAt N N.m).1.reverse⟩
structure TuOk (N:Net):Prop where
 j:∀k,k<N.js.length->wY ((tuAt N k).1.getD (N.m+(N.js.length - 1 - k)) []) (tuAt N k).2.1
 g:∀k,k<N.m->wY ((tuAt N N.js.length).1.getD (N.m - 1 - k) []) (tgAt N k).2.1
def o6:ASp:=λss q=>∃N:Net,ss=[.vl (netD N)]/\cf N/\N.os.length<=12/\N.js.length+N.os.length<=N.m+132/\TuOk N/\q (.d (netD (bx N))) [.vl (netD N)]
theorem fS:∀xs:List Nat,noLs (natsD xs)=true
 | []=>rfl
 | x::xs=>by
  show(true&&noLs (natsD xs))=true;rw[fS xs];rfl
theorem gZ:∀js:List (Nat×Nat),noLs (js.map L2.aN)=true
 | []=>rfl
 | p::js=>by
  show(noL (L2.aN p)&&noLs (js.map L2.aN))=true;rw[gZ js];rfl
theorem wO (N:Net):noL (netD N)=true:=by
 show(true&&(noL (.tup (N.js.map L2.aN))&&(noL (.tup (natsD N.os))&&true)))=true;have a:noL (.tup (N.js.map L2.aN))=true:=by unfold noL;exact gZ _
 have b:noL (.tup (natsD N.os))=true:=by unfold noL;exact fS _
 rw[a,b];rfl
structure u7 (N:Net)(k:Nat)(S:List (List Nat)×List Nat×List (Nat×Nat)):Prop where
 l:S.1.length=N.m+N.js.length
 r:∀us∈S.1,∀x∈us,x<S.2.1.length
 u:∀us∈S.1,us.length<=24+2*k
 rl:S.2.1.length=N.os.length+S.2.2.length
 ml:S.2.2.length<=300*k
theorem dM (U:List (List Nat))(t g:Nat):(app U t g).length=U.length:=by unfold app;rw[Bn]
theorem lW {U:List (List Nat)}{t g:Nat}{us:List Nat}(h:us∈app U t g):us∈U∨((U.getD t []∈U)/\us=U.getD t []++[g]):=by
 unfold app at h;rcases sK t U.length with q | q
 ·rcases List.mem_or_eq_of_mem_set h with z | z
  ·exact .inl z
  ·refine .inr ⟨?_,z⟩;rw[bi,bv q];exact Au q
 ·rw[CU q]at h;exact .inl h
theorem rC {N:Net}{k:Nat}{S:List (List Nat)×List Nat×List (Nat×Nat)}(I:u7 N k S)(hk:k<=132){us:List Nat}(hu:us∈S.1)(hne:us≠[])(a b:Nat) :
  u7 N (k+1) (app (app S.1 a (juU us S.2.1 S.2.2).1) b (juU us S.2.1 S.2.2).1,(juU us S.2.1 S.2.2).2.1,(juU us S.2.1 S.2.2).2.2):=by
 obtain⟨u,us',rfl⟩:=zU hne;have h1:=gE us' u S.2.1 S.2.2;have hu0:=I.r _ hu u (z7 ..);have h2:=pV us' (M:=S.2.2) hu0;have hul:=I.u _ hu;have e:juU (u::us') S.2.1 S.2.2=juS us' u S.2.1 S.2.2:=rfl;rw[e];rw[zK]at hul;have rl:=I.rl;have ml:=I.ml;have mem:∀vs∈app (app S.1 a (juS us' u S.2.1 S.2.2).1) b (juS us' u S.2.1 S.2.2).1,(∀x∈vs,x<(juS us' u S.2.1 S.2.2).2.1.length)/\vs.length<=24+2*(k+1):=λvs hv=>by
  have one:∀ {U:List (List Nat)} {t n:Nat},(∀vs∈U,(∀x∈vs,x<(juS us' u S.2.1 S.2.2).2.1.length)/\vs.length<=n)->∀vs∈app U t (juS us' u S.2.1 S.2.2).1,(∀x∈vs,x<(juS us' u S.2.1 S.2.2).2.1.length)/\vs.length<=n+1:=λ{U t n} hU vs hv=>by
   rcases lW hv with z | ⟨z,rfl⟩
   ·exact⟨(hU vs z).1,Nat.le_succ_of_le (hU vs z).2⟩
   ·refine⟨λx hx=>?_,by rw[pc,xL];have:=(hU _ z).2;omega⟩;rcases Bc.mp hx with q | q
    ·exact(hU _ z).1 x q
    ·rw[Ac.mp q];exact h2
  have:=one (one (U:=S.1) (n:=24+2*k) λvs hv=>⟨λx hx=>by have:=I.r vs hv x hx;omega,I.u vs hv⟩) vs hv;exact⟨this.1,by omega⟩
 refine⟨by rw[dM,dM];exact I.l,λvs hv=>(mem vs hv).1,λvs hv=>(mem vs hv).2,?_,?_⟩
 ·show(juS us' u S.2.1 S.2.2).2.1.length=N.os.length+(juS us' u S.2.1 S.2.2).2.2.length;omega
 ·show(juS us' u S.2.1 S.2.2).2.2.length<=300*(k+1);omega
theorem bI {U:List (List Nat)}{t:Nat}(h:t<U.length):U.getD t []∈U:=by
 rw[bi,bv h];exact Au h
theorem ke {N:Net}(hN:cf N)(ok:TuOk N):∀k,k<=N.js.length->u7 N k (tuAt N k)
 | 0,_=>by
  have o24:=hN.o24;refine⟨?_,λus hu x hx=>?_,λus hu=>?_,?_,zS _⟩
  ·show(eE N).length=_;simp[eE]
  ·obtain⟨t,_,rfl⟩:=Bh.mp hu;show x<(aJ N.os.length).length;rw[bu];exact Ah.mp (Ao.mp hx).1
  ·obtain⟨t,_,rfl⟩:=Bh.mp hu;have:=nE N.os N.os.length t;exact zQ this (by omega)
  ·show(aJ N.os.length).length=_;rw[bu];rfl
 | k+1,h=>by
  have I:=ke hN ok k (by omega);have jl:=hN.jl;have lt:N.m+(N.js.length - 1 - k)<(tuAt N k).1.length:=by rw[I.l];omega
  exact rC I (by omega) (bI lt) (ok.j k (by omega)).1 _ _
theorem sv4 (N:Net)(R:List Nat)(M:List (Nat×Nat)){x a b c d e:Sv}(h:svNs [a,b,c,d,e]=true):svX 4 [.vl (netD N),nv N.m,.vl (.tup (N.js.map L2.aN)),.vl (.tup (natsD N.os)),x,.ow (natsD R),.ow (M.map L2.aN),a,b,c,d,e]=true:=by
 show(noL (netD N)&&(true&&(noL (.tup (N.js.map L2.aN))&&(noL (.tup (natsD N.os))&&(true&&(noLs (natsD R)&&(noLs (M.map L2.aN)&&svNs [a,b,c,d,e])))))))=true;have e1:noL (.tup (N.js.map L2.aN))=true:=by unfold noL;exact gZ _
 have e2:noL (.tup (natsD N.os))=true:=by unfold noL;exact fS _
 rw[wO,e1,e2,fS,gZ,h];rfl
theorem dm (U:List (List Nat)):noLL (U.map natsD)=true:=A8.mpr λxs h=>by
 obtain⟨us,_,rfl⟩:=Bh.mp h;exact fS us
theorem qN {U:List (List Nat)}{t:Nat}(h:t<U.length):atI ((U.map natsD).map D.lst) ((t:Nat):Int)=some (.lst (natsD (U.getD t []))):=by
 refine lV ?_;rw[lw,lw,bv h,bi,bv h];rfl
theorem fX (U:List (List Nat))(t g:Nat):(U.map natsD).set t ((U.map natsD).getD t []++[nD g])=(app U t g).map natsD:=by
 have gd:(U.map natsD).getD t []=natsD (U.getD t []):=by
  rw[bi,bi,lw];cases U[t]? <;> rfl
 unfold app;rw[gd,<- bV,GI]
theorem kA (U:List (List Nat))(t:Nat):((U.map natsD).getD t []).length=(U.getD t []).length:=by
 rw[bi,bi,lw];cases U[t]? <;> simp
theorem rG {N:Net}(hN:cf N)(ok:TuOk N):∀k,k<=N.m->(tgAt N k).2.1.length=N.os.length+(tgAt N k).2.2.length/\(tgAt N k).2.2.length<=300*(N.js.length+k)/\(tuAt N N.js.length).2.1.length<=(tgAt N k).2.1.length/\(tgAt N k).1.length=k
 | 0,_=>by
  have I:=ke hN ok N.js.length (lm _);exact⟨I.rl,by have:=I.ml;show(tuAt N N.js.length).2.2.length<=_;omega,lm _,rfl⟩
 | k+1,h=>by
  obtain⟨a,b,c,d⟩:=rG hN ok k (by omega);have I:=ke hN ok N.js.length (lm _);have jl:=hN.jl;have lt:N.m - 1 - k<(tuAt N N.js.length).1.length:=by rw[I.l];omega
  have hm:=bI lt;have g:=(ok.g k (by omega)).1;obtain⟨u,us',e⟩:=zU g;have hU:=I.u _ hm;have ht:tgAt N (k+1)=((tgAt N k).1++[(juS us' u (tgAt N k).2.1 (tgAt N k).2.2).1],(juS us' u (tgAt N k).2.1 (tgAt N k).2.2).2.1,(juS us' u (tgAt N k).2.1 (tgAt N k).2.2).2.2):=by
   rw[tgAt,e];rfl
  have h1:=gE us' u (tgAt N k).2.1 (tgAt N k).2.2;rw[e,zK]at hU;rw[ht];refine⟨?_,?_,?_,?_⟩
  ·show(juS us' u (tgAt N k).2.1 (tgAt N k).2.2).2.1.length=_+(juS us' u (tgAt N k).2.1 (tgAt N k).2.2).2.2.length;omega
  ·show(juS us' u (tgAt N k).2.1 (tgAt N k).2.2).2.2.length<=_;omega
  ·show _<=(juS us' u (tgAt N k).2.1 (tgAt N k).2.2).2.1.length;omega
  ·show((tgAt N k).1++[_]).length=k+1;rw[pc,xL,d]
def ub:ASp:=λss q=>∃(t:Nat) (R:List Nat) (M:List (Nat×Nat)),ss=[nv t,.vl (.lst (natsD [])),.ow (natsD R),.ow (M.map L2.aN)]/\t<20000/\q (.d (nD t)) [nv t,.vl (.lst (natsD [])),.ow (natsD R),.ow (M.map L2.aN)]
def t_:ASp:=λss q=>∃(t u:Nat) (us R:List Nat) (M:List (Nat×Nat)),ss=[nv t,.vl (.lst (natsD (u::us))),.ow (natsD R),.ow (M.map L2.aN)]/\t<20000/\(∀x∈u::us,x<R.length)/\¬juOk us u R/\R.length+us.length<=500000/\M.length+us.length<=500000 /\
 ∀(R':List Nat) (M':List (Nat×Nat)),q (.d (nD t)) [nv t,.vl (.lst (natsD (u::us))),.ow (natsD R'),.ow (M'.map L2.aN)]
theorem sT:∀ {us:List Nat} {g:Nat} {R:List Nat} (M:List (Nat×Nat)),¬juOk us g R->∃k y,us[k]? = some y/\juOk (us.take k) g R/\(juS (us.take k) g R M).2.1.getD (juS (us.take k) g R M).1 0=(juS (us.take k) g R M).2.1.getD y 0
 | [],_,_,_,h=>absurd trivial h
 | u::us,g,R,M,h=>by
  by_cases e:R.getD g 0=R.getD u 0
  ·exact⟨0,u,rfl,trivial,e⟩
  ·obtain⟨k,y,h1,h2,h3⟩:=sT (us:=us) (g:=R.length) (R:=R++[R.getD g 0 ^^^ R.getD u 0]) (M++[(min g u,max g u)]) λz=>h ⟨e,z⟩
   exact⟨k+1,y,h1,⟨e,h2⟩,h3⟩
theorem qr {α:Type}{us:List α}{k n:Nat}{x:α}(hx:us[k]? = some x)(h:k<n):us.take n=us.take k++x::(us.take n).drop (k+1):=by
 have hk:=(kt.mp hx).1;conv=>lhs;rw[<- BG k (us.take n)]
 have lt:k<(us.take n).length:=by rw[Az];omega
 rw[Av lt,List.take_take,AR (Am h),List.getElem_take];rw[bv hk]at hx;injection hx with hx;rw[hx]
def thg (N:Net)(i:Nat):Nat:=N.m+N.js.length - 1 - i
def stU (N:Net)(i:Nat):List Nat:=if i<N.js.length then(tuAt N i).1.getD (N.m+(N.js.length - 1 - i)) []else(tuAt N N.js.length).1.getD (N.m - 1 - (i - N.js.length)) []
def stR (N:Net)(i:Nat):List Nat:=if i<N.js.length then(tuAt N i).2.1 else(tgAt N (i - N.js.length)).2.1
def stOk (N:Net)(i:Nat):Prop:=wY (stU N i) (stR N i)
theorem gh {N:Net}{i:Nat}(h:i<N.js.length):stU N i=(tuAt N i).1.getD (N.m+(N.js.length - 1 - i)) []:=if_pos h
theorem iA {N:Net}{i:Nat}(h:i<N.js.length):stR N i=(tuAt N i).2.1:=if_pos h
theorem gi {N:Net}(k:Nat):stU N (N.js.length+k)=(tuAt N N.js.length).1.getD (N.m - 1 - k) []:=by
 unfold stU;rw[if_neg (by omega),C1]
theorem gK {N:Net}(k:Nat):stR N (N.js.length+k)=(tgAt N k).2.1:=by
 unfold stR;rw[if_neg (by omega),C1]
theorem vZ {N:Net}(h:∀i,i<N.js.length+N.m->stOk N i):TuOk N :=
 ⟨λk hk=>by have:=h k (by omega);unfold stOk at this;rwa [gh hk,iA hk]at this,λk hk=>by have:=h (N.js.length+k) (by omega);unfold stOk at this;rwa [gi,gK]at this⟩
theorem dA {N:Net}(hN:cf N):∀k,k<=N.js.length->(∀i,i<k->stOk N i)->u7 N k (tuAt N k)
 | 0,_,_=>by
  have o24:=hN.o24;refine⟨?_,λus hu x hx=>?_,λus hu=>?_,?_,zS _⟩
  ·show(eE N).length=_;simp[eE]
  ·obtain⟨t,_,rfl⟩:=Bh.mp hu;show x<(aJ N.os.length).length;rw[bu];exact Ah.mp (Ao.mp hx).1
  ·obtain⟨t,_,rfl⟩:=Bh.mp hu;have:=nE N.os N.os.length t;exact zQ this (by omega)
  ·show(aJ N.os.length).length=_;rw[bu];rfl
 | k+1,h,ok=>by
  have I:=dA hN k (by omega) λi hi=>ok i (by omega);have jl:=hN.jl;have lt:N.m+(N.js.length - 1 - k)<(tuAt N k).1.length:=by rw[I.l];omega
  have g:=(ok k (by omega)).1;rw[gh (by omega)]at g;exact rC I (by omega) (bI lt) g _ _
theorem kW {N:Net}(hN:cf N):∀k,k<=N.m->(∀i,i<N.js.length+k->stOk N i)->(tgAt N k).2.1.length=N.os.length+(tgAt N k).2.2.length/\(tgAt N k).2.2.length<=300*(N.js.length+k)/\(tuAt N N.js.length).2.1.length<=(tgAt N k).2.1.length/\(tgAt N k).1.length=k
 | 0,_,ok=>by
  have I:=dA hN N.js.length (lm _) λi hi=>ok i (by omega);exact⟨I.rl,by have:=I.ml;show(tuAt N N.js.length).2.2.length<=_;omega,lm _,rfl⟩
 | k+1,h,ok=>by
  obtain⟨a,b,c,d⟩:=kW hN k (by omega) λi hi=>ok i (by omega)
  have I:=dA hN N.js.length (lm _) λi hi=>ok i (by omega);have jl:=hN.jl;have lt:N.m - 1 - k<(tuAt N N.js.length).1.length:=by rw[I.l];omega
  have hm:=bI lt;have g:=(ok (N.js.length+k) (by omega)).1;rw[gi]at g;obtain⟨u,us',e⟩:=zU g;have hU:=I.u _ hm;have ht:tgAt N (k+1)=((tgAt N k).1++[(juS us' u (tgAt N k).2.1 (tgAt N k).2.2).1],(juS us' u (tgAt N k).2.1 (tgAt N k).2.2).2.1,(juS us' u (tgAt N k).2.1 (tgAt N k).2.2).2.2):=by
   rw[tgAt,e];rfl
  have h1:=gE us' u (tgAt N k).2.1 (tgAt N k).2.2;rw[e,zK]at hU;rw[ht];refine⟨?_,?_,?_,?_⟩
  ·show(juS us' u (tgAt N k).2.1 (tgAt N k).2.2).2.1.length=_+(juS us' u (tgAt N k).2.1 (tgAt N k).2.2).2.2.length;omega
  ·show(juS us' u (tgAt N k).2.1 (tgAt N k).2.2).2.2.length<=_;omega
  ·show _<=(juS us' u (tgAt N k).2.1 (tgAt N k).2.2).2.1.length;omega
  ·show((tgAt N k).1++[_]).length=k+1;rw[pc,xL,d]
def t6:ASp:=λss q=>∃N:Net,ss=[.vl (netD N)]/\cf N/\¬(N.os.length<=12/\N.js.length+N.os.length<=N.m+132)/\q (.d .non) [.vl (netD N)]
def t7:ASp:=λss q=>∃(N:Net) (i:Nat),ss=[.vl (netD N)]/\cf N/\N.os.length<=12/\N.js.length+N.os.length<=N.m+132/\i<N.js.length+N.m/\(∀i',i'<i->stOk N i')/\stU N i=[]/\q (.d (nD (thg N i))) [.vl (netD N)]
def t5:ASp:=λss q=>∃(N:Net) (i:Nat),ss=[.vl (netD N)]/\cf N/\N.os.length<=12/\N.js.length+N.os.length<=N.m+132/\i<N.js.length+N.m/\(∀i',i'<i->stOk N i')/\stU N i≠[]/\¬stOk N i/\q (.d (nD (thg N i))) [.vl (netD N)]
section
variable {P:wE}{w:z8}{K:ac}{mg:Str->Option bd}{base:Heap}
theorem sH (dn:DefN K mg "joined" k7 ["one", "other"])(B:BI mg):OkN P w K mg base 1 "joined" ["one", "other"] (spA K fL):=by
 refine dn.aok2 (k:=0) rZ (λj=>j==0||j==1) [] fL rfl (λf cdv A outer s H E hr=>have hu:=cM hr;⟨_,(aV (bH (bA vy (pv 0) (pv 1)))),(br (aG bc af af))⟩) ?_;rintro ss q ⟨x,y,rfl,hq⟩;refine⟨rfl,rfl,?_⟩;show q (.d (.int (CA x y))) [nv x,nv y];rw[q_];exact hq
theorem n6 (dn:DefN K mg "own_rows" fO ["many"])(B:BI mg):OkN P w K mg base 1 "own_rows" ["many"] (spA K SOwn):=by
 refine dn.aok2 (k:=0) nJ (λj=>j==0) [] SOwn rfl (λf cdv A outer s H E hr=>have hu:=cM hr;⟨_,(aV (bH (fA ["given"] [] rfl (Blk.of (aI fO) jv) (cz rfl B.range_ (aj (pv 0) ar)) (λ_ _ _ _ nd=>(aL (i:=0) nd rfl (by first | exact Or.inl rfl | exact Or.inr rfl))) (λ_ _ _ _=>dZ) (λ_ _ _ _=>(bA pM aX (pv 0)))))),(br (cA (cx (aa af aq)) (az rfl) dv (aG ig aO af)))⟩) ?_;rintro ss q ⟨m,rfl,hm,hq⟩;refine⟨rfl,rfl,⟨by omega,by omega⟩,by rw[cp];omega,?_⟩;refine g_ (λk=>.int (1 <<< k:Nat)) trivial (λk acc N hk hN=>?_) ?_
 ·rw[CK];refine⟨⟨by omega,by omega,by decide⟩,?_⟩;show N (acc++[.int ((1:Int)*2^((k:Int).toNat))]) _;rw[i8];exact hN
 ·rw[Aq];have e:((wr m).map λk=>D.int (1 <<< k:Nat))=natsD (aJ m):=by unfold aJ natsD;rw[AL];rfl
  rw[e];exact hq
theorem mx (dn:DefN K mg "all_words" gy ["net", "words"])(B:BI mg)(gA6:OkN P w K mg base 1 "joined" ["one", "other"] (spA K fL)):OkN P w K mg base 2 "all_words" ["net", "words"] (spA K SAll):=by
 refine dn.aok2 (k:=1) ck (λj=>j==0||j==1) [.un,.un,.un,.un,.un,.un] SAll rfl (λf cdv A outer s H E hr=>have hu:=cM hr;⟨_,(aA (eA (pv 0) (bO K (n:=3) rfl (aM (aL (i:=2) ck.nd rfl (by first | exact Or.inl rfl | exact Or.inr rfl)) (aM (aL (i:=3) ck.nd rfl (by first | exact Or.inl rfl | exact Or.inr rfl)) (aM (aL (i:=4) ck.nd rfl (by first | exact Or.inl rfl | exact Or.inr rfl)) bN)))))
  (aA (bo (i:=5) ck.nd rfl (by first | exact Or.inl rfl | exact Or.inr rfl) (di (q8 K) rfl B.list_ tV (aj (pv 1) ar)))
  (aA (gV A_ rfl (d_ K (pv 3)) (bO K (n:=2) rfl (aM (aL (i:=6) ck.nd rfl (by first | exact Or.inl rfl | exact Or.inr rfl)) (aM (aL (i:=7) ck.nd rfl (by first | exact Or.inl rfl | exact Or.inr rfl)) bN)))
  (aV (bZ (dj K zL zJ zI bK (pv 5) (aj (bC gA6 (hr.mono (by decide)) (aj (bE (aT K) (pv 5) (pv 6) (λ_ _=>rfl)) (aj (bE (aT K) (pv 5) (pv 7) (λ_ _=>rfl)) ar))) ar)))))
  (aV (bH (pv 5)))))),(aw (cT af (bD (aD (az rfl) (aD (az rfl) (aD (az rfl) bj (λ_ _ _=>aY)) (λ_ _ _=>aY)) (λ_ _ _=>aY))))
  (aw (bb (be tR (aa af aq)) rfl)
  (aw (cS (pin:=(λj=>j==3)) (cY af) (bD (aD (az rfl) (aD (az rfl) bj (λ_ _ _=>aY)) (λ_ _ _=>aY)))
  (c_ (dY af (aa (aK (aa (aG bg af af) (aa (aG bg af af) aq))) aq))))
  (br af))))⟩) ?_
 rintro ss q ⟨N,ws,rfl,hix,hz,hq⟩;refine⟨rfl,rfl,?_⟩;refine fU aN (λk ρ=>∃s6 s7,ρ=[.vl (netD N),.vl (.lst (natsD ws)),nv N.m,.vl (.tup (N.js.map aN)),.vl (.tup (natsD N.os)),.ow (natsD ((N.js.take k).foldl aF ws)),s6,s7]) (λ_ _ _=>trivial) ?_ ?_ ⟨_,_,rfl⟩
 ·rintro k p _ M hk ⟨s6,s7,rfl⟩ hM;obtain⟨q1,q2⟩:=cq hix hk;have hlen:((N.js.take k).foldl aF ws).length=ws.length+k:=by
   have:=(kt.mp hk).1;rw[cP,Az];omega
  have hi:k<N.js.length:=(kt.mp hk).1;refine bq rfl (by omega) (bq rfl (by omega) ⟨rfl,_,_,rfl,?_,hM _ ⟨nv p.1,nv p.2,?_⟩⟩)
  ·rw[im,hlen];omega
  ·rw[tG hk,kx];rfl
 ·rintro ρ ⟨s6,s7,rfl⟩;rw[AW];exact hq
theorem n5 (dn:DefN K mg "words_of" fN ["net", "words"])(B:BI mg)(gB5:OkN P w K mg base 2 "all_words" ["net", "words"] (spA K SAll)):OkN P w K mg base 3 "words_of" ["net", "words"] (spA K t4):=by
 refine dn.aok2 (k:=2) dC (λj=>j==0||j==1) [.un,.un,.un,.un] t4 rfl (λf cdv A outer s H E hr=>have hu:=cM hr;⟨_,(aA (eA (pv 0) (bO K (n:=3) rfl (aM (aL (i:=2) dC.nd rfl (by first | exact Or.inl rfl | exact Or.inr rfl)) (aM (aL (i:=3) dC.nd rfl (by first | exact Or.inl rfl | exact Or.inr rfl)) (aM (aL (i:=4) dC.nd rfl (by first | exact Or.inl rfl | exact Or.inr rfl)) bN)))))
  (aA (bo (i:=5) dC.nd rfl (by first | exact Or.inl rfl | exact Or.inr rfl) (bC gB5 (hr.mono (by decide)) (aj (pv 0) (aj (pv 1) ar))))
  (aV (bH (fA ["out"] [5] rfl (Blk.of (aI fN) ju) (d_ K (pv 4)) (λ_ _ _ _ nd=>(aL (i:=0) nd rfl (by first | exact Or.inl rfl | exact Or.inr rfl))) (λ_ _ _ _=>dZ) (λ_ _ _ _=>(bE (aT K) (pv 1) (pv 0) (λ_ _=>rfl)))))))),(aw (cT af (bD (aD (az rfl) (aD (az rfl) (aD (az rfl) bj (λ_ _ _=>aY)) (λ_ _ _=>aY)) (λ_ _ _=>aY))))
  (aw (bb (aK (aa af (aa af aq))) rfl)
  (br (cA (cY af) (az rfl) dv (aG bg af af)))))⟩) ?_
 rintro ss q ⟨N,ws,rfl,hix,hz,ho,hos,hq⟩;refine⟨rfl,rfl,rfl,N,ws,rfl,hix,hz,?_⟩;refine⟨by rw[im];omega,?_⟩;refine mV nD (λo=>nD ((N.js.foldl aF ws).getD o 0)) trivial (λo acc M ho' hM=>?_) ?_
 ·have:=hos o ho';exact bq rfl (by rw[cP];exact this) hM
 ·have e:(N.os.map λo=>nD ((N.js.foldl aF ws).getD o 0))=natsD (N.os.map λo=>(N.js.foldl aF ws).getD o 0):=by unfold natsD;rw[AL];rfl
  rw[e];exact hq
theorem qA (dn:DefN K mg "rows_of" i9 ["net"])(B:BI mg)(gB5:OkN P w K mg base 2 "all_words" ["net", "words"] (spA K SAll))(gA3:OkN P w K mg base 1 "own_rows" ["many"] (spA K SOwn)):OkN P w K mg base 3 "rows_of" ["net"] (spA K o7):=by
 refine dn.aok2 (k:=2) qu (λj=>j==0) [] o7 rfl (λf cdv A outer s H E hr=>have hu:=cM hr;⟨_,(aV (bH (bC gB5 (hr.mono (by decide)) (aj (pv 0) (aj (bC gA3 (hr.mono (by decide)) (aj (bE (aT K) (pv 0) aX (λ_ _=>rfl)) ar)) ar))))),(br (aK (aa af (aa (aK (aa (aG bg af aO) aq)) aq))))⟩) ?_;rintro ss q ⟨N,rfl,hix,hz,hq⟩;refine⟨rfl,rfl,?_⟩;refine iM rfl rfl ⟨rfl,N.m,rfl,by omega,rfl,N,aJ N.m,rfl,?_,?_,hq⟩
 ·rw[bu];exact hix
 ·rw[bu];exact hz
theorem qB (dn:DefN K mg "made_by" i_ ["net"])(B:BI mg)(gC6:OkN P w K mg base 3 "words_of" ["net", "words"] (spA K t4))(gA3:OkN P w K mg base 1 "own_rows" ["many"] (spA K SOwn)):OkN P w K mg base 4 "made_by" ["net"] (spA K o8):=by
 refine dn.aok2 (k:=3) qv (λj=>j==0) [] o8 rfl (λf cdv A outer s H E hr=>have hu:=cM hr;⟨_,(aV (bH (bC gC6 (hr.mono (by decide)) (aj (pv 0) (aj (bC gA3 (hr.mono (by decide)) (aj (bE (aT K) (pv 0) aX (λ_ _=>rfl)) ar)) ar))))),(br (aK (aa af (aa (aK (aa (aG bg af aO) aq)) aq))))⟩) ?_;rintro ss q ⟨N,rfl,hix,hz,ho,hos,hq⟩;refine⟨rfl,rfl,?_⟩;refine iM rfl rfl ⟨rfl,N.m,rfl,by omega,rfl,N,aJ N.m,rfl,?_,?_,ho,?_,hq⟩
 ·rw[bu];exact hix
 ·rw[bu];exact hz
 ·rw[bu];exact hos
theorem oh (dn:DefN K mg "is_whole" h_ ["thing", "least", "most"])(B:BI mg):OkN P w K mg base 1 "is_whole" ["thing", "least", "most"] (spA K hX):=by
 refine dn.aok2 (k:=0) nM (λj=>j==0||j==1||j==2) [] hX rfl (λf cdv A outer s H E hr=>have hu:=cM hr;⟨_,(aV (bH (gY (aS (jN K) rfl B.isinstance_ eX (aj (pv 0) (aj (wB rfl B.int_ yV) ar))) (gY (yf (aS (jN K) rfl B.isinstance_ eX (aj (pv 0) (aj (wB rfl B.bool_ xx) ar)))) (mo (pI uG uG (pv 1) (pv 0) (pv 2))))))),(br (dw (be lS (aa af (aa rE aq))) (dw (ur (be lS (aa af (aa rE aq)))) (l6 cK cK af af af))))⟩) ?_;rintro ss q ⟨d,lo,hi,rfl,hq⟩;refine⟨rfl,rfl,?_⟩;cases d with
 | non=>exact cN rfl mI hq
 | str _=>exact cN rfl mH hq
 | tup _=>exact cN rfl j0 hq
 | lst _=>exact cN rfl lB hq
 | bl b=>exact cN rfl lD (cN rfl j7 hq)
 | int i =>
  refine cN rfl mJ (cN rfl lC ?_);refine iteT (ite2 (λh=>?_) λh=>?_)
  ·rw[show cR lo hi (.int i)=decide (i<=hi)by simp[cR,of_decide_eq_true h]]at hq;exact hq
  ·rw[show cR lo hi (.int i)=false by simp[cR];intro h';exact absurd (decide_eq_true h') h]at hq;exact hq
theorem oj (dn:DefN K mg "is_tuple" ia ["thing", "least", "most"])(B:BI mg):OkN P w K mg base 1 "is_tuple" ["thing", "least", "most"] (spA K fY):=by
 refine dn.aok2 (k:=0) nN (λj=>j==0||j==1||j==2) [] fY rfl (λf cdv A outer s H E hr=>have hu:=cM hr;⟨_,(aV (bH (gY (aS (jN K) rfl B.isinstance_ eX (aj (pv 0) (aj (wB rfl B.tuple_ dW) ar))) (mo (pI uG uG (pv 1) (aS (aU K) rfl B.len_ bF (aj (pv 0) ar)) (pv 2)))))),(br (dw (be lS (aa af (aa rE aq))) (l6 cK cK af (be aZ (aa af aq)) af)))⟩) ?_;rintro ss q ⟨d,lo,hi,rfl,hq⟩;refine⟨rfl,rfl,?_⟩;cases d with
 | non=>exact cN rfl j5 hq
 | str _=>exact cN rfl j4 hq
 | int _=>exact cN rfl j6 hq
 | lst _=>exact cN rfl jA hq
 | bl b=>exact cN rfl jB hq
 | tup ds =>
  refine cN rfl iL ?_;refine iteT (ite2 (λh=>?_) λh=>?_)
  ·rw[show tupB lo hi (.tup ds)=decide ((ds.length:Int)<=hi)by simp[tupB,of_decide_eq_true h]]at hq;exact hq
  ·rw[show tupB lo hi (.tup ds)=false by simp[tupB];intro h';exact absurd (decide_eq_true h') h]at hq;exact hq
theorem qD (dn:DefN K mg "is_join" jb ["rows", "join"])(B:BI mg)(gA7:OkN P w K mg base 1 "is_tuple" ["thing", "least", "most"] (spA K fY))(gA9:OkN P w K mg base 1 "is_whole" ["thing", "least", "most"] (spA K hX)):OkN P w K mg base 2 "is_join" ["rows", "join"] (spA K o9):=by
 refine dn.aok2 (k:=1) fM (λj=>j==0||j==1) [.un,.un,.un] o9 rfl (λf cdv A outer s H E hr=>have hu:=cM hr;⟨_,(aA (eh (iC (je (bC gA7 (hr.mono (by decide)) (aj (pv 1) (aj aX (aj aX ar))))))
  (aV (bH gX))
  bU)
  (aA (eA (pv 1) (bO K (n:=2) rfl (aM (aL (i:=2) fM.nd rfl (by first | exact Or.inl rfl | exact Or.inr rfl)) (aM (aL (i:=3) fM.nd rfl (by first | exact Or.inl rfl | exact Or.inr rfl)) bN))))
  (aA (bo (i:=4) fM.nd rfl (by first | exact Or.inl rfl | exact Or.inr rfl) (bA e_ (aS (aU K) rfl B.len_ bF (aj (pv 0) ar)) aX))
  (aV (bH (gY (bC gA9 (hr.mono (by decide)) (aj (pv 2) (aj aX (aj (pv 4) ar)))) (gY (bC gA9 (hr.mono (by decide)) (aj (pv 3) (aj aX (aj (pv 4) ar)))) (gY (nY yk (pv 2) (pv 3) (bJ _)) (mo (nY (fC K hr.units) (bE (aT K) (pv 0) (pv 2) (λ_ _=>rfl)) (bE (aT K) (pv 0) (pv 3) (λ_ _=>rfl)) (bJ _))))))))))),(aw (cg (dO (iz (aK (aa af (aa aO (aa aO aq))))))
  (br dP)
  ba)
  (aw (cT af (bD (aD (az rfl) (aD (az rfl) bj (λ_ _ _=>aY)) (λ_ _ _=>aY))))
  (aw (bb (aG bc (be aZ (aa af aq)) aO) rfl)
  (br (dw (aK (aa af (aa aO (aa af aq)))) (dw (aK (aa af (aa aO (aa af aq)))) (dw (aG cK af af) (aG fD (aG bg af af) (aG bg af af)))))))))⟩) ?_
 rintro ss q ⟨s0,rows,d,rfl,hs,hq⟩;cases ht:tupB 2 2 d with
 | false =>
  rw[sU ht]at hq;rcases hs with rfl | rfl <;>
  ·refine⟨rfl,rfl,rfl,d,2,2,rfl,?_⟩;rw[ht];exact hq
 | true =>
  obtain⟨x,y,rfl⟩:=uq ht;rcases hs with rfl | rfl <;>
  ·refine⟨rfl,rfl,rfl,_,2,2,rfl,iteF ?_⟩;refine⟨rfl,x,0,_,rfl,?_⟩;rw[lenD];refine ite2 (λh1=>?_) λh1=>?_
   ·refine⟨rfl,y,0,_,rfl,?_⟩;refine ite2 (λh2=>?_) λh2=>?_
    ·obtain⟨a,rfl,a1,a2⟩:=hZ h1;obtain⟨b,rfl,b1,b2⟩:=hZ h2;obtain⟨a,rfl⟩:=AH a1;obtain⟨b,rfl⟩:=AH b1;refine ite2 (λh3=>?_) λh3=>?_
     ·refine bq rfl (by omega) (bq rfl (by omega) (bX rfl rfl (by simp[D.depth]) rfl ?_));have e:gb rows (.tup [.int (a:Nat),.int (b:Nat)]) = !eqD (.int (rows.getD a 0:Nat)) (.int (rows.getD b 0:Nat)):=by
       have h3':=of_decide_eq_true h3;simp only[gb,eqD,Aq];rw[decide_eq_true a1,decide_eq_true a2,decide_eq_true b1,decide_eq_true b2,decide_eq_true h3'];simp only[BX,bne];congr 1;rw[Db];simp;exact Int.ofNat_inj.symm
      rw[e]at hq;exact hq
     ·have e:gb rows (.tup [.int (a:Nat),.int (b:Nat)])=false:=by
       simp only[gb];rw[show decide ((a:Int)<(b:Int))=false by simpa using h3];simp
      rw[e]at hq;exact hq
    ·rw[wZ (by simpa using h2)]at hq;exact hq
   ·rw[w6 (by simpa using h1)]at hq;exact hq
theorem mw (dn:DefN K mg "are_joins" gw ["many", "joins"])(B:BI mg)(gA3:OkN P w K mg base 1 "own_rows" ["many"] (spA K SOwn))(gA7:OkN P w K mg base 1 "is_tuple" ["thing", "least", "most"] (spA K fY))(gC9:OkN P w K mg base 2 "is_join" ["rows", "join"] (spA K o9))(gA6:OkN P w K mg base 1 "joined" ["one", "other"] (spA K fL))(gA4:∃u,mg "MOST_JOINS" = some u/\RelV (.int 132) u):OkN P w K mg base 3 "are_joins" ["many", "joins"] (spA K jQ):=by
 refine dn.aok2 (k:=2) ft (λj=>j==0||j==1) [.un,.un] jQ rfl (λf cdv A outer s H E hr=>have hu:=cM hr;⟨_,(aA (eh (iC (je (bC gA7 (hr.mono (by decide)) (aj (pv 1) (aj aX (aj (iK gA4 rfl) ar))))))
  (aV (bH gX))
  bU)
  (aA (bo (i:=2) ft.nd rfl (by first | exact Or.inl rfl | exact Or.inr rfl) (bC gA3 (hr.mono (by decide)) (aj (pv 0) ar)))
  (aA (gV A_ rfl (d_ K (pv 1)) (aL (i:=3) ft.nd rfl (by first | exact Or.inl rfl | exact Or.inr rfl))
  (aA (eh (iC (je (bC gC9 (hr.mono (by decide)) (aj (pv 2) (aj (pv 3) ar)))))
  (aV (bH gX))
  bU)
  (aV (bZ (dj K zL zJ zI bK (pv 2) (aj (bC gA6 (hr.mono (by decide)) (aj (bE (aT K) (pv 2) (bE (aT K) (pv 3) aX (λ_ _=>rfl)) (λ_ _=>rfl)) (aj (bE (aT K) (pv 2) (bE (aT K) (pv 3) aX (λ_ _=>rfl)) (λ_ _=>rfl)) ar))) ar))))))
  (aV (bH gX))))),(aw (cg (dO (iz (aK (aa af (aa aO (aa aO aq))))))
  (br dP)
  ba)
  (aw (bb (aK (aa af aq)) rfl)
  (aw (cS (pin:=(λj=>j==1)) (cY af) (az rfl)
  (aw (cg (dO (iz (aK (aa af (aa af aq)))))
  (br dP)
  ba)
  (c_ (dY af (aa (aK (aa (aG bg af (aG bg af aO)) (aa (aG bg af (aG bg af aO)) aq))) aq)))))
  (br dP))))⟩) ?_
 rintro ss q ⟨m,d,rfl,hm,hq⟩;refine⟨rfl,rfl,rfl,d,0,132,rfl,?_⟩;cases ht:tupB 0 132 d with
 | false=>rw[nu ht]at hq;exact hq
 | true =>
  obtain⟨ds,rfl,_,hl⟩:=iQ ht;have hl':ds.length<=132:=by omega
  rw[show de m (.tup ds)=g5 (aJ m) ds by simp[de,hl']]at hq;refine iteF ⟨rfl,m,rfl,by omega,?_⟩;refine eK (λk ρ=>∃rows s3,ρ=[nv m,.vl (.tup ds),.ow (natsD rows),s3]/\rows.length=m+k/\g5 rows (ds.drop k)=g5 (aJ m) ds) (λ_ _ _ _=>trivial) ?_ ?_ _ ⟨_,_,rfl,bu m,rfl⟩
  ·rintro k d ρ M hk ⟨rows,s3,rfl,hlen,hj⟩ hM;have lt:=(kt.mp hk).1;have ed:ds[k]=d:=(kt.mp hk).2;rw[Av lt,ed]at hj;rw[show g5 rows (d::List.drop (k+1) ds)=(gb rows d&&g5 (uw rows d) (List.drop (k+1) ds))from rfl]at hj;refine⟨rfl,_,rows,d,rfl,.inl rfl,?_⟩;cases hb:gb rows d with
   | false =>
    rw[hb,CL]at hj;rw[<- hj]at hq;exact hq
   | true =>
    rw[hb,BX]at hj;refine iteF ?_;have hb':=hb;unfold gb at hb';split at hb'
    ·rename_i a b;simp only[zY,decide_eq_true_eq]at hb';obtain⟨⟨⟨⟨a1,a2⟩,b1,b2⟩,ab⟩,_⟩:=hb';obtain⟨a,rfl⟩:=AH a1;obtain⟨b,rfl⟩:=AH b1;refine iM rfl rfl (bq rfl (by omega) (iM rfl rfl (bq rfl (by omega) ⟨rfl,_,_,rfl,?_,hM _ ⟨aF rows (a,b),.vl (.tup [.int (a:Nat),.int (b:Nat)]),?_,?_,hj⟩⟩)))
     ·rw[im,hlen];omega
     ·rw[kx];rfl
     ·rw[cZ,hlen];omega
    ·cases hb'
  ·rintro ρ ⟨rows,s3,rfl,hlen,hj⟩;rw[List.drop_length]at hj;rw[<- hj]at hq;exact hq
theorem oo (dn:DefN K mg "are_outs" fR ["things", "outs"])(B:BI mg)(gA7:OkN P w K mg base 1 "is_tuple" ["thing", "least", "most"] (spA K fY))(gA9:OkN P w K mg base 1 "is_whole" ["thing", "least", "most"] (spA K hX))(gC4:∃u,mg "MOST_OUTS" = some u/\RelV (.int 24) u):OkN P w K mg base 2 "are_outs" ["things", "outs"] (spA K lZ):=by
 refine dn.aok2 (k:=1) nO (λj=>j==0||j==1) [] lZ rfl (λf cdv A outer s H E hr=>have hu:=cM hr;⟨_,(aV (bH (gY (bC gA7 (hr.mono (by decide)) (aj (pv 1) (aj aX (aj (iK gC4 rfl) ar)))) (mo (aS (m7 K rfl) rfl B.all_ vN (aj (fA ["out"] [0] rfl (Blk.of (aI fR) jy) (d_ K (pv 1)) (λ_ _ _ _ nd=>(aL (i:=0) nd rfl (by first | exact Or.inl rfl | exact Or.inr rfl))) (λ_ _ _ _=>dZ) (λ_ _ _ _=>(bC gA9 (hr.mono (by decide)) (aj (pv 0) (aj aX (aj (bA e_ (pv 1) aX) ar)))))) ar)))))),(br (dw (aK (aa af (aa aO (aa aO aq)))) (be qe (aa (cA (cY af) (az rfl) dv (aK (aa af (aa aO (aa (aG bc af aO) aq))))) aq))))⟩) ?_;rintro ss q ⟨n,d,rfl,hq⟩;refine⟨rfl,rfl,rfl,d,1,24,rfl,?_⟩;cases ht:tupB 1 24 d with
 | false=>rw[oY ht]at hq;exact hq
 | true =>
  obtain⟨ds,rfl,h1,hl⟩:=iQ ht;have hl':ds.length<=24:=by omega
  have h1':1<=ds.length:=by omega
  refine iteT ⟨by omega,?_⟩;refine tN (λd=>.bl (cR 0 ((n:Int) - 1) d)) _ trivial (λd acc M _ hM=>?_) ?_
  ·exact⟨rfl,d,0,_,rfl,hM⟩
  ·refine tF (bs:=ds.map (cR 0 ((n:Int) - 1))) ?_ ?_
   ·show some (D.lst (ds.map _))=_;rw[AL];rfl
   ·rw[show eZ n (.tup ds)=(ds.map (cR 0 ((n:Int) - 1))).all id by simp[eZ,hl',h1']]at hq;exact hq
theorem sI (dn:DefN K mg "is_net" k8 ["thing"])(B:BI mg)(gA7:OkN P w K mg base 1 "is_tuple" ["thing", "least", "most"] (spA K fY))(gA9:OkN P w K mg base 1 "is_whole" ["thing", "least", "most"] (spA K hX))(gC5:OkN P w K mg base 3 "are_joins" ["many", "joins"] (spA K jQ))(gC7:OkN P w K mg base 2 "are_outs" ["things", "outs"] (spA K lZ))(gA2:∃u,mg "MOST_GIVENS" = some u/\RelV (.int 12) u):OkN P w K mg base 4 "is_net" ["thing"] (spA K uc):=by
 refine dn.aok2 (k:=3) gP (λj=>j==0) [.un,.un,.un] uc rfl (λf cdv A outer s H E hr=>have hu:=cM hr;⟨_,(aA (eh (iC (je (bC gA7 (hr.mono (by decide)) (aj (pv 0) (aj aX (aj aX ar))))))
  (aV (bH gX))
  bU)
  (aA (eA (pv 0) (bO K (n:=3) rfl (aM (aL (i:=1) gP.nd rfl (by first | exact Or.inl rfl | exact Or.inr rfl)) (aM (aL (i:=2) gP.nd rfl (by first | exact Or.inl rfl | exact Or.inr rfl)) (aM (aL (i:=3) gP.nd rfl (by first | exact Or.inl rfl | exact Or.inr rfl)) bN)))))
  (aV (bH (gY (bC gA9 (hr.mono (by decide)) (aj (pv 1) (aj aX (aj (iK gA2 rfl) ar)))) (gY (bC gC5 (hr.mono (by decide)) (aj (pv 1) (aj (pv 2) ar))) (mo (bC gC7 (hr.mono (by decide)) (aj (bA cn (pv 1) (aS (aU K) rfl B.len_ bF (aj (pv 2) ar))) (aj (pv 3) ar)))))))))),(aw (cg (dO (iz (aK (aa af (aa aO (aa aO aq))))))
  (br dP)
  ba)
  (aw (cT af (bD (aD (az rfl) (aD (az rfl) (aD (az rfl) bj (λ_ _ _=>aY)) (λ_ _ _=>aY)) (λ_ _ _=>aY))))
  (br (dw (aK (aa af (aa aO (aa aO aq)))) (dw (aK (aa af (aa af aq))) (aK (aa (aG bc af (be aZ (aa af aq))) (aa af aq))))))))⟩) ?_
 rintro ss q ⟨d,rfl,hq⟩;refine⟨rfl,rfl,rfl,d,3,3,rfl,?_⟩;cases ht:tupB 3 3 d with
 | false=>rw[uI ht]at hq;exact hq
 | true =>
  obtain⟨x,y,z,rfl⟩:=uo ht;refine iteF ⟨rfl,x,1,12,rfl,?_⟩;cases hw:cR 1 12 x with
  | false =>
   have e:netB (.tup [x,y,z])=false:=by
    cases x with
    | int i=>simp only[cR]at hw;simp only[netB,hw,CL]
    | _=>rfl
   rw[e]at hq;exact hq
  | true =>
   obtain⟨i,rfl,i1,i2⟩:=hZ hw;obtain⟨m,rfl⟩:=AH (show 0<=i by omega);have e:netB (.tup [.int (m:Nat),y,z])=(de m y&&eZ (m+lenT y) z):=by
    simp only[netB,cR]at hw ⊢;rw[hw,Aq,BX]
   rw[e]at hq;refine iteT ⟨rfl,m,y,rfl,by omega,?_⟩;cases hj:de m y with
   | false=>rw[hj]at hq;exact hq
   | true =>
    rw[hj,BX]at hq;refine iteT ?_;have:∃ds,y = .tup ds:=by
     cases y with
     | tup ds=>exact⟨ds,rfl⟩
     | _=>cases hj
    obtain⟨ds,rfl⟩:=this;exact⟨rfl,m+ds.length,z,rfl,hq⟩
theorem qC (dn:DefN K mg "joining" ja ["one", "other"])(B:BI mg):OkN P w K mg base 1 "joining" ["one", "other"] (spA K hV):=by
 refine dn.aok2 (k:=0) qw (λj=>j==0||j==1) [] hV rfl (λf cdv A outer s H E hr=>have hu:=cM hr;⟨_,(aV (bH (iD (aj (aS (m3 rfl) rfl B.min_ vL (aj (pv 0) (aj (pv 1) ar))) (aj (aS (m4 rfl) rfl B.max_ vM (aj (pv 0) (aj (pv 1) ar))) ar))))),(br (fo (aa (be qc (aa af (aa af aq))) (aa (be qd (aa af (aa af aq))) aq))))⟩) ?_;rintro ss q ⟨a,b,rfl,hq⟩;refine⟨rfl,rfl,by simp,?_⟩;show q (.d (.tup [.int (if(b:Int)<(a:Int)then(b:Int)else(a:Int)),.int (if(b:Int) > (a:Int)then(b:Int)else(a:Int))])) [nv a,nv b];rw[minI,maxI];exact hq
theorem om (dn:DefN K mg "is_clean" fQ ["net"])(B:BI mg)(gD0:OkN P w K mg base 3 "rows_of" ["net"] (spA K o7)):OkN P w K mg base 4 "is_clean" ["net"] (spA K lY):=by
 refine dn.aok2 (k:=3) dD (λj=>j==0) [.un,.un,.un,.un] lY rfl (λf cdv A outer s H E hr=>have hu:=cM hr;⟨_,(aA (eA (pv 0) (bO K (n:=3) rfl (aM (aL (i:=1) dD.nd rfl (by first | exact Or.inl rfl | exact Or.inr rfl)) (aM (aL (i:=2) dD.nd rfl (by first | exact Or.inl rfl | exact Or.inr rfl)) (aM (aL (i:=3) dD.nd rfl (by first | exact Or.inl rfl | exact Or.inr rfl)) bN)))))
  (aA (bo (i:=4) dD.nd rfl (by first | exact Or.inl rfl | exact Or.inr rfl) (bC gD0 (hr.mono (by decide)) (aj (pv 0) ar)))
  (aV (bH (aS (m7 K rfl) rfl B.all_ vN (aj (fA ["a", "b"] [4] rfl (Blk.of (aI fQ) jx) (d_ K (pv 2)) (λ_ _ _ _ nd=>(bO K (n:=2) rfl (aM (aL (i:=0) nd rfl (by first | exact Or.inl rfl | exact Or.inr rfl)) (aM (aL (i:=1) nd rfl (by first | exact Or.inl rfl | exact Or.inr rfl)) bN)))) (λ_ _ _ _=>dZ) (λ_ _ _ _=>(nY (gk K hr.units) (bA pN (bE (aT K) (pv 2) (pv 0) (λ_ _=>rfl)) (bE (aT K) (pv 2) (pv 1) (λ_ _=>rfl))) aX (bJ _)))) ar)))))),(aw (cT af (bD (aD (az rfl) (aD (az rfl) (aD (az rfl) bj (λ_ _ _=>aY)) (λ_ _ _=>aY)) (λ_ _ _=>aY))))
  (aw (bb (aK (aa af aq)) rfl)
  (br (be qe (aa (cA (cY af) (bD (aD (az rfl) (aD (az rfl) bj (λ_ _ _=>aY)) (λ_ _ _=>aY))) dv (aG gm (aG bc (aG bg af af) (aG bg af af)) aO)) aq)))))⟩) ?_
 rintro ss q ⟨N,rfl,hix,hz,hq⟩;refine⟨rfl,rfl,rfl,N,rfl,hix,hz,?_⟩;refine⟨by rw[im];omega,?_⟩;refine mV L2.aN (λp=>.bl ((cU N).getD p.1 0 &&& (cU N).getD p.2 0==0)) trivial (λp acc M hp hM=>?_) ?_
 ·obtain⟨i,hi⟩:=Cm hp;obtain⟨q1,q2⟩:=cq hix hi;have lt:=(kt.mp hi).1;have rl:=uz N;refine bq rfl (by omega) (bq rfl (by omega) (bX (b:=((cU N).getD p.1 0 &&& (cU N).getD p.2 0==0)) rfl rfl (by simp[D.depth]) ?_ hM));simp only[eqD];rw[o5,Db];simp
 ·refine tF (bs:=N.js.map λp=>((cU N).getD p.1 0 &&& (cU N).getD p.2 0==0)) ?_ ?_
  ·show some (D.lst (N.js.map _))=_;rw[AL];rfl
  ·rw[EK];exact hq
theorem oG {v4 v6 f_Nought:Addr}(i_n:l3 K v4 f_Nought "at" "Nought.__init__" dh ["self", "at"])(b:nz K v6)(B:BI mg)(m:mg "JoinError" = some (.ref v6)) :
  ∃fd,l4 K fd ["self", "at"] []/\FnOk P w K mg base CX0 1 f_Nought fd ["self", "at"] (spIP v4 "at"):=by
 obtain⟨fd,F,hb⟩:=i_n.fn;refine⟨fd,.all hb,F.ok (k:=0) qt (λvs H Q E h=>by obtain⟨e,n,rfl,_⟩:=h;rfl) (λcdv A outer s H vs Q E hr h=>?_)⟩;obtain⟨e,n,rfl,hn,he,hq⟩:=h;refine⟨_,aA (bZ (pJ (C:=v4) b (fW i_n.xi.cl) m (aj (pv 0) (aj (mr (jj cj (jj (vq (pv 1)) vp))) ar)))) (aV (su i_n.xi (pv 1) (pv 0))),?_⟩;refine⟨.ref e,rfl,j2 (by decide +kernel) hn rfl λt=>⟨e,none,_,rfl,he,.int n,rfl,e,rfl,he,hq⟩⟩
theorem qT {gA0 v6 f_Loose:Addr}(i_n:l3 K gA0 f_Loose "thing" "Loose.__init__" dQ ["self", "thing"])(b:nz K v6)(B:BI mg)(m:mg "JoinError" = some (.ref v6)) :
  ∃fd,l4 K fd ["self", "thing"] []/\FnOk P w K mg base CX0 1 f_Loose fd ["self", "thing"] (spIP gA0 "thing"):=by
 obtain⟨fd,F,hb⟩:=i_n.fn;refine⟨fd,.all hb,F.ok (k:=0) rY (λvs H Q E h=>by obtain⟨e,n,rfl,_⟩:=h;rfl) (λcdv A outer s H vs Q E hr h=>?_)⟩;obtain⟨e,n,rfl,hn,he,hq⟩:=h;refine⟨_,aA (bZ (pJ (C:=gA0) b (fW i_n.xi.cl) m (aj (pv 0) (aj (mr (jj cj (jj (vq (pv 1)) (jj cj vp)))) ar)))) (aV (su i_n.xi (pv 1) (pv 0))),?_⟩;refine⟨.ref e,rfl,j3 (by decide +kernel) (by decide +kernel) hn rfl λt=>⟨e,none,_,rfl,he,.int n,rfl,e,rfl,he,hq⟩⟩
theorem n9 (dn:DefN K mg "out_uses" fP ["net"])(B:BI mg):OkN P w K mg base 1 "out_uses" ["net"] (spA K hI):=by
 refine dn.aok2 (k:=0) cB (λj=>j==0) [.un,.un,.un,.un,.un,.un] hI rfl (λf cdv A outer s H E hr=>have hu:=cM hr;⟨_,(aA (eA (pv 0) (bO K (n:=3) rfl (aM (aL (i:=1) cB.nd rfl (by first | exact Or.inl rfl | exact Or.inr rfl)) (aM (aL (i:=2) cB.nd rfl (by first | exact Or.inl rfl | exact Or.inr rfl)) (aM (aL (i:=3) cB.nd rfl (by first | exact Or.inl rfl | exact Or.inr rfl)) bN)))))
  (aA (iJ (nW (i:=4) ["thing"] [] cB.nd rfl (by first | exact Or.inl rfl | exact Or.inr rfl) rfl (Blk.of (aI fP) jw) (cz rfl B.range_ (aj (bA cn (pv 1) (aS (aU K) rfl B.len_ bF (aj (pv 2) ar))) ar)) (λ_ _ _ _ nd=>(aL (i:=0) nd rfl (by first | exact Or.inl rfl | exact Or.inr rfl))) (λ_ _ _ _=>dZ) (λ_ _ _ _=>(mq ar))))
  (aA (gV A_ rfl (pG K rfl B.enumerate_ (aj (pv 3) ar)) (bO K (n:=2) rfl (aM (aL (i:=5) cB.nd rfl (by first | exact Or.inl rfl | exact Or.inr rfl)) (aM (aL (i:=6) cB.nd rfl (by first | exact Or.inl rfl | exact Or.inr rfl)) bN)))
  (aV (iJ (bZ (dj K zL zJ zI bK (bE (aT K) (pv 4) (pv 6) (λ_ _=>rfl)) (aj (pv 5) ar))))))
  (aV (bH (pv 4)))))),(aw (cT af (bD (aD (az rfl) (aD (az rfl) (aD (az rfl) bj (λ_ _ _=>aY)) (λ_ _ _=>aY)) (λ_ _ _=>aY))))
  (aw (rV (i:=4) (cx (aa (aG bc af (be aZ (aa af aq))) aq)) rfl)
  (aw (cS (pin:=(λj=>j==3)) (kg (aa af aq)) (bD (aD (az rfl) (aD (az rfl) bj (λ_ _ _=>aY)) (λ_ _ _=>aY)))
  (dB (i:=4) (j:=6) (k:=5)))
  (rW (i:=4) rfl))))⟩) ?_
 rintro ss q ⟨N,rfl,hN,hq⟩;have jl:=hN.jl;have m12:=hN.m12;have o24:=hN.o24;refine⟨rfl,rfl,?_⟩;refine cutS (λρ=>ρ=[.vl (netD N),nv N.m,.vl (.tup (N.js.map L2.aN)),.vl (.tup (natsD N.os)),.un,.un,.un]) (λM hM=>hM _ rfl) ?_;rintro _ rfl;have ell:∀k,(wr (N.m+N.js.length)).map (λt=>natsD (usP N.os k t))=(usA N.os (N.m+N.js.length) k).map natsD:=λk=>by unfold usA;rw[AL];rfl
 refine cutS (λρ=>ρ=[.vl (netD N),nv N.m,.vl (.tup (N.js.map L2.aN)),.vl (.tup (natsD N.os)),.ll ((usA N.os (N.m+N.js.length) 0).map natsD),.un,.un]) (λM hM=>?_) ?_
 ·refine⟨⟨by omega,by rw[im];omega⟩,by rw[cp,im];omega,λ_=>trivial,?_⟩;have e0:(rngD 0 ((N.m:Int)+(((N.js.map L2.aN).length:Nat):Int)).toNat).map (λ_=>([]:List D))=(usA N.os (N.m+N.js.length) 0).map natsD:=by
   unfold rngD usA;rw[AL,AL,im,show((N.m:Int)+((N.js.length:Nat):Int)).toNat=N.m+N.js.length by omega];rfl
  rw[e0];exact hM _ rfl
 rintro _ rfl;refine cutS (λρ=>∃s5 s6,ρ=[.vl (netD N),nv N.m,.vl (.tup (N.js.map L2.aN)),.vl (.tup (natsD N.os)),.ll ((usA N.os (N.m+N.js.length) N.os.length).map natsD),s5,s6]) (λM hM=>?_) ?_
 ·refine eK (λk ρ=>k<=N.os.length/\∃s5 s6,ρ=[.vl (netD N),nv N.m,.vl (.tup (N.js.map L2.aN)),.vl (.tup (natsD N.os)),.ll ((usA N.os (N.m+N.js.length) k).map natsD),s5,s6]) (λ_ _ _ _=>trivial) ?_ (λρ ⟨_,s5,s6,e⟩=>?_) _ ⟨zS _,.un,.un,rfl⟩
  ·rintro k d _ M2 hk ⟨_,s5,s6,rfl⟩ hM2;obtain⟨x,ex,rfl⟩:=dH hk;unfold natsD at ex;rw[lw]at ex;obtain⟨o,eo,rfl⟩:=wT.mp ex;have hko:=(kt.mp eo).1;have ho:=hN.os o (wp eo);have eg:N.os.getD k 0=o:=by rw[bi,eo];rfl
   refine rz ?_;rw[Ba];have key:=vT (os:=N.os) (n:=N.m+N.js.length) (k:=k) (by rw[eg];exact ho);rw[eg]at key;have gd:((usA N.os (N.m+N.js.length) k).map natsD).getD o []=natsD ((usA N.os (N.m+N.js.length) k).getD o []):=by
    rw[bi,bi,lw];cases (usA N.os (N.m+N.js.length) k)[o]? <;> rfl
   refine⟨(usA N.os (N.m+N.js.length) k).map natsD,o,nD k,rfl,rfl,rfl,by rw[im,kP];exact ho,?_,hM2 _ ⟨hko,nv k,nv o,?_⟩⟩
   ·rw[gd,aQ,vd ho];have:=nE N.os k o;omega
   ·rw[gd,<- bV,<- GI,key];rfl
  ·rw[bL,aQ]at e;exact hM ρ ⟨s5,s6,e⟩
 rintro _ ⟨s5,s6,rfl⟩;exact⟨_,rfl,hq⟩
theorem jX (dn:DefN K mg "joined_uses" cI ["thing", "uses", "rows", "made"])(B:BI mg)(gB3:OkN P w K mg base 1 "joining" ["one", "other"] (spA K hV))(gA6:OkN P w K mg base 1 "joined" ["one", "other"] (spA K fL)):OkN P w K mg base 2 "joined_uses" ["thing", "uses", "rows", "made"] (spA K ny):=by
 refine dn.aok2 (k:=1) bt (λj=>j==0||j==1||j==2||j==3) [.un,.un] ny rfl (λf cdv A outer s H E hr=>have hu:=cM hr;⟨_,(aA (eh (iC (gR K (pv 1) (λ_=>rfl)))
  (aV gU)
  bU)
  (aA (bo (i:=4) bt.nd rfl (by first | exact Or.inl rfl | exact Or.inr rfl) (bE (aT K) (pv 1) aX (λ_ _=>rfl)))
  (aA (gV A_ rfl (d_ K (gW (gN K) (pv 1) (ie aX) jh)) (aL (i:=5) bt.nd rfl (by first | exact Or.inl rfl | exact Or.inr rfl))
  (aA (eh (bz (gk K hr.units) (bE (aT K) (pv 2) (pv 4) (λ_ _=>rfl)) (bE (aT K) (pv 2) (pv 5) (λ_ _=>rfl)) (bJ _))
  (aV gU)
  bU)
  (aA (bZ (dj K zL zJ zI bK (pv 3) (aj (bC gB3 (hr.mono (by decide)) (aj (pv 4) (aj (pv 5) ar))) ar)))
  (aA (bZ (dj K zL zJ zI bK (pv 2) (aj (bC gA6 (hr.mono (by decide)) (aj (bE (aT K) (pv 2) (pv 4) (λ_ _=>rfl)) (aj (bE (aT K) (pv 2) (pv 5) (λ_ _=>rfl)) ar))) ar)))
  (aV (bo (i:=4) bt.nd rfl (by first | exact Or.inl rfl | exact Or.inr rfl) (bA e_ (aS (aU K) rfl B.len_ bF (aj (pv 2) ar)) aX)))))))
  (aV (bH (pv 4)))))),(aw (cg (dO (iR af))
  bS
  ba)
  (aw (bb (aG bg af aO) rfl)
  (aw (cS (pin:=(λ_=>false)) (cY (kS af (fm aO) kR)) (az rfl)
  (aw (cg (a_ (aG gm (aG bg af af) (aG bg af af)))
  bS
  ba)
  (aw (c_ (dY af (aa (aK (aa af (aa af aq))) aq)))
  (aw (c_ (dY af (aa (aK (aa (aG bg af af) (aa (aG bg af af) aq))) aq)))
  (bb (aG bc (be aZ (aa af aq)) aO) rfl)))))
  (br af))))⟩) ?_
 rintro ss q ⟨t,u,us,R,M,rfl,hu,hok,l1,l2,hq⟩;have dI:∀ {i:Int},D.depth (.int i)<=60:=λ{i}=>by simp[D.depth]
 refine⟨rfl,rfl,?_⟩;refine cutS (λρ=>ρ=[nv t,.vl (.lst (natsD (u::us))),.ow (natsD R),.ow (M.map L2.aN),.un,.un]) (λM2 hM2=>hM2 _ rfl) ?_;rintro _ rfl;refine cutS (λρ=>ρ=[nv t,.vl (.lst (natsD (u::us))),.ow (natsD R),.ow (M.map L2.aN),nv u,.un]) (λM2 hM2=>bq rfl (F_ _) (hM2 _ rfl)) ?_;rintro _ rfl;refine cutS (λρ=>∃s5,ρ=[nv t,.vl (.lst (natsD (u::us))),.ow (natsD (juS us u R M).2.1),.ow ((juS us u R M).2.2.map L2.aN),nv (juS us u R M).1,s5]) (λM2 hM2=>?_) ?_
 ·have e1:L2.cutD (natsD (u::us)) (some 1) none=natsD us:=by
   show L2.cutD (natsD (u::us)) (some ((1:Nat):Int)) none=_;rw[mR];rfl
  show forA _ _ _ _ (L2.cutD (natsD (u::us)) (some 1) none) _;have us3:(juS us u R M).2.1.length=R.length+us.length:=(gE us u R M).1;rw[e1];refine fU nD (λk ρ=>∃s5,ρ=[nv t,.vl (.lst (natsD (u::us))),.ow (natsD (juS (us.take k) u R M).2.1),.ow ((juS (us.take k) u R M).2.2.map L2.aN),nv (juS (us.take k) u R M).1,s5]) (λ_ _ _=>trivial) ?_ (λρ ⟨s5,e⟩=>by rw[AW]at e;exact hM2 ρ ⟨s5,e⟩) ⟨.un,rfl⟩;rintro k x _ M3 hx ⟨s5,rfl⟩ hM3;have hk:=(kt.mp hx).1;have hxu:x<R.length:=hu x (zO _ (wp hx));have sp:us=us.take k++x::us.drop (k+1):=by
   conv=>lhs;rw[<- BG k us]
   rw[Av hk];rw[bv hk]at hx;injection hx with hx;rw[hx]
  have hne:=oF (us.take k) (y:=x) (ys:=us.drop (k+1)) M (by rw[<- sp];exact hok);have hsn:us.take (k+1)=us.take k++[x]:=by rw[Bb,hx];rfl
  have ln:=gE (us.take k) u R M;have lt:=pV (us.take k) (g:=u) (R:=R) (M:=M) (hu u (z7 ..));have tk:(us.take k).length<=us.length:=by rw[Az];omega
  have hnext:=lA (us.take k) x u R M;rw[<- hsn]at hnext;generalize juS (us.take k) u R M=J at *;obtain⟨g,R1,M1⟩:=J;dsimp only at ln lt hne hnext ⊢;refine gaN1 ?_;show aSeq _ _ _ [nv t,.vl (.lst (natsD (u::us))),.ow (natsD R1),.ow (M1.map L2.aN),nv g,nv x];refine cutS (λρ=>ρ=[nv t,.vl (.lst (natsD (u::us))),.ow (natsD R1),.ow (M1.map L2.aN),nv g,nv x]) (λM4 hM4=>bq rfl lt (bq rfl (by omega) (bX rfl rfl dI rfl (ite2 (λz=>?_) λ_=>hM4 _ rfl)))) ?_
  ·exfalso;apply hne;have:=of_decide_eq_true (p:=((R1.getD g 0:Nat):Int)=((R1.getD x 0:Nat):Int)) z;omega
  rintro _ rfl;refine cutS (λρ=>ρ=[nv t,.vl (.lst (natsD (u::us))),.ow (natsD R1),.ow ((M1++[(min g x,max g x)]).map L2.aN),nv g,nv x]) (λM4 hM4=>⟨rfl,g,x,rfl,by rw[im];omega,?_⟩) ?_
  ·have:=hM4 _ rfl;rw[zW]at this;exact this
  rintro _ rfl;refine cutS (λρ=>ρ=[nv t,.vl (.lst (natsD (u::us))),.ow (natsD (R1++[R1.getD g 0 ^^^ R1.getD x 0])),.ow ((M1++[(min g x,max g x)]).map L2.aN),nv g,nv x]) (λM4 hM4=>bq rfl lt (bq rfl (by omega) ⟨rfl,_,_,rfl,by rw[aQ];omega,?_⟩)) ?_
  ·have:=hM4 _ rfl;rw[bV]at this;exact this
  rintro _ rfl;refine hM3 _ ⟨nv x,?_⟩;rw[hnext];have eg:((((natsD (R1++[R1.getD g 0 ^^^ R1.getD x 0])).length:Nat):Int) - 1)=((R1.length:Nat):Int):=by rw[aQ,pc,xL];omega
  show[nv t,.vl (.lst (natsD (u::us))),.ow (natsD (R1++[R1.getD g 0 ^^^ R1.getD x 0])),.ow ((M1++[(min g x,max g x)]).map L2.aN),Sv.vl (D.int ((((natsD (R1++[R1.getD g 0 ^^^ R1.getD x 0])).length:Nat):Int) - 1)),nv x]=_;rw[eg]
 rintro _ ⟨s5,rfl⟩;exact hq
theorem lr (dn:DefN K mg "turned_net" bT ["net"])(B:BI mg)(gB0:OkN P w K mg base 1 "out_uses" ["net"] (spA K hI))(gA3:OkN P w K mg base 1 "own_rows" ["many"] (spA K SOwn))(gA5:OkN P w K mg base 2 "joined_uses" ["thing", "uses", "rows", "made"] (spA K ny))(gA2:∃u,mg "MOST_GIVENS" = some u/\RelV (.int 12) u)(gA4:∃u,mg "MOST_JOINS" = some u/\RelV (.int 132) u):OkN P w K mg base 3 "turned_net" ["net"] (spA K o6):=by
 refine dn.aok2 (k:=2) aE (λj=>j==0) [.un,.un,.un,.un,.un,.un,.un,.un,.un,.un,.un] o6 rfl (λf cdv A outer s H E hr=>have hu:=cM hr;⟨_,(aA (eA (pv 0) (bO K (n:=3) rfl (aM (aL (i:=1) aE.nd rfl (by first | exact Or.inl rfl | exact Or.inr rfl)) (aM (aL (i:=2) aE.nd rfl (by first | exact Or.inl rfl | exact Or.inr rfl)) (aM (aL (i:=3) aE.nd rfl (by first | exact Or.inl rfl | exact Or.inr rfl)) bN)))))
  (aA (eh (PW.pt (jV (bz jq (aS (aU K) rfl B.len_ bF (aj (pv 3) ar)) (iK gA2 rfl) (bJ _)) (gQ (bz jq (bA e_ (bA cn (aS (aU K) rfl B.len_ bF (aj (pv 2) ar)) (aS (aU K) rfl B.len_ bF (aj (pv 3) ar))) (pv 1)) (iK gA4 rfl) (bJ _)))))
  (aV gU)
  bU)
  (aA (bo (i:=4) aE.nd rfl (by first | exact Or.inl rfl | exact Or.inr rfl) (bC gB0 (hr.mono (by decide)) (aj (pv 0) ar)))
  (aA (bo (i:=5) aE.nd rfl (by first | exact Or.inl rfl | exact Or.inr rfl) (bC gA3 (hr.mono (by decide)) (aj (aS (aU K) rfl B.len_ bF (aj (pv 3) ar)) ar)))
  (aA (bo (i:=6) aE.nd rfl (by first | exact Or.inl rfl | exact Or.inr rfl) (mq ar))
  (aA (gV A_ rfl (sy K rfl B.reversed_ (aj (sA K rfl rfl B.list_ rfl B.enumerate_ (aj (pv 2) ar)) ar)) (bO K (n:=2) rfl (aM (aL (i:=7) aE.nd rfl (by first | exact Or.inl rfl | exact Or.inr rfl)) (aM (bO K (n:=2) rfl (aM (aL (i:=8) aE.nd rfl (by first | exact Or.inl rfl | exact Or.inr rfl)) (aM (aL (i:=9) aE.nd rfl (by first | exact Or.inl rfl | exact Or.inr rfl)) bN))) bN)))
  (aA (iJ (bo (i:=10) aE.nd rfl (by first | exact Or.inl rfl | exact Or.inr rfl) (bC gA5 (hr.mono (by decide)) (aj (bA cn (pv 1) (pv 7)) (aj (bE (aT K) (pv 4) (bA cn (pv 1) (pv 7)) (λ_ _=>rfl)) (aj (pv 5) (aj (pv 6) ar)))))))
  (aA (iJ (bZ (dj K zL zJ zI bK (bE (aT K) (pv 4) (pv 8) (λ_ _=>rfl)) (aj (pv 10) ar))))
  (aV (iJ (bZ (dj K zL zJ zI bK (bE (aT K) (pv 4) (pv 9) (λ_ _=>rfl)) (aj (pv 10) ar))))))))
  (aA (iJ (nW (i:=11) ["given"] [4,5,6] aE.nd rfl (by first | exact Or.inl rfl | exact Or.inr rfl) rfl (Blk.of (aI bT) dy) (nX rfl B.reversed_ rfl B.range_ (aj (pv 1) ar)) (λ_ _ _ _ nd=>(aL (i:=0) nd rfl (by first | exact Or.inl rfl | exact Or.inr rfl))) (λ_ _ _ _=>dZ) (λ_ _ _ _=>(bC gA5 (hr.mono (by decide)) (aj (pv 0) (aj (bE (aT K) (pv 1) (pv 0) (λ_ _=>rfl)) (aj (pv 2) (aj (pv 3) ar))))))))
  (aV (bH (iD (aj (aS (aU K) rfl B.len_ bF (aj (pv 3) ar)) (aj (di (cD K) rfl B.tuple_ dW (aj (pv 6) ar)) (aj (di (cD K) rfl B.tuple_ dW (aj (wC K (pv 11) (ie (zi xK aX)) (ops:=λv i=>[v,i]) (htl:=λ_ _=>rfl)) ar)) ar))))))))))))),(aw (cT af (bD (aD (az rfl) (aD (az rfl) (aD (az rfl) bj (λ_ _ _=>aY)) (λ_ _ _=>aY)) (λ_ _ _=>aY))))
  (aw (cg (dX (a_ (aG cK (be aZ (aa af aq)) aO)) (a_ (aG cK (aG bc (aG bc (be aZ (aa af aq)) (be aZ (aa af aq))) af) aO)))
  bS
  ba)
  (aw (bb (aK (aa af aq)) rfl)
  (aw (bb (aK (aa (be aZ (aa af aq)) aq)) rfl)
  (aw (bb (kT aq) rfl)
  (aw (cS (pin:=(λ_=>false)) (kU (aa (nF (aa af aq)) aq)) (bD (aD (az rfl) (aD (bD (aD (az rfl) (aD (az rfl) bj (λ_ _ _=>aY)) (λ_ _ _=>aY))) bj (λ_ _ _=>ti)) (λ_ _ _=>aY)))
  (aw (iT (i:=4) (bb (aK (aa (aG bc af af) (aa (aG bg af (aG bc af af)) (aa af (aa af aq))))) rfl))
  (aw (dB (i:=4) (j:=8) (k:=10))
  (dB (i:=4) (j:=9) (k:=10)))))
  (aw (iT (i:=4) (kY (cA (iX (aa af aq)) (az rfl) dv (aK (aa af (aa (aG bg af af) (aa af (aa af aq)))))) rfl))
  (br (fo (aa (be aZ (aa af aq)) (aa (be cW (aa af aq)) (aa (be cW (aa (v3 af (fm (v5 aO))) aq)) aq))))))))))))⟩) ?_
 rintro ss q ⟨N,rfl,hN,ho,hj,hok,hq⟩;have jl:=hN.jl;have m12:=hN.m12;have o1:=hN.o1;refine⟨rfl,rfl,?_⟩;refine cutS (λρ=>ρ=[.vl (netD N),nv N.m,.vl (.tup (N.js.map L2.aN)),.vl (.tup (natsD N.os)),.un,.un,.un,.un,.un,.un,.un,.un]) (λM hM=>hM _ rfl) ?_;rintro _ rfl;refine cutS (λρ=>ρ=[.vl (netD N),nv N.m,.vl (.tup (N.js.map L2.aN)),.vl (.tup (natsD N.os)),.un,.un,.un,.un,.un,.un,.un,.un]) (λM hM=>?_) ?_
 ·have g1:decide ((12:Int)<(((natsD N.os).length:Nat):Int))=false:=by rw[aQ,decide_eq_false_iff_not];omega
  have g2:decide ((132:Int)<(((N.js.map L2.aN).length:Nat):Int)+(((natsD N.os).length:Nat):Int) - (N.m:Int))=false:=by rw[aQ,im,decide_eq_false_iff_not];omega
  show if decide ((12:Int)<(((natsD N.os).length:Nat):Int))=true then _ else(if decide ((132:Int)<(((N.js.map L2.aN).length:Nat):Int)+(((natsD N.os).length:Nat):Int) - (N.m:Int))=true then _ else _)
  rw[g1,g2];exact hM _ rfl
 rintro _ rfl;refine cutS (λρ=>ρ=[.vl (netD N),nv N.m,.vl (.tup (N.js.map L2.aN)),.vl (.tup (natsD N.os)),.ll ((eE N).map natsD),.un,.un,.un,.un,.un,.un,.un]) (λM hM=>⟨rfl,N,rfl,hN,hM _ rfl⟩) ?_;rintro _ rfl;refine cutS (λρ=>ρ=[.vl (netD N),nv N.m,.vl (.tup (N.js.map L2.aN)),.vl (.tup (natsD N.os)),.ll ((eE N).map natsD),.ow (natsD (aJ N.os.length)),.un,.un,.un,.un,.un,.un]) (λM hM=>?_) ?_
 ·refine⟨rfl,N.os.length,by rw[aQ];rfl,by omega,hM _ rfl⟩
 rintro _ rfl;refine cutS (λρ=>ρ=[.vl (netD N),nv N.m,.vl (.tup (N.js.map L2.aN)),.vl (.tup (natsD N.os)),.ll ((eE N).map natsD),.ow (natsD (aJ N.os.length)),.ow (([]:List (Nat×Nat)).map L2.aN),.un,.un,.un,.un,.un]) (λM hM=>⟨zS _,hM _ rfl⟩) ?_;rintro _ rfl;refine cutS (λρ=>∃s7 s8 s9 s10,svNs [s7,s8,s9,s10]=true/\ρ=[.vl (netD N),nv N.m,.vl (.tup (N.js.map L2.aN)),.vl (.tup (natsD N.os)),.ll ((tuAt N N.js.length).1.map natsD),.ow (natsD (tuAt N N.js.length).2.1),.ow ((tuAt N N.js.length).2.2.map L2.aN),s7,s8,s9,s10,.un]) (λM hM=>?_) ?_
 ·refine eK (λk ρ=>k<=N.js.length/\∃s7 s8 s9 s10,svNs [s7,s8,s9,s10]=true/\ρ=[.vl (netD N),nv N.m,.vl (.tup (N.js.map L2.aN)),.vl (.tup (natsD N.os)),.ll ((tuAt N k).1.map natsD),.ow (natsD (tuAt N k).2.1),.ow ((tuAt N k).2.2.map L2.aN),s7,s8,s9,s10,.un]) (λ_ _ _ _=>trivial) ?_ (λρ ⟨_,s7,s8,s9,s10,h1,e⟩=>?_) _ ⟨zS _,.un,.un,.un,.un,rfl,rfl⟩
  ·rintro k d _ M2 hk ⟨_,s7,s8,s9,s10,hsv,rfl⟩ hM2;have lk:k<N.js.length:=by
    have:=(kt.mp hk).1;rwa [AN,bL,im]at this
   rw[BJ (by rw[bL,im];exact lk),bL,im]at hk;obtain⟨x,ex,rfl⟩:=dH hk;rw[lw]at ex;obtain⟨p,ep,rfl⟩:=wT.mp ex;rw[Ba];have I:=ke hN hok k (by omega);have okj:=hok.j k lk;refine nG (d2:=nD p.1) (d3:=nD p.2) ?_;show aSeq _ _ _ [.vl (netD N),nv N.m,.vl (.tup (N.js.map L2.aN)),.vl (.tup (natsD N.os)),.ll ((tuAt N k).1.map natsD),.ow (natsD (tuAt N k).2.1),.ow ((tuAt N k).2.2.map L2.aN),nv (N.js.length - 1 - k),nv p.1,nv p.2,s10,.un];have pm:=cq (dF hN.js) ep;rw[bu]at pm;have lt:N.m+(N.js.length - 1 - k)<(tuAt N k).1.length:=by rw[I.l];omega
   have hmem:=bI lt;have hnx:tuAt N (k+1)=(app (app (tuAt N k).1 p.1 (juU ((tuAt N k).1.getD (N.m+(N.js.length - 1 - k)) []) (tuAt N k).2.1 (tuAt N k).2.2).1) p.2 (juU ((tuAt N k).1.getD (N.m+(N.js.length - 1 - k)) []) (tuAt N k).2.1 (tuAt N k).2.2).1,(juU ((tuAt N k).1.getD (N.m+(N.js.length - 1 - k)) []) (tuAt N k).2.1 (tuAt N k).2.2).2.1,(juU ((tuAt N k).1.getD (N.m+(N.js.length - 1 - k)) []) (tuAt N k).2.1 (tuAt N k).2.2).2.2):=by
    have egp:N.js.getD (N.js.length - 1 - k) (0,0)=p:=by rw[bi,ep];rfl
    rw[tuAt,egp]
   have I2:=ke hN hok (k+1) (by omega);have hat:=qN lt;have hU:=I.u _ hmem;have hR:=I.r _ hmem;generalize hus:(tuAt N k).1.getD (N.m+(N.js.length - 1 - k)) []=us at *;obtain⟨u,us',rfl⟩:=zU okj.1;have hj2:=okj.2;rw[hnx]at I2;have ec:((N.m:Int)+((N.js.length - 1 - k:Nat):Int))=((N.m+(N.js.length - 1 - k):Nat):Int):=by omega
   have rl:=I.rl;have ml:=I.ml;have l1:=I.l;generalize tuAt N k=S at *;rw[zK]at hU;refine cutS (λρ=>ρ=[.vl (netD N),nv N.m,.vl (.tup (N.js.map L2.aN)),.vl (.tup (natsD N.os)),.ll (S.1.map natsD),.ow (natsD (juU (u::us') S.2.1 S.2.2).2.1),.ow ((juU (u::us') S.2.1 S.2.2).2.2.map L2.aN),nv (N.js.length - 1 - k),nv p.1,nv p.2,nv (juU (u::us') S.2.1 S.2.2).1,.un]) (λM3 hM3=>⟨S.1.map natsD,rfl,sv4 N _ _ ?_,dm _,?_⟩) ?_
   ·have:=bG 3 hsv;show(true&&(true&&(true&&(svN s10&&true))))=true;rw[show svN s10=true from this];rfl
   ·refine j9 rfl (by rw[ec];exact hat) ⟨rfl,N.m+(N.js.length - 1 - k),u,us',S.2.1,S.2.2,?_,hR,hj2,by omega,by omega,?_⟩
    ·show[Sv.vl (.int ((N.m:Int)+((N.js.length - 1 - k:Nat):Int))),_,_,_]=_;rw[ec];rfl
    ·exact⟨rfl,sv4 N _ _ rfl,hM3 _ rfl⟩
   rintro _ rfl;refine cutS (λρ=>ρ=[.vl (netD N),nv N.m,.vl (.tup (N.js.map L2.aN)),.vl (.tup (natsD N.os)),.ll ((app S.1 p.1 (juU (u::us') S.2.1 S.2.2).1).map natsD),.ow (natsD (juU (u::us') S.2.1 S.2.2).2.1),.ow ((juU (u::us') S.2.1 S.2.2).2.2.map L2.aN),nv (N.js.length - 1 - k),nv p.1,nv p.2,nv (juU (u::us') S.2.1 S.2.2).1,.un]) (λM3 hM3=>⟨S.1.map natsD,p.1,_,rfl,rfl,rfl,by rw[im];omega,?_,?_⟩) ?_
   ·rw[kA];have:=I.u _ (bI (show p.1<S.1.length by omega));omega
   ·have:=hM3 _ rfl;rw[<- fX]at this;exact this
   rintro _ rfl;refine⟨(app S.1 p.1 (juU (u::us') S.2.1 S.2.2).1).map natsD,p.2,nD (juU (u::us') S.2.1 S.2.2).1,rfl,rfl,rfl,by rw[im,dM];omega,?_,hM2 _ ⟨by omega,nv (N.js.length - 1 - k),nv p.1,nv p.2,nv (juU (u::us') S.2.1 S.2.2).1,rfl,?_⟩⟩
   ·rw[kA];rcases lW (bI (show p.2<(app S.1 p.1 (juU (u::us') S.2.1 S.2.2).1).length by rw[dM];omega))with z | ⟨z,e⟩
    ·have:=I.u _ z;omega
    ·have:=I.u _ z;rw[e,pc,xL];omega
   ·rw[hnx,fX];rfl
  ·rw[AN,bL,im]at e;exact hM ρ ⟨s7,s8,s9,s10,h1,e⟩
 rintro _ ⟨s7,s8,s9,s10,hsv,rfl⟩;have I:=ke hN hok N.js.length (lm _);refine cutS (λρ=>ρ=[.vl (netD N),nv N.m,.vl (.tup (N.js.map L2.aN)),.vl (.tup (natsD N.os)),.ll ((tuAt N N.js.length).1.map natsD),.ow (natsD (tgAt N N.m).2.1),.ow ((tgAt N N.m).2.2.map L2.aN),s7,s8,s9,s10,.ow (natsD (tgAt N N.m).1)]) (λM hM=>⟨_,rfl,sv4 N _ _ ?_,dm _,?_⟩) ?_
 ·show svNs [s7,s8,s9,s10,.un]=true;have h0:=bG 0 hsv;have h1:=bG 1 hsv;have h2:=bG 2 hsv;have h3:=bG 3 hsv;show(svN s7&&(svN s8&&(svN s9&&(svN s10&&true))))=true;rw[show svN s7=true from h0,show svN s8=true from h1,show svN s9=true from h2,show svN s10=true from h3];rfl
 ·refine⟨⟨by omega,by omega⟩,?_⟩;refine⟨by rw[eL];omega,?_⟩;refine dJ (λk acc ρ=>k<=N.m/\acc=natsD (tgAt N k).1/\ρ=[.vl (netD N),nv N.m,.vl (.tup (N.js.map L2.aN)),.vl (.tup (natsD N.os)),.vl (llD ((tuAt N N.js.length).1.map natsD)),.ow (natsD (tgAt N k).2.1),.ow ((tgAt N k).2.2.map L2.aN),s7,s8,s9,s10,.un]) (λ_ _ _ _ _=>trivial) ?_ ?_ _ ⟨zS _,rfl,rfl⟩
  ·rintro k d acc _ M2 hk ⟨_,rfl,rfl⟩ hM2;obtain⟨lk,rfl⟩:=lN hk;have lk:k<N.m:=by omega
   obtain⟨g1,g2,g3,g4⟩:=rG hN hok k (by omega);have okg:=hok.g k lk;have lt:N.m - 1 - k<(tuAt N N.js.length).1.length:=by rw[I.l];omega
   have hmem:=bI lt;have hat:=qN lt;have hU:=I.u _ hmem;have hR:=I.r _ hmem;have ht:tgAt N (k+1)=((tgAt N k).1++[(juU ((tuAt N N.js.length).1.getD (N.m - 1 - k) []) (tgAt N k).2.1 (tgAt N k).2.2).1],(juU ((tuAt N N.js.length).1.getD (N.m - 1 - k) []) (tgAt N k).2.1 (tgAt N k).2.2).2.1,(juU ((tuAt N N.js.length).1.getD (N.m - 1 - k) []) (tgAt N k).2.1 (tgAt N k).2.2).2.2):=by rw[tgAt]
   generalize hus:(tuAt N N.js.length).1.getD (N.m - 1 - k) []=us at *;obtain⟨u,us',rfl⟩:=zU okg.1;have ec:((N.m:Int) - 1 - (k:Int))=((N.m - 1 - k:Nat):Int):=by omega
   have hj2:=okg.2;rw[zK]at hU;refine gaN1 ?_;rw[ec];refine j9 rfl hat ⟨rfl,N.m - 1 - k,u,us',(tgAt N k).2.1,(tgAt N k).2.2,rfl,λx hx=>nw (hR x hx) g3,hj2,by omega,by omega,?_⟩;refine hM2 _ _ ⟨by omega,?_,?_⟩
   ·rw[ht];show natsD (tgAt N k).1++[nD _]=natsD ((tgAt N k).1++[_]);rw[bV];rfl
   ·rw[ht];rfl
  ·rintro acc _ ⟨_,rfl,rfl⟩;rw[eL,Aq];refine⟨rfl,sv4 N _ _ ?_,hM _ rfl⟩;have h0:=bG 0 hsv;have h1:=bG 1 hsv;have h2:=bG 2 hsv;have h3:=bG 3 hsv;show(svN s7&&(svN s8&&(svN s9&&(svN s10&&(noLs (natsD (tgAt N N.m).1)&&true)))))=true;rw[show svN s7=true from h0,show svN s8=true from h1,show svN s9=true from h2,show svN s10=true from h3,fS];rfl
 rintro _ rfl;obtain⟨g1,g2,g3,g4⟩:=rG hN hok N.m (lm _);have eT:(natsD (tgAt N N.m).1).reverse=natsD (tgAt N N.m).1.reverse:=by unfold natsD;rw[List.map_reverse]
 refine⟨rfl,by simp,?_⟩;rw[eT,aQ];exact hq
theorem fF {gA0 v6 f_Loose:Addr}(m_Loose:mg "Loose" = some (.ref gA0))(m_JoinError:mg "JoinError" = some (.ref v6))(in_Loose:l3 K gA0 f_Loose "thing" "Loose.__init__" dQ ["self", "thing"])(bs_JoinError:nz K v6)(dn:DefN K mg "joined_uses" cI ["thing", "uses", "rows", "made"])(B:BI mg)(gB3:OkN P w K mg base 1 "joining" ["one", "other"] (spA K hV))(gA6:OkN P w K mg base 1 "joined" ["one", "other"] (spA K fL)):OkX P w K mg base 3 "joined_uses" ["thing", "uses", "rows", "made"] gA0 (some "thing") (spA K ub):=by
 obtain⟨fd_Loose,bi_Loose,fi_Loose⟩:=qT (P:=P) (w:=w) (base:=base) in_Loose bs_JoinError B m_JoinError;refine dn.aokX (k:=2) bt (λj=>j==0||j==1||j==2||j==3) [.un,.un] ub gA0 (some "thing") rfl (λf cdv A outer s H E hr=>have hu:=cM hr;⟨_,(aP (jf (iC (gR K (pv 1) (λ_=>rfl)))
  (aP (kr tie1 rfl m_Loose in_Loose.xi fi_Loose (hr.mono (by decide)) bi_Loose (pv 0))
  bQ)
  bQ)
  (aP (cm (bo (i:=4) bt.nd rfl (by first | exact Or.inl rfl | exact Or.inr rfl) (bE (aT K) (pv 1) aX (λ_ _=>rfl))))
  (aP (lg rfl (d_ K (gW (gN K) (pv 1) (ie aX) jh)) (aL (i:=5) bt.nd rfl (by first | exact Or.inl rfl | exact Or.inr rfl))
  (aP (jf (bz (gk K hr.units) (bE (aT K) (pv 2) (pv 4) (λ_ _=>rfl)) (bE (aT K) (pv 2) (pv 5) (λ_ _=>rfl)) (bJ _))
  (aP gS
  bQ)
  bQ)
  (aP (cm (bZ (dj K zL zJ zI bK (pv 3) (aj (bC gB3 (hr.mono (by decide)) (aj (pv 4) (aj (pv 5) ar))) ar))))
  (aP (cm (bZ (dj K zL zJ zI bK (pv 2) (aj (bC gA6 (hr.mono (by decide)) (aj (bE (aT K) (pv 2) (pv 4) (λ_ _=>rfl)) (aj (bE (aT K) (pv 2) (pv 5) (λ_ _=>rfl)) ar))) ar))))
  (aP (cm (bo (i:=4) bt.nd rfl (by first | exact Or.inl rfl | exact Or.inr rfl) (bA e_ (aS (aU K) rfl B.len_ bF (aj (pv 2) ar)) aX)))
  bQ)))))
  ef))),(aw (cg (dO (iR af))
  (aw (kn af)
  ba)
  ba)
  (aw (bb (aG bg af aO) rfl)
  (aw (cS (pin:=(λ_=>false)) (cY (kS af (fm aO) kR)) (az rfl)
  (aw (cg (a_ (aG gm (aG bg af af) (aG bg af af)))
  (aw bS
  ba)
  ba)
  (aw (c_ (dY af (aa (aK (aa af (aa af aq))) aq)))
  (aw (c_ (dY af (aa (aK (aa (aG bg af af) (aa (aG bg af af) aq))) aq)))
  (aw (bb (aG bc (be aZ (aa af aq)) aO) rfl)
  ba)))))
  bS)))⟩) ?_
 rintro ss q ⟨t,R,M,rfl,ht,hq⟩;refine⟨rfl,rfl,?_⟩;exact⟨⟨by omega,by omega⟩,⟨_,rfl⟩,hq⟩
theorem fj {v4 v6 f_Nought:Addr}(m_Nought:mg "Nought" = some (.ref v4))(m_JoinError:mg "JoinError" = some (.ref v6))(in_Nought:l3 K v4 f_Nought "at" "Nought.__init__" dh ["self", "at"])(bs_JoinError:nz K v6)(dn:DefN K mg "joined_uses" cI ["thing", "uses", "rows", "made"])(B:BI mg)(gB3:OkN P w K mg base 1 "joining" ["one", "other"] (spA K hV))(gA6:OkN P w K mg base 1 "joined" ["one", "other"] (spA K fL)):OkX P w K mg base 3 "joined_uses" ["thing", "uses", "rows", "made"] v4 (some "at") (spA K t_):=by
 obtain⟨fd_Nought,bi_Nought,fi_Nought⟩:=oG (P:=P) (w:=w) (base:=base) in_Nought bs_JoinError B m_JoinError;refine dn.aokX (k:=2) bt (λj=>j==0||j==1||j==2||j==3) [.un,.un] t_ v4 (some "at") rfl (λf cdv A outer s H E hr=>have hu:=cM hr;⟨_,(aP (jf (iC (gR K (pv 1) (λ_=>rfl)))
  (aP gS
  bQ)
  bQ)
  (aP (cm (bo (i:=4) bt.nd rfl (by first | exact Or.inl rfl | exact Or.inr rfl) (bE (aT K) (pv 1) aX (λ_ _=>rfl))))
  (aP (lg rfl (d_ K (gW (gN K) (pv 1) (ie aX) jh)) (aL (i:=5) bt.nd rfl (by first | exact Or.inl rfl | exact Or.inr rfl))
  (aP (jf (bz (gk K hr.units) (bE (aT K) (pv 2) (pv 4) (λ_ _=>rfl)) (bE (aT K) (pv 2) (pv 5) (λ_ _=>rfl)) (bJ _))
  (aP (kr tie2 rfl m_Nought in_Nought.xi fi_Nought (hr.mono (by decide)) bi_Nought (pv 0))
  bQ)
  bQ)
  (aP (cm (bZ (dj K zL zJ zI bK (pv 3) (aj (bC gB3 (hr.mono (by decide)) (aj (pv 4) (aj (pv 5) ar))) ar))))
  (aP (cm (bZ (dj K zL zJ zI bK (pv 2) (aj (bC gA6 (hr.mono (by decide)) (aj (bE (aT K) (pv 2) (pv 4) (λ_ _=>rfl)) (aj (bE (aT K) (pv 2) (pv 5) (λ_ _=>rfl)) ar))) ar))))
  (aP (cm (bo (i:=4) bt.nd rfl (by first | exact Or.inl rfl | exact Or.inr rfl) (bA e_ (aS (aU K) rfl B.len_ bF (aj (pv 2) ar)) aX)))
  bQ)))))
  ef))),(aw (cg (dO (iR af))
  (aw bS
  ba)
  ba)
  (aw (bb (aG bg af aO) rfl)
  (aw (cS (pin:=(λ_=>false)) (cY (kS af (fm aO) kR)) (az rfl)
  (aw (cg (a_ (aG gm (aG bg af af) (aG bg af af)))
  (aw (kn af)
  ba)
  ba)
  (aw (c_ (dY af (aa (aK (aa af (aa af aq))) aq)))
  (aw (c_ (dY af (aa (aK (aa (aG bg af af) (aa (aG bg af af) aq))) aq)))
  (aw (bb (aG bc (be aZ (aa af aq)) aO) rfl)
  ba)))))
  bS)))⟩) ?_
 rintro ss q ⟨t,u,us,R,M,rfl,ht,hu,hok,l1,l2,hq⟩;have dI:∀ {i:Int},D.depth (.int i)<=60:=λ{i}=>by simp[D.depth]
 obtain⟨k0,y0,hy0,ok0,eq0⟩:=sT M hok;have hk0:=(kt.mp hy0).1;refine⟨rfl,rfl,?_⟩;refine cutS (λρ=>ρ=[nv t,.vl (.lst (natsD (u::us))),.ow (natsD R),.ow (M.map L2.aN),.un,.un]) (λM2 hM2=>hM2 _ rfl) ?_;rintro _ rfl;refine cutS (λρ=>ρ=[nv t,.vl (.lst (natsD (u::us))),.ow (natsD R),.ow (M.map L2.aN),nv u,.un]) (λM2 hM2=>bq rfl (F_ _) (hM2 _ rfl)) ?_;rintro _ rfl;have e1:L2.cutD (natsD (u::us)) (some 1) none=natsD us:=by
  show L2.cutD (natsD (u::us)) (some ((1:Nat):Int)) none=_;rw[mR];rfl
 show forA _ _ _ _ (L2.cutD (natsD (u::us)) (some 1) none) _;rw[e1];refine fU nD (λk ρ=>k<=k0/\∃s5,ρ=[nv t,.vl (.lst (natsD (u::us))),.ow (natsD (juS (us.take k) u R M).2.1),.ow ((juS (us.take k) u R M).2.2.map L2.aN),nv (juS (us.take k) u R M).1,s5]) (λ_ _ _=>trivial) ?_ (λρ ⟨h,_⟩=>absurd hk0 (by omega)) ⟨zS _,.un,rfl⟩;rintro k x _ M3 hx ⟨hkk,s5,rfl⟩ hM3;have hk:=(kt.mp hx).1;have hxu:x<R.length:=hu x (zO _ (wp hx));have hsn:us.take (k+1)=us.take k++[x]:=by rw[Bb,hx];rfl
 have hne:k<k0->(juS (us.take k) u R M).2.1.getD (juS (us.take k) u R M).1 0≠(juS (us.take k) u R M).2.1.getD x 0:=λlt=>oF (us.take k) (y:=x) (ys:=(us.take k0).drop (k+1)) M (by rw[<- qr hx lt];exact ok0);have heq:k=k0->(juS (us.take k) u R M).2.1.getD (juS (us.take k) u R M).1 0=(juS (us.take k) u R M).2.1.getD x 0:=λe=>by
  subst e;rw[hx]at hy0;injection hy0 with hy0;rw[hy0];exact eq0
 have ln:=gE (us.take k) u R M;have lt:=pV (us.take k) (g:=u) (R:=R) (M:=M) (hu u (z7 ..));have tk:(us.take k).length<=us.length:=by rw[Az];omega
 have hnext:=lA (us.take k) x u R M;rw[<- hsn]at hnext;generalize juS (us.take k) u R M=J at *;obtain⟨g,R1,M1⟩:=J;dsimp only at ln lt hne heq hnext ⊢;refine gaN1 ?_;show aSeq _ _ _ [nv t,.vl (.lst (natsD (u::us))),.ow (natsD R1),.ow (M1.map L2.aN),nv g,nv x];by_cases hc:k=k0
 ·refine bq rfl lt (bq rfl (by omega) (bX (b:=true) rfl rfl dI ?_ ?_))
  ·show eqD (nD (R1.getD g 0)) (nD (R1.getD x 0))=true;rw[heq hc];exact cQ _
  ·exact⟨⟨by omega,by omega⟩,⟨_,rfl⟩,hq R1 M1⟩
 have hlt:k<k0:=by omega
 refine cutS (λρ=>ρ=[nv t,.vl (.lst (natsD (u::us))),.ow (natsD R1),.ow (M1.map L2.aN),nv g,nv x]) (λM4 hM4=>bq rfl lt (bq rfl (by omega) (bX rfl rfl dI rfl (ite2 (λz=>?_) λ_=>hM4 _ rfl)))) ?_
 ·exfalso;apply hne hlt;have:=of_decide_eq_true (p:=((R1.getD g 0:Nat):Int)=((R1.getD x 0:Nat):Int)) z;omega
 rintro _ rfl;refine cutS (λρ=>ρ=[nv t,.vl (.lst (natsD (u::us))),.ow (natsD R1),.ow ((M1++[(min g x,max g x)]).map L2.aN),nv g,nv x]) (λM4 hM4=>⟨rfl,g,x,rfl,by rw[im];omega,?_⟩) ?_
 ·have:=hM4 _ rfl;rw[zW]at this;exact this
 rintro _ rfl;refine cutS (λρ=>ρ=[nv t,.vl (.lst (natsD (u::us))),.ow (natsD (R1++[R1.getD g 0 ^^^ R1.getD x 0])),.ow ((M1++[(min g x,max g x)]).map L2.aN),nv g,nv x]) (λM4 hM4=>bq rfl lt (bq rfl (by omega) ⟨rfl,_,_,rfl,by rw[aQ];omega,?_⟩)) ?_
 ·have:=hM4 _ rfl;rw[bV]at this;exact this
 rintro _ rfl;refine hM3 _ ⟨hlt,nv x,?_⟩;rw[hnext];have eg:((((natsD (R1++[R1.getD g 0 ^^^ R1.getD x 0])).length:Nat):Int) - 1)=((R1.length:Nat):Int):=by rw[aQ,pc,xL];omega
 show[nv t,.vl (.lst (natsD (u::us))),.ow (natsD (R1++[R1.getD g 0 ^^^ R1.getD x 0])),.ow ((M1++[(min g x,max g x)]).map L2.aN),Sv.vl (D.int ((((natsD (R1++[R1.getD g 0 ^^^ R1.getD x 0])).length:Nat):Int) - 1)),nv x]=_;rw[eg]
theorem fi {gA1:Addr}(m_TooMany:mg "TooMany" = some (.ref gA1))(e_TooMany:BQ K gA1 bmV "ValueError.__new__" = true)(dn:DefN K mg "turned_net" bT ["net"])(B:BI mg)(gA2:∃u,mg "MOST_GIVENS" = some u/\RelV (.int 12) u)(gA4:∃u,mg "MOST_JOINS" = some u/\RelV (.int 132) u):OkX P w K mg base 1 "turned_net" ["net"] gA1 none (spA K t6):=by
 refine dn.aokX (k:=0) aE (λj=>j==0) [.un,.un,.un,.un,.un,.un,.un,.un,.un,.un,.un] t6 gA1 none rfl (λf cdv A outer s H E hr=>have hu:=cM hr;⟨_,(aP (cm (eA (pv 0) (bO K (n:=3) rfl (aM (aL (i:=1) aE.nd rfl (by first | exact Or.inl rfl | exact Or.inr rfl)) (aM (aL (i:=2) aE.nd rfl (by first | exact Or.inl rfl | exact Or.inr rfl)) (aM (aL (i:=3) aE.nd rfl (by first | exact Or.inl rfl | exact Or.inr rfl)) bN))))))
  (aP (jf (PW.pt (jV (bz jq (aS (aU K) rfl B.len_ bF (aj (pv 3) ar)) (iK gA2 rfl) (bJ _)) (gQ (bz jq (bA e_ (bA cn (aS (aU K) rfl B.len_ bF (aj (pv 2) ar)) (aS (aU K) rfl B.len_ bF (aj (pv 3) ar))) (pv 1)) (iK gA4 rfl) (bJ _)))))
  (aP (sr tie1 rfl m_TooMany e_TooMany cj)
  bQ)
  bQ)
  ef)),(aw (cT af (bD (aD (az rfl) (aD (az rfl) (aD (az rfl) bj (λ_ _ _=>aY)) (λ_ _ _=>aY)) (λ_ _ _=>aY))))
  (aw (cg (dX (a_ (aG cK (be aZ (aa af aq)) aO)) (a_ (aG cK (aG bc (aG bc (be aZ (aa af aq)) (be aZ (aa af aq))) af) aO)))
  (aw (br rF)
  ba)
  ba)
  bS))⟩) ?_
 rintro ss q ⟨N,rfl,hN,ho,hq⟩;have jl:=hN.jl;have m12:=hN.m12;refine⟨rfl,rfl,?_⟩;refine cutS (λρ=>ρ=[.vl (netD N),nv N.m,.vl (.tup (N.js.map L2.aN)),.vl (.tup (natsD N.os)),.un,.un,.un,.un,.un,.un,.un,.un]) (λM hM=>hM _ rfl) ?_;rintro _ rfl;have g:(if decide ((12:Int)<(((natsD N.os).length:Nat):Int))=true then true else decide ((132:Int)<(((N.js.map L2.aN).length:Nat):Int)+(((natsD N.os).length:Nat):Int) - (N.m:Int)))=true:=by
  rw[aQ,im];by_cases h:12<N.os.length
  ·rw[if_pos (decide_eq_true (by omega))]
  ·rw[if_neg (by rw[decide_eq_true_eq];omega),decide_eq_true_eq];omega
 show if decide ((12:Int)<(((natsD N.os).length:Nat):Int))=true then _ else(if decide ((132:Int)<(((N.js.map L2.aN).length:Nat):Int)+(((natsD N.os).length:Nat):Int) - (N.m:Int))=true then _ else _)
 by_cases h:decide ((12:Int)<(((natsD N.os).length:Nat):Int))=true
 ·rw[if_pos h];exact⟨⟨_,rfl⟩,hq⟩
 ·rw[if_neg h]at g ⊢;rw[if_pos g];exact⟨⟨_,rfl⟩,hq⟩
theorem f_ {gA0 v6 f_Loose:Addr}(m_Loose:mg "Loose" = some (.ref gA0))(m_JoinError:mg "JoinError" = some (.ref v6))(in_Loose:l3 K gA0 f_Loose "thing" "Loose.__init__" dQ ["self", "thing"])(bs_JoinError:nz K v6)(dn:DefN K mg "turned_net" bT ["net"])(B:BI mg)(gB0:OkN P w K mg base 1 "out_uses" ["net"] (spA K hI))(gA3:OkN P w K mg base 1 "own_rows" ["many"] (spA K SOwn))(gA5:OkN P w K mg base 2 "joined_uses" ["thing", "uses", "rows", "made"] (spA K ny))(gB2:OkX P w K mg base 3 "joined_uses" ["thing", "uses", "rows", "made"] gA0 (some "thing") (spA K ub))(gA2:∃u,mg "MOST_GIVENS" = some u/\RelV (.int 12) u)(gA4:∃u,mg "MOST_JOINS" = some u/\RelV (.int 132) u):OkX P w K mg base 4 "turned_net" ["net"] gA0 (some "thing") (spA K t7):=by
 refine dn.aokX (k:=3) aE (λj=>j==0) [.un,.un,.un,.un,.un,.un,.un,.un,.un,.un,.un] t7 gA0 (some "thing") rfl (λf cdv A outer s H E hr=>have hu:=cM hr;⟨_,(aP (cm (eA (pv 0) (bO K (n:=3) rfl (aM (aL (i:=1) aE.nd rfl (by first | exact Or.inl rfl | exact Or.inr rfl)) (aM (aL (i:=2) aE.nd rfl (by first | exact Or.inl rfl | exact Or.inr rfl)) (aM (aL (i:=3) aE.nd rfl (by first | exact Or.inl rfl | exact Or.inr rfl)) bN))))))
  (aP (jf (PW.pt (jV (bz jq (aS (aU K) rfl B.len_ bF (aj (pv 3) ar)) (iK gA2 rfl) (bJ _)) (gQ (bz jq (bA e_ (bA cn (aS (aU K) rfl B.len_ bF (aj (pv 2) ar)) (aS (aU K) rfl B.len_ bF (aj (pv 3) ar))) (pv 1)) (iK gA4 rfl) (bJ _)))))
  (aP gS
  bQ)
  bQ)
  (aP (cm (bo (i:=4) aE.nd rfl (by first | exact Or.inl rfl | exact Or.inr rfl) (bC gB0 (hr.mono (by decide)) (aj (pv 0) ar))))
  (aP (cm (bo (i:=5) aE.nd rfl (by first | exact Or.inl rfl | exact Or.inr rfl) (bC gA3 (hr.mono (by decide)) (aj (aS (aU K) rfl B.len_ bF (aj (pv 3) ar)) ar))))
  (aP (cm (bo (i:=6) aE.nd rfl (by first | exact Or.inl rfl | exact Or.inr rfl) (mq ar)))
  (aP (lg rfl (sy K rfl B.reversed_ (aj (sA K rfl rfl B.list_ rfl B.enumerate_ (aj (pv 2) ar)) ar)) (bO K (n:=2) rfl (aM (aL (i:=7) aE.nd rfl (by first | exact Or.inl rfl | exact Or.inr rfl)) (aM (bO K (n:=2) rfl (aM (aL (i:=8) aE.nd rfl (by first | exact Or.inl rfl | exact Or.inr rfl)) (aM (aL (i:=9) aE.nd rfl (by first | exact Or.inl rfl | exact Or.inr rfl)) bN))) bN)))
  (aP (vo (pE (si gB2 (hr.mono (by decide)) vx (aj (bA cn (pv 1) (pv 7)) (aj (bE (aT K) (pv 4) (bA cn (pv 1) (pv 7)) (λ_ _=>rfl)) (aj (pv 5) (aj (pv 6) ar)))))) (cm (iJ (bo (i:=10) aE.nd rfl (by first | exact Or.inl rfl | exact Or.inr rfl) (bC gA5 (hr.mono (by decide)) (aj (bA cn (pv 1) (pv 7)) (aj (bE (aT K) (pv 4) (bA cn (pv 1) (pv 7)) (λ_ _=>rfl)) (aj (pv 5) (aj (pv 6) ar)))))))))
  (aP (cm (iJ (bZ (dj K zL zJ zI bK (bE (aT K) (pv 4) (pv 8) (λ_ _=>rfl)) (aj (pv 10) ar)))))
  (aP (cm (iJ (bZ (dj K zL zJ zI bK (bE (aT K) (pv 4) (pv 9) (λ_ _=>rfl)) (aj (pv 10) ar)))))
  bQ))))
  (aP (pE (mn ["given"] [4,5,6] rfl (Blk.of (aI bT) dy) (nX rfl B.reversed_ rfl B.range_ (aj (pv 1) ar)) (λ_ _ _ _ nd=>(aL (i:=0) nd rfl (by first | exact Or.inl rfl | exact Or.inr rfl))) (λ_ _ _ _=>(bC gA5 (hr.mono (by decide)) (aj (pv 0) (aj (bE (aT K) (pv 1) (pv 0) (λ_ _=>rfl)) (aj (pv 2) (aj (pv 3) ar)))))) (λD eD _ _ _ _ _ _ _ _ _ I f2 sz=>yb eD gB2 (hr.mono (by decide)) (vw I f2 sz) (aj (pv 0) (aj (bE (aT K) (pv 1) (pv 0) (λ_ _=>rfl)) (aj (pv 2) (aj (pv 3) ar)))))))
  ef))))))),(aw (cT af (bD (aD (az rfl) (aD (az rfl) (aD (az rfl) bj (λ_ _ _=>aY)) (λ_ _ _=>aY)) (λ_ _ _=>aY))))
  (aw (cg (dX (a_ (aG cK (be aZ (aa af aq)) aO)) (a_ (aG cK (aG bc (aG bc (be aZ (aa af aq)) (be aZ (aa af aq))) af) aO)))
  (aw bS
  ba)
  ba)
  (aw (bb (aK (aa af aq)) rfl)
  (aw (bb (aK (aa (be aZ (aa af aq)) aq)) rfl)
  (aw (bb (kT aq) rfl)
  (aw (cS (pin:=(λ_=>false)) (kU (aa (nF (aa af aq)) aq)) (bD (aD (az rfl) (aD (bD (aD (az rfl) (aD (az rfl) bj (λ_ _ _=>aY)) (λ_ _ _=>aY))) bj (λ_ _ _=>ti)) (λ_ _ _=>aY)))
  (aw (md (gL (i:=4) (br (aK (aa (aG bc af af) (aa (aG bg af (aG bc af af)) (aa af (aa af aq))))))) (iT (i:=4) (bb (aK (aa (aG bc af af) (aa (aG bg af (aG bc af af)) (aa af (aa af aq))))) rfl)))
  (aw (dB (i:=4) (j:=8) (k:=10))
  (aw (dB (i:=4) (j:=9) (k:=10))
  ba))))
  (aw (gL (i:=4) (l_ (iX (aa af aq)) (az rfl) (aK (aa af (aa (aG bg af af) (aa af (aa af aq))))) (aK (aa af (aa (aG bg af af) (aa af (aa af aq)))))))
  bS)))))))⟩) ?_
 rintro ss q ⟨N,i,rfl,hN,ho,hj,hi,pre,hE,hq⟩;have jl:=hN.jl;have m12:=hN.m12;have o1:=hN.o1;refine⟨rfl,rfl,?_⟩;refine cutS (λρ=>ρ=[.vl (netD N),nv N.m,.vl (.tup (N.js.map L2.aN)),.vl (.tup (natsD N.os)),.un,.un,.un,.un,.un,.un,.un,.un]) (λM hM=>hM _ rfl) ?_;rintro _ rfl;refine cutS (λρ=>ρ=[.vl (netD N),nv N.m,.vl (.tup (N.js.map L2.aN)),.vl (.tup (natsD N.os)),.un,.un,.un,.un,.un,.un,.un,.un]) (λM hM=>?_) ?_
 ·have g1:decide ((12:Int)<(((natsD N.os).length:Nat):Int))=false:=by rw[aQ,decide_eq_false_iff_not];omega
  have g2:decide ((132:Int)<(((N.js.map L2.aN).length:Nat):Int)+(((natsD N.os).length:Nat):Int) - (N.m:Int))=false:=by rw[aQ,im,decide_eq_false_iff_not];omega
  show if decide ((12:Int)<(((natsD N.os).length:Nat):Int))=true then _ else(if decide ((132:Int)<(((N.js.map L2.aN).length:Nat):Int)+(((natsD N.os).length:Nat):Int) - (N.m:Int))=true then _ else _)
  rw[g1,g2];exact hM _ rfl
 rintro _ rfl;refine cutS (λρ=>ρ=[.vl (netD N),nv N.m,.vl (.tup (N.js.map L2.aN)),.vl (.tup (natsD N.os)),.ll ((eE N).map natsD),.un,.un,.un,.un,.un,.un,.un]) (λM hM=>⟨rfl,N,rfl,hN,hM _ rfl⟩) ?_;rintro _ rfl;refine cutS (λρ=>ρ=[.vl (netD N),nv N.m,.vl (.tup (N.js.map L2.aN)),.vl (.tup (natsD N.os)),.ll ((eE N).map natsD),.ow (natsD (aJ N.os.length)),.un,.un,.un,.un,.un,.un]) (λM hM=>?_) ?_
 ·refine⟨rfl,N.os.length,by rw[aQ];rfl,by omega,hM _ rfl⟩
 rintro _ rfl;refine cutS (λρ=>ρ=[.vl (netD N),nv N.m,.vl (.tup (N.js.map L2.aN)),.vl (.tup (natsD N.os)),.ll ((eE N).map natsD),.ow (natsD (aJ N.os.length)),.ow (([]:List (Nat×Nat)).map L2.aN),.un,.un,.un,.un,.un]) (λM hM=>⟨zS _,hM _ rfl⟩) ?_;rintro _ rfl;refine cutS (λρ=>N.js.length<=i/\∃s7 s8 s9 s10,svNs [s7,s8,s9,s10]=true/\ρ=[.vl (netD N),nv N.m,.vl (.tup (N.js.map L2.aN)),.vl (.tup (natsD N.os)),.ll ((tuAt N N.js.length).1.map natsD),.ow (natsD (tuAt N N.js.length).2.1),.ow ((tuAt N N.js.length).2.2.map L2.aN),s7,s8,s9,s10,.un]) (λM hM=>?_) ?_
 ·refine eK (λk ρ=>k<=i/\k<=N.js.length/\∃s7 s8 s9 s10,svNs [s7,s8,s9,s10]=true/\ρ=[.vl (netD N),nv N.m,.vl (.tup (N.js.map L2.aN)),.vl (.tup (natsD N.os)),.ll ((tuAt N k).1.map natsD),.ow (natsD (tuAt N k).2.1),.ow ((tuAt N k).2.2.map L2.aN),s7,s8,s9,s10,.un]) (λ_ _ _ _=>trivial) ?_ (λρ ⟨ki,_,s7,s8,s9,s10,h1,e⟩=>?_) _ ⟨zS _,zS _,.un,.un,.un,.un,rfl,rfl⟩
  ·rintro k d _ M2 hk ⟨ki,_,s7,s8,s9,s10,hsv,rfl⟩ hM2;have lk:k<N.js.length:=by
    have:=(kt.mp hk).1;rwa [AN,bL,im]at this
   rw[BJ (by rw[bL,im];exact lk),bL,im]at hk;obtain⟨x,ex,rfl⟩:=dH hk;rw[lw]at ex;obtain⟨p,ep,rfl⟩:=wT.mp ex;rw[Ba];have I:=dA hN k (by omega) λi' h=>pre i' (by omega);refine nG (d2:=nD p.1) (d3:=nD p.2) ?_;show aSeq _ _ _ [.vl (netD N),nv N.m,.vl (.tup (N.js.map L2.aN)),.vl (.tup (natsD N.os)),.ll ((tuAt N k).1.map natsD),.ow (natsD (tuAt N k).2.1),.ow ((tuAt N k).2.2.map L2.aN),nv (N.js.length - 1 - k),nv p.1,nv p.2,s10,.un];have pm:=cq (dF hN.js) ep;rw[bu]at pm;have lt:N.m+(N.js.length - 1 - k)<(tuAt N k).1.length:=by rw[I.l];omega
   have hmem:=bI lt;have hat:=qN lt;have hU:=I.u _ hmem;have hR:=I.r _ hmem;have s10n:svN s10=true:=bG 3 hsv;have ec:((N.m:Int)+((N.js.length - 1 - k:Nat):Int))=((N.m+(N.js.length - 1 - k):Nat):Int):=by omega
   have rl:=I.rl;have ml:=I.ml;have l1:=I.l;have et:thg N k=N.m+(N.js.length - 1 - k):=by unfold thg;omega
   by_cases kc:k=i
   ·subst kc;rw[gh lk]at hE;refine .inl ⟨(tuAt N k).1.map natsD,rfl,sv4 N _ _ ?_,dm _,?_⟩
    ·show(true&&(true&&(true&&(svN s10&&true))))=true;rw[s10n];rfl
    ·refine j9 rfl (by rw[ec];exact hat) ?_;rw[hE];refine⟨rfl,N.m+(N.js.length - 1 - k),(tuAt N k).2.1,(tuAt N k).2.2,?_,by omega,?_⟩
     ·show[Sv.vl (.int ((N.m:Int)+((N.js.length - 1 - k:Nat):Int))),_,_,_]=_;rw[ec];rfl
     ·rw[<- et];exact⟨rfl,sv4 N _ _ (by show(true&&(true&&(true&&(svN s10&&true))))=true;rw[s10n];rfl),⟨_,rfl,rfl⟩,⟨_,rfl⟩,hq⟩
   have okj:=pre k (by omega);have I2:=dA hN (k+1) (by omega) λi' h=>pre i' (by omega);unfold stOk at okj;rw[gh lk,iA lk]at okj;have hnx:tuAt N (k+1)=(app (app (tuAt N k).1 p.1 (juU ((tuAt N k).1.getD (N.m+(N.js.length - 1 - k)) []) (tuAt N k).2.1 (tuAt N k).2.2).1) p.2 (juU ((tuAt N k).1.getD (N.m+(N.js.length - 1 - k)) []) (tuAt N k).2.1 (tuAt N k).2.2).1,(juU ((tuAt N k).1.getD (N.m+(N.js.length - 1 - k)) []) (tuAt N k).2.1 (tuAt N k).2.2).2.1,(juU ((tuAt N k).1.getD (N.m+(N.js.length - 1 - k)) []) (tuAt N k).2.1 (tuAt N k).2.2).2.2):=by
    have egp:N.js.getD (N.js.length - 1 - k) (0,0)=p:=by rw[bi,ep];rfl
    rw[tuAt,egp]
   generalize hus:(tuAt N k).1.getD (N.m+(N.js.length - 1 - k)) []=us at *;obtain⟨u,us',rfl⟩:=zU okj.1;have hj2:=okj.2;rw[hnx]at I2;generalize tuAt N k=S at *;rw[zK]at hU;refine cutS (λρ=>ρ=[.vl (netD N),nv N.m,.vl (.tup (N.js.map L2.aN)),.vl (.tup (natsD N.os)),.ll (S.1.map natsD),.ow (natsD (juU (u::us') S.2.1 S.2.2).2.1),.ow ((juU (u::us') S.2.1 S.2.2).2.2.map L2.aN),nv (N.js.length - 1 - k),nv p.1,nv p.2,nv (juU (u::us') S.2.1 S.2.2).1,.un]) (λM3 hM3=>.inr ⟨S.1.map natsD,rfl,sv4 N _ _ ?_,dm _,?_⟩) ?_
   ·show(true&&(true&&(true&&(svN s10&&true))))=true;rw[s10n];rfl
   ·refine j9 rfl (by rw[ec];exact hat) ⟨rfl,N.m+(N.js.length - 1 - k),u,us',S.2.1,S.2.2,?_,hR,hj2,by omega,by omega,?_⟩
    ·show[Sv.vl (.int ((N.m:Int)+((N.js.length - 1 - k:Nat):Int))),_,_,_]=_;rw[ec];rfl
    ·exact⟨rfl,sv4 N _ _ rfl,hM3 _ rfl⟩
   rintro _ rfl;refine cutS (λρ=>ρ=[.vl (netD N),nv N.m,.vl (.tup (N.js.map L2.aN)),.vl (.tup (natsD N.os)),.ll ((app S.1 p.1 (juU (u::us') S.2.1 S.2.2).1).map natsD),.ow (natsD (juU (u::us') S.2.1 S.2.2).2.1),.ow ((juU (u::us') S.2.1 S.2.2).2.2.map L2.aN),nv (N.js.length - 1 - k),nv p.1,nv p.2,nv (juU (u::us') S.2.1 S.2.2).1,.un]) (λM3 hM3=>⟨S.1.map natsD,p.1,_,rfl,rfl,rfl,by rw[im];omega,?_,?_⟩) ?_
   ·rw[kA];have:=I.u _ (bI (show p.1<S.1.length by omega));omega
   ·have:=hM3 _ rfl;rw[<- fX]at this;exact this
   rintro _ rfl;refine cutS (λρ=>ρ=[.vl (netD N),nv N.m,.vl (.tup (N.js.map L2.aN)),.vl (.tup (natsD N.os)),.ll ((app (app S.1 p.1 (juU (u::us') S.2.1 S.2.2).1) p.2 (juU (u::us') S.2.1 S.2.2).1).map natsD),.ow (natsD (juU (u::us') S.2.1 S.2.2).2.1),.ow ((juU (u::us') S.2.1 S.2.2).2.2.map L2.aN),nv (N.js.length - 1 - k),nv p.1,nv p.2,nv (juU (u::us') S.2.1 S.2.2).1,.un]) (λM3 hM3=>⟨(app S.1 p.1 (juU (u::us') S.2.1 S.2.2).1).map natsD,p.2,nD (juU (u::us') S.2.1 S.2.2).1,rfl,rfl,rfl,by rw[im,dM];omega,?_,?_⟩) ?_
   ·rw[kA];rcases lW (bI (show p.2<(app S.1 p.1 (juU (u::us') S.2.1 S.2.2).1).length by rw[dM];omega))with z | ⟨z,e⟩
    ·have:=I.u _ z;omega
    ·have:=I.u _ z;rw[e,pc,xL];omega
   ·have:=hM3 _ rfl;rw[<- fX]at this;exact this
   rintro _ rfl;refine hM2 _ ⟨by omega,by omega,nv (N.js.length - 1 - k),nv p.1,nv p.2,nv (juU (u::us') S.2.1 S.2.2).1,rfl,?_⟩;rw[hnx]
  ·rw[AN,bL,im]at e ki;exact hM ρ ⟨ki,s7,s8,s9,s10,h1,e⟩
 rintro _ ⟨ji,s7,s8,s9,s10,hsv,rfl⟩;have I:=dA hN N.js.length (lm _) λi' h=>pre i' (by omega);obtain⟨j,rfl⟩:∃j,i=N.js.length+j:=⟨i - N.js.length,by omega⟩
 have et:thg N (N.js.length+j)=N.m - 1 - j:=by unfold thg;omega
 rw[gi]at hE;refine⟨_,rfl,sv4 N _ _ ?_,dm _,?_⟩
 ·show svNs [s7,s8,s9,s10,.un]=true;have h0:=bG 0 hsv;have h1:=bG 1 hsv;have h2:=bG 2 hsv;have h3:=bG 3 hsv;show(svN s7&&(svN s8&&(svN s9&&(svN s10&&true))))=true;rw[show svN s7=true from h0,show svN s8=true from h1,show svN s9=true from h2,show svN s10=true from h3];rfl
 refine⟨⟨by omega,by omega⟩,?_⟩;refine⟨by rw[eL];omega,?_⟩;refine kD (λk acc ρ=>k<=j/\acc=natsD (tgAt N k).1/\ρ=[.vl (netD N),nv N.m,.vl (.tup (N.js.map L2.aN)),.vl (.tup (natsD N.os)),.vl (llD ((tuAt N N.js.length).1.map natsD)),.ow (natsD (tgAt N k).2.1),.ow ((tgAt N k).2.2.map L2.aN),s7,s8,s9,s10,.un]) (λ_ _ _ _=>trivial) ?_ (λacc ρ ⟨h,_⟩=>by rw[eL]at h;omega) _ ⟨zS _,rfl,rfl⟩;rintro k d acc _ M2 hk ⟨kj,rfl,rfl⟩ hM2;obtain⟨lk,rfl⟩:=lN hk;have lk:k<N.m:=by omega
 obtain⟨g1,g2,g3,g4⟩:=kW hN k (by omega) λi' h=>pre i' (by omega)
 have lt:N.m - 1 - k<(tuAt N N.js.length).1.length:=by rw[I.l];omega
 have hmem:=bI lt;have hat:=qN lt;have hU:=I.u _ hmem;have hR:=I.r _ hmem;have ec:((N.m:Int) - 1 - (k:Int))=((N.m - 1 - k:Nat):Int):=by omega
 refine gaN1 ?_;rw[ec];by_cases kc:k=j
 ·subst kc;refine .inr (j9 rfl hat ?_);rw[hE];refine⟨rfl,N.m - 1 - k,(tgAt N k).2.1,(tgAt N k).2.2,rfl,by omega,?_⟩;rw[<- et];exact⟨_,rfl,rfl,sv4 N _ _ (by show(svN s7&&(svN s8&&(svN s9&&(svN s10&&true))))=true;rw[show svN s7=true from bG 0 hsv,show svN s8=true from bG 1 hsv,show svN s9=true from bG 2 hsv,show svN s10=true from bG 3 hsv];rfl),⟨_,rfl,rfl⟩,⟨_,rfl⟩,hq⟩
 have okg:=pre (N.js.length+k) (by omega);unfold stOk at okg;rw[gi,gK]at okg;have ht:tgAt N (k+1)=((tgAt N k).1++[(juU ((tuAt N N.js.length).1.getD (N.m - 1 - k) []) (tgAt N k).2.1 (tgAt N k).2.2).1],(juU ((tuAt N N.js.length).1.getD (N.m - 1 - k) []) (tgAt N k).2.1 (tgAt N k).2.2).2.1,(juU ((tuAt N N.js.length).1.getD (N.m - 1 - k) []) (tgAt N k).2.1 (tgAt N k).2.2).2.2):=by rw[tgAt]
 generalize hus:(tuAt N N.js.length).1.getD (N.m - 1 - k) []=us at *;obtain⟨u,us',rfl⟩:=zU okg.1;have hj2:=okg.2;rw[zK]at hU;refine .inl (j9 rfl hat ⟨rfl,N.m - 1 - k,u,us',(tgAt N k).2.1,(tgAt N k).2.2,rfl,λx hx=>nw (hR x hx) g3,hj2,by omega,by omega,?_⟩);refine hM2 _ _ ⟨by omega,?_,?_⟩
 ·rw[ht];show natsD (tgAt N k).1++[nD _]=natsD ((tgAt N k).1++[_]);rw[bV];rfl
 ·rw[ht];rfl
theorem fE {v4 v6 f_Nought:Addr}(m_Nought:mg "Nought" = some (.ref v4))(m_JoinError:mg "JoinError" = some (.ref v6))(in_Nought:l3 K v4 f_Nought "at" "Nought.__init__" dh ["self", "at"])(bs_JoinError:nz K v6)(dn:DefN K mg "turned_net" bT ["net"])(B:BI mg)(gB0:OkN P w K mg base 1 "out_uses" ["net"] (spA K hI))(gA3:OkN P w K mg base 1 "own_rows" ["many"] (spA K SOwn))(gA5:OkN P w K mg base 2 "joined_uses" ["thing", "uses", "rows", "made"] (spA K ny))(gB1:OkX P w K mg base 3 "joined_uses" ["thing", "uses", "rows", "made"] v4 (some "at") (spA K t_))(gA2:∃u,mg "MOST_GIVENS" = some u/\RelV (.int 12) u)(gA4:∃u,mg "MOST_JOINS" = some u/\RelV (.int 132) u):OkX P w K mg base 4 "turned_net" ["net"] v4 (some "at") (spA K t5):=by
 refine dn.aokX (k:=3) aE (λj=>j==0) [.un,.un,.un,.un,.un,.un,.un,.un,.un,.un,.un] t5 v4 (some "at") rfl (λf cdv A outer s H E hr=>have hu:=cM hr;⟨_,(aP (cm (eA (pv 0) (bO K (n:=3) rfl (aM (aL (i:=1) aE.nd rfl (by first | exact Or.inl rfl | exact Or.inr rfl)) (aM (aL (i:=2) aE.nd rfl (by first | exact Or.inl rfl | exact Or.inr rfl)) (aM (aL (i:=3) aE.nd rfl (by first | exact Or.inl rfl | exact Or.inr rfl)) bN))))))
  (aP (jf (PW.pt (jV (bz jq (aS (aU K) rfl B.len_ bF (aj (pv 3) ar)) (iK gA2 rfl) (bJ _)) (gQ (bz jq (bA e_ (bA cn (aS (aU K) rfl B.len_ bF (aj (pv 2) ar)) (aS (aU K) rfl B.len_ bF (aj (pv 3) ar))) (pv 1)) (iK gA4 rfl) (bJ _)))))
  (aP gS
  bQ)
  bQ)
  (aP (cm (bo (i:=4) aE.nd rfl (by first | exact Or.inl rfl | exact Or.inr rfl) (bC gB0 (hr.mono (by decide)) (aj (pv 0) ar))))
  (aP (cm (bo (i:=5) aE.nd rfl (by first | exact Or.inl rfl | exact Or.inr rfl) (bC gA3 (hr.mono (by decide)) (aj (aS (aU K) rfl B.len_ bF (aj (pv 3) ar)) ar))))
  (aP (cm (bo (i:=6) aE.nd rfl (by first | exact Or.inl rfl | exact Or.inr rfl) (mq ar)))
  (aP (lg rfl (sy K rfl B.reversed_ (aj (sA K rfl rfl B.list_ rfl B.enumerate_ (aj (pv 2) ar)) ar)) (bO K (n:=2) rfl (aM (aL (i:=7) aE.nd rfl (by first | exact Or.inl rfl | exact Or.inr rfl)) (aM (bO K (n:=2) rfl (aM (aL (i:=8) aE.nd rfl (by first | exact Or.inl rfl | exact Or.inr rfl)) (aM (aL (i:=9) aE.nd rfl (by first | exact Or.inl rfl | exact Or.inr rfl)) bN))) bN)))
  (aP (vo (pE (si gB1 (hr.mono (by decide)) vx (aj (bA cn (pv 1) (pv 7)) (aj (bE (aT K) (pv 4) (bA cn (pv 1) (pv 7)) (λ_ _=>rfl)) (aj (pv 5) (aj (pv 6) ar)))))) (cm (iJ (bo (i:=10) aE.nd rfl (by first | exact Or.inl rfl | exact Or.inr rfl) (bC gA5 (hr.mono (by decide)) (aj (bA cn (pv 1) (pv 7)) (aj (bE (aT K) (pv 4) (bA cn (pv 1) (pv 7)) (λ_ _=>rfl)) (aj (pv 5) (aj (pv 6) ar)))))))))
  (aP (cm (iJ (bZ (dj K zL zJ zI bK (bE (aT K) (pv 4) (pv 8) (λ_ _=>rfl)) (aj (pv 10) ar)))))
  (aP (cm (iJ (bZ (dj K zL zJ zI bK (bE (aT K) (pv 4) (pv 9) (λ_ _=>rfl)) (aj (pv 10) ar)))))
  bQ))))
  (aP (pE (mn ["given"] [4,5,6] rfl (Blk.of (aI bT) dy) (nX rfl B.reversed_ rfl B.range_ (aj (pv 1) ar)) (λ_ _ _ _ nd=>(aL (i:=0) nd rfl (by first | exact Or.inl rfl | exact Or.inr rfl))) (λ_ _ _ _=>(bC gA5 (hr.mono (by decide)) (aj (pv 0) (aj (bE (aT K) (pv 1) (pv 0) (λ_ _=>rfl)) (aj (pv 2) (aj (pv 3) ar)))))) (λD eD _ _ _ _ _ _ _ _ _ I f2 sz=>yb eD gB1 (hr.mono (by decide)) (vw I f2 sz) (aj (pv 0) (aj (bE (aT K) (pv 1) (pv 0) (λ_ _=>rfl)) (aj (pv 2) (aj (pv 3) ar)))))))
  ef))))))),(aw (cT af (bD (aD (az rfl) (aD (az rfl) (aD (az rfl) bj (λ_ _ _=>aY)) (λ_ _ _=>aY)) (λ_ _ _=>aY))))
  (aw (cg (dX (a_ (aG cK (be aZ (aa af aq)) aO)) (a_ (aG cK (aG bc (aG bc (be aZ (aa af aq)) (be aZ (aa af aq))) af) aO)))
  (aw bS
  ba)
  ba)
  (aw (bb (aK (aa af aq)) rfl)
  (aw (bb (aK (aa (be aZ (aa af aq)) aq)) rfl)
  (aw (bb (kT aq) rfl)
  (aw (cS (pin:=(λ_=>false)) (kU (aa (nF (aa af aq)) aq)) (bD (aD (az rfl) (aD (bD (aD (az rfl) (aD (az rfl) bj (λ_ _ _=>aY)) (λ_ _ _=>aY))) bj (λ_ _ _=>ti)) (λ_ _ _=>aY)))
  (aw (md (gL (i:=4) (br (aK (aa (aG bc af af) (aa (aG bg af (aG bc af af)) (aa af (aa af aq))))))) (iT (i:=4) (bb (aK (aa (aG bc af af) (aa (aG bg af (aG bc af af)) (aa af (aa af aq))))) rfl)))
  (aw (dB (i:=4) (j:=8) (k:=10))
  (aw (dB (i:=4) (j:=9) (k:=10))
  ba))))
  (aw (gL (i:=4) (l_ (iX (aa af aq)) (az rfl) (aK (aa af (aa (aG bg af af) (aa af (aa af aq))))) (aK (aa af (aa (aG bg af af) (aa af (aa af aq)))))))
  bS)))))))⟩) ?_
 rintro ss q ⟨N,i,rfl,hN,ho,hj,hi,pre,hE,hno,hq⟩;have jl:=hN.jl;have m12:=hN.m12;have o1:=hN.o1;refine⟨rfl,rfl,?_⟩;refine cutS (λρ=>ρ=[.vl (netD N),nv N.m,.vl (.tup (N.js.map L2.aN)),.vl (.tup (natsD N.os)),.un,.un,.un,.un,.un,.un,.un,.un]) (λM hM=>hM _ rfl) ?_;rintro _ rfl;refine cutS (λρ=>ρ=[.vl (netD N),nv N.m,.vl (.tup (N.js.map L2.aN)),.vl (.tup (natsD N.os)),.un,.un,.un,.un,.un,.un,.un,.un]) (λM hM=>?_) ?_
 ·have g1:decide ((12:Int)<(((natsD N.os).length:Nat):Int))=false:=by rw[aQ,decide_eq_false_iff_not];omega
  have g2:decide ((132:Int)<(((N.js.map L2.aN).length:Nat):Int)+(((natsD N.os).length:Nat):Int) - (N.m:Int))=false:=by rw[aQ,im,decide_eq_false_iff_not];omega
  show if decide ((12:Int)<(((natsD N.os).length:Nat):Int))=true then _ else(if decide ((132:Int)<(((N.js.map L2.aN).length:Nat):Int)+(((natsD N.os).length:Nat):Int) - (N.m:Int))=true then _ else _)
  rw[g1,g2];exact hM _ rfl
 rintro _ rfl;refine cutS (λρ=>ρ=[.vl (netD N),nv N.m,.vl (.tup (N.js.map L2.aN)),.vl (.tup (natsD N.os)),.ll ((eE N).map natsD),.un,.un,.un,.un,.un,.un,.un]) (λM hM=>⟨rfl,N,rfl,hN,hM _ rfl⟩) ?_;rintro _ rfl;refine cutS (λρ=>ρ=[.vl (netD N),nv N.m,.vl (.tup (N.js.map L2.aN)),.vl (.tup (natsD N.os)),.ll ((eE N).map natsD),.ow (natsD (aJ N.os.length)),.un,.un,.un,.un,.un,.un]) (λM hM=>?_) ?_
 ·refine⟨rfl,N.os.length,by rw[aQ];rfl,by omega,hM _ rfl⟩
 rintro _ rfl;refine cutS (λρ=>ρ=[.vl (netD N),nv N.m,.vl (.tup (N.js.map L2.aN)),.vl (.tup (natsD N.os)),.ll ((eE N).map natsD),.ow (natsD (aJ N.os.length)),.ow (([]:List (Nat×Nat)).map L2.aN),.un,.un,.un,.un,.un]) (λM hM=>⟨zS _,hM _ rfl⟩) ?_;rintro _ rfl;refine cutS (λρ=>N.js.length<=i/\∃s7 s8 s9 s10,svNs [s7,s8,s9,s10]=true/\ρ=[.vl (netD N),nv N.m,.vl (.tup (N.js.map L2.aN)),.vl (.tup (natsD N.os)),.ll ((tuAt N N.js.length).1.map natsD),.ow (natsD (tuAt N N.js.length).2.1),.ow ((tuAt N N.js.length).2.2.map L2.aN),s7,s8,s9,s10,.un]) (λM hM=>?_) ?_
 ·refine eK (λk ρ=>k<=i/\k<=N.js.length/\∃s7 s8 s9 s10,svNs [s7,s8,s9,s10]=true/\ρ=[.vl (netD N),nv N.m,.vl (.tup (N.js.map L2.aN)),.vl (.tup (natsD N.os)),.ll ((tuAt N k).1.map natsD),.ow (natsD (tuAt N k).2.1),.ow ((tuAt N k).2.2.map L2.aN),s7,s8,s9,s10,.un]) (λ_ _ _ _=>trivial) ?_ (λρ ⟨ki,_,s7,s8,s9,s10,h1,e⟩=>?_) _ ⟨zS _,zS _,.un,.un,.un,.un,rfl,rfl⟩
  ·rintro k d _ M2 hk ⟨ki,_,s7,s8,s9,s10,hsv,rfl⟩ hM2;have lk:k<N.js.length:=by
    have:=(kt.mp hk).1;rwa [AN,bL,im]at this
   rw[BJ (by rw[bL,im];exact lk),bL,im]at hk;obtain⟨x,ex,rfl⟩:=dH hk;rw[lw]at ex;obtain⟨p,ep,rfl⟩:=wT.mp ex;rw[Ba];have I:=dA hN k (by omega) λi' h=>pre i' (by omega);refine nG (d2:=nD p.1) (d3:=nD p.2) ?_;show aSeq _ _ _ [.vl (netD N),nv N.m,.vl (.tup (N.js.map L2.aN)),.vl (.tup (natsD N.os)),.ll ((tuAt N k).1.map natsD),.ow (natsD (tuAt N k).2.1),.ow ((tuAt N k).2.2.map L2.aN),nv (N.js.length - 1 - k),nv p.1,nv p.2,s10,.un];have pm:=cq (dF hN.js) ep;rw[bu]at pm;have lt:N.m+(N.js.length - 1 - k)<(tuAt N k).1.length:=by rw[I.l];omega
   have hmem:=bI lt;have hat:=qN lt;have hU:=I.u _ hmem;have hR:=I.r _ hmem;have s10n:svN s10=true:=bG 3 hsv;have ec:((N.m:Int)+((N.js.length - 1 - k:Nat):Int))=((N.m+(N.js.length - 1 - k):Nat):Int):=by omega
   have rl:=I.rl;have ml:=I.ml;have l1:=I.l;have et:thg N k=N.m+(N.js.length - 1 - k):=by unfold thg;omega
   by_cases kc:k=i
   ·subst kc;rw[gh lk]at hE;unfold stOk at hno;rw[gh lk,iA lk]at hno;obtain⟨u,us',hus⟩:=zU hE;rw[hus]at hno hR hU;rw[zK]at hU;refine .inl ⟨(tuAt N k).1.map natsD,rfl,sv4 N _ _ ?_,dm _,?_⟩
    ·show(true&&(true&&(true&&(svN s10&&true))))=true;rw[s10n];rfl
    ·refine j9 rfl (by rw[ec];exact hat) ?_;rw[hus];refine⟨rfl,N.m+(N.js.length - 1 - k),u,us',(tuAt N k).2.1,(tuAt N k).2.2,?_,by omega,hR,λz=>hno ⟨by simp,z⟩,by omega,by omega,λR' M'=>?_⟩
     ·show[Sv.vl (.int ((N.m:Int)+((N.js.length - 1 - k:Nat):Int))),_,_,_]=_;rw[ec];rfl
     ·rw[<- et];exact⟨rfl,sv4 N _ _ (by show(true&&(true&&(true&&(svN s10&&true))))=true;rw[s10n];rfl),⟨_,rfl,rfl⟩,⟨_,rfl⟩,hq⟩
   have okj:=pre k (by omega);have I2:=dA hN (k+1) (by omega) λi' h=>pre i' (by omega);unfold stOk at okj;rw[gh lk,iA lk]at okj;have hnx:tuAt N (k+1)=(app (app (tuAt N k).1 p.1 (juU ((tuAt N k).1.getD (N.m+(N.js.length - 1 - k)) []) (tuAt N k).2.1 (tuAt N k).2.2).1) p.2 (juU ((tuAt N k).1.getD (N.m+(N.js.length - 1 - k)) []) (tuAt N k).2.1 (tuAt N k).2.2).1,(juU ((tuAt N k).1.getD (N.m+(N.js.length - 1 - k)) []) (tuAt N k).2.1 (tuAt N k).2.2).2.1,(juU ((tuAt N k).1.getD (N.m+(N.js.length - 1 - k)) []) (tuAt N k).2.1 (tuAt N k).2.2).2.2):=by
    have egp:N.js.getD (N.js.length - 1 - k) (0,0)=p:=by rw[bi,ep];rfl
    rw[tuAt,egp]
   generalize hus:(tuAt N k).1.getD (N.m+(N.js.length - 1 - k)) []=us at *;obtain⟨u,us',rfl⟩:=zU okj.1;have hj2:=okj.2;rw[hnx]at I2;generalize tuAt N k=S at *;rw[zK]at hU;refine cutS (λρ=>ρ=[.vl (netD N),nv N.m,.vl (.tup (N.js.map L2.aN)),.vl (.tup (natsD N.os)),.ll (S.1.map natsD),.ow (natsD (juU (u::us') S.2.1 S.2.2).2.1),.ow ((juU (u::us') S.2.1 S.2.2).2.2.map L2.aN),nv (N.js.length - 1 - k),nv p.1,nv p.2,nv (juU (u::us') S.2.1 S.2.2).1,.un]) (λM3 hM3=>.inr ⟨S.1.map natsD,rfl,sv4 N _ _ ?_,dm _,?_⟩) ?_
   ·show(true&&(true&&(true&&(svN s10&&true))))=true;rw[s10n];rfl
   ·refine j9 rfl (by rw[ec];exact hat) ⟨rfl,N.m+(N.js.length - 1 - k),u,us',S.2.1,S.2.2,?_,hR,hj2,by omega,by omega,?_⟩
    ·show[Sv.vl (.int ((N.m:Int)+((N.js.length - 1 - k:Nat):Int))),_,_,_]=_;rw[ec];rfl
    ·exact⟨rfl,sv4 N _ _ rfl,hM3 _ rfl⟩
   rintro _ rfl;refine cutS (λρ=>ρ=[.vl (netD N),nv N.m,.vl (.tup (N.js.map L2.aN)),.vl (.tup (natsD N.os)),.ll ((app S.1 p.1 (juU (u::us') S.2.1 S.2.2).1).map natsD),.ow (natsD (juU (u::us') S.2.1 S.2.2).2.1),.ow ((juU (u::us') S.2.1 S.2.2).2.2.map L2.aN),nv (N.js.length - 1 - k),nv p.1,nv p.2,nv (juU (u::us') S.2.1 S.2.2).1,.un]) (λM3 hM3=>⟨S.1.map natsD,p.1,_,rfl,rfl,rfl,by rw[im];omega,?_,?_⟩) ?_
   ·rw[kA];have:=I.u _ (bI (show p.1<S.1.length by omega));omega
   ·have:=hM3 _ rfl;rw[<- fX]at this;exact this
   rintro _ rfl;refine cutS (λρ=>ρ=[.vl (netD N),nv N.m,.vl (.tup (N.js.map L2.aN)),.vl (.tup (natsD N.os)),.ll ((app (app S.1 p.1 (juU (u::us') S.2.1 S.2.2).1) p.2 (juU (u::us') S.2.1 S.2.2).1).map natsD),.ow (natsD (juU (u::us') S.2.1 S.2.2).2.1),.ow ((juU (u::us') S.2.1 S.2.2).2.2.map L2.aN),nv (N.js.length - 1 - k),nv p.1,nv p.2,nv (juU (u::us') S.2.1 S.2.2).1,.un]) (λM3 hM3=>⟨(app S.1 p.1 (juU (u::us') S.2.1 S.2.2).1).map natsD,p.2,nD (juU (u::us') S.2.1 S.2.2).1,rfl,rfl,rfl,by rw[im,dM];omega,?_,?_⟩) ?_
   ·rw[kA];rcases lW (bI (show p.2<(app S.1 p.1 (juU (u::us') S.2.1 S.2.2).1).length by rw[dM];omega))with z | ⟨z,e⟩
    ·have:=I.u _ z;omega
    ·have:=I.u _ z;rw[e,pc,xL];omega
   ·have:=hM3 _ rfl;rw[<- fX]at this;exact this
   rintro _ rfl;refine hM2 _ ⟨by omega,by omega,nv (N.js.length - 1 - k),nv p.1,nv p.2,nv (juU (u::us') S.2.1 S.2.2).1,rfl,?_⟩;rw[hnx]
  ·rw[AN,bL,im]at e ki;exact hM ρ ⟨ki,s7,s8,s9,s10,h1,e⟩
 rintro _ ⟨ji,s7,s8,s9,s10,hsv,rfl⟩;have I:=dA hN N.js.length (lm _) λi' h=>pre i' (by omega);obtain⟨j,rfl⟩:∃j,i=N.js.length+j:=⟨i - N.js.length,by omega⟩
 have et:thg N (N.js.length+j)=N.m - 1 - j:=by unfold thg;omega
 rw[gi]at hE;refine⟨_,rfl,sv4 N _ _ ?_,dm _,?_⟩
 ·show svNs [s7,s8,s9,s10,.un]=true;have h0:=bG 0 hsv;have h1:=bG 1 hsv;have h2:=bG 2 hsv;have h3:=bG 3 hsv;show(svN s7&&(svN s8&&(svN s9&&(svN s10&&true))))=true;rw[show svN s7=true from h0,show svN s8=true from h1,show svN s9=true from h2,show svN s10=true from h3];rfl
 refine⟨⟨by omega,by omega⟩,?_⟩;refine⟨by rw[eL];omega,?_⟩;refine kD (λk acc ρ=>k<=j/\acc=natsD (tgAt N k).1/\ρ=[.vl (netD N),nv N.m,.vl (.tup (N.js.map L2.aN)),.vl (.tup (natsD N.os)),.vl (llD ((tuAt N N.js.length).1.map natsD)),.ow (natsD (tgAt N k).2.1),.ow ((tgAt N k).2.2.map L2.aN),s7,s8,s9,s10,.un]) (λ_ _ _ _=>trivial) ?_ (λacc ρ ⟨h,_⟩=>by rw[eL]at h;omega) _ ⟨zS _,rfl,rfl⟩;rintro k d acc _ M2 hk ⟨kj,rfl,rfl⟩ hM2;obtain⟨lk,rfl⟩:=lN hk;have lk:k<N.m:=by omega
 obtain⟨g1,g2,g3,g4⟩:=kW hN k (by omega) λi' h=>pre i' (by omega)
 have lt:N.m - 1 - k<(tuAt N N.js.length).1.length:=by rw[I.l];omega
 have hmem:=bI lt;have hat:=qN lt;have hU:=I.u _ hmem;have hR:=I.r _ hmem;have ec:((N.m:Int) - 1 - (k:Int))=((N.m - 1 - k:Nat):Int):=by omega
 refine gaN1 ?_;rw[ec];by_cases kc:k=j
 ·subst kc;unfold stOk at hno;rw[gi,gK]at hno;obtain⟨u,us',hus⟩:=zU hE;rw[hus]at hno hR hU;rw[zK]at hU;refine .inr (j9 rfl hat ?_);rw[hus];refine⟨rfl,N.m - 1 - k,u,us',(tgAt N k).2.1,(tgAt N k).2.2,rfl,by omega,λx hx=>nw (hR x hx) g3,λz=>hno ⟨by simp,z⟩,by omega,by omega,λR' M'=>?_⟩;rw[<- et];exact⟨_,rfl,rfl,sv4 N _ _ (by show(svN s7&&(svN s8&&(svN s9&&(svN s10&&true))))=true;rw[show svN s7=true from bG 0 hsv,show svN s8=true from bG 1 hsv,show svN s9=true from bG 2 hsv,show svN s10=true from bG 3 hsv];rfl),⟨_,rfl,rfl⟩,⟨_,rfl⟩,hq⟩
 have okg:=pre (N.js.length+k) (by omega);unfold stOk at okg;rw[gi,gK]at okg;have ht:tgAt N (k+1)=((tgAt N k).1++[(juU ((tuAt N N.js.length).1.getD (N.m - 1 - k) []) (tgAt N k).2.1 (tgAt N k).2.2).1],(juU ((tuAt N N.js.length).1.getD (N.m - 1 - k) []) (tgAt N k).2.1 (tgAt N k).2.2).2.1,(juU ((tuAt N N.js.length).1.getD (N.m - 1 - k) []) (tgAt N k).2.1 (tgAt N k).2.2).2.2):=by rw[tgAt]
 generalize hus:(tuAt N N.js.length).1.getD (N.m - 1 - k) []=us at *;obtain⟨u,us',rfl⟩:=zU okg.1;have hj2:=okg.2;rw[zK]at hU;refine .inl (j9 rfl hat ⟨rfl,N.m - 1 - k,u,us',(tgAt N k).2.1,(tgAt N k).2.2,rfl,λx hx=>nw (hR x hx) g3,hj2,by omega,by omega,?_⟩);refine hM2 _ _ ⟨by omega,?_,?_⟩
 ·rw[ht];show natsD (tgAt N k).1++[nD _]=natsD ((tgAt N k).1++[_]);rw[bV];rfl
 ·rw[ht];rfl
end
noncomputable def okB (N:Net)(i:Nat):Bool:=@decide (stOk N i) (Ea _)
theorem oq {N:Net}{i:Nat}:okB N i=true↔stOk N i:=by
 unfold okB;exact @decide_eq_true_iff _ (Ea _)
noncomputable def fstT (N:Net):Option Nat:=(wr (N.js.length+N.m)).find? λi=>!okB N i
theorem lH {N:Net}{i:Nat}(h:fstT N=some i):i<N.js.length+N.m/\(∀i',i'<i->stOk N i')/\¬stOk N i:=by
 unfold fstT at h;obtain⟨h1,j,hj,rfl,h2⟩:=List.find?_eq_some_iff_getElem.mp h;rw[B8]at hj;rw[FC]at h1 ⊢;refine⟨hj,λi' hi=>?_,λz=>?_⟩
 ·have:=h2 i' hi;rw[FC,Bool.not_not]at this;exact oq.mp this
 ·rw[oq.mpr z]at h1;cases h1
theorem lI {N:Net}(h:fstT N=none):∀i,i<N.js.length+N.m->stOk N i:=λi hi=>by
 unfold fstT at h;have:=FD.mp h i (Ah.mpr hi);cases z:okB N i with
 | true=>exact oq.mp z
 | false=>rw[z]at this;exact absurd rfl this
theorem jG:∀xs:List Nat,depths (natsD xs)<=1
 | []=>by simp[natsD,depths]
 | x::xs=>by
  have:=jG xs;unfold natsD at this ⊢;rw[wl];simp only[depths,D.depth];omega
theorem uP (n:Nat)(xs:List Nat):inD (nD n) (natsD xs)=xs.contains n:=by
 unfold inD natsD;rw[EJ];induction xs with
 | nil=>rfl
 | cons x xs ih =>
  rw[Bj,B0,ih];congr 1;show eqD (nD x) (nD n)=(n==x)
  unfold eqD;show decide ((x:Int)=(n:Int))=(n==x)
  by_cases h:n=x
  ·subst h;simp
  ·have:¬((x:Int)=(n:Int)):=by omega
   simp[h,this]
theorem yI {neg:Bool}{r2:R}{ρ:En}{q:Ko}{xs:List Nat}{n:Nat}(hv:view ρ r2=some (.lst (natsD xs)))(hq:q (.d (.bl (if neg then !xs.contains n else xs.contains n))) ρ):gIn neg (.d (nD n)) r2 ρ q:=by
 unfold gIn;have e1:view ρ (.d (nD n))=some (nD n):=rfl;rw[e1,hv];refine⟨⟨rfl,A8.mpr λd hd=>?_⟩,?_⟩
 ·obtain⟨x,_,rfl⟩:=Bh.mp hd;rfl
 ·rw[uP];exact hq
section
variable {n:Nat}{js:List Nat}{c:En->Prop}{g:AG}{tc:AT}{te:AE}{q:List D->En->Prop}
theorem mW {α:Type}(h:α->D)(p:α->Bool)(f:α->D){xs:List α}{ρ:En}(hc:c ρ)(hs:∀x acc (N:List D->En->Prop),x∈xs->N (if p x=true then acc++[f x]else acc) ρ->vX n js g tc te ρ (h x) acc N)
  (hd:q ((xs.filter p).map f) ρ):eP n js c g tc te q (xs.map h) [] ρ:=by
 refine dJ (λk acc ρ'=>ρ'=ρ/\acc=((xs.take k).filter p).map f) (λk acc ρ' _ h=>h.1▸hc) ?_ ?_ ρ ⟨rfl,rfl⟩
 ·rintro k d acc _ N hk ⟨rfl,rfl⟩ hN;rw[lw]at hk;obtain⟨x,e1,rfl⟩:=wT.mp hk;refine hs x _ N (wp e1) (hN _ _ ⟨rfl,?_⟩);rw[Bb,e1,CC,AU,zW];cases hp:p x <;> simp[hp]
 ·rintro acc _ ⟨rfl,rfl⟩;rw[im,AW];exact hd
end
def stM (N:Net)(i:Nat):List (Nat×Nat):=if i<N.js.length then(tuAt N i).2.2 else(tgAt N (i - N.js.length)).2.2
def stJ (N:Net)(i:Nat):Nat×List Nat×List (Nat×Nat):=juU (stU N i) (stR N i) (stM N i)
def stG (N:Net)(i:Nat):Nat:=(stJ N i).1
theorem pj {N:Net}{i:Nat}(h:i<N.js.length):stM N i=(tuAt N i).2.2:=if_pos h
theorem km {N:Net}(k:Nat):stM N (N.js.length+k)=(tgAt N k).2.2:=by
 unfold stM;rw[if_neg (by omega),C1]
theorem vh {N:Net}{i:Nat}(h:i<N.js.length):stJ N i=juU ((tuAt N i).1.getD (N.m+(N.js.length - 1 - i)) []) (tuAt N i).2.1 (tuAt N i).2.2:=by
 unfold stJ;rw[gh h,iA h,pj h]
theorem vi {N:Net}(k:Nat):stJ N (N.js.length+k)=juU ((tuAt N N.js.length).1.getD (N.m - 1 - k) []) (tgAt N k).2.1 (tgAt N k).2.2:=by
 unfold stJ;rw[gi,gK,km]
theorem we {N:Net}(i:Nat):stR N (i+1)=(stJ N i).2.1/\stM N (i+1)=(stJ N i).2.2:=by
 rcases sK i N.js.length with h | h
 ·rw[vh h];rcases sK (i+1) N.js.length with h2 | h2
  ·rw[iA h2,pj h2];exact⟨rfl,rfl⟩
  ·have e:i+1=N.js.length+0:=by omega
   have e2:N.js.length=i+1:=by omega
   constructor
   ·rw[e,gK];show(tuAt N N.js.length).2.1=_;conv=>lhs;rw[e2]
    rfl
   ·rw[e,km];show(tuAt N N.js.length).2.2=_;conv=>lhs;rw[e2]
    rfl
 ·obtain⟨k,rfl⟩:∃k,i=N.js.length+k:=⟨i - N.js.length,by omega⟩
  rw[vi,EF,gK,km];exact⟨rfl,rfl⟩
theorem wd {N:Net}:stR N 0=aJ N.os.length/\stM N 0=[]:=by
 rcases sK 0 N.js.length with h | h
 ·rw[iA h,pj h];exact⟨rfl,rfl⟩
 ·have e:N.js.length=0:=by omega
  have e2:(0:Nat)=N.js.length+0:=by omega
  constructor
  ·conv=>lhs;rw[e2]
   rw[gK];show(tuAt N N.js.length).2.1=_;rw[e];rfl
  ·conv=>lhs;rw[e2]
   rw[km];show(tuAt N N.js.length).2.2=_;rw[e];rfl
theorem vO {U:List (List Nat)}{a g t:Nat}(h:t<U.length):(app U a g).getD t []=if t=a then U.getD t []++[g]else U.getD t []:=by
 unfold app;rw[bi];by_cases e:t=a
 ·subst e;rw[Ap h,if_pos rfl];rfl
 ·rw[zn (AB e),if_neg e,bi]
def inJ (N:Net)(t k:Nat):Bool:=t==(N.js.getD (N.js.length - 1 - k) (0,0)).1||t==(N.js.getD (N.js.length - 1 - k) (0,0)).2
theorem kQ (N:Net):∀k,(tuAt N k).1.length=N.m+N.js.length
 | 0=>by show(eE N).length=_;simp[eE]
 | k+1=>by
  show(app (app _ _ _) _ _).length=_;rw[dM,dM];exact kQ N k
theorem vY {N:Net}(hN:cf N){t:Nat}(ht:t<N.m+N.js.length):∀k,k<=N.js.length->(tuAt N k).1.getD t []=usO N.os t++((wr k).filter (inJ N t)).map (stG N)
 | 0,_=>by
  show(eE N).getD t []=_;unfold eE;rw[bi,lw,Af ht];show _=usO N.os t++[]
  rw[Bo];rfl
 | k+1,hk=>by
  have ih:=vY hN ht k (by omega);have lt:N.js.length - 1 - k<N.js.length:=by omega
  have ep:N.js[N.js.length - 1 - k]? = some (N.js.getD (N.js.length - 1 - k) (0,0)):=by rw[bi,bv lt];rfl
  have ix:=(cq (dF hN.js) ep).1;have eg:stG N k=(juU ((tuAt N k).1.getD (N.m+(N.js.length - 1 - k)) []) (tuAt N k).2.1 (tuAt N k).2.2).1:=by unfold stG;rw[vh (by omega)]
  rw[A4,AU,zW,<- DK,<- ih];show(app (app _ _ _) _ _).getD t []=_;rw[vO (by rw[dM,kQ];exact ht),vO (by rw[kQ];exact ht),<- eg,Cj,Cp];unfold inJ;generalize N.js.getD (N.js.length - 1 - k) (0,0)=p at *;by_cases e1:t=p.1
  ·have e2:t≠p.2:=by omega
   rw[if_neg e2,if_pos e1,show(t==p.1)=true from beq_iff_eq.mpr e1];rfl
  ·by_cases e2:t=p.2
   ·rw[if_pos e2,if_neg e1,show(t==p.1)=false from beq_eq_false_iff_ne.mpr e1,show(t==p.2)=true from beq_iff_eq.mpr e2];rfl
   ·rw[if_neg e2,if_neg e1,show(t==p.1)=false from beq_eq_false_iff_ne.mpr e1,show(t==p.2)=false from beq_eq_false_iff_ne.mpr e2];show _=_++[]
    rw[Bo]
theorem i5 {N:Net}(hN:cf N){i:Nat}(h:i<N.js.length+N.m):stU N i=usO N.os (thg N i)++((wr (min i N.js.length)).filter (inJ N (thg N i))).map (stG N):=by
 have ht:thg N i<N.m+N.js.length:=by unfold thg;omega
 rcases sK i N.js.length with q | q
 ·have e:N.m+(N.js.length - 1 - i)=thg N i:=by unfold thg;omega
  rw[gh q,e,vY hN ht i (by omega),AR (Am q)]
 ·obtain⟨k,rfl⟩:∃k,i=N.js.length+k:=⟨i - N.js.length,by omega⟩
  have e:N.m - 1 - k=thg N (N.js.length+k):=by unfold thg;omega
  rw[gi,e,vY hN ht _ (lm _),A9 (by omega)]
theorem ve (N:Net):∀k,(tgAt N k).1=(wr k).map λj=>stG N (N.js.length+j)
 | 0=>rfl
 | k+1=>by
  rw[A4,zW,<- ve N k];show _++[_]=_++[stG N (N.js.length+k)]
  unfold stG;rw[vi]
theorem xO (N:Net):(tgAt N N.m).1.reverse=(wr N.m).map λt=>stG N (N.m+N.js.length - 1 - t):=by
 apply B_;intro t;rw[ve];rcases sK t N.m with h | h
 ·rw[BJ (by simpa using h),lw,lw,Af h,im,B8,Af (by omega)];show some (stG N (N.js.length+(N.m - 1 - t)))=some (stG N (N.m+N.js.length - 1 - t));rw[show N.js.length+(N.m - 1 - t)=N.m+N.js.length - 1 - t by omega]
 ·rw[Ab (by simpa using h),Ab (by simpa using h)]
theorem vg {N:Net}(hN:cf N){i:Nat}(hi:i<N.js.length+N.m)(pre:∀i',i'<i->stOk N i'):(∀x∈stU N i,x<(stR N i).length)/\(stR N i).length=N.os.length+(stM N i).length/\(stM N i).length<=300*i/\(stU N i).length<=300:=by
 have jl:=hN.jl;rcases sK i N.js.length with h | h
 ·have I:=dA hN i (Am h) pre;have lt:N.m+(N.js.length - 1 - i)<(tuAt N i).1.length:=by rw[I.l];omega
  have hm:=bI lt;rw[gh h,iA h,pj h];exact⟨I.r _ hm,I.rl,I.ml,by have:=I.u _ hm;omega⟩
 ·obtain⟨k,rfl⟩:∃k,i=N.js.length+k:=⟨i - N.js.length,by omega⟩
  have I:=dA hN N.js.length (lm _) λi' h'=>pre i' (by omega);obtain⟨a,b,c,d⟩:=kW hN k (by omega) λi' h'=>pre i' h'
  have lt:N.m - 1 - k<(tuAt N N.js.length).1.length:=by rw[I.l];omega
  have hm:=bI lt;rw[gi,gK,km];exact⟨λx hx=>nw (I.r _ hm x hx) c,a,b,by have:=I.u _ hm;omega⟩
theorem mB (xs ys:List Nat):natsD (xs++ys)=natsD xs++natsD ys:=by unfold natsD;rw[zW]
def mT (C:List (Nat->Nat))(p:Nat×Nat):List (Nat->Nat):=C++[λg=>C.getD p.1 (λ_=>0) g+C.getD p.2 (λ_=>0) g]
def cown (m:Nat):List (Nat->Nat):=(wr m).map λi g=>if g=i then 1 else 0
def cnt (m:Nat)(js:List (Nat×Nat))(t:Nat):Nat->Nat:=(js.foldl mT (cown m)).getD t λ_=>0
theorem mS (C:List (Nat->Nat))(p:Nat×Nat):(mT C p).length=C.length+1:=by simp[mT]
theorem vK (js:List (Nat×Nat)):∀C:List (Nat->Nat),(js.foldl mT C).length=C.length+js.length:=by
 induction js with
 | nil=>intro C;rfl
 | cons p r ih=>intro C;rw[Bd,ih,mS,zK];omega
theorem lO (m:Nat):(cown m).length=m:=by simp[cown]
theorem xw {C X:List (Nat->Nat)}{t:Nat}(h:t<C.length):(C++X).getD t (λ_=>0)=C.getD t λ_=>0:=by
 rw[bi,Aj h,<- bi]
theorem tQ:∀(js:List (Nat×Nat)) {C:List (Nat->Nat)} {t:Nat},t<C.length->(js.foldl mT C).getD t (λ_=>0)=C.getD t λ_=>0
 | [],_,_,_=>rfl
 | p::r,C,t,h=>by
  rw[Bd,tQ r (by rw[mS];omega)];exact xw h
theorem ir {m:Nat}{js xs:List (Nat×Nat)}{t:Nat}(h:t<m+js.length):cnt m (js++xs) t=cnt m js t:=by
 unfold cnt;rw[Br,tQ xs (by rw[vK,lO];exact h)]
theorem gF {m t:Nat}(js:List (Nat×Nat))(h:t<m)(g:Nat):cnt m js t g=if g=t then 1 else 0:=by
 unfold cnt;rw[tQ js (by rw[lO];exact h)];unfold cown;rw[bi,lw,Af h];rfl
theorem qX (C:List (Nat->Nat))(p:Nat×Nat)(g:Nat):(mT C p).getD C.length (λ_=>0) g=C.getD p.1 (λ_=>0) g+C.getD p.2 (λ_=>0) g:=by
 unfold mT;rw[bi,AJ (lm _),Nat.sub_self];rfl
theorem lQ (m:Nat)(js:List (Nat×Nat))(p:Nat×Nat)(g:Nat):cnt m (js++[p]) (m+js.length) g=cnt m js p.1 g+cnt m js p.2 g:=by
 have:=qX (js.foldl mT (cown m)) p g;rw[vK,lO]at this;unfold cnt;rw[Br];exact this
theorem kE {m:Nat}{js:List (Nat×Nat)}{j:Nat}{p:Nat×Nat}(hix:okIx m js)(e:js[j]? = some p)(g:Nat):cnt m js (m+j) g=cnt m js p.1 g+cnt m js p.2 g:=by
 have lt:=(kt.mp e).1;obtain⟨h1,h2⟩:=cq hix e;have hs:js=(js.take j++[p])++js.drop (j+1):=by
  have:=BG (j+1) js;rw[Bb,e]at this;exact this.symm
 have hl:(js.take j).length=j:=by rw[Az];omega
 have a:cnt m js (m+j) g=cnt m (js.take j++[p]) (m+(js.take j).length) g:=by
  rw[hl];conv=>lhs;rw[hs]
  rw[ir (by rw[pc,xL,hl];omega)]
 have b:∀t,t<m+j->cnt m js t=cnt m (js.take j) t:=λt ht=>by
  conv=>lhs;rw[<- BG j js]
  rw[ir (by rw[hl];exact ht)]
 rw[a,lQ,b p.1 (by omega),b p.2 h2]
theorem fq {m:Nat}{js:List (Nat×Nat)}(hix:okIx m js){C:Nat->Prop}(h0:∀t,t<m->C t)(h1:∀j p,js[j]? = some p->p.1<p.2->p.2<m+j->C p.1->C p.2->C (m+j)):∀t,t<m+js.length->C t:=by
 have go:∀n t,t<n->t<m+js.length->C t:=by
  intro n;induction n with
  | zero=>intro t h _;omega
  | succ n ih =>
   intro t h hl;rcases sK t m with q | q
   ·exact h0 t q
   ·obtain⟨j,rfl⟩:∃j,t=m+j:=⟨t - m,by omega⟩
    have lt:j<js.length:=by omega
    have e:js[j]? = some js[j]:=bv lt;obtain⟨a,b⟩:=cq hix e;exact h1 j _ e a b (ih _ (by omega) (by omega)) (ih _ (by omega) (by omega))
 exact λt h=>go _ t (C0 t) h
theorem oV {m:Nat}{js:List (Nat×Nat)}(hix:okIx m js):∀t,t<m+js.length->∃g,g<m/\1<=cnt m js t g:=by
 refine fq hix (λt h=>⟨t,h,by rw[gF js h,if_pos rfl];exact lm 1⟩) λj p e _ _ ⟨g,hg,h⟩ _=>⟨g,hg,by rw[kE hix e];omega⟩
theorem lR {m:Nat}{js:List (Nat×Nat)}(hix:okIx m js){g:Nat}(hg:m<=g):∀t,t<m+js.length->cnt m js t g=0:=by
 refine fq hix (λt h=>by rw[gF js h,if_neg (by omega)]) λj p e _ _ h1 h2=>by rw[kE hix e,h1,h2]
def nt (m:Nat)(js:List (Nat×Nat)):Net:=⟨m,js,[]⟩
theorem eQ {m:Nat}{js:List (Nat×Nat)}(hix:okIx m js)(g:Nat):∀t,t<m+js.length->((js.foldl aF (aJ m)).getD t 0).testBit g=decide (cnt m js t g % 2=1):=by
 refine fq hix (λt h=>?_) λj p e h1 h2 c1 c2=>?_
 ·rw[show(js.foldl aF (aJ m)).getD t 0=1 <<< t from mf (N:=nt m js) h,gF js h,Cb,Dx];by_cases q:t=g
  ·subst q;simp
  ·rw[if_neg (λz=>q z.symm),decide_eq_false q];rfl
 ·have:=pA (N:=nt m js) hix e;rw[show(js.foldl aF (aJ m)).getD (m+j) 0=(js.foldl aF (aJ m)).getD p.1 0 ^^^ (js.foldl aF (aJ m)).getD p.2 0 from this,BZ,c1,c2,kE hix e];rcases z5 (cnt m js p.1 g)with a | a <;> rcases z5 (cnt m js p.2 g)with b | b <;> rw[Nat.add_mod,a,b] <;> rfl
def Cl (m:Nat)(js:List (Nat×Nat)):Prop:=∀t,t<m+js.length->∀g,cnt m js t g<=1
theorem and0 {a b:Nat}:a &&& b=0↔∀i,a.testBit i=true->b.testBit i=false:=by
 constructor
 ·intro h i hi;have:=congrArg (Fl · i) h;simp only[Cw,hi,BX,Bk]at this;exact this
 ·intro h;apply Bs;intro i;rw[Cw,Bk];cases c:a.testBit i with
  | false=>rfl
  | true=>rw[h i c];rfl
theorem iW {N:Net}(hix:okIx N.m N.js):jL N=true↔Cl N.m N.js:=by
 unfold jL;rw[A8];constructor
 ·intro h t ht g;refine fq (C:=λt=>cnt N.m N.js t g<=1) hix (λt h=>?_) (λj p e h1 h2 c1 c2=>?_) t ht
  ·rw[gF _ h];split <;> omega
  ·have lt:=(kt.mp e).1;have z:=and0.mp (beq_iff_eq.mp (h p (wp e))) g;rw[show cU N=N.js.foldl aF (aJ N.m)from rfl,eQ hix g _ (by omega),eQ hix g _ (by omega)]at z;rw[kE hix e];have:=λh=>of_decide_eq_false (z (decide_eq_true h));omega
 ·intro h p hp;obtain⟨j,e⟩:=Cm hp;have lt:=(kt.mp e).1;obtain⟨h1,h2⟩:=cq hix e;rw[beq_iff_eq,and0];intro g;rw[show cU N=N.js.foldl aF (aJ N.m)from rfl,eQ hix g _ (by omega),eQ hix g _ (by omega)];intro a;have a:=of_decide_eq_true a;have:=h (N.m+j) (by omega) g;rw[kE hix e]at this;exact decide_eq_false (by omega)
def sm (f:Nat->Nat):Nat->Nat
 | 0=>0
 | L+1=>sm f L+f L
theorem eI {f h:Nat->Nat}:∀ {L:Nat},(∀t,t<L->f t=h t)->sm f L=sm h L
 | 0,_=>rfl
 | L+1,e=>by
  show sm f L+f L=sm h L+h L;rw[eI λt ht=>e t (by omega),e L (by omega)]
theorem i7 (f h:Nat->Nat):∀L,sm (λt=>f t+h t) L=sm f L+sm h L
 | 0=>rfl
 | L+1=>by
  show sm (λt=>f t+h t) L+(f L+h L)=(sm f L+f L)+(sm h L+h L)
  rw[i7 f h L];omega
theorem iB (a y:Nat):∀L,sm (λt=>if t=a then y else 0) L=if a<L then y else 0
 | 0=>by rw[if_neg (Cy a)];rfl
 | L+1=>by
  show sm _ L+(if L=a then y else 0)=_;rw[iB a y L];by_cases h:L=a
  ·rw[if_pos h,if_neg (by omega),if_pos (by omega)];omega
  ·rw[if_neg h];by_cases h2:a<L
   ·rw[if_pos h2,if_pos (by omega),E3]
   ·rw[if_neg h2,if_neg (by omega)]
theorem wj {f:Nat->Nat}:∀ {L t:Nat},t<L->f t<=sm f L
 | 0,_,h=>absurd h (Cy _)
 | L+1,t,h=>by
  show f t<=sm f L+f L;rcases sK t L with q | q
  ·have:=wj (f:=f) q;omega
  ·rw[show t=L by omega];omega
theorem xW (f:Nat->Nat):∀L,sm (λi=>f (L - 1 - i)) L=sm f L:=by
 have sh:∀(h:Nat->Nat) L,sm h (L+1)=h 0+sm (λi=>h (i+1)) L:=by
  intro h L;induction L with
  | zero=>show 0+h 0=h 0+0;omega
  | succ L ih=>show sm h (L+1)+h (L+1)=h 0+(sm (λi=>h (i+1)) L+h (L+1));rw[ih];omega
 intro L;induction L with
 | zero=>rfl
 | succ L ih =>
  rw[sh];show f (L+1 - 1 - 0)+_=sm f L+f L;rw[show sm (λi=>f (L+1 - 1 - (i+1))) L=sm (λi=>f (L - 1 - i)) L from eI λt ht=>by congr 1;omega,ih,FQ,DN];omega
def ls:List Nat->Nat
 | []=>0
 | x::xs=>x+ls xs
theorem pS:∀xs ys:List Nat,ls (xs++ys)=ls xs+ls ys
 | [],ys=>by show ls ys=0+ls ys;omega
 | x::xs,ys=>by show x+ls (xs++ys)=x+ls xs+ls ys;rw[pS xs ys];omega
def wgt (N:Net):Nat->Nat->Nat->Nat
 | 0,t,p=>if N.os.getD p 0=t then 1 else 0
 | k+1,t,p=>wgt N k t p+if inJ N t k=true then wgt N k (N.m+(N.js.length - 1 - k)) p else 0
theorem uM {N:Net}(hN:cf N){k:Nat}(hk:k<N.js.length):∃q,N.js.getD (N.js.length - 1 - k) (0,0)=q/\N.js[N.js.length - 1 - k]? = some q/\q.1<q.2/\q.2<N.m+(N.js.length - 1 - k):=by
 have lt:N.js.length - 1 - k<N.js.length:=by omega
 have ep:N.js[N.js.length - 1 - k]? = some (N.js.getD (N.js.length - 1 - k) (0,0)):=by rw[bi,bv lt];rfl
 have ix:=cq (dF hN.js) ep;rw[bu]at ix;exact⟨_,rfl,ep,ix.1,ix.2⟩
theorem sX {N:Net}{k t:Nat}{q:Nat×Nat}(e:N.js.getD (N.js.length - 1 - k) (0,0)=q)(h:q.1<q.2)(y:Nat):(if inJ N t k=true then y else 0)=(if t=q.1 then y else 0)+if t=q.2 then y else 0:=by
 unfold inJ;rw[e];by_cases h1:t=q.1
 ·rw[if_pos (show(t==q.1||t==q.2)=true by rw[beq_iff_eq.mpr h1];rfl),if_pos h1,if_neg (by omega),E3]
 ·by_cases h2:t=q.2
  ·rw[if_pos (show(t==q.1||t==q.2)=true by rw[beq_iff_eq.mpr h2,CF]),if_neg h1,if_pos h2,Ba]
  ·rw[if_neg (show ¬(t==q.1||t==q.2)=true by rw[beq_eq_false_iff_ne.mpr h1,beq_eq_false_iff_ne.mpr h2];decide),if_neg h1,if_neg h2]
theorem il {N:Net}(hN:cf N):okIx N.m N.js:=by have:=dF hN.js;rwa [bu]at this
theorem kM {N:Net}(hN:cf N){p:Nat}(hp:p<N.os.length)(g:Nat):∀k,k<=N.js.length->sm (λt=>wgt N k t p*cnt N.m N.js t g) (N.m+N.js.length - k)=cnt N.m N.js (N.os.getD p 0) g
 | 0,_=>by
  have ho:N.os.getD p 0<N.m+N.js.length:=hN.os _ (by rw[bi,bv hp];exact Au hp);rw[show(λt=>wgt N 0 t p*cnt N.m N.js t g)=λt=>if t=N.os.getD p 0 then cnt N.m N.js (N.os.getD p 0) g else 0 from ?_,iB,if_pos (by omega)];funext t;show(if N.os.getD p 0=t then 1 else 0)*_=_;by_cases h:t=N.os.getD p 0
  ·rw[if_pos h.symm,if_pos h,h,G4]
  ·rw[if_neg (λz=>h z.symm),if_neg h,EZ]
 | k+1,hk=>by
  obtain⟨q,eq,ep,q1,q2⟩:=uM hN (k:=k) (by omega);rw[<- kM hN hp g k (by omega),show N.m+N.js.length - k=N.m+(N.js.length - 1 - k)+1 by omega,show N.m+N.js.length - (k+1)=N.m+(N.js.length - 1 - k)by omega];show _=sm _ _+wgt N k (N.m+(N.js.length - 1 - k)) p*cnt N.m N.js (N.m+(N.js.length - 1 - k)) g;rw[kE (il hN) ep,Nat.mul_add];have e:∀t,wgt N (k+1) t p*cnt N.m N.js t g=wgt N k t p*cnt N.m N.js t g+((if t=q.1 then wgt N k (N.m+(N.js.length - 1 - k)) p*cnt N.m N.js q.1 g else 0)+if t=q.2 then wgt N k (N.m+(N.js.length - 1 - k)) p*cnt N.m N.js q.2 g else 0):=λt=>by
   show(wgt N k t p+if inJ N t k=true then _ else 0)*_=_;rw[sX eq q1,G8,G8];congr 2
   ·split
    ·rename_i h;rw[h]
    ·rw[EZ]
   ·split
    ·rename_i h;rw[h]
    ·rw[EZ]
  rw[eI λt _=>e t,i7,i7,iB,iB,if_pos (by omega),if_pos q2]
theorem vQ {N:Net}(hN:cf N){p g:Nat}(hp:p<N.os.length)(hg:g<N.m):wgt N N.js.length g p=cnt N.m N.js (N.os.getD p 0) g:=by
 rw[<- kM hN hp g _ (lm _),FQ];rw[eI (h:=λt=>if t=g then wgt N N.js.length g p else 0) λt ht=>?_,iB,if_pos hg];rw[gF _ ht];by_cases h:t=g
 ·rw[if_pos h,if_pos h.symm,h,G5]
 ·rw[if_neg h,if_neg (λz=>h z.symm),Nat.mul_zero]
theorem vc {N:Net}(t p:Nat):∀K,K<=N.js.length->wgt N K t p=(if N.os.getD p 0=t then 1 else 0)+ls (((wr K).filter (inJ N t)).map λk=>wgt N k (thg N k) p)
 | 0,_=>rfl
 | K+1,h=>by
  show wgt N K t p+(if inJ N t K=true then wgt N K (N.m+(N.js.length - 1 - K)) p else 0)=_;rw[vc t p K (by omega),A4,AU,zW,pS,EF];congr 2;rw[Cj,Cp];have e:N.m+(N.js.length - 1 - K)=thg N K:=by unfold thg;omega
  split
  ·rw[e];show _=wgt N K (thg N K) p+0;omega
  ·rfl
theorem vS {os:List Nat}{t p:Nat}(hp:p<os.length)(c:Nat->Nat)(hc:∀u,u<os.length->c u=if p=u then 1 else 0):ls ((usO os t).map c)=if os.getD p 0=t then 1 else 0:=by
 have go:∀K,K<=os.length->ls ((usP os K t).map c)=if p<K/\os.getD p 0=t then 1 else 0:=by
  intro K;induction K with
  | zero=>intro _;rw[if_neg (λz=>absurd z.1 (Cy p))];rfl
  | succ K ih =>
   intro hK;rw[kO,zW,pS,ih (by omega)];by_cases e:os.getD K 0=t
   ·rw[if_pos (show(os.getD K 0==t)=true from beq_iff_eq.mpr e)];show _+(c K+0)=_;rw[hc K (by omega)];by_cases q:p=K
    ·rw[if_pos q,if_neg (by omega),if_pos ⟨by omega,by rw[q];exact e⟩]
    ·rw[if_neg q];by_cases z:p<K/\os.getD p 0=t
     ·rw[if_pos z,if_pos ⟨by omega,z.2⟩]
     ·rw[if_neg z,if_neg (λy=>z ⟨by omega,y.2⟩)]
   ·rw[if_neg (show ¬(os.getD K 0==t)=true by rw[beq_iff_eq];exact e)];show _+0=_;by_cases z:p<K/\os.getD p 0=t
    ·rw[if_pos z,if_pos ⟨by omega,z.2⟩]
    ·rw[if_neg z,if_neg (λy=>z ⟨by
      rcases sK p K with h | h
      ·exact h
      ·exfalso;apply e;rw[show K=p by omega];exact y.2,y.2⟩)]
 have:=go os.length (lm _);rw[show usP os os.length t=usO os t from rfl]at this;rw[this];by_cases e:os.getD p 0=t
 ·rw[if_pos ⟨hp,e⟩,if_pos e]
 ·rw[if_neg (λz=>e z.2),if_neg e]
structure Ch (n:Nat)(us:List Nat)(g:Nat)(M:List (Nat×Nat))(J:Nat×List Nat×List (Nat×Nat)):Prop where
 e:∃X,J.2.2=M++X/\X.length=us.length
 r:J.2.1=J.2.2.foldl aF (aJ n)
 ok:okJs (aJ n) J.2.2
 lt:J.1<n+J.2.2.length
 c:∀p,cnt n J.2.2 J.1 p=cnt n M g p+ls (us.map λu=>cnt n M u p)
 b:∀v,n+M.length<=v->v<n+J.2.2.length->∀p,cnt n J.2.2 v p<=cnt n J.2.2 J.1 p
 u:∀v,(v=g∨v∈us∨n+M.length<=v)->v<n+J.2.2.length->v=J.1 ∨ ∃q∈J.2.2,v=q.1∨v=q.2
theorem vJ (n:Nat)(M:List (Nat×Nat))(g u p:Nat):cnt n M (min g u) p+cnt n M (max g u) p=cnt n M g p+cnt n M u p:=by
 rcases Cd g u with h | h
 ·rw[AR h,CZ h]
 ·rw[A9 h,Dd h];omega
theorem vG {n g u:Nat}{R:List Nat}{M:List (Nat×Nat)}(hR:R=M.foldl aF (aJ n))(ok:okJs (aJ n) M)(hg:g<R.length)(hu:u<R.length)(ne:R.getD g 0≠R.getD u 0) :
  R++[R.getD g 0 ^^^ R.getD u 0]=(M++[(min g u,max g u)]).foldl aF (aJ n)/\okJs (aJ n) (M++[(min g u,max g u)]):=by
 have hl:R.length=n+M.length:=by rw[hR,cP,bu]
 refine⟨by rw[Br,Bd,Eo,rQ,<- hR],jt ok ?_ (by rw[bu];show max g u<_;omega) ?_⟩
 ·show min g u<max g u;have:g≠u:=λz=>ne (by rw[z]);omega
 ·rw[<- hR];show R.getD (min g u) 0≠R.getD (max g u) 0;rcases Cd g u with h | h
  ·rw[AR h,CZ h];exact ne
  ·rw[A9 h,Dd h];exact ne.symm
theorem yS {n:Nat}:∀(us:List Nat) {g:Nat} {R:List Nat} {M:List (Nat×Nat)},R=M.foldl aF (aJ n)->okJs (aJ n) M->g<R.length->(∀u∈us,u<R.length)->juOk us g R->Ch n us g M (juS us g R M)
 | [],g,R,M,hR,ok,hg,_,_=>by
  have hl:R.length=n+M.length:=by rw[hR,cP,bu]
  refine⟨⟨[],by rw[Bo];rfl,rfl⟩,hR,ok,by show g<n+M.length;omega,λp=>rfl,λv h1 h2=>?_,λv h h2=>?_⟩
  ·have h2:v<n+M.length:=h2;omega
  ·have h2:v<n+M.length:=h2;rcases h with h | h | h
   ·exact .inl h
   ·cases h
   ·omega
 | u::us,g,R,M,hR,ok,hg,hu,hj=>by
  have hl:R.length=n+M.length:=by rw[hR,cP,bu]
  have hu0:=hu u (z7 ..);obtain⟨hR1,ok1⟩:=vG hR ok hg hu0 hj.1;have I:=yS us (g:=R.length) hR1 ok1 (by rw[pc,xL];omega) (λu' h=>by have:=hu u' (zO _ h);rw[pc,xL];omega) hj.2;show Ch n (u::us) g M (juS us R.length (R++[R.getD g 0 ^^^ R.getD u 0]) (M++[(min g u,max g u)]));generalize juS us R.length (R++[R.getD g 0 ^^^ R.getD u 0]) (M++[(min g u,max g u)])=J at I;obtain⟨⟨X,e,el⟩,r,okJ,lt,c,b,hu'⟩:=I;have l1:(M++[(min g u,max g u)]).length=M.length+1:=by rw[pc,xL]
  have c0:∀v p,v<n+M.length->cnt n (M++[(min g u,max g u)]) v p=cnt n M v p:=λv p h=>by rw[ir h]
  have c1:∀p,cnt n (M++[(min g u,max g u)]) R.length p=cnt n M g p+cnt n M u p:=λp=>by rw[hl,lQ];exact vJ n M g u p
  have cJ:∀p,cnt n J.2.2 J.1 p=cnt n M g p+ls ((u::us).map λu=>cnt n M u p):=λp=>by
   rw[c,c1,wl];show _=_+(cnt n M u p+ls _)
   rw[show us.map (λu'=>cnt n (M++[(min g u,max g u)]) u' p)=us.map λu'=>cnt n M u' p from By λu' h=>c0 u' p (by have:=hu u' (zO _ h);omega)];omega
  have mem1:(min g u,max g u)∈J.2.2:=by rw[e];exact Bq _ (wv _ (Ac.mpr rfl))
  have gu:∀v,v=g∨v=u->v=min g u∨v=max g u:=λv h=>by omega
  refine⟨⟨(min g u,max g u)::X,by rw[e,DK];rfl,by rw[zK,zK,el]⟩,r,okJ,lt,cJ,λv h1 h2 p=>?_,λv h h2=>?_⟩
  ·rw[l1]at b;rcases sK v (n+(M.length+1))with q | q
   ·have:v=R.length:=by omega
    rw[c p,this];conv=>lhs;rw[e]
    rw[ir (by rw[l1];omega)];omega
   ·exact b v q h2 p
  ·rw[l1]at hu';rcases h with h | h | h
   ·exact .inr ⟨_,mem1,gu v (.inl h)⟩
   ·rcases wS.mp h with h | h
    ·exact .inr ⟨_,mem1,gu v (.inr h)⟩
    ·exact hu' v (.inr (.inl h)) h2
   ·rcases sK v (n+(M.length+1))with q | q
    ·exact hu' v (.inl (by omega)) h2
    ·exact hu' v (.inr (.inr q)) h2
theorem pU {n:Nat}:∀(us:List Nat) {g:Nat} {R:List Nat} {M:List (Nat×Nat)},R=M.foldl aF (aJ n)->okJs (aJ n) M->g<R.length->(∀u∈us,u<R.length)->(∀p,p<n->cnt n M g p+ls (us.map λu=>cnt n M u p)<=1)->juOk us g R
 | [],_,_,_,_,_,_,_,_=>trivial
 | u::us,g,R,M,hR,ok,hg,hu,hc=>by
  have hl:R.length=n+M.length:=by rw[hR,cP,bu]
  have hu0:=hu u (z7 ..);have ix:okIx n M:=by have:=dF ok;rwa [bu]at this
  have ne:R.getD g 0≠R.getD u 0:=λz=>by
   obtain⟨p,hp,h1⟩:=oV ix g (by omega);have h2:=hc p hp;rw[wl]at h2;have h2:cnt n M g p+(cnt n M u p+ls _)<=1:=h2;have z:=congrArg (Fl · p) z;rw[hR,eQ ix p g (by omega),eQ ix p u (by omega),show cnt n M g p=1 by omega,show cnt n M u p=0 by omega]at z;exact absurd z (by decide)
  obtain⟨hR1,ok1⟩:=vG hR ok hg hu0 ne;refine⟨ne,pU us hR1 ok1 (by rw[pc,xL];omega) (λu' h=>by have:=hu u' (zO _ h);rw[pc,xL];omega) λp hp=>?_⟩;have h2:=hc p hp;rw[wl]at h2;have h2:cnt n M g p+(cnt n M u p+ls _)<=1:=h2;rw[show us.map (λu'=>cnt n (M++[(min g u,max g u)]) u' p)=us.map λu'=>cnt n M u' p from By λu' h=>by rw[ir];have:=hu u' (zO _ h);omega,hl,lQ,vJ];omega
structure Ti (N:Net)(i:Nat):Prop where
 r:stR N i=(stM N i).foldl aF (aJ N.os.length)
 ok:okJs (aJ N.os.length) (stM N i)
 l:(stM N i).length+i=sm (λk=>(stU N k).length) i
 lt:∀k,k<i->stG N k<N.os.length+(stM N i).length
 c:∀k,k<i->∀p,p<N.os.length->cnt N.os.length (stM N i) (stG N k) p=wgt N (min k N.js.length) (thg N k) p
 b:∀v,v<N.os.length+(stM N i).length->∀p,p<N.os.length->cnt N.os.length (stM N i) v p<=1 ∨ ∃k,k<i/\cnt N.os.length (stM N i) v p<=wgt N (min k N.js.length) (thg N k) p
 u:∀v,v<N.os.length+(stM N i).length->(∃q∈stM N i,v=q.1∨v=q.2)∨(∃k,N.js.length<=k/\k<i/\v=stG N k) ∨ ∃k,i<=k/\k<N.js.length+N.m/\v∈stU N k
theorem rp {N:Net}(hN:cf N){i p:Nat}(hi:i<N.js.length+N.m)(I:Ti N i)(hp:p<N.os.length):ls ((stU N i).map λu=>cnt N.os.length (stM N i) u p)=wgt N (min i N.js.length) (thg N i) p:=by
 rw[i5 hN hi,zW,pS,vS hp _ λu hu=>gF _ hu p,vc _ _ _ (D7 _ _),AL];congr 2;refine By λk hk=>?_;have hk:=Ah.mp (Ao.mp hk).1;show cnt N.os.length (stM N i) (stG N k) p=_;rw[I.c k (by omega) p hp,AR (by omega)]
theorem s_ {N:Net}(hN:cf N){i:Nat}(hi:i<N.js.length):∃k,i+1<=k/\k<N.js.length+N.m/\stG N i∈stU N k:=by
 obtain⟨q,eq,ep,q1,q2⟩:=uM hN hi;refine⟨N.m+N.js.length - 1 - q.1,by omega,by have:=hN.m1;omega,?_⟩;rw[i5 hN (by have:=hN.m1;omega)];have et:thg N (N.m+N.js.length - 1 - q.1)=q.1:=by unfold thg;omega
 rw[et];refine wv _ (Bh.mpr ⟨i,Ao.mpr ⟨Ah.mpr (by omega),?_⟩,rfl⟩);unfold inJ;rw[eq,beq_self_eq_true];rfl
theorem v7 {N:Net}(hN:cf N):∀i,i<=N.js.length+N.m->(∀i',i'<i->stOk N i')->Ti N i
 | 0,_,_=>by
  obtain⟨z1,z2⟩:=wd (N:=N);refine⟨by rw[z1,z2];rfl,by rw[z2];trivial,by rw[z2];rfl,λk h=>absurd h (Cy k),λk h=>absurd h (Cy k),λv hv p hp=>?_,λv hv=>?_⟩
  ·rw[z2]at hv ⊢;refine .inl ?_;rw[gF _ (show v<N.os.length from hv)];split <;> omega
  ·rw[z2]at hv;have hv:v<N.os.length:=hv;have ho:N.os.getD v 0<N.m+N.js.length:=hN.os _ (by rw[bi,bv hv];exact Au hv);refine .inr (.inr ⟨N.m+N.js.length - 1 - N.os.getD v 0,zS _,by omega,?_⟩);rw[i5 hN (by omega),show thg N (N.m+N.js.length - 1 - N.os.getD v 0)=N.os.getD v 0 by unfold thg;omega];exact Bq _ (Ao.mpr ⟨Ah.mpr hv,beq_self_eq_true _⟩)
 | i+1,hi,pre=>by
  have I:=v7 hN i (by omega) λi' h=>pre i' (by omega);have ok:=pre i (by omega);have us:=λp (hp:p<N.os.length)=>rp hN (i:=i) (by omega) I hp;obtain⟨hlt,_,_,_⟩:=vg hN (i:=i) (by omega) λi' h=>pre i' (by omega)
  have hlater:=s_ hN (i:=i);obtain⟨eR,eM⟩:=we (N:=N) i;have eG:stG N i=(stJ N i).1:=rfl;have hl:(stR N i).length=N.os.length+(stM N i).length:=by rw[I.r,cP,bu]
  obtain⟨u,vs,hu⟩:=zU ok.1;have hsm:sm (λk=>(stU N k).length) (i+1)=sm (λk=>(stU N k).length) i+(vs.length+1):=by show _+(stU N i).length=_;rw[hu];rfl
  have ok2:juOk vs u (stR N i):=by have:=ok.2;rwa [hu]at this
  have hJ:stJ N i=juS vs u (stR N i) (stM N i):=by unfold stJ;rw[hu];rfl
  have hU:∀v,v∈stU N i->v=u∨v∈vs:=λv h=>by rw[hu]at h;exact wS.mp h
  rw[hu]at hlt us;have C:=yS vs I.r I.ok (hlt u (z7 ..)) (λv h=>hlt v (zO _ h)) ok2;rw[<- hJ]at C;obtain⟨⟨X,e,el⟩,r,okJ,lt,c,b,hu'⟩:=C;rw[eG]at hlater;have cX:∀v,v<N.os.length+(stM N i).length->∀p,cnt N.os.length (stJ N i).2.2 v p=cnt N.os.length (stM N i) v p:=λv h p=>by rw[e,ir h]
  have cG:∀p,p<N.os.length->cnt N.os.length (stJ N i).2.2 (stJ N i).1 p=wgt N (min i N.js.length) (thg N i) p:=λp hp=>by
   rw[c,<- us p hp];rfl
  have lJ:(stJ N i).2.2.length=(stM N i).length+vs.length:=by rw[e,pc,el]
  have fin:∀v,v=(stJ N i).1∨(∃q∈(stJ N i).2.2,v=q.1∨v=q.2)->(∃q∈(stJ N i).2.2,v=q.1∨v=q.2)∨(∃k,N.js.length<=k/\k<i+1/\v=stG N k) ∨ ∃k,i+1<=k/\k<N.js.length+N.m/\v∈stU N k:=λv h=>by
   rcases h with h | h
   ·rcases sK i N.js.length with q | q
    ·obtain⟨k,k1,k2,k3⟩:=hlater q;exact .inr (.inr ⟨k,k1,k2,by rw[h];exact k3⟩)
    ·exact .inr (.inl ⟨i,q,by omega,h⟩)
   ·exact .inl h
  refine⟨by rw[eR,eM];exact r,by rw[eM];exact okJ,?_,λk hk=>?_,λk hk p hp=>?_,λv hv p hp=>?_,λv hv=>?_⟩
  ·rw[eM,lJ,hsm,<- I.l];omega
  ·rw[eM];rcases sK k i with q | q
   ·have:=I.lt k q;omega
   ·rw[show k=i by omega];exact lt
  ·rw[eM];rcases sK k i with q | q
   ·rw[cX _ (I.lt k q),I.c k q p hp]
   ·rw[show k=i by omega];exact cG p hp
  ·rw[eM]at hv ⊢;rcases sK v (N.os.length+(stM N i).length)with q | q
   ·rw[cX v q];rcases I.b v q p hp with h | ⟨k,hk,h⟩
    ·exact .inl h
    ·exact .inr ⟨k,by omega,h⟩
   ·exact .inr ⟨i,by omega,by rw[<- cG p hp];exact b v q hv p⟩
  ·rw[eM]at hv ⊢;rcases sK v (N.os.length+(stM N i).length)with q | q
   ·rcases I.u v q with⟨z,hz,h⟩ | ⟨k,k1,k2,h⟩ | ⟨k,k1,k2,h⟩
    ·exact .inl ⟨z,by rw[e];exact Bq _ hz,h⟩
    ·exact .inr (.inl ⟨k,k1,by omega,h⟩)
    ·rcases sK i k with s | s
     ·exact .inr (.inr ⟨k,s,k2,h⟩)
     ·rw[show k=i by omega]at h;exact fin v (hu' v ((hU v h).imp id .inl) hv)
   ·exact fin v (hu' v (.inr (.inr q)) hv)
theorem g8 (xs:List Nat){p:Nat}(h:xs.length<=p):xs.getD p 0=0:=by rw[bi,Ab h];rfl
def colN (rows:List Nat)(g:Nat):Nat:=dR ((wr rows.length).filter λp=>(rows.getD p 0).testBit g)
def cV (many:Nat)(rows:List Nat):List Nat:=(wr many).map (colN rows)
theorem p9 (many:Nat)(rows:List Nat):(cV many rows).length=many:=by unfold cV;rw[im,B8]
theorem p_ {many:Nat}(rows:List Nat){g:Nat}(h:g<many):(cV many rows).getD g 0=colN rows g:=by
 unfold cV;rw[bi,lw,Af h];rfl
theorem lP (rows:List Nat)(g p:Nat):(colN rows g).testBit p=(rows.getD p 0).testBit g:=by
 unfold colN;rw[mh];have nd:((wr rows.length).filter λp=>(rows.getD p 0).testBit g).Nodup:=GR _ List.nodup_range;by_cases m:p∈(wr rows.length).filter λp=>(rows.getD p 0).testBit g
 ·rw[EL nd,if_pos m];rw[(Ao.mp m).2];rfl
 ·rw[EL nd,if_neg m];have:(rows.getD p 0).testBit g=false:=by
   by_cases lt:p<rows.length
   ·cases e:(rows.getD p 0).testBit g with
    | false=>rfl
    | true=>exact(m (Ao.mpr ⟨Ah.mpr lt,e⟩)).elim
   ·rw[g8 rows (by omega)];exact Bk g
  rw[this];rfl
theorem u0 {many:Nat}(rows:List Nat)(g:Nat):(cV many rows).getD g 0=if g<many then colN rows g else 0:=by
 by_cases h:g<many
 ·rw[if_pos h,p_ rows h]
 ·rw[if_neg h,bi,Ab (by rw[p9];omega)];rfl
theorem ky {n k:Nat}(h:∀i,k<=i->n.testBit i=false):n<2^k:=Ey n h
theorem yQ (rows:List Nat)(g:Nat):colN rows g<2^rows.length:=ky λp hp=>by
 rw[lP,g8 rows (by omega),Bk]
theorem qV {B:List Nat}{many:Nat}(h:∀x∈B,x<2^many)(j:Nat){g:Nat}(hg:many<=g):(B.getD j 0).testBit g=false:=by
 by_cases hj:j<B.length
 ·rw[bi,bv hj];exact E1 (nw (h _ (Au hj)) (Fm (by decide) hg))
 ·rw[g8 B (by omega),Bk]
theorem xt {many:Nat}{B:List Nat}(h:∀x∈B,x<2^many):cV B.length (cV many B)=B:=by
 apply B_;intro j;by_cases hj:j<B.length
 ·unfold cV;rw[lw,Af hj,bv hj];show some (colN (cV many B) j)=some B[j];congr 1;apply Bs;intro g;have e:B[j]=B.getD j 0:=by rw[bi,bv hj];rfl
  rw[lP,u0,e];by_cases hg:g<many
  ·rw[if_pos hg,lP]
  ·rw[if_neg hg,Bk,qV h j (by omega)]
 ·rw[Ab (by rw[p9];omega),Ab (by omega)]
theorem rq {os:List Nat}{L:Nat}:∀K,(∀p,p<K->os.getD p 0<L)->sm (λt=>(usP os K t).length) L=K
 | 0,_=>by
  have:∀L,sm (λt=>(usP os 0 t).length) L=0:=λL=>by
   induction L with
   | zero=>rfl
   | succ L ih=>show sm _ L+0=0;rw[ih]
  exact this L
 | K+1,h=>by
  rw[eI (h:=λt=>(usP os K t).length+if t=os.getD K 0 then 1 else 0) λt _=>?_,i7,rq K λp hp=>h p (by omega),iB,if_pos (h K (by omega))];rw[kO,pc];by_cases e:t=os.getD K 0
  ·rw[if_pos e,if_pos (show(os.getD K 0==t)=true from beq_iff_eq.mpr e.symm)];rfl
  ·rw[if_neg e,if_neg (show ¬(os.getD K 0==t)=true by rw[beq_iff_eq];exact λz=>e z.symm)];rfl
theorem sY {N:Net}(hN:cf N):∀K,K<=N.js.length->sm (λt=>((wr K).filter (inJ N t)).length) (N.js.length+N.m)=2*K
 | 0,_=>by
  have:∀L,sm (λt=>((wr 0).filter (inJ N t)).length) L=0:=λL=>by
   induction L with
   | zero=>rfl
   | succ L ih=>show sm _ L+0=0;rw[ih]
  exact this _
 | K+1,h=>by
  obtain⟨q,eq,ep,q1,q2⟩:=uM hN (k:=K) (by omega);rw[eI (h:=λt=>((wr K).filter (inJ N t)).length+((if t=q.1 then 1 else 0)+if t=q.2 then 1 else 0)) λt _=>?_,i7,i7,sY hN K (by omega),iB,iB,if_pos (by omega),if_pos (by omega)]
  ·omega
  rw[<- sX eq q1,A4,AU,pc,Cj,Cp];split <;> rfl
theorem p6 {f:Nat->Bool}{K:Nat}:∀n,(∀k,K<=k->k<K+n->f k=false)->(wr (K+n)).filter f=(wr K).filter f
 | 0,_=>rfl
 | n+1,h=>by
  rw[<- EF,A4,AU,p6 n λk h1 h2=>h k h1 (by omega),Cj,Cp,h (K+n) (by omega) (by omega)];show _++[]=_;rw[Bo]
theorem xV {N:Net}(hN:cf N){k:Nat}(hk:k<N.js.length+N.m):(stU N k).length=(usO N.os (thg N k)).length+((wr N.js.length).filter (inJ N (thg N k))).length:=by
 rw[i5 hN hk,pc,im];congr 2;obtain⟨n,hn⟩:∃n,N.js.length=min k N.js.length+n:=⟨N.js.length - min k N.js.length,by omega⟩
 have:=p6 (f:=inJ N (thg N k)) (K:=min k N.js.length) n λj h1 h2=>by
  have hj:j<N.js.length:=by omega
  obtain⟨q,eq,ep,q1,q2⟩:=uM hN hj;have e:thg N k=N.m+N.js.length - 1 - k:=rfl;unfold inJ;rw[eq,beq_eq_false_iff_ne.mpr (show thg N k≠q.1 by omega),beq_eq_false_iff_ne.mpr (show thg N k≠q.2 by omega)];rfl
 rw[<- hn]at this;exact this.symm
theorem xU {N:Net}(hN:cf N):sm (λk=>(stU N k).length) (N.js.length+N.m)=N.os.length+2*N.js.length:=by
 rw[eI (h:=λk=>(λt=>(usO N.os t).length+((wr N.js.length).filter (inJ N t)).length) (N.js.length+N.m - 1 - k)) λk hk=>?_,xW (λt=>(usO N.os t).length+((wr N.js.length).filter (inJ N t)).length),i7,sY hN _ (lm _)]
 ·have:=rq (os:=N.os) (L:=N.js.length+N.m) N.os.length λp hp=>by
   have:=hN.os (N.os.getD p 0) (by rw[bi,bv hp];exact Au hp);omega
  rw[show(λt=>(usO N.os t).length)=λt=>(usP N.os N.os.length t).length from rfl,this]
 ·rw[xV hN hk];have e:thg N k=N.js.length+N.m - 1 - k:=by unfold thg;omega
  rw[e]
abbrev fG (N:Net):List Nat:=N.os.map λo=>(cU N).getD o 0
theorem vW (N:Net):(bx N).js=stM N (N.js.length+N.m):=by rw[km];rfl
theorem vV (N:Net):(bx N).os=(wr N.m).map λt=>stG N (N.m+N.js.length - 1 - t):=xO N
theorem iy (N:Net):(bx N).m=N.os.length:=rfl
theorem lz (N:Net):(fG N).length=N.os.length:=im _
theorem sO {N:Net}{p:Nat}(hp:p<N.os.length):(fG N).getD p 0=(cU N).getD (N.os.getD p 0) 0:=by
 unfold fG;have e:N.os.getD p 0=N.os[p]:=by rw[bi,bv hp];rfl
 rw[e,bi,lw,bv hp];rfl
theorem wJ {N:Net}(hN:cf N){p:Nat}(hp:p<N.os.length):N.os.getD p 0<N.m+N.js.length:=hN.os _ (by rw[bi,bv hp];exact Au hp)
theorem wU {N:Net}(hN:cf N):∀x∈fG N,x<2^N.m:=λx hx=>by
 obtain⟨o,ho,rfl⟩:=Bh.mp hx;refine ky λi hi=>?_;rw[show cU N=N.js.foldl aF (aJ N.m)from rfl,eQ (il hN) i _ (hN.os o ho),lR (il hN) hi _ (hN.os o ho)];rfl
theorem vb {N:Net}(hN:cf N)(hc:Cl N.m N.js){k p:Nat}(hk:k<N.js.length+N.m)(hp:p<N.os.length):wgt N (min k N.js.length) (thg N k) p<=1:=by
 have ht:thg N k<N.m+N.js.length - min k N.js.length:=by unfold thg;omega
 obtain⟨g,hg,h1⟩:=oV (il hN) (thg N k) (by omega);have h2:=wj (f:=λt=>wgt N (min k N.js.length) t p*cnt N.m N.js t g) ht;rw[kM hN hp g _ (D7 _ _)]at h2;have h3:=hc _ (wJ hN hp) g;have h2:wgt N (min k N.js.length) (thg N k) p*cnt N.m N.js (thg N k) g<=_:=h2;have h4:=Nat.mul_le_mul_left (wgt N (min k N.js.length) (thg N k) p) h1;omega
theorem qa {N:Net}(hN:cf N)(hc:Cl N.m N.js){i:Nat}(hi:i<N.js.length+N.m)(pre:∀i',i'<i->stOk N i')(hne:stU N i≠[]):stOk N i:=by
 have I:=v7 hN i (by omega) pre;obtain⟨hlt,_,_,_⟩:=vg hN hi pre;have us:=λp (hp:p<N.os.length)=>rp hN hi I hp;refine⟨hne,?_⟩;obtain⟨u,vs,hu⟩:=zU hne;rw[hu]at hlt us ⊢;refine pU vs I.r I.ok (hlt u (z7 ..)) (λv h=>hlt v (zO _ h)) λp hp=>?_;have h:=us p hp;rw[wl]at h;have h:cnt _ _ u p+ls _=_:=h;show cnt _ _ u p+ls _<=1;rw[h];exact vb hN hc hi hp
structure TuF (N:Net):Prop where
 net:cf (bx N)
 ol:(bx N).os.length=N.m
 jl:(bx N).js.length+N.m=N.os.length+N.js.length
 made:fG (bx N)=cV N.m (fG N)
 cl:Cl (bx N).m (bx N).js↔Cl N.m N.js
 use:∀i,i<(bx N).js.length+(bx N).m->stU (bx N) i≠[]
theorem rD {N:Net}(hN:cf N)(ok:∀i,i<N.js.length+N.m->stOk N i)(h12:N.os.length<=12)(hj:N.js.length+N.os.length<=N.m+132):TuF N:=by
 have m1:=hN.m1;have m12:=hN.m12;have o1:=hN.o1;have I:=v7 hN _ (lm _) ok;have ejs:=vW N;have eos:=vV N;have hl:=I.l;rw[xU hN]at hl;have jl:(bx N).js.length+N.m=N.os.length+N.js.length:=by rw[ejs];omega
 have ol:(bx N).os.length=N.m:=by rw[eos,im,B8]
 have oat:∀g,g<N.m->(bx N).os.getD g 0=stG N (N.m+N.js.length - 1 - g):=λg hg=>by
  rw[eos,bi,lw,Af hg];rfl
 have ok2:okJs (aJ (bx N).m) (bx N).js:=by rw[iy,ejs];exact I.ok
 have ix:okIx (bx N).m (bx N).js:=by have:=dF ok2;rwa [bu]at this
 have cG:∀k,k<N.js.length+N.m->∀p,p<N.os.length->cnt (bx N).m (bx N).js (stG N k) p=wgt N (min k N.js.length) (thg N k) p:=λk hk p hp=>by rw[iy,ejs];exact I.c k hk p hp
 have lG:∀k,k<N.js.length+N.m->stG N k<(bx N).m+(bx N).js.length:=λk hk=>by rw[iy,ejs];exact I.lt k hk
 have cO:∀g,g<N.m->∀p,p<N.os.length->cnt (bx N).m (bx N).js (stG N (N.m+N.js.length - 1 - g)) p=cnt N.m N.js (N.os.getD p 0) g:=λg hg p hp=>by
  rw[cG _ (by omega) p hp,<- vQ hN hp hg,A9 (by omega),show thg N (N.m+N.js.length - 1 - g)=g by unfold thg;omega]
 have net:cf (bx N):=by
  refine⟨o1,h12,by omega,ok2,by omega,by omega,λo ho=>?_⟩;rw[eos]at ho;obtain⟨t,ht,rfl⟩:=Bh.mp ho;have ht:=Ah.mp ht;exact lG _ (by omega)
 refine⟨net,ol,jl,?_,⟨λh t ht g=>?_,λh v hv p=>?_⟩,λi hi=>?_⟩
 ·unfold fG cV;rw[eos,AL];refine By λg hg=>?_;have hg:=Ah.mp hg;show(cU (bx N)).getD (stG N (N.m+N.js.length - 1 - g)) 0=colN (fG N) g;apply Bs;intro p;rw[show cU (bx N)=(bx N).js.foldl aF (aJ (bx N).m)from rfl,eQ ix p _ (lG _ (by omega)),lP];rcases sK p N.os.length with q | q
  ·rw[sO q,show cU N=N.js.foldl aF (aJ N.m)from rfl,eQ (il hN) g _ (wJ hN q),cO g hg p q]
  ·rw[lR ix q _ (lG _ (by omega)),g8 _ (by rw[lz];exact q),Bk];rfl
 ·rcases sK g N.m with hg | hg
  ·have hk:N.m+N.js.length - 1 - t<N.js.length+N.m:=by omega
   have et:thg N (N.m+N.js.length - 1 - t)=t:=by unfold thg;omega
   obtain⟨p,hp,h1⟩:=oV ix _ (lG _ hk);rw[iy]at hp;have hw:=cG _ hk p hp;rw[et]at hw;rw[hw]at h1;have h2:=wj (f:=λt'=>wgt N (min (N.m+N.js.length - 1 - t) N.js.length) t' p*cnt N.m N.js t' g) (L:=N.m+N.js.length - min (N.m+N.js.length - 1 - t) N.js.length) (t:=t) (by omega);rw[kM hN hp g _ (D7 _ _),<- cO g hg p hp]at h2;have h2:wgt N (min (N.m+N.js.length - 1 - t) N.js.length) t p*cnt N.m N.js t g<=_:=h2;have h3:=h _ (lG (N.m+N.js.length - 1 - g) (by omega)) p;have h4:=Nat.mul_le_mul_right (cnt N.m N.js t g) h1;omega
  ·rw[lR (il hN) hg t ht];omega
 ·rcases sK p N.os.length with q | q
  ·rw[iy,ejs]at hv ⊢;rcases I.b v hv p q with z | ⟨k,hk,z⟩
   ·exact z
   ·have:=vb hN h hk q;omega
  ·rw[lR ix q v hv];omega
 ·have hv:thg (bx N) i<N.os.length+(stM N (N.js.length+N.m)).length:=by rw[<- ejs];unfold thg;rw[iy]at *;omega
  rw[i5 net hi];intro z;obtain⟨z1,z2⟩:=List.append_eq_nil_iff.mp z;rcases I.u _ hv with⟨q,hq,h⟩ | ⟨k,k1,k2,h⟩ | ⟨k,k1,k2,h⟩
  ·rw[<- ejs]at hq;obtain⟨j,ej⟩:=Cm hq;have lt:=(kt.mp ej).1;obtain⟨a,b⟩:=cq ix ej;have et:thg (bx N) i=(bx N).m+(bx N).js.length - 1 - i:=rfl;have:(bx N).js.length - 1 - j∈(wr (min i (bx N).js.length)).filter (inJ (bx N) (thg (bx N) i)):=by
    refine Ao.mpr ⟨Ah.mpr (by omega),?_⟩;unfold inJ;rw[show(bx N).js.length - 1 - ((bx N).js.length - 1 - j)=j by omega,bi,ej];show(thg (bx N) i==q.1||thg (bx N) i==q.2)=true;rcases h with h | h
    ·rw[beq_iff_eq.mpr h];rfl
    ·rw[beq_iff_eq.mpr h,CF]
   rw[List.map_eq_nil_iff]at z2;rw[z2]at this;cases this
  ·have:N.m+N.js.length - 1 - k∈usO (bx N).os (thg (bx N) i):=by
    refine Ao.mpr ⟨Ah.mpr (by omega),?_⟩;rw[oat _ (by omega),show N.m+N.js.length - 1 - (N.m+N.js.length - 1 - k)=k by omega,h,beq_self_eq_true]
   rw[z1]at this;cases this
  ·omega
theorem uy {n:Nat}{M:List (Nat×Nat)}(ok:okJs (aJ n) M):∀t,t<n+M.length->(M.foldl aF (aJ n)).getD t 0≠0:=by
 have ix:okIx n M:=by have:=dF ok;rwa [bu]at this
 refine fq ix (λt h=>?_) λj p e h1 h2 c1 c2=>?_
 ·rw[show(M.foldl aF (aJ n)).getD t 0=1 <<< t from mf (N:=nt n M) h,Cb];exact Aa (Nat.two_pow_pos t)
 ·rw[show(M.foldl aF (aJ n)).getD (n+j) 0=(M.foldl aF (aJ n)).getD p.1 0 ^^^ (M.foldl aF (aJ n)).getD p.2 0 from pA (N:=nt n M) ix e];intro z;have lt:=(kt.mp e).1;have ne:=pO ok e;have hl:((M.take j).foldl aF (aJ n)).length=n+j:=by rw[cP,bu,Az];omega
  have e2:∀t,t<n+j->((M.take j).foldl aF (aJ n)).getD t 0=(M.foldl aF (aJ n)).getD t 0:=λt ht=>by
   conv=>rhs;rw[<- BG j M,Br]
   exact(fV (by rw[hl];exact ht)).symm
  rw[e2 _ (by omega),e2 _ h2]at ne;apply ne;have:=congrArg (· ^^^ (M.foldl aF (aJ n)).getD p.2 0) z;rwa [Nat.xor_assoc,Nat.xor_self,Nat.xor_zero,Nat.zero_xor]at this
theorem l7 {α:Type}{xs:List α}{k:Nat}{x:α}(h:xs[k]? = some x):xs.take (k+1)=xs.take k++[x]:=by rw[List.take_succ,h];rfl
theorem uZ {m:Nat}{rows:List Nat}(h:∀k,k<m->colN rows k≠0):(cV m rows).contains 0=false:=by
 rw[CS];intro z;rw[List.contains_iff_mem]at z;unfold cV at z;obtain⟨k,hk,e⟩:=Bh.mp z;exact h k (Ah.mp hk) e
def rh (m:Nat)(rows:List Nat):D:=.tup [nD m,.tup (natsD rows)]
def t8:ASp:=λss q=>∃(xs:List Nat) (s0:Sv),ss=[s0]/\yF s0 (natsD xs)/\(∀x∈xs,x<60)/\q (.d (nD (dR xs))) [s0]
def o_:ASp:=λss q=>∃(many:Nat) (rows:List Nat),ss=[nv many,.vl (.tup (natsD rows))]/\many<=30/\rows.length<=30/\q (.f (natsD (cV many rows))) [nv many,.vl (.tup (natsD rows))]
def xA:ASp:=λss q=>∃(m:Nat) (rows:List Nat),ss=[.vl (rh m rows)]/\m<=12/\rows.length<=12/\(∀k,k<m->colN rows k≠0)/\q (.d (rh rows.length (cV m rows))) [.vl (rh m rows)]
theorem pb {κ:Type} [DecidableEq κ](k k':κ)(d:D):∀(kvs:List (κ×D)),valD (putD kvs k d) k'=if k'=k then some d else valD kvs k':=by
 have rep:∀kvs:List (κ×D),(kvs.any λkv=>decide (kv.1=k))=true->valD (kvs.map λkv=>if kv.1=k then(kv.1,d)else kv) k'=if k'=k then some d else valD kvs k':=by
  intro kvs;induction kvs with
  | nil=>intro h;cases h
  | cons p r ih =>
   intro h;rw[wl];by_cases e:p.1=k
   ·rw[if_pos e];by_cases e':k'=k
    ·rw[if_pos e'];simp[valD,AK,e,e']
    ·rw[if_neg e'];have ne:¬p.1=k':=λz=>e' (z.symm.trans e);have tail:∀r:List (κ×D),valD (r.map λkv=>if kv.1=k then(kv.1,d)else kv) k'=valD r k':=by
      intro r;induction r with
      | nil=>rfl
      | cons q r ih =>
       rw[wl];by_cases eq:q.1=k
       ·have nq:¬q.1=k':=λz=>e' (z.symm.trans eq);rw[if_pos eq];unfold valD at ih ⊢;rw[Aw (by simpa using nq),Aw (by simpa using nq)];exact ih
       ·rw[if_neg eq];by_cases nq:q.1=k'
        ·unfold valD;rw[B9 (by simpa using nq),B9 (by simpa using nq)]
        ·unfold valD at ih ⊢;rw[Aw (by simpa using nq),Aw (by simpa using nq)];exact ih
     have t:=tail r;unfold valD at t ⊢;rw[Aw (by simpa using ne),Aw (by simpa using ne)];exact t
   ·rw[if_neg e];have h':(r.any λkv=>decide (kv.1=k))=true:=by simpa [e] using h
    have ih':=ih h';by_cases ek:p.1=k'
    ·have nk:¬k'=k:=λz=>e (ek.trans z);rw[if_neg nk];unfold valD;rw[B9 (by simpa using ek),B9 (by simpa using ek)]
    ·unfold valD at ih' ⊢;rw[Aw (by simpa using ek),Aw (by simpa using ek)];exact ih'
 intro kvs;unfold putD;split
 ·rename_i h;exact rep kvs h
 ·rename_i h;have hn:∀kv∈kvs,¬kv.1=k:=λkv hkv e=>h (DU.mpr ⟨kv,hkv,decide_eq_true e⟩);unfold valD;rw[List.find?_append];by_cases e':k'=k
  ·rw[if_pos e'];have:(kvs.find? λkv=>decide (kv.1=k'))=none:=FD.mpr λkv hkv=>by rw[e'];simpa using hn kv hkv
   rw[this];simp[AK,e']
  ·rw[if_neg e'];have:([(k,d)].find? λkv=>decide (kv.1=k'))=none:=by rw[Aw (by simpa using λz:k=k'=>e' z.symm)];rfl
   rw[this];cases (kvs.find? λkv=>decide (kv.1=k')) <;> rfl
noncomputable def ltD (N:Net):D :=
 if ¬(N.os.length<=12/\N.js.length+N.os.length<=N.m+132)then .tup [.str "many",.non]
 else match fstT N with
  | some i=>if stU N i=[]then .tup [.str "loose",.non]else .tup [.str "nought",.non]
  | none=>.tup [.str "net",netD (bx N)]
def lX:ASp:=λss q=>∃N:Net,ss=[.vl (netD N)]/\cf N/\q (.d (ltD N)) [.vl (netD N)]
def t9:ASp:=λss q=>∃n:Nat,ss=[.tp n]/\n<=100000000000/\∀(N:Net) (n':Nat),cf N->N.os.length<=12->N.js.length<=40->n'<=n+1000->q (.d (netD N)) [.tp n']
section
variable {P:wE}{w:z8}{K:ac}{mg:Str->Option bd}{base:Heap}
def XF (K:ac)(mg:Str->Option bd):Prop:=∃gA0 v6 v4 gA1 f_Loose f_Nought:Addr,mg "Loose" = some (.ref gA0)/\mg "JoinError" = some (.ref v6)/\mg "Nought" = some (.ref v4)/\mg "TooMany" = some (.ref gA1)/\l3 K gA0 f_Loose "thing" "Loose.__init__" dQ ["self", "thing"]/\nz K v6/\l3 K v4 f_Nought "at" "Nought.__init__" dh ["self", "at"]/\BQ K gA1 bmV "ValueError.__new__" = true/\dG K v4=true/\Ai K (.ref gA1) (.ref v4)=some false/\dG K gA0=true/\Ai K (.ref gA1) (.ref gA0)=some false/\dG K gA1=true/\Ai K (.ref gA1) (.ref gA1)=some true/\Ai K (.ref gA0) (.ref v4)=some false/\Ai K (.ref gA0) (.ref gA0)=some true/\Ai K (.ref v4) (.ref v4)=some true
theorem XF.mk {K:ac}{mg:Str->Option bd}{h:Heap}{gA0 v6 v4 gA1 f_Loose f_Nought:Addr}{gD4 kV_Loose doc_Loose pm_Loose cdv_Loose ct_Loose:bd}{od_Loose an_Loose:Option Addr}{osl_Loose:Array (Option bd)}{gD2 kV_Nought doc_Nought pm_Nought cdv_Nought ct_Nought:bd}{od_Nought an_Nought:Option Addr}{osl_Nought:Array (Option bd)}(KX:K.In h)(G:h.Ns zN mg)(f0:z4 K zN "Loose" = some (some (.ref gA0)))(f1:z4 K zN "JoinError" = some (some (.ref v6)))(f2:z4 K zN "Nought" = some (some (.ref v4)))(f3:z4 K zN "TooMany" = some (some (.ref gA1)))(f4_0:Bt K (.ref gA0) "__init__" = some (some (.ref f_Loose)))(f4_1:K.lookup f_Loose=some ⟨gD4,od_Loose,.func (Be "__init__" "Loose.__init__" (eO dQ) (cv dQ) (aI dQ) .none kV_Loose doc_Loose pm_Loose an_Loose cdv_Loose ct_Loose),osl_Loose⟩)(f4_2:BK K cdv_Loose "Loose.__init__" = true)(f4_3:Bi K (.ref f_Loose)=true)(f4_4:gq K gA0 f_Loose=true)(f4_5:FM K (.ref f_Loose)=some (.type "function"))(f4_6:Bt K (.ref gA0) "__setattr__" = some (some (.builtin "object.__setattr__")))(f4_7:Bt K (.ref gA0) "thing" = some none)(f5_0:E7 K (.ref v6) "__getattribute__" = some (some (.builtin "type.__getattribute__")))(f5_1:PySem.W.readsIn K v6 (.type "type")=true)(f5_2:PySem.W.findCls K (.ref v6) (.type "type") "__init__" = some (.val (.builtin "ValueError.__init__")))(f6_0:Bt K (.ref v4) "__init__" = some (some (.ref f_Nought)))(f6_1:K.lookup f_Nought=some ⟨gD2,od_Nought,.func (Be "__init__" "Nought.__init__" (eO dh) (cv dh) (aI dh) .none kV_Nought doc_Nought pm_Nought an_Nought cdv_Nought ct_Nought),osl_Nought⟩)(f6_2:BK K cdv_Nought "Nought.__init__" = true)(f6_3:Bi K (.ref f_Nought)=true)(f6_4:gq K v4 f_Nought=true)(f6_5:FM K (.ref f_Nought)=some (.type "function"))(f6_6:Bt K (.ref v4) "__setattr__" = some (some (.builtin "object.__setattr__")))(f6_7:Bt K (.ref v4) "at" = some none)(f7:BQ K gA1 bmV "ValueError.__new__" = true)(f8:gq K v4 f_Nought=true)(f9:Ai K (.ref gA1) (.ref v4)=some false)(f10:gq K gA0 f_Loose=true)(f11:Ai K (.ref gA1) (.ref gA0)=some false)(f12:BQ K gA1 bmV "ValueError.__new__" = true)(f13:Ai K (.ref gA1) (.ref gA1)=some true)(f14:Ai K (.ref gA0) (.ref v4)=some false)(f15:Ai K (.ref gA0) (.ref gA0)=some true)(f16:Ai K (.ref v4) (.ref v4)=some true):XF K mg:=⟨gA0,v6,v4,gA1,f_Loose,f_Nought,Cg KX G f0,Cg KX G f1,Cg KX G f2,Cg KX G f3,pW f4_0 f4_1 f4_2 f4_3 f4_4 f4_5 f4_6 f4_7 (λ_ _ _ _ _ _ us hl=>match us,hl with | [_,_],_=>rfl),⟨f5_0,f5_1,f5_2⟩,pW f6_0 f6_1 f6_2 f6_3 f6_4 f6_5 f6_6 f6_7 (λ_ _ _ _ _ _ us hl=>match us,hl with | [_,_],_=>rfl),f7,fW f8,f9,fW f10,f11,tJ f12,f13,f14,f15,f16⟩
theorem sG (dn:DefN K mg "row_of" k6 ["givens"])(B:BI mg)(gA6:OkN P w K mg base 1 "joined" ["one", "other"] (spA K fL)):OkN P w K mg base 2 "row_of" ["givens"] (spA K t8):=by
 refine dn.aok2 (k:=1) gO (λj=>j==0) [.un,.un] t8 rfl (λf cdv A outer s H E hr=>have hu:=cM hr;⟨_,(aA (bo (i:=1) gO.nd rfl (by first | exact Or.inl rfl | exact Or.inr rfl) aX)
  (aA (gV A_ rfl (d_ K (pv 0)) (aL (i:=2) gO.nd rfl (by first | exact Or.inl rfl | exact Or.inr rfl))
  (aV (bo (i:=1) gO.nd rfl (by first | exact Or.inl rfl | exact Or.inr rfl) (bC gA6 (hr.mono (by decide)) (aj (pv 1) (aj (bA pM aX (pv 2)) ar))))))
  (aV (bH (pv 1))))),(aw (bb aO rfl)
  (aw (cS (pin:=(λj=>j==0)) (cY af) (az rfl)
  (bb (aK (aa af (aa (aG ig aO af) aq))) rfl))
  (br af)))⟩) ?_
 rintro ss q ⟨xs,s0,rfl,hs,hx,hq⟩;rcases hs with rfl | rfl
 ·refine⟨rfl,rfl,rfl,?_⟩;refine fU nD (λk ρ=>∃s2,ρ=[.ow (natsD xs),nv (dR (xs.take k)),s2]) (λk ρ ⟨_,e⟩=>e▸rfl) ?_ ?_ ⟨.un,rfl⟩
  ·rintro k x _ M hk ⟨s2,rfl⟩ hM;have hx':=hx x (wp hk);refine⟨⟨by omega,by omega,by decide⟩,rfl,dR (xs.take k),1 <<< x,by rw[<- wN (i8 x)];rfl,hM _ ⟨nv x,?_⟩⟩;rw[l7 hk,ib];rfl
  ·rintro _ ⟨s2,rfl⟩;rw[AW];exact hq
 ·refine⟨rfl,rfl,?_⟩;refine fU nD (λk ρ=>∃s2,ρ=[.vl (.lst (natsD xs)),nv (dR (xs.take k)),s2]) (λ_ _ _=>trivial) ?_ ?_ ⟨.un,rfl⟩
  ·rintro k x _ M hk ⟨s2,rfl⟩ hM;have hx':=hx x (wp hk);refine⟨⟨by omega,by omega,by decide⟩,rfl,dR (xs.take k),1 <<< x,by rw[<- wN (i8 x)];rfl,hM _ ⟨nv x,?_⟩⟩;rw[l7 hk,ib];rfl
  ·rintro _ ⟨s2,rfl⟩;rw[AW];exact hq
theorem qE (dn:DefN K mg "crossed" fv ["many", "rows"])(B:BI mg)(gD5:OkN P w K mg base 2 "row_of" ["givens"] (spA K t8)):OkN P w K mg base 3 "crossed" ["many", "rows"] (spA K o_):=by
 refine dn.aok2 (k:=2) qx (λj=>j==0||j==1) [] o_ rfl (λf cdv A outer s H E hr=>have hu:=cM hr;⟨_,(aV (bH (pH ["given"] [1] rfl (BlkC.of (aI fv) ku) (cz rfl B.range_ (aj (pv 0) ar)) (λ_ _ _ _ nd=>(aL (i:=0) nd rfl (by first | exact Or.inl rfl | exact Or.inr rfl))) (λ_ _ _ _=>dZ) (λ_ _ _ _=>(bC gD5 (hr.mono (by decide)) (aj (fA ["place", "row"] [0] rfl (Blk.inC (aI fv) ["given", "rows"]) (pG K rfl B.enumerate_ (aj (pv 1) ar)) (λ_ _ _ _ nd=>(bO K (n:=2) rfl (aM (aL (i:=0) nd rfl (by first | exact Or.inl rfl | exact Or.inr rfl)) (aM (aL (i:=1) nd rfl (by first | exact Or.inl rfl | exact Or.inr rfl)) bN)))) (λ_ _ _ _=>(nU (gR K (bA pN (bA vz (pv 1) (pv 2)) aX) (λ_=>rfl)))) (λ_ _ _ _=>(pv 0))) ar)))))),(br (cA (cx (aa af aq)) (az rfl) dv (aK (aa (cA (kg (aa af aq)) (bD (aD (az rfl) (aD (az rfl) bj (λ_ _ _=>aY)) (λ_ _ _=>aY))) (iR (aG bc (aG ig af af) aO)) af) aq))))⟩) ?_;rintro ss q ⟨many,rows,rfl,hm,hr,hq⟩;refine⟨rfl,rfl,⟨by omega,by omega⟩,by rw[cp];omega,?_⟩;refine g_ (λk=>nD (colN rows k)) trivial (λk acc N hk hN=>?_) ?_
 ·rw[CK];refine⟨by rw[bL,aQ];omega,?_⟩;refine dJ (λp acc ρ'=>p<=rows.length/\ρ'=[nv k,.vl (.tup (natsD rows))]/\acc=natsD ((wr p).filter λp=>(rows.getD p 0).testBit k)) (ds:=iq 0 (natsD rows)) (λp acc ρ' _ h=>trivial) ?_ ?_ _ ⟨zS _,rfl,rfl⟩
  ·rintro p d acc _ N2 hp ⟨_,rfl,rfl⟩ hN2;obtain⟨x,ex,rfl⟩:=dH hp;unfold natsD at ex;rw[lw]at ex;obtain⟨row,et,rfl⟩:=wT.mp ex;have eg:rows.getD p 0=row:=by rw[bi,et];rfl
   have lt:=(kt.mp et).1;refine rz ?_;refine⟨BC _,?_⟩;show if(BL ((row:Int) / 2^((k:Int).toNat)) 1 != 0)=true then N2 (natsD ((wr p).filter λp=>(rows.getD p 0).testBit k)++[.int ((0+p:Nat):Int)]) [nv k,.vl (.tup (natsD rows))]else N2 (natsD ((wr p).filter λp=>(rows.getD p 0).testBit k)) [nv k,.vl (.tup (natsD rows))]
   rw[tX,Ba];cases e:row.testBit k with
   | true=>exact hN2 _ _ ⟨lt,rfl,by rw[A4,AU,<- bV];simp[et,e]⟩
   | false=>exact hN2 _ _ ⟨lt,rfl,by rw[A4,AU];simp[et,e]⟩
  ·rintro acc _ ⟨_,rfl,rfl⟩;rw[bL,aQ];refine⟨rfl,_,_,rfl,.inr rfl,λx hx=>?_,hN⟩;have:=Ah.mp (Ao.mp hx).1;omega
 ·rw[Aq];have e:((wr many).map λk=>nD (colN rows k))=natsD (cV many rows):=by unfold cV natsD;rw[AL];rfl
  rw[e];exact hq
theorem jW (dn:DefN K mg "turned_wish" eJ ["wish"])(B:BI mg)(gD3:OkN P w K mg base 3 "crossed" ["many", "rows"] (spA K o_))(gA2:∃u,mg "MOST_GIVENS" = some u/\RelV (.int 12) u):OkN P w K mg base 4 "turned_wish" ["wish"] (spA K xA):=by
 refine dn.aok2 (k:=3) da (λj=>j==0) [.un,.un,.un] xA rfl (λf cdv A outer s H E hr=>have hu:=cM hr;⟨_,(aA (eA (pv 0) (bO K (n:=2) rfl (aM (aL (i:=1) da.nd rfl (by first | exact Or.inl rfl | exact Or.inr rfl)) (aM (aL (i:=2) da.nd rfl (by first | exact Or.inl rfl | exact Or.inr rfl)) bN))))
  (aA (eh (bz jq (aS (aU K) rfl B.len_ bF (aj (pv 2) ar)) (iK gA2 rfl) (bJ _))
  (aV gU)
  bU)
  (aA (bo (i:=3) da.nd rfl (by first | exact Or.inl rfl | exact Or.inr rfl) (bC gD3 (hr.mono (by decide)) (aj (pv 1) (aj (pv 2) ar))))
  (aA (eh (bz (qz K) aX (pv 3) rfl)
  (aV gU)
  bU)
  (aV (bH (iD (aj (aS (aU K) rfl B.len_ bF (aj (pv 2) ar)) (aj (di (cD K) rfl B.tuple_ dW (aj (pv 3) ar)) ar))))))))),(aw (cT af (bD (aD (az rfl) (aD (az rfl) bj (λ_ _ _=>aY)) (λ_ _ _=>aY))))
  (aw (cg (a_ (aG cK (be aZ (aa af aq)) aO))
  bS
  ba)
  (aw (bb (aK (aa af (aa af aq))) rfl)
  (aw (cg (a_ (aG (ym false) aO af))
  bS
  ba)
  (br (fo (aa (be aZ (aa af aq)) (aa (be cW (aa af aq)) aq))))))))⟩) ?_
 rintro ss q ⟨m,rows,rfl,hm,hr,hc,hq⟩;refine⟨rfl,rfl,?_⟩;show if decide ((12:Int)<(((natsD rows).length:Nat):Int))=true then _ else _
 rw[aQ,if_neg (by simp;omega)];refine⟨rfl,m,rows,rfl,by omega,by omega,?_⟩;refine yI (n:=0) rfl ?_;show if(cV m rows).contains 0=true then _ else _
 rw[uZ hc,if_neg (by decide)];refine⟨by simp,?_⟩;show q (.d (.tup [.int (((natsD rows).length:Nat):Int),.tup (natsD (cV m rows))])) _;rw[aQ];exact hq
theorem lu {gA0 v4 gA1:Addr}(m_TooMany:mg "TooMany" = some (.ref gA1))(m_Loose:mg "Loose" = some (.ref gA0))(m_Nought:mg "Nought" = some (.ref v4))(ea_Nought:dG K v4=true)(s_TooMany_Nought:Ai K (.ref gA1) (.ref v4)=some false)(ea_Loose:dG K gA0=true)(s_TooMany_Loose:Ai K (.ref gA1) (.ref gA0)=some false)(ea_TooMany:dG K gA1=true)(s_TooMany_TooMany:Ai K (.ref gA1) (.ref gA1)=some true)(s_Loose_Nought:Ai K (.ref gA0) (.ref v4)=some false)(s_Loose_Loose:Ai K (.ref gA0) (.ref gA0)=some true)(s_Nought_Nought:Ai K (.ref v4) (.ref v4)=some true)(dn:DefN K mg "_law_turned" fu ["_law_net"])(B:BI mg)(gC3:OkN P w K mg base 3 "turned_net" ["net"] (spA K o6))(gB6:OkX P w K mg base 1 "turned_net" ["net"] gA1 none (spA K t6))(gB8:OkX P w K mg base 4 "turned_net" ["net"] gA0 (some "thing") (spA K t7))(gB7:OkX P w K mg base 4 "turned_net" ["net"] v4 (some "at") (spA K t5)):OkN P w K mg base 5 "_law_turned" ["_law_net"] (spA K lX):=by
 refine dn.aok2 (k:=4) bY (λj=>j==0) [.un,.un] lX rfl (λf cdv A outer s H E hr=>have hu:=cM hr;⟨_,(aA (bo (i:=1) bY.nd rfl (by first | exact Or.inl rfl | exact Or.inr rfl) cj)
  (aA (bo (i:=2) bY.nd rfl (by first | exact Or.inl rfl | exact Or.inr rfl) yg)
  (aA (wz (wz (wz (wy (aV (bo (i:=2) bY.nd rfl (by first | exact Or.inl rfl | exact Or.inr rfl) (bC gC3 (hr.mono (by decide)) (aj (pv 0) ar)))))
  (nV gB6 (hr.mono (by decide)) rfl rfl rfl rfl (aj (pv 0) ar) n4 (λod=>(xb m_Nought ea_Nought s_TooMany_Nought (xb m_Loose ea_Loose s_TooMany_Loose (oH rfl m_TooMany ea_TooMany s_TooMany_TooMany (λa =>
  (aV (bo (i:=1) bY.nd rfl (by first | exact Or.inl rfl | exact Or.inr rfl) cj)))))))))
  (nV gB8 (hr.mono (by decide)) rfl rfl rfl rfl (aj (pv 0) ar) n4 (λod=>(xb m_Nought ea_Nought s_Loose_Nought (oH rfl m_Loose ea_Loose s_Loose_Loose (λa =>
  (aV (bo (i:=1) bY.nd rfl (by first | exact Or.inl rfl | exact Or.inr rfl) cj))))))))
  (nV gB7 (hr.mono (by decide)) rfl rfl rfl rfl (aj (pv 0) ar) n4 (λod=>(oH rfl m_Nought ea_Nought s_Nought_Nought (λa =>
  (aV (bo (i:=1) bY.nd rfl (by first | exact Or.inl rfl | exact Or.inr rfl) cj)))))))
  (aV (bH (iD (aj (pv 1) (aj (pv 2) ar)))))))),(aw (bb eF rfl)
  (aw (bb rF rfl)
  (aw (md (md (md (bb (aK (aa af aq)) rfl)
  (kX (aa af aq)
  (jM (bb eF rfl))))
  (kX (aa af aq)
  (jM (bb eF rfl))))
  (kX (aa af aq)
  (jM (bb eF rfl))))
  (br (fo (aa af (aa af aq)))))))⟩) ?_
 rintro ss q ⟨N,rfl,hN,hq⟩;refine⟨rfl,rfl,?_⟩;refine cutS (λρ=>ρ=[.vl (netD N),.vl (.str "net"),.un]) (λM hM=>hM _ rfl) ?_;rintro _ rfl;refine cutS (λρ=>ρ=[.vl (netD N),.vl (.str "net"),.vl .non]) (λM hM=>hM _ rfl) ?_;rintro _ rfl;unfold ltD at hq;by_cases hs:N.os.length<=12/\N.js.length+N.os.length<=N.m+132
 ·rw[if_neg (not_not_intro hs)]at hq;split at hq
  ·rename_i i hf;obtain⟨hi,pre,hno⟩:=lH hf;by_cases hE:stU N i=[]
   ·rw[if_pos hE]at hq;exact .inl (.inr ⟨rfl,N,i,rfl,hN,hs.1,hs.2,hi,pre,hE,by simp,hq⟩)
   ·rw[if_neg hE]at hq;exact .inr ⟨rfl,N,i,rfl,hN,hs.1,hs.2,hi,pre,hE,hno,by simp,hq⟩
  ·rename_i hf;exact .inl (.inl (.inl ⟨rfl,N,rfl,hN,hs.1,hs.2,vZ (lI hf),by simp,hq⟩))
 ·rw[if_pos hs]at hq;exact .inl (.inl (.inr ⟨rfl,N,rfl,hN,hs,by simp,hq⟩))
theorem jr (dn:DefN K mg "_law_net_used" cc ["_law_tape_here"])(B:BI mg)(gA8:OkN P w K mg base 1 "_law_draw" ["_law_tape_here", "_law_many"] (spA K xC)):OkN P w K mg base 2 "_law_net_used" ["_law_tape_here"] (spA K t9):=by
 refine dn.aok2 (k:=1) bf (λj=>j==0) [.un,.un,.un,.un,.un,.un,.un,.un,.un] t9 rfl (λf cdv A outer s H E hr=>have hu:=cM hr;⟨_,(aA (bo (i:=1) bf.nd rfl (by first | exact Or.inl rfl | exact Or.inr rfl) (bA cn aX (bC gA8 (hr.mono (by decide)) (aj (pv 0) (aj aX ar)))))
  (aA (bo (i:=2) bf.nd rfl (by first | exact Or.inl rfl | exact Or.inr rfl) (fA ["_law_k"] [] rfl (Blk.of (aI cc) cL) (cz rfl B.range_ (aj (pv 1) ar)) (λ_ _ _ _ nd=>(aL (i:=0) nd rfl (by first | exact Or.inl rfl | exact Or.inr rfl))) (λ_ _ _ _=>dZ) (λ_ _ _ _=>(bA pM aX (pv 0)))))
  (aA (bo (i:=3) bf.nd rfl (by first | exact Or.inl rfl | exact Or.inr rfl) (mq ar))
  (aA (bo (i:=4) bf.nd rfl (by first | exact Or.inl rfl | exact Or.inr rfl) (bC gA8 (hr.mono (by decide)) (aj (pv 0) (aj aX ar))))
  (aA (gV A_ rfl (cz rfl B.range_ (aj (bC gA8 (hr.mono (by decide)) (aj (pv 0) (aj aX ar))) ar)) (aL (i:=5) bf.nd rfl (by first | exact Or.inl rfl | exact Or.inr rfl))
  (aA (bo (i:=6) bf.nd rfl (by first | exact Or.inl rfl | exact Or.inr rfl) (bC gA8 (hr.mono (by decide)) (aj (pv 0) (aj (aS (aU K) rfl B.len_ bF (aj (pv 2) ar)) ar))))
  (aA (bo (i:=7) bf.nd rfl (by first | exact Or.inl rfl | exact Or.inr rfl) (bC gA8 (hr.mono (by decide)) (aj (pv 0) (aj (aS (aU K) rfl B.len_ bF (aj (pv 2) ar)) ar))))
  (aV (eh (PW.pt (mj (bz (fC K hr.units) (bE (aT K) (pv 2) (pv 6) (λ_ _=>rfl)) (bE (aT K) (pv 2) (pv 7) (λ_ _=>rfl)) (bJ _)) (jd (PW.pt (jV (bz (gk K hr.units) (pv 4) aX (bJ _)) (gQ (bz (gk K hr.units) (bA pN (bE (aT K) (pv 2) (pv 6) (λ_ _=>rfl)) (bE (aT K) (pv 2) (pv 7) (λ_ _=>rfl))) aX (bJ _))))))))
  (aA (bZ (dj K zL zJ zI bK (pv 3) (aj (iD (aj (aS (m3 rfl) rfl B.min_ vL (aj (pv 6) (aj (pv 7) ar))) (aj (aS (m4 rfl) rfl B.max_ vM (aj (pv 6) (aj (pv 7) ar))) ar))) ar)))
  (aV (bZ (dj K zL zJ zI bK (pv 2) (aj (bA vy (bE (aT K) (pv 2) (pv 6) (λ_ _=>rfl)) (bE (aT K) (pv 2) (pv 7) (λ_ _=>rfl))) ar)))))
  bU)))))
  (aA (bo (i:=8) bf.nd rfl (by first | exact Or.inl rfl | exact Or.inr rfl) uF)
  (aA (gV A_ rfl (d_ K (pv 3)) (bO K (n:=2) rfl (aM (aL (i:=6) bf.nd rfl (by first | exact Or.inl rfl | exact Or.inr rfl)) (aM (aL (i:=7) bf.nd rfl (by first | exact Or.inl rfl | exact Or.inr rfl)) bN)))
  (aA (jg hu (pv 8) (pv 6) gX rfl)
  (aV (jg hu (pv 8) (pv 7) gX rfl))))
  (aA (nW (i:=9) ["_law_thing"] [8] bf.nd rfl (by first | exact Or.inl rfl | exact Or.inr rfl) rfl (Blk.of (aI cc) cL) (cz rfl B.range_ (aj (aS (aU K) rfl B.len_ bF (aj (pv 2) ar)) ar)) (λ_ _ _ _ nd=>(aL (i:=0) nd rfl (by first | exact Or.inl rfl | exact Or.inr rfl))) (λ_ _ _ _=>(nU (x9 (sC hu (pv 0) (pv 1))))) (λ_ _ _ _=>(pv 0)))
  (aA (bo (i:=9) bf.nd rfl (by first | exact Or.inl rfl | exact Or.inr rfl) (bA (wK K) (pv 9) (fA ["_law_turn"] [0,2] rfl (Blk.of (aI cc) cL) (cz rfl B.range_ (aj (bC gA8 (hr.mono (by decide)) (aj (pv 0) (aj aX ar))) ar)) (λ_ _ _ _ nd=>(aL (i:=0) nd rfl (by first | exact Or.inl rfl | exact Or.inr rfl))) (λ_ _ _ _=>dZ) (λ_ _ _ _=>(bC gA8 (hr.mono (by decide)) (aj (pv 1) (aj (aS (aU K) rfl B.len_ bF (aj (pv 2) ar)) ar)))))))
  (aV (bH (iD (aj (pv 1) (aj (di (cD K) rfl B.tuple_ dW (aj (pv 3) ar)) (aj (di (cD K) rfl B.tuple_ dW (aj (gW (gN K) (pv 9) jh (ie aX)) ar)) ar))))))))))))))),(aw (bb (aG bc aO (aK (aa af (aa aO aq)))) rfl)
  (aw (bb (cA (cx (aa af aq)) (az rfl) dv (aG ig aO af)) rfl)
  (aw (bb (kT aq) rfl)
  (aw (bb (aK (aa af (aa aO aq))) rfl)
  (aw (cS (pin:=(λ_=>false)) (cx (aa (aK (aa af (aa aO aq))) aq)) (az rfl)
  (aw (bb (aK (aa af (aa (be aZ (aa af aq)) aq))) rfl)
  (aw (bb (aK (aa af (aa (be aZ (aa af aq)) aq))) rfl)
  (cg (iS (a_ (aG fD (aG bg af af) (aG bg af af))) (dX (a_ (aG gm af aO)) (a_ (aG gm (aG bc (aG bg af af) (aG bg af af)) aO))))
  (aw (c_ (dY af (aa (fo (aa (be qc (aa af (aa af aq))) (aa (be qd (aa af (aa af aq))) aq))) aq)))
  (c_ (dY af (aa (aG bc (aG bg af af) (aG bg af af)) aq))))
  ba))))
  (aw (bb uv rfl)
  (aw (cS (pin:=(λj=>j==3)) (cY af) (bD (aD (az rfl) (aD (az rfl) bj (λ_ _ _=>aY)) (λ_ _ _=>aY)))
  (aw (pq dP af af)
  (pq dP af af)))
  (aw (kY (cA (cx (aa (be aZ (aa af aq)) aq)) (az rfl) (a_ (qp af af)) af) rfl)
  (aw (bb (aG wL af (cA (cx (aa (aK (aa af (aa aO aq))) aq)) (az rfl) dv (aK (aa af (aa (be aZ (aa af aq)) aq))))) rfl)
  (br (fo (aa af (aa (be cW (aa af aq)) (aa (be cW (aa (kS af kR (fm aO)) aq)) aq))))))))))))))⟩) ?_
 rintro ss q ⟨n,rfl,hn,hq⟩;refine⟨rfl,rfl,?_⟩;have dI:∀ {i:Int},D.depth (.int i)<=60:=λ{i}=>by simp[D.depth]
 refine cutS (λρ=>∃m,1<=m/\m<=12/\ρ=[.tp (n+1),nv m,.un,.un,.un,.un,.un,.un,.un,.un]) (λM hM=>⟨rfl,n,12,rfl,by omega,Dv.small (by decide) (by decide),λr hr=>hM _ ⟨1+r,by omega,by omega,by rw[<- wN (show 1+(r:Int)=((1+r:Nat):Int)by omega)];rfl⟩⟩) ?_;rintro _ ⟨m,m1,m12,rfl⟩;refine cutS (λρ=>ρ=[.tp (n+1),nv m,.ow (natsD (aJ m)),.un,.un,.un,.un,.un,.un,.un]) (λM hM=>?_) ?_
 ·refine⟨⟨by omega,by omega⟩,by rw[cp];omega,g_ (λk=>.int (1 <<< k:Nat)) trivial (λk acc N hk hN=>?_) ?_⟩
  ·rw[CK];refine⟨⟨by omega,by omega,by decide⟩,?_⟩;show N (acc++[.int ((1:Int)*2^((k:Int).toNat))]) _;rw[i8];exact hN
  ·have e:((wr ((m:Nat):Int).toNat).map λk=>D.int (1 <<< k:Nat))=natsD (aJ m):=by
    rw[show((m:Nat):Int).toNat=m by omega];unfold aJ natsD;rw[AL];rfl
   rw[e];exact hM _ rfl
 rintro _ rfl;refine cutS (λρ=>ρ=[.tp (n+1),nv m,.ow (natsD (aJ m)),.ow (([]:List (Nat×Nat)).map L2.aN),.un,.un,.un,.un,.un,.un]) (λM hM=>⟨zS _,hM _ rfl⟩) ?_;rintro _ rfl;refine cutS (λρ=>∃cl:Nat,ρ=[.tp (n+2),nv m,.ow (natsD (aJ m)),.ow (([]:List (Nat×Nat)).map L2.aN),nv cl,.un,.un,.un,.un,.un]) (λM hM=>⟨rfl,n+1,2,rfl,by omega,Dv.small (by decide) (by decide),λr hr=>hM _ ⟨r,rfl⟩⟩) ?_;rintro _ ⟨cl,rfl⟩;refine cutS (λρ=>∃js n' s5 s6 s7,okJs (aJ m) js/\js.length<=40/\n'<=n+100/\ρ=[.tp n',nv m,.ow (natsD (js.foldl aF (aJ m))),.ow (js.map L2.aN),nv cl,s5,s6,s7,.un,.un]) (λM hM=>⟨rfl,n+2,41,rfl,by omega,Dv.small (by decide) (by decide),λcnt hcnt=>⟨⟨by omega,by omega⟩,?_⟩⟩) ?_
 ·refine p0 (λk ρ=>∃js n' s5 s6 s7,ρ=[.tp n',nv m,.ow (natsD (js.foldl aF (aJ m))),.ow (js.map L2.aN),nv cl,s5,s6,s7,.un,.un]/\okJs (aJ m) js/\js.length<=k/\n'<=n+3+2*k) (λ_ _ _=>trivial) ?_ (λρ ⟨js,n',s5,s6,s7,e,hok,hl,hn'⟩=>hM ρ ⟨js,n',s5,s6,s7,hok,by omega,by omega,e⟩) ⟨[],n+3,.un,.un,.un,rfl,trivial,zS _,by omega⟩;rintro k _ M2 hk ⟨js,n',s5,s6,s7,rfl,hok,hl,hn'⟩ hM2;have hk':k<41:=by omega
  have hL:(js.foldl aF (aJ m)).length=m+js.length:=by rw[cP,bu]
  rw[CK];refine cutS (λρ=>∃a,a<m+js.length/\ρ=[.tp (n'+1),nv m,.ow (natsD (js.foldl aF (aJ m))),.ow (js.map L2.aN),nv cl,nv k,nv a,s7,.un,.un]) (λM3 hM3=>⟨rfl,n',_,rfl,by omega,Dv.small ?_ ?_,λa ha=>?_⟩) ?_
  ·rw[aQ,hL];omega
  ·rw[aQ,hL];omega
  ·rw[aQ,hL]at ha;exact hM3 _ ⟨a,by omega,rfl⟩
  rintro _ ⟨a,ha,rfl⟩;refine cutS (λρ=>∃b,b<m+js.length/\ρ=[.tp (n'+2),nv m,.ow (natsD (js.foldl aF (aJ m))),.ow (js.map L2.aN),nv cl,nv k,nv a,nv b,.un,.un]) (λM3 hM3=>⟨rfl,n'+1,_,rfl,by omega,Dv.small ?_ ?_,λb hb=>?_⟩) ?_
  ·rw[aQ,hL];omega
  ·rw[aQ,hL];omega
  ·rw[aQ,hL]at hb;exact hM3 _ ⟨b,by omega,rfl⟩
  rintro _ ⟨b,hb,rfl⟩;have skip:=hM2 _ ⟨js,n'+2,nv k,nv a,nv b,rfl,hok,by omega,by omega⟩;refine bq rfl (by omega) (bq rfl (by omega) (bX rfl rfl dI rfl (ite2 (λhne=>bX rfl rfl dI rfl (ite2 (λ_=>?_) λ_=>bq rfl (by omega) (bq rfl (by omega) (bX rfl rfl dI rfl (ite2 (λ_=>?_) λ_=>skip))))) λ_=>skip)));all_goals
   have hne':(js.foldl aF (aJ m)).getD a 0≠(js.foldl aF (aJ m)).getD b 0:=λe=>by
    rw[e]at hne;simp[eqD]at hne
   refine⟨by simp,by rw[im];omega,bq rfl (by omega) (bq rfl (by omega) ⟨by rw[aQ,hL];omega,hM2 _ ⟨js++[(min a b,max a b)],n'+2,nv k,nv a,nv b,?_,?_,?_,by omega⟩⟩)⟩
   ·rw[Br,Bd,Eo,rQ,bV,zW,wl,BP];show _=[_,_,_,Sv.ow (_++[D.tup [.int ((min a b:Nat):Int),.int ((max a b:Nat):Int)]]),_,_,_,_,_,_]
    rw[<- minI,<- maxI,<- xorD];rfl
   ·have hab:a≠b:=λe=>hne' (by rw[e]);refine jt hok (by show min a b<max a b;omega) (by rw[bu];show max a b<_;omega) ?_;show(js.foldl aF (aJ m)).getD (min a b) 0≠(js.foldl aF (aJ m)).getD (max a b) 0;rcases Cd a b with h | h
    ·rw[AR h,CZ h];exact hne'
    ·rw[A9 h,Dd h];exact hne'.symm
   ·rw[pc,xL];omega
 rintro _ ⟨js,n',s5,s6,s7,hok,hjl,hn',rfl⟩;have hL:(js.foldl aF (aJ m)).length=m+js.length:=by rw[cP,bu]
 have hix:=dF hok;rw[bu]at hix;refine cutS (λρ=>ρ=[.tp n',nv m,.ow (natsD (js.foldl aF (aJ m))),.ow (js.map L2.aN),nv cl,s5,s6,s7,.dk [],.un]) (λM hM=>hM _ rfl) ?_;rintro _ rfl;refine cutS (λρ=>∃kvs s6 s7,(∀t:Nat,(valD kvs (.inl (t:Int))).isSome=true->∃p∈js,t=p.1∨t=p.2)/\ρ=[.tp n',nv m,.ow (natsD (js.foldl aF (aJ m))),.ow (js.map L2.aN),nv cl,s5,s6,s7,.dk kvs,.un]) (λM hM=>?_) ?_
 ·refine⟨rfl,fU L2.aN (λk ρ=>∃kvs s6 s7,kvs.length<=2*k/\(∀t:Nat,(valD kvs (.inl (t:Int))).isSome=true->∃p∈js,t=p.1∨t=p.2)/\ρ=[.tp n',nv m,.ow (natsD (js.foldl aF (aJ m))),.ow (js.map L2.aN),nv cl,s5,s6,s7,.dk kvs,.un]) (λk ρ ⟨kvs,s6,s7,_,_,e⟩=>by rw[e];rfl) ?_ (λρ ⟨kvs,s6,s7,_,hv,e⟩=>hM ρ ⟨kvs,s6,s7,hv,e⟩) ⟨[],s6,s7,zS _,(λt h=>by cases h),rfl⟩⟩;rintro k p _ M2 hp ⟨kvs,s6,s7,hl,hv,rfl⟩ hM2;have hk:=(kt.mp hp).1;refine rz (d1:=nD p.1) (d2:=nD p.2) ?_;have l1:=pD kvs (.inl ((p.1:Nat):Int)) (.bl true);have l2:=pD (putD kvs (.inl ((p.1:Nat):Int)) (.bl true)) (.inl ((p.2:Nat):Int)) (.bl true);refine⟨by omega,by omega,hM2 _ ⟨_,_,_,by omega,λt ht=>?_,rfl⟩⟩;by_cases h2:t=p.2
  ·exact⟨p,wp hp,.inr h2⟩
  by_cases h1:t=p.1
  ·exact⟨p,wp hp,.inl h1⟩
  refine hv t ?_;rw[pb,if_neg (λz=>by injection z with z;omega),pb,if_neg (λz=>by injection z with z;omega)]at ht;exact ht
 rintro _ ⟨kvs,s6,s7,hv,rfl⟩;have er:rngD 0 (((natsD (js.foldl aF (aJ m))).length:Nat):Int).toNat=(wr (m+js.length)).map nD:=by
  rw[aQ,hL,show((m+js.length:Nat):Int).toNat=m+js.length by omega];exact By λx _=>congrArg D.int (by show(0:Int)+(x:Int)=_;omega)
 refine cutS (λρ=>∃L:List Nat,(∀t∈L,t<m+js.length)/\m+js.length - 1∈L/\L.length<=52/\ρ=[.tp n',nv m,.ow (natsD (js.foldl aF (aJ m))),.ow (js.map L2.aN),nv cl,s5,s6,s7,.dk kvs,.ow (natsD L)]) (λM hM=>?_) ?_
 ·refine⟨⟨by omega,by rw[aQ,hL];omega⟩,by rw[cp,aQ,hL];omega,?_⟩;show eP _ _ _ _ _ _ _ (rngD 0 (((natsD (js.foldl aF (aJ m))).length:Nat):Int).toNat) [] _;rw[er];refine mW nD (λ(t:Nat)=>!(valD kvs (.inl (t:Int))).isSome) nD trivial (λt acc N2 ht hN2=>?_) ?_
  ·cases h:(valD kvs (.inl (t:Int))).isSome <;> rw[h]at hN2
   ·show if(!(valD kvs (.inl (t:Int))).isSome)=true then _ else _
    rw[h];exact hN2
   ·show if(!(valD kvs (.inl (t:Int))).isSome)=true then _ else _
    rw[h];exact hN2
  refine hM _ ⟨(wr (m+js.length)).filter λ(t:Nat)=>!(valD kvs (.inl (t:Int))).isSome,λt ht=>Ah.mp (Ao.mp ht).1,Ao.mpr ⟨Ah.mpr (by omega),?_⟩,zQ (E4 _ _) (by rw[B8];omega),rfl⟩;cases h:(valD kvs (.inl ((m+js.length - 1:Nat):Int))).isSome with
  | false=>rfl
  | true =>
   obtain⟨p,hp,h⟩:=hv _ h;obtain⟨j,ej⟩:=Cm hp;have lt:=(kt.mp ej).1;obtain⟨a,b⟩:=cq hix ej;omega
 rintro _ ⟨L,hLl,hLm,hLn,rfl⟩;refine cutS (λρ=>∃os n2,(∀o∈os,o<m+js.length)/\1<=os.length/\n2<=n+200/\ρ=[.tp n2,nv m,.ow (natsD (js.foldl aF (aJ m))),.ow (js.map L2.aN),nv cl,s5,s6,s7,.dk kvs,.ow (natsD os)]) (λM hM=>?_) ?_
 ·refine⟨rfl,n',5,rfl,by omega,Dv.small (by decide) (by decide),λoc hoc=>⟨⟨by omega,by omega⟩,by rw[cp];omega,?_⟩⟩;refine dJ (λk acc ρ=>∃os,acc=natsD os/\os.length=k/\(∀o∈os,o<m+js.length)/\ρ=[.tp (n'+1+k),nv m,.ow (natsD (js.foldl aF (aJ m))),.ow (js.map L2.aN),nv cl,s5,s6,s7,.dk kvs,.ow (natsD L)]) (λ_ _ _ _ _=>trivial) ?_ ?_ _ ⟨[],rfl,rfl,λ_ h=>(nomatch h),rfl⟩
  ·rintro k d acc _ N hk ⟨os,rfl,ho,hos,rfl⟩ hN;obtain⟨lt,rfl⟩:=k9 hk;refine⟨rfl,n'+1+k,_,rfl,by omega,Dv.small ?_ ?_,λo ho'=>?_⟩
   ·rw[aQ,hL];omega
   ·rw[aQ,hL];omega
   rw[aQ,hL]at ho';refine hN _ _ ⟨os++[o],by rw[bV],by rw[pc,ho];rfl,λx hx=>?_,rfl⟩;rcases Bc.mp hx with h | h
   ·exact hos x h
   ·rw[Ac.mp h];omega
  ·rintro acc _ ⟨os,rfl,ho,hos,rfl⟩;rw[cp]at ho;refine⟨by rw[aQ,aQ];omega,hM _ ⟨L++os,n'+1+os.length,λo h=>?_,?_,by omega,?_⟩⟩
   ·rcases Bc.mp h with h | h
    ·exact hLl o h
    ·exact hos o h
   ·have:=List.length_pos_of_mem hLm;rw[pc];omega
   ·rw[mB,cp,ho];rfl
 rintro _ ⟨os,n2,hos,ho1,hn2,rfl⟩;have e12:L2.cutD (natsD os) none (some ((12:Nat):Int))=natsD (os.take 12):=by
  rw[tM];unfold natsD;rw[Gu]
 show(3<=1000000)/\q (.d (.tup [nD m,.tup (js.map L2.aN),.tup (L2.cutD (natsD os) none (some ((12:Nat):Int)))])) _;rw[e12];refine⟨by omega,hq ⟨m,js,os.take 12⟩ n2 ⟨m1,m12,by show js.length<=132;omega,hok,?_,?_,λo ho=>hos o (List.mem_of_mem_take ho)⟩ ?_ hjl (by omega)⟩
 ·show 1<=(os.take 12).length;rw[Az];omega
 ·show(os.take 12).length<=24;rw[Az];omega
 ·show(os.take 12).length<=12;rw[Az];omega
end
theorem pR {N:Net}(hN:cf N):(∃s:Str,(s = "many" ∨ s = "loose")/\ltD N = .tup [.str s,.non])∨(jL N=false/\ltD N = .tup [.str "nought",.non])∨(TuF N/\N.os.length<=12/\ltD N = .tup [.str "net",netD (bx N)]):=by
 unfold ltD;by_cases hs:N.os.length<=12/\N.js.length+N.os.length<=N.m+132
 ·rw[if_neg (not_not_intro hs)];split
  ·rename_i i hf;obtain⟨hi,pre,hno⟩:=lH hf;by_cases hE:stU N i=[]
   ·rw[if_pos hE];exact .inl ⟨_,.inr rfl,rfl⟩
   ·rw[if_neg hE];refine .inr (.inl ⟨CS.mpr λz=>?_,rfl⟩);exact hno (qa hN ((iW (il hN)).mp z) hi pre hE)
  ·rename_i hf;exact .inr (.inr ⟨rD hN (lI hf) hs.1 hs.2,hs.1,rfl⟩)
 ·rw[if_pos hs];exact .inl ⟨_,.inl rfl,rfl⟩
theorem uJ {N:Net}(hN:cf N)(F:TuF N):(jL N=false/\ltD (bx N) = .tup [.str "nought",.non]) ∨ ∃T',ltD (bx N) = .tup [.str "net",netD T']/\cf T'/\fG T'=fG N/\T'.js.length=N.js.length:=by
 have jl:=F.jl;have ol:=F.ol;have nj:=hN.jl;have m12:=hN.m12;have em:=iy N;unfold ltD;rw[if_neg (not_not_intro ⟨by omega,by omega⟩)];split
 ·rename_i i hf;obtain⟨hi,pre,hno⟩:=lH hf;have hE:=F.use i hi;rw[if_neg hE];refine .inl ⟨CS.mpr λz=>?_,rfl⟩;exact hno (qa F.net (F.cl.mpr ((iW (il hN)).mp z)) hi pre hE)
 ·rename_i hf;have F2:=rD F.net (lI hf) (by omega) (by omega);refine .inr ⟨_,rfl,F2.net,?_,by have:=F2.jl;omega⟩;rw[F2.made,F.made,em,<- lz N];exact xt (wU hN)
theorem zu {N:Net}(hN:cf N)(F:TuF N):jL (bx N)=jL N:=by
 rw[Db,iW (il F.net),iW (il hN)];exact F.cl
theorem xu {N:Net}(F:TuF N):∀k,k<N.m->colN (fG N) k≠0:=λk hk=>by
 have h:=congrArg (λxs:List Nat=>xs.getD k 0) F.made;have h:(fG (bx N)).getD k 0=(cV N.m (fG N)).getD k 0:=h;rw[p_ _ hk,sO (by rw[F.ol];exact hk)]at h;rw[<- h];exact uy F.net.js _ (wJ F.net (by rw[F.ol];exact hk))
theorem vP {a n:Nat}(h:a<2^n):a ^^^ (1 <<< n)=a+2^n:=by
 have e2:2^n+a=2^n ||| a:=by
  have:=Nat.two_pow_add_eq_or_of_lt h 1;rwa [G5]at this
 rw[Cb,Nat.add_comm,e2];refine Bs λi=>?_;rw[BZ,Gs,Dx];by_cases e:n=i
 ·subst e;rw[E1 h];simp
 ·simp[e]
theorem iZ (p:Nat->Bool):∀n:Nat,(((wr n).filter p).map λk=>2^k).sum=dR ((wr n).filter p)
 | 0=>rfl
 | n+1=>by
  rw[A4,AU];have lt:dR ((wr n).filter p)<2^n:=uA λk hk=>Ah.mp (Ao.mp hk).1;cases e:p n with
  | true =>
   rw[show[n].filter p=[n]by simp[e],zW,Gb,iZ p n,ib,vP lt];simp
  | false =>
   rw[show[n].filter p=[]by simp[e],Bo,iZ p n]
theorem yX (a k:Nat):eqD (.int (BL ((a:Int) / 2^((k:Int).toNat)) 1)) (.int 1)=a.testBit k:=by
 rw[tX];cases a.testBit k <;> simp[eqD]
theorem qj (m:Nat)(rows:List Nat):(rh m rows).depth<=60:=by
 have:=jG rows;unfold rh;simp only[D.depth,depths,nD];omega
theorem pf:∀(xs:List Nat),(xs.map λp=>((2^p:Nat):Int)).sum=((xs.map λp=>2^p).sum:Nat)
 | []=>rfl
 | x::xs=>by rw[wl,Dy,pf xs,wl,Dy,Int.natCast_add]
section
variable {P:wE}{w:z8}{K:ac}{mg:Str->Option bd}{base:Heap}
theorem yn (dn:DefN K mg "law" r6 ["_law_script"])(B:BI mg)(gC8:OkN P w K mg base 1 "_law_tape" ["_law_script"] (spA K xB))(gC1:OkN P w K mg base 2 "_law_net_used" ["_law_tape_here"] (spA K t9))(gB9:OkN P w K mg base 5 "_law_turned" ["_law_net"] (spA K lX))(gB4:OkN P w K mg base 4 "is_clean" ["net"] (spA K lY))(gC0:OkN P w K mg base 4 "made_by" ["net"] (spA K o8))(gC2:OkN P w K mg base 4 "turned_wish" ["wish"] (spA K xA))(gD6:OkN P w K mg base 4 "is_net" ["thing"] (spA K uc)):OkN P w K mg base 6 "law" ["_law_script"] (spA K SLaw):=by
 refine dn.aok2 (k:=5) gj (λj=>j==0) [.un,.un,.un,.un,.un,.un,.un,.un] SLaw rfl (λf cdv A outer s H E hr=>have hu:=cM hr;⟨_,(aA (bo (i:=1) gj.nd rfl (by first | exact Or.inl rfl | exact Or.inr rfl) (bC gC8 (hr.mono (by decide)) (aj (pv 0) ar)))
  (aA (gV A_ rfl (cz rfl B.range_ (aj aX ar)) (aL (i:=2) gj.nd rfl (by first | exact Or.inl rfl | exact Or.inr rfl))
  (aA (bo (i:=3) gj.nd rfl (by first | exact Or.inl rfl | exact Or.inr rfl) (bC gC1 (hr.mono (by decide)) (aj (pv 1) ar)))
  (aA (eA (bC gB9 (hr.mono (by decide)) (aj (pv 3) ar)) (bO K (n:=2) rfl (aM (aL (i:=4) gj.nd rfl (by first | exact Or.inl rfl | exact Or.inr rfl)) (aM (aL (i:=5) gj.nd rfl (by first | exact Or.inl rfl | exact Or.inr rfl)) bN))))
  (aA (eh (PW.pt (mj (bz (gk K hr.units) (pv 4) cj (bJ _)) (jd (je (bC gB4 (hr.mono (by decide)) (aj (pv 3) ar))))))
  (aV (bH gX))
  bU)
  (aV (eh (bz (gk K hr.units) (pv 4) cj (bJ _))
  (aA (bo (i:=6) gj.nd rfl (by first | exact Or.inl rfl | exact Or.inr rfl) (bC gC0 (hr.mono (by decide)) (aj (pv 3) ar)))
  (aA (pF (i:=7) ["_law_k"] [6] gj.nd rfl (by first | exact Or.inl rfl | exact Or.inr rfl) rfl (BlkC.of (aI r6) vB) (cz rfl B.range_ (aj (bE (aT K) (pv 3) aX (λ_ _=>rfl)) ar)) (λ_ _ _ _ nd=>(aL (i:=0) nd rfl (by first | exact Or.inl rfl | exact Or.inr rfl))) (λ_ _ _ _=>dZ) (λ_ _ _ _=>(aS (tS K rfl) rfl B.sum_ yU (aj (fA ["_law_place"] [1,0] rfl (Blk.inC (aI r6) ["_law_k", "_law_made"]) (cz rfl B.range_ (aj (aS (aU K) rfl B.len_ bF (aj (pv 1) ar)) ar)) (λ_ _ _ _ nd=>(aL (i:=0) nd rfl (by first | exact Or.inl rfl | exact Or.inr rfl))) (λ_ _ _ _=>(nU (bz (gk K hr.units) (bA pN (bA vz (bE (aT K) (pv 1) (pv 0) (λ_ _=>rfl)) (pv 2)) aX) aX (bJ _)))) (λ_ _ _ _=>(bA pM aX (pv 0)))) ar))))
  (aA (eh (PW.pt (jV (iC (je (bC gD6 (hr.mono (by decide)) (aj (pv 5) ar)))) (jV (bz (fC K hr.units) (bE (aT K) (pv 5) aX (λ_ _=>rfl)) (aS (aU K) rfl B.len_ bF (aj (pv 6) ar)) (bJ _)) (gQ (bz (fC K hr.units) (bC gC0 (hr.mono (by decide)) (aj (pv 5) ar)) (pv 7) (bJ _))))))
  (aV (bH gX))
  bU)
  (aA (eh (PW.pt (jV (bz (fC K hr.units) (aS (aU K) rfl B.len_ bF (aj (bE (aT K) (pv 5) aX (λ_ _=>rfl)) ar)) (bA e_ (bA cn (aS (aU K) rfl B.len_ bF (aj (bE (aT K) (pv 3) aX (λ_ _=>rfl)) ar)) (aS (aU K) rfl B.len_ bF (aj (pv 6) ar))) (bE (aT K) (pv 3) aX (λ_ _=>rfl))) (bJ _)) (gQ (bz (fC K hr.units) (bC gB4 (hr.mono (by decide)) (aj (pv 3) ar)) (bC gB4 (hr.mono (by decide)) (aj (pv 5) ar)) (bJ _)))))
  (aV (bH gX))
  bU)
  (aA (eh (bz (fC K hr.units) (bC gC2 (hr.mono (by decide)) (aj (iD (aj (bE (aT K) (pv 3) aX (λ_ _=>rfl)) (aj (di (cD K) rfl B.tuple_ dW (aj (pv 6) ar)) ar))) ar)) (iD (aj (aS (aU K) rfl B.len_ bF (aj (pv 6) ar)) (aj (di (cD K) rfl B.tuple_ dW (aj (pv 7) ar)) ar))) (bJ _))
  (aV (bH gX))
  bU)
  (aA (eA (bC gB9 (hr.mono (by decide)) (aj (pv 5) ar)) (bO K (n:=2) rfl (aM (aL (i:=4) gj.nd rfl (by first | exact Or.inl rfl | exact Or.inr rfl)) (aM (aL (i:=8) gj.nd rfl (by first | exact Or.inl rfl | exact Or.inr rfl)) bN))))
  (aA (eh (PW.pt (mj (bz (fC K hr.units) (pv 4) cj (bJ _)) (jd (PW.pt (jV (bz (fC K hr.units) (pv 4) cj (bJ _)) (gQ (je (bC gB4 (hr.mono (by decide)) (aj (pv 3) ar)))))))))
  (aV (bH gX))
  bU)
  (aV (eh (PW.pt (mj (bz (gk K hr.units) (pv 4) cj (bJ _)) (jd (PW.pt (jV (bz (fC K hr.units) (bC gC0 (hr.mono (by decide)) (aj (pv 8) ar)) (pv 6) (bJ _)) (gQ (bz (fC K hr.units) (aS (aU K) rfl B.len_ bF (aj (bE (aT K) (pv 8) aX (λ_ _=>rfl)) ar)) (aS (aU K) rfl B.len_ bF (aj (bE (aT K) (pv 3) aX (λ_ _=>rfl)) ar)) (bJ _))))))))
  (aV (bH gX))
  bU)))))))))
  bU))))))
  (aV (bH gX)))),(aw (bb (aK (aa af aq)) rfl)
  (aw (cS (pin:=(λ_=>false)) (cx (aa aO aq)) (az rfl)
  (aw (bb (aK (aa af aq)) rfl)
  (aw (cT (aK (aa af aq)) (bD (aD (az rfl) (aD (az rfl) bj (λ_ _ _=>aY)) (λ_ _ _=>aY))))
  (aw (cg (iS (a_ (aG gm af eF)) (iz (aK (aa af aq))))
  (br dP)
  ba)
  (cg (a_ (aG gm af eF))
  (aw (bb (aK (aa af aq)) rfl)
  (aw (kY (cA (cx (aa (aG bg af aO) aq)) (az rfl) dv (be u1 (aa (cA (cx (aa (be aZ (aa af aq)) aq)) (az rfl) (a_ (aG gm (aG bc (aG ig (aG bg af af) af) aO) aO)) (aG ig aO af)) aq))) rfl)
  (aw (cg (dX (dO (iz (aK (aa af aq)))) (dX (a_ (aG fD (aG bg af aO) (be aZ (aa af aq)))) (a_ (aG fD (aK (aa af aq)) af))))
  (br dP)
  ba)
  (aw (cg (dX (a_ (aG fD (be aZ (aa (aG bg af aO) aq)) (aG bc (aG bc (be aZ (aa (aG bg af aO) aq)) (be aZ (aa af aq))) (aG bg af aO)))) (a_ (aG fD (aK (aa af aq)) (aK (aa af aq)))))
  (br dP)
  ba)
  (aw (cg (a_ (aG fD (aK (aa (fo (aa (aG bg af aO) (aa (be cW (aa af aq)) aq))) aq)) (fo (aa (be aZ (aa af aq)) (aa (be cW (aa af aq)) aq)))))
  (br dP)
  ba)
  (aw (cT (aK (aa af aq)) (bD (aD (az rfl) (aD (az rfl) bj (λ_ _ _=>aY)) (λ_ _ _=>aY))))
  (aw (cg (iS (a_ (aG fD af eF)) (dX (a_ (aG fD af eF)) (iz (aK (aa af aq)))))
  (br dP)
  ba)
  (cg (iS (a_ (aG gm af eF)) (dX (a_ (aG fD (aK (aa af aq)) af)) (a_ (aG fD (be aZ (aa (aG bg af aO) aq)) (be aZ (aa (aG bg af aO) aq))))))
  (br dP)
  ba))))))))
  ba)))))
  (br dP)))⟩) ?_
 rintro ss q ⟨ns,hl,rfl,hq⟩;refine⟨rfl,rfl,rfl,ns,rfl,?_⟩;dsimp only[stS,pt,back,R.frz];have dI:∀ {i:Int},D.depth (.int i)<=60:=λ{i}=>by simp[D.depth]
 have dS:∀ {s:Str},D.depth (.str s)<=60:=λ{s}=>by simp[D.depth]
 refine cutS (λρ=>∃s1 s2 s3 s4 s5 s6 s7 s8,ρ=[.sc ns,s1,s2,s3,s4,s5,s6,s7,s8]) (λM hM=>⟨⟨by omega,by omega⟩,?_⟩) ?_
 ·refine p0 (λk ρ=>∃n s2 s3 s4 s5 s6 s7 s8,n<=5000*k/\ρ=[.sc ns,.tp n,s2,s3,s4,s5,s6,s7,s8]) (λ_ _ _=>trivial) ?_ (λρ ⟨n,s2,s3,s4,s5,s6,s7,s8,_,e⟩=>hM ρ ⟨_,s2,s3,s4,s5,s6,s7,s8,e⟩) ⟨0,.un,.un,.un,.un,.un,.un,.un,by omega,rfl⟩;rintro k _ M1 hk ⟨n,s2,s3,s4,s5,s6,s7,s8,hn,rfl⟩ hM1;have hk3:k<3:=hk;rw[CK];refine cutS (λρ=>∃N n1,cf N/\N.os.length<=12/\N.js.length<=40/\n1<=5000*k+1000/\ρ=[.sc ns,.tp n1,nv k,.vl (netD N),s4,s5,s6,s7,s8]) (λM2 hM2=>⟨rfl,n,rfl,by omega,λN n1 h1 h2 h3 h4=>hM2 _ ⟨N,n1,h1,h2,h3,by omega,rfl⟩⟩) ?_;rintro _ ⟨N,n1,hN,ho12,hj40,hn1,rfl⟩;have ixN:=il hN;have m12:=hN.m12;refine cutS (λρ=>∃d4 d5,ltD N = .tup [d4,d5]/\ρ=[.sc ns,.tp n1,nv k,.vl (netD N),.vl d4,.vl d5,s6,s7,s8]) (λM2 hM2=>⟨rfl,N,rfl,hN,?_⟩) ?_
  ·rcases pR hN with⟨s,_,e⟩ | ⟨_,e⟩ | ⟨_,_,e⟩ <;> (rw[e];exact rz (hM2 _ ⟨_,_,e,rfl⟩))
  rintro _ ⟨d4,d5,e45,rfl⟩;rcases pR hN with⟨s,hs,e⟩ | ⟨hcl,e⟩ | ⟨F,_,e⟩
  ·rw[e]at e45;injection e45 with e45;injection e45 with e4 e5;subst e4;refine bX (b:=false) rfl rfl dS (by rcases hs with rfl | rfl <;> rfl) (bX (b:=false) rfl rfl dS (by rcases hs with rfl | rfl <;> rfl) (hM1 _ ⟨n1,_,_,_,_,_,_,_,by omega,rfl⟩))
  ·rw[e]at e45;injection e45 with e45;injection e45 with e4 e5;subst e4;refine bX (b:=true) rfl rfl dS rfl ⟨rfl,N,rfl,ixN,by omega,?_⟩;rw[hcl];exact bX (b:=false) rfl rfl dS rfl (hM1 _ ⟨n1,_,_,_,_,_,_,_,by omega,rfl⟩)
  rw[e]at e45;injection e45 with e45;injection e45 with e4 e5;injection e5 with e5 _;subst e4 e5;have jl:=F.jl;have ol:=F.ol;have em:=iy N;have ixT:=il F.net;have clE:=zu hN F;have no0:=xu F;have ag:=uJ hN F;have mdT:=F.made;have hNT:=F.net;refine bX (b:=false) rfl rfl dS rfl (bX (b:=true) rfl rfl dS rfl ?_);simp only[BB,if_false,if_true];refine cutS (λρ=>ρ=[.sc ns,.tp n1,nv k,.vl (netD N),.vl (.str "net"),.vl (netD (bx N)),.ow (natsD (fG N)),s7,s8]) (λM2 hM2=>⟨rfl,N,rfl,ixN,by omega,by omega,hN.os,hM2 _ rfl⟩) ?_;rintro _ rfl;have mlen:=lz N;generalize hWg:fG N=W at *;refine cutS (λρ=>ρ=[.sc ns,.tp n1,nv k,.vl (netD N),.vl (.str "net"),.vl (netD (bx N)),.ow (natsD W),.ow (natsD (cV N.m W)),s8]) (λM2 hM2=>?_) ?_
  ·refine iM (i:=0) (d:=nD N.m) rfl rfl ⟨⟨by omega,by omega⟩,by rw[cp];omega,g_ (λg=>nD (colN W g)) trivial (λg acc M3 hg hM3=>?_) ?_⟩
   ·rw[CK];refine⟨⟨by omega,by rw[aQ];omega⟩,by rw[cp,aQ];omega,?_⟩;have er:rngD 0 (((natsD W).length:Nat):Int).toNat=(wr W.length).map nD:=by
     rw[aQ,show((W.length:Nat):Int).toNat=W.length by omega];exact By λx _=>congrArg D.int (by show(0:Int)+(x:Int)=_;omega)
    show eP _ _ _ _ _ _ _ (rngD 0 (((natsD W).length:Nat):Int).toNat) [] _;rw[er];refine mW nD (λp=>(W.getD p 0).testBit g) (λp=>nD (2^p)) trivial (λp acc2 M4 hp hM4=>?_) ?_
    ·have hp':=Ah.mp hp;refine bq rfl hp' ⟨BC _,bX rfl rfl dI (yX (W.getD p 0) g) ?_⟩;cases eb:(W.getD p 0).testBit g with
     | false=>rw[eb]at hM4;exact hM4
     | true =>
      rw[eb]at hM4;refine⟨⟨by omega,by omega,by decide⟩,?_⟩;have e1:(1:Int)*2^((p:Int).toNat)=((2^p:Nat):Int):=by rw[i8,Cb]
      show M4 (acc2++[.int ((1:Int)*2^((p:Int).toNat))]) _;rw[e1];exact hM4
    ·have es:((((wr W.length).filter λp=>(W.getD p 0).testBit g).map λp=>((2^p:Nat):Int))).sum=((colN W g:Nat):Int):=by
      unfold colN;rw[<- iZ];exact pf _
     refine xk (ns:=((wr W.length).filter λp=>(W.getD p 0).testBit g).map λp=>((2^p:Nat):Int)) (by rw[AL];rfl) (λn hn=>?_) ?_ ?_
     ·obtain⟨p,_,rfl⟩:=Bh.mp hn;exact BC _
     ·rw[es];have:=yQ W g;have p12:2^W.length<=2^12:=Fm (by decide) (by omega);omega
     ·rw[es];exact hM3
   ·have e1:((wr ((N.m:Nat):Int).toNat).map λg=>nD (colN W g))=natsD (cV N.m W):=by rw[show((N.m:Nat):Int).toNat=N.m by omega];unfold cV natsD;rw[AL];rfl
    rw[e1];exact hM2 _ rfl
  rintro _ rfl;refine cutS (λρ=>ρ=[.sc ns,.tp n1,nv k,.vl (netD N),.vl (.str "net"),.vl (netD (bx N)),.ow (natsD W),.ow (natsD (cV N.m W)),s8]) (λM2 hM2=>⟨rfl,netD (bx N),rfl,?_⟩) ?_
  ·rw[wQ hNT];refine iM (i:=0) (d:=nD N.os.length) rfl rfl (bX (b:=true) rfl rfl dI (by rw[aQ,mlen];exact cQ _) ⟨rfl,bx N,rfl,ixT,by omega,by omega,hNT.os,?_⟩);rw[show(bx N).os.map (λo=>(cU (bx N)).getD o 0)=fG (bx N)from rfl,mdT];exact bX (b:=true) rfl rfl (jH _) (cQ _) (hM2 _ rfl)
  rintro _ rfl;refine cutS (λρ=>ρ=[.sc ns,.tp n1,nv k,.vl (netD N),.vl (.str "net"),.vl (netD (bx N)),.ow (natsD W),.ow (natsD (cV N.m W)),s8]) (λM2 hM2=>?_) ?_
  ·refine iM (i:=1) (d:=.tup ((bx N).js.map L2.aN)) rfl rfl (iM (i:=1) (d:=.tup (N.js.map L2.aN)) rfl rfl (iM (i:=0) (d:=nD N.m) rfl rfl (bX (b:=true) rfl rfl dI ?_ ⟨rfl,N,rfl,ixN,by omega,rfl,bx N,rfl,ixT,by omega,?_⟩)))
   ·rw[im,im,aQ,mlen];show eqD (D.int _) (D.int ((N.js.length:Int)+(N.os.length:Int) - (N.m:Int)))=true;rw[show(N.js.length:Int)+(N.os.length:Int) - (N.m:Int)=(((bx N).js.length:Nat):Int)by omega];exact cQ _
   ·rw[clE];exact bX (b:=true) rfl rfl (by simp[D.depth]) (cQ _) (hM2 _ rfl)
  rintro _ rfl;refine cutS (λρ=>ρ=[.sc ns,.tp n1,nv k,.vl (netD N),.vl (.str "net"),.vl (netD (bx N)),.ow (natsD W),.ow (natsD (cV N.m W)),s8]) (λM2 hM2=>?_) ?_
  ·refine iM (i:=0) (d:=nD N.m) rfl rfl ⟨by simp,rfl,N.m,W,rfl,m12,by omega,no0,by simp,?_⟩;rw[aQ];exact bX (b:=true) rfl rfl (qj _ _) (cQ _) (hM2 _ rfl)
  rintro _ rfl;refine cutS (λρ=>∃d4 d8,ltD (bx N) = .tup [d4,d8]/\ρ=[.sc ns,.tp n1,nv k,.vl (netD N),.vl d4,.vl (netD (bx N)),.ow (natsD W),.ow (natsD (cV N.m W)),.vl d8]) (λM2 hM2=>⟨rfl,bx N,rfl,hNT,?_⟩) ?_
  ·rcases ag with⟨_,e⟩ | ⟨T',e,_⟩ <;> (rw[e];exact rz (hM2 _ ⟨_,_,e,rfl⟩))
  rintro _ ⟨d4,d8,e48,rfl⟩;rcases ag with⟨hcl,e2⟩ | ⟨T',e2,hT',md',jl'⟩
  ·rw[e2]at e48;injection e48 with e48;injection e48 with e4 e5;subst e4;refine bX (b:=false) rfl rfl dS rfl (bX (b:=true) rfl rfl dS rfl ⟨rfl,N,rfl,ixN,by omega,?_⟩);rw[hcl];exact bX (b:=false) rfl rfl dS rfl (hM1 _ ⟨n1,_,_,_,_,_,_,_,by omega,rfl⟩)
  ·rw[e2]at e48;injection e48 with e48;injection e48 with e4 e5;injection e5 with e5 _;subst e4 e5;have tj:=hT'.jl;have tm:=hT'.m12;have t24:=hT'.o24;refine bX (b:=true) rfl rfl dS rfl (bX (b:=true) rfl rfl dS rfl ⟨rfl,T',rfl,il hT',by omega,by omega,hT'.os,?_⟩);rw[show T'.os.map (λo=>(cU T').getD o 0)=fG T' from rfl,md'];refine bX (b:=true) rfl rfl (jH _) (cQ _) (iM (i:=1) (d:=.tup (T'.js.map L2.aN)) rfl rfl (iM (i:=1) (d:=.tup (N.js.map L2.aN)) rfl rfl (bX (b:=true) rfl rfl dI ?_ (hM1 _ ⟨n1,_,_,_,_,_,_,_,by omega,rfl⟩))));rw[im,im,jl'];exact cQ _
 rintro _ ⟨s1,s2,s3,s4,s5,s6,s7,s8,rfl⟩;exact hq _
abbrev DS (K:ac)(mg:Str->Option bd):Prop:=DefN K mg "is_whole" h_ ["thing", "least", "most"]/\DefN K mg "is_tuple" ia ["thing", "least", "most"]/\DefN K mg "row_of" k6 ["givens"]/\DefN K mg "joined" k7 ["one", "other"]/\DefN K mg "crossed" fv ["many", "rows"]/\DefN K mg "is_net" k8 ["thing"]/\DefN K mg "are_joins" gw ["many", "joins"]/\DefN K mg "is_join" jb ["rows", "join"]/\DefN K mg "are_outs" fR ["things", "outs"]/\DefN K mg "own_rows" fO ["many"]/\DefN K mg "joining" ja ["one", "other"]/\DefN K mg "all_words" gy ["net", "words"]/\DefN K mg "words_of" fN ["net", "words"]/\DefN K mg "rows_of" i9 ["net"]/\DefN K mg "made_by" i_ ["net"]/\DefN K mg "is_clean" fQ ["net"]/\DefN K mg "turned_wish" eJ ["wish"]/\DefN K mg "turned_net" bT ["net"]/\DefN K mg "out_uses" fP ["net"]/\DefN K mg "joined_uses" cI ["thing", "uses", "rows", "made"]/\DefN K mg "_law_tape" h8 ["_law_script"]/\DefN K mg "_law_draw" h9 ["_law_tape_here", "_law_many"]/\DefN K mg "_law_net_used" cc ["_law_tape_here"]/\DefN K mg "_law_turned" fu ["_law_net"]/\DefN K mg "law" r6 ["_law_script"]/\(∃u,mg "MOST_GIVENS" = some u/\RelV (.int 12) u)/\(∃u,mg "MOST_JOINS" = some u/\RelV (.int 132) u)/\(∃u,mg "MOST_OUTS" = some u/\RelV (.int 24) u)
theorem fin (ds:DS K mg)(xf:XF K mg)(B:BI mg):OkN P w K mg base 6 "law" ["_law_script"] (wg K):=by
 obtain⟨a0,a1,a2,a3,a4,a5,a6,a7,a8,a9,b0,b1,b2,b3,b4,b5,b6,b7,b8,b9,c0,c1,c2,c3,c4,c5,c6,c7⟩:=ds;obtain⟨gA0,v6,v4,gA1,f_Loose,f_Nought,m_Loose,m_JoinError,m_Nought,m_TooMany,in_Loose,bs_JoinError,in_Nought,e_TooMany,ea_Nought,s_TooMany_Nought,ea_Loose,s_TooMany_Loose,ea_TooMany,s_TooMany_TooMany,s_Loose_Nought,s_Loose_Loose,s_Nought_Nought⟩:=xf
 exact
 have c8:=n_ c0 B
 have c9:=og c1 B
 have d0:=sH a3 B
 have d1:=n6 a9 B
 have d2:=mx b1 B d0
 have d3:=n5 b2 B d2
 have d4:=qA b3 B d2 d1
 have d5:=qB b4 B d3 d1
 have d6:=oh a0 B
 have d7:=oj a1 B
 have d8:=qD a7 B d7 d6
 have d9:=mw a6 B d1 d7 d8 d0 c6
 have e0:=oo a8 B d7 d6 c7
 have e1:=sI a5 B d7 d6 d9 e0 c5
 have e2:=qC b0 B
 have e3:=om b5 B d4
 have e4:=n9 b8 B
 have e5:=jX b9 B e2 d0
 have e6:=lr b7 B e4 d1 e5 c5 c6
 have e7:=fF m_Loose m_JoinError in_Loose bs_JoinError b9 B e2 d0
 have e8:=fj m_Nought m_JoinError in_Nought bs_JoinError b9 B e2 d0
 have e9:=fi m_TooMany e_TooMany b7 B c5 c6
 have f0:=f_ m_Loose m_JoinError in_Loose bs_JoinError b7 B e4 d1 e5 e7 c5 c6
 have f1:=fE m_Nought m_JoinError in_Nought bs_JoinError b7 B e4 d1 e5 e8 c5 c6
 have f2:=sG a2 B d0
 have f3:=qE a4 B f2
 have f4:=jW b6 B f3 c5
 have f5:=lu m_TooMany m_Loose m_Nought ea_Nought s_TooMany_Nought ea_Loose s_TooMany_Loose ea_TooMany s_TooMany_TooMany s_Loose_Nought s_Loose_Loose s_Nought_Nought c3 B e6 e9 f0 f1
 have f6:=jr c2 B c9
 have f7:=yn c4 B c8 f6 f5 e3 d5 f4 e1
 yu f7
end
end K45
namespace PySem.W.Fast
def tw6312027249441855271:=()
def tw17150728288572468717:=()
def tw1856414321636106322:=()
def tw4350841351290744427:=()
def tw14737135918024074484:=()
def tw18085026790973107329:=()
def tw13515627542310537489:=()
def tw1583106874210128798:=()
def tw9518149974316652905:=()
def tw12519154822025428924:=()
def tw6423895454645275335:=()
def tw1558060139716892104:=()
def tw6521014898648211170:=()
def tw10358161885091350305:=()
def tw1897288306249331306:=()
def tw14291806007768954288:=()
def tw1328169434212955040:=()
def tw12856114144011681737:=()
def tw11526632459382138036:=()
def tw16412525327741424283:=()
def tw12357652981632898005:=()
def tw15972162477118843390:=()
def tw5603227981277496658:=()
def tw3303578360477100386:=()
def tw512001713046261473:=()
def tw10998550186027082047:=()
def tw13644428790671699677:=()
def tw11181517501970005065:=()
def tw728480477497943429:=()
def tw9377849163222362043:=()
def tw16171811414498614892:=()
def tw16429867206483054423:=()
def tw15613825180812615836:=()
def tw5949678299931891353:=()
def tw10809964014380028341:=()
def tw16705037369404251287:=()
def tw17774443086432472715:=()
def tw8340907562385022495:=()
def tw9395729351265697628:=()
def tw3675573536182926753:=()
def tw9519128399139944706:=()
def tw9265312230549482900:=()
def tw16354841964235424229:=()
def tw4535839300978253191:=()
def tw1471755559893320317:=()
def tw12627978454254154166:=()
def tw3260105593552844917:=()
def tw12204629429983065636:=()
def tw9265214352274366115:=()
def tw16625680122118784257:=()
def tw13970356401896204630:=()
def tw11223476206935511982:=()
def tw9144736982863123725:=()
def tw16969642081065930254:=()
def tw10254710113462387462:=()
def tw1631033488786446847:=()
def tw4387341488213299303:=()
def tw6396160171867822719:=()
def tw12190474099867908989:=()
def tw4935480162146246524:=()
def tw290947720799984670:=()
def tw17820056079735975651:=()
def tw6236764185606629896:=()
def tw7644497324004075674:=()
def tw600679090866740317:=()
def tw12610857548742421455:=()
def tw13953217830864645376:=()
def tw15486545241175483197:=()
def tw1169796575553705802:=()
def tw7169010067617908116:=()
def tw11587672594360880580:=()
def tw2692326591370478401:=()
def tw735624658761559265:=()
def tw12859506242682604186:=()
def tw7525393442532388245:=()
def tw1404500141996072443:=()
def tw17546928363445073819:=()
def tw2284320153169824982:=()
def tw179208413575266975:=()
def tw9416316153905470663:=()
def tw17372128425358873101:=()
def tw12523597377478354406:=()
def tw12945797341970428134:=()
def tw14156876161096224140:=()
def tw11650165224932251049:=()
def tw1945803035321136316:=()
def tw1143426716723880006:=()
def tw8984245421594395284:=()
def tw1783196881993840590:=()
def tw8710082963950472316:=()
def tw9137142876641102507:=()
def tw5031608662156309906:=()
def tw5383513350388417713:=()
def tw10892516946856800739:=()
def tw147938850103693576:=()
def tw2824696976466820749:=()
def tw14584123402197269951:=()
def tw8319878618756251658:=()
def tw17010612945879464921:=()
def tw18311163562732623647:=()
def tw6128599399920650965:=()
def tw15180277201148201127:=()
def tw846520742519526426:=()
def tw9094956689203139557:=()
def tw4529779498873176324:=()
def tw7331626294878278369:=()
def tw17257274049196332820:=()
def tw18156913606925259011:=()
def tw3993811295852366658:=()
def tw5050485181559688844:=()
def tw1371414586358130342:=()
def tw16624288652552478390:=()
def tw7308348075471770270:=()
def tw14614750278452950995:=()
def tw3454704419634514321:=()
def tw13145906489552523318:=()
def tw8886069616402044627:=()
def tw397527842549519057:=()
def tw4994458812131115289:=()
def tw2480460892959552462:=()
def tw6263610102622406599:=()
def tw11211888881794250915:=()
def tw15696288663193836707:=()
def tw13266550944446056201:=()
def tw5527075427787741486:=()
def tw16885969286571007058:=()
def tw14656415183742843018:=()
def tw10574340552180851346:=()
def tw8290810036062535908:=()
def tw16874025358645838893:=()
def tw1339403339453702348:=()
def tw8669211333389525875:=()
def tw3681506065075590196:=()
def tw562732455912099890:=()
def tw7045184462009189189:=()
def tw12575524764291059481:=()
def tw7132487661600891284:=()
def tw6093303542819439260:=()
def tw452578960073231677:=()
def tw8959701064894304843:=()
def tw8846660024134114375:=()
def tw16844165314399503340:=()
def tw10129806572667215219:=()
def tw5616327601170825234:=()
def tw7948238126533597813:=()
def tw4888168750982006670:=()
def tw2026628523031498962:=()
def tw8078663173635638279:=()
def tw10211687959219533779:=()
def tw4002784410945503968:=()
def tw5226622497712624834:=()
def tw15776750017419422094:=()
def tw14175801489949254944:=()
def tw14696416640776842523:=()
def tw13380857316480120612:=()
def tw16513098092732687944:=()
def tw7540757041459970349:=()
def tw4158455167574553430:=()
def tw16340289611897132259:=()
def tw16975759219834252899:=()
def tw13372159418225676738:=()
def tw6534388677852784412:=()
def tw1984883392531194152:=()
def tw8407818044358071367:=()
def tw4283475182048768882:=()
def tw11950532011407800681:=()
def tw4464171617601208740:=()
def tw6989894897474201055:=()
def tw17413036035110893881:=()
def tw1849714182208700129:=()
def tw15169076878395874887:=()
def tw10187819916203132784:=()
def tw3697976544384136171:=()
def tw16105303162788872577:=()
def tw5323043470775361282:=()
def tw11537144933953432700:=()
def tw11550998271973934839:=()
def tw11489553355680355864:=()
def tw4841823883695681512:=()
def tw4223003811870802015:=()
def tw8149735653696893093:=()
def tw12039731212193159707:=()
def tw11573601813184507324:=()
def tw6484268710443719304:=()
def tw5599931897404675204:=()
def tw1759506998066710638:=()
def tw12766075880766712943:=()
def tw832759702139196860:=()
def tw13697783705781515272:=()
def tw10947176672095179394:=()
def tw9653062779172545637:=()
def tw8422194724118416945:=()
def tw8872856731368643837:=()
def tw14428681053358600366:=()
def tw4230803303801678978:=()
def tw786548796339710254:=()
def tw9669987804965169717:=()
def tw8426462795569666714:=()
def tw11586929688160806882:=()
def tw2111030620444193271:=()
def tw9465032423994765798:=()
def tw4267707962644524568:=()
def tw12083740777518449868:=()
def tw6759363269279674242:=()
def tw2284223527037611381:=()
def tw10562192351182741500:=()
def tw18427765707702301480:=()
def tw1717456417170751716:=()
def tw5955220418446467170:=()
def tw1302969304763883617:=()
def tw13811727961783156401:=()
def tw1924417865787694292:=()
def tw11654213308002608125:=()
def tw4900086053150329884:=()
def tw11578709234270209892:=()
def tw12135318367700845387:=()
def tw3640440657911725661:=()
def tw816006176769115898:=()
def tw15243288262363336136:=()
def tw2091485349374291717:=()
def tw12515674670980875057:=()
def tw3578838832052747758:=()
def tw2871015133231514051:=()
def tw2877348885896075824:=()
def tw4688889862817550782:=()
def tw7256529897430992953:=()
def tw2760627649592840209:=()
def tw14542263787810128152:=()
def tw13485875322785667902:=()
def tw2821875987242578583:=()
def tw13826105883866921448:=()
def tw4452215964201015162:=()
def tw13052751373071751830:=()
def tw10062016450015135857:=()
def tw8977126330712382586:=()
def tw10493063613409202363:=()
def tw18411339296461985547:=()
def tw701397992504074207:=()
def tw8396964746672844773:=()
def tw18391359055246269304:=()
def tw16728196954102994477:=()
def tw11610127014396573995:=()
end PySem.W.Fast
open PySem PySem.W PyProof.Rows
set_option maxRecDepth 100000 in
set_option maxHeartbeats 0 in
theorem PySem.Challenge.cw_fewjoins_k45_whole_turned_makes_the_turn_holds : PySem.Challenge.rw_fewjoins_k45_whole_turned_makes_the_turn.Holds := by
 w_on;o_law;k_head;(case hw=>w_witness2)
 k_fill
 refine L2.uj (l:=PySem.Challenge.rw_fewjoins_k45_whole_turned_makes_the_turn) (n:=63) (k:=6) (x := "_law_script") (CX:=L2.CX0) (sp:=L2.wg) rfl (by decide) rfl ⟨rfl,by decide,by decide,rfl⟩ (λw h Y=>PySem.W.kIn_of Y) ?F ?S ?C;case S=>exact λK H a ns hl hO hS=>⟨a,ns,rfl,hS,hl,λ_=>rfl⟩
 case C=>exact λH s e s' h=>h
 case F =>
  intro w mg fa h KX G hmg;have ds:K45.DS (L2.KOf KX) mg:=by
   dsimp only[L2.KOf];refine' ⟨?_,?_,?_,?_,?_,?_,?_,?_,?_,?_,?_,?_,?_,?_,?_,?_,?_,?_,?_,?_,?_,?_,?_,?_,?_,?_,?_,?_⟩
   iterate 25
    refine' L2.yP KX G ?a ?l ?c ?k ?u
    (case a=>k_is);(case l=>k_is);(case c=>k_is);(case k=>k_is)
    (case u=>first | exact(λ_ _ _ _ _ _ us hl=>match us,hl with | [_],_=>rfl) | exact(λ_ _ _ _ _ _ us hl=>match us,hl with | [_,_],_=>rfl) | exact(λ_ _ _ _ _ _ us hl=>match us,hl with | [_,_,_],_=>rfl) | exact(λ_ _ _ _ _ _ us hl=>match us,hl with | [_,_,_,_],_=>rfl))
   iterate 3
    refine' ⟨_,Cg KX G ?a,?b⟩
    (case a=>k_is);(case b=>exact⟨_,rfl⟩)
  have B:L2.BI mg:=by
   refine' L2.zv KX G ?_ ?_ ?_ ?_ ?_ ?_ ?_ ?_ ?_ ?_ ?_ ?_ ?_ ?_ ?_ ?_ ?_ ?_ ?_ ?_ ?_;all_goals k_is
  have xf:K45.XF (L2.KOf KX) mg:=by
   dsimp only[L2.KOf];refine' K45.XF.mk KX G ?f0 ?f1 ?f2 ?f3 ?f4_0 ?f4_1 ?f4_2 ?f4_3 ?f4_4 ?f4_5 ?f4_6 ?f4_7 ?f5_0 ?f5_1 ?f5_2 ?f6_0 ?f6_1 ?f6_2 ?f6_3 ?f6_4 ?f6_5 ?f6_6 ?f6_7 ?f7 ?f8 ?f9 ?f10 ?f11 ?f12 ?f13 ?f14 ?f15 ?f16
   (case f0=>k_is);(case f1=>k_is);(case f2=>k_is);(case f3=>k_is);(case f4_0=>k_is);(case f4_1=>k_is);(case f4_2=>k_is);(case f4_3=>k_is);(case f4_4=>kernel_rfl);(case f4_5=>k_is);(case f4_6=>k_is);(case f4_7=>k_is);(case f5_0=>k_is);(case f5_1=>k_is);(case f5_2=>k_is);(case f6_0=>k_is);(case f6_1=>k_is);(case f6_2=>k_is);(case f6_3=>k_is);(case f6_4=>kernel_rfl);(case f6_5=>k_is);(case f6_6=>k_is);(case f6_7=>k_is);(case f7=>k_exc);(case f8=>kernel_rfl);(case f9=>k_is);(case f10=>kernel_rfl);(case f11=>k_is);(case f12=>k_exc);(case f13=>k_is);(case f14=>k_is);(case f15=>k_is);(case f16=>k_is)
  have gD7:=ds.2.2.2.2.2.2.2.2.2.2.2.2.2.2.2.2.2.2.2.2.2.2.2.2.1;refine L2.wX gD7 hmg λbase=>?_;exact K45.fin ds xf B
#print axioms PySem.Challenge.cw_fewjoins_k45_whole_turned_makes_the_turn_holds

